import PyProof.Rows.All
import Wide.All
import OpenK.AllK
import Wide.FinOn
import Lean
import PyProof.EqAt
import PyProof.EqKinds
import PyProof.TupleCall
import PyProof.NeKinds
import PyProof.FactsAll.range_2
import PyProof.FactsAll.tuple_2
import PyProof.FactsAll.tuple_3
import PyProof.FactsAll.tuple
import PyProof.ListRange
import PyProof.ExcInit
import KE.KDictList
import PyProof.DictCompW
import PyProof.IsiNone
import PyProof.TupleKey
import PyProof.SetRoads
import PySem.Challenge.RW_starsieve_k36_which_orders_show_apart
set_option compiler.extract_closed false
set_option bootstrap.genMatcherCode false
set_option genSizeOf false
set_option Elab.async false
set_option maxRecDepth 100000
set_option tactic.hygienic false
noncomputable section
local macro_rules|`($x⁻¹)=>`(($x).length)
local macro_rules|`(tactic|show $x)=>`(tactic|refine $x)
local macro_rules|`(!2)=>`(by simp)
open Lean in
def pZ:Nat->TSyntax `term->MacroM (TSyntax `rcasesPat)
 |0,_=>Macro.throwUnsupported
 |n+1,t=>do
  match t with
  |`(⟨$a,*⟩)=>do
   let l←a.getElems.mapM λx=>do let p←pZ n x;`(Lean.Parser.Tactic.rcasesPatLo|$p:rcasesPat)
   `(rcasesPat|⟨$l,*⟩)
  |`(($b,$a,*))=>do
   let l←(#[b]++a.getElems).mapM λx=>do let p←pZ n x;`(Lean.Parser.Tactic.rcasesPatLo|$p:rcasesPat)
   `(rcasesPat|⟨$l,*⟩)
  |`($i:ident)=>`(rcasesPat|$i:ident)
  |`(_)=>`(rcasesPat|_)
  |_=>Macro.throwUnsupported
local macro_rules|`(tactic|let $p:term:=$e)=>do let q←pZ 9 p;`(tactic|obtain $q:rcasesPat:=$e)
local macro_rules|`(-$x)=>`(some $x)
def hY(v r:Lean.Syntax):Lean.MacroM Lean.Syntax:=do if (v.find? fun x=>x.isOfKind `Lean.Parser.Tactic.renameI||x.isOfKind `Lean.Parser.Tactic.«tacticNext_=>_»||x.isOfKind `Lean.Parser.Tactic.case).isSome then let r:Lean.TSyntax `command:=⟨r⟩;return ←`(set_option tactic.hygienic true in $r:command) else return r
local macro_rules|`(def $n:declId $s:optDeclSig $v:declVal)=>do hY v ((←`(noncomputable def $n:declId $s:optDeclSig $v:declVal)).raw.rewriteBottomUp (·.setInfo .none))
local macro_rules|`(abbrev $n:declId $s:optDeclSig $v:declVal)=>do return (←`(noncomputable abbrev $n:declId $s:optDeclSig $v:declVal)).raw.rewriteBottomUp (·.setInfo .none)
local macro_rules|`(theorem $n:declId $s:declSig $v:declVal)=>do
 if n.raw.getPos?.isNone then Lean.Macro.throwUnsupported
 hY v ((←`(theorem $n:declId $s:declSig $v:declVal)).raw.rewriteBottomUp (·.setInfo .none))
def nZf.{u}{a:Sort u}(h:false=true):a:=nomatch h
local macro_rules|`(~~~$x)=>`(($x).heap.objs.size)
local macro_rules|`(↥$x)=>`(PySem.wpAny (PySem.model ($x).prog ($x).w) ($x).A)
local macro_rules|`(!0)=>`(by lia)
local macro_rules|`(!1)=>`(by decide)
local macro_rules|`(!!$x)=>`(by simpa using $x)
local macro_rules|`(⇑$x)=>`(PySem.Str.ofString $x)
abbrev AA:=List Nat
abbrev AB:=List PySem.Value
abbrev AC:=List (PySem.Addr×PySem.Obj)
abbrev AD:=List PySem.Str
abbrev AE:=List PySem.Expr
abbrev AF:=List PySem.Stmt
abbrev AG:=PySem.Value->PySem.Shared->Prop
abbrev AH:=PySem.Str->Option PySem.Value
abbrev AI:=PySem.Shared
abbrev AJ:=PySem.FuncData
abbrev AK:=PySem.Program
abbrev AL:=String
abbrev AM:=PySem.Around
abbrev AN:=PySem.Value
abbrev AO:=PySem.Expr
abbrev AQ:=PySem.Addr
local macro_rules|`(tactic|rfl')=>`(tactic|kernel_rfl)
local macro_rules|`(tactic|ac_rfl)=>`(tactic|decide +kernel)
abbrev PF:=PySem.W.Frag
set_option linter.all false
namespace L2
open PySem PySem.Spec PyProof.Rows
def ab:=@PySem.wpAny_bind
def ae:=@List.length_map
def af:=@Bool.and_eq_true
def ag:=@PySem.Heap.get?_push_of_some
def ah:=@List.getElem?_eq_some_iff
def ai:=@PySem.wpAny_pure
def al:=@List.mem_singleton
def am:=@List.size_toArray
def ar:=@List.getElem?_eq_getElem
def av:=@Nat.le_refl
def aw:=@List.mem_append_right
def ax:=@List.length_append
def ay:=@PySem.Heap.lt_size
def aE:=@Option.map_eq_some_iff
def aI:=@PySem.Heap.get?_push_size
def aS:=@List.getElem?_map
def aT:=@List.mem_map
def a7:=@List.map_cons
def a8:=@beq_iff_eq
def a9:=@List.mem_cons_self
def ba:=@List.mem_append
def bg:=@Bool.false_ne_true
def bi:=@Option.some.injEq
def bm:=@List.mem_cons_of_mem
def bn:=@List.drop_eq_getElem_cons
def bo:=@decide_eq_true
def bp:=@Nat.lt_of_lt_of_le
def bq:=@decide_eq_false
def br:=@List.mem_cons
def bv:=@List.mem_of_getElem?
def bB:=@List.contains_iff_mem
def bP:=@List.getD_eq_getElem?_getD
def bS:=@List.all_eq_true
def bX:=@Nat.ne_of_lt
def b3:type_of% @Int.toNat_natCast:=@Int.toNat_natCast
def b4:=@List.length_range
def b5:=@Nat.le_trans
def b6:=@List.map_map
def b9:=@List.map_congr_left
def ca:type_of% @List.length_cons:=@List.length_cons
def cb:=@List.length_replicate
def ce:=@decide_eq_true_iff
def cf:=@List.map_append
def ci:=@Int.eq_ofNat_of_zero_le
def ck:=@Nat.zero_le
def cm:=@PySem.Heap.size_push
def cp:=@List.not_mem_nil
def cq:=@List.getElem_mem
def cr:type_of% @List.replicate_succ:=@List.replicate_succ
def cw:=@List.length_eq_zero_iff
def cy:type_of% @Array.length_toList:=@Array.length_toList
def cK:=@PySem.wpAny_holding
def cS:=@Option.isSome_iff_exists
def da:=@PyProof.Rows.slot_tuple_getitem
def db:=@List.nodup_cons
def dc:=@Nat.le_add_right
def de:=@List.length_take
def df:=@PySem.wpAny_mono
def dk:=@PySem.wpAny_callSpecial?_slot
def dn:=@PySem.wpAny_newObj_type
def dr:=@PySem.wpAny_field
def dy:=@beq_eq_false_iff_ne
def dA:=@List.mem_append_left
def dE:=@List.cons.injEq
def dL:=@List.append_nil
def dP:=@Bool.or_eq_true
def dQ:=@List.take_length
def dS:=@of_decide_eq_true
def d0:=@List.take_add_one
def d3:=@PySem.W.kia_one
def d4:=@Bool.eq_iff_iff
def d5:=@List.length_drop
def d6:=@List.drop_length
def ee:=@List.findIdx?_eq_some_iff_getElem
def eh:=@Nat.lt_succ_of_lt
def eA:=@PySem.mem_of_lookup
def eI:=@Option.some.inj
def eJ:=@List.length_set
def eK:=@List.eraseIdx_eq_take_drop_succ
def eL:=@List.getElem?_append_left
def eM:=@PySem.wpAny_truthy_bool
def eP:=@Array.getElem?_toList
def eR:=@PySem.F.called_set
def eS:=@List.findIdx?_cons
def eT:=@Nat.lt_irrefl
def eW:=@List.nodup_nil
def e6:=@List.mem_range
def e7:=@PySem.wpAny_call_entry
def e8:type_of% @List.flatten_cons:=@List.flatten_cons
def e9:=@List.mem_filter
def fb:=@congrArg
def fe:=@PyProof.Rows.callWith_type1
def ff:=@PySem.wpAny_pyIter_list
def fg:=@List.isEmpty_iff
def fh:=@PySem.F.slot_dict_keyiterator_next
def fi:=@Option.isNone_iff_eq_none
def fk:=@PySem.wpAny_setField_rec
def fm:=@PySem.wpAny_seqItems
def fo:=@Nat.pow_le_pow_right
def fq:=@List.append_assoc
def ft:type_of% @List.foldl_cons:=@List.foldl_cons
def fv:=@PySem.wpAny_standAt
def fw:=@PySem.wpAny_comprehension_free
def fx:=@Nat.ne_of_gt
def fy:=@Int.emod_lt_of_pos
def fA:=@List.forIn_cons
def fE:=@List.dropLast_concat_getLast
def fF:=@Int.emod_nonneg
def fN:=@PySem.wpAny_typeNameOfWhole_keyiter
def fR:=@PySem.sizeLine_eq
def fS:=@PySem.call_meets
def fT:=@PySem.wpAny_passesOwn
def gc:=@True.intro
def gd:=@Nat.le_succ
def ge:=@PySem.Paired.length
def gg:=@List.any_eq_true
def gi:=@Array.getElem?_eq_getElem
def gl:=@PyProof.Rows.F.plain_set_update_loop
def gt:=@PySem.F.slot_tuple_iterator_next
def gu:=@List.length_zip
def gv:=@List.getElem_range
def gx:type_of% @List.length_nil:=@List.length_nil
def gy:=@PySem.wpAny_typeNameOf_keyiter
def gz:=@List.take_of_length_le
def gE:=@List.map_nil
def gI:=@List.flatMap_cons
def gL:=@Int.zero_add
def gN:=@Bool.not_eq_true'
def gS:=@Bool.and_false
def gT:=@PySem.F.slot_int_rmul
def gV:=@List.cons_lt_cons_iff
def gX:=@Nat.lt_succ_self
def g0:=@List.cons.inj
def g9:=@PySem.wpAny_assign_Name
def hJ:=@PySem.Walks.list
def hU:type_of% @List.length_singleton:=@List.length_singleton
abbrev Key:=Sum Int Str
def jq:Key->AN->Bool
 |.inl k,v=>Value.isInt k v
 |.inr x,v=>Value.isStrOf x v
def Q4(w:World):Key->Int
 |.inl k=>hashInt k
 |.inr x=>hashStr w x
def fX:∀{k:Key}{v:AN},jq k v=true->(∃i t,k=Sum.inl i/\v=Value.int i t)\/(∃x t,k=Sum.inr x/\v=Value.str x t)
 |.inl i,v,h=>by
  let(t,e):=Value.isInt_shape (k:=i) (v:=v) h;exact .inl ⟨i,t,rfl,e⟩
 |.inr x,v,h=>by
  let(t,e):=Value.isStrOf_shape (x:=x) (v:=v) h;exact .inr ⟨x,t,rfl,e⟩
def Q5(i:Int)(t:Tok):jq (.inl i) (.int i t)=true:=by simp[jq,Value.isInt]
def Q6(x:Str)(t:Tok):jq (.inr x) (.str x t)=true:=by simp[jq,Value.isStrOf]
def Q7(a b:Int):decide ((Sum.inl a:Key)=Sum.inl b)=(a==b):=by
 by_cases e:a=b
 .subst e;simp
 .have h:¬(Sum.inl a:Key)=Sum.inl b:=λq=>e (Sum.inl.inj q);rw[bq h];exact(dy.mpr e).symm
def Q8(a b:Str):decide ((Sum.inr a:Key)=Sum.inr b)=decide (a=b):=by
 by_cases e:a=b
 .subst e;simp
 .have h:¬(Sum.inr a:Key)=Sum.inr b:=λq=>e (Sum.inr.inj q);rw[bq h,bq e]
def Q9(a:Int)(b:Str):decide ((Sum.inl a:Key)=Sum.inr b)=false:=bq (λq=>nomatch q)
def Ra(a:Str)(b:Int):decide ((Sum.inr a:Key)=Sum.inl b)=false:=bq (λq=>nomatch q)
def cg(prog:AK)(w:World):PySem.KeyKind prog w Key where
 is:=jq
 hash:=Q4 w
 inj:=λv a b z q=>by
  rcases fX z with⟨i,t,rfl,rfl⟩|⟨x,t,rfl,rfl⟩
  .rcases fX q with⟨j,u,rfl,e⟩|⟨y,u,rfl,e⟩
   .injection e with e1 _;rw[e1]
   .exact nomatch e
  .rcases fX q with⟨j,u,rfl,e⟩|⟨y,u,rfl,e⟩
   .exact nomatch e
   .injection e with e1 _;rw[e1]
 byValue:=λk v h=>by
  rcases fX h with⟨i,t,rfl,rfl⟩|⟨x,t,rfl,rfl⟩<;>rfl
 pyHash:=λg h=>by
  rcases fX g with⟨i,t,rfl,rfl⟩|⟨x,t,rfl,rfl⟩
  .exact wpAny_pyHash_int h
  .exact wpAny_pyHash_str h
 eqBool:=λJ g h=>by
  rcases fX J with⟨i,t,rfl,rfl⟩|⟨x,t,rfl,rfl⟩
  .rcases fX g with⟨j,u,rfl,rfl⟩|⟨y,u,rfl,rfl⟩
   .rw[Q7]at h;exact wpAny_eqBool_int h
   .rw[Q9]at h;exact SeqAt.EqAt.int_str i t y u _ _ _ _ h
  .rcases fX g with⟨j,u,rfl,rfl⟩|⟨y,u,rfl,rfl⟩
   .rw[Ra]at h;exact SeqAt.EqAt.str_int x t j u _ _ _ _ h
   .rw[Q8]at h;exact wpAny_eqBool_str h
 «strs»:=λk x t v h=>by
  rcases fX h with⟨i,u,rfl,e⟩|⟨y,u,rfl,e⟩
  .exact nomatch e
  .injection e with e1 _;subst e1;cases v<;>rfl
def Rb(prog:AK)(w:World)(i:Int)(t:Tok):(cg prog w).is (.inl i) (.int i t)=true:=Q5 i t
def Rc(prog:AK)(w:World)(x:Str)(t:Tok):(cg prog w).is (.inr x) (.str x t)=true:=Q6 x t
inductive V where
 |non |bl (b:Bool) |int (i:Int) |str (x:Str) |byt (b:Array UInt8) |flt (b:UInt64) |ref (a:AQ) |ty (n:AL)
 deriving DecidableEq
abbrev AR:=List V
def RelV:V->AN->Prop
 |.non,u=>u=Value.none
 |.bl b,u=>u=Value.bool b
 |.int i,u=>∃t,u=Value.int i t
 |.str x,u=>∃t,u=Value.str x t
 |.byt b,u=>∃t,u=Value.bytes b t
 |.flt b,u=>∃t,u=Value.float b t
 |.ref a,u=>u=Value.ref a
 |.ty n,u=>u=Value.type n
abbrev Vals:AR->AB->Prop:=Paired RelV
def Vals.length{xs:AR}{g:AB}(r:Vals xs g):xs⁻¹=g⁻¹:=ge r
def Vals.get:∀{xs:AR}{g:AB}{i:Nat}{x:V},Vals xs g->xs[i]?=-x->∃u,g[i]?=-u/\RelV x u
 |_,_,_,_,.nil,e=>by simp at e
 |_,_,0,_,.cons r _,e=>by simp at e;subst e;exact⟨_,rfl,r⟩
 |_,_,i+1,x,.cons _ t,e=>by
  let(u,h1,h2):=Vals.get (i:=i) (x:=x) t (!!e);exact⟨u,!!h1,h2⟩
def Vals.set{x:V}{u:AN}(r:RelV x u):∀{xs:AR}{g:AB}(i:Nat),Vals xs g->Vals (xs.set i x) (g.set i u)
 |_,_,_,.nil=>.nil
 |_,_,0,.cons _ t=>.cons r t
 |_,_,i+1,.cons q t=>.cons q (Vals.set r i t)
def Vals.append:∀{xs ys:AR}{g q:AB},Vals xs g->Vals ys q->Vals (xs++ys) (g++q)
 |_,_,_,_,.nil,s=>s
 |_,_,_,_,.cons r t,s=>.cons r (Vals.append t s)
def Vals.take:∀{xs:AR}{g:AB}(n:Nat),Vals xs g->Vals (xs.take n) (g.take n)
 |_,_,0,_=>.nil
 |_,_,_+1,.nil=>.nil
 |_,_,n+1,.cons r t=>.cons r (Vals.take n t)
def Vals.drop:∀{xs:AR}{g:AB}(n:Nat),Vals xs g->Vals (xs.drop n) (g.drop n)
 |_,_,0,r=>r
 |_,_,_+1,.nil=>.nil
 |_,_,n+1,.cons _ t=>Vals.drop n t
def RelO:Option V->Option AN->Prop
 |some v,-u=>RelV v u
 |none,none=>True
 |_,_=>False
def KV{κ:Type}:List (κ×V)->List (κ×AN)->Prop:=Paired λ(p:κ×V) (q:κ×AN)=>p.1=q.1/\RelV p.2 q.2
def kV:Key->V
 |.inl i=>.int i
 |.inr x=>.str x
inductive HO where
 |lst (xs:AR)
 |tup (xs:AR)
 |dK (kvs:List (Key×V)) |dT (kvs:List (List Key×V))
 |set (S:Int->Bool) (n:Nat)
 |ins (C dx:AQ) (fs:List (Str×V))
 |own (x:AQ)
 |xd (fs:List (Str×V))
 |met (f x:AQ)
 |rng (lo hi:Int)
 |frz (o:Obj) (u:HO)
 |tbl (ps:Array AN)
 |ext (φ:Heap->Prop)
abbrev Hp:=AQ->Option HO
def upd(H:Hp)(a:AQ)(o:HO):Hp:=λb=>if b=a then some o else H b
def cW{H:Hp}{a:AQ}{o:HO}:upd H a o a=-o:=by unfold upd;rw[if_pos rfl]
def aK{H:Hp}{a b:AQ}{o:HO}(h:b≠a):upd H a o b=H b:=by unfold upd;rw[if_neg h]
def Rf{H:Hp}{a:AQ}{o u:HO}:upd (upd H a o) a u=upd H a u:=by funext b;unfold upd;split<;>rfl
def jr{H:Hp}{a b:AQ}{o u:HO}(h:H a=-o)(h':H b=-u)(d:o≠u):a≠b:=by intro e;subst e;rw[h]at h';exact d (eI h')
def bF{H:Hp}{a b:AQ}{o:HO}(h:H a=-o)(h':H b=none):a≠b:=by intro e;subst e;rw[h]at h';cases h'
def IsTupX (h:Heap) (a:AQ) (g:Array AN):Prop:=∃o,h.get? a=-o/\(o.cls=.type "tuple"/\o.dict=none)/\∃n,o.data=.seq g n
def IsTupX.tup{h:Heap}{a:AQ}{g:Array AN}(x:IsTupX h a g):IsTup h a g:=let⟨o,e,c,r⟩:=x;⟨o,e,c.1,r⟩
def IsTupX.lt{h:Heap}{a:AQ}{g:Array AN}(x:IsTupX h a g):a<h.objs.size:=let⟨_,e,_⟩:=x;ay e
def IsTupX.new (h:Heap) (g:Array AN):IsTupX (h.push {cls:=.type "tuple",data:=.seq g}) h.objs.size g:=⟨_,aI h rfl,⟨rfl,rfl⟩,0,rfl⟩
section
variable (P:AK) (w:World)
def ObjOk(H:Hp)(h:Heap)(a:AQ):HO->Prop
 |.lst xs=>xs⁻¹<=sizeLine/\∃(g:AB) (n:Nat),Vals xs g/\h.get? a=-{cls:=.type "list",data:=.seq g.toArray n}
 |.tup xs=>xs⁻¹<=sizeLine/\∃g:AB,Vals xs g/\IsTupX h a g.toArray
 |.dK kvs=>kvs⁻¹<=sizeLine/\(a==sysModules)=false/\∃vs,KV kvs vs/\h.DictOf (cg P w) a vs
 |.dT kvs=>kvs⁻¹<=sizeLine/\(a==sysModules)=false/\∃xs:List (List Key×AQ×AN),
   Paired (λ(p:List Key×V) (q:List Key×AQ×AN)=>p.1=q.1/\H q.2.1=-(.tup (p.1.map kV))/\RelV p.2 q.2.2) kvs xs/\
   ∃o es ep,h.get? a=-o/\o.ExactDict/\o.data=.dict es ep/\es.toList=xs.map (entryOfKey (tupleKind (cg P w)))/\(xs.map (·.1)).Nodup
 |.set S n=>h.SetOf (intKind P w) a S n
 |.ins C dx fs=>H dx=-(.own a)/\fs⁻¹<=1000/\dx≠a/\h.get? a=-(PySem.W.instObj C dx)/\
   ∃z,h.Ns1 dx z/\(∀f,RelO (fs.lookup f) (z f))/\PySem.Within z (fs.map (·.1))
 |.own _=>∃o,h.get? a=-o
 |.xd fs=>∃z,h.Ns1 a z/\∀f,RelO (fs.lookup f) (z f)
 |.rng lo hi=>∃t u v,h.get? a=-{cls:=.type "range",data:=.fields #[.int lo t,.int hi u,.int 1 v]}
 |.frz o u=>h.get? a=-o/\ObjOk H h a u
 |.tbl ps=>h.get? a=-{cls:=.none,data:=.fields ps}
 |.met f x=>h.get? a=-(PySem.W.methodObj (.ref f) (.ref x))
 |.ext φ=>φ h/\(∃o,h.get? a=-o)/\∀h1 h2:Heap,φ h1->(∀o,h1.get? a=-o->h2.get? a=-o)->φ h2
def HOk(H:Hp)(h:Heap):Prop:=∀a o,H a=-o->ObjOk P w H h a o
end
section
variable {P:AK} {w:World} {H H':Hp} {h h':Heap} {a:AQ} {o:HO}
theorem ObjOk.lt(x:ObjOk P w H h a o):a<h.objs.size:=by
 cases o with
 |lst xs=>let(_,_,_,_,e):=x;exact ay e
 |tup xs=>let(_,_,_,p):=x;exact p.lt
 |dK g=>let(_,_,_,_,o,_,_,e,_):=x;exact ay e
 |dT g=>let(_,_,_,_,o,_,_,e,_):=x;exact ay e
 |set S n=>let(o,_,_,_,e,_):=x;exact ay e
 |ins C dx fs=>let(_,_,_,e,_):=x;exact ay e
 |own y=>let(_,e):=x;exact ay e
 |xd fs=>let(_,(_,_,_,e,_),_):=x;exact ay e
 |rng lo hi=>let(_,_,_,e):=x;exact ay e
 |frz ob u=>let(e,_):=x;exact ay e
 |tbl ps=>exact ay (show h.get? a=-_ from x)
 |met f y=>exact ay (show h.get? a=-_ from x)
 |ext q=>let(_,(_,e),_):=x;exact ay e
theorem Paired.mapP{q z:Type}{F G:q->z->Prop}:∀{g:List q}{l₂:List z},Paired F g l₂->(∀a b,F a b->G a b)->Paired G g l₂
 |_,_,.nil,_=>.nil
 |_,_,.cons r t,f=>.cons (f _ _ r) (Paired.mapP t f)
theorem ObjOk.stay(x:ObjOk P w H h a o)(k:∀b u,(b=a\/H b=-(.own a))->h.get? b=-u->h'.get? b=-u)
  (O:∀b,H b=-(.own a)->H' b=-(.own a)) (U:∀b xs,H b=-(.tup xs)->H' b=-(.tup xs)):ObjOk P w H' h' a o:=by
 induction o with
 |lst xs=>let(z,g,n,r,e):=x;exact⟨z,g,n,r,k _ _ (.inl rfl) e⟩
 |tup xs=>let(z,g,r,ob,e,c):=x;exact⟨z,g,r,ob,k _ _ (.inl rfl) e,c⟩
 |dK J=>let(z,y,vs,r,ob,es,ep,e,c):=x;exact⟨z,y,vs,r,ob,es,ep,k _ _ (.inl rfl) e,c⟩
 |dT J=>
  let(z,y,xs,r,ob,es,ep,e,c):=x;exact⟨z,y,xs,Paired.mapP r λp q z=>⟨z.1,U _ _ z.2.1,z.2.2⟩,ob,es,ep,k _ _ (.inl rfl) e,c⟩
 |set S n=>let(ob,es,ep,t,e,c):=x;exact⟨ob,es,ep,t,k _ _ (.inl rfl) e,c⟩
 |ins C dx fs=>
  let(d,z,ne,e,L,(M,es,ep,N,c),r):=x;exact⟨O _ d,z,ne,k _ _ (.inl rfl) e,L,⟨M,es,ep,k _ _ (.inr d) N,c⟩,r⟩
 |own y=>let(ob,e):=x;exact⟨ob,k _ _ (.inl rfl) e⟩
 |xd fs=>let(L,(M,es,ep,e,c),r):=x;exact⟨L,⟨M,es,ep,k _ _ (.inl rfl) e,c⟩,r⟩
 |rng lo hi=>let(t,u,v,e):=x;exact⟨t,u,v,k _ _ (.inl rfl) e⟩
 |frz ob u Y=>let(e,q):=x;exact⟨k _ _ (.inl rfl) e,Y q⟩
 |tbl ps=>
  have e:h.get? a=-{cls:=.none,data:=.fields ps}:=x;change h'.get? a=-{cls:=.none,data:=.fields ps};exact k a _ (.inl rfl) e
 |met f y=>
  have e:h.get? a=-(PySem.W.methodObj (.ref f) (.ref y)):=x;change h'.get? a=-(PySem.W.methodObj (.ref f) (.ref y));exact k a _ (.inl rfl) e
 |ext φ=>let(p,(o,e),st):=x;exact⟨st _ _ p λo q=>k _ _ (.inl rfl) q,⟨o,k _ _ (.inl rfl) e⟩,st⟩
theorem HOk.lt(x:HOk P w H h)(e:H a=-o):a<h.objs.size:=(x a o e).lt
theorem HOk.fresh(x:HOk P w H h)(e:h.objs.size<=a):H a=none:=by
 cases q:H a with
 |none=>rfl
 |some u=>exact absurd (bp (x.lt q) e) (eT _)
theorem HOk.kept(x:HOk P w H h)(k:∀b u,h.get? b=-u->h'.get? b=-u):HOk P w H h':=λa o e=>
 (x a o e).stay (λb u z q=>k b u q) (λz q=>q) λz z q=>q
theorem HOk.laid(x:HOk P w H h)(k:∀b u,h.get? b=-u->h'.get? b=-u)(z:h.objs.size<=a)(new:ObjOk P w (upd H a o) h' a o):HOk P w (upd H a o) h':=λb u e=>by
 have hn:=x.fresh z;by_cases g:b=a
 .subst g;rw[cW]at e;cases e;exact new
 .rw[aK g]at e;exact(x b u e).stay (λc v y q=>k c v q) (λc q=>by rw[aK (bF q hn)];exact q) λc xs q=>by rw[aK (bF q hn)];exact q
end
def Rd(H:Hp)(a:AQ)(u:HO):Prop:=H a=-u\/∃o,H a=-(.frz o u)
def Rd.ok{P:AK}{w:World}{H:Hp}{h:Heap}{a:AQ}{u:HO}(r:Rd H a u)(x:HOk P w H h):ObjOk P w H h a u:=by
 rcases r with r|⟨o,r⟩
 .exact x a u r
 .let(_,q):=x a _ r;exact q
def Mut:Option HO->Prop
 |some (.lst _)=>True
 |some (.dK _)=>True
 |some (.dT _)=>True
 |some (.set _ _)=>True
 |some (.ins _ _ _)=>True
 |some (.ext _)=>True
 |_=>False
section
variable {P:AK} {w:World} {H:Hp} {h h':Heap} {x e:AQ} {o':HO}
theorem HOk.write(ok:HOk P w H h)(N:Mut (H x))(he:e=x\/H e=-(.own x))(k:∀b u,b≠e->h.get? b=-u->h'.get? b=-u)(O:∃u,h'.get? e=-u)
  (new:ObjOk P w (upd H x o') h' x o'):HOk P w (upd H x o') h':=λb u q=>by
 have J:∀c y,H c=-(.own y)->c≠x:=λc y r z=>by subst z;rw[r]at N;exact N
 have L:∀c xs,H c=-(.tup xs)->c≠x:=λc xs r z=>by subst z;rw[r]at N;exact N
 by_cases M:b=x
 .subst M;rw[cW]at q;cases q;exact new
 .rw[aK M]at q;by_cases g:b=e
  .have U:H b=-(.own x):=by
    rcases he with z|z
    .exact absurd (g.trans z) M
    .rw[g];exact z
   rw[q]at U;cases U;let(v,Y):=O;exact⟨v,by rw[g];exact Y⟩
  .show (ok b u q).stay (λc v hc r=>k c v ?_ r) (λc r=>by rw[aK (J c b r)];exact r) λc xs r=>by rw[aK (L c xs r)];exact r
   rcases hc with rfl|hc
   .exact g
   .rintro rfl;rcases he with z|z
    .exact J c b hc z
    .rw[hc]at z;cases z;exact M rfl
end
structure Un(fs ex:List AQ)(H H':Hp)(h h':Heap):Prop where
 keep:∀b o,h.get? b=some o->H b=none->b∉fs->b∉ex->h'.get? b=some o
 slot:∀b o,h.get? b=some o->H b=none->b∈fs->b∉ex->∃sl,h'.get? b=some { o with slots:=sl }
 free:∀b o,h.get? b=some o->H b=none->b∉ex->H' b=none
 there:∀b o,h.get? b=some o->b∉ex->∃o',h'.get? b=some o'
 tups:∀b xs,H b=some (.tup xs)->H' b=some (.tup xs)
 frzs:∀b o u,H b=some (.frz o u)->H' b=some (.frz o u)
 tbls:∀b ps,H b=some (.tbl ps)->∃more,H' b=some (.tbl (ps++more))
section
variable {fs fs' ex ex':List AQ} {H H1 H2:Hp} {h h1 h2 h':Heap} {a x e:AQ} {o:HO}
theorem Un.any(u:Un fs ex H H1 h h1){b:AQ}{ob:Obj}(q:h.get? b=-ob)(n:H b=none)(z:b∉ex):∃J,h1.get? b=-{ob with slots:=J}:=by
 by_cases g:b∈fs
 .exact u.slot b ob q n g z
 .exact ⟨ob.slots,u.keep b ob q n g z⟩
theorem Un.kept(k:∀b u,h.get? b=-u->h'.get? b=-u):Un fs ex H H h h':=
 ⟨λb ob q z z z=>k b ob q,λb ob q z z z=>⟨ob.slots,k b ob q⟩,λz z z n z=>n,λb ob q z=>⟨ob,k b ob q⟩,λz z q=>q,λz z z q=>q,λz ps q=>⟨#[],by rw[q];simp⟩⟩
theorem Un.refl:Un fs ex H H h h:=Un.kept λz z q=>q
theorem Un.laid(k:∀b u,h.get? b=-u->h'.get? b=-u)(g:h.objs.size<=a)(hn:H a=none):Un fs ex H (upd H a o) h h' where
 keep:=λb u q z z z=>k b u q
 slot:=λb u q z z z=>⟨u.slots,k b u q⟩
 free:=λb u q n z=>by rw[aK (bX (bp (ay q) g))];exact n
 there:=λb u q z=>⟨u,k b u q⟩
 tups:=λb xs q=>by rw[aK (bF q hn)];exact q
 frzs:=λb u xs q=>by rw[aK (bF q hn)];exact q
 tbls:=λb ps q=>⟨#[],by rw[aK (bF q hn),q];simp⟩
theorem Un.write(J:Mut (H x))(he:e=x\/H e=-(.own x))(k:∀b u,b≠e->h.get? b=-u->h'.get? b=-u)(L:∃u,h'.get? e=-u):Un fs ex H (upd H x o) h h':=by
 have O:∀b,H b=none->b≠x:=λb n z=>by subst z;rw[n]at J;exact J
 have N:∀b,H b=none->b≠e:=λb n z=>by
  subst z;rcases he with r|r
  .exact O b n r
  .rw[n]at r;cases r
 have M:∀b u,H b=-u->¬Mut (-u)->b≠x:=λb u q nm z=>by subst z;rw[q]at J;exact nm J
 show⟨λb u q n y y=>k b u (N b n) q,λb u q n y y=>⟨u.slots,k b u (N b n) q⟩,λb u q n y=>by rw[aK (O b n)];exact n,λb u q y=>?_,
  λb xs q=>by rw[aK (M b _ q λz=>z)];exact q,λb u xs q=>by rw[aK (M b _ q λz=>z)];exact q,λb ps q=>⟨#[],by rw[aK (M b _ q λz=>z),q];simp⟩⟩
 by_cases g:b=e
 .subst g;exact L
 .exact ⟨u,k b u g q⟩
end
def trk(h:Heap)(H:Hp):List AQ:=(List.range h.objs.size).filter λa=>(H a).isSome
def fY(h:Heap)(H:Hp):Heap:=PySem.W.hideAll h (trk h H)
def Rg(h:Heap)(H:Hp):(fY h H).objs.size=h.objs.size:=PySem.W.hideAll_size _ _
def Rh{h:Heap}{H:Hp}{b:AQ}{o:Obj}(e:h.get? b=-o)(n:H b=none):(fY h H).get? b=-o:=
 PySem.W.hideAll_get _ e λg=>by
  have q:(H b).isSome=true:=(e9.mp g).2;rw[n]at q;simp at q
def Ri{h:Heap}{H:Hp}{b:AQ}{o:Obj}(e:(fY h H).get? b=-o):h.get? b=-o/\H b=none:=by
 have g:h.get? b=-o:=PySem.W.of_hideAll (trk h H) e;show⟨g,?_⟩;cases q:H b with
 |none=>rfl
 |some x=>
  have J:b∈trk h H:=e9.mpr ⟨e6.mpr (ay g),by simp[q]⟩;have z:(fY h H).get? b=none:=PySem.W.hideAll_none (trk h H) J;rw[z]at e;cases e
def Rj(g h:Heap)(L:AQ):AC:=(List.range h.objs.size).filterMap λa=>if a=L\/(g.get? a).isSome=true then none else(h.get? a).map λo=>(a,o)
def rest(g h:Heap)(L d:AQ):AC:=(Rj g h L).filter λp=>decide (p.1≠d)
structure Mod(K:PF)(mg:AH)(base:Heap):Prop where
 kin:K.In base
 glob:base.Ns mainGlobals mg
 blt:∃mb,base.Ns builtinsNs mb/\∀x:Str,x≠"__name__"->mb x=bootBuiltins x
 nolimit:base.NoLimit
structure Cx where
 prog:AK
 w:World
 K:PF
 mg:Str->Option AN
 base:Heap
 A:AM
 N:AD
 s₀:AI
 H₀:Hp
 env:Env
 outer:List Env
 stack:List Env
 ex:List AQ
 fn:Str->Bool
 calm:Bool
 pn:AC
 xe:AN->AI->Prop
def frs(l:List Env):List AQ:=l.filterMap (·.frame)
abbrev Cx.fs(X:Cx):List AQ:=frs X.outer
def Vis(g:Scope)(x:Str):Prop:=g.names.lookup x=-.local\/g.names.lookup x=-.cell\/g.names.lookup x=-.free
def Loc(g:Scope)(x:Str):Prop:=g.names.lookup x=-.local\/g.names.lookup x=-.cell
def Look(env:Env)(h:Heap)(m:AH)(x:Str)(u:AN):Prop:=
 (env.kindOf x=-.local/\m x=-u)\/((env.kindOf x=-.cell\/env.kindOf x=-.free)/\∃c,env.cells.lookup x=-c/\h.IsCell c (-u))
structure Cx.Ok(X:Cx):Prop where
 mod:Mod X.K X.mg X.base
 kind:X.env.scope.kind=.function
 glob:X.env.globals=mainGlobals
 blt:X.env.builtins=builtinsNs
 above:X.s₀.heap.objs.size<=X.env.locals
 inj:∀x y c,X.env.cells.lookup x=some c->X.env.cells.lookup y=some c->x=y
 has:∀x,(X.env.kindOf x=some .cell\/X.env.kindOf x=some .free)->∃c,X.env.cells.lookup x=some c
 cab:∀x c,X.fn x=true->X.env.cells.lookup x=some c->X.s₀.heap.objs.size<=c
 hd:X.calm=true->X.A.handled=none
 frames:X.A.frames=some X.stack
 stk:X.stack=X.outer\/(X.stack=X.env::X.outer/\X.env.frame=some X.env.locals)
 exf:∀b∈X.ex,b≠X.env.locals/\∀x c,X.env.cells.lookup x=some c->c≠b
 bs:∀b o,X.base.get? b=some o->X.s₀.heap.get? b=some o/\X.H₀ b=none
 bsz:X.base.objs.size<=X.s₀.heap.objs.size
 noex:∀b o,X.base.get? b=some o->b∉X.ex
 exfs:∀b∈X.ex,b∉X.fs
 funs:X.s₀.heap.FunFrames X.base X.outer
 frf:∀b∈X.fs,X.H₀ b=none
structure Inv(X:Cx)(p9:AC)(Y:List (Option V))(H:Hp)(s:AI):Prop where
 ok:X.Ok
 os:s.os=X.s₀.os
 bare:AllBare s.gens
 base:Un X.fs X.ex X.H₀ H X.s₀.heap s.heap
 loc:∃m,s.heap.Ns X.env.locals m/\∀(i:Nat)(x:Str)(v:V),X.N[i]?=some x->Y[i]?=some (some v)->Vis X.env.scope x->∃u,RelV v u/\Look X.env s.heap m x u
 cell:∀x c,X.env.cells.lookup x=some c->∃v,s.heap.IsCell c v
 free:H X.env.locals=none
 freeC:∀x c,X.env.cells.lookup x=some c->H c=none
 pin:∀p∈X.pn++p9,s.heap.get? p.1=some p.2/\H p.1=none/\p.1≠X.env.locals/\p.1∉X.fs/\∀v,p.2.data≠.cell v
 hok:HOk X.prog X.w H s.heap
 len:Y.length=X.N.length
section
variable {X:Cx} {p9:AC} {σ:List (Option V)} {H H':Hp} {s:AI} {h':Heap}
theorem Cx.Ok.nofr(ok:X.Ok){b:AQ}{o:Obj}(e:X.base.get? b=-o):b∉X.fs:=λg=>by
 have:=(ok.funs.mem g).1;rw[e]at this;cases this
theorem Inv.bs(I:Inv X p9 σ H s):∀b o,X.base.get? b=-o->s.heap.get? b=-o/\H b=none:=λb o e=>
 ⟨I.base.keep b o (I.ok.bs b o e).1 (I.ok.bs b o e).2 (I.ok.nofr e) (I.ok.noex b o e),I.base.free b o (I.ok.bs b o e).1 (I.ok.bs b o e).2 (I.ok.noex b o e)⟩
theorem Inv.bk(I:Inv X p9 σ H s):∀b o,X.base.get? b=-o->s.heap.get? b=-o:=λb o e=>(I.bs b o e).1
theorem Inv.mod(I:Inv X p9 σ H s):Mod X.K X.mg X.base:=I.ok.mod
theorem Inv.kIn(I:Inv X p9 σ H s):X.K.In s.heap:=I.ok.mod.kin.keeps I.bk
theorem Inv.lt(I:Inv X p9 σ H s):X.env.locals<(~~~s):=let⟨_,hn,_⟩:=I.loc;hn.lt
theorem Inv.sz(I:Inv X p9 σ H s):X.s₀.heap.objs.size<=(~~~s):=b5 I.ok.above (Nat.le_of_lt I.lt)
theorem Inv.nofs(I:Inv X p9 σ H s){a:AQ}(h:(~~~s)<=a):a∉X.fs:=λg=>by
 let(_,o,q,_):=I.ok.funs.mem g;exact absurd (bp (ay q) (b5 I.sz h)) (eT _)
theorem Inv.cne(I:Inv X p9 σ H s):∀x c,X.env.cells.lookup x=-c->c≠X.env.locals:=λx c e z=>by
 let(v,o,L,J):=I.cell x c e;let(m,(o',es,ep,q,g,_),_):=I.loc;rw[z,q]at L;cases L;rw[g]at J;cases J
theorem Inv.funs(I:Inv X p9 σ H s):s.heap.FunFrames X.base X.outer:=by
 have all:∀(l:List Env),(∀b∈frs l,b∈X.fs)->X.s₀.heap.FunFrames X.base l->s.heap.FunFrames X.base l:=by
  intro l;induction l with
  |nil=>intro _ _;trivial
  |cons env r Y=>
   intro hs hl;let(N,(L,o,J,hn,O,M),U):=hl;have g:L∈X.fs:=hs L (by unfold frs;rw[List.filterMap_cons,J];exact a9);let(sl,e):=I.base.slot L o O (I.ok.frf L g) g λz=>I.ok.exfs L z g;exact⟨N,⟨L,_,J,hn,e,M⟩,Y (λb q=>hs b (by unfold frs;rw[List.filterMap_cons,J];exact bm _ q)) U⟩
 exact all X.outer (λy q=>q) I.ok.funs
theorem Inv.stack(I:Inv X p9 σ H s):s.heap.FunFrames X.base X.stack:=by
 rcases I.ok.stk with e|⟨e,g⟩
 .rw[e];exact I.funs
 .rw[e];let(m,hn,_):=I.loc;show .cons (by rw[I.ok.kind];decide) g hn ?_ I.funs;exact Heap.get?_none_of_le (b5 I.ok.bsz I.ok.above)
theorem Inv.stkSub(I:Inv X p9 σ H s):∀b∈frs X.stack,b∈X.env.locals::X.fs:=λb g=>by
 rcases I.ok.stk with e|⟨e,q⟩
 .rw[e]at g;exact bm _ g
 .rw[e]at g;unfold frs at g;rw[List.filterMap_cons,q]at g;exact g
theorem Inv.stkFree(I:Inv X p9 σ H s):∀b∈frs X.stack,H b=none:=λb g=>by
 rcases br.mp (I.stkSub b g) with e|g
 .rw[e];exact I.free
 .let(_,o,q,_):=I.ok.funs.mem g;exact I.base.free b o q (I.ok.frf b g) λz=>I.ok.exfs b z g
theorem Inv.step{g':Array GenState}{t':Nat}{d':Drawn}{ch:List AQ}(I:Inv X p9 σ H s)
  (L:∀b∈ch,(b∈X.ex\/X.s₀.heap.objs.size<=b)/\b≠X.env.locals/\(∀x c,X.env.cells.lookup x=-c->c≠b)/\∀p∈X.pn++p9,p.1≠b)
  (keep:∀b o,b≠X.env.locals->b∉X.fs->b∉ch->s.heap.get? b=-o->H b=none->h'.get? b=-o)
  (slot:∀b o,b≠X.env.locals->b∈X.fs->b∉ch->s.heap.get? b=-o->H b=none->∃sl,h'.get? b=-{o with slots:=sl}) (free:∀b o,b∉ch->s.heap.get? b=-o->H b=none->H' b=none)
  (there:∀b o,b∉ch->s.heap.get? b=-o->∃o',h'.get? b=-o')
  (tups:∀b xs,H b=-(.tup xs)->H' b=-(.tup xs)) (frzs:∀b o u,H b=-(.frz o u)->H' b=-(.frz o u)) (tbls:∀b ps,H b=-(.tbl ps)->∃more,H' b=-(.tbl (ps++more)))
  (ns:∀m,s.heap.Ns X.env.locals m->h'.Ns X.env.locals m) (hok:HOk X.prog X.w H' h') (hg:AllBare g'):
  Inv X p9 σ H' {s with heap:=h',gens:=g',drawn:=d',toks:=t'}:=by
 have neL:∀b o,X.s₀.heap.get? b=-o->b≠X.env.locals:=λb o e=>bX (bp (ay e) I.ok.above);have O:∀b o,X.s₀.heap.get? b=-o->b∉X.ex->b∉ch:=λb o e g U=>by
  rcases(L b U).1 with z|z
  .exact g z
  .exact absurd (bp (ay e) z) (eT _)
 have J:∀x c,X.env.cells.lookup x=-c->∀v,s.heap.IsCell c v->h'.IsCell c v:=λx c e v zZ=>by
  let(o,Y,hd):=zZ;have M:c∉ch:=λz=>(L c z).2.2.1 x c e rfl;by_cases hc:c∈X.fs
  .let(sl,q):=slot c o (I.cne x c e) hc M Y (I.freeC x c e);exact⟨_,q,hd⟩
  .exact ⟨o,keep c o (I.cne x c e) hc M Y (I.freeC x c e),hd⟩
 show⟨I.ok,I.os,hg,⟨λb o e n U g=>?_,λb o e n U g=>?_,λb o e n g=>?_,λb o e g=>?_,λb xs e=>tups b xs (I.base.tups b xs e),λb o xs e=>frzs b o xs (I.base.frzs b o xs e),λb ps e=>?_⟩,?_,λx c e=>?_,?_,λx c e=>?_,λp hp=>?_,hok,I.len⟩
 .exact keep b o (neL b o e) U (O b o e g) (I.base.keep b o e n U g) (I.base.free b o e n g)
 .let(sl,N):=I.base.slot b o e n U g;let(sl',e2):=slot b _ (neL b o e) U (O b o e g) N (I.base.free b o e n g);exact⟨sl',e2⟩
 .let(o',N):=I.base.there b o e g;exact free b o' (O b o e g) N (I.base.free b o e n g)
 .let(o',N):=I.base.there b o e g;exact there b o' (O b o e g) N
 .let(m1,N):=I.base.tbls b ps e;let(m2,e2):=tbls b _ N;exact⟨m1++m2,by rw[e2,Array.append_assoc]⟩
 .let(m,hn,hl):=I.loc;show⟨m,ns m hn,λi x v N e2 e3=>?_⟩;let(u,r,l):=hl i x v N e2 e3;show⟨u,r,?_⟩;rcases l with l|⟨k,c,e,z⟩
  .exact .inl l
  .exact .inr ⟨k,c,e,J x c e _ z⟩
 .let(v,z):=I.cell x c e;exact⟨v,J x c e v z⟩
 .let(m,(o,_,_,Y,_),_):=I.loc;exact free _ o (λz=>(L _ z).2.1 rfl) Y I.free
 .let(v,o,Y,hd):=I.cell x c e;exact free c o (λz=>(L c z).2.2.1 x c e rfl) Y (I.freeC x c e)
 .let(e,n,ne,nf,d):=I.pin p hp;have M:p.1∉ch:=λz=>(L p.1 z).2.2.2 p hp rfl;exact⟨keep p.1 p.2 ne nf M e n,free p.1 p.2 M e n,ne,nf,d⟩
theorem Inv.un{t':Nat}(I:Inv X p9 σ H s)(u:Un X.fs [] H H' s.heap h')(L:HOk X.prog X.w H' h'):Inv X p9 σ H' {s with heap:=h',toks:=t'}:=by
 let(m,(o,es,ep,M,r),_):=id I.loc;let(sl,N):=u.any M I.free (!2);exact I.step (g':=s.gens) (d':=s.drawn) (ch:=[]) (λy z=>nomatch z) (λb o y J y e n=>u.keep b o e n J (!2)) (λb o y J y e n=>u.slot b o e n J (!2)) (λb o y e n=>u.free b o e n (!2)) (λb o y e=>u.there b o e (!2)) u.tups u.frzs u.tbls (λY O=>by
  let(o',es',q,g,U):=O;rw[M]at g;cases g;exact⟨_,es',q,N,U⟩) L I.bare
theorem Inv.call{g':Array GenState}{t':Nat}{d':Drawn}{ch:List AQ}(I:Inv X p9 σ H s)(u:Un (frs X.stack) ch H H' s.heap h')(M:HOk X.prog X.w H' h')(U:AllBare g')
  (g:∀b∈ch,(b∈X.ex\/X.s₀.heap.objs.size<=b)/\b≠X.env.locals/\(∀x c,X.env.cells.lookup x=-c->c≠b)/\∀p∈X.pn++p9,p.1≠b):
  Inv X p9 σ H' {s with heap:=h',gens:=g',drawn:=d',toks:=t'}:=by
 let(m,(o,es,ep,N,r),_):=id I.loc;let(sl,L):=u.any N I.free λz=>(g _ z).2.1 rfl;exact I.step (ch:=ch) g (λb o L O hc e n=>u.keep b o e n (λz=>(br.mp (I.stkSub b z)).elim L O) hc) (λb o y y hc e n=>u.any e n hc) (λb o hc e n=>u.free b o e n hc) (λb o hc e=>u.there b o e hc) u.tups u.frzs u.tbls (λm' Y=>by
  let(o',es',J,q,r'):=Y;rw[N]at q;cases q;exact⟨_,es',J,L,r'⟩) M U
theorem Inv.turned{t':Nat}{it:AQ}(I:Inv X p9 σ H s)(k:∀b o,b≠it->s.heap.get? b=-o->h'.get? b=-o)(hn:H it=none)(J:it≠X.env.locals)
  (h1:it∈X.ex\/X.s₀.heap.objs.size<=it) (h2:∀x c,X.env.cells.lookup x=-c->c≠it) (L:∀p∈X.pn++p9,p.1≠it):Inv X p9 σ H {s with heap:=h',toks:=t'}:=by
 have g:∀b u,H b=-u->b≠it:=λb u e z=>by rw[z,hn]at e;cases e
 show I.step (g':=s.gens) (d':=s.drawn) (ch:=[it]) (λb M=>?_) (λb o y y hc e y=>k b o (λz=>hc (by simp[z])) e) (λb o y y hc e y=>⟨o.slots,k b o (λz=>hc (by simp[z])) e⟩) (λy y y y n=>n)
  (λb o hc e=>⟨o,k b o (λz=>hc (by simp[z])) e⟩) (λy y e=>e) (λy y y e=>e) (λb ps e=>⟨#[],by rw[e];simp⟩) (λm N=>?_) (λb u e=>?_) I.bare
 .have e:b=it:=by simpa using M
  subst e;exact⟨h1,J,h2,L⟩
 .let(o,es,ep,O,r):=N;exact⟨o,es,ep,k _ o (Ne.symm J) O,r⟩
 .show (I.hok b u e).stay (λc v hc q=>k c v ?_ q) (λy q=>q) λy y q=>q;rcases hc with z|z
  .rw[z];exact g b u e
  .exact g c _ z
theorem Inv.tok(I:Inv X p9 σ H s)(t:Nat):Inv X p9 σ H {s with toks:=t}:=I.un (h':=s.heap) (t':=t) Un.refl I.hok
theorem Inv.kept{t':Nat}(I:Inv X p9 σ H s)(k:∀b u,s.heap.get? b=-u->h'.get? b=-u):Inv X p9 σ H {s with heap:=h',toks:=t'}:=I.un (Un.kept k) (I.hok.kept k)
theorem Inv.laid{a:AQ}{o:HO}{t':Nat}(I:Inv X p9 σ H s)(k:∀b u,s.heap.get? b=-u->h'.get? b=-u)(g:(~~~s)<=a)(new:ObjOk X.prog X.w (upd H a o) h' a o):
  Inv X p9 σ (upd H a o) {s with heap:=h',toks:=t'}:=I.un (Un.laid k g (I.hok.fresh g)) (I.hok.laid k g new)
theorem Inv.write{x e:AQ}{o:HO}{t':Nat}(I:Inv X p9 σ H s)(q:Mut (H x))(he:e=x\/H e=-(.own x))(k:∀b u,b≠e->s.heap.get? b=-u->h'.get? b=-u)(g:∃u,h'.get? e=-u)
  (new:ObjOk X.prog X.w (upd H x o) h' x o):Inv X p9 σ (upd H x o) {s with heap:=h',toks:=t'}:=I.un (Un.write q he k g) (I.hok.write q he k g new)
theorem Inv.pins_of{g:AC}(I:Inv X p9 σ H s)(h:∀p∈g,s.heap.get? p.1=-p.2/\H p.1=none/\p.1≠X.env.locals/\p.1∉X.fs/\∀v,p.2.data≠.cell v):Inv X g σ H s:=
 ⟨I.ok,I.os,I.bare,I.base,I.loc,I.cell,I.free,I.freeC,λp q=>(ba.mp q).elim (λz=>I.pin p (dA _ z)) (h p),I.hok,I.len⟩
theorem Bx{N:AD}(z:N.Nodup){i j:Nat}{x:Str}(a:N[i]?=-x)(b:N[j]?=-x):i=j:=by let(h1,g):=ah.mp a;let(h2,q):=ah.mp b;exact(List.getElem_inj z).mp (g.trans q.symm)
theorem Rk{M:Model}{A:AM}{E:AG}{i:Nat}{x:Str}{v:V}{u:AN}{Q:Unit->AI->Prop}(I:Inv X p9 σ H s)(hN:X.N.Nodup)(hi:X.N[i]?=-x)(L:Loc X.env.scope x)(r:RelV v u)
  (h:∀s',Inv X p9 (σ.set i (-v)) H s'->(∃a,Heap.SameBut a s.heap s'.heap/\(a=X.env.locals\/X.env.cells.lookup x=-a))->Q () s') (hf:X.fn x=true\/X.env.scope.names.lookup x=-.local:=by first|exact .inl rfl|exact .inr rfl|assumption):wpAny M A (storeName X.env x u) Q E s:=by
 let(m,hn,hl):=id I.loc;have hcls:(X.env.scope.kind==.class||(X.env.scope.kind==.module&&X.env.locals != X.env.globals))=false:=by rw[I.ok.kind];rfl
 have U:i<σ.length:=by rw[I.len];exact(ah.mp hi).1
 have cne:=I.cne;have J:∀{a:AQ}{h':Heap},(∃o,s.heap.get? a=-o/\H a=none)->Heap.SameBut a s.heap h'->HOk X.prog X.w H h':=λ{a h'} ha hs b ob e=>by
  let(_,_,N):=ha;show(I.hok b ob e).stay (λc w' hc q=>(hs.2 c ?_).trans q) (λt q=>q) λt t q=>q;rintro rfl;rcases hc with rfl|hc
  .rw[N]at e;cases e
  .rw[N]at hc;cases hc
 rcases L with Y|Y
 .show wpAny_storeName_local Y hn (λh' hn' hs=>?_) hcls;let(oL,_,_,hoL,_):=id hn;show h _ ⟨I.ok,I.os,I.bare,⟨λb o e n hb L=>?_,λb o e n hb L=>?_,I.base.free,λb o e L=>?_,I.base.tups,I.base.frzs,I.base.tbls⟩,⟨_,hn',λj y v' g O e3=>?_⟩,λy c e=>?_,I.free,I.freeC,λp hp=>?_,J ⟨oL,hoL,I.free⟩ hs,!!I.len⟩ ⟨_,hs,.inl rfl⟩
  .exact (hs.2 b (bX (bp (ay e) I.ok.above))).trans (I.base.keep b o e n hb L)
  .let(sl,g):=I.base.slot b o e n hb L;exact⟨sl,(hs.2 b (bX (bp (ay e) I.ok.above))).trans g⟩
  .let(o',g):=I.base.there b o e L;exact⟨o',(hs.2 b (bX (bp (ay e) I.ok.above))).trans g⟩
  .by_cases hj:j=i
   .subst hj;rw[hi]at g;cases g;rw[List.getElem?_set_self U]at O;cases O;exact⟨u,r,.inl ⟨Y,!2⟩⟩
   .rw[List.getElem?_set_ne (Ne.symm hj)]at O;let(u',r',q):=hl j y v' g O e3;show⟨u',r',?_⟩;rcases q with⟨k,e⟩|⟨k,c,e,z⟩
    .show .inl ⟨k,?_⟩;have:y≠x:=λe=>hj (Bx hN g (e ▸ hi));simp[this,e]
    .exact .inr ⟨k,c,e,z.sameBut hs (cne y c e)⟩
  .let(w',z):=I.cell y c e;exact⟨w',z.sameBut hs (cne y c e)⟩
  .let(e,n,ne,nf,d):=I.pin p hp;exact⟨(hs.2 p.1 ne).trans e,n,ne,nf,d⟩
 .have hfn:X.fn x=true:=by
   rcases hf with z|z
   .exact z
   .rw[z]at Y;cases Y
  let(c,hc):=I.ok.has x (.inl Y);let(w',z):=I.cell x c hc;show wpAny_storeName_cell I.ok.kind Y hc z (λh' hc' hs=>?_);let(oc,hoc,hocd):=id z;show h {s with heap:=h'} ⟨I.ok,I.os,I.bare,⟨λb o e n hb L=>?_,λb o e n hb L=>?_,I.base.free,λb o e L=>?_,I.base.tups,I.base.frzs,I.base.tbls⟩,⟨m,hn.sameBut hs (Ne.symm (cne x c hc)),λj y v' g O e3=>?_⟩,λy c' e=>?_,I.free,I.freeC,λp hp=>?_,J ⟨oc,hoc,I.freeC x c hc⟩ hs,!!I.len⟩ ⟨c,hs,.inr hc⟩
  .exact (hs.2 b (bX (bp (ay e) (I.ok.cab x c hfn hc)))).trans (I.base.keep b o e n hb L)
  .let(sl,g):=I.base.slot b o e n hb L;exact⟨sl,(hs.2 b (bX (bp (ay e) (I.ok.cab x c hfn hc)))).trans g⟩
  .let(o',g):=I.base.there b o e L;exact⟨o',(hs.2 b (bX (bp (ay e) (I.ok.cab x c hfn hc)))).trans g⟩
  .by_cases hj:j=i
   .subst hj;rw[hi]at g;cases g;rw[List.getElem?_set_self U]at O;cases O;exact⟨u,r,.inr ⟨.inl Y,c,hc,hc'⟩⟩
   .rw[List.getElem?_set_ne (Ne.symm hj)]at O;let(u',r',q):=hl j y v' g O e3;show⟨u',r',?_⟩;rcases q with q|⟨k,c',e,z'⟩
    .exact .inl q
    .show .inr ⟨k,c',e,z'.sameBut hs ?_⟩;rintro rfl;exact hj (Bx hN g (I.ok.inj _ _ _ e hc ▸ hi))
  .by_cases hcc:c'=c
   .subst hcc;exact⟨_,hc'⟩
   .let(w2,z2):=I.cell y c' e;exact⟨w2,z2.sameBut hs hcc⟩
  .let(e,n,ne,nf,d):=I.pin p hp;show⟨(hs.2 p.1 ?_).trans e,n,ne,nf,d⟩;intro q;rw[q,hoc]at e;have q':oc=p.2:=eI e;exact d w' (by rw[<-q'];exact hocd)
theorem jt{M:Model}{A:AM}{E:AG}{i:Nat}{x:Str}{v:V}{u:AN}{Q:Unit->AI->Prop}(I:Inv X p9 σ H s)(q:X.N.Nodup)(hi:X.N[i]?=-x)(J:Loc X.env.scope x)(r:RelV v u)
  (h:∀s',Inv X p9 (σ.set i (-v)) H s'->Q () s') (z:X.fn x=true\/X.env.scope.names.lookup x=-.local:=by first|exact .inl rfl|exact .inr rfl|assumption):wpAny M A (storeName X.env x u) Q E s:=
 Rk I q hi J r (λs' g y=>h s' g) z
theorem Inv.call'{s':AI}{ch:List AQ}(I:Inv X p9 σ H s)(J:s'.os=s.os)(u:Un (frs X.stack) ch H H' s.heap s'.heap)(q:HOk X.prog X.w H' s'.heap)(z:AllBare s'.gens)
  (g:∀b∈ch,(b∈X.ex\/X.s₀.heap.objs.size<=b)/\b≠X.env.locals/\(∀x c,X.env.cells.lookup x=-c->c≠b)/\∀p∈X.pn++p9,p.1≠b):Inv X p9 σ H' s':=by
 let(h',g',d',t',o'):=s';have e:o'=s.os:=J;subst e;exact I.call (g':=g') (t':=t') (d':=d') u q z g
end
abbrev XK:=AN->Option AQ->Hp->Prop
abbrev St:=List (Option V)
abbrev VK:=V->Hp->Prop
abbrev TE:=St->Hp->VK->Prop
abbrev TT:=St->Hp->(Bool->Hp->Prop)->Prop
abbrev TA:=St->Hp->(AR->Hp->Prop)->Prop
structure Ends where
 nx:St->Hp->Prop
 rt:VK
 bk:St->Hp->Prop:=λz z=>False
 ct:St->Hp->Prop:=λz z=>False
abbrev TS:=Ends->St->Hp->Prop
def EP(X:Cx)(p9:AC)(Y:St)(Q:VK)(u:AN)(s':AI):Prop:=∃v H',Inv X p9 Y H' s'/\RelV v u/\Q v H'
def TP(X:Cx)(p9:AC)(Y:St)(Q:Bool->Hp->Prop)(b:Bool)(s':AI):Prop:=∃H',Inv X p9 Y H' s'/\Q b H'
def AP(X:Cx)(p9:AC)(Y:St)(Q:AR->Hp->Prop)(g:AB)(s':AI):Prop:=∃vs H',Inv X p9 Y H' s'/\Vals vs g/\Q vs H'
def SP(X:Cx)(p9:AC)(D:Ends)(f:Flow)(s':AI):Prop:=
 match f with
 |.next=>∃g H',Inv X p9 g H' s'/\D.nx g H'
 |.brk=>∃g H',Inv X p9 g H' s'/\D.bk g H'
 |.cont=>∃g H',Inv X p9 g H' s'/\D.ct g H'
 |.ret u=>∃v g H',Inv X p9 g H' s'/\RelV v u/\D.rt v H'
def PE(X:Cx)(e:AO)(t:TE):Prop:=
 ∀(p9:AC)(s:AI)(Y:St)(H:Hp)(Q:VK),Inv X p9 Y H s->t Y H Q->↥X (eval e X.env) (EP X p9 Y Q) X.xe s
def PT(X:Cx)(e:AO)(t:TT):Prop:=
 ∀(p9:AC)(s:AI)(Y:St)(H:Hp)(Q:Bool->Hp->Prop),Inv X p9 Y H s->t Y H Q->↥X (isTrue e X.env (eval e X.env)) (TP X p9 Y Q) X.xe s
def PW(X:Cx)(e:AO)(t:TT):Prop:=
 ∀(whole:Sem AN)(p9:AC)(s:AI)(Y:St)(H:Hp)(Q:Bool->Hp->Prop),Inv X p9 Y H s->t Y H Q->↥X (isTrue e X.env whole) (TP X p9 Y Q) X.xe s
def PW.pt{X:Cx}{e:AO}{t:TT}(h:PW X e t):PT X e t:=h _
def PA(X:Cx)(es:AE)(t:TA):Prop:=
 ∀(pos:Pos)(p9:AC)(s:AI)(Y:St)(H:Hp)(Q:AR->Hp->Prop),Inv X p9 Y H s->t Y H Q->↥X (spliced (backTo pos (starEach es X.env))) (AP X p9 Y Q) X.xe s
def PS(X:Cx)(st:Stmt)(t:TS):Prop:=
 ∀(p9:AC)(s:AI)(Y:St)(H:Hp)(D:Ends),Inv X p9 Y H s->t D Y H->↥X (exec st X.env) (SP X p9 D) X.xe s
def PSs(X:Cx)(st:AF)(t:TS):Prop:=
 ∀(p9:AC)(s:AI)(Y:St)(H:Hp)(D:Ends),Inv X p9 Y H s->t D Y H->↥X (execs st X.env) (SP X p9 D) X.xe s
def thn{q:Type}{t:Sem q}{Q g:q->AI->Prop}{M:Model}{A:AM}{E:AG}{s:AI}(h:wpAny M A t Q E s)(z:∀a s,Q a s->g a s):wpAny M A t g E s:=df h z λy y x=>x
section
variable {X:Cx}
theorem bin{a b:AO}{ta tb:TE}(N:PE X a ta)(O:PE X b tb){p9:AC}{s:AI}{Y:St}{H:Hp}{R:V->V->Hp->Prop}(I:Inv X p9 Y H s)(h:ta Y H λx H1=>tb Y H1 λy H2=>R x y H2)
  {J:Type} {Q:J->AI->Prop} {f:AN->AN->Sem J}
  (U:∀v u z x y H2,Inv X p9 Y H2 z->RelV x v->RelV y u->R x y H2->↥X (f v u) Q X.xe z):
  ↥X (eval a X.env) (λv g=>↥X (eval b X.env) (λu q=>↥X (f v u) Q X.xe q) X.xe g) X.xe s:=by
 show thn (N p9 s Y H _ I h) λv s1 zZ=>?_;let(x,H1,L,r1,q1):=zZ;show thn (O p9 s1 Y H1 _ L q1) λu z zZ=>?_;let(y,H2,M,r2,q2):=zZ;exact U v u z x y H2 M r1 r2 q2
def By(i:Nat):TE:=λY H Q=>∃v,Y[i]?=-(-v)/\Q v H
def tC(v:V):TE:=λz H Q=>Q v H
theorem BJ {i:Nat} {x:Str} {pos:Pos} (L:X.N[i]?=-x) (N:Vis X.env.scope x) (J:(x==("__debug__":Str))=false:=by decide) (z:(x==("__classdict__":Str))=false:=by decide):PE X (.Name x pos) (By i):=by
 intro p9 s Y H Q I h;let(v,e,h):=h;let(m,hn,hl):=I.loc;let(u,r,l):=hl i x v L e N;have fin:EP X p9 Y Q u s:=⟨v,H,I,r,h⟩;rcases l with⟨q,M⟩|⟨q,c,hc,g⟩
 .exact wpAny_Name (wpAny_loadName_local I.ok.kind q hn M fin) J
 .rcases q with q|q
  .exact wpAny_Name (wpAny_loadName_cell I.ok.kind q hc g fin) J
  .exact wpAny_Name (wpAny_loadName_free I.ok.kind q hc g fin z) J
theorem Rm{i j pos}:PE X (.Constant (.int i) j pos) (tC (.int i)):=λz z z H z I h=>wpAny_Constant_int ⟨.int i,H,I.tok _,⟨_,rfl⟩,h⟩
theorem Rn{b j pos}:PE X (.Constant (.bool b) j pos) (tC (.bl b)):=λz z z H z I h=>Constant_bool ⟨.bl b,H,I,rfl,h⟩
theorem Ro{j pos}:PE X (.Constant .none j pos) (tC .non):=λz z z H z I h=>Constant_none ⟨.non,H,I,rfl,h⟩
theorem Rp{x j pos}:PE X (.Constant (.str x) j pos) (tC (.str x)):=λz z z H z I h=>Calls.Constant_str ⟨.str x,H,I.tok _,⟨_,rfl⟩,h⟩
def Gl(X:Cx)(x:Str):Prop:=X.env.kindOf x=-.globalImplicit
theorem BK{E:AG}{p9:AC}{s:AI}{Y:St}{H:Hp}{x:Str}{u:AN}{pos:Pos}{Q:AG}(I:Inv X p9 Y H s)(q:Gl X x)(z:X.mg x=-u)(h:Q u s)
  (g:(x==("__debug__":Str))=false:=by decide):↥X (eval (.Name x pos) X.env) Q E s:=
 Calls.Name_function_global I.ok.kind q (Calls.loadGlobal_global (by rw[I.ok.glob];exact I.mod.glob.keeps I.bk) z h) g
theorem iw{E:AG}{p9:AC}{s:AI}{Y:St}{H:Hp}{x:Str}{u:AN}{pos:Pos}{Q:AG}(I:Inv X p9 Y H s)(q:Gl X x)(z:X.mg x=none)(J:bootBuiltins x=-u)(h:Q u s)
  (hn:x≠"__name__":=by decide) (g:(x==("__debug__":Str))=false:=by decide):↥X (eval (.Name x pos) X.env) Q E s:=by
 let(L,h1,h2):=I.mod.blt;exact Calls.Name_function_global I.ok.kind q (Calls.loadGlobal_builtin (by rw[I.ok.glob];exact I.mod.glob.keeps I.bk) z (by rw[I.ok.blt];exact h1.keeps I.bk) ((h2 x hn).trans J) h) g
theorem Rq {x:Str} {v:V} {u:AN} {pos:Pos} (q:Gl X x) (z:X.mg x=-u) (r:RelV v u) (g:(x==("__debug__":Str))=false:=by decide):PE X (.Name x pos) (tC v):=
 λy y y H y I h=>BK I q z ⟨v,H,I,r,h⟩ g
theorem Rt {x:Str} {v:V} {u:AN} {pos:Pos} (q:Gl X x) (z:X.mg x=none) (J:bootBuiltins x=-u) (r:RelV v u) (hn:x≠"__name__":=by decide) (g:(x==("__debug__":Str))=false:=by decide):PE X (.Name x pos) (tC v):=
 λy y y H y I h=>iw I q z J ⟨v,H,I,r,h⟩ hn g
variable {a b:AO} {ta tb:TE} {pos:Pos}
variable {tA tB':TT} {rest:AE}
def Ru(t u:TT):TT:=λY H Q=>t Y H λc H1=>if c=true then u Y H1 Q else Q false H1
def tOr(t u:TT):TT:=λY H Q=>t Y H λc H1=>if c=true then Q true H1 else u Y H1 Q
def Rv(t:TT):TT:=λY H Q=>t Y H λc H1=>Q (!c) H1
theorem Rw(g:PT X a tA):PW X (.BoolOp .And [a] pos) tA:=by
 intro z p9 s Y H Q I h;show isTrue_and (thn (g p9 s Y H Q I h) λc q e=>?_);cases c with
 |true=>exact isTrue_and_nil e
 |false=>exact e
theorem Rx(g:PT X a tA):PW X (.BoolOp .Or [a] pos) tA:=by
 intro z p9 s Y H Q I h;show isTrue_or (thn (g p9 s Y H Q I h) λc q e=>?_);cases c with
 |false=>exact isTrue_or_nil e
 |true=>exact e
theorem Ry(z:PT X a tA)(J:PW X (.BoolOp .And (b::rest) pos) tB'):PW X (.BoolOp .And (a::b::rest) pos) (Ru tA tB'):=by
 intro M p9 s Y H Q I h;show isTrue_and (thn (z p9 s Y H _ I h) λc L zZ=>?_);let(H1,g,q):=zZ;cases c with
 |true=>exact J M p9 L Y H1 Q g q
 |false=>exact⟨H1,g,q⟩
theorem Rz(z:PT X a tA)(J:PW X (.BoolOp .Or (b::rest) pos) tB'):PW X (.BoolOp .Or (a::b::rest) pos) (tOr tA tB'):=by
 intro M p9 s Y H Q I h;show isTrue_or (thn (z p9 s Y H _ I h) λc L zZ=>?_);let(H1,g,q):=zZ;cases c with
 |true=>exact⟨H1,g,q⟩
 |false=>exact J M p9 L Y H1 Q g q
theorem RB(g:PT X a tA):PT X (.UnaryOp .Not a pos) (Rv tA):=by intro p9 s Y H Q I h;exact isTrue_not (g p9 s Y H (λc H1=>Q (!c) H1) I h)
def RC(ta tb:TE):TE:=λY H Q=>ta Y H λx H1=>∃c,x=.bl c/\if c=true then tb Y H1 Q else Q (.bl false) H1
def RD(ta tb:TE):TE:=λY H Q=>ta Y H λx H1=>∃c,x=.bl c/\if c=true then Q (.bl true) H1 else tb Y H1 Q
theorem RG{op}{t:TE}(h:PE X a t):PE X (.BoolOp op [a] pos) t:=λp9 s Y H Q I hw=>BoolOp_one (h p9 s Y H Q I hw)
theorem RJ(z:PE X a ta)(J:PE X (.BoolOp .And (b::rest) pos) tb):PE X (.BoolOp .And (a::b::rest) pos) (RC ta tb):=by
 intro p9 s Y H Q I h;show BoolOp_and (thn (z p9 s Y H _ I h) λv M zZ=>?_);let(x,H1,q,L,g):=zZ;let(c,rfl,g):=g;cases L;show eM ?_;cases c with
 |true=>exact J p9 M Y H1 Q q g
 |false=>exact⟨.bl false,H1,q,rfl,g⟩
theorem RK(z:PE X a ta)(J:PE X (.BoolOp .Or (b::rest) pos) tb):PE X (.BoolOp .Or (a::b::rest) pos) (RD ta tb):=by
 intro p9 s Y H Q I h;show BoolOp_or (thn (z p9 s Y H _ I h) λv M zZ=>?_);let(x,H1,q,L,g):=zZ;let(c,rfl,g):=g;cases L;show eM ?_;cases c with
 |false=>exact J p9 M Y H1 Q q g
 |true=>exact⟨.bl true,H1,q,rfl,g⟩
def tIf(t:TT)(ta tb:TE):TE:=λY H Q=>t Y H λc H1=>if c=true then ta Y H1 Q else tb Y H1 Q
theorem RL{c:AO}(hc:PT X c tA)(J:PE X a ta)(L:PE X b tb):PE X (.IfExp c a b pos) (tIf tA ta tb):=by
 intro p9 s Y H Q I h;show wpAny_IfExp (thn (hc p9 s Y H _ I h) λd z zZ=>?_);let(H1,g,q):=zZ;cases d with
 |true=>exact J p9 z Y H1 Q g q
 |false=>exact L p9 z Y H1 Q g q
end
def SqL(K:PF)(H:Hp)(a:AQ)(xs:AR):Prop:=
 Rd H a (.lst xs)\/
  ∃(o:Obj) (its:Array AN) (n:Nat),K.lookup a=-o/\o.cls=.type "list"/\o.dict=none/\o.data=.seq its n/\its.size<=sizeLine/\Vals xs its.toList
def SqT(K:PF)(H:Hp)(a:AQ)(xs:AR):Prop:=
 Rd H a (.tup xs)\/
  ∃(o:Obj) (its:Array AN) (n:Nat),K.lookup a=-o/\o.cls=.type "tuple"/\o.data=.seq its n/\its.size<=sizeLine/\Vals xs its.toList
def RM:AN->Option V
 |.none=>-.non
 |.bool b=>-(.bl b)
 |.int i _=>-(.int i)
 |.str x _=>-(.str x)
 |.bytes b _=>-(.byt b)
 |.float b _=>-(.flt b)
 |.ref a=>-(.ref a)
 |.type n=>-(.ty n)
 |_=>none
def RelV.abs{x:V}{u:AN}(r:RelV x u):RM u=-x:=by
 cases x with
 |non=>cases r;rfl
 |bl _=>cases r;rfl
 |int _=>let(t,rfl):=r;rfl
 |str _=>let(t,rfl):=r;rfl
 |byt _=>let(t,rfl):=r;rfl
 |flt _=>let(t,rfl):=r;rfl
 |ref _=>cases r;rfl
 |ty _=>cases r;rfl
def RelV.inj{x y:V}{u:AN}(r:RelV x u)(q:RelV y u):x=y:=eI (r.abs.symm.trans q.abs)
def Vals.inj:∀{xs ys:AR}{g:AB},Vals xs g->Vals ys g->xs=ys
 |_,_,_,.nil,.nil=>rfl
 |_,_,_,.cons r t,.cons r' t'=>by rw[r.inj r',Vals.inj t t']
section
variable {X:Cx} {p9:AC} {σ:St} {H:Hp} {s:AI} {a:AQ} {xs ys:AR}
theorem SqL.of{K:PF}(h:H a=-(.lst xs)):SqL K H a xs:=.inl (.inl h)
theorem SqT.of{K:PF}(h:H a=-(.tup xs)):SqT K H a xs:=.inl (.inl h)
theorem Inv.list(I:Inv X p9 σ H s)(h:SqL X.K H a xs):∃g:AB,Vals xs g/\PlainL s.heap a g.toArray/\xs⁻¹<=sizeLine:=by
 rcases h with h|⟨o,g,n,J,hc,q,hs,L,r⟩
 .let(z,g,n,r,e):=h.ok I.hok;exact⟨g,r,⟨_,n,e,rfl,rfl,rfl⟩,z⟩
 .show ⟨g.toList,r,⟨o,n,I.kIn a o J,hc,q,!!hs⟩,?_⟩;have e:=r⁻¹;simp only[cy]at e;lia
theorem Inv.tuple(I:Inv X p9 σ H s)(h:SqT X.K H a xs):∃g:AB,Vals xs g/\IsTup s.heap a g.toArray/\xs⁻¹<=sizeLine:=by
 rcases h with h|⟨o,g,n,q,hc,hs,J,r⟩
 .let(z,g,r,p):=h.ok I.hok;exact⟨g,r,p.tup,z⟩
 .show ⟨g.toList,r,⟨o,I.kIn a o q,hc,n,!!hs⟩,?_⟩;have e:=r⁻¹;simp only[cy]at e;lia
theorem Inv.list_inj(I:Inv X p9 σ H s)(h:SqL X.K H a xs)(h':SqL X.K H a ys):xs=ys:=by
 let(g,r,(o,n,e,_,_,d),_):=I.list h;let(its',z,(o',J,q,_,_,d'),_):=I.list h';rw[e]at q;cases q;rw[d]at d';injection d' with d1 _;have:g=its':=by simpa using fb Array.toList d1
 subst this;exact r.inj z
theorem Inv.tuple_inj(I:Inv X p9 σ H s)(h:SqT X.K H a xs)(h':SqT X.K H a ys):xs=ys:=by
 let(g,r,(o,e,_,n,d),_):=I.tuple h;let(its',z,(o',q,_,J,d'),_):=I.tuple h';rw[e]at q;cases q;rw[d]at d';injection d' with d1 _;have:g=its':=by simpa using fb Array.toList d1
 subst this;exact r.inj z
end
abbrev Cx.wish(X:Cx)(E:AG):Cx:={X with xe:=E}
abbrev Cx.nox(X:Cx):Cx:=X.wish λz z=>False
def Cx.Ok.wish{X:Cx}(ok:X.Ok)(E:AG):(X.wish E).Ok:=
 ⟨ok.mod,ok.kind,ok.glob,ok.blt,ok.above,ok.inj,ok.has,ok.cab,ok.hd,ok.frames,ok.stk,ok.exf,ok.bs,ok.bsz,ok.noex,ok.exfs,ok.funs,ok.frf⟩
def Cx.Ok.unwish{X:Cx}{E:AG}(ok:(X.wish E).Ok):X.Ok:=
 ⟨ok.mod,ok.kind,ok.glob,ok.blt,ok.above,ok.inj,ok.has,ok.cab,ok.hd,ok.frames,ok.stk,ok.exf,ok.bs,ok.bsz,ok.noex,ok.exfs,ok.funs,ok.frf⟩
section
variable {X:Cx} {p9:AC} {σ:St} {H:Hp} {s:AI} {E:AG}
theorem Inv.wish(I:Inv X p9 σ H s)(E:AG):Inv (X.wish E) p9 σ H s:=⟨I.ok.wish E,I.os,I.bare,I.base,I.loc,I.cell,I.free,I.freeC,I.pin,I.hok,I.len⟩
theorem Inv.unwish(I:Inv (X.wish E) p9 σ H s):Inv X p9 σ H s:=⟨I.ok.unwish,I.os,I.bare,I.base,I.loc,I.cell,I.free,I.freeC,I.pin,I.hok,I.len⟩
theorem SP.unwish{D:Ends}{f:Flow}{s':AI}(h:SP (X.wish E) p9 D f s'):SP X p9 D f s':=by
 cases f with
 |next=>let(g,H',I,q):=h;exact⟨g,H',I.unwish,q⟩
 |brk=>let(g,H',I,q):=h;exact⟨g,H',I.unwish,q⟩
 |cont=>let(g,H',I,q):=h;exact⟨g,H',I.unwish,q⟩
 |ret u=>let(v,g,H',I,r,q):=h;exact⟨v,g,H',I.unwish,r,q⟩
theorem PSs.nox{st:AF}{t:TS}(h:PSs X.nox st t):PSs X st t:=λp9 s σ H D I hw=>
 df (h p9 s σ H D (I.wish _) hw) (λy y q=>q.unwish) λy y z=>False.elim z
end
section
variable {X:Cx} {st:Stmt} {rest:AF} {t u:TS} {e:AO} {te:TE} {pos:Pos}
def BL:TS:=λD Y H=>D.nx Y H
def RN(t u:TS):TS:=λD Y H=>t {D with nx:=u D} Y H
theorem RP:PSs X [] BL:=λz z Y H z I h=>wpAny_execs_nil ⟨Y,H,I,h⟩
theorem RQ(h1:PS X st t)(h2:PSs X rest u):PSs X (st::rest) (RN t u):=by
 intro p9 s Y H D I h;show wpAny_execs_cons (thn (h1 p9 s Y H {D with nx:=u D} I h) λf J q=>?_);cases f with
 |next=>
  let(g,H',z,q):=q;exact h2 p9 J g H' D z q
 |ret v=>exact q
 |brk=>exact q
 |cont=>exact q
def RT:TS:=λD Y H=>D.bk Y H
def RV:TS:=λD Y H=>D.ct Y H
theorem RW:PS X (.Pass pos) BL:=λz z Y H z I h=>wpAny_Pass ⟨Y,H,I,h⟩
theorem RX:PS X (.Break pos) RT:=λz z Y H z I h=>wpAny_Break ⟨Y,H,I,h⟩
theorem RZ:PS X (.Continue pos) RV:=λz z Y H z I h=>wpAny_Continue ⟨Y,H,I,h⟩
theorem Inv.quiet{p9:AC}{Y:St}{H:Hp}{s:AI}(I:Inv X p9 Y H s):interactive X.env=false:=by simp[interactive,I.ok.kind]
def R0(te:TE):TS:=λD Y H=>te Y H λz H1=>D.nx Y H1
theorem R1(he:PE X e te)(hs:swapsWith e none pos.line X.env=pure false:=by rfl):PS X (.Expr e pos) (R0 te):=by intro p9 s Y H D I h;show wpAny_Expr_any (thn (he p9 s Y H _ I h) λv J zZ=>?_) I.quiet hs;let(x,H1,g,z,q):=zZ;exact⟨Y,H1,g,q⟩
def BP(te:TE):TS:=λD Y H=>te Y H D.rt
theorem R3(he:PE X e te):PS X (.Return (-e) pos) (BP te):=by intro p9 s Y H D I h;show wpAny_Return_some (thn (he p9 s Y H _ I h) λv J zZ=>?_);let(x,H1,g,z,q):=zZ;exact⟨x,Y,H1,g,z,q⟩
def R4:TS:=λD z H=>D.rt .non H
theorem R5:PS X (.Return none pos) R4:=λz z Y H z I h=>wpAny_Return_none ⟨.non,Y,H,I,rfl,h⟩
def R6(c:TT)(t u:TS):TS:=λD Y H=>c Y H λb H1=>if b=true then t D Y H1 else u D Y H1
theorem R7{c:AO}{a b:AF}{tc:TT}(hc:PT X c tc)(J:PSs X a t)(L:PSs X b u):PS X (.If c a b pos) (R6 tc t u):=by
 intro p9 s Y H D I h;show wpAny_If (thn (hc p9 s Y H _ I h) λd z zZ=>?_);let(H1,g,q):=zZ;cases d with
 |true=>exact J p9 z Y H1 D g q
 |false=>exact L p9 z Y H1 D g q
def R8:TS:=λz z z=>False
theorem R9:PS X st R8:=λz z z z z z h=>h.elim
end
abbrev TG:=V->St->Hp->(St->Hp->Prop)->Prop
abbrev TGs:=AR->St->Hp->(St->Hp->Prop)->Prop
def PG(X:Cx)(g:AO)(t:TG):Prop:=
 ∀(p9:AC)(s:AI)(Y:St)(H:Hp)(v:V)(u:AN)(Q:St->Hp->Prop),Inv X p9 Y H s->RelV v u->t v Y H Q->
  ↥X (assign g X.env u) (λz s'=>∃q H',Inv X p9 q H' s'/\Q q H') X.xe s
def PGs(X:Cx)(ts:AE)(t:TGs):Prop:=
 ∀(p9:AC)(s:AI)(Y:St)(H:Hp)(vs:AR)(q:AB)(Q:St->Hp->Prop),Inv X p9 Y H s->Vals vs q->t vs Y H Q->
  ↥X (assignInOrder ((assignEach ts X.env).map (·.2)) q) (λz s'=>∃g H',Inv X p9 g H' s'/\Q g H') X.xe s
abbrev uZ:=V->V->V->Hp->(Hp->Prop)->Prop
def u5(X:Cx)(t:uZ):Prop:=
 ∀(p9:AC)(s:AI)(Y:St)(H:Hp)(o i v:V)(q g u:AN)(Q:Hp->Prop),Inv X p9 Y H s->RelV o q->RelV i g->RelV v u->t o i v H Q->
  ↥X (setItem q g u) (λz s'=>∃H',Inv X p9 Y H' s'/\Q H') X.xe s
abbrev TIp:=V->V->Hp->VK->Prop
def PIp(X:Cx)(op:Operator)(t:TIp):Prop:=
 ∀(p9:AC)(s:AI)(Y:St)(H:Hp)(x y:V)(v u:AN)(Q:VK),Inv X p9 Y H s->RelV x v->RelV y u->t x y H Q->
  ↥X (inplaceOp op v u) (EP X p9 Y Q) X.xe s
section
variable {X:Cx} {pos:Pos}
def ju(i:Nat):TG:=λv Y H Q=>Q (Y.set i (-v)) H
theorem Sd{i:Nat}{x:Str}(q:X.N.Nodup)(hi:X.N[i]?=-x)(J:Loc X.env.scope x)(z:X.fn x=true\/X.env.scope.names.lookup x=-.local:=by first|exact .inl rfl|exact .inr rfl|assumption):PG X (.Name x pos) (ju i):=by intro p9 s Y H v u Q I r h;exact g9 (jt I q hi J r (λs' g=>⟨_,H,g,h⟩) z)
def Sg:TGs:=λvs Y H Q=>vs=[]/\Q Y H
def Sq(t:TG)(u:TGs):TGs:=λvs Y H Q=>∃v r,vs=v::r/\t v Y H λg H'=>u r g H' Q
theorem Ss:PGs X [] Sg:=by intro p9 s Y H vs g Q I r h;let(e,h):=h;subst e;cases r;exact assignInOrder_nil ⟨Y,H,I,h⟩
theorem Su{e:AO}{es:AE}{t:TG}{u:TGs}(h1:PG X e t)(h2:PGs X es u)
  (hs:(assignEach (e::es) X.env).map (·.2)=assign e X.env::(assignEach es X.env).map (·.2):=by rfl):PGs X (e::es) (Sq t u):=by
 intro p9 s Y H vs N Q I r h;let(v,O,z,h):=h;subst z;cases r with
 |cons r L=>
  rw[hs];show assignInOrder_cons (thn (h1 p9 s Y H _ _ _ I r h) λy M zZ=>?_);let(g,H1,q,J):=zZ;exact h2 p9 M g H1 _ _ Q q L J
def Sv(K:PF)(n:Nat)(t:TGs):TG:=λv Y H Q=>∃a xs,v=.ref a/\SqT K H a xs/\xs⁻¹=n/\t xs Y H Q
theorem Sw{es:AE}{k:Nat}{t:TGs}{n:Nat}(hc:X.calm=true)(h:PGs X es t)
  (hn:(assignEach es X.env)⁻¹=n:=by rfl) (g:(assignEach es X.env).findIdx? (·.1)=none:=by rfl):PG X (.Tuple es k pos) (Sv X.K n t):=by
 intro p9 s Y H v u Q I r hw;let(a,xs,J,L,hl,hw):=hw;subst J;cases r;let(O,q,M,U):=I.tuple L;show assign_Tuple_tuple (I.ok.hd hc) M (by simp[hn,<-hl,q⁻¹]) g λh' N=>?_;have z:Inv X p9 Y H {s with heap:=h'}:=I.kept (t':=s.toks) λb o e=>N b o (bX (ay e)) e;exact h p9 _ Y H xs _ Q z (!!q) hw
def Sy(to q:TE)(t:uZ):TG:=λv Y H Q=>to Y H λo H1=>q Y H1 λi H2=>t o i v H2 λg=>Q Y g
theorem SJ{o i:AO}{to z:TE}{t:uZ}(U:PE X o to)(hi:PE X i z)(hs:u5 X t)
  (O:∀v,assign (.Subscript o i pos) X.env v=(do
   let g <-holding [v] (eval o X.env)
   let q <-holding [v,g] (eval i X.env)
   standAt pos
   holding [v,g,q] (setItem g q v)
   release [v,g,q] []):=by intro _;rfl):PG X (.Subscript o i pos) (Sy to z t):=by
 intro p9 s Y H v u Q I r h;rw[O];show ab (cK (thn (U p9 s Y H _ I h) λg s1 zZ=>?_));let(x,H1,L,r1,q1):=zZ;show ab (cK (thn (hi p9 s1 Y H1 _ L q1) λq s2 zZ=>?_));let(y,H2,M,r2,q2):=zZ;show ab (fv (ab (cK (thn (hs p9 s2 Y H2 x y v g q u _ M r1 r2 r q2) λp s3 zZ=>?_))));let(J,N,q3):=zZ;exact wpAny_release ⟨Y,J,N,q3⟩
def jw(te:TE)(g:TG):TS:=λD Y H=>te Y H λx H1=>g x Y H1 D.nx
theorem BR{tg e:AO}{te:TE}{g:TG}(he:PE X e te)(J:PG X tg g)(hs:swapsWithSole [tg] e pos.line X.env=pure false:=by rfl)(hw:swappedStores [tg] e X.env=pure none:=by rfl)
  (h1:(assignEach [tg] X.env).map (·.2)=[assign tg X.env]:=by rfl):PS X (.Assign [tg] e pos) (jw te g):=by
 intro p9 s Y H D I h;show wpAny_Assign_stores (thn (he p9 s Y H _ I h) λv N zZ=>?_) hs hw;let(x,H1,z,M,L):=zZ;rw[h1];exact thn (J p9 N Y H1 x v _ z M L) λy O q=>q
theorem qN{i:Nat}{x:Str}{e:AO}{te:TE}{g:Pos}(J:X.N.Nodup)(hi:X.N[i]?=-x)(M:Loc X.env.scope x)(he:PE X e te)(hs:swapsWith e (-(.Name x g)) pos.line X.env=pure false:=by rfl)(L:X.fn x=true\/X.env.scope.names.lookup x=-.local:=by first|exact .inl rfl|exact .inr rfl|assumption):
  PS X (.Assign [.Name x g] e pos) (jw te (ju i)):=by
 intro p9 s Y H D I h;show wpAny_Assign_Name (thn (he p9 s Y H _ I h) λv U zZ=>?_) hs;let(y,H1,q,O,N):=zZ;exact jt q J hi M O (λs2 z=>⟨_,H1,z,N⟩) L
def SM(i:Nat)(te:TE)(g:TIp):TS:=λD Y H=>∃x,Y[i]?=-(-x)/\te Y H λy H1=>g x y H1 λz H2=>D.nx (Y.set i (-z)) H2
theorem SN{i:Nat}{x:Str}{e:AO}{te:TE}{op:Operator}{O:TIp}{J:Pos}(hN:X.N.Nodup)(hi:X.N[i]?=-x)(N:Loc X.env.scope x)(he:PE X e te)(ho:PIp X op O)(hf:X.fn x=true\/X.env.scope.names.lookup x=-.local:=by first|exact .inl rfl|exact .inr rfl|assumption):
  PS X (.AugAssign (.Name x J) op e pos) (SM i te O):=by
 intro p9 s Y H D I h;let(v,e1,h):=h;let(m,hn,hl):=I.loc;have vis:Vis X.env.scope x:=by rcases N with k|k;exact .inl k;exact .inr (.inl k)
 let(u,r,l):=hl i x v hi e1 vis;show wpAny_AugAssign_Name ?_;have go:↥X (eval e X.env) (λw L=>↥X (inplaceOp op u w) (λr M=>↥X (storeName X.env x r) (λt=>SP X p9 D .next) X.xe M) X.xe L) X.xe s:=by show thn (he p9 s Y H _ I h) λw s1 zZ=>?_;let(y,H1,U,r1,q1):=zZ;show thn (ho p9 s1 Y H1 v y u w _ U r r1 q1) λz s2 zZ=>?_;let(zv,H2,I2,r2,q2):=zZ;exact jt I2 hN hi N r2 (λs3 I3=>⟨_,H2,I3,q2⟩) hf
 rcases l with⟨g,hm⟩|⟨g,c,hc,q⟩
 .exact wpAny_loadName_local I.ok.kind g hn hm go
 .rcases g with g|g
  .exact wpAny_loadName_cell I.ok.kind g hc q go
  .rcases N with k|k
   .have:X.env.scope.names.lookup x=-.free:=g;rw[k]at this;cases this
   .have:X.env.scope.names.lookup x=-.free:=g;rw[k]at this;cases this
end
section
variable {X:Cx} {pos:Pos}
def SQ(c:TT)(tb:TS):TS:=λD Y H=>∃W:Nat->St->Hp->Prop,(∃m,W m Y H)/\∀m Y H,W m Y H->
 c Y H λb H1=>if b=true then ∃N:St->Hp->Prop,(∀g H',N g H'->∃q,q<m/\W q g H')/\tb {D with nx:=N,ct:=N,bk:=D.nx} Y H1 else D.nx Y H1
theorem SX{c:AO}{body:AF}{tc:TT}{tb:TS}(hp:PassesOwn (model X.prog X.w) X.A X.env X.xe)(hc:PT X c tc)(hb:PSs X body tb):PS X (.While c body [] pos) (SQ tc tb):=by
 intro p9 s Y H D I h;let(W,(m0,w0),J):=h;show wpAny_While (codeAny_whileLoop (λn s'=>∃L H',Inv X p9 L H' s'/\W n L H') ?_ m0 ⟨Y,H,I,w0⟩);rintro n s1 ⟨q,H1,I1,w1⟩;show fT hp (thn (hc p9 s1 q H1 _ I1 (J n q H1 w1)) λb s2 zZ=>?_);let(H2,I2,M):=zZ;cases b with
 |true=>
  let(N,hN,M):=M;rw[if_pos rfl];show fT hp (thn (hb p9 s2 q H2 _ I2 M) λf s3 O=>?_);cases f with
  |next=>
   let(g,z,U,n3):=O;let(m',hm,w3):=hN g z n3;exact⟨m',hm,g,z,U,w3⟩
  |cont=>
   let(g,z,U,n3):=O;let(m',hm,w3):=hN g z n3;exact⟨m',hm,g,z,U,w3⟩
  |brk=>exact O
  |ret v=>exact O
 |false=>
  rw[if_neg bg];exact wpAny_execs_nil ⟨q,H2,I2,M⟩
end
structure It where
 go:Nat->Hp->Prop
 yld:Nat->Hp->V->Hp->Prop
 stop:Nat->Hp->Prop
def cX(X:Cx)(p9:AC)(H:Hp)(b:AQ):Prop:=
 H b=none/\b≠X.env.locals/\b∉X.fs/\(b∈X.ex\/X.s₀.heap.objs.size<=b)/\(∀x c,X.env.cells.lookup x=-c->c≠b)/\∀p∈X.pn++p9,p.1≠b
def Inv.fpOk{X:Cx}{p9:AC}{Y:St}{H H':Hp}{s:AI}{b:AQ}(I:Inv X p9 Y H s)(g:(~~~s)<=b)(hn:H' b=none):cX X p9 H' b:=by
 show⟨hn,fx (bp I.lt g),I.nofs g,.inr (b5 I.sz g),λx c e z=>?_,λp J z=>?_⟩
 .let(v,q):=I.cell x c e;exact absurd (bp q.lt (by rw[z];exact g)) (eT _)
 .exact absurd (bp (ay (I.pin p J).1) (by rw[z];exact g)) (eT _)
structure Turn(P:AK)(w:World)(K:PF)(tg:AO)(J:It)(fp:List AQ)(it:AQ)(tn:Nat->Heap->Prop):Prop where
 mem:it∈fp
 obj:∀i h,tn i h->∀b∈fp,∃o,h.get? b=some o/\∀v,o.data≠.cell v
 keep:∀i h h',tn i h->(∀b∈fp,∀o,h.get? b=some o->h'.get? b=some o)->tn i h'
 item:∀(X:Cx),X.prog=P->X.w=w->X.K=K->X.calm=true->∀(i:Nat)(p9:AC)(s:AI)(Y:St)(H:Hp)(E:AG),Inv X p9 Y H s->(∀b∈fp,cX X p9 H b)->tn i s.heap->J.go i H->
  wpAny (model P w) X.A (pyNext (.ref it)) (λr s1=>∃u,r=some u/\
   wpAny (model P w) X.A (letOwnedTupleGo tg (.ref it) u) (λz s2=>∃x H',Inv X p9 Y H' s2/\RelV x u/\J.yld i H x H'/\tn (i+1) s2.heap/\∀b∈fp,H' b=none) E s1) E s
 done:∀(X:Cx),X.prog=P->X.w=w->X.K=K->X.calm=true->∀(i:Nat)(p9:AC)(s:AI)(Y:St)(H:Hp)(E:AG),Inv X p9 Y H s->(∀b∈fp,cX X p9 H b)->tn i s.heap->J.stop i H->
  wpAny (model P w) X.A (pyNext (.ref it)) (λr s1=>r=none/\Inv X p9 Y H s1) E s
 self:∀(A:AM)(i:Nat)(s:AI)(Q:AG)(E:AG),tn i s.heap->Q (.ref it) s->wpAny (model P w) A (pyIter (.ref it)) Q E s
abbrev TI:=St->Hp->(It->Hp->Prop)->Prop
def PIE(X:Cx)(p9:AC)(Y:St)(tg:AO)(R:It->Hp->Prop)(g:AN)(q:AI):Prop:=
 ∃(it:AQ)(fp:List AQ)(z:Nat->Heap->Prop)(J:It)(H':Hp),g=.ref it/\Inv X p9 Y H' q/\Turn X.prog X.w X.K tg J fp it z/\z 0 q.heap/\(∀b∈fp,cX X p9 H' b)/\R J H'
def PI(X:Cx)(tg iter:AO)(q:TI):Prop:=
 ∀(p9:AC)(s:AI)(Y:St)(H:Hp)(R:It->Hp->Prop),Inv X p9 Y H s->q Y H R->
  ↥X (eval iter X.env) (λv g=>↥X (pyIter v) (PIE X p9 Y tg R) X.xe g) X.xe s
def qO{M:Model}{A:AM}{E:AG}{s:AI}{tg:AO}{it:AQ}{u:AN}{o:Obj}{n:AL}{vs:Array AN}{Q:Unit->AI->Prop}(z:s.heap.get? it=-o)(hc:o.cls=.type n)(q:o.data=.fields vs)
  (hn:["enumerate","zip","dict_itemiterator","dict_reverseitemiterator","odict_iterator","itertools.zip_longest","itertools.pairwise"].contains n=false) (g:Q () s):wpAny M A (letOwnedTupleGo tg (.ref it) u) Q E s:=by
 unfold letOwnedTupleGo;cases tg<;>first
  |exact ai g
  | (cases u<;>first
    |exact ai g
    | (show ab (wpAny_load z ?_)
       rw[hc,q];change wpAny M A (if(["enumerate","zip","dict_itemiterator","dict_reverseitemiterator","odict_iterator","itertools.zip_longest","itertools.pairwise"].contains n&&vs[0]?==-(rawInt _))=true then _ else _) Q E s;rw[if_neg (by intro h;rw[hn,Bool.false_and]at h;cases h)];exact ai g))
def Itl(K:PF)(a:AQ):It:=
 ⟨λi H=>∃xs x,SqL K H a xs/\xs[i]?=-x,λi H x H'=>H'=H/\∀xs,SqL K H a xs->xs[i]?=-x,λi H=>∃xs,SqL K H a xs/\xs⁻¹<=i⟩
def Itt(K:PF)(a:AQ):It:=
 ⟨λi H=>∃xs x,SqT K H a xs/\xs[i]?=-x,λi H x H'=>H'=H/\∀xs,SqT K H a xs->xs[i]?=-x,λi H=>∃xs,SqT K H a xs/\xs⁻¹<=i⟩
def Itr(lo:Int)(n:Nat):It:=⟨λi z=>i<n,λi H x H'=>H'=H/\x=.int (lo+i),λi z=>n<=i⟩
def BV{P:AK}{w:World}{K:PF}{tg:AO}(a it:AQ):Turn P w K tg (Itl K a) [it] it (λi h=>h.IsListIter it a i) where
 mem:=by simp
 obj:=λi h st b g=>by
  have e:b=it:=by simpa using g
  subst e;let(o,e,c,d):=st;exact⟨o,e,λv z=>by rw[d]at z;cases z⟩
 keep:=λi h h' st k=>st.at λo e=>k it (!2) o e
 item:=by intro X N hw M hc i p9 s Y H E I J st O;subst N hw M;let(xs,x,L,U):=O;let(its,rv,p,hz):=I.list L;let(u,hu,ru):=rv.get U;let(f0,f1,f2,f3,f4,f5):=J it (!2);show wpAny_pyNext_list_item st p.isList (x:=u) (!!hu) λh' q sb=>?_;have I1:Inv X p9 Y H {s with heap:=h'}:=I.turned (t':=s.toks) (λb o g e=>(sb.2 b g).trans e) f0 f1 f3 f4 f5;let(o,e,c,d):=id q;exact⟨u,rfl,qO (s:={s with heap:=h'}) e c d (!1) ⟨x,H,I1,ru,⟨rfl,λys hy=>by rw[I.list_inj hy L];exact U⟩,q,λb g=>(J b g).1⟩⟩
 done:=by intro X N hw M hc i p9 s Y H E I J st O;subst N hw M;let(xs,L,U):=O;let(its,rv,p,hz):=I.list L;let(f0,f1,f2,f3,f4,f5):=J it (!2);have hl:=rv⁻¹;exact wpAny_pyNext_list_end (I.ok.hd hc) st p.isList (by simp;lia) λh' eb=>⟨rfl,I.turned (t':=s.toks) (λb o g e=>eb b o g e) f0 f1 f3 f4 f5⟩
 self:=λy y y y y st h=>wpAny_pyIter_listiter st h
def BW{P:AK}{w:World}{K:PF}{tg:AO}(a it:AQ):Turn P w K tg (Itt K a) [it] it (λi h=>h.IsTupleIter it a i) where
 mem:=by simp
 obj:=λi h st b g=>by
  have e:b=it:=by simpa using g
  subst e;let(o,e,c,d):=st;exact⟨o,e,λv z=>by rw[d]at z;cases z⟩
 keep:=λi h h' st k=>st.at λo e=>k it (!2) o e
 item:=by intro X O hw N hc i p9 s Y H E I L st U;subst O hw N;let(xs,x,M,hx):=U;let(q,rv,p,hz):=I.tuple M;let(u,hu,ru):=rv.get hx;let(f0,f1,f2,f3,f4,f5):=L it (!2);show wpAny_pyNext_tuple_item st (show s.heap.IsTuple a q.toArray from p) (x:=u) (!!hu) λh' J sb=>?_;have I1:Inv X p9 Y H {s with heap:=h'}:=I.turned (t':=s.toks) (λb o g e=>(sb.2 b g).trans e) f0 f1 f3 f4 f5;let(o,e,c,d):=id J;exact⟨u,rfl,qO (s:={s with heap:=h'}) e c d (!1) ⟨x,H,I1,ru,⟨rfl,λys hy=>by rw[I.tuple_inj hy M];exact hx⟩,J,λb g=>(L b g).1⟩⟩
 done:=by intro X O hw N hc i p9 s Y H E I L st U;subst O hw N;let(xs,M,hx):=U;let(q,rv,p,hz):=I.tuple M;let(f0,f1,f2,f3,f4,f5):=L it (!2);have hl:=rv⁻¹;exact wpAny_pyNext_tuple_end (I.ok.hd hc) st (show s.heap.IsTuple a q.toArray from p) (by simp;lia) λh' eb=>⟨rfl,I.turned (t':=s.toks) (λb o g e=>eb b o g e) f0 f1 f3 f4 f5⟩
 self:=λy y y y y st h=>wpAny_pyIter_tupleiter st h
def S5{P:AK}{w:World}{K:PF}{tg:AO}(it:AQ)(lo:Int)(n:Nat):Turn P w K tg (Itr lo n) [it] it (λi h=>IsRangeIter h it (lo+(i:Nat)*1) ((n:Int)-(i:Nat)) 1) where
 mem:=by simp
 obj:=λi h st b g=>by
  have e:b=it:=by simpa using g
  subst e;exact⟨_,st,λv z=>by
   have z':Data.fields _=Data.cell v:=z;cases z'⟩
 keep:=λi h h' st k=>k it (!2) _ st
 item:=by intro X M hw L hc i p9 s Y H E I J st N;subst M hw L;let(f0,f1,f2,f3,f4,f5):=J it (!2);have W:=Walks.range (prog:=X.prog) (w:=X.w) (I.ok.hd hc) it lo 1 n;show W.item i s _ _ N st λv h' O hv q kk=>?_;let(t,rfl):=hv;have U:Inv X p9 Y H {s with heap:=h',toks:=O}:=I.turned (λb o g e=>kk b o (!!g) e) f0 f1 f3 f4 f5;show⟨_,rfl,qO (s:={s with heap:=h',toks:=O}) (n:="range_iterator") q rfl rfl (!1) ⟨.int (lo+i),H,U,⟨t,?_⟩,⟨rfl,rfl⟩,q,λb g=>(J b g).1⟩⟩;rw[Int.mul_one]
 done:=by intro X M hw L hc i p9 s Y H E I J st N;subst M hw L;let(f0,f1,f2,f3,f4,f5):=J it (!2);exact wpAny_pyNext_range_end (I.ok.hd hc) st (by have:n<=i:=N;lia) λh' eb=>⟨rfl,I.turned (t':=s.toks) (λb o g e=>eb b o g e) f0 f1 f3 f4 f5⟩
 self:=λy y y y y st h=>wpAny_pyIter_rangeiter st h
section
variable {X:Cx} {tg:AO}
theorem S6{p9:AC}{Y:St}{H:Hp}{s:AI}{R:It->Hp->Prop}{E:AG}{lo hi:Int}{t u v:Tok}{z:Nat}(I:Inv X p9 Y H s)(h1:Neg.neg (2 ^ 62)<=lo)(h2:lo<2 ^ 62)(M:Neg.neg (2 ^ 62)<=hi)(N:hi<2 ^ 62)
  (q:R (Itr lo (hi-lo).toNat) H):↥X (pyIter (.ref (~~~s))) (PIE X p9 Y tg R) E {s with heap:=s.heap.push {cls:=.type "range",data:=.fields #[.int lo t,.int hi u,.int 1 v]},toks:=z}:=by
 show wpAny_pyIter_range (IsRange.new ..) (small_one h1 h2 M N) ?_;have g:Inv X p9 Y H {s with heap:=s.heap.push {cls:=.type "range",data:=.fields #[.int lo t,.int hi u,.int 1 v]},toks:=z}:=I.kept λb o e=>ag _ e;show⟨(s.heap.push {cls:=.type "range",data:=.fields #[.int lo t,.int hi u,.int 1 v]}).objs.size,[(s.heap.push {cls:=.type "range",data:=.fields #[.int lo t,.int hi u,.int 1 v]}).objs.size],_,_,H,rfl,
  g.kept (t':=z) λb o e=>ag _ e,S5 _ lo (hi-lo).toNat,?_,λb O=>?_,q⟩
 .have J:lo+((0:Nat):Int)*1=lo:=by simp
  have L:(((hi-lo).toNat:Nat):Int)-((0:Nat):Int)=Builtin.Range.rangeSize lo hi 1:=by rw[rangeSize_one];split<;>lia
  change IsRangeIter _ _ (lo+((0:Nat):Int)*1) ((((hi-lo).toNat:Nat):Int)-((0:Nat):Int)) 1;rw[J,L];exact aI _ rfl
 .have e:b=(s.heap.push {cls:=.type "range",data:=.fields #[.int lo t,.int hi u,.int 1 v]}).objs.size:=by simpa using O
  subst e;exact g.fpOk (av _) (g.hok.fresh (av _))
def S7(ta:TA):TI:=λY H R=>ta Y H λvs H1=>∃j:Int,vs=[.int j]/\Neg.neg (2 ^ 62)<=j/\j<2 ^ 62/\R (Itr 0 j.toNat) H1
theorem S8 {a:AO} {ta:TA} {p pos:Pos} (L:Gl X "range") (M:X.mg "range"=none) (J:PA X [a] ta) (hs:starEach [a] X.env=[(false,eval a X.env)]:=by rfl):PI X tg (.Call (.Name "range" p) [a] [] pos) (S7 ta):=by
 intro p9 s Y H R I h;show Call_ (iw I L M boot_range (fe (thn (J pos p9 s Y H _ I h) λus s1 zZ=>?_) hs rfl));let(vs,H1,z,O,g):=zZ;let(j,e,g,N,q):=g;subst e;cases O with
 |cons r U=>
  cases U;let(t,rfl):=r;exact call_range_1 (S6 z (!0) (!0) g N (!!q))
def S9(M:TI)(g:TG)(tb:TS):TS:=λD Y H=>M Y H λJ H1=>∃W:Nat->Nat->St->Hp->Prop,(∃m,W 0 m Y H1)/\∀i m Y H,W i m Y H->
 (J.stop i H/\D.nx Y H)\/(J.go i H/\∃N:St->Hp->Prop,(∀q H',N q H'->∃L,L<m/\W (i+1) L q H')/\∀x H',J.yld i H x H'->g x Y H' λz H2=>tb {D with nx:=N,ct:=N,bk:=D.nx} z H2)
def jx(fp:List AQ)(h:Heap):AC:=fp.filterMap λb=>(h.get? b).map λo=>(b,o)
theorem jy{fp:List AQ}{h:Heap}{b:AQ}{o:Obj}(g:b∈fp)(e:h.get? b=-o):(b,o)∈jx fp h:=List.mem_filterMap.mpr ⟨b,g,by rw[e];rfl⟩
theorem u6{fp:List AQ}{h:Heap}{p:AQ×Obj}(J:p∈jx fp h):p.1∈fp/\h.get? p.1=-p.2:=by
 let(b,z,e):=List.mem_filterMap.mp J;cases q:h.get? b with
 |none=>rw[q]at e;cases e
 |some o=>
  rw[q]at e;have g:(b,o)=p:=eI e;subst g;exact⟨z,q⟩
theorem Inv.pinned{p9:AC}{Y:St}{H:Hp}{s:AI}{fp:List AQ}(I:Inv X p9 Y H s)(J:∀b∈fp,cX X p9 H b)(L:∀b∈fp,∃o,s.heap.get? b=-o/\∀v,o.data≠.cell v):Inv X (p9++jx fp s.heap) Y H s:=
 I.pins_of λp M=>(ba.mp M).elim (λz=>I.pin p (aw _ z)) λz=>by
  let(q,e):=u6 z;let(f0,f1,f2,_):=J p.1 q;let(o,g,d):=L p.1 q;rw[e]at g;cases g;exact⟨e,f0,f1,f2,d⟩
theorem Inv.unpinned{p9 q:AC}{Y:St}{H:Hp}{s:AI}(I:Inv X (p9++q) Y H s):Inv X p9 Y H s:=I.pins_of λp g=>I.pin p (aw _ (dA _ g))
theorem Tc{iter:AO}{body:AF}{wi:TI}{g:TG}{tb:TS}{pos:Pos}(hp:PassesOwn (model X.prog X.w) X.A X.env X.xe)(hc:X.calm=true)(hi:PI X tg iter wi)(hg:PG X tg g)(O:PSs X body tb)
  (hs:∀x,foldedSetIterable iter X.env x=pure x:=by intro _;rfl):PS X (.For tg iter body [] pos) (S9 wi g tb):=by
 intro p9 s Y H D I h;show wpAny_For (thn (hi p9 s Y H _ I h) λv s1 h1=>thn h1 λitv s2 h2=>?_) hs;let(it,fp,tn,J,H2,e,I2,T,st2,f2,W,(m0,w0),turn):=h2;subst e
 -- what stays true of the iterator's objects through the loop
 have U:∀{H':Hp},(∀b∈fp,H' b=none)->∀b∈fp,cX X p9 H' b:=λhn b O=>⟨hn b O,(f2 b O).2⟩;show codeAny_forLoop_any (λn s'=>∃i σ' H',Inv X p9 σ' H' s'/\tn i s'.heap/\(∀b∈fp,H' b=none)/\W i n σ' H') ?_ m0 ⟨0,Y,H2,I2,st2,λb O=>(f2 b O).1,w0⟩;rintro n s3 ⟨i,σ3,H3,I3,st3,fr3,w3⟩;rcases turn i n σ3 H3 w3 with⟨stop,qn⟩|⟨go,N,hN,step⟩
 .show fT hp (thn (T.done X rfl rfl rfl hc i p9 s3 σ3 H3 X.xe I3 (U fr3) st3 stop) λr s4 zZ=>?_);let(hr,I4):=zZ;subst hr;exact wpAny_execs_nil ⟨σ3,H3,I4,qn⟩
 .show fT hp (thn (T.item X rfl rfl rfl hc i p9 s3 σ3 H3 X.xe I3 (U fr3) st3 go) λr s4 zZ=>?_);let(u,hr,h4):=zZ;subst hr;show fT hp (thn h4 λy s5 zZ=>?_);let(x,H5,I5,r5,y5,st5,fr5):=zZ;have I5':=I5.pinned (U fr5) (T.obj _ _ st5);show fT hp (thn (hg _ s5 σ3 H5 x u _ I5' r5 (step x H5 y5)) λy s6 zZ=>?_);let(σ6,H6,I6,q6):=zZ;show fT hp (thn (O _ s6 σ6 H6 _ I6 q6) λf s7 q7=>?_);have M:∀{q:St}{z:Hp},Inv X (p9++jx fp s5.heap) q z s7->N q z->∃m,m<n/\∃i σ' H',Inv X p9 σ' H' s7/\tn i s7.heap/\(∀b∈fp,H' b=none)/\W i m σ' H':=λ{q z} L n7=>by
   let(m',hm,w7):=hN q z n7;show⟨m',hm,i+1,q,z,L.unpinned,T.keep _ _ _ st5 λb O o e=>(L.pin (b,o) (aw _ (aw _ (jy O e)))).1,λb O=>?_,w7⟩;let(o,e,d):=T.obj _ _ st5 b O;exact(L.pin (b,o) (aw _ (aw _ (jy O e)))).2.1
  cases f with
  |next=>let(q,z,L,n7):=q7;exact M L n7
  |cont=>let(q,z,L,n7):=q7;exact M L n7
  |brk=>let(q,z,L,q7):=q7;exact⟨q,z,L.unpinned,q7⟩
  |ret v=>let(x7,q,z,L,r7,q7):=q7;exact⟨x7,q,z,L.unpinned,r7,q7⟩
end
abbrev R2:=V->V->Hp->VK->Prop
def OpR(X:Cx)(f:AN->AN->Sem AN)(r:R2):Prop:=
 ∀(p9:AC)(s:AI)(Y:St)(H:Hp)(x y:V)(v u:AN)(Q:VK),Inv X p9 Y H s->RelV x v->RelV y u->r x y H Q->
  ↥X (f v u) (EP X p9 Y Q) X.xe s
def UnR(X:Cx)(f:AN->Sem AN)(r:V->Hp->VK->Prop):Prop:=
 ∀(p9:AC)(s:AI)(Y:St)(H:Hp)(x:V)(v:AN)(Q:VK),Inv X p9 Y H s->RelV x v->r x H Q->
  ↥X (f v) (EP X p9 Y Q) X.xe s
def bj(X:Cx)(f:AN)(r:AR->Hp->VK->Prop):Prop:=
 ∀(p9:AC)(s:AI)(Y:St)(H:Hp)(xs:AR)(g:AB)(Q:VK),Inv X p9 Y H s->Vals xs g->r xs H Q->
  ↥X (call f g) (EP X p9 Y Q) X.xe s
def Td(X:Cx)(r:V->Hp->(Bool->Hp->Prop)->Prop):Prop:=
 ∀(p9:AC)(s:AI)(Y:St)(H:Hp)(x:V)(v:AN)(Q:Bool->Hp->Prop),Inv X p9 Y H s->RelV x v->r x H Q->
  ↥X (truthy v) (TP X p9 Y Q) X.xe s
def tOp(r:R2)(ta tb:TE):TE:=λY H Q=>ta Y H λx H1=>tb Y H1 λy H2=>r x y H2 Q
def tUn(r:V->Hp->VK->Prop)(ta:TE):TE:=λY H Q=>ta Y H λx H1=>r x H1 Q
def rI(C:Int->Int->Prop)(g:Int->Int->V):R2:=λx y H Q=>∃i j,x=.int i/\y=.int j/\C i j/\Q (g i j) H
def rI0(g:Int->Int->V):R2:=λx y H Q=>∃i j,x=.int i/\y=.int j/\Q (g i j) H
def rU(g:Int->V):V->Hp->VK->Prop:=λx H Q=>∃i,x=.int i/\Q (g i) H
section
variable {X:Cx} {a b c:AO} {ta tb tc:TE} {pos:Pos}
theorem u9(M:PE X a ta)(N:PE X b tb){p9:AC}{s:AI}{Y:St}{H:Hp}{R:V->V->Hp->Prop}(I:Inv X p9 Y H s)
  (h:ta Y H λx H1=>tb Y H1 λy H2=>R x y H2) {Q:AG} {f:AN->AN->Sem AN}
  (O:∀v u z x y H2,Inv X p9 Y H2 z->RelV x v->RelV y u->R x y H2->↥X (f v u) Q X.xe z):
  ↥X (eval a X.env) (λv g=>↥X (eval b X.env) (λu q=>↥X (f v u) Q X.xe q) X.xe g) X.xe s:=by
 show thn (M p9 s Y H _ I h) λv s1 zZ=>?_;let(x,H1,J,r1,U):=zZ;show thn (N p9 s1 Y H1 _ J U) λu z zZ=>?_;let(y,H2,L,r2,q2):=zZ;exact O v u z x y H2 L r1 r2 q2
theorem Te{op:Operator}{r:R2}(L:OpR X (binaryOp op) r)(z:PE X a ta)(J:PE X b tb):PE X (.BinOp a op b pos) (tOp r ta tb):=by intro p9 s Y H Q I h;exact wpAny_BinOp (u9 z J I h λv u O x y H2 g M N q=>L p9 O Y H2 x y v u Q g M N q)
theorem Tf{op:UnaryOp}{r:V->Hp->VK->Prop}(z:UnR X (unaryOp op) r)(q:PE X a ta):PE X (.UnaryOp op a pos) (tUn r ta):=by intro p9 s Y H Q I h;show UnaryOp_ (thn (q p9 s Y H _ I h) λv M zZ=>?_);let(x,H1,g,L,J):=zZ;exact z p9 M Y H1 x v Q g L J
theorem opI{f:AN->AN->Sem AN}{C:Int->Int->Prop}{g:Int->Int->Int}
  (z:∀(i j:Int)(t u:Tok)(s:AI)(Q:AG)(E:AG),C i j->Q (.int (g i j) s.toks) {s with toks:=s.toks+1}->↥X (f (.int i t) (.int j u)) Q E s):
  OpR X f (rI C λi j=>.int (g i j)):=by
 intro p9 s Y H x y v u Q I J L h;let(i,j,rfl,rfl,hc,q):=h;let(t,rfl):=J;let(t',rfl):=L;exact z i j t t' s _ _ hc ⟨.int (g i j),H,I.tok _,⟨_,rfl⟩,q⟩
theorem qP{f:AN->AN->Sem AN}{g:Int->Int->Int}
  (z:∀(i j:Int)(t u:Tok)(s:AI)(Q:AG)(E:AG),Q (.int (g i j) s.toks) {s with toks:=s.toks+1}->↥X (f (.int i t) (.int j u)) Q E s):
  OpR X f (rI0 λi j=>.int (g i j)):=by
 intro p9 s Y H x y v u Q I J L h;let(i,j,rfl,rfl,q):=h;let(t,rfl):=J;let(t',rfl):=L;exact z i j t t' s _ _ ⟨.int (g i j),H,I.tok _,⟨_,rfl⟩,q⟩
def qQ(i j:Int):Prop:=0<=j/\j<=1000000/\i.natAbs<2 ^ 64
def CMul(i j:Int):Prop:=(Neg.neg (2 ^ 64)<i/\i<2 ^ 64)\/(Neg.neg (2 ^ 64)<j/\j<2 ^ 64)
theorem CMul.ok{i j:Int}(h:CMul i j):IntMulOk i j:=by
 rcases h with⟨h1,h2⟩|⟨h1,h2⟩
 .exact .of_left (intBits_le_64 h1 h2)
 .exact .of_right (intBits_le_64 h1 h2)
theorem Th:OpR X (binaryOp .Add) (rI0 λi j=>.int (i+j)):=qP λz z z z z z z q=>add_int q
theorem Ti:OpR X (binaryOp .Sub) (rI0 λi j=>.int (i-j)):=qP λz z z z z z z q=>sub_int q
theorem Tj:OpR X (binaryOp .Mult) (rI CMul λi j=>.int (i*j)):=opI λz z z z z z z hc q=>mul_int q hc.ok
theorem Tn:OpR X (binaryOp .Mod) (rI (λz j=>0<j) λi j=>.int (i%j)):=opI λi j z z z z z hc q=>by
 have h1:(0:Int)<j:=hc;exact mod_int' (!0) (by rw[Int.fmod_eq_emod_of_nonneg i (!0)];exact q)
theorem Tp:OpR X (binaryOp .Pow) (rI qQ λi j=>.int (i ^ j.toNat)):=opI λz z z z z z z hc q=>pow_int_small hc.1 hc.2.1 hc.2.2 q
theorem Tq:OpR X (inplaceOp .Add) (rI0 λi j=>.int (i+j)):=qP λz z z z z z z q=>iadd_int q
theorem Tt:OpR X (inplaceOp .Sub) (rI0 λi j=>.int (i-j)):=qP λz z z z z z z q=>isub_int q
theorem unI{f:AN->Sem AN}{g:Int->Int}
  (z:∀(i:Int)(t:Tok)(s:AI)(Q:AG)(E:AG),Q (.int (g i) s.toks) {s with toks:=s.toks+1}->↥X (f (.int i t)) Q E s):
  UnR X f (rU λi=>.int (g i)):=by
 intro p9 s Y H x v Q I J h;let(i,rfl,q):=h;let(t,rfl):=J;exact z i t s _ _ ⟨.int (g i),H,I.tok _,⟨_,rfl⟩,q⟩
theorem Tu:UnR X (unaryOp .USub) (rU λi=>.int (Neg.neg i)):=unI λz z z z z q=>neg_int q
end
section
variable {X:Cx} {a b c:AO} {ta tb tc:TE} {pos:Pos}
theorem BX{p9:AC}{Y:St}{H:Hp}{s:AI}{Q:VK}{k k':Bool}(I:Inv X p9 Y H s)(q:Q (.bl k) H)(e:k=k'):EP X p9 Y Q (.bool k') s:=by subst e;exact⟨.bl k,H,I,rfl,q⟩
theorem Tv:OpR X (compareOp .Is) (λx y H Q=>y=.non/\Q (.bl (decide (x=.non))) H):=by
 intro p9 s Y H x y v u Q I g z h;let(rfl,q):=h;cases z;show is_none_gen (BX I q ?_);cases x<;>first
  | (cases g;rfl)
  | (let(t,rfl):=g;rfl)
theorem Tw:OpR X (compareOp .IsNot) (λx y H Q=>y=.non/\Q (.bl (!decide (x=.non))) H):=by
 intro p9 s Y H x y v u Q I g z h;let(rfl,q):=h;cases z;show isnot_none_gen (BX I q ?_);cases x<;>first
  | (cases g;rfl)
  | (let(t,rfl):=g;rfl)
theorem Tz{op:CmpOp}{r:R2}(M:OpR X (compareOp op) r)(z:PE X a ta)(J:PE X b tb)(L:behindInMarks op b=false):PE X (.Compare a [op] [b] pos) (tOp r ta tb):=by intro p9 s Y H Q I h;exact wpAny_Compare1 (u9 z J I h λv u U x y H2 g N O q=>M p9 U Y H2 x y v u Q g N O q) L
def BZ(t:TE):TT:=λY H Q=>t Y H λx H'=>∃k,x=.bl k/\Q k H'
theorem TF{op:CmpOp}{r:R2}(U:OpR X (compareOp op) r)(M:PE X a ta)(N:PE X b tb)(O:behindInMarks op b=false):PT X (.Compare a [op] [b] pos) (BZ (tOp r ta tb)):=by
 intro p9 s Y H Q I h;show wpAny_isTrue_Compare1 (thn (M p9 s Y H _ I h) λv s1 zZ=>?_) O;let(x,H1,q,r1,q1):=zZ;show thn (N p9 s1 Y H1 _ q q1) λu s2 zZ=>?_;let(y,H2,J,r2,q2):=zZ;show thn (U p9 s2 Y H2 x y v u _ J r1 r2 q2) λc s3 zZ=>?_;let(z,g,L,r3,k,e,q3):=zZ
 subst e;cases r3;exact eM ⟨g,L,q3⟩
def vd(r J:R2)(ta tb tc:TE):TE:=λY H Q=>ta Y H λx H1=>tb Y H1 λy H2=>r x y H2 λz g=>∃k,z=.bl k/\
 (if k=true then tc Y g λL q=>J y L q Q else Q (.bl false) g)
theorem TJ{op g:CmpOp}{r N:R2}(ho:OpR X (compareOp op) r)(q:OpR X (compareOp g) N)(ha:PE X a ta)(hb:PE X b tb)(hc:PE X c tc)
  (hm:lastMarks [op,g] [b,c]=false:=by with_unfolding_all rfl):PE X (.Compare a [op,g] [b,c] pos) (vd r N ta tb tc):=by
 intro p9 s Y H Q I h;show Compare_chain (thn (ha p9 s Y H _ I h) λv s1 zZ=>?_) hm;let(x,H1,I1,r1,q1):=zZ;show chain_link (thn (hb p9 s1 Y H1 _ I1 q1) λu s2 zZ=>?_);let(y,H2,I2,O,q2):=zZ;show thn (ho p9 s2 Y H2 x y v u _ I2 r1 O q2) λd s3 zZ=>?_;let(z,J,L,r3,k,e,M):=zZ
 subst e;cases r3;show eM ?_;cases k with
 |false=>exact ite_ff ⟨.bl false,J,L,rfl,M⟩
 |true=>show ite_tt (chain_last (thn (hc p9 s3 Y J _ L M) λw' s4 zZ=>?_));let(z',U,I4,r4,q4):=zZ;exact q p9 s4 Y U y z' u w' Q I4 O r4 q4
theorem TQ{op g:CmpOp}{r N:R2}(ho:OpR X (compareOp op) r)(q:OpR X (compareOp g) N)(ha:PE X a ta)(hb:PE X b tb)(hc:PE X c tc)
  (hm:lastMarks [op,g] [b,c]=false:=by with_unfolding_all rfl):PT X (.Compare a [op,g] [b,c] pos) (BZ (vd r N ta tb tc)):=by
 intro p9 s Y H Q I h;show isTrue_chain (thn (ha p9 s Y H _ I h) λv s1 zZ=>?_) hm;let(x,H1,I1,r1,q1):=zZ;show test_link (thn (hb p9 s1 Y H1 _ I1 q1) λu s2 zZ=>?_);let(y,H2,I2,O,q2):=zZ;show thn (ho p9 s2 Y H2 x y v u _ I2 r1 O q2) λd s3 zZ=>?_;let(z,J,L,r3,k,e,M):=zZ
 subst e;cases r3;show eM ?_;cases k with
 |false=>
  let(k',e',q'):=M;cases e';exact ite_ff ⟨J,L,q'⟩
 |true=>
  show ite_tt (test_last (thn (hc p9 s3 Y J _ L M) λw' s4 zZ=>?_));let(z',U,I4,r4,q4):=zZ;show thn (q p9 s4 Y U y z' u w' _ I4 O r4 q4) λd' s5 zZ=>?_;let(z2,H5,I5,r5,k2,e2,q5):=zZ;subst e2;cases r5;exact eM ⟨H5,I5,q5⟩
def qR(K:PF)(x:V)(H:Hp)(k:Bool):Prop:=
 match x with
 |.non=>k=false
 |.bl b=>k=b
 |.int i=>k=(i != 0)
 |.str y=>y⁻¹<=sizeLine/\k=((y⁻¹:Int) != 0)
 |.byt y=>y.size<=sizeLine/\k=((y.size:Int) != 0)
 |.ref p=>(∃xs,SqL K H p xs/\k=!xs.isEmpty)\/(∃xs,SqT K H p xs/\k=!xs.isEmpty)\/∃g,H p=-(.dK g)/\k=!g.isEmpty
 |_=>False
theorem TV{κ:Type}{g:List (κ×V)}{vs:List (κ×AN)}(r:KV g vs):(!vs.isEmpty)=!g.isEmpty:=by cases r<;>rfl
theorem Ca{xs:AR}{g:AB}(r:Vals xs g):(!g.toArray.isEmpty)=!xs.isEmpty:=by cases r<;>simp
theorem iy:(sizeLine:Nat)<2 ^ 63:=by rw[fR];decide
theorem Cd:Td X (λx H Q=>∃k,qR X.K x H k/\Q k H):=by
 intro p9 s Y H x v Q I rx h;let(k,e,q):=h;have hl:=iy;have hs:sizeLine=16777216:=fR;cases x with
 |non=>
  cases rx;have e':k=false:=e;subst e';exact truthy_none ⟨H,I,q⟩
 |bl b=>
  cases rx;have e':k=b:=e;subst e';exact eM ⟨H,I,q⟩
 |int i=>
  let(t,rfl):=rx;have e':k=(i != 0):=e;subst e';exact PySem.P.truthy_int ⟨H,I,q⟩
 |str y=>
  let(t,rfl):=rx;obtain⟨hy,e'⟩:y⁻¹<=sizeLine/\k=((y⁻¹:Int) != 0):=e;subst e';exact PySem.P.truthy_str (!0) ⟨H,I.tok _,q⟩
 |byt y=>
  let(t,rfl):=rx;obtain⟨hy,e'⟩:y.size<=sizeLine/\k=((y.size:Int) != 0):=e;subst e';exact PySem.W.truthy_bytes (!0) ⟨H,I.tok _,q⟩
 |ref p=>
  cases rx;have e':(∃xs,SqL X.K H p xs/\k=!xs.isEmpty)\/(∃xs,SqT X.K H p xs/\k=!xs.isEmpty)\/∃kvs,H p=-(.dK kvs)/\k=!kvs.isEmpty:=e;rcases e' with⟨xs,hx,e'⟩|⟨xs,hx,e'⟩|⟨kvs,hx,e'⟩
  .subst e';let(its,r,pl,hz):=I.list hx;have hlen:=r⁻¹;exact wpAny_truthy_list pl.isList (by simp only[am];lia) ⟨H,I.tok _,by rw[Ca r];exact q⟩
  .subst e';let(its,r,pl,hz):=I.tuple hx;have hlen:=r⁻¹;exact truthy_tuple pl (by simp only[am];lia) ⟨H,I.tok _,by rw[Ca r];exact q⟩
  .subst e';obtain⟨hz,hS,vs,r,m⟩:kvs⁻¹<=sizeLine/\(p==sysModules)=false/\∃vs,KV kvs vs/\s.heap.DictOf (cg X.prog X.w) p vs:=I.hok p _ hx;have hlen:kvs⁻¹=vs⁻¹:=ge r;exact wpAny_truthy_dict hS m (!0) ⟨H,I.tok _,by rw[TV r];exact q⟩
 |_=>exact(show False from e).elim
theorem TX(q:PE X a ta)(he:∀whole,isTrue a X.env whole=(do let v <-whole;standAt a.pos;holding [v] (truthy v))):
  PT X a (λY H Q=>ta Y H λx H'=>∃k,qR X.K x H' k/\Q k H'):=by
 intro p9 s Y H Q I h;show isTrue_plain (thn (q p9 s Y H _ I h) λv L zZ=>?_) (he _);let(x,H1,g,J,z):=zZ;exact Cd p9 L Y H1 x v Q g J z
theorem TY:OpR X (binaryOp .Add) (λx y H Q=>∃i j,x=.str i/\y=.str j/\i⁻¹+j⁻¹<=sizeLine/\Q (.str (i++j)) H):=by intro p9 s Y H x y v u Q I z J h;let(i,j,rfl,rfl,g,q):=h;let(t,rfl):=z;let(t',rfl):=J;exact add_str (λt' L=>⟨.str (i++j),H,I.tok _,⟨_,rfl⟩,q⟩) g
theorem T3:OpR X (inplaceOp .Add) (λx y H Q=>∃i j,x=.str i/\y=.str j/\i⁻¹+j⁻¹<=sizeLine/\Q (.str (i++j)) H):=by intro p9 s Y H x y v u Q I z J h;let(i,j,rfl,rfl,g,q):=h;let(t,rfl):=z;let(t',rfl):=J;exact iadd_str (λt' L=>⟨.str (i++j),H,I.tok _,⟨_,rfl⟩,q⟩) g
theorem vals1{x:V}{g:AB}(r:Vals [x] g):∃u,g=[u]/\RelV x u:=by
 cases r with
 |cons q z=>cases z;exact⟨_,rfl,q⟩
theorem vals2{x y:V}{g:AB}(r:Vals [x,y] g):∃u q,g=[u,q]/\RelV x u/\RelV y q:=by
 cases r with
 |cons z J=>
  cases J with
  |cons L M=>cases M;exact⟨_,_,rfl,z,L⟩
theorem Ce:bj X (.type "int") (λxs H Q=>(∃i,xs=[.int i]/\Q (.int i) H)\/∃k,xs=[.bl k]/\Q (.int (if k then 1 else 0)) H):=by
 intro p9 s Y H xs z Q I r h;rcases h with⟨i,rfl,q⟩|⟨k,rfl,q⟩
 .let(u,rfl,t,rfl):=vals1 r;exact call_int_int ⟨.int i,H,I,⟨_,rfl⟩,q⟩
 .let(u,rfl,g):=vals1 r;cases g;exact call_int_bool ⟨.int (if k then 1 else 0),H,I.tok _,⟨_,rfl⟩,q⟩
end
structure ObjM(h:Heap)(x dx C:AQ)(mA:AH):Prop where
 obj:h.get? x=some (PySem.W.instObj C dx)
 ns:h.Ns1 dx mA
 ne:dx≠x
def T4{h:Heap}{dx:AQ}{J:AH}(n:h.Ns1 dx J):∃L,h.get? dx=-L/\∀name,PySem.W.lookIn name L=-(J name):=by
 let(o,es,ep,Y,N,O,_,U):=n;show⟨o,Y,λname=>?_⟩;have e:=U name;unfold nsFind findBy at e;rw[<-Array.find?_toList]at e;unfold PySem.W.lookIn;rw[N];dsimp only;split
 .rename_i y q;rw[q]at e;exact fb some e
 .rename_i q;rw[q]at e;have a:es.toList.any (·.refKey)=false:=by
   rw[List.any_eq_false];intro y hy;let(z,t,g):=O y (Array.mem_toList_iff.mp hy);simp[DictEntry.refKey,g]
  have M:¬es.toList.any (·.refKey)=true:=by rw[a];exact bg
  rw[if_neg M];exact fb some e
def ObjM.look{h:Heap}{x dx C:AQ}{q:AH}(I:ObjM h x dx C q):∃g,PySem.W.InstAt h x (PySem.W.instObj C dx) C (-g)/\∀name,PySem.W.lookIn name g=-(q name):=
 let⟨g,ho,hl⟩:=T4 I.ns
 ⟨g,⟨I.obj,rfl,rfl,ho⟩,hl⟩
def RelO.some_of{v:V}{o:Option AN}(r:RelO (-v) o):∃u,o=-u/\RelV v u:=by
 cases o with
 |none=>exact(show False from r).elim
 |some u=>exact⟨u,rfl,r⟩
section
variable {P:AK} {w:World} {H H':Hp} {h h':Heap} {a C dx:AQ} {fs fs':List (Str×V)}
theorem T5(J:HOk P w H h)(e:H a=-(.ins C dx fs)):∃g,ObjM h a dx C g/\(∀f,RelO (fs.lookup f) (g f))/\PySem.Within g (fs.map (·.1))/\fs⁻¹<=1000/\H dx=-(.own a):=by let(d,z,ne,ob,g,n,r,q):=(show ObjOk P w H h a (.ins C dx fs) from J a _ e);exact⟨g,⟨ob,n,ne⟩,r,q,z,d⟩
end
structure Cls(K:PF)(C:AQ):Prop where
 pg:PySem.W.plainGet K C Str.empty=true
 hd:PySem.W.hasDictIn K C=true
 po:PySem.W.plainOver K C=true
 sa:PySem.W.findIn K (.ref C) "__setattr__"=some (some (.builtin "object.__setattr__"))
def Cls.get{K:PF}{C:AQ}(c:Cls K C)(f:Str):PySem.W.plainGet K C f=true:=c.pg
def T6(K:PF)(C:AQ)(f:Str):Prop:=PySem.W.findIn K (.ref C) f=-none
structure Meth(K:PF)(C:AQ)(m:Str)(f:AQ):Prop where
 at_:PySem.W.findIn K (.ref C) m=some (some (.ref f))
 fn:PySem.W.isFn K (.ref f)=true
 kp:PySem.W.keepIn K (.ref f)=true
section
variable {X:Cx} {p9:AC} {σ:St} {H:Hp} {s:AI} {A:AM} {E:AG} {Q:AG} {c:AN} {b:Bool}
inductive TyOf (K:PF) (H:Hp):V->AN->Prop where
 |non:TyOf K H .non (.type "NoneType")
 |bl (x:Bool):TyOf K H (.bl x) (.type "bool")
 |int (i:Int):TyOf K H (.int i) (.type "int")
 |str (x:Str):TyOf K H (.str x) (.type "str")
 |flt (x:UInt64):TyOf K H (.flt x) (.type "float")
 |lst {a:AQ} {xs:AR} (e:H a=some (.lst xs)):TyOf K H (.ref a) (.type "list")
 |frz {a:AQ} {o:Obj} {xs:AR} (e:H a=some (.frz o (.lst xs))):TyOf K H (.ref a) (.type "list")
 |tup {a:AQ} {xs:AR} (e:H a=some (.tup xs)):TyOf K H (.ref a) (.type "tuple")
 |dK {a:AQ} {kvs:List (Key×V)} (e:H a=some (.dK kvs)):TyOf K H (.ref a) (.type "dict")
 |dT {a:AQ} {kvs:List (List Key×V)} (e:H a=some (.dT kvs)):TyOf K H (.ref a) (.type "dict")
 |ins {a C dx:AQ} {fs:List (Str×V)} (e:H a=some (.ins C dx fs)) (cl:Cls K C) (ha:PySem.W.findIn K (.ref C) "__class__"=some (some (.builtin "object.__class__")))
   (hn:PySem.W.specialIn K (.builtin "object.__class__") "__get__"=some (some (.builtin "getset_descriptor.__get__"))) (htk:PySem.W.takesIn K (.builtin "object.__class__")=some true)
   (hm:PySem.W.mroIn K C (.type "object")=some true):TyOf K H (.ref a) (.ref C)
theorem T7{x:V}{u t:AN}(I:Inv X p9 σ H s)(g:RelV x u)(ty:TyOf X.K H x t)(e:PySem.W.kitOne X.K t c=-b)(h:∀L,Q (.bool b) {s with toks:=L}):
  wpAny (model X.prog X.w) A (call (.builtin "isinstance") [u,c]) Q E s:=by
 cases ty with
 |non=>cases(show u=Value.none from g);exact d3 PySem.W.kitx_none I.kIn gc e (λz=>nomatch z) h
 |bl y=>cases(show u=Value.bool y from g);exact d3 PySem.W.kitx_bool I.kIn gc e (λz=>nomatch z) h
 |int i=>let(t,q):=(show ∃t,u=Value.int i t from g);cases q;exact d3 PySem.W.kitx_int I.kIn gc e (λz=>nomatch z) h
 |str y=>let(t,q):=(show ∃t,u=Value.str y t from g);cases q;exact d3 PySem.W.kitx_str I.kIn gc e (λz=>nomatch z) h
 |flt y=>let(t,q):=(show ∃t,u=Value.float y t from g);cases q;exact d3 PySem.W.kitx_float I.kIn gc e (λz=>nomatch z) h
 | @lst a xs ea=>
  cases(show u=Value.ref a from g);let(_,_,n,_,h1):=(show ObjOk X.prog X.w H s.heap a (.lst xs) from I.hok a _ ea);exact d3 PySem.W.kitx_list I.kIn ⟨_,h1,rfl⟩ e (λz=>nomatch z) h
 | @frz a ob xs ea=>
  cases(show u=Value.ref a from g);let(_,_,_,n,_,h1):=(show ObjOk X.prog X.w H s.heap a (.frz ob (.lst xs)) from I.hok a _ ea);exact d3 PySem.W.kitx_list I.kIn ⟨_,h1,rfl⟩ e (λz=>nomatch z) h
 | @tup a xs ea=>
  cases(show u=Value.ref a from g);let(_,_,_,p):=(show ObjOk X.prog X.w H s.heap a (.tup xs) from I.hok a _ ea);let(o,h1,h2,_):=p;exact d3 PySem.W.kitx_tuple I.kIn ⟨o,h1,h2.1⟩ e (λz=>nomatch z) h
 | @dK a kvs ea=>
  cases(show u=Value.ref a from g);let(_,_,vs,_,p):=(show ObjOk X.prog X.w H s.heap a (.dK kvs) from I.hok a _ ea);let(o,es,ep,h1,h2,_):=p;exact d3 PySem.W.kitx_dict I.kIn ⟨o,h1,h2.1⟩ e (λz=>nomatch z) h
 | @dT a kvs ea=>
  cases(show u=Value.ref a from g);let(_,_,xs,_,o,es,ep,h1,h2,_):=(show ObjOk X.prog X.w H s.heap a (.dT kvs) from I.hok a _ ea);exact d3 PySem.W.kitx_dict I.kIn ⟨o,h1,h2.1⟩ e (λz=>nomatch z) h
 | @ins a C dx fs ea cl ha hn htk hm=>
  cases(show u=Value.ref a from g);let(M,O,_):=T5 I.hok ea;let(N,J,_):=O.look;exact d3 (PySem.W.kitx_own (cl.get _) cl.hd ha hn htk hm) I.kIn J e (λz=>nomatch z) h
end
structure Room(k:Nat)(A:AM):Prop where
 hd:A.handled=none
 dp:A.depth+3 * k+5 < recursionLimit
 un:A.units+16 * k+200 < cLine
def Room.mono{j k:Nat}{A:AM}(r:Room k A)(h:j<=k):Room j A:=⟨r.hd,by have:=r.dp;lia,by have:=r.un;lia⟩
def Room.deeper{k:Nat}{A:AM}(r:Room (k+1) A)(env:Env):Room k (A.deeper env):=
 ⟨r.hd,by have:=r.dp;change A.depth+1+3*k+5<_;lia,by have:=r.un;change A.units+3+16*k+200<_;lia⟩
def Room.depth{k:Nat}{A:AM}(r:Room k A):A.depth<recursionLimit:=by have:=r.dp;lia
def T8:TA:=λz H Q=>Q [] H
def Cg(ta:TE)(g:TA):TA:=λY H Q=>ta Y H λx H1=>g Y H1 λxs H2=>Q (x::xs) H2
section
variable {X:Cx} {e:AO} {es:AE} {te:TE} {t:TA} {pos:Pos}
theorem fZ:PA X [] T8:=λz z z z H Q I h=>Calls.spliced_nil ⟨[],H,I,.nil,h⟩
theorem eN(z:PE X e te)(J:PA X es t)(hs:starEach (e::es) X.env=(false,eval e X.env)::starEach es X.env:=by rfl):PA X (e::es) (Cg te t):=by intro pos p9 s Y H Q I h;rw[hs];change wpAny _ _ (spliced ((false,eval e X.env)::backTo pos (starEach es X.env))) _ _ s;show Calls.spliced_cons (thn (z p9 s Y H _ I h) λu U zZ=>?_);let(x,H1,g,N,L):=zZ;show thn (J pos p9 U Y H1 _ g L) λus s2 zZ=>?_;let(xs,H2,q,O,M):=zZ;exact⟨x::xs,H2,q,.cons N O,M⟩
def T9(t:TA):TE:=λY H Q=>t Y H λxs H1=>xs⁻¹<=sizeLine/\∀p,H1 p=none->Q (.ref p) (upd H1 p (.tup xs))
def Ua(t:TA):TE:=λY H Q=>t Y H λxs H1=>xs⁻¹<=sizeLine/\∀p,H1 p=none->Q (.ref p) (upd H1 p (.lst xs))
theorem Ub{x1}(h:PA X es t):PE X (.Tuple es x1 pos) (T9 t):=by intro p9 s Y H Q I M;show wpAny_Tuple_spliced (thn (h pos p9 s Y H _ I M) λN g zZ=>?_);let(xs,H1,J,r,z,q):=zZ;show⟨by rw[<-r⁻¹];exact z,?_⟩;have L:H1 g.heap.objs.size=none:=J.hok.fresh (av _);show⟨.ref g.heap.objs.size,upd H1 g.heap.objs.size (.tup xs),J.laid (t':=g.toks) (λb u e=>ag _ e) (av _) ?_,rfl,q _ L⟩;exact⟨z,N,r,⟨_,aI _ rfl,⟨rfl,rfl⟩,_,rfl⟩⟩
theorem Uc(h:PA X es t):PE X (.List es pos) (Ua t):=by intro p9 s Y H Q I M;show wpAny_List_spliced (thn (h pos p9 s Y H _ I M) λN g zZ=>?_);let(xs,H1,J,r,z,q):=zZ;show⟨by rw[<-r⁻¹];exact z,?_⟩;have L:H1 g.heap.objs.size=none:=J.hok.fresh (av _);show⟨.ref g.heap.objs.size,upd H1 g.heap.objs.size (.lst xs),J.laid (t':=g.toks) (λb u e=>ag _ e) (av _) ?_,rfl,q _ L⟩;exact⟨z,N,0,r,aI _ rfl⟩
end
abbrev Sp:=AR->Hp->VK->XK->Prop
abbrev CXT:=List Env->Hp->AI->XK->AN->AI->Prop
structure Env0(P:AK)(w:World)(K:PF)(mg:AH)(base:Heap)(A:AM)(outer:List Env)(s:AI)(H:Hp):Prop where
 frames:A.frames=some outer
 mod:Mod K mg base
 bs:∀b o,base.get? b=some o->s.heap.get? b=some o/\H b=none
 bsz:base.objs.size<=(~~~s)
 funs:s.heap.FunFrames base outer
 frf:∀b∈frs outer,H b=none
 hok:HOk P w H s.heap
 bare:AllBare s.gens
def CE(outer:List Env)(P:AK)(w:World)(H:Hp)(s:AI)(Q:VK)(u:AN)(s':AI):Prop:=
 ∃v H',s'.os=s.os/\AllBare s'.gens/\Un (frs outer) [] H H' s.heap s'.heap/\HOk P w H' s'.heap/\RelV v u/\Q v H'
def CR(CX:CXT)(outer:List Env)(P:AK)(w:World)(H:Hp)(s:AI)(Q:VK)(E:XK)(r:Result)(s':AI):Prop:=
 match r with
 |.ok (.ret u)=>CE outer P w H s Q u s'
 |.ok _=>False
 |.error e=>CX outer H s E e s'
structure FnOk(P:AK)(w:World)(K:PF)(mg:AH)(base:Heap)(CX:CXT)(k:Nat)(f:AQ)(fd:AJ)(ps:AD)(sp:Sp):Prop where
 len:∀vs H Q E,sp vs H Q E->vs.length=ps.length
 run:∀(A:AM)(outer:List Env)(s:AI)(H:Hp)(args:Args)(us:AB)(vs:AR)(Q:VK)(E:XK),Room k A->Env0 P w K mg base A outer s H->BindsTo s fd args (ps.zip us)->Vals vs us->sp vs H Q E->
  codeAny (model P w) A (.call (.ref f) args) (CR CX outer P w H s Q E) s
def FnOk.mono{P:AK}{w:World}{K:PF}{mg:AH}{base:Heap}{CX:CXT}{j k:Nat}{f:AQ}{fd:AJ}{ps:AD}{sp:Sp}(F:FnOk P w K mg base CX j f fd ps sp)(h:j<=k):
  FnOk P w K mg base CX k f fd ps sp:=⟨F.len,λA outer s H args q vs Q E g=>F.run A outer s H args q vs Q E (g.mono h)⟩
def FnOk.imp{P:AK}{w:World}{K:PF}{mg:AH}{base:Heap}{CX:CXT}{k:Nat}{f:AQ}{fd:AJ}{ps:AD}{sp g:Sp}(F:FnOk P w K mg base CX k f fd ps sp)
  (h:∀vs H Q E,g vs H Q E->sp vs H Q E):FnOk P w K mg base CX k f fd ps g:=
 ⟨λvs H Q E q=>F.len vs H Q E (h _ _ _ _ q),λA outer s H args M vs Q E J he z L hs=>F.run A outer s H args M vs Q E J he z L (h _ _ _ _ hs)⟩
section
variable {X:Cx} {p9:AC} {σ:St} {H:Hp} {s s':AI}
theorem Inv.env0(I:Inv X p9 σ H s):Env0 X.prog X.w X.K X.mg X.base X.A X.stack s H:=
 ⟨I.ok.frames,I.ok.mod,I.bs,b5 I.ok.bsz I.sz,I.stack,I.stkFree,I.hok,I.bare⟩
theorem Inv.after{Q:VK}{u:AN}(I:Inv X p9 σ H s)(h:CE X.stack X.prog X.w H s Q u s'):EP X p9 σ Q u s':=by let(v,H',N,J,un,L,r,q):=h;let(hh,g,d,t,M):=s';obtain rfl:M=s.os:=N;exact⟨v,H',I.call (h':=hh) (g':=g) (d':=d) (t':=t) (ch:=[]) un L J (λb z=>absurd z (!2)),r,q⟩
end
def Ud(sp:Sp)(dvs:AR)(E:XK)(t:TA):TE:=λY H Q=>t Y H λvs H1=>sp (vs++dvs) H1 Q E
def Binds(K:PF)(fd:AJ)(ps:AD)(ds:AB):Prop:=
 ∀(s:AI)(g:AB),K.In s.heap->(g++ds)⁻¹=ps⁻¹->BindsTo s fd ⟨g,[]⟩ (ps.zip (g++ds))
def Binds.all{K:PF}{fd:AJ}{ps:AD}(h:∀g:AB,g⁻¹=ps⁻¹->bindArgs fd ⟨g,[]⟩=pure (ps.zip g)):Binds K fd ps []:=λs g z hl=>by
 rw[dL]at hl ⊢;exact .of_eq (h g hl)
def kW(CX:CXT)(X:Cx)(E:XK):Prop:=∀(p9:AC)(Y:St)(H:Hp)(s:AI)(e:AN)(s':AI),Inv X p9 Y H s->CX X.stack H s E e s'->X.xe e s'
section
variable {X:Cx} {CX:CXT} {k:Nat} {f C:AQ} {fd:AJ} {ps:AD} {sp:Sp} {dvs:AR} {ds:AB} {E:XK} {x m:Str} {p pos apos:Pos} {e o:AO} {es:AE} {ta:TE} {t:TA}
theorem Ue{p9:AC}{Y:St}{H:Hp}{s:AI}{Q:VK}{g:AB}{vs:AR}(F:FnOk X.prog X.w X.K X.mg X.base CX k f fd ps sp)(N:Room k X.A)(L:Binds X.K fd ps ds)(M:Vals dvs ds)(O:kW CX X E)
  (I:Inv X p9 Y H s) (r:Vals vs g) (h:sp (vs++dvs) H Q E):↥X (call (.ref f) g) (EP X p9 Y Q) X.xe s:=by
 have z:Vals (vs++dvs) (g++ds):=r.append M;have hl:(g++ds)⁻¹=ps⁻¹:=by rw[<-z⁻¹];exact F.len _ _ _ _ h
 show wpAny_call (codeAny_mono (F.run X.A X.stack s H ⟨g,[]⟩ (g++ds) (vs++dvs) Q E N I.env0 (L s g I.kIn hl) z h) λr s' q=>?_);cases r with
 |error e=>exact O p9 Y H s e s' I q
 |ok J=>
  cases J with
  |ret u=>exact I.after q
  |next=>exact False.elim q
  |brk=>exact False.elim q
  |cont=>exact False.elim q
theorem Ug(F:FnOk X.prog X.w X.K X.mg X.base CX k f fd ps sp)(hr:Room k X.A)(O:Gl X x)(hm:X.mg x=-(.ref f))(U:PySem.W.keepIn X.K (.ref f)=true)(M:Binds X.K fd ps ds)(N:Vals dvs ds)(hx:kW CX X E)
  (L:PA X (e::es) t) (g:(x==("__debug__":Str))=false:=by decide) (he:starEach (e::es) X.env=(false,eval e X.env)::starEach es X.env:=by rfl) (z:(backTo pos (starEach es X.env)).any (·.1)=false:=by rfl):
  PE X (.Call (.Name x p) (e::es) [] pos) (Ud sp dvs E t):=by
 intro p9 s Y H Q I h;show wpAny_Call_Name_kw (BK I O hm ?_ g);show PySem.W.callWith_K (h₀:=X.base) I.ok.mod.kin U (thn (L pos p9 s Y H _ I h) λus s1 zZ=>?_) he z;let(vs,H1,J,r,q):=zZ;show⟨J.kIn,?_⟩;exact Ue F hr M N hx J r q
structure Mk(K:PF)(C f:AQ):Prop where
 makes:PySem.W.makesIn K C=true
 init:PySem.W.findIn K (.ref C) "__init__"=some (some (.ref f))
 fn:PySem.W.isFn K (.ref f)=true
 kp:PySem.W.keepIn K (.ref C)=true
end
structure FnScope(N P:AD)(sc:Scope):Prop where
 kind:sc.kind=.function
 co:sc.isCoroutine=false
 gen:sc.isGenerator=false
 nd:N.Nodup
 pre:N.take P.length=P
 par:∀x∈P,sc.names.lookup x=some .local\/sc.names.lookup x=some .cell
 nofree:∀y∈sc.names,y.2≠.free
def Ci{g:Str->Option NameKind}{x:Str}:∀{binds:List (Str×AN)}{m:AH},(∀v,(x,v)∉binds)->bindL g binds m x=m x
 |[],_,_=>rfl
 | (n,v)::r,m,h=>by
  unfold bindL;rw[Ci λw hw=>h w (bm _ hw)];split
  .have:x≠n:=by rintro rfl;exact h v a9
   simp[this]
  .rfl
def Cj{g:Str->Option NameKind}{x:Str}:∀{binds:List (Str×AN)}{m:AH},(∀v,(x,v)∉binds)->bindC g binds m x=m x
 |[],_,_=>rfl
 | (n,v)::r,m,h=>by
  unfold bindC;rw[Cj λw hw=>h w (bm _ hw)];split
  .rfl
  .have:x≠n:=by rintro rfl;exact h v a9
   simp[this]
def Ck{g:Str->Option NameKind}{x:Str}{v:AN}:∀{P:AD}{vs:AB}{i:Nat}{m:AH},P.Nodup->P[i]?=-x->vs[i]?=-v->g x=-.local->
  bindL g (P.zip vs) m x=-v
 |[],_,_,_,_,h,_,_=>by simp at h
 |_::_,[],_,_,_,_,h,_=>by simp at h
 |p::P,w::vs,0,m,nd,h1,h2,hk=>by
  simp at h1 h2;subst h1;subst h2;change bindL g ((p,w)::P.zip vs) m p=_;unfold bindL;rw[Ci λv q=>(db.mp nd).1 (List.of_mem_zip q).1,if_pos hk];simp
 |p::P,w::vs,i+1,m,nd,h1,h2,hk=>by
  change bindL g ((p,w)::P.zip vs) m x=_;unfold bindL;exact Ck (i:=i) (db.mp nd).2 (!!h1) (!!h2) hk
def Cm{g:Str->Option NameKind}{x:Str}{v:AN}:∀{P:AD}{vs:AB}{i:Nat}{m:AH},P.Nodup->P[i]?=-x->vs[i]?=-v->g x≠some .local->
  bindC g (P.zip vs) m x=-v
 |[],_,_,_,_,h,_,_=>by simp at h
 |_::_,[],_,_,_,_,h,_=>by simp at h
 |p::P,w::vs,0,m,nd,h1,h2,hk=>by
  simp at h1 h2;subst h1;subst h2;change bindC g ((p,w)::P.zip vs) m p=_;unfold bindC;rw[Cj λv q=>(db.mp nd).1 (List.of_mem_zip q).1,if_neg hk];simp
 |p::P,w::vs,i+1,m,nd,h1,h2,hk=>by
  change bindC g ((p,w)::P.zip vs) m x=_;unfold bindC;exact Cm (i:=i) (db.mp nd).2 (!!h1) (!!h2) hk
def start(N:AD)(vs:AR):St:=vs.map some++List.replicate (N⁻¹-vs⁻¹) none
def dZ(CX:CXT)(P:AK)(w:World)(K:PF)(mg:AH)(base:Heap)(N:AD)(g:Str)(scope:Scope)(f:AQ)(z:AN)(A:AM)(outer:List Env)(s:AI)(H:Hp)(E:XK):Cx where
 prog:=P
 w:=w
 K:=K
 mg:=mg
 base:=base
 A:=A.deeper (envOfC g scope (~~~s) f z)
 N:=N
 s₀:=s
 H₀:=H
 env:=envOfC g scope (~~~s) f z
 outer:=outer
 stack:=envOfC g scope (~~~s) f z::outer
 ex:=[]
 calm:=true
 fn:=λy=>true
 pn:=[]
 xe:=λe s'=>wpAny (model P w) (A.deeper (envOfC g scope (~~~s) f z)) (leaving (envOfC g scope (~~~s) f z) e) (λy q=>CX outer H s E e q) (λJ q=>CX outer H s E J q) s'
def Cp{g:Scope}{n:Nat}{x:Str}(h:g.names.lookup x=-.cell):∃c,(cellsFrom n g.names []).lookup x=-c:=by have q:=PySem.W.cellsFrom_some g.names n [] (.inl h);exact cS.mp q
def Cq{CX:CXT}{P:AK}{w:World}{K:PF}{mg:AH}{base:Heap}{N ps:AD}{g:Str}{scope:Scope}{f:AQ}{Y:AN}{A:AM}{outer:List Env}{s s1:AI}{H:Hp}{E:XK}{us:AB}{vs:AR}
  (S:FnScope N ps scope) (hd:A.handled=none) (J:Env0 P w K mg base A outer s H) (hl:vs⁻¹=ps⁻¹) (r:Vals vs us)
  (x:InCallC s (~~~s) (bindL (envOfC g scope (~~~s) f Y).kindOf (ps.zip us) λt=>none) (cellsFrom ((~~~s)+1) scope.names []) (bindC (envOfC g scope (~~~s) f Y).kindOf (ps.zip us) λt=>none) s1):
  Inv (dZ CX P w K mg base N g scope f Y A outer s H E) [] (start N vs) H s1:=by
 have hpl:ps⁻¹<=N⁻¹:=by have:=fb List.length S.pre;rw[de]at this;lia
 let(h1,tk,rfl,hk):=x.done;have M:∀b:AQ,b∉(dZ CX P w K mg base N g scope f Y A outer s H E).ex:=λb z=>absurd (show b∈([]:List AQ) from z) (!2);show⟨⟨J.mod,S.kind,rfl,rfl,av _,λy z c h1 h2=>?_,λy L=>?_,λy c t h=>?_,λt=>hd,Around.frames_deeper J.frames,.inr ⟨rfl,rfl⟩,λb z=>absurd z (M b),J.bs,J.bsz,λb t t=>M b,λb z=>absurd z (M b),J.funs,J.frf⟩,
  rfl,J.bare,Un.kept hk,⟨_,x.toInCall.ns,λi y v h1 h2 h3=>?_⟩,λy c h=>⟨_,x.cell y c h⟩,J.hok.fresh (av _),λy c h=>?_,λp O=>absurd (show p∈([]:AC) from O) (!2),J.hok.kept hk,?_⟩
 .exact name_of_addr x.apart (eA h1) (eA h2)
 .have L:scope.names.lookup y=-.cell\/scope.names.lookup y=-.free:=L;rcases L with L|L
  .exact Cp L
  .exact absurd rfl (S.nofree _ (eA L))
 .exact Nat.le_of_lt (x.above y c (eA h))
 .have hi:i<vs⁻¹:=by
   unfold start at h2;by_cases hi:i<vs⁻¹
   .exact hi
   .rw[List.getElem?_append_right (!!hi)]at h2;rw[List.getElem?_replicate]at h2;split at h2<;>cases h2
  have ha:vs[i]?=-v:=by
   unfold start at h2;rw[eL (!!hi),aS]at h2;cases e:vs[i]? with
   |none=>rw[e]at h2;cases h2
   |some a=>rw[e]at h2;cases h2;rfl
  let(u,hu,rv):=r.get ha;have O:ps[i]?=-y:=by rw[<-S.pre,List.getElem?_take_of_lt (!0)];exact h1
  have U:ps.Nodup:=by rw[<-S.pre];exact S.nd.sublist (List.take_sublist _ _)
  show⟨u,rv,?_⟩;rcases S.par y (bv O) with k|k
  .exact .inl ⟨k,Ck U O hu k⟩
  .let(c,e):=Cp (n:=(~~~s)+1) k;show .inr ⟨.inl k,c,e,?_⟩;have q:=x.cell y c e;rw[Cm U O hu (by change scope.names.lookup y≠_;rw[k];decide)]at q;exact q
 .exact J.hok.fresh (Nat.le_of_lt (x.above y c (eA h)))
 .unfold start;change _=N⁻¹;rw[ax,ae,cb];lia
def Uh{CX:CXT}{P:AK}{w:World}{K:PF}{mg:AH}{base:Heap}{k:Nat}{f:AQ}{name g:Str}{params:Arguments}{body:AF}{scope:Scope}{dV kV U pm z ct oc:AN}{an od:Option AQ}
  {osl:Array (Option AN)} {N ps:AD} {sp:Sp} (lk:K.lookup f=-⟨oc,od,.func (PySem.W.fnOf name g params body scope dV kV U pm an z ct),osl⟩) (hcd:PySem.W.codeIn K z g=true) (S:FnScope N ps scope)
  (len:∀vs H Q E,sp vs H Q E->vs⁻¹=ps⁻¹)
  (M:∀(A:AM)(outer:List Env)(s:AI)(H:Hp)(vs:AR)(Q:VK)(E:XK),Room k (A.deeper (envOfC g scope (~~~s) f z))->sp vs H Q E->
   ∃t,PSs (dZ CX P w K mg base N g scope f z A outer s H E) body t/\t {nx:=λp H'=>Q .non H',rt:=Q} (start N vs) H):
  FnOk P w K mg base CX (k+1) f (PySem.W.fnOf name g params body scope dV kV U pm an z ct) ps sp:=by
 show⟨len,λA outer s H args us vs Q E hr Y hb r hsp=>?_⟩;have hl:=len _ _ _ _ hsp;have KX:K.In s.heap:=Y.mod.kin.keeps λb o e=>(Y.bs b o e).1;have lim:s.heap.NoLimit:=Y.mod.nolimit.keeps λb o e=>(Y.bs b o e).1;have O:∀y∈ps.zip us,scope.names.lookup y.1=-.local\/(scope.names.lookup y.1=-.cell/\((cellsFrom ((~~~s)+1) scope.names []).lookup y.1).isSome=true):=λzZ hy=>by
  let(n,v):=zZ;rcases S.par n (List.of_mem_zip hy).1 with q|q
  .exact .inl q
  .exact .inr ⟨q,PySem.W.cellsFrom_some _ _ _ (.inl q)⟩
 show codeAny_call_function hr.depth (KX _ _ lk) rfl S.co S.gen rfl (PySem.W.codeRec_of KX hcd) (hb _ _ _ _ ?_);show wpAny_newFunctionEnv_cells S.kind O λenv he s1 x=>?_;subst he;show⟨lim.keeps x.toInCall.keep,codeAny_func ?_⟩;let(t,ht,hq):=M A outer s H vs Q E (hr.deeper _) hsp;have I:Inv (dZ CX P w K mg base N g scope f z A outer s H E) [] (start N vs) H s1:=Cq S hr.hd Y hl r x;show df (ht [] s1 (start N vs) H _ I hq) (λfl s' hs=>?_) λe s' hs=>hs;have fin:∀{L:St}{H':Hp}{v:V}{u:AN},Inv (dZ CX P w K mg base N g scope f z A outer s H E) [] L H' s'->RelV v u->Q v H'->CE outer P w H s Q u s':=
  λ{L H' v u} J rv q=>⟨v,H',J.os,J.bare,J.base,J.hok,rv,q⟩
 cases fl with
 |ret u=>
  let(v,L,H',J,rv,q):=hs;exact fin J rv q
 |next=>
  let(L,H',J,q):=hs;exact fin (v:=V.non) (u:=Value.none) J rfl q
 |brk=>
  let(_,_,_,q):=hs;exact False.elim q
 |cont=>
  let(_,_,_,q):=hs;exact False.elim q
section
variable {X:Cx} {x:Str} {p pos:Pos} {e:AO} {es:AE} {t:TA} {id T:AL} {r:AR->Hp->VK->Prop}
def tCB(r:AR->Hp->VK->Prop)(t:TA):TE:=λY H Q=>t Y H λvs H1=>r vs H1 Q
theorem iz (hc:bj X (.builtin id) r) (L:Gl X x) (M:X.mg x=none) (N:bootBuiltins x=-(.builtin id)) (J:PA X (e::es) t) (hn:x≠"__name__":=by decide) (g:(x==("__debug__":Str))=false:=by decide)
  (he:starEach (e::es) X.env=(false,eval e X.env)::starEach es X.env:=by rfl) (q:(backTo pos (starEach es X.env)).any (·.1)=false:=by rfl):PE X (.Call (.Name x p) (e::es) [] pos) (tCB r t):=by
 intro p9 s Y H Q I h;show wpAny_Call_Name_kw (iw I L M N ?_ hn g);show PyProof.Rows.callWith_builtin1 (thn (J pos p9 s Y H _ I h) λus s1 zZ=>?_) he q;let(vs,H1,z,U,O):=zZ;exact hc p9 s1 Y H1 vs us Q z U O
theorem iB (hc:bj X (.type T) r) (L:Gl X x) (M:X.mg x=none) (N:bootBuiltins x=-(.type T)) (J:PA X (e::es) t) (hn:x≠"__name__":=by decide) (g:(x==("__debug__":Str))=false:=by decide)
  (he:starEach (e::es) X.env=(false,eval e X.env)::starEach es X.env:=by rfl) (q:(backTo pos (starEach es X.env)).any (·.1)=false:=by rfl):PE X (.Call (.Name x p) (e::es) [] pos) (tCB r t):=by
 intro p9 s Y H Q I h;show wpAny_Call_Name_kw (iw I L M N ?_ hn g);show fe (thn (J pos p9 s Y H _ I h) λus s1 zZ=>?_) he q;let(vs,H1,z,U,O):=zZ;exact hc p9 s1 Y H1 vs us Q z U O
end
end L2
namespace HT
open PySem PyProof.Rows
section
variable {prog:AK} {w:World} {A:AM} {E:AG} {s:AI}
theorem Ui{t b:AQ}{vs g:AB}{Q:AG}(ht:IsTup s.heap t vs.toArray)(hb:IsTup s.heap b g.toArray)(hv:vs≠[])
  (h1:g=[]->Q (.ref t) s) (h2:g≠[]->Q (.ref (~~~s)) {s with heap:=s.heap.push {cls:=.type "tuple",data:=.seq (vs++g).toArray}})
  (hsz:vs⁻¹+g⁻¹<=sizeLine):wpAny (model prog w) A (binaryOp .Add (.ref t) (.ref b)) Q E s:=by
 let((cls,Y,data,sl),N,hc,n,hd):=id ht;let((U,z,O,M),q,J,n2,L):=id hb;simp only at hc hd J L;subst hc hd J L;have e:vs.toArray++g.toArray=(vs++g).toArray:=by simp
 by_cases hw:g=[]
 .exact concat_meets ⟨_,N,rfl⟩ ⟨_,q,rfl⟩ noFill_tuple_add seq_tuple_add PySem.F.slot_tuple_add PySem.F.entry_tuple_add (PySem.F.args_tuple_add_2 _ _)
   (tuple_addW1 t b vs.toArray g.toArray n n2 Y z sl M (!!hv) (by simp[hw])) ⟨N,q,h1 hw⟩
 .show concat_meets ⟨_,N,rfl⟩ ⟨_,q,rfl⟩ noFill_tuple_add seq_tuple_add PySem.F.slot_tuple_add PySem.F.entry_tuple_add (PySem.F.args_tuple_add_2 _ _)
   (tuple_addW2 t b vs.toArray g.toArray n n2 Y z sl M (!!hv) (!!hw) (by rw[List.size_toArray,List.size_toArray];exact hsz)) ⟨N,q,?_⟩
  rw[e];exact h2 hw
def sIx(n d:Nat):Option Int->Nat
 |none=>d
 |some v=>if v<0 then(v+(n:Int)).toNat else min v.toNat n
theorem Cr(n d k:Nat):sIx n d (-(k:Int))=min k n:=by change(if(k:Int)<0 then((k:Int)+(n:Int)).toNat else min (k:Int).toNat n)=min k n;rw[if_neg (!0),Int.toNat_natCast]
theorem Cu(n d:Nat)(q:d<=n)(o:Option Int):sIx n d o<=n:=by
 cases o with
 |none=>exact q
 |some v=>
  change(if v<0 then(v+(n:Int)).toNat else min v.toNat n)<=n;by_cases g:v<0
  .rw[if_pos g];lia
  .rw[if_neg g];exact Nat.min_le_right _ _
theorem Cv(v:Int)(n d:Nat):(if v<0 then max (v+(n:Int)) 0 else min v (n:Int))=((sIx n d (-v):Nat):Int):=by
 change(if v<0 then max (v+(n:Int)) 0 else min v (n:Int))=(((if v<0 then(v+(n:Int)).toNat else min v.toNat n):Nat):Int);by_cases g:v<0
 .simp only[if_pos g];lia
 .simp only[if_neg g];lia
theorem Uj(lo hi:Option Int)(n:Nat):Builtin.Slice.sliceAdjust lo hi 1 (n:Int)=(((sIx n 0 lo:Nat):Int),((sIx n n hi:Nat):Int)):=by
 have h1:¬((1:Int)<0):=by lia
 unfold Builtin.Slice.sliceAdjust;simp only[h1,if_false];show Prod.ext ?_ ?_
 .cases lo with
  |none=>rfl
  |some v=>exact Cv v n 0
 .cases hi with
  |none=>rfl
  |some v=>exact Cv v n n
theorem Uk(i j:Nat):Builtin.Slice.slicePlaces (i:Int) (j:Int) 1=j-i:=by
 unfold Builtin.Slice.slicePlaces;have h1:(1:Int) > 0:=by lia
 simp only[h1,if_true,Int.ediv_one];split<;>lia
theorem kY{v:AN}{o:Option Int}{Q:Option Int->AI->Prop}(p:IsPart v o)(h:Q o s):wpAny (model prog w) A (Builtin.Slice.slicePartIndex v) Q E s:=by
 cases p with
 |none=>exact slicePart_none h
 |int i t=>exact slicePart_int h
theorem Cw{L:AQ}{z J:AN}{lo hi:Option Int}{n:Nat}{Q:Int×Int×Nat->AI->Prop}(hs:s.heap.IsSliceOf L z J .none)(N:IsPart z lo)(O:IsPart J hi)
  (h:Q (((sIx n 0 lo:Nat):Int),1,sIx n n hi-sIx n 0 lo) s):wpAny (model prog w) A (Builtin.Slice.sliceApplied (.ref L) (pure (n:Int))) Q E s:=by
 let(U,q,M,g):=id hs;unfold Builtin.Slice.sliceApplied Builtin.Slice.sliceFields;show wpAny_bind (wpAny_bind (wpAny_field q g (x:=z) rfl (wpAny_bind (wpAny_field q g (x:=J) rfl (wpAny_bind (wpAny_field q g (x:=.none) rfl (wpAny_pure ?_)))))));show wpAny_bind (slicePart_none ?_);change wpAny _ _ (if((1:Int)==0)=true then _ else _) _ _ s;rw[if_neg (!1)];show wpAny_bind (kY N (wpAny_bind (kY O (wpAny_bind (wpAny_pure ?_)))));change wpAny _ _ (match Builtin.Slice.sliceAdjust lo hi 1 (n:Int) with | (lo,hi)=>pure (lo,(1:Int),Builtin.Slice.slicePlaces lo hi 1)) _ _ s;rw[Uj lo hi n];change wpAny _ _ (pure (((sIx n 0 lo:Nat):Int),(1:Int),Builtin.Slice.slicePlaces ((sIx n 0 lo:Nat):Int) ((sIx n n hi:Nat):Int) 1)) _ _ s;rw[Uk];exact wpAny_pure h
theorem Ul(xs:Array AN)(i k:Nat):((List.range k).filterMap λ(m:Nat)=>xs[((i:Int)+(m:Int)*1).toNat]?).toArray=((xs.toList.drop i).take k).toArray:=by
 have e:(λ(m:Nat)=>xs[((i:Int)+(m:Int)*1).toNat]?)=λm=>xs[i+m]?:=by
  funext m;have:((i:Int)+(m:Int)*1).toNat=i+m:=by lia
  rw[this]
 rw[e];have:=pick_run xs i k;rw[List.filterMap_map]at this;have g:((λx=>xs[x]?)∘λx=>i+x)=λm=>xs[i+m]?:=rfl;rw[g]at this;rw[this]
theorem Um{t U:AQ}{g:Array AN}{Y vu:AN}{lo hi:Option Int}{Q:AG}(J:IsTup s.heap t g)(hs:s.heap.IsSliceOf U Y vu .none)(pl:IsPart Y lo)(pu:IsPart vu hi)
  (hw:¬(sIx g.size 0 lo=0/\sIx g.size g.size hi=g.size))
  (h:Q (.ref (~~~s)) {s with heap:=s.heap.push {cls:=.type "tuple",data:=.seq ((g.toList.drop (sIx g.size 0 lo)).take (sIx g.size g.size hi-sIx g.size 0 lo)).toArray}})
  (hsz:g.size<=sizeLine):wpAny (model prog w) A (getItem (.ref t) (.ref U)) Q E s:=by
 have z:sizeOk (.seq ((g.toList.drop (sIx g.size 0 lo)).take (sIx g.size g.size hi-sIx g.size 0 lo)).toArray):=by change((g.toList.drop (sIx g.size 0 lo)).take (sIx g.size g.size hi-sIx g.size 0 lo)).toArray.size<=sizeLine;rw[List.size_toArray,List.length_take,List.length_drop,Array.length_toList];lia
 have hj:sIx g.size g.size hi<=g.size:=Cu _ _ (Nat.le_refl _) hi;let(os,O,M,hds):=id hs;have L:s.TypeIs (.ref U) "slice":=⟨os,O,M⟩;unfold getItem;try with_reducible show wpAny_holding ?_
 first|show wpAny_bind (wpAny_pure ?_)|skip
 show wpAny_bind (wpAny_sequenceKey J.typeIs (!1) ?_);show wpAny_bind (wpAny_callSpecial?_slot (name:=⇑"__getitem__") J.typeIs PyProof.Rows.slot_tuple_getitem
  (wpAny_call_entry PyProof.Rows.slot_tuple_getitem J.typeIs entry_tuple_getitem ?_ (args_tuple_getitem _ _)))
 change wpAny _ _ (Builtin.Tuple.tupleItemsOf (.ref t) >>= _) _ _ s;show wpAny_bind (tupleItemsOf_ J ?_);show wpAny_bind (wpAny_typeOf L ?_);rw[if_pos (!1)];show wpAny_bind (Cw hs pl pu ?_);have N:¬((((sIx g.size 0 lo:Nat):Int)==0&&(1:Int)==1&&(sIx g.size g.size hi-sIx g.size 0 lo)==g.size)=true):=by intro q;rw[Bool.and_eq_true,Bool.and_eq_true]at q;have q1:((sIx g.size 0 lo:Nat):Int)=0:=eq_of_beq q.1.1;have q2:sIx g.size g.size hi-sIx g.size 0 lo=g.size:=eq_of_beq q.2;exact hw ⟨!0,!0⟩
 change wpAny _ _ (if(((sIx g.size 0 lo:Nat):Int)==0&&(1:Int)==1&&(sIx g.size g.size hi-sIx g.size 0 lo)==g.size)=true then _ else _) _ _ s;rw[if_neg N,Ul];first
  |exact wpAny_bind (m:=Builtin.Tuple.tupleExact _) (wpAny_newObj_type (wpAny_pure ⟨_,rfl,wpAny_pure h⟩) z)
  |exact wpAny_bind (m:=Builtin.Tuple.tupleExact _) (wpAny_newObj_type (wpAny_bind (wpAny_pure (wpAny_pure ⟨_,rfl,wpAny_pure h⟩))) z)
  |exact wpAny_bind (wpAny_bind (m:=Builtin.Tuple.tupleExact _) (wpAny_newObj_type (wpAny_pure (wpAny_pure ⟨_,rfl,wpAny_pure h⟩)) z))
  |exact wpAny_bind (wpAny_bind (m:=Builtin.Tuple.tupleExact _) (wpAny_newObj_type (wpAny_pure ⟨_,rfl,wpAny_pure h⟩) z))
end
end HT
namespace L2
open PySem PySem.Spec PyProof.Rows
abbrev TO:=St->Hp->(Option Int->Hp->Prop)->Prop
def PO(X:Cx)(e:Option AO)(t:TO):Prop:=
 ∀(p9:AC)(s:AI)(Y:St)(H:Hp)(Q:Option Int->Hp->Prop),Inv X p9 Y H s->t Y H Q->
  ↥X (evalPart e X.env) (λu s'=>∃o H',Inv X p9 Y H' s'/\IsPart u o/\Q o H') X.xe s
def Uo:TO:=λz H Q=>Q none H
def Up(t:TE):TO:=λY H Q=>t Y H λx H1=>∃i,x=.int i/\Q (-i) H1
def intsAre_of{ns:List Int}:∀{g:AB},Vals (ns.map V.int) g->IntsAre g ns:=by
 induction ns with
 |nil=>intro g r;rw[gE]at r;cases r;exact .nil
 |cons n ns q=>
  intro g r;rw[a7]at r;cases r with
  |cons z J=>
   let(t,e):=z;subst e;exact .cons n t (q J)
section
variable {X:Cx} {e:AO} {te:TE} {lo hi:Option AO} {tl th:TO} {pos p2:Pos}
theorem vf:PO X none Uo:=by intro p9 s Y H Q I h;rw[evalPart_none];exact ai ⟨none,H,I,.none,h⟩
theorem Uq(h:PE X e te):PO X (-e) (Up te):=by intro p9 s Y H Q I hw;rw[evalPart_some];show thn (h p9 s Y H _ I hw) λu L zZ=>?_;let(x,H1,g,J,z):=zZ;let(i,rfl,q):=z;let(t,rfl):=J;exact⟨-i,H1,g,.int i t,q⟩
def SlR(X:Cx)(r:V->Option Int->Option Int->Hp->VK->Prop):Prop:=
 ∀(p9:AC)(s:AI)(Y:St)(H:Hp)(x:V)(v q z:AN)(lo hi:Option Int)(g:AQ)(Q:VK),Inv X p9 Y H s->RelV x v->s.heap.IsSliceOf g q z .none->IsPart q lo->IsPart z hi->r x lo hi H Q->
  ∃T id,typeLookup (.type T) "__getitem__"=pure (-(.builtin id))/\s.TypeIs v T/\↥X (getItem v (.ref g)) (EP X p9 Y Q) X.xe s
def tSl(r:V->Option Int->Option Int->Hp->VK->Prop)(te:TE)(tl th:TO):TE:=λY H Q=>te Y H λx H1=>tl Y H1 λl H2=>th Y H2 λu g=>r x l u g Q
theorem Ur{r:V->Option Int->Option Int->Hp->VK->Prop}(hr:SlR X r)(he:PE X e te)(hl:PO X lo tl)(hu:PO X hi th):PE X (.Subscript e (.Slice lo hi none p2) pos) (tSl r te tl th):=by intro p9 s Y H Q I h;show Subscript_ (thn (he p9 s Y H _ I h) λv s1 zZ=>?_);let(x,H1,M,r1,q1):=zZ;show wpAny_Slice (thn (hl p9 s1 Y H1 _ M q1) λz s2 zZ=>?_);let(l,H2,N,pl,q2):=zZ;show thn (hu p9 s2 Y H2 _ N q2) λJ g zZ=>?_;let(u,L,O,pu,q3):=zZ;rw[evalPart_none];show ai ?_;have U:Inv X p9 Y L {g with heap:=g.heap.push {cls:=.type "slice",data:=.fields #[z,J,.none]}}:=O.kept (t':=g.toks) λb ob q=>ag _ q;let(T,id,hT,ht,hg):=hr p9 {g with heap:=g.heap.push {cls:=.type "slice",data:=.fields #[z,J,.none]}} Y L x v z J l u g.heap.objs.size Q U r1 (Heap.IsSliceOf.new ..) pl pu q3;change ↥X (subscriptTail e (.Slice lo hi none p2) v (.ref g.heap.objs.size)) (EP X p9 Y Q) X.xe {g with heap:=g.heap.push {cls:=.type "slice",data:=.fields #[z,J,.none]}};exact tail_any (ops:=[.ref g.heap.objs.size,v]) ht hT hg (by with_unfolding_all rfl)
def eO(xs:AR)(lo hi:Option Int):AR:=(xs.drop (HT.sIx xs⁻¹ 0 lo)).take (HT.sIx xs⁻¹ xs⁻¹ hi-HT.sIx xs⁻¹ 0 lo)
theorem Cy(xs:AR)(lo hi:Option Int):(eO xs lo hi)⁻¹<=xs⁻¹:=by unfold eO;rw[de,d5];lia
def Us(K:PF):V->Option Int->Option Int->Hp->VK->Prop:=λx lo hi H Q=>∃a xs,x=.ref a/\SqT K H a xs/\
 ¬(HT.sIx xs⁻¹ 0 lo=0/\HT.sIx xs⁻¹ xs⁻¹ hi=xs⁻¹)/\∀p,H p=none->Q (.ref p) (upd H p (.tup (eO xs lo hi)))
theorem Ut:SlR X (Us X.K):=by
 intro p9 s Y H x v vl vu lo hi sl Q I U hs N O h;let(a,xs,rfl,M,hw,q):=h;cases U;let(z,r,J,L):=I.tuple M;have g:z.toArray.size=xs⁻¹:=by rw[am];exact r.length.symm
 show⟨"tuple",_,da.lookup,J.typeIs,?_⟩;show HT.Um J hs N O (by rw[g];exact hw) ?_ (by rw[g];exact L);rw[g];show⟨.ref (~~~s),_,I.laid (t':=s.toks) (o:=.tup (eO xs lo hi)) (λb ob q=>ag _ q) (av _) ?_,rfl,q _ (I.hok.fresh (av _))⟩;exact⟨b5 (Cy xs lo hi) L,_,(r.drop (HT.sIx xs⁻¹ 0 lo)).take (HT.sIx xs⁻¹ xs⁻¹ hi-HT.sIx xs⁻¹ 0 lo),IsTupX.new _ _⟩
def Uu(K:PF):R2:=λx y H Q=>∃a b xs ys,x=.ref a/\y=.ref b/\SqT K H a xs/\SqT K H b ys/\xs≠[]/\xs⁻¹+ys⁻¹<=sizeLine/\
 (ys=[]->Q (.ref a) H)/\(ys≠[]->∀p,H p=none->Q (.ref p) (upd H p (.tup (xs++ys))))
theorem Vals.nil_iff{xs:AR}{g:AB}(r:Vals xs g):g=[]↔xs=[]:=by
 cases r with
 |nil=>simp
 |cons _ _=>simp
theorem Uv:OpR X (binaryOp .Add) (Uu X.K):=by intro p9 s Y H x y v u Q I rx ry h;let(a,b,xs,ys,rfl,rfl,N,O,U,L,q1,q2):=h;cases rx;cases ry;let(its,J,p1,_):=I.tuple N;let(M,g,p2,_):=I.tuple O;show HT.Ui p1 p2 (λz=>U (J.nil_iff.mp z)) (λz=>⟨.ref a,H,I,rfl,q1 (g.nil_iff.mp z)⟩) (λz=>?_) (by rw[<-J⁻¹,<-g⁻¹];exact L);show⟨.ref (~~~s),_,I.laid (t':=s.toks) (o:=.tup (xs++ys)) (λb ob q=>ag _ q) (av _) ?_,rfl,q2 (λw=>z (g.nil_iff.mpr w)) _ (I.hok.fresh (av _))⟩;exact⟨by rw[ax];exact L,_,J.append g,IsTupX.new _ _⟩
end
def ixN(n:Nat)(i:Int):Option Nat:=if 0<=i then(if i<n then some i.toNat else none) else if Neg.neg (n:Int)<=i then some (i+n).toNat else none
def atI{g:Type}(xs:List g)(i:Int):Option g:=(ixN xs⁻¹ i).bind λj=>xs[j]?
def Cz{n:Nat}{i:Int}{j:Nat}(h:ixN n i=-j):seqIndex? i n=-j/\j<n/\Neg.neg (n:Int)<=i/\i<n:=by
 unfold ixN at h;by_cases h0:0<=i
 .rw[if_pos h0]at h;by_cases h1:i<n
  .rw[if_pos h1]at h;have e:i.toNat=j:=eI h;exact⟨by rw[seqIndex_of h0 h1,e],!0,!0,h1⟩
  .rw[if_neg h1]at h;cases h
 .rw[if_neg h0]at h;by_cases h1:Neg.neg (n:Int)<=i
  .rw[if_pos h1]at h;have e:(i+n).toNat=j:=eI h;exact⟨by rw[seqIndex_neg (!0) h1,e],!0,h1,!0⟩
  .rw[if_neg h1]at h;cases h
def vg{g:Type}{xs:List g}{i:Int}{v:g}(h:atI xs i=-v):∃j,seqIndex? i xs⁻¹=-j/\xs[j]?=-v/\j<xs⁻¹/\Neg.neg (xs⁻¹:Int)<=i/\i<xs⁻¹:=by
 unfold atI at h;cases e:ixN xs⁻¹ i with
 |none=>rw[e]at h;cases h
 |some j=>
  rw[e]at h;let(h1,h2,q,z):=Cz e;exact⟨j,h1,h,h2,q,z⟩
def bL{g:Type}{xs:List g}{j:Nat}{v:g}(h:xs[j]?=-v):atI xs (j:Int)=-v:=by
 have q:j<xs⁻¹:=(ah.mp h).1;have e:ixN xs⁻¹ (j:Int)=-j:=by unfold ixN;rw[if_pos (!0),if_pos (!0)];simp
 unfold atI;rw[e];exact h
def CG{g:Type}(xs:List g)(v:g):atI (xs++[v]) (Neg.neg 1)=-v:=by
 have hl:(xs++[v])⁻¹=xs⁻¹+1:=by simp
 have e:ixN (xs++[v])⁻¹ (Neg.neg 1)=-xs⁻¹:=by unfold ixN;rw[hl,if_neg (!1),if_pos (!0)];congr 1;lia
 unfold atI;rw[e];change(xs++[v])[xs⁻¹]?=-v;simp
def CJ(b:AO):Prop:=∀o i,subscripted b false o i=operate [o,i] (getItem o i)
def IxR(X:Cx)(r:R2):Prop:=
 ∀(q g:AO)(p9:AC)(s:AI)(Y:St)(H:Hp)(x y:V)(v u:AN)(Q:VK),Inv X p9 Y H s->RelV x v->RelV y u->r x y H Q->
  subscripted g false v u=operate [v,u] (getItem v u)->↥X (subscriptTail q g v u) (EP X p9 Y Q) X.xe s
def MtR(X:Cx)(id:AL)(r:V->AR->Hp->VK->Prop):Prop:=
 ∀(p9:AC)(s:AI)(Y:St)(H:Hp)(x:V)(xs:AR)(v:AN)(g:AB)(Q:VK),Inv X p9 Y H s->RelV x v->Vals xs g->r x xs H Q->
  ↥X (call (.builtin id) (v::g)) (EP X p9 Y Q) X.xe s
section
variable {X:Cx} {a b:AO} {ta tb:TE} {pos:Pos}
theorem Uw{r:R2}(L:IxR X r)(z:PE X a ta)(J:PE X b tb)(hs:CJ b):PE X (.Subscript a b pos) (tOp r ta tb):=by intro p9 s Y H Q I h;exact Subscript_ (u9 z J I h λv u O x y H2 g M N q=>L a b p9 O Y H2 x y v u Q g M N q (hs _ _))
def Ux(K:PF):R2:=λx y H Q=>∃p xs i v,x=.ref p/\y=.int i/\SqL K H p xs/\atI xs i=-v/\Q v H
def Uy(K:PF):R2:=λx y H Q=>∃p xs i v,x=.ref p/\y=.int i/\SqT K H p xs/\atI xs i=-v/\Q v H
def Uz:R2:=λx y H Q=>∃z i c,x=.str z/\y=.int i/\z⁻¹<=sizeLine/\atI z.cps.toList i=-c/\Q (.str ⟨#[c]⟩) H
theorem UG:IxR X (Ux X.K):=by
 intro O N p9 s Y H x y v u Q I rx ry h hs;let(p,xs,i,z,rfl,rfl,hq,he,q):=h;cases rx;let(t,rfl):=ry;let(J,r,L,hz):=I.list hq;let(j,h1,h2,h3,h4,h5):=vg he;let(w,U,M):=r.get h2;have hl:=r⁻¹;have hn:=iy;have fin:EP X p9 Y Q w s:=⟨z,H,I,M,q⟩;by_cases h0:0<=i
 .have g:i.toNat=j:=by
   rw[seqIndex_of h0 h5]at h1;exact eI h1
  exact item_listR L.isList h0 (!0) (by rw[g];simpa using U) fin hs
 .have g:(i+(J.toArray.size:Int)).toNat=j:=by
   rw[seqIndex_neg (!0) h4]at h1;rw[am,<-hl];exact eI h1
  exact subscriptTail_builtinR (x:=w) L.isList.typeIs slot_list_getitem.lookup
   (wpAny_getItem_list_neg (Q:=λr s'=>r=w/\EP X p9 Y Q r s') L.isList (!0) (by rw[am]<;>lia) (!0) (by rw[g];simpa using U) ⟨rfl,fin⟩) hs
theorem UJ:IxR X (Uy X.K):=by
 intro L J p9 s Y H x y v u Q I rx ry h hs;let(p,xs,i,z,rfl,rfl,O,he,q):=h;cases rx;let(t,rfl):=ry;let(U,r,M,hz):=I.tuple O;let(j,h1,h2,h3,h4,h5):=vg he;let(w,N,g):=r.get h2;have hl:=r⁻¹;have hn:=iy;have fin:EP X p9 Y Q w s:=⟨z,H,I,g,q⟩;exact subscriptTail_builtinR (x:=w) M.typeIs slot_tuple_getitem.lookup
  (getItem_tuple (j:=j) (Q:=λr s'=>r=w/\EP X p9 Y Q r s') M (!0) (!0) (by rw[am,<-hl];exact h1) (!!N) ⟨rfl,fin⟩) hs
theorem UL:IxR X Uz:=by
 intro J g p9 s Y H x y v u Q I U ry h hs;let(z,i,c,rfl,rfl,hz,he,q):=h;let(t,rfl):=U;let(t',rfl):=ry;let(j,h1,h2,h3,N,O):=vg he;have hl:z.cps.toList⁻¹=z⁻¹:=by simp[Str.length]
 rw[hl]at h1 N O;have hn:=iy;exact tail_any (typeIs_str s z t) slot_str_getitem.lookup (getItem_str (c:=c) (by
  have L:decide (i < Neg.neg (2 ^ 63:Int))=false:=bq (!0);have M:decide (i≥2 ^ 63)=false:=bq (!0);rw[L,M,Bool.or_false]) (by rw[h1];simpa using h2) ⟨.str ⟨#[c]⟩,H,I.tok _,⟨_,rfl⟩,q⟩) hs
theorem UT (g:AB) (n j:Nat) (u:AN):Obj.mapSeq (·.setIfInBounds j u) {cls:=.type "list",data:=.seq g.toArray n}={cls:=.type "list",data:=.seq (g.set j u).toArray n}:=by simp[Obj.mapSeq]
theorem Inv.lst{p9:AC}{Y:St}{H:Hp}{s:AI}{p:AQ}{xs:AR}(I:Inv X p9 Y H s)(h:H p=-(.lst xs)):
  ∃(g:AB) (n:Nat),Vals xs g/\s.heap.get? p=-{cls:=.type "list",data:=.seq g.toArray n}/\xs⁻¹<=sizeLine:=by
 let(z,g,n,r,e):=I.hok p _ h;exact⟨g,n,r,e,z⟩
theorem Inv.lstUpd{p9:AC}{Y:St}{H:Hp}{s:AI}{p:AQ}{xs ys:AR}{g its':AB}{n z:Nat}{f:Obj->Obj}(I:Inv X p9 Y H s)(h:H p=-(.lst xs))
  (M:s.heap.get? p=-{cls:=.type "list",data:=.seq g.toArray n}) (J:f {cls:=.type "list",data:=.seq g.toArray n}={cls:=.type "list",data:=.seq its'.toArray z}) (r:Vals ys its') (N:ys⁻¹<=sizeLine) (t:Nat):
  Inv X p9 Y (upd H p (.lst ys)) {s with heap:=s.heap.update p f,toks:=t}:=by
 have e:(s.heap.update p f).get? p=-{cls:=.type "list",data:=.seq its'.toArray z}:=by rw[Heap.get?_update_self f M (by rw[J]<;>rfl),J]
 show I.write (x:=p) (e:=p) (by rw[h];trivial) (.inl rfl) (λb u L q=>(Heap.get?_update_other _ _ (Ne.symm L)).trans q) ⟨_,e⟩ ?_;exact⟨N,its',z,r,e⟩
def UV:V->V->V->Hp->(Hp->Prop)->Prop:=λo i v H Q=>∃p xs k j,o=.ref p/\i=.int k/\H p=-(.lst xs)/\ixN xs⁻¹ k=-j/\Q (upd H p (.lst (xs.set j v)))
theorem set_list:u5 X UV:=by
 intro p9 s Y H o i v ov iv u Q I ro ri rv h;let(p,xs,k,j,rfl,rfl,O,U,q):=h;cases ro;let(t,rfl):=ri;let(g,n,r,J,hz):=I.lst O;let(h1,h2,M,N):=Cz U;have hl:=r⁻¹;have hn:=iy;have L:Inv X p9 Y (upd H p (.lst (xs.set j v))) {s with heap:=s.heap.update p (Obj.mapSeq (·.setIfInBounds j u))}:=
  I.lstUpd O J (UT g n j u) (r.set rv j) (by rw[eJ];exact hz) s.toks
 by_cases h0:0<=k
 .have z:k.toNat=j:=by
   rw[seqIndex_of h0 N]at h1;exact eI h1
  exact PySem.W.ki_setAt J h0 (!0) (by rw[am,<-hl];exact N) (by rw[z];exact⟨_,L,q⟩)
 .have z:(k+(g.toArray.size:Int)).toNat=j:=by
   rw[seqIndex_neg (!0) M]at h1;rw[am,<-hl];exact eI h1
  exact PySem.W.ki_setBack J (!0) (by rw[am,<-hl];exact M) (!0) (by rw[z];exact⟨_,L,q⟩)
theorem CN(lo hi:Option Int)(n:Nat):(sliceBounds lo hi none n).1=((HT.sIx n 0 lo:Nat):Int)/\(sliceBounds lo hi none n).2.1=((HT.sIx n n hi:Nat):Int)/\(sliceBounds lo hi none n).2.2=1:=by
 show⟨?_,?_,rfl⟩
 .cases lo with
  |none=>simp[sliceBounds,HT.sIx]
  |some i=>
   simp only[sliceBounds,HT.sIx,Option.getD_none,show(1:Int) > 0 by decide,if_true];by_cases h:i<0
   .simp only[h,if_true]<;>lia
   .simp only[h,if_false]<;>lia
 .cases hi with
  |none=>simp[sliceBounds,HT.sIx]
  |some i=>
   simp only[sliceBounds,HT.sIx,Option.getD_none,show(1:Int) > 0 by decide,if_true];by_cases h:i<0
   .simp only[h,if_true]<;>lia
   .simp only[h,if_false]<;>lia
theorem UW(g:AB)(lo hi:Option Int):slicePick g.toArray lo hi none=((g.drop (HT.sIx g⁻¹ 0 lo)).take (HT.sIx g⁻¹ g⁻¹ hi-HT.sIx g⁻¹ 0 lo)).toArray:=by let(h1,h2,q):=CN lo hi g.toArray.size;unfold slicePick;rw[h1,h2,q];simp only[sliceRange_one,pick_run,am]<;>rfl
def U0(K:PF):V->Option Int->Option Int->Hp->VK->Prop:=λx lo hi H Q=>∃a xs,x=.ref a/\SqL K H a xs/\∀p,H p=none->Q (.ref p) (upd H p (.lst (eO xs lo hi)))
theorem CP:SlR X (U0 X.K):=by intro p9 s Y H x v vl vu lo hi sl Q I U hs N O h;let(a,xs,rfl,J,q):=h;cases U;let(M,r,z,L):=I.list J;have g:=r⁻¹;show⟨"list",_,slot_list_getitem.lookup,z.isList.typeIs,?_⟩;show wpAny_getItem_list_slice z.isList hs N O .none (!2) ?_ (by rw[am]<;>lia);rw[UW,<-g];show⟨.ref (~~~s),_,I.laid (t':=s.toks) (o:=.lst (eO xs lo hi)) (λb ob q=>ag _ q) (av _) ?_,rfl,q _ (I.hok.fresh (av _))⟩;exact⟨b5 (Cy xs lo hi) L,_,0,(r.drop (HT.sIx xs⁻¹ 0 lo)).take (HT.sIx xs⁻¹ xs⁻¹ hi-HT.sIx xs⁻¹ 0 lo),aI _ rfl⟩
theorem CQ:bj X (.builtin "len") (λxs H Q=>∃p ys,xs=[.ref p]/\(SqL X.K H p ys\/SqT X.K H p ys)/\Q (.int ys⁻¹) H):=by
 intro p9 s Y H xs U Q I r h;let(p,ys,rfl,z,q):=h;let(u,rfl,O):=vals1 r;cases O;have hn:=iy;rcases z with z|z
 .let(J,M,L,N):=I.list z;have g:=M⁻¹;exact Calls.call_len_list L.isList (by simp only[am]<;>lia) ⟨.int ys⁻¹,H,I.tok _,⟨s.toks+1,by rw[am,g]⟩,q⟩
 .let(J,M,L,N):=I.tuple z;have g:=M⁻¹;exact len_tuple L (by simp only[am]<;>lia) ⟨.int ys⁻¹,H,I.tok _,⟨s.toks+1,by rw[am,g]⟩,q⟩
theorem U3:bj X (.builtin "len") (λxs H Q=>∃z,xs=[.str z]/\z⁻¹<=sizeLine/\Q (.int z⁻¹) H):=by intro p9 s Y H xs J Q I r h;let(z,rfl,g,q):=h;let(u,rfl,t,rfl):=vals1 r;have hn:=iy;exact len_str (!0) ⟨.int z⁻¹,H,I.tok _,⟨_,rfl⟩,q⟩
theorem CW:bj X (.type "list") (λxs H Q=>∃p ys,xs=[.ref p]/\(SqL X.K H p ys\/SqT X.K H p ys)/\∀l,H l=none->Q (.ref l) (upd H l (.lst ys))):=by
 intro p9 s Y H xs us Q I r h;let(p,ys,rfl,M,q):=h;let(u,rfl,rx):=vals1 r;cases rx;have fin:∀(g:AB),Vals ys g->ys⁻¹<=sizeLine->∀(h':Heap)(z:Nat),(∀b o',s.heap.get? b=-o'->h'.get? b=-o')->
   h'.get? (~~~s)=-{cls:=.type "list",dict:=none,data:=.seq g.toArray z,slots:=#[]}->EP X p9 Y Q (.ref (~~~s)) {s with heap:=h'}:=λg J N h' z kp e=>
  ⟨.ref (~~~s),_,I.laid (t':=s.toks) kp (av _) (show ObjOk X.prog X.w _ h' _ (.lst ys) from⟨N,g,z,J,e⟩),rfl,q _ (I.hok.fresh (av _))⟩
 rcases M with M|M
 .let(g,J,pl,N):=I.list M;have L:=J⁻¹;let(o,U,hc,n,O):=pl.isList;exact call_list_seq p (.inl rfl) U hc O (λh' z kp e=>fin g J N h' z kp e) (by simp only[am]<;>lia)
 .let(g,J,pl,N):=I.tuple M;have L:=J⁻¹;let(o,U,hc,n,O):=pl;exact call_list_seq p (.inr rfl) U hc O (λh' z kp e=>fin g J N h' z kp e) (by simp only[am]<;>lia)
theorem CZ:bj X (.type "tuple") (λxs H Q=>∃p ys,xs=[.ref p]/\((SqL X.K H p ys/\∀l,H l=none->Q (.ref l) (upd H l (.tup ys)))\/(SqT X.K H p ys/\Q (.ref p) H))):=by
 intro p9 s Y H xs us Q I r h;let(p,ys,rfl,h):=h;let(u,rfl,rx):=vals1 r;cases rx;rcases h with⟨z,q⟩|⟨z,q⟩
 .let(g,L,J,O):=I.list z;have N:=L⁻¹;show call_tuple_list J.isList (λh' kp=>?_) (by simp only[am]<;>lia);have M:Inv X p9 Y H {s with heap:=h'}:=I.kept (t':=s.toks) kp;have U:Inv X p9 Y (upd H h'.objs.size (.tup ys)) {s with heap:=h'.push {cls:=.type "tuple",data:=.seq g.toArray}}:=
   M.laid (t':=s.toks) (λb o e=>ag _ e) (av _) (show ObjOk X.prog X.w _ _ _ (.tup ys) from⟨O,g,L,IsTupX.new _ _⟩)
  exact⟨.ref h'.objs.size,_,U,rfl,q _ (M.hok.fresh (av _))⟩
 .let(g,L,J,O):=I.tuple z;exact call_tuple_same J ⟨.ref p,H,I,rfl,q⟩
def tyV(K:PF)(T:AL)(x:V)(H:Hp):Prop:=match x with
 |.str _=>T="str"
 |.int _=>T="int"
 |.ref p=>(T="list"/\∃xs,SqL K H p xs)\/(T="tuple"/\∃o,K.lookup p=-o/\o.cls=.type "tuple"/\o.dict=none)\/
   (T="dict"/\((∃g,H p=-(.dK g))\/∃g,H p=-(.dT g)))\/(T="set"/\∃S n,H p=-(.set S n))
 |_=>False
theorem U4{p9:AC}{Y:St}{H:Hp}{s:AI}{T:AL}{x:V}{v:AN}(I:Inv X p9 Y H s)(r:RelV x v)(ty:tyV X.K T x H):
  s.TypeIs v T/\∀a,v=.ref a->∃ob,s.heap.get? a=-ob/\ob.dict=none:=by
 cases x with
 |str z=>
  let(t,rfl):=r;cases(show T="str" from ty);exact⟨typeIs_str s z t,λy e=>nomatch e⟩
 |int i=>
  let(t,rfl):=r;cases(show T="int" from ty);exact⟨typeIs_int s i t,λy e=>nomatch e⟩
 |ref p=>
  cases r;rcases ty with⟨rfl,xs,N⟩|⟨rfl,o,g,hc,J⟩|⟨rfl,g⟩|⟨rfl,S,n,g⟩
  .let(O,_,M,_):=I.list N;show⟨M.isList.typeIs,λa e=>?_⟩;cases e;let(o,n,e,c,J,_):=M;exact⟨o,e,J⟩
  .show ⟨⟨o,I.kIn p o g,hc⟩,λa e=>?_⟩;cases e;exact⟨o,I.kIn _ o g,J⟩
  .have z:∃o,s.heap.get? p=-o/\o.ExactDict:=by
    rcases g with⟨L,g⟩|⟨L,g⟩
    .let(_,_,_,_,o,_,_,e,ex,_):=I.hok p _ g;exact⟨o,e,ex⟩
    .let(_,_,_,_,o,_,_,e,ex,_):=I.hok p _ g;exact⟨o,e,ex⟩
   let(o,e,ex):=z;show⟨⟨o,e,ex.1⟩,λa q=>?_⟩;cases q;exact⟨o,e,ex.2.1⟩
  .let(o,_,_,_,e,ex,_):=I.hok p _ g;show⟨⟨o,e,ex.1⟩,λa q=>?_⟩;cases q;exact⟨o,e,ex.2.1⟩
 |_=>exact False.elim ty
def tBM(K:PF)(T:AL)(r:V->AR->Hp->VK->Prop)(to:TE)(t:TA):TE:=λY H Q=>to Y H λx H1=>tyV K T x H1/\t Y H1 λxs H2=>r x xs H2 Q
variable {o e:AO} {es:AE} {to:TE} {t:TA} {name:Str} {apos cpos:Pos} {T id:AL} {r:V->AR->Hp->VK->Prop}
theorem qT (pa:PlainAttrs T) (slot:Slot T name id) (L:typeOf (.builtin id)=pure (.type "method_descriptor")) (hm:MtR X id r) (ho:PE X o to) (ha:PA X (e::es) t)
  (q:attributeBase o name X.env (eval o X.env)=eval o X.env:=by rfl)
  (J:((backTo cpos (starEach (e::es) X.env)).all (λx=>!x.1)&&(backToKw cpos (keywordEach [] X.env)).all (λx=>x.1.isSome)
  &&decide ((e::es)⁻¹+([]:List Keyword)⁻¹+(if([]:List Keyword).isEmpty then 0 else 1)<30))=true:=by rfl)
  (z:(apos.endLine==cpos.line)=true:=by rfl) (hs:starEach (e::es) X.env=(false,eval e X.env)::starEach es X.env:=by rfl) (g:(backTo cpos (starEach es X.env)).any (·.1)=false:=by rfl):
  PE X (.Call (.Attribute o name apos) (e::es) [] cpos) (tBM X.K T r to t):=by
 intro p9 s Y H Q I h;show wpAny_Call_method_late q J z rfl (thn (ho p9 s Y H _ I h) λv s1 zZ=>?_);let(x,H1,M,O,ty,q1):=zZ;let(h1,h2):=U4 M O ty;show⟨T,id,pa,slot,L,h1,h2,?_⟩;have N:=ha cpos p9 s1 Y H1 _ M q1;rw[hs]at N ⊢;show Calls.callWith_builtin (by change(false||(backTo cpos (starEach es X.env)).any (·.1))=false;rw[g]<;>rfl) (Calls.evalArgs_plain ?_);show thn N λus s2 zZ=>?_;let(vs,H2,U,r2,q2):=zZ;exact hm p9 s2 Y H2 x vs v us Q U O r2 q2
end
def MtM(X:Cx)(id:AL)(r:V->AR->Hp->VK->Prop):Prop:=
 ∀(p9:AC)(s:AI)(Y:St)(H:Hp)(x:V)(xs:AR)(v:AN)(g:AB)(Q:VK),Inv X p9 Y H s->RelV x v->Vals xs g->r x xs H Q->
  ↥X (call (.builtin id) (v::g)) (EP X p9 Y Q) X.xe s
def Vals.one:∀{x:V}{g:AB},Vals [x] g->∃u,g=[u]/\RelV x u
 |_,_,.cons r .nil=>⟨_,rfl,r⟩
def Vals.eraseIdx:∀{xs:AR}{g:AB}(i:Nat),Vals xs g->Vals (xs.eraseIdx i) (g.eraseIdx i)
 |_,_,_,.nil=>.nil
 |_,_,0,.cons _ t=>t
 |_,_,i+1,.cons r t=>.cons r (Vals.eraseIdx i t)
def Vals.reverse{xs:AR}{g:AB}(h:Vals xs g):Vals xs.reverse g.reverse:=by
 induction h with
 |nil=>exact .nil
 |cons r t q=>rw[List.reverse_cons,List.reverse_cons];exact Vals.append q (.cons r .nil)
def Vals.rep{xs:AR}{g:AB}(h:Vals xs g):∀k:Nat,Vals (List.replicate k xs).flatten (List.replicate k g).flatten
 |0=>.nil
 |k+1=>by
  rw[cr,cr,e8,e8];exact Vals.append h (Vals.rep h k)
def Dc{g:Type}:∀(l:List g)(i:Nat),(l.eraseIdx i)⁻¹<=l⁻¹
 |[],_=>av _
 |_::_,0=>gd _
 |_::r,i+1=>Nat.succ_le_succ (Dc r i)
def foldl_rep(q:AB):∀(k:Nat)(g:AB),
  List.foldl (λJ L=>J++L) g.toArray (List.replicate k q.toArray)=(g++(List.replicate k q).flatten).toArray
 |0,g=>by simp
 |k+1,g=>by
  have e:g.toArray++q.toArray=(g++q).toArray:=by simp
  have z:(g++q)++(List.replicate k q).flatten=g++(List.replicate (k+1) q).flatten:=by rw[cr,e8,fq]
  rw[<-z,<-foldl_rep q k (g++q),<-e,cr,ft]
section
variable {X:Cx} {p9:AC} {σ:St} {H:Hp} {s:AI} {l b:AQ} {xs ys zs:AR}
theorem Inv.lset{g its':AB}{n:Nat}{f:Array AN->Array AN}{t':Nat}(I:Inv X p9 σ H s)(z:H l=-(.lst xs))
  (e:s.heap.get? l=-{cls:=.type "list",data:=.seq g.toArray n}) (L:f g.toArray=its'.toArray) (N:Vals ys its') (O:ys⁻¹<=sizeLine):
  Inv X p9 σ (upd H l (.lst ys)) {s with heap:=s.heap.update l (Obj.mapSeq f),toks:=t'}:=by
 have q:=PySem.IsL.update e f;rw[L]at q;show I.write (x:=l) (e:=l) (by rw[z];exact trivial) (.inl rfl) (λU u J M=>(Heap.get?_update_other s.heap (Obj.mapSeq f) (Ne.symm J)).trans M) ⟨_,q⟩ ?_;exact⟨O,its',_,N,q⟩
theorem Inv.lnew{g:AB}{t':Nat}(I:Inv X p9 σ H s)(z:Vals ys g)(J:ys⁻¹<=sizeLine):
  Inv X p9 σ (upd H (~~~s) (.lst ys)) {s with heap:=s.heap.push {cls:=.type "list",data:=.seq g.toArray},toks:=t'}:=
 I.laid (λy y q=>ag _ q) (av _) ⟨J,g,0,z,aI _ rfl⟩
theorem Inv.fresh(I:Inv X p9 σ H s):H (~~~s)=none:=I.hok.fresh (av _)
theorem Inv.lstM (I:Inv X p9 σ H s) (q:H l=-(.lst xs)):xs⁻¹<=sizeLine/\∃(g:AB) (n:Nat),Vals xs g/\xs⁻¹=g⁻¹/\s.heap.get? l=-{cls:=.type "list",data:=.seq g.toArray n}:=by let(z,g,n,r,e):=I.hok l _ q;exact⟨z,g,n,r,r⁻¹,e⟩
theorem Dd{n:Nat}(h:n<=sizeLine):Builtin.List.listTooLong n=false:=by unfold Builtin.List.listTooLong;exact bq (!0)
end
section
variable {X:Cx}
def U5:V->AR->Hp->VK->Prop:=λx vs H Q=>∃l xs y,x=.ref l/\vs=[y]/\H l=-(.lst xs)/\xs⁻¹<sizeLine/\Q .non (upd H l (.lst (xs++[y])))
theorem U6:MtM X "list.append" U5:=by intro p9 s Y H x vs v U Q I N M h;let(l,xs,y,rfl,rfl,J,O,q):=h;cases N;let(u,rfl,L):=M.one;let(z,g,n,r,hl,e):=I.lstM J;show fS F.slot_list_append ⟨_,e,rfl⟩ F.entry_list_append (F.args_list_append_2 _ _) (PySem.list_append l g.toArray n u (by rw[am];lia)) ⟨e,?_⟩;show⟨.non,_,I.lset (its':=g++[u]) J e (!2) (r.append (.cons L .nil)) ?_,rfl,q⟩;rw[ax,hU];lia
def U7:V->AR->Hp->VK->Prop:=λx vs H Q=>∃l b xs zs,x=.ref l/\vs=[.ref b]/\H l=-(.lst xs)/\H b=-(.lst zs)/\xs⁻¹+zs⁻¹<=sizeLine/\Q .non (upd H l (.lst (xs++zs)))
theorem U8:MtM X "list.extend" U7:=by
 intro p9 s Y H x vs v us Q I rx rv h;let(l,b,xs,zs,rfl,rfl,M,O,hz,q):=h;cases rx;let(u,rfl,ru):=rv.one;cases ru;let(z,J,n,r,hl,e):=I.lstM M;let(z2,g,n2,r2,U,N):=I.lstM O;have hsz:J.toArray.size+g.toArray.size<=sizeLine:=by rw[am,am];lia
 have L:¬(!J.toArray.isEmpty&&Builtin.List.listTooLong (J.toArray.size+g.toArray.size))=true:=by rw[Dd hsz,gS];exact bg
 show fS F.slot_list_extend ⟨_,e,rfl⟩ F.entry_list_extend (F.args_list_extend_2 _ _)
  (AutoSeq1.list_extend_list_list_0 l J.toArray n b g.toArray n2 L (by rw[am];lia) (!0)) ⟨e,N,?_⟩
 show⟨.non,_,I.lset (its':=J++g) M e (!2) (r.append r2) ?_,rfl,q⟩;rw[ax];lia
def U9:V->AR->Hp->VK->Prop:=λx vs H Q=>∃l xs i k y,x=.ref l/\vs=[.int i]/\H l=-(.lst xs)/\Neg.neg (2 ^ 63)<=i/\i<2 ^ 63/\seqIndex? i xs⁻¹=-k/\xs[k]?=-y/\Q y (upd H l (.lst (xs.eraseIdx k)))
theorem Va:MtM X "list.pop" U9:=by
 intro p9 s Y H x vs v us Q I rx U h;let(l,xs,i,k,y,rfl,rfl,L,h1,h2,M,N,q):=h;cases rx;let(u,rfl,O):=U.one;let(t,rfl):=O;let(z,g,n,r,hl,e):=I.lstM L;let(w,hw,J):=r.get N;show fS F.slot_list_pop ⟨_,e,rfl⟩ F.entry_list_pop (F.args_list_pop_2 _ _)
  (MeetsSeq.list_pop_at l g.toArray n i t k w (fitsIndex_both h1 h2) (by rw[am,<-hl];exact M) (by rw[<-eP];exact hw) (by rw[am];lia)) ⟨e,?_⟩
 show⟨y,_,I.lset (its':=g.eraseIdx k) L e ?_ (r.eraseIdx k) ?_,J,q⟩
 .change g.toArray.eraseIdxIfInBounds k=(g.eraseIdx k).toArray;rw[List.eraseIdxIfInBounds_toArray]
 .have:=Dc xs k;lia
theorem len_rep{q:Type}(xs:List q)(k:Nat):(List.replicate k xs).flatten⁻¹=k*xs⁻¹:=by
 induction k with
 |zero=>simp
 |succ k g=>rw[cr,e8,ax,g,Nat.succ_mul,Nat.add_comm]
end
end L2
namespace Att
open PySem PySem.W PySem.Calls PyProof.Rows
def Vb{P:Params}{h:Heap}:∀(ns:List Int)(vs:AB),WellAll P h vs (ns.map WData.int)->IntsAre vs ns:=by
 intro ns;induction ns with
 |nil=>
  intro vs w;rw[List.map_nil]at w;cases w;exact .nil
 |cons n ns g=>
  intro vs w;rw[List.map_cons]at w;cases w with
  |cons a b=>
   cases a;exact .cons _ _ (g _ b)
def Vc{l:OpenLaw}{n:Nat}(hn:l.most=-n){P:Params}{h:Heap}{args:List WData}{z:AB}
  (g:l.row.toRowW.claim.pre args=true) (U:WellAll P h z args):
  ∃a vs ns,z=[Value.ref a]/\args=[WData.list (ns.map WData.int)]/\h.get? a=-{cls:=.type "list",data:=.seq vs.toArray}/\IntsAre vs ns/\ns⁻¹<=n:=by
 have O:WShape.hasAll [] args [.list .int]=true:=(pre_splitW g).1;have hc:l.pre.holds [] {args:=args}=true:=(pre_splitW g).2;let(d,r,rfl,h1,h2):=hasAllW_cons O;obtain rfl:=hasAllW_nil h2;let(xs,rfl,Y):=hasW_list h1;let(ns,rfl):=items_int Y;have L:ns⁻¹<=n:=by
  unfold OpenLaw.pre at hc;have M:(WTm.not (.lt (.lit (.int (n:Int))) (.len (.arg 0)))).holds [] {args:=[.list (ns.map .int)]}=true:=by have M:=(holds_andW hc).1;rw[hn]at M;exact M
  have N:=condW_of M (w_not (w_lt w_lit (w_len_list (w_arg rfl))));rw[List.length_map]at N;show Nat.le_of_not_lt λq=>?_;have q':(n:Int)<((ns⁻¹:Nat):Int):=by lia
  first
   | (rw[decide_eq_true q']at N;exact absurd N (!1))
   | (simp at N;lia)
 cases U with
 |cons w1 w2=>
  cases w2;cases w1 with
  |list ho J=>exact⟨_,_,ns,rfl,rfl,ho,Vb ns _ J,L⟩
def Vd(l:OpenLaw)(args:List WData):l.row.toRowW.claim.post args (.bool true) args=true:=
 postW_of (r:=l.row.toRowW) (X:=(true==true))
  (show WShape.has [] (.bool true) .bool=true by first|rfl|decide|simp[WShape.has,WShape.arms,WShape.armsAll])
  (show(WTm.eq .res (.lit (.bool true))).value [] {args:=args,res:=-(.bool true),after:=args}=-(.bool (true==true)) from w_eq_bool (w_res rfl) w_lit) rfl
def attach_call{l:OpenLaw}{n:Nat}{q:AK}{loose:AD}{XP:(AH)->Heap->Prop}{YP:World->Heap->Prop}{d:DefRec}
  (hn:l.most=-n) (hdf:d.params.defaults=[])
  (call:∀(w:World)(s₀ g:AI)(mg mb:AH)(fa:AQ)(o:Obj)(pm O z:AN)(a:AQ)(vs:AB)(ns:List Int),
   Ground q loose [] XP w s₀ mg mb g.heap->YP w g.heap->
   g.heap.get? fa=-o->o.data=.func (docDef d.name d.params d.body d.scope pm O z)->g.heap.CodeRec O d.name->mg d.name=-(.ref fa)->
   g.heap.get? a=-{cls:=.type "list",data:=.seq vs.toArray}->IntsAre vs ns->ns⁻¹<=n->g.gens=#[]->
   codeAny (model l.prog w) callerA (.call (.ref fa) ⟨[.ref a],[]⟩) (λr s'=>r=.ok (.ret (.bool true))/\OldK g.heap s'.heap/\s'.os=g.os/\AllBare s'.gens) g):
  WalkO q loose XP YP l.row.toRowW d [] (λf vs=>PySem.call f vs):=by
 intro w s₀ g mg mb G Y fa o pm O z dV kV ho hd U hD hmg hg args vals as N hlay hrd hwl hlo;obtain rfl:dV=.none:=Dflts.none hD hdf;obtain rfl:kV=.none:=Dflts.noKw hD;let(a,vs,ns,rfl,rfl,M,J,L):=Vc hn N hwl;show enter_call (codeAny_mono (call w s₀ g mg mb fa o pm O z a vs ns G Y ho (fd_plain hd) U hmg M J L hg) λr s' hq=>?_);let(rfl,h2,h3,h4):=hq;exact⟨.inl ⟨.bool true,.bool true,[],rfl,λy=>rfl,.bool true,Vd l _,λy=>⟨List.Pairwise.nil,λy hm=>(nomatch hm)⟩⟩,h2,h3,h4⟩
end Att
namespace L2
open PySem PySem.Spec PyProof.Rows
def vh:∀{vs:AB}{ns:List Int},IntsAre vs ns->Vals (ns.map V.int) vs
 |_,_,.nil=>.nil
 |_,_,.cons n t h=>.cons ⟨t,rfl⟩ (vh h)
def Only(H:Hp):Prop:=∀b,H b=none\/∃o xs,H b=-(.frz o (.lst xs))
def Ve{P:AK}{w:World}{K:PF}{mg mb:AH}{CX:CXT}{k:Nat}{fa a:AQ}{fd:AJ}{x:Str}{sp:Sp}{g:AI}{vs:AB}{ns:List Int}
  (KX:K.In g.heap) (hns:g.heap.Ns mainGlobals mg) (L:g.heap.Ns builtinsNs mb) (hbb:∀x:Str,x≠"__name__"->mb x=bootBuiltins x) (hlim:g.heap.NoLimit) (hg:g.gens=#[])
  (ha:g.heap.get? a=-{cls:=.type "list",data:=.seq vs.toArray}) (hi:IntsAre vs ns) (hl:ns⁻¹<=sizeLine) (hr:Room k callerA)
  (F:∀base:Heap,K.In base->base.Ns mainGlobals mg->FnOk P w K mg base CX k fa fd [x] sp) (O:∀(s:AI)(u:AN),BindsTo s fd ⟨[u],[]⟩ [(x,u)])
  (hsp:∀H:Hp,Only H->SqL K H a (ns.map V.int)->sp [.ref a] H (λv y=>v=.bl true) λy y y=>False)
  (hCX:∀H e s',CX [] H g (λy y y=>False) e s'->False):
  codeAny (model P w) callerA (.call (.ref fa) ⟨[.ref a],[]⟩) (λr s'=>r=.ok (.ret (.bool true))/\OldK g.heap s'.heap/\s'.os=g.os/\AllBare s'.gens) g:=by
 have rv:=vh hi;have lenV:=hi⁻¹
 -- from an abstract heap in which nothing but the script may be tracked
 have N:∀H:Hp,Only H->SqL K H a (ns.map V.int)->HOk P w H g.heap->(∀b,H b≠none->b=a)->(H a≠none->K.lookup a=none)->
   codeAny (model P w) callerA (.call (.ref fa) ⟨[.ref a],[]⟩) (λr s'=>r=.ok (.ret (.bool true))/\OldK g.heap s'.heap/\s'.os=g.os/\AllBare s'.gens) g:=by
  intro H hO hS hok hA hK;have J:∀{b:AQ}{o:Obj},g.heap.get? b=-o->H b=none->(fY g.heap H).get? b=-o:=λe n=>Rh e n;have noA:∀{b:AQ}{o:Obj}{es:Array DictEntry}{ep:Nat},g.heap.get? b=-o->o.data=.dict es ep->H b=none:=λ{b o es ep} e d=>by
   cases q:H b with
   |none=>rfl
   |some u=>
    have e':b=a:=hA b (by rw[q];simp);subst e';rw[ha]at e;cases e;have d':Data.seq vs.toArray _=Data.dict es ep:=d;cases d'
  have M:∀{b:AQ}{m:AH},g.heap.Ns b m->(fY g.heap H).Ns b m:=λ{b m} ⟨o,es,ep,e,d,r⟩=>⟨o,es,ep,J e (noA e d),d,r⟩;have Y:K.In (fY g.heap H):=λb o e=>J (KX b o e) (by
   cases q:H b with
   |none=>rfl
   |some u=>
    have e':b=a:=hA b (by rw[q];simp);subst e';rw[hK (by rw[q];simp)]at e;cases e)
  have hM:Mod K mg (fY g.heap H):=⟨Y,M hns,⟨mb,M L,hbb⟩,let⟨mc,h1,h2⟩:=hlim;⟨mc,M h1,h2⟩⟩;have e0:Env0 P w K mg (fY g.heap H) callerA [] g H:=⟨rfl,hM,λb o e=>Ri e,Nat.le_of_eq (Rg _ _),trivial,λb L=>absurd (show b∈([]:List AQ) from L) (!2),hok,.of_eq hg⟩;show codeAny_mono ((F _ Y (M hns)).run callerA [] g H ⟨[.ref a],[]⟩ [.ref a] [.ref a] _ _ hr e0 (O g (.ref a)) (.cons rfl .nil) (hsp H hO hS)) λr s' h=>?_;cases r with
  |error e=>exact(hCX H e s' h).elim
  |ok fl=>
   cases fl with
   |next=>exact False.elim h
   |brk=>exact False.elim h
   |cont=>exact False.elim h
   |ret u=>
    let(v,H',os,U,un,hok',r',q):=h;have q':v=.bl true:=q;subst q';obtain rfl:u=Value.bool true:=r';show⟨rfl,OldK.of_keep λb o e=>?_,os,U⟩;cases q:H b with
    |none=>exact un.keep b o e q (by intro z;exact absurd (show b∈([]:List AQ) from z) (!2)) (!2)
    |some u=>
     rcases hO b with z|⟨ob,xs,z⟩
     .rw[q]at z;cases z
     .have z2:=un.frzs b ob _ z;let(e1,_):=hok b _ z;let(e2,_):=hok' b _ z2;rw[e]at e1;cases e1;exact e2
 cases hk:K.lookup a with
 |some o=>
  -- the script is one of the module's own objects
  have e:=KX a o hk;rw[ha]at e;cases e;show N (λy=>none) (λy=>.inl rfl) (.inr ⟨_,vs.toArray,_,hk,rfl,rfl,rfl,by rw[am,lenV];exact hl,!!rv⟩) (λb u z=>by have z':(none:Option HO)=-u:=z;cases z') (λb z=>absurd rfl z) λz=>absurd rfl z
 |none=>
  show N (λb=>if b=a then some (.frz {cls:=.type "list",data:=.seq vs.toArray} (.lst (ns.map V.int))) else none) (λb=>?_) (.inl (.inr ⟨{cls:=.type "list",data:=.seq vs.toArray},if_pos rfl⟩)) (λb u z=>?_) (λb z=>?_) λy=>hk
  .by_cases L:b=a
   .exact .inr ⟨_,_,if_pos L⟩
   .exact .inl (if_neg L)
  .by_cases L:b=a
   .have z':=(if_pos L).symm.trans z;cases z';subst L;exact⟨ha,by rw[ae];exact hl,vs,_,rv,ha⟩
   .have z':=(if_neg L).symm.trans z;cases z'
  .by_cases L:b=a
   .exact L
   .exact absurd (if_neg L) z
def Vf{l:PySem.W.OpenLaw}{n k:Nat}{q:AK}{loose:AD}{XP:(AH)->Heap->Prop}{YP:World->Heap->Prop}{d:DefRec}{K:Params->PF}{CX:World->CXT}{sp:World->Sp}{x:Str}
  (hn:l.most=-n) (U:n<=sizeLine) (N:d.params.defaults=[]) (hr:Room k callerA)
  (hY:∀(w:World)(h:Heap),YP w h->(K w.params).In h)
  (F:∀(w:World)(mg:AH)(fa:AQ)(h:Heap),(K w.params).In h->h.Ns mainGlobals mg->mg d.name=-(.ref fa)->
   ∃fd:AJ,(∀(s:AI)(u:AN),BindsTo s fd ⟨[u],[]⟩ [(x,u)])/\
    ∀base:Heap,(K w.params).In base->base.Ns mainGlobals mg->FnOk l.prog w (K w.params) mg base (CX w) k fa fd [x] (sp w))
  (hsp:∀(w:World)(H:Hp)(a:AQ)(ns:List Int),ns⁻¹<=n->Only H->SqL (K w.params) H a (ns.map V.int)->sp w [.ref a] H (λv y=>v=.bl true) λy y y=>False)
  (M:∀(w:World)(H:Hp)(s:AI)(e:AN)(s':AI),CX w [] H s (λy y y=>False) e s'->False):
  PySem.W.WalkO q loose XP YP l.row.toRowW d [] (λf vs=>PySem.call f vs):=by
 show Att.attach_call hn N λw s₀ L mg mb fa o pm cd doc a vs ns G Y ho hd hcd O J z g hg=>?_;have KX:=hY w _ Y;let(fd,hb,hF):=F w mg fa _ KX G.T.g O;exact Ve KX G.T.g G.T.b G.T.builtins G.T.nolimit hg J z (b5 g U) hr hF hb (λH hO hS=>hsp w H a ns g hO hS) λH e s'=>M w H L e s'
def kZ(s:Stmt):Arguments:=match s with
 |.FunctionDef _ a _ _ _ _ _ _ _ _=>a
 |_=>{posonlyargs:=[],args:=[],vararg:=none,kwonlyargs:=[],kw_defaults:=[],kwarg:=none,defaults:=[]}
def aG(s:Stmt):AF:=match s with
 |.FunctionDef _ _ b _ _ _ _ _ _ _=>b
 |_=>[]
def ao(s:Stmt):Scope:=match s with
 |.FunctionDef _ _ _ _ _ _ sc _ _ _=>sc
 |_=>{kind:=.function,names:=[],isGenerator:=false,isCoroutine:=false}
abbrev CX0:CXT:=λz z z z z z=>False
structure Fun(K:PF)(x qual:Str)(st:Stmt)(f:AQ)(fd:AJ):Prop where
 ex:∃(oc:AN)(od:Option AQ)(kV doc pm:AN)(an:Option AQ)(cdv ct:AN)(osl:Array (Option AN)),
  fd=PySem.W.fnOf x qual (kZ st) (aG st) (ao st) .none kV doc pm an cdv ct/\K.lookup f=some ⟨oc,od,.func fd,osl⟩/\PySem.W.codeIn K cdv qual=true
 kp:PySem.W.keepIn K (.ref f)=true
section
variable {P:AK} {w:World} {K:PF} {mg:AH} {base:Heap}
theorem Fun.binds{x g:Str}{st:Stmt}{f:AQ}{fd:AJ}{ps:AD}(F:Fun K x g st f fd)
  (h:∀(kV z L:AN)(J:Option AQ)(q ct:AN)(M:AB),M⁻¹=ps⁻¹->bindArgs (PySem.W.fnOf x g (kZ st) (aG st) (ao st) .none kV z L J q ct) ⟨M,[]⟩=pure (ps.zip M)):Binds K fd ps []:=by
 let(Y,od,kV,z,L,J,q,ct,O,rfl,U,N):=F.ex;exact .all (h kV z L J q ct)
theorem Vg{x g:Str}{st:Stmt}{f:AQ}{N:AN}{O L:Option AQ}{J:Array (Option AN)}{kV z M q ct:AN}(l:K.lookup f=-⟨N,O,.func (PySem.W.fnOf x g (kZ st) (aG st) (ao st) .none kV z M L q ct),J⟩)
  (c:PySem.W.codeIn K q g=true) (k:PySem.W.keepIn K (.ref f)=true):Fun K x g st f (PySem.W.fnOf x g (kZ st) (aG st) (ao st) .none kV z M L q ct):=⟨⟨N,O,kV,z,M,L,q,ct,J,rfl,l,c⟩,k⟩
end
section
variable {X:Cx}
theorem pv (i:Nat) {x:Str} {pos:Pos} (q:X.N[i]?=-x:=by rfl) (J:Vis X.env.scope x:=by first|exact Or.inl rfl|exact Or.inr (Or.inl rfl)|exact Or.inr (Or.inr rfl)) (z:(x==("__debug__":Str))=false:=by decide)
  (g:(x==("__classdict__":Str))=false:=by decide):PE X (.Name x pos) (By i):=BJ q J z g
end
end L2
set_option maxHeartbeats 4000000
namespace L2
open PySem PySem.Spec PyProof.Rows
section
variable {X:Cx} {p9:AC} {σ:St} {H:Hp} {s:AI} {h':Heap}
theorem Inv.turnedL{t':Nat}{ch:List AQ}(I:Inv X p9 σ H s)(J:∀b∈ch,cX X p9 H b)(k:∀b o,b∉ch->s.heap.get? b=-o->h'.get? b=-o):
  Inv X p9 σ H {s with heap:=h',toks:=t'}:=by
 have g:∀b u,H b=-u->b∉ch:=λb u e z=>by
  have q:=(J b z).1;rw[q]at e;cases e
 show I.step (g':=s.gens) (d':=s.drawn) (ch:=ch) (λb L=>?_) (λb o y y hc e y=>k b o hc e) (λb o y y hc e y=>⟨o.slots,k b o hc e⟩) (λy y y y n=>n)
  (λb o hc e=>⟨o,k b o hc e⟩) (λy y e=>e) (λy y y e=>e) (λb ps e=>⟨#[],by rw[e];simp⟩) (λm M=>?_) (λb u e=>?_) I.bare
 .let(_,f1,_,f3,f4,f5):=J b L;exact⟨f3,f1,f4,f5⟩
 .let(o,es,ep,N,r):=M;exact⟨o,es,ep,k _ o (λz=>(J _ z).2.1 rfl) N,r⟩
 .show (I.hok b u e).stay (λc v hc q=>k c v ?_ q) (λy q=>q) λy y q=>q;rcases hc with z|z
  .rw[z];exact g b u e
  .exact g c _ z
theorem Inv.track{T:AQ}{o:HO}(I:Inv X p9 σ H s)(L:cX X p9 H T)(new:ObjOk X.prog X.w (upd H T o) s.heap T o):Inv X p9 σ (upd H T o) s:=by
 have hn:=L.1;have J:HOk X.prog X.w (upd H T o) s.heap:=λb u e=>by
  by_cases z:b=T
  .subst z;rw[cW]at e;cases e;exact new
  .rw[aK z]at e;exact(I.hok b u e).stay (λc v y q=>q) (λc q=>by rw[aK (bF q hn)];exact q) λc xs q=>by rw[aK (bF q hn)];exact q
 let(N,g,d,O,U):=s;show I.step (h':=N) (g':=g) (d':=d) (t':=O) (ch:=[T]) (λb z=>?_) (λb o y y y e y=>e) (λb o y y y e y=>⟨o.slots,e⟩) (λb u hc y n=>?_)
  (λb o y e=>⟨o,e⟩) (λb xs e=>by rw[aK (bF e hn)];exact e) (λb u v e=>by rw[aK (bF e hn)];exact e) (λb ps e=>⟨#[],by rw[aK (bF e hn),e];simp⟩) (λm M=>M) J I.bare
 .have e:b=T:=by simpa using z
  subst e;let(_,f1,_,f3,f4,f5):=L;exact⟨f3,f1,f4,f5⟩
 .rw[aK (!!hc)];exact n
end
def Its(x:Str):It:=⟨λi z=>i<x.cps.size,λi H v H'=>H'=H/\∃c,x.cps[i]?=-c/\v=.str ⟨#[c]⟩,λi z=>i=x.cps.size⟩
def De{prog:AK}{w:World}{A:AM}(hh:A.handled=none)(I:AQ)(x:Str)(t:Tok):
  Walks prog w A I [I] [I] x.cps.size (SignAt x) (λi h=>h.IsStrIter I (strIterType x) x t i):=by
 unfold strIterType;split
 .exact Walks.strAscii hh I x t
 .exact Walks.strWide hh I x t
def vm{P:AK}{w:World}{K:PF}{tg:AO}(it:AQ)(x:Str)(t:Tok):Turn P w K tg (Its x) [it] it (λi h=>h.IsStrIter it (strIterType x) x t i) where
 mem:=by simp
 obj:=λi h st b g=>by
  have e:b=it:=by simpa using g
  subst e;let(o,e,c,d):=st;exact⟨o,e,λv z=>by rw[d]at z;cases z⟩
 keep:=λi h h' st k=>let⟨o,ho,r⟩:=st;⟨o,k it (!2) o ho,r⟩
 item:=by intro X M hw L hc i p9 s Y H E I J st N;subst M hw L;let(f0,f1,f2,f3,f4,f5):=J it (!2);have W:=De (prog:=X.prog) (w:=X.w) (I.ok.hd hc) it x t;show W.item i s _ _ N st λv h' tk hv q U=>?_;let(c,u,e,rfl):=hv;have I1:Inv X p9 Y H {s with heap:=h',toks:=tk}:=I.turned (λb o g e=>U b o (!!g) e) f0 f1 f3 f4 f5;let(o,eo,cc,d):=id q;exact⟨_,rfl,qO (s:={s with heap:=h',toks:=tk}) (n:=strIterType x) eo cc d (by unfold strIterType;split<;>decide) ⟨.str ⟨#[c]⟩,H,I1,⟨u,rfl⟩,⟨rfl,c,e,rfl⟩,q,λb g=>(J b g).1⟩⟩
 done:=by intro X M hw L hc i p9 s Y H E I J st N;subst M hw L;let(f0,f1,f2,f3,f4,f5):=J it (!2);have W:=De (prog:=X.prog) (w:=X.w) (I.ok.hd hc) it x t;have O:i=x.cps.size:=N;subst O;exact W.done s _ _ st λh' tk U=>⟨rfl,I.turned (λb o g e=>U b o (!!g) e) f0 f1 f3 f4 f5⟩
 self:=λA i s Q E st h=>by
  unfold strIterType at st;split at st
  .exact wpAny_pyIter_striter_ascii st h
  .exact wpAny_pyIter_striter_wide st h
def cu(env:Env):List (Str×NameKind)->List (Str×AQ)->List (Str×AQ)
 |[],cs=>cs
 | (n,k)::r,cs=>cu env r (if(k==.free)=true then(match env.cells.lookup n with|some c=>(n,c)::cs|none=>cs) else cs)
def Df{env:Env}:∀{l:List (Str×NameKind)}{cs:List (Str×AQ)},(∀x c,cs.lookup x=-c->env.cells.lookup x=-c)->∀x c,(cu env l cs).lookup x=-c->env.cells.lookup x=-c
 |[],_,h,x,c,e=>h x c e
 | (n,k)::r,cs,h,x,c,e=>by
  show Df (l:=r) (cs:=_) ?_ x c e;intro y d q;by_cases z:(k==NameKind.free)=true
  .rw[if_pos z]at q;cases hn:env.cells.lookup n with
   |none=>rw[hn]at q;exact h y d q
   |some L=>
    rw[hn]at q;simp only[List.lookup_cons]at q;cases g:y==n with
    |true=>
     rw[g]at q;have J:y=n:=eq_of_beq g;rw[J,hn];exact q
    |false=>rw[g]at q;exact h y d q
  .rw[if_neg z]at q;exact h y d q
def Dg{env:Env}{x:Str}:∀{l:List (Str×NameKind)}{cs:List (Str×AQ)},(cs.lookup x).isSome=true->((cu env l cs).lookup x).isSome=true
 |[],_,h=>h
 | (n,k)::r,cs,h=>by
  show Dg (l:=r) (cs:=_) ?_;by_cases g:(k==NameKind.free)=true
  .rw[if_pos g];cases hn:env.cells.lookup n with
   |none=>exact h
   |some q=>
    simp only[List.lookup_cons];cases z:x==n with
    |true=>rfl
    |false=>exact h
  .rw[if_neg g];exact h
def Dh{env:Env}{x:Str}(g:(env.cells.lookup x).isSome=true):∀{l:List (Str×NameKind)}{cs:List (Str×AQ)},(x,NameKind.free)∈l->((cu env l cs).lookup x).isSome=true
 | (n,k)::r,cs,h=>by
  rcases br.mp h with e|h
  .cases e;show Dg (l:=r) (cs:=_) ?_;rw[if_pos (show(NameKind.free==NameKind.free)=true by decide)];let(c,hc):=cS.mp g;rw[hc];simp
  .exact Dh g (l:=r) h
def lg{scope:Scope}{env:Env}(h:∀y∈scope.names,y.2=NameKind.free->(env.cells.lookup y.1).isSome=true):closureFor scope env=pure (cu env scope.names []):=by
 simp only[closureFor];generalize ([]:List (Str×AQ))=cs;generalize scope.names=l at h;induction l generalizing cs with
 |nil=>rfl
 |cons y r O=>
  let(n,k):=y;have z:=λcs=>O cs λy N=>h y (bm _ N);rw[fA];by_cases q:(k==NameKind.free)=true
  .have L:k=NameKind.free:=eq_of_beq q;let(c,hc):=cS.mp (h (n,k) a9 L);have J:cu env ((n,k)::r) cs=cu env r ((n,c)::cs):=by
    rw[cu,if_pos q];change cu env r (match env.cells.lookup n with|some c=>(n,c)::cs|none=>cs)=_;have g:env.cells.lookup n=-c:=hc;rw[g]
   have M:cellOf env n=pure c:=by unfold cellOf;have g:env.cells.lookup n=-c:=hc;rw[g]
   rw[J,<-z ((n,c)::cs)];simp only[q,if_true,M];rfl
  .have J:cu env ((n,k)::r) cs=cu env r cs:=by rw[cu,if_neg q]
   rw[J,<-z cs];simp only[q,if_false];rfl
def vo{env:Env}{x:Str}:∀{names:List (Str×NameKind)},
  (names.map λ(n,k)=>if(k==NameKind.free&&env.scope.kind==.function&&env.kindOf n==-.cell) then(n,NameKind.cell) else(n,k)).lookup x=
   (names.lookup x).map λk=>if(k==NameKind.free&&env.scope.kind==.function&&env.kindOf x==-.cell)=true then NameKind.cell else k
 |[]=>rfl
 | (n,k)::r=>by
  have z:=@vo env x r;rw[a7];have hh:∀(c:Prop)[Decidable c],(if c then(n,NameKind.cell) else(n,k))=(n,if c then NameKind.cell else k):=λc y=>by split<;>rfl
  change List.lookup x ((if(k==NameKind.free&&env.scope.kind==.function&&env.kindOf n==-.cell)=true then(n,NameKind.cell) else(n,k))::_)=_;rw[hh];simp only[List.lookup_cons];cases q:x==n with
  |true=>
   have g:x=n:=eq_of_beq q;subst g;rfl
  |false=>exact z
abbrev Cx.comp(X:Cx)(N':AD)(scope:Scope)(z:List (Str×AQ))(C:AQ)(q:AI)(g:Hp)(fp:List AQ)(pn:AC):Cx where
 prog:=X.prog
 w:=X.w
 K:=X.K
 mg:=X.mg
 base:=X.base
 A:=X.A
 N:=N'
 s₀:=q
 H₀:=g
 env:=compEnvC scope z C X.env
 outer:=X.stack
 stack:=X.stack
 ex:=fp
 fn:=λy=>false
 calm:=X.calm
 pn:=pn
 xe:=λy y=>False
def PIf(X:Cx)(g:AE)(t:TT):Prop:=
 ∀(p9:AC)(s:AI)(Y:St)(H:Hp)(Q:Bool->Hp->Prop),Inv X p9 Y H s->t Y H Q->
  ↥X (forIn g true λc r=>if r=true then do let ok <-isTrue c X.env (eval c X.env);pure (ForInStep.yield ok) else pure (ForInStep.yield r)) (TP X p9 Y Q) X.xe s
def Vh:TT:=λz H Q=>Q true H
def Vi{X:Cx}:PIf X [] Vh:=λz z z H z I h=>wpAny_tests_nil ⟨H,I,h⟩
def Vj{X:Cx}{c:AO}{t:TT}(h:PT X c t):PIf X [c] t:=λp9 s Y H Q I q=>wpAny_tests_one (h p9 s Y H Q I q)
def d7(cap:List (Option Nat))(Y:St):St:=cap.map λo=>match o with|none=>none|some j=>(Y[j]?).join
def Caps(X:Cx)(scope:Scope):AD->List (Option Nat)->Prop
 |[],[]=>True
 |_::N',none::cap=>Caps X scope N' cap
 |x::N',-j::cap=>(X.N[j]?=-x/\scope.names.lookup x=-NameKind.free)/\Caps X scope N' cap
 |_,_=>False
def Caps.len{X:Cx}{scope:Scope}:∀{N':AD}{cap:List (Option Nat)},Caps X scope N' cap->cap⁻¹=N'⁻¹
 |[],[],_=>rfl
 |_::N',none::cap,h=>by
  have:=Caps.len (N':=N') (cap:=cap) h;simp[this]
 |_::N',-_::cap,h=>by
  have:=Caps.len (N':=N') (cap:=cap) h.2;simp[this]
 |[],_::_,h=>False.elim h
 |_::_,[],h=>False.elim h
def Caps.at{X:Cx}{scope:Scope}:∀{N':AD}{cap:List (Option Nat)}{i:Nat}{x:Str}{v:V}{Y:St},Caps X scope N' cap->N'[i]?=-x->(d7 cap Y)[i]?=-(-v)->
  ∃j:Nat,X.N[j]?=-x/\scope.names.lookup x=-NameKind.free/\Y[j]?=-(-v)
 |[],[],i,x,v,Y,_,e,_=>by simp at e
 |y::N',none::cap,0,x,v,Y,h,e,q=>by simp[d7]at q
 |y::N',-j::cap,0,x,v,Y,h,e,q=>by
  have J:y=x:=by simpa using e
  subst J;have g:(Y[j]?).join=-v:=by simpa [d7] using q
  show⟨j,h.1.1,h.1.2,?_⟩;cases z:Y[j]? with
  |none=>rw[z]at g;cases g
  |some o=>rw[z]at g;exact fb some g
 |y::N',none::cap,i+1,x,v,Y,h,e,q=>Caps.at (N':=N') (cap:=cap) (i:=i) h (!!e) (by simpa [d7] using q)
 |y::N',-_::cap,i+1,x,v,Y,h,e,q=>Caps.at (N':=N') (cap:=cap) (i:=i) h.2 (!!e) (by simpa [d7] using q)
 |[],_::_,_,_,_,_,h,_,_=>False.elim h
 |_::_,[],_,_,_,_,h,_,_=>False.elim h
abbrev tx(l:AA):Str:=⟨l.toArray⟩
def cB(l:AA):(tx l)⁻¹=l⁻¹:=by simp[Str.length]
def qU(a b:AA):tx a++tx b=tx (a++b):=by change(⟨a.toArray++b.toArray⟩:Str)=⟨(a++b).toArray⟩;simp
def Di{a b:AA}(h:tx a=tx b):a=b:=by have:=fb (λx:Str=>x.cps.toList) h;simpa using this
def qW(x:Str):x=tx x.cps.toList:=by cases x;simp
section
variable {X:Cx}
theorem Dj:∀{ys:AD}{g:AB},Vals (ys.map V.str) g->StrsAre g ys
 |[],g,r=>by
  rw[gE]at r;cases r;exact .nil
 |y::ys,g,r=>by
  rw[a7]at r;cases r with
  |cons q z=>
   let(t,e):=q;subst e;exact .cons y t (Dj z)
def rJoin(K:PF):V->AR->Hp->VK->Prop:=λx vs H Q=>∃z p ys,x=.str z/\vs=[.ref p]/\SqL K H p (ys.map V.str)/\(ys.map (·.length)).sum+ys⁻¹*z⁻¹<=16777216/\Q (.str (Str.join z ys)) H
theorem Vk:MtR X "str.join" (rJoin X.K):=by intro p9 s Y H x xs v us Q I rx N h;let(z,p,ys,rfl,rfl,J,g,q):=h;let(t,rfl):=rx;let(u,rfl,O):=vals1 N;cases O;let(L,U,M,hz):=I.list J;show join_list M.isList (by simpa using Dj U) g λt' k=>⟨.str _,H,I.tok _,⟨_,rfl⟩,?_⟩;have e:Txt.join z ys=Str.join z ys:=StrLaws.glued_eq_join z ys;rw[e];exact q
def Vl(K:PF):AR->Hp->VK->Prop:=λxs H Q=>∃x n t b,xs=[x,.ty n]/\TyOf K H x t/\PySem.W.kitOne K t (.type n)=-b/\Q (.bl b) H
theorem Vm:bj X (.builtin "isinstance") (Vl X.K):=by intro p9 s Y H xs L Q I r h;let(x,n,t,b,rfl,ty,e,q):=h;let(u,M,rfl,g,z):=vals2 r;cases z;exact T7 I g ty e λJ=>⟨.bl b,H,I.tok _,rfl,q⟩
theorem Vn:bootBuiltins "bool"=-(.type "bool"):=by ac_rfl
theorem Dk:bootBuiltins "int"=-(.type "int"):=by ac_rfl
theorem Dl:bootBuiltins "str"=-(.type "str"):=by ac_rfl
theorem vp:bootBuiltins "list"=-(.type "list"):=by ac_rfl
theorem Vo:bootBuiltins "isinstance"=-(.builtin "isinstance"):=by ac_rfl
theorem Vp {x:Str} {T:AL} {pos:Pos} (q:Gl X x) (z:X.mg x=none) (J:bootBuiltins x=-(.type T)) (hn:x≠"__name__":=by decide) (g:(x==("__debug__":Str))=false:=by decide):PE X (.Name x pos) (tC (.ty T)):=
 Rt q z J (v:=.ty T) rfl hn g
theorem Vq:OpR X (binaryOp .Mult) (λx y H Q=>∃i n,x=.str i/\y=.int n/\MulOk i n/\Q (.str (Txt.mul i n)) H):=by intro p9 s Y H x y v u Q I z J h;let(i,n,rfl,rfl,g,q):=h;let(t,rfl):=z;let(t',rfl):=J;exact SB.mul g λt' k=>⟨.str _,H,I.tok _,⟨_,rfl⟩,q⟩
end
def vq(X:Cx)(st:AF)(t:TS):Prop:=
 ∀(p9:AC)(s:AI)(Y:St)(H:Hp)(D:Ends),1<=s.toks->Inv X p9 Y H s->t D Y H->↥X (execs st X.env) (SP X p9 D) X.xe s
def PE1(X:Cx)(e:AO)(t:TE):Prop:=
 ∀(p9:AC)(s:AI)(Y:St)(H:Hp)(Q:VK),1<=s.toks->Inv X p9 Y H s->t Y H Q->↥X (eval e X.env) (EP X p9 Y Q) X.xe s
def Vr{X:Cx}{e:AO}{te:TE}{pos:Pos}(he:PE1 X e te):vq X [.Return (-e) pos] (BP te):=by intro p9 s Y H D h1 I h;show wpAny_execs_cons (wpAny_Return_some (thn (he p9 s Y H _ h1 I h) λv J zZ=>?_));let(x,H1,g,z,q):=zZ;exact⟨x,Y,H1,g,z,q⟩
def vy{c d:Nat}:∀l:AA,c∉l->l.map (λa=>if a=c then d else a)=l
 |[],_=>rfl
 |a::r,h=>by
  have h1:a≠c:=λe=>h (by rw[e];exact a9);rw[a7,if_neg h1,vy r λz=>h (bm _ z)]
def Dm(c d:Nat):∀g:AD,(∀p∈g,c∉p.cps.toList)->(Str.join ⟨#[c]⟩ g).cps.toList.map (λa=>if a=c then d else a)=(Str.join ⟨#[d]⟩ g).cps.toList
 |[],_=>rfl
 |[x],h=>by
  simp only[Str.join];exact vy _ (h x a9)
 |x::y::r,h=>by
  have L:=Dm c d (y::r) λp J=>h p (bm _ J);have e:∀z:Str,Str.join z (x::y::r)=x++z++Str.join z (y::r):=λz=>by simp only[Str.join]
  have q:∀u v:Str,(u++v).cps.toList=u.cps.toList++v.cps.toList:=λu v=>by
   change(u.cps++v.cps).toList=_;simp
  rw[e,e,q,q,q,q,cf,cf,L,vy _ (h x a9)];simp
def Vs(l:AA)(c d:Nat):Txt.replace (tx l) (tx [c]) (tx [d])=tx (l.map λa=>if a=c then d else a):=by
 have e:(Txt.replace (tx l) ⟨#[c]⟩ ⟨#[d]⟩).cps.toList=l.map λa=>if a=c then d else a:=by rw[StrLaws.replace_one,<-Dm c d _ (StrLaws.split_free (tx l) c),StrLaws.join_split]
 rw[qW (Txt.replace (tx l) (tx [c]) (tx [d]))];exact fb tx e
section
variable {X:Cx}
theorem Vt{o:AO}{to:TE}{y z:Str}{N O:Nat}{U pz apos cpos:Pos}(ho:PE X o to)(hyz:(y==z)=false)
  (g:attributeBase o "replace" X.env (eval o X.env)=eval o X.env:=by rfl)
  (L:((backTo cpos (starEach [.Constant (.str y) N U,.Constant (.str z) O pz] X.env)).all (λx=>!x.1)&&(backToKw cpos (keywordEach [] X.env)).all (λx=>x.1.isSome)
  &&decide (([.Constant (.str y) N U,.Constant (.str z) O pz]:AE)⁻¹+([]:List Keyword)⁻¹+(if([]:List Keyword).isEmpty then 0 else 1)<30))=true:=by rfl)
  (J:(apos.endLine==cpos.line)=true:=by rfl):
  PE1 X (.Call (.Attribute o "replace" apos) [.Constant (.str y) N U,.Constant (.str z) O pz] [] cpos)
   (λY H Q=>to Y H λv H1=>∃x,v=.str x/\x⁻¹+(x⁻¹+1)*z⁻¹<=16777216/\Q (.str (Txt.replace x y z)) H1):=by
 intro p9 s Y H Q h1 I h;show wpAny_Call_method_late g L J rfl (df (wpAny_toks_of (n:=1) h1 (ho p9 s Y H _ I h)) (λv M h2=>?_) (λu u e=>e.2));let(t1,v',H1,I1,r1,x,e,hb,q):=h2;subst e;let(t,rfl):=r1;show⟨"str","str.replace",F.plainAttrs_str,F.slot_str_replace,F.type_str_replace,typeIs_str _ _ _,(λu e=>nomatch e),?_⟩;show Calls.callWith_builtin (by rfl) (Calls.evalArgs_plain ?_);change wpAny _ _ (spliced [(false,eval (.Constant (.str y) N U) X.env),(false,eval (.Constant (.str z) O pz) X.env)]) _ _ M;show Calls.spliced_cons (Calls.Constant_str (Calls.spliced_cons (Calls.Constant_str (Calls.spliced_nil ?_))));exact SC.replace (by change @Ne Nat M.toks 0;lia) (by change @Ne Nat (M.toks+1) 0;lia) (by change @Ne Nat M.toks (M.toks+1);lia) hyz hb λt' k=>⟨.str _,H1,I1.tok _,⟨_,rfl⟩,q⟩
end
def Vu{CX:CXT}{P:AK}{w:World}{K:PF}{mg:AH}{base:Heap}{k:Nat}{f:AQ}{name g:Str}{params:Arguments}{body:AF}{scope:Scope}{dV kV U pm z ct oc:AN}{an od:Option AQ}
  {osl:Array (Option AN)} {N:AD} {x:Str} {sp:Sp} (lk:K.lookup f=-⟨oc,od,.func (PySem.W.fnOf name g params body scope dV kV U pm an z ct),osl⟩) (hcd:PySem.W.codeIn K z g=true) (S:FnScope N [x] scope)
  (hx:scope.names.lookup x=-.local) (hnc:∀y∈scope.names,y.2≠NameKind.cell) (hcf:∀n,cellsFrom n scope.names []=[])
  (len:∀vs H Q E,sp vs H Q E->vs⁻¹=[x]⁻¹)
  (O:∀(A:AM)(outer:List Env)(s:AI)(H:Hp)(vs:AR)(Q:VK)(E:XK),Room k (A.deeper (envOfC g scope (~~~s) f z))->sp vs H Q E->
   ∃t,vq (dZ CX P w K mg base N g scope f z A outer s H E) body t/\t {nx:=λp H'=>Q .non H',rt:=Q} (start N vs) H):
  FnOk P w K mg base CX (k+1) f (PySem.W.fnOf name g params body scope dV kV U pm an z ct) [x] sp:=by
 show⟨len,λA outer s H args us vs Q E hr Y hb r hsp=>?_⟩;have hl:=len _ _ _ _ hsp;have KX:K.In s.heap:=Y.mod.kin.keeps λb o e=>(Y.bs b o e).1;have lim:s.heap.NoLimit:=Y.mod.nolimit.keeps λb o e=>(Y.bs b o e).1;obtain⟨u,rfl⟩:∃u,us=[u]:=by
  have h2:=r⁻¹;rw[hl]at h2;match us,h2 with
  |[u],_=>exact⟨u,rfl⟩
 show codeAny_call_function hr.depth (KX _ _ lk) rfl S.co S.gen rfl (PySem.W.codeRec_of KX hcd) (hb _ _ _ _ ?_);show wpAny_newFunctionEnv (binds:=[x].zip [u]) hnc (λy hy=>?_) (λh' hns hsb=>?_) S.kind
 .have e:y=(x,u):=by simpa using hy
  rw[e];exact hx
 have M:newEnv scope (~~~s) mainGlobals [] (g++⇑".<locals>.") (-f) z none builtinsNs=envOfC g scope (~~~s) f z:=by unfold envOfC newEnv;rw[hcf]
 have kp:∀b o,s.heap.get? b=-o->h'.get? b=-o:=λb o e=>hsb.extBut b o (bX (ay e)) (ag _ e);have mEq:bindL (envOfC g scope (~~~s) f z).kindOf ([x].zip [u]) (λp=>none)=λy=>(([x].zip [u]).reverse).lookup y:=by
  funext y;have hk:(envOfC g scope (~~~s) f z).kindOf x=-.local:=hx;change bindL (envOfC g scope (~~~s) f z).kindOf [(x,u)] (λp=>none) y=List.lookup y [(x,u)];unfold bindL;rw[if_pos hk];unfold bindL;by_cases hy:y=x
  .subst hy;simp
  .have:(y==x)=false:=by simpa using hy
   simp[hy,List.lookup_cons,this]
 have xx:InCallC s (~~~s) (bindL (envOfC g scope (~~~s) f z).kindOf ([x].zip [u]) λp=>none) (cellsFrom ((~~~s)+1) scope.names []) (bindC (envOfC g scope (~~~s) f z).kindOf ([x].zip [u]) λp=>none)
   {s with heap:=h',toks:=s.toks+([x].zip [u])⁻¹}:=by
  rw[mEq,hcf];exact⟨⟨⟨h',_,rfl⟩,hns,kp,av _⟩,(λn c e=>by simp at e),List.Pairwise.nil,(λn c e=>nomatch e)⟩
 change _/\codeAny (model P w) A (.func body (newEnv scope (~~~s) mainGlobals [] (g++⇑".<locals>.") (-f) z none builtinsNs)) _ _;rw[M];show⟨lim.keeps kp,codeAny_func ?_⟩;let(t,ht,hq):=O A outer s H vs Q E (hr.deeper _) hsp;have I:Inv (dZ CX P w K mg base N g scope f z A outer s H E) [] (start N vs) H {s with heap:=h',toks:=s.toks+([x].zip [u])⁻¹}:=Cq S hr.hd Y hl r xx;show df (ht [] _ (start N vs) H _ (Nat.le_add_left 1 s.toks) I hq) (λfl s' hs=>?_) λe s' hs=>hs;have fin:∀{L:St}{H':Hp}{v:V}{u:AN},Inv (dZ CX P w K mg base N g scope f z A outer s H E) [] L H' s'->RelV v u->Q v H'->CE outer P w H s Q u s':=
  λ{L H' v u} J rv q=>⟨v,H',J.os,J.bare,J.base,J.hok,rv,q⟩
 cases fl with
 |ret u=>
  let(v,L,H',J,rv,q):=hs;exact fin J rv q
 |next=>
  let(L,H',J,q):=hs;exact fin (v:=V.non) (u:=Value.none) J rfl q
 |brk=>
  let(_,_,_,q):=hs;exact False.elim q
 |cont=>
  let(_,_,_,q):=hs;exact False.elim q
def Fun.ok1{P:AK}{w:World}{K:PF}{mg:AH}{base:Heap}{x g:Str}{st:Stmt}{f:AQ}{fd:AJ}{N:AD}{y:Str}{k:Nat}{sp:Sp}(F:Fun K x g st f fd)(S:FnScope N [y] (ao st))
  (hx:(ao st).names.lookup y=-.local) (O:∀z∈(ao st).names,z.2≠NameKind.cell) (M:∀n,cellsFrom n (ao st).names []=[]) (len:∀vs H Q E,sp vs H Q E->vs⁻¹=[y]⁻¹)
  (J:∀(q:AN)(A:AM)(outer:List Env)(s:AI)(H:Hp)(vs:AR)(Q:VK)(E:XK),Room k (A.deeper (envOfC g (ao st) (~~~s) f q))->sp vs H Q E->
   ∃t,vq (dZ CX0 P w K mg base N g (ao st) f q A outer s H E) (aG st) t/\t {nx:=λv H'=>Q .non H',rt:=Q} (start N vs) H):FnOk P w K mg base CX0 (k+1) f fd [y] sp:=by
 let(oc,od,kV,Y,pm,an,q,ct,osl,rfl,lk,L):=F.ex;exact Vu lk L S hx O M len λA outer s H vs Q E hr U=>J q A outer s H vs Q E hr U
open Builtin Builtin.Str
def Vv{prog:AK}{w:World}{A:AM}(hh:A.handled=none)(it:AQ)(x:Str)(t:Tok):
  Draws prog w A it [it] x.cps.size (λi v=>∃c u,x.cps[i]?=-c/\v=.str ⟨#[c]⟩ u) (λi h=>h.IsStrIter it (strIterType x) x t i):=by
 unfold strIterType;split
 .exact Draws.strAscii hh it x t
 .exact Draws.strWide hh it x t
structure ZApart(z TI TO i1 i2:AQ):Prop where
 TIz:TI≠z
 TOz:TO≠z
 i1z:i1≠z
 i2z:i2≠z
 TITO:TI≠TO
 TIi1:TI≠i1
 TIi2:TI≠i2
 TOi1:TO≠i1
 TOi2:TO≠i2
 i12:i1≠i2
section
variable {X:Cx}
theorem vz:∀{bs:List Bool}{g:AB}{i:Nat}{v:AN},Vals (bs.map V.bl) g->g[i]?=-v->∃b,bs[i]?=-b/\v=.bool b
 |[],g,i,v,r,e=>by
  rw[gE]at r;cases r;simp at e
 |b::bs,g,i,v,r,e=>by
  rw[a7]at r;cases r with
  |cons q z=>
   cases i with
   |zero=>
    cases(show _=Value.bool b from q);exact⟨b,rfl,!!e.symm⟩
   |succ i=>exact vz (i:=i) z (!!e)
theorem Vw:bootBuiltins "all"=-(.builtin "all"):=by ac_rfl
theorem Vx:bootBuiltins "zip"=-(.type "zip"):=by ac_rfl
theorem all_range(bs:List Bool)(n:Nat)(hn:n=bs⁻¹):((List.range n).all λi=>(bs[i]?).getD true)=bs.all id:=by
 subst hn;rw[d4,bS,bS];constructor
 .intro h b q;let(i,hi,e):=List.mem_iff_getElem.mp q;have:=h i (e6.mpr hi);rw[ar hi,e]at this;simpa using this
 .intro h i hi;have g:=e6.mp hi;rw[ar g];simpa using h _ (cq g)
theorem Vy (hc:X.calm=true):bj X (.builtin "all") (λxs H Q=>∃(p:AQ) (bs:List Bool),xs=[.ref p]/\SqL X.K H p (bs.map V.bl)/\Q (.bl (bs.all id)) H):=by
 intro p9 s Y H xs us Q I r h;let(p,bs,rfl,U,q):=h;let(u,rfl,ru):=vals1 r;cases ru;let(g,L,pl,hz):=I.list U;have hl:=pl.isList;have z:p<(~~~s):=by let(_,e,_):=hl;exact ay e
 show call_all_walk (ff hl ?_);show⟨(~~~s),[(~~~s),p],[(~~~s)],g.toArray.size,_,_,λi=>(bs[i]?).getD true,rfl,hJ (A:=X.A.in1) (I.ok.hd hc) _ p (bX z) g.toArray,
  ⟨⟨_,aI _ rfl,rfl,rfl⟩,hl.push _⟩,λi v s' Q' E' M J=>?_,λh' tk N=>?_⟩
 .let(b,e,rfl):=vz L (i:=i) (v:=v) (!!M);simp only[e,Option.getD_some]at J;exact eM J
 .have e:=all_range bs g.toArray.size (by rw[am,<-L⁻¹,ae]);rw[e];exact⟨.bl _,H,I.kept (λb o q=>N b o (λO=>by rw[al.mp O]at q;exact eT _ (ay q)) (ag _ q)),rfl,q⟩
theorem Vz:OpR X (compareOp .Is) (λx y H Q=>∃i j,x=.bl i/\y=.bl j/\Q (.bl (i==j)) H):=by intro p9 s Y H x y v u Q I g z h;let(i,j,rfl,rfl,q):=h;cases g;cases z;exact is_bool ⟨.bl _,H,I,rfl,q⟩
theorem VB:bj X (.type "int") (λxs H Q=>∃z n,xs=[.str z]/\PySem.intText? z=-n/\z⁻¹<=640/\Q (.int n) H):=by intro p9 s Y H xs g Q I r h;let(z,n,rfl,hn,hl,q):=h;let(u,rfl,t,rfl):=vals1 r;exact PySem.W.KIN.call_text hn hl ⟨.int n,H,I.tok _,⟨_,rfl⟩,q⟩
def VD:V->Option Int->Option Int->Hp->VK->Prop:=λx lo hi H Q=>∃z,x=.str z/\z⁻¹<=sizeLine/\Q (.str (Txt.slice z lo hi)) H
theorem VF:SlR X VD:=by
 intro p9 s Y H x v vl vu lo hi sl Q I rx hs pl pu h;let(z,rfl,hz,q):=h;let(t,rfl):=rx;show⟨"str",_,slot_str_getitem.lookup,typeIs_str _ _ _,?_⟩;obtain⟨l,el,e1⟩:∃l:Option (Int×Tok),vl=partValue l/\l.map (·.1)=lo:=by
  cases pl with
  |none=>exact⟨none,rfl,rfl⟩
  |int i t=>exact⟨-(i,t),rfl,rfl⟩
 obtain⟨u,eu,e2⟩:∃u:Option (Int×Tok),vu=partValue u/\u.map (·.1)=hi:=by
  cases pu with
  |none=>exact⟨none,rfl,rfl⟩
  |int i t=>exact⟨-(i,t),rfl,rfl⟩
 subst el eu e1 e2;show wpAny_getItem_str_slice (l:=l) (u:=u) (st:=none) hs rfl ?_;unfold sliceMade;unfold Txt.slice at q;change(if((1:Int)==1&&(slicePicked z l u none)⁻¹==z⁻¹)=true then Made.val (.str z t) else Made.str ⟨((slicePicked z l u none).filterMap (z.cps[·]?)).toArray⟩).post _ _;have ep:slicePicked z l u none=Builtin.Str.strSliceIndices (l.map (·.1)) (u.map (·.1)) 1 z⁻¹:=rfl;rw[ep];by_cases hc:((1:Int)==1&&(Builtin.Str.strSliceIndices (l.map (·.1)) (u.map (·.1)) 1 z⁻¹)⁻¹==z⁻¹)=true
 .rw[if_pos hc]at q ⊢;exact⟨.str z,H,I,⟨t,rfl⟩,q⟩
 .rw[if_neg hc]at q ⊢;show⟨?_,⟨.str _,H,I.tok _,⟨_,rfl⟩,q⟩⟩;change(List.filterMap _ _).toArray.size<=sizeLine;rw[am];have h1:=sliceIndices_le (l.map (·.1)) (u.map (·.1)) z⁻¹;have h2:=List.length_filterMap_le (λx=>z.cps[x]?) (Builtin.Str.strSliceIndices (l.map (·.1)) (u.map (·.1)) 1 z⁻¹);lia
end
section
variable {X:Cx}
theorem VG:OpR X (compareOp .IsNot) (λx y H Q=>∃i j,x=.bl i/\y=.bl j/\Q (.bl (i != j)) H):=by intro p9 s Y H x y v u Q I g z h;let(i,j,rfl,rfl,q):=h;cases g;cases z;exact isnot_bool ⟨.bl _,H,I,rfl,q⟩
theorem Do:∀g:AB,(∀v∈g,∃x:V,RelV x v)->∃xs,Vals xs g
 |[],_=>⟨[],.nil⟩
 |u::r,h=>by
  let(x,J):=h u a9;let(xs,q):=Do r λv z=>h v (bm _ z);exact⟨x::xs,.cons J q⟩
end
def noStar:AO->Bool
 |.Starred ..=>false
 |_=>true
def cG(e:AO)(es:AE)(env:Env)(h:noStar e=true):starEach (e::es) env=(false,eval e env)::starEach es env:=by cases e<;>first|rfl|cases h
def pk{X:Cx}{e:AO}{es:AE}{te:TE}{t:TA}(g:PE X e te)(q:PA X es t)(h:noStar e=true:=by rfl):PA X (e::es) (Cg te t):=eN g q (cG e es X.env h)
def Dp(g:AB):slicePick g.toArray none none (-(Neg.neg 1))=g.reverse.toArray:=by
 have e:(List.range g⁻¹).map (λk:Nat=>((g⁻¹:Int)-1 + Neg.neg 1*(k:Int)).toNat)=(List.range g⁻¹).map λk=>g⁻¹-1-k:=by apply b9;intro k _;lia
 have z:(sliceRange ((g⁻¹:Int)-1) (Neg.neg 1) (Neg.neg 1))=(List.range g⁻¹).map λk=>g⁻¹-1-k:=by
  rw[<-e];unfold sliceRange;dsimp only;rw[if_neg (!1)];congr 2;by_cases h:(g⁻¹:Int)-1 > Neg.neg 1
  .rw[if_pos h,show(Neg.neg (Neg.neg 1):Int)=1 by decide,Int.ediv_one];lia
  .rw[if_neg h];lia
 have J:((List.range g⁻¹).map λk=>g⁻¹-1-k).filterMap (λx=>g.toArray[x]?)=g.reverse:=by
  have h1:∀x∈(List.range g⁻¹).map (λk=>g⁻¹-1-k),g.toArray[x]?=-(g.getD x .none):=by intro x q;let(k,L,rfl):=aT.mp q;have:=e6.mp L;rw[List.getElem?_toArray,bP,ar (!0)];rfl
  have h2:∀l:AA,(∀x∈l,g.toArray[x]?=-(g.getD x .none))->(l.filterMap λx=>g.toArray[x]?)=l.map λx=>g.getD x .none:=λl=>by
   induction l with
   |nil=>intro _;rfl
   |cons a l M=>intro hl;rw[a7,<-M λx q=>hl x (bm _ q),List.filterMap_cons,hl a a9]
  rw[h2 _ h1,b6];apply List.ext_getElem
  .simp
  .intro i hi N;rw[List.getElem_map,gv,List.getElem_reverse];have:g⁻¹-1-i<g⁻¹:=by simp at hi;lia
   change g.getD (g⁻¹-1-i) .none=_;rw[bP,ar this];rfl
 change((sliceRange ((g.toArray.size:Int)-1) (Neg.neg 1) (Neg.neg 1)).filterMap λx=>g.toArray[x]?).toArray=_;rw[am,z,J]
def Vals.back{xs:AR}{g:AB}(r:Vals xs g):Vals xs.reverse g.reverse:=Vals.reverse r
variable {X:Cx} {e st:AO} {te ts:TE} {p2 pos:Pos}
def Tr(h0:Heap)(H:Hp)(h:Heap)(a:AQ)(c:AN):Prop:=
 ∃g vs T q ts,h.get? a=-g/\g.cls=c/\g.data=.fields vs/\vs[1]?=-(.ref T)/\T≠a/\h.get? T=-q/\q.data=.fields ts/\ts[3]?=-.none/\
  h0.get? a=none/\h0.get? T=none/\H a=none/\H T=none
def CX1(P:AK)(w:World):CXT:=λouter H s E e s'=>
 ∃(a:AQ)(c:AN)(H':Hp),e=.ref a/\s'.os=s.os/\AllBare s'.gens/\Un (frs outer) [] H H' s.heap s'.heap/\HOk P w H' s'.heap/\Tr s.heap H' s'.heap a c/\E c none H'
section
variable {X:Cx} {p9:AC} {σ:St} {H:Hp} {s:AI}
theorem Dq{P:AK}{w:World}(Y:Cx):kW (CX1 P w) Y λz z z=>False:=λz z z z z z z h=>by
 let(_,_,_,_,_,_,_,_,_,q):=h;exact q.elim
end
abbrev veM:AB:=[.type "ValueError",.type "Exception",.type "BaseException",.type "object"]
def VH:AB->Bool
 |[.type a,.type b,.type c,.type d]=>a=="ValueError"&&b=="Exception"&&c=="BaseException"&&d=="object"
 |_=>false
def Ds:AN->Bool
 |.str _ _=>true
 |_=>false
def nsB(K:PF)(N:AQ):Bool:=match K.lookup N with
 |some ⟨_,_,.dict es _,_⟩=>es.toList.all (λe=>Ds e.key)&&quietNames.all λn=>(nsFind es n).isNone
 |_=>false
def VJ(K:PF)(A:AQ):Bool:=match K.lookup A with
 |some ⟨_,_,.cls cd,_⟩=>nsB K cd.ns
 |_=>false
def vA(K:PF):AB->Bool
 |[]=>false
 |v::tl=>(match v with |.ref A=>VJ K A&&vA K tl|_=>VH (v::tl))
def isRef(C:AQ):AN->Bool
 |.ref a=>a==C
 |_=>false
def isNew:Option AN->Bool
 |some (.builtin s)=>s=="ValueError.__new__"
 |_=>false
def Dt:AN->Bool
 |.type s=>s=="type"
 |_=>false
def qX(K:PF)(C:AQ):Bool:=match K.lookup C with
 |some ⟨ty,_,.cls cd,⟨[_,_,_,_,k,_]⟩⟩=>Dt ty&&isNew k&&nsB K cd.ns&&!cd.hasDel&&(match cd.mro with|v::tl=>isRef C v&&vA K tl |[]=>false)
 |_=>false
section
variable {X:Cx}
theorem digits_le:∀n:Fin 100,(⇑(toString (n.val:Int)))⁻¹<=3:=by ac_rfl
def Throws(X:Cx)(E:XK):Prop:=∀(p9:AC)(Y:St)(H:Hp)(s:AI)(h':Heap)(a:AQ)(c:AN)(args:AB),Inv X p9 Y H s->s.heap.MadeExcOf h' a c args->E c none H->X.xe (.ref a) {s with heap:=h'}
end
section
variable {X:Cx}
variable {p9:AC} {σ:St} {H:Hp} {s:AI}
structure Caught(X:Cx)(H:Hp)(s:AI)(H':Hp)(a:AQ)(c:AN)(s':AI):Prop where
 os:s'.os=s.os
 bare:AllBare s'.gens
 un:Un (frs X.stack) [] H H' s.heap s'.heap
 hok:HOk X.prog X.w H' s'.heap
 tr:Tr s.heap H' s'.heap a c
variable {H':Hp} {a:AQ} {c:AN} {s':AI}
end
open Builtin.ObjectAttr Builtin.Getset_descriptor
open PySem.W (findIn mroIn clsIn typeIn Looks InstAt looks_findIn looks_mroIn looks_typeIn)
def vB(K:PF)(D:AQ):Bool:=
 findIn K (.ref D) "__class__"==-(-(.builtin "object.__class__"))&&findIn K (.ref D) "__getattribute__"==-(-(.builtin "BaseException.__getattribute__"))&&findIn K (.ref D) "__getattr__"==-none &&
  mroIn K D (.type "object")==-true&&mroIn K D (.type "BaseException")==-true&&(clsIn K D).isSome
open PySem.W (findIn mroIn clsIn typeIn Looks looks_findIn looks_mroIn looks_typeIn)
section
variable {X:Cx}
def XO(H:Hp)(a c:AQ):Prop:=∃o y,H a=-(.frz o (.own y))/\o.cls=.ref c
def valOf:V->AN
 |.ref a=>.ref a
 |.ty n=>.type n
 |_=>.none
end
section
variable {X:Cx}
def XP(X:Cx)(p9:AC)(ex:AN->St->Hp->Prop)(Y:St)(e:AN)(q:AI):Prop:=∃a c H1 g H',e=.ref a/\Inv X p9 Y H1 g/\Caught X H1 g H' a c q/\ex c Y H'
def Du (K:PF) (C:AQ):Bool:=typeIn K (.ref C)==-(.type "type")&&(clsIn K C).isSome&&mroIn K C (.type "BaseException")==-true
end
open PySem.SeqAt
section
variable {X:Cx}
theorem VL:OpR X (binaryOp .FloorDiv) (rI (λz j=>0<j/\j<1152921504606846976) λi j=>.int (i/j)):=opI λi j z z z z z hc q=>by
 have h1:(0:Int)<j:=hc.1;have h2:j<1152921504606846976:=hc.2;show floordiv_int (!0) (by rw[Int.fdiv_eq_ediv_of_nonneg i (!0)];exact q) (.inl (PyProof.noPylong_of_log2 ?_));have:j.natAbs.log2<60:=(Nat.log2_lt (!0)).mpr (by change j.natAbs<1152921504606846976;lia);lia
def vC(m:Nat):Str:=⇑(toString (m:Int))
theorem VM{m:Nat}(h:m<100):(m:Int).natAbs.log2<1920:=by have:(m:Int).natAbs=m:=Int.natAbs_natCast m;rw[this];exact Nat.lt_of_le_of_lt (Nat.log2_le_self m) (!0)
theorem VN:bj X (.type "str") (λxs H Q=>∃m:Nat,xs=[.int m]/\m<100/\Q (.str (vC m)) H):=by intro p9 s Y H xs J Q I r h;let(m,rfl,g,q):=h;let(u,rfl,z):=vals1 r;let(t,rfl):=z;exact PySem.P.str_of_int (VM g) ⟨.str _,H,I.tok _,⟨_,rfl⟩,q⟩
end
end L2
namespace HT
open PySem PySem.Spec PyProof.Rows Builtin
def Dv:fillsNumberSlot (.type "tuple") "mul"=pure false:=
 PySem.fillsNumberSlot_seq (id:="tuple.__mul__") (r:=-(.builtin "tuple.__rmul__")) PySem.F.slot_tuple_mul.lookup (by ac_rfl) PySem.F.slot_tuple_rmul.lookup (by ac_rfl)
def Dw:seqRepeat? (.type "tuple")=pure (-(.builtin "tuple.__mul__")):=by unfold seqRepeat?;rw[PySem.seqSlot_of (T:="tuple") (name:="__mul__") (id:="tuple.__mul__") PySem.F.slot_tuple_mul.lookup (by ac_rfl),PySem.seqSlot_of (T:="tuple") (name:="__rmul__") (id:="tuple.__rmul__") PySem.F.slot_tuple_rmul.lookup (by ac_rfl)];rfl
def Dy(a:Int)(t:Tok)(l:AQ)(q:Array AN)(n:Nat)(z:Option AQ)(J:Array (Option AN)):
  Meets (Builtin.«int.__rmul__» ⟨[.int a t,.ref l],[]⟩) (λy R s=>s.heap.get? l=-{cls:=.type "tuple",dict:=z,data:=.seq q n,slots:=J}/\R (.ok (.ret Value.notImplemented)) s):=
 .of_wp λprog w A R s h=>by let(L,g,d,N,M):=s;let(hl,h):=h;wp_walk;exact⟨_,rfl,h⟩
def VP(l:AQ)(q:Array AN)(n:Nat)(U:Option AQ)(sl:Array (Option AN))(k:Int)(t:Tok)(h2:2<=k)(hk:k<=1000)(z:q.isEmpty=false)(hz:q.size*k.toNat<=sizeLine)(hz2:(List.foldl (λx1 x2=>x1++x2) #[] (List.replicate k.toNat q)).size<=sizeLine):
  Meets (Builtin.«tuple.__mul__» ⟨[.ref l,.int k t],[]⟩) (λy R s=>s.heap.get? l=-{cls:=.type "tuple",dict:=U,data:=.seq q n,slots:=sl}/\
   R (.ok (.ret (.ref (~~~s)))) {s with heap:=s.heap.push {cls:=.type "tuple",data:=.seq ((List.replicate k.toNat q).foldl (· ++ ·) #[])}}):=
 .of_wp λprog w A R s h=>by
  let(hp,g,d,tk,os):=s;let(hl,h):=h;have J:(decide (k < Neg.neg (2 ^ 63))||decide (k≥2 ^ 63))=false:=by rw[decide_eq_false (!0),decide_eq_false (!0)];rfl
  have L:(q.isEmpty||k==1)=false:=by rw[z,Bool.false_or,beq_eq_false_iff_ne];lia
  have M:(decide (k<=0)||q.isEmpty)=false:=by rw[decide_eq_false (!0),z];rfl
  have hs:(q.size:Int)*k=((q.size*k.toNat:Nat):Int):=by rw[Int.natCast_mul,Int.toNat_of_nonneg (!0)]
  have Y:sizeLine<=1152921504606846975:=by decide
  have N:¬((q.size:Int)*k > (2 ^ 63-1)/8):=by rw[hs];lia
  have O:¬(Tuple.tupleTooMany ((q.size:Int)*k)=true):=by unfold Tuple.tupleTooMany;rw[decide_eq_true_iff,hs];lia
  wp_walk
  rw[if_neg (by rw[J];exact Bool.false_ne_true)];wp_walk
  rw[if_neg (by rw[L];exact Bool.false_ne_true)];dsimp only;rw[if_neg (by rw[M];exact Bool.false_ne_true),if_neg N,if_neg O];unfold Tuple.tupleExact;wp_walk
  exact⟨_,rfl,h⟩
end HT
namespace L2
open PySem PySem.Spec PyProof.Rows
section
variable {X:Cx}
def VR(K:PF):R2:=λx y H Q=>∃(l:AQ)(k:Int)(xs:AR),x=.ref l/\y=.int k/\SqT K H l xs/\xs≠[]/\2<=k/\k<=1000/\xs⁻¹*k.toNat<=sizeLine/\∀p,H p=none->Q (.ref p) (upd H p (.tup (List.replicate k.toNat xs).flatten))
theorem VV:OpR X (binaryOp .Mult) (VR X.K):=by
 intro p9 s Y H x y v u Q I rx ry h;let(l,k,xs,rfl,rfl,hT,L,h2,hk,M,q):=h;cases rx;let(t,rfl):=ry;let(g,r,pt,_):=I.tuple hT;let((cls,O,data,sl),J,hc,n,hd):=id pt;simp only at hc hd;subst hc hd;have hl:=r⁻¹;have N:g.toArray.size*k.toNat<=sizeLine:=by rw[am,<-hl];exact M
 have he:g.toArray.isEmpty=false:=by
  cases g with
  |nil=>exact absurd (cw.mp hl) L
  |cons _ _=>rfl
 have z:List.foldl (λx1 x2=>x1++x2) #[] (List.replicate k.toNat g.toArray)=(List.replicate k.toNat g).flatten.toArray:=by have:=foldl_rep g k.toNat [];rw[List.nil_append]at this;exact this
 show wpAny_binaryOp_repeat_ref (T:="tuple") (U:="int") (!1) ⟨_,J,rfl⟩ (λs'=>typeIs_int s' k t) HT.Dv F.fills_int_mul gT HT.Dw F.slot_int_index.lookup
  (fS gT (typeIs_int s k t) F.entry_int_rmul (F.args_int_rmul_2 _ _) (HT.Dy k t l g.toArray n O sl)
   ⟨J,rfl,⟨_,J,rfl⟩,fS PySem.F.slot_tuple_mul ⟨_,J,rfl⟩ PySem.F.entry_tuple_mul (PySem.F.args_tuple_mul_2 _ _) (HT.VP l g.toArray n O sl k t h2 hk he N (by rw[z,am,len_rep,Nat.mul_comm,<-hl];exact M)) ⟨J,?_⟩⟩)
 rw[z];show⟨.ref (~~~s),_,I.laid (t':=s.toks) (o:=.tup (List.replicate k.toNat xs).flatten) (λb ob q=>ag _ q) (av _) ?_,rfl,q _ (I.hok.fresh (av _))⟩;exact⟨by rw[len_rep,Nat.mul_comm];exact M,_,r.rep k.toNat,IsTupX.new _ _⟩
end
end L2
namespace HT
open PySem PySem.Spec PyProof.Rows Builtin
def V0(a:Int)(t:Tok)(l:AQ)(q:Array AN)(n:Nat)(z:Option AQ)(J:Array (Option AN)):
  Meets (Builtin.«int.__rmul__» ⟨[.int a t,.ref l],[]⟩) (λy R s=>s.heap.get? l=-{cls:=.type "list",dict:=z,data:=.seq q n,slots:=J}/\R (.ok (.ret Value.notImplemented)) s):=
 .of_wp λprog w A R s h=>by let(L,g,d,N,M):=s;let(hl,h):=h;wp_walk;exact⟨_,rfl,h⟩
def V1(l:AQ)(q:Array AN)(n:Nat)(J:Option AQ)(N:Array (Option AN))(x:Int)(u:Tok)(L:¬(!Builtin.List.listFitsIndex x)=true)(M:¬q.size*x.toNat > (2 ^ 63-1)/8)(z:¬Builtin.List.listTooLong (q.size*x.toNat)=true):
  Meets (Builtin.«list.__mul__» ⟨[.ref l,.int x u],[]⟩) (λy R s=>s.heap.get? l=-{cls:=.type "list",dict:=J,data:=.seq q n,slots:=N}/\R (.ok (.ret (Value.ref (~~~s)))) {s with heap:=s.heap.push {cls:=Value.type "list",data:=Data.seq (List.foldl (λO U=>O++U) #[] (List.replicate (if q.isEmpty=true then 0 else x.toNat) q))},toks:=s.toks}):=
 .of_wp λprog w A R s h=>by
  let(Y,g,d,tk,os):=s;let(hl,h):=h;have hsz:=AutoListH.joined_fits z;wp_walk;show wpAny_ite_false (decide_eq_false (Nat.not_lt.mpr hsz)) ?_;wp_walk;exact⟨_,rfl,h⟩
end HT
namespace L2
open PySem PySem.Spec PyProof.Rows
section
variable {X:Cx}
def V2(K:PF):R2:=λx y H Q=>∃(l:AQ)(k:Int)(xs:AR),x=.ref l/\y=.int k/\SqL K H l xs/\0<=k/\k<=1000/\xs⁻¹*k.toNat<=sizeLine/\∀p,H p=none->Q (.ref p) (upd H p (.lst (List.replicate k.toNat xs).flatten))
theorem V3:OpR X (binaryOp .Mult) (V2 X.K):=by
 intro p9 s Y H x y v u Q I rx ry h;let(l,k,xs,rfl,rfl,hH,h1,h2,hz,q):=h;cases rx;let(t,rfl):=ry;let(g,r,((cls,dd,data,sl),n,e,c1,c2,c3),_):=I.list hH;simp only at c1 c2 c3;have hl:=r⁻¹;have M:g.toArray.size*k.toNat<=sizeLine:=by rw[am,<-hl];exact hz
 have J:¬g.toArray.size*k.toNat > (2 ^ 63-1)/8:=by
  have:(sizeLine:Nat)<=(2 ^ 63-1)/8:=by decide
  lia
 have L:¬(!Builtin.List.listFitsIndex k)=true:=by rw[fitsIndex_both (!0) (!0)];exact bg
 have z:¬Builtin.List.listTooLong (g.toArray.size*k.toNat)=true:=by rw[Dd M];exact bg
 have N:List.foldl (λO x2=>O++x2) #[] (List.replicate (if g.toArray.isEmpty=true then 0 else k.toNat) g.toArray)=(List.replicate k.toNat g).flatten.toArray:=by
  have f0:∀m:Nat,List.foldl (λO x2=>O++x2) #[] (List.replicate m g.toArray)=(List.replicate m g).flatten.toArray:=λm=>by
   have:=foldl_rep g m [];rw[List.nil_append]at this;exact this
  rw[f0];cases g with
  |nil=>simp
  |cons a r'=>rw[if_neg (!2)]
 subst c1 c3;show wpAny_binaryOp_repeat_ref (T:="list") (U:="int") (!1) ⟨_,e,rfl⟩ (λs'=>typeIs_int s' k t) noFill_list_mul F.fills_int_mul gT repeat_list F.slot_int_index.lookup
  (fS gT (typeIs_int s k t) F.entry_int_rmul (F.args_int_rmul_2 _ _) (HT.V0 k t l g.toArray n dd sl)
   ⟨e,rfl,⟨_,e,rfl⟩,fS F.slot_list_mul ⟨_,e,rfl⟩ F.entry_list_mul (F.args_list_mul_2 _ _) (HT.V1 l g.toArray n dd sl k t L J z) ⟨e,?_⟩⟩)
 rw[N];exact⟨.ref _,_,I.lnew (t':=s.toks) (r.rep k.toNat) (by rw[len_rep,Nat.mul_comm];exact hz),rfl,q _ I.fresh⟩
end
end L2
namespace PySem
def V4:plainId "list.__iadd__"=true:=by ac_rfl
def V5:plainId "proto.collect"=true:=by ac_rfl
def V6{prog:AK}{w:World}{A:AM}{R:Result->AI->Prop}{s:AI}{r:AQ}{a b c:Int}{t u v:Tok}{n:Nat}(hh:A.handled=none)(Y:IsRange s.heap r a b c t u v)(q:Builtin.Range.small a b c=true)
  (hn:Builtin.Range.rangeSize a b c=n) (J:n<=2 ^ 24)
  (hR:∀h' N g L,(∀b o,s.heap.get? b=-o->h'.get? b=-o)->h'.get? (~~~s)=-{cls:=.type "list",dict:=none,data:=.seq g L,slots:=#[]}->ItemsOf (λi v=>∃t,v=.int (a+i*c) t) g n->R (.ok (.ret (.ref (~~~s)))) {s with heap:=h',toks:=N}):
  codeAny (model prog w) A (.builtin "proto.collect" ⟨[.ref r],[]⟩) R s:=by
 show codeAny_builtin PyProof.Rows.entry_proto_collect' ?_;rw[Around.under_plainId V5 _];change wpAny _ _ (do again (.builtin "list.__iadd__" ⟨[<-newList [],.ref r],[]⟩)) _ _ s;show wpAny_bind (wpAny_newList (wpAny_pure ⟨Code.quiet_builtin _ (by ac_rfl),codeAny_builtin PyProof.Rows.entry_list_iadd' ?_⟩));rw[Around.under_plainId V4 _];have O:(s.heap.push {cls:=.type "list",data:=.seq #[]}).get? (~~~s)=-{cls:=.type "list",data:=.seq #[]}:=Heap.get?_push_size _ rfl;exact wpAny_extend_range (R:=R) (s:={s with heap:=s.heap.push {cls:=.type "list",data:=.seq #[]}}) hh (Heap.get?_push_of_some _ Y) q hn J (~~~s) (.ref (~~~s)) _ O λh' N g L U M z=>
  hR h' N g L (λb o e=>U b o (Nat.ne_of_lt (Heap.lt_size e)) (Heap.get?_push_of_some _ e)) M z
open AutoSeq1 (wpAny_loadPart') in
def V7(r:AQ)(lo hi:Int)(t u v:Tok)(n:Nat)(z:Builtin.Range.small lo hi 1=true)(hn:Builtin.Range.rangeSize lo hi 1=n)(Y:n<=1000):
  Meets (Builtin.«tuple.__new__» ⟨[.type "tuple",.ref r],[]⟩)
   (λA R s=>A.handled=none/\IsRange s.heap r lo hi 1 t u v/\∀(h':Heap) (O:Nat) (q:Array AN),(∀b o',s.heap.get? b=-o'->h'.get? b=-o')->ItemsOf (λi v=>∃t,v=.int (lo+i*1) t) q n->R (.ok (.ret (.ref h'.objs.size))) {s with heap:=h'.push {cls:=.type "tuple",data:=.seq q},toks:=O}):=
 .of_wp λprog w A R s h=>by
  let(hp,g,d,O,os):=s;let(hh,N,h):=h;have hsub:=sub_tuple_self;have M:=init_tuple_lookup;have hmh:=madeHere_tuple;have hT:Shared.TypeIs ⟨hp,g,d,O,os⟩ (.ref r) "range":=⟨_,N,rfl⟩;wp_walk using wpAny_loadPart' N,wpAny_typeOf hT
  show V6 (A:=A.in1) hh N z hn (!0) λh' U q c' hk L J=>?_;dsimp only;show wpAny_bind (wpAny_load L (wpAny_pure ?_));change wpAny _ _ (Builtin.Tuple.tupleExact q.toList.toArray >>= λv=>ret v) _ _ _;unfold Builtin.Tuple.tupleExact;show wpAny_bind (wpAny_newObj_type ?_ (by change q.toList.toArray.size<=sizeLine;rw[show q.toList.toArray=q by simp,J.1,sizeLine_eq];lia));show wpAny_pure ⟨_,rfl,?_⟩;have e:q.toList.toArray=q:=by simp
  rw[e];exact h h' U q hk J
def V8{prog:AK}{w:World}{A:AM}{E:AG}{s:AI}{Q:AG}{r:AQ}{lo hi:Int}{t u v:Tok}{n:Nat}(hh:A.handled=none)(N:IsRange s.heap r lo hi 1 t u v)(q:Builtin.Range.small lo hi 1=true)(hn:Builtin.Range.rangeSize lo hi 1=n)(z:n<=1000)
  (h:∀(h':Heap) (J:Nat) (g:Array AN),(∀b o',s.heap.get? b=-o'->h'.get? b=-o')->ItemsOf (λi v=>∃t,v=.int (lo+i*1) t) g n->Q (.ref h'.objs.size) {s with heap:=h'.push {cls:=.type "tuple",data:=.seq g},toks:=J}):
  wpAny (model prog w) A (call (.type "tuple") [.ref r]) Q E s:=
 callType_new F.called_tuple (!1) (F.typeCall_tuple_1 _) (F.newCall_tuple_1 _) (λobj=>F.args_object_init_2 obj _) F.entry_tuple_new
  (V7 r lo hi t u v n q hn z) ⟨hh,N,λh' J g M L=>⟨⟨_,Heap.get?_push_size _ rfl,rfl⟩,h h' J g M L⟩⟩
end PySem
namespace L2
open PySem PySem.Spec PyProof.Rows
section
variable {X:Cx}
theorem Dz{q:Array AN}{n:Nat}(h:ItemsOf (λi v=>∃t,v=.int (0+i*1) t) q n):Vals ((List.range n).map λi=>V.int (i:Nat)) q.toList:=by
 have hz:=h.1;let(ys,J):=Do q.toList λv J=>by
  let(j,Y,O):=List.mem_iff_getElem.mp J;have L:q[j]?=-v:=by rw[<-eP,ar Y,O]
  let(t,e):=h.2 j v L;exact⟨.int (0+j*1),t,e⟩
 have hl:ys⁻¹=n:=by rw[J⁻¹,cy,hz]
 have e:ys=(List.range n).map λi=>V.int (i:Nat):=by
  show List.ext_getElem? λi=>?_;by_cases hi:i<n
  .obtain ⟨y,N⟩:∃y,ys[i]?=-y:=⟨_,ar (!0)⟩;let(w,U,g):=J.get N;let(t,e):=h.2 i w (by rw[<-eP];exact U);rw[N,aS,List.getElem?_range hi,Option.map_some];subst e;cases y with
   |int k=>
    let(t',M):=(show ∃t',Value.int (0+i*1) t=Value.int k t' from g);simp only[Value.int.injEq]at M;rw[<-M.1];simp
   |non=>cases(show Value.int _ _=Value.none from g)
   |bl b=>cases(show Value.int _ _=Value.bool b from g)
   |str x=>let(_,z):=(show ∃t',Value.int _ _=Value.str x t' from g);cases z
   |byt x=>let(_,z):=(show ∃t',Value.int _ _=Value.bytes x t' from g);cases z
   |flt x=>let(_,z):=(show ∃t',Value.int _ _=Value.float x t' from g);cases z
   |ref a=>cases(show Value.int _ _=Value.ref a from g)
   |ty a=>cases(show Value.int _ _=Value.type a from g)
  .rw[List.getElem?_eq_none (!0),List.getElem?_eq_none (by simp;lia)]
 rw[<-e];exact J
theorem DG {a:AO} {ta:TA} {p pos:Pos} (M:Gl X "range") (N:X.mg "range"=none) (L:PA X [a] ta) (hs:starEach [a] X.env=[(false,eval a X.env)]:=by rfl):
  PE X (.Call (.Name "range" p) [a] [] pos) (λY H Q=>ta Y H λvs H1=>∃j:Int,vs=[.int j]/\∀r,H1 r=none->Q (.ref r) (upd H1 r (.rng 0 j))):=by
 intro p9 s Y H Q I h;show Call_ (iw I M N boot_range (fe (thn (L pos p9 s Y H _ I h) λus J zZ=>?_) hs rfl));let(vs,H1,g,U,O):=zZ;let(j,e,q):=O;subst e;cases U with
 |cons r rr=>
  cases rr;let(t,rfl):=r;exact call_range_1 ⟨.ref J.heap.objs.size,_,g.laid (t':=J.toks+1+1) (λb u z=>ag _ z) (av _) (show ObjOk X.prog X.w _ _ _ (.rng 0 j) from⟨_,_,_,aI _ rfl⟩),rfl,q _ (g.hok.fresh (av _))⟩
theorem DK(n:Nat):Builtin.Range.rangeSize 0 (n:Int) 1=n:=by rw[rangeSize_one];split<;>lia
theorem V9 (hc:X.calm=true):bj X (.type "list") (λxs H Q=>∃(r:AQ) (n:Nat),xs=[.ref r]/\H r=-(.rng 0 n)/\n<=1000/\∀l,H l=none->Q (.ref l) (upd H l (.lst ((List.range n).map λi=>V.int (i:Nat))))):=by
 intro p9 s Y H xs us Q I r h;let(p,n,rfl,L,hn,q):=h;let(u,rfl,N):=vals1 r;cases N;let(U,t2,t3,J):=(show ObjOk X.prog X.w H s.heap p (.rng 0 n) from I.hok p _ L);show call_list_range (I.ok.hd hc) J (small_one (!1) (!1) (!0) (!0)) (DK n) (!0) λh' O g z kp e hi=>?_;have M:=Dz hi;have hl:((List.range n).map λi=>V.int (i:Nat))⁻¹<=sizeLine:=by rw[ae,b4,fR];lia
 exact⟨.ref (~~~s),_,I.laid (t':=O) kp (av _) (show ObjOk X.prog X.w _ h' _ (.lst _) from⟨hl,g.toList,z,M,by rw[Array.toArray_toList];exact e⟩),rfl,q _ (I.hok.fresh (av _))⟩
theorem Wa (hc:X.calm=true):bj X (.type "tuple") (λxs H Q=>∃(r:AQ) (n:Nat),xs=[.ref r]/\H r=-(.rng 0 n)/\n<=1000/\∀l,H l=none->Q (.ref l) (upd H l (.tup ((List.range n).map λi=>V.int (i:Nat))))):=by
 intro p9 s Y H xs us Q I r h;let(p,n,rfl,N,hn,q):=h;let(u,rfl,U):=vals1 r;cases U;let(t1,t2,t3,M):=(show ObjOk X.prog X.w H s.heap p (.rng 0 n) from I.hok p _ N);show V8 (I.ok.hd hc) M (small_one (!1) (!1) (!0) (!0)) (DK n) hn λh' z g kp hi=>?_;have O:=Dz hi;have hl:((List.range n).map λi=>V.int (i:Nat))⁻¹<=sizeLine:=by rw[ae,b4,fR];lia
 have J:Inv X p9 Y H {s with heap:=h',toks:=z}:=I.kept (t':=z) kp;have L:Inv X p9 Y (upd H h'.objs.size (.tup ((List.range n).map λi=>V.int (i:Nat)))) {s with heap:=h'.push {cls:=.type "tuple",data:=.seq g},toks:=z}:=
  J.laid (t':=z) (λb o e=>ag _ e) (av _) (show ObjOk X.prog X.w _ _ _ (.tup _) from⟨hl,g.toList,O,by have:=IsTupX.new h' g.toList.toArray;rwa [Array.toArray_toList]at this⟩)
 exact⟨.ref h'.objs.size,_,L,rfl,q _ (J.hok.fresh (av _))⟩
end
end L2
namespace PyProof.Rows
open PySem
def Wb {prog:AK} {w:World} {A:AM} {E:AG} {s:AI} {it:AQ} {T:AL} {o:Obj} {g:AB} {n:Nat} {ns:List Int} {Q:AG} (hT:T="list"\/T="tuple")
  (ho:s.heap.get? it=-o) (hc:o.cls=.type T) (hd:o.data=.seq g.toArray n) (Y:IntsAre g ns) (L:g⁻¹<64)
  (h:∀(h1 h':Heap) (e:Nat) (out:Array AN) (q:List Int),IntsAre out.toList q->q.Perm ns->q.Pairwise (·<=·)->(∀b o',s.heap.get? b=-o'->h1.get? b=-o')->(∀b o',h1.get? b=-o'->h'.get? b=-o')->h'.get? h1.objs.size=-(seqObj "list" out e)->Q (.ref h1.objs.size) {s with heap:=h'}):
  wpAny (model prog w) A (call (.builtin "sorted") [.ref it]) Q E s:=by
 show Calls.call_function_entry kind_sorted plain_sorted entry_sorted (args_sorted1 _) ?_;unfold Builtin.«sorted»;show wpAny_bind (m:=checkCount "sorted" 1 1 _) (wpAny_pure ?_);show wpAny_bind (wpAny_collect_seq it hT ho hc hd (λh1 k1=>?_) (by rw[List.size_toArray,sizeLine_eq];lia));show wpAny_bind (wpAny_newList ?_);have U:g.toArray.toList=g:=by simp
 rw[U];have J:(h1.push (seqObj "list" g.toArray 0)).get? h1.objs.size=-(seqObj "list" g.toArray 0):=Heap.get?_push_size _ rfl;change wpAny _ _ _ _ _ {s with heap:=h1.push (seqObj "list" g.toArray 0)};show wpAny_bind (wpAny_holding (wpAny_call_entry slot_list_sort ⟨_,J,rfl⟩ entry_list_sort (list_sort_tree J Y L λout q M N O=>⟨_,rfl,?_⟩) (args_list_sort _)));let(e,he):=sortedHeap_at (vs:=g) (out:=out) J;show wpAny_pure ⟨_,rfl,h h1 _ e out q M N O k1 (λb o' z=>?_) he⟩;rw[sortedHeap_old (Nat.ne_of_lt (Heap.lt_size z)) (by rw[size_push'];exact Nat.lt_succ_of_lt (Heap.lt_size z))];exact Heap.get?_push_of_some _ z
end PyProof.Rows
namespace L2
open PySem PySem.Spec PyProof.Rows
def Wc {X:Cx}:bj X (.builtin "sorted") (λxs H Q=>∃(p:AQ) (ns:List Int),xs=[.ref p]/\SqT X.K H p (ns.map V.int)/\ns⁻¹<64/\∀g:List Int,g.Perm ns->g.Pairwise (·<=·)->∀l,H l=none->Q (.ref l) (upd H l (.lst (g.map V.int)))):=by
 intro p9 s Y H xs us Q I r h;let(p,ns,rfl,hq,h64,q):=h;let(u,rfl,ru):=vals1 r;cases ru;let(z,N,(o,ho,hc,n,hd),hz):=I.tuple hq;have M:z⁻¹=ns⁻¹:=by rw[<-N⁻¹];simp
 show Wb (.inr rfl) ho hc hd (intsAre_of N) (!0) λh1 h' e out g O L U k1 k2 he=>?_;have J:Inv X p9 Y H {s with heap:=h1}:=I.kept (t':=s.toks) k1;have hsz:(g.map V.int)⁻¹<=sizeLine:=by rw[ae,L.length_eq,fR];lia
 exact⟨.ref h1.objs.size,_,J.laid (t':=s.toks) k2 (av _) (show ObjOk X.prog X.w _ _ _ (.lst (g.map V.int)) from⟨hsz,out.toList,e,vh O,by rw[Array.toArray_toList];exact he⟩),rfl,q g L U _ (J.hok.fresh (av _))⟩
section
variable {prog:AK} {w:World} {A:AM} {R:Result->AI->Prop} {s:AI}
def gb(e:AO)(d:Nat)(g iter:AO)(z:AN->Env->Sem Fin->Sem Fin):Prop:=
 ∀it q env,compTurn e d it q env=(standAt iter.pos >>= λy=>pyNext it >>= λr=>match r with
   |none=>pure (.done .next)
   |some v=>letOwnedTupleGo g it v >>= λy=>assign g env v >>= λy=>z q env (again (.compLoop e d it q env)))
def emE (elt:AO) (g:AN) (env:Env) (k:Sem Fin):Sem Fin:=(eval elt env >>= λx=>call (.builtin "list.append") [g,x] >>= λz=>pure ()) >>= λz=>k
def emG(e:AO)(d:Nat)(iter:AO)(g:AN)(env:Env)(k:Sem Fin):Sem Fin:=
 eval iter env >>= λx=>standAt iter.pos >>= λz=>foldedSetIterable iter env x >>= λx=>holding [x] (pyIter x) >>= λit=>runOwn (.compStart e d it g env) env >>= λz=>k
theorem akn(elt z g L q M J:AO)(scope:Scope)(pos:Pos):gb (.ListComp elt [⟨z,g,[],0⟩,⟨L,q,[],0⟩,⟨M,J,[],0⟩] scope pos) 0 z g (emG (.ListComp elt [⟨z,g,[],0⟩,⟨L,q,[],0⟩,⟨M,J,[],0⟩] scope pos) 1 q):=λy y y=>rfl
theorem DN{elt:AO}{gens:List Comprehension}{scope:Scope}{pos:Pos}{d:Nat}{g iter:AO}{em:AN->Env->Sem Fin->Sem Fin}{it N:AN}{env:Env}(hT:gb (.ListComp elt gens scope pos) d g iter em)(I:Nat->AI->Prop)
  (turn:∀n s,I n s->wpAny (model prog w) A (pyNext it) (λr q=>match r with
   |none=>R (.ok .next) q
   |some v=>wpAny (model prog w) A (letOwnedTupleGo g it v) (λy z=>wpAny (model prog w) A (assign g env v) (λy L=>
     ∀(k:Sem Fin)(Q:Fin->AI->Prop)(E:AG),(∀M,(∃m,m<n/\I m M)->wpAny (model prog w) A k Q E M)->wpAny (model prog w) A (em N env k) Q E L) (λy y=>False) z) (λy y=>False) q) (λy y=>False) s)
  (n:Nat) (h:I n s):codeAny (model prog w) A (.compLoop (.ListComp elt gens scope pos) d it N env) R s:=by
 show codeAny_loop rfl I (λn s hI=>?_) n h;change wpAny _ A ((compTurn (.ListComp elt gens scope pos) d it N env).onRaise (λx=>do noteFrame x env;theTreesLotGoes x)) _ _ s;show wpAny_noted ?_;rw[hT];show ab (fv (ab (df (turn n s hI) (λr q J=>?_) λy y h'=>False.elim h')));cases r with
 |none=>exact ai J
 |some v=>
  show ab (df J (λy z O=>?_) λy y h'=>False.elim h');exact ab (df O (λy L U=>U _ _ _ λs₃ Y=>ai ⟨rfl,Y⟩) λy y h'=>False.elim h')
theorem Wd{elt:AO}{gens:List Comprehension}{scope:Scope}{pos:Pos}{d:Nat}{t i:AO}{q:AE}{it g:AN}{env:Env}(J:gens[d]?=-⟨t,i,q,0⟩)
  (h0:codeAny (model prog w) A (.compLoop (.ListComp elt gens scope pos) d it g env) R s)
  (h:wpAny (model prog w) A (pyIter it) (λz s'=>codeAny (model prog w) A (.compLoop (.ListComp elt gens scope pos) d z g env) R s') (λy y=>False) s):
  codeAny (model prog w) A (.compStart (.ListComp elt gens scope pos) d it g env) R s:=by
 show codeAny_of_tree ?_;change wpAny _ _ ((compStart (.ListComp elt gens scope pos) d it g env).onRaise (λx=>do noteFrame x env;standAt theWindowsPlace)) _ _ s;show wpAny_notedAt ?_;unfold compStart;have e:(clausesOf (.ListComp elt gens scope pos))[d]?=-⟨t,i,q,0⟩:=J;rw[e];change wpAny _ _ (ask >>= _) _ _ s;show ab (wpAny_askSetting (wpAny_ite ?_));split
 .exact ai (And.intro rfl h0)
 .show ab (wpAny_rule ?_);change wpAny _ _ (standAt i.pos >>= _) _ _ s;exact ab (fv (ab (df h (λz s' h'=>ai (And.intro rfl h')) λy y x=>False.elim x)))
end
abbrev TM:=AR->St->Hp->(AR->St->Hp->Prop)->Prop
def lob (g:AB) (n:Nat):Obj:={cls:=.type "list",data:=.seq g.toArray n}
structure AccOk(X:Cx)(a:AQ):Prop where
 new:a∈X.ex\/X.s₀.heap.objs.size<=a
 cel:∀x c,X.env.cells.lookup x=some c->c≠a
 pin:∀p∈X.pn,p.1≠a
def PM(X:Cx)(lim:Bool)(a:AQ)(J:Sem Fin->Sem Fin)(t:TM):Prop:=
 ∀(p9:AC)(g:AB)(n:Nat)(ys:AR)(Y:St)(H:Hp)(s:AI)(K:AR->St->Hp->Prop),Inv X ((a,lob g n)::p9) Y H s->(∀p∈p9,p.1≠a)->Vals ys g->(lim=true->ys⁻¹<sizeLine)->t ys Y H K->
  ∀(k:Sem Fin)(Q:Fin->AI->Prop)(E:AG),(∀s' its' L q z H',Inv X ((a,lob its' L)::p9) z H' s'->Vals q its'->K q z H'->↥X k Q E s')->↥X (J k) Q E s
def tmE(te:TE):TM:=λys Y H K=>ys⁻¹<sizeLine/\te Y H λy H'=>K (ys++[y]) Y H'
def We{X:Cx}{a:AQ}{elt:AO}{te:TE}(hx:X.xe=λx x=>False)(U:AccOk X a)(he:PE X elt te):PM X false a (emE elt (.ref a) X.env) (tmE te):=by
 intro p9 q n ys Y H s K I hp rv _ h kk Q E hk;let(hz,h):=h;have h0:=he _ s Y H _ I h;rw[hx]at h0;show ab (ab (df h0 (λv s8 h8=>?_) λx x z=>False.elim z));let(y,L,M,r8,k8):=h8;let(pD,nD,lD,fD,cD):=M.pin (a,lob q n) (aw _ a9);have hl:=rv⁻¹;show ab (append_at (hsz:=by rw[am];lia) pD λh9 hs9 O=>ai ?_);have N:Inv X p9 Y L s8:=M.pins_of λp hp=>M.pin p (aw _ (bm _ hp));have I9:Inv X p9 Y L {s8 with heap:=h9}:=N.turned (t':=s8.toks) (it:=a) (λb o hb e=>hs9.extBut b o hb e) nD lD U.new U.cel (λp g=>by
  rcases ba.mp g with z|z
  .exact U.pin p z
  .exact hp p z)
 have J:h9.get? a=-(lob (q++[v]) (n+1)):=by rw[O,List.push_toArray];rfl
 show hk _ (q++[v]) (n+1) (ys++[y]) Y L (I9.pins_of λp g=>?_) (rv.append (.cons r8 .nil)) k8;rcases br.mp g with e|z
 .subst e;exact⟨J,nD,lD,fD,λv z=>by have z':Data.seq _ _=Data.cell v:=z;cases z'⟩
 .exact I9.pin p (aw _ z)
def emT(q:AE)(elt:AO)(g:AN)(env:Env)(k:Sem Fin):Sem Fin:=
 (forIn q true λc r=>if r=true then do let ok <-isTrue c env (eval c env);pure (ForInStep.yield ok) else pure (ForInStep.yield r)) >>= λok=>if ok=true then emE elt g env k else k
def DP(elt tg iter:AO)(g:AE)(scope:Scope)(pos:Pos):gb (.ListComp elt [⟨tg,iter,g,0⟩] scope pos) 0 tg iter (emT g elt):=λz z z=>rfl
def tmT(z:TT)(te:TE):TM:=λys Y H K=>z Y H λb g=>if b=true then te Y g λy q=>K (ys++[y]) Y q else K ys Y g
def DQ{X:Cx}{a:AQ}{elt:AO}{g:AE}{tt:TT}{te:TE}(N:X.xe=λy y=>False)(ha:AccOk X a)(ht:PIf X g tt)(he:PE X elt te):PM X true a (emT g elt (.ref a) X.env) (tmT tt te):=by
 intro p9 q n ys Y H s K I hp U hl h kk Q E M;have h0:=ht _ s Y H _ I h;rw[N]at h0;show ab (df h0 (λb s4 h4=>?_) λy y z=>False.elim z);let(J,L,O):=h4;cases b with
 |false=>exact M s4 q n ys Y J L U O
 |true=>exact We N ha he p9 q n ys Y J s4 K L hp U (λz=>nomatch z) ⟨hl rfl,O⟩ kk Q E M
def Wf{X:Cx}{a:AQ}{elt:AO}{g:AE}{z:TT}{te:TE}(N:X.xe=λy y=>False)(J:AccOk X a)(M:PIf X g z)(he:PE X elt te):PM X false a (emT g elt (.ref a) X.env) (λys Y H K=>ys⁻¹<sizeLine/\tmT z te ys Y H K):=
 λp9 q n ys Y H s K I L O y h=>DQ N J M he p9 q n ys Y H s K I L O (λy=>h.1) h.2
def Wg(elt L J z q:AO)(g:AE)(scope:Scope)(pos:Pos):gb (.ListComp elt [⟨L,J,[],0⟩,⟨z,q,g,0⟩] scope pos) 1 z q (emT g elt):=λy y y=>rfl
def DR(elt J q L z:AO)(g:AE)(scope:Scope)(pos:Pos):gb (.ListComp elt [⟨J,q,[],0⟩,⟨L,z,g,0⟩] scope pos) 0 J q (emG (.ListComp elt [⟨J,q,[],0⟩,⟨L,z,g,0⟩] scope pos) 1 z):=λy y y=>rfl
def DW(J:It)(g:TG)(tm:TM)(ys:AR)(L:St)(H1:Hp)(K:AR->St->Hp->Prop):Prop:=
 ∃W:Nat->Nat->AR->St->Hp->Prop,(∃m,W 0 m ys L H1)/\∀i m ys q H',W i m ys q H'->
  (J.stop i H'/\K ys q H')\/(J.go i H'/\∀x H2,J.yld i H' x H2->g x q H2 λM U=>tm ys M U λz N Y=>∃O,O<m/\W (i+1) O z N Y)
def tmG(z:TI)(g:TG)(q:TM):TM:=λys Y H K=>z Y H λJ H1=>DW J g q ys Y H1 K
def Wh{X:Cx}{a:AQ}{elt:AO}{gens:List Comprehension}{scope:Scope}{pos:Pos}{d:Nat}{t i:AO}{ifs:AE}{em:AN->Env->Sem Fin->Sem Fin}{wi:TI}{g:TG}{tm:TM}(hx:X.xe=λy y=>False)(hc:X.calm=true)
  (hg:gens[d]?=-⟨t,i,ifs,0⟩) (hT:gb (.ListComp elt gens scope pos) d t i em) (hi:PI X t i wi) (hG:PG X t g) (hs:∀x,foldedSetIterable i X.env x=pure x) (hm:PM X false a (em (.ref a) X.env) tm):
  PM X false a (emG (.ListComp elt gens scope pos) d i (.ref a) X.env) (tmG wi g tm):=by
 intro p9 q n ys Y H s K I hp rv _ h kk Q E hk;have h0:=hi _ s Y H _ I h;rw[hx]at h0;show ab (df h0 (λxv s1 h1=>?_) λy y z=>False.elim z);show ab (fv (ab (wpAny_of_eq (hs xv) ?_)));show ab (cK (df h1 (λitv s2 h2=>?_) λy y z=>False.elim z));let(it,fp,tn,J,H2,e,I2,T,st2,f2,W,(m0,w0),turn):=h2;subst e;have L:∀{H':Hp}{o:Obj},(∀b∈fp,H' b=none)->∀b∈fp,cX X ((a,o)::p9) H' b:=λhn b M=>by
  let(_,q1,q2,q3,q4,q5):=f2 b M;show⟨hn b M,q1,q2,q3,q4,λp hp=>?_⟩;rcases ba.mp hp with z|z
  .exact q5 p (dA _ z)
  .rcases br.mp z with z|z
   .subst z;exact q5 (a,lob q n) (aw _ a9)
   .exact q5 p (aw _ (bm _ z))
 have hap:∀b∈fp,a≠b:=λb M=>(f2 b M).2.2.2.2.2 (a,lob q n) (aw _ a9);have O:codeAny (model X.prog X.w) X.A (.compLoop (.ListComp elt gens scope pos) d (.ref it) (.ref a) X.env) (λr s'=>match r with |.ok f=>↥X kk Q E s' |.error e=>cameBackBy (model X.prog X.w) X.A X.env E e s') s2:=by
  show DN hT (λm s'=>∃(i:Nat)(ys:AR)(q:AB)(n:Nat)(σ':St)(H':Hp),Inv X ((a,lob q n)::p9) σ' H' s'/\Vals ys q/\tn i s'.heap/\(∀b∈fp,H' b=none)/\W i m ys σ' H') ?_ m0 ⟨0,ys,q,n,Y,H2,I2,rv,st2,λb M=>(f2 b M).1,w0⟩;rintro m s3 ⟨i,ys,q,n,N,H3,I3,rv3,st3,fr3,w3⟩;rcases turn i m ys N H3 w3 with⟨stop,qn⟩|⟨go,step⟩
  .show thn (T.done X rfl rfl rfl hc i _ s3 N H3 _ I3 (L fr3) st3 stop) λr s4 zZ=>?_;let(hr,I4):=zZ;subst hr;exact hk s4 q n ys N H3 I4 rv3 qn
  .show thn (T.item X rfl rfl rfl hc i _ s3 N H3 _ I3 (L fr3) st3 go) λr s4 zZ=>?_;let(u,hr,h4):=zZ;subst hr;show thn h4 λy s5 zZ=>?_;let(x,H5,I5,r5,y5,st5,fr5):=zZ;have I5':=I5.pinned (L fr5) (T.obj _ _ st5);have h6:=hG _ s5 N H5 x u _ I5' r5 (step x H5 y5);rw[hx]at h6;show thn h6 λy s6 zZ=>?_;let(σ6,H6,I6,q6):=zZ;intro k Q' E' hk';show hm (p9++jx fp s5.heap) q n ys σ6 H6 s6 _ I6 (λp U=>?_) rv3 (λz=>nomatch z) q6 k Q' E' λs7 its' n' ys' σ7 H7 I7 rv7 ⟨m',hm',w7⟩=>hk' s7 ⟨m',hm',i+1,ys',its',n',σ7,H7,I7.pins_of λp U=>?_,rv7,?_,λb M=>?_,w7⟩
   .rcases ba.mp U with z|z
    .exact hp p z
    .exact λe=>hap p.1 (u6 z).1 e.symm
   .show I7.pin p (aw _ ?_);rcases br.mp U with z|z
    .rw[z];exact a9
    .exact bm _ (dA _ z)
   .exact T.keep _ _ _ st5 λb M o e=>(I7.pin (b,o) (aw _ (bm _ (aw _ (jy M e))))).1
   .let(o,e,_):=T.obj _ _ st5 b M;exact(I7.pin (b,o) (aw _ (bm _ (aw _ (jy M e))))).2.1
 exact ab (wpAny_runOwn (Wd hg O (T.self X.A 0 _ _ _ st2 O)))
def vD(lim:Bool)(X:Cx)(N':AD)(scope:Scope)(tg:AO)(em:AN->Env->Sem Fin->Sem Fin)(J:It)(O:St)(H1:Hp)(Q:VK):Prop:=
 ∃W:Nat->Nat->AR->St->Hp->Prop,(∃m,W 0 m [] O H1)/\∀i m ys L H',W i m ys L H'->
  (J.stop i H'/\ys⁻¹<=sizeLine/\∀D,H' D=none->Q (.ref D) (upd H' D (.lst ys)))\/
  (J.go i H'/\(lim=true->ys⁻¹<sizeLine)/\∀M C z q fp pn,∃g tm,PG (X.comp N' scope M C z q fp pn) tg g/\(∀a,AccOk (X.comp N' scope M C z q fp pn) a->PM (X.comp N' scope M C z q fp pn) lim a (em (.ref a) (X.comp N' scope M C z q fp pn).env) tm)/\
   ∀x H2,J.yld i H' x H2->g x L H2 λU H3=>tm ys U H3 λN Y H4=>∃m',m'<m/\W (i+1) m' N Y H4)
def vG(lim:Bool)(X:Cx)(N':AD)(scope:Scope)(tg:AO)(g:AN->Env->Sem Fin->Sem Fin)(q:TI)(cap:List (Option Nat)):TE:=λY H Q=>q Y H λJ H1=>vD lim X N' scope tg g J (d7 cap Y) H1 Q
def DX{X:Cx}{elt tg iter:AO}{ifs:AE}{lim:Bool}{rest:List Comprehension}{em:AN->Env->Sem Fin->Sem Fin}{scope:Scope}{pos:Pos}{wi:TI}{p9:AC}{s:AI}{Y:St}{H:Hp}{Q:VK}{RR:AN->AQ->Result->AI->Prop}(N':AD)(cap:List (Option Nat))(hc:X.calm=true)(hi:PI X tg iter wi)(hcap:Caps X scope N' cap)
  (hcell:scope.names.all (λy=>y.2 != NameKind.cell)=true)
  (hfr:scope.names.all (λy=>y.2 != NameKind.free||(X.env.kindOf y.1==-NameKind.cell||X.env.kindOf y.1==-NameKind.free))=true)
  (hkind:scope.kind=.function) (hT:gb (.ListComp elt (⟨tg,iter,ifs,0⟩::rest) scope pos) 0 tg iter em) (I:Inv X p9 Y H s) (h:vG lim X N' scope tg em wi cap Y H Q)
  (fin:∀(D C:AQ)(H':Hp)(s4:AI)(m:AH),Inv X p9 Y H' s4->Q (.ref D) H'->s4.heap.Ns C m->cX X p9 H' C->RR (.ref D) C (.ok .next) s4):
  ↥X (eval iter X.env) (λx s₁=>↥X (pyIter x) (λit s₂=>↥X (newList []) (λacc s₃=>
   ↥X (newFunctionEnv scope X.env.globals (cu X.env scope.names []) [] X.env.qual none .none (-X.env)) (λcenv s₄=>
    codeAny (model X.prog X.w) X.A (.compStart (.ListComp elt (⟨tg,iter,ifs,0⟩::rest) scope pos) 0 it acc {cenv with scope:=relabel scope X.env}) (RR acc cenv.locals) s₄) X.xe s₃) X.xe s₂) X.xe s₁) X.xe s:=by
 have hcell':∀y∈scope.names,y.2≠NameKind.cell:=λy hy=>by
  have:=bS.mp hcell y hy;simpa using this
 have hfr':∀y∈scope.names,y.2=NameKind.free->(X.env.kindOf y.1=-NameKind.cell\/X.env.kindOf y.1=-NameKind.free):=λy hy hl=>by
  have:=bS.mp hfr y hy;simpa [hl] using this
 have hcs:∀y∈scope.names,y.2=NameKind.free->(X.env.cells.lookup y.1).isSome=true:=λy hy hl=>by
  let(c,e):=I.ok.has y.1 (hfr' y hy hl);rw[e];rfl
 have M:∀x c,(cu X.env scope.names []).lookup x=-c->X.env.cells.lookup x=-c:=Df (λx c e=>by simp at e);have clhas:∀x,scope.names.lookup x=-NameKind.free->∃c,(cu X.env scope.names []).lookup x=-c:=λx e=>by
  have hm:=eA e;exact cS.mp (Dh (hcs _ hm rfl) hm)
 have rel:∀x,(relabel scope X.env).names.lookup x=(scope.names.lookup x).map λk=>if(k==NameKind.free&&X.env.scope.kind==.function&&X.env.kindOf x==-.cell)=true then NameKind.cell else k:=λx=>vo
 have relfree:∀x,((relabel scope X.env).names.lookup x=-NameKind.cell\/(relabel scope X.env).names.lookup x=-NameKind.free)->scope.names.lookup x=-NameKind.free:=λx e=>by
  rw[rel x]at e;cases z:scope.names.lookup x with
  |none=>rw[z]at e;rcases e with e|e<;>cases e
  |some k=>
   have nk:=hcell' _ (eA z);rw[z]at e;cases k with
   |free=>rfl
   |cell=>exact absurd rfl nk
   | «local»=>rcases e with e|e<;>simp[show(NameKind.«local»==NameKind.free)=false by decide]at e
   |globalExplicit=>rcases e with e|e<;>simp[show(NameKind.globalExplicit==NameKind.free)=false by decide]at e
   |globalImplicit=>rcases e with e|e<;>simp[show(NameKind.globalImplicit==NameKind.free)=false by decide]at e
 generalize hcl:cu X.env scope.names []=cl at M clhas;show thn (hi p9 s Y H _ I h) λxv s0 h0=>thn h0 λitv N h2=>?_;let(it,fp,tn,J,H2,e,U,T,st2,f2,W,(m0,w0),turn):=h2;subst e;show dn (wpAny_newFunctionEnv hcell' (by intro y hy;simp at hy) (λh₁ hns₁ hsb₁=>?_) hkind);dsimp only at hns₁ hsb₁ ⊢;generalize hH2:N.heap.push {cls:=.type "list",dict:=none,data:=.seq ([]:AB).toArray}=HP at hns₁ hsb₁ ⊢;have hC:HP.objs.size=N.heap.objs.size+1:=by rw[<-hH2,cm]
 have hDC:N.heap.objs.size≠HP.objs.size:=by rw[hC];exact bX (gX _)
 have O:∀b,b<N.heap.objs.size->b≠HP.objs.size/\b≠N.heap.objs.size:=λb L=>⟨by rw[hC];exact bX (eh L),bX L⟩;have old:∀b o,N.heap.get? b=-o->h₁.get? b=-o:=λb o e=>hsb₁.extBut b o (O b (ay e)).1 (ag _ (hH2 ▸ ag _ e));have hacc:h₁.get? N.heap.objs.size=-{cls:=.type "list",data:=.seq ([]:AB).toArray 0}:=hsb₁.extBut _ _ hDC (ag _ (hH2 ▸ aI _ rfl));have hst₁:tn 0 h₁:=T.keep _ _ _ st2 λb f o e=>old b o e;have fplt:∀b∈fp,b<N.heap.objs.size:=λb L=>by
  let(o,e,_):=T.obj _ _ st2 b L;exact ay e
 have fslt:∀b∈frs X.stack,b<N.heap.objs.size:=λb L=>by
  let(_,o,e,_):=U.stack.mem L;exact ay e
 have celllt:∀x c,cl.lookup x=-c->c<N.heap.objs.size:=λx c e=>by
  let(v,q):=U.cell x c (M x c e);exact q.lt
 have hDf:H2 N.heap.objs.size=none:=U.hok.fresh (av _);have hCf:H2 HP.objs.size=none:=U.hok.fresh (by rw[hC];exact gd _);have nofs:∀b∈fp,b∉frs X.stack:=λb L z=>by
  let(_,f1,f2',_):=f2 b L;rcases br.mp (U.stkSub b z) with e|e
  .exact f1 e
  .exact f2' e
 have ok':(X.comp N' scope cl HP.objs.size N H2 fp (X.pn++p9)).Ok:=
  ⟨U.ok.mod,hkind,U.ok.glob,U.ok.blt,(by change N.heap.objs.size<=HP.objs.size;rw[hC];exact gd _),
   λx y c e1 e2=>U.ok.inj x y c (M x c e1) (M y c e2),λx hx=>clhas x (relfree x hx),λx c hf f=>(by cases hf),U.ok.hd,U.ok.frames,.inl rfl,
   λb L=>⟨(O b (fplt b L)).1,λx c e=>(f2 b L).2.2.2.2.1 x c (M x c e)⟩,U.bs,b5 U.ok.bsz U.sz,
   λb o e L=>(by
    rcases(f2 b L).2.2.2.1 with z|z
    .exact U.ok.noex b o e z
    .exact absurd (bp (ay e) (b5 U.ok.bsz z)) (eT _)),
   nofs,U.stack,U.stkFree⟩
 have pnOk:∀p∈X.pn++p9,p.1<N.heap.objs.size/\p.1∉frs X.stack:=λp hp=>by
  let(e,_,n1,n2,_):=U.pin p hp;show⟨ay e,λz=>?_⟩;rcases br.mp (U.stkSub _ z) with e|e
  .exact n1 e
  .exact n2 e
 have I0:∀t,Inv (X.comp N' scope cl HP.objs.size N H2 fp (X.pn++p9)) [(N.heap.objs.size,{cls:=.type "list",data:=.seq ([]:AB).toArray 0})] (d7 cap Y) H2 {N with heap:=h₁,toks:=t}:=λt=>
  ⟨ok',rfl,U.bare,Un.kept old,⟨_,hns₁,λi x v e1 e2 f=>by
    let(j,nj,fr,sj):=hcap.at e1 e2;let(m,_,hl):=U.loc;have hk:=hfr' (x,NameKind.free) (eA fr) rfl;let(u,r,l):=hl j x v nj sj (by rcases hk with hk|hk;exact .inr (.inl hk);exact .inr (.inr hk));show⟨u,r,.inr ⟨?_,?_⟩⟩
    .change (relabel scope X.env).names.lookup x=-.cell\/(relabel scope X.env).names.lookup x=-.free;rw[rel x,fr,Option.map_some];by_cases hh:(NameKind.free==NameKind.free&&X.env.scope.kind==ScopeKind.function&&X.env.kindOf x==-NameKind.cell)=true
     .exact .inl (by rw[if_pos hh])
     .exact .inr (by rw[if_neg hh])
    .let(c,ec):=clhas x fr;have ec':=M x c ec;rcases l with⟨k1,_⟩|⟨_,c',e',q⟩
     .rcases hk with hk|hk<;>(rw[hk]at k1;cases k1)
     .have ecc:X.env.cells.lookup x=-c:=ec';rw[e']at ecc;cases ecc;let(o,ho,hd):=q;exact⟨_,ec,o,old _ _ ho,hd⟩⟩,
   λx c e=>(by let(v,o,ho,hd):=U.cell x c (M x c e);exact⟨v,o,old _ _ ho,hd⟩),hCf,λx c e=>U.freeC x c (M x c e),
   λp hp=>by
    rcases ba.mp hp with z|z
    .let(e,n0,_,_,d):=U.pin p z;exact⟨old _ _ e,n0,(O _ (pnOk p z).1).1,(pnOk p z).2,d⟩
    .have e:p=_:=al.mp z;subst e;exact⟨hacc,hDf,hDC,λz=>absurd (fslt _ z) (eT _),λv z=>by have z':Data.seq _ _=Data.cell v:=z;cases z'⟩,
   U.hok.kept old,by change(d7 cap Y)⁻¹=N'⁻¹;unfold d7;rw[ae];exact hcap.len⟩
 have fpok:∀{H':Hp}{o:Obj},(∀b∈fp,H' b=none)->∀b∈fp,cX (X.comp N' scope cl HP.objs.size N H2 fp (X.pn++p9)) [(N.heap.objs.size,o)] H' b:=λhn b L=>
  ⟨hn b L,(O b (fplt b L)).1,nofs b L,.inl L,λx c e=>(f2 b L).2.2.2.2.1 x c (M x c e),λp hp=>by
   rcases ba.mp hp with z|z
   .exact (f2 b L).2.2.2.2.2 p z
   .have e:p=_:=al.mp z;subst e;exact Ne.symm (O b (fplt b L)).2⟩
 have loop:∀s₃:AI,s₃={N with heap:=h₁,toks:=N.toks+([]:List (Str×AN))⁻¹}->
   codeAny (model X.prog X.w) X.A (.compLoop (.ListComp elt (⟨tg,iter,ifs,0⟩::rest) scope pos) 0 (.ref it) (.ref N.heap.objs.size) (compEnvC scope cl HP.objs.size X.env))
    (RR (.ref N.heap.objs.size) HP.objs.size) s₃:=by
  rintro s₃ rfl;show DN hT
   (λk s'=>∃(i:Nat) (ys:AR) (its:AB) (n:Nat) (σ':St) (H':Hp),Inv (X.comp N' scope cl HP.objs.size N H2 fp (X.pn++p9)) [(N.heap.objs.size,{cls:=.type "list",data:=.seq its.toArray n})] σ' H' s'/\Vals ys its/\
    tn i s'.heap/\(∀b∈fp,H' b=none)/\W i k ys σ' H') ?_ m0 ⟨0,[],[],0,_,H2,I0 _,.nil,hst₁,λb L=>(f2 b L).1,w0⟩
  rintro k s3 ⟨i,ys,its,n,σ3,H3,I3,rv3,st3,fr3,w3⟩;rcases turn i k ys σ3 H3 w3 with⟨stop,hz,qn⟩|⟨go,hlim,step⟩
  .show thn (T.done (X.comp N' scope cl HP.objs.size N H2 fp (X.pn++p9)) rfl rfl rfl hc i _ s3 σ3 H3 _ I3 (fpok fr3) st3 stop) λr s4 zZ=>?_;let(hr,I4):=zZ;subst hr;let(m,hn,_):=I4.loc;let(pD,nD,_,_,_):=I4.pin (N.heap.objs.size,{cls:=.type "list",data:=.seq its.toArray n}) (aw _ (al.mpr rfl));have nC:H3 HP.objs.size=none:=I4.free;have u:Un (frs X.stack) fp H2 H3 N.heap s4.heap:=I4.base;show fin N.heap.objs.size HP.objs.size (upd H3 N.heap.objs.size (.lst ys)) s4 m ?_ (qn _ nD) hn ?_
   .show U.call' (s':=s4) (ch:=fp) I4.os ?_ ?_ I4.bare λb L=>⟨(f2 b L).2.2.2.1,(f2 b L).2.1,(f2 b L).2.2.2.2.1,(f2 b L).2.2.2.2.2⟩
    .show ⟨λb o e n0 L hx=>u.keep b o e n0 L hx,λb o e n0 L hx=>u.slot b o e n0 L hx,λb o e n0 hx=>?_,λb o e hx=>u.there b o e hx,λb xs e=>?_,λb o v e=>?_,λb ps e=>?_⟩
     .rw[aK (O b (ay e)).2];exact u.free b o e n0 hx
     .rw[aK (bF e hDf)];exact u.tups b xs e
     .rw[aK (bF e hDf)];exact u.frzs b o v e
     .rw[aK (bF e hDf)];exact u.tbls b ps e
    .intro b o e;by_cases L:b=N.heap.objs.size
     .subst L;rw[cW]at e;cases e;exact⟨hz,its,n,rv3,pD⟩
     .rw[aK L]at e;exact(I4.hok b o e).stay (λc v f q=>q) (λc q=>by rw[aK (bF q nD)];exact q) λc xs q=>by rw[aK (bF q nD)];exact q
   .have hle:N.heap.objs.size<=HP.objs.size:=by rw[hC];exact gd _
    exact U.fpOk hle (by rw[aK (Ne.symm hDC)];exact nC)
  .show thn (T.item (X.comp N' scope cl HP.objs.size N H2 fp (X.pn++p9)) rfl rfl rfl hc i _ s3 σ3 H3 _ I3 (fpok fr3) st3 go) λr s4 zZ=>?_;let(u,hr,h4):=zZ;subst hr;show thn h4 λf s5 zZ=>?_;let(x,H5,I5,r5,y5,st5,fr5):=zZ;let(g,tm,hg,hm,body):=step cl HP.objs.size N H2 fp (X.pn++p9);have acc:AccOk (X.comp N' scope cl HP.objs.size N H2 fp (X.pn++p9)) N.heap.objs.size:=
    ⟨.inr (av _),λx c e z=>absurd (celllt x c e) (by rw[z];exact eT _),λp hp z=>absurd (pnOk p hp).1 (by rw[z];exact eT _)⟩
   have I5':=I5.pinned (fpok fr5) (T.obj _ _ st5);show thn (hg _ s5 σ3 H5 x u _ I5' r5 (body x H5 y5)) λf s6 zZ=>?_;let(σ6,H6,I6,q6):=zZ;intro kk Q' E' hk';show hm _ acc (jx fp s5.heap) its n ys σ6 H6 s6 _ I6 (λp hp' e=>?_) rv3 hlim q6 kk Q' E' λs7 its' n' ys' σ7 H7 I7 rv7 ⟨m',hm',w7⟩=>hk' s7 ⟨m',hm',i+1,ys',its',n',σ7,H7,I7.pins_of λp hp'=>?_,rv7,?_,λb L=>?_,w7⟩
   .exact (O p.1 (fplt p.1 (u6 hp').1)).2 e
   .show I7.pin p (aw _ ?_);rw[al.mp hp'];exact a9
   .exact T.keep _ _ _ st5 λb L o e=>(I7.pin (b,o) (aw _ (bm _ (jy L e)))).1
   .let(o,e,_):=T.obj _ _ st5 b L;exact(I7.pin (b,o) (aw _ (bm _ (jy L e)))).2.1
 exact codeAny_compStart_list (loop _ rfl) (T.self X.A 0 _ _ _ hst₁ (loop _ rfl))
def DY{X:Cx}{elt tg iter:AO}{U:AE}{lim:Bool}{rest:List Comprehension}{em:AN->Env->Sem Fin->Sem Fin}{scope:Scope}{pos:Pos}{wi:TI}(N':AD)(cap:List (Option Nat))(hc:X.calm=true)(hi:PI X tg iter wi)(N:Caps X scope N' cap)
  (M:scope.names.all (λy=>y.2 != NameKind.cell)=true) (J:scope.names.all (λy=>y.2 != NameKind.local||scope.names.lookup y.1==-NameKind.local)=true)
  (O:scope.names.all (λy=>y.2 != NameKind.free||(X.env.kindOf y.1==-NameKind.cell||X.env.kindOf y.1==-NameKind.free))=true)
  (g:scope.kind=.function) (hs:∀x,foldedSetIterable iter X.env x=pure x) (hT:gb (.ListComp elt (⟨tg,iter,U,0⟩::rest) scope pos) 0 tg iter em):
  PE X (.ListComp elt (⟨tg,iter,U,0⟩::rest) scope pos) (vG lim X N' scope tg em wi cap):=by
 intro p9 s Y H Q I h;have z:∀y∈scope.names,y.2=NameKind.local->scope.names.lookup y.1=-NameKind.local:=λy hy hl=>by
  have:=bS.mp J y hy;simpa [hl] using this
 have hcs:∀y∈scope.names,y.2=NameKind.free->(X.env.cells.lookup y.1).isSome=true:=λy hy hl=>by
  have:=bS.mp O y hy;let(c,e):=I.ok.has y.1 (by simpa [hl] using this);rw[e];rfl
 rw[eval_ListComp];show fw (use:=none) (Q:=EP X p9 Y Q) rfl hs (lg hcs) g z
  (DX (RR:=λacc C=>compPost (model X.prog X.w) X.A X.xe none (EP X p9 Y Q) acc C) N' cap hc hi N M O g hT I h λL C H' s4 m I4 q hn fC=>?_)
 let(f0,f1,f2,f3,f4,f5):=fC;exact⟨m,hn,λh' hs'=>⟨.ref L,H',I4.turned (t':=s4.toks) (it:=C) (λb o hb e=>hs'.extBut b o hb e) f0 f1 f3 f4 f5,rfl,q⟩⟩
def Ea{X:Cx}{elt tg iter:AO}{N:AE}{lim:Bool}{rest:List Comprehension}{em:AN->Env->Sem Fin->Sem Fin}{scope:Scope}{pos py O:Pos}{wi:TI}{i:Nat}{y:Str}(hT:gb (.ListComp elt (⟨tg,iter,N,0⟩::rest) scope pos) 0 tg iter em)(hN:X.N.Nodup)(hiy:X.N[i]?=-y)(hy:Loc X.env.scope y)(N':AD)(cap:List (Option Nat))(hc:X.calm=true)(hi:PI X tg iter wi)(hcap:Caps X scope N' cap)
  (U:scope.names.all (λy=>y.2 != NameKind.cell)=true:=by rfl) (M:scope.names.all (λy=>y.2 != NameKind.local||scope.names.lookup y.1==-NameKind.local)=true:=by rfl)
  (hfr:scope.names.all (λy=>y.2 != NameKind.free||(X.env.kindOf y.1==-NameKind.cell||X.env.kindOf y.1==-NameKind.free))=true:=by rfl)
  (g:scope.kind=.function:=by rfl) (hs:∀x,foldedSetIterable iter X.env x=pure x:=by intro _;rfl)
  (hsw:swapsWith (.ListComp elt (⟨tg,iter,N,0⟩::rest) scope pos) (-(.Name y py)) O.line X.env=pure true:=by rfl)
  (hf:X.fn y=true\/X.env.scope.names.lookup y=-.local:=by first|exact .inl rfl|exact .inr rfl|assumption):
  PS X (.Assign [.Name y py] (.ListComp elt (⟨tg,iter,N,0⟩::rest) scope pos) O) (jw (vG lim X N' scope tg em wi cap) (ju i)):=by
 intro p9 s Y H D I h;have J:∀y∈scope.names,y.2=NameKind.local->scope.names.lookup y.1=-NameKind.local:=λy hy hl=>by
  have:=bS.mp M y hy;simpa [hl] using this
 have hcs:∀y∈scope.names,y.2=NameKind.free->(X.env.cells.lookup y.1).isSome=true:=λy hy hl=>by
  have:=bS.mp hfr y hy;let(c,e):=I.ok.has y.1 (by simpa [hl] using this);rw[e];rfl
 rw[exec_Assign_Name_used _ _ _ _ hsw];show ab (fv (ab ?_));change wpAny _ X.A (do let _ <-comprehension (.ListComp elt (⟨tg,iter,N,0⟩::rest) scope pos) scope X.env _ (newList []) false (eval iter X.env) (-(assign (.Name y py) X.env))) _ _ s;show ab (df (fw (use:=-(assign (.Name y py) X.env)) (Q:=λt s'=>SP X p9 D .next s') rfl hs (lg hcs) g J
  (DX (RR:=λacc C=>compPost (model X.prog X.w) X.A X.xe (-(assign (.Name y py) X.env)) (λt s'=>SP X p9 D .next s') acc C) N' cap hc hi hcap U hfr g hT I h λL C H' s4 m I4 q hn fC=>?_)) (λt s' hq=>ai (ai hq)) λt t e=>e)
 let(oC,es,ep,eC,rC):=id hn;let(f0,f1,f2,f3,f4,f5):=fC;have ncell:∀v,oC.data≠.cell v:=λv z=>by rw[rC.1]at z;cases z
 have I5:Inv X (p9++[(C,oC)]) Y H' s4:=I4.pins_of λp hp=>by
  rcases ba.mp hp with z|z
  .exact I4.pin p (aw _ z)
  .have e:p=_:=al.mp z;subst e;exact⟨eC,f0,f1,f2,ncell⟩
 show g9 (jt I5 hN hiy hy (v:=.ref L) (u:=.ref L) rfl (λs5 I6=>?_) hf);have eC5:s5.heap.get? C=-oC:=(I6.pin (C,oC) (aw _ (aw _ (al.mpr rfl)))).1;have I7:Inv X p9 (Y.set i (-(.ref L))) H' s5:=I6.pins_of λp hp=>I6.pin p (aw _ (dA _ hp));show⟨m,⟨oC,es,ep,eC5,rC⟩,λh'' hs''=>?_⟩;exact⟨_,H',I7.turned (t':=s5.toks) (it:=C) (λb o hb e=>hs''.extBut b o hb e) f0 f1 f3 f4 f5,q⟩
open HT
section
variable {prog:AK} {w:World} {A:AM} {E:AG} {s:AI}
theorem Wi(n:Nat):Builtin.Slice.sliceAdjust none none (Neg.neg 1) (n:Int)=((n:Int)-1,Neg.neg 1):=rfl
theorem Wj(n:Nat):Builtin.Slice.slicePlaces ((n:Int)-1) (Neg.neg 1) (Neg.neg 1)=n:=by
 unfold Builtin.Slice.slicePlaces;have h1:¬((Neg.neg 1:Int) > 0):=by lia
 simp only[h1,if_false];split
 .rw[show(Neg.neg (Neg.neg 1):Int)=1 by decide,Int.ediv_one];lia
 .omega
theorem Wl{z:AQ}{t:Tok}{n:Nat}{Q:Int×Int×Nat->AI->Prop}(hs:s.heap.IsSliceOf z .none .none (.int (Neg.neg 1) t))
  (h:Q ((n:Int)-1,Neg.neg 1,n) s):wpAny (model prog w) A (Builtin.Slice.sliceApplied (.ref z) (pure (n:Int))) Q E s:=by
 let(L,q,J,g):=id hs;unfold Builtin.Slice.sliceApplied Builtin.Slice.sliceFields;show ab (ab (dr q g (x:=.none) rfl (ab (dr q g (x:=.none) rfl (ab (dr q g (x:=.int (Neg.neg 1) t) rfl (ai ?_)))))));show ab (HT.kY (.int (Neg.neg 1) t) ?_);change wpAny _ _ (if((Neg.neg 1:Int)==0)=true then _ else _) _ _ s;rw[if_neg (!1)];show ab (HT.kY .none (ab (HT.kY .none (ab (ai ?_)))));change wpAny _ _ (match Builtin.Slice.sliceAdjust none none (Neg.neg 1) (n:Int) with | (lo,hi)=>pure (lo,(Neg.neg 1:Int),Builtin.Slice.slicePlaces lo hi (Neg.neg 1))) _ _ s;rw[Wi n];change wpAny _ _ (pure ((n:Int)-1,(Neg.neg 1:Int),Builtin.Slice.slicePlaces ((n:Int)-1) (Neg.neg 1) (Neg.neg 1))) _ _ s;rw[Wj];exact ai h
theorem Wm(g:AB):((List.range g.toArray.size).filterMap λ(m:Nat)=>g.toArray[((g.toArray.size:Int)-1+(m:Int) * Neg.neg 1).toNat]?).toArray=g.reverse.toArray:=by
 have h2:=Dp g;have e:slicePick g.toArray none none (-(Neg.neg 1))=((List.range g.toArray.size).filterMap λ(m:Nat)=>g.toArray[((g.toArray.size:Int)-1+(m:Int) * Neg.neg 1).toNat]?).toArray:=by
  change((sliceRange ((g.toArray.size:Int)-1) (Neg.neg 1) (Neg.neg 1)).filterMap λx=>g.toArray[x]?).toArray=_;unfold sliceRange;dsimp only;rw[if_neg (!1),List.filterMap_map];congr 1;have q:(if(g.toArray.size:Int)-1 > Neg.neg 1 then((g.toArray.size:Int)-1 - Neg.neg 1 - Neg.neg 1-1) / Neg.neg (Neg.neg 1) else 0).toNat=g.toArray.size:=by
   split
   .rw[show(Neg.neg (Neg.neg 1):Int)=1 by decide,Int.ediv_one];lia
   .omega
  rw[q];congr 1;funext k;change g.toArray[((g.toArray.size:Int)-1 + Neg.neg 1*(k:Int)).toNat]?=_;rw[Int.mul_comm]
 rw[<-e,h2]
theorem Wn{t N:AQ}{q:AB}{Y:Tok}{Q:AG}(z:IsTup s.heap t q.toArray)(hs:s.heap.IsSliceOf N .none .none (.int (Neg.neg 1) Y))
  (h:Q (.ref (~~~s)) {s with heap:=s.heap.push {cls:=.type "tuple",data:=.seq q.reverse.toArray}})
  (hsz:q.toArray.size<=sizeLine):wpAny (model prog w) A (getItem (.ref t) (.ref N)) Q E s:=by
 have g:sizeOk (.seq q.reverse.toArray):=by change q.reverse.toArray.size<=sizeLine;rw[am,List.length_reverse];rwa [am]at hsz
 let(U,M,L,O):=id hs;have J:s.TypeIs (.ref N) "slice":=⟨U,M,L⟩;unfold getItem;try with_reducible show cK ?_
 first|show ab (ai ?_)|skip
 show ab (wpAny_sequenceKey z.typeIs (!1) ?_);show ab (dk (name:=⇑"__getitem__") z.typeIs da
  (e7 da z.typeIs entry_tuple_getitem ?_ (args_tuple_getitem _ _)))
 change wpAny _ _ (Builtin.Tuple.tupleItemsOf (.ref t) >>= _) _ _ s;show ab (tupleItemsOf_ z ?_);show ab (wpAny_typeOf J ?_);rw[if_pos (!1)];show ab (Wl hs ?_);change wpAny _ _ (if((((q.toArray.size:Int)-1)==0&&(Neg.neg 1:Int)==1&&q.toArray.size==q.toArray.size)=true) then _ else _) _ _ s;rw[if_neg (by rw[show((Neg.neg 1:Int)==1)=false from rfl,gS,Bool.false_and];exact bg),Wm];first
  |exact ab (m:=Builtin.Tuple.tupleExact _) (dn (ai ⟨_,rfl,ai h⟩) g)
  |exact ab (m:=Builtin.Tuple.tupleExact _) (dn (ab (ai (ai ⟨_,rfl,ai h⟩))) g)
  |exact ab (ab (m:=Builtin.Tuple.tupleExact _) (dn (ai (ai ⟨_,rfl,ai h⟩)) g))
  |exact ab (ab (m:=Builtin.Tuple.tupleExact _) (dn (ai ⟨_,rfl,ai h⟩) g))
end
def Wo(K:PF):V->V->Hp->VK->Prop:=λx y H Q=>y=.int (Neg.neg 1)/\∃a xs,x=.ref a/\((SqL K H a xs/\∀p,H p=none->Q (.ref p) (upd H p (.lst xs.reverse)))\/(SqT K H a xs/\∀p,H p=none->Q (.ref p) (upd H p (.tup xs.reverse))))
section
variable {X:Cx} {e st:AO} {te ts:TE} {p2 pos:Pos}
theorem Wq(he:PE X e te)(hs:PE X st ts):PE X (.Subscript e (.Slice none none (-st) p2) pos) (λY H Q=>te Y H λx H1=>ts Y H1 λy H2=>Wo X.K x y H2 Q):=by
 intro p9 s Y H Q I h;show Subscript_ (thn (he p9 s Y H _ I h) λv s1 zZ=>?_);let(x,H1,I1,r1,q1):=zZ;show wpAny_Slice (thn (vf p9 s1 Y H1 (λl H2=>l=none/\H2=H1) I1 ⟨rfl,rfl⟩) λvl s2 M=>?_);let(l,H2,I2,pl,rfl,rfl):=M;show thn (vf p9 s2 Y H2 (λl N=>l=none/\N=H2) I2 ⟨rfl,rfl⟩) λvu s3 M=>?_;let(u,N,I3,pu,rfl,rfl):=M;rw[evalPart_some];show thn (hs p9 s3 Y N _ I3 q1) λvs g M=>?_;let(y,H4,I4,r4,rfl,a,xs,rfl,hq):=M;let(t,rfl):=r4;cases r1;have z:Inv X p9 Y H4 {g with heap:=g.heap.push {cls:=.type "slice",data:=.fields #[vl,vu,.int (Neg.neg 1) t]}}:=I4.kept (t':=g.toks) λb ob q=>ag _ q;rcases hq with⟨O,q⟩|⟨O,q⟩
 .let(its,r,L,U):=z.list O;have J:=r⁻¹;show tail_any (ops:=[.ref a,.ref g.heap.objs.size]) (T:="list") L.isList.typeIs slot_list_getitem.lookup ?_ (by with_unfolding_all rfl);show wpAny_getItem_list_slice L.isList (Heap.IsSliceOf.new ..) pl pu (.int (Neg.neg 1) t) (!2) ?_ (by rw[am]<;>lia);rw[Dp];show⟨.ref _,_,z.laid (t':=g.toks) (o:=.lst xs.reverse) (λb ob q=>ag _ q) (av _) ?_,rfl,q _ (z.hok.fresh (av _))⟩;exact⟨by rw[List.length_reverse];exact U,_,0,r.back,aI _ rfl⟩
 .let(its,r,L,U):=z.tuple O;have J:=r⁻¹;cases pl;cases pu;show tail_any (ops:=[.ref a,.ref g.heap.objs.size]) (T:="tuple") L.typeIs da.lookup ?_ (by with_unfolding_all rfl);show Wn L (Heap.IsSliceOf.new ..) ?_ (by rw[am]<;>lia);show⟨.ref _,_,z.laid (t':=g.toks) (o:=.tup xs.reverse) (λb ob q=>ag _ q) (av _) ?_,rfl,q _ (z.hok.fresh (av _))⟩;exact⟨by rw[List.length_reverse];exact U,_,r.back,IsTupX.new _ _⟩
end
end L2
namespace PySem
open Sem (wp)
open Builtin Builtin.Str
open AutoSeq1 (wpAny_loadPart')
end PySem
namespace RF
open PySem L2 PySem.Builtin PySem.Builtin.Str PySem.StrLaws
def qY(c:Nat):AA->List (AA)
 |[]=>[[]]
 |x::r=>if x=c then[]::qY c r else(x::(qY c r).headD [])::(qY c r).tail
end RF
namespace L2
open PySem PySem.Spec PyProof.Rows
open Builtin Builtin.ObjectAttr
open PySem.W (findIn mroIn clsIn typeIn Looks InstAt looks_findIn looks_mroIn looks_typeIn looks_clsIn takerIn takesIn hasDictIn looks_takesIn check_slot osa_eq)
def exO(C l:AQ)(dx:Option AQ):Obj:=⟨.ref C,dx,.fields #[.ref l,.none,.none,.none,.bool false,.none],#[]⟩
open PySem.W (findIn mroIn clsIn typeIn takerIn specialIn findCls readsIn)
def Wr(f:AQ):Option AN->Bool
 |some (.ref a)=>a==f
 |_=>false
def Ws(K:PF)(N f:AQ):Bool:=match K.lookup N with
 |some ⟨_,_,.dict es _,_⟩=>es.toList.all (λe=>Ds e.key)&&Wr f (nsFind es "__init__")
 |_=>false
def Wt(K:PF)(C f:AQ):Bool:=match K.lookup C with
 |some ⟨ty,_,.cls cd,⟨[_,_,_,_,k,_]⟩⟩=>Dt ty&&isNew k&&Ws K cd.ns f&&!cd.hasDel&&(match cd.mro with|v::tl=>isRef C v&&vA K tl |[]=>false)
 |_=>false
def Eb(e C l:AQ)(dx:Option AQ):Heap->Prop:=λh=>h.get? e=-(exO C l dx)
def Ec (w:World):Bool:=w.params.followText "set-order"
section
variable {prog:AK} {w:World} {A:AM} {E:AG} {s:AI}
def dD (w:World):Obj:={cls:=.type "set",dict:=none,data:=.set #[] 0 (.fresh 0 0 (!Ec w))}
theorem Wu(a:AN){Q₁:AG}(h:Q₁ (.ref (~~~s)) {s with heap:=s.heap.push (dD w)}):
  codeAny (model prog w) A (.call (.builtin "set.__new__") ⟨[.type "set",a],[]⟩) (wants Q₁ E) s:=by
 show codeAny_of_tree ?_;change wpAny _ A.in1 (do checkBuiltinCall "set.__new__" ⟨[.type "set",a],[]⟩;again (.builtin "set.__new__" ⟨[.type "set",a],[]⟩)) _ _ s;show ab (wpAny_of_eq (PySem.F.newCall_set_1 a) (ai ⟨plainId_quiet PySem.F.plain_set_new _,codeAny_builtin PySem.F.entry_set_new ?_⟩));rw[Around.under_plainId PySem.F.plain_set_new _];unfold Builtin.«set.__new__» Builtin.Frozenset.newClass;have q:=sub_set_self;let(z,g,d,L,J):=s;dsimp only;wp_walk
 show wpAny_askSetting (ai ?_);dsimp only;simp only[newObj];show ab (wpAny_alloc (ai ?_));exact ai h
end
section
variable {prog:AK} {w:World} {A:AM} {E:AG} {s:AI} {κ:PyProof.Rows.KeyKind}
def okK(κ:PyProof.Rows.KeyKind)(p:Keyed):Prop:=∃a,κ.keyOf p.1=-a
def okA(κ:PyProof.Rows.KeyKind)(xs:Array Keyed):Prop:=∀p,p∈xs.toList->okK κ p
theorem nb{a b:Nat}(h:¬(a==b)=true):a≠b:=λz=>h (a8.mpr z)
end
section
variable {κ:Type} [DecidableEq κ]
def cH(g:List (κ×V))(k:κ):Option V:=(g.find? λkv=>decide (kv.1=k)).map (·.2)
def putD(g:List (κ×V))(k:κ)(v:V):List (κ×V):=
 if(g.any λkv=>decide (kv.1=k))=true then g.map (λkv=>if kv.1=k then(kv.1,v) else kv) else g++[(k,v)]
theorem qZ{p:κ×V}{r:List (κ×V)}{k:κ}(e:p.1=k):cH (p::r) k=-p.2:=by simp[cH,List.find?_cons,e]
theorem q8{p:κ×V}{r:List (κ×V)}{k:κ}(e:¬p.1=k):cH (p::r) k=cH r k:=by simp[cH,List.find?_cons,e]
theorem rm(k:κ):∀g:List (κ×V),(g.any λkv=>decide (kv.1=k))=(cH g k).isSome
 |[]=>rfl
 |p::r=>by
  rw[List.any_cons];by_cases e:p.1=k
  .simp only[qZ e,bo e,Bool.true_or,Option.isSome_some]
  .rw[q8 e,bq e,Bool.false_or];exact rm k r
theorem length_putD(g:List (κ×V))(k:κ)(v:V):(putD g k v)⁻¹<=g⁻¹+1:=by
 unfold putD;split
 .rw[ae];lia
 .rw[ax,ca,gx];lia
theorem Ed{g:List (κ×V)}{k:κ}(v:V)(h:cH g k=none):putD g k v=g++[(k,v)]:=by unfold putD;rw[rm,h];exact if_neg (!1)
theorem RelO.isSome_eq{o:Option V}{u:Option AN}(r:RelO o u):o.isSome=u.isSome:=by
 cases o with
 |none=>cases u with
  |none=>rfl
  |some _=>exact(show False from r).elim
 |some _=>cases u with
  |none=>exact(show False from r).elim
  |some _=>rfl
theorem KV.val{g:List (κ×V)}{vs:List (κ×AN)}(r:KV g vs)(k:κ):RelO (cH g k) (valueAt vs k):=by
 unfold KV at r;induction r with
 |nil=>exact gc
 | @cons p q ps qs h t ih=>
  let(h1,h2):=h;by_cases e:p.1=k
  .have J:q.1=k:=h1.symm.trans e;have b:valueAt (q::qs) k=-q.2:=by simp[valueAt,List.find?_cons,J]
   rw[qZ e,b];exact h2
  .have J:¬q.1=k:=λz=>e (h1.trans z);have b:valueAt (q::qs) k=valueAt qs k:=by simp[valueAt,List.find?_cons,J]
   rw[q8 e,b];exact ih
theorem KV.any{g:List (κ×V)}{vs:List (κ×AN)}(r:KV g vs)(k:κ):(g.any λkv=>decide (kv.1=k))=vs.any λkv=>decide (kv.1=k):=by
 unfold KV at r;induction r with
 |nil=>rfl
 |cons h t q=>rw[List.any_cons,List.any_cons,q,h.1]
theorem KV.repl{g:List (κ×V)}{vs:List (κ×AN)}(r:KV g vs)(k:κ){y:V}{u:AN}(J:RelV y u):
  KV (g.map λkv=>if kv.1=k then(kv.1,y) else kv) (vs.map λkv=>if kv.1=k then(kv.1,u) else kv):=by
 unfold KV at r ⊢;induction r with
 |nil=>exact .nil
 | @cons p q ps qs h t ih=>
  rw[a7,a7];show .cons ?_ ih;let(h1,h2):=h;by_cases e:p.1=k
  .rw[if_pos e,if_pos (h1.symm.trans e)];exact⟨h1,J⟩
  .rw[if_neg e,if_neg (λz=>e (h1.trans z))];exact⟨h1,h2⟩
theorem KV.put{g:List (κ×V)}{vs:List (κ×AN)}(r:KV g vs)(k:κ){y:V}{u:AN}(q:RelV y u):KV (putD g k y) (stored vs k u):=by
 unfold putD stored;rw[r.any k];by_cases e:(vs.any λkv=>decide (kv.1=k))=true
 .rw[if_pos e,if_pos e];exact r.repl k q
 .rw[if_neg e,if_neg e];exact Paired.snoc r ⟨rfl,q⟩
theorem KV.length{g:List (κ×V)}{vs:List (κ×AN)}(r:KV g vs):g⁻¹=vs⁻¹:=ge r
end
def lq{P:AK}{w:World}{k:Key}{u:AN}(r:RelV (kV k) u):(cg P w).is k u=true:=by
 cases k with
 |inl i=>let(t,e):=(show ∃t,u=Value.int i t from r);subst e;exact Rb P w i t
 |inr x=>let(t,e):=(show ∃t,u=Value.str x t from r);subst e;exact Rc P w x t
def Ef{P:AK}{w:World}:∀{ks:List Key}{g:AB},Vals (ks.map kV) g->ItemsAre (cg P w) ks g
 |[],_,r=>by rw[gE]at r;cases r;exact .nil
 |k::ks,_,r=>by
  rw[a7]at r;cases r with
  |cons h t=>exact .cons (lq h) (Ef t)
abbrev KT(H:Hp):List (List Key×V)->List (List Key×AQ×AN)->Prop:=Paired λp q=>p.1=q.1/\H q.2.1=-(.tup (p.1.map kV))/\RelV p.2 q.2.2
def KT.val{H:Hp}{g:List (List Key×V)}{xs:List (List Key×AQ×AN)}(r:KT H g xs)(k:List Key):RelO (cH g k) ((atKey xs k).map (·.2)):=by
 induction r with
 |nil=>exact gc
 | @cons p q ps qs h t ih=>
  let(h1,_,h2):=h;by_cases e:p.1=k
  .have J:q.1=k:=h1.symm.trans e;have b:atKey (q::qs) k=-q.2:=by simp[atKey,List.find?_cons,J]
   rw[qZ e,b];exact h2
  .have J:¬q.1=k:=λz=>e (h1.trans z);have b:atKey (q::qs) k=atKey qs k:=by simp[atKey,List.find?_cons,J]
   rw[q8 e,b];exact ih
def KT.repl{H:Hp}{g:List (List Key×V)}{xs:List (List Key×AQ×AN)}(r:KT H g xs)(k:List Key){y:V}{u:AN}(L:RelV y u):
  KT H (g.map λkv=>if kv.1=k then(kv.1,y) else kv) (xs.map (putAt k u)):=by
 induction r with
 |nil=>exact .nil
 | @cons p q ps qs h t ih=>
  rw[a7,a7];show .cons ?_ ih;let(h1,h2,J):=h;unfold putAt;by_cases e:p.1=k
  .rw[if_pos e,if_pos (h1.symm.trans e)];exact⟨h1,h2,L⟩
  .rw[if_neg e,if_neg (λz=>e (h1.trans z))];exact⟨h1,h2,J⟩
def KT.put{H:Hp}{g:List (List Key×V)}{xs:List (List Key×AQ×AN)}(r:KT H g xs)(k:List Key){b:AQ}{y:V}{u:AN}(J:H b=-(.tup (k.map kV)))(z:RelV y u):
  KT H (putD g k y) (storedH xs k b u):=by
 have e:(g.any λkv=>decide (kv.1=k))=(atKey xs k).isSome:=by rw[rm,(r.val k).isSome_eq,Option.isSome_map]
 unfold putD storedH;rw[e];by_cases q:(atKey xs k).isSome=true
 .rw[if_pos q,if_pos q];exact r.repl k z
 .rw[if_neg q,if_neg q];exact Paired.snoc r ⟨rfl,J,z⟩
def KT.keeps{H H':Hp}{g:List (List Key×V)}{xs:List (List Key×AQ×AN)}(r:KT H g xs)(q:∀b ys,H b=-(.tup ys)->H' b=-(.tup ys)):KT H' g xs:=
 Paired.mapP r λy y z=>⟨z.1,q _ _ z.2.1,z.2.2⟩
section
variable {P:AK} {w:World} {H:Hp} {h:Heap} {a:AQ}
theorem Eg{u:HO}(ok:HOk P w H h)(e:Rd H a u):ObjOk P w H h a u:=e.ok ok
theorem lr{g:List (Key×V)}(ok:HOk P w H h)(e:Rd H a (.dK g)):g⁻¹<=sizeLine/\(a==sysModules)=false/\∃vs,KV g vs/\h.DictOf (cg P w) a vs:=
 show ObjOk P w H h a (.dK g) from Eg ok e
theorem Wv{g:List (Key×V)}(ok:HOk P w H h)(e:H a=-(.dK g)):g⁻¹<=sizeLine/\(a==sysModules)=false/\∃vs,KV g vs/\h.DictOf (cg P w) a vs:=lr ok (.inl e)
theorem iC{ks:List Key}(ok:HOk P w H h)(e:H a=-(.tup (ks.map kV))):(tupleKind (cg P w)).is h ks a:=by let(_,g,r,o,h1,h2,n,q):=(show ObjOk P w H h a (.tup (ks.map kV)) from ok a _ e);exact⟨o,g.toArray,n,h1,h2.1,q,by simpa using Ef r⟩
theorem lu{g:List (List Key×V)}(ok:HOk P w H h)(e:Rd H a (.dT g)):g⁻¹<=sizeLine/\(a==sysModules)=false/\
  ∃xs,KT H g xs/\h.DictOfH (tupleKind (cg P w)) a xs:=by
 let(z,y,xs,r,o,es,ep,h1,h2,L,M,N):=(show ObjOk P w H h a (.dT g) from Eg ok e);show⟨z,y,xs,r,o,es,ep,h1,h2,L,M,λx J=>?_,N⟩;have all:∀{l:List (List Key×V)}{m:List (List Key×AQ×AN)},KT H l m->∀x∈m,(tupleKind (cg P w)).is h x.1 x.2.1:=by
  intro l m q;induction q with
  |nil=>intro x J;exact nomatch J
  | @cons p q ps qs hq t ih=>
   intro x J;rcases br.mp J with e|J
   .subst e;exact iC ok (by rw[<-hq.1];exact hq.2.1)
   .exact ih x J
 exact all r x J
theorem lw{g:List (List Key×V)}(ok:HOk P w H h)(e:H a=-(.dT g)):g⁻¹<=sizeLine/\(a==sysModules)=false/\
  ∃xs,KT H g xs/\h.DictOfH (tupleKind (cg P w)) a xs:=lu ok (.inl e)
end
def DGet(H:Hp)(a:AQ)(y:V)(r:Option V):Prop:=
 (∃g k,Rd H a (.dK g)/\y=kV k/\r=cH g k)\/∃g k b,Rd H a (.dT g)/\y=.ref b/\H b=-(.tup (k.map kV))/\r=cH g k
def DPut(H:Hp)(a:AQ)(y v:V)(H':Hp):Prop:=
 (∃g k,H a=-(.dK g)/\y=kV k/\g⁻¹<sizeLine/\H'=upd H a (.dK (putD g k v)))\/
 ∃g k b,H a=-(.dT g)/\y=.ref b/\H b=-(.tup (k.map kV))/\g⁻¹<sizeLine/\H'=upd H a (.dT (putD g k v))
def DGet.t{H:Hp}{a b:AQ}{g:List (List Key×V)}{k:List Key}(e:H a=-(.dT g))(q:H b=-(.tup (k.map kV))):DGet H a (.ref b) (cH g k):=.inr ⟨g,k,b,.inl e,rfl,q,rfl⟩
def DPut.t{H:Hp}{a b:AQ}{g:List (List Key×V)}{k:List Key}{v:V}(e:H a=-(.dT g))(q:H b=-(.tup (k.map kV)))(hl:g⁻¹<sizeLine):
  DPut H a (.ref b) v (upd H a (.dT (putD g k v))):=.inr ⟨g,k,b,e,rfl,q,hl,rfl⟩
section
variable {X:Cx} {p9:AC} {σ:St} {H:Hp} {s:AI} {a:AQ} {y v:V} {u r:AN} {o:Option V} {A:AM} {E:AG}
theorem Inv.big(I:Inv X p9 σ H s):sysModules<(~~~s):=by have h:mainGlobals<(~~~s):=(I.mod.glob.keeps I.bk).lt;exact Nat.lt_trans (!1) h
theorem Ww{Q:AG}(hu:A.units+1<cLine)(I:Inv X p9 σ H s)(g:DGet H a y (-v))(Y:RelV y u)(h:∀L s',Inv X p9 σ H s'->RelV v L->Q L s'):
  wpAny (model X.prog X.w) A (getItem (.ref a) u) Q E s:=by
 rcases g with⟨U,k,e,N,l⟩|⟨U,k,b,e,N,eb,l⟩
 .subst N;let(z,hd,vs,q,M):=lr I.hok e;let(L,hw,J):=RelO.some_of (v:=v) (o:=valueAt vs k) (by rw[l];exact q.val k);exact wpAny_getItem_of (lq Y) M.mapOf hw (h L _ (I.tok _) J)
 .subst N;cases(show u=Value.ref b from Y);let(z,hd,xs,q,M):=lu I.hok e;let(L,hw,J):=RelO.some_of (v:=v) (o:=(atKey xs k).map (·.2)) (by rw[l];exact q.val k);let(p,hp,O):=aE.mp hw;show wpAny_getItem_heap (tupleKind_room_in1 hu) (iC I.hok eb) M hp ?_;rw[O];exact h L _ (I.tok _) J
theorem Wx{Q:AG}(hu:A.units+1<cLine)(I:Inv X p9 σ H s)(g:DGet H a y o)(U:RelV y u)(h:∀s',Inv X p9 σ H s'->Q (.bool o.isSome) s'):
  wpAny (model X.prog X.w) A (compareOp .In u (.ref a)) Q E s:=by
 rcases g with⟨O,k,e,M,l⟩|⟨O,k,b,e,M,Y,l⟩
 .subst M;let(z,N,vs,J,L):=lr I.hok e;show wpAny_in_of (lq U) N L.mapOf ?_;rw[<-(J.val k).isSome_eq,<-l];exact h _ (I.tok _)
 .subst M;cases(show u=Value.ref b from U);let(z,N,xs,J,L):=lu I.hok e;show wpAny_in_heap (tupleKind_room_in1 hu) (iC I.hok Y) N L ?_;have q:=(J.val k).isSome_eq;rw[Option.isSome_map]at q;rw[<-q,<-l];exact h _ (I.tok _)
theorem Wy{Q:AG}(hu:A.units+1<cLine)(I:Inv X p9 σ H s)(g:DGet H a y o)(U:RelV y u)(h:∀s',Inv X p9 σ H s'->Q (.bool (!o.isSome)) s'):
  wpAny (model X.prog X.w) A (compareOp .NotIn u (.ref a)) Q E s:=by
 rcases g with⟨O,k,e,M,l⟩|⟨O,k,b,e,M,Y,l⟩
 .subst M;let(z,N,vs,J,L):=lr I.hok e;show wpAny_notIn_of (lq U) N L.mapOf ?_;rw[<-(J.val k).isSome_eq,<-l];exact h _ (I.tok _)
 .subst M;cases(show u=Value.ref b from U);let(z,N,xs,J,L):=lu I.hok e;show wpAny_notIn_heap (tupleKind_room_in1 hu) (iC I.hok Y) N L ?_;have q:=(J.val k).isSome_eq;rw[Option.isSome_map]at q;rw[<-q,<-l];exact h _ (I.tok _)
theorem vH{h':Heap}{t':Nat}{ob:HO}(I:Inv X p9 σ H s)(J:Mut (H a))(hs:Heap.SameBut a s.heap h')(he:∃q,h'.get? a=-q)(new:ObjOk X.prog X.w (upd H a ob) h' a ob):
  Inv X p9 σ (upd H a ob) {s with heap:=h',toks:=t'}:=
 I.write (x:=a) (e:=a) J (.inl rfl) (λb q g z=>(hs.2 b g).trans z) he new
theorem Wz{P:AK}{w:World}{H':Hp}{h':Heap}{g:List (Key×V)}{vs:List (Key×AN)}(z:g⁻¹<=sizeLine)(L:(a==sysModules)=false)(q:KV g vs)(J:h'.DictOf (cg P w) a vs):
  ObjOk P w H' h' a (.dK g):=⟨z,L,vs,q,J⟩
theorem WD{H':Hp}{Q:Unit->AI->Prop}(hu:A.units+1<cLine)(I:Inv X p9 σ H s)(g:DPut H a y v H')(ry:RelV y u)(rv:RelV v r)(h:∀s',Inv X p9 σ H' s'->Q () s'):
  wpAny (model X.prog X.w) A (setItem (.ref a) u r) Q E s:=by
 rcases g with⟨J,k,e,Y,l,U⟩|⟨J,k,b,e,Y,eb,l,U⟩
 .subst Y U;let(z,hd,vs,L,O):=Wv I.hok e;have hz:vs⁻¹<=sizeLine:=by rw[<-L⁻¹];exact z
  have hl:(putD J k v)⁻¹<=sizeLine:=by have:=length_putD J k v;lia
  show wpAny_setItem_pairs (hsz:=hz) (lq ry) O λh' M hs=>h _ ?_;have he:∃q,h'.get? a=-q:=let⟨q,_,_,N,_⟩:=M;⟨q,N⟩;exact vH I (by rw[e];exact gc) hs he (Wz hl hd (L.put k rv) M)
 .subst Y U;cases(show u=Value.ref b from ry);let(z,hd,xs,L,O):=lw I.hok e;have hz:xs⁻¹<=sizeLine:=by rw[<-ge L];exact z
  have hl:(putD J k v)⁻¹<=sizeLine:=by have:=length_putD J k v;lia
  show wpAny_setItem_heap (hsz:=hz) (tupleKind_room_in1 hu) (iC I.hok eb) O λh' M hs=>h _ ?_;let(q,es,ep,N,h2,h3,h4,_,h5):=M;show vH I (by rw[e];exact gc) hs ⟨q,N⟩ ⟨hl,hd,_,(L.put k eb rv).keeps λc ys ec=>?_,q,es,ep,N,h2,h3,h4,h5⟩;rw[aK (jr ec e (λz=>nomatch z))];exact ec
end
def WF {X:Cx} {p9:AC} {Y:St} {H:Hp} {s:AI} {a:AQ} {y:V} {o:Option V} (I:Inv X p9 Y H s) (g:DGet H a y o):s.TypeIs (.ref a) "dict":=by
 rcases g with⟨z,k,e,_,_⟩|⟨z,k,b,e,_,_,_⟩
 .let(_,_,vs,_,q):=lr I.hok e;exact q.typeIs
 .let(_,_,xs,_,q):=lu I.hok e;exact q.typeIs
def WK {P:AK} {w:World} {H:Hp} (h:Heap) (g:sysModules<h.objs.size):ObjOk P w H (h.push {cls:=.type "dict",data:=.dict #[]}) h.objs.size (.dT []):=
 ⟨ck _,dy.mpr (Ne.symm (bX g)),[],.nil,_,#[],0,aI _ rfl,⟨rfl,rfl,rfl⟩,rfl,rfl,eW⟩
def WL:TE:=λz H Q=>∀p,H p=none->Q (.ref p) (upd H p (.dT []))
section
variable {X:Cx} {pos:Pos}
theorem WM:PE X (.Dict [] [] pos) WL:=λp9 s Y H Q I h=>
 wpAny_Dict_empty ⟨.ref (~~~s),_,I.laid (a:=(~~~s)) (o:=.dT []) (t':=s.toks) (λz z q=>ag _ q) (av _) (WK s.heap I.big),rfl,h _ (I.hok.fresh (av _))⟩
end
def WN(g q:TE):TE:=λY H Q=>g Y H λy H1=>q Y H1 λv H2=>∃(b:AQ)(k:List Key),y=.ref b/\H2 b=-(.tup (k.map kV))/\∀p,H2 p=none->Q (.ref p) (upd H2 p (.dT [(k,v)]))
section
variable {X:Cx}
def lz:Obj:={cls:=.type "dict",data:=.dict #[]}
theorem WP{k v:AO}{pos:Pos}{tk tv:TE}(hu:X.A.units+1<cLine)(hk:PE X k tk)(hv:PE X v tv):PE X (.Dict [-k] [v] pos) (WN tk tv):=by
 intro p9 s Y H Q I q;have fp:∀{H':Hp},H' (~~~s)=none->cX X p9 H' (~~~s):=λhn=>I.fpOk (av _) hn;have I0:Inv X p9 Y H {s with heap:=s.heap.push lz}:=I.kept (t':=s.toks) λt t q=>ag _ q;have L:Inv X (p9++[((~~~s),lz)]) Y H {s with heap:=s.heap.push lz}:=I0.pins_of λx g=>by
  rcases ba.mp g with z|z
  .exact I0.pin x (aw _ z)
  .have e:x=_:=al.mp z;subst e;let(f0,f1,f2,_):=fp (I.hok.fresh (av _));exact⟨aI _ rfl,f0,f1,f2,λv z=>nomatch z⟩
 have sh:=zip_pairTrees [-k] [v] X.env pos rfl rfl;rw[arm_eval_Dict,sh,dictDisplay_pairs _ (by simp[pairTrees]) (by simp[pairTrees])];show ab (fv (ab ?_));unfold subDict;show ab (wpAny_alloc ?_);show ab (cK ?_);rw[if_pos (by simp[pairTrees])];show ab (pairTrees_cons_walk (thn (hk _ _ Y _ _ L q) λu s1 zZ=>?_));let(y,H1,L,ry,q1):=zZ;show thn (hv _ s1 Y H1 _ L q1) λr J zZ=>?_;let(x,H2,M,rx,b,kk,ey,O,q2):=zZ;show pairTrees_nil_walk ?_;subst ey;cases(show u=Value.ref b from ry);let(p1,p2,_):=M.pin ((~~~s),lz) (aw _ (aw _ (al.mpr rfl)));have I3:Inv X p9 Y H2 J:=M.pins_of λx g=>M.pin x (aw _ (dA _ g));have dd:J.heap.DictOfH (tupleKind (cg X.prog X.w)) (~~~s) []:=⟨lz,#[],0,p1,⟨rfl,rfl,rfl⟩,rfl,rfl,(λx g=>nomatch g),List.Pairwise.nil⟩;show cK ?_;rw[fA];show ab (ab ?_);change wpAny _ _ (dictSet (~~~s) (.ref b) r >>= _) _ _ _;show ab (wpAny_dictSet_heap (hsz:=ck _) (show(tupleKind (cg X.prog X.w)).room X.A from Nat.lt_of_le_of_lt (gd _) hu) (iC I3.hok O) dd λh' N hs=>ai ?_);change wpAny _ _ (forIn [] PUnit.unit _) _ _ _;rw[List.forIn_nil];show ai (ai (ai (ai ⟨.ref (~~~s),_,?_,rfl,q2 _ p2⟩)));let(o,es,ep,ho,h2,h3,h4,_,h5):=N;have I4:Inv X p9 Y H2 {J with heap:=h',toks:=J.toks+(tupleKind (cg X.prog X.w)).draws kk}:=I3.turnedL (ch:=[(~~~s)]) (λb U=>by rw[al.mp U];exact fp p2) λb o U e=>(hs.2 b λz=>U (by rw[z];exact al.mpr rfl)).trans e;have hsm:((~~~s)==sysModules)=false:=dy.mpr (fx I.big);show I4.track (fp p2) ⟨by change 1<=sizeLine;decide,hsm,_,.cons ⟨rfl,?_,rx⟩ .nil,o,es,ep,ho,h2,h3,h4,h5⟩;rw[aK (bF O p2)];exact O
end
open Sem (wp)
open PySem.W (KdlSrc kdl_call kdl_hint_dict)
section
variable {prog:AK} {w:World} {A:AM} {E:AG} {s:AI} {d it:AQ} {es:Array DictEntry} {ep i:Nat}
def DE(h:Heap)(d:AQ)(es:Array DictEntry)(ep:Nat):Prop:=∃o,h.get? d=-o/\o.ExactDict/\o.data=.dict es ep
theorem DE.ty (x:DE s.heap d es ep):s.TypeIs (.ref d) "dict":=by let(o,g,hc,q):=x;exact⟨o,g,hc.1⟩
theorem DE.lt{h:Heap}(x:DE h d es ep):d<h.objs.size:=by let(o,g,_):=x;exact ay g
theorem DE.kp{h h':Heap}(x:DE h d es ep)(k:∀o,h.get? d=-o->h'.get? d=-o):DE h' d es ep:=by let(o,g,r):=x;exact⟨o,k o g,r⟩
theorem WQ{Q:AG}(J:(d==sysModules)=false)(x:DE s.heap d es ep)
  (q:Q (.ref (~~~s)) {s with heap:=s.heap.push {cls:=.type "dict_keyiterator",data:=.fields #[.ref d,.int 0 0,.int es.size 0,.int ep 0]}}):wpAny (model prog w) A (pyIter (.ref d)) Q E s:=by
 have ty:=x.ty;let(o,z,hc,g):=x;show wpAny_pyIter_slot ty F.slot_dict_iter (e7 F.slot_dict_iter ty F.entry_dict_iter ?_ (F.args_dict_iter_1 _));unfold Builtin.«dict.__iter__» Builtin.Dict.dictSlotNone;show ab (ab (wpAny_notOrdered_dict ty ?_));change wpAny _ _ (pure (Value.ref d)) _ _ s;show ai ?_;change wpAny _ _ (Builtin.Dict.showsAll d >>= _) _ _ s;unfold Builtin.Dict.showsAll;rw[J];show ab (ai (ab (wpAny_dictEntries z g (ab (wpAny_dictEpoch z g (ab (dn (ai ⟨_,rfl,"dict_keyiterator",_,⟨_,aI _ rfl,rfl⟩,fh.lookup,q⟩))))))))
theorem WR{Q:Option AN->AI->Prop}(J:s.heap.IsKeyIter it d i es.size ep)(x:DE s.heap d es ep)(hi:i<es.size)
  (q:∀h',h'.IsKeyIter it d (i+1) es.size ep->Heap.SameBut it s.heap h'->Q (-es[i].key) {s with heap:=h'}):wpAny (model prog w) A (pyNext (.ref it)) Q E s:=by
 have ty:=J.typeIs;let(o,N,hc,M):=id J;let(O,L,_,z):=x;have hn:¬((i:Int)<0):=by lia
 have own:Builtin.Dict_items.ownsTuple "dict_keyiterator"=false:=by decide
 unfold pyNext;show ab (wpAny_attempt (dk (name:=⇑"__next__") ty fh (e7 fh ty F.entry_dict_keyiterator_next ?_ (F.args_dict_keyiterator_next_1 _))));show ab (ai (ab (ab ?_)));first|show ab (fN ty (ai ?_))|show ab (gy ty (ai ?_))
 show ab (wpAny_fieldsOf N M ?_);simp only[own,Bool.false_eq_true,if_false];change wpAny _ _ (if(Value.ref d==Value.none)=true then _ else _) _ _ s;rw[if_neg (show¬((Value.ref d==Value.none)=true) from bg)];show ab (ai (ab (wpAny_dictEntries L z ?_)));rw[if_neg (!2)];show ab (ai (ab (wpAny_dictEpoch L z ?_)));rw[if_neg (!2)];show ai ?_;simp only[hn,if_false,b3,gi hi];show ab ?_;first|show ab (fN ty (ai ?_))|show ab (gy ty (ai ?_))
 show ab (wpAny_isOneOf_keyiter ty ?_);change wpAny _ _ (setField (.ref it) 1 (rawInt ((i:Int)+1)) >>= _) _ _ s;show ab (wpAny_setField N M (!2) ?_);have g:(s.heap.update it (Obj.mapFields (·.setIfInBounds 1 (rawInt ((i:Int)+1))))).IsKeyIter it d (i+1) es.size ep:=
  ⟨_,Heap.get?_update_self _ N (Obj.isFreed_of_fields (Obj.data_mapFields M _)),(Obj.cls_mapFields ..).trans hc,by rw[Obj.data_mapFields M];simp[rawInt]⟩
 show ab (cK (ab (wpAny_isOneOf_keyiter (s:={s with heap:=s.heap.update it (Obj.mapFields (·.setIfInBounds 1 (rawInt ((i:Int)+1))))}) g.typeIs ?_)));change wpAny _ _ (pure es[i].key) _ _ _;exact ai (ai ⟨_,rfl,ai (q _ g (Heap.SameBut.update ..))⟩)
theorem WT{Q:Option AN->AI->Prop}(hh:A.handled=none)(z:s.heap.IsKeyIter it d es.size es.size ep)(x:DE s.heap d es ep)
  (q:∀h',Heap.ExtBut it s.heap h'->Q none {s with heap:=h'}):wpAny (model prog w) A (pyNext (.ref it)) Q E s:=by
 have ty:=z.typeIs;let(o,M,hc,L):=id z;let(N,J,_,g):=x;have hn:¬((es.size:Int)<0):=by lia
 have own:Builtin.Dict_items.ownsTuple "dict_keyiterator"=false:=by decide
 unfold pyNext;show ab (wpAny_attempt (dk (name:=⇑"__next__") ty fh (e7 fh ty F.entry_dict_keyiterator_next ?_ (F.args_dict_keyiterator_next_1 _))));show ab (ai (ab (ab ?_)));first|show ab (fN ty (ai ?_))|show ab (gy ty (ai ?_))
 show ab (wpAny_fieldsOf M L ?_);simp only[own,Bool.false_eq_true,if_false];change wpAny _ _ (if(Value.ref d==Value.none)=true then _ else _) _ _ s;rw[if_neg (show¬((Value.ref d==Value.none)=true) from bg)];show ab (ai (ab (wpAny_dictEntries J g ?_)));rw[if_neg (!2)];show ab (ai (ab (wpAny_dictEpoch J g ?_)));rw[if_neg (!2)];show ai ?_;simp only[hn,if_false,b3,Array.getElem?_eq_none (av es.size)];show ab ?_;first|show ab (fN ty (ai ?_))|show ab (gy ty (ai ?_))
 change wpAny _ _ (setField (.ref it) 0 .none >>= _) _ _ s;show ab (wpAny_setField M L (!2) ?_);change wpAny _ _ (newExc (.type "StopIteration") [] >>= _) _ _ _;show ab ?_;simp only[newExc,newTuple];show ab (dn ?_ (by size_fits));show ab (m:=firstArgMember _ _) (wpAny_of_eq (a:=Value.none) (by first|rfl | (simp only[firstArgMember];rfl)) ?_);show dn ?_ (by size_fits);simp only[raiseNew];show ab (wpAny_handled ?_);rw[show A.in1.handled=none from hh];show ab (ai (wpAny_throw ?_));show ab (wpAny_isInstance (T:="StopIteration") (b:=true) ⟨_,aI _ rfl,rfl⟩ isSubtype_stop ?_);exact ai (q _ (((Heap.SameBut.update ..).extBut.push _).push _))
theorem WX(hh:A.handled=none)(I d:AQ)(J:d≠I)(es:Array DictEntry)(ep:Nat):
  Walks prog w A I [I,d] [I] es.size (λi v=>∃h:i<es.size,v=es[i].key) (λi h=>h.IsKeyIter I d i es.size ep/\DE h d es ep) where
 sub:=λb g=>by simp at g;simp[g]
 frame:=λy y y st L=>⟨st.1.at λo e=>L I (!2) o e,st.2.kp λo e=>L d (!2) o e⟩
 item:=λi s Q E hi st q=>WR st.1 st.2 hi λh' z hs=>q _ h' s.toks ⟨hi,rfl⟩ ⟨z,st.2.kp λo e=>hs.extBut d o J e⟩ λb o g e=>hs.extBut b o (λh=>g (by simp[h])) e
 done:=λs Q E st q=>WT hh st.1 st.2 λh' he=>q h' s.toks λb o g e=>he b o (λh=>g (by simp[h])) e
 self:=λy y y y st q=>wpAny_pyIter_keyiter st.1 q
theorem WY (lo:(d==sysModules)=false):KdlSrc prog w "dict" d d es.size (λi v=>∃h:i<es.size,v=es[i].key) (λh=>DE h d es ep) where
 type:=λy g=>g.ty
 there:=λy g=>⟨g.lt,g.lt⟩
 keep:=λy y g z=>g.kp λo e=>z d (.inl rfl) o e
 notList:=by decide
 notTuple:=by decide
 hint:=λy y y y g q=>kdl_hint_dict g.ty q
 iter:=λy y hh g=>⟨_,_,(λy y q=>WQ lo g q),WX hh _ d (bX g.lt) es ep,⟨⟨_,aI _ rfl,rfl,rfl⟩,g.kp λo e=>ag _ e⟩⟩
theorem W0(q:(d==sysModules)=false):MeetsIn prog w (Builtin.«dict.__len__» ⟨[.ref d],[]⟩) (λy R s=>∃es ep,DE s.heap d es ep/\R (.ok (.ret (.int es.size s.toks))) {s with toks:=s.toks+1}):=
 .of_wp λA R s zZ=>by
  let(es,ep,(o,z,_,g),h):=zZ;change wpAny _ _ (dictSize d >>= _) _ _ s;unfold dictSize;show ab (ab (wpAny_dictEntries z g (ai ?_)));change wpAny _ _ (Builtin.Dict.pendingCount d >>= _) _ _ s;exact ab (wpAny_pendingCount_other q (wpAny_ret_mkInt (by rw[Nat.add_zero];exact h)))
theorem W2 {Q:AG} (g:(d==sysModules)=false) (x:DE s.heap d es ep) (z:(es.size:Int)<2 ^ 63) (q:Q (.int es.size (s.toks+1)) {s with toks:=s.toks+1+1}):wpAny (model prog w) A (call (.builtin "len") [.ref d]) Q E s:=by show Calls.call_function_entry kind_len plain_len entry_len (args_len1 _) ?_;unfold Builtin.«len»;show ab (m:=oneArg "len" _) (ai ?_);show ab (m:=callSpecial? (.ref d) (⇑"__len__")) (dk (name:=⇑"__len__") x.ty F.slot_dict_len (call_meetsIn F.slot_dict_len x.ty F.entry_dict_len (F.args_dict_len_1 _) (W0 g) ⟨es,ep,x,?_⟩));change wpAny _ _ _ _ _ {s with toks:=s.toks+1};show ab (cK (ai (ab (wpAny_letGo ?_))));change wpAny _ _ (if((es.size:Nat):Int)<0 then _ else _) _ _ _;rw[if_neg (!0)];change wpAny _ _ (if((es.size:Nat):Int)≥2 ^ 63 then _ else _) _ _ _;rw[if_neg (!0)];exact ab (wpAny_mkInt (ai ⟨_,rfl,q⟩))
end
section
variable {X:Cx}
theorem W3:bj X (.builtin "len") (λxs H Q=>∃a g,xs=[V.ref a]/\H a=-(.dT g)/\Q (.int g⁻¹) H):=by
 intro p9 s Y H xs us Q I r h;let(a,g,rfl,N,q):=h;let(u,rfl,ru):=vals1 r;cases ru;let(z,O,ys,J,o,es,ep,U,h2,L,M,_):=lw I.hok N;have hl:es.size=g⁻¹:=by rw[<-cy,M,ae,<-ge J]
 show W2 O ⟨o,U,h2,L⟩ (by rw[fR]at z;lia) ⟨.int g⁻¹,H,(I.tok _).tok _,⟨_,by rw[hl]⟩,q⟩
theorem KT.adrs{H:Hp}{g:List (List Key×V)}{ys:List (List Key×AQ×AN)}(r:KT H g ys):Paired (λ(k:List Key×V) (a:AQ)=>H a=-(.tup (k.1.map kV))) g (ys.map (·.2.1)):=by
 induction r with
 |nil=>exact .nil
 |cons h t q=>exact .cons h.2.1 q
theorem Eh:∀as:List AQ,Vals (as.map V.ref) (as.map Value.ref)
 |[]=>.nil
 |_::as=>.cons rfl (Eh as)
theorem W4 (hc:X.calm=true):bj X (.type "list") (λxs H Q=>∃p g,xs=[V.ref p]/\H p=-(.dT g)/\∀as:List AQ,Paired (λ(k:List Key×V) (a:AQ)=>H a=-(.tup (k.1.map kV))) g as->∀l,H l=none->Q (.ref l) (upd H l (.lst (as.map V.ref)))):=by
 intro p9 s Y H xs us Q I r h;let(p,g,rfl,ha,q):=h;let(u,rfl,ru):=vals1 r;cases ru;let(z,hd,ys,J,o,es,ep,ho,h2,h3,M,_):=lw I.hok ha;have N:es.size=ys⁻¹:=by rw[<-cy,M,ae]
 have hl:ys⁻¹=g⁻¹:=(ge J).symm;show kdl_call (WY (es:=es) (ep:=ep) hd) (I.ok.hd hc) ⟨o,ho,h2,h3⟩ (by rw[N,hl];exact z) λh' tk L c kp e it=>?_;have hv:L=((ys.map (·.2.1)).map Value.ref).toArray:=by
  show Array.ext (by rw[it.1,N];simp) λi h1 h2=>?_;let(hi,U):=it.2 i _ (gi h1);rw[U];have O:es[i]=es.toList[i]'(by rw[cy];exact hi):=by rw[Array.getElem_toList]
  rw[O];simp only[M,List.getElem_map,entryOfKey,List.getElem_toArray]
 show⟨.ref (~~~s),_,I.laid (t':=tk) kp (av _) (show ObjOk X.prog X.w _ h' _ (.lst ((ys.map (·.2.1)).map V.ref)) from⟨by rw[ae,ae,hl];exact z,_,c,Eh _,by rw[e,hv]⟩),rfl,q _ (KT.adrs J) _ (I.hok.fresh (av _))⟩
end
def Ei(X:Cx)(t:TE):TE:=λY H Q=>t Y H λv H1=>∃p,v=.ref p/\SqL X.K H1 p []/\∀D,H1 D=none->Q (.ref D) (upd H1 D (.dT []))
def na{a b c:Nat}(h:a=c)(l:b<c)(e:a=b):False:=by lia
def W5{X:Cx}{kx vx iter:AO}{x:Str}{px:Pos}{ifs:AE}{scope:Scope}{pos:Pos}{t:TE}{p9:AC}{s:AI}{Y:St}{H:Hp}{Q:VK}{RR:AN->AQ->Result->AI->Prop}(hc:X.calm=true)(he:PE X iter t)
  (hcell:scope.names.all (λy=>y.2 != NameKind.cell)=true) (O:scope.kind=.function) (hx:scope.names.lookup x=-.local) (I:Inv X p9 Y H s) (h:Ei X t Y H Q)
  (fin:∀(D C:AQ)(H':Hp)(s4:AI)(m:AH),Inv X p9 Y H' s4->Q (.ref D) H'->s4.heap.Ns C m->cX X p9 H' C->RR (.ref D) C (.ok .next) s4):
  ↥X (eval iter X.env) (λxv s₁=>↥X (pyIter xv) (λit s₂=>↥X newDict (λacc M=>
   ↥X (newFunctionEnv scope X.env.globals (cu X.env scope.names []) [] X.env.qual none .none (-X.env)) (λcenv s₄=>
    codeAny (model X.prog X.w) X.A (.compStart (.DictComp kx vx [⟨.Name x px,iter,ifs,0⟩] scope pos) 0 it acc {cenv with scope:=relabel scope X.env}) (RR acc cenv.locals) s₄) X.xe M) X.xe s₂) X.xe s₁) X.xe s:=by
 have U:∀y∈scope.names,y.2≠NameKind.cell:=λy hy=>by
  have:=bS.mp hcell y hy;simpa using this
 generalize cu X.env scope.names []=cl;show thn (he p9 s Y H _ I h) λxv N h1=>?_;let(v,H1,I1,rv,p,ev,hp,q):=h1;subst ev;cases rv;let(its,r,pl,_):=I1.list hp;cases r;have hl:N.heap.IsList p #[]:=pl.isList;have hlt:p<N.heap.objs.size:=by let(_,e,_):=hl;exact ay e
 show ff hl ?_;show dn (wpAny_newFunctionEnv U (by intro y hy;simp at hy) (λL g J=>?_) O);dsimp only at g J ⊢;generalize hH1:N.heap.push {cls:=.type "list_iterator",data:=.fields #[.ref p,.int 0 0]}=h2 at g J ⊢;generalize hH2:h2.push {cls:=.type "dict",dict:=none,data:=.dict #[]}=HP at g J ⊢;have z1:h2.objs.size=N.heap.objs.size+1:=by rw[<-hH1,cm]
 have z2:HP.objs.size=N.heap.objs.size+2:=by rw[<-hH2,cm,z1]
 have up:∀b o,HP.get? b=-o->L.get? b=-o:=λb o e=>J.extBut b o (bX (ay e)) (ag _ e);have up2:∀b o,h2.get? b=-o->L.get? b=-o:=λb o e=>up b o (hH2 ▸ ag _ e);have old:∀b o,N.heap.get? b=-o->L.get? b=-o:=λb o e=>up2 b o (hH1 ▸ ag _ e);have hacc:L.DictOf (cg X.prog X.w) h2.objs.size []:=(Heap.DictOf.new h2 (knd:=cg X.prog X.w)).at λo e=>up _ _ (hH2 ▸ e);have hit:L.IsListIter N.heap.objs.size p 0:=⟨_,up2 _ _ (hH1 ▸ aI _ rfl),rfl,rfl⟩;have loop:∀M:AI,M={N with heap:=L,toks:=N.toks+([]:List (Str×AN))⁻¹}->
   codeAny (model X.prog X.w) X.A (.compLoop (.DictComp kx vx [⟨.Name x px,iter,ifs,0⟩] scope pos) 0 (.ref N.heap.objs.size) (.ref h2.objs.size) (compEnvC scope cl HP.objs.size X.env))
    (RR (.ref h2.objs.size) HP.objs.size) M:=by
  rintro M rfl;show codeAny_compLoop_walkD (knd:=cg X.prog X.w) (cenv:=compEnvC scope cl HP.objs.size X.env) (hJ (I1.ok.hd hc) N.heap.objs.size p (bX hlt) #[]) (λu=>true) (λu u=>True) (λu u=>True) (lookup_relabel_local hx) (by simp[compEnvC,relabel,O])
   (show h2.objs.size≠HP.objs.size by lia) (λz=>?_) (λz=>?_) ⟨hit,hl.at λo e=>old _ _ e⟩ hacc g (λi v u u z=>by simp at z) (λi v u u z=>by simp at z) (λi v u u z=>by simp at z) (λh' tk m' kvs vs hn ha hlen hP hF hk=>?_) (ck _)
  .rcases br.mp z with e|e
   .exact na z1 (gX _) e
   .exact na z1 (eh hlt) (al.mp e)
  .have z:HP.objs.size∈[N.heap.objs.size,p]:=z;rcases br.mp z with e|e
   .exact na z2 (!0) e
   .exact na z2 (bp hlt (!0)) (al.mp e)
  .have e0:vs=[]:=List.eq_nil_of_length_eq_zero hlen;subst e0;have e1:kvs=[]:=List.eq_nil_of_length_eq_zero (Nat.le_zero.mp hF.length_le);subst e1;let(o,es,ep,g1,g2,g3,_,g4,_):=ha;have e2:es.toList=[]:=List.eq_nil_of_length_eq_zero g4⁻¹;have keep:∀b o,N.heap.get? b=-o->h'.get? b=-o:=λb o e=>by
    have lb:=ay e;exact hk b o (λz=>na z2 (bp lb (!0)) (Eq.symm z)) (λz=>na rfl lb (Eq.symm (al.mp z))) (λz=>na z1 (eh lb) (Eq.symm z)) (old b o e)
   have nd:H1 h2.objs.size=none:=I1.hok.fresh (!0);have hne:HP.objs.size≠h2.objs.size:=by lia
   exact fin _ _ _ {N with heap:=h',toks:=tk} m' (I1.laid (t':=tk) (o:=.dT []) keep (!0) ⟨ck _,dy.mpr (λz=>na z1 (eh I1.big) z),[],.nil,o,es,ep,g1,g2,g3,e2,eW⟩) (q _ nd) hn (I1.fpOk (!0) (by rw[aK hne];exact I1.hok.fresh (!0)))
 exact codeAny_compStart_dict (loop _ rfl) ((hJ (I1.ok.hd hc) N.heap.objs.size p (bX hlt) #[]).self 0 _ _ _ ⟨hit,hl.at λo e=>old _ _ e⟩ (loop _ rfl))
def ako{X:Cx}{kx vx iter:AO}{x:Str}{px:Pos}{U:AE}{scope:Scope}{pos py N:Pos}{t:TE}{i:Nat}{y:Str}(hN:X.N.Nodup)(hiy:X.N[i]?=-y)(hy:Loc X.env.scope y)(hc:X.calm=true)(he:PE X iter t)
  (O:scope.names.all (λy=>y.2 != NameKind.cell)=true) (M:scope.names.all (λy=>y.2 != NameKind.local||scope.names.lookup y.1==-NameKind.local)=true)
  (hfr:scope.names.all (λy=>y.2 != NameKind.free||(X.env.kindOf y.1==-NameKind.cell||X.env.kindOf y.1==-NameKind.free))=true)
  (g:scope.kind=.function) (hx:scope.names.lookup x=-.local) (hs:∀x,foldedSetIterable iter X.env x=pure x)
  (hsw:swapsWith (.DictComp kx vx [⟨.Name x px,iter,U,0⟩] scope pos) (-(.Name y py)) N.line X.env=pure true)
  (hf:X.fn y=true\/X.env.scope.names.lookup y=-.local):
  PS X (.Assign [.Name y py] (.DictComp kx vx [⟨.Name x px,iter,U,0⟩] scope pos) N) (jw (Ei X t) (ju i)):=by
 intro p9 s Y H D I h;have J:∀y∈scope.names,y.2=NameKind.local->scope.names.lookup y.1=-NameKind.local:=λy hy hl=>by
  have:=bS.mp M y hy;simpa [hl] using this
 have hcs:∀y∈scope.names,y.2=NameKind.free->(X.env.cells.lookup y.1).isSome=true:=λy hy hl=>by
  have:=bS.mp hfr y hy;let(c,e):=I.ok.has y.1 (by simpa [hl] using this);rw[e];rfl
 rw[exec_Assign_Name_used _ _ _ _ hsw];show ab (fv (ab ?_));change wpAny _ X.A (do let _ <-comprehension (.DictComp kx vx [⟨.Name x px,iter,U,0⟩] scope pos) scope X.env _ newDict false (eval iter X.env) (-(assign (.Name y py) X.env))) _ _ s;show ab (df (fw (use:=-(assign (.Name y py) X.env)) (Q:=λr s'=>SP X p9 D .next s') rfl hs (lg hcs) g J
  (W5 (RR:=λacc C=>compPost (model X.prog X.w) X.A X.xe (-(assign (.Name y py) X.env)) (λr s'=>SP X p9 D .next s') acc C) hc he O g hx I h λL C H' s4 m I4 q hn fC=>?_)) (λr s' hq=>ai (ai hq)) λr r e=>e)
 let(oC,es,ep,eC,rC):=id hn;let(f0,f1,f2,f3,f4,f5):=fC;have ncell:∀v,oC.data≠.cell v:=λv z=>by rw[rC.1]at z;cases z
 have I5:Inv X (p9++[(C,oC)]) Y H' s4:=I4.pins_of λp hp=>by
  rcases ba.mp hp with z|z
  .exact I4.pin p (aw _ z)
  .have e:p=_:=al.mp z;subst e;exact⟨eC,f0,f1,f2,ncell⟩
 show g9 (jt I5 hN hiy hy (v:=.ref L) (u:=.ref L) rfl (λs5 I6=>?_) hf);have eC5:s5.heap.get? C=-oC:=(I6.pin (C,oC) (aw _ (aw _ (al.mpr rfl)))).1;have I7:Inv X p9 (Y.set i (-(.ref L))) H' s5:=I6.pins_of λp hp=>I6.pin p (aw _ (dA _ hp));show⟨m,⟨oC,es,ep,eC5,rC⟩,λh'' hs''=>?_⟩;exact⟨_,H',I7.turned (t':=s5.toks) (it:=C) (λb o hb e=>hs''.extBut b o hb e) f0 f1 f3 f4 f5,q⟩
open PySem.W (findIn mroIn clsIn typeIn Looks looks_findIn looks_mroIn looks_typeIn)
section
variable {X:Cx}
theorem W6:bootBuiltins "any"=-(.builtin "any"):=by ac_rfl
theorem any_range(bs:List Bool)(n:Nat)(hn:n=bs⁻¹):((List.range n).any λi=>(bs[i]?).getD true)=bs.any id:=by
 subst hn;rw[d4,gg,gg];constructor
 .rintro ⟨i,hi,h⟩;have g:=e6.mp hi;rw[ar g]at h;exact⟨_,cq g,h⟩
 .rintro ⟨b,q,h⟩;let(i,hi,e):=List.mem_iff_getElem.mp q;exact⟨i,e6.mpr hi,by rw[ar hi,e];exact h⟩
theorem W7 (hc:X.calm=true):bj X (.builtin "any") (λxs H Q=>∃(p:AQ) (bs:List Bool),xs=[.ref p]/\SqL X.K H p (bs.map V.bl)/\Q (.bl (bs.any id)) H):=by
 intro p9 s Y H xs us Q I r h;let(p,bs,rfl,U,q):=h;let(u,rfl,ru):=vals1 r;cases ru;let(g,L,pl,hz):=I.list U;have hl:=pl.isList;have z:p<(~~~s):=by let(_,e,_):=hl;exact ay e
 show call_any_walk (ff hl ?_);show⟨(~~~s),[(~~~s),p],[(~~~s)],g.toArray.size,_,_,λi=>(bs[i]?).getD true,rfl,hJ (A:=X.A.in1) (I.ok.hd hc) _ p (bX z) g.toArray,
  ⟨⟨_,aI _ rfl,rfl,rfl⟩,hl.push _⟩,λi v s' Q' E' M J=>?_,λh' tk N=>?_⟩
 .let(b,e,rfl):=vz L (i:=i) (v:=v) (!!M);simp only[e,Option.getD_some]at J;exact eM J
 .have e:=any_range bs g.toArray.size (by rw[am,<-L⁻¹,ae]);rw[e];exact⟨.bl _,H,I.kept (λb o q=>N b o (λO=>by rw[al.mp O]at q;exact eT _ (ay q)) (ag _ q)),rfl,q⟩
def cI(ks:List (List Key)):List (List Key×V):=ks.foldl (λkv k=>putD kv k (.bl true)) []
theorem Ej:∀(ks:List (List Key))(kv:List (List Key×V)),(ks.foldl (λkv k=>putD kv k (V.bl true)) kv)⁻¹<=kv⁻¹+ks⁻¹
 |[],kv=>av _
 |k::ks,kv=>by
  have h1:=Ej ks (putD kv k (.bl true));have h2:=length_putD kv k (V.bl true);rw[ft,ca];lia
def isT(H:Hp)(v:V)(k:List Key):Prop:=∃b,v=.ref b/\H b=-(.tup (k.map kV))
def vI(X:Cx)(t:TE):TE:=λY H Q=>t Y H λv H1=>∃p vs ks,v=.ref p/\SqL X.K H1 p vs/\Paired (isT H1) vs ks/\ks⁻¹<sizeLine/\∀D,H1 D=none->Q (.ref D) (upd H1 D (.dT (cI ks)))
theorem Paired.at{g q:Type}{F:g->q->Prop}:∀{xs:List g}{ys:List q},Paired F xs ys->∀{i:Nat}{a:g},xs[i]?=-a->∃b,ys[i]?=-b/\F a b
 |_,_,.nil,_,_,e=>by simp at e
 |_,_,.cons r t,0,_,e=>by simp at e;subst e;exact⟨_,rfl,r⟩
 |_,_,.cons r t,i+1,_,e=>Paired.at t (i:=i) (!!e)
theorem vJ:∀{vs:AR}{g:AB},Vals vs g->∀{i:Nat}{u:AN},g[i]?=-u->∃v,vs[i]?=-v/\RelV v u
 |_,_,.nil,_,_,e=>by simp at e
 |_,_,.cons r t,0,_,e=>by simp at e;subst e;exact⟨_,rfl,r⟩
 |_,_,.cons r t,i+1,_,e=>vJ t (i:=i) (!!e)
theorem Ek{iter:AO}{x:Str}{px pk pv:Pos}{j:Nat}{scope:Scope}{pos:Pos}{t:TE}{p9:AC}{s:AI}{Y:St}{H:Hp}{Q:VK}{RR:AN->AQ->Result->AI->Prop}(hc:X.calm=true)(hu:X.A.units+1<cLine)(he:PE X iter t)
  (hcell:scope.names.all (λy=>y.2 != NameKind.cell)=true) (U:scope.kind=.function) (hx:scope.names.lookup x=-.local) (hd:(x==("__debug__":Str))=false) (I:Inv X p9 Y H s) (h:vI X t Y H Q)
  (fin:∀(D C:AQ)(H':Hp)(s4:AI)(m:AH),Inv X p9 Y H' s4->Q (.ref D) H'->s4.heap.Ns C m->cX X p9 H' C->RR (.ref D) C (.ok .next) s4):
  ↥X (eval iter X.env) (λxv s₁=>↥X (pyIter xv) (λit s₂=>↥X newDict (λacc O=>
   ↥X (newFunctionEnv scope X.env.globals (cu X.env scope.names []) [] X.env.qual none .none (-X.env)) (λcenv s₄=>
    codeAny (model X.prog X.w) X.A (.compStart (.DictComp (.Name x pk) (.Constant (.bool true) j pv) [⟨.Name x px,iter,[],0⟩] scope pos) 0 it acc {cenv with scope:=relabel scope X.env}) (RR acc cenv.locals) s₄) X.xe O) X.xe s₂) X.xe s₁) X.xe s:=by
 have hcell':∀y∈scope.names,y.2≠NameKind.cell:=λy hy=>by
  have:=bS.mp hcell y hy;simpa using this
 generalize cu X.env scope.names []=cl;show thn (he p9 s Y H _ I h) λxv N h1=>?_;let(v,H1,I1,rv,p,vs,ks,ev,hp,hpk,hkl,q):=h1;subst ev;cases rv;let(g,r,pl,_):=I1.list hp;have hl:N.heap.IsList p g.toArray:=pl.isList;have hlen:g⁻¹=ks⁻¹:=by rw[<-r⁻¹];exact ge hpk
 have hlt:p<N.heap.objs.size:=by let(_,e,_):=hl;exact ay e
 show ff hl ?_;show dn (wpAny_newFunctionEnv hcell' (by intro y hy;simp at hy) (λM J L=>?_) U);dsimp only at J L ⊢;generalize hH1:N.heap.push {cls:=.type "list_iterator",data:=.fields #[.ref p,.int 0 0]}=h2 at J L ⊢;generalize hH2:h2.push {cls:=.type "dict",dict:=none,data:=.dict #[]}=HP at J L ⊢;have z1:h2.objs.size=N.heap.objs.size+1:=by rw[<-hH1,cm]
 have z2:HP.objs.size=N.heap.objs.size+2:=by rw[<-hH2,cm,z1]
 have up:∀b o,HP.get? b=-o->M.get? b=-o:=λb o e=>L.extBut b o (bX (ay e)) (ag _ e);have up2:∀b o,h2.get? b=-o->M.get? b=-o:=λb o e=>up b o (hH2 ▸ ag _ e);have old:∀b o,N.heap.get? b=-o->M.get? b=-o:=λb o e=>up2 b o (hH1 ▸ ag _ e);have hit:M.IsListIter N.heap.objs.size p 0:=⟨_,up2 _ _ (hH1 ▸ aI _ rfl),rfl,rfl⟩;have nd:H1 h2.objs.size=none:=I1.hok.fresh (!0);have hneC:HP.objs.size≠h2.objs.size:=by lia
 have hneI:N.heap.objs.size≠h2.objs.size:=by lia
 have hneIC:N.heap.objs.size≠HP.objs.size:=by lia
 have fC:∀kv,cX X p9 (upd H1 h2.objs.size (.dT kv)) HP.objs.size:=λkv=>I1.fpOk (!0) (by rw[aK hneC];exact I1.hok.fresh (!0));have fI:∀kv,cX X p9 (upd H1 h2.objs.size (.dT kv)) N.heap.objs.size:=λkv=>I1.fpOk (av _) (by rw[aK hneI];exact I1.hok.fresh (av _));have hdict:M.get? h2.objs.size=-{cls:=.type "dict",dict:=none,data:=.dict #[]}:=up _ _ (hH2 ▸ aI _ rfl);have hsm:(h2.objs.size==sysModules)=false:=dy.mpr (λz=>na z1 (eh I1.big) z);have tupk:∀{kv:List (List Key×V)}{b:AQ}{k:List Key},H1 b=-(.tup (k.map kV))->upd H1 h2.objs.size (.dT kv) b=-(.tup (k.map kV)):=λe=>by rw[aK (bF e nd)];exact e
 have loop:∀O:AI,O={N with heap:=M,toks:=N.toks+([]:List (Str×AN))⁻¹}->
   codeAny (model X.prog X.w) X.A (.compLoop (.DictComp (.Name x pk) (.Constant (.bool true) j pv) [⟨.Name x px,iter,[],0⟩] scope pos) 0 (.ref N.heap.objs.size) (.ref h2.objs.size) (compEnvC scope cl HP.objs.size X.env))
    (RR (.ref h2.objs.size) HP.objs.size) O:=by
  rintro O rfl;have W:=hJ (prog:=X.prog) (w:=X.w) (I1.ok.hd hc) N.heap.objs.size p (bX hlt) g.toArray;show codeAny_compLoop_testsD (λn s'=>∃i m,n=g⁻¹-i/\i<=g⁻¹/\Inv X p9 Y (upd H1 h2.objs.size (.dT (cI (ks.take i)))) s'/\(s'.heap.IsListIter N.heap.objs.size p i/\s'.heap.IsList p g.toArray)/\s'.heap.Ns HP.objs.size m) ?_ g⁻¹
   ⟨0,_,rfl,ck _,I1.laid (t':=N.toks+([]:List (Str×AN))⁻¹) (o:=.dT []) old (!0) ⟨ck _,hsm,[],.nil,_,#[],_,hdict,⟨rfl,rfl,rfl⟩,rfl,rfl,eW⟩,⟨hit,hl.at λo e=>old _ _ e⟩,J⟩
  rintro n s' ⟨i,m,rfl,hi,I',⟨st1,st2⟩,hns⟩;by_cases hlt':i<g⁻¹
  .show W.item i s' _ _ (!!hlt') ⟨st1,st2⟩ λv h' tk hP st' hk'=>?_;have I2:Inv X p9 Y (upd H1 h2.objs.size (.dT (cI (ks.take i)))) {s' with heap:=h',toks:=tk}:=by
    let(f0,f1,f2,f3,f4,f5):=fI (cI (ks.take i));exact I'.turned (t':=tk) (it:=N.heap.objs.size) (λb o hb e=>hk' b o (!!hb) e) f0 f1 f3 f4 f5
   have hns2:h'.Ns HP.objs.size m:=hns.at' λo e=>hk' _ o (λz=>hneIC (al.mp z).symm) e;show g9 (wpAny_storeName_local (env:=compEnvC scope cl HP.objs.size X.env) (lookup_relabel_local hx) hns2 (λh3 hn3 hs3=>?_) (by simp[compEnvC,relabel,U]));have I3:Inv X p9 Y (upd H1 h2.objs.size (.dT (cI (ks.take i)))) {s' with heap:=h3,toks:=tk+1}:=by let(f0,f1,f2,f3,f4,f5):=fC (cI (ks.take i));exact Inv.turned (s:={s' with heap:=h',toks:=tk}) (h':=h3) (t':=tk+1) (it:=HP.objs.size) I2 (λb o hb e=>hs3.extBut b o hb e) f0 f1 f3 f4 f5
   show ai ?_;rw[if_pos rfl];show wpAny_Name (wpAny_loadName_local (env:=compEnvC scope cl HP.objs.size X.env) U (lookup_relabel_local hx) hn3 (if_pos rfl) ?_) hd;show Constant_bool ?_;obtain⟨u,k,ek,e1,b,e2,eb⟩:∃u k,ks[i]?=-k/\RelV u v/\isT H1 u k:=by
    have hv:g[i]?=-v:=by simpa using hP
    let(u,eu,ru):=vJ r hv;let(k,ek,hk):=Paired.at hpk eu;exact⟨u,k,ek,ru,hk⟩
   subst e2;cases(show v=Value.ref b from e1);have eb3:=tupk (kv:=cI (ks.take i)) eb;let(z,hsm',xs,rel,dd):=lw I3.hok cW;have hz:xs⁻¹<=sizeLine:=by rw[<-ge rel];exact z
   have hkt:ks.take (i+1)=ks.take i++[k]:=by rw[d0,ek];rfl
   have htr:cI (ks.take (i+1))=putD (cI (ks.take i)) k (.bl true):=by unfold cI;rw[hkt,List.foldl_append];rfl
   have hl4:(putD (cI (ks.take i)) k (.bl true))⁻¹<=sizeLine:=by rw[<-htr];have:=Ej (ks.take (i+1)) [];have h5:=List.length_take_le (i+1) ks;have h6:=List.length_take_le' (i+1) ks;unfold cI;simp only[gx]at this;lia
   show wpAny_dictSet_heap (hsz:=hz) (Nat.lt_of_succ_lt hu) (iC I3.hok eb3) dd λh4 dd4 hs4=>⟨g⁻¹-(i+1),!0,i+1,_,rfl,hlt',?_,⟨st'.1.at λo e=>?_,st'.2.at λo e=>?_⟩,hn3.at' λo e=>?_⟩
   .let(o4,es,ep,hq,g2,g3,g4,_,g5):=dd4;rw[htr];have I4:=vH (t':=tk+1+(tupleKind (cg X.prog X.w)).draws k) (ob:=.dT (putD (cI (ks.take i)) k (.bl true))) I3 (by rw[cW];exact gc) hs4 ⟨o4,hq⟩ ⟨hl4,hsm,_,(rel.put k eb3 (show RelV (.bl true) (.bool true) from rfl)).keeps λc ys ec=>?_,o4,es,ep,hq,g2,g3,g4,g5⟩
    .rw[Rf]at I4;exact I4
    .rw[aK (jr ec cW (λz=>nomatch z))];exact ec
   .exact (hs4.2 _ hneI).trans (hs3.extBut _ _ hneIC e)
   .have hpD:p≠h2.objs.size:=λz=>na z1 (eh hlt) z.symm;have hpC:p≠HP.objs.size:=λz=>na z2 (bp hlt (!0)) z.symm;exact(hs4.2 _ hpD).trans (hs3.extBut _ _ hpC e)
   .exact (hs4.2 _ hneC).trans e
  .have ei:i=g⁻¹:=by lia
   subst ei;show W.done s' _ _ (by simpa using ⟨st1,st2⟩) λh' tk hk'=>?_;have et:ks.take g⁻¹=ks:=by rw[hlen];exact dQ
   rw[et]at I';have I2:Inv X p9 Y (upd H1 h2.objs.size (.dT (cI ks))) {s' with heap:=h',toks:=tk}:=by let(f0,f1,f2,f3,f4,f5):=fI (cI ks);exact I'.turned (t':=tk) (it:=N.heap.objs.size) (λb o hb e=>hk' b o (!!hb) e) f0 f1 f3 f4 f5
   exact fin _ _ _ _ m I2 (q _ nd) (hns.at' λo e=>hk' _ o (λz=>hneIC (al.mp z).symm) e) (fC _)
 exact codeAny_compStart_dict (loop _ rfl) ((hJ (I1.ok.hd hc) N.heap.objs.size p (bX hlt) g.toArray).self 0 _ _ _ ⟨hit,hl.at λo e=>old _ _ e⟩ (loop _ rfl))
end
def W8{X:Cx}{iter:AO}{x:Str}{px pk pv:Pos}{j:Nat}{scope:Scope}{pos:Pos}{t:TE}(hc:X.calm=true)(hu:X.A.units+1<cLine)(he:PE X iter t)
  (M:scope.names.all (λy=>y.2 != NameKind.cell)=true) (J:scope.names.all (λy=>y.2 != NameKind.local||scope.names.lookup y.1==-NameKind.local)=true)
  (U:scope.names.all (λy=>y.2 != NameKind.free||(X.env.kindOf y.1==-NameKind.cell||X.env.kindOf y.1==-NameKind.free))=true)
  (g:scope.kind=.function) (hx:scope.names.lookup x=-.local) (hd:(x==("__debug__":Str))=false) (hs:∀x,foldedSetIterable iter X.env x=pure x):PE X (.DictComp (.Name x pk) (.Constant (.bool true) j pv) [⟨.Name x px,iter,[],0⟩] scope pos) (vI X t):=by
 intro p9 s Y H Q I h;have z:∀y∈scope.names,y.2=NameKind.local->scope.names.lookup y.1=-NameKind.local:=λy hy hl=>by
  have:=bS.mp J y hy;simpa [hl] using this
 have O:∀y∈scope.names,y.2=NameKind.free->(X.env.cells.lookup y.1).isSome=true:=λy hy hl=>by
  have:=bS.mp U y hy;let(c,e):=I.ok.has y.1 (by simpa [hl] using this);rw[e];rfl
 rw[arm_eval_DictComp];show fw (use:=none) (Q:=EP X p9 Y Q) rfl hs (lg O) g z
  (Ek (RR:=λN C=>compPost (model X.prog X.w) X.A X.xe none (EP X p9 Y Q) N C) hc hu he M g hx hd I h λL C H' s4 m I4 q hn fC=>?_)
 let(f0,f1,f2,f3,f4,f5):=fC;exact⟨m,hn,λh' hs'=>⟨.ref L,H',I4.turned (t':=s4.toks) (it:=C) (λb o hb e=>hs'.extBut b o hb e) f0 f1 f3 f4 f5,rfl,q⟩⟩
def W9{X:Cx}{iter:AO}{x:Str}{px pk pv:Pos}{j:Nat}{scope:Scope}{pos py N:Pos}{t:TE}{i:Nat}{y:Str}(hN:X.N.Nodup)(hiy:X.N[i]?=-y)(hy:Loc X.env.scope y)(hc:X.calm=true)(hu:X.A.units+1<cLine)(he:PE X iter t)
  (O:scope.names.all (λy=>y.2 != NameKind.cell)=true) (M:scope.names.all (λy=>y.2 != NameKind.local||scope.names.lookup y.1==-NameKind.local)=true)
  (hfr:scope.names.all (λy=>y.2 != NameKind.free||(X.env.kindOf y.1==-NameKind.cell||X.env.kindOf y.1==-NameKind.free))=true)
  (g:scope.kind=.function) (hx:scope.names.lookup x=-.local) (hd:(x==("__debug__":Str))=false) (hs:∀x,foldedSetIterable iter X.env x=pure x)
  (hsw:swapsWith (.DictComp (.Name x pk) (.Constant (.bool true) j pv) [⟨.Name x px,iter,[],0⟩] scope pos) (-(.Name y py)) N.line X.env=pure true)
  (hf:X.fn y=true\/X.env.scope.names.lookup y=-.local):
  PS X (.Assign [.Name y py] (.DictComp (.Name x pk) (.Constant (.bool true) j pv) [⟨.Name x px,iter,[],0⟩] scope pos) N) (jw (vI X t) (ju i)):=by
 intro p9 s Y H D I h;have J:∀y∈scope.names,y.2=NameKind.local->scope.names.lookup y.1=-NameKind.local:=λy hy hl=>by
  have:=bS.mp M y hy;simpa [hl] using this
 have hcs:∀y∈scope.names,y.2=NameKind.free->(X.env.cells.lookup y.1).isSome=true:=λy hy hl=>by
  have:=bS.mp hfr y hy;let(c,e):=I.ok.has y.1 (by simpa [hl] using this);rw[e];rfl
 rw[exec_Assign_Name_used _ _ _ _ hsw];show ab (fv (ab ?_));change wpAny _ X.A (do let _ <-comprehension (.DictComp (.Name x pk) (.Constant (.bool true) j pv) [⟨.Name x px,iter,[],0⟩] scope pos) scope X.env _ newDict false (eval iter X.env) (-(assign (.Name y py) X.env))) _ _ s;show ab (df (fw (use:=-(assign (.Name y py) X.env)) (Q:=λr s'=>SP X p9 D .next s') rfl hs (lg hcs) g J
  (Ek (RR:=λacc C=>compPost (model X.prog X.w) X.A X.xe (-(assign (.Name y py) X.env)) (λr s'=>SP X p9 D .next s') acc C) hc hu he O g hx hd I h λL C H' s4 m I4 q hn fC=>?_)) (λr s' hq=>ai (ai hq)) λr r e=>e)
 let(oC,es,ep,eC,rC):=id hn;let(f0,f1,f2,f3,f4,f5):=fC;have U:∀v,oC.data≠.cell v:=λv z=>by rw[rC.1]at z;cases z
 have I5:Inv X (p9++[(C,oC)]) Y H' s4:=I4.pins_of λp hp=>by
  rcases ba.mp hp with z|z
  .exact I4.pin p (aw _ z)
  .have e:p=_:=al.mp z;subst e;exact⟨eC,f0,f1,f2,U⟩
 show g9 (jt I5 hN hiy hy (v:=.ref L) (u:=.ref L) rfl (λs5 I6=>?_) hf);have eC5:s5.heap.get? C=-oC:=(I6.pin (C,oC) (aw _ (aw _ (al.mpr rfl)))).1;have I7:Inv X p9 (Y.set i (-(.ref L))) H' s5:=I6.pins_of λp hp=>I6.pin p (aw _ (dA _ hp));show⟨m,⟨oC,es,ep,eC5,rC⟩,λh'' hs''=>?_⟩;exact⟨_,H',I7.turned (t':=s5.toks) (it:=C) (λb o hb e=>hs''.extBut b o hb e) f0 f1 f3 f4 f5,q⟩
open PySem.SeqAt
def lA(g:Array AN)(x:AN)(i:Nat)(_:Option Fin×Unit):Sem (ForInStep (Option Fin×Unit)):=match g[i]? with
 |some y=>do
  let b <-eqBool y x
  if b=true then do
   let f <-retInt (i:Int)
   pure (ForInStep.done (-f,()))
  else pure (ForInStep.yield (none,()))
 |_=>pure (ForInStep.yield (none,()))
def El{prog:AK}{w:World}{A:AM}{Q:Option Fin×Unit->AI->Prop}{E:AG}{s:AI}(g:Array AN)(x:AN)(e:AN->Bool)(j:Nat)(L:j<g.size)(he:∀y,y∈g->EqAt A s y x (e y))(J:e g[j]=true)(h:Q (-(.done (.ret (.int j s.toks))),()) {s with toks:=s.toks+1}):
  ∀(k i r:Nat),j=i+k->(∀m (M:m<g.size),i<=m->m<j->e g[m]=false)->
  wpAny (model prog w) A (forIn (List.range' i (k+1+r) 1) ((none,()):Option Fin×Unit) (lA g x)) Q E s
 |0,i,r,q,hno=>by
  have q:j=i:=q;subst q;rw[Nat.zero_add,Nat.add_comm,List.range'_succ,fA];have hi:g[j]?=-g[j]:=gi L;unfold lA;simp only[hi];show ab (ab (he _ (Array.getElem_mem L) prog w _ _ ?_));rw[J,if_pos rfl];wp_walk
  exact h
 |k+1,i,r,q,hno=>by
  have z:i<g.size:=by lia
  rw[show k+1+1+r=(k+1+r)+1 by lia,List.range'_succ,fA];have hi:g[i]?=-g[i]:=gi z;have N:lA g x i (none,())=(do
   let b <-eqBool g[i] x
   if b=true then do
    let f <-retInt (i:Int)
    pure (ForInStep.done (-f,()))
   else pure (ForInStep.yield (none,()))):=by unfold lA;simp only[hi]
  rw[N];show ab (ab (he _ (Array.getElem_mem z) prog w _ _ ?_));rw[hno i z (av _) (!0),if_neg bg];show ai ?_;exact El g x e j L he J h k (i+1) r (!0) λm M h1 h2=>hno m M (!0) h2
def Xa(l:AQ)(q:Array AN)(n:Nat)(M:Option AQ)(U:Array (Option AN))(x:AN)(e:AN->Bool)(j:Nat)(O:j<q.size)
  (z:e q[j]=true) (J:∀m (L:m<q.size),m<j->e q[m]=false):
  Meets (Builtin.«tuple.index» ⟨[.ref l,x],[]⟩)
   (λA R s=>s.heap.get? l=-{cls:=.type "tuple",dict:=M,data:=.seq q n,slots:=U}/\(∀y,y∈q->EqAt A.in1 s y x (e y))/\R (.ok (.ret (.int j s.toks))) {s with toks:=s.toks+1}):=by
 intro prog w A R s h;let(Y,g,d,tk,os):=s;let(hl,he,h):=h;unfold Builtin.«tuple.index»;simp only[Std.Legacy.Range.forIn_eq_forIn_range'];wp_walk using wpAny_loadPart' hl
 have N:[:min q.size q.size].size=j+1+(q.size-(j+1)):=by simp[Std.Legacy.Range.size];lia
 change wpAny (model prog w) A.in1 (forIn (List.range' 0 [:min q.size q.size].size 1) ((none,()):Option Fin×Unit) (lA q x)) _ _ _;rw[N];show El q x e j O he z ?_ j 0 _ (!0) λm L v h2=>J m L h2;exact ai h
def vK(i:Int):AN->Bool
 |.int a _=>a==i
 |_=>false
def Xb(K:PF):V->AR->Hp->VK->Prop:=λx vs H Q=>∃(p:AQ)(ns:List Int)(i:Int),x=.ref p/\vs=[.int i]/\SqT K H p (ns.map V.int)/\i∈ns/\Q (.int (ns.idxOf i:Nat)) H
def vL{ns:List Int}{g:AB}(r:Vals (ns.map V.int) g){k:Nat}(h:k<g⁻¹)(h':k<ns⁻¹):∃t,g[k]=.int ns[k] t:=by let(v,q,z):=vJ r (ar h);rw[aS,ar h']at q;cases q;exact z
def Xc {X:Cx}:MtR X "tuple.index" (Xb X.K):=by
 intro p9 s Y H x xs v us Q I rx rs h;let(p,ns,i,rfl,rfl,hq,L,q):=h;cases rx;let(u,rfl,ru):=vals1 rs;let(tk,rfl):=ru;let(g,J,(o,ho,hc,n,O),hz):=I.tuple hq;let(cls,dd,data,sl):=o;simp only at hc O;subst hc O;have hlen:g⁻¹=ns⁻¹:=by rw[<-J⁻¹,ae]
 have U:ns.idxOf i<ns⁻¹:=List.idxOf_lt_length_iff.mpr L;show fS PySem.F.slot_tuple_index ⟨_,ho,rfl⟩ PySem.F.entry_tuple_index (PySem.F.args_tuple_index_2 _ _) (Xa p _ n _ sl (.int i tk) (vK i) (ns.idxOf i) (by rw[am];lia) ?_ ?_) ⟨ho,λy hy=>?_,?_⟩
 .let(t,e):=vL J (k:=ns.idxOf i) (!0) U;change vK i (g[ns.idxOf i]'(!0))=true;rw[e];change(ns[ns.idxOf i]==i)=true;rw[List.getElem_idxOf U];exact beq_self_eq_true i
 .intro m z M;rw[am]at z;let(t,e):=vL J (k:=m) z (!0);change vK i (g[m]'z)=false;rw[e];change(ns[m]==i)=false;have h4:m<ns.findIdx (·==i):=M;simpa using List.not_of_lt_findIdx h4
 .let(m,z,e):=List.mem_iff_getElem.mp (show y∈g by simpa using hy);let(t,N):=vL J z (!0);rw[e]at N;rw[N];exact EqAt.int_int _ _ _ _
 .exact ⟨.int _,H,I.tok _,⟨_,rfl⟩,q⟩
def Xd(r:V->AR->Hp->VK->Prop)(to:TE)(t:TA):TE:=λY H Q=>to Y H λx H1=>(∃p xs,x=.ref p/\H1 p=-(.tup xs))/\t Y H1 λvs H2=>r x vs H2 Q
def Xe {X:Cx} {o e:AO} {es:AE} {to:TE} {t:TA} {name:Str} {apos cpos:Pos} {id:AL} {r:V->AR->Hp->VK->Prop} (pa:PlainAttrs "tuple") (slot:Slot "tuple" name id) (L:typeOf (.builtin id)=pure (.type "method_descriptor")) (hm:MtR X id r) (ho:PE X o to) (ha:PA X (e::es) t)
  (q:attributeBase o name X.env (eval o X.env)=eval o X.env)
  (J:((backTo cpos (starEach (e::es) X.env)).all (λx=>!x.1)&&(backToKw cpos (keywordEach [] X.env)).all (λx=>x.1.isSome)
  &&decide ((e::es)⁻¹+([]:List Keyword)⁻¹+(if([]:List Keyword).isEmpty then 0 else 1)<30))=true)
  (z:(apos.endLine==cpos.line)=true) (hs:starEach (e::es) X.env=(false,eval e X.env)::starEach es X.env) (g:(backTo cpos (starEach es X.env)).any (·.1)=false):
  PE X (.Call (.Attribute o name apos) (e::es) [] cpos) (Xd r to t):=by
 intro p9 s Y H Q I h;show wpAny_Call_method_late q J z rfl (thn (ho p9 s Y H _ I h) λv s1 zZ=>?_);let(x,H1,M,r1,(p,xs,ex,hp),q1):=zZ;subst ex;obtain rfl:v=Value.ref p:=r1;let(_,its,rv,ob,N,O,_):=(show ObjOk X.prog X.w H1 s1.heap p (.tup xs) from M.hok p _ hp);show⟨"tuple",id,pa,slot,L,⟨ob,N,O.1⟩,λa ea=>by cases ea;exact⟨ob,N,O.2⟩,?_⟩;have U:=ha cpos p9 s1 Y H1 _ M q1;rw[hs]at U ⊢;show Calls.callWith_builtin (by change(false||(backTo cpos (starEach es X.env)).any (·.1))=false;rw[g]<;>rfl) (Calls.evalArgs_plain ?_);show thn U λus s2 zZ=>?_;let(vs,H2,I2,r2,q2):=zZ;exact hm p9 s2 Y H2 (.ref p) vs _ us Q I2 rfl r2 q2
end L2
namespace PySem.SetTable
def dF(xs:Array Nat):Prop:=∀(i j x y:Nat),xs[i]?=-x->xs[j]?=-y->i<j->x<y
def getD_some{xs:Array Nat}{i d x:Nat}(h:xs[i]?=-x):xs.getD i d=x:=by rw[Array.getD_eq_getD_getElem?,h];rfl
def vM{xs:Array Nat}{j:Nat}(z:dF xs):∀(f lo hi:Nat),hi-lo<=f->lo<=hi->hi<=xs.size->(∀(k x:Nat),k<lo->xs[k]?=-x->x<j)->(∀(k x:Nat),hi<=k->xs[k]?=-x->j<=x)->
  (∀(k x:Nat),k<below.go xs j f lo hi->xs[k]?=-x->x<j)/\(∀(k x:Nat),below.go xs j f lo hi<=k->xs[k]?=-x->j<=x)/\below.go xs j f lo hi<=xs.size
 |0,lo,hi,h1,h2,h3,a,b=>by
  have e:lo=hi:=by lia
  subst e;exact⟨a,b,h3⟩
 |f+1,lo,hi,h1,h2,h3,a,b=>by
  unfold below.go;by_cases hl:lo<hi
  .rw[if_pos hl];dsimp only;have L:(lo+hi)/2<xs.size:=by lia
   have q:xs[(lo+hi)/2]?=-xs[(lo+hi)/2]:=Array.getElem?_eq_getElem L;by_cases hc:xs.getD ((lo+hi)/2) j<j
   .rw[if_pos hc];rw[getD_some q]at hc;show vM z f _ hi (!0) (!0) h3 (λk x J g=>?_) b;by_cases e:k=(lo+hi)/2
    .subst e;rw[q]at g;cases g;exact hc
    .exact Nat.lt_trans (z k _ x _ g q (!0)) hc
   .rw[if_neg hc];rw[getD_some q]at hc;show vM z f lo _ (!0) (!0) (!0) a (λk x J g=>?_);by_cases e:k=(lo+hi)/2
    .subst e;rw[q]at g;cases g;lia
    .have:=z _ k _ x q g (!0);lia
  .rw[if_neg hl];have e:lo=hi:=by lia
   subst e;exact⟨a,b,h3⟩
def lB{xs:Array Nat}(g:dF xs)(j:Nat):(∀(k x:Nat),k<below xs j->xs[k]?=-x->x<j)/\(∀(k x:Nat),below xs j<=k->xs[k]?=-x->j<=x)/\below xs j<=xs.size:=
 vM g _ _ _ (!0) (Nat.zero_le _) (Nat.le_refl _) (λk x h=>by lia) λk x z q=>by
  have:=(Array.getElem?_eq_some_iff.mp q).1;lia
def below_at{xs:Array Nat}(g:dF xs){i j:Nat}(h:xs[i]?=-j):below xs j=i:=by
 let(a,b,c):=lB g j;have hi:=(Array.getElem?_eq_some_iff.mp h).1;by_cases h1:i<below xs j
 .exact absurd (a i j h1 h) (Nat.lt_irrefl _)
 .by_cases h2:below xs j<i
  .have q:below xs j<xs.size:=by lia
   have e:xs[below xs j]?=-xs[below xs j]:=Array.getElem?_eq_getElem q;have:=b _ _ (Nat.le_refl _) e;have:=g _ _ _ _ e h h2;lia
  .omega
def di{q:Type}{xs:Array q}{p:Nat}{x:q}(z:p<=xs.size)(k:Nat):(insertAt xs p x)[k]?=if k<p then xs[k]? else if k=p then some x else xs[k-1]?:=by
 unfold insertAt;have hs:((xs.extract 0 p).push x).size=p+1:=by simp;lia
 by_cases h1:k<p
 .rw[if_pos h1,Array.getElem?_append_left (by rw[hs];lia),Array.getElem?_push,if_neg (by simp;lia)];simp[Array.getElem?_extract];lia
 .rw[if_neg h1];by_cases h2:k=p
  .subst h2;rw[if_pos rfl,Array.getElem?_append_left (by rw[hs];lia),Array.getElem?_push,if_pos (by simp;lia)]
  .rw[if_neg h2,Array.getElem?_append_right (by rw[hs];lia),hs];rw[Array.getElem?_extract];have e:p+(k-(p+1))=k-1:=by lia
   rw[e];by_cases g:k-(p+1)<min xs.size xs.size-p
   .rw[if_pos g]
   .rw[if_neg g];exact(Array.getElem?_eq_none (!0)).symm
def rn{g:Type}{xs:Array g}{p:Nat}{x:g}(q:p<=xs.size):(insertAt xs p x).size=xs.size+1:=by unfold insertAt;simp;lia
def Em{xs:Array Nat}(L:dF xs){j:Nat}(M:∀i:Nat,xs[i]?≠some j):dF (insertAt xs (below xs j) j):=by
 let(a,b,c):=lB L j;have lt:∀(k x:Nat),below xs j<=k->xs[k]?=-x->j<x:=λk x N g=>Nat.lt_of_le_of_ne (b k x N g) λe=>M k (by rw[e];exact g);intro i k x y g q J;rw[di c]at g q;by_cases h1:i<below xs j
 .rw[if_pos h1]at g;by_cases h2:k<below xs j
  .rw[if_pos h2]at q;exact L i k x y g q J
  .rw[if_neg h2]at q;by_cases z:k=below xs j
   .rw[if_pos z]at q;cases q;exact a i x h1 g
   .rw[if_neg z]at q;exact Nat.lt_trans (a i x h1 g) (lt _ y (!0) q)
 .rw[if_neg h1]at g;rw[if_neg (!0),if_neg (!0)]at q;by_cases z:i=below xs j
  .rw[if_pos z]at g;cases g;exact lt _ y (!0) q
  .rw[if_neg z]at g;exact L _ _ x y g q (!0)
def atS{g:Type}(place:Array Nat)(es:Array g)(j:Nat):Option g:=if place[below place j]?=-j then es[below place j]? else none
def gB{q:Type}{place:Array Nat}{es:Array q}(g:dF place){i j:Nat}(h:place[i]?=-j):atS place es j=es[i]?:=by unfold atS;rw[below_at g h,if_pos h]
def Xf{N:Type}{place:Array Nat}{es:Array N}(L:dF place)(hs:place.size=es.size){j:Nat}(O:∀i:Nat,place[i]?≠some j)(x:N)(g:Nat):
  atS (insertAt place (below place j) j) (insertAt es (below place j) x) g=if g=j then some x else atS place es g:=by
 let(a,b,c):=lB L j;have z:=Em L O;have J:below place j<=es.size:=by rw[<-hs];exact c
 by_cases q:g=j
 .subst q;rw[if_pos rfl,gB z (i:=below place g) (by rw[di c,if_neg (!0),if_pos rfl]),di J,if_neg (!0),if_pos rfl]
 .rw[if_neg q];by_cases h:∃i:Nat,place[i]?=-g
  .let(i,hi):=h;rw[gB L hi];by_cases h1:i<below place j
   .rw[gB z (i:=i) (by rw[di c,if_pos h1];exact hi),di J,if_pos h1]
   .rw[gB z (i:=i+1) (by rw[di c,if_neg (!0),if_neg (!0)];exact hi),di J,if_neg (!0),if_neg (!0)];rfl
  .have no:∀i:Nat,place[i]?≠some g:=λi hi=>h ⟨i,hi⟩;have M:∀i:Nat,(insertAt place (below place j) j)[i]?≠some g:=λi hi=>by
    rw[di c]at hi;split at hi
    .exact no _ hi
    .split at hi
     .cases hi;exact q rfl
     .exact no _ hi
   unfold atS;rw[if_neg (no _),if_neg (M _)]
end PySem.SetTable
namespace PySem.SetTable
def nth(t:SetTable):Nat->Probe->Probe
 |0,p=>p
 |n+1,p=>nth t n (t.advance p)
def lC(t:SetTable):∀(n m:Nat)(p:Probe),nth t (n+m) p=nth t m (nth t n p)
 |0,m,p=>by rw[Nat.zero_add];rfl
 |n+1,m,p=>by rw[show n+1+m=(n+m)+1 by lia];exact lC t n m (t.advance p)
def dG(t:SetTable)(i q:Nat)(d:Option Nat):Probe:={j:=i,more:=runEnd t.mask i-i,i:=i,perturb:=q,dummy:=d}
def Xg(mask i:Nat):runEnd mask i-i<=9:=by unfold runEnd;split<;>lia
def Eo(t:SetTable)(i q:Nat)(d:Option Nat):∀k r j,nth t (k+1) ⟨j,k+r,i,q,d⟩=(if r=0 then dG t (leap t.mask i q).1 (leap t.mask i q).2 d else⟨j+(k+1),r-1,i,q,d⟩)
 |0,0,j=>rfl
 |0,r+1,j=>by
  rw[if_neg (!0)];change t.advance ⟨j,0+(r+1),i,q,d⟩=_;unfold advance;rw[if_pos (by change 0+(r+1) > 0;lia)];simp
 |k+1,r,j=>by
  have e:nth t (k+1+1) ⟨j,k+1+r,i,q,d⟩=nth t (k+1) (t.advance ⟨j,k+1+r,i,q,d⟩):=rfl;rw[e];have g:t.advance ⟨j,k+1+r,i,q,d⟩=⟨j+1,k+r,i,q,d⟩:=by unfold advance;rw[if_pos (by change k+1+r > 0;lia)];change Probe.mk (j+1) (k+1+r-1) i q d=_;rw[show k+1+r-1=k+r by lia]
  rw[g,Eo t i q d k r (j+1)];split
  .rfl
  .rw[show j+1+(k+1)=j+(k+1+1) by lia]
def Ep(t:SetTable)(i q:Nat)(d:Option Nat):nth t (runEnd t.mask i-i+1) (dG t i q d)=dG t (leap t.mask i q).1 (leap t.mask i q).2 d:=by have:=Eo t i q d (runEnd t.mask i-i) 0 i;rw[if_pos rfl,Nat.add_zero]at this;exact this
def bs(M:Nat):Nat->Nat->Nat->Nat
 |0,i,_=>i
 |n+1,i,q=>bs M n ((i*5+1+q/32)%(M+1)) (q/32)
def Er(t:SetTable)(d:Option Nat):∀n i q,∃s g,s<=10*n/\nth t s (dG t i q d)=dG t (bs t.mask n i q) g d
 |0,i,q=>⟨0,q,Nat.le_refl _,rfl⟩
 |n+1,i,q=>by
  let(s,g,h1,h2):=Er t d n ((i*5+1+q/32)%(t.mask+1)) (q/32);show⟨runEnd t.mask i-i+1+s,g,by have:=Xg t.mask i;lia,?_⟩;rw[lC,Ep];exact h2
def jz(M:Nat):∀n m i q,bs M (n+m) i q=bs M m (bs M n i q) (q/32 ^ n)
 |0,m,i,q=>by rw[Nat.zero_add,Nat.pow_zero,Nat.div_one];rfl
 |n+1,m,i,q=>by
  rw[show n+1+m=(n+m)+1 by lia];change bs M (n+m) _ _=_;rw[jz M n m,Nat.div_div_eq_div_mul,Nat.pow_succ,Nat.mul_comm 32];rfl
def vN(M:Nat):∀n i q,i<=M->bs M n i q<=M
 |0,_,_,h=>h
 |n+1,i,q,h=>vN M n _ _ (Nat.le_of_lt_succ (Nat.mod_lt _ (Nat.succ_pos _)))
def orb(M:Nat):Nat->Nat->AA
 |0,_=>[]
 |n+1,i=>i::orb M n ((i*5+1)%(M+1))
def Es(M:Nat):∀n i j,j∈orb M n i->∃k,k<n/\bs M k i 0=j
 |0,_,_,h=>nomatch h
 |n+1,i,j,h=>by
  rcases List.mem_cons.mp h with e|h
  .exact ⟨0,Nat.succ_pos _,e.symm⟩
  .let(k,h1,h2):=Es M n _ j h;exact⟨k+1,!0,h2⟩
def rA(M:Nat):Nat->Nat->Nat->Nat
 |0,_,a=>a
 |n+1,i,a=>rA M n ((i*5+1)%(M+1)) (a ||| 2 ^ i)
def Et(M:Nat):∀n i a j,(rA M n i a).testBit j=true->a.testBit j=true\/j∈orb M n i
 |0,_,_,_,h=>.inl h
 |n+1,i,a,j,h=>by
  rcases Et M n _ _ j h with h|h
  .rw[Nat.testBit_or,Bool.or_eq_true]at h;rcases h with h|h
   .exact .inl h
   .rw[Nat.testBit_two_pow,decide_eq_true_eq]at h;exact .inr (List.mem_cons.mpr (.inl h.symm))
  .exact .inr (List.mem_cons.mpr (.inr h))
def full(M:Nat):Bool:=rA M (M+1) 0 0==2 ^ (M+1)-1&&bs M (M+1) 0 0==0
def Xh:full 7=true:=by ac_rfl
def Xi:full 31=true:=by ac_rfl
def Xj:full 127=true:=by ac_rfl
def Xk:full 511=true:=by ac_rfl
def Eu{M:Nat}(h:full M=true){i j:Nat}(hi:i<=M)(J:j<=M):∃n,n<=M/\bs M n i 0=j:=by
 unfold full at h;rw[Bool.and_eq_true,beq_iff_eq,beq_iff_eq]at h;let(h1,h2):=h;have go:∀j,j<=M->∃n,n<=M/\bs M n 0 0=j:=λj J=>by
  have e:(rA M (M+1) 0 0).testBit j=true:=by rw[h1,Nat.testBit_two_pow_sub_one,decide_eq_true_eq];lia
  rcases Et M _ _ _ j e with e|e
  .rw[Nat.zero_testBit]at e;cases e
  .let(k,L,e):=Es M (M+1) 0 j e;exact⟨k,!0,e⟩
 let(p,N,rfl):=go i hi;let(q,O,rfl):=go j J;by_cases c:p<=q
 .have:=jz M p (q-p) 0 0;rw[Nat.zero_div,show p+(q-p)=q by lia]at this;exact⟨q-p,!0,this.symm⟩
 .have g:=jz M p (q+(M+1)-p) 0 0;have z:=jz M (M+1) q 0 0;rw[Nat.zero_div,show p+(q+(M+1)-p)=(M+1)+q by lia]at g;rw[Nat.zero_div,h2]at z;exact⟨q+(M+1)-p,!0,g.symm.trans z⟩
def Ew(h:Int):bits h<2 ^ 64:=by unfold bits;have:=Int.emod_lt_of_pos h (show(0:Int)<2 ^ 64 by decide);have:=Int.emod_nonneg h (show(2 ^ 64:Int)≠0 by decide);lia
def Xl{t:SetTable}(J:full t.mask=true)(h:Int){j:Nat}(z:j<=t.mask):∃n,n<10*turns t.mask/\(nth t n (t.probeStart h)).j=j:=by have hi:bits h%(t.mask+1)<=t.mask:=Nat.le_of_lt_succ (Nat.mod_lt _ (Nat.succ_pos _));have g:t.probeStart h=dG t (bits h%(t.mask+1)) (bits h) none:=rfl;let(n,hn,q):=Eu J (vN t.mask 13 _ (bits h) hi) z;let(s,M,h1,h2):=Er t none (13+n) (bits h%(t.mask+1)) (bits h);have L:bits h/32 ^ 13=0:=Nat.div_eq_of_lt (Nat.lt_trans (Ew h) (!1));rw[jz,L,q]at h2;show⟨s,?_,by rw[g,h2];rfl⟩;unfold turns;lia
end PySem.SetTable
namespace PySem.SetTable
def Ey{t:SetTable}(g:dF t.place){i j:Nat}(h:t.place[i]?=-j):t.slot j=.live i:=by unfold slot;dsimp only;rw[below_at g h,h];simp
def Xm{t:SetTable}(q:t.dummies=#[]){j:Nat}(h:∀i:Nat,t.place[i]?≠some j):t.slot j=.empty:=by
 unfold slot;dsimp only;have e:(t.place[below t.place j]?==-j)=false:=by rw[beq_eq_false_iff_ne];exact h _
 rw[e];have g:has t.dummies j=false:=by rw[q];unfold has;simp
 simp[g]
def Ez(t:SetTable)(p:Probe):(t.advance p).dummy=p.dummy:=by unfold advance;split<;>rfl
def rB{q:Type}{place:Array Nat}{es:Array q}(z:dF place)(hs:place.size=es.size)(j:Nat):(∃(i:Nat)(e:q),place[i]?=-j/\es[i]?=-e/\atS place es j=-e)\/((∀i:Nat,place[i]?≠some j)/\atS place es j=none):=by
 by_cases h:∃i:Nat,place[i]?=-j
 .let(i,hi):=h;have g:i<es.size:=by rw[<-hs];exact(Array.getElem?_eq_some_iff.mp hi).1
  show .inl ⟨i,es[i],hi,Array.getElem?_eq_getElem g,?_⟩;rw[gB z hi,Array.getElem?_eq_getElem g]
 .have no:∀i:Nat,place[i]?≠some j:=λi hi=>h ⟨i,hi⟩;show .inr ⟨no,?_⟩;unfold atS;rw[if_neg (no _)]
def EY{t:SetTable}{es:Array (Int×AN)}{hashAt:Nat->Int}(hh:∀(i:Nat)(e:Int×AN),es[i]?=-e->hashAt i=e.1)(hd:t.dummies=#[])(N:dF t.place)(hs:t.place.size=es.size)(h:Int):∀(m g:Nat)(p:Probe),m<g->p.dummy=none->
  (∀k,k<m->atS t.place es (nth t k p).j≠none)->atS t.place es (nth t m p).j=none->
  (∃(k i:Nat)(y:AN),k<m/\(∀k' y,k'<k->atS t.place es (nth t k' p).j≠some (h,y))/\t.place[i]?=-(nth t k p).j/\es[i]?=-(h,y)/\probe.go t hashAt h g p=-(.candidate (nth t k p).j i (nth t (k+1) p)))\/
  ((∀k y,k<m->atS t.place es (nth t k p).j≠some (h,y))/\probe.go t hashAt h g p=-(.empty (nth t m p).j none))
 |0,0,_,hf,_,_,_=>absurd hf (Nat.lt_irrefl _)
 |0,g+1,p,_,hp,_,he=>by
  show .inr ⟨λk y M=>absurd M (Nat.not_lt_zero _),?_⟩;have no:∀i:Nat,t.place[i]?≠some p.j:=by
   rcases rB N hs p.j with⟨i,e,_,_,q⟩|⟨no,_⟩
   .have U:atS t.place es p.j=none:=he;rw[U]at q;cases q
   .exact no
  unfold probe.go;rw[Xm hd no];dsimp only;rw[hp];rfl
 |m+1,0,_,hf,_,_,_=>absurd hf (Nat.not_lt_zero _)
 |m+1,g+1,p,hf,hp,hl,he=>by
  obtain⟨i,e,h1,h2,q⟩:∃(i:Nat)(e:Int×AN),t.place[i]?=-p.j/\es[i]?=-e/\atS t.place es p.j=-e:=by
   rcases rB N hs p.j with hx|⟨_,hn⟩
   .exact hx
   .exact absurd hn (hl 0 (Nat.succ_pos _))
  unfold probe.go;rw[Ey N h1];dsimp only;rw[hh i e h2];by_cases hc:e.1=h
  .rw[if_pos (!!hc)];show .inl ⟨0,i,e.2,Nat.succ_pos _,λk' y M=>absurd M (Nat.not_lt_zero _),h1,by rw[h2,<-hc],rfl⟩
  .rw[if_neg (!!hc)];rcases EY hh hd N hs h m g (t.advance p) (!0) ((Ez t p).trans hp) (λk M=>hl (k+1) (!0)) he with⟨k,i',y,a1,O,a3,a4,a5⟩|⟨a1,O⟩
   .show .inl ⟨k+1,i',y,!0,λk' J Y=>?_,a3,a4,a5⟩;cases k' with
    |zero=>intro z;have L:atS t.place es p.j=-(h,J):=z;rw[q]at L;cases L;exact hc rfl
    |succ k'=>exact O k' J (!0)
   .show .inr ⟨λk' J Y=>?_,O⟩;cases k' with
    |zero=>intro z;have L:atS t.place es p.j=-(h,J):=z;rw[q]at L;cases L;exact hc rfl
    |succ k'=>exact a1 k' J (!0)
def Xo{t:SetTable}{es:Array (Int×AN)}(hm:full t.mask=true)(hr:dF t.place)(hs:t.place.size=es.size)(Y:∃j,j<=t.mask/\∀i:Nat,t.place[i]?≠some j)(h:Int):
  ∃m,m<10*turns t.mask/\(∀k,k<m->atS t.place es (nth t k (t.probeStart h)).j≠none)/\atS t.place es (nth t m (t.probeStart h)).j=none:=by
 let(j,hj,no):=Y;let(n,hn,O):=Xl hm h hj;have J:atS t.place es (nth t n (t.probeStart h)).j=none:=by rw[O];unfold atS;rw[if_neg (no _)]
 have key:∀b,∀n,n<=b->atS t.place es (nth t n (t.probeStart h)).j=none->∃m,m<=n/\(∀k,k<m->atS t.place es (nth t k (t.probeStart h)).j≠none)/\atS t.place es (nth t m (t.probeStart h)).j=none:=by
  intro b;induction b with
  |zero=>intro n U h0;exact⟨n,Nat.le_refl _,λk g=>by lia,h0⟩
  |succ b ih=>
   intro n U h0;by_cases N:∃k,k<n/\atS t.place es (nth t k (t.probeStart h)).j=none
   .let(k,g,q):=N;let(m,m1,L,M):=ih k (!0) q;exact⟨m,!0,L,M⟩
   .exact ⟨n,Nat.le_refl _,λk g z=>N ⟨k,g,z⟩,h0⟩
 let(m,m1,L,M):=key n n (Nat.le_refl _) J;exact⟨m,!0,L,M⟩
end PySem.SetTable
namespace PySem.SetTable
def Xp{t t':SetTable}(h:t.mask=t'.mask)(p:Probe):t.advance p=t'.advance p:=by unfold advance;rw[h]
def Fb{t t':SetTable}(h:t.mask=t'.mask):∀(n:Nat)(p:Probe),nth t n p=nth t' n p
 |0,_=>rfl
 |n+1,p=>by
  change nth t n (t.advance p)=nth t' n (t'.advance p);rw[Xp h,Fb h n]
def Xq{t t':SetTable}(h:t.mask=t'.mask)(x:Int):t.probeStart x=t'.probeStart x:=by unfold probeStart;rw[h]
def aB(t:SetTable)(h:Int)(n:Nat):Nat:=(nth t n (t.probeStart h)).j
def jA{t t':SetTable}(e:t.mask=t'.mask)(h:Int)(n:Nat):aB t h n=aB t' h n:=by unfold aB;rw[Fb e,Xq e]
structure Tab(t:SetTable)(es:Array (Int×AN)):Prop where
 rise:dF t.place
 size:t.place.size=es.size
 dum:t.dummies=#[]
 msk:full t.mask=true
 lt:∀i j:Nat,t.place[i]?=some j->j<=t.mask
 room:t.place.size<=t.mask
 way:∀(i j:Nat)(h:Int)(v:AN),t.place[i]?=some j->es[i]?=some (h,v)->∃r,aB t h r=j/\∀k,k < r->atS t.place es (aB t h k)≠none
def Fd{xs:Array Nat}(z:dF xs)(M:Nat)(all:∀j,j<=M->∃i:Nat,xs[i]?=-j):∀j,j<=M->∃i:Nat,xs[i]?=-j/\j<=i
 |0,h=>by let(i,hi):=all 0 h;exact⟨i,hi,Nat.zero_le _⟩
 |j+1,h=>by
  let(i,hi,J):=Fd z M all j (!0);let(q,g):=all (j+1) h;show⟨q,g,?_⟩;by_cases hc:i<q
  .omega
  .by_cases he:i=q
   .subst he;rw[hi]at g;cases g
   .have:=z q i _ _ g hi (!0);lia
def Tab.free{t:SetTable}{es:Array (Int×AN)}(T:Tab t es):∃j,j<=t.mask/\∀i:Nat,t.place[i]?≠some j:=by show Classical.byContradiction λhc=>?_;have all:∀j,j<=t.mask->∃i:Nat,t.place[i]?=-j:=λj g=>Classical.byContradiction λhn=>hc ⟨j,g,λi hi=>hn ⟨i,hi⟩⟩;let(i,hi,h):=Fd T.rise t.mask all t.mask (Nat.le_refl _);have:=(Array.getElem?_eq_some_iff.mp hi).1;have:=T.room;lia
def Tab.first{t:SetTable}{es:Array (Int×AN)}(T:Tab t es)(h:Int):∃m,m<10*turns t.mask/\(∀k,k<m->atS t.place es (aB t h k)≠none)/\atS t.place es (aB t h m)=none:=
 Xo T.msk T.rise T.size T.free h
def vO(t:SetTable)(h:Int):∀n,aB t h n<=t.mask:=by
 have key:∀(n:Nat)(p:Probe),p.j+p.more<=t.mask->(nth t n p).j<=t.mask:=by
  intro n;induction n with
  |zero=>intro p g;change p.j<=_;lia
  |succ n q=>
   intro p g;change(nth t n (t.advance p)).j<=_;show q _ ?_;unfold advance;split
   .rename_i z;change p.j+1+(p.more-1)<=_;lia
   .dsimp only[leap];have hl:(p.i*5+1+p.perturb/32)%(t.mask+1)<=t.mask:=Nat.le_of_lt_succ (Nat.mod_lt _ (Nat.succ_pos _));change _+(runEnd t.mask _-_)<=_;unfold runEnd;split<;>lia
 intro n;show key n _ ?_;unfold probeStart;dsimp only;have hl:bits h%(t.mask+1)<=t.mask:=Nat.le_of_lt_succ (Nat.mod_lt _ (Nat.succ_pos _));unfold runEnd;split<;>lia
def Tab.put{t:SetTable}{es:Array (Int×AN)}(T:Tab t es){h:Int}{x:AN}{m:Nat}(h1:∀k,k<m->atS t.place es (aB t h k)≠none)(h2:atS t.place es (aB t h m)=none)(hr:t.place.size+1<=t.mask):
  Tab (t.put (aB t h m)).1 (insertAt es (t.put (aB t h m)).2 (h,x)):=by
 have no:∀i:Nat,t.place[i]?≠some (aB t h m):=by
  rcases rB T.rise T.size (aB t h m) with⟨i,e,_,_,h3⟩|⟨no,_⟩
  .rw[h2]at h3;cases h3
  .exact no
 let(_,_,J):=lB T.rise (aB t h m);have L:below t.place (aB t h m)<=es.size:=by rw[<-T.size];exact J
 have q:(t.put (aB t h m)).1.mask=t.mask:=rfl;have ed:(t.put (aB t h m)).1.dummies=#[]:=by change(if has t.dummies (aB t h m) then _ else t.dummies)=#[];rw[T.dum];simp[has]
 have z:∀j,atS (insertAt t.place (below t.place (aB t h m)) (aB t h m)) (insertAt es (below t.place (aB t h m)) (h,x)) j=if j=aB t h m then some (h,x) else atS t.place es j:=λj=>Xf T.rise T.size no (h,x) j
 show⟨Em T.rise no,?_,ed,by rw[q];exact T.msk,λi j hi=>?_,?_,λi j h' v hi g=>?_⟩
 .change (insertAt t.place (below t.place (aB t h m)) (aB t h m)).size=(insertAt es (below t.place (aB t h m)) (h,x)).size;rw[rn J,rn L,T.size]
 .have hi:(insertAt t.place (below t.place (aB t h m)) (aB t h m))[i]?=-j:=hi;rw[di J]at hi;rw[q];split at hi
  .exact T.lt _ _ hi
  .split at hi
   .cases hi;exact vO t h m
   .exact T.lt _ _ hi
 .change (insertAt t.place _ _).size<=t.mask;rw[rn J];exact hr
 .have hi:(insertAt t.place (below t.place (aB t h m)) (aB t h m))[i]?=-j:=hi;have g:(insertAt es (below t.place (aB t h m)) (h,x))[i]?=-(h',v):=g;change ∃r,aB (t.put (aB t h m)).1 h' r=j/\∀k,k<r->atS (insertAt t.place (below t.place (aB t h m)) (aB t h m)) (insertAt es (below t.place (aB t h m)) (h,x)) (aB (t.put (aB t h m)).1 h' k)≠none;have M:∀(N:Nat),t.place[N]?=-j->es[N]?=-(h',v)->∃r,aB (t.put (aB t h m)).1 h' r=j/\∀k,k<r->atS (insertAt t.place (below t.place (aB t h m)) (aB t h m)) (insertAt es (below t.place (aB t h m)) (h,x)) (aB (t.put (aB t h m)).1 h' k)≠none:=λN a b=>by
   let(r,r1,r2):=T.way N j h' v a b;show⟨r,by rw[jA q];exact r1,λk O=>?_⟩;rw[z,jA q];split
   .simp
   .exact r2 k O
  rw[di J]at hi;rw[di L]at g;by_cases U:i<below t.place (aB t h m)
  .rw[if_pos U]at hi g;exact M i hi g
  .rw[if_neg U]at hi g;by_cases Y:i=below t.place (aB t h m)
   .rw[if_pos Y]at hi g;cases hi;cases g;show⟨m,by rw[jA q],λk O=>?_⟩;rw[z,jA q];split
    .simp
    .exact h1 k O
   .rw[if_neg Y]at hi g;exact M _ hi g
end PySem.SetTable
namespace PySem.SetTable
def rD(t:SetTable)(i q:Nat)(d:Option Nat):∀k r j,k<=r->nth t k ⟨j,r,i,q,d⟩=⟨j+k,r-k,i,q,d⟩
 |0,_,_,_=>rfl
 |k+1,r,j,h=>by
  change nth t k (t.advance ⟨j,r,i,q,d⟩)=_;have g:t.advance ⟨j,r,i,q,d⟩=⟨j+1,r-1,i,q,d⟩:=by unfold advance;rw[if_pos (by change r > 0;lia)]
  rw[g,rD t i q d k (r-1) (j+1) (!0)];rw[show j+1+k=j+(k+1) by lia,show r-1-k=r-(k+1) by lia]
def emp(g:Array (Option Nat))(j:Nat):Prop:=(g.getD j (-0)).isNone=true
def Fe(t:SetTable)(M:Array (Option Nat))(d:Option Nat):∀(L g i q:Nat),L<g->emp M (bs t.mask L i q)->
  ∃m,layClean.free t.mask M g i q=-(nth t m (dG t i q d)).j/\(∀k,k<m->¬emp M (nth t k (dG t i q d)).j)/\emp M (nth t m (dG t i q d)).j
 |L,0,_,_,h,_=>absurd h (Nat.not_lt_zero _)
 |L,g+1,i,q,hf,he=>by
  have hle:i<=runEnd t.mask i:=by unfold runEnd;split<;>lia
  unfold layClean.free;cases O:(List.range (runEnd t.mask i+1-i)).find? λk=>(M.getD (i+k) (-0)).isNone with
  |some k=>
   dsimp only;have hk:k<runEnd t.mask i+1-i:=List.mem_range.mp (List.mem_of_find?_eq_some O);have hn:=rD t i q d k (runEnd t.mask i-i) i (!0);have e:nth t k (dG t i q d)=⟨i+k,runEnd t.mask i-i-k,i,q,d⟩:=hn;show⟨k,by rw[e],λk' hk'=>?_,?_⟩
   .have U:nth t k' (dG t i q d)=⟨i+k',runEnd t.mask i-i-k',i,q,d⟩:=rD t i q d k' (runEnd t.mask i-i) i (!0);rw[U];intro z;let(_,as,bs',N,J):=List.find?_eq_some_iff_append.mp O;have hlen:as⁻¹=k:=by
     have h1:(List.range (runEnd t.mask i+1-i))[as⁻¹]?=-k:=by rw[N];simp
     have h2:=(List.getElem?_eq_some_iff.mp h1);let(h3,h4):=h2;simpa using h4
    have hm:k'∈as:=by
     have h1:(List.range (runEnd t.mask i+1-i))[k']?=-k':=by rw[List.getElem?_range (!0)]
     rw[N,List.getElem?_append_left (!0)]at h1;exact List.mem_of_getElem? h1
    have:=J k' hm;unfold emp at z;rw[z]at this;simp at this
   .rw[e];have:=List.find?_some O;exact this
  |none=>
   dsimp only;have J:=List.find?_eq_none.mp O;cases L with
   |zero=>
    have Y:emp M i:=he;have:=J 0 (List.mem_range.mpr (!0));rw[Nat.add_zero]at this;exact absurd Y this
   |succ L=>
    let(m,m1,m2,m3):=Fe t M d L g ((i*5+1+q/32)%(t.mask+1)) (q/32) (!0) he;have hl:=Ep t i q d;have step:∀k,nth t (runEnd t.mask i-i+1+k) (dG t i q d)=nth t k (dG t ((i*5+1+q/32)%(t.mask+1)) (q/32) d):=λk=>by
     rw[lC,hl];rfl
    show⟨runEnd t.mask i-i+1+m,by rw[step];exact m1,λk hk=>?_,by rw[step];exact m3⟩;by_cases hc:k<runEnd t.mask i-i+1
    .have U:nth t k (dG t i q d)=⟨i+k,runEnd t.mask i-i-k,i,q,d⟩:=rD t i q d k (runEnd t.mask i-i) i (!0);rw[U];exact J k (List.mem_range.mpr (!0))
    .have:=m2 (k-(runEnd t.mask i-i+1)) (!0);rw[<-step,show runEnd t.mask i-i+1+(k-(runEnd t.mask i-i+1))=k by lia]at this;exact this
def Xr{t:SetTable}(L:full t.mask=true){g:Array (Option Nat)}(z:∃j,j<=t.mask/\emp g j)(h:Int):
  ∃m,layClean.free t.mask g (turns t.mask) (bits h%(t.mask+1)) (bits h)=-(aB t h m)/\(∀k,k<m->¬emp g (aB t h k))/\emp g (aB t h m):=by
 let(j,J,he):=z;have hi:bits h%(t.mask+1)<=t.mask:=Nat.le_of_lt_succ (Nat.mod_lt _ (Nat.succ_pos _));let(n,hn,q):=Eu L (vN t.mask 13 _ (bits h) hi) J;have M:bits h/32 ^ 13=0:=Nat.div_eq_of_lt (Nat.lt_trans (Ew h) (!1));show Fe t g none (13+n) (turns t.mask) _ _ (by unfold turns;lia) ?_;rw[jz,M,q];exact he
end PySem.SetTable
namespace PySem.SetTable
def lE{g:Array (Option Nat)}{j:Nat}:emp g j↔g[j]?=-none:=by
 unfold emp;rw[Array.getD_eq_getD_getElem?];cases h:g[j]? with
 |none=>simp
 |some o=>cases o<;>simp
structure Own(t:SetTable)(hs:List Int)(ow:Array (Option Nat)):Prop where
 size:ow.size=t.mask+1
 lt:∀j i:Nat,ow[j]?=some (some i)->i < hs.length
 uni:∀i j j':Nat,ow[j]?=some (some i)->ow[j']?=some (some i)->j=j'
 has:∀(i:Nat)(h:Int),hs[i]?=some h->∃r,ow[aB t h r]?=some (some i)/\∀k,k < r->¬emp ow (aB t h k)
 cnt:ow.toList.countP (·.isNone)+hs.length=t.mask+1
def Own.free{t:SetTable}{hs:List Int}{g:Array (Option Nat)}(O:Own t hs g)(hl:hs⁻¹<=t.mask):∃j,j<=t.mask/\emp g j:=by
 have h1:0<g.toList.countP (·.isNone):=by have:=O.cnt;lia
 let(a,J,hn):=List.countP_pos_iff.mp h1;let(j,L,e):=List.getElem_of_mem J;have q:j<g.size:=by simpa using L
 show⟨j,by have:=O.size;lia,lE.mpr ?_⟩;have z:g[j]=a:=by simpa using e
 rw[Array.getElem?_eq_getElem q,z];cases a with
 |none=>rfl
 |some x=>simp at hn
def Own.step{t:SetTable}{hs:List Int}{q:Array (Option Nat)}(O:Own t hs q){h:Int}{m:Nat}(h1:∀k,k<m->¬emp q (aB t h k))(h2:emp q (aB t h m)):
  Own t (hs++[h]) (q.setIfInBounds (aB t h m) (-hs⁻¹)):=by
 have M:=lE.mp h2;have hb:aB t h m<q.size:=(Array.getElem?_eq_some_iff.mp M).1;have g:∀i,(q.setIfInBounds (aB t h m) (-hs⁻¹))[i]?=if i=aB t h m then some (-hs⁻¹) else q[i]?:=λi=>by
  rw[Array.getElem?_setIfInBounds];by_cases c:aB t h m=i
  .subst c;simp[hb]
  .rw[if_neg c,if_neg (λz=>c z.symm)]
 have mono:∀j,¬emp q j->¬emp (q.setIfInBounds (aB t h m) (-hs⁻¹)) j:=λj hn he=>by
  have he:=lE.mp he;rw[g]at he;split at he
  .cases he
  .exact hn (lE.mpr he)
 show⟨by rw[Array.size_setIfInBounds];exact O.size,λj i L=>?_,λi j j' L J=>?_,λi h' hi=>?_,?_⟩
 .rw[g]at L;rw[List.length_append];split at L
  .cases L;simp
  .have:=O.lt _ _ L;lia
 .rw[g]at L J;split at L<;>split at J
  .rename_i a b;rw[a,b]
  .cases L;exact absurd (O.lt _ _ J) (Nat.lt_irrefl _)
  .cases J;exact absurd (O.lt _ _ L) (Nat.lt_irrefl _)
  .exact O.uni _ _ _ L J
 .by_cases c:i<hs⁻¹
  .rw[List.getElem?_append_left c]at hi;let(r,Y,r2):=O.has i h' hi;show⟨r,?_,λk U=>mono _ (r2 k U)⟩;rw[g,if_neg]
   .exact Y
   .intro z;rw[z,M]at Y;cases Y
  .rw[List.getElem?_append_right (!0)]at hi;have N:i-hs⁻¹=0:=by
    rcases Nat.eq_zero_or_pos (i-hs⁻¹) with z|z
    .exact z
    .rw[List.getElem?_eq_none (by simp;lia)]at hi;cases hi
   rw[N]at hi;have e:h=h':=by simpa using hi
   subst e;show⟨m,?_,λk U=>mono _ (h1 k U)⟩;rw[g,if_pos rfl,show i=hs⁻¹ by lia]
 .have hl:aB t h m<q.toList⁻¹:=by simpa using hb
  rw[Array.toList_setIfInBounds,List.countP_set hl,List.length_append];have e:q.toList[aB t h m]=none:=by have:=Array.getElem?_eq_some_iff.mp M;let(_,e):=this;simpa using e
  have hp:0<q.toList.countP (·.isNone):=List.countP_pos_iff.mpr ⟨none,by rw[<-e];exact List.getElem_mem _,rfl⟩;have:=O.cnt;rw[e];simp only[Option.isNone_none,Option.isNone_some,if_true,List.length_cons,List.length_nil,Bool.false_eq_true,if_false];lia
def lF(mask:Nat)(g:Option (Array (Option Nat)×Nat))(h:Int):Option (Array (Option Nat)×Nat):=do
 let(owner,k) <-g
 let j <-layClean.free mask owner (turns mask) (bits h%(mask+1)) (bits h)
 pure (owner.setIfInBounds j (-k),k+1)
def Ff{t:SetTable}(z:full t.mask=true):∀(rest hs:List Int)(q:Array (Option Nat)),Own t hs q->hs⁻¹+rest⁻¹<=t.mask->
  ∃g,rest.foldl (lF t.mask) (-(q,hs⁻¹))=-(g,(hs++rest)⁻¹)/\Own t (hs++rest) g
 |[],hs,q,O,_=>⟨q,!2,!!O⟩
 |h::rest,hs,q,O,hl=>by
  have L:hs⁻¹+(rest⁻¹+1)<=t.mask:=hl;let(m,M,N,U):=Xr z (O.free (!0)) h;let(g,e,J):=Ff z rest (hs++[h]) _ (O.step N U) (by simp;lia);show⟨g,?_,!!J⟩;have s:lF t.mask (-(q,hs⁻¹)) h=-(q.setIfInBounds (aB t h m) (-hs⁻¹),(hs++[h])⁻¹):=by unfold lF;simp only[Option.bind_eq_bind,Option.bind_some,M];simp
  rw[List.foldl_cons,s,e];simp
def Own.nil(t:SetTable):Own t [] (Array.replicate (t.mask+1) none):=by
 show⟨!2,λj i h=>?_,λi j g h=>?_,λi h hi=>?_,?_⟩
 .rw[Array.getElem?_replicate]at h;split at h<;>cases h
 .rw[Array.getElem?_replicate]at h;split at h<;>cases h
 .simp at hi
 .rw[Array.toList_replicate,List.countP_replicate];simp
def Xu{t:SetTable}(z:full t.mask=true)(hs:Array Int)(hl:hs.size<=t.mask):∃g,layClean t.mask hs=-g/\Own t hs.toList g:=by let(g,e,O):=Ff z hs.toList [] _ (Own.nil t) (!!hl);show⟨g,?_,!!O⟩;have q:layClean t.mask hs=(hs.foldl (lF t.mask) (-(Array.replicate (t.mask+1) none,0))).map (·.1):=rfl;rw[q,<-Array.foldl_toList];have e:hs.toList.foldl (lF t.mask) (-(Array.replicate (t.mask+1) none,0))=_:=e;rw[e];rfl
end PySem.SetTable
namespace PySem.SetTable
def Fg{q J:Type}{f:q->Option J}:∀(l:List q),(∀x,x∈l->(f x).isSome=true)->∀p:Nat,(l.filterMap f)[p]?=l[p]?.bind f
 |[],_,p=>by simp
 |a::l,h,p=>by
  let(b,g):=Option.isSome_iff_exists.mp (h a List.mem_cons_self);rw[List.filterMap_cons_some g];cases p with
  |zero=>simp[g]
  |succ p=>simpa using Fg l (λx z=>h x (List.mem_cons_of_mem _ z)) p
def Fi{g J:Type}{f:g->Option J}:∀(l:List g),(∀x,x∈l->(f x).isSome=true)->(l.filterMap f)⁻¹=l⁻¹
 |[],_=>rfl
 |a::l,h=>by
  let(b,q):=Option.isSome_iff_exists.mp (h a List.mem_cons_self);rw[List.filterMap_cons_some q,List.length_cons,List.length_cons,Fi l (λx z=>h x (List.mem_cons_of_mem _ z))]
def bA(mask:Nat)(g:Array (Option Nat)):List (Nat×Nat):=(List.range (mask+1)).filterMap λj=>(g.getD j none).map (j,·)
def lG{mask:Nat}{g:Array (Option Nat)}{j i:Nat}:(j,i)∈bA mask g↔j<=mask/\g[j]?=-(-i):=by
 unfold bA;rw[List.mem_filterMap];constructor
 .rintro ⟨a,q,e⟩;rw[Array.getD_eq_getD_getElem?]at e;cases h:g[a]? with
  |none=>rw[h]at e;simp at e
  |some o=>
   cases o with
   |none=>rw[h]at e;simp at e
   |some x=>
    rw[h]at e;simp at e;let(rfl,rfl):=e;exact⟨by have:=List.mem_range.mp q;lia,h⟩
 .rintro ⟨h1,h2⟩;show⟨j,List.mem_range.mpr (!0),?_⟩;rw[Array.getD_eq_getD_getElem?,h2];rfl
def Fj(mask:Nat)(q:Array (Option Nat)):dF ((bA mask q).map (·.1)).toArray:=by
 have hp:(bA mask q).Pairwise λa b=>a.1<b.1:=by
  unfold bA;show List.Pairwise.filterMap _ ?_ (List.pairwise_lt_range);intro a O N b z b' g;cases h:q.getD a none with
  |none=>rw[h]at z;simp at z
  |some x=>
   cases h':q.getD O none with
   |none=>rw[h']at g;simp at g
   |some x'=>
    rw[h]at z;rw[h']at g;simp at z g;rw[<-z,<-g];exact N
 intro i j x y J L M;rw[List.getElem?_toArray,List.getElem?_map]at J L;cases h1:(bA mask q)[i]? with
 |none=>rw[h1]at J;cases J
 |some a=>
  cases h2:(bA mask q)[j]? with
  |none=>rw[h2]at L;cases L
  |some b=>
   rw[h1]at J;rw[h2]at L;cases J;cases L;let(U,e1):=List.getElem?_eq_some_iff.mp h1;let(Y,e2):=List.getElem?_eq_some_iff.mp h2;have:=(List.pairwise_iff_getElem.mp hp) i j U Y M;rw[e1,e2]at this;exact this
def Xv{t:SetTable}{hs:List Int}{g:Array (Option Nat)}(O:Own t hs g):(bA t.mask g)⁻¹=hs⁻¹:=by
 have h1:(bA t.mask g)⁻¹=g.toList.countP (·.isSome):=by
  unfold bA;rw[List.length_filterMap_eq_countP];have e:g.toList=(List.range (t.mask+1)).map λj=>g.getD j none:=by
   show List.ext_getElem? λi=>?_;rw[List.getElem?_map,Array.getElem?_toList];by_cases c:i<t.mask+1
   .rw[List.getElem?_range c,Option.map_some,Array.getD_eq_getD_getElem?,Array.getElem?_eq_getElem (by rw[O.size];exact c)];rfl
   .rw[List.getElem?_eq_none (!!c),Array.getElem?_eq_none (by rw[O.size];lia)];rfl
  rw[e,List.countP_map];congr 1;funext j;simp
 have h2:=List.length_eq_countP_add_countP (p:=λo:Option Nat=>o.isSome) (l:=g.toList);have q:g.toList.countP (λo=>decide ¬o.isSome=true)=g.toList.countP (·.isNone):=by congr 1;funext o;cases o<;>rfl
 have z:g.toList⁻¹=t.mask+1:=by rw[Array.length_toList];exact O.size
 have:=O.cnt;rw[q]at h2;lia
def Xw{mask finger moves:Nat}{led plain:Bool}{es:Array (Int×AN)}(hm:full mask=true)(hl:es.size<=mask):
  ∃t g,laid mask finger moves led plain (es.map (·.1))=-(t,g)/\t.mask=mask/\t.plain=plain/\t.led=led/\t.finger=finger/\(g.filterMap (es[·]?)).size=es.size/\Tab t (g.filterMap (es[·]?))/\
   (∀x,x∈(g.filterMap (es[·]?)).toList->x∈es.toList)/\(∀x,x∈es.toList->x∈(g.filterMap (es[·]?)).toList):=by
 have hm0:full (SetTable.mk mask #[] #[] finger led moves plain:SetTable).mask=true:=hm;let(z,e,O):=Xu (t:={mask,place:=#[],dummies:=#[],finger,led,moves,plain}) hm0 (es.map (·.1)) (!!hl);have e:layClean mask (es.map (·.1))=-z:=e;show⟨{mask,place:=((bA mask z).map (·.1)).toArray,dummies:=#[],finger,led,moves,plain},((bA mask z).map (·.2)).toArray,?_,rfl,rfl,rfl,rfl,?_⟩
 .unfold laid;simp only[e,Option.bind_eq_bind,Option.bind_some];rfl
 have hlt:∀q,q∈bA mask z->(es[q.2]?).isSome=true:=λq L=>by
  let(_,h):=lG.mp L;have:=O.lt _ _ h;have hb:q.2<es.size:=by simpa using this
  rw[Array.getElem?_eq_getElem hb];rfl
 have ea:(((bA mask z).map (·.2)).toArray.filterMap (es[·]?))=((bA mask z).filterMap λq=>es[q.2]?).toArray:=by rw[List.filterMap_toArray,List.filterMap_map];rfl
 have eg:∀p:Nat,((bA mask z).filterMap λq=>es[q.2]?).toArray[p]?=(bA mask z)[p]?.bind λq=>es[q.2]?:=λp=>by
  rw[List.getElem?_toArray];exact Fg _ hlt p
 have J:(bA mask z)⁻¹=es.size:=by have:=Xv O;simpa using this
 rw[ea];have N:((bA mask z).filterMap λq=>es[q.2]?).toArray.size=es.size:=by rw[List.size_toArray,Fi _ hlt,J]
 show⟨N,⟨Fj mask z,?_,rfl,hm,λi j hi=>?_,?_,λp j h v U hv=>?_⟩,λx M=>?_,λx M=>?_⟩
 .change ((bA mask z).map (·.1)).toArray.size=_;rw[N,List.size_toArray,List.length_map,J]
 .have hi:((bA mask z).map (·.1)).toArray[i]?=-j:=hi;rw[List.getElem?_toArray]at hi;let(q,L,rfl):=List.mem_map.mp (List.mem_of_getElem? hi);exact(lG.mp L).1
 .change ((bA mask z).map (·.1)).toArray.size<=mask;rw[List.size_toArray,List.length_map,J];exact hl
 .have U:((bA mask z).map (·.1)).toArray[p]?=-j:=U;rw[List.getElem?_toArray,List.getElem?_map]at U;rw[eg]at hv;cases L:(bA mask z)[p]? with
  |none=>rw[L]at U;cases U
  |some q=>
   rw[L]at U hv;let(j0,i):=q;cases U;have hv:es[i]?=-(h,v):=hv;have hin:=(lG.mp (List.mem_of_getElem? L)).2;have hh:(es.map (·.1)).toList[i]?=-h:=by rw[Array.getElem?_toList,Array.getElem?_map,hv];rfl
   let(r,r1,r2):=O.has i h hh;have pm:∀k,aB {mask,place:=((bA mask z).map (·.1)).toArray,dummies:=#[],finger,led,moves,plain} h k=aB {mask,place:=#[],dummies:=#[],finger,led,moves,plain} h k:=λk=>jA (t:={mask,place:=((bA mask z).map (·.1)).toArray,dummies:=#[],finger,led,moves,plain}) (t':={mask,place:=#[],dummies:=#[],finger,led,moves,plain}) rfl h k;show⟨r,by rw[pm];exact O.uni _ _ _ r1 hin,λk hk=>?_⟩;rw[pm];have hne:=r2 k hk;have Y:aB {mask,place:=#[],dummies:=#[],finger,led,moves,plain} h k<=mask:=vO _ h k;have hb:aB {mask,place:=#[],dummies:=#[],finger,led,moves,plain} h k<z.size:=by rw[O.size];exact Nat.lt_succ_of_le Y
   cases M:z[aB {mask,place:=#[],dummies:=#[],finger,led,moves,plain} h k]? with
   |none=>rw[Array.getElem?_eq_getElem hb]at M;cases M
   |some o=>
    cases o with
    |none=>exact absurd (lE.mpr M) hne
    |some i'=>
     have hmem:=lG.mpr ⟨Y,M⟩;let(p',hp',ep'):=List.getElem_of_mem hmem;rcases rB (Fj mask z) (es:=((bA mask z).filterMap λq=>es[q.2]?).toArray) (by rw[N,List.size_toArray,List.length_map,J]) (aB {mask,place:=#[],dummies:=#[],finger,led,moves,plain} h k) with⟨_,e',_,_,h3⟩|⟨no,_⟩
     .change atS ((bA mask z).map (·.1)).toArray _ _≠none;rw[h3];simp
     .show absurd ?_ (no p');rw[List.getElem?_toArray,List.getElem?_map,List.getElem?_eq_getElem hp',ep'];rfl
 .rw[List.toList_toArray]at M;let(q,_,L):=List.mem_filterMap.mp M;exact Array.mem_toList_iff.mpr (Array.mem_of_getElem? L)
 .rw[List.toList_toArray];let(i,hi):=List.mem_iff_getElem?.mp M;rw[Array.getElem?_toList]at hi;have hh:(es.map (·.1)).toList[i]?=-x.1:=by rw[Array.getElem?_toList,Array.getElem?_map,hi];rfl
  let(r,r1,_):=O.has i x.1 hh;exact List.mem_filterMap.mpr ⟨(_,i),lG.mpr ⟨vO _ _ r,r1⟩,hi⟩
end PySem.SetTable
namespace PySem
open SetTable
def SetTable.Tab.fits{t:SetTable}{es:Array (Int×AN)}(T:Tab t es):t.fits es.size=true:=by simp only[SetTable.fits,SetTable.fill,T.dum,T.size,Bool.and_eq_true,beq_iff_eq,decide_eq_true_eq];have:=T.room;have:=T.size;exact⟨trivial,by simp;lia⟩
section
variable {prog:AK} {w:World} {A:AM} {E:AG} {s:AI} {a:AQ} {o:Obj} {es:Array (Int×AN)} {ep:Nat} {t:SetTable} {x:AN} {h:Int} {eqv:AN->Bool} {m:Nat}
theorem Fl(ho:s.heap.get? a=-o)(hd:o.data=.set es ep t)(T:Tab t es)(hg:t.gaveWay=false)
  (U:∀(i:Nat)(y:AN),es[i]?=-(h,y)->∀{Q:Bool->AI->Prop},Q (eqv y) s->wpAny (model prog w) A (eqBool y x) Q E s)
  (L:∀{Q:Bool->AI->Prop},Q false s->wpAny (model prog w) A (searchCouldBeSeen x ((es.filter (·.1==h)).toList.map (·.2))) Q E s)
  (J:∀(i:Nat)(y:AN),es[i]?=-(h,y)->∀{Q:Bool->AI->Prop},Q true s->wpAny (model prog w) A (isSame y y) Q E s)
  (h1:∀k,k<m->atS t.place es (aB t h k)≠none) (h2:atS t.place es (aB t h m)=none) (h3:m<10*turns t.mask):
  ∀(g k:Nat)(q:Option Probe),q.getD (t.probeStart h)=nth t k (t.probeStart h)->m-k<g->k<=m->
   (∀k' y,k'<k->atS t.place es (aB t h k')=-(h,y)->eqv y=false)->∀{Q:SetFound->AI->Prop},
   ((∃(i:Nat)(y:AN),es[i]?=-(h,y)/\eqv y=true)->Q (.there none) s)->((∀(i:Nat)(y:AN),es[i]?=-(h,y)->eqv y=false)->Q (.free (aB t h m) false) s)->
   wpAny (model prog w) A (setSearchFrom a x h true g q) Q E s
 |0,_,_,_,hf,_,_,_,_,_=>absurd hf (Nat.not_lt_zero _)
 |g+1,k,q,hst,hf,hk,hno,Q,hq1,hq2=>by
  unfold setSearchFrom;show wpAny_bind (wpAny_setState_of ho hd T.fits ?_);dsimp only;rw[hg,hst];simp only[Bool.false_eq_true,↓reduceIte];have hdm:(nth t k (t.probeStart h)).dummy=none:=by
   have key:∀(n:Nat)(p:Probe),(nth t n p).dummy=p.dummy:=by
    intro n;induction n with
    |zero=>intro p;rfl
    |succ n ih=>intro p;change(nth t n (t.advance p)).dummy=_;rw[ih,Ez]
   rw[key];rfl
  have step:∀n,(nth t n (nth t k (t.probeStart h))).j=aB t h (k+n):=λn=>by rw[<-lC];rfl
  have pg:=EY (t:=t) (es:=es) (hashAt:=λi=>(es[i]?.map (·.1)).getD 0) (λi e he=>by rw[he];rfl) T.dum T.rise T.size h (m-k) (10*turns t.mask) (nth t k (t.probeStart h)) (!0) hdm (λn hn=>by rw[step];exact h1 _ (!0)) (by rw[step,show k+(m-k)=m by lia];exact h2);rcases pg with⟨n,i,y,hn,hb,hp,he,N⟩|⟨hb,N⟩
  .have z:t.probe _ h (nth t k (t.probeStart h))=_:=N;erw [z];dsimp only;have fin:wpAny (model prog w) A (do
     let some (_,y):=es[i]? |unsupported "internal:set-entry"
     let equal <-holding [y] (eqBool y x)
     let(es',_,t') <-setState a
     if true&&equal then return .there none
     let some same:=t'.sameMemory t.moves t.mask|unsupported "set.changed-during-lookup:is-the-new-block-at-the-old-address"
     let still <-match(if same then t'.slot (nth t n (nth t k (t.probeStart h))).j else .empty) with
      |.live Y=>match es'[Y]? with
       |some (_,y')=>do pure (if <-isSame y' y then some Y else none)
       |none=>pure none
      |_=>pure none
     match still with
     |none=>rule "set.search.anew";setSearchFrom a x h true g none
     |some Y=>if equal then return .there (-Y) else setSearchFrom a x h true g (-(nth t (n+1) (nth t k (t.probeStart h))))) Q E s:=by
    rw[he];dsimp only;show wpAny_bind (wpAny_holding (U i y he ?_));show wpAny_bind (wpAny_setState_of ho hd T.fits ?_);dsimp only;cases hv:eqv y with
    |true=>exact wpAny_pure (hq1 ⟨i,y,he,hv⟩)
    |false=>
     simp only[Bool.and_false,Bool.false_eq_true,↓reduceIte];have hsm:t.sameMemory t.moves t.mask=-true:=by unfold sameMemory;simp
     rw[hsm];dsimp only;rw[Ey T.rise hp];simp only[↓reduceIte,he];show wpAny_bind (J i y he (wpAny_bind (wpAny_pure ?_)));simp only[↓reduceIte];show Fl ho hd T hg U L J h1 h2 h3 g (k+n+1) _ (by change nth t (n+1) _=_;rw[<-lC];rfl) (!0) (!0) (λk' y' hk' M=>?_) hq1 hq2;by_cases c1:k'<k
     .exact hno k' y' c1 M
     .by_cases c2:k'<k+n
      .have:=hb (k'-k) y' (!0);rw[step,show k+(k'-k)=k' by lia]at this;exact absurd M this
      .have e:k'=k+n:=by lia
       subst e;rw[<-step,gB T.rise hp,he]at M;cases M;exact hv
   cases hl:t.led with
   |true=>simp only[Bool.not_true,Bool.false_eq_true,↓reduceIte];exact fin
   |false=>
    simp only[Bool.not_false,↓reduceIte];show wpAny_bind (L ?_);simp only[Bool.false_eq_true,↓reduceIte];exact fin
  .have z:t.probe _ h (nth t k (t.probeStart h))=_:=N;erw [z];dsimp only;rw[step,show k+(m-k)=m by lia];show wpAny_pure (hq2 λi y he=>?_);have hi:i<t.place.size:=by rw[T.size];exact(Array.getElem?_eq_some_iff.mp he).1
   let(r,r1,r2):=T.way i _ h y (Array.getElem?_eq_getElem hi) he;have hr:r<m:=by
    rcases Nat.lt_trichotomy r m with c|c|c
    .exact c
    .subst c;rw[r1,gB T.rise (Array.getElem?_eq_getElem hi),he]at h2;cases h2
    .exact absurd h2 (r2 m c)
   have O:atS t.place es (aB t h r)=-(h,y):=by rw[r1,gB T.rise (Array.getElem?_eq_getElem hi),he]
   by_cases c:r<k
   .exact hno r y c O
   .have:=hb (r-k) y (!0);rw[step,show k+(r-k)=r by lia]at this;exact absurd O this
end
def SetTable.Tab.plain{t:SetTable}{es:Array (Int×AN)}(T:Tab t es)(b:Bool):Tab {t with plain:=b} es:=
 ⟨T.rise,T.size,T.dum,T.msk,T.lt,T.room,λi j h v hi z=>by
  let(r,J,L):=T.way i j h v hi z;have g:∀k,aB {t with plain:=b} h k=aB t h k:=λk=>jA (t:={t with plain:=b}) (t':=t) rfl h k;show⟨r,by rw[g];exact J,λk q=>?_⟩;rw[g];exact L k q⟩
def Fit(t:SetTable)(n:Nat):Prop:=(t.mask=7/\n<5)\/(t.mask=31/\n<19)\/(t.mask=127/\n<77)\/(t.mask=511/\n<307)
def Fit.way{t:SetTable}{n:Nat}(h:Fit t n):t.gaveWay=false:=by rcases h with⟨e,_⟩|⟨e,_⟩|⟨e,_⟩|⟨e,_⟩<;>(unfold gaveWay;rw[e];rfl)
def Fit.turns{t:SetTable}{n:Nat}(h:Fit t n):10*turns t.mask<100000:=by rcases h with⟨e,_⟩|⟨e,_⟩|⟨e,_⟩|⟨e,_⟩<;>(rw[e];decide)
def STab(g:Heap)(a:AQ)(es:Array (Int×AN)):Prop:=
 ∃ep t,g.get? a=-⟨.type "set",none,.set es ep t,#[]⟩/\Tab t es/\Fit t es.size
def Xx{z:Type}{xs:Array z}{i:Nat}{x:z}(h:i<=xs.size)(e:z):e∈(insertAt xs i x).toList↔e∈xs.toList\/e=x:=by
 constructor
 .intro q;let(k,g):=List.mem_iff_getElem?.mp q;rw[Array.getElem?_toList,di h]at g;split at g
  .exact .inl (Array.mem_toList_iff.mpr (Array.mem_of_getElem? g))
  .split at g
   .cases g;exact .inr rfl
   .exact .inl (Array.mem_toList_iff.mpr (Array.mem_of_getElem? g))
 .rintro (q|rfl)
  .let(k,g):=List.mem_iff_getElem?.mp q;rw[Array.getElem?_toList]at g;by_cases c:k<i
   .show List.mem_iff_getElem?.mpr ⟨k,?_⟩;rw[Array.getElem?_toList,di h,if_pos c];exact g
   .show List.mem_iff_getElem?.mpr ⟨k+1,?_⟩;rw[Array.getElem?_toList,di h,if_neg (!0),if_neg (!0)];exact g
  .show List.mem_iff_getElem?.mpr ⟨i,?_⟩;rw[Array.getElem?_toList,di h,if_neg (!0),if_pos rfl]
section
variable {prog:AK} {w:World} {A:AM} {E:AG} {s:AI} {a:AQ} {es:Array (Int×AN)} {ep:Nat} {t:SetTable} {x:AN} {h:Int} {eqv:AN->Bool}
theorem Fp {h:Heap} {es es':Array (Int×AN)} {ep:Nat} {t t':SetTable} (g:h.get? a=-⟨.type "set",none,.set es ep t,#[]⟩):
  (h.update a (Obj.putSet es' t')).get? a=-⟨.type "set",none,.set es' (ep+1) t',#[]⟩:=by
 have:=Heap.get?_update_self (Obj.putSet es' t') g (by rw[putSet_of es' t' rfl];rfl);rw[putSet_of es' t' rfl]at this;exact this
def vP(es:Array (Int×AN))(laid:Option (SetTable×Array Nat)):Sem (Array (Int×AN)×SetTable):=do
 let some (t,order):=laid|unsupported "internal:set-table-without-room"
 let es':=order.filterMap (es[·]?)
 if es'.size != es.size then unsupported "internal:set-table-lost-an-element"
 pure (es',t)
theorem Xy {n:Nat} {M:Nat} (J:s.heap.get? a=-⟨.type "set",none,.set es ep t,#[]⟩) (T:Tab t es) (hM:sizeAbove n-1=M) (hz:¬sizeAbove n > sizeLine) (hm:full M=true) (hl:es.size<M) (hb:es.size<scanBound) {Q:Unit->AI->Prop}
  (hq:∀es' z t',es'.size=es.size->Tab t' es'->t'.mask=M->(∀e,e∈es'.toList↔e∈es.toList)->(s.heap.update a (Obj.putSet es' t')).get? a=-⟨.type "set",none,.set es' z t',#[]⟩->Q () {s with heap:=s.heap.update a (Obj.putSet es' t')}):
  wpAny (model prog w) A (setRelay a n) Q E s:=by
 let(t',g,O,U,_,_,_,q,N,m1,m2):=Xw (mask:=M) (finger:=t.finger) (moves:=t.movedTo M) (led:=t.led) (plain:=t.plain) (es:=es) hm (!0);change wpAny (model prog w) A (do
  let(es,_,t) <-setState a
  if SetTable.sizeAbove n > sizeLine then unsupported "set:memory"
  let(es,t) <-vP es (t.relaid (es.map (·.1)) n)
  storeSet a es t) Q E s
 show wpAny_bind (wpAny_setState_of J rfl T.fits ?_);dsimp only;rw[if_neg hz];have Y:t.relaid (es.map (·.1)) n=-(t',g):=by unfold relaid;rw[hM];exact O
 rw[Y];have L:vP es (-(t',g))=pure (g.filterMap (es[·]?),t'):=by unfold vP;simp[q]
 rw[L];show wpAny_bind (wpAny_pure ?_);show wpAny_storeSet_of J rfl ?_ (fits_of_scanBound (by rw[q];exact hb));exact hq _ _ _ q N U (λe=>⟨m1 e,m2 e⟩) (Fp J)
theorem Xz(hx:x.scannable=false)(S:STab s.heap a es)(hsz:es.size<300)
  (heq:∀(i:Nat)(y:AN),es[i]?=-(h,y)->∀{Q:Bool->AI->Prop},Q (eqv y) s->wpAny (model prog w) A (eqBool y x) Q E s)
  (hseen:∀{Q:Bool->AI->Prop},Q false s->wpAny (model prog w) A (searchCouldBeSeen x ((es.filter (·.1==h)).toList.map (·.2))) Q E s)
  (hsame:∀(i:Nat)(y:AN),es[i]?=-(h,y)->∀{Q:Bool->AI->Prop},Q true s->wpAny (model prog w) A (isSame y y) Q E s)
  (hby:∀{Q:Bool->AI->Prop},(∀b,Q b s)->wpAny (model prog w) A (hashByValue 8 x) Q E s) {Q:Bool->AI->Prop}
  (q1:(∃(i:Nat)(y:AN),es[i]?=-(h,y)/\eqv y=true)->Q false s)
  (q2:(∀(i:Nat)(y:AN),es[i]?=-(h,y)->eqv y=false)->∀h' es',Heap.SameBut a s.heap h'->STab h' a es'->es'.size=es.size+1->(∀e,e∈es'.toList↔e∈es.toList\/e=(h,x))->Q true {s with heap:=h'}) (fuel:Nat):
  wpAny (model prog w) A (setAddHashedIn a x h (fuel+1)) Q E s:=by
 let(ep,t,ho,T,F):=S;let(m,m3,m1,m2):=T.first h;unfold setAddHashedIn;show wpAny_bind (wpAny_setState_of ho rfl T.fits ?_);have hbs:byScan x es=false:=by unfold byScan;rw[hx];rfl
 dsimp only;rw[hbs];simp only[Bool.false_eq_true,↓reduceIte];unfold setSearch;have ht:=F.turns;show wpAny_bind (Fl ho rfl T F.way heq hseen hsame m1 m2 m3 100000 0 none rfl (!0) (Nat.zero_le _) (λk' y hk=>absurd hk (Nat.not_lt_zero _)) (λz=>?_) λz=>?_)
 .exact wpAny_pure (q1 z)
 dsimp only;show wpAny_bind (wpAny_setState_of ho rfl T.fits ?_);dsimp only;have hroom:t.place.size+1<=t.mask:=by rw[T.size];rcases F with⟨e,l⟩|⟨e,l⟩|⟨e,l⟩|⟨e,l⟩<;>lia
 have T1:=T.put (x:=x) m1 m2 hroom;have hb':(t.put (aB t h m)).2<=es.size:=by let(_,_,hb):=lB T.rise (aB t h m);rw[<-T.size];exact hb
 have O:=λe=>Xx (x:=(h,x)) hb' e;have U:(insertAt es (t.put (aB t h m)).2 (h,x)).size=es.size+1:=rn hb';generalize hes1:insertAt es (t.put (aB t h m)).2 (h,x)=es1 at T1 O U ⊢;have J:(t.put (aB t h m)).1.mask=t.mask:=rfl;generalize ht1:(t.put (aB t h m)).1=t1 at T1 J ⊢;have Y:∀N:SetTable,Tab N es1->N.mask=t.mask->wpAny (model prog w) A (do
   storeSet a es1 N
   if !false&&N.tooFull then setRelay a (SetTable.grown (es.size+1))
   return true) Q E s:=by
  intro N T2 q;have hsb:es1.size<scanBound:=by change _<4096;lia
  show wpAny_bind (wpAny_storeSet_of ho rfl ?_ (fits_of_scanBound hsb));have g1:=Fp (es':=es1) (t':=N) ho;have sb1:=Heap.SameBut.update s.heap a (Obj.putSet es1 N);have g:N.fill=es1.size:=by unfold fill;rw[T2.dum,T2.size];simp
  have big:∀M n0,es1.size=n0->sizeAbove (grown n0)-1=M->¬sizeAbove (grown n0) > sizeLine->full M=true->n0<M->(∀t',t'.mask=M->Fit t' n0)->N.tooFull=true->
    wpAny (model prog w) A (do
     if !false&&N.tooFull then setRelay a (SetTable.grown (es.size+1))
     return true) Q E {s with heap:=s.heap.update a (Obj.putSet es1 N)}:=by
   intro M n0 hn hM hz hfull hlt hF htf;rw[htf,show es.size+1=n0 by lia];simp only[Bool.not_false,Bool.and_self,↓reduceIte];show wpAny_bind (Xy (M:=M) g1 T2 hM hz hfull (!0) hsb λes' ep' t' s1 T' hm' hme hg=>?_);exact wpAny_pure (q2 z _ es' (sb1.trans (Heap.SameBut.update _ a _)) ⟨ep',t',hg,T',by rw[s1,hn];exact hF t' hm'⟩ (!0) λe=>(hme e).trans (O e))
  have L:N.tooFull=false->Fit N es1.size->wpAny (model prog w) A (do
     if !false&&N.tooFull then setRelay a (SetTable.grown (es.size+1))
     return true) Q E {s with heap:=s.heap.update a (Obj.putSet es1 N)}:=by
   intro htf hF;rw[htf];simp only[Bool.not_false,Bool.and_false,Bool.false_eq_true,↓reduceIte];exact wpAny_pure (q2 z _ es1 sb1 ⟨_,N,g1,T2,hF⟩ U O)
  rcases F with⟨e,l⟩|⟨e,l⟩|⟨e,l⟩|⟨e,l⟩
  .by_cases c:es1.size<5
   .show L ?_ (.inl ⟨q.trans e,c⟩);unfold tooFull;rw[g,q,e];simp;lia
   .show big 31 5 (!0) (!1) (by rw[sizeLine_eq];decide) Xi (!1) (λt' e'=>.inr (.inl ⟨e',!1⟩)) ?_;unfold tooFull;rw[g,q,e];simp;lia
  .by_cases c:es1.size<19
   .show L ?_ (.inr (.inl ⟨q.trans e,c⟩));unfold tooFull;rw[g,q,e];simp;lia
   .show big 127 19 (!0) (!1) (by rw[sizeLine_eq];decide) Xj (!1) (λt' e'=>.inr (.inr (.inl ⟨e',!1⟩))) ?_;unfold tooFull;rw[g,q,e];simp;lia
  .by_cases c:es1.size<77
   .show L ?_ (.inr (.inr (.inl ⟨q.trans e,c⟩)));unfold tooFull;rw[g,q,e];simp;lia
   .show big 511 77 (!0) (!1) (by rw[sizeLine_eq];decide) Xk (!1) (λt' e'=>.inr (.inr (.inr ⟨e',!1⟩))) ?_;unfold tooFull;rw[g,q,e];simp;lia
  .show L ?_ (.inr (.inr (.inr ⟨q.trans e,!0⟩)));unfold tooFull;rw[g,q,e];simp;lia
 cases hp:t1.plain with
 |true=>
  simp only[↓reduceIte];show wpAny_bind (hby λb=>?_);cases b with
  |true=>exact Y t1 T1 J
  |false=>exact Y {t1 with plain:=false} (T1.plain false) J
 |false=>
  simp only[Bool.false_eq_true,↓reduceIte];show wpAny_bind (wpAny_pure ?_);exact Y t1 T1 J
end
end PySem
namespace L2
open PySem PySem.Spec PyProof.Rows
section
variable {prog:AK} {w:World} {A:AM} {E:AG} {R:Result->AI->Prop} {I:AQ} {fp wr:List AQ} {GG:Array GenState->Array GenState->Prop} {n:Nat} {P:Nat->AN->Prop} {St:Nat->AI->Prop} {Ok:Nat->Heap->Prop}
theorem XC(W:WalksS prog w A.in1 I fp wr GG n P St)(S:AQ)(M:S∉fp)(keep:∀(i:Nat)(h h':Heap),(∀b o,b∉wr->h.get? b=-o->h'.get? b=-o)->Ok i h->Ok i h')
  (add:∀(i:Nat)(v:AN)(s:AI){E:AG}{Q:Bool->AI->Prop},i<n->P i v->Ok i s.heap->(∀(h':Heap)(b:Bool)(tk:Nat),s.toks<=tk->Heap.SameBut S s.heap h'->Ok (i+1) h'->Q b {s with heap:=h',toks:=tk})->wpAny (model prog w) A.in1 (setAdd S v) Q E s):
  ∀(j i:Nat)(s:AI),n-i=j->i<=n->St i s->Ok i s.heap->
   (∀s',Moved (S::wr) GG s s'->Ok n s'.heap->R (.ok (.ret .none)) s')->
   codeAny (model prog w) A (.builtin "set.update.loop" ⟨[.ref S,.ref I],[]⟩) R s:=by
 have hSw:S∉wr:=λh=>M (W.sub _ h);have sub:∀b∈wr,b∈S::wr:=λb q=>bm _ q;have g:∀{s s':AI}{i:Nat},Moved wr GG s s'->Ok i s.heap->Ok i s'.heap:=λm J=>keep _ _ _ (λb o q e=>m.heap b o q e) J;intro j;induction j with
 |zero=>
  intro i s hj hi st J hR;obtain rfl:i=n:=by lia
  show codeAny_builtin PyProof.Rows.F.entry_set_update_loop ?_;rw[Around.under_plainId gl _];change wpAny _ A.in1 (pyNext (.ref I) >>= _) _ _ s;show ab (W.done s _ _ st λs' m=>?_);change wpAny _ A.in1 (ret Value.none) _ _ s';exact ai (hR s' (m.mono sub) (g m J))
 |succ j ih=>
  intro i s hj hi st J hR;have z:i<n:=by lia
  show codeAny_builtin PyProof.Rows.F.entry_set_update_loop ?_;rw[Around.under_plainId gl _];change wpAny _ A.in1 (pyNext (.ref I) >>= _) _ _ s;show ab (W.item i s _ _ z st λv s' hP st' m=>?_);have O:=g m J;change wpAny _ A.in1 (holding [v] (setAdd S v) >>= _) _ _ s';show ab (cK (add i v s' z hP O λh' b tk N sb U=>?_));show ai ⟨plainId_quiet gl _,ih (i+1) _ (!0) z (W.frame _ s' _ _ st' N λb q o e=>?_) U λs'' Y L=>?_⟩
  .rw[sb.2 b (λh:b=S=>M (by rw[<-h];exact q))];exact e
  .show hR s'' (Moved.trans W.gtrans ((m.mono sub).then_heap N λb o q e=>?_) Y) L;rw[sb.2 b (λh:b=S=>q (by rw[h];exact a9))];exact e
end
section
variable {prog:AK} {w:World} {A:AM} {E:AG} {s:AI}
theorem XD{l:AQ}{g:Array AN}{Ok:Nat->Heap->Prop}{Q:AG}(hh:A.handled=none)(hl:s.heap.IsList l g)
  (start:∀h':Heap,(∀b o,b<(~~~s)->s.heap.get? b=-o->h'.get? b=-o)->h'.get? (~~~s)=-(dD w)->Ok 0 h')
  (keep:∀(i:Nat)(h h':Heap),(∀b o,b<=(~~~s)->h.get? b=-o->h'.get? b=-o)->Ok i h->Ok i h')
  (add:∀(i:Nat)(v:AN)(q:AI){E:AG}{Q:Bool->AI->Prop},i<g.size->g[i]?=-v->Ok i q.heap->(∀(h':Heap)(b:Bool)(Y:Nat),q.toks<=Y->Heap.SameBut (~~~s) q.heap h'->Ok (i+1) h'->Q b {q with heap:=h',toks:=Y})->wpAny (model prog w) A.in1.in1.in1 (setAdd (~~~s) v) Q E q)
  (h:∀(h':Heap)(Y:Nat),Ok g.size h'->(∀b o,b<(~~~s)->s.heap.get? b=-o->h'.get? b=-o)->Q (.ref (~~~s)) {s with heap:=h',toks:=Y}):
  wpAny (model prog w) A (call (.type "set") [.ref l]) Q E s:=by
 let(c,tl,hmro):=eR.mro;have hmade:=eR.made;have hsub:=eR.sub;show wpAny_call (codeAny_of_tree ?_);change wpAny _ _ (callAny (.type "set") _) _ _ _;show ai ⟨Code.quiet_builtin _ (by ac_rfl),codeAny_builtin PySem.F.entry_type_call ?_⟩;rw[Around.under_plain (weight_type_call_type "set" [.ref l] []) rfl];have h1:=eR.notType;have h2:=eR.canCreate;have hct:=PySem.F.typeCall_set_1 (.ref l);repeat (any_goals (first|assumption|wp_step))
 show codeAny_mono (Wu (.ref l) (E:=E) (Q₁:=λobj q=>obj=.ref (~~~s)/\q={s with heap:=s.heap.push (dD w)}) ⟨rfl,rfl⟩) λr q hr=>?_;cases r with
 |error e=>exact hr
 |ok fl=>
  cases fl with
  |ret obj=>
   let(rfl,rfl):=hr;have hS:(s.heap.push (dD w)).get? (~~~s)=-(dD w):=aI _ rfl;have hT:Shared.TypeIs {s with heap:=s.heap.push (dD w)} (.ref (~~~s)) "set":=⟨_,hS,rfl⟩;have hli:=eR.init.lookup;have hbi:=eR.init.bind (.ref (~~~s));repeat (any_goals (first|assumption|wp_step))
   show codeAny_mono (codeAny_call_builtin (R:=wants (λr L=>r=.none/\∃h' Y,L={s with heap:=h',toks:=Y}/\Ok g.size h'/\
     (∀b o,b<(~~~s)->s.heap.get? b=-o->h'.get? b=-o)) E) eR.init.plain PySem.F.entry_set_init (check_set_init_1 hT ?_)) λr₂ L z=>?_
   .let(ol,hol,hcl,nl,hdl):=hl;let(ocls,U,odata,J):=ol;simp only at hcl hdl;subst hcl;subst hdl;have hol':(s.heap.push (dD w)).get? l=-{cls:=.type "list",dict:=U,data:=.seq g nl,slots:=J}:=ag _ hol;have hsls:=PySem.F.sub_list_set;have hslf:=PySem.F.sub_list_frozenset;have hne:(Value.type "list"==Value.type "dict")=false:=by decide
    have hl1:(s.heap.push (dD w)).IsList l g:=⟨_,hol',rfl,nl,rfl⟩;unfold Builtin.«set.__init__» noKeywords Builtin.Frozenset.updateFrom;generalize hPI:pyIter=PI;unfold dD at hS;wp_walk
    subst hPI;show ff hl1 ?_;show ab (wpAny_runValue ?_);have hlS:l<(~~~s):=ay hol;have hh3:A.in1.in1.in1.handled=none:=by simp[hh]
    have hneI:l≠(s.heap.push (dD w)).objs.size:=by rw[cm];exact bX (eh hlS)
    have hSf:(~~~s)∉[(s.heap.push (dD w)).objs.size,l]:=by rw[cm];simp only[br,al,cp,or_false,not_or];exact⟨bX (gX _),fx hlS⟩
    show XC (Ok:=Ok) ((hJ hh3 _ l hneI g).toS) (~~~s)
     hSf (λi h1 h2 k1=>keep i h1 h2 λb o hb e=>k1 b o (by
      have O:b≠(s.heap.push (dD w)).objs.size:=by rw[cm];exact bX (Nat.lt_succ_of_le hb)
      simpa using O) e) (λi v q=>add i v q) (g.size-0) 0 _ (!0) (ck _)
     ⟨⟨_,aI _ rfl,rfl,rfl⟩,(hl1.push _)⟩ ?hS0 ?hR
    case hS0=>
     have hget:=ag {cls:=.type "list_iterator",data:=.fields #[.ref l,.int 0 0]} hS;exact start _ (λb o hb e=>ag _ (ag _ e)) hget
    case hR=>
     intro s' hm N;let(h',g',d',tk',os'):=s';have eg:g'=s.gens:=hm.gens;have ed:d'=s.drawn:=hm.drawn;have eo:os'=s.os:=hm.os;subst eg;subst ed;subst eo;change wpAny _ _ _ _ _ _;show ai ?_;change wpAny _ _ (ret Value.none) _ _ _;show ai ⟨rfl,h',tk',rfl,N,λb o hb e=>?_⟩;have hb1:b≠(~~~s):=bX hb;have O:b≠(s.heap.push (dD w)).objs.size:=by rw[cm];exact bX (eh hb)
     exact hm.heap b o (by simp only[br,al,cp,or_false,not_or];exact⟨hb1,O⟩) (ag _ (ag _ e))
   .cases r₂ with
    |error e=>exact z
    |ok M=>
     cases M with
     |ret r=>
      let(rfl,h',Y,rfl,N,hk'):=z;repeat (any_goals (first|assumption|wp_step))
      exact h _ _ N hk'
     |_=>exact z.elim
  |_=>exact hr.elim
end
end L2
namespace PySem
open SetTable
section
variable {prog:AK} {w:World} {K:Type} [DecidableEq K] {knd:KeyKind prog w K} {A:AM} {E:AG} {s:AI}
theorem XF{b:AQ}{Q:Bool->AI->Prop}(h:Q true s):wpAny (model prog w) A (isSame (.ref b) (.ref b)) Q E s:=by unfold isSame;simp only[beq_self_eq_true,↓reduceIte];exact wpAny_pure h
theorem XH(n:Nat){v:AN}(h:carriedByValue v=true):ofAClassStatement n v=pure false:=by
 cases v with
 |ref a=>simp[carriedByValue]at h
 |_=>first|rfl|simp[ofAClassStatement] | (unfold ofAClassStatement;rfl)
theorem Fq{ks:List K}{a:AQ}{Q:Bool->AI->Prop}(L:IsTupleKey knd s.heap ks a)(h:Q false s):wpAny (model prog w) A (ofAClassStatement 8 (.ref a)) Q E s:=by
 have M:=L.typeIs;let(o,q,n,O,hc,N,hi):=L;unfold ofAClassStatement;show wpAny_bind (wpAny_typeOf M ?_);dsimp only;simp only[beq_self_eq_true,↓reduceIte];show wpAny_bind (wpAny_pure ?_);simp only[Bool.not_true,Bool.false_eq_true,if_false];show wpAny_bind (wpAny_seqItems O N ?_);show wpAny_bind ?_;change wpAny _ _ (forIn q _ _) _ _ s;rw[<-Array.forIn_toList];show wpAny_forIn_list _ (λrest r s'=>r.1=none/\s'=s/\∀v∈rest,carriedByValue v=true) _ ?_ ?_ _ _ ⟨rfl,rfl,hi.byValue⟩
 .rintro v rest r s' ⟨z,rfl,g⟩;rw[XH _ (g v List.mem_cons_self)];show wpAny_bind (wpAny_pure ?_);simp only[Bool.false_eq_true,if_false];exact wpAny_pure ⟨rfl,rfl,λu J=>g u (List.mem_cons_of_mem _ J)⟩
 .rintro ⟨U,Y⟩ s' ⟨z,rfl,_⟩;simp only at z;subst z;exact wpAny_pure h
theorem XJ{ks:List K}{a:AQ}{l:AB}{Q:Bool->AI->Prop}(M:IsTupleKey knd s.heap ks a)(hl:∀y∈l,∃q b,y=.ref b/\IsTupleKey knd s.heap q b)(h:Q false s):
  wpAny (model prog w) A (searchCouldBeSeen (.ref a) l) Q E s:=by
 unfold searchCouldBeSeen;show wpAny_bind ?_;show wpAny_forIn_list _ (λrest r s'=>r.1=none/\s'=s/\∀v∈rest,∃q b,v=.ref b/\IsTupleKey knd s.heap q b) _ ?_ ?_ _ _ ⟨rfl,rfl,hl⟩
 .rintro v rest r s' ⟨J,rfl,g⟩;let(q,b,rfl,L):=g v List.mem_cons_self;have fin:r.1=none->(λrest (r:Option Bool×PUnit) s'=>r.1=none/\s'=s'/\∀v∈rest,∃q b,v=Value.ref b/\IsTupleKey knd s'.heap q b) rest r s':=λe=>⟨e,rfl,λu z=>g u (List.mem_cons_of_mem _ z)⟩;dsimp only;split
  .exact wpAny_pure ⟨rfl,rfl,λu z=>g u (List.mem_cons_of_mem _ z)⟩
  .show wpAny_bind (wpAny_eqIsQuiet_tuple M ?_);simp only[Bool.not_true,Bool.false_eq_true,if_false];show wpAny_bind (wpAny_eqIsQuiet_tuple L ?_);simp only[Bool.not_true,Bool.false_eq_true,if_false];show wpAny_bind (Fq M ?_);simp only[Bool.false_eq_true,if_false];show wpAny_bind (Fq L ?_);simp only[Bool.false_eq_true,if_false];exact wpAny_pure ⟨rfl,rfl,λu z=>g u (List.mem_cons_of_mem _ z)⟩
 .rintro ⟨N,O⟩ s' ⟨J,rfl,_⟩;simp only at J;subst J;exact wpAny_pure h
end
section
variable {prog:AK} {w:World} {A:AM} {E:AG} {s:AI}
theorem XM{ks:List Int}{a:AQ}{Q:Bool->AI->Prop}(J:IsTupleKey (intKind prog w) s.heap ks a)(h:∀b,Q b s):wpAny (model prog w) A (hashByValue 8 (.ref a)) Q E s:=by
 have L:=J.typeIs;let(o,q,n,N,hc,M,hi):=J;unfold hashByValue;show wpAny_bind (wpAny_specialOf L F.slot_tuple_hash.lookup ?_);dsimp only;show wpAny_bind (wpAny_seqItems N M ?_);show wpAny_bind ?_;change wpAny _ _ (forIn q _ _) _ _ s;rw[<-Array.forIn_toList];show wpAny_forIn_list _ (λrest r s'=>s'=s/\∀v∈rest,hashByValue 7 v=pure true\/hashByValue 7 v=pure false) _ ?_ ?_ _ _ ⟨rfl,?_⟩
 .rintro v rest r s' ⟨rfl,g⟩;rcases g v List.mem_cons_self with e|e<;>rw[e]<;>show wpAny_bind (wpAny_pure ?_)
  .simp only[Bool.not_true,Bool.false_eq_true,if_false];exact wpAny_pure ⟨rfl,λu z=>g u (List.mem_cons_of_mem _ z)⟩
  .simp only[Bool.not_false,if_true];exact wpAny_pure (wpAny_pure (h _))
 .rintro ⟨U,Y⟩ s' ⟨rfl,_⟩;cases U with
  |none=>exact wpAny_pure (h _)
  |some b=>exact wpAny_pure (h _)
 .intro v O;have:=hi.byValue v O;cases v with
  |ref a=>simp[carriedByValue]at this
  |float b t=>exact(by unfold hashByValue;cases(Float64.hash? b).isSome<;>simp)
  |_=>first|exact .inl rfl|exact .inr rfl | (left;unfold hashByValue;rfl) | (right;unfold hashByValue;rfl)
end
end PySem
namespace L2
open PySem PySem.Spec PyProof.Rows PySem.SetTable
def eQ(ks:List (List Int))(k:List Int):List (List Int):=if k∈ks then ks else ks++[k]
def cM(val:Nat->List Int)(i:Nat):List (List Int):=(List.range i).foldl (λks j=>eQ ks (val j)) []
def rE(val:Nat->List Int)(i:Nat):cM val (i+1)=eQ (cM val i) (val i):=by unfold cM;rw[List.range_succ,List.foldl_append];rfl
def Ft(val:Nat->List Int):∀i,(cM val i)⁻¹<=i
 |0=>av _
 |i+1=>by
  rw[rE];have:=Ft val i;unfold eQ;split
  .omega
  .rw[ax];simp;lia
def SetT(prog:AK)(w:World)(h:Heap)(S n:Nat)(adr:Nat->AQ)(val:Nat->List Int)(i:Nat):Prop:=
 (∀j,j<n->adr j<S/\IsTupleKey (intKind prog w) h (val j) (adr j))/\∃es,STab h S es/\es.size=(cM val i)⁻¹/\
  (∀e∈es.toList,∃j,j<n/\val j∈cM val i/\e=(tupleKeyHash (intKind prog w) (val j),.ref (adr j)))/\
  (∀k∈cM val i,∃j,j<n/\val j=k/\(tupleKeyHash (intKind prog w) k,Value.ref (adr j))∈es.toList)
section
variable {prog:AK} {w:World} {A:AM} {E:AG} {s:AI} {S n:Nat} {adr:Nat->AQ} {val:Nat->List Int}
theorem vQ{h h':Heap}{ks:List Int}{a:AQ}(x:IsTupleKey (intKind prog w) h ks a)(k:∀o,h.get? a=-o->h'.get? a=-o):IsTupleKey (intKind prog w) h' ks a:=by let(o,g,m,q,r):=x;exact⟨o,g,m,k o q,r⟩
theorem SetT.keep{i:Nat}{h h':Heap}(z:SetT prog w h S n adr val i)(k:∀b o,b<=S->h.get? b=-o->h'.get? b=-o):SetT prog w h' S n adr val i:=by let(q,es,(ep,t,J,r),L):=z;exact⟨λj g=>⟨(q j g).1,vQ (q j g).2 λo e=>k _ o (Nat.le_of_lt (q j g).1) e⟩,es,⟨ep,t,k S _ (av _) J,r⟩,L⟩
open Classical in
theorem SetT.add{i:Nat}(hu:A.units<cLine)(hi:i<n)(hn:n<=200)(hT:SetT prog w s.heap S n adr val i){Q:Bool->AI->Prop}
  (h:∀(h':Heap)(b:Bool)(tk:Nat),s.toks<=tk->Heap.SameBut S s.heap h'->SetT prog w h' S n adr val (i+1)->Q b {s with heap:=h',toks:=tk}):
  wpAny (model prog w) A (setAdd S (.ref (adr i))) Q E s:=by
 let(J,es,hS,hz,N,Y):=hT;unfold setAdd;show cK (ab (wpAny_pyHash_tuple hu (J i hi).2 ?_));unfold setAddHashed;show cK ?_;have hlen:=Ft val i;let eqv:AN->Bool:=λy=>decide (∃j,j<n/\y=.ref (adr j)/\val j=val i)
 have he:∀j,j<n->eqv (.ref (adr j))=decide (val j=val i):=λj g=>by
  change decide (∃j',j'<n/\Value.ref (adr j)=.ref (adr j')/\val j'=val i)=_;rw[decide_eq_decide];constructor
  .rintro ⟨j',hj',e,e'⟩;have e:adr j=adr j':=Value.ref.inj e;have:=(J j' hj').2;rw[<-e]at this;rw[(J j g).2.inj this];exact e'
  .intro e;exact⟨j,g,rfl,e⟩
 have U:∀(M:Nat)(y:AN),es[M]?=-(tupleKeyHash (intKind prog w) (val i),y)->∃j,j<n/\y=.ref (adr j)/\val j∈cM val i:=λM y O=>by
  let(j,g,q,e):=N _ (Array.mem_toList_iff.mpr (Array.mem_of_getElem? O));exact⟨j,g,(Prod.mk.inj e).2,q⟩
 change wpAny (model prog w) A (setAddHashedIn S (.ref (adr i)) (tupleKeyHash (intKind prog w) (val i)) (99999+1)) Q E {s with toks:=s.toks+((val i)⁻¹+1)};show Xz (s:={s with toks:=s.toks+((val i)⁻¹+1)}) (eqv:=eqv) (es:=es) rfl hS (!0) (λM y O Q L=>?_) (λL=>?_) (λM y O Q L=>?_) (λL=>XM (J i hi).2 L) (λz=>?_) (λz h' es' sb hS' hz' hm'=>?_) _
 .let(j,g,rfl,_):=U M y O;show wpAny_eqBool_tuple hu (J j g).2 (J i hi).2 ?_;rw[he j g]at L;by_cases c:val j=val i
  .rw[bo c]at L ⊢;exact L
  .rw[bq c]at L ⊢;exact L
 .show XJ (J i hi).2 (λy O=>?_) L;let(e,q,rfl):=aT.mp O;rw[Array.toList_filter]at q;let(j,g,_,rfl):=N e (e9.mp q).1;exact⟨val j,adr j,rfl,(J j g).2⟩
 .let(j,g,rfl,_):=U M y O;exact XF L
 .let(M,y,O,hv):=z;let(j,g,rfl,q):=U M y O;rw[he j g]at hv;have hv:=dS hv;rw[hv]at q;have e:cM val (i+1)=cM val i:=by rw[rE];unfold eQ;rw[if_pos q]
  exact h s.heap false _ (dc _ _) (Heap.SameBut.refl S s.heap) ⟨J,es,hS,by rw[e];exact hz,by rw[e];exact N,by rw[e];exact Y⟩
 .have hnin:val i∉cM val i:=λq=>by
   let(j,g,e,hmem):=Y _ q;let(M,hi'):=List.mem_iff_getElem?.mp hmem;rw[eP]at hi';have:=z M _ hi';rw[he j g,decide_eq_false_iff_not]at this;exact this e
  have e:cM val (i+1)=cM val i++[val i]:=by rw[rE];unfold eQ;rw[if_neg hnin]
  show h h' true _ (dc _ _) sb ⟨λj g=>⟨(J j g).1,vQ (J j g).2 λo eo=>?_⟩,es',hS',by rw[e,ax,hz',hz];rfl,λx hx=>?_,λk hk=>?_⟩
  .rw[sb.2 _ (bX (J j g).1)];exact eo
  .rw[e];rcases(hm' x).mp hx with hx|rfl
   .let(j,g,q,rfl):=N x hx;exact⟨j,g,dA _ q,rfl⟩
   .exact ⟨i,hi,aw _ (al.mpr rfl),rfl⟩
  .rw[e]at hk;rcases ba.mp hk with hk|hk
   .let(j,g,ej,q):=Y k hk;exact⟨j,g,ej,(hm' _).mpr (.inl q)⟩
   .rw[al.mp hk];exact⟨i,hi,rfl,(hm' _).mpr (.inr rfl)⟩
end
section
variable {prog:AK} {w:World} {A:AM} {E:AG} {s:AI}
theorem STab.empty{h:Heap}{S:AQ}(q:h.get? S=-(dD w)):STab h S #[]:=by
 show⟨0,.fresh 0 0 (!Ec w),q,⟨λi j x y g=>?_,rfl,rfl,Xh,λi j hi=>?_,?_,λi j h v hi=>?_⟩,.inl ⟨rfl,!1⟩⟩
 .have g:(#[]:Array Nat)[i]?=-x:=g;simp at g
 .have hi:(#[]:Array Nat)[i]?=-j:=hi;simp at hi
 .exact ck _
 .have hi:(#[]:Array Nat)[i]?=-j:=hi;simp at hi
theorem XN{l:AQ}{g:Array AN}{adr:Nat->AQ}{val:Nat->List Int}{Q:AG}(hh:A.handled=none)(hu:A.in1.in1.in1.units<cLine)(hl:s.heap.IsList l g)
  (hv:∀(i:Nat)(v:AN),g[i]?=-v->v=.ref (adr i)) (z:∀i,i<g.size->IsTupleKey (intKind prog w) s.heap (val i) (adr i)) (Y:g.size<=200)
  (h:∀(h':Heap)(M:Nat)(es:Array (Int×AN)),STab h' (~~~s) es->es.size=(cM val g.size)⁻¹->(∀b o,b<(~~~s)->s.heap.get? b=-o->h'.get? b=-o)->Q (.ref (~~~s)) {s with heap:=h',toks:=M}):
  wpAny (model prog w) A (call (.type "set") [.ref l]) Q E s:=by
 show XD (Ok:=λi hp=>SetT prog w hp (~~~s) g.size adr val i) hh hl (λh' k L=>?_) (λi h1 h2 k q=>SetT.keep q k) (λi v O E Q hi J q hq=>?_) (λh' M q k=>?_)
 .show ⟨λj N=>⟨?_,vQ (z j N) λo e=>k _ o (ay e) e⟩,#[],STab.empty L,rfl,λe he=>by simp at he,λk z=>by simp[cM]at z⟩;let(o,_,_,L,_):=z j N;exact ay L
 .rw[hv i v J];exact SetT.add hu hi Y q hq
 .let(_,es,U,hz,_):=q;exact h h' M es U hz k
end
section
variable {prog:AK} {w:World} {A:AM} {E:AG} {s:AI} {d:AQ} {es:Array (Int×AN)}
theorem XQ {Q:AG} (x:STab s.heap d es) (g:(es.size:Int)<2 ^ 63) (q:Q (.int es.size (s.toks+1)) {s with toks:=s.toks+1+1}):wpAny (model prog w) A (call (.builtin "len") [.ref d]) Q E s:=by let(ep,t,z,T,_):=x;show Calls.call_function_entry kind_len plain_len entry_len (args_len1 _) ?_;exact wpAny_len_body_set z ⟨rfl,rfl,rfl⟩ rfl T.fits g q
theorem Fv{prog:AK}{w:World}:∀{ns:List Int}{g:AB},Vals (ns.map V.int) g->ItemsAre (intKind prog w) ns g
 |[],_,h=>by cases h;exact .nil
 |n::ns,_,h=>by
  cases h with
  |cons r t=>
   let(q,rfl):=r;exact .cons (intKind_is prog w n q) (Fv t)
end
section
variable {X:Cx}
def lH(l:AQ)(n:Nat):HO:=.ext λh=>∃es,STab h l es/\es.size=n
def gC(vs:List (List Int)):List (List Int):=vs.foldl eQ []
theorem XS(vs:List (List Int)):(gC vs)⁻¹<=vs⁻¹:=by
 have go:∀(vs g:List (List Int)),(vs.foldl eQ g)⁻¹<=g⁻¹+vs⁻¹:=by
  intro vs;induction vs with
  |nil=>intro g;exact av _
  |cons v vs q=>
   intro g;have h1:=q (eQ g v);have h2:(eQ g v)⁻¹<=g⁻¹+1:=by
    unfold eQ;split
    .omega
    .rw[ax];exact av _
   rw[ft,ca];lia
 have:=go vs [];rwa [gx,Nat.zero_add]at this
theorem XX(vs:List (List Int)):cM (λi=>vs.getD i []) vs⁻¹=gC vs:=by
 have go:∀n,n<=vs⁻¹->cM (λi=>vs.getD i []) n=gC (vs.take n):=by
  intro n;induction n with
  |zero=>intro _;rfl
  |succ n q=>
   intro hn;have g:n<vs⁻¹:=hn;rw[rE,q (Nat.le_of_succ_le hn),List.take_succ_eq_append_getElem g];unfold gC;rw[List.foldl_append];change _=eQ _ vs[n];rw[bP,ar g];rfl
 have:=go vs⁻¹ (av _);rw[dQ]at this;exact this
theorem X3 (hc:X.calm=true) (hu:X.A.in1.in1.in1.units<cLine):bj X (.type "set") (λxs H Q=>∃(p:AQ) (as:List AQ) (vs:List (List Int)),xs=[.ref p]/\SqL X.K H p (as.map V.ref)/\as⁻¹=vs⁻¹/\
  (∀(i:Nat)(a:AQ)(v:List Int),as[i]?=-a->vs[i]?=-v->SqT X.K H a (v.map V.int))/\as⁻¹<=200/\∀l,H l=none->Q (.ref l) (upd H l (lH l (gC vs)⁻¹))):=by
 intro p9 s Y H xs us Q I r h;let(p,as,vs,rfl,hq,hl,ht,hz,q):=h;let(u,rfl,ru):=vals1 r;cases ru;let(g,rv,pl,_):=I.list hq;have hlen:g⁻¹=as⁻¹:=by rw[<-rv⁻¹];simp
 have U:∀(i:Nat)(v:AN),g[i]?=-v->∃a,as[i]?=-a/\v=.ref a:=by
  have go:∀(as:List AQ)(g:AB),Vals (as.map V.ref) g->∀(i:Nat)(v:AN),g[i]?=-v->∃a,as[i]?=-a/\v=.ref a:=by
   intro as;induction as with
   |nil=>intro g h i v L;cases h;simp at L
   |cons a as ih=>
    intro g h i v L;cases h with
    |cons r t=>
     cases i with
     |zero=>cases r;cases L;exact⟨a,rfl,rfl⟩
     |succ i=>exact ih _ t i v L
  exact go as g rv
 show XN (adr:=λi=>as.getD i 0) (val:=λi=>vs.getD i []) (I.ok.hd hc) hu pl.isList (λi v e=>?_) (λi hi=>?_) (by rw[am];lia) λh' tk es hS he hk=>?_
 .rw[List.getElem?_toArray]at e;let(a,ha,rfl):=U i v e;rw[bP,ha];rfl
 .rw[am]at hi;have h1:i<as⁻¹:=by lia
  have h2:i<vs⁻¹:=by lia
  have e1:=ar h1;have e2:=ar h2;let(its',r',(o,ho,O,n,hd),_):=I.tuple (ht i _ _ e1 e2);rw[bP,bP,e1,e2];exact⟨o,its'.toArray,n,ho,O,hd,by simpa using Fv r'⟩
 .have ez:g.toArray.size=vs⁻¹:=by rw[am];lia
  rw[ez,XX]at he;show⟨.ref (~~~s),_,I.laid (t':=tk) (λb o e=>hk b o (ay e) e) (av _) (show ObjOk X.prog X.w _ _ _ (lH (~~~s) (gC vs)⁻¹) from⟨⟨es,hS,he⟩,?_,λh1 h2 z k=>?_⟩),rfl,q _ (I.hok.fresh (av _))⟩
  .let(ep,t,ho,_):=hS;exact⟨_,ho⟩
  .let(N,(M,t1,ho1,J),z1):=z;exact⟨N,⟨M,t1,k _ ho1,J⟩,z1⟩
theorem X4:bj X (.builtin "len") (λxs H Q=>∃a n,xs=[V.ref a]/\H a=-(lH a n)/\n<=1000/\Q (.int n) H):=by intro p9 s Y H xs L Q I r h;let(a,n,rfl,z,hn,q):=h;let(u,rfl,J):=vals1 r;cases J;let(es,g,he):=(show ObjOk X.prog X.w H s.heap a (lH a n) from I.hok a _ z).1;exact XQ g (!0) ⟨.int n,H,(I.tok _).tok _,⟨_,by rw[he]⟩,q⟩
end
end L2
namespace HT
open PySem PySem.Spec PyProof.Rows Builtin
def X5(l:AQ)(q:Array AN)(n:Nat)(z:Option AQ)(L:Array (Option AN))(t:Tok)(J:q.isEmpty=false):
  Meets (Builtin.«tuple.__mul__» ⟨[.ref l,.int 0 t],[]⟩) (λy R s=>s.heap.get? l=-{cls:=.type "tuple",dict:=z,data:=.seq q n,slots:=L}/\
   R (.ok (.ret (.ref (~~~s)))) {s with heap:=s.heap.push {cls:=.type "tuple",data:=.seq #[]}}):=
 .of_wp λprog w A R s h=>by
  let(M,g,d,O,N):=s;let(hl,h):=h;wp_walk
  exact⟨_,rfl,h⟩
def X6(l:AQ)(q:Array AN)(n:Nat)(z:Option AQ)(J:Array (Option AN))(t:Tok):
  Meets (Builtin.«tuple.__mul__» ⟨[.ref l,.int 1 t],[]⟩) (λy R s=>s.heap.get? l=-{cls:=.type "tuple",dict:=z,data:=.seq q n,slots:=J}/\
   R (.ok (.ret (.ref l))) s):=
 .of_wp λprog w A R s h=>by
  let(L,g,d,N,M):=s;let(hl,h):=h;wp_walk
  exact⟨_,rfl,h⟩
end HT
namespace L2
open PySem PySem.Spec PyProof.Rows
section
variable {X:Cx}
def X7(K:PF):R2:=λx y H Q=>∃(l:AQ)(k:Int)(xs:AR),x=.ref l/\y=.int k/\SqT K H l xs/\xs≠[]/\((k=1/\Q (.ref l) H)\/(k=0/\∀p,H p=none->Q (.ref p) (upd H p (.tup []))))
theorem Fw:OpR X (binaryOp .Mult) (X7 X.K):=by
 intro p9 s Y H x y v u Q I rx ry h;let(l,k,xs,rfl,rfl,O,L,q):=h;cases rx;let(t,rfl):=ry;let(g,r,pt,_):=I.tuple O;let((cls,J,data,M),z,hc,n,N):=id pt;simp only at hc N;subst hc N;have hl:=r⁻¹;have he:g.toArray.isEmpty=false:=by
  cases g with
  |nil=>exact absurd (cw.mp hl) L
  |cons _ _=>rfl
 show wpAny_binaryOp_repeat_ref (T:="tuple") (U:="int") (!1) ⟨_,z,rfl⟩ (λs'=>typeIs_int s' k t) HT.Dv F.fills_int_mul gT HT.Dw F.slot_int_index.lookup
  (fS gT (typeIs_int s k t) F.entry_int_rmul (F.args_int_rmul_2 _ _) (HT.Dy k t l g.toArray n J M) ⟨z,rfl,⟨_,z,rfl⟩,?_⟩)
 rcases q with⟨rfl,q⟩|⟨rfl,q⟩
 .exact fS PySem.F.slot_tuple_mul ⟨_,z,rfl⟩ PySem.F.entry_tuple_mul (PySem.F.args_tuple_mul_2 _ _) (HT.X6 l g.toArray n J M t) ⟨z,.ref l,H,I,rfl,q⟩
 .show fS PySem.F.slot_tuple_mul ⟨_,z,rfl⟩ PySem.F.entry_tuple_mul (PySem.F.args_tuple_mul_2 _ _) (HT.X5 l g.toArray n J M t he) ⟨z,?_⟩;show⟨.ref (~~~s),_,I.laid (t':=s.toks) (o:=.tup []) (λb ob q=>ag _ q) (av _) ?_,rfl,q _ (I.hok.fresh (av _))⟩;exact⟨ck _,[],.nil,IsTupX.new _ _⟩
end
end L2
namespace RF
open PySem PySem.Spec PyProof.Rows L2
inductive D where
 |non |bl (b:Bool) |int (i:Int) |str (l:AA) |tup (xs:List D) |lst (xs:List D) |ref (a:AQ) |scr (ns:List Int) |exn (C:AL) |exa (C f:AL) (d:D) |obj (C f:AL) (q:AQ) |dct (ks:List (List Int)) (ds:List D)
 deriving Inhabited
abbrev AS:=List D
inductive DO where
 |lst (xs:AS)
 |dct (ks:List (List Int)) (ds:AS)
 deriving Inhabited
abbrev DH:=AQ->Option DO
abbrev AT:=D->DH->Prop
def aP(G:DH)(a:AQ)(o:DO):DH:=λb=>if b=a then some o else G b
def iD(G:DH)(a:AQ):DH:=λb=>if b=a then none else G b
def bG{G:DH}{a:AQ}{o:DO}:aP G a o a=-o:=if_pos rfl
def cN{G:DH}{a b:AQ}{o:DO}(h:b≠a):aP G a o b=G b:=if_neg h
def vR{G:DH}{a:AQ}:iD G a a=none:=if_pos rfl
def vU{G:DH}{a b:AQ}(h:b≠a):iD G a b=G b:=if_neg h
def X8{G:DH}{a:AQ}{o u:DO}:aP (aP G a o) a u=aP G a u:=by funext b;unfold aP;split<;>rfl
def Fx{G:DH}{a:AQ}{o:DO}(h:G a=none):iD (aP G a o) a=G:=by
 funext b;unfold aP iD;split
 .rename_i e;rw[e,h]
 .rename_i e;exact if_neg e
def rF{G:DH}{a b:AQ}{o:DO}(h:G a=-o)(h':G b=none):a≠b:=by intro e;subst e;rw[h]at h';cases h'
abbrev sz:Nat:=1000000
abbrev FZ:=AQ->Prop
def FzL(H:Hp)(F:FZ)(a:AQ)(vs:AR):Prop:=F a/\H a=-(.lst vs)
def FzL.sq{K:PF}{H:Hp}{F:FZ}{a:AQ}{vs:AR}(h:FzL H F a vs):SqL K H a vs:=.inl (.inl h.2)
structure TpT(K:PF)(H:Hp)(a:AQ)(vs:AR):Prop where
 it:H a=some (.tup vs)
def TpT.sq{K:PF}{H:Hp}{a:AQ}{vs:AR}(h:TpT K H a vs):SqT K H a vs:=.inl (.inl h.it)
def ScL(K:PF)(H:Hp)(a:AQ)(vs:AR):Prop:=
 (∃o,H a=-(.frz o (.lst vs)))\/
  ∃(o:Obj) (its:Array AN) (n:Nat),K.lookup a=-o/\o.cls=.type "list"/\o.dict=none/\o.data=.seq its n/\its.size<=sizeLine/\Vals vs its.toList
def ScL.sq{K:PF}{H:Hp}{a:AQ}{vs:AR}(h:ScL K H a vs):SqL K H a vs:=by
 rcases h with⟨o,h⟩|h
 .exact .inl (.inr ⟨o,h⟩)
 .exact .inr h
def aV(k:List Int):List Key:=k.map Sum.inl
def FzO(H:Hp)(F:FZ)(a c dx:AQ)(f:Str)(q:AQ):Prop:=F a/\H a=-(.ins c dx [(f,.ref q)])
mutual
def Rep(K:PF)(H:Hp)(F:FZ):D->V->Prop
 |.non,v=>v=.non
 |.bl b,v=>v=.bl b
 |.int i,v=>v=.int i
 |.str l,v=>v=.str (tx l)/\l⁻¹<=sz
 |.tup ds,v=>∃a vs,v=.ref a/\TpT K H a vs/\Reps K H F ds vs
 |.lst ds,v=>∃a vs,v=.ref a/\FzL H F a vs/\Reps K H F ds vs
 |.ref a,v=>v=.ref a
 |.scr ns,v=>∃a,v=.ref a/\ScL K H a (ns.map V.int)
 |.obj C f q,v=>∃a c dx,v=.ref a/\FzO H F a c dx (⇑f) q/\PySem.W.nsIn K mainGlobals (⇑C)=-(-(.ref c))
 |.exa C f d,v=>∃a c dx ob od,∃(y:AQ)(u:V),v=.ref a/\(H a=-(.frz ob (.own y))/\ob.cls=.ref c/\ob.dict=-dx/\PySem.W.notCls ob=true)/\H dx=-(.frz od (.xd [(⇑f,u)]))/\Rep K H F d u/\PySem.W.nsIn K mainGlobals (⇑C)=-(-(.ref c))
 |.dct ks ds,v=>∃(a:AQ)(kv:List (List Key×V)),v=.ref a/\(F a/\H a=-(.dT kv))/\kv.map (·.1)=ks.map aV/\Reps K H F ds (kv.map (·.2))
 |.exn C,v=>∃a c,v=.ref a/\XO H a c/\PySem.W.nsIn K mainGlobals (⇑C)=-(-(.ref c))
def Reps(K:PF)(H:Hp)(F:FZ):AS->AR->Prop
 |[],vs=>vs=[]
 |d::ds,vs=>∃v r,vs=v::r/\Rep K H F d v/\Reps K H F ds r
end
structure Ext(H:Hp)(F:FZ)(H':Hp)(F':FZ):Prop where
 sub:∀a,F a->F' a
 keep:∀a,F a->H' a=H a
 tups:∀a xs,H a=some (.tup xs)->H' a=some (.tup xs)
 frzs:∀a o u,H a=some (.frz o u)->H' a=some (.frz o u)
def Ext.refl(H:Hp)(F:FZ):Ext H F H F:=⟨λz h=>h,λz z=>rfl,λz z h=>h,λz z z h=>h⟩
def Ext.trans{H H1 H2:Hp}{F g q:FZ}(a:Ext H F H1 g)(b:Ext H1 g H2 q):Ext H F H2 q:=
 ⟨λc h=>b.sub c (a.sub c h),λc h=>(b.keep c (a.sub c h)).trans (a.keep c h),λc xs h=>b.tups c xs (a.tups c xs h),λc o u h=>b.frzs c o u (a.frzs c o u h)⟩
section
variable {K:PF} {H H':Hp} {F F':FZ}
theorem TpT.ext{a:AQ}{vs:AR}(x:Ext H F H' F')(h:TpT K H a vs):TpT K H' a vs:=⟨x.tups _ _ h.it⟩
theorem FzL.ext{a:AQ}{vs:AR}(x:Ext H F H' F')(h:FzL H F a vs):FzL H' F' a vs:=⟨x.sub _ h.1,(x.keep _ h.1).trans h.2⟩
theorem ScL.ext{a:AQ}{vs:AR}(x:Ext H F H' F')(h:ScL K H a vs):ScL K H' a vs:=by
 rcases h with⟨o,h⟩|h
 .exact .inl ⟨o,x.frzs _ _ _ h⟩
 .exact .inr h
mutual
theorem Rep.ext(x:Ext H F H' F'):∀{d:D}{v:V},Rep K H F d v->Rep K H' F' d v
 |.non,_,h=>h
 |.bl _,_,h=>h
 |.int _,_,h=>h
 |.str _,_,h=>h
 |.tup _,_,⟨a,vs,e,q,r⟩=>⟨a,vs,e,TpT.ext x q,Reps.ext x r⟩
 |.lst _,_,⟨a,vs,e,q,r⟩=>⟨a,vs,e,FzL.ext x q,Reps.ext x r⟩
 |.ref _,_,h=>h
 |.scr _,_,⟨a,e,q⟩=>⟨a,e,ScL.ext x q⟩
 |.obj _ _ _,_,⟨a,c,dx,e,⟨hf,hh⟩,n⟩=>⟨a,c,dx,e,⟨x.sub _ hf,(x.keep _ hf).trans hh⟩,n⟩
 |.dct _ _,_,⟨a,kv,e,⟨hf,hh⟩,hk,t⟩=>⟨a,kv,e,⟨x.sub _ hf,(x.keep _ hf).trans hh⟩,hk,Reps.ext x t⟩
 |.exn _,_,⟨a,c,e,⟨o,y,q,hc⟩,n⟩=>⟨a,c,e,⟨o,y,x.frzs _ _ _ q,hc⟩,n⟩
 |.exa _ _ _,_,⟨a,c,dx,ob,od,y,u,e,⟨q,h1,h2,h3⟩,qd,r,n⟩=>⟨a,c,dx,ob,od,y,u,e,⟨x.frzs _ _ _ q,h1,h2,h3⟩,x.frzs _ _ _ qd,Rep.ext x r,n⟩
theorem Reps.ext(x:Ext H F H' F'):∀{ds:AS}{vs:AR},Reps K H F ds vs->Reps K H' F' ds vs
 |[],_,h=>h
 |_::_,_,⟨v,r,e,h,t⟩=>⟨v,r,e,Rep.ext x h,Reps.ext x t⟩
end
theorem Reps.nil:Reps K H F [] []:=rfl
theorem Reps.cons{d:D}{v:V}{ds:AS}{vs:AR}(h:Rep K H F d v)(t:Reps K H F ds vs):Reps K H F (d::ds) (v::vs):=⟨v,vs,rfl,h,t⟩
theorem Reps.length:∀{ds:AS}{vs:AR},Reps K H F ds vs->ds⁻¹=vs⁻¹
 |[],_,h=>by cases h;rfl
 |_::_,_,⟨v,r,e,_,t⟩=>by subst e;simp[Reps.length t]
theorem Reps.append:∀{ds es:AS}{vs g:AR},Reps K H F ds vs->Reps K H F es g->Reps K H F (ds++es) (vs++g)
 |[],_,_,_,h,t=>by cases h;exact t
 |_::_,_,_,_,⟨v,r,e,h,t⟩,t'=>by subst e;exact⟨v,_,rfl,h,Reps.append t t'⟩
theorem Reps.get:∀{ds:AS}{vs:AR}{i:Nat}{d:D},Reps K H F ds vs->ds[i]?=-d->∃v,vs[i]?=-v/\Rep K H F d v
 |[],_,_,_,_,e=>by simp at e
 |_::_,_,0,_,⟨v,r,e,h,t⟩,q=>by subst e;simp at q;subst q;exact⟨v,rfl,h⟩
 |_::_,_,i+1,d,⟨v,r,e,h,t⟩,q=>by
  subst e;let(u,h1,h2):=Reps.get (i:=i) (d:=d) t (!!q);exact⟨u,!!h1,h2⟩
theorem Reps.set{d:D}{v:V}(r:Rep K H F d v):∀{ds:AS}{vs:AR}(i:Nat),Reps K H F ds vs->Reps K H F (ds.set i d) (vs.set i v)
 |[],_,_,h=>by cases h;exact rfl
 |_::_,_,0,⟨v',r',e,h,t⟩=>by subst e;exact⟨_,_,rfl,r,t⟩
 |_::_,_,i+1,⟨v',r',e,h,t⟩=>by subst e;exact⟨_,_,rfl,h,Reps.set r i t⟩
theorem Reps.take:∀{ds:AS}{vs:AR}(n:Nat),Reps K H F ds vs->Reps K H F (ds.take n) (vs.take n)
 |_,_,0,_=>rfl
 |[],_,_+1,h=>by cases h;exact rfl
 |_::_,_,n+1,⟨v',r',e,h,t⟩=>by subst e;exact⟨_,_,rfl,h,Reps.take n t⟩
theorem Reps.drop:∀{ds:AS}{vs:AR}(n:Nat),Reps K H F ds vs->Reps K H F (ds.drop n) (vs.drop n)
 |_,_,0,h=>h
 |[],_,_+1,h=>by cases h;exact rfl
 |_::_,_,n+1,⟨v',r',e,h,t⟩=>by subst e;exact Reps.drop n t
theorem Reps.cut{ds:AS}{vs:AR}(h:Reps K H F ds vs)(lo hi:Option Int):
  Reps K H F ((ds.drop (HT.sIx ds⁻¹ 0 lo)).take (HT.sIx ds⁻¹ ds⁻¹ hi-HT.sIx ds⁻¹ 0 lo)) (eO vs lo hi):=by
 unfold eO;rw[<-h⁻¹];exact(h.drop _).take _
theorem Reps.reverse:∀{ds:AS}{vs:AR},Reps K H F ds vs->Reps K H F ds.reverse vs.reverse
 |[],_,h=>by cases h;exact rfl
 |_::_,_,⟨v',r',e,h,t⟩=>by
  subst e;rw[List.reverse_cons,List.reverse_cons];exact Reps.append (Reps.reverse t) (Reps.cons h rfl)
theorem Reps.rep{ds:AS}{vs:AR}(h:Reps K H F ds vs):∀k:Nat,Reps K H F (List.replicate k ds).flatten (List.replicate k vs).flatten
 |0=>rfl
 |k+1=>by
  rw[cr,cr,e8,e8];exact Reps.append h (Reps.rep h k)
end
def Yb(K:PF)(H:Hp)(F:FZ)(a:AQ):DO->Prop
 |.lst ds=>∃vs,H a=-(.lst vs)/\Reps K H F ds vs
 |.dct ks ds=>∃kv:List (List Key×V),H a=-(.dT kv)/\kv.map (·.1)=ks.map aV/\Reps K H F ds (kv.map (·.2))
structure R(K:PF)(H:Hp)(F:FZ)(G:DH):Prop where
 fz:∀a,F a->G a=none/\∃o,H a=some o
 ob:∀a o,G a=some o->Yb K H F a o
section
variable {K:PF} {H:Hp} {F:FZ} {G:DH} {p:AQ} {vs:AR} {ds:AS}
theorem R.lst(r:R K H F G)(h:G p=-(.lst ds)):∃vs,H p=-(.lst vs)/\Reps K H F ds vs:=r.ob p _ h
theorem R.dct{ks:List (List Int)}(r:R K H F G)(h:G p=-(.dct ks ds)):∃kv:List (List Key×V),H p=-(.dT kv)/\kv.map (·.1)=ks.map aV/\Reps K H F ds (kv.map (·.2)):=r.ob p _ h
theorem R.free(r:R K H F G)(h:H p=none):G p=none:=by
 cases e:G p with
 |none=>rfl
 |some o=>
  cases o with
  |lst ds=>let(vs,q,_):=r.lst e;rw[h]at q;cases q
  |dct ks ds=>let(kv,q,_):=r.dct e;rw[h]at q;cases q
theorem R.notF(r:R K H F G)(h:H p=none):¬F p:=λf=>by
 let(_,vs,q):=r.fz p f;rw[h]at q;cases q
theorem cY{o:HO}(r:R K H F G)(h:H p=none):Ext H F (upd H p o) F:=
 ⟨λz f=>f,λa f=>aK λe=>r.notF h (by rw[<-e];exact f),λa xs q=>by rw[aK (bF q h)];exact q,λa ob u q=>by rw[aK (bF q h)];exact q⟩
theorem R.new{o:HO}(r:R K H F G)(h:H p=none):R K (upd H p o) F G:=by
 have x:Ext H F (upd H p o) F:=cY r h;show⟨λa f=>⟨(r.fz a f).1,?_⟩,λa u e=>?_⟩
 .let(_,vs,q):=r.fz a f;exact⟨vs,by rw[x.keep a f];exact q⟩
 .cases u with
  |lst ds=>
   let(vs,q,t):=r.lst e;exact⟨vs,by rw[aK (bF q h)];exact q,Reps.ext x t⟩
  |dct ks ds=>
   let(kv,q,g,t):=r.dct e;exact⟨kv,by rw[aK (bF q h)];exact q,g,Reps.ext x t⟩
theorem R.newL(r:R K H F G)(h:H p=none)(t:Reps K H F ds vs):R K (upd H p (.lst vs)) F (aP G p (.lst ds)):=by
 have x:Ext H F (upd H p (.lst vs)) F:=cY r h;have q:R K (upd H p (.lst vs)) F G:=r.new h;show⟨λa f=>⟨?_,(q.fz a f).2⟩,λa u e=>?_⟩
 .rw[cN λe=>r.notF h (by rw[<-e];exact f)];exact(r.fz a f).1
 .by_cases g:a=p
  .subst g;rw[bG]at e;cases e;exact⟨vs,cW,Reps.ext x t⟩
  .rw[cN g]at e;exact q.ob a u e
theorem vV(r:R K H F G)(h:H p=none):Ext H F (upd H p (.lst vs)) (λa=>F a\/a=p):=
 ⟨λz f=>.inl f,(cY r h).keep,(cY r h).tups,(cY r h).frzs⟩
theorem R.newF(r:R K H F G)(h:H p=none):R K (upd H p (.lst vs)) (λa=>F a\/a=p) G:=by
 have x:Ext H F (upd H p (.lst vs)) (λa=>F a\/a=p):=vV r h;show⟨λa f=>?_,λa u e=>?_⟩
 .rcases f with f|f
  .let(g,z,q):=r.fz a f;exact⟨g,z,by rw[x.keep a f];exact q⟩
  .subst f;exact⟨r.free h,_,cW⟩
 .cases u with
  |lst ds=>
   let(z,q,t):=r.lst e;exact⟨z,by rw[aK (bF q h)];exact q,Reps.ext x t⟩
  |dct ks ds=>
   let(kv,q,J,t):=r.dct e;exact⟨kv,by rw[aK (bF q h)];exact q,J,Reps.ext x t⟩
theorem Yc(r:R K H F G)(h:H p=none)(t:Reps K H F ds vs):Rep K (upd H p (.lst vs)) (λa=>F a\/a=p) (.lst ds) (.ref p):=
 ⟨p,vs,rfl,⟨.inr rfl,cW⟩,Reps.ext (vV r h) t⟩
theorem vW(r:R K H F G)(h:H p=none)(t:Reps K H F ds vs):Rep K (upd H p (.tup vs)) F (.tup ds) (.ref p):=
 ⟨p,vs,rfl,⟨cW⟩,Reps.ext (cY r h) t⟩
theorem jB{g:AS}{o:HO}(r:R K H F G)(h:G p=-(.lst g)):Ext H F (upd H p o) F:=by
 let(J,q,_):=r.lst h;show⟨λy f=>f,λa f=>aK λe=>?_,λa xs z=>?_,λa ob u z=>?_⟩
 .subst e;rw[(r.fz a f).1]at h;cases h
 .rw[aK (jr z q (by intro w;cases w))];exact z
 .rw[aK (jr z q (by intro w;cases w))];exact z
theorem R.write{J:AS}(r:R K H F G)(h:G p=-(.lst J))(t:Reps K H F ds vs):R K (upd H p (.lst vs)) F (aP G p (.lst ds)):=by
 have x:Ext H F (upd H p (.lst vs)) F:=jB r h;show⟨λa f=>⟨?_,?_⟩,λa u e=>?_⟩
 .rw[cN λe=>by subst e;rw[(r.fz a f).1]at h;cases h];exact(r.fz a f).1
 .let(_,g,q):=r.fz a f;exact⟨g,by rw[x.keep a f];exact q⟩
 .by_cases z:a=p
  .subst z;rw[bG]at e;cases e;exact⟨vs,cW,Reps.ext x t⟩
  .rw[cN z]at e;cases u with
   |lst L=>
    let(g,q,t'):=r.lst e;exact⟨g,by rw[aK z];exact q,Reps.ext x t'⟩
   |dct ks ds=>
    let(kv,q,M,t'):=r.dct e;exact⟨kv,by rw[aK z];exact q,M,Reps.ext x t'⟩
theorem vX{J:List (List Int)}{g:AS}{o:HO}(r:R K H F G)(h:G p=-(.dct J g)):Ext H F (upd H p o) F:=by
 let(L,q,_):=r.dct h;show⟨λy f=>f,λa f=>aK λe=>?_,λa xs z=>?_,λa ob u z=>?_⟩
 .subst e;rw[(r.fz a f).1]at h;cases h
 .rw[aK (jr z q (by intro w;cases w))];exact z
 .rw[aK (jr z q (by intro w;cases w))];exact z
theorem R.dctAt{ks:List (List Int)}{kv:List (List Key×V)}(r:R K H F G)(x:Ext H F (upd H p (.dT kv)) F)(O:¬F p)(N:kv.map (·.1)=ks.map aV)(t:Reps K H F ds (kv.map (·.2))):R K (upd H p (.dT kv)) F (aP G p (.dct ks ds)):=by
 show⟨λa f=>⟨?_,?_⟩,λa u e=>?_⟩
 .rw[cN λe=>O (by rw[<-e];exact f)];exact(r.fz a f).1
 .let(_,g,q):=r.fz a f;exact⟨g,by rw[x.keep a f];exact q⟩
 .by_cases z:a=p
  .subst z;rw[bG]at e;cases e;exact⟨kv,cW,N,Reps.ext x t⟩
  .rw[cN z]at e;cases u with
   |lst J=>
    let(g,q,t'):=r.lst e;exact⟨g,by rw[aK z];exact q,Reps.ext x t'⟩
   |dct U J=>
    let(M,q,L,t'):=r.dct e;exact⟨M,by rw[aK z];exact q,L,Reps.ext x t'⟩
theorem R.notFD{q:List (List Int)}{g:AS}(r:R K H F G)(h:G p=-(.dct q g)):¬F p:=λf=>by rw[(r.fz p f).1]at h;cases h
theorem vY:Ext H F H (λa=>F a\/a=p):=⟨λz f=>.inl f,λz z=>rfl,λz z h=>h,λz z z h=>h⟩
theorem R.frz(r:R K H F G)(h:G p=-(.lst ds)):R K H (λa=>F a\/a=p) (iD G p):=by
 have x:Ext H F H (λa=>F a\/a=p):=vY;show⟨λa f=>?_,λa u e=>?_⟩
 .rcases f with f|f
  .let(g,z,q):=r.fz a f;show⟨?_,z,q⟩;by_cases J:a=p
   .rw[J];exact vR
   .rw[vU J];exact g
  .subst f;let(vs,q,_):=r.lst h;exact⟨vR,_,q⟩
 .by_cases J:a=p
  .rw[J,vR]at e;cases e
  .rw[vU J]at e;cases u with
   |lst L=>
    let(z,q,t'):=r.lst e;exact⟨z,q,Reps.ext x t'⟩
   |dct ks ds=>
    let(kv,q,M,t'):=r.dct e;exact⟨kv,q,M,Reps.ext x t'⟩
theorem Yd(r:R K H F G)(h:G p=-(.lst ds)):Rep K H (λa=>F a\/a=p) (.lst ds) (.ref p):=by let(vs,q,t):=r.lst h;exact⟨p,vs,rfl,⟨.inr rfl,q⟩,Reps.ext vY t⟩
end
def view(G:DH):D->D
 |.ref p=>match G p with|some (.lst ds)=>.lst ds|some (.dct ks ds)=>.dct ks ds|none=>.ref p
 |d=>d
def Rep.list{K:PF}{H:Hp}{F:FZ}{G:DH}{d:D}{v:V}{ds:AS}(r:R K H F G)(h:Rep K H F d v)(e:view G d=.lst ds):∃a vs,v=.ref a/\SqL K H a vs/\Reps K H F ds vs:=by
 cases d with
 |lst xs=>
  have z:D.lst xs=.lst ds:=e;cases z;let(a,vs,J,q,t):=h;exact⟨a,vs,J,q.sq,t⟩
 |ref p=>
  have L:v=.ref p:=h;unfold view at e;cases g:G p with
  |none=>simp only[g]at e;cases e
  |some o=>
   cases o with
   |lst xs=>
    simp only[g]at e;cases e;let(vs,q,t):=r.lst g;exact⟨p,vs,L,.inl (.inl q),t⟩
   |dct ks xs=>simp only[g]at e;cases e
 |_=>cases(show _=D.lst ds from e)
def fM{G:DH}{d:D}{ds:AS}(e:view G d=.tup ds):d=.tup ds:=by
 cases d with
 |ref p=>
  unfold view at e;cases g:G p with
  |none=>simp only[g]at e;cases e
  |some o=>cases o<;>(simp only[g]at e;cases e)
 |_=>exact e
def gD{G:DH}{d:D}{l:AA}(e:view G d=.str l):d=.str l:=by
 cases d with
 |ref p=>
  unfold view at e;cases g:G p with
  |none=>simp only[g]at e;cases e
  |some o=>cases o<;>(simp only[g]at e;cases e)
 |_=>exact e
def eU{G:DH}{d:D}{l:Int}(e:view G d=.int l):d=.int l:=by
 cases d with
 |ref p=>
  unfold view at e;cases g:G p with
  |none=>simp only[g]at e;cases e
  |some o=>cases o<;>(simp only[g]at e;cases e)
 |_=>exact e
def Ye{G:DH}{d:D}{l:Bool}(e:view G d=.bl l):d=.bl l:=by
 cases d with
 |ref p=>
  unfold view at e;cases g:G p with
  |none=>simp only[g]at e;cases e
  |some o=>cases o<;>(simp only[g]at e;cases e)
 |_=>exact e
abbrev ak:=List (Option D)
def EnvR(K:PF)(H:Hp)(F:FZ):ak->L2.St->Prop
 |[],X=>X=[]
 |o::Y,X=>∃u g,X=u::g/\(∀d,o=-d->∃v,u=-v/\Rep K H F d v)/\EnvR K H F Y g
section
variable {K:PF} {H H':Hp} {F F':FZ}
theorem EnvR.ext(x:Ext H F H' F'):∀{Y:ak}{X:L2.St},EnvR K H F Y X->EnvR K H' F' Y X
 |[],_,h=>h
 |_::_,_,⟨u,τ,e,h,t⟩=>⟨u,τ,e,λd q=>by let(v,g,r):=h d q;exact⟨v,g,Rep.ext x r⟩,EnvR.ext x t⟩
theorem EnvR.get:∀{Y:ak}{X:L2.St}{i:Nat}{d:D},EnvR K H F Y X->Y[i]?=-(-d)->∃v,X[i]?=-(-v)/\Rep K H F d v
 |[],_,_,_,_,e=>by simp at e
 |_::_,_,0,d,⟨u,τ,e,h,t⟩,q=>by
  subst e;let(v,g,r):=h d (!!q);exact⟨v,by simp[g],r⟩
 |_::_,_,i+1,d,⟨u,τ,e,h,t⟩,q=>by
  subst e;let(v,g,r):=EnvR.get (i:=i) (d:=d) t (!!q);exact⟨v,!!g,r⟩
theorem EnvR.set{d:D}{v:V}(r:Rep K H F d v):∀{Y:ak}{X:L2.St}(i:Nat),EnvR K H F Y X->EnvR K H F (Y.set i (-d)) (X.set i (-v))
 |[],_,_,h=>by cases h;exact rfl
 |_::_,_,0,⟨u,τ,e,h,t⟩=>by subst e;exact⟨_,_,rfl,λd' q=>⟨v,rfl,by cases q;exact r⟩,t⟩
 |_::_,_,i+1,⟨u,τ,e,h,t⟩=>by subst e;exact⟨_,_,rfl,h,EnvR.set r i t⟩
theorem EnvR.none:∀(n:Nat),EnvR K H F (List.replicate n Option.none) (List.replicate n Option.none)
 |0=>rfl
 |n+1=>⟨_,_,rfl,λd q=>(nomatch q),EnvR.none n⟩
theorem EnvR.start:∀{ds:AS}{vs:AR}(n:Nat),Reps K H F ds vs->EnvR K H F (ds.map some++List.replicate n Option.none) (vs.map some++List.replicate n Option.none)
 |[],_,n,h=>by cases h;exact EnvR.none n
 |d::ds,_,n,⟨v,r,e,h,t⟩=>by
  subst e;exact⟨_,_,rfl,λd' q=>⟨v,rfl,by cases q;exact h⟩,EnvR.start n t⟩
theorem EnvR.cap{Y:ak}{X:L2.St}(h:EnvR K H F Y X):∀(cap:List (Option Nat)),EnvR K H F (cap.map λo=>match o with|Option.none=>Option.none|some j=>(Y[j]?).join) (d7 cap X)
 |[]=>rfl
 |Option.none::cap=>⟨_,_,rfl,λd q=>(nomatch q),EnvR.cap h cap⟩
 |some j::cap=>by
  show⟨_,_,rfl,λd q=>?_,EnvR.cap h cap⟩;have g:(Y[j]?).join=-d:=q;have z:Y[j]?=-(-d):=by
   cases e:Y[j]? with
   |none=>rw[e]at g;cases g
   |some o=>rw[e]at g;exact fb some g
  let(v,J,r):=h.get z;exact⟨v,by change(X[j]?).join=-v;rw[J];rfl,r⟩
end
mutual
def deq:D->D->Bool
 |.non,.non=>true
 |.bl a,.bl b=>a==b
 |.bl a,.int b=>(if a then 1 else 0)==b
 |.int a,.bl b=>a==(if b then 1 else 0)
 |.int a,.int b=>a==b
 |.str a,.str b=>a==b
 |.tup a,.tup b=>bM a b
 |.lst a,.lst b=>bM a b
 |_,_=>false
def bM:AS->AS->Bool
 |[],[]=>true
 |a::as,b::bs=>deq a b&&bM as bs
 |_,_=>false
end
mutual
/-- no tracked object within -/
def nr:D->Bool
 |.tup a=>nrs a
 |.lst a=>nrs a
 |.ref _=>false
 |.scr _=>false
 |.exn _=>false
 |.exa _ _ _=>false
 |.obj _ _ _=>false
 |.dct _ _=>false
 |_=>true
def nrs:AS->Bool
 |[]=>true
 |a::as=>nr a&&nrs as
end
mutual
def dpt:D->Nat
 |.tup a=>bf a+1
 |.lst a=>bf a+1
 |_=>0
def bf:AS->Nat
 |[]=>0
 |a::as=>max (dpt a) (bf as)
end
def truth:D->Option Bool
 |.non=>-false
 |.bl b=>-b
 |.int i=>-(i != 0)
 |.str l=>-(!l.isEmpty)
 |.tup l=>-(!l.isEmpty)
 |.lst l=>-(!l.isEmpty)
 |_=>none
def cut{g:Type}(xs:List g)(lo hi:Option Int):List g:=(xs.drop (HT.sIx xs⁻¹ 0 lo)).take (HT.sIx xs⁻¹ xs⁻¹ hi-HT.sIx xs⁻¹ 0 lo)
def reps{g:Type}(xs:List g)(n:Nat):List g:=(List.replicate n xs).flatten
def mk(fz:Bool)(xs:AS)(G:DH)(k:AT):Prop:=
 match fz with
 |true=>k (.lst xs) G
 |false=>∀p,G p=none->k (.ref p) (aP G p (.lst xs))
def jC(fz:Bool)(a b:D)(G:DH)(k:AT):Prop:=
 match a with
 |.int i=>(match b with |.int j=>k (.int (i+j)) G|_=>False)
 |.str x=>(match b with |.str y=>x⁻¹+y⁻¹<=sz/\k (.str (x++y)) G|_=>False)
 |.lst x=>(match b with |.lst y=>x⁻¹+y⁻¹<=sz/\mk fz (x++y) G k|_=>False)
 |.tup x=>(match b with |.tup y=>x⁻¹+y⁻¹<=sz/\k (.tup (x++y)) G|_=>False)
 |_=>False
def gF(a b:D)(p:Int->Int->Prop):Prop:=
 match a with
 |.int i=>(match b with |.int j=>p i j|_=>False)
 |_=>False
def jD(fz:Bool)(a b:D)(G:DH)(k:AT):Prop:=
 match b with
 |.int n=>(match a with |.int i=>CMul i n/\k (.int (i*n)) G |.str x=>0<=n/\n<=1000/\x⁻¹*n.toNat<=sz/\k (.str (reps x n.toNat)) G |.tup x=>0<=n/\n<=1000/\x≠[]/\x⁻¹*n.toNat<=sz/\k (.tup (reps x n.toNat)) G |.lst x=>0<=n/\n<=1000/\x⁻¹*n.toNat<=sz/\mk fz (reps x n.toNat) G k|_=>False)
 |_=>False
def cO(op:Operator)(fz:Bool)(a b:D)(G:DH)(k:AT):Prop:=
 match op with
 |.Add=>jC fz a b G k
 |.Sub=>gF a b λi j=>k (.int (i-j)) G
 |.Mult=>jD fz a b G k
 |.FloorDiv=>gF a b λi j=>(0<j/\j<1152921504606846976)/\k (.int (i/j)) G
 |.Mod=>gF a b λi j=>0<j/\k (.int (i%j)) G
 |.Pow=>gF a b λi j=>qQ i j/\k (.int (i ^ j.toNat)) G
 |_=>False
def aZ:AS->Option (List Int)
 |[]=>-[]
 |.int b::r=>match aZ r with|some s=>-(b::s)|none=>none
 |_=>none
def kIx(ks:List (List Int))(n:List Int):Option Nat:=ks.findIdx? λk=>decide (k=n)
def cz(d:D)(k:List Int->Prop):Prop:=match d with |.tup l=>(match aZ l with|some ns=>k ns|none=>False)|_=>False
def isE(d:D):Prop:=match d with |.lst []=>True|_=>False
def dO:AS->Option (List (List Int))
 |[]=>-[]
 |.tup l::r=>match aZ l,dO r with|some k,-ks=>-(k::ks)|_,_=>none
 |_::_=>none
def dH(ks:List (List Int)):List (List Int):=ks.foldl (λg k=>if k∈g then g else g++[k]) []
def dcK(d:D)(k:List (List Int)->Prop):Prop:=match d with |.lst ds=>(match dO ds with|some ks=>ks⁻¹<sz/\k ks|none=>False)|_=>False
def dput(ks:List (List Int))(ds:AS)(n:List Int)(x:D):DO:=match kIx ks n with|some i=>.dct ks (ds.set i x)|none=>.dct (ks++[n]) (ds++[x])
def isIn(x:D)(ys:AS):Bool:=ys.any λy=>deq y x
def Fy(a b:D):Prop:=nr a=true/\nr b=true/\min (dpt a) (dpt b)<=60
def inG(a:D)(l:AS):Prop:=nr a=true/\nrs l=true/\bf l<=60
def jE(a b:D)(k:Bool->Prop):Prop:=
 match a,b with
 |.int i,.int j=>k (decide (i<j))
 |.str i,.str j=>k (decide (i<j))
 |_,_=>False
def jF(a b:D)(k:Bool->Prop):Prop:=
 match a,b with
 |.int i,.int j=>k (decide (i<=j))
 |.str i,.str j=>k (!decide (j<i))
 |_,_=>False
def jG(a b:D)(k:Bool->Prop):Prop:=
 match a,b with
 |.int i,.int j=>k (decide (j<i))
 |_,_=>False
def jH(a b:D)(k:Bool->Prop):Prop:=
 match a,b with
 |.int i,.int j=>k (decide (j<=i))
 |_,_=>False
def vZ(a:D):Bool:=match a with |.non=>true|_=>false
def jJ(a b:D)(k:Bool->Prop):Prop:=
 match b with
 |.non=>k (vZ a)
 |.bl b=>(match a with |.bl a=>k (a==b)|_=>False)
 |_=>False
def jK(a b:D)(k:Bool->Prop):Prop:=
 match b with
 |.non=>k (!vZ a)
 |.bl b=>(match a with |.bl a=>k (a != b)|_=>False)
 |_=>False
def gf(a b:D)(k:Bool->Prop):Prop:=
 match b with
 |.str l=>(match a with |.str [c]=>k (l.contains c)|_=>False)
 |.lst l=>inG a l/\k (isIn a l)
 |.tup l=>inG a l/\k (isIn a l)
 |.dct ks _=>cz a λn=>k (kIx ks n).isSome
 |_=>False
def bh(op:CmpOp)(a b:D)(k:Bool->Prop):Prop:=
 match op with
 |.Eq=>Fy a b/\k (deq a b)
 |.NotEq=>Fy a b/\k (!deq a b)
 |.Lt=>jE a b k
 |.LtE=>jF a b k
 |.Gt=>jG a b k
 |.GtE=>jH a b k
 |.Is=>jJ a b k
 |.IsNot=>jK a b k
 |.In=>gf a b k
 |.NotIn=>gf a b λc=>k (!c)
def cZ(a i:D)(k:D->Prop):Prop:=
 match a,i with
 |.lst ds,.int i=>match atI ds i with|some d=>k d|none=>False
 |.tup ds,.int i=>match atI ds i with|some d=>k d|none=>False
 |.str l,.int i=>match atI l i with|some c=>k (.str [c])|none=>False
 |.dct ks ds,y=>cz y λn=>match kIx ks n with|some i=>(match ds[i]? with|some d=>k d|none=>False)|none=>False
 |_,_=>False
def eV(fz:Bool)(a:D)(lo hi:Option Int)(G:DH)(k:AT):Prop:=
 match a with
 |.lst ds=>mk fz (cut ds lo hi) G k
 |.scr ns=>mk fz ((cut ns lo hi).map .int) G k
 |.tup ds=>k (.tup (cut ds lo hi)) G
 |.str l=>k (.str (cut l lo hi)) G
 |_=>False
def iG(fz:Bool)(a y:D)(G:DH)(k:AT):Prop:=
 match a with
 |.lst ds=>y=.int (Neg.neg 1)/\mk fz ds.reverse G k
 |.tup ds=>y=.int (Neg.neg 1)/\k (.tup ds.reverse) G
 |_=>False
def bools:AS->Option (List Bool)
 |[]=>-[]
 |.bl b::r=>match bools r with|some s=>-(b::s)|none=>none
 |_=>none
def bC:AS->Option (List (AA))
 |[]=>-[]
 |.str b::r=>match bC r with|some s=>-(b::s)|none=>none
 |_=>none
def eX(s:AA):List (AA)->AA
 |[]=>[]
 |[x]=>x
 |x::y::r=>x++s++eX s (y::r)
inductive Bf where
 |len |all |any |int |tuple |sum |min |max |str |abs |min2
inductive Lf where
 |list |sorted
inductive Mf where
 |join |append |extend |idxT |pop
def v6(as:AS)(k:D->Prop):Prop:=
 match as with
 |[.lst ds]=>k (.int ds⁻¹)
 |[.tup ds]=>k (.int ds⁻¹)
 |[.str l]=>k (.int l⁻¹)
 |[.dct ks _]=>k (.int ks⁻¹)
 |_=>False
def rG(as:AS)(k:D->Prop):Prop:=
 match as with
 |[.lst ds]=>match bools ds with|some bs=>k (.bl (bs.all id))|none=>False
 |_=>False
def rH(as:AS)(k:D->Prop):Prop:=
 match as with
 |[.lst ds]=>match bools ds with|some bs=>k (.bl (bs.any id))|none=>False
 |_=>False
def rJ(as:AS)(k:D->Prop):Prop:=
 match as with
 |[.bl b]=>k (.int (if b then 1 else 0))
 |[.int i]=>k (.int i)
 |[.str l]=>match PySem.intText? (tx l) with|some n=>l⁻¹<=640/\k (.int n)|none=>False
 |_=>False
def v7(as:AS)(k:D->Prop):Prop:=
 match as with
 |[.lst ds]=>k (.tup ds)
 |[.tup ds]=>k (.tup ds)
 |_=>False
def v8(as:AS)(k:D->Prop):Prop:=
 match as with
 |[.lst ds]=>match aZ ds with|some ns=>k (.int ns.sum)|none=>False
 |_=>False
def lJ(as:AS)(k:D->Prop):Prop:=
 match as with
 |[.lst ds]=>match aZ ds with
  |some ns=>ns≠[]/\∀m,m∈ns->(∀a,a∈ns->m<=a)->k (.int m)
  |none=>match bC ds with
   |some g=>∀m,m∈g->(∀a,a∈g->¬a<m)->k (.str m)
   |none=>False
 |_=>False
def FJ(as:AS)(k:D->Prop):Prop:=match as with
 |[.int a]=>k (.int (if a<0 then Neg.neg a else a))
 |_=>False
def FN(as:AS)(k:D->Prop):Prop:=match as with
 |[.int a,.int b]=>k (.int (if b<a then b else a))
 |_=>False
def FP(as:AS)(k:D->Prop):Prop:=
 match as with
 |[.int a,.int b]=>k (.int (if b > a then b else a))
 |_=>False
def gG(m:Nat):AA:=(vC m).cps.toList
def v9(as:AS)(k:D->Prop):Prop:=
 match as with
 |[.int i]=>(0<=i/\i<100)/\k (.str (gG i.toNat))
 |_=>False
def opB:Bf->AS->(D->Prop)->Prop
 |.len=>v6
 |.all=>rG
 |.any=>rH
 |.int=>rJ
 |.tuple=>v7
 |.sum=>v8
 |.min=>lJ
 |.max=>FP
 |.abs=>FJ
 |.min2=>FN
 |.str=>v9
def wg(as:AS)(k:AS->Prop):Prop:=
 match as with
 |[.lst ds]=>k ds
 |[.tup ds]=>k ds
 |[.str l]=>k (l.map λc=>.str [c])
 |[.dct ks _]=>k (ks.map λn=>.tup (n.map .int))
 |_=>False
def lK(as:AS)(k:AS->Prop):Prop:=
 match as with
 |[.lst ds]=>match bC ds with|some ls=>ls⁻¹<64/\∀g:List (AA),g.Perm ls->PyProof.Rows.sortedS (g.map tx)=true->k (g.map D.str)|none=>False
 |[.tup ds]=>match aZ ds with|some ns=>ns⁻¹<64/\∀q:List Int,q.Perm ns->q.Pairwise (·<=·)->k (q.map D.int)|none=>False
 |_=>False
def putN(ks:List (AA))(k:AA):List (AA):=if k∈ks then ks else ks++[k]
def rK(g:List (AA)):List (AA):=g.foldl putN []
def jL(d:D)(k:D->Prop):Prop:=
 match d with
 |.lst ds=>match dO ds with|some ks=>ks⁻¹<=200/\k (.int ((dH ks)⁻¹:Nat))|none=>False
 |_=>False
def lL(d:D)(k:AS->Prop):Prop:=
 match d with
 |.lst ds=>match bC ds with|some ls=>(ls⁻¹<=1000/\(rK ls)⁻¹<=64)/\∀g:List (AA),g.Perm (rK ls)->k (g.map D.str)|none=>False
 |_=>False
def cP:Lf->AS->(AS->Prop)->Prop
 |.list=>wg
 |.sorted=>lK
def isT(t:AL)(d:D):Option Bool:=
 match d with
 |.non=>-false
 |.bl _=>-(t=="bool"||t=="int")
 |.int _=>-(t=="int")
 |.str _=>-(t=="str")
 |.tup _=>-(t=="tuple")
 |.lst _=>-(t=="list")
 |_=>none
def gh (t:AL):Bool:=t=="bool"||t=="int"||t=="str"||t=="tuple"||t=="list"
def rM(o:D)(as:AS)(G:DH)(k:AT):Prop:=
 match o,as with
 |.str s,[.lst ds]=>match bC ds with|some ls=>((ls.map (·.length)).sum+ls⁻¹*s⁻¹<=sz)/\k (.str (eX s ls)) G|none=>False
 |_,_=>False
def rN(o:D)(as:AS)(G:DH)(k:AT):Prop:=
 match o,as with
 |.ref p,[x]=>match G p with|some (.lst ds)=>ds⁻¹<sz/\k .non (aP G p (.lst (ds++[x])))|_=>False
 |_,_=>False
def rO(o:D)(as:AS)(G:DH)(k:AT):Prop:=
 match o,as with
 |.ref p,[.lst xs]=>match G p with|some (.lst ds)=>ds⁻¹+xs⁻¹<sz/\k .non (aP G p (.lst (ds++xs)))|_=>False
 |_,_=>False
def akp(o:D)(as:AS)(G:DH)(k:AT):Prop:=
 match o,as with
 |.ref p,[.int i,x]=>match G p with|some (.lst ds)=>ds⁻¹<sz/\0<=i/\i<=1000000/\k .non (aP G p (.lst (ds.take i.toNat++x::ds.drop i.toNat)))|_=>False
 |_,_=>False
def rP(o:D)(as:AS)(G:DH)(k:AT):Prop:=
 match o,as with
 |.ref p,[.int i]=>match G p with|some (.lst ds)=>0<=i/\i<=1000000/\(match ds[i.toNat]? with|some y=>k y (aP G p (.lst (ds.eraseIdx i.toNat)))|none=>False)|_=>False
 |_,_=>False
def akq(o:D)(as:AS)(G:DH)(k:AT):Prop:=
 match o,as with
 |.lst ds,[.bl true]=>match bools ds with|some bs=>k (.int (bs.count true:Nat)) G|none=>False
 |_,_=>False
def akr(o:D)(as:AS)(G:DH)(k:AT):Prop:=
 match o,as with
 |.lst ds,[.bl true]=>match bools ds with|some bs=>true∈bs/\k (.int (bs.idxOf true:Nat)) G|none=>False
 |_,_=>False
def rQ(o:D)(as:AS)(G:DH)(k:AT):Prop:=
 match o,as with
 |.tup ds,[.int i]=>match aZ ds with|some ns=>i∈ns/\k (.int (ns.idxOf i:Nat)) G|none=>False
 |_,_=>False
def aks(o:D)(as:AS)(G:DH)(k:AT):Prop:=
 match o,as with
 |.str l,[.str [c]]=>k (.int (Neg.neg 1)) G/\∀i:Nat,l[i]?=-c->k (.int (i:Int)) G
 |_,_=>False
def akt(o:D)(as:AS)(G:DH)(k:AT):Prop:=
 match o,as with
 |.str l,[.str [c]]=>(c<256/\l⁻¹+2<=sz)/\k (.lst ((qY c l).map .str)) G
 |_,_=>False
def Yg:D->Prop
 |.tup _=>True
 |_=>False
def Yh:D->Prop
 |.lst _=>True
 |_=>False
def recv(m:Mf)(o:D)(G:DH):Prop:=
 match m,o with
 |.join,.str _=>True
 |.append,.ref p=>match G p with|some (.lst _)=>True|_=>False
 |.extend,.ref p=>match G p with|some (.lst _)=>True|_=>False
 |.pop,.ref p=>match G p with|some (.lst _)=>True|_=>False
 |.idxT,o=>Yg o
 |_,_=>False
def opM:Mf->D->AS->DH->(AT)->Prop
 |.join,o,as,G,k=>rM o (as.map (view G)) G k
 |.append,o,as,G,k=>rN o as G k
 |.extend,o,as,G,k=>rO o (as.map (view G)) G k
 |.pop,o,as,G,k=>rP o as G k
 |.idxT,o,as,G,k=>rQ o as G k
def gH (C g:AL):Bool:=C==g||g=="SieveError"||g=="ValueError"
def wj(C:AL)(xs:List AL)(d:D)(k:Bool->Prop):Prop:=match d with
 |.exn c=>xs.contains c=true/\k (gH c C)
 |.exa c _ _=>xs.contains c=true/\k (gH c C)
 |.non=>k false
 |_=>False
def okA(d:D):Prop:=match d with
 |.int i=>0<=i/\i<100
 |.str l=>l⁻¹<=1000
 |_=>False
def FQ(C f:AL)(d:D)(k:D->Prop):Prop:=match d with
 |.exa C' f' v=>C'=C/\f'=f/\k v
 |_=>False
mutual
inductive Tg where
 |nm (i:Nat)
 |tp (ts:Tgs)
inductive Tgs where
 |nil
 |cons (t:Tg) (r:Tgs)
end
mutual
inductive Ex where
 |var (i:Nat)
 |cst (d:D)
 |glb (x:AL) (d:D)
 |bin (op:Operator) (fz:Bool) (a b:Ex)
 |neg (a:Ex)
 |cmp (op:CmpOp) (a b:Ex)
 |chn (op op':CmpOp) (a b c:Ex)
 |not (a:Ex)
 |boo (isAnd:Bool) (e:Ex) (es:Exs)
 |ife (c:Tx) (a b:Ex)
 |tup (es:Exs)
 |lst (fz:Bool) (es:Exs)
 |idx (a i:Ex)
 |slc (fz:Bool) (a:Ex) (lo hi:Ox)
 |rvs (fz:Bool) (a s:Ex)
 |call (f:AL) (es:Exs)
 |bcl (f:Bf) (es:Exs)
 |lcl (fz:Bool) (f:Lf) (es:Exs)
 |isi (a:Ex) (t:AL)
 |rgl (fz:Bool) (a:Ex)
 |lns (a:Ex)
 |rgt (a:Ex)
 |mth (m:Mf) (o:Ex) (es:Exs)
 |comp (fz:Bool) (elt:Ex) (tg:Tg) (it:It') (cond:Tx) (N:List AL) (cap:List (Option Nat))
 |frz (a:Ex)
 |dnw
 |dp1 (a b:Ex)
 |dcT (a:Ex)
 |cm2 (elt:Ex) (t1:Tg) (i1:It') (t2:Tg) (i2:It') (cond:Tx) (N:List AL) (cap:List (Option Nat))
inductive Exs where
 |nil
 |cons (e:Ex) (es:Exs)
/-- a test -/
inductive Tx where
 |val (e:Ex)
 |not (t:Tx)
 |boo (isAnd:Bool) (t:Tx) (ts:Txs)
 |yes
inductive Txs where
 |nil
 |cons (t:Tx) (ts:Txs)
/-- a bound of a slice -/
inductive Ox where
 |no
 |ob (e:Ex)
/-- what a loop walks -/
inductive It' where
 |seq (e:Ex)
 |rng (a:Ex)
 |enm (e:Ex)
 |zip (a b:Ex)
end
mutual
inductive Sx where
 |exp (e:Ex)
 |asg (t:Tg) (e:Ex)
 |set (o i e:Ex)
 |aug (i:Nat) (op:Operator) (e:Ex)
 |ret (e:Ex)
 |rtn
 |ite (c:Tx) (a b:Sxs)
 |for_ (t:Tg) (it:It') (body:Sxs)
 |whl (c:Tx) (body:Sxs)
 |pas
 |brk
 |cnt
 |nev
inductive Sxs where
 |nil
 |cons (s:Sx) (r:Sxs)
end
structure Xn where
 cls:AL
 fld:D
structure Spec where
 A:Type
 pre:AS->DH->A->Prop
 post:A->D->DH->Prop
 exc:A->Xn->DH->Prop
abbrev EK:=Xn->DH->Prop
def Spec.t(S:Spec)(ds:AS)(G:DH)(Q:AT)(E:EK):Prop:=
 ∃a,S.pre ds G a/\(∀d g,S.post a d g->Q d g)/\∀x g,S.exc a x g->E x g
def Spec.mono{S:Spec}{ds:AS}{G:DH}{Q J:AT}{E z:EK}(h:S.t ds G Q E)(M:∀d g,Q d g->J d g)(he:∀x g,E x g->z x g):S.t ds G J z:=by let(a,h1,h2,L):=h;exact⟨a,h1,λd g q=>M _ _ (h2 d g q),λx g q=>he _ _ (L x g q)⟩
abbrev aj:=AL->Spec
def aku(C f:AL)(d:D)(k:AQ->Prop):Prop:=match d with |.obj C' f' q=>C'=C/\f'=f/\k q|_=>False
def akv(C m:AL)(d:D):Prop:=match d with |.obj C' f' _=>C'=C/\(⇑m==⇑f')=false|_=>False
def akx(d:D)(G:DH)(k:AT):Prop:=match d with |.ref p=>(match G p with|some (.lst ds)=>(match ds[ds⁻¹-1]? with|some y=>k y (aP G p (.lst ds.dropLast))|none=>False)|_=>False)|_=>False
def aky(d:D)(k:AA->Prop):Prop:=match d with |.str l=>l⁻¹<=1000/\k l|_=>False
def akz(i:D)(l:AA)(k:AA->Prop):Prop:=match i with |.int n=>(match atI [48,49] n with|some c=>k (l.map λa=>if a=42 then c else a)|none=>False)|_=>False
def Yi(i j:Nat)(d:D)(Y:ak)(G:DH)(k:ak->DH->Prop):Prop:=
 match d with
 |.lst ds=>ds≠[]/\∀xs y,ds=xs++[y]->k ((Y.set i (-(.lst xs))).set j (-y)) G
 |_=>False
mutual
def aX:Tg->D->ak->DH->(ak->Prop)->Prop
 |.nm i,d,Y,_,k=>k (Y.set i (-d))
 |.tp ts,d,Y,G,k=>match d with |.tup ds=>b7 ts ds Y G k |.lst ds=>b7 ts ds Y G k|_=>False
def b7:Tgs->AS->ak->DH->(ak->Prop)->Prop
 |.nil,ds,Y,_,k=>match ds with |[]=>k Y|_=>False
 |.cons t r,ds,Y,G,k=>match ds with|d::ds=>aX t d Y G (λρ'=>b7 r ds ρ' G k) |[]=>False
end
abbrev Hld:=List (AQ×AS)
def held:Hld->DH->Prop
 |[],_=>True
 | (a,ds)::r,G=>G a=-(.lst ds)/\held r G
def compLoop(step:D->ak->DH->(Option D->ak->DH->Prop)->Prop)(g:Hld):AS->AS->ak->DH->(AS->DH->Prop)->Prop
 |[],acc,_,G,k=>held g G/\acc⁻¹<=sz/\k acc G
 |d::ds,acc,Y,G,k=>held g G/\acc⁻¹<sz/\step d Y G (λo q z=>match o with|some y=>compLoop step g ds (acc++[y]) q z k|none=>compLoop step g ds acc q z k)
def eY(step:D->AS->ak->DH->(AS->ak->DH->Prop)->Prop)(g:Hld):AS->AS->ak->DH->(AS->ak->DH->Prop)->Prop
 |[],acc,Y,G,k=>held g G/\k acc Y G
 |d::ds,acc,Y,G,k=>held g G/\step d acc Y G (λq z J=>eY step g ds q z J k)
def d8:Nat->AS->AS
 |_,[]=>[]
 |i,d::ds=>.tup [.int i,d]::d8 (i+1) ds
def cC:AS->AS->AS
 |a::as,b::bs=>.tup [a,b]::cC as bs
 |_,_=>[]
def itemsOf(G:DH):D->Option (AS×Hld)
 |.lst ds=>-(ds,[])
 |.tup ds=>-(ds,[])
 |.str l=>-(l.map λc=>.str [c],[])
 |.ref p=>match G p with|some (.lst ds)=>-(ds,[(p,ds)])|_=>none
 |_=>none
def aQ(lo:Int)(n:Nat):AS:=(List.range n).map λi=>.int (lo+(i:Nat))
def akA(lo:Int)(n:Nat):AS:=(List.range n).map λi=>.int (lo-(i:Nat))
def noE:EK:=λz z=>False
def jM:Exs->Prop->Prop
 |.nil,P=>P
 |.cons _ _,_=>False
mutual
def wpE(Z:aj):Ex->EK->ak->DH->(AT)->Prop
 |.var i,_,Y,G,k=>match Y[i]? with|some (-d)=>k d G|_=>False
 |.cst d,_,_,G,k=>k d G
 |.glb _ d,_,_,G,k=>k d G
 |.bin op fz a b,E,Y,G,k=>wpE Z a E Y G λx G1=>wpE Z b E Y G1 λy G2=>cO op fz (view G2 x) (view G2 y) G2 k
 |.neg a,E,Y,G,k=>wpE Z a E Y G λx G1=>match x with |.int i=>k (.int (Neg.neg i)) G1|_=>False
 |.cmp op a b,E,Y,G,k=>wpE Z a E Y G λx G1=>wpE Z b E Y G1 λy G2=>bh op (view G2 x) (view G2 y) λc=>k (.bl c) G2
 |.chn op op' a b c,E,Y,G,k=>wpE Z a E Y G λx G1=>wpE Z b E Y G1 λy G2=>bh op (view G2 x) (view G2 y) λt=>
   match t with
   |true=>wpE Z c E Y G2 λz G3=>bh op' (view G3 y) (view G3 z) λt'=>k (.bl t') G3
   |false=>k (.bl false) G2
 |.not a,E,Y,G,k=>wpE Z a E Y G λx G1=>match truth (view G1 x) with|some b=>k (.bl (!b)) G1|none=>False
 |.boo isAnd e es,E,Y,G,k=>wpE Z e E Y G λd G1=>match d with |.bl b=>wpB Z es isAnd b E Y G1 k|_=>False
 |.ife c a b,E,Y,G,k=>wpT Z c E Y G λt G1=>match t with|true=>wpE Z a E Y G1 k|false=>wpE Z b E Y G1 k
 |.tup es,E,Y,G,k=>bx Z es E Y G λds G1=>ds⁻¹<=sz/\k (.tup ds) G1
 |.lst fz es,E,Y,G,k=>bx Z es E Y G λds G1=>ds⁻¹<=sz/\mk fz ds G1 k
 |.idx a i,E,Y,G,k=>wpE Z a E Y G λx G1=>wpE Z i E Y G1 λy G2=>cZ (view G2 x) y λd=>k d G2
 |.slc fz a lo hi,E,Y,G,k=>wpE Z a E Y G λx G1=>wpO Z lo E Y G1 λl G2=>wpO Z hi E Y G2 λh G3=>eV fz (view G3 x) l h G3 k
 |.rvs fz a s,E,Y,G,k=>wpE Z a E Y G λx G1=>wpE Z s E Y G1 λy G2=>iG fz (view G2 x) y G2 k
 |.call f es,E,Y,G,k=>bx Z es E Y G λds G1=>(Z f).t ds G1 k E
 |.bcl f es,E,Y,G,k=>bx Z es E Y G λds G1=>opB f (ds.map (view G1)) λd=>k d G1
 |.lcl fz f es,E,Y,G,k=>bx Z es E Y G λds G1=>cP f (ds.map (view G1)) λxs=>mk fz xs G1 k
 |.isi a t,E,Y,G,k=>wpE Z a E Y G λx G1=>match isT t (view G1 x) with|some b=>k (.bl b) G1|none=>False
 |.lns a,E,Y,G,k=>wpE Z a E Y G λd G1=>jL (view G1 d) λx=>k x G1
 |.rgl fz a,E,Y,G,k=>wpE Z a E Y G λd G1=>match d with |.int n=>(0<=n/\n<=1000)/\mk fz (aQ 0 n.toNat) G1 k|_=>False
 |.rgt a,E,Y,G,k=>wpE Z a E Y G λd G1=>match d with |.int n=>(0<=n/\n<=1000)/\k (.tup (aQ 0 n.toNat)) G1|_=>False
 |.mth m o es,E,Y,G,k=>wpE Z o E Y G λx G1=>recv m x G1/\bx Z es E Y G1 λds G2=>opM m x ds G2 k
 |.comp fz elt tg it cond _ cap,E,Y,G,k=>wpI Z it E Y G λitems g G1=>
   compLoop (λd ρ' G' k'=>aX tg d ρ' G' λρ1=>wpT Z cond noE ρ1 G' λb G2=>match b with|true=>wpE Z elt noE ρ1 G2 λy G3=>k' (-y) ρ1 G3|false=>k' none ρ1 G2)
    g items [] (cap.map λo=>match o with|none=>none|some j=>(Y[j]?).join) G1 λds G2=>mk fz ds G2 k
 |.frz a,E,Y,G,k=>wpE Z a E Y G λx G1=>match x with |.ref p=>(match G1 p with|some (.lst ds)=>k (.lst ds) (iD G1 p)|_=>False)|d=>k d G1
 |.dnw,_,_,G,k=>∀p,G p=none->k (.ref p) (aP G p (.dct [] []))
 |.dcT a,E,Y,G,k=>wpE Z a E Y G λx G1=>dcK (view G1 x) λks=>∀p,G1 p=none->k (.ref p) (aP G1 p (.dct (dH ks) (List.replicate (dH ks)⁻¹ (.bl true))))
 |.cm2 elt t1 i1 t2 i2 cond _ cap,E,Y,G,k=>wpI Z i1 E Y G λitems g G1=>eY (λd acc ρ' G' k1=>aX t1 d ρ' G' λρ1=>wpI Z i2 noE ρ1 G' λitems2 g2 G2=>eY (λd acc ρ' G' k2=>aX t2 d ρ' G' λρ1=>acc⁻¹<sz/\wpT Z cond noE ρ1 G' λb G3=>match b with|true=>wpE Z elt noE ρ1 G3 λy G4=>k2 (acc++[y]) ρ1 G4|false=>k2 acc ρ1 G3) g2 items2 acc ρ1 G2 k1) g items [] (cap.map λo=>match o with|none=>none|some j=>(Y[j]?).join) G1 λds v G2=>ds⁻¹<=sz/\mk true ds G2 k
 |.dp1 a b,E,Y,G,k=>wpE Z a E Y G λx G1=>wpE Z b E Y G1 λy G2=>cz x λn=>∀p,G2 p=none->k (.ref p) (aP G2 p (.dct [n] [y]))
/-- a test -/
def wpT(Z:aj):Tx->EK->ak->DH->(Bool->DH->Prop)->Prop
 |.not a,E,Y,G,k=>wpT Z a E Y G λb G1=>k (!b) G1
 |.boo isAnd e es,E,Y,G,k=>wpT Z e E Y G λb G1=>gj Z es isAnd b E Y G1 k
 |.yes,_,_,G,k=>k true G
 |.val x,E,Y,G,k=>wpE Z x E Y G λd G1=>match truth (view G1 d) with|some b=>k b G1|none=>False
def wpF(Z:aj):Exs->EK->ak->DH->(AA->DH->Prop)->Prop
 |.nil,_,_,G,k=>k [] G
 |.cons e es,E,Y,G,k=>wpE Z e E Y G λd G1=>match d with
  |.str l=>l⁻¹<=1000/\wpF Z es E Y G1 λx G2=>k (l++x) G2
  |.int i=>(0<=i/\i<100)/\wpF Z es E Y G1 λx G2=>k (gG i.toNat++x) G2
  |_=>False
def bx(Z:aj):Exs->EK->ak->DH->(AS->DH->Prop)->Prop
 |.nil,_,_,G,k=>k [] G
 |.cons e es,E,Y,G,k=>wpE Z e E Y G λd G1=>bx Z es E Y G1 λds G2=>k (d::ds) G2
/-- and,or as values:truths,the last one anything;b:the one ahead -/
def wpB(Z:aj):Exs->Bool->Bool->EK->ak->DH->(AT)->Prop
 |.nil,_,b,_,_,G,k=>k (.bl b) G
 |.cons e es,isAnd,b,E,Y,G,k=>match isAnd,b with
  |true,false=>k (.bl false) G
  |false,true=>k (.bl true) G
  |_,_=>wpE Z e E Y G λd G1=>match d with |.bl b'=>wpB Z es isAnd b' E Y G1 k|d=>jM es (k d G1)
def gj(Z:aj):Txs->Bool->Bool->EK->ak->DH->(Bool->DH->Prop)->Prop
 |.nil,_,b,_,_,G,k=>k b G
 |.cons e es,isAnd,b,E,Y,G,k=>match isAnd,b with
  |true,false=>k false G
  |false,true=>k true G
  |_,_=>wpT Z e E Y G λb' G1=>gj Z es isAnd b' E Y G1 k
/-- a bound of a slice -/
def wpO(Z:aj):Ox->EK->ak->DH->(Option Int->DH->Prop)->Prop
 |.no,_,_,G,k=>k none G
 |.ob x,E,Y,G,k=>wpE Z x E Y G λd G1=>match d with |.int i=>k (-i) G1|_=>False
def wpI(Z:aj):It'->EK->ak->DH->(AS->Hld->DH->Prop)->Prop
 |.seq e,E,Y,G,k=>wpE Z e E Y G λd G1=>match itemsOf G1 d with|some ds=>k ds.1 ds.2 G1|none=>False
 |.rng a,E,Y,G,k=>wpE Z a E Y G λd G1=>match d with |.int n=>(Neg.neg (2 ^ 62)<=n/\n<2 ^ 62)/\k (aQ 0 n.toNat) [] G1|_=>False
 |.enm e,E,Y,G,k=>wpE Z e E Y G λd G1=>match itemsOf G1 d with|some ds=>k (d8 0 ds.1) ds.2 G1|none=>False
 |.zip a b,E,Y,G,k=>wpE Z a E Y G λx G1=>wpE Z b E Y G1 λy G2=>match itemsOf G2 x,itemsOf G2 y with|some ds,-es=>k (cC ds.1 es.1) (ds.2++es.2) G2|_,_=>False
end
structure En where
 nx:ak->DH->Prop
 rt:D->DH->Prop
 bk:ak->DH->Prop
 ct:ak->DH->Prop
def forLoop(step:D->ak->DH->(ak->DH->Prop)->Prop)(g:Hld):AS->ak->DH->(ak->DH->Prop)->Prop
 |[],Y,G,k=>held g G/\k Y G
 |d::ds,Y,G,k=>held g G/\step d Y G λq z=>forLoop step g ds q z k
def whileLoop(g:ak->DH->(Bool->DH->Prop)->Prop)(body:ak->DH->(ak->DH->Prop)->Prop):Nat->ak->DH->(ak->DH->Prop)->Prop
 |0,_,_,_=>False
 |n+1,Y,G,k=>g Y G λb G1=>match b with|true=>body Y G1 λq z=>whileLoop g body n q z k|false=>k Y G1
def d9(o i x:D)(G:DH)(k:DH->Prop):Prop:=
 match o with
 |.ref p=>match G p with
  |some (.lst ds)=>(match i with |.int i=>(match ixN ds⁻¹ i with|some j=>k (aP G p (.lst (ds.set j x)))|none=>False)|_=>False)
  |some (.dct ks ds)=>cz i λn=>ks⁻¹<sz/\k (aP G p (dput ks ds n x))
  |none=>False
 |_=>False
def fO(op:Operator)(a b:D)(k:D->Prop):Prop:=
 match op,a,b with
 |.Add,.int i,.int j=>k (.int (i+j))
 |.Add,.str x,.str y=>x⁻¹+y⁻¹<=sz/\k (.str (x++y))
 |.Sub,.int i,.int j=>k (.int (i-j))
 |_,_,_=>False
def FT:D->Bool
 |.int i=>decide (0<=i)&&decide (i<100)
 |_=>false
def wpM(Z:aj):Exs->EK->ak->DH->(DH->Prop)->Prop
 |.nil,_,_,G,k=>k G
 |.cons e es,E,Y,G,k=>wpE Z e E Y G λd G1=>FT d=true/\wpM Z es E Y G1 k
mutual
def wpS(Z:aj):Sx->EK->ak->DH->En->Prop
 |.exp e,E,Y,G,D=>wpE Z e E Y G λz G1=>D.nx Y G1
 |.asg t e,E,Y,G,D=>wpE Z e E Y G λd G1=>aX t d Y G1 λρ'=>D.nx ρ' G1
 |.set o i e,E,Y,G,D=>wpE Z e E Y G λx G1=>wpE Z o E Y G1 λa G2=>wpE Z i E Y G2 λy G3=>d9 a y x G3 λG4=>D.nx Y G4
 |.aug i op e,E,Y,G,D=>match Y[i]? with
  |some (-a)=>wpE Z e E Y G λb G1=>fO op a b λc=>D.nx (Y.set i (-c)) G1
  |_=>False
 |.ret e,E,Y,G,D=>wpE Z e E Y G D.rt
 |.rtn,_,_,G,D=>D.rt .non G
 |.ite c a b,E,Y,G,D=>wpT Z c E Y G λt G1=>match t with|true=>az Z a E Y G1 D|false=>az Z b E Y G1 D
 |.for_ t it body,E,Y,G,D=>wpI Z it E Y G λitems g G1=>
   forLoop (λd ρ' G' k=>aX t d ρ' G' λρ1=>az Z body E ρ1 G' {D with nx:=k,ct:=k,bk:=D.nx}) g items Y G1 D.nx
 |.whl c body,E,Y,G,D=>∃n,whileLoop (λρ' G' k=>wpT Z c E ρ' G' k) (λρ' G' k=>az Z body E ρ' G' {D with nx:=k,ct:=k,bk:=D.nx}) n Y G D.nx
 |.pas,_,Y,G,D=>D.nx Y G
 |.brk,_,Y,G,D=>D.bk Y G
 |.cnt,_,Y,G,D=>D.ct Y G
 |.nev,_,_,_,_=>False
def az(Z:aj):Sxs->EK->ak->DH->En->Prop
 |.nil,_,Y,G,D=>D.nx Y G
 |.cons s r,E,Y,G,D=>wpS Z s E Y G {D with nx:=λρ' G'=>az Z r E ρ' G' D}
end
theorem wk{Z:aj}{a}{E}{Y}{G}{k}:wpT Z (.not a) E Y G k=(wpT Z a E Y G λb G1=>k (!b) G1):=rfl
theorem wu{Z:aj}{isAnd}{e}{es}{E}{Y}{G}{k}:wpT Z (.boo isAnd e es) E Y G k=(wpT Z e E Y G λb G1=>gj Z es isAnd b E Y G1 k):=rfl
theorem ww{Z:aj}{E}{Y}{G}{k}:wpT Z .yes E Y G k=(k true G):=rfl
theorem lM{Z:aj}{x}{E}{Y}{G}{k}:wpT Z (.val x) E Y G k=(wpE Z x E Y G λd G1=>match truth (view G1 d) with|some b=>k b G1|none=>False):=rfl
theorem jN{Z:aj}{E}{Y}{G}{k}:bx Z .nil E Y G k=(k [] G):=rfl
theorem iH{Z:aj}{e}{es}{E}{Y}{G}{k}:bx Z (.cons e es) E Y G k=(wpE Z e E Y G λd G1=>bx Z es E Y G1 λds g=>k (d::ds) g):=rfl
theorem wy{Z:aj}{isAnd:Bool}{b:Bool}{E}{Y}{G}{k}:wpB Z .nil isAnd b E Y G k=(k (.bl b) G):=rfl
theorem rR{Z:aj}{e}{es}{isAnd:Bool}{b:Bool}{E}{Y}{G}{k}:wpB Z (.cons e es) isAnd b E Y G k=(match isAnd,b with
  |true,false=>k (.bl false) G
  |false,true=>k (.bl true) G
  |_,_=>wpE Z e E Y G λd G1=>match d with |.bl b'=>wpB Z es isAnd b' E Y G1 k|d=>jM es (k d G1)):=rfl
theorem Yj{P:Prop}:jM .nil P=P:=rfl
theorem wz{Z:aj}{isAnd:Bool}{b:Bool}{E}{Y}{G}{k}:gj Z .nil isAnd b E Y G k=(k b G):=rfl
theorem rT{Z:aj}{e}{es}{isAnd:Bool}{b:Bool}{E}{Y}{G}{k}:gj Z (.cons e es) isAnd b E Y G k=(match isAnd,b with
  |true,false=>k false G
  |false,true=>k true G
  |_,_=>wpT Z e E Y G λg G1=>gj Z es isAnd g E Y G1 k):=rfl
theorem wA{Z:aj}{E}{Y}{G}{k}:wpO Z .no E Y G k=(k none G):=rfl
theorem wB{Z:aj}{x}{E}{Y}{G}{k}:wpO Z (.ob x) E Y G k=(wpE Z x E Y G λd G1=>match d with |.int i=>k (-i) G1|_=>False):=rfl
theorem wC{Z:aj}{e}{E}{Y}{G}{k}:wpI Z (.seq e) E Y G k=(wpE Z e E Y G λd G1=>match itemsOf G1 d with|some ds=>k ds.1 ds.2 G1|none=>False):=rfl
theorem wD{Z:aj}{a}{E}{Y}{G}{k}:wpI Z (.rng a) E Y G k=(wpE Z a E Y G λd G1=>match d with |.int n=>(Neg.neg (2 ^ 62)<=n/\n<2 ^ 62)/\k (aQ 0 n.toNat) [] G1|_=>False):=rfl
theorem wF{Z:aj}{e}{E}{Y}{G}{k}:wpI Z (.enm e) E Y G k=(wpE Z e E Y G λd G1=>match itemsOf G1 d with|some ds=>k (d8 0 ds.1) ds.2 G1|none=>False):=rfl
theorem wG{Z:aj}{a}{b}{E}{Y}{G}{k}:wpI Z (.zip a b) E Y G k=(wpE Z a E Y G λx G1=>wpE Z b E Y G1 λy g=>match itemsOf g x,itemsOf g y with|some ds,-es=>k (cC ds.1 es.1) (ds.2++es.2) g|_,_=>False):=rfl
theorem lN{Z:aj}{E}{Y}{G}{D}:az Z .nil E Y G D=(D.nx Y G):=rfl
theorem lO{Z:aj}{s}{r}{E}{Y}{G}{D}:az Z (.cons s r) E Y G D=(wpS Z s E Y G {D with nx:=λg q=>az Z r E g q D}):=rfl
theorem wH{Z:aj}{i E Y G k}:wpE Z (.var i) E Y G k=(match Y[i]? with|some (-d)=>k d G|_=>False):=rfl
theorem jO{Z:aj}{d E Y G k}:wpE Z (.cst d) E Y G k=(k d G):=rfl
theorem wI{Z:aj}{u0 d E Y G k}:wpE Z (.glb u0 d) E Y G k=(k d G):=rfl
theorem wJ{Z:aj}{op fz a b E Y G k}:wpE Z (.bin op fz a b) E Y G k=(wpE Z a E Y G λx G1=>wpE Z b E Y G1 λy g=>cO op fz (view g x) (view g y) g k):=rfl
theorem wK{Z:aj}{a E Y G k}:wpE Z (.neg a) E Y G k=(wpE Z a E Y G λx G1=>match x with |.int i=>k (.int (Neg.neg i)) G1|_=>False):=rfl
theorem rW{Z:aj}{op a b E Y G k}:wpE Z (.cmp op a b) E Y G k=(wpE Z a E Y G λx G1=>wpE Z b E Y G1 λy g=>bh op (view g x) (view g y) λc=>k (.bl c) g):=rfl
theorem rY{Z:aj}{op op' a b c E Y G k}:wpE Z (.chn op op' a b c) E Y G k=(wpE Z a E Y G λx G1=>wpE Z b E Y G1 λy g=>bh op (view g x) (view g y) λt=>
   match t with
   |true=>wpE Z c E Y g λz q=>bh op' (view q y) (view q z) λt'=>k (.bl t') q
   |false=>k (.bl false) g):=rfl
theorem wL{Z:aj}{a E Y G k}:wpE Z (.not a) E Y G k=(wpE Z a E Y G λx G1=>match truth (view G1 x) with|some b=>k (.bl (!b)) G1|none=>False):=rfl
theorem wM{Z:aj}{isAnd e es E Y G k}:wpE Z (.boo isAnd e es) E Y G k=(wpE Z e E Y G λd G1=>match d with |.bl b=>wpB Z es isAnd b E Y G1 k|_=>False):=rfl
theorem wN{Z:aj}{c a b E Y G k}:wpE Z (.ife c a b) E Y G k=(wpT Z c E Y G λt G1=>match t with|true=>wpE Z a E Y G1 k|false=>wpE Z b E Y G1 k):=rfl
theorem wO{Z:aj}{es E Y G k}:wpE Z (.tup es) E Y G k=(bx Z es E Y G λds G1=>ds⁻¹<=sz/\k (.tup ds) G1):=rfl
theorem wQ{Z:aj}{fz es E Y G k}:wpE Z (.lst fz es) E Y G k=(bx Z es E Y G λds G1=>ds⁻¹<=sz/\mk fz ds G1 k):=rfl
theorem wR{Z:aj}{a i E Y G k}:wpE Z (.idx a i) E Y G k=(wpE Z a E Y G λx G1=>wpE Z i E Y G1 λy g=>cZ (view g x) y λd=>k d g):=rfl
theorem wU{Z:aj}{fz a s E Y G k}:wpE Z (.rvs fz a s) E Y G k=(wpE Z a E Y G λx G1=>wpE Z s E Y G1 λy g=>iG fz (view g x) y g k):=rfl
theorem wV{Z:aj}{fz a lo hi E Y G k}:wpE Z (.slc fz a lo hi) E Y G k=(wpE Z a E Y G λx G1=>wpO Z lo E Y G1 λl q=>wpO Z hi E Y q λh g=>eV fz (view g x) l h g k):=rfl
theorem wW{Z:aj}{f es E Y G k}:wpE Z (.call f es) E Y G k=(bx Z es E Y G λds G1=>(Z f).t ds G1 k E):=rfl
theorem wX{Z:aj}{f es E Y G k}:wpE Z (.bcl f es) E Y G k=(bx Z es E Y G λds G1=>opB f (ds.map (view G1)) λd=>k d G1):=rfl
theorem wY{Z:aj}{fz f es E Y G k}:wpE Z (.lcl fz f es) E Y G k=(bx Z es E Y G λds G1=>cP f (ds.map (view G1)) λxs=>mk fz xs G1 k):=rfl
theorem wZ{Z:aj}{a t E Y G k}:wpE Z (.isi a t) E Y G k=(wpE Z a E Y G λx G1=>match isT t (view G1 x) with|some b=>k (.bl b) G1|none=>False):=rfl
theorem xf{Z:aj}{a E Y G k}:wpE Z (.lns a) E Y G k=(wpE Z a E Y G λd G1=>jL (view G1 d) λx=>k x G1):=rfl
theorem xg{Z:aj}{fz a E Y G k}:wpE Z (.rgl fz a) E Y G k=(wpE Z a E Y G λd G1=>match d with |.int n=>(0<=n/\n<=1000)/\mk fz (aQ 0 n.toNat) G1 k|_=>False):=rfl
theorem xj{Z:aj}{a E Y G k}:wpE Z (.rgt a) E Y G k=(wpE Z a E Y G λd G1=>match d with |.int n=>(0<=n/\n<=1000)/\k (.tup (aQ 0 n.toNat)) G1|_=>False):=rfl
theorem FW{Z:aj}{E Y G k}:wpF Z .nil E Y G k=k [] G:=rfl
theorem Gd{Z:aj}{e es E Y G k}:wpF Z (.cons e es) E Y G k=(wpE Z e E Y G λd G1=>match d with
  |.str l=>l⁻¹<=1000/\wpF Z es E Y G1 λx g=>k (l++x) g
  |.int i=>(0<=i/\i<100)/\wpF Z es E Y G1 λx g=>k (gG i.toNat++x) g
  |_=>False):=rfl
theorem iI{Z:aj}{m o es E Y G k}:wpE Z (.mth m o es) E Y G k=(wpE Z o E Y G λx G1=>recv m x G1/\bx Z es E Y G1 λds g=>opM m x ds g k):=rfl
theorem xm{Z:aj}{a E Y G k}:wpE Z (.frz a) E Y G k=(wpE Z a E Y G λx G1=>match x with |.ref p=>(match G1 p with|some (.lst ds)=>k (.lst ds) (iD G1 p)|_=>False)|d=>k d G1):=rfl
theorem xq{Z:aj}{E Y G k}:wpE Z .dnw E Y G k=(∀p,G p=none->k (.ref p) (aP G p (.dct [] []))):=rfl
theorem rZ{Z:aj}{a E Y G k}:wpE Z (.dcT a) E Y G k=(wpE Z a E Y G λx G1=>dcK (view G1 x) λks=>∀p,G1 p=none->k (.ref p) (aP G1 p (.dct (dH ks) (List.replicate (dH ks)⁻¹ (.bl true))))):=rfl
theorem xr{Z:aj}{elt t1 i1 t2 i2 cond N cap E Y G k}:wpE Z (.cm2 elt t1 i1 t2 i2 cond N cap) E Y G k=(wpI Z i1 E Y G λL g G1=>eY (λd z M O k1=>aX t1 d M O λq=>wpI Z i2 noE q O λJ g2 U=>eY (λd z M O k2=>aX t2 d M O λq=>z⁻¹<sz/\wpT Z cond noE q O λb G3=>match b with|true=>wpE Z elt noE q G3 λy G4=>k2 (z++[y]) q G4|false=>k2 z q G3) g2 J z q U k1) g L [] (cap.map λo=>match o with|none=>none|some j=>(Y[j]?).join) G1 λds x U=>ds⁻¹<=sz/\mk true ds U k):=rfl
theorem xu{Z:aj}{a b E Y G k}:wpE Z (.dp1 a b) E Y G k=(wpE Z a E Y G λx G1=>wpE Z b E Y G1 λy g=>cz x λn=>∀p,g p=none->k (.ref p) (aP g p (.dct [n] [y]))):=rfl
theorem xF{Z:aj}{e E Y G D}:wpS Z (.exp e) E Y G D=(wpE Z e E Y G λz G1=>D.nx Y G1):=rfl
theorem iJ{Z:aj}{t e E Y G D}:wpS Z (.asg t e) E Y G D=(wpE Z e E Y G λd G1=>aX t d Y G1 λg=>D.nx g G1):=rfl
theorem xG{Z:aj}{o i e E Y G D}:wpS Z (.set o i e) E Y G D=(wpE Z e E Y G λx G1=>wpE Z o E Y G1 λa g=>wpE Z i E Y g λy q=>d9 a y x q λz=>D.nx Y z):=rfl
theorem xH{Z:aj}{i op e E Y G D}:wpS Z (.aug i op e) E Y G D=(match Y[i]? with
  |some (-a)=>wpE Z e E Y G λb G1=>fO op a b λc=>D.nx (Y.set i (-c)) G1
  |_=>False):=rfl
theorem xJ{Z:aj}{e E Y G D}:wpS Z (.ret e) E Y G D=(wpE Z e E Y G D.rt):=rfl
theorem xK{Z:aj}{E Y G D}:wpS Z .rtn E Y G D=(D.rt .non G):=rfl
theorem xM{Z:aj}{c a b E Y G D}:wpS Z (.ite c a b) E Y G D=(wpT Z c E Y G λt G1=>match t with|true=>az Z a E Y G1 D|false=>az Z b E Y G1 D):=rfl
theorem xN{Z:aj}{E Y G D}:wpS Z .pas E Y G D=(D.nx Y G):=rfl
theorem xO{Z:aj}{E Y G D}:wpS Z .brk E Y G D=(D.bk Y G):=rfl
theorem xP{Z:aj}{E Y G D}:wpS Z .cnt E Y G D=(D.ct Y G):=rfl
theorem Yk{Z:aj}{E Y G k}:wpM Z .nil E Y G k=k G:=rfl
theorem Yl{Z:aj}{e es E Y G k}:wpM Z (.cons e es) E Y G k=(wpE Z e E Y G λd G1=>FT d=true/\wpM Z es E Y G1 k):=rfl
theorem xQ{Z:aj}{E Y G D}:wpS Z .nev E Y G D=(False):=rfl
theorem xR{Z:aj}{fz elt tg it cond N cap E Y G k}:wpE Z (.comp fz elt tg it cond N cap) E Y G k=(wpI Z it E Y G λz g G1=>
   compLoop (λd L M k'=>aX tg d L M λq=>wpT Z cond noE q M λb J=>match b with|true=>wpE Z elt noE q J λy O=>k' (-y) q O|false=>k' none q J)
    g z [] (cap.map λo=>match o with|none=>none|some j=>(Y[j]?).join) G1 λds J=>mk fz ds J k):=rfl
theorem Ge{Z:aj}{t it body E Y G D}:wpS Z (.for_ t it body) E Y G D=(wpI Z it E Y G λq g G1=>
   forLoop (λd z L k=>aX t d z L λJ=>az Z body E J L {D with nx:=k,ct:=k,bk:=D.nx}) g q Y G1 D.nx):=rfl
theorem Gf{Z:aj}{c body E Y G D}:wpS Z (.whl c body) E Y G D=(∃n,whileLoop (λg q k=>wpT Z c E g q k) (λg q k=>az Z body E g q {D with nx:=k,ct:=k,bk:=D.nx}) n Y G D.nx):=rfl
section
variable {k k':AT} {G:DH}
theorem dj{fz:Bool}{xs:AS}(h:∀d g,k d g->k' d g)(q:mk fz xs G k):mk fz xs G k':=by
 cases fz with
 |true=>exact h _ _ q
 |false=>exact λp z=>h _ _ (q p z)
theorem Gg{a b:D}{p:Int->Int->Prop}(h:gF a b p):∃i j,a=.int i/\b=.int j/\p i j:=by
 cases a with
 |int i=>cases b with
  |int j=>exact⟨i,j,rfl,rfl,h⟩
  |_=>exact h.elim
 |_=>exact h.elim
theorem sr{a b:D}{p q:Int->Int->Prop}(h:∀i j,p i j->q i j)(z:gF a b p):gF a b q:=by let(i,j,rfl,rfl,z):=Gg z;exact h i j z
theorem Gi{op:Operator}{fz:Bool}{a b:D}(h:∀d g,k d g->k' d g)(q:cO op fz a b G k):cO op fz a b G k':=by
 cases op with
 |Add=>
  have q:jC fz a b G k:=q;change jC fz a b G k';unfold jC at q ⊢;cases a with
  |int i=>cases b<;>first|exact h _ _ q|exact q
  |str i=>cases b<;>first|exact⟨q.1,h _ _ q.2⟩|exact q
  |lst i=>cases b<;>first|exact⟨q.1,dj h q.2⟩|exact q
  |tup i=>cases b<;>first|exact⟨q.1,h _ _ q.2⟩|exact q
  |_=>exact q
 |Sub=>exact sr (λy y z=>h _ _ z) q
 |Mult=>
  have q:jD fz a b G k:=q;change jD fz a b G k';unfold jD at q ⊢;cases b with
  |int n=>cases a<;>first|exact⟨q.1,h _ _ q.2⟩|exact⟨q.1,q.2.1,q.2.2.1,h _ _ q.2.2.2⟩|exact⟨q.1,q.2.1,q.2.2.1,dj h q.2.2.2⟩|exact⟨q.1,q.2.1,q.2.2.1,q.2.2.2.1,h _ _ q.2.2.2.2⟩|exact q
  |_=>exact q
 |FloorDiv=>exact sr (λy y z=>⟨z.1,h _ _ z.2⟩) q
 |Mod=>exact sr (λy y z=>⟨z.1,h _ _ z.2⟩) q
 |Pow=>exact sr (λy y z=>⟨z.1,h _ _ z.2⟩) q
 |_=>exact q
theorem su{d:D}{k k':List Int->Prop}(h:∀n,k n->k' n)(q:cz d k):cz d k':=by
 unfold cz at q ⊢;split at q
 .split at q
  .exact h _ q
  .exact q
 .exact q
theorem Gj{a b:D}{k k':Bool->Prop}(h:∀c,k c->k' c)(q:gf a b k):gf a b k':=by
 unfold gf at q ⊢;split at q
 .split at q
  .exact h _ q
  .exact q
 .exact ⟨q.1,h _ q.2⟩
 .exact ⟨q.1,h _ q.2⟩
 .exact su (λy z=>h _ z) q
 .exact q
theorem iK{op:CmpOp}{a b:D}{k k':Bool->Prop}(h:∀c,k c->k' c)(q:bh op a b k):bh op a b k':=by
 cases op with
 |Eq=>exact⟨q.1,h _ q.2⟩
 |NotEq=>exact⟨q.1,h _ q.2⟩
 |Lt=>have q:jE a b k:=q;change jE a b k';unfold jE at q ⊢;split at q<;>first|exact h _ q|exact q
 |LtE=>have q:jF a b k:=q;change jF a b k';unfold jF at q ⊢;split at q<;>first|exact h _ q|exact q
 |Gt=>have q:jG a b k:=q;change jG a b k';unfold jG at q ⊢;split at q<;>first|exact h _ q|exact q
 |GtE=>have q:jH a b k:=q;change jH a b k';unfold jH at q ⊢;split at q<;>first|exact h _ q|exact q
 |Is=>
  have q:jJ a b k:=q;change jJ a b k';unfold jJ at q ⊢;split at q
  .exact h _ q
  .split at q
   .exact h _ q
   .exact q
  .exact q
 |IsNot=>
  have q:jK a b k:=q;change jK a b k';unfold jK at q ⊢;split at q
  .exact h _ q
  .split at q
   .exact h _ q
   .exact q
  .exact q
 |In=>exact Gj h q
 |NotIn=>exact Gj (λc=>h _) q
theorem Gk{a i:D}{k k':D->Prop}(h:∀c,k c->k' c)(q:cZ a i k):cZ a i k':=by
 unfold cZ at q ⊢;split at q
 .split at q
  .exact h _ q
  .exact q
 .split at q
  .exact h _ q
  .exact q
 .split at q
  .exact h _ q
  .exact q
 .show su (λz q=>?_) q;split at q
  .split at q
   .exact h _ q
   .exact q
  .exact q
 .exact q
theorem Gm{fz:Bool}{a:D}{lo hi:Option Int}(h:∀d g,k d g->k' d g)(q:eV fz a lo hi G k):eV fz a lo hi G k':=by
 unfold eV at q ⊢;split at q<;>first
  |exact dj h q
  |exact h _ _ q
  |exact q.elim
theorem Gn{fz:Bool}{a y:D}(h:∀d g,k d g->k' d g)(q:iG fz a y G k):iG fz a y G k':=by
 unfold iG at q ⊢;split at q
 .exact ⟨q.1,dj h q.2⟩
 .exact ⟨q.1,h _ _ q.2⟩
 .exact q.elim
theorem Gp{f:Bf}{as:AS}{k k':D->Prop}(h:∀c,k c->k' c)(q:opB f as k):opB f as k':=by
 cases f with
 |len=>simp only[opB,v6]at q ⊢;split at q<;>first|exact h _ q|exact q.elim
 |all=>
  simp only[opB,rG]at q ⊢;split at q
  .split at q
   .exact h _ q
   .exact q
  .exact q
 |any=>
  simp only[opB,rH]at q ⊢;split at q
  .split at q
   .exact h _ q
   .exact q
  .exact q
 |int=>
  simp only[opB,rJ]at q ⊢;split at q
  .exact h _ q
  .exact h _ q
  .split at q
   .exact ⟨q.1,h _ q.2⟩
   .exact q
  .exact q
 |tuple=>simp only[opB,v7]at q ⊢;split at q<;>first|exact h _ q|exact q.elim
 |sum=>
  simp only[opB,v8]at q ⊢;split at q
  .split at q
   .exact h _ q
   .exact q
  .exact q
 |min=>
  simp only[opB,lJ]at q ⊢;split at q
  .split at q
   .exact ⟨q.1,λm h1 h2=>h _ (q.2 m h1 h2)⟩
   .split at q
    .exact λm h1 h2=>h _ (q m h1 h2)
    .exact q
  .exact q
 |max=>simp only[opB,FP]at q ⊢;split at q<;>first|exact h _ q|exact q.elim
 |abs=>simp only[opB,FJ]at q ⊢;split at q<;>first|exact h _ q|exact q.elim
 |min2=>simp only[opB,FN]at q ⊢;split at q<;>first|exact h _ q|exact q.elim
 |str=>
  simp only[opB,v9]at q ⊢;split at q
  .exact ⟨q.1,h _ q.2⟩
  .exact q
theorem akB{d:D}{k k':AS->Prop}(h:∀c,k c->k' c)(q:lL d k):lL d k':=by
 unfold lL at q ⊢;split at q
 .split at q
  .exact ⟨q.1,λg p=>h _ (q.2 g p)⟩
  .exact q
 .exact q
theorem Gq{f:Lf}{as:AS}{k k':AS->Prop}(h:∀c,k c->k' c)(q:cP f as k):cP f as k':=by
 cases f with
 |list=>simp only[cP,wg]at q ⊢;split at q<;>first|exact h _ q|exact q.elim
 |sorted=>
  simp only[cP,lK]at q ⊢;split at q
  .split at q
   .exact ⟨q.1,λg p z=>h _ (q.2 g p z)⟩
   .exact q
  .split at q
   .exact ⟨q.1,λg p z=>h _ (q.2 g p z)⟩
   .exact q
  .exact q
theorem jP{m:Mf}{o:D}{as:AS}(h:∀d z,k d z->k' d z)(q:opM m o as G k):opM m o as G k':=by
 cases m with
 |join=>
  simp only[opM,rM]at q ⊢;split at q
  .split at q
   .exact ⟨q.1,h _ _ q.2⟩
   .exact q
  .exact q
 |append=>
  simp only[opM,rN]at q ⊢;split at q
  .split at q
   .exact ⟨q.1,h _ _ q.2⟩
   .exact q
  .exact q
 |extend=>
  simp only[opM,rO]at q ⊢;split at q
  .split at q
   .exact ⟨q.1,h _ _ q.2⟩
   .exact q
  .exact q
 |pop=>
  simp only[opM,rP]at q ⊢;split at q
  .split at q
   .show ⟨q.1,q.2.1,?_⟩;have g:=q.2.2;split at g
    .exact h _ _ g
    .exact g
   .exact q
  .exact q
 |idxT=>
  simp only[opM,rQ]at q ⊢;split at q
  .split at q
   .exact ⟨q.1,h _ _ q.2⟩
   .exact q
  .exact q
theorem Gs{o i x:D}{k k':DH->Prop}(h:∀g,k g->k' g)(q:d9 o i x G k):d9 o i x G k':=by
 unfold d9 at q ⊢;split at q
 .split at q
  .split at q
   .split at q
    .exact h _ q
    .exact q
   .exact q
  .exact su (λy z=>⟨z.1,h _ z.2⟩) q
  .exact q
 .exact q
theorem Gu{op:Operator}{a b:D}{k k':D->Prop}(h:∀c,k c->k' c)(q:fO op a b k):fO op a b k':=by
 unfold fO at q ⊢;split at q<;>first
  |exact h _ q
  |exact⟨q.1,h _ q.2⟩
  |exact q.elim
mutual
theorem eE{k k':ak->Prop}(h:∀Y,k Y->k' Y):∀(t:Tg){d:D}{Y:ak},aX t d Y G k->aX t d Y G k'
 |.nm i,d,Y,q=>h _ q
 |.tp ts,d,Y,q=>by
  unfold aX at q ⊢;split at q
  .exact xT h ts q
  .exact xT h ts q
  .exact q
theorem xT{k k':ak->Prop}(h:∀Y,k Y->k' Y):∀(ts:Tgs){ds:AS}{Y:ak},b7 ts ds Y G k->b7 ts ds Y G k'
 |.nil,ds,Y,q=>by
  unfold b7 at q ⊢;split at q
  .exact h _ q
  .exact q
 |.cons t r,ds,Y,q=>by
  unfold b7 at q ⊢;split at q
  .exact eE (λρ' q'=>xT h r q') t q
  .exact q
end
theorem sy{step L:D->ak->DH->(Option D->ak->DH->Prop)->Prop}(hs:∀d Y G (k k':Option D->ak->DH->Prop),(∀o M N,k o M N->k' o M N)->step d Y G k->L d Y G k')
  {g:Hld} {k k':AS->DH->Prop} (h:∀ds N,k ds N->k' ds N):∀(ds J:AS)(Y:ak)(G:DH),compLoop step g ds J Y G k->compLoop L g ds J Y G k'
 |[],J,Y,G,q=>⟨q.1,q.2.1,h _ _ q.2.2⟩
 |d::ds,J,Y,G,q=>by
  show⟨q.1,q.2.1,hs d Y G _ _ (λo M N z=>?_) q.2.2⟩;cases o with
  |some y=>exact sy hs h ds (J++[y]) M N z
  |none=>exact sy hs h ds J M N z
theorem xU{step L:D->AS->ak->DH->(AS->ak->DH->Prop)->Prop}(hs:∀d J Y G (k k':AS->ak->DH->Prop),(∀a M N,k a M N->k' a M N)->step d J Y G k->L d J Y G k')
  {g:Hld} {k k':AS->ak->DH->Prop} (h:∀a Y N,k a Y N->k' a Y N):∀(ds J:AS)(Y:ak)(G:DH),eY step g ds J Y G k->eY L g ds J Y G k'
 |[],J,Y,G,q=>⟨q.1,h _ _ _ q.2⟩
 |d::ds,J,Y,G,q=>⟨q.1,hs d J Y G _ _ (λa M N z=>xU hs h ds a M N z) q.2⟩
theorem Gv{step J:D->ak->DH->(ak->DH->Prop)->Prop}(hs:∀d Y G (k k':ak->DH->Prop),(∀L M,k L M->k' L M)->step d Y G k->J d Y G k')
  {g:Hld} {k k':ak->DH->Prop} (h:∀Y M,k Y M->k' Y M):∀(ds:AS)(Y:ak)(G:DH),forLoop step g ds Y G k->forLoop J g ds Y G k'
 |[],Y,G,q=>⟨q.1,h _ _ q.2⟩
 |d::ds,Y,G,q=>⟨q.1,hs d Y G _ _ (λL M z=>Gv hs h ds L M z) q.2⟩
theorem Gw{N J:ak->DH->(Bool->DH->Prop)->Prop}{body g:ak->DH->(ak->DH->Prop)->Prop}
  (ht:∀Y G (k k':Bool->DH->Prop),(∀b L,k b L->k' b L)->N Y G k->J Y G k') (U:∀Y G (k k':ak->DH->Prop),(∀M L,k M L->k' M L)->body Y G k->g Y G k')
  {k k':ak->DH->Prop} (h:∀Y L,k Y L->k' Y L):∀(n:Nat)(Y:ak)(G:DH),whileLoop N body n Y G k->whileLoop J g n Y G k'
 |0,Y,G,q=>q
 |n+1,Y,G,q=>ht Y G _ _ (λb L z=>by
   cases b with
   |true=>exact U Y L _ _ (λM O z'=>Gw ht U h n M O z') z
   |false=>exact h _ _ z) q
end
section
variable {Z:aj} {G:DH}
theorem xV:∀(x:Exs){P Q:Prop},(P->Q)->jM x P->jM x Q
 |.nil,_,_,h,q=>h q
 |.cons _ _,_,_,_,q=>q
mutual
theorem aJ{E:EK}{Y:ak}:∀(x:Ex){G:DH}{k k':AT},(∀d G',k d G'->k' d G')->wpE Z x E Y G k->wpE Z x E Y G k'
 |.var i,G,k,k',h,q=>by
  rw[wH]at q ⊢;split at q
  .exact h _ _ q
  .exact q
 |.cst d,G,k,k',h,q=>by rw[jO]at q ⊢;exact h _ _ q
 |.glb x d,G,k,k',h,q=>by rw[wI]at q ⊢;exact h _ _ q
 |.bin op fz a b,G,k,k',h,q=>by
  rw[wJ]at q ⊢;exact aJ a (λv v q=>aJ b (λv v q=>Gi h q) q) q
 |.neg a,G,k,k',h,q=>by
  rw[wK]at q ⊢;show aJ a (λx v q=>?_) q;split at q
  .exact h _ _ q
  .exact q
 |.cmp op a b,G,k,k',h,q=>by
  rw[rW]at q ⊢;exact aJ a (λv v q=>aJ b (λv v q=>iK (λv q=>h _ _ q) q) q) q
 |.chn op op' a b c,G,k,k',h,q=>by
  rw[rY]at q ⊢;show aJ a (λv v q=>aJ b (λv v q=>iK (λt q=>?_) q) q) q;cases t with
  |true=>exact aJ c (λv v q=>iK (λv q=>h _ _ q) q) q
  |false=>exact h _ _ q
 |.not a,G,k,k',h,q=>by
  rw[wL]at q ⊢;show aJ a (λx v q=>?_) q;split at q
  .exact h _ _ q
  .exact q
 |.boo isAnd e es,G,k,k',h,q=>by
  rw[wM]at q ⊢;show aJ e (λx v q=>?_) q;split at q
  .exact sE es h q
  .exact q
 |.ife c a b,G,k,k',h,q=>by
  rw[wN]at q ⊢;show dm c (λt v q=>?_) q;cases t with
  |true=>exact aJ a h q
  |false=>exact aJ b h q
 |.tup es,G,k,k',h,q=>by
  rw[wO]at q ⊢;exact gk es (λv v q=>⟨q.1,h _ _ q.2⟩) q
 |.lst fz es,G,k,k',h,q=>by
  rw[wQ]at q ⊢;exact gk es (λv v q=>⟨q.1,dj h q.2⟩) q
 |.idx a i,G,k,k',h,q=>by
  rw[wR]at q ⊢;exact aJ a (λv v q=>aJ i (λv v q=>Gk (λv q=>h _ _ q) q) q) q
 |.slc fz a lo hi,G,k,k',h,q=>by
  rw[wV]at q ⊢;exact aJ a (λv v q=>xW lo (λv v q=>xW hi (λv v q=>Gm h q) q) q) q
 |.rvs fz a s,G,k,k',h,q=>by
  rw[wU]at q ⊢;exact aJ a (λv v q=>aJ s (λv v q=>Gn h q) q) q
 |.call f es,G,k,k',h,q=>by
  rw[wW]at q ⊢;exact gk es (λv v q=>Spec.mono q h λv v z=>z) q
 |.bcl f es,G,k,k',h,q=>by
  rw[wX]at q ⊢;exact gk es (λv v q=>Gp (λv q=>h _ _ q) q) q
 |.lcl fz f es,G,k,k',h,q=>by
  rw[wY]at q ⊢;exact gk es (λv v q=>Gq (λv q=>dj h q) q) q
 |.isi a t,G,k,k',h,q=>by
  rw[wZ]at q ⊢;show aJ a (λx v q=>?_) q;split at q
  .exact h _ _ q
  .exact q
 |.lns a,G,k,k',h,q=>by
  rw[xf]at q ⊢;show aJ a (λd v q=>?_) q;unfold jL at q ⊢;split at q
  .split at q
   .exact ⟨q.1,h _ _ q.2⟩
   .exact q
  .exact q
 |.rgl fz a,G,k,k',h,q=>by
  rw[xg]at q ⊢;show aJ a (λd v q=>?_) q;split at q
  .exact ⟨q.1,dj h q.2⟩
  .exact q
 |.rgt a,G,k,k',h,q=>by
  rw[xj]at q ⊢;show aJ a (λd v q=>?_) q;split at q
  .exact ⟨q.1,h _ _ q.2⟩
  .exact q
 |.mth m o es,G,k,k',h,q=>by
  rw[iI]at q ⊢;exact aJ o (λv v q=>⟨q.1,gk es (λv v q=>jP h q) q.2⟩) q
 |.comp fz elt tg it cond N cap,G,k,k',h,q=>by
  rw[xR]at q ⊢;show gm it (λitems g G1 q=>?_) q;show sy ?_ (λds G2 z=>dj h z) items [] _ G1 q;intro d ρ' G' k k' hk z;show eE (λρ1 z=>?_) tg z;show dm cond (λb G2 z=>?_) z;cases b with
  |true=>exact aJ elt (λy G3 z=>hk _ _ _ z) z
  |false=>exact hk _ _ _ z
 |.dnw,G,k,k',h,q=>by rw[xq]at q ⊢;exact λp hp=>h _ _ (q p hp)
 |.dcT a,G,k,k',h,q=>by
  rw[rZ]at q ⊢;show aJ a (λx G1 q=>?_) q;unfold dcK at q ⊢;split at q
  .split at q
   .exact ⟨q.1,λp hp=>h _ _ (q.2 p hp)⟩
   .exact q
  .exact q
 |.cm2 elt t1 i1 t2 i2 cond N cap,G,k,k',h,q=>by
  rw[xr]at q ⊢;show gm i1 (λitems g G1 q=>?_) q;show xU ?_ (λds v G2 z=>⟨z.1,dj h z.2⟩) items [] _ G1 q;intro d acc ρ' G' k k' hk z;show eE (λρ1 z=>gm i2 (λitems g G1 q=>?_) z) t1 z;show xU ?_ hk items _ _ G1 q;intro d acc ρ' G' k k' hk z;show eE (λρ1 z=>⟨z.1,dm cond (λb G2 z=>?_) z.2⟩) t2 z;cases b with
  |true=>exact aJ elt (λy G3 z=>hk _ _ _ z) z
  |false=>exact hk _ _ _ z
 |.dp1 a b,G,k,k',h,q=>by rw[xu]at q ⊢;exact aJ a (λv v q=>aJ b (λv v q=>su (λv z p hp=>h _ _ (z p hp)) q) q) q
 |.frz a,G,k,k',h,q=>by
  rw[xm]at q ⊢;show aJ a (λx G1 q=>?_) q;split at q
  .split at q
   .exact h _ _ q
   .exact q
  .exact h _ _ q
theorem dm{E:EK}{Y:ak}:∀(x:Tx){G:DH}{k k':Bool->DH->Prop},(∀d G',k d G'->k' d G')->wpT Z x E Y G k->wpT Z x E Y G k'
 |.not a,G,k,k',h,q=>by rw[wk]at q ⊢;exact dm a (λz z q=>h _ _ q) q
 |.boo isAnd e es,G,k,k',h,q=>by rw[wu]at q ⊢;exact dm e (λz z q=>sG es h q) q
 |.yes,G,k,k',h,q=>by rw[ww]at q ⊢;exact h _ _ q
 |.val a,G,k,k',h,q=>by
  rw[lM]at q ⊢;show aJ a (λx z q=>?_) q;split at q
  .exact h _ _ q
  .exact q
theorem Gx{E:EK}{Y:ak}:∀(x:Exs){G:DH}{k k':AA->DH->Prop},(∀d G',k d G'->k' d G')->wpF Z x E Y G k->wpF Z x E Y G k'
 |.nil,G,k,k',h,q=>by rw[FW]at q ⊢;exact h _ _ q
 |.cons e es,G,k,k',h,q=>by
  rw[Gd]at q ⊢;show aJ e (λd z q=>?_) q;split at q
  .exact ⟨q.1,Gx es (λz z q=>h _ _ q) q.2⟩
  .exact ⟨q.1,Gx es (λz z q=>h _ _ q) q.2⟩
  .exact q
theorem gk{E:EK}{Y:ak}:∀(x:Exs){G:DH}{k k':AS->DH->Prop},(∀d G',k d G'->k' d G')->bx Z x E Y G k->bx Z x E Y G k'
 |.nil,G,k,k',h,q=>by rw[jN]at q ⊢;exact h _ _ q
 |.cons e es,G,k,k',h,q=>by rw[iH]at q ⊢;exact aJ e (λz z q=>gk es (λz z q=>h _ _ q) q) q
theorem sE{E:EK}{Y:ak}:∀(x:Exs){isAnd b:Bool}{G:DH}{k k':AT},(∀d G',k d G'->k' d G')->wpB Z x isAnd b E Y G k->wpB Z x isAnd b E Y G k'
 |.nil,_,_,G,k,k',h,q=>by rw[wy]at q ⊢;exact h _ _ q
 |.cons e es,isAnd,b,G,k,k',h,q=>by
  rw[rR]at q ⊢;cases isAnd<;>cases b<;>first
   |exact h _ _ q
   | (show aJ e (λd z q=>?_) q
      split at q
      .exact sE es h q
      .exact xV es (h _ _) q)
theorem sG{E:EK}{Y:ak}:∀(x:Txs){isAnd b:Bool}{G:DH}{k k':Bool->DH->Prop},(∀d G',k d G'->k' d G')->gj Z x isAnd b E Y G k->gj Z x isAnd b E Y G k'
 |.nil,_,_,G,k,k',h,q=>by rw[wz]at q ⊢;exact h _ _ q
 |.cons e es,isAnd,b,G,k,k',h,q=>by
  rw[rT]at q ⊢;cases isAnd<;>cases b<;>first
   |exact h _ _ q
   |exact dm e (λd z q=>sG es h q) q
theorem xW{E:EK}{Y:ak}:∀(x:Ox){G:DH}{k k':Option Int->DH->Prop},(∀d G',k d G'->k' d G')->wpO Z x E Y G k->wpO Z x E Y G k'
 |.no,G,k,k',h,q=>by rw[wA]at q ⊢;exact h _ _ q
 |.ob a,G,k,k',h,q=>by
  rw[wB]at q ⊢;show aJ a (λx z q=>?_) q;split at q
  .exact h _ _ q
  .exact q
theorem gm{E:EK}{Y:ak}:∀(x:It'){G:DH}{k k':AS->Hld->DH->Prop},(∀d g G',k d g G'->k' d g G')->wpI Z x E Y G k->wpI Z x E Y G k'
 |.seq a,G,k,k',h,q=>by
  rw[wC]at q ⊢;show aJ a (λx z q=>?_) q;split at q
  .exact h _ _ _ q
  .exact q
 |.rng a,G,k,k',h,q=>by
  rw[wD]at q ⊢;show aJ a (λx z q=>?_) q;split at q
  .exact ⟨q.1,h _ _ _ q.2⟩
  .exact q
 |.enm a,G,k,k',h,q=>by
  rw[wF]at q ⊢;show aJ a (λx z q=>?_) q;split at q
  .exact h _ _ _ q
  .exact q
 |.zip a b,G,k,k',h,q=>by
  rw[wG]at q ⊢;show aJ a (λx z q=>aJ b (λy z q=>?_) q) q;split at q
  .exact h _ _ _ q
  .exact q
end
structure En.Le(D D':En):Prop where
 nx:∀Y G,D.nx Y G->D'.nx Y G
 rt:∀d G,D.rt d G->D'.rt d G
 bk:∀Y G,D.bk Y G->D'.bk Y G
 ct:∀Y G,D.ct Y G->D'.ct Y G
mutual
theorem wpS_mono{E:EK}:∀(x:Sx){Y:ak}{G:DH}{D D':En},D.Le D'->wpS Z x E Y G D->wpS Z x E Y G D'
 |.exp e,Y,G,D,D',h,q=>by rw[xF]at q ⊢;exact aJ e (λy y q=>h.nx _ _ q) q
 |.asg t e,Y,G,D,D',h,q=>by rw[iJ]at q ⊢;exact aJ e (λy y q=>eE (λy q=>h.nx _ _ q) t q) q
 |.set o i e,Y,G,D,D',h,q=>by rw[xG]at q ⊢;exact aJ e (λy y q=>aJ o (λy y q=>aJ i (λy y q=>Gs (λy q=>h.nx _ _ q) q) q) q) q
 |.aug i op e,Y,G,D,D',h,q=>by
  rw[xH]at q ⊢;split at q
  .exact aJ e (λy y q=>Gu (λy q=>h.nx _ _ q) q) q
  .exact q
 |.ret e,Y,G,D,D',h,q=>by rw[xJ]at q ⊢;exact aJ e (λy y q=>h.rt _ _ q) q
 |.rtn,Y,G,D,D',h,q=>by rw[xK]at q ⊢;exact h.rt _ _ q
 |.ite c a b,Y,G,D,D',h,q=>by
  rw[xM]at q ⊢;show dm c (λt y q=>?_) q;cases t with
  |true=>exact dR a h q
  |false=>exact dR b h q
 |.for_ t it body,Y,G,D,D',h,q=>by
  rw[Ge]at q ⊢;exact gm it (λitems g G1 q=>Gv (λd ρ' G' k k' hk z=>eE (λρ1 z=>dR body (D:={D with nx:=k,ct:=k,bk:=D.nx}) (D':={D' with nx:=k',ct:=k',bk:=D'.nx}) ⟨hk,h.rt,h.nx,hk⟩ z) t z) h.nx items Y G1 q) q
 |.whl c body,Y,G,D,D',h,q=>by
  rw[Gf]at q ⊢;let(n,q):=q;show⟨n,?_⟩;show Gw ?_ ?_ h.nx n Y G q
  .exact λρ' G' k k' hk z=>dm c hk z
  .exact λρ' G' k k' hk z=>dR body (D:={D with nx:=k,ct:=k,bk:=D.nx}) (D':={D' with nx:=k',ct:=k',bk:=D'.nx}) ⟨hk,h.rt,h.nx,hk⟩ z
 |.pas,Y,G,D,D',h,q=>by rw[xN]at q ⊢;exact h.nx _ _ q
 |.brk,Y,G,D,D',h,q=>by rw[xO]at q ⊢;exact h.bk _ _ q
 |.cnt,Y,G,D,D',h,q=>by rw[xP]at q ⊢;exact h.ct _ _ q
 |.nev,Y,G,D,D',h,q=>by rw[xQ]at q;exact q.elim
theorem dR{E:EK}:∀(x:Sxs){Y:ak}{G:DH}{D D':En},D.Le D'->az Z x E Y G D->az Z x E Y G D'
 |.nil,Y,G,D,D',h,q=>by rw[lN]at q ⊢;exact h.nx _ _ q
 |.cons s r,Y,G,D,D',h,q=>by rw[lO]at q ⊢;exact wpS_mono s (D:={D with nx:=λρ' G'=>az Z r E ρ' G' D}) (D':={D' with nx:=λρ' G'=>az Z r E ρ' G' D'}) ⟨λy y z=>dR r h z,h.rt,h.bk,h.ct⟩ q
end
end
def PV(K:PF)(H:Hp)(F:FZ)(Q:VK):D->DH->Prop:=λd g=>∀H' F' v,Ext H F H' F'->R K H' F' g->Rep K H' F' d v->Q v H'
def PB(K:PF)(H:Hp)(F:FZ)(Q:Bool->Hp->Prop):Bool->DH->Prop:=λb g=>∀H' F',Ext H F H' F'->R K H' F' g->Q b H'
def PLs(K:PF)(H:Hp)(F:FZ)(Q:AR->Hp->Prop):AS->DH->Prop:=λds g=>∀H' F' vs,Ext H F H' F'->R K H' F' g->Reps K H' F' ds vs->Q vs H'
section
variable {K:PF} {H:Hp} {F:FZ} {G:DH} {Q:VK}
theorem PV.now{d:D}{v:V}(h:PV K H F Q d G)(r:R K H F G)(q:Rep K H F d v):Q v H:=h H F v (Ext.refl H F) r q
theorem dq{fz:Bool}{ds:AS}{vs:AR}(h:mk fz ds G (PV K H F Q))(r:R K H F G)(t:Reps K H F ds vs)(p:AQ)(g:H p=none):Q (.ref p) (upd H p (.lst vs)):=by
 cases fz with
 |true=>exact h _ _ _ (vV r g) (r.newF g) (Yc r g t)
 |false=>exact h p (r.free g) _ _ _ (cY r g) (r.newL g t) rfl
theorem gJ{ds:AS}{vs:AR}(h:PV K H F Q (.tup ds) G)(r:R K H F G)(t:Reps K H F ds vs)(p:AQ)(g:H p=none):Q (.ref p) (upd H p (.tup vs)):=
 h _ _ _ (cY r g) (r.new g) (vW r g t)
end
def szl:sz<=sizeLine:=by rw[fR];decide
def dg{n:Nat}(h:n<=sz):n<=sizeLine:=b5 h szl
def rB2(K:PF)(f:D->D->DH->(AT)->Prop):R2:=λx y H Q=>∃F G a b,R K H F G/\Rep K H F a x/\Rep K H F b y/\f (view G a) (view G b) G (PV K H F Q)
section
variable {X:Cx}
theorem Ym:OpR X (binaryOp .Add) (λx y H Q=>∃a b xs ys,x=.ref a/\y=.ref b/\SqL X.K H a xs/\SqL X.K H b ys/\xs⁻¹+ys⁻¹<=sizeLine/\∀p,H p=none->Q (.ref p) (upd H p (.lst (xs++ys)))):=by
 intro p9 s Y H x y v u Q I rx ry h;let(a,b,xs,ys,rfl,rfl,ha,hb,hz,q):=h;cases rx;cases ry;let(z,r1,p1,_):=I.list ha;let(g,r2,p2,_):=I.list hb;let((cls,dd,data,sl),ho,hc,n,hd):=p1.isList;let((cls2,O,N,U),M,J,n2,L):=p2.isList;simp only at hc hd J L;subst hc hd J L;have e:z.toArray++g.toArray=(z++g).toArray:=by simp
 show concat_meets ⟨_,ho,rfl⟩ ⟨_,M,rfl⟩ noFill_list_add seq_list_add PySem.F.slot_list_add PySem.F.entry_list_add (PySem.F.args_list_add_2 _ _)
  (list_addW a b z.toArray g.toArray n n2 dd O sl U (by rw[am,am,<-r1⁻¹,<-r2⁻¹];exact hz)) ⟨ho,M,?_⟩
 rw[e];exact⟨.ref _,_,I.lnew (t':=s.toks) (r1.append r2) (by rw[ax];exact hz),rfl,q _ I.fresh⟩
theorem Yn:OpR X (binaryOp .Add) (λx y H Q=>∃a b ys,x=.ref a/\y=.ref b/\SqT X.K H a []/\SqT X.K H b ys/\Q (.ref b) H):=by
 intro p9 s Y H x y v u Q I rx ry h;let(a,b,ys,rfl,rfl,ha,hb,q):=h;cases rx;cases ry;let(its,r1,p1,_):=I.tuple ha;let(L,r2,p2,_):=I.tuple hb;let((cls,dd,data,sl),ho,hc,n,hd):=id p1;let((U,N,M,O),J,g,n2,z):=id p2;simp only at hc hd g z;subst hc hd g z;cases r1;exact concat_meets ⟨_,ho,rfl⟩ ⟨_,J,rfl⟩ noFill_tuple_add seq_tuple_add PySem.F.slot_tuple_add PySem.F.entry_tuple_add (PySem.F.args_tuple_add_2 _ _)
   (tuple_addW0 a b _ L.toArray n n2 dd N sl O (!2)) ⟨ho,J,⟨.ref b,H,I,rfl,q⟩⟩
theorem xX{K:PF}{H:Hp}{F:FZ}{ds:AS}{vs:AR}(t:Reps K H F ds vs):ds=[]↔vs=[]:=by
 have:=t⁻¹;constructor
 .intro e;subst e;exact cw.mp this.symm
 .intro e;subst e;exact cw.mp this
theorem Yo{x:Str}{n:Nat}(h1:n<=1000)(h:x⁻¹*n<=sz):MulOk x (n:Int):=by
 have h2:((x⁻¹*n:Nat):Int)<=((1000000:Nat):Int):=Int.ofNat_le.mpr h;rw[Int.natCast_mul]at h2;show⟨?_,?_,?_⟩
 .rw[bq (!0),bq (!0)];rfl
 .intro hn _ hh;have q:(0:Int)<n:=by lia
  have g:(x⁻¹:Int)<=(2 ^ 63-1)/n:=(Int.le_ediv_iff_mul_le q).mpr (Int.le_trans h2 (!1));exact absurd hh (Int.not_lt.mpr g)
 .intro _ _;unfold Builtin.Str.tooLong;rw[fR,b3];exact bq (by have:sz=1000000:=rfl;lia)
theorem Gy(l:AA):∀(n:Nat)(g:AA),(List.replicate n l.toArray).foldl (· ++ ·) g.toArray=(g++reps l n).toArray
 |0,g=>by simp[reps]
 |n+1,g=>by
  rw[cr,ft];have e:g.toArray++l.toArray=(g++l).toArray:=by simp
  rw[e,Gy l n (g++l)];unfold reps;rw[cr,e8,fq]
theorem Yp(n:Nat):reps ([]:AA) n=[]:=by
 unfold reps;induction n with
 |zero=>rfl
 |succ n g=>rw[cr,e8,g];rfl
theorem Yq{g:Type}(l:List g)(n:Nat):(reps l n)⁻¹=n*l⁻¹:=len_rep l n
theorem Yr(l:AA)(n:Nat):Txt.mul (tx l) (n:Int)=tx (reps l n):=by
 unfold Txt.mul;by_cases h:(n:Int)<1
 .rw[if_pos h];have:n=0:=by lia
  subst this;rfl
 .rw[if_neg h];by_cases h2:((n:Int)==1||(tx l)⁻¹==0)=true
  .rw[if_pos h2];rw[dP]at h2;rcases h2 with h2|h2
   .have:n=1:=by have:=eq_of_beq h2;lia
    subst this;simp[reps]
   .have g:=eq_of_beq h2;rw[cB]at g;have:l=[]:=cw.mp g;subst this;rw[Yp]
  .rw[if_neg h2];have e:=Gy l n [];rw[List.nil_append]at e;exact fb Str.mk (!!e)
theorem Ys(op:Operator)(fz:Bool):OpR X (binaryOp op) (rB2 X.K (cO op fz)):=by
 intro p9 s Y H x y v u Q I g q h;let(F,G,a,b,r,N,O,h):=h;generalize U:view G a=va at h;generalize eb:view G b=vb at h;have J:∀{p:Int->Int->Prop},gF va vb p->∃i j,x=.int i/\y=.int j/\p i j:=λ{p} h=>by
  let(i,j,rfl,rfl,h):=Gg h;cases eU U;cases eU eb;exact⟨i,j,N,O,h⟩
 cases op with
 |Add=>
  have h:jC fz va vb G _:=h;unfold jC at h;cases va with
  |int _=>cases vb with
   |int _=>
    cases eU U;cases eU eb;have ha:x=.int _:=N;have L:y=.int _:=O;subst ha;subst L;exact Th p9 s Y H _ _ v u Q I g q ⟨_,_,rfl,rfl,h.now r rfl⟩
   |_=>exact h.elim
  |str _=>cases vb with
   |str _=>
    cases gD U;cases gD eb;let(ha,la):=N;let(L,lb):=O;subst ha;subst L;show TY p9 s Y H _ _ v u Q I g q ⟨_,_,rfl,rfl,?_,?_⟩
    .rw[cB,cB];exact dg h.1
    .rw[qU];exact h.2.now r ⟨rfl,by rw[ax];exact h.1⟩
   |_=>exact h.elim
  |lst _=>cases vb with
   |lst _=>
    let(p,vs,rfl,M,z):=Rep.list r N U;let(p',vs',rfl,q2,t2):=Rep.list r O eb;exact Ym p9 s Y H _ _ v u Q I g q ⟨p,p',vs,vs',rfl,rfl,M,q2,by rw[<-z⁻¹,<-t2⁻¹];exact dg h.1,dq h.2 r (z.append t2)⟩
   |_=>exact h.elim
  |tup xs=>cases vb with
   |tup ys=>
    cases fM U;cases fM eb;let(p,vs,rfl,M,z):=id N;let(p',vs',rfl,q2,t2):=id O;by_cases hx:vs=[]
    .subst hx;have:xs=[]:=(xX z).mpr rfl;subst this;exact Yn p9 s Y H _ _ v u Q I g q ⟨p,p',vs',rfl,rfl,M.sq,q2.sq,h.2.now r O⟩
    .show Uv p9 s Y H _ _ v u Q I g q ⟨p,p',vs,vs',rfl,rfl,M.sq,q2.sq,hx,by rw[<-z⁻¹,<-t2⁻¹];exact dg h.1,λe=>?_,λt=>gJ h.2 r (z.append t2)⟩;subst e;have:ys=[]:=(xX t2).mpr rfl;subst this;have h2:=h.2;rw[dL]at h2;exact h2.now r N
   |_=>exact h.elim
  |_=>exact h.elim
 |Sub=>
  let(i,j,rfl,rfl,h):=J h;exact Ti p9 s Y H _ _ v u Q I g q ⟨_,_,rfl,rfl,h.now r rfl⟩
 |Mult=>
  have h:jD fz va vb G _:=h;unfold jD at h;cases vb with
  |int n=>cases va with
   |int _=>
    cases eU U;cases eU eb;have ha:x=.int _:=N;have L:y=.int _:=O;subst ha;subst L;exact Tj p9 s Y H _ _ v u Q I g q ⟨_,_,rfl,rfl,h.1,h.2.now r rfl⟩
   |str _=>
    cases gD U;cases eU eb;let(ha,la):=N;have L:y=.int _:=O;subst ha;subst L;let(h0,h1,h2,h3):=h;let(n,rfl):=ci h0;rw[b3]at h2 h3;show Vq p9 s Y H _ _ v u Q I g q ⟨_,_,rfl,rfl,Yo (!0) (by rw[cB];exact h2),?_⟩;rw[Yr];exact h3.now r ⟨rfl,by rw[Yq,Nat.mul_comm];exact h2⟩
   |tup x=>
    cases fM U;cases eU eb;let(p,vs,rfl,M,z):=N;have L:y=.int _:=O;subst L;let(h0,h1,h2,h3,h4):=h;have hne:=λe=>h2 ((xX z).mpr e);by_cases c1:n=1
    .subst c1;have e1:reps x (1:Int).toNat=x:=by change(List.replicate 1 x).flatten=x;simp
     rw[e1]at h4;exact Fw p9 s Y H _ _ v u Q I g q ⟨p,_,vs,rfl,rfl,M.sq,hne,.inl ⟨rfl,h4.now r ⟨p,vs,rfl,M,z⟩⟩⟩
    by_cases c0:n=0
    .subst c0;exact Fw p9 s Y H _ _ v u Q I g q ⟨p,_,vs,rfl,rfl,M.sq,hne,.inr ⟨rfl,gJ h4 r (z.rep 0)⟩⟩
    show VV p9 s Y H _ _ v u Q I g q ⟨p,_,vs,rfl,rfl,M.sq,hne,!0,h1,by rw[<-z⁻¹];exact dg h3,?_⟩;exact gJ h4 r (z.rep _)
   |lst _=>
    cases eU eb;have L:y=.int _:=O;subst L;let(p,vs,rfl,M,z):=N.list r U;let(h0,h1,h2,h3):=h;exact V3 p9 s Y H _ _ v u Q I g q ⟨p,_,vs,rfl,rfl,M,h0,h1,by rw[<-z⁻¹];exact dg h2,dq h3 r (z.rep _)⟩
   |_=>exact h.elim
  |_=>exact h.elim
 |FloorDiv=>
  let(i,j,rfl,rfl,h):=J h;exact VL p9 s Y H _ _ v u Q I g q ⟨_,_,rfl,rfl,h.1,h.2.now r rfl⟩
 |Mod=>
  let(i,j,rfl,rfl,h):=J h;exact Tn p9 s Y H _ _ v u Q I g q ⟨_,_,rfl,rfl,h.1,h.2.now r rfl⟩
 |Pow=>
  let(i,j,rfl,rfl,h):=J h;exact Tp p9 s Y H _ _ v u Q I g q ⟨_,_,rfl,rfl,h.1,h.2.now r rfl⟩
 |_=>exact h.elim
end
mutual
theorem xY:∀{d:D},nr d=true->deq d d=true
 |.non,_=>rfl
 |.bl b,_=>by simp[deq]
 |.int i,_=>by simp[deq]
 |.str l,_=>by simp[deq]
 |.tup xs,h=>by rw[deq];exact sH (by rw[nr]at h;exact h)
 |.lst xs,h=>by rw[deq];exact sH (by rw[nr]at h;exact h)
 |.ref a,h=>by rw[nr]at h;cases h
 |.scr a,h=>by rw[nr]at h;cases h
 |.exn a,h=>by rw[nr]at h;cases h
 |.exa _ _ _,h=>by rw[nr]at h;cases h
 |.obj _ _ _,h=>by rw[nr]at h;cases h
 |.dct _ _,h=>by rw[nr]at h;cases h
theorem sH:∀{ds:AS},nrs ds=true->bM ds ds=true
 |[],_=>rfl
 |d::ds,h=>by
  rw[nrs,af]at h;rw[bM,xY h.1,sH h.2];rfl
end
def sI:∀(xs ys:AS),bM xs ys=((List.range (min xs⁻¹ ys⁻¹)).all (λj=>deq (xs.getD j .non) (ys.getD j .non))&&xs⁻¹==ys⁻¹)
 |[],[]=>rfl
 |[],y::ys=>by simp[bM]
 |x::xs,[]=>by simp[bM]
 |x::xs,y::ys=>by
  have e:min (x::xs)⁻¹ (y::ys)⁻¹=(min xs⁻¹ ys⁻¹)+1:=by simp only[ca];lia
  rw[bM,sI xs ys,e,List.range_succ_eq_map,List.all_cons,List.all_map];simp only[List.getD_cons_zero,ca,Bool.and_assoc];congr 1;congr 1;rw[d4];simp
def Yt{xs ys:AS}(h:xs⁻¹≠ys⁻¹):bM xs ys=false:=by rw[sI];rw[show(xs⁻¹==ys⁻¹)=false from dy.mpr h,gS]
def lQ:∀{xs:AS}{i:Nat},nrs xs=true->nr (xs.getD i .non)=true
 |[],_,_=>rfl
 |x::xs,0,h=>by rw[nrs,af]at h;exact h.1
 |x::xs,i+1,h=>by rw[nrs,af]at h;rw[List.getD_cons_succ];exact lQ h.2
def lR:∀{xs:AS}{i:Nat},dpt (xs.getD i .non)<=bf xs
 |[],_=>ck _
 |x::xs,0=>by rw[bf,List.getD_cons_zero];lia
 |x::xs,i+1=>by rw[bf,List.getD_cons_succ];have:=@lR xs i;lia
section
variable {X:Cx} {p9:AC} {σ:L2.St} {H:Hp} {s:AI} {F:FZ}
mutual
theorem sJ(I:Inv X p9 σ H s):∀{d d':D}{v:V},nr d=true->nr d'=true->Rep X.K H F d v->Rep X.K H F d' v->d=d'
 |.non,d',v,_,n',h,h'=>by
  have h:v=.non:=h;subst h;cases d' with
  |non=>rfl
  |bl _=>simp only[Rep]at h';cases h'
  |int _=>simp only[Rep]at h';cases h'
  |ref _=>simp only[Rep]at h';cases h'
  |scr _=>rw[nr]at n';cases n'
  |exn _=>rw[nr]at n';cases n'
  |exa _ _ _=>rw[nr]at n';cases n'
  |obj _ _ _=>rw[nr]at n';cases n'
  |dct _ _=>rw[nr]at n';cases n'
  |str _=>simp only[Rep]at h';let(e,_):=h';cases e
  |tup _=>simp only[Rep]at h';let(_,_,e,_):=h';cases e
  |lst _=>simp only[Rep]at h';let(_,_,e,_):=h';cases e
 |.bl b,d',v,_,n',h,h'=>by
  have h:v=.bl b:=h;subst h;cases d' with
  |non=>simp only[Rep]at h';cases h'
  |bl _=>simp only[Rep]at h';cases h';rfl
  |int _=>simp only[Rep]at h';cases h'
  |ref _=>simp only[Rep]at h';cases h'
  |scr _=>rw[nr]at n';cases n'
  |exn _=>rw[nr]at n';cases n'
  |exa _ _ _=>rw[nr]at n';cases n'
  |obj _ _ _=>rw[nr]at n';cases n'
  |dct _ _=>rw[nr]at n';cases n'
  |str _=>simp only[Rep]at h';let(e,_):=h';cases e
  |tup _=>simp only[Rep]at h';let(_,_,e,_):=h';cases e
  |lst _=>simp only[Rep]at h';let(_,_,e,_):=h';cases e
 |.int b,d',v,_,n',h,h'=>by
  have h:v=.int b:=h;subst h;cases d' with
  |non=>simp only[Rep]at h';cases h'
  |bl _=>simp only[Rep]at h';cases h'
  |int _=>simp only[Rep]at h';cases h';rfl
  |ref _=>simp only[Rep]at h';cases h'
  |scr _=>rw[nr]at n';cases n'
  |exn _=>rw[nr]at n';cases n'
  |exa _ _ _=>rw[nr]at n';cases n'
  |obj _ _ _=>rw[nr]at n';cases n'
  |dct _ _=>rw[nr]at n';cases n'
  |str _=>simp only[Rep]at h';let(e,_):=h';cases e
  |tup _=>simp only[Rep]at h';let(_,_,e,_):=h';cases e
  |lst _=>simp only[Rep]at h';let(_,_,e,_):=h';cases e
 |.str l,d',v,_,n',h,h'=>by
  let(h,_):=h;subst h;cases d' with
  |str l'=>
   let(e,_):=h';injection e with e;rw[Di e]
  |non=>simp only[Rep]at h';cases h'
  |bl _=>simp only[Rep]at h';cases h'
  |int _=>simp only[Rep]at h';cases h'
  |ref _=>simp only[Rep]at h';cases h'
  |scr _=>rw[nr]at n';cases n'
  |exn _=>rw[nr]at n';cases n'
  |exa _ _ _=>rw[nr]at n';cases n'
  |obj _ _ _=>rw[nr]at n';cases n'
  |dct _ _=>rw[nr]at n';cases n'
  |tup _=>simp only[Rep]at h';let(_,_,e,_):=h';cases e
  |lst _=>simp only[Rep]at h';let(_,_,e,_):=h';cases e
 |.tup xs,d',v,n,n',h,h'=>by
  let(a,vs,e,q,t):=h;subst e;cases d' with
  |tup ys=>
   let(a',vs',e,q',t'):=h';injection e with e;subst e;have:=I.tuple_inj q.sq q'.sq;subst this;rw[nr]at n n';rw[xZ I n n' t t']
  |lst ys=>
   let(a',vs',e,q',t'):=h';injection e with e;subst e;let(its,_,(o,e1,c1,_),_):=I.tuple q.sq;let(its',_,(o',n',e2,c2,_),_):=I.list q'.sq;rw[e1]at e2;cases e2;rw[c1]at c2;exact absurd c2 (by ac_rfl)
  |ref _=>rw[nr]at n';cases n'
  |scr _=>rw[nr]at n';cases n'
  |exn _=>rw[nr]at n';cases n'
  |exa _ _ _=>rw[nr]at n';cases n'
  |obj _ _ _=>rw[nr]at n';cases n'
  |dct _ _=>rw[nr]at n';cases n'
  |str _=>simp only[Rep]at h';let(e,_):=h';cases e
  |non=>simp only[Rep]at h';cases h'
  |bl _=>simp only[Rep]at h';cases h'
  |int _=>simp only[Rep]at h';cases h'
 |.lst xs,d',v,n,n',h,h'=>by
  let(a,vs,e,q,t):=h;subst e;cases d' with
  |lst ys=>
   let(a',vs',e,q',t'):=h';injection e with e;subst e;have:=I.list_inj q.sq q'.sq;subst this;rw[nr]at n n';rw[xZ I n n' t t']
  |tup ys=>
   let(a',vs',e,q',t'):=h';injection e with e;subst e;let(its,_,(o,e1,c1,_),_):=I.tuple q'.sq;let(its',_,(o',n',e2,c2,_),_):=I.list q.sq;rw[e1]at e2;cases e2;rw[c1]at c2;exact absurd c2 (by ac_rfl)
  |ref _=>rw[nr]at n';cases n'
  |scr _=>rw[nr]at n';cases n'
  |exn _=>rw[nr]at n';cases n'
  |exa _ _ _=>rw[nr]at n';cases n'
  |obj _ _ _=>rw[nr]at n';cases n'
  |dct _ _=>rw[nr]at n';cases n'
  |str _=>simp only[Rep]at h';let(e,_):=h';cases e
  |non=>simp only[Rep]at h';cases h'
  |bl _=>simp only[Rep]at h';cases h'
  |int _=>simp only[Rep]at h';cases h'
 |.ref a,d',v,n,_,_,_=>by rw[nr]at n;cases n
 |.scr a,d',v,n,_,_,_=>by rw[nr]at n;cases n
 |.exn a,d',v,n,_,_,_=>by rw[nr]at n;cases n
 |.exa _ _ _,d',v,n,_,_,_=>by rw[nr]at n;cases n
 |.obj _ _ _,d',v,n,_,_,_=>by rw[nr]at n;cases n
 |.dct _ _,d',v,n,_,_,_=>by rw[nr]at n;cases n
theorem xZ(I:Inv X p9 σ H s):∀{ds ds':AS}{vs:AR},nrs ds=true->nrs ds'=true->Reps X.K H F ds vs->Reps X.K H F ds' vs->ds=ds'
 |[],[],_,_,_,_,_=>rfl
 |[],_::_,_,_,_,h,⟨v,r,e,_⟩=>by have h:_=[]:=h;rw[h]at e;cases e
 |_::_,[],_,_,_,⟨v,r,e,_⟩,h=>by have h:_=[]:=h;rw[h]at e;cases e
 |d::ds,d'::ds',_,n,n',⟨v,r,e,h,t⟩,⟨v',r',e',h',t'⟩=>by
  subst e;injection e' with e1 e2;subst e1;subst e2;rw[nrs,af]at n n';rw[sJ I n.1 n'.1 h h',xZ I n.2 n'.2 t t']
end
theorem sO{I:Inv X p9 Y H s}{ds:AS}{vs:AR}{g:AB}(t:Reps X.K H F ds vs)(r:Vals vs g)(j:Nat)(h:j<g⁻¹):∃v,Rep X.K H F (ds.getD j .non) v/\RelV v g[j]:=by
 have hl:j<ds⁻¹:=by rw[t⁻¹,r⁻¹];exact h
 have z:ds[j]?=-(ds.getD j .non):=by rw[bP,ar hl];rfl
 let(v,J,L):=t.get z;let(u,q,M):=r.get J;rw[ar h]at q;cases q;exact⟨v,L,M⟩
theorem Yu(a b:AA):(tx a==tx b)=(a==b):=by rw[d4,a8,a8];exact⟨λh=>Di h,λh=>by rw[h]⟩
theorem Yv(I:Inv X p9 Y H s){n:Nat}{A:AM}{xs ys:AS}{a q:AQ}{vs N:AR}{g its':AB}
  (ih:∀m,m<n->∀(A:AM)(d d':D)(v v':V)(u U:AN),A.units+m<cLine->min (dpt d) (dpt d')<=m->nr d=true->nr d'=true->Rep X.K H F d v->Rep X.K H F d' v'->RelV v u->RelV v' U->
   SeqAt.RcAt A s u U (deq d d')/\SeqAt.EqAt A s u U (deq d d')/\SeqAt.RcNeAt A s u U (!deq d d'))
  (hu:A.units+n<cLine) (hd:min (dpt (.tup xs)) (dpt (.tup ys))<=n) (O:nr (.tup xs)=true) (n2:nr (.tup ys)=true) (h:Rep X.K H F (.tup xs) (.ref a)) (h':Rep X.K H F (.tup ys) (.ref q))
  (pt:s.heap.IsTuple a g.toArray) (J:s.heap.IsTuple q its'.toArray) (rv:Vals vs g) (L:Vals N its') (tt:Reps X.K H F xs vs) (M:Reps X.K H F ys N):
  SeqAt.RcAt A s (.ref a) (.ref q) (deq (.tup xs) (.tup ys))/\SeqAt.EqAt A s (.ref a) (.ref q) (deq (.tup xs) (.tup ys))/\SeqAt.RcNeAt A s (.ref a) (.ref q) (!deq (.tup xs) (.tup ys)):=by
 have hd':min (bf xs+1) (bf ys+1)<=n:=by rw[dpt,dpt]at hd;exact hd
 have hn1:nrs xs=true:=by rw[nr]at O;exact O
 have hn2:nrs ys=true:=by rw[nr]at n2;exact n2
 have l1:g.toArray.size=xs⁻¹:=by rw[am,<-rv⁻¹,tt⁻¹]
 have l2:its'.toArray.size=ys⁻¹:=by rw[am,<-L⁻¹,M⁻¹]
 have he:∀j (h1:j<g.toArray.size) (h2:j<its'.toArray.size),SeqAt.EqAt A.in1 s g.toArray[j] its'.toArray[j] (deq (xs.getD j .non) (ys.getD j .non)):=by intro j h1 h2;let(w1,q1,q2):=sO (I:=I) tt rv j (!!h1);let(w2,q3,q4):=sO (I:=I) M L j (!!h2);have d1:=@lR xs j;have d2:=@lR ys j;exact(ih (n-1) (!0) A.in1 _ _ w1 w2 _ _ (by change A.units+1+(n-1)<cLine;lia) (!0) (lQ hn1) (lQ hn2) q1 q3 (!!q2) (!!q4)).2.1
 have e:deq (.tup xs) (.tup ys)=((List.range (min g.toArray.size its'.toArray.size)).all (λj=>deq (xs.getD j .non) (ys.getD j .non))&&g.toArray.size==its'.toArray.size):=by rw[deq,sI,l1,l2]
 have rc:SeqAt.RcAt A s (.ref a) (.ref q) (deq (.tup xs) (.tup ys)):=by rw[e];exact .tuples pt J (!0) he
 show⟨rc,?_,by rw[e];exact .tuples pt J (!0) he⟩;by_cases z:a=q
 .subst z;have:=sJ I O n2 h h';rw[<-this,xY O];exact .same _
 .exact .of_refs z rc
theorem Yw(I:Inv X p9 Y H s){n:Nat}{A:AM}{xs ys:AS}{a q:AQ}{vs vs':AR}{g its':AB}
  (ih:∀m,m<n->∀(A:AM)(d d':D)(v v':V)(u u':AN),A.units+m<cLine->min (dpt d) (dpt d')<=m->nr d=true->nr d'=true->Rep X.K H F d v->Rep X.K H F d' v'->RelV v u->RelV v' u'->
   SeqAt.RcAt A s u u' (deq d d')/\SeqAt.EqAt A s u u' (deq d d')/\SeqAt.RcNeAt A s u u' (!deq d d'))
  (hu:A.units+n<cLine) (hd:min (dpt (.lst xs)) (dpt (.lst ys))<=n) (n1:nr (.lst xs)=true) (n2:nr (.lst ys)=true) (h:a=q->xs=ys)
  (pt:s.heap.IsList a g.toArray) (J:s.heap.IsList q its'.toArray) (rv:Vals vs g) (O:Vals vs' its') (tt:Reps X.K H F xs vs) (U:Reps X.K H F ys vs'):
  SeqAt.RcAt A s (.ref a) (.ref q) (deq (.lst xs) (.lst ys))/\SeqAt.EqAt A s (.ref a) (.ref q) (deq (.lst xs) (.lst ys))/\SeqAt.RcNeAt A s (.ref a) (.ref q) (!deq (.lst xs) (.lst ys)):=by
 have hd':min (bf xs+1) (bf ys+1)<=n:=by rw[dpt,dpt]at hd;exact hd
 have hn1:nrs xs=true:=by rw[nr]at n1;exact n1
 have hn2:nrs ys=true:=by rw[nr]at n2;exact n2
 have l1:g.toArray.size=xs⁻¹:=by rw[am,<-rv⁻¹,tt⁻¹]
 have l2:its'.toArray.size=ys⁻¹:=by rw[am,<-O⁻¹,U⁻¹]
 have M:∀(L:SeqAt.RcAt A s (.ref a) (.ref q) (deq (.lst xs) (.lst ys))),SeqAt.EqAt A s (.ref a) (.ref q) (deq (.lst xs) (.lst ys)):=λL=>by
  by_cases z:a=q
  .have:=h z;subst z;subst this;rw[xY n1];exact .same _
  .exact .of_refs z L
 by_cases hl:xs⁻¹=ys⁻¹
 .have he:∀j (h1:j<g.toArray.size) (h2:j<its'.toArray.size),SeqAt.EqAt A.in1 s g.toArray[j] its'.toArray[j] (deq (xs.getD j .non) (ys.getD j .non)):=by
   intro j h1 h2;let(w1,q1,q2):=sO (I:=I) tt rv j (!!h1);let(w2,q3,q4):=sO (I:=I) U O j (!!h2);have d1:=@lR xs j;have d2:=@lR ys j;exact(ih (n-1) (!0) A.in1 _ _ w1 w2 _ _ (by change A.units+1+(n-1)<cLine;lia) (!0) (lQ hn1) (lQ hn2) q1 q3 (!!q2) (!!q4)).2.1
  have e:deq (.lst xs) (.lst ys)=(List.range g.toArray.size).all (λj=>deq (xs.getD j .non) (ys.getD j .non)):=by rw[deq,sI,l1,hl,Nat.min_self];simp
  have L:SeqAt.RcAt A s (.ref a) (.ref q) (deq (.lst xs) (.lst ys)):=by rw[e];exact .lists pt J (by rw[l1,l2];exact hl) (!0) he
  exact⟨L,M L,by rw[e];exact .lists pt J (by rw[l1,l2];exact hl) (!0) he⟩
 .have e:deq (.lst xs) (.lst ys)=false:=by rw[deq];exact Yt hl
  have N:(g.toArray.size != its'.toArray.size)=true:=by rw[l1,l2];simpa using hl
  have L:SeqAt.RcAt A s (.ref a) (.ref q) (deq (.lst xs) (.lst ys)):=by rw[e];exact .lists_lengths pt J N (!0)
  exact⟨L,M L,by rw[e];exact .lists_lengths pt J N (!0)⟩
inductive Sh (K:PF) (H:Hp) (F:FZ) (s:AI):D->V->AN->Prop
 |non:Sh K H F s .non .non .none
 |bl {b:Bool}:Sh K H F s (.bl b) (.bl b) (.bool b)
 |int {i:Int} {t:Tok}:Sh K H F s (.int i) (.int i) (.int i t)
 |str {l:AA} {t:Tok}:Sh K H F s (.str l) (.str (tx l)) (.str (tx l) t)
 |tup {ds:AS} {a:AQ} {vs:AR} {its:AB} (p:s.heap.IsTuple a its.toArray) (r:Vals vs its) (t:Reps K H F ds vs):Sh K H F s (.tup ds) (.ref a) (.ref a)
 |lst {ds:AS} {a:AQ} {vs:AR} {its:AB} (p:s.heap.IsList a its.toArray) (r:Vals vs its) (t:Reps K H F ds vs):Sh K H F s (.lst ds) (.ref a) (.ref a)
theorem Gz(I:Inv X p9 Y H s){d:D}{v:V}{u:AN}(n:nr d=true)(h:Rep X.K H F d v)(r:RelV v u):Sh X.K H F s d v u:=by
 cases d with
 |non=>have e:v=.non:=h;subst e;have e:u=Value.none:=r;subst e;exact .non
 |bl b=>have e:v=.bl b:=h;subst e;have e:u=Value.bool b:=r;subst e;exact .bl
 |int i=>have e:v=.int i:=h;subst e;obtain⟨t,e⟩:∃t,u=Value.int i t:=r;subst e;exact .int
 |str l=>let(e,_):=h;subst e;obtain⟨t,e⟩:∃t,u=Value.str (tx l) t:=r;subst e;exact .str
 |tup ds=>let(a,vs,e,q,J):=h;subst e;have e:u=Value.ref a:=r;subst e;let(g,z,pt,_):=I.tuple q.sq;exact .tup pt z J
 |lst ds=>let(a,vs,e,q,J):=h;subst e;have e:u=Value.ref a:=r;subst e;let(g,z,L,_):=I.list q.sq;exact .lst L.isList z J
 |_=>rw[nr]at n;cases n
theorem yc(I:Inv X p9 Y H s):∀(n:Nat)(A:AM)(d d':D)(v v':V)(u N:AN),A.units+n<cLine->min (dpt d) (dpt d')<=n->nr d=true->nr d'=true->Rep X.K H F d v->Rep X.K H F d' v'->RelV v u->RelV v' N->
  SeqAt.RcAt A s u N (deq d d')/\SeqAt.EqAt A s u N (deq d d')/\SeqAt.RcNeAt A s u N (!deq d d'):=by
 intro n;induction n using Nat.strongRecOn with
 |_ n ih=>
  intro A d d' v v' u N hu hd O U h h' r r';have g:A.units<cLine:=by lia
  have M:=Gz I U h' r';cases Gz I O h r with
  |non=>
   cases M with
   |non=>exact⟨.none_none,.same _,.none_none⟩
   |bl=>exact⟨.none_bool _,.none_bool _,.none_bool _⟩
   |int=>exact⟨.none_int _ _,.none_int _ _,.none_int _ _⟩
   |str=>exact⟨.none_str _ _,.none_str _ _,.none_str _ _⟩
   |tup q J L=>exact⟨.none_tuple q g,.none_tuple q g,.none_tuple q g⟩
   |lst q J L=>exact⟨.none_list q g,.none_list q g,.none_list q g⟩
  |bl=>
   cases M with
   |non=>exact⟨.bool_none _,.bool_none _,.bool_none _⟩
   |bl=>exact⟨.bool_bool _ _,.bool_bool _ _,.bool_bool _ _⟩
   |int=>exact⟨.bool_int _ _ _,.bool_int _ _ _,.bool_int _ _ _⟩
   |str=>exact⟨.bool_str _ _ _,.bool_str _ _ _,.bool_str _ _ _⟩
   |tup q J L=>exact⟨.bool_tuple _ q g,.bool_tuple _ q g,.bool_tuple _ q g⟩
   |lst q J L=>exact⟨.bool_list _ q g,.bool_list _ q g,.bool_list _ q g⟩
  |int=>
   cases M with
   |non=>exact⟨.int_none _ _,.int_none _ _,.int_none _ _⟩
   |bl=>exact⟨.int_bool _ _ _,.int_bool _ _ _,.int_bool _ _ _⟩
   |int=>exact⟨.int_int _ _ _ _,.int_int _ _ _ _,.int_int _ _ _ _⟩
   |str=>exact⟨.int_str _ _ _ _,.int_str _ _ _ _,.int_str _ _ _ _⟩
   |tup q J L=>exact⟨.int_tuple _ _ q g,.int_tuple _ _ q g,.int_tuple _ _ q g⟩
   |lst q J L=>exact⟨.int_list _ _ q g,.int_list _ _ q g,.int_list _ _ q g⟩
  |str=>
   cases M with
   |non=>exact⟨.str_none _ _,.str_none _ _,.str_none _ _⟩
   |bl=>exact⟨.str_bool _ _ _,.str_bool _ _ _,.str_bool _ _ _⟩
   |int=>exact⟨.str_int _ _ _ _,.str_int _ _ _ _,.str_int _ _ _ _⟩
   |str=>rw[deq,<-Yu];exact⟨.str_str _ _ _ _,.str_str _ _ _ _,.str_str _ _ _ _⟩
   |tup q J L=>exact⟨.str_tuple _ _ q g,.str_tuple _ _ q g,.str_tuple _ _ q g⟩
   |lst q J L=>exact⟨.str_list _ _ q g,.str_list _ _ q g,.str_list _ _ q g⟩
  |tup p rv tt=>
   cases M with
   |non=>exact⟨.tuple_none p g,.tuple_none p g,.tuple_none p g⟩
   |bl=>exact⟨.tuple_bool _ p g,.tuple_bool _ p g,.tuple_bool _ p g⟩
   |int=>exact⟨.tuple_int _ _ p g,.tuple_int _ _ p g,.tuple_int _ _ p g⟩
   |str=>exact⟨.tuple_str _ _ p g,.tuple_str _ _ p g,.tuple_str _ _ p g⟩
   |tup q J L=>exact Yv I ih hu hd O U h h' p q rv J tt L
   |lst q J L=>exact⟨.tuple_list p q g,.tuple_list p q g,.tuple_list p q g⟩
  |lst p rv tt=>
   cases M with
   |non=>exact⟨.list_none p g,.list_none p g,.list_none p g⟩
   |bl=>exact⟨.list_bool _ p g,.list_bool _ p g,.list_bool _ p g⟩
   |int=>exact⟨.list_int _ _ p g,.list_int _ _ p g,.list_int _ _ p g⟩
   |str=>exact⟨.list_str _ _ p g,.list_str _ _ p g,.list_str _ _ p g⟩
   |tup q J L=>exact⟨.list_tuple p q g,.list_tuple p q g,.list_tuple p q g⟩
   |lst q J L=>exact Yw I ih hu hd O U (λz=>by subst z;have e:=sJ I O U h h';injection e) p q rv J tt L
end
def FA(F:FZ)(G:DH):FZ:=λa=>F a\/∃o,G a=-o
def yd{H:Hp}{F:FZ}{G:DH}:Ext H F H (FA F G):=⟨λz f=>.inl f,λz z=>rfl,λz z h=>h,λz z z h=>h⟩
def sS{K:PF}{H:Hp}{F:FZ}{G:DH}{d:D}{v:V}(r:R K H F G)(h:Rep K H F d v):Rep K H (FA F G) (view G d) v:=by
 cases d with
 |ref p=>
  have z:v=.ref p:=h;cases g:G p with
  |none=>
   have e:view G (.ref p)=.ref p:=by simp only[view,g]
   rw[e];exact z
  |some o=>
   cases o with
   |lst ds=>
    have e:view G (.ref p)=.lst ds:=by simp only[view,g]
    rw[e];let(vs,q,t):=r.lst g;exact⟨p,vs,z,⟨.inr ⟨_,g⟩,q⟩,Reps.ext yd t⟩
   |dct ks ds=>
    have e:view G (.ref p)=.dct ks ds:=by simp only[view,g]
    rw[e];let(kv,q,J,t):=r.dct g;exact⟨p,kv,z,⟨.inr ⟨_,g⟩,q⟩,J,Reps.ext yd t⟩
 |_=>exact Rep.ext yd h
def ye{a b:List Int}(h:aV a=aV b):a=b:=by unfold aV at h;exact(List.map_inj_right λz z e=>Sum.inl.inj e).mp h
def GC(n:List Int):(aV n).map kV=n.map V.int:=by unfold aV;rw[b6];rfl
def yf:∀(ks:List (List Int))(kv:List (List Key×V))(n:List Int),kv.map (·.1)=ks.map aV->cH kv (aV n)=(kIx ks n).bind λi=>(kv.map (·.2))[i]?
 |[],kv,n,h=>by cases List.map_eq_nil_iff.mp h;rfl
 |k::ks,[],n,h=>by cases h
 |k::ks,p::kv,n,h=>by
  have h1:p.1=aV k:=(g0 h).1;have h2:kv.map (·.1)=ks.map aV:=(g0 h).2;have g:=yf ks kv n h2;by_cases e:k=n
  .subst e;rw[qZ h1];simp[kIx,eS]
  .rw[q8 (by rw[h1];exact λz=>e (ye z)),g];unfold kIx;rw[eS,if_neg (!!e)];cases ks.findIdx? (λk=>decide (k=n))<;>rfl
def GD{K:PF}{H:Hp}{F:FZ}:∀{ds:AS}{vs:AR}{ns:List Int},aZ ds=-ns->Reps K H F ds vs->vs=ns.map V.int
 |[],_,_,e,h=>by cases e;exact h
 |d::ds,_,ns,e,⟨v,r,ev,hd,ht⟩=>by
  cases d with
  |int i=>
   simp only[aZ]at e;cases q:aZ ds with
   |none=>rw[q]at e;cases e
   |some l=>
    rw[q]at e;cases e;rw[ev,GD q ht,show v=.int i from hd];rfl
  |_=>cases e
def jQ{K:PF}{H:Hp}{F:FZ}{d:D}{v:V}{k:List Int->Prop}(h:Rep K H F d v)(q:cz d k):∃n b,k n/\v=.ref b/\H b=-(.tup ((aV n).map kV))/\d=.tup (n.map D.int):=by
 unfold cz at q;split at q
 .rename_i l;split at q
  .rename_i ns e;let(b,vs,J,g,L):=h;have M:=GD e L;subst M;show⟨ns,b,q,J,by rw[GC];exact g.it,?_⟩;congr 1;clear L g J q;induction l generalizing ns with
   |nil=>cases e;rfl
   |cons d l N=>
    cases d with
    |int i=>
     simp only[aZ]at e;cases z:aZ l with
     |none=>rw[z]at e;cases e
     |some m=>rw[z]at e;cases e;rw[N m z];rfl
    |_=>cases e
  .exact q.elim
 .exact q.elim
def sU{ks:List (List Int)}{kv:List (List Key×V)}{n:List Int}(h:kv.map (·.1)=ks.map aV):(cH kv (aV n)).isSome=(kIx ks n).isSome:=by
 rw[yf ks kv n h];cases e:kIx ks n with
 |none=>rfl
 |some i=>
  have hl:i<ks⁻¹:=(ee.mp e).1;have g:kv⁻¹=ks⁻¹:=by have:=fb List.length h;simpa using this
  rw[Option.bind_some,ar (by rw[ae];lia)];rfl
def rC2(K:PF)(f:D->D->(Bool->Prop)->Prop):R2:=λx y H Q=>∃F G a b,R K H F G/\Rep K H F a x/\Rep K H F b y/\f (view G a) (view G b) (λc=>PV K H F Q (.bl c) G)
section
variable {X:Cx}
theorem GF(c:Nat)(l:AA):(!(Builtin.Str.occurrences (tx l) (tx [c]) 0 (tx l)⁻¹ 1).isEmpty)=l.contains c:=by have:=StrLaws.found_one (tx l) c;rw[this,d4];simp
theorem Yx{p9:AC}{Y:L2.St}{H:Hp}{s:AI}{F:FZ}(I:Inv X p9 Y H s){A:AM}{x:D}{v:V}{u:AN}(hu:A.units+64<cLine)(U:nr x=true)(rx:Rep X.K H F x v)(ru:RelV v u):
  ∀{ds:AS}{vs:AR}{g:AB},nrs ds=true->bf ds<=60->Reps X.K H F ds vs->Vals vs g->∃e:AN->Bool,(∀y∈g,SeqAt.EqAt A s y u (e y))/\g.any e=isIn x ds:=by
 intro ds vs g hn L t r;let P:AN->D->Prop:=λy d=>nr d=true/\∃v,Rep X.K H F d v/\RelV v y
 have one:∀y d d',P y d->P y d'->d=d':=λy d d' zY zZ=>by
  let(n,v,q,z):=zY;let(n',v',q',z'):=zZ;have e:=z.inj z';subst e;exact sJ I n n' q q'
 have⟨f,hf⟩:∃f:AN->D,∀y d,P y d->f y=d:=by show⟨λy=>Classical.epsilon (P y),λy d h=>?_⟩;exact one y _ _ (Classical.epsilon_spec ⟨d,h⟩) h
 show⟨λy=>deq (f y) x,?_,?_⟩
 .skip;have key:∀{ds:AS}{vs:AR}{g:AB},nrs ds=true->bf ds<=60->Reps X.K H F ds vs->Vals vs g->∀y∈g,SeqAt.EqAt A s y u (deq (f y) x):=by
   intro ds;induction ds with
   |nil=>
    intro vs g _ _ t r y J;have t:vs=[]:=t;subst t;cases r;cases J
   |cons d ds M=>
    intro vs g hn L t r y J;let(O,r1,e,h1,N):=t;subst e;rw[nrs,af]at hn;rw[bf]at L;cases r with
    |cons p q=>
     rcases br.mp J with e|J
     .subst e;rw[hf _ d ⟨hn.1,_,h1,p⟩];exact(yc I 60 A d x O v _ u (!0) (!0) hn.1 U h1 rx p ru).2.1
     .exact M hn.2 (!0) N q y J
  exact key hn L t r
 .have key:∀{ds:AS}{vs:AR}{g:AB},nrs ds=true->Reps X.K H F ds vs->Vals vs g->g.any (λy=>deq (f y) x)=isIn x ds:=by
   intro ds;induction ds with
   |nil=>
    intro vs g _ t r;have t:vs=[]:=t;subst t;cases r;rfl
   |cons d ds M=>
    intro vs g hn t r;let(O,r1,e,h1,N):=t;subst e;rw[nrs,af]at hn;cases r with
    |cons p q=>
     rw[List.any_cons,hf _ d ⟨hn.1,_,h1,p⟩,M hn.2 N q];rfl
  exact key hn t r
theorem jR(op:CmpOp)(hu:X.A.units+100<cLine):OpR X (compareOp op) (rC2 X.K (bh op)):=by
 intro p9 s Y H x y v u Q I rx U h;let(F,G,a,b,r,ra,rb,h):=h;have g:=sS r ra;have J:=sS r rb;generalize view G a=va at h g;generalize view G b=vb at h J;have fin:∀c:Bool,PV X.K H F Q (.bl c) G->EP X p9 Y Q (.bool c) s:=λc q=>⟨.bl c,H,I,rfl,q.now r rfl⟩;have hin:∀(l:AS){vs:AR}{us:AB},inG va l->Reps X.K H (FA F G) l vs->Vals vs us->∃e:AN->Bool,(∀z∈us.toArray,SeqAt.EqAt X.A.in1 s z v (e z))/\us.toArray.any e=isIn va l:=λl {vs us} hh t rv=>by
  let(e,he,L):=Yx I (A:=X.A.in1) (by change X.A.units+1+64<cLine;lia) hh.1 g rx hh.2.1 hh.2.2 t rv;exact⟨e,λw hw=>he w (!!hw),!!L⟩
 have ii:∀{i j:Int},Rep X.K H (FA F G) (.int i) x->Rep X.K H (FA F G) (.int j) y->∃t t',v=.int i t/\u=.int j t':=λM O=>by
  cases(show x=.int _ from M);cases(show y=.int _ from O);let(t,e):=rx;let(t',N):=U;exact⟨t,t',e,N⟩
 have ss:∀{i j:AA},Rep X.K H (FA F G) (.str i) x->Rep X.K H (FA F G) (.str j) y->∃t t',v=.str (tx i) t/\u=.str (tx j) t':=λM O=>by
  cases M.1;cases O.1;let(t,e):=rx;let(t',N):=U;exact⟨t,t',e,N⟩
 have hnon:vZ va=decide (x=.non):=by
  cases va with
  |non=>cases(show x=.non from g);rfl
  |bl _=>cases(show x=.bl _ from g);rfl
  |int _=>cases(show x=.int _ from g);rfl
  |str _=>cases g.1;rfl
  |tup _=>let(_,_,M,_):=g;cases M;rfl
  |lst _=>let(_,_,M,_):=g;cases M;rfl
  |ref _=>cases(show x=.ref _ from g);rfl
  |scr _=>let(_,M,_):=g;cases M;rfl
  |exn _=>let(_,_,M,_):=g;cases M;rfl
  |exa _ _ _=>let(_,_,_,_,_,_,_,M,_):=g;cases M;rfl
  |obj _ _ _=>let(_,_,_,M,_):=g;cases M;rfl
  |dct _ _=>let(_,_,M,_):=g;cases M;rfl
 cases op with
 |Eq=>exact(yc I 60 X.A _ _ x y v u (!0) h.1.2.2 h.1.1 h.1.2.1 g J rx U).1 _ _ _ _ (fin _ h.2)
 |NotEq=>exact(yc I 60 X.A _ _ x y v u (!0) h.1.2.2 h.1.1 h.1.2.1 g J rx U).2.2 _ _ _ _ (fin _ h.2)
 |Lt=>
  have h:jE va vb (λc=>PV X.K H F Q (.bl c) G):=h;unfold jE at h;split at h
  .let(t,t',e,N):=ii g J;subst e N;exact lt_int (fin _ h)
  .let(t,t',e,N):=ss g J;subst e N;exact lt_str (fin _ h)
  .exact h.elim
 |LtE=>
  have h:jF va vb (λc=>PV X.K H F Q (.bl c) G):=h;unfold jF at h;split at h
  .let(t,t',e,N):=ii g J;subst e N;exact le_int (fin _ h)
  .let(t,t',e,N):=ss g J;subst e N;exact PySem.P.le_str (fin _ h)
  .exact h.elim
 |Gt=>
  have h:jG va vb (λc=>PV X.K H F Q (.bl c) G):=h;unfold jG at h;split at h
  .let(t,t',e,N):=ii g J;subst e N;exact gt_int (fin _ h)
  .exact h.elim
 |GtE=>
  have h:jH va vb (λc=>PV X.K H F Q (.bl c) G):=h;unfold jH at h;split at h
  .let(t,t',e,N):=ii g J;subst e N;exact ge_int (fin _ h)
  .exact h.elim
 |Is=>
  have h:jJ va vb (λc=>PV X.K H F Q (.bl c) G):=h;unfold jJ at h;split at h
  .cases (show y=.non from J);exact Tv p9 s Y H _ _ v u Q I rx U ⟨rfl,by rw[<-hnon];exact h.now r rfl⟩
  .split at h
   .cases (show x=.bl _ from g);cases(show y=.bl _ from J);exact Vz p9 s Y H _ _ v u Q I rx U ⟨_,_,rfl,rfl,h.now r rfl⟩
   .exact h.elim
  .exact h.elim
 |IsNot=>
  have h:jK va vb (λc=>PV X.K H F Q (.bl c) G):=h;unfold jK at h;split at h
  .cases (show y=.non from J);exact Tw p9 s Y H _ _ v u Q I rx U ⟨rfl,by rw[<-hnon];exact h.now r rfl⟩
  .split at h
   .cases (show x=.bl _ from g);cases(show y=.bl _ from J);exact VG p9 s Y H _ _ v u Q I rx U ⟨_,_,rfl,rfl,h.now r rfl⟩
   .exact h.elim
  .exact h.elim
 |In=>
  have h:gf va vb (λc=>PV X.K H F Q (.bl c) G):=h;unfold gf at h;split at h
  .split at h
   .let(t,t',e,N):=ss g J;subst e N;exact in_str (by rw[GF];exact fin _ h)
   .exact h.elim
  .let(p,vs,O,q2,t):=J;cases O;cases U;let(its,rv,pl,hz):=I.list q2.sq;let(e,he,L):=hin _ h.1 t rv;exact SeqAt.in_listAt e pl.isList he (by rw[L];exact fin _ h.2)
  .let(p,vs,O,q2,t):=J;cases O;cases U;let(its,rv,pl,hz):=I.tuple q2.sq;let(e,he,L):=hin _ h.1 t rv;exact SeqAt.in_tupleAt e pl he (by rw[L];exact fin _ h.2)
  .let(n,c,q,M,eb,_):=jQ g h;let(p,kv,O,hp,hk,t):=J;cases M;cases O;cases U;show Wx (!0) I (DGet.t hp.2 eb) rx λs' I'=>?_;rw[sU hk];exact⟨.bl _,H,I',rfl,q.now r rfl⟩
  .exact h.elim
 |NotIn=>
  have h:gf va vb (λc=>PV X.K H F Q (.bl (!c)) G):=h;unfold gf at h;split at h
  .split at h
   .let(t,t',e,N):=ss g J;subst e N;exact notIn_str (by rw[GF];exact fin _ h)
   .exact h.elim
  .let(p,vs,O,q2,t):=J;cases O;cases U;let(its,rv,pl,hz):=I.list q2.sq;let(e,he,L):=hin _ h.1 t rv;exact SeqAt.notIn_listAt e pl.isList he (by rw[L];exact fin _ h.2)
  .let(p,vs,O,q2,t):=J;cases O;cases U;let(its,rv,pl,hz):=I.tuple q2.sq;let(e,he,L):=hin _ h.1 t rv;exact SeqAt.notIn_tupleAt e pl he (by rw[L];exact fin _ h.2)
  .let(n,c,q,M,eb,_):=jQ g h;let(p,kv,O,hp,hk,t):=J;cases M;cases O;cases U;show Wy (!0) I (DGet.t hp.2 eb) rx λs' I'=>?_;rw[sU hk];exact⟨.bl _,H,I',rfl,q.now r rfl⟩
  .exact h.elim
end
section
variable {X:Cx}
def Yy(K:PF):R2:=λx y H Q=>∃F G a b,R K H F G/\Rep K H F a x/\Rep K H F b y/\cZ (view G a) b (λd=>PV K H F Q d G)
theorem GJ{K:PF}{H:Hp}{F:FZ}{ds:AS}{vs:AR}{i:Int}{d:D}(t:Reps K H F ds vs)(h:atI ds i=-d):∃v,atI vs i=-v/\Rep K H F d v:=by
 unfold atI at h ⊢;rw[<-t⁻¹];cases e:ixN ds⁻¹ i with
 |none=>rw[e]at h;cases h
 |some j=>
  rw[e]at h;let(v,g,r):=t.get (show ds[j]?=-d from h);exact⟨v,g,r⟩
theorem yg{K:PF}{H:Hp}{F:FZ}{G:DH}{d:D}{v:V}{ks:List (List Int)}{ds:AS}(r:R K H F G)(h:Rep K H F d v)(e:view G d=.dct ks ds):∃p kv,v=.ref p/\H p=-(.dT kv)/\kv.map (·.1)=ks.map aV/\Reps K H F ds (kv.map (·.2)):=by
 cases d with
 |dct z J=>
  have M:D.dct z J=.dct ks ds:=e;cases M;let(a,kv,N,q,L,t):=h;exact⟨a,kv,N,q.2,L,t⟩
 |ref p=>
  have O:v=.ref p:=h;unfold view at e;cases g:G p with
  |none=>simp only[g]at e;cases e
  |some o=>
   cases o with
   |lst xs=>simp only[g]at e;cases e
   |dct z xs=>
    simp only[g]at e;cases e;let(kv,q,L,t):=r.dct g;exact⟨p,kv,O,q,L,t⟩
 |_=>cases(show _=D.dct ks ds from e)
theorem Yz{L J:AO}{p9:AC}{s:AI}{Y:L2.St}{H:Hp}{p:AQ}{y z:V}{u:AN}{Q:VK}(hu:X.A.units+100<cLine)(I:Inv X p9 Y H s)(g:DGet H p y (-z))(ry:RelV y u)
  (hs:subscripted J false (.ref p) u=operate [.ref p,u] (getItem (.ref p) u)) (q:Q z H):↥X (subscriptTail L J (.ref p) u) (EP X p9 Y Q) X.xe s:=by
 have O:=WF I g;unfold subscriptTail;show ab ?_;rw[getitemInPython_of_ne O.not_modules];show ab (wpAny_specialOf O slot_dict_getitem.lookup ?_);have fin:↥X (subscripted J false (.ref p) u) (λr M=>↥X (letTemporaryGo L (.ref p) r >>= λx=>pure r) (EP X p9 Y Q) X.xe M) X.xe s:=by rw[hs];exact wpAny_operating (Ww (!0) I g ry λw' s' U N=>ab (wpAny_letTemporaryGo (ai ⟨z,H,U,N,q⟩)))
 first
  |exact ai (ab fin)
  |exact ab (ai (ab fin))
  |exact ab fin
theorem YB{K:PF}{H:Hp}{F:FZ}{G:DH}{d i:D}{v y:V}{ks:List (List Int)}{ds:AS}{k:D->Prop}(r:R K H F G)(h:Rep K H F d v)(e:view G d=.dct ks ds)(hi:Rep K H F i y)
  (q:cz i λn=>match kIx ks n with|some i=>(match ds[i]? with|some d=>k d|none=>False)|none=>False):∃p z d',v=.ref p/\DGet H p y (-z)/\Rep K H F d' z/\k d':=by
 let(n,b,q,g,L,_):=jQ hi q;let(p,kv,J,U,O,t):=yg r h e;subst g;split at q
 .rename_i j N;split at q
  .rename_i d' M;let(z,hz,rz):=t.get M;have Y:cH kv (aV n)=-z:=by rw[yf ks kv n O,N];exact hz
   exact⟨p,z,d',J,by rw[<-Y];exact DGet.t U L,rz,q⟩
  .exact q.elim
 .exact q.elim
theorem YC(hu:X.A.units+100<cLine):IxR X (Yy X.K):=by
 intro L J p9 s Y H x y v u Q I rx ry h hs;let(F,G,a,b,r,U,rb,h):=h;generalize O:view G a=va at h;unfold cZ at h;split at h
 .let(p,vs,e,q,t):=Rep.list r U O;subst e;have M:y=.int _:=rb;subst M;split at h
  .rename_i d hd;let(w,hw,N):=GJ t hd;exact UG L J p9 s Y H _ _ v u Q I rx ry ⟨p,vs,_,w,rfl,rfl,q,hw,h.now r N⟩ hs
  .exact h.elim
 .cases fM O;let(p,vs,e,q,t):=U;subst e;have M:y=.int _:=rb;subst M;split at h
  .rename_i d hd;let(w,hw,N):=GJ t hd;exact UJ L J p9 s Y H _ _ v u Q I rx ry ⟨p,vs,_,w,rfl,rfl,q.sq,hw,h.now r N⟩ hs
  .exact h.elim
 .cases gD O;let(e,hl):=U;subst e;have M:y=.int _:=rb;subst M;split at h
  .rename_i c hc;exact UL L J p9 s Y H _ _ v u Q I rx ry ⟨_,_,c,rfl,rfl,by rw[cB];exact dg hl,hc,h.now r ⟨rfl,by change 1<=sz;decide⟩⟩ hs
  .exact h.elim
 .let(p,z,d',M,g,rz,q):=YB r U O rb h;subst M;cases rx;exact Yz hu I g ry hs (q.now r rz)
 .exact h.elim
theorem YD(l:AA)(lo hi:Option Int):Txt.slice (tx l) lo hi=tx (cut l lo hi):=by
 have e:Builtin.Str.strSliceIndices lo hi 1 (tx l)⁻¹=sliceRange (sliceBounds lo hi none (tx l)⁻¹).1 (sliceBounds lo hi none (tx l)⁻¹).2.1 1:=by unfold Builtin.Str.strSliceIndices sliceBounds;cases lo<;>cases hi<;>rfl
 let(h1,h2,M):=CN lo hi (tx l)⁻¹;rw[h1,h2,sliceRange_one]at e;have q:((Builtin.Str.strSliceIndices lo hi 1 (tx l)⁻¹).filterMap ((tx l).cps[·]?))=cut l lo hi:=by rw[e,pick_run];unfold cut;rw[cB]
 unfold Txt.slice;split
 .rename_i hh;rw[af]at hh;have hl:=eq_of_beq hh.2;rw[e,ae,b4,cB]at hl;have L:HT.sIx l⁻¹ l⁻¹ hi<=l⁻¹:=HT.Cu _ _ (av _) hi;unfold cut;by_cases g:l=[]
  .subst g;simp
  .have N:0<l⁻¹:=List.length_pos_iff.mpr g;have z:HT.sIx l⁻¹ 0 lo=0:=by lia
   have J:HT.sIx l⁻¹ l⁻¹ hi=l⁻¹:=by lia
   rw[z,J];simp
 .rw[q]
theorem YF{g:Type}(xs:List g)(lo hi:Option Int):(cut xs lo hi)⁻¹<=xs⁻¹:=by unfold cut;rw[de,d5];lia
theorem YG{prog:AK}{w:World}{A:AM}{E:AG}{s:AI}{t N:AQ}{g:Array AN}{O U:AN}{lo hi:Option Int}{Q:AG}(q:IsTup s.heap t g)(hs:s.heap.IsSliceOf N O U .none)(pl:IsPart O lo)(pu:IsPart U hi)
  (hw:HT.sIx g.size 0 lo=0/\HT.sIx g.size g.size hi=g.size) (h:Q (.ref t) s):wpAny (model prog w) A (getItem (.ref t) (.ref N)) Q E s:=by
 let(os,M,L,Y):=id hs;have J:s.TypeIs (.ref N) "slice":=⟨os,M,L⟩;unfold getItem;try with_reducible show cK ?_
 first|show ab (ai ?_)|skip
 show ab (wpAny_sequenceKey q.typeIs (!1) ?_);show ab (dk (name:=⇑"__getitem__") q.typeIs da
  (e7 da q.typeIs entry_tuple_getitem ?_ (args_tuple_getitem _ _)))
 change wpAny _ _ (Builtin.Tuple.tupleItemsOf (.ref t) >>= _) _ _ s;show ab (tupleItemsOf_ q ?_);show ab (wpAny_typeOf J ?_);rw[if_pos (!1)];show ab (HT.Cw hs pl pu ?_);have z:(((HT.sIx g.size 0 lo:Nat):Int)==0&&(1:Int)==1&&(HT.sIx g.size g.size hi-HT.sIx g.size 0 lo)==g.size)=true:=by rw[hw.1,hw.2];simp
 change wpAny _ _ (if(((HT.sIx g.size 0 lo:Nat):Int)==0&&(1:Int)==1&&(HT.sIx g.size g.size hi-HT.sIx g.size 0 lo)==g.size)=true then _ else _) _ _ s;rw[if_pos z];show ab (m:=Builtin.Tuple.tupleIsExact _) (ab (wpAny_typeOf q.typeIs (ai ?_)));rw[if_pos (!1)];exact ab (wpAny_rule (ai ⟨_,rfl,ai h⟩))
theorem YH:SlR X (λx lo hi H Q=>∃a xs,x=.ref a/\SqT X.K H a xs/\(HT.sIx xs⁻¹ 0 lo=0/\HT.sIx xs⁻¹ xs⁻¹ hi=xs⁻¹)/\Q (.ref a) H):=by
 intro p9 s Y H x v vl vu lo hi sl Q I O hs M N h;let(a,xs,rfl,L,hw,q):=h;cases O;let(z,r,J,U):=I.tuple L;have g:z.toArray.size=xs⁻¹:=by rw[am];exact r.length.symm
 exact⟨"tuple",_,da.lookup,J.typeIs,YG J hs M N (by rw[g];exact hw) ⟨.ref a,H,I,rfl,q⟩⟩
theorem lU{K:PF}{H:Hp}{F:FZ}:∀ns:List Int,Reps K H F (ns.map D.int) (ns.map V.int)
 |[]=>rfl
 |n::ns=>⟨_,_,rfl,rfl,lU ns⟩
def YJ(K:PF)(fz:Bool):V->Option Int->Option Int->Hp->VK->Prop:=λx lo hi H Q=>∃F G a,R K H F G/\Rep K H F a x/\eV fz (view G a) lo hi G (PV K H F Q)
theorem GK{K:PF}{H:Hp}{F:FZ}{ds:AS}{vs:AR}(t:Reps K H F ds vs)(lo hi:Option Int):Reps K H F (cut ds lo hi) (eO vs lo hi):=t.cut lo hi
theorem YK(fz:Bool):SlR X (YJ X.K fz):=by
 intro p9 s Y H x v U vu lo hi O Q I N hs J L h;let(F,G,a,r,M,h):=h;generalize z:view G a=va at h;unfold eV at h;split at h
 .let(p,vs,e,q,t):=Rep.list r M z;subst e;exact CP p9 s Y H _ v U vu lo hi O Q I N hs J L ⟨p,vs,rfl,q,dq h r (GK t lo hi)⟩
 .rename_i ns;have ea':a=.scr ns:=by
   cases a with
   |ref p=>
    unfold view at z;cases g:G p with
    |none=>simp only[g]at z;cases z
    |some o=>cases o<;>(simp only[g]at z;cases z)
   |_=>exact z
  subst ea';let(p,e,q):=M;subst e;show CP p9 s Y H _ v U vu lo hi O Q I N hs J L ⟨p,_,rfl,q.sq,dq h r ?_⟩;have e2:eO (ns.map V.int) lo hi=(cut ns lo hi).map V.int:=by unfold eO cut;rw[ae,List.map_take,List.map_drop]
  rw[e2];exact lU (cut ns lo hi)
 .cases fM z;let(p,vs,e,q,t):=id M;subst e;by_cases hw:HT.sIx vs⁻¹ 0 lo=0/\HT.sIx vs⁻¹ vs⁻¹ hi=vs⁻¹
  .show YH p9 s Y H _ v U vu lo hi O Q I N hs J L ⟨p,vs,rfl,q.sq,hw,?_⟩;show h.now r ?_;rename_i ds;have:cut ds lo hi=ds:=by
    unfold cut;rw[t⁻¹,hw.1,hw.2];simp[<-t⁻¹]
   rw[this];exact M
  .exact Ut p9 s Y H _ v U vu lo hi O Q I N hs J L ⟨p,vs,rfl,q.sq,hw,gJ h r (GK t lo hi)⟩
 .cases gD z;let(e,hl):=M;subst e;show VF p9 s Y H _ v U vu lo hi O Q I N hs J L ⟨_,rfl,by rw[cB];exact dg hl,?_⟩;rw[YD];exact h.now r ⟨rfl,b5 (YF _ _ _) hl⟩
 .exact h.elim
theorem GP{K:PF}{H:Hp}{F:FZ}{G:DH}{d:D}{v:V}{b:Bool}(r:R K H F G)(h:Rep K H F d v)(e:truth (view G d)=-b):qR K v H b:=by
 have h':=sS r h;generalize view G d=w at e h';cases w with
 |non=>have g:v=.non:=h';subst g;simp only[truth,bi]at e;exact e.symm
 |bl x=>have g:v=.bl x:=h';subst g;simp only[truth,bi]at e;exact e.symm
 |int i=>have g:v=.int i:=h';subst g;simp only[truth,bi]at e;exact e.symm
 |str l=>
  let(g,hl):=h';subst g;simp only[truth,bi]at e;show⟨by rw[cB];exact dg hl,?_⟩;rw[cB,<-e];cases l with
  |nil=>rfl
  |cons c l=>simp;lia
 |tup l=>
  let(a,vs,g,q,t):=h';subst g;simp only[truth,bi]at e;show .inr (.inl ⟨vs,q.sq,?_⟩);rw[<-e];cases l with
  |nil=>have t:vs=[]:=t;subst t;rfl
  |cons c l=>let(_,_,z,_):=t;subst z;rfl
 |lst l=>
  let(a,vs,g,q,t):=h';subst g;simp only[truth,bi]at e;show .inl ⟨vs,q.sq,?_⟩;rw[<-e];cases l with
  |nil=>have t:vs=[]:=t;subst t;rfl
  |cons c l=>let(_,_,z,_):=t;subst z;rfl
 |ref a=>simp[truth]at e
 |scr a=>simp[truth]at e
 |exn a=>simp[truth]at e
 |exa _ _ _=>simp[truth]at e
 |obj _ _ _=>simp[truth]at e
 |dct _ _=>simp[truth]at e
theorem yh{K:PF}{H:Hp}{F:FZ}:∀{ds:AS}{vs:AR}{bs:List Bool},bools ds=-bs->Reps K H F ds vs->vs=bs.map V.bl
 |[],_,bs,e,h=>by
  simp only[bools,bi]at e;subst e;exact h
 |d::ds,_,bs,e,⟨v,w,e1,h,t⟩=>by
  cases d with
  |bl b=>
   simp only[bools]at e;cases q:bools ds with
   |none=>rw[q]at e;cases e
   |some s=>
    rw[q]at e;cases e;have g:v=.bl b:=h;rw[e1,g,yh q t];rfl
  |_=>simp[bools]at e
theorem bH{K:PF}{H:Hp}{F:FZ}{d:D}{vs:AR}(t:Reps K H F [d] vs):∃v,vs=[v]/\Rep K H F d v:=by let(v,r,e,h,t):=t;have t:r=[]:=t;subst t;exact⟨v,e,h⟩
def gK(K:PF)(f:Bf):AR->Hp->VK->Prop:=λvs H Q=>∃F G ds,R K H F G/\Reps K H F ds vs/\opB f (ds.map (view G)) (λd=>PV K H F Q d G)
theorem map_one{G:DH}{ds:AS}{x:D}(h:ds.map (view G)=[x]):∃d,ds=[d]/\view G d=x:=by
 match ds,h with
 |[d],h=>exact⟨d,rfl,!!h⟩
theorem YL:bj X (.builtin "len") (gK X.K .len):=by
 intro p9 s Y H xs M Q I L h;let(F,G,ds,r,t,h):=h;generalize J:ds.map (view G)=va at h;simp only[opB,v6]at h;split at h
 .let(d,rfl,g):=map_one J;let(v,rfl,z):=bH t;let(a,vs,e,q,t'):=Rep.list r z g;subst e;exact CQ p9 s Y H _ M Q I L ⟨a,vs,rfl,.inl q,by rw[<-t'⁻¹];exact h.now r rfl⟩
 .let(d,rfl,g):=map_one J;let(v,rfl,z):=bH t;cases fM g;let(a,vs,e,q,t'):=z;subst e;exact CQ p9 s Y H _ M Q I L ⟨a,vs,rfl,.inr q.sq,by rw[<-t'⁻¹];exact h.now r rfl⟩
 .let(d,rfl,g):=map_one J;let(v,rfl,z):=bH t;cases gD g;let(e,hl):=z;subst e;exact U3 p9 s Y H _ M Q I L ⟨_,rfl,by rw[cB];exact dg hl,by rw[cB];exact h.now r rfl⟩
 .let(d,rfl,g):=map_one J;let(v,rfl,z):=bH t;let(a,kv,e,q,N,t'):=yg r z g;subst e;have hl:=fb List.length N;rw[ae,ae]at hl;exact W3 p9 s Y H _ M Q I L ⟨a,kv,rfl,q,by rw[hl];exact h.now r rfl⟩
 .exact h.elim
theorem YM (hc:X.calm=true):bj X (.builtin "all") (gK X.K .all):=by
 intro p9 s Y H xs O Q I M h;let(F,G,ds,r,t,h):=h;generalize z:ds.map (view G)=va at h;simp only[opB,rG]at h;split at h
 .let(d,rfl,J):=map_one z;let(v,rfl,N):=bH t;let(a,vs,e,q,t'):=Rep.list r N J;subst e;split at h
  .rename_i bs L;have g:=yh L t';subst g;exact Vy hc p9 s Y H _ O Q I M ⟨a,bs,rfl,q,h.now r rfl⟩
  .exact h.elim
 .exact h.elim
theorem YQ (hc:X.calm=true):bj X (.builtin "any") (gK X.K .any):=by
 intro p9 s Y H xs O Q I M h;let(F,G,ds,r,t,h):=h;generalize z:ds.map (view G)=va at h;simp only[opB,rH]at h;split at h
 .let(d,rfl,J):=map_one z;let(v,rfl,N):=bH t;let(a,vs,e,q,t'):=Rep.list r N J;subst e;split at h
  .rename_i bs L;have g:=yh L t';subst g;exact W7 hc p9 s Y H _ O Q I M ⟨a,bs,rfl,q,h.now r rfl⟩
  .exact h.elim
 .exact h.elim
theorem YS:bj X (.type "int") (gK X.K .int):=by
 intro p9 s Y H xs L Q I J h;let(F,G,ds,r,t,h):=h;generalize z:ds.map (view G)=va at h;simp only[opB,rJ]at h;split at h
 .let(d,rfl,g):=map_one z;let(v,rfl,q):=bH t;cases Ye g;have e:v=.bl _:=q;subst e;exact Ce p9 s Y H _ L Q I J (.inr ⟨_,rfl,h.now r rfl⟩)
 .let(d,rfl,g):=map_one z;let(v,rfl,q):=bH t;cases eU g;have e:v=.int _:=q;subst e;exact Ce p9 s Y H _ L Q I J (.inl ⟨_,rfl,h.now r rfl⟩)
 .let(d,rfl,g):=map_one z;let(v,rfl,q):=bH t;cases gD g;let(e,hl):=q;subst e;split at h
  .rename_i n hn;exact VB p9 s Y H _ L Q I J ⟨_,n,rfl,hn,by rw[cB];exact h.1,h.2.now r rfl⟩
  .exact h.elim
 .exact h.elim
theorem YT:bj X (.type "tuple") (gK X.K .tuple):=by
 intro p9 s Y H xs M Q I L h;let(F,G,ds,r,t,h):=h;generalize J:ds.map (view G)=va at h;simp only[opB,v7]at h;split at h
 .let(d,rfl,z):=map_one J;let(v,rfl,g):=bH t;let(a,vs,e,q,t'):=Rep.list r g z;subst e;exact CZ p9 s Y H _ M Q I L ⟨a,vs,rfl,.inl ⟨q,gJ h r t'⟩⟩
 .let(d,rfl,z):=map_one J;let(v,rfl,g):=bH t;cases fM z;let(a,vs,e,q,t'):=id g;subst e;exact CZ p9 s Y H _ M Q I L ⟨a,vs,rfl,.inr ⟨q.sq,h.now r g⟩⟩
 .exact h.elim
def yj(K:PF)(fz:Bool)(f:Lf):AR->Hp->VK->Prop:=λvs H Q=>∃F G ds,R K H F G/\Reps K H F ds vs/\cP f (ds.map (view G)) (λxs=>mk fz xs G (PV K H F Q))
theorem YW(l:AA):∀(g:AB),g⁻¹=l⁻¹->(∀(j:Nat)(v:AN),g[j]?=-v->∃(c:Nat)(u:Tok),l[j]?=-c/\v=Value.str ⟨#[c]⟩ u)->Vals (l.map λc=>V.str (tx [c])) g:=by
 induction l with
 |nil=>intro g h _;cases g with|nil=>exact .nil|cons _ _=>cases h
 |cons c l N=>
  intro g h q;cases g with
  |nil=>cases h
  |cons u g=>
   let(J,t,z,L):=q 0 u (!2);have z:c=J:=by simpa using z
   subst z;exact .cons ⟨t,L⟩ (N g (!!h) λj v M=>by simpa using q (j+1) v (!!M))
theorem YX (hc:X.calm=true):bj X (.type "list") (λxs H Q=>∃l:AA,xs=[.str (tx l)]/\l⁻¹<=sizeLine/\∀p,H p=none->Q (.ref p) (upd H p (.lst (l.map λc=>V.str (tx [c]))))):=by
 intro p9 s Y H xs us Q I r h;let(l,rfl,L,q):=h;let(u,rfl,t,rfl):=vals1 r;have J:(tx l).cps.size<=sizeLine:=by simpa using L
 show call_list_str (hn:=J) (I.ok.hd hc) (tx l) t λh' U g M kp e hi=>?_;have z:Vals (l.map λc=>V.str (tx [c])) g.toList:=by
  show YW l _ ?_ λj v z=>?_
  .rw[cy,hi.1];simp
  .let(c,u,N,O):=hi.2 j v (by rw[<-eP];exact z);exact⟨c,u,!!N,O⟩
 exact⟨.ref (~~~s),_,I.laid (t':=U) kp (av _) (show ObjOk X.prog X.w _ h' _ (.lst _) from⟨by rw[ae];exact L,g.toList,M,z,by rw[Array.toArray_toList];exact e⟩),rfl,q _ (I.hok.fresh (av _))⟩
theorem yl{K:PF}{H:Hp}{F:FZ}:∀l:AA,Reps K H F (l.map λc=>D.str [c]) (l.map λc=>V.str (tx [c]))
 |[]=>rfl
 |c::l=>⟨_,_,rfl,⟨rfl,by change 1<=sz;decide⟩,yl l⟩
theorem GQ{K:PF}{H:Hp}{F:FZ}:∀{ks:List (List Int)}{kv:List (List Key×V)}{as:List AQ},kv.map (·.1)=ks.map aV->Paired (λ(k:List Key×V) (a:AQ)=>H a=-(.tup (k.1.map kV))) kv as->Reps K H F (ks.map λn=>.tup (n.map D.int)) (as.map V.ref)
 |[],_,_,h,p=>by cases List.map_eq_nil_iff.mp h;cases p;exact rfl
 |k::ks,[],_,h,_=>by cases h
 |k::ks,q::kv,_,h,p=>by
  have h1:q.1=aV k:=(g0 h).1;cases p with
  |cons a t=>
   rw[h1,GC]at a;exact⟨_,_,rfl,⟨_,_,rfl,⟨a⟩,lU k⟩,GQ (g0 h).2 t⟩
theorem YZ (hc:X.calm=true) (fz:Bool):bj X (.type "list") (yj X.K fz .list):=by
 intro p9 s Y H xs M Q I L h;let(F,G,ds,r,t,h):=h;generalize J:ds.map (view G)=va at h;simp only[cP,wg]at h;split at h
 .let(d,rfl,g):=map_one J;let(v,rfl,z):=bH t;let(a,vs,e,q,t'):=Rep.list r z g;subst e;exact CW p9 s Y H _ M Q I L ⟨a,vs,rfl,.inl q,dq h r t'⟩
 .let(d,rfl,g):=map_one J;let(v,rfl,z):=bH t;cases fM g;let(a,vs,e,q,t'):=id z;subst e;exact CW p9 s Y H _ M Q I L ⟨a,vs,rfl,.inr q.sq,dq h r t'⟩
 .let(d,rfl,g):=map_one J;let(v,rfl,z):=bH t;cases gD g;let(e,hl):=z;subst e;exact YX hc p9 s Y H _ M Q I L ⟨_,rfl,dg hl,dq h r (yl _)⟩
 .let(d,rfl,g):=map_one J;let(v,rfl,z):=bH t;let(a,kv,e,q,N,t'):=yg r z g;subst e;exact W4 hc p9 s Y H _ M Q I L ⟨a,kv,rfl,q,λas O=>dq h r (GQ N O)⟩
 .exact h.elim
theorem sV{K:PF}{H:Hp}{F:FZ}:∀{ds:AS}{vs:AR}{g:List (AA)},bC ds=-g->Reps K H F ds vs->vs=(g.map tx).map V.str
 |[],_,bs,e,h=>by
  simp only[bC,bi]at e;subst e;exact h
 |d::ds,_,bs,e,⟨v,w,e1,h,t⟩=>by
  cases d with
  |str b=>
   simp only[bC]at e;cases q:bC ds with
   |none=>rw[q]at e;cases e
   |some s=>
    rw[q]at e;cases e;let(z,_):=h;rw[e1,z,sV q t];rfl
  |_=>simp[bC]at e
theorem lV{K:PF}{H:Hp}{F:FZ}:∀{ds:AS}{vs:AR}{ns:List Int},aZ ds=-ns->Reps K H F ds vs->vs=ns.map V.int
 |[],vs,ns,e,t=>by
  simp only[aZ,bi]at e;subst e;have t:vs=[]:=t;rw[t];rfl
 |d::ds,vs,ns,e,t=>by
  let(v,r,g,h,t):=t;cases d with
  |int b=>
   simp only[aZ]at e;cases q:aZ ds with
   |none=>rw[q]at e;cases e
   |some s=>
    rw[q]at e;cases e;have z:v=.int b:=h;rw[g,z,lV q t];rfl
  |_=>simp[aZ]at e
theorem GR:∀{ns:List Int}{g:AB},Vals (ns.map V.int) g->IntsAre g ns
 |[],g,h=>by cases h;exact .nil
 |n::ns,g,h=>by
  cases h with
  |cons a b=>
   let(t,rfl):=a;exact .cons n t (GR b)
theorem Y0:bootBuiltins "sorted"=-(.builtin "sorted"):=by ac_rfl
theorem ym:∀{q:List (AA)}{g:AB},Vals ((q.map tx).map V.str) g->StrsAre g (q.map tx)
 |[],g,h=>by cases h;exact .nil
 |n::ns,g,h=>by
  cases h with
  |cons a b=>
   let(t,rfl):=a;exact .cons _ t (ym b)
theorem GX:∀{q:AD}{g:AB},StrsAre g q->Vals (q.map V.str) g
 |_,_,.nil=>.nil
 |_,_,.cons y t h=>.cons ⟨t,rfl⟩ (GX h)
theorem Y4{q:AD}{z:List (AA)}(h:q.Perm (z.map tx)):∃g:List (AA),q=g.map tx/\g.Perm z:=by
 show⟨q.map λs=>s.cps.toList,?_,?_⟩
 .rw[b6];show(List.map_id q).symm.trans (b9 λs y=>?_);change s=tx s.cps.toList;exact qW s
 .have:=h.map λs=>s.cps.toList;rw[b6]at this;have e:(λs:Str=>s.cps.toList)∘tx=id:=by funext l;rfl
  rw[e,List.map_id]at this;exact this
theorem Y5:bj X (.builtin "sorted") (λxs H Q=>∃(p:AQ) (J:List (AA)),xs=[.ref p]/\SqL X.K H p ((J.map tx).map V.str)/\J⁻¹<64/\∀g:List (AA),g.Perm J->PyProof.Rows.sortedS (g.map tx)=true->∀l,H l=none->Q (.ref l) (upd H l (.lst ((g.map tx).map V.str)))):=by
 intro p9 s Y H xs us Q I r h;let(p,J,rfl,hq,L,q):=h;let(u,rfl,ru):=vals1 r;cases ru;let(z,O,pl,hz):=I.list hq;have M:z⁻¹=J⁻¹:=by rw[<-O⁻¹];simp
 show sorted_strs pl.isList (ym O) (!0) λout ss' U a2 a3=>?_;let(g,rfl,N):=Y4 a2;let(e,he):=sortedAll_at s.heap z out;have hsz:((g.map tx).map V.str)⁻¹<=sizeLine:=by rw[ae,ae,N.length_eq];exact b5 (Nat.le_of_lt L) (!1)
 exact⟨.ref ((~~~s)+1),_,I.laid (t':=s.toks) (λy y=>sortedAll_old) (gd _) (show ObjOk X.prog X.w _ _ _ (.lst ((g.map tx).map V.str)) from⟨hsz,out.toList,e,GX U,he⟩),rfl,q g N a3 _ (I.hok.fresh (gd _))⟩
theorem GZ{K:PF}{H:Hp}{F:FZ}:∀{g:List (AA)},(∀l∈g,l⁻¹<=sz)->Reps K H F (g.map D.str) ((g.map tx).map V.str)
 |[],_=>rfl
 |l::g,h=>⟨_,_,rfl,⟨rfl,h l a9⟩,GZ λx q=>h x (bm _ q)⟩
theorem yo{K:PF}{H:Hp}{F:FZ}:∀{ds:AS}{vs:AR}{g:List (AA)},bC ds=-g->Reps K H F ds vs->∀l∈g,l⁻¹<=sz
 |[],vs,g,e,t=>by simp only[bC,bi]at e;subst e;intro l hl;cases hl
 |d::ds,vs,g,e,t=>by
  let(v,r,z,h,t):=t;cases d with
  |str b=>
   simp only[bC]at e;cases q:bC ds with
   |none=>rw[q]at e;cases e
   |some s=>
    rw[q]at e;cases e;intro l hl;rcases br.mp hl with e|hl
    .rw[e];exact h.2
    .exact yo q t l hl
  |_=>simp[bC]at e
theorem Y6 (fz:Bool):bj X (.builtin "sorted") (yj X.K fz .sorted):=by
 intro p9 s Y H xs us Q I rs h;let(F,G,ds,r,t,h):=h;generalize ea:ds.map (view G)=va at h;simp only[cP,lK]at h;split at h
 .let(d,rfl,M):=map_one ea;let(v,rfl,O):=bH t;let(a,vs,e,q,t'):=Rep.list r O M;subst e;split at h
  .rename_i ls z;have L:=sV z t';have hsz:=yo z t';subst L;exact Y5 p9 s Y H _ us Q I rs ⟨a,ls,rfl,q,h.1,λN J U=>dq (h.2 N J U) r (GZ λl hl=>hsz l (J.mem_iff.mp hl))⟩
  .exact h.elim
 .let(d,rfl,M):=map_one ea;let(v,rfl,O):=bH t;cases fM M;let(a,vs,e,q,t'):=O;subst e;split at h
  .rename_i ns z;have L:=lV z t';subst L;exact Wc p9 s Y H _ us Q I rs ⟨a,ns,rfl,q.sq,h.1,λg J U=>dq (h.2 g J U) r (lU g)⟩
  .exact h.elim
 .exact h.elim
theorem Ha(val:Nat->AA):∀k,argBest (λi j=>decide (val i<val j)) k<=k/\∀j,j<=k->¬val j<val (argBest (λi j=>decide (val i<val j)) k)
 |0=>⟨av _,λj z=>by
  have:j=0:=by lia
  subst this;exact List.lt_irrefl _⟩
 |k+1=>by
  let(h1,h2):=Ha val k;simp only[argBest];by_cases hc:val (k+1)<val (argBest (λi j=>decide (val i<val j)) k)
  .rw[if_pos (!!hc)];show⟨av _,λj z=>?_⟩;rcases Nat.lt_or_ge j (k+1) with q|g
   .exact λh=>h2 j (!0) (List.lt_trans h hc)
   .have:j=k+1:=by lia
    subst this;exact List.lt_irrefl _
  .rw[if_neg (!!hc)];show⟨!0,λj z=>?_⟩;rcases Nat.lt_or_ge j (k+1) with q|g
   .exact h2 j (!0)
   .have:j=k+1:=by lia
    subst this;exact hc
section
variable {prog:AK} {w:World} {A:AM} {E:AG} {s:AI} {l:AQ}
theorem sW:∀{g:AB}{z:List (AA)}{i:Nat}{v:AN},StrsAre g (z.map tx)->g[i]?=-v->∃t,v=.str (tx (z.getD i [])) t
 |[],z,i,v,_,h=>by simp at h
 |x::g,[],i,v,hs,h=>by cases hs
 |x::g,a::z,0,v,hs,h=>by
  cases hs with
  |cons y t q=>exact⟨t,!!h.symm⟩
 |x::g,a::z,i+1,v,hs,h=>by
  cases hs with
  |cons y t q=>
   have:=sW (i:=i) (v:=v) q (!!h);simpa using this
theorem Y7{Q:AG}{g:AB}{q:List (AA)}(hh:A.handled=none)(hl:s.heap.IsList l g.toArray)(hs:StrsAre g (q.map tx))(hn:g⁻¹=q⁻¹)(M:0<q⁻¹)
  (h:∀(m:AA)(t:Tok)(h':Heap)(N:Nat),m∈q->(∀a,a∈q->¬a<m)->(∀b o,s.heap.get? b=-o->h'.get? b=-o)->Q (.str (tx m) t) {s with heap:=h',toks:=N}):
  wpAny (model prog w) A (call (.builtin "min") [.ref l]) Q E s:=by
 have J:l<(~~~s):=by let(_,e,_):=hl;exact ay e
 show call_min_walk (ff hl ?_);show⟨_,_,_,_,_,_,λi j=>decide (q.getD i []<q.getD j []),rfl,hJ (A:=A.in1) hh _ l (bX J) g.toArray,⟨⟨_,aI _ rfl,rfl,rfl⟩,hl.push _⟩,?_,?_,?_,?_⟩
 .intro b z;change b<(s.heap.push _).objs.size;rw[cm];rcases br.mp z with rfl|z
  .exact gX _
  .rcases br.mp z with rfl|z
   .exact eh J
   .cases z
 .simpa [hn] using M
 .intro i j vi vj s Q E hi L h;let(t,rfl):=sW hs (!!hi);let(u,rfl):=sW hs (!!L);exact richCompare_gives (op:=.Lt) (typeIs_str s _ t) (typeIs_str s _ u) F.slot_str_lt F.entry_str_lt (F.args_str_lt_2 _ _) (gives_str_lt _ _ t u) (λe=>nomatch e) h
 .intro v h' N U hk;let(t,rfl):=sW hs (show g[_]?=-v by rw[<-List.getElem?_toArray];exact U);let(b1,O):=Ha (λi=>q.getD i []) (g.toArray.size-1);have hsz:g.toArray.size=q⁻¹:=by simpa using hn
  show h _ t h' N ?_ (λa Y=>?_) (old_kept hk)
  .rw[bP,ar (!0)];exact cq _
  .let(j,L,rfl):=List.getElem_of_mem Y;have:=O j (!0);rwa [show q.getD j []=q[j] by rw[bP,ar L];rfl]at this
end
theorem Y8 (hc:X.calm=true):bj X (.builtin "min") (λxs H Q=>∃(p:AQ) (ns:List Int),xs=[.ref p]/\SqL X.K H p (ns.map V.int)/\ns≠[]/\∀m,m∈ns->(∀a,a∈ns->m<=a)->Q (.int m) H):=by
 intro p9 s Y H xs us Q I r h;let(p,ns,rfl,O,z,q):=h;let(u,rfl,ru):=vals1 r;cases ru;let(its,rv,pl,hz):=I.list O;have hi:=GR rv;let(xs,ex):=hi.allInts.items;have hl:=pl.isList;rw[ex]at hl;have g:xs.toList.map (·.1)=ns:=by rw[<-PySem.nums_intItems,<-ex];exact hi.numsOf
 have hsz:0<xs.size:=by have:=List.length_pos_iff.mpr z;rw[<-g,ae,cy]at this;exact this
 show PySem.min_intList (I.ok.hd hc) hl hsz λv h' tk U N=>?_;let(t,rfl):=PySem.intItems_at U;let(b1,L):=PySem.argBest_lt (PySem.numAt xs) (xs.size-1);show⟨.int _,H,I.kept N,⟨t,rfl⟩,q _ ?_ λa J=>?_⟩
 .rw[<-g,PySem.numAt_eq];exact PySem.getD_mem (by rw[ae,cy];lia)
 .rw[<-g]at J;let(j,M,rfl):=PySem.mem_getD J;rw[ae,cy]at M;rw[<-PySem.numAt_eq];exact L j (!0)
theorem Y9 (hc:X.calm=true):bj X (.builtin "min") (λxs H Q=>∃(p:AQ) (g:List (AA)),xs=[.ref p]/\SqL X.K H p ((g.map tx).map V.str)/\g≠[]/\∀m,m∈g->(∀a,a∈g->¬a<m)->Q (.str (tx m)) H):=by
 intro p9 s Y H xs us Q I r h;let(p,g,rfl,O,J,q):=h;let(u,rfl,ru):=vals1 r;cases ru;let(L,M,U,hz):=I.list O;have z:L⁻¹=g⁻¹:=by rw[<-M⁻¹];simp
 show Y7 (I.ok.hd hc) U.isList (ym M) z (List.length_pos_iff.mpr J) λm t h' tk h1 h2 N=>?_;exact⟨.str (tx m),H,I.kept N,⟨t,rfl⟩,q m h1 h2⟩
theorem Za{ds:AS}{g:List (AA)}(h0:aZ ds=none)(h1:bC ds=-g):g≠[]:=by
 rintro rfl;cases ds with
 |nil=>simp[aZ]at h0
 |cons x y=>cases x<;>simp only[bC]at h1<;>first | (cases h1;done) | (cases q:bC y<;>rw[q]at h1<;>cases h1)
theorem Zb (hc:X.calm=true):bj X (.builtin "min") (gK X.K .min):=by
 intro p9 s Y H xs L Q I J h;let(F,G,ds,r,t,h):=h;generalize M:ds.map (view G)=va at h;simp only[opB,lJ]at h;split at h
 .let(d,rfl,N):=map_one M;let(v,rfl,rv):=bH t;let(a,vs,e,q,t'):=Rep.list r rv N;subst e;split at h
  .rename_i ns g;have z:=lV g t';subst z;exact Y8 hc p9 s Y H _ L Q I J ⟨a,ns,rfl,q,h.1,λm h1 h2=>(h.2 m h1 h2).now r rfl⟩
  .split at h
   .rename_i O _ U g;have z:=sV g t';have hsz:=yo g t';subst z;show Y9 hc p9 s Y H _ L Q I J ⟨a,U,rfl,q,?_,λm h1 h2=>(h m h1 h2).now r ⟨rfl,hsz m h1⟩⟩;exact Za (by assumption) g
   .exact h.elim
 .exact h.elim
theorem Zc:bootBuiltins "min"=-(.builtin "min"):=by ac_rfl
theorem Zd:bj X (.type "str") (gK X.K .str):=by
 intro p9 s Y H xs U Q I r h;let(F,G,ds,N,t,h):=h;generalize z:ds.map (view G)=va at h;simp only[opB,v9]at h;split at h
 .rename_i i;let(d',rfl,J):=map_one z;let(v',rfl,O):=bH t;have g:=eU J;subst g;have q:v'=.int i:=O;subst q;let((h0,h1),h2):=h;have L:(i.toNat:Int)=i:=Int.toNat_of_nonneg h0;have hl:(gG i.toNat)⁻¹<=3:=by
   have:=digits_le ⟨i.toNat,!0⟩;unfold gG;rw[cy];exact this
  have hs:=h2.now N (v:=.str (tx (gG i.toNat))) ⟨rfl,by have hz:sz=1000000:=rfl;lia⟩;have M:tx (gG i.toNat)=vC i.toNat:=(qW _).symm;rw[M]at hs;exact VN p9 s Y H _ U Q I r ⟨i.toNat,by rw[L],!0,hs⟩
 .exact h.elim
def dI:D->Option AL
 |.non=>some "NoneType"
 |.bl _=>some "bool"
 |.int _=>some "int"
 |.str _=>some "str"
 |.tup _=>some "tuple"
 |.lst _=>some "list"
 |_=>none
theorem Ze{K:PF}{H:Hp}{F:FZ}{G:DH}{d:D}{v:V}{T:AL}(r:R K H F G)(h:Rep K H F d v)(e:dI (view G d)=-T):TyOf K H v (.type T):=by
 have h':=sS r h;generalize view G d=w at e h';cases w with
 |non=>have g:v=.non:=h';subst g;simp only[dI,bi]at e;subst e;exact .non
 |bl x=>have g:v=.bl x:=h';subst g;simp only[dI,bi]at e;subst e;exact .bl x
 |int i=>have g:v=.int i:=h';subst g;simp only[dI,bi]at e;subst e;exact .int i
 |str l=>let(g,hl):=h';subst g;simp only[dI,bi]at e;subst e;exact .str _
 |tup l=>let(a,vs,g,q,t):=h';subst g;simp only[dI,bi]at e;subst e;exact .tup q.it
 |lst l=>let(a,vs,g,q,t):=h';subst g;simp only[dI,bi]at e;subst e;exact .lst q.2
 |ref a=>simp[dI]at e
 |scr a=>simp[dI]at e
 |exn a=>simp[dI]at e
 |exa _ _ _=>simp[dI]at e
 |obj _ _ _=>simp[dI]at e
 |dct _ _=>simp[dI]at e
def Zf (K:PF):Prop:=∀T t:AL,T∈["NoneType","bool","int","str","tuple","list"]->gh t=true->PySem.W.kitOne K (.type T) (.type t)=-(T==t||(T=="bool"&&t=="int"))
theorem Zg{K:PF}:Zf K:=by intro T t g q;simp only[br,cp,or_false]at g;simp only[gh,dP,a8]at q;rcases g with rfl|rfl|rfl|rfl|rfl|rfl<;>rcases q with(((rfl|rfl)|rfl)|rfl)|rfl<;>(with_unfolding_all rfl)
theorem Zh {d:D} {t:AL} {b:Bool} (e:isT t d=-b):∃T,dI d=-T/\T∈["NoneType","bool","int","str","tuple","list"]/\(gh t=true->b=(T==t||(T=="bool"&&t=="int"))):=by
 have g:∀a b:AL,(a==b)=(b==a):=λa b=>by rw[d4,a8,a8];exact⟨Eq.symm,Eq.symm⟩
 cases d with
 |non=>
  show⟨"NoneType",rfl,!2,λq=>?_⟩;simp only[isT,bi]at e;simp only[gh,dP,a8]at q;subst e;rcases q with(((rfl|rfl)|rfl)|rfl)|rfl<;>rfl
 |bl _=>
  show⟨"bool",rfl,!2,λq=>?_⟩;simp only[isT,bi]at e;rw[<-e,g t "bool"];rfl
 |int _=>
  show⟨"int",rfl,!2,λq=>?_⟩;simp only[isT,bi]at e;rw[<-e,g t "int"];simp
 |str _=>
  show⟨"str",rfl,!2,λq=>?_⟩;simp only[isT,bi]at e;rw[<-e,g t "str"];simp
 |tup _=>
  show⟨"tuple",rfl,!2,λq=>?_⟩;simp only[isT,bi]at e;rw[<-e,g t "tuple"];simp
 |lst _=>
  show⟨"list",rfl,!2,λq=>?_⟩;simp only[isT,bi]at e;rw[<-e,g t "list"];simp
 |ref a=>simp[isT]at e
 |scr a=>simp[isT]at e
 |exn a=>simp[isT]at e
 |exa _ _ _=>simp[isT]at e
 |obj _ _ _=>simp[isT]at e
 |dct _ _=>simp[isT]at e
theorem Hb(s:AA):∀g:List (AA),Str.join (tx s) (g.map tx)=tx (eX s g)
 |[]=>rfl
 |[x]=>rfl
 |x::y::r=>by
  have q:=Hb s (y::r);change tx x++tx s++Str.join (tx s) ((y::r).map tx)=_;rw[q,qU,qU];rfl
theorem Hc(s:AA):∀g:List (AA),(eX s g)⁻¹<=(g.map (·.length)).sum+g⁻¹*s⁻¹
 |[]=>by simp[eX]
 |[x]=>by simp[eX]
 |x::y::r=>by
  have q:=Hc s (y::r);simp only[eX,ax,a7,List.sum_cons,ca]at q ⊢;have:(r⁻¹+1+1)*s⁻¹=(r⁻¹+1)*s⁻¹+s⁻¹:=by rw[Nat.succ_mul]
  lia
def lW(K:PF)(m:Mf):V->AR->Hp->VK->Prop:=λx vs H Q=>∃F G d ds,R K H F G/\Rep K H F d x/\Reps K H F ds vs/\opM m d ds G (PV K H F Q)
theorem Zi:MtR X "str.join" (lW X.K .join):=by
 intro p9 s Y H x xs v us Q I rx O h;let(F,G,d,ds,r,N,t,h):=h;simp only[opM]at h;generalize L:ds.map (view G)=va at h;simp only[rM]at h;split at h
 .let(d',rfl,M):=map_one L;let(v',rfl,U):=bH t;let(a,vs,e,q,t'):=Rep.list r U M;subst e;let(z,hl):=N;subst z;split at h
  .rename_i ls g;have J:=sV g t';subst J;show Vk p9 s Y H _ _ v us Q I rx O ⟨_,a,_,rfl,rfl,q,?_,?_⟩
   .have hz:=h.1;rw[b6,ae,cB,show(λx:Str=>x⁻¹)∘tx=λl=>l⁻¹ from funext cB];have:sz=1000000:=rfl;lia
   .rw[Hb];exact h.2.now r ⟨rfl,b5 (Hc _ _) h.1⟩
  .exact h.elim
 .exact h.elim
theorem Zj:MtM X "list.append" (lW X.K .append):=by
 intro p9 s Y H x xs v U Q I O M h;let(F,G,d,ds,r,L,t,h):=h;simp only[opM,rN]at h;split at h
 .let(v',rfl,N):=bH t;have J:x=.ref _:=L;subst J;split at h
  .rename_i z g;let(vs,q,t'):=r.lst g;show U6 p9 s Y H _ _ v U Q I O M ⟨_,vs,v',rfl,rfl,q,?_,?_⟩
   .rw[<-t'⁻¹];exact bp h.1 szl
   .exact h.2 _ _ _ (jB r g) (r.write g (t'.append (Reps.cons N Reps.nil))) rfl
  .exact h.elim
 .exact h.elim
theorem Zk:MtR X "tuple.index" (lW X.K .idxT):=by
 intro p9 s Y H x xs v U Q I O M h;let(F,G,d,ds,r,L,t,h):=h;simp only[opM,rQ]at h;split at h
 .rename_i l i;let(a,vs,e,q,t'):=L;subst e;let(v',rfl,N):=bH t;have z:v'=.int i:=N;subst z;split at h
  .rename_i ns g;have J:=lV g t';subst J;exact Xc p9 s Y H _ _ v U Q I O M ⟨a,ns,i,rfl,rfl,q.sq,h.1,h.2.now r rfl⟩
  .exact h.elim
 .exact h.elim
theorem Zm:MtM X "list.pop" (lW X.K .pop):=by
 intro p9 s Y H x xs v us Q I rx rs h;let(F,G,d,ds,r,rd,t,h):=h;simp only[opM,rP]at h;split at h
 .rename_i i;let(v',rfl,rv):=bH t;have N:x=.ref _:=rd;subst N;have O:v'=.int i:=rv;subst O;split at h
  .rename_i M z;let(h1,h2,g):=h;let(vs,q,t'):=r.lst z;split at g
   .rename_i y hy;let(u,L,ru):=t'.get hy;have hlt:i.toNat<vs⁻¹:=(ah.mp L).1;show Va p9 s Y H _ _ v us Q I rx rs ⟨_,vs,i,i.toNat,u,rfl,rfl,q,!0,!0,?_,L,?_⟩
    .unfold seqIndex?;have U:¬i<0:=by lia
     simp[U];lia
    .rw[eK];rw[eK]at g;have J:=r.write z ((t'.take i.toNat).append (t'.drop (i.toNat+1)));exact g _ _ _ (jB r z) J (Rep.ext (jB r z) ru)
   .exact g.elim
  .exact h.elim
 .exact h.elim
theorem Zn{K:PF}{H:Hp}{F:FZ}{G:DH}{d:D}{v:V}{ds:AS}(r:R K H F G)(h:Rep K H F d v)(e:view G d=.lst ds):∃a vs,v=.ref a/\H a=-(.lst vs)/\Reps K H F ds vs:=by
 cases d with
 |lst xs=>
  have z:D.lst xs=.lst ds:=e;cases z;let(a,vs,J,q,t):=h;exact⟨a,vs,J,q.2,t⟩
 |ref p=>
  have L:v=.ref p:=h;unfold view at e;cases g:G p with
  |none=>simp only[g]at e;cases e
  |some o=>
   cases o with
   |lst xs=>
    simp only[g]at e;cases e;let(vs,q,t):=r.lst g;exact⟨p,vs,L,q,t⟩
   |dct _ _=>simp only[g]at e;cases e
 |_=>cases(show _=D.lst ds from e)
theorem Zo:MtM X "list.extend" (lW X.K .extend):=by
 intro p9 s Y H x xs v us Q I rx rs h;let(F,G,d,ds,r,rd,t,h):=h;simp only[opM]at h;generalize O:ds.map (view G)=va at h;simp only[rO]at h;split at h
 .let(d',rfl,U):=map_one O;let(v',rfl,rv):=bH t;let(b,z,N,q2,J):=Zn r rv U;subst N;have M:x=.ref _:=rd;subst M;split at h
  .rename_i L g;let(vs,q,t'):=r.lst g;show U8 p9 s Y H _ _ v us Q I rx rs ⟨_,b,vs,z,rfl,rfl,q,q2,?_,?_⟩
   .rw[<-t'⁻¹,<-J⁻¹];exact Nat.le_of_lt (bp h.1 szl)
   .exact h.2 _ _ _ (jB r g) (r.write g (t'.append J)) rfl
  .exact h.elim
 .exact h.elim
theorem Hd:∀{ks:List (List Int)}{kv:List (List Key×V)}{n:List Int}{i:Nat}(v:V),kv.map (·.1)=ks.map aV->(kv.map (·.1)).Nodup->kIx ks n=-i->
  (kv.map λp=>if p.1=aV n then(p.1,v) else p).map (·.2)=(kv.map (·.2)).set i v
 |[],_,n,i,v,h,_,e=>by cases e
 |k::ks,[],n,i,v,h,_,_=>by cases h
 |k::ks,p::kv,n,i,v,h,nd,e=>by
  have h1:p.1=aV k:=(g0 h).1;have h2:kv.map (·.1)=ks.map aV:=(g0 h).2;let(J,L):=db.mp nd;unfold kIx at e;rw[eS]at e;by_cases z:k=n
  .subst z;rw[if_pos (!2)]at e;cases e;rw[a7,if_pos h1,a7,a7,List.set_cons_zero];congr 2;rw[b9 (g:=id)]
   .exact List.map_id _
   .intro q N;exact if_neg λz=>J (aT.mpr ⟨q,N,z.trans h1.symm⟩)
  .rw[if_neg (!!z)]at e;let(j,M,rfl):=aE.mp e;rw[a7,if_neg (by rw[h1];exact λw=>z (ye w)),a7,a7,List.set_cons_succ,Hd v h2 L M]
theorem KT.fst{H:Hp}{kv:List (List Key×V)}{xs:List (List Key×AQ×AN)}(r:KT H kv xs):kv.map (·.1)=xs.map (·.1):=by
 induction r with
 |nil=>rfl
 |cons h t g=>rw[a7,a7,h.1,g]
theorem Hf{kv:List (List Key×V)}{k:List Key}{v:V}(h:(cH kv k).isSome=true):putD kv k v=kv.map λp=>if p.1=k then(p.1,v) else p:=by unfold putD;rw[rm,if_pos h]
theorem Zq(hu:X.A.units+100<cLine):u5 X (λo i x H Q=>∃F G a b c,R X.K H F G/\Rep X.K H F a o/\Rep X.K H F b i/\Rep X.K H F c x/\d9 a b c G (λG'=>∀H' F',Ext H F H' F'->R X.K H' F' G'->Q H')):=by
 intro p9 s Y H o i v ov iv u Q I U ri rv h;let(F,G,a,b,c,r,ra,O,L,h):=h;unfold d9 at h;split at h
 .have J:o=.ref _:=ra;subst J;split at h
  .rename_i ds g;let(vs,q,t):=r.lst g;split at h
   .have e2:i=.int _:=O;subst e2;split at h
    .rename_i j hj;show set_list p9 s Y H _ _ v ov iv u Q I U ri rv ⟨_,vs,_,j,rfl,rfl,q,by rw[<-t⁻¹];exact hj,?_⟩;exact h _ _ (jB r g) (r.write g (t.set L j))
    .exact h.elim
   .exact h.elim
  .rename_i ks ds g;let(n,bb,(hz,q),J,eb,_):=jQ O h;let(kv,N,z,t):=r.dct g;subst J;cases U;have hl:=fb List.length z;rw[ae,ae]at hl;have nd:(kv.map (·.1)).Nodup:=by
    let(_,_,xs,M,_,_,_,_,_,_,_,_,nd):=lw I.hok N;rw[KT.fst M];exact nd
   show WD (!0) I (DPut.t N eb (by rw[hl];exact bp hz (dg (av _)))) ri rv λs' I'=>⟨_,I',?_⟩;show q _ _ (vX r g) ?_;unfold dput;cases e:kIx ks n with
   |some j=>
    have hs:(cH kv (aV n)).isSome=true:=by rw[sU z,e];rfl
    show r.dctAt (vX r g) (r.notFD g) ?_ ?_
    .rw[Hf hs,b6,<-z];show b9 λp y=>?_;change(if p.1=aV n then(p.1,v) else p).1=p.1;split<;>rfl
    .rw[Hf hs,Hd v z nd e];exact t.set L j
   |none=>
    have hs:cH kv (aV n)=none:=by have:=sU (n:=n) z;rw[e]at this;exact fi.mp (by rw[<-Option.not_isSome,this];rfl)
    show r.dctAt (vX r g) (r.notFD g) ?_ ?_
    .rw[Ed v hs,cf,cf,z];rfl
    .rw[Ed v hs,cf];exact t.append ⟨_,_,rfl,L,rfl⟩
  .exact h.elim
 .exact h.elim
theorem Zr(op:Operator):PIp X op (λx y H Q=>∃F G a b,R X.K H F G/\Rep X.K H F a x/\Rep X.K H F b y/\fO op a b (λd=>PV X.K H F Q d G)):=by
 intro p9 s Y H x y v u Q I L M h;let(F,G,a,b,r,z,J,h):=h;unfold fO at h;split at h
 .have g:x=.int _:=z;have q:y=.int _:=J;subst g;subst q;exact Tq p9 s Y H _ _ v u Q I L M ⟨_,_,rfl,rfl,h.now r rfl⟩
 .let(g,N):=z;let(q,O):=J;subst g;subst q;show T3 p9 s Y H _ _ v u Q I L M ⟨_,_,rfl,rfl,by rw[cB,cB];exact dg h.1,?_⟩;rw[qU];exact h.2.now r ⟨rfl,by rw[ax];exact h.1⟩
 .have g:x=.int _:=z;have q:y=.int _:=J;subst g;subst q;exact Tt p9 s Y H _ _ v u Q I L M ⟨_,_,rfl,rfl,h.now r rfl⟩
 .exact h.elim
end
inductive SK where
 |lst (a:AQ) |tup (a:AQ) |str (x:Str) (t:Tok)
def SK.val:SK->AN
 |.lst a=>.ref a
 |.tup a=>.ref a
 |.str x t=>.str x t
def SK.cls:SK->AL
 |.lst _=>"list_iterator"
 |.tup _=>"tuple_iterator"
 |.str x _=>strIterType x
def SK.obj(k:SK):Obj:={cls:=.type k.cls,data:=.fields #[k.val,.int 0 0]}
def SK.pos(k:SK)(it:AQ)(i:Nat)(h:Heap):Prop:=∃o,h.get? it=-o/\o.cls=.type k.cls/\o.data=.fields #[k.val,.int i 0]
def SK.Sat(H:Hp)(vs:AR):SK->Prop
 |.lst a=>H a=-(.lst vs)
 |.tup a=>H a=-(.tup vs)
 |.str x _=>vs=x.cps.toList.map λc=>V.str ⟨#[c]⟩
def SK.No(e:AQ):SK->Prop
 |.lst a=>a≠e
 |.tup a=>a≠e
 |.str _ _=>True
def SK.Sat.no{H:Hp}{vs:AR}{k:SK}{e:AQ}(h:k.Sat H vs)(he:H e=none):k.No e:=by
 cases k with
 |lst a=>exact bF (show H a=-_ from h) he
 |tup a=>exact bF (show H a=-_ from h) he
 |str x t=>trivial
def SK.On(g:Array AN)(h:Heap):SK->Prop
 |.lst a=>h.IsList a g
 |.tup a=>h.IsTuple a g
 |.str _ _=>True
def SK.On.keeps{g:Array AN}{h h':Heap}{k:SK}(x:k.On g h)(q:∀b o,k.val=.ref b->h.get? b=-o->h'.get? b=-o):k.On g h':=by
 cases k with
 |lst a=>let(o,e,r):=x;exact⟨o,q a o rfl e,r⟩
 |tup a=>let(o,e,r):=x;exact⟨o,q a o rfl e,r⟩
 |str _ _=>trivial
section
variable {prog:AK} {w:World} {A:AM} {E:AG} {s:AI}
theorem SK.iter{k:SK}{g:Array AN}{Q:AG}(h:k.On g s.heap)(q:Q (.ref (~~~s)) {s with heap:=s.heap.push k.obj}):wpAny (model prog w) A (pyIter k.val) Q E s:=by
 cases k with
 |lst a=>exact ff h q
 |tup a=>exact wpAny_pyIter_tuple h q
 |str x t=>exact wpAny_pyIter_strU q
theorem SK.pos0{k:SK}{h:Heap}:k.pos h.objs.size 0 (h.push k.obj):=⟨_,aI _ rfl,rfl,rfl⟩
theorem SK.pos.keep{k:SK}{it:AQ}{i:Nat}{h h':Heap}(x:k.pos it i h)(g:∀o,h.get? it=-o->h'.get? it=-o):k.pos it i h':=let⟨o,e,r⟩:=x;⟨o,g o e,r⟩
theorem Zt{it t:AQ}{i:Nat}{items}{x:AN}{Q:AG}(g:s.heap.IsTupleIter it t i)
  (N:s.heap.IsTuple t items) (O:items[i]?=-x)
  (M:∀h',h'.IsTupleIter it t (i+1)->Heap.SameBut it s.heap h'->Q x {s with heap:=h'}):
  wpAny (model prog w) A (Builtin.SmallTypes.nextOf (.ref it)) Q E s:=by
 let(o,z,hc,q):=id g;let(Y,L,_,U,J):=N;unfold Builtin.SmallTypes.nextOf;show ab (dk (name:=⇑"__next__") g.typeIs gt
  (e7 gt g.typeIs F.entry_tuple_iterator_next ?_ (F.args_tuple_iterator_next_1 _)))
 change wpAny _ _ (field (.ref it) 0 >>= _) _ _ s;show ab (dr z q (x:=.ref t) rfl ?_);change wpAny _ _ (if(Value.ref t==Value.none)=true then _ else _) _ _ s;rw[if_neg (show¬((Value.ref t==Value.none)=true) from bg)];change wpAny _ _ (field (.ref it) 1 >>= _) _ _ s;show ab (dr z q (x:=.int i 0) rfl ?_);change wpAny _ _ (seqItems? (.ref t) >>= _) _ _ s;show ab (fm L J ?_);simp only[b3,O];show ab (wpAny_setField z q (!2) (ai ⟨x,rfl,ai (M _ ?_ (Heap.SameBut.update ..))⟩));exact⟨_,Heap.get?_update_self _ z (Obj.isFreed_of_fields (Obj.data_mapFields q _)),(Obj.cls_mapFields ..).trans hc,by
  rw[Obj.data_mapFields q];simp[rawInt]⟩
theorem Zu{it t:AQ}{i:Nat}{items}{Q:AG}(hh:A.handled=none)
  (g:s.heap.IsTupleIter it t i) (N:s.heap.IsTuple t items) (O:items[i]?=none)
  (M:∀h' e,Heap.ExtBut it s.heap h'->(∃o,h'.get? e=-o/\o.cls=.type "StopIteration")->E (.ref e) {s with heap:=h'}):
  wpAny (model prog w) A (Builtin.SmallTypes.nextOf (.ref it)) Q E s:=by
 let(o,J,hc,q):=id g;let(Y,L,_,U,z):=N;unfold Builtin.SmallTypes.nextOf;show ab (dk (name:=⇑"__next__") g.typeIs gt
  (e7 gt g.typeIs F.entry_tuple_iterator_next ?_ (F.args_tuple_iterator_next_1 _)))
 change wpAny _ _ (field (.ref it) 0 >>= _) _ _ s;show ab (dr J q (x:=.ref t) rfl ?_);change wpAny _ _ (if(Value.ref t==Value.none)=true then _ else _) _ _ s;rw[if_neg (show¬((Value.ref t==Value.none)=true) from bg)];change wpAny _ _ (field (.ref it) 1 >>= _) _ _ s;show ab (dr J q (x:=.int i 0) rfl ?_);change wpAny _ _ (seqItems? (.ref t) >>= _) _ _ s;show ab (fm L z ?_);simp only[b3,O];show ab (wpAny_rule (ab (wpAny_setField J q (!2) ?_)));change wpAny _ _ (newExc (.type "StopIteration") [] >>= _) _ _ _;show ab ?_;simp only[newExc,newTuple];show ab (dn ?_ (by size_fits));show ab (m:=firstArgMember _ _) (wpAny_of_eq (a:=Value.none) (by first|rfl | (simp only[firstArgMember];rfl)) ?_);show dn ?_ (by size_fits);simp only[raiseNew];show ab (wpAny_handled ?_);first|rw[show A.in1.handled=none from hh]|rw[hh]
 show ab (ai (wpAny_throw ?_));exact M _ _ (((Heap.SameBut.update ..).extBut.push _).push _) ⟨_,aI _ rfl,rfl⟩
theorem Zv(hh:A.handled=none)(it l:AQ)(J:l≠it)(g:Array AN):
  Draws prog w A it [it,l] g.size (λi v=>g[i]?=-v) (λi h=>h.IsTupleIter it l i/\h.IsTuple l g) where
 live:=λy y st=>let⟨o,ho,_⟩:=st.1;⟨o,ho⟩
 frame:=λy y y st L=>⟨let⟨o,e,r⟩:=st.1;⟨o,L it (!2) o e,r⟩,let⟨o,e,r⟩:=st.2;⟨o,L l (!2) o e,r⟩⟩
 item:=λi s Q E hi st N=>by
  show Zt st.1 st.2 (x:=g[i]) (by simp[hi]) λh' q z=>?_;exact N _ h' s.toks (by simp[hi]) ⟨q,let⟨o,e,r⟩:=st.2;⟨o,z.extBut l o J e,r⟩⟩ z
 done:=λs Q E st M=>Zu hh st.1 st.2 (!2) M
end
structure Drawn(P:AK)(w:World)(A:AM)(k:SK)(it:AQ)(i:Nat)(vs:AR)(h:Heap)(fp:List AQ)(Pd:Nat->AN->Prop)(S:Nat->Heap->Prop):Prop where
 D:Draws P w A it fp vs.length Pd S
 st:S i h
 val:∀j v,Pd j v->∃x,vs[j]?=some x/\RelV x v
 pos:∀j h,S j h->k.pos it j h
 fp:∀b∈fp,b=it\/k.val=.ref b
def drawn{X:Cx}{p9:AC}{Y:L2.St}{H:Hp}{s:AI}{A:AM}(hh:A.handled=none)(I:Inv X p9 Y H s){k:SK}{it:AQ}{i:Nat}{vs:AR}(g:k.Sat H vs)(L:H it=none)(p:k.pos it i s.heap):
  ∃fp U S,Drawn X.prog X.w A k it i vs s.heap fp U S:=by
 cases k with
 |lst a=>
  have g:H a=-(.lst vs):=g;let(q,r,N,_):=I.list (SqL.of g);show⟨[it,a],λj v=>q.toArray[j]?=-v,λj h=>h.IsListIter it a j/\h.IsList a q.toArray,?_,⟨p,N.isList⟩,?_,λj h st=>st.1,?_⟩
  .have D:=Draws.list (prog:=X.prog) (w:=X.w) hh it a (bF g L) q.toArray;rw[am,<-r⁻¹]at D;exact D
  .intro j v e;have e:q.toArray[j]?=-v:=e;have M:j<vs⁻¹:=by
    rw[r⁻¹];have:=(Array.getElem?_eq_some_iff.mp e).1;simpa using this
   let(u,J,O):=r.get (show vs[j]?=-vs[j] by simp[M]);show⟨vs[j],by simp[M],?_⟩;have:q[j]?=-v:=by simpa using e
   rw[this]at J;cases J;exact O
  .intro b z;have z:b=it\/b=a:=by simpa using z
   rcases z with e|e
   .exact .inl e
   .exact .inr (by rw[e];rfl)
 |tup a=>
  have g:H a=-(.tup vs):=g;let(q,r,N,_):=I.tuple (SqT.of g);show⟨[it,a],λj v=>q.toArray[j]?=-v,λj h=>h.IsTupleIter it a j/\h.IsTuple a q.toArray,?_,⟨p,N⟩,?_,λj h st=>st.1,?_⟩
  .have D:=Zv (prog:=X.prog) (w:=X.w) hh it a (bF g L) q.toArray;rw[am,<-r⁻¹]at D;exact D
  .intro j v e;have e:q.toArray[j]?=-v:=e;have M:j<vs⁻¹:=by
    rw[r⁻¹];have:=(Array.getElem?_eq_some_iff.mp e).1;simpa using this
   let(u,J,O):=r.get (show vs[j]?=-vs[j] by simp[M]);show⟨vs[j],by simp[M],?_⟩;have:q[j]?=-v:=by simpa using e
   rw[this]at J;cases J;exact O
  .intro b z;have z:b=it\/b=a:=by simpa using z
   rcases z with e|e
   .exact .inl e
   .exact .inr (by rw[e];rfl)
 |str x t=>
  have g:vs=x.cps.toList.map λc=>V.str ⟨#[c]⟩:=g;show⟨[it],λi v=>∃c u,x.cps[i]?=-c/\v=.str ⟨#[c]⟩ u,λi h=>h.IsStrIter it (strIterType x) x t i,?_,p,?_,λj h st=>st,?_⟩
  .have D:=Vv (prog:=X.prog) (w:=X.w) hh it x t;have e:x.cps.size=vs⁻¹:=by rw[g,ae,cy]
   rw[e]at D;exact D
  .rintro j v ⟨c,u,e1,J⟩;show⟨V.str ⟨#[c]⟩,?_,u,J⟩;rw[g,aS,eP,e1];rfl
  .intro b z;exact .inl (!!z)
def Jk(k:SK):It:=⟨λi H=>∃vs,k.Sat H vs/\i<vs⁻¹,λi H x H'=>H'=H/\∀vs,k.Sat H vs->vs[i]?=-x,λi H=>∃vs,k.Sat H vs/\vs⁻¹=i⟩
def Je(k:SK):It:=⟨λi H=>∃vs,k.Sat H vs/\i<vs⁻¹,λi H x H'=>∃T y,H T=none/\x=.ref T/\H'=upd H T (.tup [.int i,y])/\∀vs,k.Sat H vs->vs[i]?=-y,λi H=>∃vs,k.Sat H vs/\vs⁻¹=i⟩
def yp{H:Hp}{k:SK}{vs g:AR}(h:k.Sat H vs)(h':k.Sat H g):vs=g:=by
 cases k with
 |lst a=>have e:=(show H a=-_ from h).symm.trans h';cases e;rfl
 |tup a=>have e:=(show H a=-_ from h).symm.trans h';cases e;rfl
 |str x t=>exact(show vs=_ from h).trans (show g=_ from h').symm
def Zw{P:AK}{w:World}{K:PF}{elts:AE}{x1:Nat}{pos:Pos}(k:SK)(e it:AQ)(hne:e≠it):
  Turn P w K (.Tuple elts x1 pos) (Je k) [e,it] e (λi h=>(∃J,IsEnum h e it i J)/\k.pos it i h) where
 mem:=by simp
 obj:=λi h st b L=>by
  let((J,he),o,ho,c,d):=st;have L:b=e\/b=it:=by simpa using L
  rcases L with rfl|rfl
  .exact ⟨_,he,λv z=>by have z':Data.fields _=Data.cell v:=z;cases z'⟩
  .exact ⟨o,ho,λv z=>by rw[d]at z;cases z⟩
 keep:=λi h h' st kk=>⟨let⟨J,he⟩:=st.1;⟨J,kk e (!2) _ he⟩,st.2.keep λo ho=>kk it (!2) o ho⟩
 item:=by
  intro X hP hw hK hc i p9 s Y H E I hf st hg;subst hP hw hK;let(vs,N,hi):=hg;let((J,he),O):=st;have hfe:=hf e (!2);have hfi:=hf it (!2);let(fp,Pd,S,U):=drawn (A:=X.A.in1) (I.ok.hd hc) I N hfi.1 O;have helt:e<(~~~s):=ay he;have hef:e∉fp:=λL=>by
   rcases U.fp e L with z|z
   .exact hne z
   .have:=N.no hfe.1;cases k with
    |lst a=>cases z;exact this rfl
    |tup a=>cases z;exact this rfl
    |str _ _=>cases z
  show wpAny_pyNext_enum_itemD U.D he U.st hi hne hef λu h1 tk hu heo hit1 ht1 hz1 hk1=>?_;let(x,hx,ru):=U.val _ _ hu;show⟨_,rfl,?_⟩;show wpAny_letOwnedTupleGo_enum heo λh2 he2 hs2=>?_;have M:Heap.SameBut e h1 h2:=hs2;have hn:H (~~~s)=none:=I.hok.fresh (av _);have k2:∀b o,b∉[e,it]->s.heap.get? b=-o->h2.get? b=-o:=λb o L q=>by
   have g:b≠e/\b≠it:=by simpa using L
   exact M.extBut b o g.1 (hk1 b o g.1 g.2 q)
  have I2:Inv X p9 Y H {s with heap:=h2,toks:=tk+1}:=I.turnedL hf k2;have ht2:h2.get? (~~~s)=-{cls:=.type "tuple",data:=.seq #[.int i tk,u]}:=M.extBut _ _ (fx helt) ht1;have ob:ObjOk X.prog X.w (upd H (~~~s) (.tup [.int i,x])) h2 (~~~s) (.tup [.int i,x]):=
   ⟨by rw[fR];simp,[.int i tk,u],.cons ⟨_,rfl⟩ (.cons ru .nil),⟨_,ht2,⟨rfl,rfl⟩,_,rfl⟩⟩
  have I3:=I2.track (I.fpOk (av _) hn) ob;have nee:(~~~s)≠e:=fx helt;have nei:(~~~s)≠it:=by let(o,ho,_):=O;exact fx (ay ho)
  show⟨.ref (~~~s),_,I3,rfl,⟨(~~~s),x,hn,rfl,rfl,λys hy=>by rw[yp hy N];exact hx⟩,⟨⟨u,?_⟩,?_⟩,λb L=>?_⟩
  .change IsEnum h2 e it (((i+1:Nat)):Int) u;rw[show(((i+1:Nat):Int))=(i:Int)+1 by lia];exact he2
  .exact (U.pos _ _ hit1).keep λo ho=>M.extBut _ _ (Ne.symm hne) ho
  .have g:b=e\/b=it:=by simpa using L
   rw[aK (by rcases g with rfl|rfl;exact Ne.symm nee;exact Ne.symm nei)];exact(hf b L).1
 done:=by
  intro X hP hw hK hc i p9 s Y H E I hf st hg;subst hP hw hK;let(vs,N,hi):=hg;subst hi;let((J,he),O):=st;have hfi:=hf it (!2);let(fp,Pd,S,U):=drawn (A:=X.A.in1) (I.ok.hd hc) I N hfi.1 O;show wpAny_pyNext_enum_endD U.D he U.st λh' eb=>⟨rfl,I.turnedL (t':=s.toks) hf λb o L q=>?_⟩;have g:b≠e/\b≠it:=by simpa using L
  exact eb b o g.2 q
 self:=λA i s Q E st h=>by
  let((J,he),_):=st;exact wpAny_pyIter_enum he h
def Zx{P:AK}{w:World}{K:PF}{tg:AO}(k:SK)(it:AQ):Turn P w K tg (Jk k) [it] it (λi h=>k.pos it i h) where
 mem:=by simp
 obj:=λi h st b hb=>by
  have e:b=it:=by simpa using hb
  subst e;let(o,e,c,d):=st;exact⟨o,e,λv z=>by rw[d]at z;cases z⟩
 keep:=λi h h' st kk=>st.keep λo e=>kk it (!2) o e
 item:=by
  intro X O hw N hc i p9 s Y H E I M st hg;let(vs,J,hi):=hg;have hfi:=M it (!2);cases k with
  |lst a=>
   have g:H a=-(.lst vs):=J;show df ((BV (tg:=tg) a it).item X O hw N hc i p9 s Y H E I M st ⟨vs,vs[i],SqL.of g,by simp[hi]⟩) ?_ (λp p e=>e);rintro r s1 ⟨u,hr,h1⟩;show⟨u,hr,df h1 ?_ (λp p e=>e)⟩;rintro _ s2 ⟨x,H',I',rx,⟨e1,e2⟩,L,fr⟩;exact⟨x,H',I',rx,⟨e1,λU q=>e2 U (SqL.of (show H a=-(.lst U) from q))⟩,L,fr⟩
  |tup a=>
   have g:H a=-(.tup vs):=J;show df ((BW (tg:=tg) a it).item X O hw N hc i p9 s Y H E I M st ⟨vs,vs[i],SqT.of g,by simp[hi]⟩) ?_ (λp p e=>e);rintro r s1 ⟨u,hr,h1⟩;show⟨u,hr,df h1 ?_ (λp p e=>e)⟩;rintro _ s2 ⟨x,H',I',rx,⟨e1,e2⟩,L,fr⟩;exact⟨x,H',I',rx,⟨e1,λU q=>e2 U (SqT.of (show H a=-(.tup U) from q))⟩,L,fr⟩
  |str y t=>
   have g:vs=y.cps.toList.map λc=>V.str ⟨#[c]⟩:=J;have hlen:vs⁻¹=y.cps.size:=by rw[g,ae,cy]
   show df ((vm (tg:=tg) it y t).item X O hw N hc i p9 s Y H E I M st (show i<y.cps.size by lia)) ?_ (λp p e=>e);rintro r s1 ⟨u,hr,h1⟩;show⟨u,hr,df h1 ?_ (λp p e=>e)⟩;rintro _ s2 ⟨x,H',I',rx,⟨e1,c,e2,e3⟩,L,fr⟩;show⟨x,H',I',rx,⟨e1,λU q=>?_⟩,L,fr⟩;have q:U=y.cps.toList.map λc=>V.str ⟨#[c]⟩:=q;rw[q,e3,aS,eP,e2];rfl
 done:=by
  intro X O hw N hc i p9 s Y H E I M st hg;let(vs,J,hi):=hg;cases k with
  |lst a=>exact(BV (tg:=tg) a it).done X O hw N hc i p9 s Y H E I M st ⟨vs,SqL.of (show H a=-(.lst vs) from J),!0⟩
  |tup a=>exact(BW (tg:=tg) a it).done X O hw N hc i p9 s Y H E I M st ⟨vs,SqT.of (show H a=-(.tup vs) from J),!0⟩
  |str y t=>
   have g:vs=y.cps.toList.map λc=>V.str ⟨#[c]⟩:=J;have hlen:vs⁻¹=y.cps.size:=by rw[g,ae,cy]
   exact(vm (tg:=tg) it y t).done X O hw N hc i p9 s Y H E I M st (show i=y.cps.size by lia)
 self:=λA i s Q E st h=>by
  cases k with
  |lst a=>exact wpAny_pyIter_listiter st h
  |tup a=>exact wpAny_pyIter_tupleiter st h
  |str y t=>exact(vm (K:=K) (tg:=tg) it y t).self A i s Q E st h
open Builtin Builtin.Str
section
variable {prog:AK} {w:World} {A:AM} {E:AG} {s:AI}
theorem Zy{z TI TO i1 i2:AQ}{k n1 n2:Nat}{fp1 fp2:List AQ}{P1 P2:Nat->AN->Prop}{S1 S2:Nat->Heap->Prop}{a b:AN}{Q:AG}(D:ZApart z TI TO i1 i2)
  (D1:Draws prog w A i1 fp1 n1 P1 S1) (D2:Draws prog w A i2 fp2 n2 P2 S2) (f1:∀c∈fp1,c≠z/\c≠TO/\c≠i2) (f2:∀c∈fp2,c≠z/\c≠TO/\c≠i1)
  (hz:IsZip s.heap z TI TO .none) (hTI:IsPair s.heap TI (.ref i1) (.ref i2)) (hTO:IsPair s.heap TO a b)
  (h1:S1 k s.heap) (h2:S2 k s.heap) (hx:k<n1) (hy:k<n2)
  (hQ:∀h' tk c d,P1 k c->P2 k d->IsZip h' z TI TO (rawInt (~~~s))->IsPair h' TO c d->S1 (k+1) h'->S2 (k+1) h'->
   IsPair h' (~~~s) c d->h'.objs.size=(~~~s)+1->
   (∀c o,c≠z->c≠TO->c≠i1->c≠i2->s.heap.get? c=-o->h'.get? c=-o)->Q (.ref (~~~s)) {s with heap:=h',toks:=tk}):
  wpAny (model prog w) A (Builtin.«zip.__next__» ⟨[.ref z],[]⟩) (λfin s'=>∃v,fin=.done (.ret v)/\Q v s') E s:=by
 have e1:∀{h h':Heap}{c:AQ}{j:Nat},S1 j h->Heap.ExtBut c h h'->(∀b∈fp1,b≠c)->S1 j h':=λq e n=>D1.frame _ _ _ q λb hb o y=>e b o (n b hb) y;have e2:∀{h h':Heap}{c:AQ}{j:Nat},S2 j h->Heap.ExtBut c h h'->(∀b∈fp2,b≠c)->S2 j h':=λq e n=>D2.frame _ _ _ q λb hb o y=>e b o (n b hb) y;have z1:∀b∈fp1,b≠z:=λb hb=>(f1 b hb).1;have t1:∀b∈fp1,b≠TO:=λb hb=>(f1 b hb).2.1;have j1:∀b∈fp1,b≠i2:=λb hb=>(f1 b hb).2.2;have z2:∀b∈fp2,b≠z:=λb hb=>(f2 b hb).1;have t2:∀b∈fp2,b≠TO:=λb hb=>(f2 b hb).2.1;have j2:∀b∈fp2,b≠i1:=λb hb=>(f2 b hb).2.2;change wpAny _ _ (field (.ref z) 2 >>= _) _ _ _;show ab (dr hz rfl (x:=.bool false) rfl ?_);change wpAny _ _ (field (.ref z) 3 >>= _) _ _ _;show ab (dr hz rfl (x:=.ref TI) rfl ?_);show ab (fm hTI rfl ?_);change wpAny _ _ (Builtin.SmallTypes.ownedTupleIsFree (.ref z) >>= _) _ _ _;show ab ?_;unfold Builtin.SmallTypes.ownedTupleIsFree;show ab (dr hz rfl (x:=.none) rfl (ai ?_));simp only[if_true];show ab (wpAny_rule ?_);show ab (dr hz rfl (x:=.ref TO) rfl ?_);show ab (fk hz (!2) λh₁ hz₁ J=>?_);replace hz₁:IsZip h₁ z TI TO .ellipsis:=hz₁;replace J:Heap.SameBut z s.heap h₁:=J;show ab ?_;simp only[List.zipIdx_cons,List.zipIdx_nil,fA,List.forIn_nil];show ab (ab (wpAny_onRaise ?_));change wpAny _ _ (Builtin.SmallTypes.nextOf (.ref i1) >>= _) _ _ _;show ab (D1.item k _ _ _ hx (e1 h1 J.extBut z1) λc h₂ tk₂ hc h1₂ L=>ai ?_);replace L:Heap.SameBut i1 h₁ h₂:=L;have hTO₂:IsPair h₂ TO a b:=L.extBut _ _ D.TOi1 (J.extBut _ _ D.TOz hTO);show ab (fm hTO₂ rfl ?_);show ab (wpAny_updateSeq_pair hTO₂ λh₃ Y M=>?_);replace Y:IsPair h₃ TO c b:=Y;replace M:Heap.SameBut TO h₂ h₃:=M;show ab (wpAny_letGo (ai ?_));show ab (ab (wpAny_onRaise ?_));change wpAny _ _ (Builtin.SmallTypes.nextOf (.ref i2) >>= _) _ _ _;show ab (D2.item k _ _ _ hy (e2 (e2 (e2 h2 J.extBut z2) L.extBut j2) M.extBut t2) λd h₄ tk₄ hd h2₄ N=>ai ?_);replace N:Heap.SameBut i2 h₃ h₄:=N;have hTO₄:IsPair h₄ TO c b:=N.extBut _ _ D.TOi2 Y;show ab (fm hTO₄ rfl ?_);show ab (wpAny_updateSeq_pair hTO₄ λg U O=>?_);replace U:IsPair g TO c d:=U;replace O:Heap.SameBut TO h₄ g:=O;show ab (wpAny_letGo (ai (ai ?_)));show ab (fm U rfl ?_);show ab (wpAny_newTuple ?_);have hsz:g.objs.size=(~~~s):=by rw[O.1,N.1,M.1,L.1,J.1]
 have hz₅:IsZip g z TI TO .ellipsis:=O.extBut _ _ D.TOz.symm (N.extBut _ _ D.i2z.symm (M.extBut _ _ D.TOz.symm (L.extBut _ _ D.i1z.symm hz₁)));have hk₅:∀c o,c≠z->c≠TO->c≠i1->c≠i2->s.heap.get? c=-o->g.get? c=-o:=λc o c1 c2 c3 c4 e=>
  O.extBut _ _ c2 (N.extBut _ _ c4 (M.extBut _ _ c2 (L.extBut _ _ c3 (J.extBut _ _ c1 e))))
 have h1₅:S1 (k+1) g:=e1 (e1 (e1 h1₂ M.extBut t1) N.extBut j1) O.extBut t1;have h2₅:S2 (k+1) g:=e2 h2₄ O.extBut t2;have hzlt:z<g.objs.size:=ay hz₅;change wpAny _ _ (Builtin.SmallTypes.ownedTupleHandOut (.ref z) (.ref g.objs.size) >>= _) _ _ _;show ab ?_;unfold Builtin.SmallTypes.ownedTupleHandOut;have hz₆:IsZip (g.push {cls:=.type "tuple",data:=.seq #[c,d]}) z TI TO .ellipsis:=ag _ hz₅;show ab (fk hz₆ (!2) λh₇ hz₇ hs₇=>?_);replace hz₇:IsZip h₇ z TI TO (rawInt g.objs.size):=hz₇;show fk hz₇ (!2) λh₈ hz₈ hs₈=>?_;replace hz₈:IsZip h₈ z TI TO (rawInt g.objs.size):=hz₈;have up:∀c o,c≠z->g.get? c=-o->h₈.get? c=-o:=λc o c1 e=>hs₈.extBut _ _ c1 (hs₇.extBut _ _ c1 (ag _ e));have hT₈:IsPair h₈ g.objs.size c d:=hs₈.extBut _ _ (fx hzlt) (hs₇.extBut _ _ (fx hzlt) (aI _ rfl));have hz8:h₈.objs.size=g.objs.size+1:=by rw[hs₈.1,hs₇.1,cm]
 rw[hsz]at hz₈ hT₈ hz8;show ai ⟨_,rfl,?_⟩;change Q (.ref g.objs.size) _;rw[hsz];exact hQ h₈ tk₄ c d hc hd hz₈ (up _ _ D.TOz U) (D1.frame _ _ _ h1₅ λb hb o y=>up b o (z1 b hb) y) (D2.frame _ _ _ h2₅ λb hb o y=>up b o (z2 b hb) y) hT₈ hz8 λc o c1 c2 c3 c4 e=>up c o c1 (hk₅ c o c1 c2 c3 c4 e)
theorem Zz{z TI TO i1 i2:AQ}{n1:Nat}{U:List AQ}{P1:Nat->AN->Prop}{S1:Nat->Heap->Prop}{a b:AN}{Q:Fin->AI->Prop}(D:ZApart z TI TO i1 i2)
  (D1:Draws prog w A i1 U n1 P1 S1) (f1:∀c∈U,c≠z)
  (hz:IsZip s.heap z TI TO .none) (hTI:IsPair s.heap TI (.ref i1) (.ref i2)) (hTO:IsPair s.heap TO a b) (h1:S1 n1 s.heap)
  (hE:∀h' e,(∀c o,c≠z->c≠TO->c≠i1->c≠i2->s.heap.get? c=-o->h'.get? c=-o)->(∃o,h'.get? e=-o/\o.cls=.type "StopIteration")->E (.ref e) {s with heap:=h'}):
  wpAny (model prog w) A (Builtin.«zip.__next__» ⟨[.ref z],[]⟩) Q E s:=by
 change wpAny _ _ (field (.ref z) 2 >>= _) _ _ _;show ab (dr hz rfl (x:=.bool false) rfl ?_);change wpAny _ _ (field (.ref z) 3 >>= _) _ _ _;show ab (dr hz rfl (x:=.ref TI) rfl ?_);show ab (fm hTI rfl ?_);change wpAny _ _ (Builtin.SmallTypes.ownedTupleIsFree (.ref z) >>= _) _ _ _;show ab ?_;unfold Builtin.SmallTypes.ownedTupleIsFree;show ab (dr hz rfl (x:=.none) rfl (ai ?_));simp only[if_true];show ab (wpAny_rule ?_);show ab (dr hz rfl (x:=.ref TO) rfl ?_);show ab (fk hz (!2) λN q g=>?_);replace q:IsZip N z TI TO .ellipsis:=q;replace g:Heap.SameBut z s.heap N:=g;show ab ?_;simp only[List.zipIdx_cons,List.zipIdx_nil,fA,List.forIn_nil];show ab (ab (wpAny_onRaise ?_));change wpAny _ _ (Builtin.SmallTypes.nextOf (.ref i1) >>= _) _ _ _;show ab (D1.done _ _ _ (D1.frame _ _ _ h1 λb hb o y=>g.extBut b o (f1 b hb) y) λh₂ e J he=>?_);let(oe,O,Y):=he;have M:IsZip h₂ z TI TO .ellipsis:=J _ _ D.i1z.symm q;have hez:e≠z:=λx=>by subst x;rw[M]at O;cases O;simp at Y
 show fk M (!2) λh₃ v L=>hE h₃ e (λc o c1 v c3 v x=>L.extBut _ _ c1 (J _ _ c3 (g.extBut _ _ c1 x))) ⟨oe,L.extBut _ _ hez O,Y⟩
theorem ZC{z TI TO i1 i2:AQ}{k n1 n2:Nat}{fp1 O:List AQ}{P1 P2:Nat->AN->Prop}{S1 S2:Nat->Heap->Prop}{a b:AN}{Q:Fin->AI->Prop}(D:ZApart z TI TO i1 i2)
  (D1:Draws prog w A i1 fp1 n1 P1 S1) (D2:Draws prog w A i2 O n2 P2 S2) (f1:∀c∈fp1,c≠z/\c≠TO/\c≠i2) (f2:∀c∈O,c≠z/\c≠TO/\c≠i1)
  (hz:IsZip s.heap z TI TO .none) (hTI:IsPair s.heap TI (.ref i1) (.ref i2)) (hTO:IsPair s.heap TO a b) (h1:S1 k s.heap) (h2:S2 k s.heap) (hx:k<n1) (hy:k=n2)
  (hE:∀h' tk e,(∀c o,c≠z->c≠TO->c≠i1->c≠i2->s.heap.get? c=-o->h'.get? c=-o)->(∃o,h'.get? e=-o/\o.cls=.type "StopIteration")->E (.ref e) {s with heap:=h',toks:=tk}):
  wpAny (model prog w) A (Builtin.«zip.__next__» ⟨[.ref z],[]⟩) Q E s:=by
 have e1:∀{h h':Heap}{c:AQ}{j:Nat},S1 j h->Heap.ExtBut c h h'->(∀b∈fp1,b≠c)->S1 j h':=λq e n=>D1.frame _ _ _ q λb U o y=>e b o (n b U) y;have e2:∀{h h':Heap}{c:AQ}{j:Nat},S2 j h->Heap.ExtBut c h h'->(∀b∈O,b≠c)->S2 j h':=λq e n=>D2.frame _ _ _ q λb U o y=>e b o (n b U) y;have z1:∀b∈fp1,b≠z:=λb U=>(f1 b U).1;have z2:∀b∈O,b≠z:=λb U=>(f2 b U).1;have t2:∀b∈O,b≠TO:=λb U=>(f2 b U).2.1;have j2:∀b∈O,b≠i1:=λb U=>(f2 b U).2.2;change wpAny _ _ (field (.ref z) 2 >>= _) _ _ _;show ab (dr hz rfl (x:=.bool false) rfl ?_);change wpAny _ _ (field (.ref z) 3 >>= _) _ _ _;show ab (dr hz rfl (x:=.ref TI) rfl ?_);show ab (fm hTI rfl ?_);change wpAny _ _ (Builtin.SmallTypes.ownedTupleIsFree (.ref z) >>= _) _ _ _;show ab ?_;unfold Builtin.SmallTypes.ownedTupleIsFree;show ab (dr hz rfl (x:=.none) rfl (ai ?_));simp only[if_true];show ab (wpAny_rule ?_);show ab (dr hz rfl (x:=.ref TO) rfl ?_);show ab (fk hz (!2) λh₁ M g=>?_);replace M:IsZip h₁ z TI TO .ellipsis:=M;replace g:Heap.SameBut z s.heap h₁:=g;show ab ?_;simp only[List.zipIdx_cons,List.zipIdx_nil,fA,List.forIn_nil];show ab (ab (wpAny_onRaise ?_));change wpAny _ _ (Builtin.SmallTypes.nextOf (.ref i1) >>= _) _ _ _;show ab (D1.item k _ _ _ hx (e1 h1 g.extBut z1) λc h₂ tk₂ hc h1₂ J=>ai ?_);replace J:Heap.SameBut i1 h₁ h₂:=J;have N:IsPair h₂ TO a b:=J.extBut _ _ D.TOi1 (g.extBut _ _ D.TOz hTO);show ab (fm N rfl ?_);show ab (wpAny_updateSeq_pair N λh₃ hTO₃ L=>?_);replace L:Heap.SameBut TO h₂ h₃:=L;show ab (wpAny_letGo (ai ?_));show ab (ab (wpAny_onRaise ?_));change wpAny _ _ (Builtin.SmallTypes.nextOf (.ref i2) >>= _) _ _ _;subst hy;show ab (D2.done _ _ _ (e2 (e2 (e2 h2 g.extBut z2) J.extBut j2) L.extBut t2) λh₄ e Y he=>?_);let(oe,hoe,hce):=he;have hz₄:IsZip h₄ z TI TO .ellipsis:=Y _ _ D.i2z.symm (L.extBut _ _ D.TOz.symm (J.extBut _ _ D.i1z.symm M));have hez:e≠z:=λx=>by subst x;rw[hz₄]at hoe;cases hoe;simp at hce
 show fk hz₄ (!2) λh₅ v hs₅=>hE h₅ tk₂ e (λc o c1 c2 c3 c4 x=>hs₅.extBut _ _ c1 (Y _ _ c4 (L.extBut _ _ c2 (J.extBut _ _ c3 (g.extBut _ _ c1 x))))) ⟨oe,hs₅.extBut _ _ hez hoe,hce⟩
end
def Jz(k l:SK):It:=⟨λi H=>∃vs g,k.Sat H vs/\l.Sat H g/\i<vs⁻¹/\i<g⁻¹,
 λi H x H'=>∃T y z,H T=none/\x=.ref T/\H'=upd H T (.tup [y,z])/\(∀vs,k.Sat H vs->vs[i]?=-y)/\(∀g,l.Sat H g->g[i]?=-z),
 λi H=>∃vs g,k.Sat H vs/\l.Sat H g/\(vs⁻¹=i/\i<=g⁻¹\/i<vs⁻¹/\g⁻¹=i)⟩
def ZD{P:AK}{w:World}{K:PF}{elts:AE}{x1:Nat}{pos:Pos}(k l:SK)(z TI TO N O:AQ)(D:ZApart z TI TO N O):
  Turn P w K (.Tuple elts x1 pos) (Jz k l) [z,TI,TO,N,O] z
   (λi h=>IsZip h z TI TO .none/\IsPair h TI (.ref N) (.ref O)/\(∃a b,IsPair h TO a b)/\k.pos N i h/\l.pos O i h) where
 mem:=by simp
 obj:=λi h st b hb=>by
  let(hz,L,(a,c,hTO),(o1,e1,_,d1),(o2,e2,_,d2)):=st;have g:b=z\/b=TI\/b=TO\/b=N\/b=O:=by simpa using hb
  rcases g with rfl|rfl|rfl|rfl|rfl
  .exact ⟨_,hz,λv q=>by have q':Data.fields _=Data.cell v:=q;cases q'⟩
  .exact ⟨_,L,λv q=>by have q':Data.seq _ _=Data.cell v:=q;cases q'⟩
  .exact ⟨_,hTO,λv q=>by have q':Data.seq _ _=Data.cell v:=q;cases q'⟩
  .exact ⟨o1,e1,λv q=>by rw[d1]at q;cases q⟩
  .exact ⟨o2,e2,λv q=>by rw[d2]at q;cases q⟩
 keep:=λi h h' st kk=>by
  let(hz,L,(a,c,hTO),p1,p2):=st;exact⟨kk z (!2) _ hz,kk TI (!2) _ L,⟨a,c,kk TO (!2) _ hTO⟩,p1.keep λo e=>kk N (!2) o e,p2.keep λo e=>kk O (!2) o e⟩
 item:=by
  intro X hP hw hK hc i p9 s Y H E I hf st hg;subst hP hw hK;let(vs,ws,U,sat2,l1,l2):=hg;let(hz,L,(a,b,hTO),h1,h2):=st;have hT:s.TypeIs (.ref z) "zip":=⟨_,hz,rfl⟩;have fz:=hf z (!2);have fTO:=hf TO (!2);have fi1:=hf N (!2);have fi2:=hf O (!2);let(fp1,P1,S1,J):=drawn (A:=X.A.in1) (I.ok.hd hc) I U fi1.1 h1;let(fp2,P2,S2,Dr2):=drawn (A:=X.A.in1) (I.ok.hd hc) I sat2 fi2.1 h2;have no1:∀e,H e=none->e≠N->∀c∈fp1,c≠e:=λe he hei c hc z=>by
   rcases J.fp c hc with q|q
   .exact hei (z.symm.trans q)
   .have:=U.no he;cases k with
    |lst a=>injection q with q;exact this (q.trans z)
    |tup a=>injection q with q;exact this (q.trans z)
    |str _ _=>cases q
  have no2:∀e,H e=none->e≠O->∀c∈fp2,c≠e:=λe he hei c hc z=>by
   rcases Dr2.fp c hc with q|q
   .exact hei (z.symm.trans q)
   .have:=sat2.no he;cases l with
    |lst a=>injection q with q;exact this (q.trans z)
    |tup a=>injection q with q;exact this (q.trans z)
    |str _ _=>cases q
  have f1:∀c∈fp1,c≠z/\c≠TO/\c≠O:=λc hc=>⟨no1 z fz.1 D.i1z.symm c hc,no1 TO fTO.1 D.TOi1 c hc,no1 O fi2.1 D.i12.symm c hc⟩;have f2:∀c∈fp2,c≠z/\c≠TO/\c≠N:=λc hc=>⟨no2 z fz.1 D.i2z.symm c hc,no2 TO fTO.1 D.TOi2 c hc,no2 N fi1.1 D.i12 c hc⟩;have ltz:z<(~~~s):=ay hz;have ltTI:TI<(~~~s):=ay L;have ltTO:TO<(~~~s):=ay hTO;have lti1:N<(~~~s):=by let(_,e,_):=h1;exact ay e
  have lti2:O<(~~~s):=by let(_,e,_):=h2;exact ay e
  unfold pyNext;show ab (wpAny_attempt (dk (name:=⇑"__next__") hT F.slot_zip_next
   (e7 F.slot_zip_next hT F.entry_zip_next (Zy D J.D Dr2.D f1 f2 hz L hTO J.st Dr2.st l1 l2 λh' tk c d pc pd a1 a2 a3 a4 a5 a6 hk=>ai ?_) (F.args_zip_next_1 _))))
  let(y,hy,ry):=J.val _ _ pc;let(y',hy',ry'):=Dr2.val _ _ pd;show⟨_,rfl,?_⟩;show wpAny_letOwnedTupleGo_zip a1 λh2' hz2 hs2=>?_;have M:Heap.SameBut z h' h2':=hs2;have hn:H (~~~s)=none:=I.hok.fresh (av _);have k2:∀b o,b∉[z,TI,TO,N,O]->s.heap.get? b=-o->h2'.get? b=-o:=λb o hb q=>by
   have g:b≠z/\b≠TI/\b≠TO/\b≠N/\b≠O:=by simpa using hb
   exact M.extBut b o g.1 (hk b o g.1 g.2.2.1 g.2.2.2.1 g.2.2.2.2 q)
  have I2:Inv X p9 Y H {s with heap:=h2',toks:=tk}:=I.turnedL hf k2;have ht2:h2'.get? (~~~s)=-{cls:=.type "tuple",data:=.seq #[c,d]}:=M.extBut _ _ (fx ltz) a5;have ob:ObjOk X.prog X.w (upd H (~~~s) (.tup [y,y'])) h2' (~~~s) (.tup [y,y']):=
   ⟨by rw[fR];simp,[c,d],.cons ry (.cons ry' .nil),⟨_,ht2,⟨rfl,rfl⟩,_,rfl⟩⟩
  have I3:=I2.track (I.fpOk (av _) hn) ob;show⟨.ref (~~~s),_,I3,rfl,⟨(~~~s),y,y',hn,rfl,rfl,λus hu=>by rw[yp hu U];exact hy,λus hu=>by rw[yp hu sat2];exact hy'⟩,
   ⟨hz2,M.extBut _ _ D.TIz (hk _ _ D.TIz D.TITO D.TIi1 D.TIi2 L),⟨_,_,M.extBut _ _ D.TOz a2⟩,(J.pos _ _ a3).keep λo e=>M.extBut _ _ D.i1z e,(Dr2.pos _ _ a4).keep λo e=>M.extBut _ _ D.i2z e⟩,λb hb=>?_⟩
  have g:b=z\/b=TI\/b=TO\/b=N\/b=O:=by simpa using hb
  rw[aK (by rcases g with rfl|rfl|rfl|rfl|rfl<;>exact bX ‹_›)];exact(hf b hb).1
 done:=by
  intro X hP hw hK hc i p9 s Y H E I hf st hg;subst hP hw hK;let(vs,ws,U,sat2,hend):=hg;let(hz,L,(a,b,hTO),h1,h2):=st;have hT:s.TypeIs (.ref z) "zip":=⟨_,hz,rfl⟩;have fz:=hf z (!2);have fTO:=hf TO (!2);have fi1:=hf N (!2);have fi2:=hf O (!2);let(fp1,P1,S1,J):=drawn (A:=X.A.in1) (I.ok.hd hc) I U fi1.1 h1;let(fp2,P2,S2,Dr2):=drawn (A:=X.A.in1) (I.ok.hd hc) I sat2 fi2.1 h2;have no1:∀e,H e=none->e≠N->∀c∈fp1,c≠e:=λe he hei c hc z=>by
   rcases J.fp c hc with q|q
   .exact hei (z.symm.trans q)
   .have:=U.no he;cases k with
    |lst a=>injection q with q;exact this (q.trans z)
    |tup a=>injection q with q;exact this (q.trans z)
    |str _ _=>cases q
  have no2:∀e,H e=none->e≠O->∀c∈fp2,c≠e:=λe he hei c hc z=>by
   rcases Dr2.fp c hc with q|q
   .exact hei (z.symm.trans q)
   .have:=sat2.no he;cases l with
    |lst a=>injection q with q;exact this (q.trans z)
    |tup a=>injection q with q;exact this (q.trans z)
    |str _ _=>cases q
  have f1:∀c∈fp1,c≠z/\c≠TO/\c≠O:=λc hc=>⟨no1 z fz.1 D.i1z.symm c hc,no1 TO fTO.1 D.TOi1 c hc,no1 O fi2.1 D.i12.symm c hc⟩;have f2:∀c∈fp2,c≠z/\c≠TO/\c≠N:=λc hc=>⟨no2 z fz.1 D.i2z.symm c hc,no2 TO fTO.1 D.TOi2 c hc,no2 N fi1.1 D.i12 c hc⟩;have fin:∀(h':Heap)(tk:Nat)(e:AQ),(∀c o,c≠z->c≠TO->c≠N->c≠O->s.heap.get? c=-o->h'.get? c=-o)->Inv X p9 Y H {s with heap:=h',toks:=tk}:=λh' tk e hk=>I.turnedL (t':=tk) hf λb o hb q=>by
   have g:b≠z/\b≠TI/\b≠TO/\b≠N/\b≠O:=by simpa using hb
   exact hk b o g.1 g.2.2.1 g.2.2.2.1 g.2.2.2.2 q
  unfold pyNext;show ab (wpAny_attempt (dk (name:=⇑"__next__") hT F.slot_zip_next
   (e7 F.slot_zip_next hT F.entry_zip_next ?_ (F.args_zip_next_1 _))))
  rcases hend with⟨e1,_⟩|⟨e1,e2⟩
  .subst e1;show Zz D J.D (λc hc=>(f1 c hc).1) hz L hTO J.st λh' e hk he=>?_;let(o,ho,hc'):=he;show ab (wpAny_isInstance (T:="StopIteration") (b:=true) ⟨o,ho,hc'⟩ isSubtype_stop ?_);exact ai ⟨rfl,fin h' s.toks e hk⟩
  .show ZC D J.D Dr2.D f1 f2 hz L hTO J.st Dr2.st e1 e2.symm λh' tk e hk he=>?_;let(o,ho,hc'):=he;show ab (wpAny_isInstance (T:="StopIteration") (b:=true) ⟨o,ho,hc'⟩ isSubtype_stop ?_);exact ai ⟨rfl,fin h' tk e hk⟩
 self:=λA i s Q E st h=>wpAny_pyIter_zip st.1 h
open Sem (wp)
open AutoSeq1 (wpAny_loadPart')
set_option maxHeartbeats 1000000 in
theorem ZF(l:AQ)(q:Array AN)(n:Nat)(dct:Option AQ)(N:Array (Option AN)):
  Meets (Builtin.«enumerate.__new__» ⟨[.type "enumerate",.ref l],[]⟩) (λy R s=>s.heap.get? l=-{cls:=.type "tuple",dict:=dct,data:=.seq q n,slots:=N}/\
   R (.ok (.ret (.ref (s.heap.push {cls:=.type "tuple_iterator",data:=.fields #[.ref l,.int 0 0]}).objs.size)))
    {s with heap:=(s.heap.push {cls:=.type "tuple_iterator",data:=.fields #[.ref l,.int 0 0]}).push {cls:=.type "enumerate",data:=.fields #[.none,.bool false,.ref (~~~s),rawInt 0,.none,.none]}}):=
 .of_wp λprog w A R s h=>by
  let(L,g,d,O,M):=s;let(hl,h):=h;have J:=sub_enumerate;have z:Heap.IsTuple (Shared.heap ⟨L,g,d,O,M⟩) l q:=⟨_,hl,rfl,n,rfl⟩;wp_walk using wpAny_loadPart' hl
  show wpAny_stack_any λst=>ai ?_;split
  .rename_i c _ _ _ _ _;cases(c==Value.type "enumerate")
   .wp_walk using wpAny_loadPart' hl,wpAny_pyIter_tuple z
    exact⟨_,rfl,h⟩
   .wp_walk using wpAny_loadPart' hl,wpAny_pyIter_tuple z
    exact⟨_,rfl,h⟩
  .wp_walk using wpAny_loadPart' hl,wpAny_pyIter_tuple z
   exact⟨_,rfl,h⟩
abbrev sX(h:Heap)(k:SK):Heap:=h.push k.obj
abbrev sY(h:Heap)(k l:SK):Heap:=(sX h k).push l.obj
abbrev sZ (h:Heap) (k l:SK):Heap:=(sY h k l).push {cls:=.type "tuple",data:=.seq #[.ref h.objs.size,.ref (sX h k).objs.size]}
abbrev tB (h:Heap) (k l:SK):Heap:=(sZ h k l).push {cls:=.type "tuple",data:=.seq #[.none,.none]}
abbrev iM (h:Heap) (k l:SK):Heap:=(tB h k l).push {cls:=.type "zip",data:=.fields #[.none,.bool false,.bool false,.ref (sY h k l).objs.size,.ref (sZ h k l).objs.size]}
def ZG(k l:SK)(xs ys:Array AN):
  Meets (Builtin.«zip.__new__» ⟨[.type "zip",k.val,l.val],[]⟩) (λy R s=>k.On xs s.heap/\l.On ys s.heap/\R (.ok (.ret (.ref (tB s.heap k l).objs.size))) {s with heap:=iM s.heap k l}):=
 .of_wp λprog w A R s h=>by
  let(J,g,d,N,M):=s;let(h1,h2,h):=h;have L:=sub_zip;have q:k.On xs (Shared.heap ⟨J,g,d,N,M⟩):=h1;have z:l.On ys (Shared.heap ⟨J.push k.obj,g,d,N,M⟩):=SK.On.keeps h2 λb o y e=>ag _ e;wp_walk using SK.iter q,SK.iter z
  exact⟨_,rfl,h⟩
section
variable {prog:AK} {w:World} {A:AM} {E:AG} {s:AI}
theorem ZJ{k l:SK}{xs ys:Array AN}{Q:AG}(h1:k.On xs s.heap)(h2:l.On ys s.heap)
  (h:∀h',IsZip h' ((~~~s)+4) ((~~~s)+2) ((~~~s)+3) .none->IsPair h' ((~~~s)+2) (.ref (~~~s)) (.ref ((~~~s)+1))->
   IsPair h' ((~~~s)+3) .none .none->k.pos (~~~s) 0 h'->l.pos ((~~~s)+1) 0 h'->h'.objs.size=(~~~s)+5->
   (∀c o,s.heap.get? c=-o->h'.get? c=-o)->Q (.ref ((~~~s)+4)) {s with heap:=h'}):
  wpAny (model prog w) A (call (.type "zip") [k.val,l.val]) Q E s:=by
 show callType_new F.called_zip (!1) (F.typeCall_zip_2 _ _) (F.newCall_zip_2 _ _) (λobj=>F.args_object_init_3 obj _ _) F.entry_zip_new
  (ZG k l xs ys) ⟨h1,h2,?_⟩
 have q:(sX s.heap k).objs.size=(~~~s)+1:=cm ..;have z:(sY s.heap k l).objs.size=(~~~s)+2:=by rw[cm,q]
 have J:(sZ s.heap k l).objs.size=(~~~s)+3:=by rw[cm,z]
 have L:(tB s.heap k l).objs.size=(~~~s)+4:=by rw[cm,J]
 have Y:(iM s.heap k l).objs.size=(~~~s)+5:=by rw[cm,L]
 have g:(iM s.heap k l).get? (tB s.heap k l).objs.size=-_:=aI _ rfl;have O:(iM s.heap k l).get? (sZ s.heap k l).objs.size=-_:=ag _ (aI _ rfl);have N:(iM s.heap k l).get? (sY s.heap k l).objs.size=-_:=ag _ (ag _ (aI _ rfl));have M:(iM s.heap k l).get? (sX s.heap k).objs.size=-_:=ag _ (ag _ (ag _ (aI _ rfl)));have U:(iM s.heap k l).get? (~~~s)=-_:=ag _ (ag _ (ag _ (ag _ (aI _ rfl))));change _/\_;rw[z,J,L]at g;rw[q,z]at N;rw[J]at O;rw[q]at M;rw[L];exact⟨⟨_,g,rfl⟩,h _ g N O ⟨_,U,rfl,rfl⟩ ⟨_,M,rfl,rfl⟩ Y λc o x=>
  ag _ (ag _ (ag _ (ag _ (ag _ x))))⟩
theorem ZK{l:AQ}{g:Array AN}{Q:AG}(L:s.heap.IsTuple l g)
  (h:∀h',IsEnum h' ((~~~s)+1) (~~~s) 0 .none->h'.IsTupleIter (~~~s) l 0->h'.objs.size=(~~~s)+2->
   (∀b o,s.heap.get? b=-o->h'.get? b=-o)->Q (.ref ((~~~s)+1)) {s with heap:=h'}):
  wpAny (model prog w) A (call (.type "enumerate") [.ref l]) Q E s:=by
 let((c,dct,J,M),hl,hc,n,q):=L;replace hc:c=.type "tuple":=hc;replace q:J=.seq g n:=q;subst hc q;show callType_new F.called_enumerate (!1) (F.typeCall_enumerate_1 _) (F.newCall_enumerate_1 _) (λobj=>F.args_object_init_2 obj _) F.entry_enumerate_new
  (ZF l g n dct M) ⟨hl,?_⟩
 have z:(s.heap.push {cls:=.type "tuple_iterator",data:=.fields #[.ref l,.int 0 0]}).objs.size=(~~~s)+1:=cm ..;change _/\_;rw[z];have he:IsEnum ((s.heap.push {cls:=.type "tuple_iterator",data:=.fields #[.ref l,.int 0 0]}).push
   {cls:=.type "enumerate",data:=.fields #[.none,.bool false,.ref (~~~s),rawInt 0,.none,.none]}) ((~~~s)+1) (~~~s) 0 .none:=by
  have:=aI (s.heap.push {cls:=.type "tuple_iterator",data:=.fields #[.ref l,.int 0 0]})
   (o:={cls:=.type "enumerate",data:=.fields #[.none,.bool false,.ref (~~~s),rawInt 0,.none,.none]}) rfl
  rw[z]at this;exact this
 show⟨⟨_,he,rfl⟩,h _ he ⟨_,ag _ (aI _ rfl),rfl,rfl⟩ (by rw[cm,z]) λb o x=>ag _ (ag _ x)⟩
theorem ZL{k:SK}{xs:Array AN}{Q:AG}(h1:k.On xs s.heap)
  (h:∀h',IsEnum h' ((~~~s)+1) (~~~s) 0 .none->k.pos (~~~s) 0 h'->h'.objs.size=(~~~s)+2->
   (∀b o,s.heap.get? b=-o->h'.get? b=-o)->Q (.ref ((~~~s)+1)) {s with heap:=h'}):
  wpAny (model prog w) A (call (.type "enumerate") [k.val]) Q E s:=by
 cases k with
 |lst a=>exact call_enumerate_list h1 h
 |tup a=>exact ZK h1 h
 |str x t=>exact call_enumerate_str h
end
set_option backward.match.sparseCases false
structure OT where
 ms:List (AL×AL×AL×Nat):=[]
 ks:List (AL×Nat):=[]
 fl:List (AL×AL):=[]
 xk:List (AL×AL):=[]
structure CT where
 N:AD
 kd:List (Str×NameKind)
 fn:Bool
 fs:List (AL×Nat)
 bt:List AL
 cn:List (AL×D)
 xs:List (AL×Bool):=[]
 ot:OT:={}
def iQ:Option NameKind->Bool
 |some .local=>true
 |some .cell=>true
 |some .free=>true
 |_=>false
def CT.sto(c:CT)(x:Str):Bool:=c.kd.lookup x==-.local||(c.fn&&c.kd.lookup x==-.cell)
def okN (x:Str):Bool:=!(x==("__debug__":Str))&&!(x==("__classdict__":Str))&&!(x==("__name__":Str))
def CT.glo(c:CT)(x:Str):Bool:=c.kd.lookup x==-.globalImplicit&&okN x
def sEq:D->D->Bool
 |.non,.non=>true
 |.bl a,.bl b=>a==b
 |.int a,.int b=>a==b
 |.str a,.str b=>a==b
 |_,_=>false
def ZM{a b:D}(h:sEq a b=true):a=b:=by cases a<;>cases b<;>simp_all [sEq]
def iR(d:D)(k:Const):Bool:=
 match d,k with
 |.non,.none=>true
 |.bl a,.bool b=>a==b
 |.int a,.int b=>a==b
 |.str a,.str b=>a==b.cps.toList&&decide (a⁻¹<=sz)
 |_,_=>false
def Bf.name:Bf->AL
 |.len=>"len"
 |.all=>"all"
 |.any=>"any"
 |.int=>"int"
 |.tuple=>"tuple"
 |.sum=>"sum"
 |.min=>"min"
 |.max=>"max"
 |.abs=>"abs"
 |.min2=>"min"
 |.str=>"str"
def yq:Bf->Bool
 |.sum=>false
 |.min=>true
 |.max=>false
 |.abs=>false
 |.min2=>false
 |.str=>true
 |_=>true
def yr:Lf->Bool
 |.sorted=>true
 |_=>true
def Lf.name:Lf->AL
 |.list=>"list"
 |.sorted=>"sorted"
def Mf.name:Mf->AL
 |.join=>"join"
 |.append=>"append"
 |.extend=>"extend"
 |.pop=>"pop"
 |.idxT=>"index"
def akC:AO->Bool
 |.Name _ _=>true
 |.Subscript _ _ _=>true
 |_=>false
def tD:AO->Bool
 |.Call (.Name _ _) [] [] _=>true
 |_=>false
def dU:AO->Bool
 |.ListComp ..=>true
 |.SetComp ..=>true
 |.DictComp ..=>true
 |_=>false
def iT:AO->Bool
 |.UnaryOp .Not _ _=>false
 |.BoolOp ..=>false
 |.IfExp ..=>false
 |.Compare ..=>false
 |_=>true
def eZ(N:AD)(scope:Scope):AD->List (Option Nat)->Bool
 |[],[]=>true
 |_::N',none::cap=>eZ N scope N' cap
 |x::N',-j::cap=>(N[j]?==-x)&&(scope.names.lookup x==-NameKind.free)&&eZ N scope N' cap
 |_,_=>false
def eF(c:CT)(scope:Scope):Bool:=
 scope.names.all (λy=>y.2 != NameKind.cell)&&scope.names.all (λy=>y.2 != NameKind.local||scope.names.lookup y.1==-NameKind.local) &&
 scope.names.all (λy=>y.2 != NameKind.free||(c.kd.lookup y.1==-NameKind.cell||c.kd.lookup y.1==-NameKind.free))&&decide (scope.kind=.function)&&decide (c.kd=c.kd)
def CT.comp(c:CT)(N:AD)(scope:Scope):CT:={N:=N,kd:=scope.names,fn:=false,fs:=c.fs,bt:=c.bt,cn:=c.cn,ot:=c.ot}
def dJ:AD->Bool
 |[]=>true
 |x::r=>!r.contains x&&dJ r
def asName(e:AO):Option {t:Str×Pos // e=.Name t.1 t.2}:=match e with
 |.Name a0 a1=>-⟨(a0,a1),rfl⟩
 |_=>none
def akD(e:AO):Option {t:AO×Pos // e=.Starred t.1 t.2}:=match e with
 |.Starred a0 a1=>-⟨(a0,a1),rfl⟩
 |_=>none
def lX(e:AO):Option {t:Const×Nat×Pos // e=.Constant t.1 t.2.1 t.2.2}:=match e with
 |.Constant a0 a1 a2=>-⟨(a0,a1,a2),rfl⟩
 |_=>none
def Hg(e:AO):Option {t:AO×Operator×AO×Pos // e=.BinOp t.1 t.2.1 t.2.2.1 t.2.2.2}:=match e with
 |.BinOp a0 a1 a2 a3=>-⟨(a0,a1,a2,a3),rfl⟩
 |_=>none
def jT(e:AO):Option {t:UnaryOp×AO×Pos // e=.UnaryOp t.1 t.2.1 t.2.2}:=match e with
 |.UnaryOp a0 a1 a2=>-⟨(a0,a1,a2),rfl⟩
 |_=>none
def lY(e:AO):Option {t:AO×List CmpOp×AE×Pos // e=.Compare t.1 t.2.1 t.2.2.1 t.2.2.2}:=match e with
 |.Compare a0 a1 a2 a3=>-⟨(a0,a1,a2,a3),rfl⟩
 |_=>none
def tH(e:AO):Option {t:BoolOp×AE×Pos // e=.BoolOp t.1 t.2.1 t.2.2}:=match e with
 |.BoolOp a0 a1 a2=>-⟨(a0,a1,a2),rfl⟩
 |_=>none
def Hh(e:AO):Option {t:AO×AO×AO×Pos // e=.IfExp t.1 t.2.1 t.2.2.1 t.2.2.2}:=match e with
 |.IfExp a0 a1 a2 a3=>-⟨(a0,a1,a2,a3),rfl⟩
 |_=>none
def Hi(e:AO):Option {t:AO×AO×List Comprehension×Scope×Pos // e=.DictComp t.1 t.2.1 t.2.2.1 t.2.2.2.1 t.2.2.2.2}:=match e with
 |.DictComp a0 a1 a2 a3 a4=>-⟨(a0,a1,a2,a3,a4),rfl⟩
 |_=>none
def tM(e:AO):Option {t:List (Option AO)×AE×Pos // e=.Dict t.1 t.2.1 t.2.2}:=match e with
 |.Dict a b p=>-⟨(a,b,p),rfl⟩
 |_=>none
def gM(e:AO):Option {t:AE×Nat×Pos // e=.Tuple t.1 t.2.1 t.2.2}:=match e with
 |.Tuple a0 a1 a2=>-⟨(a0,a1,a2),rfl⟩
 |_=>none
def asList(e:AO):Option {t:AE×Pos // e=.List t.1 t.2}:=match e with
 |.List a0 a1=>-⟨(a0,a1),rfl⟩
 |_=>none
def gO(e:AO):Option {t:AO×AO×Pos // e=.Subscript t.1 t.2.1 t.2.2}:=match e with
 |.Subscript a0 a1 a2=>-⟨(a0,a1,a2),rfl⟩
 |_=>none
def tQ(e:AO):Option {t:Option AO×Option AO×Option AO×Pos // e=.Slice t.1 t.2.1 t.2.2.1 t.2.2.2}:=match e with
 |.Slice a0 a1 a2 a3=>-⟨(a0,a1,a2,a3),rfl⟩
 |_=>none
def tR(e:AO):Option {t:AO×AE×List Keyword×Pos // e=.Call t.1 t.2.1 t.2.2.1 t.2.2.2}:=match e with
 |.Call a0 a1 a2 a3=>-⟨(a0,a1,a2,a3),rfl⟩
 |_=>none
def Hj(e:AO):Option {t:AO×Str×Pos // e=.Attribute t.1 t.2.1 t.2.2}:=match e with
 |.Attribute a0 a1 a2=>-⟨(a0,a1,a2),rfl⟩
 |_=>none
def tU(e:AO):Option {t:AO×List Comprehension×Scope×Pos // e=.ListComp t.1 t.2.1 t.2.2.1 t.2.2.2}:=match e with
 |.ListComp a0 a1 a2 a3=>-⟨(a0,a1,a2,a3),rfl⟩
 |_=>none
def Hk(e:Stmt):Option {t:AO×Pos // e=.Expr t.1 t.2}:=match e with
 |.Expr a0 a1=>-⟨(a0,a1),rfl⟩
 |_=>none
def tV(e:Stmt):Option {t:AE×AO×Pos // e=.Assign t.1 t.2.1 t.2.2}:=match e with
 |.Assign a0 a1 a2=>-⟨(a0,a1,a2),rfl⟩
 |_=>none
def Hl(e:Stmt):Option {t:AO×Operator×AO×Pos // e=.AugAssign t.1 t.2.1 t.2.2.1 t.2.2.2}:=match e with
 |.AugAssign a0 a1 a2 a3=>-⟨(a0,a1,a2,a3),rfl⟩
 |_=>none
def akE(e:Stmt):Option {t:Option AO×Option AO×Pos // e=.Raise t.1 t.2.1 t.2.2}:=match e with
 |.Raise a0 a1 a2=>-⟨(a0,a1,a2),rfl⟩
 |_=>none
def akF(e:Stmt):Option {t:AF×List ExceptHandler×AF×AF×Pos // e=.Try t.1 t.2.1 t.2.2.1 t.2.2.2.1 t.2.2.2.2}:=match e with
 |.Try a0 a1 a2 a3 a4=>-⟨(a0,a1,a2,a3,a4),rfl⟩
 |_=>none
def akG(e:ExceptHandler):Option {t:Option AO×Option Str×AF×Pos // e=.ExceptHandler t.1 t.2.1 t.2.2.1 t.2.2.2}:=match e with
 |.ExceptHandler a0 a1 a2 a3=>-⟨(a0,a1,a2,a3),rfl⟩
def yt(e:AO):Option {t:AO×Int×Option AO×Pos // e=.FormattedValue t.1 t.2.1 t.2.2.1 t.2.2.2}:=match e with
 |.FormattedValue a0 a1 a2 a3=>-⟨(a0,a1,a2,a3),rfl⟩
 |_=>none
def ZP(e:AO):Option {t:AE×Pos // e=.JoinedStr t.1 t.2}:=match e with
 |.JoinedStr a0 a1=>-⟨(a0,a1),rfl⟩
 |_=>none
def ZQ(k:Const):Option {x:Str // k=.str x}:=match k with
 |.str x=>-⟨x,rfl⟩
 |_=>none
def akH(b:Bool)(k:Const):Bool:=match k with
 |.bool c=>c==b
 |_=>false
def tW(e:Stmt):Option {t:Option AO×Pos // e=.Return t.1 t.2}:=match e with
 |.Return a0 a1=>-⟨(a0,a1),rfl⟩
 |_=>none
def Hm(e:Stmt):Option {t:AO×AF×AF×Pos // e=.If t.1 t.2.1 t.2.2.1 t.2.2.2}:=match e with
 |.If a0 a1 a2 a3=>-⟨(a0,a1,a2,a3),rfl⟩
 |_=>none
def Hn(e:Stmt):Option {t:AO×AO×AF×AF×Pos // e=.For t.1 t.2.1 t.2.2.1 t.2.2.2.1 t.2.2.2.2}:=match e with
 |.For a0 a1 a2 a3 a4=>-⟨(a0,a1,a2,a3,a4),rfl⟩
 |_=>none
def Ho(e:Stmt):Option {t:AO×AF×AF×Pos // e=.While t.1 t.2.1 t.2.2.1 t.2.2.2}:=match e with
 |.While a0 a1 a2 a3=>-⟨(a0,a1,a2,a3),rfl⟩
 |_=>none
def Hq(e:Stmt):Option {t:Pos // e=.Pass t}:=match e with
 |.Pass a0=>-⟨a0,rfl⟩
 |_=>none
def Hr(e:Stmt):Option {t:Pos // e=.Break t}:=match e with
 |.Break a0=>-⟨a0,rfl⟩
 |_=>none
def Hs(e:Stmt):Option {t:Pos // e=.Continue t}:=match e with
 |.Continue a0=>-⟨a0,rfl⟩
 |_=>none
def one{g:Type}:List g->Option g
 |[a]=>-a
 |_=>none
def three{g:Type}:List g->Option (g×g×g)
 |[x,y,z]=>-(x,y,z)
 |_=>none
def two{g:Type}:List g->Option (g×g)
 |[a,b]=>-(a,b)
 |_=>none
def hdT{g:Type}:List g->Option (g×List g)
 |a::r=>-(a,r)
 |[]=>none
def cQ{g:Type}{l:List g}{a:g}(h:one l=-a):l=[a]:=by
 cases l with
 |nil=>cases h
 |cons x r=>cases r with
  |nil=>cases h;rfl
  |cons _ _=>cases h
def lZ{g:Type}{l:List g}{a:g×g}(h:two l=-a):l=[a.1,a.2]:=by
 cases l with
 |nil=>cases h
 |cons x r=>cases r with
  |nil=>cases h
  |cons y r=>cases r with
   |nil=>cases h;rfl
   |cons _ _=>cases h
def Ht{g:Type}{l:List g}{a:g×List g}(h:hdT l=-a):l=a.1::a.2:=by
 cases l with
 |nil=>cases h
 |cons x r=>cases h;rfl
def aW{g:Type}{o:Option g}{p:g->Bool}(h:o.any p=true):∃t,o=-t/\p t=true:=by
 cases o with
 |none=>cases h
 |some t=>exact⟨t,rfl,h⟩
def yu:UnaryOp->Bool
 |.USub=>true
 |_=>false
def mj:UnaryOp->Bool
 |.Not=>true
 |_=>false
def ZR{o:UnaryOp}(h:yu o=true):o=.USub:=by cases o<;>first|rfl|cases h
def Hu{o:UnaryOp}(h:mj o=true):o=.Not:=by cases o<;>first|rfl|cases h
def bI(e:AO):Option (Str×Pos×AE×Pos):=(tR e).bind λt=>(asName t.1.1).bind λn=>match t.1.2.2.1 with |[]=>-(n.1.1,n.1.2,t.1.2.1,t.1.2.2.2)|_::_=>none
def aA{g:Type}{q:g->Prop}(o:Option {t:g // q t})(P:g->Bool):Bool:=match o with|some t=>P t.1|none=>false
def aO{g:Type}{q:g->Prop}{o:Option {t:g // q t}}{P:g->Bool}(h:aA o P=true):∃t,q t/\P t=true:=by
 cases o with
 |none=>cases h
 |some t=>exact⟨t.1,t.2,h⟩
def Hv{g q:Type}{o:Option g}{f:g->Option q}{b:q}(h:o.bind f=-b):∃t,o=-t/\f t=-b:=by
 cases o with
 |none=>cases h
 |some t=>exact⟨t,rfl,h⟩
def dW{e:AO}{t:Str×Pos×AE×Pos}(h:bI e=-t):e=.Call (.Name t.1 t.2.1) t.2.2.1 [] t.2.2.2:=by
 let(((f,as,ks,p),g),_,h):=Hv h;let(((x,q),hn),_,h):=Hv h;dsimp only at h hn g;cases ks with
 |nil=>cases h;rw[g,hn]
 |cons _ _=>cases h
def akI (e:AO):Option (Str×Pos×AO×AO×Pos×Pos):=(tR e).bind λt=>(asName t.1.1).bind λn=>(one t.1.2.1).bind λv=>(one t.1.2.2.1).bind λg=>if g.arg=-(⇑"start") then some (n.1.1,n.1.2,v,g.value,g.pos,t.1.2.2.2) else none
def mq(e:AO):Bool:=(lY e).isSome
def Hw:Ex->Bool
 |.frz _=>false
 |_=>true
def tX:Tx->Bool
 |.yes=>true
 |_=>false
mutual
def bN(c:CT):Tg->AO->Bool
 |.nm i,e=>aA (asName e) λt=>(c.N[i]?==-t.1)&&c.sto t.1
 |.tp ts,e=>aA (gM e) λt=>cR c ts t.1
def cR(c:CT):Tgs->AE->Bool
 |.nil,es=>es.isEmpty
 |.cons t r,es=>match es with
  |e::es=>bN c t e&&cR c r es
  |[]=>false
end
def Hx(e:AO):Bool:=aA (lX e) λt=>aA (ZQ t.1) λx=>decide (x⁻¹<=1000)
def unF(e:AO):AO:=match yt e with|some t=>t.1.1|none=>e
def ZS:Ex->Bool
 |.cst (.str _)=>true
 |_=>false
def ZV:Exs->AE->Bool
 |.cons x xs,p::ps=>(match yt p with|some t=>decide (t.1.2.1=Neg.neg 1)&&t.1.2.2.1.isNone|none=>ZS x)&&ZV xs ps
 |.nil,ps=>ps.isEmpty
 |_,[]=>false
mutual
def aa(c:CT):Ex->AO->Bool
 |.var i,e=>aA (asName e) λt=>(c.N[i]?==-t.1)&&iQ (c.kd.lookup t.1)&&okN t.1
 |.cst d,e=>aA (lX e) λt=>iR d t.1
 |.glb x d,e=>aA (asName e) λt=>t.1==⇑x&&c.glo t.1&&c.cn.any (λp=>p.1==x&&sEq p.2 d)
 |.bin op _ a b,e=>aA (Hg e) λt=>t.2.1==op&&aa c a t.1&&aa c b t.2.2.1
 |.neg a,e=>aA (jT e) λt=>yu t.1&&aa c a t.2.1
 |.cmp op a b,e=>aA (lY e) λt=>(one t.2.1).any λo=>(one t.2.2.1).any λr=>o==op&&aa c a t.1&&aa c b r
 |.chn op op' a b d,e=>aA (lY e) λt=>(two t.2.1).any λo=>(two t.2.2.1).any λr=>o.1==op&&o.2==op'&&aa c a t.1&&aa c b r.1&&aa c d r.2
 |.not a,e=>aA (jT e) λt=>mj t.1&&aa c a t.2.1
 |.boo isAnd x es,e=>aA (tH e) λt=>(hdT t.2.1).any λv=>t.1==(if isAnd then .And else .Or)&&aa c x v.1&&aN c es v.2
 |.ife t a b,e=>aA (Hh e) λu=>bJ c t u.1&&aa c a u.2.1&&aa c b u.2.2.1
 |.tup es,e=>aA (gM e) λt=>aN c es t.1
 |.lst _ es,e=>aA (asList e) λt=>aN c es t.1
 |.idx a i,e=>aA (gO e) λt=>aa c a t.1&&aa c i t.2.1
 |.slc _ a lo hi,e=>aA (gO e) λt=>aA (tQ t.2.1) λs=>s.2.2.1.isNone&&(aa c a t.1&&gn c lo s.1&&gn c hi s.2.1)
 |.rvs _ a s,e=>aA (gO e) λt=>aA (tQ t.2.1) λu=>u.1.isNone&&u.2.1.isNone&&(u.2.2.1.any λst=>aa c a t.1&&aa c s st)
 |.call f es,e=>(bI e).any λt=>t.1==⇑f&&c.glo t.1&&(c.fs.any λp=>p.1==f&&p.2==t.2.2.1⁻¹)&&!t.2.2.1.isEmpty&&aN c es t.2.2.1
 |.bcl f es,e=>(bI e).any λt=>t.1==⇑f.name&&yq f&&c.glo t.1&&c.bt.contains f.name&&!t.2.2.1.isEmpty&&aN c es t.2.2.1
 |.lcl _ f es,e=>(bI e).any λt=>t.1==⇑f.name&&yr f&&c.glo t.1&&c.bt.contains f.name&&!t.2.2.1.isEmpty&&aN c es t.2.2.1
 |.isi a t,e=>(bI e).any λu=>(two u.2.2.1).any λv=>aA (asName v.2) λy=>u.1==⇑"isinstance"&&c.glo u.1&&c.bt.contains "isinstance"&&aa c a v.1&&y.1==⇑t&&c.glo y.1&&c.bt.contains t&&gh t
 |.rgl _ a,e=>(bI e).any λt=>(one t.2.2.1).any λe1=>(bI e1).any λu=>(one u.2.2.1).any λe2=>t.1==⇑"list"&&c.glo t.1&&c.bt.contains "list"&&u.1==⇑"range"&&c.glo u.1&&c.bt.contains "range"&&aa c a e2
 |.lns a,e=>(bI e).any λt=>(one t.2.2.1).any λe1=>(bI e1).any λu=>(one u.2.2.1).any λe2=>t.1==⇑"len"&&c.glo t.1&&c.bt.contains "len"&&u.1==⇑"set"&&c.glo u.1&&c.bt.contains "set"&&aa c a e2
 |.rgt a,e=>(bI e).any λt=>(one t.2.2.1).any λe1=>(bI e1).any λu=>(one u.2.2.1).any λe2=>t.1==⇑"tuple"&&c.glo t.1&&c.bt.contains "tuple"&&u.1==⇑"range"&&c.glo u.1&&c.bt.contains "range"&&aa c a e2
 |.mth m o es,e=>aA (tR e) λt=>aA (Hj t.1) λv=>t.2.2.1.isEmpty&&(v.2.1==⇑m.name&&aa c o v.1&&!tD v.1&&(v.2.2.endLine==t.2.2.2.line)&&decide (t.2.1⁻¹<29)&&!t.2.1.isEmpty&&aN c es t.2.1)
 |.comp _ elt tg it cond N cap,e=>aA (tU e) λt=>(one t.2.1).any λg=>decide (g.is_async=0)&&bO c it g.target g.iter&&eZ c.N t.2.2.1 (N.map Str.ofString) cap&&eF c t.2.2.1&&dJ (N.map Str.ofString) &&
    bN (c.comp (N.map Str.ofString) t.2.2.1) tg g.target&&((tX cond&&g.ifs.isEmpty)||(one g.ifs).any λf=>bJ (c.comp (N.map Str.ofString) t.2.2.1) cond f)&&aa (c.comp (N.map Str.ofString) t.2.2.1) elt t.1
 |.frz a,e=>aa c a e
 |.dnw,e=>aA (tM e) λt=>t.1.isEmpty&&t.2.1.isEmpty
 |.dcT a,e=>aA (Hi e) λt=>(one t.2.2.1).any λg=>decide (g.is_async=0)&&g.ifs.isEmpty&&aa c a g.iter&&eF c t.2.2.2.1&&(aA (asName g.target) λy=>t.2.2.2.1.names.lookup y.1==-NameKind.local&&okN y.1&&aA (asName t.1) λz=>z.1==y.1)&&aA (lX t.2.1) λk=>iR (.bl true) k.1
 |.cm2 elt t1 i1 t2 i2 cond N cap,e=>aA (tU e) λt=>(two t.2.1).any λg=>decide (g.1.is_async=0)&&decide (g.2.is_async=0)&&g.1.ifs.isEmpty&&bO c i1 g.1.target g.1.iter&&eZ c.N t.2.2.1 (N.map Str.ofString) cap&&eF c t.2.2.1&&dJ (N.map Str.ofString)&&bN (c.comp (N.map Str.ofString) t.2.2.1) t1 g.1.target&&bO (c.comp (N.map Str.ofString) t.2.2.1) i2 g.2.target g.2.iter&&bN (c.comp (N.map Str.ofString) t.2.2.1) t2 g.2.target&&(tX cond&&g.2.ifs.isEmpty||(one g.2.ifs).any λf=>bJ (c.comp (N.map Str.ofString) t.2.2.1) cond f)&&aa (c.comp (N.map Str.ofString) t.2.2.1) elt t.1
 |.dp1 a b,e=>aA (tM e) λt=>(one t.1).any λk=>k.any λk=>(one t.2.1).any λv=>aa c a k&&aa c b v
def bJ(c:CT):Tx->AO->Bool
 |.val x,e=>(iT e||mq e)&&aa c x e&&Hw x
 |.not t,e=>aA (jT e) λu=>mj u.1&&bJ c t u.2.1
 |.boo isAnd t ts,e=>aA (tH e) λu=>(hdT u.2.1).any λv=>u.1==(if isAnd then .And else .Or)&&bJ c t v.1&&iU c ts v.2
 |.yes,_=>false
def iU(c:CT):Txs->AE->Bool
 |.nil,es=>es.isEmpty
 |.cons t r,es=>match es with
  |e::es=>bJ c t e&&iU c r es
  |[]=>false
def aN(c:CT):Exs->AE->Bool
 |.nil,es=>es.isEmpty
 |.cons t r,es=>match es with
  |e::es=>aa c t e&&aN c r es
  |[]=>false
def gn(c:CT):Ox->Option AO->Bool
 |.no,e=>e.isNone
 |.ob x,e=>match e with
  |some e=>aa c x e
  |none=>false
def bO(c:CT):It'->AO->AO->Bool
 |.seq x,_,e=>aa c x e
 |.rng a,_,e=>(bI e).any λt=>(one t.2.2.1).any λv=>t.1==⇑"range"&&c.glo t.1&&c.bt.contains "range"&&aa c a v
 |.enm a,tg,e=>aA (gM tg) λz=>(bI e).any λt=>(one t.2.2.1).any λv=>t.1==⇑"enumerate"&&c.glo t.1&&c.bt.contains "enumerate"&&aa c a v
 |.zip a b,tg,e=>aA (gM tg) λz=>(bI e).any λt=>(two t.2.2.1).any λv=>t.1==⇑"zip"&&c.glo t.1&&c.bt.contains "zip"&&aa c a v.1&&aa c b v.2
end
def gP(c:CT)(cond:Tx)(g:AE):Bool:=(tX cond&&g.isEmpty)||(one g).any λf=>bJ c cond f
def Hy:Ex->Bool
 |.comp ..=>true
 |.cm2 ..=>true
 |.dcT _=>true
 |_=>false
def Hz:AO->Bool
 |.Tuple ..=>true
 |_=>false
def yw(g:Tg)(x:Ex)(e:AO):Bool:=match g with |.nm _=>!dU e||Hy x |.tp _=>!Hz e&&!dU e
def yx(c:CT):Exs->AE->Bool
 |es,[]=>(match es with |.nil=>true|_=>false)
 |es,p::ps=>match Hx p with
  |true=>yx c es ps
  |false=>(match es with |.cons x r=>(aA (yt p) λt=>decide (t.2.1=Neg.neg 1)&&t.2.2.1.isNone&&aa c x t.1)&&yx c r ps |.nil=>false)
def akJ(c:CT)(es:Exs)(e:AO):Bool:=(match es with |.nil=>Hx e|_=>false)||aA (ZP e) λt=>decide (2<=t.1⁻¹)&&decide (t.1⁻¹<=50)&&yx c es t.1
mutual
def bQ(c:CT):Sx->Stmt->Bool
 |.exp x,st=>aA (Hk st) λt=>!dU t.1&&aa c x t.1
 |.asg g x,st=>aA (tV st) λt=>(one t.1).any λtg=>bN c g tg&&aa c x t.2.1&&yw g x t.2.1
 |.set o i x,st=>aA (tV st) λt=>(one t.1).any λtg=>aA (gO tg) λu=>aa c o u.1&&aa c i u.2.1&&aa c x t.2.1&&!dU t.2.1
 |.aug i op x,st=>aA (Hl st) λt=>aA (asName t.1) λy=>t.2.1==op&&(c.N[i]?==-y.1)&&c.sto y.1&&okN y.1&&aa c x t.2.2.1
 |.ret x,st=>aA (tW st) λt=>t.1.any λe=>aa c x e
 |.rtn,st=>aA (tW st) λt=>t.1.isNone
 |.ite t a b,st=>aA (Hm st) λu=>bJ c t u.1&&aD c a u.2.1&&aD c b u.2.2.1
 |.for_ g it b,st=>aA (Hn st) λt=>t.2.2.2.1.isEmpty&&(bN c g t.1&&bO c it t.1 t.2.1&&aD c b t.2.2.1)
 |.whl t b,st=>aA (Ho st) λu=>u.2.2.1.isEmpty&&(bJ c t u.1&&aD c b u.2.1)
 |.pas,st=>(Hq st).isSome
 |.brk,st=>(Hr st).isSome
 |.cnt,st=>(Hs st).isSome
 |.nev,_=>true
def aD(c:CT):Sxs->AF->Bool
 |.nil,es=>es.isEmpty
 |.cons t r,es=>match es with
  |e::es=>bQ c t e&&aD c r es
  |[]=>false
end
def yz{c:CT}{i:Nat}{e:AO}(h:bN c (.nm i) e=true):∃x p,e=.Name x p/\((c.N[i]?==-x)&&c.sto x)=true:=by have h:(aA (asName e) λt=>(c.N[i]?==-t.1)&&c.sto t.1)=true:=h;let(t,g,h):=aO h;exact⟨_,_,g,h⟩
def yC{c:CT}{ts:Tgs}{e:AO}(h:bN c (.tp ts) e=true):∃es k p,e=.Tuple es k p/\(cR c ts es)=true:=by have h:(aA (gM e) λt=>cR c ts t.1)=true:=h;let(t,g,h):=aO h;exact⟨_,_,_,g,h⟩
def HB{c:CT}{i:Nat}{e:AO}(h:aa c (.var i) e=true):∃x p,e=.Name x p/\((c.N[i]?==-x)&&iQ (c.kd.lookup x)&&okN x)=true:=by have h:(aA (asName e) λt=>(c.N[i]?==-t.1)&&iQ (c.kd.lookup t.1)&&okN t.1)=true:=h;let(t,g,h):=aO h;exact⟨_,_,g,h⟩
def HF{c:CT}{d:D}{e:AO}(h:aa c (.cst d) e=true):∃k n p,e=.Constant k n p/\(iR d k)=true:=by have h:(aA (lX e) λt=>iR d t.1)=true:=h;let(t,g,h):=aO h;exact⟨_,_,_,g,h⟩
def HH{c:CT}{x:AL}{d:D}{e:AO}(h:aa c (.glb x d) e=true):∃y p,e=.Name y p/\(y==⇑x&&c.glo y&&c.cn.any (λp=>p.1==x&&sEq p.2 d))=true:=by have h:(aA (asName e) λt=>t.1==⇑x&&c.glo t.1&&c.cn.any (λp=>p.1==x&&sEq p.2 d))=true:=h;let(t,g,h):=aO h;exact⟨_,_,g,h⟩
def HJ{c:CT}{op:Operator}{fz:Bool}{a b:Ex}{e:AO}(h:aa c (.bin op fz a b) e=true):∃l o r p,e=.BinOp l o r p/\(o==op&&aa c a l&&aa c b r)=true:=by have h:(aA (Hg e) λt=>t.2.1==op&&aa c a t.1&&aa c b t.2.2.1)=true:=h;let(t,g,h):=aO h;exact⟨_,_,_,_,g,h⟩
def HN{c:CT}{a:Ex}{e:AO}(h:aa c (.neg a) e=true):∃x p,e=.UnaryOp .USub x p/\(aa c a x)=true:=by have h:(aA (jT e) λt=>yu t.1&&aa c a t.2.1)=true:=h;let(t,g,h):=aO h;rw[af]at h;exact⟨_,_,by rw[g,ZR h.1],h.2⟩
def HQ{c:CT}{a:Ex}{e:AO}(h:aa c (.not a) e=true):∃x p,e=.UnaryOp .Not x p/\(aa c a x)=true:=by have h:(aA (jT e) λt=>mj t.1&&aa c a t.2.1)=true:=h;let(t,g,h):=aO h;rw[af]at h;exact⟨_,_,by rw[g,Hu h.1],h.2⟩
def HR{c:CT}{op:CmpOp}{a b:Ex}{e:AO}(h:aa c (.cmp op a b) e=true):∃l o r p,e=.Compare l [o] [r] p/\(o==op&&aa c a l&&aa c b r)=true:=by have h:(aA (lY e) λt=>(one t.2.1).any λo=>(one t.2.2.1).any λr=>o==op&&aa c a t.1&&aa c b r)=true:=h;let(t,z,h):=aO h;let(o,g,h):=aW h;let(r,q,h):=aW h;exact⟨_,_,_,_,by rw[z,cQ g,cQ q],h⟩
def HS{c:CT}{op g:CmpOp}{a b d:Ex}{e:AO}(h:aa c (.chn op g a b d) e=true):∃l o o' m r p,e=.Compare l [o,o'] [m,r] p/\(o==op&&o'==g&&aa c a l&&aa c b m&&aa c d r)=true:=by have h:(aA (lY e) λt=>(two t.2.1).any λo=>(two t.2.2.1).any λr=>o.1==op&&o.2==g&&aa c a t.1&&aa c b r.1&&aa c d r.2)=true:=h;let(t,J,h):=aO h;let(o,q,h):=aW h;let(r,z,h):=aW h;exact⟨_,_,_,_,_,_,by rw[J,lZ q,lZ z],h⟩
def HW{c:CT}{isAnd:Bool}{x:Ex}{es:Exs}{e:AO}(h:aa c (.boo isAnd x es) e=true):∃op v vs p,e=.BoolOp op (v::vs) p/\(op==(if isAnd then .And else .Or)&&aa c x v&&aN c es vs)=true:=by have h:(aA (tH e) λt=>(hdT t.2.1).any λv=>t.1==(if isAnd then .And else .Or)&&aa c x v.1&&aN c es v.2)=true:=h;let(t,g,h):=aO h;let(v,q,h):=aW h;exact⟨_,_,_,_,by rw[g,Ht q],h⟩
def HX{c:CT}{t:Tx}{a b:Ex}{e:AO}(h:aa c (.ife t a b) e=true):∃t' g q p,e=.IfExp t' g q p/\(bJ c t t'&&aa c a g&&aa c b q)=true:=by have h:(aA (Hh e) λu=>bJ c t u.1&&aa c a u.2.1&&aa c b u.2.2.1)=true:=h;let(u,z,h):=aO h;exact⟨_,_,_,_,z,h⟩
def HY{c:CT}{es:Exs}{e:AO}(h:aa c (.tup es) e=true):∃vs k p,e=.Tuple vs k p/\(aN c es vs)=true:=by have h:(aA (gM e) λt=>aN c es t.1)=true:=h;let(t,g,h):=aO h;exact⟨_,_,_,g,h⟩
def H9{c:CT}{fz:Bool}{es:Exs}{e:AO}(h:aa c (.lst fz es) e=true):∃vs p,e=.List vs p/\(aN c es vs)=true:=by have h:(aA (asList e) λt=>aN c es t.1)=true:=h;let(t,g,h):=aO h;exact⟨_,_,g,h⟩
def Ia{c:CT}{a i:Ex}{e:AO}(h:aa c (.idx a i) e=true):∃v s p,e=.Subscript v s p/\(aa c a v&&aa c i s)=true:=by have h:(aA (gO e) λt=>aa c a t.1&&aa c i t.2.1)=true:=h;let(t,g,h):=aO h;exact⟨_,_,_,g,h⟩
def Ib{c:CT}{e:AO}(h:aa c .dnw e=true):∃p,e=.Dict [] [] p:=by have h:(aA (tM e) λt=>t.1.isEmpty&&t.2.1.isEmpty)=true:=h;let(t,g,h):=aO h;rw[af,fg,fg]at h;exact⟨t.2.2,by rw[g,h.1,h.2]⟩
def yD{c:CT}{a:Ex}{e:AO}(h:aa c (.dcT a) e=true):∃x pk j pv px iter scope pos,e=.DictComp (.Name x pk) (.Constant (.bool true) j pv) [⟨.Name x px,iter,[],0⟩] scope pos/\aa c a iter=true/\eF c scope=true/\scope.names.lookup x=-NameKind.local/\okN x=true:=by
 have h:(aA (Hi e) λt=>(one t.2.2.1).any λg=>decide (g.is_async=0)&&g.ifs.isEmpty&&aa c a g.iter&&eF c t.2.2.2.1&&(aA (asName g.target) λy=>t.2.2.2.1.names.lookup y.1==-NameKind.local&&okN y.1&&aA (asName t.1) λz=>z.1==y.1)&&aA (lX t.2.1) λk=>iR (.bl true) k.1)=true:=h;let((kx,vx,gs,scope,pos),ht,h):=aO h;let((tg',iter,ifs,as),Y,h):=aW h;simp only[af,ce,fg]at h;let(((((h1,h2),N),O),J),q):=h;let(y,hy,J):=aO J;simp only[af,a8]at J;let((U,h8),L):=J;let(z,hz,L):=aO L;rw[a8]at L;let((k,j,p),hk,q):=aO q;have M:k=.bool true:=by cases k<;>first | (cases q;done)|skip;rw[show iR (.bl true) (.bool _)=(true==_) from rfl,a8]at q;rw[<-q]
 dsimp only at ht Y hy hz hk N O U;subst h1 h2;exact⟨y.1,z.2,j,p,y.2,iter,scope,pos,by rw[ht];(try dsimp only);rw[cQ Y,hy,hz,hk,M,L],N,O,U,h8⟩
def Ie{c:CT}{a b:Ex}{e:AO}(h:aa c (.dp1 a b) e=true):∃k v p,e=.Dict [-k] [v] p/\(aa c a k&&aa c b v)=true:=by have h:(aA (tM e) λt=>(one t.1).any λk=>k.any λk=>(one t.2.1).any λv=>aa c a k&&aa c b v)=true:=h;let(t,z,h):=aO h;let(k,q,h):=aW h;let(k',g,h):=aW h;let(v,J,h):=aW h;exact⟨k',v,t.2.2,by rw[z,cQ q,cQ J,g],h⟩
def Ig{c:CT}{fz:Bool}{a:Ex}{lo hi:Ox}{e:AO}(h:aa c (.slc fz a lo hi) e=true):∃v l u q p,e=.Subscript v (.Slice l u none q) p/\(aa c a v&&gn c lo l&&gn c hi u)=true:=by have h:(aA (gO e) λt=>aA (tQ t.2.1) λs=>s.2.2.1.isNone&&(aa c a t.1&&gn c lo s.1&&gn c hi s.2.1))=true:=h;let(t,g,h):=aO h;let(s,hs,h):=aO h;rw[af,fi]at h;exact⟨_,_,_,_,_,by rw[g,hs,h.1],h.2⟩
def Ih{c:CT}{fz:Bool}{a s:Ex}{e:AO}(h:aa c (.rvs fz a s) e=true):∃v st J p,e=.Subscript v (.Slice none none (-st) J) p/\(aa c a v&&aa c s st)=true:=by have h:(aA (gO e) λt=>aA (tQ t.2.1) λu=>u.1.isNone&&u.2.1.isNone&&(u.2.2.1.any λst=>aa c a t.1&&aa c s st))=true:=h;let(t,q,h):=aO h;let(u,z,h):=aO h;rw[af,af,fi,fi]at h;let(st,g,h'):=aW h.2;exact⟨_,_,_,_,by rw[q,z,h.1.1,h.1.2,g],h'⟩
def Ii{c:CT}{f:AL}{es:Exs}{e:AO}(h:aa c (.call f es) e=true):∃x p args pos,e=.Call (.Name x p) args [] pos/\(x==⇑f&&c.glo x&&(c.fs.any λp=>p.1==f&&p.2==args⁻¹)&&!args.isEmpty&&aN c es args)=true:=by have h:((bI e).any λt=>t.1==⇑f&&c.glo t.1&&(c.fs.any λp=>p.1==f&&p.2==t.2.2.1⁻¹)&&!t.2.2.1.isEmpty&&aN c es t.2.2.1)=true:=h;let(t,g,h):=aW h;exact⟨_,_,_,_,dW g,h⟩
def Ij{c:CT}{f:Bf}{es:Exs}{e:AO}(h:aa c (.bcl f es) e=true):∃x p args pos,e=.Call (.Name x p) args [] pos/\(x==⇑f.name&&yq f&&c.glo x&&c.bt.contains f.name&&!args.isEmpty&&aN c es args)=true:=by have h:((bI e).any λt=>t.1==⇑f.name&&yq f&&c.glo t.1&&c.bt.contains f.name&&!t.2.2.1.isEmpty&&aN c es t.2.2.1)=true:=h;let(t,g,h):=aW h;exact⟨_,_,_,_,dW g,h⟩
def Ik{c:CT}{fz:Bool}{f:Lf}{es:Exs}{e:AO}(h:aa c (.lcl fz f es) e=true):∃x p args pos,e=.Call (.Name x p) args [] pos/\(x==⇑f.name&&yr f&&c.glo x&&c.bt.contains f.name&&!args.isEmpty&&aN c es args)=true:=by have h:((bI e).any λt=>t.1==⇑f.name&&yr f&&c.glo t.1&&c.bt.contains f.name&&!t.2.2.1.isEmpty&&aN c es t.2.2.1)=true:=h;let(t,g,h):=aW h;exact⟨_,_,_,_,dW g,h⟩
def Il {c:CT} {a:Ex} {t:AL} {e:AO} (h:aa c (.isi a t) e=true):∃x p v y J pos,e=.Call (.Name x p) [v,.Name y J] [] pos/\(x==⇑"isinstance"&&c.glo x&&c.bt.contains "isinstance"&&aa c a v&&y==⇑t&&c.glo y&&c.bt.contains t&&gh t)=true:=by have h:((bI e).any λu=>(two u.2.2.1).any λv=>aA (asName v.2) λy=>u.1==⇑"isinstance"&&c.glo u.1&&c.bt.contains "isinstance"&&aa c a v.1&&y.1==⇑t&&c.glo y.1&&c.bt.contains t&&gh t)=true:=h;let(u,g,h):=aW h;let(v,q,h):=aW h;let(y,z,h):=aO h;exact⟨_,_,_,_,_,_,by rw[dW g,lZ q,z],h⟩
def Im {c:CT} {fz:Bool} {a:Ex} {e:AO} (h:aa c (.rgl fz a) e=true):∃x p L U g q pos,e=.Call (.Name x p) [.Call (.Name L U) [g] [] q] [] pos/\(x==⇑"list"&&c.glo x&&c.bt.contains "list"&&L==⇑"range"&&c.glo L&&c.bt.contains "range"&&aa c a g)=true:=by have h:((bI e).any λt=>(one t.2.2.1).any λM=>(bI M).any λu=>(one u.2.2.1).any λg=>t.1==⇑"list"&&c.glo t.1&&c.bt.contains "list"&&u.1==⇑"range"&&c.glo u.1&&c.bt.contains "range"&&aa c a g)=true:=h;let(t,N,h):=aW h;let(M,z,h):=aW h;let(u,O,h):=aW h;let(g,J,h):=aW h;exact⟨_,_,_,_,_,_,_,by rw[dW N,cQ z,dW O,cQ J],h⟩
def Io {c:CT} {a:Ex} {e:AO} (h:aa c (.lns a) e=true):∃x p L U g q pos,e=.Call (.Name x p) [.Call (.Name L U) [g] [] q] [] pos/\(x==⇑"len"&&c.glo x&&c.bt.contains "len"&&L==⇑"set"&&c.glo L&&c.bt.contains "set"&&aa c a g)=true:=by have h:((bI e).any λt=>(one t.2.2.1).any λM=>(bI M).any λu=>(one u.2.2.1).any λg=>t.1==⇑"len"&&c.glo t.1&&c.bt.contains "len"&&u.1==⇑"set"&&c.glo u.1&&c.bt.contains "set"&&aa c a g)=true:=h;let(t,N,h):=aW h;let(M,z,h):=aW h;let(u,O,h):=aW h;let(g,J,h):=aW h;exact⟨_,_,_,_,_,_,_,by rw[dW N,cQ z,dW O,cQ J],h⟩
def Ip {c:CT} {a:Ex} {e:AO} (h:aa c (.rgt a) e=true):∃x p L U g q pos,e=.Call (.Name x p) [.Call (.Name L U) [g] [] q] [] pos/\(x==⇑"tuple"&&c.glo x&&c.bt.contains "tuple"&&L==⇑"range"&&c.glo L&&c.bt.contains "range"&&aa c a g)=true:=by have h:((bI e).any λt=>(one t.2.2.1).any λM=>(bI M).any λu=>(one u.2.2.1).any λg=>t.1==⇑"tuple"&&c.glo t.1&&c.bt.contains "tuple"&&u.1==⇑"range"&&c.glo u.1&&c.bt.contains "range"&&aa c a g)=true:=h;let(t,N,h):=aW h;let(M,z,h):=aW h;let(u,O,h):=aW h;let(g,J,h):=aW h;exact⟨_,_,_,_,_,_,_,by rw[dW N,cQ z,dW O,cQ J],h⟩
def Ir{c:CT}{m:Mf}{o:Ex}{es:Exs}{e:AO}(h:aa c (.mth m o es) e=true):∃v x apos args cpos,e=.Call (.Attribute v x apos) args [] cpos/\(x==⇑m.name&&aa c o v&&!tD v&&(apos.endLine==cpos.line)&&decide (args⁻¹<29)&&!args.isEmpty&&aN c es args)=true:=by have h:(aA (tR e) λt=>aA (Hj t.1) λv=>t.2.2.1.isEmpty&&(v.2.1==⇑m.name&&aa c o v.1&&!tD v.1&&(v.2.2.endLine==t.2.2.2.line)&&decide (t.2.1⁻¹<29)&&!t.2.1.isEmpty&&aN c es t.2.1))=true:=h;let(t,g,h):=aO h;let(v,q,h):=aO h;rw[af,fg]at h;exact⟨_,_,_,_,_,by rw[g,q,h.1],h.2⟩
def Iu{c:CT}{fz:Bool}{elt:Ex}{tg:Tg}{it:It'}{cond:Tx}{N:List AL}{cap:List (Option Nat)}{e:AO}(h:aa c (.comp fz elt tg it cond N cap) e=true):∃J q iter z as scope pos,e=.ListComp J [⟨q,iter,z,as⟩] scope pos/\(decide (as=0)&&bO c it q iter&&eZ c.N scope (N.map Str.ofString) cap&&eF c scope&&dJ (N.map Str.ofString)&&bN (c.comp (N.map Str.ofString) scope) tg q&&gP (c.comp (N.map Str.ofString) scope) cond z&&aa (c.comp (N.map Str.ofString) scope) elt J)=true:=by have h:(aA (tU e) λt=>(one t.2.1).any λg=>decide (g.is_async=0)&&bO c it g.target g.iter&&eZ c.N t.2.2.1 (N.map Str.ofString) cap&&eF c t.2.2.1&&dJ (N.map Str.ofString)&&bN (c.comp (N.map Str.ofString) t.2.2.1) tg g.target&&((tX cond&&g.ifs.isEmpty)||(one g.ifs).any λf=>bJ (c.comp (N.map Str.ofString) t.2.2.1) cond f)&&aa (c.comp (N.map Str.ofString) t.2.2.1) elt t.1)=true:=h;let(t,M,h):=aO h;let((q,iter,z,as),L,h):=aW h;exact⟨t.1,q,iter,z,as,t.2.2.1,t.2.2.2,(M).trans (by rw[cQ L]),h⟩
def yE{c:CT}{elt:Ex}{t1 t2:Tg}{U Y:It'}{cond:Tx}{N:List AL}{cap:List (Option Nat)}{e:AO}(h:aa c (.cm2 elt t1 U t2 Y cond N cap) e=true):∃q z M J O L scope pos,e=.ListComp q [⟨z,M,[],0⟩,⟨J,O,L,0⟩] scope pos/\
  (bO c U z M=true/\eZ c.N scope (N.map Str.ofString) cap=true/\eF c scope=true/\dJ (N.map Str.ofString)=true/\bN (c.comp (N.map Str.ofString) scope) t1 z=true/\bO (c.comp (N.map Str.ofString) scope) Y J O=true/\bN (c.comp (N.map Str.ofString) scope) t2 J=true/\gP (c.comp (N.map Str.ofString) scope) cond L=true/\aa (c.comp (N.map Str.ofString) scope) elt q=true):=by
 have h:(aA (tU e) λt=>(two t.2.1).any λg=>decide (g.1.is_async=0)&&decide (g.2.is_async=0)&&g.1.ifs.isEmpty&&bO c U g.1.target g.1.iter&&eZ c.N t.2.2.1 (N.map Str.ofString) cap&&eF c t.2.2.1&&dJ (N.map Str.ofString)&&bN (c.comp (N.map Str.ofString) t.2.2.1) t1 g.1.target&&bO (c.comp (N.map Str.ofString) t.2.2.1) Y g.2.target g.2.iter&&bN (c.comp (N.map Str.ofString) t.2.2.1) t2 g.2.target&&gP (c.comp (N.map Str.ofString) t.2.2.1) cond g.2.ifs&&aa (c.comp (N.map Str.ofString) t.2.2.1) elt t.1)=true:=h;let(t,ht,h):=aO h;let(((z,M,f1,z1),(J,O,f2,z2)),hg,h):=aW h;simp only[af,ce,fg,and_assoc]at h;let(rfl,rfl,rfl,h):=h;exact⟨t.1,z,M,J,O,f2,t.2.2.1,t.2.2.2,(ht).trans (by rw[lZ hg]),h⟩
def ZW{c:CT}{t:Tx}{e:AO}(h:bJ c (.not t) e=true):∃x p,e=.UnaryOp .Not x p/\(bJ c t x)=true:=by have h:(aA (jT e) λu=>mj u.1&&bJ c t u.2.1)=true:=h;let(u,g,h):=aO h;rw[af]at h;exact⟨_,_,by rw[g,Hu h.1],h.2⟩
def ZX{c:CT}{isAnd:Bool}{x:Tx}{es:Txs}{e:AO}(h:bJ c (.boo isAnd x es) e=true):∃op v vs p,e=.BoolOp op (v::vs) p/\(op==(if isAnd then .And else .Or)&&bJ c x v&&iU c es vs)=true:=by have h:(aA (tH e) λu=>(hdT u.2.1).any λv=>u.1==(if isAnd then .And else .Or)&&bJ c x v.1&&iU c es v.2)=true:=h;let(t,g,h):=aO h;let(v,q,h):=aW h;exact⟨_,_,_,_,by rw[g,Ht q],h⟩
def Iv {c:CT} {a:Ex} {tg e:AO} (h:bO c (.rng a) tg e=true):∃x p v pos,e=.Call (.Name x p) [v] [] pos/\(x==⇑"range"&&c.glo x&&c.bt.contains "range"&&aa c a v)=true:=by have h:((bI e).any λt=>(one t.2.2.1).any λv=>t.1==⇑"range"&&c.glo t.1&&c.bt.contains "range"&&aa c a v)=true:=h;let(t,g,h):=aW h;let(v,q,h):=aW h;exact⟨_,_,_,_,by rw[dW g,cQ q],h⟩
def Iw {c:CT} {a:Ex} {tg e:AO} (h:bO c (.enm a) tg e=true):∃ts k p0 x p v pos,tg=.Tuple ts k p0/\e=.Call (.Name x p) [v] [] pos/\(x==⇑"enumerate"&&c.glo x&&c.bt.contains "enumerate"&&aa c a v)=true:=by have h:(aA (gM tg) λy=>(bI e).any λt=>(one t.2.2.1).any λv=>t.1==⇑"enumerate"&&c.glo t.1&&c.bt.contains "enumerate"&&aa c a v)=true:=h;let(g,q,h):=aO h;let(t,z,h):=aW h;let(v,J,h):=aW h;exact⟨_,_,_,_,_,_,_,q,by rw[dW z,cQ J],h⟩
def Iz {c:CT} {a b:Ex} {tg e:AO} (h:bO c (.zip a b) tg e=true):∃ts k p0 x p v q pos,tg=.Tuple ts k p0/\e=.Call (.Name x p) [v,q] [] pos/\(x==⇑"zip"&&c.glo x&&c.bt.contains "zip"&&aa c a v&&aa c b q)=true:=by have h:(aA (gM tg) λy=>(bI e).any λt=>(two t.2.2.1).any λv=>t.1==⇑"zip"&&c.glo t.1&&c.bt.contains "zip"&&aa c a v.1&&aa c b v.2)=true:=h;let(g,z,h):=aO h;let(t,J,h):=aW h;let(v,L,h):=aW h;exact⟨_,_,_,_,_,_,_,_,z,by rw[dW J,lZ L],h⟩
def ZZ{c:CT}{x:Ex}{st:Stmt}(h:bQ c (.exp x) st=true):∃e pos,st=.Expr e pos/\(!dU e&&aa c x e)=true:=by have h:(aA (Hk st) λt=>!dU t.1&&aa c x t.1)=true:=h;let(t,g,h):=aO h;exact⟨_,_,g,h⟩
def IK{c:CT}{g:Tg}{x:Ex}{st:Stmt}(h:bQ c (.asg g x) st=true):∃tg e pos,st=.Assign [tg] e pos/\(bN c g tg&&aa c x e&&yw g x e)=true:=by have h:(aA (tV st) λt=>(one t.1).any λtg=>bN c g tg&&aa c x t.2.1&&yw g x t.2.1)=true:=h;let(t,z,h):=aO h;let(g,q,h):=aW h;exact⟨_,_,_,by rw[z,cQ q],h⟩
def Z0{c:CT}{o i x:Ex}{st:Stmt}(h:bQ c (.set o i x) st=true):∃o' z q e pos,st=.Assign [.Subscript o' z q] e pos/\(aa c o o'&&aa c i z&&aa c x e&&!dU e)=true:=by have h:(aA (tV st) λt=>(one t.1).any λtg=>aA (gO tg) λu=>aa c o u.1&&aa c i u.2.1&&aa c x t.2.1&&!dU t.2.1)=true:=h;let(t,L,h):=aO h;let(g,J,h):=aW h;let(u,M,h):=aO h;exact⟨_,_,_,_,_,by rw[L,cQ J,M],h⟩
def Z1{c:CT}{i:Nat}{op:Operator}{x:Ex}{st:Stmt}(h:bQ c (.aug i op x) st=true):∃y z o e pos,st=.AugAssign (.Name y z) o e pos/\(o==op&&(c.N[i]?==-y)&&c.sto y&&okN y&&aa c x e)=true:=by have h:(aA (Hl st) λt=>aA (asName t.1) λy=>t.2.1==op&&(c.N[i]?==-y.1)&&c.sto y.1&&okN y.1&&aa c x t.2.2.1)=true:=h;let(t,g,h):=aO h;let(u,q,h):=aO h;exact⟨_,_,_,_,_,by rw[g,q],h⟩
def Z2{c:CT}{x:Ex}{st:Stmt}(h:bQ c (.ret x) st=true):∃e pos,st=.Return (-e) pos/\(aa c x e)=true:=by have h:(aA (tW st) λt=>t.1.any λe=>aa c x e)=true:=h;let(t,g,h):=aO h;let(e,he,h):=aW h;exact⟨_,_,by rw[g,he],h⟩
def Z3{c:CT}{st:Stmt}(h:bQ c .rtn st=true):∃pos,st=.Return none pos/\(true)=true:=by have h:(aA (tW st) λt=>t.1.isNone)=true:=h;let(t,g,h):=aO h;rw[fi]at h;exact⟨_,by rw[g,h],rfl⟩
def Z4{c:CT}{t:Tx}{a b:Sxs}{st:Stmt}(h:bQ c (.ite t a b) st=true):∃t' g q pos,st=.If t' g q pos/\(bJ c t t'&&aD c a g&&aD c b q)=true:=by have h:(aA (Hm st) λu=>bJ c t u.1&&aD c a u.2.1&&aD c b u.2.2.1)=true:=h;let(u,z,h):=aO h;exact⟨_,_,_,_,z,h⟩
def Z5{c:CT}{g:Tg}{it:It'}{b:Sxs}{st:Stmt}(h:bQ c (.for_ g it b) st=true):∃tg iter body pos,st=.For tg iter body [] pos/\(bN c g tg&&bO c it tg iter&&aD c b body)=true:=by have h:(aA (Hn st) λt=>t.2.2.2.1.isEmpty&&(bN c g t.1&&bO c it t.1 t.2.1&&aD c b t.2.2.1))=true:=h;let(t,q,h):=aO h;rw[af,fg]at h;exact⟨_,_,_,_,by rw[q,h.1],h.2⟩
def Z6{c:CT}{t:Tx}{b:Sxs}{st:Stmt}(h:bQ c (.whl t b) st=true):∃t' body pos,st=.While t' body [] pos/\(bJ c t t'&&aD c b body)=true:=by have h:(aA (Ho st) λu=>u.2.2.1.isEmpty&&(bJ c t u.1&&aD c b u.2.1))=true:=h;let(u,g,h):=aO h;rw[af,fg]at h;exact⟨_,_,_,by rw[g,h.1],h.2⟩
def Z7{c:CT}{st:Stmt}(h:bQ c .pas st=true):∃pos,st=.Pass pos/\(true)=true:=by let((t,g),_):=cS.mp (show(Hq st).isSome=true from h);exact⟨t,g,rfl⟩
def Z8{c:CT}{st:Stmt}(h:bQ c .brk st=true):∃pos,st=.Break pos/\(true)=true:=by let((t,g),_):=cS.mp (show(Hr st).isSome=true from h);exact⟨t,g,rfl⟩
def Z9{c:CT}{st:Stmt}(h:bQ c .cnt st=true):∃pos,st=.Continue pos/\(true)=true:=by let((t,g),_):=cS.mp (show(Hs st).isSome=true from h);exact⟨t,g,rfl⟩
def my:AO->Bool
 |.Starred ..=>false
 |.Set ..=>false
 |.Slice ..=>false
 |_=>true
def bV{c:CT}:∀(x:Ex){e:AO},aa c x e=true->my e=true
 |.frz a,e,h=>bV a (show aa c a e=true from h)
 |.dnw,e,h=>by let(_,rfl):=Ib h;rfl
 |.dcT _,e,h=>by let(_,_,_,_,_,_,_,_,rfl,_):=yD h;rfl
 |.cm2 _ _ _ _ _ _ _ _,e,h=>by let(_,_,_,_,_,_,_,_,rfl,_):=yE h;rfl
 |.dp1 _ _,e,h=>by let(_,_,_,rfl,_):=Ie h;rfl
 |.var _,e,h=>by let(_,_,rfl,_):=HB h;rfl
 |.cst _,e,h=>by let(_,_,_,rfl,_):=HF h;rfl
 |.glb _ _,e,h=>by let(_,_,rfl,_):=HH h;rfl
 |.bin _ _ _ _,e,h=>by let(_,_,_,_,rfl,_):=HJ h;rfl
 |.neg _,e,h=>by let(_,_,rfl,_):=HN h;rfl
 |.cmp _ _ _,e,h=>by let(_,_,_,_,rfl,_):=HR h;rfl
 |.chn _ _ _ _ _,e,h=>by let(_,_,_,_,_,_,rfl,_):=HS h;rfl
 |.not _,e,h=>by let(_,_,rfl,_):=HQ h;rfl
 |.boo _ _ _,e,h=>by let(_,_,_,_,rfl,_):=HW h;rfl
 |.ife _ _ _,e,h=>by let(_,_,_,_,rfl,_):=HX h;rfl
 |.tup _,e,h=>by let(_,_,_,rfl,_):=HY h;rfl
 |.lst _ _,e,h=>by let(_,_,rfl,_):=H9 h;rfl
 |.idx _ _,e,h=>by let(_,_,_,rfl,_):=Ia h;rfl
 |.slc _ _ _ _,e,h=>by let(_,_,_,_,_,rfl,_):=Ig h;rfl
 |.rvs _ _ _,e,h=>by let(_,_,_,_,rfl,_):=Ih h;rfl
 |.call _ _,e,h=>by let(_,_,_,_,rfl,_):=Ii h;rfl
 |.bcl _ _,e,h=>by let(_,_,_,_,rfl,_):=Ij h;rfl
 |.lcl _ _ _,e,h=>by let(_,_,_,_,rfl,_):=Ik h;rfl
 |.isi _ _,e,h=>by let(_,_,_,_,_,_,rfl,_):=Il h;rfl
 |.rgl _ _,e,h=>by let(_,_,_,_,_,_,_,rfl,_):=Im h;rfl
 |.lns _,e,h=>by let(_,_,_,_,_,_,_,rfl,_):=Io h;rfl
 |.rgt _,e,h=>by let(_,_,_,_,_,_,_,rfl,_):=Ip h;rfl
 |.mth _ _ _,e,h=>by let(_,_,_,_,_,rfl,_):=Ir h;rfl
 |.comp _ _ _ _ _ _ _,e,h=>by let(_,_,_,_,_,_,_,rfl,_):=Iu h;rfl
def du{e:AO}(h:my e=true):noStar e=true:=by cases e<;>first|rfl|exact nZf h
def IV{e:AO}(h:my e=true)(op:CmpOp):behindInMarks op e=false:=by cases e<;>first|rfl|exact nZf h
def yF{e:AO}(h:my e=true)(env:Env)(x:AN):foldedSetIterable e env x=pure x:=by cases e<;>first|rfl|exact nZf h
def aaa{e:AO}(h:my e=true):CJ e:=by intro o i;cases e<;>first|rfl|exact nZf h
def aab{e:AO}(h:iT e=true)(env:Env)(whole:Sem AN):isTrue e env whole=(do let v <-whole;standAt e.pos;holding [v] (truthy v)):=by
 cases e with
 |UnaryOp op x p=>cases op<;>first|rfl|exact nZf h
 |_=>first|rfl|exact nZf h
set_option backward.match.sparseCases true
def XV(K:PF)(H:Hp)(F:FZ)(x:Xn)(g:AN)(q:Option AQ):Prop:=
 ∃C,g=.ref C/\PySem.W.nsIn K mainGlobals (⇑x.cls)=-(-(.ref C))/\
  match x.fld with
  |.non=>True
  |d=>∃a f v,q=-a/\H a=-(.xd [(f,v)])/\Rep K H F d v
def XR(K:PF)(H:Hp)(F:FZ)(x:Xn)(z:XK):Prop:=∀g q,XV K H F x g q->z g q H
def PX(K:PF)(H:Hp)(F:FZ)(g:XK):EK:=λx q=>∀H' F',Ext H F H' F'->R K H' F' q->XR K H' F' x g
def el{L M N:Type}{p q r s:L->M->N->Prop}{C:Prop}(h:∃x y z,p x y z/\q x y z/\r x y z/\s x y z)(k:∀x y z,p x y z->q x y z->r x y z->s x y z->C):C:=by let(x,y,z,h1,h2,g,J):=h;exact k x y z h1 h2 g J
def lift(K:PF)(n:Nat)(S:RF.Spec):Sp:=λvs H Q g=>vs⁻¹=n/\∃F G ds,R K H F G/\Reps K H F ds vs/\S.t ds G (PV K H F Q) (PX K H F g)
def CV(K:PF)(mg:AH)(g:AL)(q:V):Prop:=
 (∃a,q=.ref a/\mg (⇑g)=-(.ref a)/\Du K a=true)\/(g="ValueError"/\q=.ty "ValueError"/\mg (⇑g)=none)
def XI(K:PF)(C g:AL)(q:V):Prop:=
 ∃c,PySem.W.nsIn K mainGlobals (⇑C)=-(-(.ref c))/\vB K c=true/\PySem.W.mroIn K c (valOf q)=-(gH C g)/\(gH C g=false->(Value.ref c==valOf q)=false)
structure Bs where
 H:Hp
 F:FZ
def IW(K:PF)(C f:AL):Prop:=∃c,PySem.W.nsIn K mainGlobals (⇑C)=-(-(.ref c))/\Cls K c/\T6 K c (⇑f)
def MthOk(Z:aj)(P:AK)(w:World)(K:PF)(mg:AH)(base:Heap)(CX:CXT)(k:Nat)(f C m:AL)(n:Nat):Prop:=
 ∃c fa fd ps,PySem.W.nsIn K mainGlobals (⇑C)=-(-(.ref c))/\Cls K c/\Meth K c (⇑m) fa/\Binds K fd ps []/\FnOk P w K mg base CX k fa fd ps (lift K n (Z f))
def MkoOk(Z:aj)(P:AK)(w:World)(K:PF)(mg:AH)(base:Heap)(CX:CXT)(k:Nat)(C:AL)(n:Nat):Prop:=
 ∃c fa fd ps sp j,j+1<=k/\mg (⇑C)=-(.ref c)/\Mk K c fa/\Binds K fd ps []/\FnOk P w K mg base CX j fa fd ps sp/\
  ∀vs H Q E,lift K n (Z C) vs H Q E->∀x dx,H x=none->H dx=none->dx≠x->sp (.ref x::vs) (upd (upd H dx (.own x)) x (.ins c dx [])) (λv H2=>v=.non/\Q (.ref x) H2) E
def aac(K:PF)(c:AQ)(f:AL):Sp:=λvs H Q y=>∃a b l d F G,vs=[.ref a,b]/\H a=-(.ext (Eb a c l none))/\¬F a/\R K H F G/\Rep K H F d b/\okA d/\
 ∀H2 g dx z ob q,Ext H F H2 g->R K H2 g G->H2 a=-(.ext (Eb a c q none))->H2 dx=none->dx≠a->ob.cls=.ref c->ob.dict=-dx->PySem.W.notCls ob=true->Q .non (upd (upd H2 a (.frz ob (.own a))) dx (.frz z (.xd [(⇑f,b)])))
def aad(P:AK)(w:World)(K:PF)(mg:AH)(base:Heap)(CX:CXT)(k:Nat)(C f:AL):Prop:=
 ∃c fa fd ps j,j+1<=k/\mg (⇑C)=-(.ref c)/\PySem.W.nsIn K mainGlobals (⇑C)=-(-(.ref c))/\Wt K c fa=true/\PySem.W.typeIn K (.ref fa)=-(.type "function")/\PySem.W.keepIn K (.ref c)=true/\
  (vB K c=true/\PySem.W.hasDictIn K c=true/\PySem.W.findIn K (.ref c) (⇑f)=-none)/\Binds K fd ps []/\FnOk P w K mg base CX j fa fd ps (aac K c f)
def XkoX(P:AK)(w:World)(K:PF)(mg:AH)(base:Heap)(CX:CXT)(k:Nat)(xs:List (AL×Bool))(C f:AL):Prop:=
 aad P w K mg base CX k C f/\∀g q,xs.contains (g,false)=true->CV K mg g q->XI K C g q
structure Stat(Z:aj)(CX:CXT)(k:Nat)(c:CT)(E:EK)(B:Bs)(X:Cx):Prop where
 N:X.N=c.N
 nd:X.N.Nodup
 calm:X.calm=true
 own:PassesOwn (model X.prog X.w) X.A X.env X.xe
 kd:X.env.kindOf=λx=>X.env.scope.names.lookup x
 vis:∀x,iQ (c.kd.lookup x)=true->Vis X.env.scope x
 cel:∀x,(c.kd.lookup x=some .cell\/c.kd.lookup x=some .free)->(X.env.kindOf x=some .cell\/X.env.kindOf x=some .free)
 glo:∀x,c.kd.lookup x=some .globalImplicit->Gl X x
 sto:∀x,c.sto x=true->Loc X.env.scope x/\(X.fn x=true\/X.env.scope.names.lookup x=some .local)
 room:Room k X.A
 call:∀f n,(f,n)∈c.fs->∃fa fd ps,FnOk X.prog X.w X.K X.mg X.base CX k fa fd ps (lift X.K n (Z f))/\PySem.W.keepIn X.K (.ref fa)=true/\Binds X.K fd ps []/\X.mg (⇑f)=some (.ref fa)
 blt:∀f,f∈c.bt->X.mg (⇑f)=none
 con:∀x d,(x,d)∈c.cn->∃u v,X.mg (⇑x)=some u/\RelV v u/\∀H F,Rep X.K H F d v
 exc:∃EX,kW CX X EX/\Throws X EX/\∀x G' H' F',E x G'->Ext B.H B.F H' F'->R X.K H' F' G'->XR X.K H' F' x EX
 nox:∀(Y:Cx),kW CX Y λz z z=>False
 xcl:∀C,c.xs.contains (C,true)=true->∃a,X.mg (⇑C)=some (.ref a)/\qX X.K a=true/\PySem.W.nsIn X.K mainGlobals (⇑C)=some (some (.ref a))
 loc:∀x,c.kd.lookup x=some .local->X.env.scope.names.lookup x=some .local
 xis:∀C',c.xs.contains (C',false)=true->∃cv,CV X.K X.mg C' cv/\∀C,c.xs.contains (C,true)=true->XI X.K C C' cv
 mth:∀f C m n,(f,C,m,n)∈c.ot.ms->MthOk Z X.prog X.w X.K X.mg X.base CX k f C m n
 mko:∀C n,(C,n)∈c.ot.ks->MkoOk Z X.prog X.w X.K X.mg X.base CX k C n
 fld:∀C f,(C,f)∈c.ot.fl->IW X.K C f
 xko:∀C f,(C,f)∈c.ot.xk->XkoX X.prog X.w X.K X.mg X.base CX k c.xs C f
 trc:c.xs≠[]->CX=CX1 X.prog X.w/\X.stack=X.env::X.outer/\X.ex=[]
def tE(K:PF)(B:Bs)(w:ak->DH->(AT)->Prop):TE:=λX H Q=>∃Y F G,Ext B.H B.F H F/\EnvR K H F Y X/\R K H F G/\w Y G (PV K H F Q)
def tB'(K:PF)(B:Bs)(w:ak->DH->(Bool->DH->Prop)->Prop):TT:=λX H Q=>∃Y F G,Ext B.H B.F H F/\EnvR K H F Y X/\R K H F G/\w Y G (PB K H F Q)
def tL(K:PF)(B:Bs)(w:ak->DH->(AS->DH->Prop)->Prop):TA:=λX H Q=>∃Y F G,Ext B.H B.F H F/\EnvR K H F Y X/\R K H F G/\w Y G (PLs K H F Q)
def POp(K:PF)(H:Hp)(F:FZ)(Q:Option Int->Hp->Prop):Option Int->DH->Prop:=λb g=>∀H' F',Ext H F H' F'->R K H' F' g->Q b H'
def Ja(K:PF)(B:Bs)(w:ak->DH->(Option Int->DH->Prop)->Prop):TO:=λX H Q=>∃Y F G,Ext B.H B.F H F/\EnvR K H F Y X/\R K H F G/\w Y G (POp K H F Q)
def peI{X:Cx}{e:AO}{t t':TE}(h:PE X e t)(i:∀Y H Q,t' Y H Q->t Y H Q):PE X e t':=λp9 s Y H Q I q=>h p9 s Y H Q I (i Y H Q q)
def ptI{X:Cx}{e:AO}{t t':TT}(h:PT X e t)(i:∀Y H Q,t' Y H Q->t Y H Q):PT X e t':=λp9 s Y H Q I q=>h p9 s Y H Q I (i Y H Q q)
def pwI{X:Cx}{e:AO}{t t':TT}(h:PW X e t)(i:∀Y H Q,t' Y H Q->t Y H Q):PW X e t':=λg p9 s Y H Q I q=>h g p9 s Y H Q I (i Y H Q q)
def paI{X:Cx}{e:AE}{t t':TA}(h:PA X e t)(i:∀Y H Q,t' Y H Q->t Y H Q):PA X e t':=λpos p9 s Y H Q I q=>h pos p9 s Y H Q I (i Y H Q q)
section
variable {Z:aj} {CX:CXT} {k:Nat} {c:CT} {E:EK} {B:Bs} {X:Cx}
theorem aL{K:PF}{x:Ex}{X:L2.St}{H:Hp}{F:FZ}{G:DH}{Y:ak}{W:AT}{Q:VK}(J:Ext B.H B.F H F)(he:EnvR K H F Y X)(r:R K H F G)(hw:wpE Z x E Y G W)
  (h:∀d G1 H1 g v,W d G1->Ext B.H B.F H1 g->Ext H F H1 g->EnvR K H1 g Y X->R K H1 g G1->Rep K H1 g d v->Q v H1):tE K B (wpE Z x E) X H Q:=
 ⟨Y,F,G,J,he,r,aJ x (λd G1 q H1 g v z L M=>h d G1 H1 g v q (J.trans z) z (he.ext z) L M) hw⟩
theorem dX{K:PF}{x:Exs}{X:L2.St}{H:Hp}{F:FZ}{G:DH}{Y:ak}{W:AS->DH->Prop}{Q:AR->Hp->Prop}(J:Ext B.H B.F H F)(he:EnvR K H F Y X)(r:R K H F G)(hw:bx Z x E Y G W)
  (h:∀d G1 H1 g v,W d G1->Ext B.H B.F H1 g->Ext H F H1 g->EnvR K H1 g Y X->R K H1 g G1->Reps K H1 g d v->Q v H1):tL K B (bx Z x E) X H Q:=
 ⟨Y,F,G,J,he,r,gk x (λd G1 q H1 g v z L M=>h d G1 H1 g v q (J.trans z) z (he.ext z) L M) hw⟩
theorem gQ{K:PF}{x:Tx}{X:L2.St}{H:Hp}{F:FZ}{G:DH}{Y:ak}{W:Bool->DH->Prop}{Q:Bool->Hp->Prop}(J:Ext B.H B.F H F)(he:EnvR K H F Y X)(r:R K H F G)(hw:wpT Z x E Y G W)
  (h:∀d G1 H1 g,W d G1->Ext B.H B.F H1 g->Ext H F H1 g->EnvR K H1 g Y X->R K H1 g G1->Q d H1):tB' K B (wpT Z x E) X H Q:=
 ⟨Y,F,G,J,he,r,dm x (λd G1 q H1 g z L=>h d G1 H1 g q (J.trans z) z (he.ext z) L) hw⟩
theorem Jb{K:PF}{x:Ox}{X:L2.St}{H:Hp}{F:FZ}{G:DH}{Y:ak}{W:Option Int->DH->Prop}{Q:Option Int->Hp->Prop}(J:Ext B.H B.F H F)(he:EnvR K H F Y X)(r:R K H F G)(hw:wpO Z x E Y G W)
  (h:∀d G1 H1 g,W d G1->Ext B.H B.F H1 g->Ext H F H1 g->EnvR K H1 g Y X->R K H1 g G1->Q d H1):Ja K B (wpO Z x E) X H Q:=
 ⟨Y,F,G,J,he,r,xW x (λd G1 q H1 g z L=>h d G1 H1 g q (J.trans z) z (he.ext z) L) hw⟩
theorem PV.later{K:PF}{H H1:Hp}{F g:FZ}{Q:VK}{d:D}{G:DH}(h:PV K H F Q d G)(x:Ext H F H1 g):PV K H1 g Q d G:=λH' F' v q=>h H' F' v (x.trans q)
theorem PB.later{K:PF}{H H1:Hp}{F g:FZ}{Q:Bool->Hp->Prop}{d:Bool}{G:DH}(h:PB K H F Q d G)(x:Ext H F H1 g):PB K H1 g Q d G:=λH' F' q=>h H' F' (x.trans q)
theorem PB.now{K:PF}{H:Hp}{F:FZ}{Q:Bool->Hp->Prop}{d:Bool}{G:DH}(h:PB K H F Q d G)(r:R K H F G):Q d H:=h H F (Ext.refl H F) r
theorem eG(S:Stat Z CX k c E B X):X.A.units+100<cLine:=by have:=S.room.un;lia
theorem b8 {x:Str} (h:okN x=true):(x==("__debug__":Str))=false:=by
 unfold okN at h;cases e:x==("__debug__":Str) with
 |false=>rfl
 |true=>rw[e]at h;simp at h
theorem aae {x:Str} (h:okN x=true):(x==("__classdict__":Str))=false:=by
 unfold okN at h;cases e:x==("__classdict__":Str) with
 |false=>rfl
 |true=>rw[e]at h;simp at h
theorem cT {x:Str} (h:okN x=true):x≠"__name__":=by unfold okN at h;intro e;rw[a8.mpr e]at h;simp at h
theorem dw{x:Str}(h:c.glo x=true):c.kd.lookup x=-.globalImplicit/\okN x=true:=by unfold CT.glo at h;rw[af,a8]at h;exact h
theorem aaf(S:Stat Z CX k c E B X){i:Nat}{e:AO}(h:aa c (.var i) e=true):PE X e (tE X.K B (wpE Z (.var i) E)):=by
 replace h:=HB h;let(x,pos,rfl,h):=h
 .rw[af,af,a8]at h;show peI (BJ (i:=i) (by rw[S.N];exact h.1.1) (S.vis x h.1.2) (b8 h.2) (aae h.2)) λW H Q q=>?_;let(Y,F,G,_,he,r,hw):=q;rw[wH]at hw;split at hw
  .rename_i d z;let(v,g,J):=he.get z;exact⟨v,g,hw.now r J⟩
  .exact hw.elim
theorem aag(S:Stat Z CX k c E B X){d:D}{e:AO}(h:aa c (.cst d) e=true):PE X e (tE X.K B (wpE Z (.cst d) E)):=by
 replace h:=HF h;let(q,_,_,rfl,h):=h
 .unfold iR at h;split at h
  .exact peI Ro λW H Q g=>el g λY F G z he r hw=>by rw[jO]at hw;exact hw.now r rfl
  .rw[a8]at h;subst h;exact peI Rn λW H Q g=>el g λY F G z he r hw=>by rw[jO]at hw;exact hw.now r rfl
  .rw[a8]at h;subst h;exact peI Rm λW H Q g=>el g λY F G z he r hw=>by rw[jO]at hw;exact hw.now r rfl
  .rename_i l b;rw[af,a8,ce]at h;show peI Rp λW H Q g=>el g λY F G z he r hw=>?_;rw[jO]at hw;show hw.now r ⟨?_,h.2⟩;rw[h.1,<-qW]
  .cases h
theorem aah(S:Stat Z CX k c E B X){x:AL}{d:D}{e:AO}(h:aa c (.glb x d) e=true):PE X e (tE X.K B (wpE Z (.glb x d) E)):=by
 replace h:=HH h;let(y,pos,rfl,h):=h
 .rw[af,af,a8,gg]at h;let((z,h1),(x',d'),M,h2):=h;rw[af,a8]at h2;let(q,g):=h2;have g:=ZM g;simp only at q g;subst z q g;let(J,L):=dw h1;let(u,v,U,ru,O):=S.con _ _ M;exact peI (Rq (S.glo _ J) U ru (b8 L)) λW H Q N=>el N λY F G t he r hw=>by rw[wI]at hw;exact hw.now r (O H F)
theorem aai(S:Stat Z CX k c E B X){op:Operator}{fz:Bool}{a b:Ex}(L:∀{e},aa c a e=true->PE X e (tE X.K B (wpE Z a E)))(M:∀{e},aa c b e=true->PE X e (tE X.K B (wpE Z b E))){e:AO}
  (h:aa c (.bin op fz a b) e=true):PE X e (tE X.K B (wpE Z (.bin op fz a b) E)):=by
 replace h:=HJ h;let(l,o,r,pos,rfl,h):=h
 .rw[af,af,a8]at h;let((g,h1),h2):=h;subst g;show peI (Te (Ys _ fz) (L h1) (M h2)) λW H Q hq=>el hq λY F G e0 he r hw=>?_;rw[wJ]at hw;show aL e0 he r hw λx G1 H1 F1 v q g x1 J r1 rv=>aL g J r1 q λy U H2 O u q e2 N he2 r2 ru=>?_;exact⟨O,U,x,y,r2,Rep.ext N rv,ru,Gi (λd G' z=>PV.later z (x1.trans N)) q⟩
theorem aaj(S:Stat Z CX k c E B X){a:Ex}(g:∀{e},aa c a e=true->PE X e (tE X.K B (wpE Z a E))){e:AO}(h:aa c (.neg a) e=true):PE X e (tE X.K B (wpE Z (.neg a) E)):=by
 replace h:=HN h;let(_,_,rfl,h):=h
 .show peI (Tf Tu (g h)) λW H Q M=>el M λY F G z he r hw=>?_;rw[wK]at hw;show aL z he r hw λx G1 H1 F1 v q e1 U L N O=>?_;split at q
  .have J:v=.int _:=O;subst J;exact⟨_,rfl,q _ _ _ U N rfl⟩
  .exact q.elim
theorem Jc(S:Stat Z CX k c E B X){op:CmpOp}{a b:Ex}(L:∀{e},aa c a e=true->PE X e (tE X.K B (wpE Z a E)))(M:∀{e},aa c b e=true->PE X e (tE X.K B (wpE Z b E))){e:AO}
  (h:aa c (.cmp op a b) e=true):PE X e (tE X.K B (wpE Z (.cmp op a b) E))/\PT X e (tB' X.K B (wpT Z (.val (.cmp op a b)) E)):=by
 replace h:=HR h;let(l,o,r,pos,rfl,h):=h
 .rw[af,af,a8]at h;let((J,h1),h2):=h;subst J;have hm:=IV (bV b h2) o;show⟨peI (Tz (jR _ (eG S)) (L h1) (M h2) hm) λW H Q hq=>el hq λY F G e0 he r hw=>?_,ptI (TF (jR _ (eG S)) (L h1) (M h2) hm) λW H Q hq=>el hq λY F G e0 he r hw=>?_⟩
  .rw[rW]at hw;show aL e0 he r hw λx G1 H1 F1 v q J x1 g r1 rv=>aL J g r1 q λy U H2 O u q e2 N he2 r2 ru=>?_;exact⟨O,U,x,y,r2,Rep.ext N rv,ru,iK (λd z=>PV.later z (x1.trans N)) q⟩
  .rw[lM,rW]at hw;show aL e0 he r hw λx G1 H1 F1 v q J x1 g r1 rv=>aL J g r1 q λy U H2 O u q e2 N he2 r2 ru=>?_;show⟨O,U,x,y,r2,Rep.ext N rv,ru,iK (λd z=>?_) q⟩;intro H' F' v' x' r' rv';have e3:v'=.bl d:=rv';exact⟨d,e3,z H' F' ((x1.trans N).trans x') r'⟩
theorem Jd(S:Stat Z CX k c E B X){op J:CmpOp}{a b d:Ex}(N:∀{e},aa c a e=true->PE X e (tE X.K B (wpE Z a E)))(O:∀{e},aa c b e=true->PE X e (tE X.K B (wpE Z b E)))(U:∀{e},aa c d e=true->PE X e (tE X.K B (wpE Z d E))){e:AO}
  (h:aa c (.chn op J a b d) e=true):PE X e (tE X.K B (wpE Z (.chn op J a b d) E))/\PT X e (tB' X.K B (wpT Z (.val (.chn op J a b d)) E)):=by
 replace h:=HS h;let(l,o,o',m,r,pos,rfl,h):=h
 .simp only[af,a8]at h;let((((e1,e2),h1),h2),h3):=h;subst e1 e2;have hm:lastMarks [o,o'] [m,r]=false:=IV (bV d h3) o';have go:∀{V H Q Y F G}{W:Bool->DH->Prop},Ext B.H B.F H F->EnvR X.K H F Y V->R X.K H F G->
    wpE Z a E Y G (λx G1=>wpE Z b E Y G1 λy L=>bh o (view L x) (view L y) λt=>match t with|true=>wpE Z d E Y L λz G3=>bh o' (view G3 y) (view G3 z) λt'=>W t' G3|false=>W false L)->
    (∀t g H' F',W t g->Ext H F H' F'->R X.K H' F' g->Q (.bl t) H')->
    vd (rC2 X.K (bh o)) (rC2 X.K (bh o')) (tE X.K B (wpE Z a E)) (tE X.K B (wpE Z b E)) (tE X.K B (wpE Z d E)) V H Q:=by
   intro V H Q Y F G W M he r hw fin;show aL M he r hw λx G1 H1 F1 v q e1 x1 he1 r1 rv=>aL e1 he1 r1 q λy L H2 F2 u q e2 x2 he2 r2 ru=>?_;show⟨F2,L,x,y,r2,Rep.ext x2 rv,ru,iK (λt q=>?_) q⟩;intro H3 F3 v3 x3 r3 rv3;have e3:v3=.bl t:=rv3;show⟨t,e3,?_⟩;cases t with
   |true=>
    rw[if_pos rfl];show aL (e2.trans x3) (he2.ext x3) r3 q λz G4 H4 F4 v4 q e4 x4 he4 r4 rv4=>?_;show⟨F4,G4,y,z,r4,Rep.ext (x3.trans x4) ru,rv4,iK (λt' q=>?_) q⟩;intro H5 F5 v5 x5 r5 rv5;have e5:v5=.bl t':=rv5;subst e5;exact fin _ _ _ _ q ((((x1.trans x2).trans x3).trans x4).trans x5) r5
   |false=>
    rw[if_neg bg];exact fin _ _ _ _ q ((x1.trans x2).trans x3) r3
  show⟨peI (TJ (jR _ (eG S)) (jR _ (eG S)) (N h1) (O h2) (U h3) hm) λV H Q hq=>el hq λY F G M he r hw=>?_,ptI (TQ (jR _ (eG S)) (jR _ (eG S)) (N h1) (O h2) (U h3) hm) λV H Q hq=>el hq λY F G M he r hw=>?_⟩
  .rw[rY]at hw;exact go (W:=λt g=>PV X.K H F Q (.bl t) g) M he r hw λt g H' F' z x' r'=>z H' F' _ x' r' rfl
  .rw[lM,rY]at hw;show go (W:=λt g=>PB X.K H F Q t g) M he r hw λt g H' F' z x' r'=>⟨t,rfl,z H' F' x' r'⟩
end
section
variable {Z:aj} {CX:CXT} {k:Nat} {c:CT} {E:EK} {B:Bs} {X:Cx}
abbrev OkE(Z:aj)(c:CT)(E:EK)(B:Bs)(X:Cx)(x:Ex):Prop:=∀{e:AO},aa c x e=true->PE X e (tE X.K B (wpE Z x E))
abbrev gR(Z:aj)(c:CT)(E:EK)(B:Bs)(X:Cx)(x:Exs):Prop:=∀{es:AE},aN c x es=true->PA X es (tL X.K B (bx Z x E))
abbrev OkT(Z:aj)(c:CT)(E:EK)(B:Bs)(X:Cx)(x:Tx):Prop:=∀{e:AO},bJ c x e=true->PT X e (tB' X.K B (wpT Z x E))
theorem aak(S:Stat Z CX k c E B X){a:Ex}(J:OkE Z c E B X a){e:AO}(h:aa c (.not a) e=true):PE X e (tE X.K B (wpE Z (.not a) E)):=by
 replace h:=HQ h;let(_,_,rfl,h):=h
 .intro p9 s W H Q I q;let(Y,F,G,N,he,r,hw):=q;rw[wL]at hw;have q':tE X.K B (wpE Z a E) W H (λx H1=>∃b,qR X.K x H1 b/\Q (.bl (!b)) H1):=aL N he r hw λx G1 H1 F1 v q e1 x1 U g rv=>by
   split at q
   .rename_i b O;exact⟨b,GP g rv O,q _ _ _ x1 g rfl⟩
   .exact q.elim
  show UnaryOp_ (thn (J h p9 s W H _ I q') λv s1 zZ=>?_);let(x,H1,L,g,b,tb,q1):=zZ;show not_of (thn (Cd p9 s1 W H1 x v (λz H'=>Q (.bl (!z)) H') L g ⟨b,tb,q1⟩) λz s2 zZ=>?_);let(H2,M,q2):=zZ;exact⟨.bl (!z),H2,M,rfl,q2⟩
theorem yG{es:AE}(h:aN c .nil es=true):PA X es (tL X.K B (bx Z .nil E)):=by
 unfold aN at h;cases es with
 |nil=>exact paI fZ λW H Q g=>el g λY F G q he r hw=>by rw[jN]at hw;exact hw H F [] (Ext.refl _ _) r rfl
 |cons _ _=>cases h
theorem tY{x:Ex}{xs:Exs}(ih:OkE Z c E B X x)(z:gR Z c E B X xs){es:AE}(h:aN c (.cons x xs) es=true):PA X es (tL X.K B (bx Z (.cons x xs) E)):=by
 unfold aN at h;split at h
 .rename_i e es;rw[af]at h;show paI (eN (ih h.1) (z h.2) (cG e es X.env (du (bV x h.1)))) λW H Q U=>el U λY F G M he r hw=>?_;rw[iH]at hw;show aL M he r hw λd G1 H1 F1 v q N x1 g r1 rv=>dX N g r1 q λds G2 H2 L vs q e2 J O r2 rvs=>?_;exact q H2 L _ (x1.trans J) r2 ⟨v,vs,rfl,Rep.ext J rv,rvs⟩
 .cases h
theorem aal(S:Stat Z CX k c E B X){es:Exs}(L:gR Z c E B X es){e:AO}(h:aa c (.tup es) e=true):PE X e (tE X.K B (wpE Z (.tup es) E)):=by
 replace h:=HY h;let(_,_,_,rfl,h):=h
 .show peI (Ub (L h)) λW H Q J=>el J λY F G g he r hw=>?_;rw[wO]at hw;show dX g he r hw λds G1 H1 O vs q U N z M rvs=>⟨by rw[<-rvs⁻¹];exact dg q.1,gJ (PV.later q.2 N) M rvs⟩
theorem aam(S:Stat Z CX k c E B X){fz:Bool}{es:Exs}(M:gR Z c E B X es){e:AO}(h:aa c (.lst fz es) e=true):PE X e (tE X.K B (wpE Z (.lst fz es) E)):=by
 replace h:=H9 h;let(_,_,rfl,h):=h
 .show peI (Uc (M h)) λW H Q L=>el L λY F G g he r hw=>?_;rw[wQ]at hw;show dX g he r hw λds G1 H1 U vs q e1 O J N rvs=>⟨by rw[<-rvs⁻¹];exact dg q.1,dq (dj (λd G' z=>PV.later z O) q.2) N rvs⟩
theorem aan(S:Stat Z CX k c E B X){a i:Ex}(J:OkE Z c E B X a)(L:OkE Z c E B X i){e:AO}(h:aa c (.idx a i) e=true):PE X e (tE X.K B (wpE Z (.idx a i) E)):=by
 replace h:=Ia h;let(_,_,_,rfl,h):=h
 .rw[af]at h;show peI (Uw (YC (eG S)) (J h.1) (L h.2) (aaa (bV i h.2))) λW H Q hq=>el hq λY F G U he r hw=>?_;rw[wR]at hw;show aL U he r hw λx G1 H1 F1 v q e1 x1 g r1 rv=>aL e1 g r1 q λy O H2 N u q e2 M he2 r2 ru=>?_;exact⟨N,O,x,y,r2,Rep.ext M rv,ru,Gk (λd z=>PV.later z (x1.trans M)) q⟩
theorem aao(S:Stat Z CX k c E B X){e:AO}(h:aa c .dnw e=true):PE X e (tE X.K B (wpE Z .dnw E)):=by let(p,rfl):=Ib h;show peI WM λW H Q q=>el q λY F G J he r hw=>?_;rw[xq]at hw;intro p g;have x:=cY (o:=.dT []) r g;exact hw p (r.free g) _ F _ x (r.dctAt x (λf=>by let(vs,z):=(r.fz p f).2;rw[g]at z;cases z) rfl .nil) rfl
theorem aap(S:Stat Z CX k c E B X){a b:Ex}(M:OkE Z c E B X a)(N:OkE Z c E B X b){e:AO}(h:aa c (.dp1 a b) e=true):PE X e (tE X.K B (wpE Z (.dp1 a b) E)):=by let(ek,ev,p,rfl,hh):=Ie h;rw[af]at hh;show peI (WP (by have:=eG S;lia) (M hh.1) (N hh.2)) λW H Q hq=>el hq λY F G e0 he r hw=>?_;rw[xu]at hw;show aL e0 he r hw λx G1 H1 F1 v q e1 x1 J r1 rv=>aL e1 J r1 q λy G2 H2 U u q e2 O he2 g ru=>?_;let(n,b,q,rfl,hb,_):=jQ (Rep.ext O rv) q;show⟨b,aV n,rfl,hb,λp L=>?_⟩;have x:=cY (o:=.dT [(aV n,u)]) g L;exact q p (g.free L) _ U _ (x1.trans (O.trans x)) (g.dctAt x (λf=>by let(vs,z):=(g.fz p f).2;rw[L]at z;cases z) rfl (.cons ru .nil)) rfl
theorem Jf{lo:Ox}(M:∀x,lo=.ob x->OkE Z c E B X x){l:Option AO}(h:gn c lo l=true):PO X l (Ja X.K B (wpO Z lo E)):=by
 cases lo with
 |no=>
  unfold gn at h;cases l with
  |none=>
   intro p9 s W H Q I q;show vf p9 s W H Q I ?_;let(Y,F,G,g,he,r,hw):=q;rw[wA]at hw;exact hw H F (Ext.refl _ _) r
  |some _=>cases h
 |ob x=>
  unfold gn at h;split at h
  .intro p9 s W H Q I q;show Uq (M x rfl h) p9 s W H Q I ?_;let(Y,F,G,g,he,r,hw):=q;rw[wB]at hw;show aL g he r hw λd G1 H1 z v q e1 U L N O=>?_;split at q
   .have J:v=.int _:=O;exact⟨_,J,q H1 z U N⟩
   .exact q.elim
  .cases h
theorem aaq(S:Stat Z CX k c E B X){fz:Bool}{a:Ex}{lo hi:Ox}(L:OkE Z c E B X a)(N:∀x,lo=.ob x->OkE Z c E B X x)(M:∀x,hi=.ob x->OkE Z c E B X x){e:AO}(h:aa c (.slc fz a lo hi) e=true):
  PE X e (tE X.K B (wpE Z (.slc fz a lo hi) E)):=by
 replace h:=Ig h;let(_,_,_,_,_,rfl,h):=h
 .rw[af,af]at h;show peI (Ur (YK fz) (L h.1.1) (Jf N h.1.2) (Jf M h.2)) λW H Q hq=>el hq λY F G e0 he r hw=>?_;rw[wV]at hw;show aL e0 he r hw λx G1 H1 F1 v q e1 x1 g r1 rv=>Jb e1 g r1 q λl G2 H2 F2 q e2 O J r2=>Jb e2 J r2 q λu G3 H3 F3 q e3 U he3 r3=>?_;exact⟨F3,G3,x,r3,Rep.ext (O.trans U) rv,Gm (λd G' z=>PV.later z ((x1.trans O).trans U)) q⟩
theorem aar(S:Stat Z CX k c E B X){fz:Bool}{a s:Ex}(M:OkE Z c E B X a)(N:OkE Z c E B X s){e:AO}(h:aa c (.rvs fz a s) e=true):PE X e (tE X.K B (wpE Z (.rvs fz a s) E)):=by
 replace h:=Ih h;let(_,_,_,_,rfl,h):=h;rw[af]at h;show peI (Wq (M h.1) (N h.2)) λW H Q hq=>el hq λY F G e0 he r hw=>?_;rw[wU]at hw;show aL e0 he r hw λx G1 H1 F1 v q e1 x1 L r1 rv=>aL e1 L r1 q λy G2 H2 F2 u q e2 x2 he2 O ru=>?_;have q:=Gn (λd G' z=>PV.later z (x1.trans x2)) q;have g:=Rep.ext x2 rv;generalize U:view G2 x=va at q;unfold iG at q;split at q
 .let(p,vs,e,sq,t):=Rep.list O g U;have J:=q.1;subst J;exact⟨ru,p,vs,e,.inl ⟨sq,dq q.2 O t.reverse⟩⟩
 .let(J,q9):=q;cases fM U;subst J;let(p,vs,e,sq,t):=g;exact⟨ru,p,vs,e,.inr ⟨SqT.of sq.it,gJ q9 O t.reverse⟩⟩
 .exact q.elim
theorem aas(S:Stat Z CX k c E B X){a:Ex}(g:OkE Z c E B X a){e:AO}(h:aa c (.frz a) e=true):PE X e (tE X.K B (wpE Z (.frz a) E)):=by
 have h:aa c a e=true:=h;show peI (g h) λW H Q hq=>el hq λY F G N he r hw=>?_;rw[xm]at hw;show aL N he r hw λx G1 H1 F1 v q e1 M U z L=>?_;split at q
 .rename_i p;have O:v=.ref p:=L;subst O;split at q
  .rename_i ds J;exact q _ _ _ (M.trans vY) (z.frz J) (Yd z J)
  .exact q.elim
 .exact q _ _ _ M z L
theorem tZ{es:AE}{xs:Exs}(h:aN c xs es=true)(env:Env)(pos:Pos):(backTo pos (starEach es env)).any (·.1)=false:=by
 induction es generalizing xs with
 |nil=>rfl
 |cons e es g=>
  cases xs with
  |nil=>unfold aN at h;cases h
  |cons x xs=>
   unfold aN at h;rw[af]at h;rw[cG e es env (du (bV x h.1))];change(false||(backTo pos (starEach es env)).any (·.1))=false;rw[g h.2];rfl
theorem mz{e:AO}{es:AE}{xs:Exs}(h:aN c xs (e::es)=true):∃x g,xs=.cons x g/\aa c x e=true/\aN c g es=true:=by
 cases xs with
 |nil=>unfold aN at h;cases h
 |cons x g=>
  unfold aN at h;rw[af]at h;exact⟨x,g,rfl,h.1,h.2⟩
theorem Jg{Y:ak}:∀(xs:Exs){es:AE}{G:DH}{Q:AS->DH->Prop},aN c xs es=true->bx Z xs E Y G Q->bx Z xs E Y G (λds g=>ds⁻¹=es⁻¹/\Q ds g)
 |.nil,es,G,Q,h,q=>by
  unfold aN at h;rw[jN]at q ⊢;cases es with
  |nil=>exact⟨rfl,q⟩
  |cons _ _=>cases h
 |.cons x xs,es,G,Q,h,q=>by
  unfold aN at h;split at h
  .rename_i e es;rw[af]at h;rw[iH]at q ⊢;show aJ x (λd G1 q=>gk xs (λds J z=>?_) (Jg xs h.2 q)) q;exact⟨by simp[z.1],z.2⟩
  .cases h
theorem aat(S:Stat Z CX k c E B X){f:AL}{xs:Exs}(ih:gR Z c E B X xs){e:AO}(h:aa c (.call f xs) e=true):PE X e (tE X.K B (wpE Z (.call f xs) E)):=by
 replace h:=Ii h;let(x,p,args,pos,rfl,h):=h
 .simp only[af,a8,gg]at h;let((((J,h1),(f',n),hm,U,e3),h2),L):=h;simp only at U e3;subst J U e3;let(g1,g2):=dw h1;let(fa,fd,ps,F0,hk,hb,N):=S.call _ _ hm;let(EX,g,_,M):=S.exc;cases args with
  |nil=>cases h2
  |cons e es=>
   let(x0,xs',rfl,c1,c2):=mz L;show peI (Ug F0 S.room (S.glo _ g1) N hk hb .nil g (ih L) (b8 g2) (cG e es X.env (du (bV x0 c1))) (tZ c2 X.env pos)) λW H Q hq=>el hq λY F G e0 he r hw=>?_;rw[wW]at hw;show dX e0 he r (Jg _ L hw) λds G1 H1 F1 vs q J x1 he1 r1 rvs=>?_;rw[dL];show⟨by rw[<-rvs⁻¹];exact q.1,F1,G1,ds,r1,rvs,Spec.mono q.2 (λd O z=>PV.later z x1) λx O z H' F' x' r'=>?_⟩;exact M x O H' F' z (J.trans x') r'
theorem aau(S:Stat Z CX k c E B X){f:Bf}{xs:Exs}(U:gR Z c E B X xs){e:AO}(h:aa c (.bcl f xs) e=true):PE X e (tE X.K B (wpE Z (.bcl f xs) E)):=by
 replace h:=Ij h;let(x,p,args,pos,rfl,h):=h
 .simp only[af,a8]at h;let(((((e1,L),h1),hm),h2),M):=h;subst e1;let(N,J):=dw h1;have g:=S.blt _ (bB.mp hm);cases args with
  |nil=>cases h2
  |cons e es=>
   let(x0,xs',rfl,c1,c2):=mz M;have hs:=cG e es X.env (du (bV x0 c1));have O:=tZ c2 X.env pos;have go:∀W H Q,tE X.K B (wpE Z (.bcl f (.cons x0 xs')) E) W H Q->tCB (gK X.K f) (tL X.K B (bx Z (.cons x0 xs') E)) W H Q:=λW H Q hq=>el hq λY F G e0 he r hw=>by
    rw[wX]at hw;show dX e0 he r hw λds G1 H1 F1 vs q e1 x1 he1 r1 rvs=>?_;exact⟨F1,G1,ds,r1,rvs,Gp (λd z=>PV.later z x1) q⟩
   cases f with
   |len=>exact peI (iz YL (S.glo _ N) g PySem.boot_len (U M) (cT J) (b8 J) hs O) go
   |any=>exact peI (iz (YQ S.calm) (S.glo _ N) g W6 (U M) (cT J) (b8 J) hs O) go
   |all=>exact peI (iz (YM S.calm) (S.glo _ N) g Vw (U M) (cT J) (b8 J) hs O) go
   |int=>exact peI (iB YS (S.glo _ N) g Dk (U M) (cT J) (b8 J) hs O) go
   |tuple=>exact peI (iB YT (S.glo _ N) g (by ac_rfl) (U M) (cT J) (b8 J) hs O) go
   |sum=>cases L
   |min=>exact peI (iz (Zb S.calm) (S.glo _ N) g Zc (U M) (cT J) (b8 J) hs O) go
   |max=>cases L
   |abs=>cases L
   |min2=>cases L
   |str=>exact peI (iB Zd (S.glo _ N) g Dl (U M) (cT J) (b8 J) hs O) go
theorem aav(S:Stat Z CX k c E B X){fz:Bool}{f:Lf}{xs:Exs}(ih:gR Z c E B X xs){e:AO}(h:aa c (.lcl fz f xs) e=true):PE X e (tE X.K B (wpE Z (.lcl fz f xs) E)):=by
 replace h:=Ik h;let(x,p,args,pos,rfl,h):=h
 .simp only[af,a8]at h;let(((((O,hok),h1),hm),h2),M):=h;subst O;let(U,L):=dw h1;have g:=S.blt _ (bB.mp hm);cases args with
  |nil=>cases h2
  |cons e es=>
   let(N,J,rfl,c1,c2):=mz M;have hs:=cG e es X.env (du (bV N c1));have ha:=tZ c2 X.env pos;have go:∀W H Q,tE X.K B (wpE Z (.lcl fz f (.cons N J)) E) W H Q->tCB (yj X.K fz f) (tL X.K B (bx Z (.cons N J) E)) W H Q:=λW H Q hq=>el hq λY F G e0 he r hw=>by
    rw[wY]at hw;show dX e0 he r hw λds G1 H1 F1 vs q O x1 he1 r1 rvs=>?_;exact⟨F1,G1,ds,r1,rvs,Gq (λd z=>dj (λd G' z=>PV.later z x1) z) q⟩
   cases f with
   |list=>exact peI (iB (YZ S.calm fz) (S.glo _ U) g vp (ih M) (cT L) (b8 L) hs ha) go
   |sorted=>exact peI (iz (Y6 fz) (S.glo _ U) g Y0 (ih M) (cT L) (b8 L) hs ha) go
theorem aaw:bootBuiltins "set"=-(.type "set"):=by ac_rfl
theorem Jh{K:PF}{H:Hp}{F:FZ}:∀{ds:AS}{ks:List (List Int)}{vs:AR},dO ds=-ks->Reps K H F ds vs->∃as:List AQ,vs=as.map V.ref/\as⁻¹=ks⁻¹/\∀(i:Nat)(a:AQ)(v:List Int),as[i]?=-a->ks[i]?=-v->SqT K H a (v.map V.int)
 |[],ks,vs,e,t=>by cases e;cases t;exact⟨[],rfl,rfl,λi a v h=>by simp at h⟩
 |.tup l::r,ks,vs,e,t=>by
  unfold dO at e;split at e
  .rename_i k M J L;cases e;let(v,U,rfl,N,t'):=t;let(a,Y,rfl,q,O):=N;let(as,rfl,h1,h2):=Jh L t';show⟨a::as,rfl,by rw[ca,ca,h1],λi b v g z=>?_⟩;cases i with
   |zero=>cases g;cases z;rw[lV J O]at q;exact q.sq
   |succ i=>exact h2 i b v g z
  .cases e
 |.non::_,ks,vs,e,t=>nomatch e
 |.bl _::_,ks,vs,e,t=>nomatch e
 |.int _::_,ks,vs,e,t=>nomatch e
 |.str _::_,ks,vs,e,t=>nomatch e
 |.lst _::_,ks,vs,e,t=>nomatch e
 |.ref _::_,ks,vs,e,t=>nomatch e
 |.scr _::_,ks,vs,e,t=>nomatch e
 |.exn _::_,ks,vs,e,t=>nomatch e
 |.exa _ _ _::_,ks,vs,e,t=>nomatch e
 |.obj _ _ _::_,ks,vs,e,t=>nomatch e
 |.dct _ _::_,ks,vs,e,t=>nomatch e
theorem aax(S:Stat Z CX k c E B X){a:Ex}(M:OkE Z c E B X a){e:AO}(h:aa c (.lns a) e=true):PE X e (tE X.K B (wpE Z (.lns a) E)):=by
 let(x,p,x',p',e2,pos',pos,rfl,h'):=Io h;simp only[af,a8]at h';let((((((O,h1),hm),e3),h2),hr),h3):=h';subst O e3;let(g1,U):=dw h1;let(z,g):=dw h2;have J:=S.blt _ (bB.mp hm);have L:=S.blt _ (bB.mp hr);have hs:=cG e2 [] X.env (du (bV a h3));show peI (iz X4 (S.glo _ g1) J PySem.boot_len (eN (iB (X3 S.calm (by have:=eG S;change X.A.units+1+1+1<cLine;lia)) (S.glo _ z) L aaw (eN (M h3) fZ hs) (cT g) (b8 g) hs rfl) fZ rfl) (cT U) (b8 U) rfl rfl) λW H Q hq=>el hq λY F G e0 he r hw=>?_;rw[xf]at hw;show aL e0 he r hw λd G1 H1 F1 v q O x1 he1 N rv=>?_;unfold jL at q;split at q
 .rename_i ds ev;let(p,vs,e,sq,t'):=Rep.list N rv ev;subst e;split at q
  .rename_i ks hb;let(as,rfl,hl,ht):=Jh hb t';have hlen:(L2.gC ks)⁻¹<=ks⁻¹:=XS ks;show⟨p,as,ks,rfl,sq,hl,ht,by have:=q.1;lia,λl hl=>⟨l,_,rfl,cW,by have:=q.1;lia,?_⟩⟩;exact(PV.later q.2 (x1.trans (cY (o:=lH l (L2.gC ks)⁻¹) N hl))).now (N.new hl) rfl
  .exact q.elim
 .exact q.elim
theorem Ji{K:PF}{H:Hp}{F:FZ}(n:Nat):Reps K H F (aQ 0 n) ((List.range n).map λi=>V.int (i:Nat)):=by
 have g:aQ 0 n=((List.range n).map λi:Nat=>(i:Int)).map D.int:=by unfold aQ;rw[b6];show b9 λi z=>?_;change D.int (0+(i:Int))=D.int i;rw[gL]
 have q:((List.range n).map λi:Nat=>V.int (i:Nat))=((List.range n).map λi:Nat=>(i:Int)).map V.int:=by rw[b6];rfl
 rw[g,q];exact lU _
theorem aay(S:Stat Z CX k c E B X){fz:Bool}{a:Ex}(N:OkE Z c E B X a){e:AO}(h:aa c (.rgl fz a) e=true):PE X e (tE X.K B (wpE Z (.rgl fz a) E)):=by
 let(x,p,x',p',e2,pos',pos,rfl,h'):=Im h;simp only[af,a8]at h';let((((((O,h1),hm),e3),h2),hr),h3):=h';subst O e3;let(g1,U):=dw h1;let(J,g2'):=dw h2;have L:=S.blt _ (bB.mp hm);have M:=S.blt _ (bB.mp hr);have hs:=cG e2 [] X.env (du (bV a h3));show peI (iB (V9 S.calm) (S.glo _ g1) L vp (eN (DG (S.glo _ J) M (eN (N h3) fZ hs) hs) fZ rfl) (cT U) (b8 U) rfl rfl) λW H Q hq=>el hq λY F G e0 he r hw=>?_;rw[xg]at hw;show aL e0 he r hw λd G1 H1 F1 v q O x1 he1 r1 rv=>?_;split at q
 .rename_i n;have ev:v=.int n:=rv;subst ev;let((h0,hn),q):=q;let(m,rfl):=ci h0;show⟨_,rfl,λrr g=>⟨rr,m,rfl,cW,!0,λl hl=>?_⟩⟩;have xn:=cY (o:=.rng 0 m) r1 g;exact dq (dj (λd G' z=>PV.later z (x1.trans xn)) q) (r1.new g) (Ji m) l hl
 .exact q.elim
theorem aaz(S:Stat Z CX k c E B X){a:Ex}(M:OkE Z c E B X a){e:AO}(h:aa c (.rgt a) e=true):PE X e (tE X.K B (wpE Z (.rgt a) E)):=by
 let(x,p,x',p',e2,pos',pos,rfl,h'):=Ip h;simp only[af,a8]at h';let((((((N,h1),hm),e3),h2),hr),U):=h';subst N e3;let(g1,O):=dw h1;let(z,g2'):=dw h2;have J:=S.blt _ (bB.mp hm);have L:=S.blt _ (bB.mp hr);have hs:=cG e2 [] X.env (du (bV a U));show peI (iB (Wa S.calm) (S.glo _ g1) J (by ac_rfl) (eN (DG (S.glo _ z) L (eN (M U) fZ hs) hs) fZ rfl) (cT O) (b8 O) rfl rfl) λW H Q hq=>el hq λY F G e0 he r hw=>?_;rw[xj]at hw;show aL e0 he r hw λd G1 H1 F1 v q N x1 he1 r1 rv=>?_;split at q
 .rename_i n;have ev:v=.int n:=rv;subst ev;let((h0,hn),q):=q;let(m,rfl):=ci h0;show⟨_,rfl,λrr g=>⟨rr,m,rfl,cW,!0,λl hl=>?_⟩⟩;have xn:=cY (o:=.rng 0 m) r1 g;exact gJ (PV.later q (x1.trans xn)) (r1.new g) (Ji m) l hl
 .exact q.elim
theorem aaA{t:AL}(h:gh t=true):bootBuiltins (⇑t)=-(.type t):=by
 simp only[gh,dP,a8]at h;rcases h with(((rfl|rfl)|rfl)|rfl)|rfl
 .exact Vn
 .exact Dk
 .exact Dl
 .ac_rfl
 .exact vp
theorem aaB(S:Stat Z CX k c E B X){a:Ex}{t:AL}(U:OkE Z c E B X a){e:AO}(h:aa c (.isi a t) e=true):PE X e (tE X.K B (wpE Z (.isi a t) E)):=by
 replace h:=Il h;let(x,p,v,y,p2,pos,rfl,h):=h
 .simp only[af,a8]at h;let(((((((e1,h1),J),h2),e2),h3),L),g):=h;subst e1 e2;let(g1,g2):=dw h1;let(g3,g4):=dw h3;have M:=S.blt _ (bB.mp J);have N:=S.blt _ (bB.mp L);have O:PE X (.Name (⇑t) p2) (tC (.ty t)):=Vp (S.glo _ g3) N (aaA g) (cT g4) (b8 g4);have sv:=du (bV a h2);show peI (iz Vm (S.glo _ g1) M Vo (eN (U h2) (eN O fZ (cG _ _ _ rfl)) (cG _ _ _ sv)) (cT g2) (b8 g2) (cG _ _ _ sv) rfl) λW H Q hq=>el hq λY F G e0 he r hw=>?_;rw[wZ]at hw;show aL e0 he r hw λd G1 H1 F1 v q e1 x1 he1 r1 rv=>?_;split at q
  .rename_i b hb;let(T,hk,hT,z):=Zh hb;show⟨v,t,.type T,b,rfl,Ze r1 rv hk,?_,q _ _ _ x1 r1 rfl⟩;rw[Zg T t hT g,z g]
  .exact q.elim
theorem aaC{v:AO}(h:(!tD v)=true)(name:Str)(env:Env):attributeBase v name env (eval v env)=eval v env:=by
 cases v with
 |Call f args g pos=>
  cases f with
  |Name id p=>
   cases args with
   |nil=>
    cases g with
    |nil=>cases h
    |cons _ _=>rfl
   |cons _ _=>rfl
  |_=>rfl
 |_=>rfl
theorem all_plain{es:AE}{xs:Exs}(h:aN c xs es=true)(env:Env)(pos:Pos):(backTo pos (starEach es env)).all (λx=>!x.1)=true:=by
 induction es generalizing xs with
 |nil=>rfl
 |cons e es z=>
  let(J,L,rfl,g,q):=mz h;rw[cG e es env (du (bV J g))];change(!false&&(backTo pos (starEach es env)).all (λx=>!x.1))=true;rw[z q];rfl
theorem aaD(S:Stat Z CX k c E B X){m:Mf}{o:Ex}{xs:Exs}(iho:OkE Z c E B X o)(ih:gR Z c E B X xs){e:AO}(h:aa c (.mth m o xs) e=true):PE X e (tE X.K B (wpE Z (.mth m o xs) E)):=by
 replace h:=Ir h;let(v,x,apos,args,cpos,rfl,h):=h
 .simp only[af,a8,ce]at h;let((((((e1,h1),hb),hl),hn),h2),h3):=h;subst e1;cases args with
  |nil=>cases h2
  |cons e es=>
   let(x0,xs',rfl,c1,c2):=mz h3;have hs:=cG e es X.env (du (bV x0 c1));have ha:=tZ c2 X.env cpos;have g:=aaC hb (⇑m.name) X.env;have N:((backTo cpos (starEach (e::es) X.env)).all (λx=>!x.1)&&(backToKw cpos (keywordEach [] X.env)).all (λx=>x.1.isSome)
    &&decide ((e::es)⁻¹+([]:List Keyword)⁻¹+(if([]:List Keyword).isEmpty then 0 else 1)<30))=true:=by
    rw[all_plain h3 X.env cpos];have:(e::es)⁻¹+([]:List Keyword)⁻¹+(if([]:List Keyword).isEmpty then 0 else 1)<30:=by have e0:(if([]:List Keyword).isEmpty=true then 0 else 1)=0:=rfl;rw[e0];change(e::es)⁻¹+0+0<30;lia
    rw[bo this];rfl
   have J:(apos.endLine==cpos.line)=true:=by rw[a8];exact hl
   have lst:∀{d:D} {u:V} {G1:DH} {H1:Hp} {F1:FZ},(match d with |.ref p=>(match G1 p with|some (.lst _)=>True|_=>False)|_=>False)->R X.K H1 F1 G1->Rep X.K H1 F1 d u->tyV X.K "list" u H1:=λ{d u G1 H1 F1} q O M=>by
    split at q
    .rename_i p;split at q
     .rename_i ds hg;let(vs,hv,_):=O.lst hg;have e2:u=.ref p:=M;subst e2;exact .inl ⟨rfl,vs,SqL.of hv⟩
     .exact q.elim
    .exact q.elim
   have lstV:∀{d:D} {u:V} {G1:DH} {H1:Hp} {F1:FZ},Yh (view G1 d)->R X.K H1 F1 G1->Rep X.K H1 F1 d u->tyV X.K "list" u H1:=λ{d u G1 H1 F1} q O M=>by
    generalize hv:view G1 d=w at q;cases w with
    |lst ds=>
     let(a,vs,rfl,sq,_):=Rep.list O M hv;exact .inl ⟨rfl,vs,sq⟩
    |_=>exact(show False from q).elim
   cases m with
   |join=>
    show peI (qT PySem.F.plainAttrs_str PySem.F.slot_str_join PySem.F.type_str_join Zi (iho h1) (ih h3) g N J hs ha) λW H Q hq=>el hq λY F G e0 he r hw=>?_;rw[iI]at hw;show aL e0 he r hw λd G1 H1 F1 u q e1 x1 L O M=>⟨?_,dX e1 L O q.2 λds G2 H2 F2 vs q e2 U he2 r2 rvs=>?_⟩
    .have q1:=q.1;cases d with
     |str l=>let(e2,_):=M;subst e2;exact rfl
     |_=>exact(show False from q1).elim
    .exact ⟨F2,G2,d,ds,r2,Rep.ext U M,rvs,jP (λd G' z=>PV.later z (x1.trans U)) q⟩
   |append=>
    show peI (qT PySem.F.plainAttrs_list PySem.F.slot_list_append PySem.F.type_list_append Zj (iho h1) (ih h3) g N J hs ha) λW H Q hq=>el hq λY F G e0 he r hw=>?_;rw[iI]at hw;show aL e0 he r hw λd G1 H1 F1 u q e1 x1 L O M=>⟨?_,dX e1 L O q.2 λds G2 H2 F2 vs q e2 U he2 r2 rvs=>?_⟩
    .show lst (d:=d) (G1:=G1) ?_ O M;have q1:=q.1;cases d<;>first|exact q1|exact(show False from q1).elim
    .exact ⟨F2,G2,d,ds,r2,Rep.ext U M,rvs,jP (λd G' z=>PV.later z (x1.trans U)) q⟩
   |extend=>
    show peI (qT PySem.F.plainAttrs_list PySem.F.slot_list_extend PySem.F.type_list_extend Zo (iho h1) (ih h3) g N J hs ha) λW H Q hq=>el hq λY F G e0 he r hw=>?_;rw[iI]at hw;show aL e0 he r hw λd G1 H1 F1 u q e1 x1 L O M=>⟨?_,dX e1 L O q.2 λds G2 H2 F2 vs q e2 U he2 r2 rvs=>?_⟩
    .show lst (d:=d) (G1:=G1) ?_ O M;have q1:=q.1;cases d<;>first|exact q1|exact(show False from q1).elim
    .exact ⟨F2,G2,d,ds,r2,Rep.ext U M,rvs,jP (λd G' z=>PV.later z (x1.trans U)) q⟩
   |pop=>
    show peI (qT PySem.F.plainAttrs_list PySem.F.slot_list_pop PySem.F.type_list_pop Zm (iho h1) (ih h3) g N J hs ha) λW H Q hq=>el hq λY F G e0 he r hw=>?_;rw[iI]at hw;show aL e0 he r hw λd G1 H1 F1 u q e1 x1 L O M=>⟨?_,dX e1 L O q.2 λds G2 H2 F2 vs q e2 U he2 r2 rvs=>?_⟩
    .show lst (d:=d) (G1:=G1) ?_ O M;have q1:=q.1;cases d<;>first|exact q1|exact(show False from q1).elim
    .exact ⟨F2,G2,d,ds,r2,Rep.ext U M,rvs,jP (λd G' z=>PV.later z (x1.trans U)) q⟩
   |idxT=>
    show peI (Xe PySem.F.plainAttrs_tuple PySem.F.slot_tuple_index PySem.F.type_tuple_index Zk (iho h1) (ih h3) g N J hs ha) λW H Q hq=>el hq λY F G e0 he r hw=>?_;rw[iI]at hw;show aL e0 he r hw λd G1 H1 F1 u q e1 x1 L O M=>⟨?_,dX e1 L O q.2 λds G2 H2 F2 vs q e2 U he2 r2 rvs=>?_⟩
    .have q1:=q.1;cases d with
     |tup l=>let(a,vs,e,q,_):=M;exact⟨a,vs,e,q.it⟩
     |_=>exact(show False from q1).elim
    .exact ⟨F2,G2,d,ds,r2,Rep.ext U M,rvs,jP (λd G' z=>PV.later z (x1.trans U)) q⟩
end
section
variable {Z:aj} {CX:CXT} {k:Nat} {c:CT} {E:EK} {B:Bs} {X:Cx}
def EachE(Z:aj)(c:CT)(E:EK)(B:Bs)(X:Cx):Exs->Prop
 |.nil=>True
 |.cons e es=>OkE Z c E B X e/\EachE Z c E B X es
def t6(Z:aj)(c:CT)(E:EK)(B:Bs)(X:Cx):Txs->Prop
 |.nil=>True
 |.cons e es=>OkT Z c E B X e/\t6 Z c E B X es
theorem EachE.oks:∀{xs:Exs},EachE Z c E B X xs->gR Z c E B X xs
 |.nil,_=>λh=>yG h
 |.cons x xs,hh=>λh=>tY hh.1 (EachE.oks hh.2) h
def t7(Z:aj)(E:EK)(isAnd:Bool)(x:Ex)(xs:Exs):ak->DH->(AT)->Prop:=λY G g=>wpE Z x E Y G λd G1=>match d with |.bl b=>wpB Z xs isAnd b E Y G1 g|d=>jM xs (g d G1)
theorem Jj{isAnd:Bool}{pos:Pos}:∀(xs:Exs){x:Ex},OkE Z c E B X x->EachE Z c E B X xs->∀{v:AO}{vs:AE},aa c x v=true->aN c xs vs=true->
  PE X (.BoolOp (if isAnd then .And else .Or) (v::vs) pos) (tE X.K B (t7 Z E isAnd x xs))
 |.nil,x,ih,_,v,vs,h1,h2=>by
  unfold aN at h2;cases vs with
  |nil=>
   show peI (RG (ih h1)) λW H Q O=>el O λY F G N he r hw=>?_;unfold t7 at hw;show aL N he r hw λd G1 H1 U u q e1 g J L M=>?_;split at q
   .rw[wy]at q;exact q _ _ _ g L M
   .exact (show PV X.K H F Q _ _ from q) _ _ _ g L M
  |cons _ _=>cases h2
 |.cons y ys,x,ih,hh,v,vs,h1,h2=>by
  unfold aN at h2;split at h2
  .rename_i w ws;rw[af]at h2;have rest:=Jj (isAnd:=isAnd) (pos:=pos) ys hh.1 hh.2 h2.1 h2.2;cases isAnd with
   |true=>
    show peI (RJ (ih h1) rest) λW H Q O=>el O λY F G N he r hw=>?_;unfold t7 at hw;show aL N he r hw λd G1 H1 U u q e1 g J L M=>?_;split at q
    .rename_i b;show⟨b,M,?_⟩;rw[rR]at q;cases b with
     |true=>
      rw[if_pos rfl];exact⟨Y,U,G1,e1,J,L,aJ y (λd G' z=>by
       cases d<;>first|exact sE ys (λc G2 z=>PV.later z g) z|exact xV ys (λz=>PV.later z g) z) q⟩
     |false=>
      rw[if_neg bg];exact q _ _ _ g L rfl
    .exact q.elim
   |false=>
    show peI (RK (ih h1) rest) λW H Q O=>el O λY F G N he r hw=>?_;unfold t7 at hw;show aL N he r hw λd G1 H1 U u q e1 g J L M=>?_;split at q
    .rename_i b;show⟨b,M,?_⟩;rw[rR]at q;cases b with
     |false=>
      rw[if_neg bg];exact⟨Y,U,G1,e1,J,L,aJ y (λd G' z=>by
       cases d<;>first|exact sE ys (λc G2 z=>PV.later z g) z|exact xV ys (λz=>PV.later z g) z) q⟩
     |true=>
      rw[if_pos rfl];exact q _ _ _ g L rfl
    .exact q.elim
  .cases h2
theorem aaE{isAnd:Bool}{x:Ex}{xs:Exs}(L:OkE Z c E B X x)(hh:EachE Z c E B X xs){e:AO}(h:aa c (.boo isAnd x xs) e=true):PE X e (tE X.K B (wpE Z (.boo isAnd x xs) E)):=by
 replace h:=HW h;let(_,_,_,_,rfl,h):=h
 .simp only[af,a8]at h;let((q,h1),h2):=h;subst q;show peI (Jj xs L hh h1 h2) λW H Q J=>el J λY F G g he r hw=>⟨Y,F,G,g,he,r,?_⟩;rw[wM]at hw;show aJ x (λd G1 z=>?_) hw;split at z
  .exact z
  .exact z.elim
theorem aaF{t:Tx}{a b:Ex}(M:OkT Z c E B X t)(J:OkE Z c E B X a)(L:OkE Z c E B X b){e:AO}(h:aa c (.ife t a b) e=true):PE X e (tE X.K B (wpE Z (.ife t a b) E)):=by
 replace h:=HX h;let(_,_,_,_,rfl,h):=h
 .simp only[af]at h;let((h1,h2),h3):=h;show peI (RL (M h1) (J h2) (L h3)) λW H Q hq=>el hq λY F G e0 he r hw=>?_;rw[wN]at hw;show gQ e0 he r hw λb' G1 H1 N q O x1 g U=>?_;cases b' with
  |true=>
   rw[if_pos rfl];exact⟨Y,N,G1,O,g,U,aJ a (λd G' z=>PV.later z x1) q⟩
  |false=>
   rw[if_neg bg];exact⟨Y,N,G1,O,g,U,aJ b (λd G' z=>PV.later z x1) q⟩
theorem aaG{x:Ex}(O:OkE Z c E B X x){e:AO}(M:iT e=true)(h:aa c x e=true):PT X e (tB' X.K B (wpT Z (.val x) E)):=by
 show ptI (TX (O h) (aab M X.env)) λW H Q N=>el N λY F G z he r hw=>?_;rw[lM]at hw;show aL z he r hw λd G1 H1 F1 u q e1 x1 L g U=>?_;split at q
 .rename_i b J;exact⟨b,GP g U J,q _ _ x1 g⟩
 .exact q.elim
theorem aaH{t:Tx}(L:OkT Z c E B X t){e:AO}(h:bJ c (.not t) e=true):PT X e (tB' X.K B (wpT Z (.not t) E)):=by
 replace h:=ZW h;let(_,_,rfl,h):=h
 .show ptI (RB (L h)) λW H Q J=>el J λY F G g he r hw=>?_;rw[wk]at hw;exact gQ g he r hw λb G1 H1 O q U N z M=>q _ _ N M
def mC(Z:aj)(E:EK)(isAnd:Bool)(x:Tx)(xs:Txs):ak->DH->(Bool->DH->Prop)->Prop:=λY G g=>wpT Z x E Y G λb G1=>gj Z xs isAnd b E Y G1 g
theorem Jl{isAnd:Bool}{pos:Pos}:∀(xs:Txs){x:Tx},OkT Z c E B X x->t6 Z c E B X xs->∀{v:AO}{vs:AE},bJ c x v=true->iU c xs vs=true->
  PW X (.BoolOp (if isAnd then .And else .Or) (v::vs) pos) (tB' X.K B (mC Z E isAnd x xs))
 |.nil,x,ih,_,v,vs,h1,h2=>by
  unfold iU at h2;cases vs with
  |nil=>
   have go:∀W H Q,tB' X.K B (mC Z E isAnd x .nil) W H Q->tB' X.K B (wpT Z x E) W H Q:=λW H Q L=>el L λY F G J he r hw=>by
    unfold mC at hw;show⟨Y,F,G,J,he,r,dm x (λb G1 q=>?_) hw⟩;rw[wz]at q;exact q
   cases isAnd with
   |true=>exact pwI (Rw (ih h1)) go
   |false=>exact pwI (Rx (ih h1)) go
  |cons _ _=>cases h2
 |.cons y ys,x,ih,hh,v,vs,h1,h2=>by
  unfold iU at h2;split at h2
  .rename_i w ws;rw[af]at h2;have rest:=Jl (isAnd:=isAnd) (pos:=pos) ys hh.1 hh.2 h2.1 h2.2;cases isAnd with
   |true=>
    show pwI (Ry (ih h1) rest) λW H Q L=>el L λY F G J he r hw=>?_;unfold mC at hw;show gQ J he r hw λb G1 H1 O q U N g M=>?_;rw[rT]at q;cases b with
    |true=>
     rw[if_pos rfl];exact⟨Y,O,G1,U,g,M,dm y (λb' G' z=>sG ys (λc G2 z=>PB.later z N) z) q⟩
    |false=>
     rw[if_neg bg];exact q _ _ N M
   |false=>
    show pwI (Rz (ih h1) rest) λW H Q L=>el L λY F G J he r hw=>?_;unfold mC at hw;show gQ J he r hw λb G1 H1 O q U N g M=>?_;rw[rT]at q;cases b with
    |false=>
     rw[if_neg bg];exact⟨Y,O,G1,U,g,M,dm y (λb' G' z=>sG ys (λc G2 z=>PB.later z N) z) q⟩
    |true=>
     rw[if_pos rfl];exact q _ _ N M
  .cases h2
theorem aaI{isAnd:Bool}{x:Tx}{xs:Txs}(J:OkT Z c E B X x)(hh:t6 Z c E B X xs){e:AO}(h:bJ c (.boo isAnd x xs) e=true):PT X e (tB' X.K B (wpT Z (.boo isAnd x xs) E)):=by
 replace h:=ZX h;let(_,_,_,_,rfl,h):=h
 .simp only[af,a8]at h;let((q,h1),h2):=h;subst q;show ptI (PW.pt (Jl xs J hh h1 h2)) λW H Q z=>el z λY F G g he r hw=>⟨Y,F,G,g,he,r,?_⟩;rw[wu]at hw;exact hw
def tG(K:PF)(B:Bs)(t:Tg):TG:=λv X H Q=>∃Y F G d,Ext B.H B.F H F/\EnvR K H F Y X/\R K H F G/\Rep K H F d v/\aX t d Y G (λq=>∀g,EnvR K H F q g->Q g H)
def tGs(K:PF)(B:Bs)(t:Tgs):TGs:=λvs X H Q=>∃Y F G ds,Ext B.H B.F H F/\EnvR K H F Y X/\R K H F G/\Reps K H F ds vs/\b7 t ds Y G (λq=>∀g,EnvR K H F q g->Q g H)
theorem t8:∀{ts:Tgs}{es:AE}{env:Env},cR c ts es=true->(assignEach es env)⁻¹=es⁻¹/\(assignEach es env).findIdx? (·.1)=none/\(assignEach es env).map (·.2)=es.map λe=>assign e env
 |.nil,[],env,_=>⟨rfl,rfl,rfl⟩
 |.nil,_::_,env,h=>by unfold cR at h;cases h
 |.cons t r,[],env,h=>by unfold cR at h;cases h
 |.cons t r,e::es,env,h=>by
  unfold cR at h;rw[af]at h;let(h1,h2,g):=t8 (env:=env) h.2;have hs:assignEach (e::es) env=(false,assign e env)::assignEach es env:=by
   cases t with
   |nm i=>
    have h':=h.1;let(_,_,rfl,_):=yz h';rfl
   |tp ts=>
    have h':=h.1;let(_,_,_,rfl,_):=yC h';rfl
  rw[hs];show⟨by simp[h1],?_,by simp[g]⟩;rw[eS];simp[h2]
section
variable {prog:AK} {w:World} {A:AM} {E:AG} {s:AI}
theorem Jm{it t:AQ}{g:Array AN}(N:t≠it):∀(n i:Nat)(s:AI)(Q:AB->AI->Prop),s.heap.IsListIter it t i->s.heap.IsList t g->i+n<=g.size->
  (∀h',h'.IsListIter it t (i+n)->Heap.SameBut it s.heap h'->Q ((g.toList.drop i).take n) {s with heap:=h'})->wpAny (model prog w) A (draw (.ref it) n) Q E s
 |0,i,s,Q,hit,_,_,hQ=>by
  change wpAny _ _ (pure []) Q E s;exact ai (by simpa using hQ s.heap hit (Heap.SameBut.refl ..))
 |n+1,i,s,Q,hit,ht,hle,hQ=>by
  have M:i<g.size:=by lia
  change wpAny _ _ (pyNext (.ref it) >>= _) Q E s;show ab (wpAny_pyNext_list_item hit ht (x:=g[i]) (by simp[M]) λU z q=>?_);show ab (cK (Jm N n (i+1) _ _ z (ht.extBut q.extBut N) (!0) λO J L=>ai ?_));have Y:g.toList.drop i=g[i]::g.toList.drop (i+1):=by simp[bn,M]
  have:=hQ O (by rw[show i+(n+1)=i+1+n by lia];exact J) (q.trans L);rw[Y,List.take_succ_cons]at this;exact this
theorem aaJ{t:AQ}{g:Array AN}{Q:AB->AI->Prop}(hh:A.handled=none)(O:s.heap.IsList t g)
  (hQ:∀h',Heap.ExtBut (~~~s) s.heap h'->Q g.toList {s with heap:=h'}):wpAny (model prog w) A (unpackItems (.ref t) g.size none) Q E s:=by
 have N:t≠(~~~s):=by let(o,ho,_):=O;exact bX (ay ho)
 unfold unpackItems;show ab ?_;unfold notIterableAtAll;show ab (wpAny_specialOf O.typeIs PySem.F.slot_list_iter.lookup ?_);show ai ?_;simp only[Bool.false_eq_true,if_false];show ab (cK (ff O ?_));show ab (cK (Jm N g.size 0 _ _ ⟨_,aI _ rfl,rfl,rfl⟩ (O.push _) (!0) λU z q=>?_));have M:List.take g.size (List.drop 0 g.toList)=g.toList:=by rw[List.drop_zero];exact gz (!2)
 rw[M];rw[if_neg (!2)];have L:U.IsList t g:=(O.push _).extBut q.extBut N;show ab (cK (wpAny_pyNext_list_end hh z L (!2) λY J=>?_));simp only[Option.isSome_none,Bool.false_eq_true,if_false];show ai (hQ Y λb o hb e=>J b o hb (q.extBut b o hb (ag _ e)))
theorem aaK{env:Env}{q:AE}{x1}{pos:Pos}{t:AQ}{g:Array AN}{Q:Unit->AI->Prop}(hh:A.handled=none)(J:s.heap.IsList t g)
  (hn:(assignEach q env)⁻¹=g.size) (z:(assignEach q env).findIdx? (·.1)=none)
  (h:∀h',Heap.ExtBut (~~~s) s.heap h'->wpAny (model prog w) A (assignInOrder ((assignEach q env).map (·.2)) g.toList) Q E {s with heap:=h'}):
  wpAny (model prog w) A (assign (.Tuple q x1 pos) env (.ref t)) Q E s:=by
 rw[assign_Tuple];show ab (fv ?_);unfold unpack;rw[hn,z];exact ab (cK (aaJ hh J h))
end
section
variable {X:Cx} {pos:Pos}
def aaL(K:PF)(n:Nat)(t:TGs):TG:=λv Y H Q=>∃a xs,v=.ref a/\SqL K H a xs/\xs⁻¹=n/\t xs Y H Q
theorem aaM{es:AE}{k:Nat}{t:TGs}{n:Nat}(hc:X.calm=true)(h:PGs X es t)
  (hn:(assignEach es X.env)⁻¹=n:=by rfl) (g:(assignEach es X.env).findIdx? (·.1)=none:=by rfl):PG X (.Tuple es k pos) (aaL X.K n t):=by
 intro p9 s Y H v u Q I r hw;let(a,xs,J,L,hl,hw):=hw;subst J;cases r;let(N,q,O,U):=I.list L;show aaK (I.ok.hd hc) O.isList (by simp[hn,<-hl,q⁻¹]) g λh' M=>?_;have z:Inv X p9 Y H {s with heap:=h'}:=I.kept (t':=s.toks) λb o e=>M b o (bX (ay e)) e;exact h p9 _ Y H xs _ Q z (!!q) hw
end
set_option tactic.hygienic true in
mutual
theorem jU(S:Stat Z CX k c E B X):∀(t:Tg){e:AO},bN c t e=true->PG X e (tG X.K B t)
 |.nm i,e,h=>by
  replace h:=yz h;let(x,pos,rfl,h):=h
  .skip;rw[af,a8]at h;let(l,f):=S.sto x h.2;intro p9 s W H v u Q I rv q;show Sd (i:=i) S.nd (by rw[S.N];exact h.1) l f p9 s W H v u Q I rv ?_;let(Y,F,G,d,e0,he,r,rd,hw):=q;unfold aX at hw;exact hw _ (he.set rd i)
 |.tp ts,e,h=>by
  replace h:=yC h;let(es,kk,pos,rfl,h):=h
  .skip;let(h1,h2,h3):=t8 (env:=X.env) h;intro p9 s W H v u Q I rv q;let(Y,F,G,d,e0,he,r,rd,hw):=q;unfold aX at hw;split at hw
   .rename_i ds;show Sw (n:=es⁻¹) S.calm (yH S ts h) h1 h2 p9 s W H v u Q I rv ?_;let(a,vs,e1,q,t):=rd;show⟨a,vs,e1,q.sq,?_,Y,F,G,ds,e0,he,r,t,hw⟩;rw[<-t⁻¹];exact yI ts h hw
   .rename_i ds;show aaM (n:=es⁻¹) S.calm (yH S ts h) h1 h2 p9 s W H v u Q I rv ?_;let(a,vs,e1,q,t):=rd;show⟨a,vs,e1,q.sq,?_,Y,F,G,ds,e0,he,r,t,hw⟩;rw[<-t⁻¹];exact yI ts h hw
   .exact hw.elim
theorem yH(S:Stat Z CX k c E B X):∀(ts:Tgs){es:AE},cR c ts es=true->PGs X es (tGs X.K B ts)
 |.nil,es,h=>by
  unfold cR at h;cases es with
  |nil=>
   intro p9 s W H vs us Q I rv q;show Ss p9 s W H vs us Q I rv ?_;let(Y,F,G,ds,e0,he,r,rd,hw):=q;unfold b7 at hw;split at hw
   .exact ⟨rd,hw _ he⟩
   .exact hw.elim
  |cons _ _=>cases h
 |.cons t r,es,h=>by
  unfold cR at h;split at h
  .rename_i e es;rw[af]at h;intro p9 s W H vs us Q I rv q;have hs:(assignEach (e::es) X.env).map (·.2)=assign e X.env::(assignEach es X.env).map (·.2):=by
    have hh:cR c (.cons t r) (e::es)=true:=by unfold cR;change(bN c t e&&cR c r es)=true;rw[h.1,h.2];rfl
    rw[(t8 (env:=X.env) hh).2.2,(t8 (env:=X.env) h.2).2.2];rfl
   show Su (jU S t h.1) (yH S r h.2) hs p9 s W H vs us Q I rv ?_;let(Y,F,G,ds,e0,he,rr,rd,hw):=q;unfold b7 at hw;split at hw
   .rename_i d ds;let(v,vs',e1,rd1,rds):=rd;show⟨v,vs',e1,Y,F,G,d,e0,he,rr,rd1,eE (λρ' z σ' he'=>?_) t hw⟩;exact⟨ρ',F,G,ds,e0,he',rr,rds,z⟩
   .exact hw.elim
  .cases h
theorem yI{G:DH}:∀(ts:Tgs){es:AE}{ds:AS}{Y:ak}{Q:ak->Prop},cR c ts es=true->b7 ts ds Y G Q->ds⁻¹=es⁻¹
 |.nil,es,ds,Y,Q,h,q=>by
  unfold cR at h;unfold b7 at q;split at q
  .cases es with
   |nil=>rfl
   |cons _ _=>cases h
  .exact q.elim
 |.cons t r,es,ds,Y,Q,h,q=>by
  unfold cR at h;split at h
  .rw[af]at h;unfold b7 at q;split at q
   .rename_i d ds;have:∃ρ',b7 r ds ρ' G Q:=Jo t q;let(ρ',q'):=this;have:=yI r h.2 q';simp[this]
   .exact q.elim
  .cases h
theorem Jo{G:DH}:∀(t:Tg){d:D}{Y:ak}{Q:ak->Prop},aX t d Y G Q->∃ρ',Q ρ'
 |.nm i,d,Y,Q,q=>⟨_,q⟩
 |.tp ts,d,Y,Q,q=>by
  unfold aX at q;split at q
  .exact yJ ts q
  .exact yJ ts q
  .exact q.elim
theorem yJ{G:DH}:∀(ts:Tgs){ds:AS}{Y:ak}{Q:ak->Prop},b7 ts ds Y G Q->∃ρ',Q ρ'
 |.nil,ds,Y,Q,q=>by
  unfold b7 at q;split at q
  .exact ⟨_,q⟩
  .exact q.elim
 |.cons t r,ds,Y,Q,q=>by
  unfold b7 at q;split at q
  .let(ρ',q'):=Jo t q;exact yJ r q'
  .exact q.elim
end
end
structure WalkJ(K:PF)(H:Hp)(F:FZ)(items:AS)(g:Hld)(J:It):Prop where
 go:∀H' F' G i,Ext H F H' F'->R K H' F' G->held g G->i < items.length->J.go i H'
 stop:∀H' F' G,Ext H F H' F'->R K H' F' G->held g G->J.stop items.length H'
 yld:∀H' F' i x H'' d G,Ext H F H' F'->R K H' F' G->held g G->items[i]?=some d->J.yld i H' x H''->Ext H' F' H'' F'/\R K H'' F' G/\Rep K H'' F' d x
section
variable {K:PF} {H:Hp} {F:FZ}
structure Src(K:PF)(H:Hp)(F:FZ)(u:AN)(ds:AS)(g:Hld)(k:SK):Prop where
 val:k.val=u
 sat:∀H' F' G,Ext H F H' F'->R K H' F' G->held g G->∃vs,k.Sat H' vs/\Reps K H' F' ds vs
theorem uc{d:D}{v:V}{u:AN}{G:DH}{ds:AS×Hld}(h:Rep K H F d v)(r:RelV v u)(e:itemsOf G d=-ds):∃k,Src K H F u ds.1 ds.2 k:=by
 cases d with
 |lst xs=>
  simp only[itemsOf,bi]at e;subst e;let(a,vs,g,q,t):=h;subst g;have z:u=Value.ref a:=r;subst z;exact⟨.lst a,rfl,λH' F' J x y y=>⟨vs,(FzL.ext x q).2,Reps.ext x t⟩⟩
 |tup xs=>
  simp only[itemsOf,bi]at e;subst e;let(a,vs,g,q,t):=h;subst g;have z:u=Value.ref a:=r;subst z;exact⟨.tup a,rfl,λH' F' J x y y=>⟨vs,(TpT.ext (K:=K) x q).it,Reps.ext x t⟩⟩
 |str l=>
  simp only[itemsOf,bi]at e;subst e;let(g,hl):=h;subst g;obtain⟨t,z⟩:∃t,u=Value.str (tx l) t:=r;subst z;exact⟨.str (tx l) t,rfl,λH' F' J x y y=>⟨_,rfl,by simpa using yl l⟩⟩
 |ref p=>
  simp only[itemsOf]at e;split at e
  .rename_i xs M;simp only[bi]at e;subst e;have g:v=.ref p:=h;subst g;have z:u=Value.ref p:=r;subst z;exact⟨.lst p,rfl,λH' F' J x L hh=>L.lst hh.1⟩
  .cases e
 |_=>cases e
theorem ud{G:DH}{d:D}{ds:AS×Hld}(e:itemsOf G d=-ds):held ds.2 G:=by
 cases d with
 |ref p=>
  simp only[itemsOf]at e;split at e
  .rename_i xs g;simp only[bi]at e;subst e;exact⟨g,trivial⟩
  .cases e
 |_=>simp only[itemsOf]at e;first | (cases e;done) | (simp only[bi]at e;subst e;exact trivial)
theorem aaN{u:AN}{ds:AS}{g:Hld}{k:SK}(s:Src K H F u ds g k):WalkJ K H F ds g (Jk k) where
 go:=λH' F' G i x r hh hi=>by
  let(vs,h1,h2):=s.sat H' F' G x r hh;exact⟨vs,h1,by rw[<-h2⁻¹];exact hi⟩
 stop:=λH' F' G x r hh=>by
  let(vs,h1,h2):=s.sat H' F' G x r hh;exact⟨vs,h1,h2.length.symm⟩
 yld:=λH' F' i v J d G x r hh M y=>by
  let(e,N):=y;subst e;let(vs,h1,h2):=s.sat _ F' G x r hh;let(w,L,q):=h2.get M;have z:=N vs h1;rw[L]at z;cases z;exact⟨Ext.refl _ _,r,q⟩
theorem jV:∀(n:Nat)(ds:AS),(d8 n ds)⁻¹=ds⁻¹
 |_,[]=>rfl
 |n,d::ds=>by simp[d8,jV (n+1) ds]
theorem jW:∀(n:Nat)(ds:AS)(i:Nat),(d8 n ds)[i]?=(ds[i]?).map λd=>.tup [.int ((n+i:Nat):Int),d]
 |_,[],_=>by simp[d8]
 |n,d::ds,0=>by simp[d8]
 |n,d::ds,i+1=>by
  simp only[d8,List.getElem?_cons_succ];rw[jW (n+1) ds i];congr 1;funext d;rw[show n+1+i=n+(i+1) by lia]
theorem yK:∀(as bs:AS),(cC as bs)⁻¹=min as⁻¹ bs⁻¹
 |[],bs=>by simp[cC]
 |a::as,[]=>by simp[cC]
 |a::as,b::bs=>by simp[cC,yK as bs]
theorem Jp:∀(as bs:AS)(i:Nat)(d:D),(cC as bs)[i]?=-d->∃a b,as[i]?=-a/\bs[i]?=-b/\d=.tup [a,b]
 |[],bs,i,d,h=>by simp[cC]at h
 |a::as,[],i,d,h=>by simp[cC]at h
 |a::as,b::bs,0,d,h=>by simp[cC]at h;exact⟨a,b,rfl,rfl,h.symm⟩
 |a::as,b::bs,i+1,d,h=>by
  simp only[cC,List.getElem?_cons_succ]at h;let(x,y,h1,h2,g):=Jp as bs i d h;exact⟨x,y,!!h1,!!h2,g⟩
theorem aaO{u:AN}{ds:AS}{g:Hld}{k:SK}(s:Src K H F u ds g k):WalkJ K H F (d8 0 ds) g (Je k) where
 go:=λH' F' G i x r hh hi=>by
  let(vs,h1,h2):=s.sat H' F' G x r hh;exact⟨vs,h1,by rw[<-h2⁻¹,<-jV 0];exact hi⟩
 stop:=λH' F' G x r hh=>by
  let(vs,h1,h2):=s.sat H' F' G x r hh;exact⟨vs,h1,by rw[jV];exact h2.length.symm⟩
 yld:=λH' F' i v O d G x r hh N y=>by
  let(vs,h1,h2):=s.sat H' F' G x r hh;let(T,y,J,z,q,Y):=y;subst z q;rw[jW]at N;let(d',L,U):=aE.mp N;subst U;let(w,z,M):=h2.get L;have q:=Y vs h1;rw[z]at q;cases q;show⟨cY r J,r.new J,?_⟩;rw[Nat.zero_add];exact vW r J (Reps.cons rfl (Reps.cons M Reps.nil))
theorem jX{g g':Hld}{G:DH}:held (g++g') G->held g G/\held g' G:=by
 induction g with
 |nil=>exact λh=>⟨trivial,h⟩
 |cons p r q=>
  intro h;let(h1,h2):=q h.2;exact⟨⟨h.1,h1⟩,h2⟩
theorem aaP{u u':AN}{ds es:AS}{g g':Hld}{k l:SK}(s:Src K H F u ds g k)(s':Src K H F u' es g' l):WalkJ K H F (cC ds es) (g++g') (Jz k l) where
 go:=λH' F' G i x r hh hi=>by
  let(vs,h1,h2):=s.sat H' F' G x r (jX hh).1;let(L,q,J):=s'.sat H' F' G x r (jX hh).2;rw[yK]at hi;exact⟨vs,L,h1,q,by rw[<-h2⁻¹];lia,by rw[<-J⁻¹];lia⟩
 stop:=λH' F' G x r hh=>by
  let(vs,h1,h2):=s.sat H' F' G x r (jX hh).1;let(L,q,J):=s'.sat H' F' G x r (jX hh).2;exact⟨vs,L,h1,q,by rw[yK,<-h2⁻¹,<-J⁻¹];lia⟩
 yld:=λH' F' i v H'' d G x r hh hd y=>by
  let(T,y,z,U,N,M,hv,hz):=y;subst N M;let(a,b,ha,hb,O):=Jp _ _ _ _ hd;subst O;let(vs,h1,h2):=s.sat H' F' G x r (jX hh).1;let(L,q,J):=s'.sat H' F' G x r (jX hh).2;let(w,N,Y):=h2.get ha;let(w2,O,rw2):=J.get hb;have M:=hv vs h1;have e4:=hz L q;rw[N]at M;cases M;rw[O]at e4;cases e4;exact⟨cY r U,r.new U,vW r U (Reps.cons Y (Reps.cons rw2 Reps.nil))⟩
theorem aaQ(lo:Int)(n:Nat):WalkJ K H F (aQ lo n) [] (Itr lo n) where
 go:=λH' F' G i x u u hi=>by change i<n;simpa [aQ] using hi
 stop:=λH' F' G x u u=>by change n<=(aQ lo n)⁻¹;simp[aQ]
 yld:=λH' F' i v q d G x r u g y=>by
  let(z,J):=y;subst z J;show⟨Ext.refl _ _,r,?_⟩;unfold aQ at g;rw[aS]at g;let(j,M,L):=aE.mp g;have:j=i:=by have:=ah.mp M;let(h1,h2):=this;simpa using h2.symm
  subst this;subst L;rfl
end
def tI(K:PF)(B:Bs)(w:ak->DH->(AS->Hld->DH->Prop)->Prop):TI:=λX H L=>∃Y F G,Ext B.H B.F H F/\EnvR K H F Y X/\R K H F G/\
 w Y G (λq g z=>∀H' F' J,Ext H F H' F'->R K H' F' z->WalkJ K H' F' q g J->L J H')
section
variable {Z:aj} {CX:CXT} {k:Nat} {c:CT} {E:EK} {B:Bs} {X:Cx}
theorem ue{p9:AC}{Y:L2.St}{H:Hp}{s:AI}(I:Inv X p9 Y H s){q:SK}{vs:AR}(h:q.Sat H vs):∃g:Array AN,q.On g s.heap:=by
 cases q with
 |lst a=>let(g,_,z,_):=I.list (SqL.of (show H a=-_ from h));exact⟨g.toArray,z.isList⟩
 |tup a=>let(g,_,z,_):=I.tuple (SqT.of (show H a=-_ from h));exact⟨g.toArray,z⟩
 |str x t=>exact⟨#[],trivial⟩
theorem aaR{x:Ex}(ih:OkE Z c E B X x){tg e:AO}(h:aa c x e=true):PI X tg e (tI X.K B (wpI Z (.seq x) E)):=by
 intro p9 s W H Rr I q;let(Y,F,G,e0,he,r,hw):=q;rw[wC]at hw;have q':tE X.K B (wpE Z x E) W H (λv H1=>∃z G1 d g,R X.K H1 z G1/\Rep X.K H1 z d v/\itemsOf G1 d=-g/\∀J,WalkJ X.K H1 z g.1 g.2 J->Rr J H1):=
  aL e0 he r hw λd G1 H1 z u q e1 x1 he1 O ru=>by
   split at q
   .rename_i ds N;exact⟨z,G1,d,ds,O,ru,N,λJ w=>q H1 z J x1 O w⟩
   .exact q.elim
 show thn (ih h p9 s W H _ I q') λu U zZ=>?_;let(v,H1,M,rv,z,G1,d,g,O,rd,N,q1):=zZ;let(kk,L):=uc rd rv N;let(vs,sat,_):=L.sat H1 z G1 (Ext.refl _ _) O (ud N);let(its,on):=ue M sat;rw[<-L.val];show SK.iter on ?_;show⟨U.heap.objs.size,[U.heap.objs.size],_,_,H1,rfl,M.kept (t':=U.toks) λb o e=>ag _ e,Zx kk _,SK.pos0,λb hb=>?_,q1 _ (aaN L)⟩;have e:b=U.heap.objs.size:=by simpa using hb
 subst e;exact M.fpOk (av _) (M.hok.fresh (av _))
theorem aaS(S:Stat Z CX k c E B X){a:Ex}(ih:OkE Z c E B X a){tg e:AO}(h:bO c (.rng a) tg e=true):PI X tg e (tI X.K B (wpI Z (.rng a) E)):=by
 replace h:=Iv h;let(_,_,_,_,rfl,h):=h
 .simp only[af,a8]at h;let(((z,h1),hm),h2):=h;subst z;let(O,g2):=dw h1;have g:=S.blt _ (bB.mp hm);have hs:=cG _ [] X.env (du (bV a h2));intro p9 s W H L I q;show S8 (S.glo _ O) g (eN (ih h2) fZ hs) hs p9 s W H L I ?_;let(Y,F,G,M,he,r,hw):=q;rw[wD]at hw;show aL M he r hw λd G1 H1 J u q z x1 U r1 ru=>?_;split at q
  .rename_i n;have N:u=.int n:=ru;subst N;exact⟨n,rfl,q.1.1,q.1.2,q.2 H1 J _ x1 r1 (aaQ 0 n.toNat)⟩
  .exact q.elim
theorem aaT(S:Stat Z CX k c E B X){a:Ex}(ih:OkE Z c E B X a){tg e:AO}(h:bO c (.enm a) tg e=true):PI X tg e (tI X.K B (wpI Z (.enm a) E)):=by
 replace h:=Iw h;let(_,_,_,_,_,_,_,rfl,rfl,h):=h
 .skip
  .simp only[af,a8]at h;let(((e1,h1),hm),h2):=h;subst e1;let(g1,g2):=dw h1;have hmg:=S.blt _ (bB.mp hm);have hs:=cG _ [] X.env (du (bV a h2));intro p9 s V H Rr I q;let(Y,F,G,e0,he,r,hw):=q;rw[wF]at hw;have q':tL X.K B (bx Z (.cons a .nil) E) V H (λvs H1=>∃v z G1 d g,vs=[v]/\R X.K H1 z G1/\Rep X.K H1 z d v/\itemsOf G1 d=-g/\∀J,WalkJ X.K H1 z (d8 0 g.1) g.2 J->Rr J H1):=by
    show dX (W:=λds G1=>∃d g,ds=[d]/\itemsOf G1 d=-g/\∀H' F' J,Ext H F H' F'->R X.K H' F' G1->WalkJ X.K H' F' (d8 0 g.1) g.2 J->Rr J H') e0 he r ?_ λds G1 H1 z vs q e1 x1 he1 r1 rvs=>?_
    .rw[iH];show aJ a (λd G1 q=>?_) hw;rw[jN];split at q
     .rename_i g O;exact⟨d,g,rfl,O,q⟩
     .exact q.elim
    .let(d,g,e2,O,q):=q;subst e2;let(v,e3,rv):=bH rvs;exact⟨v,z,G1,d,g,e3,r1,rv,O,λJ w=>q H1 z J x1 r1 w⟩
   show Call_ (iw I (S.glo _ g1) hmg (u:=.type "enumerate") boot_enumerate (fe (thn (tY ih (λh=>yG h) (c:=c) (es:=[_]) (by unfold aN;change(aa c a _&&true)=true;rw[h2];rfl) _ p9 s V H _ I q') λus L zZ=>?_) hs rfl) (cT g2) (b8 g2));let(vs,H1,N,r1v,q1):=zZ;let(v,z,G1,d,g,e1,r1,rd,O,q1):=q1;subst e1;let(u,rfl,ru):=vals1 r1v;let(kk,M):=uc rd ru O;let(vs,sat,_):=M.sat H1 z G1 (Ext.refl _ _) r1 (ud O);let(its,on):=ue N sat;rw[<-M.val];show ZL on λh' U hit hsz hk=>?_;show wpAny_pyIter_enum U ?_;have n1:H1 L.heap.objs.size=none:=N.hok.fresh (av _);have n2:H1 (L.heap.objs.size+1)=none:=N.hok.fresh (gd _);show⟨L.heap.objs.size+1,[L.heap.objs.size+1,L.heap.objs.size],_,_,H1,rfl,N.kept (t':=L.toks) hk,Zw kk _ _ (Nat.succ_ne_self _),⟨⟨_,U⟩,hit⟩,λb hb=>?_,q1 _ (aaO M)⟩;have hb':b=L.heap.objs.size+1\/b=L.heap.objs.size:=by simpa using hb
   rcases hb' with rfl|rfl
   .exact N.fpOk (gd _) n2
   .exact N.fpOk (av _) n1
theorem zap(n:Nat):ZApart (n+4) (n+2) (n+3) n (n+1):=
 ⟨(by lia:(n+2:Nat)≠n+4),(by lia:(n+3:Nat)≠n+4),(by lia:(n:Nat)≠n+4),(by lia:(n+1:Nat)≠n+4),(by lia:(n+2:Nat)≠n+3),(by lia:(n+2:Nat)≠n),(by lia:(n+2:Nat)≠n+1),(by lia:(n+3:Nat)≠n),(by lia:(n+3:Nat)≠n+1),(by lia:(n:Nat)≠n+1)⟩
theorem aaU(S:Stat Z CX k c E B X){a b:Ex}(iha:OkE Z c E B X a)(ihb:OkE Z c E B X b){tg e:AO}(h:bO c (.zip a b) tg e=true):PI X tg e (tI X.K B (wpI Z (.zip a b) E)):=by
 replace h:=Iz h;let(_,_,_,_,_,v,v',pos,rfl,rfl,h):=h
 .skip
  .simp only[af,a8]at h;let((((e1,h1),hm),h2),h3):=h;subst e1;let(g1,g2):=dw h1;have hmg:=S.blt _ (bB.mp hm);have hs2:=cG v' [] X.env (du (bV b h3));have hs:=cG v [v'] X.env (du (bV a h2));intro p9 s V H Rr I q;let(Y,F,G,e0,he,r,hw):=q;rw[wG]at hw;have hA:aN c (.cons a (.cons b .nil)) [v,v']=true:=by
    unfold aN aN aN;change(aa c a v&&(aa c b v'&&true))=true;rw[h2,h3];rfl
   have q':tL X.K B (bx Z (.cons a (.cons b .nil)) E) V H (λvs H1=>∃v v' O G1 d d' z g,vs=[v,v']/\R X.K H1 O G1/\Rep X.K H1 O d v/\Rep X.K H1 O d' v'/\itemsOf G1 d=-z/\itemsOf G1 d'=-g/\∀J,WalkJ X.K H1 O (cC z.1 g.1) (z.2++g.2) J->Rr J H1):=by
    show dX (W:=λds G1=>∃d d' z g,ds=[d,d']/\itemsOf G1 d=-z/\itemsOf G1 d'=-g/\∀H' F' J,Ext H F H' F'->R X.K H' F' G1->WalkJ X.K H' F' (cC z.1 g.1) (z.2++g.2) J->Rr J H') e0 he r ?_ λds G1 H1 O vs q e1 x1 he1 r1 rvs=>?_
    .rw[iH];show aJ a (λd G1 q=>?_) hw;rw[iH];show aJ b (λd' G2 q=>?_) q;rw[jN];split at q
     .rename_i z g hd M;exact⟨d,d',z,g,rfl,hd,M,q⟩
     .exact q.elim
    .let(d,d',z,g,e2,hd,M,q):=q;subst e2;let(w1,r2,e3,rw1,t2):=rvs;let(w2,e4,rw2):=bH t2;subst e4;exact⟨w1,w2,O,G1,d,d',z,g,e3,r1,rw1,rw2,hd,M,λJ w=>q H1 O J x1 r1 w⟩
   show Call_ (iw I (S.glo _ g1) hmg (u:=.type "zip") Vx (fe (thn (tY iha (λh=>tY ihb (λh=>yG h) h) (c:=c) (es:=[v,v']) hA _ p9 s V H _ I q') λus L ⟨vs,H1,U,r1v,q1⟩=>?_) hs (by rw[hs2];rfl)) (cT g2) (b8 g2));let(w1,w2,O,G1,d,d',z,g,e1,r1,rd,rd',hd,M,q1):=q1;subst e1;let(u,u',rfl,ru,ru'):=vals2 r1v;let(kk,src):=uc rd ru hd;let(ll,N):=uc rd' ru' M;let(vs,sat,_):=src.sat H1 O G1 (Ext.refl _ _) r1 (ud hd);let(ws,sat',_):=N.sat H1 O G1 (Ext.refl _ _) r1 (ud M);let(its,on):=ue U sat;let(its',on'):=ue U sat';rw[<-src.val,<-N.val];show ZJ on on' λh' hz hTI hTO p1 p2 hsz hk=>?_;show wpAny_pyIter_zip hz ?_;have fr:∀j,H1 (L.heap.objs.size+j)=none:=λj=>U.hok.fresh (dc _ _);show⟨L.heap.objs.size+4,[L.heap.objs.size+4,L.heap.objs.size+2,L.heap.objs.size+3,L.heap.objs.size,L.heap.objs.size+1],_,_,H1,rfl,U.kept (t':=L.toks) hk,
    ZD kk ll (L.heap.objs.size+4) (L.heap.objs.size+2) (L.heap.objs.size+3) L.heap.objs.size (L.heap.objs.size+1) (zap L.heap.objs.size),⟨hz,hTI,⟨_,_,hTO⟩,p1,p2⟩,λb hb=>?_,q1 _ (aaP src N)⟩
   have hb':b=L.heap.objs.size+4\/b=L.heap.objs.size+2\/b=L.heap.objs.size+3\/b=L.heap.objs.size\/b=L.heap.objs.size+1:=by simpa using hb
   rcases hb' with rfl|rfl|rfl|rfl|rfl
   .exact U.fpOk (dc _ _) (fr 4)
   .exact U.fpOk (dc _ _) (fr 2)
   .exact U.fpOk (dc _ _) (fr 3)
   .exact U.fpOk (av _) (fr 0)
   .exact U.fpOk (dc _ _) (fr 1)
end
section
variable {Z:aj} {CX:CXT} {k:Nat} {c:CT} {E:EK} {B:Bs} {X:Cx}
theorem yL:∀{l:AD},dJ l=true->l.Nodup
 |[],_=>eW
 |x::r,h=>by
  unfold dJ at h;rw[af]at h;show db.mpr ⟨λg=>?_,yL h.2⟩;have:=h.1;rw[bB.mpr g]at this;cases this
theorem jY{N:AD}{scope:Scope}:∀{N':AD}{cap:List (Option Nat)},X.N=N->eZ N scope N' cap=true->Caps X scope N' cap
 |[],[],_,_=>trivial
 |_::N',none::cap,e,h=>jY (N':=N') (cap:=cap) e h
 |x::N',-j::cap,e,h=>by
  unfold eZ at h;simp only[af,a8]at h;exact⟨⟨by rw[e];exact h.1.1,h.1.2⟩,jY (N':=N') (cap:=cap) e h.2⟩
 |[],_::_,_,h=>by cases h
 |_::_,[],_,h=>by cases h
theorem mD{scope:Scope}{env:Env}(x:Str):(relabel scope env).names.lookup x=(scope.names.lookup x).map λg=>if(g==NameKind.free&&env.scope.kind==.function&&env.kindOf x==-.cell)=true then NameKind.cell else g:=vo
theorem Stat.comp(S:Stat Z CX k c E B X){N':AD}{scope:Scope}(hn:dJ N'=true)(L:List (Str×AQ))(C:AQ)(J:AI)(g:Hp)(fp:List AQ)(pn:AC):
  Stat Z CX k (c.comp N' scope) noE B (X.comp N' scope L C J g fp pn) where
 N:=rfl
 nd:=yL hn
 calm:=S.calm
 own:=PassesOwn.never
 kd:=rfl
 vis:=λx h=>by
  have h:iQ (scope.names.lookup x)=true:=h;change(relabel scope X.env).names.lookup x=_\/(relabel scope X.env).names.lookup x=_\/(relabel scope X.env).names.lookup x=_;rw[mD];cases e:scope.names.lookup x with
  |none=>rw[e]at h;cases h
  |some M=>
   rw[e]at h;cases M with
   | «local»=>exact .inl (by simp[show(NameKind.«local»==NameKind.free)=false by decide])
   |cell=>exact .inr (.inl (by simp[show(NameKind.cell==NameKind.free)=false by decide]))
   |free=>
    by_cases q:(NameKind.free==NameKind.free&&X.env.scope.kind==ScopeKind.function&&X.env.kindOf x==-NameKind.cell)=true
    .exact .inr (.inl (by simp only[Option.map_some,if_pos q]))
    .exact .inr (.inr (by simp only[Option.map_some,if_neg q]))
   |globalExplicit=>cases h
   |globalImplicit=>cases h
 cel:=λx h=>by
  have h:scope.names.lookup x=-.cell\/scope.names.lookup x=-.free:=h;change(relabel scope X.env).names.lookup x=_\/(relabel scope X.env).names.lookup x=_;rw[mD];rcases h with h|h
  .exact .inl (by rw[h];simp[show(NameKind.cell==NameKind.free)=false by decide])
  .rw[h];by_cases q:(NameKind.free==NameKind.free&&X.env.scope.kind==ScopeKind.function&&X.env.kindOf x==-NameKind.cell)=true
   .exact .inl (by simp only[Option.map_some,if_pos q])
   .exact .inr (by simp only[Option.map_some,if_neg q])
 glo:=λx h=>by
  have h:scope.names.lookup x=-.globalImplicit:=h;change(relabel scope X.env).names.lookup x=_;rw[mD,h];simp[show(NameKind.globalImplicit==NameKind.free)=false by decide]
 sto:=λx h=>by
  have h:(scope.names.lookup x==-.local||(false&&scope.names.lookup x==-.cell))=true:=h;rw[Bool.false_and,Bool.or_false,a8]at h;have e:(relabel scope X.env).names.lookup x=-.local:=by rw[mD,h];simp[show(NameKind.«local»==NameKind.free)=false by decide]
  exact⟨.inl e,.inr e⟩
 room:=S.room
 call:=S.call
 blt:=S.blt
 con:=S.con
 exc:=⟨_,S.nox _,λy y y y y y y y y y q=>q.elim,λx O H' F' h=>h.elim⟩
 nox:=S.nox
 xcl:=λC h=>nZf h
 loc:=λx h=>by change(relabel scope X.env).names.lookup x=_;rw[mD,show scope.names.lookup x=-.local from h];simp[show(NameKind.«local»==NameKind.free)=false by decide]
 xis:=λC h=>nZf h
 mth:=S.mth
 mko:=S.mko
 fld:=S.fld
 xko:=λC f h=>⟨(S.xko C f h).1,λy y z=>nomatch (show false=true from z)⟩
 trc:=λh=>absurd rfl h
theorem Jq(S:Stat Z CX k c E B X){t:Tx}(J:OkT Z c E B X t){g:AE}(h:gP c t g=true):PIf X g (tB' X.K B (wpT Z t E)):=by
 unfold gP at h;rw[dP]at h;rcases h with h|h
 .rw[af,fg]at h;let(z,rfl):=h;cases t with
  |yes=>
   intro p9 s W H Q I q;show Vi p9 s W H Q I ?_;let(Y,F,G,L,he,r,hw):=q;rw[ww]at hw;exact hw.now r
  |_=>cases z
 .let(e,he,h):=aW h;rw[cQ he];exact Vj (J h)
theorem Jr(S:Stat Z CX k c E B X){fz:Bool}{elt:Ex}{tg:Tg}{it:It'}{cond:Tx}{N':AD}{cap:List (Option Nat)}{scope:Scope}{elt' tg':AO}{ifs:AE}(hn:dJ N'=true)
  (ihe:∀{X':Cx},Stat Z CX k (c.comp N' scope) noE B X'->OkE Z (c.comp N' scope) noE B X' elt) (iht:∀{X':Cx},Stat Z CX k (c.comp N' scope) noE B X'->OkT Z (c.comp N' scope) noE B X' cond)
  (hg:bN (c.comp N' scope) tg tg'=true) (hi:gP (c.comp N' scope) cond ifs=true) (he:aa (c.comp N' scope) elt elt'=true)
  {V:L2.St} {H:Hp} {Q:VK} {Y:ak} {F:FZ} {G:DH} (e0:Ext B.H B.F H F) (henv:EnvR X.K H F Y V) (r:R X.K H F G)
  (hw:wpI Z it E Y G λL g G1=>
   compLoop (λd N O k'=>aX tg d N O λM=>wpT Z cond noE M O λb U=>match b with|true=>wpE Z elt noE M U λy G3=>k' (-y) M G3|false=>k' none M U)
    g L [] (cap.map λo=>match o with|none=>none|some j=>(Y[j]?).join) G1 λds U=>mk fz ds U (PV X.K H F Q)):
  tI X.K B (wpI Z it E) V H (λJ H1=>vD true X N' scope tg' (emT ifs elt') J (d7 cap V) H1 Q):=by
 show⟨Y,F,G,e0,henv,r,gm it (λL g G1 q H1 F1 J x1 r1 W=>?_) hw⟩;let step:D->ak->DH->(Option D->ak->DH->Prop)->Prop:=λd N O k'=>aX tg d N O λM=>wpT Z cond noE M O λb U=>match b with|true=>wpE Z elt noE M U λy G3=>k' (-y) M G3|false=>k' none M U
 let fin:AS->DH->Prop:=λds U=>mk fz ds U (PV X.K H F Q)
 show⟨λi m ys σ' H'=>m=L⁻¹-i/\i<=L⁻¹/\∃N F' O acc,Ext B.H B.F H' F'/\Ext H1 F1 H' F'/\EnvR X.K H' F' N σ'/\R X.K H' F' O/\Reps X.K H' F' acc ys/\compLoop step g (L.drop i) acc N O fin,
  ⟨L⁻¹,!2,ck _,_,F1,G1,[],e0.trans x1,Ext.refl _ _,(henv.ext x1).cap cap,r1,rfl,q⟩,?_⟩
 rintro i m ys σ' H' ⟨rfl,hle,N,F',O,acc,eB,e1,he',r',ra,hl⟩;by_cases hlt:i<L⁻¹
 .have hd:L.drop i=L[i]::L.drop (i+1):=bn hlt;rw[hd]at hl;let(hh,hz,hl):=hl;show .inr ⟨W.go H' F' O i e1 r' hh hlt,λu=>by rw[<-ra⁻¹];exact bp hz szl,λcl C s₁ H₁ fp pn=>?_⟩;have S':=S.comp (scope:=scope) hn cl C s₁ H₁ fp pn;show⟨_,tmT _ _,jU S' tg hg,λa ha=>DQ rfl ha (Jq S' (iht S') hi) (ihe S' he),λx H2 hy=>?_⟩;let(xy,ry,rx):=W.yld H' F' i x H2 L[i] O e1 r' hh (by simp[hlt]) hy;show⟨N,F',O,L[i],eB.trans xy,he'.ext xy,ry,rx,eE (λM z σ1 hσ1=>?_) tg hl⟩;unfold tmT;show gQ (eB.trans xy) hσ1 ry z λb U H3 F3 z e3 x3 he3 r3=>?_;cases b with
  |true=>
   rw[if_pos rfl];show aL e3 he3 r3 z λy G4 H4 F4 v z e4 x4 he4 r4 rv=>?_;exact⟨L⁻¹-(i+1),!0,rfl,hlt,M,F4,G4,acc++[y],e4,e1.trans (xy.trans (x3.trans x4)),he4,r4,(Reps.ext (xy.trans (x3.trans x4)) ra).append (Reps.cons rv Reps.nil),z⟩
  |false=>
   rw[if_neg bg];exact⟨L⁻¹-(i+1),!0,rfl,hlt,M,F3,U,acc,e3,e1.trans (xy.trans x3),he3,r3,Reps.ext (xy.trans x3) ra,z⟩
 .have hi':i=L⁻¹:=by lia
  subst hi';rw[d6]at hl;let(hh,hz,hl):=hl;show .inl ⟨W.stop H' F' O e1 r' hh,by rw[<-ra⁻¹];exact dg hz,λp hp=>?_⟩;exact dq (dj (λd O z=>PV.later z (x1.trans e1)) hl) r' ra p hp
structure CompC(c:CT)(elt:Ex)(tg:Tg)(it:It')(cond:Tx)(N':AD)(cap:List (Option Nat))(elt' tg' iter:AO)(ifs:AE)(scope:Scope):Prop where
 it:bO c it tg' iter=true
 cap:eZ c.N scope N' cap=true
 sc:eF c scope=true
 nd:dJ N'=true
 tg:bN (c.comp N' scope) tg tg'=true
 cd:gP (c.comp N' scope) cond ifs=true
 el:aa (c.comp N' scope) elt elt'=true
theorem jZ(S:Stat Z CX k c E B X){scope:Scope}(h:eF c scope=true):scope.names.all (λy=>y.2 != NameKind.cell)=true/\scope.names.all (λy=>y.2 != NameKind.local||scope.names.lookup y.1==-NameKind.local)=true/\
  scope.names.all (λy=>y.2 != NameKind.free||(X.env.kindOf y.1==-NameKind.cell||X.env.kindOf y.1==-NameKind.free))=true/\scope.kind=.function:=by
 unfold eF at h;simp only[af,ce]at h;let((((h1,h2),g),z),_):=h;show⟨h1,h2,?_,z⟩;rw[bS]at g ⊢;intro y J;have:=g y J;rw[dP,dP,a8,a8]at this;rw[dP,dP,a8,a8];rcases this with q|q
 .exact .inl q
 .exact .inr (S.cel y.1 q)
theorem Js{fz:Bool}{elt:Ex}{tg:Tg}{it:It'}{cond:Tx}{N:List AL}{cap:List (Option Nat)}{e:AO}(h:aa c (.comp fz elt tg it cond N cap) e=true):
  ∃g z iter q scope pos,e=.ListComp g [⟨z,iter,q,0⟩] scope pos/\CompC c elt tg it cond (N.map Str.ofString) cap g z iter q scope:=by
 replace h:=Iu h;let(_,_,_,_,_,_,_,rfl,h):=h;simp only[af,ce]at h;let(((((((h1,h2),J),L),M),O),U),Y):=h;subst h1;exact⟨_,_,_,_,_,_,rfl,h2,J,L,M,O,U,Y⟩
theorem iV{it:It'}{g iter:AO}(h:bO c it g iter=true)(env:Env)(x:AN):foldedSetIterable iter env x=pure x:=by
 cases it with
 |seq y=>exact yF (bV y (show aa c y iter=true from h)) env x
 |rng a=>let(_,_,_,_,rfl,_):=Iv h;rfl
 |enm a=>let(_,_,_,_,_,_,_,_,rfl,_):=Iw h;rfl
 |zip a b=>let(_,_,_,_,_,_,_,_,_,rfl,_):=Iz h;rfl
theorem Jt{K:PF}{H:Hp}{F:FZ}:∀{ds:AS}{ks:List (List Int)}{vs:AR},dO ds=-ks->Reps K H F ds vs->Paired (L2.isT H) vs (ks.map aV)
 |[],ks,vs,e,t=>by cases e;cases t;exact .nil
 |.tup l::r,ks,vs,e,t=>by
  unfold dO at e;split at e
  .rename_i k L g q;cases e;let(v,N,rfl,M,t'):=t;let(n,b,hn,z,J,_):=jQ (k:=λn=>n=k) M (by unfold cz;dsimp only;rw[g]);subst hn;exact .cons ⟨b,z,J⟩ (Jt q t')
  .cases e
 |.non::_,ks,vs,e,t=>nomatch e
 |.bl _::_,ks,vs,e,t=>nomatch e
 |.int _::_,ks,vs,e,t=>nomatch e
 |.str _::_,ks,vs,e,t=>nomatch e
 |.lst _::_,ks,vs,e,t=>nomatch e
 |.ref _::_,ks,vs,e,t=>nomatch e
 |.scr _::_,ks,vs,e,t=>nomatch e
 |.exn _::_,ks,vs,e,t=>nomatch e
 |.exa _ _ _::_,ks,vs,e,t=>nomatch e
 |.obj _ _ _::_,ks,vs,e,t=>nomatch e
 |.dct _ _::_,ks,vs,e,t=>nomatch e
theorem Ju:∀(ks:List (List Int))(g:List (List Int))(kv:List (List Key×V)),kv.map (·.1)=g.map aV->(∀p∈kv,p.2=.bl true)->
  ((ks.map aV).foldl (λkv k=>putD kv k (.bl true)) kv).map (·.1)=(ks.foldl (λg k=>if k∈g then g else g++[k]) g).map aV/\∀p∈(ks.map aV).foldl (λkv k=>putD kv k (V.bl true)) kv,p.2=.bl true
 |[],g,kv,h1,h2=>⟨h1,h2⟩
 |k::ks,g,kv,h1,h2=>by
  rw[a7,ft,ft];have O:(kv.any λp=>decide (p.1=aV k))=decide (k∈g):=by
   rw[d4,ce,gg];constructor
   .rintro ⟨p,q,e⟩;have:p.1∈g.map aV:=by rw[<-h1];exact aT.mpr ⟨p,q,rfl⟩
    let(k',L,N):=aT.mp this;rw[dS e]at N;rwa [ye N]at L
   .intro J;have:aV k∈kv.map (·.1):=by rw[h1];exact aT.mpr ⟨k,J,rfl⟩
    let(p,q,e):=aT.mp this;exact⟨p,q,bo e⟩
  show Ju ks _ _ ?_ ?_
  .unfold putD;rw[O];by_cases J:k∈g
   .rw[if_pos (bo J),if_pos J,<-h1,b6];show b9 λp y=>?_;change(if p.1=aV k then(p.1,V.bl true) else p).1=p.1;split<;>rfl
   .rw[if_neg (!!J),if_neg J,cf,cf,h1];rfl
  .unfold putD;intro p q;split at q
   .let(U,M,rfl):=aT.mp q;split
    .rfl
    .exact h2 U M
   .rcases ba.mp q with z|z
    .exact h2 p z
    .rw[al.mp z]
theorem Jv{K:PF}{H:Hp}{F:FZ}:∀{kv:List (List Key×V)},(∀p∈kv,p.2=.bl true)->Reps K H F (List.replicate kv⁻¹ (.bl true)) (kv.map (·.2))
 |[],_=>rfl
 |p::kv,h=>⟨_,_,rfl,h p a9,Jv λq g=>h q (bm _ g)⟩
theorem Jw{Q:VK}{k':AT}{G1:DH}{H1:Hp}{J:FZ}{d:D}{v:V}(g:R X.K H1 J G1)(rv:Rep X.K H1 J d v)(q:dcK (view G1 d) λks=>∀p,G1 p=none->k' (.ref p) (aP G1 p (.dct (dH ks) (List.replicate (dH ks)⁻¹ (.bl true)))))
  (h:∀d O H2 L v,k' d O->Ext H1 J H2 L->R X.K H2 L O->Rep X.K H2 L d v->Q v H2):∃p vs ks,v=.ref p/\SqL X.K H1 p vs/\Paired (L2.isT H1) vs ks/\ks⁻¹<sizeLine/\∀D,H1 D=none->Q (.ref D) (upd H1 D (.dT (cI ks))):=by
 generalize Y:view G1 d=w at q;cases w with
 |lst ds=>
  have q:(match dO ds with|some ks=>ks⁻¹<sz/\_|none=>False):=q;cases N:dO ds with
  |none=>rw[N]at q;exact q.elim
  |some ks=>
   rw[N]at q;let(q1,q2):=q;let(p,vs,rfl,sq,t):=Rep.list g rv Y;show⟨p,vs,ks.map aV,rfl,sq,Jt N t,by rw[ae];exact bp q1 szl,λD M=>?_⟩;have x:=cY (o:=.dT (cI (ks.map aV))) g M;let(f1,f2):=Ju ks [] [] rfl (λp U=>nomatch U);have hl:(dH ks)⁻¹=(cI (ks.map aV))⁻¹:=by have:=fb List.length f1;rw[ae,ae]at this;exact this.symm
   show h _ _ _ _ _ (q2 D (g.free M)) x (g.dctAt x (λf=>by let(vs,z):=(g.fz D f).2;rw[M]at z;cases z) f1 ?_) rfl;rw[hl];exact Jv f2
 |_=>exact(show False from q).elim
theorem aaV(S:Stat Z CX k c E B X){a:Ex}(J:OkE Z c E B X a){e:AO}(h:aa c (.dcT a) e=true):PE X e (tE X.K B (wpE Z (.dcT a) E)):=by let(x,pk,j,pv,px,iter,scope,pos,rfl,M,hs,hx,g):=yD h;let(s1,s2,s3,s4):=jZ S hs;show peI (W8 S.calm (by have:=eG S;lia) (J M) s1 s2 s3 s4 hx (b8 g) (yF (bV a M) X.env)) λW H Q hq=>el hq λY F G O he r hw=>?_;rw[rZ]at hw;exact aL O he r hw λd G1 H1 F1 v q e1 x1 U r1 rv=>Jw r1 rv q λd G' H2 N v z x2 r2 L=>z H2 N v (x1.trans x2) r2 L
theorem aaW(S:Stat Z CX k c E B X){fz:Bool}{elt:Ex}{tg:Tg}{it:It'}{cond:Tx}{N:List AL}{cap:List (Option Nat)}
  (L:∀{z:CT}{q:Cx},Stat Z CX k z noE B q->OkE Z z noE B q elt) (O:∀{z:CT}{q:Cx},Stat Z CX k z noE B q->OkT Z z noE B q cond)
  (M:∀{g iter:AO},bO c it g iter=true->PI X g iter (tI X.K B (wpI Z it E))) {e:AO} (h:aa c (.comp fz elt tg it cond N cap) e=true):
  PE X e (tE X.K B (wpE Z (.comp fz elt tg it cond N cap) E)):=by
 let(U,g,iter,ifs,scope,pos,rfl,C):=Js h;let(s1,s2,s3,s4):=jZ S C.sc;show peI (DY (lim:=true) (N.map Str.ofString) cap S.calm (M C.it) (jY S.N C.cap) s1 s2 s3 s4 (iV C.it X.env) (DP _ _ _ _ _ _)) λW H Q hq=>el hq λY F G e0 he r hw=>?_;rw[xR]at hw;exact Jr S C.nd (λJ=>L J) (λJ=>O J) C.tg C.cd C.el e0 he r hw
def RelM(K:PF)(B:Bs)(N:AS->ak->DH->(AS->ak->DH->Prop)->Prop)(O:TM):Prop:=
 ∀(X:L2.St)(H:Hp)(Y:ak)(F:FZ)(G:DH)(q:AS)(ys:AR)(W:AS->ak->DH->Prop)(Q:AR->L2.St->Hp->Prop),Ext B.H B.F H F->EnvR K H F Y X->R K H F G->Reps K H F q ys->N q Y G W->
  (∀g J M H' F' L z,W g J M->Ext H F H' F'->EnvR K H' F' J L->R K H' F' M->Reps K H' F' g z->Q z L H')->O ys X H Q
theorem Jx{K:PF}{t:Tg}{eD:AS->ak->DH->(AS->ak->DH->Prop)->Prop}{tm:TM}(hr:RelM K B eD tm){L:AS}{g:Hld}{Y:ak}{G:DH}{M:AS}{ys:AR}{X:L2.St}{H:Hp}{F:FZ}{J:It}{W:AS->ak->DH->Prop}{Q:AR->L2.St->Hp->Prop}
  (e0:Ext B.H B.F H F) (he:EnvR K H F Y X) (r:R K H F G) (ra:Reps K H F M ys) (Wk:WalkJ K H F L g J) (hw:eY (λd M N O k=>aX t d N O λρ1=>eD M ρ1 O k) g L M Y G W)
  (hk:∀U N O H' F' σ' ys',W U N O->Ext H F H' F'->EnvR K H' F' N σ'->R K H' F' O->Reps K H' F' U ys'->Q ys' σ' H'):DW J (tG K B t) tm ys X H Q:=by
 show⟨λi m ys σ' H'=>m=L⁻¹-i/\i<=L⁻¹/\∃N F' O M,Ext B.H B.F H' F'/\Ext H F H' F'/\EnvR K H' F' N σ'/\R K H' F' O/\Reps K H' F' M ys/\eY (λd M N O k=>aX t d N O λρ1=>eD M ρ1 O k) g (L.drop i) M N O W,
  ⟨L⁻¹,!2,ck _,Y,F,G,M,e0,Ext.refl _ _,he,r,ra,hw⟩,?_⟩
 rintro i m ys σ' H' ⟨rfl,hle,N,F',O,M,eB,e1,he',r',ra,hl⟩;by_cases hlt:i<L⁻¹
 .have hd:L.drop i=L[i]::L.drop (i+1):=bn hlt;rw[hd]at hl;let(hh,hl):=hl;show .inr ⟨Wk.go H' F' O i e1 r' hh hlt,λx H2 hy=>?_⟩;let(xy,ry,rx):=Wk.yld H' F' i x H2 L[i] O e1 r' hh (by simp[hlt]) hy;show⟨N,F',O,L[i],eB.trans xy,he'.ext xy,ry,rx,eE (λρ1 z σ1 hσ1=>?_) t hl⟩;show hr _ _ _ _ _ _ _ _ _ (eB.trans xy) hσ1 ry (Reps.ext xy ra) z λU ρ2 G2 H3 F3 σ3 ys3 q x3 he3 r3 ra3=>?_;exact⟨L⁻¹-(i+1),!0,rfl,hlt,ρ2,F3,G2,U,(eB.trans xy).trans x3,e1.trans (xy.trans x3),he3,r3,ra3,q⟩
 .have hi':i=L⁻¹:=by lia
  subst hi';rw[d6]at hl;exact .inl ⟨Wk.stop H' F' O e1 r' hl.1,hk _ _ _ _ _ _ _ hl.2 e1 he' r' ra⟩
theorem aaX{K:PF}{t:Tg}{it:It'}{eD:AS->ak->DH->(AS->ak->DH->Prop)->Prop}{tm:TM}(hr:RelM K B eD tm):
  RelM K B (λM Y G k=>wpI Z it noE Y G λL g G1=>eY (λd M N U k=>aX t d N U λρ1=>eD M ρ1 U k) g L M Y G1 k) (tmG (tI K B (wpI Z it noE)) (tG K B t) tm):=by
 intro X H Y F G M ys W Q e0 he r ra hw hk;show⟨Y,F,G,e0,he,r,gm it (λL g G1 q H1 F1 J O r1 Wk=>?_) hw⟩;exact Jx hr (e0.trans O) (he.ext O) r1 (Reps.ext O ra) Wk q λacc' N U H' F' σ' ys' z x2 he2 r2 ra2=>hk _ _ _ _ _ _ _ z (O.trans x2) he2 r2 ra2
theorem aaY{K:PF}{elt:Ex}{cond:Tx}:RelM K B (λg Y G k=>g⁻¹<sz/\wpT Z cond noE Y G λb N=>match b with|true=>wpE Z elt noE Y N λy O=>k (g++[y]) Y O|false=>k g Y N)
  (λys X H Q=>ys⁻¹<sizeLine/\tmT (tB' K B (wpT Z cond noE)) (tE K B (wpE Z elt noE)) ys X H Q):=by
 intro X H Y F G g ys W Q e0 he r M hw U;show⟨by rw[<-M⁻¹];exact bp hw.1 szl,?_⟩;unfold tmT;show gQ e0 he r hw.2 λb G2 H3 F3 z e3 J q r3=>?_;cases b with
 |true=>
  rw[if_pos rfl];exact aL e3 q r3 z λy O H4 F4 v z e4 x4 L r4 rv=>U _ _ _ _ _ _ _ z (J.trans x4) L r4 ((Reps.ext (J.trans x4) M).append (Reps.cons rv Reps.nil))
 |false=>
  rw[if_neg bg];exact U _ _ _ _ _ _ _ z J q r3 (Reps.ext J M)
theorem Jy(S:Stat Z CX k c E B X){elt:Ex}{t1 t2:Tg}{i1 i2:It'}{cond:Tx}{N':AD}{cap:List (Option Nat)}{scope:Scope}{M a1 b1 a2 b2:AO}{ifs:AE}{pos:Pos}(hn:dJ N'=true)
  (ihe:∀{L:Cx},Stat Z CX k (c.comp N' scope) noE B L->OkE Z (c.comp N' scope) noE B L elt) (iht:∀{L:Cx},Stat Z CX k (c.comp N' scope) noE B L->OkT Z (c.comp N' scope) noE B L cond)
  (ih2:∀{L:Cx},Stat Z CX k (c.comp N' scope) noE B L->PI L a2 b2 (tI L.K B (wpI Z i2 noE)))
  (f2:∀env x,foldedSetIterable b2 env x=pure x)
  (hg1:bN (c.comp N' scope) t1 a1=true) (hg2:bN (c.comp N' scope) t2 a2=true) (hi:gP (c.comp N' scope) cond ifs=true) (he:aa (c.comp N' scope) elt M=true)
  {V:L2.St} {H:Hp} {Q:VK} {Y:ak} {F:FZ} {G:DH} (e0:Ext B.H B.F H F) (N:EnvR X.K H F Y V) (r:R X.K H F G)
  (hw:wpE Z (.cm2 elt t1 i1 t2 i2 cond N0 cap) E Y G (PV X.K H F Q)):
  tI X.K B (wpI Z i1 E) V H (λJ H1=>vD false X N' scope a1 (emG (.ListComp M [⟨a1,b1,[],0⟩,⟨a2,b2,ifs,0⟩] scope pos) 1 b2) J (d7 cap V) H1 Q):=by
 rw[xr]at hw;show⟨Y,F,G,e0,N,r,gm i1 (λitems g G1 q H1 F1 J x1 r1 W=>?_) hw⟩;have rel:=aaX (Z:=Z) (K:=X.K) (B:=B) (t:=t2) (it:=i2) (aaY (Z:=Z) (elt:=elt) (cond:=cond));let(WW,(m0,w0),turn):=Jx (t:=t1) (Q:=λys y H'=>ys⁻¹<=sizeLine/\∀D,H' D=none->Q (.ref D) (upd H' D (.lst ys))) rel (e0.trans x1) ((N.ext x1).cap cap) r1 (Reps.nil) W q λacc' ρ' G' H' F' σ' ys' z x2 he2 r2 ra2=>
  ⟨by rw[<-ra2⁻¹];exact dg z.1,λp hp=>dq (dj (λd G' z=>PV.later z (x1.trans x2)) z.2) r2 ra2 p hp⟩
 show⟨WW,⟨m0,w0⟩,λi m ys σ' H' w=>?_⟩;rcases turn i m ys σ' H' w with⟨st,z1,z2⟩|⟨go,step⟩
 .exact .inl ⟨st,z1,z2⟩
 .show .inr ⟨go,(λz=>nomatch z),λcl C s₁ U fp pn=>?_⟩;have O:=S.comp (scope:=scope) hn cl C s₁ U fp pn;exact⟨_,_,jU O t1 hg1,λa ha=>Wh rfl O.calm rfl (Wg _ _ _ _ _ _ _ _) (ih2 O) (jU O t2 hg2) (f2 _) (Wf rfl ha (Jq O (iht O) hi) (ihe O he)),step⟩
theorem aaZ(S:Stat Z CX k c E B X){elt:Ex}{t1 t2:Tg}{L M:It'}{cond:Tx}{N:List AL}{cap:List (Option Nat)}
  (ihe:∀{z:CT}{q:Cx},Stat Z CX k z noE B q->OkE Z z noE B q elt) (iht:∀{z:CT}{q:Cx},Stat Z CX k z noE B q->OkT Z z noE B q cond) (O:∀{g iter:AO},bO c L g iter=true->PI X g iter (tI X.K B (wpI Z L E)))
  (U:∀{z:CT}{q:Cx},Stat Z CX k z noE B q->∀{g iter:AO},bO z M g iter=true->PI q g iter (tI q.K B (wpI Z M noE))) {e:AO} (h:aa c (.cm2 elt t1 L t2 M cond N cap) e=true):
  PE X e (tE X.K B (wpE Z (.cm2 elt t1 L t2 M cond N cap) E)):=by
 let(elt',a1,b1,a2,b2,ifs,scope,pos,rfl,c1,c2,c3,c4,c5,c6,c7,c8,c9):=yE h;let(s1,s2,s3,s4):=jZ S c3;show peI (DY (lim:=false) (N.map Str.ofString) cap S.calm (O c1) (jY S.N c2) s1 s2 s3 s4 (iV c1 X.env) (DR _ _ _ _ _ _ _ _)) λW H Q hq=>el hq λY F G e0 he r hw=>?_;exact Jy S c4 (λJ=>ihe J) (λJ=>iht J) (λJ=>U J c6) (iV c6) c5 c7 c8 c9 e0 he r hw
theorem bK{x:Ex}(q:OkE Z c E B X x)(hn:∀l z J pos,aa c x (.Compare l z J pos)=true->False){e:AO}(h:bJ c (.val x) e=true):PT X e (tB' X.K B (wpT Z (.val x) E)):=by
 have h:((iT e||mq e)&&aa c x e&&Hw x)=true:=h;simp only[af,dP]at h;let((h1,h2),L):=h;rcases h1 with h1|h1
 .exact aaG q h1 h2
 .let((t,g),_):=cS.mp h1;rw[g]at h2;exact(hn _ _ _ _ h2).elim
end
mutual
theorem aC{Z:aj}{CX:CXT}{k:Nat}{B:Bs}:∀(x:Ex){c:CT}{E:EK}{X:Cx},Stat Z CX k c E B X->OkE Z c E B X x
 |.var i,c,E,X,S=>λh=>aaf S h
 |.cst d,c,E,X,S=>λh=>aag S h
 |.glb x d,c,E,X,S=>λh=>aah S h
 |.bin op fz a b,c,E,X,S=>λh=>aai S (aC a S) (aC b S) h
 |.neg a,c,E,X,S=>λh=>aaj S (aC a S) h
 |.cmp op a b,c,E,X,S=>λh=>(Jc S (aC a S) (aC b S) h).1
 |.chn op op' a b d,c,E,X,S=>λh=>(Jd S (aC a S) (aC b S) (aC d S) h).1
 |.not a,c,E,X,S=>λh=>aak S (aC a S) h
 |.boo isAnd e es,c,E,X,S=>λh=>aaE (aC e S) (gU es S) h
 |.ife t a b,c,E,X,S=>λh=>aaF (fP t S) (aC a S) (aC b S) h
 |.tup es,c,E,X,S=>λh=>aal S (EachE.oks (gU es S)) h
 |.lst fz es,c,E,X,S=>λh=>aam S (EachE.oks (gU es S)) h
 |.idx a i,c,E,X,S=>λh=>aan S (aC a S) (aC i S) h
 |.slc fz a lo hi,c,E,X,S=>λh=>aaq S (aC a S) (JC lo S) (JC hi S) h
 |.rvs fz a s,c,E,X,S=>λh=>aar S (aC a S) (aC s S) h
 |.call f es,c,E,X,S=>λh=>aat S (EachE.oks (gU es S)) h
 |.bcl f es,c,E,X,S=>λh=>aau S (EachE.oks (gU es S)) h
 |.lcl fz f es,c,E,X,S=>λh=>aav S (EachE.oks (gU es S)) h
 |.isi a t,c,E,X,S=>λh=>aaB S (aC a S) h
 |.rgl fz a,c,E,X,S=>λh=>aay S (aC a S) h
 |.lns a,c,E,X,S=>λh=>aax S (aC a S) h
 |.rgt a,c,E,X,S=>λh=>aaz S (aC a S) h
 |.mth m o es,c,E,X,S=>λh=>aaD S (aC o S) (EachE.oks (gU es S)) h
 |.comp fz elt tg it cond N cap,c,E,X,S=>λh=>aaW S (λS'=>aC elt S') (λS'=>fP cond S') (iW it S) h
 |.frz a,c,E,X,S=>λh=>aas S (aC a S) h
 |.dnw,c,E,X,S=>λh=>aao S h
 |.dcT a,c,E,X,S=>λh=>aaV S (aC a S) h
 |.cm2 elt t1 i1 t2 i2 cond N cap,c,E,X,S=>λh=>aaZ S (λS'=>aC elt S') (λS'=>fP cond S') (iW i1 S) (λS'=>iW i2 S') h
 |.dp1 a b,c,E,X,S=>λh=>aap S (aC a S) (aC b S) h
theorem gU{Z:aj}{CX:CXT}{k:Nat}{B:Bs}:∀(x:Exs){c:CT}{E:EK}{X:Cx},Stat Z CX k c E B X->EachE Z c E B X x
 |.nil,_,_,_,_=>trivial
 |.cons e es,c,E,X,S=>⟨aC e S,gU es S⟩
theorem fP{Z:aj}{CX:CXT}{k:Nat}{B:Bs}:∀(x:Tx){c:CT}{E:EK}{X:Cx},Stat Z CX k c E B X->OkT Z c E B X x
 |.not t,c,E,X,S=>λh=>aaH (fP t S) h
 |.boo isAnd t ts,c,E,X,S=>λh=>aaI (fP t S) (JB ts S) h
 |.yes,c,E,X,S=>λh=>nZf h
 |.val (.cmp op a b),c,E,X,S=>by
  intro h;have h:((iT _||mq _)&&aa c (.cmp op a b) _&&true)=true:=h;simp only[af]at h;exact(Jc S (aC a S) (aC b S) h.1.2).2
 |.val (.chn op op' a b d),c,E,X,S=>by
  intro h;have h:((iT _||mq _)&&aa c (.chn op op' a b d) _&&true)=true:=h;simp only[af]at h;exact(Jd S (aC a S) (aC b S) (aC d S) h.1.2).2
 |.val (.frz a),c,E,X,S=>by
  intro h;have h:((iT _||mq _)&&aa c (.frz a) _&&false)=true:=h;rw[gS]at h;cases h
 |.val .dnw,c,E,X,S=>λh=>bK (aC .dnw S) (λz z z z h=>nZf h) h
 |.val (.dcT a),c,E,X,S=>λh=>bK (aC (.dcT a) S) (λz z z z h=>nZf h) h
 |.val (.cm2 elt t1 i1 t2 i2 cond N cap),c,E,X,S=>λh=>bK (aC (.cm2 elt t1 i1 t2 i2 cond N cap) S) (λz z z z h=>nZf h) h
 |.val (.dp1 a b),c,E,X,S=>λh=>bK (aC (.dp1 a b) S) (λz z z z h=>nZf h) h
 |.val (.var i),c,E,X,S=>λh=>bK (aC (.var i) S) (λz z z z h=>nZf h) h
 |.val (.cst d),c,E,X,S=>λh=>bK (aC (.cst d) S) (λz z z z h=>nZf h) h
 |.val (.glb x d),c,E,X,S=>λh=>bK (aC (.glb x d) S) (λz z z z h=>nZf h) h
 |.val (.bin op fz a b),c,E,X,S=>λh=>bK (aC (.bin op fz a b) S) (λz z z z h=>nZf h) h
 |.val (.neg a),c,E,X,S=>λh=>bK (aC (.neg a) S) (λz z z z h=>nZf h) h
 |.val (.not a),c,E,X,S=>λh=>bK (aC (.not a) S) (λz z z z h=>nZf h) h
 |.val (.boo isAnd e es),c,E,X,S=>λh=>bK (aC (.boo isAnd e es) S) (λz z z z h=>nZf h) h
 |.val (.ife t a b),c,E,X,S=>λh=>bK (aC (.ife t a b) S) (λz z z z h=>nZf h) h
 |.val (.tup es),c,E,X,S=>λh=>bK (aC (.tup es) S) (λz z z z h=>nZf h) h
 |.val (.lst fz es),c,E,X,S=>λh=>bK (aC (.lst fz es) S) (λz z z z h=>nZf h) h
 |.val (.idx a i),c,E,X,S=>λh=>bK (aC (.idx a i) S) (λz z z z h=>nZf h) h
 |.val (.slc fz a lo hi),c,E,X,S=>λh=>bK (aC (.slc fz a lo hi) S) (λz z z z h=>nZf h) h
 |.val (.rvs fz a s),c,E,X,S=>λh=>bK (aC (.rvs fz a s) S) (λz z z z h=>nZf h) h
 |.val (.call f es),c,E,X,S=>λh=>bK (aC (.call f es) S) (λz z z z h=>nZf h) h
 |.val (.bcl f es),c,E,X,S=>λh=>bK (aC (.bcl f es) S) (λz z z z h=>nZf h) h
 |.val (.lcl fz f es),c,E,X,S=>λh=>bK (aC (.lcl fz f es) S) (λz z z z h=>nZf h) h
 |.val (.rgl fz a),c,E,X,S=>λh=>bK (aC (.rgl fz a) S) (λz z z z h=>nZf h) h
 |.val (.lns a),c,E,X,S=>λh=>bK (aC (.lns a) S) (λz z z z h=>nZf h) h
 |.val (.rgt a),c,E,X,S=>λh=>bK (aC (.rgt a) S) (λz z z z h=>nZf h) h
 |.val (.isi a t),c,E,X,S=>λh=>bK (aC (.isi a t) S) (λz z z z h=>nZf h) h
 |.val (.mth m o es),c,E,X,S=>λh=>bK (aC (.mth m o es) S) (λz z z z h=>nZf h) h
 |.val (.comp fz elt tg it cond N cap),c,E,X,S=>λh=>bK (aC (.comp fz elt tg it cond N cap) S) (λz z z z h=>nZf h) h
theorem JB{Z:aj}{CX:CXT}{k:Nat}{B:Bs}:∀(x:Txs){c:CT}{E:EK}{X:Cx},Stat Z CX k c E B X->t6 Z c E B X x
 |.nil,_,_,_,_=>trivial
 |.cons e es,c,E,X,S=>⟨fP e S,JB es S⟩
theorem JC{Z:aj}{CX:CXT}{k:Nat}{B:Bs}:∀(x:Ox){c:CT}{E:EK}{X:Cx},Stat Z CX k c E B X->∀y,x=.ob y->OkE Z c E B X y
 |.no,c,E,X,S,y,e=>by cases e
 |.ob z,c,E,X,S,y,e=>by injection e with e;subst e;exact aC z S
theorem iW{Z:aj}{CX:CXT}{k:Nat}{B:Bs}:∀(x:It'){c:CT}{E:EK}{X:Cx},Stat Z CX k c E B X->∀{tg e:AO},bO c x tg e=true->PI X tg e (tI X.K B (wpI Z x E))
 |.seq y,c,E,X,S,tg,e,h=>aaR (aC y S) (show aa c y e=true from h)
 |.rng a,c,E,X,S,tg,e,h=>aaS S (aC a S) h
 |.enm a,c,E,X,S,tg,e,h=>aaT S (aC a S) h
 |.zip a b,c,E,X,S,tg,e,h=>aaU S (aC a S) (aC b S) h
end
def EnD(K:PF)(H:Hp)(F:FZ)(D:Ends):En where
 nx:=λY q=>∀H' F' g,Ext H F H' F'->EnvR K H' F' Y g->R K H' F' q->D.nx g H'
 rt:=PV K H F D.rt
 bk:=λY q=>∀H' F' g,Ext H F H' F'->EnvR K H' F' Y g->R K H' F' q->D.bk g H'
 ct:=λY q=>∀H' F' g,Ext H F H' F'->EnvR K H' F' Y g->R K H' F' q->D.ct g H'
def EnD.later{K:PF}{H H1:Hp}{F z:FZ}{D:Ends}(x:Ext H F H1 z):(EnD K H F D).Le (EnD K H1 z D):=
 ⟨λy y h H' F' g q=>h H' F' g (x.trans q),λy y h=>PV.later h x,λy y h H' F' g q=>h H' F' g (x.trans q),λy y h H' F' g q=>h H' F' g (x.trans q)⟩
def tS(K:PF)(B:Bs)(w:ak->DH->En->Prop):TS:=λD X H=>∃Y F G,Ext B.H B.F H F/\EnvR K H F Y X/\R K H F G/\w Y G (EnD K H F D)
def psI{X:Cx}{st:Stmt}{t t':TS}(h:PS X st t)(i:∀D Y H,t' D Y H->t D Y H):PS X st t':=λp9 s Y H D I q=>h p9 s Y H D I (i D Y H q)
def JD{X:Cx}{st:AF}{t t':TS}(h:PSs X st t)(i:∀D Y H,t' D Y H->t D Y H):PSs X st t':=λp9 s Y H D I q=>h p9 s Y H D I (i D Y H q)
def yM{e:AO}(h:dU e=false)(t:Option AO)(n:Nat)(env:Env):swapsWith e t n env=pure false:=by cases e<;>first|rfl|exact nomatch (show true=false from h)
def JF{e:AO}(h:dU e=false)(t:AO)(n:Nat)(env:Env):swapsWithSole [t] e n env=pure false:=yM h _ _ _
section
variable {Z:aj} {CX:CXT} {k:Nat} {c:CT} {E:EK} {B:Bs} {X:Cx}
abbrev OkS(Z:aj)(c:CT)(E:EK)(B:Bs)(X:Cx)(x:Sx):Prop:=∀{st:Stmt},bQ c x st=true->PS X st (tS X.K B (wpS Z x E))
abbrev j4(Z:aj)(c:CT)(E:EK)(B:Bs)(X:Cx)(x:Sxs):Prop:=∀{st:AF},aD c x st=true->PSs X st (tS X.K B (az Z x E))
theorem aa0(S:Stat Z CX k c E B X){x:Ex}{st:Stmt}(h:bQ c (.exp x) st=true):PS X st (tS X.K B (wpS Z (.exp x) E)):=by
 replace h:=ZZ h;let(_,_,rfl,h):=h
 .rw[af]at h;show psI (R1 (aC x S h.2) (yM (!!h.1) _ _ _)) λD W H J=>el J λY F G z he r hw=>?_;rw[xF]at hw;exact aL z he r hw λd G1 H1 N v q O M g L U=>q _ _ _ M g L
theorem aa1(S:Stat Z CX k c E B X){i:Nat}{x:Ex}{st:Stmt}(h:bQ c (.asg (.nm i) x) st=true):PS X st (tS X.K B (wpS Z (.asg (.nm i) x) E)):=by
 replace h:=IK h;let(tg,e,pos,rfl,h):=h
 .simp only[af]at h;let((h1,h2),h3):=h;have h3:(!dU e||Hy x)=true:=h3;replace h1:=yz h1;let(y,py,rfl,h1):=h1
  .rw[af,a8]at h1;let(l,f):=S.sto y h1.2;have hi:X.N[i]?=-y:=by rw[S.N];exact h1.1
   have go:∀(D:Ends)(W:L2.St)(H:Hp),tS X.K B (wpS Z (.asg (.nm i) x) E) D W H->jw (tE X.K B (wpE Z x E)) (ju i) D W H:=λD W H hq=>el hq λY F G e0 he r hw=>by
    rw[iJ]at hw;show aL e0 he r hw λd G1 H1 F1 v q e1 U he1 r1 rv=>?_;unfold aX at q;exact q _ _ _ U (he1.set rv i) r1
   cases hc:dU e with
   |false=>exact psI (qN S.nd hi l (aC x S h2) (yM hc _ _ _) f) go
   |true=>
    rw[hc,Bool.not_true,Bool.false_or]at h3;cases x with
    |comp fz elt tg it cond N cap=>
     let(M,tg',iter,ifs,scope,J,rfl,C):=Js h2;let(s1,s2,s3,s4):=jZ S C.sc;have L:∃b:Bool,swapsWith (.ListComp M [⟨tg',iter,ifs,0⟩] scope J) (-(.Name y py)) pos.line X.env=pure b:=⟨_,rfl⟩;let(b,L):=L;cases b with
     |false=>exact psI (qN S.nd hi l (aC _ S h2) L f) go
     |true=>
      show psI (Ea (lim:=true) (DP _ _ _ _ _ _) S.nd hi l (N.map Str.ofString) cap S.calm (iW it S C.it) (jY S.N C.cap) s1 s2 s3 s4 (iV C.it X.env) L f) λD W H hq=>el hq λY F G e0 he r hw=>?_;rw[iJ]at hw;rw[xR]at hw;show Jr (fz:=fz) (Q:=λv H1=>D.nx (W.set i (-v)) H1) S C.nd (λO=>aC elt O) (λO=>fP cond O) C.tg C.cd C.el e0 he r (gm it (λitems g G1 q=>?_) hw);show sy (λd ρ' G' k1 k2 hk z=>eE (λρ1 z=>dm cond (λb G2 z=>by
       cases b with
       |true=>exact aJ elt (λy G3 z=>hk _ _ _ z) z
       |false=>exact hk _ _ _ z) z) tg z) ?_ _ _ _ _ q
      .intro ds G2 q;show dj (λd G3 q=>?_) q;intro H1 F1 v U r1 rv;unfold aX at q;exact q _ _ _ U ((he.ext U).set rv i) r1
    |dcT a=>
     let(x',pk,j,pv,px,iter,scope,J,rfl,ha,hs,hx,hok):=yD h2;let(s1,s2,s3,s4):=jZ S hs;have L:∃b:Bool,swapsWith (.DictComp (.Name x' pk) (.Constant (.bool true) j pv) [⟨.Name x' px,iter,[],0⟩] scope J) (-(.Name y py)) pos.line X.env=pure b:=⟨_,rfl⟩;let(b,L):=L;cases b with
     |false=>exact psI (qN S.nd hi l (aC _ S h2) L f) go
     |true=>
      show psI (W9 S.nd hi l S.calm (by have:=eG S;lia) (aC a S ha) s1 s2 s3 s4 hx (b8 hok) (yF (bV a ha) X.env) L f) λD W H hq=>el hq λY F G e0 he r hw=>?_;rw[iJ]at hw;rw[rZ]at hw;show aL e0 he r hw λd G1 H1 F1 v q e1 U he1 r1 rv=>Jw (k':=λd G'=>aX (.nm i) d Y G' λρ'=>(EnD X.K H F D).nx ρ' G') (Q:=λv H1=>D.nx (W.set i (-v)) H1) r1 rv q λd G' H2 F2 v z x2 r2 rv2=>?_;unfold aX at z;exact z _ _ _ (U.trans x2) ((he1.ext x2).set rv2 i) r2
    |cm2 elt t1 i1 t2 i2 cond N cap=>
     let(M,a1,b1,a2,b2,ifs,scope,J,rfl,c1,c2,c3,c4,c5,c6,c7,c8,c9):=yE h2;let(s1,s2,s3,s4):=jZ S c3;have L:∃b:Bool,swapsWith (.ListComp M [⟨a1,b1,[],0⟩,⟨a2,b2,ifs,0⟩] scope J) (-(.Name y py)) pos.line X.env=pure b:=⟨_,rfl⟩;let(b,L):=L;cases b with
     |false=>exact psI (qN S.nd hi l (aC _ S h2) L f) go
     |true=>
      show psI (Ea (lim:=false) (DR _ _ _ _ _ _ _ _) S.nd hi l (N.map Str.ofString) cap S.calm (iW i1 S c1) (jY S.N c2) s1 s2 s3 s4 (iV c1 X.env) L f) λD W H hq=>el hq λY F G e0 he r hw=>?_;rw[iJ]at hw;show Jy (Q:=λv H1=>D.nx (W.set i (-v)) H1) S c4 (λO=>aC elt O) (λO=>fP cond O) (λO=>iW i2 O c6) (iV c6) c5 c7 c8 c9 e0 he r (aJ _ (λd G3 q=>?_) hw);intro H1 F1 v U r1 rv;unfold aX at q;exact q _ _ _ U ((he.ext U).set rv i) r1
    |_=>cases h3
theorem aa2(S:Stat Z CX k c E B X){ts:Tgs}{x:Ex}{st:Stmt}(h:bQ c (.asg (.tp ts) x) st=true):PS X st (tS X.K B (wpS Z (.asg (.tp ts) x) E)):=by
 replace h:=IK h;let(tg,e,pos,rfl,h):=h
 .rw[af,af]at h;have g:(!Hz e&&!dU e)=true:=h.2;let(h1,h2):=h.1;rw[af,gN,gN]at g;let(h3,h4):=g;have hg:=jU S (.tp ts) h1;replace h1:=yC h1;let(_,_,_,rfl,h1):=h1
  .show psI (BR (aC x S h2) hg (JF h4 _ _ _) ?_ rfl) λD W H hq=>el hq λY F G U he r hw=>?_
   .cases e<;>first|rfl|exact nomatch (show true=false from h3)
   .rw[iJ]at hw;show aL U he r hw λd G1 H1 N v q e1 x1 J O rv=>?_;exact⟨Y,N,G1,d,e1,J,O,rv,eE (λρ' z M L=>z H1 N M x1 L O) (.tp ts) q⟩
theorem aa3(S:Stat Z CX k c E B X){o i x:Ex}{st:Stmt}(h:bQ c (.set o i x) st=true):PS X st (tS X.K B (wpS Z (.set o i x) E)):=by
 replace h:=Z0 h;let(o',i',N,e,pos,rfl,h):=h
 .simp only[af,gN]at h;let(((h1,h2),h3),h4):=h;have hi:=bV i h2;show psI (BR (aC x S h3) (SJ (aC o S h1) (aC i S h2) (Zq (eG S)) ?_) (JF h4 _ _ _) ?_ rfl) λD W H hq=>el hq λY F G e0 he r hw=>?_
  .intro v;cases i'<;>first|rfl|exact nomatch (show false=true from hi)
  .cases e<;>rfl
  .rw[xG]at hw;show aL e0 he r hw λd G1 H1 F1 v q e1 x1 g r1 rv=>?_;show aL e1 g r1 q λa G2 H2 F2 w q e2 O z r2 L=>?_;show aL e2 z r2 q λy G3 H3 F3 u q e3 M J r3 ru=>?_;show⟨F3,G3,a,y,d,r3,L.ext M,ru,rv.ext (O.trans M),Gs (λG4 q=>?_) q⟩;intro H4 F4 U r4;exact q _ _ _ (x1.trans (O.trans (M.trans U))) (J.ext U) r4
theorem aa4(S:Stat Z CX k c E B X){i:Nat}{op:Operator}{x:Ex}{st:Stmt}(h:bQ c (.aug i op x) st=true):PS X st (tS X.K B (wpS Z (.aug i op x) E)):=by
 replace h:=Z1 h;let(y,py,o,e,pos,rfl,h):=h
 .simp only[af,a8]at h;let((((rfl,h1),h2),h3),U):=h;let(l,f):=S.sto y h2;show psI (SN S.nd (by rw[S.N];exact h1) l (aC x S U) (Zr o) f) λD W H hq=>el hq λY F G O he r hw=>?_;rw[xH]at hw;split at hw
  .rename_i a ha;let(v,J,rv):=he.get ha;show⟨v,J,aL O he r hw λb G1 H1 N u q J L g r1 ru=>?_⟩;show⟨N,G1,a,b,r1,rv.ext L,ru,Gu (λd q=>?_) q⟩;intro H2 F2 w M r2 z;exact q _ _ _ (L.trans M) ((g.ext M).set z i) r2
  .exact hw.elim
theorem aa5(S:Stat Z CX k c E B X){x:Ex}{st:Stmt}(h:bQ c (.ret x) st=true):PS X st (tS X.K B (wpS Z (.ret x) E)):=by
 replace h:=Z2 h;let(_,_,rfl,h):=h
 .show psI (R3 (aC x S h)) λD W H q=>el q λY F G g he r hw=>?_;rw[xJ]at hw;exact⟨Y,F,G,g,he,r,hw⟩
theorem aa6{st:Stmt}(h:bQ c .rtn st=true):PS X st (tS X.K B (wpS Z .rtn E)):=by
 replace h:=Z3 h;let(_,rfl,h):=h
 .show psI R5 λD W H g=>el g λY F G q he r hw=>?_;rw[xK]at hw;exact hw.now r rfl
theorem aa7(S:Stat Z CX k c E B X){t:Tx}{a b:Sxs}(z:j4 Z c E B X a)(J:j4 Z c E B X b){st:Stmt}(h:bQ c (.ite t a b) st=true):PS X st (tS X.K B (wpS Z (.ite t a b) E)):=by
 replace h:=Z4 h;let(_,_,_,_,rfl,h):=h
 .simp only[af]at h;let((h1,h2),h3):=h;show psI (R7 (fP t S h1) (z h2) (J h3)) λD W H hq=>el hq λY F G e0 he r hw=>?_;rw[xM]at hw;show gQ e0 he r hw λU G1 H1 L q M O g N=>?_;cases U with
  |true=>
   rw[if_pos rfl];exact⟨Y,L,G1,M,g,N,dR a (EnD.later O) q⟩
  |false=>
   rw[if_neg bg];exact⟨Y,L,G1,M,g,N,dR b (EnD.later O) q⟩
theorem aa8(S:Stat Z CX k c E B X){t:Tg}{it:It'}{b:Sxs}(ihb:j4 Z c E B X b){st:Stmt}(h:bQ c (.for_ t it b) st=true):PS X st (tS X.K B (wpS Z (.for_ t it b) E)):=by
 replace h:=Z5 h;let(tg,iter,body,pos,rfl,h):=h
 .simp only[af]at h;let((h1,h2),h3):=h;show psI (Tc S.own S.calm (iW it S h2) (jU S t h1) (ihb h3) (iV h2 X.env)) λD V H hq=>el hq λY F G e0 he r hw=>?_;rw[Ge]at hw;show⟨Y,F,G,e0,he,r,gm it (λL g G1 q H1 F1 J x1 r1 W=>?_) hw⟩;let step:RF.D->ak->DH->(ak->DH->Prop)->Prop:=λd M N k=>aX t d M N λρ1=>az Z b E ρ1 N {EnD X.K H F D with nx:=k,ct:=k,bk:=(EnD X.K H F D).nx}
  let P:Nat->L2.St->Hp->Prop:=λi σ' H'=>∃M F' N,Ext B.H B.F H' F'/\Ext H1 F1 H' F'/\EnvR X.K H' F' M σ'/\R X.K H' F' N/\forLoop step g (L.drop i) M N (EnD X.K H F D).nx
  show⟨λi m σ' H'=>m=L⁻¹-i/\i<=L⁻¹/\P i σ' H',⟨L⁻¹,!2,ck _,Y,F1,G1,e0.trans x1,Ext.refl _ _,he.ext x1,r1,q⟩,?_⟩;rintro i m σ' H' ⟨rfl,hle,M,F',N,eB,e1,he',r',hl⟩;by_cases O:i<L⁻¹
  .have hd:L.drop i=L[i]::L.drop (i+1):=bn O;rw[hd]at hl;let(hh,hl):=hl;show .inr ⟨W.go H' F' N i e1 r' hh O,P (i+1),λσ2 H2 p=>⟨L⁻¹-(i+1),!0,rfl,O,p⟩,λx H2 hy=>?_⟩;let(U,ry,rx):=W.yld H' F' i x H2 L[i] N e1 r' hh (by simp[O]) hy;show⟨M,F',N,L[i],eB.trans U,he'.ext U,ry,rx,eE (λρ1 z σ1 hσ1=>?_) t hl⟩;show⟨ρ1,F',N,eB.trans U,hσ1,ry,dR b (D:={EnD X.K H F D with nx:=λM N=>forLoop step g (L.drop (i+1)) M N (EnD X.K H F D).nx,ct:=λM N=>forLoop step g (L.drop (i+1)) M N (EnD X.K H F D).nx,bk:=(EnD X.K H F D).nx}) ⟨λρ2 G2 z H3 F3 σ3 x3 he3 r3=>?_,λd G2 z=>PV.later z (x1.trans (e1.trans U)),λρ2 G2 z H3 F3 σ3 x3=>z H3 F3 σ3 (x1.trans (e1.trans (U.trans x3))),λρ2 G2 z H3 F3 σ3 x3 he3 r3=>?_⟩ z⟩
   .exact ⟨ρ2,F3,G2,eB.trans (U.trans x3),e1.trans (U.trans x3),he3,r3,z⟩
   .exact ⟨ρ2,F3,G2,eB.trans (U.trans x3),e1.trans (U.trans x3),he3,r3,z⟩
  .have hi':i=L⁻¹:=by lia
   subst hi';rw[d6]at hl;exact .inl ⟨W.stop H' F' N e1 r' hl.1,hl.2 _ _ _ (x1.trans e1) he' r'⟩
theorem aa9(S:Stat Z CX k c E B X){t:Tx}{b:Sxs}(ihb:j4 Z c E B X b){st:Stmt}(h:bQ c (.whl t b) st=true):PS X st (tS X.K B (wpS Z (.whl t b) E)):=by
 replace h:=Z6 h;let(_,_,_,rfl,h):=h
 .simp only[af]at h;let(h1,h2):=h;show psI (SX S.own (fP t S h1) (ihb h2)) λD W H hq=>el hq λY F G e0 he r hw=>?_;rw[Gf]at hw;let(n,hw):=hw;let L:ak->DH->(Bool->DH->Prop)->Prop:=λg J k=>wpT Z t E g J k
  let bd:ak->DH->(ak->DH->Prop)->Prop:=λg J k=>az Z b E g J {EnD X.K H F D with nx:=k,ct:=k,bk:=(EnD X.K H F D).nx}
  let P:Nat->L2.St->Hp->Prop:=λm σ' H'=>∃g F' J,Ext B.H B.F H' F'/\Ext H F H' F'/\EnvR X.K H' F' g σ'/\R X.K H' F' J/\whileLoop L bd m g J (EnD X.K H F D).nx
  show⟨P,⟨n,Y,F,G,e0,Ext.refl _ _,he,r,hw⟩,?_⟩;rintro m σ' H' ⟨g,F',J,eB,e1,he',r',hl⟩;cases m with
  |zero=>exact hl.elim
  |succ m=>
   show gQ eB he' r' hl λb' G1 H1 F1 q e2 x2 he2 r2=>?_;cases b' with
   |true=>
    rw[if_pos rfl];show⟨P m,λσ2 H2 p=>⟨m,gX _,p⟩,g,F1,G1,e2,he2,r2,dR b (D:={EnD X.K H F D with nx:=λg J=>whileLoop L bd m g J (EnD X.K H F D).nx,ct:=λg J=>whileLoop L bd m g J (EnD X.K H F D).nx,bk:=(EnD X.K H F D).nx}) ⟨λM G2 z H3 F3 U O N r3=>?_,λd G2 z=>PV.later z (e1.trans x2),λM G2 z H3 F3 U O=>z H3 F3 U (e1.trans (x2.trans O)),λM G2 z H3 F3 U O N r3=>?_⟩ q⟩
    .exact ⟨M,F3,G2,e2.trans O,e1.trans (x2.trans O),N,r3,z⟩
    .exact ⟨M,F3,G2,e2.trans O,e1.trans (x2.trans O),N,r3,z⟩
   |false=>
    rw[if_neg bg];exact q _ _ _ (e1.trans x2) he2 r2
theorem aba{st:AF}(h:aD c .nil st=true):PSs X st (tS X.K B (az Z .nil E)):=by
 unfold aD at h;cases st with
 |nil=>exact JD RP λD W H g=>el g λY F G q he r hw=>by rw[lN]at hw;exact hw _ _ _ (Ext.refl _ _) he r
 |cons _ _=>cases h
theorem abb{x:Sx}{xs:Sxs}(ih:OkS Z c E B X x)(J:j4 Z c E B X xs){st:AF}(h:aD c (.cons x xs) st=true):PSs X st (tS X.K B (az Z (.cons x xs) E)):=by
 unfold aD at h;split at h
 .rw[af]at h;show JD (RQ (ih h.1) (J h.2)) λD W H hq=>el hq λY F G N he r hw=>?_;rw[lO]at hw;show⟨Y,F,G,N,he,r,wpS_mono x (D:={EnD X.K H F D with nx:=λL G'=>az Z xs E L G' (EnD X.K H F D)}) ⟨λM G1 q H1 U σ1 O g r1=>?_,λy y z=>z,λy y z=>z,λy y z=>z⟩ hw⟩;exact⟨M,U,G1,N.trans O,g,r1,dR xs (EnD.later O) q⟩
 .cases h
end
mutual
theorem abd{Z:aj}{CX:CXT}{k:Nat}{B:Bs}{c:CT}{E:EK}{X:Cx}(S:Stat Z CX k c E B X):∀(x:Sx),OkS Z c E B X x
 |.exp e=>λh=>aa0 S h
 |.asg (.nm i) e=>λh=>aa1 S h
 |.asg (.tp ts) e=>λh=>aa2 S h
 |.set o i e=>λh=>aa3 S h
 |.aug i op e=>λh=>aa4 S h
 |.ret e=>λh=>aa5 S h
 |.rtn=>λh=>aa6 h
 |.ite t a b=>λh=>aa7 S (j5 S a) (j5 S b) h
 |.for_ t it b=>λh=>aa8 S (j5 S b) h
 |.whl t b=>λh=>aa9 S (j5 S b) h
 |.pas=>by
  intro h;let(_,rfl,_):=Z7 h;exact psI RW λD W H hq=>el hq λY F G e0 he r hw=>by rw[xN]at hw;exact hw _ _ _ (Ext.refl _ _) he r
 |.brk=>by
  intro h;let(_,rfl,_):=Z8 h;exact psI RX λD W H hq=>el hq λY F G e0 he r hw=>by rw[xO]at hw;exact hw _ _ _ (Ext.refl _ _) he r
 |.cnt=>by
  intro h;let(_,rfl,_):=Z9 h;exact psI RZ λD W H hq=>el hq λY F G e0 he r hw=>by rw[xP]at hw;exact hw _ _ _ (Ext.refl _ _) he r
 |.nev=>by
  intro h;exact psI R9 λD W H hq=>el hq λY F G e0 he r hw=>by rw[xQ]at hw;exact hw.elim
theorem j5{Z:aj}{CX:CXT}{k:Nat}{B:Bs}{c:CT}{E:EK}{X:Cx}(S:Stat Z CX k c E B X):∀(x:Sxs),j4 Z c E B X x
 |.nil=>λh=>aba h
 |.cons s r=>λh=>abb (abd S s) (j5 S r) h
end
end RF
namespace L2
open PySem PySem.Spec PyProof.Rows
def Fun.okX{P:AK}{w:World}{K:PF}{mg:AH}{base:Heap}{CX:CXT}{x g:Str}{st:Stmt}{f:AQ}{fd:AJ}{N ps:AD}{k:Nat}{sp:Sp}(F:Fun K x g st f fd)(S:FnScope N ps (ao st))(len:∀vs H Q E,sp vs H Q E->vs⁻¹=ps⁻¹)
  (z:∀(q:AN)(A:AM)(outer:List Env)(s:AI)(H:Hp)(vs:AR)(Q:VK)(E:XK),Room k (A.deeper (envOfC g (ao st) (~~~s) f q))->sp vs H Q E->
   ∃t,PSs (dZ CX P w K mg base N g (ao st) f q A outer s H E) (aG st) t/\t {nx:=λy H'=>Q .non H',rt:=Q} (start N vs) H):FnOk P w K mg base CX (k+1) f fd ps sp:=by
 let(oc,od,kV,M,pm,an,q,ct,Y,rfl,U,J):=F.ex;exact Uh U J S len λA outer s H vs Q E O L=>z q A outer s H vs Q E O L
def FnOk.cx{P:AK}{w:World}{K:PF}{mg:AH}{base:Heap}{k:Nat}{CX:CXT}{f:AQ}{fd:AJ}{ps:AD}{sp:Sp}(F:FnOk P w K mg base CX0 k f fd ps sp):FnOk P w K mg base CX k f fd ps sp:=
 ⟨F.len,λA outer s H args M vs Q E J he z L hs=>codeAny_mono (F.run A outer s H args M vs Q E J he z L hs) λr s' g=>by
  cases r with
  |error e=>exact False.elim g
  |ok q=>cases q<;>exact g⟩
end L2
namespace RF
open PySem PySem.Spec PyProof.Rows L2
def fnB(N ps:AD)(g:Scope):Bool:=
 decide (g.kind=.function)&&!g.isCoroutine&&!g.isGenerator&&dJ N&&(N.take ps⁻¹==ps)&&ps.all (λx=>g.names.lookup x==-.local||g.names.lookup x==-.cell)&&g.names.all (λy=>y.2 != .free)
def JG{N ps:AD}{g:Scope}(h:fnB N ps g=true):FnScope N ps g:=by unfold fnB at h;simp only[af,gN,ce,a8,bS,dP,bne_iff_ne]at h;let((((((h1,h2),q),z),J),L),M):=h;exact⟨h1,h2,q,yL z,J,L,λy O=>M y O⟩
structure Bse(Z:aj)(P:AK)(w:World)(K:PF)(mg:AH)(base:Heap)(CX:CXT)(k:Nat)(fs:List (AL×Nat))(bt:List AL)(cn:List (AL×D))(xs:List (AL×Bool))(ot:OT):Prop where
 call:∀f n,(f,n)∈fs->∃fa fd ps,FnOk P w K mg base CX k fa fd ps (lift K n (Z f))/\PySem.W.keepIn K (.ref fa)=true/\Binds K fd ps []/\mg (⇑f)=some (.ref fa)
 blt:∀f,f∈bt->mg (⇑f)=none
 con:∀x d,(x,d)∈cn->∃u v,mg (⇑x)=some u/\RelV v u/\∀H F,Rep K H F d v
 xcl:∀C,xs.contains (C,true)=true->∃a,mg (⇑C)=some (.ref a)/\qX K a=true/\PySem.W.nsIn K mainGlobals (⇑C)=some (some (.ref a))
 xis:∀C',xs.contains (C',false)=true->∃cv,CV K mg C' cv/\∀C,xs.contains (C,true)=true->XI K C C' cv
 mth:∀f C m n,(f,C,m,n)∈ot.ms->MthOk Z P w K mg base CX k f C m n
 mko:∀C n,(C,n)∈ot.ks->MkoOk Z P w K mg base CX k C n
 fld:∀C f,(C,f)∈ot.fl->IW K C f
 xko:∀C f,(C,f)∈ot.xk->XkoX P w K mg base CX k xs C f
def aH(N:AD)(g:Scope)(fs:List (AL×Nat))(bt:List AL)(cn:List (AL×D))(xs:List (AL×Bool))(ot:OT):CT:={N:=N,kd:=g.names,fn:=true,fs:=fs,bt:=bt,cn:=cn,xs:=xs,ot:=ot}
section
variable {Z:aj} {P:AK} {w:World} {K:PF} {mg:AH} {base:Heap} {k:Nat} {fs:List (AL×Nat)} {bt:List AL} {cn:List (AL×D)} {xs:List (AL×Bool)} {ot:OT}
theorem abe{N ps:AD}{g:Scope}{z:Str}{f:AQ}{J:AN}{A:AM}{outer:List Env}{s:AI}{H:Hp}{L:XK}{B:Bs}(T:Bse Z P w K mg base (CX1 P w) k fs bt cn xs ot)(hs:fnB N ps g=true)
  (M:Room k (A.deeper (envOfC z g (~~~s) f J))):Stat Z (CX1 P w) k (aH N g fs bt cn xs ot) noE B (dZ (CX1 P w) P w K mg base N z g f J A outer s H L).nox where
 N:=rfl
 nd:=(JG hs).nd
 calm:=rfl
 own:=PassesOwn.never
 kd:=rfl
 vis:=λx h=>by
  have h:iQ (g.names.lookup x)=true:=h;change g.names.lookup x=_\/g.names.lookup x=_\/g.names.lookup x=_;unfold iQ at h;split at h<;>first | (cases h;done)|simp_all
 cel:=λx h=>h
 glo:=λx h=>h
 sto:=λx h=>by
  have h:(g.names.lookup x==-.local||(true&&g.names.lookup x==-.cell))=true:=h;rw[Bool.true_and,dP,a8,a8]at h;exact⟨h,.inl rfl⟩
 room:=M
 call:=T.call
 blt:=T.blt
 con:=T.con
 exc:=⟨_,Dq _,λy y y y y y y y y y q=>q.elim,λy y y y h=>h.elim⟩
 nox:=λY=>Dq Y
 xcl:=T.xcl
 loc:=λx h=>h
 xis:=T.xis
 mth:=T.mth
 mko:=T.mko
 fld:=T.fld
 xko:=T.xko
 trc:=λy=>⟨rfl,rfl,rfl⟩
theorem abf{outer:List Env}{H:Hp}{s s':AI}{e:AN}(h:CX1 P w outer H s (λz z z=>False) e s'):False:=by let(_,_,_,_,_,_,_,_,_,q):=h;exact q
def ends(Q:AT):En:={nx:=λz G=>Q .non G,rt:=Q,bk:=λz z=>False,ct:=λz z=>False}
def env0(ds:AS)(n:Nat):ak:=ds.map some++List.replicate n none
theorem uf{x g:Str}{st:Stmt}{f:AQ}{fd:AJ}(U:Fun K x g st f fd)(T:Bse Z P w K mg base (CX1 P w) k fs bt cn xs ot){N ps:AD}{body:Sxs}(S:RF.Spec)(n m:Nat)(hs:fnB N ps (ao st)=true)
  (hc:aD (aH N (ao st) fs bt cn xs ot) body (aG st)=true) (hn:ps⁻¹=n) (hm:N⁻¹=n+m)
  (hw:∀ds G a,ds⁻¹=n->S.pre ds G a->az Z body noE (env0 ds m) G (ends (S.post a))):FnOk P w K mg base (CX1 P w) (k+1) f fd ps (lift K n S):=by
 show U.okX (JG hs) (λvs H Q E h=>by rw[hn];exact h.1) λJ A outer s H vs Q O hr L=>?_;let(hl,F,G,ds,r,M,a,h1,h2,h3):=L;have St:Stat Z (CX1 P w) k (aH N (ao st) fs bt cn xs ot) noE ⟨H,F⟩ (dZ (CX1 P w) P w K mg base N g (ao st) f J A outer s H O).nox:=abe T hs hr;show⟨_,(j5 St body hc).nox,?_⟩;show⟨env0 ds m,F,G,Ext.refl _ _,?_,r,dR body (D:=ends (S.post a)) ⟨λY z q=>?_,λd z q=>h2 d z q,λy y q=>False.elim q,λy y q=>False.elim q⟩ (hw ds G a (by rw[M⁻¹];exact hl) h1)⟩
 .unfold L2.start;rw[show N⁻¹-vs⁻¹=m by lia];exact EnvR.start m M
 .intro H' F' σ' x1 _ r1;exact h2 .non z q H' F' .non x1 r1 rfl
end
def bR(pre:AS->DH->Prop)(post:AS->DH->D->DH->Prop):RF.Spec where
 A:=AS×DH
 pre:=λds G a=>a=(ds,G)/\pre ds G
 post:=λa d g=>post a.1 a.2 d g
 exc:=λz z z=>False
def cF{pre:AS->DH->Prop}{post:AS->DH->D->DH->Prop}{ds:AS}{G:DH}{k:AT}{E:EK}(h:pre ds G)(q:∀d g,post ds G d g->k d g):(bR pre post).t ds G k E:=
 ⟨(ds,G),⟨rfl,h⟩,q,λy y z=>z.elim⟩
def cJ{Z:aj}{body:Sxs}{m n:Nat}{pre:AS->DH->Prop}{post:AS->DH->D->DH->Prop}(h:∀ds G,pre ds G->az Z body noE (env0 ds m) G (ends (post ds G))):
  ∀ds G a,ds⁻¹=n->(bR pre post).pre ds G a->az Z body noE (env0 ds m) G (ends ((bR pre post).post a)):=by
 rintro ds G a _ ⟨rfl,h1⟩;exact h ds G h1
def bc(f:AS->Option D):RF.Spec:=bR (λds z=>(f ds).isSome=true) (λds G d g=>g=G/\f ds=-d)
def fj{f:AS->Option D}{ds:AS}{d:D}{G:DH}{k:AT}{E:EK}(h:f ds=-d)(z:k d G):(bc f).t ds G k E:=
 cF (by rw[h];rfl) λd' J zZ=>by let(q,g):=zZ;rw[h]at g;cases g;rw[q];exact z
def iY{Z:aj}{body:Sxs}{m n:Nat}{f:AS->Option D}(h:∀ds G d,f ds=-d->az Z body noE (env0 ds m) G (ends λd' g=>g=G/\d'=d)):
  ∀ds G a,ds⁻¹=n->(bc f).pre ds G a->az Z body noE (env0 ds m) G (ends ((bc f).post a)):=by
 show cJ λds G z=>?_;let(d,e):=cS.mp z;show dR body (D:=ends λd' g=>g=G/\d'=d) ⟨λY g q=>?_,λd' g q=>?_,λy y q=>q,λy y q=>q⟩ (h ds G d e)
 .exact ⟨q.1,by rw[e];exact fb some q.2.symm⟩
 .exact ⟨q.1,by rw[e];exact fb some q.2.symm⟩
def abg{step:D->ak->DH->(ak->DH->Prop)->Prop}{g:Hld}{q:AS}{Y:ak}{G:DH}{k:ak->DH->Prop}(P:Nat->ak->DH->Prop)(h0:P 0 Y G)(hh:∀i Y G,P i Y G->held g G)
  (hs:∀i d Y G,q[i]?=-d->P i Y G->∀L:ak->DH->Prop,(∀z J,P (i+1) z J->L z J)->step d Y G L) (he:∀Y G,P q⁻¹ Y G->k Y G):forLoop step g q Y G k:=by
 have go:∀(l:AS)(i:Nat)(Y:ak)(G:DH),q.drop i=l->i<=q⁻¹->P i Y G->forLoop step g l Y G k:=by
  intro l;induction l with
  |nil=>
   intro i Y G e hi p;have:i=q⁻¹:=by have:=fb List.length e;rw[d5]at this;simp at this;lia
   subst this;exact⟨hh _ _ _ p,he _ _ p⟩
  |cons d l M=>
   intro i Y G e hi p;have hl:i<q⁻¹:=by
    by_cases h:i<q⁻¹
    .exact h
    .rw[List.drop_eq_nil_of_le (!0)]at e;cases e
   rw[bn hl]at e;injection e with e1 e2;show⟨hh _ _ _ p,hs i d Y G (by rw[ar hl,e1]) p _ λz J N=>M (i+1) z J e2 hl N⟩
 exact go _ 0 Y G (!2) (ck _) h0
def JH{step:D->ak->DH->(Option D->ak->DH->Prop)->Prop}{g:Hld}{z q:AS}{Y:ak}{G:DH}{k:AS->DH->Prop}(P:Nat->AS->ak->DH->Prop)(h0:P 0 q Y G)(hh:∀i q Y G,P i q Y G->held g G)
  (hl:q⁻¹+z⁻¹<=sz)
  (hs:∀i d q Y G,z[i]?=-d->P i q Y G->∀O:Option D->ak->DH->Prop,(∀o J L,P (i+1) (q++o.toList) J L->O o J L)->step d Y G O) (he:∀q Y G,P z⁻¹ q Y G->k q G):compLoop step g z q Y G k:=by
 have go:∀(l:AS)(i:Nat)(q:AS)(Y:ak)(G:DH),z.drop i=l->i<=z⁻¹->q⁻¹+l⁻¹<=sz->P i q Y G->compLoop step g l q Y G k:=by
  intro l;induction l with
  |nil=>
   intro i q Y G e hi M p;have:i=z⁻¹:=by have:=fb List.length e;rw[d5]at this;simp at this;lia
   subst this;exact⟨hh _ _ _ _ p,!!M,he _ _ _ p⟩
  |cons d l N=>
   intro i q Y G e hi M p;have hl:i<z⁻¹:=by
    by_cases h:i<z⁻¹
    .exact h
    .rw[List.drop_eq_nil_of_le (!0)]at e;cases e
   rw[bn hl]at e;injection e with e1 e2;have ha':q⁻¹+(l⁻¹+1)<=sz:=M;show⟨hh _ _ _ _ p,!0,hs i d q Y G (by rw[ar hl,e1]) p _ λo J L U=>?_⟩;cases o with
   |some y=>exact N (i+1) (q++[y]) J L e2 hl (by rw[ax];simp;lia) U
   |none=>exact N (i+1) q J L e2 hl (!0) (!!U)
 exact go _ 0 q Y G (!2) (ck _) hl h0
def abh{step:D->ak->DH->(Option D->ak->DH->Prop)->Prop}{q:AS}{Y:ak}{G:DH}{k:AS->DH->Prop}(g:Hld)(f:D->Option D)(I:ak->Prop)(h0:I Y)(O:held g G)(hl:q⁻¹<=sz)
  (hs:∀d Y,d∈q->I Y->∀M:Option D->ak->DH->Prop,(∀z,I z->M (f d) z G)->step d Y G M) (he:k (q.filterMap f) G):compLoop step g q [] Y G k:=by
 show JH (λi J z L=>I z/\L=G/\J=(q.take i).filterMap f) ⟨h0,rfl,rfl⟩ (λi J z L p=>by rw[p.2.1];exact O) (!!hl) ?_ ?_
 .rintro i d J z L N ⟨p1,rfl,rfl⟩ M U;show hs d z (bv N) p1 M λρ2 i2=>U _ _ _ ⟨i2,rfl,?_⟩;rw[d0,N,List.filterMap_append];congr 1
 .rintro J z L ⟨_,rfl,rfl⟩;rw[dQ];exact he
def abi{step:D->ak->DH->(Option D->ak->DH->Prop)->Prop}{q:AS}{Y:ak}{G:DH}{k:AS->DH->Prop}(g:Hld)(f:D->D)(I:ak->Prop)(h0:I Y)(L:held g G)(hl:q⁻¹<=sz)
  (hs:∀d Y,d∈q->I Y->∀J:Option D->ak->DH->Prop,(∀z,I z->J (-(f d)) z G)->step d Y G J) (he:k (q.map f) G):compLoop step g q [] Y G k:=
 abh g (λd=>-(f d)) I h0 L hl hs (by rw[<-List.filterMap_eq_map]at he;exact he)
def mF{g:Type}(f:g->Bool):∀l:List g,bools (l.map λx=>D.bl (f x))=-(l.map f)
 |[]=>rfl
 |x::l=>by simp[bools,mF f l]
def strs_map{g:Type}(f:g->AA):∀l:List g,bC (l.map λx=>D.str (f x))=-(l.map f)
 |[]=>rfl
 |x::l=>by simp[bC,strs_map f l]
def JK:∀l:List (AA),eX [] l=l.flatten
 |[]=>rfl
 |[x]=>by simp[eX]
 |x::y::r=>by simp[eX,JK (y::r)]
def Sa(G g:DH):Prop:=∀b o,G b=-o->g b=-o
def Sb(p:AQ)(G g:DH):Prop:=∀b o,G b=-o->b≠p->g b=-o
def Sa.refl(G:DH):Sa G G:=λz z h=>h
def Sb.refl(p:AQ)(G:DH):Sb p G G:=λz z h z=>h
def Sa.trans{G G1 g:DH}(a:Sa G G1)(b:Sa G1 g):Sa G g:=λc o h=>b c o (a c o h)
def Sb.trans{p:AQ}{G G1 g:DH}(a:Sb p G G1)(b:Sb p G1 g):Sb p G g:=λc o h n=>b c o (a c o h n) n
def Sa.sb{p:AQ}{G g:DH}(a:Sa G g):Sb p G g:=λc o h z=>a c o h
def Sa.new{G:DH}{p:AQ}{o:DO}(h:G p=none):Sa G (aP G p o):=λb u e=>by rw[cN (rF e h)];exact e
def Sb.upd{G:DH}{p:AQ}{o:DO}:Sb p G (aP G p o):=λb u e n=>by rw[cN n];exact e
def Sa.then{p:AQ}{G G1 g:DH}(a:Sa G G1)(q:G p=none)(b:Sb p G1 g):Sa G g:=λc o h=>b c o (a c o h) (rF h q)
def abj{g:Type}{a:g}{l:List g}:atI (a::l) 0=-a:=bL (j:=0) rfl
def abk{g:Type}{a b:g}{l:List g}:atI (a::b::l) 1=-b:=bL (j:=1) rfl
def abl{g:Type}{a b c:g}{l:List g}:atI (a::b::c::l) 2=-c:=bL (j:=2) rfl
def abm{g:Type}{a b c d:g}{l:List g}:atI (a::b::c::d::l) 3=-d:=bL (j:=3) rfl
def abn{n j:Nat}(h:j<n):ixN n (j:Int)=-j:=by unfold ixN;rw[if_pos (!0),if_pos (!0)];simp
def abo{n:Nat}:ixN (n+1) 0=-0:=by unfold ixN;rw[if_pos (!0),if_pos (!0)];rfl
def abp{n:Nat}:ixN (n+2) 1=-1:=by unfold ixN;rw[if_pos (!0),if_pos (!0)];rfl
def abq{n:Nat}:ixN (n+3) 2=-2:=by unfold ixN;rw[if_pos (!0),if_pos (!0)];rfl
def abr{g:Type}{xs:List g}{i:Int}(h0:0<=i)(h1:i<xs⁻¹):∃a,atI xs i=-a/\a∈xs:=by
 let(n,rfl):=ci h0;have hn:n<xs⁻¹:=by lia
 exact⟨xs[n],bL (by simp[hn]),cq _⟩
def iZ{g:Type}(xs:List g)(lo hi:Option Int):(cut xs lo hi)⁻¹<=xs⁻¹:=by unfold cut;rw[de,d5];lia
def abt{l:AS}:bM l []=l.isEmpty:=by cases l<;>rfl
def mG{g:Type}(l:List g)(n:Nat):cut l none (-(n:Int))=l.take n:=by
 unfold cut;rw[show HT.sIx l⁻¹ 0 none=0 from rfl,HT.Cr,List.drop_zero,Nat.sub_zero];by_cases h:n<=l⁻¹
 .rw[Nat.min_eq_left h]
 .rw[Nat.min_eq_right (!0),gz (av _),gz (!0)]
def yN{g:Type}(l:List g)(n:Nat):cut l (-(n:Int)) none=l.drop n:=by
 unfold cut;rw[show HT.sIx l⁻¹ l⁻¹ none=l⁻¹ from rfl,HT.Cr];by_cases h:n<=l⁻¹
 .rw[Nat.min_eq_left h,gz (by rw[d5];exact av _)]
 .rw[Nat.min_eq_right (!0),Nat.sub_self,List.take_zero,List.drop_eq_nil_of_le (!0)]
def yO{g:Type}(l:List g)(n:Nat):cut l (-((n:Int)+1)) none=l.drop (n+1):=yN l (n+1)
def JL{q:Type}{g:List q->Prop}(l:List q)(nil:g [])(snoc:∀(l:List q)(a:q),g l->g (l++[a])):g l:=by
 have go:∀(n:Nat)(l:List q),l⁻¹=n->g l:=by
  intro n;induction n with
  |zero=>intro l h;rw[cw.mp h];exact nil
  |succ n J=>
   intro l h;have z:l≠[]:=by rintro rfl;simp at h
   rw[<-fE z];exact snoc _ _ (J _ (by rw[List.length_dropLast];lia))
 exact go _ l rfl
section
variable {G:DH} {k:AT} {fz:Bool} {kb:Bool->Prop} {kd:D->Prop} {p:AQ}
theorem abu{i j:Int}:cO .Add fz (.int i) (.int j) G k=k (.int (i+j)) G:=rfl
theorem abv{x y:AA}:cO .Add fz (.str x) (.str y) G k=(x⁻¹+y⁻¹<=sz/\k (.str (x++y)) G):=rfl
theorem abw{x y:AS}:cO .Add fz (.lst x) (.lst y) G k=(x⁻¹+y⁻¹<=sz/\mk fz (x++y) G k):=rfl
theorem abx{x y:AS}:cO .Add fz (.tup x) (.tup y) G k=(x⁻¹+y⁻¹<=sz/\k (.tup (x++y)) G):=rfl
theorem aby{i j:Int}:cO .Sub fz (.int i) (.int j) G k=k (.int (i-j)) G:=rfl
theorem abz{i j:Int}:cO .Mult fz (.int i) (.int j) G k=(CMul i j/\k (.int (i*j)) G):=rfl
theorem abA{x:AS}{n:Int}:cO .Mult fz (.tup x) (.int n) G k=(0<=n/\n<=1000/\x≠[]/\x⁻¹*n.toNat<=sz/\k (.tup (reps x n.toNat)) G):=rfl
theorem abB{x:AS}{n:Int}:cO .Mult fz (.lst x) (.int n) G k=(0<=n/\n<=1000/\x⁻¹*n.toNat<=sz/\mk fz (reps x n.toNat) G k):=rfl
theorem abC{x:AA}{n:Int}:cO .Mult fz (.str x) (.int n) G k=(0<=n/\n<=1000/\x⁻¹*n.toNat<=sz/\k (.str (reps x n.toNat)) G):=rfl
theorem abD{i j:Int}:cO .FloorDiv fz (.int i) (.int j) G k=((0<j/\j<1152921504606846976)/\k (.int (i/j)) G):=rfl
theorem abE{i j:Int}:cO .Mod fz (.int i) (.int j) G k=(0<j/\k (.int (i%j)) G):=rfl
theorem abF{i j:Int}:cO .Pow fz (.int i) (.int j) G k=(qQ i j/\k (.int (i ^ j.toNat)) G):=rfl
def fQ:D->Bool
 |.non=>true
 |_=>false
theorem abG{a b:D}:bh .Eq a b kb=((nr a=true/\nr b=true/\min (dpt a) (dpt b)<=60)/\kb (deq a b)):=rfl
theorem abH{a b:D}:bh .NotEq a b kb=((nr a=true/\nr b=true/\min (dpt a) (dpt b)<=60)/\kb (!deq a b)):=rfl
theorem abI{i j:Int}:bh .Lt (.int i) (.int j) kb=kb (decide (i<j)):=rfl
theorem abJ{i j:Int}:bh .LtE (.int i) (.int j) kb=kb (decide (i<=j)):=rfl
theorem abK{i j:Int}:bh .Gt (.int i) (.int j) kb=kb (decide (j<i)):=rfl
theorem abL{i j:Int}:bh .GtE (.int i) (.int j) kb=kb (decide (j<=i)):=rfl
theorem abM{i j:AA}:bh .Lt (.str i) (.str j) kb=kb (decide (i<j)):=rfl
theorem abN{i j:AA}:bh .LtE (.str i) (.str j) kb=kb (!decide (j<i)):=rfl
theorem abO{a:D}:bh .Is a .non kb=kb (fQ a):=by cases a<;>rfl
theorem abP{a:D}:bh .IsNot a .non kb=kb (!fQ a):=by cases a<;>rfl
theorem abQ{a b:Bool}:bh .Is (.bl a) (.bl b) kb=kb (a==b):=rfl
theorem abR{a b:Bool}:bh .IsNot (.bl a) (.bl b) kb=kb (a != b):=rfl
theorem abS{c:Nat}{l:AA}:bh .In (.str [c]) (.str l) kb=kb (l.contains c):=rfl
theorem abT{c:Nat}{l:AA}:bh .NotIn (.str [c]) (.str l) kb=kb (!l.contains c):=rfl
theorem abU{a:D}{l:AS}:bh .In a (.lst l) kb=((nr a=true/\nrs l=true/\bf l<=60)/\kb (isIn a l)):=rfl
theorem abV{a:D}{l:AS}:bh .In a (.tup l) kb=((nr a=true/\nrs l=true/\bf l<=60)/\kb (isIn a l)):=rfl
theorem abW{a:D}{l:AS}:bh .NotIn a (.lst l) kb=((nr a=true/\nrs l=true/\bf l<=60)/\kb (!isIn a l)):=rfl
theorem abX{a:D}{l:AS}:bh .NotIn a (.tup l) kb=((nr a=true/\nrs l=true/\bf l<=60)/\kb (!isIn a l)):=rfl
theorem abY{i:Int}:fQ (.int i)=false:=rfl
theorem abZ{i:Bool}:fQ (.bl i)=false:=rfl
theorem ab0{i:AA}:fQ (.str i)=false:=rfl
theorem ab1{i:AS}:fQ (.tup i)=false:=rfl
theorem ab2{i:AS}:fQ (.lst i)=false:=rfl
theorem ab3{i:AQ}:fQ (.ref i)=false:=rfl
theorem ab4:fQ .non=true:=rfl
def aR{g:Type}(o:Option g)(k:g->Prop):Prop:=match o with|some a=>k a|none=>False
theorem jb{g:Type}{a:g}{k:g->Prop}:aR (-a) k=k a:=rfl
theorem bW{g:Type}{o:Option g}{a:g}{k:g->Prop}(e:o=-a)(h:k a):aR o k:=by rw[e];exact h
theorem JM{g:Type}{xs:List g}{i:Int}{k:g->Prop}(h0:0<=i)(h1:i<xs⁻¹)(h:∀a,a∈xs->k a):aR (atI xs i) k:=by let(a,e,m):=abr h0 h1;exact bW e (h a m)
theorem ab5{ds:AS}{i:Int}:cZ (.lst ds) (.int i) kd=aR (atI ds i) kd:=by unfold cZ aR;(try dsimp only)<;>(cases atI ds i<;>rfl)
theorem ab6{ds:AS}{i:Int}:cZ (.tup ds) (.int i) kd=aR (atI ds i) kd:=by unfold cZ aR;(try dsimp only)<;>(cases atI ds i<;>rfl)
theorem ab7{l:AA}{i:Int}:cZ (.str l) (.int i) kd=aR (atI l i) (λc=>kd (.str [c])):=by unfold cZ aR;(try dsimp only)<;>(cases atI l i<;>rfl)
theorem ab8{ds:AS}{lo hi:Option Int}:eV fz (.lst ds) lo hi G k=mk fz (cut ds lo hi) G k:=rfl
theorem ab9{ds:AS}{y:D}:iG fz (.lst ds) y G k=(y=.int (Neg.neg 1)/\mk fz ds.reverse G k):=rfl
theorem aca{ds:List Int}{lo hi:Option Int}:eV fz (.scr ds) lo hi G k=mk fz ((cut ds lo hi).map .int) G k:=rfl
theorem acb{ds:AS}{lo hi:Option Int}:eV fz (.tup ds) lo hi G k=k (.tup (cut ds lo hi)) G:=rfl
theorem acd{ds:AA}{lo hi:Option Int}:eV fz (.str ds) lo hi G k=k (.str (cut ds lo hi)) G:=rfl
theorem ace{ds:AS}:opB .len [.lst ds] kd=kd (.int ds⁻¹):=rfl
theorem acf{ds:AS}:opB .len [.tup ds] kd=kd (.int ds⁻¹):=rfl
theorem acg{ds:AA}:opB .len [.str ds] kd=kd (.int ds⁻¹):=rfl
theorem ach{ds:AS}:opB .any [.lst ds] kd=aR (bools ds) (λbs=>kd (.bl (bs.any id))):=by unfold opB rH aR;(try dsimp only)<;>(cases bools ds<;>rfl)
theorem aci{ds:AS}{i:Int}:opM .idxT (.tup ds) [.int i] G k=aR (aZ ds) (λns=>i∈ns/\k (.int (ns.idxOf i:Nat)) G):=by unfold opM rQ aR;(try dsimp only)<;>(cases aZ ds<;>rfl)
theorem acj{ds:AS}:recv .idxT (.tup ds) G=True:=rfl
theorem ack{ds:AS}:opB .all [.lst ds] kd=aR (bools ds) (λbs=>kd (.bl (bs.all id))):=by unfold opB rG aR;(try dsimp only)<;>(cases bools ds<;>rfl)
theorem acl{b:Bool}:opB .int [.bl b] kd=kd (.int (if b then 1 else 0)):=rfl
theorem acn{b:Int}:opB .int [.int b] kd=kd (.int b):=rfl
theorem aco{l:AA}:opB .int [.str l] kd=aR (PySem.intText? (tx l)) (λn=>l⁻¹<=640/\kd (.int n)):=by unfold opB rJ aR;(try dsimp only)<;>(cases PySem.intText? (tx l)<;>rfl)
theorem acp{ds:AS}:opB .sum [.lst ds] kd=aR (aZ ds) (λns=>kd (.int ns.sum)):=by unfold opB v8 aR;(try dsimp only)<;>(cases aZ ds<;>rfl)
theorem acq{a:Int}:opB .str [.int a] kd=((0<=a/\a<100)/\kd (.str (gG a.toNat))):=rfl
theorem acr{a:Int}:opB .abs [.int a] kd=kd (.int (if a<0 then Neg.neg a else a)):=rfl
theorem acs{a b:Int}:opB .min2 [.int a,.int b] kd=kd (.int (if b<a then b else a)):=rfl
theorem acu{a b:Int}:opB .max [.int a,.int b] kd=kd (.int (if b > a then b else a)):=rfl
theorem acv{ds:AS}{q:AS->Prop}:cP .sorted [.tup ds] q=aR (aZ ds) (λns=>ns⁻¹<64/\∀g:List Int,g.Perm ns->g.Pairwise (·<=·)->q (g.map D.int)):=by unfold cP lK aR;(try dsimp only)<;>(cases aZ ds<;>rfl)
theorem acw{ds:AS}{kd:D->Prop}:jL (.lst ds) kd=aR (dO ds) (λks=>ks⁻¹<=200/\kd (.int ((dH ks)⁻¹:Nat))):=by unfold jL aR;(try dsimp only)<;>(cases dO ds<;>rfl)
theorem acx{ds:AS}{z:AS->Prop}:lL (.lst ds) z=aR (bC ds) (λq=>(q⁻¹<=1000/\(rK q)⁻¹<=64)/\∀g:List (AA),g.Perm (rK q)->z (g.map D.str)):=by unfold lL aR;(try dsimp only)<;>(cases bC ds<;>rfl)
theorem acy{ds:AS}{q:AS->Prop}:cP .sorted [.lst ds] q=aR (bC ds) (λz=>z⁻¹<64/\∀g:List (AA),g.Perm z->PyProof.Rows.sortedS (g.map tx)=true->q (g.map D.str)):=by unfold cP lK aR;(try dsimp only)<;>(cases bC ds<;>rfl)
theorem acz{ds:AS}:opB .tuple [.lst ds] kd=kd (.tup ds):=rfl
theorem acA{ds:AS}:opB .tuple [.tup ds] kd=kd (.tup ds):=rfl
theorem acB{ds:AS}{g:AS->Prop}:cP .list [.lst ds] g=g ds:=rfl
theorem acC{ds:AS}{g:AS->Prop}:cP .list [.tup ds] g=g ds:=rfl
theorem acD{l:AA}{g:AS->Prop}:cP .list [.str l] g=g (l.map λc=>.str [c]):=rfl
theorem acE{s:AA}{ds:AS}:opM .join (.str s) [.lst ds] G k=aR (bC ds) (λg=>((g.map (·.length)).sum+g⁻¹*s⁻¹<=sz)/\k (.str (eX s g)) G):=by unfold opM rM aR;(simp only[a7,gE,view])<;>(cases bC ds<;>rfl)
def trk(G:DH)(p:AQ)(k:AS->Prop):Prop:=match G p with|some (.lst ds)=>k ds|_=>False
theorem cL{ds:AS}{k:AS->Prop}(e:G p=-(.lst ds)):trk G p k=k ds:=by unfold trk;rw[e]
theorem acF{x:D}:opM .append (.ref p) [x] G k=trk G p (λds=>ds⁻¹<sz/\k .non (aP G p (.lst (ds++[x])))):=by unfold opM rN trk;(try dsimp only)<;>(cases G p<;>first|rfl | (rename_i o;cases o<;>rfl))
theorem JN{i:Int}:opM .pop (.ref p) [.int i] G k=trk G p (λds=>0<=i/\i<=1000000/\aR ds[i.toNat]? λy=>k y (aP G p (.lst (ds.eraseIdx i.toNat)))):=by
 unfold opM rP trk
 (try dsimp only)<;>(cases G p<;>first|rfl | (rename_i o;cases o with|lst ds=>unfold aR;dsimp only;cases ds[i.toNat]?<;>rfl|dct _ _=>rfl))
theorem JP:recv .pop (.ref p) G=trk G p (λz=>True):=by unfold recv trk;(try dsimp only)<;>(cases G p<;>first|rfl | (rename_i o;cases o<;>rfl))
theorem acG{xs:AS}:opM .extend (.ref p) [.lst xs] G k=trk G p (λds=>ds⁻¹+xs⁻¹<sz/\k .non (aP G p (.lst (ds++xs)))):=by unfold opM rO trk;(simp only[a7,gE,view])<;>(cases G p<;>first|rfl | (rename_i o;cases o<;>rfl))
theorem acH{i j:Nat}{ds:AS}{Y:ak}{g:ak->DH->Prop}:Yi i j (.lst ds) Y G g=(ds≠[]/\∀xs y,ds=xs++[y]->g ((Y.set i (-(.lst xs))).set j (-y)) G):=rfl
theorem acI{C:AL}{xs:List AL}{g:Bool->Prop}:wj C xs .non g=g false:=rfl
theorem acJ{C c:AL}{xs:List AL}{g:Bool->Prop}:wj C xs (.exn c) g=(xs.contains c=true/\g (gH c C)):=rfl
theorem acK{C c f:AL}{d:D}{xs:List AL}{g:Bool->Prop}:wj C xs (.exa c f d) g=(xs.contains c=true/\g (gH c C)):=rfl
theorem x_at{C f:AL}{v:D}{g:D->Prop}:FQ C f (.exa C f v) g=g v:=by simp[FQ]
theorem acL{b f:AL}{d:D}:view G (.exa b f d)=.exa b f d:=rfl
theorem acM{s:AA}:recv .join (.str s) G=True:=rfl
theorem acN:recv .append (.ref p) G=trk G p (λz=>True):=by unfold recv trk;(try dsimp only)<;>(cases G p<;>first|rfl | (rename_i o;cases o<;>rfl))
theorem acO:recv .extend (.ref p) G=trk G p (λz=>True):=by unfold recv trk;(try dsimp only)<;>(cases G p<;>first|rfl | (rename_i o;cases o<;>rfl))
theorem acP{i:Int}{x:D}{g:DH->Prop}:d9 (.ref p) (.int i) x G g=trk G p (λds=>aR (ixN ds⁻¹ i) (λj=>g (aP G p (.lst (ds.set j x))))):=by
 unfold d9 trk aR
 (try dsimp only)<;>(cases G p<;>first|rfl | (rename_i o;cases o with|lst ds=>dsimp only;cases ixN ds⁻¹ i<;>rfl|dct _ _=>rfl))
theorem ug{l:AS}{g:List Int->Prop}:cz (.tup l) g=aR (aZ l) g:=by unfold cz aR;dsimp only;cases aZ l<;>rfl
theorem JQ{a:D}{ks:List (List Int)}{ds:AS}:bh .In a (.dct ks ds) kb=cz a λn=>kb (kIx ks n).isSome:=rfl
theorem JR{a:D}{ks:List (List Int)}{ds:AS}:bh .NotIn a (.dct ks ds) kb=cz a λn=>kb (!(kIx ks n).isSome):=rfl
theorem JS{ks:List (List Int)}{ds:AS}{l:AS}:cZ (.dct ks ds) (.tup l) kd=cz (.tup l) λn=>aR (kIx ks n) λi=>aR ds[i]? kd:=by
 unfold cZ cz aR;dsimp only;cases aZ l with
 |none=>rfl
 |some n=>dsimp only;cases kIx ks n with
  |none=>rfl
  |some i=>dsimp only;cases ds[i]?<;>rfl
theorem acQ{ks:List (List Int)}{ds:AS}:opB .len [.dct ks ds] kd=kd (.int ks⁻¹):=rfl
theorem acR{ks:List (List Int)}{ds:AS}{g:AS->Prop}:cP .list [.dct ks ds] g=g (ks.map λn=>.tup (n.map .int)):=rfl
def mH(G:DH)(p:AQ)(k:List (List Int)->AS->Prop):Prop:=match G p with|some (.dct ks ds)=>k ks ds|_=>False
theorem acS{ks:List (List Int)}{ds:AS}{k:List (List Int)->AS->Prop}(e:G p=-(.dct ks ds)):mH G p k=k ks ds:=by unfold mH;rw[e]
theorem JT{l:AS}{x:D}{g:DH->Prop}:d9 (.ref p) (.tup l) x G g=mH G p (λks ds=>cz (.tup l) λn=>ks⁻¹<sz/\g (aP G p (dput ks ds n x))):=by
 unfold d9 mH;dsimp only;cases G p with
 |none=>rfl
 |some o=>cases o<;>rfl
theorem jc{ks:List (List Int)}{ds:AS}(e:G p=-(.dct ks ds)):view G (.ref p)=.dct ks ds:=by unfold view;dsimp only;rw[e]
theorem acT{i j:Int}:fO .Add (.int i) (.int j) kd=kd (.int (i+j)):=rfl
theorem acU{x y:AA}:fO .Add (.str x) (.str y) kd=(x⁻¹+y⁻¹<=sz/\kd (.str (x++y))):=rfl
theorem acV{i j:Int}:fO .Sub (.int i) (.int j) kd=kd (.int (i-j)):=rfl
theorem acW{xs:AS}:mk true xs G k=k (.lst xs) G:=rfl
theorem acX{xs:AS}:mk false xs G k=∀p,G p=none->k (.ref p) (aP G p (.lst xs)):=rfl
theorem acY:view G .non=.non:=rfl
theorem acZ{b:Bool}:view G (.bl b)=.bl b:=rfl
theorem ac0{b:Int}:view G (.int b)=.int b:=rfl
theorem ac1{b:AA}:view G (.str b)=.str b:=rfl
theorem ac2{b:AS}:view G (.tup b)=.tup b:=rfl
theorem ac3{b:AS}:view G (.lst b)=.lst b:=rfl
theorem ac4{C f:AL}{q:AQ}:view G (.obj C f q)=.obj C f q:=rfl
theorem ac5{b:AL}:view G (.exn b)=.exn b:=rfl
theorem ac6{b:List Int}:view G (.scr b)=.scr b:=rfl
theorem dM{ds:AS}(e:G p=-(.lst ds)):view G (.ref p)=.lst ds:=by unfold view;dsimp only;rw[e]
theorem ac7:truth .non=-false:=rfl
theorem ac8{b:Bool}:truth (.bl b)=-b:=rfl
theorem ac9{i:Int}:truth (.int i)=-(i != 0):=rfl
theorem ada{l:AA}:truth (.str l)=-(!l.isEmpty):=rfl
theorem adb{l:AS}:truth (.tup l)=-(!l.isEmpty):=rfl
theorem adc{l:AS}:truth (.lst l)=-(!l.isEmpty):=rfl
theorem ade{l:AS}:itemsOf G (.lst l)=-(l,[]):=rfl
theorem adf{l:AS}:itemsOf G (.tup l)=-(l,[]):=rfl
theorem adg{l:AA}:itemsOf G (.str l)=-(l.map λc=>.str [c],[]):=rfl
theorem adh{t:AL}:isT t .non=-false:=rfl
theorem adi {t:AL} {b:Bool}:isT t (.bl b)=-(t=="bool"||t=="int"):=rfl
theorem adk {t:AL} {b:Int}:isT t (.int b)=-(t=="int"):=rfl
theorem adl {t:AL} {b:AA}:isT t (.str b)=-(t=="str"):=rfl
theorem is_tup {t:AL} {b:AS}:isT t (.tup b)=-(t=="tuple"):=rfl
theorem adm {t:AL} {b:AS}:isT t (.lst b)=-(t=="list"):=rfl
theorem adn{i:Nat}{d:D}{Y:ak}{g:ak->Prop}:aX (.nm i) d Y G g=g (Y.set i (-d)):=rfl
theorem ado{ts:Tgs}{ds:AS}{Y:ak}{g:ak->Prop}:aX (.tp ts) (.lst ds) Y G g=b7 ts ds Y G g:=rfl
theorem adp{ts:Tgs}{ds:AS}{Y:ak}{g:ak->Prop}:aX (.tp ts) (.tup ds) Y G g=b7 ts ds Y G g:=rfl
theorem adq{ρ:ak}{g:ak->Prop}:b7 .nil [] ρ G g=g ρ:=rfl
theorem adt{t:Tg}{r:Tgs}{d:D}{ds:AS}{Y:ak}{q:ak->Prop}:b7 (.cons t r) (d::ds) Y G q=aX t d Y G (λg=>b7 r ds g G q):=rfl
theorem adu:deq .non .non=true:=rfl
theorem adv  {y:Bool}:deq .non (.bl y)=false:=rfl
theorem adw  {y:Int}:deq .non (.int y)=false:=rfl
theorem adx  {y:AA}:deq .non (.str y)=false:=rfl
theorem ady  {y:AS}:deq .non (.tup y)=false:=rfl
theorem adz  {y:AS}:deq .non (.lst y)=false:=rfl
theorem adA{x:Bool} :deq (.bl x) .non=false:=rfl
theorem adB{x:Bool}{y:Bool}:deq (.bl x) (.bl y)=(x==y):=by rw[deq]
theorem adC{x:Bool}{y:AA}:deq (.bl x) (.str y)=false:=rfl
theorem adD{x:Bool}{y:AS}:deq (.bl x) (.tup y)=false:=rfl
theorem adE{x:Bool}{y:AS}:deq (.bl x) (.lst y)=false:=rfl
theorem adF{x:Int} :deq (.int x) .non=false:=rfl
theorem adG{x:Int}{y:Int}:deq (.int x) (.int y)=(x==y):=by rw[deq]
theorem adH{x:Int}{y:AA}:deq (.int x) (.str y)=false:=rfl
theorem adI{x:Int}{y:AS}:deq (.int x) (.tup y)=false:=rfl
theorem adJ{x:Int}{y:AS}:deq (.int x) (.lst y)=false:=rfl
theorem adK{x:AA} :deq (.str x) .non=false:=rfl
theorem adL{x:AA}{y:Bool}:deq (.str x) (.bl y)=false:=rfl
theorem adM{x:AA}{y:Int}:deq (.str x) (.int y)=false:=rfl
theorem adN{x:AA}{y:AA}:deq (.str x) (.str y)=(x==y):=by rw[deq]
theorem adO{x:AA}{y:AS}:deq (.str x) (.tup y)=false:=rfl
theorem adP{x:AA}{y:AS}:deq (.str x) (.lst y)=false:=rfl
theorem adQ{x:AS} :deq (.tup x) .non=false:=rfl
theorem adR{x:AS}{y:Bool}:deq (.tup x) (.bl y)=false:=rfl
theorem adS{x:AS}{y:Int}:deq (.tup x) (.int y)=false:=rfl
theorem adT{x:AS}{y:AA}:deq (.tup x) (.str y)=false:=rfl
theorem adU{x:AS}{y:AS}:deq (.tup x) (.tup y)=bM x y:=by rw[deq]
theorem adV{x:AS}{y:AS}:deq (.tup x) (.lst y)=false:=rfl
theorem adW{x:AS} :deq (.lst x) .non=false:=rfl
theorem adX{x:AS}{y:Bool}:deq (.lst x) (.bl y)=false:=rfl
theorem adY{x:AS}{y:Int}:deq (.lst x) (.int y)=false:=rfl
theorem adZ{x:AS}{y:AA}:deq (.lst x) (.str y)=false:=rfl
theorem ad0{x:AS}{y:AS}:deq (.lst x) (.tup y)=false:=rfl
theorem ad1{x:AS}{y:AS}:deq (.lst x) (.lst y)=bM x y:=by rw[deq]
theorem ad2:bM [] []=true:=rfl
theorem ad3{a b:D}{as bs:AS}:bM (a::as) (b::bs)=(deq a b&&bM as bs):=by rw[bM]
theorem ad4{b:D}{bs:AS}:bM [] (b::bs)=false:=rfl
theorem ad5{b:D}{bs:AS}:bM (b::bs) []=false:=rfl
theorem ad6 :nr .non=true:=rfl
theorem ad7 :dpt .non=0:=rfl
theorem ad8{x:Bool}:nr (.bl x)=true:=rfl
theorem ad9{x:Bool}:dpt (.bl x)=0:=rfl
theorem aea{x:Int}:nr (.int x)=true:=rfl
theorem aeb{x:Int}:dpt (.int x)=0:=rfl
theorem aec{x:AA}:nr (.str x)=true:=rfl
theorem aed{x:AA}:dpt (.str x)=0:=rfl
theorem aee{x:AS}:nr (.tup x)=nrs x:=by rw[nr]
theorem aef{x:AS}:dpt (.tup x)=bf x+1:=by rw[dpt]
theorem aeg{x:AS}:nr (.lst x)=nrs x:=by rw[nr]
theorem aeh{x:AS}:dpt (.lst x)=bf x+1:=by rw[dpt]
theorem aei:nrs []=true:=rfl
theorem aej{a:D}{l:AS}:nrs (a::l)=(nr a&&nrs l):=by rw[nrs]
theorem aek:bf []=0:=rfl
theorem ael{a:D}{l:AS}:bf (a::l)=max (dpt a) (bf l):=by rw[bf]
end
def seq{Z:aj}{s:Sx}{r:Sxs}{E:EK}{Y:ak}{G:DH}{D:En}(h:∀M:ak->DH->Prop,(∀g q,az Z r E g q D->M g q)->wpS Z s E Y G {D with nx:=M}):az Z (.cons s r) E Y G D:=by rw[lO];exact h _ λz z x=>x
def last{Z:aj}{s:Sx}{E:EK}{Y:ak}{G:DH}{D:En}(h:wpS Z s E Y G D):az Z (.cons s .nil) E Y G D:=by rw[lO];exact wpS_mono s (D:=D) (D':={D with nx:=λg z=>az Z .nil E g z D}) ⟨λg z q=>(show az Z .nil E g z D from by rw[lN];exact q),λy y q=>q,λy y q=>q,λy y q=>q⟩ h
def done{Z:aj}{E:EK}{Y:ak}{G:DH}{D:En}(h:D.nx Y G):az Z .nil E Y G D:=by rw[lN];exact h
section
variable {Z:aj} {E:EK} {ρ:ak} {G:DH}
def ForG(Z:aj)(t:Tg)(body:Sxs)(E:EK)(D:En)(q:List RF.D)(g:Hld)(ρ:ak)(G:DH):Prop:=
 forLoop (λd z L k=>aX t d z L λJ=>az Z body E J L {D with nx:=k,ct:=k,bk:=D.nx}) g q ρ G D.nx
theorem aem{t:Tg}{it:It'}{body:Sxs}{D:En}:wpS Z (.for_ t it body) E ρ G D=wpI Z it E ρ G λq g G1=>ForG Z t body E D q g ρ G1:=rfl
theorem ForG.inv{t:Tg}{body:Sxs}{D:En}{q:List RF.D}{g:Hld}(P:Nat->ak->DH->Prop)(h0:P 0 ρ G)(hh:∀i ρ G,P i ρ G->held g G)
  (hs:∀i d ρ G,q[i]?=-d->P i ρ G->∀J:ak->DH->Prop,(∀z M,P (i+1) z M->J z M)->aX t d ρ G λL=>az Z body E L G {D with nx:=J,ct:=J,bk:=D.nx})
  (he:∀ρ G,P q⁻¹ ρ G->D.nx ρ G):ForG Z t body E D q g ρ G:=abg P h0 hh hs he
def CompG(Z:aj)(elt:Ex)(tg:Tg)(cond:Tx)(z:AS)(g:Hld)(ρ:ak)(G:DH)(k:AS->DH->Prop):Prop:=
 compLoop (λd J L k'=>aX tg d J L λq=>wpT Z cond noE q L λb M=>match b with|true=>wpE Z elt noE q M λy N=>k' (-y) q N|false=>k' none q M) g z [] ρ G k
def j6(cap:List (Option Nat))(ρ:ak):ak:=cap.map λo=>match o with|none=>none|some j=>(ρ[j]?).join
theorem aen{ρ:ak}:j6 [] ρ=[]:=rfl
theorem aeo{cap:List (Option Nat)}{ρ:ak}:j6 (none::cap) ρ=none::j6 cap ρ:=rfl
theorem aep{cap:List (Option Nat)}{ρ:ak}{j:Nat}:j6 (-j::cap) ρ=(ρ[j]?).join::j6 cap ρ:=rfl
theorem aeq{fz:Bool}{elt:Ex}{tg:Tg}{it:It'}{cond:Tx}{N:List AL}{cap:List (Option Nat)}{k:AT}:
  wpE Z (.comp fz elt tg it cond N cap) E ρ G k=wpI Z it E ρ G λq g G1=>CompG Z elt tg cond q g (j6 cap ρ) G1 λds z=>mk fz ds z k:=rfl
theorem CompG.inv{elt:Ex}{tg:Tg}{cond:Tx}{q:AS}{g:Hld}{k:AS->DH->Prop}(P:Nat->AS->ak->DH->Prop)(h0:P 0 [] ρ G)(hh:∀i z ρ G,P i z ρ G->held g G)(hl:q⁻¹<=sz)
  (hs:∀i d z ρ G,q[i]?=-d->P i z ρ G->∀M:Option D->ak->DH->Prop,(∀o L N,P (i+1) (z++o.toList) L N->M o L N)->
   aX tg d ρ G λJ=>wpT Z cond noE J G λb O=>match b with|true=>wpE Z elt noE J O λy U=>M (-y) J U|false=>M none J O)
  (he:∀z ρ G,P q⁻¹ z ρ G->k z G):CompG Z elt tg cond q g ρ G k:=JH P h0 hh (!!hl) hs he
theorem CompG.map{elt:Ex}{tg:Tg}{cond:Tx}{q:AS}{g:Hld}{k:AS->DH->Prop}(f:D->D)(I:ak->Prop)(h0:I ρ)(O:held g G)(hl:q⁻¹<=sz)
  (hs:∀d ρ,d∈q->I ρ->∀L:Option D->ak->DH->Prop,(∀J,I J->L (-(f d)) J G)->aX tg d ρ G λz=>wpT Z cond noE z G λb M=>match b with|true=>wpE Z elt noE z M λy N=>L (-y) z N|false=>L none z M)
  (he:k (q.map f) G):CompG Z elt tg cond q g ρ G k:=abi g f I h0 O hl hs he
def WhlG(Z:aj)(c:Tx)(body:Sxs)(E:EK)(D:En)(n:Nat)(ρ:ak)(G:DH):Prop:=
 whileLoop (λg q k=>wpT Z c E g q k) (λg q k=>az Z body E g q {D with nx:=k,ct:=k,bk:=D.nx}) n ρ G D.nx
theorem aer{c:Tx}{body:Sxs}{D:En}:wpS Z (.whl c body) E ρ G D=∃n,WhlG Z c body E D n ρ G:=rfl
theorem WhlG.inv{c:Tx}{body:Sxs}{D:En}(P:Nat->ak->DH->Prop)(hs:∀n ρ G,P n ρ G->wpT Z c E ρ G λb G1=>match b with|true=>∀M:ak->DH->Prop,(∀m g J,m<n->P m g J->M g J)->az Z body E ρ G1 {D with nx:=M,ct:=M,bk:=D.nx} |false=>D.nx ρ G1):
  ∀n ρ G,P n ρ G->WhlG Z c body E D (n+1) ρ G:=by
 intro n;induction n using Nat.strongRecOn with
 |_ n U=>
  intro ρ G p;show dm c (λb G1 q=>?_) (hs n ρ G p);cases b with
  |false=>exact q
  |true=>
   show q _ λm g J N Y=>?_;have:=U m N g J Y;have up:∀(i j:Nat)(ρ:ak)(G:DH),i<=j->WhlG Z c body E D i ρ G->WhlG Z c body E D j ρ G:=by
    intro i;induction i with
    |zero=>intro j ρ G _ h;exact h.elim
    |succ i L=>
     intro j ρ G O h;cases j with
     |zero=>lia
     |succ j=>
      show dm c (λb G1 q=>?_) h;cases b with
      |false=>exact q
      |true=>exact dR body (D:={D with nx:=λg J=>WhlG Z c body E D i g J,ct:=λg J=>WhlG Z c body E D i g J,bk:=D.nx}) ⟨λg J z=>L j g J (!0) z,λy y z=>z,λy y z=>z,λg J z=>L j g J (!0) z⟩ q
   exact up (m+1) n g J N this
end
def len0{g:Type}{l:List g}(h:l⁻¹=0):l=[]:=cw.mp h
def yP{g:Type}{n:Nat}{l:List g}(h:l⁻¹=n+1):∃a r,l=a::r/\r⁻¹=n:=by
 cases l with
 |nil=>cases h
 |cons a r=>exact⟨a,r,rfl,Nat.succ.inj h⟩
def dh{g:Type}{l:List g}(h:l⁻¹=1):∃a,l=[a]:=by let(a,r,rfl,h2):=yP h;cases len0 h2;exact⟨a,rfl⟩
def bz{g:Type}{l:List g}(h:l⁻¹=2):∃a b,l=[a,b]:=by let(a,r,rfl,h2):=yP h;let(b,rfl):=dh h2;exact⟨a,b,rfl⟩
def fu{g:Type}{l:List g}(h:l⁻¹=3):∃a b c,l=[a,b,c]:=by let(a,r,rfl,h2):=yP h;let(b,c,rfl):=bz h2;exact⟨a,b,c,rfl⟩
structure Fo(Z:aj)(P:AK)(w:World)(K:PF)(mg:AH)(base:Heap)(k:Nat)(f:AL)(n:Nat):Prop where
 ex:∃fa fd ps,FnOk P w K mg base (CX1 P w) k fa fd ps (lift K n (Z f))/\PySem.W.keepIn K (.ref fa)=true/\Binds K fd ps []/\mg (⇑f)=some (.ref fa)
section
variable {Z:aj} {P:AK} {w:World} {K:PF} {mg:AH} {base:Heap} {k:Nat} {xs:List (AL×Bool)} {ot:OT}
def AllF(Z:aj)(P:AK)(w:World)(K:PF)(mg:AH)(base:Heap)(k:Nat):List (AL×Nat)->Prop
 |[]=>True
 | (f,n)::r=>Fo Z P w K mg base k f n/\AllF Z P w K mg base k r
def AllB(mg:AH):List AL->Prop
 |[]=>True
 |f::r=>mg (⇑f)=none/\AllB mg r
def AllC(K:PF)(mg:AH):List (AL×D)->Prop
 |[]=>True
 | (x,d)::r=>(∃u v,mg (⇑x)=-u/\RelV v u/\∀H F,Rep K H F d v)/\AllC K mg r
theorem AllF.get:∀{fs:List (AL×Nat)}{f:AL}{n:Nat},AllF Z P w K mg base k fs->(f,n)∈fs->Fo Z P w K mg base k f n
 | (f',n')::r,f,n,h,m=>by
  rcases br.mp m with e|m
  .cases e;exact h.1
  .exact AllF.get h.2 m
theorem AllB.get:∀{fs:List AL}{f:AL},AllB mg fs->f∈fs->mg (⇑f)=none
 |f'::r,f,h,m=>by
  rcases br.mp m with e|m
  .cases e;exact h.1
  .exact AllB.get h.2 m
theorem AllC.get:∀{fs:List (AL×D)}{x:AL}{d:D},AllC K mg fs->(x,d)∈fs->∃u v,mg (⇑x)=-u/\RelV v u/\∀H F,Rep K H F d v
 | (f',n')::r,f,n,h,m=>by
  rcases br.mp m with e|m
  .cases e;exact h.1
  .exact AllC.get h.2 m
def cvB(K:PF)(g:AL):Option V:=match PySem.W.nsIn K mainGlobals (⇑g) with
 |some (-(.ref a))=>if Du K a then some (.ref a) else none
 |some none=>if g=="ValueError" then some (.ty "ValueError") else none
 |_=>none
def xiB(K:PF)(C g:AL)(q:V):Bool:=match PySem.W.nsIn K mainGlobals (⇑C) with
 |some (-(.ref c))=>vB K c&&PySem.W.mroIn K c (valOf q)==-(gH C g)&&(gH C g||!(Value.ref c==valOf q))
 |_=>false
def yQ(K:PF)(C:AL):Bool:=match PySem.W.nsIn K mainGlobals (⇑C) with
 |some (-(.ref c))=>qX K c
 |_=>false
def xsB(K:PF)(xs:List (AL×Bool)):Bool:=xs.all λp=>match p.2 with
 |true=>yQ K p.1
 |false=>(cvB K p.1).any λg=>xs.all λq=>!q.2||xiB K q.1 p.1 g
theorem aes{h:Heap}(X:K.In h)(q:h.Ns mainGlobals mg){xs:List (AL×Bool)}(e:xsB K xs=true)(C:AL)(z:xs.contains (C,true)=true):∃a,mg (⇑C)=-(.ref a)/\qX K a=true/\PySem.W.nsIn K mainGlobals (⇑C)=-(-(.ref a)):=by
 have g:yQ K C=true:=bS.mp e _ (bB.mp z);unfold yQ at g;split at g
 .rename_i a hn;exact⟨a,PySem.W.mg_of X q hn,g,hn⟩
 .cases g
theorem aet{h:Heap}(X:K.In h)(O:h.Ns mainGlobals mg){xs:List (AL×Bool)}(e:xsB K xs=true)(L:AL)(M:xs.contains (L,false)=true):∃J,CV K mg L J/\∀C,xs.contains (C,true)=true->XI K C L J:=by
 have U:((cvB K L).any λJ=>xs.all λq=>!q.2||xiB K q.1 L J)=true:=bS.mp e _ (bB.mp M);let(J,g,h2):=aW U;show⟨J,?_,λC M=>?_⟩
 .unfold cvB at g;split at g
  .rename_i a hn;split at g
   .rename_i N;cases g;exact .inl ⟨a,rfl,PySem.W.mg_of X O hn,N⟩
   .cases g
  .rename_i hn;split at g
   .rename_i N;cases g;exact .inr ⟨a8.mp N,rfl,PySem.W.mg_none_of X O hn⟩
   .cases g
  .cases g
 .have z:(!true||xiB K C L J)=true:=bS.mp h2 _ (bB.mp M);have z:xiB K C L J=true:=z;unfold xiB at z;split at z
  .rename_i c hn;rw[af,af,a8]at z;show⟨c,hn,z.1.1,z.1.2,λhs=>?_⟩;have:=z.2;rw[hs,Bool.false_or,gN]at this;exact this
  .cases z
theorem bse{h:Heap}{fs:List (AL×Nat)}{bt:List AL}{cn:List (AL×D)}(h1:AllF Z P w K mg base k fs)(h2:AllB mg bt)(q:AllC K mg cn)(X:K.In h)(g:h.Ns mainGlobals mg)(e:xsB K xs=true):Bse Z P w K mg base (CX1 P w) k fs bt cn xs {}:=
 ⟨λz z m=>(h1.get m).ex,λz m=>h2.get m,λz z m=>q.get m,aes X g e,aet X g e,(λz z z z h=>(nomatch h)),(λz z h=>(nomatch h)),(λz z h=>(nomatch h)),(λz z h=>(nomatch h))⟩
theorem mJ{x:AL}{i:Int}{t:Tok}(h:mg (⇑x)=-(.int i t)):∃u v,mg (⇑x)=-u/\RelV v u/\∀H F,Rep K H F (.int i) v:=⟨_,.int i,h,⟨t,rfl⟩,λz z=>rfl⟩
theorem aeu{x:AL}{l:AA}{s:Str}{t:Tok}(h:mg (⇑x)=-(.str s t))(e:s=tx l)(hl:l⁻¹<=sz):∃u v,mg (⇑x)=-u/\RelV v u/\∀H F,Rep K H F (.str l) v:=⟨_,.str s,h,⟨t,rfl⟩,λz z=>⟨by rw[e],hl⟩⟩
theorem JV{n:Nat}{S:RF.Spec}{fa:AQ}{fd:AJ}{ps:AD}(h:∀ds G a,¬S.pre ds G a):FnOk P w K mg base (CX1 P w) k fa fd ps (lift K n S):=
 ⟨λz z z z ⟨_,_,_,_,_,_,a,g,_⟩=>absurd g (h _ _ a),λz z z z z z z z z z z z z ⟨_,_,_,_,_,_,a,g,_⟩=>absurd g (h _ _ a)⟩
end
section
variable {Z:aj} {P:AK} {w:World} {K:PF} {mg:AH} {base:Heap} {k j n:Nat} {fs:List (AL×Nat)} {bt:List AL} {cn:List (AL×D)} {xs:List (AL×Bool)} {ot:OT} {x:AL} {S:RF.Spec} {fa:AQ} {fd:AJ} {ps:AD}
theorem MthOk.mono{f C m:AL}(h:MthOk Z P w K mg base (CX1 P w) k f C m n)(J:k<=j):MthOk Z P w K mg base (CX1 P w) j f C m n:=by let(c,fa,fd,ps,h1,h2,g,q,z):=h;exact⟨c,fa,fd,ps,h1,h2,g,q,z.mono J⟩
theorem MkoOk.mono{C:AL}(h:MkoOk Z P w K mg base (CX1 P w) k C n)(g:k<=j):MkoOk Z P w K mg base (CX1 P w) j C n:=by let(c,fa,fd,ps,sp,i,h0,h):=h;exact⟨c,fa,fd,ps,sp,i,b5 h0 g,h⟩
theorem XkoX.mono{C f:AL}(h:XkoX P w K mg base (CX1 P w) k xs C f)(g:k<=j):XkoX P w K mg base (CX1 P w) j xs C f:=by let((c,fa,fd,ps,i,h0,h),h2):=h;exact⟨⟨c,fa,fd,ps,i,b5 h0 g,h⟩,h2⟩
theorem Bse.add(B:Bse Z P w K mg base (CX1 P w) k fs bt cn xs ot)(e:Z x=S)(o:FnOk P w K mg base (CX1 P w) (k+j) fa fd ps (lift K n S))(h2:PySem.W.keepIn K (.ref fa)=true)(z:Binds K fd ps [])(J:mg (⇑x)=-(.ref fa)):Bse Z P w K mg base (CX1 P w) (k+j) ((x,n)::fs) bt cn xs ot:=by
 show⟨λf m g=>?_,B.blt,B.con,B.xcl,B.xis,λf C m n h=>(B.mth f C m n h).mono (dc _ _),λC n h=>(B.mko C n h).mono (dc _ _),B.fld,λC f h=>(B.xko C f h).mono (dc _ _)⟩;rcases br.mp g with q|g
 .cases q;exact⟨fa,fd,ps,by rw[e];exact o,h2,z,J⟩
 .let(fa,fd,ps,h1,h):=B.call f m g;exact⟨fa,fd,ps,h1.mono (dc _ _),h⟩
theorem Bse.step{g:Str}{st:Stmt}{N:AD}{body:Sxs}(B:Bse Z P w K mg base (CX1 P w) k fs bt cn xs ot)(F:Fun K (⇑x) g st fa fd)(q:Binds K fd ps [])(z:mg (⇑x)=-(.ref fa))(e:Z x=S)(m:Nat)
  (hs:fnB N ps (ao st)=true) (hc:aD (aH N (ao st) fs bt cn xs ot) body (aG st)=true) (hn:ps⁻¹=n) (J:N⁻¹=n+m)
  (hw:∀ds G a,ds⁻¹=n->S.pre ds G a->az Z body noE (env0 ds m) G (ends (S.post a))):Bse Z P w K mg base (CX1 P w) (k+1) ((x,n)::fs) bt cn xs ot:=
 B.add e (uf F B S n m hs hc hn J hw) F.kp q z
def jd(Z:aj)(x:AL)(S:RF.Spec):aj:=λf=>if f=x then S else Z f
theorem j7{y:AL}(e:Z y=S){g:RF.Spec}(h:(y==x)=false):jd Z x g y=S:=by unfold jd;rw[if_neg (!!h)];exact e
theorem Bse.self(B:Bse Z P w K mg base (CX1 P w) k fs bt cn xs {})(q:(fs.map (·.1)).contains x=false)(o:FnOk P w K mg base (CX1 P w) (k+j) fa fd ps (lift K n S))(h2:PySem.W.keepIn K (.ref fa)=true)(J:Binds K fd ps [])(L:mg (⇑x)=-(.ref fa)):Bse (jd Z x S) P w K mg base (CX1 P w) (k+j) ((x,n)::fs) bt cn xs {}:=by
 show⟨λf m N=>?_,B.blt,B.con,B.xcl,B.xis,(λy y y y h=>(nomatch h)),(λy y h=>(nomatch h)),(λy y h=>(nomatch h)),(λy y h=>(nomatch h))⟩;rcases br.mp N with z|g
 .cases z;exact⟨fa,fd,ps,by unfold jd;rw[if_pos rfl];exact o,h2,J,L⟩
 .let(fa,fd,ps,h1,h):=B.call f m g;have M:f≠x:=by
   rintro rfl;rw[<-Bool.not_eq_true,bB]at q;exact q (aT.mpr ⟨(f,m),g,rfl⟩)
  exact⟨fa,fd,ps,by unfold jd;rw[if_neg M];exact h1.mono (dc _ _),h⟩
end
def aev{S:RF.Spec}(N:∀(ns:List Int)(G:DH),ns⁻¹<=63->∃a,S.pre [.scr ns] G a/\(∀d g,S.post a d g->d=.bl true)/\∀x g,¬S.exc a x g)(K:PF)(H:Hp)(a:AQ)(ns:List Int)(hl:ns⁻¹<=63)(M:Only H)(hs:SqL K H a (ns.map V.int)):
  lift K 1 S [.ref a] H (λv y=>v=.bl true) λy y y=>False:=by
 let(b,h1,h2,L):=N ns (λy=>none) hl;show⟨rfl,λy=>False,λy=>none,[.scr ns],⟨λy f=>f.elim,λy y e=>by cases e⟩,⟨.ref a,[],rfl,⟨a,rfl,?_⟩,rfl⟩,b,h1,λd g q H' F' v y y J=>?_,λx g q=>absurd q (L x g)⟩
 .rcases hs with(h|h)|h
  .exfalso;rcases M a with z|⟨o,u,z⟩
   .rw[z]at h;cases h
   .rw[z]at h;cases h
  .exact .inl h
  .exact .inr h
 .rw[h2 d g q]at J;exact J
def aew{pre:AS->DH->Prop}(h:∀(ns:List Int)(G:DH),ns⁻¹<=63->pre [.scr ns] G):∀(ns:List Int)(G:DH),ns⁻¹<=63->∃a,(bR pre (λy y d y=>d=.bl true)).pre [.scr ns] G a/\(∀d g,(bR pre (λy y d y=>d=.bl true)).post a d g->d=.bl true)/\∀x g,¬(bR pre (λy y d y=>d=.bl true)).exc a x g:=
 λns G hl=>⟨([.scr ns],G),⟨rfl,h ns G hl⟩,λy y q=>q,λy y z=>z⟩
def ghS{A:Type}(pre:A->AS->DH->Prop)(post:A->DH->D->DH->Prop):RF.Spec where
 A:=A×DH
 pre:=λds G a=>a.2=G/\pre a.1 ds G
 post:=λa d g=>post a.1 a.2 d g
 exc:=λz z z=>False
def je{A:Type}{pre:A->AS->DH->Prop}{post:A->DH->D->DH->Prop}{ds:AS}{G:DH}{k:AT}{E:EK}(a:A)(h:pre a ds G)(q:∀d g,post a G d g->k d g):(ghS pre post).t ds G k E:=
 ⟨(a,G),⟨rfl,h⟩,q,λy y z=>z.elim⟩
def gW{A:Type}{Z:aj}{body:Sxs}{m n:Nat}{pre:A->AS->DH->Prop}{post:A->DH->D->DH->Prop}(h:∀a ds G,pre a ds G->az Z body noE (env0 ds m) G (ends (post a G))):
  ∀ds G a,ds⁻¹=n->(ghS pre post).pre ds G a->az Z body noE (env0 ds m) G (ends ((ghS pre post).post a)):=by
 rintro ds G ⟨a,g⟩ _ ⟨rfl,h1⟩;exact h a ds _ h1
def bT{A:Type}(args:A->AS)(ok:A->Prop)(val:A->D):RF.Spec:=ghS (λa ds z=>ds=args a/\ok a) (λa G d g=>g=G/\d=val a)
def cj{A:Type}{args:A->AS}{ok:A->Prop}{val:A->D}{ds:AS}{G:DH}{k:AT}{E:EK}(a:A)(e:ds=args a)(h:ok a)(z:k (val a) G):(bT args ok val).t ds G k E:=
 je a ⟨e,h⟩ λd J zZ=>by let(g,q):=zZ;subst g q;exact z
def bY{A:Type}{Z:aj}{body:Sxs}{m n:Nat}{args:A->AS}{ok:A->Prop}{val:A->D}(h:∀a G,ok a->az Z body noE (env0 (args a) m) G (ends λd g=>g=G/\d=val a)):
  ∀ds G a,ds⁻¹=n->(bT args ok val).pre ds G a->az Z body noE (env0 ds m) G (ends ((bT args ok val).post a)):=
 gW λa ds G zZ=>by let(e,h1):=zZ;subst e;exact h a G h1
section
local macro_rules|`(#[])=>`(.nil)|`(#[$x])=>`(.cons $x .nil)|`(#[$x,$y,*])=>`(.cons $x #[$y,*])
local macro_rules|`(-$x)=>`(.var $x)
local macro_rules|`(¬$x)=>`(.cst (.int $x))
local macro_rules|`(!$x)=>`(.cst (.str $x))
local macro_rules|`($x<|$y)=>`(.call $x $y)
def yR:Sxs:=#[.set (-0) (¬2) (¬0),.ret (-0)]
def yS:Sxs:=#[.ite (.val (.cmp .GtE (-0) (.bin .Pow true (¬10) (¬18)))) #[.ret (-0)] #[],.asg (.nm 2) (.bin .Mod true (.bin .Add true (.bin .Add true (.bin .Mult true (.bin .Mod true (-0) (¬1000000007)) (¬69069)) (.bin .Mult true (-1) (¬40503))) (¬977)) (¬2147483629)),.asg (.nm 3) (.bin .Mod true (.bin .Add true (.bin .Add true (.bin .Mult true (-2) (-2)) (.bin .Mult true (-1) (¬7919))) (.bin .Mod true (-0) (¬65537))) (¬2147483587)),.asg (.nm 4) (.bin .Mod true (.bin .Add true (.bin .Add true (.bin .Mult true (-3) (-3)) (.bin .Mult true (-2) (¬31))) (¬5)) (¬2147483563)),.ret (.bin .Add true (.bin .Mult true (.bin .Add true (.bin .Mult true (-2) (¬2147483659)) (-3)) (¬2147483693)) (-4))]
def yU:Sxs:=#[.ite (.val (.cmp .Lt (.idx (-0) (¬2)) (-1))) #[.asg (.nm 2) (.idx (-0) (¬1)),.asg (.nm 3) (¬0),.ite (.val (.cmp .Lt (-2) (.bcl .len #[.idx (-0) (¬0)]))) #[.asg (.nm 3) (.idx (.idx (-0) (¬0)) (-2))] #[.ite (.val (.cmp .Gt (.bcl .len #[.idx (-0) (¬0)]) (¬0))) #[.asg (.nm 3) (.bin .Mod true (.idx (.idx (-0) (¬0)) (.bin .Mod true (.bin .Add true (.bin .Mult true (-2) (¬5)) (¬3)) (.bcl .len #[.idx (-0) (¬0)]))) (.bin .Add true (.bin .Pow true (¬10) (¬17)) (-2)))] #[]],.set (-0) (¬1) (.bin .Add true (-2) (¬1)),.set (-0) (¬2) ("_law_spread"<|#[-3,-2])] #[],.asg (.nm 4) (.bin .Mod true (.idx (-0) (¬2)) (-1)),.set (-0) (¬2) (.bin .FloorDiv true (.idx (-0) (¬2)) (-1)),.ret (-4)]
def yV:Sxs:=#[.asg (.nm 2) (.rgl false (-1)),.ret (.bcl .tuple #[.comp true (.mth .pop (-1) #["_law_take"<|#[-2,.bcl .len #[-1]]]) (.nm 0) (.rng (-1)) .yes ["k","left","pen"] [none,some 2,some 0]])]
def yW:Sxs:=#[.asg (.nm 3) ("_law_take"<|#[-0,.bcl .len #[-1]]),.asg (.nm 4) ("_law_take"<|#[-0,¬6]),.ite (.val (.cmp .Eq (-4) (¬0))) #[.ret (.bin .Add true (.slc true (-1) .no (.ob (-3))) (.slc true (-1) (.ob (.bin .Add true (-3) (¬1))) .no))] #[],.ite (.val (.cmp .Eq (-4) (¬1))) #[.ret (.bin .Add true (.bin .Add true (.slc true (-1) .no (.ob (-3))) (.lst true #[.idx (-1) (-3)])) (.slc true (-1) (.ob (-3)) .no))] #[],.ite (.val (.cmp .Lt (-4) (¬4))) #[.asg (.nm 5) (.comp true ("_law_order"<|#[-1,-2]) (.nm 0) (.rng (.bin .Add true (¬1) ("_law_take"<|#[-0,¬3]))) .yes ["k","pen","many"] [none,some 0,some 2]),.ret (.bin .Add true (-1) (.comp true (-0) (.nm 0) (.seq (-5)) (.val (.cmp .NotIn (-0) (-1))) ["one","orders"] [none,some 1]))] #[],.ite (.val (.cmp .Eq (-4) (¬4))) #[.asg (.nm 6) (.lst true #[.tup #[],.bin .Mult true (.tup #[¬0]) (-2),.bin .Add true (.tup #[.bin .Pow true (¬10) (¬20)]) (.rgt (-2)),.tup #[.neg (¬1)]]),.ret (.bin .Add true (-1) (.lst true #[.idx (-6) ("_law_take"<|#[-0,¬4])]))] #[],.ret (.rvs true (-1) (.neg (¬1)))]
def yX:Sxs:=#[.ret (.mth .join (![]) #[.comp true (.idx (-1) ("_law_take"<|#[-2,.bcl .len #[-1]])) (.nm 0) (.rng (-1)) .yes ["at","signs","pen"] [none,some 2,some 0]])]
def yZ:Sxs:=#[.asg (.nm 2) (.lst true #[![97],![103,111],![115,116,97,121],![97,98,99,100,101,102,103,104],![110,111,110,101],![121,101,115],![105,110],![111,117,116],![107,101,101,112],![119,111,114,100],![122,122]]),.asg (.nm 3) ("_law_take"<|#[-0,¬11]),.asg (.nm 4) (.comp true (.idx (-1) (.bin .Mod true (.bin .Add true (-2) (.bin .Mult true (¬3) (-0))) (¬11))) (.nm 0) (.rng (.bin .Add true (¬1) ("_law_take"<|#[-0,-1]))) .yes ["k","some","turn"] [none,some 2,some 3]),.ite (.val (.cmp .Eq ("_law_take"<|#[-0,¬3]) (¬0))) #[.asg (.nm 5) (![97,98,99,100,101,102,103,104,105,106,107,108,109,110,111,112,113,114,115,116,117,118,119,120,121,122]),.asg (.nm 4) (.comp true ("_law_signs"<|#[-1,.bin .Add true (¬1) ("_law_take"<|#[-1,¬8]),-2]) (.nm 0) (.seq (-4)) .yes ["one","pen","letters"] [none,some 0,some 5])] #[],.ret (-4)]
def za:Sxs:=#[.ret ("_law_signs"<|#[-0,-1,.idx (.lst true #[![48,49,42],![48,49,42,42],![48,49,42,42,42,42],![48,42],![48,49]]) ("_law_take"<|#[-0,¬5])])]
def zb:Sxs:=#[.asg (.nm 2) (![]),.for_ (.nm 3) (.seq (-1)) #[.ite (.val (.cmp .Eq ("_law_take"<|#[-0,¬3]) (¬0))) #[.asg (.nm 3) (![42])] #[],.asg (.nm 2) (.bin .Add true (-2) (-3))],.ret (-2)]
def zc:Sxs:=#[.asg (.nm 2) (![]),.for_ (.nm 3) (.seq (-1)) #[.ite (.boo true (.val (.cmp .Eq (-3) (![42]))) #[.val (.cmp .Eq ("_law_take"<|#[-0,¬2]) (¬0))]) #[.asg (.nm 3) (.idx (![48,49]) ("_law_take"<|#[-0,¬2]))] #[],.asg (.nm 2) (.bin .Add true (-2) (-3))],.ret (-2)]
def zf:Sxs:=#[.asg (.nm 3) ("_law_take"<|#[-0,¬7]),.ite (.boo false (.val (.cmp .Eq (-2) (.lst true #[]))) #[.val (.cmp .Lt (-3) (¬2))]) #[.ret ("_law_form"<|#[-0,-1])] #[],.asg (.nm 4) (.idx (-2) ("_law_take"<|#[-0,.bcl .len #[-2]])),.ite (.val (.cmp .Eq (-3) (¬2))) #[.ret (-4)] #[],.ite (.val (.cmp .Lt (-3) (¬5))) #[.asg (.nm 5) ("_law_take"<|#[-0,-1]),.ret (.bin .Add true (.bin .Add true (.slc true (-4) .no (.ob (-5))) (.idx (![48,49,42]) ("_law_take"<|#[-0,¬3]))) (.slc true (-4) (.ob (.bin .Add true (-5) (¬1))) .no))] #[],.ite (.val (.cmp .Eq (-3) (¬5))) #[.ret ("_law_within"<|#[-0,-4])] #[],.ret ("_law_wider"<|#[-0,-4])]
def zg:Sxs:=#[.asg (.nm 3) (.bin .Add true (¬1) ("_law_take"<|#[-0,-1])),.asg (.nm 4) ("_law_deeds_of"<|#[-0,¬3]),.asg (.nm 5) (.lst false #[]),.asg (.nm 6) (.lst false #[]),.for_ (.nm 7) (.rng ("_law_take"<|#[-0,.bin .Add true (-2) (¬1)])) #[.exp (.mth .append (-5) #["_law_form_like"<|#[-0,-3,-5]]),.exp (.mth .append (-6) #[.tup #[.idx (-5) (.neg (¬1)),.idx (-4) ("_law_take"<|#[-0,.bcl .len #[-4]])]])],.ret (.tup #[-3,.bcl .tuple #[-6]])]
def zj:Sxs:=#[.for_ (.tp #[.nm 2,.nm 3]) (.zip (-0) (-1)) #[.ite (.boo true (.val (.cmp .NotEq (-2) (![42]))) #[.val (.cmp .NotEq (-2) (-3))]) #[.ret (.cst (.bl false))] #[]],.ret (.cst (.bl true))]
def zm:Sxs:=#[.for_ (.tp #[.nm 2,.nm 3]) (.enm (.idx (-0) (¬1))) #[.ite (.val ("_law_fits"<|#[.idx (-3) (¬0),-1])) #[.ret (-2)] #[]],.ret (.cst .non)]
def zr:Sxs:=#[.asg (.nm 2) ("_law_met"<|#[-0,-1]),.ite (.val (.cmp .Is (-2) (.cst .non))) #[.ret (.cst .non)] #[],.ret (.idx (.idx (.idx (-0) (¬1)) (-2)) (¬1))]
def zu:Sxs:=#[.asg (.nm 1) (.lst true #[![]]),.for_ (.nm 2) (.seq (-0)) #[.asg (.nm 3) (.lst false #[]),.for_ (.nm 4) (.seq (-1)) #[.exp (.mth .extend (-3) #[.comp true (.bin .Add true (-1) (-0)) (.nm 0) (.seq (.idx (.lst true #[![48,49],-2]) (.bcl .int #[.cmp .NotEq (-2) (![42])]))) .yes ["one","text"] [none,some 4]])],.asg (.nm 1) (.frz (-3))],.ret (-1)]
def zx:Sxs:=#[.ret (.comp true ("_law_deed"<|#[-1,-0]) (.nm 0) (.seq ("_law_words"<|#[.bin .Mult true (![42]) (.idx (-0) (¬0))])) .yes ["word","book"] [none,some 0])]
def zy:Sxs:=#[.ret (.tup #[.idx (-0) (¬0),.bcl .tuple #[.comp true (.idx (.idx (-1) (¬1)) (-0)) (.nm 0) (.seq (-1)) .yes ["number","book"] [none,some 0]]])]
def JW:Sxs:=#[.ret (.bin .Add true (.bin .Add true (.slc true (-0) .no (.ob (-1))) (.tup #[.idx (-0) (.bin .Add true (-1) (¬1)),.idx (-0) (-1)])) (.slc true (-0) (.ob (.bin .Add true (-1) (¬2))) .no))]
def zz:Sxs:=#[.asg (.nm 3) (.bcl .len #[.idx (-0) (¬1)]),.for_ (.nm 4) (.seq (-2)) #[.ite (.val (.cmp .NotEq (.lcl true .sorted #[-4]) (.rgl true (-3)))) #[.ret (.cst (.bl false))] #[]],.ite (.boo false (.val (.cmp .Lt (.lns (-2)) (.bcl .len #[-2]))) #[.val (.cmp .In (-1) (-2)),.val (.cmp .NotIn (.rgt (-3)) (-2))]) #[.ret (.cst (.bl false))] #[],.asg (.nm 5) ("_law_all_deeds"<|#[-0]),.for_ (.nm 4) (.seq (-2)) #[.for_ (.nm 6) (.rng (.bin .Sub true (-3) (¬1))) #[.asg (.nm 7) ("_law_stepped"<|#[-4,-6]),.ite (.boo true (.val (.cmp .NotIn (-7) (-2))) #[.val (.cmp .Eq ("_law_all_deeds"<|#["_law_by"<|#[-0,-7]]) (-5))]) #[.ret (.cst (.bl false))] #[]]],.ret (.cst (.bl true))]
def zA:Sxs:=#[.asg (.nm 1) ("_law_all_deeds"<|#[-0]),.asg (.nm 2) (.lst false #[.rgt (.bcl .len #[.idx (-0) (¬1)])]),.asg (.nm 3) (.dp1 (.idx (-2) (¬0)) (¬0)),.asg (.nm 4) (¬0),.whl (.val (.cmp .Lt (-4) (.bcl .len #[-2]))) #[.for_ (.nm 5) (.rng (.bin .Sub true (.bcl .len #[.idx (-2) (-4)]) (¬1))) #[.asg (.nm 6) ("_law_stepped"<|#[.idx (-2) (-4),-5]),.ite (.boo true (.val (.cmp .NotIn (-6) (-3))) #[.val (.cmp .Eq ("_law_all_deeds"<|#["_law_by"<|#[-0,-6]]) (-1))]) #[.set (-3) (-6) (.bin .Add true (.idx (-3) (.idx (-2) (-4))) (¬1)),.exp (.mth .append (-2) #[-6])] #[]],.asg (.nm 4) (.bin .Add true (-4) (¬1))],.ret (-3)]
def zB:Sxs:=#[.asg (.nm 1) (.lcl false .list #[.slc true (-0) .no (.ob (¬12))]),.for_ (.tp #[.nm 2,.nm 3]) (.enm (.slc true (-0) (.ob (¬12)) (.ob (¬63)))) #[.set (-1) (.bin .Mod true (-2) (¬12)) (.bin .Add true (.idx (-1) (.bin .Mod true (-2) (¬12))) (-3))],.ret (.lst false #[.frz (-1),¬0,¬0])]
def mK:Sxs:=#[.ret (.rgt (.bcl .len #[.idx (-0) (¬1)]))]
def mL:Sxs:=#[.ite (.boo false (.not (.val (.isi (-0) "str"))) #[.not (.val (.chn .LtE .LtE (¬1) (.bcl .len #[-0]) (.glb "LONGEST_DEED" (.int 8))))]) #[.ret (.cst (.bl false))] #[],.ret (.bcl .all #[.comp true (.cmp .In (-0) (.glb "LETTERS" (.str [97,98,99,100,101,102,103,104,105,106,107,108,109,110,111,112,113,114,115,116,117,118,119,120,121,122]))) (.nm 0) (.seq (-0)) .yes ["sign"] [none]])]
def mO:Sxs:=#[.ite (.boo false (.not (.val (.isi (-2) "str"))) #[.val (.cmp .NotEq (.bcl .len #[-2]) (-1))]) #[.ret (.cst (.bl false))] #[],.ret (.bcl .all #[.comp true (.cmp .In (-0) (-1)) (.nm 0) (.seq (-2)) .yes ["sign","signs"] [none,some 0]])]
def mQ:Sxs:=#[.ret ("is_text_of"<|#[![48,49,42],-0,-1])]
def mR:Sxs:=#[.ite (.boo false (.not (.val (.isi (-1) "tuple"))) #[.val (.cmp .NotEq (.bcl .len #[-1]) (¬2))]) #[.ret (.cst (.bl false))] #[],.ret (.boo true ("is_form"<|#[-0,.idx (-1) (¬0)]) #["is_deed"<|#[.idx (-1) (¬1)]])]
def mU:Sxs:=#[.ret (.boo true (.isi (-0) "int") #[.not (.isi (-0) "bool")])]
def mV:Sxs:=#[.ret (.boo true ("is_whole"<|#[-0]) #[.chn .LtE .LtE (¬1) (-0) (.glb "WIDEST" (.int 6))])]
def mW:Sxs:=#[.ite (.boo false (.not (.val (.isi (-0) "tuple"))) #[.val (.cmp .NotEq (.bcl .len #[-0]) (¬2))]) #[.ret (.cst (.bl false))] #[],.asg (.tp #[.nm 1,.nm 2]) (-0),.ite (.boo false (.not (.val ("is_width"<|#[-1]))) #[.not (.val (.isi (-2) "tuple")),.val (.cmp .Gt (.bcl .len #[-2]) (.glb "MOST_ROWS" (.int 12)))]) #[.ret (.cst (.bl false))] #[],.ret (.bcl .all #[.comp true ("is_row"<|#[-1,-0]) (.nm 0) (.seq (-2)) .yes ["row","width"] [none,some 1]])]
def mX:Sxs:=#[.ite (.not (.val ("is_book"<|#[-0]))) #[.nev] #[]]
def mY:Sxs:=#[.ret (.boo true ("is_whole"<|#[-1]) #[.chn .LtE .Lt (¬0) (-1) (-0)])]
def mZ:Sxs:=#[.asg (.nm 2) (.bcl .len #[.idx (-0) (¬1)]),.ite (.boo false (.not (.val (.isi (-1) "tuple"))) #[.not (.val (.bcl .all #[.comp true ("is_place"<|#[-1,-0]) (.nm 0) (.seq (-1)) .yes ["number","many"] [none,some 2]]))]) #[.ret (.cst (.bl false))] #[],.ret (.cmp .Eq (.lcl true .sorted #[-1]) (.rgl true (-2)))]
def m6:Sxs:=#[.ite (.not (.val ("is_order"<|#[-0,-1]))) #[.nev] #[]]
def m7:Sxs:=#[.exp ("need_book"<|#[-0]),.exp ("need_order"<|#[-0,-1]),.asg (.tp #[.nm 2,.nm 3]) (-0),.ret (.tup #[-2,.bcl .tuple #[.comp true (.idx (-1) (-0)) (.nm 0) (.seq (-1)) .yes ["number","rows"] [none,some 3]]])]
def m8:Sxs:=#[.asg (.nm 2) (![]),.for_ (.tp #[.nm 3,.nm 4]) (.zip (-0) (-1)) #[.ite (.val (.cmp .Eq (-3) (![42]))) #[.aug 2 .Add (-4)] #[.ite (.boo false (.val (.cmp .Eq (-4) (![42]))) #[.val (.cmp .Eq (-4) (-3))]) #[.aug 2 .Add (-3)] #[.ret (.cst .non)]]],.ret (-2)]
def m9:Sxs:=#[.for_ (.tp #[.nm 2,.nm 3]) (.enm (-0)) #[.ite (.val (.cmp .IsNot ("both"<|#[.idx (-3) (¬0),-1]) (.cst .non))) #[.ret (-2)] #[]],.ret (.cst .non)]
def ni:Sxs:=#[.asg (.nm 2) ("first_touching"<|#[-0,-1]),.ite (.val (.cmp .Is (-2) (.cst .non))) #[.ret (.cst .non)] #[],.for_ (.tp #[.nm 3,.nm 4]) (.enm (.idx (.idx (-0) (-2)) (¬0))) #[.ite (.boo true (.val (.cmp .Eq (.idx (-1) (-3)) (![42]))) #[.val (.cmp .NotEq (-4) (![42]))]) #[.ret (-3)] #[]],.ret (.cst .non)]
def nq:Sxs:=#[.ret (.bin .Add true (.bin .Add true (.slc true (-0) .no (.ob (-1))) (-2)) (.slc true (-0) (.ob (.bin .Add true (-1) (¬1))) .no))]
def j8:Sxs:=#[.for_ (.nm 3) (.seq (-1)) #[.asg (.nm 4) ("splitting_place"<|#[-3,-2]),.ite (.val (.cmp .IsNot (-4) (.cst .non))) #[.asg (.nm 5) ("grown"<|#[-0,-1,"with_sign"<|#[-2,-4,![48]]]),.asg (.nm 6) ("grown"<|#[-0,-1,"with_sign"<|#[-2,-4,![49]]]),.ret (.tup #[![115,112,108,105,116],-4,-5,-6])] #[]],.ret (.bin .Add true (.tup #[-0]) (.bcl .tuple #[.comp true ("first_touching"<|#[-0,-1]) (.nm 0) (.seq (-1)) .yes ["rows","box"] [none,some 2]]))]
def nu:Sxs:=#[.ret (.boo true (.isi (-2) "tuple") #[.cmp .Eq (.bcl .len #[-2]) (.bin .Add true (-1) (¬1)),.cmp .Eq (.idx (-2) (¬0)) (-0)])]
def jf:Sxs:=#[.ite (.not (.val ("is_named"<|#[![115,112,108,105,116],¬3,-1]))) #[.ret (.lst true #[.tup #[-0,-1]])] #[],.asg (.nm 2) (.idx (-1) (¬1)),.ite (.boo false (.not (.val ("is_place"<|#[.bcl .len #[-0],-2]))) #[.val (.cmp .NotEq (.idx (-0) (-2)) (![42]))]) #[.ret (.cst .non)] #[],.asg (.nm 3) ("leaves"<|#["with_sign"<|#[-0,-2,![48]],.idx (-1) (¬2)]),.asg (.nm 4) ("leaves"<|#["with_sign"<|#[-0,-2,![49]],.idx (-1) (¬3)]),.ite (.boo false (.val (.cmp .Is (-3) (.cst .non))) #[.val (.cmp .Is (-4) (.cst .non))]) #[.ret (.cst .non)] #[],.ret (.bin .Add true (-3) (-4))]
def nA:Sxs:=#[.exp ("need_book"<|#[-0]),.exp ("need_book"<|#[-1]),.ite (.val (.cmp .NotEq (.idx (-0) (¬0)) (.idx (-1) (¬0)))) #[.nev] #[]]
def j9:Sxs:=#[.ite (.val (.cmp .Is (-1) (.cst .non))) #[.ret (.cst .non)] #[],.ret (.idx (.idx (.idx (-0) (¬1)) (-1)) (¬1))]
def nF:Sxs:=#[.ret (.cmp .Eq ("deed_of"<|#[-0,.idx (-2) (¬1)]) ("deed_of"<|#[-1,.idx (-2) (¬2)]))]
def nG:Sxs:=#[.ret (.bin .Mult true (![42]) (-0))]
def nH:Sxs:=#[.exp ("need_two_books"<|#[-0,-1]),.asg (.nm 2) ("stars"<|#[.idx (-0) (¬0)]),.asg (.nm 3) ("grown"<|#[![115,97,109,101],.lst true #[.idx (-0) (¬1),.idx (-1) (¬1)],-2]),.asg (.nm 4) (.comp true ("least"<|#[-0]) (.tp #[.nm 0,.nm 1]) (.seq ("leaves"<|#[-2,-3])) (.not (.val ("same_deeds"<|#[-2,-3,-1]))) ["part","leaf","one","other"] [none,none,some 0,some 1]),.ite (.val (-4)) #[.ret (.tup #[![112,97,114,116,101,100],.bcl .min #[-4]])] #[],.ret (.tup #[![97,108,105,107,101],-3])]
def nJ:Sxs:=#[.asg (.tp #[.nm 2,.nm 3]) ("alike"<|#[-0,-1]),.ret (.ife (.val (.cmp .Eq (-2) (![112,97,114,116,101,100]))) (-3) (.cst .non))]
def nM:Sxs:=#[.ret (.cmp .Is ("parting_word"<|#[-0,"by_order"<|#[-0,-1]]) (.cst .non))]
def nO:Sxs:=#[.exp ("need_book"<|#[-0]),.asg (.tp #[.nm 1,.nm 2]) (-0),.ite (.boo false (.val (.cmp .Gt (.bcl .len #[-2]) (.glb "MOST_ROWS_MOVED" (.int 5)))) #[.val (.cmp .Gt (-1) (.glb "WIDEST_MOVED" (.int 4)))]) #[.nev] #[]]
def nP:Sxs:=#[.ret (.bin .Add true (.bin .Add true (.slc true (-0) .no (.ob (-1))) (.tup #[.idx (-0) (.bin .Add true (-1) (¬1)),.idx (-0) (-1)])) (.slc true (-0) (.ob (.bin .Add true (-1) (¬2))) .no))]
def nQ:Sxs:=#[.ret (.comp true (.tup #[-0,"exchanged"<|#[-1,-0]]) (.nm 0) (.rng (.bin .Sub true (.bcl .len #[-0]) (¬1))) .yes ["place","order"] [none,some 0])]
def nR:Sxs:=#[.exp ("need_movable"<|#[-0]),.exp ("need_order"<|#[-0,-1]),.ite (.not (.val (.bcl .all #[.comp true ("is_order"<|#[-1,-0]) (.nm 0) (.seq (-2)) .yes ["given","book"] [none,some 0]]))) #[.ret (.cst (.bl false))] #[],.asg (.nm 3) (.dcT (-2)),.ite (.boo false (.val (.cmp .NotEq (.bcl .len #[-3]) (.bcl .len #[-2]))) #[.val (.cmp .NotIn ("first_order"<|#[-0]) (-3)),.val (.cmp .In (-1) (-3))]) #[.ret (.cst (.bl false))] #[],.asg (.nm 4) (.cm2 (-2) (.nm 0) (.seq (-2)) (.tp #[.nm 1,.nm 2]) (.seq ("steps_from"<|#[-0])) (.val (.cmp .NotIn (-2) (-3))) ["given","place","there","standing"] [none,none,none,some 3]),.ret (.not (.bcl .any #[.comp true ("is_good"<|#[-1,-0]) (.nm 0) (.seq (-4)) .yes ["there","book"] [none,some 0]]))]
def zE:Sxs:=#[.asg (.nm 1) ("_law_open"<|#[-0]),.for_ (.nm 2) (.rng (¬2)) #[.asg (.nm 3) ("_law_book"<|#["_law_anew"<|#[-1],.idx (.lst true #[¬4,¬3]) (-2),.idx (.lst true #[¬4,¬5]) (-2)]),.asg (.nm 4) (.bcl .len #[.idx (-3) (¬1)]),.asg (.nm 5) (.lcl true .list #["_law_good_orders"<|#[-3]]),.asg (.nm 6) (.lst false #[-5,.lst true #[],.slc true (-5) .no (.ob (¬1))]),.for_ (.nm 7) (.rng (¬3)) #[.exp (.mth .append (-6) #["_law_bent"<|#[-1,-5,-4]])],.for_ (.nm 8) (.seq (-6)) #[.for_ (.nm 9) (.seq (.lst true #["_law_order"<|#[-1,-4],.idx (-5) ("_law_take"<|#[-1,.bcl .len #[-5]])])) #[.asg (.nm 10) (.lcl true .list #[-8]),.asg (.nm 11) ("is_apart"<|#[-3,-9,-10]),.ite (.boo false (.not (.val (.isi (-11) "bool"))) #[.val (.cmp .NotEq (-11) ("_law_due"<|#[-3,-9,-8])),.val (.cmp .NotEq (-10) (-8))]) #[.ret (.cst (.bl false))] #[]]]],.ret (.cst (.bl true))]
end
end RF
local macro_rules | `(tactic| simp_arith! [$l,*] $[$c:location]?) => `(tactic| simp only [↓RF.xF, ↓RF.iJ, ↓RF.xG, ↓RF.xH, ↓RF.xJ, ↓RF.xK, ↓RF.xM, ↓RF.xN, ↓RF.xO, ↓RF.xP, ↓RF.xQ, ↓RF.wH, ↓RF.xg, ↓RF.xj, ↓RF.FW, ↓RF.Gd, ↓RF.Yk, ↓RF.Yl, ↓RF.aem, ↓RF.aer, ↓RF.wk, ↓RF.wu, ↓RF.ww, ↓RF.lM, ↓RF.jN, ↓RF.iH, ↓RF.Yj, ↓RF.wy, ↓RF.rR, ↓RF.wz, ↓RF.rT, ↓RF.wA, ↓RF.wB, ↓RF.wC, ↓RF.wD, ↓RF.wF, ↓RF.wG, ↓RF.acF, ↓RF.acH, ↓RF.x_at, ↓RF.acL, ↓RF.acJ, ↓RF.acI, ↓RF.acK, ↓RF.jO, ↓RF.wI, ↓RF.wJ, ↓RF.wK, ↓RF.rW, ↓RF.rY, ↓RF.wL, ↓RF.wM, ↓RF.wN, ↓RF.wO, ↓RF.wQ, ↓RF.wR, ↓RF.wV, ↓RF.wU, ↓RF.wW, ↓RF.wX, ↓RF.wY, ↓RF.wZ, ↓RF.iI, ↓RF.xm, ↓RF.aeq, ↓RF.abu, ↓RF.abv, ↓RF.abw, ↓RF.abx, ↓RF.aby, ↓RF.abz, ↓RF.abC, ↓RF.abB, ↓RF.abA, ↓RF.abD, ↓RF.abE, ↓RF.abF, ↓RF.abG, ↓RF.abH, ↓RF.abI, ↓RF.abJ, ↓RF.abK, ↓RF.abL, ↓RF.abM, ↓RF.abN, ↓RF.abO, ↓RF.abP, ↓RF.abQ, ↓RF.abR, ↓RF.abS, ↓RF.abT, ↓RF.abU, ↓RF.abV, ↓RF.abW, ↓RF.abX, ↓RF.abY, ↓RF.abZ, ↓RF.ab0, ↓RF.ab1, ↓RF.ab2, ↓RF.ab3, ↓RF.ab4, ↓RF.ab5, ↓RF.ab6, ↓RF.ab7, ↓RF.ab8, ↓RF.aca, ↓RF.ab9, ↓RF.acb, ↓RF.acd, ↓RF.ace, ↓RF.acf, ↓RF.acg, ↓RF.ack, ↓RF.ach, ↓RF.aci, ↓RF.acw, ↓RF.acj, ↓RF.acl, ↓RF.acn, ↓RF.aco, ↓RF.acp, ↓RF.acx, ↓RF.acy, ↓RF.acv, ↓RF.acz, ↓RF.acu, ↓RF.acr, ↓RF.acs, ↓RF.acq, ↓RF.acA, ↓RF.acB, ↓RF.acC, ↓RF.acD, ↓RF.acE, ↓RF.ac5, ↓RF.ac4, ↓RF.acG, ↓RF.acM, ↓RF.acN, ↓RF.acO, ↓RF.acP, ↓RF.JT, ↓RF.ug, ↓RF.JQ, ↓RF.JR, ↓RF.JS, ↓RF.acQ, ↓RF.acR, ↓RF.xq, ↓RF.xr, ↓RF.rZ, ↓RF.xf, ↓RF.xu, ↓RF.acT, ↓RF.acU, ↓RF.acV, ↓RF.acW, ↓RF.acX, ↓RF.acY, ↓RF.acZ, ↓RF.ac0, ↓RF.ac1, ↓RF.ac2, ↓RF.ac3, ↓RF.ac6, ↓RF.ac7, ↓RF.ac8, ↓RF.ac9, ↓RF.ada, ↓RF.adb, ↓RF.adc, ↓RF.ade, ↓RF.adf, ↓RF.adg, ↓RF.adh, ↓RF.adi, ↓RF.adk, ↓RF.adl, ↓RF.is_tup, ↓RF.adm, ↓RF.adn, ↓RF.adp, ↓RF.ado, ↓RF.adq, ↓RF.adt, ↓RF.jb, RF.aen, RF.aeo, RF.aep, Option.join_some, List.map_cons, List.map_nil, List.cons_append, List.nil_append, List.replicate_succ, List.replicate_zero, List.getElem?_cons_zero, List.getElem?_cons_succ, List.set_cons_zero, List.set_cons_succ, List.length_cons, List.length_nil, RF.abj, RF.abk, RF.abl, RF.abm, RF.abo, RF.abp, RF.abq, true_and, and_true, Nat.min_self, Nat.zero_min, Nat.min_zero, Nat.zero_le, Bool.or_false, Bool.or_true, Bool.false_or, Bool.true_or, Bool.not_true, Bool.not_false, RF.adu, RF.adv, RF.adw, RF.adx, RF.ady, RF.adz, RF.adA, RF.adB, RF.adC, RF.adD, RF.adE, RF.adF, RF.adG, RF.adH, RF.adI, RF.adJ, RF.adK, RF.adL, RF.adM, RF.adN, RF.adO, RF.adP, RF.adQ, RF.adR, RF.adS, RF.adT, RF.adU, RF.adV, RF.adW, RF.adX, RF.adY, RF.adZ, RF.ad0, RF.ad1, RF.ad2, RF.ad3, RF.ad4, RF.ad5, RF.ad6, RF.ad7, RF.ad8, RF.ad9, RF.aea, RF.aeb, RF.aec, RF.aed, RF.aee, RF.aef, RF.aeg, RF.aeh, RF.aei, RF.aej, RF.aek, RF.ael, RF.env0, RF.ends, String.reduceBEq, $l,*] $[$c:location]?)
local macro_rules | `(tactic| simp_arith [$l,*] $[$c:location]?) => `(tactic| simp_arith! [↓RF.lN, ↓RF.lO, $l,*] $[$c:location]?)
local macro_rules | `(tactic| simp_all_arith [$l,*]) => `(tactic| simp only [RF.env0, RF.ends, List.map_cons, List.map_nil, List.cons_append, List.nil_append, List.replicate_succ, List.replicate_zero, $l,*])
local macro_rules|`(tactic|bv_omega)=>`(tactic|(have hsz:RF.sz=1000000:=rfl;lia))
local macro_rules|`(tactic|symm)=>do let M:=Lean.mkIdent `M;let h:=Lean.mkIdent `hM;`(tactic|refine $h _ _ (RF.seq fun $M $h=>?_))
local macro_rules|`(tactic|nofun)=>do let M:=Lean.mkIdent `M;let h:=Lean.mkIdent `hM;`(tactic|refine RF.seq fun $M $h=>?_)
local macro_rules|`(tactic|ac_nf0)=>do let h:=Lean.mkIdent `hM;`(tactic|refine $h _ _ (RF.last ?_))
local macro_rules|`(tactic|erw[$[$x:term],*]$[$c:location]?)=>`(tactic|simp_arith[$[$x:term],*]$[$c:location]?)
namespace RF
open PySem L2
def jg{i j:Int}(h:Neg.neg (2 ^ 64)<j/\j<2 ^ 64):CMul i j:=.inr h
def zF{i j:Int}(h:Neg.neg (2 ^ 64)<i/\i<2 ^ 64):CMul i j:=.inl h
def zG{j:Int}(h:0<=j/\j<=1000):qQ 10 j:=⟨h.1,!0,!1⟩
def uh:RF.Spec:=bR (λds z=>∃c k:Int,ds=[.int c,.int k]/\0<=k) (λz G d g=>g=G/\∃r:Int,d=.int r/\0<=r)
def aex(Z:aj)(ds:AS)(G:DH)(h:∃c k:Int,ds=[.int c,.int k]/\0<=k):az Z yS noE (env0 ds 3) G (ends λd J=>J=G/\∃r:Int,d=.int r/\0<=r):=by
 let(c,k,rfl,L):=h;erw[yS];show⟨zG (!1),?_⟩;cases hc:decide (10 ^ Int.toNat 18<=c) with
 |true=>
  show⟨c,rfl,?_⟩;have:=dS hc;have h2:(0:Int)<=(10:Int) ^ (18:Int).toNat:=by decide
  exact Int.le_trans h2 this
 |false=>
  generalize q:(c%1000000007*69069+k*40503+977)%2147483629=one;have M:0<=one:=by rw[<-q];exact fF _ (!1)
  have N:one<2147483629:=by rw[<-q];exact fy _ (!1)
  generalize z:(one*one+k*7919+c%65537)%2147483587=two;have O:0<=two:=by rw[<-z];exact fF _ (!1)
  have U:two<2147483587:=by rw[<-z];exact fy _ (!1)
  generalize g:(two*two+one*31+5)%2147483563=three;have h1:0<=three:=by rw[<-g];exact fF _ (!1)
  clear q z g;show⟨!1,jg (!1),jg (!1),!1,zF (!0),jg (!1),!1,!1,zF (!0),jg (!1),!1,jg (!1),jg (!1),_,rfl,?_⟩;lia
def Pen(G:DH)(p:AQ):Prop:=∃(ns:List Int)(k st:Int),G p=-(.lst [.lst (ns.map D.int),.int k,.int st])/\0<=k/\0<=st
def Pen.sa{G g:DH}{p:AQ}(h:Pen G p)(s:Sa G g):Pen g p:=by let(ns,k,st,e,h1):=h;exact⟨ns,k,st,s _ _ e,h1⟩
def Pen.ne{G:DH}{p q:AQ}(h:Pen G p)(e:G q=none):p≠q:=by let(ns,k,st,g,h1):=h;exact rF g e
def Pen.sb{G g:DH}{p q:AQ}(h:Pen G p)(s:Sb q G g)(n:p≠q):Pen g p:=by let(ns,k,st,e,h1):=h;exact⟨ns,k,st,s _ _ e n,h1⟩
def ul:RF.Spec:=bR (λds G=>∃p,ds=[.ref p]/\Pen G p) (λds G d g=>∃p,ds=[.ref p]/\d=.ref p/\Pen g p/\Sb p G g)
def aey(Z:aj)(ds:AS)(G:DH)(h:∃p,ds=[.ref p]/\Pen G p):az Z yR noE (env0 ds 0) G (ends λd g=>∃p,ds=[.ref p]/\d=.ref p/\Pen g p/\Sb p G g):=by let(p,rfl,ns,k,st,e,h1,h2):=h;erw[yR,cL e];exact⟨p,rfl,rfl,⟨ns,k,0,bG,h1,!1⟩,Sb.upd⟩
def dY:RF.Spec:=bR (λds G=>∃p,∃m:Int,ds=[.ref p,.int m]/\Pen G p/\0<m/\m<1152921504606846976) (λds G d g=>∃p,∃m r:Int,ds=[.ref p,.int m]/\d=.int r/\0<=r/\r<m/\Pen g p/\Sb p G g)
def aez (Z:aj) (hΦ:Z "_law_spread"=uh) (ds:AS) (G:DH) (h:∃p,∃m:Int,ds=[.ref p,.int m]/\Pen G p/\0<m/\m<1152921504606846976):
  az Z yU noE (env0 ds 3) G (ends λd Y=>∃p,∃m r:Int,ds=[.ref p,.int m]/\d=.int r/\0<=r/\r<m/\Pen Y p/\Sb p G Y):=by
 let(p,m,rfl,(ns,k,st,e,h1,h2),h3,h4):=h;simp_all_arith[yU];nofun;have fin:∀(q z J:Option D)(G1:DH)(U s1:Int),0<=U->0<=s1->G1 p=-(.lst [.lst (ns.map D.int),.int U,.int s1])->Sb p G G1->M [-(.ref p),-(.int m),q,z,J] G1:=by intro q z J G1 U s1 q1 q2 L sb;show hM _ _ ?_;erw[dM L,cL L];show⟨h3,⟨h3,h4⟩,p,m,_,rfl,rfl,fF _ (!0),fy _ h3,⟨ns,U,_,bG,q1,?_⟩,sb.trans Sb.upd⟩;exact Int.ediv_nonneg q2 (!0)
 erw[dM e,cL e,hΦ];have g:∀c:Int,uh.t [.int c,.int k] (aP G p (.lst [.lst (ns.map D.int),.int (k+1),.int st])) (λx G1=>trk G1 p λds=>aR (ixN ds⁻¹ 2) λj=>M [-(.ref p),-(.int m),-(.int k),-(.int c),none] (aP G1 p (.lst (ds.set j x)))) noE:=by intro c;show cF ⟨c,k,rfl,h1⟩ λd Y hx=>?_;let(L,r,e2,hr):=hx;subst L e2;erw[cL bG];show fin _ _ _ _ (k+1) r (!0) hr bG (Sb.trans Sb.upd Sb.upd)
 cases hc:decide (st<m) with
 |false=>exact fin _ _ _ _ k st h1 h2 e (Sb.refl _ _)
 |true=>
  cases N:decide (k<((ns.map D.int)⁻¹:Int)) with
  |true=>
   have N:=dS N;rw[ae]at N;show bW (a:=.int ns[k.toNat]) ?_ ?_
   .let(n,rfl):=ci h1;exact bL (by simp at N ⊢)
   .exact g _
  |false=>
   cases O:decide (0<((ns.map D.int)⁻¹:Int)) with
   |false=>exact g 0
   |true=>
    have O:=dS O;have j1:0<=(k*5+3)%((ns.map D.int)⁻¹:Int):=fF _ (!0);have j2:(k*5+3)%((ns.map D.int)⁻¹:Int)<((ns.map D.int)⁻¹:Int):=fy _ O;let(j,hj):=ci j1;rw[hj]at j2;have j3:j<ns⁻¹:=by rw[ae]at j2;lia
    show⟨jg (!1),O,bW (a:=.int ns[j]) ?_ ⟨zG (!1),?_⟩⟩
    .rw[hj];exact bL (by simp[j3])
    .erw[cL e];show⟨?_,g _⟩;have:(0:Int)<10 ^ Int.toNat 17:=by decide
     lia
def nT:RF.Spec:=bR (λds G=>∃p,∃n:Nat,∃cs:AA,ds=[.ref p,.int n,.str cs]/\Pen G p/\n<=1000/\cs≠[]/\cs⁻¹<=1000)
 (λds G d g=>∃p,∃n:Nat,∃cs l:AA,ds=[.ref p,.int n,.str cs]/\d=.str l/\l⁻¹=n/\(∀c∈l,c∈cs)/\Pen g p/\Sb p G g)
def aeA(l:AA):((l.map λc=>[c]).map (·.length)).sum=l⁻¹:=by
 induction l with
 |nil=>rfl
 |cons a l g=>simp at g ⊢;lia
def aeB(l:AA):(l.map λc=>[c]).flatten=l:=by
 induction l with
 |nil=>rfl
 |cons a l g=>simp at g ⊢;exact g
def aeC (Z:aj) (L:Z "_law_take"=dY) (ds:AS) (G:DH) (h:∃p,∃n:Nat,∃cs:AA,ds=[.ref p,.int n,.str cs]/\Pen G p/\n<=1000/\cs≠[]/\cs⁻¹<=1000):
  az Z yX noE (env0 ds 0) G (ends λd g=>∃p,∃n:Nat,∃cs l:AA,ds=[.ref p,.int n,.str cs]/\d=.str l/\l⁻¹=n/\(∀c∈l,c∈cs)/\Pen g p/\Sb p G g):=by
 let(p,n,cs,rfl,hp,hn,hc,hl):=h;have hc1:0<cs⁻¹:=List.length_pos_iff.mpr hc;erw[yX,L];show⟨!0,CompG.inv (P:=λi q Y g=>(∃o,Y=[o,-(.str cs),-(.ref p)])/\Pen g p/\Sb p G g/\∃l:AA,q=l.map (λc=>D.str [c])/\l⁻¹=i/\∀c∈l,c∈cs) (h0:=⟨⟨_,rfl⟩,hp,Sb.refl _ _,[],rfl,rfl,!2⟩) (hh:=λy y y y y=>trivial) (hl:=by simp[aQ];bv_omega) (hs:=?_) (he:=?_)⟩
 .rintro i d q Y g hd ⟨⟨o,rfl⟩,J,sb,l,rfl,z,N⟩ kk hk;erw[L];show cF ⟨p,_,rfl,J,!0,!0⟩ λd' G2 hx=>?_;let(p2,m2,r,e1,e2,r0,r1,O,U):=hx;cases e1;subst e2;let(j,rfl):=ci r0;have hj:j<cs⁻¹:=by lia
  erw[ends];show bW (a:=cs[j]) (bL (by simp[hj])) (hk _ _ _ ⟨⟨_,rfl⟩,O,sb.trans U,l++[cs[j]],!2,by simp[z],?_⟩);intro c hc;rcases ba.mp hc with h|h
  .exact N c h
  .rw[al.mp h];exact cq _
 .rintro q Y g ⟨_,J,sb,l,rfl,z,N⟩;erw[strs_map];have M:l⁻¹=n:=by rw[z];simp[aQ]
  show⟨?_,p,n,cs,l,rfl,?_,M,N,J,sb⟩
  .rw[aeA];simp;bv_omega
  .rw[JK,aeB]
def isF(c:Nat):Prop:=c=48\/c=49\/c=42
def zH:RF.Spec:=bR (λds G=>∃p,∃n:Nat,ds=[.ref p,.int n]/\Pen G p/\n<=1000) (λds G d g=>∃p,∃n:Nat,∃l:AA,ds=[.ref p,.int n]/\d=.str l/\l⁻¹=n/\(∀c∈l,isF c)/\Pen g p/\Sb p G g)
def aeD (Z:aj) (h1:Z "_law_take"=dY) (h2:Z "_law_signs"=nT) (ds:AS) (G:DH) (h:∃p,∃n:Nat,ds=[.ref p,.int n]/\Pen G p/\n<=1000):
  az Z za noE (env0 ds 0) G (ends λd L=>∃p,∃n:Nat,∃l:AA,ds=[.ref p,.int n]/\d=.str l/\l⁻¹=n/\(∀c∈l,isF c)/\Pen L p/\Sb p G L):=by
 let(p,n,rfl,hp,hn):=h;erw[za,h1,h2];show⟨!1,cF ⟨p,_,rfl,hp,!1,!1⟩ λd' G2 zZ=>?_⟩;let(p2,m2,r,g,q,r0,r1,z,J):=zZ;cases g;subst q;let(j,rfl):=ci r0;erw[ends];have:∃cs:AA,atI [D.str [48,49,42],D.str [48,49,42,42],D.str [48,49,42,42,42,42],D.str [48,42],D.str [48,49]] ((j:Nat):Int)=-(.str cs)/\cs≠[]/\cs⁻¹<=1000/\∀c∈cs,isF c:=by
  have Y:j=0\/j=1\/j=2\/j=3\/j=4:=by lia
  rcases Y with rfl|rfl|rfl|rfl|rfl<;>exact⟨_,rfl,!1,!1,by simp[isF]⟩
 let(cs,e,M,N,O):=this;show bW e (cF ⟨p,n,cs,rfl,z,hn,M,N⟩ λd G3 zZ=>?_);let(p3,n3,U,l,g,q,q1,q2,q3,q4):=zZ;cases g;exact⟨p,n,l,rfl,q,q1,λc hc=>O c (q2 c hc),q3,J.trans q4⟩
def zJ:RF.Spec:=bR (λds z=>∃ns:List Int,ds=[.scr ns]/\ns⁻¹<=63) (λz G d g=>∃p,d=.ref p/\G p=none/\Pen g p/\Sa G g)
def aeE(Z:aj)(ds:AS)(G:DH)(h:∃ns:List Int,ds=[.scr ns]/\ns⁻¹<=63):az Z zB noE (env0 ds 3) G (ends λd g=>∃p,d=.ref p/\G p=none/\Pen g p/\Sa G g):=by
 let(ns,rfl,hl):=h;simp_all_arith[zB];nofun;erw[ends];intro c hc;show hM _ _ ?_;nofun;erw[ends];show ForG.inv (λi Y g=>∃(N O:Option D)(xs:List Int),Y=[-(.scr ns),-(.ref c),N,O]/\g=aP G c (.lst (xs.map D.int))/\(12<=xs⁻¹\/cut ns (-12) (-63)=[])) ⟨_,_,cut ns none (-12),rfl,rfl,?_⟩ (λy y y y=>trivial) ?_ ?_
 .by_cases q:12<=ns⁻¹
  .left;simp[cut,HT.sIx];lia
  .right;simp[cut,HT.sIx];lia
 .rintro i d Y g U ⟨N,O,xs,rfl,rfl,hx⟩ kk hk;rw[jW]at U;let(d',z,e3):=aE.mp U;subst e3;rw[aS]at z;let(x,L,e4):=aE.mp z;subst e4;have q:12<=xs⁻¹:=by
   rcases hx with h|h
   .exact h
   .rw[h]at L;simp at L
  let(j,hj):=ci (fF ((0+i:Nat):Int) (by decide:(12:Int)≠0));have hj12:j<12:=by have:=fy ((0+i:Nat):Int) (by decide:(0:Int)<12);lia
  have J:j<xs⁻¹:=by lia
  erw[hj,dM bG,cL bG];show⟨!1,bW (a:=.int xs[j]) (bL (by simp[J])) ?_⟩;erw[hj,dM bG,cL bG,ae,abn J];show⟨!1,hk _ _ ⟨_,_,xs.set j (xs[j]+x),rfl,?_,by simp[q]⟩⟩;rw[X8,List.map_set]
 .rintro Y g ⟨N,O,xs,rfl,rfl,hx⟩;show hM _ _ ?_;erw[bG];show⟨by bv_omega,λp M=>⟨p,rfl,?_,⟨xs,0,0,bG,!1,!1⟩,?_⟩⟩
  .rw[Fx hc]at M;exact M
  .rw[Fx hc]at M ⊢;exact Sa.new M
def nU:RF.Spec:=bR (λds z=>∃ns:List Int,ds=[.scr ns]/\ns⁻¹<=63) (λz z d z=>d=.bl true)
def whole:D->Bool
 |.int _=>true
 |_=>false
def jh:AS->Option D
 |[x]=>if nr x then some (.bl (whole x)) else none
 |_=>none
def aeF(Z:aj)(ds:AS)(G:DH)(d:D)(h:jh ds=-d):az Z mU noE (env0 ds 0) G (ends λd' g=>g=G/\d'=d):=by
 unfold jh at h;split at h
 .rename_i x;split at h
  .rename_i q;cases h;cases x<;>first | (simp[nr]at q;done) | (erw[mU,whole];try simp)
  .cases h
 .cases h
def okF(w:Nat)(l:AA):Prop:=l⁻¹=w/\∀c∈l,isF c
def okF.app{w v:Nat}{l m:AA}(h:okF w l)(h':okF v m):okF (w+v) (l++m):=⟨by rw[ax,h.1,h'.1],λc hc=>(ba.mp hc).elim (h.2 c) (h'.2 c)⟩
def okF.one{c:Nat}(h:isF c):okF 1 [c]:=⟨rfl,λd g=>by rw[al.mp g];exact h⟩
def cA{p:AQ}{m:Int}{G:DH}{k:AT}{E:EK}(M:Pen G p)(h1:0<m)(h2:m<1152921504606846976)(L:∀(r:Nat)(g:DH),(r:Int)<m->Pen g p->Sb p G g->k (.int r) g):dY.t [.ref p,.int m] G k E:=by show cF ⟨p,m,rfl,M,h1,h2⟩ λd g N=>?_;let(p2,Y,r,z,J,O,U,q,sb):=N;cases z;subst J;let(n,rfl):=ci O;exact L n g U q sb
def aeG{n:Nat}(h:(n:Int)<2):∃c,atI [48,49] (n:Int)=-c/\isF c:=by
 have:n=0\/n=1:=by lia
 rcases this with rfl|rfl
 .exact ⟨48,rfl,.inl rfl⟩
 .exact ⟨49,rfl,.inr (.inl rfl)⟩
def aeH{n:Nat}(h:(n:Int)<3):∃c,atI [48,49,42] (n:Int)=-c/\isF c:=by
 have:n=0\/n=1\/n=2:=by lia
 rcases this with rfl|rfl|rfl
 .exact ⟨48,rfl,.inl rfl⟩
 .exact ⟨49,rfl,.inr (.inl rfl)⟩
 .exact ⟨42,rfl,.inr (.inr rfl)⟩
def zK(ds:AS)(G:DH):Prop:=∃p l,ds=[.ref p,.str l]/\Pen G p/\(∀c∈l,isF c)/\l⁻¹<=1000
def zL(ds:AS)(G:DH)(d:D)(g:DH):Prop:=∃p l m,ds=[.ref p,.str l]/\d=.str m/\okF l⁻¹ m/\Pen g p/\Sb p G g
def ji:RF.Spec:=bR zK zL
def JX{p:AQ}{l:AA}{G:DH}{k:AT}{E:EK}(M:Pen G p)(hl:∀c∈l,isF c)(h2:l⁻¹<=1000)(L:∀(m:AA)(g:DH),okF l⁻¹ m->Pen g p->Sb p G g->k (.str m) g):ji.t [.ref p,.str l] G k E:=by show cF ⟨p,l,rfl,M,hl,h2⟩ λd g N=>?_;let(p2,O,m,z,J,h,q,sb):=N;cases z;subst J;exact L m g h q sb
def aeI (Z:aj) (h1:Z "_law_take"=dY) (ds:AS) (G:DH) (h:zK ds G):az Z zc noE (env0 ds 2) G (ends (zL ds G)):=by
 let(p,l,rfl,hp,hl,hl2):=h;simp_all_arith[zc];nofun;erw[ends];symm;simp_arith![ends];show ForG.inv (P:=λi Y G'=>(∃o m,Y=[-(.ref p),-(.str l),-(.str m),o]/\okF i m)/\Pen G' p/\Sb p G G') ⟨⟨_,_,rfl,rfl,!2⟩,hp,Sb.refl _ _⟩ (λy y y y=>trivial) ?_ ?_
 .rintro i d Y U hd ⟨⟨o,m,rfl,O⟩,g,J⟩ kk hk;rw[aS]at hd;let(c,hc,rfl):=aE.mp hd;have hi:i<l⁻¹:=(ah.mp hc).1;have N:=hl c (bv hc);have l1:=O.1;simp_arith![ends];nofun;have fin:∀(c:Nat)(L:DH),isF c->Pen L p->Sb p U L->M [-(.ref p),-(.str l),-(.str m),-(.str [c])] L:=by
   intro c L N q z;ac_nf0;erw[ends];exact⟨by bv_omega,hk _ _ ⟨⟨_,_,rfl,O.app (okF.one N)⟩,q,J.trans z⟩⟩
  erw[h1];cases ht:([c]==[42]) with
  |false=>exact fin c U N g (Sb.refl _ _)
  |true=>
   show cA g (!1) (!1) λr L hr q z=>?_;erw[ends];cases hr0:((r:Int)==0) with
   |false=>exact fin c L N q z
   |true=>
    show cA q (!1) (!1) λr' G4 hr' hp4 sb4=>?_;let(c',e,fc'):=aeG hr';erw[e];exact fin c' G4 fc' hp4 (z.trans sb4)
 .rintro Y U ⟨⟨o,m,rfl,O⟩,g,J⟩;show hM _ _ ?_;erw[ends];exact⟨p,l,m,rfl,rfl,!!O,g,J⟩
def aeJ (Z:aj) (h1:Z "_law_take"=dY) (ds:AS) (G:DH) (h:zK ds G):az Z zb noE (env0 ds 2) G (ends (zL ds G)):=by
 let(p,l,rfl,hp,hl,hl2):=h;simp_all_arith[zb];nofun;erw[ends];symm;simp_arith![ends];show ForG.inv (P:=λi Y U=>(∃o m,Y=[-(.ref p),-(.str l),-(.str m),o]/\okF i m)/\Pen U p/\Sb p G U) ⟨⟨_,_,rfl,rfl,!2⟩,hp,Sb.refl _ _⟩ (λy y y y=>trivial) ?_ ?_
 .rintro i d Y G2 hd ⟨⟨o,m,rfl,N⟩,J,L⟩ kk hk;rw[aS]at hd;let(c,hc,rfl):=aE.mp hd;have hi:i<l⁻¹:=(ah.mp hc).1;have O:=hl c (bv hc);have l1:=N.1;simp_arith![ends];nofun;have fin:∀(c:Nat)(z:DH),isF c->Pen z p->Sb p G2 z->M [-(.ref p),-(.str l),-(.str m),-(.str [c])] z:=by
   intro c z O g q;ac_nf0;erw[ends];exact⟨by bv_omega,hk _ _ ⟨⟨_,_,rfl,N.app (okF.one O)⟩,g,L.trans q⟩⟩
  erw[h1];show cA J (!1) (!1) λr z hr g q=>?_;erw[ends];cases hr0:((r:Int)==0) with
  |false=>exact fin c z O g q
  |true=>exact fin 42 z (.inr (.inr rfl)) g q
 .rintro Y G2 ⟨⟨o,m,rfl,N⟩,J,L⟩;show hM _ _ ?_;erw[ends];exact⟨p,l,m,rfl,rfl,!!N,J,L⟩
def JZ{G L:DH}{p:AQ}{x:D}{fs:List (AA)}(z:view G x=.lst (fs.map D.str))(M:Pen G p)(sb:Sb p G L):view L x=.lst (fs.map D.str):=by
 cases x with
 |ref q=>
  unfold view at z;dsimp only at z;cases g:G q with
  |none=>rw[g]at z;cases z
  |some o=>
   cases o with
   |lst ds=>
    rw[g]at z;have e:ds=fs.map D.str:=by simpa using z
    have hn:q≠p:=by
     rintro rfl;let(ns,k,st,J,_):=M;rw[g,e]at J;cases fs with
     |nil=>simp at J
     |cons a r=>simp at J
    rw[dM (sb q _ g hn),e]
   |dct _ _=>rw[g]at z;cases z
 |lst l=>exact z
 |_=>cases z
def J0(ds:AS)(G:DH):Prop:=∃p,∃w:Nat,∃x,∃fs:List (AA),ds=[.ref p,.int w,x]/\Pen G p/\0<w/\w<=1000/\view G x=.lst (fs.map D.str)/\fs⁻¹<=1000/\∀f∈fs,okF w f
def zM(ds:AS)(G:DH)(d:D)(g:DH):Prop:=∃p,∃w:Nat,∃x m,ds=[.ref p,.int w,x]/\d=.str m/\okF w m/\Pen g p/\Sb p G g
def um:RF.Spec:=bR J0 zM
def aeK{p:AQ}{w:Nat}{x:D}{fs:List (AA)}{G:DH}{k:AT}{E:EK}(O:Pen G p)(h1:0<w)(h2:w<=1000)(U:view G x=.lst (fs.map D.str))(L:fs⁻¹<=1000)(M:∀f∈fs,okF w f)
  (N:∀(m:AA)(g:DH),okF w m->Pen g p->Sb p G g->k (.str m) g):um.t [.ref p,.int w,x] G k E:=by
 show cF ⟨p,w,x,fs,rfl,O,h1,h2,U,L,M⟩ λd g Y=>?_;let(p2,w2,x2,m,z,J,h,q,sb):=Y;simp only[dE,D.ref.injEq,D.int.injEq,Int.ofNat_inj,and_true]at z;let(rfl,rfl,rfl):=z;subst J;exact N m g h q sb
def aeL(fs:List (AA)):nrs (fs.map D.str)=true:=by
 induction fs with
 |nil=>rfl
 |cons a l g=>rw[a7,nrs,g];rfl
def aeM(fs:List (AA)):bf (fs.map D.str)=0:=by
 induction fs with
 |nil=>rfl
 |cons a l g=>rw[a7,bf,g];rfl
def aeN{w n:Nat}{l:AA}{c:Nat}(h:okF w l)(hn:n<w)(q:isF c):okF w (cut l none (-(n:Int))++[c]++cut l (-((n:Int)+1)) none):=by
 have h1:=h.1;rw[mG,yO];show⟨?_,λd g=>?_⟩
 .simp;lia
 .rcases ba.mp g with g|g
  .rcases ba.mp g with g|g
   .exact h.2 d (List.mem_of_mem_take g)
   .rw[al.mp g];exact q
  .exact h.2 d (List.mem_of_mem_drop g)
def aeO (Z:aj) (h1:Z "_law_take"=dY) (h2:Z "_law_form"=zH) (h3:Z "_law_within"=ji) (h4:Z "_law_wider"=ji) (ds:AS) (G:DH) (h:J0 ds G):az Z zf noE (env0 ds 3) G (ends (zM ds G)):=by
 let(p,w,x,fs,rfl,hp,w1,w2,hv,hf,hfs):=h;simp_all_arith[zf];nofun;erw[h1];show cA hp (!1) (!1) λkd G2 hkd L O=>?_;have hv2:=JZ hv hp O;symm;have drawn:∀(Y:ak) (G3:DH),Pen G3 p->Sb p G G3->az Z (.cons (.ret (.call "_law_form" (.cons (.var 0) (.cons (.var 1) .nil)))) .nil) noE (-(.ref p)::-(.int w)::Y) G3 {nx:=M,rt:=zM [.ref p,.int w,x] G,bk:=λy y=>False,ct:=λy y=>False}:=by intro Y G3 J U;erw[h2];show cF ⟨p,w,rfl,J,w2⟩ λd G4 hx=>?_;let(p4,n4,l,e1,e2,l1,l2,q,z):=hx;simp only[dE,D.ref.injEq,D.int.injEq,Int.ofNat_inj,and_true]at e1;let(rfl,rfl):=e1;exact⟨p,w,x,l,rfl,e2,⟨l1,l2⟩,q,U.trans z⟩
 simp_arith![hv2,abt,aeM,aeL];show⟨!1,?_⟩;cases he:(fs.map D.str).isEmpty with
 |true=>exact drawn _ _ L O
 |false=>
  have hlen:0<fs⁻¹:=by
   cases fs with
   |nil=>simp at he
   |cons a r=>simp
  simp_arith![ends];cases hk2:decide ((kd:Int)<2) with
  |true=>exact drawn _ _ L O
  |false=>
   erw[ends];symm;erw[h1,hv2,ae];show cA L (!0) (!0) λr G3 hr J U=>?_;have hv3:=JZ hv2 L U;erw[hv3];have hr':r<fs⁻¹:=by lia
   show bW (a:=.str fs[r]) (bL (by simp[hr'])) ?_;have g:=hfs fs[r] (cq _);generalize fs[r]=f at g;symm;have N:=O.trans U;erw[ends];cases hk3:((kd:Int)==2) with
   |true=>exact⟨p,w,x,f,rfl,rfl,g,J,N⟩
   |false=>
    symm;simp_arith![ends];cases hk5:decide ((kd:Int)<5) with
    |true=>
     erw[h1];show cA J (!0) (!0) λat' G4 hat q z=>?_;show cA q (!1) (!1) λs G5 hs hp5 sb5=>?_;let(c,e,fc):=aeH hs;have c1:=iZ f none (-(at':Int));have c2:=iZ f (-((at':Int)+1)) none;have f1:=g.1;erw[e,ax];exact⟨by bv_omega,by bv_omega,p,w,x,_,rfl,rfl,aeN g (!0) fc,hp5,N.trans (z.trans sb5)⟩
    |false=>
     erw[ends];symm;have f1:=g.1;erw[h3];cases hk6:((kd:Int)==5) with
     |true=>
      show JX J g.2 (!0) λm G4 hm q z=>?_;rw[f1]at hm;exact⟨p,w,x,m,rfl,rfl,hm,q,N.trans z⟩
     |false=>
      show hM _ _ ?_;erw[h4];show JX J g.2 (!0) λm G4 hm q z=>?_;rw[f1]at hm;exact⟨p,w,x,m,rfl,rfl,hm,q,N.trans z⟩
def okD(l:AA):Prop:=1<=l⁻¹/\l⁻¹<=8/\∀c∈l,97<=c/\c<=122
def aeP{p:AQ}{n:Nat}{cs:AA}{G:DH}{k:AT}{E:EK}(N:Pen G p)(hn:n<=1000)(h1:cs≠[])(h2:cs⁻¹<=1000)(M:∀(l:AA)(g:DH),l⁻¹=n->(∀c∈l,c∈cs)->Pen g p->Sb p G g->k (.str l) g):nT.t [.ref p,.int n,.str cs] G k E:=by show cF ⟨p,n,cs,rfl,N,hn,h1,h2⟩ λd g O=>?_;let(p2,n2,J,l,z,L,U,Y,q,sb):=O;simp only[dE,D.ref.injEq,D.int.injEq,D.str.injEq,Int.ofNat_inj,and_true]at z;let(rfl,rfl,rfl):=z;subst L;exact M l g U Y q sb
def J1(ds:AS)(G:DH):Prop:=∃p,∃m:Int,ds=[.ref p,.int m]/\Pen G p/\0<m/\m<=100
def J2(ds:AS)(G:DH)(d:D)(g:DH):Prop:=∃p,∃m:Int,∃xs:List (AA),ds=[.ref p,.int m]/\d=.lst (xs.map D.str)/\0<xs⁻¹/\xs⁻¹<=100/\(∀x∈xs,okD x)/\Pen g p/\Sb p G g
def uo:RF.Spec:=bR J1 J2
def zN:List (AA):=[[97],[103,111],[115,116,97,121],[97,98,99,100,101,102,103,104],[110,111,110,101],[121,101,115],[105,110],[111,117,116],[107,101,101,112],[119,111,114,100],[122,122]]
def aeQ:∀x∈zN,okD x:=by
 have h:∀x∈zN,1<=x⁻¹/\x⁻¹<=8/\∀c∈x,97<=c/\c<=122:=by decide
 exact h
def J3{c:Nat}(h:c∈[97,98,99,100,101,102,103,104,105,106,107,108,109,110,111,112,113,114,115,116,117,118,119,120,121,122]):97<=c/\c<=122:=by
 have:∀c∈[97,98,99,100,101,102,103,104,105,106,107,108,109,110,111,112,113,114,115,116,117,118,119,120,121,122],97<=c/\c<=122:=by decide
 exact this c h
def aeR (Z:aj) (h1:Z "_law_take"=dY) (h2:Z "_law_signs"=nT) (ds:AS) (G:DH) (h:J1 ds G):az Z yZ noE (env0 ds 4) G (ends (J2 ds G)):=by
 let(p,m,rfl,hp,m1,m2):=h;simp_all_arith[yZ];nofun;erw[ends];show⟨!1,hM _ _ ?_⟩;show(λU=>U zN rfl aeQ) (?_:∀xs:List (AA),xs⁻¹=11->(∀x∈xs,okD x)->az Z _ noE [-(.ref p),-(.int m),-(.lst (xs.map D.str)),none,none,none] G _);intro xs x1 x2;nofun;erw[h1];show cA hp (!1) (!1) λt G2 ht hp2 sb2=>?_;symm;erw[h1];show cA hp2 (!0) (!0) λr G3 hr hp3 sb3=>?_;erw[ends];show⟨!0,?_⟩;show CompG.inv (P:=λi g Y J=>(∃o,Y=[o,-(.lst (xs.map D.str)),-(.int t)])/\J=G3/\∃ys:List (AA),g=ys.map D.str/\ys⁻¹=i/\∀y∈ys,okD y) ⟨⟨_,rfl⟩,rfl,[],rfl,rfl,!2⟩ (λv v v v v=>trivial) (by simp[aQ];bv_omega) ?_ ?_
 .rintro i d g Y J hd ⟨⟨o,rfl⟩,rfl,ys,rfl,y1,y2⟩ kk hk;unfold aQ at hd;rw[aS]at hd;let(j,hj,rfl):=aE.mp hd;erw[ends];have q0:0<=((t:Int)+3*(0+(j:Int)))%11:=fF _ (!1);have q1:((t:Int)+3*(0+(j:Int)))%11<11:=fy _ (!1);show⟨zF (!1),!1,JM q0 (by rw[ae,x1];exact q1) λa ha=>?_⟩;let(x,hx,rfl):=aT.mp ha;show hk _ _ _ ⟨⟨_,rfl⟩,rfl,ys++[x],!2,by simp[y1],λy hy=>?_⟩;rcases ba.mp hy with h|h
  .exact y2 y h
  .rw[al.mp h];exact x2 x hx
 .rintro g Y J ⟨_,rfl,ys,rfl,y1,y2⟩;have hy:ys⁻¹=r+1:=by rw[y1];simp[aQ];lia
  symm;erw[h1];show cA hp3 (!1) (!1) λq G4 hq N sb4=>?_;have O:=sb2.trans (sb3.trans sb4);erw[ends];cases hq0:((q:Int)==0) with
  |false=>
   show hM _ _ ?_;erw[ends];exact⟨p,m,ys,rfl,rfl,!0,!0,y2,N,O⟩
  |true=>
   erw[ends];show CompG.inv (P:=λi g Y J=>(∃o,Y=[o,-(.ref p),-(.str [97,98,99,100,101,102,103,104,105,106,107,108,109,110,111,112,113,114,115,116,117,118,119,120,121,122])])/\Pen J p/\Sb p G J/\∃zs:List (AA),g=zs.map D.str/\zs⁻¹=i/\∀z∈zs,okD z) ⟨⟨_,rfl⟩,N,O,[],rfl,rfl,!2⟩ (λv v v v v=>trivial) (by simp;bv_omega) ?_ ?_
   .rintro i d g Y J hd ⟨⟨o,rfl⟩,L,M,zs,rfl,z1,z2⟩ kk hk;erw[h1,h2];show cA L (!1) (!1) λn G6 hn hp6 sb6=>?_;erw[ends];rw[show(1:Int)+(n:Int)=((n+1:Nat):Int) by lia];show aeP hp6 (!0) (!2) (!2) λl G7 l1 l2 hp7 sb7=>?_;show hk _ _ _ ⟨⟨_,rfl⟩,hp7,M.trans (sb6.trans sb7),zs++[l],!2,by simp[z1],λz hz=>?_⟩;rcases ba.mp hz with h|h
    .exact z2 z h
    .rw[al.mp h];exact⟨!0,!0,λc hc=>J3 (l2 c hc)⟩
   .rintro g Y J ⟨_,L,M,zs,rfl,z1,z2⟩;rw[ae]at z1;show hM _ _ ?_;erw[ends];exact⟨p,m,zs,rfl,rfl,!0,!0,z2,L,M⟩
abbrev Row:=AA×AA
abbrev AU:=List Row
def aM(r:Row):D:=.tup [.str r.1,.str r.2]
def aq(w:Nat)(g:AU):D:=.tup [.int w,.tup (g.map aM)]
structure okB(w:Nat)(rs:AU):Prop where
 w1:1<=w
 w6:w<=6
 len:rs.length<=12
 form:∀r∈rs,okF w r.1
 deed:∀r∈rs,okD r.2
def J4(ds:AS)(G:DH):Prop:=∃p,∃w m:Nat,ds=[.ref p,.int w,.int m]/\Pen G p/\1<=w/\w<=6/\m<=12
def J5(ds:AS)(G:DH)(d:D)(q:DH):Prop:=∃p,∃w m v:Nat,∃g:AU,ds=[.ref p,.int w,.int m]/\d=aq v g/\okB v g/\v<=w/\g⁻¹<=m/\Pen q p/\Sb p G q
def uq:RF.Spec:=bR J4 J5
def aeS{p:AQ}{w m:Nat}{G:DH}{k:AT}{E:EK}(O:Pen G p)(h1:1<=w)(h2:w<=6)(M:m<=12)(N:∀(v:Nat)(q:AU)(g:DH),okB v q->v<=w->q⁻¹<=m->Pen g p->Sb p G g->k (aq v q) g):uq.t [.ref p,.int w,.int m] G k E:=by show cF ⟨p,w,m,rfl,O,h1,h2,M⟩ λd g U=>?_;let(p2,w2,m2,v,q,J,L,o,Y,q2,z,sb):=U;simp only[dE,D.ref.injEq,D.int.injEq,Int.ofNat_inj,and_true]at J;let(rfl,rfl,rfl):=J;subst L;exact N v q g o Y q2 z sb
def aeT{p:AQ}{m:Int}{G:DH}{k:AT}{E:EK}(M:Pen G p)(h1:0<m)(h2:m<=100)(L:∀(xs:List (AA))(g:DH),0<xs⁻¹->xs⁻¹<=100->(∀x∈xs,okD x)->Pen g p->Sb p G g->k (.lst (xs.map D.str)) g):uo.t [.ref p,.int m] G k E:=by show cF ⟨p,m,rfl,M,h1,h2⟩ λd g N=>?_;let(p2,m2,xs,z,J,O,U,Y,q,sb):=N;cases z;subst J;exact L xs g O U Y q sb
def CG{g:Type}{l:List g}{a:g}:atI (l++[a]) (Neg.neg 1)=-a:=by unfold atI ixN;rw[if_neg (!1),if_pos (by simp;lia),ax,hU,show(Neg.neg 1+((l⁻¹+1:Nat):Int)).toNat=l⁻¹ by lia];simp
def aeU (Z:aj) (h1:Z "_law_take"=dY) (h2:Z "_law_deeds_of"=uo) (h3:Z "_law_form_like"=um) (ds:AS) (G:DH) (h:J4 ds G):az Z zg noE (env0 ds 5) G (ends (J5 ds G)):=by
 let(p,w,m,rfl,hp,w1,w2,m1):=h;simp_all_arith[zg];nofun;erw[h1];show cA hp (!0) (!0) λn G2 hn hp2 sb2=>?_;erw[ends];rw[show(1:Int)+(n:Int)=((n+1:Nat):Int) by lia];symm;erw[h2];show aeT hp2 (!1) (!1) λxs G3 x1 x2 x3 U sb3=>?_;symm;erw[ends];show λq hq=>hM _ _ (seq λM hM=>?_);erw[ends];show λs hs=>hM _ _ (seq λM hM=>?_);have L:q≠s:=by rintro rfl;rw[bG]at hs;cases hs
 have hs3:G3 s=none:=by rw[cN (Ne.symm L)]at hs;exact hs
 have N:p≠q:=U.ne hq;have O:p≠s:=U.ne hs3;have sa4:Sa G3 (aP (aP G3 q (.lst [])) s (.lst [])):=(Sa.new hq).trans (Sa.new hs);have hp4:=U.sa sa4;simp_arith![h1];show cA hp4 (!0) (!0) λr G5 hr hp5 sb5=>?_;simp_arith![ends];show⟨!0,?_⟩;show ForG.inv (P:=λi Y G'=>(∃o,Y=[-(.ref p),-(.int w),-(.int m),-(.int ((n+1:Nat):Int)),-(.lst (xs.map D.str)),-(.ref q),-(.ref s),o])/\Pen G' p/\Sb p G G'/\
   ∃g:AU,G' q=-(.lst ((g.map (·.1)).map D.str))/\G' s=-(.lst (g.map aM))/\g⁻¹=i/\(∀r∈g,okF (n+1) r.1)/\∀r∈g,okD r.2) ⟨⟨_,rfl⟩,hp5,sb2.trans (sb3.trans (sa4.sb.trans sb5)),[],?_,?_,rfl,!2,!2⟩ (λy y y y=>trivial) ?_ ?_
 .exact sb5 q _ (by rw[cN L];exact bG) (Ne.symm N)
 .exact sb5 s _ bG (Ne.symm O)
 .rintro i d Y G' hd ⟨⟨o,rfl⟩,hp6,sb6,g,g1,g2,r1,r2,r3⟩ kk hk;have hi:i<r:=by
   have:=(ah.mp hd).1;simpa [aQ] using this
  simp_arith![ends];nofun;erw[h3,cL g1];show aeK (fs:=g.map (·.1)) hp6 (!0) (!0) (dM g1) (by simp;lia) (λf hf=>?_) λf G7 hf hp7 sb7=>?_
  .let(r',J,rfl):=aT.mp hf;exact r2 r' J
  have g1':=sb7 q _ g1 (Ne.symm N);have g2':=sb7 s _ g2 (Ne.symm O);erw[cL g1'];show⟨by simp;bv_omega,hM _ _ (last ?_)⟩;have e2:aP G7 q (.lst ((g.map (·.1)).map D.str++[.str f])) s=-(.lst (g.map aM)):=by rw[cN (Ne.symm L)];exact g2'
  have hp8:Pen (aP G7 q (.lst ((g.map (·.1)).map D.str++[.str f]))) p:=hp7.sb Sb.upd N;erw[h1,cL e2,dM bG,CG,ae];show cA hp8 (!0) (!0) λt G9 ht hp9 sb9=>?_;have e1':=sb9 q _ bG (Ne.symm N);have e2':=sb9 s _ e2 (Ne.symm O);erw[cL e2'];show JM (!0) (by simp;lia) λx hx=>?_;let(dd,hdd,rfl):=aT.mp hx;show⟨!1,by simp;bv_omega,hk _ _ ⟨⟨_,rfl⟩,hp9.sb Sb.upd O,?_,g++[(f,dd)],?_,?_,by simp[r1],?_,?_⟩⟩
  .intro b ob hb nb;by_cases hbs:b=s
   .subst hbs;exfalso;have z:=sb2 b _ hb nb;have z:=sb3 b _ z nb;rw[hs3]at z;cases z
   .by_cases hbq:b=q
    .subst hbq;exfalso;have z:=sb2 b _ hb nb;have z:=sb3 b _ z nb;rw[hq]at z;cases z
    .rw[cN hbs];exact sb9 b _ (by rw[cN hbq];exact sb7 b _ (sb6 b _ hb nb) nb) nb
  .rw[cN L,e1'];simp
  .rw[bG];simp[aM]
  .intro r' J;rcases ba.mp J with h|h
   .exact r2 r' h
   .rw[al.mp h];exact hf
  .intro r' J;rcases ba.mp J with h|h
   .exact r3 r' h
   .rw[al.mp h];exact x3 dd hdd
 .rintro Y G' ⟨⟨o,rfl⟩,hp6,sb6,g,g1,g2,r1,r2,r3⟩;have hl:g⁻¹=r:=by rw[r1];simp[aQ]
  show hM _ _ ?_;erw[dM g2];exact⟨!1,p,w,m,n+1,g,rfl,rfl,⟨!0,!0,!0,r2,r3⟩,!0,!0,hp6,sb6⟩
def alt(c:Nat):AA:=if c=42 then[48,49] else[c]
def step1(g:List (AA))(c:Nat):List (AA):=g.flatMap λt=>(alt c).map λs=>t++[s]
def bD(f:AA):List (AA):=f.foldl step1 [[]]
def Fits(f w:AA):Prop:=f⁻¹=w⁻¹/\∀(i c s:Nat),f[i]?=-c->w[i]?=-s->s∈alt c
def zO(f:AA)(c:Nat):bD (f++[c])=step1 (bD f) c:=by unfold bD;rw[List.foldl_append];rfl
def aeV{g:List (AA)}{c:Nat}{w:AA}:w∈step1 g c↔∃t s,t∈g/\s∈alt c/\w=t++[s]:=by
 unfold step1;rw[List.mem_flatMap];constructor
 .rintro ⟨t,q,h⟩;let(s,hs,rfl):=aT.mp h;exact⟨t,s,q,hs,rfl⟩
 .rintro ⟨t,s,q,hs,rfl⟩;exact⟨t,q,aT.mpr ⟨s,hs,rfl⟩⟩
def zP{f w:AA}{c s:Nat}:Fits (f++[c]) (w++[s])↔Fits f w/\s∈alt c:=by
 constructor
 .rintro ⟨h1,h2⟩;have hl:f⁻¹=w⁻¹:=by simpa using h1
  show⟨⟨hl,λi g s' hc hs=>?_⟩,?_⟩
  .have z:=(ah.mp hc).1;exact h2 i g s' (by rw[eL z];exact hc) (by rw[eL (!0)];exact hs)
  .exact h2 f⁻¹ c s (!2) (by rw[hl];simp)
 .rintro ⟨⟨h1,h2⟩,q⟩;show⟨by simp[h1],λi g s' hc hs=>?_⟩;by_cases hi:i<f⁻¹
  .rw[eL hi]at hc;rw[eL (!0)]at hs;exact h2 i g s' hc hs
  .have J:=(ah.mp hc).1;simp at J;have e:i=f⁻¹:=by lia
   subst e;simp at hc;rw[h1]at hs;simp at hs;subst hc hs;exact q
def nW{f w:AA}:w∈bD f↔Fits f w:=by
 induction f using JL generalizing w with
 |nil=>
  simp[bD,Fits];constructor
  .rintro rfl;simp
  .intro h;exact cw.mp h.symm
 |snoc f c q=>
  rw[zO,aeV];constructor
  .rintro ⟨t,s,z,hs,rfl⟩;exact zP.mpr ⟨q.mp z,hs⟩
  .intro h;have hl:=h.1;simp at hl;have g:w≠[]:=by rintro rfl;simp at hl
   show⟨w.dropLast,w.getLast g,?_,?_,(fE g).symm⟩
   .rw[<-fE g]at h;exact q.mpr (zP.mp h).1
   .rw[<-fE g]at h;exact(zP.mp h).2
def aeW{f w:AA}(h:w∈bD f):w⁻¹=f⁻¹:=(nW.mp h).1.symm
def J6{g:List (AA)}{c:Nat}:(step1 g c)⁻¹<=2*g⁻¹:=by
 unfold step1;induction g with
 |nil=>simp
 |cons a r q=>
  rw[gI,ax,ae,ca];have:(alt c)⁻¹<=2:=by unfold alt;split<;>simp
  lia
def J7(f:AA):(bD f)⁻¹<=2 ^ f⁻¹:=by
 induction f using JL with
 |nil=>simp[bD]
 |snoc f c g=>
  rw[zO,ax,hU,Nat.pow_succ];have:=@J6 (bD f) c;lia
def aeX{a b:List (AA)}{c:Nat}:step1 (a++b) c=step1 a c++step1 b c:=by unfold step1;rw[List.flatMap_append]
def J8(ds:AS)(_:DH):Prop:=∃f:AA,ds=[.str f]/\f⁻¹<=12
def J9(ds:AS)(G:DH)(d:D)(g:DH):Prop:=∃f:AA,ds=[.str f]/\d=.lst ((bD f).map D.str)/\Sa G g
def ur:RF.Spec:=bR J8 J9
def aeY{f:AA}{G:DH}{k:AT}{E:EK}(h:f⁻¹<=12)(J:∀g,Sa G g->k (.lst ((bD f).map D.str)) g):ur.t [.str f] G k E:=by show cF ⟨f,rfl,h⟩ λd g L=>?_;let(f2,q,z,sa):=L;cases q;subst z;exact J g sa
def aeZ(Z:aj)(ds:AS)(G:DH)(h:J8 ds G):az Z zu noE (env0 ds 4) G (ends (J9 ds G)):=by
 let(f,rfl,hf):=h;simp_all_arith[zu];nofun;erw[ends];show⟨!1,hM _ _ (seq λM hM=>?_)⟩;simp_arith![ends];show ForG.inv (P:=λi Y G'=>(∃o2 o3 L,Y=[-(.str f),-(.lst ((bD (f.take i)).map D.str)),o2,o3,L])/\Sa G G') ⟨⟨_,_,_,rfl⟩,Sa.refl G⟩ (λy y y y=>trivial) ?_ ?_
 .rintro i d Y G2 hd ⟨⟨o2,o3,L,rfl⟩,sa⟩ kk hk;rw[aS]at hd;let(c,hc,rfl):=aE.mp hd;have hi:=(ah.mp hc).1;have ht:f.take (i+1)=f.take i++[c]:=by rw[d0,hc];rfl
  have hcard:(bD (f.take i))⁻¹<=4096:=by
   have h1:=J7 (f.take i);have h2:(f.take i)⁻¹<=12:=by rw[de];lia
   have h3:=fo (show 0<2 by decide) h2;have h4:2 ^ 12=4096:=by decide
   lia
  simp_arith![ends];nofun;erw[ends];show λq hq=>hM _ _ (seq λM hM=>?_);simp_arith![ends];show ForG.inv (P:=λj Y G'=>(∃L,Y=[-(.str f),-(.lst ((bD (f.take i)).map D.str)),-(.str [c]),-(.ref q),L])/\Sa G G'/\G' q=-(.lst ((step1 ((bD (f.take i)).take j) c).map D.str))) ⟨⟨_,rfl⟩,sa.trans (Sa.new hq),bG⟩ (λy y y y=>trivial) ?_ ?_
  .rintro j d Y G3 hd3 ⟨⟨L,rfl⟩,N,O⟩ kk' hk';rw[aS]at hd3;let(t,J,rfl):=aE.mp hd3;have hj:=(ah.mp J).1;have tlen:t⁻¹<=12:=by rw[aeW (bv J),de];lia
   have tk:(bD (f.take i)).take (j+1)=(bD (f.take i)).take j++[t]:=by rw[d0,J];rfl
   have st:step1 [t] c=(alt c).map λs=>t++[s]:=by simp[step1]
   have l1:(step1 ((bD (f.take i)).take j) c)⁻¹<=8192:=by
    have:=@J6 ((bD (f.take i)).take j) c;have:((bD (f.take i)).take j)⁻¹<=4096:=by rw[de];lia
    lia
   have al2:(alt c)⁻¹<=2:=by unfold alt;split<;>simp
   simp_arith![ends];show last ?_;erw[cL O];show⟨!1,?_⟩;have ix:atI [D.str [48,49],D.str [c]] (if(!([c]==[42]))=true then 1 else 0)=-(.str (alt c)):=by
    unfold alt;by_cases z:c=42
    .subst z;rfl
    .have:([c]==[42])=false:=by simp[z]
     rw[this,if_neg z];rfl
   erw[ix];show CompG.map (f:=λd=>match d with |.str [s]=>.str (t++[s])|_=>.non) (I:=λY=>∃o,Y=[o,-(.str t)]) ⟨_,rfl⟩ trivial (by simp;bv_omega) ?_ ?_
   .rintro d Y hd ⟨o,rfl⟩ kk2 hk2;let(s,_,rfl):=aT.mp hd;erw[ends];exact⟨by bv_omega,hk2 _ ⟨_,rfl⟩⟩
   .rw[b6];erw[Function.comp_def,cL O,ae];show⟨by bv_omega,hk' _ _ ⟨⟨_,rfl⟩,?_,?_⟩⟩
    .intro b ob U;by_cases g:b=q
     .subst g;exfalso;have:=sa b _ U;rw[hq]at this;cases this
     .rw[cN g];exact N b _ U
    .rw[bG,tk,aeX,st,cf,b6];rfl
  .rintro Y G3 ⟨⟨L,rfl⟩,N,O⟩;rw[ae,dQ]at O;ac_nf0;erw[O];show hk _ _ ⟨⟨_,_,_,by rw[ht,zO]⟩,?_⟩;intro b ob U;have g:b≠q:=by
    rintro rfl;have:=sa b _ U;rw[hq]at this;cases this
   rw[vU g];exact N b _ U
 .rintro Y G2 ⟨⟨o2,o3,L,rfl⟩,sa⟩;rw[ae,dQ];show hM _ _ ?_;erw[ends];exact⟨f,rfl,rfl,sa⟩
def letters:AA:=[97,98,99,100,101,102,103,104,105,106,107,108,109,110,111,112,113,114,115,116,117,118,119,120,121,122]
def ae0:∀c:Fin 123,97<=c.1->letters.contains c.1=true:=by decide
def ae1{c:Nat}:letters.contains c=true↔97<=c/\c<=122:=
 ⟨λh=>J3 (bB.mp h),λ⟨h1,h2⟩=>ae0 ⟨c,Nat.lt_succ_of_le h2⟩ h1⟩
def okW(w:Nat)(l:AA):Prop:=l⁻¹=w/\∀c∈l,c=48\/c=49
def zQ{g:Type}(l:List g):bools (l.map λz=>D.bl true)=-(l.map λz=>true):=mF _ l
def zR{q:Type}(l:List q):(l.map λz=>true).all id=true:=bS.mpr λx g=>by let(_,_,rfl):=aT.mp g;rfl
def zT:RF.Spec:=bT (λa:AA×AA=>[.str a.1,.int a.2⁻¹,.str a.2]) (λa=>a.2⁻¹<=1000/\∀c∈a.2,a.1.contains c=true) (λz=>.bl true)
def ae2(Z:aj)(a:AA×AA)(G:DH)(h:a.2⁻¹<=1000/\∀c∈a.2,a.1.contains c=true):az Z mO noE (env0 [.str a.1,.int a.2⁻¹,.str a.2] 0) G (ends λd g=>g=G/\d=.bl true):=by
 let(s,l):=a;let(h1,h2):=h;dsimp only at h1 h2;erw[mO,BEq.rfl];show CompG.map (f:=λy=>.bl true) (I:=λY=>∃o,Y=[o,-(.str s)]) ⟨_,rfl⟩ trivial (by simp;bv_omega) ?_ ?_
 .rintro d Y q ⟨o,rfl⟩ J z;let(c,hc,rfl):=aT.mp q;erw[h2 c hc];exact z _ ⟨_,rfl⟩
 .erw[zQ,zR]
def zU:RF.Spec:=bT (λl:AA=>[.int l⁻¹,.str l]) (λl=>l⁻¹<=1000/\∀c∈l,isF c) (λz=>.bl true)
def ae3 (Z:aj) (h1:Z "is_text_of"=zT) (l:AA) (G:DH) (h:l⁻¹<=1000/\∀c∈l,isF c):az Z mQ noE (env0 [.int l⁻¹,.str l] 0) G (ends λd g=>g=G/\d=.bl true):=by erw[mQ,h1];exact cj ([48,49,42],l) rfl ⟨h.1,λc hc=>by rcases h.2 c hc with rfl|rfl|rfl<;>rfl⟩ ⟨rfl,rfl⟩
def zV:RF.Spec:=bT (λl:AA=>[.str l]) okD (λz=>.bl true)
def ae4(Z:aj)(l:AA)(G:DH)(h:okD l):az Z mL noE (env0 [.str l] 0) G (ends λd q=>q=G/\d=.bl true):=by
 let(h1,h2,L):=h;have z:decide ((1:Int)<=(l⁻¹:Int))=true:=bo (!0);have J:decide ((l⁻¹:Int)<=8)=true:=bo (!0);erw[mL,z,J];show CompG.map (f:=λy=>.bl true) (I:=λY=>∃o,Y=[o]) ⟨_,rfl⟩ trivial (by simp;bv_omega) ?_ ?_
 .rintro d Y M ⟨o,rfl⟩ O N;let(c,hc,rfl):=aT.mp M;have g:[97,98,99,100,101,102,103,104,105,106,107,108,109,110,111,112,113,114,115,116,117,118,119,120,121,122].contains c=true:=ae1.mpr (L c hc);erw[g];exact N _ ⟨_,rfl⟩
 .erw[zQ,zR]
def zW:RF.Spec:=bT (λa:Nat×Row=>[.int a.1,aM a.2]) (λa=>a.1<=6/\okF a.1 a.2.1/\okD a.2.2) (λz=>.bl true)
def ae5 (Z:aj) (h1:Z "is_form"=zU) (h2:Z "is_deed"=zV) (a:Nat×Row) (G:DH) (h:a.1<=6/\okF a.1 a.2.1/\okD a.2.2):az Z mR noE (env0 [.int a.1,aM a.2] 0) G (ends λd z=>z=G/\d=.bl true):=by let(w,f,d):=a;let(hw,g,q):=h;dsimp only at hw g q;erw[mR,aM,h1,h2];erw[show((0+1+1:Nat):Int)=2 from rfl,BEq.rfl];show cj f (by rw[g.1]) ⟨by rw[g.1];lia,g.2⟩ ?_;erw[ends];exact cj d rfl q ⟨rfl,rfl⟩
def zX:RF.Spec:=bT (λw:Nat=>[.int w]) (λw=>1<=w/\w<=6) (λz=>.bl true)
def ae6 (Z:aj) (h1:Z "is_whole"=bc jh) (w:Nat) (G:DH) (h:1<=w/\w<=6):az Z mV noE (env0 [.int w] 0) G (ends λd g=>g=G/\d=.bl true):=by have q:decide ((1:Int)<=(w:Int))=true:=bo (!0);have z:decide ((w:Int)<=6)=true:=bo (!0);erw[mV,h1];show fj (d:=.bl true) rfl ?_;erw[q,z]
def zY:RF.Spec:=bT (λa:Nat×AU=>[aq a.1 a.2]) (λa=>okB a.1 a.2) (λz=>.bl true)
def ae7 (Z:aj) (h1:Z "is_width"=zX) (h2:Z "is_row"=zW) (a:Nat×AU) (G:DH) (h:okB a.1 a.2):az Z mW noE (env0 [aq a.1 a.2] 2) G (ends λd G'=>G'=G/\d=.bl true):=by
 let(w,rs):=a;dsimp only at h ⊢;have hlen:=h.len;simp_all_arith[mW,aq];nofun;erw[ends];erw[show((0+1+1:Nat):Int)=2 from rfl,BEq.rfl];symm;erw[ends];symm;erw[h1];show cj w rfl ⟨h.w1,h.w6⟩ ?_;have hd:decide ((12:Int)<((rs.map aM)⁻¹:Int))=false:=bq (by rw[ae];lia);erw[hd];show hM _ _ ?_;erw[ends];show CompG.map (f:=λz=>.bl true) (I:=λY=>∃o,Y=[o,-(.int w)]) ⟨_,rfl⟩ trivial (by rw[ae];bv_omega) ?_ ?_
 .rintro d Y hd ⟨o,rfl⟩ kk hk;let(r,hr,rfl):=aT.mp hd;erw[h2];exact cj (w,r) rfl ⟨h.w6,h.form r hr,h.deed r hr⟩ (hk _ ⟨_,rfl⟩)
 .erw[zQ,zR]
def kh:RF.Spec:=bT (λa:Nat×AU=>[aq a.1 a.2]) (λa=>okB a.1 a.2) (λz=>.non)
def ut{w:Nat}{g:AU}{G:DH}{k:AT}{E:EK}(h:okB w g)(q:k .non G):kh.t [aq w g] G k E:=cj (w,g) rfl h q
def ae8 (Z:aj) (h1:Z "is_book"=zY) (a:Nat×AU) (G:DH) (h:okB a.1 a.2):az Z mX noE (env0 [aq a.1 a.2] 0) G (ends λd g=>g=G/\d=.non):=by erw[mX,h1];show cj a rfl h ?_;erw[ends]
def nY(c s:Nat):Bool:=c==42||c==s
def dz:AA->AA->Bool
 |c::f,s::w=>nY c s&&dz f w
 |_,_=>true
def gY(f w:AA):Bool:=decide (f⁻¹=w⁻¹)&&dz f w
def zZ:∀(f w:AA),cC (f.map λc=>D.str [c]) (w.map λc=>D.str [c])=(f.zip w).map λp=>D.tup [.str [p.1],.str [p.2]]
 |[],w=>by simp[cC]
 |c::f,[]=>by simp[cC]
 |c::f,s::w=>by simp[cC,zZ f w]
def gZ{c s:Nat}:(([c]==[s]):Bool)=(c==s):=by
 by_cases h:c=s
 .subst h;simp
 .rw[dy.mpr h,dy.mpr (by simp[h])]
def Ka{c s:Nat}(hs:s=48\/s=49):nY c s=true↔s∈alt c:=by
 unfold nY alt;by_cases h:c=42
 .subst h;simp;rcases hs with rfl|rfl<;>simp
 .simp[h];exact eq_comm
def bw(g:AU)(w:AA):Option Nat:=g.findIdx? λr=>gY r.1 w
def aY:Option Nat->D
 |some n=>.int n
 |none=>.non
def Kc{w v:Nat}{q g:AU}(h:aq w q=aq v g):w=v/\q=g:=by
 unfold aq at h;simp only[D.tup.injEq,dE,D.int.injEq,Int.ofNat_inj,and_true]at h;show⟨h.1,?_⟩;have h2:=h.2;clear h;induction q generalizing g with
 |nil=>cases g with
  |nil=>rfl
  |cons _ _=>simp at h2
 |cons r q z=>cases g with
  |nil=>simp at h2
  |cons s g=>
   simp only[a7,dE]at h2;have e:r=s:=by have:=h2.1;unfold aM at this;simp only[D.tup.injEq,dE,D.str.injEq,and_true]at this;exact Prod.ext this.1 this.2
   rw[e,z h2.2]
def ae9{g:AU}{l:AA}{i:Nat}{r:Row}(h:g[i]?=-r):bw (g.drop i) l=if gY r.1 l then some 0 else(bw (g.drop (i+1)) l).map (·+1):=by
 have hi:=(ah.mp h).1;have e:g.drop i=r::g.drop (i+1):=by rw[bn hi];rw[(ah.mp h).2]
 rw[e];unfold bw;rw[eS]
def kj(g:AU):Option Nat->D
 |some n=>match g[n]? with|some r=>.str r.2|none=>.non
 |none=>.non
def afa{g:AU}{l:AA}{n:Nat}(h:bw g l=-n):n<g⁻¹:=by unfold bw at h;exact(List.findIdx?_eq_some_iff_findIdx_eq.mp h).1
def uv:RF.Spec:=bR (λds z=>∃w g o,ds=[aq w g,aY o]/\∀n,o=-n->n<g⁻¹) (λds G d q=>q=G/\∃w g o,ds=[aq w g,aY o]/\d=kj g o)
def afb{a b:Option Nat}(h:aY a=aY b):a=b:=by cases a<;>cases b<;>simp[aY]at h ⊢<;>lia
def Kd{w:Nat}{q:AU}{o:Option Nat}{G:DH}{k:AT}{E:EK}(h:∀n,o=-n->n<q⁻¹)(M:k (kj q o) G):uv.t [aq w q,aY o] G k E:=by show cF ⟨w,q,o,rfl,h⟩ λd U N=>?_;let(z,w2,O,Y,g,J):=N;simp only[dE,and_true]at g;let(g,L):=g;let(rfl,rfl):=Kc g;cases afb L;subst z J;exact M
def afc(Z:aj)(ds:AS)(G:DH)(h:∃w g o,ds=[aq w g,aY o]/\∀n,o=-n->n<g⁻¹):az Z j9 noE (env0 ds 0) G (ends λd q=>q=G/\∃w g o,ds=[aq w g,aY o]/\d=kj g o):=by
 let(w,g,o,rfl,z):=h;cases o with
 |none=>
  erw[j9,aY];exact⟨w,g,none,rfl,rfl⟩
 |some n=>
  have hn:=z n rfl;erw[j9,aY,aq];show bW (a:=aM g[n]) (bL (by simp[hn])) ?_;erw[aM];exact⟨w,g,-n,rfl,by simp[kj,hn]⟩
def afd{g q:Type}(f:g->q)(l:List g)(n:Nat):cut (l.map f) none (-(n:Int))=(l.take n).map f:=by rw[mG,List.map_take]
def okB.sub{w:Nat}{q z:AU}(h:okB w q)(hl:z⁻¹<=q⁻¹)(hs:∀r∈z,r∈q):okB w z:=
 ⟨h.w1,h.w6,b5 hl h.len,λr g=>h.form r (hs r g),λr g=>h.deed r (hs r g)⟩
def Ke(c:Nat)(n:Nat):reps [c] n=List.replicate n c:=by
 unfold reps;induction n with
 |zero=>rfl
 |succ n g=>rw[cr,e8,g,cr];rfl
def afe(w:Nat):okF w (List.replicate w 42):=⟨cb,λc hc=>.inr (.inr (List.eq_of_mem_replicate hc))⟩
def afg{w:Nat}{l:AA}:Fits (List.replicate w 42) l↔okW w l:=by
 constructor
 .rintro ⟨h1,h2⟩;rw[cb]at h1;show⟨h1.symm,λc hc=>?_⟩;let(i,hi,rfl):=List.getElem_of_mem hc;have:=h2 i 42 l[i] (by rw[List.getElem?_replicate];rw[if_pos (!0)]) (by simp[hi]);simpa [alt] using this
 .rintro ⟨h1,h2⟩;show⟨by rw[cb,h1],λi c s hc hs=>?_⟩;rw[List.getElem?_replicate]at hc;split at hc
  .cases hc;have:=h2 s (bv hs);simpa [alt] using this
  .cases hc
def afh{p:AQ}{G:DH}{k:AT}{E:EK}(M:Pen G p)(L:∀g,Pen g p->Sb p G g->k (.ref p) g):ul.t [.ref p] G k E:=
 cF ⟨p,rfl,M⟩ λd g N=>by let(p2,z,J,q,sb):=N;cases z;subst J;exact L g q sb
def fB(a b:Nat):Option Nat:=if a=42 then some b else if b=42\/b=a then some a else none
def cU:AA->AA->Option (AA)
 |a::f,b::g=>match fB a b with|some c=>(cU f g).map (c::·)|none=>none
 |_,_=>-[]
def bU:Option (AA)->D
 |some l=>.str l
 |none=>.non
def nZ:AS->Option D
 |[.str f,.str g]=>if decide (f⁻¹<=100000) then some (bU (cU f g)) else none
 |_=>none
def afi{f g:AA}{i a b:Nat}(h:(f.zip g)[i]?=-(a,b)):cU (f.drop i) (g.drop i)=match fB a b with|some c=>(cU (f.drop (i+1)) (g.drop (i+1))).map (c::·)|none=>none:=by
 have q:=ah.mp h;let(hl,he):=q;rw[gu]at hl;have h1:i<f⁻¹:=by lia
 have h2:i<g⁻¹:=by lia
 rw[List.getElem_zip]at he;rw[bn h1,bn h2];simp only[Prod.mk.injEq]at he;rw[he.1,he.2];rfl
def afj{f g:AA}:cU (f.drop (f.zip g)⁻¹) (g.drop (f.zip g)⁻¹)=-[]:=by
 rw[gu];by_cases h:f⁻¹<=g⁻¹
 .rw[Nat.min_eq_left h,d6];cases g.drop f⁻¹<;>rfl
 .rw[Nat.min_eq_right (!0),d6];cases f.drop g⁻¹<;>rfl
def afk(Z:aj)(ds:AS)(G:DH)(d:D)(h:nZ ds=-d):az Z m8 noE (env0 ds 3) G (ends λd' M=>M=G/\d'=d):=by
 unfold nZ at h;split at h
 .rename_i f g;split at h
  .rename_i hl;have hl:=dS hl;cases h;simp_all_arith[m8];nofun;erw[ends];symm;simp_arith![zZ];show ForG.inv (P:=λi Y M=>(∃N O m,Y=[-(.str f),-(.str g),-(.str m),N,O]/\m⁻¹=i/\cU f g=(cU (f.drop i) (g.drop i)).map (m ++ ·))/\M=G) ⟨⟨_,_,[],rfl,rfl,!2⟩,rfl⟩ (λy y y y=>trivial) ?_ ?_
   .rintro i d Y M hd ⟨⟨N,O,m,rfl,hm,L⟩,rfl⟩ kk hk;rw[aS]at hd;let((a,b),U,rfl):=aE.mp hd;have hi:=(ah.mp U).1;rw[gu]at hi;rw[afi U]at L;simp_arith![ends];show last ?_;have put:∀(c:Nat)(N O:Option D),fB a b=-c->m⁻¹+1<=sz/\kk [-(.str f),-(.str g),-(.str (m++[c])),N,O] M:=by
     intro c N O hc;rw[hc]at L;show⟨by bv_omega,hk _ _ ⟨⟨_,_,_,rfl,by simp[hm],?_⟩,rfl⟩⟩;rw[L,Option.map_map];congr 1;funext x;simp
    erw[gZ];by_cases z:a=42
    .have:((a==42):Bool)=true:=by simp[z]
     erw[this];exact put b _ _ (if_pos z)
    .have h0:((a==42):Bool)=false:=by simp[z]
     erw[h0,gZ];by_cases q:b=42
     .have:((b==42):Bool)=true:=by simp[q]
      erw[this];exact put a _ _ (by unfold fB;rw[if_neg z,if_pos (.inl q)])
     .have h1:((b==42):Bool)=false:=by simp[q]
      erw[h1,gZ];by_cases J:b=a
      .have:((b==a):Bool)=true:=by simp[J]
       erw[this];exact put a _ _ (by unfold fB;rw[if_neg z,if_pos (.inr J)])
      .have:((b==a):Bool)=false:=by simp[J]
       erw[this];have hn:fB a b=none:=by unfold fB;rw[if_neg z,if_neg (by rintro(h|h);exact q h;exact J h)]
       rw[hn]at L;rw[L];rfl
   .rintro Y M ⟨⟨N,O,m,rfl,hm,L⟩,rfl⟩;rw[ae,afj]at L;show hM _ _ ?_;erw[ends];rw[L];simp[bU]
  .cases h
 .cases h
def ie:AS->Option D
 |[.str f,.int n,.str [c]]=>if decide (0<=n)&&decide (n<f⁻¹)&&decide (f⁻¹<=1000) then some (.str (f.set n.toNat c)) else none
 |_=>none
def afl{l:AA}{n c:Nat}(h:n<l⁻¹):l.take n++[c]++l.drop (n+1)=l.set n c:=by rw[List.set_eq_take_append_cons_drop,if_pos h];simp
def afm(Z:aj)(ds:AS)(G:DH)(d:D)(h:ie ds=-d):az Z nq noE (env0 ds 0) G (ends λd' g=>g=G/\d'=d):=by
 unfold ie at h;split at h
 .rename_i f n c;split at h
  .rename_i hl;simp only[af,ce]at hl;let((h0,h1),h2):=hl;cases h;let(k,rfl):=ci h0;erw[nq,mG,yO,ax,de,d5,b3,afl (show k<f⁻¹ by lia)];exact⟨by bv_omega,by bv_omega⟩
  .cases h
 .cases h
def jk:AS->Option D
 |[.int n]=>if decide (0<=n)&&decide (n<=1000) then some (.str (List.replicate n.toNat 42)) else none
 |_=>none
def afn(Z:aj)(ds:AS)(G:DH)(d:D)(h:jk ds=-d):az Z nG noE (env0 ds 0) G (ends λd' g=>g=G/\d'=d):=by
 unfold jk at h;split at h
 .rename_i n;split at h
  .rename_i hl;simp only[af,ce]at hl;cases h;erw[nG,Ke];exact⟨hl.1,hl.2,by bv_omega⟩
  .cases h
 .cases h
def bZ(g:AU)(b:AA):Option Nat:=g.findIdx? λr=>(cU r.1 b).isSome
def Kf(ds:AS)(_:DH):Prop:=∃(g:AU)(b:AA),ds=[.tup (g.map aM),.str b]/\∀r∈g,r.1⁻¹<=1000
def Kg(ds:AS)(G:DH)(d:D)(q:DH):Prop:=q=G/\∃(g:AU)(b:AA),ds=[.tup (g.map aM),.str b]/\d=aY (bZ g b)
def n6:RF.Spec:=bR Kf Kg
def z6{g q:AU}(h:g.map aM=q.map aM):g=q:=(Kc (w:=0) (v:=0) (by unfold aq;rw[h])).2
def Kh{q:AU}{b:AA}{G:DH}{k:AT}{E:EK}(h:∀r∈q,r.1⁻¹<=1000)(L:k (aY (bZ q b)) G):n6.t [.tup (q.map aM),.str b] G k E:=by show cF ⟨q,b,rfl,h⟩ λd O M=>?_;let(z,N,U,g,J):=M;simp only[dE,D.str.injEq,D.tup.injEq,and_true]at g;let(g,rfl):=g;cases z6 g;subst z J;exact L
def afo{o:Option (AA)}:fQ (bU o)=!o.isSome:=by cases o<;>rfl
def afp{G:DH}{o:Option (AA)}:view G (bU o)=bU o:=by cases o<;>rfl
def afq{g:AU}{b:AA}{i:Nat}{r:Row}(h:g[i]?=-r):bZ (g.drop i) b=if(cU r.1 b).isSome then some 0 else(bZ (g.drop (i+1)) b).map (·+1):=by
 have hi:=(ah.mp h).1;have e:g.drop i=r::g.drop (i+1):=by rw[bn hi];rw[(ah.mp h).2]
 rw[e];unfold bZ;rw[eS]
def afr (Z:aj) (h1:Z "both"=bc nZ) (ds:AS) (G:DH) (h:Kf ds G):az Z m9 noE (env0 ds 2) G (ends (Kg ds G)):=by
 let(z,b,rfl,hb):=h;simp_all_arith[m9];nofun;simp_arith![ends];show ForG.inv (P:=λi Y J=>(∃L M,Y=[-(.tup (z.map aM)),-(.str b),L,M])/\J=G/\bZ z b=(bZ (z.drop i) b).map (·+i)) ⟨⟨_,_,rfl⟩,rfl,!2⟩ (λy y y y=>trivial) ?_ ?_
 .rintro i d Y J N ⟨⟨L,M,rfl⟩,rfl,g⟩ kk hk;rw[jW]at N;let(d',q,rfl):=aE.mp N;rw[aS]at q;let(r,U,rfl):=aE.mp q;have hrl:=hb r (bv U);rw[afq U]at g;simp_arith![ends];show last ?_;erw[h1,aM];show fj (d:=bU (cU r.1 b)) (if_pos (bo (!0))) ?_;erw[afp,afo];cases O:(cU r.1 b).isSome with
  |true=>
   rw[O,if_pos rfl]at g;exact⟨rfl,z,b,rfl,by rw[g];simp[aY]⟩
  |false=>
   rw[O,if_neg bg]at g;show hk _ _ ⟨⟨_,_,rfl⟩,rfl,?_⟩;rw[g,Option.map_map];congr 1;funext n;simp;lia
 .rintro Y J ⟨⟨L,M,rfl⟩,rfl,g⟩;rw[jV,ae,d6]at g;show hM _ _ ?_;erw[ends];exact⟨rfl,z,b,rfl,by rw[g];rfl⟩
def dB(f b:AA):Option Nat:=(f.zip b).findIdx? λp=>p.2==42&&!(p.1==42)
def dN(g:AU)(b:AA):Option Nat:=match bZ g b with|some n=>(match g[n]? with|some r=>dB r.1 b|none=>none)|none=>none
def Kl(ds:AS)(_:DH):Prop:=∃(g:AU)(b:AA),ds=[.tup (g.map aM),.str b]/\(∀r∈g,r.1⁻¹=b⁻¹)/\b⁻¹<=1000
def Km(ds:AS)(G:DH)(d:D)(q:DH):Prop:=q=G/\∃(g:AU)(b:AA),ds=[.tup (g.map aM),.str b]/\d=aY (dN g b)
def uw:RF.Spec:=bR Kl Km
def afs{q:AU}{b:AA}{G:DH}{k:AT}{E:EK}(h:∀r∈q,r.1⁻¹=b⁻¹)(hl:b⁻¹<=1000)(L:k (aY (dN q b)) G):uw.t [.tup (q.map aM),.str b] G k E:=by show cF ⟨q,b,rfl,h,hl⟩ λd O M=>?_;let(z,N,U,g,J):=M;simp only[dE,D.str.injEq,D.tup.injEq,and_true]at g;let(g,rfl):=g;cases z6 g;subst z J;exact L
def ux{g:AU}{b:AA}{n:Nat}(h:bZ g b=-n):n<g⁻¹:=(List.findIdx?_eq_some_iff_findIdx_eq.mp h).1
def aft{f b:AA}{i s c:Nat}(hs:f[i]?=-s)(hc:b[i]?=-c):dB (f.drop i) (b.drop i)=if(c==42&&!(s==42))=true then some 0 else(dB (f.drop (i+1)) (b.drop (i+1))).map (·+1):=by have h1:=ah.mp hs;have h2:=ah.mp hc;rw[bn h1.1,bn h2.1,h1.2,h2.2];unfold dB;rw[List.zip_cons_cons,eS]
def afu (Z:aj) (h1:Z "first_touching"=n6) (ds:AS) (G:DH) (h:Kl ds G):az Z ni noE (env0 ds 3) G (ends (Km ds G)):=by
 let(g,b,rfl,hb,hbl):=h;simp_all_arith[ni];nofun;erw[h1];show Kh (λr hr=>by rw[hb r hr];exact hbl) (hM _ _ (seq λM hM=>?_));cases ht:bZ g b with
 |none=>
  erw[aY];exact⟨rfl,g,b,rfl,by unfold dN;rw[ht];rfl⟩
 |some n=>
  have hn:=ux ht;have O:=hb g[n] (cq _);have J:dN g b=dB g[n].1 b:=by unfold dN;rw[ht];simp[hn]
  erw[aY];symm;simp_arith![ends];show bW (a:=aM g[n]) (bL (by simp[hn])) ?_;simp_arith![aM];generalize g[n].1=f at O J;show ForG.inv (P:=λi Y G'=>(∃o3 o4,Y=[-(.tup (g.map aM)),-(.str b),-(.int (n:Int)),o3,o4])/\G'=G/\dB f b=(dB (f.drop i) (b.drop i)).map (·+i)) ⟨⟨_,_,rfl⟩,rfl,!2⟩ (λy y y y=>trivial) ?_ ?_
  .rintro i d Y G' hd ⟨⟨o3,o4,rfl⟩,rfl,hs⟩ kk hk;rw[jW]at hd;let(d',N,rfl):=aE.mp hd;rw[aS]at N;let(s,U,rfl):=aE.mp N;have hi:=(ah.mp U).1;have hib:i<b⁻¹:=by lia
   have L:b[i]?=-b[i]:=by simp[hib]
   rw[aft U L]at hs;simp_arith![ends];show last ?_;erw[ends];show bW (a:=b[i]) (by rw[Nat.zero_add];exact bL L) ?_;erw[gZ];cases z:(b[i]==42) with
   |false=>
    simp only[z,Bool.false_and,if_neg bg]at hs;erw[ends];show hk _ _ ⟨⟨_,_,rfl⟩,rfl,?_⟩;rw[hs,Option.map_map];congr 1;funext n;simp;lia
   |true=>
    erw[gZ];cases q:(s==42) with
    |true=>
     simp only[z,q,Bool.not_true,gS,if_neg bg]at hs;erw[ends];show hk _ _ ⟨⟨_,_,rfl⟩,rfl,?_⟩;rw[hs,Option.map_map];congr 1;funext n;simp;lia
    |false=>
     simp only[z,q,Bool.not_false,Bool.and_true,if_pos]at hs;erw[ends];exact⟨rfl,g,b,rfl,by rw[J,hs];simp[aY]⟩
  .rintro Y G' ⟨⟨o3,o4,rfl⟩,rfl,hs⟩;rw[jV,ae,d6]at hs;show hM _ _ ?_;erw[ends];exact⟨rfl,g,b,rfl,by rw[J,hs];simp[dB,aY]⟩
def km:AA:=[115,112,108,105,116]
def stc(b:AA):Nat:=b.countP (·==42)
def kE{b:AA}{n c:Nat}(h:b[n]?=-42)(hc:c≠42):stc (b.set n c)+1=stc b:=by
 let(hl,he):=ah.mp h;have g:b=b.take n++42::b.drop (n+1):=by rw[<-he,<-bn hl,List.take_append_drop]
 have q:b.set n c=b.take n++c::b.drop (n+1):=by rw[List.set_eq_take_append_cons_drop,if_pos hl]
 unfold stc;rw[q];conv=>rhs;rw[g]
 rw[List.countP_append,List.countP_append,List.countP_cons_of_neg (by simp[hc]),List.countP_cons_of_pos (!2)];lia
def Ko{w n c:Nat}{b:AA}(h:okF w b)(hc:isF c):okF w (b.set n c):=⟨by rw[eJ];exact h.1,λd g=>by
 rcases List.mem_or_eq_of_mem_set g with h'|h'
 .exact h.2 d h'
 .rw[h'];exact hc⟩
def afv:isF 48:=.inl rfl
def afw:isF 49:=.inr (.inl rfl)
inductive Gr (name:AA) (rss:List (AU)):AA->D->Prop
 |leaf (b:AA) (h:∀rs∈rss,dN rs b=none):Gr name rss b (.tup (.str name::rss.map λrs=>aY (bZ rs b)))
 |node (b:AA) (n:Nat) (z o:D) (h:b[n]?=some 42) (hz:Gr name rss (b.set n 48) z) (ho:Gr name rss (b.set n 49) o):Gr name rss b (.tup [.str km,.int n,z,o])
def fG(g:List (AU)):AS:=g.map λq=>.tup (q.map aM)
structure okG(w:Nat)(name:AA)(rss:List (AU)):Prop where
 len:rss.length<=100
 nl:name.length<=100
 form:∀rs∈rss,∀r∈rs,r.1.length=w
 w1000:w<=1000
def Kp(n:Nat)(ds:AS)(_:DH):Prop:=∃(w:Nat)(name:AA)(g:List (AU))(b:AA),ds=[.str name,.lst (fG g),.str b]/\okG w name g/\b⁻¹=w/\stc b<n
def Kq(ds:AS)(G:DH)(d:D)(q:DH):Prop:=q=G/\∃(name:AA)(g:List (AU))(b:AA),ds=[.str name,.lst (fG g),.str b]/\Gr name g b d
def fU(n:Nat):RF.Spec:=bR (Kp n) Kq
def afx{a b:List (AU)}(h:fG a=fG b):a=b:=by
 unfold fG at h;induction a generalizing b with
 |nil=>cases b with
  |nil=>rfl
  |cons _ _=>simp at h
 |cons x a g=>cases b with
  |nil=>simp at h
  |cons y b=>
   simp only[a7,dE,D.tup.injEq]at h;rw[z6 h.1,g h.2]
def z7{n w:Nat}{name:AA}{g:List (AU)}{b:AA}{G:DH}{k:AT}{E:EK}(h:okG w name g)(N:b⁻¹=w)(hs:stc b<n)(O:∀d,Gr name g b d->k d G):(fU n).t [.str name,.lst (fG g),.str b] G k E:=by show cF ⟨w,name,g,b,rfl,h,N,hs⟩ λd Y U=>?_;let(L,z,J,b2,q,M):=U;simp only[dE,D.str.injEq,D.lst.injEq,and_true]at q;let(rfl,q,rfl):=q;cases afx q;subst L;exact O d M
def afy{f b:AA}{n:Nat}(h:dB f b=-n):b[n]?=-42:=by unfold dB at h;have h2:=ee.mp h;let(hl,g,_):=h2;rw[gu]at hl;rw[List.getElem_zip]at g;simp only[af,a8]at g;rw[ar (!0),g.1]
def afz{g:AU}{b:AA}{n:Nat}(h:dN g b=-n):b[n]?=-42:=by
 unfold dN at h;split at h
 .split at h
  .exact afy h
  .cases h
 .cases h
def uy{b:AA}{n c:Nat}{G:DH}{k:AT}{E:EK}(h:n<b⁻¹)(hl:b⁻¹<=1000)(g:k (.str (b.set n c)) G):(bc ie).t [.str b,.int n,.str [c]] G k E:=
 fj (by
  unfold ie;dsimp only;rw[if_pos (by simp only[af,ce];lia),b3]) g
def afA (Z:aj) (n:Nat) (h0:Z "grown"=fU n) (h1:Z "first_touching"=n6) (h2:Z "splitting_place"=uw) (h3:Z "with_sign"=bc ie) (ds:AS) (G:DH) (h:Kp (n+1) ds G):az Z j8 noE (env0 ds 4) G (ends (Kq ds G)):=by
 let(w,name,g,b,rfl,hg,hb,hs):=h;have hw:=hg.w1000;simp_all_arith[j8];nofun;simp_arith![ends];show ForG.inv (P:=λi Y G'=>(∃o3 o4 o5 o6,Y=[-(.str name),-(.lst (fG g)),-(.str b),o3,o4,o5,o6])/\G'=G/\∀O∈g.take i,dN O b=none) ⟨⟨_,_,_,_,rfl⟩,rfl,!2⟩ (λy y y y=>trivial) ?_ ?_
 .rintro i d Y G' hd ⟨⟨o3,o4,o5,o6,rfl⟩,rfl,q⟩ kk hk;unfold fG at hd;rw[aS]at hd;let(O,L,rfl):=aE.mp hd;simp_arith![ends];nofun;erw[h2];show afs (λr hr=>by rw[hg.form O (bv L) r hr,hb]) (!0) (hM _ _ (last ?_));cases hsp:dN O b with
  |none=>
   erw[aY];show hk _ _ ⟨⟨_,_,_,_,rfl⟩,rfl,λrs' U=>?_⟩;rw[d0,L]at U;rcases ba.mp U with h|h
   .exact q rs' h
   .have:rs'=O:=by simpa using h
    rw[this];exact hsp
  |some at'=>
   have N:=afz hsp;have hat:=(ah.mp N).1;simp_arith![aY];nofun;erw[h0,h3];show uy hat (!0) (z7 hg (by rw[eJ];exact hb) (by have:=kE N (show 48≠42 by decide);lia) λz hz=>hM _ _ (seq λM hM=>?_));erw[h0,h3];show uy hat (!0) (z7 hg (by rw[eJ];exact hb) (by have:=kE N (show 49≠42 by decide);lia) λo ho=>hM _ _ (last ?_));erw[ends];exact⟨!1,rfl,name,g,b,rfl,.node b at' z o N hz ho⟩
 .rintro Y G' ⟨⟨o3,o4,o5,o6,rfl⟩,rfl,q⟩;have J:(fG g)⁻¹=g⁻¹:=ae _;rw[J,dQ]at q;have hrl:=hg.len;show hM _ _ ?_;erw[h1];show⟨!1,CompG.inv (P:=λi acc Y G''=>(∃o,Y=[o,-(.str b)])/\G''=G'/\acc=(g.take i).map λO=>aY (bZ O b)) ⟨⟨_,rfl⟩,rfl,rfl⟩ (λy y y y y=>trivial) (by rw[J];bv_omega) ?_ ?_⟩
  .rintro i d acc Y G'' hd ⟨⟨o,rfl⟩,rfl,rfl⟩ kk hk;unfold fG at hd;rw[aS]at hd;let(O,L,rfl):=aE.mp hd;erw[h1];show Kh (λr hr=>by rw[hg.form O (bv L) r hr];lia) (hk _ _ _ ⟨⟨_,rfl⟩,rfl,?_⟩);rw[d0,L];simp
  .rintro acc Y G'' ⟨_,rfl,rfl⟩;rw[J,dQ];erw[ae];exact⟨by bv_omega,rfl,name,g,b,rfl,.leaf b q⟩
def afB(ds:AS)(G:DH)(a:(fU 0).A):¬(fU 0).pre ds G a:=λzZ=>by let(_,_,_,_,_,_,_,_,h):=zZ;lia
def afC(w:Nat):stc (List.replicate w 42)<=w:=by have:=List.countP_le_length (p:=(·==42)) (l:=List.replicate w 42);rw[cb]at this;exact this
def Kr:∀{f b w:AA},cU f b=none->(∀s∈w,s=48\/s=49)->Fits b w->dz f w=true->False
 |[],b,w,h,_,_,_=>by cases b<;>cases h
 |a::f,[],w,h,_,_,_=>by cases h
 |a::f,c::b,[],h,_,hf,_=>by have:=hf.1;simp at this
 |a::f,c::b,s::w,h,hw,hf,hz=>by
  rw[dz,af]at hz;have hs:=hf.2 0 c s rfl rfl;have g:Fits b w:=⟨by have:=hf.1;simpa using this,λi q s' h1 h2=>hf.2 (i+1) q s' (!!h1) (!!h2)⟩;unfold cU at h;cases h1:fB a c with
  |some x=>
   rw[h1]at h;simp only[Option.map_eq_none_iff]at h;exact Kr h (λs hs=>hw s (bm _ hs)) g hz.2
  |none=>
   unfold fB at h1;split at h1
   .cases h1
   .split at h1
    .cases h1
    .rename_i z hc;have h2:=(Ka (hw s a9)).mp hz.1;unfold alt at hs h2;rw[if_neg z]at h2;have es:s=a:=by simpa using h2
     split at hs
     .rename_i e;exact hc (.inl e)
     .have:s=c:=by simpa using hs
      exact hc (.inr (!0))
def Ks:∀{f b w:AA},f⁻¹=b⁻¹->(cU f b).isSome=true->dB f b=none->(∀s∈w,s=48\/s=49)->Fits b w->dz f w=true
 |[],b,w,_,_,_,_,_=>rfl
 |a::f,[],w,h,_,_,_,_=>by simp at h
 |a::f,c::b,[],_,_,_,_,hf=>rfl
 |a::f,c::b,s::w,hl,hb,hs,hw,hf=>by
  have g:=hf.2 0 c s rfl rfl;have J:Fits b w:=⟨by have:=hf.1;simpa using this,λi N s' h1 h2=>hf.2 (i+1) N s' (!!h1) (!!h2)⟩;unfold dB at hs;rw[List.zip_cons_cons,eS]at hs;split at hs
  .cases hs
  .rename_i L;have M:dB f b=none:=by unfold dB;simpa using hs
   unfold cU at hb;cases h1:fB a c with
   |none=>rw[h1]at hb;cases hb
   |some x=>
    rw[h1]at hb;have z:(cU f b).isSome=true:=by simpa using hb
    rw[dz,af];show⟨?_,Ks (!!hl) z M (λs hs=>hw s (bm _ hs)) J⟩;rw[Ka (hw s a9)];by_cases q:a=42
    .unfold alt;rw[if_pos q];rcases hw s a9 with e|e<;>simp[e]
    .have hc:c≠42:=by
      rintro rfl;exact L (by simp[q])
     unfold alt at g ⊢;rw[if_neg hc]at g;rw[if_neg q];unfold fB at h1;rw[if_neg q]at h1;split at h1
     .rename_i h2;rcases h2 with h2|h2
      .exact absurd h2 hc
      .rw[<-h2];exact g
     .cases h1
def afD{g:AU}{b l:AA}(O:∀r∈g,r.1⁻¹=b⁻¹)(hs:dN g b=none)(hl:∀s∈l,s=48\/s=49)(J:Fits b l):bw g l=bZ g b:=by
 have no:∀r∈g,(cU r.1 b).isSome=false->gY r.1 l=false:=by
  intro r L h;cases e:gY r.1 l with
  |false=>rfl
  |true=>
   unfold gY at e;rw[af]at e;exact(Kr (!!h) hl J e.2).elim
 cases z:bZ g b with
 |none=>
  unfold bZ at z;unfold bw;rw[List.findIdx?_eq_none_iff]at z ⊢;exact λr L=>no r L (by simpa using z r L)
 |some n=>
  have hn:=ux z;have N:=ee.mp z;let(_,Y,t2):=N;unfold bw;rw[ee];show⟨hn,?_,λj U=>?_⟩
  .have M:dB g[n].1 b=none:=by
    unfold dN at hs;rw[z]at hs;simpa [hn] using hs
   have q:=O g[n] (cq _);unfold gY;rw[af];exact⟨bo (by rw[q,J.1]),Ks q Y M hl J⟩
  .have:=no g[j] (cq _) (by simpa using t2 j U);simp[this]
def afE{f w:AA}{i a b:Nat}(h:(f.zip w)[i]?=-(a,b)):dz (f.drop i) (w.drop i)=(nY a b&&dz (f.drop (i+1)) (w.drop (i+1))):=by
 have g:=ah.mp h;let(hl,he):=g;rw[gu]at hl;have h1:i<f⁻¹:=by lia
 have h2:i<w⁻¹:=by lia
 rw[List.getElem_zip]at he;rw[bn h1,bn h2];simp only[Prod.mk.injEq]at he;rw[he.1,he.2];rfl
def afF{f w:AA}:dz (f.drop (f.zip w)⁻¹) (w.drop (f.zip w)⁻¹)=true:=by
 rw[gu];by_cases h:f⁻¹<=w⁻¹
 .rw[Nat.min_eq_left h,d6];rfl
 .rw[Nat.min_eq_right (!0),d6];cases f.drop w⁻¹<;>rfl
def n8:AS->Option D
 |[.str f,.str w]=>-(.bl (dz f w))
 |_=>none
def afG(Z:aj)(ds:AS)(G:DH)(d:D)(h:n8 ds=-d):az Z zj noE (env0 ds 2) G (ends λd' q=>q=G/\d'=d):=by
 unfold n8 at h;split at h
 .rename_i f w;cases h;simp_all_arith[zj];nofun;simp_arith![zZ];show ForG.inv (P:=λi Y q=>(∃L M,Y=[-(.str f),-(.str w),L,M])/\q=G/\dz f w=dz (f.drop i) (w.drop i)) ⟨⟨_,_,rfl⟩,rfl,!2⟩ (λy y y y=>trivial) ?_ ?_
  .rintro i d Y q N ⟨⟨L,M,rfl⟩,rfl,g⟩ U O;rw[aS]at N;let((a,b),J,rfl):=aE.mp N;rw[afE J]at g;unfold nY at g;simp_arith![ends];show last ?_;erw[gZ];cases z:(a==42) with
   |true=>
    erw[ends];exact O _ _ ⟨⟨_,_,rfl⟩,rfl,by rw[g,z];rfl⟩
   |false=>
    erw[gZ];cases hs:(a==b) with
    |true=>
     erw[ends];exact O _ _ ⟨⟨_,_,rfl⟩,rfl,by rw[g,hs];simp⟩
    |false=>
     erw[ends];rw[g,z,hs];simp
  .rintro Y q ⟨⟨L,M,rfl⟩,rfl,g⟩;rw[ae,afF]at g;show hM _ _ ?_;erw[g]
 .cases h
def afH{f l:AA}(h:f⁻¹=l⁻¹):gY f l=dz f l:=by unfold gY;rw[bo h];rfl
def uz:RF.Spec:=bT (A:=Nat×AU×AA) (λa=>[aq a.1 a.2.1,.str a.2.2]) (λa=>∀r∈a.2.1,r.1⁻¹=a.2.2⁻¹) (λa=>aY (bw a.2.1 a.2.2))
def afI{w:Nat}{g:AU}{l:AA}{G:DH}{k:AT}{E:EK}(h:∀r∈g,r.1⁻¹=l⁻¹)(q:k (aY (bw g l)) G):uz.t [aq w g,.str l] G k E:=cj (w,g,l) rfl h q
def afJ (Z:aj) (h1:Z "_law_fits"=bc n8) (a:Nat×AU×AA) (G:DH) (h:∀r∈a.2.1,r.1⁻¹=a.2.2⁻¹):
  az Z zm noE (env0 [aq a.1 a.2.1,.str a.2.2] 2) G (ends λd G'=>G'=G/\d=aY (bw a.2.1 a.2.2)):=by
 let(w,rs,l):=a;dsimp only at h ⊢;simp_all_arith[zm];nofun;simp_arith![aq];show ForG.inv (P:=λi Y G'=>(∃o2 o3,Y=[-(.tup [.int w,.tup (rs.map aM)]),-(.str l),o2,o3])/\G'=G/\bw rs l=(bw (rs.drop i) l).map (·+i)) ⟨⟨_,_,rfl⟩,rfl,!2⟩ (λz z z z=>trivial) ?_ ?_
 .rintro i d Y G' hd ⟨⟨o2,o3,rfl⟩,rfl,hmet⟩ kk hk;rw[jW]at hd;let(d',hd',rfl):=aE.mp hd;rw[aS]at hd';let(r,hr,rfl):=aE.mp hd';rw[ae9 hr,afH (h r (bv hr))]at hmet;simp_arith![ends];show last ?_;erw[h1,aM];show fj (d:=.bl (dz r.1 l)) rfl ?_;erw[ends];cases hf:dz r.1 l with
  |true=>
   rw[hf,if_pos rfl]at hmet;rw[hmet];simp[aY]
  |false=>
   rw[hf,if_neg bg]at hmet;show hk _ _ ⟨⟨_,_,rfl⟩,rfl,?_⟩;rw[hmet,Option.map_map];congr 1;funext n;simp;lia
 .rintro Y G' ⟨⟨o2,o3,rfl⟩,rfl,hmet⟩;rw[jV,ae,d6]at hmet;show hM _ _ ?_;erw[ends];rw[hmet];rfl
def uA(name:AA)(g:List (AU))(b:AA):D:=.tup (.str name::g.map λq=>aY (bZ q b))
def oh(name:AA)(g:List (AU))(b:AA):D:=.tup [.str b,uA name g b]
inductive Lv (name:AA) (rss:List (AU)):AA->D->List (AA)->Prop
 |leaf (b:AA) (h:∀rs∈rss,dN rs b=none):Lv name rss b (uA name rss b) [b]
 |node (b:AA) (n:Nat) (z o:D) (l m:List (AA)) (h:b[n]?=some 42) (hz:Lv name rss (b.set n 48) z l) (ho:Lv name rss (b.set n 49) o m):Lv name rss b (.tup [.str km,.int n,z,o]) (l++m)
def Gr.lv{name:AA}{g:List (AU)}{b:AA}{d:D}(h:Gr name g b d):∃bs,Lv name g b d bs:=by
 induction h with
 |leaf b h=>exact⟨_,.leaf b h⟩
 |node b n z o h _ _ L J=>
  let(l,hl):=L;let(m,q):=J;exact⟨_,.node b n z o l m h hl q⟩
def Lv.len{name:AA}{g:List (AU)}{b:AA}{d:D}{bs:List (AA)}(h:Lv name g b d bs):bs⁻¹<=2 ^ stc b:=by
 induction h with
 |leaf b h=>exact Nat.one_le_two_pow
 |node b n z o l m h _ _ N L=>
  have q:=kE h (show 48≠42 by decide);have M:=kE h (show 49≠42 by decide);rw[<-q,Nat.pow_succ,ax];have J:stc (b.set n 49)=stc (b.set n 48):=by lia
  rw[J]at L;lia
def Lv.len'{name:AA}{g:List (AU)}{b:AA}{d:D}{bs:List (AA)}(h:Lv name g b d bs)(q:b⁻¹<=12):bs⁻¹<=4096:=by
 have h1:=h.len;have h2:stc b<=12:=b5 (List.countP_le_length) q;have z:=fo (show 0<2 by decide) h2;have J:2 ^ 12=4096:=by decide
 lia
def Lv.box{name:AA}{g:List (AU)}{b:AA}{d:D}{bs:List (AA)}(h:Lv name g b d bs):∀c∈bs,c⁻¹=b⁻¹/\∀L∈g,dN L c=none:=by
 induction h with
 |leaf b h=>intro c hc;rw[al.mp hc];exact⟨rfl,h⟩
 |node b n z o l m h _ _ J q=>
  intro c hc;rcases ba.mp hc with hc|hc
  .have:=J c hc;rw[eJ]at this;exact this
  .have:=q c hc;rw[eJ]at this;exact this
def Lv.okf{w:Nat}{name:AA}{q:List (AU)}{b:AA}{d:D}{bs:List (AA)}(h:Lv name q b d bs):okF w b->∀c∈bs,okF w c:=by
 induction h with
 |leaf b h=>intro g c hc;rw[al.mp hc];exact g
 |node b n z o l m h _ _ L J=>
  intro g c hc;rcases ba.mp hc with hc|hc
  .exact L (Ko g afv) c hc
  .exact J (Ko g afw) c hc
def afK{w:Nat}{f l:AA}(h:okF w f)(q:Fits f l):∀s∈l,s=48\/s=49:=by
 intro s hs;let(i,hi,rfl):=List.getElem_of_mem hs;have g:i<f⁻¹:=by rw[q.1];exact hi
 have:=q.2 i f[i] l[i] (by simp[g]) (by simp[hi]);rcases h.2 f[i] (cq _) with e|e|e<;>rw[e]at this<;>simp[alt]at this<;>lia
def isPlace(m:Int):D->Bool
 |.int i=>decide (0<=i)&&decide (i<m)
 |_=>false
def jl:AS->Option D
 |[.int m,x]=>if nr x then some (.bl (isPlace m x)) else none
 |_=>none
def afL (Z:aj) (h1:Z "is_whole"=bc jh) (ds:AS) (G:DH) (d:D) (h:jl ds=-d):az Z mY noE (env0 ds 0) G (ends λd' q=>q=G/\d'=d):=by
 unfold jl at h;split at h
 .rename_i m x;split at h
  .rename_i g;cases h;have z:jh [x]=-(.bl (whole x)):=if_pos g;erw[mY,h1];show fj z ?_;cases x<;>first | (simp[nr]at g;done) | (erw[whole,isPlace];first | (simp;done)|skip)
   rename_i i;cases hi:decide (0<=i) with
   |true=>simp
   |false=>simp
  .cases h
 .cases h
def gr:AS->Option D
 |[.str name,.int many,.tup (.str s::r)]=>-(.bl ((((r⁻¹+1:Nat):Int)==many+1)&&(s==name)))
 |_=>none
def afM(Z:aj)(ds:AS)(G:DH)(d:D)(h:gr ds=-d):az Z nu noE (env0 ds 0) G (ends λd' q=>q=G/\d'=d):=by
 unfold gr at h;split at h
 .rename_i name g s r;cases h;erw[nu];cases he:(((r⁻¹+1:Nat):Int)==g+1) with
  |false=>erw[Bool.false_and]
  |true=>erw[Bool.true_and]
 .cases h
def afN{name s:AA}{m:Int}{r:AS}{G:DH}{k:AT}{E:EK}(h:s≠name)(g:k (.bl false) G):(bc gr).t [.str name,.int m,.tup (.str s::r)] G k E:=
 fj (by unfold gr;dsimp only;rw[dy.mpr h,gS]) g
def afO{name:AA}{m:Int}{r:AS}{G:DH}{k:AT}{E:EK}(h:(r⁻¹:Int)=m)(g:k (.bl true) G):(bc gr).t [.str name,.int m,.tup (.str name::r)] G k E:=
 fj (by unfold gr;dsimp only;rw[BEq.rfl,Bool.and_true,a8.mpr (!0)]) g
def oI:Option Int->D
 |some i=>.int i
 |none=>.non
inductive T where
 |lf (r:List (Option Int))
 |sp (i:Int) (z o:T)
def T.d(name:AA):T->D
 |.lf r=>.tup (.str name::r.map oI)
 |.sp i z o=>.tup [.str km,.int i,z.d name,o.d name]
def T.dep:T->Nat
 |.lf _=>0
 |.sp _ z o=>max z.dep o.dep+1
def jm(b:AA)(i:Int):Bool:=decide (0<=i)&&b[i.toNat]?==-42
def T.lvs:T->AA->Option (List (AA×List (Option Int)))
 |.lf r,b=>-[(b,r)]
 |.sp i z o,b=>match jm b i with
  |true=>(match z.lvs (b.set i.toNat 48),o.lvs (b.set i.toNat 49) with|some l,-m=>-(l++m)|_,_=>none)
  |false=>none
def ou(name:AA)(x:AA×List (Option Int)):D:=.tup [.str x.1,.tup (.str name::x.2.map oI)]
def fH(name:AA):Option (List (AA×List (Option Int)))->D
 |none=>.non
 |some l=>.lst (l.map (ou name))
def T.lvs_len:∀(t:T){b:AA}{l:List (AA×List (Option Int))},t.lvs b=-l->l⁻¹<=2 ^ t.dep
 |.lf r,b,l,h=>by cases h;exact Nat.one_le_two_pow
 |.sp i z o,b,l,h=>by
  rw[T.lvs]at h;split at h
  .split at h
   .rename_i M N h1 h2;cases h;have g:=z.lvs_len h1;have q:=o.lvs_len h2;have J:=fo (show 0<2 by decide) (Nat.le_max_left z.dep o.dep);have L:=fo (show 0<2 by decide) (Nat.le_max_right z.dep o.dep);rw[ax,T.dep,Nat.pow_succ];lia
   .cases h
  .cases h
def T.lvs_len'{n:Nat}{t:T}{b:AA}{l:List (AA×List (Option Int))}(h:t.lvs b=-l)(hn:t.dep<n)(g:n<=12):l⁻¹<=4096:=by
 have h1:=t.lvs_len h;have q:=fo (show 0<2 by decide) (show t.dep<=12 by lia);have z:2 ^ 12=4096:=by decide
 lia
structure TA where
 name:AA
 b:AA
 t:T
def Ku(n:Nat)(a:TA):Prop:=a.name≠km/\a.b⁻¹<=12/\a.t.dep<n/\n<=12
def fJ(n:Nat):RF.Spec:=bT (λa:TA=>[.str a.b,a.t.d a.name]) (Ku n) (λa=>fH a.name (a.t.lvs a.b))
def z8{n:Nat}{name b:AA}{t:T}{G:DH}{k:AT}{E:EK}(h1:name≠km)(h2:b⁻¹<=12)(g:t.dep<n)(q:n<=12)(z:k (fH name (t.lvs b)) G):(fJ n).t [.str b,t.d name] G k E:=cj ⟨name,b,t⟩ rfl ⟨h1,h2,g,q⟩ z
def afP(ds:AS)(G:DH)(a:(fJ 0).A):¬(fJ 0).pre ds G a:=λzZ=>by let(_,_,_,_,h,_):=zZ;lia
def afQ{b:AA}{i:Int}(h:jm b i=true):0<=i/\∃n:Nat,i=n/\n<b⁻¹/\b[n]?=-42:=by
 unfold jm at h;rw[af]at h;have h1:=dS h.1;have h2:b[i.toNat]?=-42:=by simpa using h.2
 exact⟨h1,i.toNat,!0,(ah.mp h2).1,h2⟩
def afR (Z:aj) (n:Nat) (h0:Z "leaves"=fJ n) (h1:Z "is_named"=bc gr) (h2:Z "is_place"=bc jl) (h3:Z "with_sign"=bc ie) (a:TA) (G:DH) (h:Ku (n+1) a):az Z jf noE (env0 [.str a.b,a.t.d a.name] 3) G (ends λd G'=>G'=G/\d=fH a.name (a.t.lvs a.b)):=by
 let(name,b,t):=a;let(q,J,hd,hn):=h;dsimp only at q J hd ⊢;cases t with
 |lf r=>
  simp_all_arith[jf];nofun;erw[h1,T.d];show afN q ?_;erw[T.lvs,fH,ou];exact⟨!1,!1⟩
 |sp i z o=>
  rw[T.dep]at hd;simp_all_arith[jf];nofun;erw[h1,T.d];show afO rfl ?_;erw[ends];symm;erw[ends];symm;erw[h2];show fj (d:=.bl (isPlace b⁻¹ (.int i))) rfl ?_;cases g:jm b i with
  |false=>
   rw[T.lvs,g];cases N:isPlace b⁻¹ (.int i) with
   |false=>erw[fH]
   |true=>
    unfold isPlace at N;rw[af]at N;have p1:=dS N.1;have p2:=dS N.2;obtain⟨m,rfl⟩:∃m:Nat,i=m:=⟨i.toNat,!0⟩;have U:m<b⁻¹:=by lia
    have hc:b[m]?=-b[m]:=ar U;have L:((b[m]==42):Bool)=false:=by unfold jm at g;rw[bo (!0),Bool.true_and,b3,hc]at g;simpa using g
    erw[ends];show bW (a:=b[m]) (bL hc) ?_;erw[gZ,L,fH]
  |true=>
   let(_,m,rfl,U,hc):=afQ g;have N:isPlace b⁻¹ (.int (m:Int))=true:=by change(decide (0<=(m:Int))&&decide ((m:Int)<b⁻¹))=true;rw[bo (!0),bo (!0)];rfl
   have hl:(T.sp (m:Int) z o).lvs b=match z.lvs (b.set m 48),o.lvs (b.set m 49) with|some l,-m=>-(l++m)|_,_=>none:=by rw[T.lvs,g,b3]
   rw[N];erw[ends];show bW (a:=42) (bL hc) ?_;erw[BEq.rfl];symm;erw[h0,h3];show uy U (!0) (z8 q (by rw[eJ];exact J) (!0) (!0) (hM _ _ (seq λM hM=>?_)));erw[h0,h3];show uy U (!0) (z8 q (by rw[eJ];exact J) (!0) (!0) (hM _ _ (seq λM hM=>?_)));cases O:z.lvs (b.set m 48) with
   |none=>
    rw[O]at hl;erw[hl,fH]
   |some l1=>
    cases Y:o.lvs (b.set m 49) with
    |none=>
     rw[O,Y]at hl;erw[hl,fH]
    |some l2=>
     rw[O,Y]at hl;have q1:=T.lvs_len' O (n:=n) (!0) (!0);have q2:=T.lvs_len' Y (n:=n) (!0) (!0);erw[fH];ac_nf0;erw[ae,cf,hl,fH];bv_omega
def afS(o:Option Nat):aY o=oI (o.map λn=>(n:Int)):=by cases o<;>rfl
def kI(g:List (AU))(c:AA):List (Option Int):=g.map λq=>(bZ q c).map λn=>(n:Int)
def Kv{g:List (AU)}{c:AA}:(kI g c).map oI=g.map λq=>aY (bZ q c):=by unfold kI;rw[b6];exact b9 λq z=>(afS _).symm
def Lv.tree{name:AA}{g:List (AU)}{b:AA}{d:D}{bs:List (AA)}(h:Lv name g b d bs):∃t:T,d=t.d name/\t.dep<=stc b/\t.lvs b=-(bs.map λc=>(c,kI g c)):=by
 induction h with
 |leaf b h=>exact⟨.lf (kI g b),by rw[T.d,Kv];rfl,ck _,rfl⟩
 |node b n z o l m h _ _ U O=>
  let(J,rfl,L,M):=U;let(q,rfl,Y,N):=O;have s1:=kE h (show 48≠42 by decide);have s2:=kE h (show 49≠42 by decide);show⟨.sp n J q,rfl,?_,?_⟩
  .rw[T.dep];have:=Nat.max_le.mpr ⟨show J.dep<=stc (b.set n 48) from L,show q.dep<=stc (b.set n 48) by lia⟩;lia
  .have hs:jm b (n:Int)=true:=by unfold jm;rw[bo (!0),b3,h];rfl
   rw[T.lvs,hs,b3,M,N];simp
def afT{name:AA}{g:List (AU)}{c:AA}:ou name (c,kI g c)=oh name g c:=by unfold ou oh uA;rw[Kv]
def afU{n:Nat}{name:AA}{g:List (AU)}{b:AA}{d:D}{bs:List (AA)}{G:DH}{k:AT}{E:EK}(h:Lv name g b d bs)(h1:name≠km)(h2:b⁻¹<=12)(M:stc b<n)(J:k (.lst (bs.map (oh name g))) G)(z:n<=12:=by decide):(fJ n).t [.str b,d] G k E:=by
 let(t,rfl,L,q):=h.tree;show z8 h1 h2 (!0) z ?_;rw[q,fH,b6];have:(ou name∘λc=>(c,kI g c))=oh name g:=by funext c;exact afT
 rw[this];exact J
def gw:AA->List (AA)
 |[]=>[[]]
 |c::f=>(alt c).flatMap λs=>(gw f).map (s::·)
def Kw:∀(f:AA)(g:List (AA)),f.foldl step1 g=g.flatMap λt=>(gw f).map (t ++ ·)
 |[],g=>by simp[gw]
 |c::f,g=>by
  rw[ft,Kw f,step1,List.flatMap_assoc];congr 1;funext t;rw[gw,List.flatMap_map,List.map_flatMap];congr 1;funext s;rw[b6];congr 1;funext x;simp
def afV(f:AA):bD f=gw f:=by unfold bD;rw[Kw];simp
def afW{w:Nat}{G:DH}{k:AT}{E:EK}(h:w<=1000)(g:k (.str (List.replicate w 42)) G):(bc jk).t [.int w] G k E:=
 fj (d:=.str (List.replicate w 42)) (by unfold jk;dsimp only;rw[if_pos (by simp only[af,ce];lia),b3]) g
def cV(l:AA):AA:=l.map λa=>if a=42 then 48 else a
def kJ:AS->Option D
 |[.str l]=>if decide (l⁻¹<=1000) then some (.str (cV l)) else none
 |_=>none
def afX{l:AA}{G:DH}{k:AT}{E:EK}(h:l⁻¹<=1000)(g:k (.str (cV l)) G):(bc kJ).t [.str l] G k E:=fj (if_pos (bo h)) g
def afY{b l:AA}{n:Nat}(h:Fits b l)(hn:b[n]?=-42):Fits (b.set n 48) l\/Fits (b.set n 49) l:=by
 let(hl,he):=ah.mp hn;have q:n<l⁻¹:=by rw[<-h.1];exact hl
 have hs:=h.2 n 42 l[n] hn (ar q);have put:∀c,l[n]=c->c≠42->Fits (b.set n c) l:=by
  intro c hc g;show⟨by rw[eJ];exact h.1,λi x y z J=>?_⟩;rw[List.getElem?_set]at z;by_cases hi:n=i
  .subst hi;rw[if_pos rfl,if_pos hl]at z;rw[ar q]at J;cases z;cases J;unfold alt;rw[if_neg g,hc];simp
  .rw[if_neg hi]at z;exact h.2 i x y z J
 unfold alt at hs;rw[if_pos rfl]at hs;have:l[n]=48\/l[n]=49:=by simpa using hs
 rcases this with e|e
 .exact .inl (put 48 e (!1))
 .exact .inr (put 49 e (!1))
def Ky{b l:AA}{n c:Nat}(h:Fits (b.set n c) l)(hn:b[n]?=-42)(hc:c=48\/c=49):Fits b l:=by
 have hl:=(ah.mp hn).1;show⟨by have:=h.1;rwa [eJ]at this,λi x y g q=>?_⟩;by_cases hi:n=i
 .subst hi;rw[hn]at g;cases g;have:=h.2 n c y (by rw[List.getElem?_set,if_pos rfl,if_pos hl]) q;unfold alt at this ⊢;rw[if_neg (!0)]at this;rw[if_pos rfl];have e:y=c:=by simpa using this
  rw[e];simpa using hc
 .exact h.2 i x y (by rw[List.getElem?_set,if_neg hi];exact g) q
def Lv.cover{name:AA}{q:List (AU)}{b:AA}{d:D}{bs:List (AA)}(h:Lv name q b d bs):∀l,Fits b l->∃c∈bs,Fits c l:=by
 induction h with
 |leaf b h=>exact λl hl=>⟨b,!2,hl⟩
 |node b n z o l m h _ _ L J=>
  intro w hw;rcases afY hw h with e|e
  .let(c,hc,g):=L w e;exact⟨c,ba.mpr (.inl hc),g⟩
  .let(c,hc,g):=J w e;exact⟨c,ba.mpr (.inr hc),g⟩
def Lv.within{name:AA}{g:List (AU)}{b:AA}{d:D}{bs:List (AA)}(h:Lv name g b d bs):∀c∈bs,∀l,Fits c l->Fits b l:=by
 induction h with
 |leaf b h=>intro c hc l hl;rw[al.mp hc]at hl;exact hl
 |node b n z o l m h _ _ J q=>
  intro c hc w hw;rcases ba.mp hc with hc|hc
  .exact Ky (J c hc w hw) h (.inl rfl)
  .exact Ky (q c hc w hw) h (.inr rfl)
def afZ{a s:Nat}{f l:AA}(h:Fits (a::f) (s::l)):s∈alt a/\Fits f l:=
 ⟨h.2 0 a s rfl rfl,by have:=h.1;simpa using this,λi c t h1 h2=>h.2 (i+1) c t (!!h1) (!!h2)⟩
def af0{a s:Nat}{f l:AA}(h1:s∈alt a)(h2:Fits f l):Fits (a::f) (s::l):=⟨by simp[h2.1],λi c t hc g=>by
 cases i with
 |zero=>simp at hc g;rw[<-hc,<-g];exact h1
 |succ i=>exact h2.2 i c t (!!hc) (!!g)⟩
def z9:∀c:AA,Fits c (cV c)
 |[]=>⟨rfl,λi c s h=>by simp at h⟩
 |a::c=>by
  change Fits (a::c) ((if a=42 then 48 else a)::cV c);show af0 ?_ (z9 c);unfold alt;split<;>simp
def Kz:∀{c l:AA},Fits c l->¬l<cV c
 |[],l,h=>by
  have:l=[]:=cw.mp h.1.symm;subst this;exact List.lt_irrefl _
 |a::c,[],h=>by have:=h.1;simp at this
 |a::c,s::l,h=>by
  let(h1,h2):=afZ h;change¬(s::l)<((if a=42 then 48 else a)::cV c);rw[gV];have g:=Kz h2;unfold alt at h1;split at h1
  .rename_i e;rw[if_pos e];have:s=48\/s=49:=by simpa using h1
   rintro(q|q)
   .omega
   .exact g q.2
  .rename_i e;rw[if_neg e];have:s=a:=by simpa using h1
   rintro(q|q)
   .omega
   .exact g q.2
def KC:∀{x m a:AA},x<m->¬a<m->x<a
 |x,[],a,h,_=>absurd h (!2)
 |x,b::m,[],_,h=>absurd (!2) h
 |[],b::m,y::a,_,_=>by simp
 |c::x,b::m,y::a,h,g=>by
  rw[gV]at h g ⊢;have q:¬y<b:=λe=>g (.inl e);rcases h with h|⟨h1,h2⟩
  .exact .inl (!0)
  .by_cases e:y=b
   .exact .inr ⟨!0,KC h2 λz=>g (.inr ⟨e,z⟩)⟩
   .exact .inl (!0)
def KD:∀f:AA,(gw f).Pairwise (· < ·)
 |[]=>by simp[gw]
 |c::f=>by
  have z:=KD f;have one:∀s:Nat,((gw f).map (s::·)).Pairwise (· < ·):=λs=>List.pairwise_map.mpr (z.imp λh=>gV.mpr (.inr ⟨rfl,h⟩));rw[gw];unfold alt;split
  .rw[gI,gI,List.flatMap_nil,dL,List.pairwise_append];show⟨one 48,one 49,λa g b q=>?_⟩;let(x,_,rfl):=aT.mp g;let(y,_,rfl):=aT.mp q;exact gV.mpr (.inl (!1))
  .rw[gI,List.flatMap_nil,dL];exact one c
def af1{u:List (AA)}{m:AA}(h:u.Pairwise (· < ·))(g:m∈u)(hl:∀x∈u,¬x<m):u.head?=-m:=by
 cases u with
 |nil=>cases g
 |cons a u=>
  rcases br.mp g with e|g
  .rw[e];rfl
  .exact absurd ((List.pairwise_cons.mp h).1 m g) (hl a a9)
def af2{ds:AS}{g:List (AA)}{k:D->Prop}(h0:aZ ds=none)(h:bC ds=-g)(q:∀m,m∈g->(∀a,a∈g->¬a<m)->k (.str m)):opB .min [.lst ds] k:=by change lJ [.lst ds] k;unfold lJ;dsimp only;rw[h0,h];exact q
def KH:AA:=[115,97,109,101]
def KJ:AA:=[112,97,114,116,101,100]
def KN:AA:=[97,108,105,107,101]
def uB:RF.Spec:=bT (λa:Nat×AU×AU=>[aq a.1 a.2.1,aq a.1 a.2.2]) (λa=>okB a.1 a.2.1/\okB a.1 a.2.2) (λz=>.non)
def af3{w:Nat}{g q:AU}{G:DH}{k:AT}{E:EK}(h:okB w g)(h':okB w q)(z:k .non G):uB.t [aq w g,aq w q] G k E:=cj (w,g,q) rfl ⟨h,h'⟩ z
def af4 (Z:aj) (h1:Z "need_book"=kh) (a:Nat×AU×AU) (G:DH) (h:okB a.1 a.2.1/\okB a.1 a.2.2):az Z nA noE (env0 [aq a.1 a.2.1,aq a.1 a.2.2] 0) G (ends λd q=>q=G/\d=.non):=by let(w,z,J):=a;let(g,hc):=h;dsimp only at g hc ⊢;simp_all_arith[nA];nofun;erw[h1];show ut g (hM _ _ (seq λM hM=>?_));erw[h1];show ut hc (hM _ _ (last ?_));erw[aq,BEq.rfl,and_self]
def bu(g:AU)(o:Option Nat):Option (AA):=o.bind λn=>g[n]?.map (·.2)
def KQ{g:AU}{o:Option Nat}:kj g o=bU (bu g o):=by
 cases o with
 |none=>rfl
 |some n=>
  unfold kj bu;dsimp only[Option.bind];cases g[n]?<;>rfl
structure SD where
 w:Nat
 rs:AU
 ss:AU
 name:AA
 o:Option Nat
 p:Option Nat
def sSD:RF.Spec:=bT (λa:SD=>[aq a.w a.rs,aq a.w a.ss,.tup [.str a.name,aY a.o,aY a.p]]) (λa=>(∀n,a.o=-n->n<a.rs⁻¹)/\∀n,a.p=-n->n<a.ss⁻¹) (λa=>.bl (bu a.rs a.o==bu a.ss a.p))
def af5{w:Nat}{g q:AU}{name:AA}{o p:Option Nat}{G:DH}{k:AT}{E:EK}(h1:∀n,o=-n->n<g⁻¹)(h2:∀n,p=-n->n<q⁻¹)(z:k (.bl (bu g o==bu q p)) G):sSD.t [aq w g,aq w q,.tup [.str name,aY o,aY p]] G k E:=cj ⟨w,g,q,name,o,p⟩ rfl ⟨h1,h2⟩ z
def af6 (Z:aj) (h1:Z "deed_of"=uv) (a:SD) (G:DH) (h:(∀n,a.o=-n->n<a.rs⁻¹)/\∀n,a.p=-n->n<a.ss⁻¹):az Z nF noE (env0 [aq a.w a.rs,aq a.w a.ss,.tup [.str a.name,aY a.o,aY a.p]] 0) G (ends λd z=>z=G/\d=.bl (bu a.rs a.o==bu a.ss a.p)):=by let(w,J,L,name,o,p):=a;let(g,q):=h;dsimp only at g q ⊢;erw[nF,h1];show Kd g (Kd q ?_);rw[KQ,KQ];cases bu J o<;>cases bu L p<;>erw[bU]<;>first|done | (simp;done) | (show⟨!1,?_⟩;simp;done)
def dC(w:Nat)(g q:AU):List (AA):=(bD (List.replicate w 42)).filter λl=>!(bu g (bw g l)==bu q (bw q l))
def fK(g q:AU)(c:AA):Bool:=bu g (bZ g c)==bu q (bZ q c)
def Aa(w:Nat)(g q:AU)(d:D):Prop:=
 (∃m,(dC w g q).head?=-m/\d=.tup [.str KJ,.str m])\/(dC w g q=[]/\∃t bs,d=.tup [.str KN,t]/\Lv KH [g,q] (List.replicate w 42) t bs/\∀c∈bs,fK g q c=true)
def uC:RF.Spec:=ghS (A:=Nat×AU×AU) (λa ds z=>ds=[aq a.1 a.2.1,aq a.1 a.2.2]/\okB a.1 a.2.1/\okB a.1 a.2.2) (λa G d g=>g=G/\Aa a.1 a.2.1 a.2.2 d)
def af7{w:Nat}{g z:AU}{G:DH}{k:AT}{E:EK}(h:okB w g)(h':okB w z)(J:∀d,Aa w g z d->k d G):uC.t [aq w g,aq w z] G k E:=
 je (w,g,z) ⟨rfl,h,h'⟩ λd M L=>by
  let(e,q):=L;subst e;exact J d q
def af8 (Z:aj) (h1:Z "need_two_books"=uB) (h2:Z "grown"=fU 9) (h3:Z "leaves"=fJ 9) (h4:Z "least"=bc kJ) (h5:Z "stars"=bc jk) (h6:Z "same_deeds"=sSD) (a:Nat×AU×AU) (ds:AS) (G:DH) (h:ds=[aq a.1 a.2.1,aq a.1 a.2.2]/\okB a.1 a.2.1/\okB a.1 a.2.2):
  az Z nH noE (env0 ds 3) G (ends λd G'=>G'=G/\Aa a.1 a.2.1 a.2.2 d):=by
 let(w,g,q):=a;let(rfl,hb,hb'):=h;dsimp only at hb hb' ⊢;have hw6:=hb.w6;have hst:=afC w;have hrl:∀r∈g,r.1⁻¹=w:=λr J=>(hb.form r J).1;have hsl:∀r∈q,r.1⁻¹=w:=λr J=>(hb'.form r J).1;have e0:∀xs:AU,D.tup [.int w,.tup (xs.map aM)]=aq w xs:=λy=>rfl;simp_all_arith[nH];nofun;erw[h1];show af3 hb hb' (hM _ _ (seq λM hM=>?_));erw[aq,h5];show afW (!0) (hM _ _ (seq λM hM=>?_));erw[h2];have er:[D.tup (g.map aM),.tup (q.map aM)]=fG [g,q]:=rfl;rw[er];show⟨!1,z7 (name:=KH) ⟨!2,!1,λxs z r J=>?_,!0⟩ cb (!0) λt ht=>hM _ _ (seq λM hM=>?_)⟩
 .rcases br.mp z with e|z
  .rw[e]at J;exact hrl r J
  .rw[al.mp z]at J;exact hsl r J
 let(bs,U):=ht.lv;have hlen:=U.len' (by rw[cb];lia);erw[h3];show afU U (!1) (by rw[cb];lia) (!0) ?_;erw[ends];show CompG.inv (P:=λi acc Y G'=>(∃o1 o2,Y=[o1,o2,-(.tup [.int w,.tup (g.map aM)]),-(.tup [.int w,.tup (q.map aM)])])/\G'=G/\acc=((bs.take i).filter λc=>!fK g q c).map λc=>D.str (cV c)) ⟨⟨_,_,rfl⟩,rfl,rfl⟩ (λy y y y y=>trivial) (by rw[ae];bv_omega) ?_ ?_
 .rintro i d acc Y G' hd ⟨⟨o1,o2,rfl⟩,rfl,rfl⟩ kk hk;rw[aS]at hd;let(c,O,rfl):=aE.mp hd;have hcl:=(U.box c (bv O)).1;rw[cb]at hcl;have htk:bs.take (i+1)=bs.take i++[c]:=by rw[d0,O];rfl
  erw[oh,uA,h6];rw[e0,e0];show af5 (λn hn=>ux hn) (λn hn=>ux hn) ?_;have es:(bu g (bZ g c)==bu q (bZ q c))=fK g q c:=rfl;rw[es];cases hsb:fK g q c with
  |true=>
   erw[ends];exact hk _ _ _ ⟨⟨_,_,rfl⟩,rfl,by rw[htk,List.filter_append];simp[hsb]⟩
  |false=>
   erw[h4];show afX (!0) (hk _ _ _ ⟨⟨_,_,rfl⟩,rfl,by rw[htk,List.filter_append];simp[hsb]⟩)
 .rintro acc Y G' ⟨_,rfl,rfl⟩;rw[ae,dQ];symm;have meet:∀xs∈[g,q],∀c∈bs,∀l,Fits c l->bw xs l=bZ xs c:=by
   intro xs z c hc l hl;let(e1,e2):=U.box c hc;rw[cb]at e1;have okc:=U.okf (afe w) c hc;show afD (λr J=>?_) (e2 _ z) (afK okc hl) hl;rcases br.mp z with e|z
   .rw[e]at J;rw[hrl r J,e1]
   .rw[al.mp z]at J;rw[hsl r J,e1]
  have L:∀c∈bs,∀l,Fits c l->(bu g (bw g l)==bu q (bw q l))=fK g q c:=by intro c hc l hl;rw[meet g (!2) c hc l hl,meet q (!2) c hc l hl];rfl
  cases hfr:bs.filter λc=>!fK g q c with
  |nil=>
   have hall:∀c∈bs,fK g q c=true:=by
    intro c hc;have:=List.filter_eq_nil_iff.mp hfr c hc;cases h:fK g q c with
    |false=>rw[h]at this;exact absurd rfl this
    |true=>rfl
   erw[ends];ac_nf0;erw[ends];show⟨!1,.inr ⟨?_,t,bs,rfl,U,hall⟩⟩;unfold dC;rw[List.filter_eq_nil_iff];intro l hl;let(c,N,hfc):=U.cover l (nW.mp hl);rw[L c N l hfc,hall c N];simp
  |cons c0 cs=>
   have hne:(!(List.isEmpty (D.str (cV c0)::cs.map λc=>D.str (cV c))))=true:=rfl;erw[hne];rw[<-a7 (f:=λc=>D.str (cV c)),<-hfr];have es:bC ((bs.filter λc=>!fK g q c).map λc=>D.str (cV c))=-((bs.filter λc=>!fK g q c).map cV):=strs_map _ _;have ei:aZ ((bs.filter λc=>!fK g q c).map λc=>D.str (cV c))=none:=by rw[hfr];rfl
   show af2 ei es λm hm hlow=>?_;let(c,hcm,rfl):=aT.mp hm;let(O,hcn):=e9.mp hcm;show⟨!1,.inl ⟨cV c,?_,rfl⟩⟩;show af1 ?_ ?_ ?_
   .unfold dC;rw[afV];exact(KD _).filter _
   .unfold dC;rw[e9];show⟨nW.mpr (U.within c O _ (z9 c)),?_⟩;rw[L c O _ (z9 c)];exact hcn
   .intro x hx hlt;unfold dC at hx;let(hx1,hx2):=e9.mp hx;let(c',N,hfc):=U.cover x (nW.mp hx1);rw[L c' N x hfc]at hx2;have hlow':=hlow (cV c') (aT.mpr ⟨c',e9.mpr ⟨N,hx2⟩,rfl⟩);exact Kz hfc (KC hlt hlow')
def uD:RF.Spec:=bT (A:=Nat×AU×AA) (λa=>[aq a.1 a.2.1,.str a.2.2]) (λa=>∀r∈a.2.1,r.1⁻¹=a.2.2⁻¹) (λa=>bU (bu a.2.1 (bw a.2.1 a.2.2)))
def af9{w:Nat}{g:AU}{l:AA}{G:DH}{k:AT}{E:EK}(h:∀r∈g,r.1⁻¹=l⁻¹)(q:k (bU (bu g (bw g l))) G):uD.t [aq w g,.str l] G k E:=cj (w,g,l) rfl h q
def aga (Z:aj) (h1:Z "_law_met"=uz) (a:Nat×AU×AA) (G:DH) (h:∀r∈a.2.1,r.1⁻¹=a.2.2⁻¹):
  az Z zr noE (env0 [aq a.1 a.2.1,.str a.2.2] 1) G (ends λd z=>z=G/\d=bU (bu a.2.1 (bw a.2.1 a.2.2))):=by
 let(w,g,l):=a;dsimp only at h ⊢;simp_all_arith[zr];nofun;erw[h1];show afI h (hM _ _ (seq λM hM=>?_));cases q:bw g l with
 |none=>erw[aY,bu,Option.bind,bU,and_self]
 |some n=>
  have hn:=afa q;have hc:g[n]?=-g[n]:=ar hn;erw[aY];ac_nf0;erw[aq];show bW (a:=aM g[n]) (bL (by rw[aS,hc];rfl)) ?_;erw[aM];simp[bu,hc,q,bU]
def agb(a b:Option (AA)):deq (bU a) (bU b)=(a==b):=by cases a<;>cases b<;>simp[bU,deq]
def uE:RF.Spec:=bT (λa:Nat×AU×AU=>[aq a.1 a.2.1,aq a.1 a.2.2]) (λa=>okB a.1 a.2.1/\okB a.1 a.2.2) (λa=>bU (dC a.1 a.2.1 a.2.2).head?)
def agc{w:Nat}{g q:AU}{G:DH}{k:AT}{E:EK}(h:okB w g)(h':okB w q)(z:k (bU (dC w g q).head?) G):uE.t [aq w g,aq w q] G k E:=cj (w,g,q) rfl ⟨h,h'⟩ z
def agd (Z:aj) (h1:Z "alike"=uC) (a:Nat×AU×AU) (G:DH) (h:okB a.1 a.2.1/\okB a.1 a.2.2):az Z nJ noE (env0 [aq a.1 a.2.1,aq a.1 a.2.2] 2) G (ends λd J=>J=G/\d=bU (dC a.1 a.2.1 a.2.2).head?):=by
 let(w,O,U):=a;let(z,g):=h;dsimp only at z g ⊢;have L:(([97,108,105,107,101]==[112,97,114,116,101,100]):Bool)=false:=by decide
 simp_all_arith[nJ];nofun;erw[h1];show af7 z g λd N=>?_;rcases N with⟨m,M,rfl⟩|⟨q,t,bs,rfl,_,_⟩
 .erw[KJ];ac_nf0;erw[BEq.rfl,M,bU,and_self]
 .erw[KN];ac_nf0;erw[L,q,List.head?_nil,bU,and_self]
def age{g:Type}(l:List g)(n:Nat):cut l (-((n:Int)+2)) none=l.drop (n+2):=yN l (n+2)
def agf{g:AU}{n:Nat}(h:n<g⁻¹):(g.map aM)[n]?=-(aM (g.getD n ([],[]))):=by rw[aS,bP,ar h];rfl
def au(o:AA):D:=.tup (o.map λi:Nat=>D.int (i:Int))
def okO(n:Nat)(o:AA):Prop:=o.Perm (List.range n)
def okO.len{n:Nat}{o:AA}(h:okO n o):o⁻¹=n:=by rw[List.Perm.length_eq h,b4]
def okO.mem{n i:Nat}{o:AA}(h:okO n o)(hi:i∈o):i<n:=e6.mp ((List.Perm.mem_iff h).mp hi)
def oA(n:Nat):D.tup (aQ 0 n)=au (List.range n):=by unfold aQ au;congr 1;exact b9 (λ(i:Nat) z=>by rw[gL])
def aF(o:AA):List Int:=o.map λi:Nat=>(i:Int)
def Ab(o:AA):o.map (λi:Nat=>D.int (i:Int))=(aF o).map D.int:=by unfold aF;rw[b6];rfl
def uF(n:Nat):aQ 0 n=(aF (List.range n)).map D.int:=by have:=oA n;unfold au at this;rw[Ab]at this;exact D.tup.inj this
def fV:∀l:List Int,aZ (l.map D.int)=-l
 |[]=>rfl
 |a::l=>by rw[a7,aZ,fV l]
def agg:∀n:Fin 13,(aF (List.range n.1)).Pairwise (·<=·):=by decide
def KR:∀{a b:List Int},a.Perm b->a.Pairwise (·<=·)->b.Pairwise (·<=·)->a=b
 |[],b,h,_,_=>h.nil_eq
 |x::a,[],h,_,_=>absurd h.length_eq (!2)
 |x::a,y::b,h,ha,hb=>by
  rw[List.pairwise_cons]at ha hb;have h1:x∈y::b:=h.mem_iff.mp a9;have h2:y∈x::a:=h.mem_iff.mpr a9;have e:x=y:=by
   rcases br.mp h1 with e|m
   .exact e
   .rcases br.mp h2 with e|g
    .exact e.symm
    .have:=hb.1 x m;have:=ha.1 y g;lia
  subst e;rw[KR (List.perm_cons x |>.mp h) ha.2 hb.2]
def gA:∀l:List Int,nrs (l.map D.int)=true/\bf (l.map D.int)=0
 |[]=>⟨rfl,rfl⟩
 |a::l=>by
  let(h1,h2):=gA l;rw[a7,nrs,bf,h1,h2];exact⟨rfl,rfl⟩
def oE(o:AA):nr (au o)=true/\dpt (au o)<=1:=by unfold au;rw[Ab,nr,dpt,(gA _).1,(gA _).2];exact⟨rfl,av _⟩
def uG:RF.Spec:=bT (λa:Nat×AU=>[aq a.1 a.2]) (λa=>okB a.1 a.2) (λa=>au (List.range a.2⁻¹))
def agh{w:Nat}{g:AU}{G:DH}{k:AT}{E:EK}(h:okB w g)(q:k (au (List.range g⁻¹)) G):uG.t [aq w g] G k E:=cj (w,g) rfl h q
def agi(Z:aj)(a:Nat×AU)(G:DH)(h:okB a.1 a.2):az Z mK noE (env0 [aq a.1 a.2] 0) G (ends λd q=>q=G/\d=au (List.range a.2⁻¹)):=by let(w,z):=a;dsimp only at h ⊢;have g:=h.len;erw[mK,aq,ae,b3];exact⟨⟨!0,!0⟩,oA _⟩
def dTup(v:List Int):D:=.tup (v.map D.int)
def uH(o:AA):au o=dTup (aF o):=by unfold au dTup;rw[Ab]
def isO(n:Nat)(v:List Int):Bool:=v.isPerm (aF (List.range n))
def toO(v:List Int):AA:=v.map Int.toNat
def oF(o:AA):toO (aF o)=o:=by unfold toO aF;rw[b6];have e:(Int.toNat∘λi:Nat=>(i:Int))=id:=funext λi=>b3 i;rw[e,List.map_id]
def KY{n:Nat}{o:AA}(h:okO n o):isO n (aF o)=true:=List.isPerm_iff.mpr (List.Perm.map _ h)
def KZ{n:Nat}{v:List Int}(h:isO n v=true):okO n (toO v)/\v=aF (toO v):=by
 have h:=List.isPerm_iff.mp h;constructor
 .have:=List.Perm.map Int.toNat h;change(v.map Int.toNat).Perm _;rw[show(aF (List.range n)).map Int.toNat=List.range n from oF _]at this;exact this
 .unfold aF toO;rw[b6];conv=>lhs;rw[<-List.map_id v]
  show b9 λx g=>?_;have:=h.mem_iff.mp g;unfold aF at this;let(i,_,rfl):=aT.mp this;rfl
def uI:∀a b:List Int,bM (a.map D.int) (b.map D.int)=(a==b)
 |[],[]=>rfl
 |[],_::_=>rfl
 |_::_,[]=>rfl
 |x::a,y::b=>by
  rw[a7,a7,bM,uI a b];rfl
def K1{n:Nat}{v ns:List Int}(hn:n<=12)(g:ns.Perm v)(hs:ns.Pairwise (·<=·)):(ns==aF (List.range n))=isO n v:=by
 rw[d4,a8];unfold isO;rw[List.isPerm_iff];constructor
 .rintro rfl;exact g.symm
 .intro h;exact KR (g.trans h) hs (agg ⟨n,!0⟩)
def K3(n:Nat):D->D
 |.int i=>.bl (isPlace (n:Int) (.int i))
 |_=>.non
def agj{n:Nat}{v:List Int}(h:isO n v=true):v.all (λi=>isPlace (n:Int) (.int i))=true:=by let(h1,h2):=KZ h;rw[h2,bS];intro x g;unfold aF at g;let(i,hi,rfl):=aT.mp g;have:=h1.mem hi;change(decide (0<=(i:Int))&&decide ((i:Int)<(n:Int)))=true;rw[bo (!0),bo (!0)];rfl
def oG:RF.Spec:=bT (A:=Nat×AU×List Int) (λa=>[aq a.1 a.2.1,dTup a.2.2]) (λa=>okB a.1 a.2.1/\a.2.2⁻¹<=30) (λa=>.bl (isO a.2.1⁻¹ a.2.2))
def K4{w:Nat}{g:AU}{v:List Int}{G:DH}{k:AT}{E:EK}(h:okB w g)(z:v⁻¹<=30)(q:k (.bl (isO g⁻¹ v)) G):oG.t [aq w g,dTup v] G k E:=cj (w,g,v) rfl ⟨h,z⟩ q
def agk (Z:aj) (h1:Z "is_place"=bc jl) (a:Nat×AU×List Int) (G:DH) (h:okB a.1 a.2.1/\a.2.2⁻¹<=30):az Z mZ noE (env0 [aq a.1 a.2.1,dTup a.2.2] 1) G (ends λd N=>N=G/\d=.bl (isO a.2.1⁻¹ a.2.2)):=by
 let(w,g,v):=a;let(L,hv):=h;dsimp only at L hv ⊢;have M:=L.len;unfold dTup;simp_all_arith[mZ];nofun;erw[aq,ae];symm;erw[h1];show CompG.map (f:=K3 g⁻¹) (I:=λY=>∃o,Y=[o,-(.int (g⁻¹:Nat))]) ⟨_,rfl⟩ trivial (by rw[ae];bv_omega) ?_ ?_
 .rintro d Y hd ⟨o,rfl⟩ kk hk;let(i,hm,rfl):=aT.mp hd;erw[h1];show fj (show jl [.int (g⁻¹:Int),.int i]=-(.bl (isPlace (g⁻¹:Int) (.int i))) from rfl) ?_;exact hk _ ⟨_,rfl⟩
 .have U:(v.map D.int).map (K3 g⁻¹)=v.map λi=>D.bl (isPlace (g⁻¹:Int) (.int i)):=by rw[b6];rfl
  rw[U];have O:(v.map λi=>isPlace (g⁻¹:Int) (.int i)).all id=v.all λi=>isPlace (g⁻¹:Int) (.int i):=by rw[List.all_map];rfl
  erw[mF,O];cases z:v.all λi=>isPlace (g⁻¹:Int) (.int i) with
  |false=>
   have:isO g⁻¹ v=false:=by
    cases e:isO g⁻¹ v with
    |false=>rfl
    |true=>rw[agj e]at z;cases z
   erw[this,and_self]
  |true=>
   erw[ends];ac_nf0;erw[ends];show bW (fV _) ⟨!0,λns z hs=>?_⟩;have J:=gA ns;have q:=gA (aF (List.range g⁻¹));show⟨⟨!0,!0⟩,?_⟩;simp only[b3];rw[uF];show⟨⟨J.1,q.1,by rw[q.2];exact b5 (Nat.min_le_right _ _) (!1)⟩,?_⟩;rw[uI,K1 (!0) z hs]
def oH:RF.Spec:=bT (A:=Nat×AU×AA) (λa=>[aq a.1 a.2.1,au a.2.2]) (λa=>okB a.1 a.2.1/\okO a.2.1⁻¹ a.2.2) (λz=>.non)
def K5{w:Nat}{g:AU}{o:AA}{G:DH}{k:AT}{E:EK}(h:okB w g)(z:okO g⁻¹ o)(q:k .non G):oH.t [aq w g,au o] G k E:=cj (w,g,o) rfl ⟨h,z⟩ q
def agl (Z:aj) (h1:Z "is_order"=oG) (a:Nat×AU×AA) (G:DH) (h:okB a.1 a.2.1/\okO a.2.1⁻¹ a.2.2):az Z m6 noE (env0 [aq a.1 a.2.1,au a.2.2] 0) G (ends λd g=>g=G/\d=.non):=by erw[m6,h1,uH];show K4 h.1 (by have:=h.1.len;have:=h.2.len;unfold aF;rw[ae];lia) ?_;rw[KY h.2];erw[ends]
def uJ:RF.Spec:=bT (A:=Nat×AU) (λa=>[aq a.1 a.2]) (λa=>okB a.1 a.2/\a.1<=4/\a.2⁻¹<=5) (λz=>.non)
def agm{w:Nat}{g:AU}{G:DH}{k:AT}{E:EK}(h:okB w g)(q:w<=4)(z:g⁻¹<=5)(J:k .non G):uJ.t [aq w g] G k E:=cj (w,g) rfl ⟨h,q,z⟩ J
def agn (Z:aj) (h1:Z "need_book"=kh) (a:Nat×AU) (G:DH) (h:okB a.1 a.2/\a.1<=4/\a.2⁻¹<=5):az Z nO noE (env0 [aq a.1 a.2] 2) G (ends λd q=>q=G/\d=.non):=by let(w,L):=a;let(g,z,J):=h;dsimp only at g z J ⊢;simp_all_arith[nO];nofun;erw[h1];show ut g (hM _ _ (seq λM hM=>?_));erw[aq];ac_nf0;erw[ae,bq (show¬(5:Int)<(L⁻¹:Int) by lia),bq (show¬(4:Int)<(w:Int) by lia)]
def byR(g:AU)(o:AA):AU:=o.map λi=>g.getD i ([],[])
def Ac{w:Nat}{g:AU}{o:AA}(q:okB w g)(z:okO g⁻¹ o):okB w (byR g o):=by
 show q.sub ?_ λr J=>?_
 .unfold byR;rw[ae,z.len];first|exact q.len|exact av _
 .let(i,hi,rfl):=aT.mp J;have:=z.mem hi;rw[bP,ar this];exact cq _
def sBy:RF.Spec:=bT (A:=Nat×AU×AA) (λa=>[aq a.1 a.2.1,au a.2.2]) (λa=>okB a.1 a.2.1/\okO a.2.1⁻¹ a.2.2) (λa=>aq a.1 (byR a.2.1 a.2.2))
def Ad{w:Nat}{g:AU}{o:AA}{G:DH}{k:AT}{E:EK}(h:okB w g)(z:okO g⁻¹ o)(q:k (aq w (byR g o)) G):sBy.t [aq w g,au o] G k E:=cj (w,g,o) rfl ⟨h,z⟩ q
def K6{g:AU}{o:AA}{d:D}{n:Nat}(z:okO n o)(hn:g⁻¹=n)(q:d∈o.map λi:Nat=>D.int (i:Int)):∃i:Nat,d=.int (i:Int)/\atI (g.map aM) (i:Int)=-(aM (g.getD i ([],[]))):=by let(i,hi,rfl):=aT.mp q;exact⟨i,rfl,bL (agf (by rw[hn];exact z.mem hi))⟩
def Ae(g:AU):D->D
 |.int i=>aM (g.getD i.toNat ([],[]))
 |_=>.non
def K7(g:AU)(o:AA):(o.map λi:Nat=>D.int (i:Int)).map (Ae g)=(byR g o).map aM:=by unfold byR;rw[b6,b6];exact b9 λi z=>rfl
def ago (Z:aj) (h1:Z "need_book"=kh) (h2:Z "need_order"=oH) (a:Nat×AU×AA) (G:DH) (h:okB a.1 a.2.1/\okO a.2.1⁻¹ a.2.2):az Z m7 noE (env0 [aq a.1 a.2.1,au a.2.2] 2) G (ends λd L=>L=G/\d=aq a.1 (byR a.2.1 a.2.2)):=by
 let(w,J,o):=a;let(g,q):=h;dsimp only at g q ⊢;have z:=g.len;have U:=q.len;simp_all_arith[m7];nofun;erw[h1];show ut g (hM _ _ (seq λM hM=>?_));erw[h2];show K5 g q (hM _ _ (seq λM hM=>?_));erw[aq];ac_nf0;erw[au];show CompG.map (f:=Ae J) (I:=λY=>∃o,Y=[o,-(.tup (J.map aM))]) ⟨_,rfl⟩ trivial (by rw[ae];bv_omega) ?_ ?_
 .rintro d Y N ⟨o',rfl⟩ kk O;let(i,rfl,e):=K6 q rfl N;erw[ends];exact bW e (O _ ⟨_,rfl⟩)
 .rw[K7];erw[ends];exact⟨!1,rfl⟩
def agp(Z:aj)(a:Nat×AU×AA)(G:DH)(h:okB a.1 a.2.1/\okO a.2.1⁻¹ a.2.2):az Z zy noE (env0 [aq a.1 a.2.1,au a.2.2] 0) G (ends λd L=>L=G/\d=aq a.1 (byR a.2.1 a.2.2)):=by
 let(w,J,o):=a;let(q,g):=h;dsimp only at q g ⊢;have z:=q.len;have O:=g.len;simp_all_arith[zy,aq];show last ?_;erw[au];show CompG.map (f:=Ae J) (I:=λY=>∃o,Y=[o,-(.tup [.int w,.tup (J.map aM)])]) ⟨_,rfl⟩ trivial (by rw[ae];bv_omega) ?_ ?_
 .rintro d Y M ⟨o',rfl⟩ U N;let(i,rfl,e):=K6 g rfl M;erw[ends];exact bW e (N _ ⟨_,rfl⟩)
 .rw[K7];erw[ends];decide
def good(w:Nat)(g:AU)(o:AA):Bool:=(dC w g (byR g o)).isEmpty
def uK:RF.Spec:=bT (A:=Nat×AU×AA) (λa=>[aq a.1 a.2.1,au a.2.2]) (λa=>okB a.1 a.2.1/\okO a.2.1⁻¹ a.2.2) (λa=>.bl (good a.1 a.2.1 a.2.2))
def agq{w:Nat}{g:AU}{o:AA}{G:DH}{k:AT}{E:EK}(h:okB w g)(z:okO g⁻¹ o)(q:k (.bl (good w g o)) G):uK.t [aq w g,au o] G k E:=cj (w,g,o) rfl ⟨h,z⟩ q
def agr (Z:aj) (h1:Z "parting_word"=uE) (h2:Z "by_order"=sBy) (a:Nat×AU×AA) (G:DH) (h:okB a.1 a.2.1/\okO a.2.1⁻¹ a.2.2):az Z nM noE (env0 [aq a.1 a.2.1,au a.2.2] 0) G (ends λd J=>J=G/\d=.bl (good a.1 a.2.1 a.2.2)):=by let(w,z,o):=a;let(g,q):=h;dsimp only at g q ⊢;erw[nM,h1,h2];show Ad g q (agc g (Ac g q) ?_);unfold good;cases dC w z (byR z o)<;>erw[List.head?_nil,List.head?_cons,bU,List.isEmpty_nil,List.isEmpty_cons]
def aU(o:AA)(n:Nat):AA:=o.take n++[o.getD (n+1) 0,o.getD n 0]++o.drop (n+2)
def ags{l:AA}{n:Nat}(h:n+1<l⁻¹):l=l.take n++(l.getD n 0::l.getD (n+1) 0::l.drop (n+2)):=by
 have e:l.drop n=l.getD n 0::l.getD (n+1) 0::l.drop (n+2):=by rw[bn (show n<l⁻¹ by lia),bn h,bP,bP,ar (show n<l⁻¹ by lia),ar h];rfl
 rw[<-e,List.take_append_drop]
def Af{m n:Nat}{o:AA}(g:okO m o)(h:n+1<m):okO m (aU o n):=by
 have hl:n+1<o⁻¹:=by rw[g.len];exact h
 show List.Perm.trans ?_ g;conv=>rhs;rw[ags hl]
 unfold aU;rw[fq];exact List.Perm.append_left _ (List.Perm.swap _ _ _)
def ig:RF.Spec:=bT (A:=AA×Nat) (λa=>[au a.1,.int (a.2:Nat)]) (λa=>a.2+1<a.1⁻¹/\a.1⁻¹<=12) (λa=>au (aU a.1 a.2))
def Ag{o:AA}{n:Nat}{G:DH}{k:AT}{E:EK}(h1:n+1<o⁻¹)(h2:o⁻¹<=12)(g:k (au (aU o n)) G):ig.t [au o,.int (n:Nat)] G k E:=cj (o,n) rfl ⟨h1,h2⟩ g
def K8{o:AA}{n:Nat}(h:n<o⁻¹):(o.map λi:Nat=>D.int (i:Int))[n]?=-(.int (o.getD n 0:Nat)):=by rw[aS,bP,ar h];rfl
def K9(Z:aj)(a:AA×Nat)(G:DH)(h:a.2+1<a.1⁻¹/\a.1⁻¹<=12):az Z nP noE (env0 [au a.1,.int (a.2:Nat)] 0) G (ends λd g=>g=G/\d=au (aU a.1 a.2)):=by let(o,n):=a;let(h1,h2):=h;dsimp only at h1 h2 ⊢;simp_all_arith[nP,au];show last ?_;simp_arith[afd,age,<-List.map_drop,ae];show bW (a:=.int (o.getD (n+1) 0:Nat)) (bL (j:=n+1) (K8 h1)) (bW (a:=.int (o.getD n 0:Nat)) (bL (K8 (!0))) ?_);show⟨!1,by rw[de];bv_omega,by simp only[ax,ae,de,d5,ca,gx];bv_omega,?_⟩;unfold aU;rw[cf,cf];first|trivial|exact⟨rfl,rfl⟩|rfl
def agt(Z:aj)(a:AA×Nat)(G:DH)(h:a.2+1<a.1⁻¹/\a.1⁻¹<=12):az Z JW noE (env0 [au a.1,.int (a.2:Nat)] 0) G (ends λd g=>g=G/\d=au (aU a.1 a.2)):=K9 Z a G h
def agu{p q:AQ}{G G1 g:DH}(a:Sb p G G1)(z:G q=none)(b:Sb q G1 g):Sb p G g:=λc o h n=>b c o (a c o h n) (rF h z)
def oJ:RF.Spec:=ghS (A:=AQ×Nat) (λa ds G=>ds=[.ref a.1,.int (a.2:Nat)]/\Pen G a.1/\a.2<=12) (λa G d g=>∃o,d=au o/\okO a.2 o/\Pen g a.1/\Sb a.1 G g)
def La{p:AQ}{n:Nat}{G:DH}{k:AT}{E:EK}(J:Pen G p)(hn:n<=12)(z:∀o g,okO n o->Pen g p->Sb p G g->k (au o) g):oJ.t [.ref p,.int (n:Nat)] G k E:=je (p,n) ⟨rfl,J,hn⟩ λd g L=>by
 let(o,rfl,h1,h2,q):=L;exact z o g h1 h2 q
def agv (Z:aj) (h1:Z "_law_take"=dY) (a:AQ×Nat) (ds:AS) (G:DH) (h:ds=[.ref a.1,.int (a.2:Nat)]/\Pen G a.1/\a.2<=12):az Z yV noE (env0 ds 1) G (ends λd L=>∃o,d=au o/\okO a.2 o/\Pen L a.1/\Sb a.1 G L):=by
 let(p,n):=a;let(rfl,hp,hn):=h;dsimp only at hp hn ⊢;simp_all_arith[yV];nofun;erw[b3];show⟨⟨!0,!0⟩,λq hq=>hM _ _ (last ?_)⟩;have hqp:q≠p:=(hp.ne hq).symm;erw[h1,b3];show⟨!0,CompG.inv (P:=λi M Y L=>(∃o,Y=[o,-(.ref q),-(.ref p)])/\(Pen L p/\Sb p G L)/\∃J left:AA,M=(J.map λi:Nat=>D.int (i:Int))/\L q=-(.lst (left.map λi:Nat=>D.int (i:Int)))/\(J++left).Perm (List.range n)/\J⁻¹=i) ⟨⟨_,rfl⟩,⟨hp.sa (Sa.new hq),(Sa.new hq).sb⟩,[],List.range n,rfl,?_,List.Perm.refl _,rfl⟩ (λy y y y y=>trivial) ?_ ?_ ?_⟩
 .rw[bG];have e:=oA n;unfold au at e;rw[D.tup.inj e]
 .simp[aQ];bv_omega
 .rintro i d M Y L hd ⟨⟨o,rfl⟩,⟨O,U⟩,J,left,rfl,g,z,N⟩ kk hk;have hi:i<n:=by
   have:=(ah.mp hd).1;simpa [aQ] using this
  have hll:J⁻¹+left⁻¹=n:=by have:=z.length_eq;rwa [ax,b4]at this
  erw[h1,JP,JN,cL g,dM g,ae];show cA O (!0) (!0) λr G2 hr hp2 sb2=>?_;have g2:=sb2 _ _ g hqp;have hrl:r<left⁻¹:=by lia
  simp only[JN,cL g2,b3];show⟨!0,!0,bW (a:=D.int (left[r]:Nat)) (by rw[aS,ar hrl];rfl) ?_⟩;show hk _ _ _ ⟨⟨_,rfl⟩,⟨hp2.sb Sb.upd hqp.symm,agu (U.trans sb2) hq Sb.upd⟩,J++[left[r]],left.eraseIdx r,?_,?_,?_,by simp;lia⟩
  .rw[cf];rfl
  .rw[bG];congr 2;rw[eK,eK,cf,List.map_take,List.map_drop]
  .show List.Perm.trans ?_ z;rw[fq];show List.Perm.append_left _ ?_;have e:left.take r++left[r]::left.drop (r+1)=left:=by rw[<-bn hrl,List.take_append_drop]
   rw[eK];have pm:(left[r]::(left.take r++left.drop (r+1))).Perm (left.take r++left[r]::left.drop (r+1)):=List.perm_middle.symm;rw[e]at pm;exact pm
 .rintro M Y L ⟨⟨o,rfl⟩,⟨O,U⟩,J,left,rfl,g,z,N⟩;have N:J⁻¹=n:=by simpa [aQ] using N
  have hll:J⁻¹+left⁻¹=n:=by have:=z.length_eq;rwa [ax,b4]at this
  have hl0:left=[]:=cw.mp (!0);subst hl0;rw[dL]at z;exact⟨J,rfl,z,O,U⟩
def ik(o:AA):AS:=(List.range (o⁻¹-1)).map λi:Nat=>D.tup [.int (i:Int),au (aU o i)]
def uL:RF.Spec:=bT (A:=AA) (λo=>[au o]) (λo=>o⁻¹<=12) (λo=>.lst (ik o))
def agw{o:AA}{G:DH}{k:AT}{E:EK}(h:o⁻¹<=12)(g:k (.lst (ik o)) G):uL.t [au o] G k E:=cj o rfl h g
def stepI(o:AA):D->D
 |.int i=>.tup [.int i,au (aU o i.toNat)]
 |_=>.non
def agx(o:AA):(aQ 0 (o⁻¹-1)).map (stepI o)=ik o:=by unfold aQ ik;rw[b6];show b9 λi z=>?_;change stepI o (.int (0+(i:Nat)))=_;rw[gL];rfl
def agy (Z:aj) (h1:Z "exchanged"=ig) (o:AA) (G:DH) (h:o⁻¹<=12):az Z nQ noE (env0 [au o] 0) G (ends λd z=>z=G/\d=.lst (ik o)):=by
 have M:au o=.tup (o.map λi:Nat=>D.int (i:Int)):=rfl;have L:((o⁻¹:Int)-1).toNat=o⁻¹-1:=by lia
 simp_all_arith[nQ];show last ?_;erw[h1];rw[M];erw[ae,L];show⟨⟨!0,!0⟩,?_⟩;show CompG.map (f:=stepI o) (I:=λY=>∃x,Y=[x,-(au o)]) ⟨_,rfl⟩ trivial (by unfold aQ;rw[ae,b4];bv_omega) ?_ ?_
 .rintro d Y g ⟨x,rfl⟩ N q;unfold aQ at g;let(i,hi,rfl):=aT.mp g;have hi:=e6.mp hi;have J:(0:Int)+(i:Nat)=(i:Int):=gL _;rw[J]at q ⊢;erw[h1];show Ag (!0) h ⟨!1,?_⟩;exact q _ ⟨_,rfl⟩
 .rw[agx];erw[and_self]
def jn(o:AA):au o=.tup ((aF o).map D.int):=uH o
def Ah{o:AA}{g:List Int->Prop}:cz (au o) g=g (aF o):=by rw[jn,ug,fV];rfl
def agz{o:AA}{ks:List (List Int)}{ds:AS}{kb:Bool->Prop}:bh .In (au o) (.dct ks ds) kb=kb (kIx ks (aF o)).isSome:=by rw[JQ,Ah]
def Ai{o:AA}{ks:List (List Int)}{ds:AS}{kb:Bool->Prop}:bh .NotIn (au o) (.dct ks ds) kb=kb (!(kIx ks (aF o)).isSome):=by rw[JR,Ah]
def agA{o:AA}{ks:List (List Int)}{ds:AS}{kd:D->Prop}:cZ (.dct ks ds) (au o) kd=aR (kIx ks (aF o)) λi=>aR ds[i]? kd:=by rw[jn,JS,ug,fV];rfl
def agB{o:AA}{p:AQ}{x:D}{G:DH}{g:DH->Prop}:d9 (.ref p) (au o) x G g=mH G p (λks ds=>ks⁻¹<sz/\g (aP G p (dput ks ds (aF o) x))):=by rw[jn,JT];simp only[ug,fV,jb]
theorem il{o:AA}{G:DH}:view G (au o)=au o:=rfl
def Lb{ks:List (List Int)}{n:List Int}(h:n∉ks):kIx ks n=none:=by unfold kIx;rw[List.findIdx?_eq_none_iff];exact λx g=>bq λe=>h (e ▸ g)
def agC{ks:List (List Int)}{n:List Int}{i:Nat}(h:kIx ks n=-i):i<ks⁻¹/\n∈ks:=by unfold kIx at h;let(hi,g,_):=ee.mp h;have e:=dS g;exact⟨hi,e ▸ cq hi⟩
def Aj{ks:List (List Int)}{n:List Int}(h:n∈ks):∃i,kIx ks n=-i:=by
 cases e:kIx ks n with
 |some i=>exact⟨i,rfl⟩
 |none=>
  unfold kIx at e;rw[List.findIdx?_eq_none_iff]at e;have:=e n h;rw[bo rfl]at this;cases this
def agD{ks:List (List Int)}{n:List Int}(h:(kIx ks n).isSome=false):n∉ks:=λm=>by
 let(i,e):=Aj m;rw[e]at h;cases h
def agE{ks:List (List Int)}{ds:AS}{n:List Int}{x:D}(h:n∉ks):dput ks ds n x=.dct (ks++[n]) (ds++[x]):=by unfold dput;rw[Lb h]
def Ld{z:Type}[DecidableEq z]:∀{l m:List z},l.Nodup->(∀x∈l,x∈m)->l⁻¹<=m⁻¹
 |[],m,_,_=>ck _
 |a::l,m,h,hm=>by
  rw[db]at h;have g:=hm a a9;have:=Ld (m:=m.erase a) h.2 λx q=>(List.mem_erase_of_ne (λ(e:x=a)=>h.1 (e ▸ q))).mpr (hm x (bm _ q));rw[List.length_erase_of_mem g]at this;have:=List.length_pos_of_mem g;rw[ca];lia
def uM:Nat->List Int->List (List Int)
 |0,_=>[[]]
 |k+1,l=>l.flatMap λa=>(uM k (l.erase a)).map (a::·)
def Lg:∀(v l:List Int),v.Perm l->v∈uM v⁻¹ l
 |[],l,_=>al.mpr rfl
 |a::v,l,h=>by
  rw[ca,uM];exact List.mem_flatMap.mpr ⟨a,h.mem_iff.mp a9,aT.mpr ⟨v,Lg v _ (List.cons_perm_iff_perm_erase.mp h).2,rfl⟩⟩
def agF:∀n:Fin 6,(uM n.1 (aF (List.range n.1)))⁻¹<=120:=by ac_rfl
def isKey(n:Nat)(k:List Int):Prop:=∃o,okO n o/\k=aF o
def agG{n:Nat}{ks:List (List Int)}(hn:n<=5)(nd:ks.Nodup)(h:∀k∈ks,isKey n k):ks⁻¹<=120:=by
 show b5 (Ld nd λk q=>?_) (agF ⟨n,!0⟩);let(o,g,rfl):=h k q;have e:(aF o)⁻¹=n:=by unfold aF;rw[ae,g.len]
 have:=Lg (aF o) (aF (List.range n)) (List.Perm.map _ g);rwa [e]at this
def agH{ks:List (List Int)}{k:List Int}(h:ks.Nodup)(z:k∉ks):(ks++[k]).Nodup:=by rw[List.nodup_append];exact⟨h,db.mpr ⟨cp,eW⟩,λa g b q e=>z (by rw[<-al.mp q,<-e];exact g)⟩
def uN{Z:aj}{z:Sxs}{E:EK}{Y:ak}{G:DH}{q:AQ}{o:DO}{g:En}(J:G q=none)(h:∀G1,G1 q=-o->Sa G G1->az Z z E Y G1 g):az Z z E Y (aP G q o) g:=h _ bG (Sa.new J)
def Lh{a b:AA}(h:aF a=aF b):a=b:=by rw[<-oF a,h,oF]
def Ak{step:D->AS->ak->DH->(AS->ak->DH->Prop)->Prop}{g:Hld}{k:AS->ak->DH->Prop}:∀{q:AS}{z:AS}{Y:ak}{G:DH}(P:Nat->AS->ak->DH->Prop)(_:P 0 z Y G)(_:∀i a Y G,P i a Y G->held g G)
  (_:∀i d a Y G,q[i]?=-d->P i a Y G->∀N:AS->ak->DH->Prop,(∀M J L,P (i+1) M J L->N M J L)->step d a Y G N) (_:∀a Y G,P q⁻¹ a Y G->k a Y G),eY step g q z Y G k
 |[],z,Y,G,P,h0,hh,_,he=>⟨hh _ _ _ _ h0,he _ _ _ h0⟩
 |d::ds,z,Y,G,P,h0,hh,hs,he=>⟨hh _ _ _ _ h0,hs 0 d z Y G rfl h0 _ λM J L p=>Ak (λi=>P (i+1)) p (λi=>hh (i+1)) (λi d a Y G e=>hs (i+1) d a Y G (by rw[List.getElem?_cons_succ];exact e)) he⟩
def uO{o:AA}{g:List (AA)}(h:aF o∈g.map aF):o∈g:=by let(x,q,e):=aT.mp h;rw[<-Lh e];exact q
def Li{g:List (AA)}(h:(g.map aF).Nodup):g.Nodup:=by
 induction g with
 |nil=>exact eW
 |cons o g z=>
  rw[a7,db]at h;rw[db];exact⟨λq=>h.1 (aT.mpr ⟨o,q,rfl⟩),z h.2⟩
def Lj(g:List (AA)):dO (g.map au)=-(g.map aF):=by
 induction g with
 |nil=>rfl
 |cons o g q=>rw[a7,a7,jn,dO,fV,q]
def Lk:∀(ks g:List (List Int)),(g++ks).Nodup->ks.foldl (λg k=>if k∈g then g else g++[k]) g=g++ks
 |[],g,_=>by rw[dL];rfl
 |k::ks,g,h=>by
  have hn:k∉g:=λq=>by
   rw[List.nodup_append]at h;exact h.2.2 k q k a9 rfl
  rw[ft,if_neg hn];have e:g++k::ks=(g++[k])++ks:=by rw[fq];rfl
  rw[e]at h ⊢;exact Lk ks _ h
def Ln{ks:List (List Int)}(h:ks.Nodup):dH ks=ks:=Lk ks [] h
def Al{g:List (AA)}(h:g.Nodup):(g.map aF).Nodup:=by
 induction g with
 |nil=>exact eW
 |cons o g z=>
  rw[db]at h;rw[a7,db];exact⟨λq=>h.1 (uO q),z h.2⟩
def Am{ks:List (List Int)}{n:List Int}(h:n∈ks):(kIx ks n).isSome=true:=by let(i,e):=Aj h;rw[e];rfl
def An{ks:List (List Int)}{n:List Int}(h:n∉ks):(kIx ks n).isSome=false:=by rw[Lb h];rfl
def rcF(n:Nat)(g zs:List (AA)):List (AA):=zs.flatMap λx=>((List.range (n-1)).map (aU x)).filter λy=>!decide (y∈g)
def apO(w:Nat)(q:AU)(o:AA)(g:List (AA)):Bool:=decide g.Nodup&&(decide (List.range q⁻¹∈g)&&(!decide (o∈g)&&(rcF q⁻¹ g g).all λy=>!good w q y))
def apF(w:Nat)(g:AU)(o:AA)(vs:List (List Int)):Bool:=vs.all (isO g⁻¹)&&apO w g o (vs.map toO)
def Ao{n:Nat}:∀{vs:List (List Int)},vs.all (isO n)=true->∃g:List (AA),vs=g.map aF/\∀o∈g,okO n o
 |[],_=>⟨[],rfl,λy h=>absurd h cp⟩
 |v::vs,h=>by
  rw[List.all_cons,af]at h;let(h1,e):=KZ h.1;let(g,z,h2):=Ao h.2;show⟨toO v::g,by rw[a7,<-e,<-z],λx q=>?_⟩;rcases br.mp q with rfl|q
  .exact h1
  .exact h2 x q
def Lp{w:Nat}{q:AU}{o:AA}{g:List (AA)}(h:∀x∈g,okO q⁻¹ x):apF w q o (g.map aF)=apO w q o g:=by
 have z:(g.map aF).all (isO q⁻¹)=true:=by rw[bS];intro v L;let(x,M,rfl):=aT.mp L;exact KY (h x M)
 have J:(g.map aF).map toO=g:=by
  rw[b6];conv=>rhs;rw[<-List.map_id g]
  exact b9 λx y=>oF x
 unfold apF;rw[z,J];rfl
def Aq:∀(ks g:List (List Int)),(ks.foldl (λg k=>if k∈g then g else g++[k]) g)⁻¹<=g⁻¹+ks⁻¹
 |[],g=>av _
 |k::ks,g=>by
  rw[ft];show b5 (Aq ks _) ?_;rw[ca];split
  .omega
  .rw[ax,hU];lia
def true_eq:∀(ks g:List (List Int)),g.Nodup->(ks.foldl (λg k=>if k∈g then g else g++[k]) g)⁻¹=g⁻¹+ks⁻¹->(g++ks).Nodup
 |[],g,h,_=>by rw[dL];exact h
 |k::ks,g,h,e=>by
  rw[ft]at e;by_cases q:k∈g
  .rw[if_pos q]at e;have:=Aq ks g;rw[ca]at e;lia
  .rw[if_neg q]at e;have:=true_eq ks (g++[k]) (agH h q) (by rw[e,ax,hU,ca];lia);rwa [fq]at this
def Lq{ks:List (List Int)}(h:¬ks.Nodup):(dH ks)⁻¹<ks⁻¹:=by have h1:=Aq ks [];have h2:=true_eq ks [] eW;rw[gx,Nat.zero_add]at h1 h2;rw[List.nil_append]at h2;unfold dH;exact Nat.lt_of_le_of_ne h1 λe=>h (h2 e)
def Ar(n:Nat)(g:List (AA)):∀zs,(rcF n g zs)⁻¹<=zs⁻¹*(n-1)
 |[]=>ck _
 |z::zs=>by
  unfold rcF;rw[gI,ax,ca,Nat.add_mul,Nat.one_mul,Nat.add_comm];show Nat.add_le_add (Ar n g zs) (b5 (List.length_filter_le _ _) ?_);rw[ae,b4];exact av _
def Av{n:Nat}{z zs:List (AA)}{y:AA}:y∈rcF n z zs↔∃x∈zs,∃j,j+1<n/\y=aU x j/\y∉z:=by
 unfold rcF;rw[List.mem_flatMap];constructor
 .rintro ⟨x,g,J⟩;let(h1,h2):=e9.mp J;let(j,q,rfl):=aT.mp h1;have:=e6.mp q;exact⟨x,g,j,!0,rfl,!!h2⟩
 .rintro ⟨x,g,j,q,rfl,hn⟩;exact⟨x,g,e9.mpr ⟨aT.mpr ⟨j,e6.mpr (!0),rfl⟩,!!hn⟩⟩
structure A36 where
 w:Nat
 rs:AU
 o:AA
 vs:List (List Int)
def oK(a:A36):AS:=[aq a.w a.rs,au a.o,.lst (a.vs.map dTup)]
structure okA36(a:A36):Prop where
 b:okB a.w a.rs
 o:okO a.rs.length a.o
 w4:a.w<=4
 r5:a.rs.length<=5
 len:a.vs.length<=130
 each:∀v∈a.vs,v.length<=30
def jo:RF.Spec:=ghS (A:=A36) (λa ds z=>ds=oK a/\okA36 a) (λa G d g=>Sa G g/\d=.bl (apF a.w a.rs a.o a.vs))
def Lr{w:Nat}{q:AU}{o:AA}{vs:List (List Int)}{G:DH}{k:AT}{E:EK}(h:okA36 ⟨w,q,o,vs⟩)(z:∀g,Sa G g->k (.bl (apF w q o vs)) g):jo.t [aq w q,au o,.lst (vs.map dTup)] G k E:=je (⟨w,q,o,vs⟩:A36) ⟨rfl,h⟩ λd g J=>by
 let(s,rfl):=J;exact z g s
def Aw(n:Nat):D->D
 |.tup ds=>.bl (isO n ((aZ ds).getD []))
 |_=>.non
def Ax(g:List (AA)):(g.map aF).map dTup=g.map au:=by rw[b6];exact b9 λo z=>(uH o).symm
def Ay(w:Nat)(g:AU):D->D
 |.tup ds=>.bl (good w g (toO ((aZ ds).getD [])))
 |_=>.non
def Lw{w:Nat}{g:AU}{y:AA}:Ay w g (au y)=.bl (good w g y):=by rw[jn];change D.bl (good w g (toO ((aZ ((aF y).map D.int)).getD [])))=_;rw[fV];change D.bl (good w g (toO (aF y)))=_;rw[oF]
structure FAp36(Z:aj):Prop where
 mov:Z "need_movable"=uJ
 need:Z "need_order"=oH
 ord:Z "is_order"=oG
 first:Z "first_order"=uG
 steps:Z "steps_from"=uL
 good:Z "is_good"=uK
def agI(Z:aj)(F:FAp36 Z)(a:A36)(ds:AS)(G:DH)(h:ds=oK a/\okA36 a):az Z nR noE (env0 ds 2) G (ends λd G'=>Sa G G'/\d=.bl (apF a.w a.rs a.o a.vs)):=by
 let(w,q,o,vs):=a;let(rfl,hb,ho,h4,h5,hln,L):=h;dsimp only at hb ho h4 h5 hln L ⊢;simp_all_arith[nR,oK];nofun;erw[F.mov];show agm hb h4 h5 (hM _ _ (seq λM hM=>?_));erw[F.need];show K5 hb ho (hM _ _ (seq λM hM=>?_));simp_arith![F.ord];show CompG.map (f:=Aw q⁻¹) (I:=λY=>∃x,Y=[x,-(aq w q)]) ⟨_,rfl⟩ trivial (by rw[ae];bv_omega) ?_ ?_
 .rintro d Y N ⟨x,rfl⟩ kk hk;let(v,hv,rfl):=aT.mp N;erw[F.ord];show K4 hb (L v hv) ?_;have e:Aw q⁻¹ (dTup v)=.bl (isO q⁻¹ v):=by
   change D.bl (isO q⁻¹ ((aZ (v.map D.int)).getD []))=_;rw[fV];rfl
  rw[<-e];exact hk _ ⟨_,rfl⟩
 have eb:(vs.map dTup).map (Aw q⁻¹)=vs.map λv=>D.bl (isO q⁻¹ v):=by rw[b6];show b9 λv u=>?_;change D.bl (isO q⁻¹ ((aZ (v.map D.int)).getD []))=_;rw[fV];rfl
 rw[eb];have ea:(vs.map λv=>isO q⁻¹ v).all id=vs.all (isO q⁻¹):=by rw[List.all_map];rfl
 simp_arith![mF,ea];cases hall:vs.all (isO q⁻¹) with
 |false=>
  have e:apF w q o vs=false:=by unfold apF;rw[hall];rfl
  erw[e];exact λu u h=>h
 |true=>
 let(g,rfl,hos):=Ao hall;have O:apF w q o (g.map aF)=apO w q o g:=Lp hos;rw[Ax];rw[ae]at hln;erw[ends];symm;erw[dcK,Lj];show⟨by rw[ae];bv_omega,λp hp=>hM _ _ (uN hp λG1 g1 s1=>seq λM hM=>?_)⟩;by_cases hnd:g.Nodup
 .rw[Ln (Al hnd)]at g1;simp_arith![jc g1,F.first,ae];simp only[BEq.rfl,Bool.not_true];show agh hb ?_;simp only[il,jc g1,Ai,agz];by_cases U:List.range q⁻¹∈g
  .simp only[Am (aT.mpr ⟨_,U,rfl⟩),Bool.not_true];by_cases hno:o∈g
   .have e:apO w q o g=false:=by unfold apO;rw[bo hno];simp
    erw[Am (aT.mpr ⟨_,hno,rfl⟩),O,e];exact s1
   .simp only[An (λhm=>hno (uO hm))];symm;erw[F.steps];show Ak (P:=λi z Y G'=>(∃o0 o1 o2,Y=[o0,o1,o2,-(.ref p)])/\G'=G1/\z=(rcF q⁻¹ g (g.take i)).map au) ⟨⟨_,_,_,rfl⟩,rfl,rfl⟩ (λu u u u u=>trivial) ?_ ?_
    .rintro i d z Y G' N ⟨⟨o0,o1,o2,rfl⟩,rfl,rfl⟩ kk hk;rw[aS]at N;let(y,hy',rfl):=aE.mp N;have hy:=bv hy';have hyo:=hos y hy;have hyl:=hyo.len;have hil:=(ah.mp hy').1;have hrl:=Ar q⁻¹ g (g.take i);have htl:(g.take i)⁻¹<=g⁻¹:=by rw[de];lia
     have hmul:(g.take i)⁻¹*(q⁻¹-1)<=130*4:=Nat.mul_le_mul (!0) (!0);have hnx:rcF q⁻¹ g (g.take (i+1))=rcF q⁻¹ g (g.take i)++((List.range (q⁻¹-1)).map (aU y)).filter (λy=>!decide (y∈g)):=by rw[d0,hy'];unfold rcF;rw[List.flatMap_append];simp
     erw[F.steps];show agw (!0) ?_;erw[ends];show Ak (P:=λj z Y G''=>(∃o1 o2,Y=[-(au y),o1,o2,-(.ref p)])/\G''=G'/\j<=q⁻¹-1/\z=(rcF q⁻¹ g (g.take i)++((List.range j).map (aU y)).filter (λy=>!decide (y∈g))).map au) ⟨⟨_,_,rfl⟩,rfl,ck _,by rw[List.range_zero,gE,List.filter_nil,dL]⟩ (λu u u u u=>trivial) ?_ ?_
     .rintro j d z Y G' N ⟨⟨o1,o2,rfl⟩,rfl,hjl,rfl⟩ kk2 hk2;obtain⟨hj,rfl⟩:j+1<q⁻¹/\d=.tup [.int (j:Int),au (aU y j)]:=by
       unfold ik at N;rw[aS]at N;let(x,hx,e):=aE.mp N;let(hx1,hx2):=ah.mp hx;rw[b4]at hx1;rw[gv]at hx2;subst hx2;exact⟨!0,e.symm⟩
      have hfl:(((List.range j).map (aU y)).filter (λy=>!decide (y∈g)))⁻¹<=j:=by show b5 (List.length_filter_le _ _) ?_;rw[ae,b4];exact av _
      have J:((List.range (j+1)).map (aU y)).filter (λy=>!decide (y∈g))=((List.range j).map (aU y)).filter (λy=>!decide (y∈g))++(if aU y j∈g then[] else[aU y j]):=by rw[List.range_succ,cf,List.filter_append];congr 1;by_cases c:aU y j∈g<;>simp[c]
      erw[il,jc g1,Ai,ae,ax];show⟨by bv_omega,?_⟩;by_cases c:aU y j∈g
      .rw[if_pos c,dL]at J;simp only[Am (aT.mpr ⟨_,c,rfl⟩),Bool.not_true];exact hk2 _ _ _ ⟨⟨_,_,rfl⟩,rfl,!0,by rw[J]⟩
      .rw[if_neg c]at J;erw[An (λhm=>c (uO hm))];exact hk2 _ _ _ ⟨⟨_,_,rfl⟩,rfl,!0,by rw[J,<-fq,cf (l₂:=[aU y j])];rfl⟩
     .rintro z Y G' ⟨⟨o1,o2,rfl⟩,rfl,hjl,rfl⟩;have esl:(ik y)⁻¹=q⁻¹-1:=by unfold ik;rw[ae,b4,hyl]
      rw[esl]at *;exact hk _ _ _ ⟨⟨_,_,_,rfl⟩,rfl,by rw[hnx]⟩
    .rintro z Y G' ⟨⟨o0,o1,o2,rfl⟩,rfl,rfl⟩;have htk:g.take (g.map au)⁻¹=g:=by rw[ae,dQ]
     rw[htk];have hrl:=Ar q⁻¹ g g;have hmul:g⁻¹*(q⁻¹-1)<=130*4:=Nat.mul_le_mul hln (!0);have hrc:∀y∈rcF q⁻¹ g g,okO q⁻¹ y:=λy hy=>by
      let(x,hx,j,hj,rfl,_):=Av.mp hy;exact Af (hos x hx) hj
     have e:apO w q o g=!((rcF q⁻¹ g g).map (good w q)).any id:=by unfold apO;rw[bo hnd,bo U,bq hno,List.any_map];change(rcF q⁻¹ g g).all _=_;rw[List.all_eq_not_any_not];congr 2;exact funext λy=>Bool.not_not _
     erw[ae];show⟨by bv_omega,hM _ _ (last ?_)⟩;simp_arith![F.good];show CompG.map (f:=Ay w q) (I:=λY=>∃x,Y=[x,-(aq w q)]) ⟨_,rfl⟩ trivial (by rw[ae];bv_omega) ?_ ?_
     .rintro d Y N ⟨x,rfl⟩ kk hk;let(y,hy,rfl):=aT.mp N;erw[F.good];show agq hb (hrc y hy) ?_;rw[<-Lw];exact hk _ ⟨_,rfl⟩
     have eg:((rcF q⁻¹ g g).map au).map (Ay w q)=(rcF q⁻¹ g g).map λy=>D.bl (good w q y):=by rw[b6];exact b9 λy u=>Lw
     rw[eg];erw[mF,O,e];exact s1
  .have e:apO w q o g=false:=by unfold apO;rw[bq U];simp
   erw[An (λhm=>U (uO hm)),O,e];exact s1
 .have e:apO w q o g=false:=by unfold apO;rw[bq hnd];rfl
  have hlt:=Lq (ks:=g.map aF) λh=>hnd (Li h);rw[ae]at hlt;have eb:((((dH (g.map aF))⁻¹:Nat):Int)==((g⁻¹:Nat):Int))=false:=by rw[dy];lia
  simp_arith![jc g1,F.first,ae];erw[eb,O,e];exact s1
def dls(w:Nat)(g:AU):AS:=(bD (List.replicate w 42)).map λl=>bU (bu g (bw g l))
def Lx{w:Nat}{g q:AU}:bM (dls w q) (dls w g)=(dC w g q).isEmpty:=by
 unfold dls dC;induction bD (List.replicate w 42) with
 |nil=>rfl
 |cons l J z=>
  rw[a7,a7,bM,z,agb,List.filter_cons];have e:(bu q (bw q l)==bu g (bw g l))=(bu g (bw g l)==bu q (bw q l)):=by rw[d4,a8,a8];exact eq_comm
  rw[e];cases bu g (bw g l)==bu q (bw q l)<;>simp
def uP(w:Nat)(g:AU):nrs (dls w g)=true/\bf (dls w g)=0:=by
 unfold dls;induction bD (List.replicate w 42) with
 |nil=>exact⟨rfl,rfl⟩
 |cons l z q=>
  rw[a7,nrs,bf,q.1,q.2];cases bu g (bw g l)<;>exact⟨rfl,rfl⟩
def oM:RF.Spec:=ghS (A:=Nat×AU) (λa ds z=>ds=[aq a.1 a.2]/\okB a.1 a.2) (λa G d g=>Sa G g/\d=.lst (dls a.1 a.2))
def uQ{w:Nat}{q:AU}{G:DH}{k:AT}{E:EK}(h:okB w q)(z:∀g,Sa G g->k (.lst (dls w q)) g):oM.t [aq w q] G k E:=je (w,q) ⟨rfl,h⟩ λd g J=>by
 let(s,rfl):=J;exact z g s
def Ly(g:AU):D->D
 |.str l=>bU (bu g (bw g l))
 |_=>.non
def agJ (Z:aj) (h1:Z "_law_words"=ur) (h2:Z "_law_deed"=uD) (a:Nat×AU) (ds:AS) (G:DH) (h:ds=[aq a.1 a.2]/\okB a.1 a.2):az Z zx noE (env0 ds 0) G (ends λd M=>Sa G M/\d=.lst (dls a.1 a.2)):=by
 let(w,g):=a;let(rfl,q):=h;dsimp only at q ⊢;have J:=q.w6;have N:D.tup [.int w,.tup (g.map aM)]=aq w g:=rfl;have hwl:(bD (List.replicate w 42))⁻¹<=64:=b5 (J7 _) (fo (show 0<2 by decide) (show(List.replicate w 42)⁻¹<=6 by rw[cb];exact J));simp_all_arith[zx];show last ?_;simp_arith![aq,h1,b3,Ke];show⟨!0,!0,by bv_omega,aeY (by rw[cb];lia) λG1 L=>?_⟩;simp_arith![ends];show CompG.map (f:=Ly g) (I:=λY=>∃o,Y=[o,-(.tup [.int w,.tup (g.map aM)])]) ⟨_,rfl⟩ trivial (by rw[ae];bv_omega) ?_ ?_
 .rintro d Y O ⟨o,rfl⟩ kk U;let(l,hl,rfl):=aT.mp O;have z:l⁻¹=w:=(afg.mp (nW.mp hl)).1;erw[h2];rw[N];exact af9 (λr hr=>by rw[(q.form r hr).1,z]) (U _ ⟨_,rfl⟩)
 .have e:((bD (List.replicate w 42)).map D.str).map (Ly g)=dls w g:=by rw[b6];rfl
  rw[e];erw[ends];exact L
structure GO(n:Nat)(G0 G':DH)(p q:AQ)(os:List (AA))(ds:AS):Prop where
 gq:G' q=some (.lst (os.map au))
 gp:G' p=some (.dct (os.map aF) ds)
 nd:os.Nodup
 ok:∀o∈os,okO n o
 len:ds.length=os.length
 val:∀d∈ds,∃i:Int,d=.int i
 sa:Sa G0 G'
 zp:G0 p=none
 zq:G0 q=none
 pq:p≠q
 ne:1<=os.length
def GO.to{n:Nat}{g G1 z:DH}{p q:AQ}{J:List (AA)}{ds:AS}(h:GO n g G1 p q J ds)(s:Sa G1 z):GO n g z p q J ds:=⟨s _ _ h.gq,s _ _ h.gp,h.nd,h.ok,h.len,h.val,h.sa.trans s,h.zp,h.zq,h.pq,h.ne⟩
def Az{n:Nat}{g:List (AA)}(hn:n<=5)(nd:g.Nodup)(h:∀o∈g,okO n o):g⁻¹<=120:=by
 have:=agG hn (Al nd) λk q=>by
  let(o,z,rfl):=aT.mp q;exact⟨o,h o z,rfl⟩
 rwa [ae]at this
def qGO(n:Nat)(G:DH)(d:D)(q:DH):Prop:=∃p,∃g:List (AA),∃z,d=.ref p/\q p=-(.dct (g.map aF) z)/\Sa G q/\g.Nodup/\(∀o∈g,okO n o)/\1<=g⁻¹
def sGO:RF.Spec:=ghS (A:=Nat×AU) (λa ds z=>ds=[aq a.1 a.2]/\okB a.1 a.2/\a.2⁻¹<=5) (λa G d g=>qGO a.2⁻¹ G d g)
def agK{w:Nat}{z:AU}{G:DH}{k:AT}{E:EK}(h:okB w z)(L:z⁻¹<=5)(O:∀p (g:List (AA)) J q,q p=-(.dct (g.map aF) J)->Sa G q->g.Nodup->(∀o∈g,okO z⁻¹ o)->1<=g⁻¹->k (.ref p) q):sGO.t [aq w z] G k E:=je (w,z) ⟨rfl,h,L⟩ λd q U=>by
 let(p,g,J,rfl,h1,h2,M,N,L):=U;exact O p g J q h1 h2 M N L
structure FGO(Z:aj):Prop where
 alld:Z "_law_all_deeds"=oM
 stp:Z "_law_stepped"=ig
 by_:Z "_law_by"=sBy
def agL(Z:aj)(F:FGO Z)(a:Nat×AU)(ds:AS)(G:DH)(h:ds=[aq a.1 a.2]/\okB a.1 a.2/\a.2⁻¹<=5):az Z zA noE (env0 ds 6) G (ends λd G'=>qGO a.2⁻¹ G d G'):=by
 let(w,U):=a;let(rfl,hb,h5):=h;dsimp only at hb h5 ⊢;have e0:D.tup [.int w,.tup (U.map aM)]=aq w U:=rfl;simp_all_arith[zA];nofun;erw[F.alld];show uQ hb λG1 s1=>hM _ _ (seq λM hM=>?_);erw[aq,ae,b3];rw[oA];show⟨⟨!0,!0⟩,by bv_omega,λq hq=>hM _ _ (uN hq λG2 g2 s2=>seq λM hM=>?_)⟩;have zq:G q=none:=by
  cases e:G q with
  |none=>rfl
  |some o=>rw[s1 _ _ e]at hq;cases hq
 erw[dM g2,Ah];intro p hp;have zp:G p=none:=by
  cases e:G p with
  |none=>rfl
  |some o=>rw[s2 _ _ (s1 _ _ e)]at hp;cases hp
 have hpq:p≠q:=λe=>by rw[e,g2]at hp;cases hp
 show hM _ _ (uN hp λG3 g3 s3=>seq λM hM=>?_);erw[ends];symm;rw[e0];simp_arith![ends];show⟨_,WhlG.inv (P:=λm Y G'=>∃N ds L o5 o6,Y=[-(aq w U),-(.lst (dls w U)),-(.ref q),-(.ref p),-(.int (L:Nat)),o5,o6]/\GO U⁻¹ G G' p q N ds/\L<=N⁻¹/\m=121-L) ?_ _ _ _ ⟨[List.range U⁻¹],_,0,_,_,rfl,⟨s3 _ _ g2,g3,db.mpr ⟨cp,eW⟩,λo ho=>by rw[al.mp ho];exact List.Perm.refl _,rfl,λd hd=>⟨0,al.mp hd⟩,(s1.trans s2).trans s3,zp,zq,hpq,av _⟩,ck _,rfl⟩⟩;rintro m Y G' ⟨N,ds,L,o5,o6,rfl,g,hat,rfl⟩;have hmn:=Az h5 g.nd g.ok;simp_arith![dM g.gq,ae];by_cases hlt:L<N⁻¹
 .simp only[bo (show(L:Int)<(N⁻¹:Int) by lia)];intro kk hk;have J:N[L]?=-N[L]:=ar hlt;have hoa:=g.ok _ (cq hlt);have hla:=hoa.len;generalize N[L]=here at J hoa hla;have O:atI (N.map au) (L:Int)=-(au here):=bL (by rw[aS,J];rfl);nofun;have ed:au here=.tup (here.map λi:Nat=>D.int (i:Int)):=rfl;have e1:((U⁻¹:Int)-1).toNat=U⁻¹-1:=by lia
  simp_arith![dM g.gq,O,jb];rw[ed];simp_arith![ae,hla,e1];show⟨!0,ForG.inv (P:=λi Y G'=>∃N ds o5 o6,Y=[-(aq w U),-(.lst (dls w U)),-(.ref q),-(.ref p),-(.int (L:Nat)),o5,o6]/\GO U⁻¹ G G' p q N ds/\N[L]?=-here) ⟨_,_,_,_,rfl,g,J⟩ (λy y y y=>trivial) ?_ ?_⟩
  .rintro j d Y G4 hd ⟨N,ds,o5,o6,rfl,g,J⟩ kk1 hk1;obtain⟨hj,rfl⟩:j+1<U⁻¹/\d=.int (j:Int):=by
    unfold aQ at hd;rw[aS]at hd;let(x,hx,e):=aE.mp hd;let(hx1,hx2):=ah.mp hx;rw[b4]at hx1;rw[gv]at hx2;subst hx2;exact⟨!0,by rw[<-e,gL]⟩
   have O:atI (N.map au) (L:Int)=-(au here):=bL (by rw[aS,J];rfl);have hok:=Af hoa hj;have hmn:=Az h5 g.nd g.ok;simp_arith![ends];nofun;simp_arith![dM g.gq,O,jb,F.stp];show Ag (!0) (!0) (hM _ _ (last ?_));simp_arith![jc g.gp,il,Ai];cases hin:(kIx (N.map aF) (aF (aU here j))).isSome with
   |true=>
    erw[ends];exact hk1 _ _ ⟨_,_,_,_,rfl,g,J⟩
   |false=>
    have hn:=agD hin;have hno:aU here j∉N:=λhm=>hn (aT.mpr ⟨_,hm,rfl⟩);simp_arith![F.by_,F.alld];show Ad hb hok (uQ (Ac hb hok) λG5 s5=>?_);have g:=g.to s5;let(n1,d1):=uP w U;let(n2,d2):=uP w (byR U (aU here j));have hix:∃i x,kIx (N.map aF) (aF here)=-i/\ds[i]?=-(.int x):=by
     let(i,hi):=Aj (aT.mpr ⟨here,bv J,rfl⟩);have hil:i<ds⁻¹:=by have:=(agC hi).1;rw[ae]at this;rw[g.len];exact this
     let(x,e):=g.val _ (cq hil);exact⟨i,x,hi,by rw[ar hil,e]⟩
    let(ix,x,hix,hdx):=hix;simp_arith![Lx,view];show⟨⟨n2,n1,by rw[d1,d2];decide⟩,?_⟩;cases hgd:(dC w U (byR U (aU here j))).isEmpty with
    |false=>
     erw[ends];exact hk1 _ _ ⟨_,_,_,_,rfl,g,J⟩
    |true=>
     simp_arith![ends];nofun;erw[dM g.gq,jc g.gp,O,jb,il,agA,hix,hdx,agB,acS g.gp,agE hn,ae];show⟨by bv_omega,hM _ _ (last ?_)⟩;have npq:=g.pq;have gq6:(aP G5 p (.dct (N.map aF++[aF (aU here j)]) (ds++[.int (x+1)]))) q=-(.lst (N.map au)):=by rw[cN npq.symm];exact g.gq
     erw[cL gq6];show⟨by rw[ae];bv_omega,hk1 _ _ ⟨N++[aU here j],ds++[.int (x+1)],_,_,rfl,⟨by rw[bG,cf];rfl,by rw[cN npq,bG,cf];rfl,?_,λo ho=>?_,by rw[ax,ax,g.len];rfl,λd hd=>?_,(g.sa.then g.zp Sb.upd).then g.zq Sb.upd,g.zp,g.zq,g.pq,by rw[ax];exact b5 g.ne (dc _ _)⟩,?_⟩⟩
     .rw[List.nodup_append];exact⟨g.nd,db.mpr ⟨cp,eW⟩,λa ha b hb e=>hno (by rw[<-al.mp hb,<-e];exact ha)⟩
     .rcases ba.mp ho with z|z
      .exact g.ok o z
      .rw[al.mp z];exact hok
     .rcases ba.mp hd with z|z
      .exact g.val d z
      .exact ⟨_,al.mp z⟩
     .rw[eL (ah.mp J).1];exact J
  .rintro Y G4 ⟨N,ds,o5,o6,rfl,g,J⟩;ac_nf0;erw[ends];have:=(ah.mp J).1;exact hk _ _ _ (!0) ⟨N,ds,L+1,_,_,rfl,g,!0,rfl⟩
 .simp only[bq (show¬(L:Int)<(N⁻¹:Int) by lia)];ac_nf0;erw[ends];exact⟨p,N,ds,rfl,g.gp,g.sa,g.nd,g.ok,g.ne⟩
def Lz(a b:AA):deq (au a) (au b)=decide (a=b):=by rw[jn,jn];change bM _ _=_;rw[uI,d4,a8,ce];exact⟨Lh,λe=>by rw[e]⟩
def Ba(o:AA)(g:List (AA)):isIn (au o) (g.map au)=decide (o∈g):=by
 unfold isIn;rw[List.any_map,d4,gg,ce];constructor
 .rintro ⟨x,q,e⟩;have e:deq (au x) (au o)=true:=e;rw[Lz,ce]at e;exact e ▸ q
 .intro h;exact⟨o,h,by change deq (au o) (au o)=true;rw[Lz];exact bo rfl⟩
def LC(g:List (AA)):nrs (g.map au)=true/\bf (g.map au)<=1:=by
 induction g with
 |nil=>exact⟨rfl,ck _⟩
 |cons o g q=>
  rw[a7,nrs,bf,q.1,(oE o).1];exact⟨rfl,Nat.max_le.mpr ⟨(oE o).2,q.2⟩⟩
structure FDue36(Z:aj):Prop where
 alld:Z "_law_all_deeds"=oM
 stp:Z "_law_stepped"=ig
 by_:Z "_law_by"=sBy
def agM(Z:aj)(F:FDue36 Z)(a:A36)(ds:AS)(G:DH)(h:ds=oK a/\okA36 a):az Z zz noE (env0 ds 5) G (ends λd U=>Sa G U/\d=.bl (apF a.w a.rs a.o a.vs)):=by
 let(w,g,o,vs):=a;let(rfl,hb,ho,h4,h5,hln,O):=h;dsimp only at hb ho h4 h5 hln O ⊢;have e0:D.tup [.int w,.tup (g.map aM)]=aq w g:=rfl;simp_all_arith[zz,oK];nofun;erw[aq,ae];rw[e0];symm;simp_arith![ends];show ForG.inv (P:=λi Y U=>∃o4,Y=[-(aq w g),-(au o),-(.lst (vs.map dTup)),-(.int (g⁻¹:Nat)),o4,none,none,none]/\U=G/\(vs.take i).all (isO g⁻¹)=true) ⟨_,rfl,rfl,rfl⟩ (λu u u u=>trivial) ?_ ?_
 .rintro i d Y U hd ⟨o4,rfl,rfl,J⟩ kk hk;rw[aS]at hd;let(v,hv,rfl):=aE.mp hd;have hvm:=bv hv;have hvl:=O v hvm;have hlen:=hb.len;simp_arith![ends];show last ?_;simp_arith![dTup,b3];show bW (fV _) ⟨!0,λns hp hs=>⟨⟨!0,!0⟩,?_⟩⟩;have hn1:=gA ns;have hn2:=gA (aF (List.range g⁻¹));rw[uF];simp_arith![deq,uI,K1 (show g⁻¹<=12 by lia) hp hs];show⟨⟨hn1.1,hn2.1,by rw[hn2.2];exact b5 (Nat.min_le_right _ _) (!1)⟩,?_⟩;cases e:isO g⁻¹ v with
  |false=>
   have ef:apF w g o vs=false:=by
    unfold apF;have:vs.all (isO g⁻¹)=false:=by rw[List.all_eq_false];exact⟨v,hvm,by rw[e];exact bg⟩
    rw[this];rfl
   erw[ef];exact λu u h=>h
  |true=>
   erw[ends];show hk _ _ ⟨_,rfl,rfl,?_⟩;rw[d0,hv,List.all_append,J];change(true&&(isO g⁻¹ v&&true))=true;rw[e];rfl
 .rintro Y U ⟨o4,rfl,rfl,J⟩;rw[ae,dQ]at J;let(q,rfl,hos):=Ao J;have L:apF w g o (q.map aF)=apO w g o q:=Lp hos;rw[Ax];rw[ae]at hln;let(n1,d1):=LC q;symm;simp_arith![Lj,jb,ae,Ba,il];show⟨!0,?_⟩;by_cases hnd:q.Nodup
  .rw[Ln (Al hnd),ae];simp only[bq (show¬(q⁻¹:Int)<(q⁻¹:Int) by lia)];show⟨⟨(oE o).1,n1,!0⟩,?_⟩;by_cases hno:o∈q
   .have e:apO w g o q=false:=by unfold apO;rw[bo hno];simp
    erw[bo hno,L,e];exact λu u h=>h
   .simp_arith![bq hno,b3];rw[oA];simp only[Ba,il];have hrn:nrs (aQ 0 g⁻¹)=true:=by rw[uF];exact(gA _).1
    show⟨⟨!0,!0⟩,⟨hrn,n1,!0⟩,?_⟩;by_cases hfs:List.range g⁻¹∈q
    .simp_arith![bo hfs];symm;erw[F.alld];show uQ hb λG1 s1=>hM _ _ (seq λM hM=>?_);let(m1,b1):=uP w g;have e1:((g⁻¹:Int)-1).toNat=g⁻¹-1:=by lia
     simp_arith![ends];show ForG.inv (P:=λi Y U=>∃o4 o6 o7,Y=[-(aq w g),-(au o),-(.lst (q.map au)),-(.int (g⁻¹:Nat)),o4,-(.lst (dls w g)),o6,o7]/\Sa G1 U/\∀x∈q.take i,∀j,j+1<g⁻¹->aU x j∉q->good w g (aU x j)=false) ⟨_,_,_,rfl,λu u h=>h,λx hx=>absurd hx cp⟩ (λu u u u=>trivial) ?_ ?_
     .rintro i d Y G2 hd ⟨o4,o6,o7,rfl,s2,J⟩ kk hk;rw[aS]at hd;let(x,hx,rfl):=aE.mp hd;have hxm:=bv hx;have hxo:=hos x hxm;have hxl:=hxo.len;simp_arith![ends];show last ?_;simp_arith![e1];show⟨!0,ForG.inv (P:=λj Y U=>∃o6 o7,Y=[-(aq w g),-(au o),-(.lst (q.map au)),-(.int (g⁻¹:Nat)),-(au x),-(.lst (dls w g)),o6,o7]/\Sa G1 U/\∀j'<j,aU x j'∉q->good w g (aU x j')=false) ⟨_,_,rfl,s2,λj hj=>absurd hj (Nat.not_lt_zero _)⟩ (λu u u u=>trivial) ?_ ?_⟩
      .rintro j d Y G3 hd ⟨o6,o7,rfl,s3,N⟩ kk1 hk1;obtain⟨hj,rfl⟩:j+1<g⁻¹/\d=.int (j:Int):=by
        unfold aQ at hd;rw[aS]at hd;let(x,hx,e):=aE.mp hd;let(hx1,hx2):=ah.mp hx;rw[b4]at hx1;rw[gv]at hx2;subst hx2;exact⟨!0,by rw[<-e,gL]⟩
       have hok:=Af hxo hj;have next:(aU x j∉q->good w g (aU x j)=false)->∀j'<j+1,aU x j'∉q->good w g (aU x j')=false:=λhz j' hj'=>by
        by_cases e:j'=j
        .rw[e];exact hz
        .exact N j' (!0)
       simp_arith![ends];nofun;simp_arith![F.stp];show Ag (!0) (!0) (hM _ _ (last ?_));simp_arith![il,Ba];show⟨⟨(oE _).1,n1,!0⟩,?_⟩;by_cases hin:aU x j∈q
       .erw[bo hin];exact hk1 _ _ ⟨_,_,rfl,s3,next λh=>absurd hin h⟩
       .simp_arith![bq hin,F.by_,F.alld];show Ad hb hok (uQ (Ac hb hok) λG4 s4=>?_);let(m2,b2):=uP w (byR g (aU x j));simp_arith![Lx,view];show⟨⟨m2,m1,by rw[b1,b2];decide⟩,?_⟩;cases hgd:(dC w g (byR g (aU x j))).isEmpty with
        |false=>
         erw[ends];exact hk1 _ _ ⟨_,_,rfl,s3.trans s4,next λu=>hgd⟩
        |true=>
         have e:apO w g o q=false:=by
          unfold apO;have:((rcF g⁻¹ q q).all λy=>!good w g y)=false:=by rw[List.all_eq_false];exact⟨aU x j,Av.mpr ⟨x,hxm,j,hj,rfl,hin⟩,by change¬(!good w g (aU x j))=true;rw[show good w g (aU x j)=true from hgd];exact bg⟩
          rw[this];simp
         erw[L,e];exact(s1.trans s3).trans s4
      .rintro Y G3 ⟨o6,o7,rfl,s3,N⟩;show hk _ _ ⟨_,_,_,rfl,s3,λy hy j hj=>?_⟩;rw[d0,hx]at hy;rcases ba.mp hy with z|z
       .exact J y z j hj
       .have z:y∈[x]:=z;rw[al.mp z];show N j ?_;unfold aQ;rw[ae,b4];lia
     .rintro Y G2 ⟨o4,o6,o7,rfl,s2,J⟩;rw[ae,dQ]at J;have e:apO w g o q=true:=by
       unfold apO;rw[bo hnd,bo hfs,bq hno];change(rcF g⁻¹ q q).all _=true;rw[bS];intro y hy;let(x,hx,j,hj,rfl,hn):=Av.mp hy;rw[J x hx j hj hn];rfl
      ac_nf0;erw[L,e];exact s1.trans s2
    .have e:apO w g o q=false:=by unfold apO;rw[bq hfs];simp
     erw[bq hfs,L,e];exact λu u h=>h
  .have e:apO w g o q=false:=by unfold apO;rw[bq hnd];rfl
   have hlt:=Lq (ks:=q.map aF) λh=>hnd (Li h);rw[ae]at hlt;erw[bo (show((dH (q.map aF))⁻¹:Int)<(q⁻¹:Int) by lia),L,e];exact λu u h=>h
def okE(d:D):Prop:=∃v,d=dTup v/\v⁻¹<=30
def Bb{n:Nat}{o:AA}(hn:n<=5)(h:okO n o):okE (au o):=⟨aF o,uH o,by have:=h.len;unfold aF;rw[ae];lia⟩
def LK:∀{L:AS},(∀d∈L,okE d)->∃vs:List (List Int),L=vs.map dTup/\∀v∈vs,v⁻¹<=30
 |[],_=>⟨[],rfl,λy h=>absurd h cp⟩
 |d::L,h=>by
  let(v,rfl,z):=h d a9;let(vs,rfl,q):=LK λx g=>h x (bm _ g);show⟨v::vs,rfl,λx g=>?_⟩;rcases br.mp g with rfl|g
  .exact z
  .exact q x g
def kO{L M:AS}(h1:∀d∈L,okE d)(h2:∀d∈M,okE d):∀d∈L++M,okE d:=λd g=>(ba.mp g).elim (h1 d) (h2 d)
def oN{L:AS}{a b:Option Int}(h:∀d∈L,okE d):∀d∈cut L a b,okE d:=λd g=>h d (List.mem_of_mem_drop (List.mem_of_mem_take g))
def Bc{d:D}(h:okE d):∀x∈[d],okE x:=λx g=>by rw[al.mp g];exact h
def uR{l:AS}{n:Nat}(h:n<l⁻¹):l[n]?=-(l.getD n .non):=by rw[bP,ar h];rfl
def LQ:∀n:Nat,(List.replicate n [D.int 0]).flatten=List.replicate n (.int 0)
 |0=>rfl
 |n+1=>by rw[cr,e8,cr,LQ n];rfl
def okQ(d:D):Prop:=∃L,d=.lst L/\L⁻¹<=130/\∀x∈L,okE x
def uT:RF.Spec:=ghS (A:=AQ×List (AA)×Nat) (λa ds G=>ds=[.ref a.1,.lst (a.2.1.map au),.int (a.2.2:Nat)]/\Pen G a.1/\a.2.2<=5/\(∀o∈a.2.1,okO a.2.2 o)/\1<=a.2.1⁻¹/\a.2.1⁻¹<=120) (λa G d g=>okQ d/\Pen g a.1/\Sb a.1 G g)
def agN{p:AQ}{q:List (AA)}{n:Nat}{G:DH}{k:AT}{E:EK}(M:Pen G p)(hn:n<=5)(L:∀o∈q,okO n o)(h1:1<=q⁻¹)(h2:q⁻¹<=120)(J:∀d g,okQ d->Pen g p->Sb p G g->k d g):uT.t [.ref p,.lst (q.map au),.int (n:Nat)] G k E:=je (p,q,n) ⟨rfl,M,hn,L,h1,h2⟩ λd g z=>J d g z.1 z.2.1 z.2.2
def agO (Z:aj) (h1:Z "_law_take"=dY) (h2:Z "_law_order"=oJ) (a:AQ×List (AA)×Nat) (ds:AS) (G:DH) (h:ds=[.ref a.1,.lst (a.2.1.map au),.int (a.2.2:Nat)]/\Pen G a.1/\a.2.2<=5/\(∀o∈a.2.1,okO a.2.2 o)/\1<=a.2.1⁻¹/\a.2.1⁻¹<=120):az Z yW noE (env0 ds 4) G (ends λd G'=>okQ d/\Pen G' a.1/\Sb a.1 G G'):=by
 let(p,os,n):=a;let(rfl,hp,hn,ho,hl1,hl2):=h;dsimp only at hp hn ho hl1 hl2 ⊢;have g:∀d∈os.map au,okE d:=λd hd=>by
  let(o,h,rfl):=aT.mp hd;exact Bb hn (ho o h)
 have hol:(os.map au)⁻¹=os⁻¹:=ae _;let(nr1,dp1):=LC os;generalize hL:os.map au=L at g hol nr1 dp1;simp_all_arith[yW];nofun;erw[h1];show cA hp (!0) (!0) λr G1 hr hp1 s1=>hM _ _ (seq λM hM=>?_);have hrl:r<L⁻¹:=by lia
 erw[h1];show cA hp1 (!0) (!0) λkd G2 hkd N s2=>hM _ _ (seq λM hM=>?_);have U:=s1.trans s2;simp_arith![ends];cases e0:((kd:Int)==0) with
 |true=>
  erw[ends];have c1:=iZ L none (-(r:Int));have c2:=iZ L (-((r:Int)+1)) none;show⟨by bv_omega,⟨_,rfl,?_,kO (oN g) (oN g)⟩,N,U⟩;rw[mG,yO,ax,de,d5];lia
 |false=>
 simp_arith![ends];symm;simp_arith![ends];cases e1:((kd:Int)==1) with
 |true=>
  erw[ends];have c1:=iZ L none (-(r:Int));have c2:=iZ L (-(r:Int)) none;have hat:atI L (r:Int)=-(L.getD r .non):=bL (uR hrl);show bW hat ⟨by bv_omega,by bv_omega,by rw[ax];simp only[ca,gx];bv_omega,⟨_,rfl,?_,kO (kO (oN g) (Bc (g _ (bv (uR hrl))))) (oN g)⟩,N,U⟩;rw[ax,ax];simp only[ca,gx];rw[mG,yN,de,d5];lia
 |false=>
 simp_arith![ends];symm;simp_arith![ends];by_cases e4:(kd:Int)<4
 .simp only[bo e4];nofun;simp_arith![h1,h2];show cA N (!0) (!0) λm G3 hm hp3 s3=>?_;have em:((1:Int)+(m:Int)).toNat=m+1:=by lia
  simp_arith![h2,em];show⟨!0,CompG.inv (P:=λi J Y G'=>(∃o,Y=[o,-(.ref p),-(.int (n:Nat))])/\Pen G' p/\Sb p G G'/\∃zs:List (AA),J=zs.map au/\zs⁻¹=i/\∀z∈zs,okO n z) ⟨⟨_,rfl⟩,hp3,U.trans s3,[],rfl,rfl,λz hz=>absurd hz cp⟩ (λv v v v v=>trivial) (by unfold aQ;rw[ae,b4];bv_omega) ?_ ?_⟩
  .rintro i d J Y G' hd ⟨⟨o,rfl⟩,hp',hs',zs,rfl,hzl,hz⟩ kk hk;erw[h2];show La hp' (!0) λz G4 hz4 hp4 s4=>hk _ _ _ ⟨⟨_,rfl⟩,hp4,hs'.trans s4,zs++[z],by rw[cf];rfl,by rw[ax,hzl];rfl,λy hy=>?_⟩;rcases ba.mp hy with q|q
   .exact hz y q
   .rw[al.mp q];exact hz4
  .rintro J Y G' ⟨⟨o,rfl⟩,hp',hs',zs,rfl,hzl,hz⟩;have hzl:zs⁻¹=m+1:=by rw[hzl];unfold aQ;rw[ae,b4]
   ac_nf0;simp_arith![ends];show CompG.inv (P:=λi J Y G''=>(∃o,Y=[o,-(.lst L)])/\G''=G'/\J⁻¹<=i/\∀x∈J,okE x) ⟨⟨_,rfl⟩,rfl,av _,λz hz=>absurd hz cp⟩ (λv v v v v=>trivial) (by rw[ae];bv_omega) ?_ ?_
   .rintro i d J Y G' hd ⟨⟨o,rfl⟩,rfl,hal,hae⟩ kk hk;let(z,hzm,rfl):=aT.mp (bv hd);simp_arith![il];show⟨⟨(oE z).1,nr1,!0⟩,?_⟩;cases hc:!isIn (au z) L with
    |true=>
     simp_arith![ends];exact hk _ _ _ ⟨⟨_,rfl⟩,rfl,by rw[ax];exact Nat.add_le_add_right hal 1,kO hae (Bc (Bb hn (hz z hzm)))⟩
    |false=>
     simp_arith![ends];exact hk _ _ _ ⟨⟨_,rfl⟩,rfl,by rw[show J++(none:Option D).toList=J from dL _];lia,by rw[show J++(none:Option D).toList=J from dL _];exact hae⟩
   .rintro J Y G' ⟨⟨o,rfl⟩,rfl,hal,hae⟩;rw[ae]at hal;exact⟨by bv_omega,⟨_,rfl,by rw[ax];lia,kO g hae⟩,hp',hs'⟩
 .simp_arith![bq e4];symm;simp_arith![ends];cases e5:((kd:Int)==4) with
  |true=>
   simp_arith![ends];nofun;simp_arith![b3];have hrg:(aQ 0 n)⁻¹=n:=by unfold aQ;rw[ae,b4]
   show⟨by bv_omega,!0,!0,List.cons_ne_nil _ _,by bv_omega,zG ⟨!1,!1⟩,by bv_omega,⟨!0,!0⟩,by bv_omega,by bv_omega,by bv_omega,hM _ _ (last ?_)⟩;simp_arith![h1];show cA N (!0) (!0) λm G3 hm hp3 s3=>?_;have hodd:∀x∈[D.tup [],D.tup (reps [D.int 0] n),D.tup (D.int (10 ^ Int.toNat 20)::aQ 0 n),D.tup [D.int (Neg.neg 1)]],okE x:=λx hx=>by
    simp only[br,cp,or_false]at hx;rcases hx with rfl|rfl|rfl|rfl
    .exact ⟨[],rfl,ck _⟩
    .show ⟨List.replicate n 0,?_,by rw[cb];lia⟩;change D.tup (List.replicate n [D.int 0]).flatten=.tup _;rw[List.map_replicate,LQ]
    .exact ⟨10 ^ Int.toNat 20::aF (List.range n),by rw[uF];rfl,by unfold aF;rw[ca,ae,b4];lia⟩
    .exact ⟨[Neg.neg 1],rfl,!1⟩
   have hml:m<4:=by lia
   generalize hO:[D.tup [],D.tup (reps [D.int 0] n),D.tup (D.int (10 ^ Int.toNat 20)::aQ 0 n),D.tup [D.int (Neg.neg 1)]]=O at hodd;have hOl:O⁻¹=4:=by rw[<-hO];rfl
   simp_arith![ends];change aR (atI O (m:Int)) _;show bW (a:=O.getD m .non) (bL (uR (!0))) ⟨by bv_omega,by bv_omega,⟨_,rfl,by rw[ax];simp only[ca,gx];lia,kO g (Bc (hodd _ (bv (uR (!0)))))⟩,hp3,U.trans s3⟩
  |false=>
   simp_arith![ends];ac_nf0;simp_arith![ends];exact⟨⟨_,rfl,by rw[List.length_reverse];lia,λd hd=>g d (List.mem_reverse.mp hd)⟩,N,U⟩
def agP(vs:List (List Int)):nrs (vs.map dTup)=true/\bf (vs.map dTup)<=1:=by
 induction vs with
 |nil=>exact⟨rfl,ck _⟩
 |cons v vs g=>
  let(h1,h2):=gA v;rw[a7,nrs,bf,g.1];unfold dTup;rw[nr,dpt,h1,h2];exact⟨rfl,Nat.max_le.mpr ⟨av _,g.2⟩⟩
structure F36(Z:aj):Prop where
 opn:Z "_law_open"=zJ
 anew:Z "_law_anew"=ul
 book:Z "_law_book"=uq
 go:Z "_law_good_orders"=sGO
 bent:Z "_law_bent"=uT
 order:Z "_law_order"=oJ
 take:Z "_law_take"=dY
 ap:Z "is_apart"=jo
 due:Z "_law_due"=jo
def agQ(Z:aj)(F:F36 Z)(ds:AS)(G:DH)(h:∃ns:List Int,ds=[.scr ns]/\ns⁻¹<=63):az Z zE noE (env0 ds 11) G (ends λd y=>d=.bl true):=by
 let(ns,rfl,hl):=h;simp_all_arith[zE];nofun;erw[F.opn];show cF ⟨ns,rfl,hl⟩ λd' G1 hx=>?_;let(p,e1,_,hp,_):=hx;subst e1;symm;simp_arith![ends];show⟨!1,ForG.inv (P:=λi Y G'=>(∃o2 o3 o4 o5 o6 o7 o8 o9 J N,Y=[-(.scr ns),-(.ref p),o2,o3,o4,o5,o6,o7,o8,o9,J,N])/\Pen G' p) ⟨⟨_,_,_,_,_,_,_,_,_,_,rfl⟩,hp⟩ (λy y y y=>trivial) ?_ ?_⟩
 .rintro i d Y G2 O ⟨⟨o2,o3,o4,o5,o6,o7,o8,o9,J,N,rfl⟩,hp2⟩ kk hk;obtain⟨hi,rfl⟩:i<2/\d=.int (i:Int):=by
   unfold aQ at O;rw[aS]at O;let(x,hx,e):=aE.mp O;let(hx1,hx2):=ah.mp hx;rw[b4]at hx1;rw[gv]at hx2;subst hx2;exact⟨hx1,by rw[<-e,gL]⟩
  simp_arith![ends];nofun;simp_arith![F.anew,F.book];show afh hp2 λG3 hp3 y=>?_;have hwm:∃w5 m5:Nat,atI [D.int 4,D.int 3] (i:Int)=-(.int (w5:Nat))/\atI [D.int 4,D.int 5] (i:Int)=-(.int (m5:Nat))/\1<=w5/\w5<=4/\m5<=5:=by
   rcases(show i=0\/i=1 by lia) with rfl|rfl
   .exact ⟨4,4,rfl,rfl,!1,!1,!1⟩
   .exact ⟨3,5,rfl,rfl,!1,!1,!1⟩
  let(w5,m5,ew,em,hw1,hw4,hm5):=hwm;rw[ew,em];simp only[jb];show⟨by bv_omega,by bv_omega,aeS hp3 hw1 (!0) (!0) λw rs G4 hb hw hrs hp4 y=>hM _ _ (seq λM hM=>?_)⟩;have e0:aq w rs=.tup [.int w,.tup (rs.map aM)]:=rfl;erw[e0,ae];rw[<-e0];symm;simp_arith![F.go];show agK hb (!0) λq U dv G5 gq s5 hnd hok h1=>?_;have hp5:=hp4.sa s5;have hmn:=Az (!0) hnd hok;have hod:(U.map aF).map (λn:List Int=>D.tup (n.map .int))=U.map au:=Ax U;simp_arith![jc gq,hod];symm;simp_arith![ends];have hall:∀d∈U.map au,okE d:=λd O=>by
   let(o,h,rfl):=aT.mp O;exact Bb (show rs⁻¹<=5 by lia) (hok o h)
  have hol:(U.map au)⁻¹=U⁻¹:=ae _;show⟨by bv_omega,λr hr=>hM _ _ (uN hr λG6 g6 s6=>seq λM hM=>?_)⟩;have hrp:r≠p:=(hp5.ne hr).symm;have h3:∀d∈[D.lst (U.map au),D.lst [],D.lst (cut (U.map au) none (-1))],okQ d:=λd O=>by
   simp only[br,cp,or_false]at O;rcases O with rfl|rfl|rfl
   .exact ⟨_,rfl,!0,hall⟩
   .exact ⟨[],rfl,ck _,λx hx=>absurd hx cp⟩
   .exact ⟨_,rfl,by have:=iZ (U.map au) none (-1);lia,oN hall⟩
  simp_arith![ends];show⟨!1,ForG.inv (P:=λj Y G'=>(∃o7,Y=[-(.scr ns),-(.ref p),-(.int (i:Int)),-(aq w rs),-(.int (rs⁻¹:Int)),-(.lst (U.map au)),-(.ref r),o7,o8,o9,J,N])/\Pen G' p/\∃L,G' r=-(.lst L)/\L⁻¹=3+j/\∀d∈L,okQ d) ⟨⟨_,rfl⟩,hp5.sa s6,_,g6,rfl,h3⟩ (λy y y y=>trivial) ?_ ?_⟩
  .rintro j d Y G7 O ⟨⟨o7,rfl⟩,hp7,L,g7,hL,hLo⟩ kk1 hk1;have hj:j<3:=by
    have:=(ah.mp O).1;simpa [aQ] using this
   simp_arith![ends];show last ?_;simp_arith![F.bent,JP];show⟨by rw[cL g7];trivial,agN hp7 (!0) hok h1 hmn λx G8 hx hp8 s8=>?_⟩;have g8:=s8 _ _ g7 hrp;rw[cL g8];show⟨by bv_omega,hk1 _ _ ⟨⟨_,rfl⟩,hp8.sb Sb.upd hrp.symm,L++[x],bG,by rw[ax,hL];rfl,λd O=>?_⟩⟩;rcases ba.mp O with z|z
   .exact hLo d z
   .rw[al.mp z];exact hx
  .rintro Y G7 ⟨⟨o7,rfl⟩,hp7,L,g7,hL,hLo⟩;ac_nf0;simp_arith![itemsOf,g7];show ForG.inv (P:=λj Y G'=>(∃o8 o9 J N,Y=[-(.scr ns),-(.ref p),-(.int (i:Int)),-(aq w rs),-(.int (rs⁻¹:Int)),-(.lst (U.map au)),-(.ref r),o7,o8,o9,J,N])/\Pen G' p/\G' r=-(.lst L)) ⟨⟨_,_,_,_,rfl⟩,hp7,g7⟩ ?_ ?_ ?_
   .rintro _ _ _ ⟨_,_,g⟩;exact⟨g,trivial⟩
   .rintro j d Y G8 O ⟨⟨o8,o9,J,N,rfl⟩,hp8,g8⟩ kk1 hk1;let(Ls,rfl,hlen,hel):=hLo _ (bv O);let(vs,rfl,hvs):=LK hel;rw[ae]at hlen;simp_arith![ends];show last ?_;simp_arith![F.order,F.take];show La hp8 (!0) λo1 G9 ho1 hp9 s9=>cA hp9 (!0) (!0) λm G10 hm hp10 s10=>?_;have hml:m<U⁻¹:=by lia
    have g10:=s10 _ _ (s9 _ _ g8 hrp) hrp;have hom:=hok _ (cq hml);simp_arith![ends];show bW (a:=au U[m]) (bL (by rw[aS,ar hml];rfl)) ⟨by bv_omega,?_⟩;generalize U[m]=om at hom;obtain⟨nrv,dpv⟩:nrs (vs.map dTup)=true/\bf (vs.map dTup)<=1:=agP vs;show ForG.inv (P:=λj Y G'=>(∃o9 J N,Y=[-(.scr ns),-(.ref p),-(.int (i:Int)),-(aq w rs),-(.int (rs⁻¹:Int)),-(.lst (U.map au)),-(.ref r),o7,-(.lst (vs.map dTup)),o9,J,N])/\Pen G' p/\G' r=-(.lst L)) ⟨⟨_,_,_,rfl⟩,hp10,g10⟩ (λy y y y=>trivial) ?_ ?_
    .rintro jj d Y Ga O ⟨⟨o9,J,N,rfl⟩,hpa,ga⟩ kk2 hk2;obtain⟨oo,hoo,rfl⟩:∃oo,okO rs⁻¹ oo/\d=au oo:=by
      have:=bv O;simp only[br,cp,or_false]at this;rcases this with rfl|rfl
      .exact ⟨_,ho1,rfl⟩
      .exact ⟨_,hom,rfl⟩
     simp_arith![ends];nofun;simp_arith![ends];symm;have hA:okA36 ⟨w,rs,oo,vs⟩:=⟨hb,hoo,show w<=4 by lia,show rs⁻¹<=5 by lia,hlen,hvs⟩;simp_arith![F.ap];show Lr hA λGb sb=>hM _ _ (last ?_);simp_arith![F.due];show Lr hA λGc sc=>?_;simp_arith![view,deq,sH nrv,BEq.rfl];show⟨⟨nrv,nrv,!0⟩,?_⟩;erw[ends];exact hk2 _ _ ⟨⟨_,_,_,rfl⟩,(hpa.sa sb).sa sc,sc _ _ (sb _ _ ga)⟩
    .rintro Y Ga ⟨⟨o9,J,N,rfl⟩,hpa,ga⟩;exact hk1 _ _ ⟨⟨_,_,_,_,rfl⟩,hpa,ga⟩
   .rintro Y G8 ⟨⟨o8,o9,J,N,rfl⟩,hp8,g8⟩;exact hk _ _ ⟨⟨_,_,_,_,_,_,_,_,_,_,rfl⟩,hp8⟩
 .rintro Y G2 ⟨_,hp2⟩;ac_nf0;erw[ends]
end RF
namespace HD
open PySem PySem.W
def sv(x:Str)(t:Nat):AN:=.str x t
def ri(n:Nat):AN:=.int n 0
def ir (l:AB):Obj:=⟨.type "tuple",none,.seq ⟨l⟩ 0,⟨[]⟩⟩
def fW(c:AN)(l:AB):Obj:=⟨c,none,.fields ⟨l⟩,⟨[]⟩⟩
def oO:Str:="/claim/cut.py"
def Bd(n q:Str)(z L M a b:Nat)(g:Bool)(N O U:AN)(t J:Nat):Obj:=
 fW (.type "code") [sv n t,sv q (t+1),sv oO (t+2),ri z,ri L,ri 0,ri 0,ri M,.ref a,.bool g,ri 181,.ref b,.none,N,O,U,ri J,ri z,sv oO (J+1)]
def toks(t:Nat):AD->AB
 |[]=>[]
 |x::r=>sv x t::toks (t+1) r
def fdO(n q:Str)(p:Arguments)(b:AF)(L:Scope)(g:Nat)(J z:AN):Data:=
 .func {name:=n,qualname:=q,params:=p,body:=.stmts b,scope:=L,globals:=g,closure:=[],defaults:=.none,kwdefaults:=.none,pyModule:=J,code:=z}
def enO(P:Params)(k:Str)(t:Nat)(v:AN):DictEntry:={hash:=PyData.keyHash P k,key:=sv k t,val:=v}
def oR (l:List DictEntry) (e:Nat):Obj:=⟨.type "dict",none,.dict ⟨l⟩ e,⟨[]⟩⟩
def frO (c l:Nat) (g:AN):Obj:=⟨.type "frame",none,.plain,⟨[-(.ref c),-(.ref 3),-(.ref l),none,-g,none,-(.ref 0)]⟩⟩
def bfO (s:AL) (v:AN):Obj:=fW (.type "builtin_function_or_method") [.builtin s,v]
def veM:AB:=[.type "ValueError",.type "Exception",.type "BaseException",.type "object"]
def uU (b:AO):Bool:=match b with |.Name n _=>n==("ValueError":Str)|_=>false
def fnO(q:Str)(a t:Nat)(J:AN)(n:Str)(p:Arguments)(b:AF)(g:Scope)(z:Nat):List Obj:=match localNames p g (.stmts b) with
 |some l=>[ir [],fW .none [],ir (toks (t+3) l.1),ir [],⟨.none,none,fdO n q p b g 0 .none .none,⟨[]⟩⟩,
   Bd n q z p.args⁻¹ 3 a (a+1) true (.ref (a+2)) (.ref (a+3)) (.ref (a+4)) t (t+3+l.1⁻¹),⟨.type "function",none,fdO n q p b g 3 J (.ref (a+5)),⟨[]⟩⟩]
 |none=>[ir [],fW .none [],⟨.none,none,fdO n q p b g 0 .none .none,⟨[]⟩⟩,
   Bd n q z p.args⁻¹ 3 a (a+1) true .none .none (.ref (a+2)) t (t+3),⟨.type "function",none,fdO n q p b g 3 J (.ref (a+3)),⟨[]⟩⟩]
def fnA(p:Arguments)(b:AF)(g:Scope):Nat:=match localNames p g (.stmts b) with|some _=>7|none=>5
def fnT(p:Arguments)(b:AF)(g:Scope):Nat:=match localNames p g (.stmts b) with|some l=>l.1⁻¹+5|none=>5
def dot:Str:="."
structure MO where
 os:List Obj
 es:List DictEntry
 cs:AB
 a:Nat
 t:Nat
def uV(P:Params)(c:Str)(g:AN):AF->Nat->Nat->MO
 |.FunctionDef n p b _ _ _ sc _ _ pos::r,a,t=>
  let m:=uV P c g r (a+fnA p b sc) (t+fnT p b sc+1)
  ⟨fnO (c++dot++n) a t g n p b sc pos.line++m.os,enO P n (t+fnT p b sc) (.ref (a+fnA p b sc-1))::m.es,ri pos.line::ri pos.col::.ref (a+fnA p b sc-2)::m.cs,m.a,m.t⟩
 |_::r,a,t=>uV P c g r a t
 |[],a,t=>⟨[],[],[],a,t⟩
def clA(P:Params)(a:Nat)(b:AF):Nat:=(uV P dot .none b (a+7) 0).a+2
def stO(P:Params)(r:Nat)(sub:AB)(a t:Nat)(z:AN)(s:Stmt):List Obj:=match s with
 |.FunctionDef n p b _ _ _ sc _ _ pos=>fnO n a t z n p b sc pos.line
 |.ClassDef n bs _ body _ _ _ _ _ st pos=>
  let m:=uV P n z body (a+7) (t+12)
  let c:=m.a+2
  let u:=m.t+st⁻¹
  let g:=[enO P "__module__" (t+7) z]
  let q:=enO P "__firstlineno__" (t+11) (.int pos.line (t+10))::m.es++[enO P "__static_attributes__" u (.ref m.a)]
  let b:AB:=match bs with|b::_=>(match uU b with|true=>[.type "ValueError"]|false=>[.ref r]) |[]=>[]
  let own:Bool:=match bs with |[]=>true|_=>false
  let J:Bool:=match bs with|b::_=>uU b |[]=>false
  let wr (v:Nat):Obj:=fW (.type "getset_descriptor") [sv "__weakref__" v,.ref c,.builtin "ExceptionGroup.__weakref__",.none]
  let typ (mro:AB) (sub:AB) (nw:AL):Obj:=
   ⟨.type "type",none,.cls {name:=n,bases:=(match own with|true=>[.type "object"]|false=>b),mro:=.ref c::mro,ns:=m.a+1,qualname:=n,subclasses:=sub},
    ⟨[(match own with|true=>none|false=>-(.ref a)),none,-(sv n t),-(sv n (t+8)),-(.builtin nw),-(.bool true)]⟩⟩
  [ir b,bfO "type.__prepare__" (.type "type"),oR (g++enO P "__qualname__" (t+9) (sv n (t+8))::q) (4+m.es⁻¹),ir [],fW .none m.cs,
   Bd n n pos.line 0 0 (a+3) (a+4) false .none .none .none (t+2) (t+5),frO (a+5) (a+2) z]++m.os++[ir (toks m.t st)] ++
  (match own with
  |true=>[oR (g++q++[enO P "__dict__" (u+2) (.ref (c+1)),enO P "__weakref__" (u+4) (.ref (c+2)),enO P "__doc__" (u+5) .none]) 4,typ [.type "object"] [] "object.__new__",
    fW (.type "getset_descriptor") [sv "__dict__" (u+1),.ref c,.builtin "function.__dict__",.builtin "function.__dict__#set"],wr (u+3)]
  |false=>(match J with
   |true=>[oR (g++q++[enO P "__weakref__" (u+2) (.ref (c+1)),enO P "__doc__" (u+3) .none]) 3,typ veM sub "ValueError.__new__",wr (u+1)]
   |false=>[oR (g++q++[enO P "__doc__" (u+1) .none]) 2,typ (.ref r::veM) [] "ValueError.__new__"])) ++
  [fW (.type "super") [.ref c,.ref c,.ref c],bfO "object.__init_subclass__" (.ref c)]
 |_=>[]
def mdO(t:Nat)(g:AN)(s:Stmt):AN:=match s with
 |.Assign [.Name n _] (.Constant (.str x) _ _) _=>(match n==("__name__":Str) with|true=>sv x t|false=>g)
 |_=>g
def enS(P:Params)(q:Str->AN)(t u a g:Nat)(s:Stmt):List DictEntry:=match s with
 |.Assign [.Name n _] (.Name y _) _=>[enO P n t (q y)]
 |.FunctionDef n _ _ _ _ _ _ _ _ _=>[enO P n (u-1) (.ref (g-1))]
 |.ClassDef n _ _ b _ _ _ _ _ _ _=>[enO P n (u-1) (.ref (clA P a b))]
 |.Assign [.Name n _] (.Constant c _ _) _=>(match n==("__name__":Str) with
  |true=>[]
  |false=>[enO P n (t+1) (match c with |.int i=>.int i t |.str x=>sv x t|_=>.none)])
 |_=>[]
def fnS(g:Nat)(s:Stmt):List (Str×AN):=match s with
 |.FunctionDef n _ _ _ _ _ _ _ _ _=>[(n,.ref (g-1))]
 |_=>[]
def cdS(a g:Nat)(s:Stmt):AB:=match s with
 |.FunctionDef _ _ _ _ _ _ _ _ _ pos=>[ri pos.line,ri pos.col,.ref (g-2)]
 |.ClassDef _ _ _ _ _ _ _ _ _ _ pos=>[ri pos.line,ri pos.col,.ref (a+5)]
 |_=>[]
def sbS(P:Params)(a:Nat)(s:Stmt):AB:=match s with
 |.ClassDef _ bs _ b0 _ _ _ _ _ _ _=>(match bs with|b::_=>(match uU b with|true=>[]|false=>[.ref (clA P a b0)]) |[]=>[])
 |_=>[]
def agR(P:Params)(a:Nat)(s:Stmt):AA:=match s with
 |.ClassDef _ bs _ b0 _ _ _ _ _ _ _=>(match bs with|b::_=>(match uU b with|true=>[clA P a b0]|false=>[]) |[]=>[])
 |_=>[]
def fold{g:Type}(f:Nat->Nat->Nat->Nat->AN->Stmt->List g):List (Nat×Nat)->AN->AF->List g
 | (a,t)::(a',u)::r,md,s::ss=>f a a' t u md s++fold f ((a',u)::r) (mdO t md s) ss
 |_,_,_=>[]
def LR:List (Nat×Nat)->AN->AF->AN
 | (_,t)::r,md,s::ss=>LR r (mdO t md s) ss
 |_,md,_=>md
def iu:AN:=sv "__main__" 164
def agS(P:Params)(v:AN):List DictEntry:=
 [enO P "__name__" 165 v,enO P "__doc__" 166 .none,enO P "__package__" 167 .none,enO P "__loader__" 168 (.builtin "__main__.__loader__#opaque"),enO P "__spec__" 169 .none,
  enO P "__annotations__" 170 (.ref 6),enO P "__builtins__" 171 (.ref 4),enO P "__file__" 173 (sv oO 172),enO P "__cached__" 174 .none]
def ents(N:List (Nat×Nat))(b:AF)(P:Params):List DictEntry:=agS P (LR N iu b)++fold (λa g t u z s=>enS P (λy=>((fold (λz g z z z s=>fnS g s) N iu b).lookup y).getD .none) t u a g s) N iu b
def put{g:Type}:Nat->g->List g->List g
 |_,_,[]=>[]
 |0,x,_::r=>x::r
 |n+1,x,y::r=>y::put n x r
def Ma(cs:AB):List Obj:=[ir [],fW .none cs,
 fW (.type "code") [sv "<module>" 182,sv "<module>" 183,sv oO 184,ri 1,ri 0,ri 0,ri 0,ri 0,.ref 11,.bool false,ri 181,.ref 12,.none,.none,.none,.none,ri 185,ri 1,sv oO 186],frO 13 3 iu]
def agT(B:List Obj):List Obj:=B++Ma []
def objs(B:List Obj)(N:List (Nat×Nat))(b:AF)(P:Params):List Obj:=
 let es:=ents N b P
 put 3 (oR es es⁻¹) (B++Ma (fold (λa g z z z s=>cdS a g s) N iu b) ++
  fold (λa z t z q s=>stO P ((fold (λa z z z z s=>agR P a s) N iu b).headD 0) (fold (λa z z z z s=>sbS P a s) N iu b) a t q s) N iu b)
def evs{g:Type}:List g->List g
 |[]=>[]
 |[x]=>[x]
 |x::_::r=>x::evs r
def bt:Nat->List Obj->BT
 |0,_=>.nil
 |_,[]=>.nil
 |n+1,x::r=>.node x (bt n (evs r)) (bt n (evs r.tail))
def nameless(s:Stmt):Bool:=match s with
 |.Assign [.Name n _] _ _=>!(n==("__name__":Str))
 |_=>true
def pick:Nat->AA->List Obj->Frag
 |i,a::r,o::os=>(match Nat.beq a i with|true=>(a,o)::pick (i+1) r os|false=>pick (i+1) (a::r) os)
 |_,_,_=>[]
end HD
def PySem.W.Fast.tw11852119898103885555:PySem.Program:=PySem.Challenge.pw_starsieve_k36_which_orders_show_apart
theorem PySem.W.Fast.te11852119898103885555:PySem.Challenge.pw_starsieve_k36_which_orders_show_apart=PySem.W.Fast.tw11852119898103885555:=rfl
namespace HK
open PySem PySem.W PySem.W.Fast
def pw:AK:=PySem.Challenge.pw_starsieve_k36_which_orders_show_apart
def rl:OpenLaw:=PySem.Challenge.rw_starsieve_k36_which_orders_show_apart
def NN:List (Nat×Nat):=[(15,187),(15,189),(28,207),(40,223),(52,239),(64,255),(76,271),(76,273),(76,275),(83,282),(90,289),(97,297),(102,303),(109,311),(116,320),(123,331),(130,338),(130,340),(130,342),(130,344),(130,346),(135,352),(142,360),(147,366),(154,373),(161,381),(168,389),(168,391),(175,398),(182,407),(189,418),(196,428),(203,439),(208,445),(208,447),(215,456),(220,462),(227,472),(227,474),(227,476),(227,478),(234,485),(239,491),(246,499),(253,508),(258,514),(265,522),(272,530),(277,536),(282,542),(282,544),(289,555),(296,565),(303,572),(310,583),(315,589),(322,597),(329,607),(336,617),(343,629),(348,635),(355,649),(360,655),(367,665),(374,675),(381,684),(386,690),(391,696),(398,704),(403,710),(410,723),(417,737),(422,743),(429,761)]
def L1(P:Params):List Obj:=HD.objs (boot_heap P).objs.toList NN pw.main.body P
def H1(P:Params):Heap:=⟨⟨L1 P⟩,{}⟩
def T1(P:Params):BT:=HD.bt 12 (L1 P)
def LA(P:Params):List Obj:=HD.agT (boot_heap P).objs.toList
def HA(P:Params):Heap:=⟨⟨LA P⟩,{}⟩
def T0(P:Params):BT:=HD.bt 5 (LA P)
def env:Env:={scope:=pw.main.scope,locals:=mainNs,globals:=mainNs,cells:=[],code:=.ref 13,frame:=-14}
def bE:AF:=behindTheImports pw
def cE:Code:=.body bE env
def p0:Pos:=⟨0,0,0,0⟩
def B:List Frame:=[topFrame p0]
def ann:Option AN:=-(.ref 6)
def qv:AK:={pw with main:={pw.main with body:=pw.main.body.filter HD.nameless}}
def as:AA:=[3,23,24,36,37,48,49,60,61,72,73,81,82,88,89,95,96,100,101,107,108,114,115,121,122,128,129,133,134,140,141,145,146,152,153,159,160,166,167,173,174,180,181,187,188,194,195,201,202,206,207,213,214,218,219,225,226,232,233,237,238,244,245,251,252,256,257,263,264,270,271,275,276,280,281,287,288,294,295,301,302,308,309,313,314,320,321,327,328,334,335,341,342,346,347,353,354,358,359,365,366,372,373,379,380,384,385,389,390,396,397,401,402,408,409,415,416,420,421,427,428]
def K(P:Params):Frag:=HD.pick 0 as (L1 P)
def Xt(s:AI):Bool:=xlAt qv [] s&&recOk (RowW.records rl.row.toRowW) s
def see{g:Type}(_:g):Bool:=true
def primed:(see T1&&see T0&&see H1&&see HA&&see cE&&see B&&see env&&see bE&&see qv&&see K&&see Xt)=true:=by k_qdec
theorem pre(w:World)(g:OsState):topGo treeTable pw w 11 ann 12 ⟨boot_heap w.params,⟨[]⟩,boot_drawn,boot_toks,g⟩ (topStub pw)=-(⟨HA w.params,⟨[]⟩,{},187,g⟩,⟨denote treeTable cE,cE,p0,B⟩):=by have _:=primed;rw[PySem.W.Fast.te15667345088766844465,PySem.W.Fast.te14364793385576792824,PySem.W.Fast.te1032975242618825031,PySem.W.Fast.te8093259214132618727,PySem.W.Fast.te1718297227530528222,PySem.W.Fast.te11892475500146522536];rfl'
theorem block(w:World)(g:OsState):segRun treeTable pw w 11 ann 1 2 ⟨HA w.params,⟨[]⟩,{},187,g⟩ (blockOf bE env cE p0 B)=-(.next,SharedT.abs ⟨T0 w.params,15,{},⟨[]⟩,{},187,g⟩,cE,p0):=by rw[PySem.W.Fast.te14374325043358763698,PySem.W.Fast.te14364793385576792824,PySem.W.Fast.te1032975242618825031,PySem.W.Fast.te8093259214132618727,PySem.W.Fast.te1718297227530528222,PySem.W.Fast.te14938417808399470215,PySem.W.Fast.te16330338443398637341,PySem.W.Fast.te10239294469119128424];rfl'
theorem piece(w:World)(g:OsState):segRunT treeTable pw w 11 ann 1 9000 ⟨T0 w.params,15,{},⟨[]⟩,{},187,g⟩ (piecesOf bE env cE p0 B)=-(.next,⟨T1 w.params,429,{},⟨[]⟩,{},761,g⟩,cE,⟨311,0,326,15⟩):=by rw[PySem.W.Fast.te10110043849684766642,PySem.W.Fast.te14364793385576792824,PySem.W.Fast.te1032975242618825031,PySem.W.Fast.te13069687644243786066,PySem.W.Fast.te14938417808399470215,PySem.W.Fast.te1718297227530528222,PySem.W.Fast.te16330338443398637341,PySem.W.Fast.te10239294469119128424];rfl'
theorem fin(w:World)(g:OsState):topRun treeTable pw w 11 ann 3 (SharedT.abs ⟨T1 w.params,429,{},⟨[]⟩,{},761,g⟩) ⟨doneF .next,cE,⟨311,0,326,15⟩,B⟩=-⟨H1 w.params,⟨[]⟩,{},761,g⟩:=by rw[PySem.W.Fast.te14082659384304107361,PySem.W.Fast.te14364793385576792824,PySem.W.Fast.te1032975242618825031,PySem.W.Fast.te13069687644243786066,PySem.W.Fast.te1718297227530528222,PySem.W.Fast.te14158929756966004236];rfl'
def run(w:World)(g:OsState):topRun treeTable pw w 11 ann (12+(2+(9000+3))) ⟨boot_heap w.params,⟨[]⟩,boot_drawn,boot_toks,g⟩ (topStub pw)=-⟨H1 w.params,⟨[]⟩,{},761,g⟩:=by show go_top (pre w g) (piece_block (block w g) ?_);have h:=piece_app (rest:=[]) (segRun_of (piece w g)) (piece_nil (fin w g));rw[List.append_nil]at h;exact h
def size (w:World):((boot_heap w.params).isNs mainGlobals&&(Array.mk []:Array GenState).size==0,(boot_heap w.params).objs.size,(boot_heap w.params).nsMap mainGlobals "__annotations__")=(true,11,ann):=by rfl'
theorem agU(w:World)(g:OsState):(staticsOk (importedModules pw.main.body) (boot_heap w.params) (H1 w.params)&&namesBound pw (H1 w.params)&&gensDone ⟨H1 w.params,⟨[]⟩,{},761,g⟩&&laidKept (boot_heap w.params) (H1 w.params))=true:=by rw[PySem.W.Fast.te1032975242618825031,PySem.W.Fast.te14158929756966004236,PySem.W.Fast.te5923862056798008813];rfl'
theorem agV(w:World)(g:OsState):openSeen qv [] (importedModules pw.main.body) Xt true ⟨H1 w.params,⟨[]⟩,{},761,g⟩=openGood qv []:=by rw[PySem.W.Fast.te1032975242618825031,PySem.W.Fast.te14158929756966004236,PySem.W.Fast.te5923862056798008813,PySem.W.Fast.te3994408356199485718,PySem.W.Fast.te3154452736318265832,PySem.W.Fast.te4187177175401517315];rfl'
theorem agW(w:World):as.map (H1 w.params).get?=(K w.params).map (λp=>-p.2):=by rw[PySem.W.Fast.te14158929756966004236,PySem.W.Fast.te538113369711794958];rfl'
theorem eAs(P:Params):as=(K P).map (·.1):=by rw[PySem.W.Fast.te538113369711794958];rfl'
def hook:Hook:=kHook K as eAs
def left:LeftO pw qv [] Xt hook.obs hook.val 12000:=by show LeftO.of_pieces (boot_open (by rfl') (!1) (λs=>by rfl')) size run (!1) λw=>funext λg=>?_;exact Prod.ext (agU w g) (Prod.ext (agV w g) (agW w))
end HK
namespace Lk36
open PySem PySem.Spec PyProof.Rows L2 RF
open PySem.W (mg_of mg_none_of)
def Z:aj:=λf=>if f="_law_anew" then ul else if f="_law_spread" then uh else if f="_law_take" then dY else if f="_law_order" then oJ else if f="_law_bent" then uT else if f="_law_signs" then nT else if f="_law_deeds_of" then uo else if f="_law_form" then zH else if f="_law_wider" then ji else if f="_law_within" then ji else if f="_law_form_like" then um else if f="_law_book" then uq else if f="_law_fits" then bc n8 else if f="_law_met" then uz else if f="_law_deed" then uD else if f="_law_words" then ur else if f="_law_all_deeds" then oM else if f="_law_by" then sBy else if f="_law_stepped" then ig else if f="_law_due" then jo else if f="_law_good_orders" then sGO else if f="_law_open" then zJ else if f="first_order" then uG else if f="is_deed" then zV else if f="is_text_of" then zT else if f="is_form" then zU else if f="is_row" then zW else if f="is_whole" then bc jh else if f="is_width" then zX else if f="is_book" then zY else if f="need_book" then kh else if f="is_place" then bc jl else if f="is_order" then oG else if f="need_order" then oH else if f="by_order" then sBy else if f="both" then bc nZ else if f="first_touching" then n6 else if f="splitting_place" then uw else if f="with_sign" then bc ie else if f="grown" then fU 9 else if f="least" then bc kJ else if f="is_named" then bc gr else if f="leaves" then fJ 9 else if f="need_two_books" then uB else if f="deed_of" then uv else if f="same_deeds" then sSD else if f="stars" then bc jk else if f="alike" then uC else if f="parting_word" then uE else if f="is_good" then uK else if f="need_movable" then uJ else if f="exchanged" then ig else if f="steps_from" then uL else if f="is_apart" then jo else if f="law" then nU else bR (λz z=>False) (λz z z z=>False)
def Mg:Z "_law_anew"=ul:=by rfl'
def Mh:Z "_law_spread"=uh:=by rfl'
def fL:Z "_law_take"=dY:=by rfl'
def Be:Z "_law_order"=oJ:=by rfl'
def Mi:Z "_law_bent"=uT:=by rfl'
def Bg:Z "_law_signs"=nT:=by rfl'
def Mj:Z "_law_deeds_of"=uo:=by rfl'
def Ml:Z "_law_form"=zH:=by rfl'
def Mm:Z "_law_wider"=ji:=by rfl'
def Mp:Z "_law_within"=ji:=by rfl'
def Mq:Z "_law_form_like"=um:=by rfl'
def Mr:Z "_law_book"=uq:=by rfl'
def Ms:Z "_law_fits"=bc n8:=by rfl'
def Mt:Z "_law_met"=uz:=by rfl'
def Mu:Z "_law_deed"=uD:=by rfl'
def Mv:Z "_law_words"=ur:=by rfl'
def Bh:Z "_law_all_deeds"=oM:=by rfl'
def Bj:Z "_law_by"=sBy:=by rfl'
def Bk:Z "_law_stepped"=ig:=by rfl'
def Mw:Z "_law_due"=jo:=by rfl'
def Mx:Z "_law_good_orders"=sGO:=by rfl'
def My:Z "_law_open"=zJ:=by rfl'
def Mz:Z "first_order"=uG:=by rfl'
def MF:Z "is_deed"=zV:=by rfl'
def MJ:Z "is_text_of"=zT:=by rfl'
def MK:Z "is_form"=zU:=by rfl'
def MN:Z "is_row"=zW:=by rfl'
def Bl:Z "is_whole"=bc jh:=by rfl'
def MP:Z "is_width"=zX:=by rfl'
def MT:Z "is_book"=zY:=by rfl'
def uW:Z "need_book"=kh:=by rfl'
def Bm:Z "is_place"=bc jl:=by rfl'
def Bo:Z "is_order"=oG:=by rfl'
def Bp:Z "need_order"=oH:=by rfl'
def M3:Z "by_order"=sBy:=by rfl'
def M4:Z "both"=bc nZ:=by rfl'
def Bq:Z "first_touching"=n6:=by rfl'
def M5:Z "splitting_place"=uw:=by rfl'
def Br:Z "with_sign"=bc ie:=by rfl'
def M6:Z "grown"=fU 9:=by rfl'
def M7:Z "least"=bc kJ:=by rfl'
def M8:Z "is_named"=bc gr:=by rfl'
def M9:Z "leaves"=fJ 9:=by rfl'
def Nb:Z "need_two_books"=uB:=by rfl'
def Nf:Z "deed_of"=uv:=by rfl'
def Ng:Z "same_deeds"=sSD:=by rfl'
def Nh:Z "stars"=bc jk:=by rfl'
def Ni:Z "alike"=uC:=by rfl'
def Nj:Z "parting_word"=uE:=by rfl'
def Nk:Z "is_good"=uK:=by rfl'
def Nm:Z "need_movable"=uJ:=by rfl'
def Np:Z "exchanged"=ig:=by rfl'
def Nq:Z "steps_from"=uL:=by rfl'
def Nr:Z "is_apart"=jo:=by rfl'
def bt:List AL:=["all","any","bool","enumerate","int","isinstance","len","list","min","range","set","sorted","str","tuple","zip"]
def cn:List (AL×D):=[("LETTERS",(.str [97,98,99,100,101,102,103,104,105,106,107,108,109,110,111,112,113,114,115,116,117,118,119,120,121,122])),("LONGEST_DEED",(.int 8)),("MOST_ROWS",(.int 12)),("MOST_ROWS_MOVED",(.int 5)),("WIDEST",(.int 6)),("WIDEST_MOVED",(.int 4))]
def xs:List (AL×Bool):=[("NoBook",true),("NoMatch",true),("NoOrder",true),("TooMany",true)]
abbrev CK:=λN s f o b=>aD (aH N (ao s) f bt cn xs o) b (aG s)=true
abbrev BB:=λ(l:PySem.W.OpenLaw) (w:World) (mg:AH) (base:Heap) k f o=>Bse Z l.prog w (HK.K w.params) mg base (CX1 l.prog w) k f bt cn xs o
abbrev NQ:=λP (s:Str) (n:Nat)=>PySem.W.nsIn (HK.K P) mainGlobals s=-(-(.ref n))
abbrev BQ:=λP fd ps=>Binds (HK.K P) fd ps []
abbrev LN:Str:="law_starsieve_k36_which_orders_show_apart"
def f0:List (AL×Nat):=[]
def f1:=("_law_anew",1)::f0
def f2:=("_law_spread",2)::f1
def f3:=("_law_take",2)::f2
def f4:=("_law_order",2)::f3
def f5:=("_law_bent",3)::f4
def f6:=("_law_signs",3)::f5
def f7:=("_law_deeds_of",2)::f6
def f8:=("_law_form",2)::f7
def f9:=("_law_wider",2)::f8
def f10:=("_law_within",2)::f9
def f11:=("_law_form_like",3)::f10
def f12:=("_law_book",3)::f11
def f13:=("_law_fits",2)::f12
def f14:=("_law_met",2)::f13
def f15:=("_law_deed",2)::f14
def f16:=("_law_words",1)::f15
def f17:=("_law_all_deeds",1)::f16
def f18:=("_law_by",2)::f17
def f19:=("_law_stepped",2)::f18
def f20:=("_law_due",3)::f19
def f21:=("_law_good_orders",1)::f20
def f22:=("_law_open",1)::f21
def f23:=("first_order",1)::f22
def f24:=("is_deed",1)::f23
def f25:=("is_text_of",3)::f24
def f26:=("is_form",2)::f25
def f27:=("is_row",2)::f26
def f28:=("is_whole",1)::f27
def f29:=("is_width",1)::f28
def f30:=("is_book",1)::f29
def f31:=("need_book",1)::f30
def f32:=("is_place",2)::f31
def f33:=("is_order",2)::f32
def f34:=("need_order",2)::f33
def f35:=("by_order",2)::f34
def f36:=("both",2)::f35
def f37:=("first_touching",2)::f36
def f38:=("splitting_place",2)::f37
def f39:=("with_sign",3)::f38
def f40:=("grown",3)::f39
def f41:=("least",1)::f40
def f42:=("is_named",3)::f41
def f43:=("leaves",2)::f42
def f44:=("need_two_books",2)::f43
def f45:=("deed_of",2)::f44
def f46:=("same_deeds",3)::f45
def f47:=("stars",1)::f46
def f48:=("alike",2)::f47
def f49:=("parting_word",2)::f48
def f50:=("is_good",2)::f49
def f51:=("need_movable",1)::f50
def f52:=("exchanged",2)::f51
def f53:=("steps_from",1)::f52
def f54:=("is_apart",3)::f53
def S(i:Nat):Stmt:=HK.pw.main.body.getD i (.Pass ⟨0,0,0,0⟩)
def oU:Stmt:=S 52
def agX:fnB ["pen"] ["pen"] (ao oU)=true:=by ac_rfl
def agY:CK ["pen"] oU f0 {} yR:=by ac_rfl
def oV:Stmt:=S 50
def agZ:fnB ["cell","at","one","two","three"] ["cell","at"] (ao oV)=true:=by ac_rfl
def ag0:CK ["cell","at","one","two","three"] oV f1 {} yS:=by ac_rfl
def oW:Stmt:=S 53
def ag1:fnB ["pen","many","at","cell","found"] ["pen","many"] (ao oW)=true:=by ac_rfl
def ag2:CK ["pen","many","at","cell","found"] oW f2 {} yU:=by ac_rfl
def oX:Stmt:=S 65
def ag3:fnB ["pen","many","left"] ["pen","many"] (ao oX)=true:=by ac_rfl
def ag4:CK ["pen","many","left"] oX f3 {} yV:=by ac_rfl
def oY:Stmt:=S 71
def ag5:fnB ["pen","orders","many","at","kind","more","odd"] ["pen","orders","many"] (ao oY)=true:=by ac_rfl
def ag6:CK ["pen","orders","many","at","kind","more","odd"] oY f4 {} yW:=by ac_rfl
def oZ:Stmt:=S 54
def ag7:fnB ["pen","width","signs"] ["pen","width","signs"] (ao oZ)=true:=by ac_rfl
def ag8:CK ["pen","width","signs"] oZ f5 {} yX:=by ac_rfl
def ph:Stmt:=S 59
def ag9:fnB ["pen","most","some","turn","found","letters"] ["pen","most"] (ao ph)=true:=by ac_rfl
def aha:CK ["pen","most","some","turn","found","letters"] ph f6 {} yZ:=by ac_rfl
def pA:Stmt:=S 55
def ahb:fnB ["pen","width"] ["pen","width"] (ao pA)=true:=by ac_rfl
def ahc:CK ["pen","width"] pA f7 {} za:=by ac_rfl
def pB:Stmt:=S 57
def ahd:fnB ["pen","form","found","sign"] ["pen","form"] (ao pB)=true:=by ac_rfl
def ahe:CK ["pen","form","found","sign"] pB f8 {} zb:=by ac_rfl
def pC:Stmt:=S 56
def ahf:fnB ["pen","form","found","sign"] ["pen","form"] (ao pC)=true:=by ac_rfl
def ahg:CK ["pen","form","found","sign"] pC f9 {} zc:=by ac_rfl
def pF:Stmt:=S 58
def ahh:fnB ["pen","width","forms","kind","form","at"] ["pen","width","forms"] (ao pF)=true:=by ac_rfl
def ahi:CK ["pen","width","forms","kind","form","at"] pF f10 {} zf:=by ac_rfl
def pG:Stmt:=S 60
def ahj:fnB ["pen","widest","most","width","deeds","forms","rows","k"] ["pen","widest","most"] (ao pG)=true:=by ac_rfl
def ahk:CK ["pen","widest","most","width","deeds","forms","rows","k"] pG f11 {} zg:=by ac_rfl
def pH:Stmt:=S 62
def ahl:fnB ["form","word","sign","other"] ["form","word"] (ao pH)=true:=by ac_rfl
def ahm:CK ["form","word","sign","other"] pH f12 {} zj:=by ac_rfl
def pI:Stmt:=S 63
def ahn:fnB ["book","word","number","row"] ["book","word"] (ao pI)=true:=by ac_rfl
def aho:CK ["book","word","number","row"] pI f13 {} zm:=by ac_rfl
def pJ:Stmt:=S 64
def ahp:fnB ["book","word","number"] ["book","word"] (ao pJ)=true:=by ac_rfl
def ahq:CK ["book","word","number"] pJ f14 {} zr:=by ac_rfl
def pK:Stmt:=S 61
def ahr:fnB ["form","found","sign","longer","text"] ["form"] (ao pK)=true:=by ac_rfl
def ahs:CK ["form","found","sign","longer","text"] pK f15 {} zu:=by ac_rfl
def pL:Stmt:=S 68
def aht:fnB ["book"] ["book"] (ao pL)=true:=by ac_rfl
def ahu:CK ["book"] pL f16 {} zx:=by ac_rfl
def pM:Stmt:=S 66
def ahv:fnB ["book","order"] ["book","order"] (ao pM)=true:=by ac_rfl
def ahw:CK ["book","order"] pM f17 {} zy:=by ac_rfl
def pN:Stmt:=S 67
def ahx:fnB ["order","place"] ["order","place"] (ao pN)=true:=by ac_rfl
def ahy:CK ["order","place"] pN f18 {} JW:=by ac_rfl
def pO:Stmt:=S 70
def ahz:fnB ["book","order","orders","many","one","due","place","there"] ["book","order","orders"] (ao pO)=true:=by ac_rfl
def ahA:CK ["book","order","orders","many","one","due","place","there"] pO f19 {} zz:=by ac_rfl
def pP:Stmt:=S 69
def ahB:fnB ["book","due","row","found","at","place","there"] ["book"] (ao pP)=true:=by ac_rfl
def ahC:CK ["book","due","row","found","at","place","there"] pP f20 {} zA:=by ac_rfl
def pQ:Stmt:=S 51
def ahD:fnB ["script","cells","k","cell"] ["script"] (ao pQ)=true:=by ac_rfl
def ahE:CK ["script","cells","k","cell"] pQ f21 {} zB:=by ac_rfl
def pR:Stmt:=S 40
def ahF:fnB ["book"] ["book"] (ao pR)=true:=by ac_rfl
def ahG:CK ["book"] pR f22 {} mK:=by ac_rfl
def pU:Stmt:=S 20
def ahH:fnB ["thing"] ["thing"] (ao pU)=true:=by ac_rfl
def ahI:CK ["thing"] pU f23 {} mL:=by ac_rfl
def pW:Stmt:=S 11
def ahJ:fnB ["signs","width","thing"] ["signs","width","thing"] (ao pW)=true:=by ac_rfl
def ahK:CK ["signs","width","thing"] pW f24 {} mO:=by ac_rfl
def pX:Stmt:=S 12
def ahL:fnB ["width","thing"] ["width","thing"] (ao pX)=true:=by ac_rfl
def ahM:CK ["width","thing"] pX f25 {} mQ:=by ac_rfl
def pY:Stmt:=S 21
def ahN:fnB ["width","thing"] ["width","thing"] (ao pY)=true:=by ac_rfl
def ahO:CK ["width","thing"] pY f26 {} mR:=by ac_rfl
def pZ:Stmt:=S 8
def ahP:fnB ["thing"] ["thing"] (ao pZ)=true:=by ac_rfl
def ahQ:CK ["thing"] pZ f27 {} mU:=by ac_rfl
def p6:Stmt:=S 9
def ahR:fnB ["thing"] ["thing"] (ao p6)=true:=by ac_rfl
def ahS:CK ["thing"] p6 f28 {} mV:=by ac_rfl
def p7:Stmt:=S 22
def ahT:fnB ["thing","width","rows"] ["thing"] (ao p7)=true:=by ac_rfl
def ahU:CK ["thing","width","rows"] p7 f29 {} mW:=by ac_rfl
def p8:Stmt:=S 23
def ahV:fnB ["book"] ["book"] (ao p8)=true:=by ac_rfl
def ahW:CK ["book"] p8 f30 {} mX:=by ac_rfl
def qb:Stmt:=S 10
def ahX:fnB ["many","thing"] ["many","thing"] (ao qb)=true:=by ac_rfl
def ahY:CK ["many","thing"] qb f31 {} mY:=by ac_rfl
def qe:Stmt:=S 41
def ahZ:fnB ["book","thing","many"] ["book","thing"] (ao qe)=true:=by ac_rfl
def ah0:CK ["book","thing","many"] qe f32 {} mZ:=by ac_rfl
def qg:Stmt:=S 42
def ah1:fnB ["book","order"] ["book","order"] (ao qg)=true:=by ac_rfl
def ah2:CK ["book","order"] qg f33 {} m6:=by ac_rfl
def qi:Stmt:=S 44
def ah3:fnB ["book","order","width","rows"] ["book","order"] (ao qi)=true:=by ac_rfl
def ah4:CK ["book","order","width","rows"] qi f34 {} m7:=by ac_rfl
def qj:Stmt:=S 14
def ah5:fnB ["form","other","shared","one","two"] ["form","other"] (ao qj)=true:=by ac_rfl
def ah6:CK ["form","other","shared","one","two"] qj f35 {} m8:=by ac_rfl
def ql:Stmt:=S 30
def ah7:fnB ["rows","box","number","row"] ["rows","box"] (ao ql)=true:=by ac_rfl
def ah8:CK ["rows","box","number","row"] ql f36 {} m9:=by ac_rfl
def qm:Stmt:=S 31
def ah9:fnB ["rows","box","number","at","sign"] ["rows","box"] (ao qm)=true:=by ac_rfl
def aia:CK ["rows","box","number","at","sign"] qm f37 {} ni:=by ac_rfl
def qp:Stmt:=S 13
def aib:fnB ["form","at","sign"] ["form","at","sign"] (ao qp)=true:=by ac_rfl
def aic:CK ["form","at","sign"] qp f38 {} nq:=by ac_rfl
def qt:Stmt:=S 32
def aid:fnB ["name","many_rows","box","rows","at","zero","one"] ["name","many_rows","box"] (ao qt)=true:=by ac_rfl
def aie:CK ["name","many_rows","box","rows","at","zero","one"] qt f40 {} j8:=by ac_rfl
def qu:Stmt:=S 15
def qw:Stmt:=S 28
def aif:fnB ["name","many","thing"] ["name","many","thing"] (ao qw)=true:=by ac_rfl
def aig:CK ["name","many","thing"] qw f41 {} nu:=by ac_rfl
def qx:Stmt:=S 29
def aih:fnB ["box","tree","at","zero","one"] ["box","tree"] (ao qx)=true:=by ac_rfl
def aii:CK ["box","tree","at","zero","one"] qx f43 {} jf:=by ac_rfl
def qy:Stmt:=S 24
def aij:fnB ["one","other"] ["one","other"] (ao qy)=true:=by ac_rfl
def aik:CK ["one","other"] qy f43 {} nA:=by ac_rfl
def qz:Stmt:=S 25
def ail:fnB ["book","number"] ["book","number"] (ao qz)=true:=by ac_rfl
def aim:CK ["book","number"] qz f44 {} j9:=by ac_rfl
def qC:Stmt:=S 34
def ain:fnB ["one","other","leaf"] ["one","other","leaf"] (ao qC)=true:=by ac_rfl
def aio:CK ["one","other","leaf"] qC f45 {} nF:=by ac_rfl
def qD:Stmt:=S 27
def aip:fnB ["width"] ["width"] (ao qD)=true:=by ac_rfl
def aiq:CK ["width"] qD f46 {} nG:=by ac_rfl
def qF:Stmt:=S 35
def air:fnB ["one","other","box","tree","parting"] ["one","other"] (ao qF)=true:=by ac_rfl
def ais:CK ["one","other","box","tree","parting"] qF f47 {} nH:=by ac_rfl
def qG:Stmt:=S 36
def ait:fnB ["one","other","name","shown"] ["one","other"] (ao qG)=true:=by ac_rfl
def aiu:CK ["one","other","name","shown"] qG f48 {} nJ:=by ac_rfl
def qH:Stmt:=S 46
def aiv:fnB ["book","order"] ["book","order"] (ao qH)=true:=by ac_rfl
def aiw:CK ["book","order"] qH f49 {} nM:=by ac_rfl
def qI:Stmt:=S 43
def aix:fnB ["book","width","rows"] ["book"] (ao qI)=true:=by ac_rfl
def aiy:CK ["book","width","rows"] qI f50 {} nO:=by ac_rfl
def qJ:Stmt:=S 45
def aiz:fnB ["things","place"] ["things","place"] (ao qJ)=true:=by ac_rfl
def aiA:CK ["things","place"] qJ f51 {} nP:=by ac_rfl
def qK:Stmt:=S 47
def aiB:fnB ["order"] ["order"] (ao qK)=true:=by ac_rfl
def aiC:CK ["order"] qK f52 {} nQ:=by ac_rfl
def qL:Stmt:=S 48
def aiD:fnB ["book","order","orders","standing","reached"] ["book","order","orders"] (ao qL)=true:=by ac_rfl
def aiE:CK ["book","order","orders","standing","reached"] qL f53 {} nR:=by ac_rfl
def qM:Stmt:=S 72
def aiF:fnB ["script","pen","turn","book","many","good","lists","k","some","order","handed","found"] ["script"] (ao qM)=true:=by ac_rfl
def aiG:CK ["script","pen","turn","book","many","good","lists","k","some","order","handed","found"] qM f54 {} zE:=by ac_rfl
def Nt:(⇑"0":Str)=tx [48]:=by ac_rfl
def aiH:(⇑"*":Str)=tx [42]:=by ac_rfl
def aiI:FnScope ["form"] ["form"] (ao qu):=⟨rfl,rfl,rfl,by ac_rfl,rfl,by ac_rfl,by ac_rfl⟩
def aiJ:Sp:=λvs H Q z=>∃l:AA,vs=[.str (tx l)]/\l⁻¹<=1000/\Q (.str (tx (cV l))) H
def aiK {P:AK} {w:World} {K:PF} {mg:AH} {base:Heap} {f:AQ} {fd:AJ} (F:Fun K "least" "least" qu f fd):FnOk P w K mg base CX0 1 f fd ["form"] aiJ:=by
 show F.ok1 aiI rfl (by ac_rfl) (λy=>rfl) (λvs H Q E h=>?_) (λg A outer s H vs Q E z h=>?_)
 .let(l,rfl,_):=h;rfl
 .let(l,rfl,hl,q):=h;show⟨_,Vr (Vt (pv 0) (by ac_rfl)),?_⟩;show⟨_,rfl,_,rfl,?_,?_⟩
  .rw[Nt,cB,cB];simp;lia
  .rw[aiH,Nt,Vs];exact q
def aiL {P:AK} {w:World} {K:PF} {mg:AH} {base:Heap} {f:AQ} {fd:AJ} (F:Fun K "least" "least" qu f fd):FnOk P w K mg base CX0 1 f fd ["form"] (lift K 1 (bc kJ)):=by
 show(aiK F).imp λvs H Q E h=>?_;let(e0,U,G,ds,r,t,(J,Y),(L,M),N,e4):=h;cases L;let(d,g):=Option.isSome_iff_exists.mp M;have z:=g;unfold kJ at g;split at g
 .rename_i l;split at g
  .rename_i hl;cases g;let(v,rfl,O):=bH t;let(rfl,_):=O;have q:l⁻¹<=1000:=of_decide_eq_true hl;exact⟨l,rfl,q,(N _ _ ⟨rfl,z⟩).now r ⟨rfl,by unfold cV;rw[List.length_map];exact Nat.le_trans q (!1)⟩⟩
  .cases g
 .cases g
def fdM(n:Str)(st:Stmt)(m:Str)(t c:Nat):AJ:=PySem.W.fnOf n n (kZ st) (aG st) (ao st) .none .none .none (.str m t) none (.ref c) .none
def mkF {K:PF} {n m:Str} {st:Stmt} {a t c:Nat}(l:K.lookup a=-⟨.type "function",none,.func (fdM n st m t c),⟨[]⟩⟩:=by rfl')(h1:PySem.W.codeIn K (.ref c) n=true:=by eq_refl)(h2:PySem.W.keepIn K (.ref a)=true:=by eq_refl):Fun K n n st a (fdM n st m t c):=Vg l h1 h2
theorem tK:type_of% @PySem.W.Fast.te538113369711794958:=PySem.W.Fast.te538113369711794958
local macro_rules|`(tactic|ac_nf)=>`(tactic|(intro _ _ _ _ _ _ us hl;first|(obtain ⟨_,h⟩:=dh hl;subst h;rfl)|(obtain ⟨_,_,h⟩:=bz hl;subst h;rfl)|(obtain ⟨_,_,_,h⟩:=fu hl;subst h;rfl)))
local macro_rules|`(tactic|eq_refl)=>`(tactic|(first|rw[tK]|(unfold NQ;rw[tK]));rfl')
section
variable {P:Params}
def Nu:AJ:=fdM "_law_anew" oU LN 542 301
theorem Nv:Fun (HK.K P) "_law_anew" "_law_anew" oU 302 Nu:=mkF
theorem aiM:NQ P "_law_anew" 302:=by eq_refl
theorem aiN:BQ P Nu ["pen"]:=Nv.binds (by ac_nf)
def Nx:AJ:=fdM "_law_spread" oV LN 542 287
theorem Ny:Fun (HK.K P) "_law_spread" "_law_spread" oV 288 Nx:=mkF
theorem aiO:NQ P "_law_spread" 288:=by eq_refl
theorem aiP:BQ P Nx ["cell","at"]:=Ny.binds (by ac_nf)
def Nz:AJ:=fdM "_law_take" oW LN 542 308
theorem NB:Fun (HK.K P) "_law_take" "_law_take" oW 309 Nz:=mkF
theorem aiQ:NQ P "_law_take" 309:=by eq_refl
theorem aiR:BQ P Nz ["pen","many"]:=NB.binds (by ac_nf)
def NK:AJ:=fdM "_law_order" oX LN 542 384
theorem NP:Fun (HK.K P) "_law_order" "_law_order" oX 385 NK:=mkF
theorem aiS:NQ P "_law_order" 385:=by eq_refl
theorem aiT:BQ P NK ["pen","many"]:=NP.binds (by ac_nf)
def NT:AJ:=fdM "_law_bent" oY LN 542 420
theorem NZ:Fun (HK.K P) "_law_bent" "_law_bent" oY 421 NT:=mkF
theorem aiU:NQ P "_law_bent" 421:=by eq_refl
theorem aiV:BQ P NT ["pen","orders","many"]:=NZ.binds (by ac_nf)
def N5:AJ:=fdM "_law_signs" oZ LN 542 313
theorem N6:Fun (HK.K P) "_law_signs" "_law_signs" oZ 314 N5:=mkF
theorem aiW:NQ P "_law_signs" 314:=by eq_refl
theorem aiX:BQ P N5 ["pen","width","signs"]:=N6.binds (by ac_nf)
def N7:AJ:=fdM "_law_deeds_of" ph LN 542 346
theorem N8:Fun (HK.K P) "_law_deeds_of" "_law_deeds_of" ph 347 N7:=mkF
theorem aiY:NQ P "_law_deeds_of" 347:=by eq_refl
theorem aiZ:BQ P N7 ["pen","most"]:=N8.binds (by ac_nf)
def Oa:AJ:=fdM "_law_form" pA LN 542 320
theorem Ob:Fun (HK.K P) "_law_form" "_law_form" pA 321 Oa:=mkF
theorem ai0:NQ P "_law_form" 321:=by eq_refl
theorem ai1:BQ P Oa ["pen","width"]:=Ob.binds (by ac_nf)
def Oc:AJ:=fdM "_law_wider" pB LN 542 334
theorem Od:Fun (HK.K P) "_law_wider" "_law_wider" pB 335 Oc:=mkF
theorem ai2:NQ P "_law_wider" 335:=by eq_refl
theorem ai3:BQ P Oc ["pen","form"]:=Od.binds (by ac_nf)
def Oe:AJ:=fdM "_law_within" pC LN 542 327
theorem Og:Fun (HK.K P) "_law_within" "_law_within" pC 328 Oe:=mkF
theorem ai4:NQ P "_law_within" 328:=by eq_refl
theorem ai5:BQ P Oe ["pen","form"]:=Og.binds (by ac_nf)
def Oh:AJ:=fdM "_law_form_like" pF LN 542 341
theorem Oi:Fun (HK.K P) "_law_form_like" "_law_form_like" pF 342 Oh:=mkF
theorem ai6:NQ P "_law_form_like" 342:=by eq_refl
theorem ai7:BQ P Oh ["pen","width","forms"]:=Oi.binds (by ac_nf)
def Oj:AJ:=fdM "_law_book" pG LN 542 353
theorem Ol:Fun (HK.K P) "_law_book" "_law_book" pG 354 Oj:=mkF
theorem ai8:NQ P "_law_book" 354:=by eq_refl
theorem ai9:BQ P Oj ["pen","widest","most"]:=Ol.binds (by ac_nf)
def Om:AJ:=fdM "_law_fits" pH LN 542 365
theorem Oo:Fun (HK.K P) "_law_fits" "_law_fits" pH 366 Om:=mkF
theorem aja:NQ P "_law_fits" 366:=by eq_refl
theorem ajb:BQ P Om ["form","word"]:=Oo.binds (by ac_nf)
def Oq:AJ:=fdM "_law_met" pI LN 542 372
theorem Ot:Fun (HK.K P) "_law_met" "_law_met" pI 373 Oq:=mkF
theorem ajc:NQ P "_law_met" 373:=by eq_refl
theorem ajd:BQ P Oq ["book","word"]:=Ot.binds (by ac_nf)
def Ou:AJ:=fdM "_law_deed" pJ LN 542 379
theorem Ov:Fun (HK.K P) "_law_deed" "_law_deed" pJ 380 Ou:=mkF
theorem aje:NQ P "_law_deed" 380:=by eq_refl
theorem ajf:BQ P Ou ["book","word"]:=Ov.binds (by ac_nf)
def Ow:AJ:=fdM "_law_words" pK LN 542 358
theorem Oz:Fun (HK.K P) "_law_words" "_law_words" pK 359 Ow:=mkF
theorem ajg:NQ P "_law_words" 359:=by eq_refl
theorem ajh:BQ P Ow ["form"]:=Oz.binds (by ac_nf)
def OD:AJ:=fdM "_law_all_deeds" pL LN 542 401
theorem OJ:Fun (HK.K P) "_law_all_deeds" "_law_all_deeds" pL 402 OD:=mkF
theorem aji:NQ P "_law_all_deeds" 402:=by eq_refl
theorem ajj:BQ P OD ["book"]:=OJ.binds (by ac_nf)
def O1:AJ:=fdM "_law_by" pM LN 542 389
theorem O2:Fun (HK.K P) "_law_by" "_law_by" pM 390 O1:=mkF
theorem ajk:NQ P "_law_by" 390:=by eq_refl
theorem ajl:BQ P O1 ["book","order"]:=O2.binds (by ac_nf)
def O3:AJ:=fdM "_law_stepped" pN LN 542 396
theorem O4:Fun (HK.K P) "_law_stepped" "_law_stepped" pN 397 O3:=mkF
theorem ajm:NQ P "_law_stepped" 397:=by eq_refl
theorem ajn:BQ P O3 ["order","place"]:=O4.binds (by ac_nf)
def O5:AJ:=fdM "_law_due" pO LN 542 415
theorem O6:Fun (HK.K P) "_law_due" "_law_due" pO 416 O5:=mkF
theorem ajo:NQ P "_law_due" 416:=by eq_refl
theorem ajp:BQ P O5 ["book","order","orders"]:=O6.binds (by ac_nf)
def O7:AJ:=fdM "_law_good_orders" pP LN 542 408
theorem O8:Fun (HK.K P) "_law_good_orders" "_law_good_orders" pP 409 O7:=mkF
theorem ajq:NQ P "_law_good_orders" 409:=by eq_refl
theorem ajr:BQ P O7 ["book"]:=O8.binds (by ac_nf)
def O9:AJ:=fdM "_law_open" pQ LN 542 294
theorem Pa:Fun (HK.K P) "_law_open" "_law_open" pQ 295 O9:=mkF
theorem ajs:NQ P "_law_open" 295:=by eq_refl
theorem ajt:BQ P O9 ["script"]:=Pa.binds (by ac_nf)
def Pb:AJ:=fdM "first_order" pR "starsieve.moves" 472 232
theorem Pg:Fun (HK.K P) "first_order" "first_order" pR 233 Pb:=mkF
theorem aju:NQ P "first_order" 233:=by eq_refl
theorem mK:BQ P Pb ["book"]:=Pg.binds (by ac_nf)
def Ph:AJ:=fdM "is_deed" pU "starsieve.books" 338 133
theorem Pj:Fun (HK.K P) "is_deed" "is_deed" pU 134 Ph:=mkF
theorem ajv:NQ P "is_deed" 134:=by eq_refl
theorem mL:BQ P Ph ["thing"]:=Pj.binds (by ac_nf)
def Pk:AJ:=fdM "is_text_of" pW "starsieve.forms" 271 100
theorem Pn:Fun (HK.K P) "is_text_of" "is_text_of" pW 101 Pk:=mkF
theorem ajw:NQ P "is_text_of" 101:=by eq_refl
theorem mO:BQ P Pk ["signs","width","thing"]:=Pn.binds (by ac_nf)
def Pq:AJ:=fdM "is_form" pX "starsieve.forms" 271 107
theorem Pr:Fun (HK.K P) "is_form" "is_form" pX 108 Pq:=mkF
theorem ajx:NQ P "is_form" 108:=by eq_refl
theorem mQ:BQ P Pq ["width","thing"]:=Pr.binds (by ac_nf)
def Pu:AJ:=fdM "is_row" pY "starsieve.books" 338 140
theorem Px:Fun (HK.K P) "is_row" "is_row" pY 141 Pu:=mkF
theorem ajy:NQ P "is_row" 141:=by eq_refl
theorem mR:BQ P Pu ["width","thing"]:=Px.binds (by ac_nf)
def Py:AJ:=fdM "is_whole" pZ "starsieve.forms" 271 81
theorem Pz:Fun (HK.K P) "is_whole" "is_whole" pZ 82 Py:=mkF
theorem ajz:NQ P "is_whole" 82:=by eq_refl
theorem mU:BQ P Py ["thing"]:=Pz.binds (by ac_nf)
def PJ:AJ:=fdM "is_width" p6 "starsieve.forms" 271 88
theorem PK:Fun (HK.K P) "is_width" "is_width" p6 89 PJ:=mkF
theorem ajA:NQ P "is_width" 89:=by eq_refl
theorem mV:BQ P PJ ["thing"]:=PK.binds (by ac_nf)
def PL:AJ:=fdM "is_book" p7 "starsieve.books" 338 145
theorem PN:Fun (HK.K P) "is_book" "is_book" p7 146 PL:=mkF
theorem ajB:NQ P "is_book" 146:=by eq_refl
theorem mW:BQ P PL ["thing"]:=PN.binds (by ac_nf)
def PP:AJ:=fdM "need_book" p8 "starsieve.books" 338 152
theorem PQ:Fun (HK.K P) "need_book" "need_book" p8 153 PP:=mkF
theorem ajC:NQ P "need_book" 153:=by eq_refl
theorem mX:BQ P PP ["book"]:=PQ.binds (by ac_nf)
def P0:AJ:=fdM "is_place" qb "starsieve.forms" 271 95
theorem Qa:Fun (HK.K P) "is_place" "is_place" qb 96 P0:=mkF
theorem ajD:NQ P "is_place" 96:=by eq_refl
theorem mY:BQ P P0 ["many","thing"]:=Qa.binds (by ac_nf)
def Qc:AJ:=fdM "is_order" qe "starsieve.moves" 472 237
theorem Qd:Fun (HK.K P) "is_order" "is_order" qe 238 Qc:=mkF
theorem ajE:NQ P "is_order" 238:=by eq_refl
theorem mZ:BQ P Qc ["book","thing"]:=Qd.binds (by ac_nf)
def Qe:AJ:=fdM "need_order" qg "starsieve.moves" 472 244
theorem Qf:Fun (HK.K P) "need_order" "need_order" qg 245 Qe:=mkF
theorem ajF:NQ P "need_order" 245:=by eq_refl
theorem m6:BQ P Qe ["book","order"]:=Qf.binds (by ac_nf)
def Qg:AJ:=fdM "by_order" qi "starsieve.moves" 472 256
theorem Qh:Fun (HK.K P) "by_order" "by_order" qi 257 Qg:=mkF
theorem ajG:NQ P "by_order" 257:=by eq_refl
theorem m7:BQ P Qg ["book","order"]:=Qh.binds (by ac_nf)
def Qi:AJ:=fdM "both" qj "starsieve.forms" 271 121
theorem Qj:Fun (HK.K P) "both" "both" qj 122 Qi:=mkF
theorem ajH:NQ P "both" 122:=by eq_refl
theorem m8:BQ P Qi ["form","other"]:=Qj.binds (by ac_nf)
def Qk:AJ:=fdM "first_touching" ql "starsieve.laid" 389 194
theorem Ql:Fun (HK.K P) "first_touching" "first_touching" ql 195 Qk:=mkF
theorem ajI:NQ P "first_touching" 195:=by eq_refl
theorem m9:BQ P Qk ["rows","box"]:=Ql.binds (by ac_nf)
def Qm:AJ:=fdM "splitting_place" qm "starsieve.laid" 389 201
theorem Qn:Fun (HK.K P) "splitting_place" "splitting_place" qm 202 Qm:=mkF
theorem ajJ:NQ P "splitting_place" 202:=by eq_refl
theorem ni:BQ P Qm ["rows","box"]:=Qn.binds (by ac_nf)
def Qo:AJ:=fdM "with_sign" qp "starsieve.forms" 271 114
theorem Qp:Fun (HK.K P) "with_sign" "with_sign" qp 115 Qo:=mkF
theorem ajK:NQ P "with_sign" 115:=by eq_refl
theorem nq:BQ P Qo ["form","at","sign"]:=Qp.binds (by ac_nf)
def Bt:AJ:=fdM "grown" qt "starsieve.laid" 389 206
theorem uX:Fun (HK.K P) "grown" "grown" qt 207 Bt:=mkF
theorem Qq:NQ P "grown" 207:=by eq_refl
theorem j8:BQ P Bt ["name","many_rows","box"]:=uX.binds (by ac_nf)
def Qs:AJ:=fdM "least" qu "starsieve.forms" 271 128
theorem Bu:Fun (HK.K P) "least" "least" qu 129 Qs:=mkF
theorem ajL:NQ P "least" 129:=by eq_refl
theorem ajM:BQ P Qs ["form"]:=Bu.binds (by ac_nf)
def Qt:AJ:=fdM "is_named" qw "starsieve.laid" 389 180
theorem Qu:Fun (HK.K P) "is_named" "is_named" qw 181 Qt:=mkF
theorem ajN:NQ P "is_named" 181:=by eq_refl
theorem nu:BQ P Qt ["name","many","thing"]:=Qu.binds (by ac_nf)
def Bv:AJ:=fdM "leaves" qx "starsieve.laid" 389 187
theorem uY:Fun (HK.K P) "leaves" "leaves" qx 188 Bv:=mkF
theorem Qv:NQ P "leaves" 188:=by eq_refl
theorem jf:BQ P Bv ["box","tree"]:=uY.binds (by ac_nf)
def Qw:AJ:=fdM "need_two_books" qy "starsieve.books" 338 159
theorem Qx:Fun (HK.K P) "need_two_books" "need_two_books" qy 160 Qw:=mkF
theorem ajO:NQ P "need_two_books" 160:=by eq_refl
theorem nA:BQ P Qw ["one","other"]:=Qx.binds (by ac_nf)
def Qy:AJ:=fdM "deed_of" qz "starsieve.books" 338 166
theorem Qz:Fun (HK.K P) "deed_of" "deed_of" qz 167 Qy:=mkF
theorem ajP:NQ P "deed_of" 167:=by eq_refl
theorem j9:BQ P Qy ["book","number"]:=Qz.binds (by ac_nf)
def QB:AJ:=fdM "same_deeds" qC "starsieve.alike" 445 213
theorem QC:Fun (HK.K P) "same_deeds" "same_deeds" qC 214 QB:=mkF
theorem ajQ:NQ P "same_deeds" 214:=by eq_refl
theorem nF:BQ P QB ["one","other","leaf"]:=QC.binds (by ac_nf)
def QD:AJ:=fdM "stars" qD "starsieve.laid" 389 173
theorem QF:Fun (HK.K P) "stars" "stars" qD 174 QD:=mkF
theorem ajR:NQ P "stars" 174:=by eq_refl
theorem nG:BQ P QD ["width"]:=QF.binds (by ac_nf)
def QG:AJ:=fdM "alike" qF "starsieve.alike" 445 218
theorem QH:Fun (HK.K P) "alike" "alike" qF 219 QG:=mkF
theorem ajS:NQ P "alike" 219:=by eq_refl
theorem nH:BQ P QG ["one","other"]:=QH.binds (by ac_nf)
def QJ:AJ:=fdM "parting_word" qG "starsieve.alike" 445 225
theorem QK:Fun (HK.K P) "parting_word" "parting_word" qG 226 QJ:=mkF
theorem ajT:NQ P "parting_word" 226:=by eq_refl
theorem nJ:BQ P QJ ["one","other"]:=QK.binds (by ac_nf)
def QL:AJ:=fdM "is_good" qH "starsieve.moves" 472 270
theorem QM:Fun (HK.K P) "is_good" "is_good" qH 271 QL:=mkF
theorem ajU:NQ P "is_good" 271:=by eq_refl
theorem nM:BQ P QL ["book","order"]:=QM.binds (by ac_nf)
def QQ:AJ:=fdM "need_movable" qI "starsieve.moves" 472 251
theorem QR:Fun (HK.K P) "need_movable" "need_movable" qI 252 QQ:=mkF
theorem ajV:NQ P "need_movable" 252:=by eq_refl
theorem nO:BQ P QQ ["book"]:=QR.binds (by ac_nf)
def QS:AJ:=fdM "exchanged" qJ "starsieve.moves" 472 263
theorem QT:Fun (HK.K P) "exchanged" "exchanged" qJ 264 QS:=mkF
theorem ajW:NQ P "exchanged" 264:=by eq_refl
theorem nP:BQ P QS ["things","place"]:=QT.binds (by ac_nf)
def QV:AJ:=fdM "steps_from" qK "starsieve.moves" 472 275
theorem QW:Fun (HK.K P) "steps_from" "steps_from" qK 276 QV:=mkF
theorem ajX:NQ P "steps_from" 276:=by eq_refl
theorem nQ:BQ P QV ["order"]:=QW.binds (by ac_nf)
def QX:AJ:=fdM "is_apart" qL "starsieve.moves" 472 280
theorem QZ:Fun (HK.K P) "is_apart" "is_apart" qL 281 QX:=mkF
theorem ajY:NQ P "is_apart" 281:=by eq_refl
theorem nR:BQ P QX ["book","order","orders"]:=QZ.binds (by ac_nf)
def Bw:AJ:=fdM "law" qM LN 542 427
theorem ajZ:Fun (HK.K P) "law" "law" qM 428 Bw:=mkF
theorem aj0:NQ P "law" 428:=by eq_refl
theorem aj1:PySem.W.nsIn (HK.K P) mainGlobals "all"=-none:=by eq_refl
theorem aj2:PySem.W.nsIn (HK.K P) mainGlobals "any"=-none:=by eq_refl
theorem aj3:PySem.W.nsIn (HK.K P) mainGlobals "bool"=-none:=by eq_refl
theorem aj4:PySem.W.nsIn (HK.K P) mainGlobals "enumerate"=-none:=by eq_refl
theorem aj5:PySem.W.nsIn (HK.K P) mainGlobals "int"=-none:=by eq_refl
theorem aj6:PySem.W.nsIn (HK.K P) mainGlobals "isinstance"=-none:=by eq_refl
theorem aj7:PySem.W.nsIn (HK.K P) mainGlobals "len"=-none:=by eq_refl
theorem aj8:PySem.W.nsIn (HK.K P) mainGlobals "list"=-none:=by eq_refl
theorem aj9:PySem.W.nsIn (HK.K P) mainGlobals "min"=-none:=by eq_refl
theorem aka:PySem.W.nsIn (HK.K P) mainGlobals "range"=-none:=by eq_refl
theorem akb:PySem.W.nsIn (HK.K P) mainGlobals "set"=-none:=by eq_refl
theorem akc:PySem.W.nsIn (HK.K P) mainGlobals "sorted"=-none:=by eq_refl
theorem akd:PySem.W.nsIn (HK.K P) mainGlobals "str"=-none:=by eq_refl
theorem ake:PySem.W.nsIn (HK.K P) mainGlobals "tuple"=-none:=by eq_refl
theorem akf:PySem.W.nsIn (HK.K P) mainGlobals "zip"=-none:=by eq_refl
theorem akg:PySem.W.nsIn (HK.K P) mainGlobals "LETTERS"=-(-(.str "abcdefghijklmnopqrstuvwxyz" 344)):=by eq_refl
theorem akh:PySem.W.nsIn (HK.K P) mainGlobals "LONGEST_DEED"=-(-(.int 8 342)):=by eq_refl
theorem aki:PySem.W.nsIn (HK.K P) mainGlobals "MOST_ROWS"=-(-(.int 12 340)):=by eq_refl
theorem akj:PySem.W.nsIn (HK.K P) mainGlobals "MOST_ROWS_MOVED"=-(-(.int 5 474)):=by eq_refl
theorem akk:PySem.W.nsIn (HK.K P) mainGlobals "WIDEST"=-(-(.int 6 273)):=by eq_refl
theorem akl:PySem.W.nsIn (HK.K P) mainGlobals "WIDEST_MOVED"=-(-(.int 4 476)):=by eq_refl
theorem x_s:xsB (HK.K P) xs=true:=by eq_refl
end
section
variable {l:PySem.W.OpenLaw} {w:World} {h:Heap} {mg:AH} {base:Heap} (X:(HK.K w.params).In h) (G:h.Ns mainGlobals mg)
include X G
theorem B0:BB l w mg base 0 f0 {}:=bse trivial ⟨mg_none_of X G aj1,mg_none_of X G aj2,mg_none_of X G aj3,mg_none_of X G aj4,mg_none_of X G aj5,mg_none_of X G aj6,mg_none_of X G aj7,mg_none_of X G aj8,mg_none_of X G aj9,mg_none_of X G aka,mg_none_of X G akb,mg_none_of X G akc,mg_none_of X G akd,mg_none_of X G ake,mg_none_of X G akf,trivial⟩ ⟨aeu (mg_of X G akg) (by ac_rfl) (!1),mJ (mg_of X G akh),mJ (mg_of X G aki),mJ (mg_of X G akj),mJ (mg_of X G akk),mJ (mg_of X G akl),trivial⟩ X G x_s
theorem B1:BB l w mg base 1 f1 {}:=(B0 X G).step Nv aiN (mg_of X G aiM) Mg 0 agX agY rfl rfl (cJ (λds G h=>aey Z  ds G h))
theorem B2:BB l w mg base 2 f2 {}:=(B1 X G).step Ny aiP (mg_of X G aiO) Mh 3 agZ ag0 rfl rfl (cJ (λds G h=>aex Z  ds G h))
theorem B3:BB l w mg base 3 f3 {}:=(B2 X G).step NB aiR (mg_of X G aiQ) fL 3 ag1 ag2 rfl rfl (cJ (λds G h=>aez Z Mh ds G h))
theorem B4:BB l w mg base 4 f4 {}:=(B3 X G).step NP aiT (mg_of X G aiS) Be 1 ag3 ag4 rfl rfl (gW (λa ds G h=>agv Z fL a ds G h))
theorem B5:BB l w mg base 5 f5 {}:=(B4 X G).step NZ aiV (mg_of X G aiU) Mi 4 ag5 ag6 rfl rfl (gW (λa ds G h=>agO Z fL Be a ds G h))
theorem B6:BB l w mg base 6 f6 {}:=(B5 X G).step N6 aiX (mg_of X G aiW) Bg 0 ag7 ag8 rfl rfl (cJ (λds G h=>aeC Z fL ds G h))
theorem B7:BB l w mg base 7 f7 {}:=(B6 X G).step N8 aiZ (mg_of X G aiY) Mj 4 ag9 aha rfl rfl (cJ (λds G h=>aeR Z fL Bg ds G h))
theorem B8:BB l w mg base 8 f8 {}:=(B7 X G).step Ob ai1 (mg_of X G ai0) Ml 0 ahb ahc rfl rfl (cJ (λds G h=>aeD Z fL Bg ds G h))
theorem B9:BB l w mg base 9 f9 {}:=(B8 X G).step Od ai3 (mg_of X G ai2) Mm 2 ahd ahe rfl rfl (cJ (λds G h=>aeJ Z fL ds G h))
theorem B10:BB l w mg base 10 f10 {}:=(B9 X G).step Og ai5 (mg_of X G ai4) Mp 2 ahf ahg rfl rfl (cJ (λds G h=>aeI Z fL ds G h))
theorem B11:BB l w mg base 11 f11 {}:=(B10 X G).step Oi ai7 (mg_of X G ai6) Mq 3 ahh ahi rfl rfl (cJ (λds G h=>aeO Z fL Ml Mp Mm ds G h))
theorem B12:BB l w mg base 12 f12 {}:=(B11 X G).step Ol ai9 (mg_of X G ai8) Mr 5 ahj ahk rfl rfl (cJ (λds G h=>aeU Z fL Mj Mq ds G h))
theorem B13:BB l w mg base 13 f13 {}:=(B12 X G).step Oo ajb (mg_of X G aja) Ms 2 ahl ahm rfl rfl (iY (λds G d h=>afG Z  ds G d h))
theorem B14:BB l w mg base 14 f14 {}:=(B13 X G).step Ot ajd (mg_of X G ajc) Mt 2 ahn aho rfl rfl (bY (λa G h=>afJ Z Ms a G h))
theorem B15:BB l w mg base 15 f15 {}:=(B14 X G).step Ov ajf (mg_of X G aje) Mu 1 ahp ahq rfl rfl (bY (λa G h=>aga Z Mt a G h))
theorem B16:BB l w mg base 16 f16 {}:=(B15 X G).step Oz ajh (mg_of X G ajg) Mv 4 ahr ahs rfl rfl (cJ (λds G h=>aeZ Z  ds G h))
theorem B17:BB l w mg base 17 f17 {}:=(B16 X G).step OJ ajj (mg_of X G aji) Bh 0 aht ahu rfl rfl (gW (λa ds G h=>agJ Z Mv Mu a ds G h))
theorem B18:BB l w mg base 18 f18 {}:=(B17 X G).step O2 ajl (mg_of X G ajk) Bj 0 ahv ahw rfl rfl (bY (λa G h=>agp Z  a G h))
theorem B19:BB l w mg base 19 f19 {}:=(B18 X G).step O4 ajn (mg_of X G ajm) Bk 0 ahx ahy rfl rfl (bY (λa G h=>agt Z  a G h))
theorem B20:BB l w mg base 20 f20 {}:=(B19 X G).step O6 ajp (mg_of X G ajo) Mw 5 ahz ahA rfl rfl (gW (λa ds G h=>agM Z ⟨Bh,Bk,Bj⟩ a ds G h))
theorem B21:BB l w mg base 21 f21 {}:=(B20 X G).step O8 ajr (mg_of X G ajq) Mx 6 ahB ahC rfl rfl (gW (λa ds G h=>agL Z ⟨Bh,Bk,Bj⟩ a ds G h))
theorem B22:BB l w mg base 22 f22 {}:=(B21 X G).step Pa ajt (mg_of X G ajs) My 3 ahD ahE rfl rfl (cJ (λds G h=>aeE Z  ds G h))
theorem B23:BB l w mg base 23 f23 {}:=(B22 X G).step Pg mK (mg_of X G aju) Mz 0 ahF ahG rfl rfl (bY (λa G h=>agi Z  a G h))
theorem B24:BB l w mg base 24 f24 {}:=(B23 X G).step Pj mL (mg_of X G ajv) MF 0 ahH ahI rfl rfl (bY (λa G h=>ae4 Z  a G h))
theorem B25:BB l w mg base 25 f25 {}:=(B24 X G).step Pn mO (mg_of X G ajw) MJ 0 ahJ ahK rfl rfl (bY (λa G h=>ae2 Z  a G h))
theorem B26:BB l w mg base 26 f26 {}:=(B25 X G).step Pr mQ (mg_of X G ajx) MK 0 ahL ahM rfl rfl (bY (λa G h=>ae3 Z MJ a G h))
theorem B27:BB l w mg base 27 f27 {}:=(B26 X G).step Px mR (mg_of X G ajy) MN 0 ahN ahO rfl rfl (bY (λa G h=>ae5 Z MK MF a G h))
theorem B28:BB l w mg base 28 f28 {}:=(B27 X G).step Pz mU (mg_of X G ajz) Bl 0 ahP ahQ rfl rfl (iY (λds G d h=>aeF Z  ds G d h))
theorem B29:BB l w mg base 29 f29 {}:=(B28 X G).step PK mV (mg_of X G ajA) MP 0 ahR ahS rfl rfl (bY (λa G h=>ae6 Z Bl a G h))
theorem B30:BB l w mg base 30 f30 {}:=(B29 X G).step PN mW (mg_of X G ajB) MT 2 ahT ahU rfl rfl (bY (λa G h=>ae7 Z MP MN a G h))
theorem B31:BB l w mg base 31 f31 {}:=(B30 X G).step PQ mX (mg_of X G ajC) uW 0 ahV ahW rfl rfl (bY (λa G h=>ae8 Z MT a G h))
theorem B32:BB l w mg base 32 f32 {}:=(B31 X G).step Qa mY (mg_of X G ajD) Bm 0 ahX ahY rfl rfl (iY (λds G d h=>afL Z Bl ds G d h))
theorem B33:BB l w mg base 33 f33 {}:=(B32 X G).step Qd mZ (mg_of X G ajE) Bo 1 ahZ ah0 rfl rfl (bY (λa G h=>agk Z Bm a G h))
theorem B34:BB l w mg base 34 f34 {}:=(B33 X G).step Qf m6 (mg_of X G ajF) Bp 0 ah1 ah2 rfl rfl (bY (λa G h=>agl Z Bo a G h))
theorem B35:BB l w mg base 35 f35 {}:=(B34 X G).step Qh m7 (mg_of X G ajG) M3 2 ah3 ah4 rfl rfl (bY (λa G h=>ago Z uW Bp a G h))
theorem B36:BB l w mg base 36 f36 {}:=(B35 X G).step Qj m8 (mg_of X G ajH) M4 3 ah5 ah6 rfl rfl (iY (λds G d h=>afk Z  ds G d h))
theorem B37:BB l w mg base 37 f37 {}:=(B36 X G).step Ql m9 (mg_of X G ajI) Bq 2 ah7 ah8 rfl rfl (cJ (λds G h=>afr Z M4 ds G h))
theorem B38:BB l w mg base 38 f38 {}:=(B37 X G).step Qn ni (mg_of X G ajJ) M5 3 ah9 aia rfl rfl (cJ (λds G h=>afu Z Bq ds G h))
theorem B39:BB l w mg base 39 f39 {}:=(B38 X G).step Qp nq (mg_of X G ajK) Br 0 aib aic rfl rfl (iY (λds G d h=>afm Z  ds G d h))
theorem Q0:∀n:Nat,FnOk l.prog w (HK.K w.params) mg base (CX1 l.prog w) (39+n) 207 Bt ["name","many_rows","box"] (lift (HK.K w.params) 3 (fU n))
 |0=>JV afB
 |n+1=>uf (fs:=f40) uX ((B39 X G).self (by ac_rfl) (Q0 n) uX.kp j8 (mg_of X G Qq)) (fU (n+1)) 3 4 aid aie rfl rfl (cJ (λds G h=>afA (jd Z "grown" (fU n)) n (if_pos rfl) (j7 Bq rfl) (j7 M5 rfl) (j7 Br rfl) ds G h))
theorem B40:BB l w mg base 48 f40 {}:=(B39 X G).add (j:=9) M6 (Q0 X G 9) uX.kp j8 (mg_of X G Qq)
theorem B41:BB l w mg base 49 f41 {}:=(B40 X G).add (j:=1) M7 ((aiL Bu).cx.mono (!1)) Bu.kp ajM (mg_of X G ajL)
theorem B42:BB l w mg base 50 f42 {}:=(B41 X G).step Qu nu (mg_of X G ajN) M8 0 aif aig rfl rfl (iY (λds G d h=>afM Z  ds G d h))
theorem Q3:∀n:Nat,FnOk l.prog w (HK.K w.params) mg base (CX1 l.prog w) (50+n) 188 Bv ["box","tree"] (lift (HK.K w.params) 2 (fJ n))
 |0=>JV afP
 |n+1=>uf (fs:=f43) uY ((B42 X G).self (by ac_rfl) (Q3 n) uY.kp jf (mg_of X G Qv)) (fJ (n+1)) 2 3 aih aii rfl rfl (bY (λa G h=>afR (jd Z "leaves" (fJ n)) n (if_pos rfl) (j7 M8 rfl) (j7 Bm rfl) (j7 Br rfl) a G h))
theorem B43:BB l w mg base 59 f43 {}:=(B42 X G).add (j:=9) M9 (Q3 X G 9) uY.kp jf (mg_of X G Qv)
theorem B44:BB l w mg base 60 f44 {}:=(B43 X G).step Qx nA (mg_of X G ajO) Nb 0 aij aik rfl rfl (bY (λa G h=>af4 Z uW a G h))
theorem B45:BB l w mg base 61 f45 {}:=(B44 X G).step Qz j9 (mg_of X G ajP) Nf 0 ail aim rfl rfl (cJ (λds G h=>afc Z  ds G h))
theorem B46:BB l w mg base 62 f46 {}:=(B45 X G).step QC nF (mg_of X G ajQ) Ng 0 ain aio rfl rfl (bY (λa G h=>af6 Z Nf a G h))
theorem B47:BB l w mg base 63 f47 {}:=(B46 X G).step QF nG (mg_of X G ajR) Nh 0 aip aiq rfl rfl (iY (λds G d h=>afn Z  ds G d h))
theorem B48:BB l w mg base 64 f48 {}:=(B47 X G).step QH nH (mg_of X G ajS) Ni 3 air ais rfl rfl (gW (λa ds G h=>af8 Z Nb M6 M9 M7 Nh Ng a ds G h))
theorem B49:BB l w mg base 65 f49 {}:=(B48 X G).step QK nJ (mg_of X G ajT) Nj 2 ait aiu rfl rfl (bY (λa G h=>agd Z Ni a G h))
theorem B50:BB l w mg base 66 f50 {}:=(B49 X G).step QM nM (mg_of X G ajU) Nk 0 aiv aiw rfl rfl (bY (λa G h=>agr Z Nj M3 a G h))
theorem B51:BB l w mg base 67 f51 {}:=(B50 X G).step QR nO (mg_of X G ajV) Nm 2 aix aiy rfl rfl (bY (λa G h=>agn Z uW a G h))
theorem B52:BB l w mg base 68 f52 {}:=(B51 X G).step QT nP (mg_of X G ajW) Np 0 aiz aiA rfl rfl (bY (λa G h=>K9 Z  a G h))
theorem B53:BB l w mg base 69 f53 {}:=(B52 X G).step QW nQ (mg_of X G ajX) Nq 0 aiB aiC rfl rfl (bY (λa G h=>agy Z Np a G h))
theorem B54:BB l w mg base 70 f54 {}:=(B53 X G).step QZ nR (mg_of X G ajY) Nr 2 aiD aiE rfl rfl (gW (λa ds G h=>agI Z ⟨Nm,Bp,Bo,Mz,Nq,Nk⟩ a ds G h))
theorem akm:FnOk l.prog w (HK.K w.params) mg base (CX1 l.prog w) 71 428 Bw ["script"] (lift (HK.K w.params) 1 (nU)):=uf ajZ (B54 X G) (nU) 1 11 aiF aiG rfl rfl (cJ (λds G h=>agQ Z ⟨My,Mg,Mr,Mx,Mi,Be,fL,Nr,Mw⟩ ds G h))
omit X G in
theorem all (fa:AQ) (X:(HK.K w.params).In h) (G:h.Ns mainGlobals mg) (g:mg "law"=-(.ref fa)):∃fd:AJ,(∀(s:AI) (v:AN),BindsTo s fd ⟨[v],[]⟩ [("script",v)])/\∀base:Heap,(HK.K w.params).In base->base.Ns mainGlobals mg->FnOk l.prog w (HK.K w.params) mg base (CX1 l.prog w) 71 fa fd ["script"] (lift (HK.K w.params) 1 (nU)):=by have e:=g.symm.trans (PySem.W.mg_of X G aj0);cases e;exact⟨Bw,λs v=>.of_eq rfl,λbase z z=>akm X G⟩
end
def walk {l:PySem.W.OpenLaw} {q:AK} {loose:AD} {XP:(AH)->Heap->Prop} {d:DefRec} (hn:l.most=-63) (g:d.params.defaults=[]) (J:d.name="law"):
  PySem.W.WalkO q loose XP HK.hook.says l.row.toRowW d [] (λf vs=>PySem.call f vs):=
 L2.Vf (n:=63) (k:=71) (x:="script") (K:=HK.K) (CX:=λw=>CX1 l.prog w) (sp:=λw=>lift (HK.K w.params) 1 (nU)) hn (!1) g ⟨rfl,!1,!1⟩ (λy y Y=>Y) (λw mg fa h X G L=>all fa X G (J ▸ L)) (λw H a ns hl M N=>aev (aew λns y hl=>⟨ns,rfl,hl⟩) (HK.K w.params) H a ns hl M N) λy y y y y z=>abf z
end Lk36
end
open PySem PySem.W PyProof.Rows
set_option maxHeartbeats 0 in
theorem PySem.Challenge.cw_starsieve_k36_which_orders_show_apart_holds : PySem.Challenge.rw_starsieve_k36_which_orders_show_apart.Holds := by
 have said:PySem.Challenge.rw_starsieve_k36_which_orders_show_apart.row.wellSaid=true:=by decide +kernel
 refine ⟨by decide +kernel,?_⟩;refine PySem.W.holds_open (q:=HK.qv) (loose:=[]) (Xt:=HK.Xt) (XP:=XL HK.qv []) (Yf:=HK.hook.obs) (Ya:=HK.hook.val) (YP:=HK.hook.says) (N:=12000) HK.left HK.hook.of HK.hook.keeps
  (λs e=>xl_of s (Bool.and_eq_true_iff.mp e).1) XL.keeps (by rfl) (by rfl) (by rfl) (λs e=>recFacts_of (Bool.and_eq_true_iff.mp e).2) (by rfl) (by assumption) (by decide +kernel) ⟨rfl,rfl,rfl,rfl,rfl,by decide +kernel⟩ ?hw ?hc
 case hw=>exact ⟨[.list []],by decide +kernel,by decide +kernel⟩
 exact Lk36.walk rfl rfl rfl
