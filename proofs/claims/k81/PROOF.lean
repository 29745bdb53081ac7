import PyProof.Rows.All
import Wide.All
import OpenK.AllK
import Wide.FinOn
import Lean
import PyProof.EqAt
import PyProof.EqKinds
import PyProof.TupleCall
import PyProof.NeKinds
import PyProof.FactsAll.range_2
import PyProof.FactsAll.tuple_2
import PyProof.FactsAll.tuple_3
import PyProof.FactsAll.tuple
import PyProof.ListRange
import PyProof.ExcInit
import KE.KDictList
import PyProof.DictCompW
import PyProof.IsiNone
import PyProof.TupleKey
import PyProof.SetRoads
import KE.KSortTup
import PySem.Challenge.RW_starsieve_k81_whole_ways_by_a_sieve
set_option compiler.extract_closed false
set_option bootstrap.genMatcherCode false
set_option genSizeOf false
set_option Elab.async false
set_option maxRecDepth 100000
set_option tactic.hygienic false
noncomputable section
local macro_rules|`($x⁻¹)=>`(($x).length)
local macro_rules|`(tactic|show $x)=>`(tactic|refine $x)
local macro_rules|`(!2)=>`(by simp)
open Lean in
def pZ:Nat->TSyntax `term->MacroM (TSyntax `rcasesPat)
 |0,_=>Macro.throwUnsupported
 |n+1,t=>do
  match t with
  |`(⟨$a,*⟩)=>do
   let l←a.getElems.mapM λx=>do let p←pZ n x;`(Lean.Parser.Tactic.rcasesPatLo|$p:rcasesPat)
   `(rcasesPat|⟨$l,*⟩)
  |`(($b,$a,*))=>do
   let l←(#[b]++a.getElems).mapM λx=>do let p←pZ n x;`(Lean.Parser.Tactic.rcasesPatLo|$p:rcasesPat)
   `(rcasesPat|⟨$l,*⟩)
  |`($i:ident)=>`(rcasesPat|$i:ident)
  |`(_)=>`(rcasesPat|_)
  |_=>Macro.throwUnsupported
local macro_rules|`(tactic|let $p:term:=$e)=>do let q←pZ 9 p;`(tactic|obtain $q:rcasesPat:=$e)
local macro_rules|`(-$x)=>`(some $x)
def hY(v r:Lean.Syntax):Lean.MacroM Lean.Syntax:=do if (v.find? fun x=>x.isOfKind `Lean.Parser.Tactic.renameI||x.isOfKind `Lean.Parser.Tactic.«tacticNext_=>_»||x.isOfKind `Lean.Parser.Tactic.case).isSome then let r:Lean.TSyntax `command:=⟨r⟩;return ←`(set_option tactic.hygienic true in $r:command) else return r
local macro_rules|`(def $n:declId $s:optDeclSig $v:declVal)=>do hY v ((←`(noncomputable def $n:declId $s:optDeclSig $v:declVal)).raw.rewriteBottomUp (·.setInfo .none))
local macro_rules|`(abbrev $n:declId $s:optDeclSig $v:declVal)=>do return (←`(noncomputable abbrev $n:declId $s:optDeclSig $v:declVal)).raw.rewriteBottomUp (·.setInfo .none)
local macro_rules|`(theorem $n:declId $s:declSig $v:declVal)=>do
 if n.raw.getPos?.isNone then Lean.Macro.throwUnsupported
 hY v ((←`(theorem $n:declId $s:declSig $v:declVal)).raw.rewriteBottomUp (·.setInfo .none))
def nZf.{u}{a:Sort u}(h:false=true):a:=nomatch h
local macro_rules|`(~~~$x)=>`(($x).heap.objs.size)
local macro_rules|`(↥$x)=>`(PySem.wpAny (PySem.model ($x).prog ($x).w) ($x).A)
local macro_rules|`(!0)=>`(by lia)
local macro_rules|`(!1)=>`(by decide)
local macro_rules|`(!!$x)=>`(by simpa using $x)
local macro_rules|`(⇑$x)=>`(PySem.Str.ofString $x)
abbrev AA:=List Nat
abbrev AB:=List PySem.Value
abbrev AC:=List (PySem.Addr×PySem.Obj)
abbrev AD:=List PySem.Str
abbrev AE:=List PySem.Expr
abbrev AF:=List PySem.Stmt
abbrev AG:=PySem.Value->PySem.Shared->Prop
abbrev AH:=PySem.Str->Option PySem.Value
abbrev AI:=PySem.Shared
abbrev AJ:=PySem.FuncData
abbrev AK:=PySem.Program
abbrev AL:=String
abbrev AM:=PySem.Around
abbrev AN:=PySem.Value
abbrev AO:=PySem.Expr
abbrev AQ:=PySem.Addr
local macro_rules|`(tactic|rfl')=>`(tactic|kernel_rfl)
local macro_rules|`(tactic|ac_rfl)=>`(tactic|decide +kernel)
abbrev PF:=PySem.W.Frag
set_option linter.all false
theorem wsR:PySem.Challenge.rw_starsieve_k81_whole_ways_by_a_sieve.row.wellSaid=true:=by decide +kernel
theorem wsL:PySem.Challenge.rw_starsieve_k81_whole_ways_by_a_sieve.wellSaid=true:=by decide +kernel
namespace HD
open PySem PySem.W
def sv(x:Str)(t:Nat):AN:=.str x t
def ri(n:Nat):AN:=.int n 0
def ir (l:AB):Obj:=⟨.type "tuple",none,.seq ⟨l⟩ 0,⟨[]⟩⟩
def fZ(c:AN)(l:AB):Obj:=⟨c,none,.fields ⟨l⟩,⟨[]⟩⟩
def pH:Str:="/claim/cut.py"
def CQ(n q:Str)(z J fl a b:Nat)(g:Bool)(L N O:AN)(t I:Nat):Obj:=
 fZ (.type "code") [sv n t,sv q (t+1),sv pH (t+2),ri z,ri J,ri 0,ri 0,ri fl,.ref a,.bool g,ri 181,.ref b,.none,L,N,O,ri I,ri z,sv pH (I+1)]
def toks(t:Nat):AD->AB
 |[]=>[]
 |x::r=>sv x t::toks (t+1) r
def fdO(n q:Str)(p:Arguments)(b:AF)(J:Scope)(g:Nat)(I z:AN):Data:=
 .func {name:=n,qualname:=q,params:=p,body:=.stmts b,scope:=J,globals:=g,closure:=[],defaults:=.none,kwdefaults:=.none,pyModule:=I,code:=z}
def enO(P:Params)(k:Str)(t:Nat)(v:AN):DictEntry:={hash:=PyData.keyHash P k,key:=sv k t,val:=v}
def pI (l:List DictEntry) (e:Nat):Obj:=⟨.type "dict",none,.dict ⟨l⟩ e,⟨[]⟩⟩
def frO (c l:Nat) (g:AN):Obj:=⟨.type "frame",none,.plain,⟨[-(.ref c),-(.ref 3),-(.ref l),none,-g,none,-(.ref 0)]⟩⟩
def bfO (s:AL) (v:AN):Obj:=fZ (.type "builtin_function_or_method") [.builtin s,v]
def veM:AB:=[.type "ValueError",.type "Exception",.type "BaseException",.type "object"]
def vM (b:AO):Bool:=match b with |.Name n _=>n==("ValueError":Str)|_=>false
def fnO(q:Str)(a t:Nat)(I:AN)(n:Str)(p:Arguments)(b:AF)(g:Scope)(z:Nat):List Obj:=match localNames p g (.stmts b) with
 |some l=>[ir [],fZ .none [],ir (toks (t+3) l.1),ir [],⟨.none,none,fdO n q p b g 0 .none .none,⟨[]⟩⟩,
   CQ n q z p.args⁻¹ 3 a (a+1) true (.ref (a+2)) (.ref (a+3)) (.ref (a+4)) t (t+3+l.1⁻¹),⟨.type "function",none,fdO n q p b g 3 I (.ref (a+5)),⟨[]⟩⟩]
 |none=>[ir [],fZ .none [],⟨.none,none,fdO n q p b g 0 .none .none,⟨[]⟩⟩,
   CQ n q z p.args⁻¹ 3 a (a+1) true .none .none (.ref (a+2)) t (t+3),⟨.type "function",none,fdO n q p b g 3 I (.ref (a+3)),⟨[]⟩⟩]
def fnA(p:Arguments)(b:AF)(g:Scope):Nat:=match localNames p g (.stmts b) with|some _=>7|none=>5
def fnT(p:Arguments)(b:AF)(g:Scope):Nat:=match localNames p g (.stmts b) with|some l=>l.1⁻¹+5|none=>5
def dot:Str:="."
structure MO where
 os:List Obj
 es:List DictEntry
 cs:AB
 a:Nat
 t:Nat
def vN(P:Params)(c:Str)(g:AN):AF->Nat->Nat->MO
 |.FunctionDef n p b _ _ _ sc _ _ pos::r,a,t=>
  let m:=vN P c g r (a+fnA p b sc) (t+fnT p b sc+1)
  ⟨fnO (c++dot++n) a t g n p b sc pos.line++m.os,enO P n (t+fnT p b sc) (.ref (a+fnA p b sc-1))::m.es,ri pos.line::ri pos.col::.ref (a+fnA p b sc-2)::m.cs,m.a,m.t⟩
 |_::r,a,t=>vN P c g r a t
 |[],a,t=>⟨[],[],[],a,t⟩
def clA(P:Params)(a:Nat)(b:AF):Nat:=(vN P dot .none b (a+7) 0).a+2
def stO(P:Params)(r:Nat)(sub:AB)(a t:Nat)(z:AN)(s:Stmt):List Obj:=match s with
 |.FunctionDef n p b _ _ _ sc _ _ pos=>fnO n a t z n p b sc pos.line
 |.ClassDef n bs _ body _ _ _ _ _ st pos=>
  let m:=vN P n z body (a+7) (t+12)
  let c:=m.a+2
  let u:=m.t+st⁻¹
  let g:=[enO P "__module__" (t+7) z]
  let q:=enO P "__firstlineno__" (t+11) (.int pos.line (t+10))::m.es++[enO P "__static_attributes__" u (.ref m.a)]
  let b:AB:=match bs with|b::_=>(match vM b with|true=>[.type "ValueError"]|false=>[.ref r]) |[]=>[]
  let own:Bool:=match bs with |[]=>true|_=>false
  let I:Bool:=match bs with|b::_=>vM b |[]=>false
  let wr (v:Nat):Obj:=fZ (.type "getset_descriptor") [sv "__weakref__" v,.ref c,.builtin "ExceptionGroup.__weakref__",.none]
  let typ (mro:AB) (sub:AB) (nw:AL):Obj:=
   ⟨.type "type",none,.cls {name:=n,bases:=(match own with|true=>[.type "object"]|false=>b),mro:=.ref c::mro,ns:=m.a+1,qualname:=n,subclasses:=sub},
    ⟨[(match own with|true=>none|false=>-(.ref a)),none,-(sv n t),-(sv n (t+8)),-(.builtin nw),-(.bool true)]⟩⟩
  [ir b,bfO "type.__prepare__" (.type "type"),pI (g++enO P "__qualname__" (t+9) (sv n (t+8))::q) (4+m.es⁻¹),ir [],fZ .none m.cs,
   CQ n n pos.line 0 0 (a+3) (a+4) false .none .none .none (t+2) (t+5),frO (a+5) (a+2) z]++m.os++[ir (toks m.t st)] ++
  (match own with
  |true=>[pI (g++q++[enO P "__dict__" (u+2) (.ref (c+1)),enO P "__weakref__" (u+4) (.ref (c+2)),enO P "__doc__" (u+5) .none]) 4,typ [.type "object"] [] "object.__new__",
    fZ (.type "getset_descriptor") [sv "__dict__" (u+1),.ref c,.builtin "function.__dict__",.builtin "function.__dict__#set"],wr (u+3)]
  |false=>(match I with
   |true=>[pI (g++q++[enO P "__weakref__" (u+2) (.ref (c+1)),enO P "__doc__" (u+3) .none]) 3,typ veM sub "ValueError.__new__",wr (u+1)]
   |false=>[pI (g++q++[enO P "__doc__" (u+1) .none]) 2,typ (.ref r::veM) [] "ValueError.__new__"])) ++
  [fZ (.type "super") [.ref c,.ref c,.ref c],bfO "object.__init_subclass__" (.ref c)]
 |_=>[]
def mdO(t:Nat)(g:AN)(s:Stmt):AN:=match s with
 |.Assign [.Name n _] (.Constant (.str x) _ _) _=>(match n==("__name__":Str) with|true=>sv x t|false=>g)
 |_=>g
def enS(P:Params)(q:Str->AN)(t u a g:Nat)(s:Stmt):List DictEntry:=match s with
 |.Assign [.Name n _] (.Name y _) _=>[enO P n t (q y)]
 |.FunctionDef n _ _ _ _ _ _ _ _ _=>[enO P n (u-1) (.ref (g-1))]
 |.ClassDef n _ _ b _ _ _ _ _ _ _=>[enO P n (u-1) (.ref (clA P a b))]
 |.Assign [.Name n _] (.Constant c _ _) _=>(match n==("__name__":Str) with
  |true=>[]
  |false=>[enO P n (t+1) (match c with |.int i=>.int i t |.str x=>sv x t|_=>.none)])
 |_=>[]
def fnS(g:Nat)(s:Stmt):List (Str×AN):=match s with
 |.FunctionDef n _ _ _ _ _ _ _ _ _=>[(n,.ref (g-1))]
 |_=>[]
def cdS(a g:Nat)(s:Stmt):AB:=match s with
 |.FunctionDef _ _ _ _ _ _ _ _ _ pos=>[ri pos.line,ri pos.col,.ref (g-2)]
 |.ClassDef _ _ _ _ _ _ _ _ _ _ pos=>[ri pos.line,ri pos.col,.ref (a+5)]
 |_=>[]
def sbS(P:Params)(a:Nat)(s:Stmt):AB:=match s with
 |.ClassDef _ bs _ b0 _ _ _ _ _ _ _=>(match bs with|b::_=>(match vM b with|true=>[]|false=>[.ref (clA P a b0)]) |[]=>[])
 |_=>[]
def aio(P:Params)(a:Nat)(s:Stmt):AA:=match s with
 |.ClassDef _ bs _ b0 _ _ _ _ _ _ _=>(match bs with|b::_=>(match vM b with|true=>[clA P a b0]|false=>[]) |[]=>[])
 |_=>[]
def fold{g:Type}(f:Nat->Nat->Nat->Nat->AN->Stmt->List g):List (Nat×Nat)->AN->AF->List g
 | (a,t)::(a',u)::r,md,s::ss=>f a a' t u md s++fold f ((a',u)::r) (mdO t md s) ss
 |_,_,_=>[]
def Ob:List (Nat×Nat)->AN->AF->AN
 | (_,t)::r,md,s::ss=>Ob r (mdO t md s) ss
 |_,md,_=>md
def iu:AN:=sv "__main__" 164
def aip(P:Params)(v:AN):List DictEntry:=
 [enO P "__name__" 165 v,enO P "__doc__" 166 .none,enO P "__package__" 167 .none,enO P "__loader__" 168 (.builtin "__main__.__loader__#opaque"),enO P "__spec__" 169 .none,
  enO P "__annotations__" 170 (.ref 6),enO P "__builtins__" 171 (.ref 4),enO P "__file__" 173 (sv pH 172),enO P "__cached__" 174 .none]
def ents(N:List (Nat×Nat))(b:AF)(P:Params):List DictEntry:=aip P (Ob N iu b)++fold (λa g t u z s=>enS P (λy=>((fold (λz g z z z s=>fnS g s) N iu b).lookup y).getD .none) t u a g s) N iu b
def put{g:Type}:Nat->g->List g->List g
 |_,_,[]=>[]
 |0,x,_::r=>x::r
 |n+1,x,y::r=>y::put n x r
def Oc(cs:AB):List Obj:=[ir [],fZ .none cs,
 fZ (.type "code") [sv "<module>" 182,sv "<module>" 183,sv pH 184,ri 1,ri 0,ri 0,ri 0,ri 0,.ref 11,.bool false,ri 181,.ref 12,.none,.none,.none,.none,ri 185,ri 1,sv pH 186],frO 13 3 iu]
def aiq(B:List Obj):List Obj:=B++Oc []
def objs(B:List Obj)(N:List (Nat×Nat))(b:AF)(P:Params):List Obj:=
 let es:=ents N b P
 put 3 (pI es es⁻¹) (B++Oc (fold (λa g z z z s=>cdS a g s) N iu b) ++
  fold (λa z t z q s=>stO P ((fold (λa z z z z s=>aio P a s) N iu b).headD 0) (fold (λa z z z z s=>sbS P a s) N iu b) a t q s) N iu b)
def evs{g:Type}:List g->List g
 |[]=>[]
 |[x]=>[x]
 |x::_::r=>x::evs r
def bt:Nat->List Obj->BT
 |0,_=>.nil
 |_,[]=>.nil
 |n+1,x::r=>.node x (bt n (evs r)) (bt n (evs r.tail))
def nameless(s:Stmt):Bool:=match s with
 |.Assign [.Name n _] _ _=>!(n==("__name__":Str))
 |_=>true
def pick:Nat->AA->List Obj->Frag
 |i,a::r,o::os=>(match Nat.beq a i with|true=>(a,o)::pick (i+1) r os|false=>pick (i+1) (a::r) os)
 |_,_,_=>[]
end HD
def PySem.W.Fast.tw16111264638999081727:PySem.Program:=PySem.Challenge.pw_starsieve_k81_whole_ways_by_a_sieve
theorem PySem.W.Fast.te16111264638999081727:PySem.Challenge.pw_starsieve_k81_whole_ways_by_a_sieve=PySem.W.Fast.tw16111264638999081727:=rfl
namespace HK
open PySem PySem.W PySem.W.Fast
def pw:AK:=PySem.Challenge.pw_starsieve_k81_whole_ways_by_a_sieve
def rl:OpenLaw:=PySem.Challenge.rw_starsieve_k81_whole_ways_by_a_sieve
def NN:List (Nat×Nat):=[(15,187),(22,194),(22,196),(35,214),(47,230),(59,246),(71,262),(83,278),(95,294),(107,310),(107,312),(107,314),(114,321),(121,328),(128,336),(133,342),(140,350),(147,358),(152,364),(159,373),(166,384),(173,393),(180,400),(180,402),(180,404),(180,406),(180,408),(185,414),(192,422),(197,428),(204,435),(211,443),(218,451),(225,463),(232,471),(232,473),(239,480),(246,489),(253,500),(260,510),(267,521),(272,527),(279,536),(284,542),(284,544),(291,553),(296,559),(303,569),(303,571),(303,573),(303,575),(310,582),(315,588),(322,596),(329,605),(334,611),(341,619),(348,627),(353,633),(360,648),(367,657),(367,659),(374,669),(374,671),(451,767),(451,769),(458,780),(465,790),(472,797),(479,808),(484,814),(491,822),(498,832),(505,842),(512,854),(517,860),(524,874),(529,880),(536,891),(541,897),(546,903),(551,909),(558,920)]
def L1(P:Params):List Obj:=HD.objs (boot_heap P).objs.toList NN pw.main.body P
def H1(P:Params):Heap:=⟨⟨L1 P⟩,{}⟩
def T1(P:Params):BT:=HD.bt 12 (L1 P)
def LA(P:Params):List Obj:=HD.aiq (boot_heap P).objs.toList
def HA(P:Params):Heap:=⟨⟨LA P⟩,{}⟩
def T0(P:Params):BT:=HD.bt 5 (LA P)
def env:Env:={scope:=pw.main.scope,locals:=mainNs,globals:=mainNs,cells:=[],code:=.ref 13,frame:=-14}
def bE:AF:=behindTheImports pw
def cE:Code:=.body bE env
def p0:Pos:=⟨0,0,0,0⟩
def B:List Frame:=[topFrame p0]
def ann:Option AN:=-(.ref 6)
def qv:AK:={pw with main:={pw.main with body:=pw.main.body.filter HD.nameless}}
def as:AA:=[3,30,31,43,44,55,56,67,68,79,80,91,92,103,104,112,113,119,120,126,127,131,132,145,146,157,158,164,165,171,172,178,179,183,184,190,191,195,196,202,203,209,210,216,217,230,231,237,238,244,245,251,252,258,259,265,266,270,271,277,278,282,283,289,290,294,295,301,302,308,309,313,314,320,321,327,328,332,333,339,340,346,347,351,352,358,359,365,366,372,373,386,387,393,394,414,415,435,436,445,446,456,457,463,464,470,471,477,478,482,483,489,490,496,497,503,504,510,511,515,516,522,523,527,528,534,535,539,540,544,545,549,550,556,557]
def K(P:Params):Frag:=HD.pick 0 as (L1 P)
def Xt(s:AI):Bool:=xlAt qv [] s&&recOk (RowW.records rl.row.toRowW) s
def see{g:Type}(_:g):Bool:=true
def primed:(see T1&&see T0&&see H1&&see HA&&see cE&&see B&&see env&&see bE&&see qv&&see K&&see Xt)=true:=by k_qdec
theorem pre(w:World)(g:OsState):topGo treeTable pw w 11 ann 12 ⟨boot_heap w.params,⟨[]⟩,boot_drawn,boot_toks,g⟩ (topStub pw)=-(⟨HA w.params,⟨[]⟩,{},187,g⟩,⟨denote treeTable cE,cE,p0,B⟩):=by have _:=primed;rw[PySem.W.Fast.te15667345088766844465,PySem.W.Fast.te14364793385576792824,PySem.W.Fast.te1032975242618825031,PySem.W.Fast.te8093259214132618727,PySem.W.Fast.te1718297227530528222,PySem.W.Fast.te11892475500146522536];rfl'
theorem block(w:World)(g:OsState):segRun treeTable pw w 11 ann 1 2 ⟨HA w.params,⟨[]⟩,{},187,g⟩ (blockOf bE env cE p0 B)=-(.next,SharedT.abs ⟨T0 w.params,15,{},⟨[]⟩,{},187,g⟩,cE,p0):=by rw[PySem.W.Fast.te14374325043358763698,PySem.W.Fast.te14364793385576792824,PySem.W.Fast.te1032975242618825031,PySem.W.Fast.te8093259214132618727,PySem.W.Fast.te1718297227530528222,PySem.W.Fast.te14938417808399470215,PySem.W.Fast.te16330338443398637341,PySem.W.Fast.te10239294469119128424];rfl'
theorem piece(w:World)(g:OsState):segRunT treeTable pw w 11 ann 1 9000 ⟨T0 w.params,15,{},⟨[]⟩,{},187,g⟩ (piecesOf bE env cE p0 B)=-(.next,⟨T1 w.params,558,{},⟨[]⟩,{},920,g⟩,cE,⟨368,0,375,15⟩):=by rw[PySem.W.Fast.te10110043849684766642,PySem.W.Fast.te14364793385576792824,PySem.W.Fast.te1032975242618825031,PySem.W.Fast.te13069687644243786066,PySem.W.Fast.te14938417808399470215,PySem.W.Fast.te1718297227530528222,PySem.W.Fast.te16330338443398637341,PySem.W.Fast.te10239294469119128424];rfl'
theorem fin(w:World)(g:OsState):topRun treeTable pw w 11 ann 3 (SharedT.abs ⟨T1 w.params,558,{},⟨[]⟩,{},920,g⟩) ⟨doneF .next,cE,⟨368,0,375,15⟩,B⟩=-⟨H1 w.params,⟨[]⟩,{},920,g⟩:=by rw[PySem.W.Fast.te14082659384304107361,PySem.W.Fast.te14364793385576792824,PySem.W.Fast.te1032975242618825031,PySem.W.Fast.te13069687644243786066,PySem.W.Fast.te1718297227530528222,PySem.W.Fast.te14158929756966004236];rfl'
def run(w:World)(g:OsState):topRun treeTable pw w 11 ann (12+(2+(9000+3))) ⟨boot_heap w.params,⟨[]⟩,boot_drawn,boot_toks,g⟩ (topStub pw)=-⟨H1 w.params,⟨[]⟩,{},920,g⟩:=by show go_top (pre w g) (piece_block (block w g) ?_);have h:=piece_app (rest:=[]) (segRun_of (piece w g)) (piece_nil (fin w g));rw[List.append_nil]at h;exact h
def size (w:World):((boot_heap w.params).isNs mainGlobals&&(Array.mk []:Array GenState).size==0,(boot_heap w.params).objs.size,(boot_heap w.params).nsMap mainGlobals "__annotations__")=(true,11,ann):=by rfl'
theorem air(w:World)(g:OsState):(staticsOk (importedModules pw.main.body) (boot_heap w.params) (H1 w.params)&&namesBound pw (H1 w.params)&&gensDone ⟨H1 w.params,⟨[]⟩,{},920,g⟩&&laidKept (boot_heap w.params) (H1 w.params))=true:=by rw[PySem.W.Fast.te1032975242618825031,PySem.W.Fast.te14158929756966004236,PySem.W.Fast.te5923862056798008813];rfl'
theorem ais(w:World)(g:OsState):openSeen qv [] (importedModules pw.main.body) Xt true ⟨H1 w.params,⟨[]⟩,{},920,g⟩=openGood qv []:=by rw[PySem.W.Fast.te1032975242618825031,PySem.W.Fast.te14158929756966004236,PySem.W.Fast.te5923862056798008813,PySem.W.Fast.te3994408356199485718,PySem.W.Fast.te3154452736318265832,PySem.W.Fast.te4187177175401517315];rfl'
theorem ait(w:World):as.map (H1 w.params).get?=(K w.params).map (λp=>-p.2):=by rw[PySem.W.Fast.te14158929756966004236,PySem.W.Fast.te538113369711794958];rfl'
theorem eAs(P:Params):as=(K P).map (·.1):=by rw[PySem.W.Fast.te538113369711794958];rfl'
def hook:Hook:=kHook K as eAs
def left:LeftO pw qv [] Xt hook.obs hook.val 12000:=by show LeftO.of_pieces (boot_open (by rfl') (!1) (λs=>by rfl')) size run (!1) λw=>funext λg=>?_;exact Prod.ext (air w g) (Prod.ext (ais w g) (ait w))
end HK
namespace L2
open PySem PySem.Spec PyProof.Rows
def ae:=@PySem.wpAny_bind
def af:=@Bool.and_eq_true
def ag:=@List.length_map
def ah:=@PySem.Heap.get?_push_of_some
def ai:=@List.getElem?_eq_getElem
def al:=@List.mem_singleton
def am:=@List.length_append
def ar:=@Nat.le_refl
def av:=@List.getElem?_eq_some_iff
def aw:=@PySem.wpAny_pure
def ax:=@List.size_toArray
def ay:=@List.mem_append_right
def aE:=@List.mem_append
def aI:=@PySem.Heap.lt_size
def aS:=@List.mem_cons_of_mem
def aT:=@Option.map_eq_some_iff
def a7:=@PySem.Heap.get?_push_size
def a8:=@List.getElem?_map
def a9:=@beq_iff_eq
def ba:=@List.mem_cons_self
def bg:=@List.map_cons
def bi:=@List.getD_eq_getElem?_getD
def bm:=@List.contains_iff_mem
def bo:=@List.mem_cons
def bp:=@Option.some.injEq
def bq:=@Bool.false_ne_true
def br:=@List.drop_eq_getElem_cons
def bv:type_of% @Int.toNat_natCast:=@Int.toNat_natCast
def bB:=@List.map_append
def bP:=@List.mem_map
def bS:=@Nat.lt_of_lt_of_le
def bX:=@decide_eq_false
def b3:=@Nat.le_trans
def b4:type_of% @List.length_cons:=@List.length_cons
def b6:=@List.length_take
def b9:=@List.all_eq_true
def ca:type_of% @List.length_singleton:=@List.length_singleton
def cb:=@Nat.ne_of_lt
def ce:=@Option.isSome_iff_exists
def cf:=@decide_eq_true
def ci:=@Nat.le_add_right
def ck:=@List.mem_of_getElem?
def cm:=@List.map_map
def cp:=@List.length_range
def cq:=@List.getElem_mem
def cr:=@Int.eq_ofNat_of_zero_le
def cw:=@Option.some.inj
def cy:type_of% @List.replicate_succ:=@List.replicate_succ
def cK:type_of% @Array.length_toList:=@Array.length_toList
def cS:=@beq_eq_false_iff_ne
def c6:=@List.mem_append_left
def c8:=@PySem.wpAny_mono
def c9:=@List.map_congr_left
def da:=@List.getElem?_append_left
def dc:=@List.not_mem_nil
def de:=@List.length_drop
def df:=@of_decide_eq_true
def dk:=@Nat.le_succ
def dr:=@List.length_replicate
def dv:=@PySem.mem_of_lookup
def dy:=@List.getElem?_append_right
def dA:=@Nat.zero_le
def dE:=@decide_eq_true_iff
def dP:=@List.cons.injEq
def dQ:=@Bool.or_eq_true
def dS:=@List.findIdx?_eq_some_iff_getElem
def d0:=@Nat.lt_irrefl
def d6:=@PyProof.Rows.callWith_type1
def ee:=@List.length_eq_zero_iff
def ef:=@List.nodup_cons
def eh:=@List.append_nil
def et:=@PySem.wpAny_callSpecial?_slot
def ez:=@PySem.Heap.size_push
def eA:=@PySem.W.kia_one
def eD:=@List.length_set
def eI:=@PySem.wpAny_field
def eJ:=@PySem.wpAny_holding
def eK:=@List.take_of_length_le
def eM:=@List.take_add_one
def eP:=@List.eraseIdx_eq_take_drop_succ
def eR:=@Array.getElem?_toList
def eS:=@congrArg
def eT:type_of% @List.flatten_cons:=@List.flatten_cons
def eW:type_of% @Option.map_some:=@Option.map_some
def e7:=@List.drop_eq_nil_of_le
def e8:=@PySem.wpAny_truthy_bool
def e9:=@List.isEmpty_iff
def fb:=@PySem.F.slot_dict_keyiterator_next
def fe:=@List.findIdx?_cons
def ff:=@PySem.sizeLine_eq
def fg:=@PySem.wpAny_call_entry
def fh:=@PySem.wpAny_setField_rec
def fi:=@PySem.wpAny_seqItems
def fk:=@List.append_assoc
def fm:=@True.intro
def fo:=@PyProof.Rows.slot_tuple_getitem
def fq:type_of% @List.filterMap_cons:=@List.filterMap_cons
def ft:=@PySem.wpAny_newObj_type
def fv:=@Nat.lt_succ_self
def fw:=@List.take_length
def fy:=@Int.emod_lt_of_pos
def fA:=@List.mem_filter
def fE:=@List.dropLast_concat_getLast
def fF:=@Int.emod_nonneg
def fI:type_of% @List.find?_cons:=@List.find?_cons
def fN:=@PySem.wpAny_typeNameOfWhole_keyiter
def fR:=@Bool.not_eq_true'
def fS:=@PySem.wpAny_passesOwn
def fT:=@List.nodup_nil
def ga:=@List.mem_range
def gc:=@List.mem_of_mem_take
def ge:=@Nat.ne_of_gt
def gg:=@List.drop_length
def gl:=@PySem.F.slot_tuple_iterator_next
def gt:=@Bool.eq_iff_iff
def gu:=@List.countP_append
def gv:=@PySem.F.plainAttrs_list
def gx:type_of% @List.length_nil:=@List.length_nil
def gy:=@PySem.wpAny_typeNameOf_keyiter
def gI:=@and_true
def gL:=@List.map_nil
def gN:=@List.flatMap_cons
def gT:=@List.filter_eq_nil_iff
def gV:=@List.Perm.refl
def gX:=@List.take_append_drop
def g6:=@List.getElem?_eq_none
def g7:=@List.cons_lt_cons_iff
def g9:=@Nat.min_eq_right
def hJ:=@List.cons.inj
def hU:=@PySem.wpAny_standAt
def hV:=@PySem.Paired.length
abbrev Key:=Sum Int Str
def gM:Key->AN->Bool
 |.inl k,v=>Value.isInt k v
 |.inr x,v=>Value.isStrOf x v
def Tc(w:World):Key->Int
 |.inl k=>hashInt k
 |.inr x=>hashStr w x
def gb:∀{k:Key}{v:AN},gM k v=true->(∃i t,k=Sum.inl i/\v=Value.int i t)\/(∃x t,k=Sum.inr x/\v=Value.str x t)
 |.inl i,v,h=>by
  let(t,e):=Value.isInt_shape (k:=i) (v:=v) h;exact .inl ⟨i,t,rfl,e⟩
 |.inr x,v,h=>by
  let(t,e):=Value.isStrOf_shape (x:=x) (v:=v) h;exact .inr ⟨x,t,rfl,e⟩
def Td(i:Int)(t:Tok):gM (.inl i) (.int i t)=true:=by simp[gM,Value.isInt]
def Te(x:Str)(t:Tok):gM (.inr x) (.str x t)=true:=by simp[gM,Value.isStrOf]
def Tf(a b:Int):decide ((Sum.inl a:Key)=Sum.inl b)=(a==b):=by
 by_cases e:a=b
 .subst e;simp
 .have h:¬(Sum.inl a:Key)=Sum.inl b:=λq=>e (Sum.inl.inj q);rw[bX h];exact(cS.mpr e).symm
def Th(a b:Str):decide ((Sum.inr a:Key)=Sum.inr b)=decide (a=b):=by
 by_cases e:a=b
 .subst e;simp
 .have h:¬(Sum.inr a:Key)=Sum.inr b:=λq=>e (Sum.inr.inj q);rw[bX h,bX e]
def Ti(a:Int)(b:Str):decide ((Sum.inl a:Key)=Sum.inr b)=false:=bX (λq=>nomatch q)
def Tj(a:Str)(b:Int):decide ((Sum.inr a:Key)=Sum.inl b)=false:=bX (λq=>nomatch q)
def bQ(prog:AK)(w:World):PySem.KeyKind prog w Key where
 is:=gM
 hash:=Tc w
 inj:=λv a b z q=>by
  rcases gb z with⟨i,t,rfl,rfl⟩|⟨x,t,rfl,rfl⟩
  .rcases gb q with⟨j,u,rfl,e⟩|⟨y,u,rfl,e⟩
   .injection e with e1 _;rw[e1]
   .exact nomatch e
  .rcases gb q with⟨j,u,rfl,e⟩|⟨y,u,rfl,e⟩
   .exact nomatch e
   .injection e with e1 _;rw[e1]
 byValue:=λk v h=>by
  rcases gb h with⟨i,t,rfl,rfl⟩|⟨x,t,rfl,rfl⟩<;>rfl
 pyHash:=λg h=>by
  rcases gb g with⟨i,t,rfl,rfl⟩|⟨x,t,rfl,rfl⟩
  .exact wpAny_pyHash_int h
  .exact wpAny_pyHash_str h
 eqBool:=λI g h=>by
  rcases gb I with⟨i,t,rfl,rfl⟩|⟨x,t,rfl,rfl⟩
  .rcases gb g with⟨j,u,rfl,rfl⟩|⟨y,u,rfl,rfl⟩
   .rw[Tf]at h;exact wpAny_eqBool_int h
   .rw[Ti]at h;exact SeqAt.EqAt.int_str i t y u _ _ _ _ h
  .rcases gb g with⟨j,u,rfl,rfl⟩|⟨y,u,rfl,rfl⟩
   .rw[Tj]at h;exact SeqAt.EqAt.str_int x t j u _ _ _ _ h
   .rw[Th]at h;exact wpAny_eqBool_str h
 «strs»:=λk x t v h=>by
  rcases gb h with⟨i,u,rfl,e⟩|⟨y,u,rfl,e⟩
  .exact nomatch e
  .injection e with e1 _;subst e1;cases v<;>rfl
def Ds(prog:AK)(w:World)(i:Int)(t:Tok):(bQ prog w).is (.inl i) (.int i t)=true:=Td i t
def Dt(prog:AK)(w:World)(x:Str)(t:Tok):(bQ prog w).is (.inr x) (.str x t)=true:=Te x t
inductive V where
 |non |bl (b:Bool) |int (i:Int) |str (x:Str) |byt (b:Array UInt8) |flt (b:UInt64) |ref (a:AQ) |ty (n:AL)
 deriving DecidableEq
abbrev AR:=List V
def RelV:V->AN->Prop
 |.non,u=>u=Value.none
 |.bl b,u=>u=Value.bool b
 |.int i,u=>∃t,u=Value.int i t
 |.str x,u=>∃t,u=Value.str x t
 |.byt b,u=>∃t,u=Value.bytes b t
 |.flt b,u=>∃t,u=Value.float b t
 |.ref a,u=>u=Value.ref a
 |.ty n,u=>u=Value.type n
abbrev Vals:AR->AB->Prop:=Paired RelV
def Vals.length{xs:AR}{us:AB}(r:Vals xs us):xs⁻¹=us⁻¹:=hV r
def Vals.get:∀{xs:AR}{us:AB}{i:Nat}{x:V},Vals xs us->xs[i]?=-x->∃u,us[i]?=-u/\RelV x u
 |_,_,_,_,.nil,e=>by simp at e
 |_,_,0,_,.cons r _,e=>by simp at e;subst e;exact⟨_,rfl,r⟩
 |_,_,i+1,x,.cons _ t,e=>by
  let(u,h1,h2):=Vals.get (i:=i) (x:=x) t (!!e);exact⟨u,!!h1,h2⟩
def Vals.set{x:V}{u:AN}(r:RelV x u):∀{xs:AR}{us:AB}(i:Nat),Vals xs us->Vals (xs.set i x) (us.set i u)
 |_,_,_,.nil=>.nil
 |_,_,0,.cons _ t=>.cons r t
 |_,_,i+1,.cons q t=>.cons q (Vals.set r i t)
def Vals.append:∀{xs ys:AR}{us g:AB},Vals xs us->Vals ys g->Vals (xs++ys) (us++g)
 |_,_,_,_,.nil,s=>s
 |_,_,_,_,.cons r t,s=>.cons r (Vals.append t s)
def Vals.take:∀{xs:AR}{us:AB}(n:Nat),Vals xs us->Vals (xs.take n) (us.take n)
 |_,_,0,_=>.nil
 |_,_,_+1,.nil=>.nil
 |_,_,n+1,.cons r t=>.cons r (Vals.take n t)
def Vals.drop:∀{xs:AR}{us:AB}(n:Nat),Vals xs us->Vals (xs.drop n) (us.drop n)
 |_,_,0,r=>r
 |_,_,_+1,.nil=>.nil
 |_,_,n+1,.cons _ t=>Vals.drop n t
def RelO:Option V->Option AN->Prop
 |some v,-u=>RelV v u
 |none,none=>True
 |_,_=>False
def KV{κ:Type}:List (κ×V)->List (κ×AN)->Prop:=Paired λ(p:κ×V) (q:κ×AN)=>p.1=q.1/\RelV p.2 q.2
def kV:Key->V
 |.inl i=>.int i
 |.inr x=>.str x
inductive HO where
 |lst (xs:AR)
 |tup (xs:AR)
 |dK (kvs:List (Key×V)) |dT (kvs:List (List Key×V))
 |set (S:Int->Bool) (n:Nat)
 |ins (C dx:AQ) (fs:List (Str×V))
 |own (x:AQ)
 |xd (fs:List (Str×V))
 |met (f x:AQ)
 |rng (lo hi:Int)
 |frz (o:Obj) (u:HO)
 |tbl (ps:Array AN)
 |ext (φ:Heap->Prop)
abbrev Hp:=AQ->Option HO
def upd(H:Hp)(a:AQ)(o:HO):Hp:=λb=>if b=a then some o else H b
def bj{H:Hp}{a:AQ}{o:HO}:upd H a o a=-o:=by unfold upd;rw[if_pos rfl]
def aA{H:Hp}{a b:AQ}{o:HO}(h:b≠a):upd H a o b=H b:=by unfold upd;rw[if_neg h]
def Du{H:Hp}{a:AQ}{o u:HO}:upd (upd H a o) a u=upd H a u:=by funext b;unfold upd;split<;>rfl
def lr{H:Hp}{a b:AQ}{o u:HO}(h:H a=-o)(h':H b=-u)(d:o≠u):a≠b:=by intro e;subst e;rw[h]at h';exact d (cw h')
def aU{H:Hp}{a b:AQ}{o:HO}(h:H a=-o)(h':H b=none):a≠b:=by intro e;subst e;rw[h]at h';cases h'
def IsTupX (h:Heap) (a:AQ) (g:Array AN):Prop:=∃o,h.get? a=-o/\(o.cls=.type "tuple"/\o.dict=none)/\∃n,o.data=.seq g n
def IsTupX.tup{h:Heap}{a:AQ}{g:Array AN}(x:IsTupX h a g):IsTup h a g:=let⟨o,e,c,r⟩:=x;⟨o,e,c.1,r⟩
def IsTupX.lt{h:Heap}{a:AQ}{g:Array AN}(x:IsTupX h a g):a<h.objs.size:=let⟨_,e,_⟩:=x;aI e
def IsTupX.new (h:Heap) (g:Array AN):IsTupX (h.push {cls:=.type "tuple",data:=.seq g}) h.objs.size g:=⟨_,a7 h rfl,⟨rfl,rfl⟩,0,rfl⟩
section
variable (P:AK) (w:World)
def ObjOk(H:Hp)(h:Heap)(a:AQ):HO->Prop
 |.lst xs=>xs⁻¹<=sizeLine/\∃(g:AB) (n:Nat),Vals xs g/\h.get? a=-{cls:=.type "list",data:=.seq g.toArray n}
 |.tup xs=>xs⁻¹<=sizeLine/\∃g:AB,Vals xs g/\IsTupX h a g.toArray
 |.dK kvs=>kvs⁻¹<=sizeLine/\(a==sysModules)=false/\∃vs,KV kvs vs/\h.DictOf (bQ P w) a vs
 |.dT kvs=>kvs⁻¹<=sizeLine/\(a==sysModules)=false/\∃xs:List (List Key×AQ×AN),
   Paired (λ(p:List Key×V) (q:List Key×AQ×AN)=>p.1=q.1/\H q.2.1=-(.tup (p.1.map kV))/\RelV p.2 q.2.2) kvs xs/\
   ∃o es ep,h.get? a=-o/\o.ExactDict/\o.data=.dict es ep/\es.toList=xs.map (entryOfKey (tupleKind (bQ P w)))/\(xs.map (·.1)).Nodup
 |.set S n=>h.SetOf (intKind P w) a S n
 |.ins C dx fs=>H dx=-(.own a)/\fs⁻¹<=1000/\dx≠a/\h.get? a=-(PySem.W.instObj C dx)/\
   ∃mA,h.Ns1 dx mA/\(∀f,RelO (fs.lookup f) (mA f))/\PySem.Within mA (fs.map (·.1))
 |.own _=>∃o,h.get? a=-o
 |.xd fs=>∃mA,h.Ns1 a mA/\∀f,RelO (fs.lookup f) (mA f)
 |.rng lo hi=>∃t u v,h.get? a=-{cls:=.type "range",data:=.fields #[.int lo t,.int hi u,.int 1 v]}
 |.frz o u=>h.get? a=-o/\ObjOk H h a u
 |.tbl ps=>h.get? a=-{cls:=.none,data:=.fields ps}
 |.met f x=>h.get? a=-(PySem.W.methodObj (.ref f) (.ref x))
 |.ext φ=>φ h/\(∃o,h.get? a=-o)/\∀h1 h2:Heap,φ h1->(∀o,h1.get? a=-o->h2.get? a=-o)->φ h2
def HOk(H:Hp)(h:Heap):Prop:=∀a o,H a=-o->ObjOk P w H h a o
end
section
variable {P:AK} {w:World} {H H':Hp} {h h':Heap} {a:AQ} {o:HO}
def ObjOk.lt(x:ObjOk P w H h a o):a<h.objs.size:=by
 cases o with
 |lst xs=>let(_,_,_,_,e):=x;exact aI e
 |tup xs=>let(_,_,_,p):=x;exact p.lt
 |dK g=>let(_,_,_,_,o,_,_,e,_):=x;exact aI e
 |dT g=>let(_,_,_,_,o,_,_,e,_):=x;exact aI e
 |set S n=>let(o,_,_,_,e,_):=x;exact aI e
 |ins C dx fs=>let(_,_,_,e,_):=x;exact aI e
 |own y=>let(_,e):=x;exact aI e
 |xd fs=>let(_,(_,_,_,e,_),_):=x;exact aI e
 |rng lo hi=>let(_,_,_,e):=x;exact aI e
 |frz ob u=>let(e,_):=x;exact aI e
 |tbl ps=>exact aI (show h.get? a=-_ from x)
 |met f y=>exact aI (show h.get? a=-_ from x)
 |ext q=>let(_,(_,e),_):=x;exact aI e
def Paired.mapP{z I:Type}{F G:z->I->Prop}:∀{g:List z}{q:List I},Paired F g q->(∀a b,F a b->G a b)->Paired G g q
 |_,_,.nil,_=>.nil
 |_,_,.cons r t,f=>.cons (f _ _ r) (Paired.mapP t f)
def ObjOk.stay(x:ObjOk P w H h a o)(k:∀b u,(b=a\/H b=-(.own a))->h.get? b=-u->h'.get? b=-u)
  (N:∀b,H b=-(.own a)->H' b=-(.own a)) (ht:∀b xs,H b=-(.tup xs)->H' b=-(.tup xs)):ObjOk P w H' h' a o:=by
 induction o with
 |lst xs=>let(z,g,n,r,e):=x;exact⟨z,g,n,r,k _ _ (.inl rfl) e⟩
 |tup xs=>let(z,g,r,ob,e,c):=x;exact⟨z,g,r,ob,k _ _ (.inl rfl) e,c⟩
 |dK I=>let(z,y,vs,r,ob,es,ep,e,c):=x;exact⟨z,y,vs,r,ob,es,ep,k _ _ (.inl rfl) e,c⟩
 |dT I=>
  let(z,y,xs,r,ob,es,ep,e,c):=x;exact⟨z,y,xs,Paired.mapP r λp q z=>⟨z.1,ht _ _ z.2.1,z.2.2⟩,ob,es,ep,k _ _ (.inl rfl) e,c⟩
 |set S n=>let(ob,es,ep,t,e,c):=x;exact⟨ob,es,ep,t,k _ _ (.inl rfl) e,c⟩
 |ins C dx fs=>
  let(d,z,ne,e,mA,(J,es,ep,L,c),r):=x;exact⟨N _ d,z,ne,k _ _ (.inl rfl) e,mA,⟨J,es,ep,k _ _ (.inr d) L,c⟩,r⟩
 |own y=>let(ob,e):=x;exact⟨ob,k _ _ (.inl rfl) e⟩
 |xd fs=>let(mA,(J,es,ep,e,c),r):=x;exact⟨mA,⟨J,es,ep,k _ _ (.inl rfl) e,c⟩,r⟩
 |rng lo hi=>let(t,u,v,e):=x;exact⟨t,u,v,k _ _ (.inl rfl) e⟩
 |frz ob u O=>let(e,q):=x;exact⟨k _ _ (.inl rfl) e,O q⟩
 |tbl ps=>
  have e:h.get? a=-{cls:=.none,data:=.fields ps}:=x;change h'.get? a=-{cls:=.none,data:=.fields ps};exact k a _ (.inl rfl) e
 |met f y=>
  have e:h.get? a=-(PySem.W.methodObj (.ref f) (.ref y)):=x;change h'.get? a=-(PySem.W.methodObj (.ref f) (.ref y));exact k a _ (.inl rfl) e
 |ext U=>let(p,(o,e),st):=x;exact⟨st _ _ p λo q=>k _ _ (.inl rfl) q,⟨o,k _ _ (.inl rfl) e⟩,st⟩
def HOk.lt(x:HOk P w H h)(e:H a=-o):a<h.objs.size:=(x a o e).lt
def HOk.fresh(x:HOk P w H h)(e:h.objs.size<=a):H a=none:=by
 cases q:H a with
 |none=>rfl
 |some u=>exact absurd (bS (x.lt q) e) (d0 _)
def HOk.kept(x:HOk P w H h)(k:∀b u,h.get? b=-u->h'.get? b=-u):HOk P w H h':=λa o e=>
 (x a o e).stay (λb u z q=>k b u q) (λz q=>q) λz z q=>q
def HOk.laid(x:HOk P w H h)(k:∀b u,h.get? b=-u->h'.get? b=-u)(z:h.objs.size<=a)(new:ObjOk P w (upd H a o) h' a o):HOk P w (upd H a o) h':=λb u e=>by
 have hn:=x.fresh z;by_cases g:b=a
 .subst g;rw[bj]at e;cases e;exact new
 .rw[aA g]at e;exact(x b u e).stay (λc v y q=>k c v q) (λc q=>by rw[aA (aU q hn)];exact q) λc xs q=>by rw[aA (aU q hn)];exact q
end
def Rd(H:Hp)(a:AQ)(u:HO):Prop:=H a=-u\/∃o,H a=-(.frz o u)
def Rd.ok{P:AK}{w:World}{H:Hp}{h:Heap}{a:AQ}{u:HO}(r:Rd H a u)(x:HOk P w H h):ObjOk P w H h a u:=by
 rcases r with r|⟨o,r⟩
 .exact x a u r
 .let(_,q):=x a _ r;exact q
def Mut:Option HO->Prop
 |some (.lst _)=>True
 |some (.dK _)=>True
 |some (.dT _)=>True
 |some (.set _ _)=>True
 |some (.ins _ _ _)=>True
 |some (.ext _)=>True
 |_=>False
section
variable {P:AK} {w:World} {H:Hp} {h h':Heap} {x e:AQ} {o':HO}
def HOk.write(ok:HOk P w H h)(N:Mut (H x))(he:e=x\/H e=-(.own x))(k:∀b u,b≠e->h.get? b=-u->h'.get? b=-u)(O:∃u,h'.get? e=-u)
  (new:ObjOk P w (upd H x o') h' x o'):HOk P w (upd H x o') h':=λb u q=>by
 have I:∀c y,H c=-(.own y)->c≠x:=λc y r z=>by subst z;rw[r]at N;exact N
 have J:∀c xs,H c=-(.tup xs)->c≠x:=λc xs r z=>by subst z;rw[r]at N;exact N
 by_cases L:b=x
 .subst L;rw[bj]at q;cases q;exact new
 .rw[aA L]at q;by_cases g:b=e
  .have U:H b=-(.own x):=by
    rcases he with z|z
    .exact absurd (g.trans z) L
    .rw[g];exact z
   rw[q]at U;cases U;let(v,Y):=O;exact⟨v,by rw[g];exact Y⟩
  .show (ok b u q).stay (λc v hc r=>k c v ?_ r) (λc r=>by rw[aA (I c b r)];exact r) λc xs r=>by rw[aA (J c xs r)];exact r
   rcases hc with rfl|hc
   .exact g
   .rintro rfl;rcases he with z|z
    .exact I c b hc z
    .rw[hc]at z;cases z;exact L rfl
end
structure Un(fs ex:List AQ)(H H':Hp)(h h':Heap):Prop where
 keep:∀b o,h.get? b=some o->H b=none->b∉fs->b∉ex->h'.get? b=some o
 slot:∀b o,h.get? b=some o->H b=none->b∈fs->b∉ex->∃sl,h'.get? b=some { o with slots:=sl }
 free:∀b o,h.get? b=some o->H b=none->b∉ex->H' b=none
 there:∀b o,h.get? b=some o->b∉ex->∃o',h'.get? b=some o'
 tups:∀b xs,H b=some (.tup xs)->H' b=some (.tup xs)
 frzs:∀b o u,H b=some (.frz o u)->H' b=some (.frz o u)
 tbls:∀b ps,H b=some (.tbl ps)->∃more,H' b=some (.tbl (ps++more))
section
variable {fs fs' ex ex':List AQ} {H H1 H2:Hp} {h h1 h2 h':Heap} {a x e:AQ} {o:HO}
def Un.any(u:Un fs ex H H1 h h1){b:AQ}{ob:Obj}(q:h.get? b=-ob)(n:H b=none)(z:b∉ex):∃I,h1.get? b=-{ob with slots:=I}:=by
 by_cases g:b∈fs
 .exact u.slot b ob q n g z
 .exact ⟨ob.slots,u.keep b ob q n g z⟩
def Un.kept(k:∀b u,h.get? b=-u->h'.get? b=-u):Un fs ex H H h h':=
 ⟨λb ob q z z z=>k b ob q,λb ob q z z z=>⟨ob.slots,k b ob q⟩,λz z z n z=>n,λb ob q z=>⟨ob,k b ob q⟩,λz z q=>q,λz z z q=>q,λz ps q=>⟨#[],by rw[q];simp⟩⟩
def Un.refl:Un fs ex H H h h:=Un.kept λz z q=>q
def Un.laid(k:∀b u,h.get? b=-u->h'.get? b=-u)(g:h.objs.size<=a)(hn:H a=none):Un fs ex H (upd H a o) h h' where
 keep:=λb u q z z z=>k b u q
 slot:=λb u q z z z=>⟨u.slots,k b u q⟩
 free:=λb u q n z=>by rw[aA (cb (bS (aI q) g))];exact n
 there:=λb u q z=>⟨u,k b u q⟩
 tups:=λb xs q=>by rw[aA (aU q hn)];exact q
 frzs:=λb u xs q=>by rw[aA (aU q hn)];exact q
 tbls:=λb ps q=>⟨#[],by rw[aA (aU q hn),q];simp⟩
def Un.write(I:Mut (H x))(he:e=x\/H e=-(.own x))(k:∀b u,b≠e->h.get? b=-u->h'.get? b=-u)(J:∃u,h'.get? e=-u):Un fs ex H (upd H x o) h h':=by
 have O:∀b,H b=none->b≠x:=λb n z=>by subst z;rw[n]at I;exact I
 have N:∀b,H b=none->b≠e:=λb n z=>by
  subst z;rcases he with r|r
  .exact O b n r
  .rw[n]at r;cases r
 have L:∀b u,H b=-u->¬Mut (-u)->b≠x:=λb u q nm z=>by subst z;rw[q]at I;exact nm I
 show⟨λb u q n y y=>k b u (N b n) q,λb u q n y y=>⟨u.slots,k b u (N b n) q⟩,λb u q n y=>by rw[aA (O b n)];exact n,λb u q y=>?_,
  λb xs q=>by rw[aA (L b _ q λz=>z)];exact q,λb u xs q=>by rw[aA (L b _ q λz=>z)];exact q,λb ps q=>⟨#[],by rw[aA (L b _ q λz=>z),q];simp⟩⟩
 by_cases g:b=e
 .subst g;exact J
 .exact ⟨u,k b u g q⟩
end
def trk(h:Heap)(H:Hp):List AQ:=(List.range h.objs.size).filter λa=>(H a).isSome
def gf(h:Heap)(H:Hp):Heap:=PySem.W.hideAll h (trk h H)
def Tn(h:Heap)(H:Hp):(gf h H).objs.size=h.objs.size:=PySem.W.hideAll_size _ _
def Tp{h:Heap}{H:Hp}{b:AQ}{o:Obj}(e:h.get? b=-o)(n:H b=none):(gf h H).get? b=-o:=
 PySem.W.hideAll_get _ e λg=>by
  have q:(H b).isSome=true:=(fA.mp g).2;rw[n]at q;simp at q
def Tq{h:Heap}{H:Hp}{b:AQ}{o:Obj}(e:(gf h H).get? b=-o):h.get? b=-o/\H b=none:=by
 have g:h.get? b=-o:=PySem.W.of_hideAll (trk h H) e;show⟨g,?_⟩;cases q:H b with
 |none=>rfl
 |some x=>
  have I:b∈trk h H:=fA.mpr ⟨ga.mpr (aI g),by simp[q]⟩;have z:(gf h H).get? b=none:=PySem.W.hideAll_none (trk h H) I;rw[z]at e;cases e
def Tt(g h:Heap)(L:AQ):AC:=(List.range h.objs.size).filterMap λa=>if a=L\/(g.get? a).isSome=true then none else(h.get? a).map λo=>(a,o)
def rest(g h:Heap)(L d:AQ):AC:=(Tt g h L).filter λp=>decide (p.1≠d)
structure Mod(K:PF)(mg:AH)(base:Heap):Prop where
 kin:K.In base
 glob:base.Ns mainGlobals mg
 blt:∃mb,base.Ns builtinsNs mb/\∀x:Str,x≠"__name__"->mb x=bootBuiltins x
 nolimit:base.NoLimit
structure Cx where
 prog:AK
 w:World
 K:PF
 mg:Str->Option AN
 base:Heap
 A:AM
 N:AD
 s₀:AI
 H₀:Hp
 env:Env
 outer:List Env
 stack:List Env
 ex:List AQ
 fn:Str->Bool
 calm:Bool
 pn:AC
 xe:AN->AI->Prop
def frs(l:List Env):List AQ:=l.filterMap (·.frame)
abbrev Cx.fs(X:Cx):List AQ:=frs X.outer
def Vis(g:Scope)(x:Str):Prop:=g.names.lookup x=-.local\/g.names.lookup x=-.cell\/g.names.lookup x=-.free
def Loc(g:Scope)(x:Str):Prop:=g.names.lookup x=-.local\/g.names.lookup x=-.cell
def Look(env:Env)(h:Heap)(m:AH)(x:Str)(u:AN):Prop:=
 (env.kindOf x=-.local/\m x=-u)\/((env.kindOf x=-.cell\/env.kindOf x=-.free)/\∃c,env.cells.lookup x=-c/\h.IsCell c (-u))
structure Cx.Ok(X:Cx):Prop where
 mod:Mod X.K X.mg X.base
 kind:X.env.scope.kind=.function
 glob:X.env.globals=mainGlobals
 blt:X.env.builtins=builtinsNs
 above:X.s₀.heap.objs.size<=X.env.locals
 inj:∀x y c,X.env.cells.lookup x=some c->X.env.cells.lookup y=some c->x=y
 has:∀x,(X.env.kindOf x=some .cell\/X.env.kindOf x=some .free)->∃c,X.env.cells.lookup x=some c
 cab:∀x c,X.fn x=true->X.env.cells.lookup x=some c->X.s₀.heap.objs.size<=c
 hd:X.calm=true->X.A.handled=none
 frames:X.A.frames=some X.stack
 stk:X.stack=X.outer\/(X.stack=X.env::X.outer/\X.env.frame=some X.env.locals)
 exf:∀b∈X.ex,b≠X.env.locals/\∀x c,X.env.cells.lookup x=some c->c≠b
 bs:∀b o,X.base.get? b=some o->X.s₀.heap.get? b=some o/\X.H₀ b=none
 bsz:X.base.objs.size<=X.s₀.heap.objs.size
 noex:∀b o,X.base.get? b=some o->b∉X.ex
 exfs:∀b∈X.ex,b∉X.fs
 funs:X.s₀.heap.FunFrames X.base X.outer
 frf:∀b∈X.fs,X.H₀ b=none
structure Inv(X:Cx)(p9:AC)(Y:List (Option V))(H:Hp)(s:AI):Prop where
 ok:X.Ok
 os:s.os=X.s₀.os
 bare:AllBare s.gens
 base:Un X.fs X.ex X.H₀ H X.s₀.heap s.heap
 loc:∃m,s.heap.Ns X.env.locals m/\∀(i:Nat)(x:Str)(v:V),X.N[i]?=some x->Y[i]?=some (some v)->Vis X.env.scope x->∃u,RelV v u/\Look X.env s.heap m x u
 cell:∀x c,X.env.cells.lookup x=some c->∃v,s.heap.IsCell c v
 free:H X.env.locals=none
 freeC:∀x c,X.env.cells.lookup x=some c->H c=none
 pin:∀p∈X.pn++p9,s.heap.get? p.1=some p.2/\H p.1=none/\p.1≠X.env.locals/\p.1∉X.fs/\∀v,p.2.data≠.cell v
 hok:HOk X.prog X.w H s.heap
 len:Y.length=X.N.length
section
variable {X:Cx} {p9:AC} {σ:List (Option V)} {H H':Hp} {s:AI} {h':Heap}
def Cx.Ok.nofr(ok:X.Ok){b:AQ}{o:Obj}(e:X.base.get? b=-o):b∉X.fs:=λg=>by
 have:=(ok.funs.mem g).1;rw[e]at this;cases this
def Inv.bs(I:Inv X p9 σ H s):∀b o,X.base.get? b=-o->s.heap.get? b=-o/\H b=none:=λb o e=>
 ⟨I.base.keep b o (I.ok.bs b o e).1 (I.ok.bs b o e).2 (I.ok.nofr e) (I.ok.noex b o e),I.base.free b o (I.ok.bs b o e).1 (I.ok.bs b o e).2 (I.ok.noex b o e)⟩
def Inv.bk(I:Inv X p9 σ H s):∀b o,X.base.get? b=-o->s.heap.get? b=-o:=λb o e=>(I.bs b o e).1
def Inv.mod(I:Inv X p9 σ H s):Mod X.K X.mg X.base:=I.ok.mod
def Inv.kIn(I:Inv X p9 σ H s):X.K.In s.heap:=I.ok.mod.kin.keeps I.bk
def Inv.lt(I:Inv X p9 σ H s):X.env.locals<(~~~s):=let⟨_,hn,_⟩:=I.loc;hn.lt
def Inv.sz(I:Inv X p9 σ H s):X.s₀.heap.objs.size<=(~~~s):=b3 I.ok.above (Nat.le_of_lt I.lt)
def Inv.nofs(I:Inv X p9 σ H s){a:AQ}(h:(~~~s)<=a):a∉X.fs:=λg=>by
 let(_,o,q,_):=I.ok.funs.mem g;exact absurd (bS (aI q) (b3 I.sz h)) (d0 _)
def Inv.cne(I:Inv X p9 σ H s):∀x c,X.env.cells.lookup x=-c->c≠X.env.locals:=λx c e z=>by
 let(v,o,L,J):=I.cell x c e;let(m,(o',es,ep,q,g,_),_):=I.loc;rw[z,q]at L;cases L;rw[g]at J;cases J
def Inv.funs(I:Inv X p9 σ H s):s.heap.FunFrames X.base X.outer:=by
 have all:∀(l:List Env),(∀b∈frs l,b∈X.fs)->X.s₀.heap.FunFrames X.base l->s.heap.FunFrames X.base l:=by
  intro l;induction l with
  |nil=>intro _ _;trivial
  |cons env r ih=>
   intro hs hl;let(O,(L,o,J,hn,U,N),Y):=hl;have g:L∈X.fs:=hs L (by unfold frs;rw[fq,J];exact ba);let(sl,e):=I.base.slot L o U (I.ok.frf L g) g λz=>I.ok.exfs L z g;exact⟨O,⟨L,_,J,hn,e,N⟩,ih (λb q=>hs b (by unfold frs;rw[fq,J];exact aS _ q)) Y⟩
 exact all X.outer (λy q=>q) I.ok.funs
def Inv.stack(I:Inv X p9 σ H s):s.heap.FunFrames X.base X.stack:=by
 rcases I.ok.stk with e|⟨e,g⟩
 .rw[e];exact I.funs
 .rw[e];let(m,hn,_):=I.loc;show .cons (by rw[I.ok.kind];decide) g hn ?_ I.funs;exact Heap.get?_none_of_le (b3 I.ok.bsz I.ok.above)
def Inv.stkSub(I:Inv X p9 σ H s):∀b∈frs X.stack,b∈X.env.locals::X.fs:=λb g=>by
 rcases I.ok.stk with e|⟨e,q⟩
 .rw[e]at g;exact aS _ g
 .rw[e]at g;unfold frs at g;rw[fq,q]at g;exact g
def Inv.stkFree(I:Inv X p9 σ H s):∀b∈frs X.stack,H b=none:=λb g=>by
 rcases bo.mp (I.stkSub b g) with e|g
 .rw[e];exact I.free
 .let(_,o,q,_):=I.ok.funs.mem g;exact I.base.free b o q (I.ok.frf b g) λz=>I.ok.exfs b z g
def Inv.step{g':Array GenState}{t':Nat}{d':Drawn}{ch:List AQ}(I:Inv X p9 σ H s)
  (L:∀b∈ch,(b∈X.ex\/X.s₀.heap.objs.size<=b)/\b≠X.env.locals/\(∀x c,X.env.cells.lookup x=-c->c≠b)/\∀p∈X.pn++p9,p.1≠b)
  (keep:∀b o,b≠X.env.locals->b∉X.fs->b∉ch->s.heap.get? b=-o->H b=none->h'.get? b=-o)
  (slot:∀b o,b≠X.env.locals->b∈X.fs->b∉ch->s.heap.get? b=-o->H b=none->∃sl,h'.get? b=-{o with slots:=sl}) (free:∀b o,b∉ch->s.heap.get? b=-o->H b=none->H' b=none)
  (there:∀b o,b∉ch->s.heap.get? b=-o->∃o',h'.get? b=-o')
  (tups:∀b xs,H b=-(.tup xs)->H' b=-(.tup xs)) (frzs:∀b o u,H b=-(.frz o u)->H' b=-(.frz o u)) (tbls:∀b ps,H b=-(.tbl ps)->∃more,H' b=-(.tbl (ps++more)))
  (ns:∀m,s.heap.Ns X.env.locals m->h'.Ns X.env.locals m) (hok:HOk X.prog X.w H' h') (hg:AllBare g'):
  Inv X p9 σ H' {s with heap:=h',gens:=g',drawn:=d',toks:=t'}:=by
 have neL:∀b o,X.s₀.heap.get? b=-o->b≠X.env.locals:=λb o e=>cb (bS (aI e) I.ok.above);have U:∀b o,X.s₀.heap.get? b=-o->b∉X.ex->b∉ch:=λb o e g Y=>by
  rcases(L b Y).1 with z|z
  .exact g z
  .exact absurd (bS (aI e) z) (d0 _)
 have J:∀x c,X.env.cells.lookup x=-c->∀v,s.heap.IsCell c v->h'.IsCell c v:=λx c e v zZ=>by
  let(o,ho,hd):=zZ;have N:c∉ch:=λz=>(L c z).2.2.1 x c e rfl;by_cases hc:c∈X.fs
  .let(sl,q):=slot c o (I.cne x c e) hc N ho (I.freeC x c e);exact⟨_,q,hd⟩
  .exact ⟨o,keep c o (I.cne x c e) hc N ho (I.freeC x c e),hd⟩
 show⟨I.ok,I.os,hg,⟨λb o e n Y g=>?_,λb o e n Y g=>?_,λb o e n g=>?_,λb o e g=>?_,λb xs e=>tups b xs (I.base.tups b xs e),λb o xs e=>frzs b o xs (I.base.frzs b o xs e),λb ps e=>?_⟩,?_,λx c e=>?_,?_,λx c e=>?_,λp hp=>?_,hok,I.len⟩
 .exact keep b o (neL b o e) Y (U b o e g) (I.base.keep b o e n Y g) (I.base.free b o e n g)
 .let(sl,O):=I.base.slot b o e n Y g;let(sl',e2):=slot b _ (neL b o e) Y (U b o e g) O (I.base.free b o e n g);exact⟨sl',e2⟩
 .let(o',O):=I.base.there b o e g;exact free b o' (U b o e g) O (I.base.free b o e n g)
 .let(o',O):=I.base.there b o e g;exact there b o' (U b o e g) O
 .let(m1,O):=I.base.tbls b ps e;let(m2,e2):=tbls b _ O;exact⟨m1++m2,by rw[e2,Array.append_assoc]⟩
 .let(m,hn,hl):=I.loc;show⟨m,ns m hn,λi x v O e2 e3=>?_⟩;let(u,r,l):=hl i x v O e2 e3;show⟨u,r,?_⟩;rcases l with l|⟨k,c,e,z⟩
  .exact .inl l
  .exact .inr ⟨k,c,e,J x c e _ z⟩
 .let(v,z):=I.cell x c e;exact⟨v,J x c e v z⟩
 .let(m,(o,_,_,ho,_),_):=I.loc;exact free _ o (λz=>(L _ z).2.1 rfl) ho I.free
 .let(v,o,ho,hd):=I.cell x c e;exact free c o (λz=>(L c z).2.2.1 x c e rfl) ho (I.freeC x c e)
 .let(e,n,ne,nf,d):=I.pin p hp;have N:p.1∉ch:=λz=>(L p.1 z).2.2.2 p hp rfl;exact⟨keep p.1 p.2 ne nf N e n,free p.1 p.2 N e n,ne,nf,d⟩
def Inv.un{t':Nat}(I:Inv X p9 σ H s)(u:Un X.fs [] H H' s.heap h')(N:HOk X.prog X.w H' h'):Inv X p9 σ H' {s with heap:=h',toks:=t'}:=by
 let(m,(o,es,ep,O,r),_):=id I.loc;let(sl,U):=u.any O I.free (!2);exact I.step (g':=s.gens) (d':=s.drawn) (ch:=[]) (λy z=>nomatch z) (λb o y L y e n=>u.keep b o e n L (!2)) (λb o y L y e n=>u.slot b o e n L (!2)) (λb o y e n=>u.free b o e n (!2)) (λb o y e=>u.there b o e (!2)) u.tups u.frzs u.tbls (λm' Y=>by
  let(o',J,q,g,r'):=Y;rw[O]at g;cases g;exact⟨_,J,q,U,r'⟩) N I.bare
def Inv.call{g':Array GenState}{t':Nat}{d':Drawn}{ch:List AQ}(I:Inv X p9 σ H s)(u:Un (frs X.stack) ch H H' s.heap h')(O:HOk X.prog X.w H' h')(hg:AllBare g')
  (g:∀b∈ch,(b∈X.ex\/X.s₀.heap.objs.size<=b)/\b≠X.env.locals/\(∀x c,X.env.cells.lookup x=-c->c≠b)/\∀p∈X.pn++p9,p.1≠b):
  Inv X p9 σ H' {s with heap:=h',gens:=g',drawn:=d',toks:=t'}:=by
 let(m,(o,es,ep,U,r),_):=id I.loc;let(sl,N):=u.any U I.free λz=>(g _ z).2.1 rfl;exact I.step (ch:=ch) g (λb o N Y hc e n=>u.keep b o e n (λz=>(bo.mp (I.stkSub b z)).elim N Y) hc) (λb o y y hc e n=>u.any e n hc) (λb o hc e n=>u.free b o e n hc) (λb o hc e=>u.there b o e hc) u.tups u.frzs u.tbls (λm' hm=>by
  let(o',L,J,q,r'):=hm;rw[U]at q;cases q;exact⟨_,L,J,N,r'⟩) O hg
def Inv.turned{t':Nat}{it:AQ}(I:Inv X p9 σ H s)(k:∀b o,b≠it->s.heap.get? b=-o->h'.get? b=-o)(hn:H it=none)(J:it≠X.env.locals)
  (h1:it∈X.ex\/X.s₀.heap.objs.size<=it) (h2:∀x c,X.env.cells.lookup x=-c->c≠it) (L:∀p∈X.pn++p9,p.1≠it):Inv X p9 σ H {s with heap:=h',toks:=t'}:=by
 have g:∀b u,H b=-u->b≠it:=λb u e z=>by rw[z,hn]at e;cases e
 show I.step (g':=s.gens) (d':=s.drawn) (ch:=[it]) (λb N=>?_) (λb o y y hc e y=>k b o (λz=>hc (by simp[z])) e) (λb o y y hc e y=>⟨o.slots,k b o (λz=>hc (by simp[z])) e⟩) (λy y y y n=>n)
  (λb o hc e=>⟨o,k b o (λz=>hc (by simp[z])) e⟩) (λy y e=>e) (λy y y e=>e) (λb ps e=>⟨#[],by rw[e];simp⟩) (λm O=>?_) (λb u e=>?_) I.bare
 .have e:b=it:=by simpa using N
  subst e;exact⟨h1,J,h2,L⟩
 .let(o,es,ep,U,r):=O;exact⟨o,es,ep,k _ o (Ne.symm J) U,r⟩
 .show (I.hok b u e).stay (λc v hc q=>k c v ?_ q) (λy q=>q) λy y q=>q;rcases hc with z|z
  .rw[z];exact g b u e
  .exact g c _ z
def Inv.tok(I:Inv X p9 σ H s)(t:Nat):Inv X p9 σ H {s with toks:=t}:=I.un (h':=s.heap) (t':=t) Un.refl I.hok
def Inv.kept{t':Nat}(I:Inv X p9 σ H s)(k:∀b u,s.heap.get? b=-u->h'.get? b=-u):Inv X p9 σ H {s with heap:=h',toks:=t'}:=I.un (Un.kept k) (I.hok.kept k)
def Inv.laid{a:AQ}{o:HO}{t':Nat}(I:Inv X p9 σ H s)(k:∀b u,s.heap.get? b=-u->h'.get? b=-u)(g:(~~~s)<=a)(new:ObjOk X.prog X.w (upd H a o) h' a o):
  Inv X p9 σ (upd H a o) {s with heap:=h',toks:=t'}:=I.un (Un.laid k g (I.hok.fresh g)) (I.hok.laid k g new)
def Inv.write{x e:AQ}{o:HO}{t':Nat}(I:Inv X p9 σ H s)(q:Mut (H x))(he:e=x\/H e=-(.own x))(k:∀b u,b≠e->s.heap.get? b=-u->h'.get? b=-u)(g:∃u,h'.get? e=-u)
  (new:ObjOk X.prog X.w (upd H x o) h' x o):Inv X p9 σ (upd H x o) {s with heap:=h',toks:=t'}:=I.un (Un.write q he k g) (I.hok.write q he k g new)
def Inv.pins_of{g:AC}(I:Inv X p9 σ H s)(h:∀p∈g,s.heap.get? p.1=-p.2/\H p.1=none/\p.1≠X.env.locals/\p.1∉X.fs/\∀v,p.2.data≠.cell v):Inv X g σ H s:=
 ⟨I.ok,I.os,I.bare,I.base,I.loc,I.cell,I.free,I.freeC,λp q=>(aE.mp q).elim (λz=>I.pin p (c6 _ z)) (h p),I.hok,I.len⟩
def Dv{N:AD}(z:N.Nodup){i j:Nat}{x:Str}(a:N[i]?=-x)(b:N[j]?=-x):i=j:=by let(h1,g):=av.mp a;let(h2,q):=av.mp b;exact(List.getElem_inj z).mp (g.trans q.symm)
def Tu{M:Model}{A:AM}{E:AG}{i:Nat}{x:Str}{v:V}{u:AN}{Q:Unit->AI->Prop}(I:Inv X p9 σ H s)(hN:X.N.Nodup)(hi:X.N[i]?=-x)(L:Loc X.env.scope x)(r:RelV v u)
  (h:∀s',Inv X p9 (σ.set i (-v)) H s'->(∃a,Heap.SameBut a s.heap s'.heap/\(a=X.env.locals\/X.env.cells.lookup x=-a))->Q () s') (hf:X.fn x=true\/X.env.scope.names.lookup x=-.local:=by first|exact .inl rfl|exact .inr rfl|assumption):wpAny M A (storeName X.env x u) Q E s:=by
 let(m,hn,hl):=id I.loc;have hcls:(X.env.scope.kind==.class||(X.env.scope.kind==.module&&X.env.locals != X.env.globals))=false:=by rw[I.ok.kind];rfl
 have U:i<σ.length:=by rw[I.len];exact(av.mp hi).1
 have cne:=I.cne;have J:∀{a:AQ}{h':Heap},(∃o,s.heap.get? a=-o/\H a=none)->Heap.SameBut a s.heap h'->HOk X.prog X.w H h':=λ{a h'} ha hs b ob e=>by
  let(_,_,N):=ha;show(I.hok b ob e).stay (λc w' hc q=>(hs.2 c ?_).trans q) (λt q=>q) λt t q=>q;rintro rfl;rcases hc with rfl|hc
  .rw[N]at e;cases e
  .rw[N]at hc;cases hc
 rcases L with Y|Y
 .show wpAny_storeName_local Y hn (λh' hn' hs=>?_) hcls;let(oL,_,_,hoL,_):=id hn;show h _ ⟨I.ok,I.os,I.bare,⟨λb o e n hb L=>?_,λb o e n hb L=>?_,I.base.free,λb o e L=>?_,I.base.tups,I.base.frzs,I.base.tbls⟩,⟨_,hn',λj y v' g O e3=>?_⟩,λy c e=>?_,I.free,I.freeC,λp hp=>?_,J ⟨oL,hoL,I.free⟩ hs,!!I.len⟩ ⟨_,hs,.inl rfl⟩
  .exact (hs.2 b (cb (bS (aI e) I.ok.above))).trans (I.base.keep b o e n hb L)
  .let(sl,g):=I.base.slot b o e n hb L;exact⟨sl,(hs.2 b (cb (bS (aI e) I.ok.above))).trans g⟩
  .let(o',g):=I.base.there b o e L;exact⟨o',(hs.2 b (cb (bS (aI e) I.ok.above))).trans g⟩
  .by_cases hj:j=i
   .subst hj;rw[hi]at g;cases g;rw[List.getElem?_set_self U]at O;cases O;exact⟨u,r,.inl ⟨Y,!2⟩⟩
   .rw[List.getElem?_set_ne (Ne.symm hj)]at O;let(u',r',q):=hl j y v' g O e3;show⟨u',r',?_⟩;rcases q with⟨k,e⟩|⟨k,c,e,z⟩
    .show .inl ⟨k,?_⟩;have:y≠x:=λe=>hj (Dv hN g (e ▸ hi));simp[this,e]
    .exact .inr ⟨k,c,e,z.sameBut hs (cne y c e)⟩
  .let(w',z):=I.cell y c e;exact⟨w',z.sameBut hs (cne y c e)⟩
  .let(e,n,ne,nf,d):=I.pin p hp;exact⟨(hs.2 p.1 ne).trans e,n,ne,nf,d⟩
 .have hfn:X.fn x=true:=by
   rcases hf with z|z
   .exact z
   .rw[z]at Y;cases Y
  let(c,hc):=I.ok.has x (.inl Y);let(w',z):=I.cell x c hc;show wpAny_storeName_cell I.ok.kind Y hc z (λh' hc' hs=>?_);let(oc,hoc,hocd):=id z;show h {s with heap:=h'} ⟨I.ok,I.os,I.bare,⟨λb o e n hb L=>?_,λb o e n hb L=>?_,I.base.free,λb o e L=>?_,I.base.tups,I.base.frzs,I.base.tbls⟩,⟨m,hn.sameBut hs (Ne.symm (cne x c hc)),λj y v' g O e3=>?_⟩,λy c' e=>?_,I.free,I.freeC,λp hp=>?_,J ⟨oc,hoc,I.freeC x c hc⟩ hs,!!I.len⟩ ⟨c,hs,.inr hc⟩
  .exact (hs.2 b (cb (bS (aI e) (I.ok.cab x c hfn hc)))).trans (I.base.keep b o e n hb L)
  .let(sl,g):=I.base.slot b o e n hb L;exact⟨sl,(hs.2 b (cb (bS (aI e) (I.ok.cab x c hfn hc)))).trans g⟩
  .let(o',g):=I.base.there b o e L;exact⟨o',(hs.2 b (cb (bS (aI e) (I.ok.cab x c hfn hc)))).trans g⟩
  .by_cases hj:j=i
   .subst hj;rw[hi]at g;cases g;rw[List.getElem?_set_self U]at O;cases O;exact⟨u,r,.inr ⟨.inl Y,c,hc,hc'⟩⟩
   .rw[List.getElem?_set_ne (Ne.symm hj)]at O;let(u',r',q):=hl j y v' g O e3;show⟨u',r',?_⟩;rcases q with q|⟨k,c',e,z'⟩
    .exact .inl q
    .show .inr ⟨k,c',e,z'.sameBut hs ?_⟩;rintro rfl;exact hj (Dv hN g (I.ok.inj _ _ _ e hc ▸ hi))
  .by_cases hcc:c'=c
   .subst hcc;exact⟨_,hc'⟩
   .let(w2,z2):=I.cell y c' e;exact⟨w2,z2.sameBut hs hcc⟩
  .let(e,n,ne,nf,d):=I.pin p hp;show⟨(hs.2 p.1 ?_).trans e,n,ne,nf,d⟩;intro q;rw[q,hoc]at e;have q':oc=p.2:=cw e;exact d w' (by rw[<-q'];exact hocd)
def rG{M:Model}{A:AM}{E:AG}{i:Nat}{x:Str}{v:V}{u:AN}{Q:Unit->AI->Prop}(I:Inv X p9 σ H s)(q:X.N.Nodup)(hi:X.N[i]?=-x)(J:Loc X.env.scope x)(r:RelV v u)
  (h:∀s',Inv X p9 (σ.set i (-v)) H s'->Q () s') (z:X.fn x=true\/X.env.scope.names.lookup x=-.local:=by first|exact .inl rfl|exact .inr rfl|assumption):wpAny M A (storeName X.env x u) Q E s:=
 Tu I q hi J r (λs' g y=>h s' g) z
def Inv.call'{s':AI}{ch:List AQ}(I:Inv X p9 σ H s)(J:s'.os=s.os)(u:Un (frs X.stack) ch H H' s.heap s'.heap)(q:HOk X.prog X.w H' s'.heap)(z:AllBare s'.gens)
  (g:∀b∈ch,(b∈X.ex\/X.s₀.heap.objs.size<=b)/\b≠X.env.locals/\(∀x c,X.env.cells.lookup x=-c->c≠b)/\∀p∈X.pn++p9,p.1≠b):Inv X p9 σ H' s':=by
 let(h',g',d',t',o'):=s';have e:o'=s.os:=J;subst e;exact I.call (g':=g') (t':=t') (d':=d') u q z g
end
abbrev XK:=AN->Option AQ->Hp->Prop
abbrev St:=List (Option V)
abbrev VK:=V->Hp->Prop
abbrev TE:=St->Hp->VK->Prop
abbrev TT:=St->Hp->(Bool->Hp->Prop)->Prop
abbrev TA:=St->Hp->(AR->Hp->Prop)->Prop
structure Ends where
 nx:St->Hp->Prop
 rt:VK
 bk:St->Hp->Prop:=λz z=>False
 ct:St->Hp->Prop:=λz z=>False
abbrev TS:=Ends->St->Hp->Prop
def EP(X:Cx)(p9:AC)(Y:St)(Q:VK)(u:AN)(s':AI):Prop:=∃v H',Inv X p9 Y H' s'/\RelV v u/\Q v H'
def TP(X:Cx)(p9:AC)(Y:St)(Q:Bool->Hp->Prop)(b:Bool)(s':AI):Prop:=∃H',Inv X p9 Y H' s'/\Q b H'
def AP(X:Cx)(p9:AC)(Y:St)(Q:AR->Hp->Prop)(us:AB)(s':AI):Prop:=∃vs H',Inv X p9 Y H' s'/\Vals vs us/\Q vs H'
def SP(X:Cx)(p9:AC)(D:Ends)(f:Flow)(s':AI):Prop:=
 match f with
 |.next=>∃g H',Inv X p9 g H' s'/\D.nx g H'
 |.brk=>∃g H',Inv X p9 g H' s'/\D.bk g H'
 |.cont=>∃g H',Inv X p9 g H' s'/\D.ct g H'
 |.ret u=>∃v g H',Inv X p9 g H' s'/\RelV v u/\D.rt v H'
def PE(X:Cx)(e:AO)(t:TE):Prop:=
 ∀(p9:AC)(s:AI)(Y:St)(H:Hp)(Q:VK),Inv X p9 Y H s->t Y H Q->↥X (eval e X.env) (EP X p9 Y Q) X.xe s
def PT(X:Cx)(e:AO)(t:TT):Prop:=
 ∀(p9:AC)(s:AI)(Y:St)(H:Hp)(Q:Bool->Hp->Prop),Inv X p9 Y H s->t Y H Q->↥X (isTrue e X.env (eval e X.env)) (TP X p9 Y Q) X.xe s
def PW(X:Cx)(e:AO)(t:TT):Prop:=
 ∀(whole:Sem AN)(p9:AC)(s:AI)(Y:St)(H:Hp)(Q:Bool->Hp->Prop),Inv X p9 Y H s->t Y H Q->↥X (isTrue e X.env whole) (TP X p9 Y Q) X.xe s
def PW.pt{X:Cx}{e:AO}{t:TT}(h:PW X e t):PT X e t:=h _
def PA(X:Cx)(es:AE)(t:TA):Prop:=
 ∀(pos:Pos)(p9:AC)(s:AI)(Y:St)(H:Hp)(Q:AR->Hp->Prop),Inv X p9 Y H s->t Y H Q->↥X (spliced (backTo pos (starEach es X.env))) (AP X p9 Y Q) X.xe s
def PS(X:Cx)(st:Stmt)(t:TS):Prop:=
 ∀(p9:AC)(s:AI)(Y:St)(H:Hp)(D:Ends),Inv X p9 Y H s->t D Y H->↥X (exec st X.env) (SP X p9 D) X.xe s
def PSs(X:Cx)(st:AF)(t:TS):Prop:=
 ∀(p9:AC)(s:AI)(Y:St)(H:Hp)(D:Ends),Inv X p9 Y H s->t D Y H->↥X (execs st X.env) (SP X p9 D) X.xe s
def thn{q:Type}{t:Sem q}{Q g:q->AI->Prop}{M:Model}{A:AM}{E:AG}{s:AI}(h:wpAny M A t Q E s)(z:∀a s,Q a s->g a s):wpAny M A t g E s:=c8 h z λy y x=>x
section
variable {X:Cx}
def bin{a b:AO}{ta tb:TE}(O:PE X a ta)(U:PE X b tb){p9:AC}{s:AI}{Y:St}{H:Hp}{R:V->V->Hp->Prop}(I:Inv X p9 Y H s)(h:ta Y H λx H1=>tb Y H1 λy H2=>R x y H2)
  {J:Type} {Q:J->AI->Prop} {f:AN->AN->Sem J}
  (hf:∀v u z x y H2,Inv X p9 Y H2 z->RelV x v->RelV y u->R x y H2->↥X (f v u) Q X.xe z):
  ↥X (eval a X.env) (λv g=>↥X (eval b X.env) (λu q=>↥X (f v u) Q X.xe q) X.xe g) X.xe s:=by
 show thn (O p9 s Y H _ I h) λv s1 zZ=>?_;let(x,H1,L,r1,q1):=zZ;show thn (U p9 s1 Y H1 _ L q1) λu z zZ=>?_;let(y,H2,N,r2,q2):=zZ;exact hf v u z x y H2 N r1 r2 q2
def Dw(i:Nat):TE:=λY H Q=>∃v,Y[i]?=-(-v)/\Q v H
def tC(v:V):TE:=λz H Q=>Q v H
def Dy {i:Nat} {x:Str} {pos:Pos} (L:X.N[i]?=-x) (O:Vis X.env.scope x) (J:(x==("__debug__":Str))=false:=by decide) (z:(x==("__classdict__":Str))=false:=by decide):PE X (.Name x pos) (Dw i):=by
 intro p9 s Y H Q I h;let(v,e,h):=h;let(m,hn,hl):=I.loc;let(u,r,l):=hl i x v L e O;have fin:EP X p9 Y Q u s:=⟨v,H,I,r,h⟩;rcases l with⟨q,N⟩|⟨q,c,hc,g⟩
 .exact wpAny_Name (wpAny_loadName_local I.ok.kind q hn N fin) J
 .rcases q with q|q
  .exact wpAny_Name (wpAny_loadName_cell I.ok.kind q hc g fin) J
  .exact wpAny_Name (wpAny_loadName_free I.ok.kind q hc g fin z) J
def jm{i j pos}:PE X (.Constant (.int i) j pos) (tC (.int i)):=λz z z H z I h=>wpAny_Constant_int ⟨.int i,H,I.tok _,⟨_,rfl⟩,h⟩
def Tv{b j pos}:PE X (.Constant (.bool b) j pos) (tC (.bl b)):=λz z z H z I h=>Constant_bool ⟨.bl b,H,I,rfl,h⟩
def Tw{j pos}:PE X (.Constant .none j pos) (tC .non):=λz z z H z I h=>Constant_none ⟨.non,H,I,rfl,h⟩
def Tz{x j pos}:PE X (.Constant (.str x) j pos) (tC (.str x)):=λz z z H z I h=>Calls.Constant_str ⟨.str x,H,I.tok _,⟨_,rfl⟩,h⟩
def Gl(X:Cx)(x:Str):Prop:=X.env.kindOf x=-.globalImplicit
def vV{E:AG}{p9:AC}{s:AI}{Y:St}{H:Hp}{x:Str}{u:AN}{pos:Pos}{Q:AG}(I:Inv X p9 Y H s)(q:Gl X x)(z:X.mg x=-u)(h:Q u s)
  (g:(x==("__debug__":Str))=false:=by decide):↥X (eval (.Name x pos) X.env) Q E s:=
 Calls.Name_function_global I.ok.kind q (Calls.loadGlobal_global (by rw[I.ok.glob];exact I.mod.glob.keeps I.bk) z h) g
def gh{E:AG}{p9:AC}{s:AI}{Y:St}{H:Hp}{x:Str}{u:AN}{pos:Pos}{Q:AG}(I:Inv X p9 Y H s)(q:Gl X x)(z:X.mg x=none)(J:bootBuiltins x=-u)(h:Q u s)
  (hn:x≠"__name__":=by decide) (g:(x==("__debug__":Str))=false:=by decide):↥X (eval (.Name x pos) X.env) Q E s:=by
 let(L,h1,h2):=I.mod.blt;exact Calls.Name_function_global I.ok.kind q (Calls.loadGlobal_builtin (by rw[I.ok.glob];exact I.mod.glob.keeps I.bk) z (by rw[I.ok.blt];exact h1.keeps I.bk) ((h2 x hn).trans J) h) g
def TF {x:Str} {v:V} {u:AN} {pos:Pos} (q:Gl X x) (z:X.mg x=-u) (r:RelV v u) (g:(x==("__debug__":Str))=false:=by decide):PE X (.Name x pos) (tC v):=
 λy y y H y I h=>vV I q z ⟨v,H,I,r,h⟩ g
def TJ {x:Str} {v:V} {u:AN} {pos:Pos} (q:Gl X x) (z:X.mg x=none) (J:bootBuiltins x=-u) (r:RelV v u) (hn:x≠"__name__":=by decide) (g:(x==("__debug__":Str))=false:=by decide):PE X (.Name x pos) (tC v):=
 λy y y H y I h=>gh I q z J ⟨v,H,I,r,h⟩ hn g
variable {a b:AO} {ta tb:TE} {pos:Pos}
variable {tA tB':TT} {rest:AE}
def TQ(t u:TT):TT:=λY H Q=>t Y H λc H1=>if c=true then u Y H1 Q else Q false H1
def tOr(t u:TT):TT:=λY H Q=>t Y H λc H1=>if c=true then Q true H1 else u Y H1 Q
def TV(t:TT):TT:=λY H Q=>t Y H λc H1=>Q (!c) H1
def TX(g:PT X a tA):PW X (.BoolOp .And [a] pos) tA:=by
 intro z p9 s Y H Q I h;show isTrue_and (thn (g p9 s Y H Q I h) λc q e=>?_);cases c with
 |true=>exact isTrue_and_nil e
 |false=>exact e
def TY(g:PT X a tA):PW X (.BoolOp .Or [a] pos) tA:=by
 intro z p9 s Y H Q I h;show isTrue_or (thn (g p9 s Y H Q I h) λc q e=>?_);cases c with
 |false=>exact isTrue_or_nil e
 |true=>exact e
def T3(z:PT X a tA)(J:PW X (.BoolOp .And (b::rest) pos) tB'):PW X (.BoolOp .And (a::b::rest) pos) (TQ tA tB'):=by
 intro N p9 s Y H Q I h;show isTrue_and (thn (z p9 s Y H _ I h) λc L zZ=>?_);let(H1,g,q):=zZ;cases c with
 |true=>exact J N p9 L Y H1 Q g q
 |false=>exact⟨H1,g,q⟩
def T4(z:PT X a tA)(J:PW X (.BoolOp .Or (b::rest) pos) tB'):PW X (.BoolOp .Or (a::b::rest) pos) (tOr tA tB'):=by
 intro N p9 s Y H Q I h;show isTrue_or (thn (z p9 s Y H _ I h) λc L zZ=>?_);let(H1,g,q):=zZ;cases c with
 |true=>exact⟨H1,g,q⟩
 |false=>exact J N p9 L Y H1 Q g q
def T5(g:PT X a tA):PT X (.UnaryOp .Not a pos) (TV tA):=by intro p9 s Y H Q I h;exact isTrue_not (g p9 s Y H (λc H1=>Q (!c) H1) I h)
def T6(ta tb:TE):TE:=λY H Q=>ta Y H λx H1=>∃c,x=.bl c/\if c=true then tb Y H1 Q else Q (.bl false) H1
def T7(ta tb:TE):TE:=λY H Q=>ta Y H λx H1=>∃c,x=.bl c/\if c=true then Q (.bl true) H1 else tb Y H1 Q
def T8{op}{t:TE}(h:PE X a t):PE X (.BoolOp op [a] pos) t:=λp9 s Y H Q I hw=>BoolOp_one (h p9 s Y H Q I hw)
def T9(z:PE X a ta)(J:PE X (.BoolOp .And (b::rest) pos) tb):PE X (.BoolOp .And (a::b::rest) pos) (T6 ta tb):=by
 intro p9 s Y H Q I h;show BoolOp_and (thn (z p9 s Y H _ I h) λv N zZ=>?_);let(x,H1,q,L,g):=zZ;let(c,rfl,g):=g;cases L;show e8 ?_;cases c with
 |true=>exact J p9 N Y H1 Q q g
 |false=>exact⟨.bl false,H1,q,rfl,g⟩
def Ua(z:PE X a ta)(J:PE X (.BoolOp .Or (b::rest) pos) tb):PE X (.BoolOp .Or (a::b::rest) pos) (T7 ta tb):=by
 intro p9 s Y H Q I h;show BoolOp_or (thn (z p9 s Y H _ I h) λv N zZ=>?_);let(x,H1,q,L,g):=zZ;let(c,rfl,g):=g;cases L;show e8 ?_;cases c with
 |false=>exact J p9 N Y H1 Q q g
 |true=>exact⟨.bl true,H1,q,rfl,g⟩
def tIf(t:TT)(ta tb:TE):TE:=λY H Q=>t Y H λc H1=>if c=true then ta Y H1 Q else tb Y H1 Q
def Ub{c:AO}(hc:PT X c tA)(J:PE X a ta)(L:PE X b tb):PE X (.IfExp c a b pos) (tIf tA ta tb):=by
 intro p9 s Y H Q I h;show wpAny_IfExp (thn (hc p9 s Y H _ I h) λd z zZ=>?_);let(H1,g,q):=zZ;cases d with
 |true=>exact J p9 z Y H1 Q g q
 |false=>exact L p9 z Y H1 Q g q
end
def SqL(K:PF)(H:Hp)(a:AQ)(xs:AR):Prop:=
 Rd H a (.lst xs)\/
  ∃(o:Obj) (its:Array AN) (n:Nat),K.lookup a=-o/\o.cls=.type "list"/\o.dict=none/\o.data=.seq its n/\its.size<=sizeLine/\Vals xs its.toList
def SqT(K:PF)(H:Hp)(a:AQ)(xs:AR):Prop:=
 Rd H a (.tup xs)\/
  ∃(o:Obj) (its:Array AN) (n:Nat),K.lookup a=-o/\o.cls=.type "tuple"/\o.data=.seq its n/\its.size<=sizeLine/\Vals xs its.toList
def Uc:AN->Option V
 |.none=>-.non
 |.bool b=>-(.bl b)
 |.int i _=>-(.int i)
 |.str x _=>-(.str x)
 |.bytes b _=>-(.byt b)
 |.float b _=>-(.flt b)
 |.ref a=>-(.ref a)
 |.type n=>-(.ty n)
 |_=>none
def RelV.abs{x:V}{u:AN}(r:RelV x u):Uc u=-x:=by
 cases x with
 |non=>cases r;rfl
 |bl _=>cases r;rfl
 |int _=>let(t,rfl):=r;rfl
 |str _=>let(t,rfl):=r;rfl
 |byt _=>let(t,rfl):=r;rfl
 |flt _=>let(t,rfl):=r;rfl
 |ref _=>cases r;rfl
 |ty _=>cases r;rfl
def RelV.inj{x y:V}{u:AN}(r:RelV x u)(q:RelV y u):x=y:=cw (r.abs.symm.trans q.abs)
def Vals.inj:∀{xs ys:AR}{us:AB},Vals xs us->Vals ys us->xs=ys
 |_,_,_,.nil,.nil=>rfl
 |_,_,_,.cons r t,.cons r' t'=>by rw[r.inj r',Vals.inj t t']
section
variable {X:Cx} {p9:AC} {σ:St} {H:Hp} {s:AI} {a:AQ} {xs ys:AR}
def SqL.of{K:PF}(h:H a=-(.lst xs)):SqL K H a xs:=.inl (.inl h)
def SqT.of{K:PF}(h:H a=-(.tup xs)):SqT K H a xs:=.inl (.inl h)
theorem Inv.list(I:Inv X p9 σ H s)(h:SqL X.K H a xs):∃g:AB,Vals xs g/\PlainL s.heap a g.toArray/\xs⁻¹<=sizeLine:=by
 rcases h with h|⟨o,g,n,J,hc,q,hs,L,r⟩
 .let(z,g,n,r,e):=h.ok I.hok;exact⟨g,r,⟨_,n,e,rfl,rfl,rfl⟩,z⟩
 .show ⟨g.toList,r,⟨o,n,I.kIn a o J,hc,q,!!hs⟩,?_⟩;have e:=r⁻¹;simp only[cK]at e;lia
theorem Inv.tuple(I:Inv X p9 σ H s)(h:SqT X.K H a xs):∃g:AB,Vals xs g/\IsTup s.heap a g.toArray/\xs⁻¹<=sizeLine:=by
 rcases h with h|⟨o,g,n,q,hc,hs,J,r⟩
 .let(z,g,r,p):=h.ok I.hok;exact⟨g,r,p.tup,z⟩
 .show ⟨g.toList,r,⟨o,I.kIn a o q,hc,n,!!hs⟩,?_⟩;have e:=r⁻¹;simp only[cK]at e;lia
def Inv.list_inj(I:Inv X p9 σ H s)(h:SqL X.K H a xs)(h':SqL X.K H a ys):xs=ys:=by
 let(g,r,(o,n,e,_,_,d),_):=I.list h;let(its',z,(o',J,q,_,_,d'),_):=I.list h';rw[e]at q;cases q;rw[d]at d';injection d' with d1 _;have:g=its':=by simpa using eS Array.toList d1
 subst this;exact r.inj z
def Inv.tuple_inj(I:Inv X p9 σ H s)(h:SqT X.K H a xs)(h':SqT X.K H a ys):xs=ys:=by
 let(g,r,(o,e,_,n,d),_):=I.tuple h;let(its',z,(o',q,_,J,d'),_):=I.tuple h';rw[e]at q;cases q;rw[d]at d';injection d' with d1 _;have:g=its':=by simpa using eS Array.toList d1
 subst this;exact r.inj z
end
abbrev Cx.wish(X:Cx)(E:AG):Cx:={X with xe:=E}
abbrev Cx.nox(X:Cx):Cx:=X.wish λz z=>False
def Cx.Ok.wish{X:Cx}(ok:X.Ok)(E:AG):(X.wish E).Ok:=
 ⟨ok.mod,ok.kind,ok.glob,ok.blt,ok.above,ok.inj,ok.has,ok.cab,ok.hd,ok.frames,ok.stk,ok.exf,ok.bs,ok.bsz,ok.noex,ok.exfs,ok.funs,ok.frf⟩
def Cx.Ok.unwish{X:Cx}{E:AG}(ok:(X.wish E).Ok):X.Ok:=
 ⟨ok.mod,ok.kind,ok.glob,ok.blt,ok.above,ok.inj,ok.has,ok.cab,ok.hd,ok.frames,ok.stk,ok.exf,ok.bs,ok.bsz,ok.noex,ok.exfs,ok.funs,ok.frf⟩
section
variable {X:Cx} {p9:AC} {σ:St} {H:Hp} {s:AI} {E:AG}
def Inv.wish(I:Inv X p9 σ H s)(E:AG):Inv (X.wish E) p9 σ H s:=⟨I.ok.wish E,I.os,I.bare,I.base,I.loc,I.cell,I.free,I.freeC,I.pin,I.hok,I.len⟩
def Inv.unwish(I:Inv (X.wish E) p9 σ H s):Inv X p9 σ H s:=⟨I.ok.unwish,I.os,I.bare,I.base,I.loc,I.cell,I.free,I.freeC,I.pin,I.hok,I.len⟩
def SP.unwish{D:Ends}{f:Flow}{s':AI}(h:SP (X.wish E) p9 D f s'):SP X p9 D f s':=by
 cases f with
 |next=>let(g,H',I,q):=h;exact⟨g,H',I.unwish,q⟩
 |brk=>let(g,H',I,q):=h;exact⟨g,H',I.unwish,q⟩
 |cont=>let(g,H',I,q):=h;exact⟨g,H',I.unwish,q⟩
 |ret u=>let(v,g,H',I,r,q):=h;exact⟨v,g,H',I.unwish,r,q⟩
def PSs.nox{st:AF}{t:TS}(h:PSs X.nox st t):PSs X st t:=λp9 s σ H D I hw=>
 c8 (h p9 s σ H D (I.wish _) hw) (λy y q=>q.unwish) λy y z=>False.elim z
end
section
variable {X:Cx} {st:Stmt} {rest:AF} {t u:TS} {e:AO} {te:TE} {pos:Pos}
def Dz:TS:=λD Y H=>D.nx Y H
def Ud(t u:TS):TS:=λD Y H=>t {D with nx:=u D} Y H
def Ue:PSs X [] Dz:=λz z Y H z I h=>wpAny_execs_nil ⟨Y,H,I,h⟩
def lu(h1:PS X st t)(h2:PSs X rest u):PSs X (st::rest) (Ud t u):=by
 intro p9 s Y H D I h;show wpAny_execs_cons (thn (h1 p9 s Y H {D with nx:=u D} I h) λf J q=>?_);cases f with
 |next=>
  let(g,H',z,q):=q;exact h2 p9 J g H' D z q
 |ret v=>exact q
 |brk=>exact q
 |cont=>exact q
def vW(h1:PS X st t):PSs X [st] t:=by
 intro p9 s Y H D I h;show wpAny_execs_cons (thn (h1 p9 s Y H D I h) λf g q=>?_);cases f with
 |next=>exact wpAny_execs_nil q
 |ret v=>exact q
 |brk=>exact q
 |cont=>exact q
def Ug:TS:=λD Y H=>D.bk Y H
def Uh:TS:=λD Y H=>D.ct Y H
def Ui:PS X (.Pass pos) Dz:=λz z Y H z I h=>wpAny_Pass ⟨Y,H,I,h⟩
def Uj:PS X (.Break pos) Ug:=λz z Y H z I h=>wpAny_Break ⟨Y,H,I,h⟩
def Uk:PS X (.Continue pos) Uh:=λz z Y H z I h=>wpAny_Continue ⟨Y,H,I,h⟩
def Inv.quiet{p9:AC}{Y:St}{H:Hp}{s:AI}(I:Inv X p9 Y H s):interactive X.env=false:=by simp[interactive,I.ok.kind]
def Ul(te:TE):TS:=λD Y H=>te Y H λz H1=>D.nx Y H1
def Um(he:PE X e te)(hs:swapsWith e none pos.line X.env=pure false:=by rfl):PS X (.Expr e pos) (Ul te):=by intro p9 s Y H D I h;show wpAny_Expr_any (thn (he p9 s Y H _ I h) λv J zZ=>?_) I.quiet hs;let(x,H1,g,z,q):=zZ;exact⟨Y,H1,g,q⟩
def DG(te:TE):TS:=λD Y H=>te Y H D.rt
def DK(he:PE X e te):PS X (.Return (-e) pos) (DG te):=by intro p9 s Y H D I h;show wpAny_Return_some (thn (he p9 s Y H _ I h) λv J zZ=>?_);let(x,H1,g,z,q):=zZ;exact⟨x,Y,H1,g,z,q⟩
def Uo:TS:=λD z H=>D.rt .non H
def Up:PS X (.Return none pos) Uo:=λz z Y H z I h=>wpAny_Return_none ⟨.non,Y,H,I,rfl,h⟩
def Uq(c:TT)(t u:TS):TS:=λD Y H=>c Y H λb H1=>if b=true then t D Y H1 else u D Y H1
def Ur{c:AO}{a b:AF}{tc:TT}(hc:PT X c tc)(J:PSs X a t)(L:PSs X b u):PS X (.If c a b pos) (Uq tc t u):=by
 intro p9 s Y H D I h;show wpAny_If (thn (hc p9 s Y H _ I h) λd z zZ=>?_);let(H1,g,q):=zZ;cases d with
 |true=>exact J p9 z Y H1 D g q
 |false=>exact L p9 z Y H1 D g q
def Us:TS:=λz z z=>False
def Ut:PS X st Us:=λz z z z z z h=>h.elim
end
abbrev TG:=V->St->Hp->(St->Hp->Prop)->Prop
abbrev TGs:=AR->St->Hp->(St->Hp->Prop)->Prop
def PG(X:Cx)(g:AO)(t:TG):Prop:=
 ∀(p9:AC)(s:AI)(Y:St)(H:Hp)(v:V)(u:AN)(Q:St->Hp->Prop),Inv X p9 Y H s->RelV v u->t v Y H Q->
  ↥X (assign g X.env u) (λz s'=>∃q H',Inv X p9 q H' s'/\Q q H') X.xe s
def PGs(X:Cx)(ts:AE)(t:TGs):Prop:=
 ∀(p9:AC)(s:AI)(Y:St)(H:Hp)(vs:AR)(us:AB)(Q:St->Hp->Prop),Inv X p9 Y H s->Vals vs us->t vs Y H Q->
  ↥X (assignInOrder ((assignEach ts X.env).map (·.2)) us) (λz s'=>∃g H',Inv X p9 g H' s'/\Q g H') X.xe s
abbrev lw:=V->V->V->Hp->(Hp->Prop)->Prop
def rH(X:Cx)(t:lw):Prop:=
 ∀(p9:AC)(s:AI)(Y:St)(H:Hp)(o i v:V)(q g u:AN)(Q:Hp->Prop),Inv X p9 Y H s->RelV o q->RelV i g->RelV v u->t o i v H Q->
  ↥X (setItem q g u) (λz s'=>∃H',Inv X p9 Y H' s'/\Q H') X.xe s
abbrev TIp:=V->V->Hp->VK->Prop
def PIp(X:Cx)(op:Operator)(t:TIp):Prop:=
 ∀(p9:AC)(s:AI)(Y:St)(H:Hp)(x y:V)(v u:AN)(Q:VK),Inv X p9 Y H s->RelV x v->RelV y u->t x y H Q->
  ↥X (inplaceOp op v u) (EP X p9 Y Q) X.xe s
section
variable {X:Cx} {pos:Pos}
def lz(i:Nat):TG:=λv Y H Q=>Q (Y.set i (-v)) H
def rJ{i:Nat}{x:Str}(q:X.N.Nodup)(hi:X.N[i]?=-x)(J:Loc X.env.scope x)(z:X.fn x=true\/X.env.scope.names.lookup x=-.local:=by first|exact .inl rfl|exact .inr rfl|assumption):PG X (.Name x pos) (lz i):=by intro p9 s Y H v u Q I r h;exact wpAny_assign_Name (rG I q hi J r (λs' g=>⟨_,H,g,h⟩) z)
def Uu:TGs:=λvs Y H Q=>vs=[]/\Q Y H
def Uv(t:TG)(u:TGs):TGs:=λvs Y H Q=>∃v r,vs=v::r/\t v Y H λg H'=>u r g H' Q
def vX:PGs X [] Uu:=by intro p9 s Y H vs us Q I r h;let(e,h):=h;subst e;cases r;exact assignInOrder_nil ⟨Y,H,I,h⟩
def lA{e:AO}{es:AE}{t:TG}{u:TGs}(h1:PG X e t)(h2:PGs X es u)
  (hs:(assignEach (e::es) X.env).map (·.2)=assign e X.env::(assignEach es X.env).map (·.2):=by rfl):PGs X (e::es) (Uv t u):=by
 intro p9 s Y H vs us Q I r h;let(v,O,z,h):=h;subst z;cases r with
 |cons r L=>
  rw[hs];show assignInOrder_cons (thn (h1 p9 s Y H _ _ _ I r h) λy N zZ=>?_);let(g,H1,q,J):=zZ;exact h2 p9 N g H1 _ _ Q q L J
def Uw(K:PF)(n:Nat)(t:TGs):TG:=λv Y H Q=>∃a xs,v=.ref a/\SqT K H a xs/\xs⁻¹=n/\t xs Y H Q
def vY{es:AE}{k:Nat}{t:TGs}{n:Nat}(hc:X.calm)(h:PGs X es t)
  (hn:(assignEach es X.env)⁻¹=n:=by rfl) (g:(assignEach es X.env).findIdx? (·.1)=none:=by rfl):PG X (.Tuple es k pos) (Uw X.K n t):=by
 intro p9 s Y H v u Q I r hw;let(a,xs,J,L,hl,hw):=hw;subst J;cases r;let(O,q,ht,U):=I.tuple L;show assign_Tuple_tuple (I.ok.hd hc) ht (by simp[hn,<-hl,q⁻¹]) g λh' N=>?_;have z:Inv X p9 Y H {s with heap:=h'}:=I.kept (t':=s.toks) λb o e=>N b o (cb (aI e)) e;exact h p9 _ Y H xs _ Q z (!!q) hw
def Ux(to q:TE)(t:lw):TG:=λv Y H Q=>to Y H λo H1=>q Y H1 λi H2=>t o i v H2 λg=>Q Y g
def vZ{o i:AO}{to z:TE}{t:lw}(ho:PE X o to)(hi:PE X i z)(hs:rH X t)
  (U:∀v,assign (.Subscript o i pos) X.env v=(do
   let g <-holding [v] (eval o X.env)
   let q <-holding [v,g] (eval i X.env)
   standAt pos
   holding [v,g,q] (setItem g q v)
   release [v,g,q] []):=by intro _;rfl):PG X (.Subscript o i pos) (Ux to z t):=by
 intro p9 s Y H v u Q I r h;rw[U];show ae (eJ (thn (ho p9 s Y H _ I h) λg s1 zZ=>?_));let(x,H1,L,r1,q1):=zZ;show ae (eJ (thn (hi p9 s1 Y H1 _ L q1) λq s2 zZ=>?_));let(y,H2,N,r2,q2):=zZ;show ae (hU (ae (eJ (thn (hs p9 s2 Y H2 x y v g q u _ N r1 r2 r q2) λp s3 zZ=>?_))));let(J,O,q3):=zZ;exact wpAny_release ⟨Y,J,O,q3⟩
def rK(te:TE)(g:TG):TS:=λD Y H=>te Y H λx H1=>g x Y H1 D.nx
def v6{tg e:AO}{te:TE}{g:TG}(he:PE X e te)(J:PG X tg g)(hs:swapsWithSole [tg] e pos.line X.env=pure false:=by rfl)(hw:swappedStores [tg] e X.env=pure none:=by rfl)
  (h1:(assignEach [tg] X.env).map (·.2)=[assign tg X.env]:=by rfl):PS X (.Assign [tg] e pos) (rK te g):=by
 intro p9 s Y H D I h;show wpAny_Assign_stores (thn (he p9 s Y H _ I h) λv O zZ=>?_) hs hw;let(x,H1,z,N,L):=zZ;rw[h1];exact thn (J p9 O Y H1 x v _ z N L) λy U q=>q
def v7{i:Nat}{x:Str}{e:AO}{te:TE}{pos':Pos}(z:X.N.Nodup)(hi:X.N[i]?=-x)(L:Loc X.env.scope x)(he:PE X e te)(hs:swapsWith e (-(.Name x pos')) pos.line X.env=pure false:=by rfl)(J:X.fn x=true\/X.env.scope.names.lookup x=-.local:=by first|exact .inl rfl|exact .inr rfl|assumption):
  PS X (.Assign [.Name x pos'] e pos) (rK te (lz i)):=by
 intro p9 s Y H D I h;show wpAny_Assign_Name (thn (he p9 s Y H _ I h) λv U zZ=>?_) hs;let(y,H1,g,O,N):=zZ;exact rG g z hi L O (λs2 q=>⟨_,H1,q,N⟩) J
def Uy(i:Nat)(te:TE)(g:TIp):TS:=λD Y H=>∃x,Y[i]?=-(-x)/\te Y H λy H1=>g x y H1 λz H2=>D.nx (Y.set i (-z)) H2
def Uz{i:Nat}{x:Str}{e:AO}{te:TE}{op:Operator}{O:TIp}{pos':Pos}(hN:X.N.Nodup)(hi:X.N[i]?=-x)(N:Loc X.env.scope x)(he:PE X e te)(ho:PIp X op O)(hf:X.fn x=true\/X.env.scope.names.lookup x=-.local:=by first|exact .inl rfl|exact .inr rfl|assumption):
  PS X (.AugAssign (.Name x pos') op e pos) (Uy i te O):=by
 intro p9 s Y H D I h;let(v,e1,h):=h;let(m,hn,hl):=I.loc;have vis:Vis X.env.scope x:=by rcases N with k|k;exact .inl k;exact .inr (.inl k)
 let(u,r,l):=hl i x v hi e1 vis;show wpAny_AugAssign_Name ?_;have go:↥X (eval e X.env) (λw J=>↥X (inplaceOp op u w) (λr L=>↥X (storeName X.env x r) (λt=>SP X p9 D .next) X.xe L) X.xe J) X.xe s:=by show thn (he p9 s Y H _ I h) λw s1 zZ=>?_;let(y,H1,U,r1,q1):=zZ;show thn (ho p9 s1 Y H1 v y u w _ U r r1 q1) λz s2 zZ=>?_;let(zv,H2,I2,r2,q2):=zZ;exact rG I2 hN hi N r2 (λs3 I3=>⟨_,H2,I3,q2⟩) hf
 rcases l with⟨g,hm⟩|⟨g,c,hc,q⟩
 .exact wpAny_loadName_local I.ok.kind g hn hm go
 .rcases g with g|g
  .exact wpAny_loadName_cell I.ok.kind g hc q go
  .rcases N with k|k
   .have:X.env.scope.names.lookup x=-.free:=g;rw[k]at this;cases this
   .have:X.env.scope.names.lookup x=-.free:=g;rw[k]at this;cases this
def UG(to U te:TE)(g:V->V->Hp->VK->Prop)(I:TIp)(q:lw):TS:=λD Y H=>to Y H λo H1=>U Y H1 λi H2=>g o i H2 λx J=>te Y J λy L=>I x y L λz N=>q o i z N λO=>D.nx Y O
def DN(X:Cx)(t:V->V->Hp->VK->Prop):Prop:=
 ∀(p9:AC)(s:AI)(Y:St)(H:Hp)(o i:V)(q g:AN)(Q:VK),Inv X p9 Y H s->RelV o q->RelV i g->t o i H Q->
  ↥X (getItem q g) (EP X p9 Y Q) X.xe s
def UJ{o i e:AO}{to ti te:TE}{g:V->V->Hp->VK->Prop}{L:TIp}{q:lw}{op:Operator}{tpos:Pos}(ho:PE X o to)(hi:PE X i ti)(hg:DN X g)(he:PE X e te)(hp:PIp X op L)(hs:rH X q)
  (ha:∀J z new,augStore i J z new=(do holding [new,J,z] (setItem J z new);release [new,J,z] [];pure .next):=by intros;rfl):PS X (.AugAssign (.Subscript o i tpos) op e pos) (UG to ti te g L q):=by
 intro p9 s Y H D I h;show wpAny_AugAssign_SubscriptAny (thn (ho p9 s Y H _ I h) λJ s1 zZ=>?_) ha;let(x1,H1,I1,O,q1):=zZ;show thn (hi p9 s1 Y H1 _ I1 q1) λz s2 zZ=>?_;let(x2,H2,I2,U,q2):=zZ;show thn (hg p9 s2 Y H2 x1 x2 J z _ I2 O U q2) λN s3 zZ=>?_;let(x3,H3,I3,r3,q3):=zZ;show thn (he p9 s3 Y H3 _ I3 q3) λv s4 zZ=>?_;let(x4,H4,I4,r4,q4):=zZ;show thn (hp p9 s4 Y H4 x3 x4 N v _ I4 r3 r4 q4) λnew s5 zZ=>?_;let(x5,H5,I5,r5,q5):=zZ;show thn (hs p9 s5 Y H5 x1 x2 x5 J z new _ I5 O U r5 q5) λy s6 zZ=>?_;let(H6,I6,q6):=zZ;exact⟨Y,H6,I6,q6⟩
end
section
variable {X:Cx} {pos:Pos}
def UL(c:TT)(tb:TS):TS:=λD Y H=>∃W:Nat->St->Hp->Prop,(∃m,W m Y H)/\∀m Y H,W m Y H->
 c Y H λb H1=>if b=true then ∃N:St->Hp->Prop,(∀g H',N g H'->∃q,q<m/\W q g H')/\tb {D with nx:=N,ct:=N,bk:=D.nx} Y H1 else D.nx Y H1
def UT{c:AO}{body:AF}{tc:TT}{tb:TS}(hp:PassesOwn (model X.prog X.w) X.A X.env X.xe)(hc:PT X c tc)(hb:PSs X body tb):PS X (.While c body [] pos) (UL tc tb):=by
 intro p9 s Y H D I h;let(W,(m0,w0),J):=h;show wpAny_While (codeAny_whileLoop (λn s'=>∃L H',Inv X p9 L H' s'/\W n L H') ?_ m0 ⟨Y,H,I,w0⟩);rintro n s1 ⟨q,H1,I1,w1⟩;show fS hp (thn (hc p9 s1 q H1 _ I1 (J n q H1 w1)) λb s2 zZ=>?_);let(H2,I2,O):=zZ;cases b with
 |true=>
  let(N,hN,O):=O;rw[if_pos rfl];show fS hp (thn (hb p9 s2 q H2 _ I2 O) λf s3 U=>?_);cases f with
  |next=>
   let(g,z,I3,n3):=U;let(m',hm,w3):=hN g z n3;exact⟨m',hm,g,z,I3,w3⟩
  |cont=>
   let(g,z,I3,n3):=U;let(m',hm,w3):=hN g z n3;exact⟨m',hm,g,z,I3,w3⟩
  |brk=>exact U
  |ret v=>exact U
 |false=>
  rw[if_neg bq];exact wpAny_execs_nil ⟨q,H2,I2,O⟩
end
structure It where
 go:Nat->Hp->Prop
 yld:Nat->Hp->V->Hp->Prop
 stop:Nat->Hp->Prop
def dJ(X:Cx)(p9:AC)(H:Hp)(b:AQ):Prop:=
 H b=none/\b≠X.env.locals/\b∉X.fs/\(b∈X.ex\/X.s₀.heap.objs.size<=b)/\(∀x c,X.env.cells.lookup x=-c->c≠b)/\∀p∈X.pn++p9,p.1≠b
def Inv.fpOk{X:Cx}{p9:AC}{Y:St}{H H':Hp}{s:AI}{b:AQ}(I:Inv X p9 Y H s)(g:(~~~s)<=b)(hn:H' b=none):dJ X p9 H' b:=by
 show⟨hn,ge (bS I.lt g),I.nofs g,.inr (b3 I.sz g),λx c e z=>?_,λp J z=>?_⟩
 .let(v,q):=I.cell x c e;exact absurd (bS q.lt (by rw[z];exact g)) (d0 _)
 .exact absurd (bS (aI (I.pin p J).1) (by rw[z];exact g)) (d0 _)
structure Turn(P:AK)(w:World)(K:PF)(tg:AO)(J:It)(fp:List AQ)(it:AQ)(tn:Nat->Heap->Prop):Prop where
 mem:it∈fp
 obj:∀i h,tn i h->∀b∈fp,∃o,h.get? b=some o/\∀v,o.data≠.cell v
 keep:∀i h h',tn i h->(∀b∈fp,∀o,h.get? b=some o->h'.get? b=some o)->tn i h'
 item:∀(X:Cx),X.prog=P->X.w=w->X.K=K->X.calm=true->∀(i:Nat)(p9:AC)(s:AI)(Y:St)(H:Hp)(E:AG),Inv X p9 Y H s->(∀b∈fp,dJ X p9 H b)->tn i s.heap->J.go i H->
  wpAny (model P w) X.A (pyNext (.ref it)) (λr s1=>∃u,r=some u/\
   wpAny (model P w) X.A (letOwnedTupleGo tg (.ref it) u) (λz s2=>∃x H',Inv X p9 Y H' s2/\RelV x u/\J.yld i H x H'/\tn (i+1) s2.heap/\∀b∈fp,H' b=none) E s1) E s
 done:∀(X:Cx),X.prog=P->X.w=w->X.K=K->X.calm=true->∀(i:Nat)(p9:AC)(s:AI)(Y:St)(H:Hp)(E:AG),Inv X p9 Y H s->(∀b∈fp,dJ X p9 H b)->tn i s.heap->J.stop i H->
  wpAny (model P w) X.A (pyNext (.ref it)) (λr s1=>r=none/\Inv X p9 Y H s1) E s
 self:∀(A:AM)(i:Nat)(s:AI)(Q:AG)(E:AG),tn i s.heap->Q (.ref it) s->wpAny (model P w) A (pyIter (.ref it)) Q E s
abbrev TI:=St->Hp->(It->Hp->Prop)->Prop
def PIE(X:Cx)(p9:AC)(Y:St)(tg:AO)(R:It->Hp->Prop)(g:AN)(z:AI):Prop:=
 ∃(it:AQ)(q:List AQ)(I:Nat->Heap->Prop)(J:It)(H':Hp),g=.ref it/\Inv X p9 Y H' z/\Turn X.prog X.w X.K tg J q it I/\I 0 z.heap/\(∀b∈q,dJ X p9 H' b)/\R J H'
def PI(X:Cx)(tg iter:AO)(q:TI):Prop:=
 ∀(p9:AC)(s:AI)(Y:St)(H:Hp)(R:It->Hp->Prop),Inv X p9 Y H s->q Y H R->
  ↥X (eval iter X.env) (λv g=>↥X (pyIter v) (PIE X p9 Y tg R) X.xe g) X.xe s
def jn{M:Model}{A:AM}{E:AG}{s:AI}{tg:AO}{it:AQ}{u:AN}{o:Obj}{n:AL}{vs:Array AN}{Q:Unit->AI->Prop}(z:s.heap.get? it=-o)(hc:o.cls=.type n)(q:o.data=.fields vs)
  (hn:["enumerate","zip","dict_itemiterator","dict_reverseitemiterator","odict_iterator","itertools.zip_longest","itertools.pairwise"].contains n=false) (g:Q () s):wpAny M A (letOwnedTupleGo tg (.ref it) u) Q E s:=by
 unfold letOwnedTupleGo;cases tg<;>first
  |exact aw g
  | (cases u<;>first
    |exact aw g
    | (show ae (wpAny_load z ?_)
       rw[hc,q];change wpAny M A (if(["enumerate","zip","dict_itemiterator","dict_reverseitemiterator","odict_iterator","itertools.zip_longest","itertools.pairwise"].contains n&&vs[0]?==-(rawInt _))=true then _ else _) Q E s;rw[if_neg (by intro h;rw[hn,Bool.false_and]at h;cases h)];exact aw g))
def Itl(K:PF)(a:AQ):It:=
 ⟨λi H=>∃xs x,SqL K H a xs/\xs[i]?=-x,λi H x H'=>H'=H/\∀xs,SqL K H a xs->xs[i]?=-x,λi H=>∃xs,SqL K H a xs/\xs⁻¹<=i⟩
def Itt(K:PF)(a:AQ):It:=
 ⟨λi H=>∃xs x,SqT K H a xs/\xs[i]?=-x,λi H x H'=>H'=H/\∀xs,SqT K H a xs->xs[i]?=-x,λi H=>∃xs,SqT K H a xs/\xs⁻¹<=i⟩
def Itr(lo:Int)(n:Nat):It:=⟨λi z=>i<n,λi H x H'=>H'=H/\x=.int (lo+i),λi z=>n<=i⟩
def DQ{P:AK}{w:World}{K:PF}{tg:AO}(a it:AQ):Turn P w K tg (Itl K a) [it] it (λi h=>h.IsListIter it a i) where
 mem:=by simp
 obj:=λi h st b g=>by
  have e:b=it:=by simpa using g
  subst e;let(o,e,c,d):=st;exact⟨o,e,λv z=>by rw[d]at z;cases z⟩
 keep:=λi h h' st k=>st.at λo e=>k it (!2) o e
 item:=by intro X O hw N hc i p9 s Y H E I J st U;subst O hw N;let(xs,x,L,hx):=U;let(its,rv,p,hz):=I.list L;let(u,hu,ru):=rv.get hx;let(f0,f1,f2,f3,f4,f5):=J it (!2);show wpAny_pyNext_list_item st p.isList (x:=u) (!!hu) λh' q sb=>?_;have I1:Inv X p9 Y H {s with heap:=h'}:=I.turned (t':=s.toks) (λb o g e=>(sb.2 b g).trans e) f0 f1 f3 f4 f5;let(o,e,c,d):=id q;exact⟨u,rfl,jn (s:={s with heap:=h'}) e c d (!1) ⟨x,H,I1,ru,⟨rfl,λys hy=>by rw[I.list_inj hy L];exact hx⟩,q,λb g=>(J b g).1⟩⟩
 done:=by intro X O hw N hc i p9 s Y H E I J st U;subst O hw N;let(xs,L,hx):=U;let(its,rv,p,hz):=I.list L;let(f0,f1,f2,f3,f4,f5):=J it (!2);have hl:=rv⁻¹;exact wpAny_pyNext_list_end (I.ok.hd hc) st p.isList (by simp;lia) λh' eb=>⟨rfl,I.turned (t':=s.toks) (λb o g e=>eb b o g e) f0 f1 f3 f4 f5⟩
 self:=λy y y y y st h=>wpAny_pyIter_listiter st h
def DR{P:AK}{w:World}{K:PF}{tg:AO}(a it:AQ):Turn P w K tg (Itt K a) [it] it (λi h=>h.IsTupleIter it a i) where
 mem:=by simp
 obj:=λi h st b g=>by
  have e:b=it:=by simpa using g
  subst e;let(o,e,c,d):=st;exact⟨o,e,λv z=>by rw[d]at z;cases z⟩
 keep:=λi h h' st k=>st.at λo e=>k it (!2) o e
 item:=by intro X U hw O hc i p9 s Y H E I L st hg;subst U hw O;let(xs,x,N,hx):=hg;let(q,rv,p,hz):=I.tuple N;let(u,hu,ru):=rv.get hx;let(f0,f1,f2,f3,f4,f5):=L it (!2);show wpAny_pyNext_tuple_item st (show s.heap.IsTuple a q.toArray from p) (x:=u) (!!hu) λh' J sb=>?_;have I1:Inv X p9 Y H {s with heap:=h'}:=I.turned (t':=s.toks) (λb o g e=>(sb.2 b g).trans e) f0 f1 f3 f4 f5;let(o,e,c,d):=id J;exact⟨u,rfl,jn (s:={s with heap:=h'}) e c d (!1) ⟨x,H,I1,ru,⟨rfl,λys hy=>by rw[I.tuple_inj hy N];exact hx⟩,J,λb g=>(L b g).1⟩⟩
 done:=by intro X U hw O hc i p9 s Y H E I L st hg;subst U hw O;let(xs,N,hx):=hg;let(q,rv,p,hz):=I.tuple N;let(f0,f1,f2,f3,f4,f5):=L it (!2);have hl:=rv⁻¹;exact wpAny_pyNext_tuple_end (I.ok.hd hc) st (show s.heap.IsTuple a q.toArray from p) (by simp;lia) λh' eb=>⟨rfl,I.turned (t':=s.toks) (λb o g e=>eb b o g e) f0 f1 f3 f4 f5⟩
 self:=λy y y y y st h=>wpAny_pyIter_tupleiter st h
def UV{P:AK}{w:World}{K:PF}{tg:AO}(it:AQ)(lo:Int)(n:Nat):Turn P w K tg (Itr lo n) [it] it (λi h=>IsRangeIter h it (lo+(i:Nat)*1) ((n:Int)-(i:Nat)) 1) where
 mem:=by simp
 obj:=λi h st b g=>by
  have e:b=it:=by simpa using g
  subst e;exact⟨_,st,λv z=>by
   have z':Data.fields _=Data.cell v:=z;cases z'⟩
 keep:=λi h h' st k=>k it (!2) _ st
 item:=by intro X N hw L hc i p9 s Y H E I J st O;subst N hw L;let(f0,f1,f2,f3,f4,f5):=J it (!2);have W:=Walks.range (prog:=X.prog) (w:=X.w) (I.ok.hd hc) it lo 1 n;show W.item i s _ _ O st λv h' U hv q kk=>?_;let(t,rfl):=hv;have I1:Inv X p9 Y H {s with heap:=h',toks:=U}:=I.turned (λb o g e=>kk b o (!!g) e) f0 f1 f3 f4 f5;show⟨_,rfl,jn (s:={s with heap:=h',toks:=U}) (n:="range_iterator") q rfl rfl (!1) ⟨.int (lo+i),H,I1,⟨t,?_⟩,⟨rfl,rfl⟩,q,λb g=>(J b g).1⟩⟩;rw[Int.mul_one]
 done:=by intro X N hw L hc i p9 s Y H E I J st O;subst N hw L;let(f0,f1,f2,f3,f4,f5):=J it (!2);exact wpAny_pyNext_range_end (I.ok.hd hc) st (by have:n<=i:=O;lia) λh' eb=>⟨rfl,I.turned (t':=s.toks) (λb o g e=>eb b o g e) f0 f1 f3 f4 f5⟩
 self:=λy y y y y st h=>wpAny_pyIter_rangeiter st h
section
variable {X:Cx} {tg:AO}
theorem UW{p9:AC}{Y:St}{H:Hp}{s:AI}{R:It->Hp->Prop}{E:AG}{lo hi:Int}{t u v:Tok}{z:Nat}(I:Inv X p9 Y H s)(h1:Neg.neg (2 ^ 62)<=lo)(h2:lo<2 ^ 62)(N:Neg.neg (2 ^ 62)<=hi)(O:hi<2 ^ 62)
  (q:R (Itr lo (hi-lo).toNat) H):↥X (pyIter (.ref (~~~s))) (PIE X p9 Y tg R) E {s with heap:=s.heap.push {cls:=.type "range",data:=.fields #[.int lo t,.int hi u,.int 1 v]},toks:=z}:=by
 show wpAny_pyIter_range (IsRange.new ..) (small_one h1 h2 N O) ?_;have g:Inv X p9 Y H {s with heap:=s.heap.push {cls:=.type "range",data:=.fields #[.int lo t,.int hi u,.int 1 v]},toks:=z}:=I.kept λb o e=>ah _ e;show⟨(s.heap.push {cls:=.type "range",data:=.fields #[.int lo t,.int hi u,.int 1 v]}).objs.size,[(s.heap.push {cls:=.type "range",data:=.fields #[.int lo t,.int hi u,.int 1 v]}).objs.size],_,_,H,rfl,
  g.kept (t':=z) λb o e=>ah _ e,UV _ lo (hi-lo).toNat,?_,λb U=>?_,q⟩
 .have J:lo+((0:Nat):Int)*1=lo:=by simp
  have L:(((hi-lo).toNat:Nat):Int)-((0:Nat):Int)=Builtin.Range.rangeSize lo hi 1:=by rw[rangeSize_one];split<;>lia
  change IsRangeIter _ _ (lo+((0:Nat):Int)*1) ((((hi-lo).toNat:Nat):Int)-((0:Nat):Int)) 1;rw[J,L];exact a7 _ rfl
 .have e:b=(s.heap.push {cls:=.type "range",data:=.fields #[.int lo t,.int hi u,.int 1 v]}).objs.size:=by simpa using U
  subst e;exact g.fpOk (ar _) (g.hok.fresh (ar _))
def U0(ta:TA):TI:=λY H R=>ta Y H λvs H1=>∃j:Int,vs=[.int j]/\Neg.neg (2 ^ 62)<=j/\j<2 ^ 62/\R (Itr 0 j.toNat) H1
theorem U3 {a:AO} {ta:TA} {p pos:Pos} (L:Gl X "range") (N:X.mg "range"=none) (J:PA X [a] ta) (hs:starEach [a] X.env=[(false,eval a X.env)]:=by rfl):PI X tg (.Call (.Name "range" p) [a] [] pos) (U0 ta):=by
 intro p9 s Y H R I h;show Call_ (gh I L N boot_range (d6 (thn (J pos p9 s Y H _ I h) λus s1 zZ=>?_) hs rfl));let(vs,H1,z,U,g):=zZ;let(j,e,g,O,q):=g;subst e;cases U with
 |cons r rr=>
  cases rr;let(t,rfl):=r;exact call_range_1 (UW z (!0) (!0) g O (!!q))
def U4(L:TI)(g:TG)(tb:TS):TS:=λD Y H=>L Y H λJ H1=>∃W:Nat->Nat->St->Hp->Prop,(∃m,W 0 m Y H1)/\∀i m Y H,W i m Y H->
 (J.stop i H/\D.nx Y H)\/(J.go i H/\∃N:St->Hp->Prop,(∀q H',N q H'->∃I,I<m/\W (i+1) I q H')/\∀x H',J.yld i H x H'->g x Y H' λz H2=>tb {D with nx:=N,ct:=N,bk:=D.nx} z H2)
def jo(g:List AQ)(h:Heap):AC:=g.filterMap λb=>(h.get? b).map λo=>(b,o)
def jq{g:List AQ}{h:Heap}{b:AQ}{o:Obj}(q:b∈g)(e:h.get? b=-o):(b,o)∈jo g h:=List.mem_filterMap.mpr ⟨b,q,by rw[e];rfl⟩
def DW{g:List AQ}{h:Heap}{p:AQ×Obj}(J:p∈jo g h):p.1∈g/\h.get? p.1=-p.2:=by
 let(b,I,e):=List.mem_filterMap.mp J;cases q:h.get? b with
 |none=>rw[q]at e;cases e
 |some o=>
  rw[q]at e;have z:(b,o)=p:=cw e;subst z;exact⟨I,q⟩
def Inv.pinned{p9:AC}{Y:St}{H:Hp}{s:AI}{g:List AQ}(I:Inv X p9 Y H s)(L:∀b∈g,dJ X p9 H b)(N:∀b∈g,∃o,s.heap.get? b=-o/\∀v,o.data≠.cell v):Inv X (p9++jo g s.heap) Y H s:=
 I.pins_of λp O=>(aE.mp O).elim (λz=>I.pin p (ay _ z)) λz=>by
  let(J,e):=DW z;let(f0,f1,f2,_):=L p.1 J;let(o,q,d):=N p.1 J;rw[e]at q;cases q;exact⟨e,f0,f1,f2,d⟩
def Inv.unpinned{p9 pl:AC}{Y:St}{H:Hp}{s:AI}(I:Inv X (p9++pl) Y H s):Inv X p9 Y H s:=I.pins_of λp g=>I.pin p (ay _ (c6 _ g))
def DX{iter:AO}{body:AF}{wi:TI}{g:TG}{tb:TS}{pos:Pos}(hp:PassesOwn (model X.prog X.w) X.A X.env X.xe)(hc:X.calm)(hi:PI X tg iter wi)(hg:PG X tg g)(U:PSs X body tb)
  (hs:∀x,foldedSetIterable iter X.env x=pure x:=by intro _;rfl):PS X (.For tg iter body [] pos) (U4 wi g tb):=by
 intro p9 s Y H D I h;show wpAny_For (thn (hi p9 s Y H _ I h) λv s1 h1=>thn h1 λitv s2 h2=>?_) hs;let(it,fp,tn,J,H2,e,I2,T,st2,f2,W,(m0,w0),turn):=h2;subst e
 -- what stays true of the iterator's objects through the loop
 have stat:∀{H':Hp},(∀b∈fp,H' b=none)->∀b∈fp,dJ X p9 H' b:=λhn b U=>⟨hn b U,(f2 b U).2⟩;show codeAny_forLoop_any (λn s'=>∃i σ' H',Inv X p9 σ' H' s'/\tn i s'.heap/\(∀b∈fp,H' b=none)/\W i n σ' H') ?_ m0 ⟨0,Y,H2,I2,st2,λb U=>(f2 b U).1,w0⟩;rintro n s3 ⟨i,σ3,H3,I3,st3,fr3,w3⟩;rcases turn i n σ3 H3 w3 with⟨stop,qn⟩|⟨go,N,hN,step⟩
 .show fS hp (thn (T.done X rfl rfl rfl hc i p9 s3 σ3 H3 X.xe I3 (stat fr3) st3 stop) λr s4 zZ=>?_);let(hr,I4):=zZ;subst hr;exact wpAny_execs_nil ⟨σ3,H3,I4,qn⟩
 .show fS hp (thn (T.item X rfl rfl rfl hc i p9 s3 σ3 H3 X.xe I3 (stat fr3) st3 go) λr s4 zZ=>?_);let(u,hr,h4):=zZ;subst hr;show fS hp (thn h4 λy s5 zZ=>?_);let(x,H5,I5,r5,y5,st5,fr5):=zZ;have I5':=I5.pinned (stat fr5) (T.obj _ _ st5);show fS hp (thn (hg _ s5 σ3 H5 x u _ I5' r5 (step x H5 y5)) λy s6 zZ=>?_);let(σ6,H6,I6,q6):=zZ;show fS hp (thn (U _ s6 σ6 H6 _ I6 q6) λf s7 q7=>?_);have O:∀{q:St}{z:Hp},Inv X (p9++jo fp s5.heap) q z s7->N q z->∃m,m<n/\∃i σ' H',Inv X p9 σ' H' s7/\tn i s7.heap/\(∀b∈fp,H' b=none)/\W i m σ' H':=λ{q z} L n7=>by
   let(m',hm,w7):=hN q z n7;show⟨m',hm,i+1,q,z,L.unpinned,T.keep _ _ _ st5 λb U o e=>(L.pin (b,o) (ay _ (ay _ (jq U e)))).1,λb U=>?_,w7⟩;let(o,e,d):=T.obj _ _ st5 b U;exact(L.pin (b,o) (ay _ (ay _ (jq U e)))).2.1
  cases f with
  |next=>let(q,z,L,n7):=q7;exact O L n7
  |cont=>let(q,z,L,n7):=q7;exact O L n7
  |brk=>let(q,z,L,q7):=q7;exact⟨q,z,L.unpinned,q7⟩
  |ret v=>let(x7,q,z,L,r7,q7):=q7;exact⟨x7,q,z,L.unpinned,r7,q7⟩
end
abbrev R2:=V->V->Hp->VK->Prop
def OpR(X:Cx)(f:AN->AN->Sem AN)(r:R2):Prop:=
 ∀(p9:AC)(s:AI)(Y:St)(H:Hp)(x y:V)(v u:AN)(Q:VK),Inv X p9 Y H s->RelV x v->RelV y u->r x y H Q->
  ↥X (f v u) (EP X p9 Y Q) X.xe s
def UnR(X:Cx)(f:AN->Sem AN)(r:V->Hp->VK->Prop):Prop:=
 ∀(p9:AC)(s:AI)(Y:St)(H:Hp)(x:V)(v:AN)(Q:VK),Inv X p9 Y H s->RelV x v->r x H Q->
  ↥X (f v) (EP X p9 Y Q) X.xe s
def bD(X:Cx)(f:AN)(r:AR->Hp->VK->Prop):Prop:=
 ∀(p9:AC)(s:AI)(Y:St)(H:Hp)(xs:AR)(us:AB)(Q:VK),Inv X p9 Y H s->Vals xs us->r xs H Q->
  ↥X (call f us) (EP X p9 Y Q) X.xe s
def U5(X:Cx)(r:V->Hp->(Bool->Hp->Prop)->Prop):Prop:=
 ∀(p9:AC)(s:AI)(Y:St)(H:Hp)(x:V)(v:AN)(Q:Bool->Hp->Prop),Inv X p9 Y H s->RelV x v->r x H Q->
  ↥X (truthy v) (TP X p9 Y Q) X.xe s
def tOp(r:R2)(ta tb:TE):TE:=λY H Q=>ta Y H λx H1=>tb Y H1 λy H2=>r x y H2 Q
def tUn(r:V->Hp->VK->Prop)(ta:TE):TE:=λY H Q=>ta Y H λx H1=>r x H1 Q
def rI(C:Int->Int->Prop)(g:Int->Int->V):R2:=λx y H Q=>∃i j,x=.int i/\y=.int j/\C i j/\Q (g i j) H
def rI0(g:Int->Int->V):R2:=λx y H Q=>∃i j,x=.int i/\y=.int j/\Q (g i j) H
def rU(g:Int->V):V->Hp->VK->Prop:=λx H Q=>∃i,x=.int i/\Q (g i) H
section
variable {X:Cx} {a b c:AO} {ta tb tc:TE} {pos:Pos}
def v8(N:PE X a ta)(O:PE X b tb){p9:AC}{s:AI}{Y:St}{H:Hp}{R:V->V->Hp->Prop}(I:Inv X p9 Y H s)
  (h:ta Y H λx H1=>tb Y H1 λy H2=>R x y H2) {Q:AG} {f:AN->AN->Sem AN}
  (U:∀v u z x y H2,Inv X p9 Y H2 z->RelV x v->RelV y u->R x y H2->↥X (f v u) Q X.xe z):
  ↥X (eval a X.env) (λv g=>↥X (eval b X.env) (λu q=>↥X (f v u) Q X.xe q) X.xe g) X.xe s:=by
 show thn (N p9 s Y H _ I h) λv s1 zZ=>?_;let(x,H1,J,r1,q1):=zZ;show thn (O p9 s1 Y H1 _ J q1) λu z zZ=>?_;let(y,H2,L,r2,q2):=zZ;exact U v u z x y H2 L r1 r2 q2
def DY{op:Operator}{r:R2}(L:OpR X (binaryOp op) r)(z:PE X a ta)(J:PE X b tb):PE X (.BinOp a op b pos) (tOp r ta tb):=by intro p9 s Y H Q I h;exact wpAny_BinOp (v8 z J I h λv u U x y H2 g N O q=>L p9 U Y H2 x y v u Q g N O q)
def U6{op:UnaryOp}{r:V->Hp->VK->Prop}(z:UnR X (unaryOp op) r)(q:PE X a ta):PE X (.UnaryOp op a pos) (tUn r ta):=by intro p9 s Y H Q I h;show UnaryOp_ (thn (q p9 s Y H _ I h) λv N zZ=>?_);let(x,H1,g,L,J):=zZ;exact z p9 N Y H1 x v Q g L J
def opI{f:AN->AN->Sem AN}{C:Int->Int->Prop}{g:Int->Int->Int}
  (z:∀(i j:Int)(t u:Tok)(s:AI)(Q:AG)(E:AG),C i j->Q (.int (g i j) s.toks) {s with toks:=s.toks+1}->↥X (f (.int i t) (.int j u)) Q E s):
  OpR X f (rI C λi j=>.int (g i j)):=by
 intro p9 s Y H x y v u Q I J L h;let(i,j,rfl,rfl,hc,q):=h;let(t,rfl):=J;let(t',rfl):=L;exact z i j t t' s _ _ hc ⟨.int (g i j),H,I.tok _,⟨_,rfl⟩,q⟩
def rM{f:AN->AN->Sem AN}{g:Int->Int->Int}
  (z:∀(i j:Int)(t u:Tok)(s:AI)(Q:AG)(E:AG),Q (.int (g i j) s.toks) {s with toks:=s.toks+1}->↥X (f (.int i t) (.int j u)) Q E s):
  OpR X f (rI0 λi j=>.int (g i j)):=by
 intro p9 s Y H x y v u Q I J L h;let(i,j,rfl,rfl,q):=h;let(t,rfl):=J;let(t',rfl):=L;exact z i j t t' s _ _ ⟨.int (g i j),H,I.tok _,⟨_,rfl⟩,q⟩
def U7{f:AN->AN->Sem AN}{g:Int->Int->Bool}
  (z:∀(i j:Int)(t u:Tok)(s:AI)(Q:AG)(E:AG),Q (.bool (g i j)) s->↥X (f (.int i t) (.int j u)) Q E s):
  OpR X f (rI0 λi j=>.bl (g i j)):=by
 intro p9 s Y H x y v u Q I J L h;let(i,j,rfl,rfl,q):=h;let(t,rfl):=J;let(t',rfl):=L;exact z i j t t' s _ _ ⟨.bl (g i j),H,I,rfl,q⟩
def rN(i j:Int):Prop:=0<=j/\j<=1000000/\i.natAbs<2 ^ 64
def CMul(i j:Int):Prop:=(Neg.neg (2 ^ 64)<i/\i<2 ^ 64)\/(Neg.neg (2 ^ 64)<j/\j<2 ^ 64)
def CMul.ok{i j:Int}(h:CMul i j):IntMulOk i j:=by
 rcases h with⟨h1,h2⟩|⟨h1,h2⟩
 .exact .of_left (intBits_le_64 h1 h2)
 .exact .of_right (intBits_le_64 h1 h2)
def Ea:OpR X (binaryOp .Add) (rI0 λi j=>.int (i+j)):=rM λz z z z z z z q=>add_int q
def U8:OpR X (binaryOp .Sub) (rI0 λi j=>.int (i-j)):=rM λz z z z z z z q=>sub_int q
def U9:OpR X (binaryOp .Mult) (rI CMul λi j=>.int (i*j)):=opI λz z z z z z z hc q=>mul_int q hc.ok
theorem Va:OpR X (binaryOp .Mod) (rI (λz j=>0<j) λi j=>.int (i%j)):=opI λi j z z z z z hc q=>by
 have h1:(0:Int)<j:=hc;exact mod_int' (!0) (by rw[Int.fmod_eq_emod_of_nonneg i (!0)];exact q)
def Vb:OpR X (binaryOp .Pow) (rI rN λi j=>.int (i ^ j.toNat)):=opI λz z z z z z z hc q=>pow_int_small hc.1 hc.2.1 hc.2.2 q
def Vc:OpR X (inplaceOp .Add) (rI0 λi j=>.int (i+j)):=rM λz z z z z z z q=>iadd_int q
def Vd:OpR X (inplaceOp .Sub) (rI0 λi j=>.int (i-j)):=rM λz z z z z z z q=>isub_int q
def unI{f:AN->Sem AN}{g:Int->Int}
  (z:∀(i:Int)(t:Tok)(s:AI)(Q:AG)(E:AG),Q (.int (g i) s.toks) {s with toks:=s.toks+1}->↥X (f (.int i t)) Q E s):
  UnR X f (rU λi=>.int (g i)):=by
 intro p9 s Y H x v Q I J h;let(i,rfl,q):=h;let(t,rfl):=J;exact z i t s _ _ ⟨.int (g i),H,I.tok _,⟨_,rfl⟩,q⟩
def Ve:UnR X (unaryOp .USub) (rU λi=>.int (Neg.neg i)):=unI λz z z z z q=>neg_int q
end
section
variable {X:Cx} {a b c:AO} {ta tb tc:TE} {pos:Pos}
def Eb{p9:AC}{Y:St}{H:Hp}{s:AI}{Q:VK}{k k':Bool}(I:Inv X p9 Y H s)(q:Q (.bl k) H)(e:k=k'):EP X p9 Y Q (.bool k') s:=by subst e;exact⟨.bl k,H,I,rfl,q⟩
def Vf:OpR X (compareOp .Gt) (rI0 λi j=>.bl (decide (j<i))):=U7 λz z z z z z z q=>gt_int q
def Vg:OpR X (compareOp .Is) (λx y H Q=>y=.non/\Q (.bl (decide (x=.non))) H):=by
 intro p9 s Y H x y v u Q I g z h;let(rfl,q):=h;cases z;show is_none_gen (Eb I q ?_);cases x<;>first
  | (cases g;rfl)
  | (let(t,rfl):=g;rfl)
def Vh:OpR X (compareOp .IsNot) (λx y H Q=>y=.non/\Q (.bl (!decide (x=.non))) H):=by
 intro p9 s Y H x y v u Q I g z h;let(rfl,q):=h;cases z;show isnot_none_gen (Eb I q ?_);cases x<;>first
  | (cases g;rfl)
  | (let(t,rfl):=g;rfl)
def Vi(b:AO){op:CmpOp}(h:op≠.In:=by decide)(h2:op≠.NotIn:=by decide):behindInMarks op b=false:=by
 have g:(op==CmpOp.In)=false:=by cases op<;>first|rfl|exact absurd rfl h
 have q:(op==CmpOp.NotIn)=false:=by cases op<;>first|rfl|exact absurd rfl h2
 cases b<;>simp[behindInMarks,g,q]
def Vj{op:CmpOp}{r:R2}(N:OpR X (compareOp op) r)(z:PE X a ta)(J:PE X b tb)(L:behindInMarks op b=false):PE X (.Compare a [op] [b] pos) (tOp r ta tb):=by intro p9 s Y H Q I h;exact wpAny_Compare1 (v8 z J I h λv u s2 x y H2 g O U q=>N p9 s2 Y H2 x y v u Q g O U q) L
def Ec(t:TE):TT:=λY H Q=>t Y H λx H'=>∃k,x=.bl k/\Q k H'
def Ed{op:CmpOp}{r:R2}(ho:OpR X (compareOp op) r)(N:PE X a ta)(O:PE X b tb)(U:behindInMarks op b=false):PT X (.Compare a [op] [b] pos) (Ec (tOp r ta tb)):=by
 intro p9 s Y H Q I h;show wpAny_isTrue_Compare1 (thn (N p9 s Y H _ I h) λv s1 zZ=>?_) U;let(x,H1,q,r1,q1):=zZ;show thn (O p9 s1 Y H1 _ q q1) λu s2 zZ=>?_;let(y,H2,J,r2,q2):=zZ;show thn (ho p9 s2 Y H2 x y v u _ J r1 r2 q2) λc s3 zZ=>?_;let(z,g,L,r3,k,e,q3):=zZ
 subst e;cases r3;exact e8 ⟨g,L,q3⟩
def v9(r I:R2)(ta tb tc:TE):TE:=λY H Q=>ta Y H λx H1=>tb Y H1 λy H2=>r x y H2 λz g=>∃k,z=.bl k/\
 (if k=true then tc Y g λJ q=>I y J q Q else Q (.bl false) g)
def Vk{op g:CmpOp}{r O:R2}(ho:OpR X (compareOp op) r)(q:OpR X (compareOp g) O)(ha:PE X a ta)(hb:PE X b tb)(hc:PE X c tc)
  (hm:lastMarks [op,g] [b,c]=false:=by with_unfolding_all rfl):PE X (.Compare a [op,g] [b,c] pos) (v9 r O ta tb tc):=by
 intro p9 s Y H Q I h;show Compare_chain (thn (ha p9 s Y H _ I h) λv s1 zZ=>?_) hm;let(x,H1,I1,r1,q1):=zZ;show chain_link (thn (hb p9 s1 Y H1 _ I1 q1) λu s2 zZ=>?_);let(y,H2,I2,U,q2):=zZ;show thn (ho p9 s2 Y H2 x y v u _ I2 r1 U q2) λd s3 zZ=>?_;let(z,J,L,r3,k,e,N):=zZ
 subst e;cases r3;show e8 ?_;cases k with
 |false=>exact ite_ff ⟨.bl false,J,L,rfl,N⟩
 |true=>show ite_tt (chain_last (thn (hc p9 s3 Y J _ L N) λw' s4 zZ=>?_));let(z',H4,I4,r4,q4):=zZ;exact q p9 s4 Y H4 y z' u w' Q I4 U r4 q4
def Vl{op g:CmpOp}{r O:R2}(ho:OpR X (compareOp op) r)(q:OpR X (compareOp g) O)(ha:PE X a ta)(hb:PE X b tb)(hc:PE X c tc)
  (hm:lastMarks [op,g] [b,c]=false:=by with_unfolding_all rfl):PT X (.Compare a [op,g] [b,c] pos) (Ec (v9 r O ta tb tc)):=by
 intro p9 s Y H Q I h;show isTrue_chain (thn (ha p9 s Y H _ I h) λv s1 zZ=>?_) hm;let(x,H1,I1,r1,q1):=zZ;show test_link (thn (hb p9 s1 Y H1 _ I1 q1) λu s2 zZ=>?_);let(y,H2,I2,U,q2):=zZ;show thn (ho p9 s2 Y H2 x y v u _ I2 r1 U q2) λd s3 zZ=>?_;let(z,J,L,r3,k,e,N):=zZ
 subst e;cases r3;show e8 ?_;cases k with
 |false=>
  let(k',e',q'):=N;cases e';exact ite_ff ⟨J,L,q'⟩
 |true=>
  show ite_tt (test_last (thn (hc p9 s3 Y J _ L N) λw' s4 zZ=>?_));let(z',H4,I4,r4,q4):=zZ;show thn (q p9 s4 Y H4 y z' u w' _ I4 U r4 q4) λd' s5 zZ=>?_;let(z2,H5,I5,r5,k2,e2,q5):=zZ;subst e2;cases r5;exact e8 ⟨H5,I5,q5⟩
def rO(K:PF)(x:V)(H:Hp)(k:Bool):Prop:=
 match x with
 |.non=>k=false
 |.bl b=>k=b
 |.int i=>k=(i != 0)
 |.str y=>y⁻¹<=sizeLine/\k=((y⁻¹:Int) != 0)
 |.byt y=>y.size<=sizeLine/\k=((y.size:Int) != 0)
 |.ref p=>(∃xs,SqL K H p xs/\k=!xs.isEmpty)\/(∃xs,SqT K H p xs/\k=!xs.isEmpty)\/∃g,H p=-(.dK g)/\k=!g.isEmpty
 |_=>False
def Vm{κ:Type}{g:List (κ×V)}{vs:List (κ×AN)}(r:KV g vs):(!vs.isEmpty)=!g.isEmpty:=by cases r<;>rfl
def Ef{xs:AR}{g:AB}(r:Vals xs g):(!g.toArray.isEmpty)=!xs.isEmpty:=by cases r<;>simp
def gO:(sizeLine:Nat)<2 ^ 63:=by rw[ff];decide
theorem Eg:U5 X (λx H Q=>∃k,rO X.K x H k/\Q k H):=by
 intro p9 s Y H x v Q I L h;let(k,e,q):=h;have hl:=gO;have hs:sizeLine=16777216:=ff;cases x with
 |non=>
  cases L;have g:k=false:=e;subst g;exact truthy_none ⟨H,I,q⟩
 |bl b=>
  cases L;have g:k=b:=e;subst g;exact e8 ⟨H,I,q⟩
 |int i=>
  let(t,rfl):=L;have g:k=(i != 0):=e;subst g;exact PySem.P.truthy_int ⟨H,I,q⟩
 |str y=>
  let(t,rfl):=L;obtain⟨hy,g⟩:y⁻¹<=sizeLine/\k=((y⁻¹:Int) != 0):=e;subst g;exact PySem.P.truthy_str (!0) ⟨H,I.tok _,q⟩
 |byt y=>
  let(t,rfl):=L;obtain⟨hy,g⟩:y.size<=sizeLine/\k=((y.size:Int) != 0):=e;subst g;exact PySem.W.truthy_bytes (!0) ⟨H,I.tok _,q⟩
 |ref p=>
  cases L;have g:(∃xs,SqL X.K H p xs/\k=!xs.isEmpty)\/(∃xs,SqT X.K H p xs/\k=!xs.isEmpty)\/∃z,H p=-(.dK z)/\k=!z.isEmpty:=e;rcases g with⟨xs,N,g⟩|⟨xs,N,g⟩|⟨z,N,g⟩
  .subst g;let(O,r,pl,U):=I.list N;have J:=r⁻¹;exact wpAny_truthy_list pl.isList (by simp only[ax];lia) ⟨H,I.tok _,by rw[Ef r];exact q⟩
  .subst g;let(O,r,pl,U):=I.tuple N;have J:=r⁻¹;exact truthy_tuple pl (by simp only[ax];lia) ⟨H,I.tok _,by rw[Ef r];exact q⟩
  .subst g;obtain⟨U,hS,vs,r,m⟩:z⁻¹<=sizeLine/\(p==sysModules)=false/\∃vs,KV z vs/\s.heap.DictOf (bQ X.prog X.w) p vs:=I.hok p _ N;have J:z⁻¹=vs⁻¹:=hV r;exact wpAny_truthy_dict hS m (!0) ⟨H,I.tok _,by rw[Vm r];exact q⟩
 |_=>exact(show False from e).elim
def Vn(q:PE X a ta)(he:∀whole,isTrue a X.env whole=(do let v <-whole;standAt a.pos;holding [v] (truthy v))):
  PT X a (λY H Q=>ta Y H λx H'=>∃k,rO X.K x H' k/\Q k H'):=by
 intro p9 s Y H Q I h;show isTrue_plain (thn (q p9 s Y H _ I h) λv L zZ=>?_) (he _);let(x,H1,g,J,z):=zZ;exact Eg p9 L Y H1 x v Q g J z
def Vo:OpR X (binaryOp .Add) (λx y H Q=>∃i j,x=.str i/\y=.str j/\i⁻¹+j⁻¹<=sizeLine/\Q (.str (i++j)) H):=by intro p9 s Y H x y v u Q I z J h;let(i,j,rfl,rfl,g,q):=h;let(t,rfl):=z;let(t',rfl):=J;exact add_str (λt' L=>⟨.str (i++j),H,I.tok _,⟨_,rfl⟩,q⟩) g
def Vp:OpR X (inplaceOp .Add) (λx y H Q=>∃i j,x=.str i/\y=.str j/\i⁻¹+j⁻¹<=sizeLine/\Q (.str (i++j)) H):=by intro p9 s Y H x y v u Q I z J h;let(i,j,rfl,rfl,g,q):=h;let(t,rfl):=z;let(t',rfl):=J;exact iadd_str (λt' L=>⟨.str (i++j),H,I.tok _,⟨_,rfl⟩,q⟩) g
def vals1{x:V}{us:AB}(r:Vals [x] us):∃u,us=[u]/\RelV x u:=by
 cases r with
 |cons g q=>cases q;exact⟨_,rfl,g⟩
def vals2{x y:V}{us:AB}(r:Vals [x,y] us):∃u g,us=[u,g]/\RelV x u/\RelV y g:=by
 cases r with
 |cons q z=>
  cases z with
  |cons I J=>cases J;exact⟨_,_,rfl,q,I⟩
def Eh:bD X (.type "int") (λxs H Q=>(∃i,xs=[.int i]/\Q (.int i) H)\/∃k,xs=[.bl k]/\Q (.int (if k then 1 else 0)) H):=by
 intro p9 s Y H xs us Q I r h;rcases h with⟨i,rfl,q⟩|⟨k,rfl,q⟩
 .let(u,rfl,t,rfl):=vals1 r;exact call_int_int ⟨.int i,H,I,⟨_,rfl⟩,q⟩
 .let(u,rfl,g):=vals1 r;cases g;exact call_int_bool ⟨.int (if k then 1 else 0),H,I.tok _,⟨_,rfl⟩,q⟩
end
structure ObjM(h:Heap)(x dx C:AQ)(mA:AH):Prop where
 obj:h.get? x=some (PySem.W.instObj C dx)
 ns:h.Ns1 dx mA
 ne:dx≠x
def Vq{h:Heap}{dx:AQ}{mA:AH}(n:h.Ns1 dx mA):∃I,h.get? dx=-I/\∀name,PySem.W.lookIn name I=-(mA name):=by
 let(o,es,ep,U,L,N,_,O):=n;show⟨o,U,λname=>?_⟩;have e:=O name;unfold nsFind findBy at e;rw[<-Array.find?_toList]at e;unfold PySem.W.lookIn;rw[L];dsimp only;split
 .rename_i y q;rw[q]at e;exact eS some e
 .rename_i q;rw[q]at e;have a:es.toList.any (·.refKey)=false:=by
   rw[List.any_eq_false];intro y Y;let(z,t,g):=N y (Array.mem_toList_iff.mp Y);simp[DictEntry.refKey,g]
  have J:¬es.toList.any (·.refKey)=true:=by rw[a];exact bq
  rw[if_neg J];exact eS some e
def ObjM.look{h:Heap}{x dx C:AQ}{mA:AH}(I:ObjM h x dx C mA):∃g,PySem.W.InstAt h x (PySem.W.instObj C dx) C (-g)/\∀name,PySem.W.lookIn name g=-(mA name):=
 let⟨g,ho,hl⟩:=Vq I.ns
 ⟨g,⟨I.obj,rfl,rfl,ho⟩,hl⟩
section
variable {prog:AK} {w:World} {A:AM} {E:AG} {s:AI} {K:PF} {x dx C f:AQ} {mA:AH} {name:Str} {v:AN}
def Vr{g:Bool}{Q:AG}(X:K.In s.heap)(I:ObjM s.heap x dx C mA)(L:PySem.W.plainGet K C name)(hh:PySem.W.hasDictIn K C)
  (z:PySem.W.findIn K (.ref C) name=-none) (N:mA name=-v) (q:PySem.W.handedIn v) (h:Q v {s with toks:=s.toks+1}):
  wpAny (model prog w) A (getAttr (.ref x) name g) Q E s:=by
 let(O,J,hl):=I.look;exact PySem.W.get_value X J (PySem.W.plainGet_of L).1 (PySem.W.findObj_own hh z rfl (by rw[hl,N])) q h
def Vs{pl:Sem Bool}{Q:AN×AB->AI->Prop}(X:K.In s.heap)(I:ObjM s.heap x dx C mA)(g:PySem.W.plainGet K C name)
  (q:PySem.W.findIn K (.ref C) name=-(-(.ref f))) (ht:PySem.W.isFn K (.ref f)) (z:mA name=none) (h:Q (.ref f,[.ref x]) s):
  wpAny (model prog w) A (getMethod (.ref x) name pl) Q E s:=by
 let(L,J,hl):=I.look;exact PySem.W.method_fn X J (PySem.W.plainGet_of g).1 (PySem.W.plainGet_of g).2 q (a9.mp ht) (by change(PySem.W.lookIn name L).map (·.isSome)=-false;rw[hl,z];rfl) h
theorem Vt{ns:AD}{Q:Unit->AI->Prop}(X:K.In s.heap)(I:ObjM s.heap x dx C mA)
  (hs:PySem.W.findIn K (.ref C) "__setattr__"=-(-(.builtin "object.__setattr__"))) (hp:PySem.W.plainOver K C) (ht:PySem.W.takerIn K C name=-none) (hh:PySem.W.hasDictIn K C)
  (hw:PySem.Within mA ns) (hsz:ns⁻¹<=sizeLine)
  (h:∀h',ObjM h' x dx C (λy=>if y=name then some v else mA y)->Heap.SameBut dx s.heap h'->Q () {s with heap:=h',toks:=s.toks+2}):
  wpAny (model prog w) A (setAttr (.ref x) name v) Q E s:=by
 let(od,J,hl):=I.look;show PySem.W.set_plain X J hs (PySem.W.osa_open (s:={s with toks:=s.toks+1}) (r:=none) X J hp ht λb=>?_);let(cd,hc,L):=PySem.W.any_some hh;have hx:s.heap.get? x=-⟨.ref C,-dx,.plain,#[]⟩:=I.obj;show ae (aw (ae (ae (wpAny_loadPart hx (ae (PySem.W.Looks.here (s:={s with toks:=s.toks+1}) (PySem.W.looks_clsIn X hc) ?_))))));rw[L];show aw (a:=-dx) (ae (aw (ae ?_)));show wpAny_nsSet1 (s:={s with toks:=s.toks+1}) I.ns λh' g q=>?_;let(oD,Y,U,O,N,z):=g.count (PySem.Within.cons name v hw);show ae (wpAny_lookBehind O (by rw[N];exact pastItsLine_dict (b3 z (by rw[b4];lia))) ?_);exact aw (h _ ⟨(q.2 _ (Ne.symm I.ne)).trans I.obj,g,I.ne⟩ q)
def Vu{R:Result->AI->Prop}{vs:AB}{q:List (Str×AN)}(X:K.In s.heap)(I:PySem.W.makesIn K C)
  (hi:PySem.W.findIn K (.ref C) "__init__"=-(-(.ref f))) (z:PySem.W.typeIn K (.ref f)=-(.type "function"))
  (h:codeAny (model prog w) (A.under (.builtin "type.__call__" ⟨.ref C::vs,q⟩)) (.call (.ref f) ⟨.ref ((~~~s)+1)::vs,q⟩) (PySem.W.InitBack ((~~~s)+1) R)
   {s with heap:=(s.heap.push PySem.W.emptyDict).push (PySem.W.instObj C (~~~s))}):
  codeAny (model prog w) A (.call (.ref C) ⟨vs,q⟩) R s:=by
 let(hh,g,d,t,J):=s;exact PySem.W.make_core (PySem.W.makes_of X I) (PySem.W.looks_findIn X hi) (λself=>PySem.W.bind_fn X self z) (.inl rfl) h
end
def cW(f:Str)(v:V):List (Str×V)->List (Str×V)
 |[]=>[(f,v)]
 | (g,x)::r=>if g=f then(g,v)::r else(g,x)::cW f v r
def Ei(f g:Str)(v:V):∀fs:List (Str×V),(cW f v fs).lookup g=if g=f then some v else fs.lookup g
 |[]=>by
  change List.lookup g [(f,v)]=_;by_cases h:g=f
  .have q:(g==f)=true:=a9.mpr h;simp only[List.lookup,q,if_pos h]
  .have q:(g==f)=false:=cS.mpr h;simp only[List.lookup,q,if_neg h]
 | (k,x)::r=>by
  have I:=Ei f g v r;rw[show cW f v ((k,x)::r)=(if k=f then(k,v)::r else(k,x)::cW f v r) from rfl];by_cases z:k=f
  .rw[if_pos z];by_cases h:g=k
   .have q:(g==k)=true:=a9.mpr h;simp only[List.lookup,q,if_pos (h.trans z)]
   .have q:(g==k)=false:=cS.mpr h;simp only[List.lookup,q,if_neg (λe:g=f=>h (e.trans z.symm))]
  .rw[if_neg z];by_cases h:g=k
   .have q:(g==k)=true:=a9.mpr h;simp only[List.lookup,q,if_neg (λe:g=f=>z (h.symm.trans e))]
   .have q:(g==k)=false:=cS.mpr h;simp only[List.lookup,q];exact I
def wj(f:Str)(v:V):∀fs:List (Str×V),f∈(cW f v fs).map (·.1)/\∀g,g∈fs.map (·.1)->g∈(cW f v fs).map (·.1)
 |[]=>⟨by simp[cW],λg h=>by simp at h⟩
 | (k,x)::r=>by
  let(z,I):=wj f v r;rw[show cW f v ((k,x)::r)=(if k=f then(k,v)::r else(k,x)::cW f v r) from rfl];by_cases q:k=f
  .rw[if_pos q];subst q;exact⟨!2,λg h=>by simpa using h⟩
  .rw[if_neg q];show⟨?_,λg h=>?_⟩
   .rw[bg];exact aS _ z
   .rw[bg]at h ⊢;rcases bo.mp h with e|e
    .exact bo.mpr (.inl e)
    .exact aS _ (I g e)
def Ej(f:Str)(v:V):∀fs:List (Str×V),(cW f v fs)⁻¹<=fs⁻¹+1
 |[]=>by simp[cW]
 | (k,x)::r=>by
  have q:=Ej f v r;rw[show cW f v ((k,x)::r)=(if k=f then(k,v)::r else(k,x)::cW f v r) from rfl];by_cases g:k=f
  .rw[if_pos g,b4,b4];lia
  .rw[if_neg g,b4,b4];lia
def RelO.some_of{v:V}{o:Option AN}(r:RelO (-v) o):∃u,o=-u/\RelV v u:=by
 cases o with
 |none=>exact(show False from r).elim
 |some u=>exact⟨u,rfl,r⟩
def RelO.none_of{o:Option AN}(r:RelO none o):o=none:=by
 cases o with
 |none=>rfl
 |some u=>exact(show False from r).elim
def Vv{v:V}{u:AN}(r:RelV v u):PySem.W.handedIn u=true:=by
 cases v with
 |non=>cases(show u=Value.none from r);rfl
 |bl b=>cases(show u=Value.bool b from r);rfl
 |int i=>let(t,e):=(show ∃t,u=Value.int i t from r);cases e;rfl
 |str x=>let(t,e):=(show ∃t,u=Value.str x t from r);cases e;rfl
 |byt b=>let(t,e):=(show ∃t,u=Value.bytes b t from r);cases e;rfl
 |flt b=>let(t,e):=(show ∃t,u=Value.float b t from r);cases e;rfl
 |ref a=>cases(show u=Value.ref a from r);rfl
 |ty n=>cases(show u=Value.type n from r);rfl
section
variable {P:AK} {w:World} {H H':Hp} {h h':Heap} {a C dx:AQ} {fs fs':List (Str×V)}
def rP(g:HOk P w H h)(e:H a=-(.ins C dx fs)):∃mA,ObjM h a dx C mA/\(∀f,RelO (fs.lookup f) (mA f))/\PySem.Within mA (fs.map (·.1))/\fs⁻¹<=1000/\H dx=-(.own a):=by let(d,z,ne,ob,mA,n,r,q):=(show ObjOk P w H h a (.ins C dx fs) from g a _ e);exact⟨mA,⟨ob,n,ne⟩,r,q,z,d⟩
end
structure Cls(K:PF)(C:AQ):Prop where
 pg:PySem.W.plainGet K C Str.empty=true
 hd:PySem.W.hasDictIn K C=true
 po:PySem.W.plainOver K C=true
 sa:PySem.W.findIn K (.ref C) "__setattr__"=some (some (.builtin "object.__setattr__"))
def Cls.get{K:PF}{C:AQ}(c:Cls K C)(f:Str):PySem.W.plainGet K C f=true:=c.pg
def NoAttr(K:PF)(C:AQ)(f:Str):Prop:=PySem.W.findIn K (.ref C) f=-none
def NoAttr.taker{K:PF}{C:AQ}{f:Str}(n:NoAttr K C f):PySem.W.takerIn K C f=-none:=by unfold PySem.W.takerIn;rw[show PySem.W.findIn K (.ref C) f=-none from n];rfl
structure Meth(K:PF)(C:AQ)(m:Str)(f:AQ):Prop where
 at_:PySem.W.findIn K (.ref C) m=some (some (.ref f))
 fn:PySem.W.isFn K (.ref f)=true
 kp:PySem.W.keepIn K (.ref f)=true
section
variable {X:Cx} {p9:AC} {σ:St} {H:Hp} {s:AI} {a C dx:AQ} {fs:List (Str×V)} {f:Str} {v:V} {A:AM} {E:AG}
def Vw{b:Bool}{Q:AG}(I:Inv X p9 σ H s)(e:H a=-(.ins C dx fs))(c:Cls X.K C)(n:NoAttr X.K C f)(l:fs.lookup f=-v)
  (h:∀u s',Inv X p9 σ H s'->RelV v u->Q u s'):wpAny (model X.prog X.w) A (getAttr (.ref a) f b) Q E s:=by
 let(mA,O,r,_,_,_):=rP I.hok e;let(u,q,g):=RelO.some_of (v:=v) (o:=mA f) (by rw[<-l];exact r f);exact Vr I.kIn O (c.get f) c.hd n q (Vv g) (h u _ (I.tok _) g)
def Ek{m:Str}{g:AQ}{pl:Sem Bool}{Q:AN×AB->AI->Prop}(I:Inv X p9 σ H s)(e:H a=-(.ins C dx fs))(c:Cls X.K C)(k:Meth X.K C m g)(l:fs.lookup m=none)
  (h:Q (.ref g,[.ref a]) s):wpAny (model X.prog X.w) A (getMethod (.ref a) m pl) Q E s:=by
 let(mA,O,r,_,_,_):=rP I.hok e;have hn:mA m=none:=RelO.none_of (by rw[<-l];exact r m);exact Vs I.kIn O (c.get m) k.at_ k.fn hn h
theorem Vx{y:V}{u:AN}{Q:Unit->AI->Prop}(I:Inv X p9 σ H s)(e:H a=-(.ins C dx fs))(c:Cls X.K C)(n:NoAttr X.K C f)(hl:fs⁻¹<1000)(ry:RelV y u)
  (h:∀s',Inv X p9 σ (upd H a (.ins C dx (cW f y fs))) s'->Q () s'):wpAny (model X.prog X.w) A (setAttr (.ref a) f u) Q E s:=by
 let(mA,O,r,N,_,L):=rP I.hok e;have hz:(fs.map (·.1))⁻¹<=sizeLine:=by rw[ag,ff];lia
 show Vt I.kIn O c.sa c.po n.taker c.hd N hz λh' J sb=>h _ ?_;have Y:∃o,h'.get? dx=-o:=let⟨o,_,_,e',_⟩:=J.ns;⟨o,e'⟩;show I.write (x:=a) (e:=dx) (by rw[e];exact fm) (.inr L) (λb q U z=>(sb.2 b U).trans z) Y ?_;show⟨by rw[aA O.ne];exact L,?_,O.ne,J.obj,_,J.ns,λg=>?_,λg hg=>?_⟩
 .have:=Ej f y fs;lia
 .change RelO ((cW f y fs).lookup g) (if g=f then some u else mA g);rw[Ei];by_cases q:g=f
  .rw[if_pos q,if_pos q];exact ry
  .rw[if_neg q,if_neg q];exact r g
 .by_cases q:g=f
  .rw[q];exact(wj f y fs).1
  .show (wj f y fs).2 g (N g λz=>hg ?_);change(if g=f then some u else mA g)=none;rw[if_neg q];exact z
def Inv.made(I:Inv X p9 σ H s):Inv X p9 σ (upd (upd H (~~~s) (.own ((~~~s)+1))) ((~~~s)+1) (.ins C (~~~s) []))
  {s with heap:=(s.heap.push PySem.W.emptyDict).push (PySem.W.instObj C (~~~s))}:=by
 have g:(s.heap.push PySem.W.emptyDict).get? (~~~s)=-PySem.W.emptyDict:=a7 s.heap rfl;have J:((s.heap.push PySem.W.emptyDict).push (PySem.W.instObj C (~~~s))).get? ((~~~s)+1)=-(PySem.W.instObj C (~~~s)):=by have:=a7 (s.heap.push PySem.W.emptyDict) (o:=PySem.W.instObj C (~~~s)) rfl;rwa [ez]at this
 have L:(s.heap.push PySem.W.emptyDict).Ns (~~~s) (λx=>none):=⟨PySem.W.emptyDict,#[],_,g,rfl,(λe he=>absurd he (!2)),λx=>rfl⟩;have z:=I.laid (a:=(~~~s)) (o:=.own ((~~~s)+1)) (h':=s.heap.push PySem.W.emptyDict) (t':=s.toks) (λb u q=>ah _ q) (ar _) ⟨_,g⟩;show z.laid (a:=(~~~s)+1) (o:=.ins C (~~~s) []) (t':=s.toks) (λb u q=>ah _ q) (Nat.le_of_eq (ez _ _)) ?_;have ne:(~~~s)≠(~~~s)+1:=cb (fv _);show⟨by rw[aA ne,bj],dA _,ne,J,λx=>none,(Heap.Ns1.of_empty L).at λo q=>ah _ q,λx=>fm,λy N=>absurd rfl N⟩
def Vy{prog:AK}{w:World}{env:Env}{e:AO}{f:Str}{pos:Pos}{s:AI}{Q:AG}(q:attributeBase e f env (eval e env)=eval e env)
  (h:wpAny (model prog w) A (eval e env) (λo g=>wpAny (model prog w) A (getAttr o f true) Q E g) E s):wpAny (model prog w) A (eval (.Attribute e f pos) env) Q E s:=
 Attribute_any_ h (by rw[arm_eval_Attribute,q])
end
def Vz(K:PF)(ta:TE)(f:Str):TE:=λY H Q=>ta Y H λx H1=>∃a C dx fs v,x=.ref a/\H1 a=-(.ins C dx fs)/\Cls K C/\NoAttr K C f/\fs.lookup f=-v/\Q v H1
def VB(K:PF)(ta tv:TE)(f:Str):TS:=λD Y H=>tv Y H λy H1=>ta Y H1 λx H2=>∃a C dx fs,x=.ref a/\H2 a=-(.ins C dx fs)/\Cls K C/\NoAttr K C f/\fs⁻¹<1000/\
 D.nx Y (upd H2 a (.ins C dx (cW f y fs)))
section
variable {X:Cx} {o e value:AO} {f:Str} {pos pos' tpos:Pos} {ta tv:TE}
def VD(he:PE X e ta)(L:attributeBase e f X.env (eval e X.env)=eval e X.env):PE X (.Attribute e f pos) (Vz X.K ta f):=by intro p9 s Y H Q I h;show Vy L (thn (he p9 s Y H _ I h) λu U zZ=>?_);let(x,H1,g,O,a,C,dx,fs,v,ex,J,c,n,l,q):=zZ;subst ex;obtain rfl:u=Value.ref a:=O;exact Vw g J c n l λu' s2 z N=>⟨v,H1,z,N,q⟩
def VF(N:PE X o ta)(O:PE X value tv)(hs:swapsWith value (-(.Attribute o f pos')) pos.line X.env=pure false):PS X (.Assign [.Attribute o f pos'] value pos) (VB X.K ta tv f):=by intro p9 s Y H D I h;show plainObj_wpAny_Assign_Attribute (thn (O p9 s Y H _ I h) λu s1 zZ=>?_) hs;let(y,H1,g,ry,q):=zZ;show thn (N p9 s1 Y H1 _ g q) λU s2 zZ=>?_;let(x,H2,z,rx,a,C,dx,fs,ex,L,c,n,l,q2):=zZ;subst ex;obtain rfl:U=Value.ref a:=rx;exact Vx z L c n l ry λs3 J=>⟨Y,_,J,q2⟩
end
section
variable {X:Cx} {p9:AC} {σ:St} {H:Hp} {s:AI} {A:AM} {E:AG} {Q:AG} {c:AN} {b:Bool}
inductive TyOf (K:PF) (H:Hp):V->AN->Prop where
 |non:TyOf K H .non (.type "NoneType")
 |bl (x:Bool):TyOf K H (.bl x) (.type "bool")
 |int (i:Int):TyOf K H (.int i) (.type "int")
 |str (x:Str):TyOf K H (.str x) (.type "str")
 |flt (x:UInt64):TyOf K H (.flt x) (.type "float")
 |lst {a:AQ} {xs:AR} (e:H a=some (.lst xs)):TyOf K H (.ref a) (.type "list")
 |frz {a:AQ} {o:Obj} {xs:AR} (e:H a=some (.frz o (.lst xs))):TyOf K H (.ref a) (.type "list")
 |tup {a:AQ} {xs:AR} (e:H a=some (.tup xs)):TyOf K H (.ref a) (.type "tuple")
 |dK {a:AQ} {kvs:List (Key×V)} (e:H a=some (.dK kvs)):TyOf K H (.ref a) (.type "dict")
 |dT {a:AQ} {kvs:List (List Key×V)} (e:H a=some (.dT kvs)):TyOf K H (.ref a) (.type "dict")
 |ins {a C dx:AQ} {fs:List (Str×V)} (e:H a=some (.ins C dx fs)) (cl:Cls K C) (ha:PySem.W.findIn K (.ref C) "__class__"=some (some (.builtin "object.__class__")))
   (hn:PySem.W.specialIn K (.builtin "object.__class__") "__get__"=some (some (.builtin "getset_descriptor.__get__"))) (htk:PySem.W.takesIn K (.builtin "object.__class__")=some true)
   (hm:PySem.W.mroIn K C (.type "object")=some true):TyOf K H (.ref a) (.ref C)
def VG{x:V}{u t:AN}(I:Inv X p9 σ H s)(g:RelV x u)(ty:TyOf X.K H x t)(e:PySem.W.kitOne X.K t c=-b)(h:∀L,Q (.bool b) {s with toks:=L}):
  wpAny (model X.prog X.w) A (call (.builtin "isinstance") [u,c]) Q E s:=by
 cases ty with
 |non=>cases(show u=Value.none from g);exact eA PySem.W.kitx_none I.kIn fm e (λz=>nomatch z) h
 |bl y=>cases(show u=Value.bool y from g);exact eA PySem.W.kitx_bool I.kIn fm e (λz=>nomatch z) h
 |int i=>let(t,q):=(show ∃t,u=Value.int i t from g);cases q;exact eA PySem.W.kitx_int I.kIn fm e (λz=>nomatch z) h
 |str y=>let(t,q):=(show ∃t,u=Value.str y t from g);cases q;exact eA PySem.W.kitx_str I.kIn fm e (λz=>nomatch z) h
 |flt y=>let(t,q):=(show ∃t,u=Value.float y t from g);cases q;exact eA PySem.W.kitx_float I.kIn fm e (λz=>nomatch z) h
 | @lst a xs ea=>
  cases(show u=Value.ref a from g);let(_,_,n,_,h1):=(show ObjOk X.prog X.w H s.heap a (.lst xs) from I.hok a _ ea);exact eA PySem.W.kitx_list I.kIn ⟨_,h1,rfl⟩ e (λz=>nomatch z) h
 | @frz a ob xs ea=>
  cases(show u=Value.ref a from g);let(_,_,_,n,_,h1):=(show ObjOk X.prog X.w H s.heap a (.frz ob (.lst xs)) from I.hok a _ ea);exact eA PySem.W.kitx_list I.kIn ⟨_,h1,rfl⟩ e (λz=>nomatch z) h
 | @tup a xs ea=>
  cases(show u=Value.ref a from g);let(_,_,_,p):=(show ObjOk X.prog X.w H s.heap a (.tup xs) from I.hok a _ ea);let(o,h1,h2,_):=p;exact eA PySem.W.kitx_tuple I.kIn ⟨o,h1,h2.1⟩ e (λz=>nomatch z) h
 | @dK a kvs ea=>
  cases(show u=Value.ref a from g);let(_,_,vs,_,p):=(show ObjOk X.prog X.w H s.heap a (.dK kvs) from I.hok a _ ea);let(o,es,ep,h1,h2,_):=p;exact eA PySem.W.kitx_dict I.kIn ⟨o,h1,h2.1⟩ e (λz=>nomatch z) h
 | @dT a kvs ea=>
  cases(show u=Value.ref a from g);let(_,_,xs,_,o,es,ep,h1,h2,_):=(show ObjOk X.prog X.w H s.heap a (.dT kvs) from I.hok a _ ea);exact eA PySem.W.kitx_dict I.kIn ⟨o,h1,h2.1⟩ e (λz=>nomatch z) h
 | @ins a C dx fs ea cl ha hn htk hm=>
  cases(show u=Value.ref a from g);let(mA,O,_):=rP I.hok ea;let(N,J,_):=O.look;exact eA (PySem.W.kitx_own (cl.get _) cl.hd ha hn htk hm) I.kIn J e (λz=>nomatch z) h
end
structure Room(k:Nat)(A:AM):Prop where
 hd:A.handled=none
 dp:A.depth+3 * k+5 < recursionLimit
 un:A.units+16 * k+200 < cLine
def Room.mono{j k:Nat}{A:AM}(r:Room k A)(h:j<=k):Room j A:=⟨r.hd,by have:=r.dp;lia,by have:=r.un;lia⟩
def Room.deeper{k:Nat}{A:AM}(r:Room (k+1) A)(env:Env):Room k (A.deeper env):=
 ⟨r.hd,by have:=r.dp;change A.depth+1+3*k+5<_;lia,by have:=r.un;change A.units+3+16*k+200<_;lia⟩
def VH {A:AM} {C:AQ} {us:AB} {g:List (Str×AN)}:(A.under (.builtin "type.__call__" ⟨.ref C::us,g⟩)).depth=A.depth+1:=by first|rfl|simp[Around.under,Code.weight,Code.isCreation,Code.isGuard,Code.isCaller,Code.frames,Code.isFrame,guardIds]
def VJ {A:AM} {C:AQ} {us:AB} {g:List (Str×AN)}:(A.under (.builtin "type.__call__" ⟨.ref C::us,g⟩)).units=A.units+1:=by first|rfl|simp[Around.under,Code.cUnits,Code.frames,Code.isFrame]
def Room.make {k:Nat} {A:AM} (r:Room (k+1) A) (C:AQ) (us:AB) (g:List (Str×AN)):Room k (A.under (.builtin "type.__call__" ⟨.ref C::us,g⟩)):=
 ⟨r.hd,by have:=r.dp;rw[VH];lia,by have:=r.un;rw[VJ];lia⟩
def Room.depth{k:Nat}{A:AM}(r:Room k A):A.depth<recursionLimit:=by have:=r.dp;lia
def Room.units{k:Nat}{A:AM}(r:Room k A):A.units+64<cLine:=by have:=r.un;lia
def El:TA:=λz H Q=>Q [] H
def VL(ta:TE)(tr:TA):TA:=λY H Q=>ta Y H λx H1=>tr Y H1 λxs H2=>Q (x::xs) H2
section
variable {X:Cx} {e:AO} {es:AE} {te:TE} {t:TA} {pos:Pos}
def dY:PA X [] El:=λz z z z H Q I h=>Calls.spliced_nil ⟨[],H,I,.nil,h⟩
def cQ(z:PE X e te)(J:PA X es t)(hs:starEach (e::es) X.env=(false,eval e X.env)::starEach es X.env:=by rfl):PA X (e::es) (VL te t):=by intro pos p9 s Y H Q I h;rw[hs];change wpAny _ _ (spliced ((false,eval e X.env)::backTo pos (starEach es X.env))) _ _ s;show Calls.spliced_cons (thn (z p9 s Y H _ I h) λu s1 zZ=>?_);let(x,H1,g,O,L):=zZ;show thn (J pos p9 s1 Y H1 _ g L) λus s2 zZ=>?_;let(xs,H2,q,U,N):=zZ;exact⟨x::xs,H2,q,.cons O U,N⟩
def VM(t:TA):TE:=λY H Q=>t Y H λxs H1=>xs⁻¹<=sizeLine/\∀p,H1 p=none->Q (.ref p) (upd H1 p (.tup xs))
def VN(t:TA):TE:=λY H Q=>t Y H λxs H1=>xs⁻¹<=sizeLine/\∀p,H1 p=none->Q (.ref p) (upd H1 p (.lst xs))
def Em{x1}(h:PA X es t):PE X (.Tuple es x1 pos) (VM t):=by intro p9 s Y H Q I N;show wpAny_Tuple_spliced (thn (h pos p9 s Y H _ I N) λus g zZ=>?_);let(xs,H1,J,r,z,q):=zZ;show⟨by rw[<-r⁻¹];exact z,?_⟩;have L:H1 g.heap.objs.size=none:=J.hok.fresh (ar _);show⟨.ref g.heap.objs.size,upd H1 g.heap.objs.size (.tup xs),J.laid (t':=g.toks) (λb u e=>ah _ e) (ar _) ?_,rfl,q _ L⟩;exact⟨z,us,r,⟨_,a7 _ rfl,⟨rfl,rfl⟩,_,rfl⟩⟩
def VP(h:PA X es t):PE X (.List es pos) (VN t):=by intro p9 s Y H Q I N;show wpAny_List_spliced (thn (h pos p9 s Y H _ I N) λus g zZ=>?_);let(xs,H1,J,r,z,q):=zZ;show⟨by rw[<-r⁻¹];exact z,?_⟩;have L:H1 g.heap.objs.size=none:=J.hok.fresh (ar _);show⟨.ref g.heap.objs.size,upd H1 g.heap.objs.size (.lst xs),J.laid (t':=g.toks) (λb u e=>ah _ e) (ar _) ?_,rfl,q _ L⟩;exact⟨z,us,0,r,a7 _ rfl⟩
end
abbrev Sp:=AR->Hp->VK->XK->Prop
abbrev CXT:=List Env->Hp->AI->XK->AN->AI->Prop
structure Env0(P:AK)(w:World)(K:PF)(mg:AH)(base:Heap)(A:AM)(outer:List Env)(s:AI)(H:Hp):Prop where
 frames:A.frames=some outer
 mod:Mod K mg base
 bs:∀b o,base.get? b=some o->s.heap.get? b=some o/\H b=none
 bsz:base.objs.size<=(~~~s)
 funs:s.heap.FunFrames base outer
 frf:∀b∈frs outer,H b=none
 hok:HOk P w H s.heap
 bare:AllBare s.gens
def CE(outer:List Env)(P:AK)(w:World)(H:Hp)(s:AI)(Q:VK)(u:AN)(s':AI):Prop:=
 ∃v H',s'.os=s.os/\AllBare s'.gens/\Un (frs outer) [] H H' s.heap s'.heap/\HOk P w H' s'.heap/\RelV v u/\Q v H'
def CR(CX:CXT)(outer:List Env)(P:AK)(w:World)(H:Hp)(s:AI)(Q:VK)(E:XK)(r:Result)(s':AI):Prop:=
 match r with
 |.ok (.ret u)=>CE outer P w H s Q u s'
 |.ok _=>False
 |.error e=>CX outer H s E e s'
structure FnOk(P:AK)(w:World)(K:PF)(mg:AH)(base:Heap)(CX:CXT)(k:Nat)(f:AQ)(fd:AJ)(ps:AD)(sp:Sp):Prop where
 len:∀vs H Q E,sp vs H Q E->vs.length=ps.length
 run:∀(A:AM)(outer:List Env)(s:AI)(H:Hp)(args:Args)(us:AB)(vs:AR)(Q:VK)(E:XK),Room k A->Env0 P w K mg base A outer s H->BindsTo s fd args (ps.zip us)->Vals vs us->sp vs H Q E->
  codeAny (model P w) A (.call (.ref f) args) (CR CX outer P w H s Q E) s
def FnOk.mono{P:AK}{w:World}{K:PF}{mg:AH}{base:Heap}{CX:CXT}{j k:Nat}{f:AQ}{fd:AJ}{ps:AD}{sp:Sp}(F:FnOk P w K mg base CX j f fd ps sp)(h:j<=k):
  FnOk P w K mg base CX k f fd ps sp:=⟨F.len,λA outer s H args us vs Q E g=>F.run A outer s H args us vs Q E (g.mono h)⟩
def FnOk.imp{P:AK}{w:World}{K:PF}{mg:AH}{base:Heap}{CX:CXT}{k:Nat}{f:AQ}{fd:AJ}{ps:AD}{sp g:Sp}(F:FnOk P w K mg base CX k f fd ps sp)
  (h:∀vs H Q E,g vs H Q E->sp vs H Q E):FnOk P w K mg base CX k f fd ps g:=
 ⟨λvs H Q E q=>F.len vs H Q E (h _ _ _ _ q),λA outer s H args us vs Q E I he z J hs=>F.run A outer s H args us vs Q E I he z J (h _ _ _ _ hs)⟩
def Env0.make{P:AK}{w:World}{K:PF}{mg:AH}{base:Heap}{A:AM}{outer:List Env}{s:AI}{H:Hp}(e:Env0 P w K mg base A outer s H)(C:AQ)(us:AB)(g:List (Str×AN)):
  Env0 P w K mg base (A.under (.builtin "type.__call__" ⟨.ref C::us,g⟩)) outer s H:=⟨by first|exact e.frames | (simpa [Around.under,Code.envs,Code.isFrame,pushEnvs] using e.frames),e.mod,e.bs,e.bsz,e.funs,e.frf,e.hok,e.bare⟩
section
variable {X:Cx} {p9:AC} {σ:St} {H:Hp} {s s':AI}
def Inv.env0(I:Inv X p9 σ H s):Env0 X.prog X.w X.K X.mg X.base X.A X.stack s H:=
 ⟨I.ok.frames,I.ok.mod,I.bs,b3 I.ok.bsz I.sz,I.stack,I.stkFree,I.hok,I.bare⟩
def Inv.after{Q:VK}{u:AN}(I:Inv X p9 σ H s)(h:CE X.stack X.prog X.w H s Q u s'):EP X p9 σ Q u s':=by let(v,H',O,J,un,L,r,q):=h;let(hh,g,d,t,N):=s';obtain rfl:N=s.os:=O;exact⟨v,H',I.call (h':=hh) (g':=g) (d':=d) (t':=t) (ch:=[]) un L J (λb z=>absurd z (!2)),r,q⟩
end
def VR(sp:Sp)(dvs:AR)(E:XK)(t:TA):TE:=λY H Q=>t Y H λvs H1=>sp (vs++dvs) H1 Q E
def rQ(C:AQ)(m:Str)(sp:Sp)(dvs:AR)(E:XK)(ta:TE)(t:TA):TE:=λY H Q=>ta Y H λx H1=>∃a dx fs,x=.ref a/\H1 a=-(.ins C dx fs)/\fs.lookup m=none/\
 t Y H1 λvs H2=>sp (x::(vs++dvs)) H2 Q E
def VV(C:AQ)(sp:Sp)(dvs:AR)(E:XK)(t:TA):TE:=λY H Q=>t Y H λvs H1=>∀x dx,H1 x=none->H1 dx=none->dx≠x->
 sp (.ref x::(vs++dvs)) (upd (upd H1 dx (.own x)) x (.ins C dx [])) (λv H2=>v=.non/\Q (.ref x) H2) E
def Binds(K:PF)(fd:AJ)(ps:AD)(ds:AB):Prop:=
 ∀(s:AI)(us:AB),K.In s.heap->(us++ds)⁻¹=ps⁻¹->BindsTo s fd ⟨us,[]⟩ (ps.zip (us++ds))
def Binds.all{K:PF}{fd:AJ}{ps:AD}(h:∀us:AB,us⁻¹=ps⁻¹->bindArgs fd ⟨us,[]⟩=pure (ps.zip us)):Binds K fd ps []:=λs us z hl=>by
 rw[eh]at hl ⊢;exact .of_eq (h us hl)
def fL(CX:CXT)(X:Cx)(E:XK):Prop:=∀(p9:AC)(Y:St)(H:Hp)(s:AI)(e:AN)(s':AI),Inv X p9 Y H s->CX X.stack H s E e s'->X.xe e s'
section
variable {X:Cx} {CX:CXT} {k:Nat} {f C:AQ} {fd:AJ} {ps:AD} {sp:Sp} {dvs:AR} {ds:AB} {E:XK} {x m:Str} {p pos apos:Pos} {e o:AO} {es:AE} {ta:TE} {t:TA}
def wk{p9:AC}{Y:St}{H:Hp}{s:AI}{Q:VK}{us:AB}{vs:AR}(F:FnOk X.prog X.w X.K X.mg X.base CX k f fd ps sp)(L:Room k X.A)(z:Binds X.K fd ps ds)(J:Vals dvs ds)(N:fL CX X E)
  (I:Inv X p9 Y H s) (r:Vals vs us) (h:sp (vs++dvs) H Q E):↥X (call (.ref f) us) (EP X p9 Y Q) X.xe s:=by
 have q:Vals (vs++dvs) (us++ds):=r.append J;have hl:(us++ds)⁻¹=ps⁻¹:=by rw[<-q⁻¹];exact F.len _ _ _ _ h
 show wpAny_call (codeAny_mono (F.run X.A X.stack s H ⟨us,[]⟩ (us++ds) (vs++dvs) Q E L I.env0 (z s us I.kIn hl) q h) λr s' g=>?_);cases r with
 |error e=>exact N p9 Y H s e s' I g
 |ok fl=>
  cases fl with
  |ret u=>exact I.after g
  |next=>exact False.elim g
  |brk=>exact False.elim g
  |cont=>exact False.elim g
def V0(F:FnOk X.prog X.w X.K X.mg X.base CX k f fd ps sp)(hr:Room k X.A)(U:Gl X x)(hm:X.mg x=-(.ref f))(hk:PySem.W.keepIn X.K (.ref f))(N:Binds X.K fd ps ds)(O:Vals dvs ds)(hx:fL CX X E)
  (L:PA X (e::es) t) (g:(x==("__debug__":Str))=false:=by decide) (he:starEach (e::es) X.env=(false,eval e X.env)::starEach es X.env:=by rfl) (z:(backTo pos (starEach es X.env)).any (·.1)=false:=by rfl):
  PE X (.Call (.Name x p) (e::es) [] pos) (VR sp dvs E t):=by
 intro p9 s Y H Q I h;show wpAny_Call_Name_kw (vV I U hm ?_ g);show PySem.W.callWith_K (h₀:=X.base) I.ok.mod.kin hk (thn (L pos p9 s Y H _ I h) λus s1 zZ=>?_) he z;let(vs,H1,J,r,q):=zZ;show⟨J.kIn,?_⟩;exact wk F hr N O hx J r q
def V1{pl:Sem Bool}(he:PE X o ta)(c:Cls X.K C)(N:Meth X.K C m f)(F:FnOk X.prog X.w X.K X.mg X.base CX k f fd ps sp)(hr:Room k X.A)(hb:Binds X.K fd ps ds)(hd:Vals dvs ds)(hx:fL CX X E)(U:PA X (e::es) t)
  (z:starEach (e::es) X.env=(false,eval e X.env)::starEach es X.env:=by rfl) (g:(backTo pos (starEach es X.env)).any (·.1)=false:=by rfl)
  (ht:eval (.Call (.Attribute o m apos) (e::es) [] pos) X.env=(do
   let ov <-eval o X.env
   standAt apos.atName
   let(f,first) <-holding [ov] (getMethod ov m pl)
   callWith pos f first (backTo pos (starEach (e::es) X.env)) (backToKw pos (keywordEach [] X.env))):=by rfl):
  PE X (.Call (.Attribute o m apos) (e::es) [] pos) (rQ C m sp dvs E ta t):=by
 intro p9 s Y H Q I h;show PySem.W.methodCall_KW (pl:=pl) (thn (he p9 s Y H _ I h) λu s1 zZ=>?_) ht;let(x,H1,J,rx,a,dx,fs,ex,O,l,q):=zZ;subst ex;obtain rfl:u=Value.ref a:=rx;show Ek J O c N l ?_;show PySem.W.callWith_K (first:=[.ref a]) (h₀:=X.base) I.ok.mod.kin N.kp (thn (U pos p9 s1 Y H1 _ J q) λus s2 zZ=>?_) z g;let(vs,H2,L,r,q2):=zZ;show⟨L.kIn,?_⟩;exact wk (us:=.ref a::us) (vs:=.ref a::vs) F hr hb hd hx L (.cons rfl r) q2
def V2{pl:Sem Bool}(he:PE X o ta)(c:Cls X.K C)(z:Meth X.K C m f)(F:FnOk X.prog X.w X.K X.mg X.base CX k f fd ps sp)(O:Room k X.A)(L:Binds X.K fd ps ds)(N:Vals dvs ds)(U:fL CX X E)
  (ht:eval (.Call (.Attribute o m apos) [] [] pos) X.env=(do
   let ov <-eval o X.env
   standAt apos.atName
   let(f,first) <-holding [ov] (getMethod ov m pl)
   callWith pos f first (backTo pos (starEach [] X.env)) (backToKw pos (keywordEach [] X.env))):=by rfl):
  PE X (.Call (.Attribute o m apos) [] [] pos) (rQ C m sp dvs E ta El):=by
 intro p9 s Y H Q I h;show PySem.W.methodCall_KW (pl:=pl) (thn (he p9 s Y H _ I h) λu s1 zZ=>?_) ht;let(x,H1,g,rx,a,dx,fs,ex,J,l,q):=zZ;subst ex;obtain rfl:u=Value.ref a:=rx;show Ek g J c z l ?_;exact PySem.W.callWith_K0 (first:=[.ref a]) g.kIn z.kp (wk (us:=[.ref a]) (vs:=[.ref a]) F O L N U g (.cons rfl .nil) q)
structure Mk(K:PF)(C f:AQ):Prop where
 makes:PySem.W.makesIn K C=true
 init:PySem.W.findIn K (.ref C) "__init__"=some (some (.ref f))
 fn:PySem.W.isFn K (.ref f)=true
 kp:PySem.W.keepIn K (.ref C)=true
def V3{p9:AC}{Y:St}{H:Hp}{s:AI}{Q:VK}{us:AB}{vs:AR}(M:Mk X.K C f)(F:FnOk X.prog X.w X.K X.mg X.base CX k f fd ps sp)(hr:Room (k+1) X.A)(O:Binds X.K fd ps ds)(U:Vals dvs ds)
  (hx:fL CX X E) (I:Inv X p9 Y H s) (r:Vals vs us)
  (h:∀x dx,H x=none->H dx=none->dx≠x->sp (.ref x::(vs++dvs)) (upd (upd H dx (.own x)) x (.ins C dx [])) (λv H2=>v=.non/\Q (.ref x) H2) E):
  ↥X (call (.ref C) us) (EP X p9 Y Q) X.xe s:=by
 have z:=h ((~~~s)+1) (~~~s) (I.hok.fresh (dk _)) (I.hok.fresh (ar _)) (cb (fv _));have q:=Inv.made (C:=C) I;have J:Vals (V.ref ((~~~s)+1)::(vs++dvs)) (Value.ref ((~~~s)+1)::(us++ds)):=.cons rfl (r.append U);have hl:(Value.ref ((~~~s)+1)::us++ds)⁻¹=ps⁻¹:=by have e:=J⁻¹;rw[F.len _ _ _ _ z]at e;exact e.symm
 show wpAny_call (Vu (f:=f) I.kIn M.makes M.init (a9.mp M.fn) (codeAny_mono (F.run _ X.stack _ _ ⟨Value.ref ((~~~s)+1)::us,[]⟩ (Value.ref ((~~~s)+1)::(us++ds)) _ _ E (hr.make C us [])
  (q.env0.make C us []) (O _ (Value.ref ((~~~s)+1)::us) q.kIn hl) J z) λr s' g=>?_))
 cases r with
 |error e=>exact hx p9 Y _ _ e s' q g
 |ok fl=>
  cases fl with
  |ret u=>
   let(v,H',L,rv,N,q3):=q.after g;subst N;exact⟨rv,⟨V.ref ((~~~s)+1),H',L,rfl,q3⟩⟩
  |next=>exact False.elim g
  |brk=>exact False.elim g
  |cont=>exact False.elim g
def V4(M:Mk X.K C f)(F:FnOk X.prog X.w X.K X.mg X.base CX k f fd ps sp)(hr:Room (k+1) X.A)(U:Gl X x)(hm:X.mg x=-(.ref C))(N:Binds X.K fd ps ds)(O:Vals dvs ds)(hx:fL CX X E)
  (L:PA X (e::es) t) (g:(x==("__debug__":Str))=false:=by decide) (he:starEach (e::es) X.env=(false,eval e X.env)::starEach es X.env:=by rfl) (z:(backTo pos (starEach es X.env)).any (·.1)=false:=by rfl):
  PE X (.Call (.Name x p) (e::es) [] pos) (VV C sp dvs E t):=by
 intro p9 s Y H Q I h;show wpAny_Call_Name_kw (vV I U hm ?_ g);show PySem.W.callWith_K (h₀:=X.base) I.ok.mod.kin M.kp (thn (L pos p9 s Y H _ I h) λus s1 zZ=>?_) he z;let(vs,H1,J,r,q):=zZ;show⟨J.kIn,?_⟩;exact V3 M F hr N O hx J r q
end
structure FnScope(N P:AD)(sc:Scope):Prop where
 kind:sc.kind=.function
 co:sc.isCoroutine=false
 gen:sc.isGenerator=false
 nd:N.Nodup
 pre:N.take P.length=P
 par:∀x∈P,sc.names.lookup x=some .local\/sc.names.lookup x=some .cell
 nofree:∀y∈sc.names,y.2≠.free
def Eo{g:Str->Option NameKind}{x:Str}:∀{binds:List (Str×AN)}{m:AH},(∀v,(x,v)∉binds)->bindL g binds m x=m x
 |[],_,_=>rfl
 | (n,v)::r,m,h=>by
  unfold bindL;rw[Eo λw hw=>h w (aS _ hw)];split
  .have:x≠n:=by rintro rfl;exact h v ba
   simp[this]
  .rfl
def Ep{g:Str->Option NameKind}{x:Str}:∀{binds:List (Str×AN)}{m:AH},(∀v,(x,v)∉binds)->bindC g binds m x=m x
 |[],_,_=>rfl
 | (n,v)::r,m,h=>by
  unfold bindC;rw[Ep λw hw=>h w (aS _ hw)];split
  .rfl
  .have:x≠n:=by rintro rfl;exact h v ba
   simp[this]
def Er{g:Str->Option NameKind}{x:Str}{v:AN}:∀{P:AD}{vs:AB}{i:Nat}{m:AH},P.Nodup->P[i]?=-x->vs[i]?=-v->g x=-.local->
  bindL g (P.zip vs) m x=-v
 |[],_,_,_,_,h,_,_=>by simp at h
 |_::_,[],_,_,_,_,h,_=>by simp at h
 |p::P,w::vs,0,m,nd,h1,h2,hk=>by
  simp at h1 h2;subst h1;subst h2;change bindL g ((p,w)::P.zip vs) m p=_;unfold bindL;rw[Eo λv q=>(ef.mp nd).1 (List.of_mem_zip q).1,if_pos hk];simp
 |p::P,w::vs,i+1,m,nd,h1,h2,hk=>by
  change bindL g ((p,w)::P.zip vs) m x=_;unfold bindL;exact Er (i:=i) (ef.mp nd).2 (!!h1) (!!h2) hk
def Es{g:Str->Option NameKind}{x:Str}{v:AN}:∀{P:AD}{vs:AB}{i:Nat}{m:AH},P.Nodup->P[i]?=-x->vs[i]?=-v->g x≠some .local->
  bindC g (P.zip vs) m x=-v
 |[],_,_,_,_,h,_,_=>by simp at h
 |_::_,[],_,_,_,_,h,_=>by simp at h
 |p::P,w::vs,0,m,nd,h1,h2,hk=>by
  simp at h1 h2;subst h1;subst h2;change bindC g ((p,w)::P.zip vs) m p=_;unfold bindC;rw[Ep λv q=>(ef.mp nd).1 (List.of_mem_zip q).1,if_neg hk];simp
 |p::P,w::vs,i+1,m,nd,h1,h2,hk=>by
  change bindC g ((p,w)::P.zip vs) m x=_;unfold bindC;exact Es (i:=i) (ef.mp nd).2 (!!h1) (!!h2) hk
def start(N:AD)(vs:AR):St:=vs.map some++List.replicate (N⁻¹-vs⁻¹) none
def c7(CX:CXT)(P:AK)(w:World)(K:PF)(mg:AH)(base:Heap)(N:AD)(qual:Str)(scope:Scope)(f:AQ)(q:AN)(A:AM)(outer:List Env)(s:AI)(H:Hp)(E:XK):Cx where
 prog:=P
 w:=w
 K:=K
 mg:=mg
 base:=base
 A:=A.deeper (envOfC qual scope (~~~s) f q)
 N:=N
 s₀:=s
 H₀:=H
 env:=envOfC qual scope (~~~s) f q
 outer:=outer
 stack:=envOfC qual scope (~~~s) f q::outer
 ex:=[]
 calm:=true
 fn:=λy=>true
 pn:=[]
 xe:=λe s'=>wpAny (model P w) (A.deeper (envOfC qual scope (~~~s) f q)) (leaving (envOfC qual scope (~~~s) f q) e) (λy g=>CX outer H s E e g) (λz g=>CX outer H s E z g) s'
def Et{g:Scope}{n:Nat}{x:Str}(h:g.names.lookup x=-.cell):∃c,(cellsFrom n g.names []).lookup x=-c:=by have q:=PySem.W.cellsFrom_some g.names n [] (.inl h);exact ce.mp q
def Eu{CX:CXT}{P:AK}{w:World}{K:PF}{mg:AH}{base:Heap}{N ps:AD}{qual:Str}{scope:Scope}{f:AQ}{U:AN}{A:AM}{outer:List Env}{s s1:AI}{H:Hp}{E:XK}{us:AB}{vs:AR}
  (S:FnScope N ps scope) (hd:A.handled=none) (g:Env0 P w K mg base A outer s H) (hl:vs⁻¹=ps⁻¹) (r:Vals vs us)
  (x:InCallC s (~~~s) (bindL (envOfC qual scope (~~~s) f U).kindOf (ps.zip us) λt=>none) (cellsFrom ((~~~s)+1) scope.names []) (bindC (envOfC qual scope (~~~s) f U).kindOf (ps.zip us) λt=>none) s1):
  Inv (c7 CX P w K mg base N qual scope f U A outer s H E) [] (start N vs) H s1:=by
 have hpl:ps⁻¹<=N⁻¹:=by have:=eS List.length S.pre;rw[b6]at this;lia
 let(h1,tk,rfl,Y):=x.done;have J:∀b:AQ,b∉(c7 CX P w K mg base N qual scope f U A outer s H E).ex:=λb z=>absurd (show b∈([]:List AQ) from z) (!2);show⟨⟨g.mod,S.kind,rfl,rfl,ar _,λy z c h1 h2=>?_,λy I=>?_,λy c t h=>?_,λt=>hd,Around.frames_deeper g.frames,.inr ⟨rfl,rfl⟩,λb z=>absurd z (J b),g.bs,g.bsz,λb t t=>J b,λb z=>absurd z (J b),g.funs,g.frf⟩,
  rfl,g.bare,Un.kept Y,⟨_,x.toInCall.ns,λi y v h1 h2 h3=>?_⟩,λy c h=>⟨_,x.cell y c h⟩,g.hok.fresh (ar _),λy c h=>?_,λp L=>absurd (show p∈([]:AC) from L) (!2),g.hok.kept Y,?_⟩
 .exact name_of_addr x.apart (dv h1) (dv h2)
 .have I:scope.names.lookup y=-.cell\/scope.names.lookup y=-.free:=I;rcases I with I|I
  .exact Et I
  .exact absurd rfl (S.nofree _ (dv I))
 .exact Nat.le_of_lt (x.above y c (dv h))
 .have hi:i<vs⁻¹:=by
   unfold start at h2;by_cases hi:i<vs⁻¹
   .exact hi
   .rw[dy (!!hi)]at h2;rw[List.getElem?_replicate]at h2;split at h2<;>cases h2
  have ha:vs[i]?=-v:=by
   unfold start at h2;rw[da (!!hi),a8]at h2;cases e:vs[i]? with
   |none=>rw[e]at h2;cases h2
   |some a=>rw[e]at h2;cases h2;rfl
  let(u,hu,rv):=r.get ha;have L:ps[i]?=-y:=by rw[<-S.pre,List.getElem?_take_of_lt (!0)];exact h1
  have O:ps.Nodup:=by rw[<-S.pre];exact S.nd.sublist (List.take_sublist _ _)
  show⟨u,rv,?_⟩;rcases S.par y (ck L) with k|k
  .exact .inl ⟨k,Er O L hu k⟩
  .let(c,e):=Et (n:=(~~~s)+1) k;show .inr ⟨.inl k,c,e,?_⟩;have q:=x.cell y c e;rw[Es O L hu (by change scope.names.lookup y≠_;rw[k];decide)]at q;exact q
 .exact g.hok.fresh (Nat.le_of_lt (x.above y c (dv h)))
 .unfold start;change _=N⁻¹;rw[am,ag,dr];lia
def V5{CX:CXT}{P:AK}{w:World}{K:PF}{mg:AH}{base:Heap}{k:Nat}{f:AQ}{name qual:Str}{params:Arguments}{body:AF}{scope:Scope}{dV kV O pm cdv ct oc:AN}{an od:Option AQ}
  {osl:Array (Option AN)} {N ps:AD} {sp:Sp} (lk:K.lookup f=-⟨oc,od,.func (PySem.W.fnOf name qual params body scope dV kV O pm an cdv ct),osl⟩) (hcd:PySem.W.codeIn K cdv qual) (S:FnScope N ps scope)
  (len:∀vs H Q E,sp vs H Q E->vs⁻¹=ps⁻¹)
  (z:∀(A:AM)(outer:List Env)(s:AI)(H:Hp)(vs:AR)(Q:VK)(E:XK),Room k (A.deeper (envOfC qual scope (~~~s) f cdv))->sp vs H Q E->
   ∃t,PSs (c7 CX P w K mg base N qual scope f cdv A outer s H E) body t/\t {nx:=λp H'=>Q .non H',rt:=Q} (start N vs) H):
  FnOk P w K mg base CX (k+1) f (PySem.W.fnOf name qual params body scope dV kV O pm an cdv ct) ps sp:=by
 show⟨len,λA outer s H args us vs Q E hr U hb r Y=>?_⟩;have hl:=len _ _ _ _ Y;have KX:K.In s.heap:=U.mod.kin.keeps λb o e=>(U.bs b o e).1;have lim:s.heap.NoLimit:=U.mod.nolimit.keeps λb o e=>(U.bs b o e).1;have L:∀y∈ps.zip us,scope.names.lookup y.1=-.local\/(scope.names.lookup y.1=-.cell/\((cellsFrom ((~~~s)+1) scope.names []).lookup y.1).isSome=true):=λzZ hy=>by
  let(n,v):=zZ;rcases S.par n (List.of_mem_zip hy).1 with q|q
  .exact .inl q
  .exact .inr ⟨q,PySem.W.cellsFrom_some _ _ _ (.inl q)⟩
 show codeAny_call_function hr.depth (KX _ _ lk) rfl S.co S.gen rfl (PySem.W.codeRec_of KX hcd) (hb _ _ _ _ ?_);show wpAny_newFunctionEnv_cells S.kind L λenv he s1 x=>?_;subst he;show⟨lim.keeps x.toInCall.keep,codeAny_func ?_⟩;let(t,ht,hq):=z A outer s H vs Q E (hr.deeper _) Y;have I:Inv (c7 CX P w K mg base N qual scope f cdv A outer s H E) [] (start N vs) H s1:=Eu S hr.hd U hl r x;show c8 (ht [] s1 (start N vs) H _ I hq) (λfl s' hs=>?_) λe s' hs=>hs;have fin:∀{g:St}{H':Hp}{v:V}{u:AN},Inv (c7 CX P w K mg base N qual scope f cdv A outer s H E) [] g H' s'->RelV v u->Q v H'->CE outer P w H s Q u s':=
  λ{g H' v u} J rv q=>⟨v,H',J.os,J.bare,J.base,J.hok,rv,q⟩
 cases fl with
 |ret u=>
  let(v,g,H',J,rv,q):=hs;exact fin J rv q
 |next=>
  let(g,H',J,q):=hs;exact fin (v:=V.non) (u:=Value.none) J rfl q
 |brk=>
  let(_,_,_,q):=hs;exact False.elim q
 |cont=>
  let(_,_,_,q):=hs;exact False.elim q
section
variable {X:Cx} {x:Str} {p pos:Pos} {e:AO} {es:AE} {t:TA} {id T:AL} {r:AR->Hp->VK->Prop}
def tCB(r:AR->Hp->VK->Prop)(t:TA):TE:=λY H Q=>t Y H λvs H1=>r vs H1 Q
def jr (hc:bD X (.builtin id) r) (L:Gl X x) (N:X.mg x=none) (O:bootBuiltins x=-(.builtin id)) (J:PA X (e::es) t) (hn:x≠"__name__":=by decide) (g:(x==("__debug__":Str))=false:=by decide)
  (he:starEach (e::es) X.env=(false,eval e X.env)::starEach es X.env:=by rfl) (q:(backTo pos (starEach es X.env)).any (·.1)=false:=by rfl):PE X (.Call (.Name x p) (e::es) [] pos) (tCB r t):=by
 intro p9 s Y H Q I h;show wpAny_Call_Name_kw (gh I L N O ?_ hn g);show PyProof.Rows.callWith_builtin1 (thn (J pos p9 s Y H _ I h) λus s1 zZ=>?_) he q;let(vs,H1,z,r1,U):=zZ;exact hc p9 s1 Y H1 vs us Q z r1 U
def jt (hc:bD X (.type T) r) (L:Gl X x) (N:X.mg x=none) (O:bootBuiltins x=-(.type T)) (J:PA X (e::es) t) (hn:x≠"__name__":=by decide) (g:(x==("__debug__":Str))=false:=by decide)
  (he:starEach (e::es) X.env=(false,eval e X.env)::starEach es X.env:=by rfl) (q:(backTo pos (starEach es X.env)).any (·.1)=false:=by rfl):PE X (.Call (.Name x p) (e::es) [] pos) (tCB r t):=by
 intro p9 s Y H Q I h;show wpAny_Call_Name_kw (gh I L N O ?_ hn g);show d6 (thn (J pos p9 s Y H _ I h) λus s1 zZ=>?_) he q;let(vs,H1,z,r1,U):=zZ;exact hc p9 s1 Y H1 vs us Q z r1 U
end
end L2
namespace HT
open PySem PyProof.Rows
section
variable {prog:AK} {w:World} {A:AM} {E:AG} {s:AI}
def V6{t b:AQ}{vs g:AB}{Q:AG}(ht:IsTup s.heap t vs.toArray)(hb:IsTup s.heap b g.toArray)(hv:vs≠[])
  (h1:g=[]->Q (.ref t) s) (h2:g≠[]->Q (.ref (~~~s)) {s with heap:=s.heap.push {cls:=.type "tuple",data:=.seq (vs++g).toArray}})
  (hsz:vs⁻¹+g⁻¹<=sizeLine):wpAny (model prog w) A (binaryOp .Add (.ref t) (.ref b)) Q E s:=by
 let((cls,Y,data,sl),N,hc,n,hd):=id ht;let((U,z,O,L),q,I,n2,J):=id hb;simp only at hc hd I J;subst hc hd I J;have e:vs.toArray++g.toArray=(vs++g).toArray:=by simp
 by_cases hw:g=[]
 .exact concat_meets ⟨_,N,rfl⟩ ⟨_,q,rfl⟩ noFill_tuple_add seq_tuple_add PySem.F.slot_tuple_add PySem.F.entry_tuple_add (PySem.F.args_tuple_add_2 _ _)
   (tuple_addW1 t b vs.toArray g.toArray n n2 Y z sl L (!!hv) (by simp[hw])) ⟨N,q,h1 hw⟩
 .show concat_meets ⟨_,N,rfl⟩ ⟨_,q,rfl⟩ noFill_tuple_add seq_tuple_add PySem.F.slot_tuple_add PySem.F.entry_tuple_add (PySem.F.args_tuple_add_2 _ _)
   (tuple_addW2 t b vs.toArray g.toArray n n2 Y z sl L (!!hv) (!!hw) (by rw[List.size_toArray,List.size_toArray];exact hsz)) ⟨N,q,?_⟩
  rw[e];exact h2 hw
def sIx(n d:Nat):Option Int->Nat
 |none=>d
 |some v=>if v<0 then(v+(n:Int)).toNat else min v.toNat n
theorem Ew(n d k:Nat):sIx n d (-(k:Int))=min k n:=by change(if(k:Int)<0 then((k:Int)+(n:Int)).toNat else min (k:Int).toNat n)=min k n;rw[if_neg (!0),Int.toNat_natCast]
theorem Ey(n d:Nat)(q:d<=n)(o:Option Int):sIx n d o<=n:=by
 cases o with
 |none=>exact q
 |some v=>
  change(if v<0 then(v+(n:Int)).toNat else min v.toNat n)<=n;by_cases g:v<0
  .rw[if_pos g];lia
  .rw[if_neg g];exact Nat.min_le_right _ _
theorem Ez(v:Int)(n d:Nat):(if v<0 then max (v+(n:Int)) 0 else min v (n:Int))=((sIx n d (-v):Nat):Int):=by
 change(if v<0 then max (v+(n:Int)) 0 else min v (n:Int))=(((if v<0 then(v+(n:Int)).toNat else min v.toNat n):Nat):Int);by_cases g:v<0
 .simp only[if_pos g];lia
 .simp only[if_neg g];lia
theorem V7(lo hi:Option Int)(n:Nat):Builtin.Slice.sliceAdjust lo hi 1 (n:Int)=(((sIx n 0 lo:Nat):Int),((sIx n n hi:Nat):Int)):=by
 have h1:¬((1:Int)<0):=by lia
 unfold Builtin.Slice.sliceAdjust;simp only[h1,if_false];show Prod.ext ?_ ?_
 .cases lo with
  |none=>rfl
  |some v=>exact Ez v n 0
 .cases hi with
  |none=>rfl
  |some v=>exact Ez v n n
theorem V8(i j:Nat):Builtin.Slice.slicePlaces (i:Int) (j:Int) 1=j-i:=by
 unfold Builtin.Slice.slicePlaces;have h1:(1:Int) > 0:=by lia
 simp only[h1,if_true,Int.ediv_one];split<;>lia
def EY{v:AN}{o:Option Int}{Q:Option Int->AI->Prop}(p:IsPart v o)(h:Q o s):wpAny (model prog w) A (Builtin.Slice.slicePartIndex v) Q E s:=by
 cases p with
 |none=>exact slicePart_none h
 |int i t=>exact slicePart_int h
def Fb{J:AQ}{z I:AN}{lo hi:Option Int}{n:Nat}{Q:Int×Int×Nat->AI->Prop}(hs:s.heap.IsSliceOf J z I .none)(pl:IsPart z lo)(N:IsPart I hi)
  (h:Q (((sIx n 0 lo:Nat):Int),1,sIx n n hi-sIx n 0 lo) s):wpAny (model prog w) A (Builtin.Slice.sliceApplied (.ref J) (pure (n:Int))) Q E s:=by
 let(O,q,L,g):=id hs;unfold Builtin.Slice.sliceApplied Builtin.Slice.sliceFields;show wpAny_bind (wpAny_bind (wpAny_field q g (x:=z) rfl (wpAny_bind (wpAny_field q g (x:=I) rfl (wpAny_bind (wpAny_field q g (x:=.none) rfl (wpAny_pure ?_)))))));show wpAny_bind (slicePart_none ?_);change wpAny _ _ (if((1:Int)==0)=true then _ else _) _ _ s;rw[if_neg (!1)];show wpAny_bind (EY pl (wpAny_bind (EY N (wpAny_bind (wpAny_pure ?_)))));change wpAny _ _ (match Builtin.Slice.sliceAdjust lo hi 1 (n:Int) with | (lo,hi)=>pure (lo,(1:Int),Builtin.Slice.slicePlaces lo hi 1)) _ _ s;rw[V7 lo hi n];change wpAny _ _ (pure (((sIx n 0 lo:Nat):Int),(1:Int),Builtin.Slice.slicePlaces ((sIx n 0 lo:Nat):Int) ((sIx n n hi:Nat):Int) 1)) _ _ s;rw[V8];exact wpAny_pure h
theorem V9(xs:Array AN)(i k:Nat):((List.range k).filterMap λ(m:Nat)=>xs[((i:Int)+(m:Int)*1).toNat]?).toArray=((xs.toList.drop i).take k).toArray:=by
 have e:(λ(m:Nat)=>xs[((i:Int)+(m:Int)*1).toNat]?)=λm=>xs[i+m]?:=by
  funext m;have:((i:Int)+(m:Int)*1).toNat=i+m:=by lia
  rw[this]
 rw[e];have:=pick_run xs i k;rw[List.filterMap_map]at this;have g:((λx=>xs[x]?)∘λx=>i+x)=λm=>xs[i+m]?:=rfl;rw[g]at this;rw[this]
theorem Wa{t O:AQ}{g:Array AN}{U Y:AN}{lo hi:Option Int}{Q:AG}(ht:IsTup s.heap t g)(hs:s.heap.IsSliceOf O U Y .none)(pl:IsPart U lo)(pu:IsPart Y hi)
  (hw:¬(sIx g.size 0 lo=0/\sIx g.size g.size hi=g.size))
  (h:Q (.ref (~~~s)) {s with heap:=s.heap.push {cls:=.type "tuple",data:=.seq ((g.toList.drop (sIx g.size 0 lo)).take (sIx g.size g.size hi-sIx g.size 0 lo)).toArray}})
  (hsz:g.size<=sizeLine):wpAny (model prog w) A (getItem (.ref t) (.ref O)) Q E s:=by
 have z:sizeOk (.seq ((g.toList.drop (sIx g.size 0 lo)).take (sIx g.size g.size hi-sIx g.size 0 lo)).toArray):=by change((g.toList.drop (sIx g.size 0 lo)).take (sIx g.size g.size hi-sIx g.size 0 lo)).toArray.size<=sizeLine;rw[List.size_toArray,List.length_take,List.length_drop,Array.length_toList];lia
 have hj:sIx g.size g.size hi<=g.size:=Ey _ _ (Nat.le_refl _) hi;let(os,N,J,hds):=id hs;have I:s.TypeIs (.ref O) "slice":=⟨os,N,J⟩;unfold getItem;try with_reducible show wpAny_holding ?_
 first|show wpAny_bind (wpAny_pure ?_)|skip
 show wpAny_bind (wpAny_sequenceKey ht.typeIs (!1) ?_);show wpAny_bind (wpAny_callSpecial?_slot (name:=⇑"__getitem__") ht.typeIs PyProof.Rows.slot_tuple_getitem
  (wpAny_call_entry PyProof.Rows.slot_tuple_getitem ht.typeIs entry_tuple_getitem ?_ (args_tuple_getitem _ _)))
 change wpAny _ _ (Builtin.Tuple.tupleItemsOf (.ref t) >>= _) _ _ s;show wpAny_bind (tupleItemsOf_ ht ?_);show wpAny_bind (wpAny_typeOf I ?_);rw[if_pos (!1)];show wpAny_bind (Fb hs pl pu ?_);have L:¬((((sIx g.size 0 lo:Nat):Int)==0&&(1:Int)==1&&(sIx g.size g.size hi-sIx g.size 0 lo)==g.size)=true):=by intro q;rw[Bool.and_eq_true,Bool.and_eq_true]at q;have q1:((sIx g.size 0 lo:Nat):Int)=0:=eq_of_beq q.1.1;have q2:sIx g.size g.size hi-sIx g.size 0 lo=g.size:=eq_of_beq q.2;exact hw ⟨!0,!0⟩
 change wpAny _ _ (if(((sIx g.size 0 lo:Nat):Int)==0&&(1:Int)==1&&(sIx g.size g.size hi-sIx g.size 0 lo)==g.size)=true then _ else _) _ _ s;rw[if_neg L,V9];first
  |exact wpAny_bind (m:=Builtin.Tuple.tupleExact _) (wpAny_newObj_type (wpAny_pure ⟨_,rfl,wpAny_pure h⟩) z)
  |exact wpAny_bind (m:=Builtin.Tuple.tupleExact _) (wpAny_newObj_type (wpAny_bind (wpAny_pure (wpAny_pure ⟨_,rfl,wpAny_pure h⟩))) z)
  |exact wpAny_bind (wpAny_bind (m:=Builtin.Tuple.tupleExact _) (wpAny_newObj_type (wpAny_pure (wpAny_pure ⟨_,rfl,wpAny_pure h⟩)) z))
  |exact wpAny_bind (wpAny_bind (m:=Builtin.Tuple.tupleExact _) (wpAny_newObj_type (wpAny_pure ⟨_,rfl,wpAny_pure h⟩) z))
end
end HT
namespace L2
open PySem PySem.Spec PyProof.Rows
abbrev TO:=St->Hp->(Option Int->Hp->Prop)->Prop
def PO(X:Cx)(e:Option AO)(t:TO):Prop:=
 ∀(p9:AC)(s:AI)(Y:St)(H:Hp)(Q:Option Int->Hp->Prop),Inv X p9 Y H s->t Y H Q->
  ↥X (evalPart e X.env) (λu s'=>∃o H',Inv X p9 Y H' s'/\IsPart u o/\Q o H') X.xe s
def Wb:TO:=λz H Q=>Q none H
def Wc(t:TE):TO:=λY H Q=>t Y H λx H1=>∃i,x=.int i/\Q (-i) H1
def intsAre_of{ns:List Int}:∀{us:AB},Vals (ns.map V.int) us->IntsAre us ns:=by
 induction ns with
 |nil=>intro us r;rw[gL]at r;cases r;exact .nil
 |cons n ns g=>
  intro us r;rw[bg]at r;cases r with
  |cons q z=>
   let(t,e):=q;subst e;exact .cons n t (g z)
section
variable {X:Cx} {e:AO} {te:TE} {lo hi:Option AO} {tl th:TO} {pos p2:Pos}
def Wd:PO X none Wb:=by intro p9 s Y H Q I h;rw[evalPart_none];exact aw ⟨none,H,I,.none,h⟩
def We(h:PE X e te):PO X (-e) (Wc te):=by intro p9 s Y H Q I hw;rw[evalPart_some];show thn (h p9 s Y H _ I hw) λu L zZ=>?_;let(x,H1,g,J,z):=zZ;let(i,rfl,q):=z;let(t,rfl):=J;exact⟨-i,H1,g,.int i t,q⟩
def SlR(X:Cx)(r:V->Option Int->Option Int->Hp->VK->Prop):Prop:=
 ∀(p9:AC)(s:AI)(Y:St)(H:Hp)(x:V)(v q z:AN)(lo hi:Option Int)(g:AQ)(Q:VK),Inv X p9 Y H s->RelV x v->s.heap.IsSliceOf g q z .none->IsPart q lo->IsPart z hi->r x lo hi H Q->
  ∃T id,typeLookup (.type T) "__getitem__"=pure (-(.builtin id))/\s.TypeIs v T/\↥X (getItem v (.ref g)) (EP X p9 Y Q) X.xe s
def tSl(r:V->Option Int->Option Int->Hp->VK->Prop)(te:TE)(tl th:TO):TE:=λY H Q=>te Y H λx H1=>tl Y H1 λl H2=>th Y H2 λu g=>r x l u g Q
def Wf{r:V->Option Int->Option Int->Hp->VK->Prop}(hr:SlR X r)(he:PE X e te)(hl:PO X lo tl)(hu:PO X hi th):PE X (.Subscript e (.Slice lo hi none p2) pos) (tSl r te tl th):=by intro p9 s Y H Q I h;show Subscript_ (thn (he p9 s Y H _ I h) λv s1 zZ=>?_);let(x,H1,N,r1,q1):=zZ;show wpAny_Slice (thn (hl p9 s1 Y H1 _ N q1) λz s2 zZ=>?_);let(l,H2,O,pl,q2):=zZ;show thn (hu p9 s2 Y H2 _ O q2) λJ g zZ=>?_;let(u,L,U,pu,q3):=zZ;rw[evalPart_none];show aw ?_;have I4:Inv X p9 Y L {g with heap:=g.heap.push {cls:=.type "slice",data:=.fields #[z,J,.none]}}:=U.kept (t':=g.toks) λb ob q=>ah _ q;let(T,id,hT,ht,hg):=hr p9 {g with heap:=g.heap.push {cls:=.type "slice",data:=.fields #[z,J,.none]}} Y L x v z J l u g.heap.objs.size Q I4 r1 (Heap.IsSliceOf.new ..) pl pu q3;change ↥X (subscriptTail e (.Slice lo hi none p2) v (.ref g.heap.objs.size)) (EP X p9 Y Q) X.xe {g with heap:=g.heap.push {cls:=.type "slice",data:=.fields #[z,J,.none]}};exact tail_any (ops:=[.ref g.heap.objs.size,v]) ht hT hg (by with_unfolding_all rfl)
def eQ(xs:AR)(lo hi:Option Int):AR:=(xs.drop (HT.sIx xs⁻¹ 0 lo)).take (HT.sIx xs⁻¹ xs⁻¹ hi-HT.sIx xs⁻¹ 0 lo)
theorem Fd(xs:AR)(lo hi:Option Int):(eQ xs lo hi)⁻¹<=xs⁻¹:=by unfold eQ;rw[b6,de];lia
def Wg(K:PF):V->Option Int->Option Int->Hp->VK->Prop:=λx lo hi H Q=>∃a xs,x=.ref a/\SqT K H a xs/\
 ¬(HT.sIx xs⁻¹ 0 lo=0/\HT.sIx xs⁻¹ xs⁻¹ hi=xs⁻¹)/\∀p,H p=none->Q (.ref p) (upd H p (.tup (eQ xs lo hi)))
def Wh:SlR X (Wg X.K):=by
 intro p9 s Y H x v vl vu lo hi U Q I O hs pl N h;let(a,xs,rfl,L,hw,q):=h;cases O;let(z,r,ht,J):=I.tuple L;have g:z.toArray.size=xs⁻¹:=by rw[ax];exact r.length.symm
 show⟨"tuple",_,fo.lookup,ht.typeIs,?_⟩;show HT.Wa ht hs pl N (by rw[g];exact hw) ?_ (by rw[g];exact J);rw[g];show⟨.ref (~~~s),_,I.laid (t':=s.toks) (o:=.tup (eQ xs lo hi)) (λb ob q=>ah _ q) (ar _) ?_,rfl,q _ (I.hok.fresh (ar _))⟩;exact⟨b3 (Fd xs lo hi) J,_,(r.drop (HT.sIx xs⁻¹ 0 lo)).take (HT.sIx xs⁻¹ xs⁻¹ hi-HT.sIx xs⁻¹ 0 lo),IsTupX.new _ _⟩
def Wi(K:PF):R2:=λx y H Q=>∃a b xs ys,x=.ref a/\y=.ref b/\SqT K H a xs/\SqT K H b ys/\xs≠[]/\xs⁻¹+ys⁻¹<=sizeLine/\
 (ys=[]->Q (.ref a) H)/\(ys≠[]->∀p,H p=none->Q (.ref p) (upd H p (.tup (xs++ys))))
def Vals.nil_iff{xs:AR}{us:AB}(r:Vals xs us):us=[]↔xs=[]:=by
 cases r with
 |nil=>simp
 |cons _ _=>simp
def Wj:OpR X (binaryOp .Add) (Wi X.K):=by intro p9 s Y H x y v u Q I rx ry h;let(a,b,xs,ys,rfl,rfl,O,U,hx,L,q1,q2):=h;cases rx;cases ry;let(its,J,p1,_):=I.tuple O;let(N,g,p2,_):=I.tuple U;show HT.V6 p1 p2 (λz=>hx (J.nil_iff.mp z)) (λz=>⟨.ref a,H,I,rfl,q1 (g.nil_iff.mp z)⟩) (λz=>?_) (by rw[<-J⁻¹,<-g⁻¹];exact L);show⟨.ref (~~~s),_,I.laid (t':=s.toks) (o:=.tup (xs++ys)) (λb ob q=>ah _ q) (ar _) ?_,rfl,q2 (λw=>z (g.nil_iff.mpr w)) _ (I.hok.fresh (ar _))⟩;exact⟨by rw[am];exact L,_,J.append g,IsTupX.new _ _⟩
end
def ixN(n:Nat)(i:Int):Option Nat:=if 0<=i then(if i<n then some i.toNat else none) else if Neg.neg (n:Int)<=i then some (i+n).toNat else none
def atI{g:Type}(xs:List g)(i:Int):Option g:=(ixN xs⁻¹ i).bind λj=>xs[j]?
def Fe{n:Nat}{i:Int}{j:Nat}(h:ixN n i=-j):seqIndex? i n=-j/\j<n/\Neg.neg (n:Int)<=i/\i<n:=by
 unfold ixN at h;by_cases h0:0<=i
 .rw[if_pos h0]at h;by_cases h1:i<n
  .rw[if_pos h1]at h;have e:i.toNat=j:=cw h;exact⟨by rw[seqIndex_of h0 h1,e],!0,!0,h1⟩
  .rw[if_neg h1]at h;cases h
 .rw[if_neg h0]at h;by_cases h1:Neg.neg (n:Int)<=i
  .rw[if_pos h1]at h;have e:(i+n).toNat=j:=cw h;exact⟨by rw[seqIndex_neg (!0) h1,e],!0,h1,!0⟩
  .rw[if_neg h1]at h;cases h
def ju{g:Type}{xs:List g}{i:Int}{v:g}(h:atI xs i=-v):∃j,seqIndex? i xs⁻¹=-j/\xs[j]?=-v/\j<xs⁻¹/\Neg.neg (xs⁻¹:Int)<=i/\i<xs⁻¹:=by
 unfold atI at h;cases e:ixN xs⁻¹ i with
 |none=>rw[e]at h;cases h
 |some j=>
  rw[e]at h;let(h1,h2,q,z):=Fe e;exact⟨j,h1,h,h2,q,z⟩
def bL{g:Type}{xs:List g}{j:Nat}{v:g}(h:xs[j]?=-v):atI xs (j:Int)=-v:=by
 have q:j<xs⁻¹:=(av.mp h).1;have e:ixN xs⁻¹ (j:Int)=-j:=by unfold ixN;rw[if_pos (!0),if_pos (!0)];simp
 unfold atI;rw[e];exact h
def wu{g:Type}(xs:List g)(v:g):atI (xs++[v]) (Neg.neg 1)=-v:=by
 have hl:(xs++[v])⁻¹=xs⁻¹+1:=by simp
 have e:ixN (xs++[v])⁻¹ (Neg.neg 1)=-xs⁻¹:=by unfold ixN;rw[hl,if_neg (!1),if_pos (!0)];congr 1;lia
 unfold atI;rw[e];change(xs++[v])[xs⁻¹]?=-v;simp
def Ff(b:AO):Prop:=∀o i,subscripted b false o i=operate [o,i] (getItem o i)
def IxR(X:Cx)(r:R2):Prop:=
 ∀(value g:AO)(p9:AC)(s:AI)(Y:St)(H:Hp)(x y:V)(v u:AN)(Q:VK),Inv X p9 Y H s->RelV x v->RelV y u->r x y H Q->
  subscripted g false v u=operate [v,u] (getItem v u)->↥X (subscriptTail value g v u) (EP X p9 Y Q) X.xe s
def MtR(X:Cx)(id:AL)(r:V->AR->Hp->VK->Prop):Prop:=
 ∀(p9:AC)(s:AI)(Y:St)(H:Hp)(x:V)(xs:AR)(v:AN)(us:AB)(Q:VK),Inv X p9 Y H s->RelV x v->Vals xs us->r x xs H Q->
  ↥X (call (.builtin id) (v::us)) (EP X p9 Y Q) X.xe s
section
variable {X:Cx} {a b:AO} {ta tb:TE} {pos:Pos}
def lB{r:R2}(L:IxR X r)(z:PE X a ta)(J:PE X b tb)(hs:Ff b):PE X (.Subscript a b pos) (tOp r ta tb):=by intro p9 s Y H Q I h;exact Subscript_ (v8 z J I h λv u U x y H2 g N O q=>L a b p9 U Y H2 x y v u Q g N O q (hs _ _))
def Wk(K:PF):R2:=λx y H Q=>∃p xs i v,x=.ref p/\y=.int i/\SqL K H p xs/\atI xs i=-v/\Q v H
def Wl(K:PF):R2:=λx y H Q=>∃p xs i v,x=.ref p/\y=.int i/\SqT K H p xs/\atI xs i=-v/\Q v H
def Wm:R2:=λx y H Q=>∃z i c,x=.str z/\y=.int i/\z⁻¹<=sizeLine/\atI z.cps.toList i=-c/\Q (.str ⟨#[c]⟩) H
theorem Fg:IxR X (Wk X.K):=by
 intro value N p9 s Y H x y v u Q I rx ry h hs;let(p,xs,i,z,rfl,rfl,hq,he,q):=h;cases rx;let(t,rfl):=ry;let(J,r,pl,hz):=I.list hq;let(j,h1,h2,h3,U,h5):=ju he;let(w,O,L):=r.get h2;have hl:=r⁻¹;have hn:=gO;have fin:EP X p9 Y Q w s:=⟨z,H,I,L,q⟩;by_cases h0:0<=i
 .have g:i.toNat=j:=by
   rw[seqIndex_of h0 h5]at h1;exact cw h1
  exact item_listR pl.isList h0 (!0) (by rw[g];simpa using O) fin hs
 .have g:(i+(J.toArray.size:Int)).toNat=j:=by
   rw[seqIndex_neg (!0) U]at h1;rw[ax,<-hl];exact cw h1
  exact subscriptTail_builtinR (x:=w) pl.isList.typeIs slot_list_getitem.lookup
   (wpAny_getItem_list_neg (Q:=λr s'=>r=w/\EP X p9 Y Q r s') pl.isList (!0) (by rw[ax]<;>lia) (!0) (by rw[g];simpa using O) ⟨rfl,fin⟩) hs
theorem rR:IxR X (Wl X.K):=by
 intro value J p9 s Y H x y v u Q I U ry h hs;let(p,xs,i,z,rfl,rfl,N,he,q):=h;cases U;let(t,rfl):=ry;let(O,r,pl,hz):=I.tuple N;let(j,h1,h2,h3,h4,h5):=ju he;let(w,L,g):=r.get h2;have hl:=r⁻¹;have hn:=gO;have fin:EP X p9 Y Q w s:=⟨z,H,I,g,q⟩;exact subscriptTail_builtinR (x:=w) pl.typeIs slot_tuple_getitem.lookup
  (getItem_tuple (j:=j) (Q:=λr s'=>r=w/\EP X p9 Y Q r s') pl (!0) (!0) (by rw[ax,<-hl];exact h1) (!!L) ⟨rfl,fin⟩) hs
theorem Wn:IxR X Wm:=by
 intro value g p9 s Y H x y v u Q I U ry h hs;let(z,i,c,rfl,rfl,hz,he,q):=h;let(t,rfl):=U;let(t',rfl):=ry;let(j,h1,h2,h3,N,O):=ju he;have hl:z.cps.toList⁻¹=z⁻¹:=by simp[Str.length]
 rw[hl]at h1 N O;have hn:=gO;exact tail_any (typeIs_str s z t) slot_str_getitem.lookup (getItem_str (c:=c) (by
  have J:decide (i < Neg.neg (2 ^ 63:Int))=false:=bX (!0);have L:decide (i≥2 ^ 63)=false:=bX (!0);rw[J,L,Bool.or_false]) (by rw[h1];simpa using h2) ⟨.str ⟨#[c]⟩,H,I.tok _,⟨_,rfl⟩,q⟩) hs
def Wo (g:AB) (n j:Nat) (u:AN):Obj.mapSeq (·.setIfInBounds j u) {cls:=.type "list",data:=.seq g.toArray n}={cls:=.type "list",data:=.seq (g.set j u).toArray n}:=by simp[Obj.mapSeq]
def Inv.lst{p9:AC}{Y:St}{H:Hp}{s:AI}{p:AQ}{xs:AR}(I:Inv X p9 Y H s)(h:H p=-(.lst xs)):
  ∃(g:AB) (n:Nat),Vals xs g/\s.heap.get? p=-{cls:=.type "list",data:=.seq g.toArray n}/\xs⁻¹<=sizeLine:=by
 let(z,g,n,r,e):=I.hok p _ h;exact⟨g,n,r,e,z⟩
def Inv.lstUpd{p9:AC}{Y:St}{H:Hp}{s:AI}{p:AQ}{xs ys:AR}{g its':AB}{n z:Nat}{f:Obj->Obj}(I:Inv X p9 Y H s)(h:H p=-(.lst xs))
  (N:s.heap.get? p=-{cls:=.type "list",data:=.seq g.toArray n}) (J:f {cls:=.type "list",data:=.seq g.toArray n}={cls:=.type "list",data:=.seq its'.toArray z}) (r:Vals ys its') (O:ys⁻¹<=sizeLine) (t:Nat):
  Inv X p9 Y (upd H p (.lst ys)) {s with heap:=s.heap.update p f,toks:=t}:=by
 have e:(s.heap.update p f).get? p=-{cls:=.type "list",data:=.seq its'.toArray z}:=by rw[Heap.get?_update_self f N (by rw[J]<;>rfl),J]
 show I.write (x:=p) (e:=p) (by rw[h];trivial) (.inl rfl) (λb u L q=>(Heap.get?_update_other _ _ (Ne.symm L)).trans q) ⟨_,e⟩ ?_;exact⟨O,its',z,r,e⟩
def Wq:V->V->V->Hp->(Hp->Prop)->Prop:=λo i v H Q=>∃p xs k j,o=.ref p/\i=.int k/\H p=-(.lst xs)/\ixN xs⁻¹ k=-j/\Q (upd H p (.lst (xs.set j v)))
theorem set_list:rH X Wq:=by
 intro p9 s Y H o i v ov iv u Q I ro ri rv h;let(p,xs,k,j,rfl,rfl,U,hj,q):=h;cases ro;let(t,rfl):=ri;let(g,n,r,J,hz):=I.lst U;let(h1,h2,N,O):=Fe hj;have hl:=r⁻¹;have hn:=gO;have L:Inv X p9 Y (upd H p (.lst (xs.set j v))) {s with heap:=s.heap.update p (Obj.mapSeq (·.setIfInBounds j u))}:=
  I.lstUpd U J (Wo g n j u) (r.set rv j) (by rw[eD];exact hz) s.toks
 by_cases h0:0<=k
 .have z:k.toNat=j:=by
   rw[seqIndex_of h0 O]at h1;exact cw h1
  exact PySem.W.ki_setAt J h0 (!0) (by rw[ax,<-hl];exact O) (by rw[z];exact⟨_,L,q⟩)
 .have z:(k+(g.toArray.size:Int)).toNat=j:=by
   rw[seqIndex_neg (!0) N]at h1;rw[ax,<-hl];exact cw h1
  exact PySem.W.ki_setBack J (!0) (by rw[ax,<-hl];exact N) (!0) (by rw[z];exact⟨_,L,q⟩)
theorem Fi(lo hi:Option Int)(n:Nat):(sliceBounds lo hi none n).1=((HT.sIx n 0 lo:Nat):Int)/\(sliceBounds lo hi none n).2.1=((HT.sIx n n hi:Nat):Int)/\(sliceBounds lo hi none n).2.2=1:=by
 show⟨?_,?_,rfl⟩
 .cases lo with
  |none=>simp[sliceBounds,HT.sIx]
  |some i=>
   simp only[sliceBounds,HT.sIx,Option.getD_none,show(1:Int) > 0 by decide,if_true];by_cases h:i<0
   .simp only[h,if_true]<;>lia
   .simp only[h,if_false]<;>lia
 .cases hi with
  |none=>simp[sliceBounds,HT.sIx]
  |some i=>
   simp only[sliceBounds,HT.sIx,Option.getD_none,show(1:Int) > 0 by decide,if_true];by_cases h:i<0
   .simp only[h,if_true]<;>lia
   .simp only[h,if_false]<;>lia
def Wr(g:AB)(lo hi:Option Int):slicePick g.toArray lo hi none=((g.drop (HT.sIx g⁻¹ 0 lo)).take (HT.sIx g⁻¹ g⁻¹ hi-HT.sIx g⁻¹ 0 lo)).toArray:=by let(h1,h2,q):=Fi lo hi g.toArray.size;unfold slicePick;rw[h1,h2,q];simp only[sliceRange_one,pick_run,ax]<;>rfl
def Ws(K:PF):V->Option Int->Option Int->Hp->VK->Prop:=λx lo hi H Q=>∃a xs,x=.ref a/\SqL K H a xs/\∀p,H p=none->Q (.ref p) (upd H p (.lst (eQ xs lo hi)))
theorem Fj:SlR X (Ws X.K):=by intro p9 s Y H x v vl vu lo hi U Q I O hs pl N h;let(a,xs,rfl,z,q):=h;cases O;let(L,r,ht,J):=I.list z;have g:=r⁻¹;show⟨"list",_,slot_list_getitem.lookup,ht.isList.typeIs,?_⟩;show wpAny_getItem_list_slice ht.isList hs pl N .none (!2) ?_ (by rw[ax]<;>lia);rw[Wr,<-g];show⟨.ref (~~~s),_,I.laid (t':=s.toks) (o:=.lst (eQ xs lo hi)) (λb ob q=>ah _ q) (ar _) ?_,rfl,q _ (I.hok.fresh (ar _))⟩;exact⟨b3 (Fd xs lo hi) J,_,0,(r.drop (HT.sIx xs⁻¹ 0 lo)).take (HT.sIx xs⁻¹ xs⁻¹ hi-HT.sIx xs⁻¹ 0 lo),a7 _ rfl⟩
theorem Fl:bD X (.builtin "len") (λxs H Q=>∃p ys,xs=[.ref p]/\(SqL X.K H p ys\/SqT X.K H p ys)/\Q (.int ys⁻¹) H):=by
 intro p9 s Y H xs us Q I r h;let(p,ys,rfl,z,q):=h;let(u,rfl,O):=vals1 r;cases O;have hn:=gO;rcases z with z|z
 .let(J,L,pl,N):=I.list z;have g:=L⁻¹;exact Calls.call_len_list pl.isList (by simp only[ax]<;>lia) ⟨.int ys⁻¹,H,I.tok _,⟨s.toks+1,by rw[ax,g]⟩,q⟩
 .let(J,L,pl,N):=I.tuple z;have g:=L⁻¹;exact len_tuple pl (by simp only[ax]<;>lia) ⟨.int ys⁻¹,H,I.tok _,⟨s.toks+1,by rw[ax,g]⟩,q⟩
theorem Wt:bD X (.builtin "len") (λxs H Q=>∃z,xs=[.str z]/\z⁻¹<=sizeLine/\Q (.int z⁻¹) H):=by intro p9 s Y H xs us Q I r h;let(z,rfl,g,q):=h;let(u,rfl,t,rfl):=vals1 r;have hn:=gO;exact len_str (!0) ⟨.int z⁻¹,H,I.tok _,⟨_,rfl⟩,q⟩
theorem Fp:bD X (.type "list") (λxs H Q=>∃p ys,xs=[.ref p]/\(SqL X.K H p ys\/SqT X.K H p ys)/\∀l,H l=none->Q (.ref l) (upd H l (.lst ys))):=by
 intro p9 s Y H xs us Q I r h;let(p,ys,rfl,N,q):=h;let(u,rfl,rx):=vals1 r;cases rx;have fin:∀(g:AB),Vals ys g->ys⁻¹<=sizeLine->∀(h':Heap)(z:Nat),(∀b o',s.heap.get? b=-o'->h'.get? b=-o')->
   h'.get? (~~~s)=-{cls:=.type "list",dict:=none,data:=.seq g.toArray z,slots:=#[]}->EP X p9 Y Q (.ref (~~~s)) {s with heap:=h'}:=λg J O h' z kp e=>
  ⟨.ref (~~~s),_,I.laid (t':=s.toks) kp (ar _) (show ObjOk X.prog X.w _ h' _ (.lst ys) from⟨O,g,z,J,e⟩),rfl,q _ (I.hok.fresh (ar _))⟩
 rcases N with N|N
 .let(g,J,pl,O):=I.list N;have L:=J⁻¹;let(o,ho,hc,n,U):=pl.isList;exact call_list_seq p (.inl rfl) ho hc U (λh' z kp e=>fin g J O h' z kp e) (by simp only[ax]<;>lia)
 .let(g,J,pl,O):=I.tuple N;have L:=J⁻¹;let(o,ho,hc,n,U):=pl;exact call_list_seq p (.inr rfl) ho hc U (λh' z kp e=>fin g J O h' z kp e) (by simp only[ax]<;>lia)
theorem Fq:bD X (.type "tuple") (λxs H Q=>∃p ys,xs=[.ref p]/\((SqL X.K H p ys/\∀l,H l=none->Q (.ref l) (upd H l (.tup ys)))\/(SqT X.K H p ys/\Q (.ref p) H))):=by
 intro p9 s Y H xs us Q I r h;let(p,ys,rfl,h):=h;let(u,rfl,rx):=vals1 r;cases rx;rcases h with⟨z,q⟩|⟨z,q⟩
 .let(g,J,pl,O):=I.list z;have N:=J⁻¹;show call_tuple_list pl.isList (λh' kp=>?_) (by simp only[ax]<;>lia);have L:Inv X p9 Y H {s with heap:=h'}:=I.kept (t':=s.toks) kp;have U:Inv X p9 Y (upd H h'.objs.size (.tup ys)) {s with heap:=h'.push {cls:=.type "tuple",data:=.seq g.toArray}}:=
   L.laid (t':=s.toks) (λb o e=>ah _ e) (ar _) (show ObjOk X.prog X.w _ _ _ (.tup ys) from⟨O,g,J,IsTupX.new _ _⟩)
  exact⟨.ref h'.objs.size,_,U,rfl,q _ (L.hok.fresh (ar _))⟩
 .let(g,J,pl,O):=I.tuple z;exact call_tuple_same pl ⟨.ref p,H,I,rfl,q⟩
def tyV(K:PF)(T:AL)(x:V)(H:Hp):Prop:=match x with
 |.str _=>T="str"
 |.int _=>T="int"
 |.ref p=>(T="list"/\∃xs,SqL K H p xs)\/(T="tuple"/\∃o,K.lookup p=-o/\o.cls=.type "tuple"/\o.dict=none)\/
   (T="dict"/\((∃g,H p=-(.dK g))\/∃g,H p=-(.dT g)))\/(T="set"/\∃S n,H p=-(.set S n))
 |_=>False
def Wu{p9:AC}{Y:St}{H:Hp}{s:AI}{T:AL}{x:V}{v:AN}(I:Inv X p9 Y H s)(r:RelV x v)(ty:tyV X.K T x H):
  s.TypeIs v T/\∀a,v=.ref a->∃ob,s.heap.get? a=-ob/\ob.dict=none:=by
 cases x with
 |str z=>
  let(t,rfl):=r;cases(show T="str" from ty);exact⟨typeIs_str s z t,λy e=>nomatch e⟩
 |int i=>
  let(t,rfl):=r;cases(show T="int" from ty);exact⟨typeIs_int s i t,λy e=>nomatch e⟩
 |ref p=>
  cases r;rcases ty with⟨rfl,xs,N⟩|⟨rfl,o,g,hc,J⟩|⟨rfl,g⟩|⟨rfl,S,n,g⟩
  .let(O,_,pl,_):=I.list N;show⟨pl.isList.typeIs,λa e=>?_⟩;cases e;let(o,n,e,c,J,_):=pl;exact⟨o,e,J⟩
  .show ⟨⟨o,I.kIn p o g,hc⟩,λa e=>?_⟩;cases e;exact⟨o,I.kIn _ o g,J⟩
  .have z:∃o,s.heap.get? p=-o/\o.ExactDict:=by
    rcases g with⟨L,g⟩|⟨L,g⟩
    .let(_,_,_,_,o,_,_,e,ex,_):=I.hok p _ g;exact⟨o,e,ex⟩
    .let(_,_,_,_,o,_,_,e,ex,_):=I.hok p _ g;exact⟨o,e,ex⟩
   let(o,e,ex):=z;show⟨⟨o,e,ex.1⟩,λa q=>?_⟩;cases q;exact⟨o,e,ex.2.1⟩
  .let(o,_,_,_,e,ex,_):=I.hok p _ g;show⟨⟨o,e,ex.1⟩,λa q=>?_⟩;cases q;exact⟨o,e,ex.2.1⟩
 |_=>exact False.elim ty
def tBM(K:PF)(T:AL)(r:V->AR->Hp->VK->Prop)(to:TE)(t:TA):TE:=λY H Q=>to Y H λx H1=>tyV K T x H1/\t Y H1 λxs H2=>r x xs H2 Q
variable {o e:AO} {es:AE} {to:TE} {t:TA} {name:Str} {apos cpos:Pos} {T id:AL} {r:V->AR->Hp->VK->Prop}
def jw (pa:PlainAttrs T) (slot:Slot T name id) (L:typeOf (.builtin id)=pure (.type "method_descriptor")) (hm:MtR X id r) (ho:PE X o to) (ha:PA X (e::es) t)
  (q:attributeBase o name X.env (eval o X.env)=eval o X.env:=by rfl)
  (J:((backTo cpos (starEach (e::es) X.env)).all (λx=>!x.1)&&(backToKw cpos (keywordEach [] X.env)).all (λx=>x.1.isSome)
  &&decide ((e::es)⁻¹+([]:List Keyword)⁻¹+(if([]:List Keyword).isEmpty then 0 else 1)<30))=true:=by rfl)
  (z:(apos.endLine==cpos.line)=true:=by rfl) (hs:starEach (e::es) X.env=(false,eval e X.env)::starEach es X.env:=by rfl) (g:(backTo cpos (starEach es X.env)).any (·.1)=false:=by rfl):
  PE X (.Call (.Attribute o name apos) (e::es) [] cpos) (tBM X.K T r to t):=by
 intro p9 s Y H Q I h;show wpAny_Call_method_late q J z rfl (thn (ho p9 s Y H _ I h) λv s1 zZ=>?_);let(x,H1,N,U,ty,q1):=zZ;let(h1,h2):=Wu N U ty;show⟨T,id,pa,slot,L,h1,h2,?_⟩;have O:=ha cpos p9 s1 Y H1 _ N q1;rw[hs]at O ⊢;show Calls.callWith_builtin (by change(false||(backTo cpos (starEach es X.env)).any (·.1))=false;rw[g]<;>rfl) (Calls.evalArgs_plain ?_);show thn O λus s2 zZ=>?_;let(vs,H2,I2,r2,q2):=zZ;exact hm p9 s2 Y H2 x vs v us Q I2 U r2 q2
end
def MtM(X:Cx)(id:AL)(r:V->AR->Hp->VK->Prop):Prop:=
 ∀(p9:AC)(s:AI)(Y:St)(H:Hp)(x:V)(xs:AR)(v:AN)(us:AB)(Q:VK),Inv X p9 Y H s->RelV x v->Vals xs us->r x xs H Q->
  ↥X (call (.builtin id) (v::us)) (EP X p9 Y Q) X.xe s
def Vals.one:∀{x:V}{us:AB},Vals [x] us->∃u,us=[u]/\RelV x u
 |_,_,.cons r .nil=>⟨_,rfl,r⟩
def Vals.eraseIdx:∀{xs:AR}{us:AB}(i:Nat),Vals xs us->Vals (xs.eraseIdx i) (us.eraseIdx i)
 |_,_,_,.nil=>.nil
 |_,_,0,.cons _ t=>t
 |_,_,i+1,.cons r t=>.cons r (Vals.eraseIdx i t)
def Vals.rep{xs:AR}{us:AB}(h:Vals xs us):∀k:Nat,Vals (List.replicate k xs).flatten (List.replicate k us).flatten
 |0=>.nil
 |k+1=>by
  rw[cy,cy,eT,eT];exact Vals.append h (Vals.rep h k)
def Ft{g:Type}:∀(l:List g)(i:Nat),(l.eraseIdx i)⁻¹<=l⁻¹
 |[],_=>ar _
 |_::_,0=>dk _
 |_::r,i+1=>Nat.succ_le_succ (Ft r i)
def foldl_rep(q:AB):∀(k:Nat)(g:AB),
  List.foldl (λI J=>I++J) g.toArray (List.replicate k q.toArray)=(g++(List.replicate k q).flatten).toArray
 |0,g=>by simp
 |k+1,g=>by
  have e:g.toArray++q.toArray=(g++q).toArray:=by simp
  have z:(g++q)++(List.replicate k q).flatten=g++(List.replicate (k+1) q).flatten:=by rw[cy,eT,fk]
  rw[<-z,<-foldl_rep q k (g++q),<-e,cy,List.foldl_cons]
section
variable {X:Cx} {p9:AC} {σ:St} {H:Hp} {s:AI} {l b:AQ} {xs ys zs:AR}
def Inv.lset{g its':AB}{n:Nat}{f:Array AN->Array AN}{t':Nat}(I:Inv X p9 σ H s)(z:H l=-(.lst xs))
  (e:s.heap.get? l=-{cls:=.type "list",data:=.seq g.toArray n}) (L:f g.toArray=its'.toArray) (O:Vals ys its') (U:ys⁻¹<=sizeLine):
  Inv X p9 σ (upd H l (.lst ys)) {s with heap:=s.heap.update l (Obj.mapSeq f),toks:=t'}:=by
 have q:=PySem.IsL.update e f;rw[L]at q;show I.write (x:=l) (e:=l) (by rw[z];exact trivial) (.inl rfl) (λY u J N=>(Heap.get?_update_other s.heap (Obj.mapSeq f) (Ne.symm J)).trans N) ⟨_,q⟩ ?_;exact⟨U,its',_,O,q⟩
def Inv.lnew{g:AB}{t':Nat}(I:Inv X p9 σ H s)(z:Vals ys g)(J:ys⁻¹<=sizeLine):
  Inv X p9 σ (upd H (~~~s) (.lst ys)) {s with heap:=s.heap.push {cls:=.type "list",data:=.seq g.toArray},toks:=t'}:=
 I.laid (λy y q=>ah _ q) (ar _) ⟨J,g,0,z,a7 _ rfl⟩
def Inv.fresh(I:Inv X p9 σ H s):H (~~~s)=none:=I.hok.fresh (ar _)
def Inv.lstM (I:Inv X p9 σ H s) (q:H l=-(.lst xs)):xs⁻¹<=sizeLine/\∃(g:AB) (n:Nat),Vals xs g/\xs⁻¹=g⁻¹/\s.heap.get? l=-{cls:=.type "list",data:=.seq g.toArray n}:=by let(z,g,n,r,e):=I.hok l _ q;exact⟨z,g,n,r,r⁻¹,e⟩
theorem Fv{n:Nat}(h:n<=sizeLine):Builtin.List.listTooLong n=false:=by unfold Builtin.List.listTooLong;exact bX (!0)
end
section
variable {X:Cx}
def Wv:V->AR->Hp->VK->Prop:=λx vs H Q=>∃l xs y,x=.ref l/\vs=[y]/\H l=-(.lst xs)/\xs⁻¹<sizeLine/\Q .non (upd H l (.lst (xs++[y])))
theorem Ww:MtM X "list.append" Wv:=by intro p9 s Y H x vs v us Q I O N h;let(l,xs,y,rfl,rfl,J,U,q):=h;cases O;let(u,rfl,L):=N.one;let(z,g,n,r,hl,e):=I.lstM J;show call_meets F.slot_list_append ⟨_,e,rfl⟩ F.entry_list_append (F.args_list_append_2 _ _) (PySem.list_append l g.toArray n u (by rw[ax];lia)) ⟨e,?_⟩;show⟨.non,_,I.lset (its':=g++[u]) J e (!2) (r.append (.cons L .nil)) ?_,rfl,q⟩;rw[am,ca];lia
def Wx:V->AR->Hp->VK->Prop:=λx vs H Q=>∃l b xs zs,x=.ref l/\vs=[.ref b]/\H l=-(.lst xs)/\H b=-(.lst zs)/\xs⁻¹+zs⁻¹<=sizeLine/\Q .non (upd H l (.lst (xs++zs)))
theorem Wy:MtM X "list.extend" Wx:=by
 intro p9 s Y H x vs v us Q I rx rv h;let(l,b,xs,zs,rfl,rfl,N,U,hz,q):=h;cases rx;let(u,rfl,ru):=rv.one;cases ru;let(z,J,n,r,hl,e):=I.lstM N;let(z2,g,n2,r2,hl2,O):=I.lstM U;have hsz:J.toArray.size+g.toArray.size<=sizeLine:=by rw[ax,ax];lia
 have L:¬(!J.toArray.isEmpty&&Builtin.List.listTooLong (J.toArray.size+g.toArray.size))=true:=by rw[Fv hsz,Bool.and_false];exact bq
 show call_meets F.slot_list_extend ⟨_,e,rfl⟩ F.entry_list_extend (F.args_list_extend_2 _ _)
  (AutoSeq1.list_extend_list_list_0 l J.toArray n b g.toArray n2 L (by rw[ax];lia) (!0)) ⟨e,O,?_⟩
 show⟨.non,_,I.lset (its':=J++g) N e (!2) (r.append r2) ?_,rfl,q⟩;rw[am];lia
def Wz:V->AR->Hp->VK->Prop:=λx vs H Q=>∃l xs i k y,x=.ref l/\vs=[.int i]/\H l=-(.lst xs)/\Neg.neg (2 ^ 63)<=i/\i<2 ^ 63/\seqIndex? i xs⁻¹=-k/\xs[k]?=-y/\Q y (upd H l (.lst (xs.eraseIdx k)))
theorem WD:MtM X "list.pop" Wz:=by
 intro p9 s Y H x vs v us Q I rx rv h;let(l,xs,i,k,y,rfl,rfl,L,h1,h2,N,O,q):=h;cases rx;let(u,rfl,U):=rv.one;let(t,rfl):=U;let(z,g,n,r,hl,e):=I.lstM L;let(w,hw,J):=r.get O;show call_meets F.slot_list_pop ⟨_,e,rfl⟩ F.entry_list_pop (F.args_list_pop_2 _ _)
  (MeetsSeq.list_pop_at l g.toArray n i t k w (fitsIndex_both h1 h2) (by rw[ax,<-hl];exact N) (by rw[<-eR];exact hw) (by rw[ax];lia)) ⟨e,?_⟩
 show⟨y,_,I.lset (its':=g.eraseIdx k) L e ?_ (r.eraseIdx k) ?_,J,q⟩
 .change g.toArray.eraseIdxIfInBounds k=(g.eraseIdx k).toArray;rw[List.eraseIdxIfInBounds_toArray]
 .have:=Ft xs k;lia
def len_rep{q:Type}(xs:List q)(k:Nat):(List.replicate k xs).flatten⁻¹=k*xs⁻¹:=by
 induction k with
 |zero=>simp
 |succ k g=>rw[cy,eT,am,g,Nat.succ_mul,Nat.add_comm]
end
end L2
namespace Att
open PySem PySem.W PySem.Calls PyProof.Rows
def WF{P:Params}{h:Heap}:∀(ns:List Int)(vs:AB),WellAll P h vs (ns.map WData.int)->IntsAre vs ns:=by
 intro ns;induction ns with
 |nil=>
  intro vs w;rw[List.map_nil]at w;cases w;exact .nil
 |cons n ns g=>
  intro vs w;rw[List.map_cons]at w;cases w with
  |cons a b=>
   cases a;exact .cons _ _ (g _ b)
def WK{l:OpenLaw}{n:Nat}(hn:l.most=-n){P:Params}{h:Heap}{args:List WData}{z:AB}
  (g:l.row.toRowW.claim.pre args) (U:WellAll P h z args):
  ∃a vs ns,z=[Value.ref a]/\args=[WData.list (ns.map WData.int)]/\h.get? a=-{cls:=.type "list",data:=.seq vs.toArray}/\IntsAre vs ns/\ns⁻¹<=n:=by
 have O:WShape.hasAll [] args [.list .int]=true:=(pre_splitW g).1;have hc:l.pre.holds [] {args:=args}=true:=(pre_splitW g).2;let(d,r,rfl,h1,h2):=hasAllW_cons O;obtain rfl:=hasAllW_nil h2;let(xs,rfl,Y):=hasW_list h1;let(ns,rfl):=items_int Y;have J:ns⁻¹<=n:=by
  unfold OpenLaw.pre at hc;have L:(WTm.not (.lt (.lit (.int (n:Int))) (.len (.arg 0)))).holds [] {args:=[.list (ns.map .int)]}=true:=by have L:=(holds_andW hc).1;rw[hn]at L;exact L
  have N:=condW_of L (w_not (w_lt w_lit (w_len_list (w_arg rfl))));rw[List.length_map]at N;show Nat.le_of_not_lt λq=>?_;have q':(n:Int)<((ns⁻¹:Nat):Int):=by lia
  first
   | (rw[decide_eq_true q']at N;exact absurd N (!1))
   | (simp at N;lia)
 cases U with
 |cons w1 w2=>
  cases w2;cases w1 with
  |list ho I=>exact⟨_,_,ns,rfl,rfl,ho,WF ns _ I,J⟩
def WL(l:OpenLaw)(args:List WData):l.row.toRowW.claim.post args (.bool true) args=true:=
 postW_of (r:=l.row.toRowW) (X:=(true==true))
  (show WShape.has [] (.bool true) .bool=true by first|rfl|decide|simp[WShape.has,WShape.arms,WShape.armsAll])
  (show(WTm.eq .res (.lit (.bool true))).value [] {args:=args,res:=-(.bool true),after:=args}=-(.bool (true==true)) from w_eq_bool (w_res rfl) w_lit) rfl
def attach_call{l:OpenLaw}{n:Nat}{q:AK}{loose:AD}{XP:(AH)->Heap->Prop}{YP:World->Heap->Prop}{d:DefRec}
  (hn:l.most=-n) (hdf:d.params.defaults=[])
  (call:∀(w:World)(s₀ g:AI)(mg mb:AH)(fa:AQ)(o:Obj)(pm O z:AN)(a:AQ)(vs:AB)(ns:List Int),
   Ground q loose [] XP w s₀ mg mb g.heap->YP w g.heap->
   g.heap.get? fa=-o->o.data=.func (docDef d.name d.params d.body d.scope pm O z)->g.heap.CodeRec O d.name->mg d.name=-(.ref fa)->
   g.heap.get? a=-{cls:=.type "list",data:=.seq vs.toArray}->IntsAre vs ns->ns⁻¹<=n->g.gens=#[]->
   codeAny (model l.prog w) callerA (.call (.ref fa) ⟨[.ref a],[]⟩) (λr s'=>r=.ok (.ret (.bool true))/\OldK g.heap s'.heap/\s'.os=g.os/\AllBare s'.gens) g):
  WalkO q loose XP YP l.row.toRowW d [] (λf vs=>PySem.call f vs):=by
 intro w s₀ g mg mb G Y fa o pm O z dV kV ho hd U hD hmg hg args vals as N hlay hrd hwl hlo;obtain rfl:dV=.none:=Dflts.none hD hdf;obtain rfl:kV=.none:=Dflts.noKw hD;let(a,vs,ns,rfl,rfl,L,I,J):=WK hn N hwl;show enter_call (codeAny_mono (call w s₀ g mg mb fa o pm O z a vs ns G Y ho (fd_plain hd) U hmg L I J hg) λr s' hq=>?_);let(rfl,h2,h3,h4):=hq;exact⟨.inl ⟨.bool true,.bool true,[],rfl,λy=>rfl,.bool true,WL l _,λy=>⟨List.Pairwise.nil,λy hm=>(nomatch hm)⟩⟩,h2,h3,h4⟩
end Att
namespace L2
open PySem PySem.Spec PyProof.Rows
def ww:∀{vs:AB}{ns:List Int},IntsAre vs ns->Vals (ns.map V.int) vs
 |_,_,.nil=>.nil
 |_,_,.cons n t h=>.cons ⟨t,rfl⟩ (ww h)
def Only(H:Hp):Prop:=∀b,H b=none\/∃o xs,H b=-(.frz o (.lst xs))
def WM{P:AK}{w:World}{K:PF}{mg mb:AH}{CX:CXT}{k:Nat}{fa a:AQ}{fd:AJ}{x:Str}{sp:Sp}{g:AI}{vs:AB}{ns:List Int}
  (KX:K.In g.heap) (hns:g.heap.Ns mainGlobals mg) (J:g.heap.Ns builtinsNs mb) (hbb:∀x:Str,x≠"__name__"->mb x=bootBuiltins x) (hlim:g.heap.NoLimit) (hg:g.gens=#[])
  (ha:g.heap.get? a=-{cls:=.type "list",data:=.seq vs.toArray}) (hi:IntsAre vs ns) (hl:ns⁻¹<=sizeLine) (hr:Room k callerA)
  (F:∀base:Heap,K.In base->base.Ns mainGlobals mg->FnOk P w K mg base CX k fa fd [x] sp) (O:∀(s:AI)(u:AN),BindsTo s fd ⟨[u],[]⟩ [(x,u)])
  (hsp:∀H:Hp,Only H->SqL K H a (ns.map V.int)->sp [.ref a] H (λv y=>v=.bl true) λy y y=>False)
  (hCX:∀H e s',CX [] H g (λy y y=>False) e s'->False):
  codeAny (model P w) callerA (.call (.ref fa) ⟨[.ref a],[]⟩) (λr s'=>r=.ok (.ret (.bool true))/\OldK g.heap s'.heap/\s'.os=g.os/\AllBare s'.gens) g:=by
 have rv:=ww hi;have lenV:=hi⁻¹
 -- from an abstract heap in which nothing but the script may be tracked
 have N:∀H:Hp,Only H->SqL K H a (ns.map V.int)->HOk P w H g.heap->(∀b,H b≠none->b=a)->(H a≠none->K.lookup a=none)->
   codeAny (model P w) callerA (.call (.ref fa) ⟨[.ref a],[]⟩) (λr s'=>r=.ok (.ret (.bool true))/\OldK g.heap s'.heap/\s'.os=g.os/\AllBare s'.gens) g:=by
  intro H hO hS hok hA hK;have I:∀{b:AQ}{o:Obj},g.heap.get? b=-o->H b=none->(gf g.heap H).get? b=-o:=λe n=>Tp e n;have noA:∀{b:AQ}{o:Obj}{es:Array DictEntry}{ep:Nat},g.heap.get? b=-o->o.data=.dict es ep->H b=none:=λ{b o es ep} e d=>by
   cases q:H b with
   |none=>rfl
   |some u=>
    have e':b=a:=hA b (by rw[q];simp);subst e';rw[ha]at e;cases e;have d':Data.seq vs.toArray _=Data.dict es ep:=d;cases d'
  have L:∀{b:AQ}{m:AH},g.heap.Ns b m->(gf g.heap H).Ns b m:=λ{b m} ⟨o,es,ep,e,d,r⟩=>⟨o,es,ep,I e (noA e d),d,r⟩;have Y:K.In (gf g.heap H):=λb o e=>I (KX b o e) (by
   cases q:H b with
   |none=>rfl
   |some u=>
    have e':b=a:=hA b (by rw[q];simp);subst e';rw[hK (by rw[q];simp)]at e;cases e)
  have hM:Mod K mg (gf g.heap H):=⟨Y,L hns,⟨mb,L J,hbb⟩,let⟨mc,h1,h2⟩:=hlim;⟨mc,L h1,h2⟩⟩;have e0:Env0 P w K mg (gf g.heap H) callerA [] g H:=⟨rfl,hM,λb o e=>Tq e,Nat.le_of_eq (Tn _ _),trivial,λb J=>absurd (show b∈([]:List AQ) from J) (!2),hok,.of_eq hg⟩;show codeAny_mono ((F _ Y (L hns)).run callerA [] g H ⟨[.ref a],[]⟩ [.ref a] [.ref a] _ _ hr e0 (O g (.ref a)) (.cons rfl .nil) (hsp H hO hS)) λr s' h=>?_;cases r with
  |error e=>exact(hCX H e s' h).elim
  |ok fl=>
   cases fl with
   |next=>exact False.elim h
   |brk=>exact False.elim h
   |cont=>exact False.elim h
   |ret u=>
    let(v,H',os,U,un,hok',r',q):=h;have q':v=.bl true:=q;subst q';obtain rfl:u=Value.bool true:=r';show⟨rfl,OldK.of_keep λb o e=>?_,os,U⟩;cases q:H b with
    |none=>exact un.keep b o e q (by intro z;exact absurd (show b∈([]:List AQ) from z) (!2)) (!2)
    |some u=>
     rcases hO b with z|⟨ob,xs,z⟩
     .rw[q]at z;cases z
     .have z2:=un.frzs b ob _ z;let(e1,_):=hok b _ z;let(e2,_):=hok' b _ z2;rw[e]at e1;cases e1;exact e2
 cases hk:K.lookup a with
 |some o=>
  -- the script is one of the module's own objects
  have e:=KX a o hk;rw[ha]at e;cases e;show N (λy=>none) (λy=>.inl rfl) (.inr ⟨_,vs.toArray,_,hk,rfl,rfl,rfl,by rw[ax,lenV];exact hl,!!rv⟩) (λb u z=>by have z':(none:Option HO)=-u:=z;cases z') (λb z=>absurd rfl z) λz=>absurd rfl z
 |none=>
  show N (λb=>if b=a then some (.frz {cls:=.type "list",data:=.seq vs.toArray} (.lst (ns.map V.int))) else none) (λb=>?_) (.inl (.inr ⟨{cls:=.type "list",data:=.seq vs.toArray},if_pos rfl⟩)) (λb u z=>?_) (λb z=>?_) λy=>hk
  .by_cases J:b=a
   .exact .inr ⟨_,_,if_pos J⟩
   .exact .inl (if_neg J)
  .by_cases J:b=a
   .have z':=(if_pos J).symm.trans z;cases z';subst J;exact⟨ha,by rw[ag];exact hl,vs,_,rv,ha⟩
   .have z':=(if_neg J).symm.trans z;cases z'
  .by_cases J:b=a
   .exact J
   .exact absurd (if_neg J) z
def WN{l:PySem.W.OpenLaw}{n k:Nat}{q:AK}{loose:AD}{XP:(AH)->Heap->Prop}{YP:World->Heap->Prop}{d:DefRec}{K:Params->PF}{CX:World->CXT}{sp:World->Sp}{x:Str}
  (hn:l.most=-n) (U:n<=sizeLine) (N:d.params.defaults=[]) (hr:Room k callerA)
  (hY:∀(w:World)(h:Heap),YP w h->(K w.params).In h)
  (F:∀(w:World)(mg:AH)(fa:AQ)(h:Heap),(K w.params).In h->h.Ns mainGlobals mg->mg d.name=-(.ref fa)->
   ∃fd:AJ,(∀(s:AI)(u:AN),BindsTo s fd ⟨[u],[]⟩ [(x,u)])/\
    ∀base:Heap,(K w.params).In base->base.Ns mainGlobals mg->FnOk l.prog w (K w.params) mg base (CX w) k fa fd [x] (sp w))
  (hsp:∀(w:World)(H:Hp)(a:AQ)(ns:List Int),ns⁻¹<=n->Only H->SqL (K w.params) H a (ns.map V.int)->sp w [.ref a] H (λv y=>v=.bl true) λy y y=>False)
  (L:∀(w:World)(H:Hp)(s:AI)(e:AN)(s':AI),CX w [] H s (λy y y=>False) e s'->False):
  PySem.W.WalkO q loose XP YP l.row.toRowW d [] (λf vs=>PySem.call f vs):=by
 show Att.attach_call hn N λw s₀ J mg mb fa o pm cd doc a vs ns G Y ho hd hcd O I z g hg=>?_;have KX:=hY w _ Y;let(fd,hb,hF):=F w mg fa _ KX G.T.g O;exact WM KX G.T.g G.T.b G.T.builtins G.T.nolimit hg I z (b3 g U) hr hF hb (λH hO hS=>hsp w H a ns g hO hS) λH e s'=>L w H J e s'
def jx(s:Stmt):Arguments:=match s with
 |.FunctionDef _ a _ _ _ _ _ _ _ _=>a
 |_=>{posonlyargs:=[],args:=[],vararg:=none,kwonlyargs:=[],kw_defaults:=[],kwarg:=none,defaults:=[]}
def aG(s:Stmt):AF:=match s with
 |.FunctionDef _ _ b _ _ _ _ _ _ _=>b
 |_=>[]
def ao(s:Stmt):Scope:=match s with
 |.FunctionDef _ _ _ _ _ _ sc _ _ _=>sc
 |_=>{kind:=.function,names:=[],isGenerator:=false,isCoroutine:=false}
abbrev CX0:CXT:=λz z z z z z=>False
structure Fun(K:PF)(x qual:Str)(st:Stmt)(f:AQ)(fd:AJ):Prop where
 ex:∃(oc:AN)(od:Option AQ)(kV doc pm:AN)(an:Option AQ)(cdv ct:AN)(osl:Array (Option AN)),
  fd=PySem.W.fnOf x qual (jx st) (aG st) (ao st) .none kV doc pm an cdv ct/\K.lookup f=some ⟨oc,od,.func fd,osl⟩/\PySem.W.codeIn K cdv qual=true
 kp:PySem.W.keepIn K (.ref f)=true
section
variable {P:AK} {w:World} {K:PF} {mg:AH} {base:Heap}
def Fun.binds{x qual:Str}{st:Stmt}{f:AQ}{fd:AJ}{ps:AD}(F:Fun K x qual st f fd)
  (h:∀(kV g z:AN)(q:Option AQ)(cdv ct:AN)(us:AB),us⁻¹=ps⁻¹->bindArgs (PySem.W.fnOf x qual (jx st) (aG st) (ao st) .none kV g z q cdv ct) ⟨us,[]⟩=pure (ps.zip us)):Binds K fd ps []:=by
 let(N,O,kV,g,z,q,cdv,ct,J,rfl,L,I):=F.ex;exact .all (h kV g z q cdv ct)
def Fw{x qual:Str}{st:Stmt}{f:AQ}{J:AN}{L z:Option AQ}{q:Array (Option AN)}{kV g I cdv ct:AN}(l:K.lookup f=-⟨J,L,.func (PySem.W.fnOf x qual (jx st) (aG st) (ao st) .none kV g I z cdv ct),q⟩)
  (c:PySem.W.codeIn K cdv qual) (k:PySem.W.keepIn K (.ref f)):Fun K x qual st f (PySem.W.fnOf x qual (jx st) (aG st) (ao st) .none kV g I z cdv ct):=⟨⟨J,L,kV,g,I,z,cdv,ct,q,rfl,l,c⟩,k⟩
end
def WP{A:AM}{k:Nat}(g:Room k A):A.units+1<cLine:=Nat.lt_of_le_of_lt (Nat.add_le_add_left (by decide:1<=64) _) g.units
section
variable {X:Cx}
def pv (i:Nat) {x:Str} {pos:Pos} (q:X.N[i]?=-x:=by rfl) (I:Vis X.env.scope x:=by first|exact Or.inl rfl|exact Or.inr (Or.inl rfl)|exact Or.inr (Or.inr rfl)) (z:(x==("__debug__":Str))=false:=by decide)
  (g:(x==("__classdict__":Str))=false:=by decide):PE X (.Name x pos) (Dw i):=Dy q I z g
end
def WQ{A B:Prop}(h:B):if false=true then A else B:=by rw[if_neg bq];exact h
def WR{A B:Prop}(h:A):if true=true then A else B:=by rw[if_pos rfl];exact h
end L2
set_option maxHeartbeats 4000000
namespace L2
open PySem PySem.Spec PyProof.Rows
section
variable {X:Cx} {p9:AC} {σ:St} {H:Hp} {s:AI} {h':Heap}
def Inv.turnedL{t':Nat}{ch:List AQ}(I:Inv X p9 σ H s)(J:∀b∈ch,dJ X p9 H b)(k:∀b o,b∉ch->s.heap.get? b=-o->h'.get? b=-o):
  Inv X p9 σ H {s with heap:=h',toks:=t'}:=by
 have g:∀b u,H b=-u->b∉ch:=λb u e z=>by
  have q:=(J b z).1;rw[q]at e;cases e
 show I.step (g':=s.gens) (d':=s.drawn) (ch:=ch) (λb L=>?_) (λb o y y hc e y=>k b o hc e) (λb o y y hc e y=>⟨o.slots,k b o hc e⟩) (λy y y y n=>n)
  (λb o hc e=>⟨o,k b o hc e⟩) (λy y e=>e) (λy y y e=>e) (λb ps e=>⟨#[],by rw[e];simp⟩) (λm N=>?_) (λb u e=>?_) I.bare
 .let(_,f1,_,f3,f4,f5):=J b L;exact⟨f3,f1,f4,f5⟩
 .let(o,es,ep,O,r):=N;exact⟨o,es,ep,k _ o (λz=>(J _ z).2.1 rfl) O,r⟩
 .show (I.hok b u e).stay (λc v hc q=>k c v ?_ q) (λy q=>q) λy y q=>q;rcases hc with z|z
  .rw[z];exact g b u e
  .exact g c _ z
def Inv.track{T:AQ}{o:HO}(I:Inv X p9 σ H s)(L:dJ X p9 H T)(new:ObjOk X.prog X.w (upd H T o) s.heap T o):Inv X p9 σ (upd H T o) s:=by
 have hn:=L.1;have J:HOk X.prog X.w (upd H T o) s.heap:=λb u e=>by
  by_cases z:b=T
  .subst z;rw[bj]at e;cases e;exact new
  .rw[aA z]at e;exact(I.hok b u e).stay (λc v y q=>q) (λc q=>by rw[aA (aU q hn)];exact q) λc xs q=>by rw[aA (aU q hn)];exact q
 let(O,g,d,U,Y):=s;show I.step (h':=O) (g':=g) (d':=d) (t':=U) (ch:=[T]) (λb z=>?_) (λb o y y y e y=>e) (λb o y y y e y=>⟨o.slots,e⟩) (λb u hc y n=>?_)
  (λb o y e=>⟨o,e⟩) (λb xs e=>by rw[aA (aU e hn)];exact e) (λb u v e=>by rw[aA (aU e hn)];exact e) (λb ps e=>⟨#[],by rw[aA (aU e hn),e];simp⟩) (λm N=>N) J I.bare
 .have e:b=T:=by simpa using z
  subst e;let(_,f1,_,f3,f4,f5):=L;exact⟨f3,f1,f4,f5⟩
 .rw[aA (!!hc)];exact n
end
def WT{J:It}{n:Nat}{g:TG}{tb:TS}{D:Ends}{Y:St}{H:Hp}(q:Nat->St->Hp->Prop)(h0:q 0 Y H)
  (go:∀i Y H,i<n->q i Y H->J.go i H) (stop:∀Y H,q n Y H->J.stop n H)
  (hs:∀i Y H x H',i<n->q i Y H->J.yld i H x H'->g x Y H' λL H2=>tb {D with nx:=q (i+1),ct:=q (i+1),bk:=D.nx} L H2) (U:∀Y H,q n Y H->D.nx Y H):
  ∃W:Nat->Nat->St->Hp->Prop,(∃m,W 0 m Y H)/\∀i m Y H,W i m Y H->
   (J.stop i H/\D.nx Y H)\/(J.go i H/\∃N:St->Hp->Prop,(∀I H',N I H'->∃O,O<m/\W (i+1) O I H')/\∀x H',J.yld i H x H'->g x Y H' λL H2=>tb {D with nx:=N,ct:=N,bk:=D.nx} L H2):=by
 show⟨λi m Y H=>m=n-i/\i<=n/\q i Y H,⟨n,!2,dA _,h0⟩,?_⟩;rintro i m Y H ⟨rfl,hi,p⟩;by_cases z:i<n
 .exact .inr ⟨go i Y H z p,q (i+1),λI H' p'=>⟨n-(i+1),!0,rfl,z,p'⟩,λx H' y=>hs i Y H x H' z p y⟩
 .have e:i=n:=by lia
  subst e;exact .inl ⟨stop Y H p,U Y H p⟩
def Its(x:Str):It:=⟨λi z=>i<x.cps.size,λi H v H'=>H'=H/\∃c,x.cps[i]?=-c/\v=.str ⟨#[c]⟩,λi z=>i=x.cps.size⟩
def Fx{prog:AK}{w:World}{A:AM}(hh:A.handled=none)(I:AQ)(x:Str)(t:Tok):
  Walks prog w A I [I] [I] x.cps.size (SignAt x) (λi h=>h.IsStrIter I (strIterType x) x t i):=by
 unfold strIterType;split
 .exact Walks.strAscii hh I x t
 .exact Walks.strWide hh I x t
def wy{P:AK}{w:World}{K:PF}{tg:AO}(it:AQ)(x:Str)(t:Tok):Turn P w K tg (Its x) [it] it (λi h=>h.IsStrIter it (strIterType x) x t i) where
 mem:=by simp
 obj:=λi h st b g=>by
  have e:b=it:=by simpa using g
  subst e;let(o,e,c,d):=st;exact⟨o,e,λv z=>by rw[d]at z;cases z⟩
 keep:=λi h h' st k=>let⟨o,ho,r⟩:=st;⟨o,k it (!2) o ho,r⟩
 item:=by intro X N hw L hc i p9 s Y H E I J st O;subst N hw L;let(f0,f1,f2,f3,f4,f5):=J it (!2);have W:=Fx (prog:=X.prog) (w:=X.w) (I.ok.hd hc) it x t;show W.item i s _ _ O st λv h' tk hv q kk=>?_;let(c,u,e,rfl):=hv;have I1:Inv X p9 Y H {s with heap:=h',toks:=tk}:=I.turned (λb o g e=>kk b o (!!g) e) f0 f1 f3 f4 f5;let(o,eo,cc,d):=id q;exact⟨_,rfl,jn (s:={s with heap:=h',toks:=tk}) (n:=strIterType x) eo cc d (by unfold strIterType;split<;>decide) ⟨.str ⟨#[c]⟩,H,I1,⟨u,rfl⟩,⟨rfl,c,e,rfl⟩,q,λb g=>(J b g).1⟩⟩
 done:=by intro X N hw L hc i p9 s Y H E I J st O;subst N hw L;let(f0,f1,f2,f3,f4,f5):=J it (!2);have W:=Fx (prog:=X.prog) (w:=X.w) (I.ok.hd hc) it x t;have U:i=x.cps.size:=O;subst U;exact W.done s _ _ st λh' tk kk=>⟨rfl,I.turned (λb o g e=>kk b o (!!g) e) f0 f1 f3 f4 f5⟩
 self:=λA i s Q E st h=>by
  unfold strIterType at st;split at st
  .exact wpAny_pyIter_striter_ascii st h
  .exact wpAny_pyIter_striter_wide st h
def cu(env:Env):List (Str×NameKind)->List (Str×AQ)->List (Str×AQ)
 |[],cs=>cs
 | (n,k)::r,cs=>cu env r (if(k==.free)=true then(match env.cells.lookup n with|some c=>(n,c)::cs|none=>cs) else cs)
def wz{env:Env}:∀{l:List (Str×NameKind)}{cs:List (Str×AQ)},(∀x c,cs.lookup x=-c->env.cells.lookup x=-c)->∀x c,(cu env l cs).lookup x=-c->env.cells.lookup x=-c
 |[],_,h,x,c,e=>h x c e
 | (n,k)::r,cs,h,x,c,e=>by
  show wz (l:=r) (cs:=_) ?_ x c e;intro y d q;by_cases z:(k==NameKind.free)=true
  .rw[if_pos z]at q;cases hn:env.cells.lookup n with
   |none=>rw[hn]at q;exact h y d q
   |some J=>
    rw[hn]at q;simp only[List.lookup_cons]at q;cases g:y==n with
    |true=>
     rw[g]at q;have I:y=n:=eq_of_beq g;rw[I,hn];exact q
    |false=>rw[g]at q;exact h y d q
  .rw[if_neg z]at q;exact h y d q
def Fy{env:Env}{x:Str}:∀{l:List (Str×NameKind)}{cs:List (Str×AQ)},(cs.lookup x).isSome=true->((cu env l cs).lookup x).isSome=true
 |[],_,h=>h
 | (n,k)::r,cs,h=>by
  show Fy (l:=r) (cs:=_) ?_;by_cases g:(k==NameKind.free)=true
  .rw[if_pos g];cases hn:env.cells.lookup n with
   |none=>exact h
   |some q=>
    simp only[List.lookup_cons];cases z:x==n with
    |true=>rfl
    |false=>exact h
  .rw[if_neg g];exact h
def wA{env:Env}{x:Str}(g:(env.cells.lookup x).isSome):∀{l:List (Str×NameKind)}{cs:List (Str×AQ)},(x,NameKind.free)∈l->((cu env l cs).lookup x).isSome=true
 | (n,k)::r,cs,h=>by
  rcases bo.mp h with e|h
  .cases e;show Fy (l:=r) (cs:=_) ?_;rw[if_pos (show(NameKind.free==NameKind.free)=true by decide)];let(c,hc):=ce.mp g;rw[hc];simp
  .exact wA g (l:=r) h
def wB{scope:Scope}{env:Env}(h:∀y∈scope.names,y.2=NameKind.free->(env.cells.lookup y.1).isSome=true):closureFor scope env=pure (cu env scope.names []):=by
 simp only[closureFor];generalize ([]:List (Str×AQ))=cs;generalize scope.names=l at h;induction l generalizing cs with
 |nil=>rfl
 |cons y r O=>
  let(n,k):=y;have z:=λcs=>O cs λy N=>h y (aS _ N);rw[List.forIn_cons];by_cases q:(k==NameKind.free)=true
  .have J:k=NameKind.free:=eq_of_beq q;let(c,hc):=ce.mp (h (n,k) ba J);have I:cu env ((n,k)::r) cs=cu env r ((n,c)::cs):=by
    rw[cu,if_pos q];change cu env r (match env.cells.lookup n with|some c=>(n,c)::cs|none=>cs)=_;have g:env.cells.lookup n=-c:=hc;rw[g]
   have L:cellOf env n=pure c:=by unfold cellOf;have g:env.cells.lookup n=-c:=hc;rw[g]
   rw[I,<-z ((n,c)::cs)];simp only[q,if_true,L];rfl
  .have I:cu env ((n,k)::r) cs=cu env r cs:=by rw[cu,if_neg q]
   rw[I,<-z cs];simp only[q,if_false];rfl
def rT{env:Env}{x:Str}:∀{names:List (Str×NameKind)},
  (names.map λ(n,k)=>if(k==NameKind.free&&env.scope.kind==.function&&env.kindOf n==-.cell) then(n,NameKind.cell) else(n,k)).lookup x=
   (names.lookup x).map λk=>if(k==NameKind.free&&env.scope.kind==.function&&env.kindOf x==-.cell)=true then NameKind.cell else k
 |[]=>rfl
 | (n,k)::r=>by
  have z:=@rT env x r;rw[bg];have hh:∀(c:Prop)[Decidable c],(if c then(n,NameKind.cell) else(n,k))=(n,if c then NameKind.cell else k):=λc y=>by split<;>rfl
  change List.lookup x ((if(k==NameKind.free&&env.scope.kind==.function&&env.kindOf n==-.cell)=true then(n,NameKind.cell) else(n,k))::_)=_;rw[hh];simp only[List.lookup_cons];cases q:x==n with
  |true=>
   have g:x=n:=eq_of_beq q;subst g;rfl
  |false=>exact z
abbrev Cx.comp(X:Cx)(N':AD)(scope:Scope)(z:List (Str×AQ))(C:AQ)(q:AI)(g:Hp)(I:List AQ)(pn:AC):Cx where
 prog:=X.prog
 w:=X.w
 K:=X.K
 mg:=X.mg
 base:=X.base
 A:=X.A
 N:=N'
 s₀:=q
 H₀:=g
 env:=compEnvC scope z C X.env
 outer:=X.stack
 stack:=X.stack
 ex:=I
 fn:=λy=>false
 calm:=X.calm
 pn:=pn
 xe:=λy y=>False
def PIf(X:Cx)(g:AE)(t:TT):Prop:=
 ∀(p9:AC)(s:AI)(Y:St)(H:Hp)(Q:Bool->Hp->Prop),Inv X p9 Y H s->t Y H Q->
  ↥X (forIn g true λc r=>if r=true then do let ok <-isTrue c X.env (eval c X.env);pure (ForInStep.yield ok) else pure (ForInStep.yield r)) (TP X p9 Y Q) X.xe s
def WW:TT:=λz H Q=>Q true H
def WX{X:Cx}:PIf X [] WW:=λz z z H z I h=>wpAny_tests_nil ⟨H,I,h⟩
def FJ{X:Cx}{c:AO}{t:TT}(h:PT X c t):PIf X [c] t:=λp9 s Y H Q I q=>wpAny_tests_one (h p9 s Y H Q I q)
def dh(cap:List (Option Nat))(Y:St):St:=cap.map λo=>match o with|none=>none|some j=>(Y[j]?).join
def Caps(X:Cx)(scope:Scope):AD->List (Option Nat)->Prop
 |[],[]=>True
 |_::N',none::cap=>Caps X scope N' cap
 |x::N',-j::cap=>(X.N[j]?=-x/\scope.names.lookup x=-NameKind.free)/\Caps X scope N' cap
 |_,_=>False
def Caps.len{X:Cx}{scope:Scope}:∀{N':AD}{cap:List (Option Nat)},Caps X scope N' cap->cap⁻¹=N'⁻¹
 |[],[],_=>rfl
 |_::N',none::cap,h=>by
  have:=Caps.len (N':=N') (cap:=cap) h;simp[this]
 |_::N',-_::cap,h=>by
  have:=Caps.len (N':=N') (cap:=cap) h.2;simp[this]
 |[],_::_,h=>False.elim h
 |_::_,[],h=>False.elim h
def Caps.at{X:Cx}{scope:Scope}:∀{N':AD}{cap:List (Option Nat)}{i:Nat}{x:Str}{v:V}{Y:St},Caps X scope N' cap->N'[i]?=-x->(dh cap Y)[i]?=-(-v)->
  ∃j:Nat,X.N[j]?=-x/\scope.names.lookup x=-NameKind.free/\Y[j]?=-(-v)
 |[],[],i,x,v,Y,_,e,_=>by simp at e
 |y::N',none::cap,0,x,v,Y,h,e,q=>by simp[dh]at q
 |y::N',-j::cap,0,x,v,Y,h,e,q=>by
  have I:y=x:=by simpa using e
  subst I;have g:(Y[j]?).join=-v:=by simpa [dh] using q
  show⟨j,h.1.1,h.1.2,?_⟩;cases z:Y[j]? with
  |none=>rw[z]at g;cases g
  |some o=>rw[z]at g;exact eS some g
 |y::N',none::cap,i+1,x,v,Y,h,e,q=>Caps.at (N':=N') (cap:=cap) (i:=i) h (!!e) (by simpa [dh] using q)
 |y::N',-_::cap,i+1,x,v,Y,h,e,q=>Caps.at (N':=N') (cap:=cap) (i:=i) h.2 (!!e) (by simpa [dh] using q)
 |[],_::_,_,_,_,_,h,_,_=>False.elim h
 |_::_,[],_,_,_,_,h,_,_=>False.elim h
def WY(X:Cx)(N':AD)(scope:Scope)(tg:AO)(ifs:AE)(U:AO)(J:It)(σ0:St)(H1:Hp)(Q:VK):Prop:=
 ∃W:Nat->Nat->AR->St->Hp->Prop,(∃m,W 0 m [] σ0 H1)/\∀i m ys N H',W i m ys N H'->
  (J.stop i H'/\ys⁻¹<=sizeLine/\∀D,H' D=none->Q (.ref D) (upd H' D (.lst ys)))\/
  (J.go i H'/\ys⁻¹<sizeLine/\∀O C z q Y pn,∃g tt te,PG (X.comp N' scope O C z q Y pn) tg g/\PIf (X.comp N' scope O C z q Y pn) ifs tt/\PE (X.comp N' scope O C z q Y pn) U te/\
   ∀x H2,J.yld i H' x H2->g x N H2 λI H3=>tt I H3 λb H4=>if b=true then te I H4 λy H5=>∃L,L<m/\W (i+1) L (ys++[y]) I H5 else ∃L,L<m/\W (i+1) L ys I H4)
def FN(X:Cx)(N':AD)(scope:Scope)(tg:AO)(q:AE)(g:AO)(z:TI)(cap:List (Option Nat)):TE:=λY H Q=>z Y H λJ H1=>WY X N' scope tg q g J (dh cap Y) H1 Q
section
variable {prog:AK} {w:World} {A:AM} {R:Result->AI->Prop} {s:AI}
def W0{elt g iter:AO}{ifs:AE}{scope:Scope}{pos:Pos}{it acc:AN}{env:Env}(I:Nat->AI->Prop)
  (turn:∀n s,I n s->wpAny (model prog w) A (pyNext it) (λr q=>match r with
   |none=>R (.ok .next) q
   |some v=>wpAny (model prog w) A (letOwnedTupleGo g it v) (λy z=>wpAny (model prog w) A (assign g env v) (λy O=>
     wpAny (model prog w) A (forIn ifs true λc r=>if r=true then do let ok <-isTrue c env (eval c env);pure (ForInStep.yield ok) else pure (ForInStep.yield r)) (λok J=>
      if ok=true then wpAny (model prog w) A (eval elt env) (λx U=>
       wpAny (model prog w) A (call (.builtin "list.append") [acc,x]) (λy Y=>∃m,m<n/\I m Y) (λy y=>False) U) (λy y=>False) J
      else ∃m,m<n/\I m J) (λy y=>False) O) (λy y=>False) z) (λy y=>False) q) (λy y=>False) s)
  (n:Nat) (h:I n s):codeAny (model prog w) A (.compLoop (.ListComp elt [⟨g,iter,ifs,0⟩] scope pos) 0 it acc env) R s:=by
 show codeAny_loop rfl I (λn s hI=>?_) n h;change wpAny _ A ((compTurn (.ListComp elt [⟨g,iter,ifs,0⟩] scope pos) 0 it acc env).onRaise (λx=>do noteFrame x env;theTreesLotGoes x)) _ _ s;show wpAny_noted ?_;rw[compTurn_list];show ae (hU (ae (c8 (turn n s hI) (λr q L=>?_) λy y h'=>False.elim h')));cases r with
 |none=>exact aw L
 |some v=>
  show ae (c8 L (λy z h₁'=>?_) λy y h'=>False.elim h');show ae (c8 h₁' (λy O h₂=>ae (c8 h₂ (λok J N=>?_) λy y h'=>False.elim h')) λy y h'=>False.elim h');cases ok with
  |false=>exact aw ⟨rfl,N⟩
  |true=>
   exact ae (ae (c8 N (λx U h₄=>ae (c8 h₄ (λy Y h₅=>aw (aw ⟨rfl,h₅⟩)) λy y h'=>False.elim h')) λy y h'=>False.elim h'))
end
abbrev tx(l:AA):Str:=⟨l.toArray⟩
def cz(l:AA):(tx l)⁻¹=l⁻¹:=by simp[Str.length]
def rW(a b:AA):tx a++tx b=tx (a++b):=by change(⟨a.toArray++b.toArray⟩:Str)=⟨(a++b).toArray⟩;simp
def iw{a b:AA}(h:tx a=tx b):a=b:=by have:=eS (λx:Str=>x.cps.toList) h;simpa using this
def rY(x:Str):x=tx x.cps.toList:=by cases x;simp
section
variable {X:Cx}
def FP:∀{ys:AD}{us:AB},Vals (ys.map V.str) us->StrsAre us ys
 |[],us,r=>by
  rw[gL]at r;cases r;exact .nil
 |y::ys,us,r=>by
  rw[bg]at r;cases r with
  |cons g q=>
   let(t,e):=g;subst e;exact .cons y t (FP q)
def rJoin(K:PF):V->AR->Hp->VK->Prop:=λx vs H Q=>∃z p ys,x=.str z/\vs=[.ref p]/\SqL K H p (ys.map V.str)/\(ys.map (·.length)).sum+ys⁻¹*z⁻¹<=16777216/\Q (.str (Str.join z ys)) H
def W2:MtR X "str.join" (rJoin X.K):=by intro p9 s Y H x xs v us Q I U rs h;let(z,p,ys,rfl,rfl,J,g,q):=h;let(t,rfl):=U;let(u,rfl,N):=vals1 rs;cases N;let(L,O,pl,hz):=I.list J;show join_list pl.isList (by simpa using FP O) g λt' k=>⟨.str _,H,I.tok _,⟨_,rfl⟩,?_⟩;have e:Txt.join z ys=Str.join z ys:=StrLaws.glued_eq_join z ys;rw[e];exact q
def W3(K:PF):AR->Hp->VK->Prop:=λxs H Q=>∃x n t b,xs=[x,.ty n]/\TyOf K H x t/\PySem.W.kitOne K t (.type n)=-b/\Q (.bl b) H
def W4:bD X (.builtin "isinstance") (W3 X.K):=by intro p9 s Y H xs us Q I r h;let(x,n,t,b,rfl,ty,e,q):=h;let(u,L,rfl,g,z):=vals2 r;cases z;exact VG I g ty e λJ=>⟨.bl b,H,I.tok _,rfl,q⟩
def W5:bootBuiltins "bool"=-(.type "bool"):=by ac_rfl
def FQ:bootBuiltins "int"=-(.type "int"):=by ac_rfl
def FT:bootBuiltins "str"=-(.type "str"):=by ac_rfl
def wC:bootBuiltins "list"=-(.type "list"):=by ac_rfl
def W6:bootBuiltins "isinstance"=-(.builtin "isinstance"):=by ac_rfl
def W7 {x:Str} {T:AL} {pos:Pos} (q:Gl X x) (z:X.mg x=none) (I:bootBuiltins x=-(.type T)) (hn:x≠"__name__":=by decide) (g:(x==("__debug__":Str))=false:=by decide):PE X (.Name x pos) (tC (.ty T)):=
 TJ q z I (v:=.ty T) rfl hn g
def W8:OpR X (binaryOp .Mult) (λx y H Q=>∃i n,x=.str i/\y=.int n/\MulOk i n/\Q (.str (Txt.mul i n)) H):=by intro p9 s Y H x y v u Q I z J h;let(i,n,rfl,rfl,g,q):=h;let(t,rfl):=z;let(t',rfl):=J;exact SB.mul g λt' k=>⟨.str _,H,I.tok _,⟨_,rfl⟩,q⟩
end
def wD(X:Cx)(st:AF)(t:TS):Prop:=
 ∀(p9:AC)(s:AI)(Y:St)(H:Hp)(D:Ends),1<=s.toks->Inv X p9 Y H s->t D Y H->↥X (execs st X.env) (SP X p9 D) X.xe s
def PE1(X:Cx)(e:AO)(t:TE):Prop:=
 ∀(p9:AC)(s:AI)(Y:St)(H:Hp)(Q:VK),1<=s.toks->Inv X p9 Y H s->t Y H Q->↥X (eval e X.env) (EP X p9 Y Q) X.xe s
def W9{X:Cx}{e:AO}{te:TE}{pos:Pos}(he:PE1 X e te):wD X [.Return (-e) pos] (DG te):=by intro p9 s Y H D h1 I h;show wpAny_execs_cons (wpAny_Return_some (thn (he p9 s Y H _ h1 I h) λv J zZ=>?_));let(x,H1,g,z,q):=zZ;exact⟨x,Y,H1,g,z,q⟩
def wF{c d:Nat}:∀l:AA,c∉l->l.map (λa=>if a=c then d else a)=l
 |[],_=>rfl
 |a::r,h=>by
  have h1:a≠c:=λe=>h (by rw[e];exact ba);rw[bg,if_neg h1,wF r λz=>h (aS _ z)]
def FW(c d:Nat):∀g:AD,(∀p∈g,c∉p.cps.toList)->(Str.join ⟨#[c]⟩ g).cps.toList.map (λa=>if a=c then d else a)=(Str.join ⟨#[d]⟩ g).cps.toList
 |[],_=>rfl
 |[x],h=>by
  simp only[Str.join];exact wF _ (h x ba)
 |x::y::r,h=>by
  have J:=FW c d (y::r) λp I=>h p (aS _ I);have e:∀z:Str,Str.join z (x::y::r)=x++z++Str.join z (y::r):=λz=>by simp only[Str.join]
  have q:∀u v:Str,(u++v).cps.toList=u.cps.toList++v.cps.toList:=λu v=>by
   change(u.cps++v.cps).toList=_;simp
  rw[e,e,q,q,q,q,bB,bB,J,wF _ (h x ba)];simp
def Xa(l:AA)(c d:Nat):Txt.replace (tx l) (tx [c]) (tx [d])=tx (l.map λa=>if a=c then d else a):=by
 have e:(Txt.replace (tx l) ⟨#[c]⟩ ⟨#[d]⟩).cps.toList=l.map λa=>if a=c then d else a:=by rw[StrLaws.replace_one,<-FW c d _ (StrLaws.split_free (tx l) c),StrLaws.join_split]
 rw[rY (Txt.replace (tx l) (tx [c]) (tx [d]))];exact eS tx e
section
variable {X:Cx}
theorem Xb{o:AO}{to:TE}{y z:Str}{O U:Nat}{py pz apos cpos:Pos}(ho:PE X o to)(hyz:(y==z)=false)
  (g:attributeBase o "replace" X.env (eval o X.env)=eval o X.env:=by rfl)
  (L:((backTo cpos (starEach [.Constant (.str y) O py,.Constant (.str z) U pz] X.env)).all (λx=>!x.1)&&(backToKw cpos (keywordEach [] X.env)).all (λx=>x.1.isSome)
  &&decide (([.Constant (.str y) O py,.Constant (.str z) U pz]:AE)⁻¹+([]:List Keyword)⁻¹+(if([]:List Keyword).isEmpty then 0 else 1)<30))=true:=by rfl)
  (J:(apos.endLine==cpos.line)=true:=by rfl):
  PE1 X (.Call (.Attribute o "replace" apos) [.Constant (.str y) O py,.Constant (.str z) U pz] [] cpos)
   (λY H Q=>to Y H λv H1=>∃x,v=.str x/\x⁻¹+(x⁻¹+1)*z⁻¹<=16777216/\Q (.str (Txt.replace x y z)) H1):=by
 intro p9 s Y H Q h1 I h;show wpAny_Call_method_late g L J rfl (c8 (wpAny_toks_of (n:=1) h1 (ho p9 s Y H _ I h)) (λv N h2=>?_) (λu u e=>e.2));let(t1,v',H1,I1,r1,x,e,hb,q):=h2;subst e;let(t,rfl):=r1;show⟨"str","str.replace",F.plainAttrs_str,F.slot_str_replace,F.type_str_replace,typeIs_str _ _ _,(λu e=>nomatch e),?_⟩;show Calls.callWith_builtin (by rfl) (Calls.evalArgs_plain ?_);change wpAny _ _ (spliced [(false,eval (.Constant (.str y) O py) X.env),(false,eval (.Constant (.str z) U pz) X.env)]) _ _ N;show Calls.spliced_cons (Calls.Constant_str (Calls.spliced_cons (Calls.Constant_str (Calls.spliced_nil ?_))));exact SC.replace (by change @Ne Nat N.toks 0;lia) (by change @Ne Nat (N.toks+1) 0;lia) (by change @Ne Nat N.toks (N.toks+1);lia) hyz hb λt' k=>⟨.str _,H1,I1.tok _,⟨_,rfl⟩,q⟩
end
def Xc{CX:CXT}{P:AK}{w:World}{K:PF}{mg:AH}{base:Heap}{k:Nat}{f:AQ}{name qual:Str}{params:Arguments}{body:AF}{scope:Scope}{dV kV O pm cdv ct oc:AN}{an od:Option AQ}
  {osl:Array (Option AN)} {N:AD} {x:Str} {sp:Sp} (lk:K.lookup f=-⟨oc,od,.func (PySem.W.fnOf name qual params body scope dV kV O pm an cdv ct),osl⟩) (hcd:PySem.W.codeIn K cdv qual) (S:FnScope N [x] scope)
  (hx:scope.names.lookup x=-.local) (hnc:∀y∈scope.names,y.2≠NameKind.cell) (Y:∀n,cellsFrom n scope.names []=[])
  (len:∀vs H Q E,sp vs H Q E->vs⁻¹=[x]⁻¹)
  (L:∀(A:AM)(outer:List Env)(s:AI)(H:Hp)(vs:AR)(Q:VK)(E:XK),Room k (A.deeper (envOfC qual scope (~~~s) f cdv))->sp vs H Q E->
   ∃t,wD (c7 CX P w K mg base N qual scope f cdv A outer s H E) body t/\t {nx:=λp H'=>Q .non H',rt:=Q} (start N vs) H):
  FnOk P w K mg base CX (k+1) f (PySem.W.fnOf name qual params body scope dV kV O pm an cdv ct) [x] sp:=by
 show⟨len,λA outer s H args us vs Q E hr U hb r hsp=>?_⟩;have hl:=len _ _ _ _ hsp;have KX:K.In s.heap:=U.mod.kin.keeps λb o e=>(U.bs b o e).1;have lim:s.heap.NoLimit:=U.mod.nolimit.keeps λb o e=>(U.bs b o e).1;obtain⟨u,rfl⟩:∃u,us=[u]:=by
  have h2:=r⁻¹;rw[hl]at h2;match us,h2 with
  |[u],_=>exact⟨u,rfl⟩
 show codeAny_call_function hr.depth (KX _ _ lk) rfl S.co S.gen rfl (PySem.W.codeRec_of KX hcd) (hb _ _ _ _ ?_);show wpAny_newFunctionEnv (binds:=[x].zip [u]) hnc (λy hy=>?_) (λh' hns hsb=>?_) S.kind
 .have e:y=(x,u):=by simpa using hy
  rw[e];exact hx
 have z:newEnv scope (~~~s) mainGlobals [] (qual++⇑".<locals>.") (-f) cdv none builtinsNs=envOfC qual scope (~~~s) f cdv:=by unfold envOfC newEnv;rw[Y]
 have kp:∀b o,s.heap.get? b=-o->h'.get? b=-o:=λb o e=>hsb.extBut b o (cb (aI e)) (ah _ e);have mEq:bindL (envOfC qual scope (~~~s) f cdv).kindOf ([x].zip [u]) (λp=>none)=λy=>(([x].zip [u]).reverse).lookup y:=by
  funext y;have hk:(envOfC qual scope (~~~s) f cdv).kindOf x=-.local:=hx;change bindL (envOfC qual scope (~~~s) f cdv).kindOf [(x,u)] (λp=>none) y=List.lookup y [(x,u)];unfold bindL;rw[if_pos hk];unfold bindL;by_cases hy:y=x
  .subst hy;simp
  .have:(y==x)=false:=by simpa using hy
   simp[hy,List.lookup_cons,this]
 have xx:InCallC s (~~~s) (bindL (envOfC qual scope (~~~s) f cdv).kindOf ([x].zip [u]) λp=>none) (cellsFrom ((~~~s)+1) scope.names []) (bindC (envOfC qual scope (~~~s) f cdv).kindOf ([x].zip [u]) λp=>none)
   {s with heap:=h',toks:=s.toks+([x].zip [u])⁻¹}:=by
  rw[mEq,Y];exact⟨⟨⟨h',_,rfl⟩,hns,kp,ar _⟩,(λn c e=>by simp at e),List.Pairwise.nil,(λn c e=>nomatch e)⟩
 change _/\codeAny (model P w) A (.func body (newEnv scope (~~~s) mainGlobals [] (qual++⇑".<locals>.") (-f) cdv none builtinsNs)) _ _;rw[z];show⟨lim.keeps kp,codeAny_func ?_⟩;let(t,ht,hq):=L A outer s H vs Q E (hr.deeper _) hsp;have I:Inv (c7 CX P w K mg base N qual scope f cdv A outer s H E) [] (start N vs) H {s with heap:=h',toks:=s.toks+([x].zip [u])⁻¹}:=Eu S hr.hd U hl r xx;show c8 (ht [] _ (start N vs) H _ (Nat.le_add_left 1 s.toks) I hq) (λfl s' hs=>?_) λe s' hs=>hs;have fin:∀{g:St}{H':Hp}{v:V}{u:AN},Inv (c7 CX P w K mg base N qual scope f cdv A outer s H E) [] g H' s'->RelV v u->Q v H'->CE outer P w H s Q u s':=
  λ{g H' v u} J rv q=>⟨v,H',J.os,J.bare,J.base,J.hok,rv,q⟩
 cases fl with
 |ret u=>
  let(v,g,H',J,rv,q):=hs;exact fin J rv q
 |next=>
  let(g,H',J,q):=hs;exact fin (v:=V.non) (u:=Value.none) J rfl q
 |brk=>
  let(_,_,_,q):=hs;exact False.elim q
 |cont=>
  let(_,_,_,q):=hs;exact False.elim q
def Fun.ok1{P:AK}{w:World}{K:PF}{mg:AH}{base:Heap}{x qual:Str}{st:Stmt}{f:AQ}{fd:AJ}{N:AD}{y:Str}{k:Nat}{sp:Sp}(F:Fun K x qual st f fd)(S:FnScope N [y] (ao st))
  (Y:(ao st).names.lookup y=-.local) (J:∀z∈(ao st).names,z.2≠NameKind.cell) (I:∀n,cellsFrom n (ao st).names []=[]) (len:∀vs H Q E,sp vs H Q E->vs⁻¹=[y]⁻¹)
  (g:∀(cdv:AN)(A:AM)(outer:List Env)(s:AI)(H:Hp)(vs:AR)(Q:VK)(E:XK),Room k (A.deeper (envOfC qual (ao st) (~~~s) f cdv))->sp vs H Q E->
   ∃t,wD (c7 CX0 P w K mg base N qual (ao st) f cdv A outer s H E) (aG st) t/\t {nx:=λv H'=>Q .non H',rt:=Q} (start N vs) H):FnOk P w K mg base CX0 (k+1) f fd [y] sp:=by
 let(oc,od,kV,O,pm,an,cdv,ct,osl,rfl,lk,q):=F.ex;exact Xc lk q S Y J I len λA outer s H vs Q E U L=>g cdv A outer s H vs Q E U L
open Builtin Builtin.Str
def Xd{prog:AK}{w:World}{A:AM}(hh:A.handled=none)(it:AQ)(x:Str)(t:Tok):
  Draws prog w A it [it] x.cps.size (λi v=>∃c u,x.cps[i]?=-c/\v=.str ⟨#[c]⟩ u) (λi h=>h.IsStrIter it (strIterType x) x t i):=by
 unfold strIterType;split
 .exact Draws.strAscii hh it x t
 .exact Draws.strWide hh it x t
structure ZApart(z TI TO i1 i2:AQ):Prop where
 TIz:TI≠z
 TOz:TO≠z
 i1z:i1≠z
 i2z:i2≠z
 TITO:TI≠TO
 TIi1:TI≠i1
 TIi2:TI≠i2
 TOi1:TO≠i1
 TOi2:TO≠i2
 i12:i1≠i2
section
variable {X:Cx}
def Ga:∀{bs:List Bool}{us:AB}{i:Nat}{v:AN},Vals (bs.map V.bl) us->us[i]?=-v->∃b,bs[i]?=-b/\v=.bool b
 |[],us,i,v,r,e=>by
  rw[gL]at r;cases r;simp at e
 |b::bs,us,i,v,r,e=>by
  rw[bg]at r;cases r with
  |cons g q=>
   cases i with
   |zero=>
    cases(show _=Value.bool b from g);exact⟨b,rfl,!!e.symm⟩
   |succ i=>exact Ga (i:=i) q (!!e)
def Xe:bootBuiltins "all"=-(.builtin "all"):=by ac_rfl
def Xf:bootBuiltins "zip"=-(.type "zip"):=by ac_rfl
def all_range(bs:List Bool)(n:Nat)(hn:n=bs⁻¹):((List.range n).all λi=>(bs[i]?).getD true)=bs.all id:=by
 subst hn;rw[gt,b9,b9];constructor
 .intro h b q;let(i,hi,e):=List.mem_iff_getElem.mp q;have:=h i (ga.mpr hi);rw[ai hi,e]at this;simpa using this
 .intro h i hi;have g:=ga.mp hi;rw[ai g];simpa using h _ (cq g)
def Xg (hc:X.calm):bD X (.builtin "all") (λxs H Q=>∃(p:AQ) (bs:List Bool),xs=[.ref p]/\SqL X.K H p (bs.map V.bl)/\Q (.bl (bs.all id)) H):=by
 intro p9 s Y H xs us Q I r h;let(p,bs,rfl,hq,q):=h;let(u,rfl,ru):=vals1 r;cases ru;let(g,L,pl,hz):=I.list hq;have hl:=pl.isList;have z:p<(~~~s):=by let(_,e,_):=hl;exact aI e
 show call_all_walk (wpAny_pyIter_list hl ?_);show⟨(~~~s),[(~~~s),p],[(~~~s)],g.toArray.size,_,_,λi=>(bs[i]?).getD true,rfl,Walks.list (A:=X.A.in1) (I.ok.hd hc) _ p (cb z) g.toArray,
  ⟨⟨_,a7 _ rfl,rfl,rfl⟩,hl.push _⟩,λi v s' Q' E' N J=>?_,λh' tk O=>?_⟩
 .let(b,e,rfl):=Ga L (i:=i) (v:=v) (!!N);simp only[e,Option.getD_some]at J;exact e8 J
 .have e:=all_range bs g.toArray.size (by rw[ax,<-L⁻¹,ag]);rw[e];exact⟨.bl _,H,I.kept (λb o q=>O b o (λU=>by rw[al.mp U]at q;exact d0 _ (aI q)) (ah _ q)),rfl,q⟩
def Xh:OpR X (compareOp .Is) (λx y H Q=>∃i j,x=.bl i/\y=.bl j/\Q (.bl (i==j)) H):=by intro p9 s Y H x y v u Q I g z h;let(i,j,rfl,rfl,q):=h;cases g;cases z;exact is_bool ⟨.bl _,H,I,rfl,q⟩
def Xi:bD X (.type "int") (λxs H Q=>∃z n,xs=[.str z]/\PySem.intText? z=-n/\z⁻¹<=640/\Q (.int n) H):=by intro p9 s Y H xs us Q I r h;let(z,n,rfl,hn,hl,q):=h;let(u,rfl,t,rfl):=vals1 r;exact PySem.W.KIN.call_text hn hl ⟨.int n,H,I.tok _,⟨_,rfl⟩,q⟩
def Xj:V->Option Int->Option Int->Hp->VK->Prop:=λx lo hi H Q=>∃z,x=.str z/\z⁻¹<=sizeLine/\Q (.str (Txt.slice z lo hi)) H
theorem Xk:SlR X Xj:=by
 intro p9 s Y H x v U vu lo hi sl Q I O hs pl N h;let(z,rfl,hz,q):=h;let(t,rfl):=O;show⟨"str",_,slot_str_getitem.lookup,typeIs_str _ _ _,?_⟩;obtain⟨l,el,g⟩:∃l:Option (Int×Tok),U=partValue l/\l.map (·.1)=lo:=by
  cases pl with
  |none=>exact⟨none,rfl,rfl⟩
  |int i t=>exact⟨-(i,t),rfl,rfl⟩
 obtain⟨u,L,J⟩:∃u:Option (Int×Tok),vu=partValue u/\u.map (·.1)=hi:=by
  cases N with
  |none=>exact⟨none,rfl,rfl⟩
  |int i t=>exact⟨-(i,t),rfl,rfl⟩
 subst el L g J;show wpAny_getItem_str_slice (l:=l) (u:=u) (st:=none) hs rfl ?_;unfold sliceMade;unfold Txt.slice at q;change(if((1:Int)==1&&(slicePicked z l u none)⁻¹==z⁻¹)=true then Made.val (.str z t) else Made.str ⟨((slicePicked z l u none).filterMap (z.cps[·]?)).toArray⟩).post _ _;have ep:slicePicked z l u none=Builtin.Str.strSliceIndices (l.map (·.1)) (u.map (·.1)) 1 z⁻¹:=rfl;rw[ep];by_cases hc:((1:Int)==1&&(Builtin.Str.strSliceIndices (l.map (·.1)) (u.map (·.1)) 1 z⁻¹)⁻¹==z⁻¹)=true
 .rw[if_pos hc]at q ⊢;exact⟨.str z,H,I,⟨t,rfl⟩,q⟩
 .rw[if_neg hc]at q ⊢;show⟨?_,⟨.str _,H,I.tok _,⟨_,rfl⟩,q⟩⟩;change(List.filterMap _ _).toArray.size<=sizeLine;rw[ax];have h1:=sliceIndices_le (l.map (·.1)) (u.map (·.1)) z⁻¹;have h2:=List.length_filterMap_le (λx=>z.cps[x]?) (Builtin.Str.strSliceIndices (l.map (·.1)) (u.map (·.1)) 1 z⁻¹);lia
end
def Xl{X:Cx}{elt tg iter:AO}{ifs:AE}{scope:Scope}{pos:Pos}{wi:TI}{p9:AC}{s:AI}{Y:St}{H:Hp}{Q:VK}{RR:AN->AQ->Result->AI->Prop}(N':AD)(cap:List (Option Nat))(hc:X.calm)(hi:PI X tg iter wi)(hcap:Caps X scope N' cap)
  (hcell:scope.names.all (λy=>y.2 != NameKind.cell)=true)
  (hfr:scope.names.all (λy=>y.2 != NameKind.free||(X.env.kindOf y.1==-NameKind.cell||X.env.kindOf y.1==-NameKind.free))=true)
  (hkind:scope.kind=.function) (I:Inv X p9 Y H s) (h:FN X N' scope tg ifs elt wi cap Y H Q)
  (fin:∀(D C:AQ)(H':Hp)(s4:AI)(m:AH),Inv X p9 Y H' s4->Q (.ref D) H'->s4.heap.Ns C m->dJ X p9 H' C->RR (.ref D) C (.ok .next) s4):
  ↥X (eval iter X.env) (λx s₁=>↥X (pyIter x) (λit s₂=>↥X (newList []) (λacc s₃=>
   ↥X (newFunctionEnv scope X.env.globals (cu X.env scope.names []) [] X.env.qual none .none (-X.env)) (λcenv s₄=>
    codeAny (model X.prog X.w) X.A (.compStart (.ListComp elt [⟨tg,iter,ifs,0⟩] scope pos) 0 it acc {cenv with scope:=relabel scope X.env}) (RR acc cenv.locals) s₄) X.xe s₃) X.xe s₂) X.xe s₁) X.xe s:=by
 have hcell':∀y∈scope.names,y.2≠NameKind.cell:=λy hy=>by
  have:=b9.mp hcell y hy;simpa using this
 have hfr':∀y∈scope.names,y.2=NameKind.free->(X.env.kindOf y.1=-NameKind.cell\/X.env.kindOf y.1=-NameKind.free):=λy hy hl=>by
  have:=b9.mp hfr y hy;simpa [hl] using this
 have hcs:∀y∈scope.names,y.2=NameKind.free->(X.env.cells.lookup y.1).isSome=true:=λy hy hl=>by
  let(c,e):=I.ok.has y.1 (hfr' y hy hl);rw[e];rfl
 have O:∀x c,(cu X.env scope.names []).lookup x=-c->X.env.cells.lookup x=-c:=wz (λx c e=>by simp at e);have clhas:∀x,scope.names.lookup x=-NameKind.free->∃c,(cu X.env scope.names []).lookup x=-c:=λx e=>by
  have hm:=dv e;exact ce.mp (wA (hcs _ hm rfl) hm)
 have rel:∀x,(relabel scope X.env).names.lookup x=(scope.names.lookup x).map λk=>if(k==NameKind.free&&X.env.scope.kind==.function&&X.env.kindOf x==-.cell)=true then NameKind.cell else k:=λx=>rT
 have relfree:∀x,((relabel scope X.env).names.lookup x=-NameKind.cell\/(relabel scope X.env).names.lookup x=-NameKind.free)->scope.names.lookup x=-NameKind.free:=λx e=>by
  rw[rel x]at e;cases z:scope.names.lookup x with
  |none=>rw[z]at e;rcases e with e|e<;>cases e
  |some k=>
   have nk:=hcell' _ (dv z);rw[z]at e;cases k with
   |free=>rfl
   |cell=>exact absurd rfl nk
   | «local»=>rcases e with e|e<;>simp[show(NameKind.«local»==NameKind.free)=false by decide]at e
   |globalExplicit=>rcases e with e|e<;>simp[show(NameKind.globalExplicit==NameKind.free)=false by decide]at e
   |globalImplicit=>rcases e with e|e<;>simp[show(NameKind.globalImplicit==NameKind.free)=false by decide]at e
 generalize hcl:cu X.env scope.names []=cl at O clhas;show thn (hi p9 s Y H _ I h) λxv s0 h0=>thn h0 λitv N h2=>?_;let(it,fp,tn,J,H2,e,I2,T,st2,f2,W,(m0,w0),turn):=h2;subst e;show ft (wpAny_newFunctionEnv hcell' (by intro y hy;simp at hy) (λh₁ hns₁ hsb₁=>?_) hkind);dsimp only at hns₁ hsb₁ ⊢;generalize hH2:N.heap.push {cls:=.type "list",dict:=none,data:=.seq ([]:AB).toArray}=HP at hns₁ hsb₁ ⊢;have hC:HP.objs.size=N.heap.objs.size+1:=by rw[<-hH2,ez]
 have hDC:N.heap.objs.size≠HP.objs.size:=by rw[hC];exact cb (fv _)
 have U:∀b,b<N.heap.objs.size->b≠HP.objs.size/\b≠N.heap.objs.size:=λb L=>⟨by rw[hC];exact cb (Nat.lt_succ_of_lt L),cb L⟩;have old:∀b o,N.heap.get? b=-o->h₁.get? b=-o:=λb o e=>hsb₁.extBut b o (U b (aI e)).1 (ah _ (hH2 ▸ ah _ e));have hacc:h₁.get? N.heap.objs.size=-{cls:=.type "list",data:=.seq ([]:AB).toArray 0}:=hsb₁.extBut _ _ hDC (ah _ (hH2 ▸ a7 _ rfl));have hst₁:tn 0 h₁:=T.keep _ _ _ st2 λb f o e=>old b o e;have fplt:∀b∈fp,b<N.heap.objs.size:=λb L=>by
  let(o,e,_):=T.obj _ _ st2 b L;exact aI e
 have fslt:∀b∈frs X.stack,b<N.heap.objs.size:=λb L=>by
  let(_,o,e,_):=I2.stack.mem L;exact aI e
 have celllt:∀x c,cl.lookup x=-c->c<N.heap.objs.size:=λx c e=>by
  let(v,q):=I2.cell x c (O x c e);exact q.lt
 have hDf:H2 N.heap.objs.size=none:=I2.hok.fresh (ar _);have hCf:H2 HP.objs.size=none:=I2.hok.fresh (by rw[hC];exact dk _);have nofs:∀b∈fp,b∉frs X.stack:=λb L z=>by
  let(_,f1,f2',_):=f2 b L;rcases bo.mp (I2.stkSub b z) with e|e
  .exact f1 e
  .exact f2' e
 have ok':(X.comp N' scope cl HP.objs.size N H2 fp (X.pn++p9)).Ok:=
  ⟨I2.ok.mod,hkind,I2.ok.glob,I2.ok.blt,(by change N.heap.objs.size<=HP.objs.size;rw[hC];exact dk _),
   λx y c e1 e2=>I2.ok.inj x y c (O x c e1) (O y c e2),λx hx=>clhas x (relfree x hx),λx c hf f=>(by cases hf),I2.ok.hd,I2.ok.frames,.inl rfl,
   λb L=>⟨(U b (fplt b L)).1,λx c e=>(f2 b L).2.2.2.2.1 x c (O x c e)⟩,I2.bs,b3 I2.ok.bsz I2.sz,
   λb o e L=>(by
    rcases(f2 b L).2.2.2.1 with z|z
    .exact I2.ok.noex b o e z
    .exact absurd (bS (aI e) (b3 I2.ok.bsz z)) (d0 _)),
   nofs,I2.stack,I2.stkFree⟩
 have pnOk:∀p∈X.pn++p9,p.1<N.heap.objs.size/\p.1∉frs X.stack:=λp hp=>by
  let(e,_,n1,n2,_):=I2.pin p hp;show⟨aI e,λz=>?_⟩;rcases bo.mp (I2.stkSub _ z) with e|e
  .exact n1 e
  .exact n2 e
 have I0:∀t,Inv (X.comp N' scope cl HP.objs.size N H2 fp (X.pn++p9)) [(N.heap.objs.size,{cls:=.type "list",data:=.seq ([]:AB).toArray 0})] (dh cap Y) H2 {N with heap:=h₁,toks:=t}:=λt=>
  ⟨ok',rfl,I2.bare,Un.kept old,⟨_,hns₁,λi x v e1 e2 f=>by
    let(j,nj,fr,sj):=hcap.at e1 e2;let(m,_,hl):=I2.loc;have hk:=hfr' (x,NameKind.free) (dv fr) rfl;let(u,r,l):=hl j x v nj sj (by rcases hk with hk|hk;exact .inr (.inl hk);exact .inr (.inr hk));show⟨u,r,.inr ⟨?_,?_⟩⟩
    .change (relabel scope X.env).names.lookup x=-.cell\/(relabel scope X.env).names.lookup x=-.free;rw[rel x,fr,eW];by_cases hh:(NameKind.free==NameKind.free&&X.env.scope.kind==ScopeKind.function&&X.env.kindOf x==-NameKind.cell)=true
     .exact .inl (by rw[if_pos hh])
     .exact .inr (by rw[if_neg hh])
    .let(c,ec):=clhas x fr;have ec':=O x c ec;rcases l with⟨k1,_⟩|⟨_,c',e',q⟩
     .rcases hk with hk|hk<;>(rw[hk]at k1;cases k1)
     .have ecc:X.env.cells.lookup x=-c:=ec';rw[e']at ecc;cases ecc;let(o,ho,hd):=q;exact⟨_,ec,o,old _ _ ho,hd⟩⟩,
   λx c e=>(by let(v,o,ho,hd):=I2.cell x c (O x c e);exact⟨v,o,old _ _ ho,hd⟩),hCf,λx c e=>I2.freeC x c (O x c e),
   λp hp=>by
    rcases aE.mp hp with z|z
    .let(e,n0,_,_,d):=I2.pin p z;exact⟨old _ _ e,n0,(U _ (pnOk p z).1).1,(pnOk p z).2,d⟩
    .have e:p=_:=al.mp z;subst e;exact⟨hacc,hDf,hDC,λz=>absurd (fslt _ z) (d0 _),λv z=>by have z':Data.seq _ _=Data.cell v:=z;cases z'⟩,
   I2.hok.kept old,by change(dh cap Y)⁻¹=N'⁻¹;unfold dh;rw[ag];exact hcap.len⟩
 have fpok:∀{H':Hp}{o:Obj},(∀b∈fp,H' b=none)->∀b∈fp,dJ (X.comp N' scope cl HP.objs.size N H2 fp (X.pn++p9)) [(N.heap.objs.size,o)] H' b:=λhn b L=>
  ⟨hn b L,(U b (fplt b L)).1,nofs b L,.inl L,λx c e=>(f2 b L).2.2.2.2.1 x c (O x c e),λp hp=>by
   rcases aE.mp hp with z|z
   .exact (f2 b L).2.2.2.2.2 p z
   .have e:p=_:=al.mp z;subst e;exact Ne.symm (U b (fplt b L)).2⟩
 have loop:∀s₃:AI,s₃={N with heap:=h₁,toks:=N.toks+([]:List (Str×AN))⁻¹}->
   codeAny (model X.prog X.w) X.A (.compLoop (.ListComp elt [⟨tg,iter,ifs,0⟩] scope pos) 0 (.ref it) (.ref N.heap.objs.size) (compEnvC scope cl HP.objs.size X.env))
    (RR (.ref N.heap.objs.size) HP.objs.size) s₃:=by
  rintro s₃ rfl;show W0
   (λk s'=>∃(i:Nat) (ys:AR) (its:AB) (n:Nat) (σ':St) (H':Hp),Inv (X.comp N' scope cl HP.objs.size N H2 fp (X.pn++p9)) [(N.heap.objs.size,{cls:=.type "list",data:=.seq its.toArray n})] σ' H' s'/\Vals ys its/\
    tn i s'.heap/\(∀b∈fp,H' b=none)/\W i k ys σ' H') ?_ m0 ⟨0,[],[],0,_,H2,I0 _,.nil,hst₁,λb L=>(f2 b L).1,w0⟩
  rintro k s3 ⟨i,ys,its,n,σ3,H3,I3,rv3,st3,fr3,w3⟩;rcases turn i k ys σ3 H3 w3 with⟨stop,hz,qn⟩|⟨go,hz,step⟩
  .show thn (T.done (X.comp N' scope cl HP.objs.size N H2 fp (X.pn++p9)) rfl rfl rfl hc i _ s3 σ3 H3 _ I3 (fpok fr3) st3 stop) λr s4 zZ=>?_;let(hr,I4):=zZ;subst hr;let(m,hn,_):=I4.loc;let(pD,nD,_,_,_):=I4.pin (N.heap.objs.size,{cls:=.type "list",data:=.seq its.toArray n}) (ay _ (al.mpr rfl));have nC:H3 HP.objs.size=none:=I4.free;have u:Un (frs X.stack) fp H2 H3 N.heap s4.heap:=I4.base;show fin N.heap.objs.size HP.objs.size (upd H3 N.heap.objs.size (.lst ys)) s4 m ?_ (qn _ nD) hn ?_
   .show I2.call' (s':=s4) (ch:=fp) I4.os ?_ ?_ I4.bare λb L=>⟨(f2 b L).2.2.2.1,(f2 b L).2.1,(f2 b L).2.2.2.2.1,(f2 b L).2.2.2.2.2⟩
    .show ⟨λb o e n0 L hx=>u.keep b o e n0 L hx,λb o e n0 L hx=>u.slot b o e n0 L hx,λb o e n0 hx=>?_,λb o e hx=>u.there b o e hx,λb xs e=>?_,λb o v e=>?_,λb ps e=>?_⟩
     .rw[aA (U b (aI e)).2];exact u.free b o e n0 hx
     .rw[aA (aU e hDf)];exact u.tups b xs e
     .rw[aA (aU e hDf)];exact u.frzs b o v e
     .rw[aA (aU e hDf)];exact u.tbls b ps e
    .intro b o e;by_cases L:b=N.heap.objs.size
     .subst L;rw[bj]at e;cases e;exact⟨hz,its,n,rv3,pD⟩
     .rw[aA L]at e;exact(I4.hok b o e).stay (λc v f q=>q) (λc q=>by rw[aA (aU q nD)];exact q) λc xs q=>by rw[aA (aU q nD)];exact q
   .have hle:N.heap.objs.size<=HP.objs.size:=by rw[hC];exact dk _
    exact I2.fpOk hle (by rw[aA (Ne.symm hDC)];exact nC)
  .show thn (T.item (X.comp N' scope cl HP.objs.size N H2 fp (X.pn++p9)) rfl rfl rfl hc i _ s3 σ3 H3 _ I3 (fpok fr3) st3 go) λr s4 zZ=>?_;let(u,hr,h4):=zZ;subst hr;show thn h4 λf s5 zZ=>?_;let(x,H5,I5,r5,y5,st5,fr5):=zZ;let(g,tt,te,hg,ht,he,body):=step cl HP.objs.size N H2 fp (X.pn++p9);have I5':=I5.pinned (fpok fr5) (T.obj _ _ st5);have tail:∀{σ7:St}{H7:Hp}{s7:AI}{po:Obj},Inv (X.comp N' scope cl HP.objs.size N H2 fp (X.pn++p9)) ([(N.heap.objs.size,po)]++jo fp s5.heap) σ7 H7 s7->tn (i+1) s7.heap/\∀b∈fp,H7 b=none:=λ{σ7 H7 s7 po} I7=>by
    show⟨T.keep _ _ _ st5 λb L o e=>(I7.pin (b,o) (ay _ (ay _ (jq L e)))).1,λb L=>?_⟩;let(o,e,d):=T.obj _ _ st5 b L;exact(I7.pin (b,o) (ay _ (ay _ (jq L e)))).2.1
   show thn (hg _ s5 σ3 H5 x u _ I5' r5 (body x H5 y5)) λf s6 zZ=>?_;let(σ6,H6,I6,q6):=zZ;show thn (ht _ s6 σ6 H6 _ I6 q6) λok s7 zZ=>?_;let(H7,I7,q7):=zZ;cases ok with
   |false=>
    let(m',hm,w7):=q7;let(t7,n7):=tail I7;exact⟨m',hm,i+1,ys,its,n,σ6,H7,I7.unpinned,rv3,t7,n7,w7⟩
   |true=>
    show thn (he _ s7 σ6 H7 _ I7 q7) λv s8 zZ=>?_;let(y,H8,I8,r8,m',hm,w8):=zZ;let(t8,n8):=tail I8;let(pD,nD,_,_,_):=I8.pin (N.heap.objs.size,{cls:=.type "list",data:=.seq its.toArray n}) (ay _ (c6 _ (al.mpr rfl)));have hl:=rv3⁻¹;show append_at (hsz:=by rw[ax];lia) pD λh9 hs9 hD9=>?_;have I8a:Inv (X.comp N' scope cl HP.objs.size N H2 fp (X.pn++p9)) [] σ6 H8 s8:=I8.pins_of λp hp=>nomatch hp;have I9:Inv (X.comp N' scope cl HP.objs.size N H2 fp (X.pn++p9)) [] σ6 H8 {s8 with heap:=h9}:=I8a.turned (t':=s8.toks) (it:=N.heap.objs.size) (λb o L e=>hs9.extBut b o L e) nD hDC (.inr (ar _))
     (λx c e z=>absurd (celllt x c e) (by rw[z];exact d0 _)) (λp hp z=>by
      rcases aE.mp hp with hp|hp
      .exact absurd (pnOk p hp).1 (by rw[z];exact d0 _)
      .exact nomatch hp)
    have hD9':h9.get? N.heap.objs.size=-{cls:=.type "list",data:=.seq (its++[v]).toArray (n+1)}:=by rw[hD9,List.push_toArray]
    show⟨m',hm,i+1,ys++[y],its++[v],n+1,σ6,H8,I9.pins_of λp hp=>?_,rv3.append (.cons r8 .nil),T.keep _ _ _ t8 λb L o e=>hs9.extBut b o (U b (fplt b L)).2 e,n8,w8⟩;have e:p=_:=al.mp hp;subst e;exact⟨hD9',nD,hDC,λz=>absurd (fslt _ z) (d0 _),λv z=>by have z':Data.seq _ _=Data.cell v:=z;cases z'⟩
 exact codeAny_compStart_list (loop _ rfl) (T.self X.A 0 _ _ _ hst₁ (loop _ rfl))
def Xm{X:Cx}{O tg iter:AO}{ifs:AE}{scope:Scope}{pos:Pos}{wi:TI}(N':AD)(cap:List (Option Nat))(hc:X.calm)(hi:PI X tg iter wi)(U:Caps X scope N' cap)
  (N:scope.names.all (λy=>y.2 != NameKind.cell)=true) (J:scope.names.all (λy=>y.2 != NameKind.local||scope.names.lookup y.1==-NameKind.local)=true)
  (hfr:scope.names.all (λy=>y.2 != NameKind.free||(X.env.kindOf y.1==-NameKind.cell||X.env.kindOf y.1==-NameKind.free))=true)
  (g:scope.kind=.function) (hs:∀x,foldedSetIterable iter X.env x=pure x):
  PE X (.ListComp O [⟨tg,iter,ifs,0⟩] scope pos) (FN X N' scope tg ifs O wi cap):=by
 intro p9 s Y H Q I h;have z:∀y∈scope.names,y.2=NameKind.local->scope.names.lookup y.1=-NameKind.local:=λy hy hl=>by
  have:=b9.mp J y hy;simpa [hl] using this
 have hcs:∀y∈scope.names,y.2=NameKind.free->(X.env.cells.lookup y.1).isSome=true:=λy hy hl=>by
  have:=b9.mp hfr y hy;let(c,e):=I.ok.has y.1 (by simpa [hl] using this);rw[e];rfl
 rw[eval_ListComp];show wpAny_comprehension_free (use:=none) (Q:=EP X p9 Y Q) rfl hs (wB hcs) g z
  (Xl (RR:=λacc C=>compPost (model X.prog X.w) X.A X.xe none (EP X p9 Y Q) acc C) N' cap hc hi U N hfr g I h λL C H' s4 m I4 q hn fC=>?_)
 let(f0,f1,f2,f3,f4,f5):=fC;exact⟨m,hn,λh' hs'=>⟨.ref L,H',I4.turned (t':=s4.toks) (it:=C) (λb o hb e=>hs'.extBut b o hb e) f0 f1 f3 f4 f5,rfl,q⟩⟩
section
variable {X:Cx}
def Xo:OpR X (compareOp .IsNot) (λx y H Q=>∃i j,x=.bl i/\y=.bl j/\Q (.bl (i != j)) H):=by intro p9 s Y H x y v u Q I g z h;let(i,j,rfl,rfl,q):=h;cases g;cases z;exact isnot_bool ⟨.bl _,H,I,rfl,q⟩
def Gb:∀us:AB,(∀v∈us,∃x:V,RelV x v)->∃xs,Vals xs us
 |[],_=>⟨[],.nil⟩
 |u::r,h=>by
  let(x,z):=h u ba;let(xs,g):=Gb r λv q=>h v (aS _ q);exact⟨x::xs,.cons z g⟩
end
def noStar:AO->Bool
 |.Starred ..=>false
 |_=>true
def bZ(e:AO)(es:AE)(env:Env)(h:noStar e):starEach (e::es) env=(false,eval e env)::starEach es env:=by cases e<;>first|rfl|cases h
def Itd(lo:Int)(n:Nat):It:=⟨λi z=>i<n,λi H x H'=>H'=H/\x=.int (lo-i),λi z=>n<=i⟩
def Xp{P:AK}{w:World}{K:PF}{tg:AO}(it:AQ)(lo:Int)(n:Nat):Turn P w K tg (Itd lo n) [it] it (λi h=>IsRangeIter h it (lo+(i:Nat)*(Neg.neg 1)) ((n:Int)-(i:Nat)) (Neg.neg 1)) where
 mem:=by simp
 obj:=λi h st b g=>by
  have e:b=it:=by simpa using g
  subst e;exact⟨_,st,λv z=>by
   have z':Data.fields _=Data.cell v:=z;cases z'⟩
 keep:=λi h h' st k=>k it (!2) _ st
 item:=by intro X N hw L hc i p9 s Y H E I J st O;subst N hw L;let(f0,f1,f2,f3,f4,f5):=J it (!2);have W:=Walks.range (prog:=X.prog) (w:=X.w) (I.ok.hd hc) it lo (Neg.neg 1) n;show W.item i s _ _ O st λv h' U hv q kk=>?_;let(t,rfl):=hv;have I1:Inv X p9 Y H {s with heap:=h',toks:=U}:=I.turned (λb o g e=>kk b o (!!g) e) f0 f1 f3 f4 f5;show⟨_,rfl,jn (s:={s with heap:=h',toks:=U}) (n:="range_iterator") q rfl rfl (!1) ⟨.int (lo-i),H,I1,⟨t,?_⟩,⟨rfl,rfl⟩,q,λb g=>(J b g).1⟩⟩;rw[show lo+(i:Int)*(Neg.neg 1)=lo-i by lia]
 done:=by intro X N hw L hc i p9 s Y H E I J st O;subst N hw L;let(f0,f1,f2,f3,f4,f5):=J it (!2);exact wpAny_pyNext_range_end (I.ok.hd hc) st (by have:n<=i:=O;lia) λh' eb=>⟨rfl,I.turned (t':=s.toks) (λb o g e=>eb b o g e) f0 f1 f3 f4 f5⟩
 self:=λy y y y y st h=>wpAny_pyIter_rangeiter st h
section
variable {X:Cx} {tg:AO}
theorem Gd(i j:Int):Builtin.Range.rangeSize i j (Neg.neg 1)=((i-j).toNat:Int):=by unfold Builtin.Range.rangeSize;rw[if_neg (!1),show(Neg.neg (Neg.neg 1):Int)=1 from rfl,Int.ediv_one];split<;>lia
theorem small_down{a b:Int}(z:Neg.neg (2 ^ 62)<=a)(g:a<2 ^ 62)(I:Neg.neg (2 ^ 62)<=b)(q:b<2 ^ 62):Builtin.Range.small a b (Neg.neg 1)=true:=by unfold Builtin.Range.small;rw[Gd];simp only[Builtin.Range.rangeFitsLong,af,dQ,decide_eq_true_eq,a9,show¬((Neg.neg 1:Int) > 0) by decide,if_false];lia
def Xq(ta:TA):TI:=λY H R=>ta Y H λvs H1=>∃i j:Int,vs=[.int i,.int j,.int (Neg.neg 1)]/\(Neg.neg (2 ^ 62)<=i/\i<2 ^ 62/\Neg.neg (2 ^ 62)<=j/\j<2 ^ 62)/\R (Itd i (i-j).toNat) H1
theorem Xr {a b c:AO} {ta:TA} {p pos:Pos} (hg:Gl X "range") (hm:X.mg "range"=none) (ha:PA X [a,b,c] ta) (hs:starEach [a,b,c] X.env=[(false,eval a X.env),(false,eval b X.env),(false,eval c X.env)]:=by rfl) (g:starEach [b,c] X.env=[(false,eval b X.env),(false,eval c X.env)]:=by rfl):
  PI X tg (.Call (.Name "range" p) [a,b,c] [] pos) (Xq ta):=by
 intro p9 s Y H R I h;show Call_ (gh I hg hm boot_range (d6 (thn (ha pos p9 s Y H _ I h) λus J zZ=>?_) (by rw[hs,g]) (by rw[g];rfl)));let(vs,H1,I1,r1,N):=zZ;let(i,j,e,(N,q2,q3,q4),q):=N;subst e;cases r1 with
 |cons r z=>
  cases z with
  |cons r' z=>
   cases z with
   |cons O z=>
    cases z;let(t,rfl):=r;let(t',rfl):=r';let(U,rfl):=O;show call_range_3 (!1) ?_;show wpAny_pyIter_range (IsRange.new ..) (small_down N q2 q3 q4) ?_;rw[Gd];have L:Inv X p9 Y H1 {J with heap:=J.heap.push {cls:=Value.type "range",data:=Data.fields #[Value.int i t,Value.int j t',Value.int (Neg.neg 1) U]},toks:=J.toks}:=I1.kept λb o e=>ah _ e;show⟨_,[_],_,_,H1,rfl,L.kept (t':=J.toks) λb o e=>ah _ e,Xp _ i (i-j).toNat,?_,λb hb=>?_,q⟩
    .change IsRangeIter _ _ (i+((0:Nat):Int)*(Neg.neg 1)) (((i-j).toNat:Int)-((0:Nat):Int)) (Neg.neg 1);rw[show i+((0:Nat):Int)*(Neg.neg 1)=i by lia,show((i-j).toNat:Int)-((0:Nat):Int)=(i-j).toNat by lia];exact a7 _ rfl
    .have e:=al.mp hb;subst e;exact L.fpOk (ar _) (L.hok.fresh (ar _))
end
variable {X:Cx} {e st:AO} {te ts:TE} {p2 pos:Pos}
def holes(h:Heap)(l:List AQ):Heap:={h with objs:=h.objs.mapIdx λi o=>if l.contains i then{o with data:=.freed} else o}
def Ge{h:Heap}{l:List AQ}{b:AQ}:(holes h l).get? b=if l.contains b then none else h.get? b:=by
 unfold holes Heap.get?;simp only[Array.getElem?_mapIdx];cases g:h.objs[b]? with
 |none=>simp
 |some o=>
  cases hc:l.contains b with
  |true=>simp[hc]
  |false=>simp[hc]
def lC{h:Heap}{l:List AQ}{b:AQ}(g:b∈l):(holes h l).get? b=none:=by rw[Ge,bm.mpr g];rfl
def wG{h:Heap}{l:List AQ}{b:AQ}(g:b∉l):(holes h l).get? b=h.get? b:=by
 rw[Ge];cases hc:l.contains b with
 |true=>exact absurd (bm.mp hc) g
 |false=>rfl
def Gf{h:Heap}{l:List AQ}:(holes h l).StaysIn h:=λb o e=>by
 by_cases g:b∈l
 .rw[lC g]at e;cases e
 .rw[wG g]at e;exact e
def ObjOk.at{P:AK}{w:World}{H:Hp}{h:Heap}{a:AQ}{o:HO}(x:ObjOk P w H h a o):∃u,h.get? a=-u:=by
 cases o with
 |lst xs=>let(_,_,_,_,e):=x;exact⟨_,e⟩
 |tup xs=>let(_,_,_,o,e,_):=x;exact⟨_,e⟩
 |dK g=>let(_,_,_,_,o,_,_,e,_):=x;exact⟨_,e⟩
 |dT g=>let(_,_,_,_,o,_,_,e,_):=x;exact⟨_,e⟩
 |set S n=>let(o,_,_,_,e,_):=x;exact⟨_,e⟩
 |ins C dx fs=>let(_,_,_,e,_):=x;exact⟨_,e⟩
 |own y=>exact x
 |xd fs=>let(_,(_,_,_,e,_),_):=x;exact⟨_,e⟩
 |rng lo hi=>let(_,_,_,e):=x;exact⟨_,e⟩
 |frz ob u=>let(e,_):=x;exact⟨_,e⟩
 |tbl ps=>exact⟨_,(show h.get? a=-_ from x)⟩
 |met f y=>exact⟨_,(show h.get? a=-_ from x)⟩
 |ext q=>let(_,e,_):=x;exact e
def HOk.gone{P:AK}{w:World}{H:Hp}{h:Heap}{a:AQ}(x:HOk P w H h)(e:h.get? a=none):H a=none:=by
 cases q:H a with
 |none=>rfl
 |some u=>let(o,g):=(x a u q).at;rw[g]at e;cases e
def Gg{h base:Heap}:∀{l:List Env},h.FunFrames base l->∀b∈frs l,∃o,h.get? b=-o/\∀vs,o.data≠.fields vs
 |[],_,b,g=>by cases g
 |env::l,hf,b,g=>by
  unfold Heap.FunFrames at hf;let(_,(L,o,q,_,z,I),J):=hf;unfold frs at g;rw[fq,q]at g;rcases bo.mp g with rfl|g
  .exact ⟨o,z,I⟩
  .exact Gg J b g
def wH{h base:Heap}{x:List AQ}:∀{l:List Env},h.FunFrames base l->(∀b∈frs l,b∈x)->h.FunFrames (holes h x) l
 |[],_,_=>by unfold Heap.FunFrames;trivial
 |env::l,hf,hx=>by
  unfold Heap.FunFrames at hf ⊢;let(h1,(L,o,g,_,z,I),N):=hf;have J:L∈frs (env::l):=by unfold frs;rw[fq,g];exact ba
  show⟨h1,⟨L,o,g,lC (hx L J),z,I⟩,wH N λb q=>hx b ?_⟩;unfold frs at q ⊢;rw[fq,g];exact aS _ q
def Gi{h base:Heap}{env:Env}{l:List Env}(g:h.FunFrames base (env::l)):∃L,env.frame=-L:=by unfold Heap.FunFrames at g;let(_,(L,o,q,_),_):=g;exact⟨L,q⟩
def Tr(h0:Heap)(H:Hp)(h:Heap)(a:AQ)(c:AN):Prop:=
 ∃g vs T q ts,h.get? a=-g/\g.cls=c/\g.data=.fields vs/\vs[1]?=-(.ref T)/\T≠a/\h.get? T=-q/\q.data=.fields ts/\ts[3]?=-.none/\
  h0.get? a=none/\h0.get? T=none/\H a=none/\H T=none
def CX1(P:AK)(w:World):CXT:=λouter H s E e s'=>
 ∃(a:AQ)(c:AN)(H':Hp),e=.ref a/\s'.os=s.os/\AllBare s'.gens/\Un (frs outer) [] H H' s.heap s'.heap/\HOk P w H' s'.heap/\Tr s.heap H' s'.heap a c/\E c none H'
def Xu{P:AK}{w:World}{fs st:List AQ}{H0 H:Hp}{h0 h h':Heap}{l:List Env}{a:AQ}{xs:List AQ}{c:AN}(un:Un fs [] H0 H h0 h)(hok:HOk P w H h)
  (up:∀b∈fs,b∈st) (Y:∀b o,h0.get? b=-o->b∉fs->b∉st) (fr:∀b∈st,H b=none/\∃o,h.get? b=-o/\∀vs,o.data≠.fields vs)
  (ha:h0.get? a=none) (hHa:H a=none) (N:∀x∈xs,h0.get? x=none/\H x=none)
  (L:(holes h (st++a::xs)).Left l a c h h'):Un fs [] H0 H h0 h'/\HOk P w H h'/\Tr h0 H h' a c:=by
 let(stay,_,tr,slots):=L;have Y:∀b o,h0.get? b=-o->b∉fs->b∉st++a::xs:=by
  intro b o q U g;rcases aE.mp g with g|g
  .exact Y b o q U g
  .rcases bo.mp g with e|e
   .rw[e,ha]at q;cases q
   .rw[(N b e).1]at q;cases q
 have kept:∀b o,h.get? b=-o->b∉st++a::xs->h'.get? b=-o:=λb o e hn=>stay b o (by rw[wG hn];exact e);have trk:∀b o,H b=-o->b∉st++a::xs:=by
  intro b o q g;rcases aE.mp g with g|g
  .rw[(fr b g).1]at q;cases q
  .rcases bo.mp g with e|e
   .rw[e,hHa]at q;cases q
   .rw[(N b e).2]at q;cases q
 have I:∀b:AQ,b∉([]:List AQ):=λb q=>by cases q
 have frd:∀b∈st,∀o,h.get? b=-o->∀vs,o.data≠.fields vs:=by intro b q o ho vs;let(_,o',e1,J):=fr b q;rw[e1]at ho;cases ho;exact J vs
 show⟨⟨?_,?_,?_,?_,un.tups,un.frzs,un.tbls⟩,?_,?_⟩
 .intro b o q hn U _;exact kept b o (un.keep b o q hn U (I b)) (Y b o q U)
 .intro b o q hn U _;let(sl,e):=un.slot b o q hn U (I b);let(sl',e'):=slots b _ e (frd b (up b U) _ e);exact⟨sl',e'⟩
 .intro b o q hn _;exact un.free b o q hn (I b)
 .intro b o q _;let(o',e):=un.there b o q (I b);by_cases g:b∈st++a::xs
  .rcases aE.mp g with h1|h1
   .let(sl',e'):=slots b _ e (frd b h1 _ e);exact⟨_,e'⟩
   .rcases bo.mp h1 with J|J
    .rw[J,ha]at q;cases q
    .rw[(N b J).1]at q;cases q
  .exact ⟨_,kept b o' e g⟩
 .intro b o q;show(hok b o q).stay (λb' u O e=>kept b' u e ?_) (λy z=>z) λy y z=>z;rcases O with rfl|O
  .exact trk _ _ q
  .exact trk _ _ O
 .let(oe,vs,T,oT,ts,t1,t2,t3,t4,t5,t6,t7,t8,t9):=tr;have hT:T∈xs\/h.get? T=none:=by
   by_cases g:T∈st++a::xs
   .rcases aE.mp g with h1|h1
    .exfalso;let(_,o,e1,J):=fr T h1;let(sl,e3):=slots T o e1 J;rw[e3]at t7;cases t7;exact J ts t8
    .rcases bo.mp h1 with J|J
     .exact absurd J t6
     .exact .inl J
   .rw[wG g]at t5;exact .inr t5
  show⟨oe,vs,T,oT,ts,t1,t2,t3,t4,t6,t7,t8,t9,ha,?_,hHa,?_⟩
  .rcases hT with h1|h1
   .exact (N T h1).1
   .cases e:h0.get? T with
    |none=>rfl
    |some o=>let(o',e'):=un.there T o e (I T);rw[e']at h1;cases h1
  .rcases hT with h1|h1
   .exact (N T h1).2
   .exact hok.gone h1
section
variable {X:Cx} {p9:AC} {σ:St} {H:Hp} {s:AI}
def Gj(J:Inv X p9 σ H s)(U:X.stack=X.env::X.outer)(N:X.ex=[]){a:AQ}{xs:List AQ}{c:AN}{E:XK}
  (ha:X.s₀.heap.get? a=none) (I:H a=none) (Y:∀x∈xs,X.s₀.heap.get? x=none/\H x=none)
  {h':Heap} (L:(holes s.heap (frs X.stack++a::xs)).Left (X.env::X.outer) a c s.heap h') (q:E c none H):
  CX1 X.prog X.w X.outer X.H₀ X.s₀ E (.ref a) {s with heap:=h'}:=by
 have sub:=J.stkSub;have z:=J.base;rw[N]at z;have up:∀b∈X.fs,b∈frs X.stack:=by
  intro b g;rw[U];unfold Cx.fs at g;unfold frs at g ⊢;rw[fq];split
  .exact g
  .exact aS _ g
 have old:∀b o,X.s₀.heap.get? b=-o->b∉X.fs->b∉frs X.stack:=by
  intro b o g hf O;rcases bo.mp (sub b O) with e|e
  .have h1:=aI g;have h2:=J.ok.above;rw[e]at h1;exact absurd h1 (Nat.not_lt.mpr h2)
  .exact hf e
 let(u,k,t):=Xu z J.hok up old (λb g=>⟨J.stkFree b g,Gg J.stack b g⟩) ha I Y L;exact⟨a,c,H,rfl,J.os,J.bare,u,k,t,q⟩
def Xv(J:Inv X p9 σ H s)(g:X.stack=X.env::X.outer)(I:X.ex=[]){a:AQ}{c:AN}{E:XK}(t:Tr X.s₀.heap H s.heap a c)(q:E c none H){O:AG}:
  ↥X (leaving X.env (.ref a)) (λy N=>CX1 X.prog X.w X.outer X.H₀ X.s₀ E (.ref a) N) O s:=by
 let(oe,vs,T,oT,ts,t1,t2,t3,t4,t6,t7,t8,t9,n1,n2,n3,n4):=t;have z:=J.stack;rw[g]at z;let(L,U):=Gi z;have sub:∀b∈frs (X.env::X.outer),b∈frs X.stack++a::[T]:=λb Y=>by rw[g];exact c6 _ Y
 show wpAny_leaving_next (base:=holes s.heap (frs X.stack++a::[T])) (cls:=c) (by rw[J.ok.frames,g]) (wH z sub) U ?_ Gf (lC (!2)) λh' hl=>?_
 .exact ⟨oe,vs,T,oT,ts,t1,t2,t3,t4,lC (!2),t6,t7,t8,t9⟩
 .exact Gj J g I n1 n3 (λx hx=>by rw[al.mp hx];exact⟨n2,n4⟩) hl q
def Xw{h':Heap}(I:Inv X p9 σ H s)(g:X.stack=X.env::X.outer)(N:X.ex=[]){a:AQ}{c:AN}{args:AB}{E:XK}(m:s.heap.MadeExcOf h' a c args)(q:E c none H){Y:AG}:
  ↥X (leaving X.env (.ref a)) (λy O=>CX1 X.prog X.w X.outer X.H₀ X.s₀ E (.ref a) O) Y {s with heap:=h'}:=by
 have J:Inv X p9 σ H {s with heap:=h'}:=I.kept (t':=s.toks) m.keeps;have z:=J.stack;rw[g]at z;let(L,hL):=Gi z;have sub:∀b∈frs (X.env::X.outer),b∈frs X.stack++a::[]:=λb hb=>by rw[g];exact c6 _ hb
 let(t,e,_,_):=m.there;have n1:X.s₀.heap.get? a=none:=by
  cases e:X.s₀.heap.get? a with
  |none=>rfl
  |some o=>
   let(o',U):=I.base.there a o e (by rw[N];simp);rw[m.new]at U;cases U
 show wpAny_leaving_first (base:=holes h' (frs X.stack++a::[])) (by rw[J.ok.frames,g]) (wH z sub) hL e Gf (lC (!2)) rfl rfl λh'' hl=>?_;exact Gj J g N n1 (I.hok.gone m.new) (λx hx=>by cases hx) hl q
def Xx{E:XK}(Y:X.stack=X.env::X.outer)(L:X.ex=[])(hxe:∀e s',↥X (leaving X.env e) (λy g=>CX1 X.prog X.w X.outer X.H₀ X.s₀ E e g) (λO g=>CX1 X.prog X.w X.outer X.H₀ X.s₀ E O g) s'->X.xe e s'):
  fL (CX1 X.prog X.w) X E:=by
 intro p9 σ H s e s' I h;let(a,c,H',rfl,ho,hg,un,U,tr,q):=h;have J:Inv X p9 σ H' s':=I.call' (ch:=[]) ho un U hg (λb z=>absurd z (!2));show hxe _ _ (Xv J Y L ?_ q);let(oe,vs,T,oT,ts,t1,t2,t3,t4,t6,t7,t8,t9,n1,n2,n3,n4):=tr;have N:∀b,s.heap.get? b=none->X.s₀.heap.get? b=none:=λb hb=>by
  cases e:X.s₀.heap.get? b with
  |none=>rfl
  |some o=>
   let(o',O):=I.base.there b o e (by rw[L];simp);rw[hb]at O;cases O
 exact⟨oe,vs,T,oT,ts,t1,t2,t3,t4,t6,t7,t8,t9,N a n1,N T n2,n3,n4⟩
def Gk{P:AK}{w:World}(Y:Cx):fL (CX1 P w) Y λz z z=>False:=λz z z z z z z h=>by
 let(_,_,_,_,_,_,_,_,_,q):=h;exact q.elim
end
abbrev veM:AB:=[.type "ValueError",.type "Exception",.type "BaseException",.type "object"]
def Xy:AB->Bool
 |[.type a,.type b,.type c,.type d]=>a=="ValueError"&&b=="Exception"&&c=="BaseException"&&d=="object"
 |_=>false
def Gm:AN->Bool
 |.str _ _=>true
 |_=>false
def nsB(K:PF)(N:AQ):Bool:=match K.lookup N with
 |some ⟨_,_,.dict es _,_⟩=>es.toList.all (λe=>Gm e.key)&&quietNames.all λn=>(nsFind es n).isNone
 |_=>false
def Xz(K:PF)(A:AQ):Bool:=match K.lookup A with
 |some ⟨_,_,.cls cd,_⟩=>nsB K cd.ns
 |_=>false
def wI(K:PF):AB->Bool
 |[]=>false
 |v::tl=>(match v with |.ref A=>Xz K A&&wI K tl|_=>Xy (v::tl))
def isRef(C:AQ):AN->Bool
 |.ref a=>a==C
 |_=>false
def isNew:Option AN->Bool
 |some (.builtin s)=>s=="ValueError.__new__"
 |_=>false
def Gn:AN->Bool
 |.type s=>s=="type"
 |_=>false
def rZ(K:PF)(C:AQ):Bool:=match K.lookup C with
 |some ⟨ty,_,.cls cd,⟨[_,_,_,_,k,_]⟩⟩=>Gn ty&&isNew k&&nsB K cd.ns&&!cd.hasDel&&(match cd.mro with|v::tl=>isRef C v&&wI K tl |[]=>false)
 |_=>false
section
variable {X:Cx}
def digits_le:∀n:Fin 100,(⇑(toString (n.val:Int)))⁻¹<=3:=by ac_rfl
def Throws(X:Cx)(E:XK):Prop:=∀(p9:AC)(Y:St)(H:Hp)(s:AI)(h':Heap)(a:AQ)(c:AN)(args:AB),Inv X p9 Y H s->s.heap.MadeExcOf h' a c args->E c none H->X.xe (.ref a) {s with heap:=h'}
def XC{E:XK}(J:X.stack=X.env::X.outer)(z:X.ex=[])(L:∀e s',↥X (leaving X.env e) (λy g=>CX1 X.prog X.w X.outer X.H₀ X.s₀ E e g) (λN g=>CX1 X.prog X.w X.outer X.H₀ X.s₀ E N g) s'->X.xe e s'):Throws X E:=
 λy y y y y y y y I m q=>L _ _ (Xw I J z m q)
end
section
variable {X:Cx}
variable {p9:AC} {σ:St} {H:Hp} {s:AI}
structure Caught(X:Cx)(H:Hp)(s:AI)(H':Hp)(a:AQ)(c:AN)(s':AI):Prop where
 os:s'.os=s.os
 bare:AllBare s'.gens
 un:Un (frs X.stack) [] H H' s.heap s'.heap
 hok:HOk X.prog X.w H' s'.heap
 tr:Tr s.heap H' s'.heap a c
variable {H':Hp} {a:AQ} {c:AN} {s':AI}
end
open Builtin.ObjectAttr Builtin.Getset_descriptor
open PySem.W (findIn mroIn clsIn typeIn Looks InstAt looks_findIn looks_mroIn looks_typeIn)
def wJ(K:PF)(D:AQ):Bool:=
 findIn K (.ref D) "__class__"==-(-(.builtin "object.__class__"))&&findIn K (.ref D) "__getattribute__"==-(-(.builtin "BaseException.__getattribute__"))&&findIn K (.ref D) "__getattr__"==-none &&
  mroIn K D (.type "object")==-true&&mroIn K D (.type "BaseException")==-true&&(clsIn K D).isSome
open PySem.W (findIn mroIn clsIn typeIn Looks looks_findIn looks_mroIn looks_typeIn)
section
variable {X:Cx}
def XO(H:Hp)(a c:AQ):Prop:=∃o y,H a=-(.frz o (.own y))/\o.cls=.ref c
def valOf:V->AN
 |.ref a=>.ref a
 |.ty n=>.type n
 |_=>.none
end
section
variable {X:Cx}
def XP(X:Cx)(p9:AC)(ex:AN->St->Hp->Prop)(Y:St)(e:AN)(q:AI):Prop:=∃a c H1 g H',e=.ref a/\Inv X p9 Y H1 g/\Caught X H1 g H' a c q/\ex c Y H'
def Gp (K:PF) (C:AQ):Bool:=typeIn K (.ref C)==-(.type "type")&&(clsIn K C).isSome&&mroIn K C (.type "BaseException")==-true
end
open PySem.SeqAt
section
variable {X:Cx}
theorem XD:OpR X (binaryOp .FloorDiv) (rI (λz j=>0<j/\j<1152921504606846976) λi j=>.int (i/j)):=opI λi j z z z z z hc q=>by
 have h1:(0:Int)<j:=hc.1;have h2:j<1152921504606846976:=hc.2;show floordiv_int (!0) (by rw[Int.fdiv_eq_ediv_of_nonneg i (!0)];exact q) (.inl (PyProof.noPylong_of_log2 ?_));have:j.natAbs.log2<60:=(Nat.log2_lt (!0)).mpr (by change j.natAbs<1152921504606846976;lia);lia
def wK(m:Nat):Str:=⇑(toString (m:Int))
theorem XF{m:Nat}(h:m<100):(m:Int).natAbs.log2<1920:=by have:(m:Int).natAbs=m:=Int.natAbs_natCast m;rw[this];exact Nat.lt_of_le_of_lt (Nat.log2_le_self m) (!0)
def XH:bD X (.type "str") (λxs H Q=>∃m:Nat,xs=[.int m]/\m<100/\Q (.str (wK m)) H):=by intro p9 s Y H xs us Q I r h;let(m,rfl,g,q):=h;let(u,rfl,z):=vals1 r;let(t,rfl):=z;exact PySem.P.str_of_int (XF g) ⟨.str _,H,I.tok _,⟨_,rfl⟩,q⟩
end
end L2
namespace HT
open PySem PySem.Spec PyProof.Rows Builtin
end HT
namespace L2
open PySem PySem.Spec PyProof.Rows
section
variable {X:Cx}
def al5(K:PF):R2:=λx y H Q=>∃(l:AQ)(k:Int)(xs:AR),x=.ref l/\y=.int k/\SqT K H l xs/\xs≠[]/\2<=k/\k<=1000/\xs⁻¹*k.toNat<=sizeLine/\∀p,H p=none->Q (.ref p) (upd H p (.tup (List.replicate k.toNat xs).flatten))
end
end L2
namespace HT
open PySem PySem.Spec PyProof.Rows Builtin
def XJ(a:Int)(t:Tok)(l:AQ)(q:Array AN)(n:Nat)(z:Option AQ)(I:Array (Option AN)):
  Meets (Builtin.«int.__rmul__» ⟨[.int a t,.ref l],[]⟩) (λy R s=>s.heap.get? l=-{cls:=.type "list",dict:=z,data:=.seq q n,slots:=I}/\R (.ok (.ret Value.notImplemented)) s):=
 .of_wp λprog w A R s h=>by let(J,g,d,N,L):=s;let(hl,h):=h;wp_walk;exact⟨_,rfl,h⟩
def XM(l:AQ)(q:Array AN)(n:Nat)(I:Option AQ)(N:Array (Option AN))(x:Int)(u:Tok)(J:¬(!Builtin.List.listFitsIndex x))(L:¬q.size*x.toNat > (2 ^ 63-1)/8)(z:¬Builtin.List.listTooLong (q.size*x.toNat)):
  Meets (Builtin.«list.__mul__» ⟨[.ref l,.int x u],[]⟩) (λy R s=>s.heap.get? l=-{cls:=.type "list",dict:=I,data:=.seq q n,slots:=N}/\R (.ok (.ret (Value.ref (~~~s)))) {s with heap:=s.heap.push {cls:=Value.type "list",data:=Data.seq (List.foldl (λO U=>O++U) #[] (List.replicate (if q.isEmpty=true then 0 else x.toNat) q))},toks:=s.toks}):=
 .of_wp λprog w A R s h=>by
  let(Y,g,d,tk,os):=s;let(hl,h):=h;have hsz:=AutoListH.joined_fits z;wp_walk;show wpAny_ite_false (decide_eq_false (Nat.not_lt.mpr hsz)) ?_;wp_walk;exact⟨_,rfl,h⟩
end HT
namespace L2
open PySem PySem.Spec PyProof.Rows
section
variable {X:Cx}
def XN(K:PF):R2:=λx y H Q=>∃(l:AQ)(k:Int)(xs:AR),x=.ref l/\y=.int k/\SqL K H l xs/\0<=k/\k<=1000/\xs⁻¹*k.toNat<=sizeLine/\∀p,H p=none->Q (.ref p) (upd H p (.lst (List.replicate k.toNat xs).flatten))
theorem XQ:OpR X (binaryOp .Mult) (XN X.K):=by
 intro p9 s Y H x y v u Q I rx ry h;let(l,k,xs,rfl,rfl,hH,h1,h2,hz,q):=h;cases rx;let(t,rfl):=ry;let(g,r,((cls,dd,data,sl),n,e,c1,c2,c3),_):=I.list hH;simp only at c1 c2 c3;have hl:=r⁻¹;have N:g.toArray.size*k.toNat<=sizeLine:=by rw[ax,<-hl];exact hz
 have J:¬g.toArray.size*k.toNat > (2 ^ 63-1)/8:=by
  have:(sizeLine:Nat)<=(2 ^ 63-1)/8:=by decide
  lia
 have L:¬(!Builtin.List.listFitsIndex k)=true:=by rw[fitsIndex_both (!0) (!0)];exact bq
 have z:¬Builtin.List.listTooLong (g.toArray.size*k.toNat)=true:=by rw[Fv N];exact bq
 have O:List.foldl (λx1 x2=>x1++x2) #[] (List.replicate (if g.toArray.isEmpty=true then 0 else k.toNat) g.toArray)=(List.replicate k.toNat g).flatten.toArray:=by
  have f0:∀m:Nat,List.foldl (λx1 x2=>x1++x2) #[] (List.replicate m g.toArray)=(List.replicate m g).flatten.toArray:=λm=>by
   have:=foldl_rep g m [];rw[List.nil_append]at this;exact this
  rw[f0];cases g with
  |nil=>simp
  |cons a r'=>rw[if_neg (!2)]
 subst c1 c3;show wpAny_binaryOp_repeat_ref (T:="list") (U:="int") (!1) ⟨_,e,rfl⟩ (λs'=>typeIs_int s' k t) noFill_list_mul F.fills_int_mul F.slot_int_rmul repeat_list F.slot_int_index.lookup
  (call_meets F.slot_int_rmul (typeIs_int s k t) F.entry_int_rmul (F.args_int_rmul_2 _ _) (HT.XJ k t l g.toArray n dd sl)
   ⟨e,rfl,⟨_,e,rfl⟩,call_meets F.slot_list_mul ⟨_,e,rfl⟩ F.entry_list_mul (F.args_list_mul_2 _ _) (HT.XM l g.toArray n dd sl k t L J z) ⟨e,?_⟩⟩)
 rw[O];exact⟨.ref _,_,I.lnew (t':=s.toks) (r.rep k.toNat) (by rw[len_rep,Nat.mul_comm];exact hz),rfl,q _ I.fresh⟩
end
end L2
namespace PySem
def XS:plainId "list.__iadd__"=true:=by ac_rfl
def XX:plainId "proto.collect"=true:=by ac_rfl
def X3{prog:AK}{w:World}{A:AM}{R:Result->AI->Prop}{s:AI}{r:AQ}{a b c:Int}{t u v:Tok}{n:Nat}(hh:A.handled=none)(hr:IsRange s.heap r a b c t u v)(q:Builtin.Range.small a b c)
  (hn:Builtin.Range.rangeSize a b c=n) (I:n<=2 ^ 24)
  (O:∀h' N g J,(∀b o,s.heap.get? b=-o->h'.get? b=-o)->h'.get? (~~~s)=-{cls:=.type "list",dict:=none,data:=.seq g J,slots:=#[]}->ItemsOf (λi v=>∃t,v=.int (a+i*c) t) g n->R (.ok (.ret (.ref (~~~s)))) {s with heap:=h',toks:=N}):
  codeAny (model prog w) A (.builtin "proto.collect" ⟨[.ref r],[]⟩) R s:=by
 show codeAny_builtin PyProof.Rows.entry_proto_collect' ?_;rw[Around.under_plainId XX _];change wpAny _ _ (do again (.builtin "list.__iadd__" ⟨[<-newList [],.ref r],[]⟩)) _ _ s;show wpAny_bind (wpAny_newList (wpAny_pure ⟨Code.quiet_builtin _ (by ac_rfl),codeAny_builtin PyProof.Rows.entry_list_iadd' ?_⟩));rw[Around.under_plainId XS _];have U:(s.heap.push {cls:=.type "list",data:=.seq #[]}).get? (~~~s)=-{cls:=.type "list",data:=.seq #[]}:=Heap.get?_push_size _ rfl;exact wpAny_extend_range (R:=R) (s:={s with heap:=s.heap.push {cls:=.type "list",data:=.seq #[]}}) hh (Heap.get?_push_of_some _ hr) q hn I (~~~s) (.ref (~~~s)) _ U λh' N g J Y L z=>
  O h' N g J (λb o e=>Y b o (Nat.ne_of_lt (Heap.lt_size e)) (Heap.get?_push_of_some _ e)) L z
open AutoSeq1 (wpAny_loadPart') in
def X4(r:AQ)(lo hi:Int)(t u v:Tok)(n:Nat)(z:Builtin.Range.small lo hi 1)(hn:Builtin.Range.rangeSize lo hi 1=n)(U:n<=1000):
  Meets (Builtin.«tuple.__new__» ⟨[.type "tuple",.ref r],[]⟩)
   (λA R s=>A.handled=none/\IsRange s.heap r lo hi 1 t u v/\∀(h':Heap) (N:Nat) (q:Array AN),(∀b o',s.heap.get? b=-o'->h'.get? b=-o')->ItemsOf (λi v=>∃t,v=.int (lo+i*1) t) q n->R (.ok (.ret (.ref h'.objs.size))) {s with heap:=h'.push {cls:=.type "tuple",data:=.seq q},toks:=N}):=
 .of_wp λprog w A R s h=>by
  let(hp,g,d,N,os):=s;let(hh,ht,h):=h;have Y:=sub_tuple_self;have L:=init_tuple_lookup;have hmh:=madeHere_tuple;have hT:Shared.TypeIs ⟨hp,g,d,N,os⟩ (.ref r) "range":=⟨_,ht,rfl⟩;wp_walk using wpAny_loadPart' ht,wpAny_typeOf hT
  show X3 (A:=A.in1) hh ht z hn (!0) λh' O q c' hk J I=>?_;dsimp only;show wpAny_bind (wpAny_load J (wpAny_pure ?_));change wpAny _ _ (Builtin.Tuple.tupleExact q.toList.toArray >>= λv=>ret v) _ _ _;unfold Builtin.Tuple.tupleExact;show wpAny_bind (wpAny_newObj_type ?_ (by change q.toList.toArray.size<=sizeLine;rw[show q.toList.toArray=q by simp,I.1,sizeLine_eq];lia));show wpAny_pure ⟨_,rfl,?_⟩;have e:q.toList.toArray=q:=by simp
  rw[e];exact h h' O q hk I
def X5{prog:AK}{w:World}{A:AM}{E:AG}{s:AI}{Q:AG}{r:AQ}{lo hi:Int}{t u v:Tok}{n:Nat}(hh:A.handled=none)(N:IsRange s.heap r lo hi 1 t u v)(q:Builtin.Range.small lo hi 1)(hn:Builtin.Range.rangeSize lo hi 1=n)(z:n<=1000)
  (h:∀(h':Heap) (I:Nat) (g:Array AN),(∀b o',s.heap.get? b=-o'->h'.get? b=-o')->ItemsOf (λi v=>∃t,v=.int (lo+i*1) t) g n->Q (.ref h'.objs.size) {s with heap:=h'.push {cls:=.type "tuple",data:=.seq g},toks:=I}):
  wpAny (model prog w) A (call (.type "tuple") [.ref r]) Q E s:=
 callType_new F.called_tuple (!1) (F.typeCall_tuple_1 _) (F.newCall_tuple_1 _) (λobj=>F.args_object_init_2 obj _) F.entry_tuple_new
  (X4 r lo hi t u v n q hn z) ⟨hh,N,λh' I g L J=>⟨⟨_,Heap.get?_push_size _ rfl,rfl⟩,h h' I g L J⟩⟩
end PySem
namespace L2
open PySem PySem.Spec PyProof.Rows
section
variable {X:Cx}
theorem Gq{q:Array AN}{n:Nat}(h:ItemsOf (λi v=>∃t,v=.int (0+i*1) t) q n):Vals ((List.range n).map λi=>V.int (i:Nat)) q.toList:=by
 have hz:=h.1;let(ys,I):=Gb q.toList λv I=>by
  let(j,Y,O):=List.mem_iff_getElem.mp I;have J:q[j]?=-v:=by rw[<-eR,ai Y,O]
  let(t,e):=h.2 j v J;exact⟨.int (0+j*1),t,e⟩
 have hl:ys⁻¹=n:=by rw[I⁻¹,cK,hz]
 have e:ys=(List.range n).map λi=>V.int (i:Nat):=by
  show List.ext_getElem? λi=>?_;by_cases hi:i<n
  .obtain ⟨y,N⟩:∃y,ys[i]?=-y:=⟨_,ai (!0)⟩;let(w,U,g):=I.get N;let(t,e):=h.2 i w (by rw[<-eR];exact U);rw[N,a8,List.getElem?_range hi,eW];subst e;cases y with
   |int k=>
    let(t',L):=(show ∃t',Value.int (0+i*1) t=Value.int k t' from g);simp only[Value.int.injEq]at L;rw[<-L.1];simp
   |non=>cases(show Value.int _ _=Value.none from g)
   |bl b=>cases(show Value.int _ _=Value.bool b from g)
   |str x=>let(_,z):=(show ∃t',Value.int _ _=Value.str x t' from g);cases z
   |byt x=>let(_,z):=(show ∃t',Value.int _ _=Value.bytes x t' from g);cases z
   |flt x=>let(_,z):=(show ∃t',Value.int _ _=Value.float x t' from g);cases z
   |ref a=>cases(show Value.int _ _=Value.ref a from g)
   |ty a=>cases(show Value.int _ _=Value.type a from g)
  .rw[g6 (!0),g6 (by simp;lia)]
 rw[<-e];exact I
def Gs {a:AO} {ta:TA} {p pos:Pos} (N:Gl X "range") (O:X.mg "range"=none) (L:PA X [a] ta) (hs:starEach [a] X.env=[(false,eval a X.env)]:=by rfl):
  PE X (.Call (.Name "range" p) [a] [] pos) (λY H Q=>ta Y H λvs H1=>∃j:Int,vs=[.int j]/\∀r,H1 r=none->Q (.ref r) (upd H1 r (.rng 0 j))):=by
 intro p9 s Y H Q I h;show Call_ (gh I N O boot_range (d6 (thn (L pos p9 s Y H _ I h) λus J zZ=>?_) hs rfl));let(vs,H1,g,r1,U):=zZ;let(j,e,q):=U;subst e;cases r1 with
 |cons r rr=>
  cases rr;let(t,rfl):=r;exact call_range_1 ⟨.ref J.heap.objs.size,_,g.laid (t':=J.toks+1+1) (λb u z=>ah _ z) (ar _) (show ObjOk X.prog X.w _ _ _ (.rng 0 j) from⟨_,_,_,a7 _ rfl⟩),rfl,q _ (g.hok.fresh (ar _))⟩
theorem Gu(n:Nat):Builtin.Range.rangeSize 0 (n:Int) 1=n:=by rw[rangeSize_one];split<;>lia
theorem X6 (hc:X.calm):bD X (.type "list") (λxs H Q=>∃(r:AQ) (n:Nat),xs=[.ref r]/\H r=-(.rng 0 n)/\n<=1000/\∀l,H l=none->Q (.ref l) (upd H l (.lst ((List.range n).map λi=>V.int (i:Nat))))):=by
 intro p9 s Y H xs us Q I r h;let(p,n,rfl,L,hn,q):=h;let(u,rfl,O):=vals1 r;cases O;let(t1,t2,t3,J):=(show ObjOk X.prog X.w H s.heap p (.rng 0 n) from I.hok p _ L);show call_list_range (I.ok.hd hc) J (small_one (!1) (!1) (!0) (!0)) (Gu n) (!0) λh' U g z kp e hi=>?_;have N:=Gq hi;have hl:((List.range n).map λi=>V.int (i:Nat))⁻¹<=sizeLine:=by rw[ag,cp,ff];lia
 exact⟨.ref (~~~s),_,I.laid (t':=U) kp (ar _) (show ObjOk X.prog X.w _ h' _ (.lst _) from⟨hl,g.toList,z,N,by rw[Array.toArray_toList];exact e⟩),rfl,q _ (I.hok.fresh (ar _))⟩
theorem X7 (hc:X.calm):bD X (.type "tuple") (λxs H Q=>∃(r:AQ) (n:Nat),xs=[.ref r]/\H r=-(.rng 0 n)/\n<=1000/\∀l,H l=none->Q (.ref l) (upd H l (.tup ((List.range n).map λi=>V.int (i:Nat))))):=by
 intro p9 s Y H xs us Q I r h;let(p,n,rfl,O,hn,q):=h;let(u,rfl,rx):=vals1 r;cases rx;let(t1,t2,t3,N):=(show ObjOk X.prog X.w H s.heap p (.rng 0 n) from I.hok p _ O);show X5 (I.ok.hd hc) N (small_one (!1) (!1) (!0) (!0)) (Gu n) hn λh' z g kp hi=>?_;have U:=Gq hi;have hl:((List.range n).map λi=>V.int (i:Nat))⁻¹<=sizeLine:=by rw[ag,cp,ff];lia
 have J:Inv X p9 Y H {s with heap:=h',toks:=z}:=I.kept (t':=z) kp;have L:Inv X p9 Y (upd H h'.objs.size (.tup ((List.range n).map λi=>V.int (i:Nat)))) {s with heap:=h'.push {cls:=.type "tuple",data:=.seq g},toks:=z}:=
  J.laid (t':=z) (λb o e=>ah _ e) (ar _) (show ObjOk X.prog X.w _ _ _ (.tup _) from⟨hl,g.toList,U,by have:=IsTupX.new h' g.toList.toArray;rwa [Array.toArray_toList]at this⟩)
 exact⟨.ref h'.objs.size,_,L,rfl,q _ (J.hok.fresh (ar _))⟩
end
end L2
namespace PyProof.Rows
open PySem
def X8 {prog:AK} {w:World} {A:AM} {E:AG} {s:AI} {it:AQ} {T:AL} {o:Obj} {g:AB} {n:Nat} {ns:List Int} {Q:AG} (hT:T="list"\/T="tuple")
  (ho:s.heap.get? it=-o) (hc:o.cls=.type T) (hd:o.data=.seq g.toArray n) (Y:IntsAre g ns) (J:g⁻¹<64)
  (h:∀(h1 h':Heap) (e:Nat) (out:Array AN) (q:List Int),IntsAre out.toList q->q.Perm ns->q.Pairwise (·<=·)->(∀b o',s.heap.get? b=-o'->h1.get? b=-o')->(∀b o',h1.get? b=-o'->h'.get? b=-o')->h'.get? h1.objs.size=-(seqObj "list" out e)->Q (.ref h1.objs.size) {s with heap:=h'}):
  wpAny (model prog w) A (call (.builtin "sorted") [.ref it]) Q E s:=by
 show Calls.call_function_entry kind_sorted plain_sorted entry_sorted (args_sorted1 _) ?_;unfold Builtin.«sorted»;show wpAny_bind (m:=checkCount "sorted" 1 1 _) (wpAny_pure ?_);show wpAny_bind (wpAny_collect_seq it hT ho hc hd (λh1 k1=>?_) (by rw[List.size_toArray,sizeLine_eq];lia));show wpAny_bind (wpAny_newList ?_);have U:g.toArray.toList=g:=by simp
 rw[U];have I:(h1.push (seqObj "list" g.toArray 0)).get? h1.objs.size=-(seqObj "list" g.toArray 0):=Heap.get?_push_size _ rfl;change wpAny _ _ _ _ _ {s with heap:=h1.push (seqObj "list" g.toArray 0)};show wpAny_bind (wpAny_holding (wpAny_call_entry slot_list_sort ⟨_,I,rfl⟩ entry_list_sort (list_sort_tree I Y J λout q L N O=>⟨_,rfl,?_⟩) (args_list_sort _)));let(e,he):=sortedHeap_at (vs:=g) (out:=out) I;show wpAny_pure ⟨_,rfl,h h1 _ e out q L N O k1 (λb o' z=>?_) he⟩;rw[sortedHeap_old (Nat.ne_of_lt (Heap.lt_size z)) (by rw[size_push'];exact Nat.lt_succ_of_lt (Heap.lt_size z))];exact Heap.get?_push_of_some _ z
end PyProof.Rows
namespace L2
open PySem PySem.Spec PyProof.Rows
def Yb {X:Cx}:bD X (.builtin "sorted") (λxs H Q=>∃(p:AQ) (ns:List Int),xs=[.ref p]/\SqT X.K H p (ns.map V.int)/\ns⁻¹<64/\∀g:List Int,g.Perm ns->g.Pairwise (·<=·)->∀l,H l=none->Q (.ref l) (upd H l (.lst (g.map V.int)))):=by
 intro p9 s Y H xs us Q I r h;let(p,ns,rfl,hq,h64,q):=h;let(u,rfl,ru):=vals1 r;cases ru;let(z,O,(o,ho,hc,n,hd),hz):=I.tuple hq;have N:z⁻¹=ns⁻¹:=by rw[<-O⁻¹];simp
 show X8 (.inr rfl) ho hc hd (intsAre_of O) (!0) λh1 h' e out g U L a3 k1 k2 he=>?_;have J:Inv X p9 Y H {s with heap:=h1}:=I.kept (t':=s.toks) k1;have hsz:(g.map V.int)⁻¹<=sizeLine:=by rw[ag,L.length_eq,ff];lia
 exact⟨.ref h1.objs.size,_,J.laid (t':=s.toks) k2 (ar _) (show ObjOk X.prog X.w _ _ _ (.lst (g.map V.int)) from⟨hsz,out.toList,e,ww U,by rw[Array.toArray_toList];exact he⟩),rfl,q g L a3 _ (J.hok.fresh (ar _))⟩
section
variable {prog:AK} {w:World} {A:AM} {R:Result->AI->Prop} {s:AI}
def iy(e:AO)(d:Nat)(g iter:AO)(z:AN->Env->Sem Fin->Sem Fin):Prop:=
 ∀it q env,compTurn e d it q env=(standAt iter.pos >>= λy=>pyNext it >>= λr=>match r with
   |none=>pure (.done .next)
   |some v=>letOwnedTupleGo g it v >>= λy=>assign g env v >>= λy=>z q env (again (.compLoop e d it q env)))
def emE (q:AO) (g:AN) (env:Env) (k:Sem Fin):Sem Fin:=(eval q env >>= λx=>call (.builtin "list.append") [g,x] >>= λz=>pure ()) >>= λz=>k
def emG(e:AO)(d:Nat)(iter:AO)(g:AN)(env:Env)(k:Sem Fin):Sem Fin:=
 eval iter env >>= λx=>standAt iter.pos >>= λz=>foldedSetIterable iter env x >>= λx=>holding [x] (pyIter x) >>= λit=>runOwn (.compStart e d it g env) env >>= λz=>k
def al6(g I q L z N J:AO)(scope:Scope)(pos:Pos):iy (.ListComp g [⟨I,q,[],0⟩,⟨L,z,[],0⟩,⟨N,J,[],0⟩] scope pos) 0 I q (emG (.ListComp g [⟨I,q,[],0⟩,⟨L,z,[],0⟩,⟨N,J,[],0⟩] scope pos) 1 z):=λy y y=>rfl
def Yc{U:AO}{gens:List Comprehension}{scope:Scope}{pos:Pos}{d:Nat}{g iter:AO}{em:AN->Env->Sem Fin->Sem Fin}{it O:AN}{env:Env}(hT:iy (.ListComp U gens scope pos) d g iter em)(I:Nat->AI->Prop)
  (turn:∀n s,I n s->wpAny (model prog w) A (pyNext it) (λr q=>match r with
   |none=>R (.ok .next) q
   |some v=>wpAny (model prog w) A (letOwnedTupleGo g it v) (λy z=>wpAny (model prog w) A (assign g env v) (λy L=>
     ∀(k:Sem Fin)(Q:Fin->AI->Prop)(E:AG),(∀N,(∃m,m<n/\I m N)->wpAny (model prog w) A k Q E N)->wpAny (model prog w) A (em O env k) Q E L) (λy y=>False) z) (λy y=>False) q) (λy y=>False) s)
  (n:Nat) (h:I n s):codeAny (model prog w) A (.compLoop (.ListComp U gens scope pos) d it O env) R s:=by
 show codeAny_loop rfl I (λn s hI=>?_) n h;change wpAny _ A ((compTurn (.ListComp U gens scope pos) d it O env).onRaise (λx=>do noteFrame x env;theTreesLotGoes x)) _ _ s;show wpAny_noted ?_;rw[hT];show ae (hU (ae (c8 (turn n s hI) (λr q J=>?_) λy y h'=>False.elim h')));cases r with
 |none=>exact aw J
 |some v=>
  show ae (c8 J (λy z Y=>?_) λy y h'=>False.elim h');exact ae (c8 Y (λy L h₂=>h₂ _ _ _ λs₃ h₃=>aw ⟨rfl,h₃⟩) λy y h'=>False.elim h')
end
abbrev TM:=AR->St->Hp->(AR->St->Hp->Prop)->Prop
def lob (g:AB) (n:Nat):Obj:={cls:=.type "list",data:=.seq g.toArray n}
structure AccOk(X:Cx)(a:AQ):Prop where
 new:a∈X.ex\/X.s₀.heap.objs.size<=a
 cel:∀x c,X.env.cells.lookup x=some c->c≠a
 pin:∀p∈X.pn,p.1≠a
def PM(X:Cx)(lim:Bool)(a:AQ)(I:Sem Fin->Sem Fin)(t:TM):Prop:=
 ∀(p9:AC)(g:AB)(n:Nat)(ys:AR)(Y:St)(H:Hp)(s:AI)(K:AR->St->Hp->Prop),Inv X ((a,lob g n)::p9) Y H s->(∀p∈p9,p.1≠a)->Vals ys g->(lim=true->ys⁻¹<sizeLine)->t ys Y H K->
  ∀(k:Sem Fin)(Q:Fin->AI->Prop)(E:AG),(∀s' its' J q z H',Inv X ((a,lob its' J)::p9) z H' s'->Vals q its'->K q z H'->↥X k Q E s')->↥X (I k) Q E s
def tmE(te:TE):TM:=λys Y H K=>ys⁻¹<sizeLine/\te Y H λy H'=>K (ys++[y]) Y H'
def Yd{X:Cx}{a:AQ}{J:AO}{te:TE}(hx:X.xe=λx x=>False)(ha:AccOk X a)(he:PE X J te):PM X false a (emE J (.ref a) X.env) (tmE te):=by
 intro p9 q n ys Y H s K I hp rv _ h kk Q E hk;let(hz,h):=h;have h0:=he _ s Y H _ I h;rw[hx]at h0;show ae (ae (c8 h0 (λv s8 h8=>?_) λx x z=>False.elim z));let(y,N,O,r8,k8):=h8;let(pD,nD,lD,fD,cD):=O.pin (a,lob q n) (ay _ ba);have hl:=rv⁻¹;show ae (append_at (hsz:=by rw[ax];lia) pD λh9 hs9 hD9=>aw ?_);have U:Inv X p9 Y N s8:=O.pins_of λp hp=>O.pin p (ay _ (aS _ hp));have I9:Inv X p9 Y N {s8 with heap:=h9}:=U.turned (t':=s8.toks) (it:=a) (λb o hb e=>hs9.extBut b o hb e) nD lD ha.new ha.cel (λp g=>by
  rcases aE.mp g with z|z
  .exact ha.pin p z
  .exact hp p z)
 have L:h9.get? a=-(lob (q++[v]) (n+1)):=by rw[hD9,List.push_toArray];rfl
 show hk _ (q++[v]) (n+1) (ys++[y]) Y N (I9.pins_of λp g=>?_) (rv.append (.cons r8 .nil)) k8;rcases bo.mp g with e|z
 .subst e;exact⟨L,nD,lD,fD,λv z=>by have z':Data.seq _ _=Data.cell v:=z;cases z'⟩
 .exact I9.pin p (ay _ z)
def emT(z:AE)(q:AO)(g:AN)(env:Env)(k:Sem Fin):Sem Fin:=
 (forIn z true λc r=>if r=true then do let ok <-isTrue c env (eval c env);pure (ForInStep.yield ok) else pure (ForInStep.yield r)) >>= λok=>if ok=true then emE q g env k else k
def Gv(g tg iter:AO)(q:AE)(scope:Scope)(pos:Pos):iy (.ListComp g [⟨tg,iter,q,0⟩] scope pos) 0 tg iter (emT q g):=λz z z=>rfl
def tmT(z:TT)(te:TE):TM:=λys Y H K=>z Y H λb g=>if b=true then te Y g λy q=>K (ys++[y]) Y q else K ys Y g
def Ye{X:Cx}{a:AQ}{g:AO}{q:AE}{tt:TT}{te:TE}(U:X.xe=λy y=>False)(ha:AccOk X a)(ht:PIf X q tt)(he:PE X g te):PM X true a (emT q g (.ref a) X.env) (tmT tt te):=by
 intro p9 J n ys Y H s K I hp rv hl h kk Q E O;have h0:=ht _ s Y H _ I h;rw[U]at h0;show ae (c8 h0 (λb s4 h4=>?_) λy y z=>False.elim z);let(L,N,q4):=h4;cases b with
 |false=>exact O s4 J n ys Y L N rv q4
 |true=>exact Yd U ha he p9 J n ys Y L s4 K N hp rv (λz=>nomatch z) ⟨hl rfl,q4⟩ kk Q E O
def al7(g J z L I:AO)(q:AE)(scope:Scope)(pos:Pos):iy (.ListComp g [⟨J,z,[],0⟩,⟨L,I,q,0⟩] scope pos) 0 J z (emG (.ListComp g [⟨J,z,[],0⟩,⟨L,I,q,0⟩] scope pos) 1 I):=λy y y=>rfl
def Gw(lim:Bool)(X:Cx)(N':AD)(scope:Scope)(tg:AO)(em:AN->Env->Sem Fin->Sem Fin)(J:It)(U:St)(H1:Hp)(Q:VK):Prop:=
 ∃W:Nat->Nat->AR->St->Hp->Prop,(∃m,W 0 m [] U H1)/\∀i m ys I H',W i m ys I H'->
  (J.stop i H'/\ys⁻¹<=sizeLine/\∀D,H' D=none->Q (.ref D) (upd H' D (.lst ys)))\/
  (J.go i H'/\(lim=true->ys⁻¹<sizeLine)/\∀L C z q N pn,∃g tm,PG (X.comp N' scope L C z q N pn) tg g/\(∀a,AccOk (X.comp N' scope L C z q N pn) a->PM (X.comp N' scope L C z q N pn) lim a (em (.ref a) (X.comp N' scope L C z q N pn).env) tm)/\
   ∀x H2,J.yld i H' x H2->g x I H2 λY H3=>tm ys Y H3 λO σ4 H4=>∃m',m'<m/\W (i+1) m' O σ4 H4)
def wL(lim:Bool)(X:Cx)(N':AD)(scope:Scope)(tg:AO)(g:AN->Env->Sem Fin->Sem Fin)(q:TI)(cap:List (Option Nat)):TE:=λY H Q=>q Y H λJ H1=>Gw lim X N' scope tg g J (dh cap Y) H1 Q
def Gx{X:Cx}{elt tg iter:AO}{ifs:AE}{lim:Bool}{rest:List Comprehension}{em:AN->Env->Sem Fin->Sem Fin}{scope:Scope}{pos:Pos}{wi:TI}{p9:AC}{s:AI}{Y:St}{H:Hp}{Q:VK}{RR:AN->AQ->Result->AI->Prop}(N':AD)(cap:List (Option Nat))(hc:X.calm)(hi:PI X tg iter wi)(hcap:Caps X scope N' cap)
  (hcell:scope.names.all (λy=>y.2 != NameKind.cell)=true)
  (hfr:scope.names.all (λy=>y.2 != NameKind.free||(X.env.kindOf y.1==-NameKind.cell||X.env.kindOf y.1==-NameKind.free))=true)
  (hkind:scope.kind=.function) (hT:iy (.ListComp elt (⟨tg,iter,ifs,0⟩::rest) scope pos) 0 tg iter em) (I:Inv X p9 Y H s) (h:wL lim X N' scope tg em wi cap Y H Q)
  (fin:∀(D C:AQ)(H':Hp)(s4:AI)(m:AH),Inv X p9 Y H' s4->Q (.ref D) H'->s4.heap.Ns C m->dJ X p9 H' C->RR (.ref D) C (.ok .next) s4):
  ↥X (eval iter X.env) (λx s₁=>↥X (pyIter x) (λit s₂=>↥X (newList []) (λacc s₃=>
   ↥X (newFunctionEnv scope X.env.globals (cu X.env scope.names []) [] X.env.qual none .none (-X.env)) (λcenv s₄=>
    codeAny (model X.prog X.w) X.A (.compStart (.ListComp elt (⟨tg,iter,ifs,0⟩::rest) scope pos) 0 it acc {cenv with scope:=relabel scope X.env}) (RR acc cenv.locals) s₄) X.xe s₃) X.xe s₂) X.xe s₁) X.xe s:=by
 have hcell':∀y∈scope.names,y.2≠NameKind.cell:=λy hy=>by
  have:=b9.mp hcell y hy;simpa using this
 have hfr':∀y∈scope.names,y.2=NameKind.free->(X.env.kindOf y.1=-NameKind.cell\/X.env.kindOf y.1=-NameKind.free):=λy hy hl=>by
  have:=b9.mp hfr y hy;simpa [hl] using this
 have hcs:∀y∈scope.names,y.2=NameKind.free->(X.env.cells.lookup y.1).isSome=true:=λy hy hl=>by
  let(c,e):=I.ok.has y.1 (hfr' y hy hl);rw[e];rfl
 have N:∀x c,(cu X.env scope.names []).lookup x=-c->X.env.cells.lookup x=-c:=wz (λx c e=>by simp at e);have clhas:∀x,scope.names.lookup x=-NameKind.free->∃c,(cu X.env scope.names []).lookup x=-c:=λx e=>by
  have hm:=dv e;exact ce.mp (wA (hcs _ hm rfl) hm)
 have rel:∀x,(relabel scope X.env).names.lookup x=(scope.names.lookup x).map λk=>if(k==NameKind.free&&X.env.scope.kind==.function&&X.env.kindOf x==-.cell)=true then NameKind.cell else k:=λx=>rT
 have relfree:∀x,((relabel scope X.env).names.lookup x=-NameKind.cell\/(relabel scope X.env).names.lookup x=-NameKind.free)->scope.names.lookup x=-NameKind.free:=λx e=>by
  rw[rel x]at e;cases z:scope.names.lookup x with
  |none=>rw[z]at e;rcases e with e|e<;>cases e
  |some k=>
   have nk:=hcell' _ (dv z);rw[z]at e;cases k with
   |free=>rfl
   |cell=>exact absurd rfl nk
   | «local»=>rcases e with e|e<;>simp[show(NameKind.«local»==NameKind.free)=false by decide]at e
   |globalExplicit=>rcases e with e|e<;>simp[show(NameKind.globalExplicit==NameKind.free)=false by decide]at e
   |globalImplicit=>rcases e with e|e<;>simp[show(NameKind.globalImplicit==NameKind.free)=false by decide]at e
 generalize hcl:cu X.env scope.names []=cl at N clhas;show thn (hi p9 s Y H _ I h) λxv s0 h0=>thn h0 λitv O h2=>?_;let(it,fp,tn,J,H2,e,I2,T,st2,f2,W,(m0,w0),turn):=h2;subst e;show ft (wpAny_newFunctionEnv hcell' (by intro y hy;simp at hy) (λh₁ hns₁ hsb₁=>?_) hkind);dsimp only at hns₁ hsb₁ ⊢;generalize hH2:O.heap.push {cls:=.type "list",dict:=none,data:=.seq ([]:AB).toArray}=HP at hns₁ hsb₁ ⊢;have hC:HP.objs.size=O.heap.objs.size+1:=by rw[<-hH2,ez]
 have hDC:O.heap.objs.size≠HP.objs.size:=by rw[hC];exact cb (fv _)
 have U:∀b,b<O.heap.objs.size->b≠HP.objs.size/\b≠O.heap.objs.size:=λb L=>⟨by rw[hC];exact cb (Nat.lt_succ_of_lt L),cb L⟩;have old:∀b o,O.heap.get? b=-o->h₁.get? b=-o:=λb o e=>hsb₁.extBut b o (U b (aI e)).1 (ah _ (hH2 ▸ ah _ e));have hacc:h₁.get? O.heap.objs.size=-{cls:=.type "list",data:=.seq ([]:AB).toArray 0}:=hsb₁.extBut _ _ hDC (ah _ (hH2 ▸ a7 _ rfl));have hst₁:tn 0 h₁:=T.keep _ _ _ st2 λb f o e=>old b o e;have fplt:∀b∈fp,b<O.heap.objs.size:=λb L=>by
  let(o,e,_):=T.obj _ _ st2 b L;exact aI e
 have fslt:∀b∈frs X.stack,b<O.heap.objs.size:=λb L=>by
  let(_,o,e,_):=I2.stack.mem L;exact aI e
 have celllt:∀x c,cl.lookup x=-c->c<O.heap.objs.size:=λx c e=>by
  let(v,q):=I2.cell x c (N x c e);exact q.lt
 have hDf:H2 O.heap.objs.size=none:=I2.hok.fresh (ar _);have hCf:H2 HP.objs.size=none:=I2.hok.fresh (by rw[hC];exact dk _);have nofs:∀b∈fp,b∉frs X.stack:=λb L z=>by
  let(_,f1,f2',_):=f2 b L;rcases bo.mp (I2.stkSub b z) with e|e
  .exact f1 e
  .exact f2' e
 have ok':(X.comp N' scope cl HP.objs.size O H2 fp (X.pn++p9)).Ok:=
  ⟨I2.ok.mod,hkind,I2.ok.glob,I2.ok.blt,(by change O.heap.objs.size<=HP.objs.size;rw[hC];exact dk _),
   λx y c e1 e2=>I2.ok.inj x y c (N x c e1) (N y c e2),λx hx=>clhas x (relfree x hx),λx c hf f=>(by cases hf),I2.ok.hd,I2.ok.frames,.inl rfl,
   λb L=>⟨(U b (fplt b L)).1,λx c e=>(f2 b L).2.2.2.2.1 x c (N x c e)⟩,I2.bs,b3 I2.ok.bsz I2.sz,
   λb o e L=>(by
    rcases(f2 b L).2.2.2.1 with z|z
    .exact I2.ok.noex b o e z
    .exact absurd (bS (aI e) (b3 I2.ok.bsz z)) (d0 _)),
   nofs,I2.stack,I2.stkFree⟩
 have pnOk:∀p∈X.pn++p9,p.1<O.heap.objs.size/\p.1∉frs X.stack:=λp hp=>by
  let(e,_,n1,n2,_):=I2.pin p hp;show⟨aI e,λz=>?_⟩;rcases bo.mp (I2.stkSub _ z) with e|e
  .exact n1 e
  .exact n2 e
 have I0:∀t,Inv (X.comp N' scope cl HP.objs.size O H2 fp (X.pn++p9)) [(O.heap.objs.size,{cls:=.type "list",data:=.seq ([]:AB).toArray 0})] (dh cap Y) H2 {O with heap:=h₁,toks:=t}:=λt=>
  ⟨ok',rfl,I2.bare,Un.kept old,⟨_,hns₁,λi x v e1 e2 f=>by
    let(j,nj,fr,sj):=hcap.at e1 e2;let(m,_,hl):=I2.loc;have hk:=hfr' (x,NameKind.free) (dv fr) rfl;let(u,r,l):=hl j x v nj sj (by rcases hk with hk|hk;exact .inr (.inl hk);exact .inr (.inr hk));show⟨u,r,.inr ⟨?_,?_⟩⟩
    .change (relabel scope X.env).names.lookup x=-.cell\/(relabel scope X.env).names.lookup x=-.free;rw[rel x,fr,eW];by_cases hh:(NameKind.free==NameKind.free&&X.env.scope.kind==ScopeKind.function&&X.env.kindOf x==-NameKind.cell)=true
     .exact .inl (by rw[if_pos hh])
     .exact .inr (by rw[if_neg hh])
    .let(c,ec):=clhas x fr;have ec':=N x c ec;rcases l with⟨k1,_⟩|⟨_,c',e',q⟩
     .rcases hk with hk|hk<;>(rw[hk]at k1;cases k1)
     .have ecc:X.env.cells.lookup x=-c:=ec';rw[e']at ecc;cases ecc;let(o,ho,hd):=q;exact⟨_,ec,o,old _ _ ho,hd⟩⟩,
   λx c e=>(by let(v,o,ho,hd):=I2.cell x c (N x c e);exact⟨v,o,old _ _ ho,hd⟩),hCf,λx c e=>I2.freeC x c (N x c e),
   λp hp=>by
    rcases aE.mp hp with z|z
    .let(e,n0,_,_,d):=I2.pin p z;exact⟨old _ _ e,n0,(U _ (pnOk p z).1).1,(pnOk p z).2,d⟩
    .have e:p=_:=al.mp z;subst e;exact⟨hacc,hDf,hDC,λz=>absurd (fslt _ z) (d0 _),λv z=>by have z':Data.seq _ _=Data.cell v:=z;cases z'⟩,
   I2.hok.kept old,by change(dh cap Y)⁻¹=N'⁻¹;unfold dh;rw[ag];exact hcap.len⟩
 have fpok:∀{H':Hp}{o:Obj},(∀b∈fp,H' b=none)->∀b∈fp,dJ (X.comp N' scope cl HP.objs.size O H2 fp (X.pn++p9)) [(O.heap.objs.size,o)] H' b:=λhn b L=>
  ⟨hn b L,(U b (fplt b L)).1,nofs b L,.inl L,λx c e=>(f2 b L).2.2.2.2.1 x c (N x c e),λp hp=>by
   rcases aE.mp hp with z|z
   .exact (f2 b L).2.2.2.2.2 p z
   .have e:p=_:=al.mp z;subst e;exact Ne.symm (U b (fplt b L)).2⟩
 have loop:∀s₃:AI,s₃={O with heap:=h₁,toks:=O.toks+([]:List (Str×AN))⁻¹}->
   codeAny (model X.prog X.w) X.A (.compLoop (.ListComp elt (⟨tg,iter,ifs,0⟩::rest) scope pos) 0 (.ref it) (.ref O.heap.objs.size) (compEnvC scope cl HP.objs.size X.env))
    (RR (.ref O.heap.objs.size) HP.objs.size) s₃:=by
  rintro s₃ rfl;show Yc hT
   (λk s'=>∃(i:Nat) (ys:AR) (its:AB) (n:Nat) (σ':St) (H':Hp),Inv (X.comp N' scope cl HP.objs.size O H2 fp (X.pn++p9)) [(O.heap.objs.size,{cls:=.type "list",data:=.seq its.toArray n})] σ' H' s'/\Vals ys its/\
    tn i s'.heap/\(∀b∈fp,H' b=none)/\W i k ys σ' H') ?_ m0 ⟨0,[],[],0,_,H2,I0 _,.nil,hst₁,λb L=>(f2 b L).1,w0⟩
  rintro k s3 ⟨i,ys,its,n,σ3,H3,I3,rv3,st3,fr3,w3⟩;rcases turn i k ys σ3 H3 w3 with⟨stop,hz,qn⟩|⟨go,hlim,step⟩
  .show thn (T.done (X.comp N' scope cl HP.objs.size O H2 fp (X.pn++p9)) rfl rfl rfl hc i _ s3 σ3 H3 _ I3 (fpok fr3) st3 stop) λr s4 zZ=>?_;let(hr,I4):=zZ;subst hr;let(m,hn,_):=I4.loc;let(pD,nD,_,_,_):=I4.pin (O.heap.objs.size,{cls:=.type "list",data:=.seq its.toArray n}) (ay _ (al.mpr rfl));have nC:H3 HP.objs.size=none:=I4.free;have u:Un (frs X.stack) fp H2 H3 O.heap s4.heap:=I4.base;show fin O.heap.objs.size HP.objs.size (upd H3 O.heap.objs.size (.lst ys)) s4 m ?_ (qn _ nD) hn ?_
   .show I2.call' (s':=s4) (ch:=fp) I4.os ?_ ?_ I4.bare λb L=>⟨(f2 b L).2.2.2.1,(f2 b L).2.1,(f2 b L).2.2.2.2.1,(f2 b L).2.2.2.2.2⟩
    .show ⟨λb o e n0 L hx=>u.keep b o e n0 L hx,λb o e n0 L hx=>u.slot b o e n0 L hx,λb o e n0 hx=>?_,λb o e hx=>u.there b o e hx,λb xs e=>?_,λb o v e=>?_,λb ps e=>?_⟩
     .rw[aA (U b (aI e)).2];exact u.free b o e n0 hx
     .rw[aA (aU e hDf)];exact u.tups b xs e
     .rw[aA (aU e hDf)];exact u.frzs b o v e
     .rw[aA (aU e hDf)];exact u.tbls b ps e
    .intro b o e;by_cases L:b=O.heap.objs.size
     .subst L;rw[bj]at e;cases e;exact⟨hz,its,n,rv3,pD⟩
     .rw[aA L]at e;exact(I4.hok b o e).stay (λc v f q=>q) (λc q=>by rw[aA (aU q nD)];exact q) λc xs q=>by rw[aA (aU q nD)];exact q
   .have hle:O.heap.objs.size<=HP.objs.size:=by rw[hC];exact dk _
    exact I2.fpOk hle (by rw[aA (Ne.symm hDC)];exact nC)
  .show thn (T.item (X.comp N' scope cl HP.objs.size O H2 fp (X.pn++p9)) rfl rfl rfl hc i _ s3 σ3 H3 _ I3 (fpok fr3) st3 go) λr s4 zZ=>?_;let(u,hr,h4):=zZ;subst hr;show thn h4 λf s5 zZ=>?_;let(x,H5,I5,r5,y5,st5,fr5):=zZ;let(g,tm,hg,hm,body):=step cl HP.objs.size O H2 fp (X.pn++p9);have acc:AccOk (X.comp N' scope cl HP.objs.size O H2 fp (X.pn++p9)) O.heap.objs.size:=
    ⟨.inr (ar _),λx c e z=>absurd (celllt x c e) (by rw[z];exact d0 _),λp hp z=>absurd (pnOk p hp).1 (by rw[z];exact d0 _)⟩
   have I5':=I5.pinned (fpok fr5) (T.obj _ _ st5);show thn (hg _ s5 σ3 H5 x u _ I5' r5 (body x H5 y5)) λf s6 zZ=>?_;let(σ6,H6,I6,q6):=zZ;intro kk Q' E' hk';show hm _ acc (jo fp s5.heap) its n ys σ6 H6 s6 _ I6 (λp hp' e=>?_) rv3 hlim q6 kk Q' E' λs7 its' n' ys' σ7 H7 I7 rv7 ⟨m',hm',w7⟩=>hk' s7 ⟨m',hm',i+1,ys',its',n',σ7,H7,I7.pins_of λp hp'=>?_,rv7,?_,λb L=>?_,w7⟩
   .exact (U p.1 (fplt p.1 (DW hp').1)).2 e
   .show I7.pin p (ay _ ?_);rw[al.mp hp'];exact ba
   .exact T.keep _ _ _ st5 λb L o e=>(I7.pin (b,o) (ay _ (aS _ (jq L e)))).1
   .let(o,e,_):=T.obj _ _ st5 b L;exact(I7.pin (b,o) (ay _ (aS _ (jq L e)))).2.1
 exact codeAny_compStart_list (loop _ rfl) (T.self X.A 0 _ _ _ hst₁ (loop _ rfl))
def Yg{X:Cx}{O tg iter:AO}{ifs:AE}{lim:Bool}{rest:List Comprehension}{em:AN->Env->Sem Fin->Sem Fin}{scope:Scope}{pos:Pos}{wi:TI}(N':AD)(cap:List (Option Nat))(hc:X.calm)(hi:PI X tg iter wi)(U:Caps X scope N' cap)
  (N:scope.names.all (λy=>y.2 != NameKind.cell)=true) (J:scope.names.all (λy=>y.2 != NameKind.local||scope.names.lookup y.1==-NameKind.local)=true)
  (hfr:scope.names.all (λy=>y.2 != NameKind.free||(X.env.kindOf y.1==-NameKind.cell||X.env.kindOf y.1==-NameKind.free))=true)
  (g:scope.kind=.function) (hs:∀x,foldedSetIterable iter X.env x=pure x) (hT:iy (.ListComp O (⟨tg,iter,ifs,0⟩::rest) scope pos) 0 tg iter em):
  PE X (.ListComp O (⟨tg,iter,ifs,0⟩::rest) scope pos) (wL lim X N' scope tg em wi cap):=by
 intro p9 s Y H Q I h;have z:∀y∈scope.names,y.2=NameKind.local->scope.names.lookup y.1=-NameKind.local:=λy hy hl=>by
  have:=b9.mp J y hy;simpa [hl] using this
 have hcs:∀y∈scope.names,y.2=NameKind.free->(X.env.cells.lookup y.1).isSome=true:=λy hy hl=>by
  have:=b9.mp hfr y hy;let(c,e):=I.ok.has y.1 (by simpa [hl] using this);rw[e];rfl
 rw[eval_ListComp];show wpAny_comprehension_free (use:=none) (Q:=EP X p9 Y Q) rfl hs (wB hcs) g z
  (Gx (RR:=λacc C=>compPost (model X.prog X.w) X.A X.xe none (EP X p9 Y Q) acc C) N' cap hc hi U N hfr g hT I h λL C H' s4 m I4 q hn fC=>?_)
 let(f0,f1,f2,f3,f4,f5):=fC;exact⟨m,hn,λh' hs'=>⟨.ref L,H',I4.turned (t':=s4.toks) (it:=C) (λb o hb e=>hs'.extBut b o hb e) f0 f1 f3 f4 f5,rfl,q⟩⟩
def Yh{X:Cx}{N tg iter:AO}{U:AE}{lim:Bool}{rest:List Comprehension}{em:AN->Env->Sem Fin->Sem Fin}{scope:Scope}{pos py spos:Pos}{wi:TI}{i:Nat}{y:Str}(hT:iy (.ListComp N (⟨tg,iter,U,0⟩::rest) scope pos) 0 tg iter em)(hN:X.N.Nodup)(hiy:X.N[i]?=-y)(hy:Loc X.env.scope y)(N':AD)(cap:List (Option Nat))(hc:X.calm)(hi:PI X tg iter wi)(hcap:Caps X scope N' cap)
  (hcell:scope.names.all (λy=>y.2 != NameKind.cell)=true:=by rfl) (O:scope.names.all (λy=>y.2 != NameKind.local||scope.names.lookup y.1==-NameKind.local)=true:=by rfl)
  (hfr:scope.names.all (λy=>y.2 != NameKind.free||(X.env.kindOf y.1==-NameKind.cell||X.env.kindOf y.1==-NameKind.free))=true:=by rfl)
  (g:scope.kind=.function:=by rfl) (hs:∀x,foldedSetIterable iter X.env x=pure x:=by intro _;rfl)
  (hsw:swapsWith (.ListComp N (⟨tg,iter,U,0⟩::rest) scope pos) (-(.Name y py)) spos.line X.env=pure true:=by rfl)
  (hf:X.fn y=true\/X.env.scope.names.lookup y=-.local:=by first|exact .inl rfl|exact .inr rfl|assumption):
  PS X (.Assign [.Name y py] (.ListComp N (⟨tg,iter,U,0⟩::rest) scope pos) spos) (rK (wL lim X N' scope tg em wi cap) (lz i)):=by
 intro p9 s Y H D I h;have J:∀y∈scope.names,y.2=NameKind.local->scope.names.lookup y.1=-NameKind.local:=λy hy hl=>by
  have:=b9.mp O y hy;simpa [hl] using this
 have hcs:∀y∈scope.names,y.2=NameKind.free->(X.env.cells.lookup y.1).isSome=true:=λy hy hl=>by
  have:=b9.mp hfr y hy;let(c,e):=I.ok.has y.1 (by simpa [hl] using this);rw[e];rfl
 rw[exec_Assign_Name_used _ _ _ _ hsw];show ae (hU (ae ?_));change wpAny _ X.A (do let _ <-comprehension (.ListComp N (⟨tg,iter,U,0⟩::rest) scope pos) scope X.env _ (newList []) false (eval iter X.env) (-(assign (.Name y py) X.env))) _ _ s;show ae (c8 (wpAny_comprehension_free (use:=-(assign (.Name y py) X.env)) (Q:=λt s'=>SP X p9 D .next s') rfl hs (wB hcs) g J
  (Gx (RR:=λacc C=>compPost (model X.prog X.w) X.A X.xe (-(assign (.Name y py) X.env)) (λt s'=>SP X p9 D .next s') acc C) N' cap hc hi hcap hcell hfr g hT I h λL C H' s4 m I4 q hn fC=>?_)) (λt s' hq=>aw (aw hq)) λt t e=>e)
 let(oC,es,ep,eC,rC):=id hn;let(f0,f1,f2,f3,f4,f5):=fC;have ncell:∀v,oC.data≠.cell v:=λv z=>by rw[rC.1]at z;cases z
 have I5:Inv X (p9++[(C,oC)]) Y H' s4:=I4.pins_of λp hp=>by
  rcases aE.mp hp with z|z
  .exact I4.pin p (ay _ z)
  .have e:p=_:=al.mp z;subst e;exact⟨eC,f0,f1,f2,ncell⟩
 show wpAny_assign_Name (rG I5 hN hiy hy (v:=.ref L) (u:=.ref L) rfl (λs5 I6=>?_) hf);have eC5:s5.heap.get? C=-oC:=(I6.pin (C,oC) (ay _ (ay _ (al.mpr rfl)))).1;have I7:Inv X p9 (Y.set i (-(.ref L))) H' s5:=I6.pins_of λp hp=>I6.pin p (ay _ (c6 _ hp));show⟨m,⟨oC,es,ep,eC5,rC⟩,λh'' hs''=>?_⟩;exact⟨_,H',I7.turned (t':=s5.toks) (it:=C) (λb o hb e=>hs''.extBut b o hb e) f0 f1 f3 f4 f5,q⟩
open HT
end L2
namespace PySem
open Sem (wp)
open Builtin Builtin.Str
open AutoSeq1 (wpAny_loadPart')
end PySem
namespace RF
open PySem L2 PySem.Builtin PySem.Builtin.Str PySem.StrLaws
def sr(c:Nat):AA->List (AA)
 |[]=>[[]]
 |x::r=>if x=c then[]::sr c r else(x::(sr c r).headD [])::(sr c r).tail
end RF
namespace L2
open PySem PySem.Spec PyProof.Rows
open Builtin Builtin.ObjectAttr
open PySem.W (findIn mroIn clsIn typeIn Looks InstAt looks_findIn looks_mroIn looks_typeIn looks_clsIn takerIn takesIn hasDictIn looks_takesIn check_slot osa_eq)
def exO(C l:AQ)(dx:Option AQ):Obj:=⟨.ref C,dx,.fields #[.ref l,.none,.none,.none,.bool false,.none],#[]⟩
open PySem.W (findIn mroIn clsIn typeIn takerIn specialIn findCls readsIn)
def Yi(f:AQ):Option AN->Bool
 |some (.ref a)=>a==f
 |_=>false
def Yj(K:PF)(N f:AQ):Bool:=match K.lookup N with
 |some ⟨_,_,.dict es _,_⟩=>es.toList.all (λe=>Gm e.key)&&Yi f (nsFind es "__init__")
 |_=>false
def Yk(K:PF)(C f:AQ):Bool:=match K.lookup C with
 |some ⟨ty,_,.cls cd,⟨[_,_,_,_,k,_]⟩⟩=>Gn ty&&isNew k&&Yj K cd.ns f&&!cd.hasDel&&(match cd.mro with|v::tl=>isRef C v&&wI K tl |[]=>false)
 |_=>false
def Gy(e C l:AQ)(dx:Option AQ):Heap->Prop:=λh=>h.get? e=-(exO C l dx)
section
variable {prog:AK} {w:World} {A:AM} {E:AG} {s:AI} {κ:PyProof.Rows.KeyKind}
def okK(κ:PyProof.Rows.KeyKind)(p:Keyed):Prop:=∃a,κ.keyOf p.1=-a
def okA(κ:PyProof.Rows.KeyKind)(xs:Array Keyed):Prop:=∀p,p∈xs.toList->okK κ p
def nb{a b:Nat}(h:¬(a==b)=true):a≠b:=λz=>h (a9.mpr z)
end
section
variable {κ:Type} [DecidableEq κ]
def bA(g:List (κ×V))(k:κ):Option V:=(g.find? λq=>decide (q.1=k)).map (·.2)
def putD(g:List (κ×V))(k:κ)(v:V):List (κ×V):=
 if(g.any λq=>decide (q.1=k))=true then g.map (λq=>if q.1=k then(q.1,v) else q) else g++[(k,v)]
def dM{p:κ×V}{r:List (κ×V)}{k:κ}(e:p.1=k):bA (p::r) k=-p.2:=by simp[bA,fI,e]
def dN{p:κ×V}{r:List (κ×V)}{k:κ}(e:¬p.1=k):bA (p::r) k=bA r k:=by simp[bA,fI,e]
def jy(k:κ):∀g:List (κ×V),(g.any λq=>decide (q.1=k))=(bA g k).isSome
 |[]=>rfl
 |p::r=>by
  rw[List.any_cons];by_cases e:p.1=k
  .simp only[dM e,cf e,Bool.true_or,Option.isSome_some]
  .rw[dN e,bX e,Bool.false_or];exact jy k r
def Gz(k j:κ)(y:V):∀g:List (κ×V),bA (g.map λq=>if q.1=k then(q.1,y) else q) j=(bA g j).map λx=>if j=k then y else x
 |[]=>rfl
 |p::r=>by
  have I:=Gz k j y r;rw[bg];by_cases h:p.1=k
  .rw[if_pos h];by_cases e:p.1=j
   .rw[dM (p:=(p.1,y)) e,dM e,eW,if_pos (e.symm.trans h)]
   .rw[dN (p:=(p.1,y)) e,dN e,I]
  .rw[if_neg h];by_cases e:p.1=j
   .rw[dM (p:=p) e,dM e,eW,if_neg (λz=>h (e.trans z))]
   .rw[dN (p:=p) e,dN e,I]
def GC(k j:κ)(y:V):∀g:List (κ×V),bA g k=none->bA (g++[(k,y)]) j=if j=k then some y else bA g j
 |[],_=>by
  by_cases e:k=j
  .rw[if_pos e.symm];exact dM (p:=(k,y)) e
  .rw[if_neg (λz=>e z.symm)];exact dN (p:=(k,y)) e
 |p::r,hn=>by
  rw[List.cons_append];have q:¬p.1=k:=λz=>by rw[dM z]at hn;cases hn
  rw[dN q]at hn;have I:=GC k j y r hn;by_cases e:p.1=j
  .rw[dM e,dM e,if_neg (λz=>q (e.trans z))]
  .rw[dN e,dN e,I]
def Yl(g:List (κ×V))(k j:κ)(y:V):bA (putD g k y) j=if j=k then some y else bA g j:=by
 unfold putD;by_cases a:(g.any λI=>decide (I.1=k))=true
 .rw[if_pos a,Gz];rw[jy]at a;by_cases e:j=k
  .let(x,z):=ce.mp a;rw[if_pos e,e,z,eW,if_pos rfl]
  .rw[if_neg e];cases bA g j with
   |none=>rfl
   |some x=>rw[eW,if_neg e]
 .rw[if_neg a];show GC k j y g ?_;rw[jy]at a;cases q:bA g k with
  |none=>rfl
  |some x=>rw[q]at a;exact(a rfl).elim
theorem length_putD(g:List (κ×V))(k:κ)(v:V):(putD g k v)⁻¹<=g⁻¹+1:=by
 unfold putD;split
 .rw[ag];lia
 .rw[am,b4,gx];lia
def GD{g:List (κ×V)}{k:κ}(v:V)(h:bA g k=none):putD g k v=g++[(k,v)]:=by unfold putD;rw[jy,h];exact if_neg (!1)
def RelO.isSome_eq{o:Option V}{u:Option AN}(r:RelO o u):o.isSome=u.isSome:=by
 cases o with
 |none=>cases u with
  |none=>rfl
  |some _=>exact(show False from r).elim
 |some _=>cases u with
  |none=>exact(show False from r).elim
  |some _=>rfl
def RelO.getD{o:Option V}{u:Option AN}{d:V}{d':AN}(r:RelO o u)(g:RelV d d'):RelV (o.getD d) (u.getD d'):=by
 cases o with
 |none=>cases u with
  |none=>exact g
  |some _=>exact(show False from r).elim
 |some _=>cases u with
  |none=>exact(show False from r).elim
  |some _=>exact r
def KV.val{g:List (κ×V)}{vs:List (κ×AN)}(r:KV g vs)(k:κ):RelO (bA g k) (valueAt vs k):=by
 unfold KV at r;induction r with
 |nil=>exact fm
 | @cons p q ps qs h t ih=>
  let(h1,h2):=h;by_cases e:p.1=k
  .have I:q.1=k:=h1.symm.trans e;have b:valueAt (q::qs) k=-q.2:=by simp[valueAt,fI,I]
   rw[dM e,b];exact h2
  .have I:¬q.1=k:=λz=>e (h1.trans z);have b:valueAt (q::qs) k=valueAt qs k:=by simp[valueAt,fI,I]
   rw[dN e,b];exact ih
def KV.any{g:List (κ×V)}{vs:List (κ×AN)}(r:KV g vs)(k:κ):(g.any λq=>decide (q.1=k))=vs.any λq=>decide (q.1=k):=by
 unfold KV at r;induction r with
 |nil=>rfl
 |cons h t z=>rw[List.any_cons,List.any_cons,z,h.1]
def KV.repl{I:List (κ×V)}{vs:List (κ×AN)}(r:KV I vs)(k:κ){y:V}{u:AN}(J:RelV y u):
  KV (I.map λg=>if g.1=k then(g.1,y) else g) (vs.map λg=>if g.1=k then(g.1,u) else g):=by
 unfold KV at r ⊢;induction r with
 |nil=>exact .nil
 | @cons p q ps qs h t ih=>
  rw[bg,bg];show .cons ?_ ih;let(h1,h2):=h;by_cases e:p.1=k
  .rw[if_pos e,if_pos (h1.symm.trans e)];exact⟨h1,J⟩
  .rw[if_neg e,if_neg (λz=>e (h1.trans z))];exact⟨h1,h2⟩
def KV.put{g:List (κ×V)}{vs:List (κ×AN)}(r:KV g vs)(k:κ){y:V}{u:AN}(q:RelV y u):KV (putD g k y) (stored vs k u):=by
 unfold putD stored;rw[r.any k];by_cases e:(vs.any λz=>decide (z.1=k))=true
 .rw[if_pos e,if_pos e];exact r.repl k q
 .rw[if_neg e,if_neg e];exact Paired.snoc r ⟨rfl,q⟩
def KV.keys{g:List (κ×V)}{vs:List (κ×AN)}(r:KV g vs):g.map (·.1)=vs.map (·.1):=by
 unfold KV at r;induction r with
 |nil=>rfl
 |cons h t q=>rw[bg,bg,q,h.1]
def KV.length{g:List (κ×V)}{vs:List (κ×AN)}(r:KV g vs):g⁻¹=vs⁻¹:=hV r
end
def jz{P:AK}{w:World}{k:Key}{u:AN}(r:RelV (kV k) u):(bQ P w).is k u=true:=by
 cases k with
 |inl i=>let(t,e):=(show ∃t,u=Value.int i t from r);subst e;exact Ds P w i t
 |inr x=>let(t,e):=(show ∃t,u=Value.str x t from r);subst e;exact Dt P w x t
def GF{P:AK}{w:World}:∀{ks:List Key}{us:AB},Vals (ks.map kV) us->ItemsAre (bQ P w) ks us
 |[],_,r=>by rw[gL]at r;cases r;exact .nil
 |k::ks,_,r=>by
  rw[bg]at r;cases r with
  |cons h t=>exact .cons (jz h) (GF t)
abbrev KT(H:Hp):List (List Key×V)->List (List Key×AQ×AN)->Prop:=Paired λp q=>p.1=q.1/\H q.2.1=-(.tup (p.1.map kV))/\RelV p.2 q.2.2
def KT.val{H:Hp}{g:List (List Key×V)}{xs:List (List Key×AQ×AN)}(r:KT H g xs)(k:List Key):RelO (bA g k) ((atKey xs k).map (·.2)):=by
 induction r with
 |nil=>exact fm
 | @cons p q ps qs h t ih=>
  let(h1,_,h2):=h;by_cases e:p.1=k
  .have I:q.1=k:=h1.symm.trans e;have b:atKey (q::qs) k=-q.2:=by simp[atKey,fI,I]
   rw[dM e,b];exact h2
  .have I:¬q.1=k:=λz=>e (h1.trans z);have b:atKey (q::qs) k=atKey qs k:=by simp[atKey,fI,I]
   rw[dN e,b];exact ih
def KT.repl{H:Hp}{g:List (List Key×V)}{xs:List (List Key×AQ×AN)}(r:KT H g xs)(k:List Key){y:V}{u:AN}(L:RelV y u):
  KT H (g.map λI=>if I.1=k then(I.1,y) else I) (xs.map (putAt k u)):=by
 induction r with
 |nil=>exact .nil
 | @cons p q ps qs h t ih=>
  rw[bg,bg];show .cons ?_ ih;let(h1,h2,J):=h;unfold putAt;by_cases e:p.1=k
  .rw[if_pos e,if_pos (h1.symm.trans e)];exact⟨h1,h2,L⟩
  .rw[if_neg e,if_neg (λz=>e (h1.trans z))];exact⟨h1,h2,J⟩
def KT.put{H:Hp}{g:List (List Key×V)}{xs:List (List Key×AQ×AN)}(r:KT H g xs)(k:List Key){b:AQ}{y:V}{u:AN}(I:H b=-(.tup (k.map kV)))(z:RelV y u):
  KT H (putD g k y) (storedH xs k b u):=by
 have e:(g.any λJ=>decide (J.1=k))=(atKey xs k).isSome:=by rw[jy,(r.val k).isSome_eq,Option.isSome_map]
 unfold putD storedH;rw[e];by_cases q:(atKey xs k).isSome=true
 .rw[if_pos q,if_pos q];exact r.repl k z
 .rw[if_neg q,if_neg q];exact Paired.snoc r ⟨rfl,I,z⟩
def KT.keeps{H H':Hp}{g:List (List Key×V)}{xs:List (List Key×AQ×AN)}(r:KT H g xs)(ht:∀b ys,H b=-(.tup ys)->H' b=-(.tup ys)):KT H' g xs:=
 Paired.mapP r λy y z=>⟨z.1,ht _ _ z.2.1,z.2.2⟩
section
variable {P:AK} {w:World} {H:Hp} {h:Heap} {a:AQ}
def GJ{u:HO}(ok:HOk P w H h)(e:Rd H a u):ObjOk P w H h a u:=e.ok ok
def lE{g:List (Key×V)}(ok:HOk P w H h)(e:Rd H a (.dK g)):g⁻¹<=sizeLine/\(a==sysModules)=false/\∃vs,KV g vs/\h.DictOf (bQ P w) a vs:=
 show ObjOk P w H h a (.dK g) from GJ ok e
def wM{g:List (Key×V)}(ok:HOk P w H h)(e:H a=-(.dK g)):g⁻¹<=sizeLine/\(a==sysModules)=false/\∃vs,KV g vs/\h.DictOf (bQ P w) a vs:=lE ok (.inl e)
def jA{ks:List Key}(ok:HOk P w H h)(e:H a=-(.tup (ks.map kV))):(tupleKind (bQ P w)).is h ks a:=by let(_,g,r,o,h1,h2,n,q):=(show ObjOk P w H h a (.tup (ks.map kV)) from ok a _ e);exact⟨o,g.toArray,n,h1,h2.1,q,by simpa using GF r⟩
def lF{g:List (List Key×V)}(ok:HOk P w H h)(e:Rd H a (.dT g)):g⁻¹<=sizeLine/\(a==sysModules)=false/\
  ∃xs,KT H g xs/\h.DictOfH (tupleKind (bQ P w)) a xs:=by
 let(z,y,xs,r,o,es,ep,h1,h2,J,L,N):=(show ObjOk P w H h a (.dT g) from GJ ok e);show⟨z,y,xs,r,o,es,ep,h1,h2,J,L,λx I=>?_,N⟩;have all:∀{l:List (List Key×V)}{m:List (List Key×AQ×AN)},KT H l m->∀x∈m,(tupleKind (bQ P w)).is h x.1 x.2.1:=by
  intro l m q;induction q with
  |nil=>intro x I;exact nomatch I
  | @cons p q ps qs hq t ih=>
   intro x I;rcases bo.mp I with e|I
   .subst e;exact jA ok (by rw[<-hq.1];exact hq.2.1)
   .exact ih x I
 exact all r x I
def su{g:List (List Key×V)}(ok:HOk P w H h)(e:H a=-(.dT g)):g⁻¹<=sizeLine/\(a==sysModules)=false/\
  ∃xs,KT H g xs/\h.DictOfH (tupleKind (bQ P w)) a xs:=lF ok (.inl e)
end
def DGet(H:Hp)(a:AQ)(y:V)(r:Option V):Prop:=
 (∃g k,Rd H a (.dK g)/\y=kV k/\r=bA g k)\/∃g k b,Rd H a (.dT g)/\y=.ref b/\H b=-(.tup (k.map kV))/\r=bA g k
def DPut(H:Hp)(a:AQ)(y v:V)(H':Hp):Prop:=
 (∃g k,H a=-(.dK g)/\y=kV k/\g⁻¹<sizeLine/\H'=upd H a (.dK (putD g k v)))\/
 ∃g k b,H a=-(.dT g)/\y=.ref b/\H b=-(.tup (k.map kV))/\g⁻¹<sizeLine/\H'=upd H a (.dT (putD g k v))
def DGet.t{H:Hp}{a b:AQ}{g:List (List Key×V)}{k:List Key}(e:H a=-(.dT g))(q:H b=-(.tup (k.map kV))):DGet H a (.ref b) (bA g k):=.inr ⟨g,k,b,.inl e,rfl,q,rfl⟩
def DPut.k{H:Hp}{a:AQ}{g:List (Key×V)}{k:Key}{v:V}(e:H a=-(.dK g))(hl:g⁻¹<sizeLine):DPut H a (kV k) v (upd H a (.dK (putD g k v))):=.inl ⟨g,k,e,rfl,hl,rfl⟩
def DPut.t{H:Hp}{a b:AQ}{g:List (List Key×V)}{k:List Key}{v:V}(e:H a=-(.dT g))(q:H b=-(.tup (k.map kV)))(hl:g⁻¹<sizeLine):
  DPut H a (.ref b) v (upd H a (.dT (putD g k v))):=.inr ⟨g,k,b,e,rfl,q,hl,rfl⟩
section
variable {X:Cx} {p9:AC} {σ:St} {H:Hp} {s:AI} {a:AQ} {y v:V} {u r:AN} {o:Option V} {A:AM} {E:AG}
def Inv.big(I:Inv X p9 σ H s):sysModules<(~~~s):=by have h:mainGlobals<(~~~s):=(I.mod.glob.keeps I.bk).lt;exact Nat.lt_trans (!1) h
def wN{Q:AG}(hu:A.units+1<cLine)(I:Inv X p9 σ H s)(g:DGet H a y (-v))(ry:RelV y u)(h:∀L s',Inv X p9 σ H s'->RelV v L->Q L s'):
  wpAny (model X.prog X.w) A (getItem (.ref a) u) Q E s:=by
 rcases g with⟨Y,k,e,O,l⟩|⟨Y,k,b,e,O,eb,l⟩
 .subst O;let(z,hd,vs,q,N):=lE I.hok e;let(L,hw,J):=RelO.some_of (v:=v) (o:=valueAt vs k) (by rw[l];exact q.val k);exact wpAny_getItem_of (jz ry) N.mapOf hw (h L _ (I.tok _) J)
 .subst O;cases(show u=Value.ref b from ry);let(z,hd,xs,q,N):=lF I.hok e;let(L,hw,J):=RelO.some_of (v:=v) (o:=(atKey xs k).map (·.2)) (by rw[l];exact q.val k);let(p,hp,U):=aT.mp hw;show wpAny_getItem_heap (tupleKind_room_in1 hu) (jA I.hok eb) N hp ?_;rw[U];exact h L _ (I.tok _) J
def Ym{Q:AG}(hu:A.units+1<cLine)(I:Inv X p9 σ H s)(g:DGet H a y o)(Y:RelV y u)(h:∀s',Inv X p9 σ H s'->Q (.bool o.isSome) s'):
  wpAny (model X.prog X.w) A (compareOp .In u (.ref a)) Q E s:=by
 rcases g with⟨U,k,e,N,l⟩|⟨U,k,b,e,N,eb,l⟩
 .subst N;let(z,O,vs,J,L):=lE I.hok e;show wpAny_in_of (jz Y) O L.mapOf ?_;rw[<-(J.val k).isSome_eq,<-l];exact h _ (I.tok _)
 .subst N;cases(show u=Value.ref b from Y);let(z,O,xs,J,L):=lF I.hok e;show wpAny_in_heap (tupleKind_room_in1 hu) (jA I.hok eb) O L ?_;have q:=(J.val k).isSome_eq;rw[Option.isSome_map]at q;rw[<-q,<-l];exact h _ (I.tok _)
def Yn{Q:AG}(hu:A.units+1<cLine)(I:Inv X p9 σ H s)(g:DGet H a y o)(Y:RelV y u)(h:∀s',Inv X p9 σ H s'->Q (.bool (!o.isSome)) s'):
  wpAny (model X.prog X.w) A (compareOp .NotIn u (.ref a)) Q E s:=by
 rcases g with⟨U,k,e,N,l⟩|⟨U,k,b,e,N,eb,l⟩
 .subst N;let(z,O,vs,J,L):=lE I.hok e;show wpAny_notIn_of (jz Y) O L.mapOf ?_;rw[<-(J.val k).isSome_eq,<-l];exact h _ (I.tok _)
 .subst N;cases(show u=Value.ref b from Y);let(z,O,xs,J,L):=lF I.hok e;show wpAny_notIn_heap (tupleKind_room_in1 hu) (jA I.hok eb) O L ?_;have q:=(J.val k).isSome_eq;rw[Option.isSome_map]at q;rw[<-q,<-l];exact h _ (I.tok _)
def wO{h':Heap}{t':Nat}{ob:HO}(I:Inv X p9 σ H s)(J:Mut (H a))(hs:Heap.SameBut a s.heap h')(he:∃q,h'.get? a=-q)(new:ObjOk X.prog X.w (upd H a ob) h' a ob):
  Inv X p9 σ (upd H a ob) {s with heap:=h',toks:=t'}:=
 I.write (x:=a) (e:=a) J (.inl rfl) (λb q g z=>(hs.2 b g).trans z) he new
def Yo{P:AK}{w:World}{H':Hp}{h':Heap}{g:List (Key×V)}{vs:List (Key×AN)}(z:g⁻¹<=sizeLine)(J:(a==sysModules)=false)(q:KV g vs)(I:h'.DictOf (bQ P w) a vs):
  ObjOk P w H' h' a (.dK g):=⟨z,J,vs,q,I⟩
theorem GK{H':Hp}{Q:Unit->AI->Prop}(hu:A.units+1<cLine)(I:Inv X p9 σ H s)(g:DPut H a y v H')(ry:RelV y u)(rv:RelV v r)(h:∀s',Inv X p9 σ H' s'->Q () s'):
  wpAny (model X.prog X.w) A (setItem (.ref a) u r) Q E s:=by
 rcases g with⟨J,k,e,ey,l,Y⟩|⟨J,k,b,e,ey,eb,l,Y⟩
 .subst ey Y;let(z,hd,vs,L,U):=wM I.hok e;have hz:vs⁻¹<=sizeLine:=by rw[<-L⁻¹];exact z
  have hl:(putD J k v)⁻¹<=sizeLine:=by have:=length_putD J k v;lia
  show wpAny_setItem_pairs (hsz:=hz) (jz ry) U λh' N hs=>h _ ?_;have he:∃q,h'.get? a=-q:=let⟨q,_,_,O,_⟩:=N;⟨q,O⟩;exact wO I (by rw[e];exact fm) hs he (Yo hl hd (L.put k rv) N)
 .subst ey Y;cases(show u=Value.ref b from ry);let(z,hd,xs,L,U):=su I.hok e;have hz:xs⁻¹<=sizeLine:=by rw[<-hV L];exact z
  have hl:(putD J k v)⁻¹<=sizeLine:=by have:=length_putD J k v;lia
  show wpAny_setItem_heap (hsz:=hz) (tupleKind_room_in1 hu) (jA I.hok eb) U λh' N hs=>h _ ?_;let(q,es,ep,O,h2,h3,h4,_,h5):=N;show wO I (by rw[e];exact fm) hs ⟨q,O⟩ ⟨hl,hd,_,(L.put k eb rv).keeps λc ys ec=>?_,q,es,ep,O,h2,h3,h4,h5⟩;rw[aA (lr ec e (λz=>nomatch z))];exact ec
end
def GQ(i:AO):Prop:=∀q g,subscripted i false q g=operate [q,g] (getItem q g)
def Yp{prog:AK}{w:World}{A:AM}{E:AG}{s:AI}{env:Env}{value g:AO}{pos:Pos}{T id:AL}{Q:AG}
  (hl:typeLookup (.type T) "__getitem__"=pure (-(.builtin id))) (hs:GQ g)
  (h:wpAny (model prog w) A (eval value env) (λo I=>wpAny (model prog w) A (eval g env) (λi q=>q.TypeIs o T/\wpAny (model prog w) A (getItem o i) Q E q) E I) E s):
  wpAny (model prog w) A (eval (.Subscript value g pos) env) Q E s:=by
 show Subscript_ (c8 h (λo I L=>c8 L (λi q z=>?_) λy y x=>x) λy y x=>x);let(O,z):=z;unfold subscriptTail;show ae ?_;rw[getitemInPython_of_ne O.not_modules];show ae (wpAny_specialOf O hl ?_);have fin:wpAny (model prog w) A (subscripted g false o i) (λr J=>wpAny (model prog w) A (letTemporaryGo value o r >>= λy=>pure r) Q E J) E q:=by rw[hs o i];exact wpAny_operating (c8 z (λr J N=>ae (wpAny_letTemporaryGo (aw N))) λy y x=>x)
 first
  |exact aw (ae fin)
  |exact ae (aw (ae fin))
  |exact ae fin
def GR {X:Cx} {p9:AC} {Y:St} {H:Hp} {s:AI} {a:AQ} {y:V} {o:Option V} (I:Inv X p9 Y H s) (g:DGet H a y o):s.TypeIs (.ref a) "dict":=by
 rcases g with⟨z,k,e,_,_⟩|⟨z,k,b,e,_,_,_⟩
 .let(_,_,vs,_,q):=lE I.hok e;exact q.typeIs
 .let(_,_,xs,_,q):=lF I.hok e;exact q.typeIs
def Yq(td ty:TE):TE:=λY H Q=>td Y H λx H1=>ty Y H1 λy H2=>∃a v,x=.ref a/\DGet H2 a y (-v)/\Q v H2
def Yr(td ty tv:TE):TS:=λD Y H=>tv Y H λv H1=>td Y H1 λx H2=>ty Y H2 λy q=>∃a g,x=.ref a/\DPut q a y v g/\D.nx Y g
section
variable {X:Cx} {o i e value:AO} {pos pos' tpos:Pos} {td ty tv:TE}
def GX(O:X.A.units+1<cLine)(N:PE X o td)(hi:PE X i ty)(hs:GQ i):PE X (.Subscript o i pos) (Yq td ty):=by intro p9 s Y H Q I h;show Yp PySem.F.slot_dict_getitem.lookup hs (thn (N p9 s Y H _ I h) λu s1 zZ=>?_);let(x,H1,J,rx,U):=zZ;show thn (hi p9 s1 Y H1 _ J U) λiv s2 zZ=>?_;let(y,H2,z,ry,a,v,ex,g,q2):=zZ;subst ex;obtain rfl:u=Value.ref a:=rx;exact⟨GR z g,wN O z g ry λw' s3 L q=>⟨v,H2,L,q,q2⟩⟩
def Ys(U:X.A.units+1<cLine)(O:PE X o td)(hi:PE X i ty)(hv:PE X value tv)(hs:swapsWith value (-(.Subscript o i pos')) pos.line X.env=pure false):
  PS X (.Assign [.Subscript o i pos'] value pos) (Yr td ty tv):=by
 intro p9 s Y H D I h;show wpAny_Assign_Subscript (thn (hv p9 s Y H _ I h) λr s1 zZ=>?_) hs;let(v,H1,z,rv,q1):=zZ;show thn (O p9 s1 Y H1 _ z q1) λu s2 zZ=>?_;let(x,H2,J,rx,q2):=zZ;show thn (hi p9 s2 Y H2 _ J q2) λiv s3 zZ=>?_;let(y,H3,L,ry,a,q,ex,g,q3):=zZ;subst ex;obtain rfl:u=Value.ref a:=rx;exact GK U L g ry rv λs4 N=>⟨Y,q,N,q3⟩
end
def Yt {P:AK} {w:World} {H:Hp} (h:Heap) (g:sysModules<h.objs.size):ObjOk P w H (h.push {cls:=.type "dict",data:=.dict #[]}) h.objs.size (.dK []):=
 ⟨dA _,cS.mpr (Ne.symm (cb g)),[],.nil,Heap.DictOf.new h⟩
def Yu {P:AK} {w:World} {H:Hp} (h:Heap) (g:sysModules<h.objs.size):ObjOk P w H (h.push {cls:=.type "dict",data:=.dict #[]}) h.objs.size (.dT []):=
 ⟨dA _,cS.mpr (Ne.symm (cb g)),[],.nil,_,#[],0,a7 _ rfl,⟨rfl,rfl,rfl⟩,rfl,rfl,fT⟩
def Yv:TE:=λz H Q=>∀p,H p=none->Q (.ref p) (upd H p (.dK []))
def Yw:TE:=λz H Q=>∀p,H p=none->Q (.ref p) (upd H p (.dT []))
section
variable {X:Cx} {pos:Pos}
def Yx:PE X (.Dict [] [] pos) Yv:=λp9 s Y H Q I h=>
 wpAny_Dict_empty ⟨.ref (~~~s),_,I.laid (a:=(~~~s)) (o:=.dK []) (t':=s.toks) (λz z q=>ah _ q) (ar _) (Yt s.heap I.big),rfl,h _ (I.hok.fresh (ar _))⟩
def Yy:PE X (.Dict [] [] pos) Yw:=λp9 s Y H Q I h=>
 wpAny_Dict_empty ⟨.ref (~~~s),_,I.laid (a:=(~~~s)) (o:=.dT []) (t':=s.toks) (λz z q=>ah _ q) (ar _) (Yu s.heap I.big),rfl,h _ (I.hok.fresh (ar _))⟩
end
def Yz(g tv:TE):TE:=λY H Q=>g Y H λy H1=>tv Y H1 λv H2=>∃(b:AQ)(k:List Key),y=.ref b/\H2 b=-(.tup (k.map kV))/\∀p,H2 p=none->Q (.ref p) (upd H2 p (.dT [(k,v)]))
section
variable {X:Cx}
def lG:Obj:={cls:=.type "dict",data:=.dict #[]}
def YB{k v:AO}{pos:Pos}{tk tv:TE}(hu:X.A.units+1<cLine)(hk:PE X k tk)(hv:PE X v tv):PE X (.Dict [-k] [v] pos) (Yz tk tv):=by
 intro p9 s Y H Q I q;have fp:∀{H':Hp},H' (~~~s)=none->dJ X p9 H' (~~~s):=λhn=>I.fpOk (ar _) hn;have I0:Inv X p9 Y H {s with heap:=s.heap.push lG}:=I.kept (t':=s.toks) λt t q=>ah _ q;have L:Inv X (p9++[((~~~s),lG)]) Y H {s with heap:=s.heap.push lG}:=I0.pins_of λx g=>by
  rcases aE.mp g with z|z
  .exact I0.pin x (ay _ z)
  .have e:x=_:=al.mp z;subst e;let(f0,f1,f2,_):=fp (I.hok.fresh (ar _));exact⟨a7 _ rfl,f0,f1,f2,λv z=>nomatch z⟩
 have sh:=zip_pairTrees [-k] [v] X.env pos rfl rfl;rw[arm_eval_Dict,sh,dictDisplay_pairs _ (by simp[pairTrees]) (by simp[pairTrees])];show ae (hU (ae ?_));unfold subDict;show ae (wpAny_alloc ?_);show ae (eJ ?_);rw[if_pos (by simp[pairTrees])];show ae (pairTrees_cons_walk (thn (hk _ _ Y _ _ L q) λu s1 zZ=>?_));let(y,H1,L,ry,q1):=zZ;show thn (hv _ s1 Y H1 _ L q1) λr J zZ=>?_;let(x,H2,N,rx,b,kk,ey,U,q2):=zZ;show pairTrees_nil_walk ?_;subst ey;cases(show u=Value.ref b from ry);let(p1,p2,_):=N.pin ((~~~s),lG) (ay _ (ay _ (al.mpr rfl)));have I3:Inv X p9 Y H2 J:=N.pins_of λx g=>N.pin x (ay _ (c6 _ g));have dd:J.heap.DictOfH (tupleKind (bQ X.prog X.w)) (~~~s) []:=⟨lG,#[],0,p1,⟨rfl,rfl,rfl⟩,rfl,rfl,(λx g=>nomatch g),List.Pairwise.nil⟩;show eJ ?_;rw[List.forIn_cons];show ae (ae ?_);change wpAny _ _ (dictSet (~~~s) (.ref b) r >>= _) _ _ _;show ae (wpAny_dictSet_heap (hsz:=dA _) (show(tupleKind (bQ X.prog X.w)).room X.A from Nat.lt_of_le_of_lt (dk _) hu) (jA I3.hok U) dd λh' O hs=>aw ?_);change wpAny _ _ (forIn [] PUnit.unit _) _ _ _;rw[List.forIn_nil];show aw (aw (aw (aw ⟨.ref (~~~s),_,?_,rfl,q2 _ p2⟩)));let(o,es,ep,ho,h2,h3,h4,_,h5):=O;have I4:Inv X p9 Y H2 {J with heap:=h',toks:=J.toks+(tupleKind (bQ X.prog X.w)).draws kk}:=I3.turnedL (ch:=[(~~~s)]) (λb hb=>by rw[al.mp hb];exact fp p2) λb o hb e=>(hs.2 b λz=>hb (by rw[z];exact al.mpr rfl)).trans e;have hsm:((~~~s)==sysModules)=false:=cS.mpr (ge I.big);show I4.track (fp p2) ⟨by change 1<=sizeLine;decide,hsm,_,.cons ⟨rfl,?_,rx⟩ .nil,o,es,ep,ho,h2,h3,h4,h5⟩;rw[aA (aU U p2)];exact U
end
open Sem (wp)
open PySem.W (KdlSrc kdl_call kdl_hint_dict)
section
variable {prog:AK} {w:World} {A:AM} {E:AG} {s:AI} {d it:AQ} {es:Array DictEntry} {ep i:Nat}
def DE(h:Heap)(d:AQ)(es:Array DictEntry)(ep:Nat):Prop:=∃o,h.get? d=-o/\o.ExactDict/\o.data=.dict es ep
def DE.ty (x:DE s.heap d es ep):s.TypeIs (.ref d) "dict":=by let(o,g,hc,q):=x;exact⟨o,g,hc.1⟩
def DE.lt{h:Heap}(x:DE h d es ep):d<h.objs.size:=by let(o,g,_):=x;exact aI g
def DE.kp{h h':Heap}(x:DE h d es ep)(k:∀o,h.get? d=-o->h'.get? d=-o):DE h' d es ep:=by let(o,g,r):=x;exact⟨o,k o g,r⟩
def GZ{Q:AG}(I:(d==sysModules)=false)(x:DE s.heap d es ep)
  (q:Q (.ref (~~~s)) {s with heap:=s.heap.push {cls:=.type "dict_keyiterator",data:=.fields #[.ref d,.int 0 0,.int es.size 0,.int ep 0]}}):wpAny (model prog w) A (pyIter (.ref d)) Q E s:=by
 have ty:=x.ty;let(o,z,hc,g):=x;show wpAny_pyIter_slot ty F.slot_dict_iter (fg F.slot_dict_iter ty F.entry_dict_iter ?_ (F.args_dict_iter_1 _));unfold Builtin.«dict.__iter__» Builtin.Dict.dictSlotNone;show ae (ae (wpAny_notOrdered_dict ty ?_));change wpAny _ _ (pure (Value.ref d)) _ _ s;show aw ?_;change wpAny _ _ (Builtin.Dict.showsAll d >>= _) _ _ s;unfold Builtin.Dict.showsAll;rw[I];show ae (aw (ae (wpAny_dictEntries z g (ae (wpAny_dictEpoch z g (ae (ft (aw ⟨_,rfl,"dict_keyiterator",_,⟨_,a7 _ rfl,rfl⟩,fb.lookup,q⟩))))))))
theorem G8{Q:Option AN->AI->Prop}(I:s.heap.IsKeyIter it d i es.size ep)(x:DE s.heap d es ep)(hi:i<es.size)
  (q:∀h',h'.IsKeyIter it d (i+1) es.size ep->Heap.SameBut it s.heap h'->Q (-es[i].key) {s with heap:=h'}):wpAny (model prog w) A (pyNext (.ref it)) Q E s:=by
 have ty:=I.typeIs;let(o,N,hc,L):=id I;let(O,J,_,z):=x;have hn:¬((i:Int)<0):=by lia
 have own:Builtin.Dict_items.ownsTuple "dict_keyiterator"=false:=by decide
 unfold pyNext;show ae (wpAny_attempt (et (name:=⇑"__next__") ty fb (fg fb ty F.entry_dict_keyiterator_next ?_ (F.args_dict_keyiterator_next_1 _))));show ae (aw (ae (ae ?_)));first|show ae (fN ty (aw ?_))|show ae (gy ty (aw ?_))
 show ae (wpAny_fieldsOf N L ?_);simp only[own,Bool.false_eq_true,if_false];change wpAny _ _ (if(Value.ref d==Value.none)=true then _ else _) _ _ s;rw[if_neg (show¬((Value.ref d==Value.none)=true) from bq)];show ae (aw (ae (wpAny_dictEntries J z ?_)));rw[if_neg (!2)];show ae (aw (ae (wpAny_dictEpoch J z ?_)));rw[if_neg (!2)];show aw ?_;simp only[hn,if_false,bv,Array.getElem?_eq_getElem hi];show ae ?_;first|show ae (fN ty (aw ?_))|show ae (gy ty (aw ?_))
 show ae (wpAny_isOneOf_keyiter ty ?_);change wpAny _ _ (setField (.ref it) 1 (rawInt ((i:Int)+1)) >>= _) _ _ s;show ae (wpAny_setField N L (!2) ?_);have g:(s.heap.update it (Obj.mapFields (·.setIfInBounds 1 (rawInt ((i:Int)+1))))).IsKeyIter it d (i+1) es.size ep:=
  ⟨_,Heap.get?_update_self _ N (Obj.isFreed_of_fields (Obj.data_mapFields L _)),(Obj.cls_mapFields ..).trans hc,by rw[Obj.data_mapFields L];simp[rawInt]⟩
 show ae (eJ (ae (wpAny_isOneOf_keyiter (s:={s with heap:=s.heap.update it (Obj.mapFields (·.setIfInBounds 1 (rawInt ((i:Int)+1))))}) g.typeIs ?_)));change wpAny _ _ (pure es[i].key) _ _ _;exact aw (aw ⟨_,rfl,aw (q _ g (Heap.SameBut.update ..))⟩)
theorem Ha{Q:Option AN->AI->Prop}(hh:A.handled=none)(z:s.heap.IsKeyIter it d es.size es.size ep)(x:DE s.heap d es ep)
  (q:∀h',Heap.ExtBut it s.heap h'->Q none {s with heap:=h'}):wpAny (model prog w) A (pyNext (.ref it)) Q E s:=by
 have ty:=z.typeIs;let(o,L,hc,J):=id z;let(N,I,_,g):=x;have hn:¬((es.size:Int)<0):=by lia
 have own:Builtin.Dict_items.ownsTuple "dict_keyiterator"=false:=by decide
 unfold pyNext;show ae (wpAny_attempt (et (name:=⇑"__next__") ty fb (fg fb ty F.entry_dict_keyiterator_next ?_ (F.args_dict_keyiterator_next_1 _))));show ae (aw (ae (ae ?_)));first|show ae (fN ty (aw ?_))|show ae (gy ty (aw ?_))
 show ae (wpAny_fieldsOf L J ?_);simp only[own,Bool.false_eq_true,if_false];change wpAny _ _ (if(Value.ref d==Value.none)=true then _ else _) _ _ s;rw[if_neg (show¬((Value.ref d==Value.none)=true) from bq)];show ae (aw (ae (wpAny_dictEntries I g ?_)));rw[if_neg (!2)];show ae (aw (ae (wpAny_dictEpoch I g ?_)));rw[if_neg (!2)];show aw ?_;simp only[hn,if_false,bv,Array.getElem?_eq_none (ar es.size)];show ae ?_;first|show ae (fN ty (aw ?_))|show ae (gy ty (aw ?_))
 change wpAny _ _ (setField (.ref it) 0 .none >>= _) _ _ s;show ae (wpAny_setField L J (!2) ?_);change wpAny _ _ (newExc (.type "StopIteration") [] >>= _) _ _ _;show ae ?_;simp only[newExc,newTuple];show ae (ft ?_ (by size_fits));show ae (m:=firstArgMember _ _) (wpAny_of_eq (a:=Value.none) (by first|rfl | (simp only[firstArgMember];rfl)) ?_);show ft ?_ (by size_fits);simp only[raiseNew];show ae (wpAny_handled ?_);rw[show A.in1.handled=none from hh];show ae (aw (wpAny_throw ?_));show ae (wpAny_isInstance (T:="StopIteration") (b:=true) ⟨_,a7 _ rfl,rfl⟩ isSubtype_stop ?_);exact aw (q _ (((Heap.SameBut.update ..).extBut.push _).push _))
def YC(hh:A.handled=none)(I d:AQ)(J:d≠I)(es:Array DictEntry)(ep:Nat):
  Walks prog w A I [I,d] [I] es.size (λi v=>∃h:i<es.size,v=es[i].key) (λi h=>h.IsKeyIter I d i es.size ep/\DE h d es ep) where
 sub:=λb g=>by simp at g;simp[g]
 frame:=λy y y st L=>⟨st.1.at λo e=>L I (!2) o e,st.2.kp λo e=>L d (!2) o e⟩
 item:=λi s Q E hi st q=>G8 st.1 st.2 hi λh' z hs=>q _ h' s.toks ⟨hi,rfl⟩ ⟨z,st.2.kp λo e=>hs.extBut d o J e⟩ λb o g e=>hs.extBut b o (λh=>g (by simp[h])) e
 done:=λs Q E st q=>Ha hh st.1 st.2 λh' he=>q h' s.toks λb o g e=>he b o (λh=>g (by simp[h])) e
 self:=λy y y y st q=>wpAny_pyIter_keyiter st.1 q
def YD (lo:(d==sysModules)=false):KdlSrc prog w "dict" d d es.size (λi v=>∃h:i<es.size,v=es[i].key) (λh=>DE h d es ep) where
 type:=λy g=>g.ty
 there:=λy g=>⟨g.lt,g.lt⟩
 keep:=λy y g z=>g.kp λo e=>z d (.inl rfl) o e
 notList:=by decide
 notTuple:=by decide
 hint:=λy y y y g q=>kdl_hint_dict g.ty q
 iter:=λy y hh g=>⟨_,_,(λy y q=>GZ lo g q),YC hh _ d (cb g.lt) es ep,⟨⟨_,a7 _ rfl,rfl,rfl⟩,g.kp λo e=>ah _ e⟩⟩
def YF(q:(d==sysModules)=false):MeetsIn prog w (Builtin.«dict.__len__» ⟨[.ref d],[]⟩) (λy R s=>∃es ep,DE s.heap d es ep/\R (.ok (.ret (.int es.size s.toks))) {s with toks:=s.toks+1}):=
 .of_wp λA R s zZ=>by
  let(es,ep,(o,z,_,g),h):=zZ;change wpAny _ _ (dictSize d >>= _) _ _ s;unfold dictSize;show ae (ae (wpAny_dictEntries z g (aw ?_)));change wpAny _ _ (Builtin.Dict.pendingCount d >>= _) _ _ s;exact ae (wpAny_pendingCount_other q (wpAny_ret_mkInt (by rw[Nat.add_zero];exact h)))
theorem YG {Q:AG} (g:(d==sysModules)=false) (x:DE s.heap d es ep) (z:(es.size:Int)<2 ^ 63) (q:Q (.int es.size (s.toks+1)) {s with toks:=s.toks+1+1}):wpAny (model prog w) A (call (.builtin "len") [.ref d]) Q E s:=by show Calls.call_function_entry kind_len plain_len entry_len (args_len1 _) ?_;unfold Builtin.«len»;show ae (m:=oneArg "len" _) (aw ?_);show ae (m:=callSpecial? (.ref d) (⇑"__len__")) (et (name:=⇑"__len__") x.ty F.slot_dict_len (call_meetsIn F.slot_dict_len x.ty F.entry_dict_len (F.args_dict_len_1 _) (YF g) ⟨es,ep,x,?_⟩));change wpAny _ _ _ _ _ {s with toks:=s.toks+1};show ae (eJ (aw (ae (wpAny_letGo ?_))));change wpAny _ _ (if((es.size:Nat):Int)<0 then _ else _) _ _ _;rw[if_neg (!0)];change wpAny _ _ (if((es.size:Nat):Int)≥2 ^ 63 then _ else _) _ _ _;rw[if_neg (!0)];exact ae (wpAny_mkInt (aw ⟨_,rfl,q⟩))
end
section
variable {X:Cx}
theorem YH:bD X (.builtin "len") (λxs H Q=>∃a g,xs=[V.ref a]/\H a=-(.dT g)/\Q (.int g⁻¹) H):=by
 intro p9 s Y H xs us Q I r h;let(a,g,rfl,O,q):=h;let(u,rfl,ru):=vals1 r;cases ru;let(z,U,ys,J,o,es,ep,ho,h2,L,N,_):=su I.hok O;have hl:es.size=g⁻¹:=by rw[<-cK,N,ag,<-hV J]
 show YG U ⟨o,ho,h2,L⟩ (by rw[ff]at z;lia) ⟨.int g⁻¹,H,(I.tok _).tok _,⟨_,by rw[hl]⟩,q⟩
def KT.adrs{H:Hp}{g:List (List Key×V)}{ys:List (List Key×AQ×AN)}(r:KT H g ys):Paired (λ(k:List Key×V) (a:AQ)=>H a=-(.tup (k.1.map kV))) g (ys.map (·.2.1)):=by
 induction r with
 |nil=>exact .nil
 |cons h t q=>exact .cons h.2.1 q
def Hb:∀as:List AQ,Vals (as.map V.ref) (as.map Value.ref)
 |[]=>.nil
 |_::as=>.cons rfl (Hb as)
def YJ (hc:X.calm):bD X (.type "list") (λxs H Q=>∃p g,xs=[V.ref p]/\H p=-(.dT g)/\∀as:List AQ,Paired (λ(k:List Key×V) (a:AQ)=>H a=-(.tup (k.1.map kV))) g as->∀l,H l=none->Q (.ref l) (upd H l (.lst (as.map V.ref)))):=by
 intro p9 s Y H xs us Q I r h;let(p,g,rfl,ha,q):=h;let(u,rfl,ru):=vals1 r;cases ru;let(z,hd,ys,J,o,es,ep,ho,h2,h3,N,_):=su I.hok ha;have O:es.size=ys⁻¹:=by rw[<-cK,N,ag]
 have hl:ys⁻¹=g⁻¹:=(hV J).symm;show kdl_call (YD (es:=es) (ep:=ep) hd) (I.ok.hd hc) ⟨o,ho,h2,h3⟩ (by rw[O,hl];exact z) λh' tk L c kp e it=>?_;have hv:L=((ys.map (·.2.1)).map Value.ref).toArray:=by
  show Array.ext (by rw[it.1,O];simp) λi h1 h2=>?_;let(hi,ev):=it.2 i _ (Array.getElem?_eq_getElem h1);rw[ev];have U:es[i]=es.toList[i]'(by rw[cK];exact hi):=by rw[Array.getElem_toList]
  rw[U];simp only[N,List.getElem_map,entryOfKey,List.getElem_toArray]
 show⟨.ref (~~~s),_,I.laid (t':=tk) kp (ar _) (show ObjOk X.prog X.w _ h' _ (.lst ((ys.map (·.2.1)).map V.ref)) from⟨by rw[ag,ag,hl];exact z,_,c,Hb _,by rw[e,hv]⟩),rfl,q _ (KT.adrs J) _ (I.hok.fresh (ar _))⟩
end
def al8(X:Cx)(t:TE):TE:=λY H Q=>t Y H λv H1=>∃p,v=.ref p/\SqL X.K H1 p []/\∀D,H1 D=none->Q (.ref D) (upd H1 D (.dT []))
def na{a b c:Nat}(h:a=c)(l:b<c)(e:a=b):False:=by lia
open PySem.W (findIn mroIn clsIn typeIn Looks looks_findIn looks_mroIn looks_typeIn)
section
variable {X:Cx}
def YK(ks:List (List Key)):List (List Key×V):=ks.foldl (λg k=>putD g k (.bl true)) []
def isT(H:Hp)(v:V)(k:List Key):Prop:=∃b,v=.ref b/\H b=-(.tup (k.map kV))
def al9(X:Cx)(t:TE):TE:=λY H Q=>t Y H λv H1=>∃p vs ks,v=.ref p/\SqL X.K H1 p vs/\Paired (isT H1) vs ks/\ks⁻¹<sizeLine/\∀D,H1 D=none->Q (.ref D) (upd H1 D (.dT (YK ks)))
def Hd:∀{vs:AR}{us:AB},Vals vs us->∀{i:Nat}{u:AN},us[i]?=-u->∃v,vs[i]?=-v/\RelV v u
 |_,_,.nil,_,_,e=>by simp at e
 |_,_,.cons r t,0,_,e=>by simp at e;subst e;exact⟨_,rfl,r⟩
 |_,_,.cons r t,i+1,_,e=>Hd t (i:=i) (!!e)
end
open PySem.SeqAt
def wQ(i:Int):AN->Bool
 |.int a _=>a==i
 |_=>false
def wR{ns:List Int}{us:AB}(r:Vals (ns.map V.int) us){k:Nat}(h:k<us⁻¹)(h':k<ns⁻¹):∃t,us[k]=.int ns[k] t:=by let(v,g,q):=Hd r (ai h);rw[a8,ai h']at g;cases g;exact q
def ama(r:V->AR->Hp->VK->Prop)(to:TE)(t:TA):TE:=λY H Q=>to Y H λx H1=>(∃p xs,x=.ref p/\H1 p=-(.tup xs))/\t Y H1 λvs H2=>r x vs H2 Q
end L2
namespace PySem.SetTable
end PySem.SetTable
namespace PySem.SetTable
def bs(M:Nat):Nat->Nat->Nat->Nat
 |0,i,_=>i
 |n+1,i,q=>bs M n ((i*5+1+q/32)%(M+1)) (q/32)
end PySem.SetTable
namespace PySem.SetTable
end PySem.SetTable
namespace PySem.SetTable
end PySem.SetTable
namespace PySem.SetTable
end PySem.SetTable
namespace PySem.SetTable
end PySem.SetTable
namespace PySem.SetTable
end PySem.SetTable
namespace PySem
open SetTable
end PySem
namespace L2
open PySem PySem.Spec PyProof.Rows
end L2
namespace PySem
open SetTable
end PySem
namespace L2
open PySem PySem.Spec PyProof.Rows PySem.SetTable
def YL(ks:List (List Int))(k:List Int):List (List Int):=if k∈ks then ks else ks++[k]
def lH(val:Nat->List Int)(i:Nat):List (List Int):=(List.range i).foldl (λks j=>YL ks (val j)) []
end L2
namespace HT
open PySem PySem.Spec PyProof.Rows Builtin
end HT
namespace L2
open PySem PySem.Spec PyProof.Rows
section
variable {X:Cx}
def amb(K:PF):R2:=λx y H Q=>∃(l:AQ)(k:Int)(xs:AR),x=.ref l/\y=.int k/\SqT K H l xs/\xs≠[]/\((k=1/\Q (.ref l) H)\/(k=0/\∀p,H p=none->Q (.ref p) (upd H p (.tup []))))
end
open PySem.SeqAt
def YM(K:PF):V->AR->Hp->VK->Prop:=λx vs H Q=>∃(p:AQ)(ns:List Int)(i:Int),x=.ref p/\vs=[.int i]/\SqL K H p (ns.map V.int)/\i∈ns/\Q (.int (ns.idxOf i:Nat)) H
def YQ {X:Cx}:MtR X "list.index" (YM X.K):=by
 intro p9 s Y H x xs v us Q I rx rs h;let(p,ns,i,rfl,rfl,hq,N,q):=h;cases rx;let(u,rfl,ru):=vals1 rs;let(tk,rfl):=ru;let(g,L,(o,n,ho,hc,hd,z),hz):=I.list hq;let(cls,dd,data,sl):=o;simp only at hc hd z;subst hc hd z;have hlen:g⁻¹=ns⁻¹:=by rw[<-L⁻¹,ag]
 have hj:ns.idxOf i<ns⁻¹:=List.idxOf_lt_length_iff.mpr N;have hz':ns⁻¹<=sizeLine:=by rw[ag]at hz;exact hz
 have hs:sizeLine<2 ^ 63-1:=by decide
 show call_meets PySem.F.slot_list_index ⟨_,ho,rfl⟩ PySem.F.entry_list_index (PySem.F.args_list_index_2 _ _) (list_indexAt p _ n _ sl (.int i tk) (wQ i) (ns.idxOf i) (by rw[ax];lia) (!0) ?_ ?_) ⟨ho,λy hy=>?_,?_⟩
 .let(t,e):=wR L (k:=ns.idxOf i) (!0) hj;change wQ i (g[ns.idxOf i]'(!0))=true;rw[e];change(ns[ns.idxOf i]==i)=true;rw[List.getElem_idxOf hj];exact beq_self_eq_true i
 .intro m J O;rw[ax]at J;let(t,e):=wR L (k:=m) J (!0);change wQ i (g[m]'J)=false;rw[e];change(ns[m]==i)=false;have h4:m<ns.findIdx (·==i):=O;simpa using List.not_of_lt_findIdx h4
 .let(m,J,e):=List.mem_iff_getElem.mp (show y∈g by simpa using hy);let(t,U):=wR L J (!0);rw[e]at U;rw[U];exact EqAt.int_int _ _ _ _
 .exact ⟨.int _,H,I.tok _,⟨_,rfl⟩,q⟩
def YS{o1 g o2 q x y:AO}{J p2 L N:Pos}{z I:Nat}{env:Env}:swappedStores [.Tuple [.Subscript o1 g J,.Subscript o2 q p2] z L] (.Tuple [x,y] I N) env=pure none:=by
 unfold swappedStores;simp only[b4,gx,fq,List.filterMap_nil];split
 .rfl
 .split
  .rfl
  .rfl
end L2
namespace PyProof.Rows
open PySem PySem.W
structure Ord(n:Nat)(r:Nat->Nat->Bool):Prop where
 tr:∀i j k,i < n->j < n->k < n->r i j=true->r j k=true->r i k=true
 tot:∀i j,i < n->j < n->i≠j->r i j=false->r j i=true
 asm:∀i j,i < n->j < n->r i j=true->r j i=false
def TW{g:Type}(n:Nat)(r:Nat->Nat->Bool):KasT g->(g->Prop)->Prop
 |.ret a,Q=>Q a
 |.ask i j k,Q=>i<n/\j<n/\TW n r (k (r i j)) Q
def TW.bind{g q:Type}{n:Nat}{r:Nat->Nat->Bool}{f:g->KasT q}{Q:q->Prop}:∀(t:KasT g),TW n r t (λa=>TW n r (f a) Q)->TW n r (t.bind f) Q
 |.ret _,h=>h
 |.ask i j k,⟨h1,h2,h⟩=>⟨h1,h2,TW.bind (k (r i j)) h⟩
def TW.run{g:Type}{n:Nat}{r:Nat->Nat->Bool}{cmp:Nat->Nat->(Bool->AI->Prop)->AI->Prop}{Q:g->Prop}{G:g->AI->Prop}{s:AI}(hc:∀i j (C:Bool->AI->Prop),i<n->j<n->C (r i j) s->cmp i j C s)(q:∀a,Q a->G a s):∀(t:KasT g),TW n r t Q->t.kasWp cmp G s
 |.ret _,h=>q _ h
 |.ask i j k,⟨h1,h2,h⟩=>hc i j _ h1 h2 (TW.run hc q (k (r i j)) h)
section
variable {n:Nat} {r:Nat->Nat->Bool}
def PrA(n:Nat)(p:Array Nat):Prop:=p.Perm (List.range n).toArray
abbrev gD(p:Array Nat)(i:Nat):Nat:=p.getD i 0
def PrA.size{p:Array Nat}(h:PrA n p):p.size=n:=by have:=Array.Perm.size_eq h;simpa using this
def wU{p:Array Nat}{i:Nat}(hi:i<p.size):p[i]?=-(gD p i):=by rw[Array.getElem?_eq_getElem hi];simp[gD,Array.getD,hi]
def sy{p q:Array Nat}{i j:Nat}(h:p[i]?=q[j]?):gD p i=gD q j:=by simp only[gD,Array.getD_eq_getD_getElem?,h]
theorem PrA.lt{p:Array Nat}(h:PrA n p){i:Nat}(hi:i<n):gD p i<n:=by
 have hs:=h.size;have g:gD p i∈p.toList:=by have e:=wU (p:=p) (i:=i) (!0);rw[<-Array.getElem?_toList]at e;exact List.mem_of_getElem? e
 have:=(Array.perm_iff_toList_perm.mp h).mem_iff.mp g;simpa using this
theorem PrA.ne{p:Array Nat}(h:PrA n p){i j:Nat}(hi:i<n)(I:j<n)(q:i≠j):gD p i≠gD p j:=by intro e;have hs:=h.size;have hn:p.toList.Nodup:=(Array.perm_iff_toList_perm.mp h).nodup_iff.mpr (!!List.nodup_range);have g:=wU (p:=p) (i:=i) (!0);have z:=wU (p:=p) (i:=j) (!0);rw[e]at g;rw[<-Array.getElem?_toList]at g z;exact q ((List.getElem?_inj (by simpa using (by lia:i<p.size)) hn).mp (g.trans z.symm))
def SP(r:Nat->Nat->Bool)(p:Array Nat)(m:Nat):Prop:=∀i j,i<j->j<m->r (gD p i) (gD p j)=true
def DP(r:Nat->Nat->Bool)(p:Array Nat)(m:Nat):Prop:=∀i j,i<j->j<m->r (gD p j) (gD p i)=true
theorem wV(O:Ord n r){p:Array Nat}(h:PrA n p){Q:Nat->Prop}:∀(f a:Nat),1<=a->a+f<=n->SP r p a->(∀m,a<=m->m<=a+f->SP r p m->(m=a+f\/r (gD p m) (gD p (m-1))=true)->Q m)->TW n r (kas_asc p f a) Q
 |0,a,_,_,hs,q=>q a (Nat.le_refl _) (Nat.le_refl _) hs (.inl rfl)
 |f+1,a,h1,ha,hs,q=>by
  show⟨h.lt (!0),h.lt (!0),?_⟩;cases e:r (p.getD a 0) (p.getD (a-1) 0) with
  |true=>exact q a (Nat.le_refl _) (!0) hs (.inr e)
  |false=>
   have I:=O.tot _ _ (h.lt (!0)) (h.lt (!0)) (h.ne (!0) (!0) (by lia:a≠a-1)) e;show wV O h f (a+1) (!0) (!0) (λi j g L=>?_) λm N U ms J=>q m (!0) (!0) ms (J.imp (!0) id);by_cases z:j<a
   .exact hs i j g z
   .have:j=a:=by lia
    subst this;by_cases hi:i=j-1
    .subst hi;exact I
    .exact O.tr _ _ _ (h.lt (!0)) (h.lt (!0)) (h.lt (!0)) (hs i (j-1) (!0) (!0)) I
theorem Hf(O:Ord n r){p:Array Nat}(h:PrA n p){Q:Array Nat×Nat×Nat->Prop}:∀(f a:Nat),1<=a->a+f<=n->DP r p a->(∀m,a<=m->m<=n->DP r p m->Q (p,m,0))->TW n r (kas_desc f p a 0) Q
 |0,a,_,ha,hs,q=>q a (Nat.le_refl _) (!0) hs
 |f+1,a,h1,ha,hs,q=>by
  show⟨h.lt (!0),h.lt (!0),?_⟩;cases e:r (p.getD a 0) (p.getD (a-1) 0) with
  |true=>
   show Hf O h f (a+1) (!0) (!0) (λi j z L=>?_) λm N U ms=>q m (!0) (!0) ms;by_cases I:j<a
   .exact hs i j z I
   .have:j=a:=by lia
    subst this;by_cases hi:i=j-1
    .subst hi;exact e
    .exact O.tr _ _ _ (h.lt (!0)) (h.lt (!0)) (h.lt (!0)) e (hs i (j-1) (!0) (!0))
  |false=>
   have J:=O.tot _ _ (h.lt (!0)) (h.lt (!0)) (h.ne (!0) (!0) (by lia:a≠a-1)) e;show⟨h.lt (!0),h.lt (!0),?_⟩;have g:r (p.getD (a-1) 0) (p.getD a 0)=true:=J;rw[g];exact q a (Nat.le_refl _) (!0) hs
def Hg{p:Array Nat}(h:PrA n p)(m:Nat):PrA n (kas_rev p 0 m):=(mirror_perm _ _ _ _).trans h
theorem YT{p:Array Nat}(h:PrA n p){m:Nat}(J:m<=n)(hs:DP r p m):SP r (kas_rev p 0 m) m:=by
 intro i j q z;have g:∀k,k<m->gD (kas_rev p 0 m) k=gD p (m-1-k):=λk I=>sy (by
  have:=getElem?_mirror_all (xs:=p) (i:=0) (j:=m) (by rw[h.size];exact J) k;rw[if_pos ⟨Nat.zero_le _,I⟩]at this;rw[show 0+m-1-k=m-1-k by lia]at this;exact this)
 rw[g i (!0),g j z];exact hs _ _ (!0) (!0)
theorem YW(O:Ord n r){p:Array Nat}(h:PrA n p)(h1:1<=n){Q:Nat×Array Nat->Prop}(q:∀m J,PrA n J->1<=m->m<=n->SP r J m->Q (m,J)):TW n r (kas_count n p) Q:=by
 show TW.bind _ (wV O h (n-1) 1 (Nat.le_refl _) (!0) (λi j z hj=>by lia) λm m1 m2 ms mo=>?_);by_cases N:m=n
 .rw[if_pos (!!N)];exact q m p h (!0) (!0) ms
 .rw[if_neg (!!N)];by_cases L:m > 1
  .rw[if_pos L];show⟨h.lt (!0),h.lt (!0),?_⟩;have e:r (p.getD 0 0) (p.getD (m-1) 0)=true:=ms 0 (m-1) (!0) (!0);rw[e];exact q m p h (!0) (!0) ms
  .rw[if_neg L];have Y:m=1:=by lia
   subst Y;have e:r (gD p 1) (gD p 0)=true:=mo.resolve_left (!0);show TW.bind _ (Hf O h (n-(1+1)) (1+1) (!0) (!0) (λi j z hj=>?_) λg m1' I hs=>?_)
   .have:i=0:=by lia
    have:j=1:=by lia
    subst_vars;exact e
   .rw[if_neg (!2)];show TW.bind _ (wV O (Hg h g) (n-g) g (!0) (!0) (YT h I hs) λm3 a1 a2 U y=>?_);exact q m3 _ (Hg h g) (!0) (!0) U
theorem wW(O:Ord n r){p:Array Nat}(h:PrA n p){k:Nat}(I:k<n)(hs:SP r p k){Q:Nat->Prop}:∀(f l u:Nat),l<=u->u<=k->u-l<=f->(∀i,i<l->r (gD p i) (gD p k)=true)->(∀i,u<=i->i<k->r (gD p k) (gD p i)=true)->
  (∀m,m<=k->(∀i,i<m->r (gD p i) (gD p k)=true)->(∀i,m<=i->i<k->r (gD p k) (gD p i)=true)->Q m)->TW n r (kas_place p k f l u) Q
 |0,l,u,h1,h2,h3,a,b,q=>q l (!0) a λi hi=>b i (!0)
 |f+1,l,u,h1,h2,h3,a,b,q=>by
  unfold kas_place;by_cases z:l≥u
  .rw[if_pos z];exact q l (!0) a λi hi=>b i (!0)
  .rw[if_neg z];show⟨h.lt (!0),h.lt (!0),?_⟩;cases e:r (p.getD k 0) (p.getD ((l+u)/2) 0) with
   |true=>
    show wW O h I hs f l ((l+u)/2) (!0) (!0) (!0) a (λi h1 h2=>?_) q;by_cases hi:i=(l+u)/2
    .subst hi;exact e
    .exact O.tr _ _ _ (h.lt (!0)) (h.lt (!0)) (h.lt (!0)) e (hs _ i (!0) (!0))
   |false=>
    have g:=O.tot _ _ (h.lt (!0)) (h.lt (!0)) (h.ne (!0) (!0) (by lia:k≠(l+u)/2)) e;show wW O h I hs f ((l+u)/2+1) u (!0) (!0) (!0) (λi h1=>?_) b q;by_cases hi:i=(l+u)/2
    .subst hi;exact g
    .exact O.tr _ _ _ (h.lt (!0)) (h.lt (!0)) (h.lt (!0)) (hs i _ (!0) (!0)) g
theorem Hh(O:Ord n r){Q:Array Nat->Prop}:∀(f:Nat)(p:Array Nat)(k:Nat),PrA n p->SP r p k->k+f=n->(∀z,PrA n z->SP r z n->Q z)->TW n r (kas_bin f p k) Q
 |0,p,k,h,hs,e,q=>q p h (by rw[<-e];exact hs)
 |f+1,p,k,h,hs,e,q=>by
  show TW.bind _ (wW O h (!0) hs k 0 k (!0) (!0) (!0) (λi hi=>by lia) (λi h1 h2=>by lia) λl hl a b=>?_);show Hh O f _ (k+1) ((bubble_perm _ _ _).trans h) (λi j I J=>?_) (!0) q;have g:∀x,gD (bubble p k (k-l)) x=if x=l then gD p k else if l<x/\x<=k then gD p (x-1) else gD p x:=λx=>by
   have:=getElem?_bubble (xs:=p) (src:=k) (by rw[h.size];lia) (k-l) (!0) x;rw[show k-(k-l)=l by lia]at this;by_cases h1:x=l
   .rw[if_pos h1]at this ⊢;exact sy this
   .rw[if_neg h1]at this ⊢;by_cases h2:l<x/\x<=k
    .rw[if_pos h2]at this ⊢;exact sy this
    .rw[if_neg h2]at this ⊢;exact sy this
  rw[g i,g j]
  repeat' split
  all_goals first
   | (exfalso;lia)
   |exact a _ (!0)
   |exact b _ (!0) (!0)
   |exact hs _ _ (!0) (!0)
theorem YX(O:Ord n r)(h1:1<=n){Q:Array Nat->Prop}(q:∀p,PrA n p->SP r p n->Q p):TW n r (kas_sort n) Q:=by
 show TW.bind _ (YW O (Array.Perm.refl _) h1 λm I z J L ms=>?_);dsimp only;by_cases g:m<n
 .rw[if_pos g];show Hh O _ _ _ z ?_ (!0) q;rw[show max m 1=m by lia];exact ms
 .rw[if_neg g];have:m=n:=by lia
  subst this;exact q I z ms
end
end PyProof.Rows
namespace PyProof.Rows
open PySem PySem.W
def TupAt (h:Heap) (v:AN) (k:Str×Int):Prop:=∃b o n t u,v=.ref b/\h.get? b=-o/\o.cls=.type "tuple"/\o.data=.seq #[.str k.1 t,.int k.2 u] n
def TupsAt(h:Heap)(vs:AB)(ks:List (Str×Int)):Prop:=vs⁻¹=ks⁻¹/\∀(i:Nat) v k,vs[i]?=-v->ks[i]?=-k->TupAt h v k
def kLt(ks:List (Str×Int))(i j:Nat):Bool:=match ks[i]?,ks[j]? with
 |some a,-b=>decide (a.1.cps.toList<b.1.cps.toList)
 |_,_=>false
def kLt_at{ks:List (Str×Int)}{i j:Nat}(hi:i<ks⁻¹)(g:j<ks⁻¹):kLt ks i j=decide (ks[i].1.cps.toList<ks[j].1.cps.toList):=by unfold kLt;rw[List.getElem?_eq_getElem hi,List.getElem?_eq_getElem g]
def Hi{a b:Str}(h:a.cps.toList=b.cps.toList):a=b:=by cases a;cases b;simp only[Array.toList_inj]at h;subst h;rfl
def YZ{ks:List (Str×Int)}(hn:(ks.map (·.1)).Nodup):Ord ks⁻¹ (kLt ks) where
 tr:=λi j k hi g L a b=>by
  rw[kLt_at hi g]at a;rw[kLt_at g L]at b;rw[kLt_at hi L];exact decide_eq_true (List.lt_trans (of_decide_eq_true a) (of_decide_eq_true b))
 tot:=λi j hi g z a=>by
  rw[kLt_at hi g]at a;rw[kLt_at g hi];have J:=of_decide_eq_false a;show decide_eq_true ?_;rcases List.le_total ks[i].1.cps.toList ks[j].1.cps.toList with h|h
  .show absurd ?_ z;have e:ks[i].1.cps.toList=ks[j].1.cps.toList:=List.le_antisymm h (List.not_lt.mp J);have I:=Hi e;have q:i<(ks.map (·.1))⁻¹:=by rw[List.length_map];exact hi
   show(List.getElem?_inj q hn).mp ?_;rw[List.getElem?_map,List.getElem?_map,List.getElem?_eq_getElem hi,List.getElem?_eq_getElem g];simp[I]
  .show Classical.byContradiction λhh=>?_;have e:ks[i].1.cps.toList=ks[j].1.cps.toList:=List.le_antisymm (List.not_lt.mp hh) (List.not_lt.mp J);show z ?_;have I:=Hi e;have q:i<(ks.map (·.1))⁻¹:=by rw[List.length_map];exact hi
   show(List.getElem?_inj q hn).mp ?_;rw[List.getElem?_map,List.getElem?_map,List.getElem?_eq_getElem hi,List.getElem?_eq_getElem g];simp[I]
 asm:=λi j hi g a=>by
  rw[kLt_at hi g]at a;rw[kLt_at g hi];exact decide_eq_false λh=>List.lt_asymm (of_decide_eq_true a) h
section
variable {prog:AK} {w:World} {A:AM} {E:AG} {s:AI}
def Y0{x y:AN}{a b:Str×Int}{Q:Bool->AI->Prop}(N:TupAt s.heap x a)(O:TupAt s.heap y b)(g:a.1=b.1->a=b)(h:Q (decide (a.1.cps.toList<b.1.cps.toList)) s):wpAny (model prog w) A (keyLt' (tuples' true) x y) Q E s:=by
 let(p,o,n,t,u,rfl,L,_,J):=N;let(Y,o',U,t',u',rfl,z,_,q):=O;show kat_lt L J z q (kat_cons (eqBool_str ?_));by_cases e:a.1=b.1
 .rw[e,BEq.rfl];have I:=g e;show kat_yes (kat_cons (wpAny_eqBool_int ?_));rw[I,BEq.rfl];show kat_yes (kat_nil ?_);rw[e]at h;rw[decide_eq_false (List.lt_irrefl _)]at h;exact h
 .rw[beq_eq_false_iff_ne.mpr e];exact kat_no (oneLt_str h)
def TupsAt.kat{h:Heap}:∀{vs:AB}{ks:List (Str×Int)},TupsAt h vs ks->∃fs,KatTups h vs fs/\fs⁻¹=vs⁻¹/\∀v∈fs,∃k t,v=Value.str k t
 |[],_,_=>⟨[],trivial,rfl,λy h=>nomatch h⟩
 |v::vs,[],⟨e,_⟩=>by simp at e
 |v::vs,k::ks,⟨e,hk⟩=>by
  let(fs,h1,h2,q):=TupsAt.kat (vs:=vs) (ks:=ks) ⟨!!e,λi J k' a b=>hk (i+1) J k' (!!a) (!!b)⟩;let(b,o,n,t,u,rfl,I,hc,z):=hk 0 v k rfl rfl;show⟨.str k.1 t::fs,KatTups.cons I hc z rfl h1,by simp[h2],λx g=>?_⟩;rcases List.mem_cons.mp g with rfl|g
  .exact ⟨_,_,rfl⟩
  .exact q x g
def TupsAt.keep {h h':Heap} {vs:AB} {ks:List (Str×Int)} (x:TupsAt h vs ks) (k:∀b o,h.get? b=-o->o.cls=.type "tuple"->h'.get? b=-o):TupsAt h' vs ks:=
 ⟨x.1,λi v kk a b=>by
  let(p,o,n,t,u,e,q,hc,g):=x.2 i v kk a b;exact⟨p,o,n,t,u,e,k p o q hc,hc,g⟩⟩
def eU(vs:AB)(p:AA):AB:=p.map λi=>vs.getD i Value.none
theorem Y4 {a:AQ} {vs:AB} {ks:List (Str×Int)} {n:Nat} {P:Fin->AI->Prop} (Y:s.heap.get? a=-(seqObj "list" vs.toArray n)) (ht:TupsAt s.heap vs ks) (hn:(ks.map (·.1)).Nodup) (h64:vs⁻¹<64)
  (h:∀p:AA,p.Perm (List.range ks⁻¹)->p.Pairwise (λi j=>kLt ks i j=true)->P (.done (.ret .none)) {s with heap:=sortedHeap s.heap a vs (eU vs p).toArray}):
  wpAny (model prog w) A (Builtin.«list.sort» ⟨[.ref a],[]⟩) P E s:=by
 rw[list_sort_plain];have ha:a<(~~~s):=Heap.lt_size Y;show wpAny_bind (listItems_at Y rfl ?_);show wpAny_bind (listUpdate_at Y rfl ?_);obtain⟨O,ho1⟩:∃O,(s.heap.update a (Obj.mapSeq λy=>#[])).get? a=-(seqObj "list" #[] O):=⟨_,get?_update_seq Y (λy=>#[])⟩;show wpAny_bind (seqEpoch_at ho1 rfl ?_);show wpAny_bind (wpAny_newTuple ?_);show wpAny_bind (wpAny_newList ?_);show wpAny_holding ?_;have q:(((s.heap.update a (Obj.mapSeq λy=>#[])).push (seqObj "tuple" vs.toArray 0)).push (seqObj "list" #[] 0)).get? a=-(seqObj "list" #[] O):=by rw[Heap.get?_push_ne _ _ _ (by rw[size_push',Heap.size_update];exact Nat.ne_of_lt (Nat.lt_succ_of_lt ha)),Heap.get?_push_ne _ _ _ (by rw[Heap.size_update];exact Nat.ne_of_lt ha)];exact ho1
 change wpAny (model prog w) A _ P E {s with heap:=((s.heap.update a (Obj.mapSeq λy=>#[])).push (seqObj "tuple" vs.toArray 0)).push (seqObj "list" #[] 0)};dsimp only;have hsz:vs.toArray.size=vs⁻¹:=by simp
 have N:=ht.1;have L:TupsAt (((s.heap.update a (Obj.mapSeq λy=>#[])).push (seqObj "tuple" vs.toArray 0)).push (seqObj "list" #[] 0)) vs ks:=ht.keep λb o hb hc=>by
  have hne:b≠a:=by rintro rfl;rw[Y]at hb;cases hb;exact absurd hc (by intro z;injection z with z;exact absurd z (!1))
  exact Heap.get?_push_of_some _ (Heap.get?_push_of_some _ (by rw[Heap.get?_update_ne _ _ _ _ hne];exact hb))
 by_cases h2:vs.toArray.size<2
 .rw[if_pos h2,if_pos h2];show wpAny_bind (wpAny_pure ?_);rw[StateT.run_pure];show wpAny_bind (wpAny_pure ?_);dsimp only;show wpAny_bind (seqEpoch_at q rfl ?_);show wpAny_bind (listUpdate_at q rfl ?_ (hsz2:=by rw[Array.size_map];change(pairsOf vs).size<=_;rw[pairsOf_size,sizeLine_eq];lia));simp only[bne_self_eq_false,Bool.false_eq_true,if_false];have hh:=h (List.range ks⁻¹) (List.Perm.refl _) (by
   have hk2:ks⁻¹<2:=by lia
   match ks,hk2 with
   |[],_=>exact List.Pairwise.nil
   |[_],_=>exact List.pairwise_singleton _ _)
  have eo:(eU vs (List.range ks⁻¹)).toArray=(arrOf (SortSt.mk' general' (vs.toArray.zip vs.toArray) #[] 7 none)).map (·.2):=by
   change _=(vs.toArray.zip vs.toArray).map (·.2);rw[<-N];apply Array.toList_inj.mp;have O:eU vs (List.range vs⁻¹)=vs:=List.ext_getElem (by simp[eU]) λi h1 h2=>by simp[eU,h2]
   rw[O];simp[List.map_snd_zip]
  rw[eo]at hh;exact wpAny_pure hh
 .rw[if_neg h2,if_neg h2];let(fs,k1,k2,k3):=L.kat;have hM:∀v∈fs,Looks (model prog w) (((s.heap.update a (Obj.mapSeq λy=>#[])).push (seqObj "tuple" vs.toArray 0)).push (seqObj "list" #[] 0)) (typeOf v) (.type "str"):=λv hv=>by
   let(k,t,rfl):=k3 v hv;exact Looks.of_pure rfl
  show wpAny_bind (kat_kind (s:={s with heap:=((s.heap.update a (Obj.mapSeq λy=>#[])).push (seqObj "tuple" vs.toArray 0)).push (seqObj "list" #[] 0)}) k1 (!0) hM (!1) ?_);show wpAny_bind (wpAny_mono (kat_run (ks:=vs) (vs:=vs) (E:=E) (s:={s with heap:=((s.heap.update a (Obj.mapSeq λy=>#[])).push (seqObj "tuple" vs.toArray 0)).push (seqObj "list" #[] 0)})
   (Q:=λI s'=>s'={s with heap:=((s.heap.update a (Obj.mapSeq λy=>#[])).push (seqObj "tuple" vs.toArray 0)).push (seqObj "list" #[] 0)}/\∃p:Array Nat,PrA vs⁻¹ p/\SP (kLt ks) p vs⁻¹/\(arrOf I).map (·.2)=(eU vs p.toList).toArray/\failedOf I=none)
   (G:=λp s'=>s'={s with heap:=((s.heap.update a (Obj.mapSeq λy=>#[])).push (seqObj "tuple" vs.toArray 0)).push (seqObj "list" #[] 0)}/\PrA vs⁻¹ p/\SP (kLt ks) p vs⁻¹)
   rfl (!0) h64 (λp I s' a1 a2 a3 a4=>⟨a4.1,p,a4.2.1,a4.2.2,kat_snds rfl a2,a3⟩) ?_) ?_ λy y e=>e)
  .show TW.run (n:=vs⁻¹) (r:=kLt ks) (λi j C hi U hC=>?_) (λp hp=>⟨rfl,hp⟩) _ (YX (by rw[N];exact YZ hn) (!0) λp p1 p2=>⟨p1,p2⟩);unfold kas_ask;have g:i<ks⁻¹:=by lia
   have J:j<ks⁻¹:=by lia
   have gi:vs.getD i Value.none=vs[i]:=by simp[hi]
   have gj:vs.getD j Value.none=vs[j]:=by simp[U]
   rw[gi,gj];show Y0 (L.2 i _ _ (List.getElem?_eq_getElem hi) (List.getElem?_eq_getElem g)) (L.2 j _ _ (List.getElem?_eq_getElem U) (List.getElem?_eq_getElem J)) (λe=>?_) ?_
   .have:i=j:=(List.getElem?_inj (by rw[List.length_map];exact g) hn).mp (by
     rw[List.getElem?_map,List.getElem?_map,List.getElem?_eq_getElem g,List.getElem?_eq_getElem J];simp[e])
    subst this;rfl
   .rw[<-kLt_at g J];exact hC
  .rintro ⟨⟨⟩,I⟩ s' ⟨rfl,p,hp,hs,har,hf⟩;dsimp only;rw[har];show wpAny_bind (seqEpoch_at q rfl ?_);have hpl:p.toList⁻¹=vs⁻¹:=by rw[Array.length_toList,hp.size]
   show wpAny_bind (listUpdate_at q rfl ?_ (hsz2:=by rw[List.size_toArray];unfold eU;rw[List.length_map,hpl,sizeLine_eq];lia));rw[hf];simp only[bne_self_eq_false,Bool.false_eq_true,if_false];show wpAny_pure (h p.toList (by have:=Array.perm_iff_toList_perm.mp hp;rw[N]at this;simpa using this) ?_);rw[List.pairwise_iff_getElem];intro i j hi U hij;have:=hs i j hij (!0);rw[Array.length_toList]at hi U;simp only[gD,Array.getD,hi,U,dif_pos]at this;simpa using this
def Y5{l:AQ}{vs:AB}{ks:List (Str×Int)}{Q:AG}(hl:s.heap.IsList l vs.toArray)(ht:TupsAt s.heap vs ks)(hn:(ks.map (·.1)).Nodup)(I:vs⁻¹<64)
  (h:∀(p:AA) (h':Heap) (e:Nat),p.Perm (List.range ks⁻¹)->p.Pairwise (λi j=>kLt ks i j=true)->(∀b o,s.heap.get? b=-o->h'.get? b=-o)->h'.get? ((~~~s)+1)=-(seqObj "list" (eU vs p).toArray e)->Q (.ref ((~~~s)+1)) {s with heap:=h'}):
  wpAny (model prog w) A (call (.builtin "sorted") [.ref l]) Q E s:=by
 show Calls.call_function_entry kind_sorted plain_sorted entry_sorted (args_sorted1 _) ?_;unfold Builtin.«sorted»;show wpAny_bind (m:=checkCount "sorted" 1 1 _) (wpAny_pure ?_);show wpAny_bind (collect_list hl ?_);show wpAny_bind (wpAny_newList ?_);have hsz:((s.heap.push (seqObj "list" #[] 0)).update (~~~s) (Obj.mapSeq (·++vs.toArray))).objs.size=(~~~s)+1:=by rw[Heap.size_update,size_push']
 have z:(((s.heap.push (seqObj "list" #[] 0)).update (~~~s) (Obj.mapSeq (·++vs.toArray))).push (seqObj "list" vs.toArray 0)).get? ((~~~s)+1)=-(seqObj "list" vs.toArray 0):=by rw[<-hsz];exact Heap.get?_push_size _ rfl
 have keep:∀b o,s.heap.get? b=-o->(((s.heap.push (seqObj "list" #[] 0)).update (~~~s) (Obj.mapSeq (·++vs.toArray))).push (seqObj "list" vs.toArray 0)).get? b=-o:=λb o q=>by
  have g:b<(~~~s):=Heap.lt_size q;rw[Heap.get?_push_ne _ _ _ (by rw[hsz];exact Nat.ne_of_lt (Nat.lt_succ_of_lt g)),Heap.get?_update_ne _ _ _ _ (Nat.ne_of_lt g),Heap.get?_push_ne _ _ _ (Nat.ne_of_lt g)];exact q
 change wpAny _ _ _ _ _ {s with heap:=((s.heap.push (seqObj "list" #[] 0)).update (~~~s) (Obj.mapSeq (·++vs.toArray))).push (seqObj "list" vs.toArray 0)};rw[hsz];show wpAny_bind (wpAny_holding (wpAny_call_entry slot_list_sort ⟨_,z,rfl⟩ entry_list_sort (Y4 (s:={s with heap:=((s.heap.push (seqObj "list" #[] 0)).update (~~~s) (Obj.mapSeq (·++vs.toArray))).push (seqObj "list" vs.toArray 0)}) z (ht.keep λb o q y=>keep b o q) hn I λp L p2=>⟨_,rfl,?_⟩) (args_list_sort _)));let(e,he):=sortedHeap_at (vs:=vs) (out:=(eU vs p).toArray) z;show wpAny_pure ⟨_,rfl,h p _ e L p2 (λb o J=>?_) he⟩;have g:b<(~~~s):=Heap.lt_size J;rw[sortedHeap_old (Nat.ne_of_lt (Nat.lt_succ_of_lt g)) (Nat.lt_of_lt_of_le g (by rw[size_push',hsz];exact Nat.le_add_right _ 2))];exact keep b o J
end
end PyProof.Rows
namespace L2
open PySem PySem.Spec PyProof.Rows
section
variable {X:Cx}
def Y6:V->AR->Hp->VK->Prop:=λx vs H Q=>∃a g k d,x=.ref a/\vs=[kV k,d]/\H a=-(.dK g)/\Q ((bA g k).getD d) H
def Y7:MtR X "dict.get" Y6:=by
 intro p9 s Y H x vs v us Q I rx rv h;let(a,kvs,k,d,rfl,rfl,hH,q):=h;cases rx;obtain⟨O,g,rfl,J,L⟩:∃O g,us=[O,g]/\RelV (kV k) O/\RelV d g:=by
  cases rv with
  |cons J t=>cases t with
   |cons L t=>cases t;exact⟨_,_,rfl,J,L⟩
 let(z,hd,vs,N,U):=wM I.hok hH;show call_meetsIn PySem.F.slot_dict_get U.typeIs PySem.F.entry_dict_get (PySem.F.args_dict_get_3 _ _ _) (meets_dict_get_default (bQ X.prog X.w) a (jz J) hd g) ⟨_,U.mapOf,?_⟩;exact⟨_,H,I.tok _,(N.val k).getD L,q⟩
def ItK(a:AQ)(o:Obj)(g:List (Key×V)):It:=
 ⟨λi H=>H a=-(.frz o (.dK g))/\i<g⁻¹,λi H x H'=>H'=H/\∃q,g[i]?=-q/\x=kV q.1,λi H=>H a=-(.frz o (.dK g))/\i=g⁻¹⟩
def Y8{P:AK}{w:World}{k:Key}{u:AN}(h:(bQ P w).is k u):RelV (kV k) u:=by
 cases k with
 |inl i=>
  cases u with
  |int j t=>
   have:=h;have e:i=j:=by have z:=(bQ P w).is_eq_decide (Ds P w j t) (Sum.inl i);rw[h]at z;have:=df z.symm;cases this;rfl
   subst e;exact⟨t,rfl⟩
  |_=>exact absurd h (by simp[bQ,gM,Value.isInt,Value.isStrOf])
 |inr x=>
  cases u with
  |str y t=>
   have e:x=y:=by have z:=(bQ P w).is_eq_decide (Dt P w y t) (Sum.inr x);rw[h]at z;have:=df z.symm;cases this;rfl
   subst e;exact⟨t,rfl⟩
  |_=>exact absurd h (by simp[bQ,gM,Value.isInt,Value.isStrOf])
def pairs_at{P:AK}{w:World}{es:List DictEntry}{vs:List (Key×AN)}(h:Pairs (bQ P w) es vs):∀{i:Nat}{e:DictEntry},es[i]?=-e->∃g,vs[i]?=-g/\(bQ P w).is g.1 e.key=true:=by
 induction h with
 |nil=>intro i e he;simp at he
 |cons h1 _ _ q=>
  intro i e he;cases i with
  |zero=>cases he;exact⟨_,rfl,h1⟩
  |succ i=>exact q (!!he)
def Y9{g:List (Key×V)}{vs:List (Key×AN)}(r:KV g vs){i:Nat}{z:Key×AN}(h:vs[i]?=-z):∃p,g[i]?=-p/\p.1=z.1:=by
 have e:=KV.keys r;have h1:(vs.map (·.1))[i]?=-z.1:=by rw[a8,h];rfl
 rw[<-e,a8]at h1;let(p,I,q):=aT.mp h1;exact⟨p,I,q⟩
theorem Za{P:AK}{w:World}{K:PF}{tg:AO}(a it:AQ)(o:Obj)(J:List (Key×V))(es:Array DictEntry)(ep:Nat)(hd:o.data=.dict es ep)(hl:es.size=J⁻¹):Turn P w K tg (ItK a o J) [it] it (λi h=>h.IsKeyIter it a i es.size ep) where
 mem:=by simp
 obj:=λi h st b L=>by
  have e:b=it:=by simpa using L
  subst e;let(o,e,c,d):=st;exact⟨o,e,λv z=>by rw[d]at z;cases z⟩
 keep:=λi h h' st k=>by
  let(o,e,c,d):=st;exact⟨o,k it (!2) o e,c,d⟩
 item:=by intro X hP hw hK hc i p9 s Y H E I hf st hg;subst hP hw hK;let(hq,hi):=hg;let(N,z,hsm,vs,O,o',es',ep',q,hx,g,hko,hp,hnd):=(show ObjOk X.prog X.w H s.heap a (.frz o (.dK J)) from I.hok a _ hq);rw[N]at q;cases q;rw[hd]at g;cases g;let(f0,f1,f2,f3,f4,f5):=hf it (!2);show G8 (d:=a) (es:=es) (ep:=ep) st ⟨o,N,hx,hd⟩ (!0) λh' U sb=>?_;have I1:Inv X p9 Y H {s with heap:=h'}:=I.turned (t':=s.toks) (λb o L e=>(sb.2 b L).trans e) f0 f1 f3 f4 f5;let(o2,e2,c2,d2):=id U;let(kv,hk1,hk2):=pairs_at hp (i:=i) (e:=es[i]'(!0)) (by rw[eR,Array.getElem?_eq_getElem]);let(p,hp1,hp2):=Y9 O hk1;exact⟨_,rfl,jn (s:={s with heap:=h'}) e2 c2 d2 (!1) ⟨kV p.1,H,I1,by rw[hp2];exact Y8 hk2,⟨rfl,p,hp1,rfl⟩,U,λb L=>(hf b L).1⟩⟩
 done:=by
  intro X hP hw hK hc i p9 s Y H E I hf st hg;subst hP hw hK;let(hq,hi):=hg;let(N,z,hsm,vs,O,o',es',ep',q,hx,g,hko,hp,hnd):=(show ObjOk X.prog X.w H s.heap a (.frz o (.dK J)) from I.hok a _ hq);rw[N]at q;cases q;rw[hd]at g;cases g;let(f0,f1,f2,f3,f4,f5):=hf it (!2);have hlt:i=es.size:=by lia
  subst hlt;exact Ha (I.ok.hd hc) st ⟨o,N,hx,hd⟩ λh' eb=>⟨rfl,I.turned (t':=s.toks) (λb o L e=>eb b o L e) f0 f1 f3 f4 f5⟩
 self:=λy y y y y st h=>wpAny_pyIter_keyiter st h
def Zb(tl:TE):TI:=λY H R=>tl Y H λx H1=>∃a g,x=.ref a/\H1 a=-(.dK g)/\∀o,R (ItK a o g) (upd H1 a (.frz o (.dK g)))
def Zc{tg l:AO}{tl:TE}(hl:PE X l tl):PI X tg l (Zb tl):=by
 intro p9 s Y H R I h;show thn (hl p9 s Y H _ I h) λv g zZ=>?_;let(x,H1,I1,r1,q1):=zZ;let(a,J,e,hq,q):=q1;subst e;cases r1;let(z,L,vs,N,dd):=wM I1.hok hq;let(o,es,ep,U,hx,hd,hko,hp,hnd):=id dd;show GZ L ⟨o,U,hx,hd⟩ ?_;have O:Inv X p9 Y (upd H1 a (.frz o (.dK J))) {g with heap:=g.heap,toks:=g.toks}:=wO (t':=g.toks) I1 (by rw[hq];exact fm) (Heap.SameBut.refl _ _) ⟨o,U⟩ ⟨U,z,L,vs,N,dd⟩;have hsz:es.size=J⁻¹:=by rw[<-cK,hp⁻¹,N⁻¹]
 show⟨g.heap.objs.size,[g.heap.objs.size],_,_,_,rfl,O.kept (t':=g.toks) λb o e=>ah _ e,Za a _ o J es ep hd hsz,⟨_,a7 _ rfl,rfl,rfl⟩,λb hb=>?_,q o⟩;have e:b=g.heap.objs.size:=by simpa using hb
 subst e;exact O.fpOk (ar _) (O.hok.fresh (ar _))
theorem Zd:bD X (.builtin "sorted") (λxs H Q=>∃(p:AQ) (bs:List AQ) (ks:List (Str×Int)),xs=[.ref p]/\SqL X.K H p (bs.map V.ref)/\bs⁻¹=ks⁻¹/\(∀(i:Nat) (b:AQ) (k:Str×Int),bs[i]?=-b->ks[i]?=-k->H b=-(.tup [.str k.1,.int k.2]))/\(ks.map (·.1)).Nodup/\ks⁻¹<64/\
  ∀ps:AA,ps.Perm (List.range ks⁻¹)->ps.Pairwise (λi j=>kLt ks i j=true)->∀l,H l=none->Q (.ref l) (upd H l (.lst (ps.map λi=>V.ref (bs.getD i 0))))):=by
 intro p9 s Y H xs us Q I r h;let(p,bs,ks,rfl,hq,hlb,hb,hn,h64,q):=h;let(u,rfl,U):=vals1 r;cases U;let(g,rv,pl,hz):=I.list hq;have hlen:g⁻¹=bs⁻¹:=by rw[<-rv⁻¹];simp
 have J:∀(i:Nat)(b:AQ),bs[i]?=-b->g[i]?=-(.ref b):=λi b L=>by
  let(u,hu,U):=rv.get (i:=i) (x:=.ref b) (by rw[a8,L];rfl);rw[hu,show u=Value.ref b from U]
 have ht:TupsAt s.heap g ks:=⟨!0,λi v k hv hk=>by
  have hi:i<bs⁻¹:=by have:=(av.mp hv).1;lia
  have e:=J i _ (ai hi);rw[hv]at e;cases e;let(_,us,rr,o,h1,h2,n,h3):=(show ObjOk X.prog X.w H s.heap bs[i] (.tup [.str k.1,.int k.2]) from I.hok _ _ (hb i _ k (ai hi) hk));obtain⟨t,u,rfl⟩:∃t u,us=[Value.str k.1 t,.int k.2 u]:=by
   cases rr with
   |cons r1 tt=>cases tt with
    |cons r2 tt=>
     cases tt;let(t,rfl):=r1;let(u,rfl):=r2;exact⟨t,u,rfl⟩
  exact⟨_,o,n,t,u,rfl,h1,h2.1,h3⟩⟩
 show Y5 pl.isList ht hn (!0) λps h' e O p2 kp he=>?_;have N:∀i∈ps,i<bs⁻¹:=λi hi=>by have:=O.mem_iff.mp hi;rw[ga]at this;lia
 have hsz:(ps.map λi=>V.ref (bs.getD i 0))⁻¹<=sizeLine:=by rw[ag,O.length_eq,cp,ff];lia
 show⟨.ref ((~~~s)+1),_,I.laid (t':=s.toks) kp (dk _) (show ObjOk X.prog X.w _ _ _ (.lst _) from⟨hsz,eU g ps,e,?_,he⟩),rfl,q ps O p2 _ (I.hok.fresh (dk _))⟩;unfold eU;have:∀z:AA,(∀i∈z,i<bs⁻¹)->Vals (z.map λi=>V.ref (bs.getD i 0)) (z.map λi=>g.getD i Value.none):=by
  intro z;induction z with
  |nil=>intro _;exact .nil
  |cons i z ih=>
   intro hh;show .cons ?_ (ih λj hj=>hh j (aS _ hj));have hi:=hh i ba;have:=J i _ (ai hi);change g.getD i Value.none=Value.ref (bs.getD i 0);rw[bi,this,bi,ai hi];rfl
 exact this ps N
end
end L2
namespace RF
open PySem PySem.Spec PyProof.Rows L2
inductive D where
 |non |bl (b:Bool) |int (i:Int) |str (l:AA) |tup (xs:List D) |lst (xs:List D) |ref (a:AQ) |scr (ns:List Int) |exn (C:AL) |exa (C f:AL) (d:D) |obj (C f:AL) (q:AQ) |dct (ks:List (List Int)) (ds:List D)
 deriving Inhabited
abbrev AS:=List D
inductive DO where
 |lst (xs:AS)
 |dct (ks:List (List Int)) (ds:AS)
 deriving Inhabited
abbrev DH:=AQ->Option DO
abbrev AT:=D->DH->Prop
def aK(G:DH)(a:AQ)(o:DO):DH:=λb=>if b=a then some o else G b
def gP(G:DH)(a:AQ):DH:=λb=>if b=a then none else G b
def aY{G:DH}{a:AQ}{o:DO}:aK G a o a=-o:=if_pos rfl
def bu{G:DH}{a b:AQ}{o:DO}(h:b≠a):aK G a o b=G b:=if_neg h
def wX{G:DH}{a:AQ}:gP G a a=none:=if_pos rfl
def jB{G:DH}{a b:AQ}(h:b≠a):gP G a b=G b:=if_neg h
def Ze{G:DH}{a:AQ}{o u:DO}:aK (aK G a o) a u=aK G a u:=by funext b;unfold aK;split<;>rfl
def Hj{G:DH}{a:AQ}{o:DO}(h:G a=none):gP (aK G a o) a=G:=by
 funext b;unfold aK gP;split
 .rename_i e;rw[e,h]
 .rename_i e;exact if_neg e
def lJ{G:DH}{a b:AQ}{o:DO}(h:G a=-o)(h':G b=none):a≠b:=by intro e;subst e;rw[h]at h';cases h'
abbrev sz:Nat:=1000000
abbrev FZ:=AQ->Prop
def FzL(H:Hp)(F:FZ)(a:AQ)(vs:AR):Prop:=F a/\H a=-(.lst vs)
def FzL.sq{K:PF}{H:Hp}{F:FZ}{a:AQ}{vs:AR}(h:FzL H F a vs):SqL K H a vs:=.inl (.inl h.2)
structure TpT(K:PF)(H:Hp)(a:AQ)(vs:AR):Prop where
 it:H a=some (.tup vs)
def TpT.sq{K:PF}{H:Hp}{a:AQ}{vs:AR}(h:TpT K H a vs):SqT K H a vs:=.inl (.inl h.it)
def ScL(K:PF)(H:Hp)(a:AQ)(vs:AR):Prop:=
 (∃o,H a=-(.frz o (.lst vs)))\/
  ∃(o:Obj) (its:Array AN) (n:Nat),K.lookup a=-o/\o.cls=.type "list"/\o.dict=none/\o.data=.seq its n/\its.size<=sizeLine/\Vals vs its.toList
def ScL.sq{K:PF}{H:Hp}{a:AQ}{vs:AR}(h:ScL K H a vs):SqL K H a vs:=by
 rcases h with⟨o,h⟩|h
 .exact .inl (.inr ⟨o,h⟩)
 .exact .inr h
def bF(k:List Int):List Key:=k.map Sum.inl
def FzO(H:Hp)(F:FZ)(a c dx:AQ)(f:Str)(q:AQ):Prop:=F a/\H a=-(.ins c dx [(f,.ref q)])
mutual
def Rep(K:PF)(H:Hp)(F:FZ):D->V->Prop
 |.non,v=>v=.non
 |.bl b,v=>v=.bl b
 |.int i,v=>v=.int i
 |.str l,v=>v=.str (tx l)/\l⁻¹<=sz
 |.tup ds,v=>∃a vs,v=.ref a/\TpT K H a vs/\Reps K H F ds vs
 |.lst ds,v=>∃a vs,v=.ref a/\FzL H F a vs/\Reps K H F ds vs
 |.ref a,v=>v=.ref a
 |.scr ns,v=>∃a,v=.ref a/\ScL K H a (ns.map V.int)
 |.obj C f q,v=>∃a c dx,v=.ref a/\FzO H F a c dx (⇑f) q/\PySem.W.nsIn K mainGlobals (⇑C)=-(-(.ref c))
 |.exa C f d,v=>∃a c dx ob od,∃(y:AQ)(u:V),v=.ref a/\(H a=-(.frz ob (.own y))/\ob.cls=.ref c/\ob.dict=-dx/\PySem.W.notCls ob=true)/\H dx=-(.frz od (.xd [(⇑f,u)]))/\Rep K H F d u/\PySem.W.nsIn K mainGlobals (⇑C)=-(-(.ref c))
 |.dct ks ds,v=>∃(a:AQ)(kv:List (List Key×V)),v=.ref a/\(F a/\H a=-(.dT kv))/\kv.map (·.1)=ks.map bF/\Reps K H F ds (kv.map (·.2))
 |.exn C,v=>∃a c,v=.ref a/\XO H a c/\PySem.W.nsIn K mainGlobals (⇑C)=-(-(.ref c))
def Reps(K:PF)(H:Hp)(F:FZ):AS->AR->Prop
 |[],vs=>vs=[]
 |d::ds,vs=>∃v r,vs=v::r/\Rep K H F d v/\Reps K H F ds r
end
structure Ext(H:Hp)(F:FZ)(H':Hp)(F':FZ):Prop where
 sub:∀a,F a->F' a
 keep:∀a,F a->H' a=H a
 tups:∀a xs,H a=some (.tup xs)->H' a=some (.tup xs)
 frzs:∀a o u,H a=some (.frz o u)->H' a=some (.frz o u)
def Ext.refl(H:Hp)(F:FZ):Ext H F H F:=⟨λz h=>h,λz z=>rfl,λz z h=>h,λz z z h=>h⟩
def Ext.trans{H H1 H2:Hp}{F g q:FZ}(a:Ext H F H1 g)(b:Ext H1 g H2 q):Ext H F H2 q:=
 ⟨λc h=>b.sub c (a.sub c h),λc h=>(b.keep c (a.sub c h)).trans (a.keep c h),λc xs h=>b.tups c xs (a.tups c xs h),λc o u h=>b.frzs c o u (a.frzs c o u h)⟩
section
variable {K:PF} {H H':Hp} {F F':FZ}
def TpT.ext{a:AQ}{vs:AR}(x:Ext H F H' F')(h:TpT K H a vs):TpT K H' a vs:=⟨x.tups _ _ h.it⟩
def FzL.ext{a:AQ}{vs:AR}(x:Ext H F H' F')(h:FzL H F a vs):FzL H' F' a vs:=⟨x.sub _ h.1,(x.keep _ h.1).trans h.2⟩
def ScL.ext{a:AQ}{vs:AR}(x:Ext H F H' F')(h:ScL K H a vs):ScL K H' a vs:=by
 rcases h with⟨o,h⟩|h
 .exact .inl ⟨o,x.frzs _ _ _ h⟩
 .exact .inr h
mutual
theorem Rep.ext(x:Ext H F H' F'):∀{d:D}{v:V},Rep K H F d v->Rep K H' F' d v
 |.non,_,h=>h
 |.bl _,_,h=>h
 |.int _,_,h=>h
 |.str _,_,h=>h
 |.tup _,_,⟨a,vs,e,q,r⟩=>⟨a,vs,e,TpT.ext x q,Reps.ext x r⟩
 |.lst _,_,⟨a,vs,e,q,r⟩=>⟨a,vs,e,FzL.ext x q,Reps.ext x r⟩
 |.ref _,_,h=>h
 |.scr _,_,⟨a,e,q⟩=>⟨a,e,ScL.ext x q⟩
 |.obj _ _ _,_,⟨a,c,dx,e,⟨hf,hh⟩,n⟩=>⟨a,c,dx,e,⟨x.sub _ hf,(x.keep _ hf).trans hh⟩,n⟩
 |.dct _ _,_,⟨a,kv,e,⟨hf,hh⟩,hk,t⟩=>⟨a,kv,e,⟨x.sub _ hf,(x.keep _ hf).trans hh⟩,hk,Reps.ext x t⟩
 |.exn _,_,⟨a,c,e,⟨o,y,q,hc⟩,n⟩=>⟨a,c,e,⟨o,y,x.frzs _ _ _ q,hc⟩,n⟩
 |.exa _ _ _,_,⟨a,c,dx,ob,od,y,u,e,⟨q,h1,h2,h3⟩,qd,r,n⟩=>⟨a,c,dx,ob,od,y,u,e,⟨x.frzs _ _ _ q,h1,h2,h3⟩,x.frzs _ _ _ qd,Rep.ext x r,n⟩
theorem Reps.ext(x:Ext H F H' F'):∀{ds:AS}{vs:AR},Reps K H F ds vs->Reps K H' F' ds vs
 |[],_,h=>h
 |_::_,_,⟨v,r,e,h,t⟩=>⟨v,r,e,Rep.ext x h,Reps.ext x t⟩
end
theorem Reps.nil:Reps K H F [] []:=rfl
def Reps.cons{d:D}{v:V}{ds:AS}{vs:AR}(h:Rep K H F d v)(t:Reps K H F ds vs):Reps K H F (d::ds) (v::vs):=⟨v,vs,rfl,h,t⟩
def Reps.length:∀{ds:AS}{vs:AR},Reps K H F ds vs->ds⁻¹=vs⁻¹
 |[],_,h=>by cases h;rfl
 |_::_,_,⟨v,r,e,_,t⟩=>by subst e;simp[Reps.length t]
def Reps.append:∀{ds es:AS}{vs us:AR},Reps K H F ds vs->Reps K H F es us->Reps K H F (ds++es) (vs++us)
 |[],_,_,_,h,t=>by cases h;exact t
 |_::_,_,_,_,⟨v,r,e,h,t⟩,t'=>by subst e;exact⟨v,_,rfl,h,Reps.append t t'⟩
def Reps.get:∀{ds:AS}{vs:AR}{i:Nat}{d:D},Reps K H F ds vs->ds[i]?=-d->∃v,vs[i]?=-v/\Rep K H F d v
 |[],_,_,_,_,e=>by simp at e
 |_::_,_,0,_,⟨v,r,e,h,t⟩,q=>by subst e;simp at q;subst q;exact⟨v,rfl,h⟩
 |_::_,_,i+1,d,⟨v,r,e,h,t⟩,q=>by
  subst e;let(u,h1,h2):=Reps.get (i:=i) (d:=d) t (!!q);exact⟨u,!!h1,h2⟩
def Reps.set{d:D}{v:V}(r:Rep K H F d v):∀{ds:AS}{vs:AR}(i:Nat),Reps K H F ds vs->Reps K H F (ds.set i d) (vs.set i v)
 |[],_,_,h=>by cases h;exact rfl
 |_::_,_,0,⟨v',r',e,h,t⟩=>by subst e;exact⟨_,_,rfl,r,t⟩
 |_::_,_,i+1,⟨v',r',e,h,t⟩=>by subst e;exact⟨_,_,rfl,h,Reps.set r i t⟩
def Reps.take:∀{ds:AS}{vs:AR}(n:Nat),Reps K H F ds vs->Reps K H F (ds.take n) (vs.take n)
 |_,_,0,_=>rfl
 |[],_,_+1,h=>by cases h;exact rfl
 |_::_,_,n+1,⟨v',r',e,h,t⟩=>by subst e;exact⟨_,_,rfl,h,Reps.take n t⟩
def Reps.drop:∀{ds:AS}{vs:AR}(n:Nat),Reps K H F ds vs->Reps K H F (ds.drop n) (vs.drop n)
 |_,_,0,h=>h
 |[],_,_+1,h=>by cases h;exact rfl
 |_::_,_,n+1,⟨v',r',e,h,t⟩=>by subst e;exact Reps.drop n t
def Reps.cut{ds:AS}{vs:AR}(h:Reps K H F ds vs)(lo hi:Option Int):
  Reps K H F ((ds.drop (HT.sIx ds⁻¹ 0 lo)).take (HT.sIx ds⁻¹ ds⁻¹ hi-HT.sIx ds⁻¹ 0 lo)) (eQ vs lo hi):=by
 unfold eQ;rw[<-h⁻¹];exact(h.drop _).take _
def Reps.rep{ds:AS}{vs:AR}(h:Reps K H F ds vs):∀k:Nat,Reps K H F (List.replicate k ds).flatten (List.replicate k vs).flatten
 |0=>rfl
 |k+1=>by
  rw[cy,cy,eT,eT];exact Reps.append h (Reps.rep h k)
end
def Zf(K:PF)(H:Hp)(F:FZ)(a:AQ):DO->Prop
 |.lst ds=>∃vs,H a=-(.lst vs)/\Reps K H F ds vs
 |.dct ks ds=>∃g:List (List Key×V),H a=-(.dT g)/\g.map (·.1)=ks.map bF/\Reps K H F ds (g.map (·.2))
structure R(K:PF)(H:Hp)(F:FZ)(G:DH):Prop where
 fz:∀a,F a->G a=none/\∃o,H a=some o
 ob:∀a o,G a=some o->Zf K H F a o
section
variable {K:PF} {H:Hp} {F:FZ} {G:DH} {p:AQ} {vs:AR} {ds:AS}
def R.lst(r:R K H F G)(h:G p=-(.lst ds)):∃vs,H p=-(.lst vs)/\Reps K H F ds vs:=r.ob p _ h
def R.dct{ks:List (List Int)}(r:R K H F G)(h:G p=-(.dct ks ds)):∃g:List (List Key×V),H p=-(.dT g)/\g.map (·.1)=ks.map bF/\Reps K H F ds (g.map (·.2)):=r.ob p _ h
def R.free(r:R K H F G)(h:H p=none):G p=none:=by
 cases e:G p with
 |none=>rfl
 |some o=>
  cases o with
  |lst ds=>let(vs,q,_):=r.lst e;rw[h]at q;cases q
  |dct ks ds=>let(g,q,_):=r.dct e;rw[h]at q;cases q
def R.notF(r:R K H F G)(h:H p=none):¬F p:=λf=>by
 let(_,vs,q):=r.fz p f;rw[h]at q;cases q
def cA{o:HO}(r:R K H F G)(h:H p=none):Ext H F (upd H p o) F:=
 ⟨λz f=>f,λa f=>aA λe=>r.notF h (by rw[<-e];exact f),λa xs q=>by rw[aA (aU q h)];exact q,λa ob u q=>by rw[aA (aU q h)];exact q⟩
def R.new{o:HO}(r:R K H F G)(h:H p=none):R K (upd H p o) F G:=by
 have x:Ext H F (upd H p o) F:=cA r h;show⟨λa f=>⟨(r.fz a f).1,?_⟩,λa u e=>?_⟩
 .let(_,vs,q):=r.fz a f;exact⟨vs,by rw[x.keep a f];exact q⟩
 .cases u with
  |lst ds=>
   let(vs,q,t):=r.lst e;exact⟨vs,by rw[aA (aU q h)];exact q,Reps.ext x t⟩
  |dct ks ds=>
   let(z,q,g,t):=r.dct e;exact⟨z,by rw[aA (aU q h)];exact q,g,Reps.ext x t⟩
def R.newL(r:R K H F G)(h:H p=none)(t:Reps K H F ds vs):R K (upd H p (.lst vs)) F (aK G p (.lst ds)):=by
 have x:Ext H F (upd H p (.lst vs)) F:=cA r h;have q:R K (upd H p (.lst vs)) F G:=r.new h;show⟨λa f=>⟨?_,(q.fz a f).2⟩,λa u e=>?_⟩
 .rw[bu λe=>r.notF h (by rw[<-e];exact f)];exact(r.fz a f).1
 .by_cases g:a=p
  .subst g;rw[aY]at e;cases e;exact⟨vs,bj,Reps.ext x t⟩
  .rw[bu g]at e;exact q.ob a u e
def sE(r:R K H F G)(h:H p=none):Ext H F (upd H p (.lst vs)) (λa=>F a\/a=p):=
 ⟨λz f=>.inl f,(cA r h).keep,(cA r h).tups,(cA r h).frzs⟩
def R.newF(r:R K H F G)(h:H p=none):R K (upd H p (.lst vs)) (λa=>F a\/a=p) G:=by
 have x:Ext H F (upd H p (.lst vs)) (λa=>F a\/a=p):=sE r h;show⟨λa f=>?_,λa u e=>?_⟩
 .rcases f with f|f
  .let(g,z,q):=r.fz a f;exact⟨g,z,by rw[x.keep a f];exact q⟩
  .subst f;exact⟨r.free h,_,bj⟩
 .cases u with
  |lst ds=>
   let(z,q,t):=r.lst e;exact⟨z,by rw[aA (aU q h)];exact q,Reps.ext x t⟩
  |dct ks ds=>
   let(J,q,I,t):=r.dct e;exact⟨J,by rw[aA (aU q h)];exact q,I,Reps.ext x t⟩
def wY{o:HO}(r:R K H F G)(h:H p=none):Ext H F (upd H p o) (λa=>F a\/a=p):=
 ⟨λz f=>.inl f,(cA r h).keep,(cA r h).tups,(cA r h).frzs⟩
def R.newO{o:HO}(r:R K H F G)(h:H p=none):R K (upd H p o) (λa=>F a\/a=p) G:=by
 have x:Ext H F (upd H p o) (λa=>F a\/a=p):=wY r h;show⟨λa f=>?_,λa u e=>?_⟩
 .rcases f with f|f
  .let(g,z,q):=r.fz a f;exact⟨g,z,by rw[x.keep a f];exact q⟩
  .subst f;exact⟨r.free h,_,bj⟩
 .cases u with
  |lst ds=>
   let(z,q,t):=r.lst e;exact⟨z,by rw[aA (aU q h)];exact q,Reps.ext x t⟩
  |dct ks ds=>
   let(J,q,I,t):=r.dct e;exact⟨J,by rw[aA (aU q h)];exact q,I,Reps.ext x t⟩
def Zg(r:R K H F G)(h:H p=none)(t:Reps K H F ds vs):Rep K (upd H p (.lst vs)) (λa=>F a\/a=p) (.lst ds) (.ref p):=
 ⟨p,vs,rfl,⟨.inr rfl,bj⟩,Reps.ext (sE r h) t⟩
def wZ(r:R K H F G)(h:H p=none)(t:Reps K H F ds vs):Rep K (upd H p (.tup vs)) F (.tup ds) (.ref p):=
 ⟨p,vs,rfl,⟨bj⟩,Reps.ext (cA r h) t⟩
def fM{H:Hp}{a x c dx:AQ}{u:HO}{fs:List (Str×V)}(h:H a=-u)(g:H x=-(.ins c dx []))(q:u≠.ins c dx []):a≠x:=λe=>q (by subst e;rw[h]at g;exact cw g)
mutual
theorem Rep.setO{x c dx:AQ}{fs:List (Str×V)}(hx:H x=-(.ins c dx [])):∀{d:D}{v:V},Rep K H F d v->Rep K (upd H x (.ins c dx fs)) F d v
 |.non,_,h=>h
 |.bl _,_,h=>h
 |.int _,_,h=>h
 |.str _,_,h=>h
 |.tup _,_,⟨a,vs,e,q,r⟩=>⟨a,vs,e,⟨by rw[aA (fM (fs:=fs) q.it hx (by intro w;cases w))];exact q.it⟩,Reps.setO hx r⟩
 |.lst _,_,⟨a,vs,e,q,r⟩=>⟨a,vs,e,⟨q.1,by rw[aA (fM (fs:=fs) q.2 hx (by intro w;cases w))];exact q.2⟩,Reps.setO hx r⟩
 |.ref _,_,h=>h
 |.scr _,_,⟨a,e,q⟩=>⟨a,e,by
   rcases q with⟨o,q⟩|q
   .exact .inl ⟨o,by rw[aA (fM (fs:=fs) q hx (by intro w;cases w))];exact q⟩
   .exact .inr q⟩
 |.obj _ _ _,_,⟨a,c',dx',e,⟨hf,hh⟩,n⟩=>⟨a,c',dx',e,⟨hf,by rw[aA (fM (fs:=fs) hh hx (by intro w;cases w))];exact hh⟩,n⟩
 |.dct _ _,_,⟨a,kv,e,⟨hf,hh⟩,hk,t⟩=>⟨a,kv,e,⟨hf,by rw[aA (fM (fs:=fs) hh hx (by intro w;cases w))];exact hh⟩,hk,Reps.setO hx t⟩
 |.exn _,_,⟨a,c',e,⟨o,y,q,hc⟩,n⟩=>⟨a,c',e,⟨o,y,by rw[aA (fM (fs:=fs) q hx (by intro w;cases w))];exact q,hc⟩,n⟩
 |.exa _ _ _,_,⟨a,c',dx',ob,od,y,u,e,⟨q,h1,h2,h3⟩,qd,r,n⟩=>⟨a,c',dx',ob,od,y,u,e,⟨by rw[aA (fM (fs:=fs) q hx (by intro w;cases w))];exact q,h1,h2,h3⟩,by rw[aA (fM (fs:=fs) qd hx (by intro w;cases w))];exact qd,Rep.setO hx r,n⟩
theorem Reps.setO{x c dx:AQ}{fs:List (Str×V)}(hx:H x=-(.ins c dx [])):∀{ds:AS}{vs:AR},Reps K H F ds vs->Reps K (upd H x (.ins c dx fs)) F ds vs
 |[],_,h=>h
 |_::_,_,⟨v,r,e,h,t⟩=>⟨v,r,e,Rep.setO hx h,Reps.setO hx t⟩
end
def R.setO{x c dx:AQ}{fs:List (Str×V)}(r:R K H F G)(g:H x=-(.ins c dx [])):R K (upd H x (.ins c dx fs)) F G:=by
 show⟨λa f=>⟨(r.fz a f).1,?_⟩,λa u e=>?_⟩
 .by_cases h:a=x
  .exact ⟨_,by rw[h,bj]⟩
  .rw[aA h];exact(r.fz a f).2
 .cases u with
  |lst ds=>
   let(vs,q,t):=r.lst e;exact⟨vs,by rw[aA (fM (fs:=fs) q g (by intro w;cases w))];exact q,Reps.setO g t⟩
  |dct ks ds=>
   let(I,q,z,t):=r.dct e;exact⟨I,by rw[aA (fM (fs:=fs) q g (by intro w;cases w))];exact q,z,Reps.setO g t⟩
def jC{g:AS}{o:HO}(r:R K H F G)(h:G p=-(.lst g)):Ext H F (upd H p o) F:=by
 let(I,q,_):=r.lst h;show⟨λy f=>f,λa f=>aA λe=>?_,λa xs z=>?_,λa ob u z=>?_⟩
 .subst e;rw[(r.fz a f).1]at h;cases h
 .rw[aA (lr z q (by intro w;cases w))];exact z
 .rw[aA (lr z q (by intro w;cases w))];exact z
def R.write{I:AS}(r:R K H F G)(h:G p=-(.lst I))(t:Reps K H F ds vs):R K (upd H p (.lst vs)) F (aK G p (.lst ds)):=by
 have x:Ext H F (upd H p (.lst vs)) F:=jC r h;show⟨λa f=>⟨?_,?_⟩,λa u e=>?_⟩
 .rw[bu λe=>by subst e;rw[(r.fz a f).1]at h;cases h];exact(r.fz a f).1
 .let(_,g,q):=r.fz a f;exact⟨g,by rw[x.keep a f];exact q⟩
 .by_cases z:a=p
  .subst z;rw[aY]at e;cases e;exact⟨vs,bj,Reps.ext x t⟩
  .rw[bu z]at e;cases u with
   |lst J=>
    let(g,q,t'):=r.lst e;exact⟨g,by rw[aA z];exact q,Reps.ext x t'⟩
   |dct ks ds=>
    let(N,q,L,t'):=r.dct e;exact⟨N,by rw[aA z];exact q,L,Reps.ext x t'⟩
def w5{I:List (List Int)}{g:AS}{o:HO}(r:R K H F G)(h:G p=-(.dct I g)):Ext H F (upd H p o) F:=by
 let(J,q,_):=r.dct h;show⟨λy f=>f,λa f=>aA λe=>?_,λa xs z=>?_,λa ob u z=>?_⟩
 .subst e;rw[(r.fz a f).1]at h;cases h
 .rw[aA (lr z q (by intro w;cases w))];exact z
 .rw[aA (lr z q (by intro w;cases w))];exact z
def R.dctAt{ks:List (List Int)}{z:List (List Key×V)}(r:R K H F G)(x:Ext H F (upd H p (.dT z)) F)(U:¬F p)(O:z.map (·.1)=ks.map bF)(t:Reps K H F ds (z.map (·.2))):R K (upd H p (.dT z)) F (aK G p (.dct ks ds)):=by
 show⟨λa f=>⟨?_,?_⟩,λa u e=>?_⟩
 .rw[bu λe=>U (by rw[<-e];exact f)];exact(r.fz a f).1
 .let(_,g,q):=r.fz a f;exact⟨g,by rw[x.keep a f];exact q⟩
 .by_cases I:a=p
  .subst I;rw[aY]at e;cases e;exact⟨z,bj,O,Reps.ext x t⟩
  .rw[bu I]at e;cases u with
   |lst J=>
    let(g,q,t'):=r.lst e;exact⟨g,by rw[aA I];exact q,Reps.ext x t'⟩
   |dct Y J=>
    let(N,q,L,t'):=r.dct e;exact⟨N,by rw[aA I];exact q,L,Reps.ext x t'⟩
def R.notFD{q:List (List Int)}{g:AS}(r:R K H F G)(h:G p=-(.dct q g)):¬F p:=λf=>by rw[(r.fz p f).1]at h;cases h
def xf:Ext H F H (λa=>F a\/a=p):=⟨λz f=>.inl f,λz z=>rfl,λz z h=>h,λz z z h=>h⟩
def R.frz(r:R K H F G)(h:G p=-(.lst ds)):R K H (λa=>F a\/a=p) (gP G p):=by
 have x:Ext H F H (λa=>F a\/a=p):=xf;show⟨λa f=>?_,λa u e=>?_⟩
 .rcases f with f|f
  .let(g,z,q):=r.fz a f;show⟨?_,z,q⟩;by_cases I:a=p
   .rw[I];exact wX
   .rw[jB I];exact g
  .subst f;let(vs,q,_):=r.lst h;exact⟨wX,_,q⟩
 .by_cases I:a=p
  .rw[I,wX]at e;cases e
  .rw[jB I]at e;cases u with
   |lst J=>
    let(z,q,t'):=r.lst e;exact⟨z,q,Reps.ext x t'⟩
   |dct ks ds=>
    let(N,q,L,t'):=r.dct e;exact⟨N,q,L,Reps.ext x t'⟩
def Zh(r:R K H F G)(h:G p=-(.lst ds)):Rep K H (λa=>F a\/a=p) (.lst ds) (.ref p):=by let(vs,q,t):=r.lst h;exact⟨p,vs,rfl,⟨.inr rfl,q⟩,Reps.ext xf t⟩
end
def view(G:DH):D->D
 |.ref p=>match G p with|some (.lst ds)=>.lst ds|some (.dct ks ds)=>.dct ks ds|none=>.ref p
 |d=>d
def Rep.list{K:PF}{H:Hp}{F:FZ}{G:DH}{d:D}{v:V}{ds:AS}(r:R K H F G)(h:Rep K H F d v)(e:view G d=.lst ds):∃a vs,v=.ref a/\SqL K H a vs/\Reps K H F ds vs:=by
 cases d with
 |lst xs=>
  have z:D.lst xs=.lst ds:=e;cases z;let(a,vs,I,q,t):=h;exact⟨a,vs,I,q.sq,t⟩
 |ref p=>
  have J:v=.ref p:=h;unfold view at e;cases g:G p with
  |none=>simp only[g]at e;cases e
  |some o=>
   cases o with
   |lst xs=>
    simp only[g]at e;cases e;let(vs,q,t):=r.lst g;exact⟨p,vs,J,.inl (.inl q),t⟩
   |dct ks xs=>simp only[g]at e;cases e
 |_=>cases(show _=D.lst ds from e)
def gk{G:DH}{d:D}{ds:AS}(e:view G d=.tup ds):d=.tup ds:=by
 cases d with
 |ref p=>
  unfold view at e;cases g:G p with
  |none=>simp only[g]at e;cases e
  |some o=>cases o<;>(simp only[g]at e;cases e)
 |_=>exact e
def gm{G:DH}{d:D}{l:AA}(e:view G d=.str l):d=.str l:=by
 cases d with
 |ref p=>
  unfold view at e;cases g:G p with
  |none=>simp only[g]at e;cases e
  |some o=>cases o<;>(simp only[g]at e;cases e)
 |_=>exact e
def fO{G:DH}{d:D}{l:Int}(e:view G d=.int l):d=.int l:=by
 cases d with
 |ref p=>
  unfold view at e;cases g:G p with
  |none=>simp only[g]at e;cases e
  |some o=>cases o<;>(simp only[g]at e;cases e)
 |_=>exact e
def Zi{G:DH}{d:D}{l:Bool}(e:view G d=.bl l):d=.bl l:=by
 cases d with
 |ref p=>
  unfold view at e;cases g:G p with
  |none=>simp only[g]at e;cases e
  |some o=>cases o<;>(simp only[g]at e;cases e)
 |_=>exact e
abbrev ak:=List (Option D)
def EnvR(K:PF)(H:Hp)(F:FZ):ak->L2.St->Prop
 |[],X=>X=[]
 |o::Y,X=>∃u g,X=u::g/\(∀d,o=-d->∃v,u=-v/\Rep K H F d v)/\EnvR K H F Y g
section
variable {K:PF} {H H':Hp} {F F':FZ}
def EnvR.ext(x:Ext H F H' F'):∀{Y:ak}{X:L2.St},EnvR K H F Y X->EnvR K H' F' Y X
 |[],_,h=>h
 |_::_,_,⟨u,τ,e,h,t⟩=>⟨u,τ,e,λd q=>by let(v,g,r):=h d q;exact⟨v,g,Rep.ext x r⟩,EnvR.ext x t⟩
def EnvR.get:∀{Y:ak}{X:L2.St}{i:Nat}{d:D},EnvR K H F Y X->Y[i]?=-(-d)->∃v,X[i]?=-(-v)/\Rep K H F d v
 |[],_,_,_,_,e=>by simp at e
 |_::_,_,0,d,⟨u,τ,e,h,t⟩,q=>by
  subst e;let(v,g,r):=h d (!!q);exact⟨v,by simp[g],r⟩
 |_::_,_,i+1,d,⟨u,τ,e,h,t⟩,q=>by
  subst e;let(v,g,r):=EnvR.get (i:=i) (d:=d) t (!!q);exact⟨v,!!g,r⟩
def EnvR.set{d:D}{v:V}(r:Rep K H F d v):∀{Y:ak}{X:L2.St}(i:Nat),EnvR K H F Y X->EnvR K H F (Y.set i (-d)) (X.set i (-v))
 |[],_,_,h=>by cases h;exact rfl
 |_::_,_,0,⟨u,τ,e,h,t⟩=>by subst e;exact⟨_,_,rfl,λd' q=>⟨v,rfl,by cases q;exact r⟩,t⟩
 |_::_,_,i+1,⟨u,τ,e,h,t⟩=>by subst e;exact⟨_,_,rfl,h,EnvR.set r i t⟩
def EnvR.none:∀(n:Nat),EnvR K H F (List.replicate n Option.none) (List.replicate n Option.none)
 |0=>rfl
 |n+1=>⟨_,_,rfl,λd q=>(nomatch q),EnvR.none n⟩
def EnvR.start:∀{ds:AS}{vs:AR}(n:Nat),Reps K H F ds vs->EnvR K H F (ds.map some++List.replicate n Option.none) (vs.map some++List.replicate n Option.none)
 |[],_,n,h=>by cases h;exact EnvR.none n
 |d::ds,_,n,⟨v,r,e,h,t⟩=>by
  subst e;exact⟨_,_,rfl,λd' q=>⟨v,rfl,by cases q;exact h⟩,EnvR.start n t⟩
def EnvR.cap{Y:ak}{X:L2.St}(h:EnvR K H F Y X):∀(cap:List (Option Nat)),EnvR K H F (cap.map λo=>match o with|Option.none=>Option.none|some j=>(Y[j]?).join) (dh cap X)
 |[]=>rfl
 |Option.none::cap=>⟨_,_,rfl,λd q=>(nomatch q),EnvR.cap h cap⟩
 |some j::cap=>by
  show⟨_,_,rfl,λd q=>?_,EnvR.cap h cap⟩;have g:(Y[j]?).join=-d:=q;have z:Y[j]?=-(-d):=by
   cases e:Y[j]? with
   |none=>rw[e]at g;cases g
   |some o=>rw[e]at g;exact eS some g
  let(v,I,r):=h.get z;exact⟨v,by change(X[j]?).join=-v;rw[I];rfl,r⟩
end
mutual
def deq:D->D->Bool
 |.non,.non=>true
 |.bl a,.bl b=>a==b
 |.bl a,.int b=>(if a then 1 else 0)==b
 |.int a,.bl b=>a==(if b then 1 else 0)
 |.int a,.int b=>a==b
 |.str a,.str b=>a==b
 |.tup a,.tup b=>b7 a b
 |.lst a,.lst b=>b7 a b
 |_,_=>false
def b7:AS->AS->Bool
 |[],[]=>true
 |a::as,b::bs=>deq a b&&b7 as bs
 |_,_=>false
end
mutual
/-- no tracked object within -/
def nr:D->Bool
 |.tup a=>nrs a
 |.lst a=>nrs a
 |.ref _=>false
 |.scr _=>false
 |.exn _=>false
 |.exa _ _ _=>false
 |.obj _ _ _=>false
 |.dct _ _=>false
 |_=>true
def nrs:AS->Bool
 |[]=>true
 |a::as=>nr a&&nrs as
end
mutual
def dpt:D->Nat
 |.tup a=>aW a+1
 |.lst a=>aW a+1
 |_=>0
def aW:AS->Nat
 |[]=>0
 |a::as=>max (dpt a) (aW as)
end
def truth:D->Option Bool
 |.non=>-false
 |.bl b=>-b
 |.int i=>-(i != 0)
 |.str l=>-(!l.isEmpty)
 |.tup l=>-(!l.isEmpty)
 |.lst l=>-(!l.isEmpty)
 |_=>none
def cut{g:Type}(xs:List g)(lo hi:Option Int):List g:=(xs.drop (HT.sIx xs⁻¹ 0 lo)).take (HT.sIx xs⁻¹ xs⁻¹ hi-HT.sIx xs⁻¹ 0 lo)
def reps{g:Type}(xs:List g)(n:Nat):List g:=(List.replicate n xs).flatten
def mk(fz:Bool)(xs:AS)(G:DH)(k:AT):Prop:=
 match fz with
 |true=>k (.lst xs) G
 |false=>∀p,G p=none->k (.ref p) (aK G p (.lst xs))
def jD(fz:Bool)(a b:D)(G:DH)(k:AT):Prop:=
 match a with
 |.int i=>(match b with |.int j=>k (.int (i+j)) G|_=>False)
 |.str x=>(match b with |.str y=>x⁻¹+y⁻¹<=sz/\k (.str (x++y)) G|_=>False)
 |.lst x=>(match b with |.lst y=>x⁻¹+y⁻¹<=sz/\mk fz (x++y) G k|_=>False)
 |.tup x=>(match b with |.tup y=>x⁻¹+y⁻¹<=sz/\k (.tup (x++y)) G|_=>False)
 |_=>False
def gQ(a b:D)(p:Int->Int->Prop):Prop:=
 match a with
 |.int i=>(match b with |.int j=>p i j|_=>False)
 |_=>False
def jE(fz:Bool)(a b:D)(G:DH)(k:AT):Prop:=
 match b with
 |.int n=>(match a with |.int i=>CMul i n/\k (.int (i*n)) G |.str x=>0<=n/\n<=1000/\x⁻¹*n.toNat<=sz/\k (.str (reps x n.toNat)) G |.lst x=>0<=n/\n<=1000/\x⁻¹*n.toNat<=sz/\mk fz (reps x n.toNat) G k|_=>False)
 |_=>False
def cX(op:Operator)(fz:Bool)(a b:D)(G:DH)(k:AT):Prop:=
 match op with
 |.Add=>jD fz a b G k
 |.Sub=>gQ a b λi j=>k (.int (i-j)) G
 |.Mult=>jE fz a b G k
 |.FloorDiv=>gQ a b λi j=>(0<j/\j<1152921504606846976)/\k (.int (i/j)) G
 |.Mod=>gQ a b λi j=>0<j/\k (.int (i%j)) G
 |.Pow=>gQ a b λi j=>rN i j/\k (.int (i ^ j.toNat)) G
 |_=>False
def aZ:AS->Option (List Int)
 |[]=>-[]
 |.int b::r=>match aZ r with|some s=>-(b::s)|none=>none
 |_=>none
def kIx(ks:List (List Int))(n:List Int):Option Nat:=ks.findIdx? λk=>decide (k=n)
def cF(d:D)(k:List Int->Prop):Prop:=match d with |.tup l=>(match aZ l with|some ns=>k ns|none=>False)|_=>False
def isE(d:D):Prop:=match d with |.lst []=>True|_=>False
def lK:AS->Option (List (List Int))
 |[]=>-[]
 |.tup l::r=>match aZ l,lK r with|some k,-ks=>-(k::ks)|_,_=>none
 |_::_=>none
def Hk(ks:List (List Int)):List (List Int):=ks.foldl (λg k=>if k∈g then g else g++[k]) []
def dcK(d:D)(k:List (List Int)->Prop):Prop:=match d with |.lst ds=>(match lK ds with|some ks=>ks⁻¹<sz/\k ks|none=>False)|_=>False
def dput(ks:List (List Int))(ds:AS)(n:List Int)(x:D):DO:=match kIx ks n with|some i=>.dct ks (ds.set i x)|none=>.dct (ks++[n]) (ds++[x])
def isIn(x:D)(ys:AS):Bool:=ys.any λy=>deq y x
def Hl(a b:D):Prop:=nr a=true/\nr b=true/\min (dpt a) (dpt b)<=60
def inG(a:D)(l:AS):Prop:=nr a=true/\nrs l=true/\aW l<=60
def jF(a b:D)(k:Bool->Prop):Prop:=
 match a,b with
 |.int i,.int j=>k (decide (i<j))
 |.str i,.str j=>k (decide (i<j))
 |_,_=>False
def jG(a b:D)(k:Bool->Prop):Prop:=
 match a,b with
 |.int i,.int j=>k (decide (i<=j))
 |.str i,.str j=>k (!decide (j<i))
 |_,_=>False
def jH(a b:D)(k:Bool->Prop):Prop:=
 match a,b with
 |.int i,.int j=>k (decide (j<i))
 |_,_=>False
def jJ(a b:D)(k:Bool->Prop):Prop:=
 match a,b with
 |.int i,.int j=>k (decide (j<=i))
 |_,_=>False
def xg(a:D):Bool:=match a with |.non=>true|_=>false
def jK(a b:D)(k:Bool->Prop):Prop:=
 match b with
 |.non=>k (xg a)
 |.bl b=>(match a with |.bl a=>k (a==b)|_=>False)
 |_=>False
def jL(a b:D)(k:Bool->Prop):Prop:=
 match b with
 |.non=>k (!xg a)
 |.bl b=>(match a with |.bl a=>k (a != b)|_=>False)
 |_=>False
def gn(a b:D)(k:Bool->Prop):Prop:=
 match b with
 |.str l=>(match a with |.str [c]=>k (l.contains c)|_=>False)
 |.lst l=>inG a l/\k (isIn a l)
 |.tup l=>inG a l/\k (isIn a l)
 |.dct ks _=>cF a λn=>k (kIx ks n).isSome
 |_=>False
def bc(op:CmpOp)(a b:D)(k:Bool->Prop):Prop:=
 match op with
 |.Eq=>Hl a b/\k (deq a b)
 |.NotEq=>Hl a b/\k (!deq a b)
 |.Lt=>jF a b k
 |.LtE=>jG a b k
 |.Gt=>jH a b k
 |.GtE=>jJ a b k
 |.Is=>jK a b k
 |.IsNot=>jL a b k
 |.In=>gn a b k
 |.NotIn=>gn a b λc=>k (!c)
def cB(a i:D)(k:D->Prop):Prop:=
 match a,i with
 |.lst ds,.int i=>match atI ds i with|some d=>k d|none=>False
 |.tup ds,.int i=>match atI ds i with|some d=>k d|none=>False
 |.str l,.int i=>match atI l i with|some c=>k (.str [c])|none=>False
 |.dct ks ds,y=>cF y λn=>match kIx ks n with|some i=>(match ds[i]? with|some d=>k d|none=>False)|none=>False
 |_,_=>False
def eV(fz:Bool)(a:D)(lo hi:Option Int)(G:DH)(k:AT):Prop:=
 match a with
 |.lst ds=>mk fz (cut ds lo hi) G k
 |.scr ns=>mk fz ((cut ns lo hi).map .int) G k
 |.tup ds=>k (.tup (cut ds lo hi)) G
 |.str l=>k (.str (cut l lo hi)) G
 |_=>False
def sG(fz:Bool)(a y:D)(G:DH)(k:AT):Prop:=
 match a with
 |.lst ds=>y=.int (Neg.neg 1)/\mk fz ds.reverse G k
 |.tup ds=>y=.int (Neg.neg 1)/\k (.tup ds.reverse) G
 |_=>False
def bools:AS->Option (List Bool)
 |[]=>-[]
 |.bl b::r=>match bools r with|some s=>-(b::s)|none=>none
 |_=>none
def bH:AS->Option (List (AA))
 |[]=>-[]
 |.str b::r=>match bH r with|some s=>-(b::s)|none=>none
 |_=>none
def eX(s:AA):List (AA)->AA
 |[]=>[]
 |[x]=>x
 |x::y::r=>x++s++eX s (y::r)
inductive Bf where
 |len |all |int |tuple |sum |min |max |str |abs |min2
inductive Lf where
 |list |sorted
inductive Mf where
 |join |append |extend |idxL |pop
def xj(as:AS)(k:D->Prop):Prop:=
 match as with
 |[.lst ds]=>k (.int ds⁻¹)
 |[.tup ds]=>k (.int ds⁻¹)
 |[.str l]=>k (.int l⁻¹)
 |[.dct ks _]=>k (.int ks⁻¹)
 |_=>False
def sH(as:AS)(k:D->Prop):Prop:=
 match as with
 |[.lst ds]=>match bools ds with|some bs=>k (.bl (bs.all id))|none=>False
 |_=>False
def sI(as:AS)(k:D->Prop):Prop:=
 match as with
 |[.bl b]=>k (.int (if b then 1 else 0))
 |[.int i]=>k (.int i)
 |[.str l]=>match PySem.intText? (tx l) with|some n=>l⁻¹<=640/\k (.int n)|none=>False
 |_=>False
def xm(as:AS)(k:D->Prop):Prop:=
 match as with
 |[.lst ds]=>k (.tup ds)
 |[.tup ds]=>k (.tup ds)
 |_=>False
def xq(as:AS)(k:D->Prop):Prop:=
 match as with
 |[.lst ds]=>match aZ ds with|some ns=>k (.int ns.sum)|none=>False
 |_=>False
def lL(as:AS)(k:D->Prop):Prop:=
 match as with
 |[.lst ds]=>match aZ ds with
  |some ns=>ns≠[]/\∀m,m∈ns->(∀a,a∈ns->m<=a)->k (.int m)
  |none=>match bH ds with
   |some g=>∀m,m∈g->(∀a,a∈g->¬a<m)->k (.str m)
   |none=>False
 |_=>False
def Hm(as:AS)(k:D->Prop):Prop:=match as with
 |[.int a]=>k (.int (if a<0 then Neg.neg a else a))
 |_=>False
def Hn(as:AS)(k:D->Prop):Prop:=match as with
 |[.int a,.int b]=>k (.int (if b<a then b else a))
 |_=>False
def Ho(as:AS)(k:D->Prop):Prop:=
 match as with
 |[.int a,.int b]=>k (.int (if b > a then b else a))
 |_=>False
def gR(m:Nat):AA:=(wK m).cps.toList
def xr(as:AS)(k:D->Prop):Prop:=
 match as with
 |[.int i]=>(0<=i/\i<100)/\k (.str (gR i.toNat))
 |_=>False
def opB:Bf->AS->(D->Prop)->Prop
 |.len=>xj
 |.all=>sH
 |.int=>sI
 |.tuple=>xm
 |.sum=>xq
 |.min=>lL
 |.max=>Ho
 |.abs=>Hm
 |.min2=>Hn
 |.str=>xr
def xu(as:AS)(k:AS->Prop):Prop:=
 match as with
 |[.lst ds]=>k ds
 |[.tup ds]=>k ds
 |[.str l]=>k (l.map λc=>.str [c])
 |[.dct ks _]=>k (ks.map λn=>.tup (n.map .int))
 |_=>False
def lM(as:AS)(k:AS->Prop):Prop:=
 match as with
 |[.lst ds]=>match bH ds with|some ls=>ls⁻¹<64/\∀g:List (AA),g.Perm ls->PyProof.Rows.sortedS (g.map tx)=true->k (g.map D.str)|none=>False
 |[.tup ds]=>match aZ ds with|some ns=>ns⁻¹<64/\∀q:List Int,q.Perm ns->q.Pairwise (·<=·)->k (q.map D.int)|none=>False
 |_=>False
def putN(ks:List (AA))(k:AA):List (AA):=if k∈ks then ks else ks++[k]
def sJ(g:List (AA)):List (AA):=g.foldl putN []
def Hq(d:D)(k:D->Prop):Prop:=
 match d with
 |.lst ds=>match lK ds with|some ks=>ks⁻¹<=200/\k (.int ((Hk ks)⁻¹:Nat))|none=>False
 |_=>False
def lN(d:D)(k:AS->Prop):Prop:=
 match d with
 |.lst ds=>match bH ds with|some ls=>(ls⁻¹<=1000/\(sJ ls)⁻¹<=64)/\∀g:List (AA),g.Perm (sJ ls)->k (g.map D.str)|none=>False
 |_=>False
def cR:Lf->AS->(AS->Prop)->Prop
 |.list=>xu
 |.sorted=>lM
def isT(t:AL)(d:D):Option Bool:=
 match d with
 |.non=>-false
 |.bl _=>-(t=="bool"||t=="int")
 |.int _=>-(t=="int")
 |.str _=>-(t=="str")
 |.tup _=>-(t=="tuple")
 |.lst _=>-(t=="list")
 |_=>none
def gA (t:AL):Bool:=t=="bool"||t=="int"||t=="str"||t=="tuple"||t=="list"
def sO(o:D)(as:AS)(G:DH)(k:AT):Prop:=
 match o,as with
 |.str s,[.lst ds]=>match bH ds with|some ls=>((ls.map (·.length)).sum+ls⁻¹*s⁻¹<=sz)/\k (.str (eX s ls)) G|none=>False
 |_,_=>False
def sS(o:D)(as:AS)(G:DH)(k:AT):Prop:=
 match o,as with
 |.ref p,[x]=>match G p with|some (.lst ds)=>ds⁻¹<sz/\k .non (aK G p (.lst (ds++[x])))|_=>False
 |_,_=>False
def sU(o:D)(as:AS)(G:DH)(k:AT):Prop:=
 match o,as with
 |.ref p,[.lst xs]=>match G p with|some (.lst ds)=>ds⁻¹+xs⁻¹<sz/\k .non (aK G p (.lst (ds++xs)))|_=>False
 |_,_=>False
def amc(o:D)(as:AS)(G:DH)(k:AT):Prop:=
 match o,as with
 |.ref p,[.int i,x]=>match G p with|some (.lst ds)=>ds⁻¹<sz/\0<=i/\i<=1000000/\k .non (aK G p (.lst (ds.take i.toNat++x::ds.drop i.toNat)))|_=>False
 |_,_=>False
def sV(o:D)(as:AS)(G:DH)(k:AT):Prop:=
 match o,as with
 |.ref p,[.int i]=>match G p with|some (.lst ds)=>0<=i/\i<=1000000/\(match ds[i.toNat]? with|some y=>k y (aK G p (.lst (ds.eraseIdx i.toNat)))|none=>False)|_=>False
 |_,_=>False
def amd(o:D)(as:AS)(G:DH)(k:AT):Prop:=
 match o,as with
 |.lst ds,[.bl true]=>match bools ds with|some bs=>k (.int (bs.count true:Nat)) G|none=>False
 |_,_=>False
def ame(o:D)(as:AS)(G:DH)(k:AT):Prop:=
 match o,as with
 |.lst ds,[.bl true]=>match bools ds with|some bs=>true∈bs/\k (.int (bs.idxOf true:Nat)) G|none=>False
 |_,_=>False
def jM(o:D)(as:AS)(G:DH)(k:AT):Prop:=
 match o,as with
 |.lst ds,[.int i]=>match aZ ds with|some ns=>i∈ns/\k (.int (ns.idxOf i:Nat)) G|none=>False
 |_,_=>False
def amf(o:D)(as:AS)(G:DH)(k:AT):Prop:=
 match o,as with
 |.tup ds,[.int i]=>match aZ ds with|some ns=>i∈ns/\k (.int (ns.idxOf i:Nat)) G|none=>False
 |_,_=>False
def amg(o:D)(as:AS)(G:DH)(k:AT):Prop:=
 match o,as with
 |.str l,[.str [c]]=>k (.int (Neg.neg 1)) G/\∀i:Nat,l[i]?=-c->k (.int (i:Int)) G
 |_,_=>False
def amh(o:D)(as:AS)(G:DH)(k:AT):Prop:=
 match o,as with
 |.str l,[.str [c]]=>(c<256/\l⁻¹+2<=sz)/\k (.lst ((sr c l).map .str)) G
 |_,_=>False
def ami:D->Prop
 |.tup _=>True
 |_=>False
def xF:D->Prop
 |.lst _=>True
 |_=>False
def recv(m:Mf)(o:D)(G:DH):Prop:=
 match m,o with
 |.join,.str _=>True
 |.append,.ref p=>match G p with|some (.lst _)=>True|_=>False
 |.extend,.ref p=>match G p with|some (.lst _)=>True|_=>False
 |.pop,.ref p=>match G p with|some (.lst _)=>True|_=>False
 |.idxL,o=>xF (view G o)
 |_,_=>False
def opM:Mf->D->AS->DH->(AT)->Prop
 |.join,o,as,G,k=>sO o (as.map (view G)) G k
 |.append,o,as,G,k=>sS o as G k
 |.extend,o,as,G,k=>sU o (as.map (view G)) G k
 |.pop,o,as,G,k=>sV o as G k
 |.idxL,o,as,G,k=>jM (view G o) as G k
def gU (C g:AL):Bool:=C==g||g=="SieveError"||g=="ValueError"
def xG(C:AL)(xs:List AL)(d:D)(k:Bool->Prop):Prop:=match d with
 |.exn c=>xs.contains c=true/\k (gU c C)
 |.exa c _ _=>xs.contains c=true/\k (gU c C)
 |.non=>k false
 |_=>False
def okA(d:D):Prop:=match d with
 |.int i=>0<=i/\i<100
 |.str l=>l⁻¹<=1000
 |_=>False
def Hr(C f:AL)(d:D)(k:D->Prop):Prop:=match d with
 |.exa C' f' v=>C'=C/\f'=f/\k v
 |_=>False
mutual
inductive Tg where
 |nm (i:Nat)
 |tp (ts:Tgs)
inductive Tgs where
 |nil
 |cons (t:Tg) (r:Tgs)
end
mutual
inductive Ex where
 |var (i:Nat)
 |cst (d:D)
 |glb (x:AL) (d:D)
 |bin (op:Operator) (fz:Bool) (a b:Ex)
 |neg (a:Ex)
 |cmp (op:CmpOp) (a b:Ex)
 |chn (op op':CmpOp) (a b c:Ex)
 |not (a:Ex)
 |boo (isAnd:Bool) (e:Ex) (es:Exs)
 |ife (c:Tx) (a b:Ex)
 |tup (es:Exs)
 |lst (fz:Bool) (es:Exs)
 |idx (a i:Ex)
 |slc (fz:Bool) (a:Ex) (lo hi:Ox)
 |call (f:AL) (es:Exs)
 |bcl (f:Bf) (es:Exs)
 |lcl (fz:Bool) (f:Lf) (es:Exs)
 |isi (a:Ex) (t:AL)
 |rgl (fz:Bool) (a:Ex)
 |rgt (a:Ex)
 |fld (C f:AL) (o:Ex)
 |mcl (f C m:AL) (o:Ex) (es:Exs)
 |mko (C:AL) (es:Exs)
 |mth (m:Mf) (o:Ex) (es:Exs)
 |comp (fz:Bool) (elt:Ex) (tg:Tg) (it:It') (cond:Tx) (N:List AL) (cap:List (Option Nat))
 |frz (a:Ex)
 |dnw
 |dp1 (a b:Ex)
inductive Exs where
 |nil
 |cons (e:Ex) (es:Exs)
/-- a test -/
inductive Tx where
 |val (e:Ex)
 |not (t:Tx)
 |boo (isAnd:Bool) (t:Tx) (ts:Txs)
 |yes
inductive Txs where
 |nil
 |cons (t:Tx) (ts:Txs)
/-- a bound of a slice -/
inductive Ox where
 |no
 |ob (e:Ex)
/-- what a loop walks -/
inductive It' where
 |seq (e:Ex)
 |rng (a:Ex)
 |dwn (a b c:Ex)
 |enm (e:Ex)
 |zip (a b:Ex)
end
mutual
inductive Sx where
 |exp (e:Ex)
 |asg (t:Tg) (e:Ex)
 |set (o i e:Ex)
 |sw2 (o i o2 i2 x:Ex)
 |aug (i:Nat) (op:Operator) (e:Ex)
 |augs (o i:Ex) (op:Operator) (e:Ex)
 |ret (e:Ex)
 |rtn
 |ite (c:Tx) (a b:Sxs)
 |for_ (t:Tg) (it:It') (body:Sxs)
 |whl (c:Tx) (body:Sxs)
 |pas
 |brk
 |cnt
 |nev
inductive Sxs where
 |nil
 |cons (s:Sx) (r:Sxs)
end
structure Xn where
 cls:AL
 fld:D
structure Spec where
 A:Type
 pre:AS->DH->A->Prop
 post:A->D->DH->Prop
 exc:A->Xn->DH->Prop
abbrev EK:=Xn->DH->Prop
def Spec.t(S:Spec)(ds:AS)(G:DH)(Q:AT)(E:EK):Prop:=
 ∃a,S.pre ds G a/\(∀d g,S.post a d g->Q d g)/\∀x g,S.exc a x g->E x g
def Spec.mono{S:Spec}{ds:AS}{G:DH}{Q I:AT}{E z:EK}(h:S.t ds G Q E)(L:∀d g,Q d g->I d g)(he:∀x g,E x g->z x g):S.t ds G I z:=by let(a,h1,h2,J):=h;exact⟨a,h1,λd g q=>L _ _ (h2 d g q),λx g q=>he _ _ (J x g q)⟩
abbrev aj:=AL->Spec
def jN(C f:AL)(d:D)(k:AQ->Prop):Prop:=match d with |.obj C' f' q=>C'=C/\f'=f/\k q|_=>False
def jO(C m:AL)(d:D):Prop:=match d with |.obj C' f' _=>C'=C/\(⇑m==⇑f')=false|_=>False
def Hs(d:D)(G:DH)(k:AT):Prop:=match d with |.ref p=>(match G p with|some (.lst _)=>k .non (aK G p (.lst []))|_=>False)|_=>False
def amj(d:D)(G:DH)(k:AT):Prop:=match d with |.ref p=>(match G p with|some (.lst ds)=>(match ds[ds⁻¹-1]? with|some y=>k y (aK G p (.lst ds.dropLast))|none=>False)|_=>False)|_=>False
def amk(d:D)(k:AA->Prop):Prop:=match d with |.str l=>l⁻¹<=1000/\k l|_=>False
def aml(i:D)(l:AA)(k:AA->Prop):Prop:=match i with |.int n=>(match atI [48,49] n with|some c=>k (l.map λa=>if a=42 then c else a)|none=>False)|_=>False
def Zj(i j:Nat)(d:D)(Y:ak)(G:DH)(k:ak->DH->Prop):Prop:=
 match d with
 |.lst ds=>ds≠[]/\∀xs y,ds=xs++[y]->k ((Y.set i (-(.lst xs))).set j (-y)) G
 |_=>False
mutual
def bG:Tg->D->ak->DH->(ak->Prop)->Prop
 |.nm i,d,Y,_,k=>k (Y.set i (-d))
 |.tp ts,d,Y,G,k=>match d with |.tup ds=>bY ts ds Y G k |.lst ds=>bY ts ds Y G k|_=>False
def bY:Tgs->AS->ak->DH->(ak->Prop)->Prop
 |.nil,ds,Y,_,k=>match ds with |[]=>k Y|_=>False
 |.cons t r,ds,Y,G,k=>match ds with|d::ds=>bG t d Y G (λρ'=>bY r ds ρ' G k) |[]=>False
end
abbrev Hld:=List (AQ×AS)
def held:Hld->DH->Prop
 |[],_=>True
 | (a,ds)::r,G=>G a=-(.lst ds)/\held r G
def compLoop(step:D->ak->DH->(Option D->ak->DH->Prop)->Prop)(g:Hld):AS->AS->ak->DH->(AS->DH->Prop)->Prop
 |[],acc,_,G,k=>held g G/\acc⁻¹<=sz/\k acc G
 |d::ds,acc,Y,G,k=>held g G/\acc⁻¹<sz/\step d Y G (λo q z=>match o with|some y=>compLoop step g ds (acc++[y]) q z k|none=>compLoop step g ds acc q z k)
def xH(step:D->AS->ak->DH->(AS->ak->DH->Prop)->Prop)(g:Hld):AS->AS->ak->DH->(AS->ak->DH->Prop)->Prop
 |[],acc,Y,G,k=>held g G/\k acc Y G
 |d::ds,acc,Y,G,k=>held g G/\step d acc Y G (λq z I=>xH step g ds q z I k)
def dZ:Nat->AS->AS
 |_,[]=>[]
 |i,d::ds=>.tup [.int i,d]::dZ (i+1) ds
def cG:AS->AS->AS
 |a::as,b::bs=>.tup [a,b]::cG as bs
 |_,_=>[]
def itemsOf(G:DH):D->Option (AS×Hld)
 |.lst ds=>-(ds,[])
 |.tup ds=>-(ds,[])
 |.str l=>-(l.map λc=>.str [c],[])
 |.ref p=>match G p with|some (.lst ds)=>-(ds,[(p,ds)])|_=>none
 |_=>none
def aX(lo:Int)(n:Nat):AS:=(List.range n).map λi=>.int (lo+(i:Nat))
def fP(lo:Int)(n:Nat):AS:=(List.range n).map λi=>.int (lo-(i:Nat))
def noE:EK:=λz z=>False
def jP:Exs->Prop->Prop
 |.nil,P=>P
 |.cons _ _,_=>False
mutual
def wpE(Z:aj):Ex->EK->ak->DH->(AT)->Prop
 |.var i,_,Y,G,k=>match Y[i]? with|some (-d)=>k d G|_=>False
 |.cst d,_,_,G,k=>k d G
 |.glb _ d,_,_,G,k=>k d G
 |.bin op fz a b,E,Y,G,k=>wpE Z a E Y G λx G1=>wpE Z b E Y G1 λy G2=>cX op fz (view G2 x) (view G2 y) G2 k
 |.neg a,E,Y,G,k=>wpE Z a E Y G λx G1=>match x with |.int i=>k (.int (Neg.neg i)) G1|_=>False
 |.cmp op a b,E,Y,G,k=>wpE Z a E Y G λx G1=>wpE Z b E Y G1 λy G2=>bc op (view G2 x) (view G2 y) λc=>k (.bl c) G2
 |.chn op op' a b c,E,Y,G,k=>wpE Z a E Y G λx G1=>wpE Z b E Y G1 λy G2=>bc op (view G2 x) (view G2 y) λt=>
   match t with
   |true=>wpE Z c E Y G2 λz G3=>bc op' (view G3 y) (view G3 z) λt'=>k (.bl t') G3
   |false=>k (.bl false) G2
 |.not a,E,Y,G,k=>wpE Z a E Y G λx G1=>match truth (view G1 x) with|some b=>k (.bl (!b)) G1|none=>False
 |.boo isAnd e es,E,Y,G,k=>wpE Z e E Y G λd G1=>match d with |.bl b=>wpB Z es isAnd b E Y G1 k|_=>False
 |.ife c a b,E,Y,G,k=>wpT Z c E Y G λt G1=>match t with|true=>wpE Z a E Y G1 k|false=>wpE Z b E Y G1 k
 |.tup es,E,Y,G,k=>bf Z es E Y G λds G1=>ds⁻¹<=sz/\k (.tup ds) G1
 |.lst fz es,E,Y,G,k=>bf Z es E Y G λds G1=>ds⁻¹<=sz/\mk fz ds G1 k
 |.idx a i,E,Y,G,k=>wpE Z a E Y G λx G1=>wpE Z i E Y G1 λy G2=>cB (view G2 x) y λd=>k d G2
 |.slc fz a lo hi,E,Y,G,k=>wpE Z a E Y G λx G1=>wpO Z lo E Y G1 λl G2=>wpO Z hi E Y G2 λh G3=>eV fz (view G3 x) l h G3 k
 |.call f es,E,Y,G,k=>bf Z es E Y G λds G1=>(Z f).t ds G1 k E
 |.bcl f es,E,Y,G,k=>bf Z es E Y G λds G1=>opB f (ds.map (view G1)) λd=>k d G1
 |.lcl fz f es,E,Y,G,k=>bf Z es E Y G λds G1=>cR f (ds.map (view G1)) λxs=>mk fz xs G1 k
 |.isi a t,E,Y,G,k=>wpE Z a E Y G λx G1=>match isT t (view G1 x) with|some b=>k (.bl b) G1|none=>False
 |.rgl fz a,E,Y,G,k=>wpE Z a E Y G λd G1=>match d with |.int n=>(0<=n/\n<=1000)/\mk fz (aX 0 n.toNat) G1 k|_=>False
 |.fld C f o,E,Y,G,k=>wpE Z o E Y G λd G1=>jN C f d λq=>k (.ref q) G1
 |.mcl f C m o es,E,Y,G,k=>wpE Z o E Y G λd G1=>jO C m d/\bf Z es E Y G1 λds G2=>(Z f).t (d::ds) G2 k E
 |.mko C es,E,Y,G,k=>bf Z es E Y G λds G1=>(Z C).t ds G1 k E
 |.rgt a,E,Y,G,k=>wpE Z a E Y G λd G1=>match d with |.int n=>(0<=n/\n<=1000)/\k (.tup (aX 0 n.toNat)) G1|_=>False
 |.mth m o es,E,Y,G,k=>wpE Z o E Y G λx G1=>recv m x G1/\bf Z es E Y G1 λds G2=>opM m x ds G2 k
 |.comp fz elt tg it cond _ cap,E,Y,G,k=>wpI Z it E Y G λitems g G1=>
   compLoop (λd ρ' G' k'=>bG tg d ρ' G' λρ1=>wpT Z cond noE ρ1 G' λb G2=>match b with|true=>wpE Z elt noE ρ1 G2 λy G3=>k' (-y) ρ1 G3|false=>k' none ρ1 G2)
    g items [] (cap.map λo=>match o with|none=>none|some j=>(Y[j]?).join) G1 λds G2=>mk fz ds G2 k
 |.frz a,E,Y,G,k=>wpE Z a E Y G λx G1=>match x with |.ref p=>(match G1 p with|some (.lst ds)=>k (.lst ds) (gP G1 p)|_=>False)|d=>k d G1
 |.dnw,_,_,G,k=>∀p,G p=none->k (.ref p) (aK G p (.dct [] []))
 |.dp1 a b,E,Y,G,k=>wpE Z a E Y G λx G1=>wpE Z b E Y G1 λy G2=>cF x λn=>∀p,G2 p=none->k (.ref p) (aK G2 p (.dct [n] [y]))
/-- a test -/
def wpT(Z:aj):Tx->EK->ak->DH->(Bool->DH->Prop)->Prop
 |.not a,E,Y,G,k=>wpT Z a E Y G λb G1=>k (!b) G1
 |.boo isAnd e es,E,Y,G,k=>wpT Z e E Y G λb G1=>gB Z es isAnd b E Y G1 k
 |.yes,_,_,G,k=>k true G
 |.val x,E,Y,G,k=>wpE Z x E Y G λd G1=>match truth (view G1 d) with|some b=>k b G1|none=>False
def wpF(Z:aj):Exs->EK->ak->DH->(AA->DH->Prop)->Prop
 |.nil,_,_,G,k=>k [] G
 |.cons e es,E,Y,G,k=>wpE Z e E Y G λd G1=>match d with
  |.str l=>l⁻¹<=1000/\wpF Z es E Y G1 λx G2=>k (l++x) G2
  |.int i=>(0<=i/\i<100)/\wpF Z es E Y G1 λx G2=>k (gR i.toNat++x) G2
  |_=>False
def bf(Z:aj):Exs->EK->ak->DH->(AS->DH->Prop)->Prop
 |.nil,_,_,G,k=>k [] G
 |.cons e es,E,Y,G,k=>wpE Z e E Y G λd G1=>bf Z es E Y G1 λds G2=>k (d::ds) G2
/-- and,or as values:truths,the last one anything;b:the one ahead -/
def wpB(Z:aj):Exs->Bool->Bool->EK->ak->DH->(AT)->Prop
 |.nil,_,b,_,_,G,k=>k (.bl b) G
 |.cons e es,isAnd,b,E,Y,G,k=>match isAnd,b with
  |true,false=>k (.bl false) G
  |false,true=>k (.bl true) G
  |_,_=>wpE Z e E Y G λd G1=>match d with |.bl b'=>wpB Z es isAnd b' E Y G1 k|d=>jP es (k d G1)
def gB(Z:aj):Txs->Bool->Bool->EK->ak->DH->(Bool->DH->Prop)->Prop
 |.nil,_,b,_,_,G,k=>k b G
 |.cons e es,isAnd,b,E,Y,G,k=>match isAnd,b with
  |true,false=>k false G
  |false,true=>k true G
  |_,_=>wpT Z e E Y G λb' G1=>gB Z es isAnd b' E Y G1 k
/-- a bound of a slice -/
def wpO(Z:aj):Ox->EK->ak->DH->(Option Int->DH->Prop)->Prop
 |.no,_,_,G,k=>k none G
 |.ob x,E,Y,G,k=>wpE Z x E Y G λd G1=>match d with |.int i=>k (-i) G1|_=>False
def wpI(Z:aj):It'->EK->ak->DH->(AS->Hld->DH->Prop)->Prop
 |.seq e,E,Y,G,k=>wpE Z e E Y G λd G1=>match itemsOf G1 d with|some ds=>k ds.1 ds.2 G1|none=>False
 |.rng a,E,Y,G,k=>wpE Z a E Y G λd G1=>match d with |.int n=>(Neg.neg (2 ^ 62)<=n/\n<2 ^ 62)/\k (aX 0 n.toNat) [] G1|_=>False
 |.dwn a b c,E,Y,G,k=>wpE Z a E Y G λx G1=>wpE Z b E Y G1 λy G2=>wpE Z c E Y G2 λz G3=>match x,y,z with
  |.int m,.int n,.int s=>(s=Neg.neg 1/\Neg.neg (2 ^ 62)<=m/\m<2 ^ 62/\Neg.neg (2 ^ 62)<=n/\n<2 ^ 62)/\k (fP m (m-n).toNat) [] G3
  |_,_,_=>False
 |.enm e,E,Y,G,k=>wpE Z e E Y G λd G1=>match itemsOf G1 d with|some ds=>k (dZ 0 ds.1) ds.2 G1|none=>False
 |.zip a b,E,Y,G,k=>wpE Z a E Y G λx G1=>wpE Z b E Y G1 λy G2=>match itemsOf G2 x,itemsOf G2 y with|some ds,-es=>k (cG ds.1 es.1) (ds.2++es.2) G2|_,_=>False
end
structure En where
 nx:ak->DH->Prop
 rt:D->DH->Prop
 bk:ak->DH->Prop
 ct:ak->DH->Prop
def forLoop(step:D->ak->DH->(ak->DH->Prop)->Prop)(g:Hld):AS->ak->DH->(ak->DH->Prop)->Prop
 |[],Y,G,k=>held g G/\k Y G
 |d::ds,Y,G,k=>held g G/\step d Y G λq z=>forLoop step g ds q z k
def whileLoop(g:ak->DH->(Bool->DH->Prop)->Prop)(body:ak->DH->(ak->DH->Prop)->Prop):Nat->ak->DH->(ak->DH->Prop)->Prop
 |0,_,_,_=>False
 |n+1,Y,G,k=>g Y G λb G1=>match b with|true=>body Y G1 λq z=>whileLoop g body n q z k|false=>k Y G1
def cL(o i x:D)(G:DH)(k:DH->Prop):Prop:=
 match o with
 |.ref p=>match G p with
  |some (.lst ds)=>(match i with |.int i=>(match ixN ds⁻¹ i with|some j=>k (aK G p (.lst (ds.set j x)))|none=>False)|_=>False)
  |some (.dct ks ds)=>cF i λn=>ks⁻¹<sz/\k (aK G p (dput ks ds n x))
  |none=>False
 |_=>False
def d7(op:Operator)(a b:D)(k:D->Prop):Prop:=
 match op,a,b with
 |.Add,.int i,.int j=>k (.int (i+j))
 |.Add,.str x,.str y=>x⁻¹+y⁻¹<=sz/\k (.str (x++y))
 |.Sub,.int i,.int j=>k (.int (i-j))
 |_,_,_=>False
def Ht:D->Bool
 |.int i=>decide (0<=i)&&decide (i<100)
 |_=>false
def wpM(Z:aj):Exs->EK->ak->DH->(DH->Prop)->Prop
 |.nil,_,_,G,k=>k G
 |.cons e es,E,Y,G,k=>wpE Z e E Y G λd G1=>Ht d=true/\wpM Z es E Y G1 k
mutual
def wpS(Z:aj):Sx->EK->ak->DH->En->Prop
 |.exp e,E,Y,G,D=>wpE Z e E Y G λz G1=>D.nx Y G1
 |.asg t e,E,Y,G,D=>wpE Z e E Y G λd G1=>bG t d Y G1 λρ'=>D.nx ρ' G1
 |.sw2 o i o2 i2 x,E,Y,G,D=>wpE Z x E Y G λd G1=>match d with |.tup [u,v]=>(wpE Z o E Y G1 λa G2=>wpE Z i E Y G2 λy G3=>cL a y u G3 λG4=>wpE Z o2 E Y G4 λa2 G5=>wpE Z i2 E Y G5 λy2 G6=>cL a2 y2 v G6 λG7=>D.nx Y G7)|_=>False
 |.set o i e,E,Y,G,D=>wpE Z e E Y G λx G1=>wpE Z o E Y G1 λa G2=>wpE Z i E Y G2 λy G3=>cL a y x G3 λG4=>D.nx Y G4
 |.aug i op e,E,Y,G,D=>match Y[i]? with
  |some (-a)=>wpE Z e E Y G λb G1=>d7 op a b λc=>D.nx (Y.set i (-c)) G1
  |_=>False
 |.augs o i op e,E,Y,G,D=>wpE Z o E Y G λa G1=>wpE Z i E Y G1 λy G2=>cB (view G2 a) y λold=>wpE Z e E Y G2 λb G3=>d7 op old b λc=>cL a y c G3 λG4=>D.nx Y G4
 |.ret e,E,Y,G,D=>wpE Z e E Y G D.rt
 |.rtn,_,_,G,D=>D.rt .non G
 |.ite c a b,E,Y,G,D=>wpT Z c E Y G λt G1=>match t with|true=>au Z a E Y G1 D|false=>au Z b E Y G1 D
 |.for_ t it body,E,Y,G,D=>wpI Z it E Y G λitems g G1=>
   forLoop (λd ρ' G' k=>bG t d ρ' G' λρ1=>au Z body E ρ1 G' {D with nx:=k,ct:=k,bk:=D.nx}) g items Y G1 D.nx
 |.whl c body,E,Y,G,D=>∃n,whileLoop (λρ' G' k=>wpT Z c E ρ' G' k) (λρ' G' k=>au Z body E ρ' G' {D with nx:=k,ct:=k,bk:=D.nx}) n Y G D.nx
 |.pas,_,Y,G,D=>D.nx Y G
 |.brk,_,Y,G,D=>D.bk Y G
 |.cnt,_,Y,G,D=>D.ct Y G
 |.nev,_,_,_,_=>False
def au(Z:aj):Sxs->EK->ak->DH->En->Prop
 |.nil,_,Y,G,D=>D.nx Y G
 |.cons s r,E,Y,G,D=>wpS Z s E Y G {D with nx:=λρ' G'=>au Z r E ρ' G' D}
end
theorem xJ{Z:aj}{a}{E}{Y}{G}{k}:wpT Z (.not a) E Y G k=(wpT Z a E Y G λb G1=>k (!b) G1):=rfl
theorem xK{Z:aj}{isAnd}{e}{es}{E}{Y}{G}{k}:wpT Z (.boo isAnd e es) E Y G k=(wpT Z e E Y G λb G1=>gB Z es isAnd b E Y G1 k):=rfl
theorem xM{Z:aj}{E}{Y}{G}{k}:wpT Z .yes E Y G k=(k true G):=rfl
theorem lO{Z:aj}{x}{E}{Y}{G}{k}:wpT Z (.val x) E Y G k=(wpE Z x E Y G λd G1=>match truth (view G1 d) with|some b=>k b G1|none=>False):=rfl
theorem iz{Z:aj}{E}{Y}{G}{k}:bf Z .nil E Y G k=(k [] G):=rfl
theorem iB{Z:aj}{e}{es}{E}{Y}{G}{k}:bf Z (.cons e es) E Y G k=(wpE Z e E Y G λd G1=>bf Z es E Y G1 λds G2=>k (d::ds) G2):=rfl
theorem xN{Z:aj}{isAnd:Bool}{b:Bool}{E}{Y}{G}{k}:wpB Z .nil isAnd b E Y G k=(k (.bl b) G):=rfl
theorem sW{Z:aj}{e}{es}{isAnd:Bool}{b:Bool}{E}{Y}{G}{k}:wpB Z (.cons e es) isAnd b E Y G k=(match isAnd,b with
  |true,false=>k (.bl false) G
  |false,true=>k (.bl true) G
  |_,_=>wpE Z e E Y G λd G1=>match d with |.bl b'=>wpB Z es isAnd b' E Y G1 k|d=>jP es (k d G1)):=rfl
theorem Zk{P:Prop}:jP .nil P=P:=rfl
theorem xO{Z:aj}{isAnd:Bool}{b:Bool}{E}{Y}{G}{k}:gB Z .nil isAnd b E Y G k=(k b G):=rfl
theorem sX{Z:aj}{e}{es}{isAnd:Bool}{b:Bool}{E}{Y}{G}{k}:gB Z (.cons e es) isAnd b E Y G k=(match isAnd,b with
  |true,false=>k false G
  |false,true=>k true G
  |_,_=>wpT Z e E Y G λg G1=>gB Z es isAnd g E Y G1 k):=rfl
theorem xP{Z:aj}{E}{Y}{G}{k}:wpO Z .no E Y G k=(k none G):=rfl
theorem xQ{Z:aj}{x}{E}{Y}{G}{k}:wpO Z (.ob x) E Y G k=(wpE Z x E Y G λd G1=>match d with |.int i=>k (-i) G1|_=>False):=rfl
theorem xR{Z:aj}{e}{E}{Y}{G}{k}:wpI Z (.seq e) E Y G k=(wpE Z e E Y G λd G1=>match itemsOf G1 d with|some ds=>k ds.1 ds.2 G1|none=>False):=rfl
theorem xT{Z:aj}{a}{E}{Y}{G}{k}:wpI Z (.rng a) E Y G k=(wpE Z a E Y G λd G1=>match d with |.int n=>(Neg.neg (2 ^ 62)<=n/\n<2 ^ 62)/\k (aX 0 n.toNat) [] G1|_=>False):=rfl
theorem xU{Z:aj}{a}{b}{c}{E}{Y}{G}{k}:wpI Z (.dwn a b c) E Y G k=(wpE Z a E Y G λx G1=>wpE Z b E Y G1 λy G2=>wpE Z c E Y G2 λz g=>match x,y,z with
  |.int m,.int n,.int s=>(s=Neg.neg 1/\Neg.neg (2 ^ 62)<=m/\m<2 ^ 62/\Neg.neg (2 ^ 62)<=n/\n<2 ^ 62)/\k (fP m (m-n).toNat) [] g
  |_,_,_=>False):=rfl
theorem xV{Z:aj}{e}{E}{Y}{G}{k}:wpI Z (.enm e) E Y G k=(wpE Z e E Y G λd G1=>match itemsOf G1 d with|some ds=>k (dZ 0 ds.1) ds.2 G1|none=>False):=rfl
theorem xW{Z:aj}{a}{b}{E}{Y}{G}{k}:wpI Z (.zip a b) E Y G k=(wpE Z a E Y G λx G1=>wpE Z b E Y G1 λy G2=>match itemsOf G2 x,itemsOf G2 y with|some ds,-es=>k (cG ds.1 es.1) (ds.2++es.2) G2|_,_=>False):=rfl
theorem lQ{Z:aj}{E}{Y}{G}{D}:au Z .nil E Y G D=(D.nx Y G):=rfl
theorem lR{Z:aj}{s}{r}{E}{Y}{G}{D}:au Z (.cons s r) E Y G D=(wpS Z s E Y G {D with nx:=λg q=>au Z r E g q D}):=rfl
theorem xX{Z:aj}{i E Y G k}:wpE Z (.var i) E Y G k=(match Y[i]? with|some (-d)=>k d G|_=>False):=rfl
theorem jQ{Z:aj}{d E Y G k}:wpE Z (.cst d) E Y G k=(k d G):=rfl
theorem xY{Z:aj}{u0 d E Y G k}:wpE Z (.glb u0 d) E Y G k=(k d G):=rfl
theorem xZ{Z:aj}{op fz a b E Y G k}:wpE Z (.bin op fz a b) E Y G k=(wpE Z a E Y G λx G1=>wpE Z b E Y G1 λy G2=>cX op fz (view G2 x) (view G2 y) G2 k):=rfl
theorem yc{Z:aj}{a E Y G k}:wpE Z (.neg a) E Y G k=(wpE Z a E Y G λx G1=>match x with |.int i=>k (.int (Neg.neg i)) G1|_=>False):=rfl
theorem sY{Z:aj}{op a b E Y G k}:wpE Z (.cmp op a b) E Y G k=(wpE Z a E Y G λx G1=>wpE Z b E Y G1 λy G2=>bc op (view G2 x) (view G2 y) λc=>k (.bl c) G2):=rfl
theorem sZ{Z:aj}{op op' a b c E Y G k}:wpE Z (.chn op op' a b c) E Y G k=(wpE Z a E Y G λx G1=>wpE Z b E Y G1 λy G2=>bc op (view G2 x) (view G2 y) λt=>
   match t with
   |true=>wpE Z c E Y G2 λz g=>bc op' (view g y) (view g z) λt'=>k (.bl t') g
   |false=>k (.bl false) G2):=rfl
theorem yd{Z:aj}{a E Y G k}:wpE Z (.not a) E Y G k=(wpE Z a E Y G λx G1=>match truth (view G1 x) with|some b=>k (.bl (!b)) G1|none=>False):=rfl
theorem ye{Z:aj}{isAnd e es E Y G k}:wpE Z (.boo isAnd e es) E Y G k=(wpE Z e E Y G λd G1=>match d with |.bl b=>wpB Z es isAnd b E Y G1 k|_=>False):=rfl
theorem yf{Z:aj}{c a b E Y G k}:wpE Z (.ife c a b) E Y G k=(wpT Z c E Y G λt G1=>match t with|true=>wpE Z a E Y G1 k|false=>wpE Z b E Y G1 k):=rfl
theorem yg{Z:aj}{es E Y G k}:wpE Z (.tup es) E Y G k=(bf Z es E Y G λds G1=>ds⁻¹<=sz/\k (.tup ds) G1):=rfl
theorem yh{Z:aj}{fz es E Y G k}:wpE Z (.lst fz es) E Y G k=(bf Z es E Y G λds G1=>ds⁻¹<=sz/\mk fz ds G1 k):=rfl
theorem yj{Z:aj}{a i E Y G k}:wpE Z (.idx a i) E Y G k=(wpE Z a E Y G λx G1=>wpE Z i E Y G1 λy G2=>cB (view G2 x) y λd=>k d G2):=rfl
theorem yl{Z:aj}{fz a lo hi E Y G k}:wpE Z (.slc fz a lo hi) E Y G k=(wpE Z a E Y G λx G1=>wpO Z lo E Y G1 λl G2=>wpO Z hi E Y G2 λh g=>eV fz (view g x) l h g k):=rfl
theorem ym{Z:aj}{f es E Y G k}:wpE Z (.call f es) E Y G k=(bf Z es E Y G λds G1=>(Z f).t ds G1 k E):=rfl
theorem yo{Z:aj}{f es E Y G k}:wpE Z (.bcl f es) E Y G k=(bf Z es E Y G λds G1=>opB f (ds.map (view G1)) λd=>k d G1):=rfl
theorem yp{Z:aj}{fz f es E Y G k}:wpE Z (.lcl fz f es) E Y G k=(bf Z es E Y G λds G1=>cR f (ds.map (view G1)) λxs=>mk fz xs G1 k):=rfl
theorem yq{Z:aj}{a t E Y G k}:wpE Z (.isi a t) E Y G k=(wpE Z a E Y G λx G1=>match isT t (view G1 x) with|some b=>k (.bl b) G1|none=>False):=rfl
theorem yr{Z:aj}{fz a E Y G k}:wpE Z (.rgl fz a) E Y G k=(wpE Z a E Y G λd G1=>match d with |.int n=>(0<=n/\n<=1000)/\mk fz (aX 0 n.toNat) G1 k|_=>False):=rfl
theorem yt{Z:aj}{C f o E Y G k}:wpE Z (.fld C f o) E Y G k=(wpE Z o E Y G λd G1=>jN C f d λq=>k (.ref q) G1):=rfl
theorem yu{Z:aj}{f C m o es E Y G k}:wpE Z (.mcl f C m o es) E Y G k=(wpE Z o E Y G λd G1=>jO C m d/\bf Z es E Y G1 λds G2=>(Z f).t (d::ds) G2 k E):=rfl
theorem yw{Z:aj}{C es E Y G k}:wpE Z (.mko C es) E Y G k=(bf Z es E Y G λds G1=>(Z C).t ds G1 k E):=rfl
theorem yx{Z:aj}{a E Y G k}:wpE Z (.rgt a) E Y G k=(wpE Z a E Y G λd G1=>match d with |.int n=>(0<=n/\n<=1000)/\k (.tup (aX 0 n.toNat)) G1|_=>False):=rfl
theorem Hu{Z:aj}{E Y G k}:wpF Z .nil E Y G k=k [] G:=rfl
theorem Hv{Z:aj}{e es E Y G k}:wpF Z (.cons e es) E Y G k=(wpE Z e E Y G λd G1=>match d with
  |.str l=>l⁻¹<=1000/\wpF Z es E Y G1 λx G2=>k (l++x) G2
  |.int i=>(0<=i/\i<100)/\wpF Z es E Y G1 λx G2=>k (gR i.toNat++x) G2
  |_=>False):=rfl
theorem iC{Z:aj}{m o es E Y G k}:wpE Z (.mth m o es) E Y G k=(wpE Z o E Y G λx G1=>recv m x G1/\bf Z es E Y G1 λds G2=>opM m x ds G2 k):=rfl
theorem yz{Z:aj}{a E Y G k}:wpE Z (.frz a) E Y G k=(wpE Z a E Y G λx G1=>match x with |.ref p=>(match G1 p with|some (.lst ds)=>k (.lst ds) (gP G1 p)|_=>False)|d=>k d G1):=rfl
theorem yC{Z:aj}{E Y G k}:wpE Z .dnw E Y G k=(∀p,G p=none->k (.ref p) (aK G p (.dct [] []))):=rfl
theorem yD{Z:aj}{a b E Y G k}:wpE Z (.dp1 a b) E Y G k=(wpE Z a E Y G λx G1=>wpE Z b E Y G1 λy G2=>cF x λn=>∀p,G2 p=none->k (.ref p) (aK G2 p (.dct [n] [y]))):=rfl
theorem yE{Z:aj}{e E Y G D}:wpS Z (.exp e) E Y G D=(wpE Z e E Y G λz G1=>D.nx Y G1):=rfl
theorem lU{Z:aj}{t e E Y G D}:wpS Z (.asg t e) E Y G D=(wpE Z e E Y G λd G1=>bG t d Y G1 λg=>D.nx g G1):=rfl
theorem yF{Z:aj}{o i o2 i2 x E Y G D}:wpS Z (.sw2 o i o2 i2 x) E Y G D=(wpE Z x E Y G λd G1=>match d with |.tup [u,v]=>(wpE Z o E Y G1 λa G2=>wpE Z i E Y G2 λy g=>cL a y u g λq=>wpE Z o2 E Y q λL z=>wpE Z i2 E Y z λN I=>cL L N v I λJ=>D.nx Y J)|_=>False):=rfl
theorem yG{Z:aj}{o i e E Y G D}:wpS Z (.set o i e) E Y G D=(wpE Z e E Y G λx G1=>wpE Z o E Y G1 λa G2=>wpE Z i E Y G2 λy g=>cL a y x g λq=>D.nx Y q):=rfl
theorem yH{Z:aj}{i op e E Y G D}:wpS Z (.aug i op e) E Y G D=(match Y[i]? with
  |some (-a)=>wpE Z e E Y G λb G1=>d7 op a b λc=>D.nx (Y.set i (-c)) G1
  |_=>False):=rfl
theorem yI{Z:aj}{o i op e E Y G D}:wpS Z (.augs o i op e) E Y G D=(wpE Z o E Y G λa G1=>wpE Z i E Y G1 λy G2=>cB (view G2 a) y λg=>wpE Z e E Y G2 λb q=>d7 op g b λc=>cL a y c q λz=>D.nx Y z):=rfl
theorem yJ{Z:aj}{e E Y G D}:wpS Z (.ret e) E Y G D=(wpE Z e E Y G D.rt):=rfl
theorem yK{Z:aj}{E Y G D}:wpS Z .rtn E Y G D=(D.rt .non G):=rfl
theorem yL{Z:aj}{c a b E Y G D}:wpS Z (.ite c a b) E Y G D=(wpT Z c E Y G λt G1=>match t with|true=>au Z a E Y G1 D|false=>au Z b E Y G1 D):=rfl
theorem yM{Z:aj}{E Y G D}:wpS Z .pas E Y G D=(D.nx Y G):=rfl
theorem yN{Z:aj}{E Y G D}:wpS Z .brk E Y G D=(D.bk Y G):=rfl
theorem yO{Z:aj}{E Y G D}:wpS Z .cnt E Y G D=(D.ct Y G):=rfl
theorem Zm{Z:aj}{E Y G k}:wpM Z .nil E Y G k=k G:=rfl
theorem Zn{Z:aj}{e es E Y G k}:wpM Z (.cons e es) E Y G k=(wpE Z e E Y G λd G1=>Ht d=true/\wpM Z es E Y G1 k):=rfl
theorem yP{Z:aj}{E Y G D}:wpS Z .nev E Y G D=(False):=rfl
theorem yQ{Z:aj}{fz elt tg it cond N cap E Y G k}:wpE Z (.comp fz elt tg it cond N cap) E Y G k=(wpI Z it E Y G λz g G1=>
   compLoop (λd I J k'=>bG tg d I J λq=>wpT Z cond noE q J λb G2=>match b with|true=>wpE Z elt noE q G2 λy L=>k' (-y) q L|false=>k' none q G2)
    g z [] (cap.map λo=>match o with|none=>none|some j=>(Y[j]?).join) G1 λds G2=>mk fz ds G2 k):=rfl
theorem Hw{Z:aj}{t it body E Y G D}:wpS Z (.for_ t it body) E Y G D=(wpI Z it E Y G λq g G1=>
   forLoop (λd z J k=>bG t d z J λI=>au Z body E I J {D with nx:=k,ct:=k,bk:=D.nx}) g q Y G1 D.nx):=rfl
theorem Hx{Z:aj}{c body E Y G D}:wpS Z (.whl c body) E Y G D=(∃n,whileLoop (λg q k=>wpT Z c E g q k) (λg q k=>au Z body E g q {D with nx:=k,ct:=k,bk:=D.nx}) n Y G D.nx):=rfl
section
variable {k k':AT} {G:DH}
def dO{fz:Bool}{xs:AS}(h:∀d g,k d g->k' d g)(q:mk fz xs G k):mk fz xs G k':=by
 cases fz with
 |true=>exact h _ _ q
 |false=>exact λp z=>h _ _ (q p z)
def Hy{a b:D}{p:Int->Int->Prop}(h:gQ a b p):∃i j,a=.int i/\b=.int j/\p i j:=by
 cases a with
 |int i=>cases b with
  |int j=>exact⟨i,j,rfl,rfl,h⟩
  |_=>exact h.elim
 |_=>exact h.elim
def tu{a b:D}{p q:Int->Int->Prop}(h:∀i j,p i j->q i j)(z:gQ a b p):gQ a b q:=by let(i,j,rfl,rfl,z):=Hy z;exact h i j z
def Hz{op:Operator}{fz:Bool}{a b:D}(h:∀d g,k d g->k' d g)(q:cX op fz a b G k):cX op fz a b G k':=by
 cases op with
 |Add=>
  have q:jD fz a b G k:=q;change jD fz a b G k';unfold jD at q ⊢;cases a with
  |int i=>cases b<;>first|exact h _ _ q|exact q
  |str i=>cases b<;>first|exact⟨q.1,h _ _ q.2⟩|exact q
  |lst i=>cases b<;>first|exact⟨q.1,dO h q.2⟩|exact q
  |tup i=>cases b<;>first|exact⟨q.1,h _ _ q.2⟩|exact q
  |_=>exact q
 |Sub=>exact tu (λy y z=>h _ _ z) q
 |Mult=>
  have q:jE fz a b G k:=q;change jE fz a b G k';unfold jE at q ⊢;cases b with
  |int n=>cases a<;>first|exact⟨q.1,h _ _ q.2⟩|exact⟨q.1,q.2.1,q.2.2.1,h _ _ q.2.2.2⟩|exact⟨q.1,q.2.1,q.2.2.1,dO h q.2.2.2⟩|exact⟨q.1,q.2.1,q.2.2.1,q.2.2.2.1,h _ _ q.2.2.2.2⟩|exact q
  |_=>exact q
 |FloorDiv=>exact tu (λy y z=>⟨z.1,h _ _ z.2⟩) q
 |Mod=>exact tu (λy y z=>⟨z.1,h _ _ z.2⟩) q
 |Pow=>exact tu (λy y z=>⟨z.1,h _ _ z.2⟩) q
 |_=>exact q
def tB{d:D}{k k':List Int->Prop}(h:∀n,k n->k' n)(q:cF d k):cF d k':=by
 unfold cF at q ⊢;split at q
 .split at q
  .exact h _ q
  .exact q
 .exact q
def HB{a b:D}{k k':Bool->Prop}(h:∀c,k c->k' c)(q:gn a b k):gn a b k':=by
 unfold gn at q ⊢;split at q
 .split at q
  .exact h _ q
  .exact q
 .exact ⟨q.1,h _ q.2⟩
 .exact ⟨q.1,h _ q.2⟩
 .exact tB (λy z=>h _ z) q
 .exact q
def iD{op:CmpOp}{a b:D}{k k':Bool->Prop}(h:∀c,k c->k' c)(q:bc op a b k):bc op a b k':=by
 cases op with
 |Eq=>exact⟨q.1,h _ q.2⟩
 |NotEq=>exact⟨q.1,h _ q.2⟩
 |Lt=>have q:jF a b k:=q;change jF a b k';unfold jF at q ⊢;split at q<;>first|exact h _ q|exact q
 |LtE=>have q:jG a b k:=q;change jG a b k';unfold jG at q ⊢;split at q<;>first|exact h _ q|exact q
 |Gt=>have q:jH a b k:=q;change jH a b k';unfold jH at q ⊢;split at q<;>first|exact h _ q|exact q
 |GtE=>have q:jJ a b k:=q;change jJ a b k';unfold jJ at q ⊢;split at q<;>first|exact h _ q|exact q
 |Is=>
  have q:jK a b k:=q;change jK a b k';unfold jK at q ⊢;split at q
  .exact h _ q
  .split at q
   .exact h _ q
   .exact q
  .exact q
 |IsNot=>
  have q:jL a b k:=q;change jL a b k';unfold jL at q ⊢;split at q
  .exact h _ q
  .split at q
   .exact h _ q
   .exact q
  .exact q
 |In=>exact HB h q
 |NotIn=>exact HB (λc=>h _) q
def tD{a i:D}{k k':D->Prop}(h:∀c,k c->k' c)(q:cB a i k):cB a i k':=by
 unfold cB at q ⊢;split at q
 .split at q
  .exact h _ q
  .exact q
 .split at q
  .exact h _ q
  .exact q
 .split at q
  .exact h _ q
  .exact q
 .show tB (λz q=>?_) q;split at q
  .split at q
   .exact h _ q
   .exact q
  .exact q
 .exact q
def HF{fz:Bool}{a:D}{lo hi:Option Int}(h:∀d g,k d g->k' d g)(q:eV fz a lo hi G k):eV fz a lo hi G k':=by
 unfold eV at q ⊢;split at q<;>first
  |exact dO h q
  |exact h _ _ q
  |exact q.elim
def amm{fz:Bool}{a y:D}(h:∀d g,k d g->k' d g)(q:sG fz a y G k):sG fz a y G k':=by
 unfold sG at q ⊢;split at q
 .exact ⟨q.1,dO h q.2⟩
 .exact ⟨q.1,h _ _ q.2⟩
 .exact q.elim
def HH{f:Bf}{as:AS}{k k':D->Prop}(h:∀c,k c->k' c)(q:opB f as k):opB f as k':=by
 cases f with
 |len=>simp only[opB,xj]at q ⊢;split at q<;>first|exact h _ q|exact q.elim
 |all=>
  simp only[opB,sH]at q ⊢;split at q
  .split at q
   .exact h _ q
   .exact q
  .exact q
 |int=>
  simp only[opB,sI]at q ⊢;split at q
  .exact h _ q
  .exact h _ q
  .split at q
   .exact ⟨q.1,h _ q.2⟩
   .exact q
  .exact q
 |tuple=>simp only[opB,xm]at q ⊢;split at q<;>first|exact h _ q|exact q.elim
 |sum=>
  simp only[opB,xq]at q ⊢;split at q
  .split at q
   .exact h _ q
   .exact q
  .exact q
 |min=>
  simp only[opB,lL]at q ⊢;split at q
  .split at q
   .exact ⟨q.1,λm h1 h2=>h _ (q.2 m h1 h2)⟩
   .split at q
    .exact λm h1 h2=>h _ (q m h1 h2)
    .exact q
  .exact q
 |max=>simp only[opB,Ho]at q ⊢;split at q<;>first|exact h _ q|exact q.elim
 |abs=>simp only[opB,Hm]at q ⊢;split at q<;>first|exact h _ q|exact q.elim
 |min2=>simp only[opB,Hn]at q ⊢;split at q<;>first|exact h _ q|exact q.elim
 |str=>
  simp only[opB,xr]at q ⊢;split at q
  .exact ⟨q.1,h _ q.2⟩
  .exact q
def amn{d:D}{k k':AS->Prop}(h:∀c,k c->k' c)(q:lN d k):lN d k':=by
 unfold lN at q ⊢;split at q
 .split at q
  .exact ⟨q.1,λg p=>h _ (q.2 g p)⟩
  .exact q
 .exact q
def HJ{f:Lf}{as:AS}{k k':AS->Prop}(h:∀c,k c->k' c)(q:cR f as k):cR f as k':=by
 cases f with
 |list=>simp only[cR,xu]at q ⊢;split at q<;>first|exact h _ q|exact q.elim
 |sorted=>
  simp only[cR,lM]at q ⊢;split at q
  .split at q
   .exact ⟨q.1,λg p z=>h _ (q.2 g p z)⟩
   .exact q
  .split at q
   .exact ⟨q.1,λg p z=>h _ (q.2 g p z)⟩
   .exact q
  .exact q
def jR{m:Mf}{o:D}{as:AS}(h:∀d z,k d z->k' d z)(q:opM m o as G k):opM m o as G k':=by
 cases m with
 |join=>
  simp only[opM,sO]at q ⊢;split at q
  .split at q
   .exact ⟨q.1,h _ _ q.2⟩
   .exact q
  .exact q
 |append=>
  simp only[opM,sS]at q ⊢;split at q
  .split at q
   .exact ⟨q.1,h _ _ q.2⟩
   .exact q
  .exact q
 |extend=>
  simp only[opM,sU]at q ⊢;split at q
  .split at q
   .exact ⟨q.1,h _ _ q.2⟩
   .exact q
  .exact q
 |pop=>
  simp only[opM,sV]at q ⊢;split at q
  .split at q
   .show ⟨q.1,q.2.1,?_⟩;have g:=q.2.2;split at g
    .exact h _ _ g
    .exact g
   .exact q
  .exact q
 |idxL=>
  simp only[opM,jM]at q ⊢;split at q
  .split at q
   .exact ⟨q.1,h _ _ q.2⟩
   .exact q
  .exact q
def gW{o i x:D}{k k':DH->Prop}(h:∀g,k g->k' g)(q:cL o i x G k):cL o i x G k':=by
 unfold cL at q ⊢;split at q
 .split at q
  .split at q
   .split at q
    .exact h _ q
    .exact q
   .exact q
  .exact tB (λy z=>⟨z.1,h _ z.2⟩) q
  .exact q
 .exact q
def tH{op:Operator}{a b:D}{k k':D->Prop}(h:∀c,k c->k' c)(q:d7 op a b k):d7 op a b k':=by
 unfold d7 at q ⊢;split at q<;>first
  |exact h _ q
  |exact⟨q.1,h _ q.2⟩
  |exact q.elim
mutual
theorem gC{k k':ak->Prop}(h:∀Y,k Y->k' Y):∀(t:Tg){d:D}{Y:ak},bG t d Y G k->bG t d Y G k'
 |.nm i,d,Y,q=>h _ q
 |.tp ts,d,Y,q=>by
  unfold bG at q ⊢;split at q
  .exact yR h ts q
  .exact yR h ts q
  .exact q
theorem yR{k k':ak->Prop}(h:∀Y,k Y->k' Y):∀(ts:Tgs){ds:AS}{Y:ak},bY ts ds Y G k->bY ts ds Y G k'
 |.nil,ds,Y,q=>by
  unfold bY at q ⊢;split at q
  .exact h _ q
  .exact q
 |.cons t r,ds,Y,q=>by
  unfold bY at q ⊢;split at q
  .exact gC (λρ' q'=>yR h r q') t q
  .exact q
end
def tM{step J:D->ak->DH->(Option D->ak->DH->Prop)->Prop}(hs:∀d Y G (k k':Option D->ak->DH->Prop),(∀o L N,k o L N->k' o L N)->step d Y G k->J d Y G k')
  {g:Hld} {k k':AS->DH->Prop} (h:∀ds N,k ds N->k' ds N):∀(ds I:AS)(Y:ak)(G:DH),compLoop step g ds I Y G k->compLoop J g ds I Y G k'
 |[],I,Y,G,q=>⟨q.1,q.2.1,h _ _ q.2.2⟩
 |d::ds,I,Y,G,q=>by
  show⟨q.1,q.2.1,hs d Y G _ _ (λo L N z=>?_) q.2.2⟩;cases o with
  |some y=>exact tM hs h ds (I++[y]) L N z
  |none=>exact tM hs h ds I L N z
def Zo{step J:D->AS->ak->DH->(AS->ak->DH->Prop)->Prop}(hs:∀d I Y G (k k':AS->ak->DH->Prop),(∀a L N,k a L N->k' a L N)->step d I Y G k->J d I Y G k')
  {g:Hld} {k k':AS->ak->DH->Prop} (h:∀a Y N,k a Y N->k' a Y N):∀(ds I:AS)(Y:ak)(G:DH),xH step g ds I Y G k->xH J g ds I Y G k'
 |[],I,Y,G,q=>⟨q.1,h _ _ _ q.2⟩
 |d::ds,I,Y,G,q=>⟨q.1,hs d I Y G _ _ (λa L N z=>Zo hs h ds a L N z) q.2⟩
def HN{step I:D->ak->DH->(ak->DH->Prop)->Prop}(hs:∀d Y G (k k':ak->DH->Prop),(∀J L,k J L->k' J L)->step d Y G k->I d Y G k')
  {g:Hld} {k k':ak->DH->Prop} (h:∀Y L,k Y L->k' Y L):∀(ds:AS)(Y:ak)(G:DH),forLoop step g ds Y G k->forLoop I g ds Y G k'
 |[],Y,G,q=>⟨q.1,h _ _ q.2⟩
 |d::ds,Y,G,q=>⟨q.1,hs d Y G _ _ (λJ L z=>HN hs h ds J L z) q.2⟩
def HQ{N I:ak->DH->(Bool->DH->Prop)->Prop}{body g:ak->DH->(ak->DH->Prop)->Prop}
  (ht:∀Y G (k k':Bool->DH->Prop),(∀b J,k b J->k' b J)->N Y G k->I Y G k') (U:∀Y G (k k':ak->DH->Prop),(∀L J,k L J->k' L J)->body Y G k->g Y G k')
  {k k':ak->DH->Prop} (h:∀Y J,k Y J->k' Y J):∀(n:Nat)(Y:ak)(G:DH),whileLoop N body n Y G k->whileLoop I g n Y G k'
 |0,Y,G,q=>q
 |n+1,Y,G,q=>ht Y G _ _ (λb J z=>by
   cases b with
   |true=>exact U Y J _ _ (λL O z'=>HQ ht U h n L O z') z
   |false=>exact h _ _ z) q
end
section
variable {Z:aj} {G:DH}
def yS:∀(x:Exs){P Q:Prop},(P->Q)->jP x P->jP x Q
 |.nil,_,_,h,q=>h q
 |.cons _ _,_,_,_,q=>q
mutual
theorem aJ{E:EK}{Y:ak}:∀(x:Ex){G:DH}{k k':AT},(∀d G',k d G'->k' d G')->wpE Z x E Y G k->wpE Z x E Y G k'
 |.var i,G,k,k',h,q=>by
  rw[xX]at q ⊢;split at q
  .exact h _ _ q
  .exact q
 |.cst d,G,k,k',h,q=>by rw[jQ]at q ⊢;exact h _ _ q
 |.glb x d,G,k,k',h,q=>by rw[xY]at q ⊢;exact h _ _ q
 |.bin op fz a b,G,k,k',h,q=>by
  rw[xZ]at q ⊢;exact aJ a (λv v q=>aJ b (λv v q=>Hz h q) q) q
 |.neg a,G,k,k',h,q=>by
  rw[yc]at q ⊢;show aJ a (λx v q=>?_) q;split at q
  .exact h _ _ q
  .exact q
 |.cmp op a b,G,k,k',h,q=>by
  rw[sY]at q ⊢;exact aJ a (λv v q=>aJ b (λv v q=>iD (λv q=>h _ _ q) q) q) q
 |.chn op op' a b c,G,k,k',h,q=>by
  rw[sZ]at q ⊢;show aJ a (λv v q=>aJ b (λv v q=>iD (λt q=>?_) q) q) q;cases t with
  |true=>exact aJ c (λv v q=>iD (λv q=>h _ _ q) q) q
  |false=>exact h _ _ q
 |.not a,G,k,k',h,q=>by
  rw[yd]at q ⊢;show aJ a (λx v q=>?_) q;split at q
  .exact h _ _ q
  .exact q
 |.boo isAnd e es,G,k,k',h,q=>by
  rw[ye]at q ⊢;show aJ e (λx v q=>?_) q;split at q
  .exact tQ es h q
  .exact q
 |.ife c a b,G,k,k',h,q=>by
  rw[yf]at q ⊢;show dC c (λt v q=>?_) q;cases t with
  |true=>exact aJ a h q
  |false=>exact aJ b h q
 |.tup es,G,k,k',h,q=>by
  rw[yg]at q ⊢;exact eY es (λv v q=>⟨q.1,h _ _ q.2⟩) q
 |.lst fz es,G,k,k',h,q=>by
  rw[yh]at q ⊢;exact eY es (λv v q=>⟨q.1,dO h q.2⟩) q
 |.idx a i,G,k,k',h,q=>by
  rw[yj]at q ⊢;exact aJ a (λv v q=>aJ i (λv v q=>tD (λv q=>h _ _ q) q) q) q
 |.slc fz a lo hi,G,k,k',h,q=>by
  rw[yl]at q ⊢;exact aJ a (λv v q=>yU lo (λv v q=>yU hi (λv v q=>HF h q) q) q) q
 |.call f es,G,k,k',h,q=>by
  rw[ym]at q ⊢;exact eY es (λv v q=>Spec.mono q h λv v z=>z) q
 |.bcl f es,G,k,k',h,q=>by
  rw[yo]at q ⊢;exact eY es (λv v q=>HH (λv q=>h _ _ q) q) q
 |.lcl fz f es,G,k,k',h,q=>by
  rw[yp]at q ⊢;exact eY es (λv v q=>HJ (λv q=>dO h q) q) q
 |.isi a t,G,k,k',h,q=>by
  rw[yq]at q ⊢;show aJ a (λx v q=>?_) q;split at q
  .exact h _ _ q
  .exact q
 |.rgl fz a,G,k,k',h,q=>by
  rw[yr]at q ⊢;show aJ a (λd v q=>?_) q;split at q
  .exact ⟨q.1,dO h q.2⟩
  .exact q
 |.fld C f o,G,k,k',h,q=>by
  rw[yt]at q ⊢;show aJ o (λd v q=>?_) q;unfold jN at q ⊢;split at q
  .exact ⟨q.1,q.2.1,h _ _ q.2.2⟩
  .exact q
 |.mcl f C m o es,G,k,k',h,q=>by
  rw[yu]at q ⊢;exact aJ o (λd v q=>⟨q.1,eY es (λv v q=>Spec.mono q h λv v z=>z) q.2⟩) q
 |.mko C es,G,k,k',h,q=>by
  rw[yw]at q ⊢;exact eY es (λv v q=>Spec.mono q h λv v z=>z) q
 |.rgt a,G,k,k',h,q=>by
  rw[yx]at q ⊢;show aJ a (λd v q=>?_) q;split at q
  .exact ⟨q.1,h _ _ q.2⟩
  .exact q
 |.mth m o es,G,k,k',h,q=>by
  rw[iC]at q ⊢;exact aJ o (λv v q=>⟨q.1,eY es (λv v q=>jR h q) q.2⟩) q
 |.comp fz elt tg it cond N cap,G,k,k',h,q=>by
  rw[yQ]at q ⊢;show lV it (λitems g G1 q=>?_) q;show tM ?_ (λds G2 z=>dO h z) items [] _ G1 q;intro d ρ' G' k k' hk z;show gC (λρ1 z=>?_) tg z;show dC cond (λb G2 z=>?_) z;cases b with
  |true=>exact aJ elt (λy G3 z=>hk _ _ _ z) z
  |false=>exact hk _ _ _ z
 |.dnw,G,k,k',h,q=>by rw[yC]at q ⊢;exact λp hp=>h _ _ (q p hp)
 |.dp1 a b,G,k,k',h,q=>by rw[yD]at q ⊢;exact aJ a (λv v q=>aJ b (λv v q=>tB (λv z p hp=>h _ _ (z p hp)) q) q) q
 |.frz a,G,k,k',h,q=>by
  rw[yz]at q ⊢;show aJ a (λx G1 q=>?_) q;split at q
  .split at q
   .exact h _ _ q
   .exact q
  .exact h _ _ q
theorem dC{E:EK}{Y:ak}:∀(x:Tx){G:DH}{k k':Bool->DH->Prop},(∀d G',k d G'->k' d G')->wpT Z x E Y G k->wpT Z x E Y G k'
 |.not a,G,k,k',h,q=>by rw[xJ]at q ⊢;exact dC a (λz z q=>h _ _ q) q
 |.boo isAnd e es,G,k,k',h,q=>by rw[xK]at q ⊢;exact dC e (λz z q=>tR es h q) q
 |.yes,G,k,k',h,q=>by rw[xM]at q ⊢;exact h _ _ q
 |.val a,G,k,k',h,q=>by
  rw[lO]at q ⊢;show aJ a (λx z q=>?_) q;split at q
  .exact h _ _ q
  .exact q
theorem HR{E:EK}{Y:ak}:∀(x:Exs){G:DH}{k k':AA->DH->Prop},(∀d G',k d G'->k' d G')->wpF Z x E Y G k->wpF Z x E Y G k'
 |.nil,G,k,k',h,q=>by rw[Hu]at q ⊢;exact h _ _ q
 |.cons e es,G,k,k',h,q=>by
  rw[Hv]at q ⊢;show aJ e (λd z q=>?_) q;split at q
  .exact ⟨q.1,HR es (λz z q=>h _ _ q) q.2⟩
  .exact ⟨q.1,HR es (λz z q=>h _ _ q) q.2⟩
  .exact q
theorem eY{E:EK}{Y:ak}:∀(x:Exs){G:DH}{k k':AS->DH->Prop},(∀d G',k d G'->k' d G')->bf Z x E Y G k->bf Z x E Y G k'
 |.nil,G,k,k',h,q=>by rw[iz]at q ⊢;exact h _ _ q
 |.cons e es,G,k,k',h,q=>by rw[iB]at q ⊢;exact aJ e (λz z q=>eY es (λz z q=>h _ _ q) q) q
theorem tQ{E:EK}{Y:ak}:∀(x:Exs){isAnd b:Bool}{G:DH}{k k':AT},(∀d G',k d G'->k' d G')->wpB Z x isAnd b E Y G k->wpB Z x isAnd b E Y G k'
 |.nil,_,_,G,k,k',h,q=>by rw[xN]at q ⊢;exact h _ _ q
 |.cons e es,isAnd,b,G,k,k',h,q=>by
  rw[sW]at q ⊢;cases isAnd<;>cases b<;>first
   |exact h _ _ q
   | (show aJ e (λd z q=>?_) q
      split at q
      .exact tQ es h q
      .exact yS es (h _ _) q)
theorem tR{E:EK}{Y:ak}:∀(x:Txs){isAnd b:Bool}{G:DH}{k k':Bool->DH->Prop},(∀d G',k d G'->k' d G')->gB Z x isAnd b E Y G k->gB Z x isAnd b E Y G k'
 |.nil,_,_,G,k,k',h,q=>by rw[xO]at q ⊢;exact h _ _ q
 |.cons e es,isAnd,b,G,k,k',h,q=>by
  rw[sX]at q ⊢;cases isAnd<;>cases b<;>first
   |exact h _ _ q
   |exact dC e (λd z q=>tR es h q) q
theorem yU{E:EK}{Y:ak}:∀(x:Ox){G:DH}{k k':Option Int->DH->Prop},(∀d G',k d G'->k' d G')->wpO Z x E Y G k->wpO Z x E Y G k'
 |.no,G,k,k',h,q=>by rw[xP]at q ⊢;exact h _ _ q
 |.ob a,G,k,k',h,q=>by
  rw[xQ]at q ⊢;show aJ a (λx z q=>?_) q;split at q
  .exact h _ _ q
  .exact q
theorem lV{E:EK}{Y:ak}:∀(x:It'){G:DH}{k k':AS->Hld->DH->Prop},(∀d g G',k d g G'->k' d g G')->wpI Z x E Y G k->wpI Z x E Y G k'
 |.seq a,G,k,k',h,q=>by
  rw[xR]at q ⊢;show aJ a (λx v q=>?_) q;split at q
  .exact h _ _ _ q
  .exact q
 |.rng a,G,k,k',h,q=>by
  rw[xT]at q ⊢;show aJ a (λx v q=>?_) q;split at q
  .exact ⟨q.1,h _ _ _ q.2⟩
  .exact q
 |.dwn a b d,G,k,k',h,q=>by
  rw[xU]at q ⊢;show aJ a (λx v q=>aJ b (λy v q=>aJ d (λz v q=>?_) q) q) q;split at q
  .exact ⟨q.1,h _ _ _ q.2⟩
  .exact q
 |.enm a,G,k,k',h,q=>by
  rw[xV]at q ⊢;show aJ a (λx v q=>?_) q;split at q
  .exact h _ _ _ q
  .exact q
 |.zip a b,G,k,k',h,q=>by
  rw[xW]at q ⊢;show aJ a (λx v q=>aJ b (λy v q=>?_) q) q;split at q
  .exact h _ _ _ q
  .exact q
end
structure En.Le(D D':En):Prop where
 nx:∀Y G,D.nx Y G->D'.nx Y G
 rt:∀d G,D.rt d G->D'.rt d G
 bk:∀Y G,D.bk Y G->D'.bk Y G
 ct:∀Y G,D.ct Y G->D'.ct Y G
mutual
theorem wpS_mono{E:EK}:∀(x:Sx){Y:ak}{G:DH}{D D':En},D.Le D'->wpS Z x E Y G D->wpS Z x E Y G D'
 |.exp e,Y,G,D,D',h,q=>by rw[yE]at q ⊢;exact aJ e (λy y q=>h.nx _ _ q) q
 |.asg t e,Y,G,D,D',h,q=>by rw[lU]at q ⊢;exact aJ e (λy y q=>gC (λy q=>h.nx _ _ q) t q) q
 |.sw2 o i o2 i2 x,Y,G,D,D',h,q=>by
  rw[yF]at q ⊢;show aJ x (λd y q=>?_) q;split at q
  .exact aJ o (λy y q=>aJ i (λy y q=>gW (λy q=>aJ o2 (λy y q=>aJ i2 (λy y q=>gW (λy q=>h.nx _ _ q) q) q) q) q) q) q
  .exact q
 |.set o i e,Y,G,D,D',h,q=>by rw[yG]at q ⊢;exact aJ e (λy y q=>aJ o (λy y q=>aJ i (λy y q=>gW (λy q=>h.nx _ _ q) q) q) q) q
 |.aug i op e,Y,G,D,D',h,q=>by
  rw[yH]at q ⊢;split at q
  .exact aJ e (λy y q=>tH (λy q=>h.nx _ _ q) q) q
  .exact q
 |.augs o i op e,Y,G,D,D',h,q=>by
  rw[yI]at q ⊢;exact aJ o (λy y q=>aJ i (λy y q=>tD (λy q=>aJ e (λy y q=>tH (λy q=>gW (λy q=>h.nx _ _ q) q) q) q) q) q) q
 |.ret e,Y,G,D,D',h,q=>by rw[yJ]at q ⊢;exact aJ e (λy y q=>h.rt _ _ q) q
 |.rtn,Y,G,D,D',h,q=>by rw[yK]at q ⊢;exact h.rt _ _ q
 |.ite c a b,Y,G,D,D',h,q=>by
  rw[yL]at q ⊢;show dC c (λt y q=>?_) q;cases t with
  |true=>exact dR a h q
  |false=>exact dR b h q
 |.for_ t it body,Y,G,D,D',h,q=>by
  rw[Hw]at q ⊢;exact lV it (λitems g G1 q=>HN (λd ρ' G' k k' hk z=>gC (λρ1 z=>dR body (D:={D with nx:=k,ct:=k,bk:=D.nx}) (D':={D' with nx:=k',ct:=k',bk:=D'.nx}) ⟨hk,h.rt,h.nx,hk⟩ z) t z) h.nx items Y G1 q) q
 |.whl c body,Y,G,D,D',h,q=>by
  rw[Hx]at q ⊢;let(n,q):=q;show⟨n,?_⟩;show HQ ?_ ?_ h.nx n Y G q
  .exact λρ' G' k k' hk z=>dC c hk z
  .exact λρ' G' k k' hk z=>dR body (D:={D with nx:=k,ct:=k,bk:=D.nx}) (D':={D' with nx:=k',ct:=k',bk:=D'.nx}) ⟨hk,h.rt,h.nx,hk⟩ z
 |.pas,Y,G,D,D',h,q=>by rw[yM]at q ⊢;exact h.nx _ _ q
 |.brk,Y,G,D,D',h,q=>by rw[yN]at q ⊢;exact h.bk _ _ q
 |.cnt,Y,G,D,D',h,q=>by rw[yO]at q ⊢;exact h.ct _ _ q
 |.nev,Y,G,D,D',h,q=>by rw[yP]at q;exact q.elim
theorem dR{E:EK}:∀(x:Sxs){Y:ak}{G:DH}{D D':En},D.Le D'->au Z x E Y G D->au Z x E Y G D'
 |.nil,Y,G,D,D',h,q=>by rw[lQ]at q ⊢;exact h.nx _ _ q
 |.cons s r,Y,G,D,D',h,q=>by rw[lR]at q ⊢;exact wpS_mono s (D:={D with nx:=λρ' G'=>au Z r E ρ' G' D}) (D':={D' with nx:=λρ' G'=>au Z r E ρ' G' D'}) ⟨λy y z=>dR r h z,h.rt,h.bk,h.ct⟩ q
end
end
def PV(K:PF)(H:Hp)(F:FZ)(Q:VK):D->DH->Prop:=λd g=>∀H' F' v,Ext H F H' F'->R K H' F' g->Rep K H' F' d v->Q v H'
def PB(K:PF)(H:Hp)(F:FZ)(Q:Bool->Hp->Prop):Bool->DH->Prop:=λb g=>∀H' F',Ext H F H' F'->R K H' F' g->Q b H'
def PLs(K:PF)(H:Hp)(F:FZ)(Q:AR->Hp->Prop):AS->DH->Prop:=λds g=>∀H' F' vs,Ext H F H' F'->R K H' F' g->Reps K H' F' ds vs->Q vs H'
section
variable {K:PF} {H:Hp} {F:FZ} {G:DH} {Q:VK}
def PV.now{d:D}{v:V}(h:PV K H F Q d G)(r:R K H F G)(q:Rep K H F d v):Q v H:=h H F v (Ext.refl H F) r q
def dU{fz:Bool}{ds:AS}{vs:AR}(h:mk fz ds G (PV K H F Q))(r:R K H F G)(t:Reps K H F ds vs)(p:AQ)(g:H p=none):Q (.ref p) (upd H p (.lst vs)):=by
 cases fz with
 |true=>exact h _ _ _ (sE r g) (r.newF g) (Zg r g t)
 |false=>exact h p (r.free g) _ _ _ (cA r g) (r.newL g t) rfl
def lW{ds:AS}{vs:AR}(h:PV K H F Q (.tup ds) G)(r:R K H F G)(t:Reps K H F ds vs)(p:AQ)(g:H p=none):Q (.ref p) (upd H p (.tup vs)):=
 h _ _ _ (cA r g) (r.new g) (wZ r g t)
end
def szl:sz<=sizeLine:=by rw[ff];decide
def di{n:Nat}(h:n<=sz):n<=sizeLine:=b3 h szl
def rB2(K:PF)(f:D->D->DH->(AT)->Prop):R2:=λx y H Q=>∃F G a b,R K H F G/\Rep K H F a x/\Rep K H F b y/\f (view G a) (view G b) G (PV K H F Q)
section
variable {X:Cx}
def Zq:OpR X (binaryOp .Add) (λx y H Q=>∃a b xs ys,x=.ref a/\y=.ref b/\SqL X.K H a xs/\SqL X.K H b ys/\xs⁻¹+ys⁻¹<=sizeLine/\∀p,H p=none->Q (.ref p) (upd H p (.lst (xs++ys)))):=by
 intro p9 s Y H x y v u Q I rx ry h;let(a,b,xs,ys,rfl,rfl,ha,hb,hz,q):=h;cases rx;cases ry;let(z,r1,p1,_):=I.list ha;let(g,r2,p2,_):=I.list hb;let((cls,dd,data,sl),ho,hc,n,hd):=p1.isList;let((cls2,U,O,sl2),N,J,n2,L):=p2.isList;simp only at hc hd J L;subst hc hd J L;have e:z.toArray++g.toArray=(z++g).toArray:=by simp
 show concat_meets ⟨_,ho,rfl⟩ ⟨_,N,rfl⟩ noFill_list_add seq_list_add PySem.F.slot_list_add PySem.F.entry_list_add (PySem.F.args_list_add_2 _ _)
  (list_addW a b z.toArray g.toArray n n2 dd U sl sl2 (by rw[ax,ax,<-r1⁻¹,<-r2⁻¹];exact hz)) ⟨ho,N,?_⟩
 rw[e];exact⟨.ref _,_,I.lnew (t':=s.toks) (r1.append r2) (by rw[am];exact hz),rfl,q _ I.fresh⟩
def Zr:OpR X (binaryOp .Add) (λx y H Q=>∃a b ys,x=.ref a/\y=.ref b/\SqT X.K H a []/\SqT X.K H b ys/\Q (.ref b) H):=by
 intro p9 s Y H x y v u Q I rx ry h;let(a,b,ys,rfl,rfl,ha,hb,q):=h;cases rx;cases ry;let(its,r1,p1,_):=I.tuple ha;let(L,r2,p2,_):=I.tuple hb;let((cls,dd,data,sl),ho,hc,n,hd):=id p1;let((cls2,O,N,U),J,g,n2,z):=id p2;simp only at hc hd g z;subst hc hd g z;cases r1;exact concat_meets ⟨_,ho,rfl⟩ ⟨_,J,rfl⟩ noFill_tuple_add seq_tuple_add PySem.F.slot_tuple_add PySem.F.entry_tuple_add (PySem.F.args_tuple_add_2 _ _)
   (tuple_addW0 a b _ L.toArray n n2 dd O sl U (!2)) ⟨ho,J,⟨.ref b,H,I,rfl,q⟩⟩
def HS{K:PF}{H:Hp}{F:FZ}{ds:AS}{vs:AR}(t:Reps K H F ds vs):ds=[]↔vs=[]:=by
 have:=t⁻¹;constructor
 .intro e;subst e;exact ee.mp this.symm
 .intro e;subst e;exact ee.mp this
theorem Zt{x:Str}{n:Nat}(h1:n<=1000)(h:x⁻¹*n<=sz):MulOk x (n:Int):=by
 have h2:((x⁻¹*n:Nat):Int)<=((1000000:Nat):Int):=Int.ofNat_le.mpr h;rw[Int.natCast_mul]at h2;show⟨?_,?_,?_⟩
 .rw[bX (!0),bX (!0)];rfl
 .intro hn _ hh;have q:(0:Int)<n:=by lia
  have g:(x⁻¹:Int)<=(2 ^ 63-1)/n:=(Int.le_ediv_iff_mul_le q).mpr (Int.le_trans h2 (!1));exact absurd hh (Int.not_lt.mpr g)
 .intro _ _;unfold Builtin.Str.tooLong;rw[ff,bv];exact bX (by have:sz=1000000:=rfl;lia)
def HW(l:AA):∀(n:Nat)(g:AA),(List.replicate n l.toArray).foldl (· ++ ·) g.toArray=(g++reps l n).toArray
 |0,g=>by simp[reps]
 |n+1,g=>by
  rw[cy,List.foldl_cons];have e:g.toArray++l.toArray=(g++l).toArray:=by simp
  rw[e,HW l n (g++l)];unfold reps;rw[cy,eT,fk]
def Zu(n:Nat):reps ([]:AA) n=[]:=by
 unfold reps;induction n with
 |zero=>rfl
 |succ n g=>rw[cy,eT,g];rfl
def Zv{g:Type}(l:List g)(n:Nat):(reps l n)⁻¹=n*l⁻¹:=len_rep l n
theorem Zw(l:AA)(n:Nat):Txt.mul (tx l) (n:Int)=tx (reps l n):=by
 unfold Txt.mul;by_cases h:(n:Int)<1
 .rw[if_pos h];have:n=0:=by lia
  subst this;rfl
 .rw[if_neg h];by_cases h2:((n:Int)==1||(tx l)⁻¹==0)=true
  .rw[if_pos h2];rw[dQ]at h2;rcases h2 with h2|h2
   .have:n=1:=by have:=eq_of_beq h2;lia
    subst this;simp[reps]
   .have g:=eq_of_beq h2;rw[cz]at g;have:l=[]:=ee.mp g;subst this;rw[Zu]
  .rw[if_neg h2];have e:=HW l n [];rw[List.nil_append]at e;exact eS Str.mk (!!e)
theorem Zx(op:Operator)(fz:Bool):OpR X (binaryOp op) (rB2 X.K (cX op fz)):=by
 intro p9 s Y H x y v u Q I q z h;let(F,G,a,b,r,L,N,h):=h;generalize ea:view G a=va at h;generalize eb:view G b=vb at h;have g:∀{p:Int->Int->Prop},gQ va vb p->∃i j,x=.int i/\y=.int j/\p i j:=λ{p} h=>by
  let(i,j,rfl,rfl,h):=Hy h;cases fO ea;cases fO eb;exact⟨i,j,L,N,h⟩
 cases op with
 |Add=>
  have h:jD fz va vb G _:=h;unfold jD at h;cases va with
  |int _=>cases vb with
   |int _=>
    cases fO ea;cases fO eb;have ha:x=.int _:=L;have J:y=.int _:=N;subst ha;subst J;exact Ea p9 s Y H _ _ v u Q I q z ⟨_,_,rfl,rfl,h.now r rfl⟩
   |_=>exact h.elim
  |str _=>cases vb with
   |str _=>
    cases gm ea;cases gm eb;let(ha,la):=L;let(J,lb):=N;subst ha;subst J;show Vo p9 s Y H _ _ v u Q I q z ⟨_,_,rfl,rfl,?_,?_⟩
    .rw[cz,cz];exact di h.1
    .rw[rW];exact h.2.now r ⟨rfl,by rw[am];exact h.1⟩
   |_=>exact h.elim
  |lst _=>cases vb with
   |lst _=>
    let(p,vs,rfl,q1,O):=Rep.list r L ea;let(p',U,rfl,q2,t2):=Rep.list r N eb;exact Zq p9 s Y H _ _ v u Q I q z ⟨p,p',vs,U,rfl,rfl,q1,q2,by rw[<-O⁻¹,<-t2⁻¹];exact di h.1,dU h.2 r (O.append t2)⟩
   |_=>exact h.elim
  |tup xs=>cases vb with
   |tup ys=>
    cases gk ea;cases gk eb;let(p,vs,rfl,q1,O):=id L;let(p',U,rfl,q2,t2):=id N;by_cases hx:vs=[]
    .subst hx;have:xs=[]:=(HS O).mpr rfl;subst this;exact Zr p9 s Y H _ _ v u Q I q z ⟨p,p',U,rfl,rfl,q1.sq,q2.sq,h.2.now r N⟩
    .show Wj p9 s Y H _ _ v u Q I q z ⟨p,p',vs,U,rfl,rfl,q1.sq,q2.sq,hx,by rw[<-O⁻¹,<-t2⁻¹];exact di h.1,λe=>?_,λt=>lW h.2 r (O.append t2)⟩;subst e;have:ys=[]:=(HS t2).mpr rfl;subst this;have h2:=h.2;rw[eh]at h2;exact h2.now r L
   |_=>exact h.elim
  |_=>exact h.elim
 |Sub=>
  let(i,j,rfl,rfl,h):=g h;exact U8 p9 s Y H _ _ v u Q I q z ⟨_,_,rfl,rfl,h.now r rfl⟩
 |Mult=>
  have h:jE fz va vb G _:=h;unfold jE at h;cases vb with
  |int n=>cases va with
   |int _=>
    cases fO ea;cases fO eb;have ha:x=.int _:=L;have J:y=.int _:=N;subst ha;subst J;exact U9 p9 s Y H _ _ v u Q I q z ⟨_,_,rfl,rfl,h.1,h.2.now r rfl⟩
   |str _=>
    cases gm ea;cases fO eb;let(ha,la):=L;have J:y=.int _:=N;subst ha;subst J;let(h0,h1,h2,h3):=h;let(n,rfl):=cr h0;rw[bv]at h2 h3;show W8 p9 s Y H _ _ v u Q I q z ⟨_,_,rfl,rfl,Zt (!0) (by rw[cz];exact h2),?_⟩;rw[Zw];exact h3.now r ⟨rfl,by rw[Zv,Nat.mul_comm];exact h2⟩
   |lst _=>
    cases fO eb;have J:y=.int _:=N;subst J;let(p,vs,rfl,q1,O):=L.list r ea;let(h0,h1,h2,h3):=h;exact XQ p9 s Y H _ _ v u Q I q z ⟨p,_,vs,rfl,rfl,q1,h0,h1,by rw[<-O⁻¹];exact di h2,dU h3 r (O.rep _)⟩
   |_=>exact h.elim
  |_=>exact h.elim
 |FloorDiv=>
  let(i,j,rfl,rfl,h):=g h;exact XD p9 s Y H _ _ v u Q I q z ⟨_,_,rfl,rfl,h.1,h.2.now r rfl⟩
 |Mod=>
  let(i,j,rfl,rfl,h):=g h;exact Va p9 s Y H _ _ v u Q I q z ⟨_,_,rfl,rfl,h.1,h.2.now r rfl⟩
 |Pow=>
  let(i,j,rfl,rfl,h):=g h;exact Vb p9 s Y H _ _ v u Q I q z ⟨_,_,rfl,rfl,h.1,h.2.now r rfl⟩
 |_=>exact h.elim
end
mutual
theorem iG:∀{d:D},nr d=true->deq d d=true
 |.non,_=>rfl
 |.bl b,_=>by simp[deq]
 |.int i,_=>by simp[deq]
 |.str l,_=>by simp[deq]
 |.tup xs,h=>by rw[deq];exact tU (by rw[nr]at h;exact h)
 |.lst xs,h=>by rw[deq];exact tU (by rw[nr]at h;exact h)
 |.ref a,h=>by rw[nr]at h;cases h
 |.scr a,h=>by rw[nr]at h;cases h
 |.exn a,h=>by rw[nr]at h;cases h
 |.exa _ _ _,h=>by rw[nr]at h;cases h
 |.obj _ _ _,h=>by rw[nr]at h;cases h
 |.dct _ _,h=>by rw[nr]at h;cases h
theorem tU:∀{ds:AS},nrs ds=true->b7 ds ds=true
 |[],_=>rfl
 |d::ds,h=>by
  rw[nrs,af]at h;rw[b7,iG h.1,tU h.2];rfl
end
def tV:∀(xs ys:AS),b7 xs ys=((List.range (min xs⁻¹ ys⁻¹)).all (λj=>deq (xs.getD j .non) (ys.getD j .non))&&xs⁻¹==ys⁻¹)
 |[],[]=>rfl
 |[],y::ys=>by simp[b7]
 |x::xs,[]=>by simp[b7]
 |x::xs,y::ys=>by
  have e:min (x::xs)⁻¹ (y::ys)⁻¹=(min xs⁻¹ ys⁻¹)+1:=by simp only[b4];lia
  rw[b7,tV xs ys,e,List.range_succ_eq_map,List.all_cons,List.all_map];simp only[List.getD_cons_zero,b4,Bool.and_assoc];congr 1;congr 1;rw[gt];simp
def Zy{xs ys:AS}(h:xs⁻¹≠ys⁻¹):b7 xs ys=false:=by rw[tV];rw[show(xs⁻¹==ys⁻¹)=false from cS.mpr h,Bool.and_false]
def lX:∀{xs:AS}{i:Nat},nrs xs=true->nr (xs.getD i .non)=true
 |[],_,_=>rfl
 |x::xs,0,h=>by rw[nrs,af]at h;exact h.1
 |x::xs,i+1,h=>by rw[nrs,af]at h;rw[List.getD_cons_succ];exact lX h.2
def lY:∀{xs:AS}{i:Nat},dpt (xs.getD i .non)<=aW xs
 |[],_=>dA _
 |x::xs,0=>by rw[aW,List.getD_cons_zero];lia
 |x::xs,i+1=>by rw[aW,List.getD_cons_succ];have:=@lY xs i;lia
section
variable {X:Cx} {p9:AC} {σ:L2.St} {H:Hp} {s:AI} {F:FZ}
mutual
theorem tW(I:Inv X p9 σ H s):∀{d d':D}{v:V},nr d=true->nr d'=true->Rep X.K H F d v->Rep X.K H F d' v->d=d'
 |.non,d',v,_,n',h,h'=>by
  have h:v=.non:=h;subst h;cases d' with
  |non=>rfl
  |bl _=>simp only[Rep]at h';cases h'
  |int _=>simp only[Rep]at h';cases h'
  |ref _=>simp only[Rep]at h';cases h'
  |scr _=>rw[nr]at n';cases n'
  |exn _=>rw[nr]at n';cases n'
  |exa _ _ _=>rw[nr]at n';cases n'
  |obj _ _ _=>rw[nr]at n';cases n'
  |dct _ _=>rw[nr]at n';cases n'
  |str _=>simp only[Rep]at h';let(e,_):=h';cases e
  |tup _=>simp only[Rep]at h';let(_,_,e,_):=h';cases e
  |lst _=>simp only[Rep]at h';let(_,_,e,_):=h';cases e
 |.bl b,d',v,_,n',h,h'=>by
  have h:v=.bl b:=h;subst h;cases d' with
  |non=>simp only[Rep]at h';cases h'
  |bl _=>simp only[Rep]at h';cases h';rfl
  |int _=>simp only[Rep]at h';cases h'
  |ref _=>simp only[Rep]at h';cases h'
  |scr _=>rw[nr]at n';cases n'
  |exn _=>rw[nr]at n';cases n'
  |exa _ _ _=>rw[nr]at n';cases n'
  |obj _ _ _=>rw[nr]at n';cases n'
  |dct _ _=>rw[nr]at n';cases n'
  |str _=>simp only[Rep]at h';let(e,_):=h';cases e
  |tup _=>simp only[Rep]at h';let(_,_,e,_):=h';cases e
  |lst _=>simp only[Rep]at h';let(_,_,e,_):=h';cases e
 |.int b,d',v,_,n',h,h'=>by
  have h:v=.int b:=h;subst h;cases d' with
  |non=>simp only[Rep]at h';cases h'
  |bl _=>simp only[Rep]at h';cases h'
  |int _=>simp only[Rep]at h';cases h';rfl
  |ref _=>simp only[Rep]at h';cases h'
  |scr _=>rw[nr]at n';cases n'
  |exn _=>rw[nr]at n';cases n'
  |exa _ _ _=>rw[nr]at n';cases n'
  |obj _ _ _=>rw[nr]at n';cases n'
  |dct _ _=>rw[nr]at n';cases n'
  |str _=>simp only[Rep]at h';let(e,_):=h';cases e
  |tup _=>simp only[Rep]at h';let(_,_,e,_):=h';cases e
  |lst _=>simp only[Rep]at h';let(_,_,e,_):=h';cases e
 |.str l,d',v,_,n',h,h'=>by
  let(h,_):=h;subst h;cases d' with
  |str l'=>
   let(e,_):=h';injection e with e;rw[iw e]
  |non=>simp only[Rep]at h';cases h'
  |bl _=>simp only[Rep]at h';cases h'
  |int _=>simp only[Rep]at h';cases h'
  |ref _=>simp only[Rep]at h';cases h'
  |scr _=>rw[nr]at n';cases n'
  |exn _=>rw[nr]at n';cases n'
  |exa _ _ _=>rw[nr]at n';cases n'
  |obj _ _ _=>rw[nr]at n';cases n'
  |dct _ _=>rw[nr]at n';cases n'
  |tup _=>simp only[Rep]at h';let(_,_,e,_):=h';cases e
  |lst _=>simp only[Rep]at h';let(_,_,e,_):=h';cases e
 |.tup xs,d',v,n,n',h,h'=>by
  let(a,vs,e,q,t):=h;subst e;cases d' with
  |tup ys=>
   let(a',vs',e,q',t'):=h';injection e with e;subst e;have:=I.tuple_inj q.sq q'.sq;subst this;rw[nr]at n n';rw[yV I n n' t t']
  |lst ys=>
   let(a',vs',e,q',t'):=h';injection e with e;subst e;let(its,_,(o,e1,c1,_),_):=I.tuple q.sq;let(its',_,(o',n',e2,c2,_),_):=I.list q'.sq;rw[e1]at e2;cases e2;rw[c1]at c2;exact absurd c2 (by ac_rfl)
  |ref _=>rw[nr]at n';cases n'
  |scr _=>rw[nr]at n';cases n'
  |exn _=>rw[nr]at n';cases n'
  |exa _ _ _=>rw[nr]at n';cases n'
  |obj _ _ _=>rw[nr]at n';cases n'
  |dct _ _=>rw[nr]at n';cases n'
  |str _=>simp only[Rep]at h';let(e,_):=h';cases e
  |non=>simp only[Rep]at h';cases h'
  |bl _=>simp only[Rep]at h';cases h'
  |int _=>simp only[Rep]at h';cases h'
 |.lst xs,d',v,n,n',h,h'=>by
  let(a,vs,e,q,t):=h;subst e;cases d' with
  |lst ys=>
   let(a',vs',e,q',t'):=h';injection e with e;subst e;have:=I.list_inj q.sq q'.sq;subst this;rw[nr]at n n';rw[yV I n n' t t']
  |tup ys=>
   let(a',vs',e,q',t'):=h';injection e with e;subst e;let(its,_,(o,e1,c1,_),_):=I.tuple q'.sq;let(its',_,(o',n',e2,c2,_),_):=I.list q.sq;rw[e1]at e2;cases e2;rw[c1]at c2;exact absurd c2 (by ac_rfl)
  |ref _=>rw[nr]at n';cases n'
  |scr _=>rw[nr]at n';cases n'
  |exn _=>rw[nr]at n';cases n'
  |exa _ _ _=>rw[nr]at n';cases n'
  |obj _ _ _=>rw[nr]at n';cases n'
  |dct _ _=>rw[nr]at n';cases n'
  |str _=>simp only[Rep]at h';let(e,_):=h';cases e
  |non=>simp only[Rep]at h';cases h'
  |bl _=>simp only[Rep]at h';cases h'
  |int _=>simp only[Rep]at h';cases h'
 |.ref a,d',v,n,_,_,_=>by rw[nr]at n;cases n
 |.scr a,d',v,n,_,_,_=>by rw[nr]at n;cases n
 |.exn a,d',v,n,_,_,_=>by rw[nr]at n;cases n
 |.exa _ _ _,d',v,n,_,_,_=>by rw[nr]at n;cases n
 |.obj _ _ _,d',v,n,_,_,_=>by rw[nr]at n;cases n
 |.dct _ _,d',v,n,_,_,_=>by rw[nr]at n;cases n
theorem yV(I:Inv X p9 σ H s):∀{ds ds':AS}{vs:AR},nrs ds=true->nrs ds'=true->Reps X.K H F ds vs->Reps X.K H F ds' vs->ds=ds'
 |[],[],_,_,_,_,_=>rfl
 |[],_::_,_,_,_,h,⟨v,r,e,_⟩=>by have h:_=[]:=h;rw[h]at e;cases e
 |_::_,[],_,_,_,⟨v,r,e,_⟩,h=>by have h:_=[]:=h;rw[h]at e;cases e
 |d::ds,d'::ds',_,n,n',⟨v,r,e,h,t⟩,⟨v',r',e',h',t'⟩=>by
  subst e;injection e' with e1 e2;subst e1;subst e2;rw[nrs,af]at n n';rw[tW I n.1 n'.1 h h',yV I n.2 n'.2 t t']
end
def tX{I:Inv X p9 Y H s}{ds:AS}{vs:AR}{g:AB}(t:Reps X.K H F ds vs)(r:Vals vs g)(j:Nat)(h:j<g⁻¹):∃v,Rep X.K H F (ds.getD j .non) v/\RelV v g[j]:=by
 have hl:j<ds⁻¹:=by rw[t⁻¹,r⁻¹];exact h
 have z:ds[j]?=-(ds.getD j .non):=by rw[bi,ai hl];rfl
 let(v,J,L):=t.get z;let(u,q,N):=r.get J;rw[ai h]at q;cases q;exact⟨v,L,N⟩
def Zz(a b:AA):(tx a==tx b)=(a==b):=by rw[gt,a9,a9];exact⟨λh=>iw h,λh=>by rw[h]⟩
theorem ZC(I:Inv X p9 Y H s){n:Nat}{A:AM}{xs ys:AS}{a q:AQ}{vs O:AR}{g its':AB}
  (ih:∀m,m<n->∀(A:AM)(d d':D)(v v':V)(u u':AN),A.units+m<cLine->min (dpt d) (dpt d')<=m->nr d=true->nr d'=true->Rep X.K H F d v->Rep X.K H F d' v'->RelV v u->RelV v' u'->
   SeqAt.RcAt A s u u' (deq d d')/\SeqAt.EqAt A s u u' (deq d d')/\SeqAt.RcNeAt A s u u' (!deq d d'))
  (hu:A.units+n<cLine) (hd:min (dpt (.tup xs)) (dpt (.tup ys))<=n) (U:nr (.tup xs)) (n2:nr (.tup ys)) (h:Rep X.K H F (.tup xs) (.ref a)) (h':Rep X.K H F (.tup ys) (.ref q))
  (pt:s.heap.IsTuple a g.toArray) (J:s.heap.IsTuple q its'.toArray) (rv:Vals vs g) (L:Vals O its') (tt:Reps X.K H F xs vs) (N:Reps X.K H F ys O):
  SeqAt.RcAt A s (.ref a) (.ref q) (deq (.tup xs) (.tup ys))/\SeqAt.EqAt A s (.ref a) (.ref q) (deq (.tup xs) (.tup ys))/\SeqAt.RcNeAt A s (.ref a) (.ref q) (!deq (.tup xs) (.tup ys)):=by
 have hd':min (aW xs+1) (aW ys+1)<=n:=by rw[dpt,dpt]at hd;exact hd
 have hn1:nrs xs=true:=by rw[nr]at U;exact U
 have hn2:nrs ys=true:=by rw[nr]at n2;exact n2
 have l1:g.toArray.size=xs⁻¹:=by rw[ax,<-rv⁻¹,tt⁻¹]
 have l2:its'.toArray.size=ys⁻¹:=by rw[ax,<-L⁻¹,N⁻¹]
 have he:∀j (h1:j<g.toArray.size) (h2:j<its'.toArray.size),SeqAt.EqAt A.in1 s g.toArray[j] its'.toArray[j] (deq (xs.getD j .non) (ys.getD j .non)):=by intro j h1 h2;let(w1,q1,q2):=tX (I:=I) tt rv j (!!h1);let(w2,q3,q4):=tX (I:=I) N L j (!!h2);have d1:=@lY xs j;have d2:=@lY ys j;exact(ih (n-1) (!0) A.in1 _ _ w1 w2 _ _ (by change A.units+1+(n-1)<cLine;lia) (!0) (lX hn1) (lX hn2) q1 q3 (!!q2) (!!q4)).2.1
 have e:deq (.tup xs) (.tup ys)=((List.range (min g.toArray.size its'.toArray.size)).all (λj=>deq (xs.getD j .non) (ys.getD j .non))&&g.toArray.size==its'.toArray.size):=by rw[deq,tV,l1,l2]
 have rc:SeqAt.RcAt A s (.ref a) (.ref q) (deq (.tup xs) (.tup ys)):=by rw[e];exact .tuples pt J (!0) he
 show⟨rc,?_,by rw[e];exact .tuples pt J (!0) he⟩;by_cases z:a=q
 .subst z;have:=tW I U n2 h h';rw[<-this,iG U];exact .same _
 .exact .of_refs z rc
theorem ZD(I:Inv X p9 Y H s){n:Nat}{A:AM}{xs ys:AS}{a q:AQ}{vs vs':AR}{g its':AB}
  (ih:∀m,m<n->∀(A:AM)(d d':D)(v v':V)(u u':AN),A.units+m<cLine->min (dpt d) (dpt d')<=m->nr d=true->nr d'=true->Rep X.K H F d v->Rep X.K H F d' v'->RelV v u->RelV v' u'->
   SeqAt.RcAt A s u u' (deq d d')/\SeqAt.EqAt A s u u' (deq d d')/\SeqAt.RcNeAt A s u u' (!deq d d'))
  (hu:A.units+n<cLine) (hd:min (dpt (.lst xs)) (dpt (.lst ys))<=n) (n1:nr (.lst xs)) (n2:nr (.lst ys)) (h:a=q->xs=ys)
  (pt:s.heap.IsList a g.toArray) (J:s.heap.IsList q its'.toArray) (rv:Vals vs g) (U:Vals vs' its') (tt:Reps X.K H F xs vs) (tt':Reps X.K H F ys vs'):
  SeqAt.RcAt A s (.ref a) (.ref q) (deq (.lst xs) (.lst ys))/\SeqAt.EqAt A s (.ref a) (.ref q) (deq (.lst xs) (.lst ys))/\SeqAt.RcNeAt A s (.ref a) (.ref q) (!deq (.lst xs) (.lst ys)):=by
 have hd':min (aW xs+1) (aW ys+1)<=n:=by rw[dpt,dpt]at hd;exact hd
 have hn1:nrs xs=true:=by rw[nr]at n1;exact n1
 have hn2:nrs ys=true:=by rw[nr]at n2;exact n2
 have l1:g.toArray.size=xs⁻¹:=by rw[ax,<-rv⁻¹,tt⁻¹]
 have l2:its'.toArray.size=ys⁻¹:=by rw[ax,<-U⁻¹,tt'⁻¹]
 have N:∀(L:SeqAt.RcAt A s (.ref a) (.ref q) (deq (.lst xs) (.lst ys))),SeqAt.EqAt A s (.ref a) (.ref q) (deq (.lst xs) (.lst ys)):=λL=>by
  by_cases z:a=q
  .have:=h z;subst z;subst this;rw[iG n1];exact .same _
  .exact .of_refs z L
 by_cases hl:xs⁻¹=ys⁻¹
 .have he:∀j (h1:j<g.toArray.size) (h2:j<its'.toArray.size),SeqAt.EqAt A.in1 s g.toArray[j] its'.toArray[j] (deq (xs.getD j .non) (ys.getD j .non)):=by
   intro j h1 h2;let(w1,q1,q2):=tX (I:=I) tt rv j (!!h1);let(w2,q3,q4):=tX (I:=I) tt' U j (!!h2);have d1:=@lY xs j;have d2:=@lY ys j;exact(ih (n-1) (!0) A.in1 _ _ w1 w2 _ _ (by change A.units+1+(n-1)<cLine;lia) (!0) (lX hn1) (lX hn2) q1 q3 (!!q2) (!!q4)).2.1
  have e:deq (.lst xs) (.lst ys)=(List.range g.toArray.size).all (λj=>deq (xs.getD j .non) (ys.getD j .non)):=by rw[deq,tV,l1,hl,Nat.min_self];simp
  have L:SeqAt.RcAt A s (.ref a) (.ref q) (deq (.lst xs) (.lst ys)):=by rw[e];exact .lists pt J (by rw[l1,l2];exact hl) (!0) he
  exact⟨L,N L,by rw[e];exact .lists pt J (by rw[l1,l2];exact hl) (!0) he⟩
 .have e:deq (.lst xs) (.lst ys)=false:=by rw[deq];exact Zy hl
  have O:(g.toArray.size != its'.toArray.size)=true:=by rw[l1,l2];simpa using hl
  have L:SeqAt.RcAt A s (.ref a) (.ref q) (deq (.lst xs) (.lst ys)):=by rw[e];exact .lists_lengths pt J O (!0)
  exact⟨L,N L,by rw[e];exact .lists_lengths pt J O (!0)⟩
inductive Sh (K:PF) (H:Hp) (F:FZ) (s:AI):D->V->AN->Prop
 |non:Sh K H F s .non .non .none
 |bl {b:Bool}:Sh K H F s (.bl b) (.bl b) (.bool b)
 |int {i:Int} {t:Tok}:Sh K H F s (.int i) (.int i) (.int i t)
 |str {l:AA} {t:Tok}:Sh K H F s (.str l) (.str (tx l)) (.str (tx l) t)
 |tup {ds:AS} {a:AQ} {vs:AR} {its:AB} (p:s.heap.IsTuple a its.toArray) (r:Vals vs its) (t:Reps K H F ds vs):Sh K H F s (.tup ds) (.ref a) (.ref a)
 |lst {ds:AS} {a:AQ} {vs:AR} {its:AB} (p:s.heap.IsList a its.toArray) (r:Vals vs its) (t:Reps K H F ds vs):Sh K H F s (.lst ds) (.ref a) (.ref a)
def HX(I:Inv X p9 Y H s){d:D}{v:V}{u:AN}(n:nr d)(h:Rep X.K H F d v)(r:RelV v u):Sh X.K H F s d v u:=by
 cases d with
 |non=>have e:v=.non:=h;subst e;have e:u=Value.none:=r;subst e;exact .non
 |bl b=>have e:v=.bl b:=h;subst e;have e:u=Value.bool b:=r;subst e;exact .bl
 |int i=>have e:v=.int i:=h;subst e;obtain⟨t,e⟩:∃t,u=Value.int i t:=r;subst e;exact .int
 |str l=>let(e,_):=h;subst e;obtain⟨t,e⟩:∃t,u=Value.str (tx l) t:=r;subst e;exact .str
 |tup ds=>let(a,vs,e,q,J):=h;subst e;have e:u=Value.ref a:=r;subst e;let(g,z,pt,_):=I.tuple q.sq;exact .tup pt z J
 |lst ds=>let(a,vs,e,q,J):=h;subst e;have e:u=Value.ref a:=r;subst e;let(g,z,pl,_):=I.list q.sq;exact .lst pl.isList z J
 |_=>rw[nr]at n;cases n
theorem yW(I:Inv X p9 Y H s):∀(n:Nat)(A:AM)(d d':D)(v v':V)(u O:AN),A.units+n<cLine->min (dpt d) (dpt d')<=n->nr d=true->nr d'=true->Rep X.K H F d v->Rep X.K H F d' v'->RelV v u->RelV v' O->
  SeqAt.RcAt A s u O (deq d d')/\SeqAt.EqAt A s u O (deq d d')/\SeqAt.RcNeAt A s u O (!deq d d'):=by
 intro n;induction n using Nat.strongRecOn with
 |_ n ih=>
  intro A d d' v v' u O hu hd U n2 h h' r r';have g:A.units<cLine:=by lia
  have N:=HX I n2 h' r';cases HX I U h r with
  |non=>
   cases N with
   |non=>exact⟨.none_none,.same _,.none_none⟩
   |bl=>exact⟨.none_bool _,.none_bool _,.none_bool _⟩
   |int=>exact⟨.none_int _ _,.none_int _ _,.none_int _ _⟩
   |str=>exact⟨.none_str _ _,.none_str _ _,.none_str _ _⟩
   |tup q J L=>exact⟨.none_tuple q g,.none_tuple q g,.none_tuple q g⟩
   |lst q J L=>exact⟨.none_list q g,.none_list q g,.none_list q g⟩
  |bl=>
   cases N with
   |non=>exact⟨.bool_none _,.bool_none _,.bool_none _⟩
   |bl=>exact⟨.bool_bool _ _,.bool_bool _ _,.bool_bool _ _⟩
   |int=>exact⟨.bool_int _ _ _,.bool_int _ _ _,.bool_int _ _ _⟩
   |str=>exact⟨.bool_str _ _ _,.bool_str _ _ _,.bool_str _ _ _⟩
   |tup q J L=>exact⟨.bool_tuple _ q g,.bool_tuple _ q g,.bool_tuple _ q g⟩
   |lst q J L=>exact⟨.bool_list _ q g,.bool_list _ q g,.bool_list _ q g⟩
  |int=>
   cases N with
   |non=>exact⟨.int_none _ _,.int_none _ _,.int_none _ _⟩
   |bl=>exact⟨.int_bool _ _ _,.int_bool _ _ _,.int_bool _ _ _⟩
   |int=>exact⟨.int_int _ _ _ _,.int_int _ _ _ _,.int_int _ _ _ _⟩
   |str=>exact⟨.int_str _ _ _ _,.int_str _ _ _ _,.int_str _ _ _ _⟩
   |tup q J L=>exact⟨.int_tuple _ _ q g,.int_tuple _ _ q g,.int_tuple _ _ q g⟩
   |lst q J L=>exact⟨.int_list _ _ q g,.int_list _ _ q g,.int_list _ _ q g⟩
  |str=>
   cases N with
   |non=>exact⟨.str_none _ _,.str_none _ _,.str_none _ _⟩
   |bl=>exact⟨.str_bool _ _ _,.str_bool _ _ _,.str_bool _ _ _⟩
   |int=>exact⟨.str_int _ _ _ _,.str_int _ _ _ _,.str_int _ _ _ _⟩
   |str=>rw[deq,<-Zz];exact⟨.str_str _ _ _ _,.str_str _ _ _ _,.str_str _ _ _ _⟩
   |tup q J L=>exact⟨.str_tuple _ _ q g,.str_tuple _ _ q g,.str_tuple _ _ q g⟩
   |lst q J L=>exact⟨.str_list _ _ q g,.str_list _ _ q g,.str_list _ _ q g⟩
  |tup p rv tt=>
   cases N with
   |non=>exact⟨.tuple_none p g,.tuple_none p g,.tuple_none p g⟩
   |bl=>exact⟨.tuple_bool _ p g,.tuple_bool _ p g,.tuple_bool _ p g⟩
   |int=>exact⟨.tuple_int _ _ p g,.tuple_int _ _ p g,.tuple_int _ _ p g⟩
   |str=>exact⟨.tuple_str _ _ p g,.tuple_str _ _ p g,.tuple_str _ _ p g⟩
   |tup q J L=>exact ZC I ih hu hd U n2 h h' p q rv J tt L
   |lst q J L=>exact⟨.tuple_list p q g,.tuple_list p q g,.tuple_list p q g⟩
  |lst p rv tt=>
   cases N with
   |non=>exact⟨.list_none p g,.list_none p g,.list_none p g⟩
   |bl=>exact⟨.list_bool _ p g,.list_bool _ p g,.list_bool _ p g⟩
   |int=>exact⟨.list_int _ _ p g,.list_int _ _ p g,.list_int _ _ p g⟩
   |str=>exact⟨.list_str _ _ p g,.list_str _ _ p g,.list_str _ _ p g⟩
   |tup q J L=>exact⟨.list_tuple p q g,.list_tuple p q g,.list_tuple p q g⟩
   |lst q J L=>exact ZD I ih hu hd U n2 (λz=>by subst z;have e:=tW I U n2 h h';injection e) p q rv J tt L
end
def FA(F:FZ)(G:DH):FZ:=λa=>F a\/∃o,G a=-o
def yX{H:Hp}{F:FZ}{G:DH}:Ext H F H (FA F G):=⟨λz f=>.inl f,λz z=>rfl,λz z h=>h,λz z z h=>h⟩
def tY{K:PF}{H:Hp}{F:FZ}{G:DH}{d:D}{v:V}(r:R K H F G)(h:Rep K H F d v):Rep K H (FA F G) (view G d) v:=by
 cases d with
 |ref p=>
  have z:v=.ref p:=h;cases g:G p with
  |none=>
   have e:view G (.ref p)=.ref p:=by simp only[view,g]
   rw[e];exact z
  |some o=>
   cases o with
   |lst ds=>
    have e:view G (.ref p)=.lst ds:=by simp only[view,g]
    rw[e];let(vs,q,t):=r.lst g;exact⟨p,vs,z,⟨.inr ⟨_,g⟩,q⟩,Reps.ext yX t⟩
   |dct ks ds=>
    have e:view G (.ref p)=.dct ks ds:=by simp only[view,g]
    rw[e];let(J,q,I,t):=r.dct g;exact⟨p,J,z,⟨.inr ⟨_,g⟩,q⟩,I,Reps.ext yX t⟩
 |_=>exact Rep.ext yX h
def HY{a b:List Int}(h:bF a=bF b):a=b:=by unfold bF at h;exact(List.map_inj_right λz z e=>Sum.inl.inj e).mp h
def H9(n:List Int):(bF n).map kV=n.map V.int:=by unfold bF;rw[cm];rfl
def yZ:∀(ks:List (List Int))(g:List (List Key×V))(n:List Int),g.map (·.1)=ks.map bF->bA g (bF n)=(kIx ks n).bind λi=>(g.map (·.2))[i]?
 |[],g,n,h=>by cases List.map_eq_nil_iff.mp h;rfl
 |k::ks,[],n,h=>by cases h
 |k::ks,p::g,n,h=>by
  have h1:p.1=bF k:=(hJ h).1;have h2:g.map (·.1)=ks.map bF:=(hJ h).2;have q:=yZ ks g n h2;by_cases e:k=n
  .subst e;rw[dM h1];simp[kIx,fe]
  .rw[dN (by rw[h1];exact λz=>e (HY z)),q];unfold kIx;rw[fe,if_neg (!!e)];cases ks.findIdx? (λk=>decide (k=n))<;>rfl
def Ia{K:PF}{H:Hp}{F:FZ}:∀{ds:AS}{vs:AR}{ns:List Int},aZ ds=-ns->Reps K H F ds vs->vs=ns.map V.int
 |[],_,_,e,h=>by cases e;exact h
 |d::ds,_,ns,e,⟨v,r,ev,hd,ht⟩=>by
  cases d with
  |int i=>
   simp only[aZ]at e;cases q:aZ ds with
   |none=>rw[q]at e;cases e
   |some l=>
    rw[q]at e;cases e;rw[ev,Ia q ht,show v=.int i from hd];rfl
  |_=>cases e
def lZ{K:PF}{H:Hp}{F:FZ}{d:D}{v:V}{k:List Int->Prop}(h:Rep K H F d v)(q:cF d k):∃n b,k n/\v=.ref b/\H b=-(.tup ((bF n).map kV))/\d=.tup (n.map D.int):=by
 unfold cF at q;split at q
 .rename_i l;split at q
  .rename_i ns e;let(b,vs,g,ht,rs):=h;have I:=Ia e rs;subst I;show⟨ns,b,q,g,by rw[H9];exact ht.it,?_⟩;congr 1;clear rs ht g q;induction l generalizing ns with
   |nil=>cases e;rfl
   |cons d l J=>
    cases d with
    |int i=>
     simp only[aZ]at e;cases z:aZ l with
     |none=>rw[z]at e;cases e
     |some m=>rw[z]at e;cases e;rw[J m z];rfl
    |_=>cases e
  .exact q.elim
 .exact q.elim
def tZ{ks:List (List Int)}{g:List (List Key×V)}{n:List Int}(h:g.map (·.1)=ks.map bF):(bA g (bF n)).isSome=(kIx ks n).isSome:=by
 rw[yZ ks g n h];cases e:kIx ks n with
 |none=>rfl
 |some i=>
  have hl:i<ks⁻¹:=(dS.mp e).1;have q:g⁻¹=ks⁻¹:=by have:=eS List.length h;simpa using this
  rw[Option.bind_some,ai (by rw[ag];lia)];rfl
def rC2(K:PF)(f:D->D->(Bool->Prop)->Prop):R2:=λx y H Q=>∃F G a b,R K H F G/\Rep K H F a x/\Rep K H F b y/\f (view G a) (view G b) (λc=>PV K H F Q (.bl c) G)
section
variable {X:Cx}
def Ib(c:Nat)(l:AA):(!(Builtin.Str.occurrences (tx l) (tx [c]) 0 (tx l)⁻¹ 1).isEmpty)=l.contains c:=by have:=StrLaws.found_one (tx l) c;rw[this,gt];simp
theorem ZF{p9:AC}{Y:L2.St}{H:Hp}{s:AI}{F:FZ}(I:Inv X p9 Y H s){A:AM}{x:D}{v:V}{u:AN}(hu:A.units+64<cLine)(U:nr x)(rx:Rep X.K H F x v)(ru:RelV v u):
  ∀{ds:AS}{vs:AR}{us:AB},nrs ds=true->aW ds<=60->Reps X.K H F ds vs->Vals vs us->∃e:AN->Bool,(∀y∈us,SeqAt.EqAt A s y u (e y))/\us.any e=isIn x ds:=by
 intro ds vs us hn J t r;let P:AN->D->Prop:=λy d=>nr d=true/\∃v,Rep X.K H F d v/\RelV v y
 have one:∀y d d',P y d->P y d'->d=d':=λy d d' zY zZ=>by
  let(n,v,q,z):=zY;let(n',v',q',z'):=zZ;have e:=z.inj z';subst e;exact tW I n n' q q'
 have⟨f,hf⟩:∃f:AN->D,∀y d,P y d->f y=d:=by show⟨λy=>Classical.epsilon (P y),λy d h=>?_⟩;exact one y _ _ (Classical.epsilon_spec ⟨d,h⟩) h
 show⟨λy=>deq (f y) x,?_,?_⟩
 .skip;have key:∀{ds:AS}{vs:AR}{us:AB},nrs ds=true->aW ds<=60->Reps X.K H F ds vs->Vals vs us->∀y∈us,SeqAt.EqAt A s y u (deq (f y) x):=by
   intro ds;induction ds with
   |nil=>
    intro vs us _ _ t r y g;have t:vs=[]:=t;subst t;cases r;cases g
   |cons d ds L=>
    intro vs us hn J t r y g;let(O,r1,e,h1,N):=t;subst e;rw[nrs,af]at hn;rw[aW]at J;cases r with
    |cons p q=>
     rcases bo.mp g with e|g
     .subst e;rw[hf _ d ⟨hn.1,_,h1,p⟩];exact(yW I 60 A d x O v _ u (!0) (!0) hn.1 U h1 rx p ru).2.1
     .exact L hn.2 (!0) N q y g
  exact key hn J t r
 .have key:∀{ds:AS}{vs:AR}{us:AB},nrs ds=true->Reps X.K H F ds vs->Vals vs us->us.any (λy=>deq (f y) x)=isIn x ds:=by
   intro ds;induction ds with
   |nil=>
    intro vs us _ t r;have t:vs=[]:=t;subst t;cases r;rfl
   |cons d ds L=>
    intro vs us hn t r;let(O,r1,e,h1,N):=t;subst e;rw[nrs,af]at hn;cases r with
    |cons p q=>
     rw[List.any_cons,hf _ d ⟨hn.1,_,h1,p⟩,L hn.2 N q];rfl
  exact key hn t r
theorem jT(op:CmpOp)(hu:X.A.units+100<cLine):OpR X (compareOp op) (rC2 X.K (bc op)):=by
 intro p9 s Y H x y v u Q I rx ry h;let(F,G,a,b,r,ra,rb,h):=h;have g:=tY r ra;have J:=tY r rb;generalize view G a=va at h g;generalize view G b=vb at h J;have fin:∀c:Bool,PV X.K H F Q (.bl c) G->EP X p9 Y Q (.bool c) s:=λc q=>⟨.bl c,H,I,rfl,q.now r rfl⟩;have hin:∀(l:AS){vs:AR}{us:AB},inG va l->Reps X.K H (FA F G) l vs->Vals vs us->∃e:AN->Bool,(∀z∈us.toArray,SeqAt.EqAt X.A.in1 s z v (e z))/\us.toArray.any e=isIn va l:=λl {vs us} hh t rv=>by
  let(e,he,L):=ZF I (A:=X.A.in1) (by change X.A.units+1+64<cLine;lia) hh.1 g rx hh.2.1 hh.2.2 t rv;exact⟨e,λw hw=>he w (!!hw),!!L⟩
 have ii:∀{i j:Int},Rep X.K H (FA F G) (.int i) x->Rep X.K H (FA F G) (.int j) y->∃t t',v=.int i t/\u=.int j t':=λN U=>by
  cases(show x=.int _ from N);cases(show y=.int _ from U);let(t,e):=rx;let(t',O):=ry;exact⟨t,t',e,O⟩
 have ss:∀{i j:AA},Rep X.K H (FA F G) (.str i) x->Rep X.K H (FA F G) (.str j) y->∃t t',v=.str (tx i) t/\u=.str (tx j) t':=λN U=>by
  cases N.1;cases U.1;let(t,e):=rx;let(t',O):=ry;exact⟨t,t',e,O⟩
 have hnon:xg va=decide (x=.non):=by
  cases va with
  |non=>cases(show x=.non from g);rfl
  |bl _=>cases(show x=.bl _ from g);rfl
  |int _=>cases(show x=.int _ from g);rfl
  |str _=>cases g.1;rfl
  |tup _=>let(_,_,N,_):=g;cases N;rfl
  |lst _=>let(_,_,N,_):=g;cases N;rfl
  |ref _=>cases(show x=.ref _ from g);rfl
  |scr _=>let(_,N,_):=g;cases N;rfl
  |exn _=>let(_,_,N,_):=g;cases N;rfl
  |exa _ _ _=>let(_,_,_,_,_,_,_,N,_):=g;cases N;rfl
  |obj _ _ _=>let(_,_,_,N,_):=g;cases N;rfl
  |dct _ _=>let(_,_,N,_):=g;cases N;rfl
 cases op with
 |Eq=>exact(yW I 60 X.A _ _ x y v u (!0) h.1.2.2 h.1.1 h.1.2.1 g J rx ry).1 _ _ _ _ (fin _ h.2)
 |NotEq=>exact(yW I 60 X.A _ _ x y v u (!0) h.1.2.2 h.1.1 h.1.2.1 g J rx ry).2.2 _ _ _ _ (fin _ h.2)
 |Lt=>
  have h:jF va vb (λc=>PV X.K H F Q (.bl c) G):=h;unfold jF at h;split at h
  .let(t,t',e,O):=ii g J;subst e O;exact lt_int (fin _ h)
  .let(t,t',e,O):=ss g J;subst e O;exact lt_str (fin _ h)
  .exact h.elim
 |LtE=>
  have h:jG va vb (λc=>PV X.K H F Q (.bl c) G):=h;unfold jG at h;split at h
  .let(t,t',e,O):=ii g J;subst e O;exact le_int (fin _ h)
  .let(t,t',e,O):=ss g J;subst e O;exact PySem.P.le_str (fin _ h)
  .exact h.elim
 |Gt=>
  have h:jH va vb (λc=>PV X.K H F Q (.bl c) G):=h;unfold jH at h;split at h
  .let(t,t',e,O):=ii g J;subst e O;exact gt_int (fin _ h)
  .exact h.elim
 |GtE=>
  have h:jJ va vb (λc=>PV X.K H F Q (.bl c) G):=h;unfold jJ at h;split at h
  .let(t,t',e,O):=ii g J;subst e O;exact ge_int (fin _ h)
  .exact h.elim
 |Is=>
  have h:jK va vb (λc=>PV X.K H F Q (.bl c) G):=h;unfold jK at h;split at h
  .cases (show y=.non from J);exact Vg p9 s Y H _ _ v u Q I rx ry ⟨rfl,by rw[<-hnon];exact h.now r rfl⟩
  .split at h
   .cases (show x=.bl _ from g);cases(show y=.bl _ from J);exact Xh p9 s Y H _ _ v u Q I rx ry ⟨_,_,rfl,rfl,h.now r rfl⟩
   .exact h.elim
  .exact h.elim
 |IsNot=>
  have h:jL va vb (λc=>PV X.K H F Q (.bl c) G):=h;unfold jL at h;split at h
  .cases (show y=.non from J);exact Vh p9 s Y H _ _ v u Q I rx ry ⟨rfl,by rw[<-hnon];exact h.now r rfl⟩
  .split at h
   .cases (show x=.bl _ from g);cases(show y=.bl _ from J);exact Xo p9 s Y H _ _ v u Q I rx ry ⟨_,_,rfl,rfl,h.now r rfl⟩
   .exact h.elim
  .exact h.elim
 |In=>
  have h:gn va vb (λc=>PV X.K H F Q (.bl c) G):=h;unfold gn at h;split at h
  .split at h
   .let(t,t',e,O):=ss g J;subst e O;exact in_str (by rw[Ib];exact fin _ h)
   .exact h.elim
  .let(p,vs,U,q2,t):=J;cases U;cases ry;let(its,rv,pl,hz):=I.list q2.sq;let(e,he,L):=hin _ h.1 t rv;exact SeqAt.in_listAt e pl.isList he (by rw[L];exact fin _ h.2)
  .let(p,vs,U,q2,t):=J;cases U;cases ry;let(its,rv,pl,hz):=I.tuple q2.sq;let(e,he,L):=hin _ h.1 t rv;exact SeqAt.in_tupleAt e pl he (by rw[L];exact fin _ h.2)
  .let(n,c,q,N,eb,_):=lZ g h;let(p,kv,U,hp,hk,t):=J;cases N;cases U;cases ry;show Ym (!0) I (DGet.t hp.2 eb) rx λs' I'=>?_;rw[tZ hk];exact⟨.bl _,H,I',rfl,q.now r rfl⟩
  .exact h.elim
 |NotIn=>
  have h:gn va vb (λc=>PV X.K H F Q (.bl (!c)) G):=h;unfold gn at h;split at h
  .split at h
   .let(t,t',e,O):=ss g J;subst e O;exact notIn_str (by rw[Ib];exact fin _ h)
   .exact h.elim
  .let(p,vs,U,q2,t):=J;cases U;cases ry;let(its,rv,pl,hz):=I.list q2.sq;let(e,he,L):=hin _ h.1 t rv;exact SeqAt.notIn_listAt e pl.isList he (by rw[L];exact fin _ h.2)
  .let(p,vs,U,q2,t):=J;cases U;cases ry;let(its,rv,pl,hz):=I.tuple q2.sq;let(e,he,L):=hin _ h.1 t rv;exact SeqAt.notIn_tupleAt e pl he (by rw[L];exact fin _ h.2)
  .let(n,c,q,N,eb,_):=lZ g h;let(p,kv,U,hp,hk,t):=J;cases N;cases U;cases ry;show Yn (!0) I (DGet.t hp.2 eb) rx λs' I'=>?_;rw[tZ hk];exact⟨.bl _,H,I',rfl,q.now r rfl⟩
  .exact h.elim
end
section
variable {X:Cx}
def ZG(K:PF):R2:=λx y H Q=>∃F G a b,R K H F G/\Rep K H F a x/\Rep K H F b y/\cB (view G a) b (λd=>PV K H F Q d G)
def uc{K:PF}{H:Hp}{F:FZ}{ds:AS}{vs:AR}{i:Int}{d:D}(t:Reps K H F ds vs)(h:atI ds i=-d):∃v,atI vs i=-v/\Rep K H F d v:=by
 unfold atI at h ⊢;rw[<-t⁻¹];cases e:ixN ds⁻¹ i with
 |none=>rw[e]at h;cases h
 |some j=>
  rw[e]at h;let(v,g,r):=t.get (show ds[j]?=-d from h);exact⟨v,g,r⟩
def za{K:PF}{H:Hp}{F:FZ}{G:DH}{d:D}{v:V}{ks:List (List Int)}{ds:AS}(r:R K H F G)(h:Rep K H F d v)(e:view G d=.dct ks ds):∃p z,v=.ref p/\H p=-(.dT z)/\z.map (·.1)=ks.map bF/\Reps K H F ds (z.map (·.2)):=by
 cases d with
 |dct I J=>
  have N:D.dct I J=.dct ks ds:=e;cases N;let(a,z,O,q,L,t):=h;exact⟨a,z,O,q.2,L,t⟩
 |ref p=>
  have U:v=.ref p:=h;unfold view at e;cases g:G p with
  |none=>simp only[g]at e;cases e
  |some o=>
   cases o with
   |lst xs=>simp only[g]at e;cases e
   |dct I xs=>
    simp only[g]at e;cases e;let(z,q,L,t):=r.dct g;exact⟨p,z,U,q,L,t⟩
 |_=>cases(show _=D.dct ks ds from e)
theorem ZJ{value J:AO}{p9:AC}{s:AI}{Y:L2.St}{H:Hp}{p:AQ}{y z:V}{u:AN}{Q:VK}(hu:X.A.units+100<cLine)(I:Inv X p9 Y H s)(g:DGet H p y (-z))(ry:RelV y u)
  (hs:subscripted J false (.ref p) u=operate [.ref p,u] (getItem (.ref p) u)) (q:Q z H):↥X (subscriptTail value J (.ref p) u) (EP X p9 Y Q) X.xe s:=by
 have O:=GR I g;unfold subscriptTail;show ae ?_;rw[getitemInPython_of_ne O.not_modules];show ae (wpAny_specialOf O slot_dict_getitem.lookup ?_);have fin:↥X (subscripted J false (.ref p) u) (λr L=>↥X (letTemporaryGo value (.ref p) r >>= λx=>pure r) (EP X p9 Y Q) X.xe L) X.xe s:=by rw[hs];exact wpAny_operating (wN (!0) I g ry λw' s' U N=>ae (wpAny_letTemporaryGo (aw ⟨z,H,U,N,q⟩)))
 first
  |exact aw (ae fin)
  |exact ae (aw (ae fin))
  |exact ae fin
def Ie{K:PF}{H:Hp}{F:FZ}{G:DH}{d i:D}{v y:V}{ks:List (List Int)}{ds:AS}{k:D->Prop}(r:R K H F G)(h:Rep K H F d v)(e:view G d=.dct ks ds)(hi:Rep K H F i y)
  (q:cF i λn=>match kIx ks n with|some i=>(match ds[i]? with|some d=>k d|none=>False)|none=>False):∃p z d',v=.ref p/\DGet H p y (-z)/\Rep K H F d' z/\k d':=by
 let(n,b,q,I,L,_):=lZ hi q;let(p,g,J,Y,U,t):=za r h e;subst I;split at q
 .rename_i j O;split at q
  .rename_i d' N;let(z,hz,rz):=t.get N;have hv:bA g (bF n)=-z:=by rw[yZ ks g n U,O];exact hz
   exact⟨p,z,d',J,by rw[<-hv];exact DGet.t Y L,rz,q⟩
  .exact q.elim
 .exact q.elim
def ZK(hu:X.A.units+100<cLine):IxR X (ZG X.K):=by
 intro value J p9 s Y H x y v u Q I rx ry h hs;let(F,G,a,b,r,U,rb,h):=h;generalize O:view G a=va at h;unfold cB at h;split at h
 .let(p,vs,e,q,t):=Rep.list r U O;subst e;have L:y=.int _:=rb;subst L;split at h
  .rename_i d hd;let(w,hw,N):=uc t hd;exact Fg value J p9 s Y H _ _ v u Q I rx ry ⟨p,vs,_,w,rfl,rfl,q,hw,h.now r N⟩ hs
  .exact h.elim
 .cases gk O;let(p,vs,e,q,t):=U;subst e;have L:y=.int _:=rb;subst L;split at h
  .rename_i d hd;let(w,hw,N):=uc t hd;exact rR value J p9 s Y H _ _ v u Q I rx ry ⟨p,vs,_,w,rfl,rfl,q.sq,hw,h.now r N⟩ hs
  .exact h.elim
 .cases gm O;let(e,hl):=U;subst e;have L:y=.int _:=rb;subst L;split at h
  .rename_i c hc;exact Wn value J p9 s Y H _ _ v u Q I rx ry ⟨_,_,c,rfl,rfl,by rw[cz];exact di hl,hc,h.now r ⟨rfl,by change 1<=sz;decide⟩⟩ hs
  .exact h.elim
 .let(p,z,d',L,g,rz,q):=Ie r U O rb h;subst L;cases rx;exact ZJ hu I g ry hs (q.now r rz)
 .exact h.elim
theorem ZL(l:AA)(lo hi:Option Int):Txt.slice (tx l) lo hi=tx (cut l lo hi):=by
 have e:Builtin.Str.strSliceIndices lo hi 1 (tx l)⁻¹=sliceRange (sliceBounds lo hi none (tx l)⁻¹).1 (sliceBounds lo hi none (tx l)⁻¹).2.1 1:=by unfold Builtin.Str.strSliceIndices sliceBounds;cases lo<;>cases hi<;>rfl
 let(h1,h2,L):=Fi lo hi (tx l)⁻¹;rw[h1,h2,sliceRange_one]at e;have q:((Builtin.Str.strSliceIndices lo hi 1 (tx l)⁻¹).filterMap ((tx l).cps[·]?))=cut l lo hi:=by rw[e,pick_run];unfold cut;rw[cz]
 unfold Txt.slice;split
 .rename_i hh;rw[af]at hh;have hl:=eq_of_beq hh.2;rw[e,ag,cp,cz]at hl;have J:HT.sIx l⁻¹ l⁻¹ hi<=l⁻¹:=HT.Ey _ _ (ar _) hi;unfold cut;by_cases g:l=[]
  .subst g;simp
  .have N:0<l⁻¹:=List.length_pos_iff.mpr g;have z:HT.sIx l⁻¹ 0 lo=0:=by lia
   have I:HT.sIx l⁻¹ l⁻¹ hi=l⁻¹:=by lia
   rw[z,I];simp
 .rw[q]
theorem ZM{g:Type}(xs:List g)(lo hi:Option Int):(cut xs lo hi)⁻¹<=xs⁻¹:=by unfold cut;rw[b6,de];lia
def ZP{prog:AK}{w:World}{A:AM}{E:AG}{s:AI}{t L:AQ}{g:Array AN}{N O:AN}{lo hi:Option Int}{Q:AG}(ht:IsTup s.heap t g)(hs:s.heap.IsSliceOf L N O .none)(pl:IsPart N lo)(pu:IsPart O hi)
  (hw:HT.sIx g.size 0 lo=0/\HT.sIx g.size g.size hi=g.size) (h:Q (.ref t) s):wpAny (model prog w) A (getItem (.ref t) (.ref L)) Q E s:=by
 let(Y,J,I,U):=id hs;have z:s.TypeIs (.ref L) "slice":=⟨Y,J,I⟩;unfold getItem;try with_reducible show eJ ?_
 first|show ae (aw ?_)|skip
 show ae (wpAny_sequenceKey ht.typeIs (!1) ?_);show ae (et (name:=⇑"__getitem__") ht.typeIs fo
  (fg fo ht.typeIs entry_tuple_getitem ?_ (args_tuple_getitem _ _)))
 change wpAny _ _ (Builtin.Tuple.tupleItemsOf (.ref t) >>= _) _ _ s;show ae (tupleItemsOf_ ht ?_);show ae (wpAny_typeOf z ?_);rw[if_pos (!1)];show ae (HT.Fb hs pl pu ?_);have q:(((HT.sIx g.size 0 lo:Nat):Int)==0&&(1:Int)==1&&(HT.sIx g.size g.size hi-HT.sIx g.size 0 lo)==g.size)=true:=by rw[hw.1,hw.2];simp
 change wpAny _ _ (if(((HT.sIx g.size 0 lo:Nat):Int)==0&&(1:Int)==1&&(HT.sIx g.size g.size hi-HT.sIx g.size 0 lo)==g.size)=true then _ else _) _ _ s;rw[if_pos q];show ae (m:=Builtin.Tuple.tupleIsExact _) (ae (wpAny_typeOf ht.typeIs (aw ?_)));rw[if_pos (!1)];exact ae (wpAny_rule (aw ⟨_,rfl,aw h⟩))
def ZQ:SlR X (λx lo hi H Q=>∃a xs,x=.ref a/\SqT X.K H a xs/\(HT.sIx xs⁻¹ 0 lo=0/\HT.sIx xs⁻¹ xs⁻¹ hi=xs⁻¹)/\Q (.ref a) H):=by
 intro p9 s Y H x v vl vu lo hi U Q I N hs pl L h;let(a,xs,rfl,J,hw,q):=h;cases N;let(z,r,ht,O):=I.tuple J;have g:z.toArray.size=xs⁻¹:=by rw[ax];exact r.length.symm
 exact⟨"tuple",_,fo.lookup,ht.typeIs,ZP ht hs pl L (by rw[g];exact hw) ⟨.ref a,H,I,rfl,q⟩⟩
def mj{K:PF}{H:Hp}{F:FZ}:∀ns:List Int,Reps K H F (ns.map D.int) (ns.map V.int)
 |[]=>rfl
 |n::ns=>⟨_,_,rfl,rfl,mj ns⟩
def ZR(K:PF)(fz:Bool):V->Option Int->Option Int->Hp->VK->Prop:=λx lo hi H Q=>∃F G a,R K H F G/\Rep K H F a x/\eV fz (view G a) lo hi G (PV K H F Q)
def Ig{K:PF}{H:Hp}{F:FZ}{ds:AS}{vs:AR}(t:Reps K H F ds vs)(lo hi:Option Int):Reps K H F (cut ds lo hi) (eQ vs lo hi):=t.cut lo hi
def ZS(fz:Bool):SlR X (ZR X.K fz):=by
 intro p9 s Y H x v U vu lo hi O Q I N hs pl J h;let(F,G,a,r,L,h):=h;generalize z:view G a=va at h;unfold eV at h;split at h
 .let(p,vs,e,q,t):=Rep.list r L z;subst e;exact Fj p9 s Y H _ v U vu lo hi O Q I N hs pl J ⟨p,vs,rfl,q,dU h r (Ig t lo hi)⟩
 .rename_i ns;have ea':a=.scr ns:=by
   cases a with
   |ref p=>
    unfold view at z;cases g:G p with
    |none=>simp only[g]at z;cases z
    |some o=>cases o<;>(simp only[g]at z;cases z)
   |_=>exact z
  subst ea';let(p,e,q):=L;subst e;show Fj p9 s Y H _ v U vu lo hi O Q I N hs pl J ⟨p,_,rfl,q.sq,dU h r ?_⟩;have e2:eQ (ns.map V.int) lo hi=(cut ns lo hi).map V.int:=by unfold eQ cut;rw[ag,List.map_take,List.map_drop]
  rw[e2];exact mj (cut ns lo hi)
 .cases gk z;let(p,vs,e,q,t):=id L;subst e;by_cases hw:HT.sIx vs⁻¹ 0 lo=0/\HT.sIx vs⁻¹ vs⁻¹ hi=vs⁻¹
  .show ZQ p9 s Y H _ v U vu lo hi O Q I N hs pl J ⟨p,vs,rfl,q.sq,hw,?_⟩;show h.now r ?_;rename_i ds;have:cut ds lo hi=ds:=by
    unfold cut;rw[t⁻¹,hw.1,hw.2];simp[<-t⁻¹]
   rw[this];exact L
  .exact Wh p9 s Y H _ v U vu lo hi O Q I N hs pl J ⟨p,vs,rfl,q.sq,hw,lW h r (Ig t lo hi)⟩
 .cases gm z;let(e,hl):=L;subst e;show Xk p9 s Y H _ v U vu lo hi O Q I N hs pl J ⟨_,rfl,by rw[cz];exact di hl,?_⟩;rw[ZL];exact h.now r ⟨rfl,b3 (ZM _ _ _) hl⟩
 .exact h.elim
theorem Ih{K:PF}{H:Hp}{F:FZ}{G:DH}{d:D}{v:V}{b:Bool}(r:R K H F G)(h:Rep K H F d v)(e:truth (view G d)=-b):rO K v H b:=by
 have h':=tY r h;generalize view G d=w at e h';cases w with
 |non=>have g:v=.non:=h';subst g;simp only[truth,bp]at e;exact e.symm
 |bl x=>have g:v=.bl x:=h';subst g;simp only[truth,bp]at e;exact e.symm
 |int i=>have g:v=.int i:=h';subst g;simp only[truth,bp]at e;exact e.symm
 |str l=>
  let(g,hl):=h';subst g;simp only[truth,bp]at e;show⟨by rw[cz];exact di hl,?_⟩;rw[cz,<-e];cases l with
  |nil=>rfl
  |cons c l=>simp;lia
 |tup l=>
  let(a,vs,g,q,t):=h';subst g;simp only[truth,bp]at e;show .inr (.inl ⟨vs,q.sq,?_⟩);rw[<-e];cases l with
  |nil=>have t:vs=[]:=t;subst t;rfl
  |cons c l=>let(_,_,z,_):=t;subst z;rfl
 |lst l=>
  let(a,vs,g,q,t):=h';subst g;simp only[truth,bp]at e;show .inl ⟨vs,q.sq,?_⟩;rw[<-e];cases l with
  |nil=>have t:vs=[]:=t;subst t;rfl
  |cons c l=>let(_,_,z,_):=t;subst z;rfl
 |ref a=>simp[truth]at e
 |scr a=>simp[truth]at e
 |exn a=>simp[truth]at e
 |exa _ _ _=>simp[truth]at e
 |obj _ _ _=>simp[truth]at e
 |dct _ _=>simp[truth]at e
def Ii{K:PF}{H:Hp}{F:FZ}:∀{ds:AS}{vs:AR}{bs:List Bool},bools ds=-bs->Reps K H F ds vs->vs=bs.map V.bl
 |[],_,bs,e,h=>by
  simp only[bools,bp]at e;subst e;exact h
 |d::ds,_,bs,e,⟨v,w,e1,h,t⟩=>by
  cases d with
  |bl b=>
   simp only[bools]at e;cases q:bools ds with
   |none=>rw[q]at e;cases e
   |some s=>
    rw[q]at e;cases e;have g:v=.bl b:=h;rw[e1,g,Ii q t];rfl
  |_=>simp[bools]at e
def bM{K:PF}{H:Hp}{F:FZ}{d:D}{vs:AR}(t:Reps K H F [d] vs):∃v,vs=[v]/\Rep K H F d v:=by let(v,r,e,h,t):=t;have t:r=[]:=t;subst t;exact⟨v,e,h⟩
def iH(K:PF)(f:Bf):AR->Hp->VK->Prop:=λvs H Q=>∃F G ds,R K H F G/\Reps K H F ds vs/\opB f (ds.map (view G)) (λd=>PV K H F Q d G)
def map_one{G:DH}{ds:AS}{x:D}(h:ds.map (view G)=[x]):∃d,ds=[d]/\view G d=x:=by
 match ds,h with
 |[d],h=>exact⟨d,rfl,!!h⟩
def ZV:bD X (.builtin "len") (iH X.K .len):=by
 intro p9 s Y H xs us Q I rs h;let(F,G,ds,r,t,h):=h;generalize J:ds.map (view G)=va at h;simp only[opB,xj]at h;split at h
 .let(d,rfl,g):=map_one J;let(v,rfl,z):=bM t;let(a,vs,e,q,t'):=Rep.list r z g;subst e;exact Fl p9 s Y H _ us Q I rs ⟨a,vs,rfl,.inl q,by rw[<-t'⁻¹];exact h.now r rfl⟩
 .let(d,rfl,g):=map_one J;let(v,rfl,z):=bM t;cases gk g;let(a,vs,e,q,t'):=z;subst e;exact Fl p9 s Y H _ us Q I rs ⟨a,vs,rfl,.inr q.sq,by rw[<-t'⁻¹];exact h.now r rfl⟩
 .let(d,rfl,g):=map_one J;let(v,rfl,z):=bM t;cases gm g;let(e,hl):=z;subst e;exact Wt p9 s Y H _ us Q I rs ⟨_,rfl,by rw[cz];exact di hl,by rw[cz];exact h.now r rfl⟩
 .let(d,rfl,g):=map_one J;let(v,rfl,z):=bM t;let(a,N,e,q,L,t'):=za r z g;subst e;have hl:=eS List.length L;rw[ag,ag]at hl;exact YH p9 s Y H _ us Q I rs ⟨a,N,rfl,q,by rw[hl];exact h.now r rfl⟩
 .exact h.elim
def ZW (hc:X.calm):bD X (.builtin "all") (iH X.K .all):=by
 intro p9 s Y H xs us Q I rs h;let(F,G,ds,r,t,h):=h;generalize z:ds.map (view G)=va at h;simp only[opB,sH]at h;split at h
 .let(d,rfl,J):=map_one z;let(v,rfl,N):=bM t;let(a,vs,e,q,t'):=Rep.list r N J;subst e;split at h
  .rename_i bs L;have g:=Ii L t';subst g;exact Xg hc p9 s Y H _ us Q I rs ⟨a,bs,rfl,q,h.now r rfl⟩
  .exact h.elim
 .exact h.elim
def ZX:bD X (.type "int") (iH X.K .int):=by
 intro p9 s Y H xs us Q I rs h;let(F,G,ds,r,t,h):=h;generalize z:ds.map (view G)=va at h;simp only[opB,sI]at h;split at h
 .let(d,rfl,g):=map_one z;let(v,rfl,q):=bM t;cases Zi g;have e:v=.bl _:=q;subst e;exact Eh p9 s Y H _ us Q I rs (.inr ⟨_,rfl,h.now r rfl⟩)
 .let(d,rfl,g):=map_one z;let(v,rfl,q):=bM t;cases fO g;have e:v=.int _:=q;subst e;exact Eh p9 s Y H _ us Q I rs (.inl ⟨_,rfl,h.now r rfl⟩)
 .let(d,rfl,g):=map_one z;let(v,rfl,q):=bM t;cases gm g;let(e,hl):=q;subst e;split at h
  .rename_i n hn;exact Xi p9 s Y H _ us Q I rs ⟨_,n,rfl,hn,by rw[cz];exact h.1,h.2.now r rfl⟩
  .exact h.elim
 .exact h.elim
def ZZ:bD X (.type "tuple") (iH X.K .tuple):=by
 intro p9 s Y H xs us Q I rs h;let(F,G,ds,r,t,h):=h;generalize J:ds.map (view G)=va at h;simp only[opB,xm]at h;split at h
 .let(d,rfl,z):=map_one J;let(v,rfl,g):=bM t;let(a,vs,e,q,t'):=Rep.list r g z;subst e;exact Fq p9 s Y H _ us Q I rs ⟨a,vs,rfl,.inl ⟨q,lW h r t'⟩⟩
 .let(d,rfl,z):=map_one J;let(v,rfl,g):=bM t;cases gk z;let(a,vs,e,q,t'):=id g;subst e;exact Fq p9 s Y H _ us Q I rs ⟨a,vs,rfl,.inr ⟨q.sq,h.now r g⟩⟩
 .exact h.elim
def zb(K:PF)(fz:Bool)(f:Lf):AR->Hp->VK->Prop:=λvs H Q=>∃F G ds,R K H F G/\Reps K H F ds vs/\cR f (ds.map (view G)) (λxs=>mk fz xs G (PV K H F Q))
def Z0(l:AA):∀(us:AB),us⁻¹=l⁻¹->(∀(j:Nat)(v:AN),us[j]?=-v->∃(c:Nat)(u:Tok),l[j]?=-c/\v=Value.str ⟨#[c]⟩ u)->Vals (l.map λc=>V.str (tx [c])) us:=by
 induction l with
 |nil=>intro us h _;cases us with|nil=>exact .nil|cons _ _=>cases h
 |cons c l L=>
  intro us h q;cases us with
  |nil=>cases h
  |cons u us=>
   let(z,t,g,I):=q 0 u (!2);have g:c=z:=by simpa using g
   subst g;exact .cons ⟨t,I⟩ (L us (!!h) λj v J=>by simpa using q (j+1) v (!!J))
def Z1 (hc:X.calm):bD X (.type "list") (λxs H Q=>∃l:AA,xs=[.str (tx l)]/\l⁻¹<=sizeLine/\∀p,H p=none->Q (.ref p) (upd H p (.lst (l.map λc=>V.str (tx [c]))))):=by
 intro p9 s Y H xs us Q I r h;let(l,rfl,L,q):=h;let(u,rfl,t,rfl):=vals1 r;have J:(tx l).cps.size<=sizeLine:=by simpa using L
 show call_list_str (hn:=J) (I.ok.hd hc) (tx l) t λh' tk g N kp e hi=>?_;have z:Vals (l.map λc=>V.str (tx [c])) g.toList:=by
  show Z0 l _ ?_ λj v z=>?_
  .rw[cK,hi.1];simp
  .let(c,u,O,U):=hi.2 j v (by rw[<-eR];exact z);exact⟨c,u,!!O,U⟩
 exact⟨.ref (~~~s),_,I.laid (t':=tk) kp (ar _) (show ObjOk X.prog X.w _ h' _ (.lst _) from⟨by rw[ag];exact L,g.toList,N,z,by rw[Array.toArray_toList];exact e⟩),rfl,q _ (I.hok.fresh (ar _))⟩
def zc{K:PF}{H:Hp}{F:FZ}:∀l:AA,Reps K H F (l.map λc=>D.str [c]) (l.map λc=>V.str (tx [c]))
 |[]=>rfl
 |c::l=>⟨_,_,rfl,⟨rfl,by change 1<=sz;decide⟩,zc l⟩
def Ij{K:PF}{H:Hp}{F:FZ}:∀{ks:List (List Int)}{g:List (List Key×V)}{as:List AQ},g.map (·.1)=ks.map bF->Paired (λ(k:List Key×V) (a:AQ)=>H a=-(.tup (k.1.map kV))) g as->Reps K H F (ks.map λn=>.tup (n.map D.int)) (as.map V.ref)
 |[],_,_,h,p=>by cases List.map_eq_nil_iff.mp h;cases p;exact rfl
 |k::ks,[],_,h,_=>by cases h
 |k::ks,q::g,_,h,p=>by
  have h1:q.1=bF k:=(hJ h).1;cases p with
  |cons a t=>
   rw[h1,H9]at a;exact⟨_,_,rfl,⟨_,_,rfl,⟨a⟩,mj k⟩,Ij (hJ h).2 t⟩
def Z2 (hc:X.calm) (fz:Bool):bD X (.type "list") (zb X.K fz .list):=by
 intro p9 s Y H xs us Q I rs h;let(F,G,ds,r,t,h):=h;generalize J:ds.map (view G)=va at h;simp only[cR,xu]at h;split at h
 .let(d,rfl,g):=map_one J;let(v,rfl,z):=bM t;let(a,vs,e,q,t'):=Rep.list r z g;subst e;exact Fp p9 s Y H _ us Q I rs ⟨a,vs,rfl,.inl q,dU h r t'⟩
 .let(d,rfl,g):=map_one J;let(v,rfl,z):=bM t;cases gk g;let(a,vs,e,q,t'):=id z;subst e;exact Fp p9 s Y H _ us Q I rs ⟨a,vs,rfl,.inr q.sq,dU h r t'⟩
 .let(d,rfl,g):=map_one J;let(v,rfl,z):=bM t;cases gm g;let(e,hl):=z;subst e;exact Z1 hc p9 s Y H _ us Q I rs ⟨_,rfl,di hl,dU h r (zc _)⟩
 .let(d,rfl,g):=map_one J;let(v,rfl,z):=bM t;let(a,N,e,q,L,t'):=za r z g;subst e;exact YJ hc p9 s Y H _ us Q I rs ⟨a,N,rfl,q,λas O=>dU h r (Ij L O)⟩
 .exact h.elim
def ud{K:PF}{H:Hp}{F:FZ}:∀{ds:AS}{vs:AR}{g:List (AA)},bH ds=-g->Reps K H F ds vs->vs=(g.map tx).map V.str
 |[],_,bs,e,h=>by
  simp only[bH,bp]at e;subst e;exact h
 |d::ds,_,bs,e,⟨v,w,e1,h,t⟩=>by
  cases d with
  |str b=>
   simp only[bH]at e;cases q:bH ds with
   |none=>rw[q]at e;cases e
   |some s=>
    rw[q]at e;cases e;let(z,_):=h;rw[e1,z,ud q t];rfl
  |_=>simp[bH]at e
def ue{K:PF}{H:Hp}{F:FZ}:∀{ds:AS}{vs:AR}{ns:List Int},aZ ds=-ns->Reps K H F ds vs->vs=ns.map V.int
 |[],vs,ns,e,t=>by
  simp only[aZ,bp]at e;subst e;have t:vs=[]:=t;rw[t];rfl
 |d::ds,vs,ns,e,t=>by
  let(v,r,g,h,t):=t;cases d with
  |int b=>
   simp only[aZ]at e;cases q:aZ ds with
   |none=>rw[q]at e;cases e
   |some s=>
    rw[q]at e;cases e;have z:v=.int b:=h;rw[g,z,ue q t];rfl
  |_=>simp[aZ]at e
def Ik:∀{ns:List Int}{g:AB},Vals (ns.map V.int) g->IntsAre g ns
 |[],g,h=>by cases h;exact .nil
 |n::ns,g,h=>by
  cases h with
  |cons a b=>
   let(t,rfl):=a;exact .cons n t (Ik b)
def Z3:bootBuiltins "sorted"=-(.builtin "sorted"):=by ac_rfl
def zf:∀{q:List (AA)}{g:AB},Vals ((q.map tx).map V.str) g->StrsAre g (q.map tx)
 |[],g,h=>by cases h;exact .nil
 |n::ns,g,h=>by
  cases h with
  |cons a b=>
   let(t,rfl):=a;exact .cons _ t (zf b)
def Il:∀{q:AD}{g:AB},StrsAre g q->Vals (q.map V.str) g
 |_,_,.nil=>.nil
 |_,_,.cons y t h=>.cons ⟨t,rfl⟩ (Il h)
def Z4{q:AD}{z:List (AA)}(h:q.Perm (z.map tx)):∃g:List (AA),q=g.map tx/\g.Perm z:=by
 show⟨q.map λs=>s.cps.toList,?_,?_⟩
 .rw[cm];show(List.map_id q).symm.trans (c9 λs y=>?_);change s=tx s.cps.toList;exact rY s
 .have:=h.map λs=>s.cps.toList;rw[cm]at this;have e:(λs:Str=>s.cps.toList)∘tx=id:=by funext l;rfl
  rw[e,List.map_id]at this;exact this
theorem Z5:bD X (.builtin "sorted") (λxs H Q=>∃(p:AQ) (J:List (AA)),xs=[.ref p]/\SqL X.K H p ((J.map tx).map V.str)/\J⁻¹<64/\∀g:List (AA),g.Perm J->PyProof.Rows.sortedS (g.map tx)=true->∀l,H l=none->Q (.ref l) (upd H l (.lst ((g.map tx).map V.str)))):=by
 intro p9 s Y H xs us Q I r h;let(p,J,rfl,hq,L,q):=h;let(u,rfl,ru):=vals1 r;cases ru;let(z,U,pl,hz):=I.list hq;have N:z⁻¹=J⁻¹:=by rw[<-U⁻¹];simp
 show sorted_strs pl.isList (zf U) (!0) λout ss' a1 a2 a3=>?_;let(g,rfl,O):=Z4 a2;let(e,he):=sortedAll_at s.heap z out;have hsz:((g.map tx).map V.str)⁻¹<=sizeLine:=by rw[ag,ag,O.length_eq];exact b3 (Nat.le_of_lt L) (!1)
 exact⟨.ref ((~~~s)+1),_,I.laid (t':=s.toks) (λy y=>sortedAll_old) (dk _) (show ObjOk X.prog X.w _ _ _ (.lst ((g.map tx).map V.str)) from⟨hsz,out.toList,e,Il a1,he⟩),rfl,q g O a3 _ (I.hok.fresh (dk _))⟩
def Im{K:PF}{H:Hp}{F:FZ}:∀{g:List (AA)},(∀l∈g,l⁻¹<=sz)->Reps K H F (g.map D.str) ((g.map tx).map V.str)
 |[],_=>rfl
 |l::g,h=>⟨_,_,rfl,⟨rfl,h l ba⟩,Im λx q=>h x (aS _ q)⟩
def zg{K:PF}{H:Hp}{F:FZ}:∀{ds:AS}{vs:AR}{g:List (AA)},bH ds=-g->Reps K H F ds vs->∀l∈g,l⁻¹<=sz
 |[],vs,g,e,t=>by simp only[bH,bp]at e;subst e;intro l hl;cases hl
 |d::ds,vs,g,e,t=>by
  let(v,r,z,h,t):=t;cases d with
  |str b=>
   simp only[bH]at e;cases q:bH ds with
   |none=>rw[q]at e;cases e
   |some s=>
    rw[q]at e;cases e;intro l hl;rcases bo.mp hl with e|hl
    .rw[e];exact h.2
    .exact zg q t l hl
  |_=>simp[bH]at e
def Z6 (fz:Bool):bD X (.builtin "sorted") (zb X.K fz .sorted):=by
 intro p9 s Y H xs us Q I rs h;let(F,G,ds,r,t,h):=h;generalize ea:ds.map (view G)=va at h;simp only[cR,lM]at h;split at h
 .let(d,rfl,N):=map_one ea;let(v,rfl,U):=bM t;let(a,vs,e,q,t'):=Rep.list r U N;subst e;split at h
  .rename_i ls z;have L:=ud z t';have hsz:=zg z t';subst L;exact Z5 p9 s Y H _ us Q I rs ⟨a,ls,rfl,q,h.1,λO J so=>dU (h.2 O J so) r (Im λl hl=>hsz l (J.mem_iff.mp hl))⟩
  .exact h.elim
 .let(d,rfl,N):=map_one ea;let(v,rfl,U):=bM t;cases gk N;let(a,vs,e,q,t'):=U;subst e;split at h
  .rename_i ns z;have L:=ue z t';subst L;exact Yb p9 s Y H _ us Q I rs ⟨a,ns,rfl,q.sq,h.1,λg J so=>dU (h.2 g J so) r (mj g)⟩
  .exact h.elim
 .exact h.elim
theorem Io(val:Nat->AA):∀k,argBest (λi j=>decide (val i<val j)) k<=k/\∀j,j<=k->¬val j<val (argBest (λi j=>decide (val i<val j)) k)
 |0=>⟨ar _,λj z=>by
  have:j=0:=by lia
  subst this;exact List.lt_irrefl _⟩
 |k+1=>by
  let(h1,h2):=Io val k;simp only[argBest];by_cases hc:val (k+1)<val (argBest (λi j=>decide (val i<val j)) k)
  .rw[if_pos (!!hc)];show⟨ar _,λj z=>?_⟩;rcases Nat.lt_or_ge j (k+1) with q|g
   .exact λh=>h2 j (!0) (List.lt_trans h hc)
   .have:j=k+1:=by lia
    subst this;exact List.lt_irrefl _
  .rw[if_neg (!!hc)];show⟨!0,λj z=>?_⟩;rcases Nat.lt_or_ge j (k+1) with q|g
   .exact h2 j (!0)
   .have:j=k+1:=by lia
    subst this;exact hc
section
variable {prog:AK} {w:World} {A:AM} {E:AG} {s:AI} {l:AQ}
def uf:∀{g:AB}{z:List (AA)}{i:Nat}{v:AN},StrsAre g (z.map tx)->g[i]?=-v->∃t,v=.str (tx (z.getD i [])) t
 |[],z,i,v,_,h=>by simp at h
 |x::g,[],i,v,hs,h=>by cases hs
 |x::g,a::z,0,v,hs,h=>by
  cases hs with
  |cons y t q=>exact⟨t,!!h.symm⟩
 |x::g,a::z,i+1,v,hs,h=>by
  cases hs with
  |cons y t q=>
   have:=uf (i:=i) (v:=v) q (!!h);simpa using this
theorem Z7{Q:AG}{g:AB}{q:List (AA)}(hh:A.handled=none)(hl:s.heap.IsList l g.toArray)(hs:StrsAre g (q.map tx))(hn:g⁻¹=q⁻¹)(L:0<q⁻¹)
  (h:∀(m:AA)(t:Tok)(h':Heap)(N:Nat),m∈q->(∀a,a∈q->¬a<m)->(∀b o,s.heap.get? b=-o->h'.get? b=-o)->Q (.str (tx m) t) {s with heap:=h',toks:=N}):
  wpAny (model prog w) A (call (.builtin "min") [.ref l]) Q E s:=by
 have I:l<(~~~s):=by let(_,e,_):=hl;exact aI e
 show call_min_walk (wpAny_pyIter_list hl ?_);show⟨_,_,_,_,_,_,λi j=>decide (q.getD i []<q.getD j []),rfl,Walks.list (A:=A.in1) hh _ l (cb I) g.toArray,⟨⟨_,a7 _ rfl,rfl,rfl⟩,hl.push _⟩,?_,?_,?_,?_⟩
 .intro b z;change b<(s.heap.push _).objs.size;rw[ez];rcases bo.mp z with rfl|z
  .exact fv _
  .rcases bo.mp z with rfl|z
   .exact Nat.lt_succ_of_lt I
   .cases z
 .simpa [hn] using L
 .intro i j vi vj s Q E hi J h;let(t,rfl):=uf hs (!!hi);let(u,rfl):=uf hs (!!J);exact richCompare_gives (op:=.Lt) (typeIs_str s _ t) (typeIs_str s _ u) F.slot_str_lt F.entry_str_lt (F.args_str_lt_2 _ _) (gives_str_lt _ _ t u) (λe=>nomatch e) h
 .intro v h' N U hk;let(t,rfl):=uf hs (show g[_]?=-v by rw[<-List.getElem?_toArray];exact U);let(b1,O):=Io (λi=>q.getD i []) (g.toArray.size-1);have hsz:g.toArray.size=q⁻¹:=by simpa using hn
  show h _ t h' N ?_ (λa Y=>?_) (old_kept hk)
  .rw[bi,ai (!0)];exact cq _
  .let(j,J,rfl):=List.getElem_of_mem Y;have:=O j (!0);rwa [show q.getD j []=q[j] by rw[bi,ai J];rfl]at this
end
theorem Z8 (hc:X.calm):bD X (.builtin "min") (λxs H Q=>∃(p:AQ) (ns:List Int),xs=[.ref p]/\SqL X.K H p (ns.map V.int)/\ns≠[]/\∀m,m∈ns->(∀a,a∈ns->m<=a)->Q (.int m) H):=by
 intro p9 s Y H xs us Q I r h;let(p,ns,rfl,U,z,q):=h;let(u,rfl,ru):=vals1 r;cases ru;let(its,rv,pl,hz):=I.list U;have hi:=Ik rv;let(xs,ex):=hi.allInts.items;have hl:=pl.isList;rw[ex]at hl;have g:xs.toList.map (·.1)=ns:=by rw[<-PySem.nums_intItems,<-ex];exact hi.numsOf
 have hsz:0<xs.size:=by have:=List.length_pos_iff.mpr z;rw[<-g,ag,cK]at this;exact this
 show PySem.min_intList (I.ok.hd hc) hl hsz λv h' tk hv O=>?_;let(t,rfl):=PySem.intItems_at hv;let(b1,L):=PySem.argBest_lt (PySem.numAt xs) (xs.size-1);show⟨.int _,H,I.kept O,⟨t,rfl⟩,q _ ?_ λa J=>?_⟩
 .rw[<-g,PySem.numAt_eq];exact PySem.getD_mem (by rw[ag,cK];lia)
 .rw[<-g]at J;let(j,N,rfl):=PySem.mem_getD J;rw[ag,cK]at N;rw[<-PySem.numAt_eq];exact L j (!0)
def Z9 (hc:X.calm):bD X (.builtin "min") (λxs H Q=>∃(p:AQ) (g:List (AA)),xs=[.ref p]/\SqL X.K H p ((g.map tx).map V.str)/\g≠[]/\∀m,m∈g->(∀a,a∈g->¬a<m)->Q (.str (tx m)) H):=by
 intro p9 s Y H xs us Q I r h;let(p,g,rfl,U,J,q):=h;let(u,rfl,ru):=vals1 r;cases ru;let(L,N,pl,hz):=I.list U;have z:L⁻¹=g⁻¹:=by rw[<-N⁻¹];simp
 show Z7 (I.ok.hd hc) pl.isList (zf N) z (List.length_pos_iff.mpr J) λm t h' tk h1 h2 O=>?_;exact⟨.str (tx m),H,I.kept O,⟨t,rfl⟩,q m h1 h2⟩
def aaa{ds:AS}{g:List (AA)}(h0:aZ ds=none)(h1:bH ds=-g):g≠[]:=by
 rintro rfl;cases ds with
 |nil=>simp[aZ]at h0
 |cons x y=>cases x<;>simp only[bH]at h1<;>first | (cases h1;done) | (cases q:bH y<;>rw[q]at h1<;>cases h1)
def aab (hc:X.calm):bD X (.builtin "min") (iH X.K .min):=by
 intro p9 s Y H xs us Q I rs h;let(F,G,ds,r,t,h):=h;generalize J:ds.map (view G)=va at h;simp only[opB,lL]at h;split at h
 .let(d,rfl,L):=map_one J;let(v,rfl,U):=bM t;let(a,vs,e,q,t'):=Rep.list r U L;subst e;split at h
  .rename_i ns g;have z:=ue g t';subst z;exact Z8 hc p9 s Y H _ us Q I rs ⟨a,ns,rfl,q,h.1,λm h1 h2=>(h.2 m h1 h2).now r rfl⟩
  .split at h
   .rename_i N _ O g;have z:=ud g t';have hsz:=zg g t';subst z;show Z9 hc p9 s Y H _ us Q I rs ⟨a,O,rfl,q,?_,λm h1 h2=>(h m h1 h2).now r ⟨rfl,hsz m h1⟩⟩;exact aaa (by assumption) g
   .exact h.elim
 .exact h.elim
def aac:bootBuiltins "min"=-(.builtin "min"):=by ac_rfl
theorem aad:bD X (.type "str") (iH X.K .str):=by
 intro p9 s Y H xs us Q I r h;let(F,G,ds,N,t,h):=h;generalize z:ds.map (view G)=va at h;simp only[opB,xr]at h;split at h
 .rename_i i;let(d',rfl,J):=map_one z;let(U,rfl,O):=bM t;have g:=fO J;subst g;have q:U=.int i:=O;subst q;let((h0,h1),h2):=h;have L:(i.toNat:Int)=i:=Int.toNat_of_nonneg h0;have hl:(gR i.toNat)⁻¹<=3:=by
   have:=digits_le ⟨i.toNat,!0⟩;unfold gR;rw[cK];exact this
  have hs:=h2.now N (v:=.str (tx (gR i.toNat))) ⟨rfl,by have hz:sz=1000000:=rfl;lia⟩;have ht:tx (gR i.toNat)=wK i.toNat:=(rY _).symm;rw[ht]at hs;exact XH p9 s Y H _ us Q I r ⟨i.toNat,by rw[L],!0,hs⟩
 .exact h.elim
def dD:D->Option AL
 |.non=>some "NoneType"
 |.bl _=>some "bool"
 |.int _=>some "int"
 |.str _=>some "str"
 |.tup _=>some "tuple"
 |.lst _=>some "list"
 |_=>none
def aae{K:PF}{H:Hp}{F:FZ}{G:DH}{d:D}{v:V}{T:AL}(r:R K H F G)(h:Rep K H F d v)(e:dD (view G d)=-T):TyOf K H v (.type T):=by
 have h':=tY r h;generalize view G d=w at e h';cases w with
 |non=>have g:v=.non:=h';subst g;simp only[dD,bp]at e;subst e;exact .non
 |bl x=>have g:v=.bl x:=h';subst g;simp only[dD,bp]at e;subst e;exact .bl x
 |int i=>have g:v=.int i:=h';subst g;simp only[dD,bp]at e;subst e;exact .int i
 |str l=>let(g,hl):=h';subst g;simp only[dD,bp]at e;subst e;exact .str _
 |tup l=>let(a,vs,g,q,t):=h';subst g;simp only[dD,bp]at e;subst e;exact .tup q.it
 |lst l=>let(a,vs,g,q,t):=h';subst g;simp only[dD,bp]at e;subst e;exact .lst q.2
 |ref a=>simp[dD]at e
 |scr a=>simp[dD]at e
 |exn a=>simp[dD]at e
 |exa _ _ _=>simp[dD]at e
 |obj _ _ _=>simp[dD]at e
 |dct _ _=>simp[dD]at e
def aaf (K:PF):Prop:=∀T t:AL,T∈["NoneType","bool","int","str","tuple","list"]->gA t=true->PySem.W.kitOne K (.type T) (.type t)=-(T==t||(T=="bool"&&t=="int"))
def aag{K:PF}:aaf K:=by intro T t g ht;simp only[bo,dc,or_false]at g;simp only[gA,dQ,a9]at ht;rcases g with rfl|rfl|rfl|rfl|rfl|rfl<;>rcases ht with(((rfl|rfl)|rfl)|rfl)|rfl<;>(with_unfolding_all rfl)
def aah {d:D} {t:AL} {b:Bool} (e:isT t d=-b):∃T,dD d=-T/\T∈["NoneType","bool","int","str","tuple","list"]/\(gA t=true->b=(T==t||(T=="bool"&&t=="int"))):=by
 have g:∀a b:AL,(a==b)=(b==a):=λa b=>by rw[gt,a9,a9];exact⟨Eq.symm,Eq.symm⟩
 cases d with
 |non=>
  show⟨"NoneType",rfl,!2,λht=>?_⟩;simp only[isT,bp]at e;simp only[gA,dQ,a9]at ht;subst e;rcases ht with(((rfl|rfl)|rfl)|rfl)|rfl<;>rfl
 |bl _=>
  show⟨"bool",rfl,!2,λht=>?_⟩;simp only[isT,bp]at e;rw[<-e,g t "bool"];rfl
 |int _=>
  show⟨"int",rfl,!2,λht=>?_⟩;simp only[isT,bp]at e;rw[<-e,g t "int"];simp
 |str _=>
  show⟨"str",rfl,!2,λht=>?_⟩;simp only[isT,bp]at e;rw[<-e,g t "str"];simp
 |tup _=>
  show⟨"tuple",rfl,!2,λht=>?_⟩;simp only[isT,bp]at e;rw[<-e,g t "tuple"];simp
 |lst _=>
  show⟨"list",rfl,!2,λht=>?_⟩;simp only[isT,bp]at e;rw[<-e,g t "list"];simp
 |ref a=>simp[isT]at e
 |scr a=>simp[isT]at e
 |exn a=>simp[isT]at e
 |exa _ _ _=>simp[isT]at e
 |obj _ _ _=>simp[isT]at e
 |dct _ _=>simp[isT]at e
def Ip(s:AA):∀g:List (AA),Str.join (tx s) (g.map tx)=tx (eX s g)
 |[]=>rfl
 |[x]=>rfl
 |x::y::r=>by
  have q:=Ip s (y::r);change tx x++tx s++Str.join (tx s) ((y::r).map tx)=_;rw[q,rW,rW];rfl
theorem Ir(s:AA):∀g:List (AA),(eX s g)⁻¹<=(g.map (·.length)).sum+g⁻¹*s⁻¹
 |[]=>by simp[eX]
 |[x]=>by simp[eX]
 |x::y::r=>by
  have q:=Ir s (y::r);simp only[eX,am,bg,List.sum_cons,b4]at q ⊢;have:(r⁻¹+1+1)*s⁻¹=(r⁻¹+1)*s⁻¹+s⁻¹:=by rw[Nat.succ_mul]
  lia
def mq(K:PF)(m:Mf):V->AR->Hp->VK->Prop:=λx vs H Q=>∃F G d ds,R K H F G/\Rep K H F d x/\Reps K H F ds vs/\opM m d ds G (PV K H F Q)
theorem aai:MtR X "str.join" (mq X.K .join):=by
 intro p9 s Y H x xs v us Q I rx rs h;let(F,G,d,ds,r,O,t,h):=h;simp only[opM]at h;generalize L:ds.map (view G)=va at h;simp only[sO]at h;split at h
 .let(d',rfl,N):=map_one L;let(v',rfl,U):=bM t;let(a,vs,e,q,t'):=Rep.list r U N;subst e;let(z,hl):=O;subst z;split at h
  .rename_i ls g;have J:=ud g t';subst J;show W2 p9 s Y H _ _ v us Q I rx rs ⟨_,a,_,rfl,rfl,q,?_,?_⟩
   .have hz:=h.1;rw[cm,ag,cz,show(λx:Str=>x⁻¹)∘tx=λl=>l⁻¹ from funext cz];have:sz=1000000:=rfl;lia
   .rw[Ip];exact h.2.now r ⟨rfl,b3 (Ir _ _) h.1⟩
  .exact h.elim
 .exact h.elim
def aaj:MtM X "list.append" (mq X.K .append):=by
 intro p9 s Y H x xs v us Q I O rs h;let(F,G,d,ds,r,L,t,h):=h;simp only[opM,sS]at h;split at h
 .let(U,rfl,N):=bM t;have J:x=.ref _:=L;subst J;split at h
  .rename_i z g;let(vs,q,t'):=r.lst g;show Ww p9 s Y H _ _ v us Q I O rs ⟨_,vs,U,rfl,rfl,q,?_,?_⟩
   .rw[<-t'⁻¹];exact bS h.1 szl
   .exact h.2 _ _ _ (jC r g) (r.write g (t'.append (Reps.cons N Reps.nil))) rfl
  .exact h.elim
 .exact h.elim
def aak:MtR X "list.index" (mq X.K .idxL):=by
 intro p9 s Y H x xs v us Q I U rs h;let(F,G,d,ds,r,N,t,h):=h;simp only[opM,jM]at h;split at h
 .rename_i l i L;let(a,vs,rfl,q,t'):=Rep.list r N L;let(v',rfl,O):=bM t;have z:v'=.int i:=O;subst z;split at h
  .rename_i ns g;have J:=ue g t';subst J;exact YQ p9 s Y H _ _ v us Q I U rs ⟨a,ns,i,rfl,rfl,q,h.1,h.2.now r rfl⟩
  .exact h.elim
 .exact h.elim
theorem aal:MtM X "list.pop" (mq X.K .pop):=by
 intro p9 s Y H x xs v us Q I rx rs h;let(F,G,d,ds,r,rd,t,h):=h;simp only[opM,sV]at h;split at h
 .rename_i i;let(v',rfl,rv):=bM t;have O:x=.ref _:=rd;subst O;have U:v'=.int i:=rv;subst U;split at h
  .rename_i N z;let(h1,h2,g):=h;let(vs,q,t'):=r.lst z;split at g
   .rename_i y hy;let(u,L,ru):=t'.get hy;have hlt:i.toNat<vs⁻¹:=(av.mp L).1;show WD p9 s Y H _ _ v us Q I rx rs ⟨_,vs,i,i.toNat,u,rfl,rfl,q,!0,!0,?_,L,?_⟩
    .unfold seqIndex?;have e3:¬i<0:=by lia
     simp[e3];lia
    .rw[eP];rw[eP]at g;have J:=r.write z ((t'.take i.toNat).append (t'.drop (i.toNat+1)));exact g _ _ _ (jC r z) J (Rep.ext (jC r z) ru)
   .exact g.elim
  .exact h.elim
 .exact h.elim
def aam{K:PF}{H:Hp}{F:FZ}{G:DH}{d:D}{v:V}{ds:AS}(r:R K H F G)(h:Rep K H F d v)(e:view G d=.lst ds):∃a vs,v=.ref a/\H a=-(.lst vs)/\Reps K H F ds vs:=by
 cases d with
 |lst xs=>
  have z:D.lst xs=.lst ds:=e;cases z;let(a,vs,I,q,t):=h;exact⟨a,vs,I,q.2,t⟩
 |ref p=>
  have J:v=.ref p:=h;unfold view at e;cases g:G p with
  |none=>simp only[g]at e;cases e
  |some o=>
   cases o with
   |lst xs=>
    simp only[g]at e;cases e;let(vs,q,t):=r.lst g;exact⟨p,vs,J,q,t⟩
   |dct _ _=>simp only[g]at e;cases e
 |_=>cases(show _=D.lst ds from e)
def aan:MtM X "list.extend" (mq X.K .extend):=by
 intro p9 s Y H x xs v us Q I rx rs h;let(F,G,d,ds,r,rd,t,h):=h;simp only[opM]at h;generalize U:ds.map (view G)=va at h;simp only[sU]at h;split at h
 .let(d',rfl,ev):=map_one U;let(v',rfl,rv):=bM t;let(b,z,O,q2,J):=aam r rv ev;subst O;have N:x=.ref _:=rd;subst N;split at h
  .rename_i L g;let(vs,q,t'):=r.lst g;show Wy p9 s Y H _ _ v us Q I rx rs ⟨_,b,vs,z,rfl,rfl,q,q2,?_,?_⟩
   .rw[<-t'⁻¹,<-J⁻¹];exact Nat.le_of_lt (bS h.1 szl)
   .exact h.2 _ _ _ (jC r g) (r.write g (t'.append J)) rfl
  .exact h.elim
 .exact h.elim
def Iu:∀{ks:List (List Int)}{I:List (List Key×V)}{n:List Int}{i:Nat}(v:V),I.map (·.1)=ks.map bF->(I.map (·.1)).Nodup->kIx ks n=-i->
  (I.map λp=>if p.1=bF n then(p.1,v) else p).map (·.2)=(I.map (·.2)).set i v
 |[],_,n,i,v,h,_,e=>by cases e
 |k::ks,[],n,i,v,h,_,_=>by cases h
 |k::ks,p::I,n,i,v,h,nd,e=>by
  have h1:p.1=bF k:=(hJ h).1;have h2:I.map (·.1)=ks.map bF:=(hJ h).2;let(J,L):=ef.mp nd;unfold kIx at e;rw[fe]at e;by_cases z:k=n
  .subst z;rw[if_pos (!2)]at e;cases e;rw[bg,if_pos h1,bg,bg,List.set_cons_zero];congr 2;rw[c9 (g:=id)]
   .exact List.map_id _
   .intro q O;exact if_neg λz=>J (bP.mpr ⟨q,O,z.trans h1.symm⟩)
  .rw[if_neg (!!z)]at e;let(j,N,rfl):=aT.mp e;rw[bg,if_neg (by rw[h1];exact λw=>z (HY w)),bg,bg,List.set_cons_succ,Iu v h2 L N]
def KT.fst{H:Hp}{g:List (List Key×V)}{xs:List (List Key×AQ×AN)}(r:KT H g xs):g.map (·.1)=xs.map (·.1):=by
 induction r with
 |nil=>rfl
 |cons h t q=>rw[bg,bg,h.1,q]
def Iv{g:List (List Key×V)}{k:List Key}{v:V}(h:(bA g k).isSome):putD g k v=g.map λp=>if p.1=k then(p.1,v) else p:=by unfold putD;rw[jy,if_pos h]
theorem ug(hu:X.A.units+100<cLine):rH X (λo i x H Q=>∃F G a b c,R X.K H F G/\Rep X.K H F a o/\Rep X.K H F b i/\Rep X.K H F c x/\cL a b c G (λG'=>∀H' F',Ext H F H' F'->R X.K H' F' G'->Q H')):=by
 intro p9 s Y H o i v ov iv u Q I ro ri rv h;let(F,G,a,b,c,r,ra,rb,N,h):=h;unfold cL at h;split at h
 .have J:o=.ref _:=ra;subst J;split at h
  .rename_i ds g;let(vs,q,t):=r.lst g;split at h
   .have e2:i=.int _:=rb;subst e2;split at h
    .rename_i j hj;show set_list p9 s Y H _ _ v ov iv u Q I ro ri rv ⟨_,vs,_,j,rfl,rfl,q,by rw[<-t⁻¹];exact hj,?_⟩;exact h _ _ (jC r g) (r.write g (t.set N j))
    .exact h.elim
   .exact h.elim
  .rename_i ks ds g;let(n,bb,(hz,q),J,eb,_):=lZ rb h;let(L,U,z,t):=r.dct g;subst J;cases ro;have hl:=eS List.length z;rw[ag,ag]at hl;have nd:(L.map (·.1)).Nodup:=by
    let(_,_,xs,O,_,_,_,_,_,_,_,_,nd):=su I.hok U;rw[KT.fst O];exact nd
   show GK (!0) I (DPut.t U eb (by rw[hl];exact bS hz (di (ar _)))) ri rv λs' I'=>⟨_,I',?_⟩;show q _ _ (w5 r g) ?_;unfold dput;cases e:kIx ks n with
   |some j=>
    have hs:(bA L (bF n)).isSome=true:=by rw[tZ z,e];rfl
    show r.dctAt (w5 r g) (r.notFD g) ?_ ?_
    .rw[Iv hs,cm,<-z];show c9 λp y=>?_;change(if p.1=bF n then(p.1,v) else p).1=p.1;split<;>rfl
    .rw[Iv hs,Iu v z nd e];exact t.set N j
   |none=>
    have hs:bA L (bF n)=none:=by have:=tZ (n:=n) z;rw[e]at this;exact Option.isNone_iff_eq_none.mp (by rw[<-Option.not_isSome,this];rfl)
    show r.dctAt (w5 r g) (r.notFD g) ?_ ?_
    .rw[GD v hs,bB,bB,z];rfl
    .rw[GD v hs,bB];exact t.append ⟨_,_,rfl,N,rfl⟩
  .exact h.elim
 .exact h.elim
def Iw(op:Operator):PIp X op (λx y H Q=>∃F G a b,R X.K H F G/\Rep X.K H F a x/\Rep X.K H F b y/\d7 op a b (λd=>PV X.K H F Q d G)):=by
 intro p9 s Y H x y v u Q I L N h;let(F,G,a,b,r,z,J,h):=h;unfold d7 at h;split at h
 .have g:x=.int _:=z;have q:y=.int _:=J;subst g;subst q;exact Vc p9 s Y H _ _ v u Q I L N ⟨_,_,rfl,rfl,h.now r rfl⟩
 .let(g,O):=z;let(q,U):=J;subst g;subst q;show Vp p9 s Y H _ _ v u Q I L N ⟨_,_,rfl,rfl,by rw[cz,cz];exact di h.1,?_⟩;rw[rW];exact h.2.now r ⟨rfl,by rw[am];exact h.1⟩
 .have g:x=.int _:=z;have q:y=.int _:=J;subst g;subst q;exact Vd p9 s Y H _ _ v u Q I L N ⟨_,_,rfl,rfl,h.now r rfl⟩
 .exact h.elim
theorem aao(hu:X.A.units+100<cLine):DN X (λo i H Q=>∃F G a b,R X.K H F G/\Rep X.K H F a o/\Rep X.K H F b i/\cB (view G a) b (λd=>PV X.K H F Q d G)):=by
 intro p9 s Y H o i ov iv Q I ro ri h;let(F,G,a,b,r,ra,rb,h):=h;generalize U:view G a=va at h;have hn:=gO;unfold cB at h;split at h
 .rename_i dd k;let(p,vs,e,q,t):=Rep.list r ra U;subst e;have L:i=.int _:=rb;subst L;split at h
  .rename_i d hd;let(w,hw,J):=uc t hd;cases ro;let(tk,rfl):=ri;let(N,O,pl,hz):=I.list q;let(j,h1,h2,h3,h4,h5):=ju hw;let(u,eu,ru):=O.get h2;have hl:=O⁻¹;have fin:EP X p9 Y Q u s:=⟨w,H,I,ru,h.now r J⟩;by_cases h0:0<=k
   .have hj:k.toNat=j:=by
     rw[seqIndex_of h0 h5]at h1;exact cw h1
    exact wpAny_getItem_list pl.isList h0 (!0) (by rw[hj];simpa using eu) fin
   .have hj:(k+(N.toArray.size:Int)).toNat=j:=by
     rw[seqIndex_neg (!0) h4]at h1;rw[ax,<-hl];exact cw h1
    exact wpAny_getItem_list_neg pl.isList (!0) (by rw[ax]<;>lia) (!0) (by rw[hj];simpa using eu) fin
  .exact h.elim
 .cases gk U;let(p,vs,e,q,t):=ra;subst e;have L:i=.int _:=rb;subst L;split at h
  .rename_i d hd;let(w,hw,J):=uc t hd;cases ro;let(tk,rfl):=ri;let(N,O,pl,hz):=I.tuple q.sq;let(j,h1,h2,h3,h4,h5):=ju hw;let(u,eu,ru):=O.get h2;have hl:=O⁻¹;exact getItem_tuple (j:=j) pl (!0) (!0) (by rw[ax,<-hl];exact h1) (!!eu) ⟨w,H,I,ru,h.now r J⟩
  .exact h.elim
 .rename_i l k;cases gm U;let(e,hl):=ra;subst e;have L:i=.int _:=rb;subst L;split at h
  .rename_i c hc;let(tk,rfl):=ro;let(tk',rfl):=ri;let(j,h1,h2,h3,h4,h5):=ju hc;have hll:=di hl;have e0:(tx l)⁻¹=l⁻¹:=cz l;show getItem_str (c:=c) (by
    have e1:decide (k < Neg.neg (2 ^ 63:Int))=false:=bX (!0);have L:decide (k≥2 ^ 63)=false:=bX (!0);rw[e1,L,Bool.or_false]) (by rw[e0,h1];simpa using h2) ⟨.str (tx [c]),H,I.tok _,⟨_,rfl⟩,h.now r ⟨rfl,by change 1<=sz;decide⟩⟩
  .exact h.elim
 .let(p,z,d',L,g,rz,q):=Ie r ra U rb h;subst L;cases ro;exact wN (!0) I g ri λw' s' I' J=>⟨z,H,I',J,q.now r rz⟩
 .exact h.elim
end
inductive SK where
 |lst (a:AQ) |tup (a:AQ) |str (x:Str) (t:Tok)
def SK.val:SK->AN
 |.lst a=>.ref a
 |.tup a=>.ref a
 |.str x t=>.str x t
def SK.cls:SK->AL
 |.lst _=>"list_iterator"
 |.tup _=>"tuple_iterator"
 |.str x _=>strIterType x
def SK.obj(k:SK):Obj:={cls:=.type k.cls,data:=.fields #[k.val,.int 0 0]}
def SK.pos(k:SK)(it:AQ)(i:Nat)(h:Heap):Prop:=∃o,h.get? it=-o/\o.cls=.type k.cls/\o.data=.fields #[k.val,.int i 0]
def SK.Sat(H:Hp)(vs:AR):SK->Prop
 |.lst a=>H a=-(.lst vs)
 |.tup a=>H a=-(.tup vs)
 |.str x _=>vs=x.cps.toList.map λc=>V.str ⟨#[c]⟩
def SK.No(e:AQ):SK->Prop
 |.lst a=>a≠e
 |.tup a=>a≠e
 |.str _ _=>True
def SK.Sat.no{H:Hp}{vs:AR}{k:SK}{e:AQ}(h:k.Sat H vs)(he:H e=none):k.No e:=by
 cases k with
 |lst a=>exact aU (show H a=-_ from h) he
 |tup a=>exact aU (show H a=-_ from h) he
 |str x t=>trivial
def SK.On(g:Array AN)(h:Heap):SK->Prop
 |.lst a=>h.IsList a g
 |.tup a=>h.IsTuple a g
 |.str _ _=>True
def SK.On.keeps{g:Array AN}{h h':Heap}{k:SK}(x:k.On g h)(kk:∀b o,k.val=.ref b->h.get? b=-o->h'.get? b=-o):k.On g h':=by
 cases k with
 |lst a=>let(o,e,r):=x;exact⟨o,kk a o rfl e,r⟩
 |tup a=>let(o,e,r):=x;exact⟨o,kk a o rfl e,r⟩
 |str _ _=>trivial
section
variable {prog:AK} {w:World} {A:AM} {E:AG} {s:AI}
def SK.iter{k:SK}{g:Array AN}{Q:AG}(h:k.On g s.heap)(q:Q (.ref (~~~s)) {s with heap:=s.heap.push k.obj}):wpAny (model prog w) A (pyIter k.val) Q E s:=by
 cases k with
 |lst a=>exact wpAny_pyIter_list h q
 |tup a=>exact wpAny_pyIter_tuple h q
 |str x t=>exact wpAny_pyIter_strU q
def SK.pos0{k:SK}{h:Heap}:k.pos h.objs.size 0 (h.push k.obj):=⟨_,a7 _ rfl,rfl,rfl⟩
def SK.pos.keep{k:SK}{it:AQ}{i:Nat}{h h':Heap}(x:k.pos it i h)(kk:∀o,h.get? it=-o->h'.get? it=-o):k.pos it i h':=let⟨o,e,r⟩:=x;⟨o,kk o e,r⟩
def aap{it t:AQ}{i:Nat}{items}{x:AN}{Q:AG}(g:s.heap.IsTupleIter it t i)
  (ht:s.heap.IsTuple t items) (N:items[i]?=-x)
  (L:∀h',h'.IsTupleIter it t (i+1)->Heap.SameBut it s.heap h'->Q x {s with heap:=h'}):
  wpAny (model prog w) A (Builtin.SmallTypes.nextOf (.ref it)) Q E s:=by
 let(o,z,hc,q):=id g;let(U,J,_,O,I):=ht;unfold Builtin.SmallTypes.nextOf;show ae (et (name:=⇑"__next__") g.typeIs gl
  (fg gl g.typeIs F.entry_tuple_iterator_next ?_ (F.args_tuple_iterator_next_1 _)))
 change wpAny _ _ (field (.ref it) 0 >>= _) _ _ s;show ae (eI z q (x:=.ref t) rfl ?_);change wpAny _ _ (if(Value.ref t==Value.none)=true then _ else _) _ _ s;rw[if_neg (show¬((Value.ref t==Value.none)=true) from bq)];change wpAny _ _ (field (.ref it) 1 >>= _) _ _ s;show ae (eI z q (x:=.int i 0) rfl ?_);change wpAny _ _ (seqItems? (.ref t) >>= _) _ _ s;show ae (fi J I ?_);simp only[bv,N];show ae (wpAny_setField z q (!2) (aw ⟨x,rfl,aw (L _ ?_ (Heap.SameBut.update ..))⟩));exact⟨_,Heap.get?_update_self _ z (Obj.isFreed_of_fields (Obj.data_mapFields q _)),(Obj.cls_mapFields ..).trans hc,by
  rw[Obj.data_mapFields q];simp[rawInt]⟩
def aaq{it t:AQ}{i:Nat}{items}{Q:AG}(hh:A.handled=none)
  (g:s.heap.IsTupleIter it t i) (ht:s.heap.IsTuple t items) (N:items[i]?=none)
  (L:∀h' e,Heap.ExtBut it s.heap h'->(∃o,h'.get? e=-o/\o.cls=.type "StopIteration")->E (.ref e) {s with heap:=h'}):
  wpAny (model prog w) A (Builtin.SmallTypes.nextOf (.ref it)) Q E s:=by
 let(o,I,hc,q):=id g;let(U,J,_,O,z):=ht;unfold Builtin.SmallTypes.nextOf;show ae (et (name:=⇑"__next__") g.typeIs gl
  (fg gl g.typeIs F.entry_tuple_iterator_next ?_ (F.args_tuple_iterator_next_1 _)))
 change wpAny _ _ (field (.ref it) 0 >>= _) _ _ s;show ae (eI I q (x:=.ref t) rfl ?_);change wpAny _ _ (if(Value.ref t==Value.none)=true then _ else _) _ _ s;rw[if_neg (show¬((Value.ref t==Value.none)=true) from bq)];change wpAny _ _ (field (.ref it) 1 >>= _) _ _ s;show ae (eI I q (x:=.int i 0) rfl ?_);change wpAny _ _ (seqItems? (.ref t) >>= _) _ _ s;show ae (fi J z ?_);simp only[bv,N];show ae (wpAny_rule (ae (wpAny_setField I q (!2) ?_)));change wpAny _ _ (newExc (.type "StopIteration") [] >>= _) _ _ _;show ae ?_;simp only[newExc,newTuple];show ae (ft ?_ (by size_fits));show ae (m:=firstArgMember _ _) (wpAny_of_eq (a:=Value.none) (by first|rfl | (simp only[firstArgMember];rfl)) ?_);show ft ?_ (by size_fits);simp only[raiseNew];show ae (wpAny_handled ?_);first|rw[show A.in1.handled=none from hh]|rw[hh]
 show ae (aw (wpAny_throw ?_));exact L _ _ (((Heap.SameBut.update ..).extBut.push _).push _) ⟨_,a7 _ rfl,rfl⟩
def aar(hh:A.handled=none)(it l:AQ)(I:l≠it)(g:Array AN):
  Draws prog w A it [it,l] g.size (λi v=>g[i]?=-v) (λi h=>h.IsTupleIter it l i/\h.IsTuple l g) where
 live:=λy y st=>let⟨o,ho,_⟩:=st.1;⟨o,ho⟩
 frame:=λy y y st J=>⟨let⟨o,e,r⟩:=st.1;⟨o,J it (!2) o e,r⟩,let⟨o,e,r⟩:=st.2;⟨o,J l (!2) o e,r⟩⟩
 item:=λi s Q E hi st N=>by
  show aap st.1 st.2 (x:=g[i]) (by simp[hi]) λh' q z=>?_;exact N _ h' s.toks (by simp[hi]) ⟨q,let⟨o,e,r⟩:=st.2;⟨o,z.extBut l o I e,r⟩⟩ z
 done:=λs Q E st L=>aaq hh st.1 st.2 (!2) L
end
structure Drawn(P:AK)(w:World)(A:AM)(k:SK)(it:AQ)(i:Nat)(vs:AR)(h:Heap)(fp:List AQ)(Pd:Nat->AN->Prop)(S:Nat->Heap->Prop):Prop where
 D:Draws P w A it fp vs.length Pd S
 st:S i h
 val:∀j v,Pd j v->∃x,vs[j]?=some x/\RelV x v
 pos:∀j h,S j h->k.pos it j h
 fp:∀b∈fp,b=it\/k.val=.ref b
def drawn{X:Cx}{p9:AC}{Y:L2.St}{H:Hp}{s:AI}{A:AM}(hh:A.handled=none)(I:Inv X p9 Y H s){k:SK}{it:AQ}{i:Nat}{vs:AR}(g:k.Sat H vs)(L:H it=none)(p:k.pos it i s.heap):
  ∃fp U S,Drawn X.prog X.w A k it i vs s.heap fp U S:=by
 cases k with
 |lst a=>
  have g:H a=-(.lst vs):=g;let(q,r,pl,_):=I.list (SqL.of g);show⟨[it,a],λj v=>q.toArray[j]?=-v,λj h=>h.IsListIter it a j/\h.IsList a q.toArray,?_,⟨p,pl.isList⟩,?_,λj h st=>st.1,?_⟩
  .have D:=Draws.list (prog:=X.prog) (w:=X.w) hh it a (aU g L) q.toArray;rw[ax,<-r⁻¹]at D;exact D
  .intro j v e;have e:q.toArray[j]?=-v:=e;have N:j<vs⁻¹:=by
    rw[r⁻¹];have:=(Array.getElem?_eq_some_iff.mp e).1;simpa using this
   let(u,J,O):=r.get (show vs[j]?=-vs[j] by simp[N]);show⟨vs[j],by simp[N],?_⟩;have:q[j]?=-v:=by simpa using e
   rw[this]at J;cases J;exact O
  .intro b z;have z:b=it\/b=a:=by simpa using z
   rcases z with e|e
   .exact .inl e
   .exact .inr (by rw[e];rfl)
 |tup a=>
  have g:H a=-(.tup vs):=g;let(q,r,pl,_):=I.tuple (SqT.of g);show⟨[it,a],λj v=>q.toArray[j]?=-v,λj h=>h.IsTupleIter it a j/\h.IsTuple a q.toArray,?_,⟨p,pl⟩,?_,λj h st=>st.1,?_⟩
  .have D:=aar (prog:=X.prog) (w:=X.w) hh it a (aU g L) q.toArray;rw[ax,<-r⁻¹]at D;exact D
  .intro j v e;have e:q.toArray[j]?=-v:=e;have N:j<vs⁻¹:=by
    rw[r⁻¹];have:=(Array.getElem?_eq_some_iff.mp e).1;simpa using this
   let(u,J,O):=r.get (show vs[j]?=-vs[j] by simp[N]);show⟨vs[j],by simp[N],?_⟩;have:q[j]?=-v:=by simpa using e
   rw[this]at J;cases J;exact O
  .intro b z;have z:b=it\/b=a:=by simpa using z
   rcases z with e|e
   .exact .inl e
   .exact .inr (by rw[e];rfl)
 |str x t=>
  have g:vs=x.cps.toList.map λc=>V.str ⟨#[c]⟩:=g;show⟨[it],λi v=>∃c u,x.cps[i]?=-c/\v=.str ⟨#[c]⟩ u,λi h=>h.IsStrIter it (strIterType x) x t i,?_,p,?_,λj h st=>st,?_⟩
  .have D:=Xd (prog:=X.prog) (w:=X.w) hh it x t;have e:x.cps.size=vs⁻¹:=by rw[g,ag,cK]
   rw[e]at D;exact D
  .rintro j v ⟨c,u,e1,J⟩;show⟨V.str ⟨#[c]⟩,?_,u,J⟩;rw[g,a8,eR,e1];rfl
  .intro b z;exact .inl (!!z)
def Jk(k:SK):It:=⟨λi H=>∃vs,k.Sat H vs/\i<vs⁻¹,λi H x H'=>H'=H/\∀vs,k.Sat H vs->vs[i]?=-x,λi H=>∃vs,k.Sat H vs/\vs⁻¹=i⟩
def Je(k:SK):It:=⟨λi H=>∃vs,k.Sat H vs/\i<vs⁻¹,λi H x H'=>∃T y,H T=none/\x=.ref T/\H'=upd H T (.tup [.int i,y])/\∀vs,k.Sat H vs->vs[i]?=-y,λi H=>∃vs,k.Sat H vs/\vs⁻¹=i⟩
def zj{H:Hp}{k:SK}{vs g:AR}(h:k.Sat H vs)(h':k.Sat H g):vs=g:=by
 cases k with
 |lst a=>have e:=(show H a=-_ from h).symm.trans h';cases e;rfl
 |tup a=>have e:=(show H a=-_ from h).symm.trans h';cases e;rfl
 |str x t=>exact(show vs=_ from h).trans (show g=_ from h').symm
def Iz{P:AK}{w:World}{K:PF}{elts:AE}{x1:Nat}{pos:Pos}(k:SK)(e it:AQ)(hne:e≠it):
  Turn P w K (.Tuple elts x1 pos) (Je k) [e,it] e (λi h=>(∃J,IsEnum h e it i J)/\k.pos it i h) where
 mem:=by simp
 obj:=λi h st b L=>by
  let((J,he),o,ho,c,d):=st;have L:b=e\/b=it:=by simpa using L
  rcases L with rfl|rfl
  .exact ⟨_,he,λv z=>by have z':Data.fields _=Data.cell v:=z;cases z'⟩
  .exact ⟨o,ho,λv z=>by rw[d]at z;cases z⟩
 keep:=λi h h' st kk=>⟨let⟨J,he⟩:=st.1;⟨J,kk e (!2) _ he⟩,st.2.keep λo ho=>kk it (!2) o ho⟩
 item:=by
  intro X hP hw hK hc i p9 s Y H E I hf st hg;subst hP hw hK;let(vs,O,hi):=hg;let((J,he),U):=st;have hfe:=hf e (!2);have hfi:=hf it (!2);let(fp,Pd,S,Dr):=drawn (A:=X.A.in1) (I.ok.hd hc) I O hfi.1 U;have helt:e<(~~~s):=aI he;have hef:e∉fp:=λL=>by
   rcases Dr.fp e L with z|z
   .exact hne z
   .have:=O.no hfe.1;cases k with
    |lst a=>cases z;exact this rfl
    |tup a=>cases z;exact this rfl
    |str _ _=>cases z
  show wpAny_pyNext_enum_itemD Dr.D he Dr.st hi hne hef λu h1 tk hu heo hit1 ht1 hz1 hk1=>?_;let(x,hx,ru):=Dr.val _ _ hu;show⟨_,rfl,?_⟩;show wpAny_letOwnedTupleGo_enum heo λh2 he2 hs2=>?_;have N:Heap.SameBut e h1 h2:=hs2;have hn:H (~~~s)=none:=I.hok.fresh (ar _);have k2:∀b o,b∉[e,it]->s.heap.get? b=-o->h2.get? b=-o:=λb o L q=>by
   have g:b≠e/\b≠it:=by simpa using L
   exact N.extBut b o g.1 (hk1 b o g.1 g.2 q)
  have I2:Inv X p9 Y H {s with heap:=h2,toks:=tk+1}:=I.turnedL hf k2;have ht2:h2.get? (~~~s)=-{cls:=.type "tuple",data:=.seq #[.int i tk,u]}:=N.extBut _ _ (ge helt) ht1;have ob:ObjOk X.prog X.w (upd H (~~~s) (.tup [.int i,x])) h2 (~~~s) (.tup [.int i,x]):=
   ⟨by rw[ff];simp,[.int i tk,u],.cons ⟨_,rfl⟩ (.cons ru .nil),⟨_,ht2,⟨rfl,rfl⟩,_,rfl⟩⟩
  have I3:=I2.track (I.fpOk (ar _) hn) ob;have nee:(~~~s)≠e:=ge helt;have nei:(~~~s)≠it:=by let(o,ho,_):=U;exact ge (aI ho)
  show⟨.ref (~~~s),_,I3,rfl,⟨(~~~s),x,hn,rfl,rfl,λys hy=>by rw[zj hy O];exact hx⟩,⟨⟨u,?_⟩,?_⟩,λb L=>?_⟩
  .change IsEnum h2 e it (((i+1:Nat)):Int) u;rw[show(((i+1:Nat):Int))=(i:Int)+1 by lia];exact he2
  .exact (Dr.pos _ _ hit1).keep λo ho=>N.extBut _ _ (Ne.symm hne) ho
  .have g:b=e\/b=it:=by simpa using L
   rw[aA (by rcases g with rfl|rfl;exact Ne.symm nee;exact Ne.symm nei)];exact(hf b L).1
 done:=by
  intro X hP hw hK hc i p9 s Y H E I hf st hg;subst hP hw hK;let(vs,O,hi):=hg;subst hi;let((J,he),U):=st;have hfi:=hf it (!2);let(fp,Pd,S,Dr):=drawn (A:=X.A.in1) (I.ok.hd hc) I O hfi.1 U;show wpAny_pyNext_enum_endD Dr.D he Dr.st λh' eb=>⟨rfl,I.turnedL (t':=s.toks) hf λb o L q=>?_⟩;have g:b≠e/\b≠it:=by simpa using L
  exact eb b o g.2 q
 self:=λA i s Q E st h=>by
  let((J,he),_):=st;exact wpAny_pyIter_enum he h
def aas{P:AK}{w:World}{K:PF}{tg:AO}(k:SK)(it:AQ):Turn P w K tg (Jk k) [it] it (λi h=>k.pos it i h) where
 mem:=by simp
 obj:=λi h st b hb=>by
  have e:b=it:=by simpa using hb
  subst e;let(o,e,c,d):=st;exact⟨o,e,λv z=>by rw[d]at z;cases z⟩
 keep:=λi h h' st kk=>st.keep λo e=>kk it (!2) o e
 item:=by
  intro X U hw O hc i p9 s Y H E I N st hg;let(vs,J,hi):=hg;have hfi:=N it (!2);cases k with
  |lst a=>
   have g:H a=-(.lst vs):=J;show c8 ((DQ (tg:=tg) a it).item X U hw O hc i p9 s Y H E I N st ⟨vs,vs[i],SqL.of g,by simp[hi]⟩) ?_ (λp p e=>e);rintro r s1 ⟨u,hr,h1⟩;show⟨u,hr,c8 h1 ?_ (λp p e=>e)⟩;rintro _ s2 ⟨x,H',I',rx,⟨e1,e2⟩,L,fr⟩;exact⟨x,H',I',rx,⟨e1,λws q=>e2 ws (SqL.of (show H a=-(.lst ws) from q))⟩,L,fr⟩
  |tup a=>
   have g:H a=-(.tup vs):=J;show c8 ((DR (tg:=tg) a it).item X U hw O hc i p9 s Y H E I N st ⟨vs,vs[i],SqT.of g,by simp[hi]⟩) ?_ (λp p e=>e);rintro r s1 ⟨u,hr,h1⟩;show⟨u,hr,c8 h1 ?_ (λp p e=>e)⟩;rintro _ s2 ⟨x,H',I',rx,⟨e1,e2⟩,L,fr⟩;exact⟨x,H',I',rx,⟨e1,λws q=>e2 ws (SqT.of (show H a=-(.tup ws) from q))⟩,L,fr⟩
  |str y t=>
   have g:vs=y.cps.toList.map λc=>V.str ⟨#[c]⟩:=J;have hlen:vs⁻¹=y.cps.size:=by rw[g,ag,cK]
   show c8 ((wy (tg:=tg) it y t).item X U hw O hc i p9 s Y H E I N st (show i<y.cps.size by lia)) ?_ (λp p e=>e);rintro r s1 ⟨u,hr,h1⟩;show⟨u,hr,c8 h1 ?_ (λp p e=>e)⟩;rintro _ s2 ⟨x,H',I',rx,⟨e1,c,e2,e3⟩,L,fr⟩;show⟨x,H',I',rx,⟨e1,λws q=>?_⟩,L,fr⟩;have q:ws=y.cps.toList.map λc=>V.str ⟨#[c]⟩:=q;rw[q,e3,a8,eR,e2];rfl
 done:=by
  intro X U hw O hc i p9 s Y H E I N st hg;let(vs,J,hi):=hg;cases k with
  |lst a=>exact(DQ (tg:=tg) a it).done X U hw O hc i p9 s Y H E I N st ⟨vs,SqL.of (show H a=-(.lst vs) from J),!0⟩
  |tup a=>exact(DR (tg:=tg) a it).done X U hw O hc i p9 s Y H E I N st ⟨vs,SqT.of (show H a=-(.tup vs) from J),!0⟩
  |str y t=>
   have g:vs=y.cps.toList.map λc=>V.str ⟨#[c]⟩:=J;have hlen:vs⁻¹=y.cps.size:=by rw[g,ag,cK]
   exact(wy (tg:=tg) it y t).done X U hw O hc i p9 s Y H E I N st (show i=y.cps.size by lia)
 self:=λA i s Q E st h=>by
  cases k with
  |lst a=>exact wpAny_pyIter_listiter st h
  |tup a=>exact wpAny_pyIter_tupleiter st h
  |str y t=>exact(wy (K:=K) (tg:=tg) it y t).self A i s Q E st h
open Builtin Builtin.Str
section
variable {prog:AK} {w:World} {A:AM} {E:AG} {s:AI}
def aat{z TI TO i1 i2:AQ}{k n1 n2:Nat}{fp1 fp2:List AQ}{P1 P2:Nat->AN->Prop}{S1 S2:Nat->Heap->Prop}{a b:AN}{Q:AG}(D:ZApart z TI TO i1 i2)
  (D1:Draws prog w A i1 fp1 n1 P1 S1) (D2:Draws prog w A i2 fp2 n2 P2 S2) (f1:∀c∈fp1,c≠z/\c≠TO/\c≠i2) (f2:∀c∈fp2,c≠z/\c≠TO/\c≠i1)
  (hz:IsZip s.heap z TI TO .none) (hTI:IsPair s.heap TI (.ref i1) (.ref i2)) (hTO:IsPair s.heap TO a b)
  (h1:S1 k s.heap) (h2:S2 k s.heap) (hx:k<n1) (hy:k<n2)
  (hQ:∀h' tk c d,P1 k c->P2 k d->IsZip h' z TI TO (rawInt (~~~s))->IsPair h' TO c d->S1 (k+1) h'->S2 (k+1) h'->
   IsPair h' (~~~s) c d->h'.objs.size=(~~~s)+1->
   (∀c o,c≠z->c≠TO->c≠i1->c≠i2->s.heap.get? c=-o->h'.get? c=-o)->Q (.ref (~~~s)) {s with heap:=h',toks:=tk}):
  wpAny (model prog w) A (Builtin.«zip.__next__» ⟨[.ref z],[]⟩) (λfin s'=>∃v,fin=.done (.ret v)/\Q v s') E s:=by
 have e1:∀{h h':Heap}{c:AQ}{j:Nat},S1 j h->Heap.ExtBut c h h'->(∀b∈fp1,b≠c)->S1 j h':=λq e n=>D1.frame _ _ _ q λb hb o y=>e b o (n b hb) y;have e2:∀{h h':Heap}{c:AQ}{j:Nat},S2 j h->Heap.ExtBut c h h'->(∀b∈fp2,b≠c)->S2 j h':=λq e n=>D2.frame _ _ _ q λb hb o y=>e b o (n b hb) y;have z1:∀b∈fp1,b≠z:=λb hb=>(f1 b hb).1;have t1:∀b∈fp1,b≠TO:=λb hb=>(f1 b hb).2.1;have j1:∀b∈fp1,b≠i2:=λb hb=>(f1 b hb).2.2;have z2:∀b∈fp2,b≠z:=λb hb=>(f2 b hb).1;have t2:∀b∈fp2,b≠TO:=λb hb=>(f2 b hb).2.1;have j2:∀b∈fp2,b≠i1:=λb hb=>(f2 b hb).2.2;change wpAny _ _ (field (.ref z) 2 >>= _) _ _ _;show ae (eI hz rfl (x:=.bool false) rfl ?_);change wpAny _ _ (field (.ref z) 3 >>= _) _ _ _;show ae (eI hz rfl (x:=.ref TI) rfl ?_);show ae (fi hTI rfl ?_);change wpAny _ _ (Builtin.SmallTypes.ownedTupleIsFree (.ref z) >>= _) _ _ _;show ae ?_;unfold Builtin.SmallTypes.ownedTupleIsFree;show ae (eI hz rfl (x:=.none) rfl (aw ?_));simp only[if_true];show ae (wpAny_rule ?_);show ae (eI hz rfl (x:=.ref TO) rfl ?_);show ae (fh hz (!2) λh₁ hz₁ I=>?_);replace hz₁:IsZip h₁ z TI TO .ellipsis:=hz₁;replace I:Heap.SameBut z s.heap h₁:=I;show ae ?_;simp only[List.zipIdx_cons,List.zipIdx_nil,List.forIn_cons,List.forIn_nil];show ae (ae (wpAny_onRaise ?_));change wpAny _ _ (Builtin.SmallTypes.nextOf (.ref i1) >>= _) _ _ _;show ae (D1.item k _ _ _ hx (e1 h1 I.extBut z1) λc h₂ tk₂ hc h1₂ J=>aw ?_);replace J:Heap.SameBut i1 h₁ h₂:=J;have hTO₂:IsPair h₂ TO a b:=J.extBut _ _ D.TOi1 (I.extBut _ _ D.TOz hTO);show ae (fi hTO₂ rfl ?_);show ae (wpAny_updateSeq_pair hTO₂ λh₃ Y L=>?_);replace Y:IsPair h₃ TO c b:=Y;replace L:Heap.SameBut TO h₂ h₃:=L;show ae (wpAny_letGo (aw ?_));show ae (ae (wpAny_onRaise ?_));change wpAny _ _ (Builtin.SmallTypes.nextOf (.ref i2) >>= _) _ _ _;show ae (D2.item k _ _ _ hy (e2 (e2 (e2 h2 I.extBut z2) J.extBut j2) L.extBut t2) λd h₄ tk₄ hd h2₄ N=>aw ?_);replace N:Heap.SameBut i2 h₃ h₄:=N;have hTO₄:IsPair h₄ TO c b:=N.extBut _ _ D.TOi2 Y;show ae (fi hTO₄ rfl ?_);show ae (wpAny_updateSeq_pair hTO₄ λg U O=>?_);replace U:IsPair g TO c d:=U;replace O:Heap.SameBut TO h₄ g:=O;show ae (wpAny_letGo (aw (aw ?_)));show ae (fi U rfl ?_);show ae (wpAny_newTuple ?_);have hsz:g.objs.size=(~~~s):=by rw[O.1,N.1,L.1,J.1,I.1]
 have hz₅:IsZip g z TI TO .ellipsis:=O.extBut _ _ D.TOz.symm (N.extBut _ _ D.i2z.symm (L.extBut _ _ D.TOz.symm (J.extBut _ _ D.i1z.symm hz₁)));have hk₅:∀c o,c≠z->c≠TO->c≠i1->c≠i2->s.heap.get? c=-o->g.get? c=-o:=λc o c1 c2 c3 c4 e=>
  O.extBut _ _ c2 (N.extBut _ _ c4 (L.extBut _ _ c2 (J.extBut _ _ c3 (I.extBut _ _ c1 e))))
 have h1₅:S1 (k+1) g:=e1 (e1 (e1 h1₂ L.extBut t1) N.extBut j1) O.extBut t1;have h2₅:S2 (k+1) g:=e2 h2₄ O.extBut t2;have hzlt:z<g.objs.size:=aI hz₅;change wpAny _ _ (Builtin.SmallTypes.ownedTupleHandOut (.ref z) (.ref g.objs.size) >>= _) _ _ _;show ae ?_;unfold Builtin.SmallTypes.ownedTupleHandOut;have hz₆:IsZip (g.push {cls:=.type "tuple",data:=.seq #[c,d]}) z TI TO .ellipsis:=ah _ hz₅;show ae (fh hz₆ (!2) λh₇ hz₇ hs₇=>?_);replace hz₇:IsZip h₇ z TI TO (rawInt g.objs.size):=hz₇;show fh hz₇ (!2) λh₈ hz₈ hs₈=>?_;replace hz₈:IsZip h₈ z TI TO (rawInt g.objs.size):=hz₈;have up:∀c o,c≠z->g.get? c=-o->h₈.get? c=-o:=λc o c1 e=>hs₈.extBut _ _ c1 (hs₇.extBut _ _ c1 (ah _ e));have hT₈:IsPair h₈ g.objs.size c d:=hs₈.extBut _ _ (ge hzlt) (hs₇.extBut _ _ (ge hzlt) (a7 _ rfl));have hz8:h₈.objs.size=g.objs.size+1:=by rw[hs₈.1,hs₇.1,ez]
 rw[hsz]at hz₈ hT₈ hz8;show aw ⟨_,rfl,?_⟩;change Q (.ref g.objs.size) _;rw[hsz];exact hQ h₈ tk₄ c d hc hd hz₈ (up _ _ D.TOz U) (D1.frame _ _ _ h1₅ λb hb o y=>up b o (z1 b hb) y) (D2.frame _ _ _ h2₅ λb hb o y=>up b o (z2 b hb) y) hT₈ hz8 λc o c1 c2 c3 c4 e=>up c o c1 (hk₅ c o c1 c2 c3 c4 e)
def aau{z TI TO i1 i2:AQ}{n1:Nat}{U:List AQ}{P1:Nat->AN->Prop}{S1:Nat->Heap->Prop}{a b:AN}{Q:Fin->AI->Prop}(D:ZApart z TI TO i1 i2)
  (D1:Draws prog w A i1 U n1 P1 S1) (f1:∀c∈U,c≠z)
  (hz:IsZip s.heap z TI TO .none) (hTI:IsPair s.heap TI (.ref i1) (.ref i2)) (hTO:IsPair s.heap TO a b) (h1:S1 n1 s.heap)
  (hE:∀h' e,(∀c o,c≠z->c≠TO->c≠i1->c≠i2->s.heap.get? c=-o->h'.get? c=-o)->(∃o,h'.get? e=-o/\o.cls=.type "StopIteration")->E (.ref e) {s with heap:=h'}):
  wpAny (model prog w) A (Builtin.«zip.__next__» ⟨[.ref z],[]⟩) Q E s:=by
 change wpAny _ _ (field (.ref z) 2 >>= _) _ _ _;show ae (eI hz rfl (x:=.bool false) rfl ?_);change wpAny _ _ (field (.ref z) 3 >>= _) _ _ _;show ae (eI hz rfl (x:=.ref TI) rfl ?_);show ae (fi hTI rfl ?_);change wpAny _ _ (Builtin.SmallTypes.ownedTupleIsFree (.ref z) >>= _) _ _ _;show ae ?_;unfold Builtin.SmallTypes.ownedTupleIsFree;show ae (eI hz rfl (x:=.none) rfl (aw ?_));simp only[if_true];show ae (wpAny_rule ?_);show ae (eI hz rfl (x:=.ref TO) rfl ?_);show ae (fh hz (!2) λN q g=>?_);replace q:IsZip N z TI TO .ellipsis:=q;replace g:Heap.SameBut z s.heap N:=g;show ae ?_;simp only[List.zipIdx_cons,List.zipIdx_nil,List.forIn_cons,List.forIn_nil];show ae (ae (wpAny_onRaise ?_));change wpAny _ _ (Builtin.SmallTypes.nextOf (.ref i1) >>= _) _ _ _;show ae (D1.done _ _ _ (D1.frame _ _ _ h1 λb hb o y=>g.extBut b o (f1 b hb) y) λh₂ e I he=>?_);let(oe,O,Y):=he;have L:IsZip h₂ z TI TO .ellipsis:=I _ _ D.i1z.symm q;have hez:e≠z:=λx=>by subst x;rw[L]at O;cases O;simp at Y
 show fh L (!2) λh₃ v J=>hE h₃ e (λc o c1 v c3 v x=>J.extBut _ _ c1 (I _ _ c3 (g.extBut _ _ c1 x))) ⟨oe,J.extBut _ _ hez O,Y⟩
def aav{z TI TO i1 i2:AQ}{k n1 n2:Nat}{fp1 O:List AQ}{P1 P2:Nat->AN->Prop}{S1 S2:Nat->Heap->Prop}{a b:AN}{Q:Fin->AI->Prop}(D:ZApart z TI TO i1 i2)
  (D1:Draws prog w A i1 fp1 n1 P1 S1) (D2:Draws prog w A i2 O n2 P2 S2) (f1:∀c∈fp1,c≠z/\c≠TO/\c≠i2) (f2:∀c∈O,c≠z/\c≠TO/\c≠i1)
  (hz:IsZip s.heap z TI TO .none) (hTI:IsPair s.heap TI (.ref i1) (.ref i2)) (hTO:IsPair s.heap TO a b) (h1:S1 k s.heap) (h2:S2 k s.heap) (hx:k<n1) (hy:k=n2)
  (hE:∀h' tk e,(∀c o,c≠z->c≠TO->c≠i1->c≠i2->s.heap.get? c=-o->h'.get? c=-o)->(∃o,h'.get? e=-o/\o.cls=.type "StopIteration")->E (.ref e) {s with heap:=h',toks:=tk}):
  wpAny (model prog w) A (Builtin.«zip.__next__» ⟨[.ref z],[]⟩) Q E s:=by
 have e1:∀{h h':Heap}{c:AQ}{j:Nat},S1 j h->Heap.ExtBut c h h'->(∀b∈fp1,b≠c)->S1 j h':=λq e n=>D1.frame _ _ _ q λb U o y=>e b o (n b U) y;have e2:∀{h h':Heap}{c:AQ}{j:Nat},S2 j h->Heap.ExtBut c h h'->(∀b∈O,b≠c)->S2 j h':=λq e n=>D2.frame _ _ _ q λb U o y=>e b o (n b U) y;have z1:∀b∈fp1,b≠z:=λb U=>(f1 b U).1;have z2:∀b∈O,b≠z:=λb U=>(f2 b U).1;have t2:∀b∈O,b≠TO:=λb U=>(f2 b U).2.1;have j2:∀b∈O,b≠i1:=λb U=>(f2 b U).2.2;change wpAny _ _ (field (.ref z) 2 >>= _) _ _ _;show ae (eI hz rfl (x:=.bool false) rfl ?_);change wpAny _ _ (field (.ref z) 3 >>= _) _ _ _;show ae (eI hz rfl (x:=.ref TI) rfl ?_);show ae (fi hTI rfl ?_);change wpAny _ _ (Builtin.SmallTypes.ownedTupleIsFree (.ref z) >>= _) _ _ _;show ae ?_;unfold Builtin.SmallTypes.ownedTupleIsFree;show ae (eI hz rfl (x:=.none) rfl (aw ?_));simp only[if_true];show ae (wpAny_rule ?_);show ae (eI hz rfl (x:=.ref TO) rfl ?_);show ae (fh hz (!2) λh₁ L g=>?_);replace L:IsZip h₁ z TI TO .ellipsis:=L;replace g:Heap.SameBut z s.heap h₁:=g;show ae ?_;simp only[List.zipIdx_cons,List.zipIdx_nil,List.forIn_cons,List.forIn_nil];show ae (ae (wpAny_onRaise ?_));change wpAny _ _ (Builtin.SmallTypes.nextOf (.ref i1) >>= _) _ _ _;show ae (D1.item k _ _ _ hx (e1 h1 g.extBut z1) λc h₂ tk₂ hc h1₂ I=>aw ?_);replace I:Heap.SameBut i1 h₁ h₂:=I;have N:IsPair h₂ TO a b:=I.extBut _ _ D.TOi1 (g.extBut _ _ D.TOz hTO);show ae (fi N rfl ?_);show ae (wpAny_updateSeq_pair N λh₃ hTO₃ J=>?_);replace J:Heap.SameBut TO h₂ h₃:=J;show ae (wpAny_letGo (aw ?_));show ae (ae (wpAny_onRaise ?_));change wpAny _ _ (Builtin.SmallTypes.nextOf (.ref i2) >>= _) _ _ _;subst hy;show ae (D2.done _ _ _ (e2 (e2 (e2 h2 g.extBut z2) I.extBut j2) J.extBut t2) λh₄ e Y he=>?_);let(oe,hoe,hce):=he;have hz₄:IsZip h₄ z TI TO .ellipsis:=Y _ _ D.i2z.symm (J.extBut _ _ D.TOz.symm (I.extBut _ _ D.i1z.symm L));have hez:e≠z:=λx=>by subst x;rw[hz₄]at hoe;cases hoe;simp at hce
 show fh hz₄ (!2) λh₅ v hs₅=>hE h₅ tk₂ e (λc o c1 c2 c3 c4 x=>hs₅.extBut _ _ c1 (Y _ _ c4 (J.extBut _ _ c2 (I.extBut _ _ c3 (g.extBut _ _ c1 x))))) ⟨oe,hs₅.extBut _ _ hez hoe,hce⟩
end
def Jz(k l:SK):It:=⟨λi H=>∃vs g,k.Sat H vs/\l.Sat H g/\i<vs⁻¹/\i<g⁻¹,
 λi H x H'=>∃T y z,H T=none/\x=.ref T/\H'=upd H T (.tup [y,z])/\(∀vs,k.Sat H vs->vs[i]?=-y)/\(∀g,l.Sat H g->g[i]?=-z),
 λi H=>∃vs g,k.Sat H vs/\l.Sat H g/\(vs⁻¹=i/\i<=g⁻¹\/i<vs⁻¹/\g⁻¹=i)⟩
def aaw{P:AK}{w:World}{K:PF}{elts:AE}{x1:Nat}{pos:Pos}(k l:SK)(z TI TO O U:AQ)(D:ZApart z TI TO O U):
  Turn P w K (.Tuple elts x1 pos) (Jz k l) [z,TI,TO,O,U] z
   (λi h=>IsZip h z TI TO .none/\IsPair h TI (.ref O) (.ref U)/\(∃a b,IsPair h TO a b)/\k.pos O i h/\l.pos U i h) where
 mem:=by simp
 obj:=λi h st b hb=>by
  let(hz,L,(a,c,hTO),(o1,e1,_,d1),(o2,e2,_,d2)):=st;have g:b=z\/b=TI\/b=TO\/b=O\/b=U:=by simpa using hb
  rcases g with rfl|rfl|rfl|rfl|rfl
  .exact ⟨_,hz,λv q=>by have q':Data.fields _=Data.cell v:=q;cases q'⟩
  .exact ⟨_,L,λv q=>by have q':Data.seq _ _=Data.cell v:=q;cases q'⟩
  .exact ⟨_,hTO,λv q=>by have q':Data.seq _ _=Data.cell v:=q;cases q'⟩
  .exact ⟨o1,e1,λv q=>by rw[d1]at q;cases q⟩
  .exact ⟨o2,e2,λv q=>by rw[d2]at q;cases q⟩
 keep:=λi h h' st kk=>by
  let(hz,L,(a,c,hTO),p1,p2):=st;exact⟨kk z (!2) _ hz,kk TI (!2) _ L,⟨a,c,kk TO (!2) _ hTO⟩,p1.keep λo e=>kk O (!2) o e,p2.keep λo e=>kk U (!2) o e⟩
 item:=by
  intro X hP hw hK hc i p9 s Y H E I hf st hg;subst hP hw hK;let(vs,ws,sat1,sat2,l1,l2):=hg;let(hz,L,(a,b,hTO),h1,h2):=st;have hT:s.TypeIs (.ref z) "zip":=⟨_,hz,rfl⟩;have fz:=hf z (!2);have fTO:=hf TO (!2);have fi1:=hf O (!2);have fi2:=hf U (!2);let(fp1,P1,S1,J):=drawn (A:=X.A.in1) (I.ok.hd hc) I sat1 fi1.1 h1;let(fp2,P2,S2,Dr2):=drawn (A:=X.A.in1) (I.ok.hd hc) I sat2 fi2.1 h2;have no1:∀e,H e=none->e≠O->∀c∈fp1,c≠e:=λe he hei c hc z=>by
   rcases J.fp c hc with q|q
   .exact hei (z.symm.trans q)
   .have:=sat1.no he;cases k with
    |lst a=>injection q with q;exact this (q.trans z)
    |tup a=>injection q with q;exact this (q.trans z)
    |str _ _=>cases q
  have no2:∀e,H e=none->e≠U->∀c∈fp2,c≠e:=λe he hei c hc z=>by
   rcases Dr2.fp c hc with q|q
   .exact hei (z.symm.trans q)
   .have:=sat2.no he;cases l with
    |lst a=>injection q with q;exact this (q.trans z)
    |tup a=>injection q with q;exact this (q.trans z)
    |str _ _=>cases q
  have f1:∀c∈fp1,c≠z/\c≠TO/\c≠U:=λc hc=>⟨no1 z fz.1 D.i1z.symm c hc,no1 TO fTO.1 D.TOi1 c hc,no1 U fi2.1 D.i12.symm c hc⟩;have f2:∀c∈fp2,c≠z/\c≠TO/\c≠O:=λc hc=>⟨no2 z fz.1 D.i2z.symm c hc,no2 TO fTO.1 D.TOi2 c hc,no2 O fi1.1 D.i12 c hc⟩;have ltz:z<(~~~s):=aI hz;have ltTI:TI<(~~~s):=aI L;have ltTO:TO<(~~~s):=aI hTO;have lti1:O<(~~~s):=by let(_,e,_):=h1;exact aI e
  have lti2:U<(~~~s):=by let(_,e,_):=h2;exact aI e
  unfold pyNext;show ae (wpAny_attempt (et (name:=⇑"__next__") hT F.slot_zip_next
   (fg F.slot_zip_next hT F.entry_zip_next (aat D J.D Dr2.D f1 f2 hz L hTO J.st Dr2.st l1 l2 λh' tk c d pc pd a1 a2 a3 a4 a5 a6 hk=>aw ?_) (F.args_zip_next_1 _))))
  let(y,hy,ry):=J.val _ _ pc;let(y',hy',ry'):=Dr2.val _ _ pd;show⟨_,rfl,?_⟩;show wpAny_letOwnedTupleGo_zip a1 λh2' hz2 hs2=>?_;have N:Heap.SameBut z h' h2':=hs2;have hn:H (~~~s)=none:=I.hok.fresh (ar _);have k2:∀b o,b∉[z,TI,TO,O,U]->s.heap.get? b=-o->h2'.get? b=-o:=λb o hb q=>by
   have g:b≠z/\b≠TI/\b≠TO/\b≠O/\b≠U:=by simpa using hb
   exact N.extBut b o g.1 (hk b o g.1 g.2.2.1 g.2.2.2.1 g.2.2.2.2 q)
  have I2:Inv X p9 Y H {s with heap:=h2',toks:=tk}:=I.turnedL hf k2;have ht2:h2'.get? (~~~s)=-{cls:=.type "tuple",data:=.seq #[c,d]}:=N.extBut _ _ (ge ltz) a5;have ob:ObjOk X.prog X.w (upd H (~~~s) (.tup [y,y'])) h2' (~~~s) (.tup [y,y']):=
   ⟨by rw[ff];simp,[c,d],.cons ry (.cons ry' .nil),⟨_,ht2,⟨rfl,rfl⟩,_,rfl⟩⟩
  have I3:=I2.track (I.fpOk (ar _) hn) ob;show⟨.ref (~~~s),_,I3,rfl,⟨(~~~s),y,y',hn,rfl,rfl,λus hu=>by rw[zj hu sat1];exact hy,λus hu=>by rw[zj hu sat2];exact hy'⟩,
   ⟨hz2,N.extBut _ _ D.TIz (hk _ _ D.TIz D.TITO D.TIi1 D.TIi2 L),⟨_,_,N.extBut _ _ D.TOz a2⟩,(J.pos _ _ a3).keep λo e=>N.extBut _ _ D.i1z e,(Dr2.pos _ _ a4).keep λo e=>N.extBut _ _ D.i2z e⟩,λb hb=>?_⟩
  have g:b=z\/b=TI\/b=TO\/b=O\/b=U:=by simpa using hb
  rw[aA (by rcases g with rfl|rfl|rfl|rfl|rfl<;>exact cb ‹_›)];exact(hf b hb).1
 done:=by
  intro X hP hw hK hc i p9 s Y H E I hf st hg;subst hP hw hK;let(vs,ws,sat1,sat2,hend):=hg;let(hz,L,(a,b,hTO),h1,h2):=st;have hT:s.TypeIs (.ref z) "zip":=⟨_,hz,rfl⟩;have fz:=hf z (!2);have fTO:=hf TO (!2);have fi1:=hf O (!2);have fi2:=hf U (!2);let(fp1,P1,S1,J):=drawn (A:=X.A.in1) (I.ok.hd hc) I sat1 fi1.1 h1;let(fp2,P2,S2,Dr2):=drawn (A:=X.A.in1) (I.ok.hd hc) I sat2 fi2.1 h2;have no1:∀e,H e=none->e≠O->∀c∈fp1,c≠e:=λe he hei c hc z=>by
   rcases J.fp c hc with q|q
   .exact hei (z.symm.trans q)
   .have:=sat1.no he;cases k with
    |lst a=>injection q with q;exact this (q.trans z)
    |tup a=>injection q with q;exact this (q.trans z)
    |str _ _=>cases q
  have no2:∀e,H e=none->e≠U->∀c∈fp2,c≠e:=λe he hei c hc z=>by
   rcases Dr2.fp c hc with q|q
   .exact hei (z.symm.trans q)
   .have:=sat2.no he;cases l with
    |lst a=>injection q with q;exact this (q.trans z)
    |tup a=>injection q with q;exact this (q.trans z)
    |str _ _=>cases q
  have f1:∀c∈fp1,c≠z/\c≠TO/\c≠U:=λc hc=>⟨no1 z fz.1 D.i1z.symm c hc,no1 TO fTO.1 D.TOi1 c hc,no1 U fi2.1 D.i12.symm c hc⟩;have f2:∀c∈fp2,c≠z/\c≠TO/\c≠O:=λc hc=>⟨no2 z fz.1 D.i2z.symm c hc,no2 TO fTO.1 D.TOi2 c hc,no2 O fi1.1 D.i12 c hc⟩;have fin:∀(h':Heap)(tk:Nat)(e:AQ),(∀c o,c≠z->c≠TO->c≠O->c≠U->s.heap.get? c=-o->h'.get? c=-o)->Inv X p9 Y H {s with heap:=h',toks:=tk}:=λh' tk e hk=>I.turnedL (t':=tk) hf λb o hb q=>by
   have g:b≠z/\b≠TI/\b≠TO/\b≠O/\b≠U:=by simpa using hb
   exact hk b o g.1 g.2.2.1 g.2.2.2.1 g.2.2.2.2 q
  unfold pyNext;show ae (wpAny_attempt (et (name:=⇑"__next__") hT F.slot_zip_next
   (fg F.slot_zip_next hT F.entry_zip_next ?_ (F.args_zip_next_1 _))))
  rcases hend with⟨e1,_⟩|⟨e1,e2⟩
  .subst e1;show aau D J.D (λc hc=>(f1 c hc).1) hz L hTO J.st λh' e hk he=>?_;let(o,ho,hc'):=he;show ae (wpAny_isInstance (T:="StopIteration") (b:=true) ⟨o,ho,hc'⟩ isSubtype_stop ?_);exact aw ⟨rfl,fin h' s.toks e hk⟩
  .show aav D J.D Dr2.D f1 f2 hz L hTO J.st Dr2.st e1 e2.symm λh' tk e hk he=>?_;let(o,ho,hc'):=he;show ae (wpAny_isInstance (T:="StopIteration") (b:=true) ⟨o,ho,hc'⟩ isSubtype_stop ?_);exact aw ⟨rfl,fin h' tk e hk⟩
 self:=λA i s Q E st h=>wpAny_pyIter_zip st.1 h
open Sem (wp)
open AutoSeq1 (wpAny_loadPart')
set_option maxHeartbeats 1000000 in
theorem aax(l:AQ)(q:Array AN)(n:Nat)(dct:Option AQ)(N:Array (Option AN)):
  Meets (Builtin.«enumerate.__new__» ⟨[.type "enumerate",.ref l],[]⟩) (λy R s=>s.heap.get? l=-{cls:=.type "tuple",dict:=dct,data:=.seq q n,slots:=N}/\
   R (.ok (.ret (.ref (s.heap.push {cls:=.type "tuple_iterator",data:=.fields #[.ref l,.int 0 0]}).objs.size)))
    {s with heap:=(s.heap.push {cls:=.type "tuple_iterator",data:=.fields #[.ref l,.int 0 0]}).push {cls:=.type "enumerate",data:=.fields #[.none,.bool false,.ref (~~~s),rawInt 0,.none,.none]}}):=
 .of_wp λprog w A R s h=>by
  let(J,g,d,O,L):=s;let(hl,h):=h;have I:=sub_enumerate;have z:Heap.IsTuple (Shared.heap ⟨J,g,d,O,L⟩) l q:=⟨_,hl,rfl,n,rfl⟩;wp_walk using wpAny_loadPart' hl
  show wpAny_stack_any λst=>aw ?_;split
  .rename_i c _ _ _ _ _;cases(c==Value.type "enumerate")
   .wp_walk using wpAny_loadPart' hl,wpAny_pyIter_tuple z
    exact⟨_,rfl,h⟩
   .wp_walk using wpAny_loadPart' hl,wpAny_pyIter_tuple z
    exact⟨_,rfl,h⟩
  .wp_walk using wpAny_loadPart' hl,wpAny_pyIter_tuple z
   exact⟨_,rfl,h⟩
abbrev uh(h:Heap)(k:SK):Heap:=h.push k.obj
abbrev ul(h:Heap)(k l:SK):Heap:=(uh h k).push l.obj
abbrev um (h:Heap) (k l:SK):Heap:=(ul h k l).push {cls:=.type "tuple",data:=.seq #[.ref h.objs.size,.ref (uh h k).objs.size]}
abbrev uo (h:Heap) (k l:SK):Heap:=(um h k l).push {cls:=.type "tuple",data:=.seq #[.none,.none]}
abbrev iI (h:Heap) (k l:SK):Heap:=(uo h k l).push {cls:=.type "zip",data:=.fields #[.none,.bool false,.bool false,.ref (ul h k l).objs.size,.ref (um h k l).objs.size]}
def aay(k l:SK)(xs ys:Array AN):
  Meets (Builtin.«zip.__new__» ⟨[.type "zip",k.val,l.val],[]⟩) (λy R s=>k.On xs s.heap/\l.On ys s.heap/\R (.ok (.ret (.ref (uo s.heap k l).objs.size))) {s with heap:=iI s.heap k l}):=
 .of_wp λprog w A R s h=>by
  let(I,g,d,N,L):=s;let(h1,h2,h):=h;have J:=sub_zip;have q:k.On xs (Shared.heap ⟨I,g,d,N,L⟩):=h1;have z:l.On ys (Shared.heap ⟨I.push k.obj,g,d,N,L⟩):=SK.On.keeps h2 λb o y e=>ah _ e;wp_walk using SK.iter q,SK.iter z
  exact⟨_,rfl,h⟩
section
variable {prog:AK} {w:World} {A:AM} {E:AG} {s:AI}
def aaz{k l:SK}{xs ys:Array AN}{Q:AG}(h1:k.On xs s.heap)(h2:l.On ys s.heap)
  (h:∀h',IsZip h' ((~~~s)+4) ((~~~s)+2) ((~~~s)+3) .none->IsPair h' ((~~~s)+2) (.ref (~~~s)) (.ref ((~~~s)+1))->
   IsPair h' ((~~~s)+3) .none .none->k.pos (~~~s) 0 h'->l.pos ((~~~s)+1) 0 h'->h'.objs.size=(~~~s)+5->
   (∀c o,s.heap.get? c=-o->h'.get? c=-o)->Q (.ref ((~~~s)+4)) {s with heap:=h'}):
  wpAny (model prog w) A (call (.type "zip") [k.val,l.val]) Q E s:=by
 show callType_new F.called_zip (!1) (F.typeCall_zip_2 _ _) (F.newCall_zip_2 _ _) (λobj=>F.args_object_init_3 obj _ _) F.entry_zip_new
  (aay k l xs ys) ⟨h1,h2,?_⟩
 have q:(uh s.heap k).objs.size=(~~~s)+1:=ez ..;have z:(ul s.heap k l).objs.size=(~~~s)+2:=by rw[ez,q]
 have I:(um s.heap k l).objs.size=(~~~s)+3:=by rw[ez,z]
 have J:(uo s.heap k l).objs.size=(~~~s)+4:=by rw[ez,I]
 have Y:(iI s.heap k l).objs.size=(~~~s)+5:=by rw[ez,J]
 have g:(iI s.heap k l).get? (uo s.heap k l).objs.size=-_:=a7 _ rfl;have O:(iI s.heap k l).get? (um s.heap k l).objs.size=-_:=ah _ (a7 _ rfl);have N:(iI s.heap k l).get? (ul s.heap k l).objs.size=-_:=ah _ (ah _ (a7 _ rfl));have L:(iI s.heap k l).get? (uh s.heap k).objs.size=-_:=ah _ (ah _ (ah _ (a7 _ rfl)));have U:(iI s.heap k l).get? (~~~s)=-_:=ah _ (ah _ (ah _ (ah _ (a7 _ rfl))));change _/\_;rw[z,I,J]at g;rw[q,z]at N;rw[I]at O;rw[q]at L;rw[J];exact⟨⟨_,g,rfl⟩,h _ g N O ⟨_,U,rfl,rfl⟩ ⟨_,L,rfl,rfl⟩ Y λc o x=>
  ah _ (ah _ (ah _ (ah _ (ah _ x))))⟩
def aaA{l:AQ}{g:Array AN}{Q:AG}(J:s.heap.IsTuple l g)
  (h:∀h',IsEnum h' ((~~~s)+1) (~~~s) 0 .none->h'.IsTupleIter (~~~s) l 0->h'.objs.size=(~~~s)+2->
   (∀b o,s.heap.get? b=-o->h'.get? b=-o)->Q (.ref ((~~~s)+1)) {s with heap:=h'}):
  wpAny (model prog w) A (call (.type "enumerate") [.ref l]) Q E s:=by
 let((c,dct,I,L),hl,hc,n,q):=J;replace hc:c=.type "tuple":=hc;replace q:I=.seq g n:=q;subst hc q;show callType_new F.called_enumerate (!1) (F.typeCall_enumerate_1 _) (F.newCall_enumerate_1 _) (λobj=>F.args_object_init_2 obj _) F.entry_enumerate_new
  (aax l g n dct L) ⟨hl,?_⟩
 have z:(s.heap.push {cls:=.type "tuple_iterator",data:=.fields #[.ref l,.int 0 0]}).objs.size=(~~~s)+1:=ez ..;change _/\_;rw[z];have he:IsEnum ((s.heap.push {cls:=.type "tuple_iterator",data:=.fields #[.ref l,.int 0 0]}).push
   {cls:=.type "enumerate",data:=.fields #[.none,.bool false,.ref (~~~s),rawInt 0,.none,.none]}) ((~~~s)+1) (~~~s) 0 .none:=by
  have:=a7 (s.heap.push {cls:=.type "tuple_iterator",data:=.fields #[.ref l,.int 0 0]})
   (o:={cls:=.type "enumerate",data:=.fields #[.none,.bool false,.ref (~~~s),rawInt 0,.none,.none]}) rfl
  rw[z]at this;exact this
 show⟨⟨_,he,rfl⟩,h _ he ⟨_,ah _ (a7 _ rfl),rfl,rfl⟩ (by rw[ez,z]) λb o x=>ah _ (ah _ x)⟩
def IK{k:SK}{xs:Array AN}{Q:AG}(h1:k.On xs s.heap)
  (h:∀h',IsEnum h' ((~~~s)+1) (~~~s) 0 .none->k.pos (~~~s) 0 h'->h'.objs.size=(~~~s)+2->
   (∀b o,s.heap.get? b=-o->h'.get? b=-o)->Q (.ref ((~~~s)+1)) {s with heap:=h'}):
  wpAny (model prog w) A (call (.type "enumerate") [k.val]) Q E s:=by
 cases k with
 |lst a=>exact call_enumerate_list h1 h
 |tup a=>exact aaA h1 h
 |str x t=>exact call_enumerate_str h
end
set_option backward.match.sparseCases false
structure OT where
 ms:List (AL×AL×AL×Nat):=[]
 ks:List (AL×Nat):=[]
 fl:List (AL×AL):=[]
 xk:List (AL×AL):=[]
structure CT where
 N:AD
 kd:List (Str×NameKind)
 fn:Bool
 fs:List (AL×Nat)
 bt:List AL
 cn:List (AL×D)
 xs:List (AL×Bool):=[]
 ot:OT:={}
def iJ:Option NameKind->Bool
 |some .local=>true
 |some .cell=>true
 |some .free=>true
 |_=>false
def CT.sto(c:CT)(x:Str):Bool:=c.kd.lookup x==-.local||(c.fn&&c.kd.lookup x==-.cell)
def okN (x:Str):Bool:=!(x==("__debug__":Str))&&!(x==("__classdict__":Str))&&!(x==("__name__":Str))
def CT.glo(c:CT)(x:Str):Bool:=c.kd.lookup x==-.globalImplicit&&okN x
def sEq:D->D->Bool
 |.non,.non=>true
 |.bl a,.bl b=>a==b
 |.int a,.int b=>a==b
 |.str a,.str b=>a==b
 |_,_=>false
def aaB{a b:D}(h:sEq a b):a=b:=by cases a<;>cases b<;>simp_all [sEq]
def uq(d:D)(k:Const):Bool:=
 match d,k with
 |.non,.none=>true
 |.bl a,.bool b=>a==b
 |.int a,.int b=>a==b
 |.str a,.str b=>a==b.cps.toList&&decide (a⁻¹<=sz)
 |_,_=>false
def Bf.name:Bf->AL
 |.len=>"len"
 |.all=>"all"
 |.int=>"int"
 |.tuple=>"tuple"
 |.sum=>"sum"
 |.min=>"min"
 |.max=>"max"
 |.abs=>"abs"
 |.min2=>"min"
 |.str=>"str"
def zm:Bf->Bool
 |.sum=>false
 |.min=>true
 |.max=>false
 |.abs=>false
 |.min2=>false
 |.str=>true
 |_=>true
def zu:Lf->Bool
 |.sorted=>true
 |_=>true
def Lf.name:Lf->AL
 |.list=>"list"
 |.sorted=>"sorted"
def Mf.name:Mf->AL
 |.join=>"join"
 |.append=>"append"
 |.extend=>"extend"
 |.pop=>"pop"
 |.idxL=>"index"
def ur:AO->Bool
 |.Name _ _=>true
 |.Subscript _ _ _=>true
 |_=>false
def IV{v:AO}(h:ur v)(name:Str)(env:Env):attributeBase v name env (eval v env)=eval v env:=by cases v<;>first|rfl|cases h
def iK:AO->Bool
 |.Call (.Name _ _) [] [] _=>true
 |_=>false
def dj:AO->Bool
 |.ListComp ..=>true
 |.SetComp ..=>true
 |.DictComp ..=>true
 |_=>false
def iM:AO->Bool
 |.UnaryOp .Not _ _=>false
 |.BoolOp ..=>false
 |.IfExp ..=>false
 |.Compare ..=>false
 |_=>true
def gY(N:AD)(scope:Scope):AD->List (Option Nat)->Bool
 |[],[]=>true
 |_::N',none::cap=>gY N scope N' cap
 |x::N',-j::cap=>(N[j]?==-x)&&(scope.names.lookup x==-NameKind.free)&&gY N scope N' cap
 |_,_=>false
def jU(c:CT)(scope:Scope):Bool:=
 scope.names.all (λy=>y.2 != NameKind.cell)&&scope.names.all (λy=>y.2 != NameKind.local||scope.names.lookup y.1==-NameKind.local) &&
 scope.names.all (λy=>y.2 != NameKind.free||(c.kd.lookup y.1==-NameKind.cell||c.kd.lookup y.1==-NameKind.free))&&decide (scope.kind=.function)&&decide (c.kd=c.kd)
def CT.comp(c:CT)(N:AD)(scope:Scope):CT:={N:=N,kd:=scope.names,fn:=false,fs:=c.fs,bt:=c.bt,cn:=c.cn,ot:=c.ot}
def fQ:AD->Bool
 |[]=>true
 |x::r=>!r.contains x&&fQ r
def asName(e:AO):Option {t:Str×Pos // e=.Name t.1 t.2}:=match e with
 |.Name a0 a1=>-⟨(a0,a1),rfl⟩
 |_=>none
def amo(e:AO):Option {t:AO×Pos // e=.Starred t.1 t.2}:=match e with
 |.Starred a0 a1=>-⟨(a0,a1),rfl⟩
 |_=>none
def zx(e:AO):Option {t:Const×Nat×Pos // e=.Constant t.1 t.2.1 t.2.2}:=match e with
 |.Constant a0 a1 a2=>-⟨(a0,a1,a2),rfl⟩
 |_=>none
def IW(e:AO):Option {t:AO×Operator×AO×Pos // e=.BinOp t.1 t.2.1 t.2.2.1 t.2.2.2}:=match e with
 |.BinOp a0 a1 a2 a3=>-⟨(a0,a1,a2,a3),rfl⟩
 |_=>none
def jV(e:AO):Option {t:UnaryOp×AO×Pos // e=.UnaryOp t.1 t.2.1 t.2.2}:=match e with
 |.UnaryOp a0 a1 a2=>-⟨(a0,a1,a2),rfl⟩
 |_=>none
def my(e:AO):Option {t:AO×List CmpOp×AE×Pos // e=.Compare t.1 t.2.1 t.2.2.1 t.2.2.2}:=match e with
 |.Compare a0 a1 a2 a3=>-⟨(a0,a1,a2,a3),rfl⟩
 |_=>none
def ut(e:AO):Option {t:BoolOp×AE×Pos // e=.BoolOp t.1 t.2.1 t.2.2}:=match e with
 |.BoolOp a0 a1 a2=>-⟨(a0,a1,a2),rfl⟩
 |_=>none
def Ja(e:AO):Option {t:AO×AO×AO×Pos // e=.IfExp t.1 t.2.1 t.2.2.1 t.2.2.2}:=match e with
 |.IfExp a0 a1 a2 a3=>-⟨(a0,a1,a2,a3),rfl⟩
 |_=>none
def amq(e:AO):Option {t:AO×AO×List Comprehension×Scope×Pos // e=.DictComp t.1 t.2.1 t.2.2.1 t.2.2.2.1 t.2.2.2.2}:=match e with
 |.DictComp a0 a1 a2 a3 a4=>-⟨(a0,a1,a2,a3,a4),rfl⟩
 |_=>none
def uv(e:AO):Option {t:List (Option AO)×AE×Pos // e=.Dict t.1 t.2.1 t.2.2}:=match e with
 |.Dict a b p=>-⟨(a,b,p),rfl⟩
 |_=>none
def d8(e:AO):Option {t:AE×Nat×Pos // e=.Tuple t.1 t.2.1 t.2.2}:=match e with
 |.Tuple a0 a1 a2=>-⟨(a0,a1,a2),rfl⟩
 |_=>none
def asList(e:AO):Option {t:AE×Pos // e=.List t.1 t.2}:=match e with
 |.List a0 a1=>-⟨(a0,a1),rfl⟩
 |_=>none
def d9(e:AO):Option {t:AO×AO×Pos // e=.Subscript t.1 t.2.1 t.2.2}:=match e with
 |.Subscript a0 a1 a2=>-⟨(a0,a1,a2),rfl⟩
 |_=>none
def Jb(e:AO):Option {t:Option AO×Option AO×Option AO×Pos // e=.Slice t.1 t.2.1 t.2.2.1 t.2.2.2}:=match e with
 |.Slice a0 a1 a2 a3=>-⟨(a0,a1,a2,a3),rfl⟩
 |_=>none
def jW(e:AO):Option {t:AO×AE×List Keyword×Pos // e=.Call t.1 t.2.1 t.2.2.1 t.2.2.2}:=match e with
 |.Call a0 a1 a2 a3=>-⟨(a0,a1,a2,a3),rfl⟩
 |_=>none
def iQ(e:AO):Option {t:AO×Str×Pos // e=.Attribute t.1 t.2.1 t.2.2}:=match e with
 |.Attribute a0 a1 a2=>-⟨(a0,a1,a2),rfl⟩
 |_=>none
def Jc(e:AO):Option {t:AO×List Comprehension×Scope×Pos // e=.ListComp t.1 t.2.1 t.2.2.1 t.2.2.2}:=match e with
 |.ListComp a0 a1 a2 a3=>-⟨(a0,a1,a2,a3),rfl⟩
 |_=>none
def Jd(e:Stmt):Option {t:AO×Pos // e=.Expr t.1 t.2}:=match e with
 |.Expr a0 a1=>-⟨(a0,a1),rfl⟩
 |_=>none
def iR(e:Stmt):Option {t:AE×AO×Pos // e=.Assign t.1 t.2.1 t.2.2}:=match e with
 |.Assign a0 a1 a2=>-⟨(a0,a1,a2),rfl⟩
 |_=>none
def uw(e:Stmt):Option {t:AO×Operator×AO×Pos // e=.AugAssign t.1 t.2.1 t.2.2.1 t.2.2.2}:=match e with
 |.AugAssign a0 a1 a2 a3=>-⟨(a0,a1,a2,a3),rfl⟩
 |_=>none
def amr(e:Stmt):Option {t:Option AO×Option AO×Pos // e=.Raise t.1 t.2.1 t.2.2}:=match e with
 |.Raise a0 a1 a2=>-⟨(a0,a1,a2),rfl⟩
 |_=>none
def ams(e:Stmt):Option {t:AF×List ExceptHandler×AF×AF×Pos // e=.Try t.1 t.2.1 t.2.2.1 t.2.2.2.1 t.2.2.2.2}:=match e with
 |.Try a0 a1 a2 a3 a4=>-⟨(a0,a1,a2,a3,a4),rfl⟩
 |_=>none
def amt(e:ExceptHandler):Option {t:Option AO×Option Str×AF×Pos // e=.ExceptHandler t.1 t.2.1 t.2.2.1 t.2.2.2}:=match e with
 |.ExceptHandler a0 a1 a2 a3=>-⟨(a0,a1,a2,a3),rfl⟩
def zy(e:AO):Option {t:AO×Int×Option AO×Pos // e=.FormattedValue t.1 t.2.1 t.2.2.1 t.2.2.2}:=match e with
 |.FormattedValue a0 a1 a2 a3=>-⟨(a0,a1,a2,a3),rfl⟩
 |_=>none
def aaC(e:AO):Option {t:AE×Pos // e=.JoinedStr t.1 t.2}:=match e with
 |.JoinedStr a0 a1=>-⟨(a0,a1),rfl⟩
 |_=>none
def aaD(k:Const):Option {x:Str // k=.str x}:=match k with
 |.str x=>-⟨x,rfl⟩
 |_=>none
def amu(b:Bool)(k:Const):Bool:=match k with
 |.bool c=>c==b
 |_=>false
def ux(e:Stmt):Option {t:Option AO×Pos // e=.Return t.1 t.2}:=match e with
 |.Return a0 a1=>-⟨(a0,a1),rfl⟩
 |_=>none
def Jf(e:Stmt):Option {t:AO×AF×AF×Pos // e=.If t.1 t.2.1 t.2.2.1 t.2.2.2}:=match e with
 |.If a0 a1 a2 a3=>-⟨(a0,a1,a2,a3),rfl⟩
 |_=>none
def Jg(e:Stmt):Option {t:AO×AO×AF×AF×Pos // e=.For t.1 t.2.1 t.2.2.1 t.2.2.2.1 t.2.2.2.2}:=match e with
 |.For a0 a1 a2 a3 a4=>-⟨(a0,a1,a2,a3,a4),rfl⟩
 |_=>none
def Jh(e:Stmt):Option {t:AO×AF×AF×Pos // e=.While t.1 t.2.1 t.2.2.1 t.2.2.2}:=match e with
 |.While a0 a1 a2 a3=>-⟨(a0,a1,a2,a3),rfl⟩
 |_=>none
def Ji(e:Stmt):Option {t:Pos // e=.Pass t}:=match e with
 |.Pass a0=>-⟨a0,rfl⟩
 |_=>none
def Jj(e:Stmt):Option {t:Pos // e=.Break t}:=match e with
 |.Break a0=>-⟨a0,rfl⟩
 |_=>none
def Jl(e:Stmt):Option {t:Pos // e=.Continue t}:=match e with
 |.Continue a0=>-⟨a0,rfl⟩
 |_=>none
def one{g:Type}:List g->Option g
 |[a]=>-a
 |_=>none
def three{g:Type}:List g->Option (g×g×g)
 |[x,y,z]=>-(x,y,z)
 |_=>none
def aaE{g:Type}{l:List g}{v:g×g×g}(h:three l=-v):l=[v.1,v.2.1,v.2.2]:=by
 unfold three at h;split at h
 .cases h;rfl
 .cases h
def two{g:Type}:List g->Option (g×g)
 |[a,b]=>-(a,b)
 |_=>none
def hdT{g:Type}:List g->Option (g×List g)
 |a::r=>-(a,r)
 |[]=>none
def cY{g:Type}{l:List g}{a:g}(h:one l=-a):l=[a]:=by
 cases l with
 |nil=>cases h
 |cons x r=>cases r with
  |nil=>cases h;rfl
  |cons _ _=>cases h
def gZ{g:Type}{l:List g}{a:g×g}(h:two l=-a):l=[a.1,a.2]:=by
 cases l with
 |nil=>cases h
 |cons x r=>cases r with
  |nil=>cases h
  |cons y r=>cases r with
   |nil=>cases h;rfl
   |cons _ _=>cases h
def Jm{g:Type}{l:List g}{a:g×List g}(h:hdT l=-a):l=a.1::a.2:=by
 cases l with
 |nil=>cases h
 |cons x r=>cases h;rfl
def aQ{g:Type}{o:Option g}{p:g->Bool}(h:o.any p):∃t,o=-t/\p t=true:=by
 cases o with
 |none=>cases h
 |some t=>exact⟨t,rfl,h⟩
def zz:UnaryOp->Bool
 |.USub=>true
 |_=>false
def mz:UnaryOp->Bool
 |.Not=>true
 |_=>false
def aaF{o:UnaryOp}(h:zz o):o=.USub:=by cases o<;>first|rfl|cases h
def Jo{o:UnaryOp}(h:mz o):o=.Not:=by cases o<;>first|rfl|cases h
def bN(e:AO):Option (Str×Pos×AE×Pos):=(jW e).bind λt=>(asName t.1.1).bind λn=>match t.1.2.2.1 with |[]=>-(n.1.1,n.1.2,t.1.2.1,t.1.2.2.2)|_::_=>none
def az{g:Type}{q:g->Prop}(o:Option {t:g // q t})(P:g->Bool):Bool:=match o with|some t=>P t.1|none=>false
def aP{g:Type}{q:g->Prop}{o:Option {t:g // q t}}{P:g->Bool}(h:az o P):∃t,q t/\P t=true:=by
 cases o with
 |none=>cases h
 |some t=>exact⟨t.1,t.2,h⟩
def Jp{g q:Type}{o:Option g}{f:g->Option q}{b:q}(h:o.bind f=-b):∃t,o=-t/\f t=-b:=by
 cases o with
 |none=>cases h
 |some t=>exact⟨t,rfl,h⟩
def dW{e:AO}{t:Str×Pos×AE×Pos}(h:bN e=-t):e=.Call (.Name t.1 t.2.1) t.2.2.1 [] t.2.2.2:=by
 let(((f,as,ks,p),g),_,h):=Jp h;let(((x,q),hn),_,h):=Jp h;dsimp only at h hn g;cases ks with
 |nil=>cases h;rw[g,hn]
 |cons _ _=>cases h
def amv (e:AO):Option (Str×Pos×AO×AO×Pos×Pos):=(jW e).bind λt=>(asName t.1.1).bind λn=>(one t.1.2.1).bind λv=>(one t.1.2.2.1).bind λg=>if g.arg=-(⇑"start") then some (n.1.1,n.1.2,v,g.value,g.pos,t.1.2.2.2) else none
def mC(e:AO):Bool:=(my e).isSome
def Jq:Ex->Bool
 |.frz _=>false
 |_=>true
def zA:Tx->Bool
 |.yes=>true
 |_=>false
mutual
def cZ(c:CT):Tg->AO->Bool
 |.nm i,e=>az (asName e) λt=>(c.N[i]?==-t.1)&&c.sto t.1
 |.tp ts,e=>az (d8 e) λt=>cT c ts t.1
def cT(c:CT):Tgs->AE->Bool
 |.nil,es=>es.isEmpty
 |.cons t r,es=>match es with
  |e::es=>cZ c t e&&cT c r es
  |[]=>false
end
def Jr(e:AO):Bool:=az (zx e) λt=>az (aaD t.1) λx=>decide (x⁻¹<=1000)
def unF(e:AO):AO:=match zy e with|some t=>t.1.1|none=>e
def aaG:Ex->Bool
 |.cst (.str _)=>true
 |_=>false
def aaH:Exs->AE->Bool
 |.cons x xs,p::ps=>(match zy p with|some t=>decide (t.1.2.1=Neg.neg 1)&&t.1.2.2.1.isNone|none=>aaG x)&&aaH xs ps
 |.nil,ps=>ps.isEmpty
 |_,[]=>false
mutual
def aa(c:CT):Ex->AO->Bool
 |.var i,e=>az (asName e) λt=>(c.N[i]?==-t.1)&&iJ (c.kd.lookup t.1)&&okN t.1
 |.cst d,e=>az (zx e) λt=>uq d t.1
 |.glb x d,e=>az (asName e) λt=>t.1==⇑x&&c.glo t.1&&c.cn.any (λp=>p.1==x&&sEq p.2 d)
 |.bin op _ a b,e=>az (IW e) λt=>t.2.1==op&&aa c a t.1&&aa c b t.2.2.1
 |.neg a,e=>az (jV e) λt=>zz t.1&&aa c a t.2.1
 |.cmp op a b,e=>az (my e) λt=>(one t.2.1).any λo=>(one t.2.2.1).any λr=>o==op&&aa c a t.1&&aa c b r
 |.chn op op' a b d,e=>az (my e) λt=>(two t.2.1).any λo=>(two t.2.2.1).any λr=>o.1==op&&o.2==op'&&aa c a t.1&&aa c b r.1&&aa c d r.2
 |.not a,e=>az (jV e) λt=>mz t.1&&aa c a t.2.1
 |.boo isAnd x es,e=>az (ut e) λt=>(hdT t.2.1).any λv=>t.1==(if isAnd then .And else .Or)&&aa c x v.1&&aO c es v.2
 |.ife t a b,e=>az (Ja e) λu=>bO c t u.1&&aa c a u.2.1&&aa c b u.2.2.1
 |.tup es,e=>az (d8 e) λt=>aO c es t.1
 |.lst _ es,e=>az (asList e) λt=>aO c es t.1
 |.idx a i,e=>az (d9 e) λt=>aa c a t.1&&aa c i t.2.1
 |.slc _ a lo hi,e=>az (d9 e) λt=>az (Jb t.2.1) λs=>s.2.2.1.isNone&&(aa c a t.1&&gF c lo s.1&&gF c hi s.2.1)
 |.call f es,e=>(bN e).any λt=>t.1==⇑f&&c.glo t.1&&(c.fs.any λp=>p.1==f&&p.2==t.2.2.1⁻¹)&&!t.2.2.1.isEmpty&&aO c es t.2.2.1
 |.bcl f es,e=>(bN e).any λt=>t.1==⇑f.name&&zm f&&c.glo t.1&&c.bt.contains f.name&&!t.2.2.1.isEmpty&&aO c es t.2.2.1
 |.lcl _ f es,e=>(bN e).any λt=>t.1==⇑f.name&&zu f&&c.glo t.1&&c.bt.contains f.name&&!t.2.2.1.isEmpty&&aO c es t.2.2.1
 |.isi a t,e=>(bN e).any λu=>(two u.2.2.1).any λv=>az (asName v.2) λy=>u.1==⇑"isinstance"&&c.glo u.1&&c.bt.contains "isinstance"&&aa c a v.1&&y.1==⇑t&&c.glo y.1&&c.bt.contains t&&gA t
 |.rgl _ a,e=>(bN e).any λt=>(one t.2.2.1).any λe1=>(bN e1).any λu=>(one u.2.2.1).any λe2=>t.1==⇑"list"&&c.glo t.1&&c.bt.contains "list"&&u.1==⇑"range"&&c.glo u.1&&c.bt.contains "range"&&aa c a e2
 |.rgt a,e=>(bN e).any λt=>(one t.2.2.1).any λe1=>(bN e1).any λu=>(one u.2.2.1).any λe2=>t.1==⇑"tuple"&&c.glo t.1&&c.bt.contains "tuple"&&u.1==⇑"range"&&c.glo u.1&&c.bt.contains "range"&&aa c a e2
 |.fld C f o,e=>az (iQ e) λv=>v.2.1==⇑f&&!iK v.1&&c.ot.fl.contains (C,f)&&aa c o v.1
 |.mcl f C m o es,e=>az (jW e) λt=>az (iQ t.1) λv=>t.2.2.1.isEmpty&&(ur v.1&&(v.2.1==⇑m&&(v.2.2.endLine==t.2.2.2.line)&&decide (t.2.1⁻¹<29)&&c.ot.ms.contains (f,C,m,t.2.1⁻¹+1)&&aa c o v.1&&aO c es t.2.1))
 |.mko C es,e=>(bN e).any λt=>t.1==⇑C&&c.glo t.1&&c.ot.ks.contains (C,t.2.2.1⁻¹)&&!t.2.2.1.isEmpty&&aO c es t.2.2.1
 |.mth m o es,e=>az (jW e) λt=>az (iQ t.1) λv=>t.2.2.1.isEmpty&&(v.2.1==⇑m.name&&aa c o v.1&&!iK v.1&&(v.2.2.endLine==t.2.2.2.line)&&decide (t.2.1⁻¹<29)&&!t.2.1.isEmpty&&aO c es t.2.1)
 |.comp _ elt tg it cond N cap,e=>az (Jc e) λt=>(one t.2.1).any λg=>decide (g.is_async=0)&&cM c it g.target g.iter&&gY c.N t.2.2.1 (N.map Str.ofString) cap&&jU c t.2.2.1&&fQ (N.map Str.ofString) &&
    cZ (c.comp (N.map Str.ofString) t.2.2.1) tg g.target&&((zA cond&&g.ifs.isEmpty)||(one g.ifs).any λf=>bO (c.comp (N.map Str.ofString) t.2.2.1) cond f)&&aa (c.comp (N.map Str.ofString) t.2.2.1) elt t.1
 |.frz a,e=>aa c a e
 |.dnw,e=>az (uv e) λt=>t.1.isEmpty&&t.2.1.isEmpty
 |.dp1 a b,e=>az (uv e) λt=>(one t.1).any λk=>k.any λk=>(one t.2.1).any λv=>aa c a k&&aa c b v
def bO(c:CT):Tx->AO->Bool
 |.val x,e=>(iM e||mC e)&&aa c x e&&Jq x
 |.not t,e=>az (jV e) λu=>mz u.1&&bO c t u.2.1
 |.boo isAnd t ts,e=>az (ut e) λu=>(hdT u.2.1).any λv=>u.1==(if isAnd then .And else .Or)&&bO c t v.1&&iT c ts v.2
 |.yes,_=>false
def iT(c:CT):Txs->AE->Bool
 |.nil,es=>es.isEmpty
 |.cons t r,es=>match es with
  |e::es=>bO c t e&&iT c r es
  |[]=>false
def aO(c:CT):Exs->AE->Bool
 |.nil,es=>es.isEmpty
 |.cons t r,es=>match es with
  |e::es=>aa c t e&&aO c r es
  |[]=>false
def gF(c:CT):Ox->Option AO->Bool
 |.no,e=>e.isNone
 |.ob x,e=>match e with
  |some e=>aa c x e
  |none=>false
def cM(c:CT):It'->AO->AO->Bool
 |.seq x,_,e=>aa c x e
 |.rng a,_,e=>(bN e).any λt=>(one t.2.2.1).any λv=>t.1==⇑"range"&&c.glo t.1&&c.bt.contains "range"&&aa c a v
 |.dwn a b d,_,e=>(bN e).any λt=>(three t.2.2.1).any λv=>t.1==⇑"range"&&c.glo t.1&&c.bt.contains "range"&&aa c a v.1&&aa c b v.2.1&&aa c d v.2.2
 |.enm a,tg,e=>az (d8 tg) λz=>(bN e).any λt=>(one t.2.2.1).any λv=>t.1==⇑"enumerate"&&c.glo t.1&&c.bt.contains "enumerate"&&aa c a v
 |.zip a b,tg,e=>az (d8 tg) λz=>(bN e).any λt=>(two t.2.2.1).any λv=>t.1==⇑"zip"&&c.glo t.1&&c.bt.contains "zip"&&aa c a v.1&&aa c b v.2
end
def mD(c:CT)(g:Tx)(q:AE):Bool:=(zA g&&q.isEmpty)||(one q).any λf=>bO c g f
def Js:Ex->Bool
 |.comp ..=>true
 |_=>false
def Jt:AO->Bool
 |.Tuple ..=>true
 |_=>false
def zB(g:Tg)(x:Ex)(e:AO):Bool:=match g with |.nm _=>!dj e||Js x |.tp _=>!Jt e&&!dj e
def zE(c:CT):Exs->AE->Bool
 |es,[]=>(match es with |.nil=>true|_=>false)
 |es,p::ps=>match Jr p with
  |true=>zE c es ps
  |false=>(match es with |.cons x r=>(az (zy p) λt=>decide (t.2.1=Neg.neg 1)&&t.2.2.1.isNone&&aa c x t.1)&&zE c r ps |.nil=>false)
def amw(c:CT)(es:Exs)(e:AO):Bool:=(match es with |.nil=>Jr e|_=>false)||az (aaC e) λt=>decide (2<=t.1⁻¹)&&decide (t.1⁻¹<=50)&&zE c es t.1
mutual
def bw(c:CT):Sx->Stmt->Bool
 |.exp x,st=>az (Jd st) λt=>!dj t.1&&aa c x t.1
 |.asg g x,st=>az (iR st) λt=>(one t.1).any λtg=>cZ c g tg&&aa c x t.2.1&&zB g x t.2.1
 |.sw2 o i o2 i2 x,st=>az (iR st) λt=>(one t.1).any λtg=>az (d8 tg) λu=>(two u.1).any λw=>az (d9 w.1) λs1=>az (d9 w.2) λs2=>az (d8 t.2.1) λz=>(two z.1).any λv=>aa c o s1.1&&aa c i s1.2.1&&aa c o2 s2.1&&aa c i2 s2.2.1&&aa c x t.2.1
 |.set o i x,st=>az (iR st) λt=>(one t.1).any λtg=>az (d9 tg) λu=>aa c o u.1&&aa c i u.2.1&&aa c x t.2.1&&!dj t.2.1
 |.aug i op x,st=>az (uw st) λt=>az (asName t.1) λy=>t.2.1==op&&(c.N[i]?==-y.1)&&c.sto y.1&&okN y.1&&aa c x t.2.2.1
 |.augs o i op x,st=>az (uw st) λt=>az (d9 t.1) λu=>t.2.1==op&&aa c o u.1&&aa c i u.2.1&&aa c x t.2.2.1
 |.ret x,st=>az (ux st) λt=>t.1.any λe=>aa c x e
 |.rtn,st=>az (ux st) λt=>t.1.isNone
 |.ite t a b,st=>az (Jf st) λu=>bO c t u.1&&aF c a u.2.1&&aF c b u.2.2.1
 |.for_ g it b,st=>az (Jg st) λt=>t.2.2.2.1.isEmpty&&(cZ c g t.1&&cM c it t.1 t.2.1&&aF c b t.2.2.1)
 |.whl t b,st=>az (Jh st) λu=>u.2.2.1.isEmpty&&(bO c t u.1&&aF c b u.2.1)
 |.pas,st=>(Ji st).isSome
 |.brk,st=>(Jj st).isSome
 |.cnt,st=>(Jl st).isSome
 |.nev,_=>true
def aF(c:CT):Sxs->AF->Bool
 |.nil,es=>es.isEmpty
 |.cons t r,es=>match es with
  |e::es=>bw c t e&&aF c r es
  |[]=>false
end
def zF{c:CT}{i:Nat}{e:AO}(h:cZ c (.nm i) e):∃x p,e=.Name x p/\((c.N[i]?==-x)&&c.sto x)=true:=by have h:(az (asName e) λt=>(c.N[i]?==-t.1)&&c.sto t.1)=true:=h;let(t,ht,h):=aP h;exact⟨_,_,ht,h⟩
def zG{c:CT}{ts:Tgs}{e:AO}(h:cZ c (.tp ts) e):∃es k p,e=.Tuple es k p/\(cT c ts es)=true:=by have h:(az (d8 e) λt=>cT c ts t.1)=true:=h;let(t,ht,h):=aP h;exact⟨_,_,_,ht,h⟩
def Ju{c:CT}{i:Nat}{e:AO}(h:aa c (.var i) e):∃x p,e=.Name x p/\((c.N[i]?==-x)&&iJ (c.kd.lookup x)&&okN x)=true:=by have h:(az (asName e) λt=>(c.N[i]?==-t.1)&&iJ (c.kd.lookup t.1)&&okN t.1)=true:=h;let(t,ht,h):=aP h;exact⟨_,_,ht,h⟩
def Jv{c:CT}{d:D}{e:AO}(h:aa c (.cst d) e):∃k n p,e=.Constant k n p/\(uq d k)=true:=by have h:(az (zx e) λt=>uq d t.1)=true:=h;let(t,ht,h):=aP h;exact⟨_,_,_,ht,h⟩
def Jw{c:CT}{x:AL}{d:D}{e:AO}(h:aa c (.glb x d) e):∃y p,e=.Name y p/\(y==⇑x&&c.glo y&&c.cn.any (λp=>p.1==x&&sEq p.2 d))=true:=by have h:(az (asName e) λt=>t.1==⇑x&&c.glo t.1&&c.cn.any (λp=>p.1==x&&sEq p.2 d))=true:=h;let(t,ht,h):=aP h;exact⟨_,_,ht,h⟩
def Jx{c:CT}{op:Operator}{fz:Bool}{a b:Ex}{e:AO}(h:aa c (.bin op fz a b) e):∃l o r p,e=.BinOp l o r p/\(o==op&&aa c a l&&aa c b r)=true:=by have h:(az (IW e) λt=>t.2.1==op&&aa c a t.1&&aa c b t.2.2.1)=true:=h;let(t,ht,h):=aP h;exact⟨_,_,_,_,ht,h⟩
def Jy{c:CT}{a:Ex}{e:AO}(h:aa c (.neg a) e):∃x p,e=.UnaryOp .USub x p/\(aa c a x)=true:=by have h:(az (jV e) λt=>zz t.1&&aa c a t.2.1)=true:=h;let(t,ht,h):=aP h;rw[af]at h;exact⟨_,_,by rw[ht,aaF h.1],h.2⟩
def JB{c:CT}{a:Ex}{e:AO}(h:aa c (.not a) e):∃x p,e=.UnaryOp .Not x p/\(aa c a x)=true:=by have h:(az (jV e) λt=>mz t.1&&aa c a t.2.1)=true:=h;let(t,ht,h):=aP h;rw[af]at h;exact⟨_,_,by rw[ht,Jo h.1],h.2⟩
def JC{c:CT}{op:CmpOp}{a b:Ex}{e:AO}(h:aa c (.cmp op a b) e):∃l o r p,e=.Compare l [o] [r] p/\(o==op&&aa c a l&&aa c b r)=true:=by have h:(az (my e) λt=>(one t.2.1).any λo=>(one t.2.2.1).any λr=>o==op&&aa c a t.1&&aa c b r)=true:=h;let(t,ht,h):=aP h;let(o,g,h):=aQ h;let(r,q,h):=aQ h;exact⟨_,_,_,_,by rw[ht,cY g,cY q],h⟩
def JD{c:CT}{op g:CmpOp}{a b d:Ex}{e:AO}(h:aa c (.chn op g a b d) e):∃l o o' m r p,e=.Compare l [o,o'] [m,r] p/\(o==op&&o'==g&&aa c a l&&aa c b m&&aa c d r)=true:=by have h:(az (my e) λt=>(two t.2.1).any λo=>(two t.2.2.1).any λr=>o.1==op&&o.2==g&&aa c a t.1&&aa c b r.1&&aa c d r.2)=true:=h;let(t,ht,h):=aP h;let(o,q,h):=aQ h;let(r,z,h):=aQ h;exact⟨_,_,_,_,_,_,by rw[ht,gZ q,gZ z],h⟩
def JF{c:CT}{isAnd:Bool}{x:Ex}{es:Exs}{e:AO}(h:aa c (.boo isAnd x es) e):∃op v vs p,e=.BoolOp op (v::vs) p/\(op==(if isAnd then .And else .Or)&&aa c x v&&aO c es vs)=true:=by have h:(az (ut e) λt=>(hdT t.2.1).any λv=>t.1==(if isAnd then .And else .Or)&&aa c x v.1&&aO c es v.2)=true:=h;let(t,ht,h):=aP h;let(v,g,h):=aQ h;exact⟨_,_,_,_,by rw[ht,Jm g],h⟩
def JG{c:CT}{t:Tx}{a b:Ex}{e:AO}(h:aa c (.ife t a b) e):∃t' g q p,e=.IfExp t' g q p/\(bO c t t'&&aa c a g&&aa c b q)=true:=by have h:(az (Ja e) λu=>bO c t u.1&&aa c a u.2.1&&aa c b u.2.2.1)=true:=h;let(u,ht,h):=aP h;exact⟨_,_,_,_,ht,h⟩
def JH{c:CT}{es:Exs}{e:AO}(h:aa c (.tup es) e):∃vs k p,e=.Tuple vs k p/\(aO c es vs)=true:=by have h:(az (d8 e) λt=>aO c es t.1)=true:=h;let(t,ht,h):=aP h;exact⟨_,_,_,ht,h⟩
def JK{c:CT}{fz:Bool}{es:Exs}{e:AO}(h:aa c (.lst fz es) e):∃vs p,e=.List vs p/\(aO c es vs)=true:=by have h:(az (asList e) λt=>aO c es t.1)=true:=h;let(t,ht,h):=aP h;exact⟨_,_,ht,h⟩
def JL{c:CT}{a i:Ex}{e:AO}(h:aa c (.idx a i) e):∃v s p,e=.Subscript v s p/\(aa c a v&&aa c i s)=true:=by have h:(az (d9 e) λt=>aa c a t.1&&aa c i t.2.1)=true:=h;let(t,ht,h):=aP h;exact⟨_,_,_,ht,h⟩
def JM{c:CT}{e:AO}(h:aa c .dnw e):∃p,e=.Dict [] [] p:=by have h:(az (uv e) λt=>t.1.isEmpty&&t.2.1.isEmpty)=true:=h;let(t,ht,h):=aP h;rw[af,e9,e9]at h;exact⟨t.2.2,by rw[ht,h.1,h.2]⟩
def JN{c:CT}{a b:Ex}{e:AO}(h:aa c (.dp1 a b) e):∃k v p,e=.Dict [-k] [v] p/\(aa c a k&&aa c b v)=true:=by have h:(az (uv e) λt=>(one t.1).any λk=>k.any λk=>(one t.2.1).any λv=>aa c a k&&aa c b v)=true:=h;let(t,ht,h):=aP h;let(k,q,h):=aQ h;let(k',g,h):=aQ h;let(v,z,h):=aQ h;exact⟨k',v,t.2.2,by rw[ht,cY q,cY z,g],h⟩
def JP{c:CT}{fz:Bool}{a:Ex}{lo hi:Ox}{e:AO}(h:aa c (.slc fz a lo hi) e):∃v l u g p,e=.Subscript v (.Slice l u none g) p/\(aa c a v&&gF c lo l&&gF c hi u)=true:=by have h:(az (d9 e) λt=>az (Jb t.2.1) λs=>s.2.2.1.isNone&&(aa c a t.1&&gF c lo s.1&&gF c hi s.2.1))=true:=h;let(t,ht,h):=aP h;let(s,hs,h):=aP h;rw[af,Option.isNone_iff_eq_none]at h;exact⟨_,_,_,_,_,by rw[ht,hs,h.1],h.2⟩
def JQ{c:CT}{f:AL}{es:Exs}{e:AO}(h:aa c (.call f es) e):∃x p args pos,e=.Call (.Name x p) args [] pos/\(x==⇑f&&c.glo x&&(c.fs.any λp=>p.1==f&&p.2==args⁻¹)&&!args.isEmpty&&aO c es args)=true:=by have h:((bN e).any λt=>t.1==⇑f&&c.glo t.1&&(c.fs.any λp=>p.1==f&&p.2==t.2.2.1⁻¹)&&!t.2.2.1.isEmpty&&aO c es t.2.2.1)=true:=h;let(t,ht,h):=aQ h;exact⟨_,_,_,_,dW ht,h⟩
def JR{c:CT}{f:Bf}{es:Exs}{e:AO}(h:aa c (.bcl f es) e):∃x p args pos,e=.Call (.Name x p) args [] pos/\(x==⇑f.name&&zm f&&c.glo x&&c.bt.contains f.name&&!args.isEmpty&&aO c es args)=true:=by have h:((bN e).any λt=>t.1==⇑f.name&&zm f&&c.glo t.1&&c.bt.contains f.name&&!t.2.2.1.isEmpty&&aO c es t.2.2.1)=true:=h;let(t,ht,h):=aQ h;exact⟨_,_,_,_,dW ht,h⟩
def JS{c:CT}{fz:Bool}{f:Lf}{es:Exs}{e:AO}(h:aa c (.lcl fz f es) e):∃x p args pos,e=.Call (.Name x p) args [] pos/\(x==⇑f.name&&zu f&&c.glo x&&c.bt.contains f.name&&!args.isEmpty&&aO c es args)=true:=by have h:((bN e).any λt=>t.1==⇑f.name&&zu f&&c.glo t.1&&c.bt.contains f.name&&!t.2.2.1.isEmpty&&aO c es t.2.2.1)=true:=h;let(t,ht,h):=aQ h;exact⟨_,_,_,_,dW ht,h⟩
def JT {c:CT} {a:Ex} {t:AL} {e:AO} (h:aa c (.isi a t) e):∃x p v y I pos,e=.Call (.Name x p) [v,.Name y I] [] pos/\(x==⇑"isinstance"&&c.glo x&&c.bt.contains "isinstance"&&aa c a v&&y==⇑t&&c.glo y&&c.bt.contains t&&gA t)=true:=by have h:((bN e).any λu=>(two u.2.2.1).any λv=>az (asName v.2) λy=>u.1==⇑"isinstance"&&c.glo u.1&&c.bt.contains "isinstance"&&aa c a v.1&&y.1==⇑t&&c.glo y.1&&c.bt.contains t&&gA t)=true:=h;let(u,g,h):=aQ h;let(v,q,h):=aQ h;let(y,z,h):=aP h;exact⟨_,_,_,_,_,_,by rw[dW g,gZ q,z],h⟩
def JV {c:CT} {fz:Bool} {a:Ex} {e:AO} (h:aa c (.rgl fz a) e):∃x p I N g pos' pos,e=.Call (.Name x p) [.Call (.Name I N) [g] [] pos'] [] pos/\(x==⇑"list"&&c.glo x&&c.bt.contains "list"&&I==⇑"range"&&c.glo I&&c.bt.contains "range"&&aa c a g)=true:=by have h:((bN e).any λt=>(one t.2.2.1).any λJ=>(bN J).any λu=>(one u.2.2.1).any λg=>t.1==⇑"list"&&c.glo t.1&&c.bt.contains "list"&&u.1==⇑"range"&&c.glo u.1&&c.bt.contains "range"&&aa c a g)=true:=h;let(t,ht,h):=aQ h;let(J,q,h):=aQ h;let(u,L,h):=aQ h;let(g,z,h):=aQ h;exact⟨_,_,_,_,_,_,_,by rw[dW ht,cY q,dW L,cY z],h⟩
def JW {c:CT} {a:Ex} {e:AO} (h:aa c (.rgt a) e):∃x p I N g pos' pos,e=.Call (.Name x p) [.Call (.Name I N) [g] [] pos'] [] pos/\(x==⇑"tuple"&&c.glo x&&c.bt.contains "tuple"&&I==⇑"range"&&c.glo I&&c.bt.contains "range"&&aa c a g)=true:=by have h:((bN e).any λt=>(one t.2.2.1).any λJ=>(bN J).any λu=>(one u.2.2.1).any λg=>t.1==⇑"tuple"&&c.glo t.1&&c.bt.contains "tuple"&&u.1==⇑"range"&&c.glo u.1&&c.bt.contains "range"&&aa c a g)=true:=h;let(t,ht,h):=aQ h;let(J,q,h):=aQ h;let(u,L,h):=aQ h;let(g,z,h):=aQ h;exact⟨_,_,_,_,_,_,_,by rw[dW ht,cY q,dW L,cY z],h⟩
def JX{c:CT}{C f:AL}{o:Ex}{e:AO}(h:aa c (.fld C f o) e):∃v n p,e=.Attribute v n p/\(n==⇑f&&!iK v&&c.ot.fl.contains (C,f)&&aa c o v)=true:=by have h:(az (iQ e) λv=>v.2.1==⇑f&&!iK v.1&&c.ot.fl.contains (C,f)&&aa c o v.1)=true:=h;let(v,g,h):=aP h;exact⟨_,_,_,g,h⟩
def JZ{c:CT}{f C m:AL}{o:Ex}{es:Exs}{e:AO}(h:aa c (.mcl f C m o es) e):∃v n apos args cpos,e=.Call (.Attribute v n apos) args [] cpos/\ur v=true/\(n==⇑m&&(apos.endLine==cpos.line)&&decide (args⁻¹<29)&&c.ot.ms.contains (f,C,m,args⁻¹+1)&&aa c o v&&aO c es args)=true:=by have h:(az (jW e) λt=>az (iQ t.1) λv=>t.2.2.1.isEmpty&&(ur v.1&&(v.2.1==⇑m&&(v.2.2.endLine==t.2.2.2.line)&&decide (t.2.1⁻¹<29)&&c.ot.ms.contains (f,C,m,t.2.1⁻¹+1)&&aa c o v.1&&aO c es t.2.1)))=true:=h;let(t,ht,h):=aP h;let(v,g,h):=aP h;rw[af,e9,af]at h;exact⟨_,_,_,_,_,by rw[ht,g,h.1],h.2.1,h.2.2⟩
def J0{c:CT}{C:AL}{es:Exs}{e:AO}(h:aa c (.mko C es) e):∃x p args pos,e=.Call (.Name x p) args [] pos/\(x==⇑C&&c.glo x&&c.ot.ks.contains (C,args⁻¹)&&!args.isEmpty&&aO c es args)=true:=by have h:((bN e).any λt=>t.1==⇑C&&c.glo t.1&&c.ot.ks.contains (C,t.2.2.1⁻¹)&&!t.2.2.1.isEmpty&&aO c es t.2.2.1)=true:=h;let(t,ht,h):=aQ h;exact⟨_,_,_,_,dW ht,h⟩
def J1{c:CT}{m:Mf}{o:Ex}{es:Exs}{e:AO}(h:aa c (.mth m o es) e):∃v x apos args cpos,e=.Call (.Attribute v x apos) args [] cpos/\(x==⇑m.name&&aa c o v&&!iK v&&(apos.endLine==cpos.line)&&decide (args⁻¹<29)&&!args.isEmpty&&aO c es args)=true:=by have h:(az (jW e) λt=>az (iQ t.1) λv=>t.2.2.1.isEmpty&&(v.2.1==⇑m.name&&aa c o v.1&&!iK v.1&&(v.2.2.endLine==t.2.2.2.line)&&decide (t.2.1⁻¹<29)&&!t.2.1.isEmpty&&aO c es t.2.1))=true:=h;let(t,ht,h):=aP h;let(v,g,h):=aP h;rw[af,e9]at h;exact⟨_,_,_,_,_,by rw[ht,g,h.1],h.2⟩
def J2{c:CT}{fz:Bool}{L:Ex}{tg:Tg}{it:It'}{q:Tx}{N:List AL}{cap:List (Option Nat)}{e:AO}(h:aa c (.comp fz L tg it q N cap) e):∃J z iter I as scope pos,e=.ListComp J [⟨z,iter,I,as⟩] scope pos/\(decide (as=0)&&cM c it z iter&&gY c.N scope (N.map Str.ofString) cap&&jU c scope&&fQ (N.map Str.ofString)&&cZ (c.comp (N.map Str.ofString) scope) tg z&&mD (c.comp (N.map Str.ofString) scope) q I&&aa (c.comp (N.map Str.ofString) scope) L J)=true:=by have h:(az (Jc e) λt=>(one t.2.1).any λg=>decide (g.is_async=0)&&cM c it g.target g.iter&&gY c.N t.2.2.1 (N.map Str.ofString) cap&&jU c t.2.2.1&&fQ (N.map Str.ofString)&&cZ (c.comp (N.map Str.ofString) t.2.2.1) tg g.target&&((zA q&&g.ifs.isEmpty)||(one g.ifs).any λf=>bO (c.comp (N.map Str.ofString) t.2.2.1) q f)&&aa (c.comp (N.map Str.ofString) t.2.2.1) L t.1)=true:=h;let(t,ht,h):=aP h;let((z,iter,I,as),O,h):=aQ h;exact⟨t.1,z,iter,I,as,t.2.2.1,t.2.2.2,(ht).trans (by rw[cY O]),h⟩
def aaI{c:CT}{t:Tx}{e:AO}(h:bO c (.not t) e):∃x p,e=.UnaryOp .Not x p/\(bO c t x)=true:=by have h:(az (jV e) λu=>mz u.1&&bO c t u.2.1)=true:=h;let(u,ht,h):=aP h;rw[af]at h;exact⟨_,_,by rw[ht,Jo h.1],h.2⟩
def aaJ{c:CT}{isAnd:Bool}{x:Tx}{es:Txs}{e:AO}(h:bO c (.boo isAnd x es) e):∃op v vs p,e=.BoolOp op (v::vs) p/\(op==(if isAnd then .And else .Or)&&bO c x v&&iT c es vs)=true:=by have h:(az (ut e) λu=>(hdT u.2.1).any λv=>u.1==(if isAnd then .And else .Or)&&bO c x v.1&&iT c es v.2)=true:=h;let(t,ht,h):=aP h;let(v,g,h):=aQ h;exact⟨_,_,_,_,by rw[ht,Jm g],h⟩
def J3 {c:CT} {a:Ex} {tg e:AO} (h:cM c (.rng a) tg e):∃x p v pos,e=.Call (.Name x p) [v] [] pos/\(x==⇑"range"&&c.glo x&&c.bt.contains "range"&&aa c a v)=true:=by have h:((bN e).any λt=>(one t.2.2.1).any λv=>t.1==⇑"range"&&c.glo t.1&&c.bt.contains "range"&&aa c a v)=true:=h;let(t,ht,h):=aQ h;let(v,g,h):=aQ h;exact⟨_,_,_,_,by rw[dW ht,cY g],h⟩
def J4 {c:CT} {a b d:Ex} {tg e:AO} (h:cM c (.dwn a b d) tg e):∃x p v q g pos,e=.Call (.Name x p) [v,q,g] [] pos/\(x==⇑"range"&&c.glo x&&c.bt.contains "range"&&aa c a v&&aa c b q&&aa c d g)=true:=by have h:((bN e).any λt=>(three t.2.2.1).any λv=>t.1==⇑"range"&&c.glo t.1&&c.bt.contains "range"&&aa c a v.1&&aa c b v.2.1&&aa c d v.2.2)=true:=h;let(t,ht,h):=aQ h;let(v,z,h):=aQ h;exact⟨_,_,_,_,_,_,by rw[dW ht,aaE z],h⟩
def J5 {c:CT} {a:Ex} {tg e:AO} (h:cM c (.enm a) tg e):∃ts k p0 x p v pos,tg=.Tuple ts k p0/\e=.Call (.Name x p) [v] [] pos/\(x==⇑"enumerate"&&c.glo x&&c.bt.contains "enumerate"&&aa c a v)=true:=by have h:(az (d8 tg) λy=>(bN e).any λt=>(one t.2.2.1).any λv=>t.1==⇑"enumerate"&&c.glo t.1&&c.bt.contains "enumerate"&&aa c a v)=true:=h;let(g,q,h):=aP h;let(t,ht,h):=aQ h;let(v,z,h):=aQ h;exact⟨_,_,_,_,_,_,_,q,by rw[dW ht,cY z],h⟩
def J6 {c:CT} {a b:Ex} {tg e:AO} (h:cM c (.zip a b) tg e):∃ts k p0 x p v q pos,tg=.Tuple ts k p0/\e=.Call (.Name x p) [v,q] [] pos/\(x==⇑"zip"&&c.glo x&&c.bt.contains "zip"&&aa c a v&&aa c b q)=true:=by have h:(az (d8 tg) λy=>(bN e).any λt=>(two t.2.2.1).any λv=>t.1==⇑"zip"&&c.glo t.1&&c.bt.contains "zip"&&aa c a v.1&&aa c b v.2)=true:=h;let(g,z,h):=aP h;let(t,ht,h):=aQ h;let(v,I,h):=aQ h;exact⟨_,_,_,_,_,_,_,_,z,by rw[dW ht,gZ I],h⟩
def aaK{c:CT}{x:Ex}{st:Stmt}(h:bw c (.exp x) st):∃e pos,st=.Expr e pos/\(!dj e&&aa c x e)=true:=by have h:(az (Jd st) λt=>!dj t.1&&aa c x t.1)=true:=h;let(t,ht,h):=aP h;exact⟨_,_,ht,h⟩
def J7{c:CT}{g:Tg}{x:Ex}{st:Stmt}(h:bw c (.asg g x) st):∃tg e pos,st=.Assign [tg] e pos/\(cZ c g tg&&aa c x e&&zB g x e)=true:=by have h:(az (iR st) λt=>(one t.1).any λtg=>cZ c g tg&&aa c x t.2.1&&zB g x t.2.1)=true:=h;let(t,ht,h):=aP h;let(g,q,h):=aQ h;exact⟨_,_,_,by rw[ht,cY q],h⟩
def aaL{c:CT}{o i o2 O x:Ex}{st:Stmt}(h:bw c (.sw2 o i o2 O x) st):∃o' i' p1 J I p2 kk p3 a b k2 p4 pos,st=.Assign [.Tuple [.Subscript o' i' p1,.Subscript J I p2] kk p3] (.Tuple [a,b] k2 p4) pos/\(aa c o o'&&aa c i i'&&aa c o2 J&&aa c O I&&aa c x (.Tuple [a,b] k2 p4))=true:=by have h:(az (iR st) λt=>(one t.1).any λtg=>az (d8 tg) λu=>(two u.1).any λw=>az (d9 w.1) λU=>az (d9 w.2) λY=>az (d8 t.2.1) λz=>(two z.1).any λy=>aa c o U.1&&aa c i U.2.1&&aa c o2 Y.1&&aa c O Y.2.1&&aa c x t.2.1)=true:=h;let(t,ht,h):=aP h;let(g,hg,h):=aQ h;let(u,hu,h):=aP h;let(w,hw,h):=aQ h;let(U,L,h):=aP h;let(Y,N,h):=aP h;let(z,hz,h):=aP h;let(ab,q,h):=aQ h;rw[hz,gZ q]at h;exact⟨_,_,_,_,_,_,_,_,_,_,_,_,_,by rw[ht,cY hg,hu,gZ hw,L,N,hz,gZ q],h⟩
def aaM{c:CT}{o i x:Ex}{st:Stmt}(h:bw c (.set o i x) st):∃o' q tpos e pos,st=.Assign [.Subscript o' q tpos] e pos/\(aa c o o'&&aa c i q&&aa c x e&&!dj e)=true:=by have h:(az (iR st) λt=>(one t.1).any λtg=>az (d9 tg) λu=>aa c o u.1&&aa c i u.2.1&&aa c x t.2.1&&!dj t.2.1)=true:=h;let(t,ht,h):=aP h;let(g,z,h):=aQ h;let(u,I,h):=aP h;exact⟨_,_,_,_,_,by rw[ht,cY z,I],h⟩
def aaN{c:CT}{i:Nat}{op:Operator}{x:Ex}{st:Stmt}(h:bw c (.aug i op x) st):∃y q o e pos,st=.AugAssign (.Name y q) o e pos/\(o==op&&(c.N[i]?==-y)&&c.sto y&&okN y&&aa c x e)=true:=by have h:(az (uw st) λt=>az (asName t.1) λy=>t.2.1==op&&(c.N[i]?==-y.1)&&c.sto y.1&&okN y.1&&aa c x t.2.2.1)=true:=h;let(t,ht,h):=aP h;let(u,g,h):=aP h;exact⟨_,_,_,_,_,by rw[ht,g],h⟩
def aaO{c:CT}{o i:Ex}{op:Operator}{x:Ex}{st:Stmt}(h:bw c (.augs o i op x) st):∃o' g tpos p e pos,st=.AugAssign (.Subscript o' g tpos) p e pos/\(p==op&&aa c o o'&&aa c i g&&aa c x e)=true:=by have h:(az (uw st) λt=>az (d9 t.1) λu=>t.2.1==op&&aa c o u.1&&aa c i u.2.1&&aa c x t.2.2.1)=true:=h;let(t,ht,h):=aP h;let(u,q,h):=aP h;exact⟨_,_,_,_,_,_,by rw[ht,q],h⟩
def aaP{c:CT}{x:Ex}{st:Stmt}(h:bw c (.ret x) st):∃e pos,st=.Return (-e) pos/\(aa c x e)=true:=by have h:(az (ux st) λt=>t.1.any λe=>aa c x e)=true:=h;let(t,ht,h):=aP h;let(e,he,h):=aQ h;exact⟨_,_,by rw[ht,he],h⟩
def aaQ{c:CT}{st:Stmt}(h:bw c .rtn st):∃pos,st=.Return none pos/\(true)=true:=by have h:(az (ux st) λt=>t.1.isNone)=true:=h;let(t,ht,h):=aP h;rw[Option.isNone_iff_eq_none]at h;exact⟨_,by rw[ht,h],rfl⟩
def aaR{c:CT}{t:Tx}{a b:Sxs}{st:Stmt}(h:bw c (.ite t a b) st):∃t' g q pos,st=.If t' g q pos/\(bO c t t'&&aF c a g&&aF c b q)=true:=by have h:(az (Jf st) λu=>bO c t u.1&&aF c a u.2.1&&aF c b u.2.2.1)=true:=h;let(u,ht,h):=aP h;exact⟨_,_,_,_,ht,h⟩
def aaS{c:CT}{g:Tg}{it:It'}{b:Sxs}{st:Stmt}(h:bw c (.for_ g it b) st):∃tg iter body pos,st=.For tg iter body [] pos/\(cZ c g tg&&cM c it tg iter&&aF c b body)=true:=by have h:(az (Jg st) λt=>t.2.2.2.1.isEmpty&&(cZ c g t.1&&cM c it t.1 t.2.1&&aF c b t.2.2.1))=true:=h;let(t,ht,h):=aP h;rw[af,e9]at h;exact⟨_,_,_,_,by rw[ht,h.1],h.2⟩
def aaT{c:CT}{t:Tx}{b:Sxs}{st:Stmt}(h:bw c (.whl t b) st):∃t' body pos,st=.While t' body [] pos/\(bO c t t'&&aF c b body)=true:=by have h:(az (Jh st) λu=>u.2.2.1.isEmpty&&(bO c t u.1&&aF c b u.2.1))=true:=h;let(u,ht,h):=aP h;rw[af,e9]at h;exact⟨_,_,_,by rw[ht,h.1],h.2⟩
def aaU{c:CT}{st:Stmt}(h:bw c .pas st):∃pos,st=.Pass pos/\(true)=true:=by let((t,ht),_):=ce.mp (show(Ji st).isSome=true from h);exact⟨t,ht,rfl⟩
def aaV{c:CT}{st:Stmt}(h:bw c .brk st):∃pos,st=.Break pos/\(true)=true:=by let((t,ht),_):=ce.mp (show(Jj st).isSome=true from h);exact⟨t,ht,rfl⟩
def aaW{c:CT}{st:Stmt}(h:bw c .cnt st):∃pos,st=.Continue pos/\(true)=true:=by let((t,ht),_):=ce.mp (show(Jl st).isSome=true from h);exact⟨t,ht,rfl⟩
def mF:AO->Bool
 |.Starred ..=>false
 |.Set ..=>false
 |.Slice ..=>false
 |_=>true
def bI{c:CT}:∀(x:Ex){e:AO},aa c x e=true->mF e=true
 |.frz a,e,h=>bI a (show aa c a e=true from h)
 |.dnw,e,h=>by let(_,rfl):=JM h;rfl
 |.dp1 _ _,e,h=>by let(_,_,_,rfl,_):=JN h;rfl
 |.var _,e,h=>by let(_,_,rfl,_):=Ju h;rfl
 |.cst _,e,h=>by let(_,_,_,rfl,_):=Jv h;rfl
 |.glb _ _,e,h=>by let(_,_,rfl,_):=Jw h;rfl
 |.bin _ _ _ _,e,h=>by let(_,_,_,_,rfl,_):=Jx h;rfl
 |.neg _,e,h=>by let(_,_,rfl,_):=Jy h;rfl
 |.cmp _ _ _,e,h=>by let(_,_,_,_,rfl,_):=JC h;rfl
 |.chn _ _ _ _ _,e,h=>by let(_,_,_,_,_,_,rfl,_):=JD h;rfl
 |.not _,e,h=>by let(_,_,rfl,_):=JB h;rfl
 |.boo _ _ _,e,h=>by let(_,_,_,_,rfl,_):=JF h;rfl
 |.ife _ _ _,e,h=>by let(_,_,_,_,rfl,_):=JG h;rfl
 |.tup _,e,h=>by let(_,_,_,rfl,_):=JH h;rfl
 |.lst _ _,e,h=>by let(_,_,rfl,_):=JK h;rfl
 |.idx _ _,e,h=>by let(_,_,_,rfl,_):=JL h;rfl
 |.slc _ _ _ _,e,h=>by let(_,_,_,_,_,rfl,_):=JP h;rfl
 |.call _ _,e,h=>by let(_,_,_,_,rfl,_):=JQ h;rfl
 |.bcl _ _,e,h=>by let(_,_,_,_,rfl,_):=JR h;rfl
 |.lcl _ _ _,e,h=>by let(_,_,_,_,rfl,_):=JS h;rfl
 |.isi _ _,e,h=>by let(_,_,_,_,_,_,rfl,_):=JT h;rfl
 |.rgl _ _,e,h=>by let(_,_,_,_,_,_,_,rfl,_):=JV h;rfl
 |.rgt _,e,h=>by let(_,_,_,_,_,_,_,rfl,_):=JW h;rfl
 |.fld _ _ _,e,h=>by let(_,_,_,rfl,_):=JX h;rfl
 |.mcl _ _ _ _ _,e,h=>by let(_,_,_,_,_,rfl,_):=JZ h;rfl
 |.mko _ _,e,h=>by let(_,_,_,_,rfl,_):=J0 h;rfl
 |.mth _ _ _,e,h=>by let(_,_,_,_,_,rfl,_):=J1 h;rfl
 |.comp _ _ _ _ _ _ _,e,h=>by let(_,_,_,_,_,_,_,rfl,_):=J2 h;rfl
def cH{e:AO}(h:mF e):noStar e=true:=by cases e<;>first|rfl|exact nZf h
def J8{e:AO}(h:mF e)(op:CmpOp):behindInMarks op e=false:=by cases e<;>first|rfl|exact nZf h
def aaX{e:AO}(h:mF e)(env:Env)(x:AN):foldedSetIterable e env x=pure x:=by cases e<;>first|rfl|exact nZf h
def aaY{e:AO}(h:mF e):Ff e:=by intro o i;cases e<;>first|rfl|exact nZf h
def aaZ{e:AO}(h:iM e)(env:Env)(whole:Sem AN):isTrue e env whole=(do let v <-whole;standAt e.pos;holding [v] (truthy v)):=by
 cases e with
 |UnaryOp op x p=>cases op<;>first|rfl|exact nZf h
 |_=>first|rfl|exact nZf h
set_option backward.match.sparseCases true
def XV(K:PF)(H:Hp)(F:FZ)(x:Xn)(g:AN)(q:Option AQ):Prop:=
 ∃C,g=.ref C/\PySem.W.nsIn K mainGlobals (⇑x.cls)=-(-(.ref C))/\
  match x.fld with
  |.non=>True
  |d=>∃a f v,q=-a/\H a=-(.xd [(f,v)])/\Rep K H F d v
def XR(K:PF)(H:Hp)(F:FZ)(x:Xn)(EX:XK):Prop:=∀g q,XV K H F x g q->EX g q H
def PX(K:PF)(H:Hp)(F:FZ)(EX:XK):EK:=λx g=>∀H' F',Ext H F H' F'->R K H' F' g->XR K H' F' x EX
def el{J L N:Type}{p q r s:J->L->N->Prop}{C:Prop}(h:∃x y z,p x y z/\q x y z/\r x y z/\s x y z)(k:∀x y z,p x y z->q x y z->r x y z->s x y z->C):C:=by let(x,y,z,h1,h2,g,I):=h;exact k x y z h1 h2 g I
def lift(K:PF)(n:Nat)(S:RF.Spec):Sp:=λvs H Q EX=>vs⁻¹=n/\∃F G ds,R K H F G/\Reps K H F ds vs/\S.t ds G (PV K H F Q) (PX K H F EX)
def CV(K:PF)(mg:AH)(g:AL)(q:V):Prop:=
 (∃a,q=.ref a/\mg (⇑g)=-(.ref a)/\Gp K a=true)\/(g="ValueError"/\q=.ty "ValueError"/\mg (⇑g)=none)
def XI(K:PF)(C g:AL)(q:V):Prop:=
 ∃c,PySem.W.nsIn K mainGlobals (⇑C)=-(-(.ref c))/\wJ K c=true/\PySem.W.mroIn K c (valOf q)=-(gU C g)/\(gU C g=false->(Value.ref c==valOf q)=false)
structure Bs where
 H:Hp
 F:FZ
def zH(K:PF)(C f:AL):Prop:=∃c,PySem.W.nsIn K mainGlobals (⇑C)=-(-(.ref c))/\Cls K c/\NoAttr K c (⇑f)
def MthOk(Z:aj)(P:AK)(w:World)(K:PF)(mg:AH)(base:Heap)(CX:CXT)(k:Nat)(f C m:AL)(n:Nat):Prop:=
 ∃c fa fd ps,PySem.W.nsIn K mainGlobals (⇑C)=-(-(.ref c))/\Cls K c/\Meth K c (⇑m) fa/\Binds K fd ps []/\FnOk P w K mg base CX k fa fd ps (lift K n (Z f))
def MkoOk(Z:aj)(P:AK)(w:World)(K:PF)(mg:AH)(base:Heap)(CX:CXT)(k:Nat)(C:AL)(n:Nat):Prop:=
 ∃c fa fd ps sp j,j+1<=k/\mg (⇑C)=-(.ref c)/\Mk K c fa/\Binds K fd ps []/\FnOk P w K mg base CX j fa fd ps sp/\
  ∀vs H Q E,lift K n (Z C) vs H Q E->∀x dx,H x=none->H dx=none->dx≠x->sp (.ref x::vs) (upd (upd H dx (.own x)) x (.ins c dx [])) (λv H2=>v=.non/\Q (.ref x) H2) E
def aa0(K:PF)(c:AQ)(f:AL):Sp:=λvs H Q y=>∃a b l d F G,vs=[.ref a,b]/\H a=-(.ext (Gy a c l none))/\¬F a/\R K H F G/\Rep K H F d b/\okA d/\
 ∀H2 g dx z ob q,Ext H F H2 g->R K H2 g G->H2 a=-(.ext (Gy a c q none))->H2 dx=none->dx≠a->ob.cls=.ref c->ob.dict=-dx->PySem.W.notCls ob=true->Q .non (upd (upd H2 a (.frz ob (.own a))) dx (.frz z (.xd [(⇑f,b)])))
def aa1(P:AK)(w:World)(K:PF)(mg:AH)(base:Heap)(CX:CXT)(k:Nat)(C f:AL):Prop:=
 ∃c fa fd ps j,j+1<=k/\mg (⇑C)=-(.ref c)/\PySem.W.nsIn K mainGlobals (⇑C)=-(-(.ref c))/\Yk K c fa=true/\PySem.W.typeIn K (.ref fa)=-(.type "function")/\PySem.W.keepIn K (.ref c)=true/\
  (wJ K c=true/\PySem.W.hasDictIn K c=true/\PySem.W.findIn K (.ref c) (⇑f)=-none)/\Binds K fd ps []/\FnOk P w K mg base CX j fa fd ps (aa0 K c f)
def XkoX(P:AK)(w:World)(K:PF)(mg:AH)(base:Heap)(CX:CXT)(k:Nat)(xs:List (AL×Bool))(C f:AL):Prop:=
 aa1 P w K mg base CX k C f/\∀g q,xs.contains (g,false)=true->CV K mg g q->XI K C g q
structure Stat(Z:aj)(CX:CXT)(k:Nat)(c:CT)(E:EK)(B:Bs)(X:Cx):Prop where
 N:X.N=c.N
 nd:X.N.Nodup
 calm:X.calm=true
 own:PassesOwn (model X.prog X.w) X.A X.env X.xe
 kd:X.env.kindOf=λx=>X.env.scope.names.lookup x
 vis:∀x,iJ (c.kd.lookup x)=true->Vis X.env.scope x
 cel:∀x,(c.kd.lookup x=some .cell\/c.kd.lookup x=some .free)->(X.env.kindOf x=some .cell\/X.env.kindOf x=some .free)
 glo:∀x,c.kd.lookup x=some .globalImplicit->Gl X x
 sto:∀x,c.sto x=true->Loc X.env.scope x/\(X.fn x=true\/X.env.scope.names.lookup x=some .local)
 room:Room k X.A
 call:∀f n,(f,n)∈c.fs->∃fa fd ps,FnOk X.prog X.w X.K X.mg X.base CX k fa fd ps (lift X.K n (Z f))/\PySem.W.keepIn X.K (.ref fa)=true/\Binds X.K fd ps []/\X.mg (⇑f)=some (.ref fa)
 blt:∀f,f∈c.bt->X.mg (⇑f)=none
 con:∀x d,(x,d)∈c.cn->∃u v,X.mg (⇑x)=some u/\RelV v u/\∀H F,Rep X.K H F d v
 exc:∃EX,fL CX X EX/\Throws X EX/\∀x G' H' F',E x G'->Ext B.H B.F H' F'->R X.K H' F' G'->XR X.K H' F' x EX
 nox:∀(Y:Cx),fL CX Y λz z z=>False
 xcl:∀C,c.xs.contains (C,true)=true->∃a,X.mg (⇑C)=some (.ref a)/\rZ X.K a=true/\PySem.W.nsIn X.K mainGlobals (⇑C)=some (some (.ref a))
 loc:∀x,c.kd.lookup x=some .local->X.env.scope.names.lookup x=some .local
 xis:∀C',c.xs.contains (C',false)=true->∃cv,CV X.K X.mg C' cv/\∀C,c.xs.contains (C,true)=true->XI X.K C C' cv
 mth:∀f C m n,(f,C,m,n)∈c.ot.ms->MthOk Z X.prog X.w X.K X.mg X.base CX k f C m n
 mko:∀C n,(C,n)∈c.ot.ks->MkoOk Z X.prog X.w X.K X.mg X.base CX k C n
 fld:∀C f,(C,f)∈c.ot.fl->zH X.K C f
 xko:∀C f,(C,f)∈c.ot.xk->XkoX X.prog X.w X.K X.mg X.base CX k c.xs C f
 trc:c.xs≠[]->CX=CX1 X.prog X.w/\X.stack=X.env::X.outer/\X.ex=[]
def tE(K:PF)(B:Bs)(w:ak->DH->(AT)->Prop):TE:=λX H Q=>∃Y F G,Ext B.H B.F H F/\EnvR K H F Y X/\R K H F G/\w Y G (PV K H F Q)
def tB'(K:PF)(B:Bs)(w:ak->DH->(Bool->DH->Prop)->Prop):TT:=λX H Q=>∃Y F G,Ext B.H B.F H F/\EnvR K H F Y X/\R K H F G/\w Y G (PB K H F Q)
def tL(K:PF)(B:Bs)(w:ak->DH->(AS->DH->Prop)->Prop):TA:=λX H Q=>∃Y F G,Ext B.H B.F H F/\EnvR K H F Y X/\R K H F G/\w Y G (PLs K H F Q)
def POp(K:PF)(H:Hp)(F:FZ)(Q:Option Int->Hp->Prop):Option Int->DH->Prop:=λb g=>∀H' F',Ext H F H' F'->R K H' F' g->Q b H'
def J9(K:PF)(B:Bs)(w:ak->DH->(Option Int->DH->Prop)->Prop):TO:=λX H Q=>∃Y F G,Ext B.H B.F H F/\EnvR K H F Y X/\R K H F G/\w Y G (POp K H F Q)
def peI{X:Cx}{e:AO}{t t':TE}(h:PE X e t)(i:∀Y H Q,t' Y H Q->t Y H Q):PE X e t':=λp9 s Y H Q I q=>h p9 s Y H Q I (i Y H Q q)
def ptI{X:Cx}{e:AO}{t t':TT}(h:PT X e t)(i:∀Y H Q,t' Y H Q->t Y H Q):PT X e t':=λp9 s Y H Q I q=>h p9 s Y H Q I (i Y H Q q)
def pwI{X:Cx}{e:AO}{t t':TT}(h:PW X e t)(i:∀Y H Q,t' Y H Q->t Y H Q):PW X e t':=λg p9 s Y H Q I q=>h g p9 s Y H Q I (i Y H Q q)
def paI{X:Cx}{e:AE}{t t':TA}(h:PA X e t)(i:∀Y H Q,t' Y H Q->t Y H Q):PA X e t':=λpos p9 s Y H Q I q=>h pos p9 s Y H Q I (i Y H Q q)
section
variable {Z:aj} {CX:CXT} {k:Nat} {c:CT} {E:EK} {B:Bs} {X:Cx}
def aL{K:PF}{x:Ex}{X:L2.St}{H:Hp}{F:FZ}{G:DH}{Y:ak}{W:AT}{Q:VK}(I:Ext B.H B.F H F)(he:EnvR K H F Y X)(r:R K H F G)(hw:wpE Z x E Y G W)
  (h:∀d G1 H1 g v,W d G1->Ext B.H B.F H1 g->Ext H F H1 g->EnvR K H1 g Y X->R K H1 g G1->Rep K H1 g d v->Q v H1):tE K B (wpE Z x E) X H Q:=
 ⟨Y,F,G,I,he,r,aJ x (λd G1 q H1 g v z J L=>h d G1 H1 g v q (I.trans z) z (he.ext z) J L) hw⟩
def dm{K:PF}{x:Exs}{X:L2.St}{H:Hp}{F:FZ}{G:DH}{Y:ak}{W:AS->DH->Prop}{Q:AR->Hp->Prop}(I:Ext B.H B.F H F)(he:EnvR K H F Y X)(r:R K H F G)(hw:bf Z x E Y G W)
  (h:∀d G1 H1 g v,W d G1->Ext B.H B.F H1 g->Ext H F H1 g->EnvR K H1 g Y X->R K H1 g G1->Reps K H1 g d v->Q v H1):tL K B (bf Z x E) X H Q:=
 ⟨Y,F,G,I,he,r,eY x (λd G1 q H1 g v z J L=>h d G1 H1 g v q (I.trans z) z (he.ext z) J L) hw⟩
def iU{K:PF}{x:Tx}{X:L2.St}{H:Hp}{F:FZ}{G:DH}{Y:ak}{W:Bool->DH->Prop}{Q:Bool->Hp->Prop}(I:Ext B.H B.F H F)(he:EnvR K H F Y X)(r:R K H F G)(hw:wpT Z x E Y G W)
  (h:∀d G1 H1 g,W d G1->Ext B.H B.F H1 g->Ext H F H1 g->EnvR K H1 g Y X->R K H1 g G1->Q d H1):tB' K B (wpT Z x E) X H Q:=
 ⟨Y,F,G,I,he,r,dC x (λd G1 q H1 g z J=>h d G1 H1 g q (I.trans z) z (he.ext z) J) hw⟩
def Ka{K:PF}{x:Ox}{X:L2.St}{H:Hp}{F:FZ}{G:DH}{Y:ak}{W:Option Int->DH->Prop}{Q:Option Int->Hp->Prop}(I:Ext B.H B.F H F)(he:EnvR K H F Y X)(r:R K H F G)(hw:wpO Z x E Y G W)
  (h:∀d G1 H1 g,W d G1->Ext B.H B.F H1 g->Ext H F H1 g->EnvR K H1 g Y X->R K H1 g G1->Q d H1):J9 K B (wpO Z x E) X H Q:=
 ⟨Y,F,G,I,he,r,yU x (λd G1 q H1 g z J=>h d G1 H1 g q (I.trans z) z (he.ext z) J) hw⟩
def PV.later{K:PF}{H H1:Hp}{F g:FZ}{Q:VK}{d:D}{G:DH}(h:PV K H F Q d G)(x:Ext H F H1 g):PV K H1 g Q d G:=λH' F' v q=>h H' F' v (x.trans q)
def PB.later{K:PF}{H H1:Hp}{F g:FZ}{Q:Bool->Hp->Prop}{d:Bool}{G:DH}(h:PB K H F Q d G)(x:Ext H F H1 g):PB K H1 g Q d G:=λH' F' q=>h H' F' (x.trans q)
def PB.now{K:PF}{H:Hp}{F:FZ}{Q:Bool->Hp->Prop}{d:Bool}{G:DH}(h:PB K H F Q d G)(r:R K H F G):Q d H:=h H F (Ext.refl H F) r
theorem dX(S:Stat Z CX k c E B X):X.A.units+100<cLine:=by have:=S.room.un;lia
def cN {x:Str} (h:okN x):(x==("__debug__":Str))=false:=by
 unfold okN at h;cases e:x==("__debug__":Str) with
 |false=>rfl
 |true=>rw[e]at h;simp at h
def aa2 {x:Str} (h:okN x):(x==("__classdict__":Str))=false:=by
 unfold okN at h;cases e:x==("__classdict__":Str) with
 |false=>rfl
 |true=>rw[e]at h;simp at h
def dF {x:Str} (h:okN x):x≠"__name__":=by unfold okN at h;intro e;rw[a9.mpr e]at h;simp at h
def dq{x:Str}(h:c.glo x):c.kd.lookup x=-.globalImplicit/\okN x=true:=by unfold CT.glo at h;rw[af,a9]at h;exact h
def aa3(S:Stat Z CX k c E B X){i:Nat}{e:AO}(h:aa c (.var i) e):PE X e (tE X.K B (wpE Z (.var i) E)):=by
 replace h:=Ju h;let(x,pos,rfl,h):=h
 .rw[af,af,a9]at h;show peI (Dy (i:=i) (by rw[S.N];exact h.1.1) (S.vis x h.1.2) (cN h.2) (aa2 h.2)) λW H Q q=>?_;let(Y,F,G,_,he,r,hw):=q;rw[xX]at hw;split at hw
  .rename_i d z;let(v,g,I):=he.get z;exact⟨v,g,hw.now r I⟩
  .exact hw.elim
def aa4(S:Stat Z CX k c E B X){d:D}{e:AO}(h:aa c (.cst d) e):PE X e (tE X.K B (wpE Z (.cst d) E)):=by
 replace h:=Jv h;let(kk,_,_,rfl,h):=h
 .unfold uq at h;split at h
  .exact peI Tw λW H Q g=>el g λY F G z he r hw=>by rw[jQ]at hw;exact hw.now r rfl
  .rw[a9]at h;subst h;exact peI Tv λW H Q g=>el g λY F G z he r hw=>by rw[jQ]at hw;exact hw.now r rfl
  .rw[a9]at h;subst h;exact peI jm λW H Q g=>el g λY F G z he r hw=>by rw[jQ]at hw;exact hw.now r rfl
  .rename_i l b;rw[af,a9,dE]at h;show peI Tz λW H Q g=>el g λY F G z he r hw=>?_;rw[jQ]at hw;show hw.now r ⟨?_,h.2⟩;rw[h.1,<-rY]
  .cases h
def aa5(S:Stat Z CX k c E B X){x:AL}{d:D}{e:AO}(h:aa c (.glb x d) e):PE X e (tE X.K B (wpE Z (.glb x d) E)):=by
 replace h:=Jw h;let(y,pos,rfl,h):=h
 .rw[af,af,a9,List.any_eq_true]at h;let((z,h1),(x',d'),L,h2):=h;rw[af,a9]at h2;let(q,g):=h2;have g:=aaB g;simp only at q g;subst z q g;let(I,J):=dq h1;let(u,v,U,ru,O):=S.con _ _ L;exact peI (TF (S.glo _ I) U ru (cN J)) λW H Q N=>el N λY F G t he r hw=>by rw[xY]at hw;exact hw.now r (O H F)
def aa6(S:Stat Z CX k c E B X){op:Operator}{fz:Bool}{a b:Ex}(J:∀{e},aa c a e=true->PE X e (tE X.K B (wpE Z a E)))(L:∀{e},aa c b e=true->PE X e (tE X.K B (wpE Z b E))){e:AO}
  (h:aa c (.bin op fz a b) e):PE X e (tE X.K B (wpE Z (.bin op fz a b) E)):=by
 replace h:=Jx h;let(l,o,r,pos,rfl,h):=h
 .rw[af,af,a9]at h;let((g,h1),h2):=h;subst g;show peI (DY (Zx _ fz) (J h1) (L h2)) λW H Q hq=>el hq λY F G U he r hw=>?_;rw[xZ]at hw;show aL U he r hw λx G1 H1 F1 v q g x1 I r1 rv=>aL g I r1 q λy G2 H2 O u q e2 N he2 r2 ru=>?_;exact⟨O,G2,x,y,r2,Rep.ext N rv,ru,Hz (λd G' z=>PV.later z (x1.trans N)) q⟩
def aa7(S:Stat Z CX k c E B X){a:Ex}(g:∀{e},aa c a e=true->PE X e (tE X.K B (wpE Z a E))){e:AO}(h:aa c (.neg a) e):PE X e (tE X.K B (wpE Z (.neg a) E)):=by
 replace h:=Jy h;let(_,_,rfl,h):=h
 .show peI (U6 Ve (g h)) λW H Q L=>el L λY F G z he r hw=>?_;rw[yc]at hw;show aL z he r hw λx G1 H1 F1 v q e1 U J N O=>?_;split at q
  .have I:v=.int _:=O;subst I;exact⟨_,rfl,q _ _ _ U N rfl⟩
  .exact q.elim
def Kc(S:Stat Z CX k c E B X){op:CmpOp}{a b:Ex}(J:∀{e},aa c a e=true->PE X e (tE X.K B (wpE Z a E)))(L:∀{e},aa c b e=true->PE X e (tE X.K B (wpE Z b E))){e:AO}
  (h:aa c (.cmp op a b) e):PE X e (tE X.K B (wpE Z (.cmp op a b) E))/\PT X e (tB' X.K B (wpT Z (.val (.cmp op a b)) E)):=by
 replace h:=JC h;let(l,o,r,pos,rfl,h):=h
 .rw[af,af,a9]at h;let((I,h1),h2):=h;subst I;have hm:=J8 (bI b h2) o;show⟨peI (Vj (jT _ (dX S)) (J h1) (L h2) hm) λW H Q hq=>el hq λY F G U he r hw=>?_,ptI (Ed (jT _ (dX S)) (J h1) (L h2) hm) λW H Q hq=>el hq λY F G U he r hw=>?_⟩
  .rw[sY]at hw;show aL U he r hw λx G1 H1 F1 v q I x1 g r1 rv=>aL I g r1 q λy G2 H2 O u q e2 N he2 r2 ru=>?_;exact⟨O,G2,x,y,r2,Rep.ext N rv,ru,iD (λd z=>PV.later z (x1.trans N)) q⟩
  .rw[lO,sY]at hw;show aL U he r hw λx G1 H1 F1 v q I x1 g r1 rv=>aL I g r1 q λy G2 H2 O u q e2 N he2 r2 ru=>?_;show⟨O,G2,x,y,r2,Rep.ext N rv,ru,iD (λd z=>?_) q⟩;intro H' F' v' x' r' rv';have e3:v'=.bl d:=rv';exact⟨d,e3,z H' F' ((x1.trans N).trans x') r'⟩
def Kd(S:Stat Z CX k c E B X){op I:CmpOp}{a b d:Ex}(L:∀{e},aa c a e=true->PE X e (tE X.K B (wpE Z a E)))(N:∀{e},aa c b e=true->PE X e (tE X.K B (wpE Z b E)))(O:∀{e},aa c d e=true->PE X e (tE X.K B (wpE Z d E))){e:AO}
  (h:aa c (.chn op I a b d) e):PE X e (tE X.K B (wpE Z (.chn op I a b d) E))/\PT X e (tB' X.K B (wpT Z (.val (.chn op I a b d)) E)):=by
 replace h:=JD h;let(l,o,o',m,r,pos,rfl,h):=h
 .simp only[af,a9]at h;let((((e1,e2),h1),h2),h3):=h;subst e1 e2;have hm:lastMarks [o,o'] [m,r]=false:=J8 (bI d h3) o';have go:∀{V H Q Y F G}{W:Bool->DH->Prop},Ext B.H B.F H F->EnvR X.K H F Y V->R X.K H F G->
    wpE Z a E Y G (λx G1=>wpE Z b E Y G1 λy G2=>bc o (view G2 x) (view G2 y) λt=>match t with|true=>wpE Z d E Y G2 λz G3=>bc o' (view G3 y) (view G3 z) λt'=>W t' G3|false=>W false G2)->
    (∀t g H' F',W t g->Ext H F H' F'->R X.K H' F' g->Q (.bl t) H')->
    v9 (rC2 X.K (bc o)) (rC2 X.K (bc o')) (tE X.K B (wpE Z a E)) (tE X.K B (wpE Z b E)) (tE X.K B (wpE Z d E)) V H Q:=by
   intro V H Q Y F G W J he r hw fin;show aL J he r hw λx G1 H1 F1 v q e1 x1 he1 r1 rv=>aL e1 he1 r1 q λy G2 H2 F2 u q e2 x2 he2 r2 ru=>?_;show⟨F2,G2,x,y,r2,Rep.ext x2 rv,ru,iD (λt q=>?_) q⟩;intro H3 F3 v3 U r3 rv3;have e3:v3=.bl t:=rv3;show⟨t,e3,?_⟩;cases t with
   |true=>
    rw[if_pos rfl];show aL (e2.trans U) (he2.ext U) r3 q λz G4 H4 F4 v4 q e4 x4 he4 r4 rv4=>?_;show⟨F4,G4,y,z,r4,Rep.ext (U.trans x4) ru,rv4,iD (λt' q=>?_) q⟩;intro H5 F5 v5 x5 r5 rv5;have e5:v5=.bl t':=rv5;subst e5;exact fin _ _ _ _ q ((((x1.trans x2).trans U).trans x4).trans x5) r5
   |false=>
    rw[if_neg bq];exact fin _ _ _ _ q ((x1.trans x2).trans U) r3
  show⟨peI (Vk (jT _ (dX S)) (jT _ (dX S)) (L h1) (N h2) (O h3) hm) λV H Q hq=>el hq λY F G J he r hw=>?_,ptI (Vl (jT _ (dX S)) (jT _ (dX S)) (L h1) (N h2) (O h3) hm) λV H Q hq=>el hq λY F G J he r hw=>?_⟩
  .rw[sZ]at hw;exact go (W:=λt g=>PV X.K H F Q (.bl t) g) J he r hw λt g H' F' z x' r'=>z H' F' _ x' r' rfl
  .rw[lO,sZ]at hw;show go (W:=λt g=>PB X.K H F Q t g) J he r hw λt g H' F' z x' r'=>⟨t,rfl,z H' F' x' r'⟩
end
section
variable {Z:aj} {CX:CXT} {k:Nat} {c:CT} {E:EK} {B:Bs} {X:Cx}
abbrev OkE(Z:aj)(c:CT)(E:EK)(B:Bs)(X:Cx)(x:Ex):Prop:=∀{e:AO},aa c x e=true->PE X e (tE X.K B (wpE Z x E))
abbrev fU(Z:aj)(c:CT)(E:EK)(B:Bs)(X:Cx)(x:Exs):Prop:=∀{es:AE},aO c x es=true->PA X es (tL X.K B (bf Z x E))
abbrev OkT(Z:aj)(c:CT)(E:EK)(B:Bs)(X:Cx)(x:Tx):Prop:=∀{e:AO},bO c x e=true->PT X e (tB' X.K B (wpT Z x E))
def aa8(S:Stat Z CX k c E B X){a:Ex}(J:OkE Z c E B X a){e:AO}(h:aa c (.not a) e):PE X e (tE X.K B (wpE Z (.not a) E)):=by
 replace h:=JB h;let(_,_,rfl,h):=h
 .intro p9 s W H Q I q;let(Y,F,G,O,he,r,hw):=q;rw[yd]at hw;have q':tE X.K B (wpE Z a E) W H (λx H1=>∃b,rO X.K x H1 b/\Q (.bl (!b)) H1):=aL O he r hw λx G1 H1 F1 v q e1 x1 he1 g rv=>by
   split at q
   .rename_i b U;exact⟨b,Ih g rv U,q _ _ _ x1 g rfl⟩
   .exact q.elim
  show UnaryOp_ (thn (J h p9 s W H _ I q') λv s1 zZ=>?_);let(x,H1,L,g,b,tb,q1):=zZ;show not_of (thn (Eg p9 s1 W H1 x v (λz H'=>Q (.bl (!z)) H') L g ⟨b,tb,q1⟩) λz s2 zZ=>?_);let(H2,N,q2):=zZ;exact⟨.bl (!z),H2,N,rfl,q2⟩
def zJ{es:AE}(h:aO c .nil es):PA X es (tL X.K B (bf Z .nil E)):=by
 unfold aO at h;cases es with
 |nil=>exact paI dY λW H Q g=>el g λY F G q he r hw=>by rw[iz]at hw;exact hw H F [] (Ext.refl _ _) r rfl
 |cons _ _=>cases h
def uy{x:Ex}{xs:Exs}(ih:OkE Z c E B X x)(z:fU Z c E B X xs){es:AE}(h:aO c (.cons x xs) es):PA X es (tL X.K B (bf Z (.cons x xs) E)):=by
 unfold aO at h;split at h
 .rename_i e es;rw[af]at h;show paI (cQ (ih h.1) (z h.2) (bZ e es X.env (cH (bI x h.1)))) λW H Q hq=>el hq λY F G N he r hw=>?_;rw[iB]at hw;show aL N he r hw λd G1 H1 F1 v q O x1 g r1 rv=>dm O g r1 q λds G2 H2 L vs q e2 J U r2 I=>?_;exact q H2 L _ (x1.trans J) r2 ⟨v,vs,rfl,Rep.ext J rv,I⟩
 .cases h
def aa9(S:Stat Z CX k c E B X){es:Exs}(L:fU Z c E B X es){e:AO}(h:aa c (.tup es) e):PE X e (tE X.K B (wpE Z (.tup es) E)):=by
 replace h:=JH h;let(_,_,_,rfl,h):=h
 .show peI (Em (L h)) λW H Q J=>el J λY F G z he r hw=>?_;rw[yg]at hw;show dm z he r hw λds G1 H1 U vs q e1 O I N g=>⟨by rw[<-g⁻¹];exact di q.1,lW (PV.later q.2 O) N g⟩
def aba(S:Stat Z CX k c E B X){fz:Bool}{es:Exs}(N:fU Z c E B X es){e:AO}(h:aa c (.lst fz es) e):PE X e (tE X.K B (wpE Z (.lst fz es) E)):=by
 replace h:=JK h;let(_,_,rfl,h):=h
 .show peI (VP (N h)) λW H Q L=>el L λY F G I he r hw=>?_;rw[yh]at hw;show dm I he r hw λds G1 H1 F1 vs q e1 U J O g=>⟨by rw[<-g⁻¹];exact di q.1,dU (dO (λd G' z=>PV.later z U) q.2) O g⟩
def abb(S:Stat Z CX k c E B X){a i:Ex}(I:OkE Z c E B X a)(J:OkE Z c E B X i){e:AO}(h:aa c (.idx a i) e):PE X e (tE X.K B (wpE Z (.idx a i) E)):=by
 replace h:=JL h;let(_,_,_,rfl,h):=h
 .rw[af]at h;show peI (lB (ZK (dX S)) (I h.1) (J h.2) (aaY (bI i h.2))) λW H Q hq=>el hq λY F G O he r hw=>?_;rw[yj]at hw;show aL O he r hw λx G1 H1 F1 v q U x1 g r1 rv=>aL U g r1 q λy G2 H2 N u q e2 L he2 r2 ru=>?_;exact⟨N,G2,x,y,r2,Rep.ext L rv,ru,tD (λd z=>PV.later z (x1.trans L)) q⟩
def abd(S:Stat Z CX k c E B X){e:AO}(h:aa c .dnw e):PE X e (tE X.K B (wpE Z .dnw E)):=by let(p,rfl):=JM h;show peI Yy λW H Q q=>el q λY F G I he r hw=>?_;rw[yC]at hw;intro p g;have x:=cA (o:=.dT []) r g;exact hw p (r.free g) _ F _ x (r.dctAt x (λf=>by let(vs,z):=(r.fz p f).2;rw[g]at z;cases z) rfl .nil) rfl
theorem abe(S:Stat Z CX k c E B X){a b:Ex}(L:OkE Z c E B X a)(N:OkE Z c E B X b){e:AO}(h:aa c (.dp1 a b) e):PE X e (tE X.K B (wpE Z (.dp1 a b) E)):=by let(ek,ev,p,rfl,hh):=JN h;rw[af]at hh;show peI (YB (by have:=dX S;lia) (L hh.1) (N hh.2)) λW H Q hq=>el hq λY F G e0 he r hw=>?_;rw[yD]at hw;show aL e0 he r hw λx G1 H1 F1 v q e1 x1 I r1 rv=>aL e1 I r1 q λy G2 H2 U u q e2 O he2 g ru=>?_;let(n,b,q,rfl,hb,_):=lZ (Rep.ext O rv) q;show⟨b,bF n,rfl,hb,λp J=>?_⟩;have x:=cA (o:=.dT [(bF n,u)]) g J;exact q p (g.free J) _ U _ (x1.trans (O.trans x)) (g.dctAt x (λf=>by let(vs,z):=(g.fz p f).2;rw[J]at z;cases z) rfl (.cons ru .nil)) rfl
def Ke{lo:Ox}(N:∀x,lo=.ob x->OkE Z c E B X x){l:Option AO}(h:gF c lo l):PO X l (J9 X.K B (wpO Z lo E)):=by
 cases lo with
 |no=>
  unfold gF at h;cases l with
  |none=>
   intro p9 s W H Q I q;show Wd p9 s W H Q I ?_;let(Y,F,G,g,he,r,hw):=q;rw[xP]at hw;exact hw H F (Ext.refl _ _) r
  |some _=>cases h
 |ob x=>
  unfold gF at h;split at h
  .intro p9 s W H Q I q;show We (N x rfl h) p9 s W H Q I ?_;let(Y,F,G,g,he,r,hw):=q;rw[xQ]at hw;show aL g he r hw λd G1 H1 z v q e1 x1 L O U=>?_;split at q
   .have J:v=.int _:=U;exact⟨_,J,q H1 z x1 O⟩
   .exact q.elim
  .cases h
def abf(S:Stat Z CX k c E B X){fz:Bool}{a:Ex}{lo hi:Ox}(J:OkE Z c E B X a)(N:∀x,lo=.ob x->OkE Z c E B X x)(L:∀x,hi=.ob x->OkE Z c E B X x){e:AO}(h:aa c (.slc fz a lo hi) e):
  PE X e (tE X.K B (wpE Z (.slc fz a lo hi) E)):=by
 replace h:=JP h;let(_,_,_,_,_,rfl,h):=h
 .rw[af,af]at h;show peI (Wf (ZS fz) (J h.1.1) (Ke N h.1.2) (Ke L h.2)) λW H Q hq=>el hq λY F G e0 he r hw=>?_;rw[yl]at hw;show aL e0 he r hw λx G1 H1 F1 v q e1 x1 g r1 rv=>Ka e1 g r1 q λl G2 H2 F2 q e2 O I r2=>Ka e2 I r2 q λu G3 H3 F3 q e3 U he3 r3=>?_;exact⟨F3,G3,x,r3,Rep.ext (O.trans U) rv,HF (λd G' z=>PV.later z ((x1.trans O).trans U)) q⟩
def abg(S:Stat Z CX k c E B X){a:Ex}(g:OkE Z c E B X a){e:AO}(h:aa c (.frz a) e):PE X e (tE X.K B (wpE Z (.frz a) E)):=by
 have h:aa c a e=true:=h;show peI (g h) λW H Q hq=>el hq λY F G N he r hw=>?_;rw[yz]at hw;show aL N he r hw λx G1 H1 F1 v q e1 L U z J=>?_;split at q
 .rename_i p;have O:v=.ref p:=J;subst O;split at q
  .rename_i ds I;exact q _ _ _ (L.trans xf) (z.frz I) (Zh z I)
  .exact q.elim
 .exact q _ _ _ L z J
def jX{es:AE}{xs:Exs}(h:aO c xs es)(env:Env)(pos:Pos):(backTo pos (starEach es env)).any (·.1)=false:=by
 induction es generalizing xs with
 |nil=>rfl
 |cons e es g=>
  cases xs with
  |nil=>unfold aO at h;cases h
  |cons x xs=>
   unfold aO at h;rw[af]at h;rw[bZ e es env (cH (bI x h.1))];change(false||(backTo pos (starEach es env)).any (·.1))=false;rw[g h.2];rfl
def iV{e:AO}{es:AE}{xs:Exs}(h:aO c xs (e::es)):∃x g,xs=.cons x g/\aa c x e=true/\aO c g es=true:=by
 cases xs with
 |nil=>unfold aO at h;cases h
 |cons x g=>
  unfold aO at h;rw[af]at h;exact⟨x,g,rfl,h.1,h.2⟩
def uz{Y:ak}:∀(xs:Exs){es:AE}{G:DH}{Q:AS->DH->Prop},aO c xs es=true->bf Z xs E Y G Q->bf Z xs E Y G (λds g=>ds⁻¹=es⁻¹/\Q ds g)
 |.nil,es,G,Q,h,q=>by
  unfold aO at h;rw[iz]at q ⊢;cases es with
  |nil=>exact⟨rfl,q⟩
  |cons _ _=>cases h
 |.cons x xs,es,G,Q,h,q=>by
  unfold aO at h;split at h
  .rename_i e es;rw[af]at h;rw[iB]at q ⊢;show aJ x (λd G1 q=>eY xs (λds G2 z=>?_) (uz xs h.2 q)) q;exact⟨by simp[z.1],z.2⟩
  .cases h
def abh(S:Stat Z CX k c E B X){f:AL}{xs:Exs}(ih:fU Z c E B X xs){e:AO}(h:aa c (.call f xs) e):PE X e (tE X.K B (wpE Z (.call f xs) E)):=by
 replace h:=JQ h;let(x,p,args,pos,rfl,h):=h
 .simp only[af,a9,List.any_eq_true]at h;let((((J,h1),(f',n),hm,e2,e3),h2),L):=h;simp only at e2 e3;subst J e2 e3;let(g1,g2):=dq h1;let(fa,fd,ps,F0,hk,hb,O):=S.call _ _ hm;let(EX,g,_,N):=S.exc;cases args with
  |nil=>cases h2
  |cons e es=>
   let(x0,xs',rfl,c1,c2):=iV L;show peI (V0 F0 S.room (S.glo _ g1) O hk hb .nil g (ih L) (cN g2) (bZ e es X.env (cH (bI x0 c1))) (jX c2 X.env pos)) λW H Q hq=>el hq λY F G e0 he r hw=>?_;rw[ym]at hw;show dm e0 he r (uz _ L hw) λds G1 H1 F1 vs q J x1 he1 r1 I=>?_;rw[eh];show⟨by rw[<-I⁻¹];exact q.1,F1,G1,ds,r1,I,Spec.mono q.2 (λd U z=>PV.later z x1) λx U z H' F' x' r'=>?_⟩;exact N x U H' F' z (J.trans x') r'
def abi(S:Stat Z CX k c E B X){f:Bf}{xs:Exs}(U:fU Z c E B X xs){e:AO}(h:aa c (.bcl f xs) e):PE X e (tE X.K B (wpE Z (.bcl f xs) E)):=by
 replace h:=JR h;let(x,p,args,pos,rfl,h):=h
 .simp only[af,a9]at h;let(((((e1,J),h1),hm),h2),L):=h;subst e1;let(N,I):=dq h1;have g:=S.blt _ (bm.mp hm);cases args with
  |nil=>cases h2
  |cons e es=>
   let(x0,xs',rfl,c1,c2):=iV L;have hs:=bZ e es X.env (cH (bI x0 c1));have O:=jX c2 X.env pos;have go:∀W H Q,tE X.K B (wpE Z (.bcl f (.cons x0 xs')) E) W H Q->tCB (iH X.K f) (tL X.K B (bf Z (.cons x0 xs') E)) W H Q:=λW H Q hq=>el hq λY F G e0 he r hw=>by
    rw[yo]at hw;show dm e0 he r hw λds G1 H1 F1 vs q e1 x1 he1 r1 rvs=>?_;exact⟨F1,G1,ds,r1,rvs,HH (λd z=>PV.later z x1) q⟩
   cases f with
   |len=>exact peI (jr ZV (S.glo _ N) g PySem.boot_len (U L) (dF I) (cN I) hs O) go
   |all=>exact peI (jr (ZW S.calm) (S.glo _ N) g Xe (U L) (dF I) (cN I) hs O) go
   |int=>exact peI (jt ZX (S.glo _ N) g FQ (U L) (dF I) (cN I) hs O) go
   |tuple=>exact peI (jt ZZ (S.glo _ N) g (by ac_rfl) (U L) (dF I) (cN I) hs O) go
   |sum=>cases J
   |min=>exact peI (jr (aab S.calm) (S.glo _ N) g aac (U L) (dF I) (cN I) hs O) go
   |max=>cases J
   |abs=>cases J
   |min2=>cases J
   |str=>exact peI (jt aad (S.glo _ N) g FT (U L) (dF I) (cN I) hs O) go
def abj(S:Stat Z CX k c E B X){fz:Bool}{f:Lf}{xs:Exs}(ih:fU Z c E B X xs){e:AO}(h:aa c (.lcl fz f xs) e):PE X e (tE X.K B (wpE Z (.lcl fz f xs) E)):=by
 replace h:=JS h;let(x,p,args,pos,rfl,h):=h
 .simp only[af,a9]at h;let(((((U,hok),h1),hm),h2),L):=h;subst U;let(g1,J):=dq h1;have g:=S.blt _ (bm.mp hm);cases args with
  |nil=>cases h2
  |cons e es=>
   let(O,I,rfl,c1,c2):=iV L;have hs:=bZ e es X.env (cH (bI O c1));have ha:=jX c2 X.env pos;have go:∀W H Q,tE X.K B (wpE Z (.lcl fz f (.cons O I)) E) W H Q->tCB (zb X.K fz f) (tL X.K B (bf Z (.cons O I) E)) W H Q:=λW H Q hq=>el hq λY F G e0 he r hw=>by
    rw[yp]at hw;show dm e0 he r hw λds G1 H1 F1 vs q U x1 he1 r1 N=>?_;exact⟨F1,G1,ds,r1,N,HJ (λd z=>dO (λd G' z=>PV.later z x1) z) q⟩
   cases f with
   |list=>exact peI (jt (Z2 S.calm fz) (S.glo _ g1) g wC (ih L) (dF J) (cN J) hs ha) go
   |sorted=>exact peI (jr (Z6 fz) (S.glo _ g1) g Z3 (ih L) (dF J) (cN J) hs ha) go
def Kf{K:PF}{H:Hp}{F:FZ}(n:Nat):Reps K H F (aX 0 n) ((List.range n).map λi=>V.int (i:Nat)):=by
 have g:aX 0 n=((List.range n).map λi:Nat=>(i:Int)).map D.int:=by unfold aX;rw[cm];show c9 λi z=>?_;change D.int (0+(i:Int))=D.int i;rw[Int.zero_add]
 have q:((List.range n).map λi:Nat=>V.int (i:Nat))=((List.range n).map λi:Nat=>(i:Int)).map V.int:=by rw[cm];rfl
 rw[g,q];exact mj _
theorem abk(S:Stat Z CX k c E B X){fz:Bool}{a:Ex}(N:OkE Z c E B X a){e:AO}(h:aa c (.rgl fz a) e):PE X e (tE X.K B (wpE Z (.rgl fz a) E)):=by
 let(x,p,x',p',e2,pos',pos,rfl,h'):=JV h;simp only[af,a9]at h';let((((((O,h1),hm),e3),h2),hr),h3):=h';subst O e3;let(g1,U):=dq h1;let(I,g2'):=dq h2;have J:=S.blt _ (bm.mp hm);have L:=S.blt _ (bm.mp hr);have hs:=bZ e2 [] X.env (cH (bI a h3));show peI (jt (X6 S.calm) (S.glo _ g1) J wC (cQ (Gs (S.glo _ I) L (cQ (N h3) dY hs) hs) dY rfl) (dF U) (cN U) rfl rfl) λW H Q hq=>el hq λY F G e0 he r hw=>?_;rw[yr]at hw;show aL e0 he r hw λd G1 H1 F1 v q O x1 he1 r1 rv=>?_;split at q
 .rename_i n;have ev:v=.int n:=rv;subst ev;let((h0,hn),q):=q;let(m,rfl):=cr h0;show⟨_,rfl,λrr g=>⟨rr,m,rfl,bj,!0,λl hl=>?_⟩⟩;have xn:=cA (o:=.rng 0 m) r1 g;exact dU (dO (λd G' z=>PV.later z (x1.trans xn)) q) (r1.new g) (Kf m) l hl
 .exact q.elim
theorem abl(S:Stat Z CX k c E B X){a:Ex}(L:OkE Z c E B X a){e:AO}(h:aa c (.rgt a) e):PE X e (tE X.K B (wpE Z (.rgt a) E)):=by
 let(x,p,x',p',e2,pos',pos,rfl,h'):=JW h;simp only[af,a9]at h';let((((((N,h1),hm),e3),h2),hr),U):=h';subst N e3;let(g1,O):=dq h1;let(z,g2'):=dq h2;have I:=S.blt _ (bm.mp hm);have J:=S.blt _ (bm.mp hr);have hs:=bZ e2 [] X.env (cH (bI a U));show peI (jt (X7 S.calm) (S.glo _ g1) I (by ac_rfl) (cQ (Gs (S.glo _ z) J (cQ (L U) dY hs) hs) dY rfl) (dF O) (cN O) rfl rfl) λW H Q hq=>el hq λY F G e0 he r hw=>?_;rw[yx]at hw;show aL e0 he r hw λd G1 H1 F1 v q N x1 he1 r1 rv=>?_;split at q
 .rename_i n;have ev:v=.int n:=rv;subst ev;let((h0,hn),q):=q;let(m,rfl):=cr h0;show⟨_,rfl,λrr g=>⟨rr,m,rfl,bj,!0,λl hl=>?_⟩⟩;have xn:=cA (o:=.rng 0 m) r1 g;exact lW (PV.later q (x1.trans xn)) (r1.new g) (Kf m) l hl
 .exact q.elim
def abm{t:AL}(h:gA t):bootBuiltins (⇑t)=-(.type t):=by
 simp only[gA,dQ,a9]at h;rcases h with(((rfl|rfl)|rfl)|rfl)|rfl
 .exact W5
 .exact FQ
 .exact FT
 .ac_rfl
 .exact wC
def abn(S:Stat Z CX k c E B X){a:Ex}{t:AL}(U:OkE Z c E B X a){e:AO}(h:aa c (.isi a t) e):PE X e (tE X.K B (wpE Z (.isi a t) E)):=by
 replace h:=JT h;let(x,p,v,y,p2,pos,rfl,h):=h
 .simp only[af,a9]at h;let(((((((e1,h1),I),h2),e2),h3),J),g):=h;subst e1 e2;let(g1,g2):=dq h1;let(g3,g4):=dq h3;have L:=S.blt _ (bm.mp I);have N:=S.blt _ (bm.mp J);have O:PE X (.Name (⇑t) p2) (tC (.ty t)):=W7 (S.glo _ g3) N (abm g) (dF g4) (cN g4);have sv:=cH (bI a h2);show peI (jr W4 (S.glo _ g1) L W6 (cQ (U h2) (cQ O dY (bZ _ _ _ rfl)) (bZ _ _ _ sv)) (dF g2) (cN g2) (bZ _ _ _ sv) rfl) λW H Q hq=>el hq λY F G e0 he r hw=>?_;rw[yq]at hw;show aL e0 he r hw λd G1 H1 F1 v q e1 x1 he1 r1 rv=>?_;split at q
  .rename_i b hb;let(T,hk,hT,z):=aah hb;show⟨v,t,.type T,b,rfl,aae r1 rv hk,?_,q _ _ _ x1 r1 rfl⟩;rw[aag T t hT g,z g]
  .exact q.elim
def Kg{v:AO}(h:(!iK v))(name:Str)(env:Env):attributeBase v name env (eval v env)=eval v env:=by
 cases v with
 |Call f args g pos=>
  cases f with
  |Name id p=>
   cases args with
   |nil=>
    cases g with
    |nil=>cases h
    |cons _ _=>rfl
   |cons _ _=>rfl
  |_=>rfl
 |_=>rfl
def all_plain{es:AE}{xs:Exs}(h:aO c xs es)(env:Env)(pos:Pos):(backTo pos (starEach es env)).all (λx=>!x.1)=true:=by
 induction es generalizing xs with
 |nil=>rfl
 |cons e es z=>
  let(I,J,rfl,g,q):=iV h;rw[bZ e es env (cH (bI I g))];change(!false&&(backTo pos (starEach es env)).all (λx=>!x.1))=true;rw[z q];rfl
def abo(S:Stat Z CX k c E B X){C f:AL}{o:Ex}(J:OkE Z c E B X o){e:AO}(h:aa c (.fld C f o) e):PE X e (tE X.K B (wpE Z (.fld C f o) E)):=by
 let(v,n,p,rfl,hh):=JX h;rw[af,af,af,a9]at hh;let(((en,hb),hf),ho):=hh;subst en;let(O,hn,z,I):=S.fld C f (bm.mp hf);show peI (VD (J ho) (Kg hb _ X.env)) λW H Q hq=>el hq λY F G U he r hw=>?_;rw[yt]at hw;show aL U he r hw λd G1 H1 N u q e1 x1 he1 r1 ru=>?_;unfold jN at q;split at q
 .rename_i C' f' q0;let(rfl,rfl,q):=q;let(a,L,dx,e2,(_,hH),g):=ru;have ec:L=O:=by rw[hn]at g;cases g;rfl
  subst ec e2;show⟨a,L,dx,_,.ref q0,rfl,hH,z,I,?_,q H1 N _ x1 r1 rfl⟩;change List.lookup _ [(_,_)]=_;simp[List.lookup]
 .exact q.elim
def Kh{o:AO}{name:Str}{apos pos:Pos}{args:AE}{env:Env}(g:attributeBase o name env (eval o env)=eval o env)
  (z:methodCallForm (args⁻¹+([]:List Keyword)⁻¹) (backTo pos (starEach args env)) (backToKw pos (keywordEach [] env))=true) (q:(apos.endLine==pos.line)=true):
  eval (.Call (.Attribute o name apos) args [] pos) env=(do
   let ov <-eval o env
   standAt apos.atName
   let(f,first) <-holding [ov] (getMethod ov name (do return(<-importBound o env).getD true))
   callWith pos f first (backTo pos (starEach args env)) (backToKw pos (keywordEach [] env))):=by
 have I:methodCallPos true o env apos pos=pure pos:=by unfold methodCallPos;simp[q]
 rw[arm_eval_Call,g];unfold methodCall;rw[z,I];rfl
def abp{f m:Str}{v:V}(h:(m==f)=false):List.lookup m [(f,v)]=none:=by simp[List.lookup,h]
def abq{K:PF}{x:Ex}{X:L2.St}{H:Hp}{Q g:VK}(h:tE K B (wpE Z x E) X H Q)(J:∀v H',Q v H'->g v H'):tE K B (wpE Z x E) X H g:=by let(Y,F,G,I,he,r,hw):=h;exact⟨Y,F,G,I,he,r,aJ x (λd G1 q H1 z v O L N=>J _ _ (q H1 z v O L N)) hw⟩
theorem abr(S:Stat Z CX k c E B X){f C m:AL}{o:Ex}{xs:Exs}(iho:OkE Z c E B X o)(ih:fU Z c E B X xs){e:AO}(h:aa c (.mcl f C m o xs) e):PE X e (tE X.K B (wpE Z (.mcl f C m o xs) E)):=by
 let(v,n,apos,args,cpos,rfl,hns,hh):=JZ h;rw[af,af,af,af,af,a9]at hh;let(((((en,hl),hlt),hm),ho),g):=hh;have hlt:=df hlt;subst en;let(c0,fa,fd,ps,hn,U,hmt,O,F0):=S.mth _ _ _ _ (bm.mp hm);let(EX,J,_,hEX):=S.exc;have key:∀{W:L2.St}{H:Hp}{Q:VK}{Y:ak}{F:FZ}{G:DH},Ext B.H B.F H F->EnvR X.K H F Y W->R X.K H F G->wpE Z (.mcl f C m o xs) E Y G (PV X.K H F Q)->(rQ c0 (⇑m) (lift X.K (args⁻¹+1) (Z f)) [] EX (tE X.K B (wpE Z o E)) (tL X.K B (bf Z xs E))) W H Q:=λ{W H Q Y F G} L he r hw=>by
  rw[yu]at hw;show aL L he r hw λd G1 H1 F1 u q N x1 he1 r1 ru=>?_;let(qo,q):=q;unfold jO at qo;split at qo
  .rename_i C' f' q0;let(rfl,hne):=qo;have ru':=ru;let(a,c1,dx,e2,(_,hH),hn1):=ru;have ec:c1=c0:=by rw[hn]at hn1;cases hn1;rfl
   subst ec;subst e2;show⟨a,dx,_,rfl,hH,abp hne,dm N he1 r1 (uz _ g q) λds G2 H2 F2 vs q e2 x2 he2 r2 rvs=>?_⟩;rw[eh];show⟨by rw[b4,<-rvs⁻¹,q.1],F2,G2,_::ds,r2,.cons (Rep.ext x2 ru') rvs,Spec.mono q.2 (λd G' z=>PV.later z (x1.trans x2)) λx G' z H' F' x' r'=>?_⟩;exact hEX x G' H' F' z (e2.trans x') r'
  .exact qo.elim
 have I:(apos.endLine==cpos.line)=true:=hl;cases args with
 |nil=>
  cases xs with
  |nil=>
   show peI (V2 (iho ho) U hmt F0 S.room O .nil J (ht:=Kh (IV hns _ _) rfl I)) λW H Q hq=>el hq λY F G L he r hw=>?_;have kk:=key L he r hw;unfold rQ at kk ⊢;show abq kk λx H1 zZ=>?_;let(a,dx,fs,h1,h2,h3,h4):=zZ;show⟨a,dx,fs,h1,h2,h3,?_⟩;let(ρ',F',G',e0',he',r',hw'):=h4;rw[iz]at hw';exact hw' H1 F' [] (Ext.refl _ _) r' rfl
  |cons _ _=>cases g
 |cons N es=>
  let(x0,xs',rfl,c1,c2):=iV g;show peI (V1 (iho ho) U hmt F0 S.room O .nil J (ih g) (bZ N es X.env (cH (bI x0 c1))) (jX c2 X.env cpos) (ht:=Kh (IV hns _ _) ?_ I)) λW H Q hq=>el hq λY F G L he r hw=>key L he r hw;unfold methodCallForm;rw[all_plain g X.env cpos];have L:(if(backToKw cpos (keywordEach [] X.env)).isEmpty=true then 0 else 1)=0:=rfl;rw[L,cf (show(N::es)⁻¹+([]:List Keyword)⁻¹+0<30 by change(N::es)⁻¹+0+0<30;lia)];rfl
def abt(S:Stat Z CX k c E B X){C:AL}{xs:Exs}(ih:fU Z c E B X xs){e:AO}(h:aa c (.mko C xs) e):PE X e (tE X.K B (wpE Z (.mko C xs) E)):=by
 let(x,p,args,pos,rfl,hh):=J0 h;rw[af,af,af,af,a9]at hh;let((((ex,hg),hk),I),g):=hh;subst ex;let(c0,fa,fd,ps,sp,j,hj,hmg,M,U,F0,hsp):=S.mko _ _ (bm.mp hk);let(EX,J,_,O):=S.exc;let(g1,g2):=dq hg;cases args with
 |nil=>cases I
 |cons N es=>
  let(x0,xs',rfl,c1,c2):=iV g;show peI (V4 M F0 (S.room.mono hj) (S.glo _ g1) hmg U .nil J (ih g) (cN g2) (bZ N es X.env (cH (bI x0 c1))) (jX c2 X.env pos)) λW H Q hq=>el hq λY F G e0 he r hw=>?_;rw[yw]at hw;show dm e0 he r (uz _ g hw) λds G1 H1 F1 vs q N x1 he1 r1 L=>λx dx hx hdx I=>?_;rw[eh];show hsp vs H1 Q EX ⟨by rw[<-L⁻¹,q.1],F1,G1,ds,r1,L,Spec.mono q.2 (λd G' z=>PV.later z x1) λx G' z H' F' x' r'=>?_⟩ x dx hx hdx I;exact O x G' H' F' z (N.trans x') r'
theorem abu(S:Stat Z CX k c E B X){m:Mf}{o:Ex}{xs:Exs}(iho:OkE Z c E B X o)(ih:fU Z c E B X xs){e:AO}(h:aa c (.mth m o xs) e):PE X e (tE X.K B (wpE Z (.mth m o xs) E)):=by
 replace h:=J1 h;let(v,x,apos,args,cpos,rfl,h):=h
 .simp only[af,a9,dE]at h;let((((((e1,h1),hb),hl),hn),h2),h3):=h;subst e1;cases args with
  |nil=>cases h2
  |cons e es=>
   let(x0,xs',rfl,c1,c2):=iV h3;have hs:=bZ e es X.env (cH (bI x0 c1));have ha:=jX c2 X.env cpos;have g:=Kg hb (⇑m.name) X.env;have O:((backTo cpos (starEach (e::es) X.env)).all (λx=>!x.1)&&(backToKw cpos (keywordEach [] X.env)).all (λx=>x.1.isSome)
    &&decide ((e::es)⁻¹+([]:List Keyword)⁻¹+(if([]:List Keyword).isEmpty then 0 else 1)<30))=true:=by
    rw[all_plain h3 X.env cpos];have:(e::es)⁻¹+([]:List Keyword)⁻¹+(if([]:List Keyword).isEmpty then 0 else 1)<30:=by have e0:(if([]:List Keyword).isEmpty=true then 0 else 1)=0:=rfl;rw[e0];change(e::es)⁻¹+0+0<30;lia
    rw[cf this];rfl
   have I:(apos.endLine==cpos.line)=true:=by rw[a9];exact hl
   have lst:∀{d:D} {u:V} {G1:DH} {H1:Hp} {F1:FZ},(match d with |.ref p=>(match G1 p with|some (.lst _)=>True|_=>False)|_=>False)->R X.K H1 F1 G1->Rep X.K H1 F1 d u->tyV X.K "list" u H1:=λ{d u G1 H1 F1} q U N=>by
    split at q
    .rename_i p;split at q
     .rename_i ds hg;let(vs,hv,_):=U.lst hg;have e2:u=.ref p:=N;subst e2;exact .inl ⟨rfl,vs,SqL.of hv⟩
     .exact q.elim
    .exact q.elim
   have lstV:∀{d:D} {u:V} {G1:DH} {H1:Hp} {F1:FZ},xF (view G1 d)->R X.K H1 F1 G1->Rep X.K H1 F1 d u->tyV X.K "list" u H1:=λ{d u G1 H1 F1} q U N=>by
    generalize hv:view G1 d=w at q;cases w with
    |lst ds=>
     let(a,vs,rfl,sq,_):=Rep.list U N hv;exact .inl ⟨rfl,vs,sq⟩
    |_=>exact(show False from q).elim
   cases m with
   |join=>
    show peI (jw PySem.F.plainAttrs_str PySem.F.slot_str_join PySem.F.type_str_join aai (iho h1) (ih h3) g O I hs ha) λW H Q hq=>el hq λY F G e0 he r hw=>?_;rw[iC]at hw;show aL e0 he r hw λd G1 H1 F1 u q e1 x1 J U N=>⟨?_,dm e1 J U q.2 λds G2 H2 F2 vs q e2 x2 he2 r2 L=>?_⟩
    .have q1:=q.1;cases d with
     |str l=>let(e2,_):=N;subst e2;exact rfl
     |_=>exact(show False from q1).elim
    .exact ⟨F2,G2,d,ds,r2,Rep.ext x2 N,L,jR (λd G' z=>PV.later z (x1.trans x2)) q⟩
   |append=>
    show peI (jw gv PySem.F.slot_list_append PySem.F.type_list_append aaj (iho h1) (ih h3) g O I hs ha) λW H Q hq=>el hq λY F G e0 he r hw=>?_;rw[iC]at hw;show aL e0 he r hw λd G1 H1 F1 u q e1 x1 J U N=>⟨?_,dm e1 J U q.2 λds G2 H2 F2 vs q e2 x2 he2 r2 L=>?_⟩
    .show lst (d:=d) (G1:=G1) ?_ U N;have q1:=q.1;cases d<;>first|exact q1|exact(show False from q1).elim
    .exact ⟨F2,G2,d,ds,r2,Rep.ext x2 N,L,jR (λd G' z=>PV.later z (x1.trans x2)) q⟩
   |extend=>
    show peI (jw gv PySem.F.slot_list_extend PySem.F.type_list_extend aan (iho h1) (ih h3) g O I hs ha) λW H Q hq=>el hq λY F G e0 he r hw=>?_;rw[iC]at hw;show aL e0 he r hw λd G1 H1 F1 u q e1 x1 J U N=>⟨?_,dm e1 J U q.2 λds G2 H2 F2 vs q e2 x2 he2 r2 L=>?_⟩
    .show lst (d:=d) (G1:=G1) ?_ U N;have q1:=q.1;cases d<;>first|exact q1|exact(show False from q1).elim
    .exact ⟨F2,G2,d,ds,r2,Rep.ext x2 N,L,jR (λd G' z=>PV.later z (x1.trans x2)) q⟩
   |pop=>
    show peI (jw gv PySem.F.slot_list_pop PySem.F.type_list_pop aal (iho h1) (ih h3) g O I hs ha) λW H Q hq=>el hq λY F G e0 he r hw=>?_;rw[iC]at hw;show aL e0 he r hw λd G1 H1 F1 u q e1 x1 J U N=>⟨?_,dm e1 J U q.2 λds G2 H2 F2 vs q e2 x2 he2 r2 L=>?_⟩
    .show lst (d:=d) (G1:=G1) ?_ U N;have q1:=q.1;cases d<;>first|exact q1|exact(show False from q1).elim
    .exact ⟨F2,G2,d,ds,r2,Rep.ext x2 N,L,jR (λd G' z=>PV.later z (x1.trans x2)) q⟩
   |idxL=>
    show peI (jw gv PySem.F.slot_list_index PySem.F.type_list_index aak (iho h1) (ih h3) g O I hs ha) λW H Q hq=>el hq λY F G e0 he r hw=>?_;rw[iC]at hw;show aL e0 he r hw λd G1 H1 F1 u q e1 x1 J U N=>⟨lstV q.1 U N,dm e1 J U q.2 λds G2 H2 F2 vs q e2 x2 he2 r2 L=>?_⟩;exact⟨F2,G2,d,ds,r2,Rep.ext x2 N,L,jR (λd G' z=>PV.later z (x1.trans x2)) q⟩
end
section
variable {Z:aj} {CX:CXT} {k:Nat} {c:CT} {E:EK} {B:Bs} {X:Cx}
def EachE(Z:aj)(c:CT)(E:EK)(B:Bs)(X:Cx):Exs->Prop
 |.nil=>True
 |.cons e es=>OkE Z c E B X e/\EachE Z c E B X es
def uA(Z:aj)(c:CT)(E:EK)(B:Bs)(X:Cx):Txs->Prop
 |.nil=>True
 |.cons e es=>OkT Z c E B X e/\uA Z c E B X es
def EachE.oks:∀{xs:Exs},EachE Z c E B X xs->fU Z c E B X xs
 |.nil,_=>λh=>zJ h
 |.cons x xs,hh=>λh=>uy hh.1 (EachE.oks hh.2) h
def uB(Z:aj)(E:EK)(isAnd:Bool)(x:Ex)(xs:Exs):ak->DH->(AT)->Prop:=λY G kk=>wpE Z x E Y G λd G1=>match d with |.bl b=>wpB Z xs isAnd b E Y G1 kk|d=>jP xs (kk d G1)
def Kl{isAnd:Bool}{pos:Pos}:∀(xs:Exs){x:Ex},OkE Z c E B X x->EachE Z c E B X xs->∀{v:AO}{vs:AE},aa c x v=true->aO c xs vs=true->
  PE X (.BoolOp (if isAnd then .And else .Or) (v::vs) pos) (tE X.K B (uB Z E isAnd x xs))
 |.nil,x,ih,_,v,vs,h1,h2=>by
  unfold aO at h2;cases vs with
  |nil=>
   show peI (T8 (ih h1)) λW H Q O=>el O λY F G N he r hw=>?_;unfold uB at hw;show aL N he r hw λd G1 H1 U u q e1 g I J L=>?_;split at q
   .rw[xN]at q;exact q _ _ _ g J L
   .exact (show PV X.K H F Q _ _ from q) _ _ _ g J L
  |cons _ _=>cases h2
 |.cons y ys,x,ih,hh,v,vs,h1,h2=>by
  unfold aO at h2;split at h2
  .rename_i w ws;rw[af]at h2;have rest:=Kl (isAnd:=isAnd) (pos:=pos) ys hh.1 hh.2 h2.1 h2.2;cases isAnd with
   |true=>
    show peI (T9 (ih h1) rest) λW H Q O=>el O λY F G N he r hw=>?_;unfold uB at hw;show aL N he r hw λd G1 H1 U u q e1 g I J L=>?_;split at q
    .rename_i b;show⟨b,L,?_⟩;rw[sW]at q;cases b with
     |true=>
      rw[if_pos rfl];exact⟨Y,U,G1,e1,I,J,aJ y (λd G' z=>by
       cases d<;>first|exact tQ ys (λc G2 z=>PV.later z g) z|exact yS ys (λz=>PV.later z g) z) q⟩
     |false=>
      rw[if_neg bq];exact q _ _ _ g J rfl
    .exact q.elim
   |false=>
    show peI (Ua (ih h1) rest) λW H Q O=>el O λY F G N he r hw=>?_;unfold uB at hw;show aL N he r hw λd G1 H1 U u q e1 g I J L=>?_;split at q
    .rename_i b;show⟨b,L,?_⟩;rw[sW]at q;cases b with
     |false=>
      rw[if_neg bq];exact⟨Y,U,G1,e1,I,J,aJ y (λd G' z=>by
       cases d<;>first|exact tQ ys (λc G2 z=>PV.later z g) z|exact yS ys (λz=>PV.later z g) z) q⟩
     |true=>
      rw[if_pos rfl];exact q _ _ _ g J rfl
    .exact q.elim
  .cases h2
def abv{isAnd:Bool}{x:Ex}{xs:Exs}(J:OkE Z c E B X x)(hh:EachE Z c E B X xs){e:AO}(h:aa c (.boo isAnd x xs) e):PE X e (tE X.K B (wpE Z (.boo isAnd x xs) E)):=by
 replace h:=JF h;let(_,_,_,_,rfl,h):=h
 .simp only[af,a9]at h;let((q,h1),h2):=h;subst q;show peI (Kl xs J hh h1 h2) λW H Q I=>el I λY F G g he r hw=>⟨Y,F,G,g,he,r,?_⟩;rw[ye]at hw;show aJ x (λd G1 z=>?_) hw;split at z
  .exact z
  .exact z.elim
def abw{t:Tx}{a b:Ex}(L:OkT Z c E B X t)(I:OkE Z c E B X a)(J:OkE Z c E B X b){e:AO}(h:aa c (.ife t a b) e):PE X e (tE X.K B (wpE Z (.ife t a b) E)):=by
 replace h:=JG h;let(_,_,_,_,rfl,h):=h
 .simp only[af]at h;let((h1,h2),h3):=h;show peI (Ub (L h1) (I h2) (J h3)) λW H Q hq=>el hq λY F G e0 he r hw=>?_;rw[yf]at hw;show iU e0 he r hw λb' G1 H1 N q O x1 g U=>?_;cases b' with
  |true=>
   rw[if_pos rfl];exact⟨Y,N,G1,O,g,U,aJ a (λd G' z=>PV.later z x1) q⟩
  |false=>
   rw[if_neg bq];exact⟨Y,N,G1,O,g,U,aJ b (λd G' z=>PV.later z x1) q⟩
def abx{x:Ex}(O:OkE Z c E B X x){e:AO}(L:iM e)(h:aa c x e):PT X e (tB' X.K B (wpT Z (.val x) E)):=by
 show ptI (Vn (O h) (aaZ L X.env)) λW H Q N=>el N λY F G z he r hw=>?_;rw[lO]at hw;show aL z he r hw λd G1 H1 F1 u q e1 x1 J g U=>?_;split at q
 .rename_i b I;exact⟨b,Ih g U I,q _ _ x1 g⟩
 .exact q.elim
def aby{t:Tx}(J:OkT Z c E B X t){e:AO}(h:bO c (.not t) e):PT X e (tB' X.K B (wpT Z (.not t) E)):=by
 replace h:=aaI h;let(_,_,rfl,h):=h
 .show ptI (T5 (J h)) λW H Q I=>el I λY F G g he r hw=>?_;rw[xJ]at hw;exact iU g he r hw λb G1 H1 O q U N z L=>q _ _ N L
def mG(Z:aj)(E:EK)(isAnd:Bool)(x:Tx)(xs:Txs):ak->DH->(Bool->DH->Prop)->Prop:=λY G kk=>wpT Z x E Y G λb G1=>gB Z xs isAnd b E Y G1 kk
def Km{isAnd:Bool}{pos:Pos}:∀(xs:Txs){x:Tx},OkT Z c E B X x->uA Z c E B X xs->∀{v:AO}{vs:AE},bO c x v=true->iT c xs vs=true->
  PW X (.BoolOp (if isAnd then .And else .Or) (v::vs) pos) (tB' X.K B (mG Z E isAnd x xs))
 |.nil,x,ih,_,v,vs,h1,h2=>by
  unfold iT at h2;cases vs with
  |nil=>
   have go:∀W H Q,tB' X.K B (mG Z E isAnd x .nil) W H Q->tB' X.K B (wpT Z x E) W H Q:=λW H Q J=>el J λY F G I he r hw=>by
    unfold mG at hw;show⟨Y,F,G,I,he,r,dC x (λb G1 q=>?_) hw⟩;rw[xO]at q;exact q
   cases isAnd with
   |true=>exact pwI (TX (ih h1)) go
   |false=>exact pwI (TY (ih h1)) go
  |cons _ _=>cases h2
 |.cons y ys,x,ih,hh,v,vs,h1,h2=>by
  unfold iT at h2;split at h2
  .rename_i w ws;rw[af]at h2;have rest:=Km (isAnd:=isAnd) (pos:=pos) ys hh.1 hh.2 h2.1 h2.2;cases isAnd with
   |true=>
    show pwI (T3 (ih h1) rest) λW H Q J=>el J λY F G I he r hw=>?_;unfold mG at hw;show iU I he r hw λb G1 H1 O q U N g L=>?_;rw[sX]at q;cases b with
    |true=>
     rw[if_pos rfl];exact⟨Y,O,G1,U,g,L,dC y (λb' G' z=>tR ys (λc G2 z=>PB.later z N) z) q⟩
    |false=>
     rw[if_neg bq];exact q _ _ N L
   |false=>
    show pwI (T4 (ih h1) rest) λW H Q J=>el J λY F G I he r hw=>?_;unfold mG at hw;show iU I he r hw λb G1 H1 O q U N g L=>?_;rw[sX]at q;cases b with
    |false=>
     rw[if_neg bq];exact⟨Y,O,G1,U,g,L,dC y (λb' G' z=>tR ys (λc G2 z=>PB.later z N) z) q⟩
    |true=>
     rw[if_pos rfl];exact q _ _ N L
  .cases h2
def abz{isAnd:Bool}{x:Tx}{xs:Txs}(I:OkT Z c E B X x)(hh:uA Z c E B X xs){e:AO}(h:bO c (.boo isAnd x xs) e):PT X e (tB' X.K B (wpT Z (.boo isAnd x xs) E)):=by
 replace h:=aaJ h;let(_,_,_,_,rfl,h):=h
 .simp only[af,a9]at h;let((q,h1),h2):=h;subst q;show ptI (PW.pt (Km xs I hh h1 h2)) λW H Q z=>el z λY F G g he r hw=>⟨Y,F,G,g,he,r,?_⟩;rw[xK]at hw;exact hw
def tG(K:PF)(B:Bs)(t:Tg):TG:=λv X H Q=>∃Y F G d,Ext B.H B.F H F/\EnvR K H F Y X/\R K H F G/\Rep K H F d v/\bG t d Y G (λq=>∀g,EnvR K H F q g->Q g H)
def tGs(K:PF)(B:Bs)(t:Tgs):TGs:=λvs X H Q=>∃Y F G ds,Ext B.H B.F H F/\EnvR K H F Y X/\R K H F G/\Reps K H F ds vs/\bY t ds Y G (λq=>∀g,EnvR K H F q g->Q g H)
def uC:∀{ts:Tgs}{es:AE}{env:Env},cT c ts es=true->(assignEach es env)⁻¹=es⁻¹/\(assignEach es env).findIdx? (·.1)=none/\(assignEach es env).map (·.2)=es.map λe=>assign e env
 |.nil,[],env,_=>⟨rfl,rfl,rfl⟩
 |.nil,_::_,env,h=>by unfold cT at h;cases h
 |.cons t r,[],env,h=>by unfold cT at h;cases h
 |.cons t r,e::es,env,h=>by
  unfold cT at h;rw[af]at h;let(h1,h2,g):=uC (env:=env) h.2;have hs:assignEach (e::es) env=(false,assign e env)::assignEach es env:=by
   cases t with
   |nm i=>
    have h':=h.1;let(_,_,rfl,_):=zF h';rfl
   |tp ts=>
    have h':=h.1;let(_,_,_,rfl,_):=zG h';rfl
  rw[hs];show⟨by simp[h1],?_,by simp[g]⟩;rw[fe];simp[h2]
section
variable {prog:AK} {w:World} {A:AM} {E:AG} {s:AI}
theorem Ko{it t:AQ}{g:Array AN}(N:t≠it):∀(n i:Nat)(s:AI)(Q:AB->AI->Prop),s.heap.IsListIter it t i->s.heap.IsList t g->i+n<=g.size->
  (∀h',h'.IsListIter it t (i+n)->Heap.SameBut it s.heap h'->Q ((g.toList.drop i).take n) {s with heap:=h'})->wpAny (model prog w) A (draw (.ref it) n) Q E s
 |0,i,s,Q,hit,_,_,hQ=>by
  change wpAny _ _ (pure []) Q E s;exact aw (by simpa using hQ s.heap hit (Heap.SameBut.refl ..))
 |n+1,i,s,Q,hit,ht,hle,hQ=>by
  have L:i<g.size:=by lia
  change wpAny _ _ (pyNext (.ref it) >>= _) Q E s;show ae (wpAny_pyNext_list_item hit ht (x:=g[i]) (by simp[L]) λU z q=>?_);show ae (eJ (Ko N n (i+1) _ _ z (ht.extBut q.extBut N) (!0) λO I J=>aw ?_));have Y:g.toList.drop i=g[i]::g.toList.drop (i+1):=by simp[br,L]
  have:=hQ O (by rw[show i+(n+1)=i+1+n by lia];exact I) (q.trans J);rw[Y,List.take_succ_cons]at this;exact this
theorem abA{t:AQ}{g:Array AN}{Q:AB->AI->Prop}(hh:A.handled=none)(ht:s.heap.IsList t g)
  (hQ:∀h',Heap.ExtBut (~~~s) s.heap h'->Q g.toList {s with heap:=h'}):wpAny (model prog w) A (unpackItems (.ref t) g.size none) Q E s:=by
 have N:t≠(~~~s):=by let(o,ho,_):=ht;exact cb (aI ho)
 unfold unpackItems;show ae ?_;unfold notIterableAtAll;show ae (wpAny_specialOf ht.typeIs PySem.F.slot_list_iter.lookup ?_);show aw ?_;simp only[Bool.false_eq_true,if_false];show ae (eJ (wpAny_pyIter_list ht ?_));show ae (eJ (Ko N g.size 0 _ _ ⟨_,a7 _ rfl,rfl,rfl⟩ (ht.push _) (!0) λO z q=>?_));have L:List.take g.size (List.drop 0 g.toList)=g.toList:=by rw[List.drop_zero];exact eK (!2)
 rw[L];rw[if_neg (!2)];have J:O.IsList t g:=(ht.push _).extBut q.extBut N;show ae (eJ (wpAny_pyNext_list_end hh z J (!2) λU I=>?_));simp only[Option.isSome_none,Bool.false_eq_true,if_false];show aw (hQ U λb o Y e=>I b o Y (q.extBut b o Y (ah _ e)))
def abB{env:Env}{q:AE}{x1}{pos:Pos}{t:AQ}{g:Array AN}{Q:Unit->AI->Prop}(hh:A.handled=none)(ht:s.heap.IsList t g)
  (hn:(assignEach q env)⁻¹=g.size) (z:(assignEach q env).findIdx? (·.1)=none)
  (h:∀h',Heap.ExtBut (~~~s) s.heap h'->wpAny (model prog w) A (assignInOrder ((assignEach q env).map (·.2)) g.toList) Q E {s with heap:=h'}):
  wpAny (model prog w) A (assign (.Tuple q x1 pos) env (.ref t)) Q E s:=by
 rw[assign_Tuple];show ae (hU ?_);unfold unpack;rw[hn,z];exact ae (eJ (abA hh ht h))
end
section
variable {X:Cx} {pos:Pos}
def abC(K:PF)(n:Nat)(t:TGs):TG:=λv Y H Q=>∃a xs,v=.ref a/\SqL K H a xs/\xs⁻¹=n/\t xs Y H Q
def abD{es:AE}{k:Nat}{t:TGs}{n:Nat}(hc:X.calm)(h:PGs X es t)
  (hn:(assignEach es X.env)⁻¹=n:=by rfl) (g:(assignEach es X.env).findIdx? (·.1)=none:=by rfl):PG X (.Tuple es k pos) (abC X.K n t):=by
 intro p9 s Y H v u Q I r hw;let(a,xs,J,L,hl,hw):=hw;subst J;cases r;let(O,q,pl,U):=I.list L;show abB (I.ok.hd hc) pl.isList (by simp[hn,<-hl,q⁻¹]) g λh' N=>?_;have z:Inv X p9 Y H {s with heap:=h'}:=I.kept (t':=s.toks) λb o e=>N b o (cb (aI e)) e;exact h p9 _ Y H xs _ Q z (!!q) hw
end
set_option tactic.hygienic true in
mutual
theorem uD(S:Stat Z CX k c E B X):∀(t:Tg){e:AO},cZ c t e=true->PG X e (tG X.K B t)
 |.nm i,e,h=>by
  replace h:=zF h;let(x,pos,rfl,h):=h
  .skip;rw[af,a9]at h;let(l,f):=S.sto x h.2;intro p9 s W H v u Q I rv q;show rJ (i:=i) S.nd (by rw[S.N];exact h.1) l f p9 s W H v u Q I rv ?_;let(Y,F,G,d,e0,he,r,rd,hw):=q;unfold bG at hw;exact hw _ (he.set rd i)
 |.tp ts,e,h=>by
  replace h:=zG h;let(es,kk,pos,rfl,h):=h
  .skip;let(h1,h2,h3):=uC (env:=X.env) h;intro p9 s W H v u Q I rv q;let(Y,F,G,d,e0,he,r,rd,hw):=q;unfold bG at hw;split at hw
   .rename_i ds;show vY (n:=es⁻¹) S.calm (zK S ts h) h1 h2 p9 s W H v u Q I rv ?_;let(a,vs,e1,q,t):=rd;show⟨a,vs,e1,q.sq,?_,Y,F,G,ds,e0,he,r,t,hw⟩;rw[<-t⁻¹];exact zL ts h hw
   .rename_i ds;show abD (n:=es⁻¹) S.calm (zK S ts h) h1 h2 p9 s W H v u Q I rv ?_;let(a,vs,e1,q,t):=rd;show⟨a,vs,e1,q.sq,?_,Y,F,G,ds,e0,he,r,t,hw⟩;rw[<-t⁻¹];exact zL ts h hw
   .exact hw.elim
theorem zK(S:Stat Z CX k c E B X):∀(ts:Tgs){es:AE},cT c ts es=true->PGs X es (tGs X.K B ts)
 |.nil,es,h=>by
  unfold cT at h;cases es with
  |nil=>
   intro p9 s W H vs us Q I rv q;show vX p9 s W H vs us Q I rv ?_;let(Y,F,G,ds,e0,he,r,rd,hw):=q;unfold bY at hw;split at hw
   .exact ⟨rd,hw _ he⟩
   .exact hw.elim
  |cons _ _=>cases h
 |.cons t r,es,h=>by
  unfold cT at h;split at h
  .rename_i e es;rw[af]at h;intro p9 s W H vs us Q I rv q;have hs:(assignEach (e::es) X.env).map (·.2)=assign e X.env::(assignEach es X.env).map (·.2):=by
    have hh:cT c (.cons t r) (e::es)=true:=by unfold cT;change(cZ c t e&&cT c r es)=true;rw[h.1,h.2];rfl
    rw[(uC (env:=X.env) hh).2.2,(uC (env:=X.env) h.2).2.2];rfl
   show lA (uD S t h.1) (zK S r h.2) hs p9 s W H vs us Q I rv ?_;let(Y,F,G,ds,e0,he,rr,rd,hw):=q;unfold bY at hw;split at hw
   .rename_i d ds;let(v,vs',e1,rd1,rds):=rd;show⟨v,vs',e1,Y,F,G,d,e0,he,rr,rd1,gC (λρ' z σ' he'=>?_) t hw⟩;exact⟨ρ',F,G,ds,e0,he',rr,rds,z⟩
   .exact hw.elim
  .cases h
theorem zL{G:DH}:∀(ts:Tgs){es:AE}{ds:AS}{Y:ak}{Q:ak->Prop},cT c ts es=true->bY ts ds Y G Q->ds⁻¹=es⁻¹
 |.nil,es,ds,Y,Q,h,q=>by
  unfold cT at h;unfold bY at q;split at q
  .cases es with
   |nil=>rfl
   |cons _ _=>cases h
  .exact q.elim
 |.cons t r,es,ds,Y,Q,h,q=>by
  unfold cT at h;split at h
  .rw[af]at h;unfold bY at q;split at q
   .rename_i d ds;have:∃ρ',bY r ds ρ' G Q:=Kp t q;let(ρ',q'):=this;have:=zL r h.2 q';simp[this]
   .exact q.elim
  .cases h
theorem Kp{G:DH}:∀(t:Tg){d:D}{Y:ak}{Q:ak->Prop},bG t d Y G Q->∃ρ',Q ρ'
 |.nm i,d,Y,Q,q=>⟨_,q⟩
 |.tp ts,d,Y,Q,q=>by
  unfold bG at q;split at q
  .exact zM ts q
  .exact zM ts q
  .exact q.elim
theorem zM{G:DH}:∀(ts:Tgs){ds:AS}{Y:ak}{Q:ak->Prop},bY ts ds Y G Q->∃ρ',Q ρ'
 |.nil,ds,Y,Q,q=>by
  unfold bY at q;split at q
  .exact ⟨_,q⟩
  .exact q.elim
 |.cons t r,ds,Y,Q,q=>by
  unfold bY at q;split at q
  .let(ρ',q'):=Kp t q;exact zM r q'
  .exact q.elim
end
end
structure WalkJ(K:PF)(H:Hp)(F:FZ)(items:AS)(g:Hld)(J:It):Prop where
 go:∀H' F' G i,Ext H F H' F'->R K H' F' G->held g G->i < items.length->J.go i H'
 stop:∀H' F' G,Ext H F H' F'->R K H' F' G->held g G->J.stop items.length H'
 yld:∀H' F' i x H'' d G,Ext H F H' F'->R K H' F' G->held g G->items[i]?=some d->J.yld i H' x H''->Ext H' F' H'' F'/\R K H'' F' G/\Rep K H'' F' d x
section
variable {K:PF} {H:Hp} {F:FZ}
structure Src(K:PF)(H:Hp)(F:FZ)(u:AN)(ds:AS)(g:Hld)(k:SK):Prop where
 val:k.val=u
 sat:∀H' F' G,Ext H F H' F'->R K H' F' G->held g G->∃vs,k.Sat H' vs/\Reps K H' F' ds vs
def uE{d:D}{v:V}{u:AN}{G:DH}{ds:AS×Hld}(h:Rep K H F d v)(r:RelV v u)(e:itemsOf G d=-ds):∃k,Src K H F u ds.1 ds.2 k:=by
 cases d with
 |lst xs=>
  simp only[itemsOf,bp]at e;subst e;let(a,vs,g,q,t):=h;subst g;have z:u=Value.ref a:=r;subst z;exact⟨.lst a,rfl,λH' F' I x y y=>⟨vs,(FzL.ext x q).2,Reps.ext x t⟩⟩
 |tup xs=>
  simp only[itemsOf,bp]at e;subst e;let(a,vs,g,q,t):=h;subst g;have z:u=Value.ref a:=r;subst z;exact⟨.tup a,rfl,λH' F' I x y y=>⟨vs,(TpT.ext (K:=K) x q).it,Reps.ext x t⟩⟩
 |str l=>
  simp only[itemsOf,bp]at e;subst e;let(g,hl):=h;subst g;obtain⟨t,z⟩:∃t,u=Value.str (tx l) t:=r;subst z;exact⟨.str (tx l) t,rfl,λH' F' I x y y=>⟨_,rfl,by simpa using zc l⟩⟩
 |ref p=>
  simp only[itemsOf]at e;split at e
  .rename_i xs L;simp only[bp]at e;subst e;have g:v=.ref p:=h;subst g;have z:u=Value.ref p:=r;subst z;exact⟨.lst p,rfl,λH' F' I x J hh=>J.lst hh.1⟩
  .cases e
 |_=>cases e
def uF{G:DH}{d:D}{ds:AS×Hld}(e:itemsOf G d=-ds):held ds.2 G:=by
 cases d with
 |ref p=>
  simp only[itemsOf]at e;split at e
  .rename_i xs g;simp only[bp]at e;subst e;exact⟨g,trivial⟩
  .cases e
 |_=>simp only[itemsOf]at e;first | (cases e;done) | (simp only[bp]at e;subst e;exact trivial)
def abE{u:AN}{ds:AS}{g:Hld}{k:SK}(s:Src K H F u ds g k):WalkJ K H F ds g (Jk k) where
 go:=λH' F' G i x r hh hi=>by
  let(vs,h1,h2):=s.sat H' F' G x r hh;exact⟨vs,h1,by rw[<-h2⁻¹];exact hi⟩
 stop:=λH' F' G x r hh=>by
  let(vs,h1,h2):=s.sat H' F' G x r hh;exact⟨vs,h1,h2.length.symm⟩
 yld:=λH' F' i v I d G x r hh L y=>by
  let(e,N):=y;subst e;let(vs,h1,h2):=s.sat _ F' G x r hh;let(w,J,q):=h2.get L;have z:=N vs h1;rw[J]at z;cases z;exact⟨Ext.refl _ _,r,q⟩
def mH:∀(n:Nat)(ds:AS),(dZ n ds)⁻¹=ds⁻¹
 |_,[]=>rfl
 |n,d::ds=>by simp[dZ,mH (n+1) ds]
theorem mJ:∀(n:Nat)(ds:AS)(i:Nat),(dZ n ds)[i]?=(ds[i]?).map λd=>.tup [.int ((n+i:Nat):Int),d]
 |_,[],_=>by simp[dZ]
 |n,d::ds,0=>by simp[dZ]
 |n,d::ds,i+1=>by
  simp only[dZ,List.getElem?_cons_succ];rw[mJ (n+1) ds i];congr 1;funext d;rw[show n+1+i=n+(i+1) by lia]
def zN:∀(as bs:AS),(cG as bs)⁻¹=min as⁻¹ bs⁻¹
 |[],bs=>by simp[cG]
 |a::as,[]=>by simp[cG]
 |a::as,b::bs=>by simp[cG,zN as bs]
def Kq:∀(as bs:AS)(i:Nat)(d:D),(cG as bs)[i]?=-d->∃a b,as[i]?=-a/\bs[i]?=-b/\d=.tup [a,b]
 |[],bs,i,d,h=>by simp[cG]at h
 |a::as,[],i,d,h=>by simp[cG]at h
 |a::as,b::bs,0,d,h=>by simp[cG]at h;exact⟨a,b,rfl,rfl,h.symm⟩
 |a::as,b::bs,i+1,d,h=>by
  simp only[cG,List.getElem?_cons_succ]at h;let(x,y,h1,h2,g):=Kq as bs i d h;exact⟨x,y,!!h1,!!h2,g⟩
def abF{u:AN}{ds:AS}{g:Hld}{k:SK}(s:Src K H F u ds g k):WalkJ K H F (dZ 0 ds) g (Je k) where
 go:=λH' F' G i x r hh hi=>by
  let(vs,h1,h2):=s.sat H' F' G x r hh;exact⟨vs,h1,by rw[<-h2⁻¹,<-mH 0];exact hi⟩
 stop:=λH' F' G x r hh=>by
  let(vs,h1,h2):=s.sat H' F' G x r hh;exact⟨vs,h1,by rw[mH];exact h2.length.symm⟩
 yld:=λH' F' i v O d G x r hh N y=>by
  let(vs,h1,h2):=s.sat H' F' G x r hh;let(T,y,I,z,q,Y):=y;subst z q;rw[mJ]at N;let(d',J,U):=aT.mp N;subst U;let(w,z,L):=h2.get J;have q:=Y vs h1;rw[z]at q;cases q;show⟨cA r I,r.new I,?_⟩;rw[Nat.zero_add];exact wZ r I (Reps.cons rfl (Reps.cons L Reps.nil))
def jY{g g':Hld}{G:DH}:held (g++g') G->held g G/\held g' G:=by
 induction g with
 |nil=>exact λh=>⟨trivial,h⟩
 |cons p r q=>
  intro h;let(h1,h2):=q h.2;exact⟨⟨h.1,h1⟩,h2⟩
theorem abG{u u':AN}{ds es:AS}{g g':Hld}{k l:SK}(s:Src K H F u ds g k)(s':Src K H F u' es g' l):WalkJ K H F (cG ds es) (g++g') (Jz k l) where
 go:=λH' F' G i x r hh hi=>by
  let(vs,h1,h2):=s.sat H' F' G x r (jY hh).1;let(J,q,I):=s'.sat H' F' G x r (jY hh).2;rw[zN]at hi;exact⟨vs,J,h1,q,by rw[<-h2⁻¹];lia,by rw[<-I⁻¹];lia⟩
 stop:=λH' F' G x r hh=>by
  let(vs,h1,h2):=s.sat H' F' G x r (jY hh).1;let(J,q,I):=s'.sat H' F' G x r (jY hh).2;exact⟨vs,J,h1,q,by rw[zN,<-h2⁻¹,<-I⁻¹];lia⟩
 yld:=λH' F' i v H'' d G x r hh hd y=>by
  let(T,y,z,U,N,L,hv,hz):=y;subst N L;let(a,b,ha,hb,O):=Kq _ _ _ _ hd;subst O;let(vs,h1,h2):=s.sat H' F' G x r (jY hh).1;let(J,q,I):=s'.sat H' F' G x r (jY hh).2;let(w,N,Y):=h2.get ha;let(w2,O,rw2):=I.get hb;have L:=hv vs h1;have e4:=hz J q;rw[N]at L;cases L;rw[O]at e4;cases e4;exact⟨cA r U,r.new U,wZ r U (Reps.cons Y (Reps.cons rw2 Reps.nil))⟩
def abH(lo:Int)(n:Nat):WalkJ K H F (aX lo n) [] (Itr lo n) where
 go:=λH' F' G i x u u hi=>by change i<n;simpa [aX] using hi
 stop:=λH' F' G x u u=>by change n<=(aX lo n)⁻¹;simp[aX]
 yld:=λH' F' i v q d G x r u g y=>by
  let(z,I):=y;subst z I;show⟨Ext.refl _ _,r,?_⟩;unfold aX at g;rw[a8]at g;let(j,L,J):=aT.mp g;have:j=i:=by have:=av.mp L;let(h1,h2):=this;simpa using h2.symm
  subst this;subst J;rfl
end
def tI(K:PF)(B:Bs)(w:ak->DH->(AS->Hld->DH->Prop)->Prop):TI:=λX H I=>∃Y F G,Ext B.H B.F H F/\EnvR K H F Y X/\R K H F G/\
 w Y G (λq g z=>∀H' F' J,Ext H F H' F'->R K H' F' z->WalkJ K H' F' q g J->I J H')
section
variable {Z:aj} {CX:CXT} {k:Nat} {c:CT} {E:EK} {B:Bs} {X:Cx}
def mK{p9:AC}{Y:L2.St}{H:Hp}{s:AI}(I:Inv X p9 Y H s){kk:SK}{vs:AR}(h:kk.Sat H vs):∃g:Array AN,kk.On g s.heap:=by
 cases kk with
 |lst a=>let(g,_,pl,_):=I.list (SqL.of (show H a=-_ from h));exact⟨g.toArray,pl.isList⟩
 |tup a=>let(g,_,pl,_):=I.tuple (SqT.of (show H a=-_ from h));exact⟨g.toArray,pl⟩
 |str x t=>exact⟨#[],trivial⟩
def abI{x:Ex}(ih:OkE Z c E B X x){tg e:AO}(h:aa c x e):PI X tg e (tI X.K B (wpI Z (.seq x) E)):=by
 intro p9 s W H Rr I q;let(Y,F,G,e0,he,r,hw):=q;rw[xR]at hw;have q':tE X.K B (wpE Z x E) W H (λv H1=>∃z G1 d g,R X.K H1 z G1/\Rep X.K H1 z d v/\itemsOf G1 d=-g/\∀J,WalkJ X.K H1 z g.1 g.2 J->Rr J H1):=
  aL e0 he r hw λd G1 H1 z u q e1 x1 he1 O ru=>by
   split at q
   .rename_i ds N;exact⟨z,G1,d,ds,O,ru,N,λJ w=>q H1 z J x1 O w⟩
   .exact q.elim
 show thn (ih h p9 s W H _ I q') λu U zZ=>?_;let(v,H1,L,rv,z,G1,d,g,O,rd,N,q1):=zZ;let(kk,src):=uE rd rv N;let(vs,sat,_):=src.sat H1 z G1 (Ext.refl _ _) O (uF N);let(its,on):=mK L sat;rw[<-src.val];show SK.iter on ?_;show⟨U.heap.objs.size,[U.heap.objs.size],_,_,H1,rfl,L.kept (t':=U.toks) λb o e=>ah _ e,aas kk _,SK.pos0,λb hb=>?_,q1 _ (abE src)⟩;have e:b=U.heap.objs.size:=by simpa using hb
 subst e;exact L.fpOk (ar _) (L.hok.fresh (ar _))
def abJ(S:Stat Z CX k c E B X){a:Ex}(ih:OkE Z c E B X a){tg e:AO}(h:cM c (.rng a) tg e):PI X tg e (tI X.K B (wpI Z (.rng a) E)):=by
 replace h:=J3 h;let(_,_,_,_,rfl,h):=h
 .simp only[af,a9]at h;let(((z,h1),hm),h2):=h;subst z;let(U,g2):=dq h1;have g:=S.blt _ (bm.mp hm);have hs:=bZ _ [] X.env (cH (bI a h2));intro p9 s W H L I q;show U3 (S.glo _ U) g (cQ (ih h2) dY hs) hs p9 s W H L I ?_;let(Y,F,G,N,he,r,hw):=q;rw[xT]at hw;show aL N he r hw λd G1 H1 J u q z x1 he1 r1 ru=>?_;split at q
  .rename_i n;have O:u=.int n:=ru;subst O;exact⟨n,rfl,q.1.1,q.1.2,q.2 H1 J _ x1 r1 (abH 0 n.toNat)⟩
  .exact q.elim
def abK{K:PF}{H:Hp}{F:FZ}(lo:Int)(n:Nat):WalkJ K H F (fP lo n) [] (Itd lo n) where
 go:=λH' F' G i x u u hi=>by change i<n;simpa [fP] using hi
 stop:=λH' F' G x u u=>by change n<=(fP lo n)⁻¹;simp[fP]
 yld:=λH' F' i v q d G x r u g y=>by
  let(z,I):=y;subst z I;show⟨Ext.refl _ _,r,?_⟩;unfold fP at g;rw[a8]at g;let(j,L,J):=aT.mp g;have:j=i:=by have:=av.mp L;let(h1,h2):=this;simpa using h2.symm
  subst this;subst J;rfl
def abL(S:Stat Z CX k c E B X){a b d:Ex}(iha:OkE Z c E B X a)(ihb:OkE Z c E B X b)(ihd:OkE Z c E B X d){tg e:AO}(h:cM c (.dwn a b d) tg e):PI X tg e (tI X.K B (wpI Z (.dwn a b d) E)):=by
 replace h:=J4 h;let(_,_,v,v',J,pos,rfl,h):=h;simp only[af,a9]at h;let(((((O,h1),hm),h2),h3),h4):=h;subst O;let(g1,g2):=dq h1;have hmg:=S.blt _ (bm.mp hm);have z:=bZ J [] X.env (cH (bI d h4));have g:=bZ v' [J] X.env (cH (bI b h3));have hs:=bZ v [v',J] X.env (cH (bI a h2));intro p9 s W H Rr I q;show Xr (S.glo _ g1) hmg (cQ (iha h2) (cQ (ihb h3) (cQ (ihd h4) dY z) g) hs) (by rw[hs,g,z];rfl) (by rw[g,z];rfl) p9 s W H Rr I ?_;let(Y,F,G,e0,he,r,hw):=q;rw[xU]at hw;show aL e0 he r hw λd G1 H1 F1 u q O x1 U r1 ru=>aL O U r1 q λd' G2 H2 F2 u' q e2 x2 he2 r2 ru'=>aL e2 he2 r2 q λN G3 H3 F3 u'' q e3 x3 he3 r3 L=>?_;cases d with
 |int m=>
  cases d' with
  |int n=>
   cases N with
   |int s=>
    have e3:u=.int m:=ru;have e4:u'=.int n:=ru';have e5:u''=.int s:=L;subst e3 e4 e5;let((es,q1),q2):=q;subst es;exact⟨m,n,rfl,q1,q2 H3 F3 _ ((x1.trans x2).trans x3) r3 (abK m (m-n).toNat)⟩
   |_=>exact(show False from q).elim
  |_=>exact(show False from q).elim
 |_=>exact(show False from q).elim
def abM(S:Stat Z CX k c E B X){a:Ex}(ih:OkE Z c E B X a){tg e:AO}(h:cM c (.enm a) tg e):PI X tg e (tI X.K B (wpI Z (.enm a) E)):=by
 replace h:=J5 h;let(_,_,_,_,_,_,_,rfl,rfl,h):=h
 .skip
  .simp only[af,a9]at h;let(((e1,h1),hm),h2):=h;subst e1;let(g1,g2):=dq h1;have hmg:=S.blt _ (bm.mp hm);have hs:=bZ _ [] X.env (cH (bI a h2));intro p9 s V H Rr I q;let(Y,F,G,e0,he,r,hw):=q;rw[xV]at hw;have q':tL X.K B (bf Z (.cons a .nil) E) V H (λvs H1=>∃v z G1 d g,vs=[v]/\R X.K H1 z G1/\Rep X.K H1 z d v/\itemsOf G1 d=-g/\∀J,WalkJ X.K H1 z (dZ 0 g.1) g.2 J->Rr J H1):=by
    show dm (W:=λds G1=>∃d g,ds=[d]/\itemsOf G1 d=-g/\∀H' F' J,Ext H F H' F'->R X.K H' F' G1->WalkJ X.K H' F' (dZ 0 g.1) g.2 J->Rr J H') e0 he r ?_ λds G1 H1 z vs q e1 x1 he1 r1 rvs=>?_
    .rw[iB];show aJ a (λd G1 q=>?_) hw;rw[iz];split at q
     .rename_i g O;exact⟨d,g,rfl,O,q⟩
     .exact q.elim
    .let(d,g,e2,O,q):=q;subst e2;let(v,e3,rv):=bM rvs;exact⟨v,z,G1,d,g,e3,r1,rv,O,λJ w=>q H1 z J x1 r1 w⟩
   show Call_ (gh I (S.glo _ g1) hmg (u:=.type "enumerate") boot_enumerate (d6 (thn (uy ih (λh=>zJ h) (c:=c) (es:=[_]) (by unfold aO;change(aa c a _&&true)=true;rw[h2];rfl) _ p9 s V H _ I q') λus L zZ=>?_) hs rfl) (dF g2) (cN g2));let(vs,H1,N,r1v,q1):=zZ;let(v,z,G1,d,g,e1,r1,rd,O,q1):=q1;subst e1;let(u,rfl,ru):=vals1 r1v;let(kk,src):=uE rd ru O;let(vs,sat,_):=src.sat H1 z G1 (Ext.refl _ _) r1 (uF O);let(its,on):=mK N sat;rw[<-src.val];show IK on λh' U hit hsz hk=>?_;show wpAny_pyIter_enum U ?_;have n1:H1 L.heap.objs.size=none:=N.hok.fresh (ar _);have n2:H1 (L.heap.objs.size+1)=none:=N.hok.fresh (dk _);show⟨L.heap.objs.size+1,[L.heap.objs.size+1,L.heap.objs.size],_,_,H1,rfl,N.kept (t':=L.toks) hk,Iz kk _ _ (Nat.succ_ne_self _),⟨⟨_,U⟩,hit⟩,λb hb=>?_,q1 _ (abF src)⟩;have hb':b=L.heap.objs.size+1\/b=L.heap.objs.size:=by simpa using hb
   rcases hb' with rfl|rfl
   .exact N.fpOk (dk _) n2
   .exact N.fpOk (ar _) n1
theorem zap(n:Nat):ZApart (n+4) (n+2) (n+3) n (n+1):=
 ⟨(by lia:(n+2:Nat)≠n+4),(by lia:(n+3:Nat)≠n+4),(by lia:(n:Nat)≠n+4),(by lia:(n+1:Nat)≠n+4),(by lia:(n+2:Nat)≠n+3),(by lia:(n+2:Nat)≠n),(by lia:(n+2:Nat)≠n+1),(by lia:(n+3:Nat)≠n),(by lia:(n+3:Nat)≠n+1),(by lia:(n:Nat)≠n+1)⟩
def abN(S:Stat Z CX k c E B X){a b:Ex}(iha:OkE Z c E B X a)(ihb:OkE Z c E B X b){tg e:AO}(h:cM c (.zip a b) tg e):PI X tg e (tI X.K B (wpI Z (.zip a b) E)):=by
 replace h:=J6 h;let(_,_,_,_,_,v,v',pos,rfl,rfl,h):=h
 .skip
  .simp only[af,a9]at h;let((((e1,h1),hm),h2),h3):=h;subst e1;let(g1,g2):=dq h1;have hmg:=S.blt _ (bm.mp hm);have hs2:=bZ v' [] X.env (cH (bI b h3));have hs:=bZ v [v'] X.env (cH (bI a h2));intro p9 s V H Rr I q;let(Y,F,G,e0,he,r,hw):=q;rw[xW]at hw;have hA:aO c (.cons a (.cons b .nil)) [v,v']=true:=by
    unfold aO aO aO;change(aa c a v&&(aa c b v'&&true))=true;rw[h2,h3];rfl
   have q':tL X.K B (bf Z (.cons a (.cons b .nil)) E) V H (λvs H1=>∃v v' U G1 d d' z g,vs=[v,v']/\R X.K H1 U G1/\Rep X.K H1 U d v/\Rep X.K H1 U d' v'/\itemsOf G1 d=-z/\itemsOf G1 d'=-g/\∀J,WalkJ X.K H1 U (cG z.1 g.1) (z.2++g.2) J->Rr J H1):=by
    show dm (W:=λds G1=>∃d d' z g,ds=[d,d']/\itemsOf G1 d=-z/\itemsOf G1 d'=-g/\∀H' F' J,Ext H F H' F'->R X.K H' F' G1->WalkJ X.K H' F' (cG z.1 g.1) (z.2++g.2) J->Rr J H') e0 he r ?_ λds G1 H1 U vs q e1 x1 he1 r1 rvs=>?_
    .rw[iB];show aJ a (λd G1 q=>?_) hw;rw[iB];show aJ b (λd' G2 q=>?_) q;rw[iz];split at q
     .rename_i z g hd N;exact⟨d,d',z,g,rfl,hd,N,q⟩
     .exact q.elim
    .let(d,d',z,g,e2,hd,N,q):=q;subst e2;let(w1,r2,e3,rw1,t2):=rvs;let(w2,e4,rw2):=bM t2;subst e4;exact⟨w1,w2,U,G1,d,d',z,g,e3,r1,rw1,rw2,hd,N,λJ w=>q H1 U J x1 r1 w⟩
   show Call_ (gh I (S.glo _ g1) hmg (u:=.type "zip") Xf (d6 (thn (uy iha (λh=>uy ihb (λh=>zJ h) h) (c:=c) (es:=[v,v']) hA _ p9 s V H _ I q') λus L ⟨vs,H1,I1,r1v,q1⟩=>?_) hs (by rw[hs2];rfl)) (dF g2) (cN g2));let(w1,w2,U,G1,d,d',z,g,e1,r1,rd,rd',hd,N,q1):=q1;subst e1;let(u,u',rfl,ru,ru'):=vals2 r1v;let(kk,src):=uE rd ru hd;let(ll,O):=uE rd' ru' N;let(vs,sat,_):=src.sat H1 U G1 (Ext.refl _ _) r1 (uF hd);let(ws,sat',_):=O.sat H1 U G1 (Ext.refl _ _) r1 (uF N);let(its,on):=mK I1 sat;let(its',on'):=mK I1 sat';rw[<-src.val,<-O.val];show aaz on on' λh' hz hTI hTO p1 p2 hsz hk=>?_;show wpAny_pyIter_zip hz ?_;have fr:∀j,H1 (L.heap.objs.size+j)=none:=λj=>I1.hok.fresh (ci _ _);show⟨L.heap.objs.size+4,[L.heap.objs.size+4,L.heap.objs.size+2,L.heap.objs.size+3,L.heap.objs.size,L.heap.objs.size+1],_,_,H1,rfl,I1.kept (t':=L.toks) hk,
    aaw kk ll (L.heap.objs.size+4) (L.heap.objs.size+2) (L.heap.objs.size+3) L.heap.objs.size (L.heap.objs.size+1) (zap L.heap.objs.size),⟨hz,hTI,⟨_,_,hTO⟩,p1,p2⟩,λb hb=>?_,q1 _ (abG src O)⟩
   have hb':b=L.heap.objs.size+4\/b=L.heap.objs.size+2\/b=L.heap.objs.size+3\/b=L.heap.objs.size\/b=L.heap.objs.size+1:=by simpa using hb
   rcases hb' with rfl|rfl|rfl|rfl|rfl
   .exact I1.fpOk (ci _ _) (fr 4)
   .exact I1.fpOk (ci _ _) (fr 2)
   .exact I1.fpOk (ci _ _) (fr 3)
   .exact I1.fpOk (ar _) (fr 0)
   .exact I1.fpOk (ci _ _) (fr 1)
end
section
variable {Z:aj} {CX:CXT} {k:Nat} {c:CT} {E:EK} {B:Bs} {X:Cx}
def zO:∀{l:AD},fQ l=true->l.Nodup
 |[],_=>fT
 |x::r,h=>by
  unfold fQ at h;rw[af]at h;show ef.mpr ⟨λg=>?_,zO h.2⟩;have:=h.1;rw[bm.mpr g]at this;cases this
def uG{N:AD}{scope:Scope}:∀{N':AD}{cap:List (Option Nat)},X.N=N->gY N scope N' cap=true->Caps X scope N' cap
 |[],[],_,_=>trivial
 |_::N',none::cap,e,h=>uG (N':=N') (cap:=cap) e h
 |x::N',-j::cap,e,h=>by
  unfold gY at h;simp only[af,a9]at h;exact⟨⟨by rw[e];exact h.1.1,h.1.2⟩,uG (N':=N') (cap:=cap) e h.2⟩
 |[],_::_,_,h=>by cases h
 |_::_,[],_,h=>by cases h
def mL{scope:Scope}{env:Env}(x:Str):(relabel scope env).names.lookup x=(scope.names.lookup x).map λkk=>if(kk==NameKind.free&&env.scope.kind==.function&&env.kindOf x==-.cell)=true then NameKind.cell else kk:=rT
def Stat.comp(S:Stat Z CX k c E B X){N':AD}{scope:Scope}(hn:fQ N')(J:List (Str×AQ))(C:AQ)(I:AI)(g:Hp)(L:List AQ)(pn:AC):
  Stat Z CX k (c.comp N' scope) noE B (X.comp N' scope J C I g L pn) where
 N:=rfl
 nd:=zO hn
 calm:=S.calm
 own:=PassesOwn.never
 kd:=rfl
 vis:=λx h=>by
  have h:iJ (scope.names.lookup x)=true:=h;change(relabel scope X.env).names.lookup x=_\/(relabel scope X.env).names.lookup x=_\/(relabel scope X.env).names.lookup x=_;rw[mL];cases e:scope.names.lookup x with
  |none=>rw[e]at h;cases h
  |some kk=>
   rw[e]at h;cases kk with
   | «local»=>exact .inl (by simp[show(NameKind.«local»==NameKind.free)=false by decide])
   |cell=>exact .inr (.inl (by simp[show(NameKind.cell==NameKind.free)=false by decide]))
   |free=>
    by_cases q:(NameKind.free==NameKind.free&&X.env.scope.kind==ScopeKind.function&&X.env.kindOf x==-NameKind.cell)=true
    .exact .inr (.inl (by simp only[eW,if_pos q]))
    .exact .inr (.inr (by simp only[eW,if_neg q]))
   |globalExplicit=>cases h
   |globalImplicit=>cases h
 cel:=λx h=>by
  have h:scope.names.lookup x=-.cell\/scope.names.lookup x=-.free:=h;change(relabel scope X.env).names.lookup x=_\/(relabel scope X.env).names.lookup x=_;rw[mL];rcases h with h|h
  .exact .inl (by rw[h];simp[show(NameKind.cell==NameKind.free)=false by decide])
  .rw[h];by_cases q:(NameKind.free==NameKind.free&&X.env.scope.kind==ScopeKind.function&&X.env.kindOf x==-NameKind.cell)=true
   .exact .inl (by simp only[eW,if_pos q])
   .exact .inr (by simp only[eW,if_neg q])
 glo:=λx h=>by
  have h:scope.names.lookup x=-.globalImplicit:=h;change(relabel scope X.env).names.lookup x=_;rw[mL,h];simp[show(NameKind.globalImplicit==NameKind.free)=false by decide]
 sto:=λx h=>by
  have h:(scope.names.lookup x==-.local||(false&&scope.names.lookup x==-.cell))=true:=h;rw[Bool.false_and,Bool.or_false,a9]at h;have e:(relabel scope X.env).names.lookup x=-.local:=by rw[mL,h];simp[show(NameKind.«local»==NameKind.free)=false by decide]
  exact⟨.inl e,.inr e⟩
 room:=S.room
 call:=S.call
 blt:=S.blt
 con:=S.con
 exc:=⟨_,S.nox _,λy y y y y y y y y y q=>q.elim,λx O H' F' h=>h.elim⟩
 nox:=S.nox
 xcl:=λC h=>nZf h
 loc:=λx h=>by change(relabel scope X.env).names.lookup x=_;rw[mL,show scope.names.lookup x=-.local from h];simp[show(NameKind.«local»==NameKind.free)=false by decide]
 xis:=λC h=>nZf h
 mth:=S.mth
 mko:=S.mko
 fld:=S.fld
 xko:=λC f h=>⟨(S.xko C f h).1,λy y z=>nomatch (show false=true from z)⟩
 trc:=λh=>absurd rfl h
def abO(S:Stat Z CX k c E B X){t:Tx}(J:OkT Z c E B X t){g:AE}(h:mD c t g):PIf X g (tB' X.K B (wpT Z t E)):=by
 unfold mD at h;rw[dQ]at h;rcases h with h|h
 .rw[af,e9]at h;let(z,rfl):=h;cases t with
  |yes=>
   intro p9 s W H Q I q;show WX p9 s W H Q I ?_;let(Y,F,G,L,he,r,hw):=q;rw[xM]at hw;exact hw.now r
  |_=>cases z
 .let(e,he,h):=aQ h;rw[cY he];exact FJ (J h)
theorem Kr(S:Stat Z CX k c E B X){fz:Bool}{elt:Ex}{tg:Tg}{it:It'}{U:Tx}{N':AD}{cap:List (Option Nat)}{scope:Scope}{elt' tg':AO}{ifs:AE}(hn:fQ N')
  (ihe:∀{X':Cx},Stat Z CX k (c.comp N' scope) noE B X'->OkE Z (c.comp N' scope) noE B X' elt) (iht:∀{X':Cx},Stat Z CX k (c.comp N' scope) noE B X'->OkT Z (c.comp N' scope) noE B X' U)
  (hg:cZ (c.comp N' scope) tg tg') (hi:mD (c.comp N' scope) U ifs) (he:aa (c.comp N' scope) elt elt')
  {V:L2.St} {H:Hp} {Q:VK} {Y:ak} {F:FZ} {G:DH} (e0:Ext B.H B.F H F) (henv:EnvR X.K H F Y V) (r:R X.K H F G)
  (hw:wpI Z it E Y G λI g G1=>
   compLoop (λd N O k'=>bG tg d N O λL=>wpT Z U noE L O λb G2=>match b with|true=>wpE Z elt noE L G2 λy G3=>k' (-y) L G3|false=>k' none L G2)
    g I [] (cap.map λo=>match o with|none=>none|some j=>(Y[j]?).join) G1 λds G2=>mk fz ds G2 (PV X.K H F Q)):
  tI X.K B (wpI Z it E) V H (λJ H1=>Gw true X N' scope tg' (emT ifs elt') J (dh cap V) H1 Q):=by
 show⟨Y,F,G,e0,henv,r,lV it (λI g G1 q H1 F1 J x1 r1 W=>?_) hw⟩;let step:D->ak->DH->(Option D->ak->DH->Prop)->Prop:=λd N O k'=>bG tg d N O λL=>wpT Z U noE L O λb G2=>match b with|true=>wpE Z elt noE L G2 λy G3=>k' (-y) L G3|false=>k' none L G2
 let fin:AS->DH->Prop:=λds G2=>mk fz ds G2 (PV X.K H F Q)
 show⟨λi m ys σ' H'=>m=I⁻¹-i/\i<=I⁻¹/\∃N F' O acc,Ext B.H B.F H' F'/\Ext H1 F1 H' F'/\EnvR X.K H' F' N σ'/\R X.K H' F' O/\Reps X.K H' F' acc ys/\compLoop step g (I.drop i) acc N O fin,
  ⟨I⁻¹,!2,dA _,_,F1,G1,[],e0.trans x1,Ext.refl _ _,(henv.ext x1).cap cap,r1,rfl,q⟩,?_⟩
 rintro i m ys σ' H' ⟨rfl,hle,N,F',O,acc,eB,e1,he',r',ra,hl⟩;by_cases hlt:i<I⁻¹
 .have hd:I.drop i=I[i]::I.drop (i+1):=br hlt;rw[hd]at hl;let(hh,hz,hl):=hl;show .inr ⟨W.go H' F' O i e1 r' hh hlt,λu=>by rw[<-ra⁻¹];exact bS hz szl,λcl C s₁ H₁ fp pn=>?_⟩;have S':=S.comp (scope:=scope) hn cl C s₁ H₁ fp pn;show⟨_,tmT _ _,uD S' tg hg,λa ha=>Ye rfl ha (abO S' (iht S') hi) (ihe S' he),λx H2 hy=>?_⟩;let(xy,ry,rx):=W.yld H' F' i x H2 I[i] O e1 r' hh (by simp[hlt]) hy;show⟨N,F',O,I[i],eB.trans xy,he'.ext xy,ry,rx,gC (λL z σ1 hσ1=>?_) tg hl⟩;unfold tmT;show iU (eB.trans xy) hσ1 ry z λb G2 H3 F3 z e3 x3 he3 r3=>?_;cases b with
  |true=>
   rw[if_pos rfl];show aL e3 he3 r3 z λy G4 H4 F4 v z e4 x4 he4 r4 rv=>?_;exact⟨I⁻¹-(i+1),!0,rfl,hlt,L,F4,G4,acc++[y],e4,e1.trans (xy.trans (x3.trans x4)),he4,r4,(Reps.ext (xy.trans (x3.trans x4)) ra).append (Reps.cons rv Reps.nil),z⟩
  |false=>
   rw[if_neg bq];exact⟨I⁻¹-(i+1),!0,rfl,hlt,L,F3,G2,acc,e3,e1.trans (xy.trans x3),he3,r3,Reps.ext (xy.trans x3) ra,z⟩
 .have hi':i=I⁻¹:=by lia
  subst hi';rw[gg]at hl;let(hh,hz,hl):=hl;show .inl ⟨W.stop H' F' O e1 r' hh,by rw[<-ra⁻¹];exact di hz,λp hp=>?_⟩;exact dU (dO (λd O z=>PV.later z (x1.trans e1)) hl) r' ra p hp
structure CompC(c:CT)(elt:Ex)(tg:Tg)(it:It')(cond:Tx)(N':AD)(cap:List (Option Nat))(elt' tg' iter:AO)(ifs:AE)(scope:Scope):Prop where
 it:cM c it tg' iter=true
 cap:gY c.N scope N' cap=true
 sc:jU c scope=true
 nd:fQ N'=true
 tg:cZ (c.comp N' scope) tg tg'=true
 cd:mD (c.comp N' scope) cond ifs=true
 el:aa (c.comp N' scope) elt elt'=true
def Ks(S:Stat Z CX k c E B X){scope:Scope}(h:jU c scope):scope.names.all (λy=>y.2 != NameKind.cell)=true/\scope.names.all (λy=>y.2 != NameKind.local||scope.names.lookup y.1==-NameKind.local)=true/\
  scope.names.all (λy=>y.2 != NameKind.free||(X.env.kindOf y.1==-NameKind.cell||X.env.kindOf y.1==-NameKind.free))=true/\scope.kind=.function:=by
 unfold jU at h;simp only[af,dE]at h;let((((h1,h2),g),z),_):=h;show⟨h1,h2,?_,z⟩;rw[b9]at g ⊢;intro y I;have:=g y I;rw[dQ,dQ,a9,a9]at this;rw[dQ,dQ,a9,a9];rcases this with q|q
 .exact .inl q
 .exact .inr (S.cel y.1 q)
def Ku{fz:Bool}{z:Ex}{tg:Tg}{it:It'}{g:Tx}{N:List AL}{cap:List (Option Nat)}{e:AO}(h:aa c (.comp fz z tg it g N cap) e):
  ∃q J iter I scope pos,e=.ListComp q [⟨J,iter,I,0⟩] scope pos/\CompC c z tg it g (N.map Str.ofString) cap q J iter I scope:=by
 replace h:=J2 h;let(_,_,_,_,_,_,_,rfl,h):=h;simp only[af,dE]at h;let(((((((h1,h2),L),O),U),Y),h7),h8):=h;subst h1;exact⟨_,_,_,_,_,_,rfl,h2,L,O,U,Y,h7,h8⟩
def zP{it:It'}{g iter:AO}(h:cM c it g iter)(env:Env)(x:AN):foldedSetIterable iter env x=pure x:=by
 cases it with
 |seq y=>exact aaX (bI y (show aa c y iter=true from h)) env x
 |rng a=>let(_,_,_,_,rfl,_):=J3 h;rfl
 |dwn a b d=>let(_,_,_,_,_,_,rfl,_):=J4 h;rfl
 |enm a=>let(_,_,_,_,_,_,_,_,rfl,_):=J5 h;rfl
 |zip a b=>let(_,_,_,_,_,_,_,_,_,rfl,_):=J6 h;rfl
def abP(S:Stat Z CX k c E B X){fz:Bool}{q:Ex}{tg:Tg}{it:It'}{g:Tx}{N:List AL}{cap:List (Option Nat)}
  (O:∀{J:CT}{I:Cx},Stat Z CX k J noE B I->OkE Z J noE B I q) (iht:∀{J:CT}{I:Cx},Stat Z CX k J noE B I->OkT Z J noE B I g)
  (U:∀{z iter:AO},cM c it z iter=true->PI X z iter (tI X.K B (wpI Z it E))) {e:AO} (h:aa c (.comp fz q tg it g N cap) e):
  PE X e (tE X.K B (wpE Z (.comp fz q tg it g N cap) E)):=by
 let(elt',z,iter,ifs,scope,pos,rfl,C):=Ku h;let(s1,s2,s3,s4):=Ks S C.sc;show peI (Yg (lim:=true) (N.map Str.ofString) cap S.calm (U C.it) (uG S.N C.cap) s1 s2 s3 s4 (zP C.it X.env) (Gv _ _ _ _ _ _)) λW H Q hq=>el hq λY F G e0 he r hw=>?_;rw[yQ]at hw;exact Kr S C.nd (λL=>O L) (λL=>iht L) C.tg C.cd C.el e0 he r hw
def bR{x:Ex}(g:OkE Z c E B X x)(hn:∀l q rs pos,aa c x (.Compare l q rs pos)=true->False){e:AO}(h:bO c (.val x) e):PT X e (tB' X.K B (wpT Z (.val x) E)):=by
 have h:((iM e||mC e)&&aa c x e&&Jq x)=true:=h;simp only[af,dQ]at h;let((h1,h2),z):=h;rcases h1 with h1|h1
 .exact abx g h1 h2
 .let((t,ht),_):=ce.mp h1;rw[ht]at h2;exact(hn _ _ _ _ h2).elim
end
mutual
theorem aB{Z:aj}{CX:CXT}{k:Nat}{B:Bs}:∀(x:Ex){c:CT}{E:EK}{X:Cx},Stat Z CX k c E B X->OkE Z c E B X x
 |.var i,c,E,X,S=>λh=>aa3 S h
 |.cst d,c,E,X,S=>λh=>aa4 S h
 |.glb x d,c,E,X,S=>λh=>aa5 S h
 |.bin op fz a b,c,E,X,S=>λh=>aa6 S (aB a S) (aB b S) h
 |.neg a,c,E,X,S=>λh=>aa7 S (aB a S) h
 |.cmp op a b,c,E,X,S=>λh=>(Kc S (aB a S) (aB b S) h).1
 |.chn op op' a b d,c,E,X,S=>λh=>(Kd S (aB a S) (aB b S) (aB d S) h).1
 |.not a,c,E,X,S=>λh=>aa8 S (aB a S) h
 |.boo isAnd e es,c,E,X,S=>λh=>abv (aB e S) (fV es S) h
 |.ife t a b,c,E,X,S=>λh=>abw (g8 t S) (aB a S) (aB b S) h
 |.tup es,c,E,X,S=>λh=>aa9 S (EachE.oks (fV es S)) h
 |.lst fz es,c,E,X,S=>λh=>aba S (EachE.oks (fV es S)) h
 |.idx a i,c,E,X,S=>λh=>abb S (aB a S) (aB i S) h
 |.slc fz a lo hi,c,E,X,S=>λh=>abf S (aB a S) (Kw lo S) (Kw hi S) h
 |.call f es,c,E,X,S=>λh=>abh S (EachE.oks (fV es S)) h
 |.bcl f es,c,E,X,S=>λh=>abi S (EachE.oks (fV es S)) h
 |.lcl fz f es,c,E,X,S=>λh=>abj S (EachE.oks (fV es S)) h
 |.isi a t,c,E,X,S=>λh=>abn S (aB a S) h
 |.rgl fz a,c,E,X,S=>λh=>abk S (aB a S) h
 |.rgt a,c,E,X,S=>λh=>abl S (aB a S) h
 |.fld C f o,c,E,X,S=>λh=>abo S (aB o S) h
 |.mcl f C m o es,c,E,X,S=>λh=>abr S (aB o S) (EachE.oks (fV es S)) h
 |.mko C es,c,E,X,S=>λh=>abt S (EachE.oks (fV es S)) h
 |.mth m o es,c,E,X,S=>λh=>abu S (aB o S) (EachE.oks (fV es S)) h
 |.comp fz elt tg it cond N cap,c,E,X,S=>λh=>abP S (λS'=>aB elt S') (λS'=>g8 cond S') (zQ it S) h
 |.frz a,c,E,X,S=>λh=>abg S (aB a S) h
 |.dnw,c,E,X,S=>λh=>abd S h
 |.dp1 a b,c,E,X,S=>λh=>abe S (aB a S) (aB b S) h
theorem fV{Z:aj}{CX:CXT}{k:Nat}{B:Bs}:∀(x:Exs){c:CT}{E:EK}{X:Cx},Stat Z CX k c E B X->EachE Z c E B X x
 |.nil,_,_,_,_=>trivial
 |.cons e es,c,E,X,S=>⟨aB e S,fV es S⟩
theorem g8{Z:aj}{CX:CXT}{k:Nat}{B:Bs}:∀(x:Tx){c:CT}{E:EK}{X:Cx},Stat Z CX k c E B X->OkT Z c E B X x
 |.not t,c,E,X,S=>λh=>aby (g8 t S) h
 |.boo isAnd t ts,c,E,X,S=>λh=>abz (g8 t S) (Kv ts S) h
 |.yes,c,E,X,S=>λh=>nZf h
 |.val (.cmp op a b),c,E,X,S=>by
  intro h;have h:((iM _||mC _)&&aa c (.cmp op a b) _&&true)=true:=h;simp only[af]at h;exact(Kc S (aB a S) (aB b S) h.1.2).2
 |.val (.chn op op' a b d),c,E,X,S=>by
  intro h;have h:((iM _||mC _)&&aa c (.chn op op' a b d) _&&true)=true:=h;simp only[af]at h;exact(Kd S (aB a S) (aB b S) (aB d S) h.1.2).2
 |.val (.frz a),c,E,X,S=>by
  intro h;have h:((iM _||mC _)&&aa c (.frz a) _&&false)=true:=h;rw[Bool.and_false]at h;cases h
 |.val .dnw,c,E,X,S=>λh=>bR (aB .dnw S) (λz z z z h=>nZf h) h
 |.val (.dp1 a b),c,E,X,S=>λh=>bR (aB (.dp1 a b) S) (λz z z z h=>nZf h) h
 |.val (.var i),c,E,X,S=>λh=>bR (aB (.var i) S) (λz z z z h=>nZf h) h
 |.val (.cst d),c,E,X,S=>λh=>bR (aB (.cst d) S) (λz z z z h=>nZf h) h
 |.val (.glb x d),c,E,X,S=>λh=>bR (aB (.glb x d) S) (λz z z z h=>nZf h) h
 |.val (.bin op fz a b),c,E,X,S=>λh=>bR (aB (.bin op fz a b) S) (λz z z z h=>nZf h) h
 |.val (.neg a),c,E,X,S=>λh=>bR (aB (.neg a) S) (λz z z z h=>nZf h) h
 |.val (.not a),c,E,X,S=>λh=>bR (aB (.not a) S) (λz z z z h=>nZf h) h
 |.val (.boo isAnd e es),c,E,X,S=>λh=>bR (aB (.boo isAnd e es) S) (λz z z z h=>nZf h) h
 |.val (.ife t a b),c,E,X,S=>λh=>bR (aB (.ife t a b) S) (λz z z z h=>nZf h) h
 |.val (.tup es),c,E,X,S=>λh=>bR (aB (.tup es) S) (λz z z z h=>nZf h) h
 |.val (.lst fz es),c,E,X,S=>λh=>bR (aB (.lst fz es) S) (λz z z z h=>nZf h) h
 |.val (.idx a i),c,E,X,S=>λh=>bR (aB (.idx a i) S) (λz z z z h=>nZf h) h
 |.val (.slc fz a lo hi),c,E,X,S=>λh=>bR (aB (.slc fz a lo hi) S) (λz z z z h=>nZf h) h
 |.val (.call f es),c,E,X,S=>λh=>bR (aB (.call f es) S) (λz z z z h=>nZf h) h
 |.val (.bcl f es),c,E,X,S=>λh=>bR (aB (.bcl f es) S) (λz z z z h=>nZf h) h
 |.val (.lcl fz f es),c,E,X,S=>λh=>bR (aB (.lcl fz f es) S) (λz z z z h=>nZf h) h
 |.val (.rgl fz a),c,E,X,S=>λh=>bR (aB (.rgl fz a) S) (λz z z z h=>nZf h) h
 |.val (.fld C f o),c,E,X,S=>λh=>bR (aB (.fld C f o) S) (λz z z z h=>nZf h) h
 |.val (.mcl f C m o es),c,E,X,S=>λh=>bR (aB (.mcl f C m o es) S) (λz z z z h=>nZf h) h
 |.val (.mko C es),c,E,X,S=>λh=>bR (aB (.mko C es) S) (λz z z z h=>nZf h) h
 |.val (.rgt a),c,E,X,S=>λh=>bR (aB (.rgt a) S) (λz z z z h=>nZf h) h
 |.val (.isi a t),c,E,X,S=>λh=>bR (aB (.isi a t) S) (λz z z z h=>nZf h) h
 |.val (.mth m o es),c,E,X,S=>λh=>bR (aB (.mth m o es) S) (λz z z z h=>nZf h) h
 |.val (.comp fz elt tg it cond N cap),c,E,X,S=>λh=>bR (aB (.comp fz elt tg it cond N cap) S) (λz z z z h=>nZf h) h
theorem Kv{Z:aj}{CX:CXT}{k:Nat}{B:Bs}:∀(x:Txs){c:CT}{E:EK}{X:Cx},Stat Z CX k c E B X->uA Z c E B X x
 |.nil,_,_,_,_=>trivial
 |.cons e es,c,E,X,S=>⟨g8 e S,Kv es S⟩
theorem Kw{Z:aj}{CX:CXT}{k:Nat}{B:Bs}:∀(x:Ox){c:CT}{E:EK}{X:Cx},Stat Z CX k c E B X->∀y,x=.ob y->OkE Z c E B X y
 |.no,c,E,X,S,y,e=>by cases e
 |.ob z,c,E,X,S,y,e=>by injection e with e;subst e;exact aB z S
theorem zQ{Z:aj}{CX:CXT}{k:Nat}{B:Bs}:∀(x:It'){c:CT}{E:EK}{X:Cx},Stat Z CX k c E B X->∀{tg e:AO},cM c x tg e=true->PI X tg e (tI X.K B (wpI Z x E))
 |.seq y,c,E,X,S,tg,e,h=>abI (aB y S) (show aa c y e=true from h)
 |.rng a,c,E,X,S,tg,e,h=>abJ S (aB a S) h
 |.dwn a b d,c,E,X,S,tg,e,h=>abL S (aB a S) (aB b S) (aB d S) h
 |.enm a,c,E,X,S,tg,e,h=>abM S (aB a S) h
 |.zip a b,c,E,X,S,tg,e,h=>abN S (aB a S) (aB b S) h
end
def EnD(K:PF)(H:Hp)(F:FZ)(D:Ends):En where
 nx:=λY q=>∀H' F' g,Ext H F H' F'->EnvR K H' F' Y g->R K H' F' q->D.nx g H'
 rt:=PV K H F D.rt
 bk:=λY q=>∀H' F' g,Ext H F H' F'->EnvR K H' F' Y g->R K H' F' q->D.bk g H'
 ct:=λY q=>∀H' F' g,Ext H F H' F'->EnvR K H' F' Y g->R K H' F' q->D.ct g H'
def EnD.later{K:PF}{H H1:Hp}{F z:FZ}{D:Ends}(x:Ext H F H1 z):(EnD K H F D).Le (EnD K H1 z D):=
 ⟨λy y h H' F' g q=>h H' F' g (x.trans q),λy y h=>PV.later h x,λy y h H' F' g q=>h H' F' g (x.trans q),λy y h H' F' g q=>h H' F' g (x.trans q)⟩
def tS(K:PF)(B:Bs)(w:ak->DH->En->Prop):TS:=λD X H=>∃Y F G,Ext B.H B.F H F/\EnvR K H F Y X/\R K H F G/\w Y G (EnD K H F D)
def psI{X:Cx}{st:Stmt}{t t':TS}(h:PS X st t)(i:∀D Y H,t' D Y H->t D Y H):PS X st t':=λp9 s Y H D I q=>h p9 s Y H D I (i D Y H q)
def Ky{X:Cx}{st:AF}{t t':TS}(h:PSs X st t)(i:∀D Y H,t' D Y H->t D Y H):PSs X st t':=λp9 s Y H D I q=>h p9 s Y H D I (i D Y H q)
def uH{e:AO}(h:dj e=false)(t:Option AO)(n:Nat)(env:Env):swapsWith e t n env=pure false:=by cases e<;>first|rfl|exact nomatch (show true=false from h)
def zR{e:AO}(h:dj e=false)(t:AO)(n:Nat)(env:Env):swapsWithSole [t] e n env=pure false:=uH h _ _ _
section
variable {Z:aj} {CX:CXT} {k:Nat} {c:CT} {E:EK} {B:Bs} {X:Cx}
abbrev OkS(Z:aj)(c:CT)(E:EK)(B:Bs)(X:Cx)(x:Sx):Prop:=∀{st:Stmt},bw c x st=true->PS X st (tS X.K B (wpS Z x E))
abbrev jZ(Z:aj)(c:CT)(E:EK)(B:Bs)(X:Cx)(x:Sxs):Prop:=∀{st:AF},aF c x st=true->PSs X st (tS X.K B (au Z x E))
def abQ(S:Stat Z CX k c E B X){x:Ex}{st:Stmt}(h:bw c (.exp x) st):PS X st (tS X.K B (wpS Z (.exp x) E)):=by
 replace h:=aaK h;let(_,_,rfl,h):=h
 .rw[af]at h;show psI (Um (aB x S h.2) (uH (!!h.1) _ _ _)) λD W H I=>el I λY F G z he r hw=>?_;rw[yE]at hw;exact aL z he r hw λd G1 H1 N v q O L g J U=>q _ _ _ L g J
def abR(S:Stat Z CX k c E B X){i:Nat}{x:Ex}{st:Stmt}(h:bw c (.asg (.nm i) x) st=true):PS X st (tS X.K B (wpS Z (.asg (.nm i) x) E)):=by
 replace h:=J7 h;let(tg,e,pos,rfl,h):=h
 .simp only[af]at h;let((h1,h2),O):=h;have O:(!dj e||Js x)=true:=O;replace h1:=zF h1;let(y,py,rfl,h1):=h1
  .rw[af,a9]at h1;let(l,f):=S.sto y h1.2;have hi:X.N[i]?=-y:=by rw[S.N];exact h1.1
   have go:∀(D:Ends)(W:L2.St)(H:Hp),tS X.K B (wpS Z (.asg (.nm i) x) E) D W H->rK (tE X.K B (wpE Z x E)) (lz i) D W H:=λD W H hq=>el hq λY F G e0 he r hw=>by
    rw[lU]at hw;show aL e0 he r hw λd G1 H1 F1 v q e1 x1 he1 r1 rv=>?_;unfold bG at q;exact q _ _ _ x1 (he1.set rv i) r1
   cases hc:dj e with
   |false=>exact psI (v7 S.nd hi l (aB x S h2) (uH hc _ _ _) f) go
   |true=>
    rw[hc,Bool.not_true,Bool.false_or]at O;cases x with
    |comp fz J tg it I N cap=>
     let(L,tg',iter,ifs,scope,pos',rfl,C):=Ku h2;let(s1,s2,s3,s4):=Ks S C.sc;have U:∃b:Bool,swapsWith (.ListComp L [⟨tg',iter,ifs,0⟩] scope pos') (-(.Name y py)) pos.line X.env=pure b:=⟨_,rfl⟩;let(b,U):=U;cases b with
     |false=>exact psI (v7 S.nd hi l (aB _ S h2) U f) go
     |true=>
      show psI (Yh (lim:=true) (Gv _ _ _ _ _ _) S.nd hi l (N.map Str.ofString) cap S.calm (zQ it S C.it) (uG S.N C.cap) s1 s2 s3 s4 (zP C.it X.env) U f) λD W H hq=>el hq λY F G e0 he r hw=>?_;rw[lU]at hw;rw[yQ]at hw;show Kr (fz:=fz) (Q:=λv H1=>D.nx (W.set i (-v)) H1) S C.nd (λS'=>aB J S') (λS'=>g8 I S') C.tg C.cd C.el e0 he r (lV it (λitems g G1 q=>?_) hw);show tM (λd ρ' G' k1 k2 hk z=>gC (λρ1 z=>dC I (λb G2 z=>by
       cases b with
       |true=>exact aJ J (λy G3 z=>hk _ _ _ z) z
       |false=>exact hk _ _ _ z) z) tg z) ?_ _ _ _ _ q
      .intro ds G2 q;show dO (λd G3 q=>?_) q;intro H1 F1 v x1 r1 rv;unfold bG at q;exact q _ _ _ x1 ((he.ext x1).set rv i) r1
    |_=>cases O
def abS(S:Stat Z CX k c E B X){ts:Tgs}{x:Ex}{st:Stmt}(h:bw c (.asg (.tp ts) x) st=true):PS X st (tS X.K B (wpS Z (.asg (.tp ts) x) E)):=by
 replace h:=J7 h;let(tg,e,pos,rfl,h):=h
 .rw[af,af]at h;have g:(!Jt e&&!dj e)=true:=h.2;let(h1,h2):=h.1;rw[af,fR,fR]at g;let(h3,h4):=g;have hg:=uD S (.tp ts) h1;replace h1:=zG h1;let(_,_,_,rfl,h1):=h1
  .show psI (v6 (aB x S h2) hg (zR h4 _ _ _) ?_ rfl) λD W H hq=>el hq λY F G U he r hw=>?_
   .cases e<;>first|rfl|exact nomatch (show true=false from h3)
   .rw[lU]at hw;show aL U he r hw λd G1 H1 N v q e1 x1 I O rv=>?_;exact⟨Y,N,G1,d,e1,I,O,rv,gC (λρ' z L J=>z H1 N L x1 J O) (.tp ts) q⟩
def abT(S:Stat Z CX k c E B X){o i o2 g x:Ex}{st:Stmt}(h:bw c (.sw2 o i o2 g x) st):PS X st (tS X.K B (wpS Z (.sw2 o i o2 g x) E)):=by
 let(o',i',p1,o2',i2',p2,kk,p3,a',b',k2,p4,pos,rfl,hh):=aaL h;simp only[af]at hh;let((((h1,h2),h3),h4),h5):=hh;have hi:=bI i h2;have hi2:=bI g h4;show psI (v6 (aB x S h5) (vY (n:=2) S.calm (lA (vZ (aB o S h1) (aB i S h2) (ug (dX S)) ?_) (lA (vZ (aB o2 S h3) (aB g S h4) (ug (dX S)) ?_) vX rfl) rfl) rfl rfl) (zR rfl _ _ _) YS rfl) λD W H hq=>el hq λY F G e0 he r hw=>?_
 .intro v;cases i'<;>first|rfl|exact nomatch (show false=true from hi)
 .intro v;cases i2'<;>first|rfl|exact nomatch (show false=true from hi2)
 .rw[yF]at hw;show aL e0 he r hw λd G1 H1 F1 v q e1 x1 J r1 rv=>?_;split at q
  .rename_i u w;let(a,vs,rfl,fz,t):=rv;let(v1,_,rfl,t1,t):=t;let(v2,_,rfl,t2,t):=t;have t:_=[]:=t;subst t;show⟨a,_,rfl,fz.sq,rfl,v1,[v2],rfl,?_⟩;show aL e1 J r1 q λa1 G2 H2 F2 w1 q e2 x2 L r2 rw1=>?_;show aL e2 L r2 q λy1 G3 H3 F3 u1 q e3 z N r3 ru1=>?_;show⟨F3,G3,a1,y1,u,r3,rw1.ext z,ru1,t1.ext (x2.trans z),gW (λG4 q=>?_) q⟩;intro H4 F4 I r4;show⟨v2,[],rfl,?_⟩;show aL (e3.trans I) (N.ext I) r4 q λa2 G5 H5 F5 w2 q e5 x5 O r5 rw2=>?_;show aL e5 O r5 q λy2 G6 H6 F6 u2 q e6 x6 U r6 ru2=>?_;show⟨F6,G6,a2,y2,w,r6,rw2.ext x6,ru2,t2.ext (x2.trans (z.trans (I.trans (x5.trans x6)))),gW (λG7 q=>?_) q⟩;intro H7 F7 x7 r7;exact⟨rfl,q _ _ _ (x1.trans (x2.trans (z.trans (I.trans (x5.trans (x6.trans x7)))))) (U.ext x7) r7⟩
  .exact q.elim
def abU(S:Stat Z CX k c E B X){o i x:Ex}{st:Stmt}(h:bw c (.set o i x) st):PS X st (tS X.K B (wpS Z (.set o i x) E)):=by
 replace h:=aaM h;let(o',i',tpos,e,pos,rfl,h):=h
 .simp only[af,fR]at h;let(((h1,h2),h3),h4):=h;have hi:=bI i h2;show psI (v6 (aB x S h3) (vZ (aB o S h1) (aB i S h2) (ug (dX S)) ?_) (zR h4 _ _ _) ?_ rfl) λD W H hq=>el hq λY F G e0 he r hw=>?_
  .intro v;cases i'<;>first|rfl|exact nomatch (show false=true from hi)
  .cases e<;>rfl
  .rw[yG]at hw;show aL e0 he r hw λd G1 H1 F1 v q e1 x1 g r1 rv=>?_;show aL e1 g r1 q λa G2 H2 F2 w q e2 N z r2 J=>?_;show aL e2 z r2 q λy G3 H3 U u q e3 L I r3 ru=>?_;show⟨U,G3,a,y,d,r3,J.ext L,ru,rv.ext (N.trans L),gW (λG4 q=>?_) q⟩;intro H4 F4 O r4;exact q _ _ _ (x1.trans (N.trans (L.trans O))) (I.ext O) r4
def abV(S:Stat Z CX k c E B X){i:Nat}{op:Operator}{x:Ex}{st:Stmt}(h:bw c (.aug i op x) st):PS X st (tS X.K B (wpS Z (.aug i op x) E)):=by
 replace h:=aaN h;let(y,py,o,e,pos,rfl,h):=h
 .simp only[af,a9]at h;let((((rfl,h1),h2),h3),U):=h;let(l,f):=S.sto y h2;show psI (Uz S.nd (by rw[S.N];exact h1) l (aB x S U) (Iw o) f) λD W H hq=>el hq λY F G O he r hw=>?_;rw[yH]at hw;split at hw
  .rename_i a ha;let(v,I,rv):=he.get ha;show⟨v,I,aL O he r hw λb G1 H1 N u q I J g r1 ru=>?_⟩;show⟨N,G1,a,b,r1,rv.ext J,ru,tH (λd q=>?_) q⟩;intro H2 F2 w L r2 z;exact q _ _ _ (J.trans L) ((g.ext L).set z i) r2
  .exact hw.elim
def abW(S:Stat Z CX k c E B X){o i:Ex}{op:Operator}{x:Ex}{st:Stmt}(h:bw c (.augs o i op x) st):PS X st (tS X.K B (wpS Z (.augs o i op x) E)):=by
 replace h:=aaO h;let(o',i',tpos,p,e,pos,rfl,h):=h
 .simp only[af,a9]at h;let(((rfl,h1),h2),h3):=h;have hi:=bI i h2;show psI (UJ (aB o S h1) (aB i S h2) (aao (dX S)) (aB x S h3) (Iw p) (ug (dX S)) ?_) λD W H hq=>el hq λY F G e0 he r hw=>?_
  .intro a b d;cases i'<;>first|rfl|exact nomatch (show false=true from hi)
  .rw[yI]at hw;show aL e0 he r hw λa G1 H1 F1 v q e1 x1 L r1 rv=>?_;show aL e1 L r1 q λy G2 H2 F2 u q e2 x2 N r2 ru=>?_;show⟨F2,G2,a,y,r2,rv.ext x2,ru,tD (λU q=>?_) q⟩;intro H3 F3 w g r3 rw';show aL (e2.trans g) (N.ext g) r3 q λb G4 H4 F4 z q e4 I O r4 rz=>?_;show⟨F4,G4,U,b,r4,rw'.ext I,rz,tH (λcc q=>?_) q⟩;intro H5 F5 z' J r5 rz';show⟨F5,G4,a,y,cc,r5,rv.ext (x2.trans (g.trans (I.trans J))),ru.ext (g.trans (I.trans J)),rz',gW (λG6 q=>?_) q⟩;intro H6 F6 x6 r6;exact q _ _ _ (x1.trans (x2.trans (g.trans (I.trans (J.trans x6))))) (O.ext (J.trans x6)) r6
def abX(S:Stat Z CX k c E B X){x:Ex}{st:Stmt}(h:bw c (.ret x) st):PS X st (tS X.K B (wpS Z (.ret x) E)):=by
 replace h:=aaP h;let(_,_,rfl,h):=h
 .show psI (DK (aB x S h)) λD W H q=>el q λY F G g he r hw=>?_;rw[yJ]at hw;exact⟨Y,F,G,g,he,r,hw⟩
def abY{st:Stmt}(h:bw c .rtn st):PS X st (tS X.K B (wpS Z .rtn E)):=by
 replace h:=aaQ h;let(_,rfl,h):=h
 .show psI Up λD W H g=>el g λY F G q he r hw=>?_;rw[yK]at hw;exact hw.now r rfl
def abZ(S:Stat Z CX k c E B X){t:Tx}{a b:Sxs}(z:jZ Z c E B X a)(I:jZ Z c E B X b){st:Stmt}(h:bw c (.ite t a b) st):PS X st (tS X.K B (wpS Z (.ite t a b) E)):=by
 replace h:=aaR h;let(_,_,_,_,rfl,h):=h
 .simp only[af]at h;let((h1,h2),h3):=h;show psI (Ur (g8 t S h1) (z h2) (I h3)) λD W H hq=>el hq λY F G e0 he r hw=>?_;rw[yL]at hw;show iU e0 he r hw λU G1 H1 J q L O g N=>?_;cases U with
  |true=>
   rw[if_pos rfl];exact⟨Y,J,G1,L,g,N,dR a (EnD.later O) q⟩
  |false=>
   rw[if_neg bq];exact⟨Y,J,G1,L,g,N,dR b (EnD.later O) q⟩
theorem ab0(S:Stat Z CX k c E B X){t:Tg}{it:It'}{b:Sxs}(ihb:jZ Z c E B X b){st:Stmt}(h:bw c (.for_ t it b) st):PS X st (tS X.K B (wpS Z (.for_ t it b) E)):=by
 replace h:=aaS h;let(tg,iter,body,pos,rfl,h):=h
 .simp only[af]at h;let((h1,h2),h3):=h;show psI (DX S.own S.calm (zQ it S h2) (uD S t h1) (ihb h3) (zP h2 X.env)) λD V H hq=>el hq λY F G e0 he r hw=>?_;rw[Hw]at hw;show⟨Y,F,G,e0,he,r,lV it (λI g G1 q H1 F1 J x1 r1 W=>?_) hw⟩;let step:RF.D->ak->DH->(ak->DH->Prop)->Prop:=λd L N k=>bG t d L N λρ1=>au Z b E ρ1 N {EnD X.K H F D with nx:=k,ct:=k,bk:=(EnD X.K H F D).nx}
  let P:Nat->L2.St->Hp->Prop:=λi σ' H'=>∃L F' N,Ext B.H B.F H' F'/\Ext H1 F1 H' F'/\EnvR X.K H' F' L σ'/\R X.K H' F' N/\forLoop step g (I.drop i) L N (EnD X.K H F D).nx
  show⟨λi m σ' H'=>m=I⁻¹-i/\i<=I⁻¹/\P i σ' H',⟨I⁻¹,!2,dA _,Y,F1,G1,e0.trans x1,Ext.refl _ _,he.ext x1,r1,q⟩,?_⟩;rintro i m σ' H' ⟨rfl,hle,L,F',N,eB,e1,he',r',hl⟩;by_cases O:i<I⁻¹
  .have hd:I.drop i=I[i]::I.drop (i+1):=br O;rw[hd]at hl;let(hh,hl):=hl;show .inr ⟨W.go H' F' N i e1 r' hh O,P (i+1),λσ2 H2 p=>⟨I⁻¹-(i+1),!0,rfl,O,p⟩,λx H2 hy=>?_⟩;let(U,ry,rx):=W.yld H' F' i x H2 I[i] N e1 r' hh (by simp[O]) hy;show⟨L,F',N,I[i],eB.trans U,he'.ext U,ry,rx,gC (λρ1 z σ1 hσ1=>?_) t hl⟩;show⟨ρ1,F',N,eB.trans U,hσ1,ry,dR b (D:={EnD X.K H F D with nx:=λL N=>forLoop step g (I.drop (i+1)) L N (EnD X.K H F D).nx,ct:=λL N=>forLoop step g (I.drop (i+1)) L N (EnD X.K H F D).nx,bk:=(EnD X.K H F D).nx}) ⟨λρ2 G2 z H3 F3 σ3 x3 he3 r3=>?_,λd G2 z=>PV.later z (x1.trans (e1.trans U)),λρ2 G2 z H3 F3 σ3 x3=>z H3 F3 σ3 (x1.trans (e1.trans (U.trans x3))),λρ2 G2 z H3 F3 σ3 x3 he3 r3=>?_⟩ z⟩
   .exact ⟨ρ2,F3,G2,eB.trans (U.trans x3),e1.trans (U.trans x3),he3,r3,z⟩
   .exact ⟨ρ2,F3,G2,eB.trans (U.trans x3),e1.trans (U.trans x3),he3,r3,z⟩
  .have hi':i=I⁻¹:=by lia
   subst hi';rw[gg]at hl;exact .inl ⟨W.stop H' F' N e1 r' hl.1,hl.2 _ _ _ (x1.trans e1) he' r'⟩
def ab1(S:Stat Z CX k c E B X){t:Tx}{b:Sxs}(ihb:jZ Z c E B X b){st:Stmt}(h:bw c (.whl t b) st):PS X st (tS X.K B (wpS Z (.whl t b) E)):=by
 replace h:=aaT h;let(_,_,_,rfl,h):=h
 .simp only[af]at h;let(h1,h2):=h;show psI (UT S.own (g8 t S h1) (ihb h2)) λD W H hq=>el hq λY F G e0 he r hw=>?_;rw[Hx]at hw;let(n,hw):=hw;let J:ak->DH->(Bool->DH->Prop)->Prop:=λg I k=>wpT Z t E g I k
  let bd:ak->DH->(ak->DH->Prop)->Prop:=λg I k=>au Z b E g I {EnD X.K H F D with nx:=k,ct:=k,bk:=(EnD X.K H F D).nx}
  let P:Nat->L2.St->Hp->Prop:=λm σ' H'=>∃g F' I,Ext B.H B.F H' F'/\Ext H F H' F'/\EnvR X.K H' F' g σ'/\R X.K H' F' I/\whileLoop J bd m g I (EnD X.K H F D).nx
  show⟨P,⟨n,Y,F,G,e0,Ext.refl _ _,he,r,hw⟩,?_⟩;rintro m σ' H' ⟨g,F',I,eB,e1,he',r',hl⟩;cases m with
  |zero=>exact hl.elim
  |succ m=>
   show iU eB he' r' hl λb' G1 H1 F1 q e2 x2 he2 r2=>?_;cases b' with
   |true=>
    rw[if_pos rfl];show⟨P m,λσ2 H2 p=>⟨m,fv _,p⟩,g,F1,G1,e2,he2,r2,dR b (D:={EnD X.K H F D with nx:=λg I=>whileLoop J bd m g I (EnD X.K H F D).nx,ct:=λg I=>whileLoop J bd m g I (EnD X.K H F D).nx,bk:=(EnD X.K H F D).nx}) ⟨λL G2 z H3 F3 U O N r3=>?_,λd G2 z=>PV.later z (e1.trans x2),λL G2 z H3 F3 U O=>z H3 F3 U (e1.trans (x2.trans O)),λL G2 z H3 F3 U O N r3=>?_⟩ q⟩
    .exact ⟨L,F3,G2,e2.trans O,e1.trans (x2.trans O),N,r3,z⟩
    .exact ⟨L,F3,G2,e2.trans O,e1.trans (x2.trans O),N,r3,z⟩
   |false=>
    rw[if_neg bq];exact q _ _ _ (e1.trans x2) he2 r2
def ab2{st:AF}(h:aF c .nil st):PSs X st (tS X.K B (au Z .nil E)):=by
 unfold aF at h;cases st with
 |nil=>exact Ky Ue λD W H g=>el g λY F G q he r hw=>by rw[lQ]at hw;exact hw _ _ _ (Ext.refl _ _) he r
 |cons _ _=>cases h
def ab3{x:Sx}{xs:Sxs}(ih:OkS Z c E B X x)(I:jZ Z c E B X xs){st:AF}(h:aF c (.cons x xs) st):PSs X st (tS X.K B (au Z (.cons x xs) E)):=by
 unfold aF at h;split at h
 .rw[af]at h;show Ky (lu (ih h.1) (I h.2)) λD W H hq=>el hq λY F G N he r hw=>?_;rw[lR]at hw;show⟨Y,F,G,N,he,r,wpS_mono x (D:={EnD X.K H F D with nx:=λJ G'=>au Z xs E J G' (EnD X.K H F D)}) ⟨λL G1 q H1 U σ1 O g r1=>?_,λy y z=>z,λy y z=>z,λy y z=>z⟩ hw⟩;exact⟨L,U,G1,N.trans O,g,r1,dR xs (EnD.later O) q⟩
 .cases h
end
mutual
theorem zT{Z:aj}{CX:CXT}{k:Nat}{B:Bs}{c:CT}{E:EK}{X:Cx}(S:Stat Z CX k c E B X):∀(x:Sx),OkS Z c E B X x
 |.exp e=>λh=>abQ S h
 |.asg (.nm i) e=>λh=>abR S h
 |.asg (.tp ts) e=>λh=>abS S h
 |.sw2 o i o2 i2 x=>λh=>abT S h
 |.set o i e=>λh=>abU S h
 |.aug i op e=>λh=>abV S h
 |.augs o i op e=>λh=>abW S h
 |.ret e=>λh=>abX S h
 |.rtn=>λh=>abY h
 |.ite t a b=>λh=>abZ S (j0 S a) (j0 S b) h
 |.for_ t it b=>λh=>ab0 S (j0 S b) h
 |.whl t b=>λh=>ab1 S (j0 S b) h
 |.pas=>by
  intro h;let(_,rfl,_):=aaU h;exact psI Ui λD W H hq=>el hq λY F G e0 he r hw=>by rw[yM]at hw;exact hw _ _ _ (Ext.refl _ _) he r
 |.brk=>by
  intro h;let(_,rfl,_):=aaV h;exact psI Uj λD W H hq=>el hq λY F G e0 he r hw=>by rw[yN]at hw;exact hw _ _ _ (Ext.refl _ _) he r
 |.cnt=>by
  intro h;let(_,rfl,_):=aaW h;exact psI Uk λD W H hq=>el hq λY F G e0 he r hw=>by rw[yO]at hw;exact hw _ _ _ (Ext.refl _ _) he r
 |.nev=>by
  intro h;exact psI Ut λD W H hq=>el hq λY F G e0 he r hw=>by rw[yP]at hw;exact hw.elim
theorem j0{Z:aj}{CX:CXT}{k:Nat}{B:Bs}{c:CT}{E:EK}{X:Cx}(S:Stat Z CX k c E B X):∀(x:Sxs),jZ Z c E B X x
 |.nil=>λh=>ab2 h
 |.cons s r=>λh=>ab3 (zT S s) (j0 S r) h
end
end RF
namespace L2
open PySem PySem.Spec PyProof.Rows
def Fun.okX{P:AK}{w:World}{K:PF}{mg:AH}{base:Heap}{CX:CXT}{x qual:Str}{st:Stmt}{f:AQ}{fd:AJ}{N ps:AD}{k:Nat}{sp:Sp}(F:Fun K x qual st f fd)(S:FnScope N ps (ao st))(len:∀vs H Q E,sp vs H Q E->vs⁻¹=ps⁻¹)
  (g:∀(cdv:AN)(A:AM)(outer:List Env)(s:AI)(H:Hp)(vs:AR)(Q:VK)(E:XK),Room k (A.deeper (envOfC qual (ao st) (~~~s) f cdv))->sp vs H Q E->
   ∃t,PSs (c7 CX P w K mg base N qual (ao st) f cdv A outer s H E) (aG st) t/\t {nx:=λy H'=>Q .non H',rt:=Q} (start N vs) H):FnOk P w K mg base CX (k+1) f fd ps sp:=by
 let(Y,od,kV,I,pm,U,cdv,ct,O,rfl,L,q):=F.ex;exact V5 L q S len λA outer s H vs Q E J z=>g cdv A outer s H vs Q E J z
def FnOk.cx{P:AK}{w:World}{K:PF}{mg:AH}{base:Heap}{k:Nat}{CX:CXT}{f:AQ}{fd:AJ}{ps:AD}{sp:Sp}(F:FnOk P w K mg base CX0 k f fd ps sp):FnOk P w K mg base CX k f fd ps sp:=
 ⟨F.len,λA outer s H args us vs Q E z he q I hs=>codeAny_mono (F.run A outer s H args us vs Q E z he q I hs) λr s' g=>by
  cases r with
  |error e=>exact False.elim g
  |ok fl=>cases fl<;>exact g⟩
end L2
namespace RF
open PySem PySem.Spec PyProof.Rows L2
def fnB(N ps:AD)(g:Scope):Bool:=
 decide (g.kind=.function)&&!g.isCoroutine&&!g.isGenerator&&fQ N&&(N.take ps⁻¹==ps)&&ps.all (λx=>g.names.lookup x==-.local||g.names.lookup x==-.cell)&&g.names.all (λy=>y.2 != .free)
def uI{N ps:AD}{g:Scope}(h:fnB N ps g):FnScope N ps g:=by unfold fnB at h;simp only[af,fR,dE,a9,b9,dQ,bne_iff_ne]at h;let((((((h1,h2),q),z),I),J),L):=h;exact⟨h1,h2,q,zO z,I,J,λy O=>L y O⟩
structure Bse(Z:aj)(P:AK)(w:World)(K:PF)(mg:AH)(base:Heap)(CX:CXT)(k:Nat)(fs:List (AL×Nat))(bt:List AL)(cn:List (AL×D))(xs:List (AL×Bool))(ot:OT):Prop where
 call:∀f n,(f,n)∈fs->∃fa fd ps,FnOk P w K mg base CX k fa fd ps (lift K n (Z f))/\PySem.W.keepIn K (.ref fa)=true/\Binds K fd ps []/\mg (⇑f)=some (.ref fa)
 blt:∀f,f∈bt->mg (⇑f)=none
 con:∀x d,(x,d)∈cn->∃u v,mg (⇑x)=some u/\RelV v u/\∀H F,Rep K H F d v
 xcl:∀C,xs.contains (C,true)=true->∃a,mg (⇑C)=some (.ref a)/\rZ K a=true/\PySem.W.nsIn K mainGlobals (⇑C)=some (some (.ref a))
 xis:∀C',xs.contains (C',false)=true->∃cv,CV K mg C' cv/\∀C,xs.contains (C,true)=true->XI K C C' cv
 mth:∀f C m n,(f,C,m,n)∈ot.ms->MthOk Z P w K mg base CX k f C m n
 mko:∀C n,(C,n)∈ot.ks->MkoOk Z P w K mg base CX k C n
 fld:∀C f,(C,f)∈ot.fl->zH K C f
 xko:∀C f,(C,f)∈ot.xk->XkoX P w K mg base CX k xs C f
def aH(N:AD)(g:Scope)(fs:List (AL×Nat))(bt:List AL)(cn:List (AL×D))(xs:List (AL×Bool))(ot:OT):CT:={N:=N,kd:=g.names,fn:=true,fs:=fs,bt:=bt,cn:=cn,xs:=xs,ot:=ot}
section
variable {Z:aj} {P:AK} {w:World} {K:PF} {mg:AH} {base:Heap} {k:Nat} {fs:List (AL×Nat)} {bt:List AL} {cn:List (AL×D)} {xs:List (AL×Bool)} {ot:OT}
def zU{N ps:AD}{g:Scope}{qual:Str}{f:AQ}{cdv:AN}{A:AM}{outer:List Env}{s:AI}{H:Hp}{EX:XK}{B:Bs}(T:Bse Z P w K mg base (CX1 P w) k fs bt cn xs ot)(hs:fnB N ps g)
  (z:Room k (A.deeper (envOfC qual g (~~~s) f cdv))):Stat Z (CX1 P w) k (aH N g fs bt cn xs ot) noE B (c7 (CX1 P w) P w K mg base N qual g f cdv A outer s H EX).nox where
 N:=rfl
 nd:=(uI hs).nd
 calm:=rfl
 own:=PassesOwn.never
 kd:=rfl
 vis:=λx h=>by
  have h:iJ (g.names.lookup x)=true:=h;change g.names.lookup x=_\/g.names.lookup x=_\/g.names.lookup x=_;unfold iJ at h;split at h<;>first | (cases h;done)|simp_all
 cel:=λx h=>h
 glo:=λx h=>h
 sto:=λx h=>by
  have h:(g.names.lookup x==-.local||(true&&g.names.lookup x==-.cell))=true:=h;rw[Bool.true_and,dQ,a9,a9]at h;exact⟨h,.inl rfl⟩
 room:=z
 call:=T.call
 blt:=T.blt
 con:=T.con
 exc:=⟨_,Gk _,λy y y y y y y y y y q=>q.elim,λy y y y h=>h.elim⟩
 nox:=λY=>Gk Y
 xcl:=T.xcl
 loc:=λx h=>h
 xis:=T.xis
 mth:=T.mth
 mko:=T.mko
 fld:=T.fld
 xko:=T.xko
 trc:=λy=>⟨rfl,rfl,rfl⟩
def ab4{N ps:AD}{g:Scope}{qual:Str}{f:AQ}{cdv:AN}{A:AM}{outer:List Env}{s:AI}{H:Hp}{EX:XK}{B:Bs}{E:EK}(T:Bse Z P w K mg base (CX1 P w) k fs bt cn xs ot)(hs:fnB N ps g)
  (I:Room k (A.deeper (envOfC qual g (~~~s) f cdv))) (z:∀x q H' F',E x q->Ext B.H B.F H' F'->R K H' F' q->XR K H' F' x EX):Stat Z (CX1 P w) k (aH N g fs bt cn xs ot) E B (c7 (CX1 P w) P w K mg base N qual g f cdv A outer s H EX):=
 have S:=zU (EX:=EX) (B:=B) (qual:=qual) (f:=f) (cdv:=cdv) (A:=A) (outer:=outer) (s:=s) (H:=H) T hs I
 ⟨S.N,S.nd,S.calm,PassesOwn.leaving,S.kd,S.vis,S.cel,S.glo,S.sto,S.room,S.call,S.blt,S.con,⟨EX,Xx rfl rfl λy y h=>h,XC rfl rfl λy y h=>h,z⟩,S.nox,S.xcl,S.loc,S.xis,S.mth,S.mko,S.fld,S.xko,λy=>⟨rfl,rfl,rfl⟩⟩
def ab5{outer:List Env}{H:Hp}{s s':AI}{e:AN}(h:CX1 P w outer H s (λz z z=>False) e s'):False:=by let(_,_,_,_,_,_,_,_,_,q):=h;exact q
def ends(Q:AT):En:={nx:=λz G=>Q .non G,rt:=Q,bk:=λz z=>False,ct:=λz z=>False}
def env0(ds:AS)(n:Nat):ak:=ds.map some++List.replicate n none
theorem mO{x qual:Str}{st:Stmt}{f:AQ}{fd:AJ}(I:Fun K x qual st f fd)(T:Bse Z P w K mg base (CX1 P w) k fs bt cn xs ot){N ps:AD}{body:Sxs}(S:RF.Spec)(n m:Nat)(hs:fnB N ps (ao st))
  (hc:aF (aH N (ao st) fs bt cn xs ot) body (aG st)=true) (hn:ps⁻¹=n) (hm:N⁻¹=n+m)
  (hw:∀ds G a,ds⁻¹=n->S.pre ds G a->au Z body noE (env0 ds m) G (ends (S.post a))):FnOk P w K mg base (CX1 P w) (k+1) f fd ps (lift K n S):=by
 show I.okX (uI hs) (λvs H Q E h=>by rw[hn];exact h.1) λcdv A outer s H vs Q EX J z=>?_;let(hl,F,G,ds,r,rs,a,h1,h2,h3):=z;have St:Stat Z (CX1 P w) k (aH N (ao st) fs bt cn xs ot) noE ⟨H,F⟩ (c7 (CX1 P w) P w K mg base N qual (ao st) f cdv A outer s H EX).nox:=zU T hs J;show⟨_,(j0 St body hc).nox,?_⟩;show⟨env0 ds m,F,G,Ext.refl _ _,?_,r,dR body (D:=ends (S.post a)) ⟨λY g q=>?_,λd g q=>h2 d g q,λy y q=>False.elim q,λy y q=>False.elim q⟩ (hw ds G a (by rw[rs⁻¹];exact hl) h1)⟩
 .unfold L2.start;rw[show N⁻¹-vs⁻¹=m by lia];exact EnvR.start m rs
 .intro H' F' U O _ L;exact h2 .non g q H' F' .non O L rfl
end
def bT(pre:AS->DH->Prop)(post:AS->DH->D->DH->Prop):RF.Spec where
 A:=AS×DH
 pre:=λds G a=>a=(ds,G)/\pre ds G
 post:=λa d g=>post a.1 a.2 d g
 exc:=λz z z=>False
def cI{pre:AS->DH->Prop}{post:AS->DH->D->DH->Prop}{ds:AS}{G:DH}{k:AT}{E:EK}(h:pre ds G)(q:∀d g,post ds G d g->k d g):(bT pre post).t ds G k E:=
 ⟨(ds,G),⟨rfl,h⟩,q,λy y z=>z.elim⟩
def cO{Z:aj}{body:Sxs}{m n:Nat}{pre:AS->DH->Prop}{post:AS->DH->D->DH->Prop}(h:∀ds G,pre ds G->au Z body noE (env0 ds m) G (ends (post ds G))):
  ∀ds G a,ds⁻¹=n->(bT pre post).pre ds G a->au Z body noE (env0 ds m) G (ends ((bT pre post).post a)):=by
 rintro ds G a _ ⟨rfl,h1⟩;exact h ds G h1
def aV(f:AS->Option D):RF.Spec:=bT (λds z=>(f ds).isSome=true) (λds G d g=>g=G/\f ds=-d)
def dG{f:AS->Option D}{ds:AS}{d:D}{G:DH}{k:AT}{E:EK}(h:f ds=-d)(z:k d G):(aV f).t ds G k E:=
 cI (by rw[h];rfl) λd' I zZ=>by let(q,g):=zZ;rw[h]at g;cases g;rw[q];exact z
def iW{Z:aj}{body:Sxs}{m n:Nat}{f:AS->Option D}(h:∀ds G d,f ds=-d->au Z body noE (env0 ds m) G (ends λd' g=>g=G/\d'=d)):
  ∀ds G a,ds⁻¹=n->(aV f).pre ds G a->au Z body noE (env0 ds m) G (ends ((aV f).post a)):=by
 show cO λds G z=>?_;let(d,e):=ce.mp z;show dR body (D:=ends λd' g=>g=G/\d'=d) ⟨λY g q=>?_,λd' g q=>?_,λy y q=>q,λy y q=>q⟩ (h ds G d e)
 .exact ⟨q.1,by rw[e];exact eS some q.2.symm⟩
 .exact ⟨q.1,by rw[e];exact eS some q.2.symm⟩
def ab6{step:D->ak->DH->(ak->DH->Prop)->Prop}{g:Hld}{q:AS}{Y:ak}{G:DH}{k:ak->DH->Prop}(P:Nat->ak->DH->Prop)(h0:P 0 Y G)(hh:∀i Y G,P i Y G->held g G)
  (hs:∀i d Y G,q[i]?=-d->P i Y G->∀kk:ak->DH->Prop,(∀z I,P (i+1) z I->kk z I)->step d Y G kk) (he:∀Y G,P q⁻¹ Y G->k Y G):forLoop step g q Y G k:=by
 have go:∀(l:AS)(i:Nat)(Y:ak)(G:DH),q.drop i=l->i<=q⁻¹->P i Y G->forLoop step g l Y G k:=by
  intro l;induction l with
  |nil=>
   intro i Y G e hi p;have:i=q⁻¹:=by have:=eS List.length e;rw[de]at this;simp at this;lia
   subst this;exact⟨hh _ _ _ p,he _ _ p⟩
  |cons d l J=>
   intro i Y G e hi p;have hl:i<q⁻¹:=by
    by_cases h:i<q⁻¹
    .exact h
    .rw[e7 (!0)]at e;cases e
   rw[br hl]at e;injection e with e1 e2;show⟨hh _ _ _ p,hs i d Y G (by rw[ai hl,e1]) p _ λz I L=>J (i+1) z I e2 hl L⟩
 exact go _ 0 Y G (!2) (dA _) h0
def Kz{step:D->ak->DH->(Option D->ak->DH->Prop)->Prop}{g:Hld}{z q:AS}{Y:ak}{G:DH}{k:AS->DH->Prop}(P:Nat->AS->ak->DH->Prop)(h0:P 0 q Y G)(hh:∀i q Y G,P i q Y G->held g G)
  (hl:q⁻¹+z⁻¹<=sz)
  (hs:∀i d q Y G,z[i]?=-d->P i q Y G->∀kk:Option D->ak->DH->Prop,(∀o I J,P (i+1) (q++o.toList) I J->kk o I J)->step d Y G kk) (he:∀q Y G,P z⁻¹ q Y G->k q G):compLoop step g z q Y G k:=by
 have go:∀(l:AS)(i:Nat)(q:AS)(Y:ak)(G:DH),z.drop i=l->i<=z⁻¹->q⁻¹+l⁻¹<=sz->P i q Y G->compLoop step g l q Y G k:=by
  intro l;induction l with
  |nil=>
   intro i q Y G e hi L p;have:i=z⁻¹:=by have:=eS List.length e;rw[de]at this;simp at this;lia
   subst this;exact⟨hh _ _ _ _ p,!!L,he _ _ _ p⟩
  |cons d l N=>
   intro i q Y G e hi L p;have hl:i<z⁻¹:=by
    by_cases h:i<z⁻¹
    .exact h
    .rw[e7 (!0)]at e;cases e
   rw[br hl]at e;injection e with e1 e2;have U:q⁻¹+(l⁻¹+1)<=sz:=L;show⟨hh _ _ _ _ p,!0,hs i d q Y G (by rw[ai hl,e1]) p _ λo I J O=>?_⟩;cases o with
   |some y=>exact N (i+1) (q++[y]) I J e2 hl (by rw[am];simp;lia) O
   |none=>exact N (i+1) q I J e2 hl (!0) (!!O)
 exact go _ 0 q Y G (!2) (dA _) hl h0
def ab7{step:D->ak->DH->(Option D->ak->DH->Prop)->Prop}{q:AS}{Y:ak}{G:DH}{k:AS->DH->Prop}(g:Hld)(f:D->Option D)(I:ak->Prop)(h0:I Y)(O:held g G)(hl:q⁻¹<=sz)
  (hs:∀d Y,d∈q->I Y->∀kk:Option D->ak->DH->Prop,(∀z,I z->kk (f d) z G)->step d Y G kk) (he:k (q.filterMap f) G):compLoop step g q [] Y G k:=by
 show Kz (λi J z L=>I z/\L=G/\J=(q.take i).filterMap f) ⟨h0,rfl,rfl⟩ (λi J z L p=>by rw[p.2.1];exact O) (!!hl) ?_ ?_
 .rintro i d J z L N ⟨p1,rfl,rfl⟩ kk U;show hs d z (ck N) p1 kk λρ2 i2=>U _ _ _ ⟨i2,rfl,?_⟩;rw[eM,N,List.filterMap_append];congr 1
 .rintro J z L ⟨_,rfl,rfl⟩;rw[fw];exact he
def ab8{step:D->ak->DH->(Option D->ak->DH->Prop)->Prop}{q:AS}{Y:ak}{G:DH}{k:AS->DH->Prop}(g:Hld)(f:D->D)(I:ak->Prop)(h0:I Y)(J:held g G)(hl:q⁻¹<=sz)
  (hs:∀d Y,d∈q->I Y->∀kk:Option D->ak->DH->Prop,(∀z,I z->kk (-(f d)) z G)->step d Y G kk) (he:k (q.map f) G):compLoop step g q [] Y G k:=
 ab7 g (λd=>-(f d)) I h0 J hl hs (by rw[<-List.filterMap_eq_map]at he;exact he)
def zV{g:Type}(f:g->Bool):∀l:List g,bools (l.map λx=>D.bl (f x))=-(l.map f)
 |[]=>rfl
 |x::l=>by simp[bools,zV f l]
def strs_map{g:Type}(f:g->AA):∀l:List g,bH (l.map λx=>D.str (f x))=-(l.map f)
 |[]=>rfl
 |x::l=>by simp[bH,strs_map f l]
def KC:∀l:List (AA),eX [] l=l.flatten
 |[]=>rfl
 |[x]=>by simp[eX]
 |x::y::r=>by simp[eX,KC (y::r)]
def Sa(G g:DH):Prop:=∀b o,G b=-o->g b=-o
def Sb(p:AQ)(G g:DH):Prop:=∀b o,G b=-o->b≠p->g b=-o
def Sb.refl(p:AQ)(G:DH):Sb p G G:=λz z h z=>h
def Sa.trans{G G1 G2:DH}(a:Sa G G1)(b:Sa G1 G2):Sa G G2:=λc o h=>b c o (a c o h)
def Sb.trans{p:AQ}{G G1 G2:DH}(a:Sb p G G1)(b:Sb p G1 G2):Sb p G G2:=λc o h n=>b c o (a c o h n) n
def Sa.sb{p:AQ}{G g:DH}(a:Sa G g):Sb p G g:=λc o h z=>a c o h
def Sa.new{G:DH}{p:AQ}{o:DO}(h:G p=none):Sa G (aK G p o):=λb u e=>by rw[bu (lJ e h)];exact e
def Sb.upd{G:DH}{p:AQ}{o:DO}:Sb p G (aK G p o):=λb u e n=>by rw[bu n];exact e
def Sa.then{p:AQ}{G G1 G2:DH}(a:Sa G G1)(g:G p=none)(b:Sb p G1 G2):Sa G G2:=λc o h=>b c o (a c o h) (lJ h g)
def Sa.frz{G G1:DH}{p:AQ}(a:Sa G G1)(g:G p=none):Sa G (gP G1 p):=λc o h=>by rw[jB (lJ h g)];exact a c o h
def ab9{g:Type}{a:g}{l:List g}:atI (a::l) 0=-a:=bL (j:=0) rfl
def aca{g:Type}{a b:g}{l:List g}:atI (a::b::l) 1=-b:=bL (j:=1) rfl
def acb{g:Type}{a b c:g}{l:List g}:atI (a::b::c::l) 2=-c:=bL (j:=2) rfl
def acd{g:Type}{a b c d:g}{l:List g}:atI (a::b::c::d::l) 3=-d:=bL (j:=3) rfl
def KD{n j:Nat}(h:j<n):ixN n (j:Int)=-j:=by unfold ixN;rw[if_pos (!0),if_pos (!0)];simp
def ace{n:Nat}:ixN (n+1) 0=-0:=by unfold ixN;rw[if_pos (!0),if_pos (!0)];rfl
def acf{n:Nat}:ixN (n+2) 1=-1:=by unfold ixN;rw[if_pos (!0),if_pos (!0)];rfl
def acg{n:Nat}:ixN (n+3) 2=-2:=by unfold ixN;rw[if_pos (!0),if_pos (!0)];rfl
def ach{g:Type}{xs:List g}{i:Int}(h0:0<=i)(h1:i<xs⁻¹):∃a,atI xs i=-a/\a∈xs:=by
 let(n,rfl):=cr h0;have hn:n<xs⁻¹:=by lia
 exact⟨xs[n],bL (by simp[hn]),cq _⟩
def KH{g:Type}(xs:List g)(lo hi:Option Int):(cut xs lo hi)⁻¹<=xs⁻¹:=by unfold cut;rw[b6,de];lia
def aci{l:AS}:b7 l []=l.isEmpty:=by cases l<;>rfl
def zW{g:Type}(l:List g)(n:Nat):cut l none (-(n:Int))=l.take n:=by
 unfold cut;rw[show HT.sIx l⁻¹ 0 none=0 from rfl,HT.Ew,List.drop_zero,Nat.sub_zero];by_cases h:n<=l⁻¹
 .rw[Nat.min_eq_left h]
 .rw[g9 (!0),eK (ar _),eK (!0)]
def zX{g:Type}(l:List g)(n:Nat):cut l (-(n:Int)) none=l.drop n:=by
 unfold cut;rw[show HT.sIx l⁻¹ l⁻¹ none=l⁻¹ from rfl,HT.Ew];by_cases h:n<=l⁻¹
 .rw[Nat.min_eq_left h,eK (by rw[de];exact ar _)]
 .rw[g9 (!0),Nat.sub_self,List.take_zero,e7 (!0)]
def KJ{g:Type}(l:List g)(n:Nat):cut l (-((n:Int)+1)) none=l.drop (n+1):=zX l (n+1)
def uJ:∀{l:AS},(∀d∈l,nr d=true)->nrs l=true
 |[],_=>rfl
 |a::l,h=>by rw[nrs,h a ba,uJ λd g=>h d (aS _ g)];rfl
def KN{n:Nat}:∀{l:AS},(∀d∈l,dpt d<=n)->aW l<=n
 |[],_=>dA _
 |a::l,h=>by rw[aW];exact Nat.max_le.mpr ⟨h a ba,KN λd g=>h d (aS _ g)⟩
def acj{q:Type}{g:List q->Prop}(l:List q)(nil:g [])(snoc:∀(l:List q)(a:q),g l->g (l++[a])):g l:=by
 have go:∀(n:Nat)(l:List q),l⁻¹=n->g l:=by
  intro n;induction n with
  |zero=>intro l h;rw[ee.mp h];exact nil
  |succ n I=>
   intro l h;have z:l≠[]:=by rintro rfl;simp at h
   rw[<-fE z];exact snoc _ _ (I _ (by rw[List.length_dropLast];lia))
 exact go _ l rfl
section
variable {G:DH} {k:AT} {fz:Bool} {kb:Bool->Prop} {kd:D->Prop} {p:AQ}
theorem ack{i j:Int}:cX .Add fz (.int i) (.int j) G k=k (.int (i+j)) G:=rfl
theorem acl{x y:AA}:cX .Add fz (.str x) (.str y) G k=(x⁻¹+y⁻¹<=sz/\k (.str (x++y)) G):=rfl
theorem acn{x y:AS}:cX .Add fz (.lst x) (.lst y) G k=(x⁻¹+y⁻¹<=sz/\mk fz (x++y) G k):=rfl
theorem aco{x y:AS}:cX .Add fz (.tup x) (.tup y) G k=(x⁻¹+y⁻¹<=sz/\k (.tup (x++y)) G):=rfl
theorem acp{i j:Int}:cX .Sub fz (.int i) (.int j) G k=k (.int (i-j)) G:=rfl
theorem acq{i j:Int}:cX .Mult fz (.int i) (.int j) G k=(CMul i j/\k (.int (i*j)) G):=rfl
theorem acr{x:AS}{n:Int}:cX .Mult fz (.lst x) (.int n) G k=(0<=n/\n<=1000/\x⁻¹*n.toNat<=sz/\mk fz (reps x n.toNat) G k):=rfl
theorem acs{x:AA}{n:Int}:cX .Mult fz (.str x) (.int n) G k=(0<=n/\n<=1000/\x⁻¹*n.toNat<=sz/\k (.str (reps x n.toNat)) G):=rfl
theorem acu{i j:Int}:cX .FloorDiv fz (.int i) (.int j) G k=((0<j/\j<1152921504606846976)/\k (.int (i/j)) G):=rfl
theorem acv{i j:Int}:cX .Mod fz (.int i) (.int j) G k=(0<j/\k (.int (i%j)) G):=rfl
theorem acw{i j:Int}:cX .Pow fz (.int i) (.int j) G k=(rN i j/\k (.int (i ^ j.toNat)) G):=rfl
def fW:D->Bool
 |.non=>true
 |_=>false
theorem acx{a b:D}:bc .Eq a b kb=((nr a=true/\nr b=true/\min (dpt a) (dpt b)<=60)/\kb (deq a b)):=rfl
theorem acy{a b:D}:bc .NotEq a b kb=((nr a=true/\nr b=true/\min (dpt a) (dpt b)<=60)/\kb (!deq a b)):=rfl
theorem acz{i j:Int}:bc .Lt (.int i) (.int j) kb=kb (decide (i<j)):=rfl
theorem acA{i j:Int}:bc .LtE (.int i) (.int j) kb=kb (decide (i<=j)):=rfl
theorem acB{i j:Int}:bc .Gt (.int i) (.int j) kb=kb (decide (j<i)):=rfl
theorem acC{i j:Int}:bc .GtE (.int i) (.int j) kb=kb (decide (j<=i)):=rfl
theorem acD{i j:AA}:bc .Lt (.str i) (.str j) kb=kb (decide (i<j)):=rfl
theorem acE{i j:AA}:bc .LtE (.str i) (.str j) kb=kb (!decide (j<i)):=rfl
def acF{a:D}:bc .Is a .non kb=kb (fW a):=by cases a<;>rfl
def acG{a:D}:bc .IsNot a .non kb=kb (!fW a):=by cases a<;>rfl
theorem acH{a b:Bool}:bc .Is (.bl a) (.bl b) kb=kb (a==b):=rfl
theorem acI{a b:Bool}:bc .IsNot (.bl a) (.bl b) kb=kb (a != b):=rfl
theorem acJ{c:Nat}{l:AA}:bc .In (.str [c]) (.str l) kb=kb (l.contains c):=rfl
theorem acK{c:Nat}{l:AA}:bc .NotIn (.str [c]) (.str l) kb=kb (!l.contains c):=rfl
theorem acL{a:D}{l:AS}:bc .In a (.lst l) kb=((nr a=true/\nrs l=true/\aW l<=60)/\kb (isIn a l)):=rfl
theorem acM{a:D}{l:AS}:bc .In a (.tup l) kb=((nr a=true/\nrs l=true/\aW l<=60)/\kb (isIn a l)):=rfl
theorem acN{a:D}{l:AS}:bc .NotIn a (.lst l) kb=((nr a=true/\nrs l=true/\aW l<=60)/\kb (!isIn a l)):=rfl
theorem acO{a:D}{l:AS}:bc .NotIn a (.tup l) kb=((nr a=true/\nrs l=true/\aW l<=60)/\kb (!isIn a l)):=rfl
theorem acP{i:Int}:fW (.int i)=false:=rfl
theorem acQ{i:Bool}:fW (.bl i)=false:=rfl
theorem acR{i:AA}:fW (.str i)=false:=rfl
theorem acS{i:AS}:fW (.tup i)=false:=rfl
theorem acT{i:AS}:fW (.lst i)=false:=rfl
theorem acU{i:AQ}:fW (.ref i)=false:=rfl
theorem acV:fW .non=true:=rfl
def aR{g:Type}(o:Option g)(k:g->Prop):Prop:=match o with|some a=>k a|none=>False
theorem uK{g:Type}{a:g}{k:g->Prop}:aR (-a) k=k a:=rfl
def bU{g:Type}{o:Option g}{a:g}{k:g->Prop}(e:o=-a)(h:k a):aR o k:=by rw[e];exact h
def KQ{g:Type}{xs:List g}{i:Int}{k:g->Prop}(h0:0<=i)(h1:i<xs⁻¹)(h:∀a,a∈xs->k a):aR (atI xs i) k:=by let(a,e,m):=ach h0 h1;exact bU e (h a m)
def acW{ds:AS}{i:Int}:cB (.lst ds) (.int i) kd=aR (atI ds i) kd:=by unfold cB aR;(try dsimp only)<;>(cases atI ds i<;>rfl)
def acX{ds:AS}{i:Int}:cB (.tup ds) (.int i) kd=aR (atI ds i) kd:=by unfold cB aR;(try dsimp only)<;>(cases atI ds i<;>rfl)
def acY{l:AA}{i:Int}:cB (.str l) (.int i) kd=aR (atI l i) (λc=>kd (.str [c])):=by unfold cB aR;(try dsimp only)<;>(cases atI l i<;>rfl)
theorem acZ{ds:AS}{lo hi:Option Int}:eV fz (.lst ds) lo hi G k=mk fz (cut ds lo hi) G k:=rfl
theorem ac0{ds:AS}{y:D}:sG fz (.lst ds) y G k=(y=.int (Neg.neg 1)/\mk fz ds.reverse G k):=rfl
theorem ac1{ds:List Int}{lo hi:Option Int}:eV fz (.scr ds) lo hi G k=mk fz ((cut ds lo hi).map .int) G k:=rfl
theorem ac2{ds:AS}{lo hi:Option Int}:eV fz (.tup ds) lo hi G k=k (.tup (cut ds lo hi)) G:=rfl
theorem ac3{ds:AA}{lo hi:Option Int}:eV fz (.str ds) lo hi G k=k (.str (cut ds lo hi)) G:=rfl
theorem ac4{ds:AS}:opB .len [.lst ds] kd=kd (.int ds⁻¹):=rfl
theorem ac5{ds:AS}:opB .len [.tup ds] kd=kd (.int ds⁻¹):=rfl
theorem ac6{ds:AA}:opB .len [.str ds] kd=kd (.int ds⁻¹):=rfl
def ac7{ds:AS}{i:Int}:opM .idxL (.lst ds) [.int i] G k=aR (aZ ds) (λns=>i∈ns/\k (.int (ns.idxOf i:Nat)) G):=by unfold opM jM aR;(try dsimp only[view])<;>(cases aZ ds<;>rfl)
def ac8{ds:AS}:opB .all [.lst ds] kd=aR (bools ds) (λbs=>kd (.bl (bs.all id))):=by unfold opB sH aR;(try dsimp only)<;>(cases bools ds<;>rfl)
theorem ac9{b:Bool}:opB .int [.bl b] kd=kd (.int (if b then 1 else 0)):=rfl
theorem ada{b:Int}:opB .int [.int b] kd=kd (.int b):=rfl
def adb{l:AA}:opB .int [.str l] kd=aR (PySem.intText? (tx l)) (λn=>l⁻¹<=640/\kd (.int n)):=by unfold opB sI aR;(try dsimp only)<;>(cases PySem.intText? (tx l)<;>rfl)
def adc{ds:AS}:opB .sum [.lst ds] kd=aR (aZ ds) (λns=>kd (.int ns.sum)):=by unfold opB xq aR;(try dsimp only)<;>(cases aZ ds<;>rfl)
theorem ade{a:Int}:opB .str [.int a] kd=((0<=a/\a<100)/\kd (.str (gR a.toNat))):=rfl
theorem adf{a:Int}:opB .abs [.int a] kd=kd (.int (if a<0 then Neg.neg a else a)):=rfl
theorem adg{a b:Int}:opB .min2 [.int a,.int b] kd=kd (.int (if b<a then b else a)):=rfl
theorem adh{a b:Int}:opB .max [.int a,.int b] kd=kd (.int (if b > a then b else a)):=rfl
def adi{ds:AS}{q:AS->Prop}:cR .sorted [.tup ds] q=aR (aZ ds) (λns=>ns⁻¹<64/\∀g:List Int,g.Perm ns->g.Pairwise (·<=·)->q (g.map D.int)):=by unfold cR lM aR;(try dsimp only)<;>(cases aZ ds<;>rfl)
def adk{ds:AS}{kd:D->Prop}:Hq (.lst ds) kd=aR (lK ds) (λks=>ks⁻¹<=200/\kd (.int ((Hk ks)⁻¹:Nat))):=by unfold Hq aR;(try dsimp only)<;>(cases lK ds<;>rfl)
def adl{ds:AS}{z:AS->Prop}:lN (.lst ds) z=aR (bH ds) (λq=>(q⁻¹<=1000/\(sJ q)⁻¹<=64)/\∀g:List (AA),g.Perm (sJ q)->z (g.map D.str)):=by unfold lN aR;(try dsimp only)<;>(cases bH ds<;>rfl)
def adm{ds:AS}{q:AS->Prop}:cR .sorted [.lst ds] q=aR (bH ds) (λz=>z⁻¹<64/\∀g:List (AA),g.Perm z->PyProof.Rows.sortedS (g.map tx)=true->q (g.map D.str)):=by unfold cR lM aR;(try dsimp only)<;>(cases bH ds<;>rfl)
theorem adn{ds:AS}:opB .tuple [.lst ds] kd=kd (.tup ds):=rfl
theorem ado{ds:AS}:opB .tuple [.tup ds] kd=kd (.tup ds):=rfl
theorem adp{ds:AS}{g:AS->Prop}:cR .list [.lst ds] g=g ds:=rfl
theorem adq{ds:AS}{g:AS->Prop}:cR .list [.tup ds] g=g ds:=rfl
theorem adt{l:AA}{g:AS->Prop}:cR .list [.str l] g=g (l.map λc=>.str [c]):=rfl
def adu{s:AA}{ds:AS}:opM .join (.str s) [.lst ds] G k=aR (bH ds) (λg=>((g.map (·.length)).sum+g⁻¹*s⁻¹<=sz)/\k (.str (eX s g)) G):=by unfold opM sO aR;(simp only[bg,gL,view])<;>(cases bH ds<;>rfl)
def trk(G:DH)(p:AQ)(k:AS->Prop):Prop:=match G p with|some (.lst ds)=>k ds|_=>False
def adv:Hs (.ref p) G k=trk G p (λz=>k .non (aK G p (.lst []))):=by unfold Hs trk;(try dsimp only)<;>(cases G p<;>first|rfl | (rename_i o;cases o<;>rfl))
def cJ{ds:AS}{k:AS->Prop}(e:G p=-(.lst ds)):trk G p k=k ds:=by unfold trk;rw[e]
def adw{x:D}:opM .append (.ref p) [x] G k=trk G p (λds=>ds⁻¹<sz/\k .non (aK G p (.lst (ds++[x])))):=by unfold opM sS trk;(try dsimp only)<;>(cases G p<;>first|rfl | (rename_i o;cases o<;>rfl))
def KR{i:Int}:opM .pop (.ref p) [.int i] G k=trk G p (λds=>0<=i/\i<=1000000/\aR ds[i.toNat]? λy=>k y (aK G p (.lst (ds.eraseIdx i.toNat)))):=by
 unfold opM sV trk
 (try dsimp only)<;>(cases G p<;>first|rfl | (rename_i o;cases o with|lst ds=>unfold aR;dsimp only;cases ds[i.toNat]?<;>rfl|dct _ _=>rfl))
def KY:recv .pop (.ref p) G=trk G p (λz=>True):=by unfold recv trk;(try dsimp only)<;>(cases G p<;>first|rfl | (rename_i o;cases o<;>rfl))
def adx{xs:AS}:opM .extend (.ref p) [.lst xs] G k=trk G p (λds=>ds⁻¹+xs⁻¹<sz/\k .non (aK G p (.lst (ds++xs)))):=by unfold opM sU trk;(simp only[bg,gL,view])<;>(cases G p<;>first|rfl | (rename_i o;cases o<;>rfl))
theorem ady{i j:Nat}{ds:AS}{Y:ak}{kk:ak->DH->Prop}:Zj i j (.lst ds) Y G kk=(ds≠[]/\∀xs y,ds=xs++[y]->kk ((Y.set i (-(.lst xs))).set j (-y)) G):=rfl
theorem adz{C:AL}{xs:List AL}{kk:Bool->Prop}:xG C xs .non kk=kk false:=rfl
theorem adA{C c:AL}{xs:List AL}{kk:Bool->Prop}:xG C xs (.exn c) kk=(xs.contains c=true/\kk (gU c C)):=rfl
theorem adB{C c f:AL}{d:D}{xs:List AL}{kk:Bool->Prop}:xG C xs (.exa c f d) kk=(xs.contains c=true/\kk (gU c C)):=rfl
def x_at{C f:AL}{v:D}{kk:D->Prop}:Hr C f (.exa C f v) kk=kk v:=by simp[Hr]
theorem adC{b f:AL}{d:D}:view G (.exa b f d)=.exa b f d:=rfl
theorem adD{s:AA}:recv .join (.str s) G=True:=rfl
def adE:recv .append (.ref p) G=trk G p (λz=>True):=by unfold recv trk;(try dsimp only)<;>(cases G p<;>first|rfl | (rename_i o;cases o<;>rfl))
def adF:recv .extend (.ref p) G=trk G p (λz=>True):=by unfold recv trk;(try dsimp only)<;>(cases G p<;>first|rfl | (rename_i o;cases o<;>rfl))
def adG{i:Int}{x:D}{g:DH->Prop}:cL (.ref p) (.int i) x G g=trk G p (λds=>aR (ixN ds⁻¹ i) (λj=>g (aK G p (.lst (ds.set j x))))):=by
 unfold cL trk aR
 (try dsimp only)<;>(cases G p<;>first|rfl | (rename_i o;cases o with|lst ds=>dsimp only;cases ixN ds⁻¹ i<;>rfl|dct _ _=>rfl))
def uL{l:AS}{kk:List Int->Prop}:cF (.tup l) kk=aR (aZ l) kk:=by unfold cF aR;dsimp only;cases aZ l<;>rfl
theorem KZ{a:D}{ks:List (List Int)}{ds:AS}:bc .In a (.dct ks ds) kb=cF a λn=>kb (kIx ks n).isSome:=rfl
theorem K1{a:D}{ks:List (List Int)}{ds:AS}:bc .NotIn a (.dct ks ds) kb=cF a λn=>kb (!(kIx ks n).isSome):=rfl
def K3{ks:List (List Int)}{ds:AS}{l:AS}:cB (.dct ks ds) (.tup l) kd=cF (.tup l) λn=>aR (kIx ks n) λi=>aR ds[i]? kd:=by
 unfold cB cF aR;dsimp only;cases aZ l with
 |none=>rfl
 |some n=>dsimp only;cases kIx ks n with
  |none=>rfl
  |some i=>dsimp only;cases ds[i]?<;>rfl
theorem adH{ks:List (List Int)}{ds:AS}:opB .len [.dct ks ds] kd=kd (.int ks⁻¹):=rfl
theorem adI{ks:List (List Int)}{ds:AS}{g:AS->Prop}:cR .list [.dct ks ds] g=g (ks.map λn=>.tup (n.map .int)):=rfl
def mQ(G:DH)(p:AQ)(k:List (List Int)->AS->Prop):Prop:=match G p with|some (.dct ks ds)=>k ks ds|_=>False
def K4{ks:List (List Int)}{ds:AS}{k:List (List Int)->AS->Prop}(e:G p=-(.dct ks ds)):mQ G p k=k ks ds:=by unfold mQ;rw[e]
def K5{l:AS}{x:D}{g:DH->Prop}:cL (.ref p) (.tup l) x G g=mQ G p (λks ds=>cF (.tup l) λn=>ks⁻¹<sz/\g (aK G p (dput ks ds n x))):=by
 unfold cL mQ;dsimp only;cases G p with
 |none=>rfl
 |some o=>cases o<;>rfl
def ie{ks:List (List Int)}{ds:AS}(e:G p=-(.dct ks ds)):view G (.ref p)=.dct ks ds:=by unfold view;dsimp only;rw[e]
theorem adJ{i j:Int}:d7 .Add (.int i) (.int j) kd=kd (.int (i+j)):=rfl
theorem adK{x y:AA}:d7 .Add (.str x) (.str y) kd=(x⁻¹+y⁻¹<=sz/\kd (.str (x++y))):=rfl
theorem adL{i j:Int}:d7 .Sub (.int i) (.int j) kd=kd (.int (i-j)):=rfl
theorem adM{xs:AS}:mk true xs G k=k (.lst xs) G:=rfl
theorem adN{xs:AS}:mk false xs G k=∀p,G p=none->k (.ref p) (aK G p (.lst xs)):=rfl
theorem adO:view G .non=.non:=rfl
theorem adP{b:Bool}:view G (.bl b)=.bl b:=rfl
theorem adQ{b:Int}:view G (.int b)=.int b:=rfl
theorem adR{b:AA}:view G (.str b)=.str b:=rfl
theorem adS{b:AS}:view G (.tup b)=.tup b:=rfl
theorem adT{b:AS}:view G (.lst b)=.lst b:=rfl
theorem adU{C f:AL}{q:AQ}:view G (.obj C f q)=.obj C f q:=rfl
theorem adV{b:AL}:view G (.exn b)=.exn b:=rfl
theorem adW{b:List Int}:view G (.scr b)=.scr b:=rfl
def du{ds:AS}(e:G p=-(.lst ds)):view G (.ref p)=.lst ds:=by unfold view;dsimp only;rw[e]
theorem adX:truth .non=-false:=rfl
theorem adY{b:Bool}:truth (.bl b)=-b:=rfl
theorem adZ{i:Int}:truth (.int i)=-(i != 0):=rfl
theorem ad0{l:AA}:truth (.str l)=-(!l.isEmpty):=rfl
theorem ad1{l:AS}:truth (.tup l)=-(!l.isEmpty):=rfl
theorem ad2{l:AS}:truth (.lst l)=-(!l.isEmpty):=rfl
theorem ad3{l:AS}:itemsOf G (.lst l)=-(l,[]):=rfl
theorem ad4{l:AS}:itemsOf G (.tup l)=-(l,[]):=rfl
theorem ad5{l:AA}:itemsOf G (.str l)=-(l.map λc=>.str [c],[]):=rfl
theorem ad6{t:AL}:isT t .non=-false:=rfl
theorem ad7 {t:AL} {b:Bool}:isT t (.bl b)=-(t=="bool"||t=="int"):=rfl
theorem ad8 {t:AL} {b:Int}:isT t (.int b)=-(t=="int"):=rfl
theorem ad9 {t:AL} {b:AA}:isT t (.str b)=-(t=="str"):=rfl
theorem is_tup {t:AL} {b:AS}:isT t (.tup b)=-(t=="tuple"):=rfl
theorem aea {t:AL} {b:AS}:isT t (.lst b)=-(t=="list"):=rfl
theorem aeb{i:Nat}{d:D}{Y:ak}{g:ak->Prop}:bG (.nm i) d Y G g=g (Y.set i (-d)):=rfl
theorem aec{ts:Tgs}{ds:AS}{Y:ak}{g:ak->Prop}:bG (.tp ts) (.lst ds) Y G g=bY ts ds Y G g:=rfl
theorem aed{ts:Tgs}{ds:AS}{Y:ak}{g:ak->Prop}:bG (.tp ts) (.tup ds) Y G g=bY ts ds Y G g:=rfl
theorem aee{ρ:ak}{g:ak->Prop}:bY .nil [] ρ G g=g ρ:=rfl
theorem aef{t:Tg}{r:Tgs}{d:D}{ds:AS}{Y:ak}{q:ak->Prop}:bY (.cons t r) (d::ds) Y G q=bG t d Y G (λg=>bY r ds g G q):=rfl
theorem aeg:deq .non .non=true:=rfl
theorem aeh  {y:Bool}:deq .non (.bl y)=false:=rfl
theorem aei  {y:Int}:deq .non (.int y)=false:=rfl
theorem aej  {y:AA}:deq .non (.str y)=false:=rfl
theorem aek  {y:AS}:deq .non (.tup y)=false:=rfl
theorem ael  {y:AS}:deq .non (.lst y)=false:=rfl
theorem aem{x:Bool} :deq (.bl x) .non=false:=rfl
def aen{x:Bool}{y:Bool}:deq (.bl x) (.bl y)=(x==y):=by rw[deq]
theorem aeo{x:Bool}{y:AA}:deq (.bl x) (.str y)=false:=rfl
theorem aep{x:Bool}{y:AS}:deq (.bl x) (.tup y)=false:=rfl
theorem aeq{x:Bool}{y:AS}:deq (.bl x) (.lst y)=false:=rfl
theorem aer{x:Int} :deq (.int x) .non=false:=rfl
def aes{x:Int}{y:Int}:deq (.int x) (.int y)=(x==y):=by rw[deq]
theorem aet{x:Int}{y:AA}:deq (.int x) (.str y)=false:=rfl
theorem aeu{x:Int}{y:AS}:deq (.int x) (.tup y)=false:=rfl
theorem aev{x:Int}{y:AS}:deq (.int x) (.lst y)=false:=rfl
theorem aew{x:AA} :deq (.str x) .non=false:=rfl
theorem aex{x:AA}{y:Bool}:deq (.str x) (.bl y)=false:=rfl
theorem aey{x:AA}{y:Int}:deq (.str x) (.int y)=false:=rfl
def aez{x:AA}{y:AA}:deq (.str x) (.str y)=(x==y):=by rw[deq]
theorem aeA{x:AA}{y:AS}:deq (.str x) (.tup y)=false:=rfl
theorem aeB{x:AA}{y:AS}:deq (.str x) (.lst y)=false:=rfl
theorem aeC{x:AS} :deq (.tup x) .non=false:=rfl
theorem aeD{x:AS}{y:Bool}:deq (.tup x) (.bl y)=false:=rfl
theorem aeE{x:AS}{y:Int}:deq (.tup x) (.int y)=false:=rfl
theorem aeF{x:AS}{y:AA}:deq (.tup x) (.str y)=false:=rfl
def aeG{x:AS}{y:AS}:deq (.tup x) (.tup y)=b7 x y:=by rw[deq]
theorem aeH{x:AS}{y:AS}:deq (.tup x) (.lst y)=false:=rfl
theorem aeI{x:AS} :deq (.lst x) .non=false:=rfl
theorem aeJ{x:AS}{y:Bool}:deq (.lst x) (.bl y)=false:=rfl
theorem aeK{x:AS}{y:Int}:deq (.lst x) (.int y)=false:=rfl
theorem aeL{x:AS}{y:AA}:deq (.lst x) (.str y)=false:=rfl
theorem aeM{x:AS}{y:AS}:deq (.lst x) (.tup y)=false:=rfl
def aeN{x:AS}{y:AS}:deq (.lst x) (.lst y)=b7 x y:=by rw[deq]
theorem aeO:b7 [] []=true:=rfl
def aeP{a b:D}{as bs:AS}:b7 (a::as) (b::bs)=(deq a b&&b7 as bs):=by rw[b7]
theorem aeQ{b:D}{bs:AS}:b7 [] (b::bs)=false:=rfl
theorem aeR{b:D}{bs:AS}:b7 (b::bs) []=false:=rfl
theorem aeS :nr .non=true:=rfl
theorem aeT :dpt .non=0:=rfl
theorem aeU{x:Bool}:nr (.bl x)=true:=rfl
theorem aeV{x:Bool}:dpt (.bl x)=0:=rfl
theorem aeW{x:Int}:nr (.int x)=true:=rfl
theorem aeX{x:Int}:dpt (.int x)=0:=rfl
theorem aeY{x:AA}:nr (.str x)=true:=rfl
theorem aeZ{x:AA}:dpt (.str x)=0:=rfl
def ae0{x:AS}:nr (.tup x)=nrs x:=by rw[nr]
def ae1{x:AS}:dpt (.tup x)=aW x+1:=by rw[dpt]
def ae2{x:AS}:nr (.lst x)=nrs x:=by rw[nr]
def ae3{x:AS}:dpt (.lst x)=aW x+1:=by rw[dpt]
theorem ae4:nrs []=true:=rfl
def ae5{a:D}{l:AS}:nrs (a::l)=(nr a&&nrs l):=by rw[nrs]
theorem ae6:aW []=0:=rfl
def ae7{a:D}{l:AS}:aW (a::l)=max (dpt a) (aW l):=by rw[aW]
end
def seq{Z:aj}{s:Sx}{r:Sxs}{E:EK}{Y:ak}{G:DH}{D:En}(h:∀M:ak->DH->Prop,(∀g q,au Z r E g q D->M g q)->wpS Z s E Y G {D with nx:=M}):au Z (.cons s r) E Y G D:=by rw[lR];exact h _ λz z x=>x
def last{Z:aj}{s:Sx}{E:EK}{Y:ak}{G:DH}{D:En}(h:wpS Z s E Y G D):au Z (.cons s .nil) E Y G D:=by rw[lR];exact wpS_mono s (D:=D) (D':={D with nx:=λg z=>au Z .nil E g z D}) ⟨λg z q=>(show au Z .nil E g z D from by rw[lQ];exact q),λy y q=>q,λy y q=>q,λy y q=>q⟩ h
def done{Z:aj}{E:EK}{Y:ak}{G:DH}{D:En}(h:D.nx Y G):au Z .nil E Y G D:=by rw[lQ];exact h
section
variable {Z:aj} {E:EK} {ρ:ak} {G:DH}
def ForG(Z:aj)(t:Tg)(body:Sxs)(E:EK)(D:En)(q:List RF.D)(g:Hld)(ρ:ak)(G:DH):Prop:=
 forLoop (λd z J k=>bG t d z J λI=>au Z body E I J {D with nx:=k,ct:=k,bk:=D.nx}) g q ρ G D.nx
theorem ae8{t:Tg}{it:It'}{body:Sxs}{D:En}:wpS Z (.for_ t it body) E ρ G D=wpI Z it E ρ G λq g G1=>ForG Z t body E D q g ρ G1:=rfl
def ForG.inv{t:Tg}{body:Sxs}{D:En}{q:List RF.D}{g:Hld}(P:Nat->ak->DH->Prop)(h0:P 0 ρ G)(hh:∀i ρ G,P i ρ G->held g G)
  (hs:∀i d ρ G,q[i]?=-d->P i ρ G->∀kk:ak->DH->Prop,(∀z J,P (i+1) z J->kk z J)->bG t d ρ G λI=>au Z body E I G {D with nx:=kk,ct:=kk,bk:=D.nx})
  (he:∀ρ G,P q⁻¹ ρ G->D.nx ρ G):ForG Z t body E D q g ρ G:=ab6 P h0 hh hs he
def CompG(Z:aj)(J:Ex)(tg:Tg)(I:Tx)(z:AS)(g:Hld)(ρ:ak)(G:DH)(k:AS->DH->Prop):Prop:=
 compLoop (λd L N k'=>bG tg d L N λq=>wpT Z I noE q N λb G2=>match b with|true=>wpE Z J noE q G2 λy O=>k' (-y) q O|false=>k' none q G2) g z [] ρ G k
def j4(cap:List (Option Nat))(ρ:ak):ak:=cap.map λo=>match o with|none=>none|some j=>(ρ[j]?).join
theorem ae9{ρ:ak}:j4 [] ρ=[]:=rfl
theorem afa{cap:List (Option Nat)}{ρ:ak}:j4 (none::cap) ρ=none::j4 cap ρ:=rfl
theorem afb{cap:List (Option Nat)}{ρ:ak}{j:Nat}:j4 (-j::cap) ρ=(ρ[j]?).join::j4 cap ρ:=rfl
theorem afc{fz:Bool}{I:Ex}{tg:Tg}{it:It'}{q:Tx}{N:List AL}{cap:List (Option Nat)}{k:AT}:
  wpE Z (.comp fz I tg it q N cap) E ρ G k=wpI Z it E ρ G λz g G1=>CompG Z I tg q z g (j4 cap ρ) G1 λds G2=>mk fz ds G2 k:=rfl
def CompG.inv{L:Ex}{tg:Tg}{J:Tx}{q:AS}{g:Hld}{k:AS->DH->Prop}(P:Nat->AS->ak->DH->Prop)(h0:P 0 [] ρ G)(hh:∀i z ρ G,P i z ρ G->held g G)(hl:q⁻¹<=sz)
  (hs:∀i d z ρ G,q[i]?=-d->P i z ρ G->∀kk:Option D->ak->DH->Prop,(∀o N O,P (i+1) (z++o.toList) N O->kk o N O)->
   bG tg d ρ G λI=>wpT Z J noE I G λb G2=>match b with|true=>wpE Z L noE I G2 λy U=>kk (-y) I U|false=>kk none I G2)
  (he:∀z ρ G,P q⁻¹ z ρ G->k z G):CompG Z L tg J q g ρ G k:=Kz P h0 hh (!!hl) hs he
def CompG.map{L:Ex}{tg:Tg}{J:Tx}{q:AS}{g:Hld}{k:AS->DH->Prop}(f:D->D)(I:ak->Prop)(h0:I ρ)(U:held g G)(hl:q⁻¹<=sz)
  (hs:∀d ρ,d∈q->I ρ->∀kk:Option D->ak->DH->Prop,(∀N,I N->kk (-(f d)) N G)->bG tg d ρ G λz=>wpT Z J noE z G λb G2=>match b with|true=>wpE Z L noE z G2 λy O=>kk (-y) z O|false=>kk none z G2)
  (he:k (q.map f) G):CompG Z L tg J q g ρ G k:=ab8 g f I h0 U hl hs he
def WhlG(Z:aj)(c:Tx)(body:Sxs)(E:EK)(D:En)(n:Nat)(ρ:ak)(G:DH):Prop:=
 whileLoop (λg q k=>wpT Z c E g q k) (λg q k=>au Z body E g q {D with nx:=k,ct:=k,bk:=D.nx}) n ρ G D.nx
theorem afd{c:Tx}{body:Sxs}{D:En}:wpS Z (.whl c body) E ρ G D=∃n,WhlG Z c body E D n ρ G:=rfl
theorem WhlG.inv{c:Tx}{body:Sxs}{D:En}(P:Nat->ak->DH->Prop)(hs:∀n ρ G,P n ρ G->wpT Z c E ρ G λb G1=>match b with|true=>∀kk:ak->DH->Prop,(∀m g I,m<n->P m g I->kk g I)->au Z body E ρ G1 {D with nx:=kk,ct:=kk,bk:=D.nx} |false=>D.nx ρ G1):
  ∀n ρ G,P n ρ G->WhlG Z c body E D (n+1) ρ G:=by
 intro n;induction n using Nat.strongRecOn with
 |_ n O=>
  intro ρ G p;show dC c (λb G1 q=>?_) (hs n ρ G p);cases b with
  |false=>exact q
  |true=>
   show q _ λm g I L U=>?_;have:=O m L g I U;have Y:∀(i j:Nat)(ρ:ak)(G:DH),i<=j->WhlG Z c body E D i ρ G->WhlG Z c body E D j ρ G:=by
    intro i;induction i with
    |zero=>intro j ρ G _ h;exact h.elim
    |succ i J=>
     intro j ρ G N h;cases j with
     |zero=>lia
     |succ j=>
      show dC c (λb G1 q=>?_) h;cases b with
      |false=>exact q
      |true=>exact dR body (D:={D with nx:=λg I=>WhlG Z c body E D i g I,ct:=λg I=>WhlG Z c body E D i g I,bk:=D.nx}) ⟨λg I z=>J j g I (!0) z,λy y z=>z,λy y z=>z,λg I z=>J j g I (!0) z⟩ q
   exact Y (m+1) n g I L this
end
def len0{g:Type}{l:List g}(h:l⁻¹=0):l=[]:=ee.mp h
def zY{g:Type}{n:Nat}{l:List g}(h:l⁻¹=n+1):∃a r,l=a::r/\r⁻¹=n:=by
 cases l with
 |nil=>cases h
 |cons a r=>exact⟨a,r,rfl,Nat.succ.inj h⟩
def cC{g:Type}{l:List g}(h:l⁻¹=1):∃a,l=[a]:=by let(a,r,rfl,h2):=zY h;cases len0 h2;exact⟨a,rfl⟩
def bx{g:Type}{l:List g}(h:l⁻¹=2):∃a b,l=[a,b]:=by let(a,r,rfl,h2):=zY h;let(b,rfl):=cC h2;exact⟨a,b,rfl⟩
def gG{g:Type}{l:List g}(h:l⁻¹=3):∃a b c,l=[a,b,c]:=by let(a,r,rfl,h2):=zY h;let(b,c,rfl):=bx h2;exact⟨a,b,c,rfl⟩
structure Fo(Z:aj)(P:AK)(w:World)(K:PF)(mg:AH)(base:Heap)(k:Nat)(f:AL)(n:Nat):Prop where
 ex:∃fa fd ps,FnOk P w K mg base (CX1 P w) k fa fd ps (lift K n (Z f))/\PySem.W.keepIn K (.ref fa)=true/\Binds K fd ps []/\mg (⇑f)=some (.ref fa)
section
variable {Z:aj} {P:AK} {w:World} {K:PF} {mg:AH} {base:Heap} {k:Nat} {xs:List (AL×Bool)} {ot:OT}
def AllF(Z:aj)(P:AK)(w:World)(K:PF)(mg:AH)(base:Heap)(k:Nat):List (AL×Nat)->Prop
 |[]=>True
 | (f,n)::r=>Fo Z P w K mg base k f n/\AllF Z P w K mg base k r
def AllB(mg:AH):List AL->Prop
 |[]=>True
 |f::r=>mg (⇑f)=none/\AllB mg r
def AllC(K:PF)(mg:AH):List (AL×D)->Prop
 |[]=>True
 | (x,d)::r=>(∃u v,mg (⇑x)=-u/\RelV v u/\∀H F,Rep K H F d v)/\AllC K mg r
def AllF.get:∀{fs:List (AL×Nat)}{f:AL}{n:Nat},AllF Z P w K mg base k fs->(f,n)∈fs->Fo Z P w K mg base k f n
 | (f',n')::r,f,n,h,m=>by
  rcases bo.mp m with e|m
  .cases e;exact h.1
  .exact AllF.get h.2 m
def AllB.get:∀{fs:List AL}{f:AL},AllB mg fs->f∈fs->mg (⇑f)=none
 |f'::r,f,h,m=>by
  rcases bo.mp m with e|m
  .cases e;exact h.1
  .exact AllB.get h.2 m
def AllC.get:∀{fs:List (AL×D)}{x:AL}{d:D},AllC K mg fs->(x,d)∈fs->∃u v,mg (⇑x)=-u/\RelV v u/\∀H F,Rep K H F d v
 | (f',n')::r,f,n,h,m=>by
  rcases bo.mp m with e|m
  .cases e;exact h.1
  .exact AllC.get h.2 m
def cvB(K:PF)(g:AL):Option V:=match PySem.W.nsIn K mainGlobals (⇑g) with
 |some (-(.ref a))=>if Gp K a then some (.ref a) else none
 |some none=>if g=="ValueError" then some (.ty "ValueError") else none
 |_=>none
def xiB(K:PF)(C g:AL)(q:V):Bool:=match PySem.W.nsIn K mainGlobals (⇑C) with
 |some (-(.ref c))=>wJ K c&&PySem.W.mroIn K c (valOf q)==-(gU C g)&&(gU C g||!(Value.ref c==valOf q))
 |_=>false
def zZ(K:PF)(C:AL):Bool:=match PySem.W.nsIn K mainGlobals (⇑C) with
 |some (-(.ref c))=>rZ K c
 |_=>false
def xsB(K:PF)(xs:List (AL×Bool)):Bool:=xs.all λp=>match p.2 with
 |true=>zZ K p.1
 |false=>(cvB K p.1).any λg=>xs.all λq=>!q.2||xiB K q.1 p.1 g
def afe{h:Heap}(X:K.In h)(q:h.Ns mainGlobals mg){xs:List (AL×Bool)}(e:xsB K xs)(C:AL)(z:xs.contains (C,true)=true):∃a,mg (⇑C)=-(.ref a)/\rZ K a=true/\PySem.W.nsIn K mainGlobals (⇑C)=-(-(.ref a)):=by
 have g:zZ K C=true:=b9.mp e _ (bm.mp z);unfold zZ at g;split at g
 .rename_i a hn;exact⟨a,PySem.W.mg_of X q hn,g,hn⟩
 .cases g
def afg{h:Heap}(X:K.In h)(O:h.Ns mainGlobals mg){xs:List (AL×Bool)}(e:xsB K xs)(J:AL)(L:xs.contains (J,false)=true):∃I,CV K mg J I/\∀C,xs.contains (C,true)=true->XI K C J I:=by
 have U:((cvB K J).any λI=>xs.all λq=>!q.2||xiB K q.1 J I)=true:=b9.mp e _ (bm.mp L);let(I,g,h2):=aQ U;show⟨I,?_,λC L=>?_⟩
 .unfold cvB at g;split at g
  .rename_i a hn;split at g
   .rename_i N;cases g;exact .inl ⟨a,rfl,PySem.W.mg_of X O hn,N⟩
   .cases g
  .rename_i hn;split at g
   .rename_i N;cases g;exact .inr ⟨a9.mp N,rfl,PySem.W.mg_none_of X O hn⟩
   .cases g
  .cases g
 .have z:(!true||xiB K C J I)=true:=b9.mp h2 _ (bm.mp L);have z:xiB K C J I=true:=z;unfold xiB at z;split at z
  .rename_i c hn;rw[af,af,a9]at z;show⟨c,hn,z.1.1,z.1.2,λhs=>?_⟩;have:=z.2;rw[hs,Bool.false_or,fR]at this;exact this
  .cases z
def bse{h:Heap}{fs:List (AL×Nat)}{bt:List AL}{cn:List (AL×D)}(h1:AllF Z P w K mg base k fs)(h2:AllB mg bt)(q:AllC K mg cn)(X:K.In h)(g:h.Ns mainGlobals mg)(e:xsB K xs):Bse Z P w K mg base (CX1 P w) k fs bt cn xs {}:=
 ⟨λz z m=>(h1.get m).ex,λz m=>h2.get m,λz z m=>q.get m,afe X g e,afg X g e,(λz z z z h=>(nomatch h)),(λz z h=>(nomatch h)),(λz z h=>(nomatch h)),(λz z h=>(nomatch h))⟩
def mR{x:AL}{i:Int}{t:Tok}(h:mg (⇑x)=-(.int i t)):∃u v,mg (⇑x)=-u/\RelV v u/\∀H F,Rep K H F (.int i) v:=⟨_,.int i,h,⟨t,rfl⟩,λz z=>rfl⟩
def afh{x:AL}{l:AA}{s:Str}{t:Tok}(h:mg (⇑x)=-(.str s t))(e:s=tx l)(hl:l⁻¹<=sz):∃u v,mg (⇑x)=-u/\RelV v u/\∀H F,Rep K H F (.str l) v:=⟨_,.str s,h,⟨t,rfl⟩,λz z=>⟨by rw[e],hl⟩⟩
def K6{n:Nat}{S:RF.Spec}{fa:AQ}{fd:AJ}{ps:AD}(h:∀ds G a,¬S.pre ds G a):FnOk P w K mg base (CX1 P w) k fa fd ps (lift K n S):=
 ⟨λz z z z ⟨_,_,_,_,_,_,a,g,_⟩=>absurd g (h _ _ a),λz z z z z z z z z z z z z ⟨_,_,_,_,_,_,a,g,_⟩=>absurd g (h _ _ a)⟩
end
section
variable {Z:aj} {P:AK} {w:World} {K:PF} {mg:AH} {base:Heap} {k j n:Nat} {fs:List (AL×Nat)} {bt:List AL} {cn:List (AL×D)} {xs:List (AL×Bool)} {ot:OT} {x:AL} {S:RF.Spec} {fa:AQ} {fd:AJ} {ps:AD}
def MthOk.mono{f C m:AL}(h:MthOk Z P w K mg base (CX1 P w) k f C m n)(I:k<=j):MthOk Z P w K mg base (CX1 P w) j f C m n:=by let(c,fa,fd,ps,h1,h2,g,q,z):=h;exact⟨c,fa,fd,ps,h1,h2,g,q,z.mono I⟩
def MkoOk.mono{C:AL}(h:MkoOk Z P w K mg base (CX1 P w) k C n)(g:k<=j):MkoOk Z P w K mg base (CX1 P w) j C n:=by let(c,fa,fd,ps,sp,i,h0,h):=h;exact⟨c,fa,fd,ps,sp,i,b3 h0 g,h⟩
def XkoX.mono{C f:AL}(h:XkoX P w K mg base (CX1 P w) k xs C f)(g:k<=j):XkoX P w K mg base (CX1 P w) j xs C f:=by let((c,fa,fd,ps,i,h0,h),h2):=h;exact⟨⟨c,fa,fd,ps,i,b3 h0 g,h⟩,h2⟩
def Bse.add(B:Bse Z P w K mg base (CX1 P w) k fs bt cn xs ot)(e:Z x=S)(o:FnOk P w K mg base (CX1 P w) (k+j) fa fd ps (lift K n S))(h2:PySem.W.keepIn K (.ref fa))(z:Binds K fd ps [])(I:mg (⇑x)=-(.ref fa)):Bse Z P w K mg base (CX1 P w) (k+j) ((x,n)::fs) bt cn xs ot:=by
 show⟨λf m g=>?_,B.blt,B.con,B.xcl,B.xis,λf C m n h=>(B.mth f C m n h).mono (ci _ _),λC n h=>(B.mko C n h).mono (ci _ _),B.fld,λC f h=>(B.xko C f h).mono (ci _ _)⟩;rcases bo.mp g with q|g
 .cases q;exact⟨fa,fd,ps,by rw[e];exact o,h2,z,I⟩
 .let(fa,fd,ps,h1,h):=B.call f m g;exact⟨fa,fd,ps,h1.mono (ci _ _),h⟩
def Bse.step{qual:Str}{st:Stmt}{N:AD}{body:Sxs}(B:Bse Z P w K mg base (CX1 P w) k fs bt cn xs ot)(F:Fun K (⇑x) qual st fa fd)(g:Binds K fd ps [])(q:mg (⇑x)=-(.ref fa))(e:Z x=S)(m:Nat)
  (hs:fnB N ps (ao st)) (hc:aF (aH N (ao st) fs bt cn xs ot) body (aG st)=true) (hn:ps⁻¹=n) (z:N⁻¹=n+m)
  (hw:∀ds G a,ds⁻¹=n->S.pre ds G a->au Z body noE (env0 ds m) G (ends (S.post a))):Bse Z P w K mg base (CX1 P w) (k+1) ((x,n)::fs) bt cn xs ot:=
 B.add e (mO F B S n m hs hc hn z hw) F.kp g q
def Bse.addM{C m:AL}{c:AQ}(B:Bse Z P w K mg base (CX1 P w) k fs bt cn xs ot)(e:Z x=S)(o:FnOk P w K mg base (CX1 P w) (k+j) fa fd ps (lift K n S))(h1:PySem.W.nsIn K mainGlobals (⇑C)=-(-(.ref c)))(h2:Cls K c)(I:Meth K c (⇑m) fa)(J:Binds K fd ps []):
  Bse Z P w K mg base (CX1 P w) (k+j) fs bt cn xs {ot with ms:=(x,C,m,n)::ot.ms}:=by
 show⟨λf m g=>?_,B.blt,B.con,B.xcl,B.xis,λf q L N g=>?_,λC n h=>(B.mko C n h).mono (ci _ _),B.fld,λC f h=>(B.xko C f h).mono (ci _ _)⟩
 .let(fa,fd,ps,h1,h):=B.call f m g;exact⟨fa,fd,ps,h1.mono (ci _ _),h⟩
 .rcases bo.mp g with z|g
  .cases z;exact⟨c,fa,fd,ps,h1,h2,I,J,by rw[e];exact o⟩
  .exact (B.mth f q L N g).mono (ci _ _)
def Bse.stepM0{C m:AL}{c:AQ}{nm qual:Str}{st:Stmt}{N:AD}{body:Sxs}(B:Bse Z P w K mg base (CX1 P w) k fs bt cn xs ot)(F:Fun K nm qual st fa fd)(z:Binds K fd ps [])(h1:PySem.W.nsIn K mainGlobals (⇑C)=-(-(.ref c)))(h2:Cls K c)(q:Meth K c (⇑m) fa)(e:Z x=S)(g:Nat)
  (hs:fnB N ps (ao st)) (hc:aF (aH N (ao st) fs bt cn xs ot) body (aG st)=true) (hn:ps⁻¹=n) (I:N⁻¹=n+g)
  (hw:∀ds G a,ds⁻¹=n->S.pre ds G a->au Z body noE (env0 ds g) G (ends (S.post a))):Bse Z P w K mg base (CX1 P w) (k+1) fs bt cn xs {ot with ms:=(x,C,m,n)::ot.ms}:=
 B.addM e (mO F B S n g hs hc hn I hw) h1 h2 q z
def Bse.addK{C:AL}(B:Bse Z P w K mg base (CX1 P w) k fs bt cn xs ot)(o:MkoOk Z P w K mg base (CX1 P w) (k+j) C n):Bse Z P w K mg base (CX1 P w) (k+j) fs bt cn xs {ot with ks:=(C,n)::ot.ks}:=by
 show⟨λf m g=>?_,B.blt,B.con,B.xcl,B.xis,λf C m n h=>(B.mth f C m n h).mono (ci _ _),λq I g=>?_,B.fld,λC f h=>(B.xko C f h).mono (ci _ _)⟩
 .let(fa,fd,ps,h1,h):=B.call f m g;exact⟨fa,fd,ps,h1.mono (ci _ _),h⟩
 .rcases bo.mp g with z|g
  .cases z;exact o
  .exact (B.mko q I g).mono (ci _ _)
def Bse.addF{C f:AL}(B:Bse Z P w K mg base (CX1 P w) k fs bt cn xs ot)(o:zH K C f):Bse Z P w K mg base (CX1 P w) k fs bt cn xs {ot with fl:=(C,f)::ot.fl}:=by
 show⟨B.call,B.blt,B.con,B.xcl,B.xis,B.mth,B.mko,λq I g=>?_,B.xko⟩;rcases bo.mp g with z|g
 .cases z;exact o
 .exact B.fld q I g
def iY(Z:aj)(x:AL)(S:RF.Spec):aj:=λf=>if f=x then S else Z f
def j5{y:AL}(e:Z y=S){g:RF.Spec}(h:(y==x)=false):iY Z x g y=S:=by unfold iY;rw[if_neg (!!h)];exact e
def Bse.self(B:Bse Z P w K mg base (CX1 P w) k fs bt cn xs {})(q:(fs.map (·.1)).contains x=false)(o:FnOk P w K mg base (CX1 P w) (k+j) fa fd ps (lift K n S))(h2:PySem.W.keepIn K (.ref fa))(I:Binds K fd ps [])(J:mg (⇑x)=-(.ref fa)):Bse (iY Z x S) P w K mg base (CX1 P w) (k+j) ((x,n)::fs) bt cn xs {}:=by
 show⟨λf m N=>?_,B.blt,B.con,B.xcl,B.xis,(λy y y y h=>(nomatch h)),(λy y h=>(nomatch h)),(λy y h=>(nomatch h)),(λy y h=>(nomatch h))⟩;rcases bo.mp N with z|g
 .cases z;exact⟨fa,fd,ps,by unfold iY;rw[if_pos rfl];exact o,h2,I,J⟩
 .let(fa,fd,ps,h1,h):=B.call f m g;have L:f≠x:=by
   rintro rfl;rw[<-Bool.not_eq_true,bm]at q;exact q (bP.mpr ⟨(f,m),g,rfl⟩)
  exact⟨fa,fd,ps,by unfold iY;rw[if_neg L];exact h1.mono (ci _ _),h⟩
end
def afi{S:RF.Spec}(N:∀(ns:List Int)(G:DH),ns⁻¹<=63->∃a,S.pre [.scr ns] G a/\(∀d g,S.post a d g->d=.bl true)/\∀x g,¬S.exc a x g)(K:PF)(H:Hp)(a:AQ)(ns:List Int)(hl:ns⁻¹<=63)(L:Only H)(hs:SqL K H a (ns.map V.int)):
  lift K 1 S [.ref a] H (λv y=>v=.bl true) λy y y=>False:=by
 let(b,h1,h2,J):=N ns (λy=>none) hl;show⟨rfl,λy=>False,λy=>none,[.scr ns],⟨λy f=>f.elim,λy y e=>by cases e⟩,⟨.ref a,[],rfl,⟨a,rfl,?_⟩,rfl⟩,b,h1,λd g q H' F' v y y I=>?_,λx g q=>absurd q (J x g)⟩
 .rcases hs with(h|h)|h
  .exfalso;rcases L a with z|⟨o,u,z⟩
   .rw[z]at h;cases h
   .rw[z]at h;cases h
  .exact .inl h
  .exact .inr h
 .rw[h2 d g q]at I;exact I
def afj{pre:AS->DH->Prop}(h:∀(ns:List Int)(G:DH),ns⁻¹<=63->pre [.scr ns] G):∀(ns:List Int)(G:DH),ns⁻¹<=63->∃a,(bT pre (λy y d y=>d=.bl true)).pre [.scr ns] G a/\(∀d g,(bT pre (λy y d y=>d=.bl true)).post a d g->d=.bl true)/\∀x g,¬(bT pre (λy y d y=>d=.bl true)).exc a x g:=
 λns G hl=>⟨([.scr ns],G),⟨rfl,h ns G hl⟩,λy y q=>q,λy y z=>z⟩
def ghS{A:Type}(pre:A->AS->DH->Prop)(post:A->DH->D->DH->Prop):RF.Spec where
 A:=A×DH
 pre:=λds G a=>a.2=G/\pre a.1 ds G
 post:=λa d g=>post a.1 a.2 d g
 exc:=λz z z=>False
def dH{A:Type}{pre:A->AS->DH->Prop}{post:A->DH->D->DH->Prop}{ds:AS}{G:DH}{k:AT}{E:EK}(a:A)(h:pre a ds G)(q:∀d g,post a G d g->k d g):(ghS pre post).t ds G k E:=
 ⟨(a,G),⟨rfl,h⟩,q,λy y z=>z.elim⟩
def eE{A:Type}{Z:aj}{body:Sxs}{m n:Nat}{pre:A->AS->DH->Prop}{post:A->DH->D->DH->Prop}(h:∀a ds G,pre a ds G->au Z body noE (env0 ds m) G (ends (post a G))):
  ∀ds G a,ds⁻¹=n->(ghS pre post).pre ds G a->au Z body noE (env0 ds m) G (ends ((ghS pre post).post a)):=by
 rintro ds G ⟨a,G0⟩ _ ⟨rfl,h1⟩;exact h a ds _ h1
def bV{A:Type}(args:A->AS)(ok:A->Prop)(val:A->D):RF.Spec:=ghS (λa ds z=>ds=args a/\ok a) (λa G d g=>g=G/\d=val a)
def b8{A:Type}{args:A->AS}{ok:A->Prop}{val:A->D}{ds:AS}{G:DH}{k:AT}{E:EK}(a:A)(e:ds=args a)(h:ok a)(z:k (val a) G):(bV args ok val).t ds G k E:=
 dH a ⟨e,h⟩ λd I zZ=>by let(g,q):=zZ;subst g q;exact z
def cg{A:Type}{Z:aj}{body:Sxs}{m n:Nat}{args:A->AS}{ok:A->Prop}{val:A->D}(h:∀a G,ok a->au Z body noE (env0 (args a) m) G (ends λd g=>g=G/\d=val a)):
  ∀ds G a,ds⁻¹=n->(bV args ok val).pre ds G a->au Z body noE (env0 ds m) G (ends ((bV args ok val).post a)):=
 eE λa ds G zZ=>by let(e,h1):=zZ;subst e;exact h a G h1
def uM(c:CT)(g f:AL)(q:AF):Bool:=(two q).any λs=>az (iR s.2) λa=>(one a.1).any λtg=>az (iQ tg) λv=>bw c (.exp (.call g (.cons (.var 1) .nil))) s.1&&aa c (.var 0) v.1&&v.2.1==⇑f&&!dj a.2.1&&aa c (.lst false (.cons (.var 1) .nil)) a.2.1
def afk{c:CT}{g f:AL}{z:AF}(h:uM c g f z):∃q o n p e pos,z=[q,.Assign [.Attribute o n p] e pos]/\bw c (.exp (.call g (.cons (.var 1) .nil))) q=true/\aa c (.var 0) o=true/\n=⇑f/\dj e=false/\aa c (.lst false (.cons (.var 1) .nil)) e=true:=by unfold uM at h;let(s,hs,h):=aQ h;let(a,N,h):=aP h;let(tg,ht,h):=aQ h;let(v,O,h):=aP h;rw[af,af,af,af,a9,fR]at h;let((((h1,h2),I),J),L):=h;exact⟨_,_,_,_,_,_,by rw[gZ hs,N,cY ht,O],h1,h2,I,J,L⟩
section
variable {Z:aj} {P:AK} {w:World} {K:PF} {mg:AH} {base:Heap} {k:Nat} {fs:List (AL×Nat)} {bt:List AL} {cn:List (AL×D)} {xs:List (AL×Bool)} {ot:OT}
def afl(Z:aj)(K:PF)(c:AQ)(g f:AL):Sp:=λvs H Q EX=>∃x b dx d F G,vs=[.ref x,b]/\H x=-(.ins c dx [])/\F x/\R K H F G/\Rep K H F d b/\
 (Z g).t [d] G (λy G1=>∀q,G1 q=none->∀H2 z,Ext H F H2 z->R K H2 z (aK G1 q (.lst [d]))->Q .non (upd H2 x (.ins c dx [(⇑f,.ref q)]))) (PX K H F EX)
def afm{C f g:AL}{nm qual:Str}{st:Stmt}{fa c:AQ}{fd:AJ}{N ps:AD}(B:Bse Z P w K mg base (CX1 P w) k fs bt cn xs ot)(Fu:Fun K nm qual st fa fd)(hb:Binds K fd ps [])
  (hmg:mg (⇑C)=-(.ref c)) (hns:PySem.W.nsIn K mainGlobals (⇑C)=-(-(.ref c))) (hcl:Cls K c) (hna:NoAttr K c (⇑f)) (M:Mk K c fa)
  (hs:fnB N ps (ao st)) (hc:uM (aH N (ao st) fs bt cn xs ot) g f (aG st)=true) (hn:ps⁻¹=2) (hm:N⁻¹=2)
  (hS:∀d G kk E,(Z C).t [d] G kk E->(Z g).t [d] G (λm G1=>∀q,G1 q=none->kk (.obj C f q) (aK G1 q (.lst [d]))) E):MkoOk Z P w K mg base (CX1 P w) (k+2) C 1:=by
 show⟨c,fa,fd,ps,afl Z K c g f,k+1,ar _,hmg,M,hb,?_,?_⟩
 .let(s1,o,n,p,e,pos,eb,c1,c2,en,c3,c4):=afk hc;subst en;show Fu.okX (uI hs) (λvs H Q E h=>by let(x,b,dx,d,F,G,rfl,_):=h;rw[hn];rfl) λcdv A outer s H vs Q EX hr hsp=>?_;let(x,b,dx,d,F,G,rfl,O,fx,r,rb,ht):=hsp;have St:Stat Z (CX1 P w) k (aH N (ao st) fs bt cn xs ot) (PX K H F EX) ⟨H,F⟩ (c7 (CX1 P w) P w K mg base N qual (ao st) fa cdv A outer s H EX):=ab4 B hs hr λx G' H' F' O e r'=>O H' F' e r';rw[eb];show⟨_,lu (zT St _ c1) (vW (VF (aB _ St c2) (aB _ St c4) (uH c3 _ _ _))),?_⟩;show⟨[-(.ref x),-d],F,G,Ext.refl _ _,?_,r,?_⟩
  .have e2:L2.start N [V.ref x,b]=[-(V.ref x),-b]:=by
    unfold L2.start;rw[show N⁻¹ - [V.ref x,b]⁻¹=0 by rw[hm];rfl];rfl
   rw[e2];exact⟨_,_,rfl,λd' hd=>⟨_,rfl,by cases hd;rfl⟩,_,_,rfl,λd' hd=>⟨_,rfl,by cases hd;exact rb⟩,rfl⟩
  .change (Z g).t [d] G _ _;show Spec.mono ht (λd' G1 q=>?_) λm m z=>z;intro H1 F1 σ1 x1 he1 r1;show aL (x:=.lst false (.cons (.var 1) .nil)) (E:=PX K H F EX) (Y:=[-(.ref x),-d]) (G:=G1) (W:=λy G2=>∃I,y=.ref I/\G1 I=none/\G2=aK G1 I (.lst [d])) x1 he1 r1 ?_ ?_
   .change _/\mk false [d] G1 _;exact⟨show 1<=sz by decide,λI J=>⟨I,rfl,J,rfl⟩⟩
   .rintro y G2 H2 F2 v ⟨I,rfl,J,rfl⟩ e2 x2 he2 r2 rv;show aL (x:=.var 0) (E:=PX K H F EX) (Y:=[-(.ref x),-d]) (W:=λy G3=>y=.ref x/\G3=aK G1 I (.lst [d])) e2 he2 r2 ⟨rfl,rfl⟩ ?_;rintro y G3 H3 F3 v3 ⟨rfl,rfl⟩ e3 x3 he3 r3 rv3;have ev:v=.ref I:=rv;have ev3:v3=.ref x:=rv3;subst ev ev3;have hx3:H3 x=-(.ins c dx []):=(e3.keep x fx).trans O;show⟨x,c,dx,[],rfl,hx3,hcl,hna,!1,?_⟩;exact q I J H3 F3 e3 r3
 .intro vs H Q E hl x dx O hdx hne;let(hlen,F,G,ds,r,rs,ht):=hl;let(d,rfl):=cC (rs.length.trans hlen);let(b,rfl,rb):=bM rs;have hx1:(upd H dx (.own x)) x=none:=by rw[aA (Ne.symm hne)];exact O
  have r1:=r.newO (o:=.own x) hdx;have e1:=wY (o:=.own x) r hdx;have r2:=r1.newO (o:=.ins c dx []) hx1;have e2:=wY (o:=.ins c dx []) r1 hx1;have U:=e1.trans e2;show⟨x,b,dx,d,_,G,rfl,bj,.inr rfl,r2,Rep.ext U rb,?_⟩;show Spec.mono (hS d G _ _ ht) (λd' G1 q=>λI J H2 F2 x2 r2'=>⟨rfl,?_⟩) λxn G' z H2 F2 x2 r2'=>z H2 F2 (U.trans x2) r2';have hx2:H2 x=-(.ins c dx []):=(x2.keep x (.inr rfl)).trans bj;have e3:=U.trans x2;show q I J (upd H2 x (.ins c dx [(⇑f,.ref I)])) F2 (.ref x) ⟨e3.sub,λa L=>?_,λa ys L=>?_,λa o u L=>?_⟩ (r2'.setO hx2) ⟨x,c,dx,rfl,⟨x2.sub x (.inr rfl),bj⟩,hns⟩
  .rw[aA λe=>r.notF O (by rw[<-e];exact L)];exact e3.keep a L
  .rw[aA (aU L O)];exact e3.tups a ys L
  .rw[aA (aU L O)];exact e3.frzs a o u L
end
section
local macro_rules|`(#[])=>`(.nil)|`(#[$x])=>`(.cons $x .nil)|`(#[$x,$y,*])=>`(.cons $x #[$y,*])
local macro_rules|`(-$x)=>`(.var $x)
local macro_rules|`(¬$x)=>`(.cst (.int $x))
local macro_rules|`(!$x)=>`(.cst (.str $x))
local macro_rules|`($x<|$y)=>`(.call $x $y)
def z6:Sxs:=#[.set (-0) (¬2) (¬0),.ret (-0)]
def z7:Sxs:=#[.ite (.val (.cmp .GtE (-0) (.bin .Pow true (¬10) (¬18)))) #[.ret (-0)] #[],.asg (.nm 2) (.bin .Mod true (.bin .Add true (.bin .Add true (.bin .Mult true (.bin .Mod true (-0) (¬1000000007)) (¬69069)) (.bin .Mult true (-1) (¬40503))) (¬977)) (¬2147483629)),.asg (.nm 3) (.bin .Mod true (.bin .Add true (.bin .Add true (.bin .Mult true (-2) (-2)) (.bin .Mult true (-1) (¬7919))) (.bin .Mod true (-0) (¬65537))) (¬2147483587)),.asg (.nm 4) (.bin .Mod true (.bin .Add true (.bin .Add true (.bin .Mult true (-3) (-3)) (.bin .Mult true (-2) (¬31))) (¬5)) (¬2147483563)),.ret (.bin .Add true (.bin .Mult true (.bin .Add true (.bin .Mult true (-2) (¬2147483659)) (-3)) (¬2147483693)) (-4))]
def z8:Sxs:=#[.ite (.val (.cmp .Lt (.idx (-0) (¬2)) (-1))) #[.asg (.nm 2) (.idx (-0) (¬1)),.asg (.nm 3) (¬0),.ite (.val (.cmp .Lt (-2) (.bcl .len #[.idx (-0) (¬0)]))) #[.asg (.nm 3) (.idx (.idx (-0) (¬0)) (-2))] #[.ite (.val (.cmp .Gt (.bcl .len #[.idx (-0) (¬0)]) (¬0))) #[.asg (.nm 3) (.bin .Mod true (.idx (.idx (-0) (¬0)) (.bin .Mod true (.bin .Add true (.bin .Mult true (-2) (¬5)) (¬3)) (.bcl .len #[.idx (-0) (¬0)]))) (.bin .Add true (.bin .Pow true (¬10) (¬17)) (-2)))] #[]],.set (-0) (¬1) (.bin .Add true (-2) (¬1)),.set (-0) (¬2) ("_law_spread"<|#[-3,-2])] #[],.asg (.nm 4) (.bin .Mod true (.idx (-0) (¬2)) (-1)),.set (-0) (¬2) (.bin .FloorDiv true (.idx (-0) (¬2)) (-1)),.ret (-4)]
def z9:Sxs:=#[.ret (.mth .join (![]) #[.comp true (.idx (-1) ("_law_take"<|#[-2,.bcl .len #[-1]])) (.nm 0) (.rng (-1)) .yes ["at","signs","pen"] [none,some 2,some 0]])]
def Aa:Sxs:=#[.asg (.nm 2) (.lst true #[![97],![103,111],![115,116,97,121],![97,98,99,100,101,102,103,104],![110,111,110,101],![121,101,115],![105,110],![111,117,116],![107,101,101,112],![119,111,114,100],![122,122]]),.asg (.nm 3) ("_law_take"<|#[-0,¬11]),.asg (.nm 4) (.comp true (.idx (-1) (.bin .Mod true (.bin .Add true (-2) (.bin .Mult true (¬3) (-0))) (¬11))) (.nm 0) (.rng (.bin .Add true (¬1) ("_law_take"<|#[-0,-1]))) .yes ["k","some","turn"] [none,some 2,some 3]),.ite (.val (.cmp .Eq ("_law_take"<|#[-0,¬3]) (¬0))) #[.asg (.nm 5) (![97,98,99,100,101,102,103,104,105,106,107,108,109,110,111,112,113,114,115,116,117,118,119,120,121,122]),.asg (.nm 4) (.comp true ("_law_signs"<|#[-1,.bin .Add true (¬1) ("_law_take"<|#[-1,¬8]),-2]) (.nm 0) (.seq (-4)) .yes ["one","pen","letters"] [none,some 0,some 5])] #[],.ret (-4)]
def Ab:Sxs:=#[.ret ("_law_signs"<|#[-0,-1,.idx (.lst true #[![48,49,42],![48,49,42,42],![48,49,42,42,42,42],![48,42],![48,49]]) ("_law_take"<|#[-0,¬5])])]
def Ac:Sxs:=#[.asg (.nm 2) (![]),.for_ (.nm 3) (.seq (-1)) #[.ite (.val (.cmp .Eq ("_law_take"<|#[-0,¬3]) (¬0))) #[.asg (.nm 3) (![42])] #[],.asg (.nm 2) (.bin .Add true (-2) (-3))],.ret (-2)]
def Ad:Sxs:=#[.asg (.nm 2) (![]),.for_ (.nm 3) (.seq (-1)) #[.ite (.boo true (.val (.cmp .Eq (-3) (![42]))) #[.val (.cmp .Eq ("_law_take"<|#[-0,¬2]) (¬0))]) #[.asg (.nm 3) (.idx (![48,49]) ("_law_take"<|#[-0,¬2]))] #[],.asg (.nm 2) (.bin .Add true (-2) (-3))],.ret (-2)]
def Ae:Sxs:=#[.asg (.nm 3) ("_law_take"<|#[-0,¬7]),.ite (.boo false (.val (.cmp .Eq (-2) (.lst true #[]))) #[.val (.cmp .Lt (-3) (¬2))]) #[.ret ("_law_form"<|#[-0,-1])] #[],.asg (.nm 4) (.idx (-2) ("_law_take"<|#[-0,.bcl .len #[-2]])),.ite (.val (.cmp .Eq (-3) (¬2))) #[.ret (-4)] #[],.ite (.val (.cmp .Lt (-3) (¬5))) #[.asg (.nm 5) ("_law_take"<|#[-0,-1]),.ret (.bin .Add true (.bin .Add true (.slc true (-4) .no (.ob (-5))) (.idx (![48,49,42]) ("_law_take"<|#[-0,¬3]))) (.slc true (-4) (.ob (.bin .Add true (-5) (¬1))) .no))] #[],.ite (.val (.cmp .Eq (-3) (¬5))) #[.ret ("_law_within"<|#[-0,-4])] #[],.ret ("_law_wider"<|#[-0,-4])]
def Af:Sxs:=#[.asg (.nm 3) (.bin .Add true (¬1) ("_law_take"<|#[-0,-1])),.asg (.nm 4) ("_law_deeds_of"<|#[-0,¬3]),.asg (.nm 5) (.lst false #[]),.asg (.nm 6) (.lst false #[]),.for_ (.nm 7) (.rng ("_law_take"<|#[-0,.bin .Add true (-2) (¬1)])) #[.exp (.mth .append (-5) #["_law_form_like"<|#[-0,-3,-5]]),.exp (.mth .append (-6) #[.tup #[.idx (-5) (.neg (¬1)),.idx (-4) ("_law_take"<|#[-0,.bcl .len #[-4]])]])],.ret (.tup #[-3,.bcl .tuple #[-6]])]
def Ag:Sxs:=#[.asg (.nm 1) (.lcl false .list #[.slc true (-0) .no (.ob (¬12))]),.for_ (.tp #[.nm 2,.nm 3]) (.enm (.slc true (-0) (.ob (¬12)) (.ob (¬63)))) #[.set (-1) (.bin .Mod true (-2) (¬12)) (.bin .Add true (.idx (-1) (.bin .Mod true (-2) (¬12))) (-3))],.ret (.lst false #[.frz (-1),¬0,¬0])]
def Ah:Sxs:=#[.asg (.nm 2) (.rgl false (-1)),.ret (.bcl .tuple #[.comp true (.mth .pop (-1) #["_law_take"<|#[-2,.bcl .len #[-1]]]) (.nm 0) (.rng (-1)) .yes ["k","left","pen"] [none,some 2,some 0]])]
def mU:Sxs:=#[.asg (.nm 1) (¬1),.for_ (.nm 2) (.seq (-0)) #[.ite (.val (.cmp .Eq (-2) (![42]))) #[.asg (.nm 1) (.bin .Mult true (-1) (¬2))] #[]],.ret (-1)]
def mV:Sxs:=#[.asg (.nm 2) (![]),.for_ (.tp #[.nm 3,.nm 4]) (.zip (-0) (-1)) #[.ite (.val (.cmp .Eq (-3) (![42]))) #[.aug 2 .Add (-4)] #[.ite (.boo false (.val (.cmp .Eq (-4) (![42]))) #[.val (.cmp .Eq (-4) (-3))]) #[.aug 2 .Add (-3)] #[.ret (.cst .non)]]],.ret (-2)]
def mW:Sxs:=#[.for_ (.tp #[.nm 2,.nm 3]) (.enm (-0)) #[.ite (.val (.cmp .IsNot ("both"<|#[.idx (-3) (¬0),-1]) (.cst .non))) #[.ret (-2)] #[]],.ret (.cst .non)]
def mX:Sxs:=#[.asg (.nm 2) ("first_touching"<|#[-0,-1]),.ite (.val (.cmp .Is (-2) (.cst .non))) #[.ret (.cst .non)] #[],.for_ (.tp #[.nm 3,.nm 4]) (.enm (.idx (.idx (-0) (-2)) (¬0))) #[.ite (.boo true (.val (.cmp .Eq (.idx (-1) (-3)) (![42]))) #[.val (.cmp .NotEq (-4) (![42]))]) #[.ret (-3)] #[]],.ret (.cst .non)]
def mY:Sxs:=#[.ret (.bin .Add true (.bin .Add true (.slc true (-0) .no (.ob (-1))) (-2)) (.slc true (-0) (.ob (.bin .Add true (-1) (¬1))) .no))]
def j6:Sxs:=#[.for_ (.nm 3) (.seq (-1)) #[.asg (.nm 4) ("splitting_place"<|#[-3,-2]),.ite (.val (.cmp .IsNot (-4) (.cst .non))) #[.asg (.nm 5) ("grown"<|#[-0,-1,"with_sign"<|#[-2,-4,![48]]]),.asg (.nm 6) ("grown"<|#[-0,-1,"with_sign"<|#[-2,-4,![49]]]),.ret (.tup #[![115,112,108,105,116],-4,-5,-6])] #[]],.ret (.bin .Add true (.tup #[-0]) (.bcl .tuple #[.comp true ("first_touching"<|#[-0,-1]) (.nm 0) (.seq (-1)) .yes ["rows","box"] [none,some 2]]))]
def mZ:Sxs:=#[.ite (.boo false (.not (.val (.isi (-0) "str"))) #[.not (.val (.chn .LtE .LtE (¬1) (.bcl .len #[-0]) (.glb "LONGEST_DEED" (.int 8))))]) #[.ret (.cst (.bl false))] #[],.ret (.bcl .all #[.comp true (.cmp .In (-0) (.glb "LETTERS" (.str [97,98,99,100,101,102,103,104,105,106,107,108,109,110,111,112,113,114,115,116,117,118,119,120,121,122]))) (.nm 0) (.seq (-0)) .yes ["sign"] [none]])]
def m5:Sxs:=#[.ite (.boo false (.not (.val (.isi (-2) "str"))) #[.val (.cmp .NotEq (.bcl .len #[-2]) (-1))]) #[.ret (.cst (.bl false))] #[],.ret (.bcl .all #[.comp true (.cmp .In (-0) (-1)) (.nm 0) (.seq (-2)) .yes ["sign","signs"] [none,some 0]])]
def m6:Sxs:=#[.ret ("is_text_of"<|#[![48,49,42],-0,-1])]
def m7:Sxs:=#[.ite (.boo false (.not (.val (.isi (-1) "tuple"))) #[.val (.cmp .NotEq (.bcl .len #[-1]) (¬2))]) #[.ret (.cst (.bl false))] #[],.ret (.boo true ("is_form"<|#[-0,.idx (-1) (¬0)]) #["is_deed"<|#[.idx (-1) (¬1)]])]
def m8:Sxs:=#[.ret (.boo true (.isi (-0) "int") #[.not (.isi (-0) "bool")])]
def m9:Sxs:=#[.ret (.boo true ("is_whole"<|#[-0]) #[.chn .LtE .LtE (¬1) (-0) (.glb "WIDEST" (.int 6))])]
def ni:Sxs:=#[.ite (.boo false (.not (.val (.isi (-0) "tuple"))) #[.val (.cmp .NotEq (.bcl .len #[-0]) (¬2))]) #[.ret (.cst (.bl false))] #[],.asg (.tp #[.nm 1,.nm 2]) (-0),.ite (.boo false (.not (.val ("is_width"<|#[-1]))) #[.not (.val (.isi (-2) "tuple")),.val (.cmp .Gt (.bcl .len #[-2]) (.glb "MOST_ROWS" (.int 12)))]) #[.ret (.cst (.bl false))] #[],.ret (.bcl .all #[.comp true ("is_row"<|#[-1,-0]) (.nm 0) (.seq (-2)) .yes ["row","width"] [none,some 1]])]
def nq:Sxs:=#[.ite (.not (.val ("is_book"<|#[-0]))) #[.nev] #[]]
def nu:Sxs:=#[.ret (.bin .Mult true (![42]) (-0))]
def nA:Sxs:=#[.exp ("need_book"<|#[-0]),.asg (.tp #[.nm 1,.nm 2]) (-0),.ret ("grown"<|#[![109,101,116],.lst true #[-2],"stars"<|#[-1]])]
def nF:Sxs:=#[.ret (.boo true (.isi (-2) "tuple") #[.cmp .Eq (.bcl .len #[-2]) (.bin .Add true (-1) (¬1)),.cmp .Eq (.idx (-2) (¬0)) (-0)])]
def nG:Sxs:=#[.ret (.boo true ("is_whole"<|#[-1]) #[.chn .LtE .Lt (¬0) (-1) (-0)])]
def iZ:Sxs:=#[.ite (.not (.val ("is_named"<|#[![115,112,108,105,116],¬3,-1]))) #[.ret (.lst true #[.tup #[-0,-1]])] #[],.asg (.nm 2) (.idx (-1) (¬1)),.ite (.boo false (.not (.val ("is_place"<|#[.bcl .len #[-0],-2]))) #[.val (.cmp .NotEq (.idx (-0) (-2)) (![42]))]) #[.ret (.cst .non)] #[],.asg (.nm 3) ("leaves"<|#["with_sign"<|#[-0,-2,![48]],.idx (-1) (¬2)]),.asg (.nm 4) ("leaves"<|#["with_sign"<|#[-0,-2,![49]],.idx (-1) (¬3)]),.ite (.boo false (.val (.cmp .Is (-3) (.cst .non))) #[.val (.cmp .Is (-4) (.cst .non))]) #[.ret (.cst .non)] #[],.ret (.bin .Add true (-3) (-4))]
def nH:Sxs:=#[.asg (.nm 1) ("laid"<|#[-0]),.asg (.tp #[.nm 2,.nm 3]) (-0),.asg (.nm 4) (.bin .Add false (.comp true (¬0) (.nm 0) (.seq (-3)) .yes ["row"] [none]) (.lst true #[¬0])),.for_ (.tp #[.nm 5,.nm 6]) (.seq ("leaves"<|#["stars"<|#[-2],-1])) #[.asg (.nm 7) (.ife (.val (.cmp .Is (.idx (-6) (¬1)) (.cst .non))) (.bcl .len #[-3]) (.idx (-6) (¬1))),.augs (-4) (-7) .Add ("how_many"<|#[-5])],.ret (-4)]
def nJ:Sxs:=#[.exp ("need_book"<|#[-0]),.exp ("need_book"<|#[-1]),.ite (.val (.cmp .NotEq (.idx (-0) (¬0)) (.idx (-1) (¬0)))) #[.nev] #[]]
def j7:Sxs:=#[.ite (.val (.cmp .Is (-1) (.cst .non))) #[.ret (.cst .non)] #[],.ret (.idx (.idx (.idx (-0) (¬1)) (-1)) (¬1))]
def nM:Sxs:=#[.ret (.cmp .Eq ("deed_of"<|#[-0,.idx (-2) (¬1)]) ("deed_of"<|#[-1,.idx (-2) (¬2)]))]
def nO:Sxs:=#[.exp ("need_two_books"<|#[-0,-1]),.asg (.nm 2) ("stars"<|#[.idx (-0) (¬0)]),.asg (.nm 3) ("grown"<|#[![115,97,109,101],.lst true #[.idx (-0) (¬1),.idx (-1) (¬1)],-2]),.asg (.nm 4) (.comp true ("least"<|#[-0]) (.tp #[.nm 0,.nm 1]) (.seq ("leaves"<|#[-2,-3])) (.not (.val ("same_deeds"<|#[-2,-3,-1]))) ["part","leaf","one","other"] [none,none,some 0,some 1]),.ite (.val (-4)) #[.ret (.tup #[![112,97,114,116,101,100],.bcl .min #[-4]])] #[],.ret (.tup #[![97,108,105,107,101],-3])]
def nP:Sxs:=#[.asg (.tp #[.nm 2,.nm 3]) ("alike"<|#[-0,-1]),.ret (.ife (.val (.cmp .Eq (-2) (![112,97,114,116,101,100]))) (-3) (.cst .non))]
def nQ:Sxs:=#[.exp ("need_book"<|#[-0]),.ite (.not (.val ("is_place"<|#[.bcl .len #[.idx (-0) (¬1)],-1]))) #[.nev] #[]]
def nR:Sxs:=#[.exp ("need_row"<|#[-0,-1]),.asg (.tp #[.nm 2,.nm 3]) (-0),.ret (.tup #[-2,.bin .Add true (.slc true (-3) .no (.ob (-1))) (.slc true (-3) (.ob (.bin .Add true (-1) (¬1))) .no)])]
def Ai:Sxs:=#[.asg (.nm 1) (.rgl false (.bcl .len #[-0])),.asg (.nm 2) (.lst false #[]),.for_ (.nm 3) (.rng (.bcl .len #[-0])) #[.for_ (.nm 4) (.dwn (.bin .Sub true (.mth .idxL (-1) #[.idx (-0) (-3)]) (¬1)) (.bin .Sub true (-3) (¬1)) (.neg (¬1))) #[.exp (.mth .append (-2) #[-4]),.sw2 (-1) (-4) (-1) (.bin .Add true (-4) (¬1)) (.tup #[.idx (-1) (.bin .Add true (-4) (¬1)),.idx (-1) (-4)])]],.ret (.frz (-2))]
def nT:Sxs:=#[.asg (.nm 2) (.bcl .len #[.idx (-0) (¬1)]),.ite (.boo false (.not (.val (.isi (-1) "tuple"))) #[.not (.val (.bcl .all #[.comp true ("is_place"<|#[-1,-0]) (.nm 0) (.seq (-1)) .yes ["number","many"] [none,some 2]]))]) #[.ret (.cst (.bl false))] #[],.ret (.cmp .Eq (.lcl true .sorted #[-1]) (.rgl true (-2)))]
def nU:Sxs:=#[.ite (.not (.val ("is_order"<|#[-0,-1]))) #[.nev] #[]]
def nW:Sxs:=#[.exp ("need_book"<|#[-0]),.exp ("need_order"<|#[-0,-1]),.asg (.tp #[.nm 2,.nm 3]) (-0),.ret (.tup #[-2,.bcl .tuple #[.comp true (.idx (-1) (-0)) (.nm 0) (.seq (-1)) .yes ["number","rows"] [none,some 3]]])]
def nY:Sxs:=#[.ret (.rgt (.bcl .len #[.idx (-0) (¬1)]))]
def nZ:Sxs:=#[.ret (.cmp .Is ("parting_word"<|#[-0,"by_order"<|#[-0,-1]]) (.cst .non))]
def n6:Sxs:=#[.ret (.bin .Add true (.bin .Add true (.slc true (-0) .no (.ob (-1))) (.tup #[.idx (-0) (.bin .Add true (-1) (¬1)),.idx (-0) (-1)])) (.slc true (-0) (.ob (.bin .Add true (-1) (¬2))) .no))]
def oh:Sxs:=#[.ret (.comp true (.tup #[-0,"exchanged"<|#[-1,-0]]) (.nm 0) (.rng (.bin .Sub true (.bcl .len #[-0]) (¬1))) .yes ["place","order"] [none,some 0])]
def Aj:Sxs:=#[.asg (.nm 2) (.dp1 ("first_order"<|#[-0]) (.lst false #[])),.asg (.nm 3) .dnw,.asg (.nm 4) (.lcl true .list #[-2]),.whl (.boo true (.val (-4)) #[.val (.cmp .NotIn (-1) (-2))]) #[.asg (.nm 5) (.lst false #[]),.for_ (.nm 6) (.seq (-4)) #[.for_ (.tp #[.nm 7,.nm 8]) (.seq ("steps_from"<|#[-6])) #[.ite (.boo false (.val (.cmp .In (-8) (-2))) #[.val (.cmp .In (-8) (-3))]) #[.cnt] #[],.ite (.val ("is_good"<|#[-0,-8])) #[.set (-2) (-8) (.bin .Add false (.idx (-2) (-6)) (.lst true #[-7])),.exp (.mth .append (-5) #[-8])] #[.set (-3) (-8) (.cst (.bl true))]]],.asg (.nm 4) (.frz (-5))],.ret (-2)]
def ou:Sxs:=#[.exp ("need_book"<|#[-0]),.asg (.tp #[.nm 1,.nm 2]) (-0),.ite (.boo false (.val (.cmp .Gt (.bcl .len #[-2]) (.glb "MOST_ROWS_MOVED" (.int 5)))) #[.val (.cmp .Gt (-1) (.glb "WIDEST_MOVED" (.int 4)))]) #[.nev] #[]]
def Ak:Sxs:=#[.exp ("need_movable"<|#[-0]),.exp ("need_order"<|#[-0,-1]),.asg (.nm 2) ("good_ways"<|#[-0,-1]),.ite (.val (.cmp .In (-1) (-2))) #[.ret (.tup #[![119,97,121],.idx (-2) (-1)])] #[],.ret (.tup #[![97,112,97,114,116],.lcl false .list #[-2]])]
def oA:Sxs:=#[.ret (.idx (.fld "Sieve" "books" (-0)) (.neg (¬1)))]
def oE:Sxs:=#[.asg (.nm 2) (.mcl "Sieve.book" "Sieve" "book" (-0) #[]),.exp (.mth .append (.fld "Sieve" "books" (-0)) #[.tup #[.idx (-2) (¬0),-1]]),.ret ("parting_word"<|#[-2,.mcl "Sieve.book" "Sieve" "book" (-0) #[]])]
def oF:Sxs:=#[.exp ("need_row"<|#[.mcl "Sieve.book" "Sieve" "book" (-0) #[],-1]),.exp ("need_row"<|#[.mcl "Sieve.book" "Sieve" "book" (-0) #[],-2]),.asg (.nm 3) (.idx (.idx (.mcl "Sieve.book" "Sieve" "book" (-0) #[]) (¬1)) (-1)),.asg (.nm 4) (.idx ("without"<|#[.mcl "Sieve.book" "Sieve" "book" (-0) #[],-1]) (¬1)),.ret (.mcl "Sieve.turn" "Sieve" "turn" (-0) #[.bin .Add true (.bin .Add true (.slc true (-4) .no (.ob (-2))) (.tup #[-3])) (.slc true (-4) (.ob (-2)) .no)])]
def Al:Sxs:=#[.asg (.nm 2) (.mko "Sieve" #[-0]),.asg (.nm 3) (.comp true (.mcl "Sieve.move" "Sieve" "move" (-1) #[.bin .Add true (-0) (¬1),-0]) (.nm 0) (.seq (-1)) .yes ["place","sieve"] [none,some 2]),.ret (.tup #[.mcl "Sieve.book" "Sieve" "book" (-2) #[],-3])]
def Am:Sxs:=#[.asg (.tp #[.nm 2,.nm 3]) ("way"<|#[-0,-1]),.asg (.nm 4) ("by_order"<|#[-0,-1]),.asg (.tp #[.nm 5,.nm 6]) ("_law_moved"<|#[-0,"_law_plain_steps"<|#[-1]]),.ite (.val (.cmp .NotEq (-5) (-4))) #[.ret (.cst (.bl false))] #[],.ite (.val (.cmp .Eq (-2) (![97,112,97,114,116]))) #[.ret (.boo false (.cmp .Eq (.idx ("alike"<|#[-0,-4]) (¬0)) (![112,97,114,116,101,100])) #[.cmp .NotEq (.comp true (-0) (.nm 0) (.seq (-6)) (.val (.cmp .IsNot (-0) (.cst .non))) ["one"] [none]) (.lst true #[])])] #[],.asg (.tp #[.nm 7,.nm 8]) ("_law_moved"<|#[-0,-3]),.ret (.boo true (.cmp .Eq (-7) (-4)) #[.cmp .Eq (-8) (.bin .Mult true (.lst true #[.cst .non]) (.bcl .len #[-3])),.cmp .Eq ("_law_by_deeds"<|#[-0]) ("_law_by_deeds"<|#[-4])])]
def An:Sxs:=#[.asg (.nm 1) ("_law_open"<|#[-0]),.for_ (.nm 2) (.rng (¬2)) #[.asg (.nm 3) ("_law_book"<|#["_law_anew"<|#[-1],¬4,¬4]),.for_ (.nm 4) (.rng (¬2)) #[.ite (.not (.val ("_law_right"<|#[-3,"_law_order"<|#[-1,.bcl .len #[.idx (-3) (¬1)]]]))) #[.ret (.cst (.bl false))] #[]]],.ret (.cst (.bl true))]
end
def afn:bootBuiltins "sorted"=-(.builtin "sorted"):=by ac_rfl
section
variable {X:Cx}
def afo(ta:L2.TA):TI:=λY H g=>ta Y H λvs H1=>∃a xs,vs=[.ref a]/\H1 a=-(.tup xs)/\g (Je (.tup a)) H1
def afp {J:AE} {x1:Nat} {tp:Pos} {a:AO} {ta:L2.TA} {p pos:Pos} (hg:Gl X "enumerate") (hm:X.mg "enumerate"=none) (U:L2.PA X [a] ta) (hs:starEach [a] X.env=[(false,eval a X.env)]:=by rfl):
  PI X (.Tuple J x1 tp) (.Call (.Name "enumerate" p) [a] [] pos) (afo ta):=by
 intro p9 s Y H Rr I h;show Call_ (gh I hg hm (u:=.type "enumerate") boot_enumerate (d6 (thn (U pos p9 s Y H _ I h) λus g zZ=>?_) hs rfl));let(vs,H1,z,r1,q1):=zZ;let(l,xs,e,hq,q):=q1;subst e;let(u,rfl,ru):=vals1 r1;cases ru;let(its,on):=mK z (kk:=.tup l) hq;show IK (k:=.tup l) on λh' L O hsz hk=>?_;show wpAny_pyIter_enum L ?_;have n1:H1 g.heap.objs.size=none:=z.hok.fresh (ar _);have n2:H1 (g.heap.objs.size+1)=none:=z.hok.fresh (dk _);show⟨g.heap.objs.size+1,[g.heap.objs.size+1,g.heap.objs.size],_,_,H1,rfl,z.kept (t':=g.toks) hk,Iz (.tup l) _ _ (Nat.succ_ne_self _),⟨⟨_,L⟩,O⟩,λb hb=>?_,q⟩;have N:b=g.heap.objs.size+1\/b=g.heap.objs.size:=by simpa using hb
 rcases N with rfl|rfl
 .exact z.fpOk (dk _) n2
 .exact z.fpOk (ar _) n1
end
end RF
local macro_rules | `(tactic| simp_arith! [$l,*] $[$c:location]?) => `(tactic| simp only [↓RF.yE, ↓RF.lU, ↓RF.yF, ↓RF.yG, ↓RF.yH, ↓RF.yI, ↓RF.yJ, ↓RF.yK, ↓RF.yL, ↓RF.yM, ↓RF.yN, ↓RF.yO, ↓RF.yP, ↓RF.xX, ↓RF.yt, ↓RF.yu, ↓RF.yw, ↓RF.yr, ↓RF.yx, ↓RF.Hu, ↓RF.Hv, ↓RF.Zm, ↓RF.Zn, ↓RF.ae8, ↓RF.afd, ↓RF.xJ, ↓RF.xK, ↓RF.xM, ↓RF.lO, ↓RF.iz, ↓RF.iB, ↓RF.Zk, ↓RF.xN, ↓RF.sW, ↓RF.xO, ↓RF.sX, ↓RF.xP, ↓RF.xQ, ↓RF.xR, ↓RF.xT, ↓RF.xU, ↓RF.xV, ↓RF.xW, ↓RF.adw, ↓RF.ady, ↓RF.x_at, ↓RF.adC, ↓RF.adA, ↓RF.adz, ↓RF.adB, ↓RF.jQ, ↓RF.xY, ↓RF.xZ, ↓RF.yc, ↓RF.sY, ↓RF.sZ, ↓RF.yd, ↓RF.ye, ↓RF.yf, ↓RF.yg, ↓RF.yh, ↓RF.yj, ↓RF.yl, ↓RF.ym, ↓RF.yo, ↓RF.yp, ↓RF.yq, ↓RF.iC, ↓RF.yz, ↓RF.afc, ↓RF.ack, ↓RF.acl, ↓RF.acn, ↓RF.aco, ↓RF.acp, ↓RF.acq, ↓RF.acs, ↓RF.acr, ↓RF.acu, ↓RF.acv, ↓RF.acw, ↓RF.acx, ↓RF.acy, ↓RF.acz, ↓RF.acA, ↓RF.acB, ↓RF.acC, ↓RF.acD, ↓RF.acE, ↓RF.acF, ↓RF.acG, ↓RF.acH, ↓RF.acI, ↓RF.acJ, ↓RF.acK, ↓RF.acL, ↓RF.acM, ↓RF.acN, ↓RF.acO, ↓RF.acP, ↓RF.acQ, ↓RF.acR, ↓RF.acS, ↓RF.acT, ↓RF.acU, ↓RF.acV, ↓RF.acW, ↓RF.acX, ↓RF.acY, ↓RF.acZ, ↓RF.ac1, ↓RF.ac0, ↓RF.ac2, ↓RF.ac3, ↓RF.ac4, ↓RF.ac5, ↓RF.ac6, ↓RF.ac8, ↓RF.adk, ↓RF.adv, ↓RF.ac7, ↓RF.ac9, ↓RF.ada, ↓RF.adb, ↓RF.adc, ↓RF.adl, ↓RF.adm, ↓RF.adi, ↓RF.adn, ↓RF.adh, ↓RF.adf, ↓RF.adg, ↓RF.ade, ↓RF.ado, ↓RF.adp, ↓RF.adq, ↓RF.adt, ↓RF.adu, ↓RF.adV, ↓RF.adU, ↓RF.adx, ↓RF.adD, ↓RF.adE, ↓RF.adF, ↓RF.adG, ↓RF.K5, ↓RF.uL, ↓RF.KZ, ↓RF.K1, ↓RF.K3, ↓RF.adH, ↓RF.adI, ↓RF.yC, ↓RF.yD, ↓RF.adJ, ↓RF.adK, ↓RF.adL, ↓RF.adM, ↓RF.adN, ↓RF.adO, ↓RF.adP, ↓RF.adQ, ↓RF.adR, ↓RF.adS, ↓RF.adT, ↓RF.adW, ↓RF.adX, ↓RF.adY, ↓RF.adZ, ↓RF.ad0, ↓RF.ad1, ↓RF.ad2, ↓RF.ad3, ↓RF.ad4, ↓RF.ad5, ↓RF.ad6, ↓RF.ad7, ↓RF.ad8, ↓RF.ad9, ↓RF.is_tup, ↓RF.aea, ↓RF.aeb, ↓RF.aed, ↓RF.aec, ↓RF.aee, ↓RF.aef, ↓RF.uK, RF.ae9, RF.afa, RF.afb, Option.join_some, List.map_cons, List.map_nil, List.cons_append, List.nil_append, List.replicate_succ, List.replicate_zero, List.getElem?_cons_zero, List.getElem?_cons_succ, List.set_cons_zero, List.set_cons_succ, List.length_cons, List.length_nil, RF.ab9, RF.aca, RF.acb, RF.acd, RF.ace, RF.acf, RF.acg, true_and, and_true, Nat.min_self, Nat.zero_min, Nat.min_zero, Nat.zero_le, Bool.or_false, Bool.or_true, Bool.false_or, Bool.true_or, Bool.not_true, Bool.not_false, RF.aeg, RF.aeh, RF.aei, RF.aej, RF.aek, RF.ael, RF.aem, RF.aen, RF.aeo, RF.aep, RF.aeq, RF.aer, RF.aes, RF.aet, RF.aeu, RF.aev, RF.aew, RF.aex, RF.aey, RF.aez, RF.aeA, RF.aeB, RF.aeC, RF.aeD, RF.aeE, RF.aeF, RF.aeG, RF.aeH, RF.aeI, RF.aeJ, RF.aeK, RF.aeL, RF.aeM, RF.aeN, RF.aeO, RF.aeP, RF.aeQ, RF.aeR, RF.aeS, RF.aeT, RF.aeU, RF.aeV, RF.aeW, RF.aeX, RF.aeY, RF.aeZ, RF.ae0, RF.ae1, RF.ae2, RF.ae3, RF.ae4, RF.ae5, RF.ae6, RF.ae7, RF.env0, RF.ends, String.reduceBEq, $l,*] $[$c:location]?)
local macro_rules | `(tactic| simp_arith [$l,*] $[$c:location]?) => `(tactic| simp_arith! [↓RF.lQ, ↓RF.lR, $l,*] $[$c:location]?)
local macro_rules | `(tactic| simp_all_arith [$l,*]) => `(tactic| simp only [RF.env0, RF.ends, List.map_cons, List.map_nil, List.cons_append, List.nil_append, List.replicate_succ, List.replicate_zero, $l,*])
local macro_rules|`(tactic|bv_omega)=>`(tactic|(have hsz:RF.sz=1000000:=rfl;lia))
local macro_rules|`(tactic|symm)=>do let M:=Lean.mkIdent `M;let h:=Lean.mkIdent `hM;`(tactic|refine $h _ _ (RF.seq fun $M $h=>?_))
local macro_rules|`(tactic|nofun)=>do let M:=Lean.mkIdent `M;let h:=Lean.mkIdent `hM;`(tactic|refine RF.seq fun $M $h=>?_)
local macro_rules|`(tactic|ac_nf0)=>do let h:=Lean.mkIdent `hM;`(tactic|refine $h _ _ (RF.last ?_))
local macro_rules|`(tactic|erw[$[$x:term],*]$[$c:location]?)=>`(tactic|simp_arith[$[$x:term],*]$[$c:location]?)
namespace RF
open PySem L2
def ig{i j:Int}(h:Neg.neg (2 ^ 64)<j/\j<2 ^ 64):CMul i j:=.inr h
def Ao{i j:Int}(h:Neg.neg (2 ^ 64)<i/\i<2 ^ 64):CMul i j:=.inl h
def K7{j:Int}(h:0<=j/\j<=1000):rN 10 j:=⟨h.1,!0,!1⟩
def uN:RF.Spec:=bT (λds z=>∃c k:Int,ds=[.int c,.int k]/\0<=k) (λz G d g=>g=G/\∃r:Int,d=.int r/\0<=r)
def afq(Z:aj)(ds:AS)(G:DH)(h:∃c k:Int,ds=[.int c,.int k]/\0<=k):au Z z7 noE (env0 ds 3) G (ends λd I=>I=G/\∃r:Int,d=.int r/\0<=r):=by
 let(c,k,rfl,J):=h;erw[z7];show⟨K7 (!1),?_⟩;cases hc:decide (10 ^ Int.toNat 18<=c) with
 |true=>
  show⟨c,rfl,?_⟩;have:=df hc;have h2:(0:Int)<=(10:Int) ^ (18:Int).toNat:=by decide
  exact Int.le_trans h2 this
 |false=>
  generalize q:(c%1000000007*69069+k*40503+977)%2147483629=one;have o1:0<=one:=by rw[<-q];exact fF _ (!1)
  have o2:one<2147483629:=by rw[<-q];exact fy _ (!1)
  generalize z:(one*one+k*7919+c%65537)%2147483587=two;have L:0<=two:=by rw[<-z];exact fF _ (!1)
  have N:two<2147483587:=by rw[<-z];exact fy _ (!1)
  generalize g:(two*two+one*31+5)%2147483563=three;have h1:0<=three:=by rw[<-g];exact fF _ (!1)
  clear q z g;show⟨!1,ig (!1),ig (!1),!1,Ao (!0),ig (!1),!1,!1,Ao (!0),ig (!1),!1,ig (!1),ig (!1),_,rfl,?_⟩;lia
def Pen(G:DH)(p:AQ):Prop:=∃(ns:List Int)(k st:Int),G p=-(.lst [.lst (ns.map D.int),.int k,.int st])/\0<=k/\0<=st
def Pen.sa{G g:DH}{p:AQ}(h:Pen G p)(s:Sa G g):Pen g p:=by let(ns,k,st,e,h1):=h;exact⟨ns,k,st,s _ _ e,h1⟩
def Pen.ne{G:DH}{p q:AQ}(h:Pen G p)(e:G q=none):p≠q:=by let(ns,k,st,g,h1):=h;exact lJ g e
def Pen.sb{G g:DH}{p q:AQ}(h:Pen G p)(s:Sb q G g)(n:p≠q):Pen g p:=by let(ns,k,st,e,h1):=h;exact⟨ns,k,st,s _ _ e n,h1⟩
def uO:RF.Spec:=bT (λds G=>∃p,ds=[.ref p]/\Pen G p) (λds G d g=>∃p,ds=[.ref p]/\d=.ref p/\Pen g p/\Sb p G g)
def afr(Z:aj)(ds:AS)(G:DH)(h:∃p,ds=[.ref p]/\Pen G p):au Z z6 noE (env0 ds 0) G (ends λd g=>∃p,ds=[.ref p]/\d=.ref p/\Pen g p/\Sb p G g):=by let(p,rfl,ns,k,st,e,h1,h2):=h;erw[z6,cJ e];exact⟨p,rfl,rfl,⟨ns,k,0,aY,h1,!1⟩,Sb.upd⟩
def eZ:RF.Spec:=bT (λds G=>∃p,∃m:Int,ds=[.ref p,.int m]/\Pen G p/\0<m/\m<1152921504606846976) (λds G d g=>∃p,∃m r:Int,ds=[.ref p,.int m]/\d=.int r/\0<=r/\r<m/\Pen g p/\Sb p G g)
def afs (Z:aj) (hΦ:Z "_law_spread"=uN) (ds:AS) (G:DH) (h:∃p,∃m:Int,ds=[.ref p,.int m]/\Pen G p/\0<m/\m<1152921504606846976):
  au Z z8 noE (env0 ds 3) G (ends λd U=>∃p,∃m r:Int,ds=[.ref p,.int m]/\d=.int r/\0<=r/\r<m/\Pen U p/\Sb p G U):=by
 let(p,m,rfl,(ns,k,st,e,h1,h2),Y,h4):=h;simp_all_arith[z8];nofun;have fin:∀(q z I:Option D)(G1:DH)(O s1:Int),0<=O->0<=s1->G1 p=-(.lst [.lst (ns.map D.int),.int O,.int s1])->Sb p G G1->M [-(.ref p),-(.int m),q,z,I] G1:=by intro q z I G1 O s1 q1 q2 J sb;show hM _ _ ?_;erw[du J,cJ J];show⟨Y,⟨Y,h4⟩,p,m,_,rfl,rfl,fF _ (!0),fy _ Y,⟨ns,O,_,aY,q1,?_⟩,sb.trans Sb.upd⟩;exact Int.ediv_nonneg q2 (!0)
 erw[du e,cJ e,hΦ];have g:∀c:Int,uN.t [.int c,.int k] (aK G p (.lst [.lst (ns.map D.int),.int (k+1),.int st])) (λx G1=>trk G1 p λds=>aR (ixN ds⁻¹ 2) λj=>M [-(.ref p),-(.int m),-(.int k),-(.int c),none] (aK G1 p (.lst (ds.set j x)))) noE:=by intro c;show cI ⟨c,k,rfl,h1⟩ λd U hx=>?_;let(J,r,e2,hr):=hx;subst J e2;erw[cJ aY];show fin _ _ _ _ (k+1) r (!0) hr aY (Sb.trans Sb.upd Sb.upd)
 cases hc:decide (st<m) with
 |false=>exact fin _ _ _ _ k st h1 h2 e (Sb.refl _ _)
 |true=>
  cases L:decide (k<((ns.map D.int)⁻¹:Int)) with
  |true=>
   have L:=df L;rw[ag]at L;show bU (a:=.int ns[k.toNat]) ?_ ?_
   .let(n,rfl):=cr h1;exact bL (by simp at L ⊢)
   .exact g _
  |false=>
   cases N:decide (0<((ns.map D.int)⁻¹:Int)) with
   |false=>exact g 0
   |true=>
    have N:=df N;have j1:0<=(k*5+3)%((ns.map D.int)⁻¹:Int):=fF _ (!0);have j2:(k*5+3)%((ns.map D.int)⁻¹:Int)<((ns.map D.int)⁻¹:Int):=fy _ N;let(j,hj):=cr j1;rw[hj]at j2;have j3:j<ns⁻¹:=by rw[ag]at j2;lia
    show⟨ig (!1),N,bU (a:=.int ns[j]) ?_ ⟨K7 (!1),?_⟩⟩
    .rw[hj];exact bL (by simp[j3])
    .erw[cJ e];show⟨?_,g _⟩;have:(0:Int)<10 ^ Int.toNat 17:=by decide
     lia
def oG:RF.Spec:=bT (λds G=>∃p,∃n:Nat,∃cs:AA,ds=[.ref p,.int n,.str cs]/\Pen G p/\n<=1000/\cs≠[]/\cs⁻¹<=1000)
 (λds G d g=>∃p,∃n:Nat,∃cs l:AA,ds=[.ref p,.int n,.str cs]/\d=.str l/\l⁻¹=n/\(∀c∈l,c∈cs)/\Pen g p/\Sb p G g)
def aft(l:AA):((l.map λc=>[c]).map (·.length)).sum=l⁻¹:=by
 induction l with
 |nil=>rfl
 |cons a l g=>simp at g ⊢;lia
def afu(l:AA):(l.map λc=>[c]).flatten=l:=by
 induction l with
 |nil=>rfl
 |cons a l g=>simp at g ⊢;exact g
def afv (Z:aj) (J:Z "_law_take"=eZ) (ds:AS) (G:DH) (h:∃p,∃n:Nat,∃cs:AA,ds=[.ref p,.int n,.str cs]/\Pen G p/\n<=1000/\cs≠[]/\cs⁻¹<=1000):
  au Z z9 noE (env0 ds 0) G (ends λd g=>∃p,∃n:Nat,∃cs l:AA,ds=[.ref p,.int n,.str cs]/\d=.str l/\l⁻¹=n/\(∀c∈l,c∈cs)/\Pen g p/\Sb p G g):=by
 let(p,n,cs,rfl,hp,hn,hc,hl):=h;have hc1:0<cs⁻¹:=List.length_pos_iff.mpr hc;erw[z9,J];show⟨!0,CompG.inv (P:=λi q Y g=>(∃o,Y=[o,-(.str cs),-(.ref p)])/\Pen g p/\Sb p G g/\∃l:AA,q=l.map (λc=>D.str [c])/\l⁻¹=i/\∀c∈l,c∈cs) (h0:=⟨⟨_,rfl⟩,hp,Sb.refl _ _,[],rfl,rfl,!2⟩) (hh:=λy y y y y=>trivial) (hl:=by simp[aX];bv_omega) (hs:=?_) (he:=?_)⟩
 .rintro i d q Y g hd ⟨⟨o,rfl⟩,I,sb,l,rfl,z,N⟩ kk hk;erw[J];show cI ⟨p,_,rfl,I,!0,!0⟩ λd' G2 hx=>?_;let(p2,m2,r,e1,e2,r0,r1,O,U):=hx;cases e1;subst e2;let(j,rfl):=cr r0;have hj:j<cs⁻¹:=by lia
  erw[ends];show bU (a:=cs[j]) (bL (by simp[hj])) (hk _ _ _ ⟨⟨_,rfl⟩,O,sb.trans U,l++[cs[j]],!2,by simp[z],?_⟩);intro c hc;rcases aE.mp hc with h|h
  .exact N c h
  .rw[al.mp h];exact cq _
 .rintro q Y g ⟨_,I,sb,l,rfl,z,N⟩;erw[strs_map];have L:l⁻¹=n:=by rw[z];simp[aX]
  show⟨?_,p,n,cs,l,rfl,?_,L,N,I,sb⟩
  .rw[aft];simp;bv_omega
  .rw[KC,afu]
def isF(c:Nat):Prop:=c=48\/c=49\/c=42
def Aq:RF.Spec:=bT (λds G=>∃p,∃n:Nat,ds=[.ref p,.int n]/\Pen G p/\n<=1000) (λds G d g=>∃p,∃n:Nat,∃l:AA,ds=[.ref p,.int n]/\d=.str l/\l⁻¹=n/\(∀c∈l,isF c)/\Pen g p/\Sb p G g)
def afw (Z:aj) (h1:Z "_law_take"=eZ) (h2:Z "_law_signs"=oG) (ds:AS) (G:DH) (h:∃p,∃n:Nat,ds=[.ref p,.int n]/\Pen G p/\n<=1000):
  au Z Ab noE (env0 ds 0) G (ends λd J=>∃p,∃n:Nat,∃l:AA,ds=[.ref p,.int n]/\d=.str l/\l⁻¹=n/\(∀c∈l,isF c)/\Pen J p/\Sb p G J):=by
 let(p,n,rfl,hp,hn):=h;erw[Ab,h1,h2];show⟨!1,cI ⟨p,_,rfl,hp,!1,!1⟩ λd' G2 zZ=>?_⟩;let(p2,m2,r,g,q,r0,r1,z,I):=zZ;cases g;subst q;let(j,rfl):=cr r0;erw[ends];have:∃cs:AA,atI [D.str [48,49,42],D.str [48,49,42,42],D.str [48,49,42,42,42,42],D.str [48,42],D.str [48,49]] ((j:Nat):Int)=-(.str cs)/\cs≠[]/\cs⁻¹<=1000/\∀c∈cs,isF c:=by
  have Y:j=0\/j=1\/j=2\/j=3\/j=4:=by lia
  rcases Y with rfl|rfl|rfl|rfl|rfl<;>exact⟨_,rfl,!1,!1,by simp[isF]⟩
 let(cs,e,L,N,O):=this;show bU e (cI ⟨p,n,cs,rfl,z,hn,L,N⟩ λd G3 zZ=>?_);let(p3,n3,U,l,g,q,q1,q2,q3,q4):=zZ;cases g;exact⟨p,n,l,rfl,q,q1,λc hc=>O c (q2 c hc),q3,I.trans q4⟩
def Ar:RF.Spec:=bT (λds z=>∃ns:List Int,ds=[.scr ns]/\ns⁻¹<=63) (λz G d g=>∃p,d=.ref p/\G p=none/\Pen g p/\Sa G g)
def afx(Z:aj)(ds:AS)(G:DH)(h:∃ns:List Int,ds=[.scr ns]/\ns⁻¹<=63):au Z Ag noE (env0 ds 3) G (ends λd g=>∃p,d=.ref p/\G p=none/\Pen g p/\Sa G g):=by
 let(ns,rfl,hl):=h;simp_all_arith[Ag];nofun;erw[ends];intro c hc;show hM _ _ ?_;nofun;erw[ends];show ForG.inv (λi Y g=>∃(o2 o3:Option D)(xs:List Int),Y=[-(.scr ns),-(.ref c),o2,o3]/\g=aK G c (.lst (xs.map D.int))/\(12<=xs⁻¹\/cut ns (-12) (-63)=[])) ⟨_,_,cut ns none (-12),rfl,rfl,?_⟩ (λy y y y=>trivial) ?_ ?_
 .by_cases q:12<=ns⁻¹
  .left;simp[cut,HT.sIx];lia
  .right;simp[cut,HT.sIx];lia
 .rintro i d Y g N ⟨o2,o3,xs,rfl,rfl,hx⟩ kk hk;rw[mJ]at N;let(d',z,e3):=aT.mp N;subst e3;rw[a8]at z;let(x,J,e4):=aT.mp z;subst e4;have q:12<=xs⁻¹:=by
   rcases hx with h|h
   .exact h
   .rw[h]at J;simp at J
  let(j,O):=cr (fF ((0+i:Nat):Int) (by decide:(12:Int)≠0));have U:j<12:=by have:=fy ((0+i:Nat):Int) (by decide:(0:Int)<12);lia
  have I:j<xs⁻¹:=by lia
  erw[O,du aY,cJ aY];show⟨!1,bU (a:=.int xs[j]) (bL (by simp[I])) ?_⟩;erw[O,du aY,cJ aY,ag,KD I];show⟨!1,hk _ _ ⟨_,_,xs.set j (xs[j]+x),rfl,?_,by simp[q]⟩⟩;rw[Ze,List.map_set]
 .rintro Y g ⟨o2,o3,xs,rfl,rfl,hx⟩;show hM _ _ ?_;erw[aY];show⟨by bv_omega,λp L=>⟨p,rfl,?_,⟨xs,0,0,aY,!1,!1⟩,?_⟩⟩
  .rw[Hj hc]at L;exact L
  .rw[Hj hc]at L ⊢;exact Sa.new L
def oH:RF.Spec:=bT (λds z=>∃ns:List Int,ds=[.scr ns]/\ns⁻¹<=63) (λz z d z=>d=.bl true)
def whole:D->Bool
 |.int _=>true
 |_=>false
def jb:AS->Option D
 |[x]=>if nr x then some (.bl (whole x)) else none
 |_=>none
def afy(Z:aj)(ds:AS)(G:DH)(d:D)(h:jb ds=-d):au Z m8 noE (env0 ds 0) G (ends λd' g=>g=G/\d'=d):=by
 unfold jb at h;split at h
 .rename_i x;split at h
  .rename_i q;cases h;cases x<;>first | (simp[nr]at q;done) | (erw[m8,whole];try simp)
  .cases h
 .cases h
def okF(w:Nat)(l:AA):Prop:=l⁻¹=w/\∀c∈l,isF c
def okF.app{w v:Nat}{l m:AA}(h:okF w l)(h':okF v m):okF (w+v) (l++m):=⟨by rw[am,h.1,h'.1],λc hc=>(aE.mp hc).elim (h.2 c) (h'.2 c)⟩
def okF.one{c:Nat}(h:isF c):okF 1 [c]:=⟨rfl,λd g=>by rw[al.mp g];exact h⟩
def dw{p:AQ}{m:Int}{G:DH}{k:AT}{E:EK}(L:Pen G p)(h1:0<m)(h2:m<1152921504606846976)(J:∀(r:Nat)(g:DH),(r:Int)<m->Pen g p->Sb p G g->k (.int r) g):eZ.t [.ref p,.int m] G k E:=by show cI ⟨p,m,rfl,L,h1,h2⟩ λd g N=>?_;let(p2,Y,r,z,I,O,U,q,sb):=N;cases z;subst I;let(n,rfl):=cr O;exact J n g U q sb
def afz{n:Nat}(h:(n:Int)<2):∃c,atI [48,49] (n:Int)=-c/\isF c:=by
 have:n=0\/n=1:=by lia
 rcases this with rfl|rfl
 .exact ⟨48,rfl,.inl rfl⟩
 .exact ⟨49,rfl,.inr (.inl rfl)⟩
def afA{n:Nat}(h:(n:Int)<3):∃c,atI [48,49,42] (n:Int)=-c/\isF c:=by
 have:n=0\/n=1\/n=2:=by lia
 rcases this with rfl|rfl|rfl
 .exact ⟨48,rfl,.inl rfl⟩
 .exact ⟨49,rfl,.inr (.inl rfl)⟩
 .exact ⟨42,rfl,.inr (.inr rfl)⟩
def Av(ds:AS)(G:DH):Prop:=∃p l,ds=[.ref p,.str l]/\Pen G p/\(∀c∈l,isF c)/\l⁻¹<=1000
def Aw(ds:AS)(G:DH)(d:D)(g:DH):Prop:=∃p l m,ds=[.ref p,.str l]/\d=.str m/\okF l⁻¹ m/\Pen g p/\Sb p G g
def jc:RF.Spec:=bT Av Aw
def K8{p:AQ}{l:AA}{G:DH}{k:AT}{E:EK}(L:Pen G p)(hl:∀c∈l,isF c)(h2:l⁻¹<=1000)(J:∀(m:AA)(g:DH),okF l⁻¹ m->Pen g p->Sb p G g->k (.str m) g):jc.t [.ref p,.str l] G k E:=by show cI ⟨p,l,rfl,L,hl,h2⟩ λd g N=>?_;let(p2,O,m,z,I,h,q,sb):=N;cases z;subst I;exact J m g h q sb
def afB (Z:aj) (h1:Z "_law_take"=eZ) (ds:AS) (G:DH) (h:Av ds G):au Z Ad noE (env0 ds 2) G (ends (Aw ds G)):=by
 let(p,l,rfl,hp,hl,hl2):=h;simp_all_arith[Ad];nofun;erw[ends];symm;simp_arith![ends];show ForG.inv (P:=λi Y G'=>(∃o m,Y=[-(.ref p),-(.str l),-(.str m),o]/\okF i m)/\Pen G' p/\Sb p G G') ⟨⟨_,_,rfl,rfl,!2⟩,hp,Sb.refl _ _⟩ (λy y y y=>trivial) ?_ ?_
 .rintro i d Y G2 hd ⟨⟨o,m,rfl,N⟩,g,I⟩ kk hk;rw[a8]at hd;let(c,hc,rfl):=aT.mp hd;have hi:i<l⁻¹:=(av.mp hc).1;have L:=hl c (ck hc);have l1:=N.1;simp_arith![ends];nofun;have fin:∀(c:Nat)(J:DH),isF c->Pen J p->Sb p G2 J->M [-(.ref p),-(.str l),-(.str m),-(.str [c])] J:=by
   intro c J L q z;ac_nf0;erw[ends];exact⟨by bv_omega,hk _ _ ⟨⟨_,_,rfl,N.app (okF.one L)⟩,q,I.trans z⟩⟩
  erw[h1];cases ht:([c]==[42]) with
  |false=>exact fin c G2 L g (Sb.refl _ _)
  |true=>
   show dw g (!1) (!1) λr J hr q z=>?_;erw[ends];cases hr0:((r:Int)==0) with
   |false=>exact fin c J L q z
   |true=>
    show dw q (!1) (!1) λr' G4 hr' U sb4=>?_;let(c',e,O):=afz hr';erw[e];exact fin c' G4 O U (z.trans sb4)
 .rintro Y G2 ⟨⟨o,m,rfl,N⟩,g,I⟩;show hM _ _ ?_;erw[ends];exact⟨p,l,m,rfl,rfl,!!N,g,I⟩
def afC (Z:aj) (h1:Z "_law_take"=eZ) (ds:AS) (G:DH) (h:Av ds G):au Z Ac noE (env0 ds 2) G (ends (Aw ds G)):=by
 let(p,l,rfl,hp,hl,hl2):=h;simp_all_arith[Ac];nofun;erw[ends];symm;simp_arith![ends];show ForG.inv (P:=λi Y O=>(∃o m,Y=[-(.ref p),-(.str l),-(.str m),o]/\okF i m)/\Pen O p/\Sb p G O) ⟨⟨_,_,rfl,rfl,!2⟩,hp,Sb.refl _ _⟩ (λy y y y=>trivial) ?_ ?_
 .rintro i d Y G2 U ⟨⟨o,m,rfl,L⟩,I,J⟩ kk hk;rw[a8]at U;let(c,hc,rfl):=aT.mp U;have hi:i<l⁻¹:=(av.mp hc).1;have N:=hl c (ck hc);have l1:=L.1;simp_arith![ends];nofun;have fin:∀(c:Nat)(z:DH),isF c->Pen z p->Sb p G2 z->M [-(.ref p),-(.str l),-(.str m),-(.str [c])] z:=by
   intro c z N g q;ac_nf0;erw[ends];exact⟨by bv_omega,hk _ _ ⟨⟨_,_,rfl,L.app (okF.one N)⟩,g,J.trans q⟩⟩
  erw[h1];show dw I (!1) (!1) λr z hr g q=>?_;erw[ends];cases hr0:((r:Int)==0) with
  |false=>exact fin c z N g q
  |true=>exact fin 42 z (.inr (.inr rfl)) g q
 .rintro Y G2 ⟨⟨o,m,rfl,L⟩,I,J⟩;show hM _ _ ?_;erw[ends];exact⟨p,l,m,rfl,rfl,!!L,I,J⟩
def K9{G J:DH}{p:AQ}{x:D}{fs:List (AA)}(z:view G x=.lst (fs.map D.str))(L:Pen G p)(sb:Sb p G J):view J x=.lst (fs.map D.str):=by
 cases x with
 |ref q=>
  unfold view at z;dsimp only at z;cases g:G q with
  |none=>rw[g]at z;cases z
  |some o=>
   cases o with
   |lst ds=>
    rw[g]at z;have e:ds=fs.map D.str:=by simpa using z
    have hn:q≠p:=by
     rintro rfl;let(ns,k,st,I,_):=L;rw[g,e]at I;cases fs with
     |nil=>simp at I
     |cons a r=>simp at I
    rw[du (sb q _ g hn),e]
   |dct _ _=>rw[g]at z;cases z
 |lst l=>exact z
 |_=>cases z
def La(ds:AS)(G:DH):Prop:=∃p,∃w:Nat,∃x,∃fs:List (AA),ds=[.ref p,.int w,x]/\Pen G p/\0<w/\w<=1000/\view G x=.lst (fs.map D.str)/\fs⁻¹<=1000/\∀f∈fs,okF w f
def Ax(ds:AS)(G:DH)(d:D)(g:DH):Prop:=∃p,∃w:Nat,∃x m,ds=[.ref p,.int w,x]/\d=.str m/\okF w m/\Pen g p/\Sb p G g
def uP:RF.Spec:=bT La Ax
def afD{p:AQ}{w:Nat}{x:D}{fs:List (AA)}{G:DH}{k:AT}{E:EK}(O:Pen G p)(h1:0<w)(h2:w<=1000)(U:view G x=.lst (fs.map D.str))(J:fs⁻¹<=1000)(L:∀f∈fs,okF w f)
  (N:∀(m:AA)(g:DH),okF w m->Pen g p->Sb p G g->k (.str m) g):uP.t [.ref p,.int w,x] G k E:=by
 show cI ⟨p,w,x,fs,rfl,O,h1,h2,U,J,L⟩ λd g Y=>?_;let(p2,w2,x2,m,z,I,h,q,sb):=Y;simp only[dP,D.ref.injEq,D.int.injEq,Int.ofNat_inj,gI]at z;let(rfl,rfl,rfl):=z;subst I;exact N m g h q sb
def afE(fs:List (AA)):nrs (fs.map D.str)=true:=by
 induction fs with
 |nil=>rfl
 |cons a l g=>rw[bg,nrs,g];rfl
def afF(fs:List (AA)):aW (fs.map D.str)=0:=by
 induction fs with
 |nil=>rfl
 |cons a l g=>rw[bg,aW,g];rfl
def afG{w n:Nat}{l:AA}{c:Nat}(h:okF w l)(hn:n<w)(q:isF c):okF w (cut l none (-(n:Int))++[c]++cut l (-((n:Int)+1)) none):=by
 have h1:=h.1;rw[zW,KJ];show⟨?_,λd g=>?_⟩
 .simp;lia
 .rcases aE.mp g with g|g
  .rcases aE.mp g with g|g
   .exact h.2 d (gc g)
   .rw[al.mp g];exact q
  .exact h.2 d (List.mem_of_mem_drop g)
def afH (Z:aj) (h1:Z "_law_take"=eZ) (h2:Z "_law_form"=Aq) (h3:Z "_law_within"=jc) (h4:Z "_law_wider"=jc) (ds:AS) (G:DH) (h:La ds G):au Z Ae noE (env0 ds 3) G (ends (Ax ds G)):=by
 let(p,w,x,fs,rfl,hp,w1,w2,hv,hf,hfs):=h;simp_all_arith[Ae];nofun;erw[h1];show dw hp (!1) (!1) λkd G2 hkd J N=>?_;have U:=K9 hv hp N;symm;have drawn:∀(Y:ak) (G3:DH),Pen G3 p->Sb p G G3->au Z (.cons (.ret (.call "_law_form" (.cons (.var 0) (.cons (.var 1) .nil)))) .nil) noE (-(.ref p)::-(.int w)::Y) G3 {nx:=M,rt:=Ax [.ref p,.int w,x] G,bk:=λy y=>False,ct:=λy y=>False}:=by intro Y G3 I O;erw[h2];show cI ⟨p,w,rfl,I,w2⟩ λd G4 hx=>?_;let(p4,n4,l,e1,e2,l1,l2,q,z):=hx;simp only[dP,D.ref.injEq,D.int.injEq,Int.ofNat_inj,gI]at e1;let(rfl,rfl):=e1;exact⟨p,w,x,l,rfl,e2,⟨l1,l2⟩,q,O.trans z⟩
 simp_arith![U,aci,afF,afE];show⟨!1,?_⟩;cases he:(fs.map D.str).isEmpty with
 |true=>exact drawn _ _ J N
 |false=>
  have hlen:0<fs⁻¹:=by
   cases fs with
   |nil=>simp at he
   |cons a r=>simp
  simp_arith![ends];cases hk2:decide ((kd:Int)<2) with
  |true=>exact drawn _ _ J N
  |false=>
   erw[ends];symm;erw[h1,U,ag];show dw J (!0) (!0) λr G3 hr I O=>?_;have hv3:=K9 U J O;erw[hv3];have hr':r<fs⁻¹:=by lia
   show bU (a:=.str fs[r]) (bL (by simp[hr'])) ?_;have g:=hfs fs[r] (cq _);generalize fs[r]=f at g;symm;have L:=N.trans O;erw[ends];cases hk3:((kd:Int)==2) with
   |true=>exact⟨p,w,x,f,rfl,rfl,g,I,L⟩
   |false=>
    symm;simp_arith![ends];cases hk5:decide ((kd:Int)<5) with
    |true=>
     erw[h1];show dw I (!0) (!0) λat' G4 hat q z=>?_;show dw q (!1) (!1) λs G5 hs hp5 sb5=>?_;let(c,e,fc):=afA hs;have c1:=KH f none (-(at':Int));have c2:=KH f (-((at':Int)+1)) none;have f1:=g.1;erw[e,am];exact⟨by bv_omega,by bv_omega,p,w,x,_,rfl,rfl,afG g (!0) fc,hp5,L.trans (z.trans sb5)⟩
    |false=>
     erw[ends];symm;have f1:=g.1;erw[h3];cases hk6:((kd:Int)==5) with
     |true=>
      show K8 I g.2 (!0) λm G4 hm q z=>?_;rw[f1]at hm;exact⟨p,w,x,m,rfl,rfl,hm,q,L.trans z⟩
     |false=>
      show hM _ _ ?_;erw[h4];show K8 I g.2 (!0) λm G4 hm q z=>?_;rw[f1]at hm;exact⟨p,w,x,m,rfl,rfl,hm,q,L.trans z⟩
def okD(l:AA):Prop:=1<=l⁻¹/\l⁻¹<=8/\∀c∈l,97<=c/\c<=122
def afI{p:AQ}{n:Nat}{cs:AA}{G:DH}{k:AT}{E:EK}(N:Pen G p)(hn:n<=1000)(h1:cs≠[])(h2:cs⁻¹<=1000)(L:∀(l:AA)(g:DH),l⁻¹=n->(∀c∈l,c∈cs)->Pen g p->Sb p G g->k (.str l) g):oG.t [.ref p,.int n,.str cs] G k E:=by show cI ⟨p,n,cs,rfl,N,hn,h1,h2⟩ λd g O=>?_;let(p2,n2,I,l,z,J,U,Y,q,sb):=O;simp only[dP,D.ref.injEq,D.int.injEq,D.str.injEq,Int.ofNat_inj,gI]at z;let(rfl,rfl,rfl):=z;subst J;exact L l g U Y q sb
def Lb(ds:AS)(G:DH):Prop:=∃p,∃m:Int,ds=[.ref p,.int m]/\Pen G p/\0<m/\m<=100
def Ld(ds:AS)(G:DH)(d:D)(g:DH):Prop:=∃p,∃m:Int,∃xs:List (AA),ds=[.ref p,.int m]/\d=.lst (xs.map D.str)/\0<xs⁻¹/\xs⁻¹<=100/\(∀x∈xs,okD x)/\Pen g p/\Sb p G g
def uQ:RF.Spec:=bT Lb Ld
def Ay:List (AA):=[[97],[103,111],[115,116,97,121],[97,98,99,100,101,102,103,104],[110,111,110,101],[121,101,115],[105,110],[111,117,116],[107,101,101,112],[119,111,114,100],[122,122]]
def afJ:∀x∈Ay,okD x:=by
 have h:∀x∈Ay,1<=x⁻¹/\x⁻¹<=8/\∀c∈x,97<=c/\c<=122:=by decide
 exact h
def Lg{c:Nat}(h:c∈[97,98,99,100,101,102,103,104,105,106,107,108,109,110,111,112,113,114,115,116,117,118,119,120,121,122]):97<=c/\c<=122:=by
 have:∀c∈[97,98,99,100,101,102,103,104,105,106,107,108,109,110,111,112,113,114,115,116,117,118,119,120,121,122],97<=c/\c<=122:=by decide
 exact this c h
def afK (Z:aj) (h1:Z "_law_take"=eZ) (h2:Z "_law_signs"=oG) (ds:AS) (G:DH) (h:Lb ds G):au Z Aa noE (env0 ds 4) G (ends (Ld ds G)):=by
 let(p,m,rfl,hp,m1,m2):=h;simp_all_arith[Aa];nofun;erw[ends];show⟨!1,hM _ _ ?_⟩;show(λU=>U Ay rfl afJ) (?_:∀xs:List (AA),xs⁻¹=11->(∀x∈xs,okD x)->au Z _ noE [-(.ref p),-(.int m),-(.lst (xs.map D.str)),none,none,none] G _);intro xs x1 x2;nofun;erw[h1];show dw hp (!1) (!1) λt G2 ht hp2 sb2=>?_;symm;erw[h1];show dw hp2 (!0) (!0) λr G3 hr hp3 sb3=>?_;erw[ends];show⟨!0,?_⟩;show CompG.inv (P:=λi g Y I=>(∃o,Y=[o,-(.lst (xs.map D.str)),-(.int t)])/\I=G3/\∃ys:List (AA),g=ys.map D.str/\ys⁻¹=i/\∀y∈ys,okD y) ⟨⟨_,rfl⟩,rfl,[],rfl,rfl,!2⟩ (λv v v v v=>trivial) (by simp[aX];bv_omega) ?_ ?_
 .rintro i d g Y I hd ⟨⟨o,rfl⟩,rfl,ys,rfl,y1,y2⟩ kk hk;unfold aX at hd;rw[a8]at hd;let(j,hj,rfl):=aT.mp hd;erw[ends];have q0:0<=((t:Int)+3*(0+(j:Int)))%11:=fF _ (!1);have q1:((t:Int)+3*(0+(j:Int)))%11<11:=fy _ (!1);show⟨Ao (!1),!1,KQ q0 (by rw[ag,x1];exact q1) λa ha=>?_⟩;let(x,hx,rfl):=bP.mp ha;show hk _ _ _ ⟨⟨_,rfl⟩,rfl,ys++[x],!2,by simp[y1],λy hy=>?_⟩;rcases aE.mp hy with h|h
  .exact y2 y h
  .rw[al.mp h];exact x2 x hx
 .rintro g Y I ⟨_,rfl,ys,rfl,y1,y2⟩;have hy:ys⁻¹=r+1:=by rw[y1];simp[aX];lia
  symm;erw[h1];show dw hp3 (!1) (!1) λq G4 hq N sb4=>?_;have O:=sb2.trans (sb3.trans sb4);erw[ends];cases hq0:((q:Int)==0) with
  |false=>
   show hM _ _ ?_;erw[ends];exact⟨p,m,ys,rfl,rfl,!0,!0,y2,N,O⟩
  |true=>
   erw[ends];show CompG.inv (P:=λi g Y I=>(∃o,Y=[o,-(.ref p),-(.str [97,98,99,100,101,102,103,104,105,106,107,108,109,110,111,112,113,114,115,116,117,118,119,120,121,122])])/\Pen I p/\Sb p G I/\∃zs:List (AA),g=zs.map D.str/\zs⁻¹=i/\∀z∈zs,okD z) ⟨⟨_,rfl⟩,N,O,[],rfl,rfl,!2⟩ (λv v v v v=>trivial) (by simp;bv_omega) ?_ ?_
   .rintro i d g Y I hd ⟨⟨o,rfl⟩,J,L,zs,rfl,z1,z2⟩ kk hk;erw[h1,h2];show dw J (!1) (!1) λn G6 hn hp6 sb6=>?_;erw[ends];rw[show(1:Int)+(n:Int)=((n+1:Nat):Int) by lia];show afI hp6 (!0) (!2) (!2) λl G7 l1 l2 hp7 sb7=>?_;show hk _ _ _ ⟨⟨_,rfl⟩,hp7,L.trans (sb6.trans sb7),zs++[l],!2,by simp[z1],λz hz=>?_⟩;rcases aE.mp hz with h|h
    .exact z2 z h
    .rw[al.mp h];exact⟨!0,!0,λc hc=>Lg (l2 c hc)⟩
   .rintro g Y I ⟨_,J,L,zs,rfl,z1,z2⟩;rw[ag]at z1;show hM _ _ ?_;erw[ends];exact⟨p,m,zs,rfl,rfl,!0,!0,z2,J,L⟩
abbrev Row:=AA×AA
abbrev AU:=List Row
abbrev AW:=List (List Int)
def aN(r:Row):D:=.tup [.str r.1,.str r.2]
def aq(w:Nat)(rs:AU):D:=.tup [.int w,.tup (rs.map aN)]
structure okB(w:Nat)(rs:AU):Prop where
 w1:1<=w
 w6:w<=6
 len:rs.length<=12
 form:∀r∈rs,okF w r.1
 deed:∀r∈rs,okD r.2
def Lh(ds:AS)(G:DH):Prop:=∃p,∃w m:Nat,ds=[.ref p,.int w,.int m]/\Pen G p/\1<=w/\w<=6/\m<=12
def Li(ds:AS)(G:DH)(d:D)(g:DH):Prop:=∃p,∃w m v:Nat,∃rs:AU,ds=[.ref p,.int w,.int m]/\d=aq v rs/\okB v rs/\v<=w/\rs⁻¹<=m/\Pen g p/\Sb p G g
def uR:RF.Spec:=bT Lh Li
def afL{p:AQ}{w m:Nat}{G:DH}{k:AT}{E:EK}(N:Pen G p)(h1:1<=w)(h2:w<=6)(J:m<=12)(L:∀(v:Nat)(rs:AU)(g:DH),okB v rs->v<=w->rs⁻¹<=m->Pen g p->Sb p G g->k (aq v rs) g):uR.t [.ref p,.int w,.int m] G k E:=by show cI ⟨p,w,m,rfl,N,h1,h2,J⟩ λd g O=>?_;let(p2,w2,m2,v,rs,z,I,o,U,Y,q,sb):=O;simp only[dP,D.ref.injEq,D.int.injEq,Int.ofNat_inj,gI]at z;let(rfl,rfl,rfl):=z;subst I;exact L v rs g o U Y q sb
def afM{p:AQ}{m:Int}{G:DH}{k:AT}{E:EK}(L:Pen G p)(h1:0<m)(h2:m<=100)(J:∀(xs:List (AA))(g:DH),0<xs⁻¹->xs⁻¹<=100->(∀x∈xs,okD x)->Pen g p->Sb p G g->k (.lst (xs.map D.str)) g):uQ.t [.ref p,.int m] G k E:=by show cI ⟨p,m,rfl,L,h1,h2⟩ λd g N=>?_;let(p2,m2,xs,z,I,O,U,Y,q,sb):=N;cases z;subst I;exact J xs g O U Y q sb
def wu{g:Type}{l:List g}{a:g}:atI (l++[a]) (Neg.neg 1)=-a:=by unfold atI ixN;rw[if_neg (!1),if_pos (by simp;lia),am,ca,show(Neg.neg 1+((l⁻¹+1:Nat):Int)).toNat=l⁻¹ by lia];simp
def afN (Z:aj) (h1:Z "_law_take"=eZ) (h2:Z "_law_deeds_of"=uQ) (h3:Z "_law_form_like"=uP) (ds:AS) (G:DH) (h:Lh ds G):au Z Af noE (env0 ds 5) G (ends (Li ds G)):=by
 let(p,w,m,rfl,hp,w1,w2,m1):=h;simp_all_arith[Af];nofun;erw[h1];show dw hp (!0) (!0) λn G2 hn hp2 U=>?_;erw[ends];rw[show(1:Int)+(n:Int)=((n+1:Nat):Int) by lia];symm;erw[h2];show afM hp2 (!1) (!1) λxs G3 x1 x2 x3 N sb3=>?_;symm;erw[ends];show λq hq=>hM _ _ (seq λM hM=>?_);erw[ends];show λs hs=>hM _ _ (seq λM hM=>?_);have I:q≠s:=by rintro rfl;rw[aY]at hs;cases hs
 have hs3:G3 s=none:=by rw[bu (Ne.symm I)]at hs;exact hs
 have J:p≠q:=N.ne hq;have L:p≠s:=N.ne hs3;have sa4:Sa G3 (aK (aK G3 q (.lst [])) s (.lst [])):=(Sa.new hq).trans (Sa.new hs);have hp4:=N.sa sa4;simp_arith![h1];show dw hp4 (!0) (!0) λr G5 hr hp5 sb5=>?_;simp_arith![ends];show⟨!0,?_⟩;show ForG.inv (P:=λi Y G'=>(∃o,Y=[-(.ref p),-(.int w),-(.int m),-(.int ((n+1:Nat):Int)),-(.lst (xs.map D.str)),-(.ref q),-(.ref s),o])/\Pen G' p/\Sb p G G'/\
   ∃rs:AU,G' q=-(.lst ((rs.map (·.1)).map D.str))/\G' s=-(.lst (rs.map aN))/\rs⁻¹=i/\(∀r∈rs,okF (n+1) r.1)/\∀r∈rs,okD r.2) ⟨⟨_,rfl⟩,hp5,U.trans (sb3.trans (sa4.sb.trans sb5)),[],?_,?_,rfl,!2,!2⟩ (λy y y y=>trivial) ?_ ?_
 .exact sb5 q _ (by rw[bu I];exact aY) (Ne.symm J)
 .exact sb5 s _ aY (Ne.symm L)
 .rintro i d Y G' hd ⟨⟨o,rfl⟩,O,sb6,rs,g1,g2,r1,r2,r3⟩ kk hk;have hi:i<r:=by
   have:=(av.mp hd).1;simpa [aX] using this
  simp_arith![ends];nofun;erw[h3,cJ g1];show afD (fs:=rs.map (·.1)) O (!0) (!0) (du g1) (by simp;lia) (λf hf=>?_) λf G7 hf hp7 sb7=>?_
  .let(r',g,rfl):=bP.mp hf;exact r2 r' g
  have g1':=sb7 q _ g1 (Ne.symm J);have g2':=sb7 s _ g2 (Ne.symm L);erw[cJ g1'];show⟨by simp;bv_omega,hM _ _ (last ?_)⟩;have e2:aK G7 q (.lst ((rs.map (·.1)).map D.str++[.str f])) s=-(.lst (rs.map aN)):=by rw[bu (Ne.symm I)];exact g2'
  have hp8:Pen (aK G7 q (.lst ((rs.map (·.1)).map D.str++[.str f]))) p:=hp7.sb Sb.upd J;erw[h1,cJ e2,du aY,wu,ag];show dw hp8 (!0) (!0) λt G9 ht hp9 sb9=>?_;have e1':=sb9 q _ aY (Ne.symm J);have e2':=sb9 s _ e2 (Ne.symm L);erw[cJ e2'];show KQ (!0) (by simp;lia) λx hx=>?_;let(dd,hdd,rfl):=bP.mp hx;show⟨!1,by simp;bv_omega,hk _ _ ⟨⟨_,rfl⟩,hp9.sb Sb.upd L,?_,rs++[(f,dd)],?_,?_,by simp[r1],?_,?_⟩⟩
  .intro b ob hb nb;by_cases hbs:b=s
   .subst hbs;exfalso;have z:=U b _ hb nb;have z:=sb3 b _ z nb;rw[hs3]at z;cases z
   .by_cases hbq:b=q
    .subst hbq;exfalso;have z:=U b _ hb nb;have z:=sb3 b _ z nb;rw[hq]at z;cases z
    .rw[bu hbs];exact sb9 b _ (by rw[bu hbq];exact sb7 b _ (sb6 b _ hb nb) nb) nb
  .rw[bu I,e1'];simp
  .rw[aY];simp[aN]
  .intro r' g;rcases aE.mp g with h|h
   .exact r2 r' h
   .rw[al.mp h];exact hf
  .intro r' g;rcases aE.mp g with h|h
   .exact r3 r' h
   .rw[al.mp h];exact x3 dd hdd
 .rintro Y G' ⟨⟨o,rfl⟩,O,sb6,rs,g1,g2,r1,r2,r3⟩;have hl:rs⁻¹=r:=by rw[r1];simp[aX]
  show hM _ _ ?_;erw[du g2];exact⟨!1,p,w,m,n+1,rs,rfl,rfl,⟨!0,!0,!0,r2,r3⟩,!0,!0,O,sb6⟩
def alt(c:Nat):AA:=if c=42 then[48,49] else[c]
def step1(g:List (AA))(c:Nat):List (AA):=g.flatMap λt=>(alt c).map λs=>t++[s]
def cj(f:AA):List (AA):=f.foldl step1 [[]]
def Fits(f w:AA):Prop:=f⁻¹=w⁻¹/\∀(i c s:Nat),f[i]?=-c->w[i]?=-s->s∈alt c
def afO(f:AA)(c:Nat):cj (f++[c])=step1 (cj f) c:=by unfold cj;rw[List.foldl_append];rfl
def afP{g:List (AA)}{c:Nat}{w:AA}:w∈step1 g c↔∃t s,t∈g/\s∈alt c/\w=t++[s]:=by
 unfold step1;rw[List.mem_flatMap];constructor
 .rintro ⟨t,ht,h⟩;let(s,hs,rfl):=bP.mp h;exact⟨t,s,ht,hs,rfl⟩
 .rintro ⟨t,s,ht,hs,rfl⟩;exact⟨t,ht,bP.mpr ⟨s,hs,rfl⟩⟩
def Az{f w:AA}{c s:Nat}:Fits (f++[c]) (w++[s])↔Fits f w/\s∈alt c:=by
 constructor
 .rintro ⟨h1,h2⟩;have hl:f⁻¹=w⁻¹:=by simpa using h1
  show⟨⟨hl,λi g s' hc hs=>?_⟩,?_⟩
  .have z:=(av.mp hc).1;exact h2 i g s' (by rw[da z];exact hc) (by rw[da (!0)];exact hs)
  .exact h2 f⁻¹ c s (!2) (by rw[hl];simp)
 .rintro ⟨⟨h1,h2⟩,q⟩;show⟨by simp[h1],λi g s' hc hs=>?_⟩;by_cases hi:i<f⁻¹
  .rw[da hi]at hc;rw[da (!0)]at hs;exact h2 i g s' hc hs
  .have I:=(av.mp hc).1;simp at I;have e:i=f⁻¹:=by lia
   subst e;simp at hc;rw[h1]at hs;simp at hs;subst hc hs;exact q
def oJ{f w:AA}:w∈cj f↔Fits f w:=by
 induction f using acj generalizing w with
 |nil=>
  simp[cj,Fits];constructor
  .rintro rfl;simp
  .intro h;exact ee.mp h.symm
 |snoc f c q=>
  rw[afO,afP];constructor
  .rintro ⟨t,s,ht,hs,rfl⟩;exact Az.mpr ⟨q.mp ht,hs⟩
  .intro h;have hl:=h.1;simp at hl;have g:w≠[]:=by rintro rfl;simp at hl
   show⟨w.dropLast,w.getLast g,?_,?_,(fE g).symm⟩
   .rw[<-fE g]at h;exact q.mpr (Az.mp h).1
   .rw[<-fE g]at h;exact(Az.mp h).2
def letters:AA:=[97,98,99,100,101,102,103,104,105,106,107,108,109,110,111,112,113,114,115,116,117,118,119,120,121,122]
def afQ:∀c:Fin 123,97<=c.1->letters.contains c.1=true:=by decide
def afR{c:Nat}:letters.contains c=true↔97<=c/\c<=122:=
 ⟨λh=>Lg (bm.mp h),λ⟨h1,h2⟩=>afQ ⟨c,Nat.lt_succ_of_le h2⟩ h1⟩
def Ba{g:Type}(l:List g):bools (l.map λz=>D.bl true)=-(l.map λz=>true):=zV _ l
def Bb{q:Type}(l:List q):(l.map λz=>true).all id=true:=b9.mpr λx g=>by let(_,_,rfl):=bP.mp g;rfl
def Bc:RF.Spec:=bV (λa:AA×AA=>[.str a.1,.int a.2⁻¹,.str a.2]) (λa=>a.2⁻¹<=1000/\∀c∈a.2,a.1.contains c=true) (λz=>.bl true)
def afS(Z:aj)(a:AA×AA)(G:DH)(h:a.2⁻¹<=1000/\∀c∈a.2,a.1.contains c=true):au Z m5 noE (env0 [.str a.1,.int a.2⁻¹,.str a.2] 0) G (ends λd g=>g=G/\d=.bl true):=by
 let(s,l):=a;let(h1,h2):=h;dsimp only at h1 h2;erw[m5,BEq.rfl];show CompG.map (f:=λy=>.bl true) (I:=λY=>∃o,Y=[o,-(.str s)]) ⟨_,rfl⟩ trivial (by simp;bv_omega) ?_ ?_
 .rintro d Y q ⟨o,rfl⟩ kk z;let(c,hc,rfl):=bP.mp q;erw[h2 c hc];exact z _ ⟨_,rfl⟩
 .erw[Ba,Bb]
def Bd:RF.Spec:=bV (λl:AA=>[.int l⁻¹,.str l]) (λl=>l⁻¹<=1000/\∀c∈l,isF c) (λz=>.bl true)
def afT (Z:aj) (h1:Z "is_text_of"=Bc) (l:AA) (G:DH) (h:l⁻¹<=1000/\∀c∈l,isF c):au Z m6 noE (env0 [.int l⁻¹,.str l] 0) G (ends λd g=>g=G/\d=.bl true):=by erw[m6,h1];exact b8 ([48,49,42],l) rfl ⟨h.1,λc hc=>by rcases h.2 c hc with rfl|rfl|rfl<;>rfl⟩ ⟨rfl,rfl⟩
def Be:RF.Spec:=bV (λl:AA=>[.str l]) okD (λz=>.bl true)
def afU(Z:aj)(l:AA)(G:DH)(h:okD l):au Z mZ noE (env0 [.str l] 0) G (ends λd q=>q=G/\d=.bl true):=by
 let(h1,h2,L):=h;have z:decide ((1:Int)<=(l⁻¹:Int))=true:=cf (!0);have J:decide ((l⁻¹:Int)<=8)=true:=cf (!0);erw[mZ,z,J];show CompG.map (f:=λy=>.bl true) (I:=λY=>∃o,Y=[o]) ⟨_,rfl⟩ trivial (by simp;bv_omega) ?_ ?_
 .rintro d Y N ⟨o,rfl⟩ kk O;let(c,hc,rfl):=bP.mp N;have g:[97,98,99,100,101,102,103,104,105,106,107,108,109,110,111,112,113,114,115,116,117,118,119,120,121,122].contains c=true:=afR.mpr (L c hc);erw[g];exact O _ ⟨_,rfl⟩
 .erw[Ba,Bb]
def Bg:RF.Spec:=bV (λa:Nat×Row=>[.int a.1,aN a.2]) (λa=>a.1<=6/\okF a.1 a.2.1/\okD a.2.2) (λz=>.bl true)
def afV (Z:aj) (h1:Z "is_form"=Bd) (h2:Z "is_deed"=Be) (a:Nat×Row) (G:DH) (h:a.1<=6/\okF a.1 a.2.1/\okD a.2.2):au Z m7 noE (env0 [.int a.1,aN a.2] 0) G (ends λd z=>z=G/\d=.bl true):=by let(w,f,d):=a;let(hw,g,q):=h;dsimp only at hw g q;erw[m7,aN,h1,h2];erw[show((0+1+1:Nat):Int)=2 from rfl,BEq.rfl];show b8 f (by rw[g.1]) ⟨by rw[g.1];lia,g.2⟩ ?_;erw[ends];exact b8 d rfl q ⟨rfl,rfl⟩
def Bh:RF.Spec:=bV (λw:Nat=>[.int w]) (λw=>1<=w/\w<=6) (λz=>.bl true)
def afW (Z:aj) (h1:Z "is_whole"=aV jb) (w:Nat) (G:DH) (h:1<=w/\w<=6):au Z m9 noE (env0 [.int w] 0) G (ends λd g=>g=G/\d=.bl true):=by have q:decide ((1:Int)<=(w:Int))=true:=cf (!0);have z:decide ((w:Int)<=6)=true:=cf (!0);erw[m9,h1];show dG (d:=.bl true) rfl ?_;erw[q,z]
def Bj:RF.Spec:=bV (λa:Nat×AU=>[aq a.1 a.2]) (λa=>okB a.1 a.2) (λz=>.bl true)
def afX (Z:aj) (h1:Z "is_width"=Bh) (h2:Z "is_row"=Bg) (a:Nat×AU) (G:DH) (h:okB a.1 a.2):au Z ni noE (env0 [aq a.1 a.2] 2) G (ends λd J=>J=G/\d=.bl true):=by
 let(w,rs):=a;dsimp only at h ⊢;have q:=h.len;simp_all_arith[ni,aq];nofun;erw[ends];erw[show((0+1+1:Nat):Int)=2 from rfl,BEq.rfl];symm;erw[ends];symm;erw[h1];show b8 w rfl ⟨h.w1,h.w6⟩ ?_;have g:decide ((12:Int)<((rs.map aN)⁻¹:Int))=false:=bX (by rw[ag];lia);erw[g];show hM _ _ ?_;erw[ends];show CompG.map (f:=λy=>.bl true) (I:=λY=>∃o,Y=[o,-(.int w)]) ⟨_,rfl⟩ trivial (by rw[ag];bv_omega) ?_ ?_
 .rintro d Y g ⟨o,rfl⟩ kk L;let(r,z,rfl):=bP.mp g;erw[h2];exact b8 (w,r) rfl ⟨h.w6,h.form r z,h.deed r z⟩ (L _ ⟨_,rfl⟩)
 .erw[Ba,Bb]
def gH:RF.Spec:=bV (λa:Nat×AU=>[aq a.1 a.2]) (λa=>okB a.1 a.2) (λz=>.non)
def jd{w:Nat}{rs:AU}{G:DH}{k:AT}{E:EK}(h:okB w rs)(g:k .non G):gH.t [aq w rs] G k E:=b8 (w,rs) rfl h g
def afY (Z:aj) (h1:Z "is_book"=Bj) (a:Nat×AU) (G:DH) (h:okB a.1 a.2):au Z nq noE (env0 [aq a.1 a.2] 0) G (ends λd g=>g=G/\d=.non):=by erw[nq,h1];show b8 a rfl h ?_;erw[ends]
def Bk(c s:Nat):Bool:=c==42||c==s
def j8:AA->AA->Bool
 |c::f,s::w=>Bk c s&&j8 f w
 |_,_=>true
def oK(f w:AA):Bool:=decide (f⁻¹=w⁻¹)&&j8 f w
def Lj:∀(f w:AA),cG (f.map λc=>D.str [c]) (w.map λc=>D.str [c])=(f.zip w).map λp=>D.tup [.str [p.1],.str [p.2]]
 |[],w=>by simp[cG]
 |c::f,[]=>by simp[cG]
 |c::f,s::w=>by simp[cG,Lj f w]
def je{c s:Nat}:(([c]==[s]):Bool)=(c==s):=by
 by_cases h:c=s
 .subst h;simp
 .rw[cS.mpr h,cS.mpr (by simp[h])]
def Lk{c s:Nat}(hs:s=48\/s=49):Bk c s=true↔s∈alt c:=by
 unfold Bk alt;by_cases h:c=42
 .subst h;simp;rcases hs with rfl|rfl<;>simp
 .simp[h];exact eq_comm
def bC(rs:AU)(w:AA):Option Nat:=rs.findIdx? λr=>oK r.1 w
def bh:Option Nat->D
 |some n=>.int n
 |none=>.non
def Bl{w v:Nat}{rs g:AU}(h:aq w rs=aq v g):w=v/\rs=g:=by
 unfold aq at h;simp only[D.tup.injEq,dP,D.int.injEq,Int.ofNat_inj,gI]at h;show⟨h.1,?_⟩;have h2:=h.2;clear h;induction rs generalizing g with
 |nil=>cases g with
  |nil=>rfl
  |cons _ _=>simp at h2
 |cons r rs q=>cases g with
  |nil=>simp at h2
  |cons s g=>
   simp only[bg,dP]at h2;have e:r=s:=by have:=h2.1;unfold aN at this;simp only[D.tup.injEq,dP,D.str.injEq,gI]at this;exact Prod.ext this.1 this.2
   rw[e,q h2.2]
def j9(rs:AU):Option Nat->D
 |some n=>match rs[n]? with|some r=>.str r.2|none=>.non
 |none=>.non
def afZ{rs:AU}{l:AA}{n:Nat}(h:bC rs l=-n):n<rs⁻¹:=by unfold bC at h;exact(List.findIdx?_eq_some_iff_findIdx_eq.mp h).1
def uT:RF.Spec:=bT (λds z=>∃w rs o,ds=[aq w rs,bh o]/\∀n,o=-n->n<rs⁻¹) (λds G d g=>g=G/\∃w rs o,ds=[aq w rs,bh o]/\d=j9 rs o)
def af0{a b:Option Nat}(h:bh a=bh b):a=b:=by cases a<;>cases b<;>simp[bh]at h ⊢<;>lia
def Ln{w:Nat}{rs:AU}{o:Option Nat}{G:DH}{k:AT}{E:EK}(h:∀n,o=-n->n<rs⁻¹)(J:k (j9 rs o) G):uT.t [aq w rs,bh o] G k E:=by show cI ⟨w,rs,o,rfl,h⟩ λd O L=>?_;let(q,U,N,o2,g,z):=L;simp only[dP,gI]at g;let(g,I):=g;let(rfl,rfl):=Bl g;cases af0 I;subst q z;exact J
def af1(Z:aj)(ds:AS)(G:DH)(h:∃w rs o,ds=[aq w rs,bh o]/\∀n,o=-n->n<rs⁻¹):au Z j7 noE (env0 ds 0) G (ends λd g=>g=G/\∃w rs o,ds=[aq w rs,bh o]/\d=j9 rs o):=by
 let(w,rs,o,rfl,q):=h;cases o with
 |none=>
  erw[j7,bh];exact⟨w,rs,none,rfl,rfl⟩
 |some n=>
  have hn:=q n rfl;erw[j7,bh,aq];show bU (a:=aN rs[n]) (bL (by simp[hn])) ?_;erw[aN];exact⟨w,rs,-n,rfl,by simp[j9,hn]⟩
def Bm{g q:Type}(f:g->q)(l:List g)(n:Nat):cut (l.map f) none (-(n:Int))=(l.take n).map f:=by rw[zW,List.map_take]
def Lp{g q:Type}(f:g->q)(l:List g)(n:Nat):cut (l.map f) (-(n:Int)) none=(l.drop n).map f:=by rw[zX,List.map_drop]
def okB.sub{w:Nat}{rs q:AU}(h:okB w rs)(hl:q⁻¹<=rs⁻¹)(hs:∀r∈q,r∈rs):okB w q:=
 ⟨h.w1,h.w6,b3 hl h.len,λr g=>h.form r (hs r g),λr g=>h.deed r (hs r g)⟩
def af2(c:Nat)(n:Nat):reps [c] n=List.replicate n c:=by
 unfold reps;induction n with
 |zero=>rfl
 |succ n g=>rw[cy,eT,g,cy];rfl
def Lq(w:Nat):okF w (List.replicate w 42):=⟨dr,λc hc=>.inr (.inr (List.eq_of_mem_replicate hc))⟩
def af3{p:AQ}{G:DH}{k:AT}{E:EK}(L:Pen G p)(J:∀g,Pen g p->Sb p G g->k (.ref p) g):uO.t [.ref p] G k E:=
 cI ⟨p,rfl,L⟩ λd g N=>by let(p2,z,I,q,sb):=N;cases z;subst I;exact J g q sb
def fj(a b:Nat):Option Nat:=if a=42 then some b else if b=42\/b=a then some a else none
def cU:AA->AA->Option (AA)
 |a::f,b::g=>match fj a b with|some c=>(cU f g).map (c::·)|none=>none
 |_,_=>-[]
def dz:Option (AA)->D
 |some l=>.str l
 |none=>.non
def oM:AS->Option D
 |[.str f,.str g]=>if decide (f⁻¹<=100000) then some (dz (cU f g)) else none
 |_=>none
def af4{f g:AA}{i a b:Nat}(h:(f.zip g)[i]?=-(a,b)):cU (f.drop i) (g.drop i)=match fj a b with|some c=>(cU (f.drop (i+1)) (g.drop (i+1))).map (c::·)|none=>none:=by
 have q:=av.mp h;let(hl,he):=q;rw[List.length_zip]at hl;have h1:i<f⁻¹:=by lia
 have h2:i<g⁻¹:=by lia
 rw[List.getElem_zip]at he;rw[br h1,br h2];simp only[Prod.mk.injEq]at he;rw[he.1,he.2];rfl
def af5{f g:AA}:cU (f.drop (f.zip g)⁻¹) (g.drop (f.zip g)⁻¹)=-[]:=by
 rw[List.length_zip];by_cases h:f⁻¹<=g⁻¹
 .rw[Nat.min_eq_left h,gg];cases g.drop f⁻¹<;>rfl
 .rw[g9 (!0),gg];cases f.drop g⁻¹<;>rfl
def af6(Z:aj)(ds:AS)(G:DH)(d:D)(h:oM ds=-d):au Z mV noE (env0 ds 3) G (ends λd' L=>L=G/\d'=d):=by
 unfold oM at h;split at h
 .rename_i f g;split at h
  .rename_i hl;have hl:=df hl;cases h;simp_all_arith[mV];nofun;erw[ends];symm;simp_arith![Lj];show ForG.inv (P:=λi Y L=>(∃o3 o4 m,Y=[-(.str f),-(.str g),-(.str m),o3,o4]/\m⁻¹=i/\cU f g=(cU (f.drop i) (g.drop i)).map (m ++ ·))/\L=G) ⟨⟨_,_,[],rfl,rfl,!2⟩,rfl⟩ (λy y y y=>trivial) ?_ ?_
   .rintro i d Y L O ⟨⟨o3,o4,m,rfl,U,J⟩,rfl⟩ kk hk;rw[a8]at O;let((a,b),N,rfl):=aT.mp O;have hi:=(av.mp N).1;rw[List.length_zip]at hi;rw[af4 N]at J;simp_arith![ends];show last ?_;have put:∀(c:Nat)(o3 o4:Option D),fj a b=-c->m⁻¹+1<=sz/\kk [-(.str f),-(.str g),-(.str (m++[c])),o3,o4] L:=by
     intro c o3 o4 hc;rw[hc]at J;show⟨by bv_omega,hk _ _ ⟨⟨_,_,_,rfl,by simp[U],?_⟩,rfl⟩⟩;rw[J,Option.map_map];congr 1;funext x;simp
    erw[je];by_cases z:a=42
    .have:((a==42):Bool)=true:=by simp[z]
     erw[this];exact put b _ _ (if_pos z)
    .have h0:((a==42):Bool)=false:=by simp[z]
     erw[h0,je];by_cases q:b=42
     .have:((b==42):Bool)=true:=by simp[q]
      erw[this];exact put a _ _ (by unfold fj;rw[if_neg z,if_pos (.inl q)])
     .have h1:((b==42):Bool)=false:=by simp[q]
      erw[h1,je];by_cases I:b=a
      .have:((b==a):Bool)=true:=by simp[I]
       erw[this];exact put a _ _ (by unfold fj;rw[if_neg z,if_pos (.inr I)])
      .have:((b==a):Bool)=false:=by simp[I]
       erw[this];have hn:fj a b=none:=by unfold fj;rw[if_neg z,if_neg (by rintro(h|h);exact q h;exact I h)]
       rw[hn]at J;rw[J];rfl
   .rintro Y L ⟨⟨o3,o4,m,rfl,U,J⟩,rfl⟩;rw[ag,af5]at J;show hM _ _ ?_;erw[ends];rw[J];simp[dz]
  .cases h
 .cases h
def ik:AS->Option D
 |[.str f,.int n,.str [c]]=>if decide (0<=n)&&decide (n<f⁻¹)&&decide (f⁻¹<=1000) then some (.str (f.set n.toNat c)) else none
 |_=>none
def af7{l:AA}{n c:Nat}(h:n<l⁻¹):l.take n++[c]++l.drop (n+1)=l.set n c:=by rw[List.set_eq_take_append_cons_drop,if_pos h];simp
def af8(Z:aj)(ds:AS)(G:DH)(d:D)(h:ik ds=-d):au Z mY noE (env0 ds 0) G (ends λd' g=>g=G/\d'=d):=by
 unfold ik at h;split at h
 .rename_i f n c;split at h
  .rename_i hl;simp only[af,dE]at hl;let((h0,h1),h2):=hl;cases h;let(k,rfl):=cr h0;erw[mY,zW,KJ,am,b6,de,bv,af7 (show k<f⁻¹ by lia)];exact⟨by bv_omega,by bv_omega⟩
  .cases h
 .cases h
def fB:AS->Option D
 |[.int n]=>if decide (0<=n)&&decide (n<=1000) then some (.str (List.replicate n.toNat 42)) else none
 |_=>none
def af9(Z:aj)(ds:AS)(G:DH)(d:D)(h:fB ds=-d):au Z nu noE (env0 ds 0) G (ends λd' g=>g=G/\d'=d):=by
 unfold fB at h;split at h
 .rename_i n;split at h
  .rename_i hl;simp only[af,dE]at hl;cases h;erw[nu,af2];exact⟨hl.1,hl.2,by bv_omega⟩
  .cases h
 .cases h
def bz(rs:AU)(b:AA):Option Nat:=rs.findIdx? λr=>(cU r.1 b).isSome
def Lr(ds:AS)(_:DH):Prop:=∃(rs:AU)(b:AA),ds=[.tup (rs.map aN),.str b]/\∀r∈rs,r.1⁻¹<=1000
def Ls(ds:AS)(G:DH)(d:D)(g:DH):Prop:=g=G/\∃(rs:AU)(b:AA),ds=[.tup (rs.map aN),.str b]/\d=bh (bz rs b)
def oN:RF.Spec:=bT Lr Ls
def Bo{rs g:AU}(h:rs.map aN=g.map aN):rs=g:=(Bl (w:=0) (v:=0) (by unfold aq;rw[h])).2
def Lw{rs:AU}{b:AA}{G:DH}{k:AT}{E:EK}(h:∀r∈rs,r.1⁻¹<=1000)(I:k (bh (bz rs b)) G):oN.t [.tup (rs.map aN),.str b] G k E:=by show cI ⟨rs,b,rfl,h⟩ λd N J=>?_;let(q,L,O,g,z):=J;simp only[dP,D.str.injEq,D.tup.injEq,gI]at g;let(g,rfl):=g;cases Bo g;subst q z;exact I
def aga{o:Option (AA)}:fW (dz o)=!o.isSome:=by cases o<;>rfl
def agb{G:DH}{o:Option (AA)}:view G (dz o)=dz o:=by cases o<;>rfl
def agc{rs:AU}{b:AA}{i:Nat}{r:Row}(h:rs[i]?=-r):bz (rs.drop i) b=if(cU r.1 b).isSome then some 0 else(bz (rs.drop (i+1)) b).map (·+1):=by
 have hi:=(av.mp h).1;have e:rs.drop i=r::rs.drop (i+1):=by rw[br hi];rw[(av.mp h).2]
 rw[e];unfold bz;rw[fe]
def agd (Z:aj) (h1:Z "both"=aV oM) (ds:AS) (G:DH) (h:Lr ds G):au Z mW noE (env0 ds 2) G (ends (Ls ds G)):=by
 let(rs,b,rfl,N):=h;simp_all_arith[mW];nofun;simp_arith![ends];show ForG.inv (P:=λi Y z=>(∃o2 o3,Y=[-(.tup (rs.map aN)),-(.str b),o2,o3])/\z=G/\bz rs b=(bz (rs.drop i) b).map (·+i)) ⟨⟨_,_,rfl⟩,rfl,!2⟩ (λy y y y=>trivial) ?_ ?_
 .rintro i d Y z I ⟨⟨o2,o3,rfl⟩,rfl,g⟩ kk O;rw[mJ]at I;let(d',q,rfl):=aT.mp I;rw[a8]at q;let(r,L,rfl):=aT.mp q;have U:=N r (ck L);rw[agc L]at g;simp_arith![ends];show last ?_;erw[h1,aN];show dG (d:=dz (cU r.1 b)) (if_pos (cf (!0))) ?_;erw[agb,aga];cases J:(cU r.1 b).isSome with
  |true=>
   rw[J,if_pos rfl]at g;exact⟨rfl,rs,b,rfl,by rw[g];simp[bh]⟩
  |false=>
   rw[J,if_neg bq]at g;show O _ _ ⟨⟨_,_,rfl⟩,rfl,?_⟩;rw[g,Option.map_map];congr 1;funext n;simp;lia
 .rintro Y z ⟨⟨o2,o3,rfl⟩,rfl,g⟩;rw[mH,ag,gg]at g;show hM _ _ ?_;erw[ends];exact⟨rfl,rs,b,rfl,by rw[g];rfl⟩
def dB(f b:AA):Option Nat:=(f.zip b).findIdx? λp=>p.2==42&&!(p.1==42)
def dI(rs:AU)(b:AA):Option Nat:=match bz rs b with|some n=>(match rs[n]? with|some r=>dB r.1 b|none=>none)|none=>none
def Lx(ds:AS)(_:DH):Prop:=∃(rs:AU)(b:AA),ds=[.tup (rs.map aN),.str b]/\(∀r∈rs,r.1⁻¹=b⁻¹)/\b⁻¹<=1000
def Ly(ds:AS)(G:DH)(d:D)(g:DH):Prop:=g=G/\∃(rs:AU)(b:AA),ds=[.tup (rs.map aN),.str b]/\d=bh (dI rs b)
def uU:RF.Spec:=bT Lx Ly
def age{rs:AU}{b:AA}{G:DH}{k:AT}{E:EK}(h:∀r∈rs,r.1⁻¹=b⁻¹)(hl:b⁻¹<=1000)(I:k (bh (dI rs b)) G):uU.t [.tup (rs.map aN),.str b] G k E:=by show cI ⟨rs,b,rfl,h,hl⟩ λd N J=>?_;let(q,L,O,g,z):=J;simp only[dP,D.str.injEq,D.tup.injEq,gI]at g;let(g,rfl):=g;cases Bo g;subst q z;exact I
def oO{rs:AU}{b:AA}{n:Nat}(h:bz rs b=-n):n<rs⁻¹:=(List.findIdx?_eq_some_iff_findIdx_eq.mp h).1
def agf{f b:AA}{i s c:Nat}(hs:f[i]?=-s)(hc:b[i]?=-c):dB (f.drop i) (b.drop i)=if(c==42&&!(s==42))=true then some 0 else(dB (f.drop (i+1)) (b.drop (i+1))).map (·+1):=by have h1:=av.mp hs;have h2:=av.mp hc;rw[br h1.1,br h2.1,h1.2,h2.2];unfold dB;rw[List.zip_cons_cons,fe]
def agg (Z:aj) (h1:Z "first_touching"=oN) (ds:AS) (G:DH) (h:Lx ds G):au Z mX noE (env0 ds 3) G (ends (Ly ds G)):=by
 let(rs,b,rfl,hb,U):=h;simp_all_arith[mX];nofun;erw[h1];show Lw (λr hr=>by rw[hb r hr];exact U) (hM _ _ (seq λM hM=>?_));cases ht:bz rs b with
 |none=>
  erw[bh];exact⟨rfl,rs,b,rfl,by unfold dI;rw[ht];rfl⟩
 |some n=>
  have hn:=oO ht;have L:=hb rs[n] (cq _);have z:dI rs b=dB rs[n].1 b:=by unfold dI;rw[ht];simp[hn]
  erw[bh];symm;simp_arith![ends];show bU (a:=aN rs[n]) (bL (by simp[hn])) ?_;simp_arith![aN];generalize rs[n].1=f at L z;show ForG.inv (P:=λi Y O=>(∃o3 o4,Y=[-(.tup (rs.map aN)),-(.str b),-(.int (n:Int)),o3,o4])/\O=G/\dB f b=(dB (f.drop i) (b.drop i)).map (·+i)) ⟨⟨_,_,rfl⟩,rfl,!2⟩ (λy y y y=>trivial) ?_ ?_
  .rintro i d Y O hd ⟨⟨o3,o4,rfl⟩,rfl,hs⟩ kk hk;rw[mJ]at hd;let(d',J,rfl):=aT.mp hd;rw[a8]at J;let(s,N,rfl):=aT.mp J;have hi:=(av.mp N).1;have hib:i<b⁻¹:=by lia
   have I:b[i]?=-b[i]:=by simp[hib]
   rw[agf N I]at hs;simp_arith![ends];show last ?_;erw[ends];show bU (a:=b[i]) (by rw[Nat.zero_add];exact bL I) ?_;erw[je];cases q:(b[i]==42) with
   |false=>
    simp only[q,Bool.false_and,if_neg bq]at hs;erw[ends];show hk _ _ ⟨⟨_,_,rfl⟩,rfl,?_⟩;rw[hs,Option.map_map];congr 1;funext n;simp;lia
   |true=>
    erw[je];cases g:(s==42) with
    |true=>
     simp only[q,g,Bool.not_true,Bool.and_false,if_neg bq]at hs;erw[ends];show hk _ _ ⟨⟨_,_,rfl⟩,rfl,?_⟩;rw[hs,Option.map_map];congr 1;funext n;simp;lia
    |false=>
     simp only[q,g,Bool.not_false,Bool.and_true,if_pos]at hs;erw[ends];exact⟨rfl,rs,b,rfl,by rw[z,hs];simp[bh]⟩
  .rintro Y O ⟨⟨o3,o4,rfl⟩,rfl,hs⟩;rw[mH,ag,gg]at hs;show hM _ _ ?_;erw[ends];exact⟨rfl,rs,b,rfl,by rw[z,hs];simp[dB,bh]⟩
def kh:AA:=[115,112,108,105,116]
def stc(b:AA):Nat:=b.countP (·==42)
def kj{b:AA}{n c:Nat}(h:b[n]?=-42)(hc:c≠42):stc (b.set n c)+1=stc b:=by
 let(hl,he):=av.mp h;have g:b=b.take n++42::b.drop (n+1):=by rw[<-he,<-br hl,gX]
 have q:b.set n c=b.take n++c::b.drop (n+1):=by rw[List.set_eq_take_append_cons_drop,if_pos hl]
 unfold stc;rw[q];conv=>rhs;rw[g]
 rw[gu,gu,List.countP_cons_of_neg (by simp[hc]),List.countP_cons_of_pos (!2)];lia
def uV{w n c:Nat}{b:AA}(h:okF w b)(hc:isF c):okF w (b.set n c):=⟨by rw[eD];exact h.1,λd g=>by
 rcases List.mem_or_eq_of_mem_set g with h'|h'
 .exact h.2 d h'
 .rw[h'];exact hc⟩
def Lz:isF 48:=.inl rfl
def LC:isF 49:=.inr (.inl rfl)
inductive Gr (name:AA) (rss:List (AU)):AA->D->Prop
 |leaf (b:AA) (h:∀rs∈rss,dI rs b=none):Gr name rss b (.tup (.str name::rss.map λrs=>bh (bz rs b)))
 |node (b:AA) (n:Nat) (z o:D) (h:b[n]?=some 42) (hz:Gr name rss (b.set n 48) z) (ho:Gr name rss (b.set n 49) o):Gr name rss b (.tup [.str kh,.int n,z,o])
def eF(g:List (AU)):AS:=g.map λrs=>.tup (rs.map aN)
structure okG(w:Nat)(name:AA)(rss:List (AU)):Prop where
 len:rss.length<=100
 nl:name.length<=100
 form:∀rs∈rss,∀r∈rs,r.1.length=w
 w1000:w<=1000
def LK(n:Nat)(ds:AS)(_:DH):Prop:=∃(w:Nat)(name:AA)(g:List (AU))(b:AA),ds=[.str name,.lst (eF g),.str b]/\okG w name g/\b⁻¹=w/\stc b<n
def LQ(ds:AS)(G:DH)(d:D)(q:DH):Prop:=q=G/\∃(name:AA)(g:List (AU))(b:AA),ds=[.str name,.lst (eF g),.str b]/\Gr name g b d
def fG(n:Nat):RF.Spec:=bT (LK n) LQ
def agh{a b:List (AU)}(h:eF a=eF b):a=b:=by
 unfold eF at h;induction a generalizing b with
 |nil=>cases b with
  |nil=>rfl
  |cons _ _=>simp at h
 |cons x a g=>cases b with
  |nil=>simp at h
  |cons y b=>
   simp only[bg,dP,D.tup.injEq]at h;rw[Bo h.1,g h.2]
def uW{n w:Nat}{name:AA}{g:List (AU)}{b:AA}{G:DH}{k:AT}{E:EK}(h:okG w name g)(N:b⁻¹=w)(hs:stc b<n)(O:∀d,Gr name g b d->k d G):(fG n).t [.str name,.lst (eF g),.str b] G k E:=by show cI ⟨w,name,g,b,rfl,h,N,hs⟩ λd Y U=>?_;let(J,z,I,b2,q,L):=U;simp only[dP,D.str.injEq,D.lst.injEq,gI]at q;let(rfl,q,rfl):=q;cases agh q;subst J;exact O d L
def agi{f b:AA}{n:Nat}(h:dB f b=-n):b[n]?=-42:=by unfold dB at h;have h2:=dS.mp h;let(hl,g,_):=h2;rw[List.length_zip]at hl;rw[List.getElem_zip]at g;simp only[af,a9]at g;rw[ai (!0),g.1]
def agj{rs:AU}{b:AA}{n:Nat}(h:dI rs b=-n):b[n]?=-42:=by
 unfold dI at h;split at h
 .split at h
  .exact agi h
  .cases h
 .cases h
def uX{b:AA}{n c:Nat}{G:DH}{k:AT}{E:EK}(h:n<b⁻¹)(hl:b⁻¹<=1000)(g:k (.str (b.set n c)) G):(aV ik).t [.str b,.int n,.str [c]] G k E:=
 dG (by
  unfold ik;dsimp only;rw[if_pos (by simp only[af,dE];lia),bv]) g
def agk (Z:aj) (n:Nat) (h0:Z "grown"=fG n) (h1:Z "first_touching"=oN) (h2:Z "splitting_place"=uU) (h3:Z "with_sign"=aV ik) (ds:AS) (G:DH) (h:LK (n+1) ds G):au Z j6 noE (env0 ds 4) G (ends (LQ ds G)):=by
 let(w,name,g,b,rfl,hg,hb,hs):=h;have hw:=hg.w1000;simp_all_arith[j6];nofun;simp_arith![ends];show ForG.inv (P:=λi Y G'=>(∃o3 o4 o5 o6,Y=[-(.str name),-(.lst (eF g)),-(.str b),o3,o4,o5,o6])/\G'=G/\∀rs∈g.take i,dI rs b=none) ⟨⟨_,_,_,_,rfl⟩,rfl,!2⟩ (λy y y y=>trivial) ?_ ?_
 .rintro i d Y G' hd ⟨⟨o3,o4,o5,o6,rfl⟩,rfl,q⟩ kk hk;unfold eF at hd;rw[a8]at hd;let(rs,J,rfl):=aT.mp hd;simp_arith![ends];nofun;erw[h2];show age (λr hr=>by rw[hg.form rs (ck J) r hr,hb]) (!0) (hM _ _ (last ?_));cases hsp:dI rs b with
  |none=>
   erw[bh];show hk _ _ ⟨⟨_,_,_,_,rfl⟩,rfl,λrs' N=>?_⟩;rw[eM,J]at N;rcases aE.mp N with h|h
   .exact q rs' h
   .have:rs'=rs:=by simpa using h
    rw[this];exact hsp
  |some at'=>
   have L:=agj hsp;have hat:=(av.mp L).1;simp_arith![bh];nofun;erw[h0,h3];show uX hat (!0) (uW hg (by rw[eD];exact hb) (by have:=kj L (show 48≠42 by decide);lia) λz hz=>hM _ _ (seq λM hM=>?_));erw[h0,h3];show uX hat (!0) (uW hg (by rw[eD];exact hb) (by have:=kj L (show 49≠42 by decide);lia) λo ho=>hM _ _ (last ?_));erw[ends];exact⟨!1,rfl,name,g,b,rfl,.node b at' z o L hz ho⟩
 .rintro Y G' ⟨⟨o3,o4,o5,o6,rfl⟩,rfl,q⟩;have I:(eF g)⁻¹=g⁻¹:=ag _;rw[I,fw]at q;have hrl:=hg.len;show hM _ _ ?_;erw[h1];show⟨!1,CompG.inv (P:=λi U Y O=>(∃o,Y=[o,-(.str b)])/\O=G'/\U=(g.take i).map λrs=>bh (bz rs b)) ⟨⟨_,rfl⟩,rfl,rfl⟩ (λy y y y y=>trivial) (by rw[I];bv_omega) ?_ ?_⟩
  .rintro i d U Y O hd ⟨⟨o,rfl⟩,rfl,rfl⟩ kk hk;unfold eF at hd;rw[a8]at hd;let(rs,J,rfl):=aT.mp hd;erw[h1];show Lw (λr hr=>by rw[hg.form rs (ck J) r hr];lia) (hk _ _ _ ⟨⟨_,rfl⟩,rfl,?_⟩);rw[eM,J];simp
  .rintro U Y O ⟨_,rfl,rfl⟩;rw[I,fw];erw[ag];exact⟨by bv_omega,rfl,name,g,b,rfl,.leaf b q⟩
def agl(ds:AS)(G:DH)(a:(fG 0).A):¬(fG 0).pre ds G a:=λzZ=>by let(_,_,_,_,_,_,_,_,h):=zZ;lia
def lH:AA:=[109,101,116]
def uY:RF.Spec:=bT (λds z=>∃w rs,ds=[aq w rs]/\okB w rs) (λds G d g=>g=G/\∃w rs,ds=[aq w rs]/\Gr lH [rs] (List.replicate w 42) d)
def agm{w:Nat}{rs:AU}{G:DH}{k:AT}{E:EK}(h:okB w rs)(I:∀d,Gr lH [rs] (List.replicate w 42) d->k d G):uY.t [aq w rs] G k E:=by show cI ⟨w,rs,rfl,h⟩ λd N J=>?_;let(q,O,L,g,z):=J;simp only[dP,gI]at g;let(rfl,rfl):=Bl g;subst q;exact I d z
def Bp(w:Nat):stc (List.replicate w 42)<=w:=by have:=List.countP_le_length (p:=(·==42)) (l:=List.replicate w 42);rw[dr]at this;exact this
def agn{w:Nat}{rs:AU}(h:okB w rs):okG w lH [rs]:=⟨!2,!1,λz g r q=>by rw[al.mp g]at q;exact(h.form r q).1,by have:=h.w6;lia⟩
def ago (Z:aj) (h1:Z "need_book"=gH) (h2:Z "grown"=fG 9) (z:Z "stars"=aV fB) (ds:AS) (G:DH) (h:∃w rs,ds=[aq w rs]/\okB w rs):
  au Z nA noE (env0 ds 2) G (ends λd q=>q=G/\∃w rs,ds=[aq w rs]/\Gr lH [rs] (List.replicate w 42) d):=by
 let(w,rs,rfl,g):=h;have J:=g.w6;simp_all_arith[nA];nofun;erw[h1];show jd g (hM _ _ (seq λM hM=>?_));erw[aq];show hM _ _ ?_;erw[h2,z];show⟨!1,dG (d:=.str (List.replicate w 42)) (by unfold fB;dsimp only;rw[if_pos (by simp only[af,dE];lia),bv]) ?_⟩;have e:[D.tup (rs.map aN)]=eF [rs]:=rfl;rw[e];show uW (agn g) dr (by have:=Bp w;lia) λd I=>?_;exact⟨rfl,w,rs,rfl,I⟩
def LR:∀{f b w:AA},cU f b=none->(∀s∈w,s=48\/s=49)->Fits b w->j8 f w=true->False
 |[],b,w,h,_,_,_=>by cases b<;>cases h
 |a::f,[],w,h,_,_,_=>by cases h
 |a::f,c::b,[],h,_,hf,_=>by have:=hf.1;simp at this
 |a::f,c::b,s::w,h,hw,hf,hz=>by
  rw[j8,af]at hz;have hs:=hf.2 0 c s rfl rfl;have g:Fits b w:=⟨by have:=hf.1;simpa using this,λi q s' h1 h2=>hf.2 (i+1) q s' (!!h1) (!!h2)⟩;unfold cU at h;cases h1:fj a c with
  |some x=>
   rw[h1]at h;simp only[Option.map_eq_none_iff]at h;exact LR h (λs hs=>hw s (aS _ hs)) g hz.2
  |none=>
   unfold fj at h1;split at h1
   .cases h1
   .split at h1
    .cases h1
    .rename_i z hc;have h2:=(Lk (hw s ba)).mp hz.1;unfold alt at hs h2;rw[if_neg z]at h2;have es:s=a:=by simpa using h2
     split at hs
     .rename_i e;exact hc (.inl e)
     .have:s=c:=by simpa using hs
      exact hc (.inr (!0))
def Ma:∀{f b w:AA},f⁻¹=b⁻¹->(cU f b).isSome=true->dB f b=none->(∀s∈w,s=48\/s=49)->Fits b w->j8 f w=true
 |[],b,w,_,_,_,_,_=>rfl
 |a::f,[],w,h,_,_,_,_=>by simp at h
 |a::f,c::b,[],_,_,_,_,hf=>rfl
 |a::f,c::b,s::w,hl,hb,hs,hw,hf=>by
  have g:=hf.2 0 c s rfl rfl;have I:Fits b w:=⟨by have:=hf.1;simpa using this,λi N s' h1 h2=>hf.2 (i+1) N s' (!!h1) (!!h2)⟩;unfold dB at hs;rw[List.zip_cons_cons,fe]at hs;split at hs
  .cases hs
  .rename_i J;have L:dB f b=none:=by unfold dB;simpa using hs
   unfold cU at hb;cases h1:fj a c with
   |none=>rw[h1]at hb;cases hb
   |some x=>
    rw[h1]at hb;have z:(cU f b).isSome=true:=by simpa using hb
    rw[j8,af];show⟨?_,Ma (!!hl) z L (λs hs=>hw s (aS _ hs)) I⟩;rw[Lk (hw s ba)];by_cases q:a=42
    .unfold alt;rw[if_pos q];rcases hw s ba with e|e<;>simp[e]
    .have hc:c≠42:=by
      rintro rfl;exact J (by simp[q])
     unfold alt at g ⊢;rw[if_neg hc]at g;rw[if_neg q];unfold fj at h1;rw[if_neg q]at h1;split at h1
     .rename_i h2;rcases h2 with h2|h2
      .exact absurd h2 hc
      .rw[<-h2];exact g
     .cases h1
def Mg{rs:AU}{b l:AA}(L:∀r∈rs,r.1⁻¹=b⁻¹)(hs:dI rs b=none)(hl:∀s∈l,s=48\/s=49)(q:Fits b l):bC rs l=bz rs b:=by
 have no:∀r∈rs,(cU r.1 b).isSome=false->oK r.1 l=false:=by
  intro r z h;cases e:oK r.1 l with
  |false=>rfl
  |true=>
   unfold oK at e;rw[af]at e;exact(LR (!!h) hl q e.2).elim
 cases ht:bz rs b with
 |none=>
  unfold bz at ht;unfold bC;rw[List.findIdx?_eq_none_iff]at ht ⊢;exact λr z=>no r z (by simpa using ht r z)
 |some n=>
  have hn:=oO ht;have J:=dS.mp ht;let(_,O,U):=J;unfold bC;rw[dS];show⟨hn,?_,λj N=>?_⟩
  .have I:dB rs[n].1 b=none:=by
    unfold dI at hs;rw[ht]at hs;simpa [hn] using hs
   have g:=L rs[n] (cq _);unfold oK;rw[af];exact⟨cf (by rw[g,q.1]),Ma g O I hl q⟩
  .have:=no rs[j] (cq _) (by simpa using U j N);simp[this]
def oR(name:AA)(g:List (AU))(b:AA):D:=.tup (.str name::g.map λrs=>bh (bz rs b))
def km(name:AA)(g:List (AU))(b:AA):D:=.tup [.str b,oR name g b]
inductive Lv (name:AA) (rss:List (AU)):AA->D->List (AA)->Prop
 |leaf (b:AA) (h:∀rs∈rss,dI rs b=none):Lv name rss b (oR name rss b) [b]
 |node (b:AA) (n:Nat) (z o:D) (l m:List (AA)) (h:b[n]?=some 42) (hz:Lv name rss (b.set n 48) z l) (ho:Lv name rss (b.set n 49) o m):Lv name rss b (.tup [.str kh,.int n,z,o]) (l++m)
def Gr.lv{name:AA}{g:List (AU)}{b:AA}{d:D}(h:Gr name g b d):∃bs,Lv name g b d bs:=by
 induction h with
 |leaf b h=>exact⟨_,.leaf b h⟩
 |node b n z o h _ _ J I=>
  let(l,hl):=J;let(m,q):=I;exact⟨_,.node b n z o l m h hl q⟩
def Lv.len{name:AA}{g:List (AU)}{b:AA}{d:D}{bs:List (AA)}(h:Lv name g b d bs):bs⁻¹<=2 ^ stc b:=by
 induction h with
 |leaf b h=>exact Nat.one_le_two_pow
 |node b n z o l m h _ _ N J=>
  have q:=kj h (show 48≠42 by decide);have L:=kj h (show 49≠42 by decide);rw[<-q,Nat.pow_succ,am];have I:stc (b.set n 49)=stc (b.set n 48):=by lia
  rw[I]at J;lia
def Lv.len'{name:AA}{g:List (AU)}{b:AA}{d:D}{bs:List (AA)}(h:Lv name g b d bs)(q:b⁻¹<=12):bs⁻¹<=4096:=by
 have h1:=h.len;have h2:stc b<=12:=b3 (List.countP_le_length) q;have z:=Nat.pow_le_pow_right (show 0<2 by decide) h2;have I:2 ^ 12=4096:=by decide
 lia
def Lv.box{name:AA}{g:List (AU)}{b:AA}{d:D}{bs:List (AA)}(h:Lv name g b d bs):∀c∈bs,c⁻¹=b⁻¹/\∀rs∈g,dI rs c=none:=by
 induction h with
 |leaf b h=>intro c hc;rw[al.mp hc];exact⟨rfl,h⟩
 |node b n z o l m h _ _ I q=>
  intro c hc;rcases aE.mp hc with hc|hc
  .have:=I c hc;rw[eD]at this;exact this
  .have:=q c hc;rw[eD]at this;exact this
def Lv.okf{w:Nat}{name:AA}{q:List (AU)}{b:AA}{d:D}{bs:List (AA)}(h:Lv name q b d bs):okF w b->∀c∈bs,okF w c:=by
 induction h with
 |leaf b h=>intro g c hc;rw[al.mp hc];exact g
 |node b n z o l m h _ _ J I=>
  intro g c hc;rcases aE.mp hc with hc|hc
  .exact J (uV g Lz) c hc
  .exact I (uV g LC) c hc
def Mh{w:Nat}{f l:AA}(h:okF w f)(q:Fits f l):∀s∈l,s=48\/s=49:=by
 intro s hs;let(i,hi,rfl):=List.getElem_of_mem hs;have g:i<f⁻¹:=by rw[q.1];exact hi
 have:=q.2 i f[i] l[i] (by simp[g]) (by simp[hi]);rcases h.2 f[i] (cq _) with e|e|e<;>rw[e]at this<;>simp[alt]at this<;>lia
def isPlace(m:Int):D->Bool
 |.int i=>decide (0<=i)&&decide (i<m)
 |_=>false
def fX:AS->Option D
 |[.int m,x]=>if nr x then some (.bl (isPlace m x)) else none
 |_=>none
def agp (Z:aj) (h1:Z "is_whole"=aV jb) (ds:AS) (G:DH) (d:D) (h:fX ds=-d):au Z nG noE (env0 ds 0) G (ends λd' q=>q=G/\d'=d):=by
 unfold fX at h;split at h
 .rename_i m x;split at h
  .rename_i g;cases h;have z:jb [x]=-(.bl (whole x)):=if_pos g;erw[nG,h1];show dG z ?_;cases x<;>first | (simp[nr]at g;done) | (erw[whole,isPlace];first | (simp;done)|skip)
   rename_i i;cases hi:decide (0<=i) with
   |true=>simp
   |false=>simp
  .cases h
 .cases h
def agq{m i:Nat}{G:DH}{k:AT}{E:EK}(h:i<m)(g:k (.bl true) G):(aV fX).t [.int m,.int i] G k E:=
 dG (by unfold fX;simp only[nr,if_true,isPlace];rw[cf (!0),cf (!0)];rfl) g
def gJ:AS->Option D
 |[.str name,.int many,.tup (.str s::r)]=>-(.bl ((((r⁻¹+1:Nat):Int)==many+1)&&(s==name)))
 |_=>none
def agr(Z:aj)(ds:AS)(G:DH)(d:D)(h:gJ ds=-d):au Z nF noE (env0 ds 0) G (ends λd' q=>q=G/\d'=d):=by
 unfold gJ at h;split at h
 .rename_i name g s r;cases h;erw[nF];cases he:(((r⁻¹+1:Nat):Int)==g+1) with
  |false=>erw[Bool.false_and]
  |true=>erw[Bool.true_and]
 .cases h
def ags{name s:AA}{m:Int}{r:AS}{G:DH}{k:AT}{E:EK}(h:s≠name)(g:k (.bl false) G):(aV gJ).t [.str name,.int m,.tup (.str s::r)] G k E:=
 dG (by unfold gJ;dsimp only;rw[cS.mpr h,Bool.and_false]) g
def agt{name:AA}{m:Int}{r:AS}{G:DH}{k:AT}{E:EK}(h:(r⁻¹:Int)=m)(g:k (.bl true) G):(aV gJ).t [.str name,.int m,.tup (.str name::r)] G k E:=
 dG (by unfold gJ;dsimp only;rw[BEq.rfl,Bool.and_true,a9.mpr (!0)]) g
def agu{f:AA}{i c:Nat}(h:f[i]?=-c):stc (f.take (i+1))=stc (f.take i)+(if(c==42)=true then 1 else 0):=by unfold stc;rw[eM,h,gu];cases hc:(c==42)<;>simp[hc]
def oU:AS->Option D
 |[.str f]=>-(.int ((2 ^ stc f:Nat):Int))
 |_=>none
def agv(Z:aj)(ds:AS)(G:DH)(d:D)(h:oU ds=-d):au Z mU noE (env0 ds 2) G (ends λd' g=>g=G/\d'=d):=by
 unfold oU at h;split at h
 .rename_i f;cases h;simp_all_arith[mU];nofun;erw[ends];symm;simp_arith![ends];show ForG.inv (P:=λi Y g=>(∃o2,Y=[-(.str f),-(.int ((2 ^ stc (f.take i):Nat):Int)),o2])/\g=G) ⟨⟨_,rfl⟩,rfl⟩ (λy y y y=>trivial) ?_ ?_
  .rintro i d Y g z ⟨⟨o2,rfl⟩,rfl⟩ kk I;rw[a8]at z;let(c,hc,rfl):=aT.mp z;have ht:=agu hc;simp_arith![ends];show last ?_;erw[je];cases q:(c==42) with
   |true=>
    rw[q,if_pos rfl]at ht;erw[ends];show⟨ig (!1),I _ _ ⟨⟨-(.str [c]),?_⟩,rfl⟩⟩;rw[ht,Nat.pow_succ,Int.natCast_mul];rfl
   |false=>
    rw[q,if_neg bq]at ht;erw[ends];show I _ _ ⟨⟨-(.str [c]),?_⟩,rfl⟩;rw[ht];rfl
  .rintro Y g ⟨⟨o2,rfl⟩,rfl⟩;rw[ag,fw];show hM _ _ ?_;erw[ends]
 .cases h
def oI:Option Int->D
 |some i=>.int i
 |none=>.non
inductive T where
 |lf (r:List (Option Int))
 |sp (i:Int) (z o:T)
def T.d(name:AA):T->D
 |.lf r=>.tup (.str name::r.map oI)
 |.sp i z o=>.tup [.str kh,.int i,z.d name,o.d name]
def T.dep:T->Nat
 |.lf _=>0
 |.sp _ z o=>max z.dep o.dep+1
def jf(b:AA)(i:Int):Bool:=decide (0<=i)&&b[i.toNat]?==-42
def T.lvs:T->AA->Option (List (AA×List (Option Int)))
 |.lf r,b=>-[(b,r)]
 |.sp i z o,b=>match jf b i with
  |true=>(match z.lvs (b.set i.toNat 48),o.lvs (b.set i.toNat 49) with|some l,-m=>-(l++m)|_,_=>none)
  |false=>none
def oV(name:AA)(x:AA×List (Option Int)):D:=.tup [.str x.1,.tup (.str name::x.2.map oI)]
def fH(name:AA):Option (List (AA×List (Option Int)))->D
 |none=>.non
 |some l=>.lst (l.map (oV name))
def T.lvs_len:∀(t:T){b:AA}{l:List (AA×List (Option Int))},t.lvs b=-l->l⁻¹<=2 ^ t.dep
 |.lf r,b,l,h=>by cases h;exact Nat.one_le_two_pow
 |.sp i z o,b,l,h=>by
  rw[T.lvs]at h;split at h
  .split at h
   .rename_i L N h1 h2;cases h;have g:=z.lvs_len h1;have q:=o.lvs_len h2;have I:=Nat.pow_le_pow_right (show 0<2 by decide) (Nat.le_max_left z.dep o.dep);have J:=Nat.pow_le_pow_right (show 0<2 by decide) (Nat.le_max_right z.dep o.dep);rw[am,T.dep,Nat.pow_succ];lia
   .cases h
  .cases h
def T.lvs_len'{n:Nat}{t:T}{b:AA}{l:List (AA×List (Option Int))}(h:t.lvs b=-l)(hn:t.dep<n)(g:n<=12):l⁻¹<=4096:=by
 have h1:=t.lvs_len h;have q:=Nat.pow_le_pow_right (show 0<2 by decide) (show t.dep<=12 by lia);have z:2 ^ 12=4096:=by decide
 lia
structure TA where
 name:AA
 b:AA
 t:T
def Mi(n:Nat)(a:TA):Prop:=a.name≠kh/\a.b⁻¹<=12/\a.t.dep<n/\n<=12
def eG(n:Nat):RF.Spec:=bV (λa:TA=>[.str a.b,a.t.d a.name]) (Mi n) (λa=>fH a.name (a.t.lvs a.b))
def Bq{n:Nat}{name b:AA}{t:T}{G:DH}{k:AT}{E:EK}(h1:name≠kh)(h2:b⁻¹<=12)(g:t.dep<n)(q:n<=12)(z:k (fH name (t.lvs b)) G):(eG n).t [.str b,t.d name] G k E:=b8 ⟨name,b,t⟩ rfl ⟨h1,h2,g,q⟩ z
def agw(ds:AS)(G:DH)(a:(eG 0).A):¬(eG 0).pre ds G a:=λzZ=>by let(_,_,_,_,h,_):=zZ;lia
def agx{b:AA}{i:Int}(h:jf b i):0<=i/\∃n:Nat,i=n/\n<b⁻¹/\b[n]?=-42:=by
 unfold jf at h;rw[af]at h;have h1:=df h.1;have h2:b[i.toNat]?=-42:=by simpa using h.2
 exact⟨h1,i.toNat,!0,(av.mp h2).1,h2⟩
def agy (Z:aj) (n:Nat) (h0:Z "leaves"=eG n) (h1:Z "is_named"=aV gJ) (h2:Z "is_place"=aV fX) (Y:Z "with_sign"=aV ik) (a:TA) (G:DH) (h:Mi (n+1) a):au Z iZ noE (env0 [.str a.b,a.t.d a.name] 3) G (ends λd G'=>G'=G/\d=fH a.name (a.t.lvs a.b)):=by
 let(name,b,t):=a;let(q,I,hd,hn):=h;dsimp only at q I hd ⊢;cases t with
 |lf r=>
  simp_all_arith[iZ];nofun;erw[h1,T.d];show ags q ?_;erw[T.lvs,fH,oV];exact⟨!1,!1⟩
 |sp i z o=>
  rw[T.dep]at hd;simp_all_arith[iZ];nofun;erw[h1,T.d];show agt rfl ?_;erw[ends];symm;erw[ends];symm;erw[h2];show dG (d:=.bl (isPlace b⁻¹ (.int i))) rfl ?_;cases g:jf b i with
  |false=>
   rw[T.lvs,g];cases L:isPlace b⁻¹ (.int i) with
   |false=>erw[fH]
   |true=>
    unfold isPlace at L;rw[af]at L;have p1:=df L.1;have p2:=df L.2;obtain⟨m,rfl⟩:∃m:Nat,i=m:=⟨i.toNat,!0⟩;have O:m<b⁻¹:=by lia
    have hc:b[m]?=-b[m]:=ai O;have J:((b[m]==42):Bool)=false:=by unfold jf at g;rw[cf (!0),Bool.true_and,bv,hc]at g;simpa using g
    erw[ends];show bU (a:=b[m]) (bL hc) ?_;erw[je,J,fH]
  |true=>
   let(_,m,rfl,O,hc):=agx g;have L:isPlace b⁻¹ (.int (m:Int))=true:=by change(decide (0<=(m:Int))&&decide ((m:Int)<b⁻¹))=true;rw[cf (!0),cf (!0)];rfl
   have hl:(T.sp (m:Int) z o).lvs b=match z.lvs (b.set m 48),o.lvs (b.set m 49) with|some l,-m=>-(l++m)|_,_=>none:=by rw[T.lvs,g,bv]
   rw[L];erw[ends];show bU (a:=42) (bL hc) ?_;erw[BEq.rfl];symm;erw[h0,Y];show uX O (!0) (Bq q (by rw[eD];exact I) (!0) (!0) (hM _ _ (seq λM hM=>?_)));erw[h0,Y];show uX O (!0) (Bq q (by rw[eD];exact I) (!0) (!0) (hM _ _ (seq λM hM=>?_)));cases N:z.lvs (b.set m 48) with
   |none=>
    rw[N]at hl;erw[hl,fH]
   |some l1=>
    cases U:o.lvs (b.set m 49) with
    |none=>
     rw[N,U]at hl;erw[hl,fH]
    |some l2=>
     rw[N,U]at hl;have q1:=T.lvs_len' N (n:=n) (!0) (!0);have q2:=T.lvs_len' U (n:=n) (!0) (!0);erw[fH];ac_nf0;erw[ag,bB,hl,fH];bv_omega
def agz(o:Option Nat):bh o=oI (o.map λn=>(n:Int)):=by cases o<;>rfl
def kE(g:List (AU))(c:AA):List (Option Int):=g.map λrs=>(bz rs c).map λn=>(n:Int)
def Mj{g:List (AU)}{c:AA}:(kE g c).map oI=g.map λrs=>bh (bz rs c):=by unfold kE;rw[cm];exact c9 λrs z=>(agz _).symm
def Lv.tree{name:AA}{g:List (AU)}{b:AA}{d:D}{bs:List (AA)}(h:Lv name g b d bs):∃t:T,d=t.d name/\t.dep<=stc b/\t.lvs b=-(bs.map λc=>(c,kE g c)):=by
 induction h with
 |leaf b h=>exact⟨.lf (kE g b),by rw[T.d,Mj];rfl,dA _,rfl⟩
 |node b n z o l m h _ _ U O=>
  let(I,rfl,J,L):=U;let(q,rfl,Y,N):=O;have s1:=kj h (show 48≠42 by decide);have s2:=kj h (show 49≠42 by decide);show⟨.sp n I q,rfl,?_,?_⟩
  .rw[T.dep];have:=Nat.max_le.mpr ⟨show I.dep<=stc (b.set n 48) from J,show q.dep<=stc (b.set n 48) by lia⟩;lia
  .have hs:jf b (n:Int)=true:=by unfold jf;rw[cf (!0),bv,h];rfl
   rw[T.lvs,hs,bv,L,N];simp
def agA{name:AA}{g:List (AU)}{c:AA}:oV name (c,kE g c)=km name g c:=by unfold oV km oR;rw[Mj]
def Ml{n:Nat}{name:AA}{g:List (AU)}{b:AA}{d:D}{bs:List (AA)}{G:DH}{k:AT}{E:EK}(h:Lv name g b d bs)(h1:name≠kh)(h2:b⁻¹<=12)(L:stc b<n)(I:k (.lst (bs.map (km name g))) G)(z:n<=12:=by decide):(eG n).t [.str b,d] G k E:=by
 let(t,rfl,J,q):=h.tree;show Bq h1 h2 (!0) z ?_;rw[q,fH,cm];have:(oV name∘λc=>(c,kE g c))=km name g:=by funext c;exact agA
 rw[this];exact I
def cP:AA->List (AA)
 |[]=>[[]]
 |c::f=>(alt c).flatMap λs=>(cP f).map (s::·)
def Mm:∀(f:AA)(g:List (AA)),f.foldl step1 g=g.flatMap λt=>(cP f).map (t ++ ·)
 |[],g=>by simp[cP]
 |c::f,g=>by
  rw[List.foldl_cons,Mm f,step1,List.flatMap_assoc];congr 1;funext t;rw[cP,List.flatMap_map,List.map_flatMap];congr 1;funext s;rw[cm];congr 1;funext x;simp
def oW(f:AA):cj f=cP f:=by unfold cj;rw[Mm];simp
def Mp:∀(b:AA),(cP b)⁻¹=2 ^ stc b
 |[]=>rfl
 |c::b=>by
  have g:=Mp b;rw[cP];unfold alt stc;unfold stc at g;split
  .rename_i h;subst h;simp[g,Nat.pow_succ];lia
  .rename_i h;simp[g,h]
def Mq:∀(b:AA)(n:Nat)(p:AA->Bool),b[n]?=-42->(cP b).countP p=(cP (b.set n 48)).countP p+(cP (b.set n 49)).countP p
 |[],n,p,h=>by simp at h
 |c::b,0,p,h=>by
  have:c=42:=by simpa using h
  subst this;simp[cP,alt,gu]
 |c::b,n+1,p,h=>by
  have h':b[n]?=-42:=by simpa using h
  have g:=λq=>Mq b n q h';rw[List.set_cons_succ,List.set_cons_succ,cP,cP,cP];unfold alt;split
  .simp only[gN,List.flatMap_nil,eh,gu,List.countP_map,g];lia
  .simp only[gN,List.flatMap_nil,eh,List.countP_map,g]
def atN(rs:AU):Option Nat->Nat
 |some n=>n
 |none=>rs⁻¹
def eN(rs:AU)(bs:List (AA))(k:Nat):Nat:=(bs.map λb=>if atN rs (bz rs b)=k then 2 ^ stc b else 0).sum
def agB{w:Nat}{name:AA}{rs:AU}{b:AA}{d:D}{bs:List (AA)}{k:Nat}(h:Lv name [rs] b d bs):okF w b->(∀r∈rs,r.1⁻¹=w)->eN rs bs k=(cj b).countP λl=>atN rs (bC rs l)==k:=by
 induction h with
 |leaf b h=>
  intro g q;have O:∀l∈cj b,bC rs l=bz rs b:=λl hl=>Mg (λr Y=>by rw[q r Y,g.1]) (h rs (!2)) (Mh g (oJ.mp hl)) (oJ.mp hl);have e:(cj b).countP (λl=>atN rs (bC rs l)==k)=(cj b).countP (λy=>atN rs (bz rs b)==k):=List.countP_congr λl hl=>by rw[O l hl]
  rw[e];unfold eN;rw[bg,gL,List.sum_cons,List.sum_nil,Nat.add_zero];by_cases I:atN rs (bz rs b)=k
  .rw[if_pos I,a9.mpr I,List.countP_true,oW,Mp]
  .rw[if_neg I,cS.mpr I];simp
 |node b n z o l m h _ _ hz U=>
  intro g q;have J:=hz (uV g Lz) q;have L:=U (uV g LC) q;have N:eN rs (l++m) k=eN rs l k+eN rs m k:=by unfold eN;rw[bB,List.sum_append]
  rw[N,J,L,oW,oW,oW];exact(Mq b n _ h).symm
def tell(n:Nat)(f:Nat->Nat):AS:=(List.range n).map λk=>D.int (f k:Int)
def uZ{n:Nat}{f:Nat->Nat}:(tell n f)⁻¹=n:=by simp[tell]
def agC{q:Type}(l:List q):l.map (λz=>D.int 0)++[D.int 0]=tell (l⁻¹+1) λz=>0:=by unfold tell;rw[List.range_succ,bB];congr 1;rw[List.eq_replicate_of_mem (a:=D.int 0) (l:=l.map λz=>D.int 0) (λx g=>by let(_,_,rfl):=bP.mp g;rfl)];rw[ag];exact(List.eq_replicate_iff.mpr ⟨!2,λx g=>by let(_,_,rfl):=bP.mp g;rfl⟩).symm
def oX{n a:Nat}{f:Nat->Nat}(h:a<n):(tell n f)[a]?=-(.int (f a:Int)):=by unfold tell;rw[a8,List.getElem?_range h];rfl
def agD{n a v:Nat}{f g:Nat->Nat}(h:a<n)(I:∀k,g k=f k+if a=k then v else 0):(tell n f).set a (.int ((f a:Int)+(v:Int)))=tell n g:=by
 apply List.ext_getElem?;intro j;rw[List.getElem?_set,uZ];by_cases z:a=j
 .subst z;rw[if_pos rfl,if_pos h,oX h,I,if_pos rfl];simp
 .rw[if_neg z];by_cases q:j<n
  .rw[oX q,oX q,I,if_neg z];simp
  .rw[g6 (by rw[uZ];lia),g6 (by rw[uZ];lia)]
def agE{rs:AU}{o:Option Nat}(h:∀n,o=-n->n<rs⁻¹):atN rs o<rs⁻¹+1:=by
 cases o with
 |none=>exact fv _
 |some n=>have:=h n rfl;change n<_;lia
def agF{rs:AU}{bs:List (AA)}{b:AA}{k:Nat}:eN rs (bs++[b]) k=eN rs bs k+if atN rs (bz rs b)=k then 2 ^ stc b else 0:=by unfold eN;rw[bB,List.sum_append];simp
def kI(w:Nat)(rs:AU):AS:=tell (rs⁻¹+1) λk=>(cj (List.replicate w 42)).countP λl=>atN rs (bC rs l)==k
def oY:RF.Spec:=ghS (A:=Nat×AU) (λa ds z=>ds=[aq a.1 a.2]/\okB a.1 a.2) (λa G d g=>∃q,d=.ref q/\G q=none/\g q=-(.lst (kI a.1 a.2))/\Sa G g)
def agG{w:Nat}{rs:AU}{G:DH}{k:AT}{E:EK}(h:okB w rs)(N:∀q g,G q=none->g q=-(.lst (kI w rs))->Sa G g->k (.ref q) g):oY.t [aq w rs] G k E:=
 dH (w,rs) ⟨rfl,h⟩ λd g zZ=>by let(q,z,I,J,L):=zZ;subst z;exact N q g I J L
def agH (Z:aj) (h1:Z "laid"=uY) (h2:Z "leaves"=eG 9) (h3:Z "stars"=aV fB) (h4:Z "how_many"=aV oU) (a:Nat×AU) (ds:AS) (G:DH) (h:ds=[aq a.1 a.2]/\okB a.1 a.2):
  au Z nH noE (env0 ds 7) G (ends λd g=>∃q,d=.ref q/\G q=none/\g q=-(.lst (kI a.1 a.2))/\Sa G g):=by
 let(w,rs):=a;let(rfl,N):=h;dsimp only at N ⊢;have hw6:=N.w6;have hlen:=N.len;have hst:=Bp w;simp_all_arith[nH];nofun;erw[h1];show agm N λt ht=>hM _ _ (seq λM hM=>?_);let(bs,hL):=ht.lv;erw[aq];symm;erw[ends];show CompG.map (f:=λy=>.int 0) (I:=λY=>∃o,Y=[o]) ⟨_,rfl⟩ trivial (by simp;bv_omega) ?_ ?_
 .rintro d Y U ⟨o,rfl⟩ kk hk;erw[ends];exact hk _ ⟨_,rfl⟩
 rw[cm];erw[Function.comp_def,ag];show⟨by bv_omega,by bv_omega,?_⟩;intro q hq;rw[agC];symm;simp_arith![h2,h3];show dG (d:=.str (List.replicate w 42)) (by unfold fB;dsimp only;rw[if_pos (by simp only[af,dE];lia),bv]) ?_;show Ml hL (!1) (by rw[dr];lia) (!0) ?_;simp_arith![ends];show ForG.inv (P:=λi Y g=>(∃o5 J o7,Y=[-(.tup [.int w,.tup (rs.map aN)]),-t,-(.int w),-(.tup (rs.map aN)),-(.ref q),o5,J,o7])/\g q=-(.lst (tell (rs⁻¹+1) (eN rs (bs.take i))))/\Sa G g) ⟨⟨_,_,_,rfl⟩,aY,Sa.new hq⟩ (λy y y y=>trivial) ?_ ?_
 .rintro i d Y g U ⟨⟨o5,J,o7,rfl⟩,L,sa⟩ kk hk;rw[a8]at U;let(b,O,rfl):=aT.mp U;have z:atN rs (bz rs b)<rs⁻¹+1:=agE λn hn=>oO hn;have htk:bs.take (i+1)=bs.take i++[b]:=by rw[eM,O];rfl
  simp_arith![km,oR];nofun;have step:∀(R:AT) (B C:ak->DH->Prop) J,au Z (.cons (.augs (.var 4) (.var 7) .Add (.call "how_many" (.cons (.var 5) .nil))) .nil) noE [-(.tup [.int w,.tup (rs.map aN)]),-t,-(.int w),-(.tup (rs.map aN)),-(.ref q),-(.str b),J,-(.int (atN rs (bz rs b):Nat))] g ⟨kk,R,B,C⟩:=by intro R B C J;show last ?_;erw[h4,du L];show bU (a:=.int (eN rs (bs.take i) (atN rs (bz rs b)):Nat)) (bL (oX z)) ?_;show dG (d:=.int ((2 ^ stc b:Nat):Int)) rfl ?_;erw[cJ L,uZ,KD z];show hk _ _ ⟨⟨_,_,_,rfl⟩,?_,sa.then hq Sb.upd⟩;rw[aY,htk,agD z λk=>agF]
  cases ht:bz rs b with
  |none=>
   rw[ht]at step;erw[bh,ag];exact hM _ _ (step _ _ _ _)
  |some n=>
   rw[ht]at step;erw[bh];exact hM _ _ (step _ _ _ _)
 .rintro Y g ⟨⟨o5,J,o7,rfl⟩,L,sa⟩;rw[ag,fw]at L;show hM _ _ ?_;erw[ends];show⟨q,rfl,hq,?_,sa⟩;rw[L];unfold kI;have:eN rs bs=λk=>(cj (List.replicate w 42)).countP λl=>atN rs (bC rs l)==k:=by
   funext k;exact agB hL (Lq w) λr hr=>(N.form r hr).1
  rw[this]
def agI{w:Nat}{G:DH}{k:AT}{E:EK}(h:w<=1000)(g:k (.str (List.replicate w 42)) G):(aV fB).t [.int w] G k E:=
 dG (d:=.str (List.replicate w 42)) (by unfold fB;dsimp only;rw[if_pos (by simp only[af,dE];lia),bv]) g
def cV(l:AA):AA:=l.map λa=>if a=42 then 48 else a
def kJ:AS->Option D
 |[.str l]=>if decide (l⁻¹<=1000) then some (.str (cV l)) else none
 |_=>none
def agJ{l:AA}{G:DH}{k:AT}{E:EK}(h:l⁻¹<=1000)(g:k (.str (cV l)) G):(aV kJ).t [.str l] G k E:=dG (if_pos (cf h)) g
def agK{b l:AA}{n:Nat}(h:Fits b l)(hn:b[n]?=-42):Fits (b.set n 48) l\/Fits (b.set n 49) l:=by
 let(hl,he):=av.mp hn;have q:n<l⁻¹:=by rw[<-h.1];exact hl
 have hs:=h.2 n 42 l[n] hn (ai q);have put:∀c,l[n]=c->c≠42->Fits (b.set n c) l:=by
  intro c hc g;show⟨by rw[eD];exact h.1,λi x y z I=>?_⟩;rw[List.getElem?_set]at z;by_cases hi:n=i
  .subst hi;rw[if_pos rfl,if_pos hl]at z;rw[ai q]at I;cases z;cases I;unfold alt;rw[if_neg g,hc];simp
  .rw[if_neg hi]at z;exact h.2 i x y z I
 unfold alt at hs;rw[if_pos rfl]at hs;have:l[n]=48\/l[n]=49:=by simpa using hs
 rcases this with e|e
 .exact .inl (put 48 e (!1))
 .exact .inr (put 49 e (!1))
def Mr{b l:AA}{n c:Nat}(h:Fits (b.set n c) l)(hn:b[n]?=-42)(hc:c=48\/c=49):Fits b l:=by
 have hl:=(av.mp hn).1;show⟨by have:=h.1;rwa [eD]at this,λi x y g q=>?_⟩;by_cases hi:n=i
 .subst hi;rw[hn]at g;cases g;have:=h.2 n c y (by rw[List.getElem?_set,if_pos rfl,if_pos hl]) q;unfold alt at this ⊢;rw[if_neg (!0)]at this;rw[if_pos rfl];have e:y=c:=by simpa using this
  rw[e];simpa using hc
 .exact h.2 i x y (by rw[List.getElem?_set,if_neg hi];exact g) q
def Lv.cover{name:AA}{q:List (AU)}{b:AA}{d:D}{bs:List (AA)}(h:Lv name q b d bs):∀l,Fits b l->∃c∈bs,Fits c l:=by
 induction h with
 |leaf b h=>exact λl hl=>⟨b,!2,hl⟩
 |node b n z o l m h _ _ J I=>
  intro w hw;rcases agK hw h with e|e
  .let(c,hc,g):=J w e;exact⟨c,aE.mpr (.inl hc),g⟩
  .let(c,hc,g):=I w e;exact⟨c,aE.mpr (.inr hc),g⟩
def Lv.within{name:AA}{g:List (AU)}{b:AA}{d:D}{bs:List (AA)}(h:Lv name g b d bs):∀c∈bs,∀l,Fits c l->Fits b l:=by
 induction h with
 |leaf b h=>intro c hc l hl;rw[al.mp hc]at hl;exact hl
 |node b n z o l m h _ _ I q=>
  intro c hc w hw;rcases aE.mp hc with hc|hc
  .exact Mr (I c hc w hw) h (.inl rfl)
  .exact Mr (q c hc w hw) h (.inr rfl)
def agL{a s:Nat}{f l:AA}(h:Fits (a::f) (s::l)):s∈alt a/\Fits f l:=
 ⟨h.2 0 a s rfl rfl,by have:=h.1;simpa using this,λi c t h1 h2=>h.2 (i+1) c t (!!h1) (!!h2)⟩
def agM{a s:Nat}{f l:AA}(h1:s∈alt a)(h2:Fits f l):Fits (a::f) (s::l):=⟨by simp[h2.1],λi c t hc ht=>by
 cases i with
 |zero=>simp at hc ht;rw[<-hc,<-ht];exact h1
 |succ i=>exact h2.2 i c t (!!hc) (!!ht)⟩
def Br:∀c:AA,Fits c (cV c)
 |[]=>⟨rfl,λi c s h=>by simp at h⟩
 |a::c=>by
  change Fits (a::c) ((if a=42 then 48 else a)::cV c);show agM ?_ (Br c);unfold alt;split<;>simp
def Ms:∀{c l:AA},Fits c l->¬l<cV c
 |[],l,h=>by
  have:l=[]:=ee.mp h.1.symm;subst this;exact List.lt_irrefl _
 |a::c,[],h=>by have:=h.1;simp at this
 |a::c,s::l,h=>by
  let(h1,h2):=agL h;change¬(s::l)<((if a=42 then 48 else a)::cV c);rw[g7];have g:=Ms h2;unfold alt at h1;split at h1
  .rename_i e;rw[if_pos e];have:s=48\/s=49:=by simpa using h1
   rintro(q|q)
   .omega
   .exact g q.2
  .rename_i e;rw[if_neg e];have:s=a:=by simpa using h1
   rintro(q|q)
   .omega
   .exact g q.2
def Mt:∀{x m a:AA},x<m->¬a<m->x<a
 |x,[],a,h,_=>absurd h (!2)
 |x,b::m,[],_,h=>absurd (!2) h
 |[],b::m,y::a,_,_=>by simp
 |c::x,b::m,y::a,h,g=>by
  rw[g7]at h g ⊢;have q:¬y<b:=λe=>g (.inl e);rcases h with h|⟨h1,h2⟩
  .exact .inl (!0)
  .by_cases e:y=b
   .exact .inr ⟨!0,Mt h2 λz=>g (.inr ⟨e,z⟩)⟩
   .exact .inl (!0)
def Mu:∀f:AA,(cP f).Pairwise (· < ·)
 |[]=>by simp[cP]
 |c::f=>by
  have z:=Mu f;have one:∀s:Nat,((cP f).map (s::·)).Pairwise (· < ·):=λs=>List.pairwise_map.mpr (z.imp λh=>g7.mpr (.inr ⟨rfl,h⟩));rw[cP];unfold alt;split
  .rw[gN,gN,List.flatMap_nil,eh,List.pairwise_append];show⟨one 48,one 49,λa g b q=>?_⟩;let(x,_,rfl):=bP.mp g;let(y,_,rfl):=bP.mp q;exact g7.mpr (.inl (!1))
  .rw[gN,List.flatMap_nil,eh];exact one c
def agN{u:List (AA)}{m:AA}(h:u.Pairwise (· < ·))(g:m∈u)(hl:∀x∈u,¬x<m):u.head?=-m:=by
 cases u with
 |nil=>cases g
 |cons a u=>
  rcases bo.mp g with e|g
  .rw[e];rfl
  .exact absurd ((List.pairwise_cons.mp h).1 m g) (hl a ba)
def agO{ds:AS}{g:List (AA)}{k:D->Prop}(h0:aZ ds=none)(h:bH ds=-g)(q:∀m,m∈g->(∀a,a∈g->¬a<m)->k (.str m)):opB .min [.lst ds] k:=by change lL [.lst ds] k;unfold lL;dsimp only;rw[h0,h];exact q
def oZ:RF.Spec:=bV (λa:Nat×AU×Nat=>[aq a.1 a.2.1,.int a.2.2]) (λa=>okB a.1 a.2.1/\a.2.2<a.2.1⁻¹) (λz=>.non)
def Bt{w n:Nat}{rs:AU}{G:DH}{k:AT}{E:EK}(h:okB w rs)(hn:n<rs⁻¹)(g:k .non G):oZ.t [aq w rs,.int n] G k E:=b8 (w,rs,n) rfl ⟨h,hn⟩ g
def agP (Z:aj) (h1:Z "need_book"=gH) (h2:Z "is_place"=aV fX) (a:Nat×AU×Nat) (G:DH) (h:okB a.1 a.2.1/\a.2.2<a.2.1⁻¹):au Z nQ noE (env0 [aq a.1 a.2.1,.int a.2.2] 0) G (ends λd q=>q=G/\d=.non):=by let(w,rs,n):=a;let(g,hn):=h;dsimp only at g hn ⊢;simp_all_arith[nQ];nofun;erw[h1];show jd g (hM _ _ (last ?_));erw[aq,h2,ag];show agq hn ?_;erw[and_self]
def Mv:AA:=[115,97,109,101]
def Bu:AA:=[112,97,114,116,101,100]
def Bv:AA:=[97,108,105,107,101]
def u5:RF.Spec:=bV (λa:Nat×AU×AU=>[aq a.1 a.2.1,aq a.1 a.2.2]) (λa=>okB a.1 a.2.1/\okB a.1 a.2.2) (λz=>.non)
def agQ{w:Nat}{rs g:AU}{G:DH}{k:AT}{E:EK}(h:okB w rs)(h':okB w g)(q:k .non G):u5.t [aq w rs,aq w g] G k E:=b8 (w,rs,g) rfl ⟨h,h'⟩ q
def agR (Z:aj) (h1:Z "need_book"=gH) (a:Nat×AU×AU) (G:DH) (h:okB a.1 a.2.1/\okB a.1 a.2.2):au Z nJ noE (env0 [aq a.1 a.2.1,aq a.1 a.2.2] 0) G (ends λd q=>q=G/\d=.non):=by let(w,rs,z):=a;let(g,hc):=h;dsimp only at g hc ⊢;simp_all_arith[nJ];nofun;erw[h1];show jd g (hM _ _ (seq λM hM=>?_));erw[h1];show jd hc (hM _ _ (last ?_));erw[aq,BEq.rfl,and_self]
def bW(rs:AU)(o:Option Nat):Option (AA):=o.bind λn=>rs[n]?.map (·.2)
def Mw{rs:AU}{o:Option Nat}:j9 rs o=dz (bW rs o):=by
 cases o with
 |none=>rfl
 |some n=>
  unfold j9 bW;dsimp only[Option.bind];cases rs[n]?<;>rfl
structure SD where
 w:Nat
 rs:AU
 ss:AU
 name:AA
 o:Option Nat
 p:Option Nat
def sSD:RF.Spec:=bV (λa:SD=>[aq a.w a.rs,aq a.w a.ss,.tup [.str a.name,bh a.o,bh a.p]]) (λa=>(∀n,a.o=-n->n<a.rs⁻¹)/\∀n,a.p=-n->n<a.ss⁻¹) (λa=>.bl (bW a.rs a.o==bW a.ss a.p))
def agS{w:Nat}{rs g:AU}{name:AA}{o p:Option Nat}{G:DH}{k:AT}{E:EK}(h1:∀n,o=-n->n<rs⁻¹)(h2:∀n,p=-n->n<g⁻¹)(q:k (.bl (bW rs o==bW g p)) G):sSD.t [aq w rs,aq w g,.tup [.str name,bh o,bh p]] G k E:=b8 ⟨w,rs,g,name,o,p⟩ rfl ⟨h1,h2⟩ q
def agT (Z:aj) (h1:Z "deed_of"=uT) (a:SD) (G:DH) (h:(∀n,a.o=-n->n<a.rs⁻¹)/\∀n,a.p=-n->n<a.ss⁻¹):au Z nM noE (env0 [aq a.w a.rs,aq a.w a.ss,.tup [.str a.name,bh a.o,bh a.p]] 0) G (ends λd z=>z=G/\d=.bl (bW a.rs a.o==bW a.ss a.p)):=by let(w,rs,I,name,o,p):=a;let(g,q):=h;dsimp only at g q ⊢;erw[nM,h1];show Ln g (Ln q ?_);rw[Mw,Mw];cases bW rs o<;>cases bW I p<;>erw[dz]<;>first|done | (simp;done) | (show⟨!1,?_⟩;simp;done)
def bJ(w:Nat)(rs g:AU):List (AA):=(cj (List.replicate w 42)).filter λl=>!(bW rs (bC rs l)==bW g (bC g l))
def fJ(rs g:AU)(c:AA):Bool:=bW rs (bz rs c)==bW g (bz g c)
def Bw(w:Nat)(rs g:AU)(d:D):Prop:=
 (∃m,(bJ w rs g).head?=-m/\d=.tup [.str Bu,.str m])\/(bJ w rs g=[]/\∃t bs,d=.tup [.str Bv,t]/\Lv Mv [rs,g] (List.replicate w 42) t bs/\∀c∈bs,fJ rs g c=true)
def o9:RF.Spec:=ghS (A:=Nat×AU×AU) (λa ds z=>ds=[aq a.1 a.2.1,aq a.1 a.2.2]/\okB a.1 a.2.1/\okB a.1 a.2.2) (λa G d g=>g=G/\Bw a.1 a.2.1 a.2.2 d)
def Mx{w:Nat}{rs g:AU}{G:DH}{k:AT}{E:EK}(h:okB w rs)(h':okB w g)(z:∀d,Bw w rs g d->k d G):o9.t [aq w rs,aq w g] G k E:=
 dH (w,rs,g) ⟨rfl,h,h'⟩ λd J I=>by
  let(e,q):=I;subst e;exact z d q
def agU (Z:aj) (h1:Z "need_two_books"=u5) (h2:Z "grown"=fG 9) (h3:Z "leaves"=eG 9) (h4:Z "least"=aV kJ) (h5:Z "stars"=aV fB) (h6:Z "same_deeds"=sSD) (a:Nat×AU×AU) (ds:AS) (G:DH) (h:ds=[aq a.1 a.2.1,aq a.1 a.2.2]/\okB a.1 a.2.1/\okB a.1 a.2.2):
  au Z nO noE (env0 ds 3) G (ends λd G'=>G'=G/\Bw a.1 a.2.1 a.2.2 d):=by
 let(w,rs,g):=a;let(rfl,hb,hb'):=h;dsimp only at hb hb' ⊢;have hw6:=hb.w6;have hst:=Bp w;have hrl:∀r∈rs,r.1⁻¹=w:=λr z=>(hb.form r z).1;have hsl:∀r∈g,r.1⁻¹=w:=λr z=>(hb'.form r z).1;have e0:∀xs:AU,D.tup [.int w,.tup (xs.map aN)]=aq w xs:=λy=>rfl;simp_all_arith[nO];nofun;erw[h1];show agQ hb hb' (hM _ _ (seq λM hM=>?_));erw[aq,h5];show agI (!0) (hM _ _ (seq λM hM=>?_));erw[h2];have er:[D.tup (rs.map aN),.tup (g.map aN)]=eF [rs,g]:=rfl;rw[er];show⟨!1,uW (name:=Mv) ⟨!2,!1,λxs q r z=>?_,!0⟩ dr (!0) λt ht=>hM _ _ (seq λM hM=>?_)⟩
 .rcases bo.mp q with e|q
  .rw[e]at z;exact hrl r z
  .rw[al.mp q]at z;exact hsl r z
 let(bs,N):=ht.lv;have hlen:=N.len' (by rw[dr];lia);erw[h3];show Ml N (!1) (by rw[dr];lia) (!0) ?_;erw[ends];show CompG.inv (P:=λi acc Y G'=>(∃o1 o2,Y=[o1,o2,-(.tup [.int w,.tup (rs.map aN)]),-(.tup [.int w,.tup (g.map aN)])])/\G'=G/\acc=((bs.take i).filter λc=>!fJ rs g c).map λc=>D.str (cV c)) ⟨⟨_,_,rfl⟩,rfl,rfl⟩ (λy y y y y=>trivial) (by rw[ag];bv_omega) ?_ ?_
 .rintro i d acc Y G' hd ⟨⟨o1,o2,rfl⟩,rfl,rfl⟩ kk hk;rw[a8]at hd;let(c,L,rfl):=aT.mp hd;have hcl:=(N.box c (ck L)).1;rw[dr]at hcl;have htk:bs.take (i+1)=bs.take i++[c]:=by rw[eM,L];rfl
  erw[km,oR,h6];rw[e0,e0];show agS (λn hn=>oO hn) (λn hn=>oO hn) ?_;have es:(bW rs (bz rs c)==bW g (bz g c))=fJ rs g c:=rfl;rw[es];cases hsb:fJ rs g c with
  |true=>
   erw[ends];exact hk _ _ _ ⟨⟨_,_,rfl⟩,rfl,by rw[htk,List.filter_append];simp[hsb]⟩
  |false=>
   erw[h4];show agJ (!0) (hk _ _ _ ⟨⟨_,_,rfl⟩,rfl,by rw[htk,List.filter_append];simp[hsb]⟩)
 .rintro acc Y G' ⟨_,rfl,rfl⟩;rw[ag,fw];symm;have meet:∀xs∈[rs,g],∀c∈bs,∀l,Fits c l->bC xs l=bz xs c:=by
   intro xs q c hc l hl;let(e1,e2):=N.box c hc;rw[dr]at e1;have okc:=N.okf (Lq w) c hc;show Mg (λr z=>?_) (e2 _ q) (Mh okc hl) hl;rcases bo.mp q with e|q
   .rw[e]at z;rw[hrl r z,e1]
   .rw[al.mp q]at z;rw[hsl r z,e1]
  have I:∀c∈bs,∀l,Fits c l->(bW rs (bC rs l)==bW g (bC g l))=fJ rs g c:=by intro c hc l hl;rw[meet rs (!2) c hc l hl,meet g (!2) c hc l hl];rfl
  cases hfr:bs.filter λc=>!fJ rs g c with
  |nil=>
   have U:∀c∈bs,fJ rs g c=true:=by
    intro c hc;have:=gT.mp hfr c hc;cases h:fJ rs g c with
    |false=>rw[h]at this;exact absurd rfl this
    |true=>rfl
   erw[ends];ac_nf0;erw[ends];show⟨!1,.inr ⟨?_,t,bs,rfl,N,U⟩⟩;unfold bJ;rw[gT];intro l hl;let(c,J,O):=N.cover l (oJ.mp hl);rw[I c J l O,U c J];simp
  |cons c0 cs=>
   have hne:(!(List.isEmpty (D.str (cV c0)::cs.map λc=>D.str (cV c))))=true:=rfl;erw[hne];rw[<-bg (f:=λc=>D.str (cV c)),<-hfr];have es:bH ((bs.filter λc=>!fJ rs g c).map λc=>D.str (cV c))=-((bs.filter λc=>!fJ rs g c).map cV):=strs_map _ _;have ei:aZ ((bs.filter λc=>!fJ rs g c).map λc=>D.str (cV c))=none:=by rw[hfr];rfl
   show agO ei es λm hm hlow=>?_;let(c,hcm,rfl):=bP.mp hm;let(L,hcn):=fA.mp hcm;show⟨!1,.inl ⟨cV c,?_,rfl⟩⟩;show agN ?_ ?_ ?_
   .unfold bJ;rw[oW];exact(Mu _).filter _
   .unfold bJ;rw[fA];show⟨oJ.mpr (N.within c L _ (Br c)),?_⟩;rw[I c L _ (Br c)];exact hcn
   .intro x hx hlt;unfold bJ at hx;let(hx1,hx2):=fA.mp hx;let(c',J,O):=N.cover x (oJ.mp hx1);rw[I c' J x O]at hx2;have hlow':=hlow (cV c') (bP.mpr ⟨c',fA.mpr ⟨J,hx2⟩,rfl⟩);exact Ms O (Mt hlt hlow')
def ph:RF.Spec:=bV (λa:Nat×AU×AU=>[aq a.1 a.2.1,aq a.1 a.2.2]) (λa=>okB a.1 a.2.1/\okB a.1 a.2.2) (λa=>dz (bJ a.1 a.2.1 a.2.2).head?)
def My{w:Nat}{rs g:AU}{G:DH}{k:AT}{E:EK}(h:okB w rs)(h':okB w g)(q:k (dz (bJ w rs g).head?) G):ph.t [aq w rs,aq w g] G k E:=b8 (w,rs,g) rfl ⟨h,h'⟩ q
def agV (Z:aj) (h1:Z "alike"=o9) (a:Nat×AU×AU) (G:DH) (h:okB a.1 a.2.1/\okB a.1 a.2.2):au Z nP noE (env0 [aq a.1 a.2.1,aq a.1 a.2.2] 2) G (ends λd I=>I=G/\d=dz (bJ a.1 a.2.1 a.2.2).head?):=by
 let(w,rs,O):=a;let(z,g):=h;dsimp only at z g ⊢;have J:(([97,108,105,107,101]==[112,97,114,116,101,100]):Bool)=false:=by decide
 simp_all_arith[nP];nofun;erw[h1];show Mx z g λd N=>?_;rcases N with⟨m,L,rfl⟩|⟨q,t,bs,rfl,_,_⟩
 .erw[Bu];ac_nf0;erw[BEq.rfl,L,dz,and_self]
 .erw[Bv];ac_nf0;erw[J,q,List.head?_nil,dz,and_self]
def swp(rs:AU)(n:Nat):AU:=rs.take n++[rs.getD (n+1) ([],[]),rs.getD n ([],[])]++rs.drop (n+2)
def agW{w n:Nat}{rs:AU}(g:okB w rs)(hn:n+1<rs⁻¹):okB w (swp rs n):=by
 show g.sub ?_ λr q=>?_
 .unfold swp;rw[am,am,b6,de];simp only[b4,gx];have:=g.len;lia
 .unfold swp at q;rcases aE.mp q with h|h
  .rcases aE.mp h with h|h
   .exact gc h
   .simp only[bo,dc,or_false]at h;rcases h with e|e
    .rw[e,bi,ai hn];exact cq hn
    .rw[e,bi,ai (!0)];exact cq _
  .exact List.mem_of_mem_drop h
def agX{g:Type}(l:List g)(n:Nat):cut l (-((n:Int)+2)) none=l.drop (n+2):=zX l (n+2)
def Mz{rs:AU}{n:Nat}(h:n<rs⁻¹):(rs.map aN)[n]?=-(aN (rs.getD n ([],[]))):=by rw[a8,bi,ai h];rfl
def wo(rs:AU)(n:Nat):AU:=rs.take n++rs.drop (n+1)
def Bx{rs:AU}{n:Nat}(hn:n<rs⁻¹):(wo rs n)⁻¹+1=rs⁻¹:=by unfold wo;rw[am,b6,de];lia
def agY{w n:Nat}{rs:AU}(g:okB w rs)(hn:n<rs⁻¹):okB w (wo rs n):=g.sub (by have:=Bx hn;lia) λr q=>by
 rcases aE.mp q with h|h
 .exact gc h
 .exact List.mem_of_mem_drop h
def sWo:RF.Spec:=bV (λa:Nat×AU×Nat=>[aq a.1 a.2.1,.int a.2.2]) (λa=>okB a.1 a.2.1/\a.2.2<a.2.1⁻¹) (λa=>aq a.1 (wo a.2.1 a.2.2))
def agZ{w n:Nat}{rs:AU}{G:DH}{k:AT}{E:EK}(h:okB w rs)(hn:n<rs⁻¹)(g:k (aq w (wo rs n)) G):sWo.t [aq w rs,.int n] G k E:=b8 (w,rs,n) rfl ⟨h,hn⟩ g
def ag0{g q:Type}(f:g->q)(l:List g)(n:Nat):cut (l.map f) (-((n:Int)+1)) none=(l.drop (n+1)).map f:=Lp f l (n+1)
def ag1 (Z:aj) (h1:Z "need_row"=oZ) (a:Nat×AU×Nat) (G:DH) (h:okB a.1 a.2.1/\a.2.2<a.2.1⁻¹):au Z nR noE (env0 [aq a.1 a.2.1,.int a.2.2] 2) G (ends λd z=>z=G/\d=aq a.1 (wo a.2.1 a.2.2)):=by let(w,rs,n):=a;let(g,hn):=h;dsimp only at g hn ⊢;have q:=g.len;simp_all_arith[nR];nofun;erw[h1];show Bt g hn (hM _ _ (seq λM hM=>?_));erw[aq];ac_nf0;erw[Bm,ag0,ag,b6,de];show⟨by bv_omega,!1,?_⟩;unfold wo aq;rw[bB]
def oS (q:AQ):D:=.obj "Sieve" "books" q
def stk(w:Nat)(bs:List (AU)):AS:=bs.map (aq w)
def MF(w:Nat)(as:List (AU))(rs:AU):stk w (as++[rs])=stk w as++[aq w rs]:=by unfold stk;rw[bB];rfl
def ag2(w:Nat)(bs:List (AU)):(stk w bs)⁻¹=bs⁻¹:=ag _
structure Sv where
 q:AQ
 w:Nat
 as:List (AU)
 rs:AU
def svG(a:Sv)(G:DH):Prop:=G a.q=-(.lst (stk a.w (a.as++[a.rs])))/\a.as⁻¹<1000/\okB a.w a.rs
def kO:RF.Spec:=ghS (A:=Sv) (λa ds G=>ds=[oS a.q]/\svG a G) (λa G d g=>g=G/\d=aq a.w a.rs)
def jg{q:AQ}{w:Nat}{as:List (AU)}{rs:AU}{G:DH}{k:AT}{E:EK}(h:svG ⟨q,w,as,rs⟩ G)(g:k (aq w rs) G):kO.t [oS q] G k E:=dH (⟨q,w,as,rs⟩:Sv) ⟨rfl,h⟩ λd I z=>by
 let(rfl,rfl):=z;exact g
def ag3(Z:aj)(a:Sv)(ds:AS)(G:DH)(h:ds=[oS a.q]/\svG a G):au Z oA noE (env0 ds 0) G (ends λd z=>z=G/\d=aq a.w a.rs):=by let(q,w,as,rs):=a;let(rfl,g,hl,I):=h;dsimp only at g hl I ⊢;rw[MF]at g;erw[oA,oS,jN,du g,wu,and_self]
def tld(w:Nat)(rs g:AU):D:=dz (bJ w rs g).head?
def MJ(a:Sv×AU)(ds:AS)(G:DH):Prop:=ds=[oS a.1.q,.tup (a.2.map aN)]/\svG a.1 G/\a.1.as⁻¹<100/\okB a.1.w a.2
def MK(a:Sv×AU)(G:DH)(d:D)(g:DH):Prop:=g=aK G a.1.q (.lst (stk a.1.w (a.1.as++[a.1.rs]++[a.2])))/\d=tld a.1.w a.1.rs a.2
def u6:RF.Spec:=ghS (A:=Sv×AU) MJ MK
def ag4{q:AQ}{w:Nat}{as:List (AU)}{rs g:AU}{G:DH}{k:AT}{E:EK}(h:svG ⟨q,w,as,rs⟩ G)(h1:as⁻¹<100)(h2:okB w g)(z:k (tld w rs g) (aK G q (.lst (stk w (as++[rs]++[g]))))):u6.t [oS q,.tup (g.map aN)] G k E:=dH ((⟨q,w,as,rs⟩,g):Sv×AU) ⟨rfl,h,h1,h2⟩ λd J I=>by
 let(rfl,rfl):=I;exact z
def ag5:(⇑"book"==⇑"books")=false:=by ac_rfl
def ag6:(⇑"turn"==⇑"books")=false:=by ac_rfl
def jh {q:AQ}:jO "Sieve" "book" (.obj "Sieve" "books" q):=⟨rfl,ag5⟩
def ag7 {q:AQ}:jO "Sieve" "turn" (.obj "Sieve" "books" q):=⟨rfl,ag6⟩
def ag8 (Z:aj) (h1:Z "Sieve.book"=kO) (h2:Z "parting_word"=ph) (a:Sv×AU) (ds:AS) (G:DH) (h:MJ a ds G):au Z oE noE (env0 ds 1) G (ends (MK a G)):=by let((q,w,as,rs),Y):=a;let(rfl,U,I,z):=h;have J:=U;let(g,hl,O):=J;dsimp only at g hl O I z ⊢;simp_all_arith[oE];nofun;erw[oS,h1];show⟨jh,jg U (hM _ _ (seq λM hM=>?_))⟩;erw[jN,aq,cJ g,ag2];have N:∀xs:AU,D.tup [.int w,.tup (xs.map aN)]=aq w xs:=λy=>rfl;show⟨!1,by rw[am,ca];bv_omega,hM _ _ (last ?_)⟩;rw[N,N,<-MF];have L:svG ⟨q,w,as++[rs],Y⟩ (aK G q (.lst (stk w (as++[rs]++[Y])))):=⟨aY,by rw[am,ca];change as⁻¹+1<1000;lia,z⟩;erw[h1,h2];show⟨jh,jg L (My O z ?_)⟩;exact⟨rfl,rfl⟩
def ji(rs:AU)(n:Nat)(r:Row):AU:=rs.take n++[r]++rs.drop n
def ag9{w n:Nat}{rs:AU}{r:Row}(q:okB w rs)(hl:rs⁻¹<12)(J:okF w r.1)(I:okD r.2):okB w (ji rs n r):=by
 have z:∀x∈ji rs n r,x∈rs\/x=r:=λx g=>by
  unfold ji at g;rcases aE.mp g with h|h
  .rcases aE.mp h with h|h
   .exact .inl (gc h)
   .exact .inr (al.mp h)
  .exact .inl (List.mem_of_mem_drop h)
 show⟨q.w1,q.w6,?_,λx g=>?_,λx g=>?_⟩
 .unfold ji;rw[am,am,b6,de,ca];lia
 .rcases z x g with h|rfl
  .exact q.form x h
  .exact J
 .rcases z x g with h|rfl
  .exact q.deed x h
  .exact I
def mvR(rs:AU)(n p:Nat):AU:=ji (wo rs n) p (rs.getD n ([],[]))
def getD_mem{rs:AU}{n:Nat}(hn:n<rs⁻¹):rs.getD n ([],[])∈rs:=by rw[bi,ai hn];exact cq hn
def aha{w n p:Nat}{rs:AU}(g:okB w rs)(hn:n<rs⁻¹):okB w (mvR rs n p):=
 ag9 (agY g hn) (by have:=Bx hn;have:=g.len;lia) (g.form _ (getD_mem hn)) (g.deed _ (getD_mem hn))
structure Chg where
 s:Sv
 ss:AU
def MN(a:Chg)(G:DH)(d:D)(g:DH):Prop:=g=aK G a.s.q (.lst (stk a.s.w (a.s.as++[a.s.rs]++[a.ss])))/\d=tld a.s.w a.s.rs a.ss
structure MovS where
 s:Sv
 n:Nat
 p:Nat
def MovS.c(a:MovS):Chg:=⟨a.s,mvR a.s.rs a.n a.p⟩
def MP(a:MovS)(ds:AS)(G:DH):Prop:=ds=[oS a.s.q,.int (a.n:Nat),.int (a.p:Nat)]/\svG a.s G/\a.s.as⁻¹<50/\a.n<a.s.rs⁻¹/\a.p<a.s.rs⁻¹
def u9:RF.Spec:=ghS (A:=MovS) MP (λa=>MN a.c)
def ahb (Z:aj) (h1:Z "Sieve.book"=kO) (h2:Z "Sieve.turn"=u6) (h3:Z "without"=sWo) (N:Z "need_row"=oZ) (a:MovS) (ds:AS) (G:DH) (h:MP a ds G):au Z oF noE (env0 ds 2) G (ends (MN a.c G)):=by
 let((q,w,as,rs),n,p):=a;let(rfl,I,J,hn,U):=h;have L:=I;let(g,hl,z):=L;dsimp only at g hl z J hn U ⊢;have O:=z.len;have hwl:=Bx hn;simp_all_arith[oF];nofun;erw[oS,h1,N];show⟨jh,jg I (Bt z hn (hM _ _ (seq λM hM=>?_)))⟩;erw[h1,N];show⟨jh,jg I (Bt z U (hM _ _ (seq λM hM=>?_)))⟩;erw[h1];show⟨jh,jg I ?_⟩;erw[aq];show bU (a:=aN (rs.getD n ([],[]))) (bL (Mz hn)) (hM _ _ (seq λM hM=>?_));erw[h1,h3];show⟨jh,jg I (agZ z hn ?_)⟩;erw[aq];ac_nf0;erw[h2,Bm,Lp,ag,b6,de];have Y:((wo rs n).take p).map aN++[aN (rs.getD n ([],[]))]++((wo rs n).drop p).map aN=(mvR rs n p).map aN:=by unfold mvR ji;rw[bB,bB];rfl
 rw[Y];show⟨ag7,!1,by bv_omega,by rw[am,ag,b6,ca];bv_omega,?_⟩;exact ag4 I (!0) (aha z hn) ⟨rfl,rfl⟩
def pA:RF.Spec:=ghS (A:=Nat×AU) (λa ds z=>ds=[aq a.1 a.2]/\okB a.1 a.2) (λa G d g=>∃q,d=oS q/\G q=none/\g=aK G q (.lst (stk a.1 [a.2])))
def ahc{w:Nat}{rs:AU}{G:DH}{k:AT}{E:EK}(g:okB w rs)(z:∀q,G q=none->k (oS q) (aK G q (.lst (stk w [rs])))):pA.t [aq w rs] G k E:=dH (w,rs) ⟨rfl,g⟩ λd L J=>by
 let(q,rfl,I,rfl):=J;exact z q I
def ahd (Z:aj) (h1:Z "need_book"=gH) (h2:Z "Sieve"=pA) (d:D) (G:DH) (kk:AT) (E:EK) (h:(Z "Sieve").t [d] G kk E):(Z "need_book").t [d] G (λy G1=>∀q,G1 q=none->kk (.obj "Sieve" "books" q) (aK G1 q (.lst [d]))) E:=by
 rw[h2]at h;rw[h1];let(((w,rs),G0),J,L,_):=h;let(e,g,I):=J;dsimp only at e g I;have g:d=aq w rs:=by simpa using g
 subst e g;exact jd I λq z=>L _ _ ⟨q,rfl,z,rfl⟩
def aD(o:AA):D:=.tup (o.map λi:Nat=>D.int (i:Int))
def okO(n:Nat)(o:AA):Prop:=o.Perm (List.range n)
def okO.len{n:Nat}{o:AA}(h:okO n o):o⁻¹=n:=by rw[List.Perm.length_eq h,cp]
def okO.mem{n i:Nat}{o:AA}(h:okO n o)(hi:i∈o):i<n:=ga.mp ((List.Perm.mem_iff h).mp hi)
def vd(n:Nat):D.tup (aX 0 n)=aD (List.range n):=by unfold aX aD;congr 1;exact c9 (λ(i:Nat) z=>by rw[Int.zero_add])
def aC(o:AA):List Int:=o.map λi:Nat=>(i:Int)
def By(o:AA):o.map (λi:Nat=>D.int (i:Int))=(aC o).map D.int:=by unfold aC;rw[cm];rfl
def ahe(n:Nat):aX 0 n=(aC (List.range n)).map D.int:=by have:=vd n;unfold aD at this;rw[By]at this;exact D.tup.inj this
def kW:∀l:List Int,aZ (l.map D.int)=-l
 |[]=>rfl
 |a::l=>by rw[bg,aZ,kW l]
def ahf:∀n:Fin 13,(aC (List.range n.1)).Pairwise (·<=·):=by decide
def MT:∀{a b:List Int},a.Perm b->a.Pairwise (·<=·)->b.Pairwise (·<=·)->a=b
 |[],b,h,_,_=>h.nil_eq
 |x::a,[],h,_,_=>absurd h.length_eq (!2)
 |x::a,y::b,h,ha,hb=>by
  rw[List.pairwise_cons]at ha hb;have h1:x∈y::b:=h.mem_iff.mp ba;have h2:y∈x::a:=h.mem_iff.mpr ba;have e:x=y:=by
   rcases bo.mp h1 with e|m
   .exact e
   .rcases bo.mp h2 with e|g
    .exact e.symm
    .have:=hb.1 x m;have:=ha.1 y g;lia
  subst e;rw[MT (List.perm_cons x |>.mp h) ha.2 hb.2]
def BJ:∀l:List Int,nrs (l.map D.int)=true/\aW (l.map D.int)=0
 |[]=>⟨rfl,rfl⟩
 |a::l=>by
  let(h1,h2):=BJ l;rw[bg,nrs,aW,h1,h2];exact⟨rfl,rfl⟩
def vf:RF.Spec:=bV (λa:Nat×AU=>[aq a.1 a.2]) (λa=>okB a.1 a.2) (λa=>aD (List.range a.2⁻¹))
def ahg{w:Nat}{rs:AU}{G:DH}{k:AT}{E:EK}(h:okB w rs)(g:k (aD (List.range rs⁻¹)) G):vf.t [aq w rs] G k E:=b8 (w,rs) rfl h g
def ahh(Z:aj)(a:Nat×AU)(G:DH)(h:okB a.1 a.2):au Z nY noE (env0 [aq a.1 a.2] 0) G (ends λd q=>q=G/\d=aD (List.range a.2⁻¹)):=by let(w,rs):=a;dsimp only at h ⊢;have g:=h.len;erw[nY,aq,ag,bv];exact⟨⟨!0,!0⟩,vd _⟩
def dTup(v:List Int):D:=.tup (v.map D.int)
def BK(o:AA):aD o=dTup (aC o):=by unfold aD dTup;rw[By]
def isO(n:Nat)(v:List Int):Bool:=v.isPerm (aC (List.range n))
def toO(v:List Int):AA:=v.map Int.toNat
def BL(o:AA):toO (aC o)=o:=by unfold toO aC;rw[cm];have e:(Int.toNat∘λi:Nat=>(i:Int))=id:=funext λi=>bv i;rw[e,List.map_id]
def ahi{n:Nat}{o:AA}(h:okO n o):isO n (aC o)=true:=List.isPerm_iff.mpr (List.Perm.map _ h)
def ahj{n:Nat}{v:List Int}(h:isO n v):okO n (toO v)/\v=aC (toO v):=by
 have h:=List.isPerm_iff.mp h;constructor
 .have:=List.Perm.map Int.toNat h;change(v.map Int.toNat).Perm _;rw[show(aC (List.range n)).map Int.toNat=List.range n from BL _]at this;exact this
 .unfold aC toO;rw[cm];conv=>lhs;rw[<-List.map_id v]
  show c9 λx g=>?_;have:=h.mem_iff.mp g;unfold aC at this;let(i,_,rfl):=bP.mp this;rfl
def M3:∀a b:List Int,b7 (a.map D.int) (b.map D.int)=(a==b)
 |[],[]=>rfl
 |[],_::_=>rfl
 |_::_,[]=>rfl
 |x::a,y::b=>by
  rw[bg,bg,b7,M3 a b];rfl
def ahk{n:Nat}{v ns:List Int}(hn:n<=12)(g:ns.Perm v)(hs:ns.Pairwise (·<=·)):(ns==aC (List.range n))=isO n v:=by
 rw[gt,a9];unfold isO;rw[List.isPerm_iff];constructor
 .rintro rfl;exact g.symm
 .intro h;exact MT (g.trans h) hs (ahf ⟨n,!0⟩)
def M4(n:Nat):D->D
 |.int i=>.bl (isPlace (n:Int) (.int i))
 |_=>.non
def ahl{n:Nat}{v:List Int}(h:isO n v):v.all (λi=>isPlace (n:Int) (.int i))=true:=by let(h1,h2):=ahj h;rw[h2,b9];intro x g;unfold aC at g;let(i,hi,rfl):=bP.mp g;have:=h1.mem hi;change(decide (0<=(i:Int))&&decide ((i:Int)<(n:Int)))=true;rw[cf (!0),cf (!0)];rfl
def vg:RF.Spec:=bV (A:=Nat×AU×List Int) (λa=>[aq a.1 a.2.1,dTup a.2.2]) (λa=>okB a.1 a.2.1/\a.2.2⁻¹<=30) (λa=>.bl (isO a.2.1⁻¹ a.2.2))
def ahm{w:Nat}{rs:AU}{v:List Int}{G:DH}{k:AT}{E:EK}(h:okB w rs)(q:v⁻¹<=30)(g:k (.bl (isO rs⁻¹ v)) G):vg.t [aq w rs,dTup v] G k E:=b8 (w,rs,v) rfl ⟨h,q⟩ g
def ahn (Z:aj) (h1:Z "is_place"=aV fX) (a:Nat×AU×List Int) (G:DH) (h:okB a.1 a.2.1/\a.2.2⁻¹<=30):au Z nT noE (env0 [aq a.1 a.2.1,dTup a.2.2] 1) G (ends λd N=>N=G/\d=.bl (isO a.2.1⁻¹ a.2.2)):=by
 let(w,rs,v):=a;let(J,hv):=h;dsimp only at J hv ⊢;have L:=J.len;unfold dTup;simp_all_arith[nT];nofun;erw[aq,ag];symm;erw[h1];show CompG.map (f:=M4 rs⁻¹) (I:=λY=>∃o,Y=[o,-(.int (rs⁻¹:Nat))]) ⟨_,rfl⟩ trivial (by rw[ag];bv_omega) ?_ ?_
 .rintro d Y hd ⟨o,rfl⟩ kk hk;let(i,hm,rfl):=bP.mp hd;erw[h1];show dG (show fX [.int (rs⁻¹:Int),.int i]=-(.bl (isPlace (rs⁻¹:Int) (.int i))) from rfl) ?_;exact hk _ ⟨_,rfl⟩
 .have U:(v.map D.int).map (M4 rs⁻¹)=v.map λi=>D.bl (isPlace (rs⁻¹:Int) (.int i)):=by rw[cm];rfl
  rw[U];have O:(v.map λi=>isPlace (rs⁻¹:Int) (.int i)).all id=v.all λi=>isPlace (rs⁻¹:Int) (.int i):=by rw[List.all_map];rfl
  erw[zV,O];cases q:v.all λi=>isPlace (rs⁻¹:Int) (.int i) with
  |false=>
   have:isO rs⁻¹ v=false:=by
    cases e:isO rs⁻¹ v with
    |false=>rfl
    |true=>rw[ahl e]at q;cases q
   erw[this,and_self]
  |true=>
   erw[ends];ac_nf0;erw[ends];show bU (kW _) ⟨!0,λns q hs=>?_⟩;have z:=BJ ns;have g:=BJ (aC (List.range rs⁻¹));show⟨⟨!0,!0⟩,?_⟩;simp only[bv];rw[ahe];show⟨⟨z.1,g.1,by rw[g.2];exact b3 (Nat.min_le_right _ _) (!1)⟩,?_⟩;rw[M3,ahk (!0) q hs]
def pB:RF.Spec:=bV (A:=Nat×AU×AA) (λa=>[aq a.1 a.2.1,aD a.2.2]) (λa=>okB a.1 a.2.1/\okO a.2.1⁻¹ a.2.2) (λz=>.non)
def M5{w:Nat}{rs:AU}{o:AA}{G:DH}{k:AT}{E:EK}(h:okB w rs)(q:okO rs⁻¹ o)(g:k .non G):pB.t [aq w rs,aD o] G k E:=b8 (w,rs,o) rfl ⟨h,q⟩ g
def aho (Z:aj) (h1:Z "is_order"=vg) (a:Nat×AU×AA) (G:DH) (h:okB a.1 a.2.1/\okO a.2.1⁻¹ a.2.2):au Z nU noE (env0 [aq a.1 a.2.1,aD a.2.2] 0) G (ends λd g=>g=G/\d=.non):=by erw[nU,h1,BK];show ahm h.1 (by have:=h.1.len;have:=h.2.len;unfold aC;rw[ag];lia) ?_;rw[ahi h.2];erw[ends]
def vh:RF.Spec:=bV (A:=Nat×AU) (λa=>[aq a.1 a.2]) (λa=>okB a.1 a.2/\a.1<=4/\a.2⁻¹<=5) (λz=>.non)
def ahp{w:Nat}{rs:AU}{G:DH}{k:AT}{E:EK}(h:okB w rs)(g:w<=4)(q:rs⁻¹<=5)(z:k .non G):vh.t [aq w rs] G k E:=b8 (w,rs) rfl ⟨h,g,q⟩ z
def ahq (Z:aj) (h1:Z "need_book"=gH) (a:Nat×AU) (G:DH) (h:okB a.1 a.2/\a.1<=4/\a.2⁻¹<=5):au Z ou noE (env0 [aq a.1 a.2] 2) G (ends λd q=>q=G/\d=.non):=by let(w,rs):=a;let(g,z,I):=h;dsimp only at g z I ⊢;simp_all_arith[ou];nofun;erw[h1];show jd g (hM _ _ (seq λM hM=>?_));erw[aq];ac_nf0;erw[ag,bX (show¬(5:Int)<(rs⁻¹:Int) by lia),bX (show¬(4:Int)<(w:Int) by lia)]
def byR(rs:AU)(o:AA):AU:=o.map λi=>rs.getD i ([],[])
def M6{w:Nat}{rs:AU}{o:AA}(g:okB w rs)(q:okO rs⁻¹ o):okB w (byR rs o):=by
 show g.sub ?_ λr z=>?_
 .unfold byR;rw[ag,q.len];first|exact g.len|exact ar _
 .let(i,hi,rfl):=bP.mp z;have:=q.mem hi;rw[bi,ai this];exact cq _
def sBy:RF.Spec:=bV (A:=Nat×AU×AA) (λa=>[aq a.1 a.2.1,aD a.2.2]) (λa=>okB a.1 a.2.1/\okO a.2.1⁻¹ a.2.2) (λa=>aq a.1 (byR a.2.1 a.2.2))
def BP{w:Nat}{rs:AU}{o:AA}{G:DH}{k:AT}{E:EK}(h:okB w rs)(q:okO rs⁻¹ o)(g:k (aq w (byR rs o)) G):sBy.t [aq w rs,aD o] G k E:=b8 (w,rs,o) rfl ⟨h,q⟩ g
def ahr{rs:AU}{o:AA}{d:D}{n:Nat}(q:okO n o)(hn:rs⁻¹=n)(g:d∈o.map λi:Nat=>D.int (i:Int)):∃i:Nat,d=.int (i:Int)/\atI (rs.map aN) (i:Int)=-(aN (rs.getD i ([],[]))):=by let(i,hi,rfl):=bP.mp g;exact⟨i,rfl,bL (Mz (by rw[hn];exact q.mem hi))⟩
def M7(rs:AU):D->D
 |.int i=>aN (rs.getD i.toNat ([],[]))
 |_=>.non
def ahs(rs:AU)(o:AA):(o.map λi:Nat=>D.int (i:Int)).map (M7 rs)=(byR rs o).map aN:=by unfold byR;rw[cm,cm];exact c9 λi z=>rfl
def aht (Z:aj) (h1:Z "need_book"=gH) (h2:Z "need_order"=pB) (a:Nat×AU×AA) (G:DH) (h:okB a.1 a.2.1/\okO a.2.1⁻¹ a.2.2):au Z nW noE (env0 [aq a.1 a.2.1,aD a.2.2] 2) G (ends λd J=>J=G/\d=aq a.1 (byR a.2.1 a.2.2)):=by
 let(w,rs,o):=a;let(g,q):=h;dsimp only at g q ⊢;have z:=g.len;have O:=q.len;simp_all_arith[nW];nofun;erw[h1];show jd g (hM _ _ (seq λM hM=>?_));erw[h2];show M5 g q (hM _ _ (seq λM hM=>?_));erw[aq];ac_nf0;erw[aD];show CompG.map (f:=M7 rs) (I:=λY=>∃o,Y=[o,-(.tup (rs.map aN))]) ⟨_,rfl⟩ trivial (by rw[ag];bv_omega) ?_ ?_
 .rintro d Y L ⟨o',rfl⟩ kk N;let(i,rfl,e):=ahr q rfl L;erw[ends];exact bU e (N _ ⟨_,rfl⟩)
 .rw[ahs];erw[ends];exact⟨!1,rfl⟩
def good(w:Nat)(rs:AU)(o:AA):Bool:=(bJ w rs (byR rs o)).isEmpty
def vm:RF.Spec:=bV (A:=Nat×AU×AA) (λa=>[aq a.1 a.2.1,aD a.2.2]) (λa=>okB a.1 a.2.1/\okO a.2.1⁻¹ a.2.2) (λa=>.bl (good a.1 a.2.1 a.2.2))
def ahu{w:Nat}{rs:AU}{o:AA}{G:DH}{k:AT}{E:EK}(h:okB w rs)(q:okO rs⁻¹ o)(g:k (.bl (good w rs o)) G):vm.t [aq w rs,aD o] G k E:=b8 (w,rs,o) rfl ⟨h,q⟩ g
def ahv (Z:aj) (h1:Z "parting_word"=ph) (h2:Z "by_order"=sBy) (a:Nat×AU×AA) (G:DH) (h:okB a.1 a.2.1/\okO a.2.1⁻¹ a.2.2):au Z nZ noE (env0 [aq a.1 a.2.1,aD a.2.2] 0) G (ends λd z=>z=G/\d=.bl (good a.1 a.2.1 a.2.2)):=by let(w,rs,o):=a;let(g,q):=h;dsimp only at g q ⊢;erw[nZ,h1,h2];show BP g q (My g (M6 g q) ?_);unfold good;cases bJ w rs (byR rs o)<;>erw[List.head?_nil,List.head?_cons,dz,List.isEmpty_nil,List.isEmpty_cons]
def aM(o:AA)(n:Nat):AA:=o.take n++[o.getD (n+1) 0,o.getD n 0]++o.drop (n+2)
def BR{l:AA}{n:Nat}(h:n+1<l⁻¹):l=l.take n++(l.getD n 0::l.getD (n+1) 0::l.drop (n+2)):=by
 have e:l.drop n=l.getD n 0::l.getD (n+1) 0::l.drop (n+2):=by rw[br (show n<l⁻¹ by lia),br h,bi,bi,ai (show n<l⁻¹ by lia),ai h];rfl
 rw[<-e,gX]
def vo{m n:Nat}{o:AA}(g:okO m o)(h:n+1<m):okO m (aM o n):=by
 have hl:n+1<o⁻¹:=by rw[g.len];exact h
 show List.Perm.trans ?_ g;conv=>rhs;rw[BR hl]
 unfold aM;rw[fk];exact List.Perm.append_left _ (List.Perm.swap _ _ _)
def vp:RF.Spec:=bV (A:=AA×Nat) (λa=>[aD a.1,.int (a.2:Nat)]) (λa=>a.2+1<a.1⁻¹/\a.1⁻¹<=12) (λa=>aD (aM a.1 a.2))
def ahw{o:AA}{n:Nat}{G:DH}{k:AT}{E:EK}(h1:n+1<o⁻¹)(h2:o⁻¹<=12)(g:k (aD (aM o n)) G):vp.t [aD o,.int (n:Nat)] G k E:=b8 (o,n) rfl ⟨h1,h2⟩ g
def vq{o:AA}{n:Nat}(h:n<o⁻¹):(o.map λi:Nat=>D.int (i:Int))[n]?=-(.int (o.getD n 0:Nat)):=by rw[a8,bi,ai h];rfl
def ahx(Z:aj)(a:AA×Nat)(G:DH)(h:a.2+1<a.1⁻¹/\a.1⁻¹<=12):au Z n6 noE (env0 [aD a.1,.int (a.2:Nat)] 0) G (ends λd g=>g=G/\d=aD (aM a.1 a.2)):=by let(o,n):=a;let(h1,h2):=h;dsimp only at h1 h2 ⊢;simp_all_arith[n6,aD];show last ?_;simp_arith[Bm,agX,<-List.map_drop,ag];show bU (a:=.int (o.getD (n+1) 0:Nat)) (bL (j:=n+1) (vq h1)) (bU (a:=.int (o.getD n 0:Nat)) (bL (vq (!0))) ?_);show⟨!1,by rw[b6];bv_omega,by simp only[am,ag,b6,de,b4,gx];bv_omega,?_⟩;unfold aM;rw[bB,bB];first|trivial|exact⟨rfl,rfl⟩|rfl
def ahy{p q:AQ}{G G1 G2:DH}(a:Sb p G G1)(g:G q=none)(b:Sb q G1 G2):Sb p G G2:=λc o h n=>b c o (a c o h n) (lJ h g)
def vy:RF.Spec:=ghS (A:=AQ×Nat) (λa ds G=>ds=[.ref a.1,.int (a.2:Nat)]/\Pen G a.1/\a.2<=12) (λa G d g=>∃o,d=aD o/\okO a.2 o/\Pen g a.1/\Sb a.1 G g)
def ahz{p:AQ}{n:Nat}{G:DH}{k:AT}{E:EK}(I:Pen G p)(hn:n<=12)(z:∀o g,okO n o->Pen g p->Sb p G g->k (aD o) g):vy.t [.ref p,.int (n:Nat)] G k E:=dH (p,n) ⟨rfl,I,hn⟩ λd g J=>by
 let(o,rfl,h1,h2,q):=J;exact z o g h1 h2 q
def ahA (Z:aj) (h1:Z "_law_take"=eZ) (a:AQ×Nat) (ds:AS) (G:DH) (h:ds=[.ref a.1,.int (a.2:Nat)]/\Pen G a.1/\a.2<=12):au Z Ah noE (env0 ds 1) G (ends λd J=>∃o,d=aD o/\okO a.2 o/\Pen J a.1/\Sb a.1 G J):=by
 let(p,n):=a;let(rfl,hp,hn):=h;dsimp only at hp hn ⊢;simp_all_arith[Ah];nofun;erw[bv];show⟨⟨!0,!0⟩,λq hq=>hM _ _ (last ?_)⟩;have hqp:q≠p:=(hp.ne hq).symm;erw[h1,bv];show⟨!0,CompG.inv (P:=λi L Y J=>(∃o,Y=[o,-(.ref q),-(.ref p)])/\(Pen J p/\Sb p G J)/\∃I left:AA,L=(I.map λi:Nat=>D.int (i:Int))/\J q=-(.lst (left.map λi:Nat=>D.int (i:Int)))/\(I++left).Perm (List.range n)/\I⁻¹=i) ⟨⟨_,rfl⟩,⟨hp.sa (Sa.new hq),(Sa.new hq).sb⟩,[],List.range n,rfl,?_,gV _,rfl⟩ (λy y y y y=>trivial) ?_ ?_ ?_⟩
 .rw[aY];have e:=vd n;unfold aD at e;rw[D.tup.inj e]
 .simp[aX];bv_omega
 .rintro i d L Y J hd ⟨⟨o,rfl⟩,⟨O,U⟩,I,left,rfl,g,z,N⟩ kk hk;have hi:i<n:=by
   have:=(av.mp hd).1;simpa [aX] using this
  have hll:I⁻¹+left⁻¹=n:=by have:=z.length_eq;rwa [am,cp]at this
  erw[h1,KY,KR,cJ g,du g,ag];show dw O (!0) (!0) λr G2 hr hp2 sb2=>?_;have g2:=sb2 _ _ g hqp;have hrl:r<left⁻¹:=by lia
  simp only[KR,cJ g2,bv];show⟨!0,!0,bU (a:=D.int (left[r]:Nat)) (by rw[a8,ai hrl];rfl) ?_⟩;show hk _ _ _ ⟨⟨_,rfl⟩,⟨hp2.sb Sb.upd hqp.symm,ahy (U.trans sb2) hq Sb.upd⟩,I++[left[r]],left.eraseIdx r,?_,?_,?_,by simp;lia⟩
  .rw[bB];rfl
  .rw[aY];congr 2;rw[eP,eP,bB,List.map_take,List.map_drop]
  .show List.Perm.trans ?_ z;rw[fk];show List.Perm.append_left _ ?_;have e:left.take r++left[r]::left.drop (r+1)=left:=by rw[<-br hrl,gX]
   rw[eP];have pm:(left[r]::(left.take r++left.drop (r+1))).Perm (left.take r++left[r]::left.drop (r+1)):=List.perm_middle.symm;rw[e]at pm;exact pm
 .rintro L Y J ⟨⟨o,rfl⟩,⟨O,U⟩,I,left,rfl,g,z,N⟩;have N:I⁻¹=n:=by simpa [aX] using N
  have hll:I⁻¹+left⁻¹=n:=by have:=z.length_eq;rwa [am,cp]at this
  have hl0:left=[]:=ee.mp (!0);subst hl0;rw[eh]at z;exact⟨I,rfl,z,O,U⟩
def il(o:AA):AS:=(List.range (o⁻¹-1)).map λi:Nat=>D.tup [.int (i:Int),aD (aM o i)]
def vz:RF.Spec:=bV (A:=AA) (λo=>[aD o]) (λo=>o⁻¹<=12) (λo=>.lst (il o))
def ahB{o:AA}{G:DH}{k:AT}{E:EK}(h:o⁻¹<=12)(g:k (.lst (il o)) G):vz.t [aD o] G k E:=b8 o rfl h g
def stepI(o:AA):D->D
 |.int i=>.tup [.int i,aD (aM o i.toNat)]
 |_=>.non
def ahC(o:AA):(aX 0 (o⁻¹-1)).map (stepI o)=il o:=by unfold aX il;rw[cm];show c9 λi z=>?_;change stepI o (.int (0+(i:Nat)))=_;rw[Int.zero_add];rfl
def ahD (Z:aj) (h1:Z "exchanged"=vp) (o:AA) (G:DH) (h:o⁻¹<=12):au Z oh noE (env0 [aD o] 0) G (ends λd z=>z=G/\d=.lst (il o)):=by
 have N:aD o=.tup (o.map λi:Nat=>D.int (i:Int)):=rfl;have L:((o⁻¹:Int)-1).toNat=o⁻¹-1:=by lia
 simp_all_arith[oh];show last ?_;erw[h1];rw[N];erw[ag,L];show⟨⟨!0,!0⟩,?_⟩;show CompG.map (f:=stepI o) (I:=λY=>∃x,Y=[x,-(aD o)]) ⟨_,rfl⟩ trivial (by unfold aX;rw[ag,cp];bv_omega) ?_ ?_
 .rintro d Y g ⟨x,rfl⟩ kk q;unfold aX at g;let(i,hi,rfl):=bP.mp g;have hi:=ga.mp hi;have J:(0:Int)+(i:Nat)=(i:Int):=Int.zero_add _;rw[J]at q ⊢;erw[h1];show ahw (!0) h ⟨!1,?_⟩;exact q _ ⟨_,rfl⟩
 .rw[ahC];erw[and_self]
def vA(o:AA):aD o=.tup ((aC o).map D.int):=BK o
def BV{o:AA}{kk:List Int->Prop}:cF (aD o) kk=kk (aC o):=by rw[vA,uL,kW];rfl
def M8{o:AA}{ks:AW}{ds:AS}{kb:Bool->Prop}:bc .In (aD o) (.dct ks ds) kb=kb (kIx ks (aC o)).isSome:=by rw[KZ,BV]
def ahE{o:AA}{ks:AW}{ds:AS}{kb:Bool->Prop}:bc .NotIn (aD o) (.dct ks ds) kb=kb (!(kIx ks (aC o)).isSome):=by rw[K1,BV]
def M9{o:AA}{ks:AW}{ds:AS}{kd:D->Prop}:cB (.dct ks ds) (aD o) kd=aR (kIx ks (aC o)) λi=>aR ds[i]? kd:=by rw[vA,K3,uL,kW];rfl
def Nb{o:AA}{p:AQ}{x:D}{G:DH}{g:DH->Prop}:cL (.ref p) (aD o) x G g=mQ G p (λks ds=>ks⁻¹<sz/\g (aK G p (dput ks ds (aC o) x))):=by rw[vA,K5];simp only[uL,kW,uK]
theorem pC{o:AA}{G:DH}:view G (aD o)=aD o:=rfl
def ahF{ks:AW}{n:List Int}(h:n∉ks):kIx ks n=none:=by unfold kIx;rw[List.findIdx?_eq_none_iff];exact λx g=>bX λe=>h (e ▸ g)
def Nf{ks:AW}{n:List Int}{i:Nat}(h:kIx ks n=-i):i<ks⁻¹/\n∈ks:=by unfold kIx at h;let(hi,g,_):=dS.mp h;have e:=df g;exact⟨hi,e ▸ cq hi⟩
def BW{ks:AW}{n:List Int}(h:n∈ks):∃i,kIx ks n=-i:=by
 cases e:kIx ks n with
 |some i=>exact⟨i,rfl⟩
 |none=>
  unfold kIx at e;rw[List.findIdx?_eq_none_iff]at e;have:=e n h;rw[cf rfl]at this;cases this
def BX{ks:AW}{n:List Int}(h:(kIx ks n).isSome=false):n∉ks:=λm=>by
 let(i,e):=BW m;rw[e]at h;cases h
def Ng{ks:AW}{ds:AS}{n:List Int}{x:D}(h:n∉ks):dput ks ds n x=.dct (ks++[n]) (ds++[x]):=by unfold dput;rw[ahF h]
def BZ{z:Type}[DecidableEq z]:∀{l m:List z},l.Nodup->(∀x∈l,x∈m)->l⁻¹<=m⁻¹
 |[],m,_,_=>dA _
 |a::l,m,h,hm=>by
  rw[ef]at h;have g:=hm a ba;have:=BZ (m:=m.erase a) h.2 λx q=>(List.mem_erase_of_ne (λ(e:x=a)=>h.1 (e ▸ q))).mpr (hm x (aS _ q));rw[List.length_erase_of_mem g]at this;have:=List.length_pos_of_mem g;rw[b4];lia
def pF:Nat->List Int->List (List Int)
 |0,_=>[[]]
 |k+1,l=>l.flatMap λa=>(pF k (l.erase a)).map (a::·)
def Ca:∀(v l:List Int),v.Perm l->v∈pF v⁻¹ l
 |[],l,_=>al.mpr rfl
 |a::v,l,h=>by
  rw[b4,pF];exact List.mem_flatMap.mpr ⟨a,h.mem_iff.mp ba,bP.mpr ⟨v,Ca v _ (List.cons_perm_iff_perm_erase.mp h).2,rfl⟩⟩
def ahG:∀n:Fin 6,(pF n.1 (aC (List.range n.1)))⁻¹<=120:=by ac_rfl
def isKey(n:Nat)(k:List Int):Prop:=∃o,okO n o/\k=aC o
def vB{n:Nat}{ks:AW}(hn:n<=5)(nd:ks.Nodup)(h:∀k∈ks,isKey n k):ks⁻¹<=120:=by
 show b3 (BZ nd λk q=>?_) (ahG ⟨n,!0⟩);let(o,g,rfl):=h k q;have e:(aC o)⁻¹=n:=by unfold aC;rw[ag,g.len]
 have:=Ca (aC o) (aC (List.range n)) (List.Perm.map _ g);rwa [e]at this
def Nh{ks:AW}{k:List Int}(h:ks.Nodup)(z:k∉ks):(ks++[k]).Nodup:=by rw[List.nodup_append];exact⟨h,ef.mpr ⟨dc,fT⟩,λa g b q e=>z (by rw[<-al.mp q,<-e];exact g)⟩
def kY{Z:aj}{z:Sxs}{E:EK}{Y:ak}{G:DH}{q:AQ}{o:DO}{g:En}(I:G q=none)(h:∀G1,G1 q=-o->Sa G G1->au Z z E Y G1 g):au Z z E Y (aK G q o) g:=h _ aY (Sa.new I)
def vC{a b:AA}(h:aC a=aC b):a=b:=by rw[<-BL a,h,BL]
def Cd{ks:AW}{n:List Int}(h:(kIx ks n).isSome):n∈ks:=by let(i,e):=ce.mp h;exact(Nf e).2
def Ni{n:Nat}:∀{ks:AW},(∀k∈ks,isKey n k)->∃q:List (AA),ks=q.map aC/\∀o∈q,okO n o
 |[],_=>⟨[],rfl,λy h=>absurd h dc⟩
 |k::ks,h=>by
  let(o,h1,e):=h k ba;let(q,z,h2):=Ni λx g=>h x (aS _ g);show⟨o::q,by rw[bg,<-e,<-z],λx g=>?_⟩;rcases bo.mp g with rfl|g
  .exact h1
  .exact h2 x g
def Nj{o:AA}{g:List (AA)}(h:aC o∈g.map aC):o∈g:=by let(x,q,e):=bP.mp h;rw[<-vC e];exact q
def ahH{g:List (AA)}(h:(g.map aC).Nodup):g.Nodup:=by
 induction g with
 |nil=>exact fT
 |cons o g z=>
  rw[bg,ef]at h;rw[ef];exact⟨λq=>h.1 (bP.mpr ⟨o,q,rfl⟩),z h.2⟩
def ahI(g:List (AA)):(g.map aC).map dTup=g.map aD:=by rw[cm];exact c9 λo z=>(BK o).symm
inductive GP (gd:AA->Bool) (n:Nat):AA->AA->Prop
 |nil:GP gd n [] (List.range n)
 |snoc {st o:AA} {j:Nat}:GP gd n st o->j+1 < n->gd (aM o j)=true->GP gd n (st++[j]) (aM o j)
def GP.ok{gd:AA->Bool}{n:Nat}{st o:AA}(h:GP gd n st o):okO n o:=by
 induction h with
 |nil=>exact gV _
 |snoc h q g z=>exact vo z q
def lea(gd:AA->Bool)(n:Nat)(st o:AA):Prop:=GP gd n st o/\∀g,GP gd n g o->st⁻¹<=g⁻¹
def GP.last{gd:AA->Bool}{n:Nat}{st o:AA}(h:GP gd n st o):(st=[]/\o=List.range n)\/∃q o0 j,st=q++[j]/\o=aM o0 j/\GP gd n q o0/\j+1<n/\gd o=true:=by
 cases h with
 |nil=>exact .inl ⟨rfl,rfl⟩
 |snoc h z g=>exact .inr ⟨_,_,_,rfl,rfl,h,z,g⟩
structure LI(gd:AA->Bool)(n t:Nat)(A B:AA->Prop):Prop where
 all:∀st o,GP gd n st o->st.length<=t->A o
 top:∀o,B o->A o/\∃st,lea gd n st o/\st.length=t
 has:∀st o,lea gd n st o->st.length=t->B o
open Classical in
def Nk{gd:AA->Bool}{n:Nat}{st o:AA}(h:GP gd n st o):∃g,lea gd n g o/\g⁻¹<=st⁻¹:=by
 induction z:st⁻¹ using Nat.strongRecOn generalizing st with
 |_ m I=>
  subst z;by_cases q:∀g,GP gd n g o->st⁻¹<=g⁻¹
  .exact ⟨st,⟨h,q⟩,ar _⟩
  .have ⟨g,hs⟩:=Classical.not_forall.mp q;have⟨h1,h2⟩:=Classical.not_imp.mp hs;let(s,a,b):=I g⁻¹ (!0) h1 rfl;exact⟨s,a,!0⟩
def LI.done{gd:AA->Bool}{n t:Nat}{A B:AA->Prop}(h:LI gd n t A B)(I:∀o,¬B o):∀st o,GP gd n st o->A o:=by
 have key:∀st o,GP gd n st o->∃s,GP gd n s o/\s⁻¹<=t:=by
  intro st o z;induction z with
  |nil=>exact⟨[],.nil,dA _⟩
  |snoc z J g N=>
   let(s,hs,hl):=N;let(s',q,L):=Nk hs;by_cases e:s'⁻¹=t
   .exact absurd (h.has _ _ q e) (I _)
   .exact ⟨_,.snoc q.1 J g,by rw[am,ca];lia⟩
 intro st o z;let(s,hs,hl):=key st o z;exact h.all s o hs hl
def LI.next{gd:AA->Bool}{n t:Nat}{A B I N:AA->Prop}(h:LI gd n t A B)(U:∀o,A o->I o)(hp:∀o j,B o->j+1<n->gd (aM o j)=true->I (aM o j))(ht:∀o,N o->I o/\∃st,lea gd n st o/\st⁻¹=t+1)(hn:∀o,I o->A o\/N o)(hl:∀o,A o->∃st,GP gd n st o/\st⁻¹<=t):LI gd n (t+1) I N where
 all:=λst o Y hs=>by
  rcases Y.last with⟨rfl,rfl⟩|⟨L,o0,j,rfl,rfl,h0,J,g⟩
  .exact U _ (h.all _ _ Y (dA _))
  .let(s,hl,O):=Nk h0;rw[am,ca]at hs;by_cases e:s⁻¹=t
   .exact hp _ _ (h.has _ _ hl e) J g
   .exact U _ (h.all _ _ (.snoc hl.1 J g) (by rw[am,ca];lia))
 top:=ht
 has:=λst o q e=>by
  have ha:I o:=by
   rcases q.1.last with⟨rfl,rfl⟩|⟨L,o0,j,rfl,rfl,h0,J,g⟩
   .cases e
   .rw[am,ca]at e;have l0:lea gd n L o0:=⟨h0,λs hs=>by
     have:=q.2 _ (.snoc hs J g);rw[am,am]at this;simpa using this⟩
    exact hp _ _ (h.has _ _ l0 (!0)) J g
  rcases hn o ha with z|z
  .let(s,hs,O):=hl o z;have:=q.2 s hs;lia
  .exact z
def wlk(n:Nat)(st:AA):AA:=st.foldl aM (List.range n)
def GP.wlk{gd:AA->Bool}{n:Nat}{st o:AA}(h:GP gd n st o):o=RF.wlk n st:=by
 induction h with
 |nil=>rfl
 |snoc h z g q=>unfold RF.wlk;rw[List.foldl_append,q];rfl
def GP.mem{gd:AA->Bool}{n:Nat}{st o:AA}(h:GP gd n st o):∀j∈st,j+1<n:=by
 induction h with
 |nil=>intro j q;exact absurd q dc
 |snoc h q g J=>
  intro L I;rcases aE.mp I with z|z
  .exact J L z
  .rw[al.mp z];exact q
structure WI(n:Nat)(ks:AW)(ds:AS):Prop where
 nd:ks.Nodup
 ok:∀k∈ks,isKey n k
 len:ds.length=ks.length
def WI.add{n:Nat}{ks:AW}{ds:AS}{k:List Int}{d:D}(h:WI n ks ds)(g:k∉ks)(q:isKey n k):WI n (ks++[k]) (ds++[d]) where
 nd:=Nh h.nd g
 ok:=λx I=>by
  rcases aE.mp I with z|z
  .exact h.ok x z
  .rw[al.mp z];exact q
 len:=by rw[am,am,h.len];rfl
def stO(st:AA):DO:=.lst (st.map λi:Nat=>D.int (i:Int))
def LE(gd:AA->Bool)(n t m:Nat)(G0 g:DH)(r:Option AQ)(o:AA)(d:D):Prop:=∃st q,d=.ref q/\g q=-(stO st)/\G0 q=none/\r≠some q/\lea gd n st o/\st⁻¹<=t/\st⁻¹<=m
def LW(gd:AA->Bool)(n t:Nat)(G0 g:DH)(r:Option AQ)(ks:AW)(ds:AS):Prop:=∀(i:Nat)(k:List Int),ks[i]?=-k->∃o d,k=aC o/\ds[i]?=-d/\LE gd n t ks⁻¹ G0 g r o d
section
variable {gd:AA->Bool} {n t:Nat} {G0 G1 G2:DH} {r:Option AQ} {ks:AW} {ds:AS}
theorem LE.to{t' m J:Nat}{L:Option AQ}{o:AA}{d:D}(h:LE gd n t m G0 G1 r o d)(ht:t<=t')(O:m<=J)(hs:∀q l,G1 q=-(.lst l)->r≠some q->G2 q=-(.lst l)/\L≠some q):LE gd n t' J G0 G2 L o d:=by let(st,q,e,g,z,nr,l,h1,h2):=h;let(N,I):=hs q _ g nr;exact⟨st,q,e,N,z,I,l,!0,!0⟩
def LW.to{t':Nat}{g:Option AQ}(h:LW gd n t G0 G1 r ks ds)(ht:t<=t')(hs:∀q l,G1 q=-(.lst l)->r≠some q->G2 q=-(.lst l)/\g≠some q):LW gd n t' G0 G2 g ks ds:=λi k L=>by
 let(o,d,z,I,J):=h i k L;exact⟨o,d,z,I,J.to ht (ar _) hs⟩
def LW.has(h:LW gd n t G0 G1 r ks ds){o:AA}{i:Nat}(hi:kIx ks (aC o)=-i):∃d,ds[i]?=-d/\LE gd n t ks⁻¹ G0 G1 r o d:=by unfold kIx at hi;let(hl,I,_):=dS.mp hi;have e:=df I;let(o',d,g,q,z):=h i _ (ai hl);rw[e]at g;rw[vC g];exact⟨d,q,z⟩
def LW.of(h:LW gd n t G0 G1 r ks ds){o:AA}(g:aC o∈ks):∃st,lea gd n st o/\st⁻¹<=t:=by let(i,hi):=BW g;let(d,_,st,_,_,_,_,_,l,h1,_):=h.has hi;exact⟨st,l,h1⟩
theorem LW.add(h:LW gd n t G0 G1 r ks ds)(hl:ds⁻¹=ks⁻¹){o:AA}{d:D}(h1:LE gd n t (ks⁻¹+1) G0 G1 r o d):LW gd n t G0 G1 r (ks++[aC o]) (ds++[d]):=λi k z=>by
 have el:(ks++[aC o])⁻¹=ks⁻¹+1:=by rw[am];rfl
 rw[el];by_cases hi:i<ks⁻¹
 .rw[da hi]at z;let(o',d',J,L,N):=h i k z;exact⟨o',d',J,by rw[da (!0)];exact L,N.to (ar _) (dk _) λq l g nr=>⟨g,nr⟩⟩
 .rw[dy (!0)]at z;have I:i-ks⁻¹=0:=by
   have:=(av.mp z).1;simp only[b4,gx]at this;lia
  rw[I]at z;cases z;exact⟨o,d,rfl,by rw[dy (!0),hl,I];rfl,h1⟩
end
structure FGW(Z:aj):Prop where
 first:Z "first_order"=vf
 steps:Z "steps_from"=vz
 good:Z "is_good"=vm
structure GI(n:Nat)(G0 G':DH)(p q:AQ)(ks:AW)(ds:AS)(kb:AW)(db:AS):Prop where
 gp:G' p=some (.dct ks ds)
 gq:G' q=some (.dct kb db)
 bn:kb.Nodup
 bk:∀k∈kb,isKey n k
 w:WI n ks ds
 sa:Sa G0 G'
 zp:G0 p=none
 zq:G0 q=none
 pq:p≠q
def GI.to{n:Nat}{G0 G1 G2:DH}{p q:AQ}{ks:AW}{ds:AS}{kb:AW}{g:AS}(h:GI n G0 G1 p q ks ds kb g)(s:Sa G1 G2):GI n G0 G2 p q ks ds kb g:=⟨s _ _ h.gp,s _ _ h.gq,h.bn,h.bk,h.w,h.sa.trans s,h.zp,h.zq,h.pq⟩
def GI.ne{n:Nat}{G0 G1:DH}{p q r:AQ}{ks:AW}{ds:AS}{kb:AW}{z:AS}(h:GI n G0 G1 p q ks ds kb z)(g:G1 r=none):r≠p/\r≠q/\G0 r=none:=by
 show⟨λe=>?_,λe=>?_,?_⟩
 .rw[e,h.gp]at g;cases g
 .rw[e,h.gq]at g;cases g
 .cases e:G0 r with
  |none=>rfl
  |some o=>rw[h.sa _ _ e]at g;cases g
def nwOk(n:Nat)(ks:AW)(g:List (AA)):Prop:=∀o∈g,okO n o/\aC o∈ks
def nwOk.more{n:Nat}{ks:AW}{q:List (AA)}{k:List Int}(h:nwOk n ks q):nwOk n (ks++[k]) q:=λo g=>⟨(h o g).1,c6 _ (h o g).2⟩
structure TI(gd:AA->Bool)(n t:Nat)(ks0 ks:AW)(kb:AW)(fu:List (AA))(dn:AA->Nat->Prop):Prop where
 sub:∀k∈ks0,k∈ks
 new:∀o,aC o∈ks->aC o∈ks0\/o∈fu
 fu:∀o∈fu,aC o∈ks/\∃st,lea gd n st o/\st.length=t+1
 bad:∀o,aC o∈kb->gd o=false
 dn:∀o j,dn o j->j+1 < n->gd (aM o j)=true->aC (aM o j)∈ks
def TI.mono{gd:AA->Bool}{n t:Nat}{q ks:AW}{kb:AW}{J:List (AA)}{I g:AA->Nat->Prop}(h:TI gd n t q ks kb J I)(N:∀o j,j+1<n->g o j->I o j\/(gd (aM o j)=true->aC (aM o j)∈ks)):TI gd n t q ks kb J g:=
 ⟨h.sub,h.new,h.fu,h.bad,λo j h1 h2 L=>(N o j h2 h1).elim (λz=>h.dn o j z h2 L) λz=>z L⟩
def TI.add{gd:AA->Bool}{n t:Nat}{q ks:AW}{kb:AW}{U:List (AA)}{O:AA->Nat->Prop}{B:AA->Prop}(h:TI gd n t q ks kb U O)(L:LI gd n t (λo=>aC o∈q) B){o st:AA}{j:Nat}(hB:B o)(hs:lea gd n st o)(hj:j+1<n)(hg:gd (aM o j))(hn:aC (aM o j)∉ks):lea gd n (st++[j]) (aM o j)/\(st++[j])⁻¹=t+1/\TI gd n t q (ks++[aC (aM o j)]) kb (U++[aM o j]) (λo' I=>O o' I\/(o'=o/\I=j)):=by
 let(_,s0,Y,e0):=L.top o hB;have es:st⁻¹=t:=by have:=hs.2 _ Y.1;have:=Y.2 _ hs.1;lia
 have lt:lea gd n (st++[j]) (aM o j):=⟨.snoc hs.1 hj hg,λs N=>by
  rw[am,ca,es];by_cases J:s⁻¹<=t
  .exact absurd (h.sub _ (L.all s _ N J)) hn
  .omega⟩
 have el:(st++[j])⁻¹=t+1:=by rw[am,ca,es]
 show⟨lt,el,λk hk=>c6 _ (h.sub k hk),λo' g=>?_,λo' g=>?_,h.bad,λo' I hd h2 h3=>?_⟩
 .rcases aE.mp g with z|z
  .rcases h.new o' z with y|y
   .exact .inl y
   .exact .inr (c6 _ y)
  .rw[vC (al.mp z)];exact .inr (ay _ (al.mpr rfl))
 .rcases aE.mp g with z|z
  .exact ⟨c6 _ (h.fu o' z).1,(h.fu o' z).2⟩
  .rw[al.mp z];exact⟨ay _ (al.mpr rfl),_,lt,el⟩
 .rcases hd with z|⟨rfl,rfl⟩
  .exact c6 _ (h.dn o' I z h2 h3)
  .exact ay _ (al.mpr rfl)
def TI.badd{gd:AA->Bool}{n t:Nat}{g ks:AW}{kb:AW}{J:List (AA)}{I:AA->Nat->Prop}(h:TI gd n t g ks kb J I){o:AA}(L:gd o=false):TI gd n t g ks (kb++[aC o]) J I:=
 ⟨h.sub,h.new,h.fu,λo' q=>by
  rcases aE.mp q with z|z
  .exact h.bad o' z
  .rw[vC (al.mp z)];exact L,h.dn⟩
def Nm(gd:AA->Bool)(n:Nat)(o:AA)(G g:DH)(ks:AW)(ds:AS):Prop:=(∃t,LW gd n t G g none ks ds)/\(aC o∈ks\/∀st o',GP gd n st o'->aC o'∈ks)
def pGW(a:Nat×AU×AA)(ds:AS):Prop:=ds=[aq a.1 a.2.1,aD a.2.2]/\okB a.1 a.2.1/\a.2.1⁻¹<=5
def qGW(a:Nat×AU×AA)(G:DH)(d:D)(g:DH):Prop:=∃p ks ds,d=.ref p/\G p=none/\g p=-(.dct ks ds)/\Sa G g/\WI a.2.1⁻¹ ks ds/\Nm (good a.1 a.2.1) a.2.1⁻¹ a.2.2 G g ks ds
def vD:RF.Spec:=ghS (A:=Nat×AU×AA) (λa ds z=>pGW a ds) qGW
def ahJ{w:Nat}{rs:AU}{o:AA}{G:DH}{k:AT}{E:EK}(h:okB w rs)(q:rs⁻¹<=5)(J:∀p ks ds g,G p=none->g p=-(.dct ks ds)->Sa G g->WI rs⁻¹ ks ds->Nm (good w rs) rs⁻¹ o G g ks ds->k (.ref p) g):vD.t [aq w rs,aD o] G k E:=dH (w,rs,o) ⟨rfl,h,q⟩ λd g L=>by
 let(p,ks,ds,rfl,h1,h2,z,I,q):=L;exact J p ks ds g h1 h2 z I q
def ahK(Z:aj)(F:FGW Z)(a:Nat×AU×AA)(ds:AS)(G:DH)(h:pGW a ds):au Z Aj noE (env0 ds 7) G (ends (qGW a G)):=by
 let(w,rs,o):=a;let(rfl,hb,h5):=h;dsimp only at hb h5 ⊢;simp_all_arith[Aj];nofun;erw[F.first];show ahg hb ?_;simp only[BV];intro q0 hq0 p hp;have np0:q0≠p:=λe=>by rw[<-e,aY]at hp;cases hp
 show hM _ _ (kY hp λG1 g1 s1=>seq λM hM=>?_);have g0:G1 q0=-(stO []):=s1 _ _ aY;have hp:G p=none:=by
  cases e:G p with
  |none=>rfl
  |some o=>rw[Sa.new hq0 _ _ e]at hp;cases hp
 have s1:Sa G G1:=(Sa.new hq0).trans s1;erw[ends];intro q hq;show hM _ _ (kY hq λG2 g2 s2=>seq λM hM=>?_);simp_arith[ie (s2 _ _ g1),<-vA];have zq:G q=none:=by
  cases e:G q with
  |none=>rfl
  |some o=>rw[s1 _ _ e]at hq;cases hq
 have k0:isKey rs⁻¹ (aC (List.range rs⁻¹)):=⟨_,gV _,rfl⟩;have w0:WI rs⁻¹ [aC (List.range rs⁻¹)] [.ref q0]:=⟨ef.mpr ⟨dc,fT⟩,λk hk=>by rw[al.mp hk];exact k0,rfl⟩;have l0:lea (good w rs) rs⁻¹ [] (List.range rs⁻¹):=⟨.nil,λv v=>dA _⟩;have wg0:LW (good w rs) rs⁻¹ 0 G G2 none [aC (List.range rs⁻¹)] [.ref q0]:=LW.add (ks:=[]) (ds:=[]) (λi k hk=>by simp at hk) rfl ⟨[],q0,rfl,s2 _ _ g0,hq0,(λe=>nomatch e),l0,ar _,dA _⟩;have li0:LI (good w rs) rs⁻¹ 0 (λo=>aC o∈[aC (List.range rs⁻¹)]) (λo=>o∈[List.range rs⁻¹]):=by
  have z:∀st o,GP (good w rs) rs⁻¹ st o->st⁻¹<=0->o=List.range rs⁻¹:=λst o hg hs=>by
   rcases hg.last with⟨_,e⟩|⟨_,_,_,e,_⟩
   .exact e
   .rw[e,am,ca]at hs;lia
  exact⟨λst o hg hs=>by rw[z st o hg hs];exact al.mpr rfl,λo ho=>by rw[al.mp ho];exact⟨al.mpr rfl,[],l0,rfl⟩,λst o hl hs=>by rw[z st o hl.1 (!0)];exact al.mpr rfl⟩
 symm;simp_arith![ends];show⟨_,WhlG.inv (P:=λm Y G'=>∃ks ds kb db nw o5 o6 o7 o8,Y=[-(aq w rs),-(aD o),-(.ref p),-(.ref q),-(.lst (nw.map aD)),o5,o6,o7,o8]/\GI rs⁻¹ G G' p q ks ds kb db/\nwOk rs⁻¹ ks nw/\(∃t,LW (good w rs) rs⁻¹ t G G' none ks ds/\LI (good w rs) rs⁻¹ t (λo=>aC o∈ks) (λo=>o∈nw))/\(∀o,aC o∈kb->good w rs o=false)/\m=2*(4000-ks⁻¹)+nw.length.min 1) ?_ _ _ _ ⟨_,_,_,_,[List.range rs⁻¹],_,_,_,_,rfl,⟨s2 _ _ g1,g2,fT,(λk hk=>absurd hk dc),w0,s1.trans s2,hp,zq,λe=>by rw[<-e,g1]at hq;cases hq⟩,λx hx=>⟨by rw[al.mp hx];exact gV _,by rw[al.mp hx];exact al.mpr rfl⟩,⟨0,wg0,li0⟩,(λo ho=>absurd ho dc),rfl⟩⟩;rintro m Y G' ⟨ks,ds,kb,db,nw,o5,o6,o7,o8,rfl,hg,hn,⟨t,hwg,hli⟩,hbad,rfl⟩;have hend:(nw=[]\/aC o∈ks)->M [-(aq w rs),-(aD o),-(.ref p),-(.ref q),-(.lst (nw.map aD)),o5,o6,o7,o8] G':=λhz=>by
  ac_nf0;erw[ends];exact⟨p,ks,ds,rfl,hp,hg.gp,hg.sa,hg.w,⟨t,hwg⟩,hz.symm.imp id λe=>hli.done λo ho=>by rw[e]at ho;exact absurd ho dc⟩
 cases nw with
 |nil=>
  erw[List.isEmpty_nil];exact hend (.inl rfl)
 |cons o1 nw=>
  simp_arith![List.isEmpty_cons,ie hg.gp,pC,ahE];cases hin:(kIx ks (aC o)).isSome with
  |true=>
   simp only[Bool.not_true];exact hend (.inr (Cd hin))
  |false=>
   simp only[Bool.not_false];intro kk hk;nofun;erw[ends];show λr hr=>hM _ _ (kY hr λG3 g3 s3=>seq λM hM=>?_);let(nrp,nrq,zr):=hg.ne hr;have hwg3:LW (good w rs) rs⁻¹ (t+1) G G3 (-r) ks ds:=hwg.to (dk _) λq' l g nr=>⟨s3 _ _ g,λe=>by rw[<-cw e,hr]at g;cases g⟩;simp_arith![ends];show ForG.inv (P:=λi Y G'=>∃L ds' kb' db' fu o6 o7 o8,Y=[-(aq w rs),-(aD o),-(.ref p),-(.ref q),-(.lst (aD o1::nw.map aD)),-(.ref r),o6,o7,o8]/\GI rs⁻¹ G G' p q L ds' kb' db'/\nwOk rs⁻¹ L (o1::nw)/\G' r=-(.lst (fu.map aD))/\nwOk rs⁻¹ L fu/\LW (good w rs) rs⁻¹ (t+1) G G' (-r) L ds'/\TI (good w rs) rs⁻¹ t ks L kb' fu (λo j=>∃i'<i,(o1::nw)[i']?=-o)/\L⁻¹=ks⁻¹+fu⁻¹) ⟨_,_,_,_,[],_,_,_,rfl,hg.to s3,hn,g3,(λx hx=>absurd hx dc),hwg3,⟨λv h=>h,λv h=>.inl h,(λx hx=>absurd hx dc),hbad,λo j ⟨i',hi',_⟩=>absurd hi' (Nat.not_lt_zero _)⟩,rfl⟩ (λv v v v=>trivial) ?_ ?_
   .rintro i d Y G4 hd ⟨ks4,ds4,kb4,db4,fu4,o6,o7,o8,rfl,hg4,hn4,g4,hf4,hw4,ht4,hl4⟩ kk1 hk1;obtain⟨J,hat,rfl⟩:∃J,(o1::nw)[i]?=-J/\d=aD J:=by
     have:=hd;rw[<-bg (f:=aD),a8]at this;let(x,hx,e):=aT.mp this;exact⟨x,hx,e.symm⟩
    have hm:J∈o1::nw:=ck hat;have hho:=(hn4 J hm).1;have hhl:=hho.len;simp_arith![F.steps];show last ?_;simp_arith![F.steps];show ahB (!0) ?_;simp_arith![ends];show ForG.inv (P:=λjj Y G'=>∃L ds' kb' db' fu o7 o8,Y=[-(aq w rs),-(aD o),-(.ref p),-(.ref q),-(.lst (aD o1::nw.map aD)),-(.ref r),-(aD J),o7,o8]/\GI rs⁻¹ G G' p q L ds' kb' db'/\nwOk rs⁻¹ L (o1::nw)/\G' r=-(.lst (fu.map aD))/\nwOk rs⁻¹ L fu/\LW (good w rs) rs⁻¹ (t+1) G G' (-r) L ds'/\TI (good w rs) rs⁻¹ t ks L kb' fu (λo j=>(∃i'<i,(o1::nw)[i']?=-o)\/(o=J/\j<jj))/\L⁻¹=ks⁻¹+fu⁻¹) ⟨_,_,_,_,_,_,_,rfl,hg4,hn4,g4,hf4,hw4,ht4.mono (λo j v h=>h.elim .inl λz=>absurd z.2 (Nat.not_lt_zero _)),hl4⟩ (λv v v v=>trivial) ?_ ?_
    .rintro j d Y G5 hd ⟨O,U,kb5,db5,fu5,o7,o8,rfl,I,hn5,g5,hf5,hw5,N,hl5⟩ kk2 hk2;obtain⟨hj,rfl⟩:j+1<rs⁻¹/\d=.tup [.int (j:Int),aD (aM J j)]:=by
      unfold il at hd;rw[a8]at hd;let(x,hx,e):=aT.mp hd;let(hx1,hx2):=av.mp hx;rw[cp]at hx1;rw[List.getElem_range]at hx2;subst hx2;exact⟨!0,e.symm⟩
     have next:(good w rs (aM J j)=true->aC (aM J j)∈O)->TI (good w rs) rs⁻¹ t ks O kb5 fu5 (λo j'=>(∃i'<i,(o1::nw)[i']?=-o)\/(o=J/\j'<j+1)):=λhz=>N.mono λo' j' v hd=>by
      rcases hd with z|⟨rfl,z⟩
      .exact .inl (.inl z)
      .by_cases e:j'=j
       .rw[e];exact .inr hz
       .exact .inl (.inr ⟨rfl,!0⟩)
     have hok:=vo hho hj;have c5:=vB h5 I.w.nd I.w.ok;have b5:=vB h5 I.bn I.bk;have ky:isKey rs⁻¹ (aC (aM J j)):=⟨_,hok,rfl⟩;simp_arith![ends];nofun;simp_arith![ie I.gp,ie I.gq,pC,M8];cases hi1:(kIx O (aC (aM J j))).isSome with
     |true=>
      erw[ends];exact hk2 _ _ ⟨_,_,_,_,_,_,_,rfl,I,hn5,g5,hf5,hw5,next (λv=>Cd hi1),hl5⟩
     |false=>
      cases hi2:(kIx kb5 (aC (aM J j))).isSome with
      |true=>
       erw[ends];exact hk2 _ _ ⟨_,_,_,_,_,_,_,rfl,I,hn5,g5,hf5,hw5,next (λhz=>absurd (N.bad _ (Cd hi2)) (by rw[hz];exact Bool.noConfusion)),hl5⟩
      |false=>
       have n1:=BX hi1;have n2:=BX hi2;erw[ends];ac_nf0;simp_arith![F.good];show ahu hb hok ?_;cases hgd:good w rs (aM J j) with
       |true=>
        let(ix,hix):=BW (hn5 J hm).2;have hil:ix<U⁻¹:=by rw[I.w.len];exact(Nf hix).1
        let(_,est,st,qs,rfl,gs,_,nrs,hst,_,hl):=hw5.has hix;simp_arith![ends];nofun;simp_arith![ie I.gp,pC,M9];show bU hix (bU est ?_);let(lt,el,ht6):=N.add hli hm hst hj hgd n1;have es:DO.lst ((st.map λi:Nat=>D.int (i:Int))++[.int (j:Int)])=stO (st++[j]):=by unfold stO;rw[bB];rfl
        have eg:view G5 (.ref qs)=.lst (st.map λi:Nat=>D.int (i:Int)):=du gs;erw[eg,ag];rw[es];show⟨!1,by bv_omega,λqn hqn=>?_⟩;let(nqp,nqq,zqn):=I.ne hqn;have nqr:qn≠r:=λe=>by rw[e,g5]at hqn;cases hqn
        have gp5:(aK G5 qn (stO (st++[j]))) p=-(.dct O U):=by rw[bu nqp.symm];exact I.gp
        simp only[Nb,K4 gp5,Ng n1];show⟨by bv_omega,hM _ _ (last ?_)⟩;have gr6:(aK (aK G5 qn (stO (st++[j]))) p (.dct (O++[aC (aM J j)]) (U++[.ref qn]))) r=-(.lst (fu5.map aD)):=by rw[bu nrp,bu nqr.symm];exact g5
        erw[cJ gr6];have hkeep:∀q' l,G5 q'=-(.lst l)->-r≠some q'->(aK (aK (aK G5 qn (stO (st++[j]))) p (.dct (O++[aC (aM J j)]) (U++[.ref qn]))) r (.lst (fu5.map aD++[aD (aM J j)]))) q'=-(.lst l)/\some r≠some q':=λq' l g nr=>by
         show⟨?_,nr⟩;rw[bu (λe=>nr (by rw[e])),bu (λe=>by rw[e,I.gp]at g;cases g),bu (λe=>by rw[e,hqn]at g;cases g)];exact g
        show⟨by rw[ag];bv_omega,hk2 _ _ ⟨O++[aC (aM J j)],U++[.ref qn],kb5,db5,fu5++[aM J j],_,_,rfl,⟨by rw[bu nrp.symm,aY],by rw[bu nrq.symm,bu I.pq.symm,bu nqq.symm];exact I.gq,I.bn,I.bk,I.w.add n1 ky,((I.sa.then zqn Sb.upd).then I.zp Sb.upd).then zr Sb.upd,I.zp,I.zq,I.pq⟩,hn5.more,by rw[aY,bB];rfl,λx hx=>?_,LW.add (hw5.to (ar _) hkeep) I.w.len ⟨st++[j],qn,rfl,by rw[bu nqr,bu nqp,aY],zqn,(λe=>nqr (cw e).symm),lt,!0,by rw[am,ca];lia⟩,ht6.mono (λo' j' v hd=>?_),by rw[am,am];simp only[b4,gx];lia⟩⟩;rcases aE.mp hx with z|z
        .exact hf5.more x z
        .rw[al.mp z];exact⟨hok,ay _ (al.mpr rfl)⟩
        .rcases hd with z|⟨rfl,z⟩
         .exact .inl (.inl (.inl z))
         .by_cases e:j'=j
          .exact .inl (.inr ⟨rfl,e⟩)
          .exact .inl (.inl (.inr ⟨rfl,!0⟩))
       |false=>
        simp_arith![ends];show last ?_;erw[Nb,K4 I.gq,Ng n2];have npq:=I.pq;show⟨by bv_omega,hk2 _ _ ⟨O,U,kb5++[aC (aM J j)],db5++[.bl true],fu5,_,_,rfl,⟨by rw[bu npq];exact I.gp,aY,Nh I.bn n2,(λk hk=>?_),I.w,I.sa.then I.zq Sb.upd,I.zp,I.zq,I.pq⟩,hn5,by rw[bu nrq];exact g5,hf5,hw5.to (ar _) (λq' l g nr=>⟨by rw[bu (λe=>by rw[e,I.gq]at g;cases g)];exact g,nr⟩),(next (λhz=>by rw[hgd]at hz;cases hz)).badd hgd,hl5⟩⟩;rcases aE.mp hk with z|z
        .exact I.bk k z
        .rw[al.mp z];exact ky
    .rintro Y G5 ⟨O,U,kb5,db5,fu5,o7,o8,rfl,I,hn5,g5,hf5,hw5,N,hl5⟩;have hsl:(il J)⁻¹=rs⁻¹-1:=by unfold il;rw[ag,cp,hhl]
     show hk1 _ _ ⟨_,_,_,_,_,_,_,_,rfl,I,hn5,g5,hf5,hw5,N.mono (λo' j' hj' zZ=>?_),hl5⟩;let(i',hi',e'):=zZ;by_cases e:i'=i
     .subst e;rw[hat]at e';cases e';exact .inl (.inr ⟨rfl,!0⟩)
     .exact .inl (.inl ⟨i',!0,e'⟩)
   .rintro Y G5 ⟨O,U,kb5,db5,fu5,o6,o7,o8,rfl,I,hn5,g5,hf5,hw5,N,hl5⟩;ac_nf0;have c5:=vB h5 I.w.nd I.w.ok;erw[g5];show hk _ _ _ ?_ ⟨O,U,kb5,db5,fu5,_,_,_,_,rfl,⟨by rw[jB nrp.symm];exact I.gp,by rw[jB nrq.symm];exact I.gq,I.bn,I.bk,I.w,I.sa.frz zr,I.zp,I.zq,I.pq⟩,hf5,⟨t+1,hw5.to (ar _) (λq' l g nr=>⟨by rw[jB (λe=>nr (by rw[e]))];exact g,λe=>nomatch e⟩),hli.next (λo' ho'=>N.sub _ ho') ?_ N.fu N.new (λo' ho'=>?_)⟩,N.bad,rfl⟩;rotate_left
    .intro o' j hB hj hgd;let(i',hi',e'):=List.mem_iff_getElem.mp hB;exact N.dn o' j ⟨i',!!hi',by rw[ai hi',e']⟩ hj hgd
    .let(st,h1,h2):=hwg.of ho';exact⟨st,h1.1,h2⟩
    rw[hl5];have e1:(nw⁻¹+1).min 1=1:=g9 (!0);rw[e1];cases fu5 with
    |nil=>rw[gx];change _+0<_;lia
    |cons x y=>
     have e2:(x::y).length.min 1=1:=g9 (by rw[b4];lia);rw[e2];rw[hl5]at c5;rw[b4]at c5 ⊢;lia
def Np:AA:=[119,97,121]
def Nq:AA:=[97,112,97,114,116]
structure apQ(w:Nat)(rs:AU)(o:AA)(os:List (AA)):Prop where
 nd:os.Nodup
 ok:∀x∈os,okO rs.length x
 fst:List.range rs.length∈os
 no:o∉os
 len:os.length<=120
 cl:∀x∈os,∀j,j+1 < rs.length->good w rs (aM x j)=true->aM x j∈os
structure okWay(a:Nat×AU×AA):Prop where
 b:okB a.1 a.2.1
 o:okO a.2.1.length a.2.2
 w4:a.1<=4
 r5:a.2.1.length<=5
def Ce(w:Nat)(rs:AU)(o:AA)(G:DH)(d:D)(g:DH):Prop:=∃q,G q=none/\((∃st,d=.tup [.str Np,.ref q]/\g q=-(stO st)/\lea (good w rs) rs⁻¹ st o/\st⁻¹<=120/\(rs⁻¹<=4->st⁻¹<=24))\/(∃z,d=.tup [.str Nq,.ref q]/\g q=-(.lst (z.map aD))/\apQ w rs o z/\∀st,¬GP (good w rs) rs⁻¹ st o))
def vG:RF.Spec:=ghS (A:=Nat×AU×AA) (λa ds z=>ds=[aq a.1 a.2.1,aD a.2.2]/\okWay a) (λa G d g=>Sa G g/\Ce a.1 a.2.1 a.2.2 G d g)
def ahL{w:Nat}{rs:AU}{o:AA}{G:DH}{k:AT}{E:EK}(h:okWay (w,rs,o))(z:∀d g,Sa G g->Ce w rs o G d g->k d g):vG.t [aq w rs,aD o] G k E:=dH (w,rs,o) ⟨rfl,h⟩ λd g q=>z d g q.1 q.2
def Cg{G g:DH}{p:AQ}(s:Sa G g)(h:g p=none):G p=none:=by
 cases e:G p with
 |none=>rfl
 |some o=>rw[s _ _ e]at h;cases h
def ahM:∀n:Fin 5,(pF n.1 (aC (List.range n.1)))⁻¹<=24:=by ac_rfl
def ahN{n:Nat}{ks:AW}(hn:n<=4)(nd:ks.Nodup)(h:∀k∈ks,isKey n k):ks⁻¹<=24:=by
 show b3 (BZ nd λk q=>?_) (ahM ⟨n,!0⟩);let(o,g,rfl):=h k q;have e:(aC o)⁻¹=n:=by unfold aC;rw[ag,g.len]
 have:=Ca (aC o) (aC (List.range n)) (List.Perm.map _ g);rwa [e]at this
structure FWay(Z:aj):Prop where
 mov:Z "need_movable"=vh
 need:Z "need_order"=pB
 gw:Z "good_ways"=vD
def ahO(Z:aj)(F:FWay Z)(a:Nat×AU×AA)(ds:AS)(G:DH)(h:ds=[aq a.1 a.2.1,aD a.2.2]/\okWay a):au Z Ak noE (env0 ds 1) G (ends λd U=>Sa G U/\Ce a.1 a.2.1 a.2.2 G d U):=by
 let(w,rs,o):=a;let(rfl,O,ho,L,N):=h;dsimp only at O ho L N ⊢;simp_all_arith[Ak];nofun;erw[F.mov];show ahp O L N (hM _ _ (seq λM hM=>?_));erw[F.need];show M5 O ho (hM _ _ (seq λM hM=>?_));erw[F.gw];show ahJ O N λp ks ds U hp gp sa J wq=>hM _ _ (seq λM hM=>?_);let((t,wg),hcl):=wq;have hl:=vB N J.nd J.ok;simp_arith![ie gp,pC,M8];cases hi:kIx ks (aC o) with
 |some i=>
  let(d,Y,st,q,rfl,gq,zq,_,I,_,hsl):=wg.has hi;erw[Option.isSome_some,ie gp,pC,M9,hi];exact bU Y ⟨!1,sa,q,zq,.inl ⟨st,rfl,gq,I,!0,λL=>by have:=ahN L J.nd J.ok;lia⟩⟩
 |none=>
  erw[Option.isSome_none];ac_nf0;erw[ie gp];intro q hq;have z:aC o∉ks:=BX (by rw[hi];rfl);have g:=hcl.resolve_left z;let(os,rfl,hos):=Ni J.ok;rw[ag]at hl;show⟨!1,sa.trans (Sa.new hq),q,Cg sa hq,.inr ⟨os,rfl,?_,⟨ahH J.nd,hos,Nj (g _ _ .nil),λhm=>z (bP.mpr ⟨o,hm,rfl⟩),hl,λx hx j hj hg=>?_⟩,λst hg=>z (g _ _ hg)⟩⟩
  .rw[aY,<-ahI];rfl
  .let(st,I,_):=wg.of (bP.mpr ⟨x,hx,rfl⟩);exact Nj (g _ _ (.snoc I.1 hj hg))
def ahP{hs:AA}{j:Nat}(h:j+1<hs⁻¹):(aM hs j)[j]?=hs[j+1]?:=by have e:=BR h;unfold aM;rw[fk,dy (by rw[b6];lia),b6,Nat.min_eq_left (!0),Nat.sub_self,bi,ai h];rfl
def ahQ{hs:AA}{j a:Nat}(h:j+1<hs⁻¹)(g:a<=j):(aM hs j).take a=hs.take a:=by unfold aM;rw[fk,List.take_append_of_le_length (by rw[b6];lia),List.take_take,Nat.min_eq_left g]
def vH:RF.Spec:=ghS (A:=Nat×AA) (λa ds z=>ds=[aD a.2]/\okO a.1 a.2/\a.1<=4) (λa G d g=>Sa G g/\∃st:AA,d=.lst (st.map λi:Nat=>D.int (i:Int))/\(∀j∈st,j+1<a.1)/\wlk a.1 st=a.2/\st⁻¹<=16)
def Nr{n:Nat}{o:AA}{G:DH}{k:AT}{E:EK}(h:okO n o)(hn:n<=4)(z:∀(st:AA) g,Sa G g->(∀j∈st,j+1<n)->wlk n st=o->st⁻¹<=16->k (.lst (st.map λi:Nat=>D.int (i:Int))) g):vH.t [aD o] G k E:=dH (n,o) ⟨rfl,h,hn⟩ λd g I=>by
 let(s,st,rfl,h1,h2,q):=I;exact z st g s h1 h2 q
def ahR(n:Nat)(st:AA)(j:Nat):wlk n (st++[j])=aM (wlk n st) j:=by unfold wlk;rw[List.foldl_append];rfl
def Ci{n:Nat}{st:AA}(h:∀j∈st,j+1<n):okO n (wlk n st):=by
 have go:∀(st o:AA),okO n o->(∀j∈st,j+1<n)->okO n (st.foldl aM o):=by
  intro st;induction st with
  |nil=>intro o h _;exact h
  |cons j st z=>intro o h g;exact z _ (vo h (g j ba)) λx q=>g x (aS _ q)
 exact go st _ (gV _) h
def ahS{hs:AA}{j:Nat}(h:j+1<hs⁻¹):((hs.map λi:Nat=>D.int (i:Int)).set j (.int (hs.getD (j+1) 0:Nat))).set (j+1) (.int (hs.getD j 0:Nat))=(aM hs j).map λi:Nat=>D.int (i:Int):=by
 obtain⟨a,x,y,b,rfl,rfl⟩:∃a x y b,hs=a++x::y::b/\a⁻¹=j:=⟨_,_,_,_,BR h,by rw[b6];lia⟩;have g:(a++x::y::b).getD a⁻¹ 0=x:=by rw[bi,dy (ar _),Nat.sub_self];rfl
 have q:(a++x::y::b).getD (a⁻¹+1) 0=y:=by rw[bi,dy (!0),show a⁻¹+1-a⁻¹=1 by lia];rfl
 unfold aM;rw[g,q,List.take_left' rfl,fk,<-List.drop_drop,List.drop_left' rfl,bB,List.set_append_right _ _ (by rw[ag];exact ar _),ag,Nat.sub_self,bg,List.set_cons_zero,List.set_append_right _ _ (by rw[ag];lia),ag,show a⁻¹+1-a⁻¹=1 by lia,bB];rfl
structure PI(n a:Nat)(o hs st:AA)(p:Nat):Prop where
 w:hs=wlk n st
 j:∀j∈st,j+1 < n
 t:hs.take a=o.take a
 x:hs[p]?=o[a]?
 l:st.length<=4 * a+(n - p)
def PI.ok{n a p:Nat}{o hs st:AA}(h:PI n a o hs st p):okO n hs:=by rw[h.w];exact Ci h.j
def PI.step{n a p:Nat}{o hs st:AA}(h:PI n a o hs st (p+1))(I:p+1<n)(g:a<=p):PI n a o (aM hs p) (st++[p]) p:=by
 have hl:=h.ok.len;show⟨by rw[ahR,h.w],λj q=>?_,by rw[ahQ (!0) g];exact h.t,by rw[ahP (!0)];exact h.x,by rw[am,ca];have:=h.l;lia⟩;rcases aE.mp q with z|z
 .exact h.j j z
 .rw[al.mp z];exact I
def Nt{n j:Nat}(h:j<n):ixN n (j:Int)=-j:=by unfold ixN;simp;lia
def ahT{ds:AS}{i:Int}{G:DH}{k:AT}:jM (.lst ds) [.int i] G k=aR (aZ ds) (λns=>i∈ns/\k (.int (ns.idxOf i:Nat)) G):=by unfold jM aR;(try dsimp only)<;>(cases aZ ds<;>rfl)
def ahU(Z:aj)(a:Nat×AA)(ds:AS)(G:DH)(h:ds=[aD a.2]/\okO a.1 a.2/\a.1<=4):au Z Ai noE (env0 ds 4) G (ends λd L=>Sa G L/\∃st:AA,d=.lst (st.map λi:Nat=>D.int (i:Int))/\(∀j∈st,j+1<a.1)/\wlk a.1 st=a.2/\st⁻¹<=16):=by
 let(n,o):=a;let(rfl,ho,hn):=h;dsimp only at ho hn ⊢;have hol:=ho.len;have ed:aD o=.tup (o.map λi:Nat=>D.int (i:Int)):=rfl;simp_all_arith[Ai];nofun;rw[ed];simp_arith![ag,hol,bv];rw[<-ed];show⟨⟨!0,!0⟩,λq hq=>hM _ _ (kY hq λG1 g1 s1=>seq λM hM=>?_)⟩;simp_arith![ends];show λr hr=>hM _ _ (kY hr λG2 g2 s2=>seq λM hM=>?_);have hrq:r≠q:=λe=>by rw[e,g1]at hr;cases hr
 have zr:=Cg s1 hr;have eq0:aX 0 n=(List.range n).map λi:Nat=>D.int (i:Int):=by have:=vd n;unfold aD at this;exact D.tup.inj this
 rw[eq0]at g1;rw[ed];simp_arith![ag,hol];rw[<-ed];show⟨⟨!0,!0⟩,ForG.inv (P:=λa Y L=>(∃o3 o4,Y=[-(aD o),-(.ref q),-(.ref r),o3,o4])/\Sa G L/\∃hs st:AA,L q=-(.lst (hs.map λi:Nat=>D.int (i:Int)))/\L r=-(.lst (st.map λi:Nat=>D.int (i:Int)))/\hs=wlk n st/\(∀j∈st,j+1<n)/\hs.take a=o.take a/\st⁻¹<=4*a) ⟨⟨_,_,rfl⟩,s1.trans s2,List.range n,[],s2 _ _ g1,g2,rfl,(λj hj=>absurd hj dc),rfl,dA _⟩ (λv v v v=>trivial) ?_ ?_⟩
 .rintro a d Y G3 hd ⟨⟨o3,o4,rfl⟩,s3,hs,st,gq,gr,hw,hj,ht,hl⟩ kk hk;obtain⟨ha,rfl⟩:a<n/\d=.int (a:Int):=by
   unfold aX at hd;rw[a8]at hd;let(x,hx,e):=aT.mp hd;let(I,J):=av.mp hx;rw[cp,bv]at I;rw[List.getElem_range]at J;subst J;exact⟨I,by rw[<-e,Int.zero_add]⟩
  have N:okO n hs:=by rw[hw];exact Ci hj
  have hsl:=N.len;have hoa:o[a]?=-o[a]:=ai (!0);have hax:atI (o.map λi:Nat=>D.int (i:Int)) (a:Int)=-(.int (o[a]:Nat)):=bL (by rw[a8,hoa];rfl);simp_arith![ends];show last ?_;rw[ed];simp_arith![hax,uK];rw[<-ed];have ev:view G3 (.ref q)=.lst (hs.map λi:Nat=>D.int (i:Int)):=du gq;have U:((o[a]:Nat):Int)∈aC hs:=by unfold aC;exact bP.mpr ⟨o[a],(List.Perm.mem_iff N).mpr (ga.mpr (ho.mem (cq _))),rfl⟩
  show⟨by change xF (view G3 (.ref q));rw[ev];trivial,?_⟩;unfold opM;simp only[ev];rw[ahT,By,kW];show⟨U,?_⟩;have g:=List.idxOf_lt_length_iff.mpr U;have hig:=List.getElem_idxOf g;generalize (aC hs).idxOf ((o[a]:Nat):Int)=i0 at g hig;have hil':i0<hs⁻¹:=by unfold aC at g;rwa [ag]at g
  have hix:hs[i0]?=o[a]?:=by
   have O:(aC hs)[i0]?=-((o[a]:Nat):Int):=by rw[ai g,hig]
   unfold aC at O;rw[a8]at O;let(y,hy,e2):=aT.mp O;rw[hy,hoa];congr 1;lia
  have hai:a<=i0:=by
   by_cases c:a<=i0
   .exact c
   .have O:(hs.take a)[i0]?=hs[i0]?:=List.getElem?_take_of_lt (!0);have e2:(o.take a)[i0]?=o[i0]?:=List.getElem?_take_of_lt (!0);rw[ht,e2,hix,hoa,ai (show i0<o⁻¹ by lia)]at O;have nd:o.Nodup:=(List.Perm.nodup_iff ho).mpr List.nodup_range;exact absurd (cw O) (List.pairwise_iff_getElem.mp nd i0 a (!0) (!0) (!0))
  have ex:view G3 (.int (i0:Int))=.int (i0:Int):=rfl;have em:((i0:Int)-1-((a:Int)-1)).toNat=i0-a:=by lia
  simp_arith![em];show⟨⟨!0,!0,!0,!0⟩,?_⟩;show ForG.inv (P:=λk Y L=>(∃o4,Y=[-(aD o),-(.ref q),-(.ref r),-(.int (a:Int)),o4])/\Sa G L/\∃hs st:AA,L q=-(.lst (hs.map λi:Nat=>D.int (i:Int)))/\L r=-(.lst (st.map λi:Nat=>D.int (i:Int)))/\PI n a o hs st (i0-k)) ⟨⟨_,rfl⟩,s3,hs,st,gq,gr,⟨hw,hj,ht,hix,!0⟩⟩ (λv v v v=>trivial) ?_ ?_
  .rintro k d Y G4 hd ⟨⟨o4,rfl⟩,s4,hs,st,gq,gr,z⟩ kk1 hk1;obtain⟨hk0,rfl⟩:k<i0-a/\d=.int ((i0-1-k:Nat):Int):=by
    unfold fP at hd;rw[a8]at hd;let(x,hx,e):=aT.mp hd;let(I,J):=av.mp hx;rw[cp]at I;rw[List.getElem_range]at J;subst J;exact⟨I,by rw[<-e];congr 1;lia⟩
   obtain⟨p,hpk⟩:∃p,i0-1-k=p:=⟨_,rfl⟩;have hpe:i0-k=p+1:=by lia
   have hpe2:i0-(k+1)=p:=by lia
   rw[hpe]at z;rw[hpk];have hsl:=z.ok.len;have hstl:=z.l;simp_arith![ends];nofun;simp_arith![KY,cJ gr];show⟨by rw[ag];bv_omega,hM _ _ (last ?_)⟩;have O:(st.map λi:Nat=>D.int (i:Int))++[.int (p:Int)]=(st++[p]).map λi:Nat=>D.int (i:Int):=by rw[bB];rfl
   rw[O];have gq5:(aK G4 r (.lst ((st++[p]).map λi:Nat=>D.int (i:Int)))) q=-(.lst (hs.map λi:Nat=>D.int (i:Int))):=by rw[bu hrq.symm];exact gq
   have gr5:(aK G4 r (.lst ((st++[p]).map λi:Nat=>D.int (i:Int)))) r=-(.lst ((st++[p]).map λi:Nat=>D.int (i:Int))):=aY;have s5:Sa G (aK G4 r (.lst ((st++[p]).map λi:Nat=>D.int (i:Int)))):=s4.then zr Sb.upd;generalize aK G4 r (.lst ((st++[p]).map λi:Nat=>D.int (i:Int)))=G5 at gq5 gr5 s5;have hp1:p+1<hs⁻¹:=by lia
   have at1:atI (hs.map λi:Nat=>D.int (i:Int)) ((p:Int)+1)=-(.int (hs.getD (p+1) 0:Nat)):=bL (j:=p+1) (vq hp1);have at0:atI (hs.map λi:Nat=>D.int (i:Int)) (p:Int)=-(.int (hs.getD p 0:Nat)):=bL (vq (!0));simp_arith![du gq5,at1,at0,uK];show⟨by change(2:Nat)<=1000000;decide,?_⟩;rw[cJ gq5];show bU (Nt (by rw[ag];lia)) ?_;rw[cJ aY];show bU (a:=p+1) (Nt (j:=p+1) (by rw[eD,ag];lia)) ?_;have zq:=Cg (λv v h=>h) hq;show hk1 _ _ ⟨⟨_,rfl⟩,(s5.then hq Sb.upd).then hq Sb.upd,aM hs p,st++[p],by rw[aY,ahS hp1],by rw[bu hrq,bu hrq];exact gr5,?_⟩;rw[hpe2];exact z.step (!0) (!0)
  .rintro Y G4 ⟨⟨o4,rfl⟩,s4,hs,st,gq,gr,z⟩;have e0:i0-(fP ((i0:Int)-1) (i0-a))⁻¹=a:=by unfold fP;rw[ag,cp];lia
   rw[e0]at z;have hl:=z.l;exact hk _ _ ⟨⟨_,_,rfl⟩,s4,hs,st,gq,gr,z.w,z.j,by rw[eM,eM,z.t,z.x],!0⟩
 .rintro Y G3 ⟨⟨o3,o4,rfl⟩,s3,hs,st,gq,gr,hw,hj,ht,hl⟩;have en:(aX 0 n)⁻¹=n:=by unfold aX;rw[ag,cp]
  have N:okO n hs:=by rw[hw];exact Ci hj
  ac_nf0;erw[gr];show⟨s3.frz zr,st,rfl,hj,?_,?_⟩
  .rw[<-hw];have el:(aX 0 (n:Int).toNat)⁻¹=n:=by rw[bv];exact en
   rw[el,eK (by rw[N.len];exact ar _),eK (by rw[hol];exact ar _)]at ht;exact ht
  .have el:(aX 0 (n:Int).toNat)⁻¹=n:=by rw[bv];exact en
   rw[el]at hl;lia
def ahV{rs:AU}{m:Nat}(h:m+1<rs⁻¹):∃A a b C,rs=A++a::b::C/\A⁻¹=m:=by show⟨rs.take m,rs[m],rs[m+1],rs.drop (m+2),?_,by rw[b6];lia⟩;rw[<-br h,<-br (show m<rs⁻¹ by lia),gX]
def ahW{rs:AU}{m:Nat}(h:m+1<rs⁻¹):mvR rs (m+1) m=swp rs m:=by
 let(A,a,b,C,rfl,rfl):=ahV h;unfold mvR ji wo swp;simp[List.take_append,List.drop_append,List.getElem?_append];have J:A.take (A⁻¹+1)=A:=eK (!0);have g:A.drop (A⁻¹+1)=[]:=e7 (!0);have q:A.drop (A⁻¹+1+1)=[]:=e7 (!0);have z:A.drop (A⁻¹+2)=[]:=e7 (!0);have I:A⁻¹+1+1-A⁻¹=2:=by lia
 simp[J,g,q,z,I]
def ahX{q:AQ}{w n p:Nat}{as:List (AU)}{rs:AU}{G:DH}{k:AT}{E:EK}(J:svG ⟨q,w,as,rs⟩ G)(g:as⁻¹<50)(hn:n<rs⁻¹)(I:p<rs⁻¹)(z:k (tld w rs (mvR rs n p)) (aK G q (.lst (stk w (as++[rs]++[mvR rs n p]))))):u9.t [oS q,.int (n:Nat),.int (p:Nat)] G k E:=dH (⟨⟨q,w,as,rs⟩,n,p⟩:MovS) ⟨rfl,J,g,hn,I⟩ λd N L=>by
 let(rfl,rfl):=L;exact z
def ahY {q:AQ}:jO "Sieve" "move" (.obj "Sieve" "books" q):=⟨rfl,by ac_rfl⟩
def mvs(rs:AU)(st:AA):AU:=st.foldl swp rs
def tells(w:Nat):AU->AA->AS
 |_,[]=>[]
 |rs,j::st=>tld w rs (swp rs j)::tells w (swp rs j) st
def ahZ(rs:AU)(st:AA)(j:Nat):mvs rs (st++[j])=swp (mvs rs st) j:=by unfold mvs;rw[List.foldl_append];rfl
def Cj(w:Nat)(j:Nat):∀(st:AA)(rs:AU),tells w rs (st++[j])=tells w rs st++[tld w (mvs rs st) (swp (mvs rs st) j)]
 |[],rs=>rfl
 |i::st,rs=>by rw[List.cons_append,tells,tells,Cj w j st];rfl
def Nu{rs:AU}{j:Nat}(h:j+1<rs⁻¹):(swp rs j)⁻¹=rs⁻¹:=by unfold swp;rw[am,am,b6,de];simp only[b4,gx];lia
def Ck{w:Nat}:∀{st:AA}{rs:AU},okB w rs->(∀j∈st,j+1<rs⁻¹)->okB w (mvs rs st)/\(mvs rs st)⁻¹=rs⁻¹
 |[],rs,h,_=>⟨h,rfl⟩
 |j::st,rs,h,hj=>by
  have h1:=hj j ba;have:=Ck (st:=st) (agW h h1) λx g=>by rw[Nu h1];exact hj x (aS _ g)
  rw[Nu h1]at this;exact this
def Cm(L:AS)(G:DH)(d:D):Prop:=d=.lst L\/∃q,d=.ref q/\G q=-(.lst L)
def vI:RF.Spec:=ghS (A:=Nat×AU×AA) (λa ds G=>∃d,ds=[aq a.1 a.2.1,d]/\Cm (a.2.2.map λi:Nat=>D.int (i:Int)) G d/\okB a.1 a.2.1/\(∀j∈a.2.2,j+1<a.2.1⁻¹)/\a.2.2⁻¹<=40) (λa G d g=>Sa G g/\d=.tup [aq a.1 (mvs a.2.1 a.2.2),.lst (tells a.1 a.2.1 a.2.2)])
def Cp{w:Nat}{rs:AU}{st:AA}{d:D}{G:DH}{k:AT}{E:EK}(z:Cm (st.map λi:Nat=>D.int (i:Int)) G d)(q:okB w rs)(I:∀j∈st,j+1<rs⁻¹)(hl:st⁻¹<=40)(J:∀g,Sa G g->k (.tup [aq w (mvs rs st),.lst (tells w rs st)]) g):vI.t [aq w rs,d] G k E:=dH (w,rs,st) ⟨d,rfl,z,q,I,hl⟩ λd g L=>by
 let(s,rfl):=L;exact J g s
def ah0 (Z:aj) (h1:Z "Sieve"=pA) (h2:Z "Sieve.move"=u9) (h3:Z "Sieve.book"=kO) (a:Nat×AU×AA) (ds:AS) (G:DH) (h:∃d,ds=[aq a.1 a.2.1,d]/\Cm (a.2.2.map λi:Nat=>D.int (i:Int)) G d/\okB a.1 a.2.1/\(∀j∈a.2.2,j+1<a.2.1⁻¹)/\a.2.2⁻¹<=40):au Z Al noE (env0 ds 2) G (ends λd I=>Sa G I/\d=.tup [aq a.1 (mvs a.2.1 a.2.2),.lst (tells a.1 a.2.1 a.2.2)]):=by
 let(w,rs,st):=a;let(d,rfl,hd,hb,hj,hl):=h;dsimp only at hd hb hj hl ⊢;simp_all_arith[Al];nofun;simp_arith![h1];show ahc hb λz hz=>hM _ _ (kY hz λG1 g1 s1=>seq λM hM=>?_);have hit:∃g:Hld,itemsOf G1 d=-(st.map λi:Nat=>D.int (i:Int),g)/\∀I,(∀q o,q≠z->G1 q=-o->I q=-o)->held g I:=by
  rcases hd with rfl|⟨q,rfl,gq⟩
  .exact ⟨[],rfl,λy y=>trivial⟩
  .have gq1:=s1 _ _ gq;show⟨[(q,_)],by simp only[itemsOf,gq1],λI L=>⟨L q _ (λe=>by rw[e,hz]at gq;cases gq) gq1,trivial⟩⟩
 let(g,hit,U):=hit;simp_arith![h2,hit];show CompG.inv (P:=λi J Y I=>(∃x,Y=[x,-(oS z)])/\(∀q o,q≠z->G1 q=-o->I q=-o)/\∃as,I z=-(.lst (stk w (as++[mvs rs (st.take i)])))/\as⁻¹=i/\J=tells w rs (st.take i)) ⟨⟨_,rfl⟩,λy y y h=>h,[],g1,rfl,rfl⟩ ?_ ?_ ?_ ?_
 .rintro _ _ _ I ⟨_,L,_⟩;exact U I L
 .rw[ag];bv_omega
 .rintro i d J Y G2 hd ⟨⟨x,rfl⟩,L,as,gz,N,rfl⟩ kk hk;rw[a8]at hd;let(j,hjx,rfl):=aT.mp hd;have hji:=hj j (ck hjx);have hil:=(av.mp hjx).1;let(O,hl2):=Ck (st:=st.take i) hb λx hx=>hj x (gc hx);have enx:st.take (i+1)=st.take i++[j]:=by rw[eM,hjx];rfl
  simp_arith![h2];show⟨ahY,ahX (n:=j+1) (rs:=mvs rs (st.take i)) (as:=as) ⟨gz,by change as⁻¹<1000;lia,O⟩ (!0) (!0) (!0) ?_⟩;rw[ahW (!0)];show hk _ _ _ ⟨⟨_,rfl⟩,λq o hq h=>by rw[bu hq];exact L q o hq h,as++[mvs rs (st.take i)],?_,by rw[am,N];rfl,?_⟩
  .rw[aY,enx,ahZ]
  .rw[enx,Cj];rfl
 .rintro J Y G2 ⟨⟨x,rfl⟩,L,as,gz,N,rfl⟩;rw[ag]at N gz ⊢;rw[fw]at gz ⊢;let(O,hl2):=Ck (st:=st) hb hj;ac_nf0;simp_arith![h3];show⟨jh,jg ⟨gz,by change as⁻¹<1000;lia,O⟩ ?_⟩;have sa:Sa G G2:=λq o h=>L q o (λe=>by rw[e,hz]at h;cases h) (s1 _ _ h);exact⟨!1,sa,rfl⟩
def x1B:Sx:=.asg (.nm 1) (.call "counts" (.cons (.var 0) .nil))
def ah1 (Z:aj) (h:Z "counts"=oY) {w:Nat} {rs:AU} {G:DH} {D':En} (z:okB w rs) (I:∀q g,G q=none->g q=-(.lst (kI w rs))->Sa G g->D'.nx [-(aq w rs),-(.ref q),none,none,none] g):wpS Z x1B noE (env0 [aq w rs] 4) G D':=by simp_all_arith[x1B];erw[h];exact agG z λq g a b c=>I q g a b c
def fY(g:List (AA×Int))(d:AA):Int:=((g.find? λp=>decide (p.1=d)).map (·.2)).getD 0
def fK(g:List (AA×Int))(d:AA)(x:Int):List (AA×Int):=if(g.any λp=>decide (p.1=d))=true then g.map (λp=>if p.1=d then(p.1,x) else p) else g++[(d,x)]
def bK(p:AA×Int):Key×V:=(Sum.inr (tx p.1),V.int p.2)
def Cq(d:AA):∀g:List (AA×Int),bA (g.map bK) (Sum.inr (tx d))=(g.find? λp=>decide (p.1=d)).map λp=>V.int p.2
 |[]=>rfl
 |p::g=>by
  rw[bg];by_cases h:p.1=d
  .rw[dM (show(bK p).1=Sum.inr (tx d) by unfold bK;rw[h]),fI,cf h];rfl
  .rw[dN (show¬(bK p).1=Sum.inr (tx d) from λe=>h (iw (Sum.inr.inj e))),fI,bX h];exact Cq d g
def Cr(g:List (AA×Int))(d:AA):(bA (g.map bK) (Sum.inr (tx d))).getD (.int 0)=.int (fY g d):=by rw[Cq];unfold fY;cases g.find? λp=>decide (p.1=d)<;>rfl
def Nv(g:List (AA×Int))(d:AA)(x:Int):putD (g.map bK) (Sum.inr (tx d)) (.int x)=(fK g d x).map bK:=by
 have q:((g.map bK).any λp=>decide (p.1=Sum.inr (tx d)))=g.any λp=>decide (p.1=d):=by
  rw[List.any_map];congr 1;funext p;change decide (Sum.inr (tx p.1)=(Sum.inr (tx d):Key))=decide (p.1=d);by_cases h:p.1=d
  .rw[h];simp
  .rw[bX h,bX λe=>h (iw (Sum.inr.inj e))]
 unfold putD fK;rw[q];split
 .rw[cm,cm];show c9 λp z=>?_;change(if Sum.inr (tx p.1)=(Sum.inr (tx d):Key) then _ else _)=bK (if p.1=d then(p.1,x) else p);by_cases h:p.1=d
  .rw[if_pos (by rw[h]),if_pos h];rfl
  .rw[if_neg λe=>h (iw (Sum.inr.inj e)),if_neg h]
 .rw[bB];rfl
def ah2(g:List (AA×Int))(d:AA)(x:Int):(fK g d x)⁻¹<=g⁻¹+1:=by unfold fK;split<;>simp
def ah3(g:List (AA×Int))(d:AA)(x:Int)(h:(g.map (·.1)).Nodup):((fK g d x).map (·.1)).Nodup:=by
 unfold fK;split
 .rw[cm];have:g.map ((·.1)∘λp=>if p.1=d then(p.1,x) else p)=g.map (·.1):=c9 λp y=>by change(if p.1=d then(p.1,x) else p).1=p.1;split<;>rfl
  rw[this];exact h
 .rename_i hn;rw[bB];show List.nodup_append.mpr ⟨h,!2,λa q b z=>?_⟩;have:b=d:=by simpa using z
  subst this;rintro rfl;let(p,I,e):=bP.mp q;exact hn (List.any_eq_true.mpr ⟨p,I,cf e⟩)
def ah4(q:List (AA×Int))(d e:AA)(x:Int):fY (fK q d x) e=if e=d then x else fY q e:=by
 have h:=Yl (q.map bK) (Sum.inr (tx d)) (Sum.inr (tx e)) (.int x);rw[Nv]at h;have h':=eS (λo=>o.getD (V.int 0)) h;rw[Cr]at h';by_cases g:e=d
 .rw[if_pos g];rw[if_pos (by rw[g])]at h';exact V.int.inj h'
 .rw[if_neg g];rw[if_neg λz=>g (iw (Sum.inr.inj z)),Cr]at h';exact V.int.inj h'
def byU(rs:AU)(m:Nat->Int):Nat->List (AA×Int)
 |0=>[]
 |i+1=>match rs[i]? with
  |some r=>fK (byU rs m i) r.2 (fY (byU rs m i) r.2+m i)
  |none=>byU rs m i
def Nx{rs:AU}{m:Nat->Int}{i:Nat}{r:Row}(h:rs[i]?=-r):byU rs m (i+1)=fK (byU rs m i) r.2 (fY (byU rs m i) r.2+m i):=by rw[byU,h]
def Cu(rs:AU)(m:Nat->Int):∀i,(byU rs m i)⁻¹<=i
 |0=>ar _
 |i+1=>by
  have g:=Cu rs m i;unfold byU;split
  .exact b3 (ah2 _ _ _) (!0)
  .omega
def Cv(rs:AU)(m:Nat->Int):∀i,((byU rs m i).map (·.1)).Nodup
 |0=>fT
 |i+1=>by
  unfold byU;split
  .exact ah3 _ _ _ (Cv rs m i)
  .exact Cv rs m i
def kZ(w:Nat)(rs:AU)(k:Nat):Nat:=(cj (List.replicate w 42)).countP λl=>atN rs (bC rs l)==k
def byF(w:Nat)(rs:AU):List (AA×Int):=byU rs (λk=>(kZ w rs k:Int)) rs⁻¹
def byP(w:Nat)(rs:AU):List (AA×Int):=(byF w rs).filter λp=>decide (0<p.2)
def lg(L:List (AA×Int)):Prop:=L.Pairwise λa b=>a.1<b.1
def byD(L:List (AA×Int)):D:=.lst (L.map λp=>.tup [.str p.1,.int p.2])
def pG:RF.Spec:=ghS (A:=Nat×AU) (λa ds z=>ds=[aq a.1 a.2]/\okB a.1 a.2) (λa G d g=>Sa G g/\∃L,d=byD L/\L.Perm (byP a.1 a.2)/\lg L)
def ah5{g:List (AA×Int)}{d:AA}{x:Int}{p:AA×Int}(h:p∈fK g d x):p.1=d\/∃q∈g,q.1=p.1:=by
 unfold fK at h;split at h
 .let(q,z,rfl):=bP.mp h;split
  .rename_i e;exact .inl e
  .exact .inr ⟨q,z,rfl⟩
 .rcases aE.mp h with h|h
  .exact .inr ⟨p,h,rfl⟩
  .rw[al.mp h];exact .inl rfl
def Cw{rs:AU}{m:Nat->Int}:∀{i:Nat}{p:AA×Int},p∈byU rs m i->∃r∈rs,p.1=r.2
 |0,_,h=>nomatch h
 |i+1,p,h=>by
  unfold byU at h;split at h
  .rename_i r J;rcases ah5 h with e|⟨q,I,e⟩
   .exact ⟨r,ck J,e⟩
   .let(L,g,z):=Cw I;exact⟨L,g,e ▸ z⟩
  .exact Cw h
def ah6{w:Nat}{rs:AU}{p:AA×Int}(h:p∈byF w rs):∃r∈rs,p.1=r.2:=Cw h
def vJ(w:Nat)(rs:AU):((byF w rs).map (·.1)).Nodup:=Cv _ _ _
def ah7(w:Nat)(rs:AU):(byF w rs)⁻¹<=rs⁻¹+1:=b3 (Cu _ _ _) (dk _)
structure Co(K:PF)(H1 Hc:Hp)(F:FZ)(G:DH)(p:AQ):Prop where
 r:R K Hc F G
 x:Ext H1 F Hc F
 n:Hc p=none
def Co.new{K:PF}{H1 g:Hp}{F:FZ}{G:DH}{p T:AQ}{o:HO}(c:Co K H1 g F G p)(h:g T=none)(q:T≠p):Co K H1 (upd g T o) F G p:=⟨c.r.new h,c.x.trans (cA c.r h),by rw[aA (Ne.symm q)];exact c.n⟩
def Ny{H:Hp}{p T:AQ}{o u:HO}(h:T≠p):upd (upd H p o) T u=upd (upd H T u) p o:=by
 funext b;unfold upd;by_cases h1:b=T
 .subst h1;rw[if_pos rfl,if_neg h,if_pos rfl]
 .rw[if_neg h1];by_cases h2:b=p
  .rw[if_pos h2,if_pos h2]
  .rw[if_neg h2,if_neg h2,if_neg h1]
def TB(g:Hp)(bs:List AQ)(ks:List (AA×Int)):Prop:=bs⁻¹=ks⁻¹/\∀(j:Nat)(b:AQ)(k:AA×Int),bs[j]?=-b->ks[j]?=-k->g b=-(.tup [.str (tx k.1),.int k.2])
def TB.new{z:Hp}{bs:List AQ}{ks:List (AA×Int)}{T:AQ}{k:AA×Int}(t:TB z bs ks)(h:z T=none):TB (upd z T (.tup [.str (tx k.1),.int k.2])) (bs++[T]) (ks++[k]):=by
 show⟨by simp[t.1],λj b k' g q=>?_⟩;by_cases J:j<bs⁻¹
 .rw[da J]at g;rw[da (by rw[<-t.1];exact J)]at q;have:=t.2 j b k' g q;rw[aA (aU this h)];exact this
 .rw[dy (!0)]at g;rw[dy (by rw[<-t.1];lia)]at q;have I:=(av.mp g).1;have:j-bs⁻¹=0:=by simp at I;lia
  rw[this]at g;rw[<-t.1,this]at q;cases g;cases q;exact bj
def TB.reps{K:PF}{H:Hp}{F:FZ}{bs:List AQ}{ks:List (AA×Int)}(t:TB H bs ks)(q:∀k∈ks,k.1⁻¹<=sz):∀ps:AA,(∀i∈ps,i<ks⁻¹)->Reps K H F ((ps.map λi=>ks.getD i ([],0)).map λp=>.tup [.str p.1,.int p.2]) (ps.map λi=>V.ref (bs.getD i 0))
 |[],_=>rfl
 |i::ps,h=>by
  have hi:=h i ba;have g:i<bs⁻¹:=by rw[t.1];exact hi
  show Reps.cons ?_ (TB.reps t q ps λj J=>h j (aS _ J));have z:bs.getD i 0=bs[i]:=by simp[g]
  have I:ks.getD i ([],0)=ks[i]:=by simp[hi]
  change Rep K H F (.tup [.str (ks.getD i ([],0)).1,.int (ks.getD i ([],0)).2]) (.ref (bs.getD i 0));rw[z,I];exact⟨_,_,rfl,⟨t.2 i _ _ (ai g) (ai hi)⟩,Reps.cons ⟨rfl,q _ (cq _)⟩ (Reps.cons rfl rfl)⟩
def find_key{q:List (AA×Int)}(hn:(q.map (·.1)).Nodup):∀{i:Nat}{g:AA×Int},q[i]?=-g->q.find? (λp=>decide (p.1=g.1))=-g:=by
 induction q with
 |nil=>intro i g h;simp at h
 |cons a q I=>
  intro i g h;rw[bg,ef]at hn;rw[fI];cases i with
  |zero=>cases h;simp
  |succ i=>
   have h':q[i]?=-g:=by simpa using h
   have z:¬a.1=g.1:=λe=>hn.1 (e ▸ List.mem_map_of_mem (ck h'));rw[bX z];exact I hn.2 h'
def ah8{w:Nat}{rs:AU}{i:Nat}{g:AA×Int}(h:(byF w rs)[i]?=-g):bA ((byF w rs).map bK) (Sum.inr (tx g.1))=-(.int g.2):=by rw[Cq,find_key (vJ w rs) h];rfl
def ah9(l:AA):(tx l).cps.toList=l:=by simp
def aia{g:Type}(ks:List g)(x:g):(List.range ks⁻¹).map (λi=>ks.getD i x)=ks:=List.ext_getElem (!2) λi h1 h2=>by simp[h2]
def aib{ks:List (AA×Int)}{ps:AA}(I:ps.Perm (List.range ks⁻¹))(h:ps.Pairwise λi j=>PyProof.Rows.kLt (ks.map λp=>(tx p.1,p.2)) i j=true):lg (ps.map λi=>ks.getD i ([],0)):=by
 unfold lg;rw[List.pairwise_map];show h.imp_of_mem λ{i j} hi J z=>?_;have g:i<ks⁻¹:=by have:=I.mem_iff.mp hi;simpa using this
 have q:j<ks⁻¹:=by have:=I.mem_iff.mp J;simpa using this
 rw[PyProof.Rows.kLt_at (!!g) (!!q)]at z;have:=df z;simp only[List.getElem_map,ah9]at this;simpa [g,q] using this
def Nz{g:Type}(p q r:g->Bool):∀l:List g,(∀x∈l,r x=(p x||q x)/\(p x&&q x)=false)->l.countP r=l.countP p+l.countP q
 |[],_=>rfl
 |x::l,h=>by
  have L:=Nz p q r l λy J=>h y (aS _ J);let(h1,h2):=h x ba;rw[List.countP_cons,List.countP_cons,List.countP_cons,L,h1];cases z:p x<;>cases I:q x<;>simp[z,I]at h2 ⊢<;>lia
def upTo(rs:AU)(d:AA)(i:Nat)(l:AA):Bool:=match bC rs l with
 |some k=>decide (k<i)&&decide ((rs[k]?.map (·.2))=-d)
 |none=>false
def Cy{w:Nat}{rs:AU}(d:AA):∀i,i<=rs⁻¹->fY (byU rs (λk=>(kZ w rs k:Int)) i) d=(((cj (List.replicate w 42)).countP (upTo rs d i):Nat):Int)
 |0,_=>by
  have:(cj (List.replicate w 42)).countP (upTo rs d 0)=0:=List.countP_eq_zero.mpr λl y=>by unfold upTo;cases bC rs l<;>simp
  rw[this];rfl
 |i+1,hi=>by
  have I:rs[i]?=-rs[i]:=ai hi;rw[Nx I,ah4];have L:=Cy (w:=w) (rs:=rs) d i (!0);have q:∀l,(atN rs (bC rs l)==i)=decide (bC rs l=-i):=λl=>by
   cases J:bC rs l with
   |none=>change((rs⁻¹==i):Bool)=_;rw[cS.mpr (!0)];simp
   |some k=>change((k==i):Bool)=_;by_cases g:k=i<;>simp[g]
  by_cases z:d=rs[i].2
  .rw[if_pos z,<-z,L];have:=Nz (upTo rs d i) (λl=>atN rs (bC rs l)==i) (upTo rs d (i+1)) (cj (List.replicate w 42)) λl y=>by
    rw[q];unfold upTo;cases J:bC rs l with
    |none=>simp
    |some k=>
     dsimp only;by_cases g:k=i
     .subst g;rw[I];simp[z]
     .have:decide (k<i+1)=decide (k<i):=by simp;lia
      rw[this];simp[g]
   rw[this];unfold kZ;lia
  .rw[if_neg z,L];congr 1;show List.countP_congr λl y=>?_;unfold upTo;cases J:bC rs l with
   |none=>rfl
   |some k=>
    dsimp only;by_cases g:k=i
    .subst g;rw[I];simp[Ne.symm z]
    .have:decide (k<i+1)=decide (k<i):=by simp;lia
     rw[this]
def NK{rs:AU}{d l:AA}:upTo rs d rs⁻¹ l=decide (bW rs (bC rs l)=-d):=by
 unfold upTo bW;cases q:bC rs l with
 |none=>rfl
 |some k=>
  have g:k<rs⁻¹:=afZ q;simp[g,ai g]
def NP{w:Nat}{rs:AU}{p:AA×Int}:p∈byP w rs↔0<p.2/\fY (byF w rs) p.1=p.2:=by
 unfold byP;rw[fA];constructor
 .rintro ⟨h1,h2⟩;let(i,hi):=List.getElem?_of_mem h1;show⟨!!h2,?_⟩;unfold fY;rw[find_key (vJ w rs) hi];rfl
 .rintro ⟨h1,h2⟩;show⟨?_,!!h1⟩;unfold fY at h2;cases g:(byF w rs).find? λq=>decide (q.1=p.1) with
  |none=>rw[g]at h2;simp at h2;lia
  |some q=>
   rw[g]at h2;have z:q.2=p.2:=h2;have I:q.1=p.1:=by simpa using List.find?_some g
   have:q=p:=Prod.ext I z;rw[<-this];exact List.mem_of_find?_eq_some g
def NT(w:Nat)(rs:AU):(byP w rs).Nodup:=by have h:((byP w rs).map (·.1)).Nodup:=(vJ w rs).sublist (List.Sublist.map _ List.filter_sublist);exact List.Pairwise.of_map (S:=(·≠·)) (·.1) (λa b h e=>h (by rw[e])) h
def aic{w:Nat}{rs g:AU}(h:bJ w rs g=[]):(byP w rs).Perm (byP w g):=by
 rw[List.perm_ext_iff_of_nodup (NT _ _) (NT _ _)];intro p;rw[NP,NP];unfold byF;rw[Cy p.1 rs⁻¹ (ar _),Cy p.1 g⁻¹ (ar _)];have:(cj (List.replicate w 42)).countP (upTo rs p.1 rs⁻¹)=(cj (List.replicate w 42)).countP (upTo g p.1 g⁻¹):=List.countP_congr λl hl=>by
  rw[NK,NK];unfold bJ at h;have:=gT.mp h l hl;have e:bW rs (bC rs l)=bW g (bC g l):=by simpa using this
  rw[e]
 rw[this]
def aid{w:Nat}{rs g:AU}{L M:List (AA×Int)}(h:bJ w rs g=[])(h1:L.Perm (byP w rs))(h2:lg L)(q:M.Perm (byP w g))(z:lg M):L=M:=
 List.Perm.eq_of_pairwise (le:=λa b:AA×Int=>a.1<b.1) (λa b v v x y=>absurd y (List.lt_asymm x)) h2 z (h1.trans ((aic h).trans q.symm))
def NZ{w:Nat}{rs:AU}{G:DH}{k:AT}{E:EK}(h:okB w rs)(q:∀L g,L.Perm (byP w rs)->lg L->Sa G g->k (byD L) g):pG.t [aq w rs] G k E:=
 dH (w,rs) ⟨rfl,h⟩ λd g zZ=>by let(sa,L,e,h1,h2):=zZ;subst e;exact q L g h1 h2 sa
def aie(L:List (AA×Int)):nrs (L.map λp=>D.tup [.str p.1,.int p.2])=true:=uJ λd g=>by let(_,_,rfl):=bP.mp g;rfl
def aif(L:List (AA×Int)):aW (L.map λp=>D.tup [.str p.1,.int p.2])<=3:=KN λd g=>by let(_,_,rfl):=bP.mp g;exact Nat.le_of_ble_eq_true rfl
def jk{w:Nat}{rs g:AU}:bJ w rs g=[]↔∀l∈cj (List.replicate w 42),bW rs (bC rs l)=bW g (bC g l):=by unfold bJ;rw[gT];exact⟨λh l hl=>by simpa using h l hl,λh l hl=>by simpa using h l hl⟩
def aig{w:Nat}{rs g ts:AU}(h1:bJ w rs g=[])(h2:bJ w rs ts=[]):bJ w g ts=[]:=jk.mpr λl hl=>(jk.mp h1 l hl).symm.trans (jk.mp h2 l hl)
def aih{w:Nat}{rs g ts:AU}(h1:bJ w rs g=[])(h2:bJ w g ts=[]):bJ w rs ts=[]:=jk.mpr λl hl=>(jk.mp h1 l hl).trans (jk.mp h2 l hl)
def Cz(rs:AU):byR rs (List.range rs⁻¹)=rs:=by unfold byR;show List.ext_getElem (by rw[ag,cp]) λi h1 h2=>?_;rw[List.getElem_map,List.getElem_range,bi,ai h2];rfl
def CG{w:Nat}{rs:AU}{o:AA}:good w rs o=true↔bJ w rs (byR rs o)=[]:=by unfold good;rw[e9]
def CJ{w:Nat}{rs:AU}{st o:AA}(h:GP (good w rs) rs⁻¹ st o):bJ w rs (byR rs o)=[]:=by
 rcases h.last with⟨_,rfl⟩|⟨_,_,_,_,_,_,_,g⟩
 .rw[Cz];exact jk.mpr λz z=>rfl
 .exact CG.mp g
def CN{rs:AU}{o:AA}{j:Nat}(h:j+1<o⁻¹):byR rs (aM o j)=swp (byR rs o) j:=by
 have g:∀i,i<o⁻¹->(byR rs o).getD i ([],[])=rs.getD (o.getD i 0) ([],[]):=λi hi=>by
  unfold byR;rw[bi,a8,ai hi,bi (l:=o),ai hi];rfl
 unfold swp;rw[g (j+1) h,g j (!0)];unfold byR aM;rw[bB,bB,List.map_take,List.map_drop];rfl
def N5{n:Nat}{rs:AU}(hn:rs⁻¹=n):∀(st o:AA),okO n o->(∀j∈st,j+1<n)->mvs (byR rs o) st=byR rs (st.foldl aM o)
 |[],_,_,_=>rfl
 |j::st,o,ho,hj=>by
  have h1:=hj j ba;change mvs (swp (byR rs o) j) st=byR rs (st.foldl aM (aM o j));rw[<-CN (by rw[ho.len];exact h1)];exact N5 hn st _ (vo ho h1) λx g=>hj x (aS _ g)
def vK{rs:AU}{st:AA}(g:∀j∈st,j+1<rs⁻¹):mvs rs st=byR rs (wlk rs⁻¹ st):=by have:=N5 rfl st (List.range rs⁻¹) (gV _) g;rw[Cz]at this;exact this
def N6{w:Nat}{rs g:AU}:tld w rs g=.non↔bJ w rs g=[]:=by
 unfold tld;cases bJ w rs g with
 |nil=>exact⟨λz=>rfl,λz=>rfl⟩
 |cons a l=>exact⟨(λh=>nomatch h),(λh=>nomatch h)⟩
def N7{w:Nat}{rs:AU}:∀(st g o:AA),GP (good w rs) rs⁻¹ g o->(∀j∈st,j+1<rs⁻¹)->(∀d∈tells w (byR rs o) st,d=.non)->∃s,GP (good w rs) rs⁻¹ s (st.foldl aM o)
 |[],g,o,h,_,_=>⟨g,h⟩
 |j::st,g,o,h,hj,hd=>by
  have h1:=hj j ba;have hl:=h.ok.len;rw[tells,<-CN (!0)]at hd;have h2:=N6.mp (hd _ ba);exact N7 st (g++[j]) (aM o j) (.snoc h h1 (CG.mpr (aih (CJ h) h2))) (λx q=>hj x (aS _ q)) λd q=>hd d (aS _ q)
def aii{w:Nat}{rs:AU}{st o:AA}(h:GP (good w rs) rs⁻¹ st o):tells w rs st=List.replicate st⁻¹ .non:=by
 induction h with
 |nil=>rfl
 |snoc h z g q=>
  rename_i st o j;have hl:=h.ok.len;have e:mvs rs st=byR rs o:=by rw[vK h.mem,<-h.wlk]
  rw[Cj,q,e,<-CN (!0),N6.mpr (aig (CJ h) (CG.mp g)),am,ca,List.replicate_succ']
def N8(w:Nat):∀(st:AA)(rs:AU),(tells w rs st)⁻¹=st⁻¹
 |[],_=>rfl
 |j::st,rs=>by rw[tells,b4,b4,N8 w st]
def Oa(w:Nat):∀(st:AA)(rs:AU),∀d∈tells w rs st,d=.non\/∃l,d=.str l
 |[],_,d,h=>absurd h dc
 |j::st,rs,d,h=>by
  rw[tells]at h;rcases bo.mp h with rfl|h
  .unfold tld;cases(bJ w rs (swp rs j)).head? with
   |none=>exact .inl rfl
   |some l=>exact .inr ⟨l,rfl⟩
  .exact Oa w st _ d h
def aij(rs:AU):nrs (rs.map aN)=true/\aW (rs.map aN)<=1:=by
 induction rs with
 |nil=>exact⟨rfl,dA _⟩
 |cons r rs g=>
  rw[bg,nrs,aW,g.1];exact⟨rfl,Nat.max_le.mpr ⟨ar _,g.2⟩⟩
def aik(w:Nat)(rs:AU):nr (aq w rs)=true/\dpt (aq w rs)<=3:=by
 let(h1,h2):=aij rs;show⟨?_,?_⟩
 .simp only[aq,nr,nrs,h1,Bool.and_true]
 .simp only[aq,dpt,aW];lia
theorem CP{G:DH}{w:Nat}{rs:AU}:view G (aq w rs)=aq w rs:=rfl
def vL:RF.Spec:=ghS (A:=Nat×AU×AA) (λa ds z=>ds=[aq a.1 a.2.1,aD a.2.2]/\okWay a/\a.2.1⁻¹<=4) (λz G d g=>Sa G g/\d=.bl true)
def ail{w:Nat}{rs:AU}{o:AA}{G:DH}{k:AT}{E:EK}(h:okWay (w,rs,o))(q:rs⁻¹<=4)(z:∀g,Sa G g->k (.bl true) g):vL.t [aq w rs,aD o] G k E:=dH (w,rs,o) ⟨rfl,h,q⟩ λd g I=>by
 let(s,rfl):=I;exact z g s
structure FR81(Z:aj):Prop where
 way:Z "way"=vG
 byo:Z "by_order"=sBy
 mov:Z "_law_moved"=vI
 plain:Z "_law_plain_steps"=vH
 alk:Z "alike"=o9
 byd:Z "_law_by_deeds"=pG
def aim(Z:aj)(F:FR81 Z)(a:Nat×AU×AA)(ds:AS)(G:DH)(h:ds=[aq a.1 a.2.1,aD a.2.2]/\okWay a/\a.2.1⁻¹<=4):au Z Am noE (env0 ds 7) G (ends λd G'=>Sa G G'/\d=.bl true):=by
 let(w,rs,o):=a;let(rfl,hok,O):=h;have hb:=hok.b;have ho:=hok.o;dsimp only at hb ho O ⊢;have hb':=M6 hb ho;let(nb,db):=aik w (byR rs o);simp_all_arith[Am];nofun;simp_arith![F.way];show ahL hok λd G1 s1 hr=>?_;let(q,zq,hr):=hr;rcases hr with⟨st,rfl,gq,hst,_,hsl⟩|⟨os,rfl,gq,hap,hno⟩
 .simp_arith![ends];symm;simp_arith![F.byo];show BP hb ho (hM _ _ (seq λM hM=>?_));simp_arith![F.mov,F.plain];show Nr ho O λs0 G2 s2 J hw0 hl0=>Cp (.inl rfl) hb J (!0) λG3 s3=>?_;rw[vK J,hw0];simp_arith![ends];symm;simp_arith![CP,iG nb];show⟨⟨nb,nb,!0⟩,hM _ _ (seq λM hM=>?_)⟩;have ew:((Np==[97,112,97,114,116]):Bool)=false:=rfl;erw[ew];symm;simp_arith![F.mov];have gq3:=s3 _ _ (s2 _ _ gq);show Cp (st:=st) (.inr ⟨q,rfl,gq3⟩) hb hst.1.mem (by have:=hsl O;lia) λG4 s4=>?_;rw[vK hst.1.mem,<-hst.1.wlk,aii hst.1];simp_arith![ends];ac_nf0;have ev:view G4 (.ref q)=.lst (st.map λi:Nat=>D.int (i:Int)):=du (s4 _ _ gq3);have er:reps [D.non] st⁻¹=List.replicate st⁻¹ .non:=by
   unfold reps;induction st⁻¹ with
   |zero=>rfl
   |succ n ih=>rw[cy,eT,ih,cy];rfl
  have nr0:nrs (List.replicate st⁻¹ D.non)=true:=uJ λd N=>by rw[List.eq_of_mem_replicate N];rfl
  have dp0:aW (List.replicate st⁻¹ D.non)=0:=by
   induction st⁻¹ with
   |zero=>rfl
   |succ n ih=>rw[cy,aW,ih];rfl
  simp_arith![CP,iG nb,ev,ag,bv,er,F.byd];have hsl:=hsl O;show⟨⟨nb,nb,!0⟩,by change(1:Nat)<=1000000;decide,!0,!0,by bv_omega,⟨nr0,nr0,by rw[dp0];decide⟩,?_⟩;rw[tU nr0];show NZ hb λL G5 p5 o5 s5=>NZ hb' λL' G6 p6 o6 s6=>?_;have eL:L=L':=aid (CJ hst.1) p5 o5 p6 o6;subst eL;have nL:=aie L;have dL:=aif L;have nD:nr (byD L)=true:=nL;rw[show view G6 (byD L)=byD L from rfl,iG nD];exact⟨⟨nD,nD,b3 (Nat.min_le_left _ _) (by change aW _+1<=60;lia)⟩,((((s1.trans s2).trans s3).trans s4).trans s5).trans s6,rfl⟩
 .simp_arith![ends];symm;simp_arith![F.byo];show BP hb ho (hM _ _ (seq λM hM=>?_));simp_arith![F.mov,F.plain];show Nr ho O λs0 G2 s2 J hw0 hl0=>Cp (.inl rfl) hb J (!0) λG3 s3=>?_;rw[vK J,hw0];simp_arith![ends];symm;simp_arith![CP,iG nb];show⟨⟨nb,nb,!0⟩,hM _ _ (seq λM hM=>?_)⟩;have ew:((Nq==[97,112,97,114,116]):Bool)=true:=rfl;simp_arith![ew,F.alk];show last ?_;simp_arith![F.alk];show Mx hb hb' λd3 q3=>?_;have hsome:∃x∈tells w rs s0,x≠.non:=by
   by_cases c:∀x∈tells w rs s0,x=.non
   .let(s,hg):=N7 s0 [] (List.range rs⁻¹) .nil J (by rw[Cz];exact c);exact absurd (show GP (good w rs) rs⁻¹ s o by rw[<-hw0];exact hg) (hno s)
   .have ⟨x,hx⟩:=Classical.not_forall.mp c;have⟨h1,h2⟩:=Classical.not_imp.mp hx;exact⟨x,h1,h2⟩
  have s123:=(s1.trans s2).trans s3;rcases q3 with⟨m,hm,rfl⟩|⟨_,t,_,rfl,_,_⟩
  .have e3:((Bu==[112,97,114,116,101,100]):Bool)=true:=rfl;simp_arith![view,deq,e3];exact s123
  .have e3:((Bv==[112,97,114,116,101,100]):Bool)=false:=rfl;simp_arith![view,deq,e3];let(x,hx,hxn):=hsome;let(ix,hix):=List.getElem?_of_mem hx;show CompG.inv (P:=λi g Y G'=>(∃y,Y=[y])/\G'=G3/\(∀d∈g,∃l,d=.str l)/\(ix<i->g≠[])) ⟨⟨_,rfl⟩,rfl,(λd N=>absurd N dc),λh=>absurd h (Nat.not_lt_zero _)⟩ (λv v v v v=>trivial) (by rw[N8];bv_omega) ?_ ?_
   .rintro i d g Y G' N ⟨⟨y,rfl⟩,rfl,I,U⟩ kk hk;rcases Oa w s0 rs d (ck N) with rfl|⟨l,rfl⟩
    .simp_arith![ends];show hk _ _ _ ⟨⟨_,rfl⟩,rfl,?_,λh=>?_⟩
     .rw[show g++(none:Option D).toList=g from eh _];exact I
     .rw[show g++(none:Option D).toList=g from eh _];show U ?_;by_cases c:ix=i
      .subst c;rw[hix]at N;exact absurd (cw N) hxn
      .omega
    .simp_arith![ends];show hk _ _ _ ⟨⟨_,rfl⟩,rfl,λd N=>?_,λv h=>?_⟩
     .rcases aE.mp N with z|z
      .exact I d z
      .exact ⟨l,al.mp z⟩
     .exact absurd (eS List.length h) (by rw[am];simp)
   .rintro g Y G' ⟨⟨y,rfl⟩,rfl,I,U⟩;have U:=U (av.mp hix).1;have na:nrs g=true:=uJ λd N=>by let(l,rfl):=I d N;rfl
    show⟨⟨na,b3 (Nat.min_le_right _ _) (!1)⟩,s123,?_⟩;cases g with
    |nil=>exact absurd rfl U
    |cons a l=>rfl
structure F81(Z:aj):Prop where
 opn:Z "_law_open"=Ar
 anew:Z "_law_anew"=uO
 book:Z "_law_book"=uR
 order:Z "_law_order"=vy
 right:Z "_law_right"=vL
def ain(Z:aj)(F:F81 Z)(ds:AS)(G:DH)(h:∃ns:List Int,ds=[.scr ns]/\ns⁻¹<=63):au Z An noE (env0 ds 4) G (ends λd y=>d=.bl true):=by
 let(ns,rfl,hl):=h;simp_all_arith[An];nofun;erw[F.opn];show cI ⟨ns,rfl,hl⟩ λd' G1 hx=>?_;let(p,e1,_,hp,_):=hx;subst e1;symm;simp_arith![ends];show⟨!1,ForG.inv (P:=λi Y z=>(∃o2 o3 o4,Y=[-(.scr ns),-(.ref p),o2,o3,o4])/\Pen z p) ⟨⟨_,_,_,rfl⟩,hp⟩ (λy y y y=>trivial) ?_ ?_⟩
 .rintro i d Y G2 hd ⟨⟨o2,o3,o4,rfl⟩,q⟩ kk hk;simp_arith![ends];nofun;erw[F.anew,F.book];show af3 q λG3 J y=>?_;show afL (w:=4) (m:=4) J (!1) (!1) (!1) λw rs G4 hb hw O L y=>hM _ _ (last ?_);have U:aq w rs=.tup [.int w,.tup (rs.map aN)]:=rfl;simp_arith![ends];show⟨!1,ForG.inv (P:=λi Y z=>(∃o4,Y=[-(.scr ns),-(.ref p),-d,-(aq w rs),o4])/\Pen z p) ⟨⟨_,rfl⟩,L⟩ (λy y y y=>trivial) ?_ ?_⟩
  .rintro i5 d5 Y G5 hd5 ⟨⟨o4,rfl⟩,g⟩ kk5 I;simp_arith![ends];show last ?_;simp_arith![F.order,F.right,U,ag];rw[<-U];show ahz g (!0) λo G6 ho N y=>ail ⟨hb,ho,hw,show rs⁻¹<=5 by lia⟩ O λG7 s7=>?_;erw[ends];exact I _ _ ⟨⟨_,rfl⟩,N.sa s7⟩
  .rintro Y G5 ⟨⟨o4,rfl⟩,g⟩;exact hk _ _ ⟨⟨_,_,_,rfl⟩,g⟩
 .rintro Y G2 ⟨_,q⟩;ac_nf0;erw[ends]
end RF
namespace Lk81
open PySem PySem.Spec PyProof.Rows L2 RF
open PySem.W (mg_of mg_none_of)
def Z:aj:=λf=>if f="_law_anew" then uO else if f="_law_spread" then uN else if f="_law_take" then eZ else if f="_law_signs" then oG else if f="_law_deeds_of" then uQ else if f="_law_form" then Aq else if f="_law_wider" then jc else if f="_law_within" then jc else if f="_law_form_like" then uP else if f="_law_book" then uR else if f="_law_open" then Ar else if f="_law_order" then vy else if f="how_many" then aV oU else if f="both" then aV oM else if f="first_touching" then oN else if f="splitting_place" then uU else if f="with_sign" then aV ik else if f="grown" then fG 9 else if f="is_deed" then Be else if f="is_text_of" then Bc else if f="is_form" then Bd else if f="is_row" then Bg else if f="is_whole" then aV jb else if f="is_width" then Bh else if f="is_book" then Bj else if f="need_book" then gH else if f="stars" then aV fB else if f="laid" then uY else if f="is_named" then aV gJ else if f="is_place" then aV fX else if f="leaves" then eG 9 else if f="counts" then oY else if f="_law_by_deeds" then pG else if f="least" then aV kJ else if f="need_two_books" then u5 else if f="deed_of" then uT else if f="same_deeds" then sSD else if f="alike" then o9 else if f="parting_word" then ph else if f="need_row" then oZ else if f="without" then sWo else if f="_law_plain_steps" then vH else if f="is_order" then vg else if f="need_order" then pB else if f="by_order" then sBy else if f="first_order" then vf else if f="is_good" then vm else if f="exchanged" then vp else if f="steps_from" then vz else if f="good_ways" then vD else if f="need_movable" then vh else if f="way" then vG else if f="Sieve" then pA else if f="Sieve.book" then kO else if f="Sieve.turn" then u6 else if f="Sieve.move" then u9 else if f="_law_moved" then vI else if f="_law_right" then vL else if f="law" then oH else bT (λz z=>False) (λz z z z=>False)
def Od:Z "_law_anew"=uO:=by rfl'
def Oe:Z "_law_spread"=uN:=by rfl'
def gK:Z "_law_take"=eZ:=by rfl'
def CW:Z "_law_signs"=oG:=by rfl'
def Og:Z "_law_deeds_of"=uQ:=by rfl'
def Oh:Z "_law_form"=Aq:=by rfl'
def Oi:Z "_law_wider"=jc:=by rfl'
def Oj:Z "_law_within"=jc:=by rfl'
def Ol:Z "_law_form_like"=uP:=by rfl'
def Om:Z "_law_book"=uR:=by rfl'
def Oo:Z "_law_open"=Ar:=by rfl'
def Oq:Z "_law_order"=vy:=by rfl'
def Ot:Z "how_many"=aV oU:=by rfl'
def Ou:Z "both"=aV oM:=by rfl'
def CZ:Z "first_touching"=oN:=by rfl'
def Ov:Z "splitting_place"=uU:=by rfl'
def Dc:Z "with_sign"=aV ik:=by rfl'
def Dd:Z "grown"=fG 9:=by rfl'
def Ow:Z "is_deed"=Be:=by rfl'
def Oz:Z "is_text_of"=Bc:=by rfl'
def OD:Z "is_form"=Bd:=by rfl'
def OJ:Z "is_row"=Bg:=by rfl'
def De:Z "is_whole"=aV jb:=by rfl'
def O1:Z "is_width"=Bh:=by rfl'
def O2:Z "is_book"=Bj:=by rfl'
def jl:Z "need_book"=gH:=by rfl'
def vO:Z "stars"=aV fB:=by rfl'
def O3:Z "laid"=uY:=by rfl'
def O4:Z "is_named"=aV gJ:=by rfl'
def vP:Z "is_place"=aV fX:=by rfl'
def Df:Z "leaves"=eG 9:=by rfl'
def O5:Z "counts"=oY:=by rfl'
def O6:Z "_law_by_deeds"=pG:=by rfl'
def O7:Z "least"=aV kJ:=by rfl'
def O8:Z "need_two_books"=u5:=by rfl'
def O9:Z "deed_of"=uT:=by rfl'
def Pa:Z "same_deeds"=sSD:=by rfl'
def Dg:Z "alike"=o9:=by rfl'
def Dh:Z "parting_word"=ph:=by rfl'
def Di:Z "need_row"=oZ:=by rfl'
def Pb:Z "without"=sWo:=by rfl'
def Pg:Z "_law_plain_steps"=vH:=by rfl'
def Ph:Z "is_order"=vg:=by rfl'
def Dj:Z "need_order"=pB:=by rfl'
def Dk:Z "by_order"=sBy:=by rfl'
def Pj:Z "first_order"=vf:=by rfl'
def Pk:Z "is_good"=vm:=by rfl'
def Pn:Z "exchanged"=vp:=by rfl'
def Pq:Z "steps_from"=vz:=by rfl'
def Pr:Z "good_ways"=vD:=by rfl'
def Pu:Z "need_movable"=vh:=by rfl'
def Px:Z "way"=vG:=by rfl'
def Py:Z "Sieve"=pA:=by rfl'
def vQ:Z "Sieve.book"=kO:=by rfl'
def Pz:Z "Sieve.turn"=u6:=by rfl'
def PJ:Z "Sieve.move"=u9:=by rfl'
def PK:Z "_law_moved"=vI:=by rfl'
def PL:Z "_law_right"=vL:=by rfl'
def bt:List AL:=["all","bool","enumerate","int","isinstance","len","list","min","range","sorted","str","tuple","zip"]
def cn:List (AL×D):=[("LETTERS",(.str [97,98,99,100,101,102,103,104,105,106,107,108,109,110,111,112,113,114,115,116,117,118,119,120,121,122])),("LONGEST_DEED",(.int 8)),("MOST_ROWS",(.int 12)),("MOST_ROWS_MOVED",(.int 5)),("WIDEST",(.int 6)),("WIDEST_MOVED",(.int 4))]
def xs:List (AL×Bool):=[("NoBook",true),("NoMatch",true),("NoWord",true),("NoRow",true),("NoOrder",true),("TooMany",true)]
abbrev CK:=λN s f o b=>aF (aH N (ao s) f bt cn xs o) b (aG s)=true
abbrev BB:=λ(l:PySem.W.OpenLaw) (w:World) (mg:AH) (base:Heap) k f o=>Bse Z l.prog w (HK.K w.params) mg base (CX1 l.prog w) k f bt cn xs o
abbrev NQ:=λP (s:Str) (n:Nat)=>PySem.W.nsIn (HK.K P) mainGlobals s=-(-(.ref n))
abbrev BQ:=λP fd ps=>Binds (HK.K P) fd ps []
abbrev LN:Str:="law_starsieve_k81_whole_ways_by_a_sieve"
def f0:List (AL×Nat):=[]
def o0:OT:={}
def f1:=("_law_anew",1)::f0
def f2:=("_law_spread",2)::f1
def f3:=("_law_take",2)::f2
def f4:=("_law_signs",3)::f3
def f5:=("_law_deeds_of",2)::f4
def f6:=("_law_form",2)::f5
def f7:=("_law_wider",2)::f6
def f8:=("_law_within",2)::f7
def f9:=("_law_form_like",3)::f8
def f10:=("_law_book",3)::f9
def f11:=("_law_open",1)::f10
def f12:=("_law_order",2)::f11
def f13:=("how_many",1)::f12
def f14:=("both",2)::f13
def f15:=("first_touching",2)::f14
def f16:=("splitting_place",2)::f15
def f17:=("with_sign",3)::f16
def f18:=("grown",3)::f17
def f19:=("is_deed",1)::f18
def f20:=("is_text_of",3)::f19
def f21:=("is_form",2)::f20
def f22:=("is_row",2)::f21
def f23:=("is_whole",1)::f22
def f24:=("is_width",1)::f23
def f25:=("is_book",1)::f24
def f26:=("need_book",1)::f25
def f27:=("stars",1)::f26
def f28:=("laid",1)::f27
def f29:=("is_named",3)::f28
def f30:=("is_place",2)::f29
def f31:=("leaves",2)::f30
def f32:=("counts",1)::f31
def f33:=("_law_by_deeds",1)::f32
def f34:=("least",1)::f33
def f35:=("need_two_books",2)::f34
def f36:=("deed_of",2)::f35
def f37:=("same_deeds",3)::f36
def f38:=("alike",2)::f37
def f39:=("parting_word",2)::f38
def f40:=("need_row",2)::f39
def f41:=("without",2)::f40
def f42:=("_law_plain_steps",1)::f41
def f43:=("is_order",2)::f42
def f44:=("need_order",2)::f43
def f45:=("by_order",2)::f44
def f46:=("first_order",1)::f45
def f47:=("is_good",2)::f46
def f48:=("exchanged",2)::f47
def f49:=("steps_from",1)::f48
def f50:=("good_ways",2)::f49
def f51:=("need_movable",1)::f50
def f52:=("way",2)::f51
def o1:OT:={o0 with fl:=("Sieve","books")::o0.fl}
def o2:OT:={o1 with ks:=("Sieve",1)::o1.ks}
def o3:OT:={o2 with ms:=("Sieve.book","Sieve","book",1)::o2.ms}
def o4:OT:={o3 with ms:=("Sieve.turn","Sieve","turn",2)::o3.ms}
def o5:OT:={o4 with ms:=("Sieve.move","Sieve","move",3)::o4.ms}
def f53:=("_law_moved",2)::f52
def f54:=("_law_right",2)::f53
def S(i:Nat):Stmt:=HK.pw.main.body.getD i (.Pass ⟨0,0,0,0⟩)
def SM(i j:Nat):Stmt:=match S i with |.ClassDef _ _ _ b _ _ _ _ _ _ _=>b.getD j (.Pass ⟨0,0,0,0⟩)|s=>s
def pJ:Stmt:=S 67
def aiu:fnB ["pen"] ["pen"] (ao pJ)=true:=by ac_rfl
def aiv:CK ["pen"] pJ f0 o0 z6:=by ac_rfl
def pK:Stmt:=S 65
def aiw:fnB ["cell","at","one","two","three"] ["cell","at"] (ao pK)=true:=by ac_rfl
def aix:CK ["cell","at","one","two","three"] pK f1 o0 z7:=by ac_rfl
def pL:Stmt:=S 68
def aiy:fnB ["pen","many","at","cell","found"] ["pen","many"] (ao pL)=true:=by ac_rfl
def aiz:CK ["pen","many","at","cell","found"] pL f2 o0 z8:=by ac_rfl
def pM:Stmt:=S 69
def aiA:fnB ["pen","width","signs"] ["pen","width","signs"] (ao pM)=true:=by ac_rfl
def aiB:CK ["pen","width","signs"] pM f3 o0 z9:=by ac_rfl
def pN:Stmt:=S 74
def aiC:fnB ["pen","most","some","turn","found","letters"] ["pen","most"] (ao pN)=true:=by ac_rfl
def aiD:CK ["pen","most","some","turn","found","letters"] pN f4 o0 Aa:=by ac_rfl
def pO:Stmt:=S 70
def aiE:fnB ["pen","width"] ["pen","width"] (ao pO)=true:=by ac_rfl
def aiF:CK ["pen","width"] pO f5 o0 Ab:=by ac_rfl
def pP:Stmt:=S 72
def aiG:fnB ["pen","form","found","sign"] ["pen","form"] (ao pP)=true:=by ac_rfl
def aiH:CK ["pen","form","found","sign"] pP f6 o0 Ac:=by ac_rfl
def pQ:Stmt:=S 71
def aiI:fnB ["pen","form","found","sign"] ["pen","form"] (ao pQ)=true:=by ac_rfl
def aiJ:CK ["pen","form","found","sign"] pQ f7 o0 Ad:=by ac_rfl
def pR:Stmt:=S 73
def aiK:fnB ["pen","width","forms","kind","form","at"] ["pen","width","forms"] (ao pR)=true:=by ac_rfl
def aiL:CK ["pen","width","forms","kind","form","at"] pR f8 o0 Ae:=by ac_rfl
def pU:Stmt:=S 75
def aiM:fnB ["pen","widest","most","width","deeds","forms","rows","k"] ["pen","widest","most"] (ao pU)=true:=by ac_rfl
def aiN:CK ["pen","widest","most","width","deeds","forms","rows","k"] pU f9 o0 Af:=by ac_rfl
def pW:Stmt:=S 66
def aiO:fnB ["script","cells","k","cell"] ["script"] (ao pW)=true:=by ac_rfl
def aiP:CK ["script","cells","k","cell"] pW f10 o0 Ag:=by ac_rfl
def pX:Stmt:=S 76
def aiQ:fnB ["pen","many","left"] ["pen","many"] (ao pX)=true:=by ac_rfl
def aiR:CK ["pen","many","left"] pX f11 o0 Ah:=by ac_rfl
def pY:Stmt:=S 20
def aiS:fnB ["form","many","sign"] ["form"] (ao pY)=true:=by ac_rfl
def aiT:CK ["form","many","sign"] pY f12 o0 mU:=by ac_rfl
def pZ:Stmt:=S 19
def aiU:fnB ["form","other","shared","one","two"] ["form","other"] (ao pZ)=true:=by ac_rfl
def aiV:CK ["form","other","shared","one","two"] pZ f13 o0 mV:=by ac_rfl
def p7:Stmt:=S 38
def aiW:fnB ["rows","box","number","row"] ["rows","box"] (ao p7)=true:=by ac_rfl
def aiX:CK ["rows","box","number","row"] p7 f14 o0 mW:=by ac_rfl
def p8:Stmt:=S 39
def aiY:fnB ["rows","box","number","at","sign"] ["rows","box"] (ao p8)=true:=by ac_rfl
def aiZ:CK ["rows","box","number","at","sign"] p8 f15 o0 mX:=by ac_rfl
def qb:Stmt:=S 18
def ai0:fnB ["form","at","sign"] ["form","at","sign"] (ao qb)=true:=by ac_rfl
def ai1:CK ["form","at","sign"] qb f16 o0 mY:=by ac_rfl
def qe:Stmt:=S 40
def ai2:fnB ["name","many_rows","box","rows","at","zero","one"] ["name","many_rows","box"] (ao qe)=true:=by ac_rfl
def ai3:CK ["name","many_rows","box","rows","at","zero","one"] qe f18 o0 j6:=by ac_rfl
def qg:Stmt:=S 26
def ai4:fnB ["thing"] ["thing"] (ao qg)=true:=by ac_rfl
def ai5:CK ["thing"] qg f18 o0 mZ:=by ac_rfl
def qi:Stmt:=S 14
def ai6:fnB ["signs","width","thing"] ["signs","width","thing"] (ao qi)=true:=by ac_rfl
def ai7:CK ["signs","width","thing"] qi f19 o0 m5:=by ac_rfl
def qj:Stmt:=S 16
def ai8:fnB ["width","thing"] ["width","thing"] (ao qj)=true:=by ac_rfl
def ai9:CK ["width","thing"] qj f20 o0 m6:=by ac_rfl
def ql:Stmt:=S 27
def aja:fnB ["width","thing"] ["width","thing"] (ao ql)=true:=by ac_rfl
def ajb:CK ["width","thing"] ql f21 o0 m7:=by ac_rfl
def qm:Stmt:=S 11
def ajc:fnB ["thing"] ["thing"] (ao qm)=true:=by ac_rfl
def ajd:CK ["thing"] qm f22 o0 m8:=by ac_rfl
def qp:Stmt:=S 12
def aje:fnB ["thing"] ["thing"] (ao qp)=true:=by ac_rfl
def ajf:CK ["thing"] qp f23 o0 m9:=by ac_rfl
def qt:Stmt:=S 28
def ajg:fnB ["thing","width","rows"] ["thing"] (ao qt)=true:=by ac_rfl
def ajh:CK ["thing","width","rows"] qt f24 o0 ni:=by ac_rfl
def qu:Stmt:=S 29
def aji:fnB ["book"] ["book"] (ao qu)=true:=by ac_rfl
def ajj:CK ["book"] qu f25 o0 nq:=by ac_rfl
def qw:Stmt:=S 35
def ajk:fnB ["width"] ["width"] (ao qw)=true:=by ac_rfl
def ajl:CK ["width"] qw f26 o0 nu:=by ac_rfl
def qx:Stmt:=S 41
def ajm:fnB ["book","width","rows"] ["book"] (ao qx)=true:=by ac_rfl
def ajn:CK ["book","width","rows"] qx f27 o0 nA:=by ac_rfl
def qy:Stmt:=S 36
def ajo:fnB ["name","many","thing"] ["name","many","thing"] (ao qy)=true:=by ac_rfl
def ajp:CK ["name","many","thing"] qy f28 o0 nF:=by ac_rfl
def qz:Stmt:=S 13
def ajq:fnB ["many","thing"] ["many","thing"] (ao qz)=true:=by ac_rfl
def ajr:CK ["many","thing"] qz f29 o0 nG:=by ac_rfl
def qC:Stmt:=S 37
def ajs:fnB ["box","tree","at","zero","one"] ["box","tree"] (ao qC)=true:=by ac_rfl
def ajt:CK ["box","tree","at","zero","one"] qC f31 o0 iZ:=by ac_rfl
def qD:Stmt:=S 42
def aju:fnB ["book","tree","width","rows","many","box","leaf","at"] ["book"] (ao qD)=true:=by ac_rfl
def ajv:CK ["book","tree","width","rows","many","box","leaf","at"] qD f31 o0 nH:=by ac_rfl
def eO:Stmt:=S 79
def qF:Stmt:=S 21
def qG:Stmt:=S 30
def ajw:fnB ["one","other"] ["one","other"] (ao qG)=true:=by ac_rfl
def ajx:CK ["one","other"] qG f34 o0 nJ:=by ac_rfl
def qH:Stmt:=S 33
def ajy:fnB ["book","number"] ["book","number"] (ao qH)=true:=by ac_rfl
def ajz:CK ["book","number"] qH f35 o0 j7:=by ac_rfl
def qI:Stmt:=S 44
def ajA:fnB ["one","other","leaf"] ["one","other","leaf"] (ao qI)=true:=by ac_rfl
def ajB:CK ["one","other","leaf"] qI f36 o0 nM:=by ac_rfl
def qJ:Stmt:=S 45
def ajC:fnB ["one","other","box","tree","parting"] ["one","other"] (ao qJ)=true:=by ac_rfl
def ajD:CK ["one","other","box","tree","parting"] qJ f37 o0 nO:=by ac_rfl
def qK:Stmt:=S 46
def ajE:fnB ["one","other","name","shown"] ["one","other"] (ao qK)=true:=by ac_rfl
def ajF:CK ["one","other","name","shown"] qK f38 o0 nP:=by ac_rfl
def qL:Stmt:=S 31
def ajG:fnB ["book","number"] ["book","number"] (ao qL)=true:=by ac_rfl
def ajH:CK ["book","number"] qL f39 o0 nQ:=by ac_rfl
def qM:Stmt:=S 61
def ajI:fnB ["book","number","width","rows"] ["book","number"] (ao qM)=true:=by ac_rfl
def ajJ:CK ["book","number","width","rows"] qM f40 o0 nR:=by ac_rfl
def qN:Stmt:=S 77
def ajK:fnB ["order","here","steps","at","place"] ["order"] (ao qN)=true:=by ac_rfl
def ajL:CK ["order","here","steps","at","place"] qN f41 o0 Ai:=by ac_rfl
def qO:Stmt:=S 51
def ajM:fnB ["book","thing","many"] ["book","thing"] (ao qO)=true:=by ac_rfl
def ajN:CK ["book","thing","many"] qO f42 o0 nT:=by ac_rfl
def qP:Stmt:=S 52
def ajO:fnB ["book","order"] ["book","order"] (ao qP)=true:=by ac_rfl
def ajP:CK ["book","order"] qP f43 o0 nU:=by ac_rfl
def qQ:Stmt:=S 54
def ajQ:fnB ["book","order","width","rows"] ["book","order"] (ao qQ)=true:=by ac_rfl
def ajR:CK ["book","order","width","rows"] qQ f44 o0 nW:=by ac_rfl
def qR:Stmt:=S 50
def ajS:fnB ["book"] ["book"] (ao qR)=true:=by ac_rfl
def ajT:CK ["book"] qR f45 o0 nY:=by ac_rfl
def qT:Stmt:=S 56
def ajU:fnB ["book","order"] ["book","order"] (ao qT)=true:=by ac_rfl
def ajV:CK ["book","order"] qT f46 o0 nZ:=by ac_rfl
def qU:Stmt:=S 55
def ajW:fnB ["things","place"] ["things","place"] (ao qU)=true:=by ac_rfl
def ajX:CK ["things","place"] qU f47 o0 n6:=by ac_rfl
def qW:Stmt:=S 57
def ajY:fnB ["order"] ["order"] (ao qW)=true:=by ac_rfl
def ajZ:CK ["order"] qW f48 o0 oh:=by ac_rfl
def qX:Stmt:=S 58
def aj0:fnB ["book","order","ways","bad","newest","further","here","place","there"] ["book","order"] (ao qX)=true:=by ac_rfl
def aj1:CK ["book","order","ways","bad","newest","further","here","place","there"] qX f49 o0 Aj:=by ac_rfl
def qY:Stmt:=S 53
def aj2:fnB ["book","width","rows"] ["book"] (ao qY)=true:=by ac_rfl
def aj3:CK ["book","width","rows"] qY f50 o0 ou:=by ac_rfl
def qZ:Stmt:=S 59
def aj4:fnB ["book","order","ways"] ["book","order"] (ao qZ)=true:=by ac_rfl
def aj5:CK ["book","order","ways"] qZ f51 o0 Ak:=by ac_rfl
def q8:Stmt:=SM 63 0
def aj6:fnB ["self","book"] ["self","book"] (ao q8)=true:=by ac_rfl
def aj7:uM (aH ["self","book"] (ao q8) f52 bt cn xs o1) "need_book" "books" (aG q8)=true:=by ac_rfl
def q9:Stmt:=SM 63 1
def aj8:fnB ["self"] ["self"] (ao q9)=true:=by ac_rfl
def aj9:CK ["self"] q9 f52 o2 oA:=by ac_rfl
def rn:Stmt:=SM 63 4
def aka:fnB ["self","rows","before"] ["self","rows"] (ao rn)=true:=by ac_rfl
def akb:CK ["self","rows","before"] rn f52 o3 oE:=by ac_rfl
def rA:Stmt:=SM 63 7
def akc:fnB ["self","number","place","row","others"] ["self","number","place"] (ao rA)=true:=by ac_rfl
def akd:CK ["self","number","place","row","others"] rA f52 o4 oF:=by ac_rfl
def rB:Stmt:=S 78
def ake:fnB ["book","steps","sieve","told"] ["book","steps"] (ao rB)=true:=by ac_rfl
def akf:CK ["book","steps","sieve","told"] rB f52 o5 Al:=by ac_rfl
def rD:Stmt:=S 80
def akg:fnB ["book","order","word","paper","other","plain","told","found","none"] ["book","order"] (ao rD)=true:=by ac_rfl
def akh:CK ["book","order","word","paper","other","plain","told","found","none"] rD f53 o5 Am:=by ac_rfl
def rE:Stmt:=S 81
def aki:fnB ["script","pen","turn","book","k"] ["script"] (ao rE)=true:=by ac_rfl
def akj:CK ["script","pen","turn","book","k"] rE f54 o5 An:=by ac_rfl
def NB:AD:=["book","many","found","k","row"]
def nB:fnB NB ["book"] (ao eO)=true:=by ac_rfl
def gE:(ao eO).names.lookup (⇑"enumerate")=-.globalImplicit:=by ac_rfl
def gS:(ao eO).names.lookup (⇑"sorted")=-.globalImplicit:=by ac_rfl
section
variable {Z:aj} {P:AK} {w:World} {K:PF} {mg:AH} {base:Heap} {k:Nat} {fs:List (AL×Nat)} {bt:List AL} {cn:List (AL×D)} {xs:List (AL×Bool)} {ot:OT}
theorem akk {f:AQ} {fd:AJ} (Fu:Fun K "_law_by_deeds" "_law_by_deeds" eO f fd) (T:Bse Z P w K mg base (CX1 P w) k fs bt cn xs ot)
  (ec:Z "counts"=oY) (b1:"enumerate"∈bt) (b2:"sorted"∈bt) (hc:bw (aH NB (ao eO) fs bt cn xs ot) x1B ((aG eO).headD (.Pass ⟨0,0,0,0⟩))=true):FnOk P w K mg base (CX1 P w) (k+1) f fd ["book"] (lift K 1 pG):=by
 show Fu.okX (uI nB) (λvs H Q E h=>h.1) λcdv A outer s H vs Q EX hr hsp=>?_;let(hl,F,G,ds,r,rs',a,h1,h2,h3):=hsp;have St:Stat Z (CX1 P w) k (aH NB (ao eO) fs bt cn xs ot) noE ⟨H,F⟩ (c7 (CX1 P w) P w K mg base NB "_law_by_deeds" (ao eO) f cdv A outer s H EX).nox:=zU T nB hr;have hu:=WP St.room;have nd:=St.nd;show⟨_,PSs.nox (lu (zT St x1B hc) (lu (v7 (i:=2) nd rfl (Or.inr rfl) Yx) (lu
  (DX St.own rfl (afp (St.glo _ gE) (St.blt _ b1) (cQ (lB rR (pv 0) jm (λv v=>rfl)) dY)) (vY rfl (lA (rJ (i:=3) nd rfl (Or.inl rfl)) (lA (rJ (i:=4) nd rfl (Or.inl rfl)) vX)))
   (vW (Ys hu (pv 2) (lB rR (pv 4) jm (λv v=>rfl)) (DY Ea (jw PySem.F.plainAttrs_dict PySem.F.slot_dict_get PySem.F.type_dict_get Y7 (pv 2) (cQ (lB rR (pv 4) jm (λv v=>rfl)) (cQ jm dY))) (lB Fg (pv 1) (pv 3) (λv v=>rfl))) rfl))) (vW
  (DK (jr Zd (St.glo _ gS) (St.blt _ b2) afn (cQ (Xm ["one","found"] [none,-2] rfl (Zc (pv 2)) ⟨⟨rfl,rfl⟩,trivial⟩ rfl rfl rfl rfl (λv=>rfl)) dY))))))),?_⟩
 let((g,rs),G0):=a;let(e1,hds,hb):=h1;dsimp only at e1 hds hb;subst e1 hds;have hlen:=hb.len;show⟨env0 [aq g rs] 4,F,_,Ext.refl _ _,by unfold L2.start;rw[show NB.length-vs⁻¹=4 by rw[hl];rfl];exact EnvR.start 4 rs',r,ah1 Z ec hb λq G1 g1 g2 sa H1 F1 σ1 x1 he1 r1=>?_⟩;obtain⟨u0,τ,rfl,hu0,u1,τ,rfl,hu1,u2,τ,rfl,-,u3,τ,rfl,-,u4,τ,rfl,-,he⟩:=he1;cases he;let(v0,rfl,rv0):=hu0 _ rfl;let(v1,rfl,rv1):=hu1 _ rfl;cases rv1;let(b0,vs0,rfl,⟨ht0⟩,vw,t0,rfl,rvw,vr,t1,rfl,rvr,hnil):=rv0;cases hnil;let(b1',vs1,rfl,⟨ht1⟩,rrs):=rvr;intro p hp;have c0:Co K H1 H1 F1 G1 p:=⟨r1,Ext.refl _ _,hp⟩;have tup:∀{I:Hp}{o:HO}{b:AQ}{ys:AR},I p=none->I b=-(.tup ys)->upd I p o b=-(.tup ys):=λhn h=>by rw[aA (aU h hn)];exact h
 have lst:∀{I:Hp}{o:HO}{b:AQ}{ys:AR},I p=none->I b=-(.lst ys)->upd I p o b=-(.lst ys):=λhn h=>by rw[aA (aU h hn)];exact h
 have rl:(rs.map aN)⁻¹=vs1⁻¹:=rrs⁻¹;rw[List.length_map]at rl;show⟨_,rfl,b0,_,1,_,rfl,rfl,SqT.of (tup hp ht0),bL (j:=1) rfl,b1',vs1,rfl,tup hp ht1,?_⟩;show WT (n:=rs⁻¹) (λi Y H=>∃u3 u4 I,Y=[-(.ref b0),-(.ref q),-(.ref p),u3,u4]/\H=upd I p (.dK ((byU rs (λk=>(kZ g rs k:Int)) i).map bK))/\Co K H1 I F1 G1 p) ⟨_,_,H1,rfl,rfl,c0⟩ ?_ ?_ ?_ ?_
 .rintro i Y H hi ⟨u3,u4,I,rfl,rfl,c⟩;exact⟨vs1,tup c.n (c.x.tups _ _ ht1),!0⟩
 .rintro Y H ⟨u3,u4,I,rfl,rfl,c⟩;exact⟨vs1,tup c.n (c.x.tups _ _ ht1),!0⟩
 .rintro i Y H x H' hi ⟨u3,u4,I,rfl,rfl,c⟩ ⟨T',y,hT,rfl,rfl,hy⟩;have N:T'≠p:=by
   rintro rfl;rw[bj]at hT;cases hT
  have hTc:I T'=none:=by rw[aA N]at hT;exact hT
  obtain⟨U,hrow⟩:∃U,rs[i]?=-U:=⟨rs[i],List.getElem?_eq_getElem hi⟩;let(y',hy1,ry):=rrs.get (i:=i) (d:=aN U) (by rw[List.getElem?_map,hrow];rfl);have ey:=hy vs1 (tup c.n (c.x.tups _ _ ht1));rw[hy1]at ey;cases ey;let(b2,vs2,rfl,⟨ht2⟩,z1,t1,rfl,rz1,z2,t2,rfl,rz2,hn2):=ry;cases hn2;let(rfl,_):=rz1;let(rfl,_):=rz2;rw[Ny N];have L:Co K H1 (upd I T' (.tup [.int i,.ref b2])) F1 G1 p:=c.new hTc N;have h2':=L.x.tups _ _ ht2;let(ms,hm,rm):=L.r.lst g2;let(z,hz1,hz2):=rm.get (i:=i) (d:=.int (kZ g rs i:Int)) (by unfold kI;rw[oX (!0)];rfl);cases hz2;show⟨T',_,rfl,SqT.of (tup L.n bj),rfl,_,_,rfl,_,_,rfl,rfl,?_⟩;show⟨_,rfl,.inr (.inr (.inl ⟨rfl,.inl ⟨_,bj⟩⟩)),_,rfl,b2,_,1,_,rfl,rfl,SqT.of (tup L.n h2'),bL (j:=1) rfl,p,_,Sum.inr (tx U.2),.int 0,rfl,rfl,bj,?_⟩;show⟨_,rfl,_,rfl,q,ms,i,_,rfl,rfl,SqL.of (lst L.n hm),bL hz1,_,_,Cr _ _,rfl,?_⟩;show⟨_,rfl,_,rfl,b2,_,1,_,rfl,rfl,SqT.of (tup L.n h2'),bL (j:=1) rfl,p,_,rfl,DPut.k (k:=Sum.inr (tx U.2)) bj (by rw[List.length_map];have:=Cu rs (λk=>(kZ g rs k:Int)) i;rw[sizeLine_eq];lia),?_⟩;rw[Du,Nv];show⟨_,_,_,rfl,?_,L⟩;rw[Nx hrow]
 .rintro Y H ⟨u3,u4,I,rfl,rfl,c⟩;show⟨_,rfl,p,_,rfl,bj,λo=>?_⟩;rw[Du];have hfl:=ah7 g rs;show⟨λi m ys σ' H'=>m=(byF g rs)⁻¹-i/\i<=(byF g rs)⁻¹/\∃u bs I,σ'=[u,-(.ref p)]/\H'=upd I p (.frz o (.dK ((byF g rs).map bK)))/\Co K H1 I F1 G1 p/\ys=bs.map V.ref/\TB I bs (((byF g rs).take i).filter λp=>decide (0<p.2)),⟨_,rfl,Nat.zero_le _,_,[],I,rfl,rfl,c,rfl,⟨rfl,λv v v h=>by simp at h⟩⟩,?_⟩;rintro i m ys σ' H' ⟨rfl,hi,u,bs,J,rfl,rfl,L,rfl,tb⟩;have hbl:bs⁻¹<=rs⁻¹+1:=by rw[tb.1];exact Nat.le_trans (List.length_filter_le _ _) (by rw[List.length_take];lia)
  by_cases hlt:i<(byF g rs)⁻¹
  .show .inr ⟨⟨bj,by rw[List.length_map];exact hlt⟩,by rw[List.length_map,sizeLine_eq];lia,λcl C s₁ H₁ fp pn=>⟨lz 0,_,_,rJ (i:=0) (show((["one","found"]:AD)).Nodup by ac_rfl) rfl (Or.inl rfl),FJ (Ed Vf (GX hu (pv 1) (pv 0) (λv v=>rfl)) jm (Vi _)),Em (cQ (pv 0) (cQ (GX hu (pv 1) (pv 0) (λv v=>rfl)) dY)),?_⟩⟩;rintro x H2 ⟨rfl,kv,hkv,rfl⟩;rw[List.getElem?_map]at hkv;let(pr,hpr,rfl):=Option.map_eq_some_iff.mp hkv;have hpr:(byF g rs)[i]?=-pr:=hpr;have dg:DGet (upd J p (.frz o (.dK ((byF g rs).map bK)))) p (kV (bK pr).1) (-(.int pr.2)):=.inl ⟨_,_,.inr ⟨o,bj⟩,rfl,(ah8 hpr).symm⟩;have htk:(byF g rs).take (i+1)=(byF g rs).take i++[pr]:=by rw[List.take_add_one,hpr];rfl
   show⟨_,rfl,_,rfl,p,_,rfl,dg,_,_,rfl,rfl,_,rfl,?_⟩;by_cases O:0<pr.2
   .rw[decide_eq_true O];show WR ⟨_,rfl,_,rfl,_,rfl,p,_,rfl,dg,by change 2<=sizeLine;decide,λT' hT=>⟨_,?_,rfl,hlt,?_⟩⟩
    .omega
    .have N:T'≠p:=by
      rintro rfl;rw[bj]at hT;cases hT
     have hTc:J T'=none:=by rw[aA N]at hT;exact hT
     show⟨_,bs++[T'],_,rfl,Ny N,L.new hTc N,by rw[List.map_append];rfl,?_⟩;rw[htk,List.filter_append,List.filter_cons_of_pos (!!O),List.filter_nil];exact tb.new hTc
   .rw[decide_eq_false O];show WQ ⟨_,?_,rfl,hlt,_,bs,J,rfl,rfl,L,rfl,?_⟩
    .omega
    .rw[htk,List.filter_append,List.filter_cons_of_neg (!!O),List.filter_nil,List.append_nil];exact tb
  .have ei:i=(byF g rs)⁻¹:=by lia
   show .inl ⟨⟨bj,by rw[List.length_map];exact ei⟩,by rw[List.length_map,sizeLine_eq];lia,λD hD=>?_⟩;rw[ei,List.take_length]at tb;have tb:TB J bs (byP g rs):=tb;have hDp:D≠p:=by rintro rfl;rw[bj]at hD;cases hD
   have hDc:J D=none:=by rw[aA hDp]at hD;exact hD
   have r2:R K (upd J p (.frz o (.dK ((byF g rs).map bK)))) F1 G1:=L.r.new L.n;have x2:Ext H1 F1 (upd J p (.frz o (.dK ((byF g rs).map bK)))) F1:=L.x.trans (cA L.r L.n);have r3:=r2.new (o:=.lst (bs.map V.ref)) hD;have x3:=x2.trans (cA (o:=.lst (bs.map V.ref)) r2 hD);have hpl:(byP g rs)⁻¹<=13:=Nat.le_trans (List.length_filter_le _ _) (!0);have tb3:TB (upd (upd J p (.frz o (.dK ((byF g rs).map bK)))) D (.lst (bs.map V.ref))) bs (byP g rs):=⟨tb.1,λj b k hb hk=>by
    have h:=tb.2 j b k hb hk;rw[aA (aU h hDc)];exact tup L.n h⟩
   show⟨D,bs,(byP g rs).map λp=>(tx p.1,p.2),rfl,SqL.of bj,by rw[List.length_map];exact tb.1,λj b k hb hk=>?_,?_,by rw[List.length_map];lia,λps hps hpw l hl'=>?_⟩
   .rw[List.getElem?_map]at hk;let(k',hk',rfl):=Option.map_eq_some_iff.mp hk;exact tb3.2 j b k' hb hk'
   .rw[List.map_map];have:((byP g rs).map (·.1)).Nodup:=(vJ g rs).sublist (List.Sublist.map _ List.filter_sublist);have e:(byP g rs).map ((·.1)∘λp:AA×Int=>(tx p.1,p.2))=((byP g rs).map (·.1)).map tx:=by rw[List.map_map];rfl
    rw[e];exact List.Pairwise.map _ (λa b hab z=>hab (iw z)) this
   .rw[List.length_map]at hps;have tb4:TB (upd (upd (upd J p (.frz o (.dK ((byF g rs).map bK)))) D (.lst (bs.map V.ref))) l (.lst (ps.map λi=>V.ref (bs.getD i 0)))) bs (byP g rs):=⟨tb3.1,λj b k hb hk=>by
     have h:=tb3.2 j b k hb hk;rw[aA (aU h hl')];exact h⟩
    show h2 (byD (ps.map λi=>(byP g rs).getD i ([],0))) G1 ⟨sa,_,rfl,?_,aib hps hpw⟩ _ _ _ (x1.trans (x3.trans (sE r3 hl'))) (r3.newF hl') ?_
    .have:=hps.map λi=>(byP g rs).getD i ([],0);rw[aia]at this;exact this
    .show ⟨l,_,rfl,⟨.inr rfl,bj⟩,tb4.reps (λk hk=>?_) ps λi hi=>by have:=hps.mem_iff.mp hi;simpa using this⟩;let(r,hr,e):=ah6 (List.mem_filter.mp hk).1;rw[e];exact Nat.le_trans (hb.deed r hr).2.1 (!1)
end
def akl:bw (aH NB (ao eO) f32 bt cn xs o0) x1B ((aG eO).headD (.Pass ⟨0,0,0,0⟩))=true:=by ac_rfl
def PN:(⇑"0":Str)=tx [48]:=by ac_rfl
def akm:(⇑"*":Str)=tx [42]:=by ac_rfl
def akn:FnScope ["form"] ["form"] (ao qF):=⟨rfl,rfl,rfl,by ac_rfl,rfl,by ac_rfl,by ac_rfl⟩
def ako:Sp:=λvs H Q z=>∃l:AA,vs=[.str (tx l)]/\l⁻¹<=1000/\Q (.str (tx (cV l))) H
def akp {P:AK} {w:World} {K:PF} {mg:AH} {base:Heap} {f:AQ} {fd:AJ} (F:Fun K "least" "least" qF f fd):FnOk P w K mg base CX0 1 f fd ["form"] ako:=by
 show F.ok1 akn rfl (by ac_rfl) (λz=>rfl) (λvs H Q E h=>?_) (λcdv A outer s H vs Q E g h=>?_)
 .let(l,rfl,_):=h;rfl
 .let(l,rfl,hl,q):=h;show⟨_,W9 (Xb (pv 0) (by ac_rfl)),?_⟩;show⟨_,rfl,_,rfl,?_,?_⟩
  .rw[PN,cz,cz];simp;lia
  .rw[akm,PN,Xa];exact q
def akq {P:AK} {w:World} {K:PF} {mg:AH} {base:Heap} {f:AQ} {fd:AJ} (F:Fun K "least" "least" qF f fd):FnOk P w K mg base CX0 1 f fd ["form"] (lift K 1 (aV kJ)):=by
 show(akp F).imp λvs H Q E h=>?_;let(e0,U,G,ds,r,t,(I,Y),(J,L),N,e4):=h;cases J;let(d,g):=Option.isSome_iff_exists.mp L;have z:=g;unfold kJ at g;split at g
 .rename_i l;split at g
  .rename_i hl;cases g;let(v,rfl,O):=bM t;let(rfl,_):=O;have q:l⁻¹<=1000:=of_decide_eq_true hl;exact⟨l,rfl,q,(N _ _ ⟨rfl,z⟩).now r ⟨rfl,by unfold cV;rw[List.length_map];exact Nat.le_trans q (!1)⟩⟩
  .cases g
 .cases g
def fdM(n:Str)(st:Stmt)(m:Str)(t c:Nat):AJ:=PySem.W.fnOf n n (jx st) (aG st) (ao st) .none .none .none (.str m t) none (.ref c) .none
def mkF {K:PF} {n m:Str} {st:Stmt} {a t c:Nat}(l:K.lookup a=-⟨.type "function",none,.func (fdM n st m t c),⟨[]⟩⟩:=by rfl')(h1:PySem.W.codeIn K (.ref c) n=true:=by eq_refl)(h2:PySem.W.keepIn K (.ref a)=true:=by eq_refl):Fun K n n st a (fdM n st m t c):=Fw l h1 h2
theorem tK:type_of% @PySem.W.Fast.te538113369711794958:=PySem.W.Fast.te538113369711794958
local macro_rules|`(tactic|ac_nf)=>`(tactic|(intro _ _ _ _ _ _ us hl;first|(obtain ⟨_,h⟩:=cC hl;subst h;rfl)|(obtain ⟨_,_,h⟩:=bx hl;subst h;rfl)|(obtain ⟨_,_,_,h⟩:=gG hl;subst h;rfl)))
local macro_rules|`(tactic|eq_refl)=>`(tactic|(first|rw[tK]|(unfold NQ;rw[tK]));rfl')
section
variable {P:Params}
def fdQ(n q:Str)(st:Stmt)(m:Str)(t c:Nat):AJ:=PySem.W.fnOf n q (jx st) (aG st) (ao st) .none .none .none (.str m t) none (.ref c) .none
def mkQ {K:PF} {n q m:Str} {st:Stmt} {a t c:Nat}(l:K.lookup a=-⟨.type "function",none,.func (fdQ n q st m t c),⟨[]⟩⟩:=by rfl')(h1:PySem.W.codeIn K (.ref c) q=true:=by eq_refl)(h2:PySem.W.keepIn K (.ref a)=true:=by eq_refl):Fun K n q st a (fdQ n q st m t c):=Fw l h1 h2
def lq:NQ P "Sieve" 446:=by eq_refl
def rF:Cls (HK.K P) 446:=⟨by eq_refl,by eq_refl,by eq_refl,by eq_refl⟩
def PP:NoAttr (HK.K P) 446 (⇑"books"):=by change PySem.W.findIn (HK.K P) (.ref 446) (⇑"books")=-none;rw[tK];rfl'
def PQ:AJ:=fdM "_law_anew" pJ LN 767 470
def P0:Fun (HK.K P) "_law_anew" "_law_anew" pJ 471 PQ:=mkF
def akr:NQ P "_law_anew" 471:=by eq_refl
def aks:BQ P PQ ["pen"]:=P0.binds (by ac_nf)
def Qa:AJ:=fdM "_law_spread" pK LN 767 456
def Qc:Fun (HK.K P) "_law_spread" "_law_spread" pK 457 Qa:=mkF
def akt:NQ P "_law_spread" 457:=by eq_refl
def aku:BQ P Qa ["cell","at"]:=Qc.binds (by ac_nf)
def Qd:AJ:=fdM "_law_take" pL LN 767 477
def Qe:Fun (HK.K P) "_law_take" "_law_take" pL 478 Qd:=mkF
def akv:NQ P "_law_take" 478:=by eq_refl
def akx:BQ P Qd ["pen","many"]:=Qe.binds (by ac_nf)
def Qf:AJ:=fdM "_law_signs" pM LN 767 482
def Qg:Fun (HK.K P) "_law_signs" "_law_signs" pM 483 Qf:=mkF
def aky:NQ P "_law_signs" 483:=by eq_refl
def akz:BQ P Qf ["pen","width","signs"]:=Qg.binds (by ac_nf)
def Qh:AJ:=fdM "_law_deeds_of" pN LN 767 515
def Qi:Fun (HK.K P) "_law_deeds_of" "_law_deeds_of" pN 516 Qh:=mkF
def akA:NQ P "_law_deeds_of" 516:=by eq_refl
def akB:BQ P Qh ["pen","most"]:=Qi.binds (by ac_nf)
def Qj:AJ:=fdM "_law_form" pO LN 767 489
def Qk:Fun (HK.K P) "_law_form" "_law_form" pO 490 Qj:=mkF
def akC:NQ P "_law_form" 490:=by eq_refl
def akD:BQ P Qj ["pen","width"]:=Qk.binds (by ac_nf)
def Ql:AJ:=fdM "_law_wider" pP LN 767 503
def Qm:Fun (HK.K P) "_law_wider" "_law_wider" pP 504 Ql:=mkF
def akE:NQ P "_law_wider" 504:=by eq_refl
def akF:BQ P Ql ["pen","form"]:=Qm.binds (by ac_nf)
def Qn:AJ:=fdM "_law_within" pQ LN 767 496
def Qo:Fun (HK.K P) "_law_within" "_law_within" pQ 497 Qn:=mkF
def akG:NQ P "_law_within" 497:=by eq_refl
def akH:BQ P Qn ["pen","form"]:=Qo.binds (by ac_nf)
def Qp:AJ:=fdM "_law_form_like" pR LN 767 510
def Qq:Fun (HK.K P) "_law_form_like" "_law_form_like" pR 511 Qp:=mkF
def akI:NQ P "_law_form_like" 511:=by eq_refl
def akJ:BQ P Qp ["pen","width","forms"]:=Qq.binds (by ac_nf)
def Qs:AJ:=fdM "_law_book" pU LN 767 522
def Qt:Fun (HK.K P) "_law_book" "_law_book" pU 523 Qs:=mkF
def akK:NQ P "_law_book" 523:=by eq_refl
def akL:BQ P Qs ["pen","widest","most"]:=Qt.binds (by ac_nf)
def Qu:AJ:=fdM "_law_open" pW LN 767 463
def Qv:Fun (HK.K P) "_law_open" "_law_open" pW 464 Qu:=mkF
def akM:NQ P "_law_open" 464:=by eq_refl
def akN:BQ P Qu ["script"]:=Qv.binds (by ac_nf)
def Qw:AJ:=fdM "_law_order" pX LN 767 527
def Qx:Fun (HK.K P) "_law_order" "_law_order" pX 528 Qw:=mkF
def akO:NQ P "_law_order" 528:=by eq_refl
def akP:BQ P Qw ["pen","many"]:=Qx.binds (by ac_nf)
def Qy:AJ:=fdM "how_many" pY "starsieve.forms" 310 171
def Qz:Fun (HK.K P) "how_many" "how_many" pY 172 Qy:=mkF
def akQ:NQ P "how_many" 172:=by eq_refl
def mU:BQ P Qy ["form"]:=Qz.binds (by ac_nf)
def QB:AJ:=fdM "both" pZ "starsieve.forms" 310 164
def QC:Fun (HK.K P) "both" "both" pZ 165 QB:=mkF
def akR:NQ P "both" 165:=by eq_refl
def mV:BQ P QB ["form","other"]:=QC.binds (by ac_nf)
def QD:AJ:=fdM "first_touching" p7 "starsieve.laid" 471 258
def QF:Fun (HK.K P) "first_touching" "first_touching" p7 259 QD:=mkF
def akS:NQ P "first_touching" 259:=by eq_refl
def mW:BQ P QD ["rows","box"]:=QF.binds (by ac_nf)
def QG:AJ:=fdM "splitting_place" p8 "starsieve.laid" 471 265
def QH:Fun (HK.K P) "splitting_place" "splitting_place" p8 266 QG:=mkF
def akT:NQ P "splitting_place" 266:=by eq_refl
def mX:BQ P QG ["rows","box"]:=QH.binds (by ac_nf)
def QJ:AJ:=fdM "with_sign" qb "starsieve.forms" 310 157
def QK:Fun (HK.K P) "with_sign" "with_sign" qb 158 QJ:=mkF
def akU:NQ P "with_sign" 158:=by eq_refl
def mY:BQ P QJ ["form","at","sign"]:=QK.binds (by ac_nf)
def Dl:AJ:=fdM "grown" qe "starsieve.laid" 471 270
def vR:Fun (HK.K P) "grown" "grown" qe 271 Dl:=mkF
def QL:NQ P "grown" 271:=by eq_refl
def j6:BQ P Dl ["name","many_rows","box"]:=vR.binds (by ac_nf)
def QM:AJ:=fdM "is_deed" qg "starsieve.books" 400 183
def QQ:Fun (HK.K P) "is_deed" "is_deed" qg 184 QM:=mkF
def akV:NQ P "is_deed" 184:=by eq_refl
def mZ:BQ P QM ["thing"]:=QQ.binds (by ac_nf)
def QR:AJ:=fdM "is_text_of" qi "starsieve.forms" 310 131
def QS:Fun (HK.K P) "is_text_of" "is_text_of" qi 132 QR:=mkF
def akW:NQ P "is_text_of" 132:=by eq_refl
def m5:BQ P QR ["signs","width","thing"]:=QS.binds (by ac_nf)
def QT:AJ:=fdM "is_form" qj "starsieve.forms" 310 145
def QV:Fun (HK.K P) "is_form" "is_form" qj 146 QT:=mkF
def akX:NQ P "is_form" 146:=by eq_refl
def m6:BQ P QT ["width","thing"]:=QV.binds (by ac_nf)
def QW:AJ:=fdM "is_row" ql "starsieve.books" 400 190
def QX:Fun (HK.K P) "is_row" "is_row" ql 191 QW:=mkF
def akY:NQ P "is_row" 191:=by eq_refl
def m7:BQ P QW ["width","thing"]:=QX.binds (by ac_nf)
def QZ:AJ:=fdM "is_whole" qm "starsieve.forms" 310 112
def Q0:Fun (HK.K P) "is_whole" "is_whole" qm 113 QZ:=mkF
def akZ:NQ P "is_whole" 113:=by eq_refl
def m8:BQ P QZ ["thing"]:=Q0.binds (by ac_nf)
def Q3:AJ:=fdM "is_width" qp "starsieve.forms" 310 119
def Q4:Fun (HK.K P) "is_width" "is_width" qp 120 Q3:=mkF
def ak0:NQ P "is_width" 120:=by eq_refl
def m9:BQ P Q3 ["thing"]:=Q4.binds (by ac_nf)
def Q5:AJ:=fdM "is_book" qt "starsieve.books" 400 195
def Q6:Fun (HK.K P) "is_book" "is_book" qt 196 Q5:=mkF
def ak1:NQ P "is_book" 196:=by eq_refl
def ni:BQ P Q5 ["thing"]:=Q6.binds (by ac_nf)
def Q7:AJ:=fdM "need_book" qu "starsieve.books" 400 202
def Q8:Fun (HK.K P) "need_book" "need_book" qu 203 Q7:=mkF
def ak2:NQ P "need_book" 203:=by eq_refl
def nq:BQ P Q7 ["book"]:=Q8.binds (by ac_nf)
def Q9:AJ:=fdM "stars" qw "starsieve.laid" 471 237
def Ra:Fun (HK.K P) "stars" "stars" qw 238 Q9:=mkF
def ak3:NQ P "stars" 238:=by eq_refl
def nu:BQ P Q9 ["width"]:=Ra.binds (by ac_nf)
def Rb:AJ:=fdM "laid" qx "starsieve.laid" 471 277
def Rc:Fun (HK.K P) "laid" "laid" qx 278 Rb:=mkF
def ak4:NQ P "laid" 278:=by eq_refl
def nA:BQ P Rb ["book"]:=Rc.binds (by ac_nf)
def Rf:AJ:=fdM "is_named" qy "starsieve.laid" 471 244
def Rg:Fun (HK.K P) "is_named" "is_named" qy 245 Rf:=mkF
def ak5:NQ P "is_named" 245:=by eq_refl
def nF:BQ P Rf ["name","many","thing"]:=Rg.binds (by ac_nf)
def Rh:AJ:=fdM "is_place" qz "starsieve.forms" 310 126
def Ri:Fun (HK.K P) "is_place" "is_place" qz 127 Rh:=mkF
def ak6:NQ P "is_place" 127:=by eq_refl
def nG:BQ P Rh ["many","thing"]:=Ri.binds (by ac_nf)
def Dm:AJ:=fdM "leaves" qC "starsieve.laid" 471 251
def vU:Fun (HK.K P) "leaves" "leaves" qC 252 Dm:=mkF
def Rj:NQ P "leaves" 252:=by eq_refl
def iZ:BQ P Dm ["box","tree"]:=vU.binds (by ac_nf)
def Rk:AJ:=fdM "counts" qD "starsieve.laid" 471 282
def Rm:Fun (HK.K P) "counts" "counts" qD 283 Rk:=mkF
def ak7:NQ P "counts" 283:=by eq_refl
def nH:BQ P Rk ["book"]:=Rm.binds (by ac_nf)
def Rn:AJ:=fdM "_law_by_deeds" eO LN 767 544
def Do:Fun (HK.K P) "_law_by_deeds" "_law_by_deeds" eO 545 Rn:=mkF
def ak8:NQ P "_law_by_deeds" 545:=by eq_refl
def ak9:BQ P Rn ["book"]:=Do.binds (by ac_nf)
def Ro:AJ:=fdM "least" qF "starsieve.forms" 310 178
def Dp:Fun (HK.K P) "least" "least" qF 179 Ro:=mkF
def ala:NQ P "least" 179:=by eq_refl
def alb:BQ P Ro ["form"]:=Dp.binds (by ac_nf)
def Rp:AJ:=fdM "need_two_books" qG "starsieve.books" 400 209
def Rq:Fun (HK.K P) "need_two_books" "need_two_books" qG 210 Rp:=mkF
def alc:NQ P "need_two_books" 210:=by eq_refl
def nJ:BQ P Rp ["one","other"]:=Rq.binds (by ac_nf)
def Rt:AJ:=fdM "deed_of" qH "starsieve.books" 400 230
def Ru:Fun (HK.K P) "deed_of" "deed_of" qH 231 Rt:=mkF
def ald:NQ P "deed_of" 231:=by eq_refl
def j7:BQ P Rt ["book","number"]:=Ru.binds (by ac_nf)
def Rv:AJ:=fdM "same_deeds" qI "starsieve.alike" 542 289
def Rw:Fun (HK.K P) "same_deeds" "same_deeds" qI 290 Rv:=mkF
def ale:NQ P "same_deeds" 290:=by eq_refl
def nM:BQ P Rv ["one","other","leaf"]:=Rw.binds (by ac_nf)
def Rx:AJ:=fdM "alike" qJ "starsieve.alike" 542 294
def Ry:Fun (HK.K P) "alike" "alike" qJ 295 Rx:=mkF
def alf:NQ P "alike" 295:=by eq_refl
def nO:BQ P Rx ["one","other"]:=Ry.binds (by ac_nf)
def Rz:AJ:=fdM "parting_word" qK "starsieve.alike" 542 301
def RB:Fun (HK.K P) "parting_word" "parting_word" qK 302 Rz:=mkF
def alg:NQ P "parting_word" 302:=by eq_refl
def nP:BQ P Rz ["one","other"]:=RB.binds (by ac_nf)
def RC:AJ:=fdM "need_row" qL "starsieve.books" 400 216
def RD:Fun (HK.K P) "need_row" "need_row" qL 217 RC:=mkF
def alh:NQ P "need_row" 217:=by eq_refl
def nQ:BQ P RC ["book","number"]:=RD.binds (by ac_nf)
def RG:AJ:=fdM "without" qM "starsieve.lean" 657 372
def RJ:Fun (HK.K P) "without" "without" qM 373 RG:=mkF
def ali:NQ P "without" 373:=by eq_refl
def nR:BQ P RG ["book","number"]:=RJ.binds (by ac_nf)
def RK:AJ:=fdM "_law_plain_steps" qN LN 767 534
def RL:Fun (HK.K P) "_law_plain_steps" "_law_plain_steps" qN 535 RK:=mkF
def alj:NQ P "_law_plain_steps" 535:=by eq_refl
def alm:BQ P RK ["order"]:=RL.binds (by ac_nf)
def RM:AJ:=fdM "is_order" qO "starsieve.moves" 569 313
def RN:Fun (HK.K P) "is_order" "is_order" qO 314 RM:=mkF
def aln:NQ P "is_order" 314:=by eq_refl
def nT:BQ P RM ["book","thing"]:=RN.binds (by ac_nf)
def RP:AJ:=fdM "need_order" qP "starsieve.moves" 569 320
def RQ:Fun (HK.K P) "need_order" "need_order" qP 321 RP:=mkF
def alo:NQ P "need_order" 321:=by eq_refl
def nU:BQ P RP ["book","order"]:=RQ.binds (by ac_nf)
def RT:AJ:=fdM "by_order" qQ "starsieve.moves" 569 332
def RV:Fun (HK.K P) "by_order" "by_order" qQ 333 RT:=mkF
def alp:NQ P "by_order" 333:=by eq_refl
def nW:BQ P RT ["book","order"]:=RV.binds (by ac_nf)
def RW:AJ:=fdM "first_order" qR "starsieve.moves" 569 308
def RX:Fun (HK.K P) "first_order" "first_order" qR 309 RW:=mkF
def alq:NQ P "first_order" 309:=by eq_refl
def nY:BQ P RW ["book"]:=RX.binds (by ac_nf)
def RZ:AJ:=fdM "is_good" qT "starsieve.moves" 569 346
def R0:Fun (HK.K P) "is_good" "is_good" qT 347 RZ:=mkF
def alr:NQ P "is_good" 347:=by eq_refl
def nZ:BQ P RZ ["book","order"]:=R0.binds (by ac_nf)
def R1:AJ:=fdM "exchanged" qU "starsieve.moves" 569 339
def R3:Fun (HK.K P) "exchanged" "exchanged" qU 340 R1:=mkF
def als:NQ P "exchanged" 340:=by eq_refl
def n6:BQ P R1 ["things","place"]:=R3.binds (by ac_nf)
def R4:AJ:=fdM "steps_from" qW "starsieve.moves" 569 351
def R5:Fun (HK.K P) "steps_from" "steps_from" qW 352 R4:=mkF
def alu:NQ P "steps_from" 352:=by eq_refl
def oh:BQ P R4 ["order"]:=R5.binds (by ac_nf)
def R6:AJ:=fdM "good_ways" qX "starsieve.moves" 569 358
def R7:Fun (HK.K P) "good_ways" "good_ways" qX 359 R6:=mkF
def alv:NQ P "good_ways" 359:=by eq_refl
def alw:BQ P R6 ["book","order"]:=R7.binds (by ac_nf)
def R8:AJ:=fdM "need_movable" qY "starsieve.moves" 569 327
def R9:Fun (HK.K P) "need_movable" "need_movable" qY 328 R8:=mkF
def alx:NQ P "need_movable" 328:=by eq_refl
def ou:BQ P R8 ["book"]:=R9.binds (by ac_nf)
def Sd:AJ:=fdM "way" qZ "starsieve.moves" 569 365
def Sg:Fun (HK.K P) "way" "way" qZ 366 Sd:=mkF
def aly:NQ P "way" 366:=by eq_refl
def alz:BQ P Sd ["book","order"]:=Sg.binds (by ac_nf)
def Sq:AJ:=fdQ "__init__" "Sieve.__init__" q8 "starsieve.sieve" 669 386
def Ss:Fun (HK.K P) "__init__" "Sieve.__init__" q8 387 Sq:=mkQ
def alA:Mk (HK.K P) 446 387:=⟨by eq_refl,by eq_refl,by eq_refl,by eq_refl⟩
def alB:BQ P Sq ["self","book"]:=Ss.binds (by ac_nf)
def Su:AJ:=fdQ "book" "Sieve.book" q9 "starsieve.sieve" 669 393
def Sw:Fun (HK.K P) "book" "Sieve.book" q9 394 Su:=mkQ
def alC:Meth (HK.K P) 446 (⇑"book") 394:=⟨by eq_refl,by eq_refl,by eq_refl⟩
def oA:BQ P Su ["self"]:=Sw.binds (by ac_nf)
def Sy:AJ:=fdQ "turn" "Sieve.turn" rn "starsieve.sieve" 669 414
def SJ:Fun (HK.K P) "turn" "Sieve.turn" rn 415 Sy:=mkQ
def alD:Meth (HK.K P) 446 (⇑"turn") 415:=⟨by eq_refl,by eq_refl,by eq_refl⟩
def oE:BQ P Sy ["self","rows"]:=SJ.binds (by ac_nf)
def SN:AJ:=fdQ "move" "Sieve.move" rA "starsieve.sieve" 669 435
def SQ:Fun (HK.K P) "move" "Sieve.move" rA 436 SN:=mkQ
def alE:Meth (HK.K P) 446 (⇑"move") 436:=⟨by eq_refl,by eq_refl,by eq_refl⟩
def oF:BQ P SN ["self","number","place"]:=SQ.binds (by ac_nf)
def SX:AJ:=fdM "_law_moved" rB LN 767 539
def S5:Fun (HK.K P) "_law_moved" "_law_moved" rB 540 SX:=mkF
def alF:NQ P "_law_moved" 540:=by eq_refl
def alG:BQ P SX ["book","steps"]:=S5.binds (by ac_nf)
def S6:AJ:=fdM "_law_right" rD LN 767 549
def S7:Fun (HK.K P) "_law_right" "_law_right" rD 550 S6:=mkF
def alH:NQ P "_law_right" 550:=by eq_refl
def alI:BQ P S6 ["book","order"]:=S7.binds (by ac_nf)
def Dq:AJ:=fdM "law" rE LN 767 556
def alJ:Fun (HK.K P) "law" "law" rE 557 Dq:=mkF
def alK:NQ P "law" 557:=by eq_refl
def alL:PySem.W.nsIn (HK.K P) mainGlobals "all"=-none:=by eq_refl
def alM:PySem.W.nsIn (HK.K P) mainGlobals "bool"=-none:=by eq_refl
def alN:PySem.W.nsIn (HK.K P) mainGlobals "enumerate"=-none:=by eq_refl
def alO:PySem.W.nsIn (HK.K P) mainGlobals "int"=-none:=by eq_refl
def alP:PySem.W.nsIn (HK.K P) mainGlobals "isinstance"=-none:=by eq_refl
def alQ:PySem.W.nsIn (HK.K P) mainGlobals "len"=-none:=by eq_refl
def alR:PySem.W.nsIn (HK.K P) mainGlobals "list"=-none:=by eq_refl
def alS:PySem.W.nsIn (HK.K P) mainGlobals "min"=-none:=by eq_refl
def alT:PySem.W.nsIn (HK.K P) mainGlobals "range"=-none:=by eq_refl
def alU:PySem.W.nsIn (HK.K P) mainGlobals "sorted"=-none:=by eq_refl
def alV:PySem.W.nsIn (HK.K P) mainGlobals "str"=-none:=by eq_refl
def alW:PySem.W.nsIn (HK.K P) mainGlobals "tuple"=-none:=by eq_refl
def alX:PySem.W.nsIn (HK.K P) mainGlobals "zip"=-none:=by eq_refl
def alY:PySem.W.nsIn (HK.K P) mainGlobals "LETTERS"=-(-(.str "abcdefghijklmnopqrstuvwxyz" 406)):=by eq_refl
def alZ:PySem.W.nsIn (HK.K P) mainGlobals "LONGEST_DEED"=-(-(.int 8 404)):=by eq_refl
def al0:PySem.W.nsIn (HK.K P) mainGlobals "MOST_ROWS"=-(-(.int 12 402)):=by eq_refl
def al1:PySem.W.nsIn (HK.K P) mainGlobals "MOST_ROWS_MOVED"=-(-(.int 5 571)):=by eq_refl
def al2:PySem.W.nsIn (HK.K P) mainGlobals "WIDEST"=-(-(.int 6 312)):=by eq_refl
def al3:PySem.W.nsIn (HK.K P) mainGlobals "WIDEST_MOVED"=-(-(.int 4 573)):=by eq_refl
def x_s:xsB (HK.K P) xs=true:=by eq_refl
end
section
variable {l:PySem.W.OpenLaw} {w:World} {h:Heap} {mg:AH} {base:Heap} (X:(HK.K w.params).In h) (G:h.Ns mainGlobals mg)
include X G
theorem B0:BB l w mg base 0 f0 o0:=bse trivial ⟨mg_none_of X G alL,mg_none_of X G alM,mg_none_of X G alN,mg_none_of X G alO,mg_none_of X G alP,mg_none_of X G alQ,mg_none_of X G alR,mg_none_of X G alS,mg_none_of X G alT,mg_none_of X G alU,mg_none_of X G alV,mg_none_of X G alW,mg_none_of X G alX,trivial⟩ ⟨afh (mg_of X G alY) (by ac_rfl) (!1),mR (mg_of X G alZ),mR (mg_of X G al0),mR (mg_of X G al1),mR (mg_of X G al2),mR (mg_of X G al3),trivial⟩ X G x_s
def B1:BB l w mg base 1 f1 o0:=(B0 X G).step P0 aks (mg_of X G akr) Od 0 aiu aiv rfl rfl (cO (λds G h=>afr Z  ds G h))
def B2:BB l w mg base 2 f2 o0:=(B1 X G).step Qc aku (mg_of X G akt) Oe 3 aiw aix rfl rfl (cO (λds G h=>afq Z  ds G h))
def B3:BB l w mg base 3 f3 o0:=(B2 X G).step Qe akx (mg_of X G akv) gK 3 aiy aiz rfl rfl (cO (λds G h=>afs Z Oe ds G h))
def B4:BB l w mg base 4 f4 o0:=(B3 X G).step Qg akz (mg_of X G aky) CW 0 aiA aiB rfl rfl (cO (λds G h=>afv Z gK ds G h))
def B5:BB l w mg base 5 f5 o0:=(B4 X G).step Qi akB (mg_of X G akA) Og 4 aiC aiD rfl rfl (cO (λds G h=>afK Z gK CW ds G h))
def B6:BB l w mg base 6 f6 o0:=(B5 X G).step Qk akD (mg_of X G akC) Oh 0 aiE aiF rfl rfl (cO (λds G h=>afw Z gK CW ds G h))
def B7:BB l w mg base 7 f7 o0:=(B6 X G).step Qm akF (mg_of X G akE) Oi 2 aiG aiH rfl rfl (cO (λds G h=>afC Z gK ds G h))
def B8:BB l w mg base 8 f8 o0:=(B7 X G).step Qo akH (mg_of X G akG) Oj 2 aiI aiJ rfl rfl (cO (λds G h=>afB Z gK ds G h))
def B9:BB l w mg base 9 f9 o0:=(B8 X G).step Qq akJ (mg_of X G akI) Ol 3 aiK aiL rfl rfl (cO (λds G h=>afH Z gK Oh Oj Oi ds G h))
def B10:BB l w mg base 10 f10 o0:=(B9 X G).step Qt akL (mg_of X G akK) Om 5 aiM aiN rfl rfl (cO (λds G h=>afN Z gK Og Ol ds G h))
def B11:BB l w mg base 11 f11 o0:=(B10 X G).step Qv akN (mg_of X G akM) Oo 3 aiO aiP rfl rfl (cO (λds G h=>afx Z  ds G h))
def B12:BB l w mg base 12 f12 o0:=(B11 X G).step Qx akP (mg_of X G akO) Oq 1 aiQ aiR rfl rfl (eE (λa ds G h=>ahA Z gK a ds G h))
def B13:BB l w mg base 13 f13 o0:=(B12 X G).step Qz mU (mg_of X G akQ) Ot 2 aiS aiT rfl rfl (iW (λds G d h=>agv Z  ds G d h))
def B14:BB l w mg base 14 f14 o0:=(B13 X G).step QC mV (mg_of X G akR) Ou 3 aiU aiV rfl rfl (iW (λds G d h=>af6 Z  ds G d h))
def B15:BB l w mg base 15 f15 o0:=(B14 X G).step QF mW (mg_of X G akS) CZ 2 aiW aiX rfl rfl (cO (λds G h=>agd Z Ou ds G h))
def B16:BB l w mg base 16 f16 o0:=(B15 X G).step QH mX (mg_of X G akT) Ov 3 aiY aiZ rfl rfl (cO (λds G h=>agg Z CZ ds G h))
def B17:BB l w mg base 17 f17 o0:=(B16 X G).step QK mY (mg_of X G akU) Dc 0 ai0 ai1 rfl rfl (iW (λds G d h=>af8 Z  ds G d h))
def S8:∀n:Nat,FnOk l.prog w (HK.K w.params) mg base (CX1 l.prog w) (17+n) 271 Dl ["name","many_rows","box"] (lift (HK.K w.params) 3 (fG n))
 |0=>K6 agl
 |n+1=>mO (fs:=f18) vR ((B17 X G).self (by ac_rfl) (S8 n) vR.kp j6 (mg_of X G QL)) (fG (n+1)) 3 4 ai2 ai3 rfl rfl (cO (λds G h=>agk (iY Z "grown" (fG n)) n (if_pos rfl) (j5 CZ rfl) (j5 Ov rfl) (j5 Dc rfl) ds G h))
def B18:BB l w mg base 26 f18 o0:=(B17 X G).add (j:=9) Dd (S8 X G 9) vR.kp j6 (mg_of X G QL)
def B19:BB l w mg base 27 f19 o0:=(B18 X G).step QQ mZ (mg_of X G akV) Ow 0 ai4 ai5 rfl rfl (cg (λa G h=>afU Z  a G h))
def B20:BB l w mg base 28 f20 o0:=(B19 X G).step QS m5 (mg_of X G akW) Oz 0 ai6 ai7 rfl rfl (cg (λa G h=>afS Z  a G h))
def B21:BB l w mg base 29 f21 o0:=(B20 X G).step QV m6 (mg_of X G akX) OD 0 ai8 ai9 rfl rfl (cg (λa G h=>afT Z Oz a G h))
def B22:BB l w mg base 30 f22 o0:=(B21 X G).step QX m7 (mg_of X G akY) OJ 0 aja ajb rfl rfl (cg (λa G h=>afV Z OD Ow a G h))
def B23:BB l w mg base 31 f23 o0:=(B22 X G).step Q0 m8 (mg_of X G akZ) De 0 ajc ajd rfl rfl (iW (λds G d h=>afy Z  ds G d h))
def B24:BB l w mg base 32 f24 o0:=(B23 X G).step Q4 m9 (mg_of X G ak0) O1 0 aje ajf rfl rfl (cg (λa G h=>afW Z De a G h))
def B25:BB l w mg base 33 f25 o0:=(B24 X G).step Q6 ni (mg_of X G ak1) O2 2 ajg ajh rfl rfl (cg (λa G h=>afX Z O1 OJ a G h))
def B26:BB l w mg base 34 f26 o0:=(B25 X G).step Q8 nq (mg_of X G ak2) jl 0 aji ajj rfl rfl (cg (λa G h=>afY Z O2 a G h))
def B27:BB l w mg base 35 f27 o0:=(B26 X G).step Ra nu (mg_of X G ak3) vO 0 ajk ajl rfl rfl (iW (λds G d h=>af9 Z  ds G d h))
def B28:BB l w mg base 36 f28 o0:=(B27 X G).step Rc nA (mg_of X G ak4) O3 2 ajm ajn rfl rfl (cO (λds G h=>ago Z jl Dd vO ds G h))
def B29:BB l w mg base 37 f29 o0:=(B28 X G).step Rg nF (mg_of X G ak5) O4 0 ajo ajp rfl rfl (iW (λds G d h=>agr Z  ds G d h))
def B30:BB l w mg base 38 f30 o0:=(B29 X G).step Ri nG (mg_of X G ak6) vP 0 ajq ajr rfl rfl (iW (λds G d h=>agp Z De ds G d h))
def S9:∀n:Nat,FnOk l.prog w (HK.K w.params) mg base (CX1 l.prog w) (38+n) 252 Dm ["box","tree"] (lift (HK.K w.params) 2 (eG n))
 |0=>K6 agw
 |n+1=>mO (fs:=f31) vU ((B30 X G).self (by ac_rfl) (S9 n) vU.kp iZ (mg_of X G Rj)) (eG (n+1)) 2 3 ajs ajt rfl rfl (cg (λa G h=>agy (iY Z "leaves" (eG n)) n (if_pos rfl) (j5 O4 rfl) (j5 vP rfl) (j5 Dc rfl) a G h))
def B31:BB l w mg base 47 f31 o0:=(B30 X G).add (j:=9) Df (S9 X G 9) vU.kp iZ (mg_of X G Rj)
def B32:BB l w mg base 48 f32 o0:=(B31 X G).step Rm nH (mg_of X G ak7) O5 7 aju ajv rfl rfl (eE (λa ds G h=>agH Z O3 Df vO Ot a ds G h))
def B33:BB l w mg base 49 f33 o0:=(B32 X G).add (j:=1) O6 (akk Do (B32 X G) O5 (!1) (!1) akl) Do.kp ak9 (mg_of X G ak8)
def B34:BB l w mg base 50 f34 o0:=(B33 X G).add (j:=1) O7 ((akq Dp).cx.mono (!1)) Dp.kp alb (mg_of X G ala)
def B35:BB l w mg base 51 f35 o0:=(B34 X G).step Rq nJ (mg_of X G alc) O8 0 ajw ajx rfl rfl (cg (λa G h=>agR Z jl a G h))
def B36:BB l w mg base 52 f36 o0:=(B35 X G).step Ru j7 (mg_of X G ald) O9 0 ajy ajz rfl rfl (cO (λds G h=>af1 Z  ds G h))
def B37:BB l w mg base 53 f37 o0:=(B36 X G).step Rw nM (mg_of X G ale) Pa 0 ajA ajB rfl rfl (cg (λa G h=>agT Z O9 a G h))
def B38:BB l w mg base 54 f38 o0:=(B37 X G).step Ry nO (mg_of X G alf) Dg 3 ajC ajD rfl rfl (eE (λa ds G h=>agU Z O8 Dd Df O7 vO Pa a ds G h))
def B39:BB l w mg base 55 f39 o0:=(B38 X G).step RB nP (mg_of X G alg) Dh 2 ajE ajF rfl rfl (cg (λa G h=>agV Z Dg a G h))
def B40:BB l w mg base 56 f40 o0:=(B39 X G).step RD nQ (mg_of X G alh) Di 0 ajG ajH rfl rfl (cg (λa G h=>agP Z jl vP a G h))
def B41:BB l w mg base 57 f41 o0:=(B40 X G).step RJ nR (mg_of X G ali) Pb 2 ajI ajJ rfl rfl (cg (λa G h=>ag1 Z Di a G h))
def B42:BB l w mg base 58 f42 o0:=(B41 X G).step RL alm (mg_of X G alj) Pg 4 ajK ajL rfl rfl (eE (λa ds G h=>ahU Z  a ds G h))
def B43:BB l w mg base 59 f43 o0:=(B42 X G).step RN nT (mg_of X G aln) Ph 1 ajM ajN rfl rfl (cg (λa G h=>ahn Z vP a G h))
def B44:BB l w mg base 60 f44 o0:=(B43 X G).step RQ nU (mg_of X G alo) Dj 0 ajO ajP rfl rfl (cg (λa G h=>aho Z Ph a G h))
def B45:BB l w mg base 61 f45 o0:=(B44 X G).step RV nW (mg_of X G alp) Dk 2 ajQ ajR rfl rfl (cg (λa G h=>aht Z jl Dj a G h))
def B46:BB l w mg base 62 f46 o0:=(B45 X G).step RX nY (mg_of X G alq) Pj 0 ajS ajT rfl rfl (cg (λa G h=>ahh Z  a G h))
def B47:BB l w mg base 63 f47 o0:=(B46 X G).step R0 nZ (mg_of X G alr) Pk 0 ajU ajV rfl rfl (cg (λa G h=>ahv Z Dh Dk a G h))
def B48:BB l w mg base 64 f48 o0:=(B47 X G).step R3 n6 (mg_of X G als) Pn 0 ajW ajX rfl rfl (cg (λa G h=>ahx Z  a G h))
def B49:BB l w mg base 65 f49 o0:=(B48 X G).step R5 oh (mg_of X G alu) Pq 0 ajY ajZ rfl rfl (cg (λa G h=>ahD Z Pn a G h))
def B50:BB l w mg base 66 f50 o0:=(B49 X G).step R7 alw (mg_of X G alv) Pr 7 aj0 aj1 rfl rfl (eE (λa ds G h=>ahK Z ⟨Pj,Pq,Pk⟩ a ds G h))
def B51:BB l w mg base 67 f51 o0:=(B50 X G).step R9 ou (mg_of X G alx) Pu 2 aj2 aj3 rfl rfl (cg (λa G h=>ahq Z jl a G h))
def B52:BB l w mg base 68 f52 o0:=(B51 X G).step Sg alz (mg_of X G aly) Px 1 aj4 aj5 rfl rfl (eE (λa ds G h=>ahO Z ⟨Pu,Dj,Pr⟩ a ds G h))
def BF:BB l w mg base 68 f52 o1:=(B52 X G).addF ⟨446,lq,rF,PP⟩
def B53:BB l w mg base 70 f52 o2:=(BF X G).addK (j:=2) (afm (BF X G) Ss alB (mg_of X G lq) lq rF PP alA aj6 aj7 rfl rfl (λd G kk E h=>ahd Z jl Py d G kk E h))
def B54:BB l w mg base 71 f52 o3:=(B53 X G).stepM0 Sw oA lq rF alC vQ 0 aj8 aj9 rfl rfl (eE (λa ds G h=>ag3 Z  a ds G h))
def B55:BB l w mg base 72 f52 o4:=(B54 X G).stepM0 SJ oE lq rF alD Pz 1 aka akb rfl rfl (eE (λa ds G h=>ag8 Z vQ Dh a ds G h))
def B56:BB l w mg base 73 f52 o5:=(B55 X G).stepM0 SQ oF lq rF alE PJ 2 akc akd rfl rfl (eE (λa ds G h=>ahb Z vQ Pz Pb Di a ds G h))
def B57:BB l w mg base 74 f53 o5:=(B56 X G).step S5 alG (mg_of X G alF) PK 2 ake akf rfl rfl (eE (λa ds G h=>ah0 Z Py PJ vQ a ds G h))
def B58:BB l w mg base 75 f54 o5:=(B57 X G).step S7 alI (mg_of X G alH) PL 7 akg akh rfl rfl (eE (λa ds G h=>aim Z ⟨Px,Dk,PK,Pg,Dg,O6⟩ a ds G h))
def al4:FnOk l.prog w (HK.K w.params) mg base (CX1 l.prog w) 76 557 Dq ["script"] (lift (HK.K w.params) 1 (oH)):=mO alJ (B58 X G) (oH) 1 4 aki akj rfl rfl (cO (λds G h=>ain Z ⟨Oo,Od,Om,Oq,PL⟩ ds G h))
omit X G in
theorem all (fa:AQ) (X:(HK.K w.params).In h) (G:h.Ns mainGlobals mg) (g:mg "law"=-(.ref fa)):∃fd:AJ,(∀(s:AI) (v:AN),BindsTo s fd ⟨[v],[]⟩ [("script",v)])/\∀base:Heap,(HK.K w.params).In base->base.Ns mainGlobals mg->FnOk l.prog w (HK.K w.params) mg base (CX1 l.prog w) 76 fa fd ["script"] (lift (HK.K w.params) 1 (oH)):=by have e:=g.symm.trans (PySem.W.mg_of X G alK);cases e;exact⟨Dq,λs v=>.of_eq rfl,λbase z z=>al4 X G⟩
end
def walk {l:PySem.W.OpenLaw} {q:AK} {loose:AD} {XP:(AH)->Heap->Prop} {d:DefRec} (hn:l.most=-63) (g:d.params.defaults=[]) (I:d.name="law"):
  PySem.W.WalkO q loose XP HK.hook.says l.row.toRowW d [] (λf vs=>PySem.call f vs):=
 L2.WN (n:=63) (k:=76) (x:="script") (K:=HK.K) (CX:=λw=>CX1 l.prog w) (sp:=λw=>lift (HK.K w.params) 1 (oH)) hn (!1) g ⟨rfl,!1,!1⟩ (λy y Y=>Y) (λw mg fa h X G J=>all fa X G (I ▸ J)) (λw H a ns hl L N=>afi (afj λns y hl=>⟨ns,rfl,hl⟩) (HK.K w.params) H a ns hl L N) λy y y y y z=>ab5 z
end Lk81
end
open PySem PySem.W PyProof.Rows
set_option maxHeartbeats 0 in
theorem PySem.Challenge.cw_starsieve_k81_whole_ways_by_a_sieve_holds : PySem.Challenge.rw_starsieve_k81_whole_ways_by_a_sieve.Holds := by
 have said:PySem.Challenge.rw_starsieve_k81_whole_ways_by_a_sieve.row.wellSaid=true:=wsR
 refine ⟨wsL,?_⟩;refine PySem.W.holds_open (q:=HK.qv) (loose:=[]) (Xt:=HK.Xt) (XP:=XL HK.qv []) (Yf:=HK.hook.obs) (Ya:=HK.hook.val) (YP:=HK.hook.says) (N:=12000) HK.left HK.hook.of HK.hook.keeps
  (λs e=>xl_of s (Bool.and_eq_true_iff.mp e).1) XL.keeps (by rfl) (by rfl) (by rfl) (λs e=>recFacts_of (Bool.and_eq_true_iff.mp e).2) (by rfl) (by assumption) (by decide +kernel) ⟨rfl,rfl,rfl,rfl,rfl,by decide +kernel⟩ ?hw ?hc
 case hw=>exact ⟨[.list []],by decide +kernel,by decide +kernel⟩
 exact Lk81.walk rfl rfl rfl
