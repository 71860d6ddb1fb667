import PyProof.Rows.All
import Wide.All
import OpenK.AllK
import Wide.FinOn
import Lean
import PyProof.EqAt
import PyProof.EqKinds
import PyProof.TupleCall
import PySem.Challenge.RW_wellkind_k12_whole_never_stuck
set_option Elab.async false
set_option linter.all false
set_option maxRecDepth 100000
set_option bootstrap.genMatcherCode false
set_option compiler.extract_closed false
set_option compiler.reuse false
theorem ze1{α0:Sort _}{p:α0->Prop}{G:Prop}(k:∀a,p a->G)(h:∃a,p a):G:=by obtain⟨a,h⟩:=h;exact k a h
theorem ze2{α0:Sort _}{α1:Sort _}{p:α0->α1->Prop}{G:Prop}(k:∀a b,p a b->G)(h:∃a b,p a b):G:=by obtain⟨a,b,h⟩:=h;exact k a b h
theorem ze3{α0:Sort _}{α1:Sort _}{α2:Sort _}{p:α0->α1->α2->Prop}{G:Prop}(k:∀a b c,p a b c->G)(h:∃a b c,p a b c):G:=by obtain⟨a,b,c,h⟩:=h;exact k a b c h
theorem ze4{α0:Sort _}{α1:Sort _}{α2:Sort _}{α3:Sort _}{p:α0->α1->α2->α3->Prop}{G:Prop}(k:∀a b c d,p a b c d->G)(h:∃a b c d,p a b c d):G:=by obtain⟨a,b,c,d,h⟩:=h;exact k a b c d h
theorem ze5{α0:Sort _}{α1:Sort _}{α2:Sort _}{α3:Sort _}{α4:Sort _}{p:α0->α1->α2->α3->α4->Prop}{G:Prop}(k:∀a b c d e,p a b c d e->G)(h:∃a b c d e,p a b c d e):G:=by obtain⟨a,b,c,d,e,h⟩:=h;exact k a b c d e h
theorem za2{A B Z:Prop}(k:A->B->Z)(h:A/\B):Z:=by obtain⟨a,b⟩:=h;exact k a b
theorem za3{A B C Z:Prop}(k:A->B->C->Z)(h:A/\B/\C):Z:=by obtain⟨a,b,c⟩:=h;exact k a b c
theorem za4{A B C D Z:Prop}(k:A->B->C->D->Z)(h:A/\B/\C/\D):Z:=by obtain⟨a,b,c,d⟩:=h;exact k a b c d
theorem za5{A B C D E Z:Prop}(k:A->B->C->D->E->Z)(h:A/\B/\C/\D/\E):Z:=by obtain⟨a,b,c,d,e⟩:=h;exact k a b c d e
theorem xa1{α0:Sort _}{A B:α0->Prop}(a:α0)(x:A a)(y:B a):∃a,A a/\B a:=⟨a,x,y⟩
theorem xa2{α0 α1:Sort _}{A B:α0->α1->Prop}(a:α0)(b:α1)(x:A a b)(y:B a b):∃a b,A a b/\B a b:=⟨a,b,x,y⟩
theorem xa3{α0 α1 α2:Sort _}{A B:α0->α1->α2->Prop}(a:α0)(b:α1)(c:α2)(x:A a b c)(y:B a b c):∃a b c,A a b c/\B a b c:=⟨a,b,c,x,y⟩
theorem xa4{α0 α1 α2 α3:Sort _}{A B:α0->α1->α2->α3->Prop}(a:α0)(b:α1)(c:α2)(d:α3)(x:A a b c d)(y:B a b c d):∃a b c d,A a b c d/\B a b c d:=⟨a,b,c,d,x,y⟩
theorem xa5{α0 α1 α2 α3 α4:Sort _}{A B:α0->α1->α2->α3->α4->Prop}(a:α0)(b:α1)(c:α2)(d:α3)(e:α4)(x:A a b c d e)(y:B a b c d e):∃a b c d e,A a b c d e/\B a b c d e:=⟨a,b,c,d,e,x,y⟩
theorem xa6{α0 α1 α2 α3 α4 α5:Sort _}{A B:α0->α1->α2->α3->α4->α5->Prop}(a:α0)(b:α1)(c:α2)(d:α3)(e:α4)(f:α5)(x:A a b c d e f)(y:B a b c d e f):∃a b c d e f,A a b c d e f/\B a b c d e f:=⟨a,b,c,d,e,f,x,y⟩
theorem xa0{A B:Prop}(x:A)(y:B):A/\B:=⟨x,y⟩
theorem zhG(P:Prop)(h:∀G:Prop,(P->G)->G):P:=h P id
open Lean(Syntax MacroM mkNode mkAtom mkNullNode mkIdent mkSepArray)
def zN_(P:String)(k:List Char)(c:Array Syntax):Syntax:=mkNode ("Lean.Parser."++P++String.ofList k).toName c
def zT_(k:String)(c:Array Syntax):Syntax:=zN_ "Tactic." k.toList c
def zS_(c:Array Syntax):Syntax:=zT_ "tacticSeq" #[zT_ "tacticSeq1Indented" #[mkNullNode (mkSepArray c (mkAtom ";"))]]
def zB_(x:Syntax):Syntax:=mkNode `group #[mkAtom "|",zS_ #[x]]
def zE_(k:List Char)(c:Array Syntax):Syntax:=match k with
|'M'::r=>zN_ "Term." r c
|'T'::r=>zN_ "Tactic." r c
|'t'::r=>zN_ "Tactic." r (#[mkAtom (String.ofList r)]++c)
|'C'::r=>zN_ "" r c
|'K'::r=>mkNode (.mkSimple (String.ofList r)) c
|'n'::_=>mkNullNode c
|'S'::_=>zS_ c
|'P'::_=>zT_ "paren" #[mkAtom "(",zS_ c,mkAtom ")"]
|'F'::_=>zT_ "first" #[mkAtom "first",mkNullNode (c.map zB_)]
|'H'::_=>zN_ "Term." ("hygienicLParen").toList #[mkAtom "(",mkNode `hygieneInfo #[mkIdent .anonymous]]
|_=>if c.size<2 then c[0]! else zN_ "Term.app" [] #[c[0]!,mkNullNode (c.extract 1 c.size)]
def zx_(a:Array Syntax)(t:List (List Char×Array Syntax))(w:String):List (List Char×Array Syntax):=match w.toList,t with
|'('::k,_=>(k,#[])::t
|[')'],(k,c)::(l,d)::r=>(l,d.push (zE_ k c))::r
|x,(k,c)::r=>(k,c.push (match x with
 |'\''::y=>mkAtom (String.ofList y)
 |'$'::d::_=>a[d.toNat-48]!
 |'@'::y=>zN_ "Term.explicit" [] #[mkAtom "@",mkIdent (String.ofList y).toName]
 |'?'::_=>zN_ "Term.syntheticHole" [] #[mkAtom "?",mkAtom "_"]
 |['_']=>zN_ "Term.hole" [] #[mkAtom w]
 |'~'::_=>mkNullNode
 |'^'::_=>zT_ "optConfig" #[mkNullNode]
 |_=>mkIdent w.toName))::r
|_,_=>t
def zq_(s:String)(a:Array Syntax:=#[]):Syntax:=match (s.splitOn " ").foldl (zx_ a) [([],#[])] with
|(_,c)::_=>zE_ [] c
|_=>.missing
def zo_:Option Syntax->MacroM Syntax
|some t=>pure t
|_=>Lean.Macro.throwUnsupported
def zz_(s:Syntax):Bool:=s.getNumArgs==0
def zk_(s:Syntax)(k:String):Bool:=s.getKind.getString!==k
def zh_(t:Syntax):Bool:=zk_ t "syntheticHole"||zk_ t "explicit"&&t[1].getId.toString.startsWith "q"
def zl_(T:String)(s:Syntax):Option Syntax:=match T.splitOn ("\n"++s[1].getId.toString++" ") with
|[_,b]=>zq_ ((b.splitOn "\n").headD "")
|_=>none
def zA_:="
r rfl
l (MbyTactic 'by (S (tleft ) ) )
y (MbyTactic 'by (S (tsymm ~ ) ) )
d (MbyTactic 'by (S (tdecide ^ ) ) )
o (MbyTactic 'by (S (tomega ^ ) ) )
s (MbyTactic 'by (S (tsimp ^ ~ ~ ~ ~ ) ) )
f (MbyTactic 'by (S (TtacticRfl 'rfl ) ) )
n (Mfun 'fun (MbasicFun (n z ) ~ '=> (Mnomatch 'nomatch (n z ) ) ) )
m (Mfun 'fun (MbasicFun (n _ z ) ~ '=> (Mnomatch 'nomatch (n z ) ) ) )
k (Mfun 'fun (MbasicFun (n _ _ z ) ~ '=> (Mnomatch 'nomatch (n z ) ) ) )
i ( (MdotIdent '. inl ) rfl )
e (Mfun 'fun (MbasicFun (n _ _ ) ~ '=> rfl ) )
h (Mfun 'fun (MbasicFun (n _ ) ~ '=> rfl ) )
g (Mfun 'fun (MbasicFun (n _ _ _ ) ~ '=> rfl ) )
z (MbyTactic 'by (S (tsimp ^ ~ ~ ~ ~ ) (tomega ^ ) ) )
t ( (MdotIdent '. lst ) List.nil )
a (Mtuple (H ) (n @r ', (n @r ', @r ', (MbyTactic 'by (S (tsymm ~ ) ) ) ', @r ', (MbyTactic 'by (S (tsymm ~ ) ) ) ', (MbyTactic 'by (S (tsymm ~ ) ) ) ) ) ') )
q (Mfun 'λ (MbasicFun (n ez A outer s H vs Q E hr h ) ~ '=> ?_ ) )
b ( eO @l @l (MbyTactic 'by (S (TwithUnfoldingAll 'with_unfolding_all (S (TtacticRfl 'rfl ) ) ) ) ) )
qa (Mfun 'λ (MbasicFun (n ez A outer s H E as r hr h ) ~ '=> ?_ ) )
c (Mtuple (H ) (n υ ', (n ( eval e X.env ) ', ) ) ') )
j ( (MdotIdent '. Name ) x p2 )
p ( bq @l @y )
u (Kterm_×_ af '× Obj )
v ( model prog w )
qb (Mfun 'λ (MbasicFun (n _ ) ~ '=> ?_ ) )
w ( (MdotIdent '. Call ) ( (MdotIdent '. Name ) x p ) (Kterm_::_ e ':: es ) (Kterm[_] '[ ~ '] ) pos )
qc (Mfun 'λ (MbasicFun (n vs H Q E h ) ~ '=> ?_ ) )
x ( (MdotIdent '. ref ) a )
A ( bB @r )
B ( tm P w base )
C ( hr.mono @d )
D ( hr.mono @o )
E ( aj _ )
F ( bM.refl H )
H ( s1.trans s2 )
I ( aq es X.env )
J (Mfun 'λ (MbasicFun (n x ) ~ '=> (Mtuple (H ) (n (Kterm_++_ p '++ (Mproj x '. (KfieldIdx '1 ) ) ) ', (n (Mproj x '. (KfieldIdx '2 ) ) ', ) ) ') ) ) )
K ( qS @B P w K mg base N qual ( az st ) f ez A outer s H E )
M (Kterm_==_ apos.endLine '== cU.line )
N ( dv x x ( iB st ) ( dE st ) ( az st ) (MdotIdent '. none ) kV doc pm an ez ct )
Q ( bC.of_same s2 )
R ( (MdotIdent '. node ) b o )
qd (Mfun 'λ (MbasicFun (n as r h ) ~ '=> ?_ ) )
S ( (MdotIdent '. str ) x )
T ( (MdotIdent '. int ) i )
U ( dU I q @s )
qe (Mfun 'λ (MbasicFun (n ez A outer s H E as o hr h hE ) ~ '=> ?_ ) )
V ( X.oY scope cl xs C s0 H0 fp π )
W ( (MdotIdent '. lst ) vs )
X (Kterm_+_ i '+ (Knum '1 ) )
Y ( (MdotIdent '. ref ) C )
Z ( pv (Knum '0 ) )
aa ( X.within X.A.in1.in1 )
ab ( (MdotIdent '. ListComp ) elt (Kterm[_] '[ (n (Mtuple (H ) (n AY ', (n iter ', ifs ', (Knum '0 ) ) ) ') ) ) '] ) scope pos )
ac ( ia e p sc )
ad ( ha pos π s σ H _ I h )
ae ( revObj a (Kterm_-_ (MtypeAscription (H ) cA.toArray.size ': (n Int ) ') ) '- (Knum '1 ) ) )
af ( X.comp scope cl x C s0 H0 fp π )
ag ( upd ( upd ( upd H r @t ) t X ) wa Y )
ah ( bo h9 ( bo ( dz c9 ) ( bo ( dz ( bo ( eX (Knum '7 ) @r XW ) ( bo ( eX (Knum '6 ) @r Rh ) c9 ) ) ) c9 ) ) )
ai ( dW ( aX ( ib M ) @l ) )
aj ( (MdotIdent '. lst ) xs )
ak ( ha π s σ H _ I h )
al (Mtuple (H ) (n @r ', (n ( I.turned (MnamedArgument '( t' ':= s.toks ') ) (Mfun 'λ (MbasicFun (n b o hb e ) ~ '=> ( eb b o hb e ) ) ) f0 f1 f3 f4 f5 ) ) ) ') )
am (Kterm_-_ ( lN items.size items.size hi ) '- ( lN items.size (Knum '0 ) lo ) )
an ( eL eh ( pv (Knum '3 ) ) bV @e )
ao (KtermIfThenElse 'if (Mproj (MtypeAscription (H ) (Kterm[_] '[ ~ '] ) ': (n ( List iX ) ) ') ) '. isEmpty ) 'then (Knum '0 ) 'else (Knum '1 ) )
ap ( (MdotIdent '. lst ) ws )
aq (Mshow 'show (Kterm_=_ υ '= ξ ) (MfromTerm 'from hs ) )
ar (MbyTactic 'by (S (tintro (n z ) ) (tcases (n (TelimTarget ~ z ) ) ~ ~ ) ) )
as ( ir ( bq ( fq ( c7 ( eV B.isinstance B2.str lE @l @r (Mproj ( uH K ) '. (KfieldIdx '2 ) ) ) ) ) @f ) )
zz ( iN ( fF @p ( ir @p ) ) )
au ( fX ( fj oq ( pv (Knum '2 ) ) bV ( dP _ ) ) ( bS ( dw lS ) ) eF )
av ( (MdotIdent '. dT ) bw )
"
def zQ_:="
L List
O Option
P (Mprop 'Prop )
N Nat
I Int
B Bool
A absurd
n if_neg
p if_pos
X False
R Array
S String
C congrArg
f decide_eq_false
t decide_eq_true
o of_decide_eq_true
"
local macro_rules(kind:=Lean.Parser.Term.explicit)|s=>zo_ (zl_ zA_ s)
local macro_rules(kind:=Lean.Parser.Term.syntheticHole)|s=>zo_ (zl_ zQ_ s)
local macro_rules(kind:=Lean.Parser.Tactic.left)|s=>zo_ (zq_ "(F (texact Fh ) (texact ug ) (texact Vb ) (texact Fi ) (texact ( Tn rfl rfl ) ) (texact gw ) (texact gO ) (texact uT ) (P (tapply uU ) $0 ) (P (tapply aX ) $0 $0 (TtacticRfl 'rfl ) ) (P (tapply cw ) $0 $0 (TtacticRfl 'rfl ) ) (P (tapply dW ) $0 (F (tdecide ^ ) (texact ( bX rfl ) ) ) ) (P (tapply nU ) $0 (F (tdecide ^ ) (texact ( bX rfl ) ) ) ) (P (tapply mH ) $0 $0 (texact rfl ) (texact (Mfun 'fun (MbasicFun (n _ _ ) ~ '=> rfl ) ) ) ) (P (tapply uh ) $0 $0 (texact rfl ) (texact rfl ) (texact (Mfun 'fun (MbasicFun (n _ _ ) ~ '=> rfl ) ) ) ) (P (tapply Fm ) $0 $0 ) (P (tapply vV ) $0 $0 ) (P (tapply Xf ) $0 $0 ) (P (tapply rT ) $0 $0 ) (P (tapply Xg ) $0 $0 ) (P (tapply yr ) $0 $0 ) (P (tapply fq ) $0 ) (P (tapply vW ) $0 (F (texact vz ) (texact PK ) (texact PM ) ) ) (P (tapply lW ) $0 (F (texact vz ) (texact PK ) (texact PM ) ) ) (P (tapply c7 ) $0 (tintro (n _ ) ) (TtacticRfl 'rfl ) ) (P (tapply JU ) $0 (texact rfl ) (tintro (n _ ) ) (TtacticRfl 'rfl ) ) (P (tapply xq ) $0 $0 ) (P (tapply xr ) $0 $0 ) (P (tapply Qi ) $0 ) (P (tapply Qj ) $0 $0 ) (P (tapply ap7 ) $0 $0 ) )" #[s])
def zw_(s:Syntax)(w:String):Option Syntax:=if zz_ s then some (zq_ w) else none
local macro_rules(kind:=Lean.Parser.Tactic.symm)|s=>zo_ (zw_ s[1] "(tdecide (ToptConfig (n (TconfigItem (TposConfigItem '+ kernel ) ) ) ) )")
local macro_rules(kind:=Lean.Parser.Tactic.omega)|s=>zo_ (zw_ s[1][0] "(F (tlia ^ ) (tomega (ToptConfig (n (TconfigItem (TposConfigItem '+ splitMinMax ) ) ) ) ) )")
local macro_rules(kind:=Lean.Elab.Tactic.Ext.ext)|s=>zo_ (zw_ s[1] "(F (P (trefine ( k₀ ?_ ) ) (tclear (n k₀ G₀ ) ) ) (P (trefine ( zhG _ ?_ ) ) (tintro (n G₀ k₀ ) ) ) )")
def zas_:=zq_ "(MtypeAscription (H ) ?_ ': (n (Marrow (MtypeAscription (H ) _ ': (n (Mprop 'Prop ) ) ') ) '-> _ ) ) ') )"
def ztc_(t:Syntax):Syntax:=zq_ "(TtacticTry_ 'try (S (tclear (n $0 ) ) ) )" #[t]
def zca_(t h c:Syntax)(w:String):Syntax:=zq_ "(F $0 (tcases (n (TelimTarget ~ (Mparen (H ) $1 ') ) ) ) ~ ~ ) )" #[zq_ w #[zq_ "(F (texact ( Option.noConfusion $0 ) ) (texact ( Bool.noConfusion $0 ) ) (P (trefine ( $2 ( Option.some.inj $0 ) ) ) $1 (tintro (n a₉ ) ) (tsubst (n a₉ ) ) ) (P (tinjection $0 ~ ) (tdone ) ) (P (tinjection $0 (n 'with (n a₉ b₉ c₉ d₉ ) ) ) $1 (tsubst (n a₉ b₉ c₉ d₉ ) ) ) (P (tinjection $0 (n 'with (n a₉ b₉ c₉ ) ) ) $1 (tsubst (n a₉ b₉ c₉ ) ) ) (P (tinjection $0 (n 'with (n a₉ b₉ ) ) ) $1 (tsubst (n a₉ b₉ ) ) ) (P (tinjection $0 (n 'with (n a₉ ) ) ) $1 (tsubst (n a₉ ) ) ) )" #[h,c,zas_],t,zas_],t]
def zcs_(s:Syntax):Option Syntax:=
 let t:=s[1][0][1]
 if s[1].getNumArgs>1||!zz_ s[1][0][0]||!zz_ s[2]||!zz_ s[3]||zk_ t "paren" then none
 else if t.isIdent then zca_ t t (ztc_ t) "$0"
 else zca_ t (mkIdent `h₉) (zq_ "(tclear (n h₉ ) )") "(P (trefine ( $2 $1 ) ) (tintro (n h₉ ) ) $0 )"
local macro_rules(kind:=Lean.Parser.Tactic.cases)|s=>zo_ (zcs_ s)
def zpk_(p:Syntax):Bool:=zz_ p[1]&&p[0][0].getNumArgs==1
def zpt_(p:Syntax):Syntax:=zq_ "(TrintroPat.one $0 )" #[p[0][0][0]]
def zri_(a:Array Syntax):Syntax:=if a.isEmpty then zq_ "(tskip )" else zq_ "(trintro $0 ~ )" #[mkNullNode a]
def zel_(p:Syntax):Array Syntax:=p[1].getSepArgs
def zsp_(a:Array Syntax):Syntax:=mkNullNode (mkSepArray a (mkAtom ","))
def ztu_(a:Array Syntax):Syntax:=zq_ "(TrcasesPatMed (n (TrcasesPat.tuple '⟨ $0 '⟩ ) ) )" #[zsp_ a]
def zob_(a:Array Syntax):Syntax:=zq_ "(tobtain (n $0 ) ~ ~ )" #[ztu_ a]
def zrc_(t p:Syntax):Syntax:=zq_ "(trcases (n (TelimTarget ~ $0 ) ) (n 'with (TrcasesPatLo $1 ~ ) ) )" #[t,p]
def zfi_(w:List Syntax):Syntax:=zT_ "first" #[mkAtom "first",mkNullNode (w.map zB_).toArray]
def zn_(p:String)(i:Nat):Syntax:=mkIdent (p++toString i).toName
def zf1_(a:Array Syntax)(p:String)(d k:Nat):Syntax:=zq_ "(P (trefine ( $0 ?_ ) ) $1 $2 )" #[zn_ p (k+d),zri_ ((a.extract 0 k).map zpt_),if a.size==k+1 then zri_ #[zpt_ a[k]!] else zob_ (a.extract k a.size)]
def zal_(n k:Nat)(ok:Nat->Bool)(f:Nat->Syntax):List Syntax:=(List.range k).reverse.filterMap fun i=>if i+1<n&&ok (i+1) then some (f (i+1)) else none
def zob1_(s:Syntax):Option Syntax:=
 let p:=s[1][0]
 let q:=p[0][0]
 let u:=p[0].getNumArgs==1&&zk_ q "tuple"
 let a:=zel_ q
 let t:=s[3][1][0]
 let e:=zrc_ t p
 if zz_ s[1]||!zz_ s[2] then none
 else if zz_ s[3] then if u then some (zfi_ (zal_ a.size 5 (fun _=>true) (zf1_ a "ze" 0)++zal_ a.size 4 (fun _=>true) (zf1_ a "za" 1)++[zq_ "(P (tintro (n h₉ ) ) $0 )" #[zrc_ (mkIdent `h₉) p]])) else none
 else if u&&a.size>2 then if a.all zpk_ then some (zfi_ [zq_ "(P (trefine ( $3 $0 ) ) $1 $2 )" #[t,if t.isIdent then ztc_ t else zri_ #[],zob_ a,zas_],e]) else none
 else some e
def zrn_(s:Syntax):Option Syntax:=
 let q:=s[1].getArgs
 match q.findIdx? (fun p=>zk_ p "one"&&zk_ p[0] "tuple"&&(zel_ p[0]).size>2) with
 |some i=>let a:=zel_ q[i]![0];if zz_ s[2]&&a.all zpk_ then some (zq_ "(P $0 $1 $2 )" #[zri_ (q.extract 0 i),zob_ a,zri_ (q.extract (i+1) q.size)]) else none
 |_=>none
local macro_rules(kind:=Lean.Parser.Tactic.obtain)|s=>zo_ (zob1_ s)
local macro_rules(kind:=Lean.Parser.Tactic.rintro)|s=>zo_ (zrn_ s)
def zac_(a:Array Syntax):Syntax:=zq_ "(ManonymousCtor '⟨ $0 '⟩ )" #[zsp_ a]
def zre_(t:Syntax):Syntax:=zq_ "(trefine $0 )" #[t]
def zrf_(r:Syntax):Option Syntax:=
 let s:=zel_ r[1]
 let n:=s.size
 if n<3||!zk_ r[1] "anonymousCtor" then none else some
 (zfi_ (zal_ n 7 (fun k=>(s.extract 0 k).all fun t=>(t.find? zh_).isNone) (fun k=>zq_ "(P $2 $0 $1 )" #[zre_ (zE_ [] (#[zn_ "xa" (k-1)]++s.extract 0 k++#[zq_ "?_"])),zre_ (if k+1==n then s[k]! else zac_ (s.extract k n)),zq_ ("(TguardTarget 'guard_target (Cequal (CequalD '=~ ) ) "++Nat.repeat (fun s=>"( Exists (Mfun 'fun (MbasicFun (n _ ) ~ '=> "++s++" ) ) )") (k-1) "( And _ _ )"++" )")])++[zre_ (zq_ "(Mparen (H ) $0 ') )" #[r[1]])]))
local macro_rules(kind:=Lean.Parser.Tactic.refine)|s=>zo_ (zrf_ s)
local macro_rules(kind:=Lean.Parser.Tactic.exact)|s=>zo_ (if zk_ s[1] "anonymousCtor"&&(zel_ s[1]).size>2 then some (zre_ s[1]) else none)
def zdf_(n s v:Syntax):Syntax:=zq_ "(CCommand.declaration (CCommand.declModifiers ~ ~ ~ ~ (n (CCommand.noncomputable 'noncomputable ) ) ~ ~ ) (CCommand.definition 'def $0 $1 $2 ~ ) )" #[n,s,v]
def ztw_(s:String):Syntax:=mkNullNode ((s.toList.foldl (fun (n,k,o) c=>let m:=n*41+(c.toNat-48);if k==11 then (0,0,o.push (zdf_ (zq_ "(CCommand.declId $0 ~ )" #[zn_ "_root_.PySem.W.Fast.tw" m]) (zq_ "(CCommand.optDeclSig ~ ~ )") (zq_ "(CCommand.declValSimple ':= Nat (CTermination.suffix ~ ~ ) ~ )"))) else (m,k+1,o)) (0,0,#[])).2.2)
def zdc_(s:Syntax):Option Syntax:=
 let d:=s[1]
 if s[0].getArgs.any (!zz_ ·) then none
 else if zk_ d "definition" then some (zq_ "(CCommand.declaration $0 (CCommand.theorem 'theorem $1 (CCommand.declSig $2 $3 ) $4 ) )" #[s[0],d[1],d[2][0],d[2][1][0],d[3]])
 else if zk_ d "abbrev" then if d[1][0].getId==`zTW then ztw_ d[3][1].isStrLit?.get! else zdf_ d[1] d[2] d[3]
 else none
def rP_:Nat->Syntax->Syntax
|0,t=>t
|n+1,t=>if zk_ t "tuple" then (ztu_ ((#[t[1][0]]++t[1][2].getSepArgs).map fun x=>zq_ "(TrcasesPatLo (TrcasesPatMed (n $0 ) ) ~ )" #[rP_ n x]))[0][0] else if t.isIdent then zq_ "(TrcasesPat.one $0 )" #[t] else zq_ "(TrcasesPat.ignore '_ )"
def ztp_(t:Syntax):Option Syntax:=let c:=t[1];if zk_ t "tuple"&&c.getNumArgs==3&&c[2].getNumArgs%2==1 then some (zac_ (#[c[0]]++c[2].getSepArgs)) else none
local macro_rules(kind:=Lean.Parser.Tactic.tacticLet__)|s=>zo_ (let d:=s[2][0];if zk_ d "letPatDecl" then some (zq_ "(tobtain (n (TrcasesPatMed (n $0 ) ) ) ~ (n ':= (n $1 ) ) )" #[rP_ 9 d[0],d[4]]) else none)
local macro_rules(kind:=Lean.Parser.Term.tuple)|s=>zo_ (ztp_ s)
local macro_rules(kind:=Lean.Parser.Tactic.show)|s=>zo_ (zre_ ((ztp_ s[1]).getD s[1]))
local macro_rules(kind:=coeSortNotation)|s=>zo_ (zq_ "(Mproj $0 '. heap.objs.size )" #[s[1]])
local macro_rules(kind:=coeNotation)|s=>zo_ (zq_ "(Mproj $0 '. length )" #[s[1]])
local macro_rules(kind:=coeFunNotation)|s=>zo_ (zq_ "PySem.model (Mproj $0 '. prog ) (Mproj $0 '. w )" #[s[1]])
local macro_rules(kind:=Lean.Parser.Command.declaration)|s=>zo_ (zdc_ s)
abbrev zTW:=";Q2OWUUKC@3RGIWQR8?0O8CKC;:ID<<5>MT6JMTDU@3TMEIFJX2JEG8?VS<U43NGWNL4VJLQ:73FMFBLJWS@>PPWX11E7ARI8X83O;U?JQ1XLB0@EK4LRJC29ASBRA97@RUL3MFR7PTX2R9DIQWPP@01IJ7?5L0U1DNXHHR:IS>?84NDS=X1=FA01<4<OET20I8ERTPLXXPJKC:UP5V3POQTAH5TC=B;MDE=PL>XG65J0U=U9TVCR1AJV;3WC4T=FN8PC>C?4RQGR:H::S>E8R<3WJV2MF1EFLA=6DSD6R3I2B577RPEV1R7E9AXKNHE?>JBKBVT:=2RI8FW<6B@E?C0OEV5BQHA13W=FKVMIQ0327L?GHJ7LK2AXL0@OC4V54@57@V29J8<4G92HRO9K?OVF1POOIN8SKOBM89AU?0H1F0PHLPQRC1G?ECU@KF:F@KMES0OO035S0NQCPNUHNB>?L;43=0E0MEIM@3>@HK5C<L4P6T@GK?B9NX?8XCL?V@T;<E2UBB?TOCBA3;1<PA=I3D@ILP27QSMQ<JU2@XLL?W6I02EM4HA>MIWWVV9;MHIJ2@B61=@:9EQ3T;QE?EA59S<5UE@8WF:BS8P88S>W:1MCK34ICQ;40VU<W8@CFM9R4X=IND;>47XD@GHD?0B=WC=R;IV>0SKG:VQ@XU01Q9@HQ9<?GE@FCPTOC=0>43<<1ICV@WCAAH?AJ73?FN:MF6J@5Q0D3ND?34T6AT0@05U:G>NM3:O631QCHL0<RVKWX:BO<TJ=HLC2O;7SWRIICU2MJ70V?9W;LC4:@>=V5488JTRAG5DPH8JM<:5@ST>UB52KOKS<GFQF1<:M4FTKMGT??0P1@3>12DK;PFE5UD;4;7?AA7LN8@PIXR:BXJ>FX2X;L=7XA1?J9Q@N<3F0A5TMCMUJ6@CX>IH<O==B2U@FLH9A9<L3VM=DW:THA8<30B:;3WX060P@?:M5JAQJIV3E2CN2?O20W9M792ARB@BGF4IF?R8082I@U4VUFDI?GX48RHMJD7EJ5HHCUJU41D7C;F8B>B;W7VW5?L6B1QJ6=J>3=CB5<09I=0ML811J1=HF30>:8Q@NS7UKAN7RFRF?85IGRRU7V6L:3NOK13XN52K9UIF@7ANJ@W@6@OBCPIJ;D5IO8X4CBF7U7O:8NMSN3@>;EBJLWMPRKH3;=JMJU4JLLAKS>8K:9LD?658C5DVHB<>:2>A6JN6?XBEW83N:AEVE>GTMDLMN1GML<A7;E=M35XM7J=S0KII?2T6JB2UX8QJWENF?V7AOXFW447BA0WAG3X70B39=;QGFQ>4UWIC4HMI22:P@AC1MQ?1O8HTL?TLN9NDD78M@86N=?JJT=9BM0UGL<VOFB:DPSETNV@NUDEB7BA8H:OUL@D50PUS527TNOVW?;:I03?U6VSDST?O15P3ATENW:PTDF4KD1VF65R?;0BK45T>EOGDNUASJK171V2;74E2NF72T1UU<480H8JB2B3R0H?7L:1TESJLJ0H>SE99<QV6KMMF<5R5BCJG<5Q7XM67E6A6NGFM9IQG444N8XW?E8NU5E6FNA9LWDU8M5HHC7C6HA=KSRXN8R=OA621:OV7@X3=E>HTC82O?CPK@J6:IN7EG8OQ;RMW4MT6332EB@12TQU141I@?72N<KVL=N2?1@DU?;;5G3:=IG;IT88FL<A;@70VD3<ILA516Q6F524HF43C8>T;R;Q=>FJKU;6F:94GC>CGDWPU6=;IOC>=C;P;BV9XNO3QWLP@=@B0@Q2=A26R8W:FNGF83XXV552EA0Q5;F@M>V192K:M=03>UX<6OLHKTRW=4ED01OSCFA38ILN>?T:X>KIG4HV80NDSGT?8GB<42@1KG3A6M0@J8GEU:DB>JG?C6FQG4MBS22?C36VJ0CM85;3W6EFWSF:6GUCDMX;N15<0:8NT?H;H@73J84:7HOBUS@BI1N87JDHE1BOGH0JU@:CA68U2<DH5=96OU?PO=FKLE6>09;2;QFD>L8>OX3IE@K<A2DG0<6XITKV;>TSV<40>4JKD7X?>TAFH@@>Q1S7?=WV3KL6UJO>2FVQ=<?WJ555P:737@>37DQK;40F:>NM=C6RVW<FOBDAM=41=18I2=?FK=NN866EQG:C04CDH0OH0V4P3101DCH94HKB001VC8:OK0AXXGR>SCG@4WRVB84EC;8IL==H7@0LOA7<SOO2@?M2905FB3PHO3D;73E3VEJHD0BK;0RTNX:LEK6GR1BXG0NH:L;7L6E@TNQSTLTFAUTS5=C5I:B2CHVQQRFL20LCWKGC>SPK41J35JIDE27=A18N<0B?WL9VJF6TS@T66>2@>8G<9XI;:NTWD:C;77N9SG330IXIR=H:C;IB8?S:OT4XGEL2F6NK=XS8?4H4@2A3:RTD1A6PK51H:UTKHQ;S6<7UWEU@QX<4IETCS?CRFSIS51CT:X1N0V0@8O3X3=>2<MA?5;UO20JP4P?O3FLH10A4NLTFB>O4OCD9BB?ET?DP4LQ615N6O=CHWUHGBI;VIP;2>NS9RI7DG=1SP09D<J=;H:J<LQCUF5JD<5Q71XEB<I349PVNEB3;=>4SFOPR1N=V?RGFEMJLQ859331J>=B47AIA:1D6>G<C=:ICOKBDSDUL23FB5>>B:@I<8@AF?P7<K<@V2NX3RE7S7ARUUWGJGGPAMABK=@2L>D34T9G@3QFJ1P@K?69W4@RG3MEAL?M9:9LWO958W=2MA:R;:AVBG8G0<XH<QC8=C7J5M@GB?F:DKIHNDAUMDMBF<HCRLX2P;M<NU@X4EA50:E<4D?<9<0FF=OIC:2N=BNPCN?IRKCUN>RTR0IJ?AH7<@MWN=R0A4>KHGIG5>4G::I0KXUEO2I5QP@F1>:E;82F<1P4XAF<54AC;GE@X4K5WW7>L@KS<10LQ7X2J:I74R93UK3HETEW>WKR@I48JVA@F96FQBKXVL><U?M7O;UOH77DP<FXLS:H?<L8I4E2G5=0OS4TW7E3?<69IX?MS;H?9S4GX4BD73092ICSJ41KH8R43?CN?N=@HGL?A<MMGWN@<@XM4F3JK5GC7E<LW;>09A<6FUJ0LWL?IB03SAE7@I6037K3RA524JM0H0HGMS>4H0R=F:=0C5MXNN=1UMCTHC0BU1KVWCEV41USSJE?2BE8>IRBB>IQVQ<E45G38X39?2DU4GRD:F86Q401P<GF7<KGRAOCHPGXD0S:P?08RMK=L4WJ?F720BAHJ5:5FF:;79Q<99WECVQ;I<DP6N1?PK;K;U959CXP;65IUH23G=EN29K@R:=N9=GIGK177EQQ:S3GRV@0DTUFQPG?:UN>SHF03AOP38;3DN6MM2?GOL7MERBX7O<BDPPJEEN>9:8GMT?ER8KR367EI<J@;DWOK>NBEJ1R51;FP4192CJ8S2<NK<BSRP<CMAHG6LD:26=FVQB@6HVVDN827;A9<@BH10LD<6<0MWO4=9F?<>JCPSMLX>4AJSB3I3=@FWKC78C;A3UABU@P2KPE>TS<=R3E7X;=:A8CXOGKL666ED6WG8=;VVMQFGPWNBCUFKK=;UEOVS0KKMDU36L0T:K4DE2>J80<AC6FFWTWS4GX:2@3NDL0X16P?0>G73C>::IUI9NVU:8MHO?P5K0TD;E46E6J5MPIHS32G6O3ASDMB7P:U73:<JBANVADT9B1D>N82S3C?7>RIXP8FNTFTS@F:6;7<0ATQNGA9?:BD6OM:2PE@@4>D56894>1MROSHHIDUWC;L9K3B>1WUOE76<OM:@M;I=2A;KO57PEOV52GG2LD:JWSDDPMN2J@0L9?G;V35:GOGW>C<1Q49C0R13O=PVVV??LD4K4JKA6NP@=K<PIOQTFTE>;K1TB5JC626HMWROVKBBFKG>GP5G3MR5UF;UNT4HQRNC<UP;>1NFRO?AT<UEMO?:R<7V29;<=6AU331TII;B82K@BVBDXRWPJ3N7KA20>WB7KF>;9ISLRA5L2IVH7Q?L;6PFHLD>OP6EI=NVFL1KQ=6NJPHG71U?WHIG7HDTH2ITT1KWOJCN67==1MQ:45E:6<5QLEC3CQ38PXV19E2T4NE>LL818L186XF@LJ;@PPEUX;IQK;NPB?<4N@QII905;RR3MLORG=0L=KP54AX>CJUF?@C;?ENA"
open Option renaming some->θ,none->ι
open Bool renaming true->ξ,false->υ
open PySem renaming Str->χ
open PySem.W renaming Frag->aa,kitOne->aS,findIn->bI,nsIn->bY,keepIn->cW,mg_none_of->di,mg_of->dn,kia_one->du,fnOf->dv,emptyDict->fu,kitAny->fz,codeIn->gZ,instObj->ip,hasDictIn->iu,plainGet->iS,hideAll->ji,plainOver->jz,makesIn->kF,mroIn->mz,exmOne->oN,kitx_list->pL,isFn->rB,excIn->u9,kitx_tuple->vp,callWith_K->vq,methodObj->wJ,specialIn->wK,takerIn->zb,takesIn->zc,OpenLaw->ze,kia_tup->zi,lookIn->zV,cellsFrom_some->Dt,hideAll_get->GF,of_hideAll->IA,kitx_bool->IT,kitx_dict->IU
open PySem renaming wpAny_bind->ae,Addr->af,Value->ai,PyData->ak,Shared->ao,starEach->aq,sizeLine->au,wpAny_pure->av,wpAny->aU,FuncData->aV,Program->bu,mainGlobals->bH,Expr->bR,World->bU,Around->cy,Stmt->cz,Heap->cD,wpAny_mono->cZ,backTo->dh,sizeLine_eq->dC,attributeBase->dF,wpAny_setField_rec->dH,wpAny_field->dO,swapsWith->dS,wpAny_newObj_type->eG,wpAny_callSpecial?_slot->fJ,wpAny_call_entry->fK,wpAny_holding->fO,boot_len->gx,wpAny_seqItems->gK,foldedSetIterable->gU,wpAny_ite_split->g8,mem_of_lookup->iW,Keyword->iX,wpAny_typeNameOfWhole_itemiter->js,wpAny_pyIter_tuple->jI,wpAny_Call_Name_kw->jJ,wpAny_passesOwn->jY,wpAny_updateSeq->jZ,wpAny_truthy_bool->kb,keywordEach->kR,wpAny_execs_nil->mf,wpAny_specialOf->mh,wpAny_typeOf->qK,backToKw->rD,wpAny_isInstance->uL,wpAny_rule->vt,wpAny_isOneOf_itemiter->vv,wpAny_loadPart'->vL,wpAny_pyIter_revIter->yc,wpAny_letGo->yd,wpAny_attempt->zK,wpAny_pyIter_enum->CQ,wpAny_pyIter_slot->CV,wpAny_dictEntries->CY,wpAny_execs_cons->Ds,wpAny_BinOp->EH,Within->Gn,wpAny_dictEpoch->Gq,wpAny_setField->IC,wpAny_newTuple->ID
open List renaming getElem?_eq_getElem->ag,getElem?_eq_some_iff->ay,mem_append_right->aB,mem_of_getElem?->aD,getElem?_map->aE,length_cons->aF,length_append->aH,size_toArray->aI,mem_cons_self->aJ,mem_cons_of_mem->aM,length_map->aP,mem_singleton->aR,mem_append->aW,mem_cons->bg,getElem?_append_left->bF,map_append->bK,append_nil->bP,getElem?_append_right->bT,mem_append_left->bW,map_cons->bZ,mem_map->cj,length_reverse->cP,cons_append->df,replicate->dm,getElem?_reverse->dG,reverse_cons->dQ,getElem?_set->dR,not_mem_nil->ef,length_set->eK,nodup_cons->e9,map_singleton->fh,getElem?_cons_succ->fk,dropLast_concat->fm,append_assoc->fL,nil_append->fN,drop_eq_getElem_cons->fU,getElem?_eq_none->fV,length_take->fY,take_add_one->gH,map_map->gW,lookup_cons->hU,length_singleton->ik,length_nil->iI,getElem?_set_ne->iK,reverse_reverse->iL,reverse_append->iY,mem_flatMap->iZ,take_of_length_le->jm,find?_cons->jB,forIn_cons->jC,map_nil->ke,range->lJ,zip_cons_cons->lK,mem_replicate->lL,getElem?_cons_zero->lO,take_zero->mi,nodup_append->mo,drop_of_length_le->mq,drop_zero->mr,drop_length->m8,lookup->nE,filterMap_cons->oK,forIn_nil->pN,getElem?_take->pP,set_cons_zero->pQ,set_cons_succ->pR,getD_eq_getElem?_getD->pS,ext_getElem?->qL,flatMap_cons->qM,any_cons->qO,length_eq_zero_iff->rG,length_replicate->tH,nodup_nil->u7,map_congr_left->vJ,drop_succ_cons->vK,mem_filterMap->wR,length_drop->zJ,take_length->zL,take_append_of_le_length->zZ,drop_append_of_le_length->z9,of_mem_zip->AF,head?_drop->AG,dropLast_concat_getLast->AI,append_eq_append_iff->Dx,all_cons->EJ,getElem?_replicate->Gp,getElem?_set_self->GG,mem_iff_getElem?->IF,take_append_drop->IJ,length->IX,getElem?_of_mem->Ja
open PySem.Heap renaming get?_push_of_some->ah,lt_size->aO,get?_push_size->aQ,get?_update_other->cQ,get?_update_self->et,size_push->gA,SameBut->iJ,IsTuple->GK,FlyingW->GN
open Nat renaming le_refl->aj,ne_of_lt->bz,le_trans->bD,lt_of_lt_of_le->bJ,lt_of_le_of_lt->bL,le_of_ble_eq_true->bX,zero_le->cE,ne_of_gt->eA,le_of_lt->fe,zero_add->g9,lt_succ_self->ic,lt_irrefl->jG,le_succ->j9,le_max_right->kB,le_max_left->lM,lt_succ_of_lt->mw,sub_self->mx,not_lt_zero->oM,sub_zero->pJ,lt_succ_iff_lt_or_eq->rE,mul_le_mul->vw,lt_trans->zd,le_of_not_lt->zW,strongRecOn->CU,not_lt->Dv,lt_of_succ_lt_succ->IE,le_mul_of_pos_left->IH
open Bool renaming and_eq_true->aZ,false_ne_true->bj,false_eq_true->jk,and_eq_false_iff->jH,eq_iff_iff->oC
open PySem.F renaming plainAttrs_list->bc,slot_list_append->cq,type_list_append->cu,slot_list_pop->eR,type_list_pop->eU,slot_dict_itemiterator_next->eZ,plain_extend_loop->i7,slot_tuple_iterator_next->ky,slot_zip_next->pI,args_tuple_add_2->pZ,slot_list_extend->qc,type_list_extend->qe,entry_tuple_add->qJ,slot_tuple_add->rC,slot_dict_get->sR,slot_list_getattribute->sS,excBase_ValueError->zX,args_dict_itemiterator_next_1->AH,entry_dict_itemiterator_next->CW,args_dict_get_3->C3,plainAttrs_dict->C4,slot_dict_itemiterator_iter->C7,slot_dict_items->C8,entry_dict_get->Du,args_tuple_iterator_next_1->Dw,entry_tuple_iterator_next->EK
open Option.some renaming inj->bf,injEq->fZ
open Or renaming inl->bB,inr->cF
open PySem.PassesOwn renaming never->bN
open Ne renaming symm->cp
open PySem.Value renaming ref->cv,none->eQ,type->jg,int->yZ,str->y9,bool->CO,float->Iz
open PyProof.Rows renaming callWith_type1->cI,boot_tuple->cR,boot_isinstance->cT,envOfC->dY,boot_list->eC,boot_int->gL,boot_bool->iR,slot_tuple_getitem->ll,boot_str->lE
open PySem.Builtin.SmallTypes renaming nextOf->cO,ownedTupleIsFree->fW,ownedTupleHandOut->pO
open PySem.Builtin.List renaming listExtendWith->dZ,listLengthHint->gB,listSameRef->jM,listItems->kH,listTooLong->oE,listUpdate->zg
open PySem.Obj renaming mapSeq->eJ
open True renaming intro->fg
open False renaming elim->fH
open List.cons renaming injEq->gy
open Int renaming toNat_natCast->gI,toNat_of_nonneg->gQ,zero_add->II
open Option renaming map_eq_none_iff->gM,map_eq_some_iff->lP,map_some->nF,isSome_iff_exists->qq,isSome_some->IY
open PySem.PyData renaming canLay0->hV,eqv->hZ,canLayAll0->iz,eqvAll->mR,depthAll->sT,int->vM,strOk->wU,depth->wV
open PySem.NameKind renaming free->iy,cell->pM
open Array renaming length_toList->iV,getElem?_eq_getElem->C6,getElem?_toList->GI
open PySem.Calls renaming spliced_cons->jj,spliced_nil->qp,callWith_builtin->sQ,evalArgs_plain->uK,Name_function_global->CP
open PySem.Builtin.Dict_items renaming ownedTupleIsFree->jl,ownsTuple->lr,ownedTupleFields->qb,pairFromOwner->qP
open Prod.mk renaming injEq->jn
open PySem.Str renaming ofString->jr,empty->vH
open PySem.Builtin.Slice renaming slicePlaces->jA,sliceAdjust->nD,sliceApplied->wL
open PySem.Builtin.Tuple renaming tupleExact->jK
open ForInStep renaming yield->kf
open PySem.Paired renaming length->kE
open PySem.Shared renaming TypeIs->mQ,heap->GL
open PyProof.Rows.Boot renaming dict->om
open PySem.Heap.SameBut renaming update->rF
open Sum.inr renaming inj->tG
open PySem.Around renaming under_plainId->tI,under->EI
open Sum renaming inl->vG,inr->y8
open Nat.succ renaming inj->vI
open Function renaming comp_def->vN
open PySem.Builtin.Range renaming rangeSize->yf
open Prod renaming fst->yg
open PySem.Builtin.Dict renaming updateFrom->zh,showsAll->zY
open PySem.Builtin.Str renaming tooLong->C5
open PySem.SeqAt.EqAt renaming int_str->EF,str_int->EG
open Subtype renaming ext->Gr
open PySem.Code renaming isFrame->GH
open PySem.Heap.DictOf renaming new->GJ
open PySem.IsL renaming update->IB
open PySem.PyData.str renaming inj->IZ
open PySem PySem.Spec
namespace _L
open PyProof.Rows
noncomputable abbrev Key:=Sum ?I χ
abbrev Dy:Key->ai->?B
 |.inl k,v=>Value.isInt k v
 |.inr x,v=>Value.isStrOf x v
abbrev aj3(w:bU):Key->?I
 |.inl k=>hashInt k
 |.inr x=>hashStr w x
def iA:∀{k:Key}{v:ai},Dy k v=ξ->(∃i t,k=vG i/\v=yZ i t)\/(∃x t,k=y8 x/\v=y9 x t)
 |.inl i,v,h=>by
  let(t,e):=Value.isInt_shape (k:=i) (v:=v) h;show .inl (i,t,@r,e)
 |.inr x,v,h=>by
  let(t,e):=Value.isStrOf_shape (x:=x) (v:=v) h;show .inr (x,t,@r,e)
def Mn(i:?I)(t:Tok):Dy (.inl i) (.int i t)=ξ:=by simp[Dy,Value.isInt]
def Mo(x:χ)(t:Tok):Dy (.inr x) (.str x t)=ξ:=by simp[Dy,Value.isStrOf]
def V7(a b:?I):decide ((vG a:Key)=vG b)=(a==b):=by
 by_cases e:a=b
 .subst e;simp
 .have h:¬(vG a:Key)=vG b:=λq=>e (Sum.inl.inj q);rw[?f h];show(beq_eq_false_iff_ne.mpr e).symm
def V8(a b:χ):decide ((y8 a:Key)=y8 b)=decide (a=b):=by
 by_cases e:a=b
 .subst e;simp
 .have h:¬(y8 a:Key)=y8 b:=λq=>e (tG q);rw[?f h,?f e]
def V9(a:?I)(b:χ):decide ((vG a:Key)=y8 b)=υ:=?f (λq=>nomatch q)
def Wa(a:χ)(b:?I):decide ((y8 a:Key)=vG b)=υ:=?f (λq=>nomatch q)
abbrev eE(prog:bu)(w:bU):PySem.KeyKind prog w Key where
 is:=Dy
 hash:=aj3 w
 inj:=λv a b ha hb=>by
  rcases iA ha with⟨i,t,rfl,rfl⟩|⟨x,t,rfl,rfl⟩
  .rcases iA hb with⟨j,u,rfl,e⟩|⟨y,u,rfl,e⟩
   .injection e with e1 _;rw[e1]
   .show nomatch e
  .rcases iA hb with⟨j,u,rfl,e⟩|⟨y,u,rfl,e⟩
   .show nomatch e
   .injection e with e1 _;rw[e1]
 byValue:=λk v h=>by
  rcases iA h with⟨i,t,rfl,rfl⟩|⟨x,t,rfl,rfl⟩<;>rfl
 pyHash:=λhv h=>by
  rcases iA hv with⟨i,t,rfl,rfl⟩|⟨x,t,rfl,rfl⟩
  .show wpAny_pyHash_int h
  .show wpAny_pyHash_str h
 eqBool:=λhu hv h=>by
  rcases iA hu with⟨i,t,rfl,rfl⟩|⟨x,t,rfl,rfl⟩
  .rcases iA hv with⟨j,u,rfl,rfl⟩|⟨y,u,rfl,rfl⟩
   .rw[V7]at h;show wpAny_eqBool_int h
   .rw[V9]at h;show EF i t y u _ _ _ _ h
  .rcases iA hv with⟨j,u,rfl,rfl⟩|⟨y,u,rfl,rfl⟩
   .rw[Wa]at h;show EG x t j u _ _ _ _ h
   .rw[V8]at h;show wpAny_eqBool_str h
 «strs»:=λk x t v h=>by
  rcases iA h with⟨i,u,rfl,e⟩|⟨y,u,rfl,e⟩
  .show nomatch e
  .injection e with e1 _
   subst e1
   cases v<;>rfl
def GO(prog:bu)(w:bU)(i:?I)(t:Tok):(eE prog w).is (.inl i) (.int i t)=ξ:=Mn i t
def GP(prog:bu)(w:bU)(x:χ)(t:Tok):(eE prog w).is (.inr x) (.str x t)=ξ:=Mo x t
inductive V where
 |fB|bl (b:?B)|int (i:?I)|str (x:χ)|Jb (b:?R UInt8)|Uz (b:UInt64)|ref (a:af)|ty (n:?S)
 deriving DecidableEq
abbrev RelV:V->ai->?P
 |.fB,u=>u=eQ
 |.bl b,u=>u=CO b
 |.int i,u=>∃t,u=yZ i t
 |.str x,u=>∃t,u=y9 x t
 |.Jb b,u=>∃t,u=Value.bytes b t
 |.Uz b,u=>∃t,u=Iz b t
 |.ref a,u=>u=cv a
 |.ty n,u=>u=jg n
noncomputable abbrev dD:?L V->?L ai->?P:=Paired RelV
variable{xs:?L V}{us:?L ai}
def dD.length(r:dD xs us):↑xs=↑us:=kE r
def dD.get:∀{xs:?L V}{us:?L ai}{i:?N}{x:V},dD xs us->xs[i]?=θ x->∃u,us[i]?=θ u/\RelV x u
 |_,_,_,_,.nil,e=>by simp at e
 |_,_,0,_,.cons r _,e=>by simp at e;subst e;show(_,@r,r)
 |_,_,i+1,x,.cons _ t,e=>by
  let(u,h1,h2):=dD.get (i:=i) (x:=x) t (by simpa using e);show(u,by simpa using h1,h2)
def dD.set{x:V}{u:ai}(r:RelV x u):∀{xs:?L V}{us:?L ai}(i:?N),dD xs us->dD (xs.set i x) (us.set i u)
 |_,_,_,.nil=>.nil
 |_,_,0,.cons _ t=>.cons r t
 |_,_,i+1,.cons q t=>.cons q (dD.set r i t)
def dD.append:∀{xs ys:?L V}{us ws:?L ai},dD xs us->dD ys ws->dD (xs++ys) (us++ws):=by
 intro xs ys us ws h s;induction h with
 |nil=>show s
 |cons r t ih=>show .cons r ih
def dD.take:∀{xs:?L V}{us:?L ai}(n:?N),dD xs us->dD (xs.take n) (us.take n)
 |_,_,0,_=>.nil
 |_,_,_+1,.nil=>.nil
 |_,_,n+1,.cons r t=>.cons r (dD.take n t)
def dD.drop:∀{xs:?L V}{us:?L ai}(n:?N),dD xs us->dD (xs.drop n) (us.drop n)
 |_,_,0,r=>r
 |_,_,_+1,.nil=>.nil
 |_,_,n+1,.cons _ t=>dD.drop n t
abbrev vO:?O V->?O ai->?P
 |some v,θ u=>RelV v u
 |none,ι=>True
 |_,_=>?X
abbrev KV{κ:Type}:?L (κ×V)->?L (κ×ai)->?P:=Paired λ(p:κ×V)(q:κ×ai)=>p.1=q.1/\RelV p.2 q.2
abbrev kV:Key->V
 |.inl i=>.int i
 |.inr x=>.str x
inductive HO where
 |lst (xs:?L V)
 |tup (xs:?L V)
 |dK (bw:?L (Key×V))|dT (bw:?L (?L Key×V))
 |set (S:?I->?B) (n:?N)
 |ins (C dx:af) (fs:?L (χ×V))
 |own (x:af)
 |xd (fs:?L (χ×V))
 |met (f x:af)
 |rng (lo hi:?I)
 |kg (o:Obj) (u:HO)
 |Sb (ps:?R ai)
 |ext (φ:cD->?P)
noncomputable abbrev Hp:=af->?O HO
abbrev upd(H:Hp)(a:af)(o:HO):Hp:=λb=>if b=a then θ o else H b
variable{H:Hp}{a:af}{o:HO}
def aA:upd H a o a=θ o:=by unfold upd;rw[?p @r]
variable{b:af}
def be(h:b≠a):upd H a o b=H b:=by unfold upd;rw[?n h]
variable{u:HO}
def Sv:upd (upd H a o) a u=upd H a u:=by
 funext b;unfold upd;split<;>rfl
def tJ(h:H a=θ o)(h':H b=θ u)(d:o≠u):a≠b:=by
 intro e;subst e;rw[h]at h';show d (bf h')
def bQ(h:H a=θ o)(h':H b=ι):a≠b:=by
 intro e;subst e;rw[h]at h';cases h'
section
variable (P:bu)(w:bU)
abbrev fP(H:Hp)(h:cD)(a:af):HO->?P
 |.lst xs=>↑xs<=au/\∃(cA:?L ai)(n:?N),dD xs cA/\h.get? a=θ {cls:=.type "list",data:=.seq cA.toArray n}
 |.tup xs=>↑xs<=au/\∃cA:?L ai,dD xs cA/\IsTup h a cA.toArray
 |.dK bw=>↑bw<=au/\(a==sysModules)=υ/\∃vs,KV bw vs/\h.DictOf (eE P w) a vs
 |.dT bw=>↑bw<=au/\(a==sysModules)=υ/\∃xs:?L (?L Key×af×ai),
   Paired (λ(p:?L Key×V)(q:?L Key×af×ai)=>p.1=q.1/\H q.2.1=θ (.tup<|p.1.map kV)/\RelV p.2 q.2.2) bw xs/\
   ∃o es ep,h.get? a=θ o/\o.ExactDict/\o.data = .dict es ep/\es.toList=xs.map (entryOfKey<|tupleKind<|eE P w)/\(xs.map (·.1)).Nodup
 |.set S n=>h.SetOf (intKind P w) a S n
 |.ins C dx fs=>H dx=θ (.own a)/\↑fs<=1000/\dx≠a/\h.get? a=θ (ip C dx)/\
   ∃mA,h.Ns1 dx mA/\(∀f,vO (fs.lookup f)<|mA f)/\Gn mA (fs.map (·.1))
 |.own _=>∃o,h.get? a=θ o
 |.xd fs=>∃mA,h.Ns1 a mA/\∀f,vO (fs.lookup f) (mA f)
 |.rng lo hi=>∃t u v,h.get? a=θ {cls:=.type "range",data:=.fields #[.int lo t,.int hi u,.int 1 v]}
 |.kg o u=>h.get? a=θ o/\fP H h a u
 |.Sb ps=>h.get? a=θ {cls:=.none,data:=.fields ps}
 |.met f x=>h.get? a=θ (wJ (.ref f)<|.ref x)
 |.ext φ=>φ h/\(∃o,h.get? a=θ o)/\∀h1 h2:cD,φ h1->(∀o,h1.get? a=θ o->h2.get? a=θ o)->φ h2
abbrev pT(H:Hp)(h:cD):?P:=∀a o,H a=θ o->fP P w H h a o
end
section
variable {P:bu}{w:bU}{H H':Hp}{h h':cD}{a:af}{o:HO}
def fP.lt(x:fP P w H h a o):a<h.objs.size:=by
 cases o with
 |lst xs=>let(_,_,_,_,e):=x;show aO e
 |tup xs=>let(_,_,_,p):=x;show p.lt
 |dK bw=>let(_,_,_,_,o,_,_,e,_):=x;show aO e
 |dT bw=>let(_,_,_,_,o,_,_,e,_):=x;show aO e
 |set S n=>let(o,_,_,_,e,_):=x;show aO e
 |ins C dx fs=>let(_,_,_,e,_):=x;show aO e
 |own y=>let(_,e):=x;show aO e
 |xd fs=>let(_,(_,_,_,e,_),_):=x;show aO e
 |rng lo hi=>let(_,_,_,e):=x;show aO e
 |kg ob u=>let(e,_):=x;show aO e
 |Sb ps=>show aO (show h.get? a=θ _ from x)
 |met f y=>show aO (show h.get? a=θ _ from x)
 |ext φ=>let(_,(_,e),_):=x;show aO e
def Paired.Z7{α β:Type}{F G:α->β->?P}:∀{l₁:?L α}{l₂:?L β},Paired F l₁ l₂->(∀a b,F a b->G a b)->Paired G l₁ l₂:=by
 intro l₁ l₂ h f;induction h with
 |nil=>show .nil
 |cons r t ih=>show .cons (f _ _ r) ih
def fP.sY(x:fP P w H h a o)(k:∀b u,(b=a\/H b=θ (.own a))->h.get? b=θ u->h'.get? b=θ u)(ho:∀b,H b=θ (.own a)->H' b=θ (.own a))(ht:∀b xs,H b=θ (.tup xs)->H' b=θ (.tup xs)):fP P w H' h' a o:=by
 induction o with
 |lst xs=>let(z,cA,n,r,e):=x;show(z,cA,n,r,k _ _ @i e)
 |tup xs=>let(z,cA,r,ob,e,c):=x;show(z,cA,r,ob,k _ _ @i e,c)
 |dK bw=>let(z,y,vs,r,ob,es,ep,e,c):=x;show(z,y,vs,r,ob,es,ep,k _ _ @i e,c)
 |dT bw=>
  ext;let(z,y,xs,r,ob,es,ep,e,c):=x;ext;show(z,y,xs,Paired.Z7 r λp q z=>(z.1,ht _ _ z.2.1,z.2.2),ob,es,ep,k _ _ @i e,c)
 |set S n=>let(ob,es,ep,t,e,c):=x;show(ob,es,ep,t,k _ _ @i e,c)
 |ins C dx fs=>
  ext;let(d,z,ne,e,mA,(od,es,ep,e2,c),r):=x;ext;show(ho _ d,z,ne,k _ _ @i e,mA,(od,es,ep,k _ _ (.inr d) e2,c),r)
 |own y=>let(ob,e):=x;show(ob,k _ _ @i e)
 |xd fs=>let(mA,(od,es,ep,e,c),r):=x;show(mA,(od,es,ep,k _ _ @i e,c),r)
 |rng lo hi=>let(t,u,v,e):=x;show(t,u,v,k _ _ @i e)
 |kg ob u ih=>let(e,q):=x;show(k _ _ @i e,ih q)
 |Sb ps=>
  have e:h.get? a=θ {cls:=.none,data:=.fields ps}:=x;change h'.get? a=θ {cls:=.none,data:=.fields ps};show k a _ @i e
 |met f y=>
  have e:h.get? a=θ (wJ (.ref f)<|.ref y):=x;change h'.get? a=θ (wJ (.ref f)<|.ref y);show k a _ @i e
 |ext φ=>let(p,(o,e),st):=x;show(st _ _ p λo q=>k _ _ @i q,(o,k _ _ @i e),st)
def pT.lt(x:pT P w H h)(e:H a=θ o):a<h.objs.size:=(x a o e).lt
def pT.fresh(x:pT P w H h)(e:h.objs.size<=a):H a=ι:=by
 cases q:H a with
 |none=>rfl
 |some u=>show ?A (bJ (x.lt q) e) (jG _)
def pT.kept(x:pT P w H h)(k:∀b u,h.get? b=θ u->h'.get? b=θ u):pT P w H h':=λa o e=>
 (x a o e).sY (λb u _ q=>k b u q) (λ_ q=>q) λ_ _ q=>q
def pT.laid(x:pT P w H h)(k:∀b u,h.get? b=θ u->h'.get? b=θ u)(hp:h.objs.size<=a)(new:fP P w (upd H a o) h' a o):pT P w (upd H a o) h':=λb u e=>by
 have hn:=x.fresh hp;by_cases hb:b=a
 .subst hb;rw[aA]at e;cases e;show new
 .rw[be hb]at e;show(x b u e).sY (λc v _ q=>k c v q) (λc q=>by rw[be (bQ q hn)];show q) λc xs q=>by rw[be (bQ q hn)];show q
end
abbrev Rd(H:Hp)(a:af)(u:HO):?P:=H a=θ u\/∃o,H a=θ (.kg o u)
variable{P:bu}{w:bU}{h:cD}
def Rd.ok(r:Rd H a u)(x:pT P w H h):fP P w H h a u:=by
 rcases r with r|⟨o,r⟩
 .show x a u r
 .let(_,q):=x a _ r;show q
abbrev Z8:?O HO->?P
 |some (.lst _)=>True
 |some (.dK _)=>True
 |some (.dT _)=>True
 |some (.set _ _)=>True
 |some (.ins _ _ _)=>True
 |some (.ext _)=>True
 |_=>?X
section
variable {P:bu}{w:bU}{H:Hp}{h h':cD}{x e:af}{o':HO}
def pT.write(ok:pT P w H h)(mu:Z8 (H x))(he:e=x\/H e=θ (.own x))(k:∀b u,b≠e->h.get? b=θ u->h'.get? b=θ u)(Zu:∃u,h'.get? e=θ u)(new:fP P w (upd H x o') h' x o'):pT P w (upd H x o') h':=λb u q=>by
 have Z9:∀c y,H c=θ (.own y)->c≠x:=λc y r z=>by subst z;rw[r]at mu;show mu
 have aj4:∀c xs,H c=θ (.tup xs)->c≠x:=λc xs r z=>by subst z;rw[r]at mu;show mu
 by_cases hb:b=x
 .subst hb;rw[aA]at q;cases q;show new
 .rw[be hb]at q;by_cases Wb:b=e
  .have q':H b=θ (.own x):=by
    rcases he with z|z
    .show ?A (Wb.trans z) hb
    .rw[Wb];show z
   rw[q]at q';cases q';let(v,hv):=Zu;show(v,by rw[Wb];show hv)
  .show(ok b u q).sY (λc v hc r=>k c v ?_ r) (λc r=>by rw[be (Z9 c b r)];show r) λc xs r=>by rw[be (aj4 c xs r)];show r
   rcases hc with rfl|hc
   .show Wb
   .rintro rfl;rcases he with z|z
    .show Z9 c b hc z
    .rw[hc]at z;cases z;show hb @r
end
structure Un(fs ex:?L af)(H H':Hp)(h h':cD):?P where
 keep:∀b o,h.get? b=θ o->H b=ι->b∉fs->b∉ex->h'.get? b=θ o
 slot:∀b o,h.get? b=θ o->H b=ι->b∈fs->b∉ex->∃sl,h'.get? b=θ {o with slots:=sl}
 free:∀b o,h.get? b=θ o->H b=ι->b∉ex->H' b=ι
 there:∀b o,h.get? b=θ o->b∉ex->∃o',h'.get? b=θ o'
 tK:∀b xs,H b=θ (.tup xs)->H' b=θ (.tup xs)
 tL:∀b o u,H b=θ (.kg o u)->H' b=θ (.kg o u)
 va:∀b ps,H b=θ (.Sb ps)->∃more,H' b=θ (.Sb<|ps++more)
section
variable {fs fs' ex ex':?L af}{H H1 H2:Hp}{h h1 h2 h':cD}{a x e:af}{o:HO}
def Un.any(u:Un fs ex H H1 h h1){ob:Obj}(q:h.get? b=θ ob)(n:H b=ι)(hx:b∉ex):∃sl,h1.get? b=θ {ob with slots:=sl}:=by
 by_cases hb:b∈fs
 .show u.slot b ob q n hb hx
 .show(ob.slots,u.keep b ob q n hb hx)
def Un.trans(a:Un fs ex H H1 h h1)(b:Un fs ex H1 H2 h1 h2):Un fs ex H H2 h h2 where
 keep:=λc ob q n hc hx=>b.keep c ob (a.keep c ob q n hc hx) (a.free c ob q n hx) hc hx
 slot:=λc ob q n hc hx=>by
  let(sl,e1):=a.slot c ob q n hc hx;let(sl',e2):=b.slot c _ e1 (a.free c ob q n hx) hc hx;show(sl',e2)
 free:=λc ob q n hx=>by
  let(o',e1):=a.there c ob q hx;show b.free c o' e1 (a.free c ob q n hx) hx
 there:=λc ob q hx=>by
  let(o',e1):=a.there c ob q hx;show b.there c o' e1 hx
 tK:=λc xs q=>b.tK c xs (a.tK c xs q)
 tL:=λc ob xs q=>b.tL c ob xs (a.tL c ob xs q)
 va:=λc ps q=>by
  let(m1,e1):=a.va c ps q;let(m2,e2):=b.va c _ e1;show(m1++m2,by rw[e2,Array.append_assoc])
def Un.kept(k:∀b u,h.get? b=θ u->h'.get? b=θ u):Un fs ex H H h h':=
 (λb ob q _ _ _=>k b ob q,λb ob q _ _ _=>(ob.slots,k b ob q),λ_ _ _ n _=>n,λb ob q _=>(ob,k b ob q),λ_ _ q=>q,λ_ _ _ q=>q,λ_ ps q=>(#[],by rw[q];simp))
def Un.refl:Un fs ex H H h h:=Un.kept λ_ _ q=>q
def Un.laid(k:∀b u,h.get? b=θ u->h'.get? b=θ u)(hp:h.objs.size<=a)(hn:H a=ι):Un fs ex H (upd H a o) h h' where
 keep:=λb u q _ _ _=>k b u q
 slot:=λb u q _ _ _=>(u.slots,k b u q)
 free:=λb u q n _=>by rw[be (bz<|bJ (aO q) hp)];show n
 there:=λb u q _=>(u,k b u q)
 tK:=λb xs q=>by rw[be (bQ q hn)];show q
 tL:=λb u xs q=>by rw[be (bQ q hn)];show q
 va:=λb ps q=>(#[],by rw[be (bQ q hn),q];simp)
def Un.write(mu:Z8 (H x))(he:e=x\/H e=θ (.own x))(k:∀b u,b≠e->h.get? b=θ u->h'.get? b=θ u)(Zu:∃u,h'.get? e=θ u):Un fs ex H (upd H x o) h h':=by
 have hx:∀b,H b=ι->b≠x:=λb n z=>by subst z;rw[n]at mu;show mu
 have hb:∀b,H b=ι->b≠e:=λb n z=>by
  subst z;rcases he with r|r
  .show hx b n r
  .rw[n]at r;cases r
 have hm:∀b u,H b=θ u->¬Z8 (θ u)->b≠x:=λb u q nm z=>by subst z;rw[q]at mu;show nm mu
 show(λb u q n _ _=>k b u (hb b n) q,λb u q n _ _=>(u.slots,k b u (hb b n) q),λb u q n _=>by rw[be (hx b n)];show n,λb u q _=>?_,
  λb xs q=>by rw[be (hm b _ q λz=>z)];show q,λb u xs q=>by rw[be (hm b _ q λz=>z)];show q,λb ps q=>(#[],by rw[be (hm b _ q λz=>z),q];simp))
 by_cases Wb:b=e
 .subst Wb;show Zu
 .show(u,k b u Wb q)
def Un.mono(u:Un fs ex H H1 h h1)(hs:∀b∈fs,b∈fs')(hx:∀b∈ex,b∈ex'):Un fs' ex' H H1 h h1:=
 (λb ob q n hb he=>u.keep b ob q n (λz=>hb (hs b z)) λz=>he (hx b z),λ_ _ q n _ he=>u.any q n λz=>he (hx _ z),λb ob q n he=>u.free b ob q n λz=>he (hx b z),λb ob q he=>u.there b ob q λz=>he (hx b z),u.tK,u.tL,u.va)
end
abbrev GQ(h:cD)(H:Hp):?L af:=(lJ h.objs.size).filter λa=>(H a).isSome
abbrev EL(h:cD)(H:Hp):cD:=ji h (GQ h H)
def Mp(h:cD)(H:Hp):(EL h H).objs.size=h.objs.size:=PySem.W.hideAll_size _ _
variable{o:Obj}
def N0(e:h.get? b=θ o)(n:H b=ι):(EL h H).get? b=θ o:=
 GF _ e λhm=>by
  have q:(H b).isSome=ξ:=(List.mem_filter.mp hm).2;rw[n]at q;simp at q
def Sw(e:(EL h H).get? b=θ o):h.get? b=θ o/\H b=ι:=by
 have e':h.get? b=θ o:=IA (GQ h H) e;show(e',?_);cases q:H b with
 |none=>rfl
 |some x=>
  have hm:b∈GQ h H:=List.mem_filter.mpr (List.mem_range.mpr<|aO e',by simp[q]);have z:(EL h H).get? b=ι:=PySem.W.hideAll_none (GQ h H) hm;rw[z]at e;cases e
structure Mod(K:aa)(mg:χ->?O ai)(base:cD):?P where
 Zv:K.In base
 glob:base.Ns bH mg
 blt:∃mb,base.Ns builtinsNs mb/\∀x:χ,x≠"__name__"->mb x=bootBuiltins x
 nolimit:base.NoLimit
structure Cx where
 prog:bu
 w:bU
 K:aa
 mg:χ->?O ai
 base:cD
 A:cy
 N:?L χ
 kJ:ao
 zM:Hp
 env:Env
 outer:?L Env
 stack:?L Env
 ex:?L af
 fn:χ->?B
 calm:?B
 pn:?L @u
 xe:ai->ao->?P
abbrev qN(l:?L Env):?L af:=l.filterMap (·.frame)
noncomputable abbrev Cx.fs(X:Cx):?L af:=qN X.outer
abbrev zN(sc:Scope)(x:χ):?P:=sc.names.lookup x=θ .local\/sc.names.lookup x=θ .cell\/sc.names.lookup x=θ .free
abbrev Loc(sc:Scope)(x:χ):?P:=sc.names.lookup x=θ .local\/sc.names.lookup x=θ .cell
abbrev Look(env:Env)(h:cD)(m:χ->?O ai)(x:χ)(u:ai):?P:=
 (env.kindOf x=θ .local/\m x=θ u)\/((env.kindOf x=θ .cell\/env.kindOf x=θ .free)/\∃c,env.cells.lookup x=θ c/\h.IsCell c (θ u))
structure Cx.Ok(X:Cx):?P where
 mod:Mod X.K X.mg X.base
 kind:X.env.scope.kind = .function
 glob:X.env.globals=bH
 blt:X.env.builtins=builtinsNs
 above:X.kJ.heap.objs.size<=X.env.locals
 inj:∀x y c,X.env.cells.lookup x=θ c->X.env.cells.lookup y=θ c->x=y
 has:∀x,(X.env.kindOf x=θ .cell\/X.env.kindOf x=θ .free)->∃c,X.env.cells.lookup x=θ c
 UA:∀x c,X.fn x=ξ->X.env.cells.lookup x=θ c->X.kJ.heap.objs.size<=c
 hd:X.calm=ξ->X.A.handled=ι
 frames:X.A.frames=θ X.stack
 Gs:X.stack=X.outer\/(X.stack=X.env::X.outer/\X.env.frame=θ X.env.locals)
 exf:∀b∈X.ex,b≠X.env.locals/\∀x c,X.env.cells.lookup x=θ c->c≠b
 bs:∀b o,X.base.get? b=θ o->X.kJ.heap.get? b=θ o/\X.zM b=ι
 Mq:X.base.objs.size<=X.kJ.heap.objs.size
 GR:∀b o,X.base.get? b=θ o->b∉X.ex
 Jc:∀b∈X.ex,b∉X.fs
 vc:X.kJ.heap.FunFrames X.base X.outer
 KR:∀b∈X.fs,X.zM b=ι
structure Inv(X:Cx)(π:?L @u)(σ:?L (?O V))(H:Hp)(s:ao):?P where
 ok:X.Ok
 os:s.os=X.kJ.os
 bare:AllBare s.gens
 base:Un X.fs X.ex X.zM H X.kJ.heap s.heap
 loc:∃m,s.heap.Ns X.env.locals m/\∀(i:?N)(x:χ)(v:V),X.N[i]?=θ x->σ[i]?=θ (θ v)->zN X.env.scope x->∃u,RelV v u/\Look X.env s.heap m x u
 cell:∀x c,X.env.cells.lookup x=θ c->∃v,s.heap.IsCell c v
 free:H X.env.locals=ι
 qQ:∀x c,X.env.cells.lookup x=θ c->H c=ι
 pin:∀p∈X.pn++π,s.heap.get? p.1=θ p.2/\H p.1=ι/\p.1≠X.env.locals/\p.1∉X.fs/\∀v,p.2.data≠.cell v
 eD:pT X.prog X.w H s.heap
 len:↑σ=X.N.length
section
variable {X:Cx}{π:?L @u}{σ:?L (?O V)}{H H':Hp}{s:ao}{h':cD}
def Cx.Ok.aj5(ok:X.Ok)(e:X.base.get? b=θ o):b∉X.fs:=λhb=>by
 have:=(ok.vc.mem hb).1;rw[e]at this;cases this
def Inv.bs(I:Inv X π σ H s):∀b o,X.base.get? b=θ o->s.heap.get? b=θ o/\H b=ι:=λb o e=>
 (I.base.keep b o (I.ok.bs b o e).1 (I.ok.bs b o e).2 (I.ok.aj5 e)<|I.ok.GR b o e,I.base.free b o (I.ok.bs b o e).1 (I.ok.bs b o e).2<|I.ok.GR b o e)
def Inv.bk(I:Inv X π σ H s):∀b o,X.base.get? b=θ o->s.heap.get? b=θ o:=λb o e=>(I.bs b o e).1
def Inv.mod(I:Inv X π σ H s):Mod X.K X.mg X.base:=I.ok.mod
def Inv.vd(I:Inv X π σ H s):X.K.In s.heap:=I.ok.mod.Zv.keeps I.bk
def Inv.lt(I:Inv X π σ H s):X.env.locals<↥s:=by let(_,hn,_):=I.loc;show hn.lt
def Inv.sz(I:Inv X π σ H s):X.kJ.heap.objs.size<=↥s:=bD I.ok.above (fe I.lt)
def Inv.aa0(I:Inv X π σ H s)(h:↥s<=a):a∉X.fs:=λhb=>by
 let(_,o,ho,_):=I.ok.vc.mem hb;show ?A (bJ (aO ho)<|bD I.sz h) (jG _)
def Inv.Wc(I:Inv X π σ H s):∀x c,X.env.cells.lookup x=θ c->c≠X.env.locals:=λx c e z=>by
 let(v,o,ho,hd):=I.cell x c e;let(m,(o',es,ep,Wd,UB,_),_):=I.loc;rw[z,Wd]at ho;cases ho;rw[UB]at hd;cases hd
def Inv.vc(I:Inv X π σ H s):s.heap.FunFrames X.base X.outer:=by
 have all:∀(l:?L Env),(∀b∈qN l,b∈X.fs)->X.kJ.heap.FunFrames X.base l->s.heap.FunFrames X.base l:=by
  intro l;induction l with
  |nil=>intro _ _;trivial
  |cons env r ih=>
   intro hs hl;let(hk,(L,o,hf,hn,ho,hd),hr):=hl;have hL:L∈X.fs:=hs L (by unfold qN;rw[oK,hf];show aJ);let(sl,e):=I.base.slot L o ho (I.ok.KR L hL) hL λz=>I.ok.Jc L z hL;show(hk,(L,_,hf,hn,e,hd),ih (λb hb=>hs b (by unfold qN;rw[oK,hf];show aM _ hb)) hr)
 show all X.outer (λ_ hb=>hb) I.ok.vc
def Inv.stack(I:Inv X π σ H s):s.heap.FunFrames X.base X.stack:=by
 rcases I.ok.Gs with e|⟨e,hf⟩
 .rw[e];show I.vc
 .rw[e];let(m,hn,_):=I.loc;show .cons (by rw[I.ok.kind];decide) hf hn ?_ I.vc;show Heap.get?_none_of_le (bD I.ok.Mq I.ok.above)
def Inv.Jd(I:Inv X π σ H s):∀b∈qN X.stack,b∈X.env.locals::X.fs:=λb hb=>by
 rcases I.ok.Gs with e|⟨e,hf⟩
 .rw[e]at hb;show aM _ hb
 .rw[e]at hb;unfold qN at hb;rw[oK,hf]at hb;show hb
def Inv.EM(I:Inv X π σ H s):∀b∈qN X.stack,H b=ι:=λb hb=>by
 rcases bg.mp (I.Jd b hb)with e|hb
 .rw[e];show I.free
 .let(_,o,ho,_):=I.ok.vc.mem hb;show I.base.free b o ho (I.ok.KR b hb) λz=>I.ok.Jc b z hb
variable{t':?N}{ch:?L af}
def Inv.step{g':?R GenState}{d':Drawn}(I:Inv X π σ H s)(Sd:∀b∈ch,(b∈X.ex\/X.kJ.heap.objs.size<=b)/\b≠X.env.locals/\(∀x c,X.env.cells.lookup x=θ c->c≠b)/\∀p∈X.pn++π,p.1≠b)(keep:∀b o,b≠X.env.locals->b∉X.fs->b∉ch->s.heap.get? b=θ o->H b=ι->h'.get? b=θ o)(slot:∀b o,b≠X.env.locals->b∈X.fs->b∉ch->s.heap.get? b=θ o->H b=ι->∃sl,h'.get? b=θ {o with slots:=sl})(free:∀b o,b∉ch->s.heap.get? b=θ o->H b=ι->H' b=ι)(there:∀b o,b∉ch->s.heap.get? b=θ o->∃o',h'.get? b=θ o')(tK:∀b xs,H b=θ (.tup xs)->H' b=θ (.tup xs))(tL:∀b o u,H b=θ (.kg o u)->H' b=θ (.kg o u))(va:∀b ps,H b=θ (.Sb ps)->∃more,H' b=θ (.Sb<|ps++more))(ns:∀m,s.heap.Ns X.env.locals m->h'.Ns X.env.locals m)(eD:pT X.prog X.w H' h')(hg:AllBare g'):
  Inv X π σ H' {s with heap:=h',gens:=g',drawn:=d',toks:=t'}:=by
 have neL:∀b o,X.kJ.heap.get? b=θ o->b≠X.env.locals:=λb o e=>bz (bJ (aO e) I.ok.above);have neC:∀b o,X.kJ.heap.get? b=θ o->b∉X.ex->b∉ch:=λb o e hx hb=>by
  rcases(Sd b hb).1 with z|z
  .show hx z
  .show ?A (bJ (aO e) z) (jG _)
 have cellK:∀x c,X.env.cells.lookup x=θ c->∀v,s.heap.IsCell c v->h'.IsCell c v:=by
  rintro x c e v ⟨o,ho,hd⟩;have UC:c∉ch:=λz=>(Sd c z).2.2.1 x c e @r;by_cases hc:c∈X.fs
  .let(sl,q):=slot c o (I.Wc x c e) hc UC ho (I.qQ x c e);show(_,q,hd)
  .show(o,keep c o (I.Wc x c e) hc UC ho<|I.qQ x c e,hd)
 show(I.ok,I.os,hg,(λb o e n hb hx=>?_,λb o e n hb hx=>?_,λb o e n hx=>?_,λb o e hx=>?_,λb xs e=>tK b xs (I.base.tK b xs e),λb o xs e=>tL b o xs (I.base.tL b o xs e),λb ps e=>?_),?_,λx c e=>?_,?_,λx c e=>?_,λp hp=>?_,eD,I.len)
 .show keep b o (neL b o e) hb (neC b o e hx) (I.base.keep b o e n hb hx) (I.base.free b o e n hx)
 .let(sl,e1):=I.base.slot b o e n hb hx;let(sl',e2):=slot b _ (neL b o e) hb (neC b o e hx) e1 (I.base.free b o e n hx);show(sl',e2)
 .let(o',e1):=I.base.there b o e hx;show free b o' (neC b o e hx) e1 (I.base.free b o e n hx)
 .let(o',e1):=I.base.there b o e hx;show there b o' (neC b o e hx) e1
 .let(m1,e1):=I.base.va b ps e;let(m2,e2):=va b _ e1;show(m1++m2,by rw[e2,Array.append_assoc])
 .let(m,hn,hl):=I.loc;show(m,ns m hn,λi x v e1 e2 e3=>?_);let(u,r,l):=hl i x v e1 e2 e3;show(u,r,?_);rcases l with l|⟨k,c,e,z⟩
  .show .inl l
  .show .inr (k,c,e,cellK x c e _ z)
 .let(v,z):=I.cell x c e;show(v,cellK x c e v z)
 .ext;let(m,(o,_,_,ho,_),_):=I.loc;ext;show free _ o (λz=>(Sd _ z).2.1 @r) ho I.free
 .let(v,o,ho,hd):=I.cell x c e;show free c o (λz=>(Sd c z).2.2.1 x c e @r) ho (I.qQ x c e)
 .ext;let(e,n,ne,nf,d):=I.pin p hp;ext;have UC:p.1∉ch:=λz=>(Sd p.1 z).2.2.2 p hp @r;show(keep p.1 p.2 ne nf UC e n,free p.1 p.2 UC e n,ne,nf,d)
def Inv.un(I:Inv X π σ H s)(u:Un X.fs [] H H' s.heap h')(eD:pT X.prog X.w H' h'):Inv X π σ H' {s with heap:=h',toks:=t'}:=by
 let(m,(o,es,ep,ho,r),_):=id I.loc;let(sl,hL):=u.any ho I.free @s
 show I.step (g':=s.gens) (d':=s.drawn) (ch:=[]) @m (λb o _ hb _ e n=>u.keep b o e n hb @s) (λb o _ hb _ e n=>u.slot b o e n hb @s) (λb o _ e n=>u.free b o e n @s) (λb o _ e=>u.there b o e @s) u.tK u.tL u.va (λm' hm=>by
  let(o',KS,ep',Wd,r'):=hm;rw[ho]at Wd;cases Wd
  show(_,KS,ep',hL,r')) eD I.bare
def Inv.call{g':?R GenState}{t':?N}{d':Drawn}{ch:?L af}(I:Inv X π σ H s)(u:Un (qN X.stack) ch H H' s.heap h')(eD:pT X.prog X.w H' h')(hg:AllBare g')(Sd:∀b∈ch,(b∈X.ex\/X.kJ.heap.objs.size<=b)/\b≠X.env.locals/\(∀x c,X.env.cells.lookup x=θ c->c≠b)/\∀p∈X.pn++π,p.1≠b):
  Inv X π σ H' {s with heap:=h',gens:=g',drawn:=d',toks:=t'}:=by
 let(m,(o,es,ep,ho,r),_):=id I.loc;let(sl,hL):=u.any ho I.free λz=>(Sd _ z).2.1 @r
 show I.step (ch:=ch) Sd (λb o hL hb hc e n=>u.keep b o e n (λz=>(bg.mp<|I.Jd b z).elim hL hb) hc) (λb o _ _ hc e n=>u.any e n hc) (λb o hc e n=>u.free b o e n hc) (λb o hc e=>u.there b o e hc) u.tK u.tL u.va (λm' hm=>by
  let(o',KS,ep',Wd,r'):=hm;rw[ho]at Wd;cases Wd
  show(_,KS,ep',hL,r')) eD hg
variable{it:af}
def Inv.turned(I:Inv X π σ H s)(k:∀b o,b≠it->s.heap.get? b=θ o->h'.get? b=θ o)(hn:H it=ι)(hL:it≠X.env.locals)(h1:it∈X.ex\/X.kJ.heap.objs.size<=it)(h2:∀x c,X.env.cells.lookup x=θ c->c≠it)(h3:∀p∈X.pn++π,p.1≠it):Inv X π σ H {s with heap:=h',toks:=t'}:=by
 have nit:∀b u,H b=θ u->b≠it:=λb u e z=>by rw[z,hn]at e;cases e
 show I.step (g':=s.gens) (d':=s.drawn) (ch:=[it]) (λb hb=>?_) (λb o _ _ hc e _=>k b o (λz=>hc (by simp[z])) e) (λb o _ _ hc e _=>(o.slots,k b o (λz=>hc (by simp[z])) e)) (λ_ _ _ _ n=>n)
  (λb o hc e=>(o,k b o (λz=>hc (by simp[z])) e)) (λ_ _ e=>e) (λ_ _ _ e=>e) (λb ps e=>(#[],by rw[e];simp)) (λm hm=>?_) (λb u e=>?_) I.bare
 .have e:b=it:=by simpa using hb
  subst e;show(h1,hL,h2,h3)
 .let(o,es,ep,ho,r):=hm;show(o,es,ep,k _ o (cp hL) ho,r)
 .show(I.eD b u e).sY (λc v hc q=>k c v ?_ q) (λ_ q=>q) λ_ _ q=>q;rcases hc with z|z
  .rw[z];show nit b u e
  .show nit c _ z
def Inv.tok(I:Inv X π σ H s)(t:?N):Inv X π σ H {s with toks:=t}:=I.un (h':=s.heap) (t':=t) Un.refl I.eD
def Inv.kept(I:Inv X π σ H s)(k:∀b u,s.heap.get? b=θ u->h'.get? b=θ u):Inv X π σ H {s with heap:=h',toks:=t'}:=I.un (Un.kept k) (I.eD.kept k)
def Inv.laid{o:HO}(I:Inv X π σ H s)(k:∀b u,s.heap.get? b=θ u->h'.get? b=θ u)(hp:↥s<=a)(new:fP X.prog X.w (upd H a o) h' a o):
  Inv X π σ (upd H a o) {s with heap:=h',toks:=t'}:=I.un (Un.laid k hp<|I.eD.fresh hp) (I.eD.laid k hp new)
def Inv.write{x e:af}{o:HO}(I:Inv X π σ H s)(mu:Z8 (H x))(he:e=x\/H e=θ (.own x))(k:∀b u,b≠e->s.heap.get? b=θ u->h'.get? b=θ u)(Zu:∃u,h'.get? e=θ u)(new:fP X.prog X.w (upd H x o) h' x o):Inv X π σ (upd H x o) {s with heap:=h',toks:=t'}:=I.un (Un.write mu he k Zu) (I.eD.write mu he k Zu new)
def Inv.uM{vx:?L @u}(I:Inv X π σ H s)(h:∀p∈vx,s.heap.get? p.1=θ p.2/\H p.1=ι/\p.1≠X.env.locals/\p.1∉X.fs/\∀v,p.2.data≠.cell v):Inv X vx σ H s:=
 (I.ok,I.os,I.bare,I.base,I.loc,I.cell,I.free,I.qQ,λp hp=>(aW.mp hp).elim (λz=>I.pin p (bW _ z)) (h p),I.eD,I.len)
variable{N:?L χ}{i j:?N}{x:χ}
def tM(hN:N.Nodup)(a:N[i]?=θ x)(b:N[j]?=θ x):i=j:=by
 let(h1,e1):=ay.mp a;let(h2,e2):=ay.mp b;show(List.getElem_inj hN).mp (e1.trans e2.symm)
variable{M:Model}{A:cy}{E:ai->ao->?P}{v:V}{u:ai}{Q:Unit->ao->?P}
def Dz(I:Inv X π σ H s)(hN:X.N.Nodup)(hi:X.N[i]?=θ x)(hx:Loc X.env.scope x)(r:RelV v u)(h:∀s',Inv X π (σ.set i<|θ v) H s'->(∃a,iJ a s.heap s'.heap/\(a=X.env.locals\/X.env.cells.lookup x=θ a))->Q () s')(hf:X.fn x=ξ\/X.env.scope.names.lookup x=θ .local:=by first|show .inl @r|show .inr @r|assumption):aU M A (storeName X.env x u) Q E s:=by
 let(m,hn,hl):=id I.loc;have aj6:(X.env.scope.kind == .class||(X.env.scope.kind == .module&&X.env.locals != X.env.globals))=υ:=by rw[I.ok.kind];rfl
 have aa1:i<↑σ:=by rw[I.len];show(ay.mp hi).1
 have Wc:=I.Wc;have tracked:∀{a:af}{h':cD},(∃o,s.heap.get? a=θ o/\H a=ι)->iJ a s.heap h'->pT X.prog X.w H h':=λ{a h'} ha hs b ob e=>by
  let(_,_,UD):=ha;show(I.eD b ob e).sY (λc w' hc q=>(hs.2 c ?_).trans q) (λ_ q=>q) λ_ _ q=>q;rintro rfl;rcases hc with rfl|hc
  .rw[UD]at e;cases e
  .rw[UD]at hc;cases hc
 rcases hx with hk|hk
 .show wpAny_storeName_local hk hn (λh' hn' hs=>?_) aj6;ext;let(oL,_,_,hoL,_):=id hn;ext;show h _ (I.ok,I.os,I.bare,(λb o e n hb hx=>?_,λb o e n hb hx=>?_,I.base.free,λb o e hx=>?_,I.base.tK,I.base.tL,I.base.va),(_,hn',λj y v' e1 e2 e3=>?_),λy c e=>?_,I.free,I.qQ,λp hp=>?_,tracked (oL,hoL,I.free) hs,by simpa using I.len) (_,hs,.inl @r)
  .show(hs.2 b<|bz<|bJ (aO e) I.ok.above).trans (I.base.keep b o e n hb hx)
  .let(sl,e1):=I.base.slot b o e n hb hx;show(sl,(hs.2 b<|bz<|bJ (aO e) I.ok.above).trans e1)
  .let(o',e1):=I.base.there b o e hx;show(o',(hs.2 b<|bz<|bJ (aO e) I.ok.above).trans e1)
  .by_cases hj:j=i
   .subst hj;rw[hi]at e1;cases e1;rw[GG aa1]at e2;cases e2;show(u,r,.inl (hk,by simp))
   .rw[iK (cp hj)]at e2;let(u',r',q):=hl j y v' e1 e2 e3;show(u',r',?_);rcases q with⟨k,e⟩|⟨k,c,e,z⟩
    .show .inl (k,?_);have:y≠x:=λe=>hj (tM hN e1<|e ▸ hi);simp[this,e]
    .show .inr (k,c,e,z.sameBut hs<|Wc y c e)
  .let(w',z):=I.cell y c e;show(w',z.sameBut hs<|Wc y c e)
  .ext;let(e,n,ne,nf,d):=I.pin p hp;ext;show((hs.2 p.1 ne).trans e,n,ne,nf,d)
 .have hfn:X.fn x=ξ:=by
   rcases hf with z|z
   .show z
   .rw[z]at hk;cases hk
  let(c,hc):=I.ok.has x (.inl hk);let(w',z):=I.cell x c hc;show wpAny_storeName_cell I.ok.kind hk hc z (λh' Je hs=>?_);let(oc,hoc,aj7):=id z;show h {s with heap:=h'} (I.ok,I.os,I.bare,(λb o e n hb hx=>?_,λb o e n hb hx=>?_,I.base.free,λb o e hx=>?_,I.base.tK,I.base.tL,I.base.va),(m,hn.sameBut hs<|cp<|Wc x c hc,λj y v' e1 e2 e3=>?_),λy c' e=>?_,I.free,I.qQ,λp hp=>?_,tracked (oc,hoc,I.qQ x c hc) hs,by simpa using I.len) (c,hs,.inr hc)
  .show(hs.2 b<|bz<|bJ (aO e)<|I.ok.UA x c hfn hc).trans (I.base.keep b o e n hb hx)
  .let(sl,e1):=I.base.slot b o e n hb hx;show(sl,(hs.2 b<|bz<|bJ (aO e)<|I.ok.UA x c hfn hc).trans e1)
  .let(o',e1):=I.base.there b o e hx;show(o',(hs.2 b<|bz<|bJ (aO e)<|I.ok.UA x c hfn hc).trans e1)
  .by_cases hj:j=i
   .subst hj;rw[hi]at e1;cases e1;rw[GG aa1]at e2;cases e2;show(u,r,.inr (.inl hk,c,hc,Je))
   .rw[iK (cp hj)]at e2;let(u',r',q):=hl j y v' e1 e2 e3;show(u',r',?_);rcases q with q|⟨k,c',e,z'⟩
    .show .inl q
    .show .inr (k,c',e,z'.sameBut hs ?_);rintro rfl;show hj (tM hN e1<|I.ok.inj _ _ _ e hc ▸ hi)
  .by_cases hcc:c'=c
   .subst hcc;show(_,Je)
   .let(w2,z2):=I.cell y c' e;show(w2,z2.sameBut hs hcc)
  .ext;let(e,n,ne,nf,d):=I.pin p hp;ext;show((hs.2 p.1 ?_).trans e,n,ne,nf,d);intro q;rw[q,hoc]at e;have q':oc=p.2:=bf e;show d w' (by rw[<-q'];show aj7)
def wW(I:Inv X π σ H s)(hN:X.N.Nodup)(hi:X.N[i]?=θ x)(hx:Loc X.env.scope x)(r:RelV v u)(h:∀s',Inv X π (σ.set i<|θ v) H s'->Q () s')(hf:X.fn x=ξ\/X.env.scope.names.lookup x=θ .local:=by first|show .inl @r|show .inr @r|assumption):aU M A (storeName X.env x u) Q E s:=
 Dz I hN hi hx r (λs' I' _=>h s' I') hf
variable{s':ao}
def Inv.UE(I:Inv X π σ H s)(ho:s'.os=s.os)(u:Un (qN X.stack) ch H H' s.heap s'.heap)(eD:pT X.prog X.w H' s'.heap)(hg:AllBare s'.gens)(Sd:∀b∈ch,(b∈X.ex\/X.kJ.heap.objs.size<=b)/\b≠X.env.locals/\(∀x c,X.env.cells.lookup x=θ c->c≠b)/\∀p∈X.pn++π,p.1≠b):Inv X π σ H' s':=by
 let(h',g',d',t',o'):=s';have e:o'=s.os:=ho;subst e;show I.call (g':=g') (t':=t') (d':=d') u eD hg Sd
end
noncomputable abbrev XK:=ai->?O af->Hp->?P
noncomputable abbrev St:=?L (?O V)
noncomputable abbrev VK:=V->Hp->?P
noncomputable abbrev TE:=St->Hp->VK->?P
noncomputable abbrev TT:=St->Hp->(?B->Hp->?P)->?P
noncomputable abbrev TA:=St->Hp->(?L V->Hp->?P)->?P
structure Ends where
 nx:St->Hp->?P
 rt:VK
 bk:St->Hp->?P:=λ_ _=>?X
 ct:St->Hp->?P:=λ_ _=>?X
noncomputable abbrev TS:=Ends->St->Hp->?P
abbrev EP(X:Cx)(π:?L @u)(σ:St)(Q:VK)(u:ai)(s':ao):?P:=∃v H',Inv X π σ H' s'/\RelV v u/\Q v H'
abbrev TP(X:Cx)(π:?L @u)(σ:St)(Q:?B->Hp->?P)(b:?B)(s':ao):?P:=∃H',Inv X π σ H' s'/\Q b H'
abbrev AP(X:Cx)(π:?L @u)(σ:St)(Q:?L V->Hp->?P)(us:?L ai)(s':ao):?P:=∃vs H',Inv X π σ H' s'/\dD vs us/\Q vs H'
abbrev SP(X:Cx)(π:?L @u)(D:Ends)(f:Flow)(s':ao):?P:=
 match f with
 |.next=>∃fo H',Inv X π fo H' s'/\D.nx fo H'
 |.brk=>∃fo H',Inv X π fo H' s'/\D.bk fo H'
 |.cont=>∃fo H',Inv X π fo H' s'/\D.ct fo H'
 |.ret u=>∃v fo H',Inv X π fo H' s'/\RelV v u/\D.rt v H'
abbrev PE(X:Cx)(e:bR)(t:TE):?P:=
 ∀(π:?L @u) (s:ao) (σ:St) (H:Hp) (Q:VK),Inv X π σ H s->t σ H Q->aU ⇑X X.A (eval e X.env) (EP X π σ Q) X.xe s
abbrev PT(X:Cx)(e:bR)(t:TT):?P:=
 ∀(π:?L @u) (s:ao) (σ:St) (H:Hp) (Q:?B->Hp->?P),Inv X π σ H s->t σ H Q->aU ⇑X X.A (isTrue e X.env<|eval e X.env) (TP X π σ Q) X.xe s
abbrev PW(X:Cx)(e:bR)(t:TT):?P:=
 ∀(whole:Sem ai) (π:?L @u) (s:ao) (σ:St) (H:Hp) (Q:?B->Hp->?P),Inv X π σ H s->t σ H Q->aU ⇑X X.A (isTrue e X.env whole) (TP X π σ Q) X.xe s
variable{X:Cx}{e:bR}
def PW.pt{t:TT}(h:PW X e t):PT X e t:=h _
abbrev PA(X:Cx)(es:?L bR)(t:TA):?P:=
 ∀(pos:Pos) (π:?L @u) (s:ao) (σ:St) (H:Hp) (Q:?L V->Hp->?P),Inv X π σ H s->t σ H Q->aU ⇑X X.A (spliced<|dh pos @I) (AP X π σ Q) X.xe s
abbrev PS(X:Cx)(st:cz)(t:TS):?P:=
 ∀(π:?L @u) (s:ao) (σ:St) (H:Hp) (D:Ends),Inv X π σ H s->t D σ H->aU ⇑X X.A (exec st X.env) (SP X π D) X.xe s
abbrev vP(X:Cx)(st:?L cz)(t:TS):?P:=
 ∀(π:?L @u) (s:ao) (σ:St) (H:Hp) (D:Ends),Inv X π σ H s->t D σ H->aU ⇑X X.A (execs st X.env) (SP X π D) X.xe s
variable{M:Model}{A:cy}{E:ai->ao->?P}{s:ao}
def gh{α:Type}{t:Sem α}{Q Q':α->ao->?P}(h:aU M A t Q E s)(hQ:∀a s,Q a s->Q' a s):aU M A t Q' E s:=cZ h hQ λ_ _ x=>x
section
variable {X:Cx}
variable{π:?L @u}{σ:St}{R:V->V->Hp->?P}
def bin{a b:bR}{ta tb:TE}(ha:PE X a ta)(hb:PE X b tb)(I:Inv X π σ H s)(h:ta σ H λx H1=>tb σ H1 λy H2=>R x y H2){α:Type}{Q:α->ao->?P}{f:ai->ai->Sem α}(hf:∀v u s2 x y H2,Inv X π σ H2 s2->RelV x v->RelV y u->R x y H2->aU ⇑X X.A (f v u) Q X.xe s2):
  aU ⇑X X.A (eval a X.env) (λv gn=>aU ⇑X X.A (eval b X.env) (λu wX=>aU ⇑X X.A (f v u) Q X.xe wX) X.xe gn) X.xe s:=by
 show gh @ak λ v s1  eg=>?_;let(x,H1,I1,r1,q1):=eg;show gh (hb π s1 σ H1 _ I1 q1) λ u s2  eg=>?_;let(y,H2,I2,r2,q2):=eg;show hf v u s2 x y H2 I2 r1 r2 q2
abbrev Jf(i:?N):TE:=λσ H Q=>∃v,σ[i]?=θ (θ v)/\Q v H
abbrev tC(v:V):TE:=λ_ H Q=>Q v H
variable{i:?N}{x:χ}{pos:Pos}
def jD(hN:X.N[i]?=θ x)(hv:zN X.env.scope x)(hd:(x==("__debug__":χ))=υ:=by decide)(pU:(x==("__classdict__":χ))=υ:=by decide):PE X (.Name x pos) (Jf i):=by
 intro π s σ H Q I h;let(v,e,h):=h;let(m,hn,hl):=I.loc;let(u,r,l):=hl i x v hN e hv;have fin:EP X π σ Q u s:=(v,H,I,r,h);rcases l with⟨hk,hm⟩|⟨hk,c,hc,KU⟩
 .show wpAny_Name (wpAny_loadName_local I.ok.kind hk hn hm fin) hd
 .rcases hk with hk|hk
  .show wpAny_Name (wpAny_loadName_cell I.ok.kind hk hc KU fin) hd
  .show wpAny_Name (wpAny_loadName_free I.ok.kind hk hc KU fin pU) hd
def bV{i j pos:_}:PE X (.Constant @T j pos) (tC @T):=λ_ _ _ H _ I h=>wpAny_Constant_int (.int i,H,I.tok _,(_,@r),h)
def DA{b j pos:_}:PE X (.Constant (.bool b) j pos) (tC<|.bl b):=λ_ _ _ H _ I h=>Constant_bool (.bl b,H,I,@r,h)
def oU{j pos:_}:PE X (.Constant .none j pos) (tC .fB):=λ_ _ _ H _ I h=>Constant_none (.fB,H,I,@r,h)
def oV{x j pos:_}:PE X (.Constant @S j pos) (tC @S):=λ_ _ _ H _ I h=>Calls.Constant_str (.str x,H,I.tok _,(_,@r),h)
abbrev Gl(X:Cx)(x:χ):?P:=X.env.kindOf x=θ .globalImplicit
variable{u:ai}{Q:ai->ao->?P}
def rH(I:Inv X π σ H s)(hg:Gl X x)(hm:X.mg x=θ u)(h:Q u s)(hd:(x==("__debug__":χ))=υ:=by decide):aU ⇑X X.A (eval (.Name x pos) X.env) Q E s:=
 CP I.ok.kind hg (Calls.loadGlobal_global (by rw[I.ok.glob];show I.mod.glob.keeps I.bk) hm h) hd
def nJ(I:Inv X π σ H s)(hg:Gl X x)(hm:X.mg x=ι)(hv:bootBuiltins x=θ u)(h:Q u s)(hn:x≠"__name__":=by decide)(hd:(x==("__debug__":χ))=υ:=by decide):aU ⇑X X.A (eval (.Name x pos) X.env) Q E s:=by
 let(mb,h1,h2):=I.mod.blt;show CP I.ok.kind hg (Calls.loadGlobal_builtin (by rw[I.ok.glob];show I.mod.glob.keeps I.bk) hm (by rw[I.ok.blt];show h1.keeps I.bk) ((h2 x hn).trans hv) h) hd
variable{v:V}
def jE(hg:Gl X x)(hm:X.mg x=θ u)(r:RelV v u)(hd:(x==("__debug__":χ))=υ:=by decide):PE X (.Name x pos) (tC v):=
 λ_ _ _ H _ I h=>rH I hg hm (v,H,I,r,h) hd
def Sx(hg:Gl X x)(hm:X.mg x=ι)(hv:bootBuiltins x=θ u)(r:RelV v u)(hn:x≠"__name__":=by decide)(hd:(x==("__debug__":χ))=υ:=by decide):PE X (.Name x pos) (tC v):=
 λ_ _ _ H _ I h=>nJ I hg hm hv (v,H,I,r,h) hn hd
variable {a b:bR}{ta tb:TE}{pos:Pos}
abbrev PC(X:Cx)(op:CmpOp)(a b:bR)(t:TE):?P:=
 ∀(π:?L @u) (s:ao) (σ:St) (H:Hp) (Q:VK),Inv X π σ H s->t σ H Q->
  aU ⇑X X.A (eval a X.env) (λv gn=>aU ⇑X X.A (eval b X.env) (λu wX=>aU ⇑X X.A (compareOp op v u) (EP X π σ Q) X.xe wX) X.xe gn) X.xe s
variable{op:CmpOp}
def N1(b:bR)(h:op≠.In)(h2:op≠.NotIn):behindInMarks op b=υ:=by
 have e1:(op==CmpOp.In)=υ:=by cases op<;>first|rfl|show ?A @r h
 have e2:(op==CmpOp.NotIn)=υ:=by cases op<;>first|rfl|show ?A @r h2
 cases b<;>simp[behindInMarks,e1,e2]
abbrev aa2(ta:TE):TE:=λσ H Q=>ta σ H λx H1=>Q (.bl<|!decide (x = .fB)) H1
def RelV.N2{x:V}{v:ai}(r:RelV x v):(v==eQ)=decide (x = .fB):=by
 cases x with
 |fB=>cases r;rfl
 |bl _=>cases r;rfl
 |int _=>let(t,rfl):=r;rfl
 |str _=>let(t,rfl):=r;rfl
 |Jb _=>let(t,rfl):=r;rfl
 |Uz _=>let(t,rfl):=r;rfl
 |ref _=>cases r;rfl
 |ty _=>cases r;rfl
def KW{j pos'}(ha:PE X a ta):PC X .IsNot a (.Constant .none j pos') (aa2 ta):=by
 intro π s σ H Q I h;show gh @ak λ v s1  eg=>?_;let(x,H1,I1,r1,q1):=eg;show Constant_none (isnot_none_gen (.bl _,H1,I1,by rw[r1.N2];rfl,q1))
abbrev tB(t:TE):TT:=λσ H Q=>t σ H λx H1=>∃c,x = .bl c/\Q c H1
variable{t:TE}
def Jg(h:PC X op a b t)(h1:behindInMarks op b=υ:=by first|show N1 _ @d @d|rfl):PT X (.Compare a [op] [b] pos) (tB t):=by
 intro π s σ H Q I hw;show wpAny_isTrue_Compare1 (gh (h π s σ H _ I hw) λv s1 h1=>gh h1 λu s2 h2=>gh h2 λ c s3  eg=>?_) h1;let(x,H1,I1,r1,q1):=eg;let(d,rfl,q):=q1;cases r1;show kb (H1,I1,q)
def nK(h:PE X e t)(he:∀whole,isTrue e X.env whole=(do let v <-whole;standAt e.pos;holding [v] (truthy v)):=by intro _;rfl):PT X e (tB t):=by
 intro π s σ H Q I hw;show isTrue_plain (gh (h π s σ H _ I hw) λ v s1  eg=>?_) (he _);let(x,H1,I1,r1,q1):=eg;let(d,rfl,q):=q1;cases r1;show kb (H1,I1,q)
variable {tA Zw:TT}{rest:?L bR}
abbrev aj8(t u:TT):TT:=λσ H Q=>t σ H λc H1=>if c=ξ then u σ H1 Q else Q υ H1
abbrev tOr(t u:TT):TT:=λσ H Q=>t σ H λc H1=>if c=ξ then Q ξ H1 else u σ H1 Q
abbrev aj9(t:TT):TT:=λσ H Q=>t σ H λc H1=>Q (!c) H1
def KY(ha:PT X a tA):PW X (.BoolOp .And [a] pos) tA:=by
 intro wh π s σ H Q I h;show isTrue_and (gh (ha π s σ H Q I h) λc s1 e=>?_);cases c with
 |true=>show isTrue_and_nil e
 |false=>show e
def We(ha:PT X a tA):PW X (.BoolOp .Or [a] pos) tA:=by
 intro wh π s σ H Q I h;show isTrue_or (gh (ha π s σ H Q I h) λc s1 e=>?_);cases c with
 |false=>show isTrue_or_nil e
 |true=>show e
def Jh(ha:PT X a tA)(hb:PW X (.BoolOp .And (b::rest) pos) Zw):PW X (.BoolOp .And (a::b::rest) pos) (aj8 tA Zw):=by
 intro wh π s σ H Q I h;show isTrue_and (gh @ak λ c s1  eg=>?_);let(H1,I1,q1):=eg;cases c with
 |true=>show hb wh π s1 σ H1 Q I1 q1
 |false=>show(H1,I1,q1)
def UG(ha:PT X a tA)(hb:PW X (.BoolOp .Or (b::rest) pos) Zw):PW X (.BoolOp .Or (a::b::rest) pos) (tOr tA Zw):=by
 intro wh π s σ H Q I h;show isTrue_or (gh @ak λ c s1  eg=>?_);let(H1,I1,q1):=eg;cases c with
 |true=>show(H1,I1,q1)
 |false=>show hb wh π s1 σ H1 Q I1 q1
def rJ(ha:PT X a tA):PT X (.UnaryOp .Not a pos) (aj9 tA):=by
 intro π s σ H Q I h;show isTrue_not (ha π s σ H (λc H1=>Q (!c) H1) I h)
abbrev aa3(ta tb:TE):TE:=λσ H Q=>ta σ H λx H1=>∃c,x = .bl c/\if c=ξ then tb σ H1 Q else Q (.bl υ) H1
abbrev aa4(ta:TE):TE:=λσ H Q=>ta σ H λx H1=>∃c,x = .bl c/\Q (.bl<|!c) H1
def N3{op:_}(h:PE X a t):PE X (.BoolOp op [a] pos) t:=λπ s σ H Q I hw=>BoolOp_one (h π s σ H Q I hw)
def Ji(ha:PE X a ta)(hb:PE X (.BoolOp .And (b::rest) pos) tb):PE X (.BoolOp .And (a::b::rest) pos) (aa3 ta tb):=by
 intro π s σ H Q I h;show BoolOp_and (gh @ak λ v s1  eg=>?_);let(x,H1,I1,r1,q1):=eg;let(c,rfl,q1):=q1;cases r1;show kb ?_;cases c with
 |true=>show hb π s1 σ H1 Q I1 q1
 |false=>show(.bl υ,H1,I1,@r,q1)
def N4(ha:PE X a ta):PE X (.UnaryOp .Not a pos) (aa4 ta):=by
 intro π s σ H Q I h;show UnaryOp_ (gh @ak λ v s1  eg=>?_);let(x,H1,I1,r1,q1):=eg;let(c,rfl,q1):=q1;cases r1;show not_of (kb (.bl<|!c,H1,I1,@r,q1))
end
abbrev gF(K:aa)(H:Hp)(a:af)(xs:?L V):?P:=
 Rd H a @aj\/
  ∃(o:Obj)(cA:?R ai)(n:?N),K.lookup a=θ o/\o.cls = .type "list"/\o.dict=ι/\o.data = .seq cA n/\cA.size<=au/\dD xs cA.toList
abbrev eI(K:aa)(H:Hp)(a:af)(xs:?L V):?P:=
 Rd H a (.tup xs)\/
  ∃(o:Obj)(cA:?R ai)(n:?N),K.lookup a=θ o/\o.cls = .type "tuple"/\o.data = .seq cA n/\cA.size<=au/\dD xs cA.toList
abbrev ak0:ai->?O V
 |.none=>θ .fB
 |.bool b=>θ (.bl b)
 |.int i _=>θ @T
 |.str x _=>θ @S
 |.bytes b _=>θ (.Jb b)
 |.float b _=>θ (.Uz b)
 |.ref a=>θ @x
 |.type n=>θ (.ty n)
 |_=>ι
variable{u:ai}
def RelV.abs{x:V}(r:RelV x u):ak0 u=θ x:=by
 cases x with
 |fB=>cases r;rfl
 |bl _=>cases r;rfl
 |int _=>let(t,rfl):=r;rfl
 |str _=>let(t,rfl):=r;rfl
 |Jb _=>let(t,rfl):=r;rfl
 |Uz _=>let(t,rfl):=r;rfl
 |ref _=>cases r;rfl
 |ty _=>cases r;rfl
variable{y:V}
def RelV.inj{x:V}(r:RelV x u)(q:RelV y u):x=y:=bf (r.abs.symm.trans q.abs)
def dD.inj:∀{xs ys:?L V}{us:?L ai},dD xs us->dD ys us->xs=ys:=by
 intro xs ys us h;induction h generalizing ys with
 |nil=>intro h;cases h;rfl
 |cons r t ih=>intro h;cases h with|cons r' t'=>rw[r.inj r',ih t']
section
variable {X:Cx}{π:?L @u}{σ:St}{H:Hp}{s:ao}{a:af}{xs ys:?L V}
variable{K:aa}
def gF.of(h:H a=θ @aj):gF K H a xs:=.inl (.inl h)
def eI.of(h:H a=θ (.tup xs)):eI K H a xs:=.inl (.inl h)
def Inv.list(I:Inv X π σ H s)(h:gF X.K H a xs):∃cA:?L ai,dD xs cA/\PlainL s.heap a cA.toArray/\↑xs<=au:=by
 rcases h with h|⟨o,cA,n,hk,hc,hd,hs,hz,r⟩
 .let(z,cA,n,r,e):=h.ok I.eD;show(cA,r,(_,n,e,@r,@r,@r),z)
 .show(cA.toList,r,(o,n,I.vd a o hk,hc,hd,by simpa using hs),?_);have e:=↑r;simp only[iV]at e;omega
def Inv.tuple(I:Inv X π σ H s)(h:eI X.K H a xs):∃cA:?L ai,dD xs cA/\IsTup s.heap a cA.toArray/\↑xs<=au:=by
 rcases h with h|⟨o,cA,n,hk,hc,hs,hz,r⟩
 .let(z,cA,r,p):=h.ok I.eD;show(cA,r,p,z)
 .show(cA.toList,r,(o,I.vd a o hk,hc,n,by simpa using hs),?_);have e:=↑r;simp only[iV]at e;omega
def Inv.AJ(I:Inv X π σ H s)(h:gF X.K H a xs)(h':gF X.K H a ys):xs=ys:=by
 let(cA,r,(o,n,e,_,_,d),_):=I.list h;let(pV,r',(o',n',e',_,_,d'),_):=I.list h';rw[e]at e';cases e';rw[d]at d';injection d' with d1 _;have:cA=pV:=by simpa using ?C Array.toList d1
 subst this;show r.inj r'
def Inv.uN(I:Inv X π σ H s)(h:eI X.K H a xs)(h':eI X.K H a ys):xs=ys:=by
 let(cA,r,(o,e,_,n,d),_):=I.tuple h;let(pV,r',(o',e',_,n',d'),_):=I.tuple h';rw[e]at e';cases e';rw[d]at d';injection d' with d1 _;have:cA=pV:=by simpa using ?C Array.toList d1
 subst this;show r.inj r'
end
noncomputable abbrev Cx.AK(X:Cx)(E:ai->ao->?P):Cx:={X with xe:=E}
noncomputable abbrev Cx.N5(X:Cx):Cx:=X.AK λ_ _=>?X
def Cx.Ok.AK(ok:X.Ok)(E:ai->ao->?P):(X.AK E).Ok:=
 (ok.mod,ok.kind,ok.glob,ok.blt,ok.above,ok.inj,ok.has,ok.UA,ok.hd,ok.frames,ok.Gs,ok.exf,ok.bs,ok.Mq,ok.GR,ok.Jc,ok.vc,ok.KR)
def Cx.Ok.qr(ok:(X.AK E).Ok):X.Ok:=
 (ok.mod,ok.kind,ok.glob,ok.blt,ok.above,ok.inj,ok.has,ok.UA,ok.hd,ok.frames,ok.Gs,ok.exf,ok.bs,ok.Mq,ok.GR,ok.Jc,ok.vc,ok.KR)
section
variable {X:Cx}{π:?L @u}{σ:St}{H:Hp}{s:ao}{E:ai->ao->?P}
def Inv.AK(I:Inv X π σ H s)(E:ai->ao->?P):Inv (X.AK E) π σ H s:=(I.ok.AK E,I.os,I.bare,I.base,I.loc,I.cell,I.free,I.qQ,I.pin,I.eD,I.len)
def Inv.qr(I:Inv (X.AK E) π σ H s):Inv X π σ H s:=(I.ok.qr,I.os,I.bare,I.base,I.loc,I.cell,I.free,I.qQ,I.pin,I.eD,I.len)
variable{D:Ends}{s':ao}
def SP.qr{f:Flow}(h:SP (X.AK E) π D f s'):SP X π D f s':=by
 cases f with
 |next=>let(fo,H',I,q):=h;show(fo,H',I.qr,q)
 |brk=>let(fo,H',I,q):=h;show(fo,H',I.qr,q)
 |cont=>let(fo,H',I,q):=h;show(fo,H',I.qr,q)
 |ret u=>let(v,fo,H',I,r,q):=h;show(v,fo,H',I.qr,r,q)
def vP.N5{st:?L cz}{t:TS}(h:vP X.N5 st t):vP X st t:=λπ s σ H D I hw=>
 cZ (h π s σ H D (I.AK _) hw) (λ_ _ q=>q.qr) λ_ _ z=>fH z
end
section
variable {X:Cx}{st:cz}{rest:?L cz}{t u:TS}{e:bR}{te:TE}{pos:Pos}
abbrev aa5:TS:=λD σ H=>D.nx σ H
abbrev ak1(t u:TS):TS:=λD σ H=>t {D with nx:=u D} σ H
def eF:vP X [] aa5:=λ_ _ σ H _ I h=>mf (σ,H,I,h)
def aK(h1:PS X st t)(h2:vP X rest u):vP X (st::rest) (ak1 t u):=by
 intro π s σ H D I h;show Ds (gh (h1 π s σ H {D with nx:=u D} I h) λf s1 q=>?_);cases f with
 |next=>
  let(fo,H',I',q):=q;show h2 π s1 fo H' D I' q
 |ret v=>show q
 |brk=>show q
 |cont=>show q
def bS(h1:PS X st t):vP X [st] t:=by
 intro π s σ H D I h;show Ds (gh (h1 π s σ H D I h) λf s1 q=>?_);cases f with
 |next=>show mf q
 |ret v=>show q
 |brk=>show q
 |cont=>show q
variable{π:?L @u}{σ:St}
def Inv.quiet(I:Inv X π σ H s):interactive X.env=υ:=by simp[interactive,I.ok.kind]
abbrev aa6(te:TE):TS:=λD σ H=>te σ H λ_ H1=>D.nx σ H1
def gC(he:PE X e te)(hs:dS e ι pos.line X.env=pure υ:=by rfl):PS X (.Expr e pos) (aa6 te):=by
 intro π s σ H D I h;show wpAny_Expr_any (gh (he π s σ H _ I h) (by rintro v s1 ⟨x,H1,I1,r1,q1⟩;show (σ,H1,I1,q1))) I.quiet hs
abbrev Wg(te:TE):TS:=λD σ H=>te σ H D.rt
def dw(he:PE X e te):PS X (.Return (θ e) pos) (Wg te):=by
 intro π s σ H D I h;show wpAny_Return_some (gh (he π s σ H _ I h) (by rintro v s1 ⟨x,H1,I1,r1,q1⟩;show (x,σ,H1,I1,r1,q1)))
abbrev ak2(c:TT)(t u:TS):TS:=λD σ H=>c σ H λb H1=>if b=ξ then t D σ H1 else u D σ H1
variable{c:bR}{tc:TT}
def fX{a b:?L cz}(hc:PT X c tc)(ha:vP X a t)(hb:vP X b u):PS X (.If c a b pos) (ak2 tc t u):=by
 intro π s σ H D I h;show wpAny_If (gh (hc π s σ H _ I h) λ d s1  eg=>?_);let(H1,I1,q1):=eg;cases d with
 |true=>show ha π s1 σ H1 D I1 q1
 |false=>show hb π s1 σ H1 D I1 q1
abbrev lu:TS:=λ_ _ _=>?X
def fi{sts:?L cz}:vP X sts lu:=λ_ _ _ _ _ _ h=>h.elim
end
noncomputable abbrev TG:=V->St->Hp->(St->Hp->?P)->?P
noncomputable abbrev Wh:=?L V->St->Hp->(St->Hp->?P)->?P
abbrev PG(X:Cx)(target:bR)(t:TG):?P:=
 ∀(π:?L @u) (s:ao) (σ:St) (H:Hp) (v:V) (u:ai) (Q:St->Hp->?P),Inv X π σ H s->RelV v u->t v σ H Q->
  aU ⇑X X.A (assign target X.env u) (λ_ s'=>∃fo H',Inv X π fo H' s'/\Q fo H') X.xe s
abbrev PGs(X:Cx)(ts:?L bR)(t:Wh):?P:=
 ∀(π:?L @u) (s:ao) (σ:St) (H:Hp) (vs:?L V) (us:?L ai) (Q:St->Hp->?P),Inv X π σ H s->dD vs us->t vs σ H Q->
  aU ⇑X X.A (assignInOrder ((assignEach ts X.env).map (·.2)) us) (λ_ s'=>∃fo H',Inv X π fo H' s'/\Q fo H') X.xe s
noncomputable abbrev Wi:=V->V->V->Hp->(Hp->?P)->?P
abbrev aa7(X:Cx)(t:Wi):?P:=
 ∀(π:?L @u) (s:ao) (σ:St) (H:Hp) (o i v:V) (ov iv u:ai) (Q:Hp->?P),Inv X π σ H s->RelV o ov->RelV i iv->RelV v u->t o i v H Q->
  aU ⇑X X.A (setItem ov iv u) (λ_ s'=>∃H',Inv X π σ H' s'/\Q H') X.xe s
noncomputable abbrev TIp:=V->V->Hp->VK->?P
abbrev PIp(X:Cx)(op:Operator)(t:TIp):?P:=
 ∀(π:?L @u) (s:ao) (σ:St) (H:Hp) (x y:V) (v u:ai) (Q:VK),Inv X π σ H s->RelV x v->RelV y u->t x y H Q->
  aU ⇑X X.A (inplaceOp op v u) (EP X π σ Q) X.xe s
section
variable {X:Cx}{pos:Pos}
abbrev wY(i:?N):TG:=λv σ H Q=>Q (σ.set i<|θ v) H
variable{i:?N}{x:χ}
def j0(hN:X.N.Nodup)(hi:X.N[i]?=θ x)(hx:Loc X.env.scope x)(hf:X.fn x=ξ\/X.env.scope.names.lookup x=θ .local:=by first|show .inl @r|show .inr @r|assumption):PG X (.Name x pos) (wY i):=by
 intro π s σ H v u Q I r h;show wpAny_assign_Name (wW I hN hi hx r (λs' I'=>(_,H,I',h)) hf)
abbrev ak3:Wh:=λvs σ H Q=>vs=[]/\Q σ H
abbrev aa8(t:TG)(u:Wh):Wh:=λvs σ H Q=>∃v r,vs=v::r/\t v σ H λfo H'=>u r fo H' Q
def Aa:PGs X [] ak3:=by
 intro π s σ H vs us Q I r h;let(e,h):=h;subst e;cases r;show assignInOrder_nil (σ,H,I,h)
variable{es:?L bR}
def m9{t:TG}{u:Wh}(h1:PG X e t)(h2:PGs X es u)(hs:(assignEach (e::es) X.env).map (·.2)=assign e X.env::(assignEach es X.env).map (·.2):=by rfl):PGs X (e::es) (aa8 t u):=by
 intro π s σ H vs us Q I r h;let(v,vr,e1,h):=h;subst e1;cases r with
 |cons r rr=>
  rw[hs];show assignInOrder_cons (gh (h1 π s σ H _ _ _ I r h) λ _ s1  eg=>?_);let(Zx,H1,I1,q1):=eg;show h2 π s1 Zx H1 _ _ Q I1 rr q1
abbrev ak4(K:aa)(n:?N)(t:Wh):TG:=λv σ H Q=>∃a xs,v = .ref a/\eI K H a xs/\↑xs=n/\t xs σ H Q
variable{k n:?N}
def EN{t:Wh}(hc:X.calm=ξ)(h:PGs X es t)(hn:(assignEach es X.env).length=n:=by rfl)(NN:(assignEach es X.env).findIdx? (·.1)=ι:=by rfl):PG X (.Tuple es k pos) (ak4 X.K n t):=by
 intro π s σ H v u Q I r hw;let(a,xs,e1,hq,hl,hw):=hw;subst e1;cases r;let(cA,rv,ht,hz):=I.tuple hq;show assign_Tuple_tuple (I.ok.hd hc) ht (by simp[hn,<-hl,rv.length]) NN λh' hx=>?_;have I1:Inv X π σ H {s with heap:=h'}:=I.kept (t':=s.toks) λb o e=>hx b o (bz<|aO e) e;show h π _ σ H xs _ Q I1 (by simpa using rv) hw
abbrev ak5(to ti:TE)(t:Wi):TG:=λv σ H Q=>to σ H λo H1=>ti σ H1 λi H2=>t o i v H2 λH3=>Q σ H3
def Wj{o i:bR}{to ti:TE}{t:Wi}(ho:PE X o to)(hi:PE X i ti)(hs:aa7 X t)(ha:∀v,assign (.Subscript o i pos) X.env v=(do
   let ov <-holding [v] (eval o X.env);let iv <-holding [v,ov] (eval i X.env)
   standAt pos
   holding [v,ov,iv] (setItem ov iv v)
   release [v,ov,iv] []):=by intro _;rfl):PG X (.Subscript o i pos) (ak5 to ti t):=by
 intro π s σ H v u Q I r h;rw[ha];show ae (fO<|gh (ho π s σ H _ I h) λ ov s1  eg=>?_);let(x,H1,I1,r1,q1):=eg;show ae (fO<|gh (hi π s1 σ H1 _ I1 q1) λ iv s2  eg=>?_);let(y,H2,I2,r2,q2):=eg;show ae (wpAny_standAt<|ae<|fO<|gh (hs π s2 σ H2 x y v ov iv u _ I2 r1 r2 r q2) λ _ s3  eg=>?_);let(H3,I3,q3):=eg;show wpAny_release (σ,H3,I3,q3)
abbrev Sy(te:TE)(g:TG):TS:=λD σ H=>te σ H λx H1=>g x σ H1 D.nx
variable{tg:bR}{te:TE}{g:TG}
def Wl(he:PE X e te)(hg:PG X tg g)(hs:swapsWithSole [tg] e pos.line X.env=pure υ:=by rfl)(hw:swappedStores [tg] e X.env=pure ι:=by rfl)(h1:(assignEach [tg] X.env).map (·.2)=[assign tg X.env]:=by rfl):PS X (.Assign [tg] e pos) (Sy te g):=by
 intro π s σ H D I h;show wpAny_Assign_stores (gh (he π s σ H _ I h) λ v s1  eg=>?_) hs hw;let(x,H1,I1,r1,q1):=eg;rw[h1];show gh (hg π s1 σ H1 x v _ I1 r1 q1) λ_ s2 q=>q
variable{pos':Pos}
def cV(hN:X.N.Nodup)(hi:X.N[i]?=θ x)(hx:Loc X.env.scope x)(he:PE X e te)(hs:dS e (θ<|.Name x pos') pos.line X.env=pure υ:=by rfl)(hf:X.fn x=ξ\/X.env.scope.names.lookup x=θ .local:=by first|show .inl @r|show .inr @r|assumption):
  PS X (.Assign [.Name x pos'] e pos) (Sy te<|wY i):=by
 intro π s σ H D I h;show wpAny_Assign_Name (gh (he π s σ H _ I h) λ v s1  eg=>?_) hs;let(y,H1,I1,r1,q1):=eg;show wW I1 hN hi hx r1 (λs2 I2=>(_,H1,I2,q1)) hf
abbrev ak6(i:?N)(te:TE)(ti:TIp):TS:=λD σ H=>∃x,σ[i]?=θ (θ x)/\te σ H λy H1=>ti x y H1 λz H2=>D.nx (σ.set i<|θ z) H2
def Wm{op:Operator}{ti:TIp}(hN:X.N.Nodup)(hi:X.N[i]?=θ x)(hx:Loc X.env.scope x)(he:PE X e te)(ho:PIp X op ti)(hf:X.fn x=ξ\/X.env.scope.names.lookup x=θ .local:=by first|show .inl @r|show .inr @r|assumption):
  PS X (.AugAssign (.Name x pos') op e pos) (ak6 i te ti):=by
 intro π s σ H D I h;let(v,e1,h):=h;let(m,hn,hl):=I.loc;have wN:zN X.env.scope x:=by rcases hx with k|k;show .inl k;show .inr (.inl k)
 let(u,r,l):=hl i x v hi e1 wN;show wpAny_AugAssign_Name ?_;have go:aU ⇑X X.A (eval e X.env) (λw wX=>aU ⇑X X.A (inplaceOp op u w) (λr Sz=>aU ⇑X X.A (storeName X.env x r) (λ_=>SP X π D .next) X.xe Sz) X.xe wX) X.xe s:=by
  show gh (he π s σ H _ I h) λ w s1  eg=>?_;let(y,H1,I1,r1,q1):=eg;show gh (ho π s1 σ H1 v y u w _ I1 r r1 q1) λ z s2  eg=>?_;let(zv,H2,I2,r2,q2):=eg;show wW I2 hN hi hx r2 (λs3 I3=>(_,H2,I3,q2)) hf
 rcases l with⟨hk,hm⟩|⟨hk,c,hc,KU⟩
 .show wpAny_loadName_local I.ok.kind hk hn hm go
 .rcases hk with hk|hk
  .show wpAny_loadName_cell I.ok.kind hk hc KU go
  .rcases hx with k|k
   .have:X.env.scope.names.lookup x=θ .free:=hk;rw[k]at this;cases this
   .have:X.env.scope.names.lookup x=θ .free:=hk;rw[k]at this;cases this
abbrev ipI(f:?I->?I->?I):TIp:=λx y H Q=>∃i j,x = .int i/\y = .int j/\Q (.int<|f i j) H
def Wn:PIp X .Add (ipI λi j=>i + j):=by
 intro π s σ H x y v u Q I r1 r2 h;let(i,j,e1,e2,q):=h;subst e1;subst e2;let(t,rfl):=r1;let(t',rfl):=r2;show iadd_int (.int _,H,I.tok _,(_,@r),q)
end
section
variable {X:Cx}{pos:Pos}
abbrev Wo(c:TT)(tb:TS):TS:=λD σ H=>∃W:?N->St->Hp->?P,(∃m,W m σ H)/\∀m σ H,W m σ H->
 c σ H λb H1=>if b=ξ then ∃N:St->Hp->?P,(∀fo H',N fo H'->∃m',m'<m/\W m' fo H')/\tb {D with nx:=N,ct:=N,bk:=D.nx} σ H1 else D.nx σ H1
variable{c:bR}{body:?L cz}{tc:TT}{tb:TS}
def ng(hp:PassesOwn ⇑X X.A X.env X.xe)(hc:PT X c tc)(hb:vP X body tb):PS X (.While c body [] pos) (Wo tc tb):=by
 intro π s σ H D I h;let(W,(m0,w0),turn):=h;show wpAny_While (codeAny_whileLoop (λn s'=>∃fo H',Inv X π fo H' s'/\W n fo H') ?_ m0 (σ,H,I,w0));rintro n s1 ⟨Zx,H1,I1,w1⟩;show jY hp (gh (hc π s1 Zx H1 _ I1<|turn n Zx H1 w1) λ b s2  eg=>?_);let(H2,I2,q2):=eg;cases b with
 |true=>
  let(N,hN,q2):=q2;rw[?p @r];show jY hp (gh (hb π s2 Zx H2 _ I2 q2) λf s3 q3=>?_);cases f with
  |next=>
   ext;let(N6,H3,I3,n3):=q3;let(m',hm,w3):=hN N6 H3 n3;ext;show(m',hm,N6,H3,I3,w3)
  |cont=>
   ext;let(N6,H3,I3,n3):=q3;let(m',hm,w3):=hN N6 H3 n3;ext;show(m',hm,N6,H3,I3,w3)
  |brk=>show q3
  |ret v=>show q3
 |false=>
  rw[?n bj];show mf (Zx,H2,I2,q2)
end
structure It where
 go:?N->Hp->?P
 DH:?N->Hp->V->Hp->?P
 stop:?N->Hp->?P
abbrev qR(X:Cx)(π:?L @u)(H:Hp)(b:af):?P:=
 H b=ι/\b≠X.env.locals/\b∉X.fs/\(b∈X.ex\/X.kJ.heap.objs.size<=b)/\(∀x c,X.env.cells.lookup x=θ c->c≠b)/\∀p∈X.pn++π,p.1≠b
variable{π:?L @u}{σ:St}{H':Hp}
def Inv.rK(I:Inv X π σ H s)(hb:↥s<=b)(hn:H' b=ι):qR X π H' b:=by
 show(hn,eA<|bJ I.lt hb,I.aa0 hb,.inr<|bD I.sz hb,λx c e z=>?_,λp hp z=>?_)
 .let(v,q):=I.cell x c e;show ?A (bJ q.lt (by rw[z];show hb)) (jG _)
 .show ?A (bJ (aO (I.pin p hp).1) (by rw[z];show hb)) (jG _)
structure Turn(P:bu)(w:bU)(K:aa)(tg:bR)(J:It)(fp:?L af)(it:af)(tn:?N->cD->?P):?P where
 mem:it∈fp
 obj:∀i h,tn i h->∀b∈fp,∃o,h.get? b=θ o/\∀v,o.data≠.cell v
 keep:∀i h h',tn i h->(∀b∈fp,∀o,h.get? b=θ o->h'.get? b=θ o)->tn i h'
 item:∀(X:Cx),X.prog=P->X.w=w->X.K=K->X.calm=ξ->∀(i:?N) (π:?L @u) (s:ao) (σ:St) (H:Hp) (E:ai->ao->?P),Inv X π σ H s->(∀b∈fp,qR X π H b)->tn i s.heap->J.go i H->
  aU (model P w) X.A (pyNext<|.ref it) (λr s1=>∃u,r=θ u/\
   aU (model P w) X.A (letOwnedTupleGo tg (.ref it) u) (λ_ s2=>∃x H',Inv X π σ H' s2/\RelV x u/\J.DH i H x H'/\tn @X s2.heap/\∀b∈fp,H' b=ι) E s1) E s
 done:∀(X:Cx),X.prog=P->X.w=w->X.K=K->X.calm=ξ->∀(i:?N) (π:?L @u) (s:ao) (σ:St) (H:Hp) (E:ai->ao->?P),Inv X π σ H s->(∀b∈fp,qR X π H b)->tn i s.heap->J.stop i H->
  aU (model P w) X.A (pyNext<|.ref it) (λr s1=>r=ι/\Inv X π σ H s1) E s
 self:∀(A:cy)(i:?N)(s:ao)(Q:ai->ao->?P)(E:ai->ao->?P),tn i s.heap->Q (.ref it) s->aU (model P w) A (pyIter<|.ref it) Q E s
noncomputable abbrev TI:=St->Hp->(It->Hp->?P)->?P
abbrev PIE(X:Cx)(π:?L @u)(σ:St)(tg:bR)(R:It->Hp->?P)(Zy:ai)(s2:ao):?P:=
 ∃(it:af)(fp:?L af)(tn:?N->cD->?P)(J:It)(H':Hp),Zy = .ref it/\Inv X π σ H' s2/\Turn X.prog X.w X.K tg J fp it tn/\tn 0 s2.heap/\(∀b∈fp,qR X π H' b)/\R J H'
abbrev PI(X:Cx)(tg iter:bR)(wi:TI):?P:=
 ∀(π:?L @u) (s:ao) (σ:St) (H:Hp) (R:It->Hp->?P),Inv X π σ H s->wi σ H R->
  aU ⇑X X.A (eval iter X.env) (λv s1=>aU ⇑X X.A (pyIter v) (PIE X π σ tg R) X.xe s1) X.xe s
variable{tg:bR}{it:af}
def GS{E:ai→ao→?P}{n:?S}{vs:?R ai}{Q:Unit→ao→?P}(ho:s.heap.get? it=θ o)(hc:o.cls = .type n)(hd:o.data = .fields vs)(hn:["enumerate","zip","dict_itemiterator","dict_reverseitemiterator","odict_iterator","itertools.zip_longest","itertools.pairwise"].contains n=υ)(hQ:Q () s):aU M A (letOwnedTupleGo tg (.ref it) u) Q E s:=by
  unfold letOwnedTupleGo
  cases tg<;>first
    | show av hQ
    | (cases u<;>first
        | show av hQ
        | (show ae (wpAny_load ho ?_)
           rw [hc,hd]
           change aU M A (if (["enumerate","zip","dict_itemiterator","dict_reverseitemiterator","odict_iterator","itertools.zip_longest","itertools.pairwise"].contains n&&vs[0]?==θ (rawInt _))=ξ then _ else _) Q E s
           rw [?n (by intro h;rw [hn,Bool.false_and] at h;cases h)]
           show av hQ))
abbrev Wp(K:aa)(a:af):It:=
 (λi H=>∃xs x,gF K H a xs/\xs[i]?=θ x,λi H x H'=>H'=H/\∀xs,gF K H a xs->xs[i]?=θ x,λi H=>∃xs,gF K H a xs/\↑xs<=i)
abbrev Zz(K:aa)(a:af):It:=
 (λi H=>∃xs x,eI K H a xs/\xs[i]?=θ x,λi H x H'=>H'=H/\∀xs,eI K H a xs->xs[i]?=θ x,λi H=>∃xs,eI K H a xs/\↑xs<=i)
abbrev UH(lo:?I)(n:?N):It:=(λi _=>i<n,λi H x H'=>H'=H/\x = .int (lo + i),λi _=>n<=i)
variable{K:aa}
def Mr(a it:af):Turn P w K tg (Wp K a) [it] it (λi h=>h.IsListIter it a i) where
 mem:=by simp
 obj:=λi h st b hb=>by
  have e:b=it:=by simpa using hb
  ext;subst e;let(o,e,c,d):=st;ext;show(o,e,λv z=>by rw[d]at z;cases z)
 keep:=λi h h' st k=>st.at λo e=>k it @s o e
 item:=by
  intro X hP hw hK hc i π s σ H E I hf st hg;ext;subst hP hw hK;let(xs,x,hq,hx):=hg;let(cA,rv,p,hz):=I.list hq;let(u,hu,ru):=rv.get hx;let(f0,f1,f2,f3,f4,f5):=hf it @s;ext;show wpAny_pyNext_list_item st p.isList (x:=u) (by simpa using hu) λh' pW sb=>?_;have I1:Inv X π σ H {s with heap:=h'}:=I.turned (t':=s.toks) (λb o hb e=>(sb.2 b hb).trans e) f0 f1 f3 f4 f5;let(o,e,c,d):=id pW;show(u,@r,GS (s:={s with heap:=h'}) e c d @d (x,H,I1,ru,(@r,λys hy=>by rw[I.AJ hy hq];show hx),pW,λb hb=>(hf b hb).1))
 done:=by
  intro X hP hw hK hc i π s σ H E I hf st hg;ext;subst hP hw hK;let(xs,hq,hx):=hg;let(cA,rv,p,hz):=I.list hq;let(f0,f1,f2,f3,f4,f5):=hf it @s;ext;have hl:=↑rv;show wpAny_pyNext_list_end (I.ok.hd hc) st p.isList @z λh' eb=>@al
 self:=λ_ _ _ _ _ st h=>wpAny_pyIter_listiter st h
def Jj(a it:af):Turn P w K tg (Zz K a) [it] it (λi h=>h.IsTupleIter it a i) where
 mem:=by simp
 obj:=λi h st b hb=>by
  have e:b=it:=by simpa using hb
  subst e;let(o,e,c,d):=st;show(o,e,λv z=>by rw[d]at z;cases z)
 keep:=λi h h' st k=>st.at λo e=>k it @s o e
 item:=by
  intro X hP hw hK hc i π s σ H E I hf st hg;subst hP hw hK;let(xs,x,hq,hx):=hg;let(cA,rv,p,hz):=I.tuple hq;let(u,hu,ru):=rv.get hx;let(f0,f1,f2,f3,f4,f5):=hf it @s;show wpAny_pyNext_tuple_item st (show s.heap.IsTuple a cA.toArray from p) (x:=u) (by simpa using hu) λh' pW sb=>?_;have I1:Inv X π σ H {s with heap:=h'}:=I.turned (t':=s.toks) (λb o hb e=>(sb.2 b hb).trans e) f0 f1 f3 f4 f5;let(o,e,c,d):=id pW;show(u,@r,GS (s:={s with heap:=h'}) e c d @d (x,H,I1,ru,(@r,λys hy=>by rw[I.uN hy hq];show hx),pW,λb hb=>(hf b hb).1))
 done:=by
  intro X hP hw hK hc i π s σ H E I hf st hg;subst hP hw hK;let(xs,hq,hx):=hg;let(cA,rv,p,hz):=I.tuple hq;let(f0,f1,f2,f3,f4,f5):=hf it @s;have hl:=↑rv;show wpAny_pyNext_tuple_end (I.ok.hd hc) st (show s.heap.IsTuple a cA.toArray from p) @z λh' eb=>@al
 self:=λ_ _ _ _ _ st h=>wpAny_pyIter_tupleiter st h
def Jk(it:af)(lo:?I)(n:?N):Turn P w K tg (UH lo n) [it] it (λi h=>IsRangeIter h it (lo + (i:?N) * 1) ((n:?I) - (i:?N)) 1) where
 mem:=by simp
 obj:=λi h st b hb=>by
  have e:b=it:=by simpa using hb
  subst e
  show(_,st,λv z=>by
   have z':Data.fields _=Data.cell v:=z
   cases z')
 keep:=λi h h' st k=>k it @s _ st
 item:=by
  intro X hP hw hK hc i π s σ H E I hf st hg;ext;subst hP hw hK;let(f0,f1,f2,f3,f4,f5):=hf it @s;ext;have W:=Walks.range (prog:=X.prog) (w:=X.w) (I.ok.hd hc) it lo 1 n;show W.item i s _ _ hg st λv h' tk hv pW kk=>?_;let(t,rfl):=hv;have I1:Inv X π σ H {s with heap:=h',toks:=tk}:=I.turned (λb o hb e=>kk b o (by simpa using hb) e) f0 f1 f3 f4 f5;show(_,@r,GS (s:={s with heap:=h',toks:=tk}) (n:="range_iterator") pW @r @r @d (.int<|lo + i,H,I1,(t,?_),(@r,@r),pW,λb hb=>(hf b hb).1));rw[Int.mul_one]
 done:=by
  intro X hP hw hK hc i π s σ H E I hf st hg;ext;subst hP hw hK;let(f0,f1,f2,f3,f4,f5):=hf it @s;ext;show wpAny_pyNext_range_end (I.ok.hd hc) st (by have:n<=i:=hg;omega) λh' eb=>@al
 self:=λ_ _ _ _ _ st h=>wpAny_pyIter_rangeiter st h
section
variable {X:Cx}{tg:bR}
abbrev aa9(K:aa)(tl:TE):TI:=λσ H R=>tl σ H λx H1=>∃a,x = .ref a/\(∃xs,gF K H1 a xs)/\R (Wp K a) H1
abbrev ak7(K:aa)(tl:TE):TI:=λσ H R=>tl σ H λx H1=>∃a,x = .ref a/\(∃xs,eI K H1 a xs)/\R (Zz K a) H1
variable{tl:TE}
def Ab{l:bR}(hl:PE X l tl):PI X tg l (aa9 X.K tl):=by
 intro π s σ H R I h;show gh (hl π s σ H _ I h) λ v s1  eg=>?_;let(x,H1,I1,r1,q1):=eg;let(a,e,(xs,hq),q):=q1;subst e;cases r1;let(cA,rv,p,hz):=I1.list hq;show wpAny_pyIter_list p.isList ?_;show(↥s1,[↥s1],_,_,H1,@r,I1.kept (t':=s1.toks) λb o e=>ah _ e,Mr a _,(_,aQ _ @r,@r,@r),λb hb=>?_,q);have e:b=↥s1:=by simpa using hb
 subst e;show I1.rK @E (I1.eD.fresh @E)
def N7{l:bR}(hl:PE X l tl):PI X tg l (ak7 X.K tl):=by
 intro π s σ H R I h;show gh (hl π s σ H _ I h) λ v s1  eg=>?_;let(x,H1,I1,r1,q1):=eg;let(a,e,(xs,hq),q):=q1;subst e;cases r1;let(cA,rv,p,hz):=I1.tuple hq;show jI (show s1.heap.IsTuple a cA.toArray from p) ?_;show(↥s1,[↥s1],_,_,H1,@r,I1.kept (t':=s1.toks) λb o e=>ah _ e,Jj a _,(_,aQ _ @r,@r,@r),λb hb=>?_,q);have e:b=↥s1:=by simpa using hb
 subst e;show I1.rK @E (I1.eD.fresh @E)
variable{lo:?I}{tk:?N}
def N8{R:It->Hp->?P}{hi:?I}{t u v:Tok}(I:Inv X π σ H s)(h1:-(2 ^ 62)<=lo)(h2:lo<2 ^ 62)(h3:-(2 ^ 62)<=hi)(h4:hi<2 ^ 62)(q:R (UH lo (hi - lo).toNat) H):aU ⇑X X.A (pyIter<|.ref ↥s) (PIE X π σ tg R) E {s with heap:=s.heap.push {cls:=.type "range",data:=.fields #[.int lo t,.int hi u,.int 1 v]},toks:=tk}:=by
 show wpAny_pyIter_range (IsRange.new ..) (small_one h1 h2 h3 h4) ?_;have I1:Inv X π σ H {s with heap:=s.heap.push {cls:=.type "range",data:=.fields #[.int lo t,.int hi u,.int 1 v]},toks:=tk}:=I.kept λb o e=>ah _ e
 show((s.heap.push {cls:=.type "range",data:=.fields #[.int lo t,.int hi u,.int 1 v]}).objs.size,[(s.heap.push {cls:=.type "range",data:=.fields #[.int lo t,.int hi u,.int 1 v]}).objs.size],_,_,H,@r,
  I1.kept (t':=tk) λb o e=>ah _ e,Jk _ lo (hi - lo).toNat,?_,λb hb=>?_,q)
 .have e1:lo + ((0:?N):?I) * 1=lo:=by simp
  have e2:(((hi - lo).toNat:?N):?I) - ((0:?N):?I)=yf lo hi 1:=by rw[rangeSize_one];split<;>omega
  change IsRangeIter _ _ (lo + ((0:?N):?I) * 1) ((((hi - lo).toNat:?N):?I) - ((0:?N):?I)) 1;rw[e1,e2];show aQ _ @r
 .have e:b=(s.heap.push {cls:=.type "range",data:=.fields #[.int lo t,.int hi u,.int 1 v]}).objs.size:=by simpa using hb
  subst e;show I1.rK @E (I1.eD.fresh @E)
abbrev ab0(ta:TA):TI:=λσ H R=>ta σ H λvs H1=>∃j:?I,vs=[.int j]/\-(2 ^ 62)<=j/\j<2 ^ 62/\R (UH 0 j.toNat) H1
variable{ta:TA}{pos:Pos}
def uO{a:bR}{p:Pos}(hg:Gl X "range")(hm:X.mg "range"=ι)(ha:PA X [a] ta)(hs:aq [a] X.env=[(υ,eval a X.env,)]:=by rfl):PI X tg (.Call (.Name "range" p) [a] [] pos) (ab0 ta):=by
 intro π s σ H R I h;show Call_ (nJ I hg hm boot_range<|cI (gh @ad λ us s1  eg=>?_) hs @r);let(vs,H1,I1,r1,q1):=eg;let(j,e,q1,q2,q):=q1;subst e;cases r1 with
 |cons r rr=>
  cases rr;let(t,rfl):=r;show call_range_1 (N8 I1 @o @o q1 q2<|by simpa using q)
abbrev ak8(wi:TI)(g:TG)(tb:TS):TS:=λD σ H=>wi σ H λJ H1=>∃W:?N->?N->St->Hp->?P,(∃m,W 0 m σ H1)/\∀i m σ H,W i m σ H->
 (J.stop i H/\D.nx σ H)\/(J.go i H/\∃N:St->Hp->?P,(∀fo H',N fo H'->∃m',m'<m/\W @X m' fo H')/\∀x H',J.DH i H x H'->g x σ H' λwO H2=>tb {D with nx:=N,ct:=N,bk:=D.nx} wO H2)
abbrev AL(fp:?L af)(h:cD):?L @u:=fp.filterMap λb=>(h.get? b).map λo=>(b,o,)
variable{fp:?L af}
def rM(hb:b∈fp)(e:h.get? b=θ o):(b,o,)∈AL fp h:=wR.mpr (b,hb,by rw[e];rfl)
def Ms{p:af×Obj}(hp:p∈AL fp h):p.1∈fp/\h.get? p.1=θ p.2:=by
 let(b,hb,e):=wR.mp hp;cases q:h.get? b with
 |none=>rw[q]at e;cases e
 |some o=>
  rw[q]at e;have e':(b,o,)=p:=bf e;subst e';show(hb,q)
def Inv.pinned(I:Inv X π σ H s)(hf:∀b∈fp,qR X π H b)(ho:∀b∈fp,∃o,s.heap.get? b=θ o/\∀v,o.data≠.cell v):Inv X (π++AL fp s.heap) σ H s:=
 I.uM λp hp=>(aW.mp hp).elim (λz=>I.pin p (aB _ z)) λz=>by
  let(hb,e):=Ms z;let(f0,f1,f2,_):=hf p.1 hb;let(o,e',d):=ho p.1 hb;rw[e]at e';cases e';show(e,f0,f1,f2,d)
def Inv.wZ{pl:?L @u}(I:Inv X (π++pl) σ H s):Inv X π σ H s:=I.uM λp hp=>I.pin p (aB _<|bW _ hp)
variable{iter:bR}{body:?L cz}{g:TG}{tb:TS}
def vQ{wi:TI}(hp:PassesOwn ⇑X X.A X.env X.xe)(hc:X.calm=ξ)(hi:PI X tg iter wi)(hg:PG X tg g)(hb:vP X body tb)(hs:∀x,gU iter X.env x=pure x:=by intro _;rfl):PS X (.For tg iter body [] pos) (ak8 wi g tb):=by
 intro π s σ H D I h;show wpAny_For (gh (hi π s σ H _ I h) λv s1 h1=>gh h1 λZy s2 h2=>?_) hs;ext;let(it,fp,tn,J,H2,e,I2,T,C9,f2,W,(m0,w0),turn):=h2;subst e;ext;have EO:∀{H':Hp},(∀b∈fp,H' b=ι)->∀b∈fp,qR X π H' b:=λhn b hb=>(hn b hb,(f2 b hb).2);show codeAny_forLoop_any (λn s'=>∃i fo H',Inv X π fo H' s'/\tn i s'.heap/\(∀b∈fp,H' b=ι)/\W i n fo H') ?_ m0 (0,σ,H2,I2,C9,λb hb=>(f2 b hb).1,w0);intro n s3 hZ;ext;let(i,N6,H3,I3,st3,ZA,w3):=hZ;ext;rcases turn i n N6 H3 w3 with⟨stop,qn⟩|⟨go,N,hN,step⟩
 .show jY hp (gh (T.done X @r @r @r hc i π s3 N6 H3 X.xe I3 (EO ZA) st3 stop) λ r s4  eg=>?_);let(hr,I4):=eg;subst hr;show mf (N6,H3,I4,qn)
 .show jY hp (gh (T.item X @r @r @r hc i π s3 N6 H3 X.xe I3 (EO ZA) st3 go) λ r s4  eg=>?_);let(u,hr,h4):=eg;subst hr;show jY hp (gh h4 λ _ s5  eg=>?_);ext;let(x,H5,I5,r5,y5,SA,ZC):=eg;ext;have Wq:=I5.pinned (EO ZC) (T.obj _ _ SA);show jY hp (gh (hg _ s5 N6 H5 x u _ Wq r5<|step x H5 y5) λ _ s6  eg=>?_);let(σ6,H6,I6,q6):=eg;show jY hp (gh (hb _ s6 σ6 H6 _ I6 q6) λf s7 q7=>?_);have again:∀{N9:St}{H7:Hp},Inv X (π++AL fp s5.heap) N9 H7 s7->N N9 H7->∃m,m<n/\∃i fo H',Inv X π fo H' s7/\tn i s7.heap/\(∀b∈fp,H' b=ι)/\W i m fo H':=λ{N9 H7} I7 n7=>by
   let(m',hm,w7):=hN N9 H7 n7;show(m',hm,i+1,N9,H7,I7.wZ,T.keep _ _ _ SA λb hb o e=>(I7.pin (b,o,)<|aB _<|aB _<|rM hb e).1,λb hb=>?_,w7);let(o,e,d):=T.obj _ _ SA b hb;show(I7.pin (b,o,)<|aB _<|aB _<|rM hb e).2.1
  cases f with
  |next=>let(N9,H7,I7,n7):=q7;show again I7 n7
  |cont=>let(N9,H7,I7,n7):=q7;show again I7 n7
  |brk=>let(N9,H7,I7,q7):=q7;show(N9,H7,I7.wZ,q7)
  |ret v=>let(x7,N9,H7,I7,r7,q7):=q7;show(x7,N9,H7,I7.wZ,r7,q7)
end
variable{g:TG}{tb:TS}{D:Ends}
def Oa(Pv:?N->St->Hp->?P)(h0:Pv 0 σ H)(hl:∀i σ H,i<=↑xs->Pv i σ H->gF K H a xs)(hs:∀i x σ H,xs[i]?=θ x->Pv i σ H->g x σ H λwO H2=>tb {D with nx:=Pv @X,ct:=Pv @X,bk:=D.nx} wO H2)(hd:∀σ H,Pv ↑xs σ H->D.nx σ H):
  ∃W:?N->?N->St->Hp->?P,(∃m,W 0 m σ H)/\∀i m σ H,W i m σ H->
   ((Wp K a).stop i H/\D.nx σ H)\/((Wp K a).go i H/\∃N:St->Hp->?P,(∀fo H',N fo H'->∃m',m'<m/\W @X m' fo H')/\∀x H',(Wp K a).DH i H x H'->g x σ H' λwO H2=>tb {D with nx:=N,ct:=N,bk:=D.nx} wO H2):=by
 show(λi m σ H=>m=↑xs - i/\i<=↑xs/\Pv i σ H,(↑xs,by simp,cE _,h0),?_);rintro i m σ H ⟨rfl,hi,p⟩;have q:=hl i σ H hi p;by_cases nM:i<↑xs
 .show .inr ((xs,xs[i],q,by simp[nM]),Pv @X,λfo H' p'=>(↑xs - @X,by omega,@r,nM,p'),λx H' y=>?_);let(e,y):=y;subst e;show hs i x σ _ (y xs q) p
 .have e:i=↑xs:=by omega
  subst e;show .inl ((xs,q,aj _),hd σ H p)
def SD(Pv:?N->St->Hp->?P)(h0:Pv 0 σ H)(hl:∀i σ H,i<=↑xs->Pv i σ H->eI K H a xs)(hs:∀i x σ H,xs[i]?=θ x->Pv i σ H->g x σ H λwO H2=>tb {D with nx:=Pv @X,ct:=Pv @X,bk:=D.nx} wO H2)(hd:∀σ H,Pv ↑xs σ H->D.nx σ H):
  ∃W:?N->?N->St->Hp->?P,(∃m,W 0 m σ H)/\∀i m σ H,W i m σ H->
   ((Zz K a).stop i H/\D.nx σ H)\/((Zz K a).go i H/\∃N:St->Hp->?P,(∀fo H',N fo H'->∃m',m'<m/\W @X m' fo H')/\∀x H',(Zz K a).DH i H x H'->g x σ H' λwO H2=>tb {D with nx:=N,ct:=N,bk:=D.nx} wO H2):=by
 show(λi m σ H=>m=↑xs - i/\i<=↑xs/\Pv i σ H,(↑xs,by simp,cE _,h0),?_);rintro i m σ H ⟨rfl,hi,p⟩;have q:=hl i σ H hi p;by_cases nM:i<↑xs
 .show .inr ((xs,xs[i],q,by simp[nM]),Pv @X,λfo H' p'=>(↑xs - @X,by omega,@r,nM,p'),λx H' y=>?_);let(e,y):=y;subst e;show hs i x σ _ (y xs q) p
 .have e:i=↑xs:=by omega
  subst e;show .inl ((xs,q,aj _),hd σ H p)
variable{lo:?I}{n:?N}
def DJ(Pv:?N->St->Hp->?P)(h0:Pv 0 σ H)(hs:∀i σ H,i<n->Pv i σ H->g (.int<|lo + i) σ H λwO H2=>tb {D with nx:=Pv @X,ct:=Pv @X,bk:=D.nx} wO H2)(hd:∀σ H,Pv n σ H->D.nx σ H):
  ∃W:?N->?N->St->Hp->?P,(∃m,W 0 m σ H)/\∀i m σ H,W i m σ H->
   ((UH lo n).stop i H/\D.nx σ H)\/((UH lo n).go i H/\∃N:St->Hp->?P,(∀fo H',N fo H'->∃m',m'<m/\W @X m' fo H')/\∀x H',(UH lo n).DH i H x H'->g x σ H' λwO H2=>tb {D with nx:=N,ct:=N,bk:=D.nx} wO H2):=by
 show(λi m σ H=>m=n - i/\i<=n/\Pv i σ H,(n,by simp,cE _,h0),?_);rintro i m σ H ⟨rfl,hi,p⟩;by_cases nM:i<n
 .show .inr (nM,Pv @X,λfo H' p'=>(n - @X,by omega,@r,nM,p'),λx H' y=>?_);let(e,y):=y;subst e y;show hs i σ _ nM p
 .have e:i=n:=by omega
  subst e;show .inl (aj _,hd σ H p)
noncomputable abbrev R2:=V->V->Hp->VK->?P
abbrev wQ(X:Cx)(f:ai->ai->Sem ai)(r:R2):?P:=
 ∀(π:?L @u) (s:ao) (σ:St) (H:Hp) (x y:V) (v u:ai) (Q:VK),Inv X π σ H s->RelV x v->RelV y u->r x y H Q->
  aU ⇑X X.A (f v u) (EP X π σ Q) X.xe s
abbrev UnR(X:Cx)(f:ai->Sem ai)(r:V->Hp->VK->?P):?P:=
 ∀(π:?L @u) (s:ao) (σ:St) (H:Hp) (x:V) (v:ai) (Q:VK),Inv X π σ H s->RelV x v->r x H Q->
  aU ⇑X X.A (f v) (EP X π σ Q) X.xe s
abbrev tO(X:Cx)(f:ai)(r:?L V->Hp->VK->?P):?P:=
 ∀(π:?L @u) (s:ao) (σ:St) (H:Hp) (xs:?L V) (us:?L ai) (Q:VK),Inv X π σ H s->dD xs us->r xs H Q->
  aU ⇑X X.A (call f us) (EP X π σ Q) X.xe s
abbrev ak9(X:Cx)(r:V->Hp->(?B->Hp->?P)->?P):?P:=
 ∀(π:?L @u) (s:ao) (σ:St) (H:Hp) (x:V) (v:ai) (Q:?B->Hp->?P),Inv X π σ H s->RelV x v->r x H Q->
  aU ⇑X X.A (truthy v) (TP X π σ Q) X.xe s
abbrev tOp(r:R2)(ta tb:TE):TE:=λσ H Q=>ta σ H λx H1=>tb σ H1 λy H2=>r x y H2 Q
abbrev tUn(r:V->Hp->VK->?P)(ta:TE):TE:=λσ H Q=>ta σ H λx H1=>r x H1 Q
abbrev rI(C:?I->?I->?P)(g:?I->?I->V):R2:=λx y H Q=>∃i j,x = .int i/\y = .int j/\C i j/\Q (g i j) H
abbrev Wr(g:?I->?I->V):R2:=λx y H Q=>∃i j,x = .int i/\y = .int j/\Q (g i j) H
abbrev rU(g:?I->V):V->Hp->VK->?P:=λx H Q=>∃i,x = .int i/\Q (g i) H
section
variable {X:Cx}{a b c:bR}{ta tb tc:TE}{pos:Pos}
variable{R:V->V->Hp->?P}{Q:ai->ao->?P}{f:ai->ai->Sem ai}
def Ws(ha:PE X a ta)(hb:PE X b tb)(I:Inv X π σ H s)(h:ta σ H λx H1=>tb σ H1 λy H2=>R x y H2)(hf:∀v u s2 x y H2,Inv X π σ H2 s2->RelV x v->RelV y u->R x y H2->aU ⇑X X.A (f v u) Q X.xe s2):
  aU ⇑X X.A (eval a X.env) (λv gn=>aU ⇑X X.A (eval b X.env) (λu wX=>aU ⇑X X.A (f v u) Q X.xe wX) X.xe gn) X.xe s:=by
 show gh @ak λ v s1  eg=>?_;let(x,H1,I1,r1,q1):=eg;show gh (hb π s1 σ H1 _ I1 q1) λ u s2  eg=>?_;let(y,H2,I2,r2,q2):=eg;show hf v u s2 x y H2 I2 r1 r2 q2
variable{r:R2}
def nj{op:Operator}(ho:wQ X (binaryOp op) r)(ha:PE X a ta)(hb:PE X b tb):PE X (.BinOp a op b pos) (tOp r ta tb):=by
 intro π s σ H Q I h;show EH (Ws ha hb I h λv u s2 x y H2 I2 rx ry q=>ho π s2 σ H2 x y v u Q I2 rx ry q)
def UI{op:UnaryOp}{r:V->Hp->VK->?P}(ho:UnR X (unaryOp op) r)(ha:PE X a ta):PE X (.UnaryOp op a pos) (tUn r ta):=by
 intro π s σ H Q I h;show UnaryOp_ (gh @ak (by rintro v s1 ⟨x,H1,I1,r1,q1⟩;show ho π s1 σ H1 x v Q I1 r1 q1))
def opI{C:?I->?I->?P}{g:?I->?I->?I}(rule:∀(i j:?I)(t u:Tok)(s:ao)(Q:ai->ao->?P)(E:ai->ao->?P),C i j->Q (.int (g i j) s.toks) {s with toks:=s.toks+1}->aU ⇑X X.A (f (.int i t)<|.int j u) Q E s):
  wQ X f (rI C λi j=>.int (g i j)):=by
 intro π s σ H x y v u Q I rx ry h;let(i,j,rfl,rfl,hc,q):=h;let(t,rfl):=rx;let(t',rfl):=ry;show rule i j t t' s _ _ hc (.int<|g i j,H,I.tok _,(_,@r),q)
def ab1{g:?I->?I->?I}(rule:∀(i j:?I)(t u:Tok)(s:ao)(Q:ai->ao->?P)(E:ai->ao->?P),Q (.int (g i j) s.toks) {s with toks:=s.toks+1}->aU ⇑X X.A (f (.int i t)<|.int j u) Q E s):
  wQ X f (Wr λi j=>.int (g i j)):=by
 intro π s σ H x y v u Q I rx ry h;let(i,j,rfl,rfl,q):=h;let(t,rfl):=rx;let(t',rfl):=ry;show rule i j t t' s _ _ (.int<|g i j,H,I.tok _,(_,@r),q)
def Wu{g:?I->?I->?B}(rule:∀(i j:?I)(t u:Tok)(s:ao)(Q:ai->ao->?P)(E:ai->ao->?P),Q (.bool<|g i j) s->aU ⇑X X.A (f (.int i t)<|.int j u) Q E s):
  wQ X f (Wr λi j=>.bl (g i j)):=by
 intro π s σ H x y v u Q I rx ry h;let(i,j,rfl,rfl,q):=h;let(t,rfl):=rx;let(t',rfl):=ry;show rule i j t t' s _ _ (.bl<|g i j,H,I,@r,q)
abbrev al0(i j:?I):?P:=0<j/\j<1073741824
abbrev Ob(i j:?I):?P:=(-(2 ^ 64)<i/\i<2 ^ 64)\/(-(2 ^ 64)<j/\j<2 ^ 64)
variable{i:?I}
def Ob.ok{j:?I}(h:Ob i j):IntMulOk i j:=by
 rcases h with⟨h1,h2⟩|⟨h1,h2⟩
 .show .of_left (intBits_le_64 h1 h2)
 .show .of_right (intBits_le_64 h1 h2)
def Jl:wQ X (binaryOp .Add) (Wr λi j=>.int (i + j)):=ab1 λ_ _ _ _ _ _ _ q=>add_int q
def Oc:wQ X (binaryOp .Sub) (Wr λi j=>.int (i - j)):=ab1 λ_ _ _ _ _ _ _ q=>sub_int q
def Jm:wQ X (binaryOp .Mult) (rI Ob λi j=>.int (i * j)):=opI λ_ _ _ _ _ _ _ hc q=>mul_int q hc.ok
def Ac:wQ X (binaryOp .FloorDiv) (rI al0 λi j=>.int (i / j)):=opI λi j _ _ _ _ _ hc q=>by
 have h1:(0:?I)<j:=hc.1;have h2:j<1073741824:=hc.2;show floordiv_int @o (by rw[Int.fdiv_eq_ediv_of_nonneg i @o];show q) (.inl<|PyProof.noPylong_small @o)
def Jn:wQ X (binaryOp .Mod) (rI (λ_ j=>0<j) λi j=>.int (i % j)):=opI λi j _ _ _ _ _ hc q=>by
 have h1:(0:?I)<j:=hc;show mod_int' @o (by rw[Int.fmod_eq_emod_of_nonneg i @o];show q)
def unI{f:ai->Sem ai}{g:?I->?I}(rule:∀(i:?I)(t:Tok)(s:ao)(Q:ai->ao->?P)(E:ai->ao->?P),Q (.int (g i) s.toks) {s with toks:=s.toks+1}->aU ⇑X X.A (f<|.int i t) Q E s):
  UnR X f (rU λi=>.int (g i)):=by
 intro π s σ H x v Q I rx h;let(i,rfl,q):=h;let(t,rfl):=rx;show rule i t s _ _ (.int<|g i,H,I.tok _,(_,@r),q)
def Od:UnR X (unaryOp .USub) (rU λi=>.int (-i)):=unI λ_ _ _ _ _ q=>neg_int q
end
abbrev ab2:V->V->?B
 |.fB,.fB=>ξ | .fB,.int _=>ξ | .int _,.fB=>ξ | .fB,.bl _=>ξ | .bl _,.fB=>ξ | .fB,.str _=>ξ | .str _,.fB=>ξ
 |.int _,.int _=>ξ | .bl _,.bl _=>ξ | .str _,.str _=>ξ | .Jb _,.Jb _=>ξ
 |.int _,.str _=>ξ | .str _,.int _=>ξ | .bl _,.str _=>ξ | .str _,.bl _=>ξ
 |_,_=>υ
abbrev rEq:R2:=λx y H Q=>ab2 x y=ξ/\Q (.bl<|decide (x=y)) H
abbrev rNe:R2:=λx y H Q=>ab2 x y=ξ/\Q (.bl<|!decide (x=y)) H
variable{i:?I}
def KZ{j:?I}:decide (V.int i=V.int j)=(i==j):=by
 rw[oC];simp
def Oe{i j:?B}:decide (V.bl i=V.bl j)=(i==j):=by
 rw[oC];simp
def K0{i j:χ}:decide (V.str i=V.str j)=(i==j):=by
 rw[oC];simp
def K1{i j:?R UInt8}:decide (V.Jb i=V.Jb j)=(i.toList==j.toList):=by
 rw[oC];cases i;cases j;simp
section
variable {X:Cx}{a b c:bR}{ta tb tc:TE}{pos:Pos}
variable{k':?B}
def dU{Q:VK}{k:?B}(I:Inv X π σ H s)(q:Q (.bl k) H)(e:k=k'):EP X π σ Q (.bool k') s:=by
 subst e;show(.bl k,H,I,@r,q)
def oq:wQ X (compareOp .Eq) rEq:=by
 intro π s σ H x y v u Q I rx ry h;let(hs,q):=h;cases x with
 |fB=>
  cases rx;cases y with
  |fB=>cases ry;show PySem.EqNone.eq_none_none @U
  |bl j=>cases ry;show PySem.EqNone.eq_none_bool @U
  |int j=>let(t',rfl):=ry;show PySem.EqNone.eq_none_int @U
  |str j=>let(t',rfl):=ry;show PySem.EqNone.eq_none_str @U
  |_=>show ?A @aq bj
 |bl i=>
  cases rx;cases y with
  |fB=>cases ry;show PySem.EqNone.eq_bool_none @U
  |bl j=>cases ry;show eq_bool (dU I q Oe)
  |str j=>let(t',rfl):=ry;show PySem.EqMixed.eq_bool_str @U
  |_=>show ?A @aq bj
 |int i=>
  let(t,rfl):=rx;cases y with
  |fB=>cases ry;show PySem.EqNone.eq_int_none @U
  |int j=>let(t',rfl):=ry;show eq_int (dU I q KZ)
  |str j=>let(t',rfl):=ry;show PySem.EqMixed.eq_int_str @U
  |_=>show ?A @aq bj
 |str i=>
  let(t,rfl):=rx;cases y with
  |fB=>cases ry;show PySem.EqNone.eq_str_none @U
  |bl j=>cases ry;show PySem.EqMixed.eq_str_bool @U
  |int j=>let(t',rfl):=ry;show PySem.EqMixed.eq_str_int @U
  |str j=>let(t',rfl):=ry;show eq_str (dU I q K0)
  |_=>show ?A @aq bj
 |Jb i=>
  let(t,rfl):=rx;cases y with
  |Jb j=>let(t',rfl):=ry;show PySem.W.eq_bytes (dU I q K1)
  |_=>show ?A @aq bj
 |_=>cases y<;>show ?A @aq bj
def Of:wQ X (compareOp .NotEq) rNe:=by
 intro π s σ H x y v u Q I rx ry h;let(hs,q):=h;cases x with
 |fB=>
  cases rx;cases y with
  |fB=>cases ry;show PySem.EqNone.ne_none_none @U
  |bl j=>cases ry;show PySem.EqNone.ne_none_bool @U
  |int j=>let(t',rfl):=ry;show PySem.EqNone.ne_none_int @U
  |str j=>let(t',rfl):=ry;show PySem.EqNone.ne_none_str @U
  |_=>show ?A @aq bj
 |bl i=>
  cases rx;cases y with
  |fB=>cases ry;show PySem.EqNone.ne_bool_none @U
  |bl j=>cases ry;show ne_bool (dU I q<|?C not Oe)
  |str j=>let(t',rfl):=ry;show PySem.EqMixed.ne_bool_str @U
  |_=>show ?A @aq bj
 |int i=>
  let(t,rfl):=rx;cases y with
  |fB=>cases ry;show PySem.EqNone.ne_int_none @U
  |int j=>let(t',rfl):=ry;show ne_int (dU I q<|?C not KZ)
  |str j=>let(t',rfl):=ry;show PySem.EqMixed.ne_int_str @U
  |_=>show ?A @aq bj
 |str i=>
  let(t,rfl):=rx;cases y with
  |fB=>cases ry;show PySem.EqNone.ne_str_none @U
  |bl j=>cases ry;show PySem.EqMixed.ne_str_bool @U
  |int j=>let(t',rfl):=ry;show PySem.EqMixed.ne_str_int @U
  |str j=>let(t',rfl):=ry;show ne_str (dU I q<|?C not K0)
  |_=>show ?A @aq bj
 |Jb i=>
  let(t,rfl):=rx;cases y with
  |Jb j=>let(t',rfl):=ry;show PySem.W.ne_bytes (dU I q<|?C not K1)
  |_=>show ?A @aq bj
 |_=>cases y<;>show ?A @aq bj
def GU:wQ X (compareOp .Lt) (Wr λi j=>.bl (decide (i<j))):=Wu λ_ _ _ _ _ _ _ q=>lt_int q
def Og:wQ X (compareOp .Gt) (Wr λi j=>.bl (decide (j<i))):=Wu λ_ _ _ _ _ _ _ q=>gt_int q
def ab3:wQ X (compareOp .GtE) (Wr λi j=>.bl (decide (j<=i))):=Wu λ_ _ _ _ _ _ _ q=>ge_int q
def AM:wQ X (compareOp .Is) (λx y H Q=>y = .fB/\Q (.bl<|decide (x = .fB)) H):=by
 intro π s σ H x y v u Q I rx ry h;let(rfl,q):=h;cases ry;show is_none_gen (dU I q ?_);cases x<;>first
  |(cases rx;rfl)
  |(let(t,rfl):=rx;rfl)
def ES:wQ X (compareOp .IsNot) (λx y H Q=>y = .fB/\Q (.bl<|!decide (x = .fB)) H):=by
 intro π s σ H x y v u Q I rx ry h;let(rfl,q):=h;cases ry;show isnot_none_gen (dU I q ?_);cases x<;>first
  |(cases rx;rfl)
  |(let(t,rfl):=rx;rfl)
variable{op:CmpOp}
def dP(b:bR)(h:op≠.In:=by decide)(h2:op≠.NotIn:=by decide):behindInMarks op b=υ:=by
 have e1:(op==CmpOp.In)=υ:=by cases op<;>first|rfl|show ?A @r h
 have e2:(op==CmpOp.NotIn)=υ:=by cases op<;>first|rfl|show ?A @r h2
 cases b<;>simp[behindInMarks,e1,e2]
variable{r:R2}
def K2(ho:wQ X (compareOp op) r)(ha:PE X a ta)(hb:PE X b tb)(hm:behindInMarks op b=υ):PE X (.Compare a [op] [b] pos) (tOp r ta tb):=by
 intro π s σ H Q I h;show wpAny_Compare1 (Ws ha hb I h λv u s2 x y H2 I2 rx ry q=>ho π s2 σ H2 x y v u Q I2 rx ry q) hm
abbrev ab4(t:TE):TT:=λσ H Q=>t σ H λx H'=>∃k,x = .bl k/\Q k H'
def fj(ho:wQ X (compareOp op) r)(ha:PE X a ta)(hb:PE X b tb)(hm:behindInMarks op b=υ):PT X (.Compare a [op] [b] pos) (ab4<|tOp r ta tb):=by
 intro π s σ H Q I h
 show wpAny_isTrue_Compare1 (gh @ak λv s1 ⟨x,H1,I1,r1,q1⟩=>gh (hb π s1 σ H1 _ I1 q1) λu s2 ⟨y,H2,I2,r2,q2⟩=>
  gh (ho π s2 σ H2 x y v u _ I2 r1 r2 q2) λ c s3  eg=>?_) hm;let(z,H3,I3,r3,k,e,q3):=eg
 subst e;cases r3;show kb (H3,I3,q3)
abbrev ab5(K:aa)(x:V)(H:Hp)(k:?B):?P:=
 match x with
 |.fB=>k=υ
 |.bl b=>k=b
 |.int i=>k=(i != 0)
 |.str y=>↑y<=au/\k=((↑y:?I) != 0)
 |.Jb y=>y.size<=au/\k=((y.size:?I) != 0)
 |.ref p=>(∃xs,gF K H p xs/\k=!xs.isEmpty)\/(∃xs,eI K H p xs/\k=!xs.isEmpty)\/∃bw,H p=θ (.dK bw)/\k=!bw.isEmpty
 |_=>?X
def Jo{κ:Type}{bw:?L (κ×V)}{vs:?L (κ×ai)}(r:KV bw vs):(!vs.isEmpty)=!bw.isEmpty:=by
 cases r<;>rfl
variable{cA:?L ai}
def AN(r:dD xs cA):(!cA.toArray.isEmpty)=!xs.isEmpty:=by
 cases r<;>simp
def AO:(au:?N)<2 ^ 63:=by rw[dC];decide
def Wv:ak9 X (λx H Q=>∃k,ab5 X.K x H k/\Q k H):=by
 intro π s σ H x v Q I rx h;let(k,e,q):=h;have hl:=AO;have hs:au=16777216:=dC;cases x with
 |fB=>
  cases rx;have e':k=υ:=e;subst e';show truthy_none (H,I,q)
 |bl b=>
  cases rx;have e':k=b:=e;subst e';show kb (H,I,q)
 |int i=>
  let(t,rfl):=rx;have e':k=(i != 0):=e;subst e';show PySem.P.truthy_int (H,I,q)
 |str y=>
  ext;let(t,rfl):=rx;obtain⟨hy,e'⟩:↑y<=au/\k=((↑y:?I) != 0):=e;subst e';ext;show PySem.P.truthy_str @o (H,I.tok _,q)
 |Jb y=>
  ext;let(t,rfl):=rx;obtain⟨hy,e'⟩:y.size<=au/\k=((y.size:?I) != 0):=e;subst e';ext;show PySem.W.truthy_bytes @o (H,I.tok _,q)
 |ref p=>
  cases rx;have e':(∃xs,gF X.K H p xs/\k=!xs.isEmpty)\/(∃xs,eI X.K H p xs/\k=!xs.isEmpty)\/∃bw,H p=θ (.dK bw)/\k=!bw.isEmpty:=e;rcases e' with⟨xs,hx,e'⟩|⟨xs,hx,e'⟩|⟨bw,hx,e'⟩
  .ext;subst e';let(cA,r,pl,hz):=I.list hx;ext;have hlen:=↑r;show wpAny_truthy_list pl.isList (by simp only[aI];omega) (H,I.tok _,by rw[AN r];show q)
  .ext;subst e';let(cA,r,pl,hz):=I.tuple hx;ext;have hlen:=↑r;show truthy_tuple pl (by simp only[aI];omega) (H,I.tok _,by rw[AN r];show q)
  .ext;subst e';obtain⟨hz,hS,vs,r,m⟩:↑bw<=au/\(p==sysModules)=υ/\∃vs,KV bw vs/\s.heap.DictOf (eE X.prog X.w) p vs:=I.eD p _ hx;ext;have hlen:↑bw=↑vs:=kE r;show wpAny_truthy_dict hS m @o (H,I.tok _,by rw[Jo r];show q)
 |_=>show(show ?X from e).elim
def w6(ha:PE X a ta)(he:∀whole,isTrue a X.env whole=(do let v <-whole;standAt a.pos;holding [v] (truthy v))):
  PT X a (λσ H Q=>ta σ H λx H'=>∃k,ab5 X.K x H' k/\Q k H'):=by
 intro π s σ H Q I h;show isTrue_plain (gh @ak (by rintro v s1 ⟨x,H1,I1,r1,q1⟩;show Wv π s1 σ H1 x v Q I1 r1 q1)) (he _)
def AQ:wQ X (binaryOp .Add) (λx y H Q=>∃i j,x = .str i/\y = .str j/\↑i + ↑j<=au/\Q (.str<|i++j) H):=by
 intro π s σ H x y v u Q I rx ry h;let(i,j,rfl,rfl,hz,q):=h;let(t,rfl):=rx;let(t',rfl):=ry;show add_str (λt' tk=>(.str<|i++j,H,I.tok _,(_,@r),q)) hz
variable{x:V}
def vals1(r:dD [x] us):∃u,us=[u]/\RelV x u:=by
 cases r with
 |cons r1 r2=>cases r2;show(_,@r,r1)
def vals2(r:dD [x,y] us):∃u w',us=[u,w']/\RelV x u/\RelV y w':=by
 cases r with
 |cons r1 r2=>
  cases r2 with
  |cons r3 r4=>cases r4;show(_,_,@r,r1,r3)
end
structure Mt(h:cD)(x dx C:af)(mA:χ->?O ai):?P where
 obj:h.get? x=θ (ip C dx)
 ns:h.Ns1 dx mA
 ne:dx≠x
variable{dx:af}{mA:χ->?O ai}
def Mu(n:h.Ns1 dx mA):∃od,h.get? dx=θ od/\∀name,zV name od=θ (mA name):=by
 let(o,es,ep,ho,hd,hk,_,hm):=n;show(o,ho,λname=>?_);have e:=hm name;unfold nsFind findBy at e;rw[<-Array.find?_toList]at e;unfold zV;rw[hd];dsimp only;split
 .rename_i y q;rw[q]at e;show ?C θ e
 .rename_i q;rw[q]at e;have a:es.toList.any (·.refKey)=υ:=by
   rw[List.any_eq_false];intro y hy;let(z,t,al1):=hk y (Array.mem_toList_iff.mp hy);simp[DictEntry.refKey,al1]
  have a':¬es.toList.any (·.refKey)=ξ:=by rw[a];show bj
  rw[?n a'];show ?C θ e
variable{C:af}
def Mt.look{x:af}(I:Mt h x dx C mA):∃od,PySem.W.InstAt h x (ip C dx) C (θ od)/\∀name,zV name od=θ (mA name):=
 let⟨od,ho,hl⟩:=Mu I.ns
 (od,(I.obj,@r,@r,ho),hl)
section
variable {prog:bu}{w:bU}{A:cy}{E:ai->ao->?P}{s:ao}{K:aa}{x dx C f:af}{mA:χ->?O ai}{name:χ}{v:ai}
variable{Q:ai->ao->?P}
def get_map{expr:?B}(X:K.In s.heap)(I:Mt s.heap x dx C mA)(hg:iS K C name=ξ)(hh:iu K C=ξ)(ha:bI K @Y name=θ ι)(hv:mA name=θ v)(hv':PySem.W.handedIn v=ξ)(h:Q v {s with toks:=s.toks+1}):
  aU @v A (getAttr (.ref x) name expr) Q E s:=by
 let(od,J,hl):=I.look;show PySem.W.get_value X J (PySem.W.plainGet_of hg).1 (PySem.W.findObj_own hh ha @r<|by rw[hl,hv]) hv' h
def SE{ns:?L χ}{Q:Unit->ao->?P}(X:K.In s.heap)(I:Mt s.heap x dx C mA)(hs:bI K @Y "__setattr__"=θ (θ<|.builtin "object.__setattr__"))(hp:jz K C=ξ)(ht:zb K C name=θ ι)(hh:iu K C=ξ)(hw:Gn mA ns)(hsz:↑ns<=au)(h:∀h',Mt h' x dx C (λy=>if y=name then θ v else mA y)->iJ dx s.heap h'->Q () {s with heap:=h',toks:=s.toks+2}):
  aU @v A (setAttr (.ref x) name v) Q E s:=by
 let(od,J,hl):=I.look;show PySem.W.set_plain X J hs (PySem.W.osa_open (s:={s with toks:=s.toks+1}) (r:=ι) X J hp ht λb=>?_);let(cd,hc,UB):=PySem.W.any_some hh;have hx:s.heap.get? x=θ (.ref C,θ dx,.plain,#[]):=I.obj;show ae (av<|ae<|ae<|wpAny_loadPart hx<|ae<|PySem.W.Looks.here (s:={s with toks:=s.toks+1}) (PySem.W.looks_clsIn X hc) ?_);rw[UB];show av (a:=θ dx) (ae<|av<|ae ?_);show wpAny_nsSet1 (s:={s with toks:=s.toks+1}) I.ns λh' NO Oh=>?_;ext;let(oD,esD,epD,hoD,hdD,hcD):=NO.count (PySem.Within.cons name v hw);ext;show ae (wpAny_lookBehind hoD (by rw[hdD];show pastItsLine_dict (bD hcD (by rw[aF];omega))) ?_);show av (h _ ((Oh.2 _<|cp I.ne).trans I.obj,NO,I.ne) Oh)
variable{R:Result->ao->?P}
def Oi{vs:?L ai}{kw:?L (χ×ai)}(X:K.In s.heap)(hm:kF K C=ξ)(hi:bI K @Y "__init__"=θ (θ<|.ref f))(hf:PySem.W.typeIn K (.ref f)=θ (.type "function"))(h:codeAny @v (A.under<|.builtin "type.__call__" (.ref C::vs,kw)) (.call (.ref f) (.ref (↥s+1)::vs,kw)) (PySem.W.InitBack (↥s+1) R)
   {s with heap:=(s.heap.push fu).push (ip C ↥s)}):
  codeAny @v A (.call @Y (vs,kw)) R s:=by
 let(hh,g,d,t,os):=s;show PySem.W.make_core (PySem.W.makes_of X hm) (PySem.W.looks_findIn X hi) (λself=>PySem.W.bind_fn X self hf) @i h
end
abbrev tP(f:χ)(v:V):?L (χ×V)->?L (χ×V)
 |[]=>[(f,v,)]
 |(g,x)::r=>if g=f then(g,v,)::r else(g,x,)::tP f v r
def zj(f g:χ)(v:V):∀fs:?L (χ×V),(tP f v fs).lookup g=if g=f then θ v else fs.lookup g
 |[]=>by
  change nE g [(f,v,)]=_;by_cases h:g=f
  .have hb:(g==f)=ξ:=beq_iff_eq.mpr h;simp only[nE,hb,?p h]
  .have hb:(g==f)=υ:=beq_eq_false_iff_ne.mpr h;simp only[nE,hb,?n h]
 |(k,x)::r=>by
  have ih:=zj f g v r;rw[show tP f v ((k,x,)::r)=(if k=f then(k,v,)::r else(k,x,)::tP f v r)from @r];by_cases hk:k=f
  .rw[?p hk];by_cases h:g=k
   .have hb:(g==k)=ξ:=beq_iff_eq.mpr h;simp only[nE,hb,?p (h.trans hk)]
   .have hb:(g==k)=υ:=beq_eq_false_iff_ne.mpr h;simp only[nE,hb,?n (λe:g=f=>h (e.trans hk.symm))]
  .rw[?n hk];by_cases h:g=k
   .have hb:(g==k)=ξ:=beq_iff_eq.mpr h;simp only[nE,hb,?n (λe:g=f=>hk (h.symm.trans e))]
   .have hb:(g==k)=υ:=beq_eq_false_iff_ne.mpr h;simp only[nE,hb];show ih
def yh(f:χ)(v:V):∀fs:?L (χ×V),f∈(tP f v fs).map (·.1)/\∀g,g∈fs.map (·.1)->g∈(tP f v fs).map (·.1)
 |[]=>(by simp[tP],λg h=>by simp at h)
 |(k,x)::r=>by
  let(i1,i2):=yh f v r;rw[show tP f v ((k,x,)::r)=(if k=f then(k,v,)::r else(k,x,)::tP f v r)from @r];by_cases hk:k=f
  .rw[?p hk];subst hk;show(by simp,λg h=>by simpa using h)
  .rw[?n hk];show(?_,λg h=>?_)
   .rw[bZ];show aM _ i1
   .rw[bZ]at h ⊢;rcases bg.mp h with e|e
    .show bg.mpr (.inl e)
    .show aM _ (i2 g e)
def zk(f:χ)(v:V):∀fs:?L (χ×V),(tP f v fs).length<=↑fs+1
 |[]=>by simp[tP]
 |(k,x)::r=>by
  have ih:=zk f v r;rw[show tP f v ((k,x,)::r)=(if k=f then(k,v,)::r else(k,x,)::tP f v r)from @r];by_cases hk:k=f
  .rw[?p hk,aF,aF];omega
  .rw[?n hk,aF,aF];omega
variable{v:V}
def vO.some_of{o:?O ai}(r:vO (θ v) o):∃u,o=θ u/\RelV v u:=by
 cases o with
 |none=>show(show ?X from r).elim
 |some u=>show(u,@r,r)
def Mv(r:RelV v u):PySem.W.handedIn u=ξ:=by
 cases v with
 |fB=>cases(show u=eQ from r);rfl
 |bl b=>cases(show u=CO b from r);rfl
 |int i=>let(t,e):=(show ∃t,u=yZ i t from r);cases e;rfl
 |str x=>let(t,e):=(show ∃t,u=y9 x t from r);cases e;rfl
 |Jb b=>let(t,e):=(show ∃t,u=Value.bytes b t from r);cases e;rfl
 |Uz b=>let(t,e):=(show ∃t,u=Iz b t from r);cases e;rfl
 |ref a=>cases(show u=cv a from r);rfl
 |ty n=>cases(show u=jg n from r);rfl
section
variable {P:bu}{w:bU}{H H':Hp}{h h':cD}{a C dx:af}{fs fs':?L (χ×V)}
def Ad(eD:pT P w H h)(e:H a=θ (.ins C dx fs)):∃mA,Mt h a dx C mA/\(∀f,vO (fs.lookup f)<|mA f)/\Gn mA (fs.map (·.1))/\↑fs<=1000/\H dx=θ (.own a):=by
 let(d,z,ne,ob,mA,n,r,q):=(show fP P w H h a (.ins C dx fs)from eD a _ e);show(mA,(ob,n,ne),r,q,z,d)
end
structure SF(K:aa)(C:af):?P where
 pg:iS K C vH=ξ
 hd:iu K C=ξ
 po:jz K C=ξ
 sa:bI K @Y "__setattr__"=θ (θ<|.builtin "object.__setattr__")
def SF.get(c:SF K C)(f:χ):iS K C f=ξ:=c.pg
abbrev i8(K:aa)(C:af)(f:χ):?P:=bI K @Y f=θ ι
def i8.ab6{f:χ}(n:i8 K C f):zb K C f=θ ι:=by
 unfold zb;rw[show bI K @Y f=θ ι from n];rfl
section
variable {X:Cx}{π:?L @u}{σ:St}{H:Hp}{s:ao}{a C dx:af}{fs:?L (χ×V)}{f:χ}{v:V}{A:cy}{E:ai->ao->?P}
variable{Q:ai->ao->?P}
def Jp{b:?B}(I:Inv X π σ H s)(e:H a=θ (.ins C dx fs))(c:SF X.K C)(n:i8 X.K C f)(l:fs.lookup f=θ v)(h:∀u s',Inv X π σ H s'->RelV v u->Q u s'):aU ⇑X A (getAttr @x f b) Q E s:=by
 let(mA,O,r,_,_,_):=Ad I.eD e;let(u,hu,ru):=vO.some_of (v:=v) (o:=mA f) (by rw[<-l];show r f);show get_map I.vd O (c.get f) c.hd n hu (Mv ru) (h u _ (I.tok _) ru)
def Jq{Q:Unit->ao->?P}(I:Inv X π σ H s)(e:H a=θ (.ins C dx fs))(c:SF X.K C)(n:i8 X.K C f)(hl:↑fs<1000)(ry:RelV y u)(h:∀s',Inv X π σ (upd H a<|.ins C dx<|tP f y fs) s'->Q () s'):aU ⇑X A (setAttr @x f u) Q E s:=by
 let(mA,O,r,wi,_,ho):=Ad I.eD e;have hz:(fs.map (·.1)).length<=au:=by rw[aP,dC];omega
 show SE I.vd O c.sa c.po n.ab6 c.hd wi hz λh' O' sb=>h _ ?_;have hd:∃o,h'.get? dx=θ o:=(by let(o,_,_,e',_):=O'.ns;show (o,e'));show I.write (x:=a) (e:=dx) (by rw[e];show fg) (.inr ho) (λb q hb z=>(sb.2 b hb).trans z) hd ?_;show(by rw[be O.ne];show ho,?_,O.ne,O'.obj,_,O'.ns,λg=>?_,λg hg=>?_)
 .have:=zk f y fs;omega
 .change vO ((tP f y fs).lookup g) (if g=f then θ u else mA g);rw[zj];by_cases q:g=f
  .rw[?p q,?p q];show ry
  .rw[?n q,?n q];show r g
 .by_cases q:g=f
  .rw[q];show(yh f y fs).1
  .show(yh f y fs).2 g (wi g λz=>hg ?_);show(if g=f then θ u else mA g)=ι;rw[?n q];show z
def Inv.made(I:Inv X π σ H s):Inv X π σ (upd (upd H ↥s<|.own<|↥s+1) (↥s+1)<|.ins C ↥s [])
  {s with heap:=(s.heap.push fu).push (ip C ↥s)}:=by
 have e1:(s.heap.push fu).get? ↥s=θ fu:=aQ s.heap @r;have e2:((s.heap.push fu).push (ip C ↥s)).get? (↥s+1)=θ (ip C ↥s):=by
  have:=aQ (s.heap.push fu) (o:=ip C ↥s) @r;rwa[gA]at this
 have e3:(s.heap.push fu).Ns ↥s (λ_=>ι):=(fu,#[],_,e1,@r,(λe he=>?A he @s),λ_=>rfl);have I1:=I.laid (a:=↥s) (o:=.own (↥s+1)) (h':=s.heap.push fu) (t':=s.toks) (λb u q=>ah _ q) @E (_,e1);show I1.laid (a:=↥s+1) (o:=.ins C ↥s []) (t':=s.toks) (λb u q=>ah _ q) (Nat.le_of_eq<|gA _ _) ?_;have ne:↥s≠↥s+1:=bz (ic _);show(by rw[be ne,aA],cE _,ne,e2,λ_=>ι,(Heap.Ns1.of_empty e3).at λo q=>ah _ q,λ_=>fg,λy hy=>?A @r hy)
variable{prog:bu}{env:Env}{pos:Pos}
def SG{f:χ}(hb:dF e f env (eval e env)=eval e env)(h:aU @v A (eval e env) (λo gn=>aU @v A (getAttr o f ξ) Q E gn) E s):aU @v A (eval (.Attribute e f pos) env) Q E s:=
 Attribute_any_ h (by rw[arm_eval_Attribute,hb])
end
abbrev al2(K:aa)(ta:TE)(f:χ):TE:=λσ H Q=>ta σ H λx H1=>∃a C dx fs v,x = .ref a/\H1 a=θ (.ins C dx fs)/\SF K C/\i8 K C f/\fs.lookup f=θ v/\Q v H1
abbrev al3(K:aa)(ta tv:TE)(f:χ):TS:=λD σ H=>tv σ H λy H1=>ta σ H1 λx H2=>∃a C dx fs,x = .ref a/\H2 a=θ (.ins C dx fs)/\SF K C/\i8 K C f/\↑fs<1000/\
 D.nx σ (upd H2 a<|.ins C dx<|tP f y fs)
section
variable {X:Cx}{o e value:bR}{f:χ}{pos pos' Oj:Pos}{ta tv:TE}
def i9(he:PE X e ta)(hb:dF e f X.env (eval e X.env)=eval e X.env):PE X (.Attribute e f pos) (al2 X.K ta f):=by
 intro π s σ H Q I h;show SG hb (gh (he π s σ H _ I h) λ u s1  eg=>?_);let(x,H1,I1,rx,a,C,dx,fs,v,ex,ea,c,n,l,q):=eg;subst ex;obtain rfl:u=cv a:=rx;show Jp I1 ea c n l λu' s2 I2 ru=>(v,H1,I2,ru,q)
def km(ha:PE X o ta)(hv:PE X value tv)(hs:dS value (θ<|.Attribute o f pos') pos.line X.env=pure υ):PS X (.Assign [.Attribute o f pos'] value pos) (al3 X.K ta tv f):=by
 intro π s σ H D I h;show plainObj_wpAny_Assign_Attribute (gh (hv π s σ H _ I h) λu s1 ⟨y,H1,I1,ry,q⟩=>gh (ha π s1 σ H1 _ I1 q) λ ov s2  eg=>?_) hs;let(x,H2,I2,rx,a,C,dx,fs,ex,ea,c,n,l,q2):=eg;subst ex;obtain rfl:ov=cv a:=rx;show Jq I2 ea c n l ry λs3 I3=>(σ,_,I3,q2)
end
section
variable {X:Cx}{π:?L @u}{σ:St}{H:Hp}{s:ao}{A:cy}{E:ai->ao->?P}{Q:ai->ao->?P}{c:ai}{b:?B}
inductive vR(K:aa)(H:Hp):V->ai->?P where
 |fB:vR K H .fB (.type "NoneType")
 |bl (x:?B):vR K H (.bl x) (.type "bool")
 |int (i:?I):vR K H @T (.type "int")
 |str (x:χ):vR K H @S (.type "str")
 |Uz (x:UInt64):vR K H (.Uz x) (.type "float")
 |lst {a:af} {xs:?L V} (e:H a=θ @aj):vR K H @x (.type "list")
 |kg {a:af} {o:Obj} {xs:?L V} (e:H a=θ (.kg o @aj)):vR K H @x (.type "list")
 |tup {a:af} {xs:?L V} (e:H a=θ (.tup xs)):vR K H @x (.type "tuple")
 |dK {a:af} {bw:?L (Key×V)} (e:H a=θ (.dK bw)):vR K H @x (.type "dict")
 |dT {a:af} {bw:?L (?L Key×V)} (e:H a=θ @av):vR K H @x (.type "dict")
 |ins {a C dx:af} {fs:?L (χ×V)} (e:H a=θ (.ins C dx fs)) (cl:SF K C) (ha:bI K @Y "__class__"=θ (θ<|.builtin "object.__class__"))
   (hn:wK K (.builtin "object.__class__") "__get__"=θ (θ<|.builtin "getset_descriptor.__get__")) (GV:zc K (.builtin "object.__class__")=θ ξ)
   (hm:mz K C (.type "object")=θ ξ):vR K H @x @Y
variable{x:V}
def DY{t:ai}(I:Inv X π σ H s)(rx:RelV x u)(ty:vR X.K H x t)(e:aS X.K t c=θ b)(h:∀tk,Q (.bool b) {s with toks:=tk}):
  aU ⇑X A (call (.builtin "isinstance") [u,c]) Q E s:=by
 cases ty with
 |fB=>cases(show u=eQ from rx);show du PySem.W.kitx_none I.vd fg e @n h
 |bl y=>cases(show u=CO y from rx);show du IT I.vd fg e @n h
 |int i=>let(t,q):=(show ∃t,u=yZ i t from rx);cases q;show du PySem.W.kitx_int I.vd fg e @n h
 |str y=>let(t,q):=(show ∃t,u=y9 y t from rx);cases q;show du PySem.W.kitx_str I.vd fg e @n h
 |Uz y=>let(t,q):=(show ∃t,u=Iz y t from rx);cases q;show du PySem.W.kitx_float I.vd fg e @n h
 |@lst a xs ea=>
  ext;cases(show u=cv a from rx);let(_,_,n,_,h1):=(show fP X.prog X.w H s.heap a (.lst xs)from I.eD a _ ea);ext;show du pL I.vd (_,h1,@r) e @n h
 |@kg a ob xs ea=>
  ext;cases(show u=cv a from rx);let(_,_,_,n,_,h1):=(show fP X.prog X.w H s.heap a (.kg ob @aj)from I.eD a _ ea);ext;show du pL I.vd (_,h1,@r) e @n h
 |@tup a xs ea=>
  ext;cases(show u=cv a from rx);let(_,_,_,p):=(show fP X.prog X.w H s.heap a (.tup xs)from I.eD a _ ea);let(o,h1,h2,_):=p;ext;show du vp I.vd (o,h1,h2) e @n h
 |@dK a bw ea=>
  ext;cases(show u=cv a from rx);let(_,_,vs,_,p):=(show fP X.prog X.w H s.heap a (.dK bw)from I.eD a _ ea);let(o,es,ep,h1,h2,_):=p;ext;show du IU I.vd (o,h1,h2.1) e @n h
 |@dT a bw ea=>
  ext;cases(show u=cv a from rx);let(_,_,xs,_,o,es,ep,h1,h2,_):=(show fP X.prog X.w H s.heap a (.dT bw)from I.eD a _ ea);ext;show du IU I.vd (o,h1,h2.1) e @n h
 |@ins a C dx fs ea cl ha hn GV hm=>
  ext;cases(show u=cv a from rx);let(mA,O,_):=Ad I.eD ea;let(od,J,_):=O.look;ext;show du (PySem.W.kitx_own (cl.get _) cl.hd ha hn GV hm) I.vd J e @n h
end
structure gp(k:?N)(A:cy):?P where
 hd:A.handled=ι
 dp:A.depth+3 * k+5<recursionLimit
 un:A.units+16 * k+200<cLine
variable{j k:?N}
def gp.mono(r:gp k A)(h:j<=k):gp j A:=(r.hd,by have:=r.dp;omega,by have:=r.un;omega)
def gp.deeper(r:gp (k+1) A)(env:Env):gp k (A.deeper env):=
 (r.hd,by have:=r.dp;change A.depth+1+3 * k+5<_;omega,by have:=r.un;change A.units+3+16 * k+200<_;omega)
def Jr{kw:?L (χ×ai)}:(A.under<|.builtin "type.__call__" (.ref C::us,kw)).depth=A.depth+1:=by
 first|rfl|simp[EI,Code.weight,Code.isCreation,Code.isGuard,Code.isCaller,Code.frames,GH,guardIds]
def Js{kw:?L (χ×ai)}:(A.under<|.builtin "type.__call__" (.ref C::us,kw)).units=A.units+1:=by
 first|rfl|simp[EI,Code.cUnits,Code.frames,GH]
def gp.make(r:gp (k+1) A)(C:af)(us:?L ai)(kw:?L (χ×ai)):gp k (A.under<|.builtin "type.__call__" (.ref C::us,kw)):=
 (r.hd,by have:=r.dp;rw[Jr];omega,by have:=r.un;rw[Js];omega)
def gp.depth(r:gp k A):A.depth<recursionLimit:=by have:=r.dp;omega
def gp.units(r:gp k A):A.units+64<cLine:=by have:=r.un;omega
abbrev Ol:TA:=λ_ H Q=>Q [] H
abbrev GW(ta:TE)(tr:TA):TA:=λσ H Q=>ta σ H λx H1=>tr σ H1 λxs H2=>Q (x::xs) H2
section
variable {X:Cx}{e:bR}{es:?L bR}{te:TE}{t:TA}{pos:Pos}
def bh:PA X [] Ol:=λ_ _ _ _ H Q I h=>qp ([],H,I,.nil,h)
def ax(ha:PE X e te)(hr:PA X es t)(hs:aq (e::es) X.env=@c::aq es X.env:=by rfl):PA X (e::es) (GW te t):=by
 intro pos π s σ H Q I h;rw[hs];change aU _ _ (spliced (@c::dh pos @I)) _ _ s;show jj (gh @ak λ u s1  eg=>?_);let(x,H1,I1,r1,q1):=eg;show gh (hr pos π s1 σ H1 _ I1 q1) (by rintro us s2 ⟨xs,H2,I2,r2,q2⟩;show (x::xs,H2,I2,.cons r1 r2,q2))
abbrev Om(t:TA):TE:=λσ H Q=>t σ H λxs H1=>↑xs<=au/\∀p,H1 p=ι->Q (.ref p) (upd H1 p<|.tup xs)
abbrev al4(t:TA):TE:=λσ H Q=>t σ H λxs H1=>↑xs<=au/\∀p,H1 p=ι->Q (.ref p) (upd H1 p @aj)
def h8{x1}(h:PA X es t):PE X (.Tuple es x1 pos) (Om t):=by
 intro π s σ H Q I hq;show wpAny_Tuple_spliced (gh (h pos π s σ H _ I hq) λus s1 ⟨xs,H1,I1,r,z,q⟩=>(by rw[<-r.length];show z,?_));have hf:H1 ↥s1=ι:=I1.eD.fresh @E;show(.ref ↥s1,upd H1 ↥s1<|.tup xs,I1.laid (t':=s1.toks) (λb u e=>ah _ e) @E ?_,@r,q _ hf);show(z,us,r,(_,aQ _ @r,@r,_,@r))
def tQ(h:PA X es t):PE X (.List es pos) (al4 t):=by
 intro π s σ H Q I hq;show wpAny_List_spliced (gh (h pos π s σ H _ I hq) λus s1 ⟨xs,H1,I1,r,z,q⟩=>(by rw[<-r.length];show z,?_));have hf:H1 ↥s1=ι:=I1.eD.fresh @E;show(.ref ↥s1,upd H1 ↥s1 @aj,I1.laid (t':=s1.toks) (λb u e=>ah _ e) @E ?_,@r,q _ hf);show(z,us,0,r,aQ _ @r)
end
noncomputable abbrev Sp:=?L V->Hp->VK->XK->?P
noncomputable abbrev Mw:=?L Env->Hp->ao->XK->ai->ao->?P
structure Dc(P:bu)(w:bU)(K:aa)(mg:χ->?O ai)(base:cD)(A:cy)(outer:?L Env)(s:ao)(H:Hp):?P where
 frames:A.frames=θ outer
 mod:Mod K mg base
 bs:∀b o,base.get? b=θ o->s.heap.get? b=θ o/\H b=ι
 Mq:base.objs.size<=↥s
 vc:s.heap.FunFrames base outer
 KR:∀b∈qN outer,H b=ι
 eD:pT P w H s.heap
 bare:AllBare s.gens
abbrev CE(outer:?L Env)(P:bu)(w:bU)(H:Hp)(s:ao)(Q:VK)(u:ai)(s':ao):?P:=
 ∃v H',s'.os=s.os/\AllBare s'.gens/\Un (qN outer) [] H H' s.heap s'.heap/\pT P w H' s'.heap/\RelV v u/\Q v H'
abbrev CR(CX:Mw)(outer:?L Env)(P:bu)(w:bU)(H:Hp)(s:ao)(Q:VK)(E:XK)(r:Result)(s':ao):?P:=
 match r with
 |.ok (.ret u)=>CE outer P w H s Q u s'
 |.ok _=>?X
 |.error e=>CX outer H s E e s'
structure c8(P:bu)(w:bU)(K:aa)(mg:χ->?O ai)(base:cD)(CX:Mw)(k:?N)(f:af)(fd:aV)(ps:?L χ)(sp:Sp):?P where
 len:∀vs H Q E,sp vs H Q E->↑vs=↑ps
 run:∀(A:cy)(outer:?L Env)(s:ao)(H:Hp)(args:Args)(us:?L ai)(vs:?L V) (Q:VK) (E:XK),gp k A->Dc P w K mg base A outer s H->BindsTo s fd args (ps.zip us)->dD vs us->sp vs H Q E->
  codeAny (model P w) A (.call (.ref f) args) (CR CX outer P w H s Q E) s
variable{mg:χ->?O ai}{base:cD}{CX:Mw}{f:af}{fd:aV}{ps:?L χ}{sp':Sp}
def c8.imp{sp:Sp}(F:c8 P w K mg base CX k f fd ps sp)(h:∀vs H Q E,sp' vs H Q E->sp vs H Q E):c8 P w K mg base CX k f fd ps sp':=
 (λvs H Q E q=>F.len vs H Q E (h _ _ _ _ q),λA outer s H args us vs Q E hr he hb hv hs=>F.run A outer s H args us vs Q E hr he hb hv (h _ _ _ _ hs))
variable{outer:?L Env}
def Dc.make(e:Dc P w K mg base A outer s H)(C:af)(us:?L ai)(kw:?L (χ×ai)):
  Dc P w K mg base (A.under<|.builtin "type.__call__" (.ref C::us,kw)) outer s H:=(by first|show e.frames|(simpa[EI,Code.envs,GH,pushEnvs]using e.frames),e.mod,e.bs,e.Mq,e.vc,e.KR,e.eD,e.bare)
section
variable {X:Cx}{π:?L @u}{σ:St}{H:Hp}{s s':ao}
def Inv.Ww(I:Inv X π σ H s):Dc X.prog X.w X.K X.mg X.base X.A X.stack s H:=
 (I.ok.frames,I.ok.mod,I.bs,bD I.ok.Mq I.sz,I.stack,I.EM,I.eD,I.bare)
def Inv.after{Q:VK}(I:Inv X π σ H s)(h:CE X.stack X.prog X.w H s Q u s'):EP X π σ Q u s':=by
 let(v,H',os,bare,un,eD,r,q):=h;let(hh,g,d,t,os'):=s';obtain rfl:os'=s.os:=os;show(v,H',I.call (h':=hh) (g':=g) (d':=d) (t':=t) (ch:=[]) un eD bare (λb z=>?A z @s),r,q)
end
abbrev GX(sp:Sp)(GY:?L V)(E:XK)(t:TA):TE:=λσ H Q=>t σ H λvs H1=>sp (vs++GY) H1 Q E
abbrev ab7(C:af)(sp:Sp)(GY:?L V)(E:XK)(t:TA):TE:=λσ H Q=>t σ H λvs H1=>∀x dx,H1 x=ι->H1 dx=ι->dx≠x->
 sp (.ref x::(vs++GY)) (upd (upd H1 dx<|.own x) x<|.ins C dx []) (λv H2=>v = .fB/\Q (.ref x) H2) E
abbrev Binds(K:aa)(fd:aV)(ps:?L χ)(ds:?L ai):?P:=
 ∀(s:ao)(us:?L ai),K.In s.heap->(us++ds).length=↑ps->BindsTo s fd (us,[]) (ps.zip<|us++ds)
def Binds.all(h:∀us:?L ai,us.length=↑ps->bindArgs fd (us,[])=pure (ps.zip us)):Binds K fd ps []:=λs us _ hl=>by
 rw[bP]at hl ⊢;show .of_eq (h us hl)
abbrev vS(CX:Mw)(X:Cx)(E:XK):?P:=∀(π:?L @u) (σ:St) (H:Hp) (s:ao) (e:ai) (s':ao),Inv X π σ H s->CX X.stack H s E e s'->X.xe e s'
section
variable {X:Cx}{CX:Mw}{k:?N}{f C:af}{fd:aV}{ps:?L χ}{sp:Sp}{GY:?L V}{ds:?L ai}{E:XK}{x m:χ}{p pos apos:Pos}{e o:bR}{es:?L bR}{ta:TE}{t:TA}
variable{vs:?L V}
def Oo{Q:VK}(F:c8 X.prog X.w X.K X.mg X.base CX k f fd ps sp)(hr:gp k X.A)(hb:Binds X.K fd ps ds)(hd:dD GY ds)(hx:vS CX X E)(I:Inv X π σ H s)(r:dD vs us)(h:sp (vs++GY) H Q E):aU ⇑X X.A (call (.ref f) us) (EP X π σ Q) X.xe s:=by
 have r2:dD (vs++GY) (us++ds):=r.append hd;have hl:(us++ds).length=↑ps:=by rw[<-r2.length];show F.len _ _ _ _ h
 show wpAny_call (codeAny_mono (F.run X.A X.stack s H (us,[]) (us++ds) (vs++GY) Q E hr I.Ww (hb s us I.vd hl) r2 h) λr s' hq=>?_);cases r with
 |error e=>show hx π σ H s e s' I hq
 |ok fl=>
  cases fl with
  |ret u=>show I.after hq
  |next=>show fH hq
  |brk=>show fH hq
  |cont=>show fH hq
def ET(F:c8 X.prog X.w X.K X.mg X.base CX k f fd ps sp)(hr:gp k X.A)(hg:Gl X x)(hm:X.mg x=θ (.ref f))(hk:cW X.K (.ref f)=ξ)(hb:Binds X.K fd ps ds)(hd:dD GY ds)(hx:vS CX X E)(ha:PA X (e::es) t)(ny:(x==("__debug__":χ))=υ:=by decide)(he:aq (e::es) X.env=@c::aq es X.env:=by rfl)(j4:(dh pos @I).any (·.1)=υ:=by rfl):
  PE X @w (GX sp GY E t):=by
 intro π s σ H Q I h;show jJ (rH I hg hm ?_ ny);show vq (h₀:=X.base) I.ok.mod.Zv hk (gh @ad λus s1 ⟨vs,H1,I1,r,q⟩=>(I1.vd,?_)) he j4;show Oo F hr hb hd hx I1 r q
def Oq(F:c8 X.prog X.w X.K X.mg X.base CX k f fd ps sp)(hr:gp k X.A)(hg:Gl X x)(hm:X.mg x=θ (.ref f))(hk:cW X.K (.ref f)=ξ)(hb:Binds X.K fd ps ds)(hd:dD GY ds)(hx:vS CX X E)(ny:(x==("__debug__":χ))=υ:=by decide):PE X (.Call (.Name x p) [] [] pos) (GX sp GY E Ol):=by
 intro π s σ H Q I h;show jJ (rH I hg hm ?_ ny);show PySem.W.callWith_K0 I.vd hk (Oo (us:=[]) F hr hb hd hx I .nil h)
structure Mk(K:aa)(C f:af):?P where
 makes:kF K C=ξ
 init:bI K @Y "__init__"=θ (θ<|.ref f)
 fn:rB K (.ref f)=ξ
 kp:cW K @Y=ξ
def Ot{Q:VK}(M:Mk X.K C f)(F:c8 X.prog X.w X.K X.mg X.base CX k f fd ps sp)(hr:gp (k+1) X.A)(hb:Binds X.K fd ps ds)(hd:dD GY ds)(hx:vS CX X E)(I:Inv X π σ H s)(r:dD vs us)(h:∀x dx,H x=ι->H dx=ι->dx≠x->sp (.ref x::(vs++GY)) (upd (upd H dx<|.own x) x<|.ins C dx []) (λv H2=>v = .fB/\Q (.ref x) H2) E):
  aU ⇑X X.A (call @Y us) (EP X π σ Q) X.xe s:=by
 have hq:=h (↥s+1) ↥s (I.eD.fresh<|j9 _) (I.eD.fresh @E) (bz<|ic _);have I2:=Inv.made (C:=C) I;have r2:dD (V.ref (↥s+1)::(vs++GY)) (cv (↥s+1)::(us++ds)):=.cons @r (r.append hd);have hl:(cv (↥s+1)::us++ds).length=↑ps:=by
  have e:=↑r2;rw[F.len _ _ _ _ hq]at e;show e.symm
 show wpAny_call (Oi (f:=f) I.vd M.makes M.init (beq_iff_eq.mp M.fn) (codeAny_mono (F.run _ X.stack _ _ (cv (↥s+1)::us,[]) (cv (↥s+1)::(us++ds)) _ _ E (hr.make C us [])
  (I2.Ww.make C us []) (hb _ (cv (↥s+1)::us) I2.vd hl) r2 hq) λr s' hq'=>?_))
 cases r with
 |error e=>show hx π σ _ _ e s' I2 hq'
 |ok fl=>
  cases fl with
  |ret u=>
   let(v,H',I3,rv,ev,q3):=I2.after hq';subst ev;show(rv,(V.ref<|↥s+1,H',I3,@r,q3))
  |next=>show fH hq'
  |brk=>show fH hq'
  |cont=>show fH hq'
def K3(M:Mk X.K C f)(F:c8 X.prog X.w X.K X.mg X.base CX k f fd ps sp)(hr:gp (k+1) X.A)(hg:Gl X x)(hm:X.mg x=θ @Y)(hb:Binds X.K fd ps ds)(hd:dD GY ds)(hx:vS CX X E)(ha:PA X (e::es) t)(ny:(x==("__debug__":χ))=υ:=by decide)(he:aq (e::es) X.env=@c::aq es X.env:=by rfl)(j4:(dh pos @I).any (·.1)=υ:=by rfl):
  PE X @w (ab7 C sp GY E t):=by
 intro π s σ H Q I h;show jJ (rH I hg hm ?_ ny);show vq (h₀:=X.base) I.ok.mod.Zv M.kp (gh @ad λus s1 ⟨vs,H1,I1,r,q⟩=>(I1.vd,?_)) he j4;show Ot M F hr hb hd hx I1 r q
end
section
variable {X:Cx}{CX:Mw}{k:?N}{f C:af}{fd:aV}{ps ks:?L χ}{sp:Sp}{E:XK}{x m:χ}{p pos apos ar1:Pos}{e o:bR}{es:?L bR}{kws:?L iX}{te ta:TE}{t tk:TA}{nm:?O χ}
variable {g:?L ai->?L ai->?L ai}{gV:?L V->?L V->?L V}
end
structure bO(N P:?L χ)(sc:Scope):?P where
 kind:sc.kind = .function
 co:sc.isCoroutine=υ
 gen:sc.isGenerator=υ
 nd:N.Nodup
 pre:N.take P.length=P
 par:∀x∈P,sc.names.lookup x=θ .local\/sc.names.lookup x=θ .cell
 Wx:∀y∈sc.names,y.2≠.free
def DZ{kindOf:χ->?O NameKind}{x:χ}:∀{binds:?L (χ×ai)} {m:χ->?O ai},(∀v,(x,v,)∉binds)->bindL kindOf binds m x=m x
 |[],_,_=>rfl
 |(n,v)::r,m,h=>by
  unfold bindL;rw[DZ λw hw=>h w (aM _ hw)];split
  .have:x≠n:=by rintro rfl;show h v aJ
   simp[this]
  .rfl
def D0{kindOf:χ->?O NameKind}{x:χ}:∀{binds:?L (χ×ai)} {m:χ->?O ai},(∀v,(x,v,)∉binds)->bindC kindOf binds m x=m x
 |[],_,_=>rfl
 |(n,v)::r,m,h=>by
  unfold bindC;rw[D0 λw hw=>h w (aM _ hw)];split
  .rfl
  .have:x≠n:=by rintro rfl;show h v aJ
   simp[this]
def D3{kindOf:χ->?O NameKind}{x:χ}{v:ai}:∀{P:?L χ}{vs:?L ai}{i:?N}{m:χ->?O ai},P.Nodup->P[i]?=θ x->vs[i]?=θ v->kindOf x=θ .local->
  bindL kindOf (P.zip vs) m x=θ v
 |[],_,_,_,_,h,_,_=>by simp at h
 |_::_,[],_,_,_,_,h,_=>by simp at h
 |p::P,w::vs,0,m,nd,h1,h2,hk=>by
  simp at h1 h2;subst h1;subst h2;change bindL kindOf ((p,w,)::P.zip vs) m p=_;unfold bindL;rw[DZ λv hv=>(e9.mp nd).1 (AF hv).1,?p hk];simp
 |p::P,w::vs,i+1,m,nd,h1,h2,hk=>by
  change bindL kindOf ((p,w,)::P.zip vs) m x=_;unfold bindL;show D3 (i:=i) (e9.mp nd).2 (by simpa using h1) (by simpa using h2) hk
def D4{kindOf:χ->?O NameKind}{x:χ}{v:ai}:∀{P:?L χ}{vs:?L ai}{i:?N}{m:χ->?O ai},P.Nodup->P[i]?=θ x->vs[i]?=θ v->kindOf x≠θ .local->
  bindC kindOf (P.zip vs) m x=θ v
 |[],_,_,_,_,h,_,_=>by simp at h
 |_::_,[],_,_,_,_,h,_=>by simp at h
 |p::P,w::vs,0,m,nd,h1,h2,hk=>by
  simp at h1 h2;subst h1;subst h2;change bindC kindOf ((p,w,)::P.zip vs) m p=_;unfold bindC;rw[D0 λv hv=>(e9.mp nd).1 (AF hv).1,?n hk];simp
 |p::P,w::vs,i+1,m,nd,h1,h2,hk=>by
  change bindC kindOf ((p,w,)::P.zip vs) m x=_;unfold bindC;show D4 (i:=i) (e9.mp nd).2 (by simpa using h1) (by simpa using h2) hk
abbrev start(N:?L χ)(vs:?L V):St:=vs.map some++dm (N.length - ↑vs) ι
abbrev qS(CX:Mw)(P:bu)(w:bU)(K:aa)(mg:χ->?O ai)(base:cD)(N:?L χ)(qual:χ)(scope:Scope)(f:af)(cd:ai)(A:cy)(outer:?L Env)(s:ao)(H:Hp)(E:XK):Cx where
 prog:=P
 w:=w
 K:=K
 mg:=mg
 base:=base
 A:=A.deeper (envOfC qual scope ↥s f cd)
 N:=N
 kJ:=s
 zM:=H
 env:=envOfC qual scope ↥s f cd
 outer:=outer
 stack:=envOfC qual scope ↥s f cd::outer
 ex:=[]
 calm:=ξ
 fn:=λ_=>ξ
 pn:=[]
 xe:=λe s'=>aU (model P w) (A.deeper<|envOfC qual scope ↥s f cd) (leaving (envOfC qual scope ↥s f cd) e) (λ_ Jt=>CX outer H s E e Jt) (λe' Jt=>CX outer H s E e' Jt) s'
def GZ{sc:Scope}{x:χ}(h:sc.names.lookup x=θ .cell):∃c,(cellsFrom n sc.names []).lookup x=θ c:=by
 have q:=Dt sc.names n [] (.inl h);show qq.mp q
variable{N:?L χ}{qual:χ}{scope:Scope}{cd:ai}{vs:?L V}
def Mx{s1:ao}{E:XK}(S:bO N ps scope)(hd:A.handled=ι)(e0:Dc P w K mg base A outer s H)(hl:↑vs=↑ps)(r:dD vs us)(x:InCallC s ↥s (bindL (envOfC qual scope ↥s f cd).kindOf (ps.zip us) λ_=>ι) (cellsFrom (↥s+1) scope.names []) (bindC (envOfC qual scope ↥s f cd).kindOf (ps.zip us) λ_=>ι) s1):
  Inv (qS CX P w K mg base N qual scope f cd A outer s H E) [] (start N vs) H s1:=by
 have j4:↑ps<=N.length:=by have:=?C IX S.pre;rw[fY]at this;omega
 ext;let(h1,tk,rfl,hk):=x.done;ext;have noA:∀b:af,b∉(qS CX P w K mg base N qual scope f cd A outer s H E).ex:=λb z=>?A (show b∈([]:?L af)from z) @s
 show((e0.mod,S.kind,@r,@r,aj _,λy z c h1 h2=>?_,λy hy=>?_,λy c _ h=>?_,λ_=>hd,Around.frames_deeper e0.frames,.inr (@r,@r),λb z=>?A z (noA b),e0.bs,e0.Mq,λb _ _=>noA b,λb z=>?A z (noA b),e0.vc,e0.KR),
  rfl,e0.bare,Un.kept hk,(_,x.toInCall.ns,λi y v h1 h2 h3=>?_),λy c h=>(_,x.cell y c h),e0.eD.fresh @E,λy c h=>?_,λp hp=>?A (show p∈([]:?L @u)from hp) @s,e0.eD.kept hk,?_)
 .show name_of_addr x.apart (iW h1) (iW h2)
 .have hy:scope.names.lookup y=θ .cell\/scope.names.lookup y=θ .free:=hy;rcases hy with hy|hy
  .show GZ hy
  .show ?A @r (S.Wx _<|iW hy)
 .show fe (x.above y c<|iW h)
 .have hi:i<↑vs:=by
   unfold start at h2;by_cases hi:i<↑vs
   .show hi
   .rw[bT (by simpa using hi)]at h2;rw[Gp]at h2;split at h2<;>cases h2
  have ha:vs[i]?=θ v:=by
   unfold start at h2;rw[bF (by simpa using hi),aE]at h2;cases e:vs[i]? with
   |none=>rw[e]at h2;cases h2
   |some a=>rw[e]at h2;cases(h2);rfl
  let(u,hu,rv):=r.get ha;have hp:ps[i]?=θ y:=by
   rw[<-S.pre,List.getElem?_take_of_lt @o];show h1
  have ndP:ps.Nodup:=by rw[<-S.pre];show S.nd.sublist (List.take_sublist _ _)
  show(u,rv,?_);rcases S.par y (aD hp)with k|k
  .show .inl (k,D3 ndP hp hu k)
  .let(c,e):=GZ (n:=↥s+1) k;show .inr (.inl k,c,e,?_);have q:=x.cell y c e;rw[D4 ndP hp hu (by change scope.names.lookup y≠_;rw[k];decide)]at q;show q
 .show e0.eD.fresh (fe<|x.above y c<|iW h)
 .unfold start;change _=N.length;rw[aH,aP,tH];omega
variable{body:?L cz}{doc pm ez ct oc:ai}{an od:?O af}{SH:?R (?O ai)}
def UJ{name:χ}{params:Arguments}{dV kV:ai}{sp:Sp}(lk:K.lookup f=θ (oc,od,.func<|dv name qual params body scope dV kV doc pm an ez ct,SH))(pU:gZ K ez qual=ξ)(S:bO N ps scope)(len:∀vs H Q E,sp vs H Q E->↑vs=↑ps)(nA:∀(A:cy)(outer:?L Env)(s:ao)(H:Hp)(vs:?L V)(Q:VK)(E:XK),gp k (A.deeper<|envOfC qual scope ↥s f ez)->sp vs H Q E->
   ∃t,vP (qS CX P w K mg base N qual scope f ez A outer s H E) body t/\t {nx:=λ_ H'=>Q .fB H',rt:=Q} (start N vs) H):
  c8 P w K mg base CX (k+1) f (dv name qual params body scope dV kV doc pm an ez ct) ps sp:=by
 show(len,λA outer s H args us vs Q E hr e0 hb r Se=>?_);have hl:=len _ _ _ _ Se;have KX:K.In s.heap:=e0.mod.Zv.keeps λb o e=>(e0.bs b o e).1;have lim:s.heap.NoLimit:=e0.mod.nolimit.keeps λb o e=>(e0.bs b o e).1;have K4:∀y∈ps.zip us,scope.names.lookup y.1=θ .local\/(scope.names.lookup y.1=θ .cell/\((cellsFrom (↥s+1) scope.names []).lookup y.1).isSome=ξ):=λ⟨n,v⟩ hy=>by
  rcases S.par n (AF hy).1 with q|q
  .show .inl q
  .show .inr (q,Dt _ _ _<|.inl q)
 show codeAny_call_function hr.depth (KX _ _ lk) @r S.co S.gen @r (PySem.W.codeRec_of KX pU) (hb _ _ _ _ ?_);show wpAny_newFunctionEnv_cells S.kind K4 λenv he s1 x=>?_;subst he;show(lim.keeps x.toInCall.keep,codeAny_func ?_);let(t,ht,hq):=nA A outer s H vs Q E (hr.deeper _) Se;have I:Inv (qS CX P w K mg base N qual scope f ez A outer s H E) [] (start N vs) H s1:=Mx S hr.hd e0 hl r x;show cZ (ht [] s1 (start N vs) H _ I hq) (λfl s' hs=>?_) λe s' hs=>hs;have fin:∀{fo:St}{H':Hp}{v:V}{u:ai},Inv (qS CX P w K mg base N qual scope f ez A outer s H E) [] fo H' s'->RelV v u->Q v H'->CE outer P w H s Q u s':=
  λ{fo H' v u} J rv q=>(v,H',J.os,J.bare,J.base,J.eD,rv,q)
 cases fl with
 |ret u=>
  ext;let(v,fo,H',J,rv,q):=hs;ext;show fin J rv q
 |next=>
  let(fo,H',J,q):=hs;show fin (v:=V.fB) (u:=eQ) J @r q
 |brk=>
  let(_,_,_,q):=hs;show fH q
 |cont=>
  let(_,_,_,q):=hs;show fH q
section
variable {X:Cx}{x:χ}{p pos:Pos}{e:bR}{es:?L bR}{t:TA}{id T:?S}{r:?L V->Hp->VK->?P}
abbrev tCB(r:?L V->Hp->VK->?P)(t:TA):TE:=λσ H Q=>t σ H λvs H1=>r vs H1 Q
def eW(hc:tO X (.builtin id) r)(hg:Gl X x)(hm:X.mg x=ι)(hv:bootBuiltins x=θ (.builtin id))(ha:PA X (e::es) t)(hn:x≠"__name__":=by decide)(ny:(x==("__debug__":χ))=υ:=by decide)(he:aq (e::es) X.env=@c::aq es X.env:=by rfl)(j4:(dh pos @I).any (·.1)=υ:=by rfl):PE X @w (tCB r t):=by
 intro π s σ H Q I h;show jJ (nJ I hg hm hv ?_ hn ny);show PyProof.Rows.callWith_builtin1 (gh @ad (by rintro us s1 ⟨vs,H1,I1,r1,q1⟩;show hc π s1 σ H1 vs us Q I1 r1 q1)) he j4
def oO(hc:tO X (.type T) r)(hg:Gl X x)(hm:X.mg x=ι)(hv:bootBuiltins x=θ (.type T))(ha:PA X (e::es) t)(hn:x≠"__name__":=by decide)(ny:(x==("__debug__":χ))=υ:=by decide)(he:aq (e::es) X.env=@c::aq es X.env:=by rfl)(j4:(dh pos @I).any (·.1)=υ:=by rfl):PE X @w (tCB r t):=by
 intro π s σ H Q I h;show jJ (nJ I hg hm hv ?_ hn ny);show cI (gh @ad (by rintro us s1 ⟨vs,H1,I1,r1,q1⟩;show hc π s1 σ H1 vs us Q I1 r1 q1)) he j4
end
end _L
namespace _H
open PyProof.Rows
section
open PySem.SeqAt
open PySem.AutoSeq1 (wpAny_loadPart')
open PySem.MeetsSeq PySem.MeetsSeq2 PySem.MeetsSeq3
end
section
variable {prog:bu}{w:bU}{A:cy}{E:ai->ao->?P}{s:ao}
variable{t b:af}{Q:ai->ao->?P}
def SI{vs ws:?L ai}(ht:IsTup s.heap t vs.toArray)(hb:IsTup s.heap b ws.toArray)(hv:vs≠[])(h1:ws=[]->Q (.ref t) s)(h2:ws≠[]->Q (.ref ↥s) {s with heap:=s.heap.push {cls:=.type "tuple",data:=.seq (vs++ws).toArray}})(hsz:↑vs + ↑ws<=au):aU @v A (binaryOp .Add (.ref t)<|.ref b) Q E s:=by
 let((cls,dd,data,sl),ho,hc,n,hd):=id ht;let((al5,dd2,data2,sl2),Wy,qT,n2,hd2):=id hb;simp only at hc hd qT hd2;subst hc hd qT hd2;have e:vs.toArray++ws.toArray=(vs++ws).toArray:=by simp
 by_cases hw:ws=[]
 .show concat_meets (_,ho,@r) (_,Wy,@r) noFill_tuple_add seq_tuple_add rC qJ (pZ _ _)
   (tuple_addW1 t b vs.toArray ws.toArray n n2 dd dd2 sl sl2 (by simpa using hv) (by simp[hw])) (ho,Wy,h1 hw)
 .show concat_meets (_,ho,@r) (_,Wy,@r) noFill_tuple_add seq_tuple_add rC qJ (pZ _ _)
   (tuple_addW2 t b vs.toArray ws.toArray n n2 dd dd2 sl sl2 (by simpa using hv) (by simpa using hw) (by rw[aI,aI];show hsz)) (ho,Wy,?_)
  rw[e];show h2 hw
abbrev lN(n d:?N):?O ?I->?N
 |none=>d
 |some v=>if v<0 then(v + (n:?I)).toNat else min v.toNat n
def Ou(n d:?N):lN n d ι=d:=rfl
def w8(n d k:?N):lN n d (θ (k:?I))=min k n:=by
 show(if(k:?I)<0 then((k:?I) + (n:?I)).toNat else min (k:?I).toNat n)=min k n;rw[?n @o,gI]
def Wz(n d:?N)(hd:d<=n)(o:?O ?I):lN n d o<=n:=by
 cases o with
 |none=>show hd
 |some v=>
  show(if v<0 then(v + (n:?I)).toNat else min v.toNat n)<=n;by_cases hv:v<0
  .rw[?p hv];omega
  .rw[?n hv];show Nat.min_le_right _ _
def K5(v:?I)(n d:?N):(if v<0 then max (v + (n:?I)) 0 else min v (n:?I))=((lN n d (θ v):?N):?I):=by
 show(if v<0 then max (v + (n:?I)) 0 else min v (n:?I))=(((if v<0 then(v + (n:?I)).toNat else min v.toNat n):?N):?I);by_cases hv:v<0
 .simp only[?p hv];omega
 .simp only[?n hv];omega
def Ju(lo hi:?O ?I)(n:?N):nD lo hi 1 (n:?I)=(((lN n 0 lo:?N):?I),((lN n n hi:?N):?I),):=by
 have h1:¬((1:?I)<0):=by omega
 unfold nD;simp only[h1,if_false];show Prod.ext ?_ ?_
 .cases lo with
  |none=>rfl
  |some v=>show K5 v n 0
 .cases hi with
  |none=>rfl
  |some v=>show K5 v n n
def Jv(i j:?N):jA (i:?I) (j:?I) 1=j - i:=by
 unfold jA;have h1:(1:?I) > 0:=by omega
 simp only[h1,if_true,Int.ediv_one];split<;>omega
variable{v:ai}
def AR{o:?O ?I}{Q:?O ?I->ao->?P}(p:IsPart v o)(h:Q o s):aU @v A (Builtin.Slice.slicePartIndex v) Q E s:=by
 cases p with
 |none=>show slicePart_none h
 |int i t=>show slicePart_int h
variable{sl:af}{vl vu:ai}{hi:?O ?I}{n:?N}
def yi{lo:?O ?I}{Q:?I×?I×?N->ao->?P}(hs:s.heap.IsSliceOf sl vl vu .none)(pl:IsPart vl lo)(pu:IsPart vu hi)(h:Q (((lN n 0 lo:?N):?I),1,lN n n hi - lN n 0 lo,) s):aU @v A (wL (.ref sl)<|pure (n:?I)) Q E s:=by
 let(os,WA,hcs,hds):=id hs;unfold wL Builtin.Slice.sliceFields;show ae (ae<|dO WA hds (x:=vl) @r<|ae<|dO WA hds (x:=vu) @r<|ae<|dO WA hds (x:=.none) @r<|av ?_);show ae (slicePart_none ?_);change aU _ _ (if((1:?I)==0)=ξ then _ else _) _ _ s;rw[?n @d];show ae (AR pl<|ae<|AR pu<|ae<|av ?_);change aU _ _ (match nD lo hi 1 (n:?I)with|(lo,hi)=>pure (lo,(1:?I),jA lo hi 1,)) _ _ s;rw[Ju lo hi n];change aU _ _ (pure (((lN n 0 lo:?N):?I),(1:?I),jA ((lN n 0 lo:?N):?I) ((lN n n hi:?N):?I) 1,)) _ _ s;rw[Jv];show av h
def Ov(xs:?R ai)(i k:?N):((lJ k).filterMap λ(m:?N)=>xs[((i:?I) + (m:?I) * 1).toNat]?).toArray=((xs.toList.drop i).take k).toArray:=by
 have e:(λ(m:?N)=>xs[((i:?I) + (m:?I) * 1).toNat]?)=λm=>xs[i + m]?:=by
  funext m;have:((i:?I) + (m:?I) * 1).toNat=i + m:=by omega
  rw[this]
 rw[e];have:=pick_run xs i k;rw[List.filterMap_map]at this;have e2:((λx=>xs[x]?) ∘ λx=>i + x)=λm=>xs[i + m]?:=rfl;rw[e2]at this;rw[this]
variable{items:?R ai}
def xa{lo:?O ?I}(ht:IsTup s.heap t items)(hs:s.heap.IsSliceOf sl vl vu .none)(pl:IsPart vl lo)(pu:IsPart vu hi)(hw:¬(lN items.size 0 lo=0/\lN items.size items.size hi=items.size))(h:Q (.ref ↥s) {s with heap:=s.heap.push {cls:=.type "tuple",data:=.seq ((items.toList.drop<|lN items.size 0 lo).take @am).toArray}})(hsz:items.size<=au):aU @v A (getItem (.ref t)<|.ref sl) Q E s:=by
 have K6:sizeOk (.seq ((items.toList.drop<|lN items.size 0 lo).take @am).toArray):=by
  show((items.toList.drop<|lN items.size 0 lo).take @am).toArray.size<=au;rw[aI,fY,zJ,iV];omega
 have hj:lN items.size items.size hi<=items.size:=Wz _ _ @E hi;let(os,WA,hcs,hds):=id hs;have hTs:s.TypeIs (.ref sl) "slice":=(os,WA,hcs);unfold getItem
 try with_reducible show fO ?_
 first|show ae (av ?_)|skip
 show ae (wpAny_sequenceKey ht.typeIs @d ?_)
 show ae (fJ (name:=jr "__getitem__") ht.typeIs ll
  (fK ll ht.typeIs entry_tuple_getitem ?_<|args_tuple_getitem _ _))
 change aU _ _ (Builtin.Tuple.tupleItemsOf (.ref t) >>= _) _ _ s;show ae (tupleItemsOf_ ht ?_);show ae (qK hTs ?_);rw[?p @d];show ae (yi hs pl pu ?_);have hno:¬((((lN items.size 0 lo:?N):?I)==0&&(1:?I)==1&&@am==items.size)=ξ):=by
  intro q;rw[aZ,aZ]at q;have q1:((lN items.size 0 lo:?N):?I)=0:=eq_of_beq q.1.1;have q2:lN items.size items.size hi - lN items.size 0 lo=items.size:=eq_of_beq q.2;show hw (by omega,by omega)
 change aU _ _ (if(((lN items.size 0 lo:?N):?I)==0&&(1:?I)==1&&@am==items.size)=ξ then _ else _) _ _ s;rw[?n hno,Ov]
 first
  |show ae (m:=jK _) (eG (av (_,@r,av h)) K6)
  |show ae (m:=jK _) (eG (ae<|av<|av (_,@r,av h)) K6)
  |show ae (ae (m:=jK _)<|eG (av<|av (_,@r,av h)) K6)
  |show ae (ae (m:=jK _)<|eG (av (_,@r,av h)) K6)
end
end _H
namespace _L
open PyProof.Rows
noncomputable abbrev TO:=St->Hp->(?O ?I->Hp->?P)->?P
abbrev PO(X:Cx)(e:?O bR)(t:TO):?P:=
 ∀(π:?L @u) (s:ao) (σ:St) (H:Hp) (Q:?O ?I->Hp->?P),Inv X π σ H s->t σ H Q->
  aU ⇑X X.A (evalPart e X.env) (λu s'=>∃o H',Inv X π σ H' s'/\IsPart u o/\Q o H') X.xe s
abbrev SJ:TO:=λ_ H Q=>Q ι H
abbrev ab8(t:TE):TO:=λσ H Q=>t σ H λx H1=>∃i,x = .int i/\Q (θ i) H1
section
variable {X:Cx}{e:bR}{te:TE}{lo hi:?O bR}{tl th:TO}{pos p2:Pos}
def EU:PO X ι SJ:=by
 intro π s σ H Q I h;rw[evalPart_none];show av (ι,H,I,.none,h)
def xb(h:PE X e te):PO X (θ e) (ab8 te):=by
 intro π s σ H Q I hw;rw[evalPart_some];show gh (h π s σ H _ I hw) λ u s1  eg=>?_;let(x,H1,I1,r1,q1):=eg;let(i,rfl,q):=q1;let(t,rfl):=r1;show(θ i,H1,I1,.int i t,q)
abbrev SlR(X:Cx)(r:V->?O ?I->?O ?I->Hp->VK->?P):?P:=
 ∀(π:?L @u) (s:ao) (σ:St) (H:Hp) (x:V) (v vl vu:ai) (lo hi:?O ?I) (sl:af) (Q:VK),Inv X π σ H s->RelV x v->s.heap.IsSliceOf sl vl vu .none->IsPart vl lo->IsPart vu hi->r x lo hi H Q->
  ∃T id,typeLookup (.type T) "__getitem__"=pure (θ<|.builtin id)/\s.TypeIs v T/\aU ⇑X X.A (getItem v<|.ref sl) (EP X π σ Q) X.xe s
abbrev tSl(r:V->?O ?I->?O ?I->Hp->VK->?P)(te:TE)(tl th:TO):TE:=λσ H Q=>te σ H λx H1=>tl σ H1 λl H2=>th σ H2 λu H3=>r x l u H3 Q
def xc{r:V->?O ?I->?O ?I->Hp->VK->?P}(hr:SlR X r)(he:PE X e te)(hl:PO X lo tl)(hu:PO X hi th):PE X (.Subscript e (.Slice lo hi ι p2) pos) (tSl r te tl th):=by
 intro π s σ H Q I h;show Subscript_ (gh (he π s σ H _ I h) λ v s1  eg=>?_);let(x,H1,I1,r1,q1):=eg;show wpAny_Slice (gh (hl π s1 σ H1 _ I1 q1) λvl s2 ⟨l,H2,I2,pl,q2⟩=>gh (hu π s2 σ H2 _ I2 q2) λ vu s3  eg=>?_);let(u,H3,I3,pu,q3):=eg;rw[evalPart_none];show av ?_;have I4:Inv X π σ H3 {s3 with heap:=s3.heap.push {cls:=.type "slice",data:=.fields #[vl,vu,.none]}}:=I3.kept (t':=s3.toks) λb ob q=>ah _ q;let(T,id,hT,ht,hg):=hr π {s3 with heap:=s3.heap.push {cls:=.type "slice",data:=.fields #[vl,vu,.none]}} σ H3 x v vl vu l u ↥s3 Q I4 r1 (Heap.IsSliceOf.new ..) pl pu q3;change aU ⇑X X.A (subscriptTail e (.Slice lo hi ι p2) v<|.ref ↥s3) (EP X π σ Q) X.xe {s3 with heap:=s3.heap.push {cls:=.type "slice",data:=.fields #[vl,vu,.none]}};show tail_any (ops:=[.ref ↥s3,v]) ht hT hg (by with_unfolding_all rfl)
abbrev sZ(xs:?L V)(lo hi:?O ?I):?L V:=(xs.drop<|_H.lN ↑xs 0 lo).take (_H.lN ↑xs ↑xs hi - _H.lN ↑xs 0 lo)
def zm(xs:?L V)(lo hi:?O ?I):(sZ xs lo hi).length<=↑xs:=by
 unfold sZ;rw[fY,zJ];omega
abbrev al6(K:aa):V->?O ?I->?O ?I->Hp->VK->?P:=λx lo hi H Q=>∃a xs,x = .ref a/\eI K H a xs/\
 ¬(_H.lN ↑xs 0 lo=0/\_H.lN ↑xs ↑xs hi=↑xs)/\∀p,H p=ι->Q (.ref p) (upd H p<|.tup<|sZ xs lo hi)
def Jw:SlR X (al6 X.K):=by
 intro π s σ H x v vl vu lo hi sl Q I rx hs pl pu h;let(a,xs,rfl,hx,hw,q):=h;cases rx;let(cA,r,ht,hz):=I.tuple hx;have hlen:cA.toArray.size=↑xs:=by rw[aI];show r.length.symm
 show("tuple",_,ll.lookup,ht.typeIs,?_);show _H.xa ht hs pl pu (by rw[hlen];show hw) ?_ (by rw[hlen];show hz);rw[hlen];show(.ref ↥s,_,I.laid (t':=s.toks) (o:=.tup (sZ xs lo hi)) (λb ob q=>ah _ q) @E ?_,@r,q _<|I.eD.fresh @E);show(bD (zm xs lo hi) hz,_,(r.drop<|_H.lN ↑xs 0 lo).take (_H.lN ↑xs ↑xs hi - _H.lN ↑xs 0 lo),IsTup.new _ _)
abbrev ab9(K:aa):R2:=λx y H Q=>∃a b xs ys,x = .ref a/\y = .ref b/\eI K H a xs/\eI K H b ys/\xs≠[]/\↑xs + ↑ys<=au/\
 (ys=[]->Q @x H)/\(ys≠[]->∀p,H p=ι->Q (.ref p) (upd H p<|.tup<|xs++ys))
variable{xs:?L V}{us:?L ai}
def dD.Ae(r:dD xs us):us=[]↔xs=[]:=by
 cases r with
 |nil=>simp
 |cons _ _=>simp
def SK:wQ X (binaryOp .Add) (ab9 X.K):=by
 intro π s σ H x y v u Q I rx ry h;let(a,b,xs,ys,rfl,rfl,ha,hb,hx,hz,q1,q2):=h;cases rx;cases ry;let(cA,r1,p1,_):=I.tuple ha;let(rN,r2,p2,_):=I.tuple hb;show _H.SI p1 p2 (λz=>hx (r1.Ae.mp z)) (λz=>(.ref a,H,I,@r,q1<|r2.Ae.mp z)) (λz=>?_) (by rw[<-r1.length,<-r2.length];show hz);show(.ref ↥s,_,I.laid (t':=s.toks) (o:=.tup (xs++ys)) (λb ob q=>ah _ q) @E ?_,@r,q2 (λw=>z (r2.Ae.mpr w)) _<|I.eD.fresh @E);show(by rw[aH];show hz,_,r1.append r2,IsTup.new _ _)
end
abbrev K7(n:?N)(i:?I):?O ?N:=if 0<=i then(if i<n then θ i.toNat else ι)else if -(n:?I)<=i then θ (i + n).toNat else ι
abbrev vy{α:Type}(xs:?L α)(i:?I):?O α:=(K7 ↑xs i).bind λj=>xs[j]?
variable{n j:?N}{i:?I}
def uP(h:K7 n i=θ j):seqIndex? i n=θ j/\j<n/\-(n:?I)<=i/\i<n:=by
 unfold K7 at h;by_cases h0:0<=i
 .rw[?p h0]at h;by_cases h1:i<n
  .rw[?p h1]at h;have e:i.toNat=j:=bf h;show(by rw[seqIndex_of h0 h1,e],by omega,by omega,h1)
  .rw[?n h1]at h;cases h
 .rw[?n h0]at h;by_cases h1:-(n:?I)<=i
  .rw[?p h1]at h;have e:(i + n).toNat=j:=bf h;show(by rw[seqIndex_neg @o h1,e],by omega,h1,by omega)
  .rw[?n h1]at h;cases h
def uQ{α:Type}{xs:?L α}{v:α}(h:vy xs i=θ v):∃j,seqIndex? i ↑xs=θ j/\xs[j]?=θ v/\j<↑xs/\-(↑xs:?I)<=i/\i<↑xs:=by
 unfold vy at h;cases e:K7 ↑xs i with
 |none=>rw[e]at h;cases h
 |some j=>
  rw[e]at h;let(h1,h2,h3,h4):=uP e;show(j,h1,h,h2,h3,h4)
def ie{α:Type}{xs:?L α}{v:α}(h:xs[j]?=θ v):vy xs (j:?I)=θ v:=by
 have hj:j<↑xs:=(ay.mp h).1;have e:K7 ↑xs (j:?I)=θ j:=by
  unfold K7;rw[?p @o,?p @o];simp
 unfold vy;rw[e];show h
abbrev xf(b:bR):?P:=∀o i,subscripted b υ o i=operate [o,i] (getItem o i)
abbrev IxR(X:Cx)(r:R2):?P:=
 ∀(value slice:bR) (π:?L @u) (s:ao) (σ:St) (H:Hp) (x y:V) (v u:ai) (Q:VK),Inv X π σ H s->RelV x v->RelV y u->r x y H Q->
  subscripted slice υ v u=operate [v,u] (getItem v u)->aU ⇑X X.A (subscriptTail value slice v u) (EP X π σ Q) X.xe s
abbrev MtR(X:Cx)(id:?S)(r:V->?L V->Hp->VK->?P):?P:=
 ∀(π:?L @u) (s:ao) (σ:St) (H:Hp) (x:V) (xs:?L V) (v:ai) (us:?L ai) (Q:VK),Inv X π σ H s->RelV x v->dD xs us->r x xs H Q->
  aU ⇑X X.A (call (.builtin id) (v::us)) (EP X π σ Q) X.xe s
section
variable {X:Cx}{a b:bR}{ta tb:TE}{pos:Pos}
variable{r:R2}
def eL(hr:IxR X r)(ha:PE X a ta)(hb:PE X b tb)(hs:xf b):PE X (.Subscript a b pos) (tOp r ta tb):=by
 intro π s σ H Q I h;show Subscript_ (Ws ha hb I h λv u s2 x y H2 I2 rx ry q=>hr a b π s2 σ H2 x y v u Q I2 rx ry q (hs _ _))
abbrev al7(K:aa):R2:=λx y H Q=>∃p xs i v,x = .ref p/\y = .int i/\gF K H p xs/\vy xs i=θ v/\Q v H
abbrev al8(K:aa):R2:=λx y H Q=>∃p xs i v,x = .ref p/\y = .int i/\eI K H p xs/\vy xs i=θ v/\Q v H
def mS:IxR X (al7 X.K):=by
 intro value slice π s σ H x y v u Q I rx ry h hs;ext;let(p,xs,i,z,rfl,rfl,hq,he,q):=h;cases rx;let(t,rfl):=ry;let(cA,r,pl,hz):=I.list hq;let(j,h1,h2,h3,h4,h5):=uQ he;let(w,ew,Ow):=r.get h2;ext;have hl:=↑r;have hn:=AO;have fin:EP X π σ Q w s:=(z,H,I,Ow,q);by_cases h0:0<=i
 .have hj:i.toNat=j:=by
   rw[seqIndex_of h0 h5]at h1;show bf h1
  show item_listR pl.isList h0 @o (by rw[hj];simpa using ew) fin hs
 .have hj:(i + (cA.toArray.size:?I)).toNat=j:=by
   rw[seqIndex_neg @o h4]at h1;rw[aI,<-hl];show bf h1
  show subscriptTail_builtinR (x:=w) pl.isList.typeIs slot_list_getitem.lookup
   (wpAny_getItem_list_neg (Q:=λr s'=>r=w/\EP X π σ Q r s') pl.isList @o (by rw[aI]<;>omega) @o (by rw[hj];simpa using ew) (@r,fin)) hs
def eh:IxR X (al8 X.K):=by
 intro value slice π s σ H x y v u Q I rx ry h hs;let(p,xs,i,z,rfl,rfl,hq,he,q):=h;cases rx;let(t,rfl):=ry;let(cA,r,pl,hz):=I.tuple hq;let(j,h1,h2,h3,h4,h5):=uQ he;let(w,ew,Ow):=r.get h2;have hl:=↑r;have hn:=AO;have fin:EP X π σ Q w s:=(z,H,I,Ow,q);show subscriptTail_builtinR (x:=w) pl.typeIs slot_tuple_getitem.lookup
  (getItem_tuple (j:=j) (Q:=λr s'=>r=w/\EP X π σ Q r s') pl @o @o (by rw[aI,<-hl];show h1) (by simpa using ew) (@r,fin)) hs
def Jx(cA:?L ai)(n j:?N)(u:ai):eJ (·.setIfInBounds j u) {cls:=.type "list",data:=.seq cA.toArray n}={cls:=.type "list",data:=.seq (cA.set j u).toArray n}:=by
 simp[eJ]
def Inv.lst{π:?L @u}{σ:St}{H:Hp}{s:ao}{p:af}{xs:?L V}(I:Inv X π σ H s)(h:H p=θ @aj):
  ∃(cA:?L ai)(n:?N),dD xs cA/\s.heap.get? p=θ {cls:=.type "list",data:=.seq cA.toArray n}/\↑xs<=au:=by
 let(z,cA,n,r,e):=I.eD p _ h;show(cA,n,r,e,z)
variable{π:?L @u}{σ:St}{H:Hp}{s:ao}{p:af}{xs ys:?L V}{cA pV:?L ai}
def Inv.WB{n':?N}{f:Obj->Obj}(I:Inv X π σ H s)(h:H p=θ @aj)(ho:s.heap.get? p=θ {cls:=.type "list",data:=.seq cA.toArray n})(hf:f {cls:=.type "list",data:=.seq cA.toArray n}={cls:=.type "list",data:=.seq pV.toArray n'})(r:dD ys pV)(hz:↑ys<=au)(t:?N):
  Inv X π σ (upd H p<|.lst ys) {s with heap:=s.heap.update p f,toks:=t}:=by
 have e:(s.heap.update p f).get? p=θ {cls:=.type "list",data:=.seq pV.toArray n'}:=by
  rw[et f ho (by rw[hf]<;>rfl),hf]
 show I.write (x:=p) (e:=p) (by rw[h];trivial) @i (λb u hb q=>(cQ _ _<|cp hb).trans q) (_,e) ?_;show(hz,pV,n',r,e)
abbrev ac0:V->V->V->Hp->(Hp->?P)->?P:=λo i v H Q=>∃p xs k j,o = .ref p/\i = .int k/\H p=θ @aj/\K7 ↑xs k=θ j/\Q (upd H p<|.lst<|xs.set j v)
def set_list:aa7 X ac0:=by
 intro π s σ H o i v ov iv u Q I ro ri rv h;ext;let(p,xs,k,j,rfl,rfl,hp,hj,q):=h;cases ro;let(t,rfl):=ri;let(cA,n,r,ho,hz):=I.lst hp;let(h1,h2,h3,h4):=uP hj;ext;have hl:=↑r;have hn:=AO;have I':Inv X π σ (upd H p<|.lst<|xs.set j v) {s with heap:=s.heap.update p (eJ (·.setIfInBounds j u))}:=
  I.WB hp ho (Jx cA n j u) (r.set rv j) (by rw[eK];show hz) s.toks
 by_cases h0:0<=k
 .have hk:k.toNat=j:=by
   rw[seqIndex_of h0 h4]at h1;show bf h1
  show PySem.W.ki_setAt ho h0 @o (by rw[aI,<-hl];show h4) (by rw[hk];show(_,I',q))
 .have hk:(k + (cA.toArray.size:?I)).toNat=j:=by
   rw[seqIndex_neg @o h3]at h1;rw[aI,<-hl];show bf h1
  show PySem.W.ki_setBack ho @o (by rw[aI,<-hl];show h3) @o (by rw[hk];show(_,I',q))
def EW(lo hi:?O ?I)(n:?N):(sliceBounds lo hi ι n).1=((_H.lN n 0 lo:?N):?I)/\(sliceBounds lo hi ι n).2.1=((_H.lN n n hi:?N):?I)/\(sliceBounds lo hi ι n).2.2=1:=by
 show(?_,?_,@r)
 .cases lo with
  |none=>simp[sliceBounds,_H.lN]
  |some i=>
   simp only[sliceBounds,_H.lN,Option.getD_none,show(1:?I) > 0 by decide,if_true];by_cases h:i<0
   .simp only[h,if_true]<;>omega
   .simp only[h,if_false]<;>omega
 .cases hi with
  |none=>simp[sliceBounds,_H.lN]
  |some i=>
   simp only[sliceBounds,_H.lN,Option.getD_none,show(1:?I) > 0 by decide,if_true];by_cases h:i<0
   .simp only[h,if_true]<;>omega
   .simp only[h,if_false]<;>omega
def Dd(cA:?L ai)(lo hi:?O ?I):slicePick cA.toArray lo hi ι=((cA.drop<|_H.lN ↑cA 0 lo).take (_H.lN ↑cA ↑cA hi - _H.lN ↑cA 0 lo)).toArray:=by
 let(h1,h2,h3):=EW lo hi cA.toArray.size;unfold slicePick;rw[h1,h2,h3];simp only[sliceRange_one,pick_run,aI]<;>rfl
abbrev al9(K:aa):V->?O ?I->?O ?I->Hp->VK->?P:=λx lo hi H Q=>∃a xs,x = .ref a/\gF K H a xs/\∀p,H p=ι->Q (.ref p) (upd H p<|.lst<|sZ xs lo hi)
def SM:SlR X (al9 X.K):=by
 intro π s σ H x v vl vu lo hi sl Q I rx hs pl pu h;let(a,xs,rfl,hx,q):=h;cases rx;let(cA,r,ht,hz):=I.list hx;have hlen:=↑r;show("list",_,slot_list_getitem.lookup,ht.isList.typeIs,?_);show wpAny_getItem_list_slice ht.isList hs pl pu .none @s ?_ (by rw[aI]<;>omega);rw[Dd,<-hlen];show(.ref ↥s,_,I.laid (t':=s.toks) (o:=.lst (sZ xs lo hi)) (λb ob q=>ah _ q) @E ?_,@r,q _<|I.eD.fresh @E);show(bD (zm xs lo hi) hz,_,0,(r.drop<|_H.lN ↑xs 0 lo).take (_H.lN ↑xs ↑xs hi - _H.lN ↑xs 0 lo),aQ _ @r)
abbrev xg:V->?B
 |.fB=>ξ
 |.bl _=>ξ
 |.int _=>ξ
 |.str _=>ξ
 |_=>υ
abbrev UK:V->V->?B
 |.fB,.fB=>ξ
 |.bl a,.bl b=>a==b
 |.bl a,.int b=>(if a then 1 else 0)==b
 |.int a,.bl b=>a==(if b then 1 else 0)
 |.int a,.int b=>a==b
 |.str a,.str b=>a==b
 |_,_=>υ
variable{A:cy}{y x:V}{u v:ai}
def WC(ry:RelV y u)(rx:RelV x v)(fy:xg y=ξ)(fx:xg x=ξ):SeqAt.EqAt A s u v (UK y x):=by
 cases y with
 |fB=>
  cases ry;cases x with
  |fB=>cases rx;show SeqAt.EqAt.same _
  |bl b=>cases rx;show SeqAt.EqAt.none_bool b
  |int b=>let(t,rfl):=rx;show SeqAt.EqAt.none_int b t
  |str b=>let(t,rfl):=rx;show SeqAt.EqAt.none_str b t
  |_=>show ?A (show υ=ξ from fx) bj
 |bl a=>
  cases ry;cases x with
  |fB=>cases rx;show SeqAt.EqAt.bool_none a
  |bl b=>cases rx;show SeqAt.EqAt.bool_bool a b
  |int b=>let(t,rfl):=rx;show SeqAt.EqAt.bool_int a b t
  |str b=>let(t,rfl):=rx;show SeqAt.EqAt.bool_str a b t
  |_=>show ?A (show υ=ξ from fx) bj
 |int a=>
  let(t',rfl):=ry;cases x with
  |fB=>cases rx;show SeqAt.EqAt.int_none a t'
  |bl b=>cases rx;show SeqAt.EqAt.int_bool a t' b
  |int b=>let(t,rfl):=rx;show SeqAt.EqAt.int_int a t' b t
  |str b=>let(t,rfl):=rx;show EF a t' b t
  |_=>show ?A (show υ=ξ from fx) bj
 |str a=>
  let(t',rfl):=ry;cases x with
  |fB=>cases rx;show SeqAt.EqAt.str_none a t'
  |bl b=>cases rx;show SeqAt.EqAt.str_bool a t' b
  |int b=>let(t,rfl):=rx;show EG a t' b t
  |str b=>let(t,rfl):=rx;show SeqAt.EqAt.str_str a t' b t
  |_=>show ?A (show υ=ξ from fx) bj
 |_=>show ?A (show υ=ξ from fy) bj
abbrev SN(x:V)(u:ai):?B:=match u with
 |.none=>UK .fB x
 |.bool b=>UK (.bl b) x
 |.int i _=>UK @T x
 |.str z _=>UK (.str z) x
 |_=>υ
def Ox(r:RelV y u)(f:xg y=ξ):SN x u=UK y x:=by
 cases y with
 |fB=>cases r;rfl
 |bl b=>cases r;rfl
 |int i=>let(t,rfl):=r;rfl
 |str z=>let(t,rfl):=r;rfl
 |_=>show ?A (show υ=ξ from f) bj
def K8:∀{xs:?L V}{us:?L ai},dD xs us->xs.all xg=ξ->us.any (SN x)=xs.any λy=>UK y x:=by
 intro xs us h;induction h with
 |nil=>intro _;rfl
 |cons r t ih=>
  intro f;rw[EJ,aZ]at f;rw[qO,qO,Ox r f.1,ih f.2]
def G0(rx:RelV x v)(fx:xg x=ξ):∀{xs:?L V}{us:?L ai},dD xs us->xs.all xg=ξ->∀u∈us,SeqAt.EqAt A s u v (SN x u):=by
 intro xs us h;induction h with
 |nil=>intro _ u hu;cases hu
 |cons r t ih=>
  intro f u' hu;rw[EJ,aZ]at f;rcases bg.mp hu with rfl|hu
  .rw[Ox r f.1];show WC r rx f.1 fx
  .show ih f.2 u' hu
abbrev inV(x:V)(xs:?L V):?B:=xs.any λy=>UK y x
abbrev rIn(K:aa)(neg:?B):R2:=λx y H Q=>∃p xs,y = .ref p/\(gF K H p xs\/eI K H p xs)/\xg x=ξ/\xs.all xg=ξ/\Q (.bl<|if neg then !inV x xs else inV x xs) H
def My:wQ X (compareOp .In) (rIn X.K υ):=by
 intro π s σ H x y v u Q I rx ry h;let(p,xs,rfl,hq,fx,fs,q):=h;cases ry;rcases hq with hq|hq
 .let(cA,r,pl,hz):=I.list hq;show SeqAt.in_listAt (SN x) pl.isList (λw hw=>G0 rx fx r fs w (by simpa using hw)) (.bl _,H,I,@r,?_);rw[show cA.toArray.any (SN x)=cA.any (SN x) by simp,K8 r fs];show q
 .let(cA,r,pl,hz):=I.tuple hq;show SeqAt.in_tupleAt (SN x) pl (λw hw=>G0 rx fx r fs w (by simpa using hw)) (.bl _,H,I,@r,?_);rw[show cA.toArray.any (SN x)=cA.any (SN x) by simp,K8 r fs];show q
def gc:tO X (.builtin "len") (λxs H Q=>∃p ys,xs=[.ref p]/\(gF X.K H p ys\/eI X.K H p ys)/\Q (.int ↑ys) H):=by
 intro π s σ H xs us Q I r h;let(p,ys,rfl,hq,q):=h;let(u,rfl,rx):=vals1 r;cases rx;have hn:=AO;rcases hq with hq|hq
 .let(cA,r',pl,hz):=I.list hq;have hlen:=↑r';show Calls.call_len_list pl.isList (by simp only[aI]<;>omega) (.int ↑ys,H,I.tok _,(s.toks+1,by rw[aI,hlen]),q)
 .let(cA,r',pl,hz):=I.tuple hq;have hlen:=↑r';show len_tuple pl (by simp only[aI]<;>omega) (.int ↑ys,H,I.tok _,(s.toks+1,by rw[aI,hlen]),q)
def xh:tO X (.type "list") (λxs H Q=>∃p ys,xs=[.ref p]/\(gF X.K H p ys\/eI X.K H p ys)/\∀l,H l=ι->Q (.ref l) (upd H l<|.lst ys)):=by
 intro π s σ H xs us Q I r h;let(p,ys,rfl,hq,q):=h;let(u,rfl,rx):=vals1 r;cases rx;have fin:∀(cA:?L ai),dD ys cA->↑ys<=au->∀(h':cD)(c':?N),(∀b o',s.heap.get? b=θ o'->h'.get? b=θ o')->
   h'.get? ↥s=θ {cls:=.type "list",dict:=ι,data:=.seq cA.toArray c',slots:=#[]}->EP X π σ Q (.ref ↥s) {s with heap:=h'}:=λcA r' hz h' c' kp e=>
  (.ref ↥s,_,I.laid (t':=s.toks) kp @E<|show fP X.prog X.w _ h' _ (.lst ys)from(hz,cA,c',r',e),@r,q _<|I.eD.fresh @E)
 rcases hq with hq|hq
 .let(cA,r',pl,hz):=I.list hq;have hlen:=↑r';let(o,ho,hc,n,hd):=pl.isList;show call_list_seq p @i ho hc hd (λh' c' kp e=>fin cA r' hz h' c' kp e) (by simp only[aI]<;>omega)
 .let(cA,r',pl,hz):=I.tuple hq;have hlen:=↑r';let(o,ho,hc,n,hd):=pl;show call_list_seq p (.inr @r) ho hc hd (λh' c' kp e=>fin cA r' hz h' c' kp e) (by simp only[aI]<;>omega)
def De:tO X (.type "tuple") (λxs H Q=>∃p ys,xs=[.ref p]/\((gF X.K H p ys/\∀l,H l=ι->Q (.ref l) (upd H l<|.tup ys))\/(eI X.K H p ys/\Q (.ref p) H))):=by
 intro π s σ H xs us Q I r h;let(p,ys,rfl,h):=h;let(u,rfl,rx):=vals1 r;cases rx;rcases h with⟨hq,q⟩|⟨hq,q⟩
 .let(cA,r',pl,hz):=I.list hq;have hlen:=↑r';show call_tuple_list pl.isList (λh' kp=>?_) (by simp only[aI]<;>omega);have I1:Inv X π σ H {s with heap:=h'}:=I.kept (t':=s.toks) kp;have I2:Inv X π σ (upd H h'.objs.size<|.tup ys) {s with heap:=h'.push {cls:=.type "tuple",data:=.seq cA.toArray}}:=
   I1.laid (t':=s.toks) (λb o e=>ah _ e) @E (show fP X.prog X.w _ _ _ (.tup ys)from(hz,cA,r',IsTup.new _ _))
  show(.ref h'.objs.size,_,I2,@r,q _<|I1.eD.fresh @E)
 .let(cA,r',pl,hz):=I.tuple hq;show call_tuple_same pl (.ref p,H,I,@r,q)
abbrev tyV(K:aa)(T:?S)(x:V)(H:Hp):?P:=match x with
 |.str _=>T = "str"
 |.int _=>T = "int"
 |.ref p=>(T = "list"/\∃xs,gF K H p xs)\/(T = "tuple"/\∃o,K.lookup p=θ o/\o.cls = .type "tuple"/\o.dict=ι)\/
   (T = "dict"/\((∃bw,H p=θ (.dK bw))\/∃bw,H p=θ @av))\/(T = "set"/\∃S n,H p=θ (.set S n))
 |_=>?X
variable{T:?S}
def Oy(I:Inv X π σ H s)(r:RelV x v)(ty:tyV X.K T x H):
  s.TypeIs v T/\∀a,v = .ref a->∃ob,s.heap.get? a=θ ob/\ob.dict=ι:=by
 cases x with
 |str z=>
  let(t,rfl):=r;cases(show T = "str" from ty);show(typeIs_str s z t,λ_ e=>nomatch e)
 |int i=>
  let(t,rfl):=r;cases(show T = "int" from ty);show(typeIs_int s i t,λ_ e=>nomatch e)
 |ref p=>
  cases r;rcases ty with⟨rfl,xs,hq⟩|⟨rfl,o,hk,hc,hd⟩|⟨rfl,hk⟩|⟨rfl,S,n,hk⟩
  .let(cA,_,pl,_):=I.list hq;show(pl.isList.typeIs,λa e=>?_);ext;cases e;let(o,n,e,c,hd,_):=pl;ext;show(o,e,hd)
  .show((o,I.vd p o hk,hc),λa e=>?_);cases e;show(o,I.vd _ o hk,hd)
  .have z:∃o,s.heap.get? p=θ o/\o.ExactDict:=by
    rcases hk with⟨bw,hk⟩|⟨bw,hk⟩
    .ext;let(_,_,_,_,o,_,_,e,ex,_):=I.eD p _ hk;ext;show(o,e,ex)
    .ext;let(_,_,_,_,o,_,_,e,ex,_):=I.eD p _ hk;ext;show(o,e,ex)
   let(o,e,ex):=z;show((o,e,ex.1),λa e2=>?_);cases e2;show(o,e,ex.2.1)
  .ext;let(o,_,_,_,e,ex,_):=I.eD p _ hk;ext;show((o,e,ex.1),λa e2=>?_);cases e2;show(o,e,ex.2.1)
 |_=>show fH ty
abbrev am0(K:aa)(T:?S)(r:V->?L V->Hp->VK->?P)(to:TE):TE:=λσ H Q=>to σ H λx H1=>tyV K T x H1/\r x [] H1 Q
abbrev tBM(K:aa)(T:?S)(r:V->?L V->Hp->VK->?P)(to:TE)(t:TA):TE:=λσ H Q=>to σ H λx H1=>tyV K T x H1/\t σ H1 λxs H2=>r x xs H2 Q
variable {o e:bR}{es:?L bR}{to:TE}{t:TA}{name:χ}{apos cU:Pos}{T id:?S}{r:V->?L V->Hp->VK->?P}
def tS(pa:PlainAttrs T)(slot:Slot T name id)(UL:typeOf (.builtin id)=pure (.type "method_descriptor"))(hm:MtR X id r)(ho:PE X o to)(jN:dF o name X.env (eval o X.env)=eval o X.env:=by rfl)(jO:@M=ξ:=by rfl):PE X (.Call (.Attribute o name apos) [] [] cU) (am0 X.K T r to):=by
 intro π s σ H Q I h;show wpAny_Call_method0_late jN jO (gh (ho π s σ H _ I h) λ v s1  eg=>?_);let(x,H1,I1,r1,ty,q1):=eg;let(h1,h2):=Oy I1 r1 ty;show(T,id,pa,slot,UL,h1,h2,sQ @r<|PySem.evalArgs_none<|hm π s1 σ H1 x [] v [] Q I1 r1 .nil q1)
def ou(pa:PlainAttrs T)(slot:Slot T name id)(UL:typeOf (.builtin id)=pure (.type "method_descriptor"))(hm:MtR X id r)(ho:PE X o to)(ha:PA X (e::es) t)(jN:dF o name X.env (eval o X.env)=eval o X.env:=by rfl)(yj:((dh cU<|aq (e::es) X.env).all (λx=>!x.1)&&(rD cU<|kR [] X.env).all (λx=>x.1.isSome)
   && decide ((e::es).length + ([]:?L iX).length + @ao<30))=ξ:=by rfl)(jO:@M=ξ:=by rfl)(hs:aq (e::es) X.env=@c::aq es X.env:=by rfl)(mB:(dh cU @I).any (·.1)=υ:=by rfl):
  PE X (.Call (.Attribute o name apos) (e::es) [] cU) (tBM X.K T r to t):=by
 intro π s σ H Q I h;show wpAny_Call_method_late jN yj jO @r (gh (ho π s σ H _ I h) λ v s1  eg=>?_);let(x,H1,I1,r1,ty,q1):=eg;let(h1,h2):=Oy I1 r1 ty;show(T,id,pa,slot,UL,h1,h2,?_);have hA:=ha cU π s1 σ H1 _ I1 q1;rw[hs]at hA ⊢;show sQ (by show(υ||(dh cU @I).any (·.1))=υ;rw[mB]<;>rfl) (uK ?_);show gh hA (by rintro us s2 ⟨vs,H2,I2,r2,q2⟩;show hm π s2 σ H2 x vs v us Q I2 r1 r2 q2)
end
abbrev MtM(X:Cx)(id:?S)(r:V->?L V->Hp->VK->?P):?P:=
 ∀(π:?L @u) (s:ao) (σ:St) (H:Hp) (x:V) (xs:?L V) (v:ai) (us:?L ai) (Q:VK),Inv X π σ H s->RelV x v->dD xs us->r x xs H Q->
  aU ⇑X X.A (call (.builtin id) (v::us)) (EP X π σ Q) X.xe s
variable{x:V}{us:?L ai}
def dD.one(h:dD [x] us):∃u,us=[u]/\RelV x u:=by
 cases h with
 |cons r h=>cases h;show(_,@r,r)
variable{y:V}
def dD.two(h:dD [x,y] us):∃u v,us=[u,v]/\RelV x u/\RelV y v:=by
 cases h with
 |cons r h=>let(v,e,q):=dD.one h;show(_,v,by rw[e],r,q)
def dD.zero:∀{us:?L ai},dD [] us->us=[]
 |_,.nil=>rfl
variable{xs:?L V}
def dD.dropLast(h:dD xs us):dD xs.dropLast us.dropLast:=by
 induction h with
 |nil=>show .nil
 |cons r t ih=>
  cases t with
  |nil=>show .nil
  |cons q t'=>show .cons r ih
def dD.reverse(h:dD xs us):dD xs.reverse us.reverse:=by
 induction h with
 |nil=>show .nil
 |cons r t ih=>rw[dQ,dQ];show dD.append ih (.cons r .nil)
def Jy{α:Type}(l:?L α):l.eraseIdx (↑l - 1)=l.dropLast:=by
 induction l with
 |nil=>rfl
 |cons a r ih=>
  cases r with
  |nil=>rfl
  |cons b r=>
   have e:(a::b::r).length - 1=((b::r).length - 1)+1:=by
    have h1:(a::b::r).length=↑r+2:=rfl;have h2:(b::r).length=↑r+1:=rfl;omega
   rw[e,List.eraseIdx_cons_succ,ih]
   all_goals rfl
section
variable {X:Cx}{π:?L @u}{σ:St}{H:Hp}{s:ao}{l b:af}{xs ys zs:?L V}
variable{cA pV:?L ai}{t':?N}
def Inv.WD{f:?R ai->?R ai}(I:Inv X π σ H s)(hH:H l=θ @aj)(e:s.heap.get? l=θ {cls:=.type "list",data:=.seq cA.toArray n})(hf:f cA.toArray=pV.toArray)(hv:dD ys pV)(hz:↑ys<=au):
  Inv X π σ (upd H l<|.lst ys) {s with heap:=s.heap.update l (eJ f),toks:=t'}:=by
 have q:=IB e f;rw[hf]at q;show I.write (x:=l) (e:=l) (by rw[hH];show trivial) @i (λb' u hb hu=>(cQ s.heap (eJ f)<|cp hb).trans hu) (_,q) ?_;show(hz,pV,_,hv,q)
def Inv.am1(I:Inv X π σ H s)(hv:dD ys cA)(hz:↑ys<=au):
  Inv X π σ (upd H ↥s<|.lst ys) {s with heap:=s.heap.push {cls:=.type "list",data:=.seq cA.toArray},toks:=t'}:=
 I.laid (λ_ _ q=>ah _ q) @E (hz,cA,0,hv,aQ _ @r)
def Inv.fresh(I:Inv X π σ H s):H ↥s=ι:=I.eD.fresh @E
def Inv.Mz(I:Inv X π σ H s)(hH:H l=θ @aj):↑xs<=au/\∃(cA:?L ai)(n:?N),dD xs cA/\↑xs=↑cA/\s.heap.get? l=θ {cls:=.type "list",data:=.seq cA.toArray n}:=by
 let(z,cA,n,r,e):=I.eD l _ hH;show(z,cA,n,r,r.length,e)
def Oz(h:n<=au):oE n=υ:=by
 unfold oE;show ?f @o
end
section
variable {X:Cx}
abbrev SO:V->?L V->Hp->VK->?P:=λx vs H Q=>∃l xs y,x = .ref l/\vs=[y]/\H l=θ @aj/\↑xs<au/\Q .fB (upd H l<|.lst<|xs++[y])
def gX:MtM X "list.append" SO:=by
 intro π s σ H x vs v us Q I rx rv h;let(l,xs,y,rfl,rfl,hH,hz,q):=h;cases rx;let(u,rfl,ru):=rv.one;let(z,cA,n,r,hl,e):=I.Mz hH;show call_meets F.slot_list_append (_,e,@r) F.entry_list_append (F.args_list_append_2 _ _) (PySem.list_append l cA.toArray n u (by rw[aI];omega)) (e,?_);show(.fB,_,I.WD (pV:=cA++[u]) hH e @s (r.append<|.cons ru .nil) ?_,@r,q);rw[aH,ik];omega
abbrev SQ:V->?L V->Hp->VK->?P:=λx vs H Q=>∃l b xs zs,x = .ref l/\vs=[.ref b]/\H l=θ @aj/\H b=θ (.lst zs)/\↑xs + ↑zs<=au/\Q .fB (upd H l<|.lst<|xs++zs)
def yk:MtM X "list.extend" SQ:=by
 intro π s σ H x vs v us Q I rx rv h;let(l,b,xs,zs,rfl,rfl,hH,hB,hz,q):=h;cases rx;let(u,rfl,ru):=rv.one;cases ru;let(z,cA,n,r,hl,e):=I.Mz hH;let(z2,rN,n2,r2,hl2,e2):=I.Mz hB;have hsz:cA.toArray.size + rN.toArray.size<=au:=by rw[aI,aI];omega
 have ac1:¬(!cA.toArray.isEmpty&&oE (cA.toArray.size + rN.toArray.size))=ξ:=by
  rw[Oz hsz,Bool.and_false];show bj
 show call_meets F.slot_list_extend (_,e,@r) F.entry_list_extend (F.args_list_extend_2 _ _)
  (AutoSeq1.list_extend_list_list_0 l cA.toArray n b rN.toArray n2 ac1 (by rw[aI];omega) @o) (e,e2,?_)
 show(.fB,_,I.WD (pV:=cA++rN) hH e @s (r.append r2) ?_,@r,q);rw[aH];omega
abbrev am2:V->?L V->Hp->VK->?P:=λx vs H Q=>∃l xs y,x = .ref l/\vs=[]/\H l=θ @aj/\xs[xs.length - 1]?=θ y/\Q y (upd H l<|.lst xs.dropLast)
def tU:MtM X "list.pop" am2:=by
 intro π s σ H x vs v us Q I rx rv h;let(l,xs,y,rfl,rfl,hH,hy,q):=h;cases rx;have hus:=rv.zero;subst hus;let(z,cA,n,r,hl,e):=I.Mz hH;let(u,hu,ru):=r.get hy;have hy':cA.toArray[cA.toArray.size - 1]?=θ u:=by
  change cA.toArray[cA.length - 1]?=θ u;rw[<-GI,<-hl];show hu
 show call_meets F.slot_list_pop (_,e,@r) F.entry_list_pop (F.args_list_pop_1 _) (MeetsSeq.list_pop_last l cA.toArray n u hy' (by rw[aI];omega)) (e,?_);show(y,_,I.WD (pV:=cA.dropLast) hH e ?_ r.dropLast ?_,ru,q)
 .change cA.toArray.eraseIdxIfInBounds (cA.toArray.size - 1)=cA.dropLast.toArray;rw[aI,List.eraseIdxIfInBounds_toArray,Jy]
 .rw[List.length_dropLast];omega
abbrev am3:R2:=λx y H Q=>∃l b xs zs,x = .ref l/\y = .ref b/\H l=θ @aj/\H b=θ (.lst zs)/\↑xs + ↑zs<=au/\∀p,H p=ι->Q (.ref p) (upd H p<|.lst<|xs++zs)
def OA:wQ X (binaryOp .Add) am3:=by
 intro π s σ H x y v u Q I rx ry h;let(l,b,xs,zs,rfl,rfl,hH,hB,hz,q):=h;cases rx;cases ry;let(z,cA,n,r,hl,e):=I.Mz hH;let(z2,rN,n2,r2,hl2,e2):=I.Mz hB;show PySem.P.add_list e e2 ?_ (by rw[aI,aI];omega);have ea:cA.toArray++rN.toArray=(cA++rN).toArray:=by simp
 rw[ea];show(.ref _,_,I.am1 (t':=s.toks) (r.append r2) (by rw[aH];omega),@r,q _ I.fresh)
end
section
variable {κ:Type}[DecidableEq κ]
abbrev ja(bw:?L (κ×V))(k:κ):?O V:=(bw.find? λkv=>decide (kv.1=k)).map (·.2)
abbrev putK(bw:?L (κ×V))(k:κ)(v:V):?L (κ×V):=
 if(bw.any λkv=>decide (kv.1=k))=ξ then bw.map (λkv=>if kv.1=k then(kv.1,v,)else kv)else bw++[(k,v,)]
variable{r:?L (κ×V)}
def jP{p:κ×V}{k:κ}(e:p.1=k):ja (p::r) k=θ p.2:=by simp[ja,jB,e]
def jQ{p:κ×V}{k:κ}(e:¬p.1=k):ja (p::r) k=ja r k:=by simp[ja,jB,e]
def tV(k:κ):∀bw:?L (κ×V),(bw.any λkv=>decide (kv.1=k))=(ja bw k).isSome
 |[]=>rfl
 |p::r=>by
  rw[qO];by_cases e:p.1=k
  .simp only[jP e,?t e,Bool.true_or,IY]
  .rw[jQ e,?f e,Bool.false_or];show tV k r
def G1(k j:κ)(y:V):∀bw:?L (κ×V),ja (bw.map λkv=>if kv.1=k then(kv.1,y,)else kv) j=(ja bw j).map λx=>if j=k then y else x
 |[]=>rfl
 |p::r=>by
  have ih:=G1 k j y r;rw[bZ];by_cases h:p.1=k
  .rw[?p h];by_cases e:p.1=j
   .rw[jP (p:=(p.1,y,)) e,jP e,nF,?p (e.symm.trans h)]
   .rw[jQ (p:=(p.1,y,)) e,jQ e,ih]
  .rw[?n h];by_cases e:p.1=j
   .rw[jP (p:=p) e,jP e,nF,?n (λz=>h (e.trans z))]
   .rw[jQ (p:=p) e,jQ e,ih]
def D5(k j:κ)(y:V):∀bw:?L (κ×V),ja bw k=ι->ja (bw++[(k,y,)]) j=if j=k then θ y else ja bw j
 |[],_=>by
  by_cases e:k=j
  .rw[?p e.symm];show jP (p:=(k,y,)) e
  .rw[?n (λz=>e z.symm)];show jQ (p:=(k,y,)) e
 |p::r,hn=>by
  rw[df];have hk:¬p.1=k:=λz=>by rw[jP z]at hn;cases hn
  rw[jQ hk]at hn;have ih:=D5 k j y r hn;by_cases e:p.1=j
  .rw[jP e,jP e,?n (λz=>hk (e.trans z))]
  .rw[jQ e,jQ e,ih]
def kM(bw:?L (κ×V))(k j:κ)(y:V):ja (putK bw k y) j=if j=k then θ y else ja bw j:=by
 unfold putK;by_cases a:(bw.any λkv=>decide (kv.1=k))=ξ
 .rw[?p a,G1];rw[tV]at a;by_cases e:j=k
  .let(x,hx):=qq.mp a;rw[?p e,e,hx,nF,?p @r]
  .rw[?n e];cases ja bw j with
   |none=>rfl
   |some x=>rw[nF,?n e]
 .rw[?n a];show D5 k j y bw ?_;rw[tV]at a;cases q:ja bw k with
  |none=>rfl
  |some x=>rw[q]at a;show(a @r).elim
def i0(bw:?L (κ×V))(k:κ)(v:V):(putK bw k v).length<=↑bw+1:=by
 unfold putK;split
 .rw[aP];omega
 .rw[aH,aF,iI];omega
variable{bw:?L (κ×V)}
def OB{k:κ}(v:V)(h:ja bw k=ι):putK bw k v=bw++[(k,v,)]:=by
 unfold putK;rw[tV,h];show ?n @d
variable{o:?O V}
def vO.yl{u:?O ai}(r:vO o u):o.isSome=u.isSome:=by
 cases o with
 |none=>cases u with
  |none=>rfl
  |some _=>show(show ?X from r).elim
 |some _=>cases u with
  |none=>show(show ?X from r).elim
  |some _=>rfl
def vO.getD{u:?O ai}{d:V}{d':ai}(r:vO o u)(rd:RelV d d'):RelV (o.getD d) (u.getD d'):=by
 cases o with
 |none=>cases u with
  |none=>show rd
  |some _=>show(show ?X from r).elim
 |some _=>cases u with
  |none=>show(show ?X from r).elim
  |some _=>show r
variable{vs:?L (κ×ai)}
def KV.val(r:KV bw vs)(k:κ):vO (ja bw k) (valueAt vs k):=by
 unfold KV at r;induction r with
 |nil=>show fg
 |@cons p q ps qs h t ih=>
  let(h1,h2):=h;by_cases e:p.1=k
  .have e':q.1=k:=h1.symm.trans e;have b:valueAt (q::qs) k=θ q.2:=by simp[valueAt,jB,e']
   rw[jP e,b];show h2
  .have e':¬q.1=k:=λz=>e (h1.trans z);have b:valueAt (q::qs) k=valueAt qs k:=by simp[valueAt,jB,e']
   rw[jQ e,b];show ih
def KV.any(r:KV bw vs)(k:κ):(bw.any λkv=>decide (kv.1=k))=vs.any λkv=>decide (kv.1=k):=by
 unfold KV at r;induction r with
 |nil=>rfl
 |cons h t ih=>rw[qO,qO,ih,h.1]
variable{u:ai}
def KV.WE(r:KV bw vs)(k:κ)(ry:RelV y u):
  KV (bw.map λkv=>if kv.1=k then(kv.1,y,)else kv) (vs.map λkv=>if kv.1=k then(kv.1,u,)else kv):=by
 unfold KV at r ⊢;induction r with
 |nil=>show .nil
 |@cons p q ps qs h t ih=>
  rw[bZ,bZ];show .cons ?_ ih;let(h1,h2):=h;by_cases e:p.1=k
  .rw[?p e,?p (h1.symm.trans e)];show(h1,ry)
  .rw[?n e,?n (λz=>e (h1.trans z))];show(h1,h2)
def KV.put(r:KV bw vs)(k:κ)(ry:RelV y u):KV (putK bw k y) (stored vs k u):=by
 unfold putK stored;rw[r.any k];by_cases e:(vs.any λkv=>decide (kv.1=k))=ξ
 .rw[?p e,?p e];show r.WE k ry
 .rw[?n e,?n e];show Paired.snoc r (@r,ry)
def KV.length(r:KV bw vs):↑bw=↑vs:=kE r
end
variable{P:bu}{w:bU}{u:ai}
def AS{k:Key}(r:RelV (kV k) u):(eE P w).is k u=ξ:=by
 cases k with
 |inl i=>let(t,e):=(show ∃t,u=yZ i t from r);subst e;show GO P w i t
 |inr x=>let(t,e):=(show ∃t,u=y9 x t from r);subst e;show GP P w x t
def D6{P:bu}{w:bU}:∀{ks:?L Key}{us:?L ai},dD (ks.map kV) us->ItemsAre (eE P w) ks us
 |[],_,r=>by rw[ke]at r;cases r;show .nil
 |k::ks,_,r=>by
  rw[bZ]at r;cases r with
  |cons h t=>show .cons (AS h) (D6 t)
noncomputable abbrev KT(H:Hp):?L (?L Key×V)->?L (?L Key×af×ai)->?P:=Paired λp q=>p.1=q.1/\H q.2.1=θ (.tup<|p.1.map kV)/\RelV p.2 q.2.2
variable{H:Hp}{bw:?L (?L Key×V)}{xs:?L (?L Key×af×ai)}
def KT.val(r:KT H bw xs)(k:?L Key):vO (ja bw k) ((atKey xs k).map (·.2)):=by
 induction r with
 |nil=>show fg
 |@cons p q ps qs h t ih=>
  let(h1,_,h2):=h;by_cases e:p.1=k
  .have e':q.1=k:=h1.symm.trans e;have b:atKey (q::qs) k=θ q.2:=by simp[atKey,jB,e']
   rw[jP e,b];show h2
  .have e':¬q.1=k:=λz=>e (h1.trans z);have b:atKey (q::qs) k=atKey qs k:=by simp[atKey,jB,e']
   rw[jQ e,b];show ih
def KT.WE(r:KT H bw xs)(k:?L Key)(ry:RelV y u):
  KT H (bw.map λkv=>if kv.1=k then(kv.1,y,)else kv) (xs.map<|putAt k u):=by
 induction r with
 |nil=>show .nil
 |@cons p q ps qs h t ih=>
  rw[bZ,bZ];show .cons ?_ ih;let(h1,h2,h3):=h;unfold putAt;by_cases e:p.1=k
  .rw[?p e,?p (h1.symm.trans e)];show(h1,h2,ry)
  .rw[?n e,?n (λz=>e (h1.trans z))];show(h1,h2,h3)
variable{b:af}
def KT.put(r:KT H bw xs)(k:?L Key)(hb:H b=θ (.tup<|k.map kV))(ry:RelV y u):
  KT H (putK bw k y) (storedH xs k b u):=by
 have e:(bw.any λkv=>decide (kv.1=k))=(atKey xs k).isSome:=by
  rw[tV,(r.val k).yl,Option.isSome_map]
 unfold putK storedH;rw[e];by_cases q:(atKey xs k).isSome=ξ
 .rw[?p q,?p q];show r.WE k ry
 .rw[?n q,?n q];show Paired.snoc r (@r,hb,ry)
variable{H':Hp}
def KT.keeps(r:KT H bw xs)(ht:∀b ys,H b=θ (.tup ys)->H' b=θ (.tup ys)):KT H' bw xs:=
 Paired.Z7 r λ_ _ z=>(z.1,ht _ _ z.2.1,z.2.2)
section
variable {P:bu}{w:bU}{H:Hp}{h:cD}{a:af}
def UM{u:HO}(ok:pT P w H h)(e:Rd H a u):fP P w H h a u:=e.ok ok
def D7{bw:?L (Key×V)}(ok:pT P w H h)(e:Rd H a (.dK bw)):↑bw<=au/\(a==sysModules)=υ/\∃vs,KV bw vs/\h.DictOf (eE P w) a vs:=
 show fP P w H h a (.dK bw)from UM ok e
def OC{bw:?L (Key×V)}(ok:pT P w H h)(e:H a=θ (.dK bw)):↑bw<=au/\(a==sysModules)=υ/\∃vs,KV bw vs/\h.DictOf (eE P w) a vs:=D7 ok (.inl e)
def ym{ks:?L Key}(ok:pT P w H h)(e:H a=θ (.tup<|ks.map kV)):(tupleKind<|eE P w).is h ks a:=by
 let(_,cA,r,o,h1,h2,n,h3):=(show fP P w H h a (.tup<|ks.map kV)from ok a _ e);show(o,cA.toArray,n,h1,h2,h3,by simpa using D6 r)
def D8(ok:pT P w H h)(e:Rd H a @av):↑bw<=au/\(a==sysModules)=υ/\
  ∃xs,KT H bw xs/\h.DictOfH (tupleKind<|eE P w) a xs:=by
 let(z,y,xs,r,o,es,ep,h1,h2,h3,h4,h5):=(show fP P w H h a (.dT bw)from UM ok e);show(z,y,xs,r,o,es,ep,h1,h2,h3,h4,λx hx=>?_,h5);have all:∀{l:?L (?L Key×V)} {m:?L (?L Key×af×ai)},KT H l m->∀x∈m,(tupleKind<|eE P w).is h x.1 x.2.1:=by
  intro l m q;induction q with
  |nil=>intro x hx;show nomatch hx
  |@cons p q ps qs hq t ih=>
   intro x hx;rcases bg.mp hx with e|hx
   .subst e;show ym ok (by rw[<-hq.1];show hq.2.1)
   .show ih x hx
 show all r x hx
def UN(ok:pT P w H h)(e:H a=θ @av):↑bw<=au/\(a==sysModules)=υ/\
  ∃xs,KT H bw xs/\h.DictOfH (tupleKind<|eE P w) a xs:=D8 ok (.inl e)
end
abbrev tf(H:Hp)(a:af)(y:V)(r:?O V):?P:=
 (∃bw k,Rd H a (.dK bw)/\y=kV k/\r=ja bw k)\/∃bw k b,Rd H a @av/\y = .ref b/\H b=θ (.tup<|k.map kV)/\r=ja bw k
abbrev AU(H:Hp)(a:af)(y v:V)(H':Hp):?P:=
 (∃bw k,H a=θ (.dK bw)/\y=kV k/\↑bw<au/\H'=upd H a (.dK<|putK bw k v))\/
 ∃bw k b,H a=θ @av/\y = .ref b/\H b=θ (.tup<|k.map kV)/\↑bw<au/\H'=upd H a (.dT<|putK bw k v)
def tf.k{H:Hp}{a:af}{bw:?L (Key×V)}{k:Key}(e:H a=θ (.dK bw)):tf H a (kV k) (ja bw k):=.inl (bw,k,.inl e,@r,@r)
variable{a:af}
def tf.t{k:?L Key}(e:H a=θ @av)(eb:H b=θ (.tup<|k.map kV)):tf H a (.ref b) (ja bw k):=.inr (bw,k,b,.inl e,@r,eb,@r)
def AU.k{H:Hp}{a:af}{bw:?L (Key×V)}{k:Key}{v:V}(e:H a=θ (.dK bw))(hl:↑bw<au):AU H a (kV k) v (upd H a<|.dK<|putK bw k v):=.inl (bw,k,e,@r,hl,@r)
variable{v:V}
def AU.t{k:?L Key}(e:H a=θ @av)(eb:H b=θ (.tup<|k.map kV))(hl:↑bw<au):
  AU H a (.ref b) v (upd H a<|.dT<|putK bw k v):=.inr (bw,k,b,e,@r,eb,hl,@r)
section
variable {X:Cx}{π:?L @u}{σ:St}{H:Hp}{s:ao}{a:af}{y v:V}{u r:ai}{o:?O V}{A:cy}{E:ai->ao->?P}
def Inv.zq(I:Inv X π σ H s):sysModules<↥s:=by
 have h:bH<↥s:=(I.mod.glob.keeps I.bk).lt;show zd @d h
variable{Q:ai->ao->?P}
def MA(hu:A.units+1<cLine)(I:Inv X π σ H s)(g:tf H a y (θ v))(ry:RelV y u)(h:∀w' s',Inv X π σ H s'->RelV v w'->Q w' s'):
  aU ⇑X A (getItem @x u) Q E s:=by
 rcases g with⟨bw,k,e,ey,l⟩|⟨bw,k,b,e,ey,eb,l⟩
 .subst ey;let(z,hd,vs,rel,dd):=D7 I.eD e;let(w',hw,Ow):=vO.some_of (v:=v) (o:=valueAt vs k) (by rw[l];show rel.val k);show wpAny_getItem_of (AS ry) dd.mapOf hw (h w' _ (I.tok _) Ow)
 .subst ey;cases(show u=cv b from ry);let(z,hd,xs,rel,dd):=D8 I.eD e;let(w',hw,Ow):=vO.some_of (v:=v) (o:=(atKey xs k).map (·.2)) (by rw[l];show rel.val k);let(p,hp,EX):=lP.mp hw;show wpAny_getItem_heap (tupleKind_room_in1 hu) (ym I.eD eb) dd hp ?_;rw[EX];show h w' _ (I.tok _) Ow
def SR(hu:A.units+1<cLine)(I:Inv X π σ H s)(g:tf H a y o)(ry:RelV y u)(h:∀s',Inv X π σ H s'->Q (.bool<|!o.isSome) s'):
  aU ⇑X A (compareOp .NotIn u @x) Q E s:=by
 rcases g with⟨bw,k,e,ey,l⟩|⟨bw,k,b,e,ey,eb,l⟩
 .subst ey;let(z,hd,vs,rel,dd):=D7 I.eD e;show wpAny_notIn_of (AS ry) hd dd.mapOf ?_;rw[<-(rel.val k).yl,<-l];show h _ (I.tok _)
 .subst ey;cases(show u=cv b from ry);let(z,hd,xs,rel,dd):=D8 I.eD e;show wpAny_notIn_heap (tupleKind_room_in1 hu) (ym I.eD eb) hd dd ?_;have q:=(rel.val k).yl;rw[Option.isSome_map]at q;rw[<-q,<-l];show h _ (I.tok _)
variable{h':cD}{t':?N}
def Af{ob:HO}(I:Inv X π σ H s)(mu:Z8 (H a))(hs:iJ a s.heap h')(he:∃q,h'.get? a=θ q)(new:fP X.prog X.w (upd H a ob) h' a ob):
  Inv X π σ (upd H a ob) {s with heap:=h',toks:=t'}:=
 I.write (x:=a) (e:=a) mu @i (λb q hb z=>(hs.2 b hb).trans z) he new
def EY{bw:?L (Key×V)}{vs:?L (Key×ai)}(z:↑bw<=au)(hd:(a==sysModules)=υ)(rel:KV bw vs)(dd:h'.DictOf (eE P w) a vs):
  fP P w H' h' a (.dK bw):=(z,hd,vs,rel,dd)
def MB{Q:Unit->ao->?P}(hu:A.units+1<cLine)(I:Inv X π σ H s)(g:AU H a y v H')(ry:RelV y u)(rv:RelV v r)(h:∀s',Inv X π σ H' s'->Q () s'):
  aU ⇑X A (setItem @x u r) Q E s:=by
 rcases g with⟨bw,k,e,ey,l,eH⟩|⟨bw,k,b,e,ey,eb,l,eH⟩
 .ext;subst ey eH;let(z,hd,vs,rel,dd):=OC I.eD e;ext;have hz:↑vs<=au:=by rw[<-rel.length];show z
  have hl:(putK bw k v).length<=au:=by have:=i0 bw k v;omega
  show wpAny_setItem_pairs (hsz:=hz) (AS ry) dd λh' SS hs=>h _ ?_;have he:∃q,h'.get? a=θ q:=(by let(q,_,_,hq,_):=SS;show (q,hq));show Af I (by rw[e];show fg) hs he (EY hl hd (rel.put k rv) SS)
 .ext;subst ey eH;cases(show u=cv b from ry);let(z,hd,xs,rel,dd):=UN I.eD e;ext;have hz:↑xs<=au:=by rw[<-kE rel];show z
  have hl:(putK bw k v).length<=au:=by have:=i0 bw k v;omega
  show wpAny_setItem_heap (hsz:=hz) (tupleKind_room_in1 hu) (ym I.eD eb) dd λh' SS hs=>h _ ?_;ext;let(q,es,ep,hq,h2,h3,h4,_,h5):=SS;ext;show Af I (by rw[e];show fg) hs (q,hq) (hl,hd,_,(rel.put k eb rv).keeps λc ys ec=>?_,q,es,ep,hq,h2,h3,h4,h5);rw[be (tJ ec e @n)];show ec
end
abbrev WG(i:bR):?P:=∀ov iv,subscripted i υ ov iv=operate [ov,iv] (getItem ov iv)
variable{prog:bu}{A:cy}{E Q:ai->ao->?P}{s:ao}{env:Env}{pos:Pos}{T:?S}
def SU{value slice:bR}{id:?S}(hl:typeLookup (.type T) "__getitem__"=pure (θ<|.builtin id))(hs:WG slice)(h:aU @v A (eval value env) (λo gn=>aU @v A (eval slice env) (λi wX=>wX.TypeIs o T/\aU @v A (getItem o i) Q E wX) E gn) E s):
  aU @v A (eval (.Subscript value slice pos) env) Q E s:=by
 show Subscript_ (cZ h (λo gn am4=>cZ am4 (λi wX WH=>?_) λ_ _ x=>x) λ_ _ x=>x);let(hT,WH):=WH;unfold subscriptTail;show ae ?_;rw[getitemInPython_of_ne hT.not_modules];show ae (mh hT hl ?_);have fin:aU @v A (subscripted slice υ o i) (λr Sz=>aU @v A (letTemporaryGo value o r >>= λ_=>pure r) Q E Sz) E wX:=by
  rw[hs o i];show wpAny_operating (cZ WH (λr Sz am5=>ae (wpAny_letTemporaryGo<|av am5)) λ_ _ x=>x)
 first
  |show av (ae fin)
  |show ae (av<|ae fin)
  |show ae fin
variable{X:Cx}{π:?L @u}{σ:St}{o:?O V}
def G2(I:Inv X π σ H s)(g:tf H a y o):s.TypeIs @x "dict":=by
 rcases g with⟨bw,k,e,_,_⟩|⟨bw,k,b,e,_,_,_⟩
 .let(_,_,vs,_,dd):=D7 I.eD e;show dd.typeIs
 .let(_,_,xs,_,dd):=D8 I.eD e;show dd.typeIs
abbrev UO(td ty:TE):TE:=λσ H Q=>td σ H λx H1=>ty σ H1 λy H2=>∃a v,x = .ref a/\tf H2 a y (θ v)/\Q v H2
abbrev SV(ty td:TE):TE:=λσ H Q=>ty σ H λy H1=>td σ H1 λx H2=>∃a o,x = .ref a/\tf H2 a y o/\Q (.bl<|!o.isSome) H2
abbrev ac2(td ty tv:TE):TS:=λD σ H=>tv σ H λv H1=>td σ H1 λx H2=>ty σ H2 λy H3=>∃a H4,x = .ref a/\AU H3 a y v H4/\D.nx σ H4
section
variable {X:Cx}{o i e value:bR}{pos pos' Oj:Pos}{td ty tv:TE}
def xi(hu:X.A.units+1<cLine)(ho:PE X o td)(hi:PE X i ty)(hs:WG i):PE X (.Subscript o i pos) (UO td ty):=by
 intro π s σ H Q I h;show SU PySem.F.slot_dict_getitem.lookup hs (gh (ho π s σ H _ I h) λu s1 ⟨x,H1,I1,rx,q1⟩=>gh (hi π s1 σ H1 _ I1 q1) λ iv s2  eg=>?_);let(y,H2,I2,ry,a,v,ex,g,q2):=eg;subst ex;obtain rfl:u=cv a:=rx;show(G2 I2 g,MA hu I2 g ry λw' s3 I3 Ow=>(v,H2,I3,Ow,q2))
def MD(hu:X.A.units+1<cLine)(hi:PE X i ty)(ho:PE X o td):PC X .NotIn i o (SV ty td):=by
 intro π s σ H Q I h;show gh (hi π s σ H _ I h) λiv s1 ⟨y,H1,I1,ry,q1⟩=>gh (ho π s1 σ H1 _ I1 q1) λ u s2  eg=>?_;let(x,H2,I2,rx,a,ov,ex,g,q2):=eg;subst ex;obtain rfl:u=cv a:=rx;show SR hu I2 g ry λs3 I3=>(.bl<|!ov.isSome,H2,I3,@r,q2)
def xj(hu:X.A.units+1<cLine)(ho:PE X o td)(hi:PE X i ty)(hv:PE X value tv)(hs:dS value (θ<|.Subscript o i pos') pos.line X.env=pure υ):
  PS X (.Assign [.Subscript o i pos'] value pos) (ac2 td ty tv):=by
 intro π s σ H D I h;show wpAny_Assign_Subscript (gh (hv π s σ H _ I h) λr s1 ⟨v,H1,I1,rv,q1⟩=>gh (ho π s1 σ H1 _ I1 q1) λu s2 ⟨x,H2,I2,rx,q2⟩=>gh (hi π s2 σ H2 _ I2 q2) λ iv s3  eg=>?_) hs;let(y,H3,I3,ry,a,H4,ex,g,q3):=eg;subst ex;obtain rfl:u=cv a:=rx;show MB hu I3 g ry rv λs4 I4=>(σ,H4,I4,q3)
end
def OD(h:cD)(hb:sysModules<h.objs.size):fP P w H (h.push {cls:=.type "dict",data:=.dict #[]}) h.objs.size (.dK []):=
 (cE _,beq_eq_false_iff_ne.mpr<|cp<|bz hb,[],.nil,GJ h)
def G3(h:cD)(hb:sysModules<h.objs.size):fP P w H (h.push {cls:=.type "dict",data:=.dict #[]}) h.objs.size (.dT []):=
 (cE _,beq_eq_false_iff_ne.mpr<|cp<|bz hb,[],.nil,_,#[],0,aQ _ @r,(@r,@r,@r),@r,@r,u7)
abbrev WI:TE:=λ_ H Q=>∀p,H p=ι->Q (.ref p) (upd H p<|.dT [])
section
variable {X:Cx}{pos:Pos}
def OE:PE X (.Dict [] [] pos) WI:=λπ s σ H Q I h=>
 wpAny_Dict_empty (.ref ↥s,_,I.laid (a:=↥s) (o:=.dT []) (t':=s.toks) (λ_ _ q=>ah _ q) @E<|G3 s.heap I.zq,@r,h _<|I.eD.fresh @E)
end
abbrev AV:?L (TE×TE)->St->Hp->(?L (V×V)->Hp->?P)->?P
 |[],_,H,Q=>Q [] H
 |(tk,tv)::r,σ,H,Q=>tk σ H λx H1=>tv σ H1 λy H2=>AV r σ H2 λps H3=>Q ((x,y,)::ps) H3
noncomputable abbrev VV:?L (V×V)->?L (ai×ai)->?P:=Paired λp q=>RelV p.1 q.1/\RelV p.2 q.2
abbrev ZD(X:Cx)(pos:Pos)(keys:?L (?O bR))(values:?L bR)(Jz:?L (TE×TE)):?P:=
 ∀(π:?L @u) (s:ao) (σ:St) (H:Hp) (Q:?L (V×V)->Hp->?P),Inv X π σ H s->AV Jz σ H Q->
  aU ⇑X X.A (evalPairs<|pairTrees keys values X.env pos) (λvs s'=>∃ps H',Inv X π σ H' s'/\VV ps vs/\Q ps H') X.xe s
def K9:ZD X pos [] [] []:=λπ s σ H Q I h=>pairTrees_nil_walk ([],H,I,.nil,h)
variable{tv:TE}{Jz:?L (TE×TE)}
def G4{k v:bR}{ks:?L (?O bR)}{vs:?L bR}{tk:TE}(hk:PE X k tk)(hv:PE X v tv)(hr:ZD X pos ks vs Jz):
  ZD X pos (θ k::ks) (v::vs) ((tk,tv,)::Jz):=λπ s σ H Q I h=>
 pairTrees_cons_walk (gh (hk π s σ H _ I h) (by rintro u s1 ⟨x,H1,I1,rx,q1⟩;show gh (hv π s1 σ H1 _ I1 q1) (by rintro w2 s2 ⟨y,H2,I2,ry,q2⟩;show gh (hr π s2 σ H2 _ I2 q2) (by rintro ws s3 ⟨ps,H3,I3,rel,q3⟩;show ((x,y,)::ps,H3,I3,.cons (rx,ry) rel,q3)))))
abbrev jR(bw more:?L (Key×V)):?L (Key×V):=more.foldl (λacc kv=>putK acc kv.1 kv.2) bw
def KV.merge:∀{more:?L (Key×V)} {rs:?L (Key×ai)} {bw:?L (Key×V)} {vs:?L (Key×ai)},KV more rs->KV bw vs->KV (jR bw more) (merged vs rs):=by
 intro more rs bw vs r;unfold KV at r;induction r generalizing bw vs with
 |nil=>intro q;show q
 |@cons p q ps qs h t ih=>
  intro r0;have e:KV (putK bw p.1 p.2) (stored vs q.1 q.2):=by
   have:=r0.put p.1 h.2;rw[<-h.1];show this
  show ih e
def qt:∀(more bw:?L (Key×V)),(jR bw more).length<=↑bw + ↑more
 |[],bw=>by change ↑bw<=↑bw+0;omega
 |p::r,bw=>by
  have h1:=qt r (putK bw p.1 p.2);have h2:=i0 bw p.1 p.2;show(jR (putK bw p.1 p.2) r).length<=_;rw[aF];omega
def AW{P:bu}{w:bU}:∀{bw:?L (Key×V)} {ws:?L (ai×ai)},VV (bw.map λkv=>(kV kv.1,kv.2,)) ws->∃rs,Carries (eE P w) ws rs/\KV bw rs
 |[],_,r=>by rw[ke]at r;cases r;show([],fg,.nil)
 |p::bw,_,r=>by
  rw[bZ]at r;cases r with
  |@cons a b as bs h t=>
   let(rs,c,q):=AW (P:=P) (w:=w) t;let(b1,b2):=b;show((p.1,b2,)::rs,(AS h.1,@r,c),.cons (@r,h.2) q)
abbrev ac3(Jz:?L (TE×TE)):TE:=λσ H Q=>∀p,H p=ι->AV Jz σ (upd H p<|.dK []) λps H2=>H2 p=θ (.dK [])/\∃bw:?L (Key×V),ps=bw.map (λkv=>(kV kv.1,kv.2,))/\↑bw<=15/\Q (.ref p) (upd H2 p<|.dK<|jR [] bw)
variable{keys:?L (?O bR)}{values:?L bR}
def SW(h:ZD X pos keys values Jz)(AX:keys.all (·.isSome)=ξ)(hl:↑keys=↑values)(h0:keys≠[])(h15:↑keys<=15):PE X (.Dict keys values pos) (ac3 Jz):=by
 intro π s σ H Q I q;have hn:=I.eD.fresh (aj ↥s);have I1:=I.laid (a:=↥s) (o:=.dK []) (h':=s.heap.push {cls:=.type "dict",data:=.dict #[]}) (t':=s.toks) (λ_ _ q=>ah _ q) @E (OD s.heap I.zq);show wpAny_Dict_walk (knd:=eE X.prog X.w) AX hl h0 h15 (gh (h π _ σ _ _ I1<|q _ hn) λ ws s2  eg=>?_);ext;let(ps,H2,I2,rel,e,bw,ep,lk,q2):=eg;subst ep;let(rs,c,rk):=AW (P:=X.prog) (w:=X.w) rel;let(z,hd,vs0,r0,dd):=OC I2.eD e;cases r0;ext;show(rs,c,dd,λh' SS hs=>(.ref ↥s,_,?_,@r,q2));have hz:(jR [] bw).length<=au:=by
  have h1:=qt bw [];rw[iI]at h1;rw[dC];omega
 have he:∃q,h'.get? ↥s=θ q:=(by let(q,_,_,hq,_):=SS;show (q,hq));show Af I2 (by rw[e];show fg) hs he (EY hz hd (rk.merge .nil) SS)
structure M2(X:Cx)(o:bR)(m:χ)(apos:Pos)(e f:bR)(cU:Pos):?P where
 base:dF o m X.env (eval o X.env)=eval o X.env
 few:((dh cU<|aq [e,f] X.env).all (λx=>!x.1)&&(rD cU<|kR [] X.env).all (λx=>x.1.isSome)
  && decide (([e,f]:?L bR).length + ([]:?L iX).length + @ao<30))=ξ
 line:@M=ξ
 trees:dh cU (aq [e,f] X.env)=[@c,(υ,eval f X.env,)]
abbrev IsD(H:Hp)(a:af):?P:=(∃bw,Rd H a<|.dK bw)\/∃bw,Rd H a @av
def OF(I:Inv X π σ H s)(d:IsD H a):
  s.TypeIs @x "dict"/\(∀b,cv a = .ref b->∃ob,s.heap.get? b=θ ob/\ob.dict=ι)/\(a==sysModules)=υ:=by
 rcases d with⟨bw,e⟩|⟨bw,e⟩
 .let(_,hd,vs,_,dd):=D7 I.eD e;show(dd.typeIs,λb q=>?_,hd);cases q;let(ob,_,_,h1,h2,_):=dd;show(ob,h1,h2.2.1)
 .let(_,hd,xs,_,dd):=D8 I.eD e;show(dd.typeIs,λb q=>?_,hd);cases q;let(ob,_,_,h1,h2,_):=dd;show(ob,h1,h2.2.1)
section
variable {X:Cx}{π:?L @u}{σ:St}{H:Hp}{s:ao}{a:af}{y d:V}{u r:ai}{o:?O V}{A:cy}{E:ai->ao->?P}
def WJ(hu:A.units+1<cLine)(I:Inv X π σ H s)(g:tf H a y o)(ry:RelV y u)(rd:RelV d r)(h:∀w' s',Inv X π σ H s'->RelV (o.getD d) w'->Q w' s'):
  aU ⇑X A (call (.builtin "dict.get") [.ref a,u,r]) Q E s:=by
 rcases g with⟨bw,k,e,ey,l⟩|⟨bw,k,b,e,ey,eb,l⟩
 .subst ey;let(z,hd,vs,rel,dd):=D7 I.eD e;show call_meetsIn sR dd.typeIs Du (C3 _ _ _) (meets_dict_get_default (eE X.prog X.w) a (AS ry) hd r) (_,dd.mapOf,h _ _ (I.tok _) ?_);rw[l];show(rel.val k).getD rd
 .subst ey;cases(show u=cv b from ry);let(z,hd,xs,rel,dd):=D8 I.eD e;show call_meetsIn sR dd.typeIs Du (C3 _ _ _) (meetsH_dict_get_default (tupleKind<|eE X.prog X.w) a b hd r) (tupleKind_room_in1 hu,k,xs,ym I.eD eb,dd,h _ _ (I.tok _) ?_);rw[l];show(rel.val k).getD rd
end
abbrev WK(td ty tx:TE):TE:=λσ H Q=>td σ H λx H1=>∃a,x = .ref a/\IsD H1 a/\ty σ H1 λy H2=>tx σ H2 λz H3=>∃o,tf H3 a y o/\Q (o.getD z) H3
section
variable {X:Cx}{o e f:bR}{apos cU:Pos}{td ty tx:TE}
def OG(hu:X.A.units+1<cLine)(ho:PE X o td)(he:PE X e ty)(hf:PE X f tx)(m:M2 X o "get" apos e f cU):PE X (.Call (.Attribute o "get" apos) [e,f] [] cU) (WK td ty tx):=by
 intro π s σ H Q I h;show wpAny_Call_method m.base m.few m.line C4 sR PySem.F.type_dict_get (gh (ho π s σ H _ I h) λ u s1  eg=>?_);let(x,H1,I1,rx,a,ex,d,q1):=eg;subst ex;obtain rfl:u=cv a:=rx;let(t1,t2,_):=OF I1 d;show(t1,t2,?_);rw[m.trees]
 show sQ @r (uK (jj (gh (he π s1 σ H1 _ I1 q1) λiv s2 ⟨y,H2,I2,ry,q2⟩=>
  jj (gh (hf π s2 σ H2 _ I2 q2) λfv s3 ⟨z,H3,I3,rz,ov,g,q3⟩=>qp ?_))))
 show WJ hu I3 g ry rz λw' s4 I4 Ow=>(_,H3,I4,Ow,q3)
end
end _L
namespace _A
open PySem.W PySem.Calls PyProof.Rows
variable{h:cD}
def zO{P:Params}:∀(ns:?L ?I)(vs:?L ai),WellAll P h vs (ns.map WData.int)->IntsAre vs ns:=by
 intro ns;induction ns with
 |nil=>
  intro vs w;rw[ke]at w;cases w;show .nil
 |cons n ns ih=>
  intro vs w;rw[bZ]at w;cases w with
  |cons a b=>
   cases a;show .cons _ _ (ih _ b)
variable{l:OpenLaw}{n:?N}
def ME(hn:l.most=θ n){P:Params}{args:?L WData}{vals:?L ai}(SX:l.row.toRowW.claim.pre args=ξ)(WM:WellAll P h vals args):
  ∃a vs ns,vals=[cv a]/\args=[WData.list (ns.map WData.int)]/\h.get? a=θ {cls:=.type "list",data:=.seq vs.toArray}/\IntsAre vs ns/\↑ns<=n:=by
 have hsh:WShape.hasAll [] args [.list .int]=ξ:=(pre_splitW SX).1;have hc:l.pre.holds [] {args:=args}=ξ:=(pre_splitW SX).2;let(d,r,rfl,h1,h2):=hasAllW_cons hsh;obtain rfl:=hasAllW_nil h2;let(xs,rfl,h3):=hasW_list h1;let(ns,rfl):=items_int h3;have hlen:↑ns<=n:=by
  unfold OpenLaw.pre at hc;have h4:(WTm.not<|.lt (.lit<|.int (n:?I))<|.len<|.arg 0).holds [] {args:=[.list (ns.map .int)]}=ξ:=by
   have h4:=(holds_andW hc).1;rw[hn]at h4;show h4
  have h5:=condW_of h4 (w_not<|w_lt w_lit<|w_len_list<|w_arg @r);rw[aP]at h5;show zW λq=>?_;have q':(n:?I)<((↑ns:?N):?I):=by omega
  first
   |(rw[?t q']at h5;show ?A h5 @d)
   |(simp at h5;omega)
 cases WM with
 |cons w1 w2=>
  cases w2;cases w1 with
  |list ho AX=>show(_,_,ns,@r,@r,ho,zO ns _ AX,hlen)
def MF(l:OpenLaw)(args:?L WData):l.row.toRowW.claim.post args (.bool ξ) args=ξ:=
 postW_of (r:=l.row.toRowW) (X:=(ξ==ξ))
  (show WShape.has [] (.bool ξ) .bool=ξ by first|rfl|decide|simp[WShape.has,WShape.arms,WShape.armsAll])
  (show(WTm.eq .res<|.lit<|.bool ξ).value [] {args:=args,res:=θ (.bool ξ),after:=args}=θ (.bool<|ξ==ξ)from w_eq_bool (w_res @r) w_lit) @r
variable{loose:?L χ}{XP:(χ->?O ai)->cD->?P}{YP:bU->cD->?P}{d:DefRec}
def G5{q:bu}(hn:l.most=θ n)(hdf:d.params.defaults=[])(call:∀(w:bU)(kJ gn:ao)(mg mb:χ->?O ai)(fa:af)(o:Obj)(pm cd doc:ai)(a:af) (vs:?L ai) (ns:?L ?I),
   Ground q loose [] XP w kJ mg mb gn.heap->YP w gn.heap->
   gn.heap.get? fa=θ o->o.data = .func (docDef d.name d.params d.body d.scope pm cd doc)->gn.heap.CodeRec cd d.name->mg d.name=θ (.ref fa)->
   gn.heap.get? a=θ {cls:=.type "list",data:=.seq vs.toArray}->IntsAre vs ns->↑ns<=n->gn.gens=#[]->
   codeAny (model l.prog w) callerA (.call (.ref fa) ([.ref a],[])) (λr s'=>r = .ok (.ret<|.bool ξ)/\OldK gn.heap s'.heap/\s'.os=gn.os/\AllBare s'.gens) gn):
  WalkO q loose XP YP l.row.toRowW d [] (λf vs=>PySem.call f vs):=by
 intro w kJ gn mg mb G Y fa o pm cd doc dV kV ho hd pU hD WN hg args vals as SX ar2 hrd WM hlo;obtain rfl:dV = .none:=Dflts.none hD hdf;obtain rfl:kV = .none:=Dflts.noKw hD;let(a,vs,ns,rfl,rfl,WO,hints,hlen):=ME hn SX WM;show enter_call (codeAny_mono (call w kJ gn mg mb fa o pm cd doc a vs ns G Y ho (fd_plain hd) pU WN WO hints hlen hg) λr s' hq=>?_);let(rfl,h2,h3,h4):=hq;show(.inl (.bool ξ,.bool ξ,[],@r,λ_=>rfl,.bool ξ,MF l _,λ_=>(List.Pairwise.nil,λ_ hm=>(nomatch hm))),h2,h3,h4)
end _A
namespace _L
open PyProof.Rows
def MH:∀{vs:?L ai}{ns:?L ?I},IntsAre vs ns->dD (ns.map V.int) vs:=by
 intro vs ns h;induction h with
 |nil=>show .nil
 |cons n t h ih=>show .cons (t,@r) ih
abbrev OH(H:Hp):?P:=∀b,H b=ι\/∃o xs,H b=θ (.kg o @aj)
variable{P:bu}{w:bU}{K:aa}{mg:χ->?O ai}{CX:Mw}{k:?N}{fa a:af}{fd:aV}{x:χ}{ns:?L ?I}
def OI{mb:χ->?O ai}{sp:Sp}{gn:ao}{vs:?L ai}(KX:K.In gn.heap)(MI:gn.heap.Ns bH mg)(hb:gn.heap.Ns builtinsNs mb)(hbb:∀x:χ,x≠"__name__"->mb x=bootBuiltins x)(am6:gn.heap.NoLimit)(hg:gn.gens=#[])(ha:gn.heap.get? a=θ {cls:=.type "list",data:=.seq vs.toArray})(hi:IntsAre vs ns)(hl:↑ns<=au)(hr:gp k callerA)(F:∀base:cD,K.In base->base.Ns bH mg->c8 P w K mg base CX k fa fd [x] sp)(ac4:∀(s:ao)(u:ai),BindsTo s fd ([u],[]) [(x,u,)])(Se:∀H:Hp,OH H->gF K H a (ns.map V.int)->sp [.ref a] H (λv _=>v = .bl ξ) λ_ _ _=>?X)(hCX:∀H e s',CX [] H gn (λ_ _ _=>?X) e s'->?X):
  codeAny (model P w) callerA (.call (.ref fa) ([.ref a],[])) (λr s'=>r = .ok (.ret<|.bool ξ)/\OldK gn.heap s'.heap/\s'.os=gn.os/\AllBare s'.gens) gn:=by
 have rv:=MH hi;have am7:=↑hi;have core:∀H:Hp,OH H->gF K H a (ns.map V.int)->pT P w H gn.heap->(∀b,H b≠ι->b=a)->(H a≠ι->K.lookup a=ι)->
   codeAny (model P w) callerA (.call (.ref fa) ([.ref a],[])) (λr s'=>r = .ok (.ret<|.bool ξ)/\OldK gn.heap s'.heap/\s'.os=gn.os/\AllBare s'.gens) gn:=by
  intro H hO hS eD hA hK;have La:∀{b:af}{o:Obj},gn.heap.get? b=θ o->H b=ι->(EL gn.heap H).get? b=θ o:=λe n=>N0 e n;have noA:∀{b:af}{o:Obj}{es:?R DictEntry}{ep:?N},gn.heap.get? b=θ o->o.data = .dict es ep->H b=ι:=λ{b o es ep} e d=>by
   cases q:H b with
   |none=>rfl
   |some u=>
    have e':b=a:=hA b (by rw[q];simp);subst e';rw[ha]at e;cases e;have d':Data.seq vs.toArray _=Data.dict es ep:=d;cases d'
  have nsK:∀{b:af}{m:χ->?O ai},gn.heap.Ns b m->(EL gn.heap H).Ns b m:=λ{b m} ⟨o,es,ep,e,d,r⟩=>(o,es,ep,La e<|noA e d,d,r)
  have hKb:K.In (EL gn.heap H):=λb o e=>La (KX b o e) (by
   cases q:H b with
   |none=>rfl
   |some u=>
    have e':b=a:=hA b (by rw[q];simp);subst e'
    rw[hK (by rw[q];simp)]at e;cases e)
  have hM:Mod K mg (EL gn.heap H):=(hKb,nsK MI,(mb,nsK hb,hbb),(by let(mc,h1,h2):=am6;show (mc,nsK h1,h2)));have e0:Dc P w K mg (EL gn.heap H) callerA [] gn H:=(@r,hM,λb o e=>Sw e,Nat.le_of_eq<|Mp _ _,trivial,λb hb=>?A (show b∈([]:?L af)from hb) @s,eD,.of_eq hg);show codeAny_mono ((F _ hKb<|nsK MI).run callerA [] gn H ([.ref a],[]) [.ref a] [.ref a] _ _ hr e0 (ac4 gn @x) (.cons @r .nil) (Se H hO hS)) λr s' h=>?_;cases r with
  |error e=>show(hCX H e s' h).elim
  |ok fl=>
   cases fl with
   |next=>show fH h
   |brk=>show fH h
   |cont=>show fH h
   |ret u=>
    ext;let(v,H',os,bare,un,am8,r',q):=h;have q':v = .bl ξ:=q;subst q';obtain rfl:u=CO ξ:=r';ext;show(@r,OldK.of_keep λb o e=>?_,os,bare);cases q:H b with
    |none=>show un.keep b o e q (by intro z;show ?A (show b∈([]:?L af)from z) @s) @s
    |some u=>
     rcases hO b with z|⟨ob,xs,z⟩
     .rw[q]at z;cases z
     .have z2:=un.tL b ob _ z;let(e1,_):=eD b _ z;let(e2,_):=am8 b _ z2;rw[e]at e1;cases e1;show e2
 cases hk:K.lookup a with
 |some o=>
  have e:=KX a o hk;rw[ha]at e;cases e;show core (λ_=>ι) (λ_=>.inl @r) (.inr (_,vs.toArray,_,hk,@r,@r,@r,by rw[aI,am7];show hl,by simpa using rv)) (λb u z=>by have z':(ι:?O HO)=θ u:=z;cases z') (λb z=>?A @r z) λz=>?A @r z
 |none=>
  show core (λb=>if b=a then θ (.kg {cls:=.type "list",data:=.seq vs.toArray} (.lst<|ns.map V.int))else ι) (λb=>?_) (.inl<|.inr ({cls:=.type "list",data:=.seq vs.toArray},?p @r)) (λb u z=>?_) (λb z=>?_) λ_=>hk
  .by_cases hb:b=a
   .show .inr (_,_,?p hb)
   .show .inl (?n hb)
  .by_cases hb:b=a
   .have z':=(?p hb).symm.trans z;cases z';subst hb;show(ha,by rw[aP];show hl,vs,_,rv,ha)
   .have z':=(?n hb).symm.trans z;cases z'
  .by_cases hb:b=a
   .show hb
   .show ?A (?n hb) z
variable{n:?N}{loose:?L χ}{XP:(χ->?O ai)->cD->?P}{YP:bU->cD->?P}{d:DefRec}
def SY{l:ze}{q:bu}{K:Params->aa}{CX:bU->Mw}{sp:bU->Sp}(hn:l.most=θ n)(NO:n<=au)(hdf:d.params.defaults=[])(hr:gp k callerA)(hY:∀(w:bU)(h:cD),YP w h->(K w.params).In h)(F:∀(w:bU)(mg:χ->?O ai)(fa:af)(h:cD),(K w.params).In h->h.Ns bH mg->mg d.name=θ (.ref fa)->
   ∃fd:aV,(∀(s:ao)(u:ai),BindsTo s fd ([u],[]) [(x,u,)])/\
    ∀base:cD,(K w.params).In base->base.Ns bH mg->c8 l.prog w (K w.params) mg base (CX w) k fa fd [x] (sp w))(Se:∀(w:bU)(H:Hp)(a:af)(ns:?L ?I),ns.length<=n->OH H->gF (K w.params) H a (ns.map V.int)->sp w [.ref a] H (λv _=>v = .bl ξ) λ_ _ _=>?X)(hCX:∀(w:bU)(H:Hp)(s:ao)(e:ai)(s':ao),CX w [] H s (λ_ _ _=>?X) e s'->?X):
  PySem.W.WalkO q loose XP YP l.row.toRowW d [] (λf vs=>PySem.call f vs):=by
 show _A.G5 hn hdf λw kJ gn mg mb fa o pm cd doc a vs ns G Y ho hd pU WN WO hints hlen hg=>?_;have KX:=hY w _ Y;let(fd,hb,hF):=F w mg fa _ KX G.T.g WN;show OI KX G.T.g G.T.b G.T.builtins G.T.nolimit hg WO hints (bD hlen NO) hr hF hb (λH hO hS=>Se w H a ns hlen hO hS) λH e s'=>hCX w H gn e s'
abbrev inClass(s:cz)(j:?N):cz:=match s with
 |.ClassDef _ _ _ body _ _ _ _ _ _ _=>body.getD j (.Pass (0,0,0,0))
 |_=>.Pass (0,0,0,0)
abbrev iB(s:cz):Arguments:=match s with
 |.FunctionDef _ a _ _ _ _ _ _ _ _=>a
 |_=>{posonlyargs:=[],args:=[],vararg:=ι,kwonlyargs:=[],kw_defaults:=[],kwarg:=ι,defaults:=[]}
abbrev dE(s:cz):?L cz:=match s with
 |.FunctionDef _ _ b _ _ _ _ _ _ _=>b
 |_=>[]
abbrev az(s:cz):Scope:=match s with
 |.FunctionDef _ _ _ _ _ _ sc _ _ _=>sc
 |_=>{kind:=.function,names:=[],isGenerator:=υ,isCoroutine:=υ}
noncomputable abbrev kD:Mw:=λ_ _ _ _ _ _=>?X
noncomputable abbrev E0:XK:=λ_ _ _=>?X
variable{X:Cx}
def Lc:vS kD X E0:=λ_ _ _ _ _ _ _ h=>h.elim
structure iP(K:aa)(x qual:χ)(st:cz)(f:af)(fd:aV):?P where
 ex:∃(oc:ai)(od:?O af)(kV doc pm:ai)(an:?O af)(ez ct:ai) (SH:?R (?O ai)),
  fd=dv x qual (iB st) (dE st) (az st) .none kV doc pm an ez ct/\K.lookup f=θ (oc,od,.func fd,SH)/\gZ K ez qual=ξ
 kp:cW K (.ref f)=ξ
section
variable {P:bu}{w:bU}{K:aa}{mg:χ->?O ai}{base:cD}
variable{qual:χ}{f:af}{N ps:?L χ}
def iP.ok{st:cz}{sp:Sp}(F:iP K x qual st f fd)(S:bO N ps (az st))(len:∀vs H Q E,sp vs H Q E->↑vs=↑ps)(nA:∀(ez:ai)(A:cy)(outer:?L Env)(s:ao)(H:Hp)(vs:?L V)(Q:VK) (E:XK),gp k (A.deeper<|envOfC qual (az st) ↥s f ez)->sp vs H Q E->
   ∃t,vP (qS kD P w K mg base N qual (az st) f ez A outer s H E).N5 (dE st) t/\t {nx:=λ_ H'=>Q .fB H',rt:=Q} (start N vs) H):c8 P w K mg base kD (k+1) f fd ps sp:=by
 let(oc,od,kV,doc,pm,an,ez,ct,SH,rfl,lk,pU):=F.ex;show UJ lk pU S len λA outer s H vs Q E hr Se=>?_;let(t,h,q):=nA ez A outer s H vs Q E hr Se;show(t,h.N5,q)
def iP.binds{st:cz}(F:iP K x qual st f fd)(h:∀(kV doc pm:ai)(an:?O af)(ez ct:ai)(us:?L ai),us.length=↑ps->bindArgs (dv x qual (iB st) (dE st) (az st) .none kV doc pm an ez ct) (us,[])=pure (ps.zip us)):Binds K fd ps []:=by
 let(oc,od,kV,doc,pm,an,ez,ct,SH,rfl,lk,pU):=F.ex;show .all (h kV doc pm an ez ct)
variable{oc doc pm ez ct:ai}{od an:?O af}{SH:?R (?O ai)}
def vT{st:cz}{kV:ai}(l:K.lookup f=θ (oc,od,.func<|dv x qual (iB st) (dE st) (az st) .none kV doc pm an ez ct,SH))(c:gZ K ez qual=ξ)(k:cW K (.ref f)=ξ):iP K x qual st f (dv x qual (iB st) (dE st) (az st) .none kV doc pm an ez ct):=((oc,od,kV,doc,pm,an,ez,ct,SH,@r,l,c),k)
end
variable{A:cy}
def G6(hr:gp k A):A.units+1<cLine:=bL (Nat.add_le_add_left (by decide:1<=64) _) hr.units
def lF(h:n<=1000):n<au:=bL h @d
section
variable {X:Cx}
variable{pos:Pos}
def pv(i:?N)(hN:X.N[i]?=θ x:=by rfl)(hv:zN X.env.scope x:=by first|show bB @r|show cF @A|show cF (cF @r))(hd:(x==("__debug__":χ))=υ:=by decide)(pU:(x==("__classdict__":χ))=υ:=by decide):PE X (.Name x pos) (Jf i):=jD hN hv hd pU
end
variable{B:?P}
def nP{A:?P}(h:B):if υ=ξ then A else B:=by
 rw[?n bj];show h
def rO{A:?P}(h:A):if ξ=ξ then A else B:=by
 rw[?p @r];show h
def tW{c A:?P}[Decidable c](h1:c->A)(h2:¬c->B):if c then A else B:=by
 by_cases h:c
 .rw[?p h];show h1 h
 .rw[?n h];show h2 h
abbrev bM(H H':Hp):?P:=∀b o,H b=θ o->H' b=θ o
def bM.refl(H:Hp):bM H H:=λ_ _ h=>h
variable{H H1 H2:Hp}
def bM.trans(a:bM H H1)(b:bM H1 H2):bM H H2:=λc o h=>b c o (a c o h)
variable{H':Hp}{l:af}
def bM.free(e:bM H H')(h:H' l=Option.none):H l=Option.none:=by
 cases q:H l with
 |none=>rfl
 |some o=>
  rw[e l o q]at h;cases h
variable{xs:?L V}
def bM.seq(e:bM H H')(h:gF K H a xs):gF K H' a xs:=by
 rcases h with(h|⟨o,h⟩)|h
 .show .inl (.inl<|e _ _ h)
 .show .inl (.inr (o,e _ _ h))
 .show .inr h
mutual
noncomputable def gJ:ak->?B
 |.tuple xs=>fc xs
 |.list xs=>fc xs
 |.dict _=>υ
 |_=>ξ
noncomputable def fc:?L ak->?B
 |[]=>ξ
 |x::xs=>gJ x&&fc xs
end
end _L
namespace _W
noncomputable abbrev KD:={d:ak // _L.gJ d=ξ}
inductive MT where
 |num (i:?I)|truth (b:?B)|nil (k:KD)|name (x:χ)|lam (x:χ) (k:KD) (b:MT)
 |add (a b:MT)|less (a b:MT)|front (a b:MT)|call (a b:MT)|cond (a b c:MT)|case (k:KD) (h t:χ) (a b c:MT)
inductive MV where
 |int (i:?I)|bool (b:?B)|chain (xs:?L MV)|dM (x:χ) (b:MT) (ρ:?L (χ×MV))
noncomputable abbrev MR:=?L (χ×MV)
abbrev MR.get(x:χ):MR->?O MV
 |[]=>ι
 |(y,v)::r=>if y=x then θ v else MR.get x r
inductive Task where
 |gY (e:MT) (ρ:MR)|fin (e:MT) (ρ:MR)
inductive Res where
 |val (v:MV)|stuck|oW
structure MS where
 w:?L Task
 d:?L MV
 n:?N
abbrev lQ(e:MT)(ρ:MR)(w:?L Task)(d:?L MV)(n:?N):MS ⊕ Res:=match e with
 |.num i=>.inl (w,.int i::d,n)
 |.truth b=>.inl (w,.bool b::d,n)
 |.nil _=>.inl (w,.chain []::d,n)
 |.name x=>match ρ.get x with
  |some v=>.inl (w,v::d,n)
  |none=>.inr .stuck
 |.lam x _ b=>.inl (w,.dM x b ρ::d,n)
 |.add a b=>.inl (.gY a ρ :: .gY b ρ :: .fin e ρ::w,d,n)
 |.less a b=>.inl (.gY a ρ :: .gY b ρ :: .fin e ρ::w,d,n)
 |.front a b=>.inl (.gY a ρ :: .gY b ρ :: .fin e ρ::w,d,n)
 |.call a b=>.inl (.gY a ρ :: .gY b ρ :: .fin e ρ::w,d,n)
 |.cond a _ _=>.inl (.gY a ρ :: .fin e ρ::w,d,n)
 |.case _ _ _ a _ _=>.inl (.gY a ρ :: .fin e ρ::w,d,n)
abbrev rP(e:MT)(ρ:MR)(l:MV)(w:?L Task)(d:?L MV)(n:?N):MS ⊕ Res:=match e with
 |.cond _ b c=>match l with
  |.bool ξ=>.inl (.gY b ρ::w,d,n)
  |.bool υ=>.inl (.gY c ρ::w,d,n)
  |_=>.inr .stuck
 |.case _ h t _ b c=>match l with
  |.chain []=>.inl (.gY b ρ::w,d,n)
  |.chain (x::xs)=>.inl (.gY c ((t,.chain xs,)::(h,x,)::ρ)::w,d,n)
  |_=>.inr .stuck
 |.call _ _=>match d with
  |.dM x b dI::d=>.inl (.gY b ((x,l,)::dI)::w,d,n)
  |_=>.inr .stuck
 |.front _ _=>match d,l with
  |m::d,.chain xs=>.inl (w,.chain (m::xs)::d,n)
  |_,_=>.inr .stuck
 |.add _ _=>match d,l with
  |.int i::d,.int j=>.inl (w,.int (i + j)::d,n)
  |_,_=>.inr .stuck
 |.less _ _=>match d,l with
  |.int i::d,.int j=>.inl (w,.bool (decide (i<j))::d,n)
  |_,_=>.inr .stuck
 |_=>.inr .stuck
abbrev fQ:MS->MS ⊕ Res
 |⟨[],v::_,_⟩=>.inr (.val v)
 |⟨[],[],_⟩=>.inr .stuck
 |⟨.gY e ρ::w,d,n+1⟩=>lQ e ρ w d n
 |⟨.gY _ _::_,_,0⟩=>.inr .oW
 |⟨.fin e ρ::w,l::d,n⟩=>rP e ρ l w d n
 |⟨.fin _ _::_,[],_⟩=>.inr .stuck
abbrev tX:?N->MS->?O Res
 |0,_=>ι
 |k+1,s=>match fQ s with
  |.inl s'=>tX k s'
  |.inr r=>θ r
abbrev Ends(s:MS)(r:Res):?P:=∃k,tX k s=θ r
def Ends.inl{s s':MS}{r:Res}(h:fQ s = .inl s')(e:Ends s' r):Ends s r:=by let(k,q):=e;show (k+1,by rw[tX,h];show q)
def Ends.inr{s:MS}{r:Res}(h:fQ s = .inr r):Ends s r:=(1,by rw[tX,h])
inductive Ev:MR->MT->?N->?O MV->?P where
 |num {ρ i}:Ev ρ (.num i) 1 (θ @T)
 |truth {ρ b}:Ev ρ (.truth b) 1 (θ<|.bool b)
 |nil {ρ k}:Ev ρ (.nil k) 1 (θ<|.chain [])
 |name {ρ:MR} {x v} (h:ρ.get x=θ v):Ev ρ (.name x) 1 (θ v)
 |UP {ρ:MR} {x} (h:ρ.get x=ι):Ev ρ (.name x) 1 ι
 |lam {ρ x k b}:Ev ρ (.lam x k b) 1 (θ<|.dM x b ρ)
 |ac5 {ρ a b m} (h:Ev ρ a m ι):Ev ρ (.add a b) (m+1) ι
 |UQ {ρ a b m} (h:Ev ρ a m ι):Ev ρ (.less a b) (m+1) ι
 |OJ {ρ a b m} (h:Ev ρ a m ι):Ev ρ (.front a b) (m+1) ι
 |UR {ρ a b m} (h:Ev ρ a m ι):Ev ρ (.call a b) (m+1) ι
 |US {ρ a b c m} (h:Ev ρ a m ι):Ev ρ (.cond a b c) (m+1) ι
 |UT {ρ k x y a b c m} (h:Ev ρ a m ι):Ev ρ (.case k x y a b c) (m+1) ι
 |ac6 {ρ a b m n u} (h:Ev ρ a m (θ u)) (g:Ev ρ b n ι):Ev ρ (.add a b) (m + n+1) ι
 |UU {ρ a b m n u} (h:Ev ρ a m (θ u)) (g:Ev ρ b n ι):Ev ρ (.less a b) (m + n+1) ι
 |OK {ρ a b m n u} (h:Ev ρ a m (θ u)) (g:Ev ρ b n ι):Ev ρ (.front a b) (m + n+1) ι
 |UW {ρ a b m n u} (h:Ev ρ a m (θ u)) (g:Ev ρ b n ι):Ev ρ (.call a b) (m + n+1) ι
 |add {ρ a b m n i j} (h:Ev ρ a m (θ @T)) (g:Ev ρ b n (θ<|.int j)):Ev ρ (.add a b) (m + n+1) (θ<|.int<|i + j)
 |ac7 {ρ a b m n u v} (h:Ev ρ a m (θ u)) (g:Ev ρ b n (θ v)) (z:∀i j,u = .int i->v = .int j->?X):Ev ρ (.add a b) (m + n+1) ι
 |less {ρ a b m n i j} (h:Ev ρ a m (θ @T)) (g:Ev ρ b n (θ<|.int j)):Ev ρ (.less a b) (m + n+1) (θ<|.bool<|decide (i<j))
 |UX {ρ a b m n u v} (h:Ev ρ a m (θ u)) (g:Ev ρ b n (θ v)) (z:∀i j,u = .int i->v = .int j->?X):Ev ρ (.less a b) (m + n+1) ι
 |front {ρ a b m n u xs} (h:Ev ρ a m (θ u)) (g:Ev ρ b n (θ<|.chain xs)):Ev ρ (.front a b) (m + n+1) (θ<|.chain (u::xs))
 |OL {ρ a b m n u v} (h:Ev ρ a m (θ u)) (g:Ev ρ b n (θ v)) (z:∀xs,v = .chain xs->?X):Ev ρ (.front a b) (m + n+1) ι
 |call {ρ a b m n x c dI v k r} (h:Ev ρ a m (θ<|.dM x c dI)) (g:Ev ρ b n (θ v)) (q:Ev ((x,v,)::dI) c k r):Ev ρ (.call a b) (m + n + k+1) r
 |UY {ρ a b m n u v} (h:Ev ρ a m (θ u)) (g:Ev ρ b n (θ v)) (z:∀x c dI,u = .dM x c dI->?X):Ev ρ (.call a b) (m + n+1) ι
 |condT {ρ a b c m n r} (h:Ev ρ a m (θ<|.bool ξ)) (g:Ev ρ b n r):Ev ρ (.cond a b c) (m + n+1) r
 |OM {ρ a b c m n r} (h:Ev ρ a m (θ<|.bool υ)) (g:Ev ρ c n r):Ev ρ (.cond a b c) (m + n+1) r
 |UZ {ρ a b c m u} (h:Ev ρ a m (θ u)) (z:∀t,u = .bool t->?X):Ev ρ (.cond a b c) (m+1) ι
 |ON {ρ k x y a b c m n r} (h:Ev ρ a m (θ<|.chain [])) (g:Ev ρ b n r):Ev ρ (.case k x y a b c) (m + n+1) r
 |OO {ρ k x y a b c m n r u us} (h:Ev ρ a m (θ<|.chain (u::us))) (g:Ev ((y,.chain us,)::(x,u,)::ρ) c n r):Ev ρ (.case k x y a b c) (m + n+1) r
 |U0 {ρ k x y a b c m u} (h:Ev ρ a m (θ u)) (z:∀xs,u = .chain xs->?X):Ev ρ (.case k x y a b c) (m+1) ι
abbrev zr(w:?L Task)(d:?L MV)(n:?N)(r:Res):?O MV->?P
 |some v=>Ends (w,v::d,n) r
 |none=>r = .stuck
abbrev after(w:?L Task)(d:?L MV)(n c:?N)(o:?O MV)(r:Res):?P:=
 if n<c then r = .oW else zr w d (n - c) r o
def after.lt{w d n c o r}(h:after w d n c o r)(l:n<c):r = .oW:=by unfold after at h;rwa[?p l]at h
def after.some{w d n c v r}(h:after w d n c (θ v) r)(l:¬n<c):Ends (w,v::d,n - c) r:=by unfold after at h;rwa[?n l]at h
def after.none{w d n c r}(h:after w d n c ι r)(l:¬n<c):r = .stuck:=by unfold after at h;rwa[?n l]at h
def tY{w d n c o r}(h1:n<c->r = .oW)(h2:¬n<c->zr w d (n - c) r o):after w d n c o r:=by
 unfold after;by_cases l:n<c
 .rw[?p l];show h1 l
 .rw[?n l];show h2 l
def Ev.pos{ρ e c o}(h:Ev ρ e c o):0<c:=by cases h<;>omega
abbrev Goes(ρ:MR)(e:MT)(c:?N)(o:?O MV):?P:=∀w d n r,after w d n c o r->Ends (.gY e ρ::w,d,n) r
def EZ{ρ e c o}(hc:0<c)(h:∀w d n r,(n+1<c->r = .oW)->(¬n+1<c->zr w d (n+1 - c) r o)->Ends (.gY e ρ::w,d,n+1) r):Goes ρ e c o:=by
 intro w d n r a;cases n with
 |zero=>rw[a.lt hc];show .inr @r
 |succ n=>
  show h w d n r a.lt λl=>?_;cases o with
  |some v=>show a.some l
  |none=>show a.none l
def tZ{ρ e v}(h:∀w d n,fQ (.gY e ρ::w,d,n+1) = .inl (w,v::d,n)):Goes ρ e 1 (θ v):=
 EZ @o λw d n r h1 h2=>.inl (h w d n) (by have:=h2 @o;simpa[zr]using this)
variable{o:?O MV}
def E1{ρ e a c m}{u:?O MV}(ha:Goes ρ a m u)(ws:?L Task->?L Task)(hs:∀w d n,fQ (.gY e ρ::w,d,n+1) = .inl (.gY a ρ::ws w,d,n))(hc:m+1<=c)(h:∀w d n r,¬n<m->(n+1<c->r = .oW)->(¬n+1<c->zr w d (n+1 - c) r o)->zr (ws w) d (n - m) r u):Goes ρ e c o:=
 EZ @o λw d n r h1 h2=>.inl (hs w d n) (ha _ _ _ _<|tY (λl=>h1 @o) λl=>h w d n r l h1 h2)
def uR{ρ e a m}(ha:Goes ρ a m ι)(ws:?L Task->?L Task)(hs:∀w d n,fQ (.gY e ρ::w,d,n+1) = .inl (.gY a ρ::ws w,d,n)):Goes ρ e (m+1) ι:=
 E1 ha ws hs @E λw d n r l h1 h2=>h2 @o
variable{u:MV}
def E2{ρ e a b c m k}{v:?O MV}(ha:Goes ρ a m (θ u))(hb:Goes ρ b k v)(hs:∀w d n,fQ (.gY e ρ::w,d,n+1) = .inl (.gY a ρ :: .gY b ρ :: .fin e ρ::w,d,n))(hc:m + k+1<=c)(h:∀w d n r,¬n<m + k->(n+1<c->r = .oW)->(¬n+1<c->zr w d (n+1 - c) r o)->zr (.fin e ρ::w) (u::d) (n - m - k) r v):Goes ρ e c o:=
 E1 ha (λw=>.gY b ρ :: .fin e ρ::w) hs @o λw d n r l h1 h2=>hb _ _ _ _ (tY (λl2=>h1 @o) λl2=>h w d n r @o h1 h2)
def Ag{ρ e a b m k}(ha:Goes ρ a m (θ u))(hb:Goes ρ b k ι)(hs:∀w d n,fQ (.gY e ρ::w,d,n+1) = .inl (.gY a ρ :: .gY b ρ :: .fin e ρ::w,d,n)):Goes ρ e (m + k+1) ι:=
 E2 ha hb hs @E λw d n r l h1 h2=>h2 @o
def E3{ρ e a b m k}{v x:MV}(ha:Goes ρ a m (θ u))(hb:Goes ρ b k (θ v))(hs:∀w d n,fQ (.gY e ρ::w,d,n+1) = .inl (.gY a ρ :: .gY b ρ :: .fin e ρ::w,d,n))(hf:∀w d n,fQ (.fin e ρ::w,v::u::d,n) = .inl (w,x::d,n)):Goes ρ e (m + k+1) (θ x):=
 E2 ha hb hs @E λw d n r l h1 h2=>.inl (hf _ _ _) (by have:=h2 @o;rwa[show n+1 - (m + k+1)=n - m - k from by omega]at this)
def Ah{ρ e a b m k}{v:MV}(ha:Goes ρ a m (θ u))(hb:Goes ρ b k (θ v))(hs:∀w d n,fQ (.gY e ρ::w,d,n+1) = .inl (.gY a ρ :: .gY b ρ :: .fin e ρ::w,d,n))(hf:∀w d n,fQ (.fin e ρ::w,v::u::d,n) = .inr .stuck):Goes ρ e (m + k+1) ι:=
 E2 ha hb hs @E λw d n r l h1 h2=>by rw[show r = .stuck from h2 @o];show .inr (hf _ _ _)
def E4{ρ dI e a b m k}(ha:Goes ρ a m (θ u))(hb:Goes dI b k o)(hs:∀w d n,fQ (.gY e ρ::w,d,n+1) = .inl (.gY a ρ :: .fin e ρ::w,d,n))(hf:∀w d n,fQ (.fin e ρ::w,u::d,n) = .inl (.gY b dI::w,d,n)):Goes ρ e (m + k+1) o:=
 E1 ha (λw=>.fin e ρ::w) hs @o λw d n r l h1 h2=>.inl (hf _ _ _) (hb _ _ _ _ (tY (λl2=>h1 @o) λl2=>by
  have:=h2 @o;rw[show n+1 - (m + k+1)=n - m - k from by omega]at this
  show this))
def Ld{ρ e a m}(ha:Goes ρ a m (θ u))(hs:∀w d n,fQ (.gY e ρ::w,d,n+1) = .inl (.gY a ρ :: .fin e ρ::w,d,n))(hf:∀w d n,fQ (.fin e ρ::w,u::d,n) = .inr .stuck):Goes ρ e (m+1) ι:=
 E1 ha (λw=>.fin e ρ::w) hs @E λw d n r l h1 h2=>by rw[show r = .stuck from h2 @o];show .inr (hf _ _ _)
def MJ{ρ a b m n x c dI v k}(ha:Goes ρ a m (θ<|.dM x c dI))(hb:Goes ρ b n (θ v))(hq:Goes ((x,v,)::dI) c k o):Goes ρ (.call a b) (m + n + k+1) o:=
 E2 ha hb @g @o λw d n' r l h1 h2=>.inl @r (hq _ _ _ _ (tY (λl2=>h1 @o) λl2=>by
  have:=h2 @o;rw[show n'+1 - (m + n + k+1)=n' - m - n - k from by omega]at this
  show this))
def Ev.am9{ρ e c o:_}(h:Ev ρ e c o):Goes ρ e c o:=by
 induction h with
 |num=>show tZ λ_ _ _=>rfl
 |truth=>show tZ λ_ _ _=>rfl
 |nil=>show tZ λ_ _ _=>rfl
 |name h=>show tZ λ_ _ _=>by simp[fQ,lQ,h]
 |UP h=>show EZ @o λw d n r h1 h2=>by rw[show r = .stuck from h2 @o];show .inr (by simp[fQ,lQ,h])
 |lam=>show tZ λ_ _ _=>rfl
 |ac5 _ ih=>show uR ih _ λ_ _ _=>rfl
 |UQ _ ih=>show uR ih _ λ_ _ _=>rfl
 |OJ _ ih=>show uR ih _ λ_ _ _=>rfl
 |UR _ ih=>show uR ih _ λ_ _ _=>rfl
 |US _ ih=>show uR ih _ λ_ _ _=>rfl
 |UT _ ih=>show uR ih _ λ_ _ _=>rfl
 |ac6 _ _ ih jh=>show Ag ih jh λ_ _ _=>rfl
 |UU _ _ ih jh=>show Ag ih jh λ_ _ _=>rfl
 |OK _ _ ih jh=>show Ag ih jh λ_ _ _=>rfl
 |UW _ _ ih jh=>show Ag ih jh λ_ _ _=>rfl
 |add _ _ ih jh=>show E3 ih jh @g λ_ _ _=>rfl
 |@ac7 ρ a b m n u v h g z ih jh=>show Ah ih jh @g λ_ _ _=>by cases u<;>cases v<;>first|rfl|show(z _ _ @r @r).elim
 |less _ _ ih jh=>show E3 ih jh @g λ_ _ _=>rfl
 |@UX ρ a b m n u v h g z ih jh=>show Ah ih jh @g λ_ _ _=>by cases u<;>cases v<;>first|rfl|show(z _ _ @r @r).elim
 |front _ _ ih jh=>show E3 ih jh @g λ_ _ _=>rfl
 |@OL ρ a b m n u v h g z ih jh=>show Ah ih jh @g λ_ _ _=>by cases v<;>first|rfl|show(z _ @r).elim
 |call _ _ _ ih jh kh=>show MJ ih jh kh
 |@UY ρ a b m n u v h g z ih jh=>show Ah ih jh @g λ_ _ _=>by cases u<;>first|rfl|show(z _ _ _ @r).elim
 |condT _ _ ih jh=>show E4 ih jh @g λ_ _ _=>rfl
 |OM _ _ ih jh=>show E4 ih jh @g λ_ _ _=>rfl
 |@UZ ρ a b c m u h z ih=>show Ld ih @g λ_ _ _=>by cases u<;>first|rfl|show(z _ @r).elim
 |ON _ _ ih jh=>show E4 ih jh @g λ_ _ _=>rfl
 |OO _ _ ih jh=>show E4 ih jh @g λ_ _ _=>rfl
 |@U0 ρ k x y a b c m u h z ih=>show Ld ih @g λ_ _ _=>by cases u<;>first|rfl|show(z _ @r).elim
def Ev.whole{ρ e c o:_}(h:Ev ρ e c o)(n:?N):Ends ([.gY e ρ],[],n) (if n<c then .oW else match o with|some v=>.val v|none=>.stuck):=
 h.am9 _ _ _ _ (tY (λl=>?p l) λl=>by
  rw[?n l];cases o with
  |some v=>show .inr @r
  |none=>rfl)
abbrev gz:MT->ak
 |.num i=>.tuple [.str "num",.tuple [.int i],.tuple []]
 |.truth b=>.tuple [.str "truth",.tuple [.bool b],.tuple []]
 |.nil k=>.tuple [.str "nil",.tuple [k.1],.tuple []]
 |.name x=>.tuple [.str "name",.tuple [.str x],.tuple []]
 |.lam x k b=>.tuple [.str "fun",.tuple [.str x,k.1],.tuple [gz b]]
 |.add a b=>.tuple [.str "add",.tuple [],.tuple [gz a,gz b]]
 |.less a b=>.tuple [.str "less",.tuple [],.tuple [gz a,gz b]]
 |.front a b=>.tuple [.str "front",.tuple [],.tuple [gz a,gz b]]
 |.call a b=>.tuple [.str "call",.tuple [],.tuple [gz a,gz b]]
 |.cond a b c=>.tuple [.str "if",.tuple [],.tuple [gz a,gz b,gz c]]
 |.case k h t a b c=>.tuple [.str "case",.tuple [k.1,.str h,.str t],.tuple [gz a,gz b,gz c]]
abbrev qU(C:?N)(fs:?L (χ×ak)):ak:=.dict ((.str "",.int (C:?N),)::fs.map λp=>(.str p.1,p.2,))
structure Cs where
 ch:?N
 cl:?N
 kn:?N
 gv:?N
mutual
noncomputable def outD:MV->ak
 |.int i=>.int i
 |.bool b=>.bool b
 |.chain xs=>.list (iC xs)
 |.dM x b ρ=>.tuple [.str "fun",.str x,gz b,.list (gR ρ).reverse]
noncomputable def iC:?L MV->?L ak
 |[]=>[]
 |x::xs=>outD x::iC xs
noncomputable def gR:?L (χ×MV)->?L ak
 |[]=>[]
 |(x,v)::r=>.tuple [.str x,outD v]::gR r
end
abbrev ye:MV->ak
 |.chain xs=>outD (.chain xs)
 |.dM x b ρ=>outD (.dM x b ρ)
 |_=>.dict []
mutual
noncomputable def iM(c:Cs):MV->ak
 |.int i=>.int i
 |.bool b=>.bool b
 |.chain xs=>E5 c xs
 |.dM x b ρ=>qU c.cl [("name",.str x,),("body",gz b,),("known",sU c ρ,),("outside",.none,)]
noncomputable def E5(c:Cs):?L MV->ak
 |[]=>qU c.ch [("head",.none,),("rest",.none,),("outside",.none,)]
 |v::r=>qU c.ch [("head",.dict [(.str "?",iM c v,),(.str "",.int (c.gv:?N),),(.str "!",ye v,)],),("rest",E5 c r,),("outside",.none,)]
noncomputable def sU(c:Cs):?L (χ×MV)->ak
 |[]=>.none
 |(x,v)::r=>qU c.kn [("name",.str x,),("value",.dict [(.str "?",iM c v,),(.str "",.int (c.gv:?N),),(.str "!",ye v,)],),("others",sU c r,)]
end
abbrev oX(c:Cs)(v:MV):ak:=.dict [(.str "?",iM c v,),(.str "",.int (c.gv:?N),),(.str "!",ye v,)]
abbrev lG(c:Cs):Task->ak
 |.gY e ρ=>.tuple [.int 0,gz e,sU c ρ]
 |.fin e ρ=>.tuple [.int 1,gz e,sU c ρ]
example (c:Cs):iM c (.chain [])=qU c.ch [("head",.none,),("rest",.none,),("outside",.none,)]:=by simp[iM,E5]
end _W
set_option maxHeartbeats 4000000
namespace _L
open PyProof.Rows
def lz1{α:Type _}{l:?L α}(h:↑l=1):∃a,l=[a]:=by
 rcases l with _|⟨a,_|⟨b,l⟩⟩<;>simp at h;show(a,@r)
def lz2{α:Type _}{l:?L α}(h:↑l=2):∃a b,l=[a,b]:=by
 rcases l with _|⟨a,l⟩
 .simp at h
 .let(b,rfl):=lz1 (vI h);show(a,b,@r)
def lz3{α:Type _}{l:?L α}(h:↑l=3):∃a b c,l=[a,b,c]:=by
 rcases l with _|⟨a,l⟩
 .simp at h
 .let(b,c,rfl):=lz2 (vI h);show(a,b,c,@r)
def lz4{α:Type _}{l:?L α}(h:↑l=4):∃a b c d,l=[a,b,c,d]:=by
 rcases l with _|⟨a,l⟩
 .simp at h
 .let(b,c,d,rfl):=lz3 (vI h);show(a,b,c,d,@r)
section
variable {X:Cx}{π:?L @u}{σ:St}{H:Hp}{s:ao}{D:af}{o:HO}
variable{P:bu}{w:bU}{h:cD}
def pT.adopt(x:pT P w H h)(hn:H D=ι)(new:fP P w (upd H D o) h D o):pT P w (upd H D o) h:=λb u e=>by
 by_cases hb:b=D
 .subst hb;rw[aA]at e;cases e;show new
 .rw[be hb]at e;show(x b u e).sY (λc v _ q=>q) (λc q=>by rw[be (bQ q hn)];show q) λc xs q=>by rw[be (bQ q hn)];show q
def Inv.adopt(I:Inv X π σ H s)(hf:qR X π H D)(new:fP X.prog X.w (upd H D o) s.heap D o):Inv X π σ (upd H D o) s:=by
 let(f0,f1,f2,f3,f4,f5):=hf;let(hp,g,d,t,os):=s;show I.step (h':=hp) (g':=g) (t':=t) (d':=d) (ch:=[D]) (λb hb=>?_) (λb ob _ _ _ e _=>e) (λb ob _ _ _ e _=>(ob.slots,e)) (λb ob hb e n=>?_) (λb ob _ e=>(ob,e))
  (λb xs e=>by rw[be (bQ e f0)];show e) (λb ob u e=>by rw[be (bQ e f0)];show e) (λb ps e=>(#[],by rw[be (bQ e f0),e];simp)) (λm hm=>hm) (I.eD.adopt f0 new) I.bare
 .have e:b=D:=by simpa using hb
  subst e;show(f3,f1,f4,f5)
 .rw[be (λz=>hb (by simp[z]))];show n
end
section
variable {prog:bu}{w:bU}{A:cy}{R:Result->ao->?P}{s:ao}
noncomputable abbrev U1:ai->ao->?P:=λ_ _=>?X
variable{elt AY iter:bR}{scope:Scope}{pos:Pos}{env:Env}
def G7{ifs:?L bR}{it acc:ai}(J:?N->ao->?P)(turn:∀n s,J n s->aU @v A (pyNext it) (λr s1=>match r with
   |none=>R (.ok .next) s1
   |some v=>aU @v A (letOwnedTupleGo AY it v) (λ_ s2=>aU @v A (assign AY env v) (λ_ s3=>
     aU @v A (forIn ifs ξ λc r=>if r=ξ then do let ok <-isTrue c env (eval c env);pure (kf ok)else pure (kf r)) (λb s3=>if b=ξ then aU @v A (eval elt env) (λx s4=>aU @v A (call (.builtin "list.append") [acc,x]) (λ_ s5=>∃m,m<n/\J m s5) U1 s4) U1 s3 else ∃m,m<n/\J m s3) U1 s3) U1 s2) U1 s1) U1 s)(n:?N)(h:J n s):codeAny @v A (.compLoop @ab 0 it acc env) R s:=by
 show codeAny_loop @r J (λk s' hJ=>?_) n h;change aU _ A ((compTurn @ab 0 it acc env).onRaise (λx=>do noteFrame x env;theTreesLotGoes x)) _ _ s';show wpAny_noted ?_;rw[compTurn_list];show ae (wpAny_standAt<|ae<|cZ (turn k s' hJ) (λr s1 h1=>?_) λ_ _ z=>z.elim);cases r with
 |none=>show av h1
 |some v=>
  show ae (cZ h1 (λ_ s2 h2=>ae (cZ h2 (λ_ s3 h3=>?_) λ_ _ z=>z.elim)) λ_ _ z=>z.elim);show ae (cZ h3 (λb s3 h3=>?_) λ_ _ z=>z.elim);cases b with
  |true=>
   rw[?p @r]at h3 ⊢;show ae (ae<|cZ h3 (λx s4 h4=>ae (cZ h4 (λ_ s5 h5=>av (av (@r,h5))) λ_ _ z=>z.elim)) λ_ _ z=>z.elim)
  |false=>
   rw[?n bj]at h3 ⊢;show ae (av<|av (@r,h3))
end
structure mU(N:?L χ)(sc scope:Scope)(xs:?L χ):?P where
 kind:scope.kind = .function
 OP:∀y∈scope.names,y.2≠.cell
 names:∀y∈scope.names,y.2 = .local->scope.names.lookup y.1=θ .local
 own:xs.map (λy=>scope.names.lookup y)=xs.map λ_=>θ NameKind.local
 free:∀y∈scope.names,y.2 = .free->sc.names.lookup y.1=θ .cell\/sc.names.lookup y.1=θ .free
 loc:∀y∈N,scope.names.lookup y≠θ .local
 nd:(xs++N).Nodup
noncomputable abbrev yn(N:?L χ)(sc scope:Scope)(x:χ):?P:=mU N sc scope [x]
def zt{f:χ->NameKind->NameKind}:∀(l:?L (χ×NameKind)) (y:χ),(l.map λp=>(p.1,f p.1 p.2,)).lookup y=(l.lookup y).map (f y)
 |[],_=>rfl
 |(n,k)::r,y=>by
  rw[bZ,hU,hU];cases h:y==n with
  |true=>rw[show y=n from eq_of_beq h];rfl
  |false=>show zt r y
def t6(scope:Scope)(env:Env)(y:χ):(relabel scope env).names.lookup y=(scope.names.lookup y).map λk=>if(k == .free&&env.scope.kind == .function&&env.kindOf y==θ .cell)=ξ then .cell else k:=by
 have e:(relabel scope env).names=scope.names.map λp=>(p.1,(λy k=>if(k==iy&&env.scope.kind == .function&&env.kindOf y==θ .cell)=ξ then pM else k) p.1 p.2,):=by
  change scope.names.map _=_;apply vJ;rintro⟨n,k⟩ _;show(if _=ξ then(n,pM,)else(n,k,))=(n,if _=ξ then pM else k,);split<;>rfl
 rw[e];show zt (f:=λy k=>if(k==iy&&env.scope.kind == .function&&env.kindOf y==θ .cell)=ξ then pM else k) scope.names y
section
variable {N:?L χ}{sc scope:Scope}{xs:?L χ}{env:Env}
variable{y:χ}
def mU.Le(S:mU N sc scope xs)(h:(relabel scope env).names.lookup y=θ .cell\/(relabel scope env).names.lookup y=θ .free):(y,iy,)∈scope.names:=by
 rw[t6]at h;cases e:scope.names.lookup y with
 |none=>rw[e]at h;simp at h
 |some k=>
  have hm:=iW e;have hk:=S.OP _ hm;cases k with
  |free=>show hm
  |cell=>show ?A @r hk
  |_=>rw[e]at h;simp at h
def mU.outer(S:mU N sc scope xs)(hy:y∈N)(h:zN (relabel scope env) y):((relabel scope env).names.lookup y=θ .cell\/(relabel scope env).names.lookup y=θ .free):=by
 rcases h with h|h|h
 .exfalso;rw[t6]at h;cases e:scope.names.lookup y with
  |none=>rw[e]at h;simp at h
  |some k=>
   rw[e]at h;have:k = .local:=by
    have h2:(if(k==iy&&env.scope.kind == .function&&env.kindOf y==θ .cell)=ξ then pM else k) = .local:=by simpa using h
    split at h2
    .cases h2
    .show h2
   subst this;show S.loc y hy e
 .show .inl h
 .show .inr h
def JA(hf:∀y∈scope.names,y.2 = .free->∃c,env.cells.lookup y.1=θ c):
  ∃cl,closureFor scope env=pure cl/\(∀y c,cl.lookup y=θ c->env.cells.lookup y=θ c)/\∀y,(y,iy,)∈scope.names->∃c,cl.lookup y=θ c:=by
 have key:∀(l:?L (χ×NameKind)) (acc:?L (χ×af)),(∀y∈l,y.2 = .free->∃c,env.cells.lookup y.1=θ c)->(∀y c,acc.lookup y=θ c->env.cells.lookup y=θ c)->
   ∃cl,(forIn l acc (λ(p:χ×NameKind) (r:?L (χ×af))=>if p.2==iy then(do let c <-cellOf env p.1;pure (kf ((p.1,c,)::r)))else pure (kf r)):Sem (?L (χ×af)))=pure cl/\
    (∀y c,cl.lookup y=θ c->env.cells.lookup y=θ c)/\(∀y,(y,iy,)∈l->∃c,cl.lookup y=θ c)/\∀y c,acc.lookup y=θ c->∃c,cl.lookup y=θ c:=by
  intro l;induction l with
  |nil=>intro acc _ ha;show(acc,@r,ha,λy h=>by simp at h,λy c h=>(c,h))
  |cons p r ih=>
   intro acc hp ha;let(n,k):=p;by_cases hk:k = .free
   .subst hk;let(c,hc):=hp (n,.free,) aJ @r
    let(cl,e,h1,h2,h3):=ih ((n,c,)::acc) (λy hy=>hp y (aM _ hy)) (λy d hd=>by
     rw[hU]at hd;cases hb:y==n with
     |true=>rw[hb]at hd;simp at hd;rw[show y=n from eq_of_beq hb,<-hd];show hc
     |false=>rw[hb]at hd;show ha y d hd)
    show(cl,?_,h1,λy hy=>?_,λy d hd=>?_)
    .rw[jC];simp only[beq_self_eq_true,if_true,cellOf,hc,pure_bind];show e
    .rcases bg.mp hy with z|z
     .cases(z);show h3 n c (by simp[hU])
     .show h2 y z
    .cases hb:y==n with
     |true=>show h3 y c (by rw[hU,hb])
     |false=>show h3 y d (by rw[hU,hb];show hd)
   .ext;let(cl,e,h1,h2,h3):=ih acc (λy hy=>hp y (aM _ hy)) ha;ext;show(cl,?_,h1,λy hy=>?_,h3)
    .rw[jC];have hb:(k==iy)=υ:=by simpa using hk
     simp only[hb,jk,if_false,pure_bind];show e
    .rcases bg.mp hy with z|z
     .cases z;show ?A @r hk
     .show h2 y z
 ext;let(cl,e,h1,h2,_):=key scope.names [] hf (λy c h=>by simp at h);ext;show(cl,?_,h1,h2);unfold closureFor;simp only[bind_pure];show e
end
abbrev Cx.oY(X:Cx)(scope:Scope)(cl:?L (χ×af))(xs:?L χ)(C:af)(s0:ao)(H0:Hp)(fp:?L af)(π:?L @u):Cx:=
 {X with N:=xs++X.N,kJ:=s0,zM:=H0,env:=compEnvC scope cl C X.env,outer:=X.stack,ex:=fp,fn:=λ_=>υ,pn:=X.pn++π,xe:=λ_ _=>?X}
noncomputable abbrev Cx.comp(X:Cx)(scope:Scope)(cl:?L (χ×af))(x:χ)(C:af)(s0:ao)(H0:Hp)(fp:?L af)(π:?L @u):Cx:=X.oY scope cl [x] C s0 H0 fp π
section
variable {X:Cx}{π:?L @u}{σ:St}{H:Hp}{s:ao}{scope:Scope}{cl:?L (χ×af)}{xs:?L χ}{C:af}{fp:?L af}
variable{b:af}
def Inv.E6(I:Inv X π σ H s)(h1:b≠X.env.locals)(h2:b∉X.fs):b∉qN X.stack:=λhb=>by
 rcases bg.mp (I.Jd b hb)with e|e
 .show h1 e
 .show h2 e
variable{tk:?N}
def MK{h4:cD}{m0:χ->?O ai}(I:Inv X π σ H s)(S:mU X.N X.env.scope scope xs)(sub:∀y c,cl.lookup y=θ c->X.env.cells.lookup y=θ c)(has:∀y,(y,iy,)∈scope.names->∃c,cl.lookup y=θ c)(hk:∀b o,s.heap.get? b=θ o->h4.get? b=θ o)(hC:↥s<=C)(MI:h4.Ns C m0)(hf:∀b∈fp,qR X π H b/\b<↥s):Inv (X.oY scope cl xs C s H fp π) [] (dm ↑xs none++σ) H {s with heap:=h4,toks:=tk}:=by
 have lt:∀{b:af}{o:Obj},s.heap.get? b=θ o->b≠C:=λe=>bz (bJ (aO e) hC)
 show((I.ok.mod,S.kind,I.ok.glob,I.ok.blt,hC,λy z c h1 h2=>I.ok.inj y z c (sub y c h1) (sub z c h2),λy hy=>has y (S.Le (env:=X.env) hy),λy c h=>?A (show υ=ξ from h) bj,I.ok.hd,I.ok.frames,.inl @r,
  λb hb=>(bz<|bJ (hf b hb).2 hC,λy c e=>(hf b hb).1.2.2.2.2.1 y c (sub y c e)),I.bs,bD I.ok.Mq I.sz,λb o e hb=>?_,λb hb=>?_,I.stack,I.EM),
  rfl,I.bare,Un.kept hk,(m0,MI,λi y v e1 e2 e3=>?_),λy c e=>?_,I.eD.fresh hC,λy c e=>I.qQ y c (sub y c e),λp hp=>?_,I.eD.kept hk,by simp[Cx.oY,I.len])
 .rcases(hf b hb).1.2.2.2.1 with z|z
  .show I.ok.GR b o e z
  .show ?A (bJ (aO e)<|bD I.ok.Mq z) (jG _)
 .show I.E6 (hf b hb).1.2.1 (hf b hb).1.2.2.1
 .by_cases hi:i<↑xs
  .rw[bF (by simpa using hi),Gp,?p hi]at e2;cases e2
  .rw[bT (by simpa using hi),tH]at e2;have e1':X.N[i - ↑xs]?=θ y:=by rw[<-e1];show(bT<|Dv.mp hi).symm
   have ac8:=S.outer (env:=X.env) (aD e1') e3;have NP:=S.Le ac8;have K4:=S.free _ NP @r;ext;let(m,hn,hl):=I.loc;have wN:zN X.env.scope y:=by
    rcases K4 with z|z
    .show .inr (.inl z)
    .show .inr (.inr z)
   let(u,r,lk):=hl _ y v e1' e2 wN;ext;show(u,r,.inr (ac8,?_));let(c,hc):=has y NP;have Je:=sub y c hc;rcases lk with⟨k,_⟩|⟨_,c',e',z⟩
   .exfalso;have k':X.env.scope.names.lookup y=θ .local:=k;rcases K4 with q|q<;>rw[k']at q<;>cases q
   .rw[Je]at e';cases e';show(c,hc,z.keeps hk)
 .let(v,z):=I.cell y c (sub y c e);show(v,z.keeps hk)
 .have D9:p∈X.pn++π:=by simpa[Cx.oY]using hp
  ext;let(e,n,ne,nf,d):=I.pin p D9;ext;show(hk _ _ e,n,lt e,I.E6 ne nf,d)
end
abbrev PTs(X:Cx)(ifs:?L bR)(tc:TT):?P:=∀(π:?L @u) (s:ao) (σ:St) (H:Hp) (Q:?B->Hp->?P),Inv X π σ H s->tc σ H Q->
 aU ⇑X X.A (forIn ifs ξ λc r=>if r=ξ then do let ok <-isTrue c X.env (eval c X.env);pure (kf ok)else pure (kf r)) (λb s'=>∃H',Inv X π σ H' s'/\Q b H') X.xe s
abbrev tcT:TT:=λ_ H Q=>Q ξ H
variable{X:Cx}
def Lf:PTs X [] tcT:=λ_ _ _ H _ I h=>wpAny_tests_nil (H,I,h)
abbrev t7(tg:TG)(n:?N)(tc:TT)(te:TE)(σ:St)(J:It)(H1:Hp)(Fin:?L V->Hp->?P):?P:=
 ∃W:?N->?N->?L V->Hp->?P,(∃m,W 0 m [] H1)/\∀i m ys H,W i m ys H->
  (J.stop i H/\↑ys<=au/\Fin ys H)\/(J.go i H/\↑ys<au/\∀v H',J.DH i H v H'->∀us:St,us.length=n->tg v (us++σ) H' λfo H2=>∃Sf,Sf.length=n/\fo=Sf++σ/\tc fo H2 λb H3=>if b=ξ then ∃N:V->Hp->?P,(∀y H4,N y H4->∃m',m'<m/\W @X m' (ys++[y]) H4)/\te fo H3 N else ∃m',m'<m/\W @X m' ys H3)
noncomputable abbrev WQ(tc:TT):=t7 (wY 0) 1 tc
noncomputable abbrev ac9:=WQ tcT
variable{σ us:St}{v:V}{H:Hp}
def t7.one{Q:St->Hp->?P}(h:Q (θ v::σ) H)(hu:↑us=1):wY 0 v (us++σ) H λfo H2=>∃Sf,Sf.length=1/\fo=Sf++σ/\Q fo H2:=
 by let(_,rfl):=lz1 hu;show([θ v],@r,@r,h)
def t7.ad0{A B:St->Hp->?P}(h:A (θ v::σ) H)(hu:↑us=1):wY 0 v (us++σ) H λfo H2=>∃Sf,Sf.length=1/\fo=Sf++σ/\tcT fo H2 λb H3=>if b=ξ then A fo H3 else B fo H3:=
 t7.one (Q:=λfo H2=>tcT fo H2 λb H3=>if b=ξ then A fo H3 else B fo H3) h hu
section
variable {X:Cx}{π:?L @u}{σ:St}{H:Hp}{s:ao}{scope:Scope}{xs:?L χ}{elt iter AY:bR}{ifs:?L bR}{pos cU:Pos}{wi:TI}{tg:TG}{tc:TT}{te:TE}{use:?O (ai->Sem Unit)}{Q:ai->ao->?P}{Fin:?L V->Hp->?P}
def AZ(hc:X.calm=ξ)(S:mU X.N X.env.scope scope xs)(hi:PI X AY iter wi)(hg:∀cl C s0 H0 fp π,PG @V AY tg)(ht:∀cl C s0 H0 fp π,PTs @V ifs tc)(he:∀cl C s0 H0 fp π,PE @V elt te)(I:Inv X π σ H s)(h:wi σ H λJ H1=>t7 tg ↑xs tc te σ J H1 Fin)(fin:∀(ys:?L V)(H':Hp)(s':ao)(D C:af)(m:χ->?O ai)(cA:?L ai)(n:?N),Fin ys H'->Inv X π σ H' s'->qR X π H' D->↑ys<=au->dD ys cA->s'.heap.get? D=θ {cls:=.type "list",data:=.seq cA.toArray n}->
   qR X π H' C->D≠C->s'.heap.Ns C m->compPost ⇑X X.A X.xe use Q (.ref D) C (.ok .next) s')(hs:∀v,gU iter X.env v=pure v:=by intro _;rfl):
  aU ⇑X X.A (comprehension @ab scope X.env cU (newList []) υ (eval iter X.env) use) Q X.xe s:=by
 let(cl,ZE,sub,has):=JA (scope:=scope) (env:=X.env) (λy hy hy2=>by
  rcases S.free y hy hy2 with z|z
  .show I.ok.has y.1 (.inl z)
  .show I.ok.has y.1 (.inr z))
 show wpAny_comprehension_free (g:=(AY,iter,ifs,0)) (gs:=[]) @r hs ZE S.kind S.names (gh (hi π s σ H _ I h) λv s1 h1=>gh h1 λZy s2 h2=>?_);ext;let(it,fp,tn,J,H2,e,I2,T,C9,f2,W,(m0,w0),turn):=h2;subst e;ext;show eG (wpAny_newFunctionEnv S.OP (by intro y hy;simp at hy) (λh4 MI S0=>?_) S.kind);dsimp only at MI S0 ⊢;have hCz:(s2.heap.push {cls:=.type "list",dict:=ι,data:=.seq ([]:?L ai).toArray}).objs.size=↥s2+1:=gA ..;generalize hG:s2.heap.push {cls:=.type "list",dict:=ι,data:=.seq ([]:?L ai).toArray}=G at MI S0 hCz ⊢;have lt:∀{b:af}{o:Obj},s2.heap.get? b=θ o->b<↥s2:=λe=>aO e;have hk:∀b o,s2.heap.get? b=θ o->h4.get? b=θ o:=λb o e=>S0.extBut b o (bz (by rw[hCz];show mw (lt e))) (ah _<|hG ▸ ah _ e);have hD:h4.get? ↥s2=θ {cls:=.type "list",data:=.seq ([]:?L ai).toArray 0}:=
  S0.extBut _ _ (bz (by rw[hCz];show ic _)) (ah _<|hG ▸ aQ _ @r)
 have hfp:∀b∈fp,b<↥s2:=λb hb=>(by let(o,e,_):=T.obj _ _ C9 b hb;show lt e);have ZF:↥s2≠G.objs.size:=by rw[hCz];show bz (ic _)
 have WR:↥s2<=G.objs.size:=by rw[hCz];show j9 _
 let Y:=X.oY scope cl xs G.objs.size s2 H2 fp π;have I4:Inv Y [] (dm ↑xs none++σ) H2 {s2 with heap:=h4,toks:=s2.toks + ([]:?L (χ×ai)).length}:=MK I2 S sub has hk WR MI λb hb=>(f2 b hb,hfp b hb);have EO:∀{H':Hp} {pl:?L @u},(∀b∈fp,H' b=ι)->(∀p∈pl,↥s2<=p.1)->∀b∈fp,qR Y pl H' b:=λ{H' pl} hn j4 b hb=>by
  ext;let(f0,f1,f3,f4,f5,f6):=f2 b hb;ext;show(hn b hb,bz<|bJ (hfp b hb) WR,I2.E6 f1 f3,.inl hb,λy c e=>f5 y c (sub y c e),λp hp=>?_);rcases aW.mp hp with z|z
  .show f6 p z
  .showλq=>?A (hfp b hb) (Dv.mpr (by rw[<-q];show j4 p z))
 have OQ:∀{H':Hp},H' ↥s2=ι->qR Y [] H' ↥s2:=λ{H'} hn=>by
  show(hn,ZF,λhb=>?_,.inr @E,λy c e z=>?_,λp hp z=>?_)
  .show I2.E6 (eA I2.lt) (I2.aa0 @E) hb
  .let(v,q):=I2.cell y c (sub y c e);show ?A q.lt (by rw[z];show jG _)
  .have D9:p∈X.pn++π:=by simpa[Y,Cx.oY]using hp
   show ?A (lt (I2.pin p D9).1) (by rw[z];show jG _)
 have an1:∀{τ:St}{H':Hp}{s':ao}{ob:Obj},Inv Y [] τ H' s'->H' ↥s2=ι->s'.heap.get? ↥s2=θ ob->(∀v,ob.data≠.cell v)->Inv Y [(↥s2,ob,)] τ H' s':=λ{τ H' s' ob} J0 hn ho hd=>
  J0.uM λp hp=>by
   have e:p=(↥s2,ob,):=by simpa using hp
   subst e;show(ho,hn,(OQ hn).2.1,(OQ hn).2.2.1,hd)
 have loop:∀s3:ao,s3={s2 with heap:=h4,toks:=s2.toks + ([]:?L (χ×ai)).length}->
   codeAny ⇑X X.A (.compLoop @ab 0 (.ref it) (.ref ↥s2) Y.env)
    (compPost ⇑X X.A X.xe use Q (.ref ↥s2) G.objs.size) s3:=by
  rintro s3 rfl;show G7 (λk s'=>∃i ys us H' cA n,us.length=↑xs/\Inv Y [] (us++σ) H' s'/\tn i s'.heap/\(∀b∈fp,H' b=ι)/\H' ↥s2=ι/\dD ys cA/\s'.heap.get? ↥s2=θ {cls:=.type "list",data:=.seq cA.toArray n}/\W i k ys H') ?_ m0
   (0,[],_,H2,[],0,tH,I4,T.keep _ _ _ C9 λb _ o e=>hk b o e,λb hb=>(f2 b hb).1,I2.eD.fresh @E,.nil,hD,w0)
  intro k s' hZ;ext;let(i,ys,us,H',cA,n,hus,I5,SA,ZC,nD5,U2,oD5,w5):=hZ;ext;have Wq:=an1 I5 nD5 oD5 (λv z=>by cases z);have fp5:=EO (pl:=[(↥s2,{cls:=.type "list",data:=.seq cA.toArray n},)]) ZC (λp hp=>by have e:p=_:=aR.mp hp;rw[e];show aj _);rcases turn i k ys H' w5 with⟨stop,hz,qf⟩|⟨go,hz,step⟩
  .show cZ (T.done Y @r @r @r hc i _ s' _ H' U1 Wq fp5 SA stop) (λ r s6  eg=>?_) λ_ _ z=>z;let(hr,I6):=eg;subst hr;change compPost _ _ _ _ _ _ _ _ s6;have oD6:=(I6.pin (↥s2,_,)<|aB _ aJ).1;have nD6:=(I6.pin (↥s2,_,)<|aB _ aJ).2.1;let(m6,ns6,_):=I6.loc;have I7:Inv X π σ H' s6:=I2.UE I6.os I6.base I6.eD I6.bare λb hb=>((f2 b hb).2.2.2.1,(f2 b hb).2.1,(f2 b hb).2.2.2.2.1,(f2 b hb).2.2.2.2.2);show fin ys H' s6 ↥s2 G.objs.size m6 cA n qf I7 (I2.rK @E nD6) hz U2 oD6 (I2.rK WR I6.free) ZF ns6
  .show cZ (T.item Y @r @r @r hc i _ s' _ H' U1 Wq fp5 SA go) (λ r s6  eg=>?_) λ_ _ z=>z;let(u,hr,h6):=eg;subst hr;change aU _ _ (letOwnedTupleGo AY (.ref it) u) _ _ s6;show cZ h6 (λ _ s7  eg=>?_) λ_ _ z=>z;ext;let(v,H7,I7,r7,y7,WS,fr7):=eg;ext;have I7':=I7.pinned (EO (pl:=[(↥s2,{cls:=.type "list",data:=.seq cA.toArray n},)]) fr7 (λp hp=>by have e:p=_:=aR.mp hp;rw[e];show aj _)) (T.obj _ _ WS);show cZ (hg cl G.objs.size s2 H2 fp π _ s7 _ H7 v u _ I7' r7<|step v H7 y7 us hus) (λ _ s8  eg=>?_) λ_ _ z=>z;ext;let(σ8,H8,I8,us8,hu8,e8,ad1):=eg;subst e8;ext;let pl:=[(↥s2,({cls:=.type "list",data:=.seq cA.toArray n}:Obj),)]++AL fp s7.heap;have S3:∀{fo H9 s9},Inv Y pl fo H9 s9->∀b∈fp,∀o,s7.heap.get? b=θ o->s9.heap.get? b=θ o/\H9 b=ι:=λI9 b hb o e=>
    ((I9.pin (b,o,)<|aB _<|aB _<|rM hb e).1,(I9.pin (b,o,)<|aB _<|aB _<|rM hb e).2.1)
   have S4:∀{fo H9 s9},Inv Y pl fo H9 s9->s9.heap.get? ↥s2=θ {cls:=.type "list",data:=.seq cA.toArray n}/\H9 ↥s2=ι:=λI9=>
    ((I9.pin (↥s2,_,)<|aB _<|bW _ aJ).1,(I9.pin (↥s2,_,)<|aB _<|bW _ aJ).2.1)
   show gh (ht cl G.objs.size s2 H2 fp π _ s8 _ H8 _ I8 ad1) λ b s8'  eg=>?_;let(H8',ZG,Lg):=eg;cases b with
   |false=>
    rw[?n bj]at Lg ⊢;let(m',hm,w9):=Lg;show(m',hm,i+1,ys,us8,H8',cA,n,hu8,ZG.uM λp hp=>?A hp @s,T.keep _ _ _ WS λb hb o e=>(S3 ZG b hb o e).1,λb hb=>?_,(S4 ZG).2,U2,(S4 ZG).1,w9);let(o,e,_):=T.obj _ _ WS b hb;show(S3 ZG b hb o e).2
   |true=>
   rw[?p @r]at Lg ⊢;let(N,hN,ad2):=Lg;show gh (he cl G.objs.size s2 H2 fp π _ s8' _ H8' _ ZG ad2) λ yu s9  eg=>?_;ext;let(y,H9,I9,r9,n9):=eg;let(m',hm,w9):=hN y H9 n9;ext;have oD9:=(S4 I9).1;have nD9:=(S4 I9).2;have hlen:=U2.length;show call_meets F.slot_list_append (_,oD9,@r) F.entry_list_append (F.args_list_append_2 _ _) (PySem.list_append ↥s2 cA.toArray n yu (by rw[aI];omega)) (oD9,?_);ext;obtain⟨n9,q9⟩:∃n9,(s9.heap.update ↥s2<|eJ λa=>a.push yu).get? ↥s2=θ {cls:=.type "list",data:=.seq (cA.toArray.push yu) n9}:=(_,IB oD9<|λa=>a.push yu);have I9u:Inv Y [] (us8++σ) H9 s9:=I9.uM λp hp=>?A hp @s;let(g0,g1,g2,g3,g4,g5):=OQ nD9;ext;have I10:Inv Y [] (us8++σ) H9 {s9 with heap:=s9.heap.update ↥s2 (eJ λa=>a.push yu)}:=
    I9u.turned (t':=s9.toks) (λb o hb e=>(cQ s9.heap _<|cp hb).trans e) g0 g1 g3 g4 g5
   show(m',hm,i+1,ys++[y],us8,H9,cA++[yu],n9,hu8,I10,T.keep _ _ _ WS λb hb o e=>?_,λb hb=>?_,nD9,U2.append<|.cons r9 .nil,?_,w9)
   .show(cQ s9.heap _<|eA<|hfp b hb).trans (S3 I9 b hb o e).1
   .let(o,e,_):=T.obj _ _ WS b hb;show(S3 I9 b hb o e).2
   .rw[show(cA++[yu]).toArray=cA.toArray.push yu by simp];show q9
 show codeAny_compStart_list (loop _ @r) (T.self X.A 0 _ _ _ (T.keep _ _ _ C9 λb _ o e=>hk b o e)<|loop _ @r)
end
variable{lo:?I}{n:?N}{te:TE}{H1:Hp}{Fin:?L V->Hp->?P}
def JB(Pv:?N->?L V->Hp->?P)(h0:Pv 0 [] H1)(hl:∀i ys H,Pv i ys H->↑ys=i)(hz:n<=au)(hs:∀i ys H,i<n->Pv i ys H->te (θ (.int<|lo + i)::σ) H λy H2=>Pv @X (ys++[y]) H2)(hd:∀ys H,Pv n ys H->Fin ys H):ac9 te σ (UH lo n) H1 Fin:=by
 show(λi m ys H=>m=n - i/\i<=n/\Pv i ys H,(n,by simp,cE _,h0),?_);rintro i m ys H ⟨rfl,hi,p⟩;have hy:=hl i ys H p;by_cases nM:i<n
 .show .inr (nM,by omega,λx H' y us hu=>t7.ad0 (λz H2=>Pv @X (ys++[z]) H2,λz H2 p'=>(n - @X,by omega,@r,nM,p'),?_) hu);let(e,y):=y;subst e y;show hs i ys _ nM p
 .have e:i=n:=by omega
  subst e;show .inl (aj _,by omega,hd ys H p)
abbrev JC(tg:TG)(n:?N)(tc:TT)(wi:TI)(te:TE):TE:=λσ H Q=>wi σ H λJ H1=>t7 tg n tc te σ J H1 λys H2=>∀p,H2 p=ι->Q (.ref p) (upd H2 p<|.lst ys)
abbrev WU(wi:TI)(tc:TT)(te:TE):TE:=JC (wY 0) 1 tc wi te
abbrev OR(wi:TI)(te:TE):TE:=WU wi tcT te
section
variable {X:Cx}{scope:Scope}{x:χ}{xs:?L χ}{elt iter AY:bR}{ifs:?L bR}{px pos S5 py:Pos}{wi:TI}{tg:TG}{tc:TT}{te:TE}
variable{π:?L @u}{s:ao}{C:af}{h':cD}
def Inv.Ea(I:Inv X π σ H s)(f:qR X π H C)(hs:iJ C s.heap h'):Inv X π σ H {s with heap:=h'}:=
 I.turned (t':=s.toks) (λb o hb e=>(hs.2 b hb).trans e) f.1 f.2.1 f.2.2.2.1 f.2.2.2.2.1 f.2.2.2.2.2
def OS(hc:X.calm=ξ)(S:mU X.N X.env.scope scope xs)(hi:PI X AY iter wi)(hg:∀cl C s0 H0 fp π,PG @V AY tg)(ht:∀cl C s0 H0 fp π,PTs @V ifs tc)(he:∀cl C s0 H0 fp π,PE @V elt te)(hs:∀v,gU iter X.env v=pure v):PE X @ab (JC tg ↑xs tc wi te):=by
 intro π s σ H Q I h;rw[eval_ListComp];show AZ (use:=ι) hc S hi hg ht he I h (λys H' s' D C m cA n q I' fD hz rv oD fC ZF MI=>?_) hs;show(m,MI,λh' S0=>?_);have I2:=I'.Ea fC S0;have oD':h'.get? D=θ {cls:=.type "list",data:=.seq cA.toArray n}:=(S0.2 D ZF).trans oD;show(.ref D,_,I2.adopt (o:=.lst ys) fD (hz,cA,n,rv,oD'),@r,q D fD.1)
variable{y:χ}
def G8{i:?N}(hc:X.calm=ξ)(S:mU X.N X.env.scope scope xs)(hN:X.N.Nodup)(hy:X.N[i]?=θ y)(hl:X.env.scope.names.lookup y=θ .local)(hi:PI X AY iter wi)(hg:∀cl C s0 H0 fp π,PG @V AY tg)(ht:∀cl C s0 H0 fp π,PTs @V ifs tc)(he:∀cl C s0 H0 fp π,PE @V elt te)(A0:dS @ab (θ<|.Name y py) S5.line X.env=pure ξ)(hs:∀v,gU iter X.env v=pure v):
  PS X (.Assign [.Name y py] @ab S5) (Sy (JC tg ↑xs tc wi te)<|wY i):=by
 intro π s σ H D I h;rw[exec_Assign_Name_used _ _ _ _ A0];show ae (wpAny_standAt<|ae ?_);change aU _ X.A (do let _ <-comprehension @ab scope X.env _ (newList []) υ (eval iter X.env) (θ<|assign (.Name y py) X.env)) _ _ s;show ae (cZ (AZ (use:=θ (assign (.Name y py) X.env)) (Q:=λ_ s'=>SP X π D .next s') hc S hi hg ht he I h (λys H' s' E C m cA n q I' fD hz rv oD fC ZF MI=>?_) hs) (λ_ s' hq=>av (av hq)) λ_ _ z=>z);change aU _ _ (assign (.Name y py) X.env<|.ref E) _ _ s';have I2:Inv X π σ (upd H' E<|.lst ys) s':=I'.adopt (o:=.lst ys) fD (hz,cA,n,rv,oD);show wpAny_assign_Name (Dz (v:=.ref E) I2 hN hy (.inl hl) @r (λ s2 I3  eg=>?_)<|.inr hl);let(a,sb,ha):=eg;have hCa:C≠a:=by
  rcases ha with z|z
  .rw[z];show fC.2.1
  .showλw=>fC.2.2.2.2.1 y a z w.symm
 show(m,MI.sameBut sb hCa,λh' S0=>?_);have fC':qR X π (upd H' E<|.lst ys) C:=(by rw[be (cp ZF)];show fC.1,fC.2);show(_,_,I3.Ea fC' S0,q E fD.1)
def mU.pg(S:yn X.N X.env.scope scope x)(cl:?L (χ×af))(C:af)(s0:ao)(H0:Hp)(fp:?L af)(π:?L @u):PG @af (.Name x px) (wY 0):=
 j0 (i:=0) S.nd @r (.inl<|lookup_relabel_local (List.cons.inj S.own).1) (.inr<|lookup_relabel_local (List.cons.inj S.own).1)
def S6(hc:X.calm=ξ)(S:yn X.N X.env.scope scope x)(hi:PI X (.Name x px) iter wi)(he:∀cl C s0 H0 fp π,PE @af elt te)(hs:∀v,gU iter X.env v=pure v:=by intro _;rfl):PE X (.ListComp elt [(.Name x px,iter,[],0)] scope pos) (OR wi te):=OS hc S hi S.pg (λ_ _ _ _ _ _=>Lf) he hs
def JD{i:?N}(hc:X.calm=ξ)(S:yn X.N X.env.scope scope x)(hN:X.N.Nodup)(hy:X.N[i]?=θ y)(hl:X.env.scope.names.lookup y=θ .local)(hi:PI X (.Name x px) iter wi)(he:∀cl C s0 H0 fp π,PE @af elt te)(A0:dS (.ListComp elt [(.Name x px,iter,[],0)] scope pos) (θ<|.Name y py) S5.line X.env=pure ξ)(hs:∀v,gU iter X.env v=pure v:=by intro _;rfl):
  PS X (.Assign [.Name y py] (.ListComp elt [(.Name x px,iter,[],0)] scope pos) S5) (Sy (OR wi te)<|wY i):=G8 hc S hN hy hl hi S.pg (λ_ _ _ _ _ _=>Lf) he A0 hs
end
abbrev refOf:?O (?O ai)->?N
 |some (θ @x)=>a
 |_=>0
abbrev vf(K:aa):_W.Cs:=(refOf<|bY K bH "Chain",refOf<|bY K bH "Closure",refOf<|bY K bH "Known",refOf<|bY K bH "Given")
abbrev ad3(K:aa)(bw:?L (ak×ak)):?P:=∃x:_W.MV,bw=[(.str "?",_W.iM (vf K) x,),(.str "",.int ((vf K).gv:?N),),(.str "!",_W.ye x,)]
mutual
noncomputable def Rep(K:aa)(H:Hp):ak->V->?P
 |.none,v=>v = .fB
 |.bool b,v=>v = .bl b
 |.int i,v=>v = .int i
 |.str x,v=>v = .str x
 |.tuple ds,v=>∃a vs,v = .ref a/\eI K H a vs/\bp K H ds vs
 |.list ds,v=>∃a o vs,v = .ref a/\H a=θ (.kg o @W)/\bp K H ds vs
 |.dict bw,v=>(∃a C dx fs,v = .ref a/\H a=θ (.ins C dx fs)/\fs.lookup ("inside":χ)=ι/\jo K H bw ((("":χ),V.int ((C:?N):?I),)::fs))\/nQ K H bw v
noncomputable def bp(K:aa)(H:Hp):?L ak->?L V->?P
 |[],vs=>vs=[]
 |d::ds,vs=>∃v r,vs=v::r/\Rep K H d v/\bp K H ds r
noncomputable def jo(K:aa)(H:Hp):?L (ak×ak)->?L (χ×V)->?P
 |[],vs=>vs=[]
 |(k,d)::ds,vs=>∃g v r,vs=(g,v,)::r/\k = .str g/\Rep K H d v/\jo K H ds r
noncomputable def nQ(K:aa)(H:Hp):?L (ak×ak)->V->?P
 |[],_=>?X
 |(k,d)::ds,v=>(ad3 K ((k,d,)::ds)/\v≠.fB)/\(Rep K H d v\/∃a C dx val w,v = .ref a/\H a=θ (.ins C dx [(("value":χ),val,),(("inside":χ),w,)])/\jo K H ds [(("":χ),V.int ((C:?N):?I),),(("!":χ),val,)]/\(w = .fB\/Rep K H d w))
end
structure bC(K:aa)(H H':Hp):?P where
 tup:∀a xs,eI K H a xs->eI K H' a xs
 kg:∀a o xs,H a=θ (.kg o @aj)->H' a=θ (.kg o @aj)
 ins:∀a C dx fs,H a=θ (.ins C dx fs)->H' a=θ (.ins C dx fs)
instance {K:aa}{H H':Hp}:CoeFun (bC K H H') (λ_=>∀a xs,eI K H a xs->eI K H' a xs):=⟨bC.tup⟩
variable{K:aa}{H':Hp}
def bC.of_keep(e:∀b o,H b=θ o->(∀xs,o≠.lst xs)->(∀bw,o≠.dK bw)->(∀bw,o≠.dT bw)->H' b=θ o):bC K H H':=
 (λa xs h=>by
  rcases h with(h|⟨o,h⟩)|h
  .show .inl (.inl<|e _ _ h @m @m @m)
  .show .inl (.inr (o,e _ _ h @m @m @m))
  .show .inr h,λa o xs h=>e _ _ h @m @m @m,λa C dx fs h=>e _ _ h @m @m @m)
variable{H2:Hp}
def bC.trans(a:bC K H H1)(b:bC K H1 H2):bC K H H2:=(λc xs h=>b.tup c xs (a.tup c xs h),λc o xs h=>b.kg c o xs (a.kg c o xs h),λc C dx fs h=>b.ins c C dx fs (a.ins c C dx fs h))
def bC.of_same(e:bM H H'):bC K H H':=.of_keep λb o h _ _ _=>e b o h
abbrev SameBut(p:af)(H H':Hp):?P:=∀b o,b≠p->H b=θ o->H' b=θ o
variable{p:af}
def SameBut.of_same(e:bM H H'):SameBut p H H':=λb o _ h=>e b o h
def SameBut.trans(a:SameBut p H H1)(b:SameBut p H1 H2):SameBut p H H2:=λc o n h=>b c o n (a c o n h)
def SameBut.upd(o:HO):SameBut p H (upd H p o):=λb u n h=>by rw[be n];show h
def SameBut.tup{K:aa}{p:af}{H H':Hp}{xs:?L V}(e:SameBut p H H')(hp:H p=θ @aj):bC K H H':=.of_keep λb o h n _ _=>e b o (λz=>by rw[z,hp]at h;cases h;show n _ @r) h
def bt(h:H p=ι)(o:HO):bM H (upd H p o):=λb u q=>by rw[be (bQ q h)];show q
section
variable {K:aa}{H H':Hp}
mutual
theorem Rep.mono(e:bC K H H'):∀(d:ak)(v:V),Rep K H d v->Rep K H' d v
 |.none,v,h=>by rw[Rep]at h ⊢;show h
 |.bool _,v,h=>by rw[Rep]at h ⊢;show h
 |.int _,v,h=>by rw[Rep]at h ⊢;show h
 |.str _,v,h=>by rw[Rep]at h ⊢;show h
 |.tuple ds,v,h=>by
  rw[Rep]at h ⊢;let(a,vs,e1,e2,e3):=h;show(a,vs,e1,e.tup a vs e2,bp.mono e ds vs e3)
 |.list ds,v,h=>by
  rw[Rep]at h ⊢;let(a,o,vs,e1,e2,e3):=h;show(a,o,vs,e1,e.kg a o vs e2,bp.mono e ds vs e3)
 |.dict bw,v,h=>by
  rw[Rep]at h ⊢;rcases h with⟨a,C,dx,fs,e1,e2,e3,e4⟩|h
  .show .inl (a,C,dx,fs,e1,e.ins a C dx fs e2,e3,jo.mono e bw _ e4)
  .show .inr (nQ.mono e bw v h)
theorem bp.mono(e:bC K H H'):∀(ds:?L ak)(vs:?L V),bp K H ds vs->bp K H' ds vs
 |[],vs,h=>by rw[bp]at h ⊢;show h
 |d::ds,vs,h=>by
  rw[bp]at h ⊢;let(v,r,e1,e2,e3):=h;show(v,r,e1,Rep.mono e d v e2,bp.mono e ds r e3)
theorem jo.mono(e:bC K H H'):∀(ds:?L (ak×ak)) (vs:?L (χ×V)),jo K H ds vs->jo K H' ds vs
 |[],vs,h=>by rw[jo]at h ⊢;show h
 |(k,d)::ds,vs,h=>by
  rw[jo]at h ⊢;let(g,v,r,e1,e2,e3,e4):=h;show(g,v,r,e1,e2,Rep.mono e d v e3,jo.mono e ds r e4)
theorem nQ.mono(e:bC K H H'):∀(ds:?L (ak×ak)) (v:V),nQ K H ds v->nQ K H' ds v
 |[],v,h=>by rw[nQ]at h;show h.elim
 |(k,d)::ds,v,h=>by
  rw[nQ]at h ⊢;let(h0,h):=h;show(h0,?_);rcases h with h|⟨a,C,dx,val,w,e1,e2,e3,e4⟩
  .show .inl (Rep.mono e d v h)
  .show .inr (a,C,dx,val,w,e1,e.ins a C dx _ e2,jo.mono e ds _ e3,?_);rcases e4 with e4|e4
   .show .inl e4
   .show .inr (Rep.mono e d w e4)
end
def bp.length:∀{ds:?L ak}{vs:?L V},bp K H ds vs->↑vs=↑ds
 |[],vs,h=>by rw[bp]at h;rw[h];rfl
 |d::ds,vs,h=>by
  rw[bp]at h;let(v,r,e1,_,e3):=h;rw[e1,aF,aF,bp.length e3]
def bp.get:∀{ds:?L ak}{vs:?L V}{i:?N}{d:ak},bp K H ds vs->ds[i]?=θ d->∃v,vs[i]?=θ v/\Rep K H d v
 |[],vs,i,d,h,e=>by simp at e
 |x::ds,vs,0,d,h,e=>by
  rw[bp]at h;let(v,r,e1,e2,_):=h;simp at e;subst e e1;show(v,@r,e2)
 |x::ds,vs,i+1,d,h,e=>by
  rw[bp]at h;let(v,r,e1,_,e3):=h;subst e1;let(u,h1,h2):=bp.get (i:=i) (d:=d) e3 (by simpa using e);show(u,by simpa using h1,h2)
def bp.append:∀{ds es:?L ak}{vs ws:?L V},bp K H ds vs->bp K H es ws->bp K H (ds++es) (vs++ws)
 |[],es,vs,ws,h,h'=>by rw[bp]at h;rw[h];show h'
 |d::ds,es,vs,ws,h,h'=>by
  rw[bp]at h;let(v,r,e1,e2,e3):=h;subst e1;rw[df,df,bp];show(v,r++ws,@r,e2,bp.append e3 h')
variable{d:ak}
def bp.one(h:Rep K H d v):bp K H [d] [v]:=by
 rw[bp];show(v,[],@r,h,by rw[bp])
def bp.nil:bp K H [] []:=by rw[bp]
def bp.cons{d:ak}{ds:?L ak}{v:V}{vs:?L V}(h:Rep K H d v)(t:bp K H ds vs):bp K H (d::ds) (v::vs):=by
 rw[bp];show(v,vs,@r,h,t)
variable{ds:?L ak}{vs:?L V}
def bp.split(h:bp K H (d::ds) vs):∃v r,vs=v::r/\Rep K H d v/\bp K H ds r:=by rw[bp]at h;show h
def bp.take:∀{ds:?L ak}{vs:?L V}(n:?N),bp K H ds vs->bp K H (ds.take n) (vs.take n)
 |[],vs,n,h=>by rw[bp]at h;rw[h];simp;show .nil
 |d::ds,vs,0,h=>by simp;show .nil
 |d::ds,vs,n+1,h=>by
  let(v,r,e1,e2,e3):=h.split;subst e1;rw[List.take_succ_cons,List.take_succ_cons];show .cons e2 (bp.take n e3)
def bp.drop:∀{ds:?L ak}{vs:?L V}(n:?N),bp K H ds vs->bp K H (ds.drop n) (vs.drop n)
 |[],vs,n,h=>by rw[bp]at h;rw[h];simp;show .nil
 |d::ds,vs,0,h=>by simpa using h
 |d::ds,vs,n+1,h=>by
  let(v,r,e1,e2,e3):=h.split;subst e1;rw[vK,vK];show bp.drop n e3
def bp.reverse(h:bp K H ds vs):bp K H ds.reverse vs.reverse:=by
 induction ds generalizing vs with
 |nil=>rw[bp]at h;rw[h];show .nil
 |cons d ds ih=>
  let(v,r,e1,e2,e3):=h.split;subst e1;rw[dQ,dQ];show(ih e3).append (.one e2)
variable{a:af}
def Rep.tuple(h:eI K H a vs)(r:bp K H ds vs):Rep K H (.tuple ds) @x:=by
 rw[Rep];show(a,vs,@r,h,r)
def Rep.gf(h:Rep K H (.tuple ds) v):∃a vs,v = .ref a/\eI K H a vs/\bp K H ds vs:=by rw[Rep]at h;show h
def Rep.int(i:?I):Rep K H @T @T:=by rw[Rep]
def Rep.str(x:χ):Rep K H @S @S:=by rw[Rep]
def Rep.bool(b:?B):Rep K H (.bool b) (.bl b):=by rw[Rep]
def Rep.fB:Rep K H .none .fB:=by rw[Rep]
variable{i:?I}
def Rep.cX(h:Rep K H @T v):v = .int i:=by rw[Rep]at h;show h
variable{x:χ}
def Rep.eP(h:Rep K H @S v):v = .str x:=by rw[Rep]at h;show h
def Rep.is_bool{b:?B}(h:Rep K H (.bool b) v):v = .bl b:=by rw[Rep]at h;show h
def Rep.lR(h:Rep K H .none v):v = .fB:=by rw[Rep]at h;show h
end
section
variable {X:Cx}{π:?L @u}{σ:St}{H:Hp}{s:ao}
mutual
theorem Inv.reads(I:Inv X π σ H s):∀(d:ak)(v:V)(u:ai),Rep X.K H d v->RelV v u->d.canLay0=ξ->∃as,Reads s.heap u d as
 |.none,v,u,h,r,_=>by rw[Rep]at h;subst h;cases r;show(_,.none)
 |.bool b,v,u,h,r,_=>by rw[Rep]at h;subst h;cases r;show(_,.bool b)
 |.int i,v,u,h,r,_=>by rw[Rep]at h;subst h;let(t,rfl):=r;show(_,.int i t)
 |.str x,v,u,h,r,_=>by rw[Rep]at h;subst h;let(t,rfl):=r;show(_,.str x t)
 |.tuple ds,v,u,h,r,c=>by
  rw[Rep]at h;let(a,vs,e1,e2,e3):=h;subst e1;cases r;let(cA,rv,(o,ho,hc,n,hd),_):=I.tuple e2;let(as,ra):=Inv.readsAll I ds vs cA e3 rv (by simpa[hV]using c);show(as,.tuple ho hc hd<|by simpa using ra)
 |.list ds,v,u,h,r,c=>by
  rw[Rep]at h;let(a,o0,vs,e1,e2,e3):=h;subst e1;cases r;let(cA,rv,(o,n,ho,hc,_,hd),_):=I.list (.inl<|.inr (o0,e2));let(as,ra):=Inv.readsAll I ds vs cA e3 rv (by simpa[hV]using c);show(a::as,.list ho hc hd<|by simpa using ra)
 |.dict _,v,u,h,r,c=>by simp[hV]at c
theorem Inv.readsAll(I:Inv X π σ H s):∀(ds:?L ak)(vs:?L V)(us:?L ai),bp X.K H ds vs->dD vs us->iz ds=ξ->∃as,ReadsAll s.heap us ds as
 |[],vs,us,h,r,_=>by rw[bp]at h;subst h;cases r;show(_,.nil)
 |d::ds,vs,us,h,r,c=>by
  rw[bp]at h;let(v,w,e1,e2,e3):=h;subst e1;rw[iz,aZ]at c;cases r with
  |cons r1 r2=>
   let(as,ra):=Inv.reads I d v _ e2 r1 c.1;let(bs,rb):=Inv.readsAll I ds w _ e3 r2 c.2;show(_,.cons ra rb)
end
abbrev MM(K:aa)(H:Hp)(d:ak)(v:V):?P:=match d with
 |.list ds=>∃a vs,v = .ref a/\gF K H a vs/\bp K H ds vs
 |d=>Rep K H d v
variable{d:ak}{u:ai}
def Inv.E7(I:Inv X π σ H s)(h:MM X.K H d v)(r:RelV v u)(c:d.canLay0=ξ):∃as,Reads s.heap u d as:=by
 cases d with
 |list ds=>
  let(a,vs,e1,e2,e3):=h;subst e1;cases r;let(cA,rv,(o,n,ho,hc,_,hd),_):=I.list e2;let(as,ra):=I.readsAll ds vs cA e3 rv (by simpa[hV]using c);show(a::as,.list ho hc hd<|by simpa using ra)
 |_=>show I.reads _ v u h r c
abbrev an2(K:aa)(n:?N):R2:=λx y H Q=>∃d e,MM K H d x/\MM K H e y/\d.canLay0=ξ/\e.canLay0=ξ/\(d.depth<=n\/e.depth<=n)/\Q (.bl<|hZ d e) H
abbrev an3(K:aa)(n:?N):R2:=λx y H Q=>∃d e,MM K H d x/\MM K H e y/\d.canLay0=ξ/\e.canLay0=ξ/\(d.depth<=n\/e.depth<=n)/\Q (.bl<|!hZ d e) H
def OT(hu:X.A.units + n<cLine):wQ X (compareOp .Eq) (an2 X.K n):=by
 intro π s σ H x y v u Q I rx ry h;let(d,e,hd,he,cd,ce,hn,q):=h;let(as,ra):=I.E7 hd rx cd;let(bs,rb):=I.E7 he ry ce;show SeqAt.compareEq_reads ra rb cd ce @o (.bl _,H,I,@r,q)
def WV(hu:X.A.units + n<cLine):wQ X (compareOp .NotEq) (an3 X.K n):=by
 intro π s σ H x y v u Q I rx ry h;let(d,e,hd,he,cd,ce,hn,q):=h;let(as,ra):=I.E7 hd rx cd;let(bs,rb):=I.E7 he ry ce;show SeqAt.compareNe_reads ra rb cd ce @o (.bl _,H,I,@r,q)
end
abbrev E8(K:aa):R2:=λx y H Q=>∃a b xs ys,x = .ref a/\y = .ref b/\eI K H a xs/\eI K H b ys/\↑xs + ↑ys<=au/\
 (xs=[]->Q (.ref b) H)/\(xs≠[]->ys=[]->Q @x H)/\(xs≠[]->ys≠[]->∀p,H p=ι->Q (.ref p) (upd H p<|.tup<|xs++ys))
section
variable {X:Cx}
def xk:wQ X (binaryOp .Add) (E8 X.K):=by
 intro π s σ H x y v u Q I rx ry h;ext;let(a,b,xs,ys,rfl,rfl,ha,hb,hz,q0,q1,q2):=h;ext;by_cases hx:xs=[]
 .ext;cases rx;cases ry;let(cA,r1,((cls,dd,data,sl),ho,hc,n,hd),_):=I.tuple ha;let(rN,r2,((al5,dd2,data2,sl2),Wy,qT,n2,hd2),_):=I.tuple hb;simp only at hc hd qT hd2;subst hc hd qT hd2;ext;have e0:cA=[]:=r1.Ae.mpr hx;show concat_meets (_,ho,@r) (_,Wy,@r) noFill_tuple_add seq_tuple_add rC qJ (pZ _ _)
   (tuple_addW0 a b cA.toArray rN.toArray n n2 dd dd2 sl sl2<|by simp[e0]) (ho,Wy,(.ref b,H,I,@r,q0 hx))
 .show SK π s σ H @x (.ref b) v u Q I rx ry (a,b,xs,ys,@r,@r,ha,hb,hx,hz,q1 hx,q2 hx)
variable{a b:af}{xs ys:?L V}
def OU{Q:VK}(ha:eI K H a xs)(hb:eI K H b ys)(hz:↑xs + ↑ys<=au)(q:∀(c:af)(H':Hp),bM H H'->eI K H' c (xs++ys)->Q (.ref c) H'):E8 K @x (.ref b) H Q:=
 (a,b,xs,ys,@r,@r,ha,hb,hz,λe=>q b H @F (by rw[e];show hb),λ_ e=>q a H @F (by rw[e,bP];show ha),λ_ _ p hp=>q p _ (bt hp _) (eI.of aA))
def E9:wQ X (binaryOp .Mult) (λx y H Q=>∃z n,x = .str z/\y = .int n/\0<↑z/\1<n/\n<=1000/\↑z<=1000/\Q (.str<|Txt.mul z n) H):=by
 intro π s σ H x y v u Q I rx ry h;ext;let(z,n,rfl,rfl,h0,h1,h2,h3,q):=h;let(t,rfl):=rx;let(t',rfl):=ry;ext;have hb:(↑z:?I) * n<=1000000:=by
  have a1:(↑z:?I)<=1000:=by omega
  have a2:(↑z:?I) * n<=1000 * n:=Int.mul_le_mul_of_nonneg_right a1 @o;omega
 show SB.mul (?_,λ_ _ hh=>?_,λ_ _=>?_) λt' k=>(.str _,H,I.tok _,(_,@r),q)
 .rw[?f @o,?f @o];rfl
 .have:(2 ^ 63 - 1:?I) / n>=1000:=by
   rw[ge_iff_le,Int.le_ediv_iff_mul_le @o];omega
  omega
 .change C5 _=υ;unfold C5;show ?f ?_;have e:((↑z * n.toNat:?N):?I)=(↑z:?I) * n:=by rw[Int.natCast_mul,gQ @o]
  have hs:au=16777216:=dC;omega
inductive S7(K:aa)(H:Hp):V->ai->?P where
 |of {x:V} {t:ai} (h:vR K H x t):S7 K H x t
 |sqT {a:af} {xs:?L V} (h:eI K H a xs):S7 K H @x (.type "tuple")
 |sqL {a:af} {xs:?L V} (h:gF K H a xs):S7 K H @x (.type "list")
def G9:tO X (.builtin "isinstance") (λxs H Q=>∃x T t b,xs=[x,.ty T]/\S7 X.K H x t/\aS X.K t (.type T)=θ b/\Q (.bl b) H):=by
 intro π s σ H xs us Q I r h;let(x,T,t,b,rfl,ty,e,q):=h;let(u,w',rfl,rx,rt):=vals2 r;cases rt;cases ty with
 |of ty=>show DY I rx ty e λtk=>(.bl b,H,I.tok _,@r,q)
 |sqT hq=>
  cases rx;let(cA,_,(o,h1,h2,_),_):=I.tuple hq;show du vp I.vd (o,h1,h2) e @n λtk=>(.bl b,H,I.tok _,@r,q)
 |sqL hq=>
  cases rx;let(cA,_,(o,n,h1,h2,_),_):=I.list hq;show du pL I.vd (o,h1,h2) e @n λtk=>(.bl b,H,I.tok _,@r,q)
abbrev an4(K:aa):?L V->Hp->VK->?P:=λxs H Q=>∃x T t b,xs=[x,.ty T]/\S7 K H x t/\aS K t (.type T)=θ b/\Q (.bl b) H
variable{e:bR}{x:χ}{T:?S}{p2 pos:Pos}
def qV{p:Pos}(hg:Gl X "isinstance")(hm:X.mg "isinstance"=ι)(WW:Gl X x)(WX:X.mg x=ι)(hv:bootBuiltins x=θ (.type T))(he:PE X e te)(hn:x≠"__name__":=by decide)(hd:(x==("__debug__":χ))=υ:=by decide)(hs:aq [e,.Name x p2] X.env=@c::aq [.Name x p2] X.env:=by rfl):
  PE X (.Call (.Name "isinstance" p) [e,.Name x p2] [] pos) (tCB (an4 X.K)<|GW te<|GW (tC<|.ty T) Ol):=
 eW (G9 (X:=X)) hg hm boot_isinstance (ax he (ax (Sx WW WX hv @r hn hd) bh) hs) @d @d hs
end
section
variable {prog:bu}{w:bU}{A:cy}{E:ai->ao->?P}{s:ao}
open AutoSeq1 (wpAny_loadPart')
variable{it t:af}{items:?R ai}{Q:ai->ao->?P}
def zP{i:?N}{x:ai}(hit:s.heap.IsTupleIter it t i)(ht:s.heap.IsTuple t items)(hx:items[i]?=θ x)(hQ:∀h',h'.IsTupleIter it t @X->iJ it s.heap h'->Q x {s with heap:=h'}):aU @v A (cO<|.ref it) Q E s:=by
 let(oi,OV,hci,S8):=id hit;let(ot,hot,_,nt,hdt):=ht;unfold cO;show ae (fJ (name:=jr "__next__") hit.typeIs ky<|fK ky hit.typeIs EK ?_<|Dw _);change aU _ _ (field (.ref it) 0 >>= _) _ _ _;show ae (dO OV S8 (x:=.ref t) @r ?_);change aU _ _ (if(cv t==eQ)=ξ then _ else _) _ _ _;rw[?n (show ¬((cv t==eQ)=ξ) by show bj)];change aU _ _ (field (.ref it) 1 >>= _) _ _ _;show ae (dO OV S8 (x:=.int i 0) @r ?_);change aU _ _ (seqItems? (.ref t) >>= _) _ _ _;show ae (gK hot hdt ?_);simp only[gI,hx];show ae (IC OV S8 @s<|av (x,@r,av<|hQ _ ?_<|rF ..));show(_,et _ OV<|Obj.isFreed_of_fields<|Obj.data_mapFields S8 _,(Obj.cls_mapFields ..).trans hci,by rw[Obj.data_mapFields S8];simp[rawInt])
def A1{i:?N}(hh:A.handled=ι)(hit:s.heap.IsTupleIter it t i)(ht:s.heap.IsTuple t items)(hx:items[i]?=ι)(hE:∀h' e,Heap.ExtBut it s.heap h'->(∃o,h'.get? e=θ o/\o.cls = .type "StopIteration")->E (.ref e) {s with heap:=h'}):aU @v A (cO<|.ref it) Q E s:=by
 let(oi,OV,hci,S8):=id hit;let(ot,hot,_,nt,hdt):=ht;unfold cO;show ae (fJ (name:=jr "__next__") hit.typeIs ky<|fK ky hit.typeIs EK ?_<|Dw _);change aU _ _ (field (.ref it) 0 >>= _) _ _ _;show ae (dO OV S8 (x:=.ref t) @r ?_);change aU _ _ (if(cv t==eQ)=ξ then _ else _) _ _ _;rw[?n (show ¬((cv t==eQ)=ξ) by show bj)];change aU _ _ (field (.ref it) 1 >>= _) _ _ _;show ae (dO OV S8 (x:=.int i 0) @r ?_);change aU _ _ (seqItems? (.ref t) >>= _) _ _ _;show ae (gK hot hdt ?_);simp only[gI,hx];show ae (vt<|ae<|IC OV S8 @s ?_);change aU _ _ (newExc (.type "StopIteration") [] >>= _) _ _ _;show ae ?_;simp only[newExc,newTuple];show ae (eG ?_<|by size_fits);show ae (m:=firstArgMember _ _) (wpAny_of_eq (a:=eQ) (by first|rfl|(simp only[firstArgMember];rfl)) ?_);show eG ?_ (by size_fits);simp only[raiseNew];show ae (wpAny_handled ?_)
 first|rw[show A.in1.handled=ι from hh]|rw[hh]
 show ae (av<|wpAny_throw<|hE _ _ (((rF ..).extBut.push _).push _) (_,aQ _ @r,@r))
end
variable{prog:bu}{w:bU}{A:cy}
def Eb(hh:A.handled=ι)(it t:af)(Ec:t≠it)(items:?R ai):
  Draws prog w A it [it,t] items.size (λi v=>items[i]?=θ v) (λi h=>h.IsTupleIter it t i/\h.IsTuple t items) where
 live:=λ_ _ st=>by let(o,ho,_):=st.1;show (o,ho)
 frame:=λ_ _ _ st hk=>(let⟨o,ho,r⟩:=st.1;(o,hk it @s o ho,r),(by let(o,ho,r):=st.2;show (o,hk t @s o ho,r)))
 item:=λi s Q E hi st hQ=>zP st.1 st.2 (x:=items[i]) (by simp[hi]) λh' h1 h2=>hQ _ h' s.toks (by simp[hi]) (h1,st.2.extBut h2.extBut Ec) h2
 done:=λs Q E st hE=>A1 hh st.1 st.2 @s hE
section
open AutoSeq1 (wpAny_loadPart')
def A3(l:af)(items:?R ai)(n:?N)(dct:?O af)(sl:?R (?O ai)):
  Meets (Builtin.«enumerate.__new__» ([.type "enumerate",.ref l],[])) (λ_ R s=>s.heap.get? l=θ {cls:=.type "tuple",dict:=dct,data:=.seq items n,slots:=sl}/\
   R (.ok<|.ret<|.ref (s.heap.push {cls:=.type "tuple_iterator",data:=.fields #[.ref l,.int 0 0]}).objs.size)
    {s with heap:=(s.heap.push {cls:=.type "tuple_iterator",data:=.fields #[.ref l,.int 0 0]}).push {cls:=.type "enumerate",data:=.fields #[.none,.bool υ,.ref ↥s,rawInt 0,.none,.none]}}):=
 .of_wp λprog w A R s h=>by
  ext;let(hp,g,d,tk,os):=s;let(hl,h):=h;ext;have an5:=sub_enumerate;have hL:GK (GL (hp,g,d,tk,os)) l items:=(_,hl,@r,n,@r)
  wp_walk using vL hl
  show wpAny_stack_any λst=>av ?_;split
  .rename_i c _ _ _ _ _;cases(c==jg "enumerate")
   .wp_walk using vL hl,jI hL
    show(_,@r,h)
   .wp_walk using vL hl,jI hL
    show(_,@r,h)
  .wp_walk using vL hl,jI hL
   show(_,@r,h)
variable{E Q:ai->ao->?P}{s:ao}{l:af}{items:?R ai}
def Df(hL:s.heap.IsTuple l items)(h:∀h',IsEnum h' (↥s+1) ↥s 0 .none->h'.IsTupleIter ↥s l 0->h'.objs.size=↥s+2->(∀b o,s.heap.get? b=θ o->h'.get? b=θ o)->
   Q (.ref<|↥s+1) {s with heap:=h'}):aU @v A (call (.type "enumerate") [.ref l]) Q E s:=by
 let((c,dct,dt,sl),hl,hc,n,hd):=hL;replace hc:c = .type "tuple":=hc;replace hd:dt = .seq items n:=hd;subst hc hd;show callType_new F.called_enumerate @d (F.typeCall_enumerate_1 _) (F.newCall_enumerate_1 _) (λobj=>F.args_object_init_2 obj _) F.entry_enumerate_new (A3 l items n dct sl) (hl,?_);have hz:(s.heap.push {cls:=.type "tuple_iterator",data:=.fields #[.ref l,.int 0 0]}).objs.size=↥s+1:=gA ..;change _/\_;rw[hz];have he:IsEnum ((s.heap.push {cls:=.type "tuple_iterator",data:=.fields #[.ref l,.int 0 0]}).push {cls:=.type "enumerate",data:=.fields #[.none,.bool υ,.ref ↥s,rawInt 0,.none,.none]}) (↥s+1) ↥s 0 .none:=by
  have q:=aQ (s.heap.push {cls:=.type "tuple_iterator",data:=.fields #[.ref l,.int 0 0]}) (o:={cls:=.type "enumerate",data:=.fields #[.none,.bool υ,.ref ↥s,rawInt 0,.none,.none]}) @r;rw[hz]at q;show q
 show((_,he,@r),h _ he (_,ah _<|aQ _ @r,@r,@r) (by rw[gA,hz]) λb o x=>ah _ (ah _ x))
end
abbrev JE(src:Hp->?L V->?P):It:=
 (λi H=>∃xs,src H xs/\i<↑xs,λi H v H'=>∃p x,v = .ref p/\H p=ι/\H'=upd H p (.tup [.int i,x])/\∀xs,src H xs->xs[i]?=θ x,λi H=>∃xs,src H xs/\i=↑xs)
variable{P:bu}{elts:?L bR}{k:?N}{pos:Pos}
def Ed(src:Hp->?L V->?P)(e it t:af)(hei:e≠it)(hte:t≠e)(hti:t≠it)(si:?N->cD->?P)(ct:?R ai->cD->?P)(hsi:∀i h,si i h->∃o,h.get? it=θ o/\∀v,o.data≠.cell v)(WY:∀i h h',si i h->(∀o,h.get? it=θ o->h'.get? it=θ o)->si i h')(hct:∀items h,ct items h->∃o,h.get? t=θ o)(GV:∀items h h',ct items h->(∀o,h.get? t=θ o->h'.get? t=θ o)->ct items h')(hD:∀(A:cy),A.handled=ι->∀items,Draws P w A it [it,t] items.size (λi v=>items[i]?=θ v)<|λi h=>si i h/\ct items h)(hS:∀(X:Cx),X.prog=P->X.w=w->X.K=K->∀(π:?L @u) (s:ao) (σ:St) (H:Hp) xs,Inv X π σ H s->src H xs->∃cA:?L ai,dD xs cA/\ct cA.toArray s.heap/\↑xs<=au)(hI:∀(X:Cx),X.prog=P->X.w=w->X.K=K->∀(π:?L @u) (s:ao) (σ:St) (H:Hp) xs ys,Inv X π σ H s->src H xs->src H ys->xs=ys):
  Turn P w K (.Tuple elts k pos) (JE src) [e,it] e (λi h=>(∃old,IsEnum h e it i old)/\si i h) where
 mem:=by simp
 obj:=λi h st b hb=>by
  let((old,h1),h2):=st;rcases bg.mp hb with rfl|hb
  .show(_,h1,λv z=>by cases z)
  .have e0:b=it:=by simpa using hb
   rw[e0];show hsi i h h2
 keep:=λi h h' st hk=>by
  let((old,h1),h2):=st;show((old,hk e @s _ h1),WY i h h' h2 λo q=>hk it @s o q)
 item:=by
  intro X hP hw hK hc i π s σ H E I hf st hg;have hP':=hP;have WZ:=hw;have hK':=hK;ext;subst hP hw hK;let(xs,S9,hi):=hg;let(cA,rv,W0,hz):=hS X @r @r @r π s σ H xs I S9;let((old,h1),h2):=st;ext;have D:=hD X.A.in1 (I.ok.hd hc) cA.toArray;have WT:=WalksT.enumerateD (A:=X.A) D e hei (by simp[hei,cp hte]) @s;have fE:=hf e @s;have fI:=hf it @s;have hlen:=↑rv;show WT.item i s _ E (by rw[aI];omega) ((old,h1),h2,W0) λT vals h' tk hPt hTz an6 an7 hk=>?_;ext;let(tt,xv,hxv,rfl):=hPt;have hx:xs[i]?=θ (xs[i]'hi):=ag hi;let(u,hu,ru):=rv.get hx;have exv:xv=u:=by
   have q:cA[i]?=θ xv:=by simpa using hxv
   rw[hu]at q;show(bf q).symm
  subst exv;ext;show(.ref T,@r,?_);have ad4:∀b o,b≠e->b≠it->s.heap.get? b=θ o->h'.get? b=θ o:=λb o n1 n2 q=>hk b o (by simp[n1,n2]) q;have ZH:H T=ι:=I.eD.fresh hTz;have Om:h'.IsTuple T #[.int i tt,xv]:=an6;have step:∀{h2:cD}{U3:?N},(∀b o,b≠e->b≠it->s.heap.get? b=θ o->h2.get? b=θ o)->h2.IsTuple T #[.int i tt,xv]->Inv X π σ (upd H T<|.tup [.int i,xs[i]'hi]) {s with heap:=h2,toks:=U3}:=λ{h2 U3} kp tp=>by
   have n0:∀b u,H b=θ u->b≠e/\b≠it:=λb u q=>(λz=>(by rw[z,fE.1]at q;cases q),λz=>(by rw[z,fI.1]at q;cases q));show I.step (g':=s.gens) (d':=s.drawn) (ch:=[e,it]) (λb hb=>?_) (λb o _ _ hb q _=>kp b o (λz=>hb (by simp[z])) (λz=>hb (by simp[z])) q) (λb o _ _ hb q _=>(o.slots,kp b o (λz=>hb (by simp[z])) (λz=>hb (by simp[z])) q))
    (λb o hb q n=>by rw[be (bz<|bJ (aO q) hTz)];show n) (λb o hb q=>(o,kp b o (λz=>hb (by simp[z])) (λz=>hb (by simp[z])) q))
    (λb ys q=>by rw[be (bQ q ZH)];show q) (λb ob v q=>by rw[be (bQ q ZH)];show q) (λb ps q=>(#[],by rw[be (bQ q ZH),q];simp)) (λm hm=>?_) (λb v q=>?_) I.bare
   .rcases bg.mp hb with rfl|hb
    .show(fE.2.2.2.1,fE.2.1,fE.2.2.2.2.1,fE.2.2.2.2.2)
    .have e0:b=it:=by simpa using hb
     subst e0;show(fI.2.2.2.1,fI.2.1,fI.2.2.2.2.1,fI.2.2.2.2.2)
   .ext;let(o,es,ep,ho,r):=hm;ext;show(o,es,ep,kp _ o (cp fE.2.1) (cp fI.2.1) ho,r)
   .by_cases hb:b=T
    .subst hb;rw[aA]at q;cases q;show(by change 2<=au;decide,[.int i tt,xv],.cons (_,@r)<|.cons ru .nil,tp)
    .rw[be hb]at q;show(I.eD b v q).sY (λc w' Je q'=>kp c w' ?_ ?_ q') (λc q'=>by rw[be (bQ q' ZH)];show q') λc ys q'=>by rw[be (bQ q' ZH)];show q'
     .rcases Je with z|z
      .rw[z];show(n0 b v q).1
      .show(n0 c _ z).1
     .rcases Je with z|z
      .rw[z];show(n0 b v q).2
      .show(n0 c _ z).2
  show WT.go elts k pos i T _ _ E an7 λh2 C9 NQ=>?_;have hTe:T≠e:=eA (bJ (aO h1) hTz);have hTi:T≠it:=by let(o,q,_):=hsi _ _ ‹si i s.heap›;show eA (bJ (aO q) hTz)
  have tp2:h2.IsTuple T #[.int i tt,xv]:=let⟨o,q,r⟩:=Om;(o,NQ T o (by simp[hTe,hTi]) q,r);have kp2:∀b o,b≠e->b≠it->s.heap.get? b=θ o->h2.get? b=θ o:=λb o n1 n2 q=>NQ b o (by simp[n1,n2]) (ad4 b o n1 n2 q);show(.ref T,_,step (U3:=tk) kp2 tp2,@r,(T,xs[i]'hi,@r,ZH,@r,λys hy=>by rw[hI X @r @r @r π s σ H ys xs I hy S9];show hx),(C9.1,C9.2.1),λb hb=>?_);rw[be]
  .show(hf b hb).1
  .rcases bg.mp hb with rfl|hb
   .show cp hTe
   .have e0:b=it:=by simpa using hb
    rw[e0];show cp hTi
 done:=by
  intro X hP hw hK hc i π s σ H E I hf st hg;ext;subst hP hw hK;let(xs,S9,hi):=hg;let(cA,rv,W0,hz):=hS X @r @r @r π s σ H xs I S9;let((old,h1),h2):=st;have D:=hD X.A.in1 (I.ok.hd hc) cA.toArray;have WT:=WalksT.enumerateD (A:=X.A) D e hei (by simp[hei,cp hte]) @s;have fE:=hf e @s;have fI:=hf it @s;have hlen:=↑rv;have Sg:i=cA.toArray.size:=by rw[aI];omega
  subst Sg;ext;show WT.done s _ E ((old,h1),h2,W0) λh' tk hk=>(@r,?_);have n0:∀b u,H b=θ u->b≠e/\b≠it:=λb u q=>(λz=>(by rw[z,fE.1]at q;cases q),λz=>(by rw[z,fI.1]at q;cases q));have kp:∀b o,b≠e->b≠it->s.heap.get? b=θ o->h'.get? b=θ o:=λb o n1 n2 q=>hk b o (by simp[n1,n2]) q;show I.step (g':=s.gens) (d':=s.drawn) (ch:=[e,it]) (λb hb=>?_) (λb o _ _ hb q _=>kp b o (λz=>hb (by simp[z])) (λz=>hb (by simp[z])) q) (λb o _ _ hb q _=>(o.slots,kp b o (λz=>hb (by simp[z])) (λz=>hb (by simp[z])) q))
   (λb o hb q n=>n) (λb o hb q=>(o,kp b o (λz=>hb (by simp[z])) (λz=>hb (by simp[z])) q)) (λb ys q=>q) (λb ob v q=>q) (λb ps q=>(#[],by rw[q];simp)) (λm hm=>?_) (λb v q=>?_) I.bare
  .rcases bg.mp hb with rfl|hb
   .show(fE.2.2.2.1,fE.2.1,fE.2.2.2.2.1,fE.2.2.2.2.2)
   .have e0:b=it:=by simpa using hb
    subst e0;show(fI.2.2.2.1,fI.2.1,fI.2.2.2.2.1,fI.2.2.2.2.2)
  .ext;let(o,es,ep,ho,r):=hm;ext;show(o,es,ep,kp _ o (cp fE.2.1) (cp fI.2.1) ho,r)
  .show(I.eD b v q).sY (λc w' Je q'=>kp c w' ?_ ?_ q') (λc q'=>q') λc ys q'=>q'
   .rcases Je with z|z
    .rw[z];show(n0 b v q).1
    .show(n0 c _ z).1
   .rcases Je with z|z
    .rw[z];show(n0 b v q).2
    .show(n0 c _ z).2
 self:=λA i s Q E st h=>by
  let((old,h1),_):=st;show CQ h1 h
section
variable {X:Cx}{l:bR}{ta:TA}{elts:?L bR}{k:?N}{p pos vg:Pos}
abbrev an8(K:aa)(ta:TA):TI:=λσ H R=>ta σ H λvs H1=>∃a xs,vs=[.ref a]/\eI K H1 a xs/\R (JE λH ys=>eI K H a ys) H1
abbrev an9(K:aa)(ta:TA):TI:=λσ H R=>ta σ H λvs H1=>∃a xs,vs=[.ref a]/\gF K H1 a xs/\R (JE λH ys=>gF K H a ys) H1
def OW(hg:Gl X "enumerate")(hm:X.mg "enumerate"=ι)(ha:PA X [l] ta)(hs:aq [l] X.env=[(υ,eval l X.env,)]:=by rfl):PI X (.Tuple elts k vg) (.Call (.Name "enumerate" p) [l] [] pos) (an8 X.K ta):=by
 intro π s σ H R I h;show Call_ (nJ I hg hm boot_enumerate<|cI (gh @ad λ us s1  eg=>?_) hs @r);ext;let(vs,H1,I1,r1,q1):=eg;let(a,xs,e,hq,q):=q1;subst e;let(u,rfl,ru):=vals1 r1;cases ru;let(cA,rv,pt,hz):=I1.tuple hq;ext;have MO:a<↥s1:=pt.lt;show Df (show s1.heap.IsTuple a cA.toArray from pt) λh' he hi hz' hk=>CQ he ?_
 show(↥s1+1,[↥s1+1,↥s1],_,_,H1,@r,I1.kept (t':=s1.toks) hk,Ed (λH ys=>eI X.K H a ys) (↥s1+1) ↥s1 a (Nat.succ_ne_self _) (bz<|mw MO) (bz MO)
   (λi h=>h.IsTupleIter ↥s1 a i) (λitems h=>h.IsTuple a items) (by rintro i h ⟨o,e1,_,e2⟩;show (o,e1,λv z=>by rw[e2]at z;cases z)) (by rintro i h h' ⟨o,e1,r⟩ k;show (o,k o e1,r)) (by rintro items h ⟨o,e1,_⟩;show (o,e1)) (by rintro items h h' ⟨o,e1,r⟩ k;show (o,k o e1,r))
   (λA hh items=>Eb hh ↥s1 a (bz MO) items)
   (λX' hP hw hK vx s' fo H' ys I' hy=>by
    rw[<-hK]at hy;let(pV,rv',pt',OX):=I'.tuple hy
    show(pV,rv',pt',OX))
   (λX' hP hw hK vx s' fo H' ys zs I' hy U4=>by rw[<-hK]at hy U4;show I'.uN hy U4),
  ((_,he),hi),λb hb=>?_,q)
 rcases bg.mp hb with rfl|hb
 .show I1.rK (j9 _) (I1.eD.fresh<|j9 _)
 .have e0:b=↥s1:=by simpa using hb
  subst e0;show I1.rK @E (I1.eD.fresh @E)
def OY(hg:Gl X "enumerate")(hm:X.mg "enumerate"=ι)(ha:PA X [l] ta)(hs:aq [l] X.env=[(υ,eval l X.env,)]:=by rfl):PI X (.Tuple elts k vg) (.Call (.Name "enumerate" p) [l] [] pos) (an9 X.K ta):=by
 intro π s σ H R I h;show Call_ (nJ I hg hm boot_enumerate<|cI (gh @ad λ us s1  eg=>?_) hs @r);let(vs,H1,I1,r1,q1):=eg;let(a,xs,e,hq,q):=q1;subst e;let(u,rfl,ru):=vals1 r1;cases ru;let(cA,rv,pl,hz):=I1.list hq;have MO:a<↥s1:=(by let(o,_,e,_):=pl;show aO e);show call_enumerate_list pl.isList λh' he hi hz' hk=>CQ he ?_
 show(↥s1+1,[↥s1+1,↥s1],_,_,H1,@r,I1.kept (t':=s1.toks) hk,Ed (λH ys=>gF X.K H a ys) (↥s1+1) ↥s1 a (Nat.succ_ne_self _) (bz<|mw MO) (bz MO)
   (λi h=>h.IsListIter ↥s1 a i) (λitems h=>h.IsList a items) (by rintro i h ⟨o,e1,_,e2⟩;show (o,e1,λv z=>by rw[e2]at z;cases z)) (by rintro i h h' ⟨o,e1,r⟩ k;show (o,k o e1,r)) (by rintro items h ⟨o,e1,_⟩;show (o,e1)) (by rintro items h h' ⟨o,e1,r⟩ k;show (o,k o e1,r))
   (λA hh items=>Draws.list hh ↥s1 a (bz MO) items)
   (λX' hP hw hK vx s' fo H' ys I' hy=>by
    rw[<-hK]at hy;let(pV,rv',zu,OX):=I'.list hy
    show(pV,rv',zu.isList,OX))
   (λX' hP hw hK vx s' fo H' ys zs I' hy U4=>by rw[<-hK]at hy U4;show I'.AJ hy U4),
  ((_,he),hi),λb hb=>?_,q)
 rcases bg.mp hb with rfl|hb
 .show I1.rK (j9 _) (I1.eD.fresh<|j9 _)
 .have e0:b=↥s1:=by simpa using hb
  subst e0;show I1.rK @E (I1.eD.fresh @E)
variable{xs:?L V}{g:TG}{tb:TS}{D:Ends}
def OZ{src:Hp->?L V->?P}(Pv:?N->St->Hp->?P)(h0:Pv 0 σ H)(hl:∀i σ H,i<=↑xs->Pv i σ H->src H xs)(hs:∀i x σ H p,xs[i]?=θ x->Pv i σ H->H p=ι->g (.ref p) σ (upd H p<|.tup [.int i,x]) λwO H2=>tb {D with nx:=Pv @X,ct:=Pv @X,bk:=D.nx} wO H2)(hd:∀σ H,Pv ↑xs σ H->D.nx σ H):
  ∃W:?N->?N->St->Hp->?P,(∃m,W 0 m σ H)/\∀i m σ H,W i m σ H->
   ((JE src).stop i H/\D.nx σ H)\/((JE src).go i H/\∃N:St->Hp->?P,(∀fo H',N fo H'->∃m',m'<m/\W @X m' fo H')/\∀x H',(JE src).DH i H x H'->g x σ H' λwO H2=>tb {D with nx:=N,ct:=N,bk:=D.nx} wO H2):=by
 show(λi m σ H=>m=↑xs - i/\i<=↑xs/\Pv i σ H,(↑xs,by simp,cE _,h0),?_);rintro i m σ H ⟨rfl,hi,p⟩;have q:=hl i σ H hi p;by_cases nM:i<↑xs
 .show .inr ((xs,q,nM),Pv @X,λfo H' p'=>(↑xs - @X,by omega,@r,nM,p'),λv H' y=>?_);let(a,x,e1,e2,e3,e4):=y;subst e1 e3;show hs i x σ H a (e4 xs q) p e2
 .have e:i=↑xs:=by omega
  subst e;show .inl ((xs,q,@r),hd σ H p)
end
abbrev MP(K:aa)(a:af)(n:?N):It:=
 (λi H=>i<n/\∃xs,gF K H a xs/\↑xs=n,λi H x H'=>H'=H/\∀xs,gF K H a xs->↑xs=n->xs[n - 1 - i]?=θ x,λi H=>i=n/\∃xs,gF K H a xs/\↑xs=n)
variable{tg:bR}
def O0(a it:af)(n:?N)(Ec:a≠it):Turn P w K tg (MP K a n) [it] it (λi h=>i<=n/\h.IsRevIter it a ((n:?I) - 1 - (i:?I))) where
 mem:=by simp
 obj:=λi h st b hb=>by
  have e:b=it:=by simpa using hb
  ext;subst e;let(_,o,e,c,d):=st;ext;show(o,e,λv z=>by rw[d]at z;cases z)
 keep:=λi h h' st k=>(st.1,st.2.at λo e=>k it @s o e)
 item:=by
  intro X hP hw hK hc i π s σ H E I hf st hg;ext;subst hP hw hK;let(hi,xs,hq,hlen):=hg;let(cA,rv,p,hz):=I.list hq;have hl:=↑rv;have hx:xs[n - 1 - i]?=θ (xs[n - 1 - i]'(by omega)):=ag _;let(u,hu,ru):=rv.get hx;let(f0,f1,f2,f3,f4,f5):=hf it @s;ext;have e1:(n:?I) - 1 - (i:?I)=((n - 1 - i:?N):?I):=by omega
  have hit:=st.2;rw[e1]at hit;show wpAny_pyNext_rev_item hit p.isList (x:=u) (by simpa using hu) λh' W4 sb=>?_;have e2:((n - 1 - i:?N):?I) - 1=(n:?I) - 1 - ((i+1:?N):?I):=by omega
  rw[e2]at W4;have I1:Inv X π σ H {s with heap:=h'}:=I.turned (t':=s.toks) (λb o hb e=>(sb.2 b hb).trans e) f0 f1 f3 f4 f5;let(o,e,c,d):=id W4;show(u,@r,GS (s:={s with heap:=h'}) e c d @d (xs[n - 1 - i]'(by omega),H,I1,ru,(@r,λys hy _=>by rw[I.AJ hy hq];show hx),(hi,W4),λb hb=>(hf b hb).1))
 done:=by
  intro X hP hw hK hc i π s σ H E I hf st hg;ext;subst hP hw hK;let(hi,xs,hq,hlen):=hg;let(f0,f1,f2,f3,f4,f5):=hf it @s;ext;have hit:=st.2;rw[show(n:?I) - 1 - (i:?I)=-1 by omega]at hit;show wpAny_pyNext_rev_end (I.ok.hd hc) hit λh' eb=>@al
 self:=λ_ _ _ _ _ st h=>yc st.2 h
section
variable {X:Cx}{l tg:bR}{ta:TA}{p p2 pos vg:Pos}
abbrev ao0(K:aa)(ta:TA):TI:=λσ H R=>ta σ H λvs H1=>∃a xs,vs=[.ref a]/\gF K H1 a xs/\R (MP K a ↑xs) H1
def O1(hg:Gl X "reversed")(hm:X.mg "reversed"=ι)(ha:PA X [l] ta)(hs:aq [l] X.env=[(υ,eval l X.env,)]:=by rfl):PI X tg (.Call (.Name "reversed" p) [l] [] pos) (ao0 X.K ta):=by
 intro π s σ H R I h;show Call_ (nJ I hg hm boot_reversed<|cI (gh @ad λ us s1  eg=>?_) hs @r);let(vs,H1,I1,r1,q1):=eg;let(a,xs,e,hq,q):=q1;subst e;let(u,rfl,ru):=vals1 r1;cases ru;let(cA,rv,pl,hz):=I1.list hq;have MO:a<↥s1:=(by let(o,_,e,_):=pl;show aO e);have hl:=↑rv
 have hit:(s1.heap.push @ae).IsRevIter ↥s1 a ((↑xs:?I) - 1 - ((0:?N):?I)):=(_,aQ _ @r,@r,by
  have e2:(↑xs:?I) - 1 - ((0:?N):?I)=(cA.toArray.size:?I) - 1:=by rw[aI,hl];simp
  rw[e2];rfl)
 show call_reversed_list pl.isList (yc (s:={s1 with heap:=s1.heap.push @ae}) hit ?_);show(↥s1,[↥s1],_,_,H1,@r,I1.kept (t':=s1.toks) λb o e=>ah _ e,O0 a _ ↑xs (bz MO),(cE _,hit),λb hb=>?_,q);have e0:b=↥s1:=by simpa using hb
 subst e0;show I1.rK @E (I1.eD.fresh @E)
variable{a:af}{xs:?L V}{g:TG}{tb:TS}{D:Ends}
def Ta(Pv:?N->St->Hp->?P)(h0:Pv 0 σ H)(hl:∀i σ H,i<=↑xs->Pv i σ H->gF K H a xs)(hs:∀i x σ H,i<↑xs->xs[xs.length - 1 - i]?=θ x->Pv i σ H->g x σ H λwO H2=>tb {D with nx:=Pv @X,ct:=Pv @X,bk:=D.nx} wO H2)(hd:∀σ H,Pv ↑xs σ H->D.nx σ H):
  ∃W:?N->?N->St->Hp->?P,(∃m,W 0 m σ H)/\∀i m σ H,W i m σ H->
   ((MP K a ↑xs).stop i H/\D.nx σ H)\/((MP K a ↑xs).go i H/\∃N:St->Hp->?P,(∀fo H',N fo H'->∃m',m'<m/\W @X m' fo H')/\∀x H',(MP K a ↑xs).DH i H x H'->g x σ H' λwO H2=>tb {D with nx:=N,ct:=N,bk:=D.nx} wO H2):=by
 show(λi m σ H=>m=↑xs - i/\i<=↑xs/\Pv i σ H,(↑xs,by simp,cE _,h0),?_);rintro i m σ H ⟨rfl,hi,p⟩;have q:=hl i σ H hi p;by_cases nM:i<↑xs
 .show .inr ((nM,xs,q,@r),Pv @X,λfo H' p'=>(↑xs - @X,by omega,@r,nM,p'),λx H' y=>?_);let(e,y):=y;subst e;show hs i x σ _ nM (y xs q @r) p
 .have e:i=↑xs:=by omega
  subst e;show .inl ((@r,xs,q,@r),hd σ H p)
end
section
variable {prog:bu}{w:bU}{A:cy}{E:ai->ao->?P}{s:ao}
def JF:typeLookup (.type "list_reverseiterator") "__len__"=pure ι:=by rw[typeLookup_type,builtinLookup_eq_fast];kernel_rfl
def O6:typeLookup (.type "list_reverseiterator") "__length_hint__"=pure (θ<|.builtin "list_reverseiterator.__length_hint__"):=by rw[typeLookup_type,builtinLookup_eq_fast];kernel_rfl
variable{r:af}
def O7(hT:s.TypeIs (.ref r) "list_reverseiterator"){Q:?B->ao->?P}(h:Q υ s):aU @v A (gB<|.ref r) Q E s:=by
 unfold gB;show ae (mh hT JF ?_);change aU _ _ (specialOf (cv r) (jr "__length_hint__") >>= _) _ _ _;show ae (mh hT O6 ?_);generalize hid:("list_reverseiterator.__length_hint__":?S)=id0
 wp_delta
 rw[show splitId id0=θ ("list_reverseiterator","__length_hint__",)from by subst hid;symm];subst hid;show ae (uL (T:="list_reverseiterator") (b:=ξ) hT (by rw[isSubtype_type];kernel_rfl) ?_);show g8 (λTb=>?A Tb @d) @qb;show g8 @qb (λTb=>?A @y Tb);show g8 (λTb=>?A Tb @y) @qb;show av h
variable{R:Result->ao->?P}{l:af}{items:?R ai}
def JG(hh:A.handled=ι)(Ec:l≠r)(hit:s.heap.IsRevIter r l ((items.size:?I) - 1))(hl:s.heap.IsList l items)(hn:items.size<=au)(S:af)(hSr:S≠r)(hSl:S≠l)(res:ai)(c0:?N)(hS:s.heap.get? S=θ {cls:=.type "list",data:=.seq #[] c0})(hR:∀h' tk acc c,(∀b o,b≠S->b≠r->s.heap.get? b=θ o->h'.get? b=θ o)->h'.get? S=θ {cls:=.type "list",dict:=ι,data:=.seq acc c,slots:=#[]}->
   ItemsOf (λi v=>items[items.size - 1 - i]?=θ v) acc items.size->R (.ok<|.ret res) {s with heap:=h',toks:=tk}):
  aU @v A.in1 (dZ (.ref S) (.ref r) res)
   (λfin s'=>match fin with | .done f=>R (.ok f) s' | .again c'=>c'.quiet=ξ/\codeAny @v A c' R s') (λe s'=>R (.error e) s') s:=by
 have W:=(Walks.listRev (prog:=prog) (w:=w) (A:=A.in1) hh r l Ec items).toS;have hSf:S∉[r,l]:=by simp[hSr,hSl]
 have key:∀(h:cD)(c1 tk:?N),(∀b o,b≠S->s.heap.get? b=θ o->h.get? b=θ o)->h.get? S=θ {cls:=.type "list",data:=.seq #[] c1}->
   codeAny @v A (.builtin "list.extend.loop" ([.ref S,.ref r,res],[])) R {s with heap:=h,toks:=tk}:=by
  intro h c1 tk hk hS1;have st0:0<=items.size/\h.IsRevIter r l ((items.size:?I) - 1 - ((0:?N):?I))/\h.IsList l items:=
   (cE _,by rw[show(items.size:?I) - 1 - ((0:?N):?I)=(items.size:?I) - 1 by omega];show hit.at λo e=>hk r o (cp hSr) e,(by let(o,e,q):=hl;show (o,hk l o (cp hSl) e,q)))
  show codeAny_extend_loopS W hn S hSf res items.size 0 {s with heap:=h,toks:=tk} #[] c1 @r (cE _) st0 hS1 (ItemsOf.nil _) λs' acc c' hm hS' O8=>?_;rw[Moved.eq_with hm];show hR s'.heap s'.toks acc c' (λb o n1 n2 e=>hm.heap b o (by simp[n1,n2]) (hk b o n1 e)) hS' O8
 have hT:s.TypeIs (.ref r) "list_reverseiterator":=hit.typeIs;unfold dZ;show ae (qK hT ?_);have g1:jM (.ref S) (.ref r)=υ:=by simp[jM,hSr]
 have g2:(jg "list_reverseiterator"==jg "list")=υ:=by decide
 have g3:(jg "list_reverseiterator"==jg "tuple")=υ:=by decide
 simp only[g1,g2,g3,Bool.or_false,jk,if_false];show ae (yc hit<|ae<|fO<|O7 hT ?_);show g8 @qb (λ_=>av (plainId_quiet i7 _,key _ c0 _ (λb o _ e=>e) hS));show ae (vt<|ae ?_);change aU _ _ (updateSeq S (·.push .none) >>= λ_=>updateSeq S (·.pop)) _ _ _;show ae (jZ hS @r ?_);have W5:=et (eJ (·.push eQ)) hS @r;show jZ (hz:=by seq_fits) W5 @r ?_;have hS3:=et (eJ (·.pop)) W5 @r;show av (plainId_quiet i7 _,key _ _ _ (λb o hb e=>(cQ _ _<|cp hb).trans ((cQ _ _<|cp hb).trans e)) hS3)
variable{Q:ai->ao->?P}
def Dg(hh:A.handled=ι)(Ec:l≠r)(hit:s.heap.IsRevIter r l ((items.size:?I) - 1))(hl:s.heap.IsList l items)(hn:items.size<=au)(hQ:∀h' tk acc c,(∀b o,b≠r->s.heap.get? b=θ o->h'.get? b=θ o)->h'.get? ↥s=θ {cls:=.type "list",dict:=ι,data:=.seq acc c,slots:=#[]}->
   ItemsOf (λi v=>items[items.size - 1 - i]?=θ v) acc items.size->Q (.ref ↥s) {s with heap:=h',toks:=tk}):aU @v A (call (.type "list") [.ref r]) Q E s:=by
 show callType_codes (Q₁:=λobj s1=>obj = .ref ↥s/\s1={s with heap:=s.heap.push {cls:=.type "list",data:=.seq #[]}}) F.called_list (F.typeCall_list_1 _) F.entry_list_init (code_list_new _ (@r,@r)) λobj s1 h1=>?_;let(rfl,rfl):=h1;have hS:(s.heap.push {cls:=.type "list",data:=.seq #[]}).get? ↥s=θ {cls:=.type "list",data:=.seq #[]}:=aQ _ @r;have hrl:r<↥s:=(by let(o,e,_):=hit;show aO e);have hll:l<↥s:=(by let(o,e,_):=hl;show aO e);show((_,hS,@r),F.args_list_init_2 _ _,?_);change aU _ _ (do let old <-kH (.ref ↥s);zg (.ref ↥s) (λ_=>#[]);letGo old.toList.reverse;dZ (.ref ↥s) (.ref r) .none) _ _ _;show ae ?_;unfold kH;show ae (gK hS @r<|av ?_);change aU _ _ (updateSeq ↥s (λ_=>#[]) >>= λ_=>letGo (#[]:?R ai).toList.reverse >>= λ_=>dZ (.ref ↥s) (.ref r) .none) _ _ _;show ae (jZ hS @r ?_);have W5:=et (eJ<|λ_=>(#[]:?R ai)) hS @r;have Sh:∀b o,s.heap.get? b=θ o->((s.heap.push {cls:=.type "list",data:=.seq #[]}).update ↥s (eJ<|λ_=>(#[]:?R ai))).get? b=θ o:=
  λb o e=>(cQ _ _<|eA<|aO e).trans (ah _ e)
 show ae (yd ?_);show JG (A:=A.in1) hh Ec (hit.at λo e=>Sh r o e) (by let(o,e,q):=hl;show (o,Sh l o e,q)) hn _ (eA hrl) (eA hll) .none _ W5 λh' tk acc c hk hS' O8=>?_;show(@r,hQ h' tk acc c (λb o n e=>hk b o (bz<|aO e) n (Sh b o e)) hS' O8)
end
section
variable {X:Cx}{l:bR}{ta:TA}{p p2 pos vg:Pos}
variable{xs:?L V}{cA:?L ai}
def O9{acc:?R ai}(rv:dD xs cA)(h:ItemsOf (λi v=>cA.toArray[cA.toArray.size - 1 - i]?=θ v) acc cA.toArray.size):dD xs.reverse acc.toList:=by
 have e:acc.toList=cA.reverse:=by
  apply qL;intro i;by_cases hi:i<↑cA
  .have h1:acc.toList[i]?=θ (acc.toList[i]'(by rw[iV,h.1,aI];show hi)):=ag _;have h2:=h.2 i (acc.toList[i]'(by rw[iV,h.1,aI];show hi)) (by rw[<-h1];simp);rw[h1,dG hi];simpa using h2.symm
  .rw[fV (by rw[iV,h.1,aI];omega),fV (by rw[cP];omega)]
 rw[e];show rv.reverse
def A4(hc:X.calm=ξ)(hgL:Gl X "list")(hmL:X.mg "list"=ι)(hgR:Gl X "reversed")(hmR:X.mg "reversed"=ι)(ha:PA X [l] ta)(hs:aq [l] X.env=[(υ,eval l X.env,)]:=by rfl)(Oh:aq [.Call (.Name "reversed" p2) [l] [] vg] X.env=[(υ,eval (.Call (.Name "reversed" p2) [l] [] vg) X.env,)]:=by rfl):
  PE X (.Call (.Name "list" p) [.Call (.Name "reversed" p2) [l] [] vg] [] pos) (λσ H Q=>ta σ H λvs H1=>∃a xs,vs=[.ref a]/\gF X.K H1 a xs/\∀q,H1 q=ι->Q (.ref q) (upd H1 q<|.lst xs.reverse)):=by
 intro π s σ H Q I h;show Call_ (nJ I hgL hmL boot_list<|cI ?_ Oh @r);rw[Oh];change aU _ _ (spliced ((υ,eval (.Call (.Name "reversed" p2) [l] [] vg) X.env,)::[])) _ _ s;show jj ?_;show Call_ (nJ I hgR hmR boot_reversed<|cI (gh (ha vg π s σ H _ I h) λ us s1  eg=>?_) hs @r);ext;let(vs,H1,I1,r1,q1):=eg;let(a,xs,e,hq,q):=q1;subst e;let(u,rfl,ru):=vals1 r1;cases ru;let(cA,rv,pl,hz):=I1.list hq;ext;have MO:a<↥s1:=(by let(o,_,e,_):=pl;show aO e);have hl:=↑rv;show call_reversed_list pl.isList (qp ?_);have kp:∀b o,s1.heap.get? b=θ o->(s1.heap.push @ae).get? b=θ o:=λb o e=>ah _ e;have I2:Inv X π σ H1 {s1 with heap:=s1.heap.push @ae}:=I1.kept (t':=s1.toks) kp;have fr:qR X π H1 ↥s1:=I1.rK @E (I1.eD.fresh @E);have hit:(s1.heap.push @ae).IsRevIter ↥s1 a ((cA.toArray.size:?I) - 1):=(_,aQ _ @r,@r,@r);show Dg (s:={s1 with heap:=s1.heap.push @ae}) (items:=cA.toArray) (I1.ok.hd hc) (bz MO) hit (by let(o,n,e,c,_,d):=pl;show (o,kp a o e,c,n,d)) (by rw[aI];omega) λh' tk acc c hk hD O8=>?_;have ZI:(s1.heap.push @ae).objs.size=↥s1+1:=gA ..;have I3:=Inv.turned (s:={s1 with heap:=s1.heap.push @ae}) (h':=h') (t':=tk) (it:=↥s1) I2 (λb o hb e=>hk b o hb e) fr.1 fr.2.1 fr.2.2.2.1 fr.2.2.2.2.1 fr.2.2.2.2.2;have fD:qR X π H1 (↥s1+1):=I1.rK (j9 _) (I1.eD.fresh<|j9 _);rw[ZI]at hD ⊢;show(.ref _,_,I3.adopt (o:=.lst xs.reverse) fD (by rw[cP];show hz,acc.toList,c,O9 rv O8,by simpa using hD),@r,q _ fD.1)
end
abbrev NR(X:Cx)(e:bR)(σ:St)(H0:Hp)(d:ak):?P:=
 ∀(π:?L @u) (s:ao) (H:Hp),bM H0 H->Inv X π σ H s->aU ⇑X X.A (eval e X.env) (EP X π σ λv H'=>bM H H'/\Rep X.K H' d v) X.xe s
abbrev MQ(X:Cx)(es:?L bR)(σ:St)(H0:Hp)(ds:?L ak):?P:=
 ∀(pos:Pos) (π:?L @u) (s:ao) (H:Hp),bM H0 H->Inv X π σ H s->aU ⇑X X.A (spliced<|dh pos @I) (AP X π σ λvs H'=>bM H H'/\bp X.K H' ds vs) X.xe s
section
variable {X:Cx}{e:bR}{es:?L bR}{σ:St}{H0:Hp}{d:ak}{ds:?L ak}{pos:Pos}
variable{π:?L @u}{u:ai}{s:ao}
def EP.mono{Q Q':VK}(h:EP X π σ Q u s)(hq:∀v H,Q v H->Q' v H):EP X π σ Q' u s:=by let(v,H,I,r,q):=h;show (v,H,I,r,hq v H q)
def lS:PE X e (λσ H Q=>∃d,NR X e σ H d/\∀v H',bM H H'->Rep X.K H' d v->Q v H'):=by
 intro π s σ H Q I h;let(d,hd,q):=h;show gh (hd π s H @F I) λu s1 z=>z.mono (by rintro v H' ⟨a,b⟩;show q v H' a b)
def xl:PE X (.List es pos) (λσ H Q=>∃ds,MQ X es σ H ds/\↑ds<=1000/\∀r H' vs,H r=ι->bM H H'->H' r=θ @W->bp X.K H' ds vs->Q (.ref r) H'):=by
 intro π s σ H Q I h;let(ds,hd,hz,q):=h;show wpAny_List_spliced (gh (hd pos π s H @F I) λ us s1  eg=>?_);let(xs,H1,I1,r,sm,rp):=eg;have hl:=↑rp;have hx:↑xs<=au:=by rw[hl];show fe (lF hz)
 show(by rw[<-r.length];show hx,?_);have hf:H1 ↥s1=ι:=I1.eD.fresh @E;show(.ref ↥s1,upd H1 ↥s1 @aj,I1.laid (t':=s1.toks) (λb u e=>ah _ e) @E ?_,@r,?_)
 .show(hx,us,0,r,aQ _ @r)
 .have s2:=bt hf @aj;show q _ _ xs (sm.free hf) (sm.trans s2) aA (bp.mono @Q _ _ rp)
variable{x:χ}{j:?N}
def h9:NR X (.Constant @S j pos) σ H0 @S:=λπ s H _ I=>oV π s σ H _ I (bM.refl H,.str x)
variable{i:?I}
def Pa:NR X (.Constant @T j pos) σ H0 @T:=λπ s H _ I=>bV π s σ H _ I (bM.refl H,.int i)
def eX(i:?N)(hv:σ[i]?=θ (θ v))(hr:Rep X.K H0 d v)(hN:X.N[i]?=θ x:=by rfl)(hx:zN X.env.scope x:=by first|show bB @r|show cF @A|show cF (cF @r))(hd:(x==("__debug__":χ))=υ:=by decide)(pU:(x==("__classdict__":χ))=υ:=by decide):NR X (.Name x pos) σ H0 d:=λπ s H sm I=>
 jD hN hx hd pU π s σ H _ I (v,hv,bM.refl H,Rep.mono (bC.of_same sm) _ _ hr)
def Hc{t:TE}(h:PE X e t)(q:∀H,bM H0 H->t σ H λv H'=>bM H H'/\Rep X.K H' d v):NR X e σ H0 d:=λπ s H sm I=>h π s σ H _ I (q H sm)
def c9:MQ X [] σ H0 []:=λpos π s H sm I=>bh pos π s σ H _ I (bM.refl H,.nil)
def bo(h:NR X e σ H0 d)(t:MQ X es σ H0 ds)(hs:aq (e::es) X.env=@c::aq es X.env:=by rfl):MQ X (e::es) σ H0 (d::ds):=by
 intro pos π s H sm I;rw[hs];change aU _ _ (spliced (@c::dh pos @I)) _ _ s;show jj (gh (h π s H sm I) λ u s1  eg=>?_);let(x,H1,I1,r1,W6,q1):=eg;show gh (t pos π s1 H1 (sm.trans W6) I1) (by rintro us s2 ⟨xs,H2,I2,r2,sm2,q2⟩;show (x::xs,H2,I2,.cons r1 r2,W6.trans sm2,.cons (Rep.mono (bC.of_same sm2) _ _ q1) q2))
def dz(h:MQ X es σ H0 ds)(hz:↑ds<=au:=by first|decide|show bX @r):NR X (.Tuple es k pos) σ H0 (.tuple ds):=by
 intro π s H sm I;show wpAny_Tuple_spliced (gh (h pos π s H sm I) λ us s1  eg=>?_);let(xs,H1,I1,r,W6,rp):=eg;have hx:↑xs<=au:=by rw[rp.length];show hz
 show(by rw[<-r.length];show hx,?_);have hf:H1 ↥s1=ι:=I1.eD.fresh @E;have s2:=bt hf (.tup xs);show(.ref ↥s1,upd H1 ↥s1<|.tup xs,I1.laid (t':=s1.toks) (λb u e=>ah _ e) @E ?_,@r,W6.trans s2,.tuple (eI.of aA)<|bp.mono @Q _ _ rp);show(hx,us,r,(_,aQ _ @r,@r,_,@r))
def U5{b:bR}(h:NR X e σ H0 (.tuple ds))(hb:NR X b σ H0 @T)(hi:vy ds i=θ d)(hs:xf b):NR X (.Subscript e b pos) σ H0 d:=by
 intro π s H sm I;show Subscript_ (gh (h π s H sm I) λv s1 ⟨x,H1,I1,r1,W6,q1⟩=>gh (hb π s1 H1 (sm.trans W6) I1) λ u s2  eg=>?_);ext;let(y,H2,I2,r2,sm2,q2):=eg;let(a,vs,e1,hq,rp):=(Rep.mono (bC.of_same sm2) _ _ q1).gf;subst e1;obtain rfl:=q2.cX;let(j,h1,h2,h3,h4,h5):=uQ hi;let(z,hz,rz):=rp.get h2;ext;have hl:=↑rp;have ha:vy vs i=θ z:=by
  unfold vy;have Gu:=hi;unfold vy at Gu;rw[hl];cases q:K7 ↑ds i with
  |none=>rw[q]at Gu;cases Gu
  |some k=>
   have hk:=(uP q).1;rw[h1]at hk;cases hk;show hz
 show eh e b π s2 σ H2 @x @T v u _ I2 r1 r2 (a,vs,i,z,@r,@r,hq,ha,W6.trans sm2,rz) (hs _ _)
end
variable{i:?I}
def A5{α:Type}{xs:?L α}(h0:0<=i)(h1:i<↑xs):∃v,vy xs i=θ v/\xs[i.toNat]?=θ v:=by
 have hk:i.toNat<↑xs:=by omega
 show(xs[i.toNat],?_,ag hk);have q:=ie (ag hk);rwa[gQ h0]at q
variable{ds:?L ak}{d:ak}{vs:?L V}
def bp.snoc(h:bp K H (ds++[d]) vs):∃ws v,vs=ws++[v]/\bp K H ds ws/\Rep K H d v:=by
 induction ds generalizing vs with
 |nil=>
  let(v,r,e1,e2,e3):=h.split;rw[bp]at e3;show([],v,by rw[e1,e3];rfl,.nil,e2)
 |cons x ds ih=>
  let(v,r,e1,e2,e3):=h.split;let(ws,z,e4,e5,e6):=ih e3;show(v::ws,z,by rw[e1,e4];rfl,.cons e2 e5,e6)
end _L
namespace _W
inductive cM(α:Type) where
 |node (a:α) (own:?L (cM α))
variable {α:Type}
abbrev cM.ko:cM α->α | .node a _=>a
abbrev cM.own:cM α->?L (cM α) | .node _ o=>o
mutual
noncomputable def cM.size:cM α->?N
 |.node _ o=>b9 o+1
noncomputable def b9:?L (cM α)->?N
 |[]=>0
 |t::r=>t.size + b9 r
end
def cM.size_pos(t:cM α):0<t.size:=by
 cases t with|node a o=>simp[cM.size]
def e7(xs ys:?L (cM α)):b9 (xs++ys)=b9 xs + b9 ys:=by
 induction xs with
 |nil=>simp[b9]
 |cons x r ih=>simp[b9,ih,Nat.add_assoc]
def nB(t:cM α):t.size=b9 t.own+1:=by cases t;rfl
def fM(xs:?L (cM α)):↑xs<=b9 xs:=by
 induction xs with
 |nil=>simp[b9]
 |cons x r ih=>have:=x.size_pos;simp only[aF,b9];omega
abbrev cM.oy:cM α->?L ?N->?O (cM α)
 |t,[]=>θ t
 |t,k::p=>match t.own[k]? with
  |some u=>u.oy p
  |none=>ι
termination_by t p=>↑p
def gD(t:cM α):t.oy []=θ t:=by unfold cM.oy;rfl
def gq(t:cM α)(k:?N)(p:?L ?N):t.oy (k::p)=(t.own[k]?).bind (·.oy p):=by
 rw[cM.oy];cases t.own[k]?<;>rfl
def vU(p q:?L ?N):∀t:cM α,t.oy (p++q)=(t.oy p).bind (·.oy q):=by
 induction p with
 |nil=>intro t;rw[fN,gD];rfl
 |cons k p ih=>
  intro t;rw[df,gq,gq];cases t.own[k]? with
  |none=>rfl
  |some u=>show ih u
def qW(p:?L ?N)(k:?N)(t:cM α):t.oy (p++[k])=(t.oy p).bind (λu=>u.own[k]?):=by
 rw[vU];cases t.oy p with
 |none=>rfl
 |some u=>
  change u.oy [k]=u.own[k]?;rw[gq];cases u.own[k]? with
  |none=>rfl
  |some x=>change x.oy []=_;rw[gD]
mutual
noncomputable def cM.post:cM α->?L (?L ?N×cM α)
 |.node a o=>eY 0 o++[([],.node a o,)]
noncomputable def eY:?N->?L (cM α)->?L (?L ?N×cM α)
 |_,[]=>[]
 |k,t::r=>t.post.map (λx=>(k::x.1,x.2))++eY (k+1) r
end
def nC(t:cM α):t.post=eY 0 t.own++[([],t,)]:=by cases t;rfl
def cM.ind{P:cM α->?P}(h:∀a o,(∀x∈o,P x)->P (.node a o)):∀t,P t
 |.node a o=>h a o (λx hx=>by
   have:sizeOf x<sizeOf (cM.node a o):=by
    have:=List.sizeOf_lt_of_mem hx;simp only[cM.node.sizeOf_spec];omega
   show cM.ind h x)
termination_by t=>sizeOf t
def Pb(r:?L (cM α)):∀k,∀x∈eY k r,x.1≠[]:=by
 induction r with
 |nil=>intro k x hx;cases hx
 |cons t r ih=>
  intro k x hx;rw[eY]at hx;rcases aW.mp hx with h|h
  .let(y,_,rfl):=cj.mp h;simp
  .show ih (k+1) x h
abbrev cM.places(t:cM α):?L (?L ?N):=t.post.map yg
def places_eq(t:cM α):t.places=(eY 0 t.own).map yg++[[]]:=by unfold cM.places;rw[nC,bK];rfl
def rQ(t:cM α):∀x∈t.post,t.oy x.1=θ x.2:=by
 induction t using cM.ind with
 |h a o ih=>
  have key:∀(r:?L (cM α)) (k:?N),o.drop k=r->∀x∈eY k r,(cM.node a o).oy x.1=θ x.2:=by
   intro r;induction r with
   |nil=>intro k _ x hx;cases hx
   |cons y r Hd=>
    intro k hd x hx;rw[eY]at hx;have hk:o[k]?=θ y:=by rw[<-AG,hd];rfl
    rcases aW.mp hx with h|h
    .let(z,hz,rfl):=cj.mp h;rw[gq];show(o[k]?).bind _=_;rw[hk];show ih y (aD hk) z hz
    .show Hd (k+1) (by rw[<-List.tail_drop,hd];rfl) x h
  intro x hx;rw[nC]at hx;rcases aW.mp hx with h|h
  .show key o 0 @r x h
  .have e:x=([],cM.node a o,):=by simpa using h
   rw[e];show gD _
def dA(t:cM α):t.post.length=t.size:=by
 induction t using cM.ind with
 |h a o ih=>
  have key:∀(r:?L (cM α)) (k:?N),(∀x∈r,x∈o)->(eY k r).length=b9 r:=by
   intro r;induction r with
   |nil=>intro k _;rfl
   |cons y r Hd=>
    intro k hs;rw[eY,aH,aP,ih y<|hs y aJ,Hd (k+1) (λx hx=>hs x (aM _ hx)),b9]
  rw[nC,aH,nB];show(eY 0 o).length+1=b9 o+1;rw[key o 0 λx hx=>hx]
open _L
noncomputable abbrev Ex:=cM (χ×?L ak)
mutual
noncomputable def py:Ex->ak
 |.node a o=>.tuple [.str a.1,.tuple a.2,.tuple (Lh o)]
noncomputable def Lh:?L Ex->?L ak
 |[]=>[]
 |t::r=>py t::Lh r
end
def Ai(l:?L Ex):Lh l=l.map py:=by
 induction l with
 |nil=>rfl
 |cons t r ih=>rw[Lh,ih];rfl
def ua(t:Ex):py t = .tuple [.str t.ko.1,.tuple t.ko.2,.tuple (t.own.map py)]:=by
 cases t with|node a o=>rw[py,Ai];rfl
abbrev JH(p:?L ?N):ak:=.tuple (p.map λ(k:?N)=>.int (k:?I))
section
variable {K:aa}{H H':Hp}
variable{t:Ex}{v:V}
def Aj(h:Rep K H (py t) v):∃a b c ms os,v = .ref a/\eI K H a [.str t.ko.1,.ref b,.ref c]/\eI K H b ms/\bp K H t.ko.2 ms/\eI K H c os/\bp K H (t.own.map py) os:=by
 rw[ua]at h;ext;let(a,vs,rfl,hq,rp):=h.gf;let(v1,r1,rfl,e1,rp):=rp.split;let(v2,r2,rfl,e2,rp):=rp.split;let(v3,r3,rfl,e3,rp):=rp.split;rw[bp]at rp;subst rp;obtain rfl:=e1.eP;let(b,ms,rfl,hb,rb):=e2.gf;let(c,os,rfl,hc,rc):=e3.gf;ext;show(a,b,c,ms,os,@r,hq,hb,rb,hc,rc)
variable{p:?L ?N}
def Li(h:Rep K H (JH p) v):∃a,v = .ref a/\eI K H a (p.map λ(k:?N)=>V.int (k:?I)):=by
 let(a,vs,rfl,hq,rp):=Rep.gf h;have e:vs=p.map λ(k:?N)=>V.int (k:?I):=by
  clear hq h;induction p generalizing vs with
  |nil=>rw[ke,bp]at rp;show rp
  |cons k p ih=>
   rw[bZ]at rp;let(v,r,rfl,e1,e2):=rp.split;rw[bZ,<-ih r e2,e1.cX]
 subst e;show(a,@r,hq)
def Tc(p:?L ?N):bp K H (p.map λ(k:?N)=>vM (k:?I)) (p.map λ(k:?N)=>V.int (k:?I)):=by
 induction p with
 |nil=>show .nil
 |cons k p ih=>show .cons (.int _) ih
variable{a:af}
def U6(h:eI K H a (p.map λ(k:?N)=>V.int (k:?I))):Rep K H (JH p) @x:=.tuple h (Tc p)
end
abbrev shift(p:?L ?N)(x:?L ?N×Ex):?L ?N×Ex:=(p++x.1,x.2,)
abbrev Dh(x:?L ?N×Ex):?L (?L ?N×Ex):=(x.2.post.map<|shift x.1).reverse
abbrev kids(p:?L ?N):?N->?L Ex->?L (?L ?N×Ex)
 |_,[]=>[]
 |k,t::r=>(p++[k],t,)::kids p (k+1) r
def He(p:?L ?N):∀(r:?L Ex)(k:?N),((eY k r).map (shift p)).reverse=(kids p k r).reverse.flatMap Dh
 |[],_=>rfl
 |t::r,k=>by
  rw[eY,kids,bK,iY,He p r<|k+1,dQ,List.flatMap_append];congr 1;simp[Dh,shift,vN,qM,gW]
def Lj(p:?L ?N)(t:Ex):Dh (p,t,)=(p,t,)::(kids p 0 t.own).reverse.flatMap Dh:=by
 rw[<-He,Dh];show(t.post.map<|shift p).reverse=_;rw[nC,bK,iY];simp[shift]
def Ee(p:?L ?N)(t:Ex):∀(r:?L Ex)(k:?N),kids p k (r++[t])=kids p k r++[(p++[k + ↑r],t,)]
 |[],k=>by simp[kids]
 |x::r,k=>by
  rw[df,kids,kids,Ee p t r (k+1)];simp;omega
abbrev total(st:?L (?L ?N×Ex)):?N:=(st.map λx=>x.2.size).sum
def ly(x:?L ?N×Ex)(st:?L (?L ?N×Ex)):total (x::st)=x.2.size + total st:=by simp[total]
def xm(a b:?L (?L ?N×Ex)):total (a++b)=total a + total b:=by simp[total,bK,List.sum_append]
def Di(a:?L (?L ?N×Ex)):total a.reverse=total a:=by
 induction a with
 |nil=>rfl
 |cons x r ih=>rw[dQ,xm,ih,ly,ly];simp[total];omega
def A6(p:?L ?N):∀(r:?L Ex)(k:?N),total (kids p k r)=b9 r
 |[],_=>rfl
 |t::r,k=>by rw[kids,ly,A6 p r<|k+1,b9]
def sV(st:?L (?L ?N×Ex)):↑st<=total st:=by
 induction st with
 |nil=>show cE _
 |cons x r ih=>rw[ly,aF];have:=x.2.size_pos;omega
end _W
namespace _L
open PyProof.Rows
abbrev cS(P:bu)(w:bU)(K:aa)(mg:χ->?O ai)(base:cD)(k:?N)(x:χ)(ps:?L χ)(sp:Sp):?P:=
 ∃(f:af)(fd:aV),c8 P w K mg base kD k f fd ps sp/\Binds K fd ps []/\cW K (.ref f)=ξ/\mg x=θ (.ref f)
section
variable {X:Cx}{k:?N}{x:χ}{ps:?L χ}{sp:Sp}{e:bR}{es:?L bR}{t:TA}{p pos:Pos}
def dq(D:cS X.prog X.w X.K X.mg X.base k x ps sp)(hr:gp k X.A)(hg:Gl X x)(ha:PA X (e::es) t)(ny:(x==("__debug__":χ))=υ:=by decide)(he:aq (e::es) X.env=@c::aq es X.env:=by rfl)(j4:(dh pos @I).any (·.1)=υ:=by rfl):PE X @w (GX sp [] E0 t):=by
 let(f,fd,G,b,kp,m):=D;show ET G hr hg m kp b .nil Lc ha ny he j4
def yo(D:cS X.prog X.w X.K X.mg X.base k x ps sp)(hr:gp k X.A)(hg:Gl X x)(ny:(x==("__debug__":χ))=υ:=by decide):PE X (.Call (.Name x p) [] [] pos) (GX sp [] E0 Ol):=by
 let(f,fd,G,b,kp,m):=D;show Oq G hr hg m kp b .nil Lc ny
abbrev ad5(m n:?I)(te:TE):TE:=λσ H Q=>te σ H λv H1=>∃c:?I,v = .int c/\Q (.int<|c * 48271 % m % n) H1
variable{te:TE}{j1 j2 j3:?N}{p1 p2 p3 p4 p5 p6:Pos}
def mV{m n:?I}(he:PE X e te)(hm:0<m:=by decide)(hn:0<n:=by decide):
  PE X (.BinOp (.BinOp (.BinOp e .Mult (.Constant (.int 48271) j1 p1) p2) .Mod (.Constant (.int m) j2 p3) p4) .Mod (.Constant (.int n) j3 p5) p6) (ad5 m n te):=by
 intro π s σ H Q I h;show EH (EH<|EH<|gh (he π s σ H _ I h) λ v s1  eg=>?_);ext;let(y,H1,I1,r1,c,ey,q):=eg;subst ey;ext;show gh (bV π s1 σ H1 (λv H'=>v = .int 48271/\H'=H1) I1 (@r,@r)) λ u s2  eg=>?_;ext;let(y2,H2,I2,r2,e1,e2):=eg;subst e1 e2;ext;show gh (Jm π s2 σ H2 _ _ v u (λv H'=>v = .int (c * 48271)/\H'=H2) I2 r1 r2 (c,48271,@r,@r,.inr (by decide,by decide),@r,@r)) λ v3 s3  eg=>?_;ext;let(y3,H3,I3,r3,e1,e2):=eg;subst e1 e2;ext;show gh (bV π s3 σ H3 (λv H'=>v = .int m/\H'=H3) I3 (@r,@r)) λ u4 s4  eg=>?_;ext;let(y4,H4,I4,r4,e1,e2):=eg;subst e1 e2;ext;show gh (Jn π s4 σ H4 _ _ v3 u4 (λv H'=>v = .int (c * 48271 % m)/\H'=H4) I4 r3 r4 (_,_,@r,@r,hm,@r,@r)) λ v5 s5  eg=>?_;ext;let(y5,H5,I5,r5,e1,e2):=eg;subst e1 e2;ext;show gh (bV π s5 σ H5 (λv H'=>v = .int n/\H'=H5) I5 (@r,@r)) λ u6 s6  eg=>?_;ext;let(y6,H6,I6,r6,e1,e2):=eg;subst e1 e2;ext;show Jn π s6 σ H6 _ _ v5 u6 Q I6 r5 r6 (_,_,@r,@r,hn,q)
def mW(c m n:?I)(hn:0<n:=by decide):0<=c * 48271 % m % n:=Int.emod_nonneg _ @o
def xn(c m n:?I)(hn:0<n:=by decide):c * 48271 % m % n<n:=Int.emod_lt_of_pos _ hn
end
end _L
namespace _W
open _L
inductive Kd where
 |num|truth|list (k:Kd)|to (k m:Kd)
 deriving DecidableEq
abbrev eM:Kd->ak
 |.num=>.tuple [.str "num"]
 |.truth=>.tuple [.str "truth"]
 |.list k=>.tuple [.str "list",eM k]
 |.to k m=>.tuple [.str "to",eM k,eM m]
abbrev nR:?L Kd:=[.num,.list .num,.to .num .num,.truth,.list<|.list .num,.list<|.to .num .num,.to .num (.to .num .num)]
abbrev IK:χ:="x"
abbrev W7:χ:=Txt.mul "x" 30
abbrev Lk:χ:=W7++("a":χ)
abbrev Td:χ:=W7++("b":χ)
abbrev rR:?L χ:=[IK,Lk,Td,W7]
noncomputable abbrev nd(w:χ)(ms:?L ak)(o:?L Ex):Ex:=.node (w,ms,) o
inductive Wf:Ex->?P where
 |num (i:?I):Wf (nd "num" [.int i] [])
 |truth (b:?B):Wf (nd "truth" [.bool b] [])
 |name (x:χ) (hx:x∈rR):Wf (nd "name" [.str x] [])
 |nil (k:Kd) (hk:k∈nR):Wf (nd "nil" [eM k] [])
 |add {a b:Ex}:Wf a->Wf b->Wf (nd "add" [] [a,b])
 |less {a b:Ex}:Wf a->Wf b->Wf (nd "less" [] [a,b])
 |front {a b:Ex}:Wf a->Wf b->Wf (nd "front" [] [a,b])
 |call {a b:Ex}:Wf a->Wf b->Wf (nd "call" [] [a,b])
 |yp {c a b:Ex}:Wf c->Wf a->Wf b->Wf (nd "if" [] [c,a,b])
 |case (k:Kd) (h t:χ) {l a b:Ex} (hk:k∈nR) (hh:h∈rR) (ht:t∈rR):Wf l->Wf a->Wf b->Wf (nd "case" [eM k,.str h,.str t] [l,a,b])
 |fn (x:χ) (k:Kd) {b:Ex} (hx:x∈rR) (hk:k∈nR):Wf b->Wf (nd "fun" [.str x,eM k] [b])
section
variable (K:aa)
abbrev Ll:Sp:=λvs H Q _=>∃i:?I,vs=[.int i]/\Q (.bl ξ) H
abbrev Fb:Sp:=λvs H Q _=>vs=[]/\∀r H' ks,bM H H'->H r=ι->H' r=θ (.lst ks)->bp K H' (nR.map eM) ks->Q (.ref r) H'
abbrev JI:Sp:=λvs H Q _=>∃c:?I,vs=[.int c]/\∀v H' e,bM H H'->Wf e->e.size=1->Rep K H' (py e) v->Q v H'
structure Hf(H:Hp)(p:af)(es:?L Ex):?P where
 at_:∃vs,H p=θ @W/\bp K H (es.map py) vs
 wf:∀e∈es,Wf e
abbrev Fc:Sp:=λvs H Q _=>∃(p:af)(c:?I)(es:?L Ex),vs=[.ref p,.int c]/\Hf K H p es/\
 ∀v H' e KS,SameBut p H H'->Wf e->Hf K H' p KS->KS.length<=↑es->b9 KS + e.size<=b9 es+1->Rep K H' (py e) v->Q v H'
abbrev A7:Sp:=λvs H Q _=>∃(p:af)(c:?I)(es:?L Ex),vs=[.ref p,.int c]/\Hf K H p es/\
 ∀v H' e KS,SameBut p H H'->Wf e->Hf K H' p KS->KS.length<=↑es->b9 KS + e.size<=b9 es+4->Rep K H' (py e) v->Q v H'
abbrev Ef:Sp:=λvs H Q _=>∃(u:V)(p:?L ?N),vs=[u]/\Rep K H (JH p) u/\Q (.bl ξ) H
end
structure Plain(mg:χ->?O ai):?P where
 len:mg "len"=ι
 list:mg "list"=ι
 tuple:mg "tuple"=ι
 int:mg "int"=ι
 bool:mg "bool"=ι
 range:mg "range"=ι
 enumerate:mg "enumerate"=ι
 reversed:mg "reversed"=ι
 isinstance:mg "isinstance"=ι
def xo(K:aa):aS K (.type "int") (.type "bool")=θ υ:=by first|rfl|kernel_rfl
def Hg{u:Ex}:∀{l:?L Ex},u∈l->u.size<=b9 l
 |[],h=>nomatch h
 |x::r,h=>by
  rcases bg.mp h with rfl|h
  .rw[b9];omega
  .have:=Hg h;rw[b9];omega
variable{t:Ex}
def ub{e:Ex}:∀{p:?L ?N},e.oy p=θ t->t.size + ↑p<=e.size:=by
 intro p;induction p generalizing e with
 |nil=>intro h;rw[gD]at h;cases h;simp
 |cons k p ih=>
  intro h;rw[gq]at h;cases q:e.own[k]? with
  |none=>rw[q]at h;cases h
  |some u=>
   rw[q]at h;have h1:=ih (e:=u) h;have h2:u.size<=b9 e.own:=by
    have hm:=aD q;show Hg hm
   rw[nB e,aF];omega
section
variable {X:Cx}{σ:St}{H0:Hp}
variable{j1 j2:?N}{p1 p2 p3:Pos}
def ad6:NR X (.BinOp (.Constant (.str "x") j1 p1) .Mult (.Constant (.int 30) j2 p2) p3) σ H0 (.str W7):=
 Hc (nj E9 oV bV) λH _=>(_,_,@r,@r,by decide,by decide,by decide,by decide,bM.refl H,.str _)
variable{j3:?N}{p4 p5:Pos}
def Pc{c:χ}(hc:W7.length + ↑c<=au):NR X (.BinOp (.BinOp (.Constant (.str "x") j1 p1) .Mult (.Constant (.int 30) j2 p2) p3) .Add (.Constant (.str c) j3 p4) p5) σ H0 (.str<|W7++c):=
 Hc (nj AQ (nj E9 oV bV) oV) λH _=>(_,_,@r,@r,by decide,by decide,by decide,by decide,_,_,@r,@r,hc,bM.refl H,.str _)
variable{p6:Pos}
def Hh{a1 a2 a3 a4 a5 a6 a7 a8 a9:?N}{p7 p8 p9 q1 q2 q3 q4 q5:Pos}:
  MQ X [.Constant (.str "x") a1 p1,.BinOp (.BinOp (.Constant (.str "x") a2 p2) .Mult (.Constant (.int 30) a3 p3) q1) .Add (.Constant (.str "a") a4 p4) q2,.BinOp (.BinOp (.Constant (.str "x") a5 p5) .Mult (.Constant (.int 30) a6 p6) q3) .Add (.Constant (.str "b") a7 p7) q4,
   .BinOp (.Constant (.str "x") a8 p8) .Mult (.Constant (.int 30) a9 p9) q5] σ H0 (rR.map .str):=
 bo h9 (bo (Pc @d)<|bo (Pc @d)<|bo ad6 c9)
end
def gS{α:Type}(l:?L α):l=[]\/∃L b,l=L++[b]:=by
 cases h:l.reverse with
 |nil=>show .inl (by simpa using h)
 |cons b r=>show .inr (r.reverse,b,by rw[<-iL l,h,dQ])
def MU(e:Ex):[]++[(([]:?L ?N),e,)].flatMap Dh=e.post.reverse:=by
 rw[fN,List.flatMap_singleton];show(e.post.map<|shift []).reverse=_;rw[show e.post.map (shift [])=e.post from(vJ λx _=>rfl).trans (List.map_id _)]
variable{H:Hp}
def lT{p:af}{Ha Hb:Hp}(a:bM H Ha)(b:SameBut p Ha Hb)(n:H p=ι):bM H Hb:=λc o h=>b c o (bQ h n) (a c o h)
variable{K:aa}{k:?N}
def Te{u:Ex}{os:?L V}(r:bp K H (t.own.map py) os)(h:t.own[k]?=θ u):∃v,os[k]?=θ v/\Rep K H (py u) v:=
 r.get (by rw[aE,h];rfl)
end _W
namespace _L
open PyProof.Rows
noncomputable abbrev Cx.within(X:Cx)(A':cy):Cx:={X with A:=A'}
section
variable {X:Cx}{π:?L @u}{σ:St}{H:Hp}{s:ao}{A':cy}
def Inv.within(I:Inv X π σ H s)(h1:A'.handled=X.A.handled)(h2:A'.frames=X.A.frames):Inv (X.within A') π σ H s:=
 ((I.ok.mod,I.ok.kind,I.ok.glob,I.ok.blt,I.ok.above,I.ok.inj,I.ok.has,I.ok.UA,λc=>h1.trans (I.ok.hd c),h2.trans I.ok.frames,I.ok.Gs,I.ok.exf,I.ok.bs,I.ok.Mq,I.ok.GR,I.ok.Jc,I.ok.vc,I.ok.KR),
  I.os,I.bare,I.base,I.loc,I.cell,I.free,I.qQ,I.pin,I.eD,I.len)
def Inv.ad7(I:Inv (X.within A') π σ H s)(h1:A'.handled=X.A.handled)(h2:A'.frames=X.A.frames):Inv X π σ H s:=
 ((I.ok.mod,I.ok.kind,I.ok.glob,I.ok.blt,I.ok.above,I.ok.inj,I.ok.has,I.ok.UA,λc=>h1.symm.trans (I.ok.hd c),h2.symm.trans I.ok.frames,I.ok.Gs,I.ok.exf,I.ok.bs,I.ok.Mq,I.ok.GR,I.ok.Jc,I.ok.vc,I.ok.KR),
  I.os,I.bare,I.base,I.loc,I.cell,I.free,I.qQ,I.pin,I.eD,I.len)
end
variable{prog:bu}{w:bU}{A:cy}{R:Result->ao->?P}
def A8{S I:af}{res:ai}(J:?N->ao->?P)(turn:∀n s,J n s->aU @v A.in1 (pyNext<|.ref I) (λr s1=>match r with
   |none=>R (.ok<|.ret res) s1
   |some v=>aU @v A.in1 (updateSeq S (·.push v)) (λ_ s2=>∃m,m<n/\J m s2) (λ_ _=>?X) s1) (λ_ _=>?X) s):
  ∀(n:?N)(s:ao),J n s->codeAny @v A (.builtin "list.extend.loop" ([.ref S,.ref I,res],[])) R s:=by
 intro n;induction n using CU with
 |ind n ih=>
  intro s h;show codeAny_builtin F.entry_extend_loop ?_;rw[tI i7 _];change aU _ A.in1 (pyNext (.ref I) >>= _) _ _ s;show ae (cZ (turn n s h) (λr s1 h1=>?_) λ_ _ z=>z.elim);cases r with
  |none=>show av h1
  |some v=>
   change aU _ A.in1 (updateSeq S (·.push v) >>= _) _ _ _;show ae (cZ h1 (by rintro _ s2 ⟨m,hm,h2⟩;show av (plainId_quiet i7 _,ih m hm s2 h2)) λ_ _ z=>z.elim)
noncomputable abbrev nmT:bR:=.Name vH (0,0,0,0)
structure Pd(prog:bu)(w:bU)(T:?S):?P where
 nl:(jg T==jg "list")=υ
 nt:(jg T==jg "tuple")=υ
 hint:∀(A:cy)(E:ai->ao->?P)(a:af)(s:ao)(Q:?B->ao->?P),s.TypeIs @x T->(∀b,Q b s)->aU @v A (gB @x) Q E s
abbrev PIL(X:Cx)(inner:bR)(wi:TI):?P:=
 ∀(π:?L @u) (s:ao) (σ:St) (H:Hp) (R:It->Hp->?P),Inv X π σ H s->wi σ H R->
  aU ⇑X X.A (eval inner X.env) (λv s1=>∃(H1:Hp)(T:?S)(a:af),v = .ref a/\Inv X π σ H1 s1/\s1.TypeIs v T/\Pd X.prog X.w T/\
   ∀(A':cy) (pm:?L @u) (s2:ao) (E:ai->ao->?P),A'.handled=X.A.handled->A'.frames=X.A.frames->(∀b o,s1.heap.get? b=θ o->s2.heap.get? b=θ o)->(∀p∈pm,↥s1<=p.1)->
    Inv (X.within A') (π++pm) σ H1 s2->aU ⇑X A' (pyIter v) (λZy s3=>PIE (X.within A') (π++pm) σ nmT R Zy s3/\s3.TypeIs v T) E s2) X.xe s
abbrev Pe(J:It)(H1:Hp)(Fin:?L V->Hp->?P):?P:=
 ∃W:?N->?N->?L V->Hp->?P,(∃m,W 0 m [] H1)/\∀i m ys H,W i m ys H->
  (J.stop i H/\↑ys<=au/\Fin ys H)\/(J.go i H/\↑ys<au/\∀v H',J.DH i H v H'->∃m',m'<m/\W @X m' (ys++[v]) H')
abbrev Fd(wi:TI):TE:=λσ H Q=>wi σ H λJ H1=>Pe J H1 λys H2=>∀q,H2 q=ι->Q (.ref q) (upd H2 q<|.lst ys)
section
variable {X:Cx}{inner:bR}{wi:TI}{p pos:Pos}
def yq(hc:X.calm=ξ)(hgL:Gl X "list")(hmL:X.mg "list"=ι)(hi:PIL X inner wi)(hs:aq [inner] X.env=[(υ,eval inner X.env,)]:=by rfl):
  PE X (.Call (.Name "list" p) [inner] [] pos) (Fd wi):=by
 intro π s σ H Q I h;show Call_ (nJ I hgL hmL boot_list<|cI ?_ hs @r);rw[hs];change aU _ _ (spliced ((υ,eval inner X.env,)::[])) _ _ s;show jj (gh (hi π s σ H _ I h) λv s1 ⟨H1,T,a,ev,I1,ty,ask,walk⟩=>qp ?_);subst ev;have MO:a<↥s1:=(by let(o,e,_):=ty;show aO e);show callType_codes (Q₁:=λobj s'=>obj = .ref ↥s1/\s'={s1 with heap:=s1.heap.push {cls:=.type "list",data:=.seq #[]}}) F.called_list (F.typeCall_list_1 _) F.entry_list_init (code_list_new _ (@r,@r)) λobj s' h'=>?_;let(rfl,rfl):=h';have hS:(s1.heap.push {cls:=.type "list",data:=.seq #[]}).get? ↥s1=θ {cls:=.type "list",data:=.seq #[]}:=aQ _ @r;show((_,hS,@r),F.args_list_init_2 _ _,?_);change aU _ _ (do let old <-kH (.ref ↥s1);zg (.ref ↥s1) (λ_=>#[]);letGo old.toList.reverse;dZ (.ref ↥s1) @x .none) _ _ _;show ae ?_;unfold kH;show ae (gK hS @r<|av ?_);change aU _ _ (updateSeq ↥s1 (λ_=>#[]) >>= λ_=>letGo (#[]:?R ai).toList.reverse >>= λ_=>dZ (.ref ↥s1) @x .none) _ _ _;show ae (jZ hS @r ?_);have W5:=et (eJ<|λ_=>(#[]:?R ai)) hS @r;generalize hG:(s1.heap.push {cls:=.type "list",data:=.seq #[]}).update ↥s1 (eJ<|λ_=>(#[]:?R ai))=G at W5 ⊢;obtain⟨nG,hSG⟩:∃n,G.get? ↥s1=θ {cls:=.type "list",data:=.seq ([]:?L ai).toArray n}:=(_,W5);have kp:∀b o,s1.heap.get? b=θ o->G.get? b=θ o:=λb o e=>by
  rw[<-hG];show(cQ _ _<|eA<|aO e).trans (ah _ e)
 have IG:Inv X π σ H1 {s1 with heap:=G}:=I1.kept (t':=s1.toks) kp;have hz1:X.A.in1.in1.handled=X.A.handled:=rfl;have ZI:X.A.in1.in1.frames=X.A.frames:=rfl;have IW:Inv @aa π σ H1 {s1 with heap:=G}:=IG.within hz1 ZI;have fS:∀{H':Hp},H' ↥s1=ι->qR @aa π H' ↥s1:=λ{H'} hn=>by
  have f:=I1.rK (H':=H') @E hn;show(f.1,f.2.1,f.2.2.1,f.2.2.2.1,f.2.2.2.2.1,f.2.2.2.2.2)
 have ad8:∀{τ:St}{H':Hp}{s':ao}{ob:Obj},Inv @aa π τ H' s'->H' ↥s1=ι->s'.heap.get? ↥s1=θ ob->(∀v,ob.data≠.cell v)->Inv @aa (π++[(↥s1,ob,)]) τ H' s':=λ{τ H' s' ob} J0 hn ho hd=>
  J0.uM λq hq=>by
   rcases aW.mp hq with z|z
   .show J0.pin q (aB _ z)
   .have e:q=(↥s1,ob,):=aR.mp z;subst e;show(ho,hn,(fS hn).2.1,(fS hn).2.2.1,hd)
 have Pf:∀{τ:St}{H':Hp}{s':ao} {pl:?L @u},Inv @aa (π++pl) τ H' s'->Inv @aa π τ H' s':=λJ0=>J0.wZ;show ae (yd ?_);unfold dZ;have tyG:mQ {s1 with heap:=G} @x T:=(by let(o,e,c):=ty;show (o,kp a o e,c));show ae (qK tyG ?_);have g1:jM (.ref ↥s1) @x=υ:=by simp[jM,eA MO]
 simp only[g1,ask.nl,ask.nt,Bool.or_false,jk,if_false];have nS1:H1 ↥s1=ι:=I1.eD.fresh @E
 show ae (cZ (walk X.A.in1.in1 [(↥s1,{cls:=.type "list",data:=.seq ([]:?L ai).toArray nG},)] {s1 with heap:=G} (λ_ _=>?X) hz1 ZI kp (λq hq=>by rw[aR.mp hq];show aj _) (ad8 IW nS1 hSG<|λv z=>by cases z))
  (λ Zy s3  eg=>?_) λ_ _ z=>z.elim);let((it,fp,tn,J,H3,ei,I3,T3,st3,f3,W,(m0,w0),turn),ty3):=eg
 subst ei;have oS3:=(I3.pin (↥s1,_,)<|aB _<|aB _ aJ).1;have nS3:=(I3.pin (↥s1,_,)<|aB _<|aB _ aJ).2.1;have I3u:=Pf I3;have hfS:∀b∈fp,b≠↥s1:=λb hb=>(cp<|(f3 b hb).2.2.2.2.2 (↥s1,_,) (aB _<|aB _ aJ));have EO:∀{H':Hp}{ob:Obj},(∀b∈fp,H' b=ι)->∀b∈fp,qR @aa (π++[(↥s1,ob,)]) H' b:=λ{H' ob} hn b hb=>by
  ext;let(f0,f1,f2,f4,f5,f6):=f3 b hb;ext;show(hn b hb,f1,f2,f4,f5,λq hq=>?_);rcases aW.mp hq with z|z
  .show f6 q (bW _ z)
  .rcases aW.mp z with z|z
   .show f6 q (aB _<|bW _ z)
   .rw[aR.mp z];show cp (hfS b hb)
 have loop:∀(s4:ao)(n4:?N),Inv @aa π σ H3 s4->tn 0 s4.heap->s4.heap.get? ↥s1=θ {cls:=.type "list",data:=.seq ([]:?L ai).toArray n4}->
   codeAny ⇑X X.A.in1 (.builtin "list.extend.loop" ([.ref ↥s1,.ref it,.none],[])) (wants (λr wX=>r = .none/\EP X π σ Q (.ref ↥s1) wX) X.xe) s4:=by
  intro s4 n4 I4 st4 o4;show A8 (λk s'=>∃i ys H' cA n,Inv @aa π σ H' s'/\tn i s'.heap/\(∀b∈fp,H' b=ι)/\H' ↥s1=ι/\dD ys cA/\s'.heap.get? ↥s1=θ {cls:=.type "list",data:=.seq cA.toArray n}/\W i k ys H') ?_ m0 s4
   (0,[],H3,[],n4,I4,st4,λb hb=>(f3 b hb).1,nS3,.nil,o4,w0)
  intro k s' hZ;ext;let(i,ys,H',cA,n,I5,SA,ZC,nS5,U2,oS5,w5):=hZ;ext;have Wq:=ad8 I5 nS5 oS5 (λv z=>by cases z);rcases turn i k ys H' w5 with⟨stop,hz,qf⟩|⟨go,hz,step⟩
  .show cZ (T3.done @aa @r @r @r hc i _ s' σ H' (λ_ _=>?X) Wq (EO ZC) SA stop) (λ r s6  eg=>?_) λ_ _ z=>z;let(hr,I6):=eg;subst hr;have oS6:=(I6.pin (↥s1,_,)<|aB _<|aB _ aJ).1;have nS6:=(I6.pin (↥s1,_,)<|aB _<|aB _ aJ).2.1;have I7:Inv X π σ H' s6:=(Pf I6).ad7 hz1 ZI;show(@r,.ref ↥s1,_,I7.adopt (o:=.lst ys) (I1.rK @E nS6) (hz,cA,n,U2,oS6),@r,qf _ nS6)
  .show cZ (T3.item @aa @r @r @r hc i _ s' σ H' (λ_ _=>?X) Wq (EO ZC) SA go) (λ r s6  eg=>?_) λ_ _ z=>z;let(u,hr,h6):=eg;subst hr;change aU _ _ ((pure ():Sem Unit) >>= λ_=>updateSeq ↥s1 (·.push u)) _ _ s6;show ae (cZ (show aU ⇑X X.A.in1.in1 (pure ():Sem Unit) _ _ s6 from h6) (λ _ s7  eg=>?_) λ_ _ z=>z);ext;let(v,H7,I7,r7,y7,WS,fr7):=eg;have oS7:=(I7.pin (↥s1,_,)<|aB _<|aB _ aJ).1;have nS7:=(I7.pin (↥s1,_,)<|aB _<|aB _ aJ).2.1;let(m',hm,w7):=step v H7 y7;ext;have hlen:=U2.length;show jZ (hz:=by rw[aI];omega) (_hz':=by show(cA.toArray.push u).size<=au+1;rw[Array.size_push,aI];omega) oS7 @r ?_;ext;obtain⟨n8,q8⟩:∃n8,(s7.heap.update ↥s1<|eJ λa=>a.push u).get? ↥s1=θ {cls:=.type "list",data:=.seq (cA.toArray.push u) n8}:=(_,et _ oS7 @r);let(e0,e1,e2,e3,e4,e5):=fS nS7;ext;have I8:Inv @aa π σ H7 {s7 with heap:=s7.heap.update ↥s1 (eJ λa=>a.push u)}:=
    (Pf I7).turned (t':=s7.toks) (λb o hb e=>(cQ s7.heap _<|cp hb).trans e) e0 e1 e3 e4 e5
   show(m',hm,i+1,ys++[v],H7,cA++[u],n8,I8,T3.keep _ _ _ WS λb hb o e=>(cQ s7.heap _<|cp<|hfS b hb).trans e,fr7,nS7,U2.append<|.cons r7 .nil,?_,w7);rw[show(cA++[u]).toArray=cA.toArray.push u by simp];show q8
 show ae (fO<|ask.hint _ _ _ _ _ ty3 λroom=>?_);show g8 @qb (λ_=>av (plainId_quiet i7 _,loop s3 nG I3u st3 oS3));show ae (vt<|ae ?_);change aU _ _ (updateSeq ↥s1 (·.push .none) >>= λ_=>updateSeq ↥s1 (·.pop)) _ _ _;show ae (jZ oS3 @r ?_);have hS4:=et (eJ (·.push eQ)) oS3 @r;show jZ (hz:=by seq_fits) hS4 @r ?_;have hS5:=et (eJ (·.pop)) hS4 @r;ext;let(e0,e1,e2,e3,e4,e5):=fS nS3;ext;have Sh:∀b o,b≠↥s1->s3.heap.get? b=θ o->((s3.heap.update ↥s1<|eJ (·.push eQ)).update ↥s1 (eJ (·.pop))).get? b=θ o:=
  λb o hb e=>(cQ _ _<|cp hb).trans ((cQ _ _<|cp hb).trans e)
 show av (plainId_quiet i7 _,loop _ _ (I3u.turned (t':=s3.toks) (λb o hb e=>Sh b o hb e) e0 e1 e3 e4 e5) (T3.keep _ _ _ st3 λb hb o e=>Sh b o (hfS b hb) e) hS5)
end
variable{P:bu}{H:Hp}{h:cD}{a:af}
def fP.there{o:HO}(x:fP P w H h a o):∃u,h.get? a=θ u:=by
 cases o with
 |lst xs=>let(_,_,_,_,e):=x;show(_,e)
 |tup xs=>let(_,_,_,o,e,_):=x;show(_,e)
 |dK bw=>let(_,_,_,_,o,_,_,e,_):=x;show(_,e)
 |dT bw=>let(_,_,_,_,o,_,_,e,_):=x;show(_,e)
 |set S n=>let(o,_,_,_,e,_):=x;show(_,e)
 |ins C dx fs=>let(_,_,_,e,_):=x;show(_,e)
 |own y=>show x
 |xd fs=>let(_,(_,_,_,e,_),_):=x;show(_,e)
 |rng lo hi=>let(_,_,_,e):=x;show(_,e)
 |kg ob u=>let(e,_):=x;show(_,e)
 |Sb ps=>show(_,(show h.get? a=θ _ from x))
 |met f y=>show(_,(show h.get? a=θ _ from x))
 |ext φ=>let(_,e,_):=x;show e
structure Fl(P:bu)(w:bU)(base:cD)(outer:?L Env)(H:Hp)(s:ao)(ea:af)(cls:ai)(H':Hp)(B:cD)(s':ao):?P where
 os:s'.os=s.os
 bare:AllBare s'.gens
 un:Un (qN outer) [] H H' s.heap s'.heap
 eD:pT P w H' s'.heap
 U7:∃a0,GN B outer ea cls a0 s'.heap
 bs:base.StaysIn B
 GQ:∀b u,H' b=θ u->∃o,B.get? b=θ o
 old:∀b o,s.heap.get? b=θ o->H b=ι->b∉qN outer->B.get? b=θ o
 all:∀b o,s.heap.get? b=θ o->b∉qN outer->∃o',B.get? b=θ o'
abbrev tm(P:bu)(w:bU)(base:cD):Mw:=λouter H s E e s'=>∃ea cls H' B,e = .ref ea/\Fl P w base outer H s ea cls H' B s'/\E cls ι H'
section
variable {P:bu}{w:bU}{base B:cD}{outer:?L Env}{H H':Hp}{s s':ao}{ea:af}{cls:ai}{h':cD}
def Un.ad9{L:af}{fs ex:?L af}{h1:cD}(u:Un (L::fs) ex H H' h h1)(hL:h.objs.size<=L):Un fs ex H H' h h1:=
 (λb o e n hb hx=>u.keep b o e n (λz=>(bg.mp z).elim (λq=>by subst q;show ?A (aO e) (Dv.mpr hL)) hb) hx,λb o e n hb hx=>u.slot b o e n (aM _ hb) hx,u.free,u.there,u.tK,u.tL,u.va)
def Fl.Pg(F:Fl P w base outer H s ea cls H' B s')(st:B.StaysIn h'):pT P w H' h':=λb ob e=>by
 let(a0,f1,_):=F.U7;show(F.eD b ob e).sY (λc u hc q=>?_) (λ_ z=>z) λ_ _ z=>z;have ht:∃o,B.get? c=θ o:=by
  rcases hc with rfl|hc
  .show F.GQ _ _ e
  .show F.GQ _ _ hc
 let(o,ho):=ht;have h2:=f1 c o ho;rw[q]at h2;cases h2;show st c _ ho
def Fl.U8(F:Fl P w base outer H s ea cls H' B s')(st:B.StaysIn h')(sl:s'.heap.UpToSlots h'):Un (qN outer) [] H H' s.heap h':=by
 let(a0,f1,f2,f3,f4):=F.U7;have slot:∀b o,s.heap.get? b=θ o->H b=ι->b∈qN outer->∃z,h'.get? b=θ {o with slots:=z}:=λb o e n hb=>by
  let(z,e1):=F.un.slot b o e n hb @s;let(_,o',e2,hd):=f3.mem hb;rw[e1]at e2;cases e2;let(z2,e3):=sl b _ e1 hd;show(z2,e3)
 show(λb o e n hb _=>st b o (F.old b o e n hb),λb o e n hb _=>slot b o e n hb,F.un.free,λb o e hx=>?_,F.un.tK,F.un.tL,F.un.va);by_cases hb:b∈qN outer
 .let(_,o',e2,hd):=f3.mem hb;let(z,e3):=sl b o' e2 hd;show(_,e3)
 .let(o',e1):=F.all b o e hb;show(o',st b o' e1)
def Fl.free(F:Fl P w base outer H s ea cls H' B s'):H' ea=ι:=by
 let(a0,_,f2,_):=F.U7;cases q:H' ea with
 |none=>rfl
 |some u=>let(o,ho):=F.GQ _ _ q;rw[f2]at ho;cases ho
end
section
variable {X:Cx}{π:?L @u}{σ:St}{H H':Hp}{s s':ao}{ea:af}{cls:ai}{B:cD}{M:Model}{E:ai->ao->?P}
structure Cx.Body(X:Cx):?P where
 Gs:X.stack=X.env::X.outer
 fr:X.env.frame=θ X.env.locals
 ex:X.ex=[]
def Cx.Body.qN(b:X.Body):_L.qN X.stack=X.env.locals::X.fs:=by
 rw[b.Gs];unfold _L.qN;rw[oK,b.fr];rfl
def Inv.fl(I:Inv X π σ H s)(b:X.Body)(os:s'.os=s.os)(bare:AllBare s'.gens)(u:Un (qN X.stack) [] H H' s.heap s'.heap)(eD:pT X.prog X.w H' s'.heap)(U7:∃a0,GN B X.outer ea cls a0 s'.heap)(bs:X.base.StaysIn B)(GQ:∀b u,H' b=θ u->∃o,B.get? b=θ o)(old:∀b o,s.heap.get? b=θ o->H b=ι->b∉qN X.stack->B.get? b=θ o)(all:∀b o,s.heap.get? b=θ o->b∉qN X.stack->∃o',B.get? b=θ o'):Fl X.prog X.w X.base X.outer X.zM X.kJ ea cls H' B s':=by
 have ex0:X.ex=[]:=b.ex;have base:=I.base;rw[ex0]at base;have neL:∀c o,X.kJ.heap.get? c=θ o->c≠X.env.locals:=λc o e=>bz (bJ (aO e) I.ok.above);have nst:∀c o,X.kJ.heap.get? c=θ o->c∉X.fs->c∉qN X.stack:=λc o e hc hm=>by
  rw[b.qN]at hm;rcases bg.mp hm with z|z
  .show neL c o e z
  .show hc z
 have u0:Un (qN X.stack) [] X.zM H X.kJ.heap s.heap:=base.mono (λc hc=>by rw[b.qN];show aM _ hc) (λ_ z=>z);have u1:Un (X.env.locals::X.fs) [] X.zM H' X.kJ.heap s'.heap:=by rw[<-b.qN];show u0.trans u
 show(os.trans I.os,bare,u1.ad9 I.ok.above,eD,U7,bs,GQ,λc o e n hc=>?_,λc o e hc=>?_)
 .show old c o (base.keep c o e n hc @s) (base.free c o e n @s) (nst c o e hc)
 .let(o',e1):=base.there c o e @s;show all c o' e1 (nst c o e hc)
def Fl.leave(I:Inv X π σ H s)(b:X.Body)(F:Fl X.prog X.w X.base X.stack H s ea cls H' B s'){Q:Unit->ao->?P}(q:∀Jt,Fl X.prog X.w X.base X.outer X.zM X.kJ ea cls H' B Jt->Q () Jt):
  aU M X.A (leaving X.env<|.ref ea) Q E s':=by
 let(a0,hfl):=F.U7;have Ph:=hfl;rw[b.Gs]at Ph;have NP:=I.ok.frames;rw[b.Gs]at NP;show wpAny_leaves_onW NP b.fr Ph λh' f sl=>q _ ?_;show I.fl (s':={s' with heap:=h'}) b F.os F.bare (F.U8 f.1 sl) (F.Pg f.1) (a0,f) F.bs F.GQ F.old F.all
variable{h':cD}
def JJ(I:Inv X π σ H s)(b:X.Body){vs:?L ai}(hx:Heap.MadeExcOf s.heap h' ea cls vs){Q:Unit->ao->?P}(q:∀B Jt,Fl X.prog X.w X.base X.outer X.zM X.kJ ea cls H B Jt->Q () Jt):
  aU M X.A (leaving X.env<|.ref ea) Q E {s with heap:=h'}:=by
 have NP:=I.ok.frames;rw[b.Gs]at NP;have Sg:∀env∈X.stack,∀a,env.frame=θ a->a∈qN X.stack:=λenv he a ha=>wR.mpr (env,he,ha);have hl:=PySem.W.funFrames_hide I.stack Sg;have Tf:=hl;rw[b.Gs]at Tf;rw[<-b.Gs]at Tf;have NN:(ji s.heap<|qN X.stack).StaysIn s.heap:=λc o e=>IA _ e;show wpAny_leaves_madeW (base:=ji s.heap (qN X.stack)) (s:={s with heap:=h'}) NP b.fr NN (by rw[<-b.Gs];show hl) hx λh2 t f _ _ sl=>q (ji s.heap<|qN X.stack) _ ?_;have old:∀c o,s.heap.get? c=θ o->c∉qN X.stack->(ji s.heap<|qN X.stack).get? c=θ o:=λc o e hc=>GF _ e hc;have GQ:∀c u,H c=θ u->∃o,(ji s.heap<|qN X.stack).get? c=θ o:=λc u e=>by
  have hn:c∉qN X.stack:=λz=>by have:=I.EM c z;rw[e]at this;cases this
  have nM:=I.eD.lt e;obtain⟨o,ho⟩:∃o,s.heap.get? c=θ o:=(I.eD c u e).there;show(o,old c o ho hn)
 have slot:∀c o,s.heap.get? c=θ o->c∈qN X.stack->∃z,h2.get? c=θ {o with slots:=z}:=λc o e hc=>by
  let(_,o',e2,hd):=I.stack.mem hc;rw[e]at e2;cases e2;show sl c o (hx.keeps c o e) hd
 show I.fl (s':={s with heap:=h2}) b @r I.bare (λc o e n hc _=>f.1 c o (old c o e hc),λc o e n hc _=>slot c o e hc,λc o e n _=>n,λc o e _=>?_,λ_ _ z=>z,λ_ _ _ z=>z,λc ps z=>(#[],by rw[z];simp))
  (λc ob e=>(I.eD c ob e).sY (λd u hd z=>?_) (λ_ z=>z) λ_ _ z=>z) (_,f) (λc o e=>?_) GQ (λc o e _ hc=>old c o e hc) (λc o e hc=>(o,old c o e hc))
 .by_cases hc:c∈qN X.stack
  .let(z,e2):=slot c o e hc;show(_,e2)
  .show(o,f.1 c o<|old c o e hc)
 .have ht:∃o,(ji s.heap<|qN X.stack).get? d=θ o:=by
   rcases hd with rfl|hd
   .show GQ _ _ e
   .show GQ _ _ hd
  let(o,ho):=ht;have z2:=NN d o ho;rw[z]at z2;cases z2;show f.1 d _ ho
 .let(z1,z2):=I.bs c o e;show old c o z1 λhm=>by have:=(I.stack.mem hm).1;rw[e]at this;cases this
end
section
variable {P:bu}{w:bU}{K:aa}{mg:χ->?O ai}{base:cD}
variable{x qual:χ}{f:af}{fd:aV}{N ps:?L χ}{k:?N}
def iP.okX{st:cz}{sp:Sp}(F:iP K x qual st f fd)(S:bO N ps (az st))(len:∀vs H Q E,sp vs H Q E->↑vs=↑ps)(nA:∀(ez:ai)(A:cy)(outer:?L Env)(s:ao)(H:Hp)(vs:?L V)(Q:VK) (E:XK),gp k (A.deeper<|envOfC qual (az st) ↥s f ez)->sp vs H Q E->
   ∃t,vP @K (dE st) t/\t {nx:=λ_ H'=>Q .fB H',rt:=Q} (start N vs) H):c8 P w K mg base @B (k+1) f fd ps sp:=by
 let(oc,od,kV,doc,pm,an,ez,ct,SH,rfl,lk,pU):=F.ex;show UJ lk pU S len λA outer s H vs Q E hr Se=>nA ez A outer s H vs Q E hr Se
abbrev nS(P:bu)(w:bU)(K:aa)(mg:χ->?O ai)(base:cD)(k:?N)(x:χ)(ps:?L χ)(sp:Sp):?P:=
 ∃(f:af)(fd:aV),c8 P w K mg base @B k f fd ps sp/\Binds K fd ps []/\cW K (.ref f)=ξ/\mg x=θ (.ref f)
structure kS(X:Cx)(E:XK):?P where
 body:X.Body
 xe:∀(e:ai)(s':ao),aU ⇑X X.A (leaving X.env e) (λ_ Jt=>tm X.prog X.w X.base X.outer X.zM X.kJ E e Jt) (λe' Jt=>tm X.prog X.w X.base X.outer X.zM X.kJ E e' Jt) s'->X.xe e s'
 own:PassesOwn ⇑X X.A X.env X.xe
 hd:X.calm=ξ
variable{scope:Scope}{cd:ai}{outer:?L Env}{s:ao}
def gg{E:XK}:kS (qS @B P w K mg base N qual scope f cd A outer s H E) E:=
 ((@r,@r,@r),λ_ _ z=>z,PassesOwn.leaving,@r)
end
section
variable {X:Cx}{E:XK}
def kS.passes(R:kS X E):vS (tm X.prog X.w X.base) X E:=by
 rintro π σ H s e s' I ⟨ea,cls,H',B,rfl,F,q⟩;show R.xe _ _ (F.leave I R.body λJt F'=>(ea,cls,H',B,@r,F',q))
variable{k:?N}{x:χ}{ps:?L χ}{e:bR}{es:?L bR}{t:TA}{pos:Pos}
def qX{sp:Sp}{p:Pos}(R:kS X E)(D:nS X.prog X.w X.K X.mg X.base k x ps sp)(hr:gp k X.A)(hg:Gl X x)(ha:PA X (e::es) t)(ny:(x==("__debug__":χ))=υ:=by decide)(he:aq (e::es) X.env=@c::aq es X.env:=by rfl)(j4:(dh pos @I).any (·.1)=υ:=by rfl):PE X @w (GX sp [] E t):=by
 let(f,fd,G,b,kp,m):=D;show ET G hr hg m kp b .nil R.passes ha ny he j4
structure MW(K:aa)(mg:χ->?O ai)(x:χ)(C:af):?P where
 at_:mg x=θ @Y
 exc:u9 K C [.type "ValueError",.type "Exception",.type "BaseException",.type "object"] "ValueError.__new__"=ξ
variable{K:aa}{mg:χ->?O ai}{C:af}
def MW.own{h₀:cD}(c:MW K mg x C)(X:K.In h₀):OwnCls x C [.type "ValueError",.type "Exception",.type "BaseException",.type "object"] "ValueError.__new__" mg h₀:=by
 let(e,q):=c;show(e,?_);unfold u9 at q;split at q
 .rename_i dd cd sl ho;split at q
  .rename_i C' bm k0 k1 k2 k3 n k5 hm hs;simp only[aZ,beq_iff_eq,Bool.not_eq_true']at q;ext;let(((((rfl,rfl),ae0),ht),eD),ZJ):=q;let(nm,bs,mro,ns,qn,hd,sn,sub,ab,col,del):=cd;dsimp only at hm ae0 eD ZJ;subst hm ae0;have A9:sl=#[k0,k1,k2,k3,θ<|.builtin "ValueError.__new__",k5]:=by
    obtain⟨l⟩:=sl;simp only at hs;rw[hs]
   subst A9;ext;show(bm,ns,nm,qn,bs,hd,sn,sub,ab,col,dd,k0,k1,k2,k3,k5,_,X _ _ ho,.of_isNs<|PySem.W.isNs_of_in X eD,PySem.W.nsMap_none_of_in X eD ZJ,PySem.W.tail_of_in X ht)
  .cases q
 .cases q
abbrev W8(C:af)(E:XK)(t:TA):TS:=λ_ σ H=>t σ H λvs H1=>↑vs<=1000/\E @Y ι H1
variable{np cU:Pos}
def Pj(R:kS X E)(c:MW X.K X.mg x C)(hg:Gl X x)(ha:PA X (e::es) t)(ny:(x==("__debug__":χ))=υ:=by decide)(he:aq (e::es) X.env=@c::aq es X.env:=by rfl)(j4:(dh cU @I).any (·.1)=υ:=by rfl):
  PS X (.Raise (θ<|.Call (.Name x np) (e::es) [] cU) ι pos) (W8 C E t):=by
 intro π s σ H D I h;ext;let(tl,N,nm,q,bs,hdct,sn,sub,ab,col,dd,k0,k1,k2,k3,k5,mN,hC,hN,ZJ,T):=(c.own I.ok.mod.Zv).obj;ext;show wpAny_Raise_call_subU (C:=C) (nm:=nm) (q:=q) (N:=N) (bs:=bs) (bm:=tl) (hdct:=hdct) (sn:=sn) (sub:=sub) (ab:=ab) (col:=col) (dd:=dd) (k0:=k0) (k1:=k1) (k2:=k2) (k3:=k3) (k5:=k5)
  zX @d zX (mN:=mN) (T.hasType @d) (I.ok.hd R.hd) (by rw[he];show(υ||(dh cU @I).any (·.1))=υ;rw[j4];rfl) ZJ (rH I hg c.at_ (@r,?_) ny)
 have go:=ha cU π s σ H _ I h;rw[he]at go ⊢;show uK (cZ go (λus s2 ⟨vs,H2,I2,r,hz,q2⟩=>(@r,?_,I2.bk _ _ hC,hN.keeps I2.bk,T.keeps I2.bk,λh' ea hx=>?_)) λ_ _ z=>z)
 .rw[<-r.length];show fe (lF hz)
 .show R.xe _ _ (JJ I2 R.body hx λB Jt F=>(ea,.ref C,H2,B,@r,F,q2))
end
noncomputable abbrev Cx.rS(X:Cx)(ea:af)(oe:Obj):Cx:={X with A:=X.A.mark (θ<|.ref ea),calm:=υ,xe:=λ_ _=>?X,pn:=(ea,oe,)::X.pn}
section
variable {X:Cx}{π:?L @u}{σ:St}{H:Hp}{s:ao}{ea:af}{oe:Obj}
def Inv.rS(I:Inv X π σ H s)(h:s.heap.get? ea=θ oe/\H ea=ι/\ea≠X.env.locals/\ea∉X.fs/\∀v,oe.data≠.cell v):Inv (X.rS ea oe) π σ H s:=by
 let(ok,a1,a2,a3,a4,a5,a6,a7,pin,a8,a9):=I;show((ok.mod,ok.kind,ok.glob,ok.blt,ok.above,ok.inj,ok.has,ok.UA,@n,ok.frames,ok.Gs,ok.exf,ok.bs,ok.Mq,ok.GR,ok.Jc,ok.vc,ok.KR),a1,a2,a3,a4,a5,a6,a7,λp hp=>?_,a8,a9);rcases bg.mp (show p∈(ea,oe,)::(X.pn++π)from hp)with rfl|hp
 .show h
 .show pin p hp
def Inv.uncaught(ok:X.Ok)(I:Inv (X.rS ea oe) π σ H s):Inv X π σ H s:=
 (ok,I.os,I.bare,I.base,I.loc,I.cell,I.free,I.qQ,λp hp=>I.pin p (show p∈(ea,oe,)::(X.pn++π)from aM _ hp),I.eD,I.len)
variable{D:Ends}{s':ao}
def SP.uncaught{f:Flow}(ok:X.Ok)(h:SP (X.rS ea oe) π D f s'):SP X π D f s':=by
 cases f with
 |next=>let(fo,H',I,q):=h;show(fo,H',I.uncaught ok,q)
 |brk=>let(fo,H',I,q):=h;show(fo,H',I.uncaught ok,q)
 |cont=>let(fo,H',I,q):=h;show(fo,H',I.uncaught ok,q)
 |ret u=>let(v,fo,H',I,r,q):=h;show(v,fo,H',I.uncaught ok,r,q)
variable{H0 H':Hp}{s0:ao}{cls:ai}{h':cD}
def Fl.pinned{a0:ai}{B:cD}(F:Fl X.prog X.w X.base X.stack H0 s0 ea cls H' B s')(I:Inv X π σ H0 s0)(b:X.Body)(f:GN B X.stack ea cls a0 h'):
  ∃oe,oe.cls=cls/\h'.get? ea=θ oe/\H' ea=ι/\ea≠X.env.locals/\ea∉X.fs/\∀v,oe.data≠.cell v:=by
 let(oe,vs,e1,e2,e3,e4):=f.first;have nf:ea∉qN X.stack:=λz=>by
  let(_,o,ho,hd):=f.2.2.1.mem z;rw[e1]at ho;cases ho;show hd _ e3
 rw[b.qN]at nf;show(oe,e2,e1,F.free,λz=>nf (by rw[z];show aJ),λz=>nf (aM _ z),λv z=>by rw[e3]at z;cases z)
def Fl.inv{B:cD}(F:Fl X.prog X.w X.base X.stack H0 s0 ea cls H' B s')(I:Inv X π σ H0 s0)(st:B.StaysIn h')(sl:s'.heap.UpToSlots h'):Inv X π σ H' {s' with heap:=h'}:=
 I.UE (s':={s' with heap:=h'}) (ch:=[]) F.os (F.U8 st sl) (F.Pg st) F.bare λb z=>?A z @s
variable{k:?N}{x:χ}{ps:?L χ}{e:bR}{es:?L bR}{t:TA}{pos:Pos}
def Pk{sp:Sp}{p:Pos}{Q:VK}{E:XK}(D:nS X.prog X.w X.K X.mg X.base k x ps sp)(hr:gp k X.A)(hg:Gl X x)(ha:PA X.N5 (e::es) t)(I:Inv X π σ H s)(h:t σ H λvs H1=>sp vs H1 Q E)(ny:(x==("__debug__":χ))=υ:=by decide)(he:aq (e::es) X.env=@c::aq es X.env:=by rfl)(j4:(dh pos @I).any (·.1)=υ:=by rfl):
  aU ⇑X X.A (eval @w X.env) (EP X π σ Q) (λe s'=>∃H1 s1,Inv X π σ H1 s1/\tm X.prog X.w X.base X.stack H1 s1 E e s') s:=by
 let(f,fd,F,hb,hk,hm):=D;show jJ (rH I hg hm ?_ ny);show vq (h₀:=X.base) I.ok.mod.Zv hk (cZ (ha pos π s σ H _ (I.AK _) h) (λus s1 ⟨vs,H1,I1,r,q⟩=>(I1.qr.vd,?_)) λ_ _ z=>z.elim) he j4;have I1:=I1.qr;have hl:↑us=↑ps:=by rw[<-r.length];show F.len _ _ _ _ q
 have hb1:=hb s1 us I1.vd (by rw[bP];show hl);rw[bP]at hb1;show wpAny_call (codeAny_mono (F.run X.A X.stack s1 H1 (us,[]) us vs Q E hr I1.Ww hb1 r q) λr s' hq=>?_);cases r with
 |error e=>show(H1,s1,I1,hq)
 |ok fl=>
  cases fl with
  |ret u=>show I1.after hq
  |next=>show fH hq
  |brk=>show fH hq
  |cont=>show fH hq
end
abbrev uc(h:cD)(zp TI TO:af):?P:=∃f0 f1,h.get? zp=θ {cls:=.type "zip",dict:=ι,data:=.fields #[f0,f1,.bool υ,.ref TI,.ref TO],slots:=#[]}/\(f0 = .none\/∃T:?N,f0=rawInt T)
variable{b:af}{h':cD}{o:Obj}
def cg(x:iJ a h h')(n:b≠a)(e:h.get? b=θ o):h'.get? b=θ o:=(x.2 b n).trans e
def ne2{c z:af}(h:c=a\/c=b)(h1:a≠z)(h2:b≠z):c≠z:=by
 rcases h with rfl|rfl
 .show h1
 .show h2
section
variable {prog:bu}{w:bU}{A:cy}{E:ai->ao->?P}{s:ao}{zp TI TO i1 i2 t1 t2:af}{i n1 n2:?N}{P1 P2:?N->ai->?P}{S1 S2:?N->cD->?P}
def Eg{Q:?O Obj->ao->?P}(h:∀o,Q o s):aU @v A (loadIfAlive a) Q E s:=by
 first
  |showλΓ hΓ p=>h _
  |(intro Γ hΓ p;show h _)
def Hi{Q:?B->ao->?P}(hz:uc s.heap zp TI TO)(h:∀b h',uc h' zp TI TO->(b=ξ->∃f0 f1,h'.get? zp=θ {cls:=.type "zip",dict:=ι,data:=.fields #[f0,f1,.bool υ,.ref TI,.ref TO],slots:=#[]})->iJ zp s.heap h'->Q b {s with heap:=h'}):
  aU @v A (fW<|.ref zp) Q E s:=by
 let(f0,f1,hz,hf):=hz;have here:∀b,Q b s:=λb=>h b s.heap (f0,f1,hz,hf) (λ_=>(f0,f1,hz)) (@r,λ_ _=>rfl);unfold fW;show ae (dO hz @r (x:=f0) @r ?_);rcases hf with rfl|⟨T,rfl⟩
 .show av (here ξ)
 .change aU _ _ (loadIfAlive _ >>= _) _ _ _;show ae (Eg λo=>?_);cases o with
  |none=>show av (here ξ)
  |some ob=>
   show ae (dO hz @r (x:=f1) @r ?_);show g8 @qb (λ_=>av (here υ));show ae (dH hz @s λh1 e1 s1=>av (h υ h1 (_,_,e1,.inr (T,@r)) @n s1))
variable{Q:ai->ao->?P}
def Pl(D1:Draws prog w A i1 [i1,t1] n1 P1 S1)(D2:Draws prog w A i2 [i2,t2] n2 P2 S2)(ap:ZipApart zp TI TO i1 i2 t1 t2)(hz:uc s.heap zp TI TO)(hI:IsPair s.heap TI (.ref i1) (.ref i2))(hO:∃a b,IsPair s.heap TO a b)(h1:S1 i s.heap)(h2:S2 i s.heap)(l1:i<n1)(l2:i<n2)(hQ:∀p h' tk x y,P1 i x->P2 i y->↥s<=p->IsPair h' p x y->uc h' zp TI TO->IsPair h' TI (.ref i1) (.ref i2)->(∃a b,IsPair h' TO a b)->S1 @X h'->S2 @X h'->
   (∀c o,c≠zp->c≠TO->c≠i1->c≠i2->s.heap.get? c=θ o->h'.get? c=θ o)->Q (.ref p) {s with heap:=h',toks:=tk}):
  aU @v A (Builtin.«zip.__next__» ([.ref zp],[])) (λfin s'=>∃v,fin = .done (.ret v)/\Q v s') E s:=by
 let(f0,f1,Pm,hf0):=id hz;change aU _ _ (field (.ref zp) 2 >>= _) _ _ _;show ae (dO Pm @r (x:=.bool υ) @r ?_);change aU _ _ (field (.ref zp) 3 >>= _) _ _ _;show ae (dO Pm @r (x:=.ref TI) @r<|ae<|gK hI @r ?_);change aU _ _ (fW (.ref zp) >>= _) _ _ _;show ae (Hi hz λb g0 z0 zf s0=>?_);have W9:∀{j:?N}{h h':cD},S1 j h->(∀c o,c=i1\/c=t1->h.get? c=θ o->h'.get? c=θ o)->S1 j h':=λ{j h h'} st k=>D1.frame j h h' st λc hc o e=>k c o (by simpa using hc) e;have fr2:∀{j:?N}{h h':cD},S2 j h->(∀c o,c=i2\/c=t2->h.get? c=θ o->h'.get? c=θ o)->S2 j h':=λ{j h h'} st k=>D2.frame j h h' st λc hc o e=>k c o (by simpa using hc) e;cases b with
 |true=>
  ext;let(g0f,g1f,zz):=zf @r;let(a,b,hO):=hO;ext;simp only[if_true];show ae (vt<|ae<|dO zz @r (x:=.ref TO) @r ?_);show ae (dH zz @s λk1 z1 s1=>ae ?_);simp only[List.zipIdx_cons,List.zipIdx_nil,jC,pN];show ae (ae<|wpAny_onRaise ?_);change aU _ _ (cO (.ref i1) >>= _) _ _ _;show ae (D1.item i {s with heap:=k1} _ _ l1 (W9 h1 λc o hc e=>cg s1 (ne2 hc ap.i1z ap.l1z) (cg s0 (ne2 hc ap.i1z ap.l1z) e)) λx k2 U3 p1 st1 s2=>av ?_);have O2:IsPair k2 TO a b:=cg s2 ap.TOi1 (cg s1 ap.TOz<|cg s0 ap.TOz hO);show ae (gK O2 @r<|ae<|wpAny_updateSeq_pair O2 λk3 O3 s3=>ae (yd<|av ?_));show ae (ae<|wpAny_onRaise ?_);change aU _ _ (cO (.ref i2) >>= _) _ _ _
  show ae (D2.item i {s with heap:=k3,toks:=U3} _ _ l2 (fr2 h2 λc o hc e=>cg s3 (ne2 hc ap.TOi2.symm ap.l2TO) (cg s2 (ne2 hc ap.i12.symm ap.l2i1)
   (cg s1 (ne2 hc ap.i2z ap.l2z)<|cg s0 (ne2 hc ap.i2z ap.l2z) e))) λy k4 tk4 p2 C9 s4=>av ?_)
  have O4:IsPair k4 TO x b:=cg s4 ap.TOi2 O3;show ae (gK O4 @r<|ae<|wpAny_updateSeq_pair O4 λk5 O5 s5=>ae (yd<|av<|av ?_));have O5:IsPair k5 TO x y:=O5;show ae (gK O5 @r<|ae<|ID ?_);have z5:=cg s5 ap.TOz.symm (cg s4 ap.i2z.symm<|cg s3 ap.TOz.symm<|cg s2 ap.i1z.symm z1);have sz:k5.objs.size=↥s:=by rw[s5.1,s4.1,s3.1,s2.1,s1.1,s0.1]
  change aU _ _ (pO (.ref zp) (.ref k5.objs.size) >>= _) _ _ _;show ae ?_;unfold pO;show ae (dH (ah _ z5) @s λk7 z7 s7=>?_);show dH z7 @s λk8 z8 s8=>av (_,@r,?_);have nz:k5.objs.size≠zp:=eA (aO z5);have up:∀c o,c≠zp->k5.get? c=θ o->k8.get? c=θ o:=λc o n e=>cg s8 n (cg s7 n<|ah _ e);have all:∀c o,c≠zp->c≠TO->c≠i1->c≠i2->s.heap.get? c=θ o->k8.get? c=θ o:=λc o c1 c2 c3 c4 e=>
   up c o c1 (cg s5 c2<|cg s4 c4<|cg s3 c2<|cg s2 c3<|cg s1 c1<|cg s0 c1 e)
  show hQ k5.objs.size k8 _ x y p1 p2 (by rw[sz];show aj _) (cg s8 nz<|cg s7 nz<|aQ _ @r) (_,_,z8,.inr (k5.objs.size,@r)) (all _ _ ap.TIz ap.TITO ap.TIi1 ap.TIi2 hI) (x,y,up _ _ ap.TOz O5) ?_ ?_ all
  .show W9 st1 λc o hc e=>up c o (ne2 hc ap.i1z ap.l1z) (cg s5 (ne2 hc ap.TOi1.symm ap.l1TO)<|cg s4 (ne2 hc ap.i12 ap.l1i2)<|cg s3 (ne2 hc ap.TOi1.symm ap.l1TO) e)
  .show fr2 C9 λc o hc e=>up c o (ne2 hc ap.i2z ap.l2z) (cg s5 (ne2 hc ap.TOi2.symm ap.l2TO) e)
 |false=>
  simp only[jk,if_false];show ae (wpAny_arrayLoop ?_);simp only[jC,pN];show ae (ae<|fO ?_);change aU _ _ (cO (.ref i1) >>= _) _ _ _;show ae (D1.item i {s with heap:=g0} _ _ l1 (W9 h1 λc o hc e=>cg s0 (ne2 hc ap.i1z ap.l1z) e) λx k2 U3 p1 st1 s2=>av (av ?_));show ae (ae<|fO ?_);change aU _ _ (cO (.ref i2) >>= _) _ _ _;show ae (D2.item i {s with heap:=k2,toks:=U3} _ _ l2 (fr2 h2 λc o hc e=>cg s2 (ne2 hc ap.i12.symm ap.l2i1) (cg s0 (ne2 hc ap.i2z ap.l2z) e)) λy k4 tk4 p2 C9 s4=>av (av<|av ?_));show ae (ID (hsz:=by change 2<=au;decide) (av (_,@r,?_)));have sz:k4.objs.size=↥s:=by rw[s4.1,s2.1,s0.1]
  have all:∀c o,c≠zp->c≠i1->c≠i2->s.heap.get? c=θ o->k4.get? c=θ o:=λc o c1 c3 c4 e=>cg s4 c4 (cg s2 c3<|cg s0 c1 e);ext;let(f0',f1',z4,hf4):=z0;let(a,b,hO):=hO;ext;show hQ k4.objs.size _ _ x y p1 p2 (by rw[sz];show aj _) (aQ _ @r) (f0',f1',ah _<|cg s4 ap.i2z.symm<|cg s2 ap.i1z.symm z4,hf4) (ah _<|all _ _ ap.TIz ap.TIi1 ap.TIi2 hI)
   (a,b,ah _<|all _ _ ap.TOz ap.TOi1 ap.TOi2 hO) (W9 st1 λc o hc e=>ah _ (cg s4 (ne2 hc ap.i12 ap.l1i2) e)) (fr2 C9 λc o hc e=>ah _ e)
   (λc o c1 _ c3 c4 e=>ah _ (all c o c1 c3 c4 e))
def Tg{Q:Fin->ao->?P}(D1:Draws prog w A i1 [i1,t1] n1 P1 S1)(ap:ZipApart zp TI TO i1 i2 t1 t2)(hz:uc s.heap zp TI TO)(hI:IsPair s.heap TI (.ref i1) (.ref i2))(hO:∃a b,IsPair s.heap TO a b)(h1:S1 n1 s.heap)(hE:∀h' e,(∀c o,c≠zp->c≠i1->s.heap.get? c=θ o->h'.get? c=θ o)->(∃o,h'.get? e=θ o/\o.cls = .type "StopIteration")->E (.ref e) {s with heap:=h'}):
  aU @v A (Builtin.«zip.__next__» ([.ref zp],[])) Q E s:=by
 let(f0,f1,Pm,hf0):=id hz;change aU _ _ (field (.ref zp) 2 >>= _) _ _ _;show ae (dO Pm @r (x:=.bool υ) @r ?_);change aU _ _ (field (.ref zp) 3 >>= _) _ _ _;show ae (dO Pm @r (x:=.ref TI) @r<|ae<|gK hI @r ?_);change aU _ _ (fW (.ref zp) >>= _) _ _ _;show ae (Hi hz λb g0 z0 zf s0=>?_);have W9:∀{j:?N}{h h':cD},S1 j h->(∀c o,c=i1\/c=t1->h.get? c=θ o->h'.get? c=θ o)->S1 j h':=λ{j h h'} st k=>D1.frame j h h' st λc hc o e=>k c o (by simpa using hc) e;cases b with
 |true=>
  let(g0f,g1f,zz):=zf @r;simp only[if_true];show ae (vt<|ae<|dO zz @r (x:=.ref TO) @r ?_);show ae (dH zz @s λk1 z1 s1=>ae ?_);simp only[List.zipIdx_cons,List.zipIdx_nil,jC,pN];show ae (ae<|wpAny_onRaise ?_);change aU _ _ (cO (.ref i1) >>= _) _ _ _;show ae (D1.done {s with heap:=k1} _ _ (W9 h1 λc o hc e=>cg s1 (ne2 hc ap.i1z ap.l1z) (cg s0 (ne2 hc ap.i1z ap.l1z) e)) λk2 e s2 he=>?_);let(oe,hoe,hce):=he;have z2:=s2 _ _ ap.i1z.symm z1;have ne:e≠zp:=λx=>by subst x;rw[z2]at hoe;cases hoe;simp at hce
  show dH z2 @s λk3 _ s3=>hE k3 e (λc o c1 c3 x=>cg s3 c1 (s2 _ _ c3<|cg s1 c1<|cg s0 c1 x)) (oe,cg s3 ne hoe,hce)
 |false=>
  simp only[jk,if_false];show ae (wpAny_arrayLoop ?_);simp only[jC,pN];show ae (ae<|fO ?_);change aU _ _ (cO (.ref i1) >>= _) _ _ _;show ae (D1.done {s with heap:=g0} _ _ (W9 h1 λc o hc e=>cg s0 (ne2 hc ap.i1z ap.l1z) e) λk2 e s2 he=>hE k2 e (λc o c1 c3 x=>s2 _ _ c3 (cg s0 c1 x)) he)
end
section
variable {X:Cx}{π:?L @u}{σ:St}{H:Hp}{s:ao}
variable{t':?N}
def Inv.Ak(ch:?L af)(I:Inv X π σ H s)(hf:∀b∈ch,qR X π H b)(kp:∀b o,b∉ch->s.heap.get? b=θ o->h'.get? b=θ o):Inv X π σ H {s with heap:=h',toks:=t'}:=by
 have UC:∀b u,H b=θ u->b∉ch:=λb u e z=>by rw[(hf b z).1]at e;cases e
 show I.step (g':=s.gens) (d':=s.drawn) (ch:=ch) (λb hb=>?_) (λb o _ _ hc e _=>kp b o hc e) (λb o _ _ hc e _=>(o.slots,kp b o hc e)) (λ_ _ _ _ n=>n)
  (λb o hc e=>(o,kp b o hc e)) (λ_ _ e=>e) (λ_ _ _ e=>e) (λb ps e=>(#[],by rw[e];simp)) (λm hm=>?_) (λb u e=>?_) I.bare
 .let(_,f1,_,f3,f4,f5):=hf b hb;show(f3,f1,f4,f5)
 .let(o,es,ep,ho,r):=hm;show(o,es,ep,kp _ o (λz=>(hf _ z).2.1 @r) ho,r)
 .show(I.eD b u e).sY (λc v hc q=>kp c v ?_ q) (λ_ q=>q) λ_ _ q=>q;rcases hc with z|z
  .rw[z];show UC b u e
  .show UC c _ z
end
structure Src(P:bu)(w:bU)(K:aa)(it t:af)(src:Hp->?L V->?P)(si:?N->cD->?P)(ct:?R ai->cD->?P):?P where
 obj:∀i h,si i h->∃o,h.get? it=θ o/\∀v,o.data≠.cell v
 keep:∀i h h',si i h->(∀o,h.get? it=θ o->h'.get? it=θ o)->si i h'
 draws:∀(A:cy),A.handled=ι->∀items,Draws P w A it [it,t] items.size (λi v=>items[i]?=θ v) (λi h=>si i h/\ct items h)
 items:∀(X:Cx),X.prog=P->X.w=w->X.K=K->∀(π:?L @u) (s:ao) (σ:St) (H:Hp) xs,Inv X π σ H s->src H xs->∃cA:?L ai,dD xs cA/\ct cA.toArray s.heap/\↑xs<=au
 inj:∀(X:Cx),X.prog=P->X.w=w->X.K=K->∀(π:?L @u) (s:ao) (σ:St) (H:Hp) xs ys,Inv X π σ H s->src H xs->src H ys->xs=ys
def Lm{x y:?N}(h:x<y):x≠y:=bz h
def ngt{x y:?N}(h:y<x):x≠y:=eA h
def apart_new(n a b:?N)(ha:a<n)(hb:b<n):ZipApart (n+4) (n+2) (n+3) n (n+1) a b:=
 (Lm (x:=n+2) (y:=n+4) @o,Lm (x:=n+3) (y:=n+4) @o,Lm (x:=n) (y:=n+4) @o,Lm (x:=n+1) (y:=n+4) @o,Lm (x:=n+2) (y:=n+3) @o,ngt (x:=n+2) (y:=n) @o,ngt (x:=n+2) (y:=n+1) @o,ngt (x:=n+3) (y:=n) @o,ngt (x:=n+3) (y:=n+1) @o,Lm (x:=n) (y:=n+1) @o,Lm (x:=a) (y:=n+4) @o,Lm (x:=a) (y:=n+3) @o,Lm (x:=a) (y:=n) @o,Lm (x:=a) (y:=n+1) @o,Lm (x:=b) (y:=n+4) @o,Lm (x:=b) (y:=n+3) @o,Lm (x:=b) (y:=n) @o,Lm (x:=b) (y:=n+1) @o)
abbrev ItZ(s1 s2:Hp->?L V->?P):It:=
 (λi H=>∃xs ys,s1 H xs/\s2 H ys/\↑xs=↑ys/\i<↑xs,λi H v H'=>∃p x y,v = .ref p/\H p=ι/\H'=upd H p (.tup [x,y])/\∀xs ys,s1 H xs->s2 H ys->xs[i]?=θ x/\ys[i]?=θ y,
  λi H=>∃xs ys,s1 H xs/\s2 H ys/\↑xs=↑ys/\i=↑xs)
variable{AY:bR}{K:aa}{zp i1 i2 t1 t2:af}{sr1 sr2:Hp->?L V->?P}{si1 si2:?N->cD->?P}{ct1 ct2:?R ai->cD->?P}
def MX{TI TO:af}(ap:ZipApart zp TI TO i1 i2 t1 t2)(go:∀{A:cy}{E:ai->ao->?P}{s:ao}{p:af}{Q:Unit->ao->?P},uc s.heap zp TI TO->(∀h',uc h' zp TI TO->iJ zp s.heap h'->Q () {s with heap:=h'})->aU (model P w) A (letOwnedTupleGo AY (.ref zp)<|.ref p) Q E s)(S1:Src P w K i1 t1 sr1 si1 ct1)(S2:Src P w K i2 t2 sr2 si2 ct2):
  Turn P w K AY (ItZ sr1 sr2) [zp,TI,TO,i1,i2] zp (λi h=>uc h zp TI TO/\IsPair h TI (.ref i1) (.ref i2)/\(∃a b,IsPair h TO a b)/\si1 i h/\si2 i h) where
 mem:=by simp
 obj:=λi h ⟨⟨f0,f1,z,_⟩,h1,⟨a,b,h2⟩,h3,h4⟩ c hc=>by
  simp only[bg,ef,or_false]at hc;rcases hc with rfl|rfl|rfl|rfl|rfl
  .show(_,z,λv q=>by cases q)
  .show(_,h1,λv q=>by cases q)
  .show(_,h2,λv q=>by cases q)
  .show S1.obj i h h3
  .show S2.obj i h h4
 keep:=by rintro i h h' ⟨⟨f0,f1,z,zz⟩,h1,⟨a,b,h2⟩,h3,h4⟩ k;show ((f0,f1,k zp @s _ z,zz),k TI @s _ h1,(a,b,k TO @s _ h2),S1.keep i h h' h3 λo e=>k i1 @s o e,S2.keep i h h' h4 λo e=>k i2 @s o e)
 item:=by
  intro X hP hw hK hc i π s σ H E I hf st hg;ext;subst hP hw hK;let(xs,ys,q1,q2,hl,hi):=hg;let(Hj,r1,c1,z1):=S1.items X @r @r @r π s σ H xs I q1;let(rN,r2,c2,z2):=S2.items X @r @r @r π s σ H ys I q2;let(hz,hI,hO,h1,h2):=st;let(f0,f1,Pm,_):=id hz;ext;have hT:s.TypeIs (.ref zp) "zip":=(_,Pm,@r);have e1:=↑r1;have e2:=↑r2;unfold pyNext
  show ae (zK (fJ (name:=jr "__next__") hT pI (fK pI hT F.entry_zip_next
   (Pl (i:=i) (S1.draws X.A.in1 (I.ok.hd hc) Hj.toArray) (S2.draws X.A.in1 (I.ok.hd hc) rN.toArray) ap hz hI hO (h1,c1) (h2,c2) (by rw[aI];omega) (by rw[aI];omega) λp h' tk x y p1 p2 hp D9 z' I' O' st1 C9 kp=>av ?_) (F.args_zip_next_1 _))))
  show(.ref p,@r,?_);show go z' λhh2 z2 ZK=>?_;have fp:∀b∈[zp,TO,i1,i2],qR X π H b:=λb hb=>hf b (by simp only[bg,ef,or_false]at hb ⊢;rcases hb with h|h|h|h<;>simp[h]);have J:Inv X π σ H {s with heap:=hh2,toks:=tk}:=I.Ak [zp,TO,i1,i2] fp λb o hb e=>by
   simp only[bg,ef,or_false,not_or]at hb;show(ZK.2 b hb.1).trans (kp b o hb.1 hb.2.1 hb.2.2.1 hb.2.2.2 e)
  have npz:p≠zp:=λq=>?A (aO Pm) (by rw[<-q];show Dv.mpr hp);have nI:TI≠zp:=ap.1;have nO:TO≠zp:=ap.2;have n1:i1≠zp:=ap.3;have n2:i2≠zp:=ap.4;have g1:xs[i]?=θ (xs[i]'hi):=ag hi;have g2:ys[i]?=θ (ys[i]'(hl ▸ hi)):=ag (hl ▸ hi);ext;let(u1,k1,v1):=r1.get g1;let(u2,k2,v2):=r2.get g2;have ex:u1=x:=by
   have q:Hj[i]?=θ x:=by simpa using p1
   rw[k1]at q;show bf q
  have ey:u2=y:=by
   have q:rN[i]?=θ y:=by simpa using p2
   rw[k2]at q;show bf q
  subst ex ey;ext;have U9:H p=ι:=I.eD.fresh hp;have J2:=J.adopt (D:=p) (o:=.tup [xs[i]'hi,ys[i]'(hl ▸ hi)]) (I.rK hp U9) (by change 2<=au;decide,[u1,u2],.cons v1<|.cons v2 .nil,(_,(ZK.2 p npz).trans D9,@r,_,@r));show(.ref p,_,J2,@r,(p,_,_,@r,U9,@r,λJK IL a b=>?_),(z2,(ZK.2 TI nI).trans I',(by let(a,b,q):=O';show (a,b,(ZK.2 TO nO).trans q)),S1.keep _ _ _ st1.1 λo e=>(ZK.2 i1 n1).trans e,S2.keep _ _ _ C9.1 λo e=>(ZK.2 i2 n2).trans e),λb hb=>?_)
  .rw[S1.inj X @r @r @r π s σ H JK xs I a q1,S2.inj X @r @r @r π s σ H IL ys I b q2];show(g1,g2)
  .have hbl:b<↥s:=by
    simp only[bg,ef,or_false]at hb;ext;let(a',b',hO'):=hO;let(o1,w1,_):=S1.obj _ _ h1;let(o2,w2,_):=S2.obj _ _ h2;ext;rcases hb with rfl|rfl|rfl|rfl|rfl
    .show aO Pm
    .show aO hI
    .show aO hO'
    .show aO w1
    .show aO w2
   rw[be (bz<|bJ hbl hp)];show(hf b hb).1
 done:=by
  intro X hP hw hK hc i π s σ H E I hf st hg;ext;subst hP hw hK;let(xs,ys,q1,q2,hl,hi):=hg;let(Hj,r1,c1,z1):=S1.items X @r @r @r π s σ H xs I q1;let(hz,hI,hO,h1,h2):=st;let(f0,f1,Pm,_):=id hz;have hT:s.TypeIs (.ref zp) "zip":=(_,Pm,@r);have e1:=↑r1;have Sg:i=Hj.toArray.size:=by rw[aI];omega
  subst Sg;ext;unfold pyNext
  show ae (zK (fJ (name:=jr "__next__") hT pI (fK pI hT F.entry_zip_next
   (Tg (S1.draws X.A.in1 (I.ok.hd hc) Hj.toArray) ap hz hI hO (h1,c1) λh' e kp he=>?_) (F.args_zip_next_1 _))))
  let(o,ho,ZE):=he;show ae (uL (T:="StopIteration") (b:=ξ) (o,ho,ZE) isSubtype_stop<|av (@r,?_));show I.Ak (t':=s.toks) [zp,i1] (λb hb=>hf b (by simp only[bg,ef,or_false]at hb ⊢;rcases hb with h|h<;>simp[h])) λb o hb e=>by
   simp only[bg,ef,or_false,not_or]at hb;show kp b o hb.1 hb.2 e
 self:=by
  rintro A i s Q E ⟨⟨f0,f1,z,_⟩,_⟩ h;have hT:s.TypeIs (.ref zp) "zip":=(_,z,@r);show CV hT F.slot_zip_iter (fK F.slot_zip_iter hT F.entry_zip_iter (av (_,@r,"zip",_,hT,pI.lookup,h))<|F.args_zip_iter_1 _)
def Pn{TI TO:af}(ap:ZipApart zp TI TO i1 i2 t1 t2)(S1:Src P w K i1 t1 sr1 si1 ct1)(S2:Src P w K i2 t2 sr2 si2 ct2):
  Turn P w K nmT (ItZ sr1 sr2) [zp,TI,TO,i1,i2] zp (λi h=>uc h zp TI TO/\IsPair h TI (.ref i1) (.ref i2)/\(∃a b,IsPair h TO a b)/\si1 i h/\si2 i h):=MX ap (λhz hQ=>av (hQ _ hz (@r,λ_ _=>rfl))) S1 S2
variable{it:af}
def Ln(ne:a≠it):Src P w K it a (λH ys=>eI K H a ys) (λi h=>h.IsTupleIter it a i) (λitems h=>h.IsTuple a items):=
 (by rintro i h ⟨o,e1,_,e2⟩;show (o,e1,λv z=>by rw[e2]at z;cases z),by rintro i h h' ⟨o,e1,r⟩ k;show (o,k o e1,r),λA hh items=>Eb hh it a ne items,
  λX' hP hw hK vx s' fo H' ys I' hy=>by
   rw[<-hK]at hy;let(pV,rv',pt',OX):=I'.tuple hy;show(pV,rv',pt',OX),
  λX' hP hw hK vx s' fo H' ys zs I' hy U4=>by rw[<-hK]at hy U4;show I'.uN hy U4)
section
variable {prog:bu}{w:bU}{A:cy}{E:ai->ao->?P}{s:ao}
def JL:typeLookup (.type "zip") "__len__"=pure ι:=by rw[typeLookup_type,builtinLookup_eq_fast];kernel_rfl
def Hk:typeLookup (.type "zip") "__length_hint__"=pure ι:=by rw[typeLookup_type,builtinLookup_eq_fast];kernel_rfl
def MY:Pd prog w "zip" where
 nl:=by decide
 nt:=by decide
 hint:=λA E a s Q hT h=>by
  unfold gB;show ae (mh hT JL ?_);change aU _ _ (specialOf (cv a) (jr "__length_hint__") >>= _) _ _ _;show ae (mh hT Hk<|av<|h ξ)
end
noncomputable abbrev zT1(h:cD)(l1:af):cD:=h.push {cls:=.type "tuple_iterator",data:=.fields #[.ref l1,.int 0 0]}
noncomputable abbrev zT2(h:cD)(l1 l2:af):cD:=(zT1 h l1).push {cls:=.type "tuple_iterator",data:=.fields #[.ref l2,.int 0 0]}
noncomputable abbrev zT3(h:cD)(l1 l2:af):cD:=(zT2 h l1 l2).push {cls:=.type "tuple",data:=.seq #[.ref h.objs.size,.ref (zT1 h l1).objs.size]}
noncomputable abbrev zT4(h:cD)(l1 l2:af):cD:=(zT3 h l1 l2).push {cls:=.type "tuple",data:=.seq #[.none,.none]}
noncomputable abbrev ZL(h:cD)(l1 l2:af):cD:=(zT4 h l1 l2).push {cls:=.type "zip",data:=.fields #[.none,.bool υ,.bool υ,.ref (zT2 h l1 l2).objs.size,.ref (zT3 h l1 l2).objs.size]}
def Po(l1 l2:af)(xs ys:?R ai):
  Meets (Builtin.«zip.__new__» ([.type "zip",.ref l1,.ref l2],[])) (λ_ R s=>s.heap.IsTuple l1 xs/\s.heap.IsTuple l2 ys/\R (.ok<|.ret<|.ref (zT4 s.heap l1 l2).objs.size) {s with heap:=ZL s.heap l1 l2}):=
 .of_wp λprog w A R s h=>by
  ext;let(hp,g,d,tk,os):=s;let(hl1,hl2,h):=h;ext;have an5:=sub_zip;have e1:GK (GL (hp,g,d,tk,os)) l1 xs:=hl1;have e2:GK (GL (hp.push {cls:=.type "tuple_iterator",data:=.fields #[.ref l1,.int 0 0]},g,d,tk,os)) l2 ys:=let⟨o,q,r⟩:=hl2;(o,ah _ q,r)
  wp_walk using jI e1,jI e2
  show(_,@r,h)
variable{E Q:ai->ao->?P}{s:ao}
def MZ{l1 l2:af}{xs ys:?R ai}(e1:s.heap.IsTuple l1 xs)(e2:s.heap.IsTuple l2 ys)(h:∀h',uc h' (↥s+4) (↥s+2) (↥s+3)->IsPair h' (↥s+2) (.ref ↥s) (.ref<|↥s+1)->IsPair h' (↥s+3) .none .none->
   h'.IsTupleIter ↥s l1 0->h'.IsTupleIter (↥s+1) l2 0->(∀c o,s.heap.get? c=θ o->h'.get? c=θ o)->Q (.ref<|↥s+4) {s with heap:=h'}):
  aU @v A (call (.type "zip") [.ref l1,.ref l2]) Q E s:=by
 show callType_new F.called_zip @d (F.typeCall_zip_2 _ _) (F.newCall_zip_2 _ _) (λobj=>F.args_object_init_3 obj _ _) F.entry_zip_new (Po l1 l2 xs ys) (e1,e2,?_);have n1:(zT1 s.heap l1).objs.size=↥s+1:=gA ..;have n2:(zT2 s.heap l1 l2).objs.size=↥s+2:=by rw[gA,n1]
 have n3:(zT3 s.heap l1 l2).objs.size=↥s+3:=by rw[gA,n2]
 have n4:(zT4 s.heap l1 l2).objs.size=↥s+4:=by rw[gA,n3]
 have k5:(ZL s.heap l1 l2).get? (zT4 s.heap l1 l2).objs.size=θ _:=aQ _ @r;have k4:(ZL s.heap l1 l2).get? (zT3 s.heap l1 l2).objs.size=θ _:=ah _ (aQ _ @r);have k3:(ZL s.heap l1 l2).get? (zT2 s.heap l1 l2).objs.size=θ _:=ah _ (ah _<|aQ _ @r);have k2:(ZL s.heap l1 l2).get? (zT1 s.heap l1).objs.size=θ _:=ah _ (ah _<|ah _<|aQ _ @r);have k1:(ZL s.heap l1 l2).get? ↥s=θ _:=ah _ (ah _<|ah _<|ah _<|aQ _ @r);change _/\_;rw[n2,n3,n4]at k5;rw[n1,n2]at k3;rw[n3]at k4;rw[n1]at k2;rw[n4];show((_,k5,@r),h _ (_,_,k5,.inl @r) k3 k4 (_,k1,@r,@r) (_,k2,@r,@r) λc o x=>ah _ (ah _<|ah _<|ah _<|ah _ x))
section
variable {X:Cx}{e1 e2:bR}{ta:TA}{p pos:Pos}
abbrev iZT(K:aa)(ta:TA):TI:=λσ H R=>ta σ H λvs H1=>∃a b xs ys,vs=[.ref a,.ref b]/\eI K H1 a xs/\eI K H1 b ys/\R (ItZ (λH zs=>eI K H a zs) λH zs=>eI K H b zs) H1
def Pp(hg:Gl X "zip")(hm:X.mg "zip"=ι)(ha:PA X [e1,e2] ta)(hs:aq [e1,e2] X.env=(υ,eval e1 X.env,)::aq [e2] X.env:=by rfl)(j4:(dh pos<|aq [e2] X.env).any (·.1)=υ:=by rfl):
  PIL X (.Call (.Name "zip" p) [e1,e2] [] pos) (iZT X.K ta):=by
 intro π s σ H R I h;show Call_ (nJ I hg hm boot_zip<|cI (gh @ad λ us s1  eg=>?_) hs j4);ext;let(vs,H1,I1,r1,q1):=eg;let(a,b,xs,ys,e,Th,hq2,q):=q1;subst e;let(u,v,rfl,ru,rv):=vals2 r1;cases ru;cases rv;let(Hj,rv1,pt1,hz1):=I1.tuple Th;let(rN,rv2,pt2,ZI):=I1.tuple hq2;ext;have la:a<↥s1:=pt1.lt;have lb:b<↥s1:=pt2.lt;show MZ (xs:=Hj.toArray) (ys:=rN.toArray) (show s1.heap.IsTuple a Hj.toArray from pt1) (show s1.heap.IsTuple b rN.toArray from pt2) λh' zz p1 p2 t1 t2 kp=>?_;have ap:ZipApart (↥s1+4) (↥s1+2) (↥s1+3) ↥s1 (↥s1+1) a b:=apart_new _ a b la lb;have ty:mQ {s1 with heap:=h'} (.ref<|↥s1+4) "zip":=(by let(_,_,z,_):=zz;show (_,z,@r));have ls:∀c,c=↥s1+4\/c=↥s1+2\/c=↥s1+3\/c=↥s1\/c=↥s1+1->↥s1<=c:=λc hc=>by rcases hc with rfl|rfl|rfl|rfl|rfl<;>first|show aj _|show Nat.le_add_right _ _
 show(H1,"zip",↥s1+4,@r,I1.kept (t':=s1.toks) kp,ty,MY,?_);intro A' pm s2 E h1 h2 k2 hpm I2;have T:=Pn (P:=X.prog) (w:=X.w) (K:=X.K) ap (Ln<|bz la) (Ln<|bz<|mw lb);have tn0:uc s2.heap (↥s1+4) (↥s1+2) (↥s1+3)/\IsPair s2.heap (↥s1+2) (.ref ↥s1) (.ref<|↥s1+1)/\(∃a b,IsPair s2.heap (↥s1+3) a b)/\s2.heap.IsTupleIter ↥s1 a 0/\s2.heap.IsTupleIter (↥s1+1) b 0:=
  T.keep 0 h' s2.heap (zz,p1,(_,_,p2),t1,t2) λc _ o e=>k2 c o e
 show T.self A' 0 s2 _ E tn0 ((↥s1+4,_,_,_,H1,@r,I2,T,tn0,λc hc=>?_,q),(by let(_,_,z,_):=tn0.1;show (_,z,@r)));have Je:c=↥s1+4\/c=↥s1+2\/c=↥s1+3\/c=↥s1\/c=↥s1+1:=by simpa using hc
 have f:=I1.rK (H':=H1) (ls c Je) (I1.eD.fresh<|ls c Je);show(f.1,f.2.1,f.2.2.1,f.2.2.2.1,f.2.2.2.2.1,λpr hp=>?_);rcases aW.mp hp with z|z
 .show f.2.2.2.2.2 pr (bW _ z)
 .rcases aW.mp z with z|z
  .show f.2.2.2.2.2 pr (aB _ z)
  .have:=hpm pr z;let(o,ho,_):=T.obj 0 h' (zz,p1,(_,_,p2),t1,t2) c hc;have nM:=aO ho;show eA (bJ nM this)
end
variable{xs ys:?L V}{Fin:?L V->Hp->?P}
def Pq{s1 s2:Hp->?L V->?P}(Pv:?N->?L V->Hp->?P)(hl:↑xs=↑ys)(hz:↑xs<au)(h0:Pv 0 [] H)(hs:∀i zs H,Pv i zs H->s1 H xs/\s2 H ys/\↑zs=i)(step:∀i zs H p x y,Pv i zs H->xs[i]?=θ x->ys[i]?=θ y->H p=ι->Pv @X (zs++[.ref p]) (upd H p<|.tup [x,y]))(fin:∀zs H,Pv ↑xs zs H->Fin zs H):Pe (ItZ s1 s2) H Fin:=by
 show(λi m zs H=>m=↑xs - i/\i<=↑xs/\Pv i zs H,(_,@r,cE _,h0),?_);intro i m zs H hZ;ext;let(rfl,hi,p):=hZ;let(a,b,c):=hs i zs H p;ext;by_cases nM:i<↑xs
 .show .inr ((xs,ys,a,b,hl,nM),by omega,λ v H'  eg=>?_);ext;let(q,x,y,e1,e2,e3,e4):=eg;subst e1 e3;let(g1,g2):=e4 xs ys a b;ext;show(↑xs - @X,by omega,@r,nM,step i zs H q x y p g1 g2 e2)
 .have e:i=↑xs:=by omega
  subst e;show .inl ((xs,ys,a,b,hl,@r),by omega,fin zs H p)
end _L
namespace _W
open _L
structure JM(mg:χ->?O ai):?P where
 zip:mg "zip"=ι
 str:mg "str"=ι
 ve:mg "ValueError"=ι
end _W
namespace _L
open PyProof.Rows
section
variable {X:Cx}
def Ba:tO X (.type "dict") (λxs H Q=>∃a bw,xs=[V.ref a]/\H a=θ (.dK bw)/\∀p,H p=ι->Q (.ref p) (upd H p<|.dK bw)):=by
 intro π s σ H xs us Q I r h;let(a,bw,rfl,ha,q):=h;let(u,rfl,ru):=vals1 r;cases ru;let(z,hd,vs,rel,dd):=OC I.eD ha;have zq:=I.zq;show kt_call_dict hd dd (by rw[<-rel.length];show z) λh' d' hs=>?_;have kp:∀b o,s.heap.get? b=θ o->h'.get? b=θ o:=λb o e=>(hs.2 b<|bz<|aO e).trans (ah _ e);show(.ref ↥s,_,I.laid (a:=↥s) (o:=.dK bw) (t':=s.toks) kp @E (EY z (by simpa using eA zq) rel d'),@r,q _<|I.eD.fresh @E)
end
def Fe:typeLookup (.type "list") "keys"=pure ι:=by rw[typeLookup_type,builtinLookup_eq_fast];kernel_rfl
def M1:(["__module__","__name__","__qualname__","__doc__","__annotations__"]:?L χ).contains ("keys":χ)=υ:=by decide
section
variable {prog:bu}{w:bU}{A:cy}{E:ai->ao->?P}{s:ao}
def JN{K:Type}[DecidableEq K](bw:?L (K×ai))(k:K)(v:ai):(stored bw k v).length<=↑bw+1:=by
 unfold stored;by_cases h:(bw.any λkv=>decide (kv.1=k))=ξ
 .rw[?p h,aP];omega
 .rw[?n h,aH];simp
def Bb{K:Type}[DecidableEq K]:∀(more bw:?L (K×ai)),(merged bw more).length<=↑bw + ↑more
 |[],bw=>aj _
 |(k,v)::r,bw=>by
  have h1:=Bb r (stored bw k v);have h2:=JN bw k v;show(merged (stored bw k v) r).length<=_;rw[aF];omega
variable{a:af}{o:Obj}{k:?N}{Q:?O ai->ao->?P}
def M3{xs:?R ai}(hx:s.heap.get? a=θ o)(hc:o.cls = .type "list")(Pr:o.data = .seq xs k)(hd:o.dict=ι)(hA:A.handled=ι)(h:∀h' tk,(∀b o,s.heap.get? b=θ o->h'.get? b=θ o)->Q ι {s with heap:=h',toks:=tk}):aU @v A (getAttr? @x "keys") Q E s:=by
 ext;let(c,dct,dat,sl):=o;simp only at hc Pr hd;subst hc Pr hd;let(hp,g,d,tk,os):=s;ext;have hT:∀tk',((hp,g,d,tk',os):ao).TypeIs @x "list":=λ_=>(_,hx,@r);have y1:=sub_AttributeError;have y3:=sS.lookup;have y4:=sS.bind @x;have y5:=am_list_getattr_none;unfold getAttr? getAttrBy? getAttrBy
 repeat (any_goals (first|assumption|show hT _|((with_reducible show aU _ _ (call (Value.builtin "list.__getattribute__") _ _) _ _ _);show call_meets sS (hT _) am_entry_list_getattribute (F.args_list_getattribute_2 _ _) (meets_getattribute_miss_list a xs k sl "keys" _ Fe M1) (hx,hA,λh' tk' e hx'=>?_))|wp_step))
 let(t',u',he):=hx'.there;change aU _ _ (getattributeRaised _ _ _ _ _ _ _) _ _ _;unfold getattributeRaised
 repeat (any_goals (first|assumption|wp_step))
 show h _ _ hx'.keeps
def ud:entryFor table "dict.update.loop"=θ Builtin.«dict.update.loop»:=entryFor_of_fast (by kernel_rfl)
def lU:plainId "dict.update.loop"=ξ:=by symm
variable{R:Result->ao->?P}{it l:af}{rs:?L (Key×ai)}
def Pu{d:af}{items:?L ai}{G:cD}(hA:A.handled=ι)(ndi:d≠it)(nld:l≠d)(nli:l≠it)(hlen:↑items=↑rs)(hsz:↑rs<=1000)(hl:G.IsList l items.toArray)(pr:∀(j:?N) u,items[j]?=θ u->∃p k key v,u = .ref p/\rs[j]?=θ (k,v,)/\(eE prog w).is k key=ξ/\G.IsTuple p #[key,v]/\p≠d/\p≠it)(fin:∀h' tk,h'.DictOf (eE prog w) d (merged [] rs)->(∀b o,b≠d->b≠it->G.get? b=θ o->h'.get? b=θ o)->R (.ok<|.ret .none) {s with heap:=h',toks:=tk}):
  ∀(n i:?N)(h':cD)(tk:?N),n=↑items - i->i<=↑items->h'.IsListIter it l i->h'.DictOf (eE prog w) d (merged []<|rs.take i)->(∀b o,b≠d->b≠it->G.get? b=θ o->h'.get? b=θ o)->
   codeAny @v A (.builtin "dict.update.loop" ([.ref d,.ref it,rawInt (i:?N),.none],[])) R {s with heap:=h',toks:=tk}:=by
 intro n;induction n with
 |zero=>
  intro i h' tk hn hi hit hd kp;have e0:i=↑items:=by omega
  subst e0;show codeAny_builtin ud ?_;rw[tI lU _];change aU _ A.in1 (pyNext (.ref it) >>= _) _ _ _;have Tf:h'.IsList l items.toArray:=(by let(o,q,r):=hl;show (o,kp l o nld nli q,r));show ae (wpAny_pyNext_list_end hA hit Tf @s λh2 ex=>?_);change aU _ _ (Builtin.Dict.addKeywords d [] >>= _) _ _ _;show ae (av<|av ?_);rw[hlen,zL]at hd;show fin h2 _ (by let(o,es,ep,q,r):=hd;show (o,es,ep,ex d o ndi q,r)) λb o h1 h2 e=>ex b o h2 (kp b o h1 h2 e)
 |succ n ih=>
  intro i h' tk hn hi hit hd kp;have nM:i<↑items:=by omega
  have hx:items[i]?=θ items[i]:=ag nM;ext;let(p,k,key,v,eu,hr,hk,hp,npd,npi):=pr i _ hx;ext;show codeAny_builtin ud ?_;rw[tI lU _];change aU _ A.in1 (pyNext (.ref it) >>= _) _ _ _;have Tf:h'.IsList l items.toArray:=(by let(o,q,r):=hl;show (o,kp l o nld nli q,r));show ae (wpAny_pyNext_list_item (x:=.ref p) hit Tf (by rw[<-eu];simpa using hx) λh2 ao1 s2=>?_);ext;let(po,hpo,hpc,pn,hpd):=hp;ext;have ae1:h2.get? p=θ po:=(s2.2 p npi).trans (kp p po npd npi hpo);show ae (fO<|ae<|wpAny_tryCatch ?_);unfold Builtin.Dict.pairItems;show ae (qK (show mQ _ (.ref p) "tuple" from(po,ae1,hpc)) ?_);rw[?p @d];show ae (gK ae1 hpd<|av ?_);change aU _ _ (holding [key,v]<|dictSet d key v) _ _ _;have hd2:h2.DictOf (eE prog w) d (merged []<|rs.take i):=(by let(o,es,ep,q,r):=hd;show (o,es,ep,(s2.2 d ndi).trans q,r));have hz:(merged []<|rs.take i).length<=au:=by
   have h1:=Bb (rs.take i) [];rw[fY,iI,g9]at h1;show bD h1 (fe<|lF @o)
  show fO (wpAny_dictSet_pairs (hsz:=hz) hk hd2 λh3 hd3 s3=>?_);show av (plainId_quiet lU _,?_);have e1:merged [] (rs.take @X)=stored (merged []<|rs.take i) k v:=by
   rw[gH,hr];change merged [] (rs.take i++[(k,v,)])=_;unfold merged;rw[List.foldl_append];rfl
  show ih @X h3 _ @o nM (by let(o,q,r):=ao1;show (o,(s3.2 it<|cp ndi).trans q,r)) (by rw[e1];show hd3) λb o h1 Pw e=>(s3.2 b h1).trans ((s2.2 b Pw).trans (kp b o h1 Pw e))
end
variable{rs:?L (Key×ai)}
def M4{bw:?L (Key×V)}(r:KV bw rs):KV (jR [] bw) (merged [] rs):=KV.merge r .nil
structure Ff(K:aa)(H:Hp)(ps:?L V)(bw:?L (Key×V)):?P where
 len:↑ps=↑bw
 at_:∀(i:?N) v,ps[i]?=θ v->∃p k y,v=V.ref p/\eI K H p [kV k,y]/\bw[i]?=θ (k,y,)
section
variable {X:Cx}
def Va{π:?L @u}{σ:St}{H:Hp}{s:ao}(I:Inv X π σ H s):∀{ps:?L V} {bw:?L (Key×V)} {cA:?L ai},Ff X.K H ps bw->dD ps cA->
  ∃rs:?L (Key×ai),KV bw rs/\↑cA=↑rs/\∀(j:?N) u,cA[j]?=θ u->∃p k key v,u = .ref p/\rs[j]?=θ (k,v,)/\(eE X.prog X.w).is k key=ξ/\s.heap.IsTuple p #[key,v]
 |[],[],cA,P,r=>by cases r;show([],.nil,@r,λj u h=>by simp at h)
 |[],_::_,_,P,_=>by have:=P.len;simp at this
 |_::_,[],_,P,_=>by have:=P.len;simp at this
 |x::ps,(k0,y0)::bw,cA,P,r=>by
  cases r with
  |@cons _ u _ us r1 r2=>
   ext;let(p,k,y,rfl,hq,e):=P.at_ 0 x @r;have e':(k0,y0,)=(k,y,):=by simpa using e
   cases e';cases r1;let(rN,rv,pt,_):=I.tuple hq;let(a,b,rfl,ra,rb):=vals2 rv;have P2:Ff X.K H ps bw:=(by have:=P.len;simpa using this,λi v h=>P.at_ @X v (by simpa using h));let(rs,h1,h2,h3):=Va I P2 r2;ext;show((k0,b,)::rs,.cons (@r,rb) h1,by simp[h2],λj u hj=>?_);cases j with
   |zero=>
    have eu:u = .ref p:=by simpa using hj.symm
    show(p,k0,a,b,eu,@r,AS ra,pt)
   |succ j=>show h3 j u (by simpa using hj)
def JO(hc:X.calm=ξ):tO X (.type "dict") (λxs H Q=>∃a ps bw,xs=[V.ref a]/\gF X.K H a ps/\Ff X.K H ps bw/\↑bw<=1000/\∀p,H p=ι->Q (.ref p) (upd H p<|.dK<|jR [] bw)):=by
 intro π s σ H xs us Q I r h;ext;let(a,ps,bw,rfl,ha,P,hz,q):=h;let(u,rfl,ru):=vals1 r;cases ru;let(cA,rv,pl,hzl):=I.list ha;let(rs,hkv,hlen,hpr):=Va I P rv;ext;have hlr:↑rs=↑bw:=hkv.length.symm;have zq:=I.zq;have hA:X.A.handled=ι:=I.ok.hd hc;show callType_codes (Q₁:=λobj gn=>obj = .ref ↥s/\gn={s with heap:=s.heap.push {cls:=.type "dict",data:=.dict #[]}}) F.kt_called_dict (F.kt_typeCall_dict_1 _) F.entry_dict_init (kt_code_dict_new _ (@r,@r)) λobj gn e=>?_;let(rfl,rfl):=e;have Xa:(s.heap.push {cls:=.type "dict",data:=.dict #[]}).DictOf (eE X.prog X.w) ↥s []:=GJ s.heap;show(Xa.typeIs,F.args_dict_init_2 _ _,?_);unfold Builtin.«dict.__init__»;show ae ?_;unfold Builtin.Dict.selfAndRest;show ae (wpAny_notOrdered_dict Xa.typeIs ?_);change aU _ _ (pure (↥s,[cv a],)) _ _ _;show av ?_;change aU _ _ (zh "dict.__init__" ↥s @x [] .none) _ _ _;unfold zh;ext;let(lo,ln,lh,lc,ld,lq):=pl;ext;have lh1:(s.heap.push {cls:=.type "dict",data:=.dict #[]}).get? a=θ lo:=ah _ lh;show ae (qK (show mQ _ @x "list" from(lo,lh1,lc)) ?_);rw[?p @d];show ae (M3 lh1 lc lq ld hA λh2 U3 k2=>?_);simp only[Option.isNone_none,if_true];show ae (vt ?_);have lh2:h2.get? a=θ lo:=k2 _ _ lh1;have lal:a<↥s:=aO lh;have d2:h2.DictOf (eE X.prog X.w) ↥s []:=(by let(o,es,ep,e,r):=Xa;show (o,es,ep,k2 _ _ e,r));have ld2:↥s<h2.objs.size:=(by let(_,_,_,e,_):=d2;show aO e);show ae (wpAny_pyIter_list (items:=cA.toArray) (lo,lh2,lc,ln,lq) ?_);have up:∀b o,s.heap.get? b=θ o->(h2.push {cls:=.type "list_iterator",data:=.fields #[.ref a,.int 0 0]}).get? b=θ o:=λb o e=>ah _ (k2 _ _<|ah _ e);show av (plainId_quiet lU _,?_);show Pu (A:=X.A.in1) (s:=s) (G:=h2.push {cls:=.type "list_iterator",data:=.fields #[.ref a,.int 0 0]}) (d:=↥s) (it:=h2.objs.size) (l:=a) (items:=cA) (rs:=rs) hA (bz ld2) (bz lal) (bz<|zd lal ld2) hlen @o
  (lo,up _ _ lh,lc,ln,lq) (λj u hj=>?_) (λh4 tk4 d4 k4=>?_) ↑cA 0 _ _ @r (cE _) (_,aQ _ @r,@r,@r) (let⟨o,es,ep,e,r⟩:=d2;(o,es,ep,ah _ e,r)) λb o _ _ e=>e
 .ext;let(p,k,key,v,e1,e2,e3,o,e4,e5):=hpr j u hj;ext;have lp:p<↥s:=aO e4;show(p,k,key,v,e1,e2,e3,(o,up _ _ e4,e5),bz lp,bz<|zd lp ld2)
 .have kp:∀b o,s.heap.get? b=θ o->h4.get? b=θ o:=λb o e=>k4 b o (bz<|aO e) (bz<|zd (aO e) ld2) (up b o e);have hzl:(jR [] bw).length<=au:=by
   have h1:=qt bw [];rw[iI,g9]at h1;show bD h1 (fe<|lF hz)
  show(@r,.ref ↥s,_,I.laid (a:=↥s) (o:=.dK (jR [] bw)) (t':=tk4) kp @E (EY hzl (by simpa using eA zq) (M4 hkv) d4),@r,q _<|I.eD.fresh @E)
end
abbrev zw(h:cD)(it d:af)(i n ep:?N):?P:=∃f0 f1 ok ov,h.get? it=θ {cls:=.type "dict_itemiterator",dict:=ι,data:=.fields #[f0,f1,.ref d,.int i 0,.int n 0,.int ep 0,ok,ov],slots:=#[]}/\(f0 = .none\/∃T:?N,f0=rawInt T)
abbrev Px(h:cD)(d:af)(es:?R DictEntry)(ep:?N):?P:=∃o,h.get? d=θ o/\o.cls = .type "dict"/\o.data = .dict es ep
section
variable {prog:bu}{w:bU}{A:cy}{E:ai->ao->?P}{s:ao}{it d:af}{i n ep:?N}{es:?R DictEntry}
def M5{Q:?B->ao->?P}(hz:zw s.heap it d i n ep)(h:∀b h',zw h' it d i n ep->iJ it s.heap h'->Q b {s with heap:=h'}):
  aU @v A (jl<|.ref it) Q E s:=by
 let(f0,f1,ok,ov,hz,hf):=hz;have here:∀b,Q b s:=λb=>h b s.heap (f0,f1,ok,ov,hz,hf) (@r,λ_ _=>rfl);unfold jl;show ae (dO hz @r (x:=f0) @r ?_);rcases hf with rfl|⟨T,rfl⟩
 .show av (here ξ)
 .change aU _ _ (loadIfAlive _ >>= _) _ _ _;show ae (Eg λo=>?_);cases o with
  |none=>show av (here ξ)
  |some ob=>
   show ae (dO hz @r (x:=f1) @r ?_);show g8 @qb (λ_=>av (here υ));show ae (dH hz @s λh1 e1 s1=>av (h υ h1 (_,_,_,_,e1,.inr (T,@r)) s1))
variable{Q:?O ai->ao->?P}
def Py(hit:zw s.heap it d i es.size ep)(hd:Px s.heap d es ep)(nd:d≠it)(hi:i<es.size)(hQ:∀h',zw h' it d @X es.size ep->h'.get? ↥s=θ {cls:=.type "tuple",data:=.seq #[es[i].key,es[i].val]}->(∀b o,b≠it->s.heap.get? b=θ o->h'.get? b=θ o)->Q (θ<|.ref ↥s) {s with heap:=h'}):
  aU @v A (pyNext<|.ref it) Q E s:=by
 ext;let(hp,g,dr,tk,os):=s;let(f0,f1,ok,ov,hz,hf):=hit;let(od,Ti,pU,M6):=hd;ext;have hT:mQ (hp,g,dr,tk,os) (.ref it) "dict_itemiterator":=(_,hz,@r);unfold pyNext;show ae (zK<|fJ (name:=jr "__next__") hT eZ<|fK eZ hT CW ?_<|AH _);show ae (av<|ae<|ae ?_);show ae (js hT<|av<|ae<|wpAny_fieldsOf hz @r ?_);have own:lr "dict_itemiterator"=ξ:=by decide
 simp only[own,if_true];change aU _ _ (if(cv d==eQ)=ξ then _ else _) _ _ (hp,g,dr,tk,os);rw[?n (show ¬((cv d==eQ)=ξ) fromλz=>bj z)];show ae (av<|ae<|CY Ti M6 ?_);rw[?n @s];show ae (av<|ae<|Gq Ti M6 ?_);rw[?n @s];show av ?_;simp only[show ¬((i:?I)<0)from by omega,if_false,gI,C6 hi];show ae (ae<|js hT<|av ?_);show ae (vv hT ?_);change aU _ _ (setField (.ref it) 3 (rawInt<|(i:?I)+1) >>= _) _ _ (hp,g,dr,tk,os);show ae (dH hz @s λh1 e1 s1=>?_)
 have I1:zw h1 it d @X es.size ep:=(f0,f1,ok,ov,by
  have e:((i+1:?N):?I)=(i:?I)+1:=by omega
  rw[e];simpa[rawInt]using e1,hf)
 have hT1:mQ (h1,g,dr,tk,os) (.ref it) "dict_itemiterator":=(_,e1,@r);show ae (fO<|ae<|vv hT1<|ae<|vv hT1 ?_);change aU _ _ (qP (.ref it) 6 es[i].key es[i].val) _ _ (h1,g,dr,tk,os);unfold qP;show ae (ID ?_);have z1:h1.objs.size=hp.objs.size:=s1.1;have il:it<hp.objs.size:=aO hz;have I2:zw (h1.push {cls:=.type "tuple",data:=.seq #[es[i].key,es[i].val]}) it d @X es.size ep:=let⟨a,b,c,e,q,r⟩:=I1;(a,b,c,e,ah _ q,r);have t2:(h1.push {cls:=.type "tuple",data:=.seq #[es[i].key,es[i].val]}).get? hp.objs.size=θ {cls:=.type "tuple",data:=.seq #[es[i].key,es[i].val]}:=by rw[<-z1];show aQ _ @r
 have k2:∀b o,b≠it->hp.get? b=θ o->(h1.push {cls:=.type "tuple",data:=.seq #[es[i].key,es[i].val]}).get? b=θ o:=λb o hb e=>ah _ (cg s1 hb e);change aU _ _ (jl (.ref it) >>= _) _ _ (h1.push {cls:=.type "tuple",data:=.seq #[es[i].key,es[i].val]},g,dr,tk,os);generalize h1.push {cls:=.type "tuple",data:=.seq #[es[i].key,es[i].val]}=h2 at I2 t2 k2 ⊢;rw[z1];have nt:hp.objs.size≠it:=eA il;show ae (M5 (s:=(h2,g,dr,tk,os)) I2 λb h3 I3 s3=>?_);cases b with
 |false=>
  simp only[jk,if_false];show av (av (_,@r,av<|hQ h3 I3 (cg s3 nt t2) λb o hb e=>cg s3 hb (k2 b o hb e)))
 |true=>
  ext;let(g0,g1,gk,gv,q3,hf3):=I3;ext;simp only[if_true];show ae (dO q3 @r (x:=gk) @r<|ae<|dO q3 @r (x:=gv) @r ?_);show ae (dH q3 @s λh4 q4 s4=>ae (dH q4 @s λh5 q5 s5=>ae (dH q5 @s λh6 q6 s6=>ae (dH q6 @s λh7 q7 s7=>?_))));have up:∀b o,b≠it->h2.get? b=θ o->h7.get? b=θ o:=λb o hb e=>cg s7 hb (cg s6 hb<|cg s5 hb<|cg s4 hb<|cg s3 hb e);show ae (yd<|av<|av (_,@r,av<|hQ h7 (_,_,_,_,q7,.inr (hp.objs.size,@r)) (up _ _ nt t2) λb o hb e=>up b o hb (k2 b o hb e)))
end
section
variable {prog:bu}{w:bU}{A:cy}{E:ai->ao->?P}{s:ao}{it d:af}{i n ep:?N}{es:?R DictEntry}
variable{Q:?O ai->ao->?P}
def Tj(hh:A.handled=ι)(hit:zw s.heap it d es.size es.size ep)(hd:Px s.heap d es ep)(hQ:∀h',Heap.ExtBut it s.heap h'->Q ι {s with heap:=h'}):aU @v A (pyNext<|.ref it) Q E s:=by
 ext;let(f0,f1,ok,ov,hz,hf):=hit;let(od,Ti,pU,M6):=hd;ext;have hT:s.TypeIs (.ref it) "dict_itemiterator":=(_,hz,@r);unfold pyNext;show ae (zK<|fJ (name:=jr "__next__") hT eZ<|fK eZ hT CW ?_<|AH _);show ae (av<|ae<|ae ?_);show ae (js hT<|av<|ae<|wpAny_fieldsOf hz @r ?_);have own:lr "dict_itemiterator"=ξ:=by decide
 simp only[own,if_true];change aU _ _ (if(cv d==eQ)=ξ then _ else _) _ _ s;rw[?n (show ¬((cv d==eQ)=ξ) fromλz=>bj z)];show ae (av<|ae<|CY Ti M6 ?_);rw[?n @s];show ae (av<|ae<|Gq Ti M6 ?_);rw[?n @s];show av ?_;simp only[show ¬((es.size:?I)<0)from by omega,if_false,gI,Array.getElem?_eq_none (aj es.size)];show ae (ae<|js hT<|av ?_);change aU _ _ (setField (.ref it) 2 .none >>= _) _ _ s;show ae (IC hz @r @s ?_);change aU _ _ (newExc (.type "StopIteration") [] >>= _) _ _ _;show ae ?_;simp only[newExc,newTuple];show ae (eG ?_<|by size_fits);show ae (m:=firstArgMember _ _) (wpAny_of_eq (a:=eQ) (by first|rfl|(simp only[firstArgMember];rfl)) ?_);show eG ?_ (by size_fits);simp only[raiseNew];show ae (wpAny_handled ?_);rw[show A.in1.handled=ι from hh];show ae (av<|wpAny_throw ?_);show ae (uL (T:="StopIteration") (b:=ξ) (_,aQ _ @r,@r) isSubtype_stop ?_);show av (hQ _<|((rF ..).extBut.push _).push _)
def Pz{v:af}{Q:ai->ao->?P}(hv:s.heap.IsItemsView v d)(hm:Px s.heap d es ep)(hQ:Q (.ref ↥s) {s with heap:=s.heap.push {cls:=.type "dict_itemiterator",data:=.fields #[.none,.bool υ,.ref d,.int 0 0,.int es.size 0,.int ep 0,.none,.none]}}):aU @v A (pyIter<|.ref v) Q E s:=by
 let(ov,hov,hcv,hdv):=id hv;let(o,ho,hc,Pr):=id hm;show CV hv.typeIs F.slot_dict_items_iter (fK F.slot_dict_items_iter hv.typeIs F.entry_dict_items_iter ?_<|F.args_dict_items_iter_1 _);unfold Builtin.«dict_items.__iter__»;show ae (av<|ae ?_);unfold Builtin.Dict_items.dictOf;show ae (dO hov hdv (x:=.ref d) @r<|av<|ae ?_);unfold Builtin.Dict_items.newIterator;show ae (CY ho Pr<|ae<|Gq ho Pr ?_);have own:lr "dict_itemiterator"=ξ:=by decide
 simp only[own,if_true];show eG (av (_,@r,"dict_itemiterator",_,(_,aQ _ @r,@r),eZ.lookup,?_))
  (by simp only[sizeOk,qb,aI,aH,aF,iI,dC];omega)
 simpa[rawInt,qb]using hQ
end
def M7{α β:Type}{F:α->β->?P}:∀{l1:?L α}{l2:?L β},Paired F l1 l2->∀(i:?N)(h1:i<↑l1)(h2:i<↑l2),F (l1[i]'h1) (l2[i]'h2):=by
 intro l1 l2 h;induction h with
 |nil=>intro i h1 _;show ?A h1 (oM _)
 |cons r t ih=>
  intro i h1 h2;cases i with
  |zero=>show r
  |succ i=>show ih i (IE h1) (IE h2)
def Bc:entryFor table "dict_itemiterator.__iter__"=θ Builtin.«dict_keyiterator.__iter__»:=
 entryFor_alias (id':="dict_keyiterator.__iter__") (by kernel_rfl) (by first|rfl|symm) @y (by kernel_rfl)
abbrev ItI(d:af)(o:Obj)(bw:?L (?L Key×V)):It:=
 (λi H=>H d=θ (.kg o @av)/\i<↑bw,λi H v H'=>∃p b k y,v = .ref p/\H p=ι/\H'=upd H p (.tup [.ref b,y])/\H b=θ (.tup<|k.map kV)/\bw[i]?=θ (k,y,),λi H=>H d=θ (.kg o @av)/\i=↑bw)
variable{P:bu}{w:bU}{K:aa}{it:af}{o:Obj}{bw:?L (?L Key×V)}
def JP{d:af}{es:?R DictEntry}{ep:?N}(nd:d≠it)(hoc:o.cls = .type "dict")(Ti:o.data = .dict es ep)(hn:es.size=↑bw):
  Turn P w K nmT (ItI d o bw) [it] it (λi h=>zw h it d i es.size ep) where
 mem:=by simp
 obj:=by
  rintro i h ⟨f0,f1,ok,ov,z,_⟩ c hc;have e:c=it:=by simpa using hc
  subst e;show(_,z,λv q=>by cases q)
 keep:=by rintro i h h' ⟨f0,f1,ok,ov,z,zz⟩ k;show (f0,f1,ok,ov,k it @s _ z,zz)
 item:=by
  intro X hP hw hK hc i π s σ H E I hf st hg;ext;subst hP hw hK;let(hH,hi):=hg;let(h1,z,hd,xs,rel,o',KS,ep',e1,e2,e3,e4,e5):=(show fP X.prog X.w H s.heap d (.kg o @av)from I.eD d _ hH);rw[h1]at e1;cases e1;rw[Ti]at e3;cases e3;ext;have hes:i<es.size:=by rw[hn];show hi
  show Py st (o,h1,hoc,Ti) nd hes λh' pW ht kp=>?_;show(.ref ↥s,@r,?_);change aU _ _ (pure ():Sem Unit) _ _ _;have J:Inv X π σ H {s with heap:=h',toks:=s.toks}:=I.Ak [it] (λb hb=>hf b hb) λb o hb e=>kp b o (by simpa using hb) e;have lx:i<↑xs:=by rw[<-kE rel];show hi
  let(p1,p2,p3):=M7 rel i hi lx;have ee:es[i]=entryOfKey (tupleKind<|eE X.prog X.w) xs[i]:=by
   have q:es.toList[i]?=θ (entryOfKey (tupleKind<|eE X.prog X.w) xs[i]):=by rw[e4,aE,ag lx];rfl
   rw[GI,C6 hes]at q;show bf q
  have U9:H ↥s=ι:=I.eD.fresh @E;rw[ee]at ht;have J2:=J.adopt (D:=↥s) (o:=.tup [.ref xs[i].2.1,bw[i].2]) (I.rK @E U9) (by change 2<=au;decide,[.ref xs[i].2.1,xs[i].2.2],.cons @r<|.cons p3 .nil,(_,ht,@r,_,@r));show av (.ref ↥s,_,J2,@r,(_,xs[i].2.1,bw[i].1,bw[i].2,@r,U9,@r,p2,ag hi),pW,λb hb=>?_);have e:b=it:=by simpa using hb
  ext;subst e;let(f0,f1,ok,ov,zz,_):=st;ext;rw[be (bz<|aO zz)];show(hf b hb).1
 done:=by
  intro X hP hw hK hc i π s σ H E I hf st hg;ext;subst hP hw hK;let(hH,hi):=hg;let(h1,_):=(show fP X.prog X.w H s.heap d (.kg o @av)from I.eD d _ hH);have e0:i=es.size:=by rw[hn];show hi
  subst e0;ext;show Tj (I.ok.hd hc) st (o,h1,hoc,Ti) λh' ex=>(@r,?_);show I.Ak (t':=s.toks) [it] (λb hb=>hf b hb) λb o hb e=>ex b o (by simpa using hb) e
 self:=by
  rintro A i s Q E ⟨f0,f1,ok,ov,z,_⟩ h;have hT:s.TypeIs (.ref it) "dict_itemiterator":=(_,z,@r);show CV hT C7 (fK C7 hT Bc (av (_,@r,"dict_itemiterator",_,hT,eZ.lookup,h))<|F.args_dict_itemiterator_iter_1 _)
section
variable {X:Cx}{π:?L @u}{σ:St}{H:Hp}{s:ao}{d:af}{o:Obj}{bw:?L (?L Key×V)}
def Inv.freeze(I:Inv X π σ H s)(e:H d=θ @av)(ho:s.heap.get? d=θ o):Inv X π σ (upd H d<|.kg o @av) s:=by
 let(h,g,dr,t,os):=s;show I.write (x:=d) (e:=d) (o:=.kg o @av) (t':=t) (h':=h) (by rw[e];show fg) @i (λb u _ q=>q) (o,ho) (ho,?_);show(I.eD d _ e).sY (λb u _ q=>q) (λb q=>?_) λb ys q=>?_
 .rw[be (tJ q e @n)];show q
 .rw[be (tJ q e @n)];show q
end
def Fg(d:af)(hd:(d==sysModules)=υ):
  Meets (Builtin.«dict.items» ([.ref d],[])) (λ_ R s=>s.TypeIs (.ref d) "dict"/\R (.ok<|.ret<|.ref ↥s) {s with heap:=s.heap.push {cls:=.type "dict_items",data:=.fields #[.ref d]}}):=
 .of_wp λprog w A R s ⟨hT,h⟩=>by
  unfold Builtin.«dict.items»;show ae ?_;unfold Builtin.Dict.noArgs;show ae (wpAny_notOrdered_dict hT ?_);change aU _ _ (pure d) _ _ s;show av ?_;change aU _ _ (zY d >>= _) _ _ s;unfold zY;rw[?n (by rw[hd];show bj)];show ae (av<|ae<|eG<|av (_,@r,h))
def M8:typeLookup (.type "dict_items") "__len__"=pure (θ<|.builtin "dict_items.__len__"):=by rw[typeLookup_type,builtinLookup_eq_fast];kernel_rfl
variable{prog:bu}
def Hl:Pd prog w "dict_items" where
 nl:=by decide
 nt:=by decide
 hint:=λA E a s Q hT h=>by
  unfold gB;show ae (mh hT M8 ?_);generalize hid:("dict_items.__len__":?S)=id0
  wp_delta
  rw[show splitId id0=θ ("dict_items","__len__",)from by subst hid;symm];subst hid;show ae (uL (T:="dict_items") (b:=ξ) hT (by rw[isSubtype_type];kernel_rfl) ?_);show g8 (λTb=>?A Tb @d) @qb;show g8 @qb (λTb=>?A @y Tb);show ae (qK hT<|av<|h υ)
structure M0(X:Cx)(o:bR)(m:χ)(apos cU:Pos):?P where
 base:dF o m X.env (eval o X.env)=eval o X.env
 few:((dh cU<|aq [] X.env).all (λx=>!x.1)&&(rD cU<|kR [] X.env).all (λx=>x.1.isSome)
  && decide (([]:?L bR).length + ([]:?L iX).length + @ao<30))=ξ
 line:@M=ξ
 trees:dh cU (aq [] X.env)=[]
abbrev JQ(td:TE):TI:=λσ H R=>td σ H λx H1=>∃d bw,x = .ref d/\H1 d=θ @av/\∀ob,R (ItI d ob bw) (upd H1 d<|.kg ob @av)
section
variable {X:Cx}{o:bR}{apos cU:Pos}{td:TE}
def Eh(ho:PE X o td)(m:M0 X o "items" apos cU):PIL X (.Call (.Attribute o "items" apos) [] [] cU) (JQ td):=by
 intro π s σ H R I h;show wpAny_Call_method m.base m.few m.line C4 C8 PySem.F.type_dict_items (gh (ho π s σ H _ I h) λ u s1  eg=>?_);ext;let(x,H1,I1,rx,d,bw,ex,ed,q):=eg;subst ex;obtain rfl:u=cv d:=rx;let(t1,t2,t3):=OF I1 (.inr (bw,.inl ed));ext;show(t1,t2,?_);rw[m.trees];ext;let(z,hd,xs,rel,od,es,ep,e1,e2,e3,e4,e5):=(show fP X.prog X.w H1 s1.heap d (.dT bw)from I1.eD d _ ed);ext;have hn:es.size=↑bw:=by
  have h1:es.toList.length=↑xs:=by rw[e4,aP]
  have h2:=kE rel;have h3:es.toList.length=es.size:=by simp
  omega
 show method0_meets C8 PySem.F.entry_dict_items t1 (PySem.F.args_dict_items_1 _) (Fg d t3) (t1,?_);have kp:∀b ob,s1.heap.get? b=θ ob->(s1.heap.push {cls:=.type "dict_items",data:=.fields #[.ref d]}).get? b=θ ob:=λb ob e=>ah _ e;have IV:=(I1.kept (h':=s1.heap.push {cls:=.type "dict_items",data:=.fields #[.ref d]}) (t':=s1.toks) kp).freeze ed (kp _ _ e1);have gv:(s1.heap.push {cls:=.type "dict_items",data:=.fields #[.ref d]}).get? ↥s1=θ {cls:=.type "dict_items",data:=.fields #[.ref d]}:=aQ _ @r;show(_,"dict_items",↥s1,@r,IV,(_,gv,@r),Hl,?_);intro A' pm s2 E h1 h2 k2 hpm I2;have Si:s2.heap.get? d=θ od:=k2 _ _ (kp _ _ e1);have gv2:=k2 _ _ gv;show Pz (es:=es) (ep:=ep) (_,gv2,@r,@r) (od,Si,e2.1,e3) ?_;have nd:d≠↥s2:=bz (aO Si);show((↥s2,[↥s2],_,_,_,@r,I2.kept (t':=s2.toks) λb ob e=>ah _ e,JP nd e2.1 e3 hn,(_,_,_,_,aQ _ @r,.inl @r),λb hb=>?_,q od),(_,ah _ gv2,@r));have e0:b=↥s2:=by simpa using hb
 subst e0;show I2.rK @E (I2.eD.fresh @E)
end
variable{H:Hp}{Fin:?L V->Hp->?P}
def JR{d:af}(Pv:?N->?L V->Hp->?P)(hz:↑bw<au)(h0:Pv 0 [] H)(hs:∀i zs H,Pv i zs H->H d=θ (.kg o @av)/\↑zs=i)(step:∀i zs H p b k y,Pv i zs H->bw[i]?=θ (k,y,)->H b=θ (.tup<|k.map kV)->H p=ι->Pv @X (zs++[.ref p]) (upd H p<|.tup [.ref b,y]))(fin:∀zs H,Pv ↑bw zs H->Fin zs H):Pe (ItI d o bw) H Fin:=by
 show(λi m zs H=>m=↑bw - i/\i<=↑bw/\Pv i zs H,(_,@r,cE _,h0),?_);intro i m zs H hZ;ext;let(rfl,hi,p):=hZ;let(a,c):=hs i zs H p;ext;by_cases nM:i<↑bw
 .show .inr ((a,nM),by omega,λ v H'  eg=>?_);ext;let(q,b,k,y,e1,e2,e3,e4,e5):=eg;subst e1 e3;ext;show(↑bw - @X,by omega,@r,nM,step i zs H q b k y p e5 e4 e2)
 .have e:i=↑bw:=by omega
  subst e;show .inl ((a,@r),by omega,fin zs H p)
abbrev Xb(tk tv:TE):TE:=λσ H Q=>∀p,H p=ι->AV [(tk,tv,)] σ (upd H p<|.dT []) λps H2=>H2 p=θ (.dT [])/\∃b ks y,ps=[(.ref b,y,)]/\H2 b=θ (.tup<|ks.map kV)/\Q (.ref p) (upd H2 p<|.dT<|putK [] ks y)
variable{X:Cx}{pos:Pos}{tv:TE}
def PD{k v:bR}{tk:TE}(hu:X.A.units+1<cLine)(hk:PE X k tk)(hv:PE X v tv):PE X (.Dict [θ k] [v] pos) (Xb tk tv):=by
 intro π s σ H Q I q;have hn:=I.eD.fresh (aj ↥s);have I1:=I.laid (a:=↥s) (o:=.dT []) (h':=s.heap.push {cls:=.type "dict",data:=.dict #[]}) (t':=s.toks) (λ_ _ q=>ah _ q) @E (G3 s.heap I.zq);have P:ZD X pos [θ k] [v] [(tk,tv,)]:=G4 hk hv K9;show wpAny_Dict_any @r @r @s (by change 1<=15;decide) (gh (P π _ σ _ _ I1<|q _ hn) λ ws s2  eg=>?_);ext;let(ps,H2,I2,rel,e,b,ks,y,eps,eb,q2):=eg;subst eps;ext;cases rel with
 |@cons _ bb _ bs r t=>
  ext;cases t;let(b1,b2):=bb;let(r1,r2):=r;obtain rfl:b1=cv b:=r1;let(z,hd,xs,rel,dd):=UN I2.eD e;ext;unfold storeAll;rw[jC];have hz:↑xs<=au:=by rw[<-kE rel];show z
  have hl:(putK ([]:?L (?L Key×V)) ks y).length<=au:=by have:=i0 ([]:?L (?L Key×V)) ks y;show bD this @d
  show ae (ae<|wpAny_dictSet_heap (hsz:=hz) (knd:=tupleKind (eE X.prog X.w)) (bL (j9 _) hu) (ym I2.eD eb) dd λh' SS hs=>av ?_);change aU _ _ (forIn [] PUnit.unit _) _ _ _;rw[pN];show av (.ref ↥s,_,?_,@r,q2);ext;let(o,es,ep,ho,h2,h3,h4,_,h5):=SS;ext;show Af I2 (by rw[e];show fg) hs (o,ho) (hl,hd,_,(rel.put ks eb r2).keeps λc ys ec=>?_,o,es,ep,ho,h2,h3,h4,h5);rw[be (tJ ec e @n)];show ec
end _L
namespace _W
open _L
abbrev kw:Kd->χ
 |.num=>"num"
 |.truth=>"truth"
 |.list _=>"list"
 |.to _ _=>"to"
abbrev lV:Kd->?L Kd
 |.num=>[]
 |.truth=>[]
 |.list k=>[k]
 |.to k m=>[k,m]
abbrev bG:Kd->?N
 |.num=>1
 |.truth=>1
 |.list k=>bG k+1
 |.to k m=>bG k + bG m+1
def Xc(k:Kd):eM k = .tuple (.str (kw k)::(lV k).map eM):=by cases k<;>rfl
variable{k m:Kd}
def PF(h:kw k=kw m):(lV k).length=(lV m).length:=by
 cases k<;>cases m<;>first|rfl|(simp only[kw]at h;show ?A h @d)
abbrev jb:?L (Kd×Kd)->?N
 |[]=>0
 |(k,m)::r=>bG k + bG m + jb r
def Ei(k:Kd):0<bG k:=by cases k<;>simp[bG]
def qu(a b:?L (Kd×Kd)):jb (a++b)=jb a + jb b:=by
 induction a with
 |nil=>simp[jb]
 |cons x r ih=>let(k,m):=x;simp only[df,jb,ih];omega
def Bd(a:?L (Kd×Kd)):↑a<=jb a:=by
 induction a with
 |nil=>show aj _
 |cons x r ih=>let(k,m):=x;have:=Ei k;simp only[aF,jb];omega
def Hm(h:kw k=kw m):jb ((lV k).zip (lV m))+2=bG k + bG m:=by
 cases k<;>cases m<;>first|rfl|(simp only[kw]at h;show ?A h @d)|(simp only[lV,lK,List.zip_nil_right,jb,bG];omega)
abbrev Lo(x:Kd×Kd):ak:=.tuple [eM x.1,eM x.2]
def Lp(h:kw k=kw m):(∀x∈(lV k).zip (lV m),x.1=x.2)↔k=m:=by
 cases k<;>cases m<;>first|(simp only[kw]at h;show ?A h @d)|simp[lV]
abbrev Be(K:aa):Sp:=λvs H Q _=>∃(v u:V)(k m:Kd),vs=[v,u]/\Rep K H (eM k) v/\Rep K H (eM m) u/\bG k + bG m<=100000/\∀H',bM H H'->Q (.bl<|decide (k=m)) H'
abbrev look:?L (χ×Kd)->χ->?O Kd
 |[],_=>ι
 |(y,k)::r,x=>match look r x with
  |some m=>θ m
  |none=>if y=x then θ k else ι
def mD(sc:?L (χ×Kd))(y:χ)(k:Kd)(x:χ):look (sc++[(y,k,)]) x=if y=x then θ k else look sc x:=by
 induction sc with
 |nil=>simp only[fN,look]
 |cons p r ih=>
  let(z,m):=p;rw[df];simp only[look];rw[ih];by_cases h:y=x
  .simp[h]
  .simp[h]
structure zx(K:aa)(H:Hp)(a:af)(sc:?L (χ×Kd)):?P where
 ex:∃bw:?L (Key×V),H a=θ (.dK bw)/\↑bw<=↑sc/\(∀x,look sc x=ι->ja bw (.inr x)=ι)/\∀x k,look sc x=θ k->∃v,ja bw (.inr x)=θ v/\Rep K H (eM k) v
variable{K:aa}{H H':Hp}{a:af}{sc:?L (χ×Kd)}
def zx.mono(h:zx K H a sc)(s:bM H H'):zx K H' a sc:=by
 let(bw,e,l,n,r):=h.ex;show(bw,s _ _ e,l,n,λx k q=>(by let(v,h1,h2):=r x k q;show (v,h1,Rep.mono (bC.of_same s) _ _ h2)))
variable{y:χ}{v:V}{bw:?L (Key×V)}
def zx.put(e:H a=θ (.dK bw))(l:↑bw<=↑sc)(n:∀x,look sc x=ι->ja bw (.inr x)=ι)(r:∀x m,look sc x=θ m->∃v,ja bw (.inr x)=θ v/\Rep K H (eM m) v)(hv:Rep K H (eM k) v):zx K (upd H a<|.dK<|putK bw (.inr y) v) a (sc++[(y,k,)]):=by
 have tl:bC K H (upd H a<|.dK<|putK bw (.inr y) v):=.of_keep λb o h _ n _=>by
  rw[be (λz=>by rw[z,e]at h;cases h;show n _ @r)];show h
 show(_,aA,by have:=i0 bw (.inr y) v;rw[aH];simp;omega,λx h=>?_,λx m h=>?_)
 .rw[mD]at h;by_cases hy:y=x
  .rw[?p hy]at h;cases h
  .rw[?n hy]at h;rw[kM,?n (λz=>hy (tG z).symm)];show n x h
 .rw[mD]at h;by_cases hy:y=x
  .rw[?p hy]at h;cases h;show(v,by rw[kM,?p (by rw[hy])],Rep.mono tl _ _ hv)
  .rw[?n hy]at h;let(u,h1,h2):=r x m h;show(u,by rw[kM,?n (λz=>hy (tG z).symm)];show h1,Rep.mono tl _ _ h2)
structure ae2(ko:χ×?L ak)(i:?I)(sc NS:?L (χ×Kd)):?P where
 fn:ko.1 = "fun"->∃x k,ko.2=[.str x,eM k]/\NS=sc++[(x,k,)]
 case:ko.1 = "case"->i=2->∃k h t,ko.2=[eM k,.str h,.str t]/\NS=sc++[(h,k,)]++[(t,.list k,)]
 other:ko.1≠"fun"->(ko.1 = "case"->i≠2)->NS=sc
abbrev Lq(K:aa):Sp:=λvs H Q _=>∃(v:V)(a:af)(t:Ex)(i:?I) (sc NS:?L (χ×Kd)),vs=[v,.int i,.ref a]/\Rep K H (py t) v/\zx K H a sc/\↑sc<=3000000/\ae2 t.ko i sc NS/\∀b H',bM H H'->zx K H' b NS->Q (.ref b) H'
end _W
namespace _L
open PyProof.Rows
abbrev Ext(H H':Hp):?P:=∀b o,H b=θ o->(∀xs,o≠.lst xs)->H' b=θ o
variable{H H':Hp}
def Ext.of_same(s:bM H H'):Ext H H':=λb o h _=>s b o h
variable{a:af}{vs:?L V}
def Ext.write(h:H a=θ @W)(o:HO):Ext H (upd H a o):=λb u q n=>by
 by_cases e:b=a
 .subst e;rw[h]at q;cases q;show ?A @r (n vs)
 .rw[be e];show q
variable{K:aa}
def bC.qw(e:Ext H H'):bC K H H':=.of_keep λb o h n _ _=>e b o h n
structure Per where
 p:Hp->V->?P
 mono:∀H H' v,Ext H H'->p H v->p H' v
inductive Sl where
 |un|d (x:ak)|l (xs:?L ak)|o (xs:?L ak)|h (P:Per)
abbrev Sl.cA:Sl->?O (?L ak)
 |.l xs=>θ xs
 |.o xs=>θ xs
 |_=>ι
abbrev Sl.rd:Sl->?O Sl
 |.un=>ι
 |.o xs=>θ (.l xs)
 |r=>θ r
abbrev Sl.arg:Sl->Sl
 |.o xs=>.l xs
 |r=>r
abbrev xp(K:aa)(H:Hp)(a:af)(xs:?L ak):?P:=∃vs,H a=θ @W/\bp K H xs vs
abbrev gT(K:aa)(H:Hp):Sl->V->?P
 |.un,_=>True
 |.d x,v=>Rep K H x v
 |.l xs,v=>∃a,v = .ref a/\xp K H a xs
 |.o xs,v=>∃a,v = .ref a/\xp K H a xs
 |.h P,v=>P.p H v
abbrev iq(K:aa)(H H':Hp):Sl->V->?P
 |.un,_=>True
 |.d x,v=>Rep K H' x v
 |.l xs,v=>∃a,v = .ref a/\xp K H' a xs
 |.o xs,v=>∃a,v = .ref a/\H a=ι/\xp K H' a xs
 |.h P,v=>P.p H' v
section
variable {K:aa}{H H' H'':Hp}{a p:af}{xs ys:?L ak}{r:Sl}{v:V}
def xp.mono(s:bM H H')(h:xp K H a xs):xp K H' a xs:=by let(vs,e,q):=h;show (vs,s _ _ e,bp.mono (bC.of_same s) _ _ q)
variable{ws:?L V}
def xp.other(h:xp K H a xs)(hp:H p=θ @W)(n:a≠p):xp K (upd H p @ap) a xs:=by
 let(us,e,q):=h;show(us,by rw[be n];show e,bp.mono ((SameBut.upd _).tup hp) _ _ q)
def iq.rd(h:iq K H H' r v):gT K H' r v:=by
 cases r with
 |un=>trivial
 |d x=>show h
 |l xs=>show h
 |o xs=>let(a,e,_,q):=h;show(a,e,q)
 |h P=>show h
def iq.since(s:bM H H')(h:iq K H' H'' r v):iq K H H'' r v:=by
 cases r with
 |un=>trivial
 |d x=>show h
 |l xs=>show h
 |o xs=>let(a,e,n,q):=h;show(a,e,s.free n,q)
 |h P=>show h
def gT.mono(s:bM H H')(h:gT K H r v):gT K H' r v:=by
 cases r with
 |un=>trivial
 |d x=>show Rep.mono (bC.of_same s) _ _ h
 |l xs=>let(a,e,q):=h;show(a,e,q.mono s)
 |o xs=>let(a,e,q):=h;show(a,e,q.mono s)
 |h P=>show P.mono _ _ _ (Ext.of_same s) h
def gT.lst(h:gT K H r v)(e:r.cA=θ xs):∃a vs,v = .ref a/\H a=θ @W/\bp K H xs vs:=by
 cases r with
 |un=>cases e
 |d x=>cases e
 |l ys=>cases e;let(a,e,vs,q1,q2):=h;show(a,vs,e,q1,q2)
 |o ys=>cases e;let(a,e,vs,q1,q2):=h;show(a,vs,e,q1,q2)
 |h P=>cases e
def iq.int{i:?I}:iq K H H' (.d @T) @T:=@Rep.int K H' i
def iq.str{x:χ}:iq K H H' (.d @S) @S:=@Rep.str K H' x
def iq.bool{b:?B}:iq K H H' (.d<|.bool b) (.bl b):=@Rep.bool K H' b
def iq.fB:iq K H H' (.d .none) .fB:=@Rep.fB K H'
variable{i:?I}
def gT.cX(h:gT K H (.d @T) v):v = .int i:=Rep.cX (K:=K) (H:=H) h
variable{x:χ}
def gT.eP(h:gT K H (.d @S) v):v = .str x:=Rep.eP (K:=K) (H:=H) h
variable{b:?B}
def gT.is_bool(h:gT K H (.d<|.bool b) v):v = .bl b:=Rep.is_bool (K:=K) (H:=H) h
def gT.lR(h:gT K H (.d .none) v):v = .fB:=Rep.lR (K:=K) (H:=H) h
def iq.cX(h:iq K H H' (.d @T) v):v = .int i:=Rep.cX (K:=K) (H:=H') h
def iq.eP(h:iq K H H' (.d @S) v):v = .str x:=Rep.eP (K:=K) (H:=H') h
def iq.is_bool(h:iq K H H' (.d<|.bool b) v):v = .bl b:=Rep.is_bool (K:=K) (H:=H') h
def gT.tup{xs:?L ak}(h:gT K H (.d<|.tuple xs) v):∃a vs,v = .ref a/\eI K H a vs/\bp K H xs vs:=Rep.gf (K:=K) (H:=H) h
def iq.tup{xs:?L ak}(h:iq K H H' (.d<|.tuple xs) v):∃a vs,v = .ref a/\eI K H' a vs/\bp K H' xs vs:=Rep.gf (K:=K) (H:=H') h
def iq.mk{xs:?L ak}{vs:?L V}(h:eI K H' a vs)(r:bp K H' xs vs):iq K H H' (.d<|.tuple xs) @x:=Rep.tuple (K:=K) (H:=H') h r
def gT.arg(h:gT K H r v):gT K H r.arg v:=by cases r<;>show h
end
inductive oF(K:aa)(H:Hp):?L Sl->?L V->?P where
 |nil:oF K H [] []
 |cons {r:Sl} {v:V} {rs:?L Sl} {vs:?L V}:gT K H r v->oF K H rs vs->oF K H (r::rs) (v::vs)
def oF.arg:∀{rs:?L Sl}{vs:?L V},oF K H rs vs->oF K H (rs.map Sl.arg) vs:=by
 intro rs vs h;induction h with
 |nil=>show .nil
 |cons h t ih=>show .cons h.arg ih
def oF.length:∀{rs:?L Sl}{vs:?L V},oF K H rs vs->↑vs=↑rs:=by
 intro rs vs h;induction h with
 |nil=>rfl
 |cons h t ih=>rw[aF,aF,ih]
def oF.get:∀{rs:?L Sl}{vs:?L V},oF K H rs vs->∀{i:?N}{r:Sl},rs[i]?=θ r->∃v,vs[i]?=θ v/\gT K H r v:=by
 intro rs vs h;induction h with
 |nil=>intro i r e;simp at e
 |cons h t ih=>
  intro i r e;cases i with
  |zero=>simp at e;subst e;show(_,@r,h)
  |succ i=>simpa using ih (i:=i) (r:=r) (by simpa using e)
structure ER(K:aa)(H0:Hp)(hs:?L (V×Sl))(ρ:?L Sl)(σ:St)(H:Hp):?P where
 same:bM H0 H
 len:↑ρ=↑σ
 dat:∀(i:?N) x,ρ[i]?=θ (.d x)->∃v,σ[i]?=θ (θ v)/\Rep K H x v
 lst:∀(i:?N) xs,ρ[i]?=θ (.l xs)->∃a,σ[i]?=θ (θ @x)/\xp K H a xs
 M9:∀(i:?N) P,ρ[i]?=θ (.h P)->∃v,σ[i]?=θ (θ v)/\P.p H v
 own:∀(i:?N) xs,ρ[i]?=θ (.o xs)->∃a,σ[i]?=θ (θ @x)/\xp K H a xs/\H0 a=ι
 vh:∀(i j:?N) a xs ys,ρ[i]?=θ (.o xs)->ρ[j]?=θ (.l ys)->σ[i]?=θ (θ @x)->σ[j]?≠θ (θ @x)
 qx:∀(i j:?N) a xs ys,i≠j->ρ[i]?=θ (.o xs)->ρ[j]?=θ (.o ys)->σ[i]?=θ (θ @x)->σ[j]?≠θ (θ @x)
 held:∀p∈hs,gT K H p.2 p.1
 Bf:∀(i:?N) xs a,ρ[i]?=θ (.o xs)->σ[i]?=θ (θ @x)->∀p∈hs,∀ys,p.2.cA=θ ys->p.1≠.ref a
section
variable {K:aa}{H0 H H':Hp}{hs:?L (V×Sl)}{ρ:?L Sl}{σ:St}
def ER.grow(e:ER K H0 hs ρ σ H)(s:bM H H'):ER K H0 hs ρ σ H':=
 (e.same.trans s,e.len,λi x h=>(by let(v,h1,h2):=e.dat i x h;show (v,h1,Rep.mono (bC.of_same s) _ _ h2)),λi x h=>(by let(v,h1,h2):=e.lst i x h;show (v,h1,h2.mono s)),
  λi P h=>(by let(v,h1,h2):=e.M9 i P h;show (v,h1,P.mono _ _ _ (Ext.of_same s) h2)),
  λi x h=>(by let(v,h1,h2,h3):=e.own i x h;show (v,h1,h2.mono s,h3)),e.vh,e.qx,λp hp=>(e.held p hp).mono s,e.Bf)
variable{i j:?N}
def de{α:Type}{l:?L α}{x y:α}(h:(l.set i x)[j]?=θ y):(i=j/\y=x/\i<↑l)\/(i≠j/\l[j]?=θ y):=by
 rw[dR]at h;by_cases e:i=j
 .rw[?p e]at h;by_cases l1:i<↑l
  .rw[?p l1]at h;show .inl (e,(bf h).symm,l1)
  .rw[?n l1]at h;cases h
 .rw[?n e]at h;show .inr (e,h)
def ue{α:Type}{l:?L α}{x y:α}(e:i≠j)(h:l[j]?=θ y):(l.set i x)[j]?=θ y:=by rw[dR,?n e];show h
def mE{α:Type}{l:?L α}{x:α}(h:i<↑l):(l.set i x)[i]?=θ x:=by rw[dR,?p @r,?p h]
def jS{α:Type}{l:?L α}{x y:α}(e:i≠j)(h:(l.set i x)[j]?=θ y):l[j]?=θ y:=by rw[dR,?n e]at h;show h
variable{r:Sl}{v:V}
def ER.ae3(e:ER K H0 hs ρ σ H)(h:gT K H r v)(no:∀xs,r≠.o xs)(sep:∀ys,r = .l ys->∀(j:?N) xs,ρ[j]?=θ (.o xs)->σ[j]?≠θ (θ v)):ER K H0 hs (ρ.set i r) (σ.set i<|θ v) H:=by
 have ls:i<↑ρ->i<↑σ:=λh=>by rw[<-e.len];show h
 show(e.same,by rw[eK,eK,e.len],λj x q=>?_,λj x q=>?_,λj x q=>?_,λj x q=>?_,λj k a xs ys q1 q2 q3 q4=>?_,λj k a xs ys n q1 q2 q3 q4=>?_,e.held,λj xs a q1 q2=>?_)
 .rcases de q with⟨rfl,rfl,l1⟩|⟨n,q⟩
  .show(v,mE<|ls l1,h)
  .let(u,h1,h2):=e.dat j x q;show(u,ue n h1,h2)
 .rcases de q with⟨rfl,rfl,l1⟩|⟨n,q⟩
  .let(a,rfl,h2):=h;show(a,mE<|ls l1,h2)
  .let(u,h1,h2):=e.lst j x q;show(u,ue n h1,h2)
 .rcases de q with⟨rfl,rfl,l1⟩|⟨n,q⟩
  .show(v,mE<|ls l1,h)
  .let(u,h1,h2):=e.M9 j x q;show(u,ue n h1,h2)
 .rcases de q with⟨_,z,_⟩|⟨n,q⟩
  .show ?A z.symm (no x)
  .let(u,h1,h2):=e.own j x q;show(u,ue n h1,h2)
 .rcases de q1 with⟨_,z,_⟩|⟨n1,q1⟩
  .show ?A z.symm (no xs)
  .have q3:=jS n1 q3;rcases de q2 with⟨rfl,z,l1⟩|⟨n2,q2⟩
   .rw[mE (ls l1)]at q4;have e4:v = .ref a:=bf (bf q4);show sep ys z.symm j xs q1 (by rw[e4];show q3)
   .show e.vh j k a xs ys q1 q2 q3 (jS n2 q4)
 .rcases de q1 with⟨_,z,_⟩|⟨n1,q1⟩
  .show ?A z.symm (no xs)
  rcases de q2 with⟨_,z,_⟩|⟨n2,q2⟩
  .show ?A z.symm (no ys)
  show e.qx j k a xs ys n q1 q2 (jS n1 q3) (jS n2 q4)
 .rcases de q1 with⟨_,z,_⟩|⟨n1,q1⟩
  .show ?A z.symm (no xs)
  .show e.Bf j xs a q1 (jS n1 q2)
def ER.Bg{x:ak}(e:ER K H0 hs ρ σ H)(h:Rep K H x v):ER K H0 hs (ρ.set i<|.d x) (σ.set i<|θ v) H:=e.ae3 (r:=.d x) h @m λ_ z=>nomatch z
variable{xs:?L ak}
def ER.ae4(e:ER K H0 hs ρ σ H)(s:bM H H')(n:H a=ι)(h:xp K H' a xs):ER K H0 hs (ρ.set i<|.o xs) (σ.set i<|θ @x) H':=by
 have ls:i<↑ρ->i<↑σ:=λh=>by rw[<-e.len];show h
 have ne:∀{b:af}{ys:?L ak},xp K H b ys->b≠a:=λ⟨_,q,_⟩ z=>by rw[z,n]at q;cases q
 show(e.same.trans s,by rw[eK,eK,e.len],λj x q=>?_,λj x q=>?_,λj x q=>?_,λj x q=>?_,λj k b xs ys q1 q2 q3 q4=>?_,λj k b xs ys n q1 q2 q3 q4=>?_,λp hp=>(e.held p hp).mono s,λj xs b q1 q2 p hp ws hw=>?_)
 .rcases de q with⟨_,z,_⟩|⟨n,q⟩
  .cases z
  .let(u,h1,h2):=e.dat j x q;show(u,ue n h1,Rep.mono (bC.of_same s) _ _ h2)
 .rcases de q with⟨_,z,_⟩|⟨n,q⟩
  .cases z
  .let(u,h1,h2):=e.lst j x q;show(u,ue n h1,h2.mono s)
 .rcases de q with⟨_,z,_⟩|⟨n,q⟩
  .cases z
  .let(u,h1,h2):=e.M9 j x q;show(u,ue n h1,x.mono _ _ _ (Ext.of_same s) h2)
 .rcases de q with⟨rfl,z,l1⟩|⟨n,q⟩
  .cases z;show(a,mE<|ls l1,h,e.same.free n)
  .let(u,h1,h2,h3):=e.own j x q;show(u,ue n h1,h2.mono s,h3)
 .rcases de q2 with⟨_,z,_⟩|⟨n2,q2⟩
  .cases z
  have q4:=jS n2 q4;rcases de q1 with⟨rfl,z,l1⟩|⟨n1,q1⟩
  .rw[mE (ls l1)]at q3;have e3:V.ref a=V.ref b:=bf (bf q3);ext;cases e3;let(c,h1,h2):=e.lst k ys q2;rw[q4]at h1;cases h1;ext;show ne h2 @r
  .show e.vh j k b xs ys q1 q2 (jS n1 q3) q4
 .rcases de q1 with⟨rfl,z,l1⟩|⟨n1,q1⟩
  .rw[mE (ls l1)]at q3;have e3:V.ref a=V.ref b:=bf (bf q3);cases e3;rcases de q2 with⟨z2,_,_⟩|⟨n2,q2⟩
   .show n z2
   .ext;let(c,h1,h2,_):=e.own k ys q2;rw[jS n2 q4]at h1;cases h1;ext;show ne h2 @r
  .have q3:=jS n1 q3;rcases de q2 with⟨rfl,z,l2⟩|⟨n2,q2⟩
   .rw[mE (ls l2)]at q4;have e4:V.ref a=V.ref b:=bf (bf q4);ext;cases e4;let(c,h1,h2,_):=e.own j xs q1;rw[q3]at h1;cases h1;ext;show ne h2 @r
   .show e.qx j k b xs ys n q1 q2 q3 (jS n2 q4)
 .rcases de q1 with⟨rfl,z,l1⟩|⟨n1,q1⟩
  .rw[mE (ls l1)]at q2;have e3:V.ref a=V.ref b:=bf (bf q2);cases e3;intro z;let(b,vs,h1,h2,_):=(e.held p hp).lst hw;rw[z]at h1;cases h1;rw[n]at h2;cases h2
  .show e.Bf j xs b q1 (jS n1 q2) p hp ws hw
variable{ys:?L ak}{ws:?L V}
def ER.write(e:ER K H0 hs ρ σ H)(hi:ρ[i]?=θ (.o xs))(ha:σ[i]?=θ (θ @x))(hv:H a=θ @W)(hw:bp K H ys ws):ER K H0 hs (ρ.set i<|.o ys) σ (upd H a @ap):=by
 have tl:bC K H (upd H a @ap):=(SameBut.upd _).tup hv;have li:i<↑ρ:=(ay.mp hi).1;have h0:H0 a=ι:=by
  ext;let(b,h1,_,h3):=e.own i xs hi;rw[ha]at h1;cases h1;ext;show h3
 show(λb o q=>by rw[be (bQ q h0)];show e.same b o q,by rw[eK,e.len],λj x q=>?_,λj x q=>?_,λj x q=>?_,λj x q=>?_,λj k b us zs q1 q2 q3 q4=>?_,λj k b us zs n q1 q2 q3 q4=>?_,λp hp=>?_,λj us b q1 q2=>?_)
 .rcases de q with⟨_,z,_⟩|⟨n,q⟩
  .cases z
  .let(u,h1,h2):=e.dat j x q;show(u,h1,Rep.mono tl _ _ h2)
 .rcases de q with⟨_,z,_⟩|⟨n,q⟩
  .cases z
  .let(b,h1,h2):=e.lst j x q;show(b,h1,h2.other hv λz=>e.vh i j a xs x hi q ha (by rw[<-z];show h1))
 .rcases de q with⟨_,z,_⟩|⟨n,q⟩
  .cases z
  .let(u,h1,h2):=e.M9 j x q;show(u,h1,x.mono _ _ _ (Ext.write hv _) h2)
 .rcases de q with⟨rfl,z,_⟩|⟨n,q⟩
  .cases z;show(a,ha,(ws,aA,bp.mono tl _ _ hw),h0)
  .let(b,h1,h2,h3):=e.own j x q;show(b,h1,h2.other hv λz=>e.qx i j a xs x n hi q ha (by rw[<-z];show h1),h3)
 .rcases de q2 with⟨_,z,_⟩|⟨n2,q2⟩
  .cases z
  rcases de q1 with⟨rfl,_,_⟩|⟨n1,q1⟩
  .show e.vh i k b xs zs hi q2 q3 q4
  .show e.vh j k b us zs q1 q2 q3 q4
 .rcases de q1 with⟨rfl,_,_⟩|⟨n1,q1⟩
  .rcases de q2 with⟨z,_,_⟩|⟨n2,q2⟩
   .show n z
   .show e.qx i k b xs zs n hi q2 q3 q4
  .rcases de q2 with⟨rfl,_,_⟩|⟨n2,q2⟩
   .show e.qx j i b us xs n q1 hi q3 q4
   .show e.qx j k b us zs n q1 q2 q3 q4
 .have hh:=e.held p hp;let(pv,ps):=p;cases ps with
  |un=>trivial
  |d x=>show Rep.mono tl _ _ hh
  |l zs=>let(b,rfl,q):=hh;show(b,@r,q.other hv λz=>e.Bf i xs a hi ha (.ref b,.l zs,) hp zs @r (by rw[z]))
  |o zs=>let(b,rfl,q):=hh;show(b,@r,q.other hv λz=>e.Bf i xs a hi ha (.ref b,.o zs,) hp zs @r (by rw[z]))
  |h P=>show P.mono _ _ _ (Ext.write hv _) hh
 .rcases de q1 with⟨rfl,_,_⟩|⟨n1,q1⟩
  .show e.Bf i xs b hi q2
  .show e.Bf j us b q1 q2
def ER.hold(e:ER K H0 hs ρ σ H)(h:gT K H r v)(sep:∀ys,r.cA=θ ys->∀(i:?N) xs a,ρ[i]?=θ (.o xs)->σ[i]?=θ (θ @x)->v≠.ref a):ER K H0 ((v,r,)::hs) ρ σ H:=
 (e.same,e.len,e.dat,e.lst,e.M9,e.own,e.vh,e.qx,λp hp=>by
  rcases bg.mp hp with rfl|hp
  .show h
  .show e.held p hp,λi xs a q1 q2 p hp ys hy=>by
  rcases bg.mp hp with rfl|hp
  .show sep ys hy i xs a q1 q2
  .show e.Bf i xs a q1 q2 p hp ys hy)
def ER.PH{p:V×Sl}(e:ER K H0 (p::hs) ρ σ H):ER K H0 hs ρ σ H:=
 (e.same,e.len,e.dat,e.lst,e.M9,e.own,e.vh,e.qx,λq hq=>e.held q (aM _ hq),λi xs a q1 q2 q hq=>e.Bf i xs a q1 q2 q (aM _ hq))
def ER.down(e:ER K H0 hs ρ σ H)(hi:ρ[i]?=θ (.o xs)):ER K H0 hs (ρ.set i<|.l xs) σ H:=by
 let(a,ha,hl,h0):=e.own i xs hi;show(e.same,by rw[eK,e.len],λj x q=>?_,λj x q=>?_,λj x q=>?_,λj x q=>?_,λj k b us zs q1 q2 q3 q4=>?_,λj k b us zs n q1 q2 q3 q4=>?_,e.held,λj us b q1 q2=>?_)
 .rcases de q with⟨_,z,_⟩|⟨n,q⟩
  .cases z
  .show e.dat j x q
 .rcases de q with⟨rfl,z,_⟩|⟨n,q⟩
  .cases z;show(a,ha,hl)
  .show e.lst j x q
 .rcases de q with⟨_,z,_⟩|⟨n,q⟩
  .cases z
  .show e.M9 j x q
 .rcases de q with⟨_,z,_⟩|⟨n,q⟩
  .cases z
  .show e.own j x q
 .rcases de q1 with⟨_,z,_⟩|⟨n1,q1⟩
  .cases z
  rcases de q2 with⟨rfl,_,_⟩|⟨n2,q2⟩
  .show e.qx j i b us xs (cp n1) q1 hi q3 q4
  .show e.vh j k b us zs q1 q2 q3 q4
 .rcases de q1 with⟨_,z,_⟩|⟨n1,q1⟩
  .cases z
  rcases de q2 with⟨_,z,_⟩|⟨n2,q2⟩
  .cases z
  show e.qx j k b us zs n q1 q2 q3 q4
 .rcases de q1 with⟨_,z,_⟩|⟨n1,q1⟩
  .cases z
  show e.Bf j us b q1 q2
end
abbrev tR(K:aa)(ρ:?L Sl)(r:Sl):TE:=λσ H Q=>(∃H0 hs,ER K H0 hs ρ σ H)/\∀v H',bM H H'->iq K H H' r v->Q v H'
abbrev tRT(K:aa)(ρ:?L Sl)(b:?B):TT:=λσ H Q=>(∃H0 hs,ER K H0 hs ρ σ H)/\∀H',bM H H'->Q b H'
abbrev tRD(K:aa)(ρ:?L Sl)(ds:?L ak):TA:=λσ H Q=>(∃H0 hs,ER K H0 hs ρ σ H)/\∀vs H',bM H H'->bp K H' ds vs->Q vs H'
abbrev tRA(K:aa)(ρ:?L Sl)(rs:?L Sl):TA:=λσ H Q=>(∃H0 hs,ER K H0 hs ρ σ H)/\∀vs H',bM H H'->oF K H' rs vs->Q vs H'
abbrev tRO(K:aa)(ρ:?L Sl)(i:?O ?I):TO:=λσ H Q=>(∃H0 hs,ER K H0 hs ρ σ H)/\∀H',bM H H'->Q i H'
abbrev VE(X:Cx)(ρ:?L Sl)(e:bR)(r:Sl):?P:=PE X e (tR X.K ρ r)
abbrev VT(X:Cx)(ρ:?L Sl)(e:bR)(b:?B):?P:=PT X e (tRT X.K ρ b)
abbrev VW(X:Cx)(ρ:?L Sl)(e:bR)(b:?B):?P:=PW X e (tRT X.K ρ b)
abbrev VD(X:Cx)(ρ:?L Sl)(es:?L bR)(ds:?L ak):?P:=PA X es (tRD X.K ρ ds)
abbrev VA(X:Cx)(ρ:?L Sl)(es:?L bR)(rs:?L Sl):?P:=PA X es (tRA X.K ρ rs)
abbrev VO(X:Cx)(ρ:?L Sl)(e:?O bR)(i:?O ?I):?P:=PO X e (tRO X.K ρ i)
section
variable {X:Cx}{ρ:?L Sl}{e a b c:bR}{es:?L bR}{r ra rb:Sl}{pos:Pos}{d:ak}{ds:?L ak}{rs:?L Sl}
def PE.weak{t t':TE}(h:PE X e t)(w:∀σ H Q,t' σ H Q->t σ H Q):PE X e t':=λπ s σ H Q I q=>h π s σ H Q I (w σ H Q q)
variable{t':TT}
def PT.weak{t:TT}(h:PT X e t)(w:∀σ H Q,t' σ H Q->t σ H Q):PT X e t':=λπ s σ H Q I q=>h π s σ H Q I (w σ H Q q)
def PW.weak{t:TT}(h:PW X e t)(w:∀σ H Q,t' σ H Q->t σ H Q):PW X e t':=λwh π s σ H Q I q=>h wh π s σ H Q I (w σ H Q q)
variable{t:TA}
def PA.weak{t':TA}(h:PA X es t)(w:∀σ H Q,t' σ H Q->t σ H Q):PA X es t':=λps π s σ H Q I q=>h ps π s σ H Q I (w σ H Q q)
def PO.weak{o:?O bR}{t t':TO}(h:PO X o t)(w:∀σ H Q,t' σ H Q->t σ H Q):PO X o t':=λπ s σ H Q I q=>h π s σ H Q I (w σ H Q q)
variable{σ:St}
def gN(h:∃H0 hs,ER K H0 hs ρ σ H)(s:bM H H'):∃H0 hs,ER K H0 hs ρ σ H':=by let(a,b,e):=h;show (a,b,e.grow s)
abbrev uf(x:χ):?L χ->?N->?O ?N
 |[],_=>ι
 |y::r,k=>if y=x then θ k else uf x r (k+1)
def Lr{x:χ}:∀{l:?L χ}{k i:?N},uf x l k=θ i->k<=i/\l[i - k]?=θ x
 |[],k,i,h=>nomatch h
 |y::r,k,i,h=>by
  rw[uf]at h;by_cases e:y=x
  .rw[?p e]at h;cases h;show(aj _,by rw[mx,e];rfl)
  .rw[?n e]at h;let(h1,h2):=Lr h;show(by omega,?_);rw[show i - k=(i - (k+1))+1 from by omega,fk];show h2
variable{x:χ}{i:?N}{N:?L χ}
def iQ(h:uf x N 0=θ i):N[i]?=θ x:=by
 have:=(Lr h).2;rwa[pJ]at this
def Tn(hi:uf x X.N 0=θ i)(hr:(ρ[i]?).bind Sl.rd=θ r)(hv:zN X.env.scope x:=by first|show bB @r|show cF @A|show cF (cF @r))(hd:(x==("__debug__":χ))=υ:=by decide)(pU:(x==("__classdict__":χ))=υ:=by decide):VE X ρ (.Name x pos) r:=by
 show(jD (iQ hi) hv hd pU).weak λσ H Q ⟨⟨H0,hs,e⟩,q⟩=>?_;cases h:ρ[i]? with
 |none=>rw[h]at hr;cases hr
 |some s=>
  rw[h]at hr;cases s with
  |un=>cases hr
  |d x=>cases hr;let(v,h1,h2):=e.dat i x h;show(v,h1,q v H @F h2)
  |l x=>cases hr;let(a,h1,h2):=e.lst i x h;show(_,h1,q _ H @F (a,@r,h2))
  |o x=>cases hr;let(a,h1,h2,_):=e.own i x h;show(_,h1,q _ H @F (a,@r,h2))
  |h P=>cases hr;let(v,h1,h2):=e.M9 i P h;show(v,h1,q v H @F h2)
variable{i:?I}{j:?N}
def Fh:VE X ρ (.Constant @T j pos) (.d @T):=bV.weak (by rintro σ H Q ⟨_,q⟩;show q _ H @F iq.int)
def ug:VE X ρ (.Constant @S j pos) (.d @S):=oV.weak (by rintro σ H Q ⟨_,q⟩;show q _ H @F iq.str)
def Vb{b:?B}:VE X ρ (.Constant (.bool b) j pos) (.d<|.bool b):=DA.weak (by rintro σ H Q ⟨_,q⟩;show q _ H @F iq.bool)
def Fi:VE X ρ (.Constant .none j pos) (.d .none):=oU.weak (by rintro σ H Q ⟨_,q⟩;show q _ H @F iq.fB)
variable{v:V}{u:ai}
def Al(hg:Gl X x)(hm:X.mg x=θ u)(rv:RelV v u)(h:∀H,Rep X.K H d v)(hd:(x==("__debug__":χ))=υ:=by decide):VE X ρ (.Name x pos) (.d d):=
 (jE hg hm rv hd).weak (by rintro σ H Q ⟨_,q⟩;show q _ H @F (h H))
def gw:VD X ρ [] []:=bh.weak (by rintro σ H Q ⟨_,q⟩;show q [] H @F .nil)
def aX(h:VE X ρ e (.d d))(t:VD X ρ es ds)(hs:aq (e::es) X.env=@c::aq es X.env:=by rfl):VD X ρ (e::es) (d::ds):=
 PA.weak (ax h t hs) (by rintro σ H Q ⟨er,q⟩;show (er,λv H1 s1 r1=>(gN er s1,λvs H2 s2 r2=>q (v::vs) H2 @H (.cons (Rep.mono @Q _ _ r1) r2))))
def gO:VA X ρ [] []:=bh.weak (by rintro σ H Q ⟨_,q⟩;show q [] H @F .nil)
def cw(h:VE X ρ e r)(t:VA X ρ es rs)(hs:aq (e::es) X.env=@c::aq es X.env:=by rfl):VA X ρ (e::es) (r::rs):=
 PA.weak (ax h t hs) (by rintro σ H Q ⟨er,q⟩;show (er,λv H1 s1 r1=>(gN er s1,λvs H2 s2 r2=>q (v::vs) H2 @H (.cons (r1.rd.mono s2) r2))))
def dW{k:?N}(h:VD X ρ es ds)(hz:↑ds<=au:=by first|decide|show bX @r):VE X ρ (.Tuple es k pos) (.d<|.tuple ds):=
 PE.weak (h8 h) (by rintro σ H Q ⟨er,q⟩;show (er,λvs H1 s1 r1=>(by rw[r1.length];show hz,λp np=>q _ _ (s1.trans<|bt np _) (iq.mk (eI.of aA)<|bp.mono (bC.of_same<|bt np _) _ _ r1))))
def nU(h:VD X ρ es ds)(hz:↑ds<=au:=by first|decide|show bX @r):VE X ρ (.List es pos) (.o ds):=
 PE.weak (tQ h) (by rintro σ H Q ⟨er,q⟩;show (er,λvs H1 s1 r1=>(by rw[r1.length];show hz,λp np=>q _ _ (s1.trans<|bt np _) (p,@r,s1.free np,vs,aA,bp.mono (bC.of_same<|bt np _) _ _ r1))))
variable{r2:R2}
def Bh{op:Operator}(ho:wQ X (binaryOp op) r2)(ha:VE X ρ a ra)(hb:VE X ρ b rb)(h:∀H x y Q,gT X.K H ra x->gT X.K H rb y->(∀z H',bM H H'->iq X.K H H' r z->Q z H')->r2 x y H Q):VE X ρ (.BinOp a op b pos) r:=
 PE.weak (nj ho ha hb) (by rintro σ H Q ⟨er,q⟩;show (er,λx H1 s1 r1=>(gN er s1,λy H2 s2 r2=>h H2 x y _ (r1.rd.mono s2) r2.rd λz H3 s3 r3=>q z H3 ((s1.trans s2).trans s3) (r3.since @H))))
variable{op:CmpOp}
def Fj(ho:wQ X (compareOp op) r2)(ha:VE X ρ a ra)(hb:VE X ρ b rb)(h:∀H x y Q,gT X.K H ra x->gT X.K H rb y->(∀z H',bM H H'->iq X.K H H' r z->Q z H')->r2 x y H Q)(hm:behindInMarks op b=υ):VE X ρ (.Compare a [op] [b] pos) r:=
 PE.weak (K2 ho ha hb hm) (by rintro σ H Q ⟨er,q⟩;show (er,λx H1 s1 r1=>(gN er s1,λy H2 s2 r2=>h H2 x y _ (r1.rd.mono s2) r2.rd λz H3 s3 r3=>q z H3 ((s1.trans s2).trans s3) (r3.since @H))))
variable{k:?B}
def mF(ho:wQ X (compareOp op) r2)(ha:VE X ρ a ra)(hb:VE X ρ b rb)(h:∀H x y Q,gT X.K H ra x->gT X.K H rb y->Q (.bl k) H->r2 x y H Q)(hm:behindInMarks op b=υ):VT X ρ (.Compare a [op] [b] pos) k:=
 PT.weak (fj ho ha hb hm) (by rintro σ H Q ⟨er,q⟩;show (er,λx H1 s1 r1=>(gN er s1,λy H2 s2 r2=>h H2 x y _ (r1.rd.mono s2) r2.rd (k,@r,q H2 @H))))
def xq{j:?I}(ha:VE X ρ a (.d @T))(hb:VE X ρ b (.d<|.int j)):VE X ρ (.BinOp a .Add b pos) (.d<|.int<|i + j):=
 Bh Jl ha hb λH x y Q rx ry q=>(i,j,gT.cX rx,gT.cX ry,q _ H @F iq.int)
def xr{j:?I}(ha:VE X ρ a (.d @T))(hb:VE X ρ b (.d<|.int j)):VE X ρ (.BinOp a .Sub b pos) (.d<|.int<|i - j):=
 Bh Oc ha hb λH x y Q rx ry q=>(i,j,gT.cX rx,gT.cX ry,q _ H @F iq.int)
def xt{j:?I}(ha:VE X ρ a (.d @T))(hb:VE X ρ b (.d<|.int j))(h:Ob i j):VE X ρ (.BinOp a .Mult b pos) (.d<|.int<|i * j):=
 Bh Jm ha hb λH x y Q rx ry q=>(i,j,gT.cX rx,gT.cX ry,h,q _ H @F iq.int)
def uS{j:?I}(ha:VE X ρ a (.d @T))(hb:VE X ρ b (.d<|.int j))(h:0<j:=by decide):VE X ρ (.BinOp a .Mod b pos) (.d<|.int<|i % j):=
 Bh Jn ha hb λH x y Q rx ry q=>(i,j,gT.cX rx,gT.cX ry,h,q _ H @F iq.int)
def Am{i j:χ}(ha:VE X ρ a (.d<|.str i))(hb:VE X ρ b (.d<|.str j))(h:↑i + ↑j<=au):VE X ρ (.BinOp a .Add b pos) (.d<|.str<|i++j):=
 Bh AQ ha hb λH x y Q rx ry q=>(i,j,gT.eP rx,gT.eP ry,h,q _ H @F iq.str)
variable{xs ys:?L ak}
def Ls(ha:VE X ρ a ra)(hb:VE X ρ b rb)(ea:ra.cA=θ xs)(eb:rb.cA=θ ys)(h:↑xs + ↑ys<=au):VE X ρ (.BinOp a .Add b pos) (.o<|xs++ys):=
 Bh OA ha hb λH x y Q rx ry q=>by
  let(p,vs,rfl,hq,rp):=rx.lst ea;let(p2,ws,rfl,hq2,JS):=ry.lst eb;show(p,p2,vs,ws,@r,@r,hq,hq2,by rw[rp.length,JS.length];show h,λc hc=>q _ _ (bt hc _) (c,@r,hc,_,aA,?_));show(bp.mono (bC.of_same<|bt hc _) _ _ rp).append (bp.mono (bC.of_same<|bt hc _) _ _ JS)
def mH(ha:VE X ρ a (.d<|.tuple xs))(hb:VE X ρ b (.d @T))(h:vy xs i=θ d)(hs:xf b:=by showλ_ _=>rfl):VE X ρ (.Subscript a b pos) (.d d):=
 PE.weak (eL eh ha hb hs) λσ H Q ⟨er,q⟩=>(er,λx H1 s1 r1=>(gN er s1,λy H2 s2 r2=>by
  let(p,vs,rfl,hq,rp):=gT.tup (r1.rd.mono s2);obtain rfl:=iq.cX r2;let(j,h1,h2,h3,h4,h5):=uQ h;let(z,hz,rz):=rp.get h2;show(p,vs,i,z,@r,@r,hq,?_,q z H2 @H rz);unfold vy at h ⊢;rw[rp.length];cases q:K7 ↑xs i with
  |none=>rw[q]at h;cases h
  |some k=>
   have hk:=(uP q).1;rw[h1]at hk;cases hk
   show hz))
def uh(ha:VE X ρ a ra)(hb:VE X ρ b (.d @T))(ea:ra.cA=θ xs)(h:vy xs i=θ d)(hs:xf b:=by showλ_ _=>rfl):VE X ρ (.Subscript a b pos) (.d d):=
 PE.weak (eL mS ha hb hs) λσ H Q ⟨er,q⟩=>(er,λx H1 s1 r1=>(gN er s1,λy H2 s2 r2=>by
  let(p,vs,rfl,hq,rp):=(r1.rd.mono s2).lst ea;obtain rfl:=iq.cX r2;let(j,h1,h2,h3,h4,h5):=uQ h;let(z,hz,rz):=rp.get h2;show(p,vs,i,z,@r,@r,gF.of hq,?_,q z H2 @H rz);unfold vy at h ⊢;rw[rp.length];cases q:K7 ↑xs i with
  |none=>rw[q]at h;cases h
  |some k=>
   have hk:=(uP q).1;rw[h1]at hk;cases hk
   show hz))
def uT:VO X ρ ι ι:=PO.weak EU (by rintro σ H Q ⟨_,q⟩;show q H @F)
def uU(h:VE X ρ e (.d @T)):VO X ρ (θ e) (θ i):=PO.weak (xb h) (by rintro σ H Q ⟨er,q⟩;show (er,λv H1 s1 r1=>(i,iq.cX r1,q H1 s1)))
abbrev cutD(xs:?L ak)(lo hi:?O ?I):?L ak:=(xs.drop<|_H.lN ↑xs 0 lo).take (_H.lN ↑xs ↑xs hi - _H.lN ↑xs 0 lo)
def PJ(h:bp K H xs vs)(lo hi:?O ?I):bp K H (cutD xs lo hi) (sZ vs lo hi):=by
 unfold cutD sZ;rw[h.length];show(h.drop _).take _
variable{p2:Pos}
def Bi{lo hi:?O bR}{i j:?O ?I}(ha:VE X ρ a (.d<|.tuple xs))(hl:VO X ρ lo i)(hh:VO X ρ hi j)(h:¬(_H.lN ↑xs 0 i=0/\_H.lN ↑xs ↑xs j=↑xs)):
  VE X ρ (.Subscript a (.Slice lo hi ι p2) pos) (.d<|.tuple<|cutD xs i j):=
 PE.weak (xc Jw ha hl hh) λσ H Q ⟨er,q⟩=>(er,λx H1 s1 r1=>(gN er s1,λH2 s2=>(gN er @H,λH3 s3=>by
  let(p,vs,rfl,hq,rp):=gT.tup (r1.rd.mono<|s2.trans s3);show(p,vs,@r,hq,by rw[rp.length];show h,λc hc=>q _ _ ((s1.trans<|s2.trans s3).trans (bt hc _)) (iq.mk (eI.of aA) ?_))
  show PJ (bp.mono (bC.of_same<|bt hc _) _ _ rp) i j)))
abbrev Sl.dat:Sl->?O ak
 |.d x=>θ x
 |.l xs=>θ (.list xs)
 |.o xs=>θ (.list xs)
 |.un=>ι
 |.h _=>ι
def gT.Na(h:gT K H r v)(e:r.dat=θ d):MM K H d v:=by
 cases r with
 |un=>cases e
 |d x=>
  cases(e);have h':Rep K H d v:=h;cases d with
  |list xs=>rw[Rep]at h';let(a,o,vs,rfl,h1,h2):=h';show(a,vs,@r,.inl<|.inr (o,h1),h2)
  |_=>show h'
 |l xs=>cases e;let(a,rfl,vs,h1,h2):=h;show(a,vs,@r,gF.of h1,h2)
 |o xs=>cases e;let(a,rfl,vs,h1,h2):=h;show(a,vs,@r,gF.of h1,h2)
 |h P=>cases e
variable{n:?N}{d':ak}
def Xd(hu:X.A.units + n<cLine)(ha:VE X ρ a ra)(hb:VE X ρ b rb)(ea:ra.dat=θ d)(eb:rb.dat=θ d')(ca:d.canLay0=ξ)(cb:d'.canLay0=ξ)(hn:d.depth<=n\/d'.depth<=n):VE X ρ (.Compare a [.Eq] [b] pos) (.d<|.bool<|hZ d d'):=
 Fj (OT hu) ha hb (λH x y Q rx ry q=>(d,d',rx.Na ea,ry.Na eb,ca,cb,hn,q _ H @F iq.bool)) (dP _)
def Fk(hu:X.A.units + n<cLine)(ha:VE X ρ a ra)(hb:VE X ρ b rb)(ea:ra.dat=θ d)(eb:rb.dat=θ d')(ca:d.canLay0=ξ)(cb:d'.canLay0=ξ)(hn:d.depth<=n\/d'.depth<=n):VT X ρ (.Compare a [.Eq] [b] pos) (hZ d d'):=
 mF (OT hu) ha hb (λH x y Q rx ry q=>(d,d',rx.Na ea,ry.Na eb,ca,cb,hn,q)) (dP _)
def Xe(hu:X.A.units + n<cLine)(ha:VE X ρ a ra)(hb:VE X ρ b rb)(ea:ra.dat=θ d)(eb:rb.dat=θ d')(ca:d.canLay0=ξ)(cb:d'.canLay0=ξ)(hn:d.depth<=n\/d'.depth<=n):VT X ρ (.Compare a [.NotEq] [b] pos) (!hZ d d'):=
 mF (WV hu) ha hb (λH x y Q rx ry q=>(d,d',rx.Na ea,ry.Na eb,ca,cb,hn,q)) (dP _)
variable{y:χ}
def Fm(ha:VE X ρ a (.d @S))(hb:VE X ρ b (.d<|.str y)):VT X ρ (.Compare a [.Eq] [b] pos) (decide (x=y)):=
 mF oq ha hb (λH u w Q rx ry q=>by
  obtain rfl:=gT.eP rx;obtain rfl:=gT.eP ry;show(@r,?_)
  rw[show decide (V.str x=V.str y)=decide (x=y)from by simp];show q) (dP _)
def Xf(ha:VE X ρ a (.d @S))(hb:VE X ρ b (.d<|.str y)):VT X ρ (.Compare a [.NotEq] [b] pos) (!decide (x=y)):=
 mF Of ha hb (λH u w Q rx ry q=>by
  obtain rfl:=gT.eP rx;obtain rfl:=gT.eP ry;show(@r,?_)
  rw[show decide (V.str x=V.str y)=decide (x=y)from by simp];show q) (dP _)
variable{y:?I}
def vV{x:?I}(ha:VE X ρ a (.d<|.int x))(hb:VE X ρ b (.d<|.int y)):VT X ρ (.Compare a [.Eq] [b] pos) (decide (x=y)):=
 mF oq ha hb (λH u w Q rx ry q=>by
  obtain rfl:=gT.cX rx;obtain rfl:=gT.cX ry;show(@r,?_)
  rw[show decide (V.int x=V.int y)=decide (x=y)from by simp];show q) (dP _)
def rT{x:?I}(ha:VE X ρ a (.d<|.int x))(hb:VE X ρ b (.d<|.int y)):VT X ρ (.Compare a [.NotEq] [b] pos) (!decide (x=y)):=
 mF Of ha hb (λH u w Q rx ry q=>by
  obtain rfl:=gT.cX rx;obtain rfl:=gT.cX ry;show(@r,?_)
  rw[show decide (V.int x=V.int y)=decide (x=y)from by simp];show q) (dP _)
def Xg{x:?I}(ha:VE X ρ a (.d<|.int x))(hb:VE X ρ b (.d<|.int y)):VT X ρ (.Compare a [.Lt] [b] pos) (decide (x<y)):=
 mF GU ha hb (λH u w Q rx ry q=>(x,y,gT.cX rx,gT.cX ry,q)) (dP _)
def yr{x:?I}(ha:VE X ρ a (.d<|.int x))(hb:VE X ρ b (.d<|.int y)):VT X ρ (.Compare a [.Gt] [b] pos) (decide (y<x)):=
 mF Og ha hb (λH u w Q rx ry q=>(x,y,gT.cX rx,gT.cX ry,q)) (dP _)
abbrev Sl.Sj:Sl->?B
 |.d .none=>ξ
 |_=>υ
def vz{x:ak}:Sl.d x≠.un/\∀P,Sl.d x≠.h P:=(@ar,(by intro _ z;cases z))
def An(h:gT K H r v)(hu:r≠.un/\∀P,r≠.h P):decide (v=V.fB)=r.Sj:=by
 cases r with
 |un=>show ?A @r hu.1
 |h P=>show ?A @r (hu.2 P)
 |d x=>
  have h:Rep K H x v:=h;cases x with
  |none=>rw[Rep]at h;subst h;rfl
  |bool b=>rw[Rep]at h;subst h;rfl
  |int b=>rw[Rep]at h;subst h;rfl
  |str b=>rw[Rep]at h;subst h;rfl
  |tuple b=>rw[Rep]at h;let(a,vs,rfl,_):=h;rfl
  |list b=>rw[Rep]at h;let(a,o,vs,rfl,_):=h;rfl
  |dict b=>
   rw[Rep]at h;rcases h with⟨a,o,dx,vs,rfl,_⟩|h
   .rfl
   .have hn:v≠.fB:=by
     cases b with
     |nil=>rw[nQ]at h;show h.elim
     |cons p b=>rw[nQ]at h;show h.1.2
    show ?f hn
 |l xs=>let(a,rfl,_):=h;rfl
 |o xs=>let(a,rfl,_):=h;rfl
def vW(ha:VE X ρ a ra)(hu:ra≠.un/\∀P,ra≠.h P:=by first|show vz|show PK|show PM):VT X ρ (.Compare a [.Is] [.Constant .none j p2] pos) ra.Sj:=
 mF AM ha (Fi (j:=j) (pos:=p2)) (λH x y Q rx ry q=>(gT.lR ry,by rw[An rx hu];show q)) (dP _)
def lW(ha:VE X ρ a ra)(hu:ra≠.un/\∀P,ra≠.h P:=by first|show vz|show PK|show PM):VT X ρ (.Compare a [.IsNot] [.Constant .none j p2] pos) (!ra.Sj):=
 mF ES ha (Fi (j:=j) (pos:=p2)) (λH x y Q rx ry q=>(gT.lR ry,by rw[An rx hu];show q)) (dP _)
def fq(h:VT X ρ a k):VT X ρ (.UnaryOp .Not a pos) (!k):=PT.weak (rJ h) (by rintro σ H Q ⟨er,q⟩;show (er,λH1 s1=>q H1 s1))
variable{k':?B}
def bq(h:VT X ρ a k)(e:k=k'):VT X ρ a k':=by rw[<-e];show h
def iN(h:VW X ρ e k):VT X ρ e k:=PW.pt h
def kT(h:VT X ρ a k):VW X ρ (.BoolOp .And [a] pos) k:=KY h
def ir(h:VT X ρ a k):VW X ρ (.BoolOp .Or [a] pos) k:=We h
def kU(h:VT X ρ a ξ)(t:VW X ρ (.BoolOp .And (b::es) pos) k):VW X ρ (.BoolOp .And (a::b::es) pos) k:=
 PW.weak (Jh h t) (by rintro σ H Q ⟨er,q⟩;show (er,λH1 s1=>rO (gN er s1,λH2 s2=>q H2 @H)))
def rV(h:VT X ρ a υ):VW X ρ (.BoolOp .And (a::b::es) pos) υ:=
 PW.weak (Jh (Zw:=λ_ _ _=>?X) h λ_ _ _ _ _ _ _ z=>z.elim) (by rintro σ H Q ⟨er,q⟩;show (er,λH1 s1=>nP <| q H1 s1))
def JT(h:VT X ρ a ξ):VW X ρ (.BoolOp .Or (a::b::es) pos) ξ:=
 PW.weak (UG (Zw:=λ_ _ _=>?X) h λ_ _ _ _ _ _ _ z=>z.elim) (by rintro σ H Q ⟨er,q⟩;show (er,λH1 s1=>rO <| q H1 s1))
def fF(h:VT X ρ a υ)(t:VW X ρ (.BoolOp .Or (b::es) pos) k):VW X ρ (.BoolOp .Or (a::b::es) pos) k:=
 PW.weak (UG h t) (by rintro σ H Q ⟨er,q⟩;show (er,λH1 s1=>nP (gN er s1,λH2 s2=>q H2 @H)))
def ae5{j:?B}(h:VT X ρ a j)(t:j=υ->VW X ρ (.BoolOp .Or (b::es) pos) k):VW X ρ (.BoolOp .Or (a::b::es) pos) (j||k):=by
 cases j with
 |true=>show JT h
 |false=>show fF h (t @r)
def c7(h:VE X ρ e (.d<|.bool k))(he:∀whole,isTrue e X.env whole=(do let v <-whole;standAt e.pos;holding [v] (truthy v)):=by intro _;rfl):VT X ρ e k:=
 PT.weak (nK h he) (by rintro σ H Q ⟨er,q⟩;show (er,λv H1 s1 r1=>(k,iq.is_bool r1,q H1 s1)))
def JU(h:VE X ρ e r)(hr:r.cA=θ xs)(he:∀whole,isTrue e X.env whole=(do let v <-whole;standAt e.pos;holding [v] (truthy v)):=by intro _;rfl):VT X ρ e (!xs.isEmpty):=
 PT.weak (w6 h he) λσ H Q ⟨er,q⟩=>(er,λv H1 s1 r1=>by
  let(a,vs,rfl,h1,h2):=r1.rd.lst hr;show(_,.inl (vs,gF.of h1,@r),?_);have:vs.isEmpty=xs.isEmpty:=by
   have:=↑h2;cases vs<;>cases xs<;>simp_all
  rw[this]
  show q H1 s1)
def JV(h:VE X ρ a (.d<|.bool k)):VE X ρ (.UnaryOp .Not a pos) (.d<|.bool<|!k):=PE.weak (N4 h) (by rintro σ H Q ⟨er,q⟩;show (er,λv H1 s1 r1=>(k,iq.is_bool r1,q _ H1 s1 iq.bool)))
def yt{op:BoolOp}(h:VE X ρ a r):VE X ρ (.BoolOp op [a] pos) r:=N3 h
def mI{j:?B}(h:VE X ρ a (.d<|.bool j))(t:j=ξ->VE X ρ (.BoolOp .And (b::es) pos) (.d<|.bool k)):VE X ρ (.BoolOp .And (a::b::es) pos) (.d<|.bool<|j&&k):=by
 cases j with
 |true=>show PE.weak (Ji h<|t @r) (by rintro σ H Q ⟨er,q⟩;show (er,λv H1 s1 r1=>(ξ,iq.is_bool r1,rO (gN er s1,λu H2 s2 r2=>q u H2 @H r2))))
 |false=>show PE.weak (Ji (tb:=λ_ _ _=>?X) h λ_ _ _ _ _ _ z=>z.elim) (by rintro σ H Q ⟨er,q⟩;show (er,λv H1 s1 r1=>(υ,iq.is_bool r1,nP <| q _ H1 s1 iq.bool)))
end
abbrev jt(K:aa)(R:?L Sl->Sl->?P):Sp:=λvs H Q _=>∃as r,oF K H as vs/\R as r/\∀v H',bM H H'->iq K H H' r v->Q v H'
section
variable {X:Cx}{ρ:?L Sl}{e a b c:bR}{es:?L bR}{r ra rb:Sl}{p p2 pos:Pos}{d:ak}{ds:?L ak}{rs:?L Sl}
variable{x:χ}{ps:?L χ}{R:?L Sl->Sl->?P}
def cK{k:?N}(D:cS X.prog X.w X.K X.mg X.base k x ps (jt X.K R))(hr:gp k X.A)(ha:VA X ρ (e::es) rs)(h:R (rs.map Sl.arg) r)(hg:Gl X x:=by rfl)(ny:(x==("__debug__":χ))=υ:=by decide)(he:aq (e::es) X.env=@c::aq es X.env:=by rfl)(j4:(dh pos @I).any (·.1)=υ:=by rfl):VE X ρ @w r:=
 PE.weak (dq D hr hg ha ny he j4) (by rintro σ H Q ⟨er,q⟩;show (er,λvs H1 s1 r1=>by
  change jt X.K R (vs++[]) H1 Q E0;rw[bP]
  show(rs.map Sl.arg,r,r1.arg,h,λv H2 s2 r2=>q v H2 @H (r2.since s1))))
def PN{k:?N}(D:cS X.prog X.w X.K X.mg X.base k x ps (jt X.K R))(hr:gp k X.A)(h:R [] r)(hg:Gl X x:=by rfl)(ny:(x==("__debug__":χ))=υ:=by decide):VE X ρ (.Call (.Name x p) [] [] pos) r:=
 PE.weak (yo D hr hg ny) (by rintro σ H Q ⟨er,q⟩;show ([],r,.nil,h,λv H2 s2 r2=>q v H2 s2 r2))
abbrev Sl.tyN:Sl->?O ?S
 |.d .none=>θ "NoneType"
 |.d (.bool _)=>θ "bool"
 |.d (.int _)=>θ "int"
 |.d (.str _)=>θ "str"
 |.d (.tuple _)=>θ "tuple"
 |.l _=>θ "list"
 |.o _=>θ "list"
 |_=>ι
variable{v:V}{T:?S}
def gT.ty(h:gT K H r v)(e:r.tyN=θ T):S7 K H v (.type T):=by
 cases r with
 |un=>cases e
 |d x=>
  have h:Rep K H x v:=h;cases x with
  |none=>rw[Rep]at h;subst h;cases e;show .of .fB
  |bool b=>rw[Rep]at h;subst h;cases e;show .of (.bl b)
  |int b=>rw[Rep]at h;subst h;cases e;show .of (.int b)
  |str b=>rw[Rep]at h;subst h;cases e;show .of (.str b)
  |tuple b=>rw[Rep]at h;let(a,vs,rfl,hq,_):=h;cases e;show .sqT hq
  |list b=>cases e
  |dict b=>cases e
 |l xs=>cases e;let(a,rfl,vs,h1,_):=h;show .sqL (gF.of h1)
 |o xs=>cases e;let(a,rfl,vs,h1,_):=h;show .sqL (gF.of h1)
 |h P=>cases e
variable{k:?B}
def eV{T2:?S}(hm:X.mg "isinstance"=ι)(WX:X.mg x=ι)(hv:bootBuiltins x=θ (.type T))(he:VE X ρ e ra)(ht:ra.tyN=θ T2)(hk:aS X.K (.type T2) (.type T)=θ k)(hg:Gl X "isinstance":=by rfl)(WW:Gl X x:=by rfl)(hn:x≠"__name__":=by decide)(hd:(x==("__debug__":χ))=υ:=by decide)(hs:aq [e,.Name x p2] X.env=@c::aq [.Name x p2] X.env:=by rfl):VE X ρ (.Call (.Name "isinstance" p) [e,.Name x p2] [] pos) (.d<|.bool k):=
 PE.weak (qV hg hm WW WX hv he hn hd hs) (by rintro σ H Q ⟨er,q⟩;show (er,λv H1 s1 r1=>(v,T,.type T2,k,@r,r1.rd.ty ht,hk,q _ H1 s1 iq.bool)))
variable{xs:?L ak}
def kW(hm:X.mg "len"=ι)(he:VE X ρ e (.d<|.tuple xs))(hg:Gl X "len":=by rfl)(hs:aq [e] X.env=[@c]:=by rfl):VE X ρ (.Call (.Name "len" p) [e] [] pos) (.d<|.int (↑xs:?N)):=
 PE.weak (eW gc hg hm gx (ax he bh hs) @d @d hs) (by rintro σ H Q ⟨er,q⟩;show (er,λv H1 s1 r1=>by
  let(a,vs,rfl,hq,rp):=iq.tup r1
  show(a,vs,@r,.inr hq,by rw[rp.length];show q _ H1 s1 iq.int)))
def uV(hm:X.mg "len"=ι)(he:VE X ρ e ra)(ea:ra.cA=θ xs)(hg:Gl X "len":=by rfl)(hs:aq [e] X.env=[@c]:=by rfl):VE X ρ (.Call (.Name "len" p) [e] [] pos) (.d<|.int (↑xs:?N)):=
 PE.weak (eW gc hg hm gx (ax he bh hs) @d @d hs) (by rintro σ H Q ⟨er,q⟩;show (er,λv H1 s1 r1=>by
  let(a,vs,rfl,hq,rp):=r1.rd.lst ea
  show(a,vs,@r,.inl<|gF.of hq,by rw[rp.length];show q _ H1 s1 iq.int)))
def Hn(hm:X.mg "list"=ι)(he:VE X ρ e ra)(ea:ra.cA=θ xs)(hg:Gl X "list":=by rfl)(hs:aq [e] X.env=[@c]:=by rfl):VE X ρ (.Call (.Name "list" p) [e] [] pos) (.o xs):=
 PE.weak (oO xh hg hm boot_list (ax he bh hs) @d @d hs) (by rintro σ H Q ⟨er,q⟩;show (er,λv H1 s1 r1=>by
  let(a,vs,rfl,hq,rp):=r1.rd.lst ea
  show(a,vs,@r,.inl<|gF.of hq,λl hl=>q _ _ (s1.trans<|bt hl _) (l,@r,s1.free hl,vs,aA,bp.mono (bC.of_same<|bt hl _) _ _ rp))))
def oZ(hm:X.mg "list"=ι)(he:VE X ρ e (.d<|.tuple xs))(hg:Gl X "list":=by rfl)(hs:aq [e] X.env=[@c]:=by rfl):VE X ρ (.Call (.Name "list" p) [e] [] pos) (.o xs):=
 PE.weak (oO xh hg hm boot_list (ax he bh hs) @d @d hs) (by rintro σ H Q ⟨er,q⟩;show (er,λv H1 s1 r1=>by
  let(a,vs,rfl,hq,rp):=iq.tup r1
  show(a,vs,@r,.inr hq,λl hl=>q _ _ (s1.trans<|bt hl _) (l,@r,s1.free hl,vs,aA,bp.mono (bC.of_same<|bt hl _) _ _ rp))))
def To(hm:X.mg "tuple"=ι)(he:VE X ρ e ra)(ea:ra.cA=θ xs)(hg:Gl X "tuple":=by rfl)(hs:aq [e] X.env=[@c]:=by rfl):VE X ρ (.Call (.Name "tuple" p) [e] [] pos) (.d<|.tuple xs):=
 PE.weak (oO De hg hm boot_tuple (ax he bh hs) @d @d hs) (by rintro σ H Q ⟨er,q⟩;show (er,λv H1 s1 r1=>by
  let(a,vs,rfl,hq,rp):=r1.rd.lst ea
  show(a,vs,@r,.inl (gF.of hq,λl hl=>q _ _ (s1.trans<|bt hl _) (iq.mk (eI.of aA)<|bp.mono (bC.of_same<|bt hl _) _ _ rp)))))
abbrev ae6:ak->?B
 |.none=>ξ
 |.bool _=>ξ
 |.int _=>ξ
 |.str _=>ξ
 |_=>υ
def bp.flat{K:aa}{H:Hp}:∀{ds:?L ak}{vs:?L V},bp K H ds vs->ds.all ae6=ξ->vs.all xg=ξ
 |[],vs,h,_=>by rw[bp]at h;subst h;rfl
 |x::ds,vs,h,f=>by
  let(v,w,rfl,h1,h2):=h.split;rw[EJ,aZ]at f ⊢;show(?_,bp.flat h2 f.2);cases x with
  |none=>rw[Rep]at h1;subst h1;rfl
  |bool b=>rw[Rep]at h1;subst h1;rfl
  |int b=>rw[Rep]at h1;subst h1;rfl
  |str b=>rw[Rep]at h1;subst h1;rfl
  |_=>show ?A f.1 @n
def bp.strs{K:aa}{H:Hp}:∀{xs:?L χ}{vs:?L V},bp K H (xs.map .str) vs->vs=xs.map .str
 |[],vs,h=>by rw[ke,bp]at h;show h
 |x::xs,vs,h=>by
  rw[bZ]at h;let(v,w,rfl,h1,h2):=h.split;rw[bZ,bp.strs h2,h1.eP]
def Tp(x:χ)(xs:?L χ):inV @S (xs.map .str)=decide (x∈xs):=by
 unfold inV;rw[List.any_map,oC,List.any_eq_true,decide_eq_true_iff];constructor
 .rintro⟨y,hy,e⟩;have e':(y==x)=ξ:=e;rw[<-eq_of_beq e'];show hy
 .intro h;show(x,h,show(x==x)=ξ from beq_self_eq_true x)
def Xh{xs:?L χ}(ha:VE X ρ a (.d @S))(hb:VE X ρ b (.d<|.tuple<|xs.map .str))(hm:behindInMarks .In b=υ):VT X ρ (.Compare a [.In] [b] pos) (decide (x∈xs)):=
 mF My ha hb (λH u w Q rx ry q=>by
  obtain rfl:=gT.eP rx;let(t,vs,rfl,hq,rp):=gT.tup ry;have e:=rp.strs;subst e;show(t,_,@r,.inr hq,@r,rp.flat (by rw[List.all_map];show List.all_eq_true.mpr λ_ _=>rfl),?_);change Q (.bl<|inV _ _) H;rw[Tp]
  show q) hm
end
inductive Out where
 |nx (ρ:?L Sl)|rt (r:Sl)|bk (ρ:?L Sl)|ct (ρ:?L Sl)
abbrev DE(K:aa)(H0:Hp)(hs:?L (V×Sl))(Q:Out->?P):Ends where
 nx:=λσ H=>∃ρ,Q (.nx ρ)/\ER K H0 hs ρ σ H
 bk:=λσ H=>∃ρ,Q (.bk ρ)/\ER K H0 hs ρ σ H
 ct:=λσ H=>∃ρ,Q (.ct ρ)/\ER K H0 hs ρ σ H
 rt:=λv H=>∃r,Q (.rt r)/\bM H0 H/\iq K H0 H r v
structure Ends.le(D D':Ends):?P where
 nx:∀σ H,D.nx σ H->D'.nx σ H
 rt:∀v H,D.rt v H->D'.rt v H
 bk:∀σ H,D.bk σ H->D'.bk σ H
 ct:∀σ H,D.ct σ H->D'.ct σ H
abbrev tRS(K:aa)(ρ:?L Sl)(Q:Out->?P):TS:=λD σ H=>∃H0 hs,ER K H0 hs ρ σ H/\(DE K H0 hs Q).le D
abbrev VS(X:Cx)(ss:?L cz)(ρ:?L Sl)(Q:Out->?P):?P:=vP X ss (tRS X.K ρ Q)
section
variable {X:Cx}{ρ:?L Sl}{e a b c:bR}{es:?L bR}{r ra rb:Sl}{pos p2 p3:Pos}{d:ak}{ds:?L ak}{rs:?L Sl}{Q Q':Out->?P}{rest:?L cz}{st:cz}
variable{ss:?L cz}
def vP.weak{t t':TS}(h:vP X ss t)(w:∀D σ H,t' D σ H->t D σ H):vP X ss t':=λπ s σ H D I q=>h π s σ H D I (w D σ H q)
def VS.mono(h:VS X ss ρ Q)(w:∀o,Q o->Q' o):VS X ss ρ Q':=
 vP.weak h (by rintro D σ H ⟨H0,hs,er,l⟩;show (H0,hs,er,(by rintro σ H ⟨ρ,q,e⟩;show l.nx _ _ (ρ,w _ q,e),by rintro v H ⟨r,q,e⟩;show l.rt _ _ (r,w _ q,e),by rintro σ H ⟨ρ,q,e⟩;show l.bk _ _ (ρ,w _ q,e),by rintro σ H ⟨ρ,q,e⟩;show l.ct _ _ (ρ,w _ q,e))))
abbrev Bj(X:Cx)(rest:?L cz)(Q:Out->?P):Out->?P
 |.nx ρ=>VS X rest ρ Q
 |o=>Q o
def dB(h:Q (.nx ρ)):VS X [] ρ Q:=vP.weak eF (by rintro D σ H ⟨H0,hs,er,l⟩;show l.nx σ H (ρ,h,er))
def qg{t:TS}(h:PS X st t)(w:∀H0 hs D σ H,ER X.K H0 hs ρ σ H->(DE X.K H0 hs<|Bj X rest Q).le D->t D σ H):VS X (st::rest) ρ Q:=by
 show vP.weak (aK (u:=λD σ H=>∃dI H0 hs,ER X.K H0 hs dI σ H/\(DE X.K H0 hs Q).le D/\VS X rest dI Q) h ?_) λD σ H ⟨H0,hs,er,l⟩=>w H0 hs _ σ H er (?_,λv H q=>l.rt v H q,λσ H q=>l.bk σ H q,λσ H q=>l.ct σ H q)
 .rintro π s σ H D I ⟨dI,H0,hs,er,l,v⟩;show v π s σ H D I (H0,hs,er,l)
 .rintro fo H' ⟨dI,q,e⟩;show(dI,H0,hs,e,l,q)
def cf(h:VE X ρ e r)(q:Q (.rt r)):VS X (.Return (θ e) pos::rest) ρ Q:=
 qg (dw h) λH0 hs D σ H er l=>((H0,hs,er),λv H' s rv=>l.rt v H' (r,q,er.same.trans s,rv.since er.same))
variable{A B:?L cz}{k:?B}
def vA(hc:VT X ρ c k)(ha:k=ξ->VS X A ρ (Bj X rest Q))(hb:k=υ->VS X B ρ (Bj X rest Q)):VS X (.If c A B pos::rest) ρ Q:=by
 cases k with
 |true=>show qg (fX (u:=lu) hc (ha @r) fi) λH0 hs D σ H er l=>((H0,hs,er),λH' s=>rO (H0,hs,er.grow s,l))
 |false=>show qg (fX (t:=lu) hc fi<|hb @r) λH0 hs D σ H er l=>((H0,hs,er),λH' s=>nP (H0,hs,er.grow s,l))
variable{i:?N}{x:χ}
def dJ(nd:X.N.Nodup)(hi:uf x X.N 0=θ i)(h:VE X ρ e (.d d))(k:VS X rest (ρ.set i<|.d d) Q)(hx:Loc X.env.scope x:=by show bB rfl)(hs:dS e (θ @j) pos.line X.env=pure υ:=by rfl)(hf:X.fn x=ξ\/X.env.scope.names.lookup x=θ .local:=by first|show .inl @r|show .inr @r|assumption):VS X (.Assign [.Name x p2] e pos::rest) ρ Q:=
 qg (cV nd (iQ hi) hx h hs hf) λH0 hs D σ H er l=>((H0,hs,er),λv H' s rv=>l.nx _ _ (_,k,(er.grow s).Bg rv))
variable{xs:?L ak}
def kX(nd:X.N.Nodup)(hi:uf x X.N 0=θ i)(h:VE X ρ e (.o xs))(k:VS X rest (ρ.set i<|.o xs) Q)(hx:Loc X.env.scope x:=by show bB rfl)(hs:dS e (θ @j) pos.line X.env=pure υ:=by rfl)(hf:X.fn x=ξ\/X.env.scope.names.lookup x=θ .local:=by first|show .inl @r|show .inr @r|assumption):VS X (.Assign [.Name x p2] e pos::rest) ρ Q:=
 qg (cV nd (iQ hi) hx h hs hf) λH0 hs D σ H er l=>((H0,hs,er),λv H' s rv=>by
  let(a,rfl,n,q):=rv
  show l.nx _ _ (_,k,er.ae4 s n q))
variable{apos cU:Pos}
def uW(hi:uf x X.N 0=θ i)(hr:ρ[i]?=θ (.o xs))(h:VE X ρ e (.d d))(hz:↑xs<au)(k:VS X rest (ρ.set i<|.o<|xs++[d]) Q)(hv:zN X.env.scope x:=by first|show bB @r|show cF @A|show cF (cF @r))(hd:(x==("__debug__":χ))=υ:=by decide)(pU:(x==("__classdict__":χ))=υ:=by decide)(jN:dF @j "append" X.env (eval @j X.env)=eval @j X.env:=by rfl)(yj:((dh cU<|aq [e] X.env).all (λx=>!x.1)&&(rD cU<|kR [] X.env).all (λx=>x.1.isSome)&&decide ([e].length + ([]:?L iX).length + @ao<30))=ξ:=by rfl)(jO:@M=ξ:=by rfl)(hs:aq [e] X.env=[@c]:=by rfl)(mB:(dh cU<|aq [] X.env).any (·.1)=υ:=by rfl)(A0:dS (.Call (.Attribute @j "append" apos) [e] [] cU) ι pos.line X.env=pure υ:=by rfl):VS X (.Expr (.Call (.Attribute @j "append" apos) [e] [] cU) pos::rest) ρ Q:=
 qg (gC (ou bc cq cu gX (jD (iQ hi) hv hd pU) (ax h bh hs) jN yj jO hs mB) A0) λH0 hs D σ H er l=>by
  let(a,h1,(vs,h2,h3),h4):=er.own i xs hr;show(_,h1,.inl (@r,vs,gF.of h2),(H0,hs,er),λv H' s rv=>?_);have e2:=er.grow s;have Pw:=s _ _ h2;have h3':=bp.mono (bC.of_same (K:=X.K) s) _ _ h3;show(a,vs,v,@r,@r,Pw,by rw[h3.length];show hz,l.nx _ _ (_,k,e2.write hr h1 Pw<|h3'.append<|.one rv))
variable{j:?N}{y:χ}
def Fn(nd:X.N.Nodup)(hi:uf x X.N 0=θ i)(hj:uf y X.N 0=θ j)(hr:ρ[i]?=θ (.o<|xs++[d]))(k:VS X rest ((ρ.set i<|.o xs).set j (.d d)) Q)(hv:zN X.env.scope x:=by first|show bB @r|show cF @A|show cF (cF @r))(hd:(x==("__debug__":χ))=υ:=by decide)(pU:(x==("__classdict__":χ))=υ:=by decide)(jN:dF @j "pop" X.env (eval @j X.env)=eval @j X.env:=by rfl)(jO:@M=ξ:=by rfl)(hx:Loc X.env.scope y:=by show bB rfl)(hs:dS (.Call (.Attribute @j "pop" apos) [] [] cU) (θ<|.Name y p3) pos.line X.env=pure υ:=by rfl)(hf:X.fn y=ξ\/X.env.scope.names.lookup y=θ .local:=by first|show .inl @r|show .inr @r|assumption):VS X (.Assign [.Name y p3] (.Call (.Attribute @j "pop" apos) [] [] cU) pos::rest) ρ Q:=
 qg (cV nd (iQ hj) hx (tS bc eR eU tU (jD (iQ hi) hv hd pU) jN jO) hs hf) λH0 hs D σ H er l=>by
  let(a,h1,(vs,h2,h3),h4):=er.own i _ hr;let(ws,v,rfl,h5,h6):=h3.snoc;show(_,h1,.inl (@r,_,gF.of h2),a,_,v,@r,@r,h2,by simp,?_);rw[fm];have e2:=er.write hr h1 h2 h5;show l.nx _ _ (_,k,e2.Bg<|Rep.mono ((SameBut.upd _).tup h2) _ _ h6)
variable{ys:?L ak}
def oP(hi:uf x X.N 0=θ i)(hr:ρ[i]?=θ (.o xs))(h:VE X ρ e ra)(ea:ra.cA=θ ys)(hz:↑xs + ↑ys<=au)(k:VS X rest (ρ.set i<|.o<|xs++ys) Q)(hv:zN X.env.scope x:=by first|show bB @r|show cF @A|show cF (cF @r))(hd:(x==("__debug__":χ))=υ:=by decide)(pU:(x==("__classdict__":χ))=υ:=by decide)(jN:dF @j "extend" X.env (eval @j X.env)=eval @j X.env:=by rfl)(yj:((dh cU<|aq [e] X.env).all (λx=>!x.1)&&(rD cU<|kR [] X.env).all (λx=>x.1.isSome)&&decide ([e].length + ([]:?L iX).length + @ao<30))=ξ:=by rfl)(jO:@M=ξ:=by rfl)(hs:aq [e] X.env=[@c]:=by rfl)(mB:(dh cU<|aq [] X.env).any (·.1)=υ:=by rfl)(A0:dS (.Call (.Attribute @j "extend" apos) [e] [] cU) ι pos.line X.env=pure υ:=by rfl):VS X (.Expr (.Call (.Attribute @j "extend" apos) [e] [] cU) pos::rest) ρ Q:=
 qg (gC (ou bc qc qe yk (jD (iQ hi) hv hd pU) (ax h bh hs) jN yj jO hs mB) A0) λH0 hs D σ H er l=>by
  let(a,h1,(vs,h2,h3),h4):=er.own i xs hr;show(_,h1,.inl (@r,vs,gF.of h2),(H0,hs,er),λv H' s rv=>?_);let(b,ws,rfl,g1,g2):=rv.rd.lst ea;have e2:=er.grow s;have Pw:=s _ _ h2;have h3':=bp.mono (bC.of_same (K:=X.K) s) _ _ h3;show(a,b,vs,ws,@r,@r,Pw,g1,by rw[h3.length,g2.length];show hz,l.nx _ _ (_,k,e2.write hr h1 Pw<|h3'.append g2))
def Lu(hr:ρ[i]?=θ (.o xs))(k:VS X ss (ρ.set i<|.l xs) Q):VS X ss ρ Q:=
 vP.weak k (by rintro D σ H ⟨H0,hs,er,l⟩;show (H0,hs,er.down hr,l))
abbrev Vc(X:Cx)(rest:?L cz)(Q:Out->?P)(J:?L Sl->?P):Out->?P
 |.nx ρ=>J ρ
 |.ct ρ=>J ρ
 |.bk ρ=>VS X rest ρ Q
 |.rt r=>Q (.rt r)
variable{body:?L cz}
def ui(hp:PassesOwn ⇑X X.A X.env X.xe)(W:?N->?L Sl->?P)(h0:∃m,W m ρ)(turn:∀m dI,W m dI->∃k,VT X dI c k/\(k=ξ->VS X body dI (Vc X rest Q λsW=>∃m',m'<m/\W m' sW))/\(k=υ->VS X rest dI Q)):VS X (.While c body [] pos::rest) ρ Q:=by
 have hc:PT X c (λσ H R=>∃m dI,W m dI/\∃k,VT X dI c k/\(∃H0 hs,ER X.K H0 hs dI σ H)/\∀H',bM H H'->R k H'):=by
  intro π s σ H R I hZ;ext;let(m,dI,w,k,v,er,q):=hZ;ext;show v π s σ H R I (er,q)
 have hb:vP X body (λD σ H=>∃dI Q',VS X body dI Q'/\tRS X.K dI Q' D σ H):=by
  rintro π s σ H D I ⟨dI,Q',v,q⟩;show v π s σ H D I q
 show qg (ng hp hc hb) λH0 hs D σ H er l=>?_;let(m0,w0):=h0;show(λm σ H=>∃dI,W m dI/\ER X.K H0 hs dI σ H,(m0,ρ,w0,er),?_);rintro m σ H ⟨dI,w,er⟩;let(k,v,yes,no):=turn m dI w;show(m,dI,w,k,v,(H0,hs,er),λH' s=>?_);cases k with
 |true=>
  rw[?p @r];show(λfo H'=>∃m',m'<m/\∃sW,W m' sW/\ER X.K H0 hs sW fo H',by rintro fo H' ⟨m',lt,sW,w2,e2⟩;show (m',lt,sW,w2,e2),dI,_,yes @r,H0,hs,er.grow s,?_);show(by rintro σ H ⟨sW,⟨m',lt,w2⟩,e⟩;show (m',lt,sW,w2,e),by rintro v H ⟨r,q,e⟩;show l.rt v H (r,q,e),by rintro σ H ⟨sW,q,e⟩;show l.nx σ H (sW,q,e),by rintro σ H ⟨sW,⟨m',lt,w2⟩,e⟩;show (m',lt,sW,w2,e))
 |false=>
  show nP ?_;show l.nx _ _ (dI,no @r,er.grow s)
end
structure Ho(K:aa)(J:It)(h:V×Sl)(xs:?L ak):?P where
 go:∀(i:?N) H,gT K H h.2 h.1->i<↑xs->J.go i H
 DH:∀(i:?N) H v H',gT K H h.2 h.1->i<↑xs->J.DH i H v H'->bM H H'/\∃d,xs[i]?=θ d/\Rep K H' d v
 stop:∀H,gT K H h.2 h.1->J.stop ↑xs H
abbrev VI(X:Cx)(ρ:?L Sl)(tg iter:bR)(xs:?L ak):?P:=∃wi,PI X tg iter wi/\∀H0 hs σ H R,ER X.K H0 hs ρ σ H->
 (∀J H1 h,bM H H1->gT X.K H1 h.2 h.1->(∀ys,h.2.cA=θ ys->∀(i:?N) zs a,ρ[i]?=θ (.o zs)->σ[i]?=θ (θ @x)->h.1≠.ref a)->Ho X.K J h xs->R J H1)->wi σ H R
abbrev VG(X:Cx)(tg:bR)(bind:ak->?L Sl->?O (?L Sl)):?P:=∃g,PG X tg g/\∀H0 hs ρ sW d v σ H Q,ER X.K H0 hs ρ σ H->Rep X.K H d v->bind d ρ=θ sW->(∀wO,ER X.K H0 hs sW wO H->Q wO H)->g v σ H Q
section
variable {X:Cx}{ρ:?L Sl}{e a b c tg iter:bR}{es:?L bR}{r ra rb:Sl}{p pos p2 p3:Pos}{d:ak}{ds xs:?L ak}{rs:?L Sl}{Q Q':Out->?P}{rest:?L cz}{st:cz}
def Ej{a:af}:Ho K (Wp K a) (.ref a,.l xs,) xs where
 go:=λi H ⟨b,e,vs,h1,h2⟩ hi=>by
  cases e;have hv:i<↑vs:=by rw[h2.length];show hi
  show(vs,vs[i],gF.of h1,ag hv)
 DH:=λi H v H' ⟨b,e,vs,h1,h2⟩ hi ⟨e2,y⟩=>by
  cases e;subst e2;let(u,hu,ru):=h2.get (ag hi);have:=y vs (gF.of h1);rw[hu]at this;cases this;show(bM.refl _,_,ag hi,ru)
 stop:=by rintro H ⟨b,e,vs,h1,h2⟩;cases e;show(vs,gF.of h1,by rw[h2.length];show aj _)
def PQ{a:af}:Ho K (Zz K a) (.ref a,.d<|.tuple xs,) xs where
 go:=λi H h hi=>by
  let(b,vs,e,h1,h2):=Rep.gf h;cases e;have hv:i<↑vs:=by rw[h2.length];show hi
  show(vs,vs[i],h1,ag hv)
 DH:=λi H v H' h hi ⟨e2,y⟩=>by
  let(b,vs,e,h1,h2):=Rep.gf h;cases e;subst e2;let(u,hu,ru):=h2.get (ag hi);have:=y vs h1;rw[hu]at this;cases this;show(bM.refl _,_,ag hi,ru)
 stop:=λH h=>by
  let(b,vs,e,h1,h2):=Rep.gf h;cases e;show(vs,h1,by rw[h2.length];show aj _)
abbrev Dj(lo:?I)(n:?N):?L ak:=(lJ n).map λi=>.int (lo + (i:?N))
variable{lo:?I}{n:?N}
def PR:Ho K (UH lo n) (.fB,.un,) (Dj lo n) where
 go:=λi H _ hi=>by
  have hn:i<n:=by simpa[Dj]using hi
  show hn
 DH:=by
  rintro i H v H' _ hi ⟨e1,e2⟩;subst e1 e2;have hn:i<n:=by simpa[Dj]using hi
  show(bM.refl _,_,by simp[Dj,hn],Rep.int _)
 stop:=λH _=>by change n<=(Dj lo n).length;simp[Dj]
abbrev zy:?N->?L ak->?L ak
 |_,[]=>[]
 |k,x::r=>.tuple [.int (k:?N),x]::zy (k+1) r
def oQ:∀(k:?N)(l:?L ak),(zy k l).length=↑l
 |_,[]=>rfl
 |k,x::r=>by rw[zy,aF,aF,oQ]
def yv:∀(k:?N)(l:?L ak)(i:?N)(x:ak),l[i]?=θ x->(zy k l)[i]?=θ (.tuple [.int ((k + i:?N):?I),x])
 |k,[],i,x,h=>by simp at h
 |k,y::r,0,x,h=>by simp at h;subst h;simp[zy]
 |k,y::r,i+1,x,h=>by
  rw[zy,fk,yv (k+1) r i x (by simpa using h)];congr 5;omega
def JW{a:af}:Ho K (JE λH ys=>gF K H a ys) (.ref a,.l xs,) (zy 0 xs) where
 go:=by rintro i H ⟨b,e,vs,h1,h2⟩ hi;cases e;show(vs,gF.of h1,by rw[h2.length,<-oQ 0];show hi)
 DH:=λi H v H' ⟨b,e,vs,h1,h2⟩ hi ⟨p,x,e1,e2,e3,y⟩=>by
  cases e;subst e1 e3;have Gu:i<↑xs:=by rw[<-oQ 0];show hi
  let(u,hu,ru):=h2.get (ag Gu);have:=y vs (gF.of h1);rw[hu]at this;cases(this);have s:=bt e2 (.tup [.int i,x]);show(s,_,yv 0 xs i _<|ag Gu,?_);rw[g9];show .tuple (eI.of aA) (.cons (.int _)<|.one<|Rep.mono (bC.of_same s) _ _ ru)
 stop:=by rintro H ⟨b,e,vs,h1,h2⟩;cases e;show(vs,gF.of h1,by rw[h2.length,oQ])
variable{H0:Hp}{hs:?L (V×Sl)}{σ:St}
def Lv{a:af}(er:ER K H0 hs ρ σ H)(n:H a=ι):∀(i:?N) zs b,ρ[i]?=θ (.o zs)->σ[i]?=θ (θ<|.ref b)->V.ref a≠.ref b:=by
 intro i zs b q1 q2 z;cases z;let(c,h1,(vs,h2,_),_):=er.own i zs q1;rw[q2]at h1;cases h1;rw[n]at h2;cases h2
def ao2(h:VE X ρ iter (.o xs)):VI X ρ tg iter xs:=
 (_,Ab h,λH0 hs σ H R er k=>((H0,hs,er),by
  rintro v H1 s1 ⟨a,e,n,q⟩;subst e;let(vs,q1,q2):=q
  show(a,@r,(vs,gF.of q1),k _ H1 (.ref a,.l xs,) s1 (a,@r,vs,q1,q2) (λ_ _=>Lv er n) Ej)))
def JX(h:VE X ρ iter (.d<|.tuple xs)):VI X ρ tg iter xs:=
 (_,N7 h,λH0 hs σ H R er k=>((H0,hs,er),λv H1 s1 q=>by
  let(a,vs,rfl,q1,q2):=iq.tup q
  show(a,@r,(vs,q1),k _ H1 (.ref a,.d<|.tuple xs,) s1 (.tuple q1 q2) @m PQ)))
variable{i:?N}{x:χ}
def Lw(hi:uf x X.N 0=θ i)(hr:ρ[i]?=θ (.l xs))(hv:zN X.env.scope x:=by first|show bB @r|show cF @A|show cF (cF @r))(hd:(x==("__debug__":χ))=υ:=by decide)(pU:(x==("__classdict__":χ))=υ:=by decide):VI X ρ tg (.Name x p) xs:=
 (_,Ab<|jD (iQ hi) hv hd pU,λH0 hs σ H R er k=>by
  let(a,h1,vs,h2,h3):=er.lst i xs hr
  show(_,h1,a,@r,(vs,gF.of h2),k _ H (.ref a,.l xs,) @F (a,@r,vs,h2,h3) (λ_ _ j zs b q1 q2 z=>er.vh j i b zs xs q1 hr q2 (by rw[<-z];show h1)) Ej))
def PU(hm:X.mg "range"=ι)(h:VE X ρ e (.d<|.int n))(hz:n<2 ^ 62)(hg:Gl X "range":=by rfl)(hs:aq [e] X.env=[@c]:=by rfl):VI X ρ tg (.Call (.Name "range" p) [e] [] pos) (Dj 0 n):=
 (_,uO hg hm (ax h bh hs) hs,λH0 hs σ H R er k=>((H0,hs,er),λv H1 s1 q=>by
  obtain rfl:=iq.cX q;show(n,@r,by omega,by omega,?_);rw[gI]
  show k _ H1 (.fB,.un,) s1 trivial @m PR))
variable{elts:?L bR}
def PV{kk:?N}(hm:X.mg "enumerate"=ι)(h:VE X ρ e (.o xs))(hg:Gl X "enumerate":=by rfl)(hs:aq [e] X.env=[@c]:=by rfl):VI X ρ (.Tuple elts kk p2) (.Call (.Name "enumerate" p) [e] [] pos) (zy 0 xs):=
 (_,OY hg hm (ax h bh hs) hs,λH0 hs σ H R er k=>((H0,hs,er),by
  rintro v H1 s1 ⟨a,e,n,q⟩;subst e;let(vs,q1,q2):=q
  show(a,vs,@r,gF.of q1,k _ H1 (.ref a,.l xs,) s1 (a,@r,vs,q1,q2) (λ_ _=>Lv er n) JW)))
def qh(nd:X.N.Nodup)(hi:uf x X.N 0=θ i)(hx:Loc X.env.scope x:=by show bB rfl)(hf:X.fn x=ξ\/X.env.scope.names.lookup x=θ .local:=by first|show .inl @r|show .inr @r|assumption):VG X (.Name x pos) (λd ρ=>θ (ρ.set i<|.d d)):=
 (_,j0 nd (iQ hi) hx hf,λH0 hs ρ sW d v σ H Q er rv hb k=>by cases hb;show k _ (er.Bg rv))
abbrev Vd(i j:?N):ak->?L Sl->?O (?L Sl)
 |.tuple [x,y],ρ=>θ ((ρ.set i<|.d x).set j (.d y))
 |_,_=>ι
variable{j k:?N}{y:χ}
def Fo(nd:X.N.Nodup)(hc:X.calm=ξ)(hi:uf x X.N 0=θ i)(hj:uf y X.N 0=θ j)(hx:Loc X.env.scope x:=by show bB rfl)(hy:Loc X.env.scope y:=by show bB rfl)(hf:X.fn x=ξ\/X.env.scope.names.lookup x=θ .local:=by first|show .inl @r|show .inr @r|assumption)(hf2:X.fn y=ξ\/X.env.scope.names.lookup y=θ .local:=by first|show .inl @r|show .inr @r|assumption):VG X (.Tuple [.Name x p2,.Name y p3] k pos) (Vd i j):=
 (_,EN hc<|m9 (j0 nd (iQ hi) hx hf)<|m9 (j0 nd (iQ hj) hy hf2) Aa,λH0 hs ρ sW d v σ H Q er rv hb k=>by
  have hd:∃x y,d = .tuple [x,y]/\sW=(ρ.set i<|.d x).set j (.d y):=by
   unfold Vd at hb;split at hb
   .show(_,_,@r,(bf hb).symm)
   .cases hb
  ext;let(dx,dy,rfl,rfl):=hd;let(a,vs,rfl,h1,h2):=Rep.gf rv;let(v1,r1,rfl,q1,h2):=h2.split;let(v2,r2,rfl,q2,h2):=h2.split;rw[bp]at h2;subst h2
  ext;show(a,_,@r,h1,@r,v1,_,@r,v2,_,@r,@r,k _<|(er.Bg q1).Bg q2))
variable{body:?L cz}
def o7{bind:ak->?L Sl->?O (?L Sl)}(hp:PassesOwn ⇑X X.A X.env X.xe)(hc:X.calm=ξ)(hi:VI X ρ tg iter xs)(hg:VG X tg bind)(J:?N->?L Sl->?P)(h0:J 0 ρ)(step:∀(i:?N) d dI,xs[i]?=θ d->J i dI->∃sW,bind d dI=θ sW/\VS X body sW (Vc X rest Q<|J @X))(fin:∀dI,J ↑xs dI->VS X rest dI Q)(hs:∀x,gU iter X.env x=pure x:=by intro _;rfl):VS X (.For tg iter body [] pos::rest) ρ Q:=by
 ext;let(wi,pi,hwi):=hi;let(g,pg,hgg):=hg;ext;have hb:vP X body (λD σ H=>∃dI Q',VS X body dI Q'/\tRS X.K dI Q' D σ H):=by
  rintro π s σ H D I ⟨dI,Q',v,q⟩;show v π s σ H D I q
 show qg (vQ hp hc pi pg hb hs) λH0 hs D σ H er l=>?_;show hwi H0 hs σ H _ er λIt H1 h s1 hh sep ok=>?_;show(λi m σ H=>m=↑xs - i/\i<=↑xs/\∃dI,J i dI/\ER X.K H0 (h::hs) dI σ H,(_,@r,cE _,ρ,h0,(er.grow s1).hold hh sep),?_);intro i m σ H hZ;ext;let(rfl,hi,dI,j,er):=hZ;ext;have hh:=er.held h aJ;by_cases nM:i<↑xs
 .ext;obtain⟨d,hd⟩:∃d,xs[i]?=θ d:=(_,ag nM);let(sW,Ve,hv):=step i d dI hd j;ext;show .inr (ok.go i H hh nM,λfo H'=>∃Sm,J @X Sm/\ER X.K H0 (h::hs) Sm fo H',by rintro fo H' ⟨Sm,j3,e3⟩;show (↑xs - @X,by omega,@r,nM,Sm,j3,e3),λv H' y=>?_);ext;let(sy,d',UB,rd):=ok.DH i H v H' hh nM y;rw[hd]at UB;cases UB;ext;show hgg H0 (h::hs) dI sW d v σ H' _ (er.grow sy) rd Ve λwO e2=>(sW,_,hv,H0,h::hs,e2,?_);show(by rintro σ H ⟨Sm,q,e⟩;show (Sm,q,e),by rintro v H ⟨r,q,e⟩;show l.rt v H (r,q,e),by rintro σ H ⟨Sm,q,e⟩;show l.nx σ H (Sm,q,e.PH),by rintro σ H ⟨Sm,q,e⟩;show (Sm,q,e))
 .have e:i=↑xs:=by omega
  subst e;show .inl (ok.stop H hh,l.nx _ _ (dI,fin dI j,er.PH))
def ER.args(e:ER K H0 hs ρ σ H):ER K H0 hs (ρ.map Sl.arg) σ H:=by
 have no:∀{i:?N}{xs:?L ak},(ρ.map Sl.arg)[i]?≠θ (.o xs):=by
  intro i xs h;rw[aE]at h;cases q:ρ[i]? with
  |none=>rw[q]at h;cases h
  |some s=>rw[q]at h;cases s<;>cases h
 show(e.same,by rw[aP,e.len],λi x h=>?_,λi x h=>?_,λi x h=>?_,λi x h=>?A h no,λi j a xs ys h=>?A h no,λi j a xs ys _ h=>?A h no,e.held,λi xs a h=>?A h no)
 .rw[aE]at h;cases q:ρ[i]? with
  |none=>rw[q]at h;cases h
  |some s=>
   rw[q]at h;cases s with
   |d y=>cases h;show e.dat i _ q
   |_=>cases h
 .rw[aE]at h;cases q:ρ[i]? with
  |none=>rw[q]at h;cases h
  |some s=>
   rw[q]at h;cases s with
   |l y=>cases h;show e.lst i _ q
   |o y=>cases h;let(a,h1,h2,_):=e.own i _ q;show(a,h1,h2)
   |_=>cases h
 .rw[aE]at h;cases q:ρ[i]? with
  |none=>rw[q]at h;cases h
  |some s=>
   rw[q]at h;cases s with
   |h y=>cases h;show e.M9 i _ q
   |_=>cases h
variable{v:V}
def ER.comp{x:ak}(e:ER K H0 hs (ρ.map Sl.arg) σ H)(rv:Rep K H x v):ER K H0 hs (.d x::ρ.map Sl.arg) (θ v::σ) H:=by
 have no:∀{i:?N}{xs:?L ak},(Sl.d x::ρ.map Sl.arg)[i]?≠θ (.o xs):=by
  intro i xs h;cases i with
  |zero=>cases h
  |succ i=>
   rw[fk,aE]at h;cases q:ρ[i]? with
   |none=>rw[q]at h;cases h
   |some s=>rw[q]at h;cases s<;>cases h
 show(e.same,by rw[aF,aF,e.len],λi y h=>?_,λi y h=>?_,λi y h=>?_,λi x h=>?A h no,λi j a xs ys h=>?A h no,λi j a xs ys _ h=>?A h no,e.held,λi xs a h=>?A h no)
 .cases i with
  |zero=>cases h;show(v,@r,rv)
  |succ i=>show e.dat i y (by simpa using h)
 .cases i with
  |zero=>cases h
  |succ i=>show e.lst i y (by simpa using h)
 .cases i with
  |zero=>cases h
  |succ i=>show e.M9 i y (by simpa using h)
variable{px:Pos}{elt:bR}{scope:Scope}{ys:?L ak}
def Nb(hc:X.calm=ξ)(hi:VI X ρ (.Name x px) iter xs)(hl:↑ys=↑xs)(hz:↑xs<=au)(he:∀(i:?N) a y,xs[i]?=θ a->ys[i]?=θ y->∀cl C s0 H0 fp π,VE @af (.d a::ρ.map Sl.arg) elt<|.d y):
  ∃wi te,PI X (.Name x px) iter wi/\(∀cl C s0 H0 fp π,PE @af elt te)/\∀H0 hs σ H (R:V->Hp->?P),ER X.K H0 hs ρ σ H->(∀p H',bM H H'->H p=ι->xp X.K H' p ys->R (.ref p) H')->OR wi te σ H R:=by
 let(wi,pi,hwi):=hi;show(wi,λσ H Q=>∃(a y:ak)(H0:Hp) (hs:?L (V×Sl)),(∀cl C s0 H0 fp π,VE @af (.d a::ρ.map Sl.arg) elt<|.d y)/\ER X.K H0 hs (.d a::ρ.map Sl.arg) σ H/\∀v H',bM H H'->Rep X.K H' y v->Q v H',pi,λcl C s0 H0 fp π=>?_,λH0 hs σ H R er k=>?_)
 .intro vx s σ H Q I hZ;ext;let(a,y,Vf,hs,ve,er,q):=hZ;ext;show ve cl C s0 H0 fp π vx s σ H Q I ((Vf,hs,er),q)
 show hwi H0 hs σ H _ er λIt H1 h s1 hh sep ok=>?_;have er1:ER X.K H0 (h::hs) (ρ.map Sl.arg) σ H1:=(er.grow s1).args.hold hh λ_ _ i xs a q=>by
  exfalso;rw[aE]at q;cases q':ρ[i]? with
  |none=>rw[q']at q;cases q
  |some s=>rw[q']at q;cases s<;>cases q
 show(λi m zs H=>m=↑xs - i/\i<=↑xs/\bM H1 H/\↑zs=i/\ER X.K H0 (h::hs) (ρ.map Sl.arg) σ H/\bp X.K H (ys.take i) zs,(_,@r,cE _,bM.refl _,@r,er1,by rw[mi];show .nil),?_);intro i m zs H' hZ;ext;let(rfl,hi,sm,hzl,er',rp):=hZ;ext;have hh:=er'.held h aJ;by_cases nM:i<↑xs
 .have hy:i<↑ys:=by omega
  show .inr (ok.go i H' hh nM,by omega,λv H2 y us hu=>?_);let(sy,d,hd,rd):=ok.DH i H' v H2 hh nM y;show t7.ad0 (λz H3=>bM H2 H3/\Rep X.K H3 ys[i] z,λz H3 ⟨s3,r3⟩=>(↑xs - @X,by omega,@r,nM,sm.trans<|sy.trans s3,by simp[hzl],er'.grow<|sy.trans s3,?_),d,ys[i],H0,h::hs,he i d ys[i] hd<|ag hy,(er'.grow sy).comp rd,λz H3 s3 r3=>(s3,r3)) hu;rw[gH,ag hy];show(bp.mono (bC.of_same<|sy.trans s3) _ _ rp).append (.one r3)
 .have e:i=↑xs:=by omega
  subst e;show .inl (ok.stop H' hh,by omega,λp np=>?_);rw[jm @o]at rp;have s2:=bt np (.lst zs);show k p _ ((s1.trans sm).trans s2) ((s1.trans sm).free np) (zs,aA,bp.mono @Q _ _ rp)
def Tq(hc:X.calm=ξ)(S:yn X.N X.env.scope scope x)(hi:VI X ρ (.Name x px) iter xs)(hl:↑ys=↑xs)(hz:↑xs<=au)(he:∀(i:?N) a y,xs[i]?=θ a->ys[i]?=θ y->∀cl C s0 H0 fp π,VE @af (.d a::ρ.map Sl.arg) elt<|.d y)(hs:∀v,gU iter X.env v=pure v:=by intro _;rfl):VE X ρ (.ListComp elt [(.Name x px,iter,[],0)] scope pos) (.o ys):=by
 let(wi,te,h1,h2,h3):=Nb hc hi hl hz he;show PE.weak (S6 hc S h1 h2 hs) (by rintro σ H Q ⟨⟨H0,hs,er⟩,q⟩;show h3 H0 hs σ H Q er λp H' s n l=>q _ H' s (p,@r,n,l))
end
variable{N:?L χ}
def xu{as:?L Sl}(h:oF K H as vs)(no:∀r∈as,∀xs,r≠.o xs):ER K H [] (as++dm (N.length - ↑as) .un) (start N vs) H:=by
 have hl:=↑h;have no':∀{i:?N}{xs:?L ak},(as++dm (N.length - ↑as) Sl.un)[i]?≠θ (.o xs):=by
  intro i xs q;rcases aW.mp (aD q)with m|m
  .show no _ m xs @r
  .cases(lL.mp m).2
 have at':∀{i:?N}{r:Sl},(as++dm (N.length - ↑as) Sl.un)[i]?=θ r->r≠.un->∃v,(start N vs)[i]?=θ (θ v)/\gT K H r v:=by
  intro i r q nu;by_cases hi:i<↑as
  .rw[bF hi]at q;let(v,h1,h2):=h.get q;show(v,?_,h2);unfold start;rw[bF (by rw[aP,hl];show hi),aE,h1];rfl
  .rw[bT @o]at q;show ?A (lL.mp<|aD q).2 nu
 show(bM.refl H,by unfold start;simp[hl],λi x q=>at' q @n,λi xs q=>?_,λi P q=>at' q @n,λi xs q=>?A q no',λi j a xs ys q=>?A q no',λi j a xs ys _ q=>?A q no',λp hp=>(nomatch hp),λi xs a q=>?A q no');let(v,h1,a,rfl,h2):=at' q @n;show(a,h1,h2)
section
variable {P:bu}{w:bU}{K:aa}{mg:χ->?O ai}{base:cD}
variable{x qual:χ}{f:af}{fd:aV}{ps:?L χ}{k:?N}{R:?L Sl->Sl->?P}
def iP.zA{st:cz}(F:iP K x qual st f fd)(S:bO N ps (az st))(len:∀as r,R as r->↑as=↑ps/\∀q∈as,∀xs,q≠.o xs)(nA:∀(ez:ai)(A:cy)(outer:?L Env)(s:ao)(H:Hp)(E:XK)(as:?L Sl) (r:Sl),gp k (A.deeper<|envOfC qual (az st) ↥s f ez)->R as r->
   VS (qS kD P w K mg base N qual (az st) f ez A outer s H E).N5 (dE st) (as++dm (N.length - ↑as) .un) λo=>o = .rt r\/(r = .d .none/\∃ρ,o = .nx ρ)):c8 P w K mg base kD (k+1) f fd ps (jt K R):=by
 show F.ok S @qc @q
 .let(as,r,h1,h2,_):=h;rw[h1.length];show(len as r h2).1
 let(as,r,h1,h2,q):=h;show(_,nA ez A outer s H E as r hr h2,H,[],xu h1 (len as r h2).2,?_);show(λσ H' ⟨ρ,z,e⟩=>?_,λv H' ⟨r',z,e1,e2⟩=>?_,λσ H' ⟨ρ,z,e⟩=>?_,λσ H' ⟨ρ,z,e⟩=>?_)
 .rcases z with z|⟨rfl,_⟩
  .cases z
  .show q _ H' e.same iq.fB
 .rcases z with z|⟨_,_,z⟩
  .cases z;show q v H' e1 e2
  .cases z
 .rcases z with z|⟨_,_,z⟩<;>cases z
 .rcases z with z|⟨_,_,z⟩<;>cases z
end
end _L
namespace _W
open _L
inductive Lb where
 |num (i:?I)|truth (b:?B)|name (x:χ)|nil (k:Kd)|add|less|front|call|yp|case (k:Kd) (h t:χ)|fn (x:χ) (k:Kd)
abbrev Fp:Lb->χ×?L ak
 |.num i=>("num",[.int i],)
 |.truth b=>("truth",[.bool b],)
 |.name x=>("name",[.str x],)
 |.nil k=>("nil",[eM k],)
 |.add=>("add",[],)
 |.less=>("less",[],)
 |.front=>("front",[],)
 |.call=>("call",[],)
 |.yp=>("if",[],)
 |.case k h t=>("case",[eM k,.str h,.str t],)
 |.fn x k=>("fun",[.str x,eM k],)
abbrev ar:Lb->?N
 |.num _=>0
 |.truth _=>0
 |.name _=>0
 |.nil _=>0
 |.add=>2
 |.less=>2
 |.front=>2
 |.call=>2
 |.yp=>3
 |.case _ _ _=>3
 |.fn _ _=>1
abbrev Nc:Lb->?N
 |.nil k=>bG k
 |.case k _ _=>bG k
 |.fn _ k=>bG k
 |_=>0
noncomputable abbrev Tm:=cM Lb
mutual
noncomputable def ex:Tm->Ex
 |.node b o=>.node (Fp b) (IM o)
noncomputable def IM:?L Tm->?L Ex
 |[]=>[]
 |t::r=>ex t::IM r
end
def Fq(l:?L Tm):IM l=l.map ex:=by
 induction l with
 |nil=>rfl
 |cons t r ih=>rw[IM,ih];rfl
def PX(t:Tm):(ex t).ko=Fp t.ko:=by cases t;rw[ex];rfl
def Fs(t:Tm):(ex t).own=t.own.map ex:=by cases t with|node b o=>rw[ex,Fq];rfl
def Lx(t:Tm)(p:?L ?N):(ex t).oy p=(t.oy p).map ex:=by
 induction p generalizing t with
 |nil=>rw[gD,gD];rfl
 |cons k p ih=>
  rw[gq,gq,Fs,aE];cases t.own[k]? with
  |none=>rfl
  |some u=>show ih u
def Ao(t:Tm):(ex t).post=t.post.map λx=>(x.1,ex x.2,):=by
 induction t using cM.ind with
 |h b o ih=>
  have key:∀(r:?L Tm)(k:?N),(∀x∈r,x∈o)->eY k (IM r)=(eY k r).map λx=>(x.1,ex x.2,):=by
   intro r;induction r with
   |nil=>intro k _;rfl
   |cons y r Hd=>
    intro k hs;rw[IM,eY,eY,bK,Hd (k+1) (λx hx=>hs x (aM _ hx)),ih y<|hs y aJ,gW,gW];rfl
  rw[ex,cM.post,cM.post,bK,key o 0 λx hx=>hx];simp[ex]
def mX(t:Tm):(ex t).size=t.size:=by rw[<-dA,Ao,aP,dA]
inductive Vg:Tm->?P where
 |mk {b:Lb} {o:?L Tm} (h:↑o=ar b) (hk:Nc b<=5) (hs:∀t∈o,Vg t):Vg @R
def rW{k:Kd}(h:k∈nR):bG k<=5:=by
 have:∀k∈nR,bG k<=5:=by decide
 show this k h
noncomputable abbrev Sc:=?L (χ×Kd)
abbrev Kd.arg:Kd->?O Kd
 |.to k _=>θ k
 |_=>ι
abbrev cY:Lb->?L Kd->?L (?O Kd)
 |.add,_=>[θ .num,θ .num]
 |.less,_=>[θ .num,θ .num]
 |.yp,o=>[θ .truth,ι,o[1]?]
 |.front,o=>[ι,(o[0]?).map .list]
 |.case k _ _,o=>[θ (.list k),ι,o[1]?]
 |.call,o=>[ι,(o[0]?).bind Kd.arg]
 |_,o=>o.map λ_=>ι
abbrev aY:?N->?L (?O Kd)->?L Kd->?O (?N×Kd×Kd)
 |i,θ m::ds,k::ks=>if m=k then aY @X ds ks else θ (i,m,k,)
 |i,ι::ds,_::ks=>aY @X ds ks
 |_,_,_=>ι
noncomputable abbrev Br:=?L ?N×?O Kd×?O Kd
abbrev bE(b:Lb)(own:?L Kd):?O Br:=(aY 0 (cY b own) own).map λx=>([x.1],θ x.2.1,θ x.2.2,)
abbrev dj:Lb->?L Kd->Sc->?O Br
 |.name x,_,sc=>if(look sc x).isSome then ι else θ ([],ι,ι,)
 |.call,k::o,_=>if k.arg.isSome then bE .call (k::o)else θ ([0],ι,θ k,)
 |b,o,_=>bE b o
abbrev Kd.res:Kd->Kd
 |.to _ m=>m
 |k=>k
abbrev kN:Lb->?L Kd->Sc->Kd
 |.num _,_,_=>.num
 |.add,_,_=>.num
 |.truth _,_,_=>.truth
 |.less,_,_=>.truth
 |.name x,_,sc=>(look sc x).getD .num
 |.nil k,_,_=>.list k
 |.fn _ k,o,_=>.to k ((o[0]?).getD .num)
 |.call,o,_=>Kd.res ((o[0]?).getD .num)
 |_,o,_=>(o[1]?).getD .num
abbrev pX:Lb->?N->Sc->Sc
 |.fn x k,_,sc=>sc++[(x,k,)]
 |.case k h t,2,sc=>sc++[(h,k,)]++[(t,.list k,)]
 |_,_,sc=>sc
abbrev ia:Tm->?L ?N->Sc->Sc
 |_,[],sc=>sc
 |t,k::p,sc=>match t.own[k]? with
  |some u=>ia u p (pX t.ko k sc)
  |none=>sc
termination_by _ p=>↑p
def lX(t:Tm)(sc:Sc):ia t [] sc=sc:=by unfold ia;rfl
variable{t u:Tm}{k:?N}{p:?L ?N}{sc:Sc}
def oR(h:t.own[k]?=θ u):ia t (k::p) sc=ia u p (pX t.ko k sc):=by rw[ia,h]
def yw{e:Tm}:∀{p:?L ?N},e.oy p=θ t->t.own[k]?=θ u->ia e (p++[k]) sc=pX t.ko k @ac:=by
 intro p;induction p generalizing e sc with
 |nil=>
  intro h1 h2;rw[gD]at h1;cases h1;rw[fN,oR h2,lX,lX]
 |cons j p ih=>
  intro h1 h2;rw[gq]at h1;cases q:e.own[j]? with
  |none=>rw[q]at h1;cases h1
  |some x=>
   rw[q]at h1;rw[df,oR q,oR q];show ih h1 h2
abbrev qy(acc:?L (?L ?N×Kd))(p:?L ?N)(n:?N):?L Kd:=(lJ n).filterMap λi=>(acc.find? λx=>decide (x.1=p++[i])).map (·.2)
abbrev Gv(e:Tm)(sc:Sc):?L (?L ?N×Kd)->?L (?L ?N×Tm)->?L (?L ?N×Kd)×?O Br
 |acc,[]=>(acc,ι,)
 |acc,(p,t)::r=>
  match dj t.ko (qy acc p t.own.length) (ia e p sc)with
  |some b=>(acc,θ (p++b.1,b.2,),)
  |none=>Gv e sc (acc++[(p,kN t.ko (qy acc p t.own.length) @ac,)]) r
abbrev ku(e:Tm)(sc:Sc):?L (?L ?N×Kd)×?O Br:=Gv e sc [] e.post
end _W
namespace _L
open PyProof.Rows
section
variable {X:Cx}{ρ:?L Sl}{e a b c:bR}{es:?L bR}{r ra rb:Sl}{pos p2 p3:Pos}{d:ak}{Q:Out->?P}{rest:?L cz}
variable{A B:?L cz}
def eN{k:?B}(hc:VT X ρ c k)(hk:k=ξ)(h:VS X A ρ (Bj X rest Q)):VS X (.If c A B pos::rest) ρ Q:=vA hc (λ_=>h) λz=>by rw[hk]at z;cases z
def PY{k:?B}(hc:VT X ρ c k)(hk:k=υ)(h:VS X B ρ (Bj X rest Q)):VS X (.If c A B pos::rest) ρ Q:=vA hc (λz=>by rw[hk]at z;cases z) λ_=>h
def bx{k:?B}(hc:VT X ρ c k)(hk:k=υ)(h:VS X rest ρ Q):VS X (.If c A [] pos::rest) ρ Q:=PY hc hk (dB h)
variable{x y:χ}
def eO{z:χ}(ha:VE X ρ a (.d @S))(hb:VE X ρ b (.d<|.tuple [.str y,.str z]))(hm:behindInMarks .In b=υ):VT X ρ (.Compare a [.In] [b] pos) (decide (x∈[y,z])):=Xh (xs:=[y,z]) ha hb hm
end
end _L
namespace _W
open _L PyProof.Rows
variable{K:aa}{H H':Hp}{a:af}{sc:Sc}
def zx.ext(e:Ext H H')(h:zx K H a sc):zx K H' a sc:=by
 let(bw,h1,l,n,q):=h.ex;show(bw,e _ _ h1 @m,l,n,λx k z=>(by let(v,g1,g2):=q x k z;show (v,g1,Rep.mono (bC.qw e) _ _ g2)))
abbrev zB(K:aa)(sc:Sc):Per:=(λH v=>∃a,v = .ref a/\zx K H a sc,λ_ _ _ e ⟨a,h1,h2⟩=>(a,h1,h2.ext e))
section
variable {X:Cx}{ρ:?L Sl}{a b:bR}{pos p2:Pos}{sc:Sc}{x:χ}{k:Kd}
def PZ(hu:X.A.units+1<cLine)(ho:VE X ρ a (.h<|zB X.K sc))(hi:VE X ρ b (.d @S))(h:look sc x=θ k)(hs:WG b:=by showλ_ _=>rfl):VE X ρ (.Subscript a b pos) (.d<|eM k):=
 PE.weak (xi hu ho hi hs) λσ H Q ⟨er,q⟩=>(er,λv H1 s1 r1=>(gN er s1,λu H2 s2 r2=>by
  let(p,rfl,hp):=r1;let(bw,h1,_,_,g):=(hp.mono s2).ex;let(w,g1,g2):=g x k h;obtain rfl:=iq.eP r2;show(p,w,@r,?_,q w H2 @H g2);rw[<-g1]
  show tf.k (k:=.inr x) h1))
def P0(hu:X.A.units+1<cLine)(hi:VE X ρ b (.d @S))(ho:VE X ρ a (.h<|zB X.K sc))(hm:behindInMarks .NotIn a=υ):VT X ρ (.Compare b [.NotIn] [a] pos) (!(look sc x).isSome):=
 PT.weak (Jg (MD hu hi ho) hm) λσ H Q ⟨er,q⟩=>(er,λv H1 s1 r1=>(gN er s1,λu H2 s2 r2=>by
  let(p,rfl,hp):=r2;let(bw,h1,_,n,g):=hp.ex;obtain rfl:=iq.eP r1;show(p,_,@r,tf.k (k:=.inr x) h1,_,@r,?_);have:(ja bw<|.inr x).isSome=(look sc x).isSome:=by
   cases h:look sc x with
   |none=>rw[n x h];rfl
   |some k=>let(w,g1,_):=g x k h;rw[g1];rfl
  rw[this]
  show q H2 @H))
end
structure Bk(K:aa)(mg:χ->?O ai):?P where
 num:∃a,mg "NUM"=θ @x/\∀H,Rep K H (eM .num) @x
 truth:∃a,mg "TRUTH"=θ @x/\∀H,Rep K H (eM .truth) @x
variable{X:Cx}{ρ:?L Sl}{pos:Pos}
def yx(c:Bk X.K X.mg)(hg:Gl X "NUM":=by rfl):VE X ρ (.Name "NUM" pos) (.d<|eM .num):=by let(a,h1,h2):=c.num;show Al (v:=.ref a) hg h1 @r h2
def Bl(c:Bk X.K X.mg)(hg:Gl X "TRUTH":=by rfl):VE X ρ (.Name "TRUTH" pos) (.d<|eM .truth):=by let(a,h1,h2):=c.truth;show Al (v:=.ref a) hg h1 @r h2
abbrev rX:?O Kd->ak
 |none=>.none
 |some k=>eM k
abbrev Vh:?O Br->ak
 |none=>.none
 |some b=>.tuple [JH b.1,rX b.2.1,rX b.2.2]
abbrev Vi:?L Sl->Sl->?P:=λas r=>∃k m,as=[.d (eM k),.d (eM m)]/\bG k + bG m<=100000/\r = .d (.bool<|decide (k=m))
variable{vs:?L V}{Q:VK}
def Xi{E:XK}(h:jt K Vi vs H Q E):Be K vs H Q E:=by
 let(as,r,h1,(k,m,rfl,hz,rfl),q):=h;cases h1 with
 |cons a1 t=>
  cases t with
  |cons a2 t=>
   cases t;show(_,_,k,m,@r,a1,a2,hz,λH' s=>q _ H' s iq.bool)
abbrev ae7:?L Sl->Sl->?P:=λas r=>∃(b:Lb)(o:?L Tm)(ks:?L Kd),as=[.d (py<|ex @R),.l (ks.map eM)]/\↑ks=ar b/\(b = .call->∃k m r,ks = .to k m::r)/\r = .o ((cY b ks).map rX)
abbrev Vj(K:aa):?L Sl->Sl->?P:=λas r=>∃(b:Lb)(o:?L Tm)(ks:?L Kd)(sc:Sc),as=[.d (py<|ex @R),.l<|ks.map eM,.h (zB K sc)]/\↑ks=ar b/\dj b ks sc=ι/\r = .d (eM<|kN b ks sc)
abbrev Ly(K:aa):?L Sl->Sl->?P:=λas r=>∃(b:Lb)(o:?L Tm)(ks:?L Kd)(sc:Sc),as=[.d (py<|ex @R),.l<|ks.map eM,.h (zB K sc)]/\↑ks=ar b/\(∀k∈ks,bG k<=10000)/\Nc b<=10000/\r = .d (Vh<|dj b ks sc)
abbrev kP(p:?L ?N):?L Key:=p.map λ(k:?N)=>vG (k:?I)
def ae8(p:?L ?N):(kP p).map kV=p.map λ(k:?N)=>V.int (k:?I):=by unfold kP;rw[gW];rfl
abbrev Xj(K:aa)(H:Hp)(x:?L ?N×Ex)(v:V):?P:=∃a u w,v = .ref a/\eI K H a [.ref u,w]/\H u=θ (.tup<|(kP x.1).map kV)/\Rep K H (py x.2) w
abbrev j5(K:aa)(H:Hp)(xs:?L (?L ?N×Ex))(vs:?L V):?P:=↑vs=↑xs/\∀(i:?N) x v,xs[i]?=θ x->vs[i]?=θ v->Xj K H x v
section
variable {K:aa}{H H':Hp}{xs ys:?L (?L ?N×Ex)}{vs ws:?L V}{x:?L ?N×Ex}{v:V}
def Xj.ext(e:Ext H H')(h:Xj K H x v):Xj K H' x v:=by
 let(a,u,w,h1,h2,h3,h4):=h;show(a,u,w,h1,bC.qw e _ _ h2,e _ _ h3 @m,Rep.mono (bC.qw e) _ _ h4)
def j5.ext(e:Ext H H')(h:j5 K H xs vs):j5 K H' xs vs:=(h.1,λi x v h1 h2=>(h.2 i x v h1 h2).ext e)
def j5.nil:j5 K H [] []:=(@r,λi x v h=>by simp at h)
def j5.append(h:j5 K H xs vs)(g:j5 K H ys ws):j5 K H (xs++ys) (vs++ws):=by
 show(by rw[aH,aH,h.1,g.1],λi x v h1 h2=>?_);by_cases hi:i<↑xs
 .rw[bF hi]at h1;rw[bF (by rw[h.1];show hi)]at h2;show h.2 i x v h1 h2
 .rw[bT @o]at h1;rw[bT (by rw[h.1];omega),h.1]at h2;show g.2 _ x v h1 h2
def j5.one(h:Xj K H x v):j5 K H [x] [v]:=(@r,λi y w h1 h2=>by
 cases i with
 |zero=>simp at h1 h2;rw[<-h1,<-h2];show h
 |succ i=>simp at h1)
def j5.reverse(h:j5 K H xs vs):j5 K H xs.reverse vs.reverse:=by
 show(by rw[cP,cP,h.1],λi x v h1 h2=>?_);have hi:i<↑xs:=by have:=(ay.mp h1).1;simpa using this
 rw[dG hi]at h1;rw[dG (by rw[h.1];show hi),h.1]at h2;show h.2 _ x v h1 h2
def j5.snoc(h:j5 K H (xs++[x]) vs):∃ws v,vs=ws++[v]/\j5 K H xs ws/\Xj K H x v:=by
 have hl:=h.1;rw[aH]at hl;rcases gS vs with e|⟨ws,v,rfl⟩
 .subst e;simp at hl
 .have hw:↑ws=↑xs:=by simpa using hl
  show(ws,v,@r,(hw,λi y u h1 h2=>?_),?_)
  .have hi:i<↑xs:=(ay.mp h1).1;show h.2 i y u (by rw[bF hi];show h1) (by rw[bF @o];show h2)
  .show h.2 ↑xs x v @s (by rw[<-hw];simp)
variable{i:?N}
def j5.get(h:j5 K H xs vs)(hi:vs[i]?=θ v):∃x,xs[i]?=θ x/\Xj K H x v:=by
 have hl:i<↑xs:=by rw[<-h.1];show(ay.mp hi).1
 show(_,ag hl,h.2 i _ v (ag hl) hi)
end
def Ft{b:af}{xs ys:?L V}(ha:eI K H a xs)(hb:H b=θ (.tup ys))(hy:ys≠[])(hz:↑xs + ↑ys<=au)(q:∀c H',bM H H'->H' c=θ (.tup<|xs++ys)->Q (.ref c) H'):E8 K @x (.ref b) H Q:=
 (a,b,xs,ys,@r,@r,ha,eI.of hb,hz,λe=>q b H @F (by rw[e];show hb),λ_ e=>?A e hy,λ_ _ p hp=>q p _ (bt hp _) aA)
abbrev Hq(K:aa):Sp:=λvs H Q _=>∃(v:V)(e:Ex),vs=[v]/\Rep K H (py e) v/\e.size<=1000000/\∀r H' ps,bM H H'->H r=ι->H' r=θ (.lst ps)->j5 K H' e.post ps->Q (.ref r) H'
variable{b:Lb}{ks:?L Kd}
def P4(h:↑ks=ar b):(cY b ks).length=↑ks:=by cases b<;>simp_all [cY,ar]
def Fu(k:Kd):(Sl.d<|eM k).Sj=υ:=by cases k<;>rfl
def fA(i:?N)(ds:?L (?O Kd))(ks:?L Kd)(h:∀d∈ds,d=ι):aY i ds ks=ι:=by
 induction ds generalizing i ks with
 |nil=>cases ks<;>rfl
 |cons d ds ih=>
  have:=h d aJ;subst this;cases ks with
  |nil=>rfl
  |cons k ks=>rw[aY];show ih _ _ λd hd=>h d (aM _ hd)
variable{x:χ}
def jT:dj (.name x) ks sc=if(look sc x).isSome then ι else θ ([],ι,ι,):=rfl
def yy(h1:∀x,b = .name x->(look sc x).isSome=ξ)(h2:b = .call->∃k m r,ks = .to k m::r):dj b ks sc=bE b ks:=by
 cases b with
 |name x=>
  rw[jT,?p (h1 x @r),bE,fA _ _ _ (by simp[cY])];rfl
 |call=>let(k,m,r,rfl):=h2 @r;rfl
 |_=>rfl
variable{m:Kd}
def JY(h:∀k∈ks,bG k<=10000)(hb:Nc b<=10000)(hm:θ m∈cY b ks):bG m<=10001:=by
 have at':∀{i:?N}{k:Kd},ks[i]?=θ k->bG k<=10000:=λe=>h _ (aD e);cases b with
 |yp=>
  simp[cY]at hm;rcases hm with rfl|hm
  .decide
  .have:=at' hm.symm;omega
 |case k x y=>
  simp[cY]at hm;rcases hm with rfl|hm
  .simp only[Nc]at hb;simp only[bG];omega
  .have:=at' hm.symm;omega
 |front=>
  simp[cY]at hm;cases q:ks[0]? with
  |none=>rw[q]at hm;cases hm
  |some k=>
   rw[q]at hm;cases hm;have:=at' q;simp only[bG];omega
 |call=>
  simp[cY]at hm;cases q:ks[0]? with
  |none=>rw[q]at hm;cases hm
  |some k=>
   rw[q]at hm;have:=at' q;cases k with
   |to a c=>cases hm;simp only[bG]at this;omega
   |_=>cases hm
 |add=>simp[cY]at hm;subst hm;decide
 |less=>simp[cY]at hm;subst hm;decide
 |_=>simp[cY]at hm
abbrev JZ(s:cz)(i:?N):Scope:=match(dE s)[i]? with
 |some (.Return (θ<|.ListComp _ _ sc _) _)=>sc
 |some (.Assign _ (.ListComp _ _ sc _) _)=>sc
 |_=>{kind:=.function,names:=[],isGenerator:=υ,isCoroutine:=υ}
def vi(h:↑ks=2):∃a b,ks=[a,b]:=by
 match ks,h with
 |[a,b],_=>show(a,b,@r)
def Dk(h:↑ks=3):∃a b c,ks=[a,b,c]:=by
 match ks,h with
 |[a,b,c],_=>show(a,b,c,@r)
def ae9(h:↑ks=1):∃a,ks=[a]:=by
 match ks,h with
 |[a],_=>show(a,@r)
variable {α:Type}
def uj{u:cM α}:∀{r:?L (cM α)} {j:?N} (k:?N),r[j]?=θ u->∃A C,eY k r=A++u.post.map (λx=>((k + j)::x.1,x.2,))++C
 |[],j,k,h=>by simp at h
 |t::r,0,k,h=>by
  simp at h;subst h;show([],eY (k+1) r,by rw[eY];rfl)
 |t::r,j+1,k,h=>by
  let(A,C,e):=uj (k+1) (r:=r) (j:=j) (by simpa using h);show(t.post.map (λx=>(k::x.1,x.2))++A,C,?_);rw[eY,e,show k+1 + j=k + (j+1)from by omega];simp
variable{e:cM α}
def Bm{t:cM α}:∀{p:?L ?N},e.oy p=θ t->∃A C,e.post=A++t.post.map @J++C:=by
 intro p;induction p generalizing e with
 |nil=>
  intro h;rw[gD]at h;cases h;show([],[],by simp)
 |cons k p ih=>
  intro h;rw[gq]at h;cases q:e.own[k]? with
  |none=>rw[q]at h;cases h
  |some u=>
   rw[q]at h;let(A,C,e1):=ih (e:=u) h;let(A2,C2,e2):=uj 0 q;show(A2++A.map (λx=>(k::x.1,x.2)),C.map (λx=>(k::x.1,x.2))++C2++[([],e,)],?_);rw[nC,e2,e1,g9];simp[gW,vN]
def Bn{x:?L ?N×cM α}:∀{r:?L (cM α)} {k:?N},x∈eY k r->∃j q,x.1=j::q/\k<=j
 |[],k,h=>by simp[eY]at h
 |t::r,k,h=>by
  rw[eY]at h;rcases aW.mp h with h|h
  .let(y,_,rfl):=cj.mp h;show(k,y.1,@r,aj _)
  .let(j,q,e,l):=Bn h;show(j,q,e,by omega)
variable{l:?L (?L ?N)}
def J1(k:?N)(h:l.Nodup):(l.map λp=>k::p).Nodup:=by
 induction l with
 |nil=>show u7
 |cons a r ih=>
  rw[e9]at h;rw[bZ,e9];show(λm=>?_,ih h.2);let(b,hb,e):=cj.mp m;cases e;show h.1 hb
def rY(t:cM α):t.places.Nodup:=by
 induction t using cM.ind with
 |h a o ih=>
  have key:∀(r:?L (cM α)) (k:?N),(∀x∈r,x∈o)->((eY k r).map yg).Nodup:=by
   intro r;induction r with
   |nil=>intro k _;show u7
   |cons y r Hd=>
    intro k hs;rw[eY,bK,gW];have e:(yg ∘ λ(x:?L ?N×cM α)=>(k::x.1,x.2))=(λp=>k::p) ∘ yg:=rfl;rw[e,<-gW];show mo.mpr (J1 k<|ih y<|hs y aJ,Hd (k+1) (λx hx=>hs x (aM _ hx)),?_);intro x hx z hz exz;let(q,_,rfl):=cj.mp hx;let(w,hw,rfl):=cj.mp hz;let(j,q',e',l):=Bn hw;rw[e']at exz;cases exz;omega
  rw[places_eq];show mo.mpr (key o 0 (λx hx=>hx),by simp,?_);intro x hx z hz exz;have:z=[]:=by simpa using hz
  subst this;let(w,hw,rfl):=cj.mp hx;show Pb o 0 w hw exz
variable{i j:?N}
def tM{β:Type}{l:?L β}(h:l.Nodup){x:β}(h1:l[i]?=θ x)(h2:l[j]?=θ x):i=j:=by
 induction l generalizing i j with
 |nil=>simp at h1
 |cons a r ih=>
  rw[e9]at h;cases i with
  |zero=>
   cases j with
   |zero=>rfl
   |succ j=>
    simp at h1 h2;subst h1;show ?A (aD h2) h.1
  |succ i=>
   cases j with
   |zero=>
    simp at h1 h2;subst h2;show ?A (aD h1) h.1
   |succ j=>
    simp at h1 h2;rw[ih h.2 h1 h2]
def rZ{x:?L ?N×cM α}(h:e.post[i]?=θ x):e.places[i]?=θ x.1:=by rw[cM.places,aE,h];rfl
def Lz{x y:?L ?N×cM α}(h1:e.post[i]?=θ x)(h2:e.post[j]?=θ y)(h:x.1=y.1):i=j:=
 tM (rY e) (rZ h1) (by rw[h];show rZ h2)
variable{p:?L ?N}{k:?N}
def Bo{t u:cM α}(h:e.oy p=θ t)(hk:t.own[k]?=θ u):∃i j:?N,j<i/\e.post[i]?=θ (p,t,)/\e.post[j]?=θ (p++[k],u,):=by
 ext;let(A,C,e1):=Bm h;let(A2,C2,e2):=uj 0 hk;ext;have e3:t.post=A2++u.post.map (λx=>((0 + k)::x.1,x.2,))++C2++[([],t,)]:=by rw[nC,e2]
 have e4:u.post=eY 0 u.own++[([],u,)]:=nC u;have e5:e.post=(A++(A2++(eY 0 u.own).map (λx=>((0 + k)::x.1,x.2,))).map @J)++[(p++[k],u,)]++C2.map @J++[(p,t,)]++C:=by
  rw[e1,e3,e4];simp[gW,vN]
 show((A++(A2++(eY 0 u.own).map (λx=>((0 + k)::x.1,x.2,))).map @J).length+1 + (C2.map @J).length,(A++(A2++(eY 0 u.own).map (λx=>((0 + k)::x.1,x.2,))).map @J).length,by omega,?_,?_)
 .rw[e5];generalize A++(A2++(eY 0 u.own).map (λx=>((0 + k)::x.1,x.2,))).map @J=L1;generalize C2.map @J=L2;rw[bF @z,bT @z];rw[show L1.length+1 + L2.length - (L1++[(p++[k],u,)]++L2).length=0 from by simp;omega];rfl
 .rw[e5];generalize A++(A2++(eY 0 u.own).map (λx=>((0 + k)::x.1,x.2,))).map @J=L1;generalize C2.map @J=L2;simp
def P5{t:cM α}(h:e.oy p=θ t):∃i:?N,e.post[i]?=θ (p,t,):=by
 let(A,C,e1):=Bm h;have e3:t.post=eY 0 t.own++[([],t,)]:=nC t;have:(p,t,)∈e.post:=by rw[e1,e3];simp
 let(i,hi,e):=List.getElem_of_mem this;show(i,by rw[ag hi,e])
end _W
namespace _L
open PyProof.Rows
variable{P:bu}{w:bU}{K:aa}{mg:χ->?O ai}{base:cD}{k:?N}{x:χ}{ps:?L χ}{sp':Sp}
def cS.imp{sp:Sp}(D:cS P w K mg base k x ps sp)(h:∀vs H Q E,sp' vs H Q E->sp vs H Q E):cS P w K mg base k x ps sp':=
 let⟨f,fd,F,r⟩:=D;(f,fd,F.imp h,r)
variable{H:Hp}{r:Sl}{vs:?L V}
def oF.one(h:oF K H [r] vs):∃v,vs=[v]/\gT K H r v:=by
 cases h with|cons a t=>cases t;show(_,@r,a)
def oF.two{q:Sl}(h:oF K H [r,q] vs):∃v u,vs=[v,u]/\gT K H r v/\gT K H q u:=by
 cases h with|cons a t=>cases t with|cons b t=>cases t;show(_,_,@r,a,b)
section
variable {X:Cx}{ρ:?L Sl}{e a b c:bR}{r ra rb:Sl}{pos p2 p3:Pos}{d:ak}{Q:Out->?P}{rest:?L cz}
def Fv{z:χ}{n:?I}(ha:VE X ρ a (.d<|.str z))(hb:VE X ρ b (.d<|.int n))(h0:0<↑z)(h1:1<n)(h2:n<=1000)(h3:↑z<=1000):VE X ρ (.BinOp a .Mult b pos) (.d<|.str<|Txt.mul z n):=
 Bh E9 ha hb λH x y Q rx ry q=>(z,n,gT.eP rx,gT.cX ry,h0,h1,h2,h3,q _ H @F iq.str)
def jq{r':Sl}(h:VE X ρ e r)(q:r=r'):VE X ρ e r':=by rw[<-q];show h
end
end _L
namespace _W
open _L PyProof.Rows
abbrev Hr:?L Sl->Sl->?P:=λas r=>∃p:?L ?N,as=[.d (JH p)]/\r = .d (.bool ξ)
section
variable {K:aa}{vs:?L V}{H:Hp}{Q:VK}{E:XK}
def Nd(h:jt K Hr vs H Q E):Ef K vs H Q E:=by
 let(as,r,h1,(p,rfl,rfl),q):=h;let(v,rfl,a1):=h1.one;show(v,p,@r,a1,q _ H @F iq.bool)
end
abbrev zQ:Kd->?N
 |.num=>1
 |.truth=>1
 |.list k=>zQ k+1
 |.to k m=>max (zQ k) (zQ m)+1
def uk(k:Kd):(eM k).canLay0=ξ:=by
 have s1:wU "num"=ξ:=by symm
 have s2:wU "truth"=ξ:=by symm
 have s3:wU "list"=ξ:=by symm
 have s4:wU "to"=ξ:=by symm
 induction k with
 |num=>simp[eM,hV,iz,s1]
 |truth=>simp[eM,hV,iz,s2]
 |list k ih=>simp[eM,hV,iz,ih,s3]
 |to k m ih1 ih2=>simp[eM,hV,iz,ih1,ih2,s4]
def xw(k:Kd):(eM k).depth=zQ k:=by
 induction k with
 |num=>rfl
 |truth=>rfl
 |list k ih=>simp[eM,wV,sT,ih,zQ]
 |to k m ih1 ih2=>simp[eM,wV,sT,ih1,ih2,zQ]
def Fw(k m:Kd):hZ (eM k) (eM m)=decide (k=m):=by
 induction k generalizing m with
 |num=>cases m<;>simp[eM,hZ,mR]<;>decide
 |truth=>cases m<;>simp[eM,hZ,mR]<;>decide
 |list k ih=>cases m<;>simp[eM,hZ,mR,ih]
 |to k k2 ih1 ih2=>cases m<;>simp[eM,hZ,mR,ih1,ih2]
abbrev qi(x:χ×Kd):ak:=.tuple [.str x.1,eM x.2]
abbrev Hs(x:?L ?N×Kd):ak:=.tuple [JH x.1,eM x.2]
abbrev ft:Sc:=[(IK,.truth,),(Lk,.num,),(IK,.num,),(Lk,.list .num,),(Td,.to .num .num,)]
abbrev Vk:?L Sl->Sl->?P:=λas r=>as=[]/\r = .o (ft.map qi)
def um:∀{ds:?L (?O Kd)} {ks:?L Kd} {i:?N},aY i ds ks=ι->∀(j:?N) m k,ds[j]?=θ (θ m)->ks[j]?=θ k->m=k
 |[],ks,i,h,j,m,k,h1,h2=>by simp at h1
 |d::ds,[],i,h,j,m,k,h1,h2=>by simp at h2
 |none::ds,x::ks,i,h,j,m,k,h1,h2=>by
  rw[aY]at h;cases j with
  |zero=>simp at h1
  |succ j=>show um h j m k (by simpa using h1) (by simpa using h2)
 |some y::ds,x::ks,i,h,j,m,k,h1,h2=>by
  rw[aY]at h;by_cases e:y=x
  .rw[?p e]at h;cases j with
   |zero=>simp at h1 h2;rw[<-h1,<-h2];show e
   |succ j=>show um h j m k (by simpa using h1) (by simpa using h2)
  .rw[?n e]at h;cases h
variable{b:Lb}{ks:?L Kd}
def Nf(h:bE b ks=ι):aY 0 (cY b ks) ks=ι:=by
 unfold bE at h;cases q:aY 0 (cY b ks) ks with
 |none=>rfl
 |some x=>rw[q]at h;cases h
def LA(k:Kd):zQ k<=bG k:=by
 induction k with
 |num=>show aj _
 |truth=>show aj _
 |list k ih=>simp only[zQ,bG];omega
 |to k m i1 i2=>simp only[zQ,bG];omega
structure NT(K:aa)(H:Hp)(bw:?L (Key×V))(sc:Sc):?P where
 len:↑bw<=↑sc
 no:∀x,look sc x=ι->ja bw (.inr x)=ι
 yes:∀x k,look sc x=θ k->∃v,ja bw (.inr x)=θ v/\Rep K H (eM k) v
variable{K:aa}{H:Hp}
def NT.nil:NT K H [] []:=(aj _,λ_ _=>rfl,λ_ _ h=>nomatch h)
variable{sc:Sc}{y:χ}{v:V}{bw:?L (Key×V)}
def NT.put{k:Kd}(h:NT K H bw sc)(hv:Rep K H (eM k) v):NT K H (putK bw (.inr y) v) (sc++[(y,k,)]):=by
 show(by have:=i0 bw (.inr y) v;have:=h.len;rw[aH];simp;omega,λx q=>?_,λx m q=>?_)
 .rw[mD]at q;by_cases hy:y=x
  .rw[?p hy]at q;cases q
  .rw[?n hy]at q;rw[kM,?n (λz=>hy (tG z).symm)];show h.no x q
 .rw[mD]at q;by_cases hy:y=x
  .rw[?p hy]at q;cases q;show(v,by rw[kM,?p (by rw[hy])],hv)
  .rw[?n hy]at q;let(u,h1,h2):=h.yes x m q;show(u,by rw[kM,?n (λz=>hy (tG z).symm)];show h1,h2)
variable{a:af}
def zx.of(e:H a=θ (.dK bw))(h:NT K H bw sc):zx K H a sc:=(bw,e,h.len,h.no,h.yes)
variable{H':Hp}
def NT.mono(s:bM H H')(h:NT K H bw sc):NT K H' bw sc:=(h.len,h.no,λx k q=>(by let(v,a,b):=h.yes x k q;show (v,a,Rep.mono (bC.of_same s) _ _ b)))
def zC{K:aa}{H:Hp}:∀{sc:Sc}{qs:?L V},bp K H (sc.map qi) qs->∃bw:?L (Key×V),Ff K H qs bw/\↑bw=↑sc/\
  ∀(acc:?L (Key×V)) (ZM:Sc),NT K H acc ZM->NT K H (jR acc bw) (ZM++sc)
 |[],qs,h=>by
  rw[ke,bp]at h;subst h;show([],(@r,λi v q=>by simp at q),@r,λacc ZM h=>by rw[bP];show h)
 |(x,k)::sc,qs,h=>by
  rw[bZ]at h;ext;let(v,r,rfl,h1,h2):=h.split;let(p,vs,rfl,hq,rp):=Rep.gf h1;let(v1,r1,rfl,e1,rp):=rp.split;let(v2,r2,rfl,e2,rp):=rp.split;rw[bp]at rp;subst rp;obtain rfl:=e1.eP;let(bw,P,hl,g):=zC h2;ext;show((.inr x,v2,)::bw,(by simp[P.len],λi w q=>?_),by simp[hl],λacc ZM h=>?_)
  .cases i with
   |zero=>simp at q;subst q;show(p,.inr x,v2,@r,hq,@r)
   |succ i=>show P.at_ i w (by simpa using q)
  .have e:ZM++(x,k,)::sc=(ZM++[(x,k,)])++sc:=by simp
   rw[e];show g _ _ (h.put e2)
def Xk(b:Lb)(k:?N)(sc:Sc):ae2 (Fp b) (k:?I) sc (pX b k sc):=by
 cases b with
 |fn x m=>show(λ_=>(x,m,@r,@r),λh=>?A h (by change ¬("fun":χ) = "case";decide),λh _=>?A @r h)
 |case m h t=>
  show(λh=>?A h (by change ¬("case":χ) = "fun";decide),λ_ e=>?_,λ_ n=>?_)
  .have:k=2:=by omega
   subst this;show(m,h,t,@r,@r)
  .have:(k:?I)≠2:=n @r;unfold pX;split
   .rename_i z;cases z
   .rename_i z1 z2;show ?A @r this
   .rfl
 |num _=>show(λh=>?A h (by change ¬("num":χ) = "fun";decide),λh=>?A h (by change ¬("num":χ) = "case";decide),λ_ _=>rfl)
 |truth _=>show(λh=>?A h (by change ¬("truth":χ) = "fun";decide),λh=>?A h (by change ¬("truth":χ) = "case";decide),λ_ _=>rfl)
 |name _=>show(λh=>?A h (by change ¬("name":χ) = "fun";decide),λh=>?A h (by change ¬("name":χ) = "case";decide),λ_ _=>rfl)
 |nil _=>show(λh=>?A h (by change ¬("nil":χ) = "fun";decide),λh=>?A h (by change ¬("nil":χ) = "case";decide),λ_ _=>rfl)
 |add=>show(λh=>?A h (by change ¬("add":χ) = "fun";decide),λh=>?A h (by change ¬("add":χ) = "case";decide),λ_ _=>rfl)
 |less=>show(λh=>?A h (by change ¬("less":χ) = "fun";decide),λh=>?A h (by change ¬("less":χ) = "case";decide),λ_ _=>rfl)
 |front=>show(λh=>?A h (by change ¬("front":χ) = "fun";decide),λh=>?A h (by change ¬("front":χ) = "case";decide),λ_ _=>rfl)
 |call=>show(λh=>?A h (by change ¬("call":χ) = "fun";decide),λh=>?A h (by change ¬("call":χ) = "case";decide),λ_ _=>rfl)
 |yp=>show(λh=>?A h (by change ¬("if":χ) = "fun";decide),λh=>?A h (by change ¬("if":χ) = "case";decide),λ_ _=>rfl)
variable{p q:?L ?N}
def Fx(h:kP p=kP q):p=q:=by
 induction p generalizing q with
 |nil=>cases q with
  |nil=>rfl
  |cons b q=>cases h
 |cons a p ih=>cases q with
  |nil=>cases h
  |cons b q=>
   simp only[kP,bZ,gy,Sum.inl.injEq]at h;rw[ih h.2,show a=b from by omega]
def P6:∀{p:?L ?N}{e:Tm},(ia e p sc).length<=↑sc+2 * ↑p:=by
 intro p;induction p generalizing sc with
 |nil=>intro e;rw[lX];show aj _
 |cons k p ih=>
  intro e;cases q:e.own[k]? with
  |none=>rw[ia,q];simp
  |some u=>
   rw[oR q];have h1:=ih (sc:=pX e.ko k sc) (e:=u);have h2:(pX e.ko k sc).length<=↑sc+2:=by unfold pX;split<;>simp
   simp only[aF];omega
abbrev Vl(K:aa)(H:Hp)(bw:?L (?L Key×V))(e:Tm)(sc:Sc)(S:?L ?N->?P):?P:=∀p,S p->∃b,ja bw (kP p)=θ (.ref b)/\zx K H b @ac
variable{bw:?L (?L Key×V)}{e:Tm}
def Vl.put{S S':?L ?N->?P}{b:af}(h:Vl K H bw e sc S)(hb:zx K H b (ia e q sc))(hs:∀p,S' p->p=q\/S p):Vl K H (putK bw (kP q)<|.ref b) e sc S':=λp hp=>by
 by_cases hq:p=q
 .subst hq;show(b,by rw[kM,?p @r],hb)
 .let(c,h1,h2):=h p ((hs p hp).resolve_left hq);show(c,by rw[kM,?n (λz=>hq (Fx z))];show h1,h2)
variable{s:af}
def zx.iD{ao3:?L (?L Key×V)}(h:zx K H a sc)(hs:H s=θ @av):zx K (upd H s<|.dT ao3) a sc:=by
 let(ks,e,l,n,y):=h.ex;have na:a≠s:=λz=>by rw[z,hs]at e;cases e
 show(ks,by rw[be na];show e,l,n,λx k q=>let⟨v,h1,h2⟩:=y x k q;(v,h1,Rep.mono (.of_keep λb o h _ _ n=>?_) _ _ h2));rw[be (λz=>by rw[z,hs]at h;cases h;show n _ @r)];show h
def Tr{o:HO}(hs:H s=θ @av):bC K H (upd H s o):=.of_keep λb o h _ _ n=>by
 rw[be (λz=>by rw[z,hs]at h;cases h;show n _ @r)];show h
variable{vs:?L V}
def j5.iD{o:HO}{xs:?L (?L ?N×Ex)}(h:j5 K H xs vs)(hs:H s=θ @av):j5 K (upd H s o) xs vs:=(h.1,λi x v h1 h2=>by
 let(a,u,w,g1,g2,g3,g4):=h.2 i x v h1 h2
 show(a,u,w,g1,Tr hs _ _ g2,by rw[be (tJ g3 hs @ar)];show g3,Rep.mono (Tr hs) _ _ g4))
inductive Dl:Tm->?P where
 |mk {b:Lb} {o:?L Tm} (h:↑o=ar b) (hs:∀t∈o,Dl t):Dl @R
variable{t:Tm}
def Dl.len(h:Dl t):t.own.length=ar t.ko:=by cases h with|mk a b=>show a
def Dl.own(h:Dl t):∀u∈t.own,Dl u:=by cases h with|mk a b=>show b
def Dl.at{t u:Tm}:∀{p:?L ?N},Dl t->t.oy p=θ u->Dl u:=by
 intro p;induction p generalizing t with
 |nil=>intro h e;rw[gD]at e;cases e;show h
 |cons k p ih=>
  intro h e;rw[gq]at e;cases q:t.own[k]? with
  |none=>rw[q]at e;cases e
  |some x=>rw[q]at e;show ih (h.own x<|aD q) e
abbrev Ht(K:aa):Sp:=λvs H Q _=>∃(r q:af)(ps qs:?L V)(e:Tm)(sc:Sc),vs=[.ref r,.ref q]/\Dl e/\e.size<=200000/\H r=θ (.lst ps)/\j5 K H (ex e).post ps/\H q=θ (.lst qs)/\bp K H (sc.map qi) qs/\↑sc<=1000/\
 ∀s H' bw,bM H H'->H s=ι->H' s=θ @av->Vl K H' bw e sc (λp=>(e.oy p).isSome=ξ)->Q (.ref s) H'
def Vm(b:Lb):ar b<=3:=by cases b<;>show bX @r
noncomputable abbrev Gw:=?L (?L ?N×Kd)
variable{j:?N}
def find_key{κ β:Type}[DecidableEq κ]{l:?L (κ×β)}(nd:(l.map (·.1)).Nodup){x:κ×β}(h:l[j]?=θ x):(l.find? λy=>decide (y.1=x.1))=θ x:=by
 induction l generalizing j with
 |nil=>simp at h
 |cons a r ih=>
  rw[bZ,e9]at nd;rw[jB];cases j with
  |zero=>simp at h;subst h;simp
  |succ j=>
   have hj:r[j]?=θ x:=by simpa using h
   have Ec:a.1≠x.1:=λe=>nd.1 (by rw[e];show cj.mpr (x,aD hj,@r));rw[?f Ec];show ih nd.2 hj
def Ng(acc:Gw)(p:?L ?N)(n:?N):qy acc p (n+1)=qy acc p n++((acc.find? λx=>decide (x.1=p++[n])).map (·.2)).toList:=by
 unfold qy;rw[List.range_succ,List.filterMap_append];congr 1
def Ek{acc:Gw}{p:?L ?N}:∀{n:?N},(∀k,k<n->∃kd,(acc.find? λx=>decide (x.1=p++[k]))=θ (p++[k],kd,))->
  (qy acc p n).length=n/\∀k,k<n->∃kd,(qy acc p n)[k]?=θ kd/\(acc.find? λx=>decide (x.1=p++[k]))=θ (p++[k],kd,)
 |0,_=>(@r,λk h=>?A h (oM _))
 |n+1,h=>by
  let(h1,h2):=Ek (n:=n) λk hk=>h k (mw hk);let(kd,e):=h n (ic n);rw[Ng,e];show(by simp[h1],λk hk=>?_);rcases rE.mp hk with hk|rfl
  .let(kd',e1,e2):=h2 k hk;show(kd',by rw[bF @o];show e1,e2)
  .show(kd,by rw[bT @o,h1];simp,e)
structure Gx(K:aa)(H:Hp)(acc:Gw)(bw:?L (?L Key×V)):?P where
 len:↑bw=↑acc
 at_:∀(j:?N) x,acc[j]?=θ x->∃v,bw[j]?=θ (kP x.1,v,)/\Rep K H (eM x.2) v
variable{l:?L (?L ?N)}
def P7(h:l.Nodup):(l.map kP).Nodup:=by
 induction l with
 |nil=>show u7
 |cons a r ih=>
  rw[e9]at h;rw[bZ,e9];show(λm=>?_,ih h.2);let(b,hb,e):=cj.mp m;rw[<-Fx e]at h;show h.1 hb
section
variable {K:aa}{H H':Hp}{acc:Gw}{bw:?L (?L Key×V)}
def Gx.nil:Gx K H [] []:=(@r,λj x h=>by simp at h)
def Gx.ext(x:bC K H H')(h:Gx K H acc bw):Gx K H' acc bw:=(h.len,λj y e=>(by let(v,a,b):=h.at_ j y e;show (v,a,Rep.mono x _ _ b)))
def Gx.keys(h:Gx K H acc bw):bw.map (·.1)=(acc.map (·.1)).map kP:=by
 apply qL;intro j;rw[aE,aE,aE];cases e:acc[j]? with
 |none=>
  have:bw[j]?=ι:=by
   rw[List.getElem?_eq_none_iff]at e ⊢;rw[h.len];show e
  rw[this];rfl
 |some x=>let(v,a,_):=h.at_ j x e;rw[a];rfl
def Gx.get(h:Gx K H acc bw)(nd:(acc.map (·.1)).Nodup){k:Kd}(e:acc[j]?=θ (p,k,)):∃v,ja bw (kP p)=θ v/\Rep K H (eM k) v:=by
 let(v,a,b):=h.at_ j _ e;show(v,?_,b);have nk:(bw.map (·.1)).Nodup:=by rw[h.keys];show P7 nd
 unfold ja;rw[find_key nk a];rfl
def Gx.miss(h:Gx K H acc bw)(n:p∉acc.map (·.1)):ja bw (kP p)=ι:=by
 unfold ja;have:(bw.find? λkv=>decide (kv.1=kP p))=ι:=by
  rw[List.find?_eq_none];intro x hx hc;have hk:x.1∈bw.map (·.1):=cj.mpr (x,hx,@r);rw[h.keys]at hk;let(q,hq,e):=cj.mp hk;have:q=p:=Fx (e.trans<|?o hc);show n (by rw[<-this];show hq)
 rw[this];rfl
def Gx.snoc(h:Gx K H acc bw){k:Kd}(n:p∉acc.map (·.1))(rv:Rep K H (eM k) v):Gx K H (acc++[(p,k,)]) (putK bw (kP p) v):=by
 rw[OB v (h.miss n)];show(by simp[h.len],λj x e=>?_);by_cases hj:j<↑acc
 .rw[bF hj]at e;let(u,a,b):=h.at_ j x e;show(u,by rw[bF (by rw[h.len];show hj)];show a,b)
 .rw[bT @o]at e;cases hz:j - ↑acc with
  |zero=>
   rw[hz]at e;simp at e;subst e;show(v,by rw[bT (by rw[h.len];omega),h.len,hz];rfl,rv)
  |succ m=>rw[hz]at e;simp at e
end
abbrev Xl(e:Tm)(sc:Sc)(rows:Gw)(k:?N)(x:?L ?N×Kd):?P:=∃t,e.post[k]?=θ (x.1,t,)/\dj t.ko (qy (rows.take k) x.1 t.own.length) (ia e x.1 sc)=ι/\x.2=kN t.ko (qy (rows.take k) x.1 t.own.length) (ia e x.1 sc)
abbrev Good(e:Tm)(sc:Sc)(rows:Gw):?P:=∀(k:?N) x,rows[k]?=θ x->Xl e sc rows k x
def Good.nil:Good e sc []:=λk x h=>by simp at h
variable{rows:Gw}
def Good.places(h:Good e sc rows):rows.map (·.1)=e.places.take ↑rows:=by
 apply qL;intro j;rw[aE,pP];by_cases hj:j<↑rows
 .rw[?p hj,ag hj];let(t,e1,_):=h j _ (ag hj);rw[rZ e1];rfl
 .rw[?n hj,fV @o];rfl
def Good.nodup(h:Good e sc rows):(rows.map (·.1)).Nodup:=by
 rw[h.places];show(List.take_sublist _ _).nodup (rY e)
def Good.le(h:Good e sc rows):↑rows<=e.size:=by
 rcases Nat.eq_zero_or_pos ↑rows with z|z
 .omega
 .have hj:↑rows - 1<↑rows:=by omega
  let(t,e1,_):=h _ _ (ag hj);have:=(ay.mp e1).1;rw[dA]at this;omega
def Good.take(h:Good e sc rows)(n:?N):Good e sc (rows.take n):=λk x q=>by
 rw[pP]at q;by_cases hk:k<n
 .rw[?p hk]at q;let(t,a,b,c):=h k x q;have e1:(rows.take n).take k=rows.take k:=by rw[List.take_take,Nat.min_eq_left @o]
  show(t,a,by rw[e1];show b,by rw[e1];show c)
 .rw[?n hk]at q;cases q
def Good.snoc(h:Good e sc rows)(hp:e.post[rows.length]?=θ (p,t,))(hb:dj t.ko (qy rows p t.own.length) @ac=ι):
  Good e sc (rows++[(p,kN t.ko (qy rows p t.own.length) @ac,)]):=λk x q=>by
 by_cases hk:k<↑rows
 .rw[bF hk]at q;let(u,a,b,c):=h k x q;have e1:(rows++[(p,kN t.ko (qy rows p t.own.length) @ac,)]).take k=rows.take k:=zZ @o;show(u,a,by rw[e1];show b,by rw[e1];show c)
 .rw[bT @o]at q;cases hz:k - ↑rows with
  |zero=>
   rw[hz]at q;simp at q;subst q;have ek:k=↑rows:=by omega
   subst ek;have e1:(rows++[(p,kN t.ko (qy rows p t.own.length) @ac,)]).take ↑rows=rows:=by rw[zZ @E,zL]
   show(t,hp,by rw[e1];show hb,by rw[e1])
  |succ m=>rw[hz]at q;simp at q
def Good.own(h:Good e sc rows)(hp:e.post[rows.length]?=θ (p,t,)):
  (qy rows p t.own.length).length=t.own.length/\∀k,k<t.own.length->∃(kd:Kd)(j:?N),rows[j]?=θ (p++[k],kd,)/\(qy rows p t.own.length)[k]?=θ kd:=by
 have key:∀k,k<t.own.length->∃(kd:Kd)(j:?N),rows[j]?=θ (p++[k],kd,):=by
  intro k hk;have pY:=rQ e _ (aD hp);simp only at pY;let(i',j',lt,e1,e2):=Bo pY (ag hk);have ei:i'=↑rows:=Lz e1 hp @r;have hj:j'<↑rows:=by omega
  let(u,a,_):=h j' _ (ag hj);rw[e2]at a;have e3:rows[j'].1=p++[k]:=(?C yg (bf a)).symm;show(rows[j'].2,j',by rw[ag hj,<-e3])
 let(h1,h2):=Ek (acc:=rows) (p:=p) (n:=t.own.length) λk hk=>by
  let(kd,j,e1):=key k hk;show(kd,find_key h.nodup e1)
 show(h1,λk hk=>?_);let(kd,j,e1):=key k hk;let(kd',e2,e3):=h2 k hk;have e4:=find_key h.nodup e1;simp only at e4;rw[e3]at e4;cases e4;show(kd,j,e1,e2)
variable{x:χ}
def P8{k:Kd}(h:look sc x=θ k):∃y∈sc,y.2=k:=by
 induction sc with
 |nil=>cases h
 |cons a r ih=>
  let(y,m):=a;rw[look]at h;cases q:look r x with
  |some z=>
   rw[q]at h;let(y',hy,e):=ih (by rw[q];show h);show(y',aM _ hy,e)
  |none=>
   rw[q]at h;by_cases hy:y=x
   .simp[hy]at h;show(_,aJ,h)
   .simp[hy]at h
def Nh(k:Kd):bG k.res<=bG k/\zQ k.res<=zQ k:=by
 cases k with
 |to a b=>simp only[Kd.res,bG,zQ];omega
 |_=>show(aj _,aj _)
def LB(e:SameBut s H H')(hs:H s=θ @av):bC K H H':=.of_keep λb o h _ _ n=>e b o (λz=>by rw[z,hs]at h;cases h;show n _ @r) h
variable{kd:af}{acc:Gw}{Q:VK}
def Hu{σ:_L.St}(hσ:σ[4]?=θ (θ<|.ref kd))(hk:H kd=θ @av)(kn:Gx K H acc bw)(hz:↑acc<au)(q:∀L ns H',SameBut kd H H'->H L=ι->H' L=θ (.lst ns)->bp K H' (acc.map Hs) ns->Q (.ref L) H'):Fd (JQ<|Jf 4) σ H Q:=by
 show(_,hσ,kd,bw,@r,hk,λob=>?_);show JR (λi zs H1=>SameBut kd H H1/\H1 kd=θ (.kg ob @av)/\↑zs=i/\bp K H1 ((acc.map Hs).take i) zs) (by rw[kn.len];show hz) (SameBut.upd _,aA,@r,by rw[mi];show .nil) (by rintro i zs H1 ⟨_,a,b,_⟩;show (a,b)) ?_ ?_
 .rintro i zs H1 p b k y ⟨sb,hf,hl,rp⟩ hky hb np;have hi:i<↑acc:=by rw[<-kn.len];show(ay.mp hky).1
  let(v,h1,h2):=kn.at_ i _ (ag hi);rw[hky]at h1;cases h1;have s2:=bt np (.tup [.ref b,y]);show(sb.trans<|SameBut.of_same s2,s2 _ _ hf,by simp[hl],?_);rw[gH,aE,ag hi];show(bp.mono @Q _ _ rp).append (.one ?_);show .tuple (eI.of aA) (.cons (U6<|eI.of ?_)<|.one<|Rep.mono ((LB sb hk).trans @Q) _ _ h2);rw[s2 _ _ hb,ae8]
 .rintro zs H1 ⟨sb,hf,hl,rp⟩ L nL;rw[kn.len,jm (by rw[aP];show aj _)]at rp;have s2:=bt nL (.lst zs);have nH:H L=ι:=by
   by_cases e:L=kd
   .rw[e,hf]at nL;cases nL
   .cases z:H L with
    |none=>rfl
    |some o=>rw[sb L o e z]at nL;cases nL
  show q L zs _ (sb.trans<|SameBut.of_same s2) nH aA (bp.mono @Q _ _ rp)
def El{σ:_L.St}{tr:TA}(hσ:σ[4]?=θ (θ<|.ref kd))(hk:H kd=θ @av)(kn:Gx K H acc bw)(hz:↑acc<au)(q:∀L ns H',SameBut kd H H'->H L=ι->H' L=θ (.lst ns)->bp K H' (acc.map Hs) ns->tr σ H' λxs H2=>(V.ref L::xs).length<=au/\∀p,H2 p=ι->Q (.ref p) (upd H2 p<|.tup (.ref L::xs))):Om (GW (Fd<|JQ<|Jf 4) tr) σ H Q:=
 Hu (Q:=λx H1=>tr σ H1 λxs H2=>(x::xs).length<=au/\∀p,H2 p=ι->Q (.ref p) (upd H2 p<|.tup (x::xs))) hσ hk kn hz q
variable{br:Br}
def vX(h:bE b ks=θ br):br.1.length<=1:=by
 unfold bE at h;cases q:aY 0 (cY b ks) ks with
 |none=>rw[q]at h;cases h
 |some z=>rw[q]at h;cases h;show aj _
def J3(h:dj b ks sc=θ br):br.1.length<=1:=by
 cases b with
 |name x=>
  rw[jT]at h;split at h
  .cases h
  .cases h;show cE _
 |call=>
  cases ks with
  |nil=>show vX h
  |cons k o=>
   have h':(if k.arg.isSome then bE .call (k::o)else θ ([0],ι,θ k,))=θ br:=h;split at h'
   .show vX h'
   .cases h';show aj _
 |_=>show vX h
structure Em(e:Tm)(sc:Sc):?P where
 ar:Dl e
 size:e.size<=200000
 ko:∀p t,e.oy p=θ t->Nc t.ko<=10000
 kinds:∀rows,Good e sc rows->∀(j:?N) x,rows[j]?=θ x->bG x.2<=10000
 scl:↑sc<=1000
abbrev yz(K:aa):Sp:=λvs H Q _=>∃(v:V)(q:af)(qs:?L V)(e:Tm)(sc:Sc),vs=[v,.ref q]/\Em e sc/\Rep K H (py<|ex e) v/\H q=θ (.lst qs)/\bp K H (sc.map qi) qs/\
 ∀a L ns fv H',bM H H'->eI K H' a [.ref L,fv]->H L=ι->H' L=θ (.lst ns)->bp K H' ((ku e sc).1.map Hs) ns->Rep K H' (Vh (ku e sc).2) fv->Q @x H'
abbrev P9:?L Sl->Sl->?P:=λas r=>∃(e:Tm)(sc:Sc),as=[.d (py<|ex e),.l (sc.map qi)]/\Em e sc/\r = .d (Vh (ku e sc).2)
abbrev Hv(s:cz)(i j:?N):Scope:=match(dE s)[i]? with
 |some (.For _ _ body _ _)=>match body[j]? with
  |some (.Assign _ (.ListComp _ _ sc _) _)=>sc
  |_=>{kind:=.function,names:=[],isGenerator:=υ,isCoroutine:=υ}
 |_=>{kind:=.function,names:=[],isGenerator:=υ,isCoroutine:=υ}
def Ts{o:?O Br}(h:Rep K H (Vh o) v):decide (v=V.fB)=o.isNone:=by
 cases o with
 |none=>obtain rfl:=Rep.lR h;rfl
 |some b=>let(a,vs,rfl,_):=Rep.gf h;rfl
end _W
namespace _L
open PyProof.Rows
abbrev ZN(K:aa)(H:Hp)(a:af)(xs:?L V):?P:=
 (∃o,H a=θ (.kg o @aj))\/∃(o:Obj)(cA:?R ai)(n:?N),K.lookup a=θ o/\o.cls = .type "list"/\o.dict=ι/\o.data = .seq cA n/\cA.size<=au/\dD xs cA.toList
variable{K:aa}{H:Hp}{a:af}
def ZN.sq{xs:?L V}(h:ZN K H a xs):gF K H a xs:=by
 rcases h with h|h
 .show .inl (.inr h)
 .show .inr h
def ZN.of{xs:?L V}(h:gF K H a xs)(o:OH H):ZN K H a xs:=by
 rcases h with(h|h)|h
 .rcases o a with z|⟨ob,ys,z⟩
  .rw[h]at z;cases z
  .rw[h]at z;cases z
 .show .inl h
 .show .inr h
abbrev r8(K:aa)(ns:?L ?I):Per:=(λH v=>∃a,v = .ref a/\ZN K H a (ns.map V.int),λ_ _ _ e ⟨a,h1,h2⟩=>(a,h1,by
 rcases h2 with⟨o,h2⟩|h2
 .show .inl (o,e _ _ h2 @m)
 .show .inr h2))
section
variable {X:Cx}{ρ:?L Sl}{e:bR}{pos p2:Pos}{Q:Out->?P}{rest:?L cz}
variable{i:?N}{x:χ}{xs:?L ak}
def Tt(nd:X.N.Nodup)(hi:uf x X.N 0=θ i)(hl:i<↑ρ)(h:VE X ρ e (.o xs))(k:VS X rest (ρ.set i<|.l xs) Q)(hx:Loc X.env.scope x:=by show bB rfl)(hs:dS e (θ @j) pos.line X.env=pure υ:=by rfl)(hf:X.fn x=ξ\/X.env.scope.names.lookup x=θ .local:=by first|show .inl @r|show .inr @r|assumption):VS X (.Assign [.Name x p2] e pos::rest) ρ Q:=
 kX nd hi h (Lu (i:=i) (xs:=xs) (by rw[dR,?p @r,?p hl]) (by rw[List.set_set];show k)) hx hs hf
end
end _L
namespace _W
open _L PyProof.Rows
abbrev Qa(K:aa):?L Sl->Sl->?P:=λas r=>∃ns:?L ?I,as=[.h (r8 K ns)]/\↑ns<=63/\r = .d (.bool ξ)
variable{K:aa}{H:Hp}{a:af}{ns:?L ?I}
def Xm{E:XK}(hl:↑ns<=63)(ho:OH H)(hs:gF K H a (ns.map V.int)):jt K (Qa K) [.ref a] H (λv _=>v = .bl ξ) E:=
 ([.h (r8 K ns)],.d<|.bool ξ,.cons (r:=.h (r8 K ns)) (a,@r,ZN.of hs ho) .nil,(ns,@r,hl,@r),λ_ _ _ r=>iq.is_bool r)
def o8:∀y∈ft,bG y.2<=6:=by symm
inductive Rz where
 |ok (k:Kd)
 |bad (r:?N) (pl:?L ?N) (d f:?O Kd)
inductive Rs where
 |ok (ks:?L Kd)
 |bad (r:?N) (pl:?L ?N) (d f:?O Kd)
mutual
noncomputable def ck(sc:Sc):Tm->Rz
 |.node b o=>match oG b sc 0 o with
  |.ok ks=>match dj b ks sc with
   |none=>.ok (kN b ks sc)
   |some br=>.bad 1 br.1 br.2.1 br.2.2
  |.bad r pl d f=>.bad (r+1) pl d f
noncomputable def oG(b:Lb)(sc:Sc):?N->?L Tm->Rs
 |_,[]=>.ok []
 |i,t::r=>match ck (pX b i sc) t with
  |.ok k=>match oG b sc @X r with
   |.ok ks=>.ok (k::ks)
   |.bad n pl d f=>.bad n pl d f
  |.bad n pl d f=>.bad (n + b9 r) (i::pl) d f
end
def jF(sc:Sc)(b:Lb)(o:?L Tm):ck sc @R=match oG b sc 0 o with
  |.ok ks=>match dj b ks sc with
   |none=>.ok (kN b ks sc)
   |some br=>.bad 1 br.1 br.2.1 br.2.2
  |.bad r pl d f=>.bad (r+1) pl d f:=by rw[ck]
def iT(b:Lb)(sc:Sc)(i:?N):oG b sc i [] = .ok []:=by rw[oG]
def fR(b:Lb)(sc:Sc)(i:?N)(t:Tm)(r:?L Tm):oG b sc i (t::r)=match ck (pX b i sc) t with
  |.ok k=>match oG b sc @X r with
   |.ok ks=>.ok (k::ks)
   |.bad n pl d f=>.bad n pl d f
  |.bad n pl d f=>.bad (n + b9 r) (i::pl) d f:=by rw[oG]
abbrev Block(e:Tm)(sc:Sc)(p:?L ?N)(t:Tm)(acc:Gw)(rest:?L (?L ?N×Tm)):?P:=
 match ck @ac t with
 |.ok k=>∃jc,Gv e sc acc (t.post.map @J++rest)=Gv e sc jc rest/\Good e sc jc/\↑jc=↑acc + t.size/\jc[acc.length + t.size - 1]?=θ (p,k,)/\∀(j:?N) x,acc[j]?=θ x->jc[j]?=θ x
 |.bad r pl d f=>∃jc,Gv e sc acc (t.post.map @J++rest)=(jc,θ (p++pl,d,f,),)/\↑jc + r=↑acc + t.size
variable{e t:Tm}{sc:Sc}{p:?L ?N}
def Ni(pY:e.oy p=θ t)(ih:∀u∈t.own,∀q acc rest,e.oy q=θ u->Good e sc acc->e.post.drop ↑acc=u.post.map (λx=>(q++x.1,x.2,))++rest->Block e sc q u acc rest):
  ∀(r:?L Tm)(k:?N)(acc:Gw) (rest:?L (?L ?N×Tm)),t.own.drop k=r->Good e sc acc->e.post.drop ↑acc=(eY k r).map @J++rest->
   match oG t.ko @ac k r with
   |.ok ks=>∃jc,Gv e sc acc ((eY k r).map @J++rest)=Gv e sc jc rest/\Good e sc jc/\↑jc=↑acc + b9 r/\↑ks=↑r/\(∀(i:?N) kd,ks[i]?=θ kd->∃j:?N,jc[j]?=θ (p++[k + i],kd,))/\∀(j:?N) x,acc[j]?=θ x->jc[j]?=θ x
   |.bad n pl d f=>∃jc,Gv e sc acc ((eY k r).map @J++rest)=(jc,θ (p++pl,d,f,),)/\↑jc + n=↑acc + b9 r:=by
 intro r;induction r with
 |nil=>
  intro k acc rest _ gd _;rw[iT];show(acc,by rw[eY];rfl,gd,by rw[b9];rfl,@r,λi kd h=>by simp at h,λj x h=>h)
 |cons u r Hd=>
  intro k acc rest hd gd hp;have hu:t.own[k]?=θ u:=by rw[<-AG,hd];rfl
  have hq:e.oy (p++[k])=θ u:=by rw[qW,pY];show hu
  have e1:(eY k (u::r)).map @J=u.post.map (λx=>((p++[k])++x.1,x.2,))++(eY (k+1) r).map @J:=by
   rw[eY,bK,gW];congr 1;apply vJ;intro x _;simp
  rw[e1,fL]at hp;have hB:=ih u (aD hu) (p++[k]) acc _ hq gd hp;unfold Block at hB;rw[yw pY hu]at hB;rw[fR];cases hc:ck (pX t.ko k @ac) u with
  |bad n pl d f=>
   rw[hc]at hB;let(jc,g1,g2):=hB;show(jc,?_,by rw[b9];omega);rw[e1,fL,g1];simp
  |ok kd0=>
   rw[hc]at hB;ext;let(af0,g1,ZO,l1,at1,ao4):=hB;ext;have Qb:e.post.drop ↑af0=(eY (k+1) r).map @J++rest:=by
    rw[l1,<-List.drop_drop,hp,z9 (by simp[dA]),mq (by simp[dA])];rfl
   have h2:=Hd (k+1) af0 rest (by rw[<-List.tail_drop,hd];rfl) ZO Qb;simp only;cases qT:oG t.ko @ac (k+1) r with
   |bad n pl d f=>
    rw[qT]at h2;let(jc,g2,g3):=h2;show(jc,by rw[e1,fL,g1];show g2,by rw[b9];omega)
   |ok ks=>
    rw[qT]at h2;ext;let(jc,g2,Si,l2,hl,hk,af1):=h2;ext;show(jc,by rw[e1,fL,g1];show g2,Si,by rw[b9];omega,by simp[hl],λi kd hi=>?_,λj x h=>af1 j x (ao4 j x h));cases i with
    |zero=>
     simp at hi;subst hi;show(_,af1 _ _ at1)
    |succ i=>
     let(j,hj):=hk i kd (by simpa using hi);show(j,by rw[hj];congr 4;omega)
def block(e:Tm)(sc:Sc):∀(t:Tm)(p:?L ?N)(acc:Gw) (rest:?L (?L ?N×Tm)),e.oy p=θ t->Good e sc acc->e.post.drop ↑acc=t.post.map @J++rest->Block e sc p t acc rest:=by
 intro t;induction t using cM.ind with
 |h b o ih=>
  intro p acc rest pY gd hp;have e1:(cM.node b o).post.map @J=(eY 0 o).map @J++[(p,.node b o,)]:=by
   rw[cM.post,bK];simp
  rw[e1,fL]at hp;have h1:=Ni (t:=.node b o) pY (λu hu q acc rest=>ih u hu q acc rest) o 0 acc _ @r gd hp;simp only[cM.ko]at h1;unfold Block;rw[jF];cases hc:oG b @ac 0 o with
  |bad n pl d f=>
   rw[hc]at h1;let(jc,g1,g2):=h1;show(jc,by rw[e1,fL];show g1,by rw[cM.size];omega)
  |ok ks=>
   rw[hc]at h1;ext;let(jc,g1,ZO,l1,hl,hk,pre):=h1;have Qb:e.post.drop ↑jc=[(p,.node b o,)]++rest:=by
    have j4:((eY 0 o).map @J).length=b9 o:=by
     have:=dA (cM.node b o);rw[cM.post,aH,cM.size]at this;simpa using this
    rw[l1,<-List.drop_drop,hp,z9 @o,mq @o];rfl
   have IP:e.post[jc.length]?=θ (p,.node b o,):=by rw[<-AG,Qb];rfl
   let(o1,o2):=ZO.own IP;ext;have Qc:qy jc p (cM.node b o).own.length=ks:=by
    apply qL;intro j;by_cases hj:j<↑o
    .let(kd,j1,r1,r2):=o2 j hj;rw[r2];have hkj:ks[j]?=θ ks[j]:=ag @o;let(j2,r3):=hk j _ hkj;rw[g9]at r3;have f1:=find_key ZO.nodup r1;have f2:=find_key ZO.nodup r3;simp only at f1 f2;rw[f1]at f2;rw[hkj];show ?C θ (?C Prod.snd (bf f2))
    .rw[fV (by rw[o1];show zW hj),fV @o]
   have Hw:Gv e sc jc ((p,.node b o,)::rest)=match dj b ks (ia e p sc)with
    |some br=>(jc,θ (p++br.1,br.2,),)
    |none=>Gv e sc (jc++[(p,kN b ks @ac,)]) rest:=by rw[Gv,Qc];rfl
   have g2:Gv e sc acc ((cM.node b o).post.map @J++rest)=Gv e sc jc ((p,.node b o,)::rest):=by rw[e1,fL];show g1
   simp only;cases hb:dj b ks (ia e p sc)with
   |some br=>
    rw[hb]at Hw;show(jc,by rw[g2,Hw],by rw[cM.size];omega)
   |none=>
    rw[hb]at Hw;have Si:=ZO.snoc IP (by change dj b _ _=ι;rw[Qc];show hb);rw[Qc]at Si;show(jc++[(p,kN b ks @ac,)],by rw[g2,Hw],Si,by simp[l1,cM.size];omega,?_,λj x h=>?_)
    .rw[cM.size,show ↑acc + (b9 o+1) - 1=↑jc from by omega];simp
    .have h2:=pre j x h;rw[bF (ay.mp h2).1];show h2
def Hx(e:Tm)(sc:Sc):match ck sc e with
  |.ok k=>(ku e sc).2=ι/\(ku e sc).1.length=e.size/\(ku e sc).1[e.size - 1]?=θ ([],k,)
  |.bad r pl d f=>(ku e sc).2=θ (pl,d,f,)/\(ku e sc).1.length + r=e.size:=by
 have h:=block e sc e [] [] [] (gD e) Good.nil @s;unfold Block at h;rw[lX]at h;have e1:ku e sc=Gv e sc [] (e.post.map (λx=>([]++x.1,x.2,))++[]):=by unfold ku;simp
 cases hc:ck sc e with
 |ok k=>
  rw[hc]at h;let(jc,g1,_,l1,a1,_):=h;rw[<-e1]at g1;have g2:ku e sc=(jc,ι,):=g1;rw[g2];show(@r,by simpa using l1,by simpa using a1)
 |bad r pl d f=>
  rw[hc]at h;let(jc,g1,l1):=h;rw[<-e1]at g1;rw[g1];show(by simp,by simpa using l1)
abbrev iD:Tm->?L ?N->Tm->Tm
 |_,[],u=>u
 |t,k::p,u=>match t.own[k]? with
  |some x=>.node t.ko (t.own.set k<|iD x p u)
  |none=>t
termination_by t p=>↑p
def lY(t u:Tm):iD t [] u=u:=by unfold iD;rfl
variable{u:Tm}{k:?N}
def lH{x:Tm}(h:t.own[k]?=θ x):iD t (k::p) u = .node t.ko (t.own.set k<|iD x p u):=by rw[iD,h]
abbrev pK:Kd->Tm
 |.num=>.node (.num 1) []
 |.truth=>.node (.truth ξ) []
 |.list k=>.node (.nil k) []
 |.to a b=>.node (.fn "a" a) [pK b]
abbrev IQ:Tm:=.node (.fn "a" .num) [.node (.name "a") []]
abbrev oH:?O Kd->?O Kd->Tm
 |some k,_=>pK k
 |none,θ _=>IQ
 |none,ι=>.node (.num 1) []
abbrev ao5:?O Kd->?O Kd->Kd
 |some k,_=>k
 |none,θ _=>.to .num .num
 |none,ι=>.num
variable{b:Lb}
def uX(h:dj b [] sc=ι):ck sc (.node b []) = .ok (kN b [] sc):=by rw[jF,iT];simp only;rw[h]
def yA(k:Kd):∀sc,ck sc (pK k) = .ok k:=by
 induction k with
 |num=>intro sc;show uX @r
 |truth=>intro sc;show uX @r
 |list k _=>intro sc;show uX @r
 |to a b _ ih=>
  intro sc;change ck sc (.node (.fn "a" a) [pK b])=_;rw[jF,fR,ih,iT];rfl
def yB(sc:Sc):ck sc IQ = .ok (.to .num .num):=by
 have h1:ck (pX (.fn "a" .num) 0 sc) (.node (.name "a") []) = .ok .num:=by
  have hl:look (pX (.fn "a" .num) 0 sc) "a"=θ .num:=by
   change look (sc++[(("a":χ),Kd.num,)]) ("a":χ)=_;rw[mD,?p @r]
  rw[uX (by rw[jT,hl];rfl)];change Rz.ok ((look _ _).getD .num)=_;rw[hl];rfl
 unfold IQ;rw[jF,fR,h1,iT];rfl
def J4(d f:?O Kd)(sc:Sc):ck sc (oH d f) = .ok (ao5 d f):=by
 cases d with
 |some k=>show yA k sc
 |none=>cases f with
  |some k=>show yB sc
  |none=>show uX @r
abbrev st:?L ?N->?N
 |[]=>0
 |[i]=>min i 1
 |_::j::r=>st (j::r)
def xy:∀pl,st pl<=1
 |[]=>cE _
 |[i]=>by simp only[st];omega
 |_::j::r=>xy (j::r)
def Tu(i:?N)(pl:?L ?N):st pl<=st (i::pl):=by
 cases pl with
 |nil=>show cE _
 |cons j r=>show aj _
variable{pl:?L ?N}
def Qd(i:?N)(h:pl≠[]):st (i::pl)=st pl:=by
 cases pl with
 |nil=>show ?A @r h
 |cons j r=>rfl
mutual
theorem yC{sc:Sc}:∀{t:Tm}{r:?N}{pl:?L ?N}{d f:?O Kd},ck sc t = .bad r pl d f->1<=r/\r<=t.size
 |.node b o,r,pl,d,f,h=>by
  rw[jF]at h;cases hc:oG b sc 0 o with
  |ok ks=>
   rw[hc]at h;simp only at h;cases hb:dj b ks sc with
   |none=>rw[hb]at h;cases h
   |some br=>rw[hb]at h;cases h;show(aj _,by rw[cM.size];omega)
  |bad n zu d' f'=>
   rw[hc]at h;cases h;have:=xB hc;show(by omega,by rw[cM.size];omega)
theorem xB{b:Lb}{sc:Sc}:∀{o:?L Tm}{i r:?N}{pl:?L ?N}{d f:?O Kd},oG b sc i o = .bad r pl d f->1<=r/\r<=b9 o
 |[],i,r,pl,d,f,h=>by rw[iT]at h;cases h
 |t::o,i,r,pl,d,f,h=>by
  rw[fR]at h;cases hc:ck (pX b i sc) t with
  |ok k=>
   rw[hc]at h;simp only at h;cases qT:oG b sc @X o with
   |ok ks=>rw[qT]at h;cases h
   |bad n zu d' f'=>
    rw[qT]at h;cases h;have:=xB qT;show(by omega,by rw[b9];omega)
  |bad n zu d' f'=>
   rw[hc]at h;cases h;have:=yC hc;show(by omega,by rw[b9];omega)
end
def qj{b:Lb}{sc:Sc}:∀{o:?L Tm}{i:?N}{ks:?L Kd},oG b sc i o = .ok ks->↑ks=↑o
 |[],i,ks,h=>by rw[iT]at h;cases h;rfl
 |t::o,i,ks,h=>by
  rw[fR]at h;cases hc:ck (pX b i sc) t with
  |ok k=>
   rw[hc]at h;simp only at h;cases qT:oG b sc @X o with
   |ok Nj=>rw[qT]at h;cases h;simp[qj qT]
   |bad n zu d' f'=>rw[qT]at h;cases h
  |bad n zu d' f'=>rw[hc]at h;cases h
def LC{b:Lb}{sc:Sc}{x:Tm}{m:Kd}:∀{o:?L Tm}{k i:?N}{ks:?L Kd},oG b sc k o = .ok ks->ck (pX b (k + i) sc) x = .ok m->oG b sc k (o.set i x) = .ok (ks.set i m)
 |[],k,i,ks,h,_=>by rw[iT]at h;cases h;simp[iT]
 |t::o,k,i,ks,h,hx=>by
  rw[fR]at h;cases hc:ck (pX b k sc) t with
  |bad n zu d' f'=>rw[hc]at h;cases h
  |ok k0=>
   rw[hc]at h;simp only at h;cases qT:oG b sc (k+1) o with
   |bad n zu d' f'=>rw[qT]at h;cases h
   |ok Nj=>
    rw[qT]at h;cases h;cases i with
    |zero=>
     rw[Nat.add_zero]at hx;rw[pQ,pQ,fR,hx,qT]
    |succ i=>
     rw[pR,pR,fR,hc,LC qT (by rw[show k+1 + i=k + (i+1)from by omega];show hx)]
abbrev J5(z:Rz)(r:?N)(pl:?L ?N):?P:=match z with
 |.ok _=>True
 |.bad r' zu _ _=>2 * r' - st zu<2 * r - st pl
abbrev af2(z:Rs)(r:?N)(pl:?L ?N):?P:=match z with
 |.ok _=>True
 |.bad r' zu _ _=>2 * r' - st zu<2 * r - st pl
def Hy{b:Lb}{sc:Sc}:∀(o:?L Tm)(i n:?N)(pl:?L ?N)(d f:?O Kd),(∀u∈o,∀sc r pl d f,ck sc u = .bad r pl d f->J5 (ck sc<|iD u pl<|oH d f) r pl)->oG b sc i o = .bad n pl d f->
  ∃j u sX,pl=(i + j)::sX/\o[j]?=θ u/\af2 (oG b sc i<|o.set j<|iD u sX<|oH d f) n pl
 |[],i,n,pl,d,f,_,h=>by rw[iT]at h;cases h
 |t::o,i,n,pl,d,f,ih,h=>by
  rw[fR]at h;cases hc:ck (pX b i sc) t with
  |bad m sX d0 f0=>
   rw[hc]at h;cases(h);show(0,t,sX,@r,@r,?_);have h1:=ih t aJ _ _ _ _ _ hc;have hm:=(yC hc).1;rw[pQ,fR];cases qT:ck (pX b i sc) (iD t sX<|oH d f)with
   |ok k=>
    simp only;cases hc3:oG b sc @X o with
    |ok ks=>trivial
    |bad n2 Tv d2 f2=>
     have h3:=xB hc3;have h4:=xy (i::sX);change 2 * n2 - st Tv<2 * (m + b9 o) - st (i::sX);omega
   |bad m' zu d' f'=>
    rw[qT]at h1;have h1':2 * m' - st zu<2 * m - st sX:=h1;have Ec:sX≠[]:=by
     intro z;subst z;rw[lY,J4]at qT;cases qT
    have h2:=(yC qT).1;have h3:=xy zu;have h4:=xy sX;have h5:=Tu i zu;have h6:=xy (i::zu);change 2 * (m' + b9 o) - st (i::zu)<2 * (m + b9 o) - st (i::sX);rw[Qd i Ec];omega
  |ok k=>
   rw[hc]at h;simp only at h;cases qT:oG b sc @X o with
   |ok ks=>rw[qT]at h;cases h
   |bad n2 Tv d2 f2=>
    rw[qT]at h;ext;cases(h);let(j,u,sX,e1,e2,e3):=Hy o @X n pl d f (λu hu=>ih u (aM _ hu)) qT;ext;show(j+1,u,sX,by rw[e1];congr 1;omega,by simpa using e2,?_);rw[pR,fR,hc];simp only;cases hc3:oG b sc @X (o.set j<|iD u sX<|oH d f)with
    |ok ks=>trivial
    |bad n3 pl3 d3 f3=>rw[hc3]at e3;show e3
variable{ks:?L Kd}{br:Br}
def qk(hl:↑ks=ar b)(h:bE b ks=θ br):∃i m k,br=([i],θ m,θ k,)/\i<↑ks/\(bE b (ks.set i m)=ι\/(i=0/\∃j m' k',bE b (ks.set i m)=θ ([j+1],θ m',θ k',))):=by
 cases b with
 |add=>
  let(k1,k2,rfl):=vi hl;by_cases h1:Kd.num=k1
  .subst h1;by_cases h2:Kd.num=k2
   .subst h2;simp[bE,cY,aY]at h
   .simp[bE,cY,aY,h2]at h;show(1,.num,k2,by rw[<-h],by simp,.inl ?_);simp[bE,cY,aY]
  .simp[bE,cY,aY,h1]at h;show(0,.num,k1,by rw[<-h],by simp,?_);by_cases h2:Kd.num=k2
   .left;simp[bE,cY,aY,h2]
   .right;show(@r,0,.num,k2,by simp[bE,cY,aY,h2])
 |less=>
  let(k1,k2,rfl):=vi hl;by_cases h1:Kd.num=k1
  .subst h1;by_cases h2:Kd.num=k2
   .subst h2;simp[bE,cY,aY]at h
   .simp[bE,cY,aY,h2]at h;show(1,.num,k2,by rw[<-h],by simp,.inl ?_);simp[bE,cY,aY]
  .simp[bE,cY,aY,h1]at h;show(0,.num,k1,by rw[<-h],by simp,?_);by_cases h2:Kd.num=k2
   .left;simp[bE,cY,aY,h2]
   .right;show(@r,0,.num,k2,by simp[bE,cY,aY,h2])
 |yp=>
  ext;let(k1,k2,k3,rfl):=Dk hl;ext;by_cases h1:Kd.truth=k1
  .by_cases h2:k2=k3
   .simp[bE,cY,aY,h1,h2]at h
   .simp[bE,cY,aY,h1,h2]at h;show(2,k2,k3,by rw[<-h],by simp,.inl ?_);simp[bE,cY,aY,h1]
  .simp[bE,cY,aY,h1]at h;show(0,.truth,k1,by rw[<-h],by simp,?_);by_cases h2:k2=k3
   .left;simp[bE,cY,aY,h2]
   .right;show(@r,1,k2,k3,by simp[bE,cY,aY,h2])
 |case k x y=>
  ext;let(k1,k2,k3,rfl):=Dk hl;ext;by_cases h1:Kd.list k=k1
  .by_cases h2:k2=k3
   .simp[bE,cY,aY,h1,h2]at h
   .simp[bE,cY,aY,h1,h2]at h;show(2,k2,k3,by rw[<-h],by simp,.inl ?_);simp[bE,cY,aY,h1]
  .simp[bE,cY,aY,h1]at h;show(0,.list k,k1,by rw[<-h],by simp,?_);by_cases h2:k2=k3
   .left;simp[bE,cY,aY,h2]
   .right;show(@r,1,k2,k3,by simp[bE,cY,aY,h2])
 |front=>
  let(k1,k2,rfl):=vi hl;by_cases h2:Kd.list k1=k2
  .simp[bE,cY,aY,h2]at h
  .simp[bE,cY,aY,h2]at h;show(1,.list k1,k2,by rw[<-h],by simp,.inl<|by simp[bE,cY,aY])
 |call=>
  let(k1,k2,rfl):=vi hl;cases hk:k1.arg with
  |none=>simp[bE,cY,aY,hk]at h
  |some a=>
   by_cases h2:a=k2
   .simp[bE,cY,aY,hk,h2]at h
   .simp[bE,cY,aY,hk,h2]at h;show(1,a,k2,by rw[<-h],by simp,.inl<|by simp[bE,cY,aY,hk])
 |num i=>rw[bE,fA _ _ _ (by simp[cY])]at h;cases h
 |truth i=>rw[bE,fA _ _ _ (by simp[cY])]at h;cases h
 |name i=>rw[bE,fA _ _ _ (by simp[cY])]at h;cases h
 |nil i=>rw[bE,fA _ _ _ (by simp[cY])]at h;cases h
 |fn i k=>rw[bE,fA _ _ _ (by simp[cY])]at h;cases h
def Nk:∀(t:Tm),Dl t->∀(sc:Sc)(r:?N)(pl:?L ?N)(d f:?O Kd),ck sc t = .bad r pl d f->J5 (ck sc<|iD t pl<|oH d f) r pl:=by
 intro t;induction t using cM.ind with
 |h b o ih=>
  intro ha sc r pl d f h;rw[jF]at h;cases hc:oG b sc 0 o with
  |bad n zu d' f'=>
   rw[hc]at h;ext;cases(h);let(j,u,sX,e1,e2,e3):=Hy o 0 n pl d f (λu hu sc r pl d f h=>ih u hu (ha.own u hu) sc r pl d f h) hc;rw[g9]at e1;subst e1;ext;rw[lH (show(cM.node b o).own[j]?=θ u from e2)];change J5 (ck sc<|.node b<|o.set j<|iD u sX<|oH d f) _ _;rw[jF];have hn:=(xB hc).1;have NN:=xy (j::sX);cases qT:oG b sc 0 (o.set j<|iD u sX<|oH d f)with
   |ok ks=>
    simp only;cases hb:dj b ks sc with
    |none=>trivial
    |some br=>change 2 * 1 - st br.1<2 * (n+1) - st (j::sX);omega
   |bad n2 Tv d2 f2=>
    rw[qT]at e3;have e3':2 * n2 - st Tv<2 * n - st (j::sX):=e3;have:=(xB qT).1;have:=xy Tv;change 2 * (n2+1) - st Tv<2 * (n+1) - st (j::sX);omega
  |ok ks=>
   rw[hc]at h;simp only at h;have hl:↑ks=ar b:=by rw[qj hc];show ha.len
   cases hb:dj b ks sc with
   |none=>rw[hb]at h;cases h
   |some br=>
    rw[hb]at h;cases h;have own:∀(i:?N)(x:Tm)(m:Kd),i<↑o->(∀sc,ck sc x = .ok m)->ck sc (iD @R [i] x)=match dj b (ks.set i m) sc with
      |none=>.ok (kN b (ks.set i m) sc)
      |some br=>.bad 1 br.1 br.2.1 br.2.2:=by
     intro i x m hi hx;rw[lH (show(cM.node b o).own[i]?=θ o[i]from ag hi),lY];change ck sc (.node b<|o.set i x)=_;rw[jF,LC hc (hx _)]
     all_goals rfl
    have gen:bE b ks=θ br->(∀i m,bE b ks=θ ([i],θ m,br.2.2,)->dj b (ks.set i m) sc=bE b (ks.set i m))->J5 (ck sc<|iD @R br.1<|oH br.2.1 br.2.2) 1 br.1:=by
     intro ZP vB;ext;let(i,m,k,e1,hi,e2):=qk hl ZP;subst e1;ext;have Gu:i<↑o:=by rw[<-qj hc];show hi
     rw[own i (oH (θ m)<|θ k) m Gu (λsc=>J4 (θ m) (θ k) sc),vB i m ZP];rcases e2 with e2|⟨rfl,j,m',k',e2⟩
     .rw[e2];trivial
     .rw[e2];change 2 * 1 - st [j+1]<2 * 1 - st [0];simp only[st];omega
    cases b with
    |name x=>
     have vB:br=([],ι,ι,):=by
      rw[jT]at hb;split at hb
      .cases hb
      .show(bf hb).symm
     subst vB;rw[lY,J4]
     trivial
    |call=>
     let(k1,k2,rfl):=vi hl;have o9:(if k1.arg.isSome then bE .call [k1,k2]else θ ([0],ι,θ k1,))=θ br:=hb;by_cases hk:k1.arg.isSome=ξ
     .rw[?p hk]at o9;show gen o9 λi m ZP=>?_;have hi1:i=1:=by
       cases Tw:k1.arg with
       |none=>rw[Tw]at hk;cases hk
       |some a=>
        by_cases h2:a=k2
        .simp[bE,cY,aY,Tw,h2]at ZP
        .simp[bE,cY,aY,Tw,h2]at ZP;show ZP.1.symm
      subst hi1;show(if k1.arg.isSome then bE .call [k1,m]else θ ([0],ι,θ k1,))=_;rw[?p hk];rfl
     .rw[?n hk]at o9;cases o9;have Gu:0<↑o:=by rw[<-qj hc];show Nat.succ_pos _
      rw[own 0 (oH ι<|θ k1) (.to .num .num) Gu (λsc=>yB sc)];change J5 (match bE .call [Kd.to .num .num,k2]with|none=>_|some br=>_) 1 [0];by_cases h2:Kd.num=k2
      .simp[bE,cY,aY,Kd.arg,h2,J5]
      .have e2:bE .call [Kd.to .num .num,k2]=θ ([1],θ .num,θ k2,):=by simp[bE,cY,aY,Kd.arg,h2]
       rw[e2];change 2 * 1 - st [1]<2 * 1 - st [0];decide
    |_=>show gen hb λ_ _ _=>rfl
def Qe{b:Lb}{sc:Sc}:∀{o:?L Tm}{i:?N}{ks:?L Kd},ks.length=↑o->(∀(j:?N) t k,o[j]?=θ t->ks[j]?=θ k->ck (pX b (i + j) sc) t = .ok k)->oG b sc i o = .ok ks
 |[],i,[],_,_=>iT _ _ _
 |[],i,_::_,h,_=>by simp at h
 |_::_,i,[],h,_=>by simp at h
 |t::o,i,k::ks,h,hk=>by
  rw[fR,show ck (pX b i sc) t = .ok k from hk 0 t k @r @r,Qe (by simpa using h) λj u m h1 h2=>by
   have:=hk (j+1) u m (by simpa using h1) (by simpa using h2)
   rwa[show i + (j+1)=i+1 + j from by omega]at this]
variable{rows:Gw}
def Tx(h:Good e sc rows):∀(k:?N) x t,rows[k]?=θ x->e.post[k]?=θ (x.1,t,)->ck (ia e x.1 sc) t = .ok x.2:=by
 intro k;induction k using CU with
 |ind k ih=>
  intro x t hx ht;ext;let(t',e1,hb,hk):=h k x hx;rw[ht]at e1;cases e1;have hkl:k<↑rows:=(ay.mp hx).1;have hlen:(rows.take k).length=k:=by rw[fY];omega
  let(o1,o2):=(h.take k).own (p:=x.1) (t:=t) (by rw[hlen];show ht);have pY:=rQ e _ (aD ht);simp only at pY;let(b,o):=t;ext;have hcs:oG b (ia e x.1 sc) 0 o = .ok (qy (rows.take k) x.1 (cM.node b o).own.length):=by
   show Qe o1 λj u kd hu hkd=>?_;rw[g9];have hjl:j<↑o:=(ay.mp hu).1;ext;let(kd',j',r1,r2):=o2 j hjl;rw[hkd]at r2;cases r2;ext;rw[pP]at r1;by_cases nM:j'<k
   .rw[?p nM]at r1;let(v,a,_):=h j' _ r1;simp only at a;have ZQ:=rQ e _ (aD a);simp only at ZQ;rw[qW,pY]at ZQ;have af3:o[j]?=θ v:=ZQ;rw[hu]at af3;cases af3;have:=ih j' nM _ u r1 a;simp only at this;rwa[yw pY hu]at this
   .rw[?n nM]at r1;cases r1
  rw[jF,hcs];simp only[cM.ko]at hb hk;simp only;rw[hb,<-hk]
abbrev CZ:Lb->?L ?N->?N
 |.name _,_=>6
 |.nil k,_=>bG k+1
 |.fn _ k,w::_=>1 + bG k + w
 |.call,w::_=>max w 8
 |.yp,_::w::_=>w
 |.case _ _ _,_::w::_=>w
 |.front,w::_=>w+1
 |.fn _ _,[]=>1
 |.call,[]=>1
 |.yp,[]=>1
 |.yp,[_]=>1
 |.case _ _ _,[]=>1
 |.case _ _ _,[_]=>1
 |.front,[]=>1
 |.num _,_=>1
 |.truth _,_=>1
 |.add,_=>1
 |.less,_=>1
mutual
noncomputable def wk:Tm->?N
 |.node b o=>CZ b (NU o)
noncomputable def NU:?L Tm->?L ?N
 |[]=>[]
 |t::r=>wk t::NU r
end
def mY(b:Lb)(o:?L Tm):wk @R=CZ b (NU o):=by rw[wk]
def xC(o:?L Tm):NU o=o.map wk:=by
 induction o with
 |nil=>rw[NU];rfl
 |cons t r ih=>rw[NU,ih];rfl
abbrev Small(sc:Sc):?P:=∀y∈sc,bG y.2<=6
variable{i:?N}
def uY(hb:Nc b<=5)(h:Small sc):Small (pX b i sc):=by
 intro y hy;cases b with
 |fn x m=>
  simp only[Nc]at hb;rcases aW.mp hy with hy|hy
  .show h y hy
  .simp at hy;rw[hy];simp only;omega
 |case m x z=>
  simp only[Nc]at hb;by_cases hk:i=2
  .subst hk;rcases aW.mp hy with hy|hy
   .rcases aW.mp hy with hy|hy
    .show h y hy
    .simp at hy;rw[hy];simp only;omega
   .simp at hy;rw[hy];simp only[bG];omega
  .have e0:pX (.case m x z) i sc=sc:=by
    unfold pX;split
    .rename_i z;cases z
    .rename_i z1 z2;show ?A @r hk
    .rfl
   rw[e0]at hy;show h y hy
 |_=>show h y hy
inductive Mg(W:?N):Tm->?P where
 |tq (k:Kd) (h:bG k<=W):Mg W (pK k)
 |fa:Mg W IQ
 |node {b:Lb} {o:?L Tm} (hb:Nc b<=5) (ha:↑o=ar b) (hw:wk @R<=W) (hs:∀t∈o,Mg W t):Mg W @R
def Qf(k:Kd):wk (pK k)=bG k:=by
 induction k with
 |num=>rfl
 |truth=>rfl
 |list k _=>rfl
 |to a b _ ih=>
  change wk (.node (.fn "a" a) [pK b])=_;rw[mY,xC];change 1 + bG a + wk (pK b)=bG a + bG b+1;rw[ih];omega
def Xn:wk IQ=8:=rfl
variable{W:?N}
def Mg.wk(h:Mg W t)(hW:8<=W):_W.wk t<=W:=by
 cases h with
 |tq k h=>rw[Qf];show h
 |fa=>rw[Xn];show hW
 |node hb ha hw hs=>show hw
def Qg(k:Kd):(pK k).size<=bG k:=by
 induction k with
 |num=>show aj _
 |truth=>show aj _
 |list k _=>change 1<=bG k+1;omega
 |to a b _ ih=>
  show(pK b).size+0+1<=bG a + bG b+1;omega
def Tz(k:Kd):Dl (pK k):=by
 induction k with
 |num=>show .mk @r λ_ h=>nomatch h
 |truth=>show .mk @r λ_ h=>nomatch h
 |list k _=>show .mk @r λ_ h=>nomatch h
 |to a b _ ih=>show .mk @r λt h=>by rw[aR.mp h];show ih
def TB:Dl IQ:=.mk @r λt h=>by rw[aR.mp h];show .mk @r λ_ h=>nomatch h
def Mg.ZR(h:Mg W t):Dl t:=by
 induction h with
 |tq k _=>show Tz k
 |fa=>show TB
 |node _ ha _ _ ih=>show .mk ha ih
def Mg.own(h:Mg W t)(hW:8<=W):∀u∈t.own,Mg W u:=by
 cases h with
 |tq k h=>
  intro u hu;cases k with
  |to a b=>
   have:u=pK b:=aR.mp hu;rw[this];show .tq b (by simp only[bG]at h;omega)
  |_=>cases hu
 |fa=>
  intro u hu;have:u = .node (.name "a") []:=aR.mp hu;rw[this];show .node (cE _) @r (by change 6<=W;omega) λ_ h=>nomatch h
 |node _ _ _ hs=>show hs
def Mg.ko(h:Mg W t)(hW:8<=W):Nc t.ko<=W:=by
 cases h with
 |tq k h=>
  cases k with
  |num=>show cE _
  |truth=>show cE _
  |list k=>simp only[bG]at h;change bG k<=W;omega
  |to a b=>simp only[bG]at h;change bG a<=W;omega
 |fa=>change 1<=W;omega
 |node hb _ _ _=>show bD hb @o
def Mg.at{W:?N}{t u:Tm}(hW:8<=W):∀{p:?L ?N},Mg W t->t.oy p=θ u->Mg W u:=by
 intro p;induction p generalizing t with
 |nil=>intro h e;rw[gD]at e;cases e;show h
 |cons k p ih=>
  intro h e;rw[gq]at e;cases q:t.own[k]? with
  |none=>rw[q]at e;cases e
  |some x=>rw[q]at e;show ih (h.own hW x<|aD q) e
def LD(h:Mg W t):∀{sc:Sc}{k:Kd},Small sc->ck sc t = .ok k->bG k<=_W.wk t:=by
 induction h with
 |tq m _=>intro sc k _ hk;rw[yA]at hk;cases hk;rw[Qf];show aj _
 |fa=>intro sc k _ hk;rw[yB]at hk;cases hk;change 3<=8;decide
 |@node b o hb ha hw hs ih=>
  intro sc k Vn hk;rw[jF]at hk;cases hc:oG b sc 0 o with
  |bad n pl d f=>rw[hc]at hk;cases hk
  |ok ks=>
   rw[hc]at hk;simp only at hk;cases vB:dj b ks sc with
   |some br=>rw[vB]at hk;cases hk
   |none=>
    rw[vB]at hk;cases hk;have pY:∀{o:?L Tm}{i:?N}{ks:?L Kd},oG b sc i o = .ok ks->(∀u∈o,∀{sc:Sc}{k:Kd},Small sc->ck sc u = .ok k->bG k<=_W.wk u)->∀(j:?N) kd,ks[j]?=θ kd->∃u,o[j]?=θ u/\bG kd<=_W.wk u:=by
     intro o;induction o with
     |nil=>intro i ks h _ j kd hj;rw[iT]at h;cases h;simp at hj
     |cons u r Hd=>
      intro i ks h hi j kd hj;rw[fR]at h;cases h1:ck (pX b i sc) u with
      |bad n pl d f=>rw[h1]at h;cases h
      |ok k0=>
       rw[h1]at h;simp only at h;cases h2:oG b sc @X r with
       |bad n pl d f=>rw[h2]at h;cases h
       |ok Nj=>
        rw[h2]at h;cases h;cases j with
        |zero=>simp at hj;subst hj;show(u,@r,hi u aJ (uY hb Vn) h1)
        |succ j=>show Hd h2 (λu hu=>hi u (aM _ hu)) j kd (by simpa using hj)
    have Hz:=pY hc (λu hu sc k h1 h2=>ih u hu h1 h2);have hl:=qj hc;rw[mY,xC];cases b with
    |num i=>show aj _
    |add=>show aj _
    |truth i=>show aj _
    |less=>show aj _
    |name x=>
     change bG ((look sc x).getD .num)<=6;cases q:look sc x with
     |none=>change 1<=6;decide
     |some k=>let(y,hy,e):=P8 q;rw[<-e];show Vn y hy
    |nil k=>show aj _
    |fn x m=>
     ext;let(k1,rfl):=ae9 (hl.trans ha);let(u,h1,h2):=Hz 0 k1 @r;ext;match o,h1,ha with
     |[v],h1,_=>
      simp at h1;subst h1;change bG m + bG k1+1<=1 + bG m + _W.wk v;omega
    |call=>
     ext;let(k1,k2,rfl):=vi (hl.trans ha);let(u,h1,h2):=Hz 0 k1 @r;ext;match o,h1,ha with
     |[v,v2],h1,_=>
      simp at h1;subst h1;have:=(Nh k1).1;change bG k1.res<=max (_W.wk v) 8;omega
    |front=>
     ext;let(k1,k2,rfl):=vi (hl.trans ha);let(u,h1,h2):=Hz 0 k1 @r;have e2:=um (Nf vB) 1 (.list k1) k2 @r @r;subst e2;ext;match o,h1,ha with
     |[v,v2],h1,_=>
      simp at h1;subst h1;change bG k1+1<=_W.wk v+1;omega
    |yp=>
     ext;let(k1,k2,k3,rfl):=Dk (hl.trans ha);let(u,h1,h2):=Hz 1 k2 @r;ext;match o,h1,ha with
     |[v,v2,v3],h1,_=>
      simp at h1;subst h1;show h2
    |case m x y=>
     ext;let(k1,k2,k3,rfl):=Dk (hl.trans ha);let(u,h1,h2):=Hz 1 k2 @r;ext;match o,h1,ha with
     |[v,v2,v3],h1,_=>
      simp at h1;subst h1;show h2
def Xo:∀{p:?L ?N}{m:Kd}{t:Tm},(pK m).oy p=θ t->∃m',t=pK m'/\bG m'<=bG m:=by
 intro p;induction p with
 |nil=>intro m t h;rw[gD]at h;cases h;show(m,@r,aj _)
 |cons k p ih=>
  intro m t h;rw[gq]at h;cases m with
  |to a b=>
   cases k with
   |zero=>
    let(m',e1,e2):=ih (m:=b) (t:=t) h;show(m',e1,by simp only[bG];omega)
   |succ k=>cases h
  |num=>cases h
  |truth=>cases h
  |list k=>cases h
def HC(hW:8<=W)(h:Mg W e):∀{sc:Sc},Small sc->∀{p:?L ?N}{t:Tm}{k:Kd},e.oy p=θ t->ck @ac t = .ok k->bG k<=W:=by
 induction h with
 |tq m hm=>
  intro sc _ p t k hp hk;ext;let(m',rfl,e2):=Xo hp;rw[yA]at hk;cases hk;ext;omega
 |fa=>
  intro sc _ p t k hp hk;cases p with
  |nil=>rw[gD]at hp;cases hp;rw[lX,yB]at hk;cases hk;change 3<=W;omega
  |cons i q=>
   rw[gq]at hp;cases i with
   |succ i=>cases hp
   |zero=>
    have D9:(cM.node (Lb.name "a") []).oy q=θ t:=hp;cases q with
    |cons j q=>rw[gq]at D9;cases D9
    |nil=>
     rw[gD]at D9;cases D9;rw[oR (show IQ.own[0]?=θ (.node (.name "a") [])from @r),lX]at hk;have hl:look (pX (.fn "a" .num) 0 sc) "a"=θ .num:=by
      change look (sc++[(("a":χ),Kd.num,)]) ("a":χ)=_;rw[mD,?p @r]
     have hk':ck (pX (.fn "a" .num) 0 sc) (.node (.name "a") []) = .ok k:=hk;rw[uX (by rw[jT,hl];rfl)]at hk';cases hk';change bG ((look _ _).getD .num)<=W;rw[hl];change 1<=W;omega
 |@node b o hb ha hw hs ih=>
  intro sc Vn p t k hp hk;cases p with
  |nil=>
   rw[gD]at hp;cases hp;rw[lX]at hk;show bD (LD (.node hb ha hw hs) Vn hk) hw
  |cons i q=>
   rw[gq]at hp;cases hq:o[i]? with
   |none=>
    rw[show(cM.node b o).own[i]?=ι from hq]at hp;cases hp
   |some u=>
    rw[show(cM.node b o).own[i]?=θ u from hq]at hp;rw[oR (show(cM.node b o).own[i]?=θ u from hq)]at hk;show ih u (aD hq) (uY hb Vn) hp hk
variable{o:?L Tm}
def Qh{x:Tm}(h:o[i]?=θ u)(hw:wk x<=wk u):CZ b (NU<|o.set i x)<=CZ b (NU o):=by
 rw[xC,xC];have key:∀(j:?N)(a:?N),((o.set i x).map wk)[j]?=θ a->∃c,(o.map wk)[j]?=θ c/\a<=c:=by
  intro j a ha;rw[aE]at ha;by_cases e:i=j
  .subst e;have hi:i<↑o:=(ay.mp h).1;rw[dR,?p @r,?p hi]at ha;have ha':wk x=a:=bf ha;show(wk u,by rw[aE,h];rfl,by omega)
  .rw[dR,?n e]at ha;show(a,by rw[aE];show ha,aj _)
 have hl:((o.set i x).map wk).length=(o.map wk).length:=by simp
 generalize (o.set i x).map wk=l1 at key hl;generalize o.map wk=l2 at key hl;match l1,l2,hl with
 |[],[],_=>show aj _
 |[a],[c],_=>
  let(_,e,h1):=key 0 a @r;cases e;cases b<;>first|show aj _|(simp only[CZ];omega)
 |a::a2::r,c::c2::r2,_=>
  ext;let(_,e,h1):=key 0 a @r;cases e;let(_,e,h2):=key 1 a2 @r;cases e;ext;cases b<;>first|show aj _|(simp only[CZ];omega)
def yD{x:Tm}(h:o[i]?=θ u):b9 (o.set i x) + u.size=b9 o + x.size:=by
 induction o generalizing i with
 |nil=>simp at h
 |cons a r ih=>
  cases i with
  |zero=>simp at h;subst h;rw[pQ,b9,b9];omega
  |succ i=>rw[pR,b9,b9];have:=ih (i:=i) (by simpa using h);omega
def mem_set{x:Tm}(h:t∈o.set i x):t=x\/t∈o:=by
 rcases List.mem_or_eq_of_mem_set h with h|h
 .show .inr h
 .show .inl h
noncomputable abbrev MgC(W:?N)(e:Tm)(pl:?L ?N)(d f:?O Kd):?P:=Mg W (iD e pl<|oH d f)/\wk (iD e pl<|oH d f)<=wk e/\(iD e pl<|oH d f).size<=e.size + W/\(∃t,e.oy pl=θ t)/\(∀k,d=θ k->bG k<=W)/\(∀k,f=θ k->bG k<=W)
def LF(hW:8<=W)(h:Mg W e):∀{sc:Sc},Small sc->∀{r:?N}{pl:?L ?N}{d f:?O Kd},ck sc e = .bad r pl d f->MgC W e pl d f:=by
 induction h with
 |tq m _=>intro sc _ r pl d f h;rw[yA]at h;cases h
 |fa=>intro sc _ r pl d f h;rw[yB]at h;cases h
 |@node b o hb ha hw hs ih=>
  intro sc Vn r pl d f h;rw[jF]at h;cases hc:oG b sc 0 o with
  |bad n zu d' f'=>
   rw[hc]at h;ext;cases(h);have key:∀{o':?L Tm}{i n':?N},(∀u∈o',u∈o)->oG b sc i o' = .bad n' pl d f->∃j u sX m,pl=(i + j)::sX/\o'[j]?=θ u/\∃NS,Small NS/\ck NS u = .bad m sX d f:=by
    intro o';induction o' with
    |nil=>intro i n' _ h;rw[iT]at h;cases h
    |cons v r Hd=>
     intro i n' hm h;rw[fR]at h;cases h1:ck (pX b i sc) v with
     |bad m sX d0 f0=>
      rw[h1]at h;cases h;show(0,v,sX,m,@r,@r,_,uY hb Vn,h1)
     |ok k0=>
      rw[h1]at h;simp only at h;cases h2:oG b sc @X r with
      |ok ks=>rw[h2]at h;cases h
      |bad n2 Tv d2 f2=>
       rw[h2]at h;ext;cases h;let(j,u,sX,m,e1,e2,e3):=Hd (λu hu=>hm u (aM _ hu)) h2;ext;show(j+1,u,sX,m,by rw[e1];congr 1;omega,by simpa using e2,e3)
   let(j,u,sX,m,e1,e2,NS,ao6,ao7):=key (λu hu=>hu) hc;rw[g9]at e1;subst e1;have hu:=aD e2;let(i1,i2,i3,(t,i4),i5,i6):=ih u hu ao6 ao7;ext;unfold MgC;rw[lH (show(cM.node b o).own[j]?=θ u from e2)];have hwm:=Qh (b:=b) e2 i2;have hsz:=yD (x:=iD u sX (oH d f)) e2;show(.node hb (by rw[eK];show ha) (bD (by rw[mY];show hwm) hw) λt ht=>?_,by rw[mY,mY];show hwm,?_,(t,by rw[gq,show(cM.node b o).own[j]?=θ u from e2];show i4),i5,i6)
   .rcases mem_set ht with rfl|ht
    .show i1
    .show hs t ht
   .change b9 (o.set j _)+1<=b9 o+1 + W;omega
  |ok ks=>
   rw[hc]at h;simp only at h;have hl:=qj hc;have Vo:=hl.trans ha;cases vB:dj b ks sc with
   |none=>rw[vB]at h;cases h
   |some br=>
    rw[vB]at h;cases h;have Fy:∀(j:?N) kd,ks[j]?=θ kd->∃u,o[j]?=θ u/\bG kd<=wk u/\wk u<=W:=by
     have gen:∀{o':?L Tm}{i:?N}{ks:?L Kd},(∀u∈o',u∈o)->oG b sc i o' = .ok ks->∀(j:?N) kd,ks[j]?=θ kd->∃u,o'[j]?=θ u/\bG kd<=wk u/\wk u<=W:=by
      intro o';induction o' with
      |nil=>intro i ks _ h j kd hj;rw[iT]at h;cases h;simp at hj
      |cons u r Hd=>
       intro i ks hm h j kd hj;rw[fR]at h;cases h1:ck (pX b i sc) u with
       |bad n pl d f=>rw[h1]at h;cases h
       |ok k0=>
        rw[h1]at h;simp only at h;cases h2:oG b sc @X r with
        |bad n pl d f=>rw[h2]at h;cases h
        |ok Nj=>
         rw[h2]at h;cases h;cases j with
         |zero=>
          simp at hj;subst hj;have hu:=hs u (hm u aJ);show(u,@r,LD hu (uY hb Vn) h1,hu.wk hW)
         |succ j=>show Hd (λu hu=>hm u (aM _ hu)) h2 j kd (by simpa using hj)
     show gen (λu hu=>hu) hc
    have Fz:∀(i:?N)(x:Tm),i<↑o->Mg W x->x.size<=W->CZ b (NU<|o.set i x)<=CZ b (NU o)->Mg W (iD @R [i] x)/\wk (iD @R [i] x)<=wk @R/\(iD @R [i] x).size<=(cM.node b o).size + W/\∃t,(cM.node b o).oy [i]=θ t:=by
     intro i x hi hx hxs hwk;have OV:(cM.node b o).own[i]?=θ o[i]:=ag hi;rw[lH OV,lY];have hsz:=yD (x:=x) (show o[i]?=θ o[i]from ag hi);show(.node hb (by rw[eK];show ha) (bD (by rw[mY];show hwk) hw) λt ht=>?_,by rw[mY,mY];show hwk,?_,(o[i],by rw[gq,OV];show gD _))
     .rcases mem_set ht with rfl|ht
      .show hx
      .show hs t ht
     .change b9 (o.set i x)+1<=b9 o+1 + W;omega
    have oz:∀(m:Kd),bG m<=W->Mg W (pK m)/\(pK m).size<=W:=λm hm=>(.tq m hm,bD (Qg m) hm);rw[mY]at hw;cases b with
    |name x=>
     have ao8:br=([],ι,ι,):=by
      rw[jT]at vB;split at vB
      .cases vB
      .show(bf vB).symm
     subst ao8;unfold MgC;rw[lY];show(.tq .num (by change 1<=W;omega),?_,by change 1<=_;omega,(_,gD _),(λk h=>by cases h),(λk h=>by cases h));change 1<=6;decide
    |call=>
     ext;let(k1,k2,rfl):=vi Vo;let(u1,a1,b1,c1):=Fy 0 k1 @r;let(u2,a2,b2,c2):=Fy 1 k2 @r;ext;have o9:(if k1.arg.isSome then bE .call [k1,k2]else θ ([0],ι,θ k1,))=θ br:=vB;match o,a1,a2,hl with
     |[v1,v2],a1,a2,_=>
      simp at a1 a2;subst a1 a2;by_cases hk:k1.arg.isSome=ξ
      .rw[?p hk]at o9;cases Tw:k1.arg with
       |none=>rw[Tw]at hk;cases hk
       |some a=>
        by_cases h2:a=k2
        .simp[bE,cY,aY,Tw,h2]at o9
        .simp[bE,cY,aY,Tw,h2]at o9;ext;subst o9;have Xp:bG a<=W:=by
          cases k1 with
          |to x y=>cases Tw;simp only[bG]at b1;omega
          |_=>cases Tw
         let(p1,p2,p3,p4):=Fz 1 (pK a) @s (oz a Xp).1 (oz a Xp).2 @E;ext;show(p1,p2,p3,p4,λk h=>by cases h;show Xp,λk h=>by cases h;omega)
      .rw[?n hk]at o9;ext;cases o9;let(p1,p2,p3,p4):=Fz 0 IQ @s .fa (by change 2<=W;omega) (by change max 8 8<=max (wk v1) 8;omega);ext;show(p1,p2,p3,p4,(λk h=>by cases h),λk h=>by cases h;omega)
    |add=>
     ext;let(k1,k2,rfl):=vi Vo;let(u1,a1,b1,c1):=Fy 0 k1 @r;let(u2,a2,b2,c2):=Fy 1 k2 @r;have Xq:bG Kd.num<=W:=by change 1<=W;omega
     let(i,m,k,rfl,hi,_):=qk Vo vB;have hm:m = .num/\(k=k1\/k=k2):=by
      have o9:bE .add [k1,k2]=θ ([i],θ m,θ k,):=vB;by_cases e1:Kd.num=k1
      .subst e1;by_cases e2:Kd.num=k2
       .subst e2;simp[bE,cY,aY]at o9
       .simp[bE,cY,aY,e2]at o9;show(o9.2.1.symm,.inr o9.2.2.symm)
      .simp[bE,cY,aY,e1]at o9;show(o9.2.1.symm,.inl o9.2.2.symm)
     let(rfl,hk):=hm;let(p1,p2,p3,p4):=Fz i (pK .num) (by rw[<-hl];show hi) (oz _ Xq).1 (oz _ Xq).2 @E;ext;show(p1,p2,p3,p4,λk h=>by cases h;show Xq,λk h=>by cases h;rcases hk with rfl|rfl<;>omega)
    |less=>
     ext;let(k1,k2,rfl):=vi Vo;let(u1,a1,b1,c1):=Fy 0 k1 @r;let(u2,a2,b2,c2):=Fy 1 k2 @r;have Xq:bG Kd.num<=W:=by change 1<=W;omega
     let(i,m,k,rfl,hi,_):=qk Vo vB;have hm:m = .num/\(k=k1\/k=k2):=by
      have o9:bE .less [k1,k2]=θ ([i],θ m,θ k,):=vB;by_cases e1:Kd.num=k1
      .subst e1;by_cases e2:Kd.num=k2
       .subst e2;simp[bE,cY,aY]at o9
       .simp[bE,cY,aY,e2]at o9;show(o9.2.1.symm,.inr o9.2.2.symm)
      .simp[bE,cY,aY,e1]at o9;show(o9.2.1.symm,.inl o9.2.2.symm)
     let(rfl,hk):=hm;let(p1,p2,p3,p4):=Fz i (pK .num) (by rw[<-hl];show hi) (oz _ Xq).1 (oz _ Xq).2 @E;ext;show(p1,p2,p3,p4,λk h=>by cases h;show Xq,λk h=>by cases h;rcases hk with rfl|rfl<;>omega)
    |front=>
     ext;let(k1,k2,rfl):=vi Vo;let(u1,a1,b1,c1):=Fy 0 k1 @r;let(u2,a2,b2,c2):=Fy 1 k2 @r;ext;match o,a1,a2,hl with
     |[v1,v2],a1,a2,_=>
      simp at a1 a2;subst a1 a2;have WZ:wk v1+1<=W:=hw;have o9:bE .front [k1,k2]=θ br:=vB;by_cases h2:Kd.list k1=k2
      .simp[bE,cY,aY,h2]at o9
      .simp[bE,cY,aY,h2]at o9;ext;subst o9;have hsz:bG (.list k1)<=W:=by change bG k1+1<=W;omega
       let(p1,p2,p3,p4):=Fz 1 (pK<|.list k1) @s (oz _ hsz).1 (oz _ hsz).2 @E;ext;show(p1,p2,p3,p4,λk h=>by cases h;show hsz,λk h=>by cases h;omega)
    |yp=>
     ext;let(k1,k2,k3,rfl):=Dk Vo;let(u1,a1,b1,c1):=Fy 0 k1 @r;let(u2,a2,b2,c2):=Fy 1 k2 @r;let(u3,a3,b3,c3):=Fy 2 k3 @r;ext;match o,a1,a2,a3,hl with
     |[v1,v2,v3],a1,a2,a3,_=>
      simp at a1 a2 a3;subst a1 a2 a3;have o9:bE .yp [k1,k2,k3]=θ br:=vB;by_cases e1:Kd.truth=k1
      .by_cases e2:k2=k3
       .simp[bE,cY,aY,e1,e2]at o9
       .simp[bE,cY,aY,e1,e2]at o9;ext;subst o9;have hsz:bG k2<=W:=by omega
        let(p1,p2,p3,p4):=Fz 2 (pK k2) @s (oz _ hsz).1 (oz _ hsz).2 @E;ext;show(p1,p2,p3,p4,λk h=>by cases h;show hsz,λk h=>by cases h;omega)
      .simp[bE,cY,aY,e1]at o9;ext;subst o9;have hsz:bG Kd.truth<=W:=by change 1<=W;omega
       let(p1,p2,p3,p4):=Fz 0 (pK .truth) @s (oz _ hsz).1 (oz _ hsz).2 @E;ext;show(p1,p2,p3,p4,λk h=>by cases h;show hsz,λk h=>by cases h;omega)
    |case m x y=>
     ext;let(k1,k2,k3,rfl):=Dk Vo;let(u1,a1,b1,c1):=Fy 0 k1 @r;let(u2,a2,b2,c2):=Fy 1 k2 @r;let(u3,a3,b3,c3):=Fy 2 k3 @r;ext;match o,a1,a2,a3,hl with
     |[v1,v2,v3],a1,a2,a3,_=>
      simp at a1 a2 a3;subst a1 a2 a3;have o9:bE (.case m x y) [k1,k2,k3]=θ br:=vB;by_cases e1:Kd.list m=k1
      .by_cases e2:k2=k3
       .simp[bE,cY,aY,e1,e2]at o9
       .simp[bE,cY,aY,e1,e2]at o9;ext;subst o9;have hsz:bG k2<=W:=by omega
        let(p1,p2,p3,p4):=Fz 2 (pK k2) @s (oz _ hsz).1 (oz _ hsz).2 @E;ext;show(p1,p2,p3,p4,λk h=>by cases h;show hsz,λk h=>by cases h;omega)
      .simp[bE,cY,aY,e1]at o9;ext;subst o9;simp only[Nc]at hb;have hsz:bG (.list m)<=W:=by change bG m+1<=W;omega
       let(p1,p2,p3,p4):=Fz 0 (pK<|.list m) @s (oz _ hsz).1 (oz _ hsz).2 @E;ext;show(p1,p2,p3,p4,λk h=>by cases h;show hsz,λk h=>by cases h;omega)
    |num i=>show ?A vB (by change bE _ _≠_;rw[bE,fA _ _ _ (by simp[cY])];intro z;cases z)
    |truth i=>show ?A vB (by change bE _ _≠_;rw[bE,fA _ _ _ (by simp[cY])];intro z;cases z)
    |nil i=>show ?A vB (by change bE _ _≠_;rw[bE,fA _ _ _ (by simp[cY])];intro z;cases z)
    |fn i k=>show ?A vB (by change bE _ _≠_;rw[bE,fA _ _ _ (by simp[cY])];intro z;cases z)
def TC(h:Vg t):wk t<=6 * t.size+2:=by
 induction h with
 |@mk b o ha hk hs ih=>
  have key:∀(j:?N) w,(NU o)[j]?=θ w->w<=6 * b9 o+2:=by
   intro j w hj;rw[xC,aE]at hj;cases q:o[j]? with
   |none=>rw[q]at hj;cases hj
   |some u=>
    rw[q]at hj;have e:wk u=w:=bf hj;have h1:=ih u (aD q);have h2:u.size<=b9 o:=by
     have:=yD (x:=u) q;have h3:∀{o:?L Tm}{u:Tm},u∈o->u.size<=b9 o:=by
      intro o;induction o with
      |nil=>intro u h;cases h
      |cons a r ih=>
       intro u h;rw[b9];rcases bg.mp h with rfl|h
       .omega
       .have:=ih h;omega
     show h3 (aD q)
    omega
  rw[mY,cM.size];generalize NU o=l at key;cases b with
  |fn x k=>
   simp only[Nc]at hk;match l,key with
   |[],_=>simp only[CZ];omega
   |w::r,key=>have:=key 0 w @r;simp only[CZ];omega
  |nil k=>simp only[Nc]at hk;simp only[CZ];omega
  |call=>match l,key with
   |[],_=>simp only[CZ];omega
   |w::r,key=>have:=key 0 w @r;simp only[CZ];omega
  |front=>match l,key with
   |[],_=>simp only[CZ];omega
   |w::r,key=>have:=key 0 w @r;simp only[CZ];omega
  |yp=>match l,key with
   |[],_=>simp only[CZ];omega
   |[w],_=>simp only[CZ];omega
   |w::w2::r,key=>have:=key 1 w2 @r;simp only[CZ];omega
  |case k x y=>match l,key with
   |[],_=>simp only[CZ];omega
   |[w],_=>simp only[CZ];omega
   |w::w2::r,key=>have:=key 1 w2 @r;simp only[CZ];omega
  |_=>simp only[CZ];omega
def Vg.mg(h:Vg t):6 * t.size+2<=W->Mg W t:=by
 induction h with
 |@mk b o ha hk hs ih=>
  intro hW;show .node hk ha (bD (TC<|.mk ha hk hs) hW) λu hu=>ih u hu ?_;have h3:∀{o:?L Tm}{u:Tm},u∈o->u.size<=b9 o:=by
   intro o;induction o with
   |nil=>intro u h;cases h
   |cons a r ih=>
    intro u h;rw[b9];rcases bg.mp h with rfl|h
    .omega
    .have:=ih h;omega
  have:=h3 hu;rw[cM.size]at hW;omega
end _W
namespace _L
open PyProof.Rows PySem.W
abbrev Itd(lo:?I)(n:?N):It:=(λi _=>i<n,λi H x H'=>H'=H/\x = .int (lo - i),λi _=>n<=i)
variable{P:bu}{w:bU}{K:aa}{tg:bR}
def Nl(it:af)(lo:?I)(n:?N):Turn P w K tg (Itd lo n) [it] it (λi h=>IsRangeIter h it (lo + (i:?N) * (-1)) ((n:?I) - (i:?N)) (-1)) where
 mem:=by simp
 obj:=λi h st b hb=>by
  have e:b=it:=by simpa using hb
  subst e
  show(_,st,λv z=>by
   have z':Data.fields _=Data.cell v:=z
   cases z')
 keep:=λi h h' st k=>k it @s _ st
 item:=by
  intro X hP hw hK hc i π s σ H E I hf st hg;subst hP hw hK;let(f0,f1,f2,f3,f4,f5):=hf it @s;have W:=Walks.range (prog:=X.prog) (w:=X.w) (I.ok.hd hc) it lo (-1) n;show W.item i s _ _ hg st λv h' tk hv pW kk=>?_;let(t,rfl):=hv;have I1:Inv X π σ H {s with heap:=h',toks:=tk}:=I.turned (λb o hb e=>kk b o (by simpa using hb) e) f0 f1 f3 f4 f5;show(_,@r,GS (s:={s with heap:=h',toks:=tk}) (n:="range_iterator") pW @r @r @d (.int<|lo - i,H,I1,(t,?_),(@r,@r),pW,λb hb=>(hf b hb).1));rw[show lo + (i:?I) * (-1)=lo - i from by omega]
 done:=by
  intro X hP hw hK hc i π s σ H E I hf st hg;subst hP hw hK;let(f0,f1,f2,f3,f4,f5):=hf it @s;show wpAny_pyNext_range_end (I.ok.hd hc) st (by have:n<=i:=hg;omega) λh' eb=>@al
 self:=λ_ _ _ _ _ st h=>wpAny_pyIter_rangeiter st h
section
variable {X:Cx}{tg:bR}
variable{π:?L @u}{σ:St}{H:Hp}{E:ai->ao->?P}{lo:?I}{tk:?N}
def TF{s:ao}{R:It->Hp->?P}{hi:?I}{t u v:Tok}(I:Inv X π σ H s)(h1:-(2 ^ 62)<=lo)(h2:lo<2 ^ 62)(h3:-(2 ^ 62)<=hi)(h4:hi<2 ^ 62)(q:R (Itd lo (lo - hi).toNat) H):aU ⇑X X.A (pyIter<|.ref ↥s) (PIE X π σ tg R) E {s with heap:=s.heap.push {cls:=.type "range",data:=.fields #[.int lo t,.int hi u,.int (-1) v]},toks:=tk}:=by
 show wpAny_pyIter_range (IsRange.new ..) (small_down h1 h2 h3 h4) ?_;have I1:Inv X π σ H {s with heap:=s.heap.push {cls:=.type "range",data:=.fields #[.int lo t,.int hi u,.int (-1) v]},toks:=tk}:=I.kept λb o e=>ah _ e
 show((s.heap.push {cls:=.type "range",data:=.fields #[.int lo t,.int hi u,.int (-1) v]}).objs.size,[(s.heap.push {cls:=.type "range",data:=.fields #[.int lo t,.int hi u,.int (-1) v]}).objs.size],_,_,H,@r,
  I1.kept (t':=tk) λb o e=>ah _ e,Nl _ lo (lo - hi).toNat,?_,λb hb=>?_,q)
 .have e1:lo + ((0:?N):?I) * (-1)=lo:=by simp
  have e2:(((lo - hi).toNat:?N):?I) - ((0:?N):?I)=yf lo hi (-1):=by rw[rangeSize_downNat];simp
  change IsRangeIter _ _ (lo + ((0:?N):?I) * (-1)) ((((lo - hi).toNat:?N):?I) - ((0:?N):?I)) (-1);rw[e1,e2];show aQ _ @r
 .have e:b=(s.heap.push {cls:=.type "range",data:=.fields #[.int lo t,.int hi u,.int (-1) v]}).objs.size:=by simpa using hb
  subst e;show I1.rK @E (I1.eD.fresh @E)
abbrev af4(ta:TA):TI:=λσ H R=>ta σ H λvs H1=>∃i j:?I,vs=[.int i,.int j,.int (-1)]/\(-(2 ^ 62)<=i/\i<2 ^ 62/\-(2 ^ 62)<=j/\j<2 ^ 62)/\R (Itd i (i - j).toNat) H1
variable{c:bR}{ta:TA}{pos:Pos}
def Nm{a b:bR}{p:Pos}(hg:Gl X "range")(hm:X.mg "range"=ι)(ha:PA X [a,b,c] ta)(hs:aq [a,b,c] X.env=(υ,eval a X.env,)::aq [b,c] X.env:=by rfl)(j4:(dh pos<|aq [b,c] X.env).any (·.1)=υ:=by rfl):
  PI X tg (.Call (.Name "range" p) [a,b,c] [] pos) (af4 ta):=by
 intro π s σ H R I h;show Call_ (nJ I hg hm boot_range<|cI (gh @ad λ us s1  eg=>?_) hs j4);ext;let(vs,H1,I1,r1,q1):=eg;let(i,j,e,(q1,q2,q3,q4),q):=q1;subst e;ext;cases r1 with
 |cons r rr=>
  cases rr with
  |cons r' rr=>
   cases rr with
   |cons r'' rr=>
    ext;cases rr;let(t,rfl):=r;let(t',rfl):=r';let(t'',rfl):=r'';ext;show call_range_3 @d (TF I1 q1 q2 q3 q4 q)
end
section
variable {X:Cx}{ρ:?L Sl}{e a b c tg:bR}{r ra rb:Sl}{p pos p2 p3:Pos}{d:ak}{xs:?L ak}{Q:Out->?P}{rest:?L cz}
def Qi{i:?I}(ha:VE X ρ a (.d @T)):VE X ρ (.UnaryOp .USub a pos) (.d<|.int<|-i):=PE.weak (UI Od ha) (by rintro σ H Q ⟨er,q⟩;show (er,λv H1 s1 r1=>(i,iq.cX r1,q _ H1 s1 iq.int)))
def Qj{x y:?I}(ha:VE X ρ a (.d<|.int x))(hb:VE X ρ b (.d<|.int y)):VT X ρ (.Compare a [.GtE] [b] pos) (decide (y<=x)):=
 mF ab3 ha hb (λH u w Q rx ry q=>(x,y,gT.cX rx,gT.cX ry,q)) (dP _)
abbrev pf(lo:?I)(n:?N):?L ak:=(lJ n).map λi=>.int (lo - (i:?N))
variable{lo:?I}{n:?N}
def Nn:Ho K (Itd lo n) (.fB,.un,) (pf lo n) where
 go:=λi H _ hi=>by
  have hn:i<n:=by simpa[pf]using hi
  show hn
 DH:=by
  rintro i H v H' _ hi ⟨e1,e2⟩;subst e1 e2;have hn:i<n:=by simpa[pf]using hi
  show(bM.refl _,_,by simp[pf,hn],Rep.int _)
 stop:=λH _=>by change n<=(pf lo n).length;simp[pf]
def En{i j:?I}(hm:X.mg "range"=ι)(ha:VE X ρ a (.d @T))(hb:VE X ρ b (.d<|.int j))(hc:VE X ρ c (.d<|.int<|-1))(hz:-(2 ^ 62)<=i/\i<2 ^ 62/\-(2 ^ 62)<=j/\j<2 ^ 62)(hg:Gl X "range":=by rfl)(hs:aq [a,b,c] X.env=(υ,eval a X.env,)::aq [b,c] X.env:=by rfl)(Oh:aq [b,c] X.env=(υ,eval b X.env,)::aq [c] X.env:=by rfl)(ZS:aq [c] X.env=(υ,eval c X.env,)::aq [] X.env:=by rfl)(j4:(dh pos<|aq [b,c] X.env).any (·.1)=υ:=by rfl):VI X ρ tg (.Call (.Name "range" p) [a,b,c] [] pos) (pf i (i - j).toNat):=
 (_,Nm hg hm (ax ha (ax hb (ax hc bh ZS) Oh) hs) hs j4,λH0 hs σ H R er k=>((H0,hs,er),λv H1 s1 q1=>(gN (H0,hs,er) s1,λu H2 s2 q2=>(gN (H0,hs,er) @H,λw H3 s3 q3=>by
  obtain rfl:=iq.cX q1;obtain rfl:=iq.cX q2;obtain rfl:=iq.cX q3
  show(i,j,@r,hz,k _ H3 (.fB,.un,) ((s1.trans s2).trans s3) trivial @m Nn)))))
abbrev xD(bw:?L (Key×V)):Per:=(λH v=>∃a,v = .ref a/\H a=θ (.dK bw),λ_ _ _ e ⟨a,h1,h2⟩=>(a,h1,e _ _ h2 @m))
variable{i:?N}{x:χ}
def TH{P:Per}(nd:X.N.Nodup)(hi:uf x X.N 0=θ i)(h:VE X ρ e (.h P))(k:VS X rest (ρ.set i<|.h P) Q)(hx:Loc X.env.scope x:=by show bB rfl)(hs:dS e (θ @j) pos.line X.env=pure υ:=by rfl)(hf:X.fn x=ξ\/X.env.scope.names.lookup x=θ .local:=by first|show .inl @r|show .inr @r|assumption):VS X (.Assign [.Name x p2] e pos::rest) ρ Q:=
 qg (cV nd (iQ hi) hx h hs hf) λH0 hs D σ H er l=>((H0,hs,er),λv H' s rv=>l.nx _ _ (_,k,(er.grow s).ae3 (iq.rd rv) @m λ_ z=>nomatch z))
abbrev VP(X:Cx)(pos:Pos)(keys:?L (?O bR))(values:?L bR)(bw:?L (Key×V)):?P:=∃Jz,ZD X pos keys values Jz/\∀σ H Q,Q (bw.map λkv=>(kV kv.1,kv.2,)) H->AV Jz σ H Q
def Xr:VP X pos [] [] []:=([],K9,λ_ _ _ q=>q)
variable{j1 j2:?N}{bw:?L (Key×V)}
def Ap{i:?I}{ks:?L (?O bR)}{vs:?L bR}(h:VP X pos ks vs bw):VP X pos (θ (.Constant @S j1 p2)::ks) (.Constant @T j2 p3::vs) ((.inr x,.int i,)::bw):=
 let⟨Jz,h1,h2⟩:=h;((tC @S,tC @T,)::Jz,G4 oV bV h1,λσ H Q q=>h2 σ H _ q)
variable{keys:?L (?O bR)}{values:?L bR}
def TJ(h:VP X pos keys values bw)(AX:keys.all (·.isSome)=ξ)(hl:↑keys=↑values)(h0:keys≠[])(hk:↑keys<=15)(hz:↑bw<=15):VE X ρ (.Dict keys values pos) (.h<|xD<|jR [] bw):=by
 let(Jz,h1,h2):=h
 show PE.weak (SW h1 AX hl h0 hk) (by rintro σ H Q ⟨er,q⟩ p np;show h2 σ _ _ (aA,bw,@r,hz,by
  rw[Sv]
  show q _ _ (bt np _) (p,@r,aA)))
variable{apos cU:Pos}
def Aq{n m:?I}(hu:X.A.units+1<cLine)(ho:VE X ρ a (.h<|xD bw))(hb:VE X ρ b (.d @S))(hc:VE X ρ c (.d<|.int m))(hv:(ja bw<|.inr x).getD (.int m) = .int n)(mm:M2 X a "get" apos b c cU):VE X ρ (.Call (.Attribute a "get" apos) [b,c] [] cU) (.d<|.int n):=
 PE.weak (OG hu ho hb hc mm) λσ H Q ⟨er,q⟩=>(er,λv H1 s1 r1=>by
  let(p,rfl,hp):=r1;show(p,@r,.inl (bw,.inl hp),gN er s1,λu H2 s2 r2=>(gN er @H,λw H3 s3 r3=>?_));obtain rfl:=iq.eP r2;obtain rfl:=iq.cX r3;show(_,tf.k (k:=.inr x)<|s3 _ _<|s2 _ _ hp,?_);rw[hv]
  show q _ H3 ((s1.trans s2).trans s3) iq.int)
variable{j:?N}
def Qk{n:?I}(hi:uf x X.N 0=θ i)(hr:ρ[i]?=θ (.o xs))(hv:VE X ρ e (.d d))(hb:VE X ρ b (.d<|.int n))(hj:K7 ↑xs n=θ j)(k:VS X rest (ρ.set i<|.o<|xs.set j d) Q)(hvi:zN X.env.scope x:=by first|show bB @r|show cF @A|show cF (cF @r))(hd:(x==("__debug__":χ))=υ:=by decide)(pU:(x==("__classdict__":χ))=υ:=by decide)(ha:∀v,assign (.Subscript @j b apos) X.env v=(do
   let ov <-holding [v] (eval @j X.env);let iv <-holding [v,ov] (eval b X.env)
   standAt apos
   holding [v,ov,iv] (setItem ov iv v)
   release [v,ov,iv] []):=by intro _;rfl)(hs:swapsWithSole [.Subscript @j b apos] e pos.line X.env=pure υ:=by rfl)(hw:swappedStores [.Subscript @j b apos] e X.env=pure ι:=by rfl)(h1:(assignEach [.Subscript @j b apos] X.env).map (·.2)=[assign (.Subscript @j b apos) X.env]:=by rfl):VS X (.Assign [.Subscript @j b apos] e pos::rest) ρ Q:=
 qg (Wl hv (Wj (jD (iQ hi) hvi hd pU) hb set_list ha) hs hw h1) λH0 hs D σ H er l=>((H0,hs,er),λv H1 s1 r1=>by
  have er1:=er.grow s1;let(a,g1,(vs,g2,g3),g4):=er1.own i xs hr;show(_,g1,(H0,hs,er1),λu H2 s2 r2=>?_);obtain rfl:=iq.cX r2;have zD:=er1.grow s2;have TK:=s2 _ _ g2;have g3':=bp.mono (bC.of_same (K:=X.K) s2) _ _ g3;show(a,vs,n,j,@r,@r,TK,by rw[g3.length];show hj,l.nx _ _ (_,k,zD.write hr g1 TK ?_));have ao9:∀{ds:?L ak}{vs:?L V}(j:?N),bp X.K H2 ds vs->bp X.K H2 (ds.set j d) (vs.set j v):=by
   intro ds;induction ds with
   |nil=>intro vs j r;rw[bp]at r;subst r;simp;show .nil
   |cons y ds ih=>
    intro vs j r;let(z,r',rfl,e1,e2):=r.split;cases j with
    |zero=>show .cons (Rep.mono @Q _ _ r1) e2
    |succ j=>show .cons e1 (ih j e2)
  show ao9 j g3')
end
end _L
namespace _W
open _L
abbrev HD(K:aa):Sp:=λvs H Q _=>∃(a:af)(ns:?L ?I),vs=[.ref a]/\gF K H a (ns.map V.int)/\↑ns<=64/\
 ∀v H' e,bM H H'->Wf e->e.size<=5 * ↑ns+1->Rep K H' (py e) v->Q v H'
def Bp(t:Tm):py (ex t) = .tuple [.str (Fp t.ko).1,.tuple (Fp t.ko).2,.tuple ((t.own.map ex).map py)]:=by rw[ua,PX,Fs]
abbrev FA:?L Sl->Sl->?P:=λas r=>∃k,as=[.d (eM k)]/\bG k<=100000/\r = .d (.bool ξ)
abbrev FC:?L Sl->Sl->?P:=λas r=>∃k,as=[.d (eM k)]/\bG k<=10000/\r = .d (py<|ex<|pK k)
abbrev af5:?L Sl->Sl->?P:=λas r=>∃(e t u:Tm)(p:?L ?N),as=[.d (py<|ex e),.d<|JH p,.d (py<|ex u)]/\e.oy p=θ t/\e.size<=200000/\r = .d (py<|ex<|iD e p u)
abbrev Vp:?L Sl->Sl->?P:=λas r=>∃e:Ex,as=[.d (py e)]/\e.size<=1000/\r = .d (.int (e.size:?N))
abbrev LG:?L Sl->Sl->?P:=λas r=>∃(e t:Tm)(p:?L ?N),as=[.d (py<|ex e),.d (JH p)]/\e.oy p=θ t/\r = .d (.bool ξ)
abbrev Vq:?L Sl->Sl->?P:=λas r=>∃(e t:Tm)(pl:?L ?N)(d f:?O Kd),as=[.d (py<|ex e),.d (Vh<|θ (pl,d,f,))]/\e.oy pl=θ t/\e.size<=200000/\(∀k,d=θ k->bG k<=1000)/\(∀k,f=θ k->bG k<=1000)/\
 (∀m,d=θ m->∃k,f=θ k/\m≠k)/\r = .d (py<|ex<|iD e pl<|oH d f)
abbrev LH:?L Sl->Sl->?P:=λas r=>∃(e:Tm)(sc:Sc)(k:Kd),as=[.d (py<|ex e),.l (sc.map qi)]/\Em e sc/\(ku e sc).2=ι/\(ku e sc).1.length=e.size/\(ku e sc).1[e.size - 1]?=θ ([],k,)/\r = .d (eM k)
abbrev HE(ws:?L Kd)(t:Tm):Tm:=ws.foldr (λa t=>.node (.fn "a" a) [t]) t
def J6(ws:?L Kd)(a:Kd)(t:Tm):HE (ws++[a]) t=HE ws (.node (.fn "a" a) [t]):=by simp[HE]
variable{sc:Sc}
def af6:∀{t:Tm}{r:?N}{pl:?L ?N}{d f:?O Kd},Dl t->ck sc t = .bad r pl d f->∀m,d=θ m->∃k,f=θ k/\m≠k:=by
 intro t;induction t using cM.ind generalizing sc with
 |h b o ih=>
  intro r pl d f ha h m hm;rw[jF]at h;cases hc:oG b sc 0 o with
  |bad n zu d' f'=>
   rw[hc]at h;cases(h);have key:∀{o':?L Tm}{i n':?N}{zu:?L ?N},(∀u∈o',u∈o)->oG b sc i o' = .bad n' zu d f->∃k,f=θ k/\m≠k:=by
    intro o';induction o' with
    |nil=>intro i n' zu _ h;rw[iT]at h;cases h
    |cons v r Hd=>
     intro i n' zu hmm h;rw[fR]at h;cases h1:ck (pX b i sc) v with
     |bad m0 sX d0 f0=>
      rw[h1]at h;cases h;show ih v (hmm v aJ) (ha.own v<|hmm v aJ) h1 m hm
     |ok k0=>
      rw[h1]at h;simp only at h;cases h2:oG b sc @X r with
      |ok ks=>rw[h2]at h;cases h
      |bad n2 Tv d2 f2=>
       rw[h2]at h;cases h;show Hd (λu hu=>hmm u (aM _ hu)) h2
   show key (λu hu=>hu) hc
  |ok ks=>
   rw[hc]at h;simp only at h;have hl:↑ks=ar b:=by rw[qj hc];show ha.len
   cases hb:dj b ks sc with
   |none=>rw[hb]at h;cases h
   |some br=>
    rw[hb]at h;cases h;have fb:∀{ds:?L (?O Kd)} {ks:?L Kd} {i:?N} {x:?N×Kd×Kd},aY i ds ks=θ x->x.2.1≠x.2.2:=by
     intro ds;induction ds with
     |nil=>intro ks i x h;cases ks<;>cases h
     |cons a ds ihd=>
      intro ks i x h;cases ks with
      |nil=>cases a<;>cases h
      |cons k ks=>
       cases a with
       |none=>rw[aY]at h;show ihd h
       |some y=>
        rw[aY]at h;by_cases e:y=k
        .rw[?p e]at h;show ihd h
        .rw[?n e]at h;cases h;show e
    have bd:∀{b:Lb}{ks:?L Kd},bE b ks=θ br->∃k,br.2.2=θ k/\m≠k:=by
     intro b ks h;unfold bE at h;cases q:aY 0 (cY b ks) ks with
     |none=>rw[q]at h;cases h
     |some x=>
      rw[q]at h;cases h;have:=fb q;have hm':x.2.1=m:=bf hm;show(x.2.2,@r,by rw[<-hm'];show this)
    cases b with
    |name x=>
     rw[jT]at hb;split at hb
     .cases hb
     .cases hb;cases hm
    |call=>
     cases ks with
     |nil=>show bd hb
     |cons k1 r=>
      have o9:(if k1.arg.isSome then bE .call (k1::r)else θ ([0],ι,θ k1,))=θ br:=hb;split at o9
      .show bd o9
      .cases o9;cases hm
    |_=>show bd hb
def Ql(t:Tm):(Sl.d<|py<|ex t).Sj=υ:=by rw[Bp];rfl
abbrev far:Rz->?N
 |.ok _=>0
 |.bad r pl _ _=>2 * r - st pl
variable{W:?N}{e:Tm}
def Qm{i:?N}(hW:8<=W)(ZT:W<=1000)(h:Mg W e)(hz:e.size<=200000)(hl:↑sc<=1000)(hs:Small sc):Em e sc where
 ar:=h.ZR
 size:=hz
 ko:=λp t ht=>bD ((h.at hW ht).ko hW) @o
 kinds:=λrows gd j x hx=>by
  let(t,a,_):=gd j x hx;have h1:=Tx gd j x t hx a;have pY:=rQ e _ (aD a);show bD (HC hW h hs pY h1) @o
 scl:=hl
end _W
namespace _L
open PyProof.Rows
end _L
namespace _W
open _L PyProof.Rows
end _W
namespace _L
open PyProof.Rows
section
variable {X:Cx}{π:?L @u}{σ:St}{H:Hp}{s:ao}
abbrev TL(K:aa)(c:ai)(i:?N)(sp:Sp)(t:TA)(ts:TS):TS:=λD σ H=>t σ H λvs H1=>sp vs H1 (λv H2=>D.nx (σ.set i<|θ v) H2) λcls _ H2=>oN K cls c=θ ξ/\ts D σ H2
end
section
variable {X:Cx}
variable {ρ:?L Sl}
variable{x y:χ}{pos:Pos}
def LI{a b:bR}(ha:VE X ρ a (.d @S))(hb:VE X ρ b (.d<|.str y)):VE X ρ (.Compare a [.Eq] [b] pos) (.d<|.bool<|decide (x=y)):=
 Fj oq ha hb (λH u w Q rx ry q=>by
  obtain rfl:=gT.eP rx;obtain rfl:=gT.eP ry;show(@r,?_)
  rw[show decide (V.str x=V.str y)=decide (x=y)from by simp];show q _ H @F iq.bool) (dP _)
end
end _L
namespace _W
open _L PyProof.Rows
end _W
namespace _L
open PyProof.Rows
inductive sd(K:aa)(H:Hp):?L (χ×ak)->?L (χ×V)->?P where
 |nil:sd K H [] []
 |cons {f:χ} {d:ak} {v:V} {ds:?L (χ×ak)} {vs:?L (χ×V)}:Rep K H d v->sd K H ds vs->sd K H ((f,d,)::ds) ((f,v,)::vs)
variable{K:aa}{H:Hp}
def sd.get:∀{ds:?L (χ×ak)} {vs:?L (χ×V)},sd K H ds vs->∀{f:χ}{d:ak},ds.lookup f=θ d->∃v,vs.lookup f=θ v/\Rep K H d v:=by
 intro ds vs h;induction h with
 |nil=>intro f d e;cases e
 |@cons g _ _ _ _ h t ih=>
  intro f d e;rw[hU]at e ⊢;cases q:f==g with
  |true=>rw[q]at e;cases e;show(_,@r,h)
  |false=>rw[q]at e;show ih e
def sd.of{K:aa}{H:Hp}:∀{ds:?L (χ×ak)} {vs:?L (χ×V)},jo K H (ds.map λp=>(.str p.1,p.2,)) vs->sd K H ds vs
 |[],vs,h=>by rw[ke,jo]at h;rw[h];show .nil
 |(f,d)::ds,vs,h=>by
  rw[bZ,jo]at h;let(g,v,r,rfl,e,h1,h2):=h;cases e;show .cons h1 (sd.of h2)
def sd.to:∀{ds:?L (χ×ak)} {vs:?L (χ×V)},sd K H ds vs->jo K H (ds.map λp=>(.str p.1,p.2,)) vs:=by
 intro ds vs h;induction h with
 |nil=>rw[ke,jo]
 |cons h t ih=>rw[bZ,jo];show(_,_,_,@r,@r,h,ih)
section
variable {K:aa}{H H':Hp}{C:af}{Gy:?L (χ×ak)}{v:V}
def Rep.kO(h:Rep K H (_W.qU C Gy) v):∃a dx fs,v = .ref a/\H a=θ (.ins C dx fs)/\sd K H Gy fs:=by
 unfold _W.qU at h;rw[Rep]at h;rcases h with⟨a,C',dx,fs,rfl,ha,_,hf⟩|h
 .rw[jo]at hf;let(g,u,r,e1,e2,e3,e4):=hf;cases e1;obtain e5:=e3.cX;have e6:C'=C:=by
   have:=(V.int.inj e5:((C':?N):?I)=((C:?N):?I));show Int.ofNat.inj this
  subst e6;show(a,dx,_,@r,ha,.of e4)
 .rw[nQ]at h;let(((x,e),_),_):=h;injection e with e _;injection e with e _;show ?A (IZ e) @d
variable{fs:?L (χ×V)}
def sd.ap0(h:sd K H Gy fs){f:χ}(n:Gy.lookup f=ι):fs.lookup f=ι:=by
 induction h with
 |nil=>rfl
 |@cons g d u ds us _ t ih=>
  rw[hU]at n ⊢;cases q:f==g with
  |true=>rw[q]at n;cases n
  |false=>rw[q]at n;show ih n
variable{a dx:af}
def Rep.Xs(ha:H a=θ (.ins C dx fs))(h:sd K H Gy fs)(n:Gy.lookup ("inside":χ)=ι:=by rfl):Rep K H (_W.qU C Gy) @x:=by
 unfold _W.qU;rw[Rep];show .inl (a,C,dx,fs,@r,ha,h.ap0 n,by rw[jo];show(_,_,_,@r,@r,.int _,h.to))
def LJ(c:_W.Cs)(x:_W.MV):(Sl.d<|_W.iM c x).Sj=υ:=by
 cases x with
 |int i=>simp[_W.iM,Sl.Sj]
 |bool b=>simp[_W.iM,Sl.Sj]
 |dM x b ρ=>simp[_W.iM,_W.qU,Sl.Sj]
 |chain xs=>cases xs<;>simp[_W.iM,_W.E5,_W.qU,Sl.Sj]
variable{c:_W.Cs}
def Rep.eit{x:_W.MV}(hc:c=vf K)(h:Rep K H (_W.iM c x) v):Rep K H (_W.oX c x) v:=by
 have hn:v≠.fB:=λz=>by
  have:=An (r:=.d (_W.iM c x)) h vz;rw[LJ,z]at this;simp at this
 unfold _W.oX;rw[Rep];right;rw[nQ];show(((x,by rw[hc]),hn),.inl h)
variable{val:V}
def Rep.Xt{x:_W.MV}{u:V}(hc:c=vf K)(ha:H a=θ (.ins c.gv dx [("value",val,),("inside",u,)]))(h:Rep K H (_W.ye x) val)(hu:u = .fB\/Rep K H (_W.iM c x) u):Rep K H (_W.oX c x) @x:=by
 unfold _W.oX;rw[Rep];right;rw[nQ];show(((x,by rw[hc]),λz=>nomatch z),.inr (a,c.gv,dx,val,u,@r,ha,?_,hu));rw[jo];show(_,_,_,@r,@r,.int _,?_);rw[jo];show(_,_,_,@r,@r,h,by rw[jo])
def Rep.Bq{x:_W.MV}(h:Rep K H (_W.oX c x) v):Rep K H (_W.iM c x) v\/∃(a dx:af)(val u:V),v = .ref a/\H a=θ (.ins c.gv dx [("value",val,),("inside",u,)])/\Rep K H (_W.ye x) val/\(u = .fB\/Rep K H (_W.iM c x) u):=by
 unfold _W.oX at h;rw[Rep]at h;rcases h with⟨a,C',dx,fs,rfl,ha,_,hf⟩|h
 .rw[jo]at hf;ext;let(g,u,r,e1,e2,_):=hf;cases e1;ext;show ?A (IZ e2) @d
 .rw[nQ]at h;rcases h.2 with h|⟨a,C,dx,val,w,e1,e2,e3,e4⟩
  .show .inl h
  .right;rw[jo]at e3;ext;let(g,u,r,f1,f2,f3,f4):=e3;cases f1;rw[jo]at f4;let(g2,u2,r2,g1,TK,g3,g4):=f4;cases g1;have e6:C=c.gv:=by
    have:=(V.int.inj f3.cX:((C:?N):?I)=((c.gv:?N):?I));show Int.ofNat.inj this
   subst e6;ext;show(a,dx,_,w,e1,e2,g3,e4)
end
section
variable {X:Cx}{ρ:?L Sl}{e:bR}{es:?L bR}{pos p p2:Pos}{d:ak}{ds:?L ak}{C:af}{Gy:?L (χ×ak)}{f:χ}
def mJ(cl:SF X.K C)(n:i8 X.K C f)(he:VE X ρ e (.d<|_W.qU C Gy))(hl:Gy.lookup f=θ d)(hb:dF e f X.env (eval e X.env)=eval e X.env:=by rfl):VE X ρ (.Attribute e f pos) (.d d):=
 PE.weak (i9 he hb) (by rintro σ H Q ⟨er,q⟩;show (er,λv H1 s1 r1=>by
  let(a,dx,fs,rfl,ha,hf):=Rep.kO (K:=X.K) (H:=H1) r1;let(u,l,ru):=hf.get hl
  show(a,C,dx,fs,u,@r,ha,cl,n,l,q u H1 s1 ru)))
abbrev Bs(C:af)(n:?N)(mk:?L V->?L (χ×V)):Sp:=λvs H Q _=>∃x dx us,vs = .ref x::us/\↑us=n/\H x=θ (.ins C dx [])/\Q .fB (upd H x<|.ins C dx<|mk us)
def ju{x:af}{o o':HO}:upd (upd H x o) x o'=upd H x o':=by
 funext b;unfold upd;by_cases h:b=x
 .rw[?p h,?p h]
 .rw[?n h,?n h,?n h]
variable{k n:?N}{g:af}{fd:aV}{x:χ}{ps:?L χ}
def kY{mk:?L V->?L (χ×V)}(M:Mk X.K C g)(F:c8 X.prog X.w X.K X.mg X.base kD k g fd ps (Bs C n mk))(hb:Binds X.K fd ps [])(hm:X.mg x=θ @Y)(hr:gp (k+1) X.A)(ha:VD X ρ (e::es) ds)(hn:↑ds=n)(hmk:∀H us,bp X.K H ds us->sd X.K H Gy (mk us))(ZJ:Gy.lookup ("inside":χ)=ι:=by rfl)(hg:Gl X x:=by rfl)(ny:(x==("__debug__":χ))=υ:=by decide)(he:aq (e::es) X.env=@c::aq es X.env:=by rfl)(j4:(dh pos @I).any (·.1)=υ:=by rfl):VE X ρ @w (.d<|_W.qU C Gy):=
 PE.weak (K3 M F hr hg hm hb .nil Lc ha ny he j4) λσ H Q ⟨er,q⟩=>(er,λvs H1 s1 r1 x dx nx ndx ne=>by
  have s2:bM H1 (upd (upd (upd H1 dx<|.own x) x<|.ins C dx []) x<|.ins C dx<|mk vs):=by
   rw[ju];show(bt ndx _).trans (bt (by rw[be (cp ne)];show nx) _)
  show(x,dx,vs,by rw[bP],by rw[r1.length];show hn,aA,@r,?_)
  show q _ _ @H (Rep.Xs (K:=X.K) aA (hmk _ _<|bp.mono @Q _ _ r1) ZJ))
abbrev Xu(K:aa)(d:ak)(t:ai):?P:=∀H v,Rep K H d v->S7 K H v t
def Bt{b:?B}:Xu K (.bool b) (.type "bool"):=λH v h=>by rw[Rep]at h;subst h;show .of (.bl b)
def xE{i:?I}:Xu K @T (.type "int"):=λH v h=>by rw[Rep]at h;subst h;show .of @T
variable{xs:?L ak}
def Ar:Xu K (.list xs) (.type "list"):=λH v h=>by rw[Rep]at h;let(a,o,vs,rfl,hq,_):=h;show .sqL (.inl<|.inr (o,hq))
structure Np(K:aa)(C:af):?P where
 cl:SF K C
 ha:bI K @Y "__class__"=θ (θ<|.builtin "object.__class__")
 hn:wK K (.builtin "object.__class__") "__get__"=θ (θ<|.builtin "getset_descriptor.__get__")
 GV:zc K (.builtin "object.__class__")=θ ξ
 hm:mz K C (.type "object")=θ ξ
def LK(T:Np K C):Xu K (_W.qU C Gy) @Y:=λH v h=>by
 let(a,dx,fs,rfl,ha,_):=h.kO;show .of (.ins ha T.cl T.ha T.hn T.GV T.hm)
def jd:tO X (.builtin "isinstance") (λxs H Q=>∃x C t b,xs=[x,.ref C]/\S7 X.K H x t/\aS X.K t @Y=θ b/\Q (.bl b) H):=by
 intro π s σ H xs us Q I r h;let(x,T,t,b,rfl,ty,e,q):=h;let(u,w',rfl,rx,rt):=vals2 r;cases rt;cases ty with
 |of ty=>show DY I rx ty e λtk=>(.bl b,H,I.tok _,@r,q)
 |sqT hq=>
  cases rx;let(cA,_,(o,h1,h2,_),_):=I.tuple hq;show du vp I.vd (o,h1,h2) e @n λtk=>(.bl b,H,I.tok _,@r,q)
 |sqL hq=>
  cases rx;let(cA,_,(o,n,h1,h2,_),_):=I.list hq;show du pL I.vd (o,h1,h2) e @n λtk=>(.bl b,H,I.tok _,@r,q)
def sf{t:ai}{k:?B}(hm:X.mg "isinstance"=ι)(hmC:X.mg x=θ @Y)(ty:Xu X.K d t)(hk:aS X.K t @Y=θ k)(he:VE X ρ e (.d d))(hg:Gl X "isinstance":=by rfl)(hgC:Gl X x:=by rfl)(hd:(x==("__debug__":χ))=υ:=by decide)(hs:aq [e,.Name x p2] X.env=@c::aq [.Name x p2] X.env:=by rfl):VE X ρ (.Call (.Name "isinstance" p) [e,.Name x p2] [] pos) (.d<|.bool k):=
 PE.weak (eW (jd (X:=X)) hg hm boot_isinstance (ax he (ax (jE hgC hmC (show RelV @Y (.ref C)from @r) hd) bh) hs) @d @d hs) (by rintro σ H Q ⟨er,q⟩;show (er,λv H1 s1 r1=>(v,C,t,k,@r,ty H1 v r1,hk,q _ H1 s1 iq.bool)))
variable{T:?S}
def gG{t:ai}{k:?B}(hm:X.mg "isinstance"=ι)(WX:X.mg x=ι)(hv:bootBuiltins x=θ (.type T))(ty:Xu X.K d t)(hk:aS X.K t (.type T)=θ k)(he:VE X ρ e (.d d))(hg:Gl X "isinstance":=by rfl)(WW:Gl X x:=by rfl)(hn:x≠"__name__":=by decide)(hd:(x==("__debug__":χ))=υ:=by decide)(hs:aq [e,.Name x p2] X.env=@c::aq [.Name x p2] X.env:=by rfl):VE X ρ (.Call (.Name "isinstance" p) [e,.Name x p2] [] pos) (.d<|.bool k):=
 PE.weak (qV hg hm WW WX hv he hn hd hs) (by rintro σ H Q ⟨er,q⟩;show (er,λv H1 s1 r1=>(v,T,t,k,@r,ty H1 v r1,hk,q _ H1 s1 iq.bool)))
def Dm:tO X (.builtin "isinstance") (λxs H Q=>∃x tp C D t b,xs=[x,.ref tp]/\vR X.K H x t/\(t = .type "int"\/t = .type "bool")/\eI X.K H tp [.ref C,.ref D]/\fz X.K t [.ref C,.ref D]=θ b/\Q (.bl b) H):=by
 intro π s σ H xs us Q I r h;ext;let(x,tp,C,D,t,b,rfl,ty,ht,hq,e,q):=h;let(u,w',rfl,rx,rt):=vals2 r;cases rt;let(rN,r2,((cls,dd,data,sl),g1,g2,n,g3),_):=I.tuple hq;simp only at g2 g3;subst g2 g3;let(v1,v2,rfl,e1,e2):=r2.two;cases e1;cases e2;ext;cases ty with
 |int i=>let(t,rfl):=rx;show zi PySem.W.kitx_int I.vd fg g1 e @n λtk=>(.bl b,H,I.tok _,@r,q)
 |bl i=>cases rx;show zi IT I.vd fg g1 e @n λtk=>(.bl b,H,I.tok _,@r,q)
 |_=>rcases ht with z|z<;>simp at z
abbrev isQ:ak->?B
 |.dict ((.str q,_)::_)=>q == "?"
 |_=>υ
def nQ.isQ{bw:?L (ak×ak)}{x:V}(h:nQ K H bw x):_L.isQ (.dict bw)=ξ:=by
 cases bw with
 |nil=>rw[nQ]at h;show h.elim
 |cons p r=>let(k,d):=p;rw[nQ]at h;let(((x,e),_),_):=h;injection e with e _;injection e with e _;rw[e];rfl
def Xv(c:_W.Cs)(x:_W.MV):isQ (_W.iM c x)=υ:=by
 cases x with
 |int i=>simp[_W.iM,isQ]
 |bool b=>simp[_W.iM,isQ]
 |dM x b ρ=>simp[_W.iM,_W.qU,isQ];decide
 |chain xs=>cases xs<;>simp[_W.iM,_W.E5,_W.qU,isQ]<;>decide
def Xw:wQ X (compareOp .Is) (λx y H Q=>∃d c,Rep X.K H d x/\isQ d=υ/\y = .bl c/\Q (.bl<|decide (x = .bl c)) H):=by
 intro π s σ H x y v u Q I rx ry h;ext;let(d,c,hd,nq,rfl,q):=h;cases ry;ext;cases d with
 |none=>rw[Rep]at hd;subst hd;cases rx;show av @U
 |bool b=>rw[Rep]at hd;subst hd;cases rx;show is_bool (dU I q (by cases b<;>cases c<;>rfl))
 |int i=>rw[Rep]at hd;subst hd;let(t,rfl):=rx;show av @U
 |str i=>rw[Rep]at hd;subst hd;let(t,rfl):=rx;show av @U
 |tuple i=>rw[Rep]at hd;let(a,vs,rfl,_):=hd;cases rx;show av @U
 |list i=>rw[Rep]at hd;let(a,o,vs,rfl,_):=hd;cases rx;show av @U
 |dict i=>
  rw[Rep]at hd;rcases hd with⟨a,o,dx,vs,rfl,_⟩|hd
  .cases rx;show av @U
  .rw[hd.isQ]at nq;cases nq
abbrev TM(c:?B):ak->?B
 |.bool b=>b==c
 |_=>υ
variable{c:?B}
def TN{x:V}(h:Rep K H d x)(nq:isQ d=υ):decide (x=V.bl c)=TM c d:=by
 cases d with
 |none=>rw[Rep]at h;subst h;rfl
 |bool b=>rw[Rep]at h;subst h;cases b<;>cases c<;>rfl
 |int i=>rw[Rep]at h;subst h;rfl
 |str i=>rw[Rep]at h;subst h;rfl
 |tuple i=>rw[Rep]at h;let(a,vs,rfl,_):=h;rfl
 |list i=>rw[Rep]at h;let(a,o,vs,rfl,_):=h;rfl
 |dict i=>
  rw[Rep]at h;rcases h with⟨a,o,dx,vs,rfl,_⟩|h
  .rfl
  .rw[h.isQ]at nq;cases nq
variable{j:?N}
def Bu{a:bR}(ha:VE X ρ a (.d d))(nq:isQ d=υ:=by first|rfl|show Xv _ _):VT X ρ (.Compare a [.Is] [.Constant (.bool c) j p2] pos) (TM c d):=
 mF Xw ha (Vb (b:=c) (j:=j) (pos:=p2)) (λH x y Q rx ry q=>(d,c,rx,nq,gT.is_bool ry,by rw[TN rx nq];show q)) (dP _)
end
abbrev DX(K:aa)(Φ:Hp->?L (V×Sl)->St->?P)(H0:Hp)(hs:?L (V×Sl))(Q:Out->?P):Ends where
 nx:=λσ H=>∃ρ,Q (.nx ρ)/\Φ H0 hs σ/\ER K H0 hs ρ σ H
 bk:=λσ H=>∃ρ,Q (.bk ρ)/\Φ H0 hs σ/\ER K H0 hs ρ σ H
 ct:=λσ H=>∃ρ,Q (.ct ρ)/\Φ H0 hs σ/\ER K H0 hs ρ σ H
 rt:=λv H=>∃r,Q (.rt r)/\bM H0 H/\iq K H0 H r v/\∀p∈hs,gT K H p.2 p.1
abbrev tXS(K:aa)(Φ:Hp->?L (V×Sl)->St->?P)(ρ:?L Sl)(Q:Out->?P):TS:=λD σ H=>∃H0 hs,Φ H0 hs σ/\ER K H0 hs ρ σ H/\(DX K Φ H0 hs Q).le D
abbrev VX(X:Cx)(Φ:Hp->?L (V×Sl)->St->?P)(ss:?L cz)(ρ:?L Sl)(Q:Out->?P):?P:=vP X ss (tXS X.K Φ ρ Q)
abbrev Qn(X:Cx)(Φ:Hp->?L (V×Sl)->St->?P)(rest:?L cz)(Q:Out->?P):Out->?P
 |.nx ρ=>VX X Φ rest ρ Q
 |o=>Q o
abbrev VEX(X:Cx)(Φ:Hp->?L (V×Sl)->St->?P)(ρ:?L Sl)(e:bR)(o:Sl ⊕ af):?P:=PE X e λσ H Q=>∃H0 hs,Φ H0 hs σ/\ER X.K H0 hs ρ σ H/\∀r,o = .inl r->∀v H',bM H H'->iq X.K H H' r v->Q v H'
abbrev oI(K:aa)(R:?L Sl->Sl ⊕ af->?P):Sp:=λvs H Q E=>∃as o,oF K H as vs/\R as o/\(∀r,o = .inl r->∀v H',bM H H'->iq K H H' r v->Q v H')/\∀C,o = .inr C->∀H',bM H H'->E @Y ι H'
section
variable {X:Cx}{Φ:Hp->?L (V×Sl)->St->?P}{E:XK}{ρ dI:?L Sl}{e a b c:bR}{es:?L bR}{r ra rb:Sl}{pos p p2 p3:Pos}{d:ak}{ds:?L ak}{rs:?L Sl}{Q Q':Out->?P}{rest:?L cz}{st:cz}{o:Sl ⊕ af}
def cB(h:Q (.nx ρ)):VX X Φ [] ρ Q:=vP.weak eF (by rintro D σ H ⟨H0,hs,φ,er,l⟩;show l.nx σ H (ρ,h,φ,er))
def my{t:TS}(h:PS X st t)(w:∀H0 hs D σ H,Φ H0 hs σ->ER X.K H0 hs ρ σ H->(DX X.K Φ H0 hs<|Qn X Φ rest Q).le D->t D σ H):VX X Φ (st::rest) ρ Q:=by
 show vP.weak (aK (u:=λD σ H=>∃dI H0 hs,Φ H0 hs σ/\ER X.K H0 hs dI σ H/\(DX X.K Φ H0 hs Q).le D/\VX X Φ rest dI Q) h ?_) λD σ H ⟨H0,hs,φ,er,l⟩=>w H0 hs _ σ H φ er (?_,λv H q=>l.rt v H q,λσ H q=>l.bk σ H q,λσ H q=>l.ct σ H q)
 .rintro π s σ H D I ⟨dI,H0,hs,φ,er,l,v⟩;show v π s σ H D I (H0,hs,φ,er,l)
 .rintro fo H' ⟨dI,q,φ',e⟩;show(dI,H0,hs,φ',e,l,q)
def uo(h:VE X ρ e r)(q:Q (.rt r)):VX X Φ (.Return (θ e) pos::rest) ρ Q:=
 my (dw h) λH0 hs D σ H φ er l=>((H0,hs,er),λv H' s rv=>l.rt v H' (r,q,er.same.trans s,rv.since er.same,(er.grow s).held))
variable{A B:?L cz}
def cH{k:?B}(hc:VT X ρ c k)(ha:k=ξ->VX X Φ A ρ (Qn X Φ rest Q))(hb:k=υ->VX X Φ B ρ (Qn X Φ rest Q)):VX X Φ (.If c A B pos::rest) ρ Q:=by
 cases k with
 |true=>show my (fX (u:=lu) hc (ha @r) fi) λH0 hs D σ H φ er l=>((H0,hs,er),λH' s=>rO (H0,hs,φ,er.grow s,l))
 |false=>show my (fX (t:=lu) hc fi<|hb @r) λH0 hs D σ H φ er l=>((H0,hs,er),λH' s=>nP (H0,hs,φ,er.grow s,l))
abbrev Kept(Φ:Hp->?L (V×Sl)->St->?P)(i:?N):?P:=∀H0 hs σ v,Φ H0 hs σ->Φ H0 hs (σ.set i<|θ v)
variable{i:?N}{x:χ}
def lz(nd:X.N.Nodup)(hi:uf x X.N 0=θ i)(kp:Kept Φ i)(h:VE X ρ e (.d d))(k:VX X Φ rest (ρ.set i<|.d d) Q)(hx:Loc X.env.scope x:=by show bB rfl)(hs:dS e (θ @j) pos.line X.env=pure υ:=by rfl)(hf:X.fn x=ξ\/X.env.scope.names.lookup x=θ .local:=by first|show .inl @r|show .inr @r|assumption):VX X Φ (.Assign [.Name x p2] e pos::rest) ρ Q:=
 my (cV nd (iQ hi) hx h hs hf) λH0 hs D σ H φ er l=>((H0,hs,er),λv H' s rv=>l.nx _ _ (_,k,kp _ _ _ _ φ,(er.grow s).Bg rv))
variable{xs:?L ak}
def LL(nd:X.N.Nodup)(hi:uf x X.N 0=θ i)(kp:Kept Φ i)(h:VE X ρ e (.o xs))(k:VX X Φ rest (ρ.set i<|.o xs) Q)(hx:Loc X.env.scope x:=by show bB rfl)(hs:dS e (θ @j) pos.line X.env=pure υ:=by rfl)(hf:X.fn x=ξ\/X.env.scope.names.lookup x=θ .local:=by first|show .inl @r|show .inr @r|assumption):VX X Φ (.Assign [.Name x p2] e pos::rest) ρ Q:=
 my (cV nd (iQ hi) hx h hs hf) λH0 hs D σ H φ er l=>((H0,hs,er),λv H' s rv=>by
  let(a,rfl,n,q):=rv
  show l.nx _ _ (_,k,kp _ _ _ _ φ,er.ae4 s n q))
def Xx{m n:?I}(nd:X.N.Nodup)(hi:uf x X.N 0=θ i)(kp:Kept Φ i)(hr:ρ[i]?=θ (.d<|.int m))(h:VE X ρ e (.d<|.int n))(k:VX X Φ rest (ρ.set i<|.d<|.int<|m + n) Q)(hx:Loc X.env.scope x:=by show bB rfl)(hf:X.fn x=ξ\/X.env.scope.names.lookup x=θ .local:=by first|show .inl @r|show .inr @r|assumption):VX X Φ (.AugAssign @j .Add e pos::rest) ρ Q:=
 my (Wm nd (iQ hi) hx h Wn hf) λH0 hs D σ H φ er l=>by
  let(v,h1,h2):=er.dat i _ hr;obtain rfl:=h2.cX;show(_,h1,(H0,hs,er),λy H' s rv=>?_);obtain rfl:=iq.cX rv;show(m,n,@r,@r,l.nx _ _ (_,k,kp _ _ _ _ φ,(er.grow s).Bg (.int _)))
variable{apos cU:Pos}
def vY(hi:uf x X.N 0=θ i)(hr:ρ[i]?=θ (.o xs))(h:VEX X Φ ρ e o)(ho:∀r,o = .inl r->∃d,r = .d d)(hz:↑xs<au)(k:∀d,o = .inl (.d d)->VX X Φ rest (ρ.set i<|.o<|xs++[d]) Q)(hv:zN X.env.scope x:=by first|show bB @r|show cF @A|show cF (cF @r))(hd:(x==("__debug__":χ))=υ:=by decide)(pU:(x==("__classdict__":χ))=υ:=by decide)(jN:dF @j "append" X.env (eval @j X.env)=eval @j X.env:=by rfl)(yj:((dh cU<|aq [e] X.env).all (λx=>!x.1)&&(rD cU<|kR [] X.env).all (λx=>x.1.isSome)&&decide ([e].length + ([]:?L iX).length + @ao<30))=ξ:=by rfl)(jO:@M=ξ:=by rfl)(hs:aq [e] X.env=[@c]:=by rfl)(mB:(dh cU<|aq [] X.env).any (·.1)=υ:=by rfl)(A0:dS (.Call (.Attribute @j "append" apos) [e] [] cU) ι pos.line X.env=pure υ:=by rfl):VX X Φ (.Expr (.Call (.Attribute @j "append" apos) [e] [] cU) pos::rest) ρ Q:=
 my (gC (ou bc cq cu gX (jD (iQ hi) hv hd pU) (ax h bh hs) jN yj jO hs mB) A0) λH0 hs D σ H φ er l=>by
  let(a,h1,(vs,h2,h3),h4):=er.own i xs hr;show(_,h1,.inl (@r,vs,gF.of h2),H0,hs,φ,er,λr z v H' s rv=>?_);let(d,rfl):=ho r z;have e2:=er.grow s;have Pw:=s _ _ h2;have h3':=bp.mono (bC.of_same (K:=X.K) s) _ _ h3;show(a,vs,v,@r,@r,Pw,by rw[h3.length];show hz,l.nx _ _ (_,k d z,φ,e2.write hr h1 Pw<|h3'.append<|.one rv))
def Xy(h:VE X ρ e r):VEX X Φ ρ e (.inl r):=PE.weak h (by rintro σ H Q ⟨H0,hs,φ,er,q⟩;show ((H0,hs,er),λv H' s rv=>q r @r v H' s rv))
def eB(hi:uf x X.N 0=θ i)(hr:ρ[i]?=θ (.o xs))(h:VE X ρ e (.d d))(hz:↑xs<au)(k:VX X Φ rest (ρ.set i<|.o<|xs++[d]) Q)(hv:zN X.env.scope x:=by first|show bB @r|show cF @A|show cF (cF @r))(hd:(x==("__debug__":χ))=υ:=by decide)(pU:(x==("__classdict__":χ))=υ:=by decide)(jN:dF @j "append" X.env (eval @j X.env)=eval @j X.env:=by rfl)(yj:((dh cU<|aq [e] X.env).all (λx=>!x.1)&&(rD cU<|kR [] X.env).all (λx=>x.1.isSome)&&decide ([e].length + ([]:?L iX).length + @ao<30))=ξ:=by rfl)(jO:@M=ξ:=by rfl)(hs:aq [e] X.env=[@c]:=by rfl)(mB:(dh cU<|aq [] X.env).any (·.1)=υ:=by rfl)(A0:dS (.Call (.Attribute @j "append" apos) [e] [] cU) ι pos.line X.env=pure υ:=by rfl):VX X Φ (.Expr (.Call (.Attribute @j "append" apos) [e] [] cU) pos::rest) ρ Q:=
 vY hi hr (Xy h) (λr z=>(d,by cases z;rfl)) hz (λd' z=>by cases z;show k) hv hd pU jN yj jO hs mB A0
variable{j:?N}{y:χ}
def Qo(nd:X.N.Nodup)(hi:uf x X.N 0=θ i)(hj:uf y X.N 0=θ j)(kp:Kept Φ j)(hr:ρ[i]?=θ (.o<|xs++[d]))(k:VX X Φ rest ((ρ.set i<|.o xs).set j (.d d)) Q)(hv:zN X.env.scope x:=by first|show bB @r|show cF @A|show cF (cF @r))(hd:(x==("__debug__":χ))=υ:=by decide)(pU:(x==("__classdict__":χ))=υ:=by decide)(jN:dF @j "pop" X.env (eval @j X.env)=eval @j X.env:=by rfl)(jO:@M=ξ:=by rfl)(hx:Loc X.env.scope y:=by show bB rfl)(hs:dS (.Call (.Attribute @j "pop" apos) [] [] cU) (θ<|.Name y p3) pos.line X.env=pure υ:=by rfl)(hf:X.fn y=ξ\/X.env.scope.names.lookup y=θ .local:=by first|show .inl @r|show .inr @r|assumption):VX X Φ (.Assign [.Name y p3] (.Call (.Attribute @j "pop" apos) [] [] cU) pos::rest) ρ Q:=
 my (cV nd (iQ hj) hx (tS bc eR eU tU (jD (iQ hi) hv hd pU) jN jO) hs hf) λH0 hs D σ H φ er l=>by
  let(a,h1,(vs,h2,h3),h4):=er.own i _ hr;let(ws,v,rfl,h5,h6):=h3.snoc;show(_,h1,.inl (@r,_,gF.of h2),a,_,v,@r,@r,h2,by simp,?_);rw[fm];have e2:=er.write hr h1 h2 h5;show l.nx _ _ (_,k,kp _ _ _ _ φ,e2.Bg<|Rep.mono ((SameBut.upd _).tup h2) _ _ h6)
variable{C:af}
def ph(R:kS X E)(cx:MW X.K X.mg x C)(hE:∀H0 hs σ,Φ H0 hs σ->∀H',bM H0 H'->E @Y ι H')(hg:Gl X x:=by rfl)(ny:(x==("__debug__":χ))=υ:=by decide)(he:aq [.Constant (.str y) j p3] X.env=(υ,eval (.Constant (.str y) j p3) X.env,)::aq [] X.env:=by rfl)(j4:(dh cU<|aq [] X.env).any (·.1)=υ:=by rfl):
  VX X Φ (.Raise (θ<|.Call (.Name x p) [.Constant (.str y) j p3] [] cU) ι pos::rest) ρ Q:=
 my (Pj R cx hg (ax oV bh he) ny he j4) λH0 hs D σ H φ er l=>(by change 1<=1000;decide,hE H0 hs σ φ H er.same)
variable{k:?N}{ps:?L χ}{Rl:?L Sl->Sl ⊕ af->?P}
def HF(R:kS X E)(D:nS X.prog X.w X.K X.mg X.base k x ps (oI X.K Rl))(hr:gp k X.A)(ha:VA X ρ (e::es) rs)(h:Rl (rs.map Sl.arg) o)(hE:∀C,o = .inr C->∀H0 hs σ,Φ H0 hs σ->∀H',bM H0 H'->E @Y ι H')(hg:Gl X x:=by rfl)(ny:(x==("__debug__":χ))=υ:=by decide)(he:aq (e::es) X.env=@c::aq es X.env:=by rfl)(j4:(dh pos @I).any (·.1)=υ:=by rfl):VEX X Φ ρ @w o:=
 PE.weak (qX R D hr hg ha ny he j4) (by rintro σ H Q ⟨H0,hs,φ,er,q⟩;show ((H0,hs,er),λvs H1 s1 r1=>by
  change oI X.K Rl (vs++[]) H1 Q E;rw[bP]
  show(rs.map Sl.arg,o,r1.arg,h,λr z v H2 s2 r2=>q r z v H2 @H (r2.since s1),λC z H2 s2=>hE C z H0 hs σ φ H2 (er.same.trans @H))))
variable{d1:ak}
def Qp{d3:ak}{o2:Sl ⊕ af}(h1:VE X ρ a (.d d1))(h2:VEX X Φ ρ b o2)(ho:∀r,o2 = .inl r->∃d,r = .d d)(h3:VE X ρ c (.d d3))(Xz:aq [a,b,c] X.env=(υ,eval a X.env,)::aq [b,c] X.env:=by rfl)(Oh:aq [b,c] X.env=(υ,eval b X.env,)::aq [c] X.env:=by rfl)(ZS:aq [c] X.env=(υ,eval c X.env,)::aq [] X.env:=by rfl):VEX X Φ ρ (.Tuple [a,b,c] k pos) (match o2 with | .inl (.d d)=>.inl (.d<|.tuple [d1,d,d3]) | .inl r=>.inl r | .inr C=>.inr C):=
 PE.weak (h8<|ax h1 (ax h2 (ax h3 bh ZS) Oh) Xz) λσ H Q ⟨H0,hs,φ,er,q⟩=>((H0,hs,er),λv1 H1 s1 r1=>(H0,hs,φ,er.grow s1,λr z v2 H2 s2 r2=>((H0,hs,(er.grow s1).grow s2),λv3 H3 s3 r3=>by
  subst z;let(d,rfl):=ho r @r;show(by change 3<=au;decide,λt ht=>?_);have s4:=bt ht (.tup [v1,v2,v3]);show q _ @r _ _ (((s1.trans s2).trans s3).trans s4) (iq.mk (eI.of aA) ?_)
  show .cons (Rep.mono (bC.of_same<|(s2.trans s3).trans s4) _ _ r1) (.cons (Rep.mono (bC.of_same<|s3.trans s4) _ _ r2)<|.cons (Rep.mono (bC.of_same s4) _ _ r3) .nil))))
abbrev af7(X:Cx)(Φ:Hp->?L (V×Sl)->St->?P)(rest:?L cz)(Q:Out->?P)(J:?L Sl->?P):Out->?P
 |.nx ρ=>J ρ
 |.ct ρ=>J ρ
 |.bk ρ=>VX X Φ rest ρ Q
 |.rt r=>Q (.rt r)
variable{body:?L cz}
def HG(hp:PassesOwn ⇑X X.A X.env X.xe)(W:?N->?L Sl->?P)(h0:∃m,W m ρ)(turn:∀m dI,W m dI->∃k,VT X dI c k/\(k=ξ->VX X Φ body dI (af7 X Φ rest Q λsW=>∃m',m'<m/\W m' sW))/\(k=υ->VX X Φ rest dI Q)):VX X Φ (.While c body [] pos::rest) ρ Q:=by
 have hc:PT X c (λσ H R=>∃m dI,W m dI/\∃k,VT X dI c k/\(∃H0 hs,ER X.K H0 hs dI σ H)/\∀H',bM H H'->R k H'):=by
  intro π s σ H R I hZ;ext;let(m,dI,w,k,v,er,q):=hZ;ext;show v π s σ H R I (er,q)
 have hb:vP X body (λD σ H=>∃dI Q',VX X Φ body dI Q'/\tXS X.K Φ dI Q' D σ H):=by
  rintro π s σ H D I ⟨dI,Q',v,q⟩;show v π s σ H D I q
 show my (ng hp hc hb) λH0 hs D σ H φ er l=>?_;let(m0,w0):=h0;show(λm σ H=>∃dI,W m dI/\Φ H0 hs σ/\ER X.K H0 hs dI σ H,(m0,ρ,w0,φ,er),?_);intro m σ H hZ;ext;let(dI,w,φ,er):=hZ;let(k,v,yes,no):=turn m dI w;ext;show(m,dI,w,k,v,(H0,hs,er),λH' s=>?_);cases k with
 |true=>
  rw[?p @r];show(λfo H'=>∃m',m'<m/\∃sW,W m' sW/\Φ H0 hs fo/\ER X.K H0 hs sW fo H',by rintro fo H' ⟨m',lt,sW,w2,f2,e2⟩;show (m',lt,sW,w2,f2,e2),dI,_,yes @r,H0,hs,φ,er.grow s,?_);show(by rintro σ H ⟨sW,⟨m',lt,w2⟩,f,e⟩;show (m',lt,sW,w2,f,e),by rintro v H ⟨r,q,e⟩;show l.rt v H (r,q,e),by rintro σ H ⟨sW,q,f,e⟩;show l.nx σ H (sW,q,f,e),by rintro σ H ⟨sW,⟨m',lt,w2⟩,f,e⟩;show (m',lt,sW,w2,f,e))
 |false=>
  show nP ?_;show l.nx _ _ (dI,no @r,φ,er.grow s)
abbrev tMA(K:aa)(Φ:Hp->?L (V×Sl)->St->?P)(ρ dI:?L Sl)(ds:?L ak):TA:=λσ H Q=>∃H0 hs,Φ H0 hs σ/\ER K H0 hs ρ σ H/\∀vs H',bC K H H'->ER K H0 hs dI σ H'->bp K H' ds vs->Q vs H'
abbrev VMA(X:Cx)(Φ:Hp->?L (V×Sl)->St->?P)(ρ:?L Sl)(es:?L bR)(ds:?L ak)(dI:?L Sl):?P:=PA X es (tMA X.K Φ ρ dI ds)
def HH(h:VE X ρ e (.d d))(t:VMA X Φ ρ es ds dI)(hs:aq (e::es) X.env=@c::aq es X.env:=by rfl):VMA X Φ ρ (e::es) (d::ds) dI:=
 PA.weak (ax h t hs) (by rintro σ H Q ⟨H0,hs,φ,er,q⟩;show ((H0,hs,er),λv H1 s1 r1=>(H0,hs,φ,er.grow s1,λvs H2 t2 e2 r2=>q (v::vs) H2 ((bC.of_same s1).trans t2) e2 (.cons (Rep.mono t2 _ _ r1) r2))))
def xF(hi:uf x X.N 0=θ i)(hr:ρ[i]?=θ (.o<|xs++[d]))(t:VD X (ρ.set i<|.o xs) es ds)(hv:zN X.env.scope x:=by first|show bB @r|show cF @A|show cF (cF @r))(hd:(x==("__debug__":χ))=υ:=by decide)(pU:(x==("__classdict__":χ))=υ:=by decide)(jN:dF @j "pop" X.env (eval @j X.env)=eval @j X.env:=by rfl)(jO:@M=ξ:=by rfl)(hs:aq (.Call (.Attribute @j "pop" apos) [] [] cU::es) X.env=(υ,eval (.Call (.Attribute @j "pop" apos) [] [] cU) X.env,)::aq es X.env:=by rfl):VMA X Φ ρ (.Call (.Attribute @j "pop" apos) [] [] cU::es) (d::ds) (ρ.set i<|.o xs):=
 PA.weak (ax (tS bc eR eU tU (jD (iQ hi) hv hd pU) jN jO) t hs) λσ H Q ⟨H0,hs,φ,er,q⟩=>by
  let(a,h1,(vs,h2,h3),h4):=er.own i _ hr;let(ws,v,rfl,h5,h6):=h3.snoc;show(_,h1,.inl (@r,_,gF.of h2),a,_,v,@r,@r,h2,by simp,?_);rw[fm];have e2:=er.write hr h1 h2 h5;have tl:bC X.K H (upd H a @ap):=(SameBut.upd _).tup h2;show((H0,hs,e2),λus H2 s2 r2=>q (v::us) H2 (tl.trans @Q) (e2.grow s2) (.cons (Rep.mono (tl.trans @Q) _ _ h6) r2))
def bp.rd:∀{ds:?L ak}{us:?L V},bp K H ds us->oF K H (ds.map Sl.d) us
 |[],us,r=>by rw[bp]at r;subst r;show .nil
 |d::ds,us,r=>by let(v,w,rfl,q1,q2):=r.split;show .cons q1 q2.rd
variable{tu:Pos}
def sg{f:χ}(R:kS X E)(D:nS X.prog X.w X.K X.mg X.base k f ps (oI X.K Rl))(Sn:gp k X.A)(hi:uf x X.N 0=θ i)(Vr:∃ys,ρ[i]?=θ (.o ys))(hr:dI[i]?=θ (.o xs))(ha:VMA X Φ ρ (e::es) ds dI)(h:Rl (ds.map Sl.d) o)(ho:∀r,o = .inl r->∃d,r = .d d)(hz:↑xs<au)(hE:∀C,o = .inr C->∀H0 hs σ,Φ H0 hs σ->∀H',bM H0 H'->E @Y ι H')(kk:∀d,o = .inl (.d d)->VX X Φ rest (dI.set i<|.o<|xs++[d]) Q)(hv:zN X.env.scope x:=by first|show bB @r|show cF @A|show cF (cF @r))(hd:(x==("__debug__":χ))=υ:=by decide)(pU:(x==("__classdict__":χ))=υ:=by decide)(jN:dF @j "append" X.env (eval @j X.env)=eval @j X.env:=by rfl)(yj:((dh cU<|aq [.Call (.Name f p) (e::es) [] tu] X.env).all (λx=>!x.1)&&(rD cU<|kR [] X.env).all (λx=>x.1.isSome)&&decide ([Expr.Call (.Name f p) (e::es) [] tu].length + ([]:?L iX).length + @ao<30))=ξ:=by rfl)(jO:@M=ξ:=by rfl)(hs:aq [.Call (.Name f p) (e::es) [] tu] X.env=[(υ,eval (.Call (.Name f p) (e::es) [] tu) X.env,)]:=by rfl)(mB:(dh cU<|aq [] X.env).any (·.1)=υ:=by rfl)(A0:dS (.Call (.Attribute @j "append" apos) [.Call (.Name f p) (e::es) [] tu] [] cU) ι pos.line X.env=pure υ:=by rfl)(hg:Gl X f:=by rfl)(ny:(f==("__debug__":χ))=υ:=by decide)(he:aq (e::es) X.env=@c::aq es X.env:=by rfl)(j4:(dh tu @I).any (·.1)=υ:=by rfl):
  VX X Φ (.Expr (.Call (.Attribute @j "append" apos) [.Call (.Name f p) (e::es) [] tu] [] cU) pos::rest) ρ Q:=
 my (gC (ou bc cq cu gX (jD (iQ hi) hv hd pU) (ax (qX R D Sn hg ha ny he j4) bh hs) jN yj jO hs mB) A0) λH0 hs D σ H φ er l=>by
  ext;let(ys,hy):=Vr;let(a,h1,(vs,h2,h3),h4):=er.own i ys hy;ext;show(_,h1,.inl (@r,vs,gF.of h2),H0,hs,φ,er,λus H1 t1 e1 r1=>?_);change oI X.K Rl (us++[]) H1 _ E;rw[bP];show(ds.map Sl.d,o,r1.rd,h,λr z v H2 s2 r2=>?_,λC z H2 s2=>hE C z H0 hs σ φ H2 (e1.same.trans s2));ext;let(d,rfl):=ho r z;let(a',g1,(ws,g2,g3),_):=e1.own i xs hr;rw[h1]at g1;cases g1;ext;have TK:=s2 _ _ g2;show(a,ws,v,@r,@r,TK,by rw[g3.length];show hz,l.nx _ _ (_,kk d z,φ,(e1.grow s2).write hr h1 TK ((bp.mono (bC.of_same (K:=X.K) s2) _ _ g3).append (.one r2))))
end
section
variable {P:bu}{w:bU}{K:aa}{mg:χ->?O ai}{base:cD}
variable{x qual:χ}{f:af}{fd:aV}{N ps:?L χ}{k:?N}
def iP.Qq{st:cz}{R:?L Sl->Sl ⊕ af->?P}(F:iP K x qual st f fd)(S:bO N ps (az st))(len:∀as o,R as o->↑as=↑ps/\∀q∈as,∀xs,q≠.o xs)(nA:∀(ez:ai)(A:cy)(outer:?L Env)(s:ao)(H:Hp)(E:XK)(as:?L Sl) (o:Sl ⊕ af),gp k (A.deeper<|envOfC qual (az st) ↥s f ez)->R as o->
   (∀C,o = .inr C->∀H0 (hs:?L (V×Sl)) (σ:St),H0=H->∀H',bM H0 H'->E @Y ι H')->
   VX @K (λH0 _ _=>H0=H) (dE st) (as++dm (N.length - ↑as) .un) λt=>∃r,o = .inl r/\(t = .rt r\/(r = .d .none/\∃ρ,t = .nx ρ))):
  c8 P w K mg base @B (k+1) f fd ps (oI K R):=by
 show F.okX S @qc @q
 .let(as,o,h1,h2,_):=h;rw[h1.length];show(len as o h2).1
 let(as,o,h1,h2,q,qE):=h;show(_,nA ez A outer s H E as o hr h2 (λC z H0 hs σ e H' s'=>by subst e;show qE C z H' s'),H,[],@r,xu h1 (len as o h2).2,?_);show(λσ H' ⟨ρ,⟨r,zo,z⟩,_,e⟩=>?_,λv H' ⟨r',⟨r,zo,z⟩,e1,e2,_⟩=>?_,λσ H' ⟨ρ,⟨r,zo,z⟩,e⟩=>?_,λσ H' ⟨ρ,⟨r,zo,z⟩,e⟩=>?_)
 .rcases z with z|⟨rfl,_⟩
  .cases z
  .show q _ zo _ H' e.same iq.fB
 .rcases z with z|⟨_,_,z⟩
  .cases z;show q _ zo v H' e1 e2
  .cases z
 .rcases z with z|⟨_,_,z⟩<;>cases z
 .rcases z with z|⟨_,_,z⟩<;>cases z
end
abbrev TQ(wa da:af)(H H':Hp):?P:=∀b o,b≠wa->b≠da->H b=θ o->H' b=θ o
abbrev vZ(wa da:af)(H:Hp):Hp:=λb=>if b=wa\/b=da then ι else H b
variable{wa da:af}
def yE:bM (vZ wa da H) H:=λb o h=>by
 unfold vZ at h;by_cases z:b=wa\/b=da
 .rw[?p z]at h;cases h
 .rwa[?n z]at h
variable{H':Hp}
def FD(s:bM (vZ wa da H) H'):TQ wa da H H':=λb o n1 n2 h=>s b o (by unfold vZ;rw[?n (by rintro(z|z);show n1 z;show n2 z)];show h)
abbrev spP(K:aa)(R:ak->ak->?L ak->?L ak->(?L ak×?L ak) ⊕ af->?P):Sp:=λvs H Q E=>∃v u wa da d1 d2 xs ys o,vs=[v,u,.ref wa,.ref da]/\Rep K H d1 v/\Rep K H d2 u/\xp K H wa xs/\xp K H da ys/\wa≠da/\R d1 d2 xs ys o/\
 (∀x,o = .inl x->∀H',TQ wa da H H'->xp K H' wa x.1->xp K H' da x.2->Q .fB H')/\∀C,o = .inr C->∀H',TQ wa da H H'->E @Y ι H'
section
variable {K:aa}{H0 H H':Hp}{hs:?L (V×Sl)}{ρ:?L Sl}{σ:St}{wa da:af}{i j:?N}{xs ys JK IL:?L ak}
def ER.ap1(er:ER K H0 hs ρ σ H)(hi:ρ[i]?=θ (.o xs))(hj:ρ[j]?=θ (.o ys))(Qr:i≠j)(ha:σ[i]?=θ (θ<|.ref wa))(hb:σ[j]?=θ (θ<|.ref da))(off:TQ wa da H H')(h1:xp K H' wa JK)(h2:xp K H' da IL):
  ER K H0 hs ((ρ.set i<|.o JK).set j (.o IL)) σ H':=by
 ext;let(ws,g1,g2):=h1;let(ds,k1,k2):=h2;let(a,e1,(ws0,l1,_),n1):=er.own i xs hi;rw[ha]at e1;cases e1;let(a,e2,(ds0,l2,_),n2):=er.own j ys hj;rw[hb]at e2;cases e2;ext;have ne:wa≠da:=λz=>er.qx i j wa xs ys Qr hi hj ha (by rw[hb,z]);let H2:Hp:=λb=>if b=wa\/b=da then H b else H' b
 have s2:bM H H2:=λb o h=>by
  show(if b=wa\/b=da then H b else H' b)=θ o;by_cases z:b=wa\/b=da
  .rw[?p z];show h
  .rw[?n z];show off b o (λq=>z (.inl q)) (λq=>z (.inr q)) h
 have tl:bC K H' H2:=by
  have key:∀b o,(∀zs,o≠.lst zs)->H' b=θ o->H2 b=θ o:=λb o n h=>by
   show(if b=wa\/b=da then H b else H' b)=θ o;rw[if_neg]
   .show h
   .rintro(rfl|rfl)
    .rw[g1]at h;cases h;show n _ @r
    .rw[k1]at h;cases h;show n _ @r
  show bC.qw λb o h n=>key b o n h
 have w1:H2 wa=θ (.lst ws0):=by show(if wa=wa\/wa=da then H wa else H' wa)=_;rw[?p @i];show l1
 have w2:H2 da=θ (.lst ds0):=by show(if da=wa\/da=da then H da else H' da)=_;rw[?p (.inr @r)];show l2
 have zD:=(er.grow s2).write hi ha w1 (bp.mono tl _ _ g2);have tl3:bC K H2 (upd H2 wa @ap):=(SameBut.upd _).tup w1;have er3:=zD.write (i:=j) (xs:=ys) (by rw[dR,?n Qr];show hj) hb (by rw[be (cp ne)];show w2) (bp.mono (tl.trans tl3) _ _ k2);have eq:upd (upd H2 wa @ap) da (.lst ds)=H':=by
  funext b;by_cases z1:b=da
  .subst z1;rw[aA,k1]
  .rw[be z1];by_cases z2:b=wa
   .subst z2;rw[aA,g1]
   .rw[be z2];show(if b=wa\/b=da then H b else H' b)=_;rw[?n (by rintro(q|q);show z2 q;show z1 q)]
 rw[eq]at er3;show er3
variable{N:?L χ}{v:V}{d1 d2:ak}
def Eo{u:V}(hN:4<=N.length)(r1:Rep K H d1 v)(r2:Rep K H d2 u)(l1:xp K H wa xs)(l2:xp K H da ys)(ne:wa≠da):
  ER K (vZ wa da H) [] ([.d d1,.d d2,.o xs,.o ys]++dm (N.length - 4) .un) (start N [v,u,.ref wa,.ref da]) H:=by
 have un4:∀{n:?N}{r:Sl},([.d d1,.d d2,.o xs,.o ys]++dm (N.length - 4) Sl.un)[n+4]?=θ r->r = .un:=by
  intro n r h;have h:(dm (N.length - 4) Sl.un)[n]?=θ r:=by simpa using h
  show(lL.mp<|aD h).2
 have hw:vZ wa da H wa=ι:=by unfold vZ;rw[?p @i]
 have hd:vZ wa da H da=ι:=by unfold vZ;rw[?p (.inr @r)]
 have own:∀(i:?N) zs,([.d d1,.d d2,.o xs,.o ys]++dm (N.length - 4) Sl.un)[i]?=θ (.o zs)->(i=2/\zs=xs)\/(i=3/\zs=ys):=by
  intro i zs h;match i with
  |0=>cases h
  |1=>cases h
  |2=>cases h;show .inl (@r,@r)
  |3=>cases h;show .inr (@r,@r)
  |n+4=>have:=un4 h;cases this
 have nol:∀(i:?N) zs,([.d d1,.d d2,.o xs,.o ys]++dm (N.length - 4) Sl.un)[i]?≠θ (.l zs):=by
  intro i zs h;match i with
  |0=>cases h
  |1=>cases h
  |2=>cases h
  |3=>cases h
  |n+4=>have:=un4 h;cases this
 show(yE,by unfold start;simp<;>omega,λi x h=>?_,λi x h=>?A h (nol i x),λi x h=>?_,λi x h=>?_,λi k a x y _ h=>?A h (nol k y),λi k a x y n h h' e e'=>?_,λp hp=>(nomatch hp),λi x a h e p hp=>(nomatch hp))
 .match i with
  |0=>cases h;show(v,@r,r1)
  |1=>cases h;show(u,@r,r2)
  |2=>cases h
  |3=>cases h
  |n+4=>have:=un4 h;cases this
 .match i with
  |0=>cases h
  |1=>cases h
  |2=>cases h
  |3=>cases h
  |n+4=>have:=un4 h;cases this
 .rcases own i x h with⟨rfl,rfl⟩|⟨rfl,rfl⟩
  .show(wa,@r,l1,hw)
  .show(da,@r,l2,hd)
 .rcases own i x h with⟨rfl,rfl⟩|⟨rfl,rfl⟩<;>rcases own k y h' with⟨rfl,rfl⟩|⟨rfl,rfl⟩
  .show n @r
  .cases e;cases e';show ne @r
  .cases e;cases e';show ne @r
  .show n @r
end
abbrev HI(wa da:af)(H:Hp):Hp->?L (V×Sl)->St->?P:=λH0 _ σ=>H0=vZ wa da H/\σ[2]?=θ (θ<|.ref wa)/\σ[3]?=θ (θ<|.ref da)
variable{i:?N}
def HI.kept(h2:i≠2)(h3:i≠3):Kept (HI wa da H) i:=λH0 _ σ v ⟨a,b,c⟩=>(a,by rw[dR,?n h2];show b,by rw[dR,?n h3];show c)
section
variable {P:bu}{w:bU}{K:aa}{mg:χ->?O ai}{base:cD}
variable{x qual:χ}{f:af}{fd:aV}{N ps:?L χ}{k:?N}{R:ak->ak->?L ak->?L ak->(?L ak×?L ak) ⊕ af->?P}
def iP.okP{st:cz}(F:iP K x qual st f fd)(S:bO N ps (az st))(hN:4<=N.length)(hp:↑ps=4)(nA:∀(ez:ai)(A:cy)(outer:?L Env)(s:ao)(H:Hp)(E:XK)(wa da:af) (d1 d2:ak) (xs ys:?L ak) (o:(?L ak×?L ak) ⊕ af),gp k (A.deeper<|envOfC qual (az st) ↥s f ez)->R d1 d2 xs ys o->
   (∀C,o = .inr C->∀H0 (hs:?L (V×Sl)) (σ:St),HI wa da H H0 hs σ->∀H',bM H0 H'->E @Y ι H')->
   VX @K (HI wa da H) (dE st) ([.d d1,.d d2,.o xs,.o ys]++dm (N.length - 4) .un) λt=>∃x ρ,o = .inl x/\t = .nx ρ/\ρ[2]?=θ (.o x.1)/\ρ[3]?=θ (.o x.2)):
  c8 P w K mg base @B (k+1) f fd ps (spP K R):=by
 show F.okX S @qc @q
 .ext;let(v,u,wa,da,d1,d2,xs,ys,o,rfl,_):=h;ext;rw[hp];rfl
 ext;let(v,u,wa,da,d1,d2,xs,ys,o,rfl,r1,r2,l1,l2,ne,hR,q,qE):=h;ext;show(_,nA ez A outer s H E wa da d1 d2 xs ys o hr hR (λC z H0 hs σ e H' s'=>by let(rfl,_):=e;show qE C z H' (FD s')),vZ wa da H,[],(@r,@r,@r),Eo hN r1 r2 l1 l2 ne,?_);show(λσ H' ⟨ρ,⟨x,dI,zo,z,z1,z2⟩,⟨_,f2,f3⟩,e⟩=>?_,λv H' ⟨r',⟨x,dI,zo,z,_⟩,_⟩=>?_,λσ H' ⟨ρ,⟨x,dI,zo,z,_⟩,_⟩=>?_,λσ H' ⟨ρ,⟨x,dI,zo,z,_⟩,_⟩=>?_)
 .ext;cases z;let(a,g1,g2,_):=e.own 2 _ z1;rw[f2]at g1;cases g1;let(b,k1,k2,_):=e.own 3 _ z2;rw[f3]at k1;cases k1;ext;show q x zo H' (FD e.same) g2 k2
 .cases z
 .cases z
 .cases z
end
section
variable {X:Cx}{Φ:Hp->?L (V×Sl)->St->?P}{E:XK}{ρ:?L Sl}{a b:bR}{pos p p2 p3 cU:Pos}{Q:Out->?P}{rest:?L cz}
variable{k j:?N}{x y:χ}{ps:?L χ}{xs ys:?L ak}{d1 d2:ak}{R:ak->ak->?L ak->?L ak->(?L ak×?L ak) ⊕ af->?P}
def Qs{f:χ}{o:(?L ak×?L ak) ⊕ af}(Rz:kS X E)(D:nS X.prog X.w X.K X.mg X.base k f ps (spP X.K R))(hr:gp k X.A)(ha:VE X ρ a (.d d1))(hb:VE X ρ b (.d d2))(hi:uf x X.N 0=θ i)(hj:uf y X.N 0=θ j)(Qr:i≠j)(hx:ρ[i]?=θ (.o xs))(hy:ρ[j]?=θ (.o ys))(h:R d1 d2 xs ys o)(hE:∀C,o = .inr C->∀H0 hs σ,Φ H0 hs σ->∀H',bM H0 H'->E @Y ι H')(kk:∀z,o = .inl z->VX X Φ rest ((ρ.set i<|.o z.1).set j (.o z.2)) Q)(hvx:zN X.env.scope x:=by first|show bB @r|show cF @A|show cF (cF @r))(hdx:(x==("__debug__":χ))=υ:=by decide)(hcx:(x==("__classdict__":χ))=υ:=by decide)(hvy:zN X.env.scope y:=by first|show bB @r|show cF @A|show cF (cF @r))(XA:(y==("__debug__":χ))=υ:=by decide)(hcy:(y==("__classdict__":χ))=υ:=by decide)(hg:Gl X f:=by rfl)(ny:(f==("__debug__":χ))=υ:=by decide)(h1:aq [a,b,.Name x p2,.Name y p3] X.env=(υ,eval a X.env,)::aq [b,.Name x p2,.Name y p3] X.env:=by rfl)(h2:aq [b,.Name x p2,.Name y p3] X.env=(υ,eval b X.env,)::aq [.Name x p2,.Name y p3] X.env:=by rfl)(h3:aq [.Name x p2,.Name y p3] X.env=(υ,eval @j X.env,)::aq [.Name y p3] X.env:=by rfl)(h4:aq [.Name y p3] X.env=(υ,eval (.Name y p3) X.env,)::aq [] X.env:=by rfl)(j4:(dh cU<|aq [b,.Name x p2,.Name y p3] X.env).any (·.1)=υ:=by rfl)(A0:dS (.Call (.Name f p) [a,b,.Name x p2,.Name y p3] [] cU) ι pos.line X.env=pure υ:=by rfl):
  VX X Φ (.Expr (.Call (.Name f p) [a,b,.Name x p2,.Name y p3] [] cU) pos::rest) ρ Q:=
 my (gC (qX Rz D hr hg (ax ha (ax hb (ax (jD (iQ hi) hvx hdx hcx) (ax (jD (iQ hj) hvy XA hcy) bh h4) h3) h2) h1) ny h1 j4) A0) λH0 hs D σ H φ er l=>by
  show((H0,hs,er),λv H1 s1 r1=>((H0,hs,er.grow s1),λu H2 s2 r2=>?_));have zD:=(er.grow s1).grow s2;ext;let(wa,g1,g2,g3):=zD.own i xs hx;let(da,k1,k2,k3):=zD.own j ys hy;ext;show(_,g1,_,k1,?_);show(v,u,wa,da,d1,d2,xs,ys,o,@r,Rep.mono @Q _ _ r1,r2,g2,k2,λz=>zD.qx i j wa xs ys Qr hx hy g1 (by rw[k1,z]),h,λz e H' off l1 l2=>?_,λC e H' off=>?_)
  .show l.nx _ _ (_,kk z e,φ,zD.ap1 hx hy Qr g1 k1 off l1 l2)
  .show hE C e H0 hs σ φ H' λb o hb=>off b o (bQ hb g3) (bQ hb k3) (zD.same b o hb)
end
end _L
namespace _W
open _L PyProof.Rows
abbrev Nq:?L V->?L (χ×V)
 |[a,b]=>[("head",a,),("rest",b,),("outside",.fB,)]
 |_=>[]
abbrev Qt:?L V->?L (χ×V)
 |[a,b,c]=>[("name",a,),("body",b,),("known",c,),("outside",.fB,)]
 |_=>[]
abbrev FE:?L V->?L (χ×V)
 |[a,b,c]=>[("name",a,),("value",b,),("others",c,)]
 |_=>[]
abbrev Qu:?L V->?L (χ×V)
 |[a]=>[("value",a,),("inside",.fB,)]
 |_=>[]
abbrev Made(P:bu)(w:bU)(K:aa)(mg:χ->?O ai)(base:cD)(x:χ)(C:af)(n:?N)(mk:?L V->?L (χ×V)):?P:=
 ∃g fd ps,Mk K C g/\c8 P w K mg base kD 1 g fd ps (Bs C n mk)/\Binds K fd ps []/\mg x=θ @Y
structure j6(K:aa)(mg:χ->?O ai)(c:Cs)(CS CT:af):?P where
 cs:c=vf K
 cC:Np K c.ch
 cL:Np K c.cl
 cN:Np K c.kn
 cG:Np K c.gv
 mC:mg "Chain"=θ (.ref c.ch)
 mL:mg "Closure"=θ (.ref c.cl)
 mN:mg "Known"=θ (.ref c.kn)
 mG:mg "Given"=θ (.ref c.gv)
 aC:i8 K c.ch "head"/\i8 K c.ch "rest"/\i8 K c.ch "outside"
 aL:i8 K c.cl "name"/\i8 K c.cl "body"/\i8 K c.cl "known"/\i8 K c.cl "outside"
 aN:i8 K c.kn "name"/\i8 K c.kn "value"/\i8 K c.kn "others"
 aG:i8 K c.gv "value"/\i8 K c.gv "inside"
 kC:aS K (.type "int") (.ref c.ch)=θ υ/\aS K (.type "bool") (.ref c.ch)=θ υ/\aS K (.ref c.ch) (.ref c.ch)=θ ξ/\aS K (.ref c.cl) (.ref c.ch)=θ υ
 kL:aS K (.type "int") (.ref c.cl)=θ υ/\aS K (.type "bool") (.ref c.cl)=θ υ/\aS K (.ref c.ch) (.ref c.cl)=θ υ/\aS K (.ref c.cl) (.ref c.cl)=θ ξ
 kG:aS K (.type "int") (.ref c.gv)=θ υ/\aS K (.type "bool") (.ref c.gv)=θ υ/\aS K (.ref c.ch) (.ref c.gv)=θ υ/\aS K (.ref c.cl) (.ref c.gv)=θ υ/\aS K (.ref c.gv) (.ref c.gv)=θ ξ
 kI:aS K (.ref c.ch) (.type "int")=θ υ/\aS K (.ref c.cl) (.type "int")=θ υ
 kA:fz K (.type "int") [.ref c.ch,.ref c.cl]=θ υ/\fz K (.type "bool") [.ref c.ch,.ref c.cl]=θ υ
 eS:MW K mg "Stuck" CS
 eT:MW K mg "Tired" CT
 gY:∃t,mg "BEGIN"=θ (.int 0 t)
 fin:∃t,mg "END"=θ (.int 1 t)
section
variable {K:aa}{mg:χ->?O ai}{c:Cs}{CS CT:af}
abbrev TR(c:Cs):MV->ai
 |.int _=>.type "int"
 |.bool _=>.type "bool"
 |.chain _=>.ref c.ch
 |.dM ..=>.ref c.cl
def uZ(c:Cs)(xs:?L MV):∃h r,iM c (.chain xs)=qU c.ch [("head",h,),("rest",r,),("outside",.none,)]/\(xs=[]->r = .none)/\∀y ys,xs=y::ys->h=oX c y/\r=iM c (.chain ys):=by
 cases xs with
 |nil=>show(.none,.none,by simp[iM,E5],@h,λy ys z=>by cases z)
 |cons y ys=>show(oX c y,iM c<|.chain ys,by simp[iM,E5,oX],(λz=>by cases z),λy' IL z=>by cases z;show(@r,@r))
def pj(c:Cs)(x:χ)(b:MT)(ρ:MR):iM c (.dM x b ρ)=qU c.cl [("name",.str x,),("body",gz b,),("known",sU c ρ,),("outside",.none,)]:=by simp[iM]
def v7(c:Cs)(x:χ)(v:MV)(ρ:MR):sU c ((x,v,)::ρ)=qU c.kn [("name",.str x,),("value",oX c v,),("others",sU c ρ,)]:=by simp[sU,oX]
def J7(c:Cs):sU c [] = .none:=by simp[sU]
def qz(c:Cs)(i:?I):iM c @T = .int i:=by simp[iM]
def sh(c:Cs)(b:?B):iM c (.bool b) = .bool b:=by simp[iM]
def j6.XB(M:j6 K mg c CS CT)(v:MV):Xu K (iM c v) (TR c v):=by
 cases v with
 |int i=>rw[qz];show xE
 |bool b=>rw[sh];show Bt
 |chain xs=>let(h,r,e,_):=uZ c xs;rw[e];show LK M.cC
 |dM x b ρ=>rw[pj];show LK M.cL
abbrev MV.Nr:MV->?B
 |.chain _=>ξ
 |_=>υ
abbrev MV.Qv:MV->?B
 |.dM ..=>ξ
 |_=>υ
abbrev MV.XC:MV->?B
 |.int _=>ξ
 |_=>υ
def j6.af8(M:j6 K mg c CS CT)(v:MV):aS K (TR c v) (.ref c.ch)=θ v.Nr:=by cases v;show M.kC.1;show M.kC.2.1;show M.kC.2.2.1;show M.kC.2.2.2
def j6.af9(M:j6 K mg c CS CT)(v:MV):aS K (TR c v) (.ref c.cl)=θ v.Qv:=by cases v;show M.kL.1;show M.kL.2.1;show M.kL.2.2.1;show M.kL.2.2.2
def j6.ap2(M:j6 K mg c CS CT)(v:MV):aS K (TR c v) (.ref c.gv)=θ υ:=by cases v;show M.kG.1;show M.kG.2.1;show M.kG.2.2.1;show M.kG.2.2.2.1
end
section
variable {K:aa}
variable{X:Cx}{c:Cs}{CS CT:af}{ρ:?L Sl}{pos:Pos}
def ib(M:j6 X.K X.mg c CS CT)(hg:Gl X "BEGIN":=by rfl):VE X ρ (.Name "BEGIN" pos) (.d<|.int 0):=by let(t,e):=M.gY;show Al (v:=.int 0) hg e (t,@r) λH=>.int 0
def ur(M:j6 X.K X.mg c CS CT)(hg:Gl X "END":=by rfl):VE X ρ (.Name "END" pos) (.d<|.int 1):=by let(t,e):=M.fin;show Al (v:=.int 1) hg e (t,@r) λH=>.int 1
variable{H:Hp}{us:?L V}{d:ak}
def As{a b:ak}(r:bp K H [a,b,d] us):sd K H [("name",a,),("value",b,),("others",d,)] (FE us):=by
 let(v1,r1,rfl,e1,r):=r.split;let(v2,r2,rfl,e2,r):=r.split;let(v3,r3,rfl,e3,r):=r.split;rw[bp]at r;subst r;show .cons e1 (.cons e2<|.cons e3 .nil)
def Qw{a:ak}{v:MV}(hc:c=vf K)(r:bp K H [a,iM c v,d] us):sd K H [("name",a,),("value",oX c v,),("others",d,)] (FE us):=by
 let(v1,r1,rfl,e1,r):=r.split;let(v2,r2,rfl,e2,r):=r.split;let(v3,r3,rfl,e3,r):=r.split;rw[bp]at r;subst r;show .cons e1 (.cons (e2.eit hc)<|.cons e3 .nil)
def LM{a b:ak}(r:bp K H [a,b,d] us):sd K H [("name",a,),("body",b,),("known",d,),("outside",.none,)] (Qt us):=by
 let(v1,r1,rfl,e1,r):=r.split;let(v2,r2,rfl,e2,r):=r.split;let(v3,r3,rfl,e3,r):=r.split;rw[bp]at r;subst r;show .cons e1 (.cons e2<|.cons e3<|.cons .fB .nil)
def FF{a b:ak}(r:bp K H [a,b] us):sd K H [("head",a,),("rest",b,),("outside",.none,)] (Nq us):=by
 let(v1,r1,rfl,e1,r):=r.split;let(v2,r2,rfl,e2,r):=r.split;rw[bp]at r;subst r;show .cons e1 (.cons e2<|.cons .fB .nil)
end
abbrev LN(c:Cs):?L Sl->Sl->?P:=λas r=>∃v:MV,as=[.d (iM c v)]/\r = .d (.bool v.XC)
abbrev HJ(c:Cs)(CS:af):?L Sl->Sl ⊕ af->?P:=λas o=>∃(x:χ)(ρ:MR),as=[.d @S,.d (sU c ρ)]/\o=match ρ.get x with
 |some v=>.inl (.d<|iM c v)
 |none=>.inr CS
abbrev FG(c:Cs)(CS:af):?L Sl->Sl ⊕ af->?P:=λas o=>∃(a b e:MT)(l:MV),as=[.d (gz<|.cond a b e),.d (iM c l)]/\o=match l with
 |.bool ξ=>.inl (.d<|gz b)
 |.bool υ=>.inl (.d<|gz e)
 |_=>.inr CS
abbrev FH(c:Cs)(CS:af):?L Sl->Sl ⊕ af->?P:=λas o=>∃(k:KD)(h t:χ)(a b e:MT)(l:MV)(ρ:MR),as=[.d (gz<|.case k h t a b e),.d<|iM c l,.d (sU c ρ)]/\o=match l with
 |.chain []=>.inl (.d<|lG c<|.gY b ρ)
 |.chain (x::xs)=>.inl (.d<|lG c<|.gY e ((t,.chain xs,)::(h,x,)::ρ))
 |_=>.inr CS
abbrev LO(c:Cs)(CS:af):?L Sl->Sl ⊕ af->?P:=λas o=>∃(f v:MV),as=[.d (iM c f),.d (iM c v)]/\o=match f with
 |.dM x b ρ=>.inl (.d<|lG c<|.gY b ((x,v,)::ρ))
 |_=>.inr CS
abbrev Qx(c:Cs)(CS:af):?L Sl->Sl ⊕ af->?P:=λas o=>∃(m l:MV),as=[.d (iM c m),.d (iM c l)]/\o=match l with
 |.chain xs=>.inl (.d<|iM c<|.chain (m::xs))
 |_=>.inr CS
abbrev Vs(c:Cs)(CS:af):?L Sl->Sl ⊕ af->?P:=λas o=>∃(ad:?B)(m l:MV),as=[.d (.str<|if ad then "add" else "less"),.d<|iM c m,.d (iM c l)]/\o=match m,l with
 |.int i,.int j=>.inl (.d<|if ad then .int (i + j)else .bool (decide (i<j)))
 |_,_=>.inr CS
abbrev wl(c:Cs)(w:?L Task):?L ak:=(w.map<|lG c).reverse
abbrev dl(c:Cs)(d:?L MV):?L ak:=(d.map<|iM c).reverse
def mZ(c:Cs)(t:Task)(w:?L Task):wl c (t::w)=wl c w++[lG c t]:=by simp[wl]
def iE(c:Cs)(v:MV)(d:?L MV):dl c (v::d)=dl c d++[iM c v]:=by simp[dl]
def FI(c:Cs)(w:?L Task):(wl c w).length=↑w:=by simp[wl]
def Qy(c:Cs)(d:?L MV):(dl c d).length=↑d:=by simp[dl]
abbrev tz(c:Cs)(CS:af):MS ⊕ Res->(?L ak×?L ak) ⊕ af
 |.inl s=>.inl (wl c s.w,dl c s.d,)
 |.inr _=>.inr CS
abbrev ag0(c:Cs)(CS:af):ak->ak->?L ak->?L ak->(?L ak×?L ak) ⊕ af->?P:=λd1 d2 xs ys o=>∃(e:MT)(ρ:MR)(w:?L Task)(d:?L MV),d1=gz e/\d2=sU c ρ/\xs=wl c w/\ys=dl c d/\↑w<=1000000/\↑d<=1000000/\o=tz c CS (lQ e ρ w d 0)
abbrev MT.ar:MT->?N
 |.add .. | .less .. | .front .. | .call ..=>2
 |.cond .. | .case ..=>1
 |.num _ | .truth _ | .nil _ | .name _ | .lam ..=>0
abbrev ag1(c:Cs)(CS:af):ak->ak->?L ak->?L ak->(?L ak×?L ak) ⊕ af->?P:=λd1 d2 xs ys o=>∃(e:MT)(ρ:MR)(w:?L Task)(l:MV)(d:?L MV),d1=gz e/\d2=sU c ρ/\xs=wl c w/\ys=dl c (l::d)/\0<e.ar/\e.ar<=↑d+1/\↑w<=1000000/\↑d<=1000000/\o=tz c CS (rP e ρ l w d 0)
abbrev J8:?L Task->?N->?P
 |[],n=>n=1
 |.gY _ _::w,n=>J8 w (n+1)
 |.fin e _::w,n=>0<e.ar/\e.ar<=n/\J8 w (n - e.ar+1)
def Bv(c:Cs)(CS:af)(e:MT)(ρ:MR)(w:?L Task)(d:?L MV)(n:?N):tz c CS (lQ e ρ w d n)=tz c CS (lQ e ρ w d 0):=by
 cases e<;>try rfl
 rename_i x;cases q:ρ.get x<;>simp[lQ,q,tz]
variable{e:MT}{ρ:MR}{w:?L Task}{d:?L MV}{n:?N}
def Nt{r:Res}(h:lQ e ρ w d n = .inr r):r = .stuck:=by
 cases e<;>try (cases h)
 rename_i x;cases q:ρ.get x<;>simp[lQ,q]at h;show h.symm
def Bw(c:Cs)(CS:af)(e:MT)(ρ:MR)(l:MV)(w:?L Task)(d:?L MV)(n:?N):tz c CS (rP e ρ l w d n)=tz c CS (rP e ρ l w d 0):=by
 unfold rP
 repeat' split
 all_goals first|rfl|simp_all [tz]
variable{l:MV}
def Ep{r:Res}(h:rP e ρ l w d n = .inr r):r = .stuck:=by
 unfold rP at h
 repeat' split at h
 all_goals first|(cases h;done)|(cases h;rfl)
variable{s:MS}
def ag2(h:lQ e ρ w d n = .inl s):s.n=n/\s.w.length<=↑w+3/\s.d.length<=↑d+1/\(J8 w (↑d+1)->J8 s.w s.d.length):=by
 cases e with
 |name x=>cases q:ρ.get x<;>simp[lQ,q]at h;subst h;show(@r,by simp,by simp,λz=>z)
 |num i=>cases h;show(@r,by simp,by simp,λz=>z)
 |truth i=>cases h;show(@r,by simp,by simp,λz=>z)
 |nil i=>cases h;show(@r,by simp,by simp,λz=>z)
 |lam x k b=>cases h;show(@r,by simp,by simp,λz=>z)
 |add a b=>cases h;show(@r,by simp,by simp,λz=>(by simp[MT.ar],by simp[MT.ar],by simpa[MT.ar]using z))
 |less a b=>cases h;show(@r,by simp,by simp,λz=>(by simp[MT.ar],by simp[MT.ar],by simpa[MT.ar]using z))
 |front a b=>cases h;show(@r,by simp,by simp,λz=>(by simp[MT.ar],by simp[MT.ar],by simpa[MT.ar]using z))
 |call a b=>cases h;show(@r,by simp,by simp,λz=>(by simp[MT.ar],by simp[MT.ar],by simpa[MT.ar]using z))
 |cond a b e=>cases h;show(@r,by simp,by simp,λz=>(by simp[MT.ar],by simp[MT.ar],by simpa[MT.ar]using z))
 |case k x y a b e=>cases h;show(@r,by simp,by simp,λz=>(by simp[MT.ar],by simp[MT.ar],by simpa[MT.ar]using z))
def ag3(h:rP e ρ l w d n = .inl s)(z:J8 w (↑d+1 - e.ar+1)):s.n=n/\s.w.length<=↑w+1/\s.d.length<=↑d+1/\J8 s.w s.d.length:=by
 unfold rP at h;split at h
 .split at h<;>cases h<;>show(@r,by simp,by simp,by simpa[MT.ar,J8]using z)
 .split at h<;>cases h<;>show(@r,by simp,by simp,by simpa[MT.ar,J8]using z)
 .split at h<;>cases h;show(@r,by simp,by simp;omega,by simpa[MT.ar,J8]using z)
 .split at h<;>cases h;show(@r,by simp,by simp,by simpa[MT.ar,J8]using z)
 .split at h<;>cases h;show(@r,by simp,by simp,by simpa[MT.ar,J8]using z)
 .split at h<;>cases h;show(@r,by simp,by simp,by simpa[MT.ar,J8]using z)
 .cases h
end _W
namespace _L
open PyProof.Rows
variable{K:aa}{H:Hp}{ds:?L ak}{v:V}
def Rep.mK(h:Rep K H (.list ds) v):∃a o vs,v = .ref a/\H a=θ (.kg o @W)/\bp K H ds vs:=by rw[Rep]at h;show h
variable{a:af}{vs:?L V}
def Rep.list{o:Obj}(h:H a=θ (.kg o @W))(r:bp K H ds vs):Rep K H (.list ds) @x:=by rw[Rep];show(a,o,vs,@r,h,r)
section
variable {X:Cx}{π:?L @u}{σ:St}{H:Hp}{s:ao}
def Inv.LP(I:Inv X π σ H s)(h:H a=θ @W):∃o,Inv X π σ (upd H a<|.kg o @W) s:=by
 have hx:=I.eD a _ h;let(z,cA,n,r,e):=id hx;show({cls:=.type "list",data:=.seq cA.toArray n},?_)
 have:=I.un (h':=s.heap) (t':=s.toks) (H':=upd H a (.kg {cls:=.type "list",data:=.seq cA.toArray n} @W)) (λb o q _ _ _=>q,λb o q _ _ _=>(o.slots,q),λb o q hb _=>by rw[be (λz=>by rw[z,h]at hb;cases hb)];show hb,λb o q _=>(o,q),
  λb xs q=>by rw[be (tJ q h @ar)];show q,λb o u q=>by rw[be (tJ q h @ar)];show q,λb ps q=>(#[],by rw[be (tJ q h @ar),q];simp)) ?_
 .show this
 .intro b o q;have key:∀{b o},H b=θ o->fP X.prog X.w (upd H a<|.kg {cls:=.type "list",data:=.seq cA.toArray n} @W) s.heap b o:=λ{b o} q=>
   (I.eD b o q).sY (λ_ _ _ q=>q) (λc q=>by rw[be (tJ q h @ar)];show q) λc xs q=>by rw[be (tJ q h @ar)];show q
  by_cases hb:b=a
  .subst hb;rw[aA]at q;cases q;show(e,key h)
  .rw[be hb]at q;show key q
variable {ρ:?L Sl}{e:bR}{es:?L bR}{r:Sl}{pos p p2 p3:Pos}{d:ak}{ds xs:?L ak}{rs:?L Sl}{tg:bR}
def Nu:Ho K (MP K a ↑xs) (.ref a,.d<|.list xs,) xs.reverse where
 go:=λi H h hi=>by
  let(b,o,vs,e,h1,h2):=Rep.mK h;cases e;show(by simpa using hi,vs,.inl<|.inr (o,h1),h2.length)
 DH:=λi H v H' h hi ⟨e2,y⟩=>by
  let(b,o,vs,e,h1,h2):=Rep.mK h;cases e;subst e2;have Gu:i<↑xs:=by simpa using hi
  have hj:↑xs - 1 - i<↑xs:=by omega
  let(u,hu,ru):=h2.get (ag hj);have:=y vs (.inl<|.inr (o,h1)) ↑h2;rw[hu]at this;cases this;show(bM.refl _,_,?_,ru);rw[dG Gu];show ag hj
 stop:=λH h=>by
  let(b,o,vs,e,h1,h2):=Rep.mK h;cases e;show(by simp,vs,.inl<|.inr (o,h1),h2.length)
def TU(hm:X.mg "reversed"=ι)(he:VE X ρ e (.d<|.list xs))(hg:Gl X "reversed":=by rfl)(hs:aq [e] X.env=[@c]:=by rfl):VI X ρ tg (.Call (.Name "reversed" p) [e] [] pos) xs.reverse:=
 (_,O1 hg hm (ax he bh hs) hs,λH0 hs σ H R er k=>((H0,hs,er),λv H1 s1 r1=>by
  let(a,o,vs,rfl,h1,h2):=Rep.mK (K:=X.K) (H:=H1) r1;show(a,vs,@r,.inl<|.inr (o,h1),?_);rw[h2.length]
  show k _ H1 (.ref a,.d<|.list xs,) s1 (Rep.list h1 h2) @m Nu))
variable{k:?N}{x:χ}{ps:?L χ}{Rl:?L Sl->Sl ⊕ af->?P}
def Bx(D:nS X.prog X.w X.K X.mg X.base k x ps (oI X.K Rl))(hr:gp k X.A)(ha:VA X ρ (e::es) rs)(h:Rl (rs.map Sl.arg) (.inl r))(hg:Gl X x:=by rfl)(ny:(x==("__debug__":χ))=υ:=by decide)(he:aq (e::es) X.env=@c::aq es X.env:=by rfl)(j4:(dh pos @I).any (·.1)=υ:=by rfl):VE X ρ @w r:=by
 let(f,fd,G,b,kp,m):=D;show PE.weak (ET (E:=E0) G hr hg m kp b .nil (by rintro _ _ _ _ _ _ _ ⟨_,_,_,_,_,_,q⟩;show q.elim) ha ny he j4) λσ H Q ⟨er,q⟩=>(er,λvs H1 s1 r1=>?_);change oI X.K Rl (vs++[]) H1 Q E0;rw[bP];show(rs.map Sl.arg,.inl r,r1.arg,h,λr' z v H2 s2 r2=>by cases z;show q v H2 @H (r2.since s1),λC z=>nomatch z)
variable {Q:Out->?P}{rest:?L cz}
end
section
variable {X:Cx}{ρ:?L Sl}{a e c:bR}{pos p p2:Pos}{Q:Out->?P}{rest:?L cz}
variable{ns:?L ?I}
def Nv(hm:X.mg "len"=ι)(he:VE X ρ e (.h<|r8 X.K ns))(hg:Gl X "len":=by rfl)(hs:aq [e] X.env=[@c]:=by rfl):VE X ρ (.Call (.Name "len" p) [e] [] pos) (.d<|.int (↑ns:?N)):=
 PE.weak (eW gc hg hm gx (ax he bh hs) @d @d hs) (by rintro σ H Q ⟨er,q⟩;show (er,λv H1 s1 r1=>by
  let(a,rfl,hq):=(r1.rd:gT X.K H1 (.h<|r8 X.K ns) v)
  show(a,_,@r,.inl hq.sq,by rw[aP];show q _ H1 s1 iq.int)))
end
end _L
namespace _W
open _L PyProof.Rows
abbrev ag4(K:aa):?L Sl->Sl->?P:=λas r=>∃(ns:?L ?I)(k:?N),as=[.h (r8 K ns),.d (.int (k:?I))]/\r = .d (.int<|ns.getD k 0)
end _W
namespace _L
open PyProof.Rows
abbrev wN:HO->?B
 |.lst _=>ξ
 |.tup _=>ξ
 |.kg _ (.lst _)=>ξ
 |.kg _ (.tup _)=>ξ
 |.Sb _=>ξ
 |_=>υ
abbrev j7(H:Hp):Hp:=λb=>match H b with
 |some o=>if wN o then θ o else ι
 |none=>ι
abbrev qY(H H':Hp):Hp:=λb=>match H b with
 |some o=>if wN o then H' b else θ o
 |none=>H' b
section
variable {P:bu}{w:bU}{H H':Hp}{h h':cD}{b:af}{o:HO}{fs:?L af}
def iF(e:H b=θ o)(v:wN o=ξ):j7 H b=θ o:=by unfold j7;rw[e];simp[v]
def lZ(e:j7 H b=θ o):H b=θ o/\wN o=ξ:=by
 unfold j7 at e;cases q:H b with
 |none=>rw[q]at e;cases e
 |some u=>
  rw[q]at e;simp only at e;by_cases v:wN u=ξ
  .rw[?p v]at e;cases e;show(@r,v)
  .rw[?n v]at e;cases e
def mM(e:H b=ι):j7 H b=ι:=by unfold j7;rw[e]
def By(e:H b=θ o)(v:wN o=υ):j7 H b=ι:=by unfold j7;rw[e];simp[v]
def sj(e:H b=ι):qY H H' b=H' b:=by unfold qY;rw[e]
def lI(e:H b=θ o)(v:wN o=ξ):qY H H' b=H' b:=by unfold qY;rw[e];simp[v]
def u5(e:H b=θ o)(v:wN o=υ):qY H H' b=θ o:=by unfold qY;rw[e];simp[v]
def yF:bM (j7 H) H:=λb o e=>(lZ e).1
def yG(u:Un fs [] (j7 H) H' h h')(k:pT P w H h):bM H' (qY H H'):=λb o e=>by
 cases q:H b with
 |none=>rw[sj q];show e
 |some x=>
  cases v:wN x with
  |true=>rw[lI q v];show e
  |false=>
   let(ob,p):=(k b x q).there;rw[u.free b ob p (By q v) @s]at e;cases e
def Er(s:bM (j7 H) H'):bM H (qY H H'):=λb o e=>by
 cases v:wN o with
 |true=>rw[lI e v];show s b o (iF e v)
 |false=>show u5 e v
def Un.over(u:Un fs [] (j7 H) H' h h'):Un fs [] H (qY H H') h h' where
 keep:=λb o e n hb hx=>u.keep b o e (mM n) hb hx
 slot:=λb o e n hb hx=>u.slot b o e (mM n) hb hx
 free:=λb o e n hx=>by rw[sj n];show u.free b o e (mM n) hx
 there:=u.there
 tK:=λb xs e=>by rw[lI e @r];show u.tK b xs (iF e @r)
 tL:=λb ob x e=>by
  cases v:wN (.kg ob x)with
  |true=>rw[lI e v];show u.tL b ob x (iF e v)
  |false=>show u5 e v
 va:=λb ps e=>by rw[lI e @r];show u.va b ps (iF e @r)
def pT.over(u:Un fs [] (j7 H) H' h h')(k:pT P w H h)(k':pT P w H' h')(nf:∀b∈fs,H b=ι):pT P w (qY H H') h':=λb o e=>by
 have sm:=yG u k;have sY:H' b=θ o->fP P w (qY H H') h' b o:=λe'=>(k' b o e').sY (λ_ _ _ z=>z) (λc z=>sm c _ z) λc xs z=>sm c _ z;have keep:∀c x,H c=θ x->wN x=υ->∀ob,h.get? c=θ ob->h'.get? c=θ ob:=λc x q v ob p=>
  u.keep c ob p (By q v) (λz=>by rw[nf c z]at q;cases q) @s
 cases q:H b with
 |none=>rw[sj q]at e;show sY e
 |some x=>
  cases v:wN x with
  |true=>rw[lI q v]at e;show sY e
  |false=>
   rw[u5 q v]at e;cases(e);show(k b o q).sY (λc ob hc p=>?_) (λc z=>u5 z @r) λc xs z=>by rw[lI z @r];show u.tK c xs (iF z @r)
   rcases hc with rfl|hc
   .show keep c o q v ob p
   .show keep c _ hc @r ob p
def TV(k:pT P w H h):pT P w (j7 H) h:=λb o e=>by
 let(e1,v):=lZ e;have x:=k b o e1;cases o with
 |lst xs=>show x
 |tup xs=>show x
 |Sb ps=>show x
 |kg ob u=>
  cases u with
  |lst xs=>show x
  |tup xs=>show x
  |_=>cases v
 |_=>cases v
end
abbrev XD(sp:Sp):Sp:=λvs H Q E=>sp vs (j7 H) (λv H'=>∀H2,bM H' H2->(bM (j7 H) H'->bM H H2)->Q v H2) (λc e H'=>∀H2,bM H' H2->(bM (j7 H) H'->bM H H2)->E c e H2)
section
variable {P:bu}{w:bU}{K:aa}{mg:χ->?O ai}{base:cD}{k:?N}{f:af}{fd:aV}{ps:?L χ}{sp:Sp}
variable{outer:?L Env}{H:Hp}
def Dc.wN{A:cy}{s:ao}(e:Dc P w K mg base A outer s H):Dc P w K mg base A outer s (j7 H):=
 (e.frames,e.mod,λb o q=>((e.bs b o q).1,mM (e.bs b o q).2),e.Mq,e.vc,λb hb=>mM (e.KR b hb),TV e.eD,e.bare)
def c8.ag5(F:c8 P w K mg base @B k f fd ps sp):c8 P w K mg base @B k f fd ps (XD sp):=by
 show(λvs H Q E h=>F.len _ _ _ _ h,λA outer s H args us vs Q E hr he hb hv hs=>?_);show codeAny_mono (F.run A outer s (j7 H) args us vs _ _ hr he.wN hb hv hs) λr s' z=>?_;cases r with
 |error e=>
  ext;let(ea,cls,H',B,rfl,G,q):=z;ext;show(ea,cls,qY H H',B,@r,(G.os,G.bare,G.un.over,pT.over G.un he.eD G.eD he.KR,G.U7,G.bs,λb u e=>?_,λb o e n hb=>G.old b o e (mM n) hb,G.all),q _ (yG G.un he.eD) Er);cases x:H b with
  |none=>rw[sj x]at e;show G.GQ b u e
  |some y=>
   cases v:wN y with
   |true=>rw[lI x v]at e;show G.GQ b u e
   |false=>
    let(ob,p):=(he.eD b y x).there;show(ob,G.old b ob p (By x v) (λz=>by rw[he.KR b z]at x;cases x))
 |ok r=>
  cases r with
  |ret u=>
   ext;let(v,H',h1,h2,h3,h4,h5,h6):=z;ext;show(v,qY H H',h1,h2,h3.over,pT.over h3 he.eD h4 he.KR,h5,h6 _ (yG h3 he.eD) Er)
  |_=>show z
end
abbrev Sl.XE:Sl->?O (?L ak)
 |.l xs=>θ xs
 |.o xs=>θ xs
 |.d (.list xs)=>θ xs
 |_=>ι
variable{K:aa}{H:Hp}{r:Sl}{v:V}{xs:?L ak}
def gT.ag6(h:gT K H r v)(e:r.XE=θ xs):∃a vs,v = .ref a/\Rd H a @W/\bp K H xs vs:=by
 cases r with
 |un=>cases e
 |d x=>
  cases x with
  |list ys=>cases e;let(a,o,vs,rfl,h1,h2):=Rep.mK (K:=K) (H:=H) h;show(a,vs,@r,.inr (o,h1),h2)
  |_=>cases e
 |l ys=>cases e;let(a,e,vs,q1,q2):=h;show(a,vs,e,.inl q1,q2)
 |o ys=>cases e;let(a,e,vs,q1,q2):=h;show(a,vs,e,.inl q1,q2)
 |h P=>cases e
section
variable {X:Cx}{ρ:?L Sl}{a b e:bR}{ra rb:Sl}{pos p p2:Pos}{d:ak}{xs ys:?L ak}
def qZ(h:VE X ρ e (.o xs)):VE X ρ e (.d<|.list xs):=by
 rintro π s σ H Q I ⟨er,q⟩;show gh (h π s σ H (λv H'=>bM H H'/\iq X.K H H' (.o xs) v) I (er,λv H' s' r=>(s',r))) λ u s1  eg=>?_;let(v,H1,I1,r1,s',r):=eg;let(c,rfl,n,vs,h1,h2):=r;let(o,I2):=I1.LP h1;have sb:bC X.K H1 (upd H1 c<|.kg o @W):=(SameBut.upd _).tup h1;show(_,_,I2,r1,q _ _ (λb u z=>by rw[be (bQ z n)];show s' b u z) (Rep.list (K:=X.K) aA<|bp.mono sb _ _ h2))
def Qz{i:?I}(ha:VE X ρ a ra)(hb:VE X ρ b (.d @T))(ea:ra.XE=θ xs)(h:vy xs i=θ d)(hs:xf b:=by showλ_ _=>rfl):VE X ρ (.Subscript a b pos) (.d d):=
 PE.weak (eL mS ha hb hs) λσ H Q ⟨er,q⟩=>(er,λx H1 s1 r1=>(gN er s1,λy H2 s2 r2=>by
  let(p,vs,rfl,hq,rp):=(r1.rd.mono s2).ag6 ea;obtain rfl:=iq.cX r2;let(j,h1,h2,h3,h4,h5):=uQ h;let(z,hz,rz):=rp.get h2;show(p,vs,i,z,@r,@r,.inl hq,?_,q z H2 @H rz);unfold vy at h ⊢;rw[rp.length];cases q:K7 ↑xs i with
  |none=>rw[q]at h;cases h
  |some k=>
   have hk:=(uP q).1;rw[h1]at hk;cases hk
   show hz))
def TX(hm:X.mg "len"=ι)(he:VE X ρ e ra)(ea:ra.XE=θ xs)(hg:Gl X "len":=by rfl)(hs:aq [e] X.env=[@c]:=by rfl):VE X ρ (.Call (.Name "len" p) [e] [] pos) (.d<|.int (↑xs:?N)):=
 PE.weak (eW gc hg hm gx (ax he bh hs) @d @d hs) (by rintro σ H Q ⟨er,q⟩;show (er,λv H1 s1 r1=>by
  let(a,vs,rfl,hq,rp):=r1.rd.ag6 ea
  show(a,vs,@r,.inl<|.inl hq,by rw[rp.length];show q _ H1 s1 iq.int)))
variable{x:χ}{T:?S}
def Bz{k:?B}(hm:X.mg "isinstance"=ι)(WX:X.mg x=ι)(hv:bootBuiltins x=θ (.type T))(he:VE X ρ e (.d<|.list xs))(hk:aS X.K (.type "list") (.type T)=θ k)(hg:Gl X "isinstance":=by rfl)(WW:Gl X x:=by rfl)(hn:x≠"__name__":=by decide)(hd:(x==("__debug__":χ))=υ:=by decide)(hs:aq [e,.Name x p2] X.env=@c::aq [.Name x p2] X.env:=by rfl):VE X ρ (.Call (.Name "isinstance" p) [e,.Name x p2] [] pos) (.d<|.bool k):=
 gG hm WX hv Ar hk he hg WW hn hd hs
end
abbrev NI(H H':Hp):?P:=bM (j7 H) H'
variable{H':Hp}
def NI.of_same(s:bM H H'):NI H H':=λb o e=>s b o (lZ e).1
def NI.refl(H:Hp):NI H H:=NI.of_same @F
def NI.lst{H H':Hp}{a:af}{xs:?L V}(n:NI H H')(e:H a=θ @aj):H' a=θ @aj:=n a _ (iF e @r)
abbrev NV(K:aa)(R:?L Sl->Sl ⊕ af->?P):Sp:=λvs H Q E=>∃as o,∃ws:?L (V×ak),oF K H as vs/\R as o/\(∀p∈ws,Rep K H p.2 p.1)/\
 (∀r,o = .inl r->∀v H',NI H H'->(∀p∈ws,Rep K H' p.2 p.1)->gT K H' r v->Q v H')/\∀C,o = .inr C->∀H',NI H H'->E @Y ι H'
section
variable {K:aa}{H H' H0:Hp}{hs:?L (V×Sl)}{ρ:?L Sl}{σ:St}
def bp.zip:∀{xs:?L ak}{vs:?L V},bp K H xs vs->∀p∈vs.zip xs,Rep K H p.2 p.1
 |[],vs,_,p,hp=>by rw[List.zip_nil_right]at hp;cases hp
 |x::xs,vs,h,p,hp=>by
  let(v,r,rfl,h1,h2):=h.split;rw[lK]at hp;rcases bg.mp hp with rfl|hp
  .show h1
  .show h2.zip p hp
def bp.HK:∀{xs:?L ak}{vs:?L V},vs.length=↑xs->(∀p∈vs.zip xs,Rep K H p.2 p.1)->bp K H xs vs
 |[],[],_,_=>.nil
 |x::xs,v::vs,hl,h=>.cons (h (v,x,) (by rw[lK];show aJ)) (bp.HK (vI hl) λp hp=>h p (by rw[lK];show aM _ hp))
 |[],_::_,hl,_=>nomatch hl
 |_::_,[],hl,_=>nomatch hl
abbrev NW(v:?O (?O V))(H:Hp):Sl->?L (V×ak)
 |.d x=>match v with
  |some (θ v)=>[(v,x,)]
  |_=>[]
 |.l xs=>match v with
  |some (θ @x)=>(match H a with|some @W=>vs.zip xs|_=>[])
  |_=>[]
 |.o xs=>match v with
  |some (θ @x)=>(match H a with|some @W=>vs.zip xs|_=>[])
  |_=>[]
 |_=>[]
abbrev erW(ρ:?L Sl)(σ:St)(H:Hp)(hs:?L (V×Sl)):?L (V×ak):=
 (lJ ↑ρ).flatMap (λi=>match ρ[i]? with|some r=>NW σ[i]? H r|none=>[])++hs.flatMap λp=>NW (θ<|θ p.1) H p.2
variable{i:?N}
def HL(h:ρ[i]?=θ r){p:V×ak}(hp:p∈NW σ[i]? H r):p∈erW ρ σ H hs:=
 bW _ (iZ.mpr (i,List.mem_range.mpr (ay.mp h).1,by rw[h];show hp))
def Au(h:gT K H r v):∀p∈NW (θ<|θ v) H r,Rep K H p.2 p.1:=by
 intro p hp;cases r with
 |un=>cases hp
 |h P=>cases hp
 |d x=>obtain rfl:=aR.mp (show p∈[(v,x,)]from hp);show h
 |l xs=>
  let(a,rfl,vs,e,q):=h;simp only[NW,e]at hp;show q.zip p hp
 |o xs=>
  let(a,rfl,vs,e,q):=h;simp only[NW,e]at hp;show q.zip p hp
def HM(h:gT K H r v)(np:∀P,r≠.h P)(n:NI H H')(w:∀p∈NW (θ<|θ v) H r,Rep K H' p.2 p.1):gT K H' r v:=by
 cases r with
 |un=>trivial
 |h P=>show ?A @r (np P)
 |d x=>show w (v,x,) aJ
 |l xs=>
  let(a,rfl,vs,e,q):=h;simp only[NW,e]at w;show(a,@r,vs,n.lst e,bp.HK ↑q w)
 |o xs=>
  let(a,rfl,vs,e,q):=h;simp only[NW,e]at w;show(a,@r,vs,n.lst e,bp.HK ↑q w)
def ER.data(er:ER K H0 hs ρ σ H)(nh:∀r∈ρ,∀P,r≠.h P)(NX:∀p∈hs,∀P,p.2≠.h P)(v0:∀b o,H0 b=θ o->wN o=ξ):
  (∀p∈erW ρ σ H hs,Rep K H p.2 p.1)/\∀H',NI H H'->(∀p∈erW ρ σ H hs,Rep K H' p.2 p.1)->ER K H0 hs ρ σ H':=by
 have at_:∀{i:?N}{r:Sl},ρ[i]?=θ r->r≠.un->∃v,σ[i]?=θ (θ v)/\gT K H r v:=λ{i r} h nu=>by
  cases r with
  |un=>show ?A @r nu
  |h P=>show ?A @r (nh _ (aD h) P)
  |d x=>show er.dat i x h
  |l xs=>let(a,h1,h2):=er.lst i xs h;show(_,h1,a,@r,h2)
  |o xs=>let(a,h1,h2,_):=er.own i xs h;show(_,h1,a,@r,h2)
 show(λp hp=>?_,λH' n w=>?_)
 .rcases aW.mp hp with hp|hp
  .let(i,_,hp):=iZ.mp hp;cases q:ρ[i]? with
   |none=>rw[q]at hp;cases hp
   |some r=>
    rw[q]at hp;by_cases nu:r = .un
    .subst nu;cases hp
    .let(v,h1,h2):=at_ q nu;rw[h1]at hp;show Au h2 p hp
  .let(u,hu,hp):=iZ.mp hp;show Au (er.held u hu) p hp
 .have sl:∀{i:?N}{r:Sl},ρ[i]?=θ r->r≠.un->∃v,σ[i]?=θ (θ v)/\gT K H' r v:=λ{i r} h nu=>by
   let(v,h1,h2):=at_ h nu;show(v,h1,HM h2 (nh _<|aD h) n λp hp=>w p (HL h (by rw[h1];show hp)))
  show(λb o e=>n b o (iF (er.same b o e)<|v0 b o e),er.len,λi x q=>sl q @n,λi xs q=>?_,λi P q=>?A @r (nh _ (aD q) P),λi xs q=>?_,er.vh,er.qx,λp hp=>?_,er.Bf)
  .ext;let(v,h1,a,rfl,h2):=sl q @n;ext;show(a,h1,h2)
  .ext;let(a,h1,h2,h3):=er.own i xs q;let(v,g1,a',rfl,g2):=sl q @n;rw[h1]at g1;cases g1;ext;show(a,h1,g2,h3)
  .show HM (er.held p hp) (NX p hp) n λu hu=>w u (aB _<|iZ.mpr (p,hp,hu))
end
abbrev BA(Φ:Hp->?L (V×Sl)->St->?P):?P:=∀H0 hs σ,Φ H0 hs σ->(∀b o,H0 b=θ o->wN o=ξ)/\∀p∈hs,∃d,p.2 = .d d
variable{hs:?L (V×Sl)}
def noP(h:∀p∈hs,∃d,p.2 = .d d):∀p∈hs,∀P,p.2≠.h P:=λp hp P z=>by let(d,e):=h p hp;rw[e]at z;cases z
abbrev noH(ρ:?L Sl):?B:=ρ.all λr=>match r with | .h _=>υ|_=>ξ
def FJ{ρ:?L Sl}(h:noH ρ=ξ):∀r∈ρ,∀P,r≠.h P:=λr hr P z=>by
 have:=List.all_eq_true.mp h r hr;rw[z]at this;cases this
abbrev FK(H:Hp):Hp->?L (V×Sl)->St->?P:=λH0 hs _=>H0=j7 H/\∀p∈hs,∃d,p.2 = .d d
def FK.ev(H:Hp):BA (FK H):=by rintro H0 hs σ ⟨e,h⟩;show (λb o q=>by rw[e]at q;show(lZ q).2,h)
variable{i:?N}
def FK.kept:Kept (FK H) i:=λ_ _ _ _ h=>h
section
variable {X:Cx}{Φ:Hp->?L (V×Sl)->St->?P}{E:XK}{ρ:?L Sl}{e:bR}{es:?L bR}{rs:?L Sl}{pos p p2:Pos}{Q:Out->?P}{rest:?L cz}{o:Sl ⊕ af}
variable{k:?N}{x:χ}{ps:?L χ}{Rl:?L Sl->Sl ⊕ af->?P}
def QA{d:ak}(D:cS X.prog X.w X.K X.mg X.base k x ps (NV X.K Rl))(hr:gp k X.A)(ev:BA Φ)(ha:VA X ρ (e::es) rs)(h:Rl (rs.map Sl.arg) (.inl<|.d d))(q:Q (.rt<|.d d))(nh:noH ρ=ξ:=by rfl)(hg:Gl X x:=by rfl)(ny:(x==("__debug__":χ))=υ:=by decide)(he:aq (e::es) X.env=@c::aq es X.env:=by rfl)(j4:(dh pos @I).any (·.1)=υ:=by rfl):VX X Φ (.Return (θ @w) p2::rest) ρ Q:=
 my (dw<|dq D hr hg ha ny he j4) λH0 hs D σ H φ er l=>((H0,hs,er),λvs H1 s1 r1=>by
  change NV X.K Rl (vs++[]) H1 _ E0;rw[bP];let(v0,NX):=ev H0 hs σ φ;let(w1,w2):=(er.grow s1).data (FJ nh) (noP NX) v0;show(rs.map Sl.arg,.inl<|.d d,_,r1.arg,h,w1,λr z v H2 n w rv=>?_,λC z=>nomatch z);cases z;have zD:=w2 H2 n w
  show l.rt v H2 (.d d,q,zD.same,rv,zD.held))
variable{apos cU tu:Pos}
def BB{f:χ}(R:kS X E)(D:nS X.prog X.w X.K X.mg X.base k f ps (NV X.K Rl))(Sn:gp k X.A)(ev:BA Φ)(hi:uf x X.N 0=θ i)(hr:ρ[i]?=θ (.o xs))(ha:VA X ρ (e::es) rs)(h:Rl (rs.map Sl.arg) o)(ho:∀r,o = .inl r->∃d,r = .d d)(hz:↑xs<au)(hE:∀C,o = .inr C->∀H0 hs σ,Φ H0 hs σ->∀H',bM H0 H'->E @Y ι H')(kk:∀d,o = .inl (.d d)->VX X Φ rest (ρ.set i<|.o<|xs++[d]) Q)(nh:noH ρ=ξ:=by rfl)(hv:zN X.env.scope x:=by first|show bB @r|show cF @A|show cF (cF @r))(hd:(x==("__debug__":χ))=υ:=by decide)(pU:(x==("__classdict__":χ))=υ:=by decide)(jN:dF @j "append" X.env (eval @j X.env)=eval @j X.env:=by rfl)(yj:((dh cU<|aq [.Call (.Name f p) (e::es) [] tu] X.env).all (λx=>!x.1)&&(rD cU<|kR [] X.env).all (λx=>x.1.isSome)&&decide ([Expr.Call (.Name f p) (e::es) [] tu].length + ([]:?L iX).length + @ao<30))=ξ:=by rfl)(jO:@M=ξ:=by rfl)(hs:aq [.Call (.Name f p) (e::es) [] tu] X.env=[(υ,eval (.Call (.Name f p) (e::es) [] tu) X.env,)]:=by rfl)(mB:(dh cU<|aq [] X.env).any (·.1)=υ:=by rfl)(A0:dS (.Call (.Attribute @j "append" apos) [.Call (.Name f p) (e::es) [] tu] [] cU) ι pos.line X.env=pure υ:=by rfl)(hg:Gl X f:=by rfl)(ny:(f==("__debug__":χ))=υ:=by decide)(he:aq (e::es) X.env=@c::aq es X.env:=by rfl)(j4:(dh tu @I).any (·.1)=υ:=by rfl):
  VX X Φ (.Expr (.Call (.Attribute @j "append" apos) [.Call (.Name f p) (e::es) [] tu] [] cU) pos::rest) ρ Q:=
 my (gC (ou bc cq cu gX (jD (iQ hi) hv hd pU) (ax (qX R D Sn hg ha ny he j4) bh hs) jN yj jO hs mB) A0) λH0 hs D σ H φ er l=>by
  ext;let(a,h1,(vs,h2,h3),h4):=er.own i xs hr;ext;show(_,h1,.inl (@r,vs,gF.of h2),(H0,hs,er),λus H1 s1 r1=>?_);change NV X.K Rl (us++[]) H1 _ E;rw[bP];let(v0,NX):=ev H0 hs σ φ;let(w1,w2):=(er.grow s1).data (FJ nh) (noP NX) v0;show(rs.map Sl.arg,o,_,r1.arg,h,w1,λr z v H2 n w rv=>?_,λC z H2 n=>hE C z H0 hs σ φ H2 λb o e=>n b o (iF (s1 b o<|er.same b o e)<|v0 b o e));ext;let(d,rfl):=ho r z;have zD:=w2 H2 n w;let(a',g1,(ws,g2,g3),_):=zD.own i xs hr;rw[h1]at g1;cases g1;ext;show(a,ws,v,@r,@r,g2,by rw[g3.length];show hz,l.nx _ _ (_,kk d z,φ,zD.write hr h1 g2<|g3.append<|.one rv))
end
section
variable {P:bu}{w:bU}{K:aa}{mg:χ->?O ai}{base:cD}
variable{H0:Hp}{σ:St}
def ER.rebase{Vf:Hp}{ZU:?L (V×Sl)}{ρ:?L Sl}(er:ER K H0 [] ρ σ H)(s:bM Vf H)(no:∀r∈ρ,∀xs,r≠.o xs)(hh:∀p∈ZU,gT K H p.2 p.1):ER K Vf ZU ρ σ H:=
 (s,er.len,er.dat,er.lst,er.M9,λi xs q=>?A @r (no _ (aD q) xs),er.vh,er.qx,hh,λi xs a q=>?A @r (no _ (aD q) xs))
variable{x qual:χ}{f:af}{fd:aV}{N ps:?L χ}{k:?N}
def iP.okE{st:cz}{R:?L Sl->Sl ⊕ af->?P}(F:iP K x qual st f fd)(S:bO N ps (az st))(len:∀as o,R as o->↑as=↑ps/\∀q∈as,∀xs,q≠.o xs)(nA:∀(ez:ai)(A:cy)(outer:?L Env)(s:ao)(H:Hp)(E:XK)(as:?L Sl) (o:Sl ⊕ af),gp k (A.deeper<|envOfC qual (az st) ↥s f ez)->R as o->(∀C,o = .inr C->∀H0 (hs:?L (V×Sl)) (σ:St),FK H H0 hs σ->∀H',bM H0 H'->E @Y ι H')->
   VX @K (FK H) (dE st) (as++dm (N.length - ↑as) .un) λt=>∃d,o = .inl (.d d)/\t = .rt (.d d)):
  c8 P w K mg base @B (k+1) f fd ps (NV K R):=by
 show F.okX S @qc @q
 .let(as,o,ws,h1,h2,_):=h;rw[h1.length];show(len as o h2).1
 let(as,o,ws,h1,h2,w1,q,qE):=h;show(_,nA ez A outer s H E as o hr h2 (λC z H0 hs σ e H' s'=>by let(rfl,_):=e;show qE C z H' s'),j7 H,ws.map (λp=>(p.1,Sl.d p.2,)),(@r,λp hp=>?_),(xu h1 (len as o h2).2).rebase yF (λr hr xs=>?_) (λp hp=>?_),?_)
 .let(u,_,rfl):=cj.mp hp;show(u.2,@r)
 .rcases aW.mp hr with m|m
  .show(len as o h2).2 r m xs
  .rw[(lL.mp m).2];intro z;cases z
 .let(u,hu,rfl):=cj.mp hp;show w1 u hu
 .show(by rintro σ H' ⟨ρ,⟨d,_,z⟩,_⟩;show (nomatch z),λv H' ⟨r',⟨d,zo,z⟩,e1,e2,e3⟩=>?_,by rintro σ H' ⟨ρ,⟨d,_,z⟩,_⟩;show (nomatch z),by rintro σ H' ⟨ρ,⟨d,_,z⟩,_⟩;show (nomatch z));cases z;show q _ zo v H' e1 (λp hp=>e3 (p.1,.d p.2,) (cj.mpr (p,hp,@r))) e2
end
end _L
namespace _W
open _L PyProof.Rows
abbrev QB(c:Cs):?L Sl->Sl ⊕ af->?P:=λas o=>∃v:MV,as=[.d (oX c v)]/\o = .inl (.d<|iM c v)
abbrev HN(c:Cs):?L Sl->Sl->?P:=λas r=>∃v:MV,as=[.d (outD v)]/\r = .d (oX c v)
abbrev ag7:?L Sl->Sl->?P:=λas r=>∃v:MV,as=[.d (outD v)]/\r = .d (.bool v.Qv)
abbrev ag8(c:Cs):?L Sl->Sl->?P:=λas r=>∃ρ:MR,as=[.l (gR ρ).reverse]/\r = .d (sU c ρ)
abbrev ag9(c:Cs):?L Sl->Sl->?P:=λas r=>∃ρ:MR,as=[.d (.list (gR ρ).reverse)]/\r = .d (sU c ρ)
abbrev QC(c:Cs):?L Sl->Sl->?P:=λas r=>∃v:MV,as=[.d (outD v)]/\(v.Nr=ξ\/v.Qv=ξ)/\r = .d (iM c v)
end _W
namespace _L
open PyProof.Rows
section
variable {X:Cx}{ρ:?L Sl}{e:bR}{pos p:Pos}
variable{k:?N}{g:af}{fd:aV}{x:χ}{ps:?L χ}
def HP{c:_W.Cs}{v:_W.MV}(hc:c=vf X.K)(M:Mk X.K c.gv g)(F:c8 X.prog X.w X.K X.mg X.base kD k g fd ps (Bs c.gv 1 _W.Qu))(hb:Binds X.K fd ps [])(hm:X.mg x=θ (.ref c.gv))(hr:gp (k+1) X.A)(ha:VE X ρ e (.d<|_W.ye v))(hg:Gl X x:=by rfl)(ny:(x==("__debug__":χ))=υ:=by decide)(he:aq [e] X.env=@c::aq [] X.env:=by rfl)(j4:(dh pos<|aq [] X.env).any (·.1)=υ:=by rfl):VE X ρ (.Call (.Name x p) [e] [] pos) (.d<|_W.oX c v):=
 PE.weak (K3 M F hr hg hm hb .nil Lc (aX ha gw he) ny he j4) λσ H Q ⟨er,q⟩=>(er,λvs H1 s1 r1 x dx nx ndx ne=>by
  let(u,us,rfl,r2,r3):=r1.split;rw[bp]at r3;subst r3;have s2:bM H1 (upd (upd (upd H1 dx<|.own x) x<|.ins c.gv dx []) x<|.ins c.gv dx<|_W.Qu [u]):=by
   rw[ju];show(bt ndx _).trans (bt (by rw[be (cp ne)];show nx) _)
  show(x,dx,[u],by rw[bP],@r,aA,@r,?_)
  show q _ _ @H (Rep.Xt (K:=X.K) (val:=u) (u:=.fB) hc aA (Rep.mono @Q _ _ r2) @i))
end
abbrev NI2(wa da:af)(H H':Hp):?P:=∀b o,b≠wa->b≠da->j7 H b=θ o->H' b=θ o
abbrev TY(K:aa)(R:ak->ak->?L ak->?L ak->(?L ak×?L ak) ⊕ af->?P):Sp:=λvs H Q E=>∃v u wa da d1 d2 xs ys o,∃ws:?L (V×ak),vs=[v,u,.ref wa,.ref da]/\Rep K H d1 v/\Rep K H d2 u/\xp K H wa xs/\xp K H da ys/\wa≠da/\R d1 d2 xs ys o/\(∀p∈ws,Rep K H p.2 p.1)/\
 (∀x,o = .inl x->∀H',NI2 wa da H H'->(∀p∈ws,Rep K H' p.2 p.1)->xp K H' wa x.1->xp K H' da x.2->Q .fB H')/\∀C,o = .inr C->∀H',NI2 wa da H H'->E @Y ι H'
abbrev vC(wa da:af)(H:Hp):Hp->?L (V×Sl)->St->?P:=λH0 hs σ=>(H0=vZ wa da (j7 H)/\∀p∈hs,∃d,p.2 = .d d)/\σ[2]?=θ (θ<|.ref wa)/\σ[3]?=θ (θ<|.ref da)
variable{wa da:af}{H:Hp}{i:?N}
def vC.kept(h2:i≠2)(h3:i≠3):Kept (vC wa da H) i:=λH0 _ σ v ⟨a,b,c⟩=>(a,by rw[dR,?n h2];show b,by rw[dR,?n h3];show c)
def vC.ev(wa da:af)(H:Hp):BA (vC wa da H):=by rintro H0 hs σ ⟨⟨e,h⟩,_⟩;show (λb o q=>by rw[e]at q;show(lZ<|yE b o q).2,h)
variable{H':Hp}
def QD(s:bM (vZ wa da<|j7 H) H'):NI2 wa da H H':=FD s
section
variable {K:aa}{H H' H0 Vf:Hp}{hs ZU:?L (V×Sl)}{ρ:?L Sl}{σ:St}
def ER.TZ(er:ER K H0 [] ρ σ H)(s:bM Vf H)(n0:∀(i:?N) xs a,ρ[i]?=θ (.o xs)->σ[i]?=θ (θ @x)->Vf a=ι)(hh:∀p∈ZU,gT K H p.2 p.1)(hd:∀p∈ZU,∃d,p.2 = .d d):ER K Vf ZU ρ σ H:=
 (s,er.len,er.dat,er.lst,er.M9,λi xs q=>(by let(a,h1,h2,_):=er.own i xs q;show (a,h1,h2,n0 i xs a q h1)),er.vh,er.qx,hh,λi xs a q1 q2 p hp zs hz=>by let(d,e):=hd p hp;rw[e]at hz;cases hz)
variable{j:?N}{xs ys:?L ak}
def ER.ah0(er:ER K H0 hs ρ σ H)(nh:∀r∈ρ,∀P,r≠.h P)(NX:∀p∈hs,∃d,p.2 = .d d)(v0:∀b o,H0 b=θ o->wN o=ξ)(hi:ρ[i]?=θ (.o xs))(hj:ρ[j]?=θ (.o ys))(Qr:i≠j)(ha:σ[i]?=θ (θ<|.ref wa))(hb:σ[j]?=θ (θ<|.ref da)):
  (∀p∈erW ((ρ.set i .un).set j .un) σ H hs,Rep K H p.2 p.1)/\∀H' JK IL,NI2 wa da H H'->(∀p∈erW ((ρ.set i .un).set j .un) σ H hs,Rep K H' p.2 p.1)->xp K H' wa JK->xp K H' da IL->ER K H0 hs ((ρ.set i<|.o JK).set j (.o IL)) σ H':=by
 have li:i<↑ρ:=(ay.mp hi).1;have lj:j<↑ρ:=(ay.mp hj).1;have nw:H0 wa=ι:=by let(a,h1,_,h3):=er.own i xs hi;rw[ha]at h1;cases h1;show h3
 have nd:H0 da=ι:=by let(a,h1,_,h3):=er.own j ys hj;rw[hb]at h1;cases h1;show h3
 have nwd:wa≠da:=λz=>er.qx i j wa xs ys Qr hi hj ha (by rw[z];show hb);have Sh:∀{k:?N},k≠i->k≠j->∀(s t:Sl),((ρ.set i s).set j t)[k]?=ρ[k]?:=λ{k} n1 n2 s t=>by rw[iK (cp n2),iK (cp n1)]
 have at_:∀{k:?N}{r:Sl},ρ[k]?=θ r->r≠.un->∃v,σ[k]?=θ (θ v)/\gT K H r v:=λ{k r} h nu=>by
  cases r with
  |un=>show ?A @r nu
  |h P=>show ?A @r (nh _ (aD h) P)
  |d x=>show er.dat k x h
  |l xs=>let(a,h1,h2):=er.lst k xs h;show(_,h1,a,@r,h2)
  |o xs=>let(a,h1,h2,_):=er.own k xs h;show(_,h1,a,@r,h2)
 show(λp hp=>?_,λH' JK IL n w l1 l2=>?_)
 .rcases aW.mp hp with hp|hp
  .let(k,_,hp):=iZ.mp hp;by_cases kj:k=j
   .subst kj;rw[mE (by simpa using lj)]at hp;cases hp
   by_cases ki:k=i
   .subst ki;rw[iK (cp kj),mE li]at hp;cases hp
   rw[Sh ki kj]at hp;cases q:ρ[k]? with
   |none=>rw[q]at hp;cases hp
   |some r=>
    rw[q]at hp;by_cases nu:r = .un
    .subst nu;cases hp
    .let(v,h1,h2):=at_ q nu;rw[h1]at hp;show Au h2 p hp
  .let(u,hu,hp):=iZ.mp hp;show Au (er.held u hu) p hp
 .have ah1:∀{a:af}{vs:?L V},a≠wa->a≠da->H a=θ @W->H' a=θ @W:=λn1 n2 e=>n _ _ n1 n2 (iF e @r);have sl:∀{k:?N}{r:Sl},k≠i->k≠j->ρ[k]?=θ r->r≠.un->∃v,σ[k]?=θ (θ v)/\gT K H' r v:=λ{k r} n1 n2 h nu=>by
   let(v,h1,h2):=at_ h nu;show(v,h1,?_);have ww:∀p∈NW (θ<|θ v) H r,Rep K H' p.2 p.1:=λp hp=>w p (HL (i:=k) (r:=r) (by rw[Sh n1 n2];show h) (by rw[h1];show hp));cases r with
   |un=>trivial
   |h P=>show ?A @r (nh _ (aD h) P)
   |d x=>show ww (v,x,) aJ
   |l zs=>
    ext;let(a,rfl,vs,e,q):=h2;ext;simp only[NW,e]at ww;show(a,@r,vs,ah1 (λz=>?_) (λz=>?_) e,bp.HK ↑q ww)
    .subst z;show er.vh i k a xs zs hi h ha h1
    .subst z;show er.vh j k a ys zs hj h hb h1
   |o zs=>
    ext;let(a,rfl,vs,e,q):=h2;ext;simp only[NW,e]at ww;show(a,@r,vs,ah1 (λz=>?_) (λz=>?_) e,bp.HK ↑q ww)
    .subst z;show er.qx i k a xs zs (cp n1) hi h ha h1
    .subst z;show er.qx j k a ys zs (cp n2) hj h hb h1
  have gi:((ρ.set i<|.o JK).set j (.o IL))[i]?=θ (.o JK):=by rw[iK (cp Qr)];show mE li
  have gj:((ρ.set i<|.o JK).set j (.o IL))[j]?=θ (.o IL):=mE (by simpa using lj);have back:∀{k:?N}{r:Sl},((ρ.set i<|.o JK).set j (.o IL))[k]?=θ r->(k=i/\r = .o JK)\/(k=j/\r = .o IL)\/(k≠i/\k≠j/\ρ[k]?=θ r):=λ{k r} h=>by
   by_cases ki:k=i
   .subst ki;rw[gi]at h;cases h;show .inl (@r,@r)
   by_cases kj:k=j
   .subst kj;rw[gj]at h;cases h;show .inr (.inl (@r,@r))
   rw[Sh ki kj]at h;show .inr (.inr (ki,kj,h))
  have oo:∀{k:?N}{zs:?L ak},((ρ.set i<|.o JK).set j (.o IL))[k]?=θ (.o zs)->∃zs',ρ[k]?=θ (.o zs'):=λ{k zs} h=>by
   rcases back h with⟨rfl,_⟩|⟨rfl,_⟩|⟨_,_,h⟩
   .show(_,hi)
   .show(_,hj)
   .show(_,h)
  show(λb o e=>n b o (λz=>by rw[z,nw]at e;cases e) (λz=>by rw[z,nd]at e;cases e) (iF (er.same b o e)<|v0 b o e),by simpa using er.len,λk x q=>?_,λk zs q=>?_,λk P q=>?_,λk zs q=>?_,λk m a zs us q1 q2 q3=>?_,λk m a zs us nkm q1 q2 q3=>?_,λp hp=>?_,λk zs a q1 q2 p hp us hu=>?_)
  .rcases back q with⟨_,z⟩|⟨_,z⟩|⟨n1,n2,q⟩
   .cases z
   .cases z
   .show sl n1 n2 q @n
  .rcases back q with⟨_,z⟩|⟨_,z⟩|⟨n1,n2,q⟩
   .cases z
   .cases z
   .ext;let(v,h1,a,rfl,h2):=sl n1 n2 q @n;ext;show(a,h1,h2)
  .rcases back q with⟨_,z⟩|⟨_,z⟩|⟨n1,n2,q⟩
   .cases z
   .cases z
   .show ?A @r (nh _ (aD q) P)
  .rcases back q with⟨rfl,z⟩|⟨rfl,z⟩|⟨n1,n2,q⟩
   .cases z;show(wa,ha,l1,nw)
   .cases z;show(da,hb,l2,nd)
   .ext;let(v,h1,a,rfl,h2):=sl n1 n2 q @n;let(a',g1,_,g3):=er.own k zs q;rw[h1]at g1;cases g1;ext;show(a,h1,h2,g3)
  .let(zs',e1):=oo q1;rcases back q2 with⟨_,z⟩|⟨_,z⟩|⟨_,_,q2⟩
   .cases z
   .cases z
   .show er.vh k m a zs' us e1 q2 q3
  .let(zs',e1):=oo q1;let(Sf,e2):=oo q2;show er.qx k m a zs' Sf nkm e1 e2 q3
  .let(d,hd):=NX p hp;have:=w (p.1,d,) (aB _<|iZ.mpr (p,hp,by rw[hd];show aJ));rw[hd];show this
  .let(d,hd):=NX p hp;rw[hd]at hu;cases hu
end
section
variable {P:bu}{w:bU}{K:aa}{mg:χ->?O ai}{base:cD}
variable{x qual:χ}{f:af}{fd:aV}{N ps:?L χ}{k:?N}{R:ak->ak->?L ak->?L ak->(?L ak×?L ak) ⊕ af->?P}
def iP.ap3{st:cz}(F:iP K x qual st f fd)(S:bO N ps (az st))(hN:4<=N.length)(hp:↑ps=4)(nA:∀(ez:ai)(A:cy)(outer:?L Env)(s:ao)(H:Hp)(E:XK)(wa da:af) (d1 d2:ak) (xs ys:?L ak) (o:(?L ak×?L ak) ⊕ af),gp k (A.deeper<|envOfC qual (az st) ↥s f ez)->R d1 d2 xs ys o->
   (∀C,o = .inr C->∀H0 (hs:?L (V×Sl)) (σ:St),vC wa da H H0 hs σ->∀H',bM H0 H'->E @Y ι H')->
   VX @K (vC wa da H) (dE st) ([.d d1,.d d2,.o xs,.o ys]++dm (N.length - 4) .un) λt=>∃x ρ,o = .inl x/\t = .nx ρ/\ρ[2]?=θ (.o x.1)/\ρ[3]?=θ (.o x.2)):
  c8 P w K mg base @B (k+1) f fd ps (TY K R):=by
 show F.okX S @qc @q
 .ext;let(v,u,wa,da,d1,d2,xs,ys,o,ws,rfl,_):=h;ext;rw[hp];rfl
 ext;let(v,u,wa,da,d1,d2,xs,ys,o,ws,rfl,r1,r2,l1,l2,ne,hR,w1,q,qE):=h;ext;have er0:=Eo (K:=K) (H:=H) hN r1 r2 l1 l2 ne;show(_,nA ez A outer s H E wa da d1 d2 xs ys o hr hR (λC z H0 hs σ e H' s'=>by let((rfl,_),_):=e;show qE C z H' (QD s')),vZ wa da<|j7 H,ws.map (λp=>(p.1,Sl.d p.2,)),((@r,λp hp=>?_),@r,@r),er0.TZ (λb o e=>yF b o (yE b o e)) (λi zs a q1 q2=>?_) (λp hp=>?_) (λp hp=>?_),?_)
 .let(u,_,rfl):=cj.mp hp;show(u.2,@r)
 .ext;let(b,g1,_,g3):=er0.own i zs q1;rw[q2]at g1;cases g1;ext;unfold vZ at g3 ⊢;by_cases z:a=wa\/a=da
  .rw[?p z]
  .rw[?n z]at g3 ⊢;show mM g3
 .let(u,hu,rfl):=cj.mp hp;show w1 u hu
 .let(u,_,rfl):=cj.mp hp;show(u.2,@r)
 show(λσ H' ⟨ρ,⟨x,dI,zo,z,z1,z2⟩,⟨_,f2,f3⟩,e⟩=>?_,λv H' ⟨r',⟨x,dI,zo,z,_⟩,_⟩=>?_,λσ H' ⟨ρ,⟨x,dI,zo,z,_⟩,_⟩=>?_,λσ H' ⟨ρ,⟨x,dI,zo,z,_⟩,_⟩=>?_)
 .ext;cases z;let(a,g1,g2,_):=e.own 2 _ z1;rw[f2]at g1;cases g1;let(b,k1,k2,_):=e.own 3 _ z2;rw[f3]at k1;cases k1;ext;show q x zo H' (QD e.same) (λp hp=>e.held (p.1,.d p.2,) (cj.mpr (p,hp,@r))) g2 k2
 .cases z
 .cases z
 .cases z
end
section
variable {X:Cx}{Φ:Hp->?L (V×Sl)->St->?P}{E:XK}{ρ:?L Sl}{a b:bR}{pos p p2 p3 cU:Pos}{Q:Out->?P}{rest:?L cz}
variable{k j:?N}{x y:χ}{ps:?L χ}{xs ys:?L ak}{d1 d2:ak}{R:ak->ak->?L ak->?L ak->(?L ak×?L ak) ⊕ af->?P}
def Nw{f:χ}{o:(?L ak×?L ak) ⊕ af}(Rz:kS X E)(D:nS X.prog X.w X.K X.mg X.base k f ps (TY X.K R))(hr:gp k X.A)(ev:BA Φ)(ha:VE X ρ a (.d d1))(hb:VE X ρ b (.d d2))(hi:uf x X.N 0=θ i)(hj:uf y X.N 0=θ j)(Qr:i≠j)(hx:ρ[i]?=θ (.o xs))(hy:ρ[j]?=θ (.o ys))(h:R d1 d2 xs ys o)(hE:∀C,o = .inr C->∀H0 hs σ,Φ H0 hs σ->∀H',bM H0 H'->E @Y ι H')(kk:∀z,o = .inl z->VX X Φ rest ((ρ.set i<|.o z.1).set j (.o z.2)) Q)(nh:noH ρ=ξ:=by rfl)(hvx:zN X.env.scope x:=by first|show bB @r|show cF @A|show cF (cF @r))(hdx:(x==("__debug__":χ))=υ:=by decide)(hcx:(x==("__classdict__":χ))=υ:=by decide)(hvy:zN X.env.scope y:=by first|show bB @r|show cF @A|show cF (cF @r))(XA:(y==("__debug__":χ))=υ:=by decide)(hcy:(y==("__classdict__":χ))=υ:=by decide)(hg:Gl X f:=by rfl)(ny:(f==("__debug__":χ))=υ:=by decide)(h1:aq [a,b,.Name x p2,.Name y p3] X.env=(υ,eval a X.env,)::aq [b,.Name x p2,.Name y p3] X.env:=by rfl)(h2:aq [b,.Name x p2,.Name y p3] X.env=(υ,eval b X.env,)::aq [.Name x p2,.Name y p3] X.env:=by rfl)(h3:aq [.Name x p2,.Name y p3] X.env=(υ,eval @j X.env,)::aq [.Name y p3] X.env:=by rfl)(h4:aq [.Name y p3] X.env=(υ,eval (.Name y p3) X.env,)::aq [] X.env:=by rfl)(j4:(dh cU<|aq [b,.Name x p2,.Name y p3] X.env).any (·.1)=υ:=by rfl)(A0:dS (.Call (.Name f p) [a,b,.Name x p2,.Name y p3] [] cU) ι pos.line X.env=pure υ:=by rfl):
  VX X Φ (.Expr (.Call (.Name f p) [a,b,.Name x p2,.Name y p3] [] cU) pos::rest) ρ Q:=
 my (gC (qX Rz D hr hg (ax ha (ax hb (ax (jD (iQ hi) hvx hdx hcx) (ax (jD (iQ hj) hvy XA hcy) bh h4) h3) h2) h1) ny h1 j4) A0) λH0 hs D σ H φ er l=>by
  show((H0,hs,er),λv H1 s1 r1=>((H0,hs,er.grow s1),λu H2 s2 r2=>?_));have zD:=(er.grow s1).grow s2;ext;let(wa,g1,l1,_):=zD.own i xs hx;let(da,g2,l2,_):=zD.own j ys hy;have ne:wa≠da:=λz=>zD.qx i j wa xs ys Qr hx hy g1 (by rw[z];show g2);let(v0,NX):=ev H0 hs σ φ;let(w1,w2):=zD.ah0 (FJ nh) NX v0 hx hy Qr g1 g2;ext;have nw:H0 wa=ι:=by let(a,q1,_,q3):=zD.own i xs hx;rw[g1]at q1;cases(q1);show q3
  have nd:H0 da=ι:=by let(a,q1,_,q3):=zD.own j ys hy;rw[g2]at q1;cases(q1);show q3
  show(_,g1,_,g2,?_)
  show(v,u,wa,da,d1,d2,xs,ys,o,_,@r,Rep.mono @Q _ _ r1,r2,l1,l2,ne,h,w1,λz e H3 n w k1 k2=>l.nx _ _ (_,kk z e,φ,w2 H3 _ _ n w k1 k2),
   λC e H3 n=>hE C e H0 hs σ φ H3 λb o q=>n b o (λz=>by rw[z,nw]at q;cases q) (λz=>by rw[z,nd]at q;cases q) (iF (zD.same b o q)<|v0 b o q))
end
end _L
namespace _W
open _L PyProof.Rows
def LQ:∀(a b:MT),gz a=gz b->a=b:=by
 intro a;induction a with
 |num i=>intro b h;cases b<;>simp[gz]at h<;>first|(show ?A h @d)|(show ?A h.1 @d)|rw[h]
 |truth i=>intro b h;cases b<;>simp[gz]at h<;>first|(show ?A h @d)|(show ?A h.1 @d)|rw[h]
 |nil k=>intro b h;cases b<;>simp[gz]at h<;>first|(show ?A h @d)|(show ?A h.1 @d)|rw[Gr h]
 |name i=>intro b h;cases b<;>simp[gz]at h<;>first|(show ?A h @d)|(show ?A h.1 @d)|rw[h]
 |lam x k b ih=>intro b h;cases b<;>simp[gz]at h<;>first|(show ?A h @d)|(show ?A h.1 @d)|(let((h1,h2),h3):=h;rw[h1,Gr h2,ih _ h3])
 |add a b h1 h2=>intro b h;cases b<;>simp[gz]at h<;>first|(show ?A h @d)|(show ?A h.1 @d)|rw[h1 _ h.1,h2 _ h.2]
 |less a b h1 h2=>intro b h;cases b<;>simp[gz]at h<;>first|(show ?A h @d)|(show ?A h.1 @d)|rw[h1 _ h.1,h2 _ h.2]
 |front a b h1 h2=>intro b h;cases b<;>simp[gz]at h<;>first|(show ?A h @d)|(show ?A h.1 @d)|rw[h1 _ h.1,h2 _ h.2]
 |call a b h1 h2=>intro b h;cases b<;>simp[gz]at h<;>first|(show ?A h @d)|(show ?A h.1 @d)|rw[h1 _ h.1,h2 _ h.2]
 |cond a b c h1 h2 h3=>intro b h;cases b<;>simp[gz]at h<;>first|(show ?A h @d)|(show ?A h.1 @d)|rw[h1 _ h.1,h2 _ h.2.1,h3 _ h.2.2]
 |case k x y a b c h1 h2 h3=>intro b h;cases b<;>simp[gz]at h<;>first|(show ?A h @d)|(show ?A h.1 @d)|(let((e1,e2,e3),e4,e5,e6):=h;rw[Gr e1,e2,e3,h1 _ e4,h2 _ e5,h3 _ e6])
def j8:∀a:MT,gJ (gz a)=ξ:=by
 intro a;induction a with
 |nil k=>simp[gz,gJ,fc,k.2]
 |lam x k b ih=>simp[gz,gJ,fc,k.2,ih]
 |case k x y a b c h1 h2 h3=>simp[gz,gJ,fc,k.2,h1,h2,h3]
 |_=>simp[gz,gJ,fc, *]
def Dn(xs ys:?L ak):fc (xs++ys)=(fc xs&&fc ys):=by
 induction xs with
 |nil=>simp[fc]
 |cons x xs ih=>simp[fc,ih,Bool.and_assoc]
def uu(xs:?L ak):fc xs.reverse=fc xs:=by
 induction xs with
 |nil=>rfl
 |cons x xs ih=>rw[dQ,Dn,ih];simp[fc,Bool.and_comm]
mutual
theorem lA:∀v:MV,gJ (outD v)=ξ
 |.int _=>by simp[outD,gJ]
 |.bool _=>by simp[outD,gJ]
 |.chain xs=>by simp only[outD,gJ];show zE xs
 |.dM x b ρ=>by
  have:=uv ρ;simp[outD,gJ,fc,j8,uu,this]
theorem zE:∀xs:?L MV,fc (iC xs)=ξ
 |[]=>rfl
 |x::xs=>by rw[iC,fc,lA x,zE xs];rfl
theorem uv:∀ρ:?L (χ×MV),fc (gR ρ)=ξ
 |[]=>rfl
 |(x,v)::r=>by rw[gR,fc];simp[gJ,fc,lA v,uv r]
end
mutual
theorem BC:∀(v u:MV),outD v=outD u->v=u
 |.int i,u,h=>by cases u<;>simp[outD]at h;rw[h]
 |.bool i,u,h=>by cases u<;>simp[outD]at h;rw[h]
 |.chain xs,u,h=>by
  cases u<;>simp[outD]at h;rw[Es xs _ h]
 |.dM x b ρ,u,h=>by
  cases u with
  |dM x' b' dI=>
   simp[outD]at h;rw[h.1,LQ _ _ h.2.1,Et ρ dI h.2.2]
  |_=>simp[outD]at h
theorem Es:∀(xs ys:?L MV),iC xs=iC ys->xs=ys
 |[],ys,h=>by cases ys<;>simp[iC]at h;rfl
 |x::xs,ys,h=>by
  cases ys with
  |nil=>simp[iC]at h
  |cons y ys=>simp[iC]at h;rw[BC x y h.1,Es xs ys h.2]
theorem Et:∀(xs ys:?L (χ×MV)),gR xs=gR ys->xs=ys
 |[],ys,h=>by
  cases ys with
  |nil=>rfl
  |cons y ys=>let(a,b):=y;simp[gR]at h
 |(a,b)::xs,ys,h=>by
  cases ys with
  |nil=>simp[gR]at h
  |cons y ys=>let(a',b'):=y;simp[gR]at h;rw[h.1.1,BC b b' h.1.2,Et xs ys h.2]
end
variable{K:aa}{H:Hp}{x:MV}{v:V}
def Av(h:Rep K H (ye x) v):ye x=outD x/\(x.Nr=ξ\/x.Qv=ξ):=by
 cases x with
 |int i=>
  have h:Rep K H (.dict []) v:=h;rw[Rep]at h;rcases h with⟨_,_,_,_,_,_,_,h⟩|h
  .rw[jo]at h;cases h
  .rw[nQ]at h;show h.elim
 |bool i=>
  have h:Rep K H (.dict []) v:=h;rw[Rep]at h;rcases h with⟨_,_,_,_,_,_,_,h⟩|h
  .rw[jo]at h;cases h
  .rw[nQ]at h;show h.elim
 |chain xs=>show(@r,.inl @r)
 |dM x b ρ=>show(@r,.inr @r)
end _W
namespace _L
open PyProof.Rows
structure Uq(K:aa)(H:Hp):?P where
 tt:∀a xs ys,eI K H a xs->eI K H a ys->xs=ys
 tl:∀a xs o ys,eI K H a xs->H a=θ (.kg o<|.lst ys)->?X
section
variable {X:Cx}{π:?L @u}{σ:St}{H:Hp}{s:ao}
def Inv.uq(I:Inv X π σ H s):Uq X.K H:=(λa xs ys h h'=>I.uN h h',λa xs o ys h h'=>by
 let(cA,_,(ob,e,c,_),_):=I.tuple h;let(pV,_,(ob',n,e',c',_),_):=I.list (.inl<|.inr (o,h'));rw[e]at e';cases e';rw[c]at c'
 simp at c')
def XF{e:bR}{t:TE}(h:PE X e t):PE X e (λσ H Q=>t σ H (λv H'=>Uq X.K H'->Q v H')):=λπ s σ H Q I q=>
 gh (h π s σ H _ I q) (by rintro u s1 ⟨v,H1,I1,r1,q1⟩;show (v,H1,I1,r1,q1 I1.uq))
end
section
variable {K:aa}{H H':Hp}
mutual
theorem Rep.uniq(u:Uq K H):∀(d d':ak)(v:V),gJ d=ξ->gJ d'=ξ->Rep K H d v->Rep K H d' v->d=d'
 |.none,d',v,_,n',h,h'=>by
  rw[Rep]at h;subst h;cases d' with
  |none=>rfl
  |bool b=>have z:=h'.is_bool;cases z
  |int b=>have z:=h'.cX;cases z
  |str b=>have z:=h'.eP;cases z
  |tuple _=>let(_,_,z,_):=h'.gf;cases z
  |list _=>let(_,_,_,z,_):=Rep.mK h';cases z
  |dict _=>rw[gJ]at n';cases n'
 |.bool b,d',v,_,n',h,h'=>by
  rw[Rep]at h;subst h;cases d' with
  |none=>have z:=h'.lR;cases z
  |bool b=>have z:=h'.is_bool;cases z;rfl
  |int b=>have z:=h'.cX;cases z
  |str b=>have z:=h'.eP;cases z
  |tuple _=>let(_,_,z,_):=h'.gf;cases z
  |list _=>let(_,_,_,z,_):=Rep.mK h';cases z
  |dict _=>rw[gJ]at n';cases n'
 |.int b,d',v,_,n',h,h'=>by
  rw[Rep]at h;subst h;cases d' with
  |none=>have z:=h'.lR;cases z
  |bool b=>have z:=h'.is_bool;cases z
  |int b=>have z:=h'.cX;cases z;rfl
  |str b=>have z:=h'.eP;cases z
  |tuple _=>let(_,_,z,_):=h'.gf;cases z
  |list _=>let(_,_,_,z,_):=Rep.mK h';cases z
  |dict _=>rw[gJ]at n';cases n'
 |.str b,d',v,_,n',h,h'=>by
  rw[Rep]at h;subst h;cases d' with
  |none=>have z:=h'.lR;cases z
  |bool b=>have z:=h'.is_bool;cases z
  |int b=>have z:=h'.cX;cases z
  |str b=>have z:=h'.eP;cases z;rfl
  |tuple _=>let(_,_,z,_):=h'.gf;cases z
  |list _=>let(_,_,_,z,_):=Rep.mK h';cases z
  |dict _=>rw[gJ]at n';cases n'
 |.tuple ds,d',v,n,n',h,h'=>by
  rw[Rep]at h;ext;let(a,vs,rfl,e2,e3):=h;ext;cases d' with
  |tuple IS=>
   rw[Rep]at h';ext;let(a',vs',z,g2,g3):=h';cases z;obtain rfl:=u.tt a _ _ e2 g2;ext;rw[gJ]at n n';rw[bp.uniq u ds IS vs n n' e3 g3]
  |list IS=>
   rw[Rep]at h';ext;let(a',o,vs',z,g2,g3):=h';cases z;ext;show(u.tl a _ _ _ e2 g2).elim
  |dict=>rw[gJ]at n';cases n'
  |_=>rw[Rep]at h';cases h'
 |.list ds,d',v,n,n',h,h'=>by
  rw[Rep]at h;ext;let(a,o,vs,rfl,e2,e3):=h;ext;cases d' with
  |tuple IS=>
   rw[Rep]at h';ext;let(a',vs',z,g2,g3):=h';cases z;ext;show(u.tl a _ _ _ g2 e2).elim
  |list IS=>
   rw[Rep]at h';ext;let(a',o',vs',z,g2,g3):=h';cases z;rw[e2]at g2;cases g2;ext;rw[gJ]at n n';rw[bp.uniq u ds IS vs n n' e3 g3]
  |dict=>rw[gJ]at n';cases n'
  |_=>rw[Rep]at h';cases h'
 |.dict _,d',v,n,n',h,h'=>by rw[gJ]at n;cases n
theorem bp.uniq(u:Uq K H):∀(ds IS:?L ak)(vs:?L V),fc ds=ξ->fc IS=ξ->bp K H ds vs->bp K H IS vs->ds=IS
 |[],IS,vs,_,_,h,h'=>by
  rw[bp]at h;subst h;cases IS with
  |nil=>rfl
  |cons d IS=>let(_,_,z,_):=h'.split;cases z
 |d::ds,IS,vs,n,n',h,h'=>by
  let(v,r,rfl,e1,e2):=h.split;cases IS with
  |nil=>rw[bp]at h';cases h'
  |cons d' IS=>
   let(v',r',z,g1,g2):=h'.split;cases z;rw[fc,aZ]at n n';rw[Rep.uniq u d d' v n.1 n'.1 e1 g1,bp.uniq u ds IS r n.2 n'.2 e2 g2]
end
variable{v:V}
def Aw(u:Uq K H){x y:_W.MV}(h:Rep K H (_W.ye x) v)(h':Rep K H (_W.ye y) v):x=y:=by
 rw[(_W.Av h).1]at h;rw[(_W.Av h').1]at h';show _W.BC x y (Rep.uniq u _ _ v (_W.lA x) (_W.lA y) h h')
structure Vt(K:aa)(H H':Hp)(x:_W.MV)(g:af)(y:V):?P where
 uq:Uq K H
 was:∃dx val,H g=θ (.ins (vf K).gv dx [(("value":χ),val,),(("inside":χ),.fB,)])/\Rep K H (_W.ye x) val/\H' g=θ (.ins (vf K).gv dx [(("value":χ),val,),(("inside":χ),y,)])
 rest:∀b,b≠g->H' b=H b
 ins:Rep K H (_W.iM (vf K) x) y
def Vt.tup{x g y}(o:Vt K H H' x g y){a:af}{vs:?L V}(h:eI K H a vs):eI K H' a vs:=by
 let(dx,val,e,_):=o.was;rcases h with(h|⟨p,h⟩)|h
 .show .inl (.inl (by rw[o.rest a (λz=>by rw[z,e]at h;cases h)];show h))
 .show .inl (.inr (p,by rw[o.rest a (λz=>by rw[z,e]at h;cases h)];show h))
 .show .inr h
mutual
theorem Rep.opens{x g y}(o:Vt K H H' x g y):∀(d:ak)(v:V),Rep K H d v->Rep K H' d v
 |.none,v,h=>by rw[Rep]at h ⊢;show h
 |.bool _,v,h=>by rw[Rep]at h ⊢;show h
 |.int _,v,h=>by rw[Rep]at h ⊢;show h
 |.str _,v,h=>by rw[Rep]at h ⊢;show h
 |.tuple ds,v,h=>by
  rw[Rep]at h ⊢;ext;let(a,vs,e1,e2,e3):=h;ext;show(a,vs,e1,o.tup e2,bp.opens o ds vs e3)
 |.list ds,v,h=>by
  rw[Rep]at h ⊢;ext;let(a,p,vs,e1,e2,e3):=h;let(dx,val,e,_):=o.was;ext;show(a,p,vs,e1,by rw[o.rest a (λz=>by rw[z,e]at e2;cases e2)];show e2,bp.opens o ds vs e3)
 |.dict bw,v,h=>by
  rw[Rep]at h ⊢;let(dx0,XG,e0,_):=o.was;rcases h with⟨a,C,dx,fs,e1,e2,e3,e4⟩|h
  .show .inl (a,C,dx,fs,e1,?_,e3,jo.opens o bw _ e4);rw[o.rest a (λz=>by rw[z,e0]at e2;cases e2;cases e3)];show e2
  .show .inr (nQ.opens o bw v h)
theorem bp.opens{x g y}(o:Vt K H H' x g y):∀(ds:?L ak)(vs:?L V),bp K H ds vs->bp K H' ds vs
 |[],vs,h=>by rw[bp]at h ⊢;show h
 |d::ds,vs,h=>by
  rw[bp]at h ⊢;let(v,r,e1,e2,e3):=h;show(v,r,e1,Rep.opens o d v e2,bp.opens o ds r e3)
theorem jo.opens{x g y}(o:Vt K H H' x g y):∀(ds:?L (ak×ak)) (vs:?L (χ×V)),jo K H ds vs->jo K H' ds vs
 |[],vs,h=>by rw[jo]at h ⊢;show h
 |(k,d)::ds,vs,h=>by
  rw[jo]at h ⊢;let(g,v,r,e1,e2,e3,e4):=h;show(g,v,r,e1,e2,Rep.opens o d v e3,jo.opens o ds r e4)
theorem nQ.opens{x g y}(o:Vt K H H' x g y):∀(ds:?L (ak×ak)) (v:V),nQ K H ds v->nQ K H' ds v
 |[],v,h=>by rw[nQ]at h;show h.elim
 |(k,d)::ds,v,h=>by
  rw[nQ]at h ⊢;let(h0,h):=h;show(h0,?_);rcases h with h|⟨a,C,dx,val,w,e1,e2,e3,e4⟩
  .show .inl (Rep.opens o d v h)
  .by_cases hag:a=g
   .ext;subst hag;let(dx0,XG,g1,g2,g3):=o.was;rw[g1]at e2;injection e2 with e2;injection e2 with c1 c2 c3;injection c3 with c4 c5;injection c4 with _ c4;injection c5 with c5 _;injection c5 with _ c5;subst c1 c2 c4 c5;let((x',ex),_):=h0;have ed:d=_W.iM (vf K) x':=by injection ex with ex _;injection ex
    have es:ds=[(.str "",.int ((vf K).gv:?N),),(.str "!",_W.ye x',)]:=by injection ex
    have e3':=e3;rw[es,jo]at e3';let(_,_,_,f1,_,_,f4):=e3';cases f1;rw[jo]at f4;let(_,_,_,f1,_,f3,_):=f4;cases f1;ext;have exx:x'=x:=Aw o.uq f3 g2;show .inr (a,_,dx0,XG,y,e1,g3,jo.opens o ds _ e3,.inr<|Rep.opens o d y ?_);rw[ed,exx];show o.ins
   .show .inr (a,C,dx,val,w,e1,by rw[o.rest a hag];show e2,jo.opens o ds _ e3,?_);rcases e4 with e4|e4
    .show .inl e4
    .show .inr (Rep.opens o d w e4)
end
end
section
variable {X:Cx}{ρ:?L Sl}{tg iter e:bR}{xs:?L ak}
variable{K:aa}{a:af}
def Ny:Ho K (Wp K a) (.ref a,.d<|.list xs,) xs where
 go:=λi H h hi=>by
  let(b,o,vs,e,h1,h2):=Rep.mK h;cases e;have hv:i<↑vs:=by rw[h2.length];show hi
  show(vs,vs[i],.inl<|.inr (o,h1),ag hv)
 DH:=λi H v H' h hi ⟨e2,y⟩=>by
  let(b,o,vs,e,h1,h2):=Rep.mK h;cases e;subst e2;let(u,hu,ru):=h2.get (ag hi);have:=y vs (.inl<|.inr (o,h1));rw[hu]at this;cases this;show(bM.refl _,_,ag hi,ru)
 stop:=λH h=>by
  let(b,o,vs,e,h1,h2):=Rep.mK h;cases e;show(vs,.inl<|.inr (o,h1),by rw[h2.length];show aj _)
def LR(h:VE X ρ iter (.d<|.list xs)):VI X ρ tg iter xs:=
 (_,Ab h,λH0 hs σ H R er k=>((H0,hs,er),λv H1 s1 r1=>by
  let(a,o,vs,rfl,h1,h2):=Rep.mK (K:=X.K) (H:=H1) r1
  show(a,@r,(vs,.inl<|.inr (o,h1)),k _ H1 (.ref a,.d<|.list xs,) s1 (Rep.list h1 h2) @m Ny)))
def QE{c:_W.Cs}{v:_W.MV}(hc:c=vf X.K)(h:VE X ρ e (.d<|_W.iM c v)):VE X ρ e (.d<|_W.oX c v):=
 PE.weak h (by rintro σ H Q ⟨er,q⟩;show (er,λu H1 s1 r1=>q u H1 s1 (Rep.eit (K:=X.K) (H:=H1) hc r1)))
end
end _L
namespace _W
open _L PyProof.Rows
def Ax(i:?I):outD @T = .int i:=by simp[outD]
def xG(i:?B):outD (.bool i) = .bool i:=by simp[outD]
def rg(xs:?L MV):outD (.chain xs) = .list (iC xs):=by simp[outD]
def rh(x:χ)(b:MT)(ρ:MR):outD (.dM x b ρ) = .tuple [.str "fun",.str x,gz b,.list (gR ρ).reverse]:=by simp[outD]
def gP:∀ρ:MR,(gR ρ).length=↑ρ
 |[]=>by simp[gR]
 |(x,v)::r=>by rw[gR,aF,aF,gP r]
def yH:∀(ρ:MR)(i:?N)(d:ak),(gR ρ)[i]?=θ d->∃p,ρ[i]?=θ p/\d = .tuple [.str p.1,outD p.2]
 |[],i,d,h=>by simp[gR]at h
 |(x,v)::r,0,d,h=>by rw[gR]at h;cases h;show(_,@r,@r)
 |(x,v)::r,i+1,d,h=>by
  rw[gR,fk]at h;let(p,h1,h2):=yH r i d h;show(p,by simpa using h1,h2)
def l6:∀xs:?L MV,(iC xs).length=↑xs
 |[]=>by simp[iC]
 |x::xs=>by rw[iC,aF,aF,l6 xs]
def Eu:∀(xs:?L MV)(i:?N)(d:ak),(iC xs)[i]?=θ d->∃p,xs[i]?=θ p/\d=outD p
 |[],i,d,h=>by simp[iC]at h
 |x::r,0,d,h=>by rw[iC]at h;cases h;show(_,@r,@r)
 |x::r,i+1,d,h=>by
  rw[iC,fk]at h;let(p,h1,h2):=Eu r i d h;show(p,by simpa using h1,h2)
variable{i:?N}
def yI{α:Type}{ρ:?L α}{p:α}(hi:i<↑ρ)(h:ρ[ρ.length - 1 - i]?=θ p):ρ.drop (↑ρ - @X)=p::ρ.drop (↑ρ - i):=by
 rw[show ↑ρ - @X=↑ρ - 1 - i from by omega,fU @o,show ↑ρ - 1 - i+1=↑ρ - i from by omega];congr 1;show(ay.mp h).2
abbrev Ay(h t o:V):?L (χ×V):=[("head",h,),("rest",t,),("outside",o,)]
abbrev yJ(n b k o:V):?L (χ×V):=[("name",n,),("body",b,),("known",k,),("outside",o,)]
abbrev ZV(n v t:V):?L (χ×V):=[("name",n,),("value",v,),("others",t,)]
abbrev Az(v i:V):?L (χ×V):=[("value",v,),("inside",i,)]
abbrev QF(K:aa)(c:Cs):Sp:=λvs H Q _=>∃v,vs=[v]/\((∃t,S7 K H v t/\aS K t (.ref c.gv)=θ υ/\Q v H)\/(∃g dx val w,v = .ref g/\H g=θ (.ins c.gv dx<|Az val w)/\w≠.fB/\Q w H)\/
 ∃g dx val x,v = .ref g/\H g=θ (.ins c.gv dx<|Az val .fB)/\Rep K H (ye x) val/\∀y H3,bM H H3->Uq K H3->Rep K H3 (iM c x) y->Q y (upd H3 g<|.ins c.gv dx<|Az val y))
variable{K:aa}{c:Cs}{H:Hp}{x:MV}{g dx:af}{val:V}
def QG{y:V}(hc:c=vf K)(u:Uq K H)(hg:H g=θ (.ins c.gv dx<|Az val .fB))(ho:Rep K H (ye x) val)(hy:Rep K H (iM c x) y):Vt K H (upd H g<|.ins c.gv dx<|Az val y) x g y:=by
 subst hc;show(u,(dx,val,hg,ho,aA),λb hb=>be hb,hy)
variable{mg:χ->?O ai}{CS CT:af}{vs:?L V}{Q:V->Hp->?P}
def ah2(M:j6 K mg c CS CT){E:XK}(h:NV K (QB c) vs H Q E):QF K c vs H Q E:=by
 ext;let(as,o,ws,h1,(x,rfl,rfl),w,q,_):=h;let(v,rfl,r1):=h1.one;ext;have q:=q _ @r;show(v,@r,?_);rcases Rep.Bq (c:=c) (x:=x) r1 with h|⟨g,dx,val,u,rfl,hg,ho,hu⟩
 .show .inl (_,M.XB x H v h,M.ap2 x,q v H (NI.refl H) w h)
 .right;rcases hu with rfl|hu
  .show .inr (g,dx,val,x,@r,hg,ho,λy H3 s u ry=>?_);have o:=QG M.cs u (s _ _ hg) (Rep.mono (bC.of_same s) _ _ ho) ry;show q y _ (λb ob e=>?_) (λp hp=>Rep.opens o _ _ (Rep.mono (bC.of_same s) _ _<|w p hp)) (Rep.opens o _ _ ry);let(e1,e2):=lZ e;rw[be (λz=>by rw[z,hg]at e1;cases e1;cases e2)];show s b ob e1
  .show .inl (g,dx,val,u,@r,hg,λz=>?_,q u H (NI.refl H) w hu);have:=An (r:=.d (iM c x)) hu vz;rw[LJ,z]at this;simp at this
noncomputable abbrev Rg:=?L (af×af×af)
abbrev Vu(S:Rg)(a:af)(o:V):?P:=o = .fB\/∃r,o = .ref r/\(a,r,r,)∈S
abbrev ZW(K:aa)(S:Rg)(H:Hp)(a:af)(x:χ)(vb o:V):?P:=o = .fB\/∃t r,o = .ref t/\(a,t,r,)∈S/\eI K H t [.str "fun",.str x,vb,.ref r]
mutual
noncomputable def VR(K:aa)(c:Cs)(S:Rg)(H:Hp):MV->V->?P
 |.int i,v=>v = .int i
 |.bool b,v=>v = .bl b
 |.chain xs,v=>∃a,v = .ref a/\CN K c S H xs a
 |.dM x b ρ,v=>∃a dx vb vk o,v = .ref a/\H a=θ (.ins c.cl dx<|yJ @S vb vk o)/\Rep K H (gz b) vb/\ZW K S H a x vb o/\KN K c S H ρ vk
noncomputable def CN(K:aa)(c:Cs)(S:Rg)(H:Hp):?L MV->af->?P
 |[],a=>∃dx h o,H a=θ (.ins c.ch dx<|Ay h .fB o)/\Vu S a o
 |x::xs,a=>∃dx h t o,H a=θ (.ins c.ch dx<|Ay h (.ref t) o)/\Vu S a o/\(VR K c S H x h\/∃g dg val w,h = .ref g/\H g=θ (.ins c.gv dg<|Az val w)/\Rep K H (ye x) val/\(w = .fB\/VR K c S H x w))/\CN K c S H xs t
noncomputable def KN(K:aa)(c:Cs)(S:Rg)(H:Hp):?L (χ×MV)->V->?P
 |[],v=>v = .fB
 |(n,x)::ρ,v=>∃a dx h t,v = .ref a/\H a=θ (.ins c.kn dx<|ZV (.str n) h t)/\(VR K c S H x h\/∃g dg val w,h = .ref g/\H g=θ (.ins c.gv dg<|Az val w)/\Rep K H (ye x) val/\(w = .fB\/VR K c S H x w))/\KN K c S H ρ t
end
abbrev EV(K:aa)(c:Cs)(S:Rg)(H:Hp)(x:MV)(h:V):?P:=VR K c S H x h\/∃g dg val w,h = .ref g/\H g=θ (.ins c.gv dg<|Az val w)/\Rep K H (ye x) val/\(w = .fB\/VR K c S H x w)
section
variable {K:aa}{H H':Hp}
mutual
theorem FL(tup:∀t xs,eI K H t xs->eI K H' t xs)(kg:∀a o xs,H a=θ (.kg o @aj)->H' a=θ (.kg o @aj)):∀(d:ak)(v:V),gJ d=ξ->Rep K H d v->Rep K H' d v
 |.none,v,_,h=>by rw[Rep]at h ⊢;show h
 |.bool _,v,_,h=>by rw[Rep]at h ⊢;show h
 |.int _,v,_,h=>by rw[Rep]at h ⊢;show h
 |.str _,v,_,h=>by rw[Rep]at h ⊢;show h
 |.tuple ds,v,n,h=>by
  rw[gJ]at n;rw[Rep]at h ⊢;let(a,vs,e1,e2,e3):=h;show(a,vs,e1,tup _ _ e2,FN tup kg ds vs n e3)
 |.list ds,v,n,h=>by
  rw[gJ]at n;rw[Rep]at h ⊢;let(a,o,vs,e1,e2,e3):=h;show(a,o,vs,e1,kg _ _ _ e2,FN tup kg ds vs n e3)
 |.dict _,v,n,h=>by rw[gJ]at n;cases n
theorem FN(tup:∀t xs,eI K H t xs->eI K H' t xs)(kg:∀a o xs,H a=θ (.kg o @aj)->H' a=θ (.kg o @aj)):∀(ds:?L ak)(vs:?L V),fc ds=ξ->bp K H ds vs->bp K H' ds vs
 |[],vs,_,h=>by rw[bp]at h ⊢;show h
 |d::ds,vs,n,h=>by
  rw[fc,aZ]at n;rw[bp]at h ⊢;let(v,r,e1,e2,e3):=h;show(v,r,e1,FL tup kg d v n.1 e2,FN tup kg ds r n.2 e3)
end
end
structure Nx(K:aa)(c:Cs)(S:Rg)(H:Hp)(S':Rg)(H':Hp):?P where
 sub:∀p∈S,p∈S'
 tup:∀t xs,eI K H t xs->eI K H' t xs
 kg:∀a o xs,H a=θ (.kg o @aj)->H' a=θ (.kg o @aj)
 ch:∀a dx h t o,H a=θ (.ins c.ch dx<|Ay h t o)->Vu S a o->∃o',H' a=θ (.ins c.ch dx<|Ay h t o')/\Vu S' a o'
 cl:∀a dx x vb vk o,H a=θ (.ins c.cl dx<|yJ @S vb vk o)->ZW K S H a x vb o->∃o',H' a=θ (.ins c.cl dx<|yJ @S vb vk o')/\ZW K S' H' a x vb o'
 kn:∀a dx n h t,H a=θ (.ins c.kn dx<|ZV n h t)->H' a=θ (.ins c.kn dx<|ZV n h t)
 gv:∀a dx val w,H a=θ (.ins c.gv dx<|Az val w)->∃w',H' a=θ (.ins c.gv dx<|Az val w')/\(w'=w\/(w = .fB/\∀x,Rep K H (ye x) val->VR K c S' H' x w'))
section
variable {K:aa}{c:Cs}{S S' S1:Rg}{H H' H1:Hp}
variable{v:V}
def Nx.rep(n:Nx K c S H S' H'){d:ak}(hd:gJ d=ξ)(h:Rep K H d v):Rep K H' d v:=FL n.tup n.kg d v hd h
def Nx.ye(n:Nx K c S H S' H')(h:Rep K H (ye x) v):Rep K H' (_W.ye x) v:=by
 have e:=(Av h).1;rw[e]at h ⊢;show n.rep (lA x) h
mutual
theorem VR.next(n:Nx K c S H S' H'):∀(x:MV)(v:V),VR K c S H x v->VR K c S' H' x v
 |.int i,v,h=>by rw[VR]at h ⊢;show h
 |.bool b,v,h=>by rw[VR]at h ⊢;show h
 |.chain xs,v,h=>by rw[VR]at h ⊢;let(a,e,q):=h;show(a,e,CN.next n xs a q)
 |.dM x b ρ,v,h=>by
  rw[VR]at h ⊢;let(a,dx,vb,vk,o,e1,e2,e3,e4,e5):=h;let(o',g1,g2):=n.cl a dx x vb vk o e2 e4;show(a,dx,vb,vk,o',e1,g1,n.rep (j8 b) e3,g2,KN.next n ρ vk e5)
theorem CN.next(n:Nx K c S H S' H'):∀(xs:?L MV)(a:af),CN K c S H xs a->CN K c S' H' xs a
 |[],a,h=>by
  rw[CN]at h ⊢;ext;let(dx,h,o,e,r):=h;let(o',e',r'):=n.ch a dx h _ o e r;ext;show(dx,h,o',e',r')
 |x::xs,a,h=>by
  rw[CN]at h ⊢;ext;let(dx,h,t,o,e,r,q1,q2):=h;let(o',e',r'):=n.ch a dx h _ o e r;ext;show(dx,h,t,o',e',r',?_,CN.next n xs t q2);rcases q1 with q1|⟨g,dg,val,w,e1,e2,e3,e4⟩
  .show .inl (VR.next n x h q1)
  .let(w',f1,f2):=n.gv g dg val w e2;show .inr (g,dg,val,w',e1,f1,n.ye e3,?_);rcases f2 with rfl|⟨rfl,f2⟩
   .rcases e4 with e4|e4
    .show .inl e4
    .show .inr (VR.next n x _ e4)
   .show .inr (f2 x e3)
theorem KN.next(n:Nx K c S H S' H'):∀(ρ:?L (χ×MV)) (v:V),KN K c S H ρ v->KN K c S' H' ρ v
 |[],v,h=>by rw[KN]at h ⊢;show h
 |(m,x)::ρ,v,h=>by
  rw[KN]at h ⊢;ext;let(a,dx,h,t,e0,e,q1,q2):=h;ext;show(a,dx,h,t,e0,n.kn a dx _ h t e,?_,KN.next n ρ t q2);rcases q1 with q1|⟨g,dg,val,w,e1,e2,e3,e4⟩
  .show .inl (VR.next n x h q1)
  .let(w',f1,f2):=n.gv g dg val w e2;show .inr (g,dg,val,w',e1,f1,n.ye e3,?_);rcases f2 with rfl|⟨rfl,f2⟩
   .rcases e4 with e4|e4
    .show .inl e4
    .show .inr (VR.next n x _ e4)
   .show .inr (f2 x e3)
end
def Nx.trans(a:Nx K c S H S1 H1)(b:Nx K c S1 H1 S' H'):Nx K c S H S' H' where
 sub:=λp hp=>b.sub p (a.sub p hp)
 tup:=λt xs h=>b.tup t xs (a.tup t xs h)
 kg:=λt o xs h=>b.kg t o xs (a.kg t o xs h)
 ch:=λd dx h t o e r=>by let(o1,e1,r1):=a.ch d dx h t o e r;show b.ch d dx h t o1 e1 r1
 cl:=λd dx x vb vk o e r=>by let(o1,e1,r1):=a.cl d dx x vb vk o e r;show b.cl d dx x vb vk o1 e1 r1
 kn:=λd dx n h t e=>b.kn d dx n h t (a.kn d dx n h t e)
 gv:=λd dx val w e=>by
  let(w1,e1,q1):=a.gv d dx val w e;let(w2,e2,q2):=b.gv d dx val w1 e1;show(w2,e2,?_);rcases q1 with rfl|⟨rfl,q1⟩
  .rcases q2 with rfl|⟨rfl,q2⟩
   .show .inl @r
   .show .inr (@r,λx h=>q2 x (a.ye h))
  .show .inr (@r,λx h=>?_);rcases q2 with rfl|⟨rfl,q2⟩
   .show(q1 x h).next b
   .show q2 x (a.ye h)
variable{t:af}
def eI.wN{xs:?L V}(keep:∀b o,H b=θ o->(∀C dx fs,o≠.ins C dx fs)->(∀zs,o≠.lst zs)->H' b=θ o)(h:eI K H t xs):eI K H' t xs:=by
 rcases h with(h|⟨o,h⟩)|h
 .show .inl (.inl<|keep _ _ h (λ_ _ _ z=>nomatch z) @m)
 .show .inl (.inr (o,keep _ _ h (λ_ _ _ z=>nomatch z) @m))
 .show .inr h
def Nx.of_keep(keep:∀b o,H b=θ o->(∀zs,o≠.lst zs)->H' b=θ o):Nx K c S H S H' where
 sub:=λ_ h=>h
 tup:=λt xs h=>eI.wN (λb o e _ n=>keep b o e n) h
 kg:=λa o xs h=>keep _ _ h @m
 ch:=λa dx h t o e r=>(o,keep _ _ e @m,r)
 cl:=λa dx x vb vk o e r=>(o,keep _ _ e @m,by
  rcases r with r|⟨t,q,r1,r2,r3⟩
  .show .inl r
  .show .inr (t,q,r1,r2,eI.wN (λb o e _ n=>keep b o e n) r3))
 kn:=λa dx n h t e=>keep _ _ e @m
 gv:=λa dx val w e=>(w,keep _ _ e @m,.inl @r)
def Nx.of_same(s:bM H H'):Nx K c S H S H':=.of_keep λb o e _=>s b o e
def Nx.refl:Nx K c S H S H:=.of_keep λb o e _=>e
end
variable{v:V}
def T4{xs:?L MV}(h:Rep K H (E5 c xs) v):∃b,v = .ref b:=by
 cases xs with
 |nil=>rw[E5]at h;let(a,_,_,e,_):=h.kO;show(a,e)
 |cons y ys=>rw[E5]at h;let(a,_,_,e,_):=h.kO;show(a,e)
mutual
theorem v8{K:aa}{H:Hp}(c:Cs)(S:Rg):∀(x:MV)(v:V),Rep K H (iM c x) v->VR K c S H x v
 |.int i,v,h=>by rw[qz]at h;rw[VR];show h.cX
 |.bool b,v,h=>by rw[sh]at h;rw[VR];show h.is_bool
 |.chain xs,v,h=>by
  rw[iM]at h;rw[VR];have e:∃a,v = .ref a:=by
   cases xs with
   |nil=>rw[E5]at h;let(a,_,_,e,_):=h.kO;show(a,e)
   |cons y ys=>rw[E5]at h;let(a,_,_,e,_):=h.kO;show(a,e)
  let(a,rfl):=e;show(a,@r,QH c S xs a h)
 |.dM x b ρ,v,h=>by
  rw[iM]at h;rw[VR];ext;let(a,dx,fs,rfl,ha,hf):=h.kO;ext;cases hf with|cons h1 t=>cases t with|cons h2 t=>cases t with|cons h3 t=>cases t with|cons h4 t=>cases t with|nil=>
  obtain rfl:=h1.eP;obtain rfl:=h4.lR;show(a,dx,_,_,_,@r,ha,h2,.inl @r,QI c S ρ _ h3)
theorem QH{K:aa}{H:Hp}(c:Cs)(S:Rg):∀(xs:?L MV)(a:af),Rep K H (E5 c xs) @x->CN K c S H xs a
 |[],a,h=>by
  rw[E5]at h;ext;let(a',dx,fs,e,ha,hf):=h.kO;cases e;ext;cases hf with|cons h1 t=>cases t with|cons h2 t=>cases t with|cons h3 t=>cases t with|nil=>
  obtain rfl:=h2.lR;obtain rfl:=h3.lR;rw[CN];show(dx,_,_,ha,.inl @r)
 |x::xs,a,h=>by
  rw[E5]at h;ext;let(a',dx,fs,e,ha,hf):=h.kO;cases e;ext;cases hf with|cons h1 t=>cases t with|cons h2 t=>cases t with|cons h3 t=>cases t with|nil=>
  obtain rfl:=h3.lR;let(b,rfl):=T4 h2;rw[CN];show(dx,_,b,_,ha,.inl @r,?_,QH c S xs b h2);rcases Rep.Bq (c:=c) (x:=x) h1 with h|⟨g,dg,val,u,e1,e2,e3,e4⟩
  .show .inl (v8 c S x _ h)
  .show .inr (g,dg,val,u,e1,e2,e3,?_);rcases e4 with e4|e4
   .show .inl e4
   .show .inr (v8 c S x _ e4)
theorem QI{K:aa}{H:Hp}(c:Cs)(S:Rg):∀(ρ:?L (χ×MV)) (v:V),Rep K H (sU c ρ) v->KN K c S H ρ v
 |[],v,h=>by rw[sU]at h;rw[KN];show h.lR
 |(n,x)::ρ,v,h=>by
  rw[sU]at h;ext;let(a,dx,fs,rfl,ha,hf):=h.kO;ext;cases hf with|cons h1 t=>cases t with|cons h2 t=>cases t with|cons h3 t=>cases t with|nil=>
  obtain rfl:=h1.eP;rw[KN];show(a,dx,_,_,@r,ha,?_,QI c S ρ _ h3);rcases Rep.Bq (c:=c) (x:=x) h2 with h|⟨g,dg,val,u,e1,e2,e3,e4⟩
  .show .inl (v8 c S x _ h)
  .show .inr (g,dg,val,u,e1,e2,e3,?_);rcases e4 with e4|e4
   .show .inl e4
   .show .inr (v8 c S x _ e4)
end
section
variable {K:aa}{c:Cs}{S:Rg}{H:Hp}
variable{C:af}
def VR.AA{dg:af}{w:V}(h:VR K c S H x (.ref g))(e:H g=θ (.ins C dg<|Az val w)):?X:=by
 cases x with
 |int i=>rw[VR]at h;cases h
 |bool i=>rw[VR]at h;cases h
 |chain xs=>
  rw[VR]at h;let(a,z,h):=h;cases z;cases xs with
  |nil=>rw[CN]at h;let(_,_,_,h,_):=h;rw[e]at h;simp[Ay,Az]at h
  |cons y ys=>rw[CN]at h;let(_,_,_,_,h,_):=h;rw[e]at h;simp[Ay,Az]at h
 |dM x b ρ=>
  rw[VR]at h;ext;let(a,_,_,_,_,z,h,_):=h;cases z;rw[e]at h;simp[yJ,Az]at h
mutual
theorem VR.uniq(u:Uq K H):∀(x:MV)(v:V)(y:MV),VR K c S H x v->VR K c S H y v->x=y
 |.int i,v,y,h,g=>by
  rw[VR]at h;subst h;cases y with
  |int j=>rw[VR]at g;cases g;rfl
  |bool b=>rw[VR]at g;cases g
  |chain ys=>rw[VR]at g;let(_,e,_):=g;cases e
  |dM=>rw[VR]at g;let(_,_,_,_,_,e,_):=g;cases e
 |.bool i,v,y,h,g=>by
  rw[VR]at h;subst h;cases y with
  |int j=>rw[VR]at g;cases g
  |bool b=>rw[VR]at g;cases g;rfl
  |chain ys=>rw[VR]at g;let(_,e,_):=g;cases e
  |dM=>rw[VR]at g;let(_,_,_,_,_,e,_):=g;cases e
 |.chain xs,v,y,h,g=>by
  rw[VR]at h;let(a,rfl,h):=h;cases y with
  |int j=>rw[VR]at g;cases g
  |bool b=>rw[VR]at g;cases g
  |chain ys=>rw[VR]at g;let(_,e,g):=g;cases e;rw[CN.uniq u xs a ys h g]
  |dM x b ρ=>
   rw[VR]at g;ext;let(_,_,_,_,_,e,g,_):=g;cases e;ext;cases xs with
   |nil=>rw[CN]at h;let(_,_,_,h,_):=h;rw[g]at h;simp[Ay,yJ]at h
   |cons y ys=>rw[CN]at h;let(_,_,_,_,h,_):=h;rw[g]at h;simp[Ay,yJ]at h
 |.dM x b ρ,v,y,h,g=>by
  rw[VR]at h;ext;let(a,dx,vb,vk,o,rfl,e2,e3,e4,e5):=h;ext;cases y with
  |int j=>rw[VR]at g;cases g
  |bool b=>rw[VR]at g;cases g
  |chain ys=>
   rw[VR]at g;let(_,e,g):=g;cases e;cases ys with
   |nil=>rw[CN]at g;let(_,_,_,h,_):=g;rw[e2]at h;simp[Ay,yJ]at h
   |cons y ys=>rw[CN]at g;let(_,_,_,_,h,_):=g;rw[e2]at h;simp[Ay,yJ]at h
  |dM x' b' dI=>
   rw[VR]at g;ext;let(a',NY,vb',vk',o',z,g2,g3,g4,g5):=g;cases z;rw[e2]at g2;simp only[yJ,fZ,HO.ins.injEq,gy,jn,V.str.injEq,true_and,and_true]at g2;let(_,rfl,rfl,rfl,_):=g2;ext;rw[LQ b b' (Rep.uniq u _ _ vb (j8 b) (j8 b') e3 g3),KN.uniq u ρ vk dI e5 g5]
theorem CN.uniq(u:Uq K H):∀(xs:?L MV)(a:af)(ys:?L MV),CN K c S H xs a->CN K c S H ys a->xs=ys
 |[],a,ys,h,g=>by
  rw[CN]at h;ext;let(dx,h,o,e,_):=h;ext;cases ys with
  |nil=>rfl
  |cons y ys=>rw[CN]at g;let(NY,h',t',o',e',_):=g;rw[e]at e';simp[Ay]at e'
 |x::xs,a,ys,h,g=>by
  rw[CN]at h;ext;let(dx,h,t,o,e,_,q1,q2):=h;ext;cases ys with
  |nil=>rw[CN]at g;let(NY,h',o',e',_):=g;rw[e]at e';simp[Ay]at e'
  |cons y ys=>
   rw[CN]at g;ext;let(NY,h',t',o',e',_,g1,g2):=g;rw[e]at e';simp only[Ay,fZ,HO.ins.injEq,gy,jn,V.ref.injEq,true_and,and_true]at e';let(_,rfl,rfl,_):=e';ext;rw[CN.uniq u xs t ys q2 g2];congr 1;rcases q1 with q1|⟨b,db,val,w,z,f2,f3,f4⟩
   .rcases g1 with g1|⟨b',db',XH,w',z',g2,g3,g4⟩
    .show VR.uniq u x h y q1 g1
    .subst z';show(q1.AA g2).elim
   .subst z;rcases g1 with g1|⟨b',db',XH,w',z',g2,g3,g4⟩
    .show(g1.AA f2).elim
    .ext;cases z';rw[f2]at g2;simp only[Az,fZ,HO.ins.injEq,gy,jn,true_and,and_true]at g2;let(_,rfl,_):=g2;ext;show Aw u f3 g3
theorem KN.uniq(u:Uq K H):∀(ρ:?L (χ×MV)) (v:V) (dI:?L (χ×MV)),KN K c S H ρ v->KN K c S H dI v->ρ=dI
 |[],v,dI,h,g=>by
  rw[KN]at h;subst h;cases dI with
  |nil=>rfl
  |cons y ys=>let(n,y):=y;rw[KN]at g;let(_,_,_,_,z,_):=g;cases z
 |(n,x)::ρ,v,dI,h,g=>by
  rw[KN]at h;ext;let(a,dx,h,t,rfl,e,q1,q2):=h;ext;cases dI with
  |nil=>rw[KN]at g;cases g
  |cons y ys=>
   ext;let(n',y):=y;rw[KN]at g;let(a',NY,h',t',z,e',g1,g2):=g;cases z;rw[e]at e';simp only[ZV,fZ,HO.ins.injEq,gy,jn,V.str.injEq,true_and,and_true]at e';let(_,rfl,rfl,rfl):=e';ext;rw[KN.uniq u ρ t ys q2 g2];congr 2;rcases q1 with q1|⟨b,db,val,w,z,f2,f3,f4⟩
   .rcases g1 with g1|⟨b',db',XH,w',z',g2,g3,g4⟩
    .show VR.uniq u x h y q1 g1
    .subst z';show(q1.AA g2).elim
   .subst z;rcases g1 with g1|⟨b',db',XH,w',z',g2,g3,g4⟩
    .show(g1.AA f2).elim
    .ext;cases z';rw[f2]at g2;simp only[Az,fZ,HO.ins.injEq,gy,jn,true_and,and_true]at g2;let(_,rfl,_):=g2;ext;show Aw u f3 g3
end
end
mutual
noncomputable def MV.wt:MV->?N
 |.chain xs=>Nz xs+1
 |.int _=>1
 |.bool _=>1
 |.dM _ _ ρ=>NZ ρ+1
noncomputable def Nz:?L MV->?N
 |[]=>0
 |x::xs=>x.wt + Nz xs
noncomputable def NZ:?L (χ×MV)->?N
 |[]=>0
 |(_,x)::xs=>x.wt + NZ xs
end
mutual
noncomputable def MV.nd:MV->?N
 |.chain xs=>↑xs + Vv xs+1
 |.int _=>0
 |.bool _=>0
 |.dM _ _ ρ=>↑ρ + XI ρ+1
noncomputable def Vv:?L MV->?N
 |[]=>0
 |x::xs=>max x.nd (Vv xs)
noncomputable def XI:?L (χ×MV)->?N
 |[]=>0
 |(_,x)::xs=>max x.nd (XI xs)
end
def LS:∀{xs:?L MV}{x:MV},x∈xs->x.nd<=Vv xs
 |y::ys,x,h=>by
  rw[Vv];rcases bg.mp h with rfl|h
  .show lM _ _
  .show bD (LS h) (kB _ _)
def LU:∀{ρ:?L (χ×MV)} {x:MV},x∈ρ.map (·.2)->x.nd<=XI ρ
 |(n,y)::ys,x,h=>by
  rw[XI];rw[bZ]at h;rcases bg.mp h with rfl|h
  .show lM _ _
  .show bD (LU h) (kB _ _)
noncomputable abbrev Pt:=?O χ×MV
abbrev ptC(x:MV):Pt:=(ι,x,)
abbrev ptL(p:χ×MV):Pt:=(θ p.1,p.2,)
abbrev MV.parts:MV->?L Pt
 |.chain xs=>xs.map ptC
 |.dM _ _ ρ=>(ρ.map ptL).reverse
 |_=>[]
def v9:∀xs ys:?L MV,Nz (xs++ys)=Nz xs + Nz ys
 |[],ys=>by simp[Nz]
 |x::xs,ys=>by rw[df,Nz,Nz,v9 xs ys];omega
def BD:∀xs ys:?L (χ×MV),NZ (xs++ys)=NZ xs + NZ ys
 |[],ys=>by simp[NZ]
 |(n,x)::xs,ys=>by rw[df,NZ,NZ,BD xs ys];omega
abbrev Means(K:aa)(c:Cs)(S:Rg)(H:Hp):MV->V->?P
 |.int i,v=>v = .int i
 |.bool b,v=>v = .bl b
 |.chain xs,v=>∃a r,v = .ref r/\(a,r,r,)∈S/\CN K c S H xs a
 |.dM x b ρ,v=>∃a t r vb,v = .ref t/\(a,t,r,)∈S/\eI K H t [.str "fun",.str x,vb,.ref r]/\Rep K H (gz b) vb/\VR K c S H (.dM x b ρ) @x
abbrev BE(K:aa)(c:Cs)(S:Rg)(H:Hp):Pt->V->?P
 |(ι,x),v=>Means K c S H x v
 |(θ n,x),v=>∃p u,v = .ref p/\eI K H p [.str n,u]/\Means K c S H x u
inductive iO(K:aa)(c:Cs)(S:Rg)(H:Hp):?L Pt->?L V->?P where
 |nil:iO K c S H [] []
 |cons {x v xs vs:_}:BE K c S H x v->iO K c S H xs vs->iO K c S H (x::xs) (v::vs)
section
variable {K:aa}{c:Cs}{S S':Rg}{H H' H0:Hp}
def Means.next(n:Nx K c S H S' H')(h:Means K c S H x v):Means K c S' H' x v:=by
 cases x with
 |int i=>show h
 |bool b=>show h
 |chain xs=>let(a,r,e,m,q):=h;show(a,r,e,n.sub _ m,q.next n)
 |dM x b ρ=>let(a,t,r,vb,e,m,q1,q2,q3):=h;show(a,t,r,vb,e,n.sub _ m,n.tup _ _ q1,n.rep (j8 b) q2,q3.next n)
def BE.next(n:Nx K c S H S' H'){x:Pt}(h:BE K c S H x v):BE K c S' H' x v:=by
 let(o,x):=x;cases o with
 |none=>show Means.next n h
 |some m=>let(p,u,e,q1,q2):=h;show(p,u,e,n.tup _ _ q1,q2.next n)
def iO.next(n:Nx K c S H S' H'):∀{xs:?L Pt}{vs:?L V},iO K c S H xs vs->iO K c S' H' xs vs
 |_,_,.nil=>.nil
 |_,_,.cons h t=>.cons (h.next n) (t.next n)
def iO.snoc{x:Pt}{v:V}(h:BE K c S H x v):∀{xs:?L Pt}{vs:?L V},iO K c S H xs vs->iO K c S H (xs++[x]) (vs++[v])
 |_,_,.nil=>.cons h .nil
 |_,_,.cons g t=>.cons g (iO.snoc h t)
def iO.reverse:∀{xs:?L Pt}{vs:?L V},iO K c S H xs vs->iO K c S H xs.reverse vs.reverse
 |_,_,.nil=>.nil
 |_,_,.cons g t=>by rw[dQ,dQ];show t.reverse.snoc g
def iO.length:∀{xs:?L Pt}{vs:?L V},iO K c S H xs vs->↑vs=↑xs
 |_,_,.nil=>rfl
 |_,_,.cons g t=>by rw[aF,aF,t.length]
end
noncomputable abbrev Wt:=?L ((af×af×af)×MV)
structure GB(K:aa)(c:Cs)(H0:Hp)(S:Rg)(W:Wt)(cur:?O af)(wa:af)(H:Hp):?P where
 Gz:∀b,H b=ι->H0 b=ι
 ni:∀b o,H0 b=θ o->(∀C dx fs,o≠.ins C dx fs)->H b=θ o
 rooms:(S.map (·.2.2)).Nodup
 fresh:∀p∈S,H0 p.2.2=ι
 there:∀p∈S,∃vs,H p.2.2=θ @W
 xH:H0 wa=ι
 oA:∀p∈S,p.2.2≠wa
 pend:∀q∈W,q.1∈S/\VR K c S H q.2 (.ref q.1.1)/\H q.1.2.2=θ @t
 ZX:(W.map (·.1.2.2)).Nodup
 fill:∀p∈S,(∀q∈W,q.1≠p)->cur≠θ p.2.2->∃x vs,VR K c S H x (.ref p.1)/\H p.2.2=θ @W/\iO K c S H x.parts vs
 BF:∀r,cur=θ r->(∃p∈S,p.2.2=r)/\∀q∈W,q.1.2.2≠r
abbrev WL(K:aa)(H:Hp)(ws:?L V)(W:Wt):?P:=↑ws=W.length/\∀(i:?N) v q,ws[i]?=θ v->W[i]?=θ q->∃t,v = .ref t/\eI K H t [.ref q.1.1,.ref q.1.2.2]
def WL.nil{K H:_}:WL K H [] []:=(@r,λi v q h=>by cases h)
variable{H':Hp}
def WL.mono{ws W}(h:WL K H ws W)(e:∀t xs,eI K H t xs->eI K H' t xs):WL K H' ws W:=(h.1,λi v q a b=>(by let(t,e1,e2):=h.2 i v q a b;show (t,e1,e _ _ e2)))
variable{ws:?L V}{W:Wt}{t:af}{q:(af×af×af)×MV}
def WL.snoc(h:WL K H ws W)(ht:eI K H t [.ref q.1.1,.ref q.1.2.2]):WL K H (ws++[.ref t]) (W++[q]):=by
 show(by rw[aH,aH,h.1];rfl,λi v p a b=>?_);by_cases hi:i<↑ws
 .rw[bF hi]at a;rw[bF (by rw[<-h.1];show hi)]at b;show h.2 i v p a b
 .rw[bT @o]at a;rw[bT (by rw[<-h.1];omega),<-h.1]at b;cases hk:i - ↑ws with
  |zero=>rw[hk]at a b;cases a;cases b;show(t,@r,ht)
  |succ k=>rw[hk]at a;cases a
def WL.last(h:WL K H ws (W++[q])):∃me t,ws=me++[.ref t]/\eI K H t [.ref q.1.1,.ref q.1.2.2]/\WL K H me W:=by
 have hl:=h.1;rw[aH,ik]at hl;have Ec:ws≠[]:=by intro z;rw[z]at hl;simp at hl
 obtain⟨me,v,rfl⟩:∃me v,ws=me++[v]:=(_,_,(AI Ec).symm);rw[aH,ik]at hl;have Tf:↑me=W.length:=by omega
 let(t,rfl,ht):=h.2 ↑me v q @s (by rw[Tf];simp);show(me,t,@r,ht,Tf,λi v p a b=>?_);have hi:i<↑me:=(ay.mp a).1;show h.2 i v p (by rw[bF hi];show a) (by rw[bF @o];show b)
abbrev Wt.sum:Wt->?N
 |[]=>0
 |q::W=>q.2.wt + Wt.sum W
def Wt.sum_append(W W':Wt):Wt.sum (W++W')=Wt.sum W + Wt.sum W':=by
 induction W with
 |nil=>simp[Wt.sum]
 |cons q W ih=>simp only[df,Wt.sum,ih];omega
abbrev LV(W W':Wt)(X:?L MV):?P:=∃N,W'=W++N/\N.length<=X.length/\∀q∈N,q.2∈X
variable{X:?L MV}
def LV.refl:LV W W X:=([],by simp,by simp,λq h=>nomatch h)
variable{W1 W2:Wt}{Y:?L MV}
def LV.trans(a:LV W W1 X)(b:LV W1 W2 Y):LV W W2 (X++Y):=by
 let(N,rfl,h1,h2):=a;let(M,rfl,h3,h4):=b;show(N++M,by simp,by simp;omega,λq h=>?_);rcases aW.mp h with h|h
 .show bW _ (h2 q h)
 .show aB _ (h4 q h)
variable{W':Wt}
def LV.len(a:LV W W' X):W'.length<=W.length + X.length:=by
 let(N,rfl,h,_):=a;rw[aH];omega
abbrev PB(B:?N)(W:Wt):?P:=∀A q C,W=A++q::C->A.length + q.2.nd<=B
variable{B:?N}{p:(af×af×af)×MV}
def PB.push{m:?N}(h:PB B (W++[p]))(g:LV W W' X)(hX:∀x∈X,x.nd<=m)(hm:X.length + m<=p.2.nd):PB B W':=by
 ext;let(N,rfl,h1,h2):=g;ext;intro A q C e;rcases Dx.mp e with⟨A',rfl,e2⟩|⟨C',e1,e2⟩
 .have hq:q∈N:=by rw[e2];simp
  have:=hX _ (h2 q hq);have hl:A'.length+1<=N.length:=by rw[e2];simp
  have:=h W p [] @s;rw[aH];omega
 .cases C' with
  |nil=>
   rw[bP]at e1;have hq:q∈N:=by rw[fN]at e2;rw[<-e2];simp
   have:=hX _ (h2 q hq);have hl:1<=N.length:=by rw[fN]at e2;rw[<-e2];simp
   have:=h W p [] @s;rw[<-e1];omega
  |cons q' C'=>
   rw[df]at e2;cases e2;show h A q (C'++[p]) (by rw[e1];simp)
def PB.top(h:PB B (W++[p])):W.length + p.2.nd<=B:=h W p [] @s
structure nV(K:aa)(c:Cs)(H0:Hp)(S:Rg)(W:Wt)(cur:?O af)(wa:af)(H:Hp)(S':Rg)(W':Wt)(H':Hp)(X:?L MV):?P where
 nx:Nx K c S H S' H'
 gb:GB K c H0 S' W' cur wa H'
 wl:∃ws,H' wa=θ @ap/\WL K H' ws W'
 less:W'.sum<=W.sum + Nz X
 grow:LV W W' X
 keep:∀b o,H b=θ o->(∀C dx fs,o≠.ins C dx fs)->b≠wa->H' b=θ o
 new:∀q∈S',q∈S\/H q.2.2=ι
 Gz:∀b,H' b=ι->H b=ι
section
variable {K:aa}{c:Cs}{S S':Rg}{W:Wt}{cur:?O af}{wa:af}{H H' H0:Hp}{ws:?L V}
def GB.step(g:GB K c H0 S W cur wa H)(hw:H wa=θ @ap)(l:WL K H ws W)(nx:Nx K c S H S H')(keep:∀b o,H b=θ o->(∀C dx fs,o≠.ins C dx fs)->H' b=θ o)(Gz:∀b,H' b=ι->H b=ι):nV K c H0 S W cur wa H S W H' X:=
  (nx,(λb e=>g.Gz b (Gz b e),λb o e z=>keep b o (g.ni b o e z) z,g.rooms,g.fresh,λp hp=>(by let(vs,e):=g.there p hp;show (vs,keep _ _ e<|λ_ _ _ z=>nomatch z)),g.xH,g.oA,
    λq hq=>(by let(a,b,d):=g.pend q hq;show (a,b.next nx,keep _ _ d<|λ_ _ _ z=>nomatch z)),g.ZX,
    λp hp h1 h2=>(by let(x,vs,a,b,d):=g.fill p hp h1 h2;show (x,vs,a.next nx,keep _ _ b (λ_ _ _ z=>nomatch z),d.next nx)),g.BF),
   (ws,keep _ _ hw (λ_ _ _ z=>nomatch z),l.mono nx.tup),by omega,.refl,λb o e z _=>keep b o e z,λ_ h=>.inl h,Gz)
def GB.same(g:GB K c H0 S W cur wa H)(hw:H wa=θ @ap)(l:WL K H ws W)(s:bM H H'):nV K c H0 S W cur wa H S W H' X:=
 g.step hw l (.of_same s) (λb o e _=>s b o e) (λb e=>s.free e)
variable{H1 H2:Hp}
def nV.trans{S1 S2:Rg}{Z:?L MV}(a:nV K c H0 S W cur wa H S1 W1 H1 X)(b:nV K c H0 S1 W1 cur wa H1 S2 W2 H2 Y)(h:X++Y=Z):nV K c H0 S W cur wa H S2 W2 H2 Z:=by
 subst h;show(a.nx.trans b.nx,b.gb,b.wl,by have:=a.less;have:=b.less;rw[v9];omega,a.grow.trans b.grow,λd o e z w=>b.keep d o (a.keep d o e z w) z w,λq hq=>(b.new q hq).elim (λh=>a.new q h) (λh=>.inr (a.Gz _ h)),λd e=>a.Gz d (b.Gz d e))
def Nx.opens{y:V}(hc:c=vf K)(o:Vt K H H' x g y):Nx K c S H S H':=by
 ext;subst hc;let(dx0,XG,e0,r0,e1):=o.was;ext;have old:∀b ob,H b=θ ob->(∀C dx v w,ob≠.ins C dx (Az v w))->H' b=θ ob:=λb ob e z=>by
  rw[o.rest b (λq=>by rw[q,e0]at e;cases e;show z _ _ _ _ @r)];show e
 have tup:∀t xs,eI K H t xs->eI K H' t xs:=λt xs h=>o.tup h;show(λ_ h=>h,tup,λa ob xs h=>old _ _ h (λ_ _ _ _ z=>nomatch z),λa dx h t ob e r=>(ob,old _ _ e (λ_ _ _ _ z=>by simp[Ay,Az]at z),r),λa dx n vb vk ob e r=>(ob,old _ _ e (λ_ _ _ _ z=>by simp[yJ,Az]at z),?_),λa dx n h t e=>old _ _ e (λ_ _ _ _ z=>by simp[ZV,Az]at z),λa dx val w e=>?_)
 .rcases r with r|⟨t,q,r1,r2,r3⟩
  .show .inl r
  .show .inr (t,q,r1,r2,tup _ _ r3)
 .by_cases h:a=g
  .ext;subst h;rw[e0]at e;simp only[Az,fZ,HO.ins.injEq,gy,jn,true_and,and_true]at e;let(rfl,rfl,rfl):=e;ext;show(y,e1,.inr (@r,λx' h'=>?_));obtain rfl:=Aw o.uq h' r0;show v8 _ _ _ _ (Rep.opens o _ _ o.ins)
  .show(w,by rw[o.rest a h];show e,.inl @r)
variable{a:af}
def Vu.mono(sub:∀p∈S,p∈S'){o:V}(h:Vu S a o):Vu S' a o:=by
 rcases h with h|⟨r,e,m⟩
 .show .inl h
 .show .inr (r,e,sub _ m)
variable{x:χ}{vb:V}
def ZW.mono(sub:∀p∈S,p∈S')(tup:∀t xs,eI K H t xs->eI K H' t xs){o:V}(h:ZW K S H a x vb o):ZW K S' H' a x vb o:=by
 rcases h with h|⟨t,r,e,m,q⟩
 .show .inl h
 .show .inr (t,r,e,sub _ m,tup _ _ q)
variable{r:af}
def Nx.ah3{h t:V}(ha:H a=θ (.ins c.ch dx<|Ay h t .fB))(old:∀b o,H b=θ o->(∀zs,o≠.lst zs)->b≠a->H' b=θ o)(na:H' a=θ (.ins c.ch dx<|Ay h t<|.ref r)):Nx K c S H (S++[(a,r,r,)]) H':=by
 have sub:∀p∈S,p∈S++[(a,r,r,)]:=λp hp=>bW _ hp;have tup:∀t xs,eI K H t xs->eI K H' t xs:=λt xs q=>eI.wN (λb o e z n=>old b o e n (λw=>by rw[w,ha]at e;cases e;show z _ _ _ @r)) q;show(sub,tup,λb o xs e=>old _ _ e @m (λw=>by rw[w,ha]at e;cases e),λb NY h' t' o' e q=>?_,λb NY n vb vk o' e q=>(o',old _ _ e @m (λw=>by rw[w,ha]at e;simp[Ay,yJ]at e),q.mono sub tup),λb NY n h' t' e=>?_,λb NY v w' e=>(w',old _ _ e @m (λw=>by rw[w,ha]at e;simp[Ay,Az]at e),.inl @r))
 .by_cases w:b=a
  .subst w;rw[ha]at e;simp only[Ay,fZ,HO.ins.injEq,gy,jn,true_and,and_true]at e;let(rfl,rfl,rfl,rfl):=e;show(_,na,.inr (r,@r,by simp))
  .show(o',old _ _ e @m w,q.mono sub)
 .show old _ _ e @m (λw=>?_);rw[w,ha]at e;have e':("head":χ) = "name":=?C (λo:?O HO=>match o with|some (.ins _ _ ((x,_)::_))=>x|_=>"") e;show ?A e' @d
def Nx.ah4{vk:V}(ha:H a=θ (.ins c.cl dx<|yJ @S vb vk .fB))(old:∀b o,H b=θ o->(∀zs,o≠.lst zs)->b≠a->H' b=θ o)(na:H' a=θ (.ins c.cl dx<|yJ @S vb vk<|.ref t))(ht:eI K H' t [.str "fun",.str x,vb,.ref r]):Nx K c S H (S++[(a,t,r,)]) H':=by
 have sub:∀p∈S,p∈S++[(a,t,r,)]:=λp hp=>bW _ hp;have tup:∀t xs,eI K H t xs->eI K H' t xs:=λt xs q=>eI.wN (λb o e z n=>old b o e n (λw=>by rw[w,ha]at e;cases e;show z _ _ _ @r)) q;show(sub,tup,λb o xs e=>old _ _ e @m (λw=>by rw[w,ha]at e;cases e),λb NY h' t' o' e q=>(o',old _ _ e @m (λw=>by rw[w,ha]at e;simp[Ay,yJ]at e),q.mono sub),λb NY n vb' vk' o' e q=>?_,λb NY n h' t' e=>old _ _ e @m (λw=>by rw[w,ha]at e;simp[ZV,yJ]at e),λb NY v w' e=>(w',old _ _ e @m (λw=>by rw[w,ha]at e;simp[yJ,Az]at e),.inl @r));by_cases w:b=a
 .ext;subst w;rw[ha]at e;simp only[yJ,fZ,HO.ins.injEq,gy,jn,V.str.injEq,true_and,and_true]at e;let(rfl,rfl,rfl,rfl,rfl):=e;ext;show(_,na,.inr (t,r,@r,by simp,ht))
 .show(o',old _ _ e @m w,q.mono sub tup)
variable{t1:af}
def GB.room{x:MV}(g:GB K c H0 S W cur wa H)(hw:H wa=θ @ap)(l:WL K H ws W)(vr:VR K c S H x @x)(hr:H r=ι)(nx:Nx K c S H (S++[(a,t,r,)]) H')(old:∀b o,H b=θ o->(∀C dx fs,o≠.ins C dx fs)->b≠wa->H' b=θ o)(Gz:∀b,H' b=ι->H b=ι)(h1:H' r=θ @t)(h2:H' wa=θ (.lst<|ws++[.ref t1]))(h3:eI K H' t1 [.ref a,.ref r]):nV K c H0 S W cur wa H (S++[(a,t,r,)]) (W++[((a,t,r,),x,)]) H' [x]:=by
 have lst:∀b zs,H b=θ (.lst zs)->b≠wa->H' b=θ (.lst zs):=λb zs e n=>old b _ e (λ_ _ _ z=>nomatch z) n;have nr:∀p∈S,p.2.2≠r:=λp hp z=>by let(vs,e):=g.there p hp;rw[z,hr]at e;cases e
 have wr:wa≠r:=bQ hw hr;have h0r:H0 r=ι:=g.Gz r hr;show(nx,(λb e=>g.Gz b (Gz b e),λb o e n=>old b o (g.ni b o e n) n (λz=>by rw[z,g.xH]at e;cases e),?_,λp hp=>?_,λp hp=>?_,g.xH,λp hp=>?_,λq hq=>?_,?_,λp hp hq ap4=>?_,λr' e=>((by let(b,hb,e'):=(g.BF r' e).1;show (b,nx.sub _ hb,e')),λq hq=>?_)),(_,h2,(l.mono nx.tup).snoc (q:=((a,t,r,),x,)) h3),?_,([((a,t,r,),x,)],@r,by simp,by simp),old,λq hq=>?_,Gz)
 .rw[bK,fh,mo];show(g.rooms,by simp,λx hx y hy=>?_);let(p,hp,rfl):=cj.mp hx;rw[aR]at hy;rw[hy];show nr p hp
 .rcases aW.mp hp with hp|hp
  .show g.fresh p hp
  .rw[aR]at hp;rw[hp];show h0r
 .rcases aW.mp hp with hp|hp
  .let(vs,e):=g.there p hp;show(vs,lst _ _ e<|g.oA p hp)
  .rw[aR]at hp;rw[hp];show(_,h1)
 .rcases aW.mp hp with hp|hp
  .show g.oA p hp
  .rw[aR]at hp;rw[hp];show cp wr
 .rcases aW.mp hq with hq|hq
  .let(q1,q2,q3):=g.pend q hq;show(nx.sub _ q1,q2.next nx,lst _ _ q3<|g.oA _ q1)
  .rw[aR]at hq;rw[hq];show(by simp,vr.next nx,h1)
 .rw[bK,fh,mo];show(g.ZX,by simp,λx hx y hy=>?_);let(p,hp,rfl):=cj.mp hx;rw[aR]at hy;rw[hy];show nr _ (g.pend p hp).1
 .rcases aW.mp hp with hp|hp
  .ext;let(ys,vs,f1,f2,f3):=g.fill p hp (λq h=>hq q (bW _ h)) ap4;ext;show(ys,vs,f1.next nx,lst _ _ f2<|g.oA p hp,f3.next nx)
  .rw[aR]at hp;show ?A hp.symm (hq _<|aB _<|aR.mpr @r)
 .rcases aW.mp hq with hq|hq
  .show(g.BF r' e).2 q hq
  .rw[aR]at hq;rw[hq];let(b,hb,e'):=(g.BF r' e).1;rw[<-e'];show cp (nr _ hb)
 .rw[Wt.sum_append];simp[Wt.sum,Nz]
 .rcases aW.mp hq with hq|hq
  .show .inl hq
  .rw[aR]at hq;rw[hq];show .inr hr
variable{p:af×af×af}
def GB.one{q:af×af×af}(g:GB K c H0 S W cur wa H)(hp:p∈S)(m:q∈S)(e:p.2.2=q.2.2):p=q:=by
 have nd:=g.rooms;let(i,hi):=IF.mp hp;let(j,hj):=IF.mp m;have e1:(S.map (·.2.2))[i]?=θ q.2.2:=by rw[aE,hi];simp[e]
 have e2:(S.map (·.2.2))[j]?=θ q.2.2:=by rw[aE,hj];rfl
 have li:i<(S.map (·.2.2)).length:=(ay.mp e1).1;have ij:=(List.getElem?_inj li nd).mp (e1.trans e2.symm);subst ij;rw[hi]at hj;show bf hj
variable{zs us:?L V}
def GB.put(g:GB K c H0 S W (θ p.2.2) wa H)(m:p∈S)(hr:H p.2.2=θ (.lst zs))(hw:H wa=θ @ap)(l:WL K H ws W):
  Nx K c S H S (upd H p.2.2<|.lst us)/\GB K c H0 S W (θ p.2.2) wa (upd H p.2.2<|.lst us)/\(upd H p.2.2<|.lst us) wa=θ @ap/\WL K (upd H p.2.2<|.lst us) ws W:=by
 have wr:p.2.2≠wa:=g.oA _ m;have nx:Nx K c S H S (upd H p.2.2<|.lst us):=.of_keep λb o e z=>by rw[be (λw=>by rw[w,hr]at e;cases e;show z _ @r)];show e
 show(nx,(λb e=>?_,λb o e n=>?_,g.rooms,g.fresh,λp' hp=>?_,g.xH,g.oA,λq hq=>?_,g.ZX,λp' hp hq hc=>?_,g.BF),by rw[be (cp wr)];show hw,l.mono nx.tup)
 .by_cases z:b=p.2.2
  .rw[z,aA]at e;cases e
  .rw[be z]at e;show g.Gz b e
 .rw[be (λz=>by rw[z,g.fresh _ m]at e;cases e)];show g.ni b o e n
 .by_cases z:p'.2.2=p.2.2
  .show(us,by rw[z];show aA)
  .let(vs,e):=g.there p' hp;show(vs,by rw[be z];show e)
 .let(q1,q2,q4):=g.pend q hq;show(q1,q2.next nx,by rw[be ((g.BF _ @r).2 q hq)];show q4)
 .have z:p'.2.2≠p.2.2:=λz=>hc (by rw[z]);let(xs,vs,f1,f3,f4):=g.fill p' hp hq hc;show(xs,vs,f1.next nx,by rw[be z];show f3,f4.next nx)
def GB.side{pl:af}(g:GB K c H0 S W cur wa H)(hp:H pl=θ (.lst zs))(f0:H0 pl=ι)(fw:pl≠wa)(fr:∀q∈S,q.2.2≠pl)(hw:H wa=θ @ap)(l:WL K H ws W):
  Nx K c S H S (upd H pl<|.lst us)/\GB K c H0 S W cur wa (upd H pl<|.lst us)/\(upd H pl<|.lst us) wa=θ @ap/\WL K (upd H pl<|.lst us) ws W:=by
 have nx:Nx K c S H S (upd H pl<|.lst us):=.of_keep λb o e z=>by rw[be (λw=>by rw[w,hp]at e;cases e;show z _ @r)];show e
 show(nx,(λb e=>?_,λb o e n=>?_,g.rooms,g.fresh,λp' D9=>?_,g.xH,g.oA,λq hq=>?_,g.ZX,λp' D9 hq hc=>?_,g.BF),by rw[be (cp fw)];show hw,l.mono nx.tup)
 .by_cases z:b=pl
  .rw[z];show f0
  .rw[be z]at e;show g.Gz b e
 .rw[be (λz=>by rw[z,f0]at e;cases e)];show g.ni b o e n
 .let(vs,e):=g.there p' D9;show(vs,by rw[be (fr p' D9)];show e)
 .let(q1,q2,q4):=g.pend q hq;show(q1,q2.next nx,by rw[be (fr _ q1)];show q4)
 .let(xs,vs,f1,f3,f4):=g.fill p' D9 hq hc;show(xs,vs,f1.next nx,by rw[be (fr p' D9)];show f3,f4.next nx)
def GB.full{x:MV}(g:GB K c H0 S W (θ p.2.2) wa H)(m:p∈S)(vr:VR K c S H x (.ref p.1))(hr:H p.2.2=θ @W)(ml:iO K c S H x.parts vs):GB K c H0 S W ι wa H:=by
 show(g.Gz,g.ni,g.rooms,g.fresh,g.there,g.xH,g.oA,g.pend,g.ZX,λp' hp hq _=>?_,λr' e=>nomatch e);by_cases z:p'.2.2=p.2.2
 .obtain rfl:=g.one hp m z;show(x,vs,vr,hr,ml)
 .show g.fill p' hp hq (λe=>z (bf e).symm)
def GB.take{me:?L V}(g:GB K c H0 S (W++[q]) ι wa H)(hw:H wa=θ @ap)(l:WL K H me W):
  Nx K c S H S (upd H wa<|.lst me)/\GB K c H0 S W (θ q.1.2.2) wa (upd H wa<|.lst me)/\WL K (upd H wa<|.lst me) me W/\q.1∈S/\VR K c S (upd H wa<|.lst me) q.2 (.ref q.1.1)/\(upd H wa<|.lst me) q.1.2.2=θ @t:=by
 have nx:Nx K c S H S (upd H wa<|.lst me):=.of_keep λb o e z=>by rw[be (λw=>by rw[w,hw]at e;cases e;show z _ @r)];show e
 let(q1,q2,q4):=g.pend q (aB _<|aR.mpr @r);have nd:=g.ZX;rw[bK,fh,mo]at nd;have dif:∀p∈W,p.1.2.2≠q.1.2.2:=λp hp=>nd.2.2 _ (cj.mpr (p,hp,@r)) _ (aR.mpr @r);show(nx,(λb e=>?_,λb o e n=>?_,g.rooms,g.fresh,λp hp=>?_,g.xH,g.oA,λp hp=>?_,nd.1,λp hp hq hc=>?_,λr e=>?_),l.mono nx.tup,q1,q2.next nx,by rw[be (g.oA _ q1)];show q4)
 .by_cases z:b=wa
  .rw[z];show g.xH
  .rw[be z]at e;show g.Gz b e
 .rw[be (λz=>by rw[z,g.xH]at e;cases e)];show g.ni b o e n
 .let(vs,e):=g.there p hp;show(vs,by rw[be (g.oA p hp)];show e)
 .let(p1,p2,p4):=g.pend p (bW _ hp);show(p1,p2.next nx,by rw[be (g.oA _ p1)];show p4)
 .let(xs,vs,f1,f3,f4):=g.fill p hp (λp' D9=>by
   rcases aW.mp D9 with h|h
   .show hq p' h
   .rw[aR]at h;rw[h];intro z;show hc (by rw[z])) @n
  show(xs,vs,f1.next nx,by rw[be (g.oA p hp)];show f3,f4.next nx)
 .cases e;show((q.1,q1,@r),dif)
end
section
variable {K:aa}{c:Cs}{S:Rg}{wa:af}{H H' H0:Hp}
mutual
theorem yK(u:Uq K H)(g:GB K c H0 S [] ι wa H)(k1:∀b,b∉S.map (·.2.2)->H' b=H b)(k:∀r∈S.map (·.2.2),∀vs,H r=θ @W->∃o,H' r=θ (.kg o @W)):∀(x:MV)(v:V),Means K c S H x v->Rep K H' (outD x) v
 |.int i,v,h=>by rw[Ax,show v = .int i from h];show .int i
 |.bool b,v,h=>by rw[xG,show v = .bl b from h];show .bool b
 |.chain xs,v,h=>by
  ext;let(a,r,rfl,m,cn):=h;let(y,vs,f1,f3,f4):=g.fill (a,r,r,) m (λq hq=>nomatch hq) @n;obtain rfl:=VR.uniq u (.chain xs) @x y (by rw[VR];show(a,@r,cn)) f1;let(o,e):=k r (cj.mpr (_,m,@r)) vs f3;ext;rw[rg];show Rep.list e (HQ u g k1 k xs vs f4)
 |.dM x b ρ,v,h=>by
  ext;let(a,t,r,vb,rfl,m,q1,q2,q3):=h;let(y,vs,f1,f3,f4):=g.fill (a,t,r,) m (λq hq=>nomatch hq) @n;obtain rfl:=VR.uniq u (.dM x b ρ) @x y q3 f1;let(o,e):=k r (cj.mpr (_,m,@r)) vs f3;ext;have keep:∀b o,H b=θ o->(∀C dx fs,o≠.ins C dx fs)->(∀zs,o≠.lst zs)->H' b=θ o:=λb o e _ n=>by
   rw[k1 b (λz=>by let(p,hp,rfl):=cj.mp z;let(vs,e'):=g.there p hp;rw[e]at e';cases e';show n _ @r)];show e
  have tup:∀t xs,eI K H t xs->eI K H' t xs:=λt xs h=>eI.wN keep h;rw[rh];show Rep.tuple (tup _ _ q1) (.cons (.str _)<|.cons (.str _)<|.cons (FL tup (λa o xs h=>keep _ _ h (λ_ _ _ z=>nomatch z) @m) _ _ (j8 b) q2) (.cons (Rep.list e ?_) .nil));have f5:=f4.reverse;rw[MV.parts,iL]at f5;have:=(HR u g k1 k tup ρ _ f5).reverse;rwa[iL]at this
theorem HQ(u:Uq K H)(g:GB K c H0 S [] ι wa H)(k1:∀b,b∉S.map (·.2.2)->H' b=H b)(k:∀r∈S.map (·.2.2),∀vs,H r=θ @W->∃o,H' r=θ (.kg o @W)):∀(xs:?L MV)(vs:?L V),iO K c S H (xs.map ptC) vs->bp K H' (iC xs) vs
 |[],vs,h=>by cases h;rw[iC];show .nil
 |x::xs,vs,h=>by cases h with|cons h t=>rw[iC];show .cons (yK u g k1 k x _ h) (HQ u g k1 k xs _ t)
theorem HR(u:Uq K H)(g:GB K c H0 S [] ι wa H)(k1:∀b,b∉S.map (·.2.2)->H' b=H b)(k:∀r∈S.map (·.2.2),∀vs,H r=θ @W->∃o,H' r=θ (.kg o @W))(tup:∀t xs,eI K H t xs->eI K H' t xs):∀(ρ:?L (χ×MV)) (vs:?L V),iO K c S H (ρ.map ptL) vs->bp K H' (gR ρ) vs
 |[],vs,h=>by cases h;rw[gR];show .nil
 |(n,x)::ρ,vs,h=>by
  cases h with|cons h t=>
  let(p,w,rfl,h1,h2):=h;rw[gR];show .cons (Rep.tuple (tup _ _ h1)<|.cons (.str _)<|.cons (yK u g k1 k x _ h2) .nil) (HR u g k1 k tup ρ _ t)
end
end
abbrev FO(K:aa)(c:Cs):Sp:=λvs H Q _=>∃v wa x H0 S W cur ws,vs=[v,.ref wa]/\EV K c S H x v/\GB K c H0 S W cur wa H/\H wa=θ @ap/\WL K H ws W/\W.length<16700000/\
 ∀u S' W' H',nV K c H0 S W cur wa H S' W' H' [x]->Means K c S' H' x u->Q u H'
abbrev LW(K:aa)(c:Cs):Sp:=λvs H Q _=>∃p wa xs H0 S W ws,vs=[.ref p.2.2,.ref p.1,.ref wa]/\CN K c S H xs p.1/\p∈S/\H p.2.2=θ @t/\GB K c H0 S W (θ p.2.2) wa H/\H wa=θ @ap/\WL K H ws W/\W.length + ↑xs<16700000/\
 ∀S' W' H',Nx K c S H S' H'->GB K c H0 S' W' ι wa H'->(∃me,H' wa=θ (.lst me)/\WL K H' me W')->W'.sum<=W.sum + Nz xs->LV W W' xs->Q .fB H'
abbrev LX(K:aa)(c:Cs):Sp:=λvs H Q _=>∃p kn wa x b ρ H0 S W ws,vs=[.ref p.2.2,kn,.ref wa]/\VR K c S H (.dM x b ρ) (.ref p.1)/\KN K c S H ρ kn/\p∈S/\H p.2.2=θ @t/\GB K c H0 S W (θ p.2.2) wa H/\H wa=θ @ap/\WL K H ws W/\W.length + ↑ρ<16700000/\
 ∀S' W' H',Nx K c S H S' H'->GB K c H0 S' W' ι wa H'->(∃me,H' wa=θ (.lst me)/\WL K H' me W')->W'.sum<=W.sum + NZ ρ->LV W W' (ρ.map (·.2))->Q .fB H'
abbrev AB(K:aa)(c:Cs):Sp:=λvs H Q _=>∃v x,vs=[v]/\Rep K H (iM c x) v/\x.nd<16700000/\∀u H',(∀b o,H b=θ o->(∀C dx fs,o≠.ins C dx fs)->H' b=θ o)->Rep K H' (outD x) u->Q u H'
abbrev Vw(K:aa)(c:Cs)(H0:Hp)(S:Rg)(W:Wt)(p:af×af×af)(wa:af)(xs:?L MV)(H:Hp):?N->_L.St->Hp->?P:=λn σ H'=>∃ys zs b S' W' vs,n=↑zs/\xs=ys++zs/\σ=[θ (.ref p.2.2),θ<|.ref p.1,θ<|.ref wa,θ (.ref b)]/\Nx K c S H S' H'/\GB K c H0 S' W' (θ p.2.2) wa H'/\
 (∃me,H' wa=θ (.lst me)/\WL K H' me W')/\W'.sum<=W.sum + Nz ys/\LV W W' ys/\CN K c S' H' zs b/\H' p.2.2=θ @W/\iO K c S' H' (ys.map ptC) vs
abbrev Vx(K:aa)(c:Cs)(H0:Hp)(S:Rg)(W:Wt)(p:af×af×af)(kn:V)(wa pl:af)(ρ:?L (χ×MV))(H:Hp):?N->_L.St->Hp->?P:=λn σ H'=>∃ys zs v S' W' vs,n=↑zs/\ρ=ys++zs/\σ=[θ (.ref p.2.2),θ kn,θ<|.ref wa,θ<|.ref pl,θ v]/\Nx K c S H S' H'/\GB K c H0 S' W' (θ p.2.2) wa H'/\
 (∃me,H' wa=θ (.lst me)/\WL K H' me W')/\W'.sum<=W.sum + NZ ys/\LV W W' (ys.map (·.2))/\KN K c S' H' zs v/\H' p.2.2=θ @t/\(H0 pl=ι/\pl≠wa/\∀q∈S',q.2.2≠pl)/\H' pl=θ @W/\iO K c S' H' (ys.map ptL) vs
end _W
namespace _L
open PyProof.Rows
section
variable {X:Cx}{π:?L @u}{σ:St}{s:ao}
def Inv.LY:∀(rs:?L af){H:Hp},Inv X π σ H s->(∀r∈rs,∃vs,H r=θ @W)->rs.Nodup->∃H',Inv X π σ H' s/\(∀b,b∉rs->H' b=H b)/\∀r∈rs,∀vs,H r=θ @W->∃o,H' r=θ (.kg o @W)
 |[],H,I,_,_=>(H,I,λ_ _=>rfl,λr h=>nomatch h)
 |r::rs,H,I,h,nd=>by
  let(n1,n2):=e9.mp nd;let(vs,e):=h r aJ;let(o,I1):=I.LP e;have ne:∀b∈rs,b≠r:=λb hb z=>n1 (z ▸ hb);let(H',I2,k1,k2):=Inv.LY rs I1 (λb hb=>by let(ws,q):=h b (aM _ hb);show(ws,by rw[be (ne b hb)];show q)) n2;show(H',I2,λb hb=>?_,λb hb ws q=>?_)
  .have h1:b≠r:=λz=>hb (z ▸ aJ);rw[k1 b (λz=>hb (aM _ z)),be h1]
  .rcases bg.mp hb with z|hb
   .subst z;rw[e]at q;cases q;show(o,by rw[k1 _ n1];show aA)
   .show k2 b hb ws (by rw[be (ne b hb)];show q)
variable{i:?N}{x:χ}{p:Pos}
def T5(hi:X.N[i]?=θ x)(hv:zN X.env.scope x:=by first|show bB @r|show cF @A|show cF (cF @r))(hd:(x==("__debug__":χ))=υ:=by decide)(pU:(x==("__classdict__":χ))=υ:=by decide):
  PE X (.Name x p) (λσ H Q=>∃(v:V)(rs:?L af),σ[i]?=θ (θ v)/\(∀r∈rs,∃vs,H r=θ @W)/\rs.Nodup/\(Uq X.K H->∀H',(∀b,b∉rs->H' b=H b)->(∀r∈rs,∀vs,H r=θ @W->∃o,H' r=θ (.kg o @W))->Q v H')):=by
 rintro π s σ H Q I ⟨v,rs,h1,h2,h3,q⟩;show gh (jD hi hv hd pU π s σ H (λu H'=>u=v/\H'=H) I (v,h1,@r,@r)) λ u s1  eg=>?_;let(v',H1,I1,r1,e1,e2):=eg;subst e1 e2;let(H',I2,k1,k2):=Inv.LY rs I1 h2 h3;show(_,H',I2,r1,q I1.uq H' k1 k2)
def uw:tO X (.builtin "isinstance") (λxs H Q=>∃a tp C D C0 dx fs b,xs=[.ref a,.ref tp]/\H a=θ (.ins C0 dx fs)/\Np X.K C0/\eI X.K H tp [.ref C,.ref D]/\fz X.K (.ref C0) [.ref C,.ref D]=θ b/\Q (.bl b) H):=by
 intro π s σ H xs us Q I r h;ext;let(a,tp,C,D,C0,dx,fs,b,rfl,ea,T,hq,e,q):=h;let(u,w',rfl,rx,rt):=vals2 r;cases rt;cases rx;let(rN,r2,((cls,dd,data,sl),g1,g2,n,g3),_):=I.tuple hq;simp only at g2 g3;subst g2 g3;let(v1,v2,rfl,e1,e2):=r2.two;cases e1;cases e2;let(mA,O,_):=Ad I.eD ea;let(od,J,_):=O.look;ext;show zi (PySem.W.kitx_own (T.cl.get _) T.cl.hd T.ha T.hn T.GV T.hm) I.vd J g1 e @n λtk=>(.bl b,H,I.tok _,@r,q)
end
variable{H:Hp}{a r t wa:af}{ws:?L V}
def Vy{oa X Y Z:HO}(ha:H a=θ oa)(hi:∀zs,oa≠.lst zs)(hw:H wa=θ @ap)(hr:H r=ι)(ht:upd H r @t t=ι):
  (∀b o,H b=θ o->b≠wa->b≠a->upd @ag a Z b=θ o)/\upd @ag a Z r=θ @t/\upd @ag a Z t=θ X/\upd @ag a Z wa=θ Y/\
  upd @ag a Z a=θ Z/\∀b,upd @ag a Z b=ι->H b=ι:=by
 have tr:t≠r:=λz=>by rw[z,aA]at ht;cases ht
 have ht':H t=ι:=by rw[be tr]at ht;show ht
 have ar:a≠r:=bQ ha hr;have at':a≠t:=bQ ha ht';have wr:wa≠r:=bQ hw hr;have wt:wa≠t:=bQ hw ht';have aw:a≠wa:=λz=>by rw[z,hw]at ha;cases ha;show hi _ @r
 have old:∀b o,H b=θ o->b≠wa->b≠a->upd @ag a Z b=θ o:=λb o e n1 n2=>by
  rw[be n2,be n1,be<|bQ e ht',be (bQ e hr)];show e
 show(old,?_,?_,?_,aA,λb e=>?_)
 .rw[be (cp ar),be<|cp wr,be<|cp tr,aA]
 .rw[be (cp at'),be<|cp wt,aA]
 .rw[be (cp aw),aA]
 .cases q:H b with
  |none=>rfl
  |some o=>
   by_cases h2:b=a
   .rw[h2,aA]at e;cases e
   by_cases h1:b=wa
   .rw[h1,be<|cp aw,aA]at e;cases e
   rw[old b o q h1 h2]at e;cases e
end _L
namespace _W
open _L PyProof.Rows
variable{K:aa}{c:Cs}{H:Hp}{v:V}
def VR.nn{S:Rg}{x:MV}(h:VR K c S H x v):v≠.fB:=by
 cases x with
 |int i=>rw[VR]at h;subst h;intro z;cases z
 |bool i=>rw[VR]at h;subst h;intro z;cases z
 |chain xs=>rw[VR]at h;let(a,rfl,_):=h;intro z;cases z
 |dM x b ρ=>rw[VR]at h;let(a,_,_,_,_,rfl,_):=h;intro z;cases z
def CN.at{K:aa}{c:Cs}{S:Rg}{H:Hp}{xs:?L MV}{a:af}(cn:CN K c S H xs a):∃dx hd tl o,H a=θ (.ins c.ch dx<|Ay hd tl o)/\Vu S a o:=by
 cases xs with
 |nil=>rw[CN]at cn;let(dx,h,o,e,r):=cn;show(dx,h,_,o,e,r)
 |cons y ys=>rw[CN]at cn;let(dx,h,t,o,e,r,_):=cn;show(dx,h,_,o,e,r)
abbrev Vz(K:aa)(c:Cs):Sp:=λvs H Q _=>∃v x H0 S W cur wa ws,vs=[v]/\EV K c S H x v/\GB K c H0 S W cur wa H/\H wa=θ @ap/\WL K H ws W/\∀u H',nV K c H0 S W cur wa H S W H' []->VR K c S H' x u->Q u H'
variable{mg:χ->?O ai}{CS CT:af}{vs:?L V}{Q:V->Hp->?P}
def ap5(M:j6 K mg c CS CT){E:XK}(h:Vz K c vs H Q E):QF K c vs H Q E:=by
 ext;let(v,x,H0,S,W,cur,wa,ws,rfl,ev,g,hw,l,q):=h;ext;show(v,@r,?_);have T0:nV K c H0 S W cur wa H S W H []:=g.same hw l @F;rcases ev with vr|⟨b,dg,val,w,rfl,hg,ho,hu⟩
 .left;have qv:=q v H T0 vr;cases x with
  |int i=>rw[VR]at vr;subst vr;show(_,.of @T,M.kG.1,qv)
  |bool i=>rw[VR]at vr;subst vr;show(_,.of<|.bl i,M.kG.2.1,qv)
  |chain xs=>rw[VR]at vr;let(a,rfl,cn):=vr;let(dx,hd,tl,o,ha,_):=cn.at;show(_,.of<|.ins ha M.cC.cl M.cC.ha M.cC.hn M.cC.GV M.cC.hm,M.kG.2.2.1,qv)
  |dM x b ρ=>rw[VR]at vr;let(a,dx,_,_,_,rfl,ha,_):=vr;show(_,.of<|.ins ha M.cL.cl M.cL.ha M.cL.hn M.cL.GV M.cL.hm,M.kG.2.2.2.1,qv)
 .right;rcases hu with rfl|hu
  .show .inr (b,dg,val,x,@r,hg,ho,λy H3 s u ry=>?_);have o:=QG M.cs u (s _ _ hg) (Rep.mono (bC.of_same s) _ _ ho) ry;have T1:nV K c H0 S W cur wa H S W H3 []:=g.same hw l s;let(ws1,J9,l1):=T1.wl;have hg3:=s _ _ hg
   have T2:nV K c H0 S W cur wa H3 S W (upd H3 b<|.ins c.gv dg<|Az val y) []:=T1.gb.step J9 l1 (Nx.opens M.cs o) (λd ob e z=>by rw[be (λw=>by rw[w,hg3]at e;cases e;show z _ _ _ @r)];show e) (λd e=>by
    by_cases w:d=b
    .rw[w,aA]at e;cases e
    .rw[be w]at e;show e)
   show q y _ (T1.trans T2 @r) (v8 _ _ _ _<|Rep.opens o _ _ ry)
  .show .inl (b,dg,val,w,@r,hg,hu.nn,q w H T0 hu)
end _W
namespace _L
open PyProof.Rows
abbrev XJ(K:aa)(R:?L Sl->Sl ⊕ af->?P):Sp:=λvs H Q E=>∃as o,oF K H as vs/\R as o/\(∀r,o = .inl r->∀v H',NI H H'->gT K H' r v->Q v H')/\∀C,o = .inr C->∀H',NI H H'->E @Y ι H'
abbrev vm(H:Hp):Hp->?L (V×Sl)->St->?P:=λH0 hs _=>H0=j7 H/\hs=[]
def vm.ev(H:Hp):BA (vm H):=by rintro H0 hs σ ⟨e,h⟩;show (λb o q=>by rw[e]at q;show(lZ q).2,by rw[h];showλp hp=>nomatch hp)
variable{H:Hp}{i:?N}
def vm.kept:Kept (vm H) i:=λ_ _ _ _ h=>h
abbrev XM(Φ:Hp->?L (V×Sl)->St->?P):?P:=∀H0 hs σ,Φ H0 hs σ->(∀b o,H0 b=θ o->wN o=ξ)/\hs=[]
def vm.evn(H:Hp):XM (vm H):=by rintro H0 hs σ ⟨e,h⟩;show (λb o q=>by rw[e]at q;show(lZ q).2,h)
section
variable {P:bu}{w:bU}{K:aa}{mg:χ->?O ai}{base:cD}
variable{x qual:χ}{f:af}{fd:aV}{N ps:?L χ}{k:?N}{R:?L Sl->Sl ⊕ af->?P}
def iP.okN{st:cz}(F:iP K x qual st f fd)(S:bO N ps (az st))(len:∀as o,R as o->↑as=↑ps/\∀q∈as,∀xs,q≠.o xs)(nA:∀(ez:ai)(A:cy)(outer:?L Env)(s:ao)(H:Hp)(E:XK)(as:?L Sl) (o:Sl ⊕ af),gp k (A.deeper<|envOfC qual (az st) ↥s f ez)->R as o->(∀C,o = .inr C->∀H0 (hs:?L (V×Sl)) (σ:St),vm H H0 hs σ->∀H',bM H0 H'->E @Y ι H')->
   VX @K (vm H) (dE st) (as++dm (N.length - ↑as) .un) λt=>∃d,o = .inl (.d d)/\t = .rt (.d d)):
  c8 P w K mg base @B (k+1) f fd ps (XJ K R):=by
 show F.okX S @qc @q
 .let(as,o,h1,h2,_):=h;rw[h1.length];show(len as o h2).1
 let(as,o,h1,h2,q,qE):=h;show(_,nA ez A outer s H E as o hr h2 (λC z H0 hs σ e H' s'=>by let(rfl,_):=e;show qE C z H' s'),j7 H,[],(@r,@r),(xu h1 (len as o h2).2).rebase yF (λr hr xs=>?_) (λp hp=>nomatch hp),?_)
 .rcases aW.mp hr with m|m
  .show(len as o h2).2 r m xs
  .rw[(lL.mp m).2];intro z;cases z
 .show(by rintro σ H' ⟨ρ,⟨d,_,z⟩,_⟩;show (nomatch z),λv H' ⟨r',⟨d,zo,z⟩,e1,e2,e3⟩=>?_,by rintro σ H' ⟨ρ,⟨d,_,z⟩,_⟩;show (nomatch z),by rintro σ H' ⟨ρ,⟨d,_,z⟩,_⟩;show (nomatch z));cases z;show q _ zo v H' e1 e2
def LZ{b:af}{o:HO}(e:j7 H b=θ o):j7 (j7 H) b=θ o:=iF e (lZ e).2
variable{v:V}
def L0{d:ak}(n:gJ d=ξ)(h:Rep K H d v):Rep K (j7 H) d v:=_W.FL (λt xs q=>by
 rcases q with(q|⟨o,q⟩)|q
 .show .inl (.inl<|iF q @r)
 .show .inl (.inr (o,iF q @r))
 .show .inr q) (λa o xs e=>iF e @r) d v n h
def HS{H:Hp}:∀{ds:?L ak}{vs:?L V},fc ds=ξ->bp K H ds vs->bp K (j7 H) ds vs
 |[],vs,_,h=>by rw[bp]at h ⊢;show h
 |d::ds,vs,n,h=>by
  rw[fc,aZ]at n;let(v,r,rfl,e1,e2):=h.split;show .cons (L0 n.1 e1) (HS n.2 e2)
abbrev seen:Sl->?P
 |.d d=>gJ d=ξ
 |.l xs=>fc xs=ξ
 |_=>?X
def QJ:∀{as:?L Sl}{vs:?L V},oF K H as vs->(∀a∈as,seen a)->oF K (j7 H) as vs:=by
 intro as vs h;induction h with
 |nil=>intro _;show .nil
 |@cons r _ _ _ h t ih=>
  intro ha;show .cons ?_ (ih<|λa h=>ha a (aM _ h));have hr:=ha _ aJ;cases r with
  |d d=>show L0 hr h
  |l xs=>let(a,e,vs,e1,e2):=h;show(a,e,vs,iF e1 @r,HS hr e2)
  |_=>show hr.elim
def c8.ah5(hR:∀as o,R as o->(∀a∈as,seen a)/\∀r,o = .inl r->∃d,r = .d d)(F:c8 P w K mg base @B k f fd ps (XJ K R)):c8 P w K mg base @B k f fd ps (oI K R):=by
 show F.ag5.imp λ vs H Q E  eg=>?_;let(as,o,h1,h2,q,qE):=eg;let(ha,ho):=hR as o h2;show(as,o,QJ h1 ha,h2,λr z v H' n rv H2 s2 back=>?_,λC z H' n H2 s2 back=>qE C z H2 (back λb o e=>n b o (LZ e)));let(d,rfl):=ho r z;show q _ z v H2 (back λb o e=>n b o (LZ e)) (Rep.mono @Q _ _ rv)
end
section
variable {X:Cx}{Φ:Hp->?L (V×Sl)->St->?P}{E:XK}{ρ:?L Sl}{e:bR}{es:?L bR}{rs:?L Sl}{pos p p2 ah6:Pos}{Q:Out->?P}{rest:?L cz}{o:Sl ⊕ af}
variable{k:?N}{x:χ}{ps:?L χ}{tu apos cU:Pos}{xs:?L ak}
def QK{f:χ}{c:_W.Cs}{v:_W.MV}(D:cS X.prog X.w X.K X.mg X.base k f ps (_W.AB X.K c))(Sn:gp k X.A)(hi:uf x X.N 0=θ i)(hr:ρ[i]?=θ (.o<|xs++[_W.iM c v]))(hw:v.nd<16700000)(hn:XM Φ)(q:Q (.rt<|.d<|_W.outD v))(hv:zN X.env.scope x:=by first|show bB @r|show cF @A|show cF (cF @r))(hd:(x==("__debug__":χ))=υ:=by decide)(pU:(x==("__classdict__":χ))=υ:=by decide)(jN:dF @j "pop" X.env (eval @j X.env)=eval @j X.env:=by rfl)(jO:@M=ξ:=by rfl)(hs:aq [.Call (.Attribute @j "pop" apos) [] [] cU] X.env=(υ,eval (.Call (.Attribute @j "pop" apos) [] [] cU) X.env,)::aq [] X.env:=by rfl)(hg:Gl X f:=by rfl)(ny:(f==("__debug__":χ))=υ:=by decide)(j4:(dh tu<|aq [] X.env).any (·.1)=υ:=by rfl):
  VX X Φ (.Return (θ<|.Call (.Name f p) [.Call (.Attribute @j "pop" apos) [] [] cU] [] tu) pos::rest) ρ Q:=
 my (dw<|dq D Sn hg (xF (Φ:=Φ) (ρ:=ρ) hi hr gw hv hd pU jN jO hs) ny hs j4) λH0 hs D σ H φ er l=>(H0,hs,φ,er,λus H1 t1 e1 r1=>by
  change _W.AB X.K c (us++[]) H1 _ E0;rw[bP];let(u,w,rfl,q1,q2):=r1.split;rw[bp]at q2;subst q2;let(v0,rfl):=hn H0 hs σ φ
  show(u,v,@r,q1,hw,λu' H2 ni rv=>l.rt u' H2 (_,q,λb o e=>ni b o (e1.same b o e) (λC dx fs z=>by have:=v0 b o e;rw[z]at this;cases this),rv,λp hp=>nomatch hp)))
variable{Rl:?L Sl->Sl ⊕ af->?P}
def L3(R:kS X E)(D:nS X.prog X.w X.K X.mg X.base k x ps (XJ X.K Rl))(hr:gp k X.A)(ev:XM Φ)(ha:VA X ρ (e::es) rs)(h:Rl (rs.map Sl.arg) o)(q:∀r,o = .inl r->∃d,r = .d d/\Q (.rt<|.d d))(hE:∀C,o = .inr C->∀H0 hs σ,Φ H0 hs σ->∀H',bM H0 H'->E @Y ι H')(hg:Gl X x:=by rfl)(ny:(x==("__debug__":χ))=υ:=by decide)(he:aq (e::es) X.env=@c::aq es X.env:=by rfl)(j4:(dh pos @I).any (·.1)=υ:=by rfl):VX X Φ (.Return (θ @w) p2::rest) ρ Q:=
 my (dw<|qX R D hr hg ha ny he j4) λH0 hs D σ H φ er l=>((H0,hs,er),λvs H1 s1 r1=>by
  change XJ X.K Rl (vs++[]) H1 _ E;rw[bP];let(v0,rfl):=ev H0 hs σ φ;have sm:∀H2,NI H1 H2->bM H0 H2:=λH2 n b o e=>n b o (iF (s1 b o<|er.same b o e)<|v0 b o e);show(rs.map Sl.arg,o,r1.arg,h,λr z v H2 n rv=>?_,λC z H2 n=>hE C z H0 [] σ φ H2 (sm H2 n));let(d,rfl,qd):=q r z
  show l.rt v H2 (.d d,qd,sm H2 n,rv,λp hp=>nomatch hp))
variable{y:χ}
def T6{d:ak}(nd:X.N.Nodup)(hi:uf y X.N 0=θ i)(kp:Kept Φ i)(D:cS X.prog X.w X.K X.mg X.base k x ps (NV X.K Rl))(hr:gp k X.A)(ev:BA Φ)(ha:VA X ρ (e::es) rs)(h:Rl (rs.map Sl.arg) (.inl<|.d d))(kk:VX X Φ rest (ρ.set i<|.d d) Q)(nh:noH ρ=ξ:=by rfl)(hx:Loc X.env.scope y:=by show bB rfl)(hs:dS @w (θ<|.Name y p2) ah6.line X.env=pure υ:=by rfl)(hf:X.fn y=ξ\/X.env.scope.names.lookup y=θ .local:=by first|show .inl @r|show .inr @r|assumption)(hg:Gl X x:=by rfl)(ny:(x==("__debug__":χ))=υ:=by decide)(he:aq (e::es) X.env=@c::aq es X.env:=by rfl)(j4:(dh pos @I).any (·.1)=υ:=by rfl):VX X Φ (.Assign [.Name y p2] @w ah6::rest) ρ Q:=
 my (cV nd (iQ hi) hx (dq D hr hg ha ny he j4) hs hf) λH0 hs D σ H φ er l=>((H0,hs,er),λvs H1 s1 r1=>by
  change NV X.K Rl (vs++[]) H1 _ E0;rw[bP];let(v0,NX):=ev H0 hs σ φ;let(w1,w2):=(er.grow s1).data (FJ nh) (noP NX) v0;show(rs.map Sl.arg,.inl<|.d d,_,r1.arg,h,w1,λr z v H2 n w rv=>?_,λC z=>nomatch z);cases z
  show l.nx _ _ (_,kk,kp _ _ _ _ φ,(w2 H2 n w).Bg rv))
end
end _L
namespace _W
open _L PyProof.Rows
abbrev FP(CS CT:af):Res->Sl ⊕ af
 |.val v=>.inl (.d<|outD v)
 |.stuck=>.inr CS
 |.oW=>.inr CT
abbrev okR(r:Res):?P:=∀v,r = .val v->v.nd<16700000
abbrev Ka(c:Cs)(CS CT:af):?L Sl->Sl ⊕ af->?P:=λas o=>∃(e:MT)(ρ:MR)(n:?N)(r:Res),as=[.d (gz e),.d<|sU c ρ,.d (.int (n:?I))]/\n<=100000/\Ends ([.gY e ρ],[],n) r/\okR r/\o=FP CS CT r
abbrev L4(CS CT:af):?L Sl->Sl ⊕ af->?P:=λas o=>∃(e:MT)(ρ:MR)(n:?N)(r:Res),as=[.d (gz e),.l (gR ρ).reverse,.d (.int (n:?I))]/\n<=100000/\Ends ([.gY e ρ],[],n) r/\okR r/\o=FP CS CT r
abbrev QL(CS CT:af):?L Sl->Sl ⊕ af->?P:=λas o=>∃(x:χ)(b:MT)(ρ:MR)(a:MV)(n:?N)(r:Res),as=[.d (outD<|.dM x b ρ),.d<|outD a,.d (.int (n:?I))]/\n<=100000/\Ends ([.gY b ((x,a,)::ρ)],[],n) r/\okR r/\o=FP CS CT r
variable{CS CT:af}{r:Res}
def FQ{s:Sl}(h:FP CS CT r = .inl s):∃d,s = .d d:=by cases r<;>cases h;show(_,@r)
def QM(as:?L Sl)(o:Sl ⊕ af)(h:L4 CS CT as o):(∀a∈as,seen a)/\∀r,o = .inl r->∃d,r = .d d:=by
 let(e,ρ,n,r,rfl,_,_,_,rfl):=h;show(λa ha=>?_,λr' z=>FQ z);simp only[bg,ef,or_false]at ha;rcases ha with rfl|rfl|rfl
 .show j8 e
 .change fc _=ξ;rw[uu];show uv ρ
 .rfl
def QN(as:?L Sl)(o:Sl ⊕ af)(h:QL CS CT as o):(∀a∈as,seen a)/\∀r,o = .inl r->∃d,r = .d d:=by
 let(x,b,ρ,a,n,r,rfl,_,_,_,rfl):=h;show(λa' ha=>?_,λr' z=>FQ z);simp only[bg,ef,or_false]at ha;rcases ha with rfl|rfl|rfl
 .show lA _
 .show lA _
 .rfl
variable{x:χ}{v:MV}{ρ:MR}
def get_eq:MR.get x ((x,v,)::ρ)=θ v:=by rw[MR.get,?p @r]
variable{y:χ}
def Kb(h:y≠x):MR.get x ((y,v,)::ρ)=MR.get x ρ:=by rw[MR.get,?n h]
end _W
namespace _L
open PyProof.Rows
end _L
namespace _W
open _L PyProof.Rows
section
variable {X:Cx}{B:Hp}{ρ:?L Sl}{e:bR}{pos p p2 p3 p4:Pos}{xs:?L ak}{Q:Out->?P}{rest:?L cz}
variable {j j2 j3:?N}{p5:Pos}
end
def QO(k:Kd):_L.gJ (eM k)=ξ:=by induction k<;>simp[eM,_L.gJ,_L.fc, *]
abbrev kK(k:Kd):KD:=(eM k,QO k)
noncomputable abbrev Ctx:=?L (χ×Kd)
abbrev vD:Kd->?B
 |.num=>ξ
 |.truth=>ξ
 |.list k=>vD k
 |.to .num m=>vD m
 |.to _ _=>υ
abbrev Ctx.get(x:χ):Ctx->?O Kd
 |[]=>ι
 |(y,k)::r=>if y=x then θ k else Ctx.get x r
def HU(x:χ):∀(Γ:Ctx),look Γ.reverse x=Ctx.get x Γ
 |[]=>rfl
 |(y,k)::r=>by rw[dQ,mD,Ctx.get,HU x r]
inductive TyM:Ctx->MT->Kd->?P where
 |num {Γ i}:TyM Γ (.num i) .num
 |truth {Γ b}:TyM Γ (.truth b) .truth
 |nil {Γ k}:TyM Γ (.nil<|kK k) (.list k)
 |name {Γ x k} (h:Ctx.get x Γ=θ k):TyM Γ (.name x) k
 |lam {Γ x k b m} (nk:vD k=ξ) (h:TyM ((x,k,)::Γ) b m):TyM Γ (.lam x (kK k) b) (.to k m)
 |add {Γ a b} (h:TyM Γ a .num) (g:TyM Γ b .num):TyM Γ (.add a b) .num
 |less {Γ a b} (h:TyM Γ a .num) (g:TyM Γ b .num):TyM Γ (.less a b) .truth
 |front {Γ a b k} (h:TyM Γ a k) (g:TyM Γ b (.list k)):TyM Γ (.front a b) (.list k)
 |call {Γ a b k m} (h:TyM Γ a (.to k m)) (g:TyM Γ b k):TyM Γ (.call a b) m
 |cond {Γ a b c m} (h:TyM Γ a .truth) (g:TyM Γ b m) (q:TyM Γ c m):TyM Γ (.cond a b c) m
 |case {Γ k x y a b c m} (nk:vD k=ξ) (h:TyM Γ a (.list k)) (g:TyM Γ b m) (q:TyM ((y,.list k,)::(x,k,)::Γ) c m):TyM Γ (.case (kK k) x y a b c) m
abbrev TyI(Γ:Ctx)(k:Kd):MT->?P
 |.num _=>k = .num
 |.truth _=>k = .truth
 |.nil q=>∃m,q=kK m/\k = .list m
 |.name x=>Ctx.get x Γ=θ k
 |.lam x q b=>∃k1 m,q=kK k1/\k = .to k1 m/\vD k1=ξ/\TyM ((x,k1,)::Γ) b m
 |.add a b=>k = .num/\TyM Γ a .num/\TyM Γ b .num
 |.less a b=>k = .truth/\TyM Γ a .num/\TyM Γ b .num
 |.front a b=>∃m,k = .list m/\TyM Γ a m/\TyM Γ b (.list m)
 |.call a b=>∃k1,TyM Γ a (.to k1 k)/\TyM Γ b k1
 |.cond a b c=>TyM Γ a .truth/\TyM Γ b k/\TyM Γ c k
 |.case q x y a b c=>∃k1,q=kK k1/\vD k1=ξ/\TyM Γ a (.list k1)/\TyM Γ b k/\TyM ((y,.list k1,)::(x,k1,)::Γ) c k
variable{e:MT}{k:Kd}
def TyM.inv{Γ:Ctx}(h:TyM Γ e k):TyI Γ k e:=by
 cases h with
 |num=>show @r
 |truth=>show @r
 |nil=>show(_,@r,@r)
 |name h=>show h
 |lam nk h=>show(_,_,@r,@r,nk,h)
 |add h g=>show(@r,h,g)
 |less h g=>show(@r,h,g)
 |front h g=>show(_,@r,h,g)
 |call h g=>show(_,h,g)
 |cond h g q=>show(h,g,q)
 |case nk h g q=>show(_,@r,nk,h,g,q)
mutual
inductive BG:MV->Kd->?P where
 |int {i}:BG @T .num
 |bool {b}:BG (.bool b) .truth
 |chain {xs k:_} (h:∀x∈xs,BG x k):BG (.chain xs) (.list k)
 |dM {x b ρ Γ k m:_} (nk:vD k=ξ) (e:Kc ρ Γ) (h:TyM ((x,k,)::Γ) b m):BG (.dM x b ρ) (.to k m)
inductive Kc:MR->Ctx->?P where
 |nil:Kc [] []
 |cons {x v k ρ Γ:_} (nk:vD k=ξ) (h:BG v k) (t:Kc ρ Γ):Kc ((x,v,)::ρ) ((x,k,)::Γ)
end
variable{x:χ}
def Kc.get:∀{ρ:MR}{Γ:Ctx},Kc ρ Γ->Ctx.get x Γ=θ k->∃v,ρ.get x=θ v/\BG v k
 |_,_,.nil,h=>nomatch h
 |_,_,.cons (x:=y) (v:=v) _ hv t,h=>by
  rw[Ctx.get]at h;rw[MR.get];by_cases e:y=x
  .rw[?p e]at h ⊢;cases h;show(v,@r,hv)
  .rw[?n e]at h ⊢;show t.get h
variable{v:MV}
def BG.num_inv(h:BG v .num):∃i,v = .int i:=by cases h;show(_,@r)
def BG.Ew(h:BG v .truth):∃b,v = .bool b:=by cases h;show(_,@r)
def BG.pk(h:BG v (.list k)):∃xs,v = .chain xs/\∀x∈xs,BG x k:=by cases h with|chain h=>show(_,@r,h)
variable{m:Kd}
def BG.BH(h:BG v (.to k m)):∃x b ρ Γ,v = .dM x b ρ/\vD k=ξ/\Kc ρ Γ/\TyM ((x,k,)::Γ) b m:=by cases h with|dM nk e h=>show(_,_,_,_,@r,nk,e,h)
inductive ZY:?L MV->?L Kd->?P where
 |nil:ZY [] []
 |cons {v k d ks:_} (h:BG v k) (t:ZY d ks):ZY (v::d) (k::ks)
inductive GA:?L Task->?L Kd->Kd->?P where
 |done {k:_}:GA [] [k] k
 |gY {e ρ Γ m w ks k:_} (he:Kc ρ Γ) (ht:TyM Γ e m) (hw:GA w (m::ks) k):GA (.gY e ρ::w) ks k
 |cond {a b c ρ Γ m w ks k:_} (he:Kc ρ Γ) (hb:TyM Γ b m) (hc:TyM Γ c m) (hw:GA w (m::ks) k):GA (.fin (.cond a b c) ρ::w) (.truth::ks) k
 |case {q x y a b c ρ Γ m k1 w ks k:_} (nk:vD k1=ξ) (he:Kc ρ Γ) (hb:TyM Γ b m) (hc:TyM ((y,.list k1,)::(x,k1,)::Γ) c m) (hw:GA w (m::ks) k):GA (.fin (.case q x y a b c) ρ::w) (.list k1::ks) k
 |call {a b ρ m k1 w ks k:_} (hw:GA w (m::ks) k):GA (.fin (.call a b) ρ::w) (k1 :: .to k1 m::ks) k
 |front {a b ρ k1 w ks k:_} (hw:GA w (.list k1::ks) k):GA (.fin (.front a b) ρ::w) (.list k1::k1::ks) k
 |add {a b ρ w ks k:_} (hw:GA w (.num::ks) k):GA (.fin (.add a b) ρ::w) (.num :: .num::ks) k
 |less {a b ρ w ks k:_} (hw:GA w (.truth::ks) k):GA (.fin (.less a b) ρ::w) (.num :: .num::ks) k
abbrev nc:MT->?B
 |.call _ _=>υ
 |.lam _ _ b=>nc b
 |.add a b=>nc a&&nc b
 |.less a b=>nc a&&nc b
 |.front a b=>nc a&&nc b
 |.cond a b c=>nc a&&nc b&&nc c
 |.case _ _ _ a b c=>nc a&&nc b&&nc c
 |.num _=>ξ
 |.truth _=>ξ
 |.nil _=>ξ
 |.name _=>ξ
abbrev mO:MT->?N
 |.add a b=>mO a + mO b+1
 |.less a b=>mO a + mO b+1
 |.front a b=>mO a + mO b+1
 |.call a b=>mO a + mO b+1
 |.cond a b c=>mO a + mO b + mO c+1
 |.case _ _ _ a b c=>mO a + mO b + mO c+1
 |.num _=>1
 |.truth _=>1
 |.nil _=>1
 |.name _=>1
 |.lam _ _ _=>1
abbrev Task.nc:Task->?B
 |.gY e _=>_W.nc e
 |.fin e _=>_W.nc e
abbrev Task.GC:Task->?N
 |.gY e _=>mO e
 |.fin (.cond _ b c) _=>mO b + mO c
 |.fin (.case _ _ _ _ b c) _=>mO b + mO c
 |.fin _ _=>0
abbrev NCw(w:?L Task):?P:=∀t∈w,t.nc=ξ
abbrev xI:?L Task->?N
 |[]=>0
 |t::w=>t.GC + xI w
abbrev NC(w:?L Task)(n:?N):?P:=NCw w/\xI w<=n
abbrev tw:?L Task->?N
 |[]=>0
 |.gY _ _::w=>1 + tw w
 |.fin _ _::w=>2 + tw w
abbrev BI(w:?L Task)(n:?N):?N:=10 * n + tw w
def T7(e:MT):1<=mO e:=by cases e<;>simp[mO]
abbrev ah7(w:?L Task)(d:?L MV)(n:?N)(k:Kd):?P:=
 (∃v,fQ (w,d,n) = .inr (.val v)/\BG v k)\/(fQ (w,d,n) = .inr .oW/\¬NC w n)\/∃w' d' n' Nj,fQ (w,d,n) = .inl (w',d',n')/\GA w' Nj k/\ZY d' Nj/\BI w' n'<BI w n/\(NC w n->NC w' n')
variable{t:Task}{w:?L Task}{n:?N}
def NC.tail(h:NC (t::w) n):t.nc=ξ/\(∀u∈w,u.nc=ξ)/\t.GC + xI w<=n:=(h.1 t aJ,λu hu=>h.1 u (aM _ hu),h.2)
def iG(h:t.nc=ξ)(g:NCw w):NCw (t::w):=λu hu=>by
 rcases bg.mp hu with rfl|hu
 .show h
 .show g u hu
variable{d:?L MV}{ks:?L Kd}
def T8(h:GA w ks k)(g:ZY d ks):ah7 w d n k:=by
 cases h with
 |done=>
  cases g with
  |cons hv t=>show .inl (_,@r,hv)
 |@gY e ρ Γ m w ks k he ht hw=>
  cases n with
  |zero=>
   show .inr (.inl (@r,λz=>?_));have:=z.2;simp only[xI,Task.GC]at this;have:=T7 e;omega
  |succ n=>
  show .inr (.inr ?_);cases ht with
  |num=>show(_,_,_,_,@r,hw,.cons .int g,by simp only[BI,tw];omega,λz=>(z.tail.2.1,by have:=z.tail.2.2;simp only[Task.GC,mO]at this;omega))
  |truth=>show(_,_,_,_,@r,hw,.cons .bool g,by simp only[BI,tw];omega,λz=>(z.tail.2.1,by have:=z.tail.2.2;simp only[Task.GC,mO]at this;omega))
  |nil=>show(_,_,_,_,@r,hw,.cons (.chain λ_ h=>nomatch h) g,by simp only[BI,tw];omega,λz=>(z.tail.2.1,by have:=z.tail.2.2;simp only[Task.GC,mO]at this;omega))
  |name h=>
   let(v,h1,h2):=he.get h;show(w,v::d,n,m::ks,by simp only[fQ,lQ,h1],hw,.cons h2 g,by simp only[BI,tw];omega,λz=>(z.tail.2.1,by have:=z.tail.2.2;simp only[Task.GC,mO]at this;omega))
  |lam nk h=>show(_,_,_,_,@r,hw,.cons (.dM nk he h) g,by simp only[BI,tw];omega,λz=>(z.tail.2.1,by have:=z.tail.2.2;simp only[Task.GC,mO]at this;omega))
  |@add _ a b h q=>show(_,_,_,_,@r,.gY he h<|.gY he q<|.add hw,g,by simp only[BI,tw];omega,λz=>by
    let(z1,z2,z3):=z.tail;simp only[Task.nc,nc,aZ]at z1
    show(iG z1.1 (iG z1.2<|iG (by simp only[Task.nc,nc,aZ];show z1) z2),by simp only[xI,Task.GC,mO]at z3 ⊢;omega))
  |@less _ a b h q=>show(_,_,_,_,@r,.gY he h<|.gY he q<|.less hw,g,by simp only[BI,tw];omega,λz=>by
    let(z1,z2,z3):=z.tail;simp only[Task.nc,nc,aZ]at z1
    show(iG z1.1 (iG z1.2<|iG (by simp only[Task.nc,nc,aZ];show z1) z2),by simp only[xI,Task.GC,mO]at z3 ⊢;omega))
  |@front _ a b k1 h q=>show(_,_,_,_,@r,.gY he h<|.gY he q<|.front hw,g,by simp only[BI,tw];omega,λz=>by
    let(z1,z2,z3):=z.tail;simp only[Task.nc,nc,aZ]at z1
    show(iG z1.1 (iG z1.2<|iG (by simp only[Task.nc,nc,aZ];show z1) z2),by simp only[xI,Task.GC,mO]at z3 ⊢;omega))
  |@call _ a b k1 _ h q=>show(_,_,_,_,@r,.gY he h<|.gY he q<|.call hw,g,by simp only[BI,tw];omega,λz=>by
    have z1:=z.tail.1;simp only[Task.nc,nc]at z1
    cases z1)
  |@cond _ a b c _ h q r=>show(_,_,_,_,@r,.gY he h<|.cond he q r hw,g,by simp only[BI,tw];omega,λz=>by
    let(z1,z2,z3):=z.tail;simp only[Task.nc,nc,aZ]at z1
    show(iG z1.1.1 (iG (by simp only[Task.nc,nc,aZ];show z1) z2),by simp only[xI,Task.GC,mO]at z3 ⊢;omega))
  |@case _ k1 x y a b c _ nk h q r=>show(_,_,_,_,@r,.gY he h<|.case nk he q r hw,g,by simp only[BI,tw];omega,λz=>by
    let(z1,z2,z3):=z.tail;simp only[Task.nc,nc,aZ]at z1
    show(iG z1.1.1 (iG (by simp only[Task.nc,nc,aZ];show z1) z2),by simp only[xI,Task.GC,mO]at z3 ⊢;omega))
 |@cond a b c ρ Γ m w ks k he hb hc hw=>
  cases g with
  |cons hv t=>
   let(u,rfl):=hv.Ew;show .inr (.inr ?_);cases u with
   |true=>show(_,_,_,_,@r,.gY he hb hw,t,by simp only[BI,tw];omega,λz=>by
     let(z1,z2,z3):=z.tail;simp only[Task.nc,nc,aZ]at z1
     show(iG z1.1.2 z2,by simp only[xI,Task.GC,mO]at z3 ⊢;omega))
   |false=>show(_,_,_,_,@r,.gY he hc hw,t,by simp only[BI,tw];omega,λz=>by
     let(z1,z2,z3):=z.tail;simp only[Task.nc,nc,aZ]at z1
     show(iG z1.2 z2,by simp only[xI,Task.GC,mO]at z3 ⊢;omega))
 |@case q x y a b c ρ Γ m k1 w ks k nk he hb hc hw=>
  cases g with
  |cons hv t=>
   let(xs,rfl,hx):=hv.pk;show .inr (.inr ?_);cases xs with
   |nil=>show(_,_,_,_,@r,.gY he hb hw,t,by simp only[BI,tw];omega,λz=>by
     let(z1,z2,z3):=z.tail;simp only[Task.nc,nc,aZ]at z1
     show(iG z1.1.2 z2,by simp only[xI,Task.GC,mO]at z3 ⊢;omega))
   |cons v xs=>show(_,_,_,_,@r,.gY (.cons (k:=.list k1) (by rw[vD];show nk) (.chain λu hu=>hx u (aM _ hu)) (.cons nk (hx v aJ) he)) hc hw,t,by simp only[BI,tw];omega,λz=>by
     let(z1,z2,z3):=z.tail;simp only[Task.nc,nc,aZ]at z1
     show(iG z1.2 z2,by simp only[xI,Task.GC,mO]at z3 ⊢;omega))
 |@call a b ρ m k1 w ks k hw=>
  cases g with
  |cons hv t=>
   cases t with
   |cons hf t=>
    ext;let(x,bd,dI,Γ,rfl,nk,e1,e2):=hf.BH
    ext;show .inr (.inr (_,_,_,_,@r,.gY (.cons nk hv e1) e2 hw,t,by simp only[BI,tw];omega,λz=>by
     have z1:=z.tail.1;simp only[Task.nc,nc]at z1
     cases z1))
 |@front a b ρ k1 w ks k hw=>
  cases g with
  |cons hv t=>
   cases t with
   |cons hm t=>
    let(xs,rfl,hx):=hv.pk
    show .inr (.inr (_,_,_,_,@r,hw,.cons (.chain λu hu=>by
     rcases bg.mp hu with rfl|hu
     .show hm
     .show hx u hu) t,by simp only[BI,tw];omega,λz=>(z.tail.2.1,by have:=z.tail.2.2;omega)))
 |@add a b ρ w ks k hw=>
  cases g with
  |cons hv t=>
   cases t with
   |cons hm t=>
    ext;let(i,rfl):=hv.num_inv;let(j,rfl):=hm.num_inv;ext;show .inr (.inr (_,_,_,_,@r,hw,.cons .int t,by simp only[BI,tw];omega,λz=>(z.tail.2.1,by have:=z.tail.2.2;omega)))
 |@less a b ρ w ks k hw=>
  cases g with
  |cons hv t=>
   cases t with
   |cons hm t=>
    ext;let(i,rfl):=hv.num_inv;let(j,rfl):=hm.num_inv;ext;show .inr (.inr (_,_,_,_,@r,hw,.cons .bool t,by simp only[BI,tw];omega,λz=>(z.tail.2.1,by have:=z.tail.2.2;omega)))
def sound{k:Kd}:∀(N:?N){w:?L Task}{d:?L MV}{n:?N}{ks:?L Kd},BI w n<N->GA w ks k->ZY d ks->∃r,Ends (w,d,n) r/\((r = .oW/\¬NC w n)\/∃v,r = .val v/\BG v k)
 |0,w,d,n,ks,h,_,_=>?A h (oM _)
 |N+1,w,d,n,ks,h,hc,hd=>by
  rcases T8 (n:=n) hc hd with⟨v,e,hv⟩|⟨e,z⟩|⟨w',d',n',Nj,e,Je,UB,l,q⟩
  .show(_,.inr e,.inr (v,@r,hv))
  .show(_,.inr e,.inl (@r,z))
  .let(r,h1,h2):=sound N (n:=n') @o Je UB;show(r,.inl e h1,h2.imp (by rintro ⟨z1,z2⟩;show (z1,λz=>z2 (q z))) λz=>z)
variable{ρ:MR}
def zF{Γ:Ctx}(ht:TyM Γ e k)(he:Kc ρ Γ)(n:?N):∃r,Ends ([.gY e ρ],[],n) r/\((r = .oW/\¬(nc e=ξ/\mO e<=n))\/∃v,r = .val v/\BG v k):=by
 let(r,h1,h2):=sound (BI [.gY e ρ] n+1) (ic _) (.gY he ht .done) .nil;show(r,h1,h2.imp (λ⟨z1,z2⟩=>(z1,λ⟨a,b⟩=>z2 (λt h=>?_,by simp only[xI,Task.GC];omega))) λz=>z);rw[aR.mp h];show a
abbrev pq(f:MT->MT):?L MT->MT
 |[a]=>f a
 |_=>.num 0
abbrev oB(f:MT->MT->MT):?L MT->MT
 |[a,b]=>f a b
 |_=>.num 0
abbrev oS(f:MT->MT->MT->MT):?L MT->MT
 |[a,b,c]=>f a b c
 |_=>.num 0
abbrev oT:Lb->?L MT->MT
 |.num i,_=>.num i
 |.truth b,_=>.truth b
 |.name x,_=>.name x
 |.nil k,_=>.nil (kK k)
 |.add,o=>oB .add o
 |.less,o=>oB .less o
 |.front,o=>oB .front o
 |.call,o=>oB .call o
 |.yp,o=>oS .cond o
 |.case k h t,o=>oS (.case (kK k) h t) o
 |.fn x k,o=>pq (.lam x<|kK k) o
mutual
noncomputable def tD:Tm->MT
 |.node b o=>oT b (fT o)
noncomputable def fT:?L Tm->?L MT
 |[]=>[]
 |t::r=>tD t::fT r
end
def jU(b:Lb)(o:?L Tm):tD @R=oT b (fT o):=by rw[tD]
variable{o:?L Tm}
def FR(h:↑o=1):∃a,o=[a]:=by match o,h with|[a],_=>show(a,@r)
def pw(h:↑o=2):∃a b,o=[a,b]:=by match o,h with|[a,b],_=>show(a,b,@r)
def Dp(h:↑o=3):∃a b c,o=[a,b,c]:=by match o,h with|[a,b,c],_=>show(a,b,c,@r)
def HV(h:↑o=0):o=[]:=rG.mp h
def QP:∀{t:Tm},Dl t->gz (tD t)=py (ex t):=by
 intro t h;induction h with
 |@mk b o hl hs ih=>
  rw[jU,ex,py];cases b with
  |num i=>rw[HV hl];rfl
  |truth i=>rw[HV hl];rfl
  |name i=>rw[HV hl];rfl
  |nil k=>rw[HV hl];rfl
  |add=>let(a,b,rfl):=pw hl;simp only[fT,oT,pq,oB,oS,gz,IM,Lh,ih a @s,ih b @s];rfl
  |less=>let(a,b,rfl):=pw hl;simp only[fT,oT,pq,oB,oS,gz,IM,Lh,ih a @s,ih b @s];rfl
  |front=>let(a,b,rfl):=pw hl;simp only[fT,oT,pq,oB,oS,gz,IM,Lh,ih a @s,ih b @s];rfl
  |call=>let(a,b,rfl):=pw hl;simp only[fT,oT,pq,oB,oS,gz,IM,Lh,ih a @s,ih b @s];rfl
  |yp=>let(a,b,c,rfl):=Dp hl;simp only[fT,oT,pq,oB,oS,gz,IM,Lh,ih a @s,ih b @s,ih c @s];rfl
  |case k x y=>let(a,b,c,rfl):=Dp hl;simp only[fT,oT,pq,oB,oS,gz,IM,Lh,ih a @s,ih b @s,ih c @s];rfl
  |fn x k=>let(a,rfl):=FR hl;simp only[fT,oT,pq,oB,oS,gz,IM,Lh,ih a @s];rfl
variable{b:Lb}{sc:Sc}{i:?N}
def ux{a:Tm}{r:?L Tm}(h:oG b sc i (a::r) = .ok ks):∃k Nj,ks=k::Nj/\ck (pX b i sc) a = .ok k/\oG b sc @X r = .ok Nj:=by
 rw[fR]at h;cases h1:ck (pX b i sc) a with
 |bad n pl d f=>rw[h1]at h;cases h
 |ok k=>
  rw[h1]at h;simp only at h;cases h2:oG b sc @X r with
  |bad n pl d f=>rw[h2]at h;cases h
  |ok Nj=>rw[h2]at h;cases h;show(k,Nj,@r,@r,@r)
def HW(h:oG b sc i [] = .ok ks):ks=[]:=by rw[iT]at h;cases h;rfl
def QQ(h:ck sc @R = .ok k):∃ks,oG b sc 0 o = .ok ks/\dj b ks sc=ι/\k=kN b ks sc:=by
 rw[jF]at h;cases h1:oG b sc 0 o with
 |bad n pl d f=>rw[h1]at h;cases h
 |ok ks=>
  rw[h1]at h;simp only at h;cases h2:dj b ks sc with
  |none=>rw[h2]at h;cases h;show(ks,@r,h2,@r)
  |some br=>rw[h2]at h;cases h
abbrev AD:Kd->?B
 |.to k m=>vD k&&decide (bG k<=6)&&AD m
 |.list k=>AD k
 |_=>ξ
abbrev lbN:Lb->?B
 |.nil k=>AD k
 |.fn _ k=>vD k&&decide (bG k<=6)
 |.case k _ _=>vD k&&decide (bG k<=6)
 |_=>ξ
inductive So:Tm->?P where
 |mk {b:Lb} {o:?L Tm} (h:↑o=ar b) (hn:lbN b=ξ) (hs:∀t∈o,So t):So @R
variable{t:Tm}
def So.ZR(h:So t):Dl t:=by induction h with|mk a b c ih=>show .mk a ih
def QR:∀{t:Tm},So t->∀{sc:Sc}{k:Kd},ck sc t = .ok k->TyM sc.reverse (tD t) k:=by
 intro t h;induction h with
 |@mk b o hl hn hs ih=>
  intro sc k hk;rw[jU];ext;let(ks,h1,h2,rfl):=QQ hk;ext;cases b with
  |num i=>rw[HV hl]at h1 ⊢;show .num
  |truth i=>rw[HV hl]at h1 ⊢;show .truth
  |nil k=>rw[HV hl]at h1 ⊢;show .nil
  |name x=>
   rw[HV hl]at h1 ⊢;have hx:(look sc x).isSome=ξ:=by
    simp only[dj]at h2;by_cases z:(look sc x).isSome=ξ
    .show z
    .rw[?n z]at h2;cases h2
   let(m,hm):=qq.mp hx;simp only[kN,hm,Option.getD_some];show .name (by rw[<-HU,iL];show hm)
  |add=>
   ext;let(a,c,rfl):=pw hl;let(k1,ks,rfl,c1,h1):=ux h1;let(k2,ks,rfl,c2,h1):=ux h1;cases HW h1;ext;simp only[dj,bE,cY,aY,gM]at h2;by_cases z1:Kd.num=k1
   .subst z1;rw[?p @r]at h2;by_cases z2:Kd.num=k2
    .subst z2;show .add (ih a @s c1) (ih c @s c2)
    .rw[?n z2]at h2;cases h2
   .rw[?n z1]at h2;cases h2
  |less=>
   ext;let(a,c,rfl):=pw hl;let(k1,ks,rfl,c1,h1):=ux h1;let(k2,ks,rfl,c2,h1):=ux h1;cases HW h1;ext;simp only[dj,bE,cY,aY,gM]at h2;by_cases z1:Kd.num=k1
   .subst z1;rw[?p @r]at h2;by_cases z2:Kd.num=k2
    .subst z2;show .less (ih a @s c1) (ih c @s c2)
    .rw[?n z2]at h2;cases h2
   .rw[?n z1]at h2;cases h2
  |front=>
   ext;let(a,c,rfl):=pw hl;let(k1,ks,rfl,c1,h1):=ux h1;let(k2,ks,rfl,c2,h1):=ux h1;cases HW h1;ext;simp only[dj,bE,cY,aY,gM,lO,nF]at h2;by_cases z1:Kd.list k1=k2
   .subst z1;show .front (ih a @s c1) (ih c @s c2)
   .rw[?n z1]at h2;cases h2
  |call=>
   ext;let(a,c,rfl):=pw hl;let(k1,ks,rfl,c1,h1):=ux h1;let(k2,ks,rfl,c2,h1):=ux h1;cases HW h1;ext;cases k1 with
   |to p q=>
    simp only[dj,Kd.arg,IY,if_true,bE,cY,aY,gM,lO,Option.bind_some]at h2;by_cases z1:p=k2
    .subst z1;show .call (ih a @s c1) (ih c @s c2)
    .rw[?n z1]at h2;cases h2
   |num=>simp[dj,Kd.arg]at h2
   |truth=>simp[dj,Kd.arg]at h2
   |list p=>simp[dj,Kd.arg]at h2
  |yp=>
   ext;let(a,c,d,rfl):=Dp hl;let(k1,ks,rfl,c1,h1):=ux h1;let(k2,ks,rfl,c2,h1):=ux h1;let(k3,ks,rfl,c3,h1):=ux h1;cases HW h1;ext;simp only[dj,bE,cY,aY,gM,lO,fk]at h2;by_cases z1:Kd.truth=k1
   .subst z1;rw[?p @r]at h2;by_cases z2:k2=k3
    .subst z2;show .cond (ih a @s c1) (ih c @s c2) (ih d @s c3)
    .rw[?n z2]at h2;cases h2
   .rw[?n z1]at h2;cases h2
  |case kc x y=>
   ext;let(a,c,d,rfl):=Dp hl;let(k1,ks,rfl,c1,h1):=ux h1;let(k2,ks,rfl,c2,h1):=ux h1;let(k3,ks,rfl,c3,h1):=ux h1;cases HW h1;ext;simp only[dj,bE,cY,aY,gM,lO,fk]at h2;by_cases z1:Kd.list kc=k1
   .subst z1;rw[?p @r]at h2;by_cases z2:k2=k3
    .subst z2;have e3:=ih d @s c3;rw[show pX (.case kc x y) (0+1+1) sc=sc++[(x,kc,)]++[(y,.list kc,)]from @r,iY,iY]at e3;show .case ((aZ _ _).mp hn).1 (ih a @s c1) (ih c @s c2) e3
    .rw[?n z2]at h2;cases h2
   .rw[?n z1]at h2;cases h2
  |fn x kx=>
   ext;let(a,rfl):=FR hl;let(k1,ks,rfl,c1,h1):=ux h1;cases HW h1;ext;have e1:=ih a @s c1;rw[show pX (.fn x kx) 0 sc=sc++[(x,kx,)]from @r,iY]at e1;show .lam ((aZ _ _).mp hn).1 e1
variable{s:MS}{r:Res}
def jv{k:?N}(h:tX k s=θ r):∃k',k=k'+1/\((∃s',fQ s = .inl s'/\tX k' s'=θ r)\/fQ s = .inr r):=by
 cases k with
 |zero=>rw[tX]at h;cases h
 |succ k=>
  show(k,@r,?_);rw[tX]at h;cases q:fQ s with
  |inl s'=>rw[q]at h;show .inl (s',@r,h)
  |inr r'=>rw[q]at h;cases h;show .inr @r
abbrev Wrk(k:?N)(e:MT)(ρ:MR)(w:?L Task)(d:?L MV)(n:?N)(v:MV):?P:=∃c u k' n',Ev ρ e c (θ u)/\k'<k/\tX k' (w,u::d,n')=θ (.val v)
variable{l:MV}
def yL{k:?N}(h:(∃s',fQ (.fin e ρ::w,l::d,n) = .inl s'/\tX k s'=θ (.val v))\/fQ (.fin e ρ::w,l::d,n) = .inr (.val v)):∃s',rP e ρ l w d n = .inl s'/\tX k s'=θ (.val v):=by
 rcases h with h|h
 .show h
 .show nomatch Ep (show rP e ρ l w d n = .inr (.val v)from h)
section
variable {a b:MT}{ρ:MR}{l:MV}{w:?L Task}{d:?L MV}{n:?N}{s:MS}
def T9(h:rP (.add a b) ρ l w d n = .inl s):∃i j d',d = .int i::d'/\l = .int j/\s=(w,.int (i + j)::d',n):=by
 rcases d with _|⟨u,d⟩
 .cases h
 .cases u<;>cases l<;>first|(cases h;show(_,_,_,@r,@r,@r))|cases h
def QS(h:rP (.less a b) ρ l w d n = .inl s):∃i j d',d = .int i::d'/\l = .int j/\s=(w,.bool (decide (i<j))::d',n):=by
 rcases d with _|⟨u,d⟩
 .cases h
 .cases u<;>cases l<;>first|(cases h;show(_,_,_,@r,@r,@r))|cases h
def NA(h:rP (.front a b) ρ l w d n = .inl s):∃m xs d',d=m::d'/\l = .chain xs/\s=(w,.chain (m::xs)::d',n):=by
 rcases d with _|⟨u,d⟩
 .cases h
 .cases l<;>first|(cases h;show(_,_,_,@r,@r,@r))|cases h
def QT(h:rP (.call a b) ρ l w d n = .inl s):∃x c dI d',d = .dM x c dI::d'/\s=(.gY c ((x,l,)::dI)::w,d',n):=by
 rcases d with _|⟨u,d⟩
 .cases h
 .cases u<;>first|(cases h;show(_,_,_,_,@r,@r))|cases h
def QU{c:MT}(h:rP (.cond a b c) ρ l w d n = .inl s):∃t,l = .bool t/\s=(.gY (if t then b else c) ρ::w,d,n):=by
 cases l with
 |bool t=>cases t<;>(cases h;show(_,@r,@r))
 |_=>cases h
variable{y:χ}
def QV{q:KD}{c:MT}(h:rP (.case q x y a b c) ρ l w d n = .inl s):(l = .chain []/\s=(.gY b ρ::w,d,n))\/∃u us,l = .chain (u::us)/\s=(.gY c ((y,.chain us,)::(x,u,)::ρ)::w,d,n):=by
 cases l with
 |chain xs=>
  cases xs with
  |nil=>cases h;show .inl (@r,@r)
  |cons u us=>cases h;show .inr (_,_,@r,@r)
 |_=>cases h
end
def ah8(v:MV):∀(k:?N)(e:MT)(ρ:MR)(w:?L Task)(d:?L MV)(n:?N),tX k (.gY e ρ::w,d,n)=θ (.val v)->Wrk k e ρ w d n v:=by
 intro k;induction k using CU with
 |ind k ih=>
 intro e ρ w d n h;let(k1,rfl,hh):=jv h;clear h;cases n with
 |zero=>rcases hh with⟨s',h1,_⟩|h1<;>cases h1
 |succ n=>
 have two:∀{a b:MT},fQ (.gY e ρ::w,d,n+1) = .inl (.gY a ρ :: .gY b ρ :: .fin e ρ::w,d,n)->∃ca u1 cb u2 k3 n3,Ev ρ a ca (θ u1)/\Ev ρ b cb (θ u2)/\k3+1<k1+1/\tX (k3+1) (.fin e ρ::w,u2::u1::d,n3)=θ (.val v):=by
  intro a b hs;rcases hh with⟨s',h1,h2⟩|h1
  .rw[hs]at h1;ext;cases h1;let(ca,u1,k2,n2,e1,l1,h3):=ih k1 @o _ _ _ _ _ h2;let(cb,u2,k3,n3,e2,l2,h4):=ih k2 @o _ _ _ _ _ h3;let(k4,rfl,_):=jv h4;ext;show(ca,u1,cb,u2,k4,n3,e1,e2,by omega,h4)
  .rw[hs]at h1;cases h1
 have one:∀{a:MT},fQ (.gY e ρ::w,d,n+1) = .inl (.gY a ρ :: .fin e ρ::w,d,n)->∃ca u1 k3 n3,Ev ρ a ca (θ u1)/\k3+1<k1+1/\tX (k3+1) (.fin e ρ::w,u1::d,n3)=θ (.val v):=by
  intro a hs;rcases hh with⟨s',h1,h2⟩|h1
  .rw[hs]at h1;ext;cases h1;let(ca,u1,k2,n2,e1,l1,h3):=ih k1 @o _ _ _ _ _ h2;let(k4,rfl,_):=jv h3;ext;show(ca,u1,k4,n2,e1,by omega,h3)
  .rw[hs]at h1;cases h1
 have flat:∀{u:MV}{c:?N},fQ (.gY e ρ::w,d,n+1) = .inl (w,u::d,n)->Ev ρ e c (θ u)->Wrk (k1+1) e ρ w d (n+1) v:=by
  intro u c hs ev;rcases hh with⟨s',h1,h2⟩|h1
  .rw[hs]at h1;cases h1;show(c,u,k1,n,ev,by omega,h2)
  .rw[hs]at h1;cases h1
 cases e with
 |num i=>show flat @r .num
 |truth b=>show flat @r .truth
 |nil q=>show flat @r .nil
 |name x=>
  cases hx:ρ.get x with
  |some u=>show flat (by simp only[fQ,lQ,hx]) (.name hx)
  |none=>
   rcases hh with⟨s',h1,_⟩|h1
   .simp only[fQ,lQ,hx]at h1;cases h1
   .simp only[fQ,lQ,hx]at h1;cases h1
 |lam x q b=>show flat @r .lam
 |add a b=>
  ext;let(ca,u1,cb,u2,k3,n3,e1,e2,l,h4):=two @r;let(k4,z,h5):=jv h4;cases z;clear ih two one flat h4 hh;let(s',h5,h6):=yL h5;let(i,j,d',e3,rfl,rfl):=T9 h5;cases e3;ext;show(_,_,k3,_,.add e1 e2,by omega,h6)
 |less a b=>
  ext;let(ca,u1,cb,u2,k3,n3,e1,e2,l,h4):=two @r;let(k4,z,h5):=jv h4;cases z;clear ih two one flat h4 hh;let(s',h5,h6):=yL h5;let(i,j,d',e3,rfl,rfl):=QS h5;cases e3;ext;show(_,_,k3,_,.less e1 e2,by omega,h6)
 |front a b=>
  ext;let(ca,u1,cb,u2,k3,n3,e1,e2,l,h4):=two @r;let(k4,z,h5):=jv h4;cases z;clear ih two one flat h4 hh;let(s',h5,h6):=yL h5;let(m,xs,d',e3,rfl,rfl):=NA h5;cases e3;ext;show(_,_,k3,_,.front e1 e2,by omega,h6)
 |call a b=>
  ext;let(ca,u1,cb,u2,k3,n3,e1,e2,l,h4):=two @r;let(k4,z,h5):=jv h4;cases z;clear two one flat h4 hh;let(s',h5,h6):=yL h5;let(x,b',dI,d',e3,rfl):=QT h5;cases e3;let(c3,u3,k5,n5,e3,l3,h7):=ih k3 @o _ _ _ _ _ h6;ext;show(_,_,k5,n5,.call e1 e2 e3,by omega,h7)
 |cond a b c=>
  ext;let(ca,u1,k3,n3,e1,l,h4):=one @r;let(k4,z,h5):=jv h4;cases z;clear two one flat h4 hh;let(s',h5,h6):=yL h5;let(t,rfl,rfl):=QU h5;let(c3,u3,k5,n5,e3,l3,h7):=ih k3 @o _ _ _ _ _ h6;ext;cases t
  .show(_,_,k5,n5,.OM e1 e3,by omega,h7)
  .show(_,_,k5,n5,.condT e1 e3,by omega,h7)
 |case q x y a b c=>
  ext;let(ca,u1,k3,n3,e1,l,h4):=one @r;let(k4,z,h5):=jv h4;cases z;clear two one flat h4 hh;let(s',h5,h6):=yL h5;ext;rcases QV h5 with⟨rfl,rfl⟩|⟨u,us,rfl,rfl⟩
  .ext;let(c3,u3,k5,n5,e3,l3,h7):=ih k3 @o _ _ _ _ _ h6;ext;show(_,_,k5,n5,.ON e1 e3,by omega,h7)
  .ext;let(c3,u3,k5,n5,e3,l3,h7):=ih k3 @o _ _ _ _ _ h6;ext;show(_,_,k5,n5,.OO e1 e3,by omega,h7)
def Ends.ev{e:MT}{ρ:MR}{n:?N}{v:MV}(h:Ends ([.gY e ρ],[],n) (.val v)):∃c,Ev ρ e c (θ v):=by
 let(k,h):=h;let(c,u,k',n',ev,_,h2):=ah8 v k e ρ [] [] n h;let(k2,rfl,h3):=jv h2;rcases h3 with⟨s',h3,_⟩|h3<;>cases h3;show(c,ev)
section
variable (L:?N)
abbrev wM(n:?N):MT->?N
 |.nil _=>L
 |.lam _ _ b=>n + wM (n+1) b+1
 |.front a b=>wM n a + wM n b + L
 |.call a b=>wM n a + wM n b
 |.cond _ b c=>wM n b + wM n c
 |.case _ _ _ a b c=>wM n a + wM n b + wM (n+1+1) c
 |.num _=>0
 |.truth _=>0
 |.name _=>0
 |.add _ _=>0
 |.less _ _=>0
mutual
noncomputable def rk:MV->?N
 |.int _=>0
 |.bool _=>0
 |.chain xs=>L + L5 xs
 |.dM _ b ρ=>↑ρ + HX ρ + wM L (↑ρ+1) b+1
noncomputable def L5:?L MV->?N
 |[]=>0
 |x::xs=>max (rk x) (L5 xs)
noncomputable def HX:?L (χ×MV)->?N
 |[]=>0
 |(_,x)::xs=>max (rk x) (HX xs)
end
end
abbrev fr:MT->?N
 |.lam _ _ b=>fr b
 |.front a b=>fr a + fr b+1
 |.call a b=>fr a + fr b
 |.cond _ b c=>fr b + fr c
 |.case _ _ _ a b c=>fr a + fr b + fr c
 |.num _=>0
 |.truth _=>0
 |.nil _=>0
 |.name _=>0
 |.add _ _=>0
 |.less _ _=>0
mutual
noncomputable def ln:MV->?N
 |.int _=>0
 |.bool _=>0
 |.chain xs=>max ↑xs (L6 xs)
 |.dM _ b ρ=>HY ρ + fr b
noncomputable def L6:?L MV->?N
 |[]=>0
 |x::xs=>max (ln x) (L6 xs)
noncomputable def HY:?L (χ×MV)->?N
 |[]=>0
 |(_,x)::xs=>max (ln x) (HY xs)
end
def QW(L:?N){x:χ}{v:MV}:∀{ρ:MR},ρ.get x=θ v->rk L v<=HX L ρ/\ln v<=HY ρ
 |(y,u)::ρ,h=>by
  rw[MR.get]at h;rw[HX,HY];by_cases e:y=x
  .rw[?p e]at h;cases h;show(lM _ _,lM _ _)
  .rw[?n e]at h;let(a,b):=QW L h;show(bD a<|kB _ _,bD b<|kB _ _)
abbrev Own(L:?N)(v:MV)(k:Kd)(c f:?N):?P:=vD k=υ->∀x b ρ,v = .dM x b ρ->wM L (↑ρ+1) b<=c/\fr b<=f
structure Ua(L:?N)(v:MV)(k:Kd)(R M c f:?N):?P where
 ty:BG v k
 rk:rk L v<=R + c
 ln:ln v<=M + f
 own:Own L v k c f
variable{L R M R' M':?N}
def Ua.mono{c f c' f':?N}(h:Ua L v k R M c f)(h1:R + c<=R' + c')(h2:M + f<=M' + f')(h3:c<=c')(h4:f<=f'):Ua L v k R' M' c' f':=
 (h.ty,bD h.rk h1,bD h.ln h2,λn x b ρ e=>(by let(a,d):=h.own n x b ρ e;show (bD a h3,bD d h4)))
def L7(h:vD (.to k m)=ξ):k = .num/\vD m=ξ:=by
 cases k with
 |num=>show(@r,h)
 |_=>simp[vD]at h
def Kc.nm:∀{ρ:MR}{Γ:Ctx},Kc ρ Γ->Ctx.get x Γ=θ k->vD k=ξ
 |_,_,.nil,h=>nomatch h
 |_,_,.cons (x:=y) nk _ t,h=>by
  rw[Ctx.get]at h;by_cases e:y=x
  .rw[?p e]at h;cases h;show nk
  .rw[?n e]at h;show t.nm h
def small{c:?N}{o:?O MV}(ev:Ev ρ e c o):∀{v:MV},o=θ v->∀{Γ:Ctx}{k:Kd},Kc ρ Γ->TyM Γ e k->∀{R M:?N},HX L ρ<=R->HY ρ<=M->Ua L v k R M (wM L ↑ρ e) (fr e):=by
 induction ev with
 |num=>intro v z Γ k he ht R M h1 h2;cases z;obtain rfl:k = .num:=ht.inv;show(.int,by simp[rk],by simp[ln],λn=>by cases n)
 |truth=>intro v z Γ k he ht R M h1 h2;cases z;obtain rfl:k = .truth:=ht.inv;show(.bool,by simp[rk],by simp[ln],λn=>by cases n)
 |nil=>intro v z Γ k he ht R M h1 h2;cases z;let(m,_,rfl):=ht.inv;show(.chain (λ_ h=>nomatch h),by simp[rk,L5,wM],by simp[ln,L6],λ_ _ _ _ z=>nomatch z)
 |@name ρ x u h=>
  intro v z Γ k he ht R M h1 h2;cases z
  .have hx:Ctx.get x Γ=θ k:=ht.inv;ext;let(v',q1,q2):=he.get hx;rw[h]at q1;cases q1;let(a,b):=QW L h;ext;show(q2,by omega,by omega,λn=>by rw[he.nm hx]at n;cases n)
 |UP h=>intro v z;cases z
 |@lam ρ x kk b=>
  intro v z Γ k he ht R M h1 h2;ext;cases z;let(k1,m,rfl,rfl,nk,hb):=ht.inv;ext;show(.dM nk he hb,by simp only[rk,wM];omega,by simp only[ln,fr];omega,λ_ x b ρ z=>by cases z;simp only[wM,fr];omega)
 |ac5 _ _=>intro v z;cases z
 |UQ _ _=>intro v z;cases z
 |OJ _ _=>intro v z;cases z
 |UR _ _=>intro v z;cases z
 |US _ _=>intro v z;cases z
 |UT _ _=>intro v z;cases z
 |ac6 _ _ _ _=>intro v z;cases z
 |UU _ _ _ _=>intro v z;cases z
 |OK _ _ _ _=>intro v z;cases z
 |UW _ _ _ _=>intro v z;cases z
 |add _ _ _ _=>intro v z Γ k he ht R M h1 h2;cases z;let(rfl,_):=ht.inv;show(.int,by simp[rk],by simp[ln],λn=>by cases n)
 |ac7 _ _ _ _ _=>intro v z;cases z
 |less _ _ _ _=>intro v z Γ k he ht R M h1 h2;cases z;let(rfl,_):=ht.inv;show(.bool,by simp[rk],by simp[ln],λn=>by cases n)
 |UX _ _ _ _ _=>intro v z;cases z
 |front _ _ ih jh=>
  intro v z Γ k he ht R M h1 h2;cases z
  .ext;let(m,rfl,ha,hb):=ht.inv;have a:=ih @r he ha h1 h2;have b:=jh @r he hb h1 h2;let(xs,e,hx):=b.ty.pk;cases e;ext;have a1:=a.rk;have a2:=a.ln;have b1:=b.rk;have b2:=b.ln;simp only[rk,ln]at b1 b2;show(.chain λu hu=>?_,?_,?_,λ_ _ _ _ z=>nomatch z)
   .rcases bg.mp hu with rfl|hu
    .show a.ty
    .show hx u hu
   .simp only[rk,L5,wM];omega
   .simp only[ln,L6,fr,aF];omega
 |OL _ _ _ _ _=>intro v z;cases z
 |@call ρ a b m n x c' dI u k' r h g q ih jh kh=>
  intro v z Γ k he ht R M h1 h2
  .ext;let(k1,ha,hb):=ht.inv;have fa:=ih @r he ha h1 h2;have fb:=jh @r he hb h1 h2;let(x2,b2,sW,Γ2,e,nk,e1,e2):=fa.ty.BH;cases e;ext;have a1:=fa.rk;have a2:=fa.ln;simp only[rk,ln]at a1 a2;have b1:=fb.rk;have b2':=fb.ln;by_cases hn:vD (.to k1 k)=ξ
   .ext;let(rfl,nm):=L7 hn;let(i,rfl):=fb.ty.num_inv;ext;have res:=kh z (.cons nk fb.ty e1) e2 (R:=HX L dI) (M:=HY dI) (by simp[HX,rk]) (by simp[HY,ln]);simp only[aF]at res;have r1:=res.rk;have r2:=res.ln;show(res.ty,by simp only[wM];omega,by simp only[fr];omega,λn=>by rw[nm]at n;cases n)
   .have hn':vD (.to k1 k)=υ:=by simpa using hn
    let(o1,o2):=fa.own hn' x c' dI @r;have res:=kh z (.cons nk fb.ty e1) e2 (R:=max (rk L u) (HX L dI)) (M:=max (ln u) (HY dI)) (by simp[HX]) (by simp[HY]);simp only[aF]at res;show res.mono (by simp only[wM];omega) (by simp only[fr];omega) (by simp only[wM];omega) (by simp only[fr];omega)
 |UY _ _ _ _ _=>intro v z;cases z
 |condT _ _ ih jh=>
  intro v z Γ k he ht R M h1 h2;let(ha,hb,hc):=ht.inv;show(jh z he hb h1 h2).mono (by simp only[wM];omega) (by simp only[fr];omega) (by simp only[wM];omega) (by simp only[fr];omega)
 |OM _ _ ih jh=>
  intro v z Γ k he ht R M h1 h2;let(ha,hb,hc):=ht.inv;show(jh z he hc h1 h2).mono (by simp only[wM];omega) (by simp only[fr];omega) (by simp only[wM];omega) (by simp only[fr];omega)
 |UZ _ _ _=>intro v z;cases z
 |ON _ _ ih jh=>
  intro v z Γ k he ht R M h1 h2;ext;let(k1,rfl,nk,ha,hb,hc):=ht.inv;ext;show(jh z he hb h1 h2).mono (by simp only[wM];omega) (by simp only[fr];omega) (by simp only[wM];omega) (by simp only[fr];omega)
 |@OO ρ kq x0 y0 a b0 c0 m0 n0 r0 u us h g ih jh=>
  intro v z Γ k he ht R M h1 h2
  .ext;let(k1,rfl,nk,ha,hb,hc):=ht.inv;have q:=ih @r he ha h1 h2;let(xs,e,hx):=q.ty.pk;cases e;ext;have a1:=q.rk;have a2:=q.ln;simp only[rk,L5,ln,L6,aF]at a1 a2;have res:=jh z (.cons (k:=.list k1) (by rw[vD];show nk) (.chain λu hu=>hx u (aM _ hu)) (.cons nk (hx _ aJ) he)) hc (R:=R + wM L ↑ρ a) (M:=M + fr a) (by simp only[HX,rk];omega) (by simp only[HY,ln];omega);simp only[aF]at res;show res.mono (by simp only[wM];omega) (by simp only[fr];omega) (by simp only[wM];omega) (by simp only[fr];omega)
 |U0 _ _ _=>intro v z;cases z
mutual
theorem QX(L:?N):∀(v:MV),ln v<L->v.nd<=rk L v
 |.int _,_=>by simp[MV.nd]
 |.bool _,_=>by simp[MV.nd]
 |.chain xs,h=>by
  rw[ln]at h;have:=QY L xs @o;rw[MV.nd,rk];omega
 |.dM x b ρ,h=>by
  rw[ln]at h;have:=QZ L ρ @o;rw[MV.nd,rk];omega
theorem QY(L:?N):∀(xs:?L MV),L6 xs<L->Vv xs<=L5 L xs
 |[],_=>by simp[Vv]
 |x::xs,h=>by
  rw[L6]at h;have:=QX L x @o;have:=QY L xs @o;rw[Vv,L5];omega
theorem QZ(L:?N):∀(ρ:?L (χ×MV)),HY ρ<L->XI ρ<=HX L ρ
 |[],_=>by simp[XI]
 |(y,x)::ρ,h=>by
  rw[HY]at h;have:=QX L x @o;have:=QZ L ρ @o;rw[XI,HX];omega
end
def Ey(h:vD k=ξ):AD k=ξ:=by
 induction k with
 |to a b _ ih=>let(rfl,q):=L7 h;rw[AD,ih q];rfl
 |list k ih=>rw[vD]at h;rw[AD];show ih h
 |_=>rfl
mutual
inductive Sk(W:?N):?N->Tm->?P where
 |tq (k:Kd) (h:bG k<=W) (p:AD k=ξ):Sk W 1 (pK k)
 |fa:Sk W 1 IQ
 |node {b:Lb} {o:?L Tm} {n:?N} (ha:↑o=ar b) (hn:lbN b=ξ) (hs:L8 W n o):Sk W (n+1) @R
inductive L8(W:?N):?N->?L Tm->?P where
 |nil:L8 W 0 []
 |cons {n m:?N} {t:Tm} {o:?L Tm} (h:Sk W n t) (r:L8 W m o):L8 W (n + m) (t::o)
end
variable{W:?N}
def Sk.pos(h:Sk W n t):1<=n:=by cases h<;>omega
def L8.get:∀{o:?L Tm}{n:?N},L8 W n o->∀{j:?N}{t:Tm},o[j]?=θ t->∃m,Sk W m t/\∀(u:Tm)(m':?N),Sk W m' u->m'<=m->∃n',n'<=n/\L8 W n' (o.set j u)
 |_,_,.nil,j,t,e=>by simp at e
 |_,_,.cons (n:=a) (m:=b) (t:=t0) h r,0,t,e=>by
  simp at e;subst e;show(a,h,λu m' hu l=>(m' + b,by omega,.cons hu r))
 |_,_,.cons (n:=a) (m:=b) (t:=t0) h r,j+1,t,e=>by
  let(m,h1,h2):=r.get (j:=j) (t:=t) (by simpa using e);show(m,h1,λu m' hu l=>?_);let(n',l',q):=h2 u m' hu l;show(a + n',by omega,.cons h q)
def FT(h:AD k=ξ):So (pK k):=by
 induction k with
 |num=>show .mk @r @r λ_ h=>nomatch h
 |truth=>show .mk @r @r λ_ h=>nomatch h
 |list k _=>show .mk @r h λ_ h=>nomatch h
 |to a b _ ih=>
  rw[AD,aZ]at h;show .mk @r h.1 λt ht=>by rw[aR.mp ht];show ih h.2
def Ub:So IQ:=.mk @r @r λt h=>by rw[aR.mp h];show .mk @r @r λ_ h=>nomatch h
mutual
theorem Sk.VB{W:?N}:∀{n:?N}{t:Tm},Sk W n t->So t
 |_,_,.tq _ _ p=>FT p
 |_,_,.fa=>Ub
 |_,_,.node ha hn hs=>.mk ha hn hs.VB
theorem L8.VB{W:?N}:∀{n:?N}{o:?L Tm},L8 W n o->∀t∈o,So t
 |_,_,.nil,_,h=>nomatch h
 |_,_,.cons h r,t,ht=>by
  rcases bg.mp ht with e|ht
  .rw[e];show h.VB
  .show r.VB t ht
end
abbrev VC(sc:Sc):?P:=∀y∈sc,vD y.2=ξ
def VC.pX(hn:lbN b=ξ)(h:VC sc):VC (pX b i sc):=by
 unfold _W.pX;split
 .intro y hy;rcases aW.mp hy with hy|hy
  .show h y hy
  .rw[aR.mp hy];show((aZ _ _).mp hn).1
 .intro y hy;rcases aW.mp hy with hy|hy
  .rcases aW.mp hy with hy|hy
   .show h y hy
   .rw[aR.mp hy];show((aZ _ _).mp hn).1
  .rw[aR.mp hy];show((aZ _ _).mp hn).1
 .show h
def Uc(h:VC sc):look sc x=θ k->vD k=ξ:=by
 intro hl;induction sc with
 |nil=>cases hl
 |cons p r ih=>
  let(y,m):=p;rw[look]at hl;cases q:look r x with
  |some m'=>rw[q]at hl;cases hl;show ih (λz hz=>h z (aM _ hz)) q
  |none=>
   rw[q]at hl;simp only at hl;by_cases e:y=x
   .rw[?p e]at hl;cases hl;show h _ aJ
   .rw[?n e]at hl;cases hl
def FU{b:Lb}{sc:Sc}:∀{o:?L Tm}{i:?N}{ks:?L Kd},oG b sc i o = .ok ks->∀{j:?N}{k:Kd},ks[j]?=θ k->∃t,o[j]?=θ t/\ck (pX b (i + j) sc) t = .ok k
 |[],i,ks,h,j,k,e=>by cases HW h;simp at e
 |t::r,i,ks,h,j,k,e=>by
  let(k0,Nj,rfl,c1,h1):=ux h;cases j with
  |zero=>simp at e;subst e;show(t,@r,c1)
  |succ j=>
   let(u,e1,e2):=FU h1 (j:=j) (k:=k) (by simpa using e);show(u,by simpa using e1,by rw[show i + (j+1)=i+1 + j from by omega];show e2)
def L9(h:So t):∀{sc:Sc}{k:Kd},VC sc->ck sc t = .ok k->AD k=ξ:=by
 induction h with
 |@mk b o hl hn hs ih=>
  intro sc k Q0 hk;let(ks,h1,h2,rfl):=QQ hk;have all:∀(j:?N) k,ks[j]?=θ k->AD k=ξ:=λj k e=>by
   let(t,e1,e2):=FU h1 e;show ih t (aD e1) (Q0.pX hn) e2
  have nth:∀j:?N,AD ((ks[j]?).getD .num)=ξ:=λj=>by
   cases q:ks[j]? with
   |none=>rfl
   |some k=>show all j k q
  cases b with
  |num=>rfl
  |truth=>rfl
  |add=>rfl
  |less=>rfl
  |nil k=>simp only[kN,AD];show hn
  |name x=>
   simp only[kN];cases q:look sc x with
   |none=>rfl
   |some k=>show Ey (Uc Q0 q)
  |fn x kx=>simp only[kN,AD];rw[nth 0,show(vD kx&&decide (bG kx<=6))=ξ from hn];rfl
  |call=>
   simp only[kN];have:=nth 0;cases q:(ks[0]?).getD .num with
   |to a b=>rw[q,AD,aZ]at this;show this.2
   |list a=>rw[q]at this;show this
   |num=>rfl
   |truth=>rfl
  |front=>show nth 1
  |yp=>show nth 1
  |case=>show nth 1
def Ma{b:Lb}{sc:Sc}:∀{o:?L Tm}{i n:?N}{pl:?L ?N}{d f:?O Kd},oG b sc i o = .bad n pl d f->∃j u sX m,pl=(i + j)::sX/\o[j]?=θ u/\ck (pX b (i + j) sc) u = .bad m sX d f
 |[],i,n,pl,d,f,h=>by rw[iT]at h;cases h
 |t::r,i,n,pl,d,f,h=>by
  rw[fR]at h;cases h1:ck (pX b i sc) t with
  |bad m sX d0 f0=>rw[h1]at h;cases h;show(0,t,sX,m,@r,@r,h1)
  |ok k=>
   rw[h1]at h;simp only at h;cases h2:oG b sc @X r with
   |ok ks=>rw[h2]at h;cases h
   |bad m sX d0 f0=>
    rw[h2]at h;ext;cases h;let(j,u,pl1,m1,e1,e2,e3):=Ma h2;ext;show(j+1,u,pl1,m1,by rw[e1,show i+1 + j=i + (j+1)from by omega],by simpa using e2,by rw[show i + (j+1)=i+1 + j from by omega];show e3)
def so:∀{ds:?L (?O Kd)} {ks:?L Kd} {i j:?N} {m k:Kd},aY i ds ks=θ (j,m,k,)->θ m∈ds
 |some m'::ds,k'::ks,i,j,m,k,h=>by
  rw[aY]at h;by_cases e:m'=k'
  .rw[?p e]at h;show aM _ (so h)
  .rw[?n e]at h;cases h;show aJ
 |none::ds,k'::ks,i,j,m,k,h=>by rw[aY]at h;show aM _ (so h)
 |[],ks,i,j,m,k,h=>by rw[aY]at h<;>simp_all
 |some m'::ds,[],i,j,m,k,h=>by rw[aY]at h<;>simp_all
 |none::ds,[],i,j,m,k,h=>by rw[aY]at h<;>simp_all
def XN(hn:lbN b=ξ)(all:∀(j:?N) k,ks[j]?=θ k->AD k=ξ)(h:θ m∈cY b ks):AD m=ξ:=by
 cases b with
 |add=>simp[cY]at h;subst h;rfl
 |less=>simp[cY]at h;subst h;rfl
 |yp=>
  simp only[cY,bg,ef,or_false]at h;rcases h with h|h|h
  .cases h;rfl
  .cases h
  .show all 1 m h.symm
 |front=>
  simp only[cY,bg,ef,or_false]at h;rcases h with h|h
  .cases h
  .let(a,e,rfl):=lP.mp h.symm;rw[AD];show all 0 a e
 |case k x y=>
  simp only[cY,bg,ef,or_false]at h;rcases h with h|h|h
  .cases h;rw[AD];show Ey ((aZ _ _).mp hn).1
  .cases h
  .show all 1 m h.symm
 |call=>
  simp only[cY,bg,ef,or_false]at h;rcases h with h|h
  .cases h
  .let(a,e1,e2):=Option.bind_eq_some_iff.mp h.symm;have:=all 0 a e1;cases a with
   |to p q=>cases e2;rw[AD,aZ,aZ]at this;show Ey this.1.1
   |_=>cases e2
 |_=>simp[cY]at h
def Ud:∀{e:Tm}{n:?N},Sk W n e->∀{sc:Sc},VC sc->∀{r:?N}{pl:?L ?N}{d f:?O Kd},ck sc e = .bad r pl d f->(∀k,d=θ k->bG k<=W)->1<=W->∃n',n'<=n/\Sk W n' (iD e pl<|oH d f):=by
 intro e;induction e using cM.ind with
 |h b o ih=>
 intro n hS sc Q0 r pl d f h hd hW;have inv:(∃m,cM.node b o=pK m)\/cM.node b o=IQ\/∃n0,n=n0+1/\↑o=ar b/\lbN b=ξ/\L8 W n0 o:=by
  generalize he:cM.node b o=e' at hS;cases hS with
  |tq m _ _=>show .inl (m,@r)
  |fa=>show .inr @i
  |node ha hn hs=>cases he;show .inr (.inr (_,@r,ha,hn,hs))
 rcases inv with⟨m,e⟩|e|⟨n0,rfl,ha,hn,hs⟩
 .rw[e,yA]at h;cases h
 .rw[e,yB]at h;cases h
 .clear hS;rw[jF]at h;cases hc:oG b sc 0 o with
  |bad n1 zu d' f'=>
   rw[hc]at h;cases h;let(j,u,sX,m,rfl,e2,e3):=Ma hc;rw[g9]at e3 ⊢;let(mj,s1,s2):=hs.get e2;let(n',l',q):=ih u (aD e2) s1 (Q0.pX hn) e3 hd hW;let(n2,l2,q2):=s2 _ n' q l';show(n2+1,by omega,?_);rw[lH (t:=.node b o) e2];show .node (by rw[eK];show ha) hn q2
  |ok ks=>
   rw[hc]at h;simp only at h;have hlen:↑ks=ar b:=by rw[qj hc];show ha
   have all:∀(j:?N) k,ks[j]?=θ k->AD k=ξ:=λj k e=>by
    let(t,e1,e2):=FU hc e;show L9 (hs.VB t<|aD e1) (Q0.pX hn) e2
   cases hb:dj b ks sc with
   |none=>rw[hb]at h;cases h
   |some br=>
    rw[hb]at h;cases h;have byd:bE b ks=θ br->∃n',n'<=n0+1/\Sk W n' (iD @R br.1<|oH br.2.1 br.2.2):=by
     intro hy;let(i,m,k,rfl,hi,_):=qk hlen hy;have hm:AD m=ξ:=by
      unfold bE at hy;let((i',m',k'),z1,z2):=lP.mp hy;cases z2;show XN hn all (so z1)
     have hio:i<↑o:=by rw[ha,<-hlen];show hi
     let(mj,s1,s2):=hs.get (ag hio);let(n2,l2,q2):=s2 _ 1 (.tq m (hd m @r) hm) s1.pos;show(n2+1,by omega,?_);rw[lH (t:=.node b o) (ag hio),lY];show .node (by rw[eK];show ha) hn q2
    cases b with
    |name x=>
     simp only[dj]at hb;by_cases z:(look sc x).isSome=ξ
     .rw[?p z]at hb;cases hb
     .rw[?n z]at hb;cases hb;show(1,by omega,by rw[lY];show .tq .num hW @r)
    |call=>
     let(a,c,rfl):=pw ha;let(k1,ks1,rfl,c1,h1):=ux hc;simp only[dj]at hb;by_cases z:k1.arg.isSome=ξ
     .rw[?p z]at hb;show byd hb
     .rw[?n z]at hb;cases hb;let(mj,s1,s2):=hs.get (j:=0) (t:=a) @r;let(n2,l2,q2):=s2 _ 1 .fa s1.pos;show(n2+1,by omega,?_);rw[lH (t:=.node .call [a,c]) (k:=0) (x:=a) @r,lY];show .node (by rw[eK];show ha) hn q2
    |_=>show byd hb
abbrev sp:Kd->?N
 |.to _ m=>sp m+1
 |_=>0
def VF(k:Kd):2 * sp k+1<=bG k:=by
 induction k with
 |to a b _ ih=>
  have:1<=bG a:=by cases a<;>simp[bG]
  simp only[sp,bG];omega
 |num=>simp[sp,bG]
 |truth=>simp[sp,bG]
 |list k _=>simp[sp,bG]
def VH(L:?N)(k:Kd):∀c,wM L c (tD<|pK k)<=sp k * (c + sp k+1) + L:=by
 induction k with
 |num=>intro c;simp[pK,jU,fT,oT,pq,oB,oS,wM]
 |truth=>intro c;simp[pK,jU,fT,oT,pq,oB,oS,wM]
 |list k _=>intro c;simp[pK,jU,fT,oT,pq,oB,oS,wM]
 |to a b _ ih=>
  intro c;have:=ih (c+1);have e1:(sp b+1) * (c + (sp b+1)+1)=sp b * (c+1 + sp b+1) + (c + (sp b+1)+1):=by
   rw[Nat.add_mul,Nat.one_mul,show c + (sp b+1)+1=c+1 + sp b+1 from by omega]
  simp only[pK,jU,fT,oT,pq,oB,oS,wM,sp];rw[e1];omega
def Q1(k:Kd):fr (tD<|pK k)=0/\mO (tD<|pK k)=1/\nc (tD<|pK k)=ξ:=by
 induction k with
 |to a b _ ih=>simp[pK,jU,fT,oT,pq,oB,oS,fr,mO,nc,ih.1,ih.2.2]
 |_=>simp[pK,jU,fT,oT,pq,oB,oS,fr,mO,nc]
def ah9(L c:?N):wM L c (tD IQ)=c+1/\fr (tD IQ)=0/\mO (tD IQ)=1:=by simp[IQ,jU,fT,oT,pq,oB,oS,wM,fr,mO]
abbrev wsum(L c:?N):?L MT->?N
 |[]=>0
 |e::r=>wM L c e + wsum L c r
abbrev fsum:?L MT->?N
 |[]=>0
 |e::r=>fr e + fsum r
abbrev zR:?L MT->?N
 |[]=>0
 |e::r=>mO e + zR r
def kZ(L:?N):∀(e:MT){c c':?N},c<=c'->wM L c e<=wM L c' e
 |.num _,_,_,_=>by simp[wM]
 |.truth _,_,_,_=>by simp[wM]
 |.nil _,_,_,_=>by simp[wM]
 |.name _,_,_,_=>by simp[wM]
 |.lam _ _ b,c,c',h=>by have:=kZ L b (c:=c+1) (c':=c'+1) @o;simp only[wM];omega
 |.add _ _,_,_,_=>by simp[wM]
 |.less _ _,_,_,_=>by simp[wM]
 |.front a b,c,c',h=>by have:=kZ L a h;have:=kZ L b h;simp only[wM];omega
 |.call a b,c,c',h=>by have:=kZ L a h;have:=kZ L b h;simp only[wM];omega
 |.cond a b d,c,c',h=>by have:=kZ L b h;have:=kZ L d h;simp only[wM];omega
 |.case _ _ _ a b d,c,c',h=>by have:=kZ L a h;have:=kZ L b h;have:=kZ L d (c:=c+1+1) (c':=c'+1+1) @o;simp only[wM];omega
variable{B:?N}
def XO{c:?N}(ha:↑o=ar b)(hB:∀x,x<=wsum L (c+1+1) (fT o) + (L + c+1)->x<=B)(f:fsum (fT o)<=n)(q:zR (fT o)<=n):wM L c (tD @R)<=B/\fr (tD @R)<=n+1/\mO (tD @R)<=n+1:=by
 have m:=λe=>kZ L e (c:=c) (c':=c+1+1) @o;have m1:=λe=>kZ L e (c:=c+1) (c':=c+1+1) @o;rw[jU];show(hB _ ?_,?_)
 .cases b with
  |num i=>simp only[oT,pq,oB,oS,wM];omega
  |truth i=>simp only[oT,pq,oB,oS,wM];omega
  |name i=>simp only[oT,pq,oB,oS,wM];omega
  |nil i=>simp only[oT,pq,oB,oS,wM];omega
  |add=>let(x,y,rfl):=pw ha;simp only[fT,oT,pq,oB,oS,wM];omega
  |less=>let(x,y,rfl):=pw ha;simp only[fT,oT,pq,oB,oS,wM];omega
  |front=>let(x,y,rfl):=pw ha;have:=m (tD x);have:=m (tD y);simp only[fT,oT,pq,oB,oS,wM,wsum];omega
  |call=>let(x,y,rfl):=pw ha;have:=m (tD x);have:=m (tD y);simp only[fT,oT,pq,oB,oS,wM,wsum];omega
  |yp=>let(x,y,z,rfl):=Dp ha;have:=m (tD y);have:=m (tD z);simp only[fT,oT,pq,oB,oS,wM,wsum];omega
  |case k h t=>let(x,y,z,rfl):=Dp ha;have:=m (tD x);have:=m (tD y);simp only[fT,oT,pq,oB,oS,wM,wsum];omega
  |fn x k=>let(y,rfl):=FR ha;have:=m1 (tD y);simp only[fT,oT,pq,oB,oS,wM,wsum];omega
 .cases b with
  |num i=>simp only[oT,pq,oB,oS,fr,mO];omega
  |truth i=>simp only[oT,pq,oB,oS,fr,mO];omega
  |name i=>simp only[oT,pq,oB,oS,fr,mO];omega
  |nil i=>simp only[oT,pq,oB,oS,fr,mO];omega
  |add=>let(x,y,rfl):=pw ha;simp only[fT,fsum,zR]at f q;simp only[fT,oT,pq,oB,oS,fr,mO];omega
  |less=>let(x,y,rfl):=pw ha;simp only[fT,fsum,zR]at f q;simp only[fT,oT,pq,oB,oS,fr,mO];omega
  |front=>let(x,y,rfl):=pw ha;simp only[fT,fsum,zR]at f q;simp only[fT,oT,pq,oB,oS,fr,mO];omega
  |call=>let(x,y,rfl):=pw ha;simp only[fT,fsum,zR]at f q;simp only[fT,oT,pq,oB,oS,fr,mO];omega
  |yp=>let(x,y,z,rfl):=Dp ha;simp only[fT,fsum,zR]at f q;simp only[fT,oT,pq,oB,oS,fr,mO];omega
  |case k h t=>let(x,y,z,rfl):=Dp ha;simp only[fT,fsum,zR]at f q;simp only[fT,oT,pq,oB,oS,fr,mO];omega
  |fn x k=>let(y,rfl):=FR ha;simp only[fT,fsum,zR]at f q;simp only[fT,oT,pq,oB,oS,fr,mO];omega
mutual
theorem ai0{W L S N:?N}(hS:W<=2 * S+1)(h1:1<=S):∀{n:?N}{t:Tm},Sk W n t->∀c,c+2 * n<=N->wM L c (tD t)<=n * (S * (N + S+2) + L)/\fr (tD t)<=n/\mO (tD t)<=n
 |_,_,.tq k h p,c,hc=>by
  have a:=VH L k c;let(b1,b2,_):=Q1 k;have s1:=VF k;have s2:sp k<=S:=by omega
  have s3:sp k * (c + sp k+1)<=S * (N + S+2):=vw s2 @o;rw[b1,b2];show(by omega,by omega,by omega)
 |_,_,.fa,c,hc=>by
  let(a,b1,b2):=ah9 L c;have:N + S+2<=S * (N + S+2):=IH _ h1;rw[a,b1,b2];show(by omega,by omega,by omega)
 |_,_,.node (b:=b) (o:=o) (n:=n) ha hn hs,c,hc=>by
  let(w,f,q):=VJ (L:=L) (N:=N) hS h1 hs (c+1+1) @o;have g:N + S+2<=S * (N + S+2):=IH _ h1;have hGl:L + c+1<=S * (N + S+2) + L:=by omega
  show XO ha (by rw[Nat.add_mul,Nat.one_mul];showλx hx=>bD hx (Nat.add_le_add w hGl)) f q
theorem VJ{W L S N:?N}(hS:W<=2 * S+1)(h1:1<=S):∀{n:?N}{o:?L Tm},L8 W n o->∀c,c+2 * n<=N->wsum L c (fT o)<=n * (S * (N + S+2) + L)/\fsum (fT o)<=n/\zR (fT o)<=n
 |_,_,.nil,c,hc=>(by simp[fT,wsum],by simp[fT,fsum],by simp[fT,zR])
 |_,_,.cons (n:=a) (m:=b) h r,c,hc=>by
  ext;let(r1,r2,r3):=VJ (L:=L) (N:=N) hS h1 r c @o;let(x1,x2,x3):=ai0 (L:=L) (N:=N) hS h1 h c @o;ext;show(?_,?_,?_)
  .rw[Nat.add_mul];simp only[fT,wsum];omega
  .simp only[fT,fsum];omega
  .simp only[fT,zR];omega
end
def yM(h:k∈nR):(vD k&&decide (bG k<=6))=ξ:=by
 have:∀k∈nR,(vD k&&decide (bG k<=6))=ξ:=by decide
 show this k h
def Wf.sk(W:?N){e:Ex}(h:Wf e):∃t,e=ex t/\Vg t/\Sk W t.size t:=by
 induction h with
 |num i=>show(.node (.num i) [],by rw[ex];rfl,.mk @r (cE _) (λ_ h=>nomatch h),.node @r @r .nil)
 |truth i=>show(.node (.truth i) [],by rw[ex];rfl,.mk @r (cE _) (λ_ h=>nomatch h),.node @r @r .nil)
 |name i=>show(.node (.name i) [],by rw[ex];rfl,.mk @r (cE _) (λ_ h=>nomatch h),.node @r @r .nil)
 |nil i hk=>show(.node (.nil i) [],by rw[ex];rfl,.mk @r (rW hk) (λ_ h=>nomatch h),.node @r (Ey ((aZ _ _).mp (yM hk)).1) .nil)
 |add _ _ i1 i2=>
  ext;let(t1,rfl,h1,s1):=i1;let(t2,rfl,h2,s2):=i2;ext;show(.node .add [t1,t2],by rw[ex];rfl,.mk @r @d (by simp[h1,h2]),.node @r @r<|.cons s1<|.cons s2 .nil)
 |less _ _ i1 i2=>
  ext;let(t1,rfl,h1,s1):=i1;let(t2,rfl,h2,s2):=i2;ext;show(.node .less [t1,t2],by rw[ex];rfl,.mk @r @d (by simp[h1,h2]),.node @r @r<|.cons s1<|.cons s2 .nil)
 |front _ _ i1 i2=>
  ext;let(t1,rfl,h1,s1):=i1;let(t2,rfl,h2,s2):=i2;ext;show(.node .front [t1,t2],by rw[ex];rfl,.mk @r @d (by simp[h1,h2]),.node @r @r<|.cons s1<|.cons s2 .nil)
 |call _ _ i1 i2=>
  ext;let(t1,rfl,h1,s1):=i1;let(t2,rfl,h2,s2):=i2;ext;show(.node .call [t1,t2],by rw[ex];rfl,.mk @r @d (by simp[h1,h2]),.node @r @r<|.cons s1<|.cons s2 .nil)
 |yp _ _ _ i1 i2 i3=>
  ext;let(t1,rfl,h1,s1):=i1;let(t2,rfl,h2,s2):=i2;let(t3,rfl,h3,s3):=i3;ext;show(.node .yp [t1,t2,t3],by rw[ex];rfl,.mk @r @d (by simp[h1,h2,h3]),.node @r @r<|.cons s1<|.cons s2<|.cons s3 .nil)
 |case k h t hk _ _ _ _ _ i1 i2 i3=>
  ext;let(t1,rfl,h1,s1):=i1;let(t2,rfl,h2,s2):=i2;let(t3,rfl,h3,s3):=i3;ext;show(.node (.case k h t) [t1,t2,t3],by rw[ex];rfl,.mk @r (rW hk) (by simp[h1,h2,h3]),.node @r (yM hk)<|.cons s1<|.cons s2<|.cons s3 .nil)
 |fn x k _ hk _ i1=>
  ext;let(t1,rfl,h1,s1):=i1;ext;show(.node (.fn x k) [t1],by rw[ex];rfl,.mk @r (rW hk) (by simp[h1]),.node @r (yM hk)<|.cons s1 .nil)
def Mb:VC ft:=by unfold VC;decide
structure zS(v:MV)(k:Kd)(R M:?N):?P where
 ty:BG v k
 rk:rk 1000 v<=R
 ln:ln v<=M
def zS.nd(h:zS v k R M)(h1:R<16700000)(h2:M<1000):v.nd<16700000:=bL (bD (QX 1000 v<|bL h.ln h2) h.rk) h1
def Mc(L:?N):∀{xs:?L MV}{x:MV},x∈xs->rk L x<=L5 L xs/\ln x<=L6 xs
 |y::ys,x,h=>by
  rw[L5,L6];rcases bg.mp h with rfl|h
  .show(lM _ _,lM _ _)
  .let(a,b):=Mc L h;show(bD a<|kB _ _,bD b<|kB _ _)
variable{xs:?L MV}
def zS.mem(h:zS (.chain xs) (.list k) R M):↑xs<=M/\∀x∈xs,zS x k R M:=by
 let(ys,e,hx):=h.ty.pk;cases e;have h1:=h.rk;have h2:=h.ln;simp only[_W.rk,_W.ln]at h1 h2;show(by omega,λx hm=>?_);let(a,b):=Mc 1000 hm;show(hx x hm,by omega,by omega)
abbrev Comes(s:MS)(k:Kd)(R M:?N)(r:Res):?P:=Ends s r/\(r = .oW\/∃v,r = .val v/\zS v k R M)
def Q2{b:MT}{a:MV}(hf:zS (.dM x b ρ) (.to k m) R M)(ha:zS a k R' M')(n:?N):∃r,Comes ([.gY b ((x,a,)::ρ)],[],n) m (R + R') (M + M') r:=by
 ext;let(x',b',dI,Γ,e,nk,e1,e2):=hf.ty.BH;cases e;have h1:=hf.rk;have h2:=hf.ln;have h3:=ha.rk;have h4:=ha.ln;simp only[_W.rk,_W.ln]at h1 h2;let(r,g1,g2):=zF e2 (.cons nk ha.ty e1) n;ext;show(r,g1,g2.imp (λz=>z.1) λ⟨v,e,hv⟩=>(v,e,?_));subst e;let(c,ev):=g1.ev;have s:=small (L:=1000) ev @r (.cons nk ha.ty e1) e2 (R:=max (_W.rk 1000 a) (HX 1000 ρ)) (M:=max (_W.ln a) (HY ρ)) (by simp[HX]) (by simp[HY]);have s1:=s.rk;have s2:=s.ln;simp only[aF]at s1;show(hv,by omega,by omega)
abbrev sv:Kd->MV
 |.num=>.int 2
 |.truth=>.bool υ
 |.list .num=>.chain [.int 4,.int 0]
 |.list _=>.chain []
 |.to _ m=>.dM "a" (tD<|pK m) []
def Ue(h:vD k=ξ)(h6:bG k<=6):zS (sv k) k 1020 2:=by
 cases k with
 |num=>show(.int,by simp[sv,rk],by simp[sv,ln])
 |truth=>show(.bool,by simp[sv,rk],by simp[sv,ln])
 |list k=>
  cases k with
  |num=>show(.chain (by intro x hx;simp at hx;rcases hx with rfl|rfl<;>show .int),by simp[sv,rk,L5],by simp[sv,ln,L6])
  |truth=>show(.chain (λ_ h=>nomatch h),by simp[sv,rk,L5],by simp[sv,ln,L6])
  |list k=>show(.chain (λ_ h=>nomatch h),by simp[sv,rk,L5],by simp[sv,ln,L6])
  |to a b=>show(.chain (λ_ h=>nomatch h),by simp[sv,rk,L5],by simp[sv,ln,L6])
 |to a m=>
  let(rfl,hm):=L7 h;have w:=VH 1000 m 1;have s:=VF m;simp only[bG]at h6;have sm:sp m<=1:=by omega
  have w2:sp m * (1 + sp m+1)<=1 * 3:=vw sm @o;show(.dM @r .nil<|QR (FT<|Ey hm) (sc:=[("a",.num,)])<|yA m _,?_,?_)
  .simp only[sv,rk,HX,iI,g9];omega
  .simp only[sv,ln,HY,(Q1 m).1];omega
abbrev tE(n:?I):MR:=[(Td,.dM "a" (.add (.name "a")<|.num n) [],),(Lk,.chain [.int 3,.int n],),(IK,.int n,),(Lk,.int<|1 - n,),(IK,.bool ξ,)]
def Md(n:?I):Kc (tE n) ft.reverse:=
 .cons @r (.dM @r .nil<|.add (.name<|by rw[Ctx.get,?p @r]) .num) (.cons @r (.chain (by intro x hx;simp at hx;rcases hx with rfl|rfl<;>show .int)) (.cons @r .int<|.cons @r .int<|.cons @r .bool .nil))
def Ug(n:?I):HX 1000 (tE n)<=1000/\HY (tE n)<=2:=by simp[tE,HX,rk,L5,wM,HY,ln,L6,fr]
variable{e:Tm}
def Q3{s:?N}(hs:Sk 608 s e)(ap6:s<=101)(hk:ck ft e = .ok k)(i:?I)(n:?N):
  ∃r,Ends ([.gY (tD e) (tE i)],[],n) r/\((r = .oW/\¬(nc (tD e)=ξ/\s<=n))\/∃v,r = .val v/\zS v k 15900000 103):=by
 have ht:=QR hs.VB hk;ext;let(r,g1,g2):=zF ht (Md i) n;let(w1,w2,w3):=ai0 (L:=1000) (S:=304) (N:=207) @d @d hs 5 @o;ext;show(r,g1,g2.imp (λz=>(z.1,λy=>z.2 (y.1,by omega))) λ⟨v,e,hv⟩=>(v,e,?_));subst e;let(c,ev):=g1.ev;let(e1,e2):=Ug i;have q:=small (L:=1000) ev @r (Md i) ht e1 e2;have q1:=q.rk;have q2:=q.ln;have hl:(tE i).length=5:=rfl;rw[hl]at q1;have w4:s * (304 * (207+304+2)+1000)<=101 * (304 * (207+304+2)+1000):=Nat.mul_le_mul_right _ ap6;show(hv,by omega,by omega)
end _W
namespace _L
open PyProof.Rows
section
variable {X:Cx}{π:?L @u}{σ:St}{H:Hp}{s:ao}
variable{more:?L ExceptHandler}{x y:χ}{i:?N}{ps:?L χ}{es:?L bR}{Q4:cz}{HZ:?L cz}{p pos vg np zT Oj p3:Pos}
def Ke{k:?N}{n:χ}{c:ai}{sp:Sp}{e:bR}{t:TA}{ts:TS}(b:X.Body)(D:nS X.prog X.w X.K X.mg X.base k x ps sp)(hr:gp k X.A)(hg:Gl X x)(ha:PA X.N5 (e::es) t)(hgy:Gl X y)(hy:X.mg y=θ c)(nd:X.N.Nodup)(hi:X.N[i]?=θ n)(hx:Loc X.env.scope n)(hs:∀ea oe,vP (X.rS ea oe) (Q4::HZ) ts)(ny:(x==("__debug__":χ))=υ:=by decide)(XA:(y==("__debug__":χ))=υ:=by decide)(he:aq (e::es) X.env=@c::aq es X.env:=by rfl)(j4:(dh pos @I).any (·.1)=υ:=by rfl)(A0:dS @w (θ<|.Name n p3) vg.line X.env=pure υ:=by rfl)(hf:X.fn n=ξ\/X.env.scope.names.lookup n=θ .local:=by first|show .inl @r|show .inr @r|assumption):
  PS X (.Try [.Assign [.Name n p3] @w vg] (.ExceptHandler (θ<|.Name y np) ι (Q4::HZ) zT::more) [] [] Oj) (TL X.K c i sp t ts):=by
 intro π s σ H D' I h;show wpAny_Try_except (Ds<|wpAny_Assign_Name (cZ (Pk D hr hg ha I h ny he j4) (by rintro v s1 ⟨x1,H1,I1,r1,q1⟩;show wW I1 nd hi hx r1 (λs2 I2=>mf (mf (_,H1,I2,q1))) hf) ?_) A0);intro e1 s1 hZ;ext;let(H1,s0,I0,ea,cls,H2,B,rfl,F,hm,q):=hZ;let(a0,hfl):=F.U7;ext;have Ph:=hfl;rw[b.Gs]at Ph;have NP:=I.ok.frames;rw[b.Gs]at NP;show wpAny_looks_onW NP b.fr Ph λh4 f4 sm4=>wpAny_landsW f4 λh5 f5 sm5=>?_;rw[<-b.Gs]at f5;have I5:Inv X π σ H2 {s1 with heap:=h5}:=F.inv I0 f5.1 (sm4.trans sm5);let(o5,c5,p5):=F.pinned I0 b f5;have LT:PySem.W.Looks ⇑X h5 (typeOf<|.ref ea) cls:=by
  rw[<-c5];show(PySem.W.Looks.ld p5.1).andThen .now
 show wpAny_handleBy_cons (codeAny_handlers_test<|rH (X:=X.rS ea o5) (I5.rS p5) hgy hy ((PySem.W.exm_one I5.vd LT hm).here ?_) XA) @ar;change codeAny _ _ _ _ _;show codeAny_handlers_suite (lands_againW f5 λh6 f6 sm6=>?_);have I6:Inv X π σ H2 {s1 with heap:=h6}:=F.inv I0 f6.1 ((sm4.trans sm5).trans sm6);let(o6,c6,p6):=F.pinned I0 b f6;show cZ (hs ea o6 π {s1 with heap:=h6} σ H2 D' (I6.rS p6) q) (λf s2 z=>z.uncaught I.ok) λ_ _ z=>z.elim
end
section
variable {X:Cx}{ρ:?L Sl}{e:bR}{es:?L bR}{rs:?L Sl}{pos p p2 p3:Pos}{Q:Out->?P}{rest:?L cz}
variable{more:?L ExceptHandler}{x y:χ}{i:?N}{ps:?L χ}{Rl:?L Sl->Sl ⊕ af->?P}{Q4:cz}{HZ:?L cz}{vg np zT Oj:Pos}
def BJ{k:?N}{n:χ}{c:ai}{o:Sl ⊕ af}(b:X.Body)(D:nS X.prog X.w X.K X.mg X.base k x ps (oI X.K Rl))(hr:gp k X.A)(ha:VA X.N5 ρ (e::es) rs)(h:Rl (rs.map Sl.arg) o)(hy:X.mg y=θ c)(nd:X.N.Nodup)(hi:uf n X.N 0=θ i)(hx:Loc X.env.scope n)(ho:∀r,o = .inl r->∃d,r = .d d/\VS X rest (ρ.set i<|.d d) Q)(hC:∀C,o = .inr C->oN X.K @Y c=θ ξ)(hs:∀ea oe,(∃C,o = .inr C)->VS (X.rS ea oe) (Q4::HZ) ρ (Bj X rest Q))(hg:Gl X x:=by rfl)(hgy:Gl X y:=by rfl)(ny:(x==("__debug__":χ))=υ:=by decide)(XA:(y==("__debug__":χ))=υ:=by decide)(he:aq (e::es) X.env=@c::aq es X.env:=by rfl)(j4:(dh pos @I).any (·.1)=υ:=by rfl)(A0:dS @w (θ<|.Name n p3) vg.line X.env=pure υ:=by rfl)(hf:X.fn n=ξ\/X.env.scope.names.lookup n=θ .local:=by first|show .inl @r|show .inr @r|assumption):
  VS X (.Try [.Assign [.Name n p3] @w vg] (.ExceptHandler (θ<|.Name y np) ι (Q4::HZ) zT::more) [] [] Oj::rest) ρ Q:=
 qg (Ke (ts:=λD σ H=>(∃C,o = .inr C)/\tRS X.K ρ (Bj X rest Q) D σ H) b D hr hg ha hgy hy nd (iQ hi) hx (λea oe=>by rintro π s σ H D I ⟨z,q⟩;show hs ea oe z π s σ H D I q) ny XA he j4 A0 hf) λH0 hs D σ H er l=>((H0,hs,er),λvs H1 s1 r1=>(rs.map Sl.arg,o,r1.arg,h,λr z v H2 s2 r2=>by
  let(d,rfl,kk):=ho r z
  show l.nx _ _ (_,kk,(er.grow @H).Bg r2),λC z H2 s2=>(hC C z,(C,z),H0,hs,er.grow @H,l)))
end
end _L
namespace _W
open _L PyProof.Rows
abbrev zG(c:?I):?N:=(c * 48271 % 1109 % 4).toNat
def Q5(c:?I):c * 48271 % 1109 % 4=(zG c:?I):=by unfold zG;omega
def Q6(c:?I):zG c<4:=by unfold zG;omega
abbrev Me(c:?I):?L ?I:=[0,-1,c * 48271 % 1103 % 19 - 9,1000000000000000000000 + c * 48271 % 1097 % 5]
abbrev Ia(c:?I):?I:=(Me c).getD (zG c) 0
def some_at(c:?I):vy ((Me c).map vM) (zG c:?I)=θ (.int<|Ia c):=by
 have h:zG c<(Me c).length:=Q6 c;show ie ?_;rw[aE,ag h];unfold Ia;rw[pS,ag h];rfl
abbrev BK(n:?I):ak:=gz (.add (.name "a")<|.num n)
abbrev nW(n:?I):?L ak:=[.tuple [.str IK,.bool ξ],.tuple [.str Lk,.int (1 - n)],.tuple [.str IK,.int n]]++[.tuple [.str Lk,.list [.int 3,.int n]],.tuple [.str Td,.tuple [.str "fun",.str "a",BK n,.list []]]]
def sr(n:?I):(gR<|tE n).reverse=nW n:=by simp[nW,tE,gR,outD,iC,BK]
def BL(n:?I):(PyData.list<|nW n).canLay0=ξ:=by simp[nW,BK,gz,hV,iz];symm
def Kf(n:?I):(PyData.list<|nW n).depth<=20:=by simp[nW,BK,gz,wV,sT]
def Kg(n:?I):hZ (.list<|nW n) (.list<|nW n)=ξ:=by simp[nW,BK,gz,hZ,mR]
def evX(n:?I):Ev (tE n) (.name IK) 1 (θ<|.int n):=.name (by unfold tE;rw[Kb @y,Kb @y,get_eq])
def evA(n:?I):Ev (tE n) (.name Lk) 1 (θ<|.chain [.int 3,.int n]):=.name (by unfold tE;rw[Kb @y,get_eq])
def evB(n:?I):Ev (tE n) (.call (.name Td)<|.name IK) 6 (θ<|.int<|n + n):=
 .call (k:=3) (.name (by unfold tE;rw[get_eq])) (evX n) (.add (.name get_eq) .num)
abbrev XQ:?L Sl->Sl->?P:=λas r=>∃i:?I,as=[.d @T]/\r = .d (.bool ξ)
abbrev Q7:?L Sl->Sl->?P:=λas r=>∃c:?I,as=[.d (.int c)]/\r = .d (.int<|Ia c)
abbrev FV:?L Sl->Sl->?P:=λas r=>∃n:?I,as=[.d (.int n)]/\r = .o (nW n)
abbrev Mf:?L Sl->Sl->?P:=λas r=>∃n:?I,as=[.d (.int n)]/\r = .d (.bool ξ)
abbrev Q8:?L Sl->Sl->?P:=λas r=>∃k:Kd,as=[.d (eM k)]/\vD k=ξ/\bG k<=6/\r = .d (outD<|sv k)
abbrev VL:?L Sl->Sl->?P:=λas r=>∃(v:MV)(k:Kd),as=[.d (outD v),.d (eM k)]/\BG v k/\r = .d (.bool ξ)
abbrev Mh:?L Sl->Sl->?P:=λas r=>∃t:Tm,as=[.d (py<|ex t)]/\Dl t/\t.size<=200000/\nc (tD t)=υ/\r = .d (.bool ξ)
abbrev Q9:Kd->?N
 |.to _ m=>Q9 m+1
 |.list k=>Q9 k
 |_=>0
def XR(k:Kd):2 * Q9 k+1<=bG k:=by
 induction k with
 |to a b _ ih=>
  have:1<=bG a:=by cases a<;>simp[bG]
  simp only[Q9,bG];omega
 |list k ih=>simp only[Q9,bG];omega
 |num=>simp[Q9,bG]
 |truth=>simp[Q9,bG]
abbrev Kh:Kd->?N
 |.to _ m=>Kh m+1
 |.list k=>1000 * Kh k+1
 |_=>1
abbrev Mi:Kd->?N
 |.to _ m=>Mi m+1
 |.list k=>1000 + Mi k
 |_=>1
def XS(k:Kd):Mi k<=1000 * bG k:=by
 induction k with
 |to a b _ ih=>simp only[Mi,bG];omega
 |list k ih=>simp only[Mi,bG];omega
 |num=>simp[Mi,bG]
 |truth=>simp[Mi,bG]
structure Due(q:MV×Kd):?P where
 XT:∃R M,zS q.1 q.2 R M/\R + Q9 q.2 * 1020<=16300000/\M + Q9 q.2 * 2<=900
 ps:AD q.2=ξ
 kz:bG q.2<=1000
abbrev prK(q:MV×Kd):ak:=.tuple [outD q.1,eM q.2]
abbrev zU:?L (MV×Kd)->?N
 |[]=>0
 |q::r=>Kh q.2 + zU r
def BM(a b:?L (MV×Kd)):zU (a++b)=zU a + zU b:=by
 induction a with
 |nil=>simp[zU]
 |cons q r ih=>simp only[df,zU,ih];omega
abbrev ZZ(td:?L (MV×Kd)):?P:=∀A q C,td=A++q::C->A.length + Mi q.2<=1000000
def ZZ.push{td N:?L (MV×Kd)}{p:MV×Kd}{m:?N}(h:ZZ (td++[p]))(hX:∀q∈N,Mi q.2<=m)(hm:N.length + m<=Mi p.2):ZZ (td++N):=by
 intro A q C e;have hp:=h td p [] @s;rcases Dx.mp e with⟨A',rfl,e2⟩|⟨C',e1,e2⟩
 .have:=hX q (by rw[e2];simp);have hl:A'.length+1<=N.length:=by rw[e2];simp
  rw[aH];omega
 .cases C' with
  |nil=>
   rw[bP]at e1;rw[fN]at e2;have:=hX q (by rw[<-e2];simp);have hl:1<=N.length:=by rw[<-e2];simp
   rw[<-e1];omega
  |cons q' C'=>
   rw[df]at e2;cases e2;show h A q (C'++[p]) (by rw[e1];simp)
abbrev Mj:?L Sl->Sl->?P:=λas r=>∃(v:MV)(k:Kd)(n:?N),as=[.d (outD v),.d<|eM k,.d (.int (n:?I))]/\Due (v,k,)/\n<=100000/\r = .d (.bool ξ)
inductive su:Tm->Tm->?P where
 |ok {e:Tm} {k:Kd} (h:ck ft e = .ok k):su e e
 |step {e e':Tm} {r:?N} {pl:?L ?N} {d f:?O Kd} (h:ck ft e = .bad r pl d f) (t:su (iD e pl<|oH d f) e'):su e e'
structure Sq(e0 e:Tm)(i:?N):?P where
 mg:Mg (6 * e0.size+2) e
 sz:e.size<=e0.size + i * (6 * e0.size+2)
 sk:∃s,s<=e0.size/\Sk (6 * e0.size+2) s e
 fr:far (ck ft e) + i<=2 * e0.size
abbrev Ib:?L Sl->Sl->?P:=λas r=>∃e0 e:Tm,as=[.d (py<|ex e0),.l (ft.map qi)]/\Vg e0/\Sk (6 * e0.size+2) e0.size e0/\e0.size<=101/\su e0 e/\r = .d (py<|ex e)
variable{e0:Tm}
def Sq.zero(h:Vg e0)(hs:Sk (6 * e0.size+2) e0.size e0):Sq e0 e0 0:=by
 show(h.mg @E,by omega,(_,aj _,hs),?_);unfold far;cases hc:ck ft e0 with
 |ok k=>simp
 |bad r pl d f=>have:=yC hc;simp only;omega
variable{e:Tm}{i:?N}{pl:?L ?N}
def Sq.next{r:?N}{d f:?O Kd}(hm:Sq e0 e i)(hc:ck ft e = .bad r pl d f):Sq e0 (iD e pl<|oH d f) @X:=by
 have zT:=e0.size_pos;have hW:8<=6 * e0.size+2:=by omega
 ext;let(m1,m2,m3,(t,m4),m5,m6):=LF hW hm.mg o8 hc;let(s,s1,s2):=hm.sk;let(n',l',q):=Ud s2 Mb hc m5 @o;ext;have hle:=Nk e hm.mg.ZR ft r pl d f hc;have hrp:=yC hc;have NN:=xy pl;have ai1:=hm.fr;rw[hc]at ai1;have aq9:2 * r - st pl + i<=2 * e0.size:=ai1;show(m1,?_,(n',by omega,q),?_)
 .have:=hm.sz;rw[Nat.succ_mul];omega
 .unfold J5 at hle;unfold far;cases qT:ck ft (iD e pl<|oH d f)with
  |ok k=>
   simp only;omega
  |bad r2 Tv d2 f2=>rw[qT]at hle;simp only at hle ⊢;omega
def Ez{e0:Tm}:∀(n:?N){e:Tm}{i:?N},Sq e0 e i->2 * e0.size - i<=n->∃e',su e e'/\∃k j,ck ft e' = .ok k/\Sq e0 e' j
 |n,e,i,hm,hn=>by
  cases hc:ck ft e with
  |ok k=>show(e,.ok hc,k,i,hc,hm)
  |bad r pl d f=>
   have hm2:=hm.next hc;have hf:=hm.fr;rw[hc]at hf;have hrp:=yC hc;have NN:=xy pl;have hf':2 * r - st pl + i<=2 * e0.size:=hf;cases n with
   |zero=>omega
   |succ n=>
    let(e',h1,h2):=Ez n hm2 @o;show(e',.step hc h1,h2)
def su.inv{e':Tm}(h:su e e'):(∃k,_W.ck ft e = .ok k/\e'=e)\/∃r pl d f,_W.ck ft e = .bad r pl d f/\su (iD e pl<|oH d f) e':=by
 cases h with
 |ok h=>show .inl (_,h,@r)
 |step h t=>show .inr (_,_,_,_,h,t)
def EA:∀xs:?L MV,iC xs=xs.map outD
 |[]=>by rw[iC];rfl
 |x::xs=>by rw[iC,EA xs];rfl
variable{b:Lb}{o:?L Tm}
def XU(ha:↑o=ar b)(hb:(Fp b).1≠"call")(h:nc (tD @R)=υ):∃v∈o,nc (tD v)=υ:=by
 rw[jU]at h;cases b with
 |call=>show ?A @r hb
 |num i=>simp[oT,pq,oB,oS,nc]at h
 |truth i=>simp[oT,pq,oB,oS,nc]at h
 |name i=>simp[oT,pq,oB,oS,nc]at h
 |nil i=>simp[oT,pq,oB,oS,nc]at h
 |fn x k=>let(a,rfl):=FR ha;simp only[fT,oT,pq,oB,oS,nc]at h;show(a,by simp,h)
 |add=>let(a,c,rfl):=pw ha;simp only[fT,oT,pq,oB,oS,nc,jH]at h;show h.elim (λh=>(a,by simp,h)) (λh=>(c,by simp,h))
 |less=>let(a,c,rfl):=pw ha;simp only[fT,oT,pq,oB,oS,nc,jH]at h;show h.elim (λh=>(a,by simp,h)) (λh=>(c,by simp,h))
 |front=>let(a,c,rfl):=pw ha;simp only[fT,oT,pq,oB,oS,nc,jH]at h;show h.elim (λh=>(a,by simp,h)) (λh=>(c,by simp,h))
 |yp=>let(a,c,d,rfl):=Dp ha;simp only[fT,oT,pq,oB,oS,nc,jH]at h;show h.elim (λh=>h.elim (λh=>(a,by simp,h)) (λh=>(c,by simp,h))) (λh=>(d,by simp,h))
 |case k x y=>let(a,c,d,rfl):=Dp ha;simp only[fT,oT,pq,oB,oS,nc,jH]at h;show h.elim (λh=>h.elim (λh=>(a,by simp,h)) (λh=>(c,by simp,h))) (λh=>(d,by simp,h))
variable{xs:?L MV}{k:Kd}
def Due.mem(h:Due (.chain xs,.list k,)):↑xs<=900/\∀x∈xs,Due (x,k,):=by
 let(R,M,hf,h1,h2):=h.XT;simp only[Q9]at h1 h2;let(m1,m2):=hf.mem;have hk:=h.kz;simp only[bG]at hk;show(by omega,λx hx=>((R,M,m2 x hx,h1,h2),h.ps,by simp only;omega))
variable{x:χ}{ρ:MR}{m:Kd}
def Due.app{b:MT}{a:Kd}(h:Due (.dM x b ρ,.to a m,))(n:?N):vD a=ξ/\bG a<=6/\∃r,Ends ([.gY b ((x,sv a,)::ρ)],[],n) r/\(r = .oW\/∃v,r = .val v/\Due (v,m,)/\v.nd<16700000):=by
 ext;let(R,M,hf,h1,h2):=h.XT;have hp:=h.ps;simp only[AD,aZ,decide_eq_true_eq]at hp;have hk:=h.kz;simp only[bG]at hk;simp only[Q9]at h1 h2;let(r,g1,g2):=Q2 hf (Ue hp.1.1 hp.1.2) n;ext;show(hp.1.1,hp.1.2,r,g1,g2.imp id (by rintro ⟨v,e,f⟩;show (v,e,((_,_,f,by simp only;omega,by simp only;omega),hp.2,by simp only;omega),f.nd @o @o)))
mutual
theorem Sk.wide{W W':?N}(hW:W<=W'):∀{n:?N}{t:Tm},Sk W n t->Sk W' n t
 |_,_,.tq k h p=>.tq k (bD h hW) p
 |_,_,.fa=>.fa
 |_,_,.node ha hn hs=>.node ha hn (hs.wide hW)
theorem L8.wide{W W':?N}(hW:W<=W'):∀{n:?N}{o:?L Tm},L8 W n o->L8 W' n o
 |_,_,.nil=>.nil
 |_,_,.cons h r=>.cons (h.wide hW) (r.wide hW)
end
def ai2(ns:?L ?I):∃cs:?L ?I,sZ (ns.map V.int) (θ 1) (θ 21)=cs.map V.int/\↑cs<=20:=by
 unfold sZ;show((ns.drop<|_H.lN (ns.map V.int).length 0<|θ 1).take (_H.lN (ns.map V.int).length (ns.map V.int).length (θ 21) - _H.lN (ns.map V.int).length 0 (θ 1)),by rw[List.map_take,List.map_drop],?_);rw[fY,zJ,show(1:?I)=((1:?N):?I)from @r,show(21:?I)=((21:?N):?I)from @r,_H.w8,_H.w8];rw[aP];omega
abbrev top(i:?N):cz:=PySem.Challenge.pw_wellkind_k12_whole_never_stuck.main.body.getD i (.Pass (0,0,0,0))
noncomputable abbrev jw:cz:=inClass (top 6) 0
noncomputable abbrev iw:cz:=inClass (top 7) 0
noncomputable abbrev jx:cz:=inClass (top 8) 0
noncomputable abbrev jy:cz:=inClass (top 9) 0
noncomputable abbrev BN:cz:=top 10
noncomputable abbrev jV:cz:=top 11
noncomputable abbrev m7:cz:=top 12
noncomputable abbrev yN:cz:=top 13
noncomputable abbrev pA:cz:=top 14
noncomputable abbrev qA:cz:=top 15
noncomputable abbrev pB:cz:=top 16
noncomputable abbrev jW:cz:=top 17
noncomputable abbrev lB:cz:=top 18
noncomputable abbrev Ki:cz:=top 22
noncomputable abbrev wb:cz:=top 23
noncomputable abbrev qB:cz:=top 24
noncomputable abbrev qC:cz:=top 25
noncomputable abbrev uy:cz:=top 26
noncomputable abbrev jX:cz:=top 27
noncomputable abbrev rj:cz:=top 28
noncomputable abbrev yO:cz:=top 29
noncomputable abbrev yP:cz:=top 30
noncomputable abbrev nX:cz:=top 31
noncomputable abbrev uz:cz:=top 32
noncomputable abbrev uA:cz:=top 33
noncomputable abbrev uB:cz:=top 35
noncomputable abbrev BO:cz:=top 39
noncomputable abbrev wc:cz:=top 40
noncomputable abbrev mP:cz:=top 41
noncomputable abbrev je:cz:=top 42
noncomputable abbrev k9:cz:=top 43
noncomputable abbrev gE:cz:=top 44
noncomputable abbrev l7:cz:=top 45
noncomputable abbrev lg:cz:=top 46
noncomputable abbrev sx:cz:=top 47
noncomputable abbrev oJ:cz:=top 49
noncomputable abbrev yQ:cz:=top 50
noncomputable abbrev sD:cz:=top 51
noncomputable abbrev uC:cz:=top 52
noncomputable abbrev sE:cz:=top 53
noncomputable abbrev nY:cz:=top 54
noncomputable abbrev sF:cz:=top 55
noncomputable abbrev nZ:cz:=top 56
noncomputable abbrev uD:cz:=top 57
noncomputable abbrev l8:cz:=top 58
noncomputable abbrev kQ:cz:=top 59
noncomputable abbrev wg:cz:=top 60
noncomputable abbrev l9:cz:=top 61
noncomputable abbrev sG:cz:=top 62
noncomputable abbrev ql:cz:=top 63
noncomputable abbrev lC:cz:=top 64
noncomputable abbrev lD:cz:=top 65
noncomputable abbrev jf:cz:=top 66
noncomputable abbrev iU:cz:=top 67
noncomputable abbrev uE:cz:=top 68
noncomputable abbrev sH:cz:=top 69
noncomputable abbrev sI:cz:=top 70
noncomputable abbrev qD:cz:=top 71
noncomputable abbrev uF:cz:=top 72
section
variable {P:bu}{w:bU}{K:aa}{mg:χ->?O ai}{base:cD}
seal VE VT VW VD VA VO VS VI VG PE PT PA PS vP PI NR MQ
theorem Ic:bO ["_law_found"] ["_law_found"] (az oJ):=@a
variable{f:af}{fd:aV}
def Ra(F:iP K "_law_whole" "_law_whole" oJ f fd)(B:Plain mg):c8 P w K mg base kD 1 f fd ["_law_found"] Ll:=by
 show F.ok Ic @qc @q
 .let(i,rfl,_):=h;rfl
 let(i,rfl,q):=h;show(_,bS<|dw<|Ji (qV @r B.isinstance @r B.int gL @Z)<|N3<|N4<|qV @r B.isinstance @r B.bool iR @Z,?_);show(_,@r,_,_,_,ξ,@r,.of @T,@r,ξ,@r,?_);show rO ?_;show(_,@r,_,_,_,υ,@r,.of @T,xo K,υ,@r,q)
def BP:bO ["_law_num","_law_rows"] [] (az sD):=@a
def Rb(F:iP K "_law_kinds" "_law_kinds" sD f fd):c8 P w K mg base kD 1 f fd [] (Fb K):=by
 show F.ok BP @qc @q
 .let(rfl,_):=h;rfl
 let(rfl,q):=h
 show(_,aK (cV (i:=0) BP.nd @r @A lS)
  (aK (cV (i:=1) BP.nd @r @A xl)
  (aK (gC<|ou bc cq cu gX (pv 1)<|ax lS bh)
  (bS<|dw<|nj OA (pv 1) xl))),?_)
 show(_,dz<|bo h9 c9,λn H1 s1 hn=>?_)
 show(_,bo (eX 0 @r hn) (bo (dz<|bo h9<|bo (eX 0 @r hn) c9) (bo (dz<|bo h9<|bo (eX 0 @r hn)<|bo (eX 0 @r hn) c9) (bo (dz<|bo h9 c9)
  (bo (dz<|bo h9<|bo (dz<|bo h9<|bo (eX 0 @r hn) c9) c9) c9)))),by decide,λr H2 vs nr s2 xJ JS=>?_)
 show(_,@r,.inl (@r,_,gF.of xJ),_,dz<|bo h9<|bo (dz<|bo h9<|bo (eX 0 @r<|Rep.mono @Q _ _ hn)<|bo (eX 0 @r<|Rep.mono @Q _ _ hn) c9) c9,λv3 H3 s3 VM=>?_);have Z0:=s3 _ _ xJ;have l2:↑vs=5:=by rw[JS.length];rfl
 show(r,vs,v3,@r,@r,Z0,by rw[l2];show lF @d,?_);have t3:bC K H3 (upd H3 r<|.lst<|vs++[v3]):=(SameBut.upd _).tup Z0;have hn4:=Rep.mono t3 _ _ (Rep.mono (bC.of_same s3) _ _<|Rep.mono @Q _ _ hn);show(_,@r,_,bo (dz<|bo h9<|bo (eX 0 @r hn4)<|bo (dz<|bo h9<|bo (eX 0 @r hn4)<|bo (eX 0 @r hn4) c9) c9) c9,by decide,λr5 H5 vs5 n5 s5 hr5 rp5=>?_);have l5:↑vs5=1:=by rw[rp5.length];rfl
 show(r,r5,vs++[v3],vs5,@r,@r,s5 _ _ aA,hr5,by rw[aH,ik,l2,l5];show fe (lF @d),λp6 n6=>?_);have s36:bC K H3 H5:=t3.trans (bC.of_same s5);have s56:=bt n6 (.lst<|(vs++[v3])++vs5);have nr1:H r=ι:=s1.free nr;show q p6 _ _ (λb o hb=>?_) ?_ aA ?_
 .have h1:=s1 _ _ hb;have h3:=s3 _ _ (s2 _ _ h1);have Ec:b≠r:=bQ hb nr1;show s56 _ _ (s5 _ _ (by rw[be Ec];show h3))
 .cases hq:H p6 with
  |none=>rfl
  |some o=>
   have h1:=s1 _ _ hq;have h3:=s3 _ _ (s2 _ _ h1);have:=s5 _ _ (show(upd H3 r<|.lst<|vs++[v3]) p6=θ o by rw[be (bQ hq nr1)];show h3);rw[n6]at this;cases this
 .show bp.mono (bC.of_same s56) _ _ ?_;have a1:=bp.mono s36 _ _ (bp.mono (bC.of_same s3) _ _ JS);have a2:=Rep.mono s36 _ _ VM;show((a1.append<|.one a2).append rp5)
def FW:bO ["_law_cell","_law_way","_law_name"] ["_law_cell"] (az uC):=@a
def Uh(F:iP K "_law_leaf" "_law_leaf" uC f fd)(DK:cS P w K mg base 1 "_law_kinds" [] (Fb K)):c8 P w K mg base kD 2 f fd ["_law_cell"] (JI K):=by
 show F.ok FW @qc @q
 .let(c,rfl,_):=h;rfl
 let(c,rfl,q):=h
 show(_,aK (cV (i:=1) FW.nd @r @A<|mV @Z)
  (aK (fX (fj oq (pv 1) bV<|dP _) (bS<|dw lS) eF)
  (aK (fX (fj oq (pv 1) bV<|dP _) (bS<|dw lS) eF)
  (aK (fX (fj oq (pv 1) bV<|dP _) (bS<|dw lS) eF)
  (aK (cV (i:=2) FW.nd @r @A<|eL mS xl (mV @Z) @e)
  (bS<|dw lS))))),?_)
 show(_,@r,c,@r,_,@r,@r,_,@r,?_);show tW @qb @qb
 .show(_,dz (bo h9<|bo (dz<|bo (Hc (nj Oc (mV @Z) bV) λH1 _=>(_,@r,c,@r,_,_,@r,@r,bM.refl H1,.int _)) c9)<|bo (dz c9) c9),λv H1 s1 r1=>?_);show q v H1 _ s1 (Wf.num _) @r (by rw[ua];show r1)
 show(_,@r,@r,_,@r,?_);show tW @qb @qb
 .show(_,dz (bo h9<|bo (dz<|bo (Hc (K2 oq (mV @Z) bV<|dP _) λH1 _=>(_,@r,c,@r,@r,bM.refl H1,.bool _)) c9)<|bo (dz c9) c9),λv H1 s1 r1=>?_);show q v H1 _ s1 (Wf.truth _) @r (by rw[ua];show r1)
 show(_,@r,@r,_,@r,?_);show tW @qb @qb
 .let(kd,hk1,NQ):=A5 (xs:=nR) (mW c 1031 7) (xn c 1031 7);have hk3:kd∈nR:=aD NQ;show(_,dz (bo h9<|bo (dz<|bo (Hc (d:=eM kd) (eL mS (yo DK hr @r) (mV @Z) @e) λH1 s1=>?_) c9)<|bo (dz c9) c9),λv H1 s1 r1=>?_)
  .show(@r,λr H2 ks s2 nr xJ JS=>(_,@r,c,@r,?_));let(v,hv,rv):=JS.get (i:=(c * 48271 % 1031 % 7).toNat) (d:=eM kd) (by rw[aE,NQ];rfl);have pY:vy ks (c * 48271 % 1031 % 7)=θ v:=by
    have e:(c * 48271 % 1031 % 7)=(((c * 48271 % 1031 % 7).toNat:?N):?I):=(gQ<|mW c 1031 7).symm;rw[e];show ie hv
   show(r,ks,_,v,@r,@r,gF.of xJ,pY,s2,rv)
  .show q v H1 _ s1 (Wf.nil kd hk3) @r (by rw[ua];show r1)
 let(nm,hk1,NQ):=A5 (xs:=rR) (mW c 1013 4) (xn c 1013 4);refine⟨_,Hh,by decide,λr H2 vs nr s2 xJ JS=>(_,@r,c,@r,?_)⟩;let(v,hv,rv):=JS.get (i:=(c * 48271 % 1013 % 4).toNat) (d:=.str nm) (by rw[aE,NQ];rfl);obtain rfl:=rv.eP;have pY:vy vs (c * 48271 % 1013 % 4)=θ (.str nm):=by
  have e:(c * 48271 % 1013 % 4)=(((c * 48271 % 1013 % 4).toNat:?N):?I):=(gQ<|mW c 1013 4).symm;rw[e];show ie hv
 show(r,vs,_,_,@r,@r,gF.of xJ,pY,?_);show(_,dz<|bo h9<|bo (dz<|bo (eX 2 @r<|Rep.str nm) c9)<|bo (dz c9) c9,λv H3 s3 r3=>?_);show q v H3 _ (s2.trans s3) (Wf.name nm<|aD NQ) @r (by rw[ua];show r3)
def Rc:bO ["_law_pile","_law_cell"] ["_law_pile","_law_cell"] (az sE):=@a
def Rf(F:iP K "_law_taken" "_law_taken" sE f fd)(B:Plain mg)(DL:cS P w K mg base 2 "_law_leaf" ["_law_cell"] (JI K)):c8 P w K mg base kD 3 f fd ["_law_pile","_law_cell"] (Fc K):=by
 show F.ok Rc @qc @q
 .ext;let(p,c,es,rfl,_):=h;ext;rfl
 ext;let(p,c,es,rfl,((vs,hp,rp),wf),q):=h
 ext;show(_,aK (fX (fj Og (eW gc @r B.len gx<|ax @Z bh) bV<|dP _) (bS<|dw<|tS bc eR eU tU @Z) eF)
  (bS<|dw<|dq DL hr @r<|ax (pv 1) bh),?_)
 have hl:↑vs=↑es:=by rw[rp.length,aP]
 show(_,@r,_,_,@r,.inl<|gF.of hp,_,_,@r,@r,_,@r,?_);show tW (λc1=>?_) (λc1=>?_)
 .have zT:(0:?I)<(↑vs:?N):=?o c1;rcases gS es with e0|⟨KS,e,rfl⟩
  .subst e0;rw[hl]at zT;show ?A zT @d
  rw[bK,fh]at rp;ext;let(ws,v,rfl,VN,rv):=rp.snoc;ext;show(_,@r,.inl (@r,_,gF.of hp),p,_,v,@r,@r,hp,by simp,?_);rw[fm];have sb:SameBut p H (upd H p @ap):=SameBut.upd _;show q v _ e KS sb (wf e @s) ((ws,aA,bp.mono (sb.tup hp) _ _ VN),λx hx=>wf x (by simp[hx])) @s (by rw[e7,b9,b9];omega) (Rep.mono (sb.tup hp) _ _ rv)
 .have hz:¬(0:?I)<(↑vs:?N):=of_decide_eq_false (Bool.eq_false_iff.mpr c1);show(_,@r,c,@r,λv H1 e s1 we se re=>?_);show q v H1 e es (SameBut.of_same s1) we ((vs,s1 _ _ hp,bp.mono (bC.of_same s1) _ _ rp),wf) @E @o re
def iH:bO ["_law_pile","_law_cell","_law_way","_law_kind","_law_some","_law_name","_law_one","_law_two","_law_three","_law_marks"] ["_law_pile","_law_cell"] (az nY):=@a
def Ie(F:iP K "_law_combined" "_law_combined" nY f fd)(DK:cS P w K mg base 1 "_law_kinds" [] (Fb K))(DT:cS P w K mg base 3 "_law_taken" ["_law_pile","_law_cell"] (Fc K)):
  c8 P w K mg base kD 4 f fd ["_law_pile","_law_cell"] (A7 K):=by
 show F.ok iH @qc @q
 .ext;let(p,c,es,rfl,_):=h;ext;rfl
 ext;let(p,c,es,rfl,PL,q):=h
 ext;show(_,aK (cV (i:=2) iH.nd @r @A<|nj Jl bV<|mV<|pv 1)
  (aK (cV (i:=3) iH.nd @r @A<|eL mS (yo DK @C @r) (mV<|pv 1) @e)
  (aK (cV (i:=4) iH.nd @r @A xl)
  (aK (cV (i:=5) iH.nd @r @A<|eL mS (pv 4) (mV<|pv 1) @e)
  (aK (cV (i:=6) iH.nd @r @A<|dq DT hr @r<|ax @Z<|ax (nj Ac (pv 1) bV) bh)
  (aK (fX (fj GU (pv 2) bV<|dP _) (bS<|dw lS) eF)
  (aK (cV (i:=7) iH.nd @r @A<|dq DT hr @r<|ax @Z<|ax (nj Ac (pv 1) bV) bh)
  (aK @au
  (aK @au
  (aK @au
  (aK @au
  (aK (cV (i:=8) iH.nd @r @A<|dq DT hr @r<|ax @Z<|ax (nj Ac (pv 1) bV) bh)
  (aK @au
  (aK (cV (i:=9) iH.nd @r @A<|h8<|ax (pv 3)<|ax (pv 5)<|ax (eL mS (pv 4) (mV<|pv 1) @e) bh)
  (bS<|dw lS)))))))))))))),?_)
 let((vs0,hp0,rp0),wf0):=id PL;show(_,@r,c,@r,_,_,@r,@r,?_);generalize hw:(4 + c * 48271 % 1033 % 8:?I)=way;let(kd,hk1,NQ):=A5 (xs:=nR) (mW c 1039 7) (xn c 1039 7);have Z1:kd∈nR:=aD NQ;show(@r,λr H1 ks s1 nr hr1 VN=>(_,@r,c,@r,?_));let(kv,hkv,rkv):=VN.get (i:=(c * 48271 % 1039 % 7).toNat) (d:=eM kd) (by rw[aE,NQ];rfl);show(r,ks,_,kv,@r,@r,gF.of hr1,by rw[<-gQ (mW c 1039 7)];show ie hkv,?_);let(nm,hn1,NO):=A5 (xs:=rR) (mW c 1049 4) (xn c 1049 4);have hnm:nm∈rR:=aD NO;refine⟨_,Hh,by decide,λr2 H2 ns2 nr2 s2 xJ JS=>?_⟩;let(nv,hnv,rnv):=JS.get (i:=(c * 48271 % 1049 % 4).toNat) (d:=.str nm) (by rw[aE,NO];rfl);obtain rfl:=rnv.eP;show(_,@r,_,@r,c,@r,r2,ns2,_,_,@r,@r,gF.of xJ,by rw[<-gQ (mW c 1049 4)];show ie hnv,?_);have Ui:bM H H2:=s1.trans s2;have PL2:Hf K H2 p es:=((vs0,Ui _ _ hp0,bp.mono (bC.of_same Ui) _ _ rp0),wf0);show(_,@r,_,@r,_,_,@r,@r,(by decide,by decide),p,_,es,@r,PL2,λv1 H3 e1 es1 b3 w1 P1 l1 z1 VM=>?_);let((vs1,Qb,rq1),wf1):=id P1;have t23:bC K H2 H3:=b3.tup (Ui _ _ hp0);have rkd:Rep K H3 (eM kd) kv:=Rep.mono t23 _ _ (Rep.mono @Q _ _ rkv);have B03:SameBut p H H3:=(SameBut.of_same Ui).trans b3;show(_,@r,_,_,@r,@r,_,@r,?_);show tW @qb @qb
 .show(_,dz<|bo h9<|bo (dz<|bo (eX 5 @r<|Rep.str nm)<|bo (eX 3 @r rkd) c9)<|bo (dz<|bo (eX 6 @r VM) c9) c9,λv H4 s4 r4=>?_);show q v H4 _ es1 (B03.trans<|SameBut.of_same s4) (Wf.fn nm kd hnm Z1 w1) ((vs1,s4 _ _ Qb,bp.mono (bC.of_same s4) _ _ rq1),wf1) l1 ?_ (by rw[ua];show r4);rw[nB];change b9 es1 + (b9 [e1]+1)<=_;simp only[b9];omega
 show(_,@r,_,@r,_,_,@r,@r,(by decide,by decide),p,_,es1,@r,P1,λv2 H4 e2 VQ b4 w2 P2 l2 z2 XW=>?_);let((vs2,EX,rq2),wf2):=id P2;have t34:bC K H3 H4:=b4.tup Qb;have Rh:Rep K H4 (py e1) v1:=Rep.mono t34 _ _ VM;have B04:SameBut p H H4:=B03.trans b4;have two:∀{wd:χ}{v:V}{H5:Hp},bM H4 H5->Wf (nd wd [] [e2,e1])->Rep K H5 (.tuple [.str wd,.tuple [],.tuple [py e2,py e1]]) v->Q v H5:=λ{wd v H5} s5 wfe r5=>by
  show q v H5 _ VQ (B04.trans<|SameBut.of_same s5) wfe ((vs2,s5 _ _ EX,bp.mono (bC.of_same s5) _ _ rq2),wf2) (bD l2 l1) ?_ (by rw[ua];show r5);rw[nB];change b9 VQ + (b9 [e2,e1]+1)<=_;simp only[b9];omega
 show(_,@r,@r,_,@r,tW @qb @qb)
 .show(_,dz @ah,λv H5 s5 r5=>two s5 (Wf.add w2 w1) r5)
 show(_,@r,@r,_,@r,tW @qb @qb)
 .show(_,dz @ah,λv H5 s5 r5=>two s5 (Wf.less w2 w1) r5)
 show(_,@r,@r,_,@r,tW @qb @qb)
 .show(_,dz @ah,λv H5 s5 r5=>two s5 (Wf.front w2 w1) r5)
 show(_,@r,@r,_,@r,tW @qb @qb)
 .show(_,dz @ah,λv H5 s5 r5=>two s5 (Wf.call w2 w1) r5)
 show(_,@r,_,@r,_,_,@r,@r,(by decide,by decide),p,_,VQ,@r,P2,λv3 H5 e3 es3 b5 w3 P3 l3 z3 rp5=>?_);let((vs3,XX,rq3),wf3):=id P3;have t45:bC K H4 H5:=b5.tup EX;have ai3:Rep K H5 (py e1) v1:=Rep.mono t45 _ _ Rh;have ai4:Rep K H5 (py e2) v2:=Rep.mono t45 _ _ XW;have ap8:Rep K H5 (eM kd) kv:=Rep.mono t45 _ _ (Rep.mono t34 _ _ rkd);have B05:SameBut p H H5:=B04.trans b5;have three:∀{wd:χ}{ms:?L ak}{v:V}{H6:Hp},SameBut p H5 H6->bM H5 H6->Wf (nd wd ms [e3,e2,e1])->Rep K H6 (.tuple [.str wd,.tuple ms,.tuple [py e3,py e2,py e1]]) v->Q v H6:=λ{wd ms v H6} b6 s6 wfe r6=>by
  show q v H6 _ es3 (B05.trans b6) wfe ((vs3,s6 _ _ XX,bp.mono (bC.of_same s6) _ _ rq3),wf3) (bD l3<|bD l2 l1) ?_ (by rw[ua];show r6);rw[nB];change b9 es3 + (b9 [e3,e2,e1]+1)<=_;simp only[b9];omega
 show(_,@r,@r,_,@r,tW @qb @qb)
 .show(_,dz<|bo h9<|bo (dz c9)<|bo (dz<|bo (eX 8 @r rp5)<|bo (eX 7 @r ai4)<|bo (eX 6 @r ai3) c9) c9,λv H6 s6 r6=>three (SameBut.of_same s6) s6 (Wf.yp w3 w2 w1) r6)
 have XY:r2≠p:=by
  intro z;have h1:=Ui _ _ hp0;have h0:=s1.free (show H1 r2=ι from nr2);rw[z,hp0]at h0;cases h0
 have hr5:H5 r2=θ (.lst ns2):=b5 _ _ XY (b4 _ _ XY<|b3 _ _ XY xJ);ext;let(nm2,hm1,hm2):=A5 (xs:=rR) (mW c 1051 4) (xn c 1051 4);let(mv,hmv,rmv):=JS.get (i:=(c * 48271 % 1051 % 4).toNat) (d:=.str nm2) (by rw[aE,hm2];rfl);obtain rfl:=rmv.eP;ext;show(_,@r,_,@r,_,@r,_,@r,c,@r,r2,ns2,_,_,@r,@r,gF.of hr5,by rw[<-gQ (mW c 1051 4)];show ie hmv,(by change 3<=au;decide),λpm nm6=>?_);have s6:=bt nm6 (.tup [kv,.str nm,.str nm2]);have rm6:Rep K (upd H5 pm<|.tup [kv,.str nm,.str nm2]) (.tuple [eM kd,.str nm,.str nm2]) (.ref pm):=.tuple (eI.of aA) (.cons (Rep.mono (bC.of_same s6) _ _ ap8)<|.cons (.str _)<|.one<|.str _)
 show(_,dz<|bo h9<|bo (eX 9 @r rm6)<|bo (dz<|bo (eX 8 @r<|Rep.mono (bC.of_same s6) _ _ rp5)<|bo (eX 7 @r<|Rep.mono (bC.of_same s6) _ _ ai4)<|bo (eX 6 @r<|Rep.mono (bC.of_same s6) _ _ ai3) c9) c9,
  λv H7 s7 r7=>three (SameBut.of_same<|s6.trans s7) (s6.trans s7) (Wf.case kd nm nm2 Z1 hnm (aD hm2) w3 w2 w1) r7)
def pC:bO ["_law_cells","_law_pile","_law_k","_law_cell","_law_made","_law_expr"] ["_law_cells"] (az sF):=@a
def NB(F:iP K "_law_drawn" "_law_drawn" sF f fd)(B:Plain mg)(DL:cS P w K mg base 2 "_law_leaf" ["_law_cell"] (JI K))(DT:cS P w K mg base 3 "_law_taken" ["_law_pile","_law_cell"] (Fc K))(DC:cS P w K mg base 4 "_law_combined" ["_law_pile","_law_cell"] (A7 K)):c8 P w K mg base kD 5 f fd ["_law_cells"] (HD K):=by
 show F.ok pC @qc @q
 .ext;let(a,ns,rfl,_):=h;ext;rfl
 ext;let(a,ns,rfl,hS,hlen,q):=h;ext;have xJ:gp 2 _:=hr.mono @d;have Z0:gp 3 _:=hr.mono @d
 show(_,aK (cV (i:=1) pC.nd @r @A<|tQ bh)
  (aK (vQ bN @r (uO @r B.range<|ax (eW gc @r B.len gx<|ax @Z bh) bh) (j0 (i:=2) pC.nd @r @A)
   (aK (cV (i:=3) pC.nd @r @A<|nj Jl (eL mS @Z (pv 2) @e)<|nj Jm bV<|pv 2)
   (bS (fX (fj GU (mV<|pv 3) bV<|dP _)
    (bS<|gC<|ou bc cq cu gX (pv 1)<|ax (dq DL xJ @r<|ax (nj Ac (pv 3) bV) bh) bh)
    (aK (cV (i:=4) pC.nd @r @A<|dq DC hr @r<|ax (pv 1)<|ax (pv 3) bh)
    (bS<|gC<|ou bc cq cu gX (pv 1)<|ax (pv 4) bh))))))
  (aK (cV (i:=5) pC.nd @r @A<|dq DT Z0 @r<|ax (pv 1)<|ax bV bh)
  (aK (ng bN (fj Og (eW gc @r B.len gx<|ax (pv 1) bh) bV<|dP _)
   (bS<|cV (i:=5) pC.nd @r @A<|h8<|ax oV<|ax (h8 bh)<|ax (h8<|ax (tS bc eR eU tU<|pv 1)<|ax (pv 5) bh) bh))
  (bS<|dw<|pv 5)))),?_)
 have hl:(ns.map V.int).length=↑ns:=aP _;show((by change 0<=au;decide),λp hp=>?_);have s0:bM H (upd H p @t):=bt hp _
 show(_,@r,_,_,@r,.inl<|s0.seq hS,_,@r,(by rw[hl];omega),(by rw[hl];omega),DJ (λi σ H1=>∃es x2 x3 x4,σ=[θ @x,θ<|.ref p,x2,x3,x4,ι]/\bM H H1/\Hf K H1 p es/\↑es<=i/\b9 es<=4 * i)
  ([],ι,ι,ι,@r,s0,(([],aA,.nil),λ_ h=>nomatch h),aj _,aj _) ?_ ?_)
 .intro i σ H1 hi hZ;ext;let(es,x2,x3,x4,rfl,s1,PL,hle,hsz):=hZ;have Gu:i<↑ns:=by simpa using hi
  let((vs,hpv,rpv),wfs):=id PL;ext;have hvl:↑vs=↑es:=by rw[rpv.length,aP]
  have ap9:↑vs<au:=by rw[hvl];show lF @o
  show(_,@r,_,@r,a,_,_,.int<|ns[i],@r,@r,s1.seq hS,?_,_,@r,_,_,@r,@r,.inl (by decide,by decide),_,_,@r,@r,?_)
  .change vy (ns.map V.int) (0 + (i:?I))=_;rw[II];show ie (by rw[aE,ag Gu];rfl)
  show(_,@r,_,@r,_,_,@r,@r,_,@r,tW @qb @qb)
  .show(_,@r,.inl (@r,_,gF.of hpv),_,@r,_,_,@r,@r,(by decide,by decide),_,@r,λv H2 e s2 we se re=>?_);have EX:=s2 _ _ hpv;show(p,vs,v,@r,@r,EX,ap9,?_);have sb:SameBut p H2 (upd H2 p<|.lst<|vs++[v]):=SameBut.upd _;show(es++[e],_,_,_,@r,lT @H sb hp,((_,aA,?_),λx hx=>?_),by rw[aH];simp;omega,by rw[e7];simp[b9];omega)
   .rw[bK];show(bp.mono (sb.tup EX) _ _<|bp.mono @Q _ _ rpv).append (.one<|Rep.mono (sb.tup EX) _ _ re)
   .rcases aW.mp hx with h|h
    .show wfs x h
    .rw[aR.mp h];show we
  .show(_,@r,_,@r,p,_,es,@r,PL,λv H2 e VQ b2 we P2 l2 z2 re=>?_);let((vs2,EX,JS),wf2):=id P2;have aq0:↑vs2=VQ.length:=by rw[JS.length,aP]
   show(_,@r,.inl (@r,_,gF.of EX),_,@r,p,vs2,v,@r,@r,EX,by rw[aq0];show lF @o,?_);have sb:SameBut p H2 (upd H2 p<|.lst<|vs2++[v]):=SameBut.upd _;show(VQ++[e],_,_,_,@r,lT s1 (b2.trans sb) hp,((_,aA,?_),λx hx=>?_),by rw[aH];simp;omega,by rw[e7];simp[b9];omega)
   .rw[bK];show(bp.mono (sb.tup EX) _ _ JS).append (.one<|Rep.mono (sb.tup EX) _ _ re)
   .rcases aW.mp hx with h|h
    .show wf2 x h
    .rw[aR.mp h];show we
 .intro σ H1 hZ;ext;let(es,x2,x3,x4,rfl,s1,PL,hle,hsz):=hZ;ext;have hn:(((ns.map V.int).length:?N):?I).toNat=↑ns:=by simp
  rw[hn]at hle hsz;show(_,@r,p,0,es,@r,PL,λv H2 e VQ b2 we P2 l2 z2 re=>?_);have hP:=PL.at_
  show(λm σ H3=>∃es e v,m=↑es/\σ=[θ @x,θ<|.ref p,x2,x3,x4,θ v]/\bM H H3/\Hf K H3 p es/\Wf e/\Rep K H3 (py e) v/\e.size + b9 es + ↑es<=5 * ↑ns+1,
   (_,VQ,e,v,@r,@r,lT s1 b2 hp,P2,we,re,by omega),?_)
  intro m σ H3 hZ;ext;let(es3,e3,v3,rfl,rfl,s3,P3,w3,r3,z3):=hZ;let((vs3,XX,VM),wf3):=id P3;ext;have aq1:↑vs3=↑es3:=by rw[VM.length,aP]
  show(_,@r,_,_,@r,.inl<|gF.of XX,_,_,@r,@r,_,@r,tW (λc1=>?_)<|λc1=>?_)
  .have zT:(0:?I)<(↑vs3:?N):=?o c1;rcases gS es3 with e0|⟨es4,e4,rfl⟩
   .subst e0;rw[aq1]at zT;show ?A zT @d
   rw[bK,fh]at VM;ext;let(ws,v4,rfl,XW,rv4):=VM.snoc
   ext;show(λfo H'=>∃es e v,es.length<(es4++[e4]).length/\fo=[θ @x,θ<|.ref p,x2,x3,x4,θ v]/\bM H H'/\Hf K H' p es/\Wf e/\Rep K H' (py e) v/\e.size + b9 es + ↑es<=5 * ↑ns+1,
    by rintro fo H' ⟨es,e,v,g1,g2,g3,g4,g5,g6,g7⟩;show (_,g1,es,e,v,@r,g2,g3,g4,g5,g6,g7),?_)
   show((by change 0<=au;decide),λp1 n1=>?_);have s4:=bt n1 (.tup []);show(_,@r,.inl (@r,_,gF.of<|s4 _ _ XX),p,_,v4,@r,@r,s4 _ _ XX,by simp,?_);rw[fm];have sb:SameBut p (upd H3 p1<|.tup []) (upd (upd H3 p1<|.tup []) p @ap):=SameBut.upd _;have tl:bC K H3 (upd (upd H3 p1<|.tup []) p @ap):=(bC.of_same s4).trans (sb.tup<|s4 _ _ XX);have Qb:eI K (upd (upd H3 p1<|.tup []) p @ap) p1 []:=(sb.tup<|s4 _ _ XX) _ _ (eI.of aA);show(_,@r,(by change 2<=au;decide),λp2 n2=>((by change 3<=au;decide),λp3 n3=>?_));have s5:=bt n2 (.tup [v4,v3]);have s6:=bt n3 (.tup [.str "add",.ref p1,.ref p2]);have tl6:=bC.of_same (K:=K) (s5.trans s6);show(es4,nd "add" [] [e4,e3],.ref p3,by simp,@r,(lT (s3.trans s4) sb hp).trans (s5.trans s6),((ws,(s5.trans s6) _ _ aA,bp.mono tl6 _ _<|bp.mono tl _ _ XW),λx hx=>wf3 x (by simp[hx])),Wf.add (wf3 e4 @s) w3,?_,?_)
   .rw[ua];show .tuple (eI.of aA) (.cons (.str _)<|.cons (.tuple (tl6 _ _ Qb) .nil)<|.one<|.tuple (bC.of_same s6 _ _<|eI.of aA)<|.cons (Rep.mono tl6 _ _<|Rep.mono tl _ _ rv4)<|.one<|Rep.mono tl6 _ _<|Rep.mono tl _ _ r3)
   .rw[e7,aH]at z3;simp only[b9,aF,iI]at z3;rw[nB];change b9 [e4,e3]+1 + b9 es4 + ↑es4<=5 * ↑ns+1;simp only[b9];omega
  .show(_,@r,?_);show q v3 H3 e3 s3 w3 @o r3
def BQ:bO ["_law_found","_law_k"] ["_law_found"] (az nZ):=@a
def Kj(F:iP K "_law_is_place" "_law_is_place" nZ f fd)(B:Plain mg)(DW:cS P w K mg base 1 "_law_whole" ["_law_found"] Ll):c8 P w K mg base kD 2 f fd ["_law_found"] (Ef K):=by
 show F.ok BQ @qc @q
 .ext;let(u,p,rfl,_):=h;ext;rfl
 ext;let(u,p,rfl,rp,q):=h
 ext;show(_,aK (fX (rJ<|nK<|qV @r B.isinstance @r B.tuple cR @Z) (bS<|dw DA) eF)
  (aK (vQ bN @r (N7 @Z) (j0 (i:=1) BQ.nd @r @A)<|bS<|fX (rJ<|nK<|dq DW hr @r<|ax (pv 1) bh) (bS<|dw DA) eF)
  (bS<|dw DA)),?_)
 let(a,rfl,hq):=Li rp;show(_,@r,_,_,_,ξ,@r,.sqT hq,@r,ξ,@r,nP ?_);show(_,@r,a,@r,(_,hq),SD (λi σ H'=>H'=H/\∃x1,σ=[θ @x,x1]) (@r,ι,@r) (λi σ H' _ h=>by let(rfl,_):=h;show hq) ?_ ?_)
 .intro i x σ H' hi hZ;ext;let(rfl,x1,rfl):=hZ;ext;rw[aE]at hi;cases hk:p[i]? with
  |none=>rw[hk]at hi;cases hi
  |some k=>
   rw[hk]at hi;have ex:x = .int (k:?I):=(bf hi).symm;subst ex;show(_,@r,_,@r,ξ,@r,nP (@r,_,@r))
 .intro σ H' hZ;ext;let(rfl,x1,rfl):=hZ;ext;show q
def rl:bO ["expr","waiting","backwards","pair","number","own"] ["expr"] (az uB):=@a
def ND(F:iP K "in_order" "in_order" uB f fd)(B:Plain mg):c8 P w K mg base kD 1 f fd ["expr"] (Hq K):=by
 show F.ok rl @qc @q
 .ext;let(v,e,rfl,_):=h;ext;rfl
 ext;let(v,e,rfl,re,hz,q):=h
 ext;show(_,aK (cV (i:=1) rl.nd @r @A<|tQ<|ax (h8<|ax (@h8 _ _ _ _ _ bh)<|ax @Z bh) bh)
  (aK (cV (i:=2) rl.nd @r @A<|tQ bh)
  (aK (ng bN (w6 (pv 1) @h)
   (aK (cV (i:=3) rl.nd @r @A<|tS bc eR eU tU<|pv 1)
   (aK (gC<|ou bc cq cu gX (pv 2)<|ax (pv 3) bh)
   (bS (vQ bN @r (OW @r B.enumerate<|ax (eL eh @an bV @e) bh)
    (EN @r<|m9 (j0 (i:=4) rl.nd @r @A)<|m9 (j0 (i:=5) rl.nd @r @A) Aa)
    (bS<|gC<|ou bc cq cu gX (pv 1)<|ax (h8<|ax (nj xk @an<|h8<|ax (pv 4) bh)<|ax (pv 5) bh) bh))))))
  (bS<|dw<|A4 @r @r B.list @r B.reversed<|ax (pv 2) bh))),?_)
 show(by change 0<=au;decide,λpa na=>(v,@r,by change 2<=au;decide,λpb nb=>(by change 1<=au;decide,λwa nw=>?_)));have sA:=bt na (.tup []);have hpa:(upd H pa<|.tup []) pa=θ (.tup []):=aA;generalize upd H pa (.tup [])=HA at sA hpa nb nw ⊢;have sB:=bt nb (.tup [.ref pa,v]);have hpb:(upd HA pb<|.tup [.ref pa,v]) pb=θ (.tup [.ref pa,v]):=aA;generalize upd HA pb (.tup [.ref pa,v])=HB at sB hpb nw ⊢;have sC:=bt nw (.lst [.ref pb]);have s1:bM H (upd HB wa<|.lst [.ref pb]):=(sA.trans sB).trans sC;have J9:(upd HB wa<|.lst [.ref pb]) wa=θ (.lst [.ref pb]):=aA;have VN:j5 K (upd HB wa<|.lst [.ref pb]) [([],e,)] [.ref pb]:=.one (pb,pa,v,@r,eI.of<|sC _ _ hpb,sC _ _<|sB _ _ hpa,Rep.mono (bC.of_same s1) _ _ re);have nwH:H wa=ι:=(sA.trans sB).free nw;generalize upd HB wa (.lst [.ref pb])=H1 at s1 J9 VN ⊢;show((by change 0<=au;decide),λb nb=>?_);have s2:=bt nb @t;have hwb:wa≠b:=bQ J9 nb;have nbH:H b=ι:=s1.free nb
 show(λm σ H2=>∃st bs ws bv x3 x4 x5,m=total st/\σ=[θ v,θ<|.ref wa,θ<|.ref b,x3,x4,x5]/\bM H H2/\H2 wa=θ @ap/\H2 b=θ (.lst bv)/\j5 K H2 st.reverse ws/\j5 K H2 bs bv/\bs++st.flatMap Dh=e.post.reverse,
  (_,[([],e,)],[],_,[],ι,ι,ι,@r,@r,s1.trans s2,s2 _ _ J9,aA,VN.ext<|Ext.of_same s2,.nil,MU e),?_)
 intro m σ H2 hZ;ext;let(st,bs,ws,bv,x3,x4,x5,rfl,rfl,sm,hw,hbv,VU,rb0,inv):=hZ;ext;have ai5:↑bs + total st=e.size:=by
  have h1:=?C IX inv;rw[aH,cP,dA]at h1;have h2:(st.flatMap Dh).length=total st:=by
   clear inv h1 VU;induction st with
   |nil=>rfl
   |cons x r ih=>rw[qM,aH,ih,ly];simp[Dh,dA]
  omega
 have WM:↑ws=↑st:=by rw[VU.1,cP]
 have hbl:↑bv=↑bs:=rb0.1;have NN:=sV st;have zq:∀{n:?N},n<=1000001->n<au:=λh=>bL h @d;show(_,@r,_,.inl (ws,gF.of hw,@r),?_);cases st with
 |nil=>
  have ew:ws=[]:=by cases ws with|nil=>rfl|cons _ _=>simp at WM
  subst ew;show nP ?_;show(_,@r,b,bv,@r,gF.of hbv,λr nr=>?_);have s3:=bt nr (.lst bv.reverse);show q r _ _ (sm.trans s3) (sm.free nr) aA (j5.ext (Ext.of_same s3) ?_);have hr:=rb0.reverse;have e1:bs=e.post.reverse:=by simpa using inv
  rw[e1,iL]at hr;show hr
 |cons x st=>
  ext;let(p,t):=x;rw[dQ]at VU;let(me,xv,rfl,rwp,rx):=VU.snoc;ext;have nonempty:(!(me++[xv]).isEmpty)=ξ:=by simp
  rw[nonempty];show rO ?_
  show(λfo H'=>∃pW bs ws bv x3 x4 x5,total pW<total ((p,t,)::st)/\fo=[θ v,θ<|.ref wa,θ<|.ref b,x3,x4,x5]/\bM H H'/\H' wa=θ @ap/\H' b=θ (.lst bv)/\j5 K H' pW.reverse ws/\j5 K H' bs bv/\bs++pW.flatMap Dh=e.post.reverse,
   (by rintro fo H' ⟨pW,bs,ws,bv,y3,y4,y5,k1,k2,k3,k4,k5,k6,k7,k8⟩;show (_,k1,pW,bs,ws,bv,y3,y4,y5,@r,k2,k3,k4,k5,k6,k7,k8)),?_)
  show(_,@r,.inl (@r,_,gF.of hw),wa,_,xv,@r,@r,hw,by simp,?_);rw[fm];have b3:SameBut wa H2 (upd H2 wa<|.lst me):=SameBut.upd _;have x3':Ext H2 (upd H2 wa<|.lst me):=Ext.write hw _;have hb3:(upd H2 wa<|.lst me) b=θ (.lst bv):=b3 _ _ (cp hwb) hbv;rw[ly]at ai5 NN;have htp:=t.size_pos;have ar3:=sV st;simp only at ai5;show(_,@r,.inl (@r,_,gF.of hb3),_,@r,b,bv,xv,@r,@r,hb3,zq @o,?_);have b4:SameBut b (upd H2 wa<|.lst me) (upd (upd H2 wa<|.lst me) b<|.lst<|bv++[xv]):=SameBut.upd _;have x4':Ext (upd H2 wa<|.lst me) (upd (upd H2 wa<|.lst me) b<|.lst<|bv++[xv]):=Ext.write hb3 _;generalize hH4:upd (upd H2 wa<|.lst me) b (.lst<|bv++[xv])=H4 at b4 x4' ⊢;have xe4:Ext H2 H4:=λc o h1 h2=>x4' c o (x3' c o h1 h2) h2;have sm4:bM H H4:=lT (lT sm b3 nwH) b4 nbH;have hw4:H4 wa=θ (.lst me):=b4 _ _ hwb aA;have hb4:H4 b=θ (.lst<|bv++[xv]):=by rw[<-hH4];show aA
  ext;let(a,pu,tv,rfl,ga,gu,VY):=rx.ext xe4;let(a1,b1,c1,ms,os,rfl,g1,g2,g3,g4,g5):=Aj VY;ext;have hol:↑os=t.own.length:=by rw[g5.length,aP]
  have htz:t.size=b9 t.own+1:=nB t;have Uj:=fM t.own;have j4:↑p<=1000000:=by
   have hm:(p,t,)∈e.post.reverse:=by rw[<-inv,qM,Lj];simp
   have:=ub (rQ e (p,t,)<|List.mem_reverse.mp hm);simp only at this;omega
  show(_,@r,a,_,_,.ref a1,@r,@r,ga,@r,a1,_,_,.ref c1,@r,@r,g1,@r,c1,os,@r,g4,OZ (xs:=os) (λi σ H5=>∃Sr x4 x5,σ=[θ v,θ<|.ref wa,θ<|.ref b,θ @x,x4,x5]/\bM H H5/\Ext H4 H5/\H5 wa=θ (.lst Sr)/\H5 b=θ (.lst<|bv++[.ref a])/\
    j5 K H5 (st.reverse++kids p 0 (t.own.take i)) Sr)
   (me,x4,x5,@r,sm4,Ext.of_same<|bM.refl _,hw4,hb4,by rw[mi,kids,bP];show rwp.ext xe4) (by rintro i σ H5 _ ⟨_,_,_,_,_,xe,_⟩;show bC.qw xe _ _ g4) ?_ ?_)
  .rintro i x σ H5 pn hi ⟨Sr,y4,y5,rfl,s5,XZ,hw5,hb5,rw5⟩ U9;have hit:i<t.own.length:=by rw[<-hol];show(ay.mp hi).1
   have GV:t.own[i]?=θ t.own[i]:=ag hit;let(xv2,hx2,rx2):=Te g5 GV;rw[hi]at hx2;cases hx2;have s6:=bt U9 (.tup [.int i,x]);have xe6:Ext H4 (upd H5 pn<|.tup [.int i,x]):=λc o h1 h2=>s6 _ _ (XZ c o h1 h2);show(pn,_,@r,eI.of aA,@r,_,_,@r,_,_,@r,@r,?_);have hw6:=s6 _ _ hw5;have hb6:=s6 _ _ hb5;generalize upd H5 pn (.tup [.int i,x])=H6 at s6 xe6 hw6 hb6 ⊢;have ga6:=bC.qw (K:=K) xe6 _ _ ga;have X0:=xe6 _ _ gu @m;have rx6:=Rep.mono (bC.qw xe6) _ _ rx2;have ar0:Sr.length=↑st + i:=by
    rw[rw5.1,aH,cP];have:∀(r:?L Ex)(k:?N),(kids p k r).length=↑r:=by
     intro r;induction r with
     |nil=>intro k;rfl
     |cons y r ih=>intro k;rw[kids,aF,aF,ih]
    rw[this,fY];omega
   have aq2:((kP p).map kV).length=↑p:=by simp[kP]
   show(_,@r,.inl (@r,_,gF.of hw6),_,@r,a,_,_,_,@r,@r,ga6,@r,_,@r,by change 1<=au;decide,λpc nc=>?_);have s7:=bt nc (.tup [.int i]);have hpc:(upd H6 pc<|.tup [.int i]) pc=θ (.tup [.int i]):=aA;generalize upd H6 pc (.tup [.int i])=H7 at s7 hpc ⊢;show Ft (eI.of<|s7 _ _ X0) hpc @s (by rw[aq2];show fe (zq @z)) λpd H8 s8 hpd=>(x,@r,by change 2<=au;decide,λpe ne=>?_);have s9:=bt ne (.tup [.ref pd,x]);have IP:(upd H8 pe<|.tup [.ref pd,x]) pe=θ (.tup [.ref pd,x]):=aA;have EB:=(s7.trans s8).trans s9;have ai6:=s9 _ _ hpd;generalize upd H8 pe (.tup [.ref pd,x])=H9 at s9 IP EB ai6 ⊢;have hw9:=EB _ _ hw6;show(wa,Sr,.ref pe,@r,@r,hw9,zq @o,?_);have bA:SameBut wa H9 (upd H9 wa<|.lst<|Sr++[.ref pe]):=SameBut.upd _;have xA:Ext H9 (upd H9 wa<|.lst<|Sr++[.ref pe]):=Ext.write hw9 _;have x5A:Ext H5 (upd H9 wa<|.lst<|Sr++[.ref pe]):=λc o h1 h2=>xA c o (EB _ _<|s6 _ _ h1) h2;show(_,_,_,@r,lT (s5.trans<|s6.trans EB) bA nwH,λc o h1 h2=>x5A c o (XZ c o h1 h2) h2,aA,bA _ _ (cp hwb)<|EB _ _ hb6,?_);have ek:kids p 0 (t.own.take @X)=kids p 0 (t.own.take i)++[(p++[i],t.own[i],)]:=by
    rw[gH,GV];change kids p 0 (t.own.take i++[t.own[i]])=_;rw[Ee,fY,Nat.min_eq_left @o];simp
   rw[ek,<-fL];show(rw5.ext x5A).append (.one (pe,pd,x,@r,eI.of<|xA _ _ IP @m,?_,Rep.mono ((bC.of_same EB).trans (bC.qw xA)) _ _ rx6));show xA _ _ ?_ @m;change H9 pd=θ (.tup<|(kP<|p++[i]).map kV);rw[ai6];simp[kP,kV]
  .intro σ H5 hZ;ext;let(Sr,y4,y5,rfl,s5,XZ,hw5,hb5,rw5):=hZ;ext;rw[jm @o]at rw5;show((kids p 0 t.own).reverse++st,bs++[(p,t,)],Sr,_,_,_,_,?_,@r,s5,hw5,hb5,?_,?_,?_)
   .rw[xm,Di,A6,ly];simp only;omega
   .rw[iY,iL];show rw5
   .show(rb0.ext<|λc o h1 h2=>XZ c o (xe4 c o h1 h2) h2).append (.one (a,pu,_,@r,bC.qw XZ _ _ ga,XZ _ _ gu @m,Rep.mono (bC.qw XZ) _ _ VY))
   .rw[qM,Lj]at inv;rw[List.flatMap_append,fL,<-inv];simp
def BR:bO ["first","second","waiting","pair"] ["first","second"] (az sx):=@a
variable{H:Hp}
def Ml{v:V}(h:Rep K H (eM k) v):∃a vs,v = .ref a/\eI K H a (.str (kw k)::vs)/\bp K H ((lV k).map eM) vs:=by
 rw[Xc]at h;let(a,ws,rfl,hq,rp):=h.gf;let(v1,r,rfl,e1,e2):=rp.split;obtain rfl:=e1.eP;show(a,r,@r,hq,e2)
def Kk{x:Kd×Kd}{v:V}(h:Rep K H (Lo x) v):∃a u w,v = .ref a/\eI K H a [u,w]/\Rep K H (eM x.1) u/\Rep K H (eM x.2) w:=by
 let(a,vs,rfl,hq,rp):=Rep.gf h;let(v1,r1,rfl,e1,rp):=rp.split;let(v2,r2,rfl,e2,rp):=rp.split;rw[bp]at rp;subst rp;show(a,v1,v2,@r,hq,e1,e2)
def ix0(x:V)(l:?L V):vy (x::l) 0=θ x:=(show vy (x::l) ((0:?N):?I)=θ x from ie @r)
def ai7(x:V)(vs:?L V):sZ (x::vs) (θ 1) ι=vs:=by
 unfold sZ;rw[show(1:?I)=((1:?N):?I)from @r,_H.w8,_H.Ou];have e:min 1 (x::vs).length=1:=by simp
 rw[e,vK,mr,jm @s]
def Ig{H:Hp}:∀{ks ms:?L Kd}{xs ys zs:?L V},ks.length=↑ms->bp K H (ks.map eM) xs->bp K H (ms.map eM) ys->↑zs=↑ks->(∀(j:?N) z,zs[j]?=θ z->∃p x y,z=V.ref p/\eI K H p [x,y]/\xs[j]?=θ x/\ys[j]?=θ y)->bp K H ((ks.zip ms).map Lo) zs
 |[],[],xs,ys,zs,_,_,_,hl,_=>by
  have e:zs=[]:=rG.mp hl;subst e;show .nil
 |[],_::_,_,_,_,h,_,_,_,_=>by simp at h
 |_::_,[],_,_,_,h,_,_,_,_=>by simp at h
 |k::ks,m::ms,xs,ys,[],_,_,_,hl,_=>by simp at hl
 |k::ks,m::ms,xs,ys,z::zs,h,rx,ry,hl,hp=>by
  rw[bZ]at rx ry;ext;let(x,JK,rfl,e1,e2):=rx.split;let(y,IL,rfl,f1,f2):=ry.split;let(p,x1,y1,rfl,hq,g1,g2):=hp 0 z @r;have ex:x=x1:=by simpa using g1
  have ey:y=y1:=by simpa using g2
  subst ex ey;ext;rw[lK,bZ];show .cons (.tuple hq<|.cons e1<|.one f1) (Ig (by simpa using h) e2 f2 (by simpa using hl) λj z hj=>?_);ext;let(p',x',y',a1,a2,a3,a4):=hp (j+1) z (by simpa using hj);ext;show(p',x',y',a1,a2,by simpa using a3,by simpa using a4)
def Ri(F:iP K "same_kind" "same_kind" sx f fd)(B:Plain mg)(B2:JM mg):c8 P w K mg base kD 1 f fd ["first","second"] (Be K):=by
 show F.ok BR @qc @q
 .ext;let(v,u,k,m,rfl,_):=h;ext;rfl
 ext;let(v,u,k,m,rfl,rv,ru,hz,fin):=h
 ext;show(_,aK (cV (i:=2) BR.nd @r @A xl)
  (aK (ng bN (w6 (pv 2) @h)
   (aK (cV (i:=3) BR.nd @r @A<|tS bc eR eU tU<|pv 2)
   (aK (fX (fj Of (eL eh @an bV @e) (eL eh @an bV @e)<|dP _) (bS<|dw DA) eF)
   (bS<|gC<|ou bc qc qe yk (pv 2)<|ax (yq @r @r B.list<|Pp @r B2.zip<|ax (xc Jw @an (xb bV) EU)<|ax (xc Jw @an (xb bV) EU) bh) bh))))
  (bS<|dw DA)),?_)
 show(_,bo (dz<|bo (eX 0 @r rv)<|bo (eX 1 @r ru) c9) c9,by change 1<=1000;decide,λwa H1 ws1 nwa s1 J9 VN=>?_);have zq:∀{n:?N},n<=100001->n<au:=λh=>bL h @d
 show(λc σ H2=>∃st ws x3,c=jb st/\σ=[θ v,θ u,θ<|.ref wa,x3]/\bM H H2/\H2 wa=θ @ap/\bp K H2 (st.map Lo) ws/\jb st<=100000/\((∀x∈st,x.1=x.2)↔k=m),
  (_,[(k,m,)],ws1,ι,@r,@r,s1,J9,VN,by simp only[jb];omega,by simp),?_)
 intro c σ H2 hZ;ext;let(st,ws,x3,rfl,rfl,s2,hw,VU,hsz,inv):=hZ;ext;have WM:↑ws=↑st:=by rw[VU.length,aP]
 show(_,@r,_,.inl (ws,gF.of hw,@r),?_);rcases gS st with e0|⟨pW,⟨k1,m1⟩,rfl⟩
 .subst e0;have e:ws=[]:=rG.mp (by rw[WM];rfl);subst e;show nP ?_;have:=fin H2 s2;rw[?t (inv.mp @s)]at this;show this
 rw[bK,fh]at VU;ext;let(me,xv,rfl,rw1,rx):=VU.snoc;ext;have Xz:jb (pW++[(k1,m1,)])=jb pW + (bG k1 + bG m1):=by rw[qu];simp only[jb];omega
 have tr:(!(me++[xv]).isEmpty)=ξ:=by simp
 rw[tr];show rO ?_
 show(λfo H'=>∃C9 BS y3,jb C9<jb (pW++[(k1,m1,)])/\fo=[θ v,θ u,θ<|.ref wa,y3]/\bM H H'/\H' wa=θ (.lst BS)/\bp K H' (C9.map Lo) BS/\jb C9<=100000/\((∀x∈C9,x.1=x.2)↔k=m),
  λfo H' ⟨C9,BS,y3,a1,a2,a3,a4,a5,a6,a7⟩=>(_,a1,C9,BS,y3,@r,a2,a3,a4,a5,a6,a7),?_)
 show(_,@r,.inl (@r,_,gF.of hw),wa,_,xv,@r,@r,hw,by simp,?_);rw[fm];have b3:SameBut wa H2 (upd H2 wa<|.lst me):=SameBut.upd _;have t3:=b3.tup (K:=K) hw;have s3:bM H (upd H2 wa<|.lst me):=lT s2 b3 nwa;have h3:(upd H2 wa<|.lst me) wa=θ (.lst me):=aA;generalize upd H2 wa (.lst me)=H3 at b3 t3 s3 h3 ⊢;ext;let(a,x,y,rfl,ga,rx1,ry1):=Kk (Rep.mono t3 _ _ rx);have rw3:=bp.mono t3 _ _ rw1;let(ka,bw,rfl,gk,rk):=Ml rx1;let(ma,X1,rfl,gm,rm):=Ml ry1;ext;show(_,@r,a,_,_,_,@r,@r,ga,@r,ka,_,_,.str<|kw k1,@r,@r,gk,ix0 _ _,_,@r,a,_,_,_,@r,@r,ga,@r,ma,_,_,.str<|kw m1,@r,@r,gm,ix0 _ _,@r,_,@r,tW (λc1=>?_)<|λc1=>?_)
 .have Ec:¬kw k1=kw m1:=λe=>by
   rw[?t (?C V.str e)]at c1;show ?A c1 @d
  have Z1:¬k=m:=λe=>by
   have:=inv.mpr e (k1,m1,) @s;show Ec (?C kw this)
  have:=fin H3 s3;rw[?f Z1]at this;show this
 .have Fy:kw k1=kw m1:=by
   have c2:(!decide (V.str (kw k1)=V.str (kw m1)))=υ:=Bool.eq_false_iff.mpr c1;have c3:decide (V.str (kw k1)=V.str (kw m1))=ξ:=by simpa using c2
   show V.str.inj (?o c3)
  have hkl:=PF Fy;have lk:↑bw=(lV k1).length:=by rw[rk.length,aP]
  have lm:X1.length=(lV m1).length:=by rw[rm.length,aP]
  have Qc:=Hm Fy;have hkz:=Bd ((lV k1).zip (lV m1));have ar4:=Bd pW;have zl:((lV k1).zip (lV m1)).length=(lV k1).length:=by rw[List.length_zip,hkl,Nat.min_self]
  show(_,@r,.inl (@r,_,gF.of h3),_,@r,a,_,_,_,@r,@r,ga,@r,_,@r,ka,_,@r,gk,?_,λp4 n4=>?_)
  .rw[show(1:?I)=((1:?N):?I)from @r,_H.w8];intro z;have:=z.1;simp at this
  have s4:=bt n4 (.tup<|sZ (.str (kw k1)::bw) (θ 1) ι);have h4:(upd H3 p4<|.tup<|sZ (.str (kw k1)::bw) (θ 1) ι) p4=θ (.tup bw):=by rw[aA,ai7]
  generalize upd H3 p4 (.tup<|sZ (.str (kw k1)::bw) (θ 1) ι)=H4 at s4 h4 ⊢;have t4:=bC.of_same (K:=K) s4;show(_,@r,a,_,_,_,@r,@r,t4 _ _ ga,@r,_,@r,ma,_,@r,t4 _ _ gm,?_,λp5 n5=>?_)
  .rw[show(1:?I)=((1:?N):?I)from @r,_H.w8];intro z;have:=z.1;simp at this
  have s5:=bt n5 (.tup<|sZ (.str (kw m1)::X1) (θ 1) ι);have h5:(upd H4 p5<|.tup<|sZ (.str (kw m1)::X1) (θ 1) ι) p5=θ (.tup X1):=by rw[aA,ai7]
  generalize upd H4 p5 (.tup<|sZ (.str (kw m1)::X1) (θ 1) ι)=H5 at s5 h5 ⊢;have t5:=bC.of_same (K:=K) s5;have s35:=s4.trans s5;show(p4,p5,bw,X1,@r,eI.of<|s5 _ _ h4,eI.of h5,?_);show Pq (λ(i:?N)(zs:?L V)(H6:Hp)=>bM H5 H6/\↑zs=i/\∀(j:?N)(z:V),zs[j]?=θ z->∃(p:af)(x y:V),z=V.ref p/\eI K H6 p [x,y]/\bw[j]?=θ x/\X1[j]?=θ y)
   (by rw[lk,lm,hkl]) (zq @o) (bM.refl _,@r,λj z hj=>by simp at hj) (λi zs H6 ⟨sm,hl,_⟩=>(eI.of<|sm _ _<|s5 _ _ h4,eI.of<|sm _ _ h5,hl)) ?_ ?_
  .rintro i zs H6 p x y ⟨sm,hl,hp⟩ hx hy np;have s6:=bt np (.tup [x,y]);show(sm.trans s6,by rw[aH,hl];rfl,λj z hj=>?_);by_cases nM:j<↑zs
   .rw[bF nM]at hj;ext;let(p',x',y',e1,e2,e3,e4):=hp j z hj;ext;show(p',x',y',e1,bC.of_same (K:=K) s6 _ _ e2,e3,e4)
   .rw[bT @o]at hj;have e0:j=↑zs:=by
     rcases Nat.eq_or_lt_of_le (zW nM)with z|z
     .show z.symm
     .rw[fV @z]at hj;cases hj
    rw[e0,mx]at hj;cases hj;rw[e0,hl];show(p,x,y,@r,eI.of aA,hx,hy)
  .rintro zs H6 ⟨sm,hl,hp⟩ qd nqd;have s7:=bt nqd (.lst zs);have s37:=(s35.trans sm).trans s7;have hw7:(upd H6 qd<|.lst zs) wa=θ (.lst me):=s37 _ _ h3;have ar5:↑me=↑pW:=by rw[rw3.length,aP]
   show(wa,qd,me,zs,@r,@r,hw7,aA,fe<|zq @o,?_);have b8:SameBut wa (upd H6 qd<|.lst zs) (upd (upd H6 qd<|.lst zs) wa<|.lst<|me++zs):=SameBut.upd _;have t8:=b8.tup (K:=K) hw7;have t38:=(bC.of_same (K:=K) s37).trans t8;have t68:=(bC.of_same (K:=K) s7).trans t8;show(pW++(lV k1).zip (lV m1),_,_,by rw[Xz,qu];omega,@r,lT (s3.trans s37) b8 nwa,aA,?_,by rw[qu];omega,?_)
   .rw[bK];show(bp.mono t38 _ _ rw3).append (Ig hkl (bp.mono t38 _ _ rk) (bp.mono t38 _ _ rm) (by rw[hl,lk]) λj z hj=>?_);ext;let(p',x',y',e1,e2,e3,e4):=hp j z hj;ext;show(p',x',y',e1,t68 _ _ e2,e3,e4)
   .rw[<-inv];constructor
    .intro h x hx;rcases aW.mp hx with hx|hx
     .show h x (bW _ hx)
     .rw[aR.mp hx];show(Lp Fy).mp λz hz=>h z (aB _ hz)
    .intro h x hx;rcases aW.mp hx with hx|hx
     .show h x (bW _ hx)
     .show(Lp Fy).mpr (h (k1,m1,) @s) x hx
def Kl:bO ["part","number","known","inner"] ["part","number","known"] (az k9):=@a
variable{a:af}
def ai8{p:af}{sc:?L (χ×Kd)}(h:zx K H a sc)(np:H p=ι):∃bw,H a=θ (.dK bw)/\↑bw<=↑sc/\(∀x,look sc x=ι->ja bw (.inr x)=ι)/\
  ∀x k,look sc x=θ k->∃v,ja bw (.inr x)=θ v/\Rep K (upd H p<|.dK bw) (eM k) v:=by
 let(bw,e,l,n,r):=h.ex;show(bw,e,l,n,λx k q=>(by let(v,h1,h2):=r x k q;show (v,h1,Rep.mono (bC.of_same<|bt np _) _ _ h2)))
def X2(F:iP K "scope_within" "scope_within" k9 f fd)(BU:mg "dict"=ι):c8 P w K mg base kD 1 f fd ["part","number","known"] (Lq K):=by
 show F.ok Kl @qc @q
 .ext;let(v,a,t,i,sc,NS,rfl,_):=h;ext;rfl
 ext;let(v,a,t,i,sc,NS,rfl,rt,Q0,hz,Sg,q):=h;ext;have hu:(A.deeper<|dY "scope_within" (az k9) ↥s f ez).units+1<cLine:=by have:=hr.units;omega
 show(_,aK (fX (fj oq (eL eh @Z bV @e) oV<|dP _)
   (aK (cV (i:=3) Kl.nd @r @A<|oO Ba @r BU om<|ax (pv 2) bh)
   (aK (xj hu (pv 3) (eL eh (eL eh @Z bV @e) bV @e) (eL eh (eL eh @Z bV @e) bV @e) @r)
   (bS<|dw<|pv 3))) eF)
  (aK (fX (PW.pt<|Jh (fj oq (eL eh @Z bV @e) oV<|dP _)<|KY<|fj oq (pv 1) bV<|dP _)
   (aK (cV (i:=3) Kl.nd @r @A<|oO Ba @r BU om<|ax (pv 2) bh)
   (aK (xj hu (pv 3) (eL eh (eL eh @Z bV @e) bV @e) (eL eh (eL eh @Z bV @e) bV @e) @r)
   (aK (xj hu (pv 3) (eL eh (eL eh @Z bV @e) bV @e) lS @r)
   (bS<|dw<|pv 3)))) eF)
  (bS<|dw<|pv 2)),?_)
 ext;let(a1,b1,c1,ms,os,rfl,g1,g2,g3,g4,g5):=Aj rt;ext;show(_,@r,a1,_,_,.str t.ko.1,@r,@r,g1,@r,@r,_,@r,tW (λc=>?_)<|λc=>?_)
 .have e0:t.ko.1 = "fun":=V.str.inj (?o c);ext;let(x,k,em,rfl):=Sg.fn e0;rw[em]at g3;let(y1,r1,rfl,q1,g3):=g3.split;let(y2,r2,rfl,q2,g3):=g3.split;rw[bp]at g3;subst g3;obtain rfl:=q1.eP;let(bw,ea,el,en,er):=Q0.ex;ext;show(_,@r,a,bw,@r,ea,λp np=>?_);have s1:=bt np (.dK bw);have t1:=bC.of_same (K:=K) s1;show(_,@r,a1,_,_,_,@r,@r,t1 _ _ g1,@r,b1,_,_,y2,@r,@r,t1 _ _ g2,@r,_,@r,_,@r,a1,_,_,_,@r,@r,t1 _ _ g1,@r,b1,_,_,.str x,@r,@r,t1 _ _ g2,@r,p,_,@r,AU.k (k:=.inr x) aA<|bL el<|bL hz @d,?_);show(_,@r,q p _ (λb o hb=>?_)<|zx.put aA el en (λx k h=>(by let(v,h1,h2):=er x k h;show (v,h1,Rep.mono t1 _ _ h2))) (Rep.mono t1 _ _ q2));rw[be (bQ hb np),be (bQ hb np)];show hb
 have n0:t.ko.1≠"fun":=λe=>by rw[e]at c;show c (?t @r)
 show(_,@r,a1,_,_,.str t.ko.1,@r,@r,g1,@r,@r,_,@r,tW (λc2=>?_)<|λc2=>?_)
 .have e0:t.ko.1 = "case":=V.str.inj (?o c2);show(_,@r,@r,_,@r,tW (λc3=>?_)<|λc3=>?_)
  .have ei:i=2:=V.int.inj (?o c3);ext;let(k,h,tl,em,rfl):=Sg.case e0 ei;rw[em]at g3;let(y1,r1,rfl,q1,g3):=g3.split;let(y2,r2,rfl,q2,g3):=g3.split;let(y3,r3,rfl,q3,g3):=g3.split;rw[bp]at g3;subst g3;obtain rfl:=q2.eP;obtain rfl:=q3.eP;let(bw,ea,el,en,er):=Q0.ex;ext;show(_,@r,a,bw,@r,ea,λp np=>?_);have s1:=bt np (.dK bw);have t1:=bC.of_same (K:=K) s1;have hl1:↑bw<au:=bL el (bL hz @d);show(_,@r,a1,_,_,_,@r,@r,t1 _ _ g1,@r,b1,_,_,y1,@r,@r,t1 _ _ g2,@r,_,@r,_,@r,a1,_,_,_,@r,@r,t1 _ _ g1,@r,b1,_,_,.str h,@r,@r,t1 _ _ g2,@r,p,_,@r,AU.k (k:=.inr h) aA hl1,?_);have D1:=zx.put (K:=K) (y:=h) (k:=k) (v:=y1) (a:=p) aA el en (λx k h=>(by let(v,h1,h2):=er x k h;show (v,h1,Rep.mono t1 _ _ h2))) (Rep.mono t1 _ _ q1);have s2:bM H (upd (upd H p<|.dK bw) p<|.dK<|putK bw (.inr h) y1):=λb o hb=>by rw[be (bQ hb np),be (bQ hb np)];show hb
   generalize upd (upd H p<|.dK bw) p (.dK<|putK bw (.inr h) y1)=H2 at D1 s2 ⊢;have t2:=bC.of_same (K:=K) s2;have rex:Rep K H2 (.tuple [.str t.ko.1,.tuple [eM k,.str h,.str tl],.tuple (t.own.map py)]) (.ref a1):=by rw[<-em,<-ua];show Rep.mono t2 _ _ rt
   show(_,dz<|bo h9<|bo (U5 (U5 (eX 0 @r rex) Pa (show vy _ ((1:?N):?I)=θ (PyData.tuple [eM k,.str h,.str tl])from ie @r) @e) Pa (show vy _ ((0:?N):?I)=θ (eM k)from ie @r) @e) c9,λv3 H3 s3 r3=>?_);ext;let(kv3,e3,l3,n3,er3):=(D1.mono s3).ex;ext;have t3:=t2.trans (bC.of_same s3);have np3:H p=ι:=np;have hl3:↑kv3<au:=by rw[aH]at l3;simp at l3;show bL l3 (bL (Nat.add_le_add_right hz 1) @d)
   show(_,@r,_,@r,a1,_,_,_,@r,@r,t3 _ _ g1,@r,b1,_,_,.str tl,@r,@r,t3 _ _ g2,@r,p,_,@r,AU.k (k:=.inr tl) e3 hl3,?_);show(_,@r,q p _ (λb o hb=>?_)<|zx.put e3 l3 n3 er3 (k:=.list k) (by change Rep K H3 (.tuple [.str "list",eM k]) v3;show r3));rw[be (bQ hb np)];show s3 _ _ (s2 _ _ hb)
  .have ni:i≠2:=λe=>by rw[e]at c3;show c3 (?t @r)
   obtain rfl:=Sg.other n0 λ_=>ni;show(_,@r,q a H @F Q0)
 .have n1:t.ko.1≠"case":=λe=>by rw[e]at c2;show c2 (?t @r)
  obtain rfl:=Sg.other n0 λe=>?A e n1;show(_,@r,q a H @F Q0)
def X3:bO ["part","own"] ["part","own"] (az l7):=@a
def X4:yn ["part","own"] (az l7) (JZ l7 5) "kind":=(@r,by symm,by symm,@r,by symm,by symm,by symm)
def X5(F:iP K "due_kinds" "due_kinds" l7 f fd)(C:Bk K mg):c8 P w K mg base kD 1 f fd ["part","own"] (jt K ae7):=by
 show F.zA X3 @qd @qa
 .ext;let(b,o,ks,rfl,_):=h;ext;show(@r,by simp)
 ext;let(b,o,ks,rfl,hl,hc,rfl):=h;ext;change VS _ _ [.d _,.l _] _;cases b with
 |add=>
  show eN @b @f ?_;show cf (nU<|aX (yx C)<|aX (yx C) gw) @i
 |less=>
  show eN @b @f ?_;show cf (nU<|aX (yx C)<|aX (yx C) gw) @i
 |yp=>
  ext;let(k1,k2,k3,rfl):=Dk hl;ext;show bx @b @f ?_;show eN @l @f ?_;show cf (nU<|aX (Bl C) @l) @i
 |front=>
  let(k1,k2,rfl):=vi hl;show bx @b @f ?_;show bx @l @f ?_;show eN @l @f ?_;show cf @l @i
 |case k h t=>
  ext;let(k1,k2,k3,rfl):=Dk hl;ext;show bx @b @f ?_;show bx @l @f ?_;show bx @l @f ?_;show eN @l @f ?_;show cf @l @i
 |call=>
  ext;let(k1,k2,rfl):=vi hl;let(k,m,r,e):=hc @r;cases e;ext;show bx @b @f ?_;show bx @l @f ?_;show bx @l @f ?_;show bx @l @f ?_;show eN @l @f ?_;show cf @l @i
 |_=>
  show bx @b @f ?_;show bx @l @f ?_;show bx @l @f ?_;show bx @l @f ?_;show bx @l @f ?_;have hz:↑ks<=au:=bD (by rw[hl];show bX @r) (by decide:3<=au)
  show cf (Tq (ys:=(ks.map λ_=>PyData.none)) @r X4 (Lw @r @r) @s (by simpa using hz) λi a y h1 h2 cl C s0 H0 fp π=>by
   rw[aE]at h2;cases q:ks[i]? with
   |none=>rw[q]at h2;cases h2
   |some z=>rw[q]at h2;cases h2;show Fi) (.inl<|by simp[cY,rX])
def X6:bO ["part","own","known"] ["part","own","known"] (az lg):=@a
def X7(F:iP K "kind_by_rule" "kind_by_rule" lg f fd)(C:Bk K mg):c8 P w K mg base kD 1 f fd ["part","own","known"] (jt K<|Vj K):=by
 show F.zA X6 @qd @qa
 .ext;let(b,o,ks,sc,rfl,_):=h;ext;show(@r,by simp)
 ext;let(b,o,ks,sc,rfl,hl,hb,rfl):=h;ext;change VS _ _ [.d _,.l _,.h _] _;have hu:(A.deeper<|dY "kind_by_rule" (az lg) ↥s f ez).units+1<cLine:=G6 hr;cases b with
 |num i=>show eN @b @f (cf (yx C) @i)
 |add=>show eN @b @f (cf (yx C) @i)
 |truth i=>
  show bx @b @f ?_;show eN @b @f (cf (Bl C) @i)
 |less=>
  show bx @b @f ?_;show eN @b @f (cf (Bl C) @i)
 |name x=>
  show bx @b @f ?_;show bx @b @f ?_;cases q:look sc x with
  |none=>simp[dj,q]at hb
  |some k=>show eN @l @f (cf (PZ hu @l @l q)<|.inl<|by simp[kN,q])
 |nil k=>
  show bx @b @f ?_;show bx @b @f ?_;show bx @l @f ?_;show eN @l @f (cf @l @i)
 |fn x k=>
  let(k1,rfl):=ae9 hl;show bx @b @f ?_;show bx @b @f ?_;show bx @l @f ?_;show bx @l @f ?_;show eN @l @f (cf @l @i)
 |call=>
  let(k1,k2,rfl):=vi hl;cases k1 with
  |to k m=>
   show bx @b @f ?_;show bx @b @f ?_;show bx @l @f ?_;show bx @l @f ?_;show bx @l @f ?_;show eN @l @f (cf @l @i)
  |_=>simp[dj,Kd.arg]at hb
 |front=>
  let(k1,k2,rfl):=vi hl;show bx @b @f ?_;show bx @b @f ?_;show bx @l @f ?_;show bx @l @f ?_;show bx @l @f ?_;show bx @l @f ?_;show cf @l @i
 |yp=>
  ext;let(k1,k2,k3,rfl):=Dk hl;ext;show bx @b @f ?_;show bx @b @f ?_;show bx @l @f ?_;show bx @l @f ?_;show bx @l @f ?_;show bx @l @f ?_;show cf @l @i
 |case k x y=>
  ext;let(k1,k2,k3,rfl):=Dk hl;ext;show bx @b @f ?_;show bx @b @f ?_;show bx @l @f ?_;show bx @l @f ?_;show bx @l @f ?_;show bx @l @f ?_;show cf @l @i
def Rj:bO ["part","own","known","number","due"] ["part","own","known"] (az gE):=@a
def X8(F:iP K "breach_of_rule" "breach_of_rule" gE f fd)(B:Plain mg)(DS:cS P w K mg base 1 "same_kind" ["first","second"] (jt K Vi))(DD:cS P w K mg base 1 "due_kinds" ["part","own"] (jt K ae7)):
  c8 P w K mg base kD 2 f fd ["part","own","known"] (jt K<|Ly K):=by
 show F.zA Rj @qd @qa
 .ext;let(b,o,ks,sc,rfl,_):=h;ext;show(@r,by simp)
 ext;let(b,o,ks,sc,rfl,hl,Qc,hls,rfl):=h;ext;change VS _ _ [.d _,.l _,.h _,.un,.un] _;have hu:(A.deeper<|dY "breach_of_rule" (az gE) ↥s f ez).units+1<cLine:=G6 hr;have loop:dj b ks sc=bE b ks->(b = .call->∃k m r,ks = .to k m::r)->VS (qS kD P w K mg base ["part","own","known","number","due"] "breach_of_rule" (az gE) f ez A outer s H E).N5 (List.drop 2<|dE gE) [.d (py<|ex @R),.l<|ks.map eM,.h<|zB K sc,.un,.un] λo=>o = .rt (.d<|Vh<|dj b ks sc)\/(Sl.d (Vh<|dj b ks sc) = .d .none/\∃ρ,o = .nx ρ):=by
  intro hb hc;have hdl:=P4 hl;show o7 bN @r (PV B.enumerate<|cK DD hr (cw @l<|cw @l gO) (b,o,ks,@r,hl,hc,@r)) (Fo Rj.nd @r @r @r)
   (λi ρ=>∃x y,ρ=[.d (py<|ex @R),.l<|ks.map eM,.h<|zB K sc,x,y]/\aY i ((cY b ks).drop i) (ks.drop i)=aY 0 (cY b ks) ks) (_,_,@r,@r) ?_ ?_
  .intro i d dI hd hZ;ext;let(x,y,rfl,hf):=hZ;have hi:i<(cY b ks).length:=by
    have:=(ay.mp hd).1;rw[oQ,aP]at this;show this
   have hik:i<↑ks:=by omega
   have hgd:((cY b ks).map rX)[i]?=θ (rX (cY b ks)[i]):=by rw[aE,ag hi];rfl
   rw[yv 0 _ i _ hgd,g9]at hd;cases hd;ext;show(_,@r,?_);have ai9:(cY b ks)[i]∈cY b ks:=List.getElem_mem hi;rw[fU hi,fU hik]at hf;have Z1:=Qc _ (List.getElem_mem hik);generalize (cY b ks)[i]=od at hf ai9 ⊢;have Uj:vy (ks.map eM) (i:?I)=θ (eM ks[i]):=ie (by rw[aE,ag hik];rfl);generalize ks[i]=k at hf Z1 Uj;cases od with
   |none=>
    rw[aY]at hf;show bx (iN<|rV<|bq (lW @l) @f) @r (dB (_,_,@r,hf))
   |some m=>
    have hm:=JY Qc hls ai9;rw[aY]at hf
    show vA (iN (kU (bq (lW (ra:=.d (eM m)) @l) (by rw[Fu];rfl))
     (kT<|fq<|c7<|cK DS hr (cw @l<|cw (uh @l @l @r Uj) gO) (m,k,@r,by omega,@r)))) (λh=>?_) (λh=>?_)
    .have Ec:m≠k:=by simpa using h
     rw[?n Ec]at hf;show cf (dW<|aX @l<|aX @l<|aX (uh @l @l @r Uj) gw) (.inl ?_);rw[hb,bE,<-hf];rfl
    .have heq:m=k:=by simpa using h
     rw[?p heq]at hf;show dB (dB (_,_,@r,hf))
  .intro dI hZ;ext;let(x,y,rfl,hf):=hZ;ext;rw[oQ,aP,mq @E]at hf;show cf @l (.inl ?_);rw[hb,bE,<-hf];cases List.drop (cY b ks).length ks<;>rfl
 cases b with
 |name x=>
  show vA (iN<|kU (bq @l @f)<|kT<|P0 hu @l @l<|by with_unfolding_all rfl) (λh=>?_) (λh=>?_)
  .show cf @l (.inl ?_);have:(look sc x).isSome=υ:=by simpa using h
   simp only[dj,this];rfl
  .have hs:(look sc x).isSome=ξ:=by simpa using h
   show dB (bx (iN<|rV<|bq @l @f) @r<|loop (yy (λy e=>by cases e;show hs) (λe=>nomatch e)) λe=>nomatch e)
 |call=>
  let(k1,k2,rfl):=vi hl;show bx (iN<|rV<|bq @l @f) @r ?_;cases k1 with
  |to k m=>show bx (iN<|kU (bq @l @f)<|kT @l) @f (loop (yy (λy e=>nomatch e) (λ_=>(k,m,_,@r))) λ_=>(k,m,_,@r))
  |num=>show eN (iN<|kU (bq @l @f)<|kT @l) @f (cf @l @i)
  |truth=>show eN (iN<|kU (bq @l @f)<|kT @l) @f (cf @l @i)
  |list k=>show eN (iN<|kU (bq @l @f)<|kT @l) @f (cf @l @i)
 |_=>show bx (iN<|rV<|bq @l @f) @r (bx (iN<|rV<|bq @l @f) @r<|loop (yy (λy e=>nomatch e) (λe=>nomatch e)) λe=>nomatch e)
def BV:bO ["pairs","scope","scopes","place","part","number"] ["pairs","scope"] (az je):=@a
def X9(F:iP K "scopes_by_place" "scopes_by_place" je f fd)(B:Plain mg)(BU:mg "dict"=ι)(DW:cS P w K mg base 1 "scope_within" ["part","number","known"] (Lq K)):c8 P w K mg base kD 2 f fd ["pairs","scope"] (Ht K):=by
 show F.ok BV @qc @q
 .ext;let(r,q,ps,qs,e,sc,rfl,_):=h;ext;rfl
 ext;let(r,q,ps,qs,e,sc,rfl,tok,hz,Vr,hps,hq0,hqs,Q0,fin):=h;ext;have hu:(A.deeper<|dY "scopes_by_place" (az je) ↥s f ez).units+1<cLine:=G6 hr
 show(_,aK (cV (i:=2) BV.nd @r @A<|PD hu (@h8 _ _ _ _ _ bh)<|oO (JO @r) @r BU om<|ax (pv 1) bh)
  (aK (vQ bN @r (O1 @r B.reversed<|ax @Z bh) (EN @r<|m9 (j0 (i:=3) BV.nd @r @A)<|m9 (j0 (i:=4) BV.nd @r @A) Aa)
   (bS (vQ bN @r (uO @r B.range<|ax (eW gc @r B.len gx<|ax (eL eh (pv 4) bV @e) bh) bh) (j0 (i:=5) BV.nd @r @A)
    (bS<|xj hu (pv 2) (nj xk (pv 3)<|h8<|ax (pv 5) bh) (dq DW hr @r<|ax (pv 4)<|ax (pv 5)<|ax (xi hu (pv 2) (pv 3) @e) bh) @r))))
  (bS<|dw<|pv 2)),?_)
 have zq:∀{n:?N},n<=1000001->n<au:=λh=>bL h @d;intro s0 n0;have s1:=bt n0 (.dT []);have Xz:(upd H s0<|.dT []) s0=θ (.dT []):=aA;generalize upd H s0 (.dT [])=H1 at s1 Xz ⊢;show(by change 0<=au;decide,λp2 n2=>?_);have s2:=bt n2 (.tup []);have EX:(upd H1 p2<|.tup []) p2=θ (.tup []):=aA;generalize upd H1 p2 (.tup [])=H2 at s2 EX ⊢;have Ui:=s1.trans s2;let(dk,P,hdl,WN):=zC (bp.mono (bC.of_same Ui) _ _ hqs);show(_,@r,q,qs,dk,@r,gF.of<|Ui _ _ hq0,P,by omega,λp3 n3=>?_);have s3:=bt n3 (.dK<|jR [] dk);have hd3:zx K (upd H2 p3<|.dK<|jR [] dk) p3 sc:=zx.of aA (by have:=(WN [] [] NT.nil).mono s3;rwa[fN]at this);generalize upd H2 p3 (.dK<|jR [] dk)=H3 at s3 hd3 ⊢;have s03:=Ui.trans s3;show(s3 _ _<|s2 _ _ Xz,p2,[],.ref p3,@r,s3 _ _ EX,?_);have ZS:=s3 _ _ (s2 _ _ Xz);have hb4:∀b o,b≠s0->H3 b=θ o->(upd H3 s0<|.dT<|putK [] []<|.ref p3) b=θ o:=λb o n h=>by rw[be n];show h
 have s4:bM H (upd H3 s0<|.dT<|putK [] []<|.ref p3):=λb o h=>hb4 b o (bQ h n0) (s03 b o h);have sc4:Vl K (upd H3 s0<|.dT<|putK [] []<|.ref p3) (putK [] (kP [])<|.ref p3) e sc (λp=>p=[]):=by
  intro p hp;subst hp;show(p3,by rw[kM,?p @r],by rw[lX];show hd3.iD ZS)
 have pr4:j5 K (upd H3 s0<|.dT<|putK [] []<|.ref p3) (ex e).post ps:=(hps.ext<|Ext.of_same s03).iD ZS;have hs4:(upd H3 s0<|.dT<|putK [] []<|.ref p3) s0=θ (.dT<|putK [] (kP [])<|.ref p3):=aA;have hl4:(putK ([]:?L (?L Key×V)) (kP [])<|.ref p3).length<=1:=i0 _ _ _;generalize upd H3 s0 (.dT<|putK [] []<|.ref p3)=H4 at s4 sc4 pr4 hs4 ⊢;have j4:↑ps=(ex e).post.length:=hps.1;have U9:(ex e).post.length=e.size:=by rw[dA,mX]
 show(_,@r,r,ps,@r,gF.of<|s4 _ _ Vr,Ta (xs:=ps) (λi σ H5=>∃x3 x4 x5 bw,σ=[θ (.ref r),θ<|.ref q,θ<|.ref s0,x3,x4,x5]/\bM H H5/\j5 K H5 (ex e).post ps/\H5 s0=θ @av/\↑bw<=1+3 * i/\
   Vl K H5 bw e sc (λp=>p=[]\/∃(j:?N)(q:?L ?N)(t:Tm)(k:?N),j<i/\e.post.reverse[j]?=θ (q,t,)/\k<t.own.length/\p=q++[k]))
  (ι,ι,ι,_,@r,s4,pr4,hs4,by omega,λp hp=>sc4 p (hp.elim id (by rintro ⟨j,_,_,_,h,_⟩;show ?A h (oM _)))) (by rintro i σ H5 _ ⟨_,_,_,_,_,sm,_⟩;show gF.of (sm _ _ Vr)) ?_ ?_)
 .intro i x σ H5 hi hx hZ;ext;let(x3,x4,x5,bw,rfl,s5,pr5,hs5,hl5,sc5):=hZ;let(xx,Uk,prx):=pr5.get hx;ext;rw[Ao,aE]at Uk;have Z2:↑ps - 1 - i<e.post.length:=by rw[dA];omega
  rw[ag Z2]at Uk;have IP:e.post[ps.length - 1 - i]?=θ e.post[ps.length - 1 - i]:=ag Z2;generalize e.post[ps.length - 1 - i]=y at Uk IP;ext;let(q0,t0):=y;cases Uk;have pY:=rQ e _ (aD IP);simp only at pY;have Ul:=tok.at pY;have ar6:=ub (e:=ex e) (t:=ex t0) (p:=q0) (by rw[Lx,pY];rfl);have hes:=mX e;have aq3:e.post.reverse[i]?=θ (q0,t0,):=by
   rw[dG (by rw[dA];omega),<-IP];congr 1;rw[dA];omega
  let(a,pu,tv,rfl,ga,gu,VY):=prx;let(a1,b1,c1,ms,os,rfl,g1,g2,g3,g4,g5):=Aj VY;have hol:↑os=t0.own.length:=by rw[g5.length,aP,Fs,aP]
  have h03:t0.own.length<=3:=by rw[Ul.len];show Vm _
  have up:∃b,ja bw (kP q0)=θ (.ref b)/\zx K H5 b (ia e q0 sc):=by
   show sc5 q0 ?_;rcases gS q0 with z|⟨q1,k1,z⟩
   .show .inl z
   .right;subst z;rw[qW]at pY;cases Th:e.oy q1 with
    |none=>rw[Th]at pY;cases pY
    |some t1=>
     rw[Th]at pY;have Hz:t1.own[k1]?=θ t0:=pY;ext;let(i',j',lt,e1,e2):=Bo Th Hz;ext;have ej:j'=↑ps - 1 - i:=Lz e2 IP @r;have Gu:i'<e.post.length:=(ay.mp e1).1;rw[dA]at Gu;show(e.size - 1 - i',q1,t1,k1,by omega,?_,(ay.mp Hz).1,@r);rw[dG (by rw[dA];omega),dA,<-e1];congr 1;omega
  let(b0,hb0,hsd):=up;ext;show(a,_,@r,ga,@r,_,_,@r,_,_,@r,@r,?_);show(_,@r,a1,_,_,.ref c1,@r,@r,g1,@r,c1,os,@r,.inr g4,os.length,@r,by omega,by omega,?_);rw[gI]
  show DJ (λj σ H6=>∃x5 bw,σ=[θ (.ref r),θ<|.ref q,θ<|.ref s0,θ<|.ref pu,θ<|.ref a1,x5]/\bM H H6/\j5 K H6 (ex e).post ps/\H6 s0=θ @av/\↑bw<=1+3 * i + j/\H6 pu=θ (.tup<|(kP q0).map kV)/\Rep K H6 (py<|ex t0) (.ref a1)/\
    (∃b,ja bw (kP q0)=θ (.ref b)/\zx K H6 b (ia e q0 sc))/\
    Vl K H6 bw e sc (λp=>(p=[]\/∃(j:?N)(q:?L ?N)(t:Tm)(k:?N),j<i/\e.post.reverse[j]?=θ (q,t,)/\k<t.own.length/\p=q++[k])\/∃k,k<j/\p=q0++[k]))
   (x5,bw,@r,s5,pr5,hs5,by omega,gu,VY,(b0,hb0,hsd),λp hp=>sc5 p (hp.elim id (by rintro ⟨k,h,_⟩;show ?A h (oM _)))) ?_ ?_
  .intro j σ H6 hj hZ;ext;let(y5,kv6,rfl,s6,pr6,hs6,hl6,X0,rt6,(b6,hb6,sd6),sc6):=hZ;ext;rw[II];have hjt:t0.own[j]?=θ t0.own[j]:=ag @o;have A9:=P6 (sc:=sc) (p:=q0) (e:=e);show(_,@r,_,@r,_,@r,_,@r,s0,.ref b6,@r,by rw[<-hb6];show tf.t hs6 X0,.ref a1,b6,ex t0,(j:?I),ia e q0 sc,pX t0.ko j<|ia e q0 sc,@r,rt6,sd6,by omega,by rw[PX];show Xk t0.ko j _,λb7 H7 s7 sd7=>?_);show(_,@r,_,@r,_,@r,by change 1<=au;decide,λp8 n8=>?_);have s8:=bt n8 (.tup [.int j]);have hp8:(upd H7 p8<|.tup [.int j]) p8=θ (.tup [.int j]):=aA;generalize upd H7 p8 (.tup [.int j])=H8 at s8 hp8 ⊢;have s68:=s7.trans s8;show Ft (eI.of<|s68 _ _ X0) hp8 @s (by simp[kP];show fe (zq @o)) λp9 H9 s9 hp9=>?_;have EB:=s68.trans s9;have Z3:H9 p9=θ (.tup<|(kP<|q0++[j]).map kV):=by rw[hp9];simp[kP,kV]
   have Ya:=EB _ _ hs6;show(s0,_,@r,AU.t Ya Z3<|zq @o,?_);have sd9:=sd7.mono (s8.trans s9);show(_,_,@r,λb o h=>?_,(pr6.ext<|Ext.of_same EB).iD Ya,aA,?_,?_,Rep.mono (Tr Ya) _ _<|Rep.mono (bC.of_same EB) _ _ rt6,?_,?_)
   .rw[be (bQ h n0)];show EB b o (s6 b o h)
   .have:=i0 kv6 (kP<|q0++[j]) (.ref b7);omega
   .rw[be (tJ (EB _ _ X0) Ya @ar)];show EB _ _ X0
   .show(b6,?_,(sd6.mono EB).iD Ya);rw[kM,?n (λz=>by have:=?C IX (Fx z);simp at this)];show hb6
   .have e1:ia e (q0++[j]) sc=pX t0.ko j (ia e q0 sc):=yw pY hjt;have sc9:Vl K (upd H9 s0<|.dT<|putK kv6 (kP<|q0++[j])<|.ref b7) kv6 e sc _:=λp hp=>(by let(b,h1,h2):=sc6 p hp;show (b,h1,(h2.mono EB).iD Ya));show sc9.put (by rw[e1];show sd9.iD Ya) λp hp=>?_;rcases hp with hp|⟨k,hk,rfl⟩
    .show .inr (.inl hp)
    .rcases rE.mp hk with hk|rfl
     .show .inr (.inr (k,hk,@r))
     .show .inl @r
  .intro σ H6 hZ;ext;let(y5,kv6,rfl,s6,pr6,hs6,hl6,X0,rt6,_,sc6):=hZ;ext;show(_,_,_,kv6,@r,s6,pr6,hs6,by omega,λp hp=>sc6 p ?_);rcases hp with hp|⟨j,q,t,k,hj,e1,e2,rfl⟩
   .show .inl (.inl hp)
   .rcases rE.mp hj with hj|rfl
    .show .inl (.inr (j,q,t,k,hj,e1,e2,@r))
    .rw[aq3]at e1;cases e1;show .inr (k,by omega,@r)
 .intro σ H5 hZ;ext;let(x3,x4,x5,bw,rfl,s5,pr5,hs5,hl5,sc5):=hZ;ext;show(_,@r,fin s0 H5 bw s5 n0 hs5 λp hp=>sc5 p ?_);rcases gS p with z|⟨q1,k1,z⟩
  .show .inl z
  .right;subst z;rw[qW]at hp;cases Th:e.oy q1 with
   |none=>rw[Th]at hp;cases hp
   |some t1=>
    rw[Th]at hp;have D9:(t1.own[k1]?).isSome=ξ:=hp;let(i',e1):=P5 Th;have Gu:i'<e.post.length:=(ay.mp e1).1;rw[dA]at Gu;show(e.size - 1 - i',q1,t1,k1,by omega,?_,by simpa using D9,@r);rw[dG (by rw[dA];omega),dA,<-e1];congr 1;omega
def uG:bO ["expr","scope","pairs","scopes","kinds","place","part","own","breach"] ["expr","scope"] (az mP):=@a
def Yb:yn ["expr","scope","pairs","scopes","kinds","place","part","own","breach"] (az mP) (Hv mP 3 0) "number":=(@r,by symm,by symm,@r,by symm,by symm,by symm)
def Yc(F:iP K "checked" "checked" mP f fd)(B:Plain mg)(DO:cS P w K mg base 1 "in_order" ["expr"] (Hq K))(DS:cS P w K mg base 2 "scopes_by_place" ["pairs","scope"] (Ht K))(DB:cS P w K mg base 2 "breach_of_rule" ["part","own","known"] (jt K<|Ly K))(DK:cS P w K mg base 1 "kind_by_rule" ["part","own","known"] (jt K<|Vj K)):c8 P w K mg base kD 3 f fd ["expr","scope"] (yz K):=by
 show F.ok uG @qc @q
 .ext;let(v,q,qs,e,sc,rfl,_):=h;ext;rfl
 ext;let(v,q,qs,e,sc,rfl,NF,re,hq0,hqs,fin):=h;ext;have tok:=NF.ar;have hz:=NF.size;have aq4:=NF.scl;have hu:(A.deeper<|dY "checked" (az mP) ↥s f ez).units+1<cLine:=G6 hr
 show(_,aK (cV (i:=2) uG.nd @r @A<|dq DO @C @r<|ax @Z bh)
  (aK (cV (i:=3) uG.nd @r @A<|dq DS hr @r<|ax (pv 2)<|ax (pv 1) bh)
  (aK (cV (i:=4) uG.nd @r (by first|show bB @r|show cF @r) OE)
  (aK (vQ bN @r (Ab<|pv 2) (EN @r<|m9 (j0 (i:=5) uG.nd @r<|by first|show bB @r|show cF @r) (m9 (j0 (i:=6) uG.nd @r @A) Aa))
   (aK (JD (i:=7) (te:=UO (Jf 5) (tOp (E8 K) (Jf 6)<|Om<|GW (Jf 0) Ol)) @r Yb uG.nd @r @r (uO @r B.range<|ax (eW gc @r B.len gx<|ax (eL eh (pv 6) bV @e) bh) bh)
    (λcl C s0 H0 fp π=>xi hu (pv 5) (nj xk (pv 6)<|h8<|ax @Z bh) @e) @r)
   (aK (cV (i:=8) uG.nd @r @A<|dq DB hr @r<|ax (pv 6)<|ax (pv 7)<|ax (xi hu (pv 3) (pv 5) @e) bh)
   (aK (fX (Jg<|KW<|pv 8) (bS<|dw<|h8<|ax (yq @r @r B.list<|Eh (pv 4) (@r,@r,@r,@r))<|ax (h8<|ax (nj xk (pv 5)<|eL eh (pv 8) bV @e)<|ax (eL eh (pv 8) bV @e)<|ax (eL eh (pv 8) bV @e) bh) bh) eF)
   (bS<|xj hu (pv 4) (pv 5) (dq DK @C @r<|ax (pv 6)<|ax (pv 7)<|ax (xi hu (pv 3) (pv 5) @e) bh) @r)))))
  (bS<|dw<|h8<|ax (yq @r @r B.list<|Eh (pv 4) (@r,@r,@r,@r))<|ax oU bh)))),?_)
 have zq:∀{n:?N},n<=1000001->n<au:=λh=>bL h @d;have hes:=mX e;show(_,@r,v,ex e,@r,re,by omega,λpr H1 ps s1 n1 Qb pp1=>?_);show(_,@r,_,@r,pr,q,ps,qs,e,sc,@r,tok,hz,Qb,pp1,s1 _ _ hq0,bp.mono (bC.of_same s1) _ _ hqs,aq4,λsp H2 skv s2 n2 Oh aq5=>?_);intro kd nk;have s12:=s1.trans s2;have EX:=s2 _ _ Qb;have pp2:=pp1.ext (Ext.of_same s2);have s3:=bt nk (.dT []);have hk3:(upd H2 kd<|.dT []) kd=θ (.dT []):=aA;generalize upd H2 kd (.dT [])=H3 at s3 hk3 ⊢;have j4:↑ps=e.post.length:=by rw[pp2.1,Ao,aP]
 have hpz:e.post.length=e.size:=dA e
 show(_,@r,pr,@r,(ps,gF.of<|s3 _ _ EX),Oa (xs:=ps) (λi σ H5=>∃x5 x6 x7 x8 acc bw,σ=[θ v,θ<|.ref q,θ<|.ref pr,θ<|.ref sp,θ<|.ref kd,x5,x6,x7,x8]/\bM H2 H5/\H5 kd=θ @av/\Gx K H5 acc bw/\Good e sc acc/\↑acc=i/\Gv e sc acc (e.post.drop i)=ku e sc)
  (ι,ι,ι,ι,[],[],@r,s3,hk3,Gx.nil,Good.nil,@r,@r) (by rintro i σ H5 _ ⟨_,_,_,_,_,_,_,sm,_⟩;show gF.of (sm _ _ EX)) ?_ ?_)
 .intro i x σ H5 hx hZ;ext;let(x5,x6,x7,x8,acc,bw,rfl,s5,hk5,kn5,gd,hai,Hw):=hZ;let(xx,Uk,prx):=(pp2.ext<|Ext.of_same s5).get hx;ext;rw[Ao,aE]at Uk;have hil:i<e.post.length:=by rw[<-j4];show(ay.mp hx).1
  rw[ag hil]at Uk;have IP:e.post[i]?=θ e.post[i]:=ag hil;have hdr:e.post.drop i=e.post[i]::e.post.drop @X:=fU hil;rw[hdr]at Hw;generalize e.post[i]=y at Uk IP Hw;ext;let(p,t):=y;cases Uk;have pY:=rQ e _ (aD IP);simp only at pY;have Ul:=tok.at pY;have hps:=ub (e:=ex e) (t:=ex t) (p:=p) (by rw[Lx,pY];rfl);let(FR,pw):=gd.own (p:=p) (t:=t) (by rw[hai];show IP);have nin:p∉acc.map (·.1):=by
   rw[gd.places,hai];intro hm;let(j,hj):=Ja hm;rw[pP]at hj;by_cases nM:j<i
   .rw[?p nM]at hj;have:=tM (rY e) hj (rZ IP);omega
   .rw[?n nM]at hj;cases hj
  let(a,pu,tv,rfl,ga,gu,VY):=prx;let(a1,b1,c1,ms,os,rfl,g1,g2,g3,g4,g5):=Aj VY;have hol:↑os=t.own.length:=by rw[g5.length,aP,Fs,aP]
  have h03:t.own.length<=3:=by rw[Ul.len];show Vm _
  let(bs,hbs,sds):=aq5 p (show(e.oy p).isSome=ξ by rw[pY];rfl);ext;have aj0:=s5 _ _ Oh;show(a,_,@r,ga,@r,_,_,@r,_,_,@r,@r,?_);show(_,@r,a1,_,_,.ref c1,@r,@r,g1,@r,c1,os,@r,.inr g4,os.length,@r,by omega,by omega,?_);rw[gI,hol];show JB (λj ys H6=>bM H5 H6/\↑ys=j/\bp K H6 (((qy acc p t.own.length).map eM).take j) ys) (bM.refl _,@r,by rw[mi];show .nil) (λj ys H6 h=>h.2.1) (fe<|zq @o) ?_ ?_
  .rintro j ys H6 hj ⟨s6,hl6,rp6⟩;rw[II];ext;let(kj,j',hr1,xJ):=pw j hj;let(vj,hv1,hv2):=(kn5.ext<|bC.of_same s6).get gd.nodup hr1;ext;show(_,@r,_,@r,_,@r,by change 1<=au;decide,λp8 n8=>?_);have s8:=bt n8 (.tup [.int j]);have hp8:(upd H6 p8<|.tup [.int j]) p8=θ (.tup [.int j]):=aA;generalize upd H6 p8 (.tup [.int j])=H8 at s8 hp8 ⊢;show Ft (eI.of<|s8 _ _<|s6 _ _ gu) hp8 @s (by simp[kP];show fe (zq @o)) λp9 H9 s9 hp9=>?_;have EB:=s8.trans s9;have Z3:H9 p9=θ (.tup<|(kP<|p++[j]).map kV):=by rw[hp9];simp[kP,kV]
   show(kd,vj,@r,by rw[<-hv1];show tf.t (EB _ _<|s6 _ _ hk5) Z3,s6.trans EB,by simp[hl6],?_);rw[gH,aE,xJ];show(bp.mono (bC.of_same EB) _ _ rp6).append (.one<|Rep.mono (bC.of_same EB) _ _ hv2)
  .rintro ys H6 ⟨s6,hl6,rp6⟩ ow now;rw[jm (by rw[aP,FR];show aj _)]at rp6;have s7:=bt now (.lst ys);have hw7:(upd H6 ow<|.lst ys) ow=θ (.lst ys):=aA;generalize upd H6 ow (.lst ys)=H7 at s7 hw7 ⊢;have s57:=s6.trans s7;have rp7:=bp.mono (bC.of_same s7) _ _ rp6;have Qc:∀k∈qy acc p t.own.length,bG k<=10000:=by
    intro k hk;ext;let(j,hj):=Ja hk;have hjl:j<t.own.length:=by rw[<-FR];show(ay.mp hj).1
    let(kj,j',hr1,xJ):=pw j hjl;rw[hj]at xJ;cases xJ;ext;show NF.kinds acc gd j' _ hr1
   have hlen:(qy acc p t.own.length).length=ar t.ko:=by rw[FR,Ul.len]
   have hls:=NF.ko p t pY;let(b,o):=t;simp only[cM.ko]at hlen hls;generalize Yd:qy acc p (cM.node b o).own.length=ks at Qc hlen rp7 Hw;have aq6:=sds.mono (s5.trans s57);have hrd:∀{H8:Hp},bM H7 H8->oF K H8 [.d (py<|ex @R),.l<|ks.map eM,.h (zB K @ac)] [.ref a1,.ref ow,.ref bs]:=λs8=>
    .cons (r:=.d (py<|ex @R)) (Rep.mono (bC.of_same<|s57.trans s8) _ _ VY) (.cons (r:=.l (ks.map eM)) (ow,@r,ys,s8 _ _ hw7,bp.mono (bC.of_same s8) _ _ rp7)<|.cons (r:=.h (zB K @ac)) (bs,@r,aq6.mono s8) .nil)
   have Um:Gv e sc acc ((p,.node b o,)::e.post.drop @X)=match dj b ks (ia e p sc)with
    |some br=>(acc,θ (p++br.1,br.2,),)
    |none=>Gv e sc (acc++[(p,kN b ks @ac,)]) (e.post.drop @X):=by rw[Gv,Yd];rfl
   rw[Um]at Hw;show(_,@r,_,@r,_,@r,_,@r,sp,.ref bs,@r,by rw[<-hbs];show tf.t (s57 _ _ aj0) (s57 _ _ gu),_,_,hrd<|bM.refl _,(b,o,ks,ia e p sc,@r,hlen,Qc,hls,@r),λbv H8 s8 rb=>?_);have rb':Rep K H8 (Vh<|dj b ks @ac) bv:=rb;have VZ:=s57.trans s8;show(_,@r,_,@r,?_);have hdn:=Ts rb';cases vB:dj b ks (ia e p sc)with
   |some br=>
    rw[vB]at Hw rb' hdn;have hc:(!decide (bv=V.fB))=ξ:=by rw[hdn];rfl
    rw[hc];show rO ?_;have kn8:=kn5.ext (bC.of_same (K:=K) VZ);have hk8:=VZ _ _ hk5;unfold Wg;show El @f hk8 kn8 (zq (by have:=gd.le;omega)) λL ns H9 sb9 nL hL rL=>?_;have t9:=LB (K:=K) sb9 hk8;ext;let(ba,bvs,rfl,hba,V0):=Rep.gf (Rep.mono t9 _ _ rb');let(u0,r0,rfl,e0,V0):=V0.split;let(u1,r1,rfl,e1,V0):=V0.split;let(u2,r2,rfl,e2,V0):=V0.split;rw[bp]at V0;subst V0;let(c0,rfl,hc0):=Li e0;ext;have gu9:eI K H9 pu ((kP p).map kV):=t9 _ _ (eI.of<|VZ _ _ gu);have ar7:br.1.length<=1:=J3 vB;show(_,@r,_,@r,ba,_,_,.ref c0,@r,@r,hba,@r,OU gu9 hc0 (by simp[kP];show fe (zq @o)) λcc H10 s10 hcc=>?_);have V1:=bC.of_same (K:=K) s10 _ _ hba;show(_,@r,ba,_,_,u1,@r,@r,V1,@r,_,@r,ba,_,_,u2,@r,@r,V1,@r,by change 3<=au;decide,λpt nt=>?_);have s11:=bt nt (.tup [.ref cc,u1,u2]);have hpt:(upd H10 pt<|.tup [.ref cc,u1,u2]) pt=θ (.tup [.ref cc,u1,u2]):=aA;generalize upd H10 pt (.tup [.ref cc,u1,u2])=H11 at s11 hpt ⊢;show(by change 2<=au;decide,λpz nz=>?_);have Km:=bt nz (.tup [.ref L,.ref pt]);have s9e:=(s10.trans s11).trans Km;have Ye:H2 L=ι:=(s5.trans VZ).free nL;show fin pz L ns (.ref pt) _ (λc o hc=>?_) (eI.of aA) (s12.free Ye) (s9e _ _ hL) ?_ ?_
    .have qT:=s12 _ _ hc;show s9e _ _ (sb9 _ _ (bQ qT nk)<|(s5.trans VZ) _ _ qT)
    .rw[<-Hw];show bp.mono (bC.of_same s9e) _ _ rL
    .rw[<-Hw];show Rep.tuple (eI.of<|Km _ _ hpt) (.cons (Rep.mono (bC.of_same<|s11.trans Km) _ _<|U6 ?_)<|.cons (Rep.mono (bC.of_same s9e) _ _ e1)<|.one<|Rep.mono (bC.of_same s9e) _ _ e2);rw[bK,<-ae8];show hcc
   |none=>
    rw[vB]at Hw rb' hdn;have hc:(!decide (bv=V.fB))=υ:=by rw[hdn];rfl
    rw[hc];show nP ?_;show(_,@r,_,@r,_,@r,_,@r,sp,.ref bs,@r,by rw[<-hbs];show tf.t (VZ _ _ aj0) (VZ _ _ gu),_,_,hrd s8,(b,o,ks,ia e p sc,@r,hlen,vB,@r),λkv H9 s9 rk=>?_);have rk':Rep K H9 (eM<|kN b ks @ac) kv:=rk;have s59:=VZ.trans s9;have Z3:=s59 _ _ hk5;have kn9:=kn5.ext (bC.of_same (K:=K) s59);show(_,@r,_,@r,kd,_,@r,AU.t Z3 (s59 _ _ gu) (by rw[kn9.len];show zq (by have:=gd.le;omega)),?_);have Si:=gd.snoc (p:=p) (t:=.node b o) (by rw[hai];show IP) (by change dj b _ _=ι;rw[Yd];show vB);rw[Yd]at Si;show(_,_,_,_,_,_,@r,λc o' hc=>?_,aA,(kn9.snoc nin rk').ext (Tr Z3),Si,by simp[hai],Hw);rw[be (bQ hc nk)];show s59 _ _ (s5 _ _ hc)
 .intro σ H5 hZ;ext;let(x5,x6,x7,x8,acc,bw,rfl,s5,hk5,kn5,gd,hai,Hw):=hZ;ext;rw[j4,mq @E]at Hw;have Um:(acc,(ι:?O Br),)=ku e sc:=Hw;dsimp only;unfold Wg;show El @f hk5 kn5 (zq (by have:=gd.le;omega)) λL ns H9 sb9 nL hL rL=>?_;show(by change 2<=au;decide,λpz nz=>?_);have Km:=bt nz (.tup [.ref L,.fB]);have Ye:H2 L=ι:=s5.free nL;show fin pz L ns .fB _ (λc o hc=>?_) (eI.of aA) (s12.free Ye) (Km _ _ hL) ?_ ?_
  .have qT:=s12 _ _ hc;show Km _ _ (sb9 _ _ (bQ qT nk)<|s5 _ _ qT)
  .rw[<-Um];show bp.mono (bC.of_same Km) _ _ rL
  .rw[<-Um];show Rep.fB
def Rk:bO ["expr","scope"] ["expr","scope"] (az BO):=@a
def Rm(F:iP K "fault" "fault" BO f fd)(DC:cS P w K mg base 3 "checked" ["expr","scope"] (yz K)):c8 P w K mg base kD 4 f fd ["expr","scope"] (jt K P9):=by
 show F.ok Rk @qc @q
 .ext;let(as,r,h1,(e,sc,rfl,_),_):=h;ext;rw[h1.length];rfl
 ext;let(as,r,h1,(e,sc,rfl,NF,rfl),q):=h;let(v,u,rfl,r1,r2):=h1.two;let(qa,rfl,qs,hq,rq):=r2;ext;show(_,bS<|dw<|eL eh (dq DC hr @r<|ax @Z<|ax (pv 1) bh) bV @e,?_);show(_,@r,_,@r,v,qa,qs,e,sc,@r,NF,r1,hq,rq,λa L ns fv H' s' sq nL hL rL rf=>?_);show(a,_,_,fv,@r,@r,sq,@r,q _ H' s' rf)
def FX:bO ["_law_num","_law_rows"] [] (az uD):=@a
variable{X:Cx}{ρ:?L Sl}{j1 j2:?N}{p1 p2 p3:Pos}
def Rn:VE X ρ (.BinOp (.Constant (.str "x") j1 p1) .Mult (.Constant (.int 30) j2 p2) p3) (.d<|.str W7):=Fv ug Fh @d @d @d @d
variable{j3:?N}{p4 p5:Pos}
def Ro:VE X ρ (.BinOp (.BinOp (.Constant (.str "x") j1 p1) .Mult (.Constant (.int 30) j2 p2) p3) .Add (.Constant (.str "a") j3 p4) p5) (.d<|.str Lk):=Am Rn ug @d
def Yf:VE X ρ (.BinOp (.BinOp (.Constant (.str "x") j1 p1) .Mult (.Constant (.int 30) j2 p2) p3) .Add (.Constant (.str "b") j3 p4) p5) (.d<|.str Td):=Am Rn ug @d
def Uo(F:iP K "_law_base" "_law_base" uD f fd):c8 P w K mg base kD 1 f fd [] (jt K Vk):=by
 show F.zA FX @qd @qa
 .let(rfl,_):=h;show(@r,by simp)
 let(rfl,rfl):=h;change VS _ _ [.un,.un] _;show dJ FX.nd @r @l ?_;show kX FX.nd @r (nU<|aX @l<|aX (dW<|aX Ro @l) @l) ?_;show cf (Ls @l (nU<|aX (dW<|aX Ro @l)<|aX (dW<|aX Yf @l) gw) @r @r @d) @i
def Rp:bO ["expr","scope","outcome","place"] ["expr","scope"] (az wc):=@a
def NG(F:iP K "kind_of" "kind_of" wc f fd)(DC:cS P w K mg base 3 "checked" ["expr","scope"] (yz K)):c8 P w K mg base kD 4 f fd ["expr","scope"] (jt K LH):=by
 show F.ok Rp @qc @q
 .ext;let(as,r,h1,(e,sc,k,rfl,_),_):=h;ext;rw[h1.length];rfl
 ext;let(as,r,h1,(e,sc,k,rfl,NF,hn,hl,hk,rfl),q):=h;let(v,u,rfl,r1,r2):=h1.two;let(qa,rfl,qs,hq,rq):=r2
 ext;show(_,aK (cV (i:=2) Rp.nd @r @A<|dq DC hr @r<|ax @Z<|ax (pv 1) bh)
  (aK (fX (Jg<|KW<|eL eh (pv 2) bV @e) (fi) eF)
  (bS<|dw<|eL eh (eL mS (eL eh (pv 2) bV @e) (UI Od bV) @e) bV @e)),?_)
 show(_,@r,_,@r,v,qa,qs,e,sc,@r,NF,r1,hq,rq,λa L ns fv H' s' sq nL hL rL rf=>?_);rw[hn]at rf;obtain rfl:=Rep.lR rf;show(_,@r,a,_,_,.fB,@r,@r,sq,@r,υ,@r,nP ?_);have hes:=e.size_pos;have hnl:↑ns=e.size:=by rw[rL.length,aP,hl]
 ext;let(nv,hnv,rnv):=rL.get (i:=e.size - 1) (d:=Hs ([],k,)) (by rw[aE,hk];rfl);let(na,nvs,rfl,hna,Z4):=Rep.gf rnv;let(n1,x1,rfl,e1,Z4):=Z4.split;let(n2,x2,rfl,e2,Z4):=Z4.split;rw[bp]at Z4;subst Z4;ext;show(_,@r,a,_,_,.ref L,@r,@r,sq,@r,1,@r,L,ns,_,.ref na,@r,@r,gF.of hL,?_,na,_,_,n2,@r,@r,hna,@r,q _ H' s' e2);unfold vy K7;rw[?n @d,?p @o];change ns[((-1:?I) + (↑ns:?N)).toNat]?=_;rw[show((-1:?I) + (↑ns:?N)).toNat=e.size - 1 from by omega];show hnv
def FY:bO ["_law_found","_law_sizes","_law_todo","_law_one"] ["_law_found"] (az l8):=@a
abbrev qF:?L Kd->?N
 |[]=>0
 |k::r=>bG k + qF r
def qm(a b:?L Kd):qF (a++b)=qF a + qF b:=by
 induction a with
 |nil=>simp[qF]
 |cons x r ih=>rw[df,qF,qF,ih];omega
def Rq(a:?L Kd):↑a<=qF a:=by
 induction a with
 |nil=>show aj _
 |cons x r ih=>rw[qF,aF];have:=Ei x;omega
abbrev Up:?L (Key×V):=[(.inr "num",.int 1,),(.inr "truth",.int 1,),(.inr "list",.int 2,),(.inr "to",.int 3,)]
def uH(K:aa):aS K (.type "tuple") (.type "tuple")=θ ξ/\aS K (.type "str") (.type "str")=θ ξ:=(by first|rfl|kernel_rfl,by first|rfl|kernel_rfl)
def Yg(F:iP K "_law_is_kind" "_law_is_kind" l8 f fd)(B:Plain mg)(B2:JM mg):c8 P w K mg base kD 1 f fd ["_law_found"] (jt K FA):=by
 show F.zA FY @qd @qa
 .let(k,rfl,_):=h;show(@r,by simp)
 ext;let(k,rfl,hz,rfl):=h;ext;change VS _ _ [.d _,.un,.un,.un] _;have hu:(A.deeper<|dY "_law_is_kind" (az l8) ↥s f ez).units+1<cLine:=G6 hr;show TH FY.nd @r (TJ (bw:=Up) (Ap<|Ap<|Ap<|Ap Xr) @r @r @s @s @d) ?_;show kX FY.nd @r @l ?_;have A9:au=16777216:=dC;show ui bN (λm ρ=>∃st x,m=qF st/\qF st<=100000/\ρ=[.d (eM k),.h<|xD<|jR [] Up,.o<|st.map eM,x]) (_,[k],_,@r,by simp only[qF];omega,@r) ?_;intro m dI hZ;ext;let(st,x,rfl,NN,rfl):=hZ;ext;show(_,yr (uV B.len @l @r) @l,λht=>?_,λht=>cf @l @i);rcases gS st with e0|⟨pW,k1,rfl⟩
 .subst e0;show ?A ht @d
 rw[qm]at NN;simp only[qF]at NN;have hlen:=Rq pW;show Fn (xs:=pW.map eM) (d:=eM k1) FY.nd @r @r @s ?_;have hu2:=hu;have fin:∀(ks:?L Kd),qF ks<bG k1->∃m',m'<qF (pW++[k1])/\∃st x,m'=qF st/\qF st<=100000/\[Sl.d (eM k),.h<|xD<|jR [] Up,.o<|pW.map eM++ks.map eM,.d (eM k1)]=[.d (eM k),.h<|xD<|jR [] Up,.o<|st.map eM,x]:=λks Qc=>
  (qF<|pW++ks,by rw[qm,qm];simp only[qF];omega,pW++ks,.d<|eM k1,@r,by rw[qm];omega,by rw[bK])
 cases k1 with
 |num=>
  show bx (k:=υ) (iN<|fF (bq (fq<|c7<|eV B.isinstance B.tuple cR @l @r (uH K).1) @f)<|fF (bq (vV (kW B.len @l) @l) @f) @as) @r ?_;show bx (k:=υ) (bq (rT (kW B.len @l)<|Aq (n:=1) hu @l @l @l @f (@r,@r,@r,@r)) @f) @r ?_;show oP (ys:=[]) @r @r (jq (r':=.o []) (oZ B.list<|Bi @l (uU @l) uT (by intro z;cases z.1)) @f) @r @z (dB<|fin [] @d)
 |truth=>
  show bx (k:=υ) (iN<|fF (bq (fq<|c7<|eV B.isinstance B.tuple cR @l @r (uH K).1) @f)<|fF (bq (vV (kW B.len @l) @l) @f) @as) @r ?_;show bx (k:=υ) (bq (rT (kW B.len @l)<|Aq (n:=1) hu @l @l @l @f (@r,@r,@r,@r)) @f) @r ?_;show oP (ys:=[]) @r @r (jq (r':=.o []) (oZ B.list<|Bi @l (uU @l) uT (by intro z;cases z.1)) @f) @r @z (dB<|fin [] @d)
 |list a=>
  show bx (k:=υ) (iN<|fF (bq (fq<|c7<|eV B.isinstance B.tuple cR @l @r (uH K).1) @f)<|fF (bq (vV (kW B.len @l) @l) @f) @as) @r ?_;show bx (k:=υ) (bq (rT (kW B.len @l)<|Aq (n:=2) hu @l @l @l @f (@r,@r,@r,@r)) @f) @r ?_;show oP (ys:=[eM a]) @r @r (jq (r':=.o [eM a]) (oZ B.list<|Bi @l (uU @l) uT (by intro z;cases z.1)) @f) @r @z (dB<|fin [a] (by simp only[qF,bG];omega))
 |to a b=>
  show bx (k:=υ) (iN<|fF (bq (fq<|c7<|eV B.isinstance B.tuple cR @l @r (uH K).1) @f)<|fF (bq (vV (kW B.len @l) @l) @f) @as) @r ?_;show bx (k:=υ) (bq (rT (kW B.len @l)<|Aq (n:=3) hu @l @l @l @f (@r,@r,@r,@r)) @f) @r ?_;show oP (ys:=[eM a,eM b]) @r @r (jq (r':=.o [eM a,eM b]) (oZ B.list<|Bi @l (uU @l) uT (by intro z;cases z.1)) @f) @r @z (dB<|fin [a,b] (by simp only[qF,bG];omega))
def qG:bO ["_law_kind","_law_wraps","_law_made","_law_k"] ["_law_kind"] (az kQ):=@a
def Yh(F:iP K "_law_sample" "_law_sample" kQ f fd)(B:Plain mg):c8 P w K mg base kD 1 f fd ["_law_kind"] (jt K FC):=by
 show F.zA qG @qd @qa
 .let(k,rfl,_):=h;show(@r,by simp)
 ext;let(k,rfl,hz,rfl):=h;ext;change VS _ _ [.d _,.un,.un,.un] _;have A9:au=16777216:=dC;show kX qG.nd @r @l ?_;show ui bN (λm ρ=>∃ws k',m=bG k'/\↑ws + bG k'<=bG k/\pK k=HE ws (pK k')/\ρ=[.d (eM k'),.o<|ws.map eM,.un,.un]) (_,[],k,@r,by simp,@r,@r) ?_;intro m dI hZ;ext;let(ws,k',rfl,hl,hw,rfl):=hZ;ext;have last:VS (qS kD P w K mg base ["_law_kind","_law_wraps","_law_made","_law_k"] "_law_sample" (az kQ) f ez A outer s H E).N5 (List.drop 5<|dE kQ) [.d (eM k'),.o<|ws.map eM,.d<|py<|ex<|pK k',.un] (λo=>o = .rt (.d<|py<|ex<|pK k)\/(Sl.d (py<|ex<|pK k) = .d .none/\∃ρ,o = .nx ρ)):=by
  have ewl:((ws.map eM).length:?I)=(↑ws:?I):=by simp
  show o7 bN @r (En (i:=(↑ws:?I) - 1) (j:=-1) B.range (jq (xr (uV B.len @l @r) @l)<|by rw[ewl]) @l @l @o) (qh qG.nd @r)
   (λi ρ=>∃x,ρ=[.d (eM k'),.o<|ws.map eM,.d<|py<|ex<|HE (ws.drop<|↑ws - i)<|pK k',x]) (.un,by rw[pJ,m8];rfl) ?_ ?_
  .rintro i d dI hd ⟨x,rfl⟩;have hn:((↑ws:?I) - 1 - -1).toNat=↑ws:=by omega
   rw[hn]at hd;have hi:i<↑ws:=by simpa[pf]using(ay.mp hd).1
   have ed:d = .int ((↑ws - 1 - i:?N):?I):=by
    have:d = .int ((↑ws:?I) - 1 - (i:?N)):=by simpa[pf,hi]using hd.symm
    rw[this];congr 1;omega
   subst ed;have hj:↑ws - 1 - i<↑ws:=by omega
   have hix:vy (ws.map eM) ((↑ws - 1 - i:?N):?I)=θ (eM ws[ws.length - 1 - i]):=ie (by rw[aE,ag hj];rfl);show(_,@r,dJ qG.nd @r (dW<|aX @l<|aX (dW<|aX @l<|aX (uh @l @l @r hix) gw)<|aX @l gw)<|dB (.d<|.int ((↑ws - 1 - i:?N):?I),?_));have e1:ws.drop (↑ws - @X)=ws[ws.length - 1 - i]::ws.drop (↑ws - i):=by
    rw[show ↑ws - @X=↑ws - 1 - i from by omega,fU hj];congr 2;omega
   rw[e1];rfl
  .rintro dI ⟨x,rfl⟩;have hn:(pf ((↑ws:?I) - 1) ((↑ws:?I) - 1 - -1).toNat).length=↑ws:=by simp[pf]
   rw[hn,mx,mr,<-hw];show cf @l @i
 cases k' with
 |to a b=>
  show(_,@l,λ_=>?_,λz=>?A z @ar);simp only[bG]at hl;show uW @r @r @l @z (dJ qG.nd @r @l<|dB (bG b,by simp only[bG];omega,ws++[a],b,@r,by simp;omega,by rw[J6];show hw,by rw[bK];rfl))
 |num=>show(_,@l,λz=>?A z @ar,λ_=>dJ qG.nd @r @l (bx @l @f<|bx @l @f last))
 |truth=>show(_,@l,λz=>?A z @ar,λ_=>dJ qG.nd @r @l (eN @l @f<|dJ qG.nd @r @l<|dB<|bx @l @f last))
 |list a=>show(_,@l,λz=>?A z @ar,λ_=>dJ qG.nd @r @l (bx @l @f<|eN @l @f<|dJ qG.nd @r @l<|dB last))
def xK:bO ["_law_expr","_law_count","_law_todo","_law_part"] ["_law_expr"] (az l9):=@a
def Ur(F:iP K "_law_parts_many" "_law_parts_many" l9 f fd)(B:Plain mg):c8 P w K mg base kD 1 f fd ["_law_expr"] (jt K Vp):=by
 show F.zA xK @qd @qa
 .let(k,rfl,_):=h;show(@r,by simp)
 ext;let(e,rfl,hz,rfl):=h;ext;change VS _ _ [.d _,.un,.un,.un] _;have A9:au=16777216:=dC;show dJ xK.nd @r @l ?_;show kX xK.nd @r @l ?_;show ui bN (λm ρ=>∃(st:?L Ex)(c:?N)(x:Sl),m=b9 st/\c + b9 st=e.size/\ρ=[.d (py e),.d<|.int (c:?N),.o<|st.map py,x]) (_,[e],0,_,@r,by simp[b9],@r) ?_;intro m dI hZ;ext;let(st,c,x,rfl,hc,rfl):=hZ;ext;have hle:=fM st;show(_,yr (uV B.len @l @r) @l,λht=>?_,λht=>?_)
 .rcases gS st with e0|⟨pW,t,rfl⟩
  .subst e0;show ?A ht @d
  let(lb,o):=t;rw[e7]at hc;simp only[b9,cM.size]at hc;have h1:=fM pW;have h2:=fM o;show Fn (xs:=pW.map py) (d:=py (.node lb o)) xK.nd @r @r @s ?_;show dJ xK.nd @r @l ?_;show oP (ys:=o.map py) @r @r (jq (r':=.o (o.map py)) (oZ B.list @l)<|by rw[<-Ai]) @r @z (dB (b9<|pW++o,by rw[e7,e7];simp only[b9,cM.size];omega,pW++o,c+1,.d<|py<|.node lb o,@r,by rw[e7];omega,by rw[show((c+1:?N):?I)=(c:?I)+1 from @r,bK (f:=py) (l₁:=pW) (l₂:=o)];rfl))
 .have h0:st=[]:=by
   cases st with
   |nil=>rfl
   |cons a r=>exfalso;have:=of_decide_eq_false ht;simp at this
  subst h0;simp only[b9]at hc;show cf @l (.inl<|by rw[show c=e.size from by omega])
def Kn:bO ["_law_expr","_law_place","_law_k"] ["_law_expr","_law_place"] (az sG):=@a
def NH(F:iP K "_law_there" "_law_there" sG f fd)(B:Plain mg)(DI:cS P w K mg base 2 "_law_is_place" ["_law_found"] (jt K Hr)):c8 P w K mg base kD 3 f fd ["_law_expr","_law_place"] (jt K LG):=by
 show F.zA Kn @qd @qa
 .ext;let(e,t,p,rfl,_):=h;ext;show(@r,by simp)
 ext;let(e,t,p,rfl,pY,rfl):=h;ext;change VS _ _ [.d _,.d _,.un] _;show bx (k:=υ) (bq (fq<|c7<|cK DI hr (cw @l gO) (p,@r,@r)) @f) @r ?_;show o7 bN @r (JX (xs:=p.map λ(k:?N)=>.int (k:?I)) @l) (qh Kn.nd @r)
  (λi ρ=>∃u x,ρ=[.d (py<|ex u),.d<|JH p,x]/\e.oy (p.take i)=θ u) (e,_,@r,by rw[mi];show gD e) ?_ ?_
 .intro i d dI hd hZ;ext;let(u,x,rfl,hu):=hZ;have hi:i<↑p:=by simpa using(ay.mp hd).1
  have Z2:p[i]?=θ p[i]:=ag hi;rw[aE,Z2]at hd;cases hd;ext;generalize p[i]=k at Z2;have e2:p.take @X=p.take i++[k]:=by rw[gH,Z2];rfl
  obtain⟨u',g2,g3⟩:∃u',u.own[k]?=θ u'/\e.oy (p.take @X)=θ u':=by
   have h1:=pY;rw[(IJ @X p).symm,vU]at h1;cases q:e.oy (p.take @X)with
   |none=>rw[q]at h1;cases h1
   |some u2=>
    have q2:=q;rw[e2,qW,hu]at q2;show(u2,q2,@r)
  let(b,o):=u;have TK:o[k]?=θ u':=g2;have hk:k<↑o:=(ay.mp TK).1;have j4:(Lh<|IM o).length=↑o:=by rw[Ai,Fq];simp
  have ix:vy (Lh<|IM o) (k:?I)=θ (py<|ex u'):=ie (by rw[Ai,Fq,gW,aE,TK];rfl);show(_,@r,bx (k:=υ) (iN<|fF (bq @l @s)<|ir<|bq (Qj @l<|kW (xs:=Lh (IM o)) B.len @l) (by rw[j4];simp;omega)) @r ?_);show dJ Kn.nd @r (mH @l @l ix) (dB (u',_,@r,g3))
 .intro dI hZ;ext;let(u,x,rfl,hu):=hZ;ext;show cf @l @i
def sJ:bO ["_law_expr","_law_place","_law_part","_law_opened","_law_k","_law_j","_law_own"] ["_law_expr","_law_place","_law_part"] (az wg):=@a
def Us(F:iP K "_law_put" "_law_put" wg f fd)(B:Plain mg):c8 P w K mg base kD 1 f fd ["_law_expr","_law_place","_law_part"] (jt K af5):=by
 show F.zA sJ @qd @qa
 .ext;let(e,t,u,p,rfl,_):=h;ext;show(@r,by simp)
 ext;let(e,t,u,p,rfl,pY,hz,rfl):=h;ext;change VS _ _ [.d _,.d _,.d _,.un,.un,.un,.un] _;have A9:au=16777216:=dC;have hpz:=ub (e:=ex e) (t:=ex t) (p:=p) (by rw[Lx,pY];rfl);rw[mX,mX]at hpz;obtain⟨tj,htj⟩:∃tj:?N->Tm,∀j,j<=↑p->e.oy (p.take j)=θ (tj j):=by
  show(λj=>(e.oy<|p.take j).getD e,λj hj=>?_);have h1:=pY;rw[(IJ j p).symm,vU]at h1;cases q:e.oy (p.take j)with
  |none=>rw[q]at h1;cases h1
  |some v=>change θ v=θ ((e.oy<|p.take j).getD e);rw[q];rfl
 have step:∀(j:?N)(hj:j<↑p),(tj j).own[p[j]]?=θ (tj<|j+1):=by
  intro j hj;have h1:=htj (j+1) hj;rw[gH,ag hj]at h1;have h1':e.oy (p.take j++[p[j]])=θ (tj<|j+1):=h1;rw[qW,htj j @o]at h1';show h1'
 have h0:tj 0=e:=by
  have:=htj 0 (cE _);rw[mi,gD]at this;show(bf this).symm
 show kX sJ.nd @r @l ?_;show o7 bN @r (JX (xs:=p.map λ(k:?N)=>.int (k:?I)) @l) (qh sJ.nd @r)
  (λi ρ=>∃x,ρ=[.d (py<|ex<|tj i),.d<|JH p,.d<|py<|ex u,.o ((lJ i).map λj=>py (ex<|tj j)),x,.un,.un]) (_,by rw[h0];rfl) ?_ ?_
 .rintro i d dI hd ⟨x,rfl⟩;have hi:i<↑p:=by simpa using(ay.mp hd).1
  rw[aE,ag hi]at hd;cases hd;have hs:=step i hi;show(_,@r,uW @r @r @l @z ?_);have ix:vy (((tj i).own.map ex).map py) ((p[i]:?N):?I)=θ (py<|ex<|tj @X):=ie (by rw[aE,aE,hs];rfl);show dJ sJ.nd @r (mH (mH (xs:=[.str (Fp (tj i).ko).1,.tuple (Fp (tj i).ko).2,.tuple (((tj i).own.map ex).map py)]) (jq (r:=.d (py<|ex<|tj i)) @l<|by rw[Bp]) @l (by show rfl)) @l ix) (dB (.d<|.int (p[i]:?N),?_));rw[List.range_succ,bK];rfl
 .rintro dI ⟨x,rfl⟩;rw[aP];have epl:((p.map λ(k:?N)=>vM (k:?I)).length:?I)=(↑p:?I):=by simp
  show o7 bN @r (En (i:=(↑p:?I) - 1) (j:=-1) B.range (jq (xr (kW (xs:=p.map λ(k:?N)=>.int (k:?I)) B.len @l) @l)<|by rw[epl]) @l @l @o) (qh sJ.nd @r)
   (λi ρ=>∃x y,ρ=[.d (py<|ex<|tj ↑p),.d<|JH p,.d<|py<|ex<|iD (tj<|↑p - i) (p.drop<|↑p - i) u,.o ((lJ ↑p).map λj=>py (ex<|tj j)),x,y.1,y.2]) (x,(.un,.un,),by rw[pJ,m8,lY]) ?_ ?_
  .intro i d dI hd hZ;ext;let(x,(y1,y2),rfl):=hZ;have hn:((↑p:?I) - 1 - -1).toNat=↑p:=by omega
   rw[hn]at hd;have hi:i<↑p:=by simpa[pf]using(ay.mp hd).1
   have ed:d = .int ((↑p - 1 - i:?N):?I):=by
    have:d = .int ((↑p:?I) - 1 - (i:?N)):=by simpa[pf,hi]using hd.symm
    rw[this];congr 1;omega
   subst ed;ext;have hj:↑p - 1 - i<↑p:=by omega
   have hs:=step _ hj;have hsj:↑p - 1 - i+1=↑p - i:=by omega
   rw[hsj]at hs;have edr:p.drop (↑p - @X)=p[p.length - 1 - i]::p.drop (↑p - i):=by
    rw[show ↑p - @X=↑p - 1 - i from by omega,fU hj,hsj]
   have hop:vy ((lJ ↑p).map λj=>py (ex<|tj j)) ((↑p - 1 - i:?N):?I)=θ (py<|ex<|tj<|↑p - 1 - i):=ie (by simp[hj]);have hpx:vy (p.map λ(k:?N)=>vM (k:?I)) ((↑p - 1 - i:?N):?I)=θ (.int (p[p.length - 1 - i]:?N)):=ie (by rw[aE,ag hj];rfl);rw[show ↑p - @X=↑p - 1 - i from by omega]at edr;generalize hjd:↑p - 1 - i=j at hj hs edr hop hpx hsj;have hol:p[j]<(tj j).own.length:=(ay.mp hs).1;have ar8:=fM (tj j).own;have htz:=ub (e:=ex e) (t:=ex (tj j)) (p:=p.take j) (by rw[Lx,htj j @o];rfl);rw[mX,mX,nB]at htz;show(_,@r,kX sJ.nd @r (oZ (xs:=((tj j).own.map ex).map py) B.list<|mH (xs:=[.str (Fp (tj j).ko).1,.tuple (Fp (tj j).ko).2,.tuple (((tj j).own.map ex).map py)]) (jq (uh @l @l @r hop)<|by rw[Bp]) @l (by show rfl)) ?_);show Qk (n:=(p[j]:?N)) (j:=p[j]) @r @r @l (mH (xs:=p.map λ(k:?N)=>.int (k:?I)) @l @l hpx) (by unfold K7;rw[?p @o,?p @z];simp) ?_;show dJ sJ.nd @r (dW<|aX (mH (xs:=[.str (Fp (tj j).ko).1,.tuple (Fp (tj j).ko).2,.tuple (((tj j).own.map ex).map py)]) (jq (uh @l @l @r hop)<|by rw[Bp]) @l (by show rfl)) (aX (mH (xs:=[.str (Fp (tj j).ko).1,.tuple (Fp (tj j).ko).2,.tuple (((tj j).own.map ex).map py)]) (jq (uh @l @l @r hop)<|by rw[Bp]) @l (by show rfl)) (aX (To B.tuple @l @r) gw))) ?_;show Lu (i:=6) @r (dB (x,(.d<|.int (j:?N),.l<|(((tj j).own.map ex).map py).set p[j] (py<|ex<|iD (tj<|↑p - i) (p.drop<|↑p - i) u),),?_));have e3:py (ex<|iD (tj j) (p.drop j) u) = .tuple [.str (Fp (tj j).ko).1,.tuple (Fp (tj j).ko).2,.tuple ((((tj j).own.map ex).map py).set p[j] (py<|ex<|iD (tj<|↑p - i) (p.drop<|↑p - i) u))]:=by
    rw[edr,lH hs,Bp];simp[cM.ko,cM.own,List.map_set]
   rw[show ↑p - @X=j from by omega,e3];rfl
  .rintro dI ⟨x,y,rfl⟩;have hn:(pf ((↑p:?I) - 1) ((↑p:?I) - 1 - -1).toNat).length=↑p:=by simp[pf]
   rw[hn,mx,mr,h0];show cf @l @i
def xM:bO ["_law_expr","_law_found","_law_part","_law_kind"] ["_law_expr","_law_found"] (az ql):=@a
def Yi(K:aa):aS K (.type "tuple") (.type "tuple")=θ ξ:=by first|rfl|kernel_rfl
def Ut(F:iP K "_law_mend" "_law_mend" ql f fd)(B:Plain mg)(DI:cS P w K mg base 1 "_law_is_kind" ["_law_found"] (jt K FA))(DS:cS P w K mg base 1 "_law_sample" ["_law_kind"] (jt K FC))(DP:cS P w K mg base 1 "_law_put" ["_law_expr","_law_place","_law_part"] (jt K af5))(DT:cS P w K mg base 3 "_law_there" ["_law_expr","_law_place"] (jt K LG)):c8 P w K mg base kD 61 f fd ["_law_expr","_law_found"] (jt K Vq):=by
 show F.zA xM @qd @qa
 .ext;let(e,t,pl,d,f,rfl,_):=h;ext;show(@r,by simp)
 ext;let(e,t,pl,d,f0,rfl,pY,hz,hd,hf,Ec,rfl):=h;ext;change VS _ _ [.d _,.d<|.tuple [JH pl,rX d,rX f0],.un,.un] _;have hu:(A.deeper<|dY "_law_mend" (az ql) ↥s f ez).units+1000<cLine:=by have:=hr.un;omega
 show bx (k:=υ) (iN<|fF (bq (fq<|c7<|eV B.isinstance B.tuple cR @l @r<|Yi K) @f)<|fF (bq (rT (kW B.len @l) @l) @f)<|ir<|bq (fq<|c7<|cK DT @C (cw @l<|cw @l gO) (e,t,pl,@r,pY,@r)) @f) @r ?_;show dJ xM.nd @r @l ?_;show o7 bN @r (JX (xs:=[rX d,rX f0])<|jq (r':=.d (.tuple [rX d,rX f0])) (Bi @l (uU @l) uT (by intro z;cases z.1)) @f) (qh xM.nd @r)
  (λi ρ=>∃x,ρ=[.d (py<|ex e),.d<|.tuple [JH pl,rX d,rX f0],.d<|py<|ex<|.node (.num 1) [],x]) (_,@r) ?_ ?_
 .rintro i dd dI M6 ⟨x,rfl⟩;obtain⟨o,ho,WA⟩:∃o:?O Kd,dd=rX o/\∀k,o=θ k->bG k<=1000:=by
   match i,M6 with
   |0,M6=>show(d,by simpa using M6.symm,hd)
   |1,M6=>show(f0,by simpa using M6.symm,hf)
   |i+2,M6=>simp at M6
  subst ho;show(_,@r,?_);cases o with
  |none=>show bx (k:=υ) (iN<|rV<|bq (lW @l) @f) @r (dB (_,@r))
  |some k=>
   have hk:=WA k @r;show bx (k:=υ) (iN<|kU (bq (lW (ra:=.d (eM k)) @l) (by rw[Fu];rfl)) (kT<|bq (fq<|c7<|cK DI @C (cw @l gO) (k,@r,by omega,@r)) @f)) @r (dB (_,@r))
 .rintro dI ⟨x,rfl⟩;cases d with
  |some m=>
   let(k,rfl,hmk):=Ec m @r;have hm:=hd m @r;have hdm:=LA m;show eN (bq (lW (ra:=.d (eM m)) @l) (by rw[Fu];rfl)) @r ?_;show bx (k:=υ) (bq (Fk (n:=1000) (d:=eM m) (d':=eM k) hu @l @l @r @r (uk m) (uk k)<|.inl (by rw[xw];omega)) (by rw[Fw];simp[hmk])) @r ?_;show dJ xM.nd @r (cK DS @C (cw @l gO) (m,@r,by omega,@r)) (dB ?_);show cf (cK DP @C (cw @l<|cw @l<|cw @l gO) (e,t,pK m,pl,@r,pY,hz,@r)) @i
  |none=>
   show PY (bq (lW (ra:=.d .none) @l) @f) @r ?_;cases f0 with
   |some k=>
    show eN (bq (lW (ra:=.d (eM k)) @l) (by rw[Fu];rfl)) @r ?_;show dJ xM.nd @r @l (dB<|dB ?_);show cf (cK DP @C (cw @l<|cw @l<|cw @l gO) (e,t,IQ,pl,@r,pY,hz,@r)) @i
   |none=>
    show bx (bq (lW (ra:=.d .none) @l) @f) @r (dB ?_);show cf (cK DP @C (cw @l<|cw @l<|cw @l gO) (e,t,.node (.num 1) [],pl,@r,pY,hz,@r)) @i
def Yj:bO ["_law_script","_law_k"] ["_law_script","_law_k"] (az yQ):=@a
def Uu(F:iP K "_law_at" "_law_at" yQ f fd)(B:Plain mg):c8 P w K mg base kD 1 f fd ["_law_script","_law_k"] (jt K<|ag4 K):=by
 show F.ok Yj @qc @q
 .ext;let(as,r,h1,(ns,k,rfl,_),_):=h;ext;rw[h1.length];rfl
 ext;let(as,r,h1,(ns,k,rfl,rfl),q):=h;let(v,u,rfl,r1,r2):=h1.two;let(a,rfl,hS'):=r1;obtain rfl:=gT.cX r2;ext;have hS:=hS'.sq;show(_,aK (fX (fj GU (pv 1) (eW gc @r B.len gx<|ax @Z bh)<|dP _) (bS<|dw<|eL mS @Z (pv 1) @e) eF)<|bS<|dw bV,?_);show(_,@r,_,@r,a,_,@r,.inl hS,_,_,@r,@r,_,@r,tW (λc=>?_)<|λc=>?_)
 .have h1:(k:?I)<((ns.map V.int).length:?N):=?o c;rw[aP]at h1;have h2:k<↑ns:=by omega
  have e1:(ns.map V.int)[k]?=θ (.int ns[k]):=by rw[aE,ag h2];rfl
  show(_,@r,_,@r,a,_,_,_,@r,@r,hS,ie e1,q _ H @F (by rw[pS,ag h2];show iq.int))
 .have h1:¬(k:?I)<((ns.map V.int).length:?N):=λz=>c (?t z);rw[aP]at h1;show q _ H @F (by rw[pS,fV @o];show iq.int)
def Yk:bO ["self","head","rest"] ["self","head","rest"] (az jw):=@a
variable{c:Cs}{CS CT:af}
def Yl(F:iP K "__init__" "Chain.__init__" jw f fd)(M:j6 K mg c CS CT):c8 P w K mg base kD 1 f fd ["self","head","rest"] (Bs c.ch 2 Nq):=by
 show F.ok Yk @qc @q
 .ext;let(x,dx,us,rfl,hl,_):=h;ext;rw[aF,hl];rfl
 ext;let(x,dx,us,rfl,hl,hx,q):=h;let(a,b,rfl):=lz2 hl;ext;show(_,aK (km @Z (pv 1) @r)<|aK (km @Z (pv 2) @r)<|bS<|km @Z oU @r,?_);show(_,@r,_,@r,x,c.ch,dx,[],@r,hx,M.cC.cl,M.aC.1,(by change 0<1000;decide),_,@r,_,@r,x,c.ch,dx,_,@r,aA,M.cC.cl,M.aC.2.1,(by change 1<1000;decide),_,@r,x,c.ch,dx,_,@r,aA,M.cC.cl,M.aC.2.2,?_,?_)
 .show bL (show _<=2 by show bX rfl) @d
 .rw[ju,ju];show q
def Ym:bO ["self","name","body","known"] ["self","name","body","known"] (az iw):=@a
def Yn(F:iP K "__init__" "Closure.__init__" iw f fd)(M:j6 K mg c CS CT):c8 P w K mg base kD 1 f fd ["self","name","body","known"] (Bs c.cl 3 Qt):=by
 show F.ok Ym @qc @q
 .ext;let(x,dx,us,rfl,hl,_):=h;ext;rw[aF,hl];rfl
 ext;let(x,dx,us,rfl,hl,hx,q):=h;let(a,b,d,rfl):=lz3 hl;ext;show(_,aK (km @Z (pv 1) @r)<|aK (km @Z (pv 2) @r)<|aK (km @Z (pv 3) @r)<|bS<|km @Z oU @r,?_);show(_,@r,_,@r,x,c.cl,dx,[],@r,hx,M.cL.cl,M.aL.1,(by change 0<1000;decide),_,@r,_,@r,x,c.cl,dx,_,@r,aA,M.cL.cl,M.aL.2.1,(by change 1<1000;decide),_,@r,_,@r,x,c.cl,dx,_,@r,aA,M.cL.cl,M.aL.2.2.1,?_,_,@r,x,c.cl,dx,_,@r,aA,M.cL.cl,M.aL.2.2.2,?_,?_)
 .show bL (show _<=2 by show bX rfl) @d
 .show bL (show _<=3 by show bX rfl) @d
 .rw[ju,ju,ju];show q
def Yo:bO ["self","name","value","others"] ["self","name","value","others"] (az jx):=@a
def Yp(F:iP K "__init__" "Known.__init__" jx f fd)(M:j6 K mg c CS CT):c8 P w K mg base kD 1 f fd ["self","name","value","others"] (Bs c.kn 3 FE):=by
 show F.ok Yo @qc @q
 .ext;let(x,dx,us,rfl,hl,_):=h;ext;rw[aF,hl];rfl
 ext;let(x,dx,us,rfl,hl,hx,q):=h;let(a,b,d,rfl):=lz3 hl;ext;show(_,aK (km @Z (pv 1) @r)<|aK (km @Z (pv 2) @r)<|bS<|km @Z (pv 3) @r,?_);show(_,@r,_,@r,x,c.kn,dx,[],@r,hx,M.cN.cl,M.aN.1,(by change 0<1000;decide),_,@r,_,@r,x,c.kn,dx,_,@r,aA,M.cN.cl,M.aN.2.1,(by change 1<1000;decide),_,@r,_,@r,x,c.kn,dx,_,@r,aA,M.cN.cl,M.aN.2.2,?_,?_)
 .show bL (show _<=2 by show bX rfl) @d
 .rw[ju,ju];show q
def Yq:bO ["self","value"] ["self","value"] (az jy):=@a
def Yr(F:iP K "__init__" "Given.__init__" jy f fd)(M:j6 K mg c CS CT):c8 P w K mg base kD 1 f fd ["self","value"] (Bs c.gv 1 Qu):=by
 show F.ok Yq @qc @q
 .let(x,dx,us,rfl,hl,_):=h;rw[aF,hl];rfl
 let(x,dx,us,rfl,hl,hx,q):=h;let(a,rfl):=lz1 hl;show(_,aK (km @Z (pv 1) @r)<|bS<|km @Z oU @r,?_);show(_,@r,_,@r,x,c.gv,dx,[],@r,hx,M.cG.cl,M.aG.1,(by change 0<1000;decide),_,@r,x,c.gv,dx,_,@r,aA,M.cG.cl,M.aG.2,?_,?_)
 .show bL (show _<=1 by show bX rfl) @d
 .rw[ju];show q
def Ys:bO ["value"] ["value"] (az yN):=@a
def Yt:bO ["value"] ["value"] (az uA):=@a
def Yu(F:iP K "is_whole" "is_whole" uA f fd)(B:Plain mg)(M:j6 K mg c CS CT):c8 P w K mg base kD 1 f fd ["value"] (jt K<|LN c):=by
 show F.zA Yt @qd @qa
 .let(v,rfl,_):=h;show(@r,by simp)
 let(v,rfl,rfl):=h;change VS _ _ [.d (iM c v)] _;cases v with
 |int i=>rw[qz];show cf (mI (gG B.isinstance B.int gL xE @f @l) λ_=>yt (JV<|gG B.isinstance B.bool iR xE (xo K) @l)) @i
 |bool b=>rw[sh];show cf (mI (gG B.isinstance B.int gL Bt (by first|rfl|kernel_rfl) @l) λ_=>yt (JV<|gG B.isinstance B.bool iR Bt (by first|rfl|kernel_rfl) @l)) @i
 |chain xs=>show cf (mI (k:=ξ) (gG B.isinstance B.int gL (M.XB<|.chain xs) M.kI.1 @l) λz=>nomatch z) @i
 |dM x b ρ=>show cf (mI (k:=ξ) (gG B.isinstance B.int gL (M.XB<|.dM x b ρ) M.kI.2 @l) λz=>nomatch z) @i
def Ko:bO ["name","known","link"] ["name","known"] (az uy):=@a
def Yv(F:iP K "value_of" "value_of" uy f fd)(M:j6 K mg c CS CT)(DO:cS P w K mg base 6 "opened" ["value"] (NV K<|QB c)):c8 P w K mg base @B 7 f fd ["name","known"] (NV K<|HJ c CS):=by
 show F.okE Ko (λas o h=>?_) @qe
 .ext;let(x,ρ,rfl,_):=h;ext;show(@r,by simp)
 ext;let(x,ρ,rfl,ho):=h;ext;change VX _ _ _ [.d @S,.d<|sU c ρ,.un] _;show lz Ko.nd @r FK.kept @l ?_;show HG gg.own (λm dI=>∃r:MR,m=↑r/\dI=[.d @S,.d<|sU c ρ,.d (sU c r)]/\r.get x=ρ.get x) (_,ρ,@r,@r,@r) ?_;intro m dI hZ;ext;let(r,rfl,rfl,hg):=hZ;ext;cases r with
 |nil=>
  rw[J7];show(υ,bq (lW @l vz) @f,@n,λ_=>?_);rw[<-hg]at ho;show ph gg M.eS (hE CS (by rw[ho];rfl))
 |cons p r=>
  let(y,v):=p;rw[v7];show(ξ,bq (lW @l vz) @f,@qb,@n);show cH (Fm (mJ M.cN.cl M.aN.1 @l @r) @l) (λhy=>?_) (λhy=>?_)
  .have e:y=x:=by simpa using hy
   have:ρ.get x=θ v:=by rw[<-hg];simp[MR.get,e]
   rw[this]at ho;show QA (d:=iM c v) DO hr (FK.ev H) (cw (mJ M.cN.cl M.aN.2.1 @l @r) gO) (v,@r,@r) (_,ho,@r)
  .have e:y≠x:=by simpa using hy
   show cB ?_;show lz Ko.nd @r FK.kept (mJ M.cN.cl M.aN.2.2 @l @r) (cB ?_);show(↑r,by simp,r,@r,@r,by rw[<-hg];simp[MR.get,e])
def Yw:bO ["part","condition"] ["part","condition"] (az rj):=@a
def Yx(F:iP K "chosen" "chosen" rj f fd)(M:j6 K mg c CS CT):c8 P w K mg base @B 1 f fd ["part","condition"] (oI K<|FG c CS):=by
 show F.Qq Yw (λas o h=>?_) @qe
 .ext;let(a,b,e,l,rfl,_):=h;ext;show(@r,by simp)
 ext;let(a,b,e,l,rfl,ho):=h;ext;change VX _ _ _ [.d (gz<|.cond a b e),.d (iM c l)] _;rw[gz];have no:TM ξ (iM c l)=υ->TM υ (iM c l)=υ->o = .inr CS->VX (qS @B P w K mg base ["part","condition"] "chosen" (az rj) f ez A outer s H E) (λH0 _ _=>H0=H) (dE rj) [.d (.tuple [.str "if",.tuple [],.tuple [gz a,gz b,gz e]]),.d (iM c l)] λt=>∃r,o = .inl r/\(t = .rt r\/(r = .d .none/\∃ρ,t = .nx ρ)):=by
  intro h1 h2 h3;show cH (Bu @l) (λz=>by rw[h1]at z;cases z) (λ_=>cB ?_);show cH (Bu @l) (λz=>by rw[h2]at z;cases z) (λ_=>cB ?_);show ph gg M.eS (hE CS h3)
 cases l with
 |bool t=>
  rw[sh];cases t with
  |true=>show cH (k:=ξ) (bq (Bu @l) @f) (λ_=>uo @l (_,ho,.inl @r)) @n
  |false=>show cH (k:=υ) (bq (Bu @l) @f) @n (λ_=>cB (cH (k:=ξ) (bq (Bu @l) @f) (λ_=>uo @l (_,ho,.inl @r)) @n))
 |int i=>show no (by rw[qz];rfl) (by rw[qz];rfl) ho
 |chain xs=>let(h,r,e',_):=uZ c xs;show no (by rw[e'];rfl) (by rw[e'];rfl) ho
 |dM x b' ρ=>show no (by rw[pj];rfl) (by rw[pj];rfl) ho
def Yy:bO ["member","others"] ["member","others"] (az nX):=@a
def Yz(F:iP K "put_in_front" "put_in_front" nX f fd)(B:Plain mg)(M:j6 K mg c CS CT)(MC:Made P w K mg base "Chain" c.ch 2 Nq):c8 P w K mg base @B 4 f fd ["member","others"] (oI K<|Qx c CS):=by
 show F.Qq Yy (λas o h=>?_) @qe
 .ext;let(m,l,rfl,_):=h;ext;show(@r,by simp)
 ext;let(m,l,rfl,ho):=h;ext;change VX _ _ _ [.d (iM c m),.d (iM c l)] _;show cH (fq<|c7 (sf B.isinstance M.mC (M.XB l) (M.af8 l) @l) @h) (λz=>?_) (λz=>cB ?_)
 .show ph gg M.eS (hE CS ?_);cases l<;>first|show ho|(simp[MV.Nr,MV.Qv,MV.XC]at z)
 .cases l with
  |chain xs=>
   ext;let(g,Ss,ps,m1,m2,m3,m4):=MC;ext;show uo (r:=.d (iM c<|.chain (m::xs))) ?_ (_,ho,.inl @r);rw[show iM c (.chain (m::xs))=qU c.ch [("head",oX c m,),("rest",iM c<|.chain xs,),("outside",.none,)]from by simp[iM,E5,oX]];show kY m1 m2 m3 m4 @D @l @r λH us r=>?_;ext;let(v1,r1,rfl,e1,r):=r.split;let(v2,r2,rfl,e2,r):=r.split;rw[bp]at r;subst r;ext;show .cons (e1.eit M.cs) (.cons e2<|.cons .fB .nil)
  |int i=>show ?A z (by simp[MV.Nr])
  |bool i=>show ?A z (by simp[MV.Nr])
  |dM x b ρ=>show ?A z (by simp[MV.Nr])
def YA:bO ["function","argument"] ["function","argument"] (az yP):=@a
def YB(F:iP K "called" "called" yP f fd)(B:Plain mg)(M:j6 K mg c CS CT)(MN:Made P w K mg base "Known" c.kn 3 FE):c8 P w K mg base @B 4 f fd ["function","argument"] (oI K<|LO c CS):=by
 show F.Qq YA (λas o h=>?_) @qe
 .ext;let(m,l,rfl,_):=h;ext;show(@r,by simp)
 ext;let(m,l,rfl,ho):=h;ext;change VX _ _ _ [.d (iM c m),.d (iM c l)] _;show cH (fq<|c7 (sf B.isinstance M.mL (M.XB m) (M.af9 m) @l) @h) (λz=>?_) (λz=>cB ?_)
 .show ph gg M.eS (hE CS ?_);cases m<;>first|show ho|(simp[MV.Nr,MV.Qv,MV.XC]at z)
 .cases m with
  |dM x b ρ=>
   ext;let(g,Ss,ps,m1,m2,m3,m4):=MN;ext;show uo (r:=.d (lG c<|.gY b ((x,l,)::ρ))) ?_ (_,ho,.inl @r);rw[lG,v7,pj];show dW (aX (ib M)<|aX (mJ M.cL.cl M.aL.2.1 @l @r)<|aX ?_ gw);show kY m1 m2 m3 m4 @D (aX (mJ M.cL.cl M.aL.1 @l @r)<|aX @l<|aX (mJ M.cL.cl M.aL.2.2.1 @l @r) gw) @r λH us r=>?_;ext;let(v1,r1,rfl,e1,r):=r.split;let(v2,r2,rfl,e2,r):=r.split;let(v3,r3,rfl,e3,r):=r.split;rw[bp]at r;subst r;ext;show .cons e1 (.cons (e2.eit M.cs)<|.cons e3 .nil)
  |int i=>show ?A z (by simp[MV.Qv])
  |bool i=>show ?A z (by simp[MV.Qv])
  |chain xs=>show ?A z (by simp[MV.Qv])
def Rr:bO ["part","subject","known","with_head"] ["part","subject","known"] (az yO):=@a
def YC(F:iP K "parted" "parted" yO f fd)(B:Plain mg)(M:j6 K mg c CS CT)(MN:Made P w K mg base "Known" c.kn 3 FE):c8 P w K mg base @B 4 f fd ["part","subject","known"] (oI K<|FH c CS):=by
 show F.Qq Rr (λas o h=>?_) @qe
 .ext;let(k,h,t,a,b,e,l,ρ,rfl,_):=h;ext;show(@r,by simp)
 ext;let(k,h,t,a,b,e,l,ρ,rfl,ho):=h;ext;change VX _ _ _ [.d (gz<|.case k h t a b e),.d<|iM c l,.d<|sU c ρ,.un] _;rw[gz];show cH (fq<|c7 (sf B.isinstance M.mC (M.XB l) (M.af8 l) @l) @h) (λz=>?_) (λz=>cB ?_)
 .show ph gg M.eS (hE CS ?_);cases l<;>first|show ho|(simp[MV.Nr,MV.Qv,MV.XC]at z)
 .cases l with
  |chain xs=>
   ext;let(hd,rs,e',h0,h1):=uZ c xs;ext;rw[e'];cases xs with
   |nil=>
    obtain rfl:=h0 @r;show cH (k:=ξ) (bq (vW (mJ M.cC.cl M.aC.2.1 @l @r) vz) @f) (λ_=>uo @ai (_,ho,.inl @r)) @n
   |cons y ys=>
    let(rfl,rfl):=h1 y ys @r;show cH (k:=υ) (bq (vW (mJ M.cC.cl M.aC.2.1 @l @r) vz) (by let(h',r',e2,_):=uZ c ys;rw[e2];rfl)) @n (λ_=>cB ?_);ext;let(g,Ss,ps,m1,m2,m3,m4):=MN;ext;show lz Rr.nd @r (λ_ _ _ _ h=>h) (kY m1 m2 m3 m4 @D (aX @l<|aX (mJ M.cC.cl M.aC.1 @l @r) @l) @r λH us r=>As r) ?_;rw[<-v7];show uo (r:=.d (lG c<|.gY e ((t,.chain ys,)::(h,y,)::ρ))) ?_ (_,ho,.inl @r);rw[lG,v7 c t];show dW (aX (ib M)<|aX @l<|aX (kY m1 m2 m3 m4 @D (aX @l<|aX (mJ M.cC.cl M.aC.2.1 @l @r) @l) @r λH us r=>Qw M.cs r) gw)
  |int i=>show ?A z (by simp[MV.Nr])
  |bool i=>show ?A z (by simp[MV.Nr])
  |dM x b ρ=>show ?A z (by simp[MV.Nr])
def YD:bO ["word","first","second"] ["word","first","second"] (az uz):=@a
def YE(F:iP K "reckoned" "reckoned" uz f fd)(M:j6 K mg c CS CT)(DW:cS P w K mg base 1 "is_whole" ["value"] (jt K<|LN c)):c8 P w K mg base @B 2 f fd ["word","first","second"] (oI K<|Vs c CS):=by
 show F.Qq YD (λas o h=>?_) @qe
 .ext;let(ad,m,l,rfl,_):=h;ext;show(@r,by simp)
 ext;let(ad,m,l,rfl,ho):=h;ext;change VX _ _ _ [.d (.str<|if ad then "add" else "less"),.d<|iM c m,.d (iM c l)] _;show cH (iN<|ae5 (fq<|c7 (cK DW hr @l (m,@r,@r)) @h) λ_=>ir (fq<|c7 (cK DW hr @l (l,@r,@r)) @h)) (λz=>?_) (λz=>cB ?_)
 .show ph gg M.eS (hE CS ?_);cases m<;>cases l<;>first|show ho|(simp[MV.Nr,MV.Qv,MV.XC]at z)
 .cases m with
  |int i=>
   cases l with
   |int j=>
    rw[qz,qz];cases ad with
    |true=>show cH (k:=ξ) (bq (Fm @l @l) @y) (λ_=>uo @l (_,ho,.inl @r)) @n
    |false=>show cH (k:=υ) (bq (Fm @l @l) @y) @n (λ_=>cB (uo (Fj GU @l @l (λH u w Q rx ry q=>(i,j,gT.cX rx,gT.cX ry,q _ H @F iq.bool))<|dP _) (_,ho,.inl @r)))
   |_=>show ?A z (by simp[MV.XC])
  |_=>show ?A z (by simp[MV.XC])
def og:bO ["part","known","waiting","done","word"] ["part","known","waiting","done"] (az qC):=@a
def YF(F:iP K "begin_part" "begin_part" qC f fd)(M:j6 K mg c CS CT)(MC:Made P w K mg base "Chain" c.ch 2 Nq)(ML:Made P w K mg base "Closure" c.cl 3 Qt)(DV:nS P w K mg base 7 "value_of" ["name","known"] (NV K<|HJ c CS)):c8 P w K mg base @B 8 f fd ["part","known","waiting","done"] (TY K<|ag0 c CS):=by
 show F.ap3 og @d @r (λez A outer s H E wa da d1 d2 xs ys o hr h hE=>?_);ext;let(e,ρ,w',d,rfl,rfl,rfl,rfl,hw,hd,ho):=h;ext;change VX _ _ _ [.d (gz e),.d<|sU c ρ,.o<|wl c w',.o<|dl c d,.un] _;have A9:au=16777216:=dC;have z1:(dl c d).length<au:=by rw[Qy];omega
 have z2:(wl c w').length<au:=by rw[FI];omega
 have z3:∀a,((wl c w')++[a]).length<au:=by intro a;rw[aH,FI];simp;omega
 have z4:∀a b,(((wl c w')++[a])++[b]).length<au:=by intro a b;rw[aH,aH,FI];simp;omega
 have kp:Kept (vC wa da H) 4:=vC.kept @d @d;cases e with
 |num i=>
  rw[gz];show lz og.nd @r kp @l ?_;show cH (k:=ξ) (iN<|JT @p) @qb @n;show eB @r @r @l z1 (cB<|cB (_,_,ho,@r,@r,?_));simp[tz,lQ,iE,qz]
 |truth b=>
  rw[gz];show lz og.nd @r kp @l ?_;show cH (k:=ξ) @zz @qb @n;show eB @r @r @l z1 (cB<|cB (_,_,ho,@r,@r,?_));simp[tz,lQ,iE,sh]
 |nil k=>
  rw[gz];show lz og.nd @r kp @l ?_;show cH (k:=υ) @zz @n @qb;show cH (k:=ξ) @p @qb @n;ext;let(g,Ss,ps,m1,m2,m3,m4):=MC;ext;show eB @r @r (kY m1 m2 m3 m4 @D @l @r λH us r=>FF r) z1 (cB<|cB<|cB (_,_,ho,@r,@r,?_));simp[tz,lQ,iE,iM,E5]
 |name x=>
  rw[gz];show lz og.nd @r kp @l ?_;show cH (k:=υ) @zz @n @qb;show cH (k:=υ) @p @n @qb;show cH (k:=ξ) @p @qb @n;cases q:ρ.get x with
  |some v=>
   show BB (o:=.inl (.d<|iM c v)) gg DV @D (vC.ev wa da H) @r @r @l (x,ρ,@r,by rw[q]) (λr z=>by cases z;show(_,@r)) z1 (λC z=>nomatch z) (λdd z=>?_);cases z
   iterate 4 show cB ?_
   show(_,_,ho.trans (by rw[lQ,q];rfl),@r,@r,?_);simp[iE]
  |none=>
   show BB (o:=.inr CS) gg DV @D (vC.ev wa da H) @r @r @l (x,ρ,@r,by rw[q]) (λr z=>nomatch z) z1 (λC z=>hE C (by cases z;rw[ho,lQ,q];rfl)) (λdd z=>nomatch z)
 |lam x k b=>
  rw[gz];show lz og.nd @r kp @l ?_;show cH (k:=υ) @zz @n @qb;show cH (k:=υ) @p @n @qb;show cH (k:=υ) @p @n @qb;show cH (k:=ξ) @p @qb @n;ext;let(g,Ss,ps,m1,m2,m3,m4):=ML;ext;show eB @r @r (kY m1 m2 m3 m4 @D @l @r λH us r=>LM r) z1 ?_
  iterate 5 show cB ?_
  show(_,_,ho,@r,@r,?_);simp[tz,lQ,iE,pj]
 |add a b=>
  rw[gz];show lz og.nd @r kp @l ?_;show cH (k:=υ) @zz @n @qb;show cH (k:=υ) @p @n @qb;show cH (k:=υ) @p @n @qb;show cH (k:=υ) @p @n @qb;show eB @r @r (dW<|aX (ur M) @l) z2 ?_;show cH (k:=ξ) (iN<|kU @p<|kT @p) @qb @n;show eB @r @r @ai (z3 _) (cB ?_);show eB @r @r @ai (z4 _ _) ?_
  iterate 5 show cB ?_
  show(_,_,ho,@r,?_,@r);simp[tz,lQ,mZ,lG,gz]
 |less a b=>
  rw[gz];show lz og.nd @r kp @l ?_;show cH (k:=υ) @zz @n @qb;show cH (k:=υ) @p @n @qb;show cH (k:=υ) @p @n @qb;show cH (k:=υ) @p @n @qb;show eB @r @r (dW<|aX (ur M) @l) z2 ?_;show cH (k:=ξ) (iN<|kU @p<|kT @p) @qb @n;show eB @r @r @ai (z3 _) (cB ?_);show eB @r @r @ai (z4 _ _) ?_
  iterate 5 show cB ?_
  show(_,_,ho,@r,?_,@r);simp[tz,lQ,mZ,lG,gz]
 |front a b=>
  rw[gz];show lz og.nd @r kp @l ?_;show cH (k:=υ) @zz @n @qb;show cH (k:=υ) @p @n @qb;show cH (k:=υ) @p @n @qb;show cH (k:=υ) @p @n @qb;show eB @r @r (dW<|aX (ur M) @l) z2 ?_;show cH (k:=ξ) (iN<|kU @p<|kT @p) @qb @n;show eB @r @r @ai (z3 _) (cB ?_);show eB @r @r @ai (z4 _ _) ?_
  iterate 5 show cB ?_
  show(_,_,ho,@r,?_,@r);simp[tz,lQ,mZ,lG,gz]
 |call a b=>
  rw[gz];show lz og.nd @r kp @l ?_;show cH (k:=υ) @zz @n @qb;show cH (k:=υ) @p @n @qb;show cH (k:=υ) @p @n @qb;show cH (k:=υ) @p @n @qb;show eB @r @r (dW<|aX (ur M) @l) z2 ?_;show cH (k:=ξ) (iN<|kU @p<|kT @p) @qb @n;show eB @r @r @ai (z3 _) (cB ?_);show eB @r @r @ai (z4 _ _) ?_
  iterate 5 show cB ?_
  show(_,_,ho,@r,?_,@r);simp[tz,lQ,mZ,lG,gz]
 |cond a b e=>
  rw[gz];show lz og.nd @r kp @l ?_;show cH (k:=υ) @zz @n @qb;show cH (k:=υ) @p @n @qb;show cH (k:=υ) @p @n @qb;show cH (k:=υ) @p @n @qb;show eB @r @r (dW<|aX (ur M) @l) z2 ?_;show cH (k:=υ) (iN<|rV @p) @n (λ_=>cB ?_);show eB @r @r @ai (z3 _) ?_
  iterate 5 show cB ?_
  show(_,_,ho,@r,?_,@r);simp[tz,lQ,mZ,lG,gz]
 |case k h t a b e=>
  rw[gz];show lz og.nd @r kp @l ?_;show cH (k:=υ) @zz @n @qb;show cH (k:=υ) @p @n @qb;show cH (k:=υ) @p @n @qb;show cH (k:=υ) @p @n @qb;show eB @r @r (dW<|aX (ur M) @l) z2 ?_;show cH (k:=υ) (iN<|kU @p<|kT @p) @n (λ_=>cB ?_);show eB @r @r @ai (z3 _) ?_
  iterate 5 show cB ?_
  show(_,_,ho,@r,?_,@r);simp[tz,lQ,mZ,lG,gz]
def Rt:bO ["part","known","waiting","done","last"] ["part","known","waiting","done"] (az jX):=@a
def YG(F:iP K "end_part" "end_part" jX f fd)(M:j6 K mg c CS CT)(DC:nS P w K mg base 1 "chosen" ["part","condition"] (oI K<|FG c CS))(DP:nS P w K mg base 4 "parted" ["part","subject","known"] (oI K<|FH c CS))(DL:nS P w K mg base 4 "called" ["function","argument"] (oI K<|LO c CS))(DF:nS P w K mg base 4 "put_in_front" ["member","others"] (oI K<|Qx c CS))(DR:nS P w K mg base 2 "reckoned" ["word","first","second"] (oI K<|Vs c CS)):
  c8 P w K mg base @B 5 f fd ["part","known","waiting","done"] (spP K<|ag1 c CS):=by
 show F.okP Rt @d @r (λez A outer s H E wa da d1 d2 xs ys o hr h hE=>?_);ext;let(e,ρ,w',l,d,rfl,rfl,rfl,rfl,ha0,ha,hw,hd,ho):=h;ext;change VX _ _ _ [.d (gz e),.d<|sU c ρ,.o<|wl c w',.o<|dl c (l::d),.un] _;have A9:au=16777216:=dC;have z1:(dl c d).length<au:=by rw[Qy];omega
 have z2:(wl c w').length<au:=by rw[FI];omega
 have kp:Kept (HI wa da H) 4:=HI.kept @d @d;rw[iE];show Qo Rt.nd @r @r kp @r ?_;cases e with
 |cond a b e=>
  have key:∀(t:Sl ⊕ af),FG c CS [.d (gz<|.cond a b e),.d (iM c l)] t->(∀r,t = .inl r->∃u,r = .d (gz u)/\o = .inl (wl c (.gY u ρ::w'),dl c d,))->(∀C,t = .inr C->o = .inr C)->VX (qS @B P w K mg base ["part","known","waiting","done","last"] "end_part" (az jX) f ez A outer s H E) (HI wa da H) (dE jX).tail [.d (gz<|.cond a b e),.d<|sU c ρ,.o<|wl c w',.o<|dl c d,.d (iM c l)] λt=>∃x ρ,o = .inl x/\t = .nx ρ/\ρ[2]?=θ (.o x.1)/\ρ[3]?=θ (.o x.2):=by
   intro t h1 h2 h3;rw[gz];show cH (k:=ξ) @p @qb @n;show vY @r @r (Qp (ib M) (HF gg DC @D @l (by rw[gz]at h1;show h1) (λC z=>hE C (h3 C z))) (λr z=>by let(u,rfl,_):=h2 r z;show(_,@r)) @l) (λr z=>?_) z2 (λdd z=>?_)
   .cases t with
    |inl r'=>let(u,rfl,_):=h2 r' @r;cases z;show(_,@r)
    |inr C=>cases z
   .cases t with
    |inr C=>cases z
    |inl r'=>
     ext;let(u,rfl,e2):=h2 r' @r;cases z;ext;show cB (cB (_,_,e2,@r,?_,@r));simp[mZ,lG]
  show key _ (a,b,e,l,@r,@r) (λr z=>?_) (λC z=>?_)
  .cases l with
   |bool t=>cases t<;>(cases z;show(_,@r,ho))
   |_=>cases z
  .cases l with
   |bool t=>cases t<;>cases z
   |_=>cases z;show ho
 |case k h t a b e=>
  have key:∀(q:Sl ⊕ af),FH c CS [.d (gz<|.case k h t a b e),.d<|iM c l,.d (sU c ρ)] q->(∀r,q = .inl r->∃u,r = .d (lG c u)/\o = .inl (wl c (u::w'),dl c d,))->(∀C,q = .inr C->o = .inr C)->VX (qS @B P w K mg base ["part","known","waiting","done","last"] "end_part" (az jX) f ez A outer s H E) (HI wa da H) (dE jX).tail [.d (gz<|.case k h t a b e),.d<|sU c ρ,.o<|wl c w',.o<|dl c d,.d (iM c l)] λt=>∃x ρ,o = .inl x/\t = .nx ρ/\ρ[2]?=θ (.o x.1)/\ρ[3]?=θ (.o x.2):=by
   intro q h1 h2 h3;rw[gz];show cH (k:=υ) @p @n @qb;show cH (k:=ξ) @p @qb @n;show vY @r @r (HF gg DP @D @l (by rw[gz]at h1;show h1) (λC z=>hE C (h3 C z))) (λr z=>by let(u,rfl,_):=h2 r z;show(_,@r)) z2 (λdd z=>?_);let(u,e1,e2):=h2 _ z;cases e1;show cB (cB<|cB (_,_,e2,@r,?_,@r));simp[mZ]
  show key _ (k,h,t,a,b,e,l,ρ,@r,@r) (λr z=>?_) (λC z=>?_)
  .cases l with
   |chain xs=>cases xs<;>(cases z;show(_,@r,ho))
   |_=>cases z
  .cases l with
   |chain xs=>cases xs<;>cases z
   |_=>cases z;show ho
 |call a b=>
  cases d with
  |nil=>simp[MT.ar]at ha
  |cons u d=>
   rw[gz,iE];show cH (k:=υ) @p @n @qb;show cH (k:=υ) @p @n @qb;show cH (k:=ξ) @p @qb @n;show sg gg DL @D @r (_,@r) @r (xF @r @r @l) (u,l,@r,@r) (λr z=>?_) z2 (λC z=>hE C ?_) (λdd z=>?_)
   .cases u<;>cases z;show(_,@r)
   .cases u<;>first|(cases z;show ho)|(cases z)
   .cases u<;>cases z;show cB (cB<|cB<|cB (_,_,ho,@r,?_,@r));simp[mZ]
 |front a b=>
  cases d with
  |nil=>simp[MT.ar]at ha
  |cons u d=>
   rw[gz,iE];rw[iE,aH]at z1;show cH (k:=υ) @p @n @qb;show cH (k:=υ) @p @n @qb;show cH (k:=υ) @p @n @qb;show cH (k:=ξ) @p @qb @n;show sg gg DF @D @r (_,@r) @r (xF @r @r @l) (u,l,@r,@r) (λr z=>?_) @o (λC z=>hE C ?_) (λdd z=>?_)
   .cases l<;>cases z;show(_,@r)
   .cases l<;>first|(cases z;show ho)|(cases z)
   .cases l<;>cases z;show cB (cB<|cB<|cB<|cB (_,_,ho,@r,@r,?_));simp[iE]
 |add a b=>
  cases d with
  |nil=>simp[MT.ar]at ha
  |cons u d=>
   rw[gz,iE];rw[iE,aH]at z1;show cH (k:=υ) @p @n @qb;show cH (k:=υ) @p @n @qb;show cH (k:=υ) @p @n @qb;show cH (k:=υ) @p @n @qb;show sg gg DR @D @r (_,@r) @r (HH @l<|xF @r @r @l) (ξ,u,l,@r,@r) (λr z=>?_) @o (λC z=>hE C ?_) (λdd z=>?_)
   .cases u<;>cases l<;>cases z;show(_,@r)
   .cases u<;>cases l<;>first|(cases z;show ho)|(cases z)
   .cases u<;>cases l<;>cases z;show cB (cB<|cB<|cB<|cB (_,_,ho,@r,@r,?_));simp[iE,qz]
 |less a b=>
  cases d with
  |nil=>simp[MT.ar]at ha
  |cons u d=>
   rw[gz,iE];rw[iE,aH]at z1;show cH (k:=υ) @p @n @qb;show cH (k:=υ) @p @n @qb;show cH (k:=υ) @p @n @qb;show cH (k:=υ) @p @n @qb;show sg gg DR @D @r (_,@r) @r (HH @l<|xF @r @r @l) (υ,u,l,@r,@r) (λr z=>?_) @o (λC z=>hE C ?_) (λdd z=>?_)
   .cases u<;>cases l<;>cases z;show(_,@r)
   .cases u<;>cases l<;>first|(cases z;show ho)|(cases z)
   .cases u<;>cases l<;>cases z;show cB (cB<|cB<|cB<|cB (_,_,ho,@r,@r,?_));simp[iE,sh]
 |_=>simp[MT.ar]at ha0
def yR:bO ["value","waiting","held","room"] ["value","waiting"] (az pB):=@a
def FZ:bO ["value","waiting","whole","pair"] ["value"] (az qA):=@a
def uI:bO ["names","known","name","value"] ["names"] (az m7):=@a
def yS:bO ["expr","known","steps","waiting","done","begun","task"] ["expr","known","steps"] (az qB):=@a
def YH:bO ["expr","names","steps"] ["expr","names","steps"] (az Ki):=@a
def YI:bO ["value"] ["value"] (az jV):=@a
def YJ(F:iP K "is_function_value" "is_function_value" jV f fd)(B:Plain mg):c8 P w K mg base kD 1 f fd ["value"] (jt K ag7):=by
 show F.zA YI @qd @qa
 .let(v,rfl,_):=h;show(@r,by simp)
 let(v,rfl,rfl):=h;change VS _ _ [.d (outD v)] _;cases v with
 |int i=>rw[Ax];show cf (mI (j:=υ) (k:=ξ) (eV B.isinstance B.tuple cR @l @r<|by first|rfl|kernel_rfl) λz=>nomatch z) @i
 |bool i=>rw[xG];show cf (mI (j:=υ) (k:=ξ) (eV B.isinstance B.tuple cR @l @r<|by first|rfl|kernel_rfl) λz=>nomatch z) @i
 |chain xs=>rw[rg];show cf (mI (j:=υ) (k:=ξ) (gG B.isinstance B.tuple cR Ar (by first|rfl|kernel_rfl) @l) λz=>nomatch z) @i
 |dM x b ρ=>
  rw[rh]
  show cf (mI (j:=ξ) (eV B.isinstance B.tuple cR @l @r<|by first|rfl|kernel_rfl) λ_=>mI (j:=ξ) (k:=ξ) (Fj oq (kW B.len @l) @l (λH u w Q rx ry q=>by
   obtain rfl:=gT.cX rx;obtain rfl:=gT.cX ry
   show(@r,q _ H @F iq.bool)) (dP _)) λ_=>yt (jq (r':=.d (.bool ξ)) (LI @l @l) @f)) @i
def YK:bO ["value"] ["value"] (az BN):=@a
def YL(F:iP K "taken" "taken" BN f fd)(B:Plain mg)(M:j6 K mg c CS CT)(MG:Made P w K mg base "Given" c.gv 1 Qu)(DI:cS P w K mg base 1 "is_function_value" ["value"] (jt K ag7)):c8 P w K mg base kD 3 f fd ["value"] (jt K<|HN c):=by
 show F.zA YK @qd @qa
 .let(d,rfl,_):=h;show(@r,by simp)
 ext;let(v,rfl,rfl):=h;ext;change VS _ _ [.d (outD v)] _;ext;let(g,Ss,ps,m1,m2,m3,m4):=MG;ext;cases v with
 |int i=>
  rw[Ax];show vA (k:=υ) (iN<|fF (c7 (k:=υ) (eV (k:=υ) B.isinstance B.list eC @l @r<|by first|rfl|kernel_rfl) @h) (ir<|c7 (cK DI @D @l (.int i,by rw[Ax];rfl,@r)) @h)) @n (λ_=>dB (cf (QE M.cs (by rw[qz];left)) @i))
 |bool i=>
  rw[xG];show vA (k:=υ) (iN<|fF (c7 (k:=υ) (eV (k:=υ) B.isinstance B.list eC @l @r<|by first|rfl|kernel_rfl) @h) (ir<|c7 (cK DI @D @l (.bool i,by rw[xG];rfl,@r)) @h)) @n (λ_=>dB (cf (QE M.cs (by rw[sh];left)) @i))
 |chain xs=>
  rw[rg];show vA (k:=ξ) (iN<|JT<|c7 (gG B.isinstance B.list eC Ar (by first|rfl|kernel_rfl) @l) @h) (λ_=>cf (HP (v:=.chain xs) M.cs m1 m2 m3 m4 @D (by rw[show ye (.chain xs) = .list (iC xs)from rg xs];left)) @i) @n
 |dM x b ρ=>
  rw[rh];show vA (k:=ξ) (iN<|fF (c7 (eV B.isinstance B.list eC @l @r<|by first|rfl|kernel_rfl) @h) (ir<|c7 (cK DI @D @l (.dM x b ρ,by rw[rh];rfl,@r)) @h)) (λ_=>cf (HP (v:=.dM x b ρ) M.cs m1 m2 m3 m4 @D (by rw[show ye (.dM x b ρ)=_ from rh x b ρ];left)) @i) @n
def YM(F:iP K "known_from" "known_from" m7 f fd)(MN:Made P w K mg base "Known" c.kn 3 FE)(DT:cS P w K mg base 3 "taken" ["value"] (jt K<|HN c)):c8 P w K mg base kD 4 f fd ["names"] (jt K<|ag8 c):=by
 show F.zA uI @qd @qa
 .let(ρ,rfl,_):=h;show(@r,by simp)
 ext;let(ρ,rfl,rfl):=h;ext;change VS _ _ [.l (gR ρ).reverse,.un,.un,.un] _;ext;let(g,Ss,ps,m1,m2,m3,m4):=MN;ext;show dJ uI.nd @r @l ?_;show o7 bN @r (Lw @r @r) (Fo uI.nd @r @r @r) (λi dI=>∃x y,dI=[.l (gR ρ).reverse,.d<|sU c<|ρ.drop<|↑ρ - i,x,y]) (.un,.un,by rw[pJ,m8,J7];rfl) ?_ ?_
 .intro i d dI hd hZ;ext;let(x,y,rfl):=hZ;have hi:i<↑ρ:=by have:=(ay.mp hd).1;rwa[cP,gP]at this
  rw[dG (by rw[gP];show hi),gP]at hd;let((n,v),hp,rfl):=yH ρ _ d hd;ext;show(_,@r,?_);show dJ uI.nd @r (kY (Gy:=[("name",.str n,),("value",oX c v,),("others",sU c<|ρ.drop<|↑ρ - i,)]) m1 m2 m3 m4 @D (aX @l<|aX (cK DT hr @l (v,@r,@r)) @l) @r λH us r=>As r) (dB ?_);show(.d<|.str n,.d<|outD v,by rw[yI hi hp,v7];rfl)
 .rintro dI ⟨x,y,rfl⟩;rw[cP,gP,mx,mr];show cf @l @i
def YN(F:iP K "known_from" "known_from" m7 f fd)(MN:Made P w K mg base "Known" c.kn 3 FE)(DT:cS P w K mg base 3 "taken" ["value"] (jt K<|HN c)):c8 P w K mg base kD 4 f fd ["names"] (jt K<|ag9 c):=by
 show F.zA uI @qd @qa
 .let(ρ,rfl,_):=h;show(@r,by simp)
 let(ρ,rfl,rfl):=h;change VS _ _ [.d (.list (gR ρ).reverse),.un,.un,.un] _;let(g,Ss,ps,m1,m2,m3,m4):=MN;show dJ uI.nd @r @l ?_;show o7 bN @r (LR (xs:=(gR ρ).reverse) @l) (Fo uI.nd @r @r @r) (λi dI=>∃x y,dI=[.d (.list (gR ρ).reverse),.d<|sU c<|ρ.drop<|↑ρ - i,x,y]) (.un,.un,by rw[pJ,m8,J7];rfl) ?_ ?_
 .rintro i d dI hd ⟨x,y,rfl⟩;have hi:i<↑ρ:=by have:=(ay.mp hd).1;rwa[cP,gP]at this
  rw[dG (by rw[gP];show hi),gP]at hd;let((n,v),hp,rfl):=yH ρ _ d hd;show(_,@r,?_);show dJ uI.nd @r (kY (Gy:=[("name",.str n,),("value",oX c v,),("others",sU c<|ρ.drop<|↑ρ - i,)]) m1 m2 m3 m4 @D (aX @l<|aX (cK DT hr @l (v,@r,@r)) @l) @r λH us r=>As r) (dB ?_);show(.d<|.str n,.d<|outD v,by rw[yI hi hp,v7];rfl)
 .rintro dI ⟨x,y,rfl⟩;rw[cP,gP,mx,mr];show cf @l @i
def F0:bO ["value","chain","member"] ["value"] (az pA):=@a
def YO(F:iP K "looked_into" "looked_into" pA f fd)(B:Plain mg)(MC:Made P w K mg base "Chain" c.ch 2 Nq)(ML:Made P w K mg base "Closure" c.cl 3 Qt)(DT:cS P w K mg base 3 "taken" ["value"] (jt K<|HN c))(DK:cS P w K mg base 4 "known_from" ["names"] (jt K<|ag9 c)):c8 P w K mg base kD 5 f fd ["value"] (jt K<|QC c):=by
 show F.zA F0 @qd @qa
 .let(d,rfl,_):=h;show(@r,by simp)
 ext;let(v,rfl,hv,rfl):=h;ext;change VS _ _ [.d (outD v),.un,.un] _;cases v with
 |int i=>rcases hv with z|z<;>cases z
 |bool i=>rcases hv with z|z<;>cases z
 |dM x b ρ=>
  ext;let(g,Ss,ps,m1,m2,m3,m4):=ML;ext;rw[rh,pj];show vA (fq<|c7 (k:=υ) (eV B.isinstance B.list eC @l @r<|by first|rfl|kernel_rfl) @h) @qb @n;show cf (kY m1 m2 m3 m4 @D (aX (mH @l @l @r)<|aX (mH @l @l @r)<|aX (cK DK hr (cw (mH @l @l @r) gO) (ρ,@r,@r)) gw) @r λH us r=>LM r) @i
 |chain xs=>
  ext;let(g,Ss,ps,m1,m2,m3,m4):=MC;ext;rw[rg];show vA (fq<|c7 (k:=ξ) (gG B.isinstance B.list eC Ar (by first|rfl|kernel_rfl) @l) @h) @n (λ_=>dB ?_);show dJ F0.nd @r (kY m1 m2 m3 m4 @D @l @r λH us r=>FF r) ?_;show o7 bN @r (TU B.reversed @l) (qh F0.nd @r) (λi dI=>∃x,dI=[.d (.list<|iC xs),.d<|iM c<|.chain<|xs.drop<|↑xs - i,x]) (.un,by rw[pJ,m8];simp[iM,E5]) ?_ ?_
  .rintro i d dI hd ⟨x,rfl⟩;have hi:i<↑xs:=by have:=(ay.mp hd).1;rwa[cP,l6]at this
   rw[dG (by rw[l6];show hi),l6]at hd;let(v,hp,rfl):=Eu xs _ d hd;show(_,@r,?_);show dJ F0.nd @r (kY (Gy:=[("head",oX c v,),("rest",iM c<|.chain<|xs.drop<|↑xs - i,),("outside",.none,)]) m1 m2 m3 m4 @D (aX (cK DT @D @l (v,@r,@r)) @l) @r λH us r=>FF r) (dB ?_);show(.d<|outD v,by rw[yI hi hp];simp[iM,E5,oX])
  .rintro dI ⟨x,rfl⟩;rw[cP,l6,mx,mr];show cf @l @i
def YQ(F:iP K "opened" "opened" yN f fd)(B:Plain mg)(M:j6 K mg c CS CT)(DL:cS P w K mg base 5 "looked_into" ["value"] (jt K<|QC c)):c8 P w K mg base kD 6 f fd ["value"] (QF K c):=by
 show F.ok Ys @qc @q
 .let(v,rfl,_):=h;rfl
 obtain⟨v,rfl,⟨t,ty,e,q⟩|⟨g,dx,val,w',rfl,hg,hw,q⟩|⟨g,dx,val,x,rfl,hg,ho,q⟩⟩:=h
 .show(_,aK (fX (u:=lu) (rJ<|nK (eW (jd (X:=_)) @r B.isinstance cT (ax @Z<|ax (jE (v:=.ref c.gv) @r M.mG @r) bh) @d @d) @h) (bS<|dw @Z) fi) fi,?_);show(_,@r,v,c.gv,t,υ,@r,ty,e,υ,@r,rO (_,@r,q))
 .show(_,aK (fX (t:=lu) (rJ<|nK (eW (jd (X:=_)) @r B.isinstance cT (ax @Z<|ax (jE (v:=.ref c.gv) @r M.mG @r) bh) @d @d) @h) fi eF)
   (aK (fX (t:=lu) (fj AM (i9 @Z @r) oU<|dP _) fi eF)<|bS<|dw<|i9 @Z @r),?_)
  show(_,@r,.ref g,c.gv,.ref c.gv,ξ,@r,.of<|.ins hg M.cG.cl M.cG.ha M.cG.hn M.cG.GV M.cG.hm,M.kG.2.2.2.2,ξ,@r,nP ?_);show(_,@r,g,c.gv,dx,_,w',@r,hg,M.cG.cl,M.aG.2,@r,@r,_,@r,?_);cases w'<;>first|show ?A @r hw|show nP (_,@r,g,c.gv,dx,_,_,@r,hg,M.cG.cl,M.aG.2,@r,q)
 .let(eo,ZE):=Av ho
  show(_,aK (fX (t:=lu) (rJ<|nK (eW (jd (X:=_)) @r B.isinstance cT (ax @Z<|ax (jE (v:=.ref c.gv) @r M.mG @r) bh) @d @d) @h) fi eF)
   (aK (fX (u:=lu) (fj AM (i9 @Z @r) oU<|dP _) (bS<|km @Z (XF<|dq DL hr @r<|ax (i9 @Z @r) bh) @r) fi)<|bS<|dw<|i9 @Z @r),?_)
  show(_,@r,.ref g,c.gv,.ref c.gv,ξ,@r,.of<|.ins hg M.cG.cl M.cG.ha M.cG.hn M.cG.GV M.cG.hm,M.kG.2.2.2.2,ξ,@r,nP ?_);show(_,@r,g,c.gv,dx,_,.fB,@r,hg,M.cG.cl,M.aG.2,@r,@r,_,@r,rO ?_);show(_,@r,g,c.gv,dx,_,val,@r,hg,M.cG.cl,M.aG.1,@r,?_);show([.d (outD x)],_,.cons (by rw[<-eo];show ho) .nil,(x,@r,ZE,@r),λy H3 s3 ry uq=>?_);have hg3:=s3 _ _ hg;show(_,@r,g,c.gv,dx,_,@r,hg3,M.cG.cl,M.aG.2,bL (show _<=2 from bX @r) @d,?_);show(_,@r,g,c.gv,dx,_,y,@r,aA,M.cG.cl,M.aG.2,@r,q y H3 s3 uq ry)
def Uv(F:iP K "outline" "outline" pB f fd)(B:Plain mg)(M:j6 K mg c CS CT)(kAC:fz K (.ref c.ch) [.ref c.ch,.ref c.cl]=θ ξ)(kAL:fz K (.ref c.cl) [.ref c.ch,.ref c.cl]=θ ξ)(DO:cS P w K mg base 6 "opened" ["value"] (Vz K c)):c8 P w K mg base kD 7 f fd ["value","waiting"] (FO K c):=by
 show F.ok yR @qc @q
 .ext;let(v,wa,x,H0,S,W,cur,ws,rfl,_):=h;ext;rfl
 ext;let(v,wa,x,H0,S,W,cur,ws,rfl,ev,g,hw,l,hl,q):=h;ext;have A9:au=16777216:=dC;have flat:∀(u:V)(t:ai),(t = .type "int"\/t = .type "bool")->(∀H,vR K H u t)->fz K t [.ref c.ch,.ref c.cl]=θ υ->(∀H1,VR K c S H1 x u↔∃_:True,x.parts=x.parts/\VR K c S H1 x u)->(∀H1,VR K c S H1 x=λw=>w=u)->(∀S H,Means K c S H x u)->∃t,vP (qS kD P w K mg base ["value","waiting","held","room"] "outline" (az pB) f ez A outer s H E).N5 (dE pB) t/\t {nx:=λ_ H'=>Q .fB H',rt:=Q} (start ["value","waiting","held","room"] [v,.ref wa]) H:=by
  intro u t ht ty k2 _ hv mn
  show(_,aK (cV (i:=2) yR.nd @r @A<|dq DO hr @r<|ax @Z bh)
   (aK (fX (u:=lu) (rJ<|nK (eW (Dm (X:=_)) @r B.isinstance cT (ax (pv 2)<|ax (h8<|ax (jE (v:=.ref c.ch) @r M.mC @r)<|ax (jE (v:=.ref c.cl) @r M.mL @r) bh) bh) @d @d) @h) (bS<|dw<|pv 2) fi) fi),?_)
  show(_,@r,v,x,H0,S,W,cur,wa,ws,@r,ev,g,hw,l,λu' H1 T1 vr=>?_);rw[hv]at vr;subst vr;show(_,@r,by change 2<=au;decide,λtp np=>?_);have s2:=bt np (.tup [.ref c.ch,.ref c.cl]);let(ws1,J9,l1):=T1.wl;show(_,tp,c.ch,c.cl,t,υ,@r,ty _,ht,eI.of aA,k2,υ,@r,rO (_,@r,q _ _ _ _ (T1.trans (T1.gb.same (X:=[x]) J9 l1 s2) @r)<|mn _ _))
 cases x with
 |int i=>show flat @T _ @i (λ_=>.int i) M.kA.1 (λ_=>(λh=>(trivial,@r,h),λh=>h.2.2)) (λH1=>by funext z;rw[VR]) @e
 |bool i=>show flat (.bl i) _ (.inr @r) (λ_=>.bl i) M.kA.2 (λ_=>(λh=>(trivial,@r,h),λh=>h.2.2)) (λH1=>by funext z;rw[VR]) @e
 |chain xs=>
  show(_,aK (cV (i:=2) yR.nd @r @A<|dq DO hr @r<|ax @Z bh)
   (aK (fX (t:=lu) (rJ<|nK (eW (uw (X:=_)) @r B.isinstance cT (ax (pv 2)<|ax (h8<|ax (jE (v:=.ref c.ch) @r M.mC @r)<|ax (jE (v:=.ref c.cl) @r M.mL @r) bh) bh) @d @d) @h) fi eF)
   (aK (fX (fj AM (i9 (pv 2) @r) oU<|dP _)
    (aK (cV (i:=3) yR.nd @r @A<|tQ bh)
    (aK (gC<|ou bc cq cu gX (pv 1)<|ax (h8<|ax (pv 2)<|ax (pv 3) bh) bh)
    (aK (km (pv 2) (pv 3) @r)
    (bS<|fX (t:=lu) (nK (eW (jd (X:=_)) @r B.isinstance cT (ax (pv 2)<|ax (jE (v:=.ref c.cl) @r M.mL @r) bh) @d @d) @h) fi eF)))) eF)
   (bS<|dw<|i9 (pv 2) @r))),?_)
  show(_,@r,v,_,H0,S,W,cur,wa,ws,@r,ev,g,hw,l,λu H1 T1 vr=>?_);rw[VR]at vr;ext;let(a,rfl,cn):=vr;let(dx,hd,tl,o,ha,ro):=cn.at;ext;show(_,@r,by change 2<=au;decide,λtp np=>?_);have s1:=bt np (.tup [.ref c.ch,.ref c.cl]);have C1:=s1 _ _ ha;show(a,tp,c.ch,c.cl,c.ch,dx,_,ξ,@r,C1,M.cC,eI.of aA,kAC,ξ,@r,nP ?_);let(ws1,J9,l1):=T1.wl;have T2:=T1.trans (T1.gb.same (X:=[]) J9 l1 s1) @r;have cn2:=cn.next (Nx.of_same (K:=K) (c:=c) (S:=S) s1);generalize upd H1 tp (.tup [.ref c.ch,.ref c.cl])=H2 at s1 C1 T2 cn2;clear s1;let(BS,Dq,l2):=T2.wl;show(_,@r,a,c.ch,dx,_,o,@r,C1,M.cC.cl,M.aC.2.2,@r,@r,_,@r,?_);rcases ro with rfl|⟨r,rfl,m⟩
  ·-- a new room
   show rO ?_;show(by change 0<=au;decide,λr nr=>?_);have s2:=bt nr @t;show(_,@r,.inl (@r,_,gF.of<|s2 _ _ Dq),_,@r,_,@r,by change 2<=au;decide,λt nt=>?_);have s3:=bt nt (.tup [V.ref a,V.ref r]);show(wa,BS,.ref t,@r,@r,s3 _ _<|s2 _ _ Dq,by have:=l2.1;rw[A9];omega,?_);ext;let(o1,o2,o3,o4,o5,o6):=Vy (X:=.tup [V.ref a,V.ref r]) (Y:=.lst (BS++[.ref t])) (Z:=.ins c.ch dx (Ay hd tl<|.ref r)) C1 @m Dq nr nt;ext;have aw:a≠wa:=λz=>by rw[z,Dq]at C1;cases C1
   have ha3:upd (upd (upd H2 r @t) t<|.tup [V.ref a,V.ref r]) wa (.lst<|BS++[.ref t]) a=θ (.ins c.ch dx<|Ay hd tl .fB):=by rw[be aw];show s3 _ _ (s2 _ _ C1)
   show(_,@r,_,@r,a,c.ch,dx,_,@r,ha3,M.cC.cl,M.aC.2.2,(by show bL (show _<=3 from bX @r) @d),?_);have nx:Nx K c S H2 (S++[(a,r,r,)]) _:=Nx.ah3 C1 (λb ob e z n=>o1 b ob e (λw=>by rw[w,Dq]at e;cases e;show z _ @r) n) o5;have R:=T2.gb.room (x:=.chain xs) (t:=r) Dq l2 (by rw[VR];show(a,@r,cn2)) nr nx (λb ob e z n=>o1 b ob e n (λw=>by rw[w,C1]at e;cases e;show z _ _ _ @r)) o6 o2 o4 (eI.of o3);show(_,@r,.ref a,c.cl,.ref c.ch,υ,@r,.of<|.ins o5 M.cC.cl M.cC.ha M.cC.hn M.cC.GV M.cC.hm,M.kL.2.2.1,υ,@r,nP ?_);show(_,@r,a,c.ch,dx,_,.ref r,@r,o5,M.cC.cl,M.aC.2.2,@r,?_);show q _ _ _ _ (T2.trans R @r) (a,r,@r,by simp,cn2.next nx)
  ·-- it has one
   show nP ?_;show(_,@r,a,c.ch,dx,_,.ref r,@r,C1,M.cC.cl,M.aC.2.2,@r,?_);show q _ S W _ (T2.trans (T2.gb.same (X:=[.chain xs]) Dq l2<|bM.refl _) @r) (a,r,@r,m,cn2)
 |dM x b ρ=>
  show(_,aK (cV (i:=2) yR.nd @r @A<|dq DO hr @r<|ax @Z bh)
   (aK (fX (t:=lu) (rJ<|nK (eW (uw (X:=_)) @r B.isinstance cT (ax (pv 2)<|ax (h8<|ax (jE (v:=.ref c.ch) @r M.mC @r)<|ax (jE (v:=.ref c.cl) @r M.mL @r) bh) bh) @d @d) @h) fi eF)
   (aK (fX (fj AM (i9 (pv 2) @r) oU<|dP _)
    (aK (cV (i:=3) yR.nd @r @A<|tQ bh)
    (aK (gC<|ou bc cq cu gX (pv 1)<|ax (h8<|ax (pv 2)<|ax (pv 3) bh) bh)
    (aK (km (pv 2) (pv 3) @r)
    (bS<|fX (u:=lu) (nK (eW (jd (X:=_)) @r B.isinstance cT (ax (pv 2)<|ax (jE (v:=.ref c.cl) @r M.mL @r) bh) @d @d) @h) (bS<|km (pv 2) (h8<|ax oV<|ax (i9 (pv 2) @r)<|ax (i9 (pv 2) @r)<|ax (pv 3) bh) @r) fi)))) eF)
   (bS<|dw<|i9 (pv 2) @r))),?_)
  show(_,@r,v,_,H0,S,W,cur,wa,ws,@r,ev,g,hw,l,λu H1 T1 vr=>?_);have Ru:=vr;rw[VR]at vr;ext;let(a,dx,vb,vk,o,rfl,ha,rb,ro,kn):=vr;ext;show(_,@r,by change 2<=au;decide,λtp np=>?_);have s1:=bt np (.tup [.ref c.ch,.ref c.cl]);have C1:=s1 _ _ ha;show(a,tp,c.ch,c.cl,c.cl,dx,_,ξ,@r,C1,M.cL,eI.of aA,kAL,ξ,@r,nP ?_);let(ws1,J9,l1):=T1.wl;have T2:=T1.trans (T1.gb.same (X:=[]) J9 l1 s1) @r;have n1:=Nx.of_same (K:=K) (c:=c) (S:=S) s1;have vr2:=Ru.next n1;have rb2:=n1.rep (j8 b) rb;have ro2:=ro.mono (λ_ h=>h) n1.tup;generalize upd H1 tp (.tup [.ref c.ch,.ref c.cl])=H2 at s1 C1 T2 vr2 rb2 ro2 n1;clear s1 n1 ro;let(BS,Dq,l2):=T2.wl;show(_,@r,a,c.cl,dx,_,o,@r,C1,M.cL.cl,M.aL.2.2.2,@r,@r,_,@r,?_);rcases ro2 with rfl|⟨t0,r,rfl,m,V2⟩
  ·-- a new room
   show rO ?_;show(by change 0<=au;decide,λr nr=>?_);have s2:=bt nr @t;show(_,@r,.inl (@r,_,gF.of<|s2 _ _ Dq),_,@r,_,@r,by change 2<=au;decide,λt nt=>?_);have s3:=bt nt (.tup [V.ref a,V.ref r]);show(wa,BS,.ref t,@r,@r,s3 _ _<|s2 _ _ Dq,by have:=l2.1;rw[A9];omega,?_);ext;let(o1,o2,o3,o4,o5,o6):=Vy (X:=.tup [V.ref a,V.ref r]) (Y:=.lst (BS++[.ref t])) (Z:=.ins c.cl dx (yJ @S vb vk<|.ref r)) C1 @m Dq nr nt;ext;have aw:a≠wa:=λz=>by rw[z,Dq]at C1;cases C1
   have ha3:upd (upd (upd H2 r @t) t<|.tup [V.ref a,V.ref r]) wa (.lst<|BS++[.ref t]) a=θ (.ins c.cl dx<|yJ @S vb vk .fB):=by rw[be aw];show s3 _ _ (s2 _ _ C1)
   show(_,@r,_,@r,a,c.cl,dx,_,@r,ha3,M.cL.cl,M.aL.2.2.2,(by show bL (show _<=4 from bX @r) @d),?_);rw[show tP ("outside":χ) (V.ref r) (yJ @S vb vk .fB)=yJ @S vb vk (.ref r)from @r];show(_,@r,.ref a,c.cl,.ref c.cl,ξ,@r,.of<|.ins o5 M.cL.cl M.cL.ha M.cL.hn M.cL.GV M.cL.hm,M.kL.2.2.2,ξ,@r,rO ?_);have o5':upd (upd (upd (upd H2 r @t) t<|.tup [V.ref a,V.ref r]) wa<|.lst<|BS++[.ref t]) a (.ins c.cl dx<|yJ @S vb vk<|.ref r) a=θ (.ins c.cl dx<|yJ @S vb vk<|.ref r):=o5;show(_,@r,a,c.cl,dx,_,.str x,@r,o5',M.cL.cl,M.aL.1,@r,_,@r,a,c.cl,dx,_,vb,@r,o5',M.cL.cl,M.aL.2.1,@r,_,@r,by change 4<=au;decide,λt2 Z5=>?_);generalize upd (upd (upd (upd H2 r @t) t<|.tup [V.ref a,V.ref r]) wa<|.lst<|BS++[.ref t]) a (.ins c.cl dx<|yJ @S vb vk<|.ref r)=H3 at o1 o2 o3 o4 o5 o6 Z5 ⊢;have s4:=bt Z5 (.tup [V.str "fun",.str x,vb,.ref r]);have ne:∀{b:af}{ob:HO},H3 b=θ ob->b≠a->upd (upd H3 t2<|.tup [V.str "fun",.str x,vb,.ref r]) a (.ins c.cl dx<|yJ @S vb vk<|.ref t2) b=θ ob:=λ{b ob} e n=>by rw[be n];show s4 _ _ e
   have ar:r≠a:=λz=>by rw[z,C1]at nr;cases nr
   have ta:t≠a:=λz=>by rw[z,o5]at o3;cases o3
   have t2a:t2≠a:=λz=>by rw[z,o5]at Z5;cases Z5
   have ht2:upd (upd H3 t2<|.tup [V.str "fun",.str x,vb,.ref r]) a (.ins c.cl dx<|yJ @S vb vk<|.ref t2) t2=θ (.tup [V.str "fun",.str x,vb,.ref r]):=by rw[be t2a];show aA
   show(_,@r,a,c.cl,dx,_,@r,s4 _ _ o5,M.cL.cl,M.aL.2.2.2,(by show bL (show _<=4 from bX @r) @d),?_);have nx:Nx K c S H2 (S++[(a,t2,r,)]) (upd (upd H3 t2<|.tup [V.str "fun",.str x,vb,.ref r]) a<|.ins c.cl dx<|yJ @S vb vk<|.ref t2):=Nx.ah4 C1 (λb ob e z n=>ne (o1 b ob e (λw=>by rw[w,Dq]at e;cases e;show z _ @r) n) n) aA (eI.of ht2)
   have R:=T2.gb.room (x:=.dM x b ρ) (t:=t2) Dq l2 vr2 nr nx (λb ob e z n=>have na:b≠a:=λw=>(by rw[w,C1]at e;cases e;show z _ _ _ @r);ne (o1 b ob e n na) na) (λb e=>by
    by_cases w:b=a
    .rw[w,aA]at e;cases e
    .rw[be w]at e;show o6 b (s4.free e)) (ne o2 ar) (ne o4<|cp aw) (eI.of<|ne o3 ta)
   show(_,@r,a,c.cl,dx,_,.ref t2,@r,aA,M.cL.cl,M.aL.2.2.2,@r,?_);show q _ _ _ _ (T2.trans R @r) (a,t2,r,vb,@r,by simp,eI.of ht2,nx.rep (j8 b) rb2,vr2.next nx)
  ·-- it has one
   show nP ?_;show(_,@r,a,c.cl,dx,_,.ref t0,@r,C1,M.cL.cl,M.aL.2.2.2,@r,?_);show q _ S W _ (T2.trans (T2.gb.same (X:=[.dM x b ρ]) Dq l2<|bM.refl _) @r) (a,t0,r,vb,@r,m,V2,rb2,vr2)
def Kp:bO ["room","chain","waiting","link"] ["room","chain","waiting"] (az jW):=@a
def YR(F:iP K "fill_with_members" "fill_with_members" jW f fd)(M:j6 K mg c CS CT)(DU:cS P w K mg base 7 "outline" ["value","waiting"] (FO K c)):c8 P w K mg base kD 8 f fd ["room","chain","waiting"] (LW K c):=by
 show F.ok Kp @qc @q
 .ext;let(p,wa,xs,H0,S,W,ws,rfl,_):=h;ext;rfl
 ext;let(p,wa,xs,H0,S,W,ws,rfl,cn,m,Vr,g,hw,l,hs,q):=h;ext;have A9:au=16777216:=dC
 show(_,aK (cV (i:=3) Kp.nd @r @A<|pv 1)
  (bS (ng bN (fj ES (i9 (pv 3) @r) oU<|dP _)
   (aK (gC<|ou bc cq cu gX @Z<|ax (dq DU hr @r<|ax (i9 (pv 3) @r)<|ax (pv 2) bh) bh)
   (bS<|cV (i:=3) Kp.nd @r @A<|i9 (pv 3) @r)))),?_)
 show(_,@r,Vw K c H0 S W p wa xs H,(_,[],xs,p.1,S,W,[],@r,@r,@r,.refl,g,(ws,hw,l),by omega,.refl,cn,Vr,.nil),?_);intro n σ H' hZ;ext;let(ys,zs,b,S',W',vs,rfl,e0,rfl,nx,g',(me,WZ,l'),YS,YT,cnb,Su,ml):=hZ;ext;cases zs with
 |nil=>
  rw[CN]at cnb;ext;let(dx,h,o,hb,ro):=cnb;rw[bP]at e0;subst e0;ext;show(_,@r,b,c.ch,dx,_,.fB,@r,hb,M.cC.cl,M.aC.2.1,@r,@r,υ,@r,nP ?_);show q S' W' H' nx (g'.full (x:=.chain xs) (nx.sub _ m) (by rw[VR];show(_,@r,cn.next nx)) Su ml) (me,WZ,l') YS YT
 |cons y zs=>
  rw[CN]at cnb;ext;let(dx,h,t,o,hb,ro,vr,cnt):=cnb;ext;rw[e0,aH,aF]at hs;have hW:W'.length<16700000:=by have:=YT.len;omega
  have hvl:=↑ml;rw[aP]at hvl;show(_,@r,b,c.ch,dx,_,.ref t,@r,hb,M.cC.cl,M.aC.2.1,@r,@r,ξ,@r,rO ?_);show(Vw K c H0 S W p wa xs H ↑zs,λwO H2 z=>(↑zs,by simp,z),?_);show(_,@r,.inl (@r,vs,gF.of Su),_,@r,b,c.ch,dx,_,h,@r,hb,M.cC.cl,M.aC.1,@r,_,@r,?_);show(h,wa,y,H0,S',W',θ p.2.2,me,@r,vr,g',WZ,l',hW,λu S2 W2 H2 T mn=>?_);have xJ:=T.keep p.2.2 _ Su (λ_ _ _ z=>nomatch z) (g'.oA _<|nx.sub _ m);ext;let(BS,Dq,l2):=T.wl;let(o2,Ve,ro2):=T.nx.ch b dx h (.ref t) o hb ro;ext;show(p.2.2,vs,u,@r,@r,xJ,by rw[A9];omega,?_);let(YU,g3,hw3,l3):=T.gb.put (us:=vs++[u]) (T.nx.sub _<|nx.sub _ m) xJ Dq l2;have hb3:upd H2 p.2.2 (.lst<|vs++[u]) b=θ (.ins c.ch dx<|Ay h (.ref t) o2):=by rw[be (λz=>by rw[z,xJ]at Ve;cases Ve)];show Ve
  show(_,@r,b,c.ch,dx,_,.ref t,@r,hb3,M.cC.cl,M.aC.2.1,@r,?_);show(ys++[y],zs,t,S2,W2,vs++[u],@r,by rw[e0];simp,@r,(nx.trans T.nx).trans YU,g3,(BS,hw3,l3),?_,YT.trans T.grow,(cnt.next T.nx).next YU,aA,?_)
  .have:=T.less;rw[v9];omega
  .rw[bK,fh];show((ml.next T.nx).next YU).snoc (x:=ptC y) (mn.next YU)
def Ga:bO ["room","known","waiting","pairs","link"] ["room","known","waiting"] (az lB):=@a
def YV(F:iP K "fill_with_names" "fill_with_names" lB f fd)(B:Plain mg)(M:j6 K mg c CS CT)(DU:cS P w K mg base 7 "outline" ["value","waiting"] (FO K c)):c8 P w K mg base kD 8 f fd ["room","known","waiting"] (LX K c):=by
 show F.ok Ga @qc @q
 .ext;let(p,kn,wa,x,b,ρ,H0,S,W,ws,rfl,_):=h;ext;rfl
 ext;let(p,kn,wa,x,b,ρ,H0,S,W,ws,rfl,vr,kr,m,Vr,g,hw,l,hs,q):=h;ext;have A9:au=16777216:=dC
 show(_,aK (cV (i:=3) Ga.nd @r @A<|tQ bh) (aK (cV (i:=4) Ga.nd @r @A<|pv 1)
  (aK (ng bN (fj ES (pv 4) oU<|dP _)
   (aK (gC<|ou bc cq cu gX (pv 3)<|ax (h8<|ax (i9 (pv 4) @r)<|ax (dq DU hr @r<|ax (i9 (pv 4) @r)<|ax (pv 2) bh) bh) bh)
   (bS<|cV (i:=4) Ga.nd @r @A<|i9 (pv 4) @r)))
  (bS<|gC<|ou bc qc qe yk @Z<|ax (A4 @r @r B.list @r B.reversed<|ax (pv 3) bh) bh))),?_)
 show(by change 0<=au;decide,λpl npl=>?_);have s1:=bt npl @t;have T1:=g.same (X:=[]) hw l s1;have plw:pl≠wa:=cp (bQ hw npl);show(_,@r,Vx K c H0 S W p kn wa pl ρ H,(_,[],ρ,kn,S,W,[],@r,@r,@r,T1.nx,T1.gb,T1.wl,by omega,.refl,kr.next T1.nx,s1 _ _ Vr,(g.Gz _ npl,plw,λq hq z=>by let(vs,e):=g.there q hq;rw[z,npl]at e;cases e),aA,.nil),?_);intro n σ H' hZ;ext;let(ys,zs,v,S',W',vs,rfl,e0,rfl,nx,g',(me,WZ,l'),YS,YT,knb,Su,(f0,fw,fr),j4,ml):=hZ;ext;have hvl:=↑ml;rw[aP]at hvl;cases zs with
 |nil=>
  rw[KN]at knb;subst knb;rw[bP]at e0;subst e0;show(_,@r,@r,υ,@r,nP ?_);show(_,@r,.inl (@r,[],gF.of Su),_,@r,pl,vs,@r,gF.of j4,λl2 nl2=>?_);have s2:=bt nl2 (.lst vs.reverse);have T2:=g'.same (X:=[]) WZ l' s2;let(BS,Dq,l2'):=T2.wl;show(p.2.2,l2,[],vs.reverse,@r,@r,s2 _ _ Su,aA,by rw[cP,A9];simp;omega,?_);rw[fN];let(YU,g3,hw3,l3):=T2.gb.put (us:=vs.reverse) (nx.sub _ m) (s2 _ _ Su) Dq l2';have nxx:=(nx.trans T2.nx).trans YU;show q S' W' _ nxx (g3.full (x:=.dM x b ρ) (nx.sub _ m) (vr.next nxx) aA ((ml.next T2.nx).next YU).reverse) (BS,hw3,l3) YS YT
 |cons y zs=>
  ext;let(y,v'):=y;rw[KN]at knb;let(a,dx,h,t,rfl,ha,ev,knt):=knb;ext;rw[e0,aH,aF]at hs;have hW:W'.length<16700000:=by have:=YT.len;rw[aP]at this;omega
  show(_,@r,@r,ξ,@r,rO ?_);show(Vx K c H0 S W p kn wa pl ρ H ↑zs,λwO H2 z=>(↑zs,by simp,z),?_);show(_,@r,.inl (@r,vs,gF.of j4),_,@r,a,c.kn,dx,_,.str y,@r,ha,M.cN.cl,M.aN.1,@r,_,@r,a,c.kn,dx,_,h,@r,ha,M.cN.cl,M.aN.2.1,@r,_,@r,?_);show(h,wa,v',H0,S',W',θ p.2.2,me,@r,ev,g',WZ,l',hW,λu S2 W2 H2 T mn=>?_);show(by change 2<=au;decide,λt2 Z5=>?_);have s3:=bt Z5 (.tup [V.str y,u]);let(BS,Dq,l2):=T.wl;have T3:=T.trans (T.gb.same (X:=[]) Dq l2 s3) @r;have mn3:=mn.next (Nx.of_same s3);have ht2:upd H2 t2 (.tup [V.str y,u]) t2=θ (.tup [V.str y,u]):=aA;generalize upd H2 t2 (.tup [V.str y,u])=H3 at s3 T3 mn3 ht2;let(ws3,hw3,l3):=T3.wl;have aj1:=T3.keep pl _ j4 (λ_ _ _ z=>nomatch z) fw;have Z0:=T3.keep p.2.2 _ Su (λ_ _ _ z=>nomatch z) (g'.oA _<|nx.sub _ m);have ZA:∀q∈S2,q.2.2≠pl:=λq hq=>(T3.new q hq).elim (fr q) λe z=>by rw[z,j4]at e;cases e
  have ha3:=T3.nx.kn _ _ _ _ _ ha;show(pl,vs,.ref t2,@r,@r,aj1,by rw[A9];omega,?_);let(Z6,g4,hw4,l4):=T3.gb.side (us:=vs++[.ref t2]) aj1 f0 fw ZA hw3 l3;have ha4:=Z6.kn _ _ _ _ _ ha3;show(_,@r,a,c.kn,dx,_,t,@r,ha4,M.cN.cl,M.aN.2.2,@r,?_);show(ys++[(y,v',)],zs,t,S2,W2,vs++[.ref t2],@r,by rw[e0];simp,@r,(nx.trans T3.nx).trans Z6,g4,(ws3,hw4,l4),?_,by rw[bK];show YT.trans T3.grow,(knt.next T3.nx).next Z6,?_,(f0,fw,ZA),aA,?_)
  .have:=T3.less;simp only[bP,Nz]at this;rw[BD,NZ,NZ];omega
  .rw[be (ZA _<|T3.nx.sub _<|nx.sub _ m)];show Z0
  .rw[bK,fh];show((ml.next T3.nx).next Z6).snoc (x:=ptL (y,v',)) (t2,u,@r,Z6.tup _ _<|eI.of ht2,mn3.next Z6)
def Uw(F:iP K "given_back" "given_back" qA f fd)(B:Plain mg)(M:j6 K mg c CS CT)(DU:cS P w K mg base 7 "outline" ["value","waiting"] (FO K c))(DF:cS P w K mg base 8 "fill_with_members" ["room","chain","waiting"] (LW K c))(DN:cS P w K mg base 8 "fill_with_names" ["room","known","waiting"] (LX K c)):c8 P w K mg base kD 9 f fd ["value"] (AB K c):=by
 show F.ok FZ @qc @q
 .ext;let(v,x,rfl,_):=h;ext;rfl
 ext;let(v,x,rfl,rv,hwt,q):=h
 ext;show(_,aK (cV (i:=1) FZ.nd @r @A<|tQ bh)
  (aK (cV (i:=2) FZ.nd @r @A<|dq DU @C @r<|ax @Z<|ax (pv 1) bh)
  (aK (ng bN (w6 (pv 1) @h)
   (aK (cV (i:=3) FZ.nd @r @A<|tS bc eR eU tU<|pv 1)
   (bS (fX (nK (eW (jd (X:=_)) @r B.isinstance cT (ax @an<|ax (jE (v:=.ref c.ch) @r M.mC @r) bh) @d @d) @h)
    (bS<|gC<|dq DF hr @r<|ax @an<|ax @an<|ax (pv 1) bh)
    (bS<|gC<|dq DN hr @r<|ax @an<|ax (i9 @an @r)<|ax (pv 1) bh)))))
  (bS<|dw<|T5 (i:=2) @r))),?_)
 show(by change 0<=au;decide,λwa nw=>?_);have s1:=bt nw @t;have J9:upd H wa @t wa=θ @t:=aA;have vr:VR K c [] (upd H wa @t) x v:=v8 c [] x v (Rep.mono (bC.of_same s1) _ _ rv);have g1:GB K c H [] [] ι wa (upd H wa @t):=(λb e=>s1.free e,λb o e _=>s1 _ _ e,by simp,(λp hp=>nomatch hp),(λp hp=>nomatch hp),nw,(λp hp=>nomatch hp),(λp hp=>nomatch hp),by simp,(λp hp=>nomatch hp),λr e=>nomatch e);show(_,@r,_,@r,v,wa,x,H,[],[],ι,[],@r,.inl vr,g1,J9,.nil,by decide,λu S1 W1 H1 T mn=>?_);have hB:PB x.nd W1:=by
  ext;let(N,e,h1,h2):=T.grow;rw[fN]at e;subst e;ext;intro A q C e;rw[e,aH,aF,ik]at h1;have hq:=h2 q (by rw[e];simp);rw[aR]at hq;rw[hq];omega
 show(λn σ H'=>∃S' W' y,n=W'.sum/\σ=[θ v,θ<|.ref wa,θ u,y]/\PB x.nd W'/\Means K c S' H' x u/\GB K c H S' W' ι wa H'/\∃ws,H' wa=θ @ap/\WL K H' ws W',(_,S1,W1,ι,@r,@r,hB,mn,T.gb,T.wl),?_);intro n σ H' hZ;ext;let(S',W',y,rfl,rfl,hn,mn',g',ws,hw,l):=hZ;ext;by_cases hW:W'=[]
 .subst hW;have e0:ws=[]:=List.eq_nil_of_length_eq_zero l.1;subst e0;show(_,@r,υ,.inl (_,gF.of hw,@r),nP ?_);show(u,S'.map (·.2.2),@r,λr Su=>?_,g'.rooms,λuq H2 k1 k2=>q u H2 (λb o e n=>?_) (yK uq g' k1 k2 x u mn'))
  .let(p,hp,rfl):=cj.mp Su;show g'.there p hp
  .rw[k1 b (λz=>by let(p,hp,rfl):=cj.mp z;rw[g'.fresh p hp]at e;cases e)];show g'.ni b o e n
 .ext;obtain⟨W2,p,rfl⟩:∃W2 p,W'=W2++[p]:=(_,_,(AI hW).symm);let(BS,t,rfl,ht,l2):=l.last;ext;have NO:=hn.top;show(_,@r,ξ,.inl (_,gF.of hw,by simp),rO ?_);show(λwO H2=>∃n2,n2<Wt.sum (W2++[p])/\∃S' W' y,n2=W'.sum/\wO=[θ v,θ<|.ref wa,θ u,y]/\PB x.nd W'/\Means K c S' H2 x u/\GB K c H S' W' ι wa H2/\∃ws,H2 wa=θ @ap/\WL K H2 ws W',λwO H2 z=>z,?_);show(_,@r,.inl (@r,_,gF.of hw),wa,_,.ref t,@r,@r,hw,by simp,?_);rw[fm];ext;let(nx0,g0,l0,m0,Ru,r0):=g'.take hw l2;have V2:eI K (upd H' wa<|.lst BS) t [.ref p.1.1,.ref p.1.2.2]:=(SameBut.upd _).tup hw t _ ht;let((pa,pt,pr),px):=p;ext;cases px with
  |int i=>rw[VR]at Ru;cases Ru
  |bool i=>rw[VR]at Ru;cases Ru
  |chain xs=>
   rw[VR]at Ru;ext;let(a',z,cn0):=Ru;cases z;let(dx,hd,tl,o,hi,_):=cn0.at;ext;show(_,@r,t,_,_,.ref pa,@r,@r,V2,@r,.ref pa,c.ch,.ref c.ch,ξ,@r,.of<|.ins hi M.cC.cl M.cC.ha M.cC.hn M.cC.GV M.cC.hm,M.kC.2.2.1,ξ,@r,rO ?_);show(_,@r,t,_,_,.ref pr,@r,@r,V2,@r,_,@r,t,_,_,.ref pa,@r,@r,V2,@r,_,@r,?_);simp only[MV.nd]at NO;show((pa,pt,pr,),wa,xs,H,S',W2,BS,@r,cn0,m0,r0,g0,aA,l0,by omega,λS2 W3 H2 nx g2 wl2 less gr=>?_);show(W3.sum,by rw[Wt.sum_append];simp only[Wt.sum,MV.wt];omega,S2,W3,_,@r,@r,hn.push gr (λy hy=>LS hy) (by simp only[MV.nd];omega),(mn'.next nx0).next nx,g2,wl2)
  |dM x' b' dI=>
   have vr1:=Ru;rw[VR]at Ru;ext;let(a',dx,vb,vk,o,z,hi,rb,ro,kn):=Ru;cases z;ext;show(_,@r,t,_,_,.ref pa,@r,@r,V2,@r,.ref pa,c.ch,.ref c.cl,υ,@r,.of<|.ins hi M.cL.cl M.cL.ha M.cL.hn M.cL.GV M.cL.hm,M.kC.2.2.2,υ,@r,nP ?_);show(_,@r,t,_,_,.ref pr,@r,@r,V2,@r,_,@r,t,_,_,.ref pa,@r,@r,V2,@r,pa,c.cl,dx,_,vk,@r,hi,M.cL.cl,M.aL.2.2.1,@r,_,@r,?_);simp only[MV.nd]at NO;show((pa,pt,pr,),vk,wa,x',b',dI,H,S',W2,BS,@r,vr1,kn,m0,r0,g0,aA,l0,by omega,λS2 W3 H2 nx g2 wl2 less gr=>?_);show(W3.sum,by rw[Wt.sum_append];simp only[Wt.sum,MV.wt];omega,S2,W3,_,@r,@r,hn.push gr (λy hy=>LU hy) (by simp only[MV.nd,aP];omega),(mn'.next nx0).next nx,g2,wl2)
def YW(F:iP K "worked_out" "worked_out" qB f fd)(M:j6 K mg c CS CT)(DB:nS P w K mg base 8 "begin_part" ["part","known","waiting","done"] (TY K<|ag0 c CS))(DE':nS P w K mg base 5 "end_part" ["part","known","waiting","done"] (spP K<|ag1 c CS))(DG:cS P w K mg base 9 "given_back" ["value"] (AB K c)):c8 P w K mg base @B 10 f fd ["expr","known","steps"] (XJ K<|Ka c CS CT):=by
 show F.okN yS (λas o h=>?_) @qe
 .ext;let(e,ρ,n,r,rfl,_):=h;ext;show(@r,by simp)
 ext;let(e,ρ,n,r,rfl,hn,(k0,hk0),hfl,ho):=h;ext;change VX _ _ _ [.d (gz e),.d<|sU c ρ,.d<|.int (n:?I),.un,.un,.un,.un] _;have kp:∀i,Kept (vm H) i:=λ_=>vm.kept;show LL yS.nd @r (kp _) (nU<|aX @ai gw) ?_;show LL yS.nd @r (kp _) @l ?_;show lz yS.nd @r (kp _) @l ?_;show HG gg.own (λm dI=>∃(t:MS)(x:Sl),dI=[.d (gz e),.d<|sU c ρ,.d<|.int (n:?I),.o<|wl c t.w,.o<|dl c t.d,.d<|.int ((n - t.n:?N):?I),x]/\tX m t=θ r/\J8 t.w t.d.length/\t.n<=n/\t.w.length<=1+2 * (n - t.n)/\t.d.length<=n - t.n) (k0,([.gY e ρ],[],n),.un,?_,hk0,@r,aj _,by simp,by simp) ?_
 .simp[wl,dl,lG]
 intro m dI hZ;ext;let((tw,td,tn),x,rfl,tF,eD,hle,hb1,Ve):=hZ;ext;dsimp only at tF eD hle hb1 Ve ⊢;cases m with
 |zero=>rw[tX]at tF;cases tF
 |succ m=>
 rw[tX]at tF;cases tw with
 |nil=>
  rw[J8]at eD;ext;obtain⟨v,rfl⟩:∃v,td=[v]:=by match td,eD with|[v],_=>show(v,@r)
  rw[fQ]at tF;cases tF;ext;show(υ,bq (JU @l @r @h) (by simp[wl]),@n,λ_=>?_);rw[iE];show QK DG @D @r @r (hfl v @r) (vm.evn H) (_,ho,@r)
 |cons t tw=>
  show(ξ,bq (JU @l @r @h) (by simp[wl]),@qb,@n);rw[mZ];show Qo yS.nd @r @r (kp _) @r ?_;rw[aF]at hb1;cases t with
  |fin e' Kq=>
   let(o1,o2,o3):=eD;cases td with
   |nil=>show ?A (bJ o1 o2) @s
   |cons l td=>
   rw[aF]at o2 o3 Ve;rw[lG];show cH (k:=ξ) (bq (vV (mH @l @l @r)<|ur M) @d) @qb @n;rw[fQ]at tF;show Qs gg DE' @D @l @l @r @r @d @r @r (e',Kq,tw,l,td,@r,@r,@r,@r,o1,o2,by omega,by omega,@r) (λC z=>?_) (λz hz=>?_)
   .show hE C ?_;cases q:rP e' Kq l tw td tn with
    |inl s'=>rw[<-Bw c CS e' Kq l tw td tn,q]at z;cases z
    |inr r'=>rw[<-Bw c CS e' Kq l tw td tn,q]at z;cases z;rw[q]at tF;obtain rfl:=Ep q;cases tF;show ho
   .rw[<-Bw c CS e' Kq l tw td tn]at hz;cases q:rP e' Kq l tw td tn with
    |inr r'=>rw[q]at hz;cases hz
    |inl s'=>
     rw[q]at hz tF;ext;cases hz;let(f1,f2,f3,f4):=ag3 q o3;ext;show cB (cB (m,ic _,s',.d<|.tuple [.int 1,gz e',sU c Kq],?_,tF,f4,by omega,by omega,by omega));rw[f1];rfl
  |gY e' Kq=>
   rw[lG];show cH (k:=υ) (bq (vV (mH @l @l @r)<|ur M) @d) @n @qb;cases tn with
   |zero=>
    rw[fQ]at tF;cases tF;show cH (k:=υ) (bq @l<|?f @o) @n @qb;show ph gg M.eT (hE CT ho)
   |succ tn=>
   rw[fQ]at tF;show cH (k:=ξ) (bq @l<|?t @o) @qb @n;show Xx yS.nd @r (kp _) @r @l ?_;rw[J8]at eD;show Nw gg DB @D (vm.ev H) @l @l @r @r @d @r @r (e',Kq,tw,td,@r,@r,@r,@r,by omega,by omega,@r) (λC z=>?_) (λz hz=>?_)
   .show hE C ?_;cases q:lQ e' Kq tw td tn with
    |inl s'=>rw[<-Bv c CS e' Kq tw td tn,q]at z;cases z
    |inr r'=>rw[<-Bv c CS e' Kq tw td tn,q]at z;cases z;rw[q]at tF;obtain rfl:=Nt q;cases tF;show ho
   .rw[<-Bv c CS e' Kq tw td tn]at hz;cases q:lQ e' Kq tw td tn with
    |inr r'=>rw[q]at hz;cases hz
    |inl s'=>
     rw[q]at hz tF;ext;cases hz;let(f1,f2,f3,f4):=ag2 q;ext;show cB (cB<|cB (m,ic _,s',.d<|.tuple [.int 0,gz e',sU c Kq],?_,tF,f4 eD,by omega,by omega,by omega));rw[f1,show((n - tn:?N):?I)=((n - (tn+1):?N):?I)+1 from by omega];rfl
def YX(F:iP K "run" "run" Ki f fd)(DW:nS P w K mg base 10 "worked_out" ["expr","known","steps"] (XJ K<|Ka c CS CT))(DK:cS P w K mg base 4 "known_from" ["names"] (jt K<|ag8 c)):c8 P w K mg base @B 11 f fd ["expr","names","steps"] (oI K<|L4 CS CT):=by
 show c8.ah5 QM (F.okN YH (λas o h=>?_) @qe)
 .ext;let(e,ρ,n,r,rfl,_):=h;ext;show(@r,by simp)
 ext;let(e,ρ,n,r,rfl,hn,he,hf,ho):=h;ext;change VX _ _ _ [.d (gz e),.l (gR ρ).reverse,.d (.int (n:?I))] _;show L3 gg DW hr (vm.evn H) (cw @l<|cw (cK DK @D @l (ρ,@r,@r)) @l) (e,ρ,n,r,@r,hn,he,hf,ho) (λr' z=>?_) hE;rw[ho]at z;let(d,rfl):=FQ z;show(d,@r,d,by rw[ho,z],@r)
def Rv:bO ["function","argument","steps","held"] ["function","argument","steps"] (az wb):=@a
def YY(F:iP K "applied" "applied" wb f fd)(B:Plain mg)(M:j6 K mg c CS CT)(MN:Made P w K mg base "Known" c.kn 3 FE)(DT:cS P w K mg base 3 "taken" ["value"] (jt K<|HN c))(DO:cS P w K mg base 6 "opened" ["value"] (NV K<|QB c))(DW:nS P w K mg base 10 "worked_out" ["expr","known","steps"] (XJ K<|Ka c CS CT)):
  c8 P w K mg base @B 11 f fd ["function","argument","steps"] (oI K<|QL CS CT):=by
 show c8.ah5 QN (F.okN Rv (λas o h=>?_) @qe)
 .ext;let(x,b,ρ,a,n,r,rfl,_):=h;ext;show(@r,by simp)
 ext;let(x,b,ρ,a,n,r,rfl,hn,he,hf,ho):=h;ext;change VX _ _ _ [.d (outD<|.dM x b ρ),.d<|outD a,.d<|.int (n:?I),.un] _;ext;let(g,Ss,ps,m1,m2,m3,m4):=MN;ext;show T6 Rv.nd @r vm.kept DO @D (vm.ev H) (cw (cK DT @D @l (.dM x b ρ,@r,@r)) gO) (.dM x b ρ,@r,@r) ?_;show cH (fq<|c7 (sf B.isinstance M.mL (M.XB<|.dM x b ρ) (M.af9<|.dM x b ρ) @l) @h) @n (λ_=>cB ?_);rw[pj];show L3 gg DW hr (vm.evn H) (cw (mJ M.cL.cl M.aL.2.1 @l @r)<|cw (kY (Gy:=[("name",.str x,),("value",oX c a,),("others",sU c ρ,)]) m1 m2 m3 m4 @D (aX (mJ M.cL.cl M.aL.1 @l @r)<|aX (cK DT @D @l (a,@r,@r))<|aX (mJ M.cL.cl M.aL.2.2.1 @l @r) gw) @r λH us r=>As r) @l) (b,(x,a,)::ρ,n,r,by rw[v7];rfl,hn,he,hf,ho) (λr' z=>?_) hE;rw[ho]at z;let(d,rfl):=FQ z;show(d,@r,d,by rw[ho,z],@r)
def YZ(F:iP K "_law_whole" "_law_whole" oJ f fd)(B:Plain mg):c8 P w K mg base kD 1 f fd ["_law_found"] (jt K XQ):=by
 show F.zA Ic @qd @qa
 .let(v,rfl,_):=h;show(@r,by simp)
 let(i,rfl,rfl):=h;change VS _ _ [.d @T] _;show cf (mI (gG B.isinstance B.int gL xE @f @l) λ_=>yt (JV<|gG B.isinstance B.bool iR xE (by first|rfl|kernel_rfl) @l)) @i
def Kr:bO ["_law_cell","_law_large","_law_some"] ["_law_cell"] (az lC):=@a
def Y0(F:iP K "_law_some_number" "_law_some_number" lC f fd):c8 P w K mg base kD 1 f fd ["_law_cell"] (jt K Q7):=by
 show F.zA Kr @qd @qa
 .let(c,rfl,_):=h;show(@r,by simp)
 let(c,rfl,rfl):=h;change VS _ _ [.d (.int c),.un,.un] _;have cm:Ob c 48271:=.inr (by decide,by decide);show dJ Kr.nd @r (d:=.int (1000000000000000000000 + c * 48271 % 1097 % 5)) (xq @l<|uS (uS (xt @l @l cm) @l) @l) ?_;show kX Kr.nd @r (xs:=(Me c).map vM) (nU<|aX @l<|aX (Qi @l)<|aX (xr (uS (uS (xt @l @l cm) @l) @l) @l) @l) ?_;show cf (uh @l (jq (r':=.d (.int (zG c:?I))) (uS (uS (xt @l @l cm) @l) @l)<|by rw[Q5]) @f (some_at c)) @i
def Gb:bO ["_law_n","_law_one","_law_part","_law_rows"] ["_law_n"] (az lD):=@a
variable{j:?N}{p:Pos}
def Rw:VE X ρ (.BinOp (.BinOp (.Constant (.str "x") j p) .Mult (.Constant (.int 30) j2 p2) p3) .Add (.Constant (.str "a") j3 p4) p5) (.d<|.str Lk):=Am (Fv ug Fh @y @d @d @y) ug (bD (show _<=1000 by symm) (by rw[dC];decide))
def V3:VE X ρ (.BinOp (.BinOp (.Constant (.str "x") j p) .Mult (.Constant (.int 30) j2 p2) p3) .Add (.Constant (.str "b") j3 p4) p5) (.d<|.str Td):=Am (Fv ug Fh @y @d @d @y) ug (bD (show _<=1000 by symm) (by rw[dC];decide))
def Y1(F:iP K "_law_first_names" "_law_first_names" lD f fd):c8 P w K mg base kD 1 f fd ["_law_n"] (jt K FV):=by
 show F.zA Gb @qd @qa
 .let(n,rfl,_):=h;show(@r,by simp)
 let(n,rfl,rfl):=h;change VS _ _ [.d (.int n),.un,.un,.un] _;have A9:au=16777216:=dC;show dJ Gb.nd @r @l ?_;show dJ Gb.nd @r (d:=BK n) @l ?_;show kX Gb.nd @r (xs:=[.tuple [.str IK,.bool ξ],.tuple [.str Lk,.int (1 - n)],.tuple [.str IK,.int n]]) (nU<|aX @l<|aX (dW<|aX Rw<|aX (xr @l @l) gw) @l) ?_;show cf (Ls (ra:=.l [.tuple [.str IK,.bool ξ],.tuple [.str Lk,.int (1 - n)],.tuple [.str IK,.int n]]) (rb:=.o [.tuple [.str Lk,.list [.int 3,.int n]],.tuple [.str Td,.tuple [.str "fun",.str "a",BK n,.list []]]]) @l (nU<|aX (dW<|aX Rw<|aX (qZ<|nU @l) gw)<|aX (dW<|aX V3<|aX (dW<|aX @l<|aX @l<|aX @l<|aX (qZ<|nU gw) gw) gw) gw) @f @f (by rw[A9];change 5<=16777216;decide)) @i
def BW:bO ["_law_n","_law_x","_law_one","_law_two","_law_three"] ["_law_n"] (az jf):=@a
def Y2(F:iP K "_law_names_right" "_law_names_right" jf f fd)(B:Plain mg)(DR:nS P w K mg base 11 "run" ["expr","names","steps"] (oI K<|L4 CS CT))(DF:cS P w K mg base 1 "_law_first_names" ["_law_n"] (jt K FV))(DW:cS P w K mg base 1 "_law_whole" ["_law_found"] (jt K XQ)):c8 P w K mg base kD 12 f fd ["_law_n"] (jt K Mf):=by
 show F.zA BW @qd @qa
 .let(n,rfl,_):=h;show(@r,by simp)
 ext;let(n,rfl,rfl):=h;ext;change VS _ _ [.d (.int n),.un,.un,.un,.un] _;have A9:au=16777216:=dC;have hu:(A.deeper<|dY "_law_names_right" (az jf) ↥s f ez).units+20<cLine:=by have:=hr.un;omega
 have kl:aS K (.type "list") (.type "list")=θ ξ:=by first|rfl|kernel_rfl
 show dJ BW.nd @r (d:=gz (.name IK)) @l ?_;show dJ BW.nd @r (d:=.int n) (Bx DR hr (cw @l<|cw (cK DF @C @l (n,@r,@r)) @l) (.name IK,tE n,1,.val<|.int n,by rw[sr];rfl,by omega,by have:=(evX n).whole 1;rwa[?n @o]at this,(λv z=>by cases z;change MV.nd (.int n)<16700000;rw[MV.nd];decide),by rw[FP,outD])) ?_;show dJ BW.nd @r (d:=.list [.int 3,.int n]) (Bx DR hr (cw (dW<|aX @l<|aX (dW<|aX Rw gw) @l)<|cw (cK DF @C @l (n,@r,@r)) @l) (.name Lk,tE n,1,.val<|.chain [.int 3,.int n],by rw[sr];rfl,by omega,by have:=(evA n).whole 1;rwa[?n @o]at this,(λv z=>by cases z;simp[MV.nd,Vv]),by simp[FP,outD,iC])) ?_;show dJ BW.nd @r (d:=.int (n + n)) (Bx DR hr (cw (dW<|aX @l<|aX @l<|aX (dW<|aX (dW<|aX @l<|aX (dW<|aX V3 gw) @l) @l) gw)<|cw (cK DF @C @l (n,@r,@r)) @l) (.call (.name Td)<|.name IK,tE n,6,.val<|.int<|n + n,by rw[sr];rfl,by omega,by have:=(evB n).whole 6;rwa[?n @o]at this,(λv z=>by cases z;change MV.nd (.int<|n + n)<16700000;rw[MV.nd];decide),by rw[FP,outD])) ?_;show bx (k:=υ) (iN<|fF (bq (fq<|c7<|cK DW @C @l (n,@r,@r)) @f)<|fF (bq (rT @l @l) @s)<|fF (bq (fq<|c7<|cK DW @C @l (n + n,@r,@r)) @f)<|ir<|bq (rT @l<|xq @l @l) @s) @r ?_;show bx (k:=υ) (iN<|fF (bq (fq<|c7<|Bz B.isinstance B.list eC @l kl) @f)<|ir<|bq (rT (TX (ra:=.d (.list [.int 3,.int n])) B.len @l @f) @l) @f) @r ?_;show cf (jq (r':=.d (.bool ξ)) (mI (j:=ξ) (cK DW @C (cw (Qz (ra:=.d (.list [.int 3,.int n])) @l @l @f @f) gO) (3,@r,@r)) λ_=>mI (j:=ξ) (cK DW @C (cw (Qz (ra:=.d (.list [.int 3,.int n])) @l @l @f @f) gO) (n,@r,@r)) λ_=>yt (Xd (n:=20) (d:=.list [.int 3,.int n]) (d':=.list [.int 3,.int n]) (rb:=.o [.int 3,.int n]) hu @l @l @f @f @f @f<|.inl<|by simp[wV,sT])) (by simp[hZ,mR])) @i
def Y3:bO ["_law_kind"] ["_law_kind"] (az iU):=@a
def Y4(F:iP K "_law_sample_value" "_law_sample_value" iU f fd)(DS:cS P w K mg base 1 "_law_sample" ["_law_kind"] (jt K FC)):c8 P w K mg base kD 2 f fd ["_law_kind"] (jt K Q8):=by
 show F.zA Y3 @qd @qa
 .let(k,rfl,_):=h;show(@r,by simp)
 ext;let(k,rfl,hn,h6,rfl):=h;ext;change VS _ _ [.d (eM k)] _;have hu:(A.deeper<|dY "_law_sample_value" (az iU) ↥s f ez).units+50<cLine:=by have:=hr.un;omega
 have hd:=LA k;cases k with
 |num=>show eN @l @f (cf (jq (r':=.d (outD<|sv .num)) @l<|by simp[sv,outD]) @i)
 |truth=>show bx @l @f (eN @l @f<|cf (jq (r':=.d (outD<|sv .truth)) @l<|by simp[sv,outD]) @i)
 |list k=>
  show bx @l @f (bx @l @f ?_);by_cases hk:k = .num
  .subst hk;show eN (bq (Fk (n:=50) (d:=eM (.list .num)) (d':=eM (.list .num)) hu @l @l @r @r (uk _) (uk _)<|.inl (by rw[xw];omega)) (Fw _ _)) @f (cf (jq (r':=.d (outD<|sv<|.list .num)) (qZ @l)<|by simp[sv,outD,iC]) @i)
  .show bx (bq (Fk (n:=50) (d:=eM (.list k)) (d':=eM (.list .num)) hu @l @l @r @r (uk _) (uk _)<|.inl (by rw[xw];omega)) (Fw _ _)) (by simp[hk]) (eN @l @f<|cf (jq (r':=.d (outD<|sv<|.list k)) (qZ @l) ?_) @i);cases k with
   |num=>show ?A @r hk
   |_=>simp[sv,outD,iC]
 |to a m=>
  show bx @l @f (bx @l @f ?_);show bx (bq (Fk (n:=50) (d:=eM (.to a m)) (d':=eM (.list .num)) hu @l @l @r @r (uk _) (uk _)<|.inl (by rw[xw];omega)) (Fw _ _)) @s (bx @l @f ?_);let(rfl,hm):=L7 hn;simp only[bG]at h6;show cf (jq (r':=.d (outD<|sv<|.to .num m)) (dW<|aX @l<|aX @l<|aX (cK DS hr (cw @l gO) (m,@r,by omega,@r)) (aX (qZ @l) gw)) ?_) @i;rw[sv,outD,QP (FT<|Ey hm).ZR];simp[gR]
def Y5:bO ["_law_value","_law_kind"] ["_law_value","_law_kind"] (az uE):=@a
def Y6(F:iP K "_law_flat" "_law_flat" uE f fd)(B:Plain mg)(DW:cS P w K mg base 1 "_law_whole" ["_law_found"] (jt K XQ)):c8 P w K mg base kD 2 f fd ["_law_value","_law_kind"] (jt K VL):=by
 show F.zA Y5 @qd @qa
 .ext;let(v,k,rfl,_):=h;ext;show(@r,by simp)
 ext;let(v,k,rfl,ht,rfl):=h;ext;change VS _ _ [.d (outD v),.d (eM k)] _;cases k with
 |num=>
  let(i,rfl):=ht.num_inv;rw[outD];show eN @l @f (cf (cK DW hr @l (i,@r,@r)) @i)
 |truth=>
  let(i,rfl):=ht.Ew;rw[outD];show bx @l @f (eN @l @f<|cf (eV B.isinstance B.bool iR @l @r<|by first|rfl|kernel_rfl) @i)
 |list k=>
  let(xs,rfl,_):=ht.pk;rw[outD];show bx @l @f (bx @l @f<|eN @l @f<|cf (Bz B.isinstance B.list eC @l<|by first|rfl|kernel_rfl) @i)
 |to a m=>
  ext;let(x,b,ρ,Γ,rfl,_):=ht.BH;ext;rw[outD];show bx @l @f (bx @l @f<|bx @l @f<|cf (jq (r':=.d (.bool ξ)) (mI (j:=ξ) (k:=ξ) (jq (r':=.d (.bool ξ)) (LI @l @l) @f) λ_=>yt (eV B.isinstance B.tuple cR @l @r<|by first|rfl|kernel_rfl)) @f) @i)
def Ks:bO ["_law_expr","_law_todo","_law_part"] ["_law_expr"] (az sI):=@a
def Y7(F:iP K "_law_calls" "_law_calls" sI f fd)(B:Plain mg):c8 P w K mg base kD 1 f fd ["_law_expr"] (jt K Mh):=by
 show F.zA Ks @qd @qa
 .let(t,rfl,_):=h;show(@r,by simp)
 ext;let(t,rfl,ha,hz,hn,rfl):=h;ext;change VS _ _ [.d _,.un,.un] _;have A9:au=16777216:=dC;show kX Ks.nd @r @l ?_;show ui bN (λm ρ=>∃(st:?L Tm)(x:Sl),m=b9 st/\b9 st<=200000/\(∀u∈st,Dl u)/\(∃u∈st,nc (tD u)=υ)/\ρ=[.d (py<|ex t),.o (st.map λu=>py (ex u)),x]) (_,[t],_,@r,by simp[b9];omega,by simp[ha],(t,by simp,hn),@r) ?_;intro m dI hZ;ext;let(st,x,rfl,hc,AX,(u0,hu0,hnu),rfl):=hZ;ext;have hle:=fM st;show(ξ,bq (yr (uV B.len @l @r) @l) (?t (by have:=List.length_pos_of_mem hu0;rw[aP];omega)),λ_=>?_,λz=>nomatch z);rcases gS st with e0|⟨pW,u,rfl⟩
 .subst e0;show ?A hu0 @s
 let(b,o):=u;rw[e7]at hc;simp only[b9,cM.size]at hc;have h1:=fM pW;have h2:=fM o;have ZQ:=AX @R @s;have hob:=ZQ.len;show Fn (xs:=pW.map λu=>py (ex u)) (d:=.tuple [.str (Fp b).1,.tuple (Fp b).2,.tuple ((o.map ex).map py)]) Ks.nd @r @r (by rw[bK,fh,Bp @R];rfl) ?_;by_cases hb:(Fp b).1 = "call"
 .show eN @l (by simp[hb]) (cf @l @i)
 .show bx @l (by simp[hb]) ?_;show oP (ys:=o.map λu=>py (ex u)) @r @r (jq (r':=.o (o.map λu=>py (ex u))) (oZ B.list @l) (by rw[gW];rfl)) @r @z (dB (b9<|pW++o,by rw[e7,e7];simp only[b9,cM.size];omega,pW++o,_,@r,by rw[e7];omega,?_,?_,by rw[bK (l₁:=pW) (l₂:=o)];rfl))
  .intro v hv;rcases aW.mp hv with hv|hv
   .show AX v (bW _ hv)
   .show ZQ.own v hv
  .rcases aW.mp hu0 with hv|hv
   .show(u0,bW _ hv,hnu)
   .rw[aR]at hv;subst hv;let(v,hv,hnv):=XU hob hb hnu;show(v,aB _ hv,hnv)
def sL:bO ["_law_value","_law_kind","_law_steps","_law_todo","_law_pair","_law_inner","_law_one","_law_made","_law_tired"] ["_law_value","_law_kind","_law_steps"] (az sH):=@a
def Y8(F:iP K "_law_worth" "_law_worth" sH f fd)(B:Plain mg)(DP:nS P w K mg base 11 "applied" ["function","argument","steps"] (oI K<|QL CS CT))(xT:oN K (.ref CT) (.ref CT)=θ ξ)(mT:mg "Tired"=θ (.ref CT))(DL:cS P w K mg base 2 "_law_flat" ["_law_value","_law_kind"] (jt K VL))(DV:cS P w K mg base 2 "_law_sample_value" ["_law_kind"] (jt K Q8)):c8 P w K mg base kD 12 f fd ["_law_value","_law_kind","_law_steps"] (jt K Mj):=by
 show F.zA sL @qd @qa
 .ext;let(v,k,n,rfl,_):=h;ext;show(@r,by simp)
 ext;let(v0,k0,n,rfl,hd0,hn,rfl):=h;ext;change VS _ _ [.d (outD v0),.d<|eM k0,.d<|.int (n:?I),.un,.un,.un,.un,.un,.un] _;have A9:au=16777216:=dC;show kX sL.nd @r @l ?_;show ui bN (λm ρ=>∃(td:?L (MV×Kd)) (x4 x5 x6 x7 x8:Sl),m=zU td/\(∀q∈td,Due q)/\ZZ td/\ρ=[.d (outD v0),.d<|eM k0,.d<|.int (n:?I),.o<|td.map prK,x4,x5,x6,x7,x8]) (_,[(v0,k0,)],_,_,_,_,_,@r,by simp[hd0],?_,@r) ?_
 .intro A q C e;have hk:=hd0.kz;have NQ:=XS k0;simp only at hk;cases A with
  |nil=>cases e;simp only[iI];omega
  |cons a A=>simp at e
 intro m dI hZ;ext;let(td,x4,x5,x6,x7,x8,rfl,AX,Sn,rfl):=hZ;ext;rcases gS td with e0|⟨GD,q,rfl⟩
 .subst e0;show(υ,bq (yr (uV B.len @l @r) @l) @f,@n,λ_=>cf @l @i)
 show(ξ,bq (yr (uV B.len @l @r) @l)<|?t @s,@qb,@n);ext;let(v,k):=q;have hdq:=AX (v,k,) @s;have Ih:∀q∈GD,Due q:=λq hq=>AX q (by simp[hq]);have hlen:=Sn GD (v,k,) [] @s;let(R,M,hf,_):=hdq.XT;ext;have UL:=hf.ty;simp only at UL hlen;show Fn (xs:=GD.map prK) (d:=.tuple [outD v,eM k]) sL.nd @r @r (by rw[bK];rfl) ?_;show dJ sL.nd @r (d:=eM k) @l ?_;show bx (bq (fq<|c7<|cK DL @C (cw @l @l) (v,k,@r,UL,@r)) @f) @r ?_;have flat:∀{x6 x7 x8:Sl},zU GD<zU (GD++[(v,k,)])->ZZ GD:=λ_ A q C e=>Sn A q (C++[(v,k,)]) (by rw[e];simp);have V4:∀{N:?L (MV×Kd)},zU N<Kh k->zU (GD++N)<zU (GD++[(v,k,)]):=λh=>by rw[BM,BM];simp only[zU];omega
 cases k with
 |num=>show bx @l @f (bx @l @f<|dB (_,V4 (N:=[]) (by simp[zU,Kh]),GD,_,_,_,_,_,by rw[bP],Ih,flat (x6:=x6) (x7:=x7) (x8:=x8) (by have:=V4 (N:=[]) (by simp[zU,Kh]);rwa[bP]at this),@r))
 |truth=>show bx @l @f (bx @l @f<|dB (_,V4 (N:=[]) (by simp[zU,Kh]),GD,_,_,_,_,_,by rw[bP],Ih,flat (x6:=x6) (x7:=x7) (x8:=x8) (by have:=V4 (N:=[]) (by simp[zU,Kh]);rwa[bP]at this),@r))
 |list k=>
  ext;let(xs,rfl,_):=UL.pk;let(hxl,hxd):=hdq.mem;ext;rw[outD,EA];show eN @l @f ?_;show o7 bN @r (LR (xs:=xs.map outD) @l) (qh sL.nd @r) (λi ρ=>∃x6,ρ=[.d (outD v0),.d<|eM k0,.d<|.int (n:?I),.o ((GD++(xs.take i).map λx=>(x,k,)).map prK),.d<|.tuple [.list (xs.map outD),eM (.list k)],.d<|eM<|.list k,x6,x7,x8]) (x6,by simp) ?_ ?_
  .rintro i d ρ hd ⟨y,rfl⟩;rw[aE]at hd;let(x,hx,rfl):=lP.mp hd;have hi:i<↑xs:=(ay.mp hx).1;show(_,@r,?_);show uW (d:=.tuple [outD x,eM k]) @r @r @l (by simp only[aP,aH,fY];rw[A9];omega) (dB (.d<|outD x,?_));rw[gH,hx];simp[prK]
  rintro ρ ⟨y,rfl⟩;rw[aP,zL];show dB (bx @l @f<|dB (zU (GD++xs.map λx=>(x,k,)),V4 ?_,GD++xs.map λx=>(x,k,),_,_,_,_,_,@r,?_,?_,@r))
  .have:∀l:?L MV,zU (l.map λx=>(x,k,))=↑l * Kh k:=by
    intro l;induction l with
    |nil=>simp[zU]
    |cons a r ih=>simp only[bZ,zU,ih,aF,Nat.succ_mul];omega
   rw[this,Kh];have:↑xs * Kh k<=1000 * Kh k:=Nat.mul_le_mul_right _ @o;omega
  .intro q hq;rcases aW.mp hq with hq|hq
   .show Ih q hq
   .let(x,hx,rfl):=cj.mp hq;show hxd x hx
  .show Sn.push (m:=Mi k) (λq hq=>by let(x,_,rfl):=cj.mp hq;show aj _) (by rw[aP,Mi];omega)
 |to a m=>
  ext;let(x,b,ρ,Γ,rfl,_):=UL.BH;let(na,za,r,hE,xJ):=hdq.app n;ext;show bx @l @f (eN @l @f ?_);show dJ sL.nd @r @l ?_;show dJ sL.nd @r @l ?_;have fin:∀{v':MV},Due (v',m,)->ZZ (GD++[(v',m,)]):=λ{v'} _=>Sn.push (m:=Mi m) (λq hq=>by rw[aR.mp hq];show aj _) (by simp only[Mi,ik];omega);show BJ (o:=FP CS CT r) (c:=.ref CT) (@r,@r,@r) DP hr (cw @l<|cw (cK DV @C (cw @l gO) (a,@r,na,za,@r)) @l) (x,b,ρ,sv a,n,r,@r,hn,hE,?_,@r) mT sL.nd @r @A ?_ ?_ ?_
  .intro v' z;rcases xJ with e|⟨u,e,_,h2⟩
   .rw[e]at z;cases z
   .rw[e]at z;cases z;show h2
  .intro r' z;rcases xJ with rfl|⟨u,rfl,h1,h2⟩
   .cases z
   .cases z;show(_,@r,?_);show eN (fq<|c7 @l) @f ?_;show uW (d:=.tuple [outD u,eM m]) @r @r @l (by simp only[aP];rw[A9];omega) (dB<|dB<|dB (zU<|GD++[(u,m,)],V4 (by simp only[zU,Kh];omega),GD++[(u,m,)],_,_,_,_,_,@r,?_,fin h1,by rw[bK (l₁:=GD) (l₂:=[(u,m,)])];rfl));intro q hq;rcases aW.mp hq with hq|hq
    .show Ih q hq
    .rw[aR.mp hq];show h1
  .intro C z;rcases xJ with rfl|⟨u,rfl,h1,h2⟩
   .cases z;show xT
   .cases z
  .rintro ea oe ⟨C,z⟩;show dJ sL.nd @r @l (dB ?_);show bx (fq<|c7 @l) @f (dB<|dB (_,V4 (N:=[]) (by simp[zU,Kh]),GD,_,_,_,_,_,by rw[bP],Ih,flat (x6:=x6) (x7:=x7) (x8:=x8) (by have:=V4 (N:=[]) (by simp[zU,Kh]);rwa[bP]at this),@r))
def Gc:bO ["_law_expr","_law_scope","_law_turn","_law_found"] ["_law_expr","_law_scope"] (az qD):=@a
def Y9(F:iP K "_law_mended" "_law_mended" qD f fd)(B:Plain mg)(DM:cS P w K mg base 1 "_law_parts_many" ["_law_expr"] (jt K Vp))(DFt:cS P w K mg base 4 "fault" ["expr","scope"] (jt K P9))(DMe:cS P w K mg base 61 "_law_mend" ["_law_expr","_law_found"] (jt K Vq)):c8 P w K mg base kD 62 f fd ["_law_expr","_law_scope"] (jt K Ib):=by
 show F.zA Gc @qd @qa
 .ext;let(e0,e1,rfl,_):=h;ext;show(@r,by simp)
 ext;let(e0,e1,rfl,tok,WY,hz,hmd,rfl):=h;ext;change VS _ _ [.d (py<|ex e0),.l<|ft.map qi,.un,.un] _;have zT:=e0.size_pos;have hW:8<=6 * e0.size+2:=by omega
 have ZT:6 * e0.size+2<=1000:=by omega
 show o7 bN @r (PU (n:=2 * e0.size+1) B.range (jq (r':=.d (.int ((2 * e0.size+1:?N):?I))) (xq (xt @l (cK DM @C (cw @l gO) (ex e0,@r,by rw[mX];omega,@r)) (.inl (by decide,by decide))) @l) (by rw[mX];rfl)) @o) (qh Gc.nd @r)
  (λi ρ=>∃e x2 x3,ρ=[.d (py<|ex e),.l<|ft.map qi,x2,x3]/\Sq e0 e i/\su e e1) (e0,_,_,@r,Sq.zero tok WY,hmd) ?_ ?_
 .intro i d dI hd hZ;ext;let(e,x2,x3,rfl,hm,hme):=hZ;ext;have hi:i<2 * e0.size+1:=by simpa[Dj]using(ay.mp hd).1
  have Rx:e.size<=200000:=by
   have h1:=hm.sz;have h2:i * (6 * e0.size+2)<=202 * 608:=vw @o @o;omega
  have NF:Em e ft:=Qm (i:=0) hW ZT hm.mg Rx @d o8;have Za:=Hx e ft;show(_,@r,?_);change VS _ _ [.d (py<|ex e),.l<|ft.map qi,.d d,x3] _;show dJ Gc.nd @r (cK DFt @C (cw @l<|cw (Hn B.list @l @r) gO) (e,ft,@r,NF,@r)) ?_;rcases hme.inv with⟨k,hc,rfl⟩|⟨r,pl,dd,ff,hc,aq7⟩
  .rw[hc]at Za;let(n1,n2,n3):=Za;rw[n1];show eN (bq (vW (ra:=.d .none) @l) @f) @r ?_;show cf @l @i
  .rw[hc]at Za;let(n1,n2):=Za;rw[n1];ext;let(m1,m2,m3,(t,m4),m5,m6):=LF hW hm.mg o8 hc;ext;show bx (bq (vW (ra:=.d (.tuple [JH pl,rX dd,rX ff])) @l) @f) @r ?_;show dJ Gc.nd @r (cK DMe @C (cw @l<|cw @l gO) (e,t,pl,dd,ff,@r,m4,Rx,λk h=>bD (m5 k h) ZT,λk h=>bD (m6 k h) ZT,af6 hm.mg.ZR hc,@r)) ?_;show bx (bq (vW (ra:=.d (py<|ex<|iD e pl<|oH dd ff)) @l)<|by rw[Ql]) @r (dB (iD e pl<|oH dd ff,.d d,.d<|.tuple [JH pl,rX dd,rX ff],@r,hm.next hc,aq7))
 .intro dI hZ;ext;let(e,x2,x3,rfl,hm,hme):=hZ;ext;rw[show(Dj 0<|2 * e0.size+1).length=2 * e0.size+1 from by simp[Dj]]at hm;have:=hm.fr;omega
def pD:bO ["_law_script","_law_scope","_law_expr","_law_kind","_law_steps","_law_n","_law_handed","_law_value","_law_tired"] ["_law_script"] (az uF):=@a
def Zb(F:iP K "law" "law" uF f fd)(B:Plain mg)(DD:cS P w K mg base 5 "_law_drawn" ["_law_cells"] (HD K))(DBs:cS P w K mg base 1 "_law_base" [] (jt K Vk))(DMd:cS P w K mg base 62 "_law_mended" ["_law_expr","_law_scope"] (jt K Ib))(DKo:cS P w K mg base 4 "kind_of" ["expr","scope"] (jt K LH))(DI:cS P w K mg base 1 "_law_is_kind" ["_law_found"] (jt K FA))(DSo:cS P w K mg base 1 "_law_some_number" ["_law_cell"] (jt K Q7))(jL:cS P w K mg base 1 "_law_at" ["_law_script","_law_k"] (jt K<|ag4 K))(DNr:cS P w K mg base 12 "_law_names_right" ["_law_n"] (jt K Mf))(DF:cS P w K mg base 1 "_law_first_names" ["_law_n"] (jt K FV))(DR:nS P w K mg base 11 "run" ["expr","names","steps"] (oI K<|L4 CS CT))(xT:oN K (.ref CT) (.ref CT)=θ ξ)(mT:mg "Tired"=θ (.ref CT))(DC:cS P w K mg base 1 "_law_calls" ["_law_expr"] (jt K Mh))(DW:cS P w K mg base 12 "_law_worth" ["_law_value","_law_kind","_law_steps"] (jt K Mj)):
  c8 P w K mg base kD 63 f fd ["_law_script"] (jt K<|Qa K):=by
 show F.zA pD @qd @qa
 .let(ns,rfl,_):=h;show(@r,by simp)
 ext;let(ns,rfl,MI,rfl):=h;ext;change VS _ _ [.h (r8 K ns),.un,.un,.un,.un,.un,.un,.un,.un] _;have hu:(A.deeper<|dY "law" (az uF) ↥s f ez).units+20<cLine:=by have:=hr.un;omega
 show Tt pD.nd @r @s (PN DBs @C (@r,@r)) ?_;change VS _ _ [.h (r8 K ns),.l<|ft.map qi,.un,.un,.un,.un,.un,.un,.un] _;show qg (cV (i:=2) pD.nd @r @A<|dq DMd hr @r<|ax (dq DD @C @r<|ax (xc SM @Z (xb bV)<|xb bV) bh)<|ax (pv 1) bh) λH0 hs D σ H1 er l=>?_;ext;let(sv,h1,a,rfl,hS):=er.M9 0 _ @r;ext;show(_,h1,1,@r,21,@r,a,_,@r,hS.sq,λp np=>?_);let(cs,ecs,ZE):=ai2 ns;rw[ecs];have s1:=bt np (.lst<|cs.map V.int);show(p,cs,@r,gF.of aA,by omega,λv2 H2 ee s2 wf hz rv=>?_);ext;let(e0,rfl,tok,WY):=wf.sk (6 * ee.size+2);rw[mX]at WY hz;have hz':e0.size<=101:=by omega
 let(e1,hmd,k,j,hc,Ry):=Ez _ (Sq.zero tok WY) @E;have zD:=er.grow @H;let(b,g1,g2):=zD.lst 1 _ @r;ext;show(_,g1,?_);show([.d (py<|ex e0),.l (ft.map qi)],.d<|py<|ex e1,.cons (r:=.d (py<|ex e0)) rv<|.cons (r:=.l (ft.map qi)) (b,@r,g2) .nil,(e0,e1,@r,tok,WY,hz',hmd,@r),λv3 H3 s3 r3=>l.nx _ _ (_,?_,(zD.grow s3).Bg r3));have zT:=e0.size_pos;have hW:8<=6 * e0.size+2:=by omega
 have ZT:6 * e0.size+2<=1000:=by omega
 have NP:=Ry.fr;have Rx:e1.size<=200000:=by
  have h1:=Ry.sz;have h2:j * (6 * e0.size+2)<=202 * 608:=vw @o @o;omega
 have NF:Em e1 ft:=Qm (i:=0) hW ZT Ry.mg Rx @d o8;have Za:=Hx e1 ft;rw[hc]at Za;ext;let(n1,n2,n3):=Za;have hk:bG k<=6 * e0.size+2:=HC hW Ry.mg o8 (gD e1) (by rw[lX];show hc);let(sn,hsn,aq8):=Ry.sk;ext;have Zc:Sk 608 sn e1:=aq8.wide @o;have hps:=L9 Zc.VB Mb hc;have aj2:=Zc.VB.ZR;have epy:=QP aj2;change VS _ _ [.h (r8 K ns),.l<|ft.map qi,.d<|py<|ex e1,.un,.un,.un,.un,.un,.un] _;show bx (bq (vW (ra:=.d (py<|ex e1)) @l)<|by rw[Ql]) @r ?_;show dJ pD.nd @r (cK DKo @C (cw @l<|cw (Hn B.list @l @r) gO) (e1,ft,k,@r,NF,n1,n2,n3,@r)) ?_;show bx (bq (fq<|c7<|cK DI @C (cw @l gO) (k,@r,by omega,@r)) @f) @r ?_;show dJ pD.nd @r (d:=.int ((200+10 * ↑ns:?N):?I)) (jq (xq @l<|xt @l (Nv (ns:=ns) B.len @l)<|.inl (by decide,by decide)) @f) ?_;show dJ pD.nd @r (d:=.int (Ia<|ns.getD 0 0)) (cK DSo @C (cw (cK jL @C (cw @l<|cw @l gO) (ns,0,@r,@r)) gO) (_,@r,@r)) ?_;generalize Ia (ns.getD 0 0)=n;show bx (bq (fq<|c7<|cK DNr @C @l (n,@r,@r)) @f) @r ?_;show kX pD.nd @r (cK DF @C @l (n,@r,@r)) ?_;show dJ pD.nd @r @l ?_;show dJ pD.nd @r @l ?_;let(r,hE,xJ):=Q3 Zc @o hc n (200+10 * ↑ns);have dk:=XR k;have due:∀v,zS v k 15900000 103->Due (v,k,):=λv hv=>((_,_,hv,by simp only;omega,by simp only;omega),hps,by simp only;omega);have same:∀{X:Cx}{ρ:?L Sl}{a b:bR}{pos:Pos},X.A.units+20<cLine->VE X ρ a (.l<|nW n)->VE X ρ b (.o<|nW n)->VT X ρ (.Compare a [.NotEq] [b] pos) υ:=λhu ha hb=>bq (Xe (n:=20) hu ha hb @r @r (BL n) (BL n)<|.inl<|Kf n) (by rw[Kg];rfl);show BJ (o:=FP CS CT r) (c:=.ref CT) (@r,@r,@r) DR @C @l (tD e1,tE n,200+10 * ↑ns,r,by rw[sr,epy];rfl,by omega,hE,?_,@r) mT pD.nd @r @A ?_ ?_ ?_
 .intro v' z;rcases xJ with⟨e,_⟩|⟨u,e,h2⟩
  .rw[e]at z;cases z
  .rw[e]at z;cases z;show h2.nd @d @d
 .intro r' z;rcases xJ with⟨rfl,_⟩|⟨u,rfl,h2⟩
  .cases z
  .cases z;show(_,@r,?_);show bx (same hu @l<|cK DF @C @l (n,@r,@r)) @r ?_;show bx (c7 @l) @f ?_;show cf (cK DW @C @l (u,k,200+10 * ↑ns,@r,due u h2,by omega,@r)) @i
 .intro C z;rcases xJ with⟨rfl,_⟩|⟨u,rfl,h2⟩
  .cases z;show xT
  .cases z
 .rintro ea oe ⟨C,z⟩;rcases xJ with⟨rfl,hnc⟩|⟨u,rfl,h2⟩
  .have NO:nc (tD e1)=υ:=by
    cases q:nc (tD e1)with
    |false=>rfl
    |true=>show ?A (q,by omega) hnc
   show dJ pD.nd @r @l (dB ?_);show bx (same hu @l<|cK DF @C @l (n,@r,@r)) @r ?_;show eN (c7 @l) @f ?_;show cf (cK DC @C @l (e1,@r,aj2,Rx,NO,@r)) @i
  .cases z
end
abbrev jL(K:aa)(x:χ)(st:cz)(f:af):?P:=bY K bH x=θ (θ<|.ref f)/\∃oc kV dc pm cd ct od an sl,
  K.lookup f=θ (oc,od,.func<|dv x x (iB st) (dE st) (az st) .none kV dc pm an cd ct,sl)/\gZ K cd x=ξ/\cW K (.ref f)=ξ
abbrev DQ(P:bu)(w:bU)(K:aa)(mg:χ->?O ai)(base:cD)(x:χ)(ps:?L χ)(f:af)(fd:aV):?P:=Binds K fd ps []/\cW K (.ref f)=ξ/\mg x=θ (.ref f)
section
variable {P:bu}{w:bU}{K:aa}{mg:χ->?O ai}{base h:cD}{x:χ}{ps:?L χ}{f:af}{fd:aV}{k:?N}{sp:Sp}{st:cz}
def jL.mk{oc kV dc pm cd ct:ai}{od an:?O af}{sl:?R (?O ai)}(a:bY K bH x=θ (θ<|.ref f))(l:K.lookup f=θ (oc,od,.func<|dv x x (iB st) (dE st) (az st) .none kV dc pm an cd ct,sl))(c:gZ K cd x=ξ)(k:cW K (.ref f)=ξ):jL K x st f:=(a,_,_,_,_,_,_,_,_,_,l,c,k)
def jL.q(d:jL K x st f)(X:K.In h)(G:h.Ns bH mg)(ps:?L χ)(P:bu)(w:bU)(base:cD)(hb:∀(kV doc pm:ai)(an:?O af)(ez ct:ai)(us:?L ai),us.length=↑ps->bindArgs @N (us,[])=pure (ps.zip us)):∃fd,iP K x x st f fd/\DQ P w K mg base x ps f fd:=by
 let(a,_,_,_,_,_,_,_,_,_,l,c,k):=d;show(_,vT l c k,(vT l c k).binds hb,k,dn X G a)
def jL.q0(d:jL K x st f)(X:K.In h)(G:h.Ns bH mg)(P:bu)(w:bU)(base:cD)(hb:∀kV doc pm an ez ct,bindArgs @N ([],[])=pure []:=by intros;rfl):∃fd,iP K x x st f fd/\DQ P w K mg base x [] f fd:=
 d.q X G _ P w base λ_ _ _ _ _ _ us hl=>by
  rcases us with _|⟨_,_⟩<;>first|(cases hl;done)|show hb _ _ _ _ _ _ 
def jL.q1(d:jL K x st f)(X:K.In h)(G:h.Ns bH mg)(P:bu)(w:bU)(base:cD)(p0:χ)(hb:∀kV doc pm an ez ct u0,bindArgs @N ([u0],[])=pure [(p0,u0,)]:=by intros;rfl):∃fd,iP K x x st f fd/\DQ P w K mg base x [p0] f fd:=
 d.q X G _ P w base λ_ _ _ _ _ _ us hl=>by
  rcases us with _|⟨u0,_|⟨_,_⟩⟩<;>first|(cases hl;done)|show hb _ _ _ _ _ _ u0
def jL.q2(d:jL K x st f)(X:K.In h)(G:h.Ns bH mg)(P:bu)(w:bU)(base:cD)(p0 p1:χ)(hb:∀kV doc pm an ez ct u0 u1,bindArgs @N ([u0,u1],[])=pure [(p0,u0,),(p1,u1,)]:=by intros;rfl):∃fd,iP K x x st f fd/\DQ P w K mg base x [p0,p1] f fd:=
 d.q X G _ P w base λ_ _ _ _ _ _ us hl=>by
  rcases us with _|⟨u0,_|⟨u1,_|⟨_,_⟩⟩⟩<;>first|(cases hl;done)|show hb _ _ _ _ _ _ u0 u1
def jL.q3(d:jL K x st f)(X:K.In h)(G:h.Ns bH mg)(P:bu)(w:bU)(base:cD)(p0 p1 p2:χ)(hb:∀kV doc pm an ez ct u0 u1 u2,bindArgs @N ([u0,u1,u2],[])=pure [(p0,u0,),(p1,u1,),(p2,u2,)]:=by intros;rfl):∃fd,iP K x x st f fd/\DQ P w K mg base x [p0,p1,p2] f fd:=
 d.q X G _ P w base λ_ _ _ _ _ _ us hl=>by
  rcases us with _|⟨u0,_|⟨u1,_|⟨u2,_|⟨_,_⟩⟩⟩⟩<;>first|(cases hl;done)|show hb _ _ _ _ _ _ u0 u1 u2
def jL.q4(d:jL K x st f)(X:K.In h)(G:h.Ns bH mg)(P:bu)(w:bU)(base:cD)(p0 p1 p2 p3:χ)(hb:∀kV doc pm an ez ct u0 u1 u2 u3,bindArgs @N ([u0,u1,u2,u3],[])=pure [(p0,u0,),(p1,u1,),(p2,u2,),(p3,u3,)]:=by intros;rfl):∃fd,iP K x x st f fd/\DQ P w K mg base x [p0,p1,p2,p3] f fd:=
 d.q X G _ P w base λ_ _ _ _ _ _ us hl=>by
  rcases us with _|⟨u0,_|⟨u1,_|⟨u2,_|⟨u3,_|⟨_,_⟩⟩⟩⟩⟩<;>first|(cases hl;done)|show hb _ _ _ _ _ _ u0 u1 u2 u3
def DQ.oo(q:DQ P w K mg base x ps f fd)(o:c8 P w K mg base kD k f fd ps sp):cS P w K mg base k x ps sp:=(_,_,o,q)
def DQ.ox(q:DQ P w K mg base x ps f fd)(o:c8 P w K mg base @B k f fd ps sp):nS P w K mg base k x ps sp:=(_,_,o,q)
end
variable{K:aa}{h:cD}{mg:χ->?O ai}{fa:af}
def all_mk{l:ze}{w:bU}{f1 f2 f3 f4 f5 f6 f7 f8 f9 f10 f11 f12 f13 f14 f15 f16 f17 f18 f19 f20 f21 f22 f23 f24 f25 f26 f27 f28 f29 f30 f31 f32 f33 f34 f35 f36 f37 f38 f39 f40 f41 f42 f43 f44 f45 f46 f47 f48 f49 f50 f51 f52 f53 f54 f55:af}(X:K.In h)(G:h.Ns bH mg)(hfa:mg "law"=θ (.ref fa))(d1:jL K "taken" BN f1)(d2:jL K "is_function_value" jV f2)(d3:jL K "known_from" m7 f3)(d4:jL K "opened" yN f4)(d5:jL K "looked_into" pA f5)(d6:jL K "given_back" qA f6)(d7:jL K "outline" pB f7)(d8:jL K "fill_with_members" jW f8)(d9:jL K "fill_with_names" lB f9)(d10:jL K "run" Ki f10)(d11:jL K "applied" wb f11)(d12:jL K "worked_out" qB f12)(d13:jL K "begin_part" qC f13)(d14:jL K "value_of" uy f14)(d15:jL K "end_part" jX f15)(d16:jL K "chosen" rj f16)(d17:jL K "parted" yO f17)(d18:jL K "called" yP f18)(d19:jL K "put_in_front" nX f19)(d20:jL K "reckoned" uz f20)(d21:jL K "is_whole" uA f21)(d22:jL K "in_order" uB f22)(d23:jL K "fault" BO f23)(d24:jL K "kind_of" wc f24)(d25:jL K "checked" mP f25)(d26:jL K "scopes_by_place" je f26)(d27:jL K "scope_within" k9 f27)(d28:jL K "breach_of_rule" gE f28)(d29:jL K "due_kinds" l7 f29)(d30:jL K "kind_by_rule" lg f30)(d31:jL K "same_kind" sx f31)(d32:jL K "_law_whole" oJ f32)(d33:jL K "_law_at" yQ f33)(d34:jL K "_law_kinds" sD f34)(d35:jL K "_law_leaf" uC f35)(d36:jL K "_law_taken" sE f36)(d37:jL K "_law_combined" nY f37)(d38:jL K "_law_drawn" sF f38)(d39:jL K "_law_is_place" nZ f39)(d40:jL K "_law_base" uD f40)(d41:jL K "_law_is_kind" l8 f41)(d42:jL K "_law_sample" kQ f42)(d43:jL K "_law_put" wg f43)(d44:jL K "_law_parts_many" l9 f44)(d45:jL K "_law_there" sG f45)(d46:jL K "_law_mend" ql f46)(d47:jL K "_law_some_number" lC f47)(d48:jL K "_law_first_names" lD f48)(d49:jL K "_law_names_right" jf f49)(d50:jL K "_law_sample_value" iU f50)(d51:jL K "_law_flat" uE f51)(d52:jL K "_law_worth" sH f52)(d53:jL K "_law_calls" sI f53)(d54:jL K "_law_mended" qD f54)(d55:jL K "law" uF f55)(z0:bY K bH "len"=θ ι)(z1:bY K bH "list"=θ ι)(z2:bY K bH "tuple"=θ ι)(z3:bY K bH "int"=θ ι)(z4:bY K bH "bool"=θ ι)(z5:bY K bH "range"=θ ι)(z6:bY K bH "enumerate"=θ ι)(z7:bY K bH "reversed"=θ ι)(z8:bY K bH "isinstance"=θ ι){dX xN:af}{RA RB:?O af}{RC:?R (?O ai)}{RD RE RF RG Ii RH:ai}{cJ rn:af}{Kt Ku:?O af}{Kv:?R (?O ai)}{Kw Kx Ky Kz BX KA:ai}{ig xO:af}{RI RJ:?O af}{RK:?R (?O ai)}{RL RM RN RO Ij RP:ai}{fG xP:af}{RQ RR:?O af}{RS:?R (?O ai)}{RT RU RV RW Ik RX:ai}{Mm V5:Tok}{Gd xQ:af}{aN aT:af}{dN dT:?O af}{tN tT:Tok}{nN nT:?N}{slN slT:?R (?O ai)}(xR:bY K bH "Chain"=θ (θ<|.ref dX))(BY:iS K dX vH=ξ)(BZ:iu K dX=ξ)(B0:jz K dX=ξ)(B1:bI K (.ref dX) "__setattr__"=θ (θ<|.builtin "object.__setattr__"))(B3:kF K dX=ξ)(B4:cW K (.ref dX)=ξ)(B5:bI K (.ref dX) "__class__"=θ (θ<|.builtin "object.__class__"))(B6:mz K dX (.type "object")=θ ξ)(yT:bI K (.ref dX) "__init__"=θ (θ<|.ref xN))(B7:rB K (.ref xN)=ξ)(B8:K.lookup xN=θ (RD,RA,.func<|dv "__init__" "Chain.__init__" (iB jw) (dE jw) (az jw) .none RE RF RG RB Ii RH,RC))(B9:gZ K Ii "Chain.__init__"=ξ)(Ca:cW K (.ref xN)=ξ)(sM:bI K (.ref dX) "head"=θ ι)(sN:bI K (.ref dX) "rest"=θ ι)(oh:bI K (.ref dX) "outside"=θ ι)(rA:bY K bH "Closure"=θ (θ<|.ref cJ))(wj:iS K cJ vH=ξ)(wm:iu K cJ=ξ)(wo:jz K cJ=ξ)(wq:bI K (.ref cJ) "__setattr__"=θ (θ<|.builtin "object.__setattr__"))(wu:kF K cJ=ξ)(wx:cW K (.ref cJ)=ξ)(wy:bI K (.ref cJ) "__class__"=θ (θ<|.builtin "object.__class__"))(wz:mz K cJ (.type "object")=θ ξ)(uJ:bI K (.ref cJ) "__init__"=θ (θ<|.ref rn))(wA:rB K (.ref rn)=ξ)(wB:K.lookup rn=θ (Kw,Kt,.func<|dv "__init__" "Closure.__init__" (iB iw) (dE iw) (az iw) .none Kx Ky Kz Ku BX KA,Kv))(wC:gZ K BX "Closure.__init__"=ξ)(wD:cW K (.ref rn)=ξ)(pE:bI K (.ref cJ) "name"=θ ι)(pF:bI K (.ref cJ) "body"=θ ι)(oj:bI K (.ref cJ) "known"=θ ι)(md:bI K (.ref cJ) "outside"=θ ι)(xS:bY K bH "Known"=θ (θ<|.ref ig))(Cb:iS K ig vH=ξ)(Cc:iu K ig=ξ)(Cd:jz K ig=ξ)(Ce:bI K (.ref ig) "__setattr__"=θ (θ<|.builtin "object.__setattr__"))(Cf:kF K ig=ξ)(Cg:cW K (.ref ig)=ξ)(Ci:bI K (.ref ig) "__class__"=θ (θ<|.builtin "object.__class__"))(Cj:mz K ig (.type "object")=θ ξ)(yU:bI K (.ref ig) "__init__"=θ (θ<|.ref xO))(Ck:rB K (.ref xO)=ξ)(Cm:K.lookup xO=θ (RL,RI,.func<|dv "__init__" "Known.__init__" (iB jx) (dE jx) (az jx) .none RM RN RO RJ Ij RP,RK))(Cn:gZ K Ij "Known.__init__"=ξ)(Co:cW K (.ref xO)=ξ)(sO:bI K (.ref ig) "name"=θ ι)(qH:bI K (.ref ig) "value"=θ ι)(pG:bI K (.ref ig) "others"=θ ι)(xU:bY K bH "Given"=θ (θ<|.ref fG))(Cp:iS K fG vH=ξ)(Cq:iu K fG=ξ)(Cr:jz K fG=ξ)(Ct:bI K (.ref fG) "__setattr__"=θ (θ<|.builtin "object.__setattr__"))(Cu:kF K fG=ξ)(Cv:cW K (.ref fG)=ξ)(Cw:bI K (.ref fG) "__class__"=θ (θ<|.builtin "object.__class__"))(Cy:mz K fG (.type "object")=θ ξ)(yV:bI K (.ref fG) "__init__"=θ (θ<|.ref xP))(Cz:rB K (.ref xP)=ξ)(CA:K.lookup xP=θ (RT,RQ,.func<|dv "__init__" "Given.__init__" (iB jy) (dE jy) (az jy) .none RU RV RW RR Ik RX,RS))(CB:gZ K Ik "Given.__init__"=ξ)(CC:cW K (.ref xP)=ξ)(qI:bI K (.ref fG) "value"=θ ι)(pH:bI K (.ref fG) "inside"=θ ι)(EC:wK K (.builtin "object.__class__") "__get__"=θ (θ<|.builtin "getset_descriptor.__get__"))(NJ:zc K (.builtin "object.__class__")=θ ξ)(Zd:aS K (.type "int") (.ref dX)=θ υ)(Ze:aS K (.type "bool") (.ref dX)=θ υ)(Zf:aS K (.ref dX) (.ref dX)=θ ξ)(Zg:aS K (.ref cJ) (.ref dX)=θ υ)(Zh:aS K (.type "int") (.ref cJ)=θ υ)(Zi:aS K (.type "bool") (.ref cJ)=θ υ)(Zj:aS K (.ref dX) (.ref cJ)=θ υ)(Zk:aS K (.ref cJ) (.ref cJ)=θ ξ)(Zl:aS K (.type "int") (.ref fG)=θ υ)(Zm:aS K (.type "bool") (.ref fG)=θ υ)(Zn:aS K (.ref dX) (.ref fG)=θ υ)(Zo:aS K (.ref cJ) (.ref fG)=θ υ)(Zp:aS K (.ref fG) (.ref fG)=θ ξ)(Zq:aS K (.ref dX) (.type "int")=θ υ)(Zr:aS K (.ref cJ) (.type "int")=θ υ)(Zs:fz K (.type "int") [.ref dX,.ref cJ]=θ υ)(Zt:fz K (.type "bool") [.ref dX,.ref cJ]=θ υ)(Ge:bY K bH "BEGIN"=θ (θ<|.int 0 Mm))(RY:bY K bH "END"=θ (θ<|.int 1 V5))(Gf:bY K bH "Stuck"=θ (θ<|.ref Gd))(xV:bY K bH "Tired"=θ (θ<|.ref xQ))(wF:u9 K Gd [.type "ValueError",.type "Exception",.type "BaseException",.type "object"] "ValueError.__new__"=ξ)(wG:u9 K xQ [.type "ValueError",.type "Exception",.type "BaseException",.type "object"] "ValueError.__new__"=ξ)(x_T:oN K (.ref xQ) (.ref xQ)=θ ξ)(kAC:fz K (.ref dX) [.ref dX,.ref cJ]=θ ξ)(kAL:fz K (.ref cJ) [.ref dX,.ref cJ]=θ ξ)(RZ:bY K bH "zip"=θ ι)(R0:bY K bH "str"=θ ι)(sP:bY K bH "ValueError"=θ ι)(KC:bY K bH "dict"=θ ι)(R1:bY K bH "NUM"=θ (θ<|.ref aN))(Gg:bY K bH "TRUTH"=θ (θ<|.ref aT))(R3:K.lookup aN=θ (.type "tuple",dN,.seq #[.str "num" tN] nN,slN))(Gh:K.lookup aT=θ (.type "tuple",dT,.seq #[.str "truth" tT] nT,slT)): ∃fd:aV,(∀(s:ao)(v:ai),BindsTo s fd ([v],[]) [("_law_script",v,)])/\∀base:cD,K.In base->base.Ns bH mg->c8 l.prog w K mg base kD 63 fa fd ["_law_script"] (jt K<|Qa K):=by
 ext;let(a0,_,kV0,dc0,pm0,cd0,ct0,_,an0,_,l0,c0,k0):=d55;cases hfa.symm.trans (dn X G a0);ext;have F55:=vT (st:=uF) l0 c0 k0;have B:Plain mg:=(di X G z0,di X G z1,di X G z2,di X G z3,di X G z4,di X G z5,di X G z6,di X G z7,di X G z8);have M:j6 K mg (dX,cJ,ig,fG) Gd xQ:=(by unfold vf;rw[xR,rA,xS,xU];rfl,((BY,BZ,B0,B1),B5,EC,NJ,B6),((wj,wm,wo,wq),wy,EC,NJ,wz),((Cb,Cc,Cd,Ce),Ci,EC,NJ,Cj),((Cp,Cq,Cr,Ct),Cw,EC,NJ,Cy),dn X G xR,dn X G rA,dn X G xS,dn X G xU,(sM,sN,oh),(pE,pF,oj,md),(sO,qH,pG),(qI,pH),(Zd,Ze,Zf,Zg),(Zh,Zi,Zj,Zk),(Zl,Zm,Zn,Zo,Zp),(Zq,Zr),(Zs,Zt),(dn X G Gf,wF),(dn X G xV,wG),(Mm,dn X G Ge),(V5,dn X G RY));have Il:=vT (st:=jw) B8 B9 Ca;have R4:=Il.binds (ps:=["self","head","rest"]) λ_ _ _ _ _ _ us hl=>by let(_,_,_,rfl):=lz3 hl;rfl
 have CD:=vT (st:=iw) wB wC wD;have KE:=CD.binds (ps:=["self","name","body","known"]) λ_ _ _ _ _ _ us hl=>by let(_,_,_,_,rfl):=lz4 hl;rfl
 have Im:=vT (st:=jx) Cm Cn Co;have R5:=Im.binds (ps:=["self","name","value","others"]) λ_ _ _ _ _ _ us hl=>by let(_,_,_,_,rfl):=lz4 hl;rfl
 have Io:=vT (st:=jy) CA CB CC;have R6:=Io.binds (ps:=["self","value"]) λ_ _ _ _ _ _ us hl=>by let(_,_,rfl):=lz2 hl;rfl
 have B2:JM mg:=(di X G RZ,di X G R0,di X G sP);have BU:mg "dict"=ι:=di X G KC;have C:Bk K mg:=((aN,dn X G R1,λH=>Rep.tuple (vs:=[.str "num"]) (.inr (_,_,_,R3,@r,@r,by change 1<=au;decide,.cons (tN,@r) .nil)) (.one<|.str _)),(aT,dn X G Gg,λH=>Rep.tuple (vs:=[.str "truth"]) (.inr (_,_,_,Gh,@r,@r,by change 1<=au;decide,.cons (tT,@r) .nil)) (.one<|.str _)));show(dv "law" "law" (iB uF) (dE uF) (az uF) .none kV0 dc0 pm0 an0 cd0 ct0,λs v=>.of_eq @r,λbase _ _=>?_);have Gi:Made l.prog w K mg base "Chain" dX 2 Nq:=(xN,_,_,(B3,yT,B7,B4),Yl Il M,R4,dn X G xR);have ED:Made l.prog w K mg base "Closure" cJ 3 Qt:=(rn,_,_,(wu,uJ,wA,wx),Yn CD M,KE,dn X G rA);have xW:Made l.prog w K mg base "Known" ig 3 FE:=(xO,_,_,(Cf,yU,Ck,Cg),Yp Im M,R5,dn X G xS);have Ux:Made l.prog w K mg base "Given" fG 1 Qu:=(xP,_,_,(Cu,yV,Cz,Cv),Yr Io M,R6,dn X G xU);ext;let(_,F1,q1):=d1.q1 X G l.prog w base "value";let(_,F2,q2):=d2.q1 X G l.prog w base "value";let(_,F3,q3):=d3.q1 X G l.prog w base "names";let(_,F4,q4):=d4.q1 X G l.prog w base "value";let(_,F5,q5):=d5.q1 X G l.prog w base "value";let(_,F6,q6):=d6.q1 X G l.prog w base "value";let(_,F7,q7):=d7.q2 X G l.prog w base "value" "waiting";let(_,F8,q8):=d8.q3 X G l.prog w base "room" "chain" "waiting";let(_,F9,q9):=d9.q3 X G l.prog w base "room" "known" "waiting";let(_,F10,q10):=d10.q3 X G l.prog w base "expr" "names" "steps";let(_,F11,q11):=d11.q3 X G l.prog w base "function" "argument" "steps";let(_,F12,q12):=d12.q3 X G l.prog w base "expr" "known" "steps";let(_,F13,q13):=d13.q4 X G l.prog w base "part" "known" "waiting" "done";let(_,F14,q14):=d14.q2 X G l.prog w base "name" "known";let(_,F15,q15):=d15.q4 X G l.prog w base "part" "known" "waiting" "done";let(_,F16,q16):=d16.q2 X G l.prog w base "part" "condition";let(_,F17,q17):=d17.q3 X G l.prog w base "part" "subject" "known";let(_,F18,q18):=d18.q2 X G l.prog w base "function" "argument";let(_,F19,q19):=d19.q2 X G l.prog w base "member" "others";let(_,F20,q20):=d20.q3 X G l.prog w base "word" "first" "second";let(_,F21,q21):=d21.q1 X G l.prog w base "value";let(_,F22,q22):=d22.q1 X G l.prog w base "expr";let(_,F23,q23):=d23.q2 X G l.prog w base "expr" "scope";let(_,F24,q24):=d24.q2 X G l.prog w base "expr" "scope";let(_,F25,q25):=d25.q2 X G l.prog w base "expr" "scope";let(_,F26,q26):=d26.q2 X G l.prog w base "pairs" "scope";let(_,F27,q27):=d27.q3 X G l.prog w base "part" "number" "known";let(_,F28,q28):=d28.q3 X G l.prog w base "part" "own" "known";let(_,F29,q29):=d29.q2 X G l.prog w base "part" "own";let(_,F30,q30):=d30.q3 X G l.prog w base "part" "own" "known";let(_,F31,q31):=d31.q2 X G l.prog w base "first" "second";let(_,F32,q32):=d32.q1 X G l.prog w base "_law_found";let(_,F33,q33):=d33.q2 X G l.prog w base "_law_script" "_law_k";let(_,F34,q34):=d34.q0 X G l.prog w base ;let(_,F35,q35):=d35.q1 X G l.prog w base "_law_cell";let(_,F36,q36):=d36.q2 X G l.prog w base "_law_pile" "_law_cell";let(_,F37,q37):=d37.q2 X G l.prog w base "_law_pile" "_law_cell";let(_,F38,q38):=d38.q1 X G l.prog w base "_law_cells";let(_,F39,q39):=d39.q1 X G l.prog w base "_law_found";let(_,F40,q40):=d40.q0 X G l.prog w base ;let(_,F41,q41):=d41.q1 X G l.prog w base "_law_found";let(_,F42,q42):=d42.q1 X G l.prog w base "_law_kind";let(_,F43,q43):=d43.q3 X G l.prog w base "_law_expr" "_law_place" "_law_part";let(_,F44,q44):=d44.q1 X G l.prog w base "_law_expr";let(_,F45,q45):=d45.q2 X G l.prog w base "_law_expr" "_law_place";let(_,F46,q46):=d46.q2 X G l.prog w base "_law_expr" "_law_found";let(_,F47,q47):=d47.q1 X G l.prog w base "_law_cell";let(_,F48,q48):=d48.q1 X G l.prog w base "_law_n";let(_,F49,q49):=d49.q1 X G l.prog w base "_law_n";let(_,F50,q50):=d50.q1 X G l.prog w base "_law_kind";let(_,F51,q51):=d51.q2 X G l.prog w base "_law_value" "_law_kind";let(_,F52,q52):=d52.q3 X G l.prog w base "_law_value" "_law_kind" "_law_steps";let(_,F53,q53):=d53.q1 X G l.prog w base "_law_expr";let(_,F54,q54):=d54.q2 X G l.prog w base "_law_expr" "_law_scope";ext;have KG:=q22.oo (ND F22 B);have Ip:=q31.oo (Ri F31 B B2);have CF:=q27.oo (X2 F27 BU);have xX:=q26.oo (X9 F26 B BU CF);have Iq:=q29.oo (X5 F29 C);have CG:=q30.oo (X7 F30 C);have yW:=q28.oo (X8 F28 B (Ip.imp λ_ _ _ _=>Xi) Iq);have EE:=q25.oo (Yc F25 B KG xX yW CG);have Uy:=q23.oo (Rm F23 EE);have NK:=q24.oo (NG F24 EE);have Ir:=q32.oo (Ra F32 B);have zH:=q34.oo (Rb F34);have CH:=q35.oo (Uh F35 zH);have zI:=q36.oo (Rf F36 B CH);have CI:=q37.oo (Ie F37 zH zI);have Iu:=q38.oo (NB F38 B CH zI CI);have CJ:=q39.oo (Kj F39 B Ir);have KH:=q40.oo (Uo F40);have vE:=q41.oo (Yg F41 B B2);have xY:=q42.oo (Yh F42 B);have NL:=q43.oo (Us F43 B);have yX:=q44.oo (Ur F44 B);have Iv:=q45.oo (NH F45 B<|CJ.imp λ_ _ _ _=>Nd);have KI:=q46.oo (Ut F46 B vE xY NL Iv);have vn:=q2.oo (YJ F2 B);have AE:=q1.oo (YL F1 B M Ux vn);have CK:=q3.oo (YM (c:=(dX,cJ,ig,fG)) F3 xW AE);have CL:=q3.oo (YN (c:=(dX,cJ,ig,fG)) F3 xW AE);have Dr:=q5.oo (YO (c:=(dX,cJ,ig,fG)) F5 B Gi ED AE CL);have wH:=q4.oo (YQ F4 B M Dr);have KJ:=q21.oo (Yu F21 B M);have KL:=q14.ox (Yv F14 M<|wH.imp λ_ _ _ _=>ah2 M);have R7:=q16.ox (Yx F16 M);have CM:=q19.ox (Yz F19 B M Gi);have R8:=q18.ox (YB F18 B M xW);have R9:=q17.ox (YC F17 B M xW);have KO:=q20.ox (YE F20 M KJ);have Gj:=q13.ox (YF F13 M Gi ED KL);have KP:=q15.ox (YG F15 M R7 R9 R8 CM KO);have yY:=q7.oo (Uv F7 B M kAC kAL<|wH.imp λ_ _ _ _=>ap5 M);have vo:=q8.oo (YR F8 M yY);have xZ:=q9.oo (YV F9 B M yY);have Gk:=q6.oo (Uw F6 B M yY vo xZ);have x9:=q12.ox (YW F12 M Gj KP Gk);have V6:=q10.ox (YX F10 x9 CK);have NM:=q11.ox (YY F11 B M xW AE (wH.imp λ_ _ _ _=>ah2 M) x9);have vF:=q32.oo (YZ F32 B);have Sa:=q33.oo (Uu F33 B);have ya:=q47.oo (Y0 F47);have qo:=q48.oo (Y1 F48);have yb:=q49.oo (Y2 F49 B V6 qo vF);have wI:=q50.oo (Y4 F50 xY);have KQ:=q51.oo (Y6 F51 B vF);have Iw:=q53.oo (Y7 F53 B);have Iy:=q52.oo (Y8 F52 B NM x_T (dn X G xV) KQ wI);have Gm:=q54.oo (Y9 F54 B yX Uy KI);show Zb F55 B Iu KH Gm NK vE ya Sa yb qo V6 x_T (dn X G xV) Iw Iy
variable{loose:?L χ}{XP:(χ->?O ai)->cD->?P}{YP:bU->cD->?P}
def walk{l:ze}{q:bu}{d:DefRec}{K:Params->aa}(hn:l.most=θ 63)(hdf:d.params.defaults=[])(hY:∀(w:bU)(h:cD),YP w h->(K w.params).In h)(F:∀(w:bU)(mg:χ->?O ai)(fa:af)(h:cD),(K w.params).In h->h.Ns bH mg->mg d.name=θ (.ref fa)->
   ∃fd:aV,(∀(s:ao)(u:ai),BindsTo s fd ([u],[]) [("_law_script",u,)])/\∀base:cD,(K w.params).In base->base.Ns bH mg->c8 l.prog w (K w.params) mg base kD 63 fa fd ["_law_script"] (jt (K w.params)<|Qa<|K w.params)):
  PySem.W.WalkO q loose XP YP l.row.toRowW d [] (λf vs=>PySem.call f vs):=
 _L.SY (n:=63) (k:=63) (x:="_law_script") (CX:=λ_=>kD) (sp:=λw=>jt (K w.params) (Qa<|K w.params)) hn @d hdf (@r,by decide,by decide) hY F (λ_ _ a ns hl ho hS=>Xm hl ho hS) λ_ _ _ _ _ z=>z
end _W
open PySem PySem.W PyProof.Rows
set_option maxRecDepth 100000 in
set_option maxHeartbeats 0 in
theorem PySem.Challenge.cw_wellkind_k12_whole_never_stuck_holds : PySem.Challenge.rw_wellkind_k12_whole_never_stuck.Holds := by
  w_on; o_law; k_head; (case hw => w_witness2)
  k_fill
  refine _W.walk (l := PySem.Challenge.rw_wellkind_k12_whole_never_stuck) rfl rfl (fun w h Y => PySem.W.kIn_of Y) ?F
  case F =>
    intro w mg fa h KX G WN
    refine' _W.all_mk KX G WN ?d1 ?d2 ?d3 ?d4 ?d5 ?d6 ?d7 ?d8 ?d9 ?d10 ?d11 ?d12 ?d13 ?d14 ?d15 ?d16 ?d17 ?d18 ?d19 ?d20 ?d21 ?d22 ?d23 ?d24 ?d25 ?d26 ?d27 ?d28 ?d29 ?d30 ?d31 ?d32 ?d33 ?d34 ?d35 ?d36 ?d37 ?d38 ?d39 ?d40 ?d41 ?d42 ?d43 ?d44 ?d45 ?d46 ?d47 ?d48 ?d49 ?d50 ?d51 ?d52 ?d53 ?d54 ?d55 ?z0 ?z1 ?z2 ?z3 ?z4 ?z5 ?z6 ?z7 ?z8 ?xR ?BY ?BZ ?B0 ?B1 ?B3 ?B4 ?B5 ?B6 ?yT ?B7 ?B8 ?B9 ?Ca ?sM ?sN ?oh ?rA ?wj ?wm ?wo ?wq ?wu ?wx ?wy ?wz ?uJ ?wA ?wB ?wC ?wD ?pE ?pF ?oj ?md ?xS ?Cb ?Cc ?Cd ?Ce ?Cf ?Cg ?Ci ?Cj ?yU ?Ck ?Cm ?Cn ?Co ?sO ?qH ?pG ?xU ?Cp ?Cq ?Cr ?Ct ?Cu ?Cv ?Cw ?Cy ?yV ?Cz ?CA ?CB ?CC ?qI ?pH ?EC ?NJ ?Zd ?Ze ?Zf ?Zg ?Zh ?Zi ?Zj ?Zk ?Zl ?Zm ?Zn ?Zo ?Zp ?Zq ?Zr ?Zs ?Zt ?Ge ?RY ?Gf ?xV ?wF ?wG ?x_T ?kAC ?kAL ?RZ ?R0 ?sP ?KC ?R1 ?Gg ?R3 ?Gh
    (case d1 | d2 | d3 | d4 | d5 | d6 | d7 | d8 | d9 | d10 | d11 | d12 | d13 | d14 | d15 | d16 | d17 | d18 | d19 | d20 | d21 | d22 | d23 | d24 | d25 | d26 | d27 | d28 | d29 | d30 | d31 | d32 | d33 | d34 | d35 | d36 | d37 | d38 | d39 | d40 | d41 | d42 | d43 | d44 | d45 | d46 | d47 | d48 | d49 | d50 | d51 | d52 | d53 | d54 | d55 => refine' _W.jL.mk ?a ?l ?c ?k; case a | l | c | k => k_is)
    (case z0 | z1 | z2 | z3 | z4 | z5 | z6 | z7 | z8 | xR | BY | BZ | B0 | B1 | B3 | B4 | B5 | B6 | yT | B7 | B8 | B9 | Ca | sM | sN | oh | rA | wj | wm | wo | wq | wu | wx | wy | wz | uJ | wA | wB | wC | wD | pE | pF | oj | md | xS | Cb | Cc | Cd | Ce | Cf | Cg | Ci | Cj | yU | Ck | Cm | Cn | Co | sO | qH | pG | xU | Cp | Cq | Cr | Ct | Cu | Cv | Cw | Cy | yV | Cz | CA | CB | CC | qI | pH | EC | NJ | Zd | Ze | Zf | Zg | Zh | Zi | Zj | Zk | Zl | Zm | Zn | Zo | Zp | Zq | Zr | Zs | Zt | Ge | RY | Gf | xV | wF | wG | x_T | kAC | kAL | RZ | R0 | sP | KC | R1 | Gg | R3 | Gh => first | k_is | rfl | kernel_rfl | decide +kernel)
