import PyProof.Rows.All
import MtSeg
import MtLine
import PyYqmtfa
import PyProof.EqAt
import PyProof.EqKinds
import PyProof.TupleCall
import Wide.All
import OpenK.AllK
import Wide.FinOn
import KE.BitLaws
import PyProof.ListCopy
import PySem.Challenge.RW_brokenlinesdesk_s01_answers
import KE.KBits
import YfSpec
import Open.SpecLaws
import KE.OsHead
import KE.OsGo
import Lean
set_option Elab.async false
set_option linter.all false
set_option maxRecDepth 100000
set_option compiler.extract_closed false
section
open Lean
def Lean.Syntax.ks (x : Syntax) : String := match x.getKind with | .str _ s => s | _ => ""
def kP (a s : String) : Name := .str (.str (.str (.str .anonymous "Lean") "Parser") a) s
def kT : String → Name := kP "Term"
def kM : String → Name := kP "Command"
def kA : String → Name := kP "Tactic"
def mxF (f : Syntax) (as : Array Syntax) : Syntax := if as.size == 0 then f else if f.ks == "app" then f.setArg 1 (f[1].setArgs (f[1].getArgs ++ as)) else mkNode (kT "app") #[f, mkNullNode as]
def mxU (a : Syntax) : Syntax := if a.ks == "paren" then a[1] else a
def mxP (ts : Array Syntax) : Syntax := mkNode (kA "paren") #[mkAtom "(", mkNode (kA "tacticSeq") #[mkNode (kA "tacticSeq1Indented") #[mkNullNode (ts.foldl (fun a t => if a.size == 0 then a.push t else (a.push (mkAtom ";")).push t) #[])]], mkAtom ")"]
def mxG (x : Syntax) : Syntax := if x.ks == "term#[_,]" then mkNode (kT "anonymousCtor") #[mkAtom "⟨", x[1], mkAtom "⟩"] else if x.ks == "term_/\\_" then x.setKind (.mkSimple "term_∧_") else if x.ks == "term_\\/_" then x.setKind (.mkSimple "term_∨_") else if x.ks == "term_<=_" then x.setKind (.mkSimple "term_≤_") else if x.ks == "term_>=_" then x.setKind (.mkSimple "term_≥_") else if x.ks == "app" && x[0].ks == "app" then mxF x[0] x[1].getArgs else if x.ks == "rwSeq" && x[2][1].getSepArgs.any fun r => r[1].ks == "byTactic" then mxP (x[2][1].getSepArgs.map fun r => if r[1].ks == "byTactic" then mkNode (kA "paren") #[mkAtom "(", r[1][1], mkAtom ")"] else if r[0].getNumArgs == 0 then mkNode (kA "exact") #[mkAtom "exact", r[1]] else mkNode (kA "refine") #[mkAtom "refine", r[1]]) else x
def mxX (f : Syntax → Syntax) : Nat → Syntax → Syntax
  | k + 1, .node i n a => f (.node i n (a.map (mxX f k)))
  | _, s => f s
def mxT (f : Syntax → Syntax) : Syntax → Syntax := mxX f 9999
def mxE {α : Type} (f : α → Syntax → α) : α → List Syntax → α
  | a, [] => a
  | a, s :: l => mxE f (f a s) l
def mxI (t : List (Name × Syntax)) (s : Syntax) : Syntax := s |> mxT fun x => if x.isIdent then (t.lookup x.getId).getD x else mxG x
abbrev MxT := NameMap (List Name × Syntax)
def mxA (t : MxT) : Nat → List Syntax → List Syntax
  | 0, as => as
  | n + 1, as => match as with
    | [] => []
    | a :: r =>
      let r := mxA t n r
      match if a.isIdent then t.find? a.getId else none with
      | some (p :: ps, b) => mxI ((p :: ps).zip (r.map mxU)) b :: r.drop (ps.length + 1)
      | _ => a :: r
def mxS (t : MxT) (s : Syntax) : Syntax := s |> mxT fun x =>
  if x.isIdent then match t.find? x.getId with
    | some ([], b) => b
    | _ => x
  else if x.ks == "app" then match mxA t 1000 (x[0] :: x[1].getArgs.toList) with
    | f :: as => mxF f as.toArray
    | _ => x
  else mxG x
def mxN (c : Syntax) : Syntax := c.setArg 0 (c[0].setArg 4 (mkNullNode #[mkNode (kM "noncomputable") #[mkAtom "noncomputable"]]))
def mqA (f : Name) (as : Array Syntax) : Syntax := mkNode (kT "app") #[mkIdent f, mkNullNode as]
def mqN (s : Syntax) : Nat → Syntax
  | 0 => s
  | n + 1 => if s.ks == "paren" then mqN s[1] n else if s.ks == "typeAscription" && s[1].ks == "num" then s[1] else s
def mqZ (z : List Name) : Nat → Syntax → Bool
  | 0, _ => false
  | k + 1, s => if s.isIdent then z.contains s.getId else if s.ks == "typeAscription" then s[3][0].getId == `Int else if s.ks == "app" then s[0].getId != `Int.toNat && s[1].getArgs.any (mqZ z k) else s.getArgs.any (mqZ z k)
def mqT (r z : List Name) : Nat → Syntax → Syntax
  | 0, s => s
  | k + 1, s =>
    let g := mqT r z k
    let s := mqN s 9
    let c := s.ks
    if s.isIdent then mqA `v #[Syntax.mkNumLit (toString ((r.idxOf? s.getId).getD (z.idxOf s.getId)))]
    else if c == "num" then mqA `n #[s]
    else if c == "typeAscription" then if s[3][0].getId == `Int then mqA `c #[g s[1]] else g s[1]
    else if c == "app" then mqA (if s[0].getId == `min then `mi else if s[0].getId == `max then `ma else `o) (s[1].getArgs.map g)
    else if c == "term-_" then mqA `g #[g s[1]]
    else if c == "term_^_" then mqA `p #[mqN s[0] 9, mqN s[2] 9]
    else if c == "term_*_" then if (mqN s[0] 9).ks == "num" then mqA `m #[mqN s[0] 9, g s[2]] else mqA `u #[g s[0], mqN s[2] 9]
    else mqA (if c == "term_+_" then `a else `s) #[g s[0], g s[2]]
def mqF (r z : List Name) : Nat → Syntax → Syntax
  | 0, s => s
  | k + 1, s =>
    let g := mqF r z k
    let t := mqT r z k
    let s := mqN s 9
    let c := s.ks
    let q (a b : Name) := if mqZ z k s then b else a
    if s.isIdent then mkIdent `ff
    else if c == "arrow" then mqA `im #[g s[0], g s[2]]
    else if c == "term¬_" then mqA `no #[g s[1]]
    else if c == "term_∧_" then mqA `an #[g s[0], g s[2]]
    else if c == "term_∨_" then mqA `or #[g s[0], g s[2]]
    else if c == "term_↔_" then mqA `fi #[g s[0], g s[2]]
    else if c == "term_≠_" then mqA `no #[mqA (q `eq `zeq) #[t s[0], t s[2]]]
    else if c == "term_=_" then mqA (q `eq `zeq) #[t s[0], t s[2]]
    else if c == "term_<_" then mqA (q `lt `zlt) #[t s[0], t s[2]]
    else if c == "term_≤_" then mqA (q `le `zle) #[t s[0], t s[2]]
    else if c == "term_>_" then mqA (q `lt `zlt) #[t s[2], t s[0]]
    else mqA (q `le `zle) #[t s[2], t s[0]]
def mqL (l : List Name) : Syntax := mkNode `«term[_]» #[mkAtom "[", mkNullNode (l.foldl (fun a x => (if a.size == 0 then a else a.push (mkAtom ",")).push (mkIdent x)) #[]), mkAtom "]"]
def mqI : Nat → Syntax → List Name
  | 0, _ => []
  | k + 1, s => if s.isIdent then [s.getId] else (s.getArgs.toList.map (mqI k)).flatten
def mqQ (c : Syntax) : Syntax :=
  let d := c[1]
  let p := d[3][1].getId
  if d.ks == "theorem" && (p == `Q || p == `Qw) then
    let y := d[2][1]
    let z := (d[2][0].getArgs.toList.map fun b => b[1].getArgs.toList.map Syntax.getId).flatten
    let r := ((mqI 99 y[1]).filter fun n => n.toString.length == 1 && !z.contains n).eraseDups
    let a := #[mqL r, mqL z, mqF r z 99 y[1]]
    let e := d.setArg 3 (d[3].setArg 1 (mqA `oR (a.push (Syntax.mkNumLit (toString (max r.length z.length))))))
    c.setArg 1 (if p == `Q then e.setArg 2 (d[2].setArg 1 (y.setArg 1 (mqA `D a))) else e)
  else c
def mxH (x : Syntax) : Syntax := if x.ks == "hole" then mkIdent `zZ else if x.ks == "typeAscription" && x[1].ks == "hole" then x.setArg 1 (mkIdent `zZ) else x
def mxB (x : Syntax) : Syntax := x.setArgs (x.getArgs.map mxH)
def mxZ (q : Bool) (s : Syntax) : Syntax := s |> mxT fun x => match x with
  | .atom _ v => .atom .none v
  | .ident _ r v p => .ident .none r v p
  | .node _ k a =>
    let x := .node .none k a
    if !q then x else if x.ks == "arrow" then mkNode (kT "depArrow") #[mkNode (kT "explicitBinder") #[mkAtom "(", mkNullNode #[mkIdent `zZ], mkNullNode #[mkAtom ":", a[0]!], mkNullNode, mkAtom ")"], a[1]!, a[2]!]
    else if x.ks == "basicFun" then x.setArg 0 (mxB a[0]!)
    else if x.ks == "forall" || x.ks == "explicitBinder" then x.setArg 1 (mxB a[1]!)
    else x
  | x => x
def mxR (s : Syntax) : Bool := (s.find? fun x => x.ks == "renameI").isSome
def mxV (x : Syntax) : Option Syntax :=
  let k := x.ks
  if k == "first" || k == "tacticRepeat_" || k == "tacticTry_" then some x
  else if k == "rwSeq" && x[1][0].getNumArgs == 0 && x[3].getNumArgs == 0 then
    let w (a : String) (r : Array Syntax) : Syntax := mkNode (kA (if a == "rw" then "rwSeq" else "rewriteSeq")) #[mkAtom a, x[1], mkNode (kA "rwRuleSeq") #[mkAtom "[", mkNullNode r, mkAtom "]"], mkNullNode]
    let v (t : Syntax) : Syntax := mkNode (kA "tacticSeq") #[mkNode (kA "tacticSeq1Indented") #[mkNullNode #[t]]]
    let q (t : Syntax) : Syntax := mkNode `group #[mkAtom "|", v t]
    some (mxP ((x[2][1].getSepArgs.map fun r => if !r[1].isIdent then w "rewrite" #[r] else (mkNode (kA "first") #[mkAtom "first", mkNullNode #[q (mkNode (kA "withReducible") #[mkAtom "with_reducible", v (mkNode (kA "refine") #[mkAtom "refine", mkNode (kT "app") #[mkIdent (if r[0].getNumArgs == 0 then `rwL else `rwR), mkNullNode #[r[1], mkNode (kT "syntheticHole") #[mkAtom "?", mkAtom "_"]]]])]), q (w "rewrite" #[r])]]).raw).push (w "rw" #[])))
  else none
def mxY (c : Syntax) : Syntax := let c := Id.run (c.replaceM fun y => mxV y); if c[1].ks == "structure" || c[1].ks == "inductive" then mxZ false c else if mxR c then mkNode (kM "in") #[mkNode (kM "set_option") #[mkAtom "set_option", mkIdent `tactic.hygienic, mkNullNode, mkAtom "true"], mkAtom "in", mxZ false c] else mxZ true c
def mxK (c d : Syntax) (p : MxT × Array Syntax) (f : Syntax) : MxT × Array Syntax :=
  let t := p.1
  let n := f[0][0]
  let b := f[1][0]
  let y := f[1][1]
  let v := f[1][2]
  let k := f[0][1][0][1][0].getAtomVal
  if y.getNumArgs == 0 && k == "" then (t.insert n.getId (b.getArgs.toList.map Syntax.getId, mxS t v[2]), p.2)
  else
    let w := if v.ks == "structInstFieldDef" then d[3].setArg 1 v[2] else mkNode (kM "declValEqns") #[mkNode (kT "matchAltsWhereDecls") #[v[1], d[3][2], d[3][3]]]
    let n := mkNode (kM "declId") #[n, mkNullNode]
    let q := mkNode (kM "optDeclSig") #[b, y]
    let e := if k == "" then c.setArg 1 (mkNode (kM "theorem") #[mkAtom "theorem", n, mkNode (kM "declSig") #[b, y[0]], w]) else mxN (c.setArg 1 (if k == "1" then mkNode (kM "definition") #[mkAtom "def", n, q, w, d[4]] else mkNode (kM "abbrev") #[mkAtom "abbrev", n, q, w]))
    (t, p.2.push (mxY (mqQ (mxS t e))))
def mxJ (p : MxT × Array Syntax) (c : Syntax) : MxT × Array Syntax :=
  let d := c[1]
  let t := p.1
  let u (x : Syntax) := (t, p.2.push x)
  if d.ks == "definition" && c[0][4].getNumArgs == 0 then
    if d[3][1].ks == "structInst" then mxE (mxK c d) p d[3][1][2][0].getSepArgs.toList
    else if d[3][1].ks == "term[_]" then
      let s := d[1][0].getId.toString
      let l := d[3][1][1].getSepArgs.toList.map fun n => n[0].getAtomVal
      mxE (fun p n => (p.1, p.2.push (mxZ false (c.setArg 1 (mkNode (kM "theorem") #[mkAtom "theorem", mkNode (kM "declId") #[n, mkNullNode], mkNode (kM "declSig") #[mkNullNode, mkNode (kT "typeSpec") #[mkAtom ":", mkIdent `True]], d[3].setArg 1 (mkIdent `trivial)]))))) p ((if s == "o" then (List.range 1610).map toString else l).map fun n => mkIdent (Name.mkSimple ("tw" ++ if s == "tw" then n else toString (Name.str `_P.headAll (s ++ "_" ++ n)).hash)))
    else u (mxY (mxS t (c.setArg 1 (mkNode (kM "theorem") #[mkAtom "theorem", d[1], mkNode (kM "declSig") #[d[2][0], d[2][1][0]], d[3]]))))
  else if d.ks == "definition" || d.ks == "abbrev" then u (mxY (mxS t (mxN c)))
  else if c.ks == "section" && c[2].getNumArgs == 1 then
    let n := mxS t c[2][0]
    u (mkNode (kM "end") #[mkAtom "end", if n.getId == `z then mkNullNode else mkNullNode #[n, mkNullNode]])
  else u (mxY (mxS t c))
def mxC (cs : Array Syntax) : Syntax := mkNullNode (mxE mxJ ({}, #[]) cs.toList.tail).2
end
@[elab_as_elim] theorem rwL.{u} {α : Sort u} {a : α} {motive : α → Prop} {b : α} (h : a = b) (t : motive b) : motive a := h ▸ t
@[elab_as_elim] theorem rwR.{u} {α : Sort u} {a : α} {motive : α → Prop} {b : α} (h : b = a) (t : motive b) : motive a := h ▸ t
local macro_rules | `(mutual $cs* end) => if cs[0]!.raw.isOfKind ``Lean.Parser.Command.section then return mxC (cs.map (·.raw)) else Lean.Macro.throwUnsupported
set_option bootstrap.genMatcherCode false
set_option genSizeOf false
set_option genSizeOfSpec false
set_option tactic.hygienic false
mutual section
def z:={
aQ:=PySem
cY:=PySem.W
bi:=PyProof.Rows
a8:=Program
jn:=PySem.Challenge.pw_brokenlinesdesk_s01_answers
a9:=PySem.Str
ac:=Nat
ea:=Nat.beq
ad:=true
cZ:=Nat.beq_refl
bQ:=some
aj:=none
aO:=Bool
a':=false
aY:=cons
jo:=namesResolve
b0:=dz.main.body
av:=Str
jp:=moduleNames
jq:=PySem.Challenge.nm_brokenlinesdesk_s01_answers
cu:=Bool.and_eq_true
gU:=looksOpen
eb:=TablesWhole.holds
J:=top
ec:=Scope
jr:=TablesWhole.Ctx
I:=Stmt
fH:=TablesWhole.wSs
aS:=this
gV:=Nat.succ_pos
js:=TablesWhole.gather
dv:=m.scope
jt:=TablesWhole.noTwice
gW:=TablesWhole.wModule
c0:=dz.main.scope
cv:=l.map
fI:=Bool.and_eq_true_iff.mp
ed:=List.all_eq_true.mp
ju:=List.mem_map.mpr
jv:=Nat.eq_of_beq_eq_true
ee:=List.mem_cons.mp
ef:=trans
au:=rfl
ak:=True
fJ:=Or.inr
gX:=Nat.le_of_ble_eq_true
am:=Int
dw:=Int.ofNat
gY:=List.map_cons
gZ:=Int.mul_add
jw:=Int.mul_assoc
jx:=Int.zero_mul
g0:=Int.zero_add
jy:=List.mem_append.mp
eg:=if_pos
fK:=if_neg
g1:=Nat.zero_add
jz:=Int.add_zero
jB:=Nat.le_of_not_le
jC:=Int.mul_comm
jD:=Int.neg_one_mul
jE:=Int.toNat_of_nonneg
g2:=Int.le_of_lt
bk:=False
g3:=Classical.byContradiction
dy:=absurd
eh:=ofNat
g4:=Nat.ble
g5:=cs.filter
jF:=List.all_cons
jG:=List.mem_filter.mp
jI:=List.mem_map.mp
jJ:=Int.mul_nonneg
bR:=PySem.Spec
ah:=Value
aZ:=Shared
bd:=base
ai:=Heap
bm:=outer
aE:=World
c1:=Sum.inl
c2:=Sum.inr
g6:=decide_eq_false
aH:=int
ei:=Array
Z:=Addr
cw:=RelV
g7:=Value.type
dA:=h.get?
c3:=type
g8:=fs.length
g9:=h'.get?
jK:=h.objs.size
ag:=PySem.W.Frag
fL:=mainGlobals
cy:=K.lookup
ej:=aF.size
cz:=aF.toList
jL:=PySem.W.keepIn
ek:=s'.heap
em:=FuncData
g_:=vs.length
b3:=args
g':=BindsTo
b4:=init
bT:=qual
jM:=PySem.W.fnOf
jN:=PySem.Challenge.pw_brokenlinesdesk_s01_answers.main.body.getD
bw:=WData
en:=Codec
g!:=OpenSpec
eo:=WellAll
c4:=bool
cA:=bytes
er:=tuple
jO:=PySem.W.WRecords
g?:=Dw.reads
jQ:=Dw.readsAll
hh:=d.weight
dB:=vs.map
dC:=vs.toArray
b5:=Params
jR:=Nat.le_trans
jT:=Bool.noConfusion
fM:=Option.some.inj
fN:=us.toArray
fO:=Data.seq
jU:=Value.type.inj
cC:=s₁
b6:=vals
cD:=s₁.heap
hj:=s₁.heap.Ns
fP:=w.params
fQ:=callerA
hG:=DictEntry
jV:=codeAny_mono
jW:=WData.layableAll
cE:=r.args
hH:=PySem.W.mg_of
hI:=decide_eq_true_eq
fS:=h.elim
jX:=List.length_cons
hJ:=List.map_map
hL:=List.map_congr_left
fT:=PySem.Challenge.rw_brokenlinesdesk_s01_answers.args
jY:=Codec.inInt
jZ:=PySem.Str.ofString
fU:=_P.viewQ
j0:=PySem.Challenge.rw_brokenlinesdesk_s01_answers.prog
j1:=PySem.Challenge.rw_brokenlinesdesk_s01_answers.name
ao a:=List a
O:=aN K mg
M:=GI mg
aa a:=bQ a
ab a:=a=ad
a! a b:=a r z b
bn a:=.ref a
ae:=cf K C
aT a:=val w a
be a:=Option a
b7:=a! d t
ax a b:=ab (a b)
bz a:=inClass a
a4 a b:=a b=aa o
ay:=ao ah
ap:=ao Z
bF a b:=a->b->Prop
aB:=ao am
a? a:=a=aj
az:=gd K C
dD:=a! d s
b8:=bn f
et:=by decide+kernel
aD:=ao ac
dE a b c:={a:=b,data:=c}
ba a b c:=λ a b hp hq=>c
aG a:=.a s t
aI:=ao V
aL:=by rw[et]
aU a b:=(a).map b
aP:=av->be ah
aM:=ac->am
aV:=bz (J 90)
dF a:=dw a
aW a b:=.aY a b
aX a:=a x0 x1 x2
a5:=b7.2
bG a b:=aJ K H a b
a6:=.nil
fW a b:=a fL b
a7 a:=Hs w a
bb:=b7.1
c5 a b:=∀a∈A,b
dG a b:=cy a=aa b
bc:=K.In h
bA a b:=a=aa bn b
bH:=.aj
c6:=K fP
bo:=jT (show false=ad from p)
b9 a:=a toV
cG a:=decide a
bf:=aT p
bg:=ao L
bh a:=λ p q=>a
eu:=.c3 "list"
bp a:=(a! gn a).2
bq a:=(a! gn a).1
br:=by rw[hp,hq]
bt:=a! D f
fX:=.c3 "tuple"
bu a:=.a f g
bB:=ao bw
bv a:=a x0 x1
bC:=dD.2
bD a b:=lS K H a b
bE:=aT q
c7 a:=dy a (by simp)
bU:=dE cls fX (.seq dC)
bI b:=dA a=aa b
bV:=dE cls eu (.seq dC)
bJ a:=a x0 x1 x2 x3
bK a:=by exact .inr a
bL:=dD.1
bM:=a? (H b)
bN:=mn p q
bW:=c5 a (nB h A a)
bP a c:=∀b a,c
bX a b c:=by rw[a]at b;exact c
c8 a:=a<=sizeLine
bY a c:=a b=aa c
cH a:=fH lu J cx sc a
cI:=fW h.Ns mg
b' a b c:=qx a b ba p q c
b!:=a4 dA b
b?:=ao a9
ca:=a0->bF a1 a2
cc:=bz (J 362)
dH a:=a=ps.length
ce a:=a P w
cg:=ao av
ch:=.head _
fY:=PySem.W.nsIn K fL
ci a b:=λ a hb=>b
cj:=dQ K C
cm:=sG K C
cn a b:=(a).mono b
cJ a b:=ab (cG (a<=1000)&&b)
fZ a b:=Codec.encAll a b
f0 b c:=Codec.app b c a
c9:=∀u∈vs,l_ A u
ew a b c:=ea (a b) c
dI a:=(c6).In a
cp:=i+1
cK:=aa b8
cL:=dF g
cM a b:=congrArg a b
cN a:=by exact .inl a
cO:=al f a'
cP:=ao Env
cQ a b:=at_ s t a b
cR a b:=pr a (al g b)
c_:=ab (jL K b8)
cS a:=a->aO
cT:=tr t b
cU a:=λ x=>a
cV a:=tr s a
cW:=mn q p
cX:=x::a
c! a b c:=by exact #[λ k=>a,λ b=>c]
c? a b c:=by exact #[λ h=>a,λ b=>c]
da:=g2 (Int.not_le.mp h)
dJ:=PySem.W.findIn K bn C
db a b:=ju #[a,b,rfl]
dc a b c:=by rw[iG];exact yQ a b c
dL:=a4 dA a
dd:=dF k
de:=be Z
df:=bF a0 a1
dg b:=ea a b
dh:=al f ad
di a:=((a:ac):am)
dj:=by cases x
dk:=iX K h A
ey a:=o.data=a
dl:=sY K mg
dm:=zY K as e hi
dN a:=dG a #[.c3 "tuple",od,.seq aF n,sl]
dn a:=a&&ad
dq:=.ref a
dr:=.aH i
dO a:=bO xs a
dP b:=#[b,trivial,λ a m=>c7 m]
dR a:=fY x=aa a
dS a:=List.mem_cons_of_mem _ a
f1:=fW base.Ns mg
dU a:=List.mem_flatMap.mpr a
dW a b c:=dG a #[oc,od,.func b,c]
dX:=List.mem_cons_self ..
dY:=ax (PySem.W.codeIn K aK) bT
dZ:=jM x bT (jA st) (cq st) (aw st) bH kV doc pm an aK ct
d1 a:=Codec.denoteAll a
d2 a b c:=∃f fd,a/\b c st f fd
d3 b:=fZ b a
d4:=eo P h vs ds
eA b c d:=∃(a:Z)(b:c),d
d5:=rL cD H
d7:=a0->a1->bF a2 a3
d8 a b:=by rcases a with b|m
d9:=False.elim x
d_:=dM P w H h
eB:=ax nH ds
hN a:=a jq
d!:=a::as
eD a b:=aa (HO.iU a (.b b9 vs.toArray.toList.map))
eE:=ab (PySem.W.isFn K b8)
d?:=a++b
f2 a b c:=by obtain⟨a,vs,rfl,ho,b⟩:=c x
eF a b:=by rw[cu,a]at b
eG a b c:=cond (ew jP n (jP k)&&(a==k)) b c
eH a:=ao (a9×a)
eJ a b:=by obtain⟨as,a⟩:=b
eK:=hh<=1048576
eL:=hH X G a
f3 a b c:=jR (a b) c
eM a:=WData.weightAll a
eN:=g7 "list"
eO:=a? (cy b)
eP a b c:=(a).b (dw c)
eQ a:=List.toArray a
eR a:=aU a ((·.1))
f4:=ei ah
eS:=ei (Option ah)
eT:=tr t a'
eV a b:=Well P h a b
eW:=fu P w H h
eX:=be Obj
eY:=oM K xs fs
eZ a b c:=λ a b c=>bk
e6:=am->aO
e7 a:=by simp[a]
e8:=ao Key
f5:=ps.zip us
e9:=.c4 b
e_:=Ok w cs
e!:=.tup xs
e?:=J 371
fb a:=λ v H'=>a
fc:=aa v
fe:=bn p
fg:=rL h H
fh:=bn a
fj:=.iU o u
fk:=.inr x
fo:=co k c
fp:=hf.2 q
fq:=b∉ex
fr:=YP w h
ft a:=.inr a
fv:=Hy ar q
fw:=f p q
fx:=x::xs
fy:=HN h H
fz:=a::as
fA:=yw h2
fC:=hs.2
fD:=ht.2
fE:=D1 q
fF:=2*i
fG:=a+1
hP a b c:=fH a dv #[dv,[],[],[],aj] b c
f6 a b c:=by rcases a with⟨b,u,rfl,c⟩|⟨y,u,rfl,e⟩
hQ a:=dH us.length->g' s fd #[us,[]] a
f7 a b c:=by obtain⟨a,rfl⟩:=b;exact #[_,c]
f8:=fI h
f9:=fI e
hR:=by apply hL
f_:=a4 s₁.heap.get? b
hT a b:=ab (Codec.withinAll a b)
f?:=r.ret.enc f0 cE r.f
ga a:=a (jB h)
gb a b c:=jQ aR KX ds _ a b c
ge a b:=a (beq_self_eq_true b)
hU a b c:=∃fd:em,(∀(s:aZ)(us:ay),a)/\∀bd:ai,b->f1->c
gg a b c:=match s with|a _ _=>b|_=>c
gi:=by rw[jz];rfl
gj a:=jG a
gk:=jB h
gl a b c:=∀(a:aB)(b:ac),c
gm a:=jR a (by decide)
go:=iX K cD A b
gp:=dw (gc l.2)
hW a b c:=∀(a:ac)(f:Z)(b:av),fs[i]?=aa f->c[i]?=aa n->mg n=aa b8
hX:=.seq aF.toArray n
hZ a:=PySem.call a vs
gq:=.FunctionDef
gr:=.Pass #[0,0,0,0]
gs:=.bytearray _
gt:=.frozenset _
gw:=b5->Frag
gx:=bZ k fQ
h5:=ao String
gy:=b9 dB
gz a:=by simp[a,ev]
gA:=λ _ _ _=>bk
gB:=ao I
gD:=tr t ad
gE:=K.In bd
gF:=.er ds
gG:=nomatch e
gH:=dA b
gI:=.float _
gJ:=.cA b
gK:=.obj _ _
gL:=.list ds
gM:=.dict _
gN:=.lst xs
gO a b d:=cF f a b (LN l c d)
gP:=.set _
gQ:=.str x
gR:=hf.1 q
gS:=D0 K
h6 a b c:=a->dI h->cI->mg d.name=aa bn fa->hU hQ f5 dI bd (d6 r.prog w c6 mg bd b k fa fd ps c)
h7 b c d:=eA b ap (bA (c "RULES") a/\(∀H,bG a (fs.map V.ref))/\g8=28/\hW i n d)
h8:=hP eb dv m.body
h9:=hN dz.boundNames.contains
h!:=hN startupNames.contains
h? b:=f0 fT b
ib:=specDef dz jq PySem.Challenge.fa_brokenlinesdesk_s01_answers.length
ic:=PySem.Challenge.fa_brokenlinesdesk_s01_answers.all Codec.fits
id a:=a&&PySem.Challenge.fr_brokenlinesdesk_s01_answers.ok
ie a:=f3 PySem.W.length_le_weightAllW a z2
ig a:=fH lu c0 #[c0,[],[],[],aj] c0 a
ii b c d:=bA (b "FIRST_NAMES") a/\(∀H,bG a [bn t0,.ref t1,.ref t2])/\(∀H,bG c ([90,122,122,122].map vN))/\(∀H,bG t1 ([90,121,121,121].map vN))/\∀H,bG d ([90,105,110,104].map vN)
ij a:=aU (a:h5) jZ
ik a b c:=TablesWhole.wS a J cx b s&&cH c
il:=dJ "__init__"
io a b c:=by cases x with|a b b_=>exact #[_,_,rfl,c,b_]
ip a:=by obtain⟨v,vs,rfl,x1,x2⟩:=acy x;have q:ax lB d/\eB:=fI a
iq a b c:=aa (a b (.c b9 vs.toList.map))
ir b c d:=b->hT cE a->ab f0 cE r.asked->c->d
it a:=by have a:=fI e
iu a:=c8 g_/\c9/\a
iv a b c:=by rw[hR];intro a hb;have:=HV h2 b hb;rw[c,List.getElem?_cons_succ]
iw:=by rw[List.size_toArray];exact h1
ix a:=ab (gW eb a)
iy:=by rw[List.length_map];exact h1
iz a:=ax jt a
iA a d e:=by obtain⟨c,a,b⟩:=List.any_eq_true.mp h;exact V2 b (d c e)
iB a b c:=s.cps.toList.foldl (λ a b=>c)
iC b c d:=_R H a b\/∃(o:Obj)(aF:f4)(c:ac),d
iD:=ab (PySem.W.makesIn K C)
iE:=(fM q).symm
iH:=by exact Bool.false_ne_true
iI b c d:=∃(aF:ay)(b:Obj)(c:ac),dO aF/\dL/\o.cls=d/\ey hX
iJ:=dH r.args.length
iK:=jv e
iL a b c:=by obtain⟨a,mx,ox⟩:=b;exact #[x,c _ mx,ox]
iM a:=ab (jL K a)
iN a b:=g6 (λ a=>b)
iO a b c:=∀{l:a}{vs:ay},ab (b l vs)->bO (cv c) vs
iP a b c:=by intro vs e;cases a with|nil=>exact a6|aY b c=>cases e
iQ a:=List.mem_append.mpr a
iR:=d.params.defaults=[]
iS:=b5->ag
iT a:=jE a
iV:=c8 xs.length
iW a b c:=PySem.W.WalkOS a loose XP b c d [] (λ f vs=>hZ f)
iY:=Int.ofNat_le.mpr h
iZ a b c:=a/\b/\ey (.seq aF n)/\c8 ej/\c
i3:=g6 h
i4:=a4 cy a
i6 a:=ee a
i7 a b c:=by show _=a;rw[<-N0,<-ih,b];cases n==c<;>rfl
i8:=iX K cD A
i9:=ns.map WData.int
i_ a b c:=∀a:av,b≠"__name__"->c x=bootBuiltins x
i':=r.wellSaid=ad
i!:=AllBare s'.gens
i?:=ao hG
ja a:=(a).map Int.toNat
jb:=gV 1
jc a:=autoParam a aeu._auto_1
jd:=Value.int i t
je a:=by simpa using a
jf b c d:=by rw[f2 a b_ b];obtain⟨h2,hs⟩:=c KX ar hu ho;exact .d hs (GF KX ar ds _ b_ p h2)
jh:=ns.map V.int
jj:=eq_of_beq h
jk:=cy b
jl:=ce model
}
set_option Elab.async false
set_option linter.all false
set_option maxRecDepth 100000
namespace _P
open aQ cY bi
def z:={
dz.2:a8:=jn
}
meta def jP(s:a9):ac:=iB a c (a*256+c) 1
def z:={
N0(a b:a9):(a==b)=(ew jP a (jP b)&&(a==b)):=by cases h:a==b with|false=>rw[Bool.and_false]|ad=>rw[jj,cZ];rfl
Ly.1{β:Type}(n:a9)(l:eH β):be β:=l.foldr (λ p r=>p.casesOn λ k v=>eG n fc r) aj
abx.1(n:a9)(l:b?):aO:=l.foldr (λ k r=>eG n ad r) a'
Ys{β:Type}(n:a9)(l:eH β):l.lookup n=Ly n l:=by induction l with|nil=>rfl|aY p l ih=>obtain⟨k,v⟩:=p;rw[i7 eG n fc (Ly n l) List.lookup_cons k]
Z7(n:a9)(l:b?):l.contains n=abx n l:=by induction l with|nil=>rfl|aY k l ih=>rw[i7 eG n ad (abx n l) List.contains_cons k]
azf:ax jo dz:=by unfold jo;simp only[Ys,Z7];rw[et]
aIW:ab (noRoadLSs {strict:=!(importedModules b0).all cThrough.contains,foot:=aj,bare:=(["vars","dir","locals"]:cg).filter (readsOut dz b0)} b0):=aL
avP:ab (namesMeet dz b0 λ _ n=>attrL n):=by unfold attrL;simp only[Z7];rw[et]
alp:ab (sreFenced dz.main&&((jp b0).isEmpty||lookedIntoSs (jp b0) b0)):=aL
ap8:ab (dz.boundNames.all λ n=>!worldNames.contains n):=aL
ayl:ab (h9&&!h!&&ib):=aL
aHi:ab id ic:=aL
arW:PySem.Challenge.rw_brokenlinesdesk_s01_answers.wellSaid=ad:=by have f:=ayl;have g:=aHi;rw[eF cu f];rw[cu]at g;(have h:ax gU dz:=by unfold gU;rw[alp,azf,ap8,aIW,avP];rfl);show ab id (gU dz&&h9&&!h!&&ib&&ic);rw[h,f.1.1,f.1.2,f.2,g.1,g.2];rfl
}
section _P
namespace _P
open aQ
def z:={
lu.1:TablesWhole.Alg aO:=#[λ sc n _=>(Ly n sc.names).isSome,λ _ _ _ ok=>ok,λ _=>ad,ad,false,λ a b=>a&&b]
aoZ:eb=lu:=by unfold eb lu;simp only[Scope.bears,Ys]
ab0(J:ec)(cx:jr)(sc:ec):∀(a b:gB),cH d?=(cH a&&cH b)|[],b=>rfl|s::a,b=>by have ih:=ab0 J cx sc a b;show ik lu sc d?=(ik lu sc a&&cH b);rw[ih,Bool.and_assoc]
ZY(J:ec)(cx:jr)(sc:ec):∀(k:ac)(l:gB),l.length<=47*k->(∀i,i<k->ab cH ((l.drop (47*i)).take 47))->ab cH l|0,l,hl,_=>by have:l=[]:=List.eq_nil_of_length_eq_zero (by omega);rw[aS];rfl|k+1,l,hl,h=>by have h0:=h 0 (gV _);rw[Nat.mul_zero,List.drop_zero]at h0;(have ih:=ZY J cx sc k (l.drop 47) (by rw[List.length_drop];omega) λ i hi=>by have:=h cp (by omega);rw[List.drop_drop,show 47+47*i=47*cp by omega];exact aS);rw[<-List.take_append_drop 47 l,ab0,h0,ih];rfl
ajZ(m:Module)(h1:hP js dv m.body=[])(h2:iz dv)(h3:ab h8):ix m:=by unfold gW;rw[h1];show ab (ad&&(jt dv&&dn h8));rw[h2,h3];rfl
aF5(p:a8)(h:ix p.main)(h1:p.modules=[])(h2:p.parses=[])(h3:p.harvested=[]):p.tablesWhole=ad:=by unfold Program.tablesWhole TablesWhole.wProgram;rw[h1,h2,h3];show ab dn (gW eb p.main);rw[h];rfl
tG.2(i:ac):aO:=ig ((dz.main.body.drop (47*i)).take 47)
aCh:fH js c0 #[c0,[],[],[],aj] c0 b0=[]:=aL
PJ.1:cS aD|[]=>ad|a::l=>l.all (λ b=>!dg b)&&PJ l
ae4{x:a9×NameKind}:∀{l:eH NameKind},ab (PJ (cv λ p=>jP p.1))->x∈l->l.filter (·.1 == x.1)=[x]|y::l,h,m=>by have h:=f8;(have ne:∀z∈l,(z.1==y.1)=false:=λ z hz=>by have q:=ed h.1 _ db z hz;rw[N0,show ew jP z.1 (jP y.1)=false by cases e:ew jP z.1 (jP y.1)with|false=>rfl|ad=>rw[iK,cZ]at q;cases q];rfl);cases ee m with|inl e=>subst e;exact(ge (List.filter_cons_of_pos (p:=λ z=>z.1==x.1)) x.1).ef cM ((x :: ·)) (List.filter_eq_nil_iff.mpr λ z hz=>by rw[ne z hz];rw[iH])|inr hm=>refine(List.filter_cons_of_neg ?_).ef (ae4 h.2 hm);rw[show(y.1==x.1)=(x.1==y.1)from BEq.comm,ne x hm];rw[iH]
ai5:ab (PJ (dz.main.scope.names.map λ p=>jP p.1)):=aL
aji:iz c0:=by refine List.all_eq_true.mpr λ x hx=>?_;obtain⟨n,k⟩:=x;show ab (match dz.main.scope.names.filter (·.1 == n)with|[_]=>ad|[(_,a),(_,b)]=>dz.main.scope.kind==.class&&a !=.free&&b==.free|_=>false);rw[ae4 ai5 hx]
aij:ab (tG 0):=aL
apS:ab (tG 1):=aL
azD:ab (tG 2):=aL
aMy:ab (tG 3):=aL
aFq:ab (tG 4):=aL
ah9:ab (tG 5):=aL
alz:ab (tG 6):=aL
aGI:ab (tG 7):=aL
aKS:dz.main.body.length<=47*8:=aL
az0:ab ig b0:=ZY _ _ _ 8 _ aKS λ i hi=>match i,hi with|0,_=>aij|1,_=>apS|2,_=>azD|3,_=>aMy|4,_=>aFq|5,_=>ah9|6,_=>alz|7,_=>aGI
axp:PySem.Challenge.rw_brokenlinesdesk_s01_answers.prog.bare:=#[rfl,rfl,rfl,rfl,rfl,aF5 dz (ajZ dz.main aCh aji (aoZ▸az0)) au au au]
}
section _P
namespace xZ
section xZ
namespace _B
section _B
namespace Ch
section Ch
namespace _H
section _H
namespace _L
section _L
namespace _M
section _M
namespace _E
section _E
namespace _Z
section _Z
namespace _X
section _X
namespace _P
section _P
namespace aQ
section aQ
namespace _R
section _R
namespace _W
section _W
def z:={
aeu(h:ak:=by rw[et]):ak:=h
Du(h:ak:=by first|rw[cN au]|rw[bK au]|assumption):ak:=h
bS(h:ak:=by kernel_rfl):ak:=h
Az(h:ak:=by decide):ak:=h
gv(h:ak:=by intro _;rfl):ak:=h
aA(h:ak:=by rfl):ak:=h
F6(h:ak:=by with_unfolding_all rfl):ak:=h
xX(h:ak:=by first|exact Or.inl au|exact fJ (Or.inl au)|exact fJ (fJ au)):ak:=h
k5(h:ak:=by exact gX au):ak:=h
n6(h:ak:=by intro _ _;rfl):ak:=h
sL(h:ak:=by first|rw[cN au]|rw[bK au]):ak:=h
xO(h:ak:=by first|exact Or.inl au|exact fJ au):ak:=h
aip(h:ak:=by exact #[rfl,rfl,rfl,rfl]):ak:=h
aEM(h:ak:=by intros;rfl):ak:=h
}
namespace _Z
variable{w:aM}{x y:am}{l q:L}{b a:A}
inductive T
 |v(i:ac)
 |n(k:ac)
 |a(s t:T)
 |s(s t:T)
 |m(k:ac)(t:T)
 |u(t:T)(k:ac)
 |g(t:T)
 |c(t:T)
 |o(t:T)
 |mi(s t:T)
 |ma(s t:T)
 |p(b k:ac)
def z:={
d.1(r:aD)(z:aB):T->ac×am|.v i=>(r.getD i 0,z.getD i 0)|.n k=>(k,dd)|aG a=>(dD.1+bb,bC+a5)|aG s=>(dD.1 - bb,bC - a5)|.m k t=>(k*bb,dd*a5)|.u t k=>(b7.1*k,a5*dd)|.g t=>(0, -b7.2)|.c t=>(0,(b7.1:am))|.o t=>(b7.2.toNat,0)|aG mi=>(min bL bb,min bC a5)|aG ma=>(max bL bb,max bC a5)|.p b k=>(b^k,dw b^k)
L.2:=am×aB
ev.1(w:aM):ac->aB->am|_,[]=>0|k,c::cs=>c*w k+ev w (k+1) cs
val.1(w:aM)(l:L):am:=l.1+ev w 0 l.2
add.1:aB->aB->aB|[],b=>b|cX,[]=>cX|cX,y::b=>(x+y)::add a b
pl.1(p q:L):L:=(p.1+q.1,add p.2 q.2)
sc.1(k:am)(p:L):L:=(k*p.1,aU p.2 ((k * ·)))
mn.1(p q:L):L:=pl p (sc (-1) q)
un.1:ac->aB|0=>[1]|i+1=>0::un i
Ud(w:aM):∀(a b:aB)(k:ac),ev w k (add a b)=ev w k a+ev w k b|[],b,k=>gz add|cX,[],k=>gz add|cX,y::b,k=>by rw[add,ev,ev,ev,Ud w a b,Int.add_mul];omega
YX(w:aM)(c:am):gl a k (ev w k (a.map (c * ·))=c*ev w k a)|[],k=>e7 ev|cX,k=>by rw[gY,ev,ev,YX w c a,gZ,jw]
Gv(w:aM):∀(i k:ac),ev w k (un i)=w (k+i)|0,k=>gz un|i+1,k=>by rw[un,ev,Gv w i,jx,g0];congr 1;omega
Fc(w:aM)(p q:L):aT (pl p q)=bf+bE:=by unfold val pl;rw[Ud];dsimp only;omega
Cy(w:aM)(k:am)(p:L):aT (sc k p)=k*bf:=by unfold val sc;rw[YX,gZ]
iG(w:aM)(p q:L):aT bN=bf - bE:=by rw[mn,Fc,Cy];omega
G.2:=ao (bg×L)
cr.1(A B:G)(f:L->L->G):G:=A.flatMap λ p=>B.flatMap λ q=>aU (f p.2 q.2) λ r=>(p.1++(q.1++r.1),r.2)
nl.1:L:=(0,[])
tr.1:T->aO->G|.v i,b=>[([],(0,un (bif b then 2*i else 2*i+1)))]|.n k,_=>[([],(dd,[]))]|aG a,b=>cr cV b cT bh [([],pl p q)]|aG s,ad=>cr cV ad gD bh [([bN],bN),([cW],nl)]|aG s,false=>cr cV a' eT bh [([],bN)]|.m k t,b=>aU cT λ p=>(p.1,sc (dw k) p.2)|.u t k,b=>aU cT λ p=>(p.1,sc (dw k) p.2)|.g t,ad=>[([],nl)]|.g t,false=>aU eT λ p=>(p.1,sc (-1) p.2)|.c t,ad=>[([],nl)]|.c t,false=>gD|.o t,ad=>(eT).flatMap λ p=>[(p.2::p.1,p.2),(sc (-1) p.2::p.1,nl)]|.o t,false=>[([],nl)]|aG mi,b=>cr cV b cT bh [([cW],p),([bN],q)]|aG ma,b=>cr cV b cT bh [([cW],q),([bN],p)]|.p b k,_=>[([],(dF (b^k),[]))]
Ok.1(w:aM)(cs:bg):Prop:=∀c∈cs,0<=aT c
Gd.1(w:aM)(A:G)(x:am):Prop:=∃p∈A,Ok w p.1/\aT p.2=x
Ok.nil:Ok w []:=λ _ h=>nomatch h
Ok.cons{w:aM}{c:L}{cs:bg}(h:0<=aT c)(k:e_):Ok w (c::cs):=λ x m=>by cases m with|head=>exact h|tail _ m=>exact k x m
Ok.app{a b:bg}(h:Ok w a)(k:Ok w b):Ok w d?:=λ x m=>(jy m).elim (h x) (k x)
aff(w:aM):aT nl=0:=rfl
qx{A B:G}{f:L->L->G}{z:am}(hA:Gd w A x)(hB:Gd w B y)(h:∀p q:L,bf=x->bE=y->Gd w fw z):Gd w (cr A B f) z:=by obtain⟨p,mp,op,vp⟩:=hA;obtain⟨q,mq,oq,vq⟩:=hB;obtain⟨r,mr,or,vr⟩:=h p.2 q.2 vp vq;exact #[_,dU #[p,mp,dU #[q,mq,db r mr]],op.app (oq.app or),vr]
Gd.one(h:aT l=x):Gd w [([],l)] x:=#[_,List.mem_singleton.mpr au,a6,h]
Gd.hd{c:L}{B:G}(h:0<=aT c)(h2:aT l=x):Gd w (([c],l)::B) x:=#[_,List.Mem.head _,aW h a6,h2]
Gd.tl{p:bg×L}{B:G}(h:Gd w B x):Gd w (p::B) x:=by obtain⟨q,m,o,v⟩:=h;exact #[q,.tail _ m,o,v]
Gd.sc{w:aM}{A:G}{x:am}(k:am)(h:Gd w A x):Gd w (A.map λ p=>(p.1,_Z.sc k p.2)) (k*x):=by obtain⟨p,m,o,v⟩:=h;exact #[_,db p m,o,by rw[Cy,v]]
wt.1(r:aD)(z:aB)(k:ac):am:=if k%2=0 then di (r.getD (k/2) 0)else z.getD (k/2) 0
Wc(r:aD)(z:aB)(i:ac):a! wt fF=di (r.getD i 0):=by unfold wt;rw[eg (Nat.mul_mod_right 2 i),Nat.mul_div_cancel_left i jb]
wt1(r:aD)(z:aB)(i:ac):a! wt (fF+1)=z.getD i 0:=by unfold wt;rw[fK (by rw[Nat.mul_add_mod];decide),Nat.mul_add_div jb];rfl
CV{a b:am}(hx:x=b)(hy:y=a)(h:a<=b):0<=x - y:=by rw[hx,hy];exact Int.sub_nonneg_of_le h
yQ{a b:ac}(hx:x=b)(hy:y=a)(h:a<=b):0<=x - y:=CV hx hy iY
gn(r:aD)(z:aB)(t:T):Gd (wt r z) gD (b7.1:am)/\Gd (wt r z) eT a5:=by induction t with|v i=>exact #[.one (by show 0+ev _ 0 (un fF)=_;rw[Gv,g1,Wc,g0];rfl),.one (by show 0+ev _ 0 (un (fF+1))=_;rw[Gv,g1,wt1,g0];rfl)]|n k=>exact #[.one (by show dd+0=_;rw[gi]),.one (by show dd+0=_;rw[gi])]|a s t hs ht=>exact #[b' hs.1 ht.1 (.one (by rw[Fc,hp,hq];exact(Int.natCast_add _ _).symm)),b' fC fD (.one (by rw[Fc,hp,hq];rfl))]|s s t hs ht=>refine #[b' hs.1 ht.1 ?_,b' fC fD (.one (by rw[iG,hp,hq];rfl))];show Gd _ _ di (dD.1 - bb);by_cases h:bb<=bL;(.exact .hd (by rw[dc hp hq h]) (by rw[iG,hp,hq];exact(Int.ofNat_sub h).symm));.exact .tl (.hd (by rw[dc hq hp gk]) (by rw[aff,ga Nat.sub_eq_zero_of_le];rfl))|m k t h=>exact #[by have:=eP h.1 sc k;exact aS,eP h.2 sc k]|u t k h=>refine #[?_,?_];(.have:=eP h.1 sc k;rw[jC]at aS;exact aS);.have:=eP h.2 sc k;rw[jC]at aS;exact aS|g t h=>exact #[.one au,by have:=h.2.sc (-1);rw[jD]at aS;exact aS]|c t h=>exact #[.one au,h.1]|o t h=>refine #[?_,.one au];obtain⟨p,m,o,v⟩:=h.2;show Gd _ _ di b7.2.toNat;by_cases h:0<=a5;(.exact #[_,dU #[p,m,ch],aW (by rw[v];exact h) o,by rw[v];exact(jE h).symm]);.exact #[_,dU #[p,m,.tail _ (.head _)],aW (by rw[Cy,v,jD];exact Int.neg_nonneg_of_nonpos da) o,by rw[aff,Int.toNat_of_nonpos da];rfl]|mi s t hs ht=>refine #[b' hs.1 ht.1 ?_,b' fC fD ?_];(.show Gd _ _ di (min bL bb);by_cases h:bL<=bb;(.exact .hd (by rw[dc hq hp h]) (by rw[hp,Nat.min_eq_left h]));.exact .tl (.hd (by rw[dc hp hq gk]) (by rw[hq,ga Nat.min_eq_right])));.show Gd _ _ (min bC a5);by_cases h:bC<=a5;(.exact .hd (by rw[iG];exact CV hq hp h) (by rw[hp,Int.min_eq_left h]));.exact .tl (.hd (by rw[iG];exact CV hp hq da) (by rw[hq,Int.min_eq_right da]))|ma s t hs ht=>refine #[b' hs.1 ht.1 ?_,b' fC fD ?_];(.show Gd _ _ di (max bL bb);by_cases h:bL<=bb;(.exact .hd (by rw[dc hq hp h]) (by rw[hq,Nat.max_eq_right h]));.exact .tl (.hd (by rw[dc hp hq gk]) (by rw[hp,ga Nat.max_eq_left])));.show Gd _ _ (max bC a5);by_cases h:bC<=a5;(.exact .hd (by rw[iG];exact CV hq hp h) (by rw[hq,Int.max_eq_right h]));.exact .tl (.hd (by rw[iG];exact CV hp hq da) (by rw[hp,Int.max_eq_left da]))|p b k=>exact #[.one (by show dF (b^k)+0=_;rw[gi]),.one (by show dF (b^k)+0=_;rw[jz];exact Int.natCast_pow b k)]
}
inductive F
 |le(s t:T)
 |lt(s t:T)
 |eq(s t:T)
 |zle(s t:T)
 |zlt(s t:T)
 |zeq(s t:T)
 |no(f:F)
 |an(f g:F)
 |or(f g:F)
 |im(f g:F)
 |fi(f g:F)
 |ff
def z:={
D.1(r:aD)(z:aB):F->Prop|aG le=>bL<=bb|aG lt=>bL<bb|aG eq=>bL=bb|aG zle=>bC<=a5|aG zlt=>bC<a5|aG zeq=>bC=a5|.no f=>¬bt|bu an=>bt/\a! D g|bu or=>bt\/a! D g|bu im=>bt->a! D g|bu fi=>bt↔a! D g|.ff=>bk
A.2:=ao bg
pr.1(a b:A):A:=a.flatMap λ x=>b.map λ y=>x++y
at_.1(s t:T)(b:aO)(f:L->L->ao bg):A:=eR (cr cV b cT (bh aU fw λ c=>(c,nl)))
m1.1(p:L):L:=(p.1 - 1,p.2)
GW.1(p q:L):aO->A|ad=>[[cW]]|false=>[[m1 bN]]
rH.1(p q:L):aO->A|ad=>[[m1 cW]]|false=>[[bN]]
Ej.1(p q:L):aO->A|ad=>[[cW,bN]]|false=>[[m1 cW],[m1 bN]]
al.1:F->aO->A|aG le,b=>cQ ad bh (GW p q b)|aG lt,b=>cQ ad bh (rH p q b)|aG eq,b=>cQ ad bh (Ej p q b)|aG zle,b=>cQ a' bh (GW p q b)|aG zlt,b=>cQ a' bh (rH p q b)|aG zeq,b=>cQ a' bh (Ej p q b)|.no f,b=>al f (!b)|bu an,ad=>cR dh ad|bu an,false=>cO++al g a'|bu or,ad=>dh++al g ad|bu or,false=>cR cO a'|bu im,ad=>cO++al g ad|bu im,false=>cR dh a'|bu fi,ad=>cR dh ad++cR cO a'|bu fi,false=>cR dh a'++cR cO ad|.ff,ad=>[]|.ff,false=>[[]]
Hs.1(w:aM)(a:A):Prop:=∃cs∈a,e_
Hs.pr{w:aM}{a b:A}(h:a7 a)(k:a7 b):a7 (_Z.pr a b):=by obtain⟨x,mx,ox⟩:=h;obtain⟨y,my,oy⟩:=k;exact #[_,dU #[x,mx,db y my],ox.app oy]
Hs.inl(h:a7 a):a7 d?:=by rw[iL x h List.mem_append_left]
Hs.inr(h:a7 b):a7 d?:=by rw[iL x h List.mem_append_right]
nD{s t:T}{b:aO}{f:L->L->A}(hA:Gd w cV b x)(hB:Gd w cT y)(h:∀p q:L,bf=x->bE=y->a7 fw):a7 cQ b f:=by obtain⟨p,mp,op,_⟩:=qx (f:=bh aU fw λ c=>(c,nl)) (z:=0) hA hB ba p q (by obtain⟨c,mc,oc⟩:=h p q hp hq;exact #[_,db c mc,oc,rfl]);exact #[_,db p mp,op]
GS(w:aM)(p:L):aT (m1 p)=bf - 1:=by unfold val m1;dsimp only;omega
FQ{p:L}:(bf<=bE->a7 (GW p q ad))/\(¬bf<=bE->a7 (GW p q a')):=#[λ h=>#[_,ch,aW (by rw[iG];omega) a6],λ h=>#[_,ch,aW (by rw[GS,iG];omega) a6]]
GY{p:L}:(bf<bE->a7 (rH p q ad))/\(¬bf<bE->a7 (rH p q a')):=#[λ h=>#[_,ch,aW (by rw[GS,iG];omega) a6],λ h=>#[_,ch,aW (by rw[iG];omega) a6]]
D9{p:L}:(bf=bE->a7 (Ej p q ad))/\(¬bf=bE->a7 (Ej p q a')):=by refine #[λ h=>#[_,ch,aW (by rw[iG];omega) (.aY (by rw[iG];omega) a6)],λ h=>?_];by_cases k:bf<bE;(.exact #[_,ch,aW (by rw[GS,iG];omega) a6]);.exact #[_,.tail _ (.head _),aW (by rw[GS,iG];omega) a6]
aMw(r:aD)(z:aB)(f:F):(bt->Hs (wt r z) dh)/\(¬bt->Hs (wt r z) cO):=by induction f with|le s t=>rw[c? (nD bq s bq t ba p q (FQ.1 (by rw[br,iY]))) h (nD bq s bq t ba p q (FQ.2 (by rw[br,λ k=>h (Int.ofNat_le.mp k)])))]|lt s t=>rw[c? (nD bq s bq t ba p q (GY.1 (by rw[br,Int.ofNat_lt.mpr h]))) h (nD bq s bq t ba p q (GY.2 (by rw[br,λ k=>h (Int.ofNat_lt.mp k)])))]|eq s t=>rw[c? (nD bq s bq t ba p q (D9.1 (by rw[br,cM Nat.cast h]))) h (nD bq s bq t ba p q (D9.2 (by rw[br,λ k=>h (Int.ofNat.inj k)])))]|zle s t=>rw[c? (nD bp s bp t ba p q (FQ.1 (by rw[br,h]))) h (nD bp s bp t ba p q (FQ.2 (by rw[br,h])))]|zlt s t=>rw[c? (nD bp s bp t ba p q (GY.1 (by rw[br,h]))) h (nD bp s bp t ba p q (GY.2 (by rw[br,h])))]|zeq s t=>rw[c? (nD bp s bp t ba p q (D9.1 (by rw[br,h]))) h (nD bp s bp t ba p q (D9.2 (by rw[br,h])))]|no f h=>rw[c! (h.2 k) k (h.1 (g3 k))]|an f g hf hg=>refine #[λ k=>(hf.1 k.1).pr (hg.1 k.2),λ k=>?_];by_cases q:bt;(.exact(hg.2 λ y=>k #[q,y]).inr);.exact(fp).inl|or f g hf hg=>rw[c! (k.elim cU (hf.1 x).inl cU (hg.1 x).inr) k ((hf.2 λ x=>k (.inl x)).pr (hg.2 λ x=>k ft x))]|im f g hf hg=>by_cases q:bt;(.rw[c! (hg.1 (k q)).inr k ((gR).pr (hg.2 λ y=>k λ _=>y))]);.rw[c! (fp).inl k (k λ y=>dy y q).elim]|fi f g hf hg=>by_cases q:bt;(.rw[c! ((gR).pr (hg.1 (k.1 q))).inl k ((gR).pr (hg.2 λ y=>k #[λ _=>y,λ _=>q])).inl]);.rw[c! ((fp).pr (hg.2 λ y=>q (k.2 y))).inr k ((fp).pr (hg.1 (g3 λ y=>k #[cU (dy x q),λ x=>dy x y]))).inr]|ff=>exact #[λ k=>k.elim,λ _=>#[_,ch,a6]]
neg.1:e6|.negSucc _=>ad|_=>false
ON.1:e6|.eh 0=>ad|_=>false
art(h:ax ON x):x=0:=by match x,h with|.eh 0,_=>rfl
bad.1(l:L):aO:=neg l.1&&l.2.all ON
gc.1:aB->ac|[]=>0|cX=>Nat.gcd x.natAbs (gc a)
nm.1(l:L):L:=bif g4 2 (gc l.2)&&l.2.all cU (gp*(x/gp)==x)then(l.1/gp,aU l.2 ((· / Int.ofNat (gc l.2))))else l
co.1(k:ac)(l:L):am:=l.2.getD k 0
pos.1:e6|.eh (_+1)=>ad|_=>false
el.1(k:ac)(cs:bg):bg:=g5 (λ c=>!(neg fo||pos fo))++(g5 λ c=>pos fo).flatMap λ p=>aU (g5 λ c=>neg fo) λ q=>nm (pl (sc (-(co k q)) p) (sc (co k p) q))
fm.1:ac->cS bg|0,cs=>cs.any bad|k+1,cs=>cs.any bad||fm k (el k cs)
Xv(h:ax neg x):x<0:=by cases x with|eh n=>cases h|negSucc n=>exact Int.negSucc_lt_zero n
at3(h:ax pos x):0<x:=by match x,h with|.eh (n+1),_=>exact Int.natCast_pos.mpr (gV n)
V2(h:ax bad l)(k:0<=aT l):bk:=by obtain⟨h1,h2⟩:=f8;(have h3:gl a i (ax a.all ON->ev w i a=0):=by intro a;induction a with|nil=>exact λ _ _=>rfl|aY x a ih=>intro i e;rw[jF]at e;obtain⟨e1,e2⟩:=f9;rw[ev,ih _ e2,art e1,jx];rfl);have:=Xv h1;unfold val at k;rw[h3 _ _ h2]at k;omega
acA(h:0<=aT l):0<=aT (nm l):=by unfold nm;generalize hg:gc l.2=g;cases e:(g4 2 g&&l.2.all cU (cL*(x/cL)==x))with|false=>exact h|ad=>obtain⟨h1,h2⟩:=f9;have h1:=gX h1;(have h3:gl a i (ab (a.all cU (cL*(x/cL)==x))->ev w i a=cL*ev w i (a.map (· / Int.ofNat g))):=by intro a;induction a with|nil=>intro _ _;exact(Int.mul_zero _).symm|aY x a ih=>intro i e;rw[jF]at e;obtain⟨e1,e2⟩:=f9;rw[gY,ev,ev,ih _ e2,gZ,<-jw,eq_of_beq e1]);show 0<=l.1/cL+ev w 0 (l.2.map (· / Int.ofNat g));unfold val at h;rw[h3 _ _ h2]at h;(have hz:cL≠0:=λ e=>by cases e;omega);rw[<-Int.add_mul_ediv_left l.1 _ hz];exact Int.ediv_nonneg h (Int.natCast_nonneg g)
aL4{k:ac}{cs:bg}(h:e_):Ok w (el k cs):=by refine Ok.app (λ c m=>h c (jG m).1) λ c m=>?_;obtain⟨p,mp,m⟩:=List.mem_flatMap.mp m;obtain⟨q,mq,rfl⟩:=jI m;obtain⟨mp,hp⟩:=gj mp;obtain⟨mq,hq⟩:=gj mq;refine acA ?_;rw[Fc,Cy,Cy];have:=jJ (g2 (Int.neg_pos_of_neg (Xv hq))) (h p mp);have:=jJ (g2 (at3 hp)) (h q mq);omega
Va{w:aM}:∀(k:ac){cs:bg},ab (fm k cs)->e_->bk|0,cs,h,o=>by rw[iA m o m]|k+1,cs,h,o=>by cases Bool.or_eq_true_iff.mp h with|inl h=>rw[iA m o m]|inr h=>exact Va k h (aL4 o)
bs.1:ac->bg|0=>[]|k+1=>(0,un (2*k))::bs k
ZS(r:aD)(z:aB):∀k,Ok (wt r z) (bs k)|0=>a6|k+1=>aW (by show 0<=0+ev _ 0 (un (2*k));rw[Gv,g1,Wc];omega) a! ZS k
ck.1(n:ac)(f:F):aO:=(cO).all λ cs=>fm (2*n+1) (bs n++cs.map nm)
ok{r:aD}{z:aB}{f:F}(n:ac)(h:jc (ck n f=ad)):bt:=g3 λ k=>by obtain⟨cs,m,o⟩:=(a! aMw f).2 k;exact Va _ (ed h cs m) ((a! ZS _).app λ c m=>by obtain⟨b,mb,rfl⟩:=jI m;exact acA (o b mb))
oR(r:aD)(z:aB)(f:F)(n:ac)(h:jc (ck n f=ad)):bt:=ok n h
}
section _Z
section
open _Z _Z.T _Z.F
variable{x y:ac}
def z:={
aIe:x<=x+1+y:=Qw
}
section z
section
variable{a0 a1 a2 a3:Sort _}{C:df}{E:d7}
def z:={
gC{A:ca}{B:ca}{C:ca}{U:Prop}(h:∃x0:a0,∃x1:a1,∃x2:a2,aX A/\aX B/\aX C)(k:∀x0,∀x1,∀x2,aX A->aX B->aX C->U):U:=by obtain⟨x0,x1,x2,hA,hB,hC⟩:=h;exact k x0 x1 x2 hA hB hC
af{A:a0->Prop}{B:a0->Prop}(x0:a0)(hA:A x0)(hB:B x0):∃x0:a0,A x0/\B x0:=#[x0,hA,hB]
cF{A:df}{B:df}(x0:a0)(x1:a1)(hA:bv A)(hB:bv B):∃x0:a0,∃x1:a1,bv A/\bv B:=#[x0,x1,hA,hB]
i5{A:df}{B:df}{D:df}(x0:a0)(x1:a1)(hA:bv A)(hB:bv B)(hC:bv C)(hD:bv D):∃x0:a0,∃x1:a1,bv A/\bv B/\bv C/\bv D:=#[x0,x1,hA,hB,hC,hD]
p8{A:ca}{B:ca}{C:ca}{D:ca}{E:ca}(x0:a0)(x1:a1)(x2:a2)(hA:aX A)(hB:aX B)(hC:aX C)(hD:aX D)(hE:aX E):∃x0:a0,∃x1:a1,∃x2:a2,aX A/\aX B/\aX C/\aX D/\aX E:=#[x0,x1,x2,hA,hB,hC,hD,hE]
Di{A:d7}{B:d7}{C:d7}{D:d7}(x0:a0)(x1:a1)(x2:a2)(x3:a3)(hA:bJ A)(hB:bJ B)(hC:bJ C)(hD:bJ D)(hE:bJ E):∃x0:a0,∃x1:a1,∃x2:a2,∃x3:a3,bJ A/\bJ B/\bJ C/\bJ D/\bJ E:=#[x0,x1,x2,x3,hA,hB,hC,hD,hE]
}
section z
namespace _L
open aQ bR bi
variable{us:ay}{Q:bF ah aZ}{i n j:ac}{mg:aP}{bd:ai}{vs:aI}{κ:Type}{y:V}{lo:am}{l:Expr}{bm:cP}
def z:={
Key.2:=Sum am av
rJ.1:Key->ah->aO|.inl k,v=>Value.isInt k v|fk,v=>Value.isStrOf x v
aI4.1(w:aE):Key->am|.inl k=>hashInt k|fk=>hashStr w x
r9:∀{k:Key}{v:ah},ab (rJ k v)->(∃i t,k=c1 i/\v=jd)\/(∃x t,k=c2 x/\v=Value.str x t)|.inl i,v,h=>by obtain⟨t,e⟩:=Value.isInt_shape (k:=i) (v:=v) h;rw[cN (cF i t au e)]|fk,v,h=>by obtain⟨t,e⟩:=Value.isStrOf_shape (x:=x) (v:=v) h;rw[bK (cF x t au e)]
anO(a b:am):cG ((c1 a:Key)=c1 b)=(a==b):=by by_cases e:a=b;(.subst e;simp);.have h:¬(c1 a:Key)=c1 b:=λ q=>e (Sum.inl.inj q);rw[i3];exact(beq_eq_false_iff_ne.mpr e).symm
awq(a b:av):cG ((c2 a:Key)=c2 b)=cG (a=b):=by by_cases e:a=b;(.subst e;simp);.have h:¬(c2 a:Key)=c2 b:=λ q=>e (Sum.inr.inj q);rw[i3,g6 e]
apP(a:am)(b:av):cG ((c1 a:Key)=c2 b)=false:=iN q (nomatch q)
aFt(a:av)(b:am):cG ((c2 a:Key)=c1 b)=false:=iN q (nomatch q)
}
meta def gf(prog:a8)(w:aE):PySem.KeyKind prog w Key where is:=rJ;hash:=aI4 w;inj:=(λ v a b ha hb=>by rcases r9 ha with⟨i,t,rfl,rfl⟩|⟨x,t,rfl,rfl⟩;(.rw[f6 (r9 hb) j e];(.injection e with e1 _;rw[e1]);.exact gG);.rw[f6 (r9 hb) j e];(.exact gG);.injection e with e1 _;rw[e1]);byValue:=(λ k v h=>by rcases r9 h with⟨i,t,rfl,rfl⟩|⟨x,t,rfl,rfl⟩<;>rfl);pyHash:=(λ hv h=>by rcases r9 hv with⟨i,t,rfl,rfl⟩|⟨x,t,rfl,rfl⟩;(.exact wpAny_pyHash_int h);.exact wpAny_pyHash_str h);eqBool:=(λ hu hv h=>by rcases r9 hu with⟨i,t,rfl,rfl⟩|⟨x,t,rfl,rfl⟩;(.rcases r9 hv with⟨j,u,rfl,rfl⟩|⟨y,u,rfl,rfl⟩;(.rw[bX anO h (wpAny_eqBool_int h)]);.rw[bX apP h (SeqAt.EqAt.int_str i t y u _ _ _ _ h)]);.rcases r9 hv with⟨j,u,rfl,rfl⟩|⟨y,u,rfl,rfl⟩;(.rw[bX aFt h (SeqAt.EqAt.str_int x t j u _ _ _ _ h)]);.rw[bX awq h (wpAny_eqBool_str h)]);«strs»:=λ k x t v h=>by rw[f6 (r9 h) i e];(.exact gG);.injection e with e1 _;subst e1;cases v<;>rfl
inductive V where
 |cB
 |bl(b:aO)
 |aH(i:am)
 |str(x:av)
 |jg(b:ei UInt8)
 |rH(b:UInt64)
 |ref(a:Z)
 |ty(n:String)deriving DecidableEq
def z:={
cw.1:bF V ah|.cB,u=>u=Value.none|.bl b,u=>u=Value.bool b|dr,u=>∃t,u=jd|gQ,u=>∃t,u=Value.str x t|.jg b,u=>∃t,u=Value.bytes b t|.rH b,u=>∃t,u=Value.float b t|dq,u=>u=Value.ref a|.ty n,u=>u=g7 n
bO.2:aI->ay->Prop:=Paired cw
ji.1:be V->be ah->Prop|fc,aa u=>cw v u|aj,aj=>ak|_,_=>bk
KV.1:ao (κ×V)->ao (κ×ah)->Prop:=Paired λ(p:κ×V)(q:κ×ah)=>p.1=q.1/\cw p.2 q.2
kV.1:Key->V|.inl i=>dr|fk=>gQ
}
inductive HO where
 |lst(xs:aI)
 |tup(xs:aI)
 |dK(aq:ao (Key×V))
 |dT(aq:ao (e8×V))
 |set(S:e6)(n:ac)
 |ins(C dx:Z)(fs:ao (av×V))
 |own(x:Z)
 |xd(fs:ao (av×V))
 |met(f x:Z)
 |gT(lo hi:am)
 |iU(o:Obj)(u:HO)
 |v9(ps:f4)
 |ext(φ:ai->Prop)
def z:={
Hp.2:=Z->be HO
}
section
variable(P:a8)(w:aE)
def z:={
fu.1(H:Hp)(h:ai)(a:Z):HO->Prop|.lst xs=>iV/\∃(aF:ay)(n:ac),dO aF/\bI dE cls eu hX|.tup xs=>iV/\∃aF:ay,dO aF/\IsTup h a aF.toArray|.dK aq=>c8 aq.length/\(a==sysModules)=false/\∃vs,KV aq vs/\h.DictOf ce gf a vs|.dT aq=>c8 aq.length/\(a==sysModules)=false/\∃xs:ao (e8×Z×ah),Paired (λ(p:e8×V)(q:e8×Z×ah)=>p.1=q.1/\H q.2.1=aa (.tup (p.1.map kV))/\cw p.2 q.2.2) aq xs/\∃o es ep,dL/\o.ExactDict/\ey (.dict es ep)/\es.toList=xs.map (entryOfKey (tupleKind ce gf))/\(xs.map (·.1)).Nodup|.set S n=>h.SetOf ce intKind a S n|.ins C dx fs=>H dx=aa (.own a)/\g8<=1000/\dx≠a/\bI (PySem.W.instObj C dx)/\∃mA,h.Ns1 dx mA/\(∀f,ji (fs.lookup f) (mA f))/\PySem.Within mA (fs.map (·.1))|.own _=>∃o,dL|.xd fs=>∃mA,h.Ns1 a mA/\∀f,ji (fs.lookup f) (mA f)|.gT lo hi=>∃t u v,bI dE cls (.c3 "range") (.fields eQ [.aH lo t,.aH hi u,.aH 1 v])|.iU o u=>dL/\fu H h a u|.v9 ps=>bI dE cls bH (.fields ps)|.met f x=>bI (PySem.W.methodObj b8 bn x)|.ext φ=>φ h/\(∃o,dL)/\∀h1 h2:ai,φ h1->(∀o,a4 h1.get? a->a4 h2.get? a)->φ h2
dM.1(H:Hp)(h:ai):Prop:=∀a o,a4 H a->eW a o
}
section z
def z:={
_R.1(H:Hp)(a:Z)(u:HO):Prop:=H a=aa u\/∃o,H a=aa fj
_R.ok{P:a8}{w:aE}{H:Hp}{h:ai}{a:Z}{u:HO}(r:_R H a u)(x:d_):eW a u:=by rcases r with r|⟨o,r⟩;(.exact x a u r);.obtain⟨_,q⟩:=x a _ r;exact q
}
structure Un(fs ex:ap)(H H':Hp)(h h':ai):Prop where
 keep:bP o (b!->bM->b∉fs->fq->a4 g9 b)
 slot:bP o (b!->bM->b∈fs->fq->∃sl,bY g9 {o with slots:=sl})
 free:bP o (b!->bM->fq->a? (H' b))
 there:bP o (b!->fq->∃o',bY g9 o')
 pE:bP xs (bY H e!->bY H' e!)
 oa:∀b o u,bY H fj->bY H' fj
 o5:bP ps (bY H (.v9 ps)->∃more,bY H' (.v9 (ps++more)))
def z:={
HN.1(h:ai)(H:Hp):ap:=(List.range jK).filter λ a=>(H a).isSome
rL.1(h:ai)(H:Hp):ai:=PySem.W.hideAll h fy
awD(h:ai)(H:Hp):(fg).objs.size=jK:=PySem.W.hideAll_size _ _
aGk{h:ai}{H:Hp}{b:Z}{o:Obj}(e:b!)(n:bM):a4 (fg).get? b:=PySem.W.hideAll_get _ e λ hm=>by have q:ab (H b).isSome:=(gj hm).2;rw[n]at q;simp at q
ahK{h:ai}{H:Hp}{b:Z}{o:Obj}(e:a4 (fg).get? b):b!/\bM:=by have e':b!:=PySem.W.of_hideAll fy e;refine #[e',?_];cases q:H b with|aj=>rfl|bQ x=>have hm:b∈fy:=List.mem_filter.mpr #[List.mem_range.mpr (Heap.lt_size e'),e7 q];have z:a? ((fg).get? b):=PySem.W.hideAll_none fy hm;rw[z]at e;cases e
}
structure Mod(K:ag)(mg:aP)(bd:ai):Prop where
 ya:gE
 glob:f1
 blt:∃mb,base.Ns builtinsNs mb/\i_ x x mb
 nolimit:base.NoLimit
def z:={
nY.1(l:cP):ap:=l.filterMap (·.frame)
XK.2:=ah->de->Hp->Prop
VK.2:=bF V Hp
aC.1(K:ag)(H:Hp)(a:Z)(xs:aI):Prop:=iC gN n (i4/\iZ (o.cls=eu) (o.dict=aj) dO cz)
aJ.1(K:ag)(H:Hp)(a:Z)(xs:aI):Prop:=iC e! n iZ i4 (o.cls=fX) dO cz
}
section
variable{H:Hp}{a:Z}{xs:aI}
def z:={
aC.of{K:ag}(h:H a=aa gN):aC K H a xs:=.inl (.inl h)
}
section z
structure dQ(K:ag)(C:Z):Prop where
 pg:ax (PySem.W.plainGet K C) Str.empty
 hd:ab (PySem.W.hasDictIn K C)
 po:ab (PySem.W.plainOver K C)
 sa:dJ "__setattr__"=aa aa (.builtin "object.__setattr__")
def z:={
cf.1(K:ag)(C:Z)(f:av):Prop:=dJ f=aa aj
}
structure mL(K:ag)(C:Z)(m:av)(f:Z):Prop where
 at_:dJ m=aa cK
 fn:eE
 kp:c_
structure bZ(k:ac)(A:Around):Prop where
 hd:A.handled=aj
 dp:A.depth+3*k+5<recursionLimit
 un:A.units+16*k+200<cLine
def z:={
Sp.2:=aI->Hp->bF VK XK
nu.2:=cP->Hp->aZ->XK->bF ah aZ
}
structure wm(P:a8)(w:aE)(K:ag)(mg:aP)(bd:ai)(A:Around)(bm:cP)(s:aZ)(H:Hp):Prop where
 frames:A.frames=aa bm
 mod:Mod K mg bd
 bs:bP o (a4 base.get? b->a4 s.heap.get? b/\bM)
 pL:base.objs.size<=s.heap.objs.size
 mH:s.heap.FunFrames bd bm
 uA:∀b∈nY bm,bM
 aR:dM P w H s.heap
 bare:AllBare s.gens
def z:={
CE.1(bm:cP)(P:a8)(w:aE)(H:Hp)(s:aZ)(Q:VK)(u:ah)(s':aZ):Prop:=∃v H',s'.os=s.os/\i!/\Un (nY bm) [] H H' s.heap ek/\dM P w H' ek/\cw v u/\Q v H'
CR.1(CX:nu)(bm:cP)(P:a8)(w:aE)(H:Hp)(s:aZ)(Q:VK)(E:XK)(r:Result)(s':aZ):Prop:=match r with|.ok (.ret u)=>CE bm P w H s Q u s'|.ok _=>bk|.error e=>CX bm H s E e s'
}
structure d6(P:a8)(w:aE)(K:ag)(mg:aP)(bd:ai)(CX:nu)(k:ac)(f:Z)(fd:em)(ps:cg)(sp:Sp):Prop where
 len:∀vs H Q E,sp vs H Q E->dH g_
 run:∀(A:Around)(bm:cP)(s:aZ)(H:Hp)(b3:Args)(us:ay)(vs:aI)(Q:VK)(E:XK),bZ k A->ce wm K mg bd A bm s H->g' s fd b3 f5->bO vs us->sp vs H Q E->codeAny jl A (.call b8 b3) (CR CX bm P w H s Q E) s
section
variable{f C:Z}
structure Mk(K:ag)(C f:Z):Prop where
 makes:iD
 b4:il=aa cK
 fn:eE
 kp:iM bn C
section z
section _L
namespace _L
open aQ bR bi
variable{x bT:av}{f:Z}{st:I}{fd:em}
def z:={
inClass.1(s:I)(j:ac):I:=match s with|.ClassDef _ _ _ body _ _ _ _ _ _ _=>body.getD j gr|_=>.Pass #[0,0,0,0]
jA.1(s:I):Arguments:=gg (gq _ a _ _ _ _ _ _) a {posonlyargs:=[],b3:=[],vararg:=aj,kwonlyargs:=[],kw_defaults:=[],kwarg:=aj,defaults:=[]}
cq.1(s:I):gB:=gg (gq _ _ b _ _ _ _ _) b []
aw.1(s:I):ec:=gg (gq _ _ _ _ _ _ sc _) sc {kind:=.function,names:=[],isGenerator:=false,isCoroutine:=false}
eI.2:nu:=λ _ _ _ _ _ _=>bk
}
structure gh(K:ag)(x bT:av)(st:I)(f:Z)(fd:em):Prop where
 ex:∃(oc:ah)(od:de)(kV doc pm:ah)(an:de)(aK ct:ah)(qE:eS),fd=dZ/\dW f fd qE/\dY
 kp:c_
section
variable{K:ag}
def z:={
LN{oc:ah}{od an:de}{qE:eS}{kV doc pm aK ct:ah}(l:dW f dZ qE)(c:dY)(k:c_):gh K x bT st f dZ:=#[#[oc,od,kV,doc,pm,an,aK,ct,qE,rfl,l,c],k]
}
section z
section _L
namespace _M
open aQ bR bi _L
def z:={
GI.1(mg:aP)(x:av)(n:am):Prop:=∃t,mg x=aa (.aH n t)
}
section _M
namespace _P
open aQ bR bi _L _M
def z:={
J.1(i:ac):I:=jN i gr
aN.2(K:ag)(mg:aP)(x:av)(st:I):Prop:=∃f fd,mg x=aa b8/\gh K x x st f fd
gd.2(K:ag)(C:Z)(x q:av)(st:I):Prop:=d2 (mL K C x f) (gh K x) q
sG.2(K:ag)(C:Z)(q:av)(st:I):Prop:=d2 (Mk K C f) (gh K "__init__") q
}
structure Gs(mg:aP):Prop where
 QI:M "PROPERTIES" 0
 MAPS:M "MAPS" 1
 Xk:M "SEQUENCES" 2
 xj:M "COMBINING" 0
 N':M "GENERAL" 1
 uC:M "CLUSTER" 2
 um:M "CONJUNCT" 3
 agy:M "LINE" 6
 TQ:M "WIDTH" 7
 alr:M "DIRECTION" 8
 Ig:M "BRACKET" 9
 apu:M "SCRIPT" 10
 Us:M "DIGIT" 11
 JN:M "FLAGS" 13
 Ep:M "CANONICAL" 0
 L1:M "COMPATIBILITY" 1
 awC:M "UPPER" 2
 aBA:M "LOWER" 3
 anV:M "TITLE" 4
 Cq:M "FOLD" 5
 SV:M "SIMPLE_FOLD" 6
 abf:M "MIRROR" 7
 Mw:M "PARTNER" 8
 VD:M "PROTOTYPE" 9
 JK:M "EXTENSIONS" 10
 Lu:M "WEIGHTS" 11
 aCJ:M "CONTRACTIONS" 0
 aF1:M "WORDS" 1
 arK:M "WHOLES" 2
 CN:M "CN" 0
 MN:M "MN" 6
 MC:M "MC" 7
 ME:M "ME" 8
 PI:M "PI" 16
 PF:M "PF" 17
 CC:M "CC" 26
 CF:M "CF" 27
 G6:M "LINKER" 1
 BN:M "CONSONANT" 2
 Iu:M "CONJUNCT_EXTEND" 3
 arU:M "AMBIGUOUS" 1
 aww:M "HALF" 2
 U1:M "WIDE" 3
 YR:M "FULL" 4
 aws:M "NEUTRAL" 13
 ath:M "UPPERCASE" 0
 ag4:M "LOWERCASE" 1
 WK:M "CASED" 2
 ajY:M "ID_START" 7
 aAC:M "ID_PART" 8
 aaD:M "IGNORABLE" 11
 z6:M "PICTOGRAPHIC" 12
 ayF:M "MIRRORED" 13
 Vg:M "NEVER_COMPOSED" 15
 atU:M "SPARE" 16
 aki:M "LAST_SCALAR" 1114111
 Z2:M "FIRST_SURROGATE" 55296
 Xw:M "LAST_SURROGATE" 57343
 Zh:M "FIRST_LEADING" 4352
 ak8:M "LAST_LEADING" 4370
 Vd:M "FIRST_VOWEL" 4449
 aGn:M "LAST_VOWEL" 4469
 abK:M "BEFORE_TRAILING" 4519
 aLb:M "LAST_TRAILING" 4546
 MF:M "FIRST_SYLLABLE" 44032
 aJ5:M "LAST_SYLLABLE" 55203
 KI:M "SYLLABLES_OF_VOWEL" 28
 acC:M "SYLLABLES_OF_LEADING" 588
 alv:M "PROPERTY_COUNT" 14
 awn:M "MAP_COUNT" 15
 aAX:M "SEQUENCE_COUNT" 3
 PN:M "STEPS_MOST" 8
 T1:M "SCALARS_MOST" 18
 XX:M "XX" 0
 AI:M "AI" 1
 AK:M "AK" 2
 AL:M "AL" 3
 AP:M "AP" 4
 AS:M "AS" 5
 B2:M "B2" 6
 BA:M "BA" 7
 BB:M "BB" 8
 BK:M "BK" 9
 CB:M "CB" 10
 CJ:M "CJ" 11
 CL:M "CL" 12
 CM:M "CM" 13
 CP:M "CP" 14
 rG:M "CR_classes" 15
 EB:M "EB" 16
 EM:M "EM" 17
 EX:M "EX" 18
 GL:M "GL" 19
 H2:M "H2" 20
 H3:M "H3" 21
 HL:M "HL" 22
 HY:M "HY" 23
 ID:M "ID" 24
 IN:M "IN" 25
 IS:M "IS" 26
 JL:M "JL" 27
 JT:M "JT" 28
 JV:M "JV" 29
 qD:M "LF_classes" 30
 NL:M "NL" 31
 NS:M "NS" 32
 NU:M "NU" 33
 OP:M "OP" 34
 PO:M "PO" 35
 PR:M "PR" 36
 QU:M "QU" 37
 WW:M "RI_classes" 38
 SA:M "SA" 39
 SG:M "SG" 40
 SP:M "SP" 41
 SY:M "SY" 42
 VF:M "VF" 43
 VI:M "VI" 44
 WJ:M "WJ" 45
 ZW:M "ZW" 46
 Fd:M "ZWJ_classes" 47
 jm:M "NONE" 0
 yk:M "CHANCE" 1
 zk:M "MUST" 2
 aAu:M "RING" 9676
 aGe:M "SOFT" 8208
 Il:M "NOTHING" (-1)
 aAT:M "UNKNOWN_COST" 65536
 PQ:M "NO_PIECE" (-1)
 sC:M "SILENT" (-1)
 Je:M "CR_clusters" 1
 MG:M "LF_clusters" 2
 acV:M "CONTROL" 3
 ads:M "EXTEND_clusters" 4
 QW:M "ZWJ_clusters" 5
 Ol:M "RI_clusters" 6
 aL0:M "PREPEND" 7
 auJ:M "SPACING_MARK_clusters" 8
 L:M "L" 9
 V:M "V" 10
 T:M "T" 11
 LV:M "LV" 12
 LA:M "LVT" 13
 TAB:M "TAB" 9
 G7:M "NOWHERE" (-1)
 aDF:M "UNNAMED_SCRIPTS" 3
 PY:M "OTHER" 0
 G4:M "EXTEND_rules_31_to_41" 4
 aiH:M "ZWJ_rules_31_to_41" 5
 aIF:M "SPACING_MARK_rules_31_to_41" 8
 OI:M "VOWEL" 10
 Ld:M "VARIABLE" 31
 anM:M "SCRIPTS_END" 256
 aoh:M "NUMBERS_END" 65536
 aBZ:M "WALKED_MOST" 4096
 aul:M "NAMES_MOST" 64
 TJ:M "BREAK_ALL" 2
 Ra:M "KEEP_ALL" 3
 ayR:M "WORDS_ASKED" 4
 aEn:M "EASTERN" 5
 ajq:M "SPLIT" 6
 atz:M "STRICT" 0
 aaC:M "LOOSE" 2
 S1:M "KNOWN_BITS" 16255
 Lo:M "TOO_MUCH" (-6)
 abP:M "BROKEN" (-5)
 ad2:M "WRONG" (-1)
 av0:M "BOOK_MOST" 8192
 VM:M "TEXT_MOST" 64
 aDA:M "COLUMNS_MOST" 65535
 LW:M "BOOK_CALL" 1
 Oj:M "CHANCES_CALL" 2
 JJ:M "WIDTH_CALL" 3
 ZU:M "FILL_CALL" 4
 asR:M "RAGGED_CALL" 5
 W7:M "MEASURE_CALL" 6
 xu:a? (mg "all")
 zf:a? (mg "any")
 ad6:a? (mg "dict")
 cb:a? (mg "len")
 agR:a? (mg "list")
 La:a? (mg "max")
 ia:a? (mg "range")
 arD:a? (mg "sum")
 z_:a? (mg "tuple")
def z:={
UI.2:I:=J 1
Z0.2:I:=J 71
EL.2:I:=J 72
ae3.2:I:=J 73
aat.2:I:=J 74
Tx.2:I:=J 75
RB.2:I:=J 76
QZ.2:I:=J 77
RY.2:I:=J 78
ada.2:I:=J 79
Ip.2:I:=J 86
E6.2:I:=J 87
ER.2:I:=J 88
yE.2:I:=J 89
yd.2:I:=aV 0
Qz.2:I:=aV 1
aeD.2:I:=aV 2
UP.2:I:=aV 3
oJ.2:I:=aV 4
VN.2:I:=aV 5
abm.2:I:=aV 6
X6.2:I:=aV 7
YT.2:I:=aV 8
VB.2:I:=aV 9
ac3.2:I:=aV 10
T4.2:I:=aV 11
Ih.2:I:=aV 12
TL.2:I:=aV 13
adl.2:I:=aV 14
V9.2:I:=aV 15
acX.2:I:=J 140
Yv.2:I:=J 141
Ux.2:I:=J 142
QR.2:I:=J 143
EC.2:I:=J 148
adR.2:I:=J 149
Eu.2:I:=J 150
abH.2:I:=bz (J 155) 0
abD.2:I:=J 156
Vs.2:I:=J 157
Q_.2:I:=J 158
QE.2:I:=J 159
En.2:I:=J 160
X_.2:I:=J 164
aaf.2:I:=J 165
RU.2:I:=J 166
Zg.2:I:=J 167
QF.2:I:=J 168
aag.2:I:=J 171
YM.2:I:=J 172
Yb.2:I:=J 173
U3.2:I:=J 174
SI.2:I:=J 175
ZK.2:I:=bz (J 176) 0
Qe.2:I:=J 177
Rv.2:I:=J 178
acR.2:I:=J 179
Tu.2:I:=J 180
Th.2:I:=J 181
aeb.2:I:=J 182
US.2:I:=J 183
aeH.2:I:=J 184
abz.2:I:=J 185
Wn.2:I:=J 186
Sq.2:I:=J 187
Z'.2:I:=J 188
QY.2:I:=J 189
Wq.2:I:=J 190
V_.2:I:=J 191
aep.2:I:=J 192
Y7.2:I:=J 193
ae2.2:I:=J 194
aci.2:I:=J 195
adO.2:I:=J 196
ZN.2:I:=J 197
Vn.2:I:=J 198
WX.2:I:=J 199
Xt.2:I:=J 200
acI.2:I:=J 201
R7.2:I:=J 202
aec.2:I:=J 203
Yy.2:I:=J 204
UA.2:I:=J 205
VA.2:I:=J 206
Tj.2:I:=J 207
afF.2:I:=J 208
T3.2:I:=J 209
Zs.2:I:=J 210
ae9.2:I:=J 212
DZ.2:I:=J 213
abh.2:I:=J 228
Ve.2:I:=J 229
afD.2:I:=J 230
qR.2:I:=bz (J 231) 0
abV.2:I:=J 232
X1.2:I:=J 233
aeG.2:I:=J 234
Rj.2:I:=J 235
XI.2:I:=J 236
EO.2:I:=J 237
We.2:I:=J 240
wN.2:I:=bz (J 241) 0
Ui.2:I:=J 242
Uk.2:I:=J 243
Zk.2:I:=J 244
Ht.2:I:=J 247
aa1.2:I:=J 248
adS.2:I:=J 249
ZD.2:I:=J 252
O1.2:I:=J 253
Nz.2:I:=J 254
ad3.2:I:=J 255
Mu.2:I:=J 256
Yw.2:I:=J 257
aeK.2:I:=J 258
SM.2:I:=J 259
Wu.2:I:=J 260
W'.2:I:=J 261
aaE.2:I:=J 262
acb.2:I:=J 263
Y9.2:I:=J 264
aeI.2:I:=J 265
SE.2:I:=J 266
KJ.2:I:=J 267
Uo.2:I:=J 268
adQ.2:I:=J 269
PD.2:I:=J 270
Yr.2:I:=J 271
Fq.2:I:=J 272
GZ.2:I:=J 280
ZG.2:I:=J 281
Wp.2:I:=J 282
Uv.2:I:=J 283
aeW.2:I:=J 284
adB.2:I:=J 285
abw.2:I:=J 286
V8.2:I:=J 287
Xx.2:I:=J 288
TY.2:I:=J 289
Uz.2:I:=J 290
XM.2:I:=J 291
ae6.2:I:=J 292
adD.2:I:=J 293
Jp.2:I:=J 294
YB.2:I:=J 295
RW.2:I:=J 296
W6.2:I:=J 297
Xo.2:I:=J 298
VY.2:I:=J 299
Yp.2:I:=J 300
N7.2:I:=J 301
NP.2:I:=J 302
Fb.2:I:=J 303
X0.2:I:=J 305
WY.2:I:=J 307
Rb.2:I:=J 308
aaF.2:I:=J 309
XG.2:I:=J 310
ZI.2:I:=J 322
abX.2:I:=J 323
abT.2:I:=J 324
aaG.2:I:=J 325
WS.2:I:=J 326
YI.2:I:=J 327
Y1.2:I:=J 328
afc.2:I:=J 329
adz.2:I:=J 330
WU.2:I:=J 331
abU.2:I:=J 332
T8.2:I:=J 333
Qh.2:I:=J 334
YA.2:I:=J 335
Em.2:I:=J 336
ac0.2:I:=J 337
UW.2:I:=J 338
Zu.2:I:=J 339
adK.2:I:=J 340
Xi.2:I:=J 341
Xn.2:I:=J 351
Xh.2:I:=bz (J 352) 0
Qu.2:I:=J 360
XR.2:I:=J 361
XD.2:I:=cc 0
Kp.2:I:=cc 1
YF.2:I:=cc 2
adh.2:I:=cc 3
UB.2:I:=cc 4
acU.2:I:=cc 5
Ua.2:I:=cc 6
Vq.2:I:=cc 7
Vi.2:I:=bz e? 0
adE.2:I:=bz e? 1
ab5.2:I:=bz e? 2
ac9.2:I:=bz e? 3
Qb.2:I:=J 372
XW.2:I:=J 373
JI.2:I:=J 374
P2.2:I:=J 375
}
structure aLn(K:ag)(C:Z):Prop where
 cl:cj
 wQ:ae "parts"
 Lw:ae "map_rows"
 MW:ae "sequence_rows"
 Uh:ae "name_count"
 RF:ae "composing"
 BY:ae "known_by_k"
 b4:cm "Book.__init__" yd
 JF:az "records" "Book.records" Qz
 avh:az "value" "Book.value" aeD
 akm:az "has_flag" "Book.has_flag" UP
 azh:az "in_order" "Book.in_order" oJ
 ahQ:az "row" "Book.row" VN
 aKJ:az "has_row" "Book.has_row" abm
 apq:az "number_of" "Book.number_of" X6
 aDa:az "canonical_step" "Book.canonical_step" YT
 aLp:az "taken_apart" "Book.taken_apart" VB
 aJK:az "k_step" "Book.k_step" ac3
 aw6:az "stepped_by_k" "Book.stepped_by_k" T4
 alG:az "has_k_step" "Book.has_k_step" Ih
 aLU:az "find_by_k" "Book.find_by_k" TL
 axr:az "by_k" "Book.by_k" adl
 aDO:az "composing_counts" "Book.composing_counts" V9
structure aAU(K:ag)(C:Z):Prop where
 cl:cj
 L6:ae "kind"
 acF:ae "begin"
 Kn:ae "end"
 Kj:ae "joined"
 D_:ae "spaceless"
 PZ:ae "east"
 MY:ae "initial"
 K5:ae "final"
 O9:ae "ring"
 M0:ae "soft"
 KE:ae "unassigned"
 b4:cm "Unit.__init__" abH
structure aKt(K:ag)(C:Z):Prop where
 cl:cj
 Sl:ae "units"
 Zy:ae "place"
 abO:ae "is_cut"
 abl:ae "xx"
 WQ:ae "x"
 Rh:ae "y"
 RG:ae "yy"
 To:ae "yyy"
 XA:ae "z"
 Si:ae "zz"
 b4:cm "Place.__init__" ZK
structure aq6(K:ag)(C:Z):Prop where
 cl:cj
 Nj:ae "kinds"
 VZ:ae "conjuncts"
 abW:ae "pictures"
 b4:cm "Signs.__init__" qR
structure ayy(K:ag)(C:Z):Prop where
 cl:cj
 xM:ae "book"
 adt:ae "text"
 vE:ae "tab"
 HI:ae "signs"
 XB:ae "widths"
 V':ae "alone"
 b4:cm "Sheet.__init__" wN
structure awQ(K:ag)(C:Z):Prop where
 cl:cj
 Tp:ae "strict"
 Xs:ae "loose"
 Km:ae "break_all"
 aa0:ae "keep_all"
 WL:ae "by_words"
 OJ:ae "eastern"
 Wj:ae "splits"
 vE:ae "tab"
 b4:cm "Ways.__init__" Xh
structure aHx(K:ag)(C:Z):Prop where
 cl:cj
 xM:ae "book"
 b4:cm "Desk.__init__" XD
 aHm:az "hand_over" "Desk.hand_over" Kp
 atM:az "sheet_of" "Desk.sheet_of" YF
 asW:az "chances" "Desk.chances" adh
 aJe:az "width" "Desk.width" UB
 ahD:az "fill" "Desk.fill" acU
 aBP:az "ragged" "Desk.ragged" Ua
 azR:az "measure" "Desk.measure" Vq
structure ajr(K:ag)(C:Z):Prop where
 cl:cj
 abb:ae "numbers"
 Ik:ae "at"
 b4:cm "Reader.__init__" Vi
 auk:az "is_done" "Reader.is_done" adE
 ap5:az "take_number" "Reader.take_number" ab5
 aoM:az "take_row" "Reader.take_row" ac9
structure Cs where
 Book:Z
 Unit:Z
 Place:Z
 kR:Z
 yp:Z
 Ways:Z
 jS:Z
 Reader:Z
structure Fs(K:ag)(mg:aP)(c:Cs):Prop where
 g:Gs mg
 ayH:O "has_bit" UI
 axo:O "is_scalar" Z0
 ay2:O "all_scalars" EL
 ajj:O "is_leading" ae3
 an4:O "is_vowel" aat
 aFi:O "is_trailing" Tx
 asi:O "is_syllable" RB
 az5:O "is_lv_syllable" QZ
 aH3:O "is_hangul" RY
 alo:O "syllable_step" ada
 aFd:O "range_records" Ip
 aHd:O "map_records" E6
 agv:O "sequence_records" ER
 lookup:O "lookup" yE
 ayx:O "first_class" acX
 aFf:O "resolved_class" Yv
 arE:O "line_class" Ux
 ajg:O "stands_alone" QR
 alS:O "are_marks" EC
 aha:O "first_must" adR
 asa:O "chances_behind" Eu
 avy:O "no_unit" abD
 av1:O "is_east" Vs
 atR:O "make_unit" Q_
 amL:O "unit_end" QE
 atZ:O "units_of" En
 aph:O "in_row" X_
 aFh:O "piece_cost" aaf
 aMl:O "least_pieces" RU
 avM:O "row_cuts" Zg
 asA:O "word_cuts" QF
 ayW:O "is_letter" aag
 aIn:O "is_ideograph" YM
 avR:O "is_korean" Yb
 akn:O "unit_at" U3
 awL:O "last_no_space" SI
 amX:O "none_if" Qe
 aCT:O "rule_1" Rv
 axR:O "rule_2" acR
 aLZ:O "rule_3" Tu
 asL:O "rule_4" Th
 al7:O "rule_5" aeb
 aoE:O "rule_6" US
 aJf:O "rule_7" aeH
 ayE:O "rule_8" abz
 aLO:O "rule_9" Wn
 amY:O "rule_10" Sq
 aGx:O "rule_11" Z'
 avT:O "rule_12" QY
 aqt:O "rule_13" Wq
 avj:O "rule_14" V_
 aiX:O "rule_15" aep
 ar1:O "rule_16" Y7
 akb:O "rule_17" ae2
 af8:O "rule_18" aci
 aCW:O "rule_19" adO
 aFc:O "rule_20" ZN
 axj:O "digits_before" Vn
 aGE:O "digits_end" WX
 avx:O "rule_21" Xt
 aIN:O "syllable_goes_on" acI
 af5:O "rule_22" R7
 afS:O "rule_23" aec
 aCt:O "is_kernel" Yy
 azv:O "rule_24" UA
 ayf:O "rule_25" VA
 azL:O "rule_26" Tj
 ahn:O "indicators_up_to" afF
 aoX:O "rule_27" T3
 ajO:O "rule_28" Zs
 verdict:O "verdict" ae9
 aI8:O "marks_of" DZ
 ama:O "cluster_class" abh
 aHG:O "conjunct_class" Ve
 azk:O "is_pictographic" afD
 aEz:O "syllable_joins" abV
 asv:O "conjunct_joins" X1
 aGz:O "picture_joins" aeG
 ars:O "indicator_joins" Rj
 ane:O "is_joined" XI
 aqs:O "cluster_ends" EO
 aih:O "scalar_width" We
 ajN:O "cluster_width" Ui
 aMm:O "row_width" Uk
 aJp:O "line_measure" Zk
 aqW:O "farthest_fit" Ht
 ake:O "line_end" aa1
 aCq:O "filled_lines" adS
 aHg:O "firsts_end" ZD
 ap0:O "canonical_steps_end" O1
 aEP:O "canonical_row_without_hangul" Nz
 aAa:O "scalar_is_no_hangul" ad3
 ave:O "range_without_hangul" Mu
 amU:O "taken_apart_in_order" Yw
 auu:O "has_no_canonical_row" aeK
 aJT:O "ends_by_k" SM
 afT:O "composes_alone" Wu
 agG:O "folded_stays" W'
 aln:O "simply_folded_stays" aaE
 ajw:O "goes_both_ways" acb
 aHk:O "mirror_holds" Y9
 aEf:O "partner_holds" aeI
 agc:O "brackets_have_partners" SE
 akC:O "digits_stand_in_tens" KJ
 ayQ:O "script_count" Uo
 akf:O "script_is_named" adQ
 aCa:O "scripts_are_named" PD
 aB0:O "prototype_stays" Yr
 ajp:O "clauses_20_to_30" Fq
 ayg:O "scalars_of" GZ
 akU:O "flags_agree" ZG
 avF:O "combining_extends" Wp
 aIG:O "as_the_first" Uv
 ajJ:O "conjuncts_follow" aeW
 ayw:O "second_follows" adB
 afI:O "canonical_row_stays_cluster" abw
 aIt:O "first_weight" V8
 aCQ:O "second_weight" Xx
 aiz:O "third_weight" TY
 aun:O "is_first_weight_alone" Uz
 aBM:O "weights_fit" XM
 at1:O "variable_fits" ae6
 aHL:O "weights_hold" adD
 agY:O "contraction_holds" Jp
 aI1:O "weighed_has_no_step" YB
 aJC:O "scalar_is_cased" RW
 awE:O "letter_case_is_cased" W6
 aH6:O "scalar_has_no_class" Xo
 axw:O "folded_by_k" VY
 ahY:O "folding_settles" Yp
 aAn:O "conjuncts_hold" N7
 agU:O "pictures_hold" NP
 azE:O "clauses_31_to_41" Fb
 aA4:O "broken_clause" X0
 asf:O "line_badness" WY
 aBd:O "summed" Rb
 apj:O "least_ends" aaF
 axx:O "ragged_lines" XG
 aCL:O "touch" ZI
 axE:O "range_rule" abX
 atV:O "broken_range" abT
 arF:O "rises" aaG
 aKw:O "row_fits" WS
 apk:O "map_rule" YI
 arO:O "map_end" Y1
 anQ:O "key_at" afc
 av4:O "comes_to_rule" adz
 aoo:O "sequence_rule" WU
 aKH:O "sequence_end" abU
 apF:O "broken_among" T8
 aiY:O "is_capital" Qh
 ahN:O "is_small" YA
 amd:O "is_name" Em
 aC3:O "name_fits" ac0
 akK:O "broken_name" UW
 aHW:O "is_walked" Zu
 aKN:O "broken_walk" adK
 aGi:O "broken_record" Xi
 atu:O "is_ways" Xn
 refusal:O "refusal" Qu
 arw:O "lines_refusal" XR
 aC1:O "text_answer" Qb
 aqH:O "lines_answer" XW
 ay9:O "answer_of" JI
 answers:O "answers" P2
 Book:bA (mg "Book") c.Book
 bj:aLn K c.Book
 Unit:bA (mg "Unit") c.Unit
 du:aAU K c.Unit
 Place:bA (mg "Place") c.Place
 eC:aKt K c.Place
 kR:bA (mg "Signs") c.kR
 lV:aq6 K c.kR
 yp:bA (mg "Sheet") c.yp
 fB:ayy K c.yp
 Ways:bA (mg "Ways") c.Ways
 eU:awQ K c.Ways
 jS:bA (mg "Desk") c.jS
 gu:aHx K c.jS
 Reader:bA (mg "Reader") c.Reader
 fR:ajr K c.Reader
section _P
namespace _P
open aQ bR bi _L _M
def z:={
vN.2(n:ac):V:=.aH n
}
section _P
namespace _P
open aQ bR bi _L _M
variable{K:ag}{mg:aP}
variable{x:av}
def z:={
BZ.1:cg:=aU (["rule_1","rule_2","rule_3","rule_4","rule_5","rule_6","rule_7","rule_8","rule_9","rule_10","rule_11","rule_12","rule_13","rule_14","rule_15","rule_16","rule_17","rule_18","rule_19","rule_20","rule_21","rule_22","rule_23","rule_24","rule_25","rule_26","rule_27","rule_28"]:h5) Str.ofString
sY.1(K:ag)(mg:aP)(x:av)(l:aD):Prop:=∃a,mg x=aa fh/\∀H,bG a (cv vN)
}
structure Ts(K:ag)(mg:aP):Prop where
 rules:h7 fs mg BZ
 aa6:dl "VALUE_MOST" [254,28,13,3,18,14,47,5,22,2,255,10,8191,1048575]
 Xj:dl "ROW_MOST" [2,18,3,3,3,3,1,1,1,18,32,18,1,1,1]
 aIq:dl "KEY_LEAST" [2,1,2]
 Y':dl "KEY_MOST" [18,32,32]
 apR:dl "COMES_TO_MOST" [18,1,1]
 abe:∃a t0 t1 t2,ii mg t0 t2
section _P
namespace _P
open aQ bR bi _L _M
variable{K:ag}
variable{H H':Hp}{α:Type}{a:Z}{l:ao α}{x:ac×Mt.Row}
def z:={
zs.2(l:aD):aB:=cv λ x:ac=>(x:am)
EU.1(K:ag):Sp:=λ vs H Q _=>eA nl aD (vs=[fh]/\aC K H a (nl.map vN)/\ab (PyYqmtfa.answers_asked (zs nl))/\∀(H':Hp)(p:Z),H' p=aa (.lst ((PyYqmtfa.answers (zs nl)).map V.int))->Q fe H')
}
section _P
section
set_option maxHeartbeats 2000000
namespace _L
open aQ bR bi
open cY(bw en g! Well eo ReadsW ReadsAllW)
variable{ds:bB}{a b:Z}{ps loose:cg}{vs us:ay}{CX:nu}{r:g!}{YP:bF aE ai}{q:a8}{XP:(av->be ah)->ai->Prop}{xs:aI}{u:HO}
mutual inductive Dw(K:ag)(H:Hp):bF V bw
 |cB:Dw K H .cB bH
 |bl(b:aO):Dw K H (.bl b) (.c4 b)
 |aH(i:am):Dw K H (.aH i) (.aH i)
 |str(x:av):Dw K H (.str x) (.str x)
 |jg(b:ei UInt8):Dw K H (.jg b) (.cA b.toList)
 |lst{a:Z}{xs:aI}{ds:bB}:aC K H a xs->bD xs ds->Dw K H fh (.list ds)
 |tup{a:Z}{xs:aI}{ds:bB}:bG a xs->bD xs ds->Dw K H fh (.er ds)inductive lS(K:ag)(H:Hp):aI->bB->Prop
 |nil:bD [] []
 |aY{v:V}{vs:aI}{d:bw}{ds:bB}:Dw K H v d->bD vs ds->bD (v::vs) (d::ds)end
def z:={
W5{K:ag}{H:Hp}:∀ns:aB,bD jh i9|[]=>a6|n::r=>aW (.aH n) (W5 r)
VC{K:ag}{H:Hp}:∀(ns:aB)(xs:aI),bD xs i9->xs=jh|[],xs,h=>by cases h;rfl|n::r,xs,h=>by cases h with|aY h1 h2=>cases h1;rw[VC r _ h2]<;>rfl
}
section
variable{P:a8}{w:aE}{K:ag}{H:Hp}{h:ai}{R:jO}{cl:av->be Z}
def z:={
aG3(aR:d_)(KX:bc)(q:aC K H a xs):iI o n eu:=by rcases q with q|⟨o,aF,n,e,hc,_,hd,_,hv⟩;(.obtain⟨_,aF,n,hv,e⟩:=(show eW a gN from q.ok aR);exact #[aF,_,n,hv,e,rfl,rfl]);.exact #[cz,o,n,hv,KX _ _ e,hc,e7 hd]
au9(aR:d_)(KX:bc)(q:bG a xs):iI o n fX:=by rcases q with q|⟨o,aF,n,e,hc,hd,_,hv⟩;(.obtain⟨_,aF,hv,o,e,hc,n,hd⟩:=(show eW a e! from q.ok aR);exact #[aF,o,n,hv,e,hc,hd]);.exact #[cz,o,n,hv,KX _ _ e,hc,e7 hd]
}
mutual theorem g?(aR:d_)(KX:bc):∀(d:bw)(v:V)(u:ah),Dw K H v d->cw v u->∃as,ReadsW R cl h u d as|bH,_,_,x,r=>by cases x;cases r;exact #[_,ReadsW.none]|e9,_,_,x,r=>by cases x;cases r;exact #[_,ReadsW.bool b]|dr,_,_,x,r=>by cases x;rw[f7 t r (ReadsW.int i t)]|.str s,_,_,x,r=>by cases x;rw[f7 t r (ReadsW.str s t)]|gJ,_,_,x,r=>by cases x;rw[f7 t r (ReadsW.bytes _ t)]|gL,_,_,x,r=>(by cases x with|lst hs ha=>cases r;obtain⟨aF,o,n,rv,ho,hc,hd⟩:=aG3 aR KX hs;rw[eJ hr gb aF ha rv,#[_,ReadsW.list ho hc hd hr]])|gF,_,_,x,r=>(by cases x with|tup hs ha=>cases r;obtain⟨aF,o,n,rv,ho,hc,hd⟩:=au9 aR KX hs;rw[eJ hr gb aF ha rv,#[_,ReadsW.tuple ho hc hd hr]])|gI,_,_,x,_=>dj|gM,_,_,x,_=>dj|gs,_,_,x,_=>dj|gP,_,_,x,_=>dj|gt,_,_,x,_=>dj|gK,_,_,x,_=>dj theorem jQ(aR:d_)(KX:bc):∀(ds:bB)(vs:aI)(us:ay),bD vs ds->bO vs us->∃as,ReadsAllW R cl h us ds as|[],_,_,x,r=>by cases x;cases r;exact #[_,ReadsAllW.nil]|d::ds,_,_,x,r=>by cases x with|aY h1 h2=>cases r with|aY r1 r2=>rw[eJ q1 (g? aR KX d _ _ h1 r1)];obtain⟨bs,q2⟩:=gb _ h2 r2;exact #[_,ReadsAllW.cons q1 q2]end
section z
mutual noncomputable def lB:bw->aO|bH=>ad|.c4 _=>ad|.aH _=>ad|.str _=>ad|.cA _=>ad|.list xs=>nH xs|.er xs=>nH xs|_=>false noncomputable def nH:cS bB|[]=>ad|x::r=>lB x&&nH r end
def z:={
abg{α:Type}{f:α->bw}(h:∀a,ab (lB (f a))):∀l:ao α,ab (nH (cv f))|[]=>rfl|x::r=>by show ab (lB (f x)&&nH (r.map f));rw[h x,abg h r]<;>rfl
ub:∀(c:en)(a:c.denote),ab (lB (c.enc a))|.unit,_=>rfl|.c4,_=>rfl|.aH _ _,_=>rfl|.nat _ _,_=>rfl|.u8,_=>rfl|.cA _ _,_=>rfl|.text _ _ _ _,_=>rfl|.list _ _ c,a=>abg cU (ub c x) a|.pair c d,a=>by show ab (lB (c.enc a.1)&&dn (lB (d.enc a.2)));rw[ub c a.1,ub d a.2]<;>rfl|.triple c d e,a=>by show ab (lB (c.enc a.1)&&(lB (d.enc a.2.1)&&dn (lB (e.enc a.2.2))));rw[ub c a.1,ub d a.2.1,ub e a.2.2]<;>rfl|.option c,aj=>rfl|.option c,aa x=>ub c x
Rx:∀(cs:ao en)(a:d1 cs),ax nH d3 cs|[],_=>rfl|c::cs,a=>by show ab (lB (c.enc a.1)&&nH fZ cs a.2);rw[ub c a.1,Rx cs a.2]<;>rfl
Oi:∀{xs:bB}{d:bw},d∈xs->hh<=eM xs|[],d,h=>c7 h|x::r,d,h=>by show hh<=x.weight+1+eM r;rw[d8 (ee h) e];(.rw[e];exact aIe);.have z:=Oi m;exact Nat.le_add_left_of_le z
toV.1:ah->V|bH=>.cB|e9=>.bl b|.aH i _=>dr|.str x _=>gQ|.cA b _=>.jg b|dq=>dq|_=>.cB
l_.1(A:ap):ah->Prop|bH=>ak|.c4 _=>ak|.aH _ _=>ak|.str _ _=>ak|.cA _ _=>ak|dq=>a∈A|_=>bk
l_.mono{A B:ap}(h:c5 a (a∈B)):∀{u:ah},l_ A u->l_ B u:=λ{u}x=>by cases u with|ref a=>exact h a x|aj=>trivial|c4 b=>trivial|aH i t=>trivial|str s t=>trivial|cA b t=>trivial|_=>exact d9
aF0{A:ap}{u:ah}(x:l_ A u):cw (toV u) u:=by cases u with|ref a=>rfl|aj=>rfl|c4 b=>rfl|aH i t=>exact #[t,rfl]|str s t=>exact #[t,rfl]|cA b t=>exact #[t,rfl]|_=>exact d9
yw{A:ap}:∀{vs:ay},c9->bO (dB toV) vs|[],_=>a6|u::r,h=>aW (aF0 (h u dX)) (yw λ x hx=>h x dS hx)
nB.1(h:ai)(A:ap)(a:Z):Prop:=∃vs:ay,iu (dA a=aa bV\/bI bU)
nB.mono{h:ai}{A B:ap}(k:c5 a (a∈B))(x:nB h A a):nB h B a:=by obtain⟨vs,h1,h2,h3⟩:=x;exact #[vs,h1,λ u hu=>cn (h2 u hu) k,h3]
HX{P:b5}{h:ai}{vs:ay}{ds:bB}(w:d4):g_=ds.length:=by cases w with|nil=>rfl|aY _ b=>show _+1=_+1;rw[HX b]
RN{P:b5}{h:ai}{v:ah}(x:eV v (.list ds)):eA vs ay (v=dq/\bI bV/\d4):=io list ho ho
aez{P:b5}{h:ai}{v:ah}(x:eV v (.er ds)):eA vs ay (v=dq/\bI bU/\d4):=io er ho ho
acy{P:b5}{h:ai}{d:bw}(x:eo P h us (d::ds)):∃(v:ah)(vs:ay),us=v::vs/\eV v d/\d4:=by cases x with|aY a b=>exact #[_,_,rfl,a,b]
adf{n:ac}(h:n<=1048576):c8 n:=gm h
}
section
variable{P:b5}{h:ai}
mutual theorem aik:∀(d:bw)(v:ah),eV v d->ax lB d->eK->∃A:ap,l_ A v/\bW|bH,_,x,_,_=>by cases x;exact dP []|e9,_,x,_,_=>by cases x;exact dP []|dr,_,x,_,_=>by cases x;exact dP []|.str s,_,x,_,_=>by cases x;exact dP []|gJ,_,x,_,_=>by cases x;exact dP []|gL,_,x,p,z=>by rw[f2 a b_ RN];have z2:eM ds<=1048576:=z;obtain⟨A,h1,h2⟩:=FC ds _ b_ p λ d hd=>f3 Oi hd z2;have k:c5 b (b∈a::A):=ci b dS hb;rw[<-#[a::A,dX,ci b ?_],d8 (ee hb) e];(.rw[e];exact #[vs,adf (by rw[HX b_];exact ie ds),λ u hu=>cn (h1 u hu) k,.inl ho]);.exact cn (h2 b m) k|gF,_,x,p,z=>by rw[f2 a b_ aez];have z2:eM ds<=1048576:=z;obtain⟨A,h1,h2⟩:=FC ds _ b_ p λ d hd=>f3 Oi hd z2;have k:c5 b (b∈a::A):=ci b dS hb;rw[<-#[a::A,dX,ci b ?_],d8 (ee hb) e];(.rw[e];exact #[vs,adf (by rw[HX b_];exact ie ds),λ u hu=>cn (h1 u hu) k,.inr ho]);.exact cn (h2 b m) k|gI,_,_,p,_=>bo|gM,_,_,p,_=>bo|gs,_,_,p,_=>bo|gP,_,_,p,_=>bo|gt,_,_,p,_=>bo|gK,_,_,p,_=>bo theorem FC:∀(ds:bB)(vs:ay),d4->eB->(∀d∈ds,eK)->∃A:ap,c9/\bW|[],_,x,_,_=>by cases x;exact #[[],λ u m=>c7 m,λ a m=>c7 m]|d::ds,_,x,p,z=>by rw[ip p];obtain⟨A,a1,a2⟩:=aik d v x1 q.1 (z d dX);obtain⟨B,b1,b2⟩:=FC ds vs x2 q.2 λ e he=>z e dS he;have kA:c5 b (b∈A++B):=ci b iQ (.inl hb);have kB:∀b∈B,b∈A++B:=ci b iQ ft hb;refine #[A++B,λ u hu=>?_,ci b ?_];(.rw[d8 i6 hu e];(.rw[e];exact a1.mono kA);.exact cn (b1 u m) kB);.rw[d8 (jy hb) m];(.exact cn (a2 b m) kA);.exact cn (b2 b m) kB end
section z
def z:={
GQ.1(o:Obj):be HO:=match o.data with|.seq vs _=>if ab (o.cls==eN)then iq .iU o lst else iq .iU o tup|_=>aj
iX.1(K:ag)(h:ai)(A:ap):Hp:=λ b=>if b∈A then(if ab (jk).isNone then(gH).bind GQ else aj)else aj
xJ.1(H:Hp):Prop:=∀b,bM\/∃o u,bY H fj
S'(vs:ay):GQ bV=aa (.iU bV (.lst b9 dB)):=by show(if ab (eN==eN)then eD bV lst else eD bV tup)=_;rw[ge eg _]
Tf(vs:ay):GQ bU=aa (.iU bU (.tup b9 dB)):=by show(if ab (g7 "tuple"==eN)then eD bU lst else eD bU tup)=_;rw[fK (by decide)]
}
section
variable{P:a8}{w:aE}{K:ag}{h:ai}{A:ap}
def z:={
Fj{o:Obj}(hb:b∈A)(hk:eO)(e:b!):iX K h A b=GQ o:=by unfold iX;rw[eg hb,hk,eg (show ab (aj:eX).isNone from rfl),e]<;>rfl
ail(q:iX K h A b=aa u):b∈A/\eO:=by unfold iX at q;by_cases hb:b∈A;(.rw[eg hb]at q;cases hk:jk with|aj=>exact #[hb,rfl]|bQ o=>rw[hk,fK (by simp)]at q;cases q);.rw[fK hb]at q;cases q
Hy(ar:bW)(q:iX K h A b=aa u):eO/\∃vs:ay,iu ((gH=aa bV/\u=.iU bV (.lst b9 dB))\/(gH=aa bU/\u=.iU bU (.tup b9 dB))):=by obtain⟨hb,hk⟩:=ail q;obtain⟨vs,h1,h2,h3⟩:=ar b hb;refine #[hk,vs,h1,h2,?_];rcases h3 with e|e;(.rw[Fj hb hk e,S']at q;rw[cN #[e,iE]]);.rw[Fj hb hk e,Tf]at q;rw[bK #[e,iE]]
ayt(ar:bW):xJ (iX K h A):=λ b=>by cases q:iX K h A b with|aj=>rw[cN au]|bQ u=>obtain⟨_,vs,_,_,⟨_,e⟩|⟨_,e⟩⟩:=fv;(.rw[bK #[_,_,by rw[e]]]);.rw[bK #[_,_,by rw[e]]]
aqE(ar:bW):dM P w dk h:=λ b u q=>by obtain⟨_,vs,h1,h2,⟨e,rfl⟩|⟨e,rfl⟩⟩:=fv;(.exact #[e,by rw[iy],vs,_,fA,e]);.exact #[e,by rw[iy],vs,fA,_,e,rfl,_,rfl]
D1{c c':ah}(e:(aa {cls:=c,data:=.seq dC}:eX)=aa {cls:=c',data:=.seq fN}):c=c'/\vs=us:=by have e1:=fM e;have e2:c=c':=cM Obj.cls e1;have e3:fO dC=fO fN:=cM Obj.data e1;injection e3 with e4;refine #[e2,?_];have e5:=cM Array.toList e4;simpa using e5
aHy(KX:bc)(ar:bW)(ha:a∈A)(e:bI bV):c9/\aC K dk a gy:=by obtain⟨us,h1,h2,h3⟩:=ar a ha;(have hu:us=vs:=by rcases h3 with q|q;(.rw[bX e q fE.2.symm]);.rw[bX e q (dy (jU fE.1) (by decide))]);subst hu;refine #[h2,?_];cases hk:cy a with|aj=>rw[cN ft #[_,by rw[Fj ha hk e,S']]]|bQ o=>have e2:=KX a o hk;rw[e]at e2;obtain rfl:=fM e2;rw[bK #[_,fN,_,hk,rfl,rfl,rfl,by rw[iw],by simpa using fA]]
auy(KX:bc)(ar:bW)(ha:a∈A)(e:bI bU):c9/\aJ K dk a gy:=by obtain⟨us,h1,h2,h3⟩:=ar a ha;(have hu:us=vs:=by rcases h3 with q|q;(.rw[bX e q (dy (jU fE.1) (by decide))]);.rw[bX e q fE.2.symm]);subst hu;refine #[h2,?_];cases hk:cy a with|aj=>rw[cN ft #[_,by rw[Fj ha hk e,Tf]]]|bQ o=>have e2:=KX a o hk;rw[e]at e2;obtain rfl:=fM e2;rw[bK #[_,fN,_,hk,rfl,rfl,by rw[iw],by simpa using fA]]
}
mutual theorem aD8{Pm:b5}(KX:bc)(ar:bW):∀(d:bw)(v:ah),Well Pm h v d->ax lB d->l_ A v->Dw K dk (toV v) d|bH,_,x,_,_=>by cases x;exact .cB|e9,_,x,_,_=>by cases x;exact .bl b|dr,_,x,_,_=>by cases x;exact .aH i|.str s,_,x,_,_=>by cases x;exact .str s|gJ,_,x,_,_=>by cases x;have z:=Dw.jg (K:=K) (H:=dk) b.toArray;exact z|gL,_,x,p,hu=>by rw[jf RN aHy lst]|gF,_,x,p,hu=>by rw[jf aez auy tup]|gI,_,_,p,_=>bo|gM,_,_,p,_=>bo|gs,_,_,p,_=>bo|gP,_,_,p,_=>bo|gt,_,_,p,_=>bo|gK,_,_,p,_=>bo theorem GF{Pm:b5}(KX:bc)(ar:bW):∀(ds:bB)(vs:ay),eo Pm h vs ds->eB->c9->lS K dk gy ds|[],_,x,_,_=>by cases x;exact a6|d::ds,_,x,p,hu=>by rw[ip p,aW (aD8 KX ar d v x1 q.1 (hu _ dX)) (GF KX ar ds vs x2 q.2 λ u m=>hu u dS m)]end
section z
def z:={
asp{P:a8}{w:aE}{K:ag}{mg mb:aP}{k:ac}{fa:Z}{fd:em}{sp:Sp}{cC:aZ}{b6:ay}{R:jO}{cl:av->be Z}{d0:bw}(KX:K.In cD)(rf:fW hj mg)(hb:hj builtinsNs mb)(Ki:i_ x x mb)(aBf:s₁.heap.NoLimit)(hg:s₁.gens=eQ [])(BL:eo fP cD b6 ds)(a_:eB)(hwt:∀d∈ds,eK)(hr:gx)(F:∀bd:ai,gE->f1->ce d6 K mg bd CX k fa fd ps sp)(aog:∀(s:aZ)(us:ay),hQ f5)(hlen:dH ds.length)(jH:∀(H:Hp)(xs:aI),xJ H->bD xs ds->sp xs H fb (Dw K H' v d0) eZ _ _ _)(C8:∀H e s',CX [] H cC gA e s'->bk):codeAny jl fQ (.call bn fa #[b6,[]]) (λ r s'=>∃u as,r=.ok (.ret u)/\ReadsW R cl ek u d0 as/\OldK cD ek/\s'.os=s₁.os/\i!) cC:=by obtain⟨A,ho,ar⟩:=FC ds b6 BL a_ hwt;have hO:xJ (iX K cD A):=ayt ar;have aR:dM P w i8 cD:=aqE ar;have hS:=GF KX ar ds b6 BL a_ ho;have hV:=yw ho;(have hK:bP u (go=aa u->eO):=λ b u q=>fv.1;have zT:∀{b:Z}{o:Obj}{es:ei hG}{ep:ac},f_->ey (.dict es ep)->a? go:=λ{b o es ep}e d=>by cases q:go with|aj=>rfl|bQ u=>obtain⟨_,vs,_,_,⟨e2,_⟩|⟨e2,_⟩⟩:=fv;(.rw[e2]at e;cases e;have d':fO dC _=Data.dict es ep:=d;cases d');.rw[e2]at e;cases e;have d':fO dC _=Data.dict es ep:=d;cases d');generalize i8=H at hO aR hS hK zT;have WV:∀{b:Z}{o:Obj},f_->bM->a4 (d5).get? b:=λ e n=>aGk e n;have Fz:∀{b:Z}{m:aP},hj b m->(d5).Ns b m:=λ{b m}bx=>gC bx λ o es ep e d r=>#[o,es,ep,WV e (zT e d),d,r];(have nK:bP o (a4 cy b->bM):=λ b o e=>by cases q:H b with|aj=>rfl|bQ u=>rw[hK b u q]at e;cases e);have hKb:K.In d5:=λ b o e=>WV (KX b o e) (nK b o e);have hM:Mod K mg d5:=#[hKb,Fz rf,#[mb,Fz hb,Ki],let#[mc,h1,h2]:=aBf;#[mc,Fz h1,h2]];(have e0:ce wm K mg d5 fQ [] cC H:=#[rfl,hM,λ b o e=>ahK e,Nat.le_of_eq (awD _ _),trivial,ci b c7 (show b∈([]:ap)from hb),aR,.of_eq hg];have hl:dH vals.length:=by rw[HX BL];exact hlen);refine jV ((F _ hKb (Fz rf)).run fQ [] cC H #[b6,[]] b6 b9 vals.map _ _ hr e0 (aog cC b6 hl) hV (jH H _ hO hS)) λ r s' x=>?_;cases r with|error e=>exact(C8 H e s' x).elim|ok fl=>cases fl with|next=>exact d9|brk=>exact d9|cont=>exact d9|ret u=>obtain⟨v,H',os,bare,un,YY,r',q⟩:=x;(have kept:bP o (f_->a4 s'.heap.get? b):=λ b o e=>by cases q2:H b with|aj=>exact un.keep b o e q2 (by intro z;exact c7 (show b∈([]:ap)from z)) (by simp)|bQ u2=>rcases hO b with z|⟨ob,u3,z⟩;(.rw[q2]at z;cases z);.have z2:=un.oa b ob _ z;obtain⟨e1,_⟩:=aR b _ z;obtain⟨e2,_⟩:=YY b _ z2;rw[e]at e1;cases e1;exact e2);have KX':K.In ek:=λ b o e=>kept b o (KX b o e);rw[eJ S9 (g? (R:=R) (cl:=cl) YY KX' d0 v u q r'),#[u,as,rfl,S9,OldK.of_keep kept,os,bare]]
aoC(h:ax jW ds):∀d∈ds,eK:=λ d hd=>(PySem.W.layableW_iff.mp (ed h d hd)).2.2
Tz:∀(cs:ao en)(a:d1 cs),(d3 cs).length=cs.length|[],_=>rfl|c::cs,a=>by show(fZ cs a.2).length+1=cs.length+1;rw[Tz cs a.2]
ash{k:ac}{d:DefRec}{K:iS}{CX:aE->nu}{sp:aE->Sp}(NR:i')(hdf:iR)(hlen:iJ)(hr:gx)(hY:∀(w:aE)(h:ai),fr->dI h)(F:∀(w:aE)(mg:aP)(fa:Z)(h:ai),h6 fr (CX w) (sp w))(jH:∀(w:aE)(H:Hp)(xs:aI)(a:d1 cE),ir (xJ H) (lS c6 H xs d3 cE) (sp w xs H fb (Dw c6 H' v f?) eZ _ _ _))(C8:∀(w:aE)(H:Hp)(s:aZ)(e:ah)(s':aZ),CX w [] H s gA e s'->bk):iW q YP r:=by intro w iF cC mg mb G Y fa o pm cd doc dV kV ho hd h_ hD OZ hg b3 b6 as nM aDs S9 BL pC;obtain⟨a,e1,e2⟩:=PySem.W.os_pre_some nM;obtain⟨e3,HF⟩:=Codec.encAll_of_decAll cE b3 a e1;subst e3;have KX:=hY w _ Y;obtain⟨fd,hb,hF⟩:=F w mg fa _ Y KX G.T.g OZ;refine PySem.W.enter_call (jV (asp (R:=[]) (cl:=classAt iF.heap) (d0:=f?) KX G.T.g G.T.b G.T.builtins G.T.nolimit hg BL (Rx _ _) (aoC aDs) hr hF hb (by rw[Tz];exact hlen) (λ H xs hO hS=>jH w H xs a hO HF e2 hS) λ H e s'=>C8 w H cC e s') λ r' s' hq=>?_);obtain⟨u,as',rfl,h1,h2,h3,h4⟩:=hq;exact #[.inl #[u,_,as',rfl,λ _=>rfl,h1,(OpenSpec.post_iff NR HF _ _).mpr au,λ z=>jT (show false=ad from z)],h2,h3,h4]
aMK{k:ac}{d:DefRec}{K:iS}{sp:ag->Sp}(NR:i')(hdf:iR)(hlen:iJ)(hr:gx)(hY:∀(w:aE)(h:ai),fr->dI h)(F:∀(w:aE)(mg:aP)(fa:Z)(h:ai),h6 fr CX (sp (K fP)))(jH:∀(K:ag)(H:Hp)(xs:aI)(a:d1 cE),ir (xJ H) bD xs d3 cE (sp K xs H fb (Dw K H' v f?) eZ _ _ _))(C8:∀(H:Hp)(s:aZ)(e:ah)(s':aZ),CX [] H s gA e s'->bk):iW q YP r:=ash (K:=K) (CX:=λ _=>CX) (sp:=λ w=>sp (K fP)) NR hdf hlen hr hY F (λ w H xs a h1 h2 h3 h4=>jH c6 H xs a h1 h2 h3 h4) λ _ H s e s'=>C8 H s e s'
}
section _L
section z
namespace _P
open aQ bR bi _L _M
section
variable{K:ag}{h:ai}{mg:aP}
variable{sl:eS}{od an:de}{x bT:av}{n:ac}{f C:Z}{aK ct doc pm oc:ah}{st:I}{l:aD}
def z:={
aM1(X:bc)(G:cI){n:am}{t:Tok}(e:dR aa (.aH n t)):GI mg x n:=#[t,hH X G e]
aMR(X:bc)(G:cI){kV:ah}(a:dR cK)(l:dW f dZ sl)(c:dY)(k:c_):d2 (mg x=aa b8) (gh K x) bT:=gO _ eL k
aME{kV:ah}(a:dJ x=aa cK)(i:eE)(l:dW f dZ sl)(c:dY)(k:c_):d2 (mL K C x f) (gh K x) bT:=gO _ #[a,i,k] k
aMI{kV:ah}(m:iD)(kc:iM bn C)(a:il=aa cK)(i:eE)(l:dW f (jM "__init__" bT (jA st) (cq st) (aw st) bH kV doc pm an aK ct) sl)(c:dY)(k:c_):d2 (Mk K C f) (gh K "__init__") bT:=gO _ #[m,a,i,kc] k
}
section z
section
variable{K:ag}{h:ai}{mg:aP}
def z:={
wz.1:aD->cS ay|[],[]=>ad|n::l,.aH i _::r=>cG (i=(n:am))&&wz l r|_,_=>false
aFj:iO aD wz vN:=by intro l;induction l with|nil=>rw[iP vs _ _]|aY a l ih=>(intro vs e;rcases vs with _|⟨v,r⟩;.cases e);cases v with|aH i t=>rw[it e];have q:=of_decide_eq_true e.1;subst q;exact aW #[t,rfl] (ih e.2)|_=>cases e
GA{p:Z}(lk:dN p)(hv:cJ ej (wz l cz))(H:Hp):bG p (cv vN):=by rw[eF hI hv,bK (p8 _ aF n lk au au gm hv.1 (aFj hv.2))]
aNa(X:bc)(G:cI){p:Z}(a:dR aa fe)(lk:dN p)(hv:cJ ej (wz l cz)):dl x l:=(af p eL (GA lk hv))
F2.1:ap->cS ay|[],[]=>ad|a::l,.ref b::r=>dg b&&F2 l r|_,_=>false
aCn:iO ap F2 V.ref:=by intro l;induction l with|nil=>rw[iP vs _ _]|aY a l ih=>(intro vs e;rcases vs with _|⟨v,r⟩;.cases e);cases v with|ref b=>rw[it e];have q:=jv e.1;subst q;exact aW au (ih e.2)|_=>cases e
Qo{p:Z}{l:ap}(lk:dN p)(hv:cJ ej (F2 l cz))(H:Hp):bG p (cv V.ref):=by rw[eF hI hv,bK (p8 _ aF n lk au au gm hv.1 (aCn hv.2))]
oM.1(K:ag):cg->ap->Prop|[],[]=>ak|fx,f::fs=>dR cK/\eY|_,_=>bk
aMX:oM K [] []:=trivial
aMM{xs:cg}{fs:ap}(h:dR cK)(r:eY):oM K (x::xs) (f::fs):=#[h,r]
oM.at_(X:bc)(G:cI):∀{xs:cg}{fs:ap},eY->hW i n xs|[],[],_,i,f,n,e,_=>by simp at e|[],_::_,h,_,_,_,_,_=>fS|_::_,[],h,_,_,_,_,_=>fS|fx,f'::fs,h,0,f,n,e,e'=>by cases e;cases e';exact hH X G h.1|fx,f'::fs,h,i+1,f,n,e,e'=>oM.at_ X G h.2 i f n je e je e'
oM.len:∀{xs:cg}{fs:ap},eY->g8=xs.length|[],[],_=>rfl|[],_::_,h=>fS|_::_,[],h=>fS|fx,f::fs,h=>by rw[jX,jX,oM.len h.2]
aMY(X:bc)(G:cI){p:Z}{fs:ap}(hn:oM K BZ fs)(a:fY "RULES"=aa aa fe)(lk:dN p)(hv:cJ ej (F2 fs cz)):h7 fs mg BZ:=(i5 p fs eL (Qo lk hv) hn.len (hn.at_ X G))
aM4(X:bc)(G:cI){p t0 t1 t2:Z}{od0 od1 od2:de}{i0 i1 i2:f4}{n0 n1 n2:ac}{s0 s1 s2:eS}(a:fY "FIRST_NAMES"=aa aa fe)(lk:dN p)(hi:aF=eQ [bn t0,.ref t1,.ref t2])(l0:dG t0 #[.c3 "tuple",od0,.seq i0 n0,s0])(v0:cJ i0.size (wz [90,122,122,122] i0.toList))(l1:dG t1 #[.c3 "tuple",od1,.seq i1 n1,s1])(v1:cJ i1.size (wz [90,121,121,121] i1.toList))(l2:dG t2 #[.c3 "tuple",od2,.seq i2 n2,s2])(v2:cJ i2.size (wz [90,105,110,104] i2.toList)):∃a t0 t1 t2,ii mg t0 t2:=by subst hi;exact(Di p t0 t1 t2 eL (Qo (l:=[t0,t1,t2]) lk (by show ab (_&&(ea t0 t0&&(ea t1 t1&&dn (ea t2 t2))));rw[cZ,cZ,cZ];rfl)) (GA l0 v0) (GA l1 v1) (GA l2 v2))
}
section z
section _P
namespace _P
open aQ bR bi _L _M
open cY(g! en)
def z:={
aJu{l:aB}(h:∀x∈l,0<=x):zs (cv Int.toNat)=l:=by unfold zs;rw[hJ];exact(hL (λ x hx=>iT (h x hx))).ef (List.map_id l)
aM6(K:ag)(H:Hp)(xs:aI)(a:d1 fT)(hO:xJ H)(HF:hT fT a)(Na:ab h? PySem.Challenge.rw_brokenlinesdesk_s01_answers.asked)(hx:bD xs d3 fT):EU K xs H fb (Dw K H' v (PySem.Challenge.rw_brokenlinesdesk_s01_answers.ret.enc h? PySem.Challenge.rw_brokenlinesdesk_s01_answers.f)) eZ _ _ _:=by cases hx with|aY h1 h2=>cases h2;cases h1 with|lst hs ha=>have e:=_L.VC a.1 _ ha;subst e;have q:ab dn (Codec.inLen 0 31700 a.1&&a.1.all (jY 0 4294967295)):=HF;rw[eF cu q];(have hp:∀x∈a.1,0<=x:=λ x hx=>by have:=ed q.1.2 x hx;unfold jY at aS;simp only[cu,hI]at aS;exact aS.1);have ez:=aJu hp;(refine(i5 _ ja a.1 au ?_ ?_ (λ H' p n8=>.lst (_L.aC.of n8) ?_));(. (have:aU ja a.1 vN=aU a.1 V.int:=by rw[hJ];exact hL λ x hx=>cM V.int iT (hp x hx));rw[aS];exact hs);.rw[ez];exact Na);.rw[ez];exact _L.W5 _
}
section _P
namespace cY
open aQ PySem.Calls bi
def z:={
GG.1:Obj->be Obj|#[_,_,.freed,_]=>aj|o=>aa o
zV.1:ap->ac->ao Obj->ao eX|[],_,_=>[]|d!,_,[]=>aj::as.map λ _=>aj|d!,i,o::os=>match dg i with|ad=>GG o::zV as cp os|false=>zV fz cp os
nV.1:ac->cS aD|_,[]=>ad|i,d!=>g4 i a&&nV fG as
HV:∀{as:aD}{i:ac},ab (nV i as)->∀a∈as,i<=a|[],_,_,a,h=>by cases h|b::as,i,h,a,ha=>by unfold nV at h;rw[cu]at h;have h1:=gX h.1;rcases i6 ha with rfl|ha;(.exact h1);.have:=HV h.2 a ha;omega
ac7{a b:ac}(h:a+1<=b):b - a=(b - fG)+1:=(Nat.succ_pred_eq_of_pos (Nat.sub_pos_of_lt h)).symm
Mr:∀(os:ao Obj)(as:aD)(i:ac),ab (nV i as)->zV as i os=as.map λ a=>(os[a - i]?).bind GG|os,[],i,_=>by cases os<;>rfl|[],d!,i,_=>by show aj::as.map _=_;simp|o::os,d!,i,h=>by have fV:=HV h a (by simp);show(match dg i with|ad=>GG o::zV as cp os|false=>zV fz cp os)=_;cases e:dg i with|ad=>have e':a=i:=iK;subst e';(have h2:ab (nV fG as):=by unfold nV at h;rw[bX cu h h.2]);dsimp only;rw[Mr os as fG h2,gY];congr 1;(.simp);.rw[iv b b (ac7 aS)]|false=>((have e':a≠i:=λ q=>by subst q;rw[cZ]at e;cases e);have h2:ab (nV cp fz):=by unfold nV at h⊢;rw[cu]at h⊢;exact #[Nat.ble_eq_true_of_le (Nat.lt_of_le_of_ne fV (Ne.symm e')),h.2]);dsimp only;rw[Mr os fz cp h2];rw[iv b b (ac7 aS)]
aqT(h:ai)(a:Z):dA a=(h.objs.toList[a]?).bind GG:=by unfold Heap.get?;rw[Array.getElem?_toList];cases e:h.objs[a]? with|aj=>rfl|bQ o=>obtain⟨c,d,dt,sl⟩:=o;cases dt<;>rfl
zY.1(K:gw)(as:ap)(e:∀P,as=eR (K P))(hi:ax (nV 0) as):Hook:=#[ao eX,λ s=>zV as 0 s.heap.objs.toList,λ w=>aU c6 λ p=>aa p.2,InK K,λ w s x=>InK.of e w s (by rw[<-x,Mr _ _ _ hi];rw[hR];intro a _;rw[aqT];rfl),InK.keeps]
}
section cY
namespace _P
open aQ cY
def z:={
kS.1:ah->a9|.str s _=>s|_=>#[(eQ [])]
kC.1(s:a9):ac:=iB a c (a*256+c) 1
nd.1:cS aD|[]=>ad|a::l=>l.all (λ b=>!dg b)&&nd l
R_{v:ah}{n:a9}(h:ax v.isStr n):kS v=n:=by cases v with|str s t=>exact jj|_=>cases h
agX{a:ac}{l:aD}(h:ax nd (a::l)):a∉l/\ax nd l:=by have h:=f8;refine #[λ m=>?_,h.2];have:=ed h.1 a m;rw[cZ]at aS;cases aS
Wx{n:a9}{e:hG}(he:ax e.key.isStr n):∀{L:i?}{i:ac},ab (nd (L.map λ e=>kC (kS e.key)))->L[i]?=aa e->L.find? (·.key.isStr n)=aa e|[],_,_,h=>by cases h|x::L,0,_,h=>by cases h;exact List.find?_cons_of_pos he|x::L,i+1,hd,h=>by have hd:=agX hd;have hm:e∈L:=List.mem_of_getElem? h;refine(List.find?_cons_of_neg λ q=>hd.1 (ju #[e,hm,?_])).ef (Wx he hd.2 h);exact cM kC ((R_ he).ef (R_ q).symm)
D0.1(K:Frag):i?:=match cy fL with|aa #[_,_,.dict es _,_]=>es.toList|_=>[]
Nq.1(K:Frag):Prop:=∀(i:ac){h:am}{t:Tok}{v:ah}{n:a9},gS[i]?=aa #[h,.str n t,v]->nsIn K fL n=aa fc
aMF{K:Frag}{hp:ai}(_:K.In hp)(ks:b?)(hn:ab (nd (ks.map kC)))(hk:ks=aU gS λ e=>kS e.key):Nq K:=by intro i h t v n hi;have hf:=ge (Wx (n:=n) (e:=#[h,.str n t,v])) n (L:=gS) (i:=i) (by rw[<-hn,hk,hJ];rfl) hi;unfold D0 at hf;unfold nsIn;split at hf;(.rename_i es _ _ e;rw[e];show(match es.toList.find? (·.key.isStr n)with|aa e=>aa aa e.val|aj=>if es.toList.any (·.refKey)then aj else aa aj)=_;rw[hf]);.cases hf
}
section _P
namespace _P
open aQ
def z:={
viewQ.1:a8:={jn with main:={PySem.Challenge.pw_brokenlinesdesk_s01_answers.main with body:=[jN 375 gr]}}
looseL.1:b?:=ij ["__name__","has_bit","PROPERTIES","MAPS","SEQUENCES","COMBINING","GENERAL","CLUSTER","CONJUNCT","LINE","WIDTH","DIRECTION","BRACKET","SCRIPT","DIGIT","FLAGS","CANONICAL","COMPATIBILITY","UPPER","LOWER","TITLE","FOLD","SIMPLE_FOLD","MIRROR","PARTNER","PROTOTYPE","EXTENSIONS","WEIGHTS","CONTRACTIONS","WORDS","WHOLES","CN","MN","MC","ME","PI","PF","CC","CF","LINKER","CONSONANT","CONJUNCT_EXTEND","AMBIGUOUS","HALF","WIDE","FULL","NEUTRAL","UPPERCASE","LOWERCASE","CASED","ID_START","ID_PART","IGNORABLE","PICTOGRAPHIC","MIRRORED","NEVER_COMPOSED","SPARE","LAST_SCALAR","FIRST_SURROGATE","LAST_SURROGATE","FIRST_LEADING","LAST_LEADING","FIRST_VOWEL","LAST_VOWEL","BEFORE_TRAILING","LAST_TRAILING","FIRST_SYLLABLE","LAST_SYLLABLE","SYLLABLES_OF_VOWEL","SYLLABLES_OF_LEADING","is_scalar","all_scalars","is_leading","is_vowel","is_trailing","is_syllable","is_lv_syllable","is_hangul","syllable_step","PROPERTY_COUNT","MAP_COUNT","SEQUENCE_COUNT","STEPS_MOST","SCALARS_MOST","range_records","map_records","sequence_records","lookup","Book","XX","AI","AK","AL","AP","AS","B2","BA","BB","BK","CB","CJ","CL","CM","CP","CR_classes","EB","EM","EX","GL","H2","H3","HL","HY","ID","IN","IS","JL","JT","JV","LF_classes","NL","NS","NU","OP","PO","PR","QU","RI_classes","SA","SG","SP","SY","VF","VI","WJ","ZW","ZWJ_classes","first_class","resolved_class","line_class","stands_alone","NONE","CHANCE","MUST","are_marks","first_must","chances_behind","RING","SOFT","NOTHING","Unit","no_unit","is_east","make_unit","unit_end","units_of","UNKNOWN_COST","NO_PIECE","in_row","piece_cost","least_pieces","row_cuts","word_cuts","SILENT","is_letter","is_ideograph","is_korean","unit_at","last_no_space","Place","none_if","rule_1","rule_2","rule_3","rule_4","rule_5","rule_6","rule_7","rule_8","rule_9","rule_10","rule_11","rule_12","rule_13","rule_14","rule_15","rule_16","rule_17","rule_18","rule_19","rule_20","digits_before","digits_end","rule_21","syllable_goes_on","rule_22","rule_23","is_kernel","rule_24","rule_25","rule_26","indicators_up_to","rule_27","rule_28","RULES","verdict","marks_of","CR_clusters","LF_clusters","CONTROL","EXTEND_clusters","ZWJ_clusters","RI_clusters","PREPEND","SPACING_MARK_clusters","L","V","T","LV","LVT","cluster_class","conjunct_class","is_pictographic","Signs","syllable_joins","conjunct_joins","picture_joins","indicator_joins","is_joined","cluster_ends","TAB","scalar_width","Sheet","cluster_width","row_width","line_measure","NOWHERE","farthest_fit","line_end","filled_lines","UNNAMED_SCRIPTS","firsts_end","canonical_steps_end","canonical_row_without_hangul","scalar_is_no_hangul","range_without_hangul","taken_apart_in_order","has_no_canonical_row","ends_by_k","composes_alone","folded_stays","simply_folded_stays","goes_both_ways","mirror_holds","partner_holds","brackets_have_partners","digits_stand_in_tens","script_count","script_is_named","scripts_are_named","prototype_stays","clauses_20_to_30","OTHER","EXTEND_rules_31_to_41","ZWJ_rules_31_to_41","SPACING_MARK_rules_31_to_41","VOWEL","VARIABLE","scalars_of","flags_agree","combining_extends","as_the_first","conjuncts_follow","second_follows","canonical_row_stays_cluster","first_weight","second_weight","third_weight","is_first_weight_alone","weights_fit","variable_fits","weights_hold","contraction_holds","weighed_has_no_step","scalar_is_cased","letter_case_is_cased","scalar_has_no_class","folded_by_k","folding_settles","conjuncts_hold","pictures_hold","clauses_31_to_41","broken_clause","line_badness","summed","least_ends","ragged_lines","VALUE_MOST","ROW_MOST","KEY_LEAST","KEY_MOST","COMES_TO_MOST","SCRIPTS_END","NUMBERS_END","WALKED_MOST","NAMES_MOST","FIRST_NAMES","touch","range_rule","broken_range","rises","row_fits","map_rule","map_end","key_at","comes_to_rule","sequence_rule","sequence_end","broken_among","is_capital","is_small","is_name","name_fits","broken_name","is_walked","broken_walk","broken_record","BREAK_ALL","KEEP_ALL","WORDS_ASKED","EASTERN","SPLIT","STRICT","LOOSE","KNOWN_BITS","is_ways","Ways","TOO_MUCH","BROKEN","WRONG","BOOK_MOST","TEXT_MOST","COLUMNS_MOST","refusal","lines_refusal","Desk","BOOK_CALL","CHANCES_CALL","WIDTH_CALL","FILL_CALL","RAGGED_CALL","MEASURE_CALL","UnknownCall","Reader","text_answer","lines_answer","answer_of"]
}
open cY bi
def z:={
aDr.1:b?:=_P.looseL.take 1++ij ["__doc__","__package__","__loader__","__spec__","__annotations__","__builtins__","__file__","__cached__"]++_P.looseL.drop 1++([jZ "answers"]:b?)
aM3:ab (_P.nd (_P.aDr.map _P.kC)):=aL
aNv{K:gw}{as:ap}{e:∀P,as=eR (K P)}{hi:ax (nV 0) as}{w:aE}{h:ai}(Y:(dm).says w h):dI h:=Y
okV:ab (chainsOk fU&&opensWell j0):=aL
SF.1:Prop:=∀(P:a8)(w:aE)(K:Frag)(mg:a9->be ah)(c:_P.Cs)(fa:Z),_P.Fs K mg c->_P.Ts K mg->bA (mg "answers") fa->hU (us.length=(["calls"]:b?).length->g' s fd #[us,[]] ((["calls"]:b?).zip us)) gE (ce _L.d6 K mg bd _L.eI 13 fa fd ["calls"] (_P.EU K))
Wr.1(_:_P.SF)(p:Prop):Prop:=p
hd(hF:_P.SF){K:gw}{as:ap}(e:∀P,as=eR (K P))(hi:ax (nV 0) as){N:ac}{d:DefRec}{p_:eH PySem.Expr}(l:LeftO j0 fU _P.looseL (λ s=>recOk [] s) (Hook.obs dm) (Hook.val dm) N)(h1:defOf fU j1=aa (d,p_))(h2:PySem.Challenge.rw_brokenlinesdesk_s01_answers.prog.theDef j1=aa (d.params,d.body,d.scope))(h3:kwWritten? d.params.kwonlyargs d.params.kw_defaults=aa p_)(hw:∃b3,ax PySem.Challenge.rw_brokenlinesdesk_s01_answers.pre b3/\ax jW b3)(hc:_P.Wr hF (WalkOS fU _P.looseL (λ _ _=>ak) (Hook.says dm) PySem.Challenge.rw_brokenlinesdesk_s01_answers d p_ λ f vs=>hZ f)):PySem.Challenge.rw_brokenlinesdesk_s01_answers.Holds:=holds_os l (Hook.of dm) (Hook.keeps dm) (λ _ _=>trivial) (λ _ _ _ _ _=>trivial) h1 h2 h3 (λ s e=>recFacts_of e) os_shapes _P.arW _P.okV _P.axp hw hc
}
section _P
end
namespace PySem.W.Fast
mutual section
def o:=[0]
def tree:=[7,17,45,102,224,305,309,357,413,485,543,636,729,779,835,889,967,1056,1133,1220,1273,1359,1415,1452,1522,1537,1595,1609]
def sts:=[9,18,46,103,309,311,358,414,486,544,637,730,780,836,890,968,1057,1134,1221,1274,1360,1416,1453,1523,1538,1596]
def heap:=[1,6,1610]
def env:=[1]
def tw:=[8114352165496834386,2279190212139269565,10235684441971954998]
end
end PySem.W.Fast
section
set_option tactic.hygienic true
set_option bootstrap.genMatcherCode true
set_option genSizeOf true
set_option genSizeOfSpec true
set_option maxHeartbeats 0
open PySem PySem.W PyProof.Rows
local macro_rules
  | `(tactic| refine $t) => let a := t.raw[1].getArgs; if a.size < 20 then Lean.Macro.throwUnsupported else let g (x : Lean.Syntax) : Lean.TSyntax `term := ⟨x⟩; let h := a[4]![3][1][0][1][1]; `(tactic| refine' _P.hd $(Lean.mkIdent `hF) (K := $(g h[0])) (as := $(g h[1])) $(g h[2]) (by decide +kernel) (N := $(g a[7]![3])) $(g a[8]!) (by rfl) (by rfl) (by rfl) $(g a[21]!) $(g a[22]!))
local macro_rules | `(-$n:num) => `(_P.aM1 $(Lean.mkIdent `KX) $(Lean.mkIdent `G) ($(Lean.mkIdent `nq) $n rfl)) | `(-$s:str) => do
  let k ← `(by k_is)
  match s.getString with | "z" => `(PySem.W.mg_none_of $(Lean.mkIdent `KX) $(Lean.mkIdent `G) $k) | "c" => `(⟨$k, $k, $k, $k⟩) | "n" => `(by ((show PySem.W.findIn _ _ _ = _); k_is)) | "i" => `(_P.aMI $k $k $k $k $k $k $k) | _ => `(_P.aME $k $k $k $k $k)
local macro_rules | `(!$n:num) => do
  let k ← `(by k_is)
  `(by as_aux_lemma=>exact _P.aMR $(Lean.mkIdent `KX) $(Lean.mkIdent `G) ($(Lean.mkIdent `nq) $n rfl) $k $k $k)
local macro_rules | `(~~~$n:num) => `(by as_aux_lemma=>exact PySem.W.mg_of $(Lean.mkIdent `KX) $(Lean.mkIdent `G) ($(Lean.mkIdent `nq) $n rfl))
set_option maxHeartbeats 0 in
theorem _P.headAll (hF : _P.SF) : PySem.Challenge.rw_brokenlinesdesk_s01_answers.Holds := by
  w_on; k_headS; (case hw => exact ⟨[.list [.int 3, .int 0, .int 0]], by decide +kernel, by decide +kernel⟩)
  k_fillS
  unfold _P.Wr
  refine _L.aMK (r := PySem.Challenge.rw_brokenlinesdesk_s01_answers) (k := 13) (CX := _L.eI) (ps := ["calls"]) (sp := _P.EU) _P.arW rfl rfl ⟨rfl, by decide, by decide⟩ (fun w h Y => _P.aNv Y) ?F _P.aM6 (fun _ _ _ _ z => z)
  case F =>
    intro w mg fa h Y KX G OZ
    have nq := _P.aMF KX _P.aDr _P.aM3 rfl
    refine hF _ _ _ _ ⟨218, 284, 408, 699, 765, 1312, 1394, 1449⟩ _ ?_ ?_ OZ
    · exact ⟨(by as_aux_lemma=>exact⟨-10,-11,-12,-13,-14,-15,-16,-17,-18,-19,-20,-21,-22,-23,-24,-25,-26,-27,-28,-29,-30,-31,-32,-33,-34,-35,-36,-37,-38,-39,-40,-41,-42,-43,-44,-45,-46,-47,-48,-49,-50,-51,-52,-53,-54,-55,-56,-57,-58,-59,-60,-61,-62,-63,-64,-65,-66,-67,-68,-69,-70,-71,-72,-73,-74,-75,-76,-77,-87,-88,-89,-90,-91,-97,-98,-99,-100,-101,-102,-103,-104,-105,-106,-107,-108,-109,-110,-111,-112,-113,-114,-115,-116,-117,-118,-119,-120,-121,-122,-123,-124,-125,-126,-127,-128,-129,-130,-131,-132,-133,-134,-135,-136,-137,-138,-139,-140,-141,-142,-143,-144,-149,-150,-151,-155,-156,-157,-164,-165,-171,-215,-216,-217,-218,-219,-220,-221,-222,-223,-224,-225,-226,-227,-238,-244,-248,-270,-271,-272,-273,-274,-275,-310,-311,-312,-313,-335,-336,-337,-338,-339,-340,-341,-342,-345,-346,-347,-348,-349,-350,-354,-355,-356,-357,-358,-359,-"z",-"z",-"z",-"z",-"z",-"z",-"z",-"z",-"z"⟩),!9,!78,!79,!80,!81,!82,!83,!84,!85,!86,!92,!93,!94,!95,!145,!146,!147,!148,!152,!153,!154,!159,!160,!161,!162,!163,!166,!167,!168,!169,!170,!172,!173,!174,!175,!176,!178,!179,!180,!181,!182,!183,!184,!185,!186,!187,!188,!189,!190,!191,!192,!193,!194,!195,!196,!197,!198,!199,!200,!201,!202,!203,!204,!205,!206,!207,!208,!209,!210,!211,!213,!214,!228,!229,!230,!232,!233,!234,!235,!236,!237,!239,!241,!242,!243,!245,!246,!247,!249,!250,!251,!252,!253,!254,!255,!256,!257,!258,!259,!260,!261,!262,!263,!264,!265,!266,!267,!268,!269,!276,!277,!278,!279,!280,!281,!282,!283,!284,!285,!286,!287,!288,!289,!290,!291,!292,!293,!294,!295,!296,!297,!298,!299,!300,!301,!302,!303,!304,!315,!316,!317,!318,!319,!320,!321,!322,!323,!324,!325,!326,!327,!328,!329,!330,!331,!332,!333,!334,!343,!351,!352,!362,!363,!364,!365,~~~96,(by as_aux_lemma=>exact⟨-"c",-"n",-"n",-"n",-"n",-"n",-"n",-"i",-"m",-"m",-"m",-"m",-"m",-"m",-"m",-"m",-"m",-"m",-"m",-"m",-"m",-"m",-"m"⟩),~~~158,(by as_aux_lemma=>exact⟨-"c",-"n",-"n",-"n",-"n",-"n",-"n",-"n",-"n",-"n",-"n",-"n",-"i"⟩),~~~177,(by as_aux_lemma=>exact⟨-"c",-"n",-"n",-"n",-"n",-"n",-"n",-"n",-"n",-"n",-"n",-"i"⟩),~~~231,(by as_aux_lemma=>exact⟨-"c",-"n",-"n",-"n",-"i"⟩),~~~240,(by as_aux_lemma=>exact⟨-"c",-"n",-"n",-"n",-"n",-"n",-"n",-"i"⟩),~~~344,(by as_aux_lemma=>exact⟨-"c",-"n",-"n",-"n",-"n",-"n",-"n",-"n",-"n",-"i"⟩),~~~353,(by as_aux_lemma=>exact⟨-"c",-"n",-"i",-"m",-"m",-"m",-"m",-"m",-"m",-"m"⟩),~~~361,(by as_aux_lemma=>exact⟨-"c",-"n",-"n",-"i",-"m",-"m",-"m"⟩)⟩
    · exact ⟨by as_aux_lemma=>exact _P.aMY KX G (_P.aMM (nq 179 rfl) (_P.aMM (nq 180 rfl) (_P.aMM (nq 181 rfl) (_P.aMM (nq 182 rfl) (_P.aMM (nq 183 rfl) (_P.aMM (nq 184 rfl) (_P.aMM (nq 185 rfl) (_P.aMM (nq 186 rfl) (_P.aMM (nq 187 rfl) (_P.aMM (nq 188 rfl) (_P.aMM (nq 189 rfl) (_P.aMM (nq 190 rfl) (_P.aMM (nq 191 rfl) (_P.aMM (nq 192 rfl) (_P.aMM (nq 193 rfl) (_P.aMM (nq 194 rfl) (_P.aMM (nq 195 rfl) (_P.aMM (nq 196 rfl) (_P.aMM (nq 197 rfl) (_P.aMM (nq 198 rfl) (_P.aMM (nq 201 rfl) (_P.aMM (nq 203 rfl) (_P.aMM (nq 204 rfl) (_P.aMM (nq 206 rfl) (_P.aMM (nq 207 rfl) (_P.aMM (nq 208 rfl) (_P.aMM (nq 210 rfl) (_P.aMM (nq 211 rfl) _P.aMX)))))))))))))))))))))))))))) (nq 212 rfl) (by k_is) rfl,by as_aux_lemma=>exact _P.aNa KX G (nq 305 rfl) (by k_is) rfl,by as_aux_lemma=>exact _P.aNa KX G (nq 306 rfl) (by k_is) rfl,by as_aux_lemma=>exact _P.aNa KX G (nq 307 rfl) (by k_is) rfl,by as_aux_lemma=>exact _P.aNa KX G (nq 308 rfl) (by k_is) rfl,by as_aux_lemma=>exact _P.aNa KX G (nq 309 rfl) (by k_is) rfl,by as_aux_lemma=>exact _P.aM4 KX G (nq 314 rfl) (by k_is) rfl (by k_is) rfl (by k_is) rfl (by k_is) rfl⟩
end
mutual section
def z:={
Y:=Nat
ad:=Int
kA:=False
uS:=Int.toNat
gt:=us.length
ol:=congrFun
uU:=congrArg
bH:=last
kB:=Range
qF:=Fault
ca:=some
gu:=l.drop
y4:=List.getElem?_eq_some_iff.mp
lJ:=error
ak:=none
kC:=firstOf
om:=needs
y6:=PROPS
eu:=scalar
qG:=most
im:=next
oo:=propsIn
Ul:=Except.error
y7:=Option.some.inj
kD:=List.range
bz:=map
uX:=List.range_succ
dh:=List.map_append
oq:=p.length
qH:=p.drop
kE:=List.getD_eq_getElem?_getD
Ng:=List.getElem?_eq_getElem
Um:=Nat.lt_of_add_right_lt
Uo:=Nat.lt_of_succ_lt
Up:=Nat.lt_of_succ_le
Uq:=Nat.zero_le
fO:=hlen
Fc:=length
io:=List.length_drop
Ur:=Nat.zero_lt_sub_of_lt
Us:=Nat.lt_irrefl
Nh:=Nat.not_lt.mpr
Uu:=Nat.le_add_left
bP:=l.length
Uv:=Nat.succ_le_of_lt
uY:=List.drop_eq_nil_of_le
u1:=l.take
Fd:=mapMost
Fe:=mapFine
gw:=mapsIn
kF:=r.drop
d4:=take
Nj:=keyLeast
Ff:=keyMost
ip:=before
y8:=toMost
lK:=r.length
gx:=seqsIn
kG:=drop
or:=headD
aL:=Bool
au:=true
ag:=rfl
aY:=pos
qI:=value
fc:=Bool.and_eq_true
i4:=decide_eq_true_eq
lM:=Option.all_some
u2:=Option.bind_some
lN:=if_pos
y9:=Nat.lt_of_le_of_ne
al:=this
bt:=nil
aQ:=cons
No:=List.mem_cons.mp
u3:=trans
ot:=List.length_take
Fg:=Nat.min_eq_left
y_:=le_of_eq_of_le
Ux:=ms.Pairwise
cu:=zero
cv:=succ
Fi:=Bool.or_eq_true
lO:=beq_iff_eq
Fj:=Nat.lt_trans
Np:=Nat.lt_of_lt_of_eq
Uy:=lt_of_eq_of_lt
ou:=least
Fk:=Nat.le_of_lt
u4:=List.all_eq_true
qK:=absurd
lQ:=pick
Uz:=List.zipIdx_append
Nq:=List.filterMap_append
y':=List.filterMap_cons
Nt:=List.filterMap_nil
Fl:=Nat.zero_add
ow:=if_neg
Nu:=snoc_ind
Nv:=List.reverse_cons
qL:=List.length_map
u5:=byKind
ox:=getD
qN:=List.getElem?_map
Fm:=List.getElem?_set_self
Nw:=List.getElem?_set_ne
oy:=List.append_nil
iq:=List.getElem?_eq_none
gy:=Nat.le_of_not_lt
Nx:=List.length_set
qO:=sumTo
lR:=sum_append
Ny:=List.cons_append
ir:=List.sum_cons
i7:=List.length_append
gA:=List.length_cons
u6:=List.length_nil
Fo:=l.Pairwise
UA:=List.pairwise_cons.mp
Nz:=l.find?
UB:=List.find?_cons_of_pos
UF:=List.find?_cons_of_neg
Fq:=Nat.succ_pos
ai:=Book
UH:=B.props.getD
oz:=r.first
kH:=prop
oA:=r.value
NB:=List.find?_eq_none.mpr
ND:=List.mem_of_find?_eq_some
NE:=List.find?_some
bb:=row
NH:=B.maps.getD
Fs:=map_none
qP:=r.scalar
Fv:=map_some
u7:=canon
qR:=syllable
UI:=List.append_assoc
ix:=apart
Fw:=l.flatMap
qS:=compat
eR:=List.flatMap_cons
UJ:=List.flatMap_nil
u8:=Nat.le_refl
y!:=List.all_cons
y?:=Nat.lt_of_lt_of_le
u9:=shortK
lS:=l.foldl
oB:=y.length
NI:=z.length
za:=List.foldl_cons
Fy:=Bool.true_and
Fz:=List.all_nil
FA:=Bool.and_true
zc:=List.nil_append
UL:=List.flatMap
UN:=Nat.succ_eq_add_one
oE:=Nat.le_trans
u_:=STEPS
FB:=elementsFine
UP:=Bool.and_assoc
UQ:=Nat.succ_ne_zero
FC:=sorted
u!:=valAt
NJ:=z.toNat
US:=Bool.not_eq_true'
ze:=Bool.eq_iff_iff
UT:=List.mem_range.mpr
UU:=Int.toNat_natCast
lU:=isSyllable
NK:=List.mem_cons
UV:=List.not_mem_nil
UW:=List.all_eq_true.mp
NL:=List.mem_append.mp
kI:=isJamo
zf:=decide_eq_true
gD:=Unit_
bj:=Text
dj:=Ways
fP:=Sort_
u?:=isMark
iz:=s.cls
lV:=alone
FD:=u.is.cls
zh:=unitsFrom
dI:=units
zi:=joins
qT:=size
d_:=u.size
vb:=begin_
UX:=Nat.add_sub_cancel
qU:=List.drop_succ_cons
UY:=Nat.add_assoc
U0:=Nat.add_comm
eS:=words
FE:=acc.set
aB:=bef
U1:=Option.none
qV:=marked
U3:=List.find?_append
lW:=total
zj:=l.map
i8:=rest
U5:=Nat.le_of_add_right_le
NM:=Nat.lt_add_of_pos_right
U6:=List.replicate
NN:=List.getElem?_replicate
lX:=speaks
fR:=word
zk:=head?
fS:=false
zm:=isEast
vd:=kernel
kJ:=row.length
NO:=row.drop
U7:=List.getElem?_cons_succ
zn:=foldl
zp:=flatten
NP:=Nat.le_of_succ_le
U8:=Option.map_some
zq:=Nat.lt_succ_self
NQ:=Nat.strongRecOn
FF:=Nat.add_sub_of_le
zr:=ns.sum
FG:=List.getElem?_append_left
NR:=List.getElem?_append_right
U_:=Nat.sub_self
zs:=r.sum
U!:=List.drop_append
U?:=Nat.succ_pred_eq_of_ne_zero
l0:=texts
oF:=List.getElem?_drop
Va:=List.mem_cons_of_mem
FI:=List.mem_cons_self
FK:=cutText
qW:=t.drop
NS:=us.take
zw:=List.take_add_one
dL:=List.map_cons
FL:=List.drop_zero
i_:=List.drop_drop
Vb:=List.take_add
NT:=Nat.sub_add_comm
FM:=resolve
Vd:=List.mem_of_mem_drop
Ve:=List.head?_drop
qX:=reverse
NU:=us.drop
ve:=Nat.add_zero
FQ:=List.drop_eq_getElem_cons
Vf:=List.map_fst_zip
Vg:=Nat.le_of_eq
Vh:=List.map_drop
cP:=t.length
FS:=List.zip_cons_cons
NW:=List.map_map
Vi:=List.mem_map.mpr
vf:=l.headD
oG:=b.cls
qZ:=Rules.none
vg:=closed
Vj:=clusterSays
Vl:=Bool.or_assoc
FV:=isBreak
zz:=List.range'
oH:=filter
NY:=List.range_eq_range'
FY:=List.range'_succ
vh:=List.filter_cons_of_pos
oI:=List.filter_append
Vn:=List.filter_congr
N0:=List.filter_nil
Vo:=List.getElem?_take_of_lt
N1:=List.headD_cons
kM:=ends
Vq:=List.map_add_range'
N2:=List.filter_map
N4:=List.mem_filter.mp
N7:=List.mem_singleton
N_:=clusterWidth
N':=l.getLast?.getD
Vs:=getLast?.getD
FZ:=MtLine.measure
Vv:=List.reverse_append
N!:=sequence
zA:=w.tab
N?:=foldl_max
q8:=unmarked
cQ:=m.length
Vx:=List.filter_cons
Vz:=List.range'_append
Oa:=beq_eq_false_iff_ne
F0:=List.mem_map.mp
VA:=List.filter_cons_of_neg
VB:=Nat.not_le_of_lt
zB:=rowsOf
F2:=List.map_nil
Ob:=beq_iff_eq.mpr
F3:=hk.symm
F4:=beq_eq_false_iff_ne.mpr
zE:=e.symm
vi:=m.drop
i':=s.drop
gE:=s.length
vk:=UInt8.ofNat
oJ:=isName
VC:=hv.contains
Od:=UInt8.toNat_ofNat'
VD:=Nat.mod_eq_of_lt
F5:=contains
VF:=List.contains_iff_mem
Of:=capital
F9:=small_
VG:=decide_eq_false
VI:=Bool.false_or
VJ:=List.mem_of_getElem?
VL:=Bool.eq_false_iff
Oh:=Bool.false_and
vl:=n.length
l3:=namesIn
VM:=hv.reverse.map
q9:=gone
vo:=Nat.ne_of_lt
VN:=PyYqmtfa.whole
VO:=PyYqmtfa.calls
F_:=PyFlat.calls
q_:=PyYqmtfa.shape
Oi:=x.length
Oj:=PyFlat.row
vp:=PyFlat.rows
VS:=Option.map_eq_some_iff.mp
q!:=text
vq:=lines
VT:=Nat.not_succ_le_zero
Ol:=PyFlat.call
VU:=PyProof.Rows
q?:=lexLe
c6:=Around
ay:=Shared
cR:=int
dk:=prog
dN:=Program
dO:=World
a!:=Value
ra:=bool
i!:=wpAny
vu:=compareOp
VV:=wpAny_loadPart'
aI:=Addr
zF:=IntsAre
cS:=ref
rc:=s.heap.get?
oK:=dict
fU:=data
kN:=slots
i?:=xa.size
Om:=ns.length
oM:=xb.size
re:=wpAny_bind
zG:=rawInt
rf:=stop
VY:=plainId_quiet
VZ:=codeAny_builtin
V0:=entry_eq_loop
aN:=Str
eU:=base
dP:=Heap
rg:=body
oN:=scope
vw:=Scope
rh:=qual
bC:=Expr
d!:=outer
fe:=xs.length
V1:=Paired.length
V2:=h.objs.size
On:=Heap.lt_size
kO:=h.get?
ri:=h'.get?
zI:=fields
oP:=True
F!:=Un.kept
Oo:=List.toArray
l4:=keep
jb:=free
cb:=PySem.W.Frag
vx:=X.outer
V5:=sc.names.lookup
Op:=env.kindOf
bQ:=X.K
oR:=X.mg
jc:=X.base
V6:=X.env.scope.kind
V8:=X.env.globals
V9:=X.iF.heap.objs.size
fX:=X.env.locals
V_:=X.env.cells.lookup
Os:=X.env.kindOf
kP:=X.stack
dl:=X.env
rj:=X.ex
jd:=X.fs
V':=X.iF.heap.FunFrames
ae:=pins
dn:=s.heap
oS:=X.prog
Ot:=σ.length
V!:=I.base.keep
F?:=I.base.free
ff:=I.loc
vy:=I.ok.above
d?:=s.heap.objs.size
V?:=I.ok.mH.mem
oT:=I.cell
Wa:=s.heap.FunFrames
Wb:=I.base.slot
je:=I.ok.kind
jj:=I.free
l5:=heap
oW:=toks
oY:=I.kY
rk:=I.os
o0:=I.len
zJ:=I.pin
l6:=I.bare
Gb:=Ne.symm
fZ:=I.aR
Oy:=I.aR.fresh
bI:=σ'
Gd:=I.base
zL:=X.N.Nodup
OA:=Heap.SameBut
Ge:=s'.heap
Wc:=X.env.scope.names.lookup
OB:=storeName
OC:=tracked
l7:=Ends
rl:=D.nx
l8:=cont
o1:=X.xe
Gf:=isTrue
rm:=whole
cT:=Pos
OH:=wpAny_mono
Wd:=wpAny_loadName_local
We:=wpAny_loadName_cell
Wh:=Calls.Name_function_global
Wi:=I.mod.glob.keeps
Wj:=behindInMarks
Wk:=wpAny_Compare1
Wn:=wpAny_isTrue_Compare1
OI:=wpAny_truthy_bool
OJ:=standAt
zN:=holding
Wo:=isTrue_plain
OK:=aF.toArray
Gg:=sizeLine
l9:=I.jE
zO:=I.list
vz:=I.tuple
Wp:=wpAny_execs_nil
Wq:=wpAny_execs_cons
Wr:=interactive
ON:=swapsWith
Gh:=assign
zP:=Operator
OO:=inplaceOp
OP:=rv.length
vA:=s.toks
OQ:=wpAny_holding
OR:=wpAny_passesOwn
OS:=Bool.false_ne_true
OT:=letOwnedTupleGo
Gi:=wpAny_pure
OU:=p.isList
Wt:=IsRangeIter
l_:=s1.heap.objs.size
OV:=I1.kept
Gj:=Heap.get?_push_size
vB:=s.heap.push
OW:=PyProof.Rows.callWith_type1
OX:=binaryOp
o2:=rule
Wu:=Int.le_of_lt
Gk:=y.size
OY:=sizeLine_eq
zQ:=vs.length
OZ:=builtin
dq:=name
O0:=PySem.W.lookIn
Wv:=es.toList.any
Ww:=PySem.W.plainGet
O1:=PySem.W.findIn
O4:=getAttr
Wx:=PySem.W.plainGet_of
O6:=getMethod
O7:=PySem.W.takerIn
WA:=PySem.Within
vC:=PySem.W.emptyDict
Gm:=lookup
Gn:=fs.lookup
Go:=List.lookup
O9:=fs.length
WB:=Heap.size_push
WC:=attributeBase
O!:=Attribute
kR:=args
O?:=A.depth
Pa:=A.units
Pb:=Around.under
WD:=Code.frames
Pc:=Code.isFrame
zR:=FuncData
vE:=ps.length
WE:=PySem.W.callWith_K
WF:=I.ok.mod.ya
Pe:=PySem.W.callWith_K0
Pf:=sc.names
o3:=kindOf
o4:=bindL
o7:=bindC
WI:=List.nodup_cons.mp
zS:=start
Pg:=N.length
WJ:=PySem.W.cellsFrom_some
WK:=e0.aR.fresh
WL:=PySem.mem_of_lookup
Ph:=scope.names.lookup
bA a:=List a
Z a:=ca a
o9 a:=(a:ad)
ci a b:=a->b->Prop
aa:=o9 x
cV a:=a x0 x1 x2 x3
ac:=bA Y
jk a b:=bA (a×b)
o! a:=a x0 x1
ap a:=a=au
l! a b c:=Inv X ae a b c
f6 a b:=l! σ a b
aG:=x+1
aj a:=ow a
cC a:=Option a
ao a:=lN a
bm a b:=by exact a b
ar a b c:=λ a b c=>?_
aw:=o9 y
az a:=((a:Y):ad)
aM:=by simp
iB a:=f6 H a
cc a b c:=∀a,∀b,c
bn a:=decide a
jl a:=a x0 x1 x2 x3 x4
av:=iB s
am:=x<=y
gG a b c:=a ae b σ c
o? a:=a x0 x1 x2
l? a b:=a b dl
cD:=by decide
bd a b:=PE X a b
cE a c:=a b=Z c
bh:=x.1
ce a:=a B w n t
rn a:=jk Y a
ed a:=cV a x4 x5
ax:=x<y
aH:=ci a0 a1
dR a:=a=ak
bo:=by cases h
aW a b c:=af a b c
pa a:=gu a
ee a:=.cS a
vF a b:=autoParam a b
a?:=jk aI Obj
bp a:=(a).Fc
aT:=a0->Prop
dr:=Nat.div_add_mod _ _
bR:=o! B
ba:=x+y
kS:=.ak
bc:=a0->a1->ci a2 a3
bB:=(x:ad)
dt:=Nat.mod_lt _ cD
cI:=x+1
bD:=i+1
du:=4*t
br:=k+1
kT a b:=is (a aB) b
fh:=(4:Y)
bv:=y+1
pb:=model oS X.w
gH a b:=a σ H b
bg a:=a->kA
iD:=(44032:Y)
jm a b c:=by intro ae s σ a b I c
bi:=x - y
fi a:=gG a s H
cp a:=is (gY bM) a
ef a:=m.getD a 0
cw a b:=dR (a b)
f8 a b:=by exact qK a b
b8:=x.2
bE:=a0->a1->a2->ci a3 a4
dv a:=by simpa using a
c7:=o! A
zU a:=ci a ay
ma:=(28:Y)
cL:=a+1
ck a b:=a[i]?=Z b
bF:=a0->ci a1 a2
cN a:=kT gX a
fj a:=∃x0:a0,∃x1:a1,a
gI a:=s.getD a 0
eh:=y+1
bG:=x=y
mc a b c:=gH a λ b H1=>c
fk a:=p.getD a 0
f9 a:=∃x0:a0,a
ew g h:=g a b c d e f h
md b:=b - a
ez a:=l? eval a
bN a b c:=by rw[a]at b;cases c
bU:=zU a!
dy a b:=(a b).Fc
jp a b c:=by exact a (eT b q c)
pc a b c:=i! pb X.A a b c s
f_ a:=a::r
me a:=Y×a
eV a:=.inl a
cg:=a0->a1->a2->a3->ci a4 a5
bY:=by lia
eX a:=.cR a
mh:=a-iD
b6:=A x0
fo a b:=bf (fi a _ I h) b
pd a:=l? starEach a
b!:=o! C
cq:=bA a!
eA a:=bm a h
cr a b:=λ a b=>?_
cl:=bA V
zV a:=vF a aA._auto_1
eC:=x - 1
Gq a b:=marksFrom B a b
cK:=bA ad
gK:=(1:ad)
ei a:=by exact a al
mi a:=ci a Hp
b?:=0<x
cx:=cV C
cy:=cV D
f' a b:=pc a b o1
fq:=u7 B c
cm:=B x0
cn:=C x0
dz:=((a:Y):ad)
zW a:=by obtain⟨t',rfl⟩:=a
jq a:=by obtain⟨t,rfl⟩:=a
ek:=aG - y
gL:=(2:ad)
cA:=o9 z
ft:=by rw[jm H Q h]
js a b:=de X a b
mj a:=cE a u
ro a:=((a:Y):ad)
dA a b:=by refine a;subst b
c9 a:=a dr dt h0
el a:=uS a
rp:=(588:Y)
cZ:=rn α
iE a:=(a,kS)
cO a:=(a,kS)
c_ a:=λ x=>a
em:=(y:ad)
Gs a:=qS B a c
kU:=.cR
c0 a:=by unfold a at h
dB a b:=by rw[a];exact b
jt:=by rw[zW ry]
eY:=a+n
ju a b c:=λ σ H Q=>mc a b c
en:=bA α
iG a b c:=.a b c aY
eD a:=No a
c!:=bA gD
c?:=o? C
c3 a b:=¬a->¬b
gM:=e::es
iH:=dC s a
eo:=bA fP
iI a:=Gq [] a
c4:=z+1
c5:=y<x
mm a:=gG a s1 H1
iJ a b c:=by refine bL (a b) c
fv:=((b:Y):ad)
dS:=cV E
jy a b:=zV (a=b)
kW a c:=a b o e c
da:=x<=z
dU:=o? D
f?:=aa - 1
eE:=z+1
db:=i+1
ga:=q+1
mn:=a+2
eG a b:=a _ _ b
eH a c d:=λ b a c=>d
gc a b:=cN a&&cp b
gO:=mh%ma
dW:=.bt
dE:=z<=y
eZ:=cI - y
dG:=y<=z
dH:=y<=x
mo a:=∃x2:a2,∃x3:a3,a
fx a:=((a:Y):ad)
jA:=d?+1
gQ:=rn kB
er:=bA bj
vG a:=l.getD a 0
pe:=pa n
pf:=eV ag
gd a:=Ng a
eI:=cV B
eJ:=cV A
et:=(0:Y)
e6:=(1:Y)
kZ a:=.lJ a
e7 a b c:=Q (.a b) c
rq a:=RelV a u
iL a b:=a b=false
mq a:=cst B a
mr a:=λ i j=>a
e8:=Z b
rs a:=a X ae σ Q
eM:=o? B
e9 a b:=by unfold a;rw[b]
k0 a b c:=a oS X.w b c
dX:=[c]
d0:=z<y
gR a:=a<2^62
eO a b c:=by exact a b c
Gv a b:=vF (a=false) b
vH:=c - 0xAC00
gS:=d9 m a q
Pi a:=V_ x=Z a
e!:=cC gD
k1:=mi St
jB a:=Va _ a
gV:=cC Y
eP:=.aQ
Gw:=.Name
ge a b:=bn a&&b
vI a:=qV n a
Gx a:=VV a
fy:=jl D
e?:=bA aN
vJ a:=λ a H1 I1 r1 q1=>?_
fa:=bb t a b
gW a b c:=i! a A b c E s
fB a b:=.Call a b [] aY
iM a c d:=∀b a,c->d
gh:=u8 _
jG:=Pi c
rA:=ej [a,b,c,d]
fC:=by simp
g0:=t+1
Gy a b c:=y? (a b) c
g4:=by rw[jq rx]
gi a b:=by simp;exact a b
vL a:=.ins C dx a
gj a:=λ z=>a
fb:=aG+y
gl:=bh=k
g5:=aN->cC a!
k3:=#[_,rfl]
fD a:=by simp[a]
mt a:=Gw x a
k4:=(2:Y)
fE:=o! D
fG a b:=a σ H1 b
jM a:=-2^62<=a
g6:=by rw[f8 (show false=au from hs) OS]
g7 a:=by cases ry;rw[jp a I aM]
g8 a:=fj (c7/\bR/\a)
jO a:=(a:ad)
vM a:=bT us a
g_ a:=om a
mv a b:=λ a H2=>b
jP:=x - 1
mw:=ez e
g! a b:=(a).bz b
vN a:=l++[a]
fI a:=(a).elim
vP a:=(a).kG
gm:=k x0 x1 hA hB
gn a:=cc x0 x1 a
pi:=oz+1 - oA
Gz a:=begins B a
gp:=ef a
pk:=vG k
gq:=by simp at h
rB a b:=¬(55296<=a/\b<57344)
fJ:=D x0
fL:=f_ u
pp a b d:=((a-b)+(((c:Y):ad)*(-gK)))=ro d
g? a:=by exact On a
jQ a:=by simp[a]
hM:=jl C
hO:=jl E
hR:=jl F
hT:=by rw[jm H D h]
vQ:=(3:Y)
rC a:=RelV x a
mx:=I.tok _
pr a:=ap (a x)
gr a:=by exact a
rE a b:=Gy On a b
hV a b c:=λ a b c=>?_
pt a b:=af _ a b
my:=ee C
rF:=fN s r
hW a:=by rw[a]at h;rw[bo]
hY:=cV F
Pj a:=Gv a bS._auto_1
iN a:=f9 (∃x1:a1,∃x2:a2,a)
zX:=.type
jS:=by simpa using h
jT:=vH%28
mz a b:=a i bH (k::b)
hZ a b:=f9 (a/\b)
h!:=o? A
vR a b:=uU a b
h? a:=[iE a]
k5 a:=by rw[List.mem_range'_1]at a
ia:=bA Info
ib:=bd a ta
pu:=.cR
rG a:=ce lb e pa a
ii:=rq v
jU:=Pj (x==("__debug__":aN))
iO:=jk gD bj
iP:=k _ _ pf e
jW a:=by rw[jt,jp a I aM]
k6:=UH k []
rL:=x - 44032
zY a b c:=a b CX c f fd ps sp
gs:=x=0
pv:=vJ x
px:=bA s
jX a:=fj mo a
rM a b:=iG BoolOp a b
z3:=Gz bb
ik a:=a x4 x5 x6
z5 a:=.own a
GA:=bz B
jY a:=a b hb
rP:=gI cL
iQ:=vI cs
mB:=(4352:Y)
mC:=(4449:Y)
k7 a:=by exact .inl a
il:=di B
rR:=x<1114112
iT:=a%fh
jZ:=aa+1
j3 a:=cc x0 x1 (c7->bR->a)
j4 a c:=∀b∈a,c
vS a:=rl σ a
j5:=ed F
j6:=ed E
j7:=n+1
mD a:=bK f v a
j8:=jl B
j9:=jl A
z6:=mj ri
iW a b c:=a j0 j1 b c
iX:=dJ B c
iY a:=∀x0,a
j_:=cU k l
rS a:=(a).toNat
mE:=Uq _
k8 a:=λ z=>a
k_ a b c:=λ a b H Q=>c
iZ a:=.inr a
i0:=g i j
py a b c:=i! pb X.A a b o1 c
j':=Gs n
mG:=model dk w
j! a b:=uS a=b
mI a b:=((a).bz b).sum
rT:=(4519:Y)
rV a:=a<=Gg
j? a:=ap (gk B a)
mK a:=a (gX aB)
ka a b:=bn (a<=b)
vT a:=Heap.get?_push_of_some _ a
k! a:=a dr dt
kc a b:=∀y∈a,b
ke:=pa a
kf:=lQ k l
kh:=cw H b
kl:=u1 n
kn:=p - 1
k? a b:=ju ta a b
mO:=x<=8192
mP b:=b a=Z vL fs
pz:=x<4371
pA a b:=λ a b=>?_
vU:=ee a
mQ:=Z v
ko:=vN x
vV a:=vP a 1
kq a:=a->Prop
ld a b:=by obtain⟨a,e1⟩:=b
lf a b:=by unfold a;rw[ao b]
li:=cC (Y×Y)
mR a:=f' a rs EP
lj a:=by rw[f8 ag a]
ll a b:=by have:=a;rw[ei b]
z7 a:=seg aB bM fR a
lm:=aa - aw
kr a b c:=λ a b _=>c
GC a:=a x=Z .local
z8 b:=zz a b
rW a b c:=.O! a b c
pC:=t.map (inf B)
ln a:=ap (eu a)
pH:=fq=[]
mS:=ie r
rY a b c:=fo ha λ v s1 a=>aO b c
mT:=zY k0 d6 bQ oR jc k
lp:=uS x
lr:=fk du
ls a b c:=∀(a b:Y),c
vX:=a%ma
lu:=bA bC
mU a:=a i bH l
ks:=y - 1
kt:=y - 1
ku:=x - z
vY:=md q
kv:=y - z
kx:=x=y
ky:=x<y
r6 a b:=a bm gy b
lv:=lL m a q
lw:=Hp->Prop
GD a b c:=bf (a aY ae s σ H _ I b) c
Pk b:=FZ B w t a b
Pl a b c:=envOfC a b d? f c
vZ a:=V9<=a
mV a b c:=∀(a:ac)(b:Y),c
r9:=FI ..
mW:=cE rc o
lx:=ee f
ly:=n4 n t
mX:=ed G
m3 a b c:=by have:=a;exact b al c
lz:=x≠0
lA:=x<=64
z9:=du+1
lB:=Gl X x
m4 a:=by exact False.elim a
m5:=rn aL
r!:=mm hb
m6:=b≠fX
z_ a:=a (u8 _)
GE a b c:=if a then Z b else c
z!:=rn Y
m7:=az cI
r? a b:=if a then b else ak
z? a b:=if a then ak else b
m_:=gI iH
Aa a:=a X.env.scope x
m? b c d:=ce b e a c d
lE a b:=¬a\/¬b
lF:=z<28
Ab:=Pv bD
nb a:=∃x3:a3,∃x4:a4,a
v0 a b c:=a b (by simp[c])
ng:=Gs j
Ac a:=a (t':=vA)
ni:=Binds bQ fd ps ds
nj:=FK t us
nk:=(57344:Y)
nl a:=bp a<=18
nn:=ef mn
np a b c:=a o3 b m c
sd:=Pl rh oN cd
nq:=cC (Y×ac)
nr:=me kB
nv a:=by exact .inr a
nw a:=cc x2 x3 a
v1:=ci Hp VK
se:=kH B k c
Ad:=f+1
GF:=oz+1
ny a:=show a from r
nB:=bA aI
Af:=Sem a!
nC:=x<=10000
Pm:=(62:Y)
v2 a b:=∀x∈a,b
nD a b:=∀x∈a,b
nE:=.cluster
nF a:=n.getD a 0
pI a b:=(a b).elim
sg a:=(mq a).2
sh:=bO xs us
nH:=rC u
si:=rF - 1
nK a:=a (gY bM)
nL b:=bb t a b
GG:=backTo aY pd es
Ag b c:=lineBad n Pk b c
nM:=(0:ad)
nO:=o! E
nP a b:=(a).u3 b
nQ:=.tup xs
v3 a:=a bI H'
v4:=eA Up
Ai a:=FQ a
pJ a:=List.mem_append_right _ a
v5:=x<4470
nT:=4519+z
nV:=#[6,i]
nW a b:=(a).kG b
Aj:=Pv i σ H
nX:=aG<=y
nZ:=bO gg ds
n0:=.str _
n1 a:=max m a
sj:=x::aB
GH a:=(a).or
n5 a b:=λ _ a=>b
n6:=r8 CX X E
sk a:=a x hx
Ak:=du+3
n9:=eC+1
n_:=x - eh
n! a:=A/\B/\a
n?:=bh<k
GI a:=ce leastBad e a
pM:=Gx h2
GK a b:=rc a=Z b
GL a b:=PySem.W.instObj a b
pO a:=by exact pt ag a
oe:=64*y
v6:=.seq
pP:=vs++gg
sn a:=.bl a
GM a b c:={a with l5:=b,oW:=c}
pS a:=by unfold a;dsimp only
pT a b c:=if(ap a)then b else c
pU a b c:=if a=au then b else c
pV:=ck X.N x
Am a b c:=mv a (b c σ2 H2)
v8 a b c:=by have:=a;rw[b,c]at al
pW:=x<44032+11172
pY:=dv h
p0 a b:=zz a b
so:=ck xs x
p3:=pr eu
p4:=jk aN V
p5 a:=by cases a<;>rfl
p8 a:=λ x H1 I1 r1 q1=>a
p9:={s with oW:=vA+1}
p_ a:=((a:Y):ad)
og:=_::_
oh:=x - y
oj:=y - x
GN a:=cheapest B a
Aq:=(a%rp)/ma
Ar:=Value.ref a
As:=a/rp
p!:=GA 1 c=[]
p?:=pa cL
qa:=q8 m
sq a:=one a oG
sr:=jy pd gM ((false,mw)::pd es)
qb:=by rename_i h
At a:=∀b∈fp,a
qc:=gI a
v! c:=kM c a b
v?:=vM eY
Ax:=vS H
qd:=bd b tb
qe:=bd e te
GP:=qS B 8
Ay a:=by rw[ft,<-wpAny_Call_Name_kw a]
su a:=hs.2 b (vo rE e a)
qf:=44032<=x
qg:=pa b
qh:=fh*a
sv:=x=.cS a
GQ:=.OZ
Pn:=sort B w
AA a b c:=GD ha h λ us s1 a=>aO b c
sw a:=by rw[kE,a];rfl
qi:=(1:ad)
qk:=4352<=x
ql:=.chance
sx a b c:=a I hg hm b c
qm a:=∃x1:a1,a
qo a:=∃x2:a2,a
sy:=me α
qp a:=(u,a)::r
qq:=4*y+z=x
sA a:=by wp_walk using Gx h1,a
sB a b:=by simp only[a,i4]at b
sC:=rR/\rB x x
wa a b:=by(have e:a=b:=by simpa using hb);subst e
AB:=x<4547
qr:=4352+y
qs:=4449+w
GR a:=(a).toNat
qt:=eQ B c
sD a:=p.1≠a
GS:=28*y+z
qu:=us++ds
sE:=by exact uU Ul (y7 h)
wb a b:=by rw[io];exact a b
sG a b:=∃bI a,l! bI H' s'/\b
wc a b c:=by rw[iJ a hq λ aF b c hz=>?_]
sH:=f?=az jP
qv:=z<=64
wd:=bT us a
AC:=du+2
qw:=x+eh
qx:=eC<y
qy:=4*x+4
qz:=aG<y
qA:=x<bv
sI a:=(N4 a).1
sJ a b:=(o.map λ a=>b).ox fS
sK a:=cV a x4 x5 x6 x7
AE a b c:=says a b GE (eS=au) m c
sL:=a0->a1->a2->a3->a4->ci a5 a6
we a b c:=by refine ah h.eq ar a b c
sM:=by rw[io]
GT:=[a,b,c,d].all λ(x:Y)=>bn (x<128)
sO:=a<((b+vQ)/fh)
sP:=ed C
sR:=ed D
qB:=max 0
qC:=y<=w
qD:=a::l
sT a b c:=by refine ah a ar b c hl
wj a b c:=by refine lT (hf it aM) λ f0 a f2 f3 b c=>?_
sU a b:=js (vu a) b
sV a b c:=PW X rM .a b c
sW a:=z7 (1+a)
AF a:=l? assignEach a
sX a:=aE (.cR a) H mx k3 q
GU:=z8 vY
sY:=dI (t.map Pn)
sZ a:=ap (lU a)
s0:=dy u1 n
s8:=ew F us=ew G us
s9:=jk aL Say
s? a b:=by obtain⟨a,e⟩:=b
GW b c:=.Compare a b c aY
td:=Oo []
AH:=GH pe 0
Po a c d:=a (λ b o hb e=>c) f0 f1 f3 d f5
AI:=md k
tf a b:=re (a b)
th:=ce filled
tj a b c:=zz a b=c
tp a b c:=by have a:=b;have h2:=c
tt:=mn+rP
AJ:=vV pe
tu a b:=by unfold a;rw[b];rfl
tw:=fk z9
tx:=cV G
tz a b c:=a Ad i bH b=c
tE:={s with l5:=h'}
AK:=gL^(62:Y)
tG:=cC qF
tI a:=oR x=Z a
tJ:=gR aa
tM a:=ap (a).isSome
tO:=(a+b)/k4
Pp:=(44032:ad)
tQ a b:=show a by exact b
AL a b c:=a _ (show b from c)
tR:=ef cL
wl:=X.calm=au
tS:=el y
tT:=zX "list"
tU:=aJ K H a xs
tV a b:=show a by exact b
tW:=K.In dn
wn a:=pp fv gL a
tX:=Y×ac
tY a:=bm a h1
tZ:=o? E
wo a b:=(a).Pairwise b
t0:=l0 l a b
t7:=t1->t2->t3->t4->t5->t6->px->r
t8:=bH=Z x
t9 a:=by unfold a;simp
t_:=dM P w H h
t!:=rS l[a]
Pq:=sort B w c
t?:=ao ag
ua:=a/(256:Y)
wp a b c:=#[hp,a,b,c,os]
ub a b:=∀a∈X.pn++ae,b
AN:=qS B n
ud:=me aL
wq:=qO k l
wr a b c:=a (i:=i) (b:=c)
GX:=a/fh
AQ:=cw H' b
ue b c d:=b c a i aB d
GY:=(64:Y)
uf:=(64:Y)
ug a b:=(a==b)=false
uh:=bA Env
ui:=me Y
uj:=kZ f
uk:=ao h
ul:=[vU]
um:=dQ bQ C
GZ a:=zJ p a
AR:=kU i t
wt a b c:=by obtain⟨a,b⟩:=y4 c
uo:=x<=1000
up:=by omega
G0:=(2:ad)
G1:=4352<=x
G2:=4449<=x
G3:=4520<=x
wu:=p+d_
G4:=bb++[t]
ur a:=(k,a)::r
G5 a:=(a).oH
wv a:=cf a C f
ut:=c::n::l
G6 a:=Po Ac I.turned a f4
ww:=vF (X.fn x=au\/GC Wc) Du._auto_1
wx:=zV ((GG).any (·.1)=false)
uu:=(0,[])
G7:=P.zip vs
uv:=x<=bv
uw:=eX _
AS:=eX j
ux a:=a+200<z
uy:=.cR i
uz:=z5 x
AT:=GL C d?
wz a b d:=((a-b)+(d*(-gK)))=ro c
G9:=588*y
uB:=z<588
uC a:=λ q=>a
uE a:=(a).ox
uF:=.bl _
uH:=(k,x)
uK a:=(a).d4
wA a b c:=by exact OI aW a b c
wD:=Except qF gQ
G_:=Value.ref jA
wE a:=by rw[f8 a (Us _)]
wF a:=by exact Va _ a
AU:=z_ I1.aR.fresh
wG a:=by apply List.ext_getElem?;intro a
wH:=a-gO
uM:=x::l
AV:=b::r
uN:=n::r
wI a:=a h1 h2
uO:=w<=z
Pr a:=V5 x=Z .a
wL:=GM s h' t'
wM a b:=by refine OR a b
Ps:=GQ "type.__call__"
wN:=cE X.base.get? o
wO:=Except qF en
wP:=GI l
wQ:=cC (Y×kB)
wR:=f6 H' s'
wS:=ce nS a gS
wT:=bp z3
uP:=md p
uQ:=b - a
Pt a b c:={a with nx:=b,ct:=c,bk:=rl}
Pu a:=F_ q_ f a
wU:=zU Unit
wX a b c:=λ D σ H=>mc a b c
wY:=r.value.testBit 12
AY a:=iL lU a
AZ:=jk aN a!
wZ:=Bad×z!
w5:=Aa Loc
w6:=ap (u? iz)
w8 a b:=by obtain⟨a,b⟩:=h
G! a b:=U6 a b
w9:=iI l
w_:=jk aL Y
Pw a:=Wj a b
w! a:=by rw[show a from rfl]
Px:=ce lineEnd
w? b:=b<=(rT+vX)
xg:=az (4*x)
A2:=dv h1
xh:=jM aa
xi a b c:=GS=rL->a->b->c
xj:=(Pq).cls
xk:=aa<=4546
xl:=a!->a!->Af
xm:=fk Ak
xq a b:=λ(a:kB)=>b
xr:=by dsimp only at h
xt:=4519<aa
xu a b c:=∃x4:a,∃b:a5,c
xv:=by split<;>simp
xw a b c:=show a by exact b c
xx:=PA X gM t
xy:=GR ((i:Y):ad)
xz:=(11172:Y)
G?:=!xs.isEmpty
xB:=b<=bP
xC:=mt aY
xE:=d6 P w K mg
xF:=GP c
xJ a:=by unfold a at hx
xK a:=bm a hp
Ha a b c:=iA CX a b K mg eU N rh oN f c A d! s H E
xL:=GF - oA
xM:=jV m a aB
xO:=j2 s a aB
xP a b c:=Un a ex H b h c
xQ a:=width B w a
xR:=∀k∈ns,0<k
xT:=qH du
xU a:=bh<y.1\/(x.1=y.1/\a)
xW:=I.ok.hd hc
Hb:=vB {cls:=zX "range",fU:=.zI (Oo [kU lo t,pu hi u,pu 1 v])}
xX:=bA Stmt
xY:=em - 1
A5:=model P w
xZ a b c:=aE a H b c h
x':=max y eE
x!:=upd H a o
x?:=(28:ad)
yc:=oo 0
yd:=bO vs us
ye:=Sem aL
A8 a:=(a b o e).1
yf:=bZ k X.A
yg:=by rw[bo]
Hc a b c:=λ a H2 I2 b q2=>c
yh:=4449<=x
A_:=ee it
yi a b:=(a).u3 b
yj:=dI l
yk:=zj f
ym:=h1 y hy
yn:=us.zip ms
A':=Z ((Ag pk (pk==e)).plus (rG k).1,k)
Py a b c:=∃N:k1,(∀bI H',v3 N->∃m',m'<m/\a bD m' bI H')/\∀x b,c i H x H'->g x σ H' Am σ2 tb Pt D N N
yo:=x<=200
yp a:=λ a=>?_
yq:=ig s r
yr:=b∉ch
yv:=tm K a
yw:=uR K a
yy:=Z e
yz a:=(a).zk
yB a:=#[a,?_]
Hd b d e:=by rcases b with _|⟨a,_|⟨d,_|⟨c,_|⟨e,l⟩⟩⟩⟩
yC:=x<=18
yE:=x<128
yG:=y<=18
yH:=x+2+y
yI:=x+3+y
yJ:=4*g0
yK a:=a r hr
yL:=c8 q hn
yM:=x+(y+z)
yO:=n - ga
Pz e f g:=GT&&((match rA with|c::r=>Of c&&e|[]=>false)&&(!f (ej [a,b,c,d])&&(bn (t<NAMES)&&((firstNames[g]?).all λ(x:Bytes)=>rA==x))))
A!:=A.under (Ps #[my::us,kw])
He b c d:=by refine b c d;subst ex;obtain rfl:u=Ar:=rx
A?:=iM u mj kO z6
Ba a b c:=by obtain⟨hp,g,d,a,os⟩:=s;refine bX b ar h1 h2 c
yP:=b.2+1
yQ:=f_ b
yS a:=x - (a+z)
Bb a b c:=fo he λ v s1 a=>aO b c
Bd:=if u.sa=au then Gq G4 r else z3++false::iI r
Be:=∀x c,jG->c≠b
Bf:=eH o e vT e
Bh:=G5 GU (nz m)
Bi:=Pu c.2
Bj a:=gc a [3,22]
Bk a b c:=js (vu .a) (jK mr (.b (decide c)))
Bn a b:=js (OX .a) (jK mr b)
Bo:=Ai ha
Bp:=Pr cell
PD a c d:=GK l a/\cE rc c/\R (.ok (.ret (.ra d))) s
yT:=x - 0
Hf:=n - 1
yU:=k+2
yV:=a+3
yY:=f x
Hg:=md b
Br b:=b<=(mC+Aq)
Bs a b:=by rw[a];exact gy b
PF a b c:=callWith aY a b (backTo aY pd c) (backToKw aY l? keywordEach [])
Bt:=by refine OI ?_
Bv c g i:=by rcases us with _|⟨x0,us⟩;(.cases hl);.exact c vR g h a b i d e f us (Nat.succ.inj hl)
Bw:=uY hl
Bx:=Gj _ ag
Bz:=mz mZ (a::z::v::l)
BA a b c:=js (OX .a) (rI b mr eX c)
Hi a:=bm gy a
BB:=b∈rj\/vZ b
Hj a:=dy l.takeWhile a
BC:=kW I.base.there hx
BD a:=N_ B w col a
BE a b c:=λ σ H R=>mc a b c
BF:=aN->cC NameKind
BG a b:=Px (q8 a) b
BH:=ed A
BI:=ed B
Hk:=rV fe
BJ:=(a+vQ)/fh
BK:=ew G (x0::l)
BL:=ew F (x0::l)
BM a:=NL a
BN:=GW [op] [b]
BQ:=jk gD aL
BR a b c:=by show lh eS a b c _=_
BS:=rW o m apos
BT a:=λ z hz=>v0 a z hz
BV:=Y->k1
BW a b:=by obtain⟨h1,a⟩:=b
BX:=G1/\pz\/G2/\v5\/G3/\AB
BY:=vp k p.2
BZ:=fh*GX
B1 a:=by exact Gi a
B2 a:=qK a aM
B4:=NH k []
B5 b:=measure B w t a b
B7 b:=b<=(mB+As)
Hl a:=a plain_eq_loop _
B_:=gV->aL
B':=rn Seq
B!:=rn Row
B?:=az eh
Ca:=fx cI
Ce a:=zf a
Cf a b:=(qW a).d4 b
Cg:=aa+aw
Cj:=aa<aw
Cl:=V->v1
Cm:=(gu n).or
Cp:=aa=aw
Cq:=(z:ad) - aa
Hm:=Us 0
Ho:=by simpa using al
Cr:=dv hy
Cs:=dv hx
Ct:=mi aL
Cw b:=kO a=Z b
PJ:=jO oz - oA
Cy:=rs EP
Cz a b c:=a f i bH b=.ok c
CA a b:=Fj a b
CB a b c:=a (by exact b hz c)
CC a b:=ri a=Z b
CD:=bn (a<bh)
CF:=4449<=aa
CG:=aa<=4469
CH:=bA ac
CI a b:=pieceCost B a b
CJ:=bA cK
CL:=(b8).to.length
CM a:=kZ #[16,a]
Hq a:=a (t':=s1.toks)
CN a:=vR not a
CO:=fk AC
CP:=aj aM
Hr a:=a x=Z .jb
CR:=((0:Y):ad)
CS:=b-iD
Hs a b c:=∃W:Y->Y->ci St Hp,(∃m,W 0 m σ H)/\∀i m σ H,W i m σ H->((a).rf i H/\Ax)\/((b).go i H/\Py W H' (c).o_)
CU a b:=if a then b else[]
CV:=iD+(11172:Y)
CY:=oT x c e
CZ:=weight1 e !=0
Ht:=by simpa using hx
C3:=i<=fe
C4:=GN r
C5:=wf B w t col
C6:=(k,#[a,z,v])
Hu:=Pz (r.all F9) VC t
C8:=a<=(10000:Y)
C_:=(55296:Y)
C':=(55295:Y)
C!:=cC aI
C?:=cC aL
Da:=b<=cP
Db b:=b bQ H a xs
Dd:=cP<=a
De:=aC K H a xs
Dh:=kW DX hx
Di:=ix B n c
Dj a b c:=2*z+w=a->w<2->b->c
Dk:=u9 B u_ c
Dl a:=by simp[a]at h
Do:=Array a!
PK:=oB+1
Dp:=0<cP
Dq:=cP - 1
Dr:=bA Bytes
Ds:=Array (Option a!)
Dt a b:=(vb a).b
Dw:=md cQ
Dz:=a<cQ
DB:=a<bP
DD:=nG.getD t []
DF:=((0:Y):ad)
DG:=lS max k
DH:=Fp eS n r u
DI:=GZ hp
DJ:=g9 B bb k
DK:=(p,w)::G7
DM:=nY kP
DN a:=A.deeper a
DO a b c:=a aB bM fR b c
DP:=aa - 2
Hw:=vM br
DS:=bz B k c
DT:=mD fs
DU:=cY us br
DW:=gL^Pm
DY:=G0^Pm
DZ a:=v2 l a
D0 a:=a=bP
D1:=GY*c
D2:=G9+z=x
D3:=zS N vs
D4:=cr x hx
D5 b:=back I a b
D6:=44032<=x
D7 a:=a<=r.last
D9 a:=AllBare a
D_ a b:=(a).oH b
D' a b c:=λ a es ep b c=>?_
D!:=(b8).bH
D?:=GA 1 c
Eb:=b∉jd
Ec:=pA b hb
Ed:=v6 xb n2
Ee:=z.1.qT
Ef:=4520<=x
Eh:=gD×bj
Ej a b c:=λ i j a b c=>?_
El:=eG EK hi
Em:=cY us n
Hx:=(u,m)::r
En a:=ps.zip a
Eo:=b::i8
Ep:=gP a ns
Es:=a::b::i8
Et:=64*eh
Eu:=BU p t
Ev:=jf p t
Ew:=z5 a
Ex:=Z u
Ey:=ba<=z
EA:=uq B t
EB:=p7 lo n
EC:=y<=64
ED:=.must
EE a:=λ x=>a
EG a:=λ i=>a
EH a:=λ p=>a
EI:=k==13
EJ:=-(2^62)
EL:=[op,lY]
EM:=bi - 1
EN:=x+2+z
EO:=y+3+z
EQ:=.cell
ER:=bD - a
EU:=ga - a
EW a:=(a).ox
EX:=ba - 1
Hy a b c:=do let ov<-a;OJ apos.atName;let(f,first)<-zN [ov] (O6 ov b pl);PF f first c
EY:=0<=x
EZ:=[b,c]
E0:=f_ s
HD:=AE sj (u::r.map gj z.1) U1
HE:=jB jB r9
HF a b d:=by rw[ft,<-a rY b d pv];obtain⟨c,rfl,q1⟩:=q1;cases r1
HG a b c:=by refine bf (fi a _ I h) λ v s1 b=>aO c pv
HH a:=#[rfl,G6 a]
E1:=x+3
E4:=8 - x
E6:=x=2
E7:=l++m
E9:=f - 1
E':=hi - lo
E!:=md i
E?:=z - y
Fa:=x<=y
HI a b:=by rcases eD hx with rfl|hx;(.exact a);.exact b x hx
HJ:=Ha P w aK
HL a b c:=by obtain⟨u,hu⟩:∃a,b:=#[c,gd v4]
HM a b:=by have hb:a:=Ob h;simp only[Go,hb,b]
HN a:=r6 uY a
HP a b:=by have cj:a:=F4 b;simp only[cj,Option.all_none];rfl
HQ a b c:=by simp only[a,b,fc,i4]at c
HR a b:=by obtain⟨a,b,h⟩:=Option.bind_eq_some_iff.mp h
HS a b:=by have cj:a:=Ob b;simp only[cj,lM];rfl
HT a:=∀b u,a->mj kO->z6
HU a b c:=gW mG (a ee x b c) Q
HV a b c:=by rcases l with _|⟨a,_|⟨b,_|⟨c,l⟩⟩⟩
HW a b c:=bf (r! _ I1 q1) λ u s2 a=>aO b Hc y r2 (bf (gG ho s2 H2 x y v u _ I2 r1 r2 q2) c)
HX a:=last.bind λ(x:a)=>r? gl Z b8
Fb:=a-b
HY a:=by rw[v8 a i7 i7]
HZ a b c:=by refine df a λ bI H' b q=>?_;exact(cF bI H' I.tL c)
H0:=G_::us
H8 a b c:=jy (a b c pos.line dl) (pure fS)
H9 a b c:=by apply Vn;intro a b;rw[k5 c]
H!:=λ(a:cC ac)(x:Y)=>a.bind λ(y:ac)=>z? (18<PK) ((u9 B n x).bind λ(z:ac)=>z? (18<oB+NI) Z (y++z))
H? a b c:=i! pb A a b c s
Ia:=PJ+1+(d:ad)
Ic a b:=by unfold a;rw[y',b]
Id a b c:=by rcases l with _|⟨a,_|⟨b,c⟩⟩
Ie a:=bm Nat.le_add_left_of_le a
Ig:=GC V5
Ih a:=by(have:a:=by rw[jS]);subst al
Ij a b:=by apply List.map_congr_left;intro a b
Ik:=by exact Ur h
Il:=au::G! Hf fS
Im a b c:=∀i q,i<a->k6[i]?=Z b->q.last<c
Ip a b c:=by(have e:i=a:=by exact sS hi a8);subst e;rw[k7 #[b,gH hd c]]
Ir:=by dsimp only[U8]
Is a b c:=g_ ge a (last.all λ(x:b)=>bn (x.1<=c))
Iu:=eA NP
Iv a b d:=match fq with|[]=>a|b=>d
Iw:=Pp<=ro a
PL a b:=PySem.W.methodCall_KW (a:=b)
Ix a b:=Ph a=Z b
Iy a:=bm Uv a
Iz:=(mh%rp)/ma
IA a b c:=by rw[dA (ah (a h) ar m e b) c]
IB:=kW Wb n hb hx
IC:=kW V! n hb hx
ID:=dz-Pp
IG a b c:=by dsimp only at a;rw[AL jr (k<b) hk]at hr;exact c _ (FJ.mp hr)
IN a b c:=by show(match a with|[]=>b|l=>c)=_
IO a c d:=match a with|ak=>c|e8=>d
IP a:=vF (a≠"__name__") Az._auto_1
IQ a b d:=if pH then a else b++d
IR:=Pw op=false
IS:=λ k hk=>hp k jQ hk
IT a:=List.mem_append_left _ a
IW a b c:=∀{xs:cl}{a:cq}(b:Y),sh->c
IY:=cE X.iF.heap.get? o
IZ:=rG j
I8:=by rw[ze];simp
I9 a b c:=O1 a my b=Z c
I_ a b c:=∀(a:Y)(b:eo),c
I!:=mh/rp
I?:=(AJ).d4 AH
Jc a b c:={a with b:=Ab,ct:=Ab,c:=rl}
Je:=v! pC
Jf:=c - jT - 0xAC00
Jg:=by rw[UI]
Jh a:=by exact Wp a
Ji a:=vF a gv._auto_1
PM:=List.getElem?_range h
Jj a b c:=by refine aW (λ i m σ H=>m=a - i/\b/\Aj) (aZ c aM mE h0) ?_
Jk a b c:=a (cQ+1) 0 ak b=c
Jl a b c:=a (gE+1) 0 ak b=c
Jm a b:=by(conv=>lhs;whnf);delta a;dsimp only;generalize b=x
Jn a:=by rw[List.mem_range]at a
Jp a:=bootBuiltins x=Z a
Js a:=(List.of_mem_zip a).1
Ju a b c:=by unfold lU at a;simp at b;exact c hs
Jv a:=WL a
Jw:=F? b o e n hx
Jz:=iL lV FD
JB:=zF xa.toList ns
JC a b c:=by rintro a b σ c⟨rfl,hi,p⟩
JE a b c:=mm a x b c I1 r1 q1
JF:=AF es
JG:=At AQ
JH:=pi+i
JI a:=by exact wpAny_Name a hd
JJ:=by exact Fq _
JK a c d:=fK a H I1 c d jL (λ b hb=>(jY hf).1)
JL:=uZ dn x dx C mA
JM:=d?+1
JN:=No h
JO a b c:=a0->a->a2->a3->a4->a5->ci b c
JP a b:=(kD a).bz b
JQ a:=zF xb.toList a
JS a b c:=∀i σ a,b->Aj->c
JT a b c:=Fj (a b) c
JU a:=by refine re a
JV a b c:=cc x2 x3 (a->b->c->U)
JX:=-AK
JY b c d:=show a+b=c by exact d h1
PN a:=Gn a=Z v
J0:=bB - aw<0
PO:=Uu 4
J2 a b c:={a with zi:=b,qT:=c}
J3 a:=U6 a 0
J4 a:=dy gu a
J5:=Gq bb l
J7:=cE ri o
J9:=B.seqs.getD k []
J_:=ap (lV iz)
J! a b c:=k_ x y (∃a b,x=eX i/\y=AS/\c)
J?:=rA::hv
Ke:=ce zo e a l
Kh:=(mq (NO br)).1
Ki:=cw Gn m
Kj a b c:=a P w K mg b c d! s H
Kk a b c:=if(ap a)then b else c
Kl a:=dy dI a
Km a:=FB a r
Kn:=dz<=(55203:ad)
Kp:=cE kO o
Kq:=mK zm
Kr a:=Fw c_ a
Kv:=bB<aw
Kx a:=om (decide a)
Ky:=σ.set i mQ
Kz a:=a<=8192->mO
KA a b:=if a then ak else b
KB:=aa<=55203
KC:=44032<=aa
KD a b:=show a by exact b h1
KE:=Gs j7
KF:=V2<=a
KG:=55296<=ek+z
KH a b c:=#[sn a,b,I1,rfl,c]
KI a b c:=∀k r,a->r∈b->c (k,r)
KJ:=aa<=4370
KK:=4352<=aa
PP b:=b a OK
KL:=rL<11172
KM:=sg bb
KO:=ek+z<57344
KP:=ad->ad->ad
KQ:=I.ok.CQ x c JZ hc
PQ:=q? (ns.drop i) (ms.drop i)
KR a:=Nu (p:=a)
KT a b c:=Turn P w K tg a [it] it (λ i b=>c)
KU:=zz 1
KW a b c:=if a<b then 6 else c
KY:=ez o
K0:=mt pos'
K1 a c d:=a b o k8 (c (by simp[d])) e
K2 a:=ek+(57343 - a)=57343
K4 a:=ek+(55295 - a)=55295
K5:=weight2 e !=0
K7:=by simpa using hy
K8 a b c:=a+w=y+3->w<4->b->c
K9:=v? - wd
K_:=qS B n x
K':=bZ br X.A
K!:=qS B n a
K?:=n<=gt
La:=h x aM
Lb:=4*t<oq
Ld:=(55204:Y)
Le:=x<=16777216
Lf a:=0x1100+a/588
PR:=!aq.isEmpty
Lg a:=g! a ((·.1))
Lh:=se=oA
Li:=Fw AN
Lj:=dR (oR x)
Lk:=plain w k g
Ln:=a-(b+e6)
Lo b:=b (gu a)
Lp:=y=16777216
Lq:=(4371:Y)
Ls:=(4470:Y)
Lu:=(4520:Y)
Lv a:=0x1161+a/28
Lw:=lK+1
Lx a:=a=ms.length
Ly:=cP+1
Lz:=0<bP
LA a:=a<=cQ
LB a:=x+a<=120400
LC:=a<gE
LD:=a<cP
LE:=oY x c e
LF:=f AR (kU j u)
LG:=k==0||(k==3||k==9)
LH:=hm b _ q λ z=>z
LI a:=oz<=a
LJ:=cs.headD 0
LK a:=gE - a
LM:=bA Says
LN:=bB=2
LQ:=bB=4
LR:=bB - 1
LS:=(b8).first
LT:=(b8).qI
LV:=i3 _ ag y hy
LW:=λ _=>ak
LZ:=upd H x o
L1:=x+aw
L2:=hv.map ej
L3:=i=oM
L4:=(65:Y)
L6:=l3 0
PU:=.UnaryOp
L7:=vg l
L8:=i' a
L_:=bK f y fs
L' a b c:=λ a b c e1 e2 e3=>?_
L!:=kU c u
L? a:=FM a
Mb:=iH+1
Md:=Y->Y
Mf:=vb s
Mg:=y<=8192
Mi:=(1:Y)
Mj:=x<55296
Ml:=x<16384
Mm:=(0:ad)
Mn:=b8≠0
Mo:=eval e env
Mr:=kU a t
Mu:=min x y
Mw:=sk f2
Mx:=a::AV
Mz a:=n.drop a
MC:=jD s a
ME b:=(b - 1)::gP eY r
MF:=iK p t
MG:=jz p t
PV:=mS - 1
MH:=EF r ta tb
MI:=bz B 0
ML:=sm m a
MM:=λ _ q=>q
MN:=X.pB E
MO:=8 - cI
MQ:=x::xs
MT:=eh - z
MU:=Hg - 1
MV:=z - x - 1
MW:=x=10
MY:=x=11
MZ:=64<x
M0:=f v u
M2:=x++r
M3:=z=0
M4:=z+2
M6:=a++b
M8:=a - 1
M9:=b+1
M':=lo+i
M!:=a+x
M?:=x+z
Na:=y<x
Nb:=i+j
Nc:=n+m
PX b d e:=by rw[ft,He PL pl pl (fo he λ u s1 b=>Rm d e) ht,<-Kd I1 ea c hm l ?_]
PY a c d:=Meets (Builtin.«list.__eq__.loop» #[a,[]]) (λ _ R s=>PD c d PQ)
PZ a b c:=by refine .inr (eF (cF xs (xs[i]) a jQ a8) Ab (λ bI H' p'=>(fF (fe - bD) bm p6 a8 ag a8 p')) hV x H' y);obtain⟨e,y⟩:=y;subst e;exact hs i b σ _ (y xs q) c
P0 a c d:=Meets (a #[[ee l,.cS b],[]]) (λ _ R s=>PD c d (q? ns ms))
P1:=by(rw[Hd l b d];((.rw[f8 h0 Hm]);.rfl);(.rfl);.rfl);.rw[f8 h (Nh (PO bP))]
P2 a b c:=by rw[Ay sx C7 ?_ eg,<-WE (h₀:=jc) WF a (AA b c λ vs H1 I1 r q=>#[I1.jE,?_]) he a_]
P3 c d e:=f' ez a (λ v s₁=>py ez b (λ c s₂=>py d e s₂) s₁)
P5:=(Hb).objs.size
P7:=by rw[wa b l_,I1.Cc (u8 _) AU]
P8 b c d:=∃a C dx fs b,sv/\mP H1/\c/\wv K/\PN f/\d
P_ a b c:=by rw[wc a rv p,<-ah (rv.get hx) ar u hu ru,wj f1 f4 f5,<-b st c (x:=u) dv hu ar h' jL sb]
P' a b:=by have hb:a:=F4 h;simp only[Go,hb,b]
P! a b:=by rcases eD hy with rfl|hy;(.exact a);.exact b y hy
P? a c d:=aE ee l_ (upd H1 l_ a) (Hq I1.laid (λ b u c=>vT e) gh ?_) ag (d _ hf)
Qa a:=by rw[wb Ur a]
Qb:=iM u mj rc z6
Qc a b c:=by cases e with|lJ f=>rw[bo]|ok a=>exact aW b ag c
Qd a b c:=by rw[g4];obtain⟨hy,e'⟩:rV a/\k=(jO b !=0):=c;subst e'
Qe a b c:=by rw[dA (ah (F0 a) ar i hi b) c]
Qf a b c:=by rw[aj a];obtain⟨k,hk⟩:∃k,ie b=k+1:=#[PV,by exact aaz hz];rw[c]
Qg a b c:=by rw[Nw (Gb hj)]at e2;refine ah (a e2 e3) ar b r' c;refine aW u' r' ?_
Qh:=(sd).o3
Qi a:=(vB vC).a AT
Qj a b:=by(have:x=c:=by simpa[a]using b);rw[dB al hc]
Ql:=by cases i with|cu=>exact al|cv i=>rw[Ho]
Qm:=by(have:x=c:=by rw[Ht]);rw[dB al hc]
Qn a:=by rw[Int.fdiv_eq_ediv_of_nonneg i a];exact q
Qo a b c:=by have a:b:=List.getElem?_zip_eq_some.mpr c
Qs:=Gv Pw op _L.gz._auto_1
Qu a b c:=by subst e';rw[iJ a hx λ aF b c hz=>?_];have fO:=lK
Qx:=Hr Wc
Qz a b c:=by rw[we f hf e];have a:=b hr;have e2:=wr c aB aB hl;unfold fz at e2;rw[ao hr]at e2
QB b c e:=by rw[F4 jF];have N3:=TU A.in1 wp g d tk a t b c dk e
QD:=Hl Around.under_plainId
QE:=show PP s.heap.IsTuple from p
QF a c d:=av->At (oU X ae H b)->tn i dn->a->i! A5 c (pyNext A_) d E s
QH a:=by apply Classical.byContradiction;intro a
QI:=∀σ H,Pv fe σ H->Ax
QK b c d:=by rcases h with _|⟨x,_|⟨b,h⟩⟩;((.rfl);.rcases c with _|⟨a,_|⟨d,t⟩⟩<;>rfl);.rfl
QL a:=by intro l i bH ps h;cases a<;>rw[bo];exact #[aM,dW,fC]
QO a:=show a by exact Nat.sub_eq_zero_of_le h
QP a b c:=(∃xs,aC a H p xs/\k=G?)\/(∃xs,aJ b H p xs/\k=G?)\/∃aq,H c=Z (.dK aq)/\k=PR
QR a b c:=by right;refine #[e,?_];simp only[u2,a,b,i4]at c
QS a b:=by show a;exact NM b
QT:=bm U5 h3
QU a:=(vB vC).a
QV b c d:=ol (ol (ol (ol (ol h a) b) c) d) e
QW a:=by simp only[Array.length_toList]at a
QX a b c:=by injection d' with d1 a;(have:b:=by simpa using vR Array.toList d1);subst al;exact r.inj c
QY a:=g a eA Uo
QZ:=oE I.ok.pL vy
Q3 a b c:=by simp only[List.zipIdx_cons,List.zipIdx_nil,a,b,c]
Q6 a b c:=by simp only[fc,i4]at a b c
Q7:=y4 h
Q9:=mz oo (a::z::v::l)
Q_ b c d:=by unfold b;(have h1:(c a)[AI]?=Z d:=by rw[oF,show a+AI=k by exact FF h,e]);rw[show k+1 - a=AI+1 by exact NT h,zw,h1];simp
Q! a b c:=lh eS (a kn (num b)) c wu r
Q?:=by rw[gi Nat.sub_add_cancel h1]
Ra a:=by rw[a,U7,qU]
Rb:=by dsimp only[U8,u2,lM]
Rc a:=by rw[e9 a List.takeWhile_cons]
Rd a:=Gv a F6._auto_1
Re:=vB vC
Rf a b c:=ju t xs (Hk/\∀a,cw H1 p->e7 cS p (upd H1 b c))
Rg:=by rw[qN,PM];rfl
Rh a:=by simp only[gA]at a
Ri:=FQ hl
Rj:=ND hr
Rk a:=a eA gy
Rn:=Hi fO
Ro:=by simp only[List.size_toArray];exact Ms hs fO hz
Rp a b c:=match a with|ak=>b|Z (xs,t)=>Z (c::xs,t)
Rq a b:=VD bm a b
Rr a b c:=∀{binds:AZ}{a:g5},(∀v,(x,v)∉binds)->b=c x
Rs a b c:=55296<=x/\a<57344->55295<=y/\y<=57344->b->z<1114112/\rB z z->w<=y/\y<=q->bg c
Rt a:=PySem.W.methodObj (.cS f) a
Ru a:=uY (by exact a)
Rv:=List.Pairwise.filter _ List.pairwise_lt_range'
Rw a b:=VG bm a b
Rx a:=pI NL a
Ry:=V.ref jA
Rz a b c:=GK p.1 p.2/\cw H a/\sD fX/\p.1∉jd/\∀b,c≠.cell v
RB a b c:=by rw[iJ Fv a λ r hr b _=>?_];rw[<-e];exact c r hr
RD:=Hj c_ (x.cls==6)
RE:=ap (PySem.W.hasDictIn K C)
RF a:=by exact h a FI
RG:=by simp only[u6]
RH:=AY qP
RI:=eA gy
RJ a b c:=PS X (.AugAssign a op b aY) c
RL:=Ww K C dq
RM a:=(Wx a).1
RN:=0xE000 - pi
RO:=0xD800 - pi
RP:=0xDFFF - pi
RQ:=0xD7FF - pi
RR:=s.heap.Ns fX m
RS a:=Wa jc a
RU a:=(WI a).1
RV a:=Fm a
RW a b c:=by show a=_;unfold b;exact c (i:=i) (WI nd).2 A2 dv h2 hk
RY:=cellsFrom jA scope.names []
R0:=#[λ b o e n hb hx=>?_,λ b o e n hb hx=>?_,F?,λ b o e hx=>?_,I.base.pE,I.base.oa,I.base.o5]
R1:=by exact zq k
R3 a b:=a i (List.mem_range.mp b)
R6 a:=Nat.add_lt_of_lt_sub' a
R7 a:=ap (PySem.W.handedIn a)
R_:=Nw e
R' a b c:=∃a,b/\∀dq,O0 dq c=Z (mA dq)
R! a b c:=a->¬(55296<=y/\b<=57343)->(em=jZ\/aa=55295/\aw=57344↔c)
R? a b c:=#[λ i H=>a,λ i H x H'=>H'=H/\∀xs,b->so,λ i H=>∃xs,c/\fe<=i]
Sc:=WL h
Se a b:=ap (PySem.W.keepIn a b)
Sf:=vo (zq _)
Sg a b c:=if bG then q? xs a else bn (b<=c)
Sh:=by rw[Ob jF]
Si a:=Ol q_ f_ a
Sj a:=a (UQ i)
Sl:=N4 h
Sn a:=mI a ((·.size))
Sq a c d:=j4 fp (∃a,c/\∀d,o.data≠.cell v)
Sr a b c:=by have hu:0<d_:=a (u,m) aM;have b:lW Hx=d_+c:=by simp[lW]
Ss:=d?<=a
Su a b c:=∀(a:Cx),oS=b->X.w=w->bQ=K->wl->c
Sw:=wI intBits_le_64
Sx:=zQ=vE
Sz a:=V6==a
SA:=zq _
SB a b c:=codeAny_mono (a r2 b) ar r s' c
SC:=NE hr
SD:=bn (i?<=oM)
SE:=dI (kF si)
SF:=sq [1,2,3]
SG a b c:=∀{a b:Y}{y:sy},j_[i]?=Z y->y.1=wq+c
SH a b c:=sp (ee x::pP) (upd a x vL []) (λ b H2=>c=.cB/\e7 cS x H2) E
SI a:=wo a ((· < ·))
SJ a b c:=do let a<-rm;OJ b;zN [v] (truthy c)
SK:=A8 I.ok.bs
SL:=s.heap.IsCell c v
SM a b c:=PySem.W.fnOf dq rh params rg oN a b c
SN:=mU oo
SO a b c:=(a b (by exact c fs fm qM)).1
SR:=mI (kD 14) (λ k=>xD (lQ k ps) k)
ST:=PU .Not a aY
SV:=dv hle
SW b:=one [12,10] a&&b
SX a:=beq_iff_eq.mp a
SY:=O9<1000
SZ:=(b8).key.length
S0:=GN bb
S1 a:=show¬a by decide
S2:=(1114112:Y)
S3 a:=a - 0xAC00<11172
S5:=a<V2
S7:=I.ok.C1 b o e
S9:=Value.int i t
S_:=one [1,2,3] a
S':=NU br
S!:=FM w k g
S?:=VC z
Ta:=I.ok.bs b o e
Te:=Hw - 1
Tf:=kD 10
Th:=by assumption
Ti:=NH 0
Tj:=NH 1
Tk:=w.keep=false
Tl:=zz 0
Tm:=vp 1
To:=j<1073741824
Tp a:=dR (a "range")
Ts:=lU x
Tt:=kD k
Tu:=kD n
Tw:=zX "tuple"
Tx:=weight3 e !=0
Ty:=(57343:Y)
Tz:=57343 - eZ
TB:=57344 - eZ
TC:=55296 - eZ
TD:=55295 - eZ
TF:=variable_ e
TJ:=a<=cQ
TK:=cQ<=a
TL:=Fw f
TM:=oA<=GF
TN:=aa+(4 - 1)
TO:=x<=1114112
TQ:=(8192:Y)
TR:=[cP]
TV:=bP<4
TW:=N! B
TX:=qR c
TY:=Nj k
TZ:=bP=n
T0:=cQ - a
T1:=p<cP
T3:=bef.drop 1
T4:=b.conj==2&&linked fS l
T5:=zA≠0
T6:=cQ=cP
T7:=.function
T8:=bB>=2^63
T9:=kF si
T!:=qS B 0
T? a b c:=λ a s2 b=>aO c λ y H2 I2 r2 q2=>?_
Ua:=oG==2
Ub:=b.pict&&sprout l
Ud:=oG==6
Ue:=vi a
Uf a b c:=by rw[Ay (yb I hg hm hv ?_ hn eg),a (AA b c λ vs H1 I1 r1 q1=>mm hc vs us Q I1 r1 q1) he a_]
Uh:=.lst xs
Ui a b c:=bf (gG hc s3 H3 _ I3 q3) λ w' s4 a=>aO b λ z' H4 I4 r4 q4=>c
Uk:=u::x::aB
}
section
open _Z _Z.T _Z.F
variable{x y z w q r t:Y}
def z:={
Cv:z=x->dE->am:=Qw
tD:0<=aa:=Qw
nI:bg (x<0):=Q
oV:qA->¬kx->ax:=Q
p6:c5->n_<bi:=Qw
sf:Cj->ax:=Qw
zg:fb=qw:=Qw
tq:ax->x<bv:=Q
sS:am->¬ky->bG:=Qw
vm:x<=ba:=Q
BP:x<z->y=z->ax:=Qw
Ci:ax->aa<aw:=Qw
yD:sH->n9=x:=Q
zu:¬(em<aa)->am:=Q
R8:am->am:=Qw
xG:x<aG:=Q
zt:c5->f?=az jP:=Q
QQ:¬(bB<0):=Qw
Al:b?->f?=az jP:=Qw
A1:x<fb:=Q
Ao:mO->nC:=Q
Dv:Cp->bG:=Q
Cd:bG->aa=aw:=Q
ajc:K8 (4*z) (x<z) (4*x<y):=Qw
Bm{a b:Y}(h0:sO):qh<b:=c9 ajc
Bc:aa=2->x=2:=Q
HB:am->eC<=y:=Qw
adY{x:ad}:b?->lz:=Qw
Ms:Lp->z=x->dE->aa<2^63:=Qw
GO:bi<=0->am:=Q
Er:yT<=x:=Q
Eg:sH->0<=f?:=Q
IE:¬(0<=CR - 1):=Q
DL:0<aG:=Q
DV:0<y->bG->b?:=Q
Fx:ax->bg dH:=Q
E3:da->y=z->am:=Q
FN:c3 kx (bB=aw):=Q
Ii:mO->x<2^40:=Q
D8:0+aa*4=az (4*x):=Q
E_:Kz (y+x+z+w):=Q
H_:c5->eC - y<bi:=Q
Gu:dH->¬Na->bG:=Q
JW:yC->y<=18*z->ba<=18*eE:=Q
Oe:ax->x<y+z:=Qw
Gp:c5->x≠y:=Q
Hz{a:Y}:((fx qh)/(4:ad))=ro a:=bY
KN:w+q<=z->w=x->q=y->Ey:=Qw
IH:am->¬Kv->bG:=Q
J8{y:ad}:aa<y->x<tS:=Q
MA:x<=aG:=Qw
O_:x=y+eE->x=bv+z:=Qw
Kt:j! (bB+1 - aw) ek:=Q
M7:am->y<1114112->xh/\tJ/\jM (aw+1)/\gR (aw+1):=Q
IK:Cg=az (x+y):=Q
M1:m7 - 1=aa:=Q
JA:sH->y=yT->qx:=Q
Ku:b?->x=n9:=Q
Kb:ax->aG<bv:=Q
KZ:x<z->z=y->am:=Q
Jd:¬(0<aa)->x=0:=Q
IM:x+3+z<=y/\w<15/\0<z->x+3<=y:=Q
MK:x+3<=yI:=Q
NX:x<el xY->aG<y:=Q
L9:qw=ba+1:=Q
aeq:aa<1\/c5->b?->c5:=Q
X8:1<=aa/\am->b?/\am:=Q
alc:K8 (4*z) (x<z) (4*x<y+4):=Qw
Ow{a b:Y}(h0:sO):qh<(b+fh):=c9 alc
Ov:Kz (ba+z+w):=Q
NF:Kz (y+z+x+w):=Q
O2:jM f?:=Q
O5:c5->f?>=aw:=Q
Lm:aa=4->x=4:=Q
Ma:¬(LR>=aa):=Q
K3:yE->x<2^8:=Q
Kg:yM<=w->ba+z<=w:=Q
J6:ba - x=y:=Q
azW:bi<=bi:=Q
aFP:am->Lp->x<=1099511627776:=Qw
Nr{x:ad}:x<aw->dG->z<2^63->x<2^63:=Qw
OD{x:ad}: -em<=x->dG->z<2^63->-2^63<=x:=Qw
JR:Ey->Ey:=Qw
aD5:fb=c4+w->ba=z+w:=Qw
akz:y=z->w=x->ba=z+w:=Qw
ab9:y=z->z=x->am:=Q
aaZ:y=x->am:=Q
Wg:bi=c4->n_=z:=Q
afu:c3 ky Kv:=Q
Zw:am->aG<=EO:=Q
ahu:ax->bg bG:=Q
UG:w+eh<=z->x<=w+1->ba<=z:=Qw
ad7:x<=c4->d0->qx:=Q
adF:uv->eC<=bv:=Q
RZ:x<3->y=3->ax:=Q
Sa:aG=z->x - ks<z:=Q
aaj:aG - 1=x:=Q
aab:fb=ba+1:=Q
asU:aa≠ -1:=Q
VP:aa=m7 - 1:=Q
S6:ax->¬(x=kt)->x<kt:=Q
abL:ax/\dG->am:=Q
Yh:lA->uo:=Q
adC:dH->x=y+oh:=Q
XT:am->x+1*oj=y:=Q
Zf:1<=x/\x<1+ks->b?:=Q
Yi:z<x/\x<=w+1->w<q->q=y->am:=Q
X9:c5/\x<=c4->0<bi:=Q
afi:ax/\qC->x<w/\w<=c4->ax/\y<=c4:=Q
Xl:x - w<=c4->w<y->bi<=z:=Q
TH:qy<=y->4*x+1<y:=Q
afw:0<aa->lz:=Q
V7:c3 MW (bB=10):=Q
acw:¬(oh=0)->1<=bi:=Q
U':x<4*y+4->x - 4*y<4:=Q
XO:kv<=x->d0->n9=x:=Q
abu:x+2<=yH:=Q
U2:c4+w<=y/\q<3/\d0->x+2<=z->x+2<=y:=Q
Vm:y<=aG->lm+1+cA=az (eZ+z):=Q
anA:m7=aa+1:=Qw
Tn:0<y->da->aG<=y+z:=Q
QA:1+aa=az cI:=Q
Tq:qz->x<el xY:=Q
Y4:aa<=aw->bg c5:=Q
adU:¬(em<=aa)->ax:=Q
Rl:aa=11->x=11:=Q
QJ:c3 (bB=11) MY:=Q
Wm:Cj->bg dH:=Q
Z3:yI - E1=y:=Q
ao2{a:Y}:((wH-iD)%ma)=et:=up
ZE:n_=c4->x - (eh+1)=z:=Qw
ac6:qA->x≠y->ax:=Q
aex:aa=13↔x=13:=Q
Tg:4*cI<y+4->4*x<y:=Q
avB:qq->z<4->4*y<x+4:=Qw
aaN{a:Y}:BZ<(a+fh):=k! avB
UE{a b:Y}(h0:(b%fh)=et)(h1:sO):(qh+vQ)<b:=bY
Yz{a b:Y}(h0:(b%fh)=et)(h1:sO):(qh+k4)<b:=bY
Wy{a b:Y}(h0:(b%fh)=et)(h1:sO):(qh+e6)<b:=bY
awW:qq->z<4->4*w+q=x+3->q<4->z=0->w=y:=Qw
adV{a:Y}(h0:iT=et):BJ=GX:=awW dr dt dr dt h0
axO:aa<=aw->am:=Qw
adb:ba - x+1=bv:=Q
ad0:x<=1+oe+z->aG<=1+oe+eE:=Q
adA:x<=oe+z->aG<=oe+eE:=Q
Qy{a b c d e f:Y}(h0:pp fv gK d)(h1:(d+e)<b)(h2:a<=((e6+D1)+e))(h3:b<=f)(h4:f<=uf):C8:=bY
acx{a b c d e f:Y}(h0:pp fv gK d)(h1:(d+e)<b)(h2:a<=(D1+e))(h3:b<=f)(h4:f<=uf):C8:=bY
UZ:c3 (bB=6) (x=6):=Q
QG:aa=6->x=6:=Q
UM:da->d0->qx:=Q
axy:bv<=2->x<=c4->ba<=c4+1:=Q
U9:z<w->z=x->w=y->ax:=Q
YD:x<=n9:=Q
WO:am->dG->qv->2*x<=200:=Q
Qv:aG<z->y=z->qz:=Q
Yj:yM=ba+z:=Q
ab7:c3 (y=x) kx:=Q
aav:z<z\/z=z/\ax->ax:=Q
aHV:yG->Mu<=18:=Q
ayC:x<=18*z->yG->z<=18->ba<=1000:=Q
aDu:x<=18*y->yG->uo:=Q
aLm:aa=8->x=8:=Q
azi:x<=8->¬(bB=8)->x<8:=Q
aiA:aa<=18->yC:=Q
ahS:x<8->MO<E4:=Q
aGA:aw<=18->x<=18*y->x<=324:=Q
aMz:18<aa->18<x:=Q
aIl:¬(18<aa)->yC:=Q
auX:yC->aa<=18:=Q
ac4{a b c d e:Y}(h0:wn d)(h1:a<=((e6+D1)+e))(h2:b<=L4)(h3:e<uf):C8:=bY
Sy{a b c d e:Y}(h0:wn d)(h1:a<=(D1+e))(h2:b<=L4)(h3:e<uf):C8:=bY
Q0:bG↔Cp:=Q
Qr:aa=1->x=1:=Q
aac:c3 (bB=1) (x=1):=Q
aa8:z - 1=y->x<z->x≠bv:=Q
acD:c3 LN E6:=Q
Uw:x<=x+0:=Qw
adM:x<=w+z->w<=bv->x<=y+eE:=Qw
adN:x<14->aG<32:=Q
T2:¬(32+x<32):=Q
XJ:x<15->32+x<64:=Q
aem:¬(64+x<32):=Q
Xp:¬(64+x<64):=Q
R5:b?->am->y=1->x=1:=Q
Yo:am->x+(eh - x)=bv:=Q
V4:x=z->z=y->bG:=Q
Vy:0<aa->b?:=Q
aiU:4*y+z=x+3->z<4->x<=4*y:=Qw
aby{a:Y}:a<=(fh*BJ):=k! aiU
YH:x<15->y=15->ax:=Q
YL:aa=0->x=0:=Qw
aaK:¬(Ca=0):=Q
WH:0<xg->xg - 4=az (4*x - 4):=Q
aca:qy<=y->4*x - 4<y:=Q
abn:b?->xg - 2=az (4*x - 2):=Q
Uj:qy<=y->4*x - 2<y:=Q
abI:xh:=Q
afd:ax\/bG/\z<w->am:=Q
aeE:64<aa->64<x:=Q
ZF:c3 (64<aa) MZ:=Q
S8:¬MZ->nC:=Q
afb:yo->yo:=Q
VQ:bG->¬ky:=Q
acO:qf/\x<55204->KL:=Q
aaz:¬gs->x=n9:=Q
U4:da->min oh E?=bi:=Q
R4:ax->x+oj=y:=Q
Ut:max (max x y) z=max x (max (qB y) z):=Q
ade:z<w->z=q->w=q->bG:=Q
UK:rR->ek<=1114112:=Q
aaI:am->aG<=bv:=Qw
QN:aG+z<=y->z=1->qz:=Q
adP:EN<=y->ax:=Q
ZH:bG->Mg->nC:=Q
Y2:am->lm<=0:=Qw
avY:am->Lp->¬T8:=Qw
ac8:x+3*eh+5<z->aG+3*y+5<z:=Qw
ats:ux (x+16*eh)->ux (aG+16*y):=Qw
awg:min oh E?<=z:=Qw
RA:d0->z=x->am:=Qw
aHF:0+y=z+x->am:=Q
aK8:c4+y=0+x->¬Fa:=Q
ao8:x=z\/bG->¬(x=z)->bG:=Q
ajP:da->z=y->¬(x=z)->ax:=Q
aCb:z=y->z<=x->¬(z=x)->¬Fa:=Q
aE9:y=z\/y=x->¬(y=z)->am:=Q
axV:y - x=0->am->bG:=Q
arQ{x:ad}:(EY/\x<=1114111)/\lE (55296<=x) (x<=57343)↔0<=x/\lp<1114112/\¬(55296<=lp/\lp<57344):=Q
avG:x=yT:=Q
aCc{a b:Y}:((dz+fv)/gL)=az tO:=bY
ai3:2*q+r=ba->r<2->ax->qC->z=w->q<z:=Qw
aAb{a b c d:Y}(h0:a<b)(h1:b<=d)(h2:c=d):tO<c:=ai3 dr dt h0 h1 h2
aL2:x<z->dE->am:=Q
aBz:Dj (y+x) c5 (x - eE<bi):=Qw
al4{a b:Y}(h0:b<a):(a-(((b+a)/k4)+e6))<Fb:=c9 aBz
aK3:Dj ba ax (c4<=y):=Qw
ajA{a b:Y}(h0:a<b):(tO+e6)<=b:=c9 aK3
akt{y:ad}:cA<y->da->aa<y:=Q
aIX:Dj ba ax (z - x<y - x):=Qw
aE4{a b:Y}(h0:a<b):(tO-a)<(b-a):=c9 aIX
aKl:Dj ba ax da:=Qw
azN{a b:Y}(h0:a<b):a<=tO:=c9 aKl
aj7:2*w+q=ba->q<2->ax->dG->uO:=Qw
aKk{a b c:Y}(h0:a<b)(h1:b<=c):tO<=c:=aj7 dr dt h0 h1
atN{x:ad}:x<=cA->dE->x<=aw:=Q
awJ{x:ad}:x<=aw->lp<=y:=Q
aCz{y:ad}:aa<=y->x<=tS:=Q
aml:x=z->¬(y<z)->am:=Q
apQ:bi<=w+1->yS (y+3)<=w:=Q
aEb:bi<=q+1->x - (y+2+z+1+w)<=q:=Q
auG:am->aG<=y+2+z+1+w:=Q
auB:¬(bB= -1):=Q
alT: -1≠aa:=Q
apx:¬(-1=aa):=Q
aGw{x:ad}:0<=x/\x<cA->y=z->lp<y:=Q
ax5{x:ad}:0<=x/\x<aw->x=az lp:=Q
aJ2{y:ad}:¬(y<aa)->x<=tS:=Q
aoN:x<=min z y->am:=Q
aHX:1+x - 1=x:=Q
alM:x=3\/x=22->x≠22->bg (x≠3):=Q
amP:x=9\/x=15\/x=30\/x=31\/x=41\/x=46->¬(x=3)/\¬(x=22):=Q
azz:b?->uv->x+(y - jP)=bv:=Q
aEx:0<=m7 - 1:=Q
aAh:el (Ca - 1)=x:=Q
aDp:f?=m7 - 2:=Q
axX:0<=Cg:=Q
an6:j! (bB+aw) ba:=Q
avN:x<28->28=x+(27 - x+1):=Q
az2:b?->bg (0=x):=Q
ahM{a:Y}:(((dz%gL)=qi)↔((a%k4)=Mi)):=bY
aGJ:z<w/\w<=y->x<=y - w->aG<=kv:=Q
ain:x<=kv->EC->lA:=Q
aLo:am↔aa<=aw:=Q
akT:aw<=aa->am->aa=aw:=Q
aCg:x<z/\dE->am:=Q
alR:ax/\qC->x<w/\uO->ax/\dG:=Q
apT:x<=2->z=16777216->w<8->q=bv->q<=w+1->Ey:=Qw
akF:am/\y<x+(z - x)->qA:=Q
aCp:c5->bi=n_+1:=Q
aJM:dG->z<x->bi=z - y+(x - z):=Q
aE8:z<=x/\x<z+(y - z)->ax:=Q
aEJ:aG=1+x:=Q
aHe:nX/\y<aG+(eE - x)->ax/\y<=c4:=Q
aAk:z<=x/\x<z+(y - z)->am:=Q
aE5:nX/\y<aG+(z - cI)->ax:=Q
aC5:bi=0->bg c5:=Q
alD:y<z->dE->x≠2:=Q
ax6:am->¬(y=x)->nX:=Q
amW:ax->¬(cI<y)->x=kt:=Q
avW:bi<=0->bg (¬Fa):=Q
aAD:c5->x=n9:=Q
ank:bi<=x:=Q
aLy:bi<=aG:=Q
aGM:¬(4*y+4<=x)->x - 4*y<4:=Q
arx:x<yI:=Q
aHu:x<yH+1+z:=Q
atD:0=aa\/4=aa\/8=aa\/10=aa↔x=0\/x=4\/x=8\/x=10:=Q
avm:x=10->aa=10:=Q
ahI:y<z->y=z->x<x:=Q
aqR:bG->dG->z<w->w<=64->lA:=Q
aHp:b?->y+x<=z->bg dE:=Q
aj9:uo->xh/\tJ:=Q
aqm:c3 gs (0+aa=0):=Q
aLP:¬gs->0+aa - 1=az jP:=Q
axW:m7>0:=Q
aHR:aa<8->x<8:=Q
aDG:aa<8->MO<E4:=Q
aKB:aa<8->aG<=8:=Q
aIw:aa<8->E4=MO+1:=Q
aEK:¬(bB<8)->E4=0:=Q
aL3:4*cI - 4=4*x:=Q
aA7:4*cI - 2=4*x+2:=Q
aGo:4*cI - 1=4*x+3:=Q
ayA:x<y+3->bi<3:=Q
ayo:bi<=w->yS (y+3)<=w - 1:=Q
akp:x<y+2->c5->bi=1:=Q
afH:x - q<=w->q+2<=y->yS eh<=w - 1:=Q
agB:x+(1+y)=fb:=Q
agV:rR/\lE (55296<=x) (x<57344)↔sC:=Q
atl:55296<=w/\w<57344->55295<=y/\y<=57344->x<=w->uO->sC->z<1114112/\rB z z->am/\dG:=Q
aDz:Rs x (z<=x) (q<z):=Q
anU:Rs x da (z<w):=Q
agb:x=bv->lz:=Q
anP:ek+z<=w->w<1114112/\rB w w->ek+z<1114112:=Q
apW:KG/\KO->z<10->TD<10:=Q
amj:KG/\KO->z<10->TC<10:=Q
aiB:0<y->x<55296->K4 eZ:=Q
akx:K4 eZ->ek+(55296 - eZ)=55296:=Q
aob:x=55296 - MT+1->lz:=Q
atL:C_<=C_/\C_<nk:=Q
aEg:C'<=C'/\C'<=nk:=Q
aBY:K4 eZ->z=TD+1->z=w->bg (w=TC+1):=Q
as1:sC->y<=10->¬Mj->Tz<10:=Q
amZ:sC->y<=10->¬Mj->TB<10:=Q
awK:KG/\KO->K2 eZ:=Q
aKe:K2 eZ->ek+(57344 - eZ)=57344:=Q
awr:x=57343 - MT+1->lz:=Q
ara:C_<=Ty/\Ty<nk:=Q
aEQ:C'<=nk/\nk<=nk:=Q
ap9:K2 eZ->z=Tz+1->w=TB+1->bg (w=z):=Q
alZ:0<=az (eZ+z):=Q
aDD:CR=CR+1->uv:=Q
ah3:aa=aw+1->x=bv:=Q
aqQ:bg (CR=aa+1):=Q
aIT:d0->¬(z<x)->ax:=Q
aFg:¬Na->¬(y=x)->ax:=Q
amJ:ax->dG->z<w->bg (w<=x):=Q
air:dH->z=bi->x=y+z:=Q
anX:x<z+w->y=z+q->w=kv->ax:=Q
aAJ:EC->dE->w=z - q->r<=w->x<=q+t->t<r->nC:=Q
aFI:x<=y+z->aG<=y+eE:=Q
ah1:z<x->x - x'<ku:=Q
axD:x<=z+w->w<=q->q=kv->x<=x':=Q
api:x=y+z->¬Na->bG:=Q
amh:x<z->x<x':=Q
af0:ax->x<x':=Q
agF:x<x'->y=z+w->¬ky->bG:=Q
auR:uo->-DW<=qi/\qi<DY/\xh/\tJ:=Q
ayh:1+aa - 1=aa:=Q
am8:0<aa/\Cj->bg (x=0\/dH):=Q
aL6:¬(0<aa/\Cj)->x=0\/dH:=Q
aIS:da->d0->am:=Q
aqh:ax->x+(ks - x)<y:=Q
al8:ax->x+(ks - x)=kt:=Q
aoV:y<256->z=x->dE->x<256:=Q
aqc:mO->-DW<=qi/\qi<DY/\xh/\tJ:=Q
aHb:z<0->ax:=Q
ako:x<el xY->ax:=Q
aBo:aa=11->¬MW:=Q
aFn:aa=10->x=10:=Q
axs:aa<256->x<256:=Q
arn:x<256->aa<256:=Q
arb:c3 (bB=10) MW:=Q
an9:lm<3->x<y+3:=Q
akq:¬(em - aa<3)->x+3<=y:=Q
aCl:y+3<=x->¬(x<y+3):=Q
ayj:15<=aa->bg (x<15):=Q
ag3:aa<15->x<15:=Q
auc:1<=aa/\am->b?:=Q
aHz:aw - cA - 3<aa->z+3<=y->¬(x<=y - (z+3)):=Q
aC9:¬(Cq - 3<aw)->yI<=z:=Q
apC:yI<=z->min (E1+y - E1) (z - E1)=y:=Q
aA5:EO<=w->x=z->w<=8192->mO:=Q
aoP:c3 MY (bB=11):=Q
aCS:KK/\KJ\/CF/\CG\/xt/\xk\/KC/\KB↔qf/\pW\/BX:=Q
an5:lm<0->ax:=Q
at0:lm<0->-(bB - aw)=az oj:=Q
aGl:x<65536->¬J0->-2^64<lm/\lm<2^64:=Q
asu:c3 J0 ky:=Q
azx:¬J0->lm=az oh:=Q
ahW:z=w->q=r->(bB<=aw↔z<w\/z=w/\(q<r\/q=r/\am)):=Q
aDh:z=w->¬kx->(bB<=aw↔z<w\/z=w/\(ky\/bG/\q<=r)):=Q
aw4:¬kx->(bB<=aw↔ax\/bG/\(z<w\/z=w/\q<=r)):=Q
aDR:18<x->am->bg yG:=Q
aFV:nX->y - cI=0->aG=y:=Qw
apg:j! aa el aw->bG:=Q
auW:TO->x<16777216:=Q
aw9:rR/\rB x x->rR:=Q
atv:0=aa\/3=aa\/9=aa↔x=0\/x=3\/x=9:=Q
asm:qq->z<4->¬M3->4*y<x:=Qw
ahc{a:Y}(h0:¬(iT=et)):BZ<a:=c9 asm
ajV:4*w+q=x->q<4->4*w+4<=x/\dG->q=0:=Qw
awA{a b c:Y}(h0:(((BZ+fh)<=a)/\(b<=c))):iT=et:=c9 ajV
aKT:qq->z<4->z=0->x<=4*y:=Qw
aFF{a:Y}(h0:iT=et):a<=BZ:=c9 aKT
aku:dE->aa+(em - cA+1)=az (x+MT):=Q
alU:4096<aa->4096<x:=Q
aLD:c3 (4096<aa) (4096<x):=Q
ajR{a b:Y}(h0:(b%a)<a):(dz-(fv%dz))=az (a-(b%a)):=bY
aFR:lz->aa>0:=Q
aIb:x+1*y=ba:=Q
aJj:j! (bB - (em+1)) EM:=Q
atX:am->dG->z<=1000->jM jZ/\gR jZ/\jM aw/\gR aw:=Q
anY:da->z<=1000->EM<=1000:=Q
ayG:jZ+aw=az (cI+y):=Q
aju:y<el ((w:ad) - (bB+1))->uO->fb<z:=Q
ax7:x<=kv - 1->qC->w<=1000->uo:=Q
auC:j! (LR - xY) bi:=Q
ayK:am->EC->gR f?:=Q
aiM:am->dG->qv->gR f?:=Q
agd:yT<=y->bg c5:=Q
aKa:y<yT->x≠y:=Q
ayp:y<ku->bi=EM+1:=Q
awu{a b c:Y}(h0:Fb=(c+e6)):wz dz gK fv:=bY
akM{a b c d:Y}(h0:pp fv gK a)(h1:b<=d)(h2:d<=uf):((JX<=ro a)/\(((dz<AK)/\(((JX<=ro b)/\(fv<AK)))))):=bY
aCC:y<el Cq->ba<z:=Q
axn:ba+1=qw:=Q
aEa:x<ba+1:=Q
aDq:az (x+y)+1=az (x+y+1):=Q
aF7:ba=z->Cg=cA:=Q
aAK{a b c:Y}(h0:pp dz gK b):et<Fb:=bY
aAI:x<=1+oe+(z - w)->z<=q->q<=64->x<=1+Et:=Q
alb:x<=oe+(z - w)->z<=q->q<=64->x<=Et:=Q
aIf{a b c:Y}(h0:wz dz gK fv):Ln=c:=up
aBB{a b c:Y}(h0:pp fv gK a):a<b:=bY
azT:c5->n9=x:=Q
amS:c3 (bB=5) (x=5):=Q
azK:aa=5->x=5:=Q
af3:sH->DP=az jP - 1:=Q
avC:sH->eC<x:=Q
azU:x<z->d0->qx:=Q
asd:c3 LQ (x=4):=Q
aCR{a b:Y}(h0:b<=a):(((((dz-gK)-(fv-gK))%gL)=qi)↔((Fb%k4)=Mi)):=bY
ayz:x - x+y=y:=Q
ahO:aw - 1=az ks->dH->x - ks+z=bi+eE:=Q
am1:6=aa\/8=aa\/26=aa\/27=aa↔x=6\/x=8\/x=26\/x=27:=Q
aze:3=aa\/4=aa↔x=3\/x=4:=Q
aIr:x<=18*min z w->yG->z<3->ba<=16777216:=Q
ajS:G1/\pz->BX:=Q
az9:G2/\v5->BX:=Q
ajy:G3/\AB->BX:=Q
aFM:¬(qk/\pz)->¬(yh/\v5)->¬(Ef/\AB)->(qk->4371<=x)/\(yh->4470<=x)/\(Ef->4547<=x):=Q
azl:x<=kv->EC->aG<=65:=Q
aHo:lA->1+x<=100:=Q
aAP:aa<B?->x<bv:=Q
aDg:bv<bv->n9<x:=Q
aoQ:ax->¬(x=kt)->qz:=Q
aIu:am->y<c4->z<w->w=q->q<=64->2*x<=998:=Q
ard:c5->d0->bi<ku:=Q
az3:da->d0->nX:=Q
ay8:qA->aa<B?:=Q
anh:z<w->z=q->w=r+1->¬(q<r+1)->x=kt:=Q
aJr:y<w->dE->w=x->n_<ku:=Q
ag0:aG<z->y=z->ax:=Q
aIL:m7 - 2=f?:=Q
anC:DP=f? - 1:=Q
alK:bg (et<et):=Q
ajT:aG=z->bi<z:=Q
ahA:0<y->x<=EX:=Q
awN:ba - 1=x+z - 1->0<y->bg (y<z):=Q
alh:ba<=x+z - 1->bg d0:=Q
arz:¬ky->¬kx->0<bi:=Q
aGU:y+z=w->x<w->¬ky->bi<z:=Q
aCd:¬(z<y)->ba+E? - 1=x+z - 1:=Q
amM:EX=x+z - 1->0<z->¬(y<z)->bg (¬(y=z)):=Q
aAY:x<=90->yE:=Q
ao9:x<=122->yE:=Q
aIa:x<4*y+4->min 4 (x - 4*y)≠4:=Q
aGv:¬(gs\/x=3\/x=9)->lz/\x≠3/\x≠9:=Q
atE:ba+(z+0)=x+z+y:=Q
axt:bg (x<x):=Q
ate:b?->18<bv->bg (y+M?<=18):=Q
aMj:18<ba->bg (yM<=18):=Q
aon:y+M?<=18->yC:=Q
aH2:0<z->x+z<=y->ax:=Q
aMo:KK/\KJ->¬(D6/\pW):=Q
azm:KK/\KJ->G1/\pz:=Q
ap1:CF/\CG->¬(D6/\pW):=Q
alO:CF/\CG->¬(qk/\pz):=Q
aIj:CF/\CG->G2/\v5:=Q
ah7:xt/\xk->¬(D6/\pW):=Q
aur:xt/\xk->¬(qk/\pz):=Q
ai1:xt/\xk->¬(yh/\v5):=Q
aqd:xt/\xk->G3/\AB:=Q
ayV{a:Y}(h0:(((Iw/\Kn))/\((ID%x?)=nM))):((iD<=a)/\(a<CV)):=up
akY{a:Y}(h0:(((Iw/\Kn))/\((ID%x?)=nM))):gO=et:=bY
azH:KC/\KB->qf/\pW:=Q
aMt{a:Y}(h0:(Iw/\Kn))(h1:¬((ID%x?)=nM)):¬(gO=et):=bY
aMq:j! (bB - 2 - (-1)) eC:=Q
aIR:jM DP:=Q
asZ:x<=65->gR DP:=Q
aLB:eC - 0<=y->bg (bv<x):=Q
aGg:kt - 0<=x->ax->x=kt:=Q
arj:x<kt - 0->bg (x=kt):=Q
axG:y<eC->eC - y=x - 2 - y+1:=Q
awP{a b c:Y}(h0:((a-e6)-b)=(c+e6)):wz dz gL fv:=up
ams{a b c:Y}(h0:wn a):a<b:=bY
amE{a b c:Y}(h0:wn a):(a+e6)<=b:=bY
aLq:bv+x<z->z<=65->x<64:=Q
ao3{a b c:Y}(h0:wz fv gL dz)(h1:b<=L4):a<uf:=bY
az1{a b c:Y}(h0:pp dz gL b):Ln=((Ln-e6)+e6):=bY
asD:x<=65->n_<=64:=Q
aBw:x<=1+oe+z->qv->x<=1+Et:=Q
anN:x<=oe+z->qv->x<=Et:=Q
agt{a b c:Y}(h0:wz dz gL fv):((a-e6)-(b+e6))=c:=up
aov{a b c:Y}(h0:wn a):(a+e6)<b:=bY
aqw:eC - jP=0:=Q
aIK:uo->eC<=1000:=Q
aE3:lz->min 1 x≠0:=Q
avf:lz->1<=x:=Q
aLt:Cp↔y=x:=Q
au6:aa=39->x=39:=Q
aK0:c3 (bB=39) (x=39):=Q
arI:1<=x->eC=y->x=bv:=Q
aFl:c3 (jP=y) (x=bv):=Q
ahk:z=w->w=ba->ba<=z:=Q
ago:am->y<z->z<=w->w<=64->nC:=Q
aqG:c5->dE->n_<ku:=Q
aCB:da->dE->uv:=Q
akJ:da->dE->aG<=bv:=Q
azg:am->x+(oj+1) - 1=y:=Q
aiI:am->x+(oj+1)=bv:=Q
ase:x=2->bg (¬LN):=Q
age:aa=3->x=3:=Q
au7:x=3->bg (¬(bB=3)):=Q
aD7:aG+1+1+y+1+w<=z->aG+1+1+y<=z:=Q
aDQ:x=4->bg (¬LQ):=Q
alw:x=12\/x=10->¬(x=13)/\¬MY:=Q
aID:x=1->¬E6:=Q
al3:x=1->aa=1:=Q
aqe:x=3->¬E6:=Q
apz:x=3->¬(x=1):=Q
aB1:x=3->¬(bB=1):=Q
aiq:c3 E6 LN:=Q
avo{x:ad}:0<=x/\lp<=y - eE->min (uS x) (y - eE)=lp:=Q
aFo{y:ad}:0<=y/\tS<=z - cI->x<z->aG+tS<=z:=Q
ayb:¬(x<0):=Q
ayY:0=aa↔x=0:=Q
ayJ:4=aa\/5=aa↔x=4\/x=5:=Q
aDy:b?->da->dE->qx:=Q
au8:qz->am:=Q
akl:ek+eE=w->aw - 1=az ks->y<=aG->aG - ks+z=w:=Q
awO:ek+0=z->y<=aG->aa - xY=cA:=Q
aqF:aG - 0+0=y->aa - (((0:Y):ad) - 1)=aw:=Q
aIy:b?->ax->¬(gs\/bG):=Q
aA8:1<=x/\x<1+ks->ax:=Q
awk:dH->¬Kv:=Q
avd:dH->aG=y+eZ:=Q
aox:am->y<z->x+(eh - x)<=z:=Q
aIg{x:ad}:c3 EY EY:=Q
aBI:aw=aa->bi+1=1:=Q
aDx:dH->¬(em=aa)->¬(oh+1=1):=Q
aCF:bi - z=x - (y+z):=Q
aKU:x<q\/x=q/\z<r->q<y\/q=y/\t<w->r<=t->ax\/bG/\z<w:=Q
aEF:x<q\/x=q/\z<r->q<y\/q=y/\r<w->ax\/bG/\z<w:=Q
aB5:am->y=z->qv->lA:=Q
aLg:lA->nC:=Q
amK:j! LR eC:=Q
aoT:lA->gR f?:=Q
azM:0+aa=aa:=Q
aoS:bv<=x->f?=az jP:=Q
aps:c4<=x->x<=w->y=w->qx:=Q
aiF:y=x->bG:=Q
awM:b?->-bB<= -1:=Q
af6:j! (-1+aa) eC:=Q
agf:Mu<=x:=Q
ahT:bG->y=0->x=0:=Q
aqv:x<=bv - z->y<1114112->TO:=Q
ava:aw=aa->bG:=Q
aIY:w=fb->uO->fb<=z:=Q
aHE:1=aa->x=1:=Q
aB6:aa=2\/aa=3\/aa=6->x=2\/x=3\/x=6:=Q
aAy:x=2\/x=3\/x=6->bg (aa=1):=Q
aja:aa=4\/aa=5->x=4\/x=5:=Q
aCm:x=4\/x=5->bg (aa=1):=Q
ah0:uv->eC<bv:=Q
ai7:0<y->EX=x+ks:=Q
ayN:0<y->az (x+y) - 1=az (x+y - 1):=Q
aie:64<=aa->bg (x<64):=Q
amV:¬(64<=aa)->x<64:=Q
aMb:¬((vQ:ad)<=aa)->x<3:=Q
aAg:x<3->x=0\/x=1\/x=2:=Q
ag2:3<=aa↔3<=x:=Q
ar5:4*x<=qy:=Q
aBa:qy - 4*x=4:=Q
apL:bG->y=z->z<64->nC:=Q
apt:aa<(vQ:ad)->0<aa->b?/\x<3:=Q
afR:(0<x->3<=aa)->¬(0<x/\x<3):=Q
axb:KC/\KB↔qf/\pW:=Q
anE:qf/\pW->aa - 44032=az (x - 44032):=Q
aBO{a:Y}:((fx mh)%x?)=az gO:=bY
aAs:xi lF (0<cA) (¬M3):=Qw
aoF{a:Y}(h0:nM<az gO):¬(gO=et):=c9 aAs
amk:GS=rL->lF->aa - cA=az (x - z):=Qw
aJQ{a:Y}:(dz-fx gO)=az wH:=k! amk
aoL:GS=rL->lF->4519+cA=az (4519+z):=Qw
aFS{a:Y}:((4519:ad)+fx gO)=az (rT+gO):=k! aoL
ajn:xi lF (¬(0<cA)) (z=0):=Qw
agP{a:Y}(h0:¬((0:ad)<az gO)):gO=et:=c9 ajn
aJH{a:Y}:((fx mh)/(588:ad))=az I!:=bY
atw{a:Y}:(((fx mh)%(588:ad))/x?)=az Iz:=bY
ajB:G9+z=rL->uB->4352+aw=az (4352+y):=Qw
afU{a:Y}:((4352:ad)+fx I!)=az (mB+I!):=k! ajB
ahv:G9+z=rL->uB->28*w+q=z->q<28->4449+o9 w=az (4449+w):=Qw
auf{a:Y}:((4449:ad)+fx Iz)=az (mC+Iz):=ahv dr dt dr dt
aoa:Cp->bg (¬kx):=Q
amA:x=0->3=az (max 3 x):=Q
aA9:c3 (bB=0) gs:=Q
aj8:x=0\/3<=x->¬gs->aa=az (max 3 x):=Q
aDB:2=aa\/3=aa↔x=2\/x=3:=Q
asq:aa=3↔x=3:=Q
ay3:1=aa\/3=aa↔x=1\/x=3:=Q
aDf:x<=400->0+301*x<=120400:=Q
aFE:LB (301*eh)->x<=120400:=Q
auN:LB (301*eE)->y<=300->fb<=200000:=Q
awi:LB (301*eE)->y<=300->qw+301*z<=120400:=Q
azB:ax/\dG->bg (z<=x):=Q
as2:qA->x<bv+1:=Q
aA2:x+3+z<=y->x+2<y:=Q
aE2:x+3+z<=y->aG<y:=Q
anf:EO<=w->am->w<=8192->mO:=Q
akv:EO<=x->yS (y+3)<bi:=Q
agM:d0->z=x+2+w->qz:=Q
aoy:y=EN->x+2<=y:=Q
aGd:x=y+2+z->x - (y+2)=z:=Q
aFJ:aG<=fb:=Q
ar7:fb - cI=y:=Q
aKX:am->y<z->z<=8192->mO:=Q
aIA:bv+z<=x->y=w+2+q->yS eh<x - w:=Q
ahw:x<=w->y=w+2+q->aG<=bv+z:=Q
aJa:55296<=x/\x<=57343->bg (rR/\(Mj\/57344<=x)):=Q
auw:aa - az (4*y)<4->x<4*y+4:=Q
apE:¬(em - xg<4)->qy<=y:=Q
aFu:4*y+4<=x->¬(x<4*y+4):=Q
anH:0<4*aa/\aw=cA↔¬gs/\y=z:=Q
ax9:¬gs/\y=z->b?:=Q
aDo:b?->xg - 1=az (4*x - 1):=Q
aAV:qy<=y->4*x - 1<y:=Q
ayB:y=x->aa=aw:=Q
aj4:am->y=16255->Ml:=Q
aza{a:Y}:(dz%(gL^k4))=az iT:=bY
auS:qq->z<4->2<cA->z=3:=Qw
az4{a:Y}(h0:G0<az iT):iT=(3:Y):=c9 auS
amT:qq->z<4->z=3->bg (¬(2<cA)):=Qw
aCX{a:Y}(h0:iT=(3:Y))(h1:¬(gL<az iT)):kA:=amT dr dt h0 h1
axh:2^14<=x->bg Ml:=Q
afY{a:Y}:(dz/(256:ad))=az ua:=bY
akZ:256*y+z=x->z<256->0<=aw:=Qw
au3{a:Y}:nM<=az ua:=k! akZ
ayO{a:Y}:((fx ua)%(64:ad))=az (ua%GY):=bY
au4:qq->z<4->((z:ad)=2↔z=2):=Qw
azu{a:Y}:((fx iT=G0)↔(iT=(2:Y))):=k! au4
aKF:256*y+z=x->z<256->64*w+q=y->q<64->Ml->q=y:=Qw
ajX{a:Y}(h0:a<(16384:Y)):(ua%GY)=ua:=aKF dr dt dr dt h0
atn:x<=100->tJ:=Q
alL:bG->y<z->z<=100->x<=100:=Q
afV:el aa=x:=Q
am6:x<14->y=14->ax:=Q
azZ:K8 (4*z) (x<z) (Mg->mO):=Qw
aET{a b:Y}(h0:sO)(h1:b<=TQ):a<=TQ:=azZ dr dt h0 h1
alV:2+2*x=2*cI:=Q
ax1:am->y<z->z=w->w<=64->2*x<=998:=Q
aBR:d0/\y<=w+1->z<q->q=x->bi<ku:=Q
ahG:d0/\y<=w+1->da->nX:=Q
aDd{a b:Y}:((fx ((a/b)%k4)=qi)↔(((a/b)%k4)=Mi)):=up
aKQ{x:ad}:y<0->x= -1:=Q
aoH:x=4*y->aG+1+1+1=4*eh:=Q
aIx:4*z+w=y->w<4->y=4*x->x=z:=Qw
af7{a b:Y}(h0:b=qh):a=(b/fh):=c9 aIx
agm:¬(0<x/\x<3)->x=0\/3<=x:=Q
aFK:aa+(em+((z:ad)+o9 w))=Cg+cA+o9 w:=Q
ahJ:8192<az (x+y+z+w)->8192<ba+z+w:=Q
asN:yo->2+x<=2000:=Q
aqa:yo->x<=298:=Q
aJ8:lA->yo:=Q
arq:lA->¬MZ:=Q
asT:bG->x<bv:=Q
aAG:x+0+(y+(0+1))=ba+1:=Q
aiG:aG+(y+0)=ba+1:=Q
ao6:¬ky->¬kx->¬(x<bv):=Q
ayD:x+0+(y+0)=ba+0:=Q
axU:da->z=y->qA:=Q
aDc:y+w=x->z - w=0->¬(z<w)->x=y+0+z:=Q
ahi:da->d0->qA:=Q
ahx:y+x=z->y=z->x=0:=Q
aFz:¬(Fa/\dG)->am->d0:=Q
ao1{a:Y}:(dz/(4:ad))=az GX:=bY
aFW:588*z+w=y - 44032->w<588->28*q+r=w->r<28->44032<=y/\y<44032+11172->x=4352+z\/x=4449+q->sC:=Qw
aJq{a b:Y}(h0:((iD<=b)/\(b<CV)))(h1:((a=(mB+(CS/rp)))\/(a=(mC+((CS%rp)/ma))))):((a<S2)/\(¬((((55296:Y)<=a)/\(a<nk))))):=aFW dr dt dr dt h0 h1
aEm:28*z+w=y - 44032->w<28->44032<=y/\y<44032+11172->x=y - w\/x=4519+w->sC:=Qw
avO{a b:Y}(h0:((iD<=b)/\(b<CV)))(h1:((a=(b-(CS%ma)))\/(a=(rT+(CS%ma))))):((a<S2)/\(¬((((55296:Y)<=a)/\(a<nk))))):=aEm dr dt h0 h1
aAq:D2->uB->x<11172->qr<4371\/4449<=qr/\qr<4470\/4520<=qr/\qr<4547:=Qw
amy{a:Y}(h0:a<xz):(((mB+As)<Lq)\/((((B7 mC/\((mB+As)<Ls)))\/((B7 Lu/\((mB+As)<(4547:Y))))))):=c9 aAq
apV:D2->uB->x<11172->44032<=qr->55204<=qr:=Qw
aD9{a:Y}(h0:a<xz):(B7 iD->B7 Ld):=c9 apV
as8:D2->uB->28*w+q=z->q<28->4352<=qs/\qs<4371\/qs<4470\/4520<=qs/\qs<4547:=Qw
apH{a:Y}:(((Br mB/\((mC+Aq)<Lq)))\/((((mC+Aq)<Ls)\/((Br Lu/\((mC+Aq)<(4547:Y))))))):=as8 dr dt dr dt
al9:D2->uB->28*w+q=z->q<28->44032<=qs->55204<=qs:=Qw
aJd{a:Y}:(Br iD->Br Ld):=al9 dr dt dr dt
apJ:28*y+z=x->lF->z≠0->4352<=nT/\nT<4371\/4449<=nT/\nT<4470\/4520<=nT/\nT<4547:=Qw
aG4{a:Y}(h0:vX≠et):(((w? mB/\((rT+vX)<Lq)))\/((((w? mC/\((rT+vX)<Ls)))\/((w? Lu/\((rT+vX)<(4547:Y))))))):=c9 apJ
aMd:28*y+z=x->lF->44032<=nT->55204<=nT:=Qw
agC{a:Y}:(w? iD->w? Ld):=k! aMd
axF:qf/\x<55204->qf:=Q
aqo:xi lF (¬M3) (44032<=ku):=Qw
ayX{a:Y}(h0:¬(gO=et)):(44032:Y)<=wH:=c9 aqo
alW:xi lF KL (ku<44032+11172):=Qw
aES{a:Y}(h0:mh<xz):wH<CV:=c9 alW
arP:xi lF KL (ku - 44032<11172):=Qw
aIh{a:Y}(h0:mh<xz):(wH-iD)<xz:=c9 arP
asP:z=aG->dE->ax:=Q
asn:w+x<=z->bi<=z - w - y:=Q
atr:ba - M?=kv:=Q
aD3:ax->y<z->x+oj<=z:=Q
aH7:x<z->c5->bi<z - y:=Q
aBS:1<=y/\y<1+MV->x<ba:=Q
aJ4:1<=y/\y<1+MV->ba<z:=Q
aDt:c5->x=y+oh:=Q
awt:dH->¬ky:=Q
aqI:am->EM=0:=Q
ahB:nX/\y<aG+MV->ax/\dG:=Q
aCu:x<z->y=z->ax/\dG:=Q
aCD:c4<=x/\x<c4+(w - z - 1)->y=w->ax:=Q
aiN:max x z<=y->am:=Q
asr:max z x<=y->am:=Q
aqV:x=0->dH->qB x=y:=Q
as0:ax->y<w->w=z->am/\y<z:=Q
an7:da->dE->w<x->qx:=Q
agT:sH->b?:=Q
aI9:dE->uO->¬(w<x)->am:=Q
axZ:Le->¬T8:=Q
aDI:¬(z<=x)->bi<=z - y:=Q
auP:97<=aa/\aa<=122↔97<=x/\x<=122:=Q
amC:x=4↔aa=4:=Q
av6:65<=aa/\aa<=90↔65<=x/\x<=90:=Q
aAv:¬(x<1114112/\rB x x)->lE D6 (x<44032+11172)/\lE qk (x<4371)/\lE yh (x<4470)/\lE Ef (x<4547):=Q
apY: -DW<=(10:ad)/\(10:ad)<DY:=Q
asx:am->y<8192->nC:=Q
aBe:¬(cI=0):=Q
aBi:b?/\am->b?/\am:=Q
aIc:aw - cA - 1<aa->¬(x<kv):=Q
aEY:¬(Cq - 1<aw)->fb<=z:=Q
als:c4+x<=y->x<kv:=Q
afZ:b?->x<3->x=1\/x=2:=Q
aIi:b?/\am->y=1->x=1:=Q
asQ:0<z/\z<=w->aG+z<=y->qz:=Q
azI:b?->65536<=aw->¬gs/\65536<=y:=Q
aG6:¬(0<aa)->bg (¬gs):=Q
au5:¬(65536<=aw)->x=0\/y<65536:=Q
ami:lm<2->x<y+2:=Q
aqk:¬(em - aa<2)->x+2<=y:=Q
aKf:y+2<=x->¬(x<y+2):=Q
awR:3<=aa->bg (x<3):=Q
axP:aa<3->x<3:=Q
ahR:c5\/d0->am->d0:=Q
asl:am/\dG->am/\dG:=Q
ax4:aw - cA - 2<jZ->¬(x<y - M4):=Q
aH4:¬(Cq - 2<aw+1)->yH<z:=Q
aJg:z+2+x<y->x<y - M4:=Q
aoR:Mg->min x (y - M4)<=8192:=Q
aoi:x+2+w<z->y=w->yH<=z:=Q
awI{x:ad}: -2^62<=x->x<2^62->-2^63<=x/\x<2^63:=Q
awz:x<2^40->tJ:=Q
anl:4*y+z=x+3->z<4->jM aw:=Qw
aFC{a:Y}:JX<=az BJ:=k! anl
ahH:4*y+z=x+3->z<4->x<2^40->gR aw:=Qw
auq{a:Y}(h0:a<(k4^(40:Y))):az BJ<AK:=c9 ahH
agQ:jM TN:=Q
aqM:x<2^40->gR TN:=Q
ayu:EN<=y->aG<y:=Q
anL:yH - (x+2)=y:=Q
aHn:EN<y->aG<y:=Q
asS:bi=c4->x=y+eE:=Q
aA3:y<w->z=x+(w+1)->az (cI+y)<cA:=Q
anm:z=y+0->fb=x+(1+z):=Q
aAr:z=x+(w+1)->¬(y<w)->¬(fx (cI+y)<cA):=Q
amD:qC->z=w+q->q=0->¬(y<w)->fb=x+(1+z):=Q
asE:qw=fb:=Q
aAL:qw+1=x+(y+2):=Q
aHf:x<=x+(y+2):=Q
aLv:x+(y+2) - x=bv+1:=Q
atO:da->z<w->w<=y->am:=Q
aEh:x=y+z->bi=z:=Q
aqN:x<q->dH->q=y+z->q<=w->bi<min z (w - y):=Q
ajE:aG<bv->ax:=Q
aL1:yM - 1=ba+z - 1:=Q
aBn:0<y->EX<yM:=Q
aDE:x<y+z+w->x<y+(z+w):=Q
azy:x<w->dH->w=y+z->bi<z:=Q
aD2:bv=z->x=z - w->w<=y->b?:=Q
aoG:c4=y->da->x+oj - 1=z:=Q
afL:x<w->dH->w=y+z->¬(cI=w)->ek<z:=Q
axK:dH->0<ek:=Q
aMD:x<w->dH->z=w - y->¬(cI=w)->ek<z:=Q
aGy:am->x+(eh - x) - 1=y:=Q
avq:qw - x=bv:=Q
asM:¬(bB=0)/\aw=3 - aa->¬gs:=Q
asH:¬(em=0)/\aa=3 - aw->ba=3:=Q
aEI:x=4/\¬(y=2)->bg (¬LQ\/aw=2):=Q
aKR:aa=4/\¬(em=2)->x=4/\¬(y=2):=Q
aiD:aa>2->bg (x<=2):=Q
aAO:aa<=2->x<=2:=Q
aBK:y≠x->dH->n_<bi:=Q
aE1:x≠y->am->nX:=Q
afN:cA=2->z≠2->bG:=Q
aHr:j! (Ca+1 - (em+1)) ek:=Q
aoD:am->y<z->qv->jM jZ/\gR jZ/\jM (B?+1)/\gR (B?+1):=Q
aJZ:x<z->qv->ek<=1000:=Q
ano:y<el (fx (w+1)+1 - (bB+1))->w<z->ba<z:=Q
aF2:jZ+aw - 1=az (x+y):=Q
aJs:el (bB+1+aw) - 1=ba:=Q
aKs:lE qk (x<4371)/\lE yh (x<4470)/\lE Ef (x<4547)->¬(qk/\pz/\4449<=y/\y<4470):=Q
aHK:cA=2/\aa=0/\aw=0->x=0/\y=0:=Q
ak9:aa=1↔x=1:=Q
aLY: -DW<=nM:=Qw
ayZ:nM<DY:=Qw
arl:aG<=aG+1:=Qw
ajh:uv->aG<=bv+1:=Qw
af4:x<1000->Le:=Qw
arM:x+3*w+5<z->qC->x+3*y+5<z:=Qw
aKV:ux (x+16*w)->qC->ux (x+16*y):=Qw
aCi:ux (x+16*eh)->ux (x+3+16*y):=Qw
aiv:x+3*z+5<y->ax:=Qw
aBJ:x+16*z+200<y->x+64<y:=Qw
awb:Mu=x->am:=Qw
ao7:x=z->dE->x+oj=y:=Qw
ahe{x:ad}:x<0->el L1<=y:=Qw
amz{x:ad}:max L1 0=az el L1:=Qw
ahy{x:ad}:¬(x<0)->min x aw=az (min (uS x) y):=Qw
aFN:¬(gK<nM):=Qw
aIJ:j! (bB+aw*1) ba:=Qw
aEs:z<=w->min oh E?<=w:=Qw
aG5:cA=0->ku=y->bG:=Qw
axz{z:ad}:0<=z->el z=x->z<aw->ax:=Qw
aLl{y:ad}:0<=y->-bB<=y:=Qw
aGB{z:ad}: -em<=z->el (z+aw)=x->¬(0<=z)->ax:=Qw
aGs{x:ad}:¬EY->x<aw:=Qw
axL: -Ca<= -1:=Qw
agx:el (-1+m7)=x:=Qw
aya:am->¬(x>y):=Qw
atW:x+(0+1)<=aG:=Qw
asY:x<=0+y->y<=15->Le:=Qw
aAZ:0<=az jP:=Qw
aIm{x y:ad}:0<=x->0<=y->w+z=lp+tS->ba - cA=o9 w:=Qw
Y3{y:ad}:y<0->qB (min (y+aa) aa)=(el (y+aa):ad):=Qw
Y5{y:ad}:¬(y<0)->qB (min y aa)=az (min (uS y) x):=Qw
aJ6:jZ>aw->jZ=az (max y cI):=Qw
aEq:¬(bB+1>aw)->aw=az (max y cI):=Qw
aBx:R! (x=55295) y (57344=y):=Qw
aot:R! (¬(x=55295)) y (aG=y):=Qw
amH:aa=0\/¬(em=3 - aa)->¬gs->bg (y+x=3):=Qw
}
section z
section
variable{a0 a1 a2 a3 a4 a5 a6:Sort _}{C:aH}{E:bc}{t4 t2 r t5 t1 s t6 t3:Type _}{H:cg}
def z:={
bq{A:Prop}{B:Prop}{U:Prop}(h:A/\B)(k:A->B->U):U:=by rw[w8 hA hB,k hA hB]
cG{A:aT}{U:Prop}(h:f9 b6)(k:iY (b6->U)):U:=by rw[w8 x0 hA,k x0 hA]
bX{A:Prop}{B:Prop}{C:Prop}{U:Prop}(h:A/\B/\C)(k:A->B->C->U):U:=by obtain⟨hA,hB,hC⟩:=h;exact k hA hB hC
ah{A:aT}{B:aT}{U:Prop}(h:hZ b6 cm)(k:∀x0,b6->cm->U):U:=by obtain⟨x0,hA,hB⟩:=h;exact k x0 hA hB
iR{A:Prop}{B:aT}{C:aT}{U:Prop}(h:A/\hZ cm cn)(k:A->∀x0,cm->cn->U):U:=by obtain⟨hA,x0,hB,hC⟩:=h;exact k hA x0 hB hC
bL{A:aT}{B:aT}{C:aT}{U:Prop}(h:f9 (b6/\cm/\cn))(k:iY (b6->cm->cn->U)):U:=by obtain⟨x0,hA,hB,hC⟩:=h;exact k x0 hA hB hC
df{A:aH}{B:aH}{U:Prop}(h:fj (c7/\bR))(k:gn (c7->bR->U)):U:=by obtain⟨x0,x1,hA,hB⟩:=h;exact gm
xn{A:aT}{B:aT}{C:aT}{D:aT}{U:Prop}(h:f9 (b6/\cm/\cn/\fJ))(k:iY (b6->cm->cn->fJ->U)):U:=by obtain⟨x0,hA,hB,hC,hD⟩:=h;exact k x0 hA hB hC hD
aO{A:aH}{B:aH}{U:Prop}(h:g8 b!)(k:j3 (b!->U)):U:=by obtain⟨x0,x1,hA,hB,hC⟩:=h;exact k x0 x1 hA hB hC
fW{A:aH}{B:aH}{D:aH}{U:Prop}(h:fj (c7/\bR/\b!/\fE))(k:gn (c7->bR->b!->fE->U)):U:=by obtain⟨x0,x1,hA,hB,hC,hD⟩:=h;exact gm hC hD
F7{A:bc}{B:bc}{U:Prop}(h:jX (eJ/\eI))(k:gn nw (eJ->eI->U)):U:=by obtain⟨x0,x1,x2,x3,hA,hB⟩:=h;exact cV k hA hB
wy{A:aH}{B:aH}{D:aH}{E:aH}{U:Prop}(h:fj (c7/\bR/\b!/\fE/\nO))(k:gn (c7->bR->b!->fE->nO->U)):U:=by obtain⟨x0,x1,hA,hB,hC,hD,hE⟩:=h;exact gm hC hD hE
i9{A:aH}{B:aH}{C:bF}{D:bF}{U:Prop}(h:g8 qo (c?/\dU))(k:j3 (∀x2,c?->dU->U)):U:=by obtain⟨x0,x1,hA,hB,x2,hC,hD⟩:=h;exact gm x2 hC hD
hX{A:bF}{B:bF}{C:bF}{D:bF}{U:Prop}(h:iN (h!/\eM/\c?/\dU))(k:iY cc x1 x2 (h!->eM->c?->dU->U)):U:=by obtain⟨x0,x1,x2,hA,hB,hC,hD⟩:=h;exact k x0 x1 x2 hA hB hC hD
Tb{A:aH}{B:aH}{C:bF}{D:bF}{E:bF}{U:Prop}(h:g8 qo (c?/\dU/\tZ))(k:j3 (∀x2,c?->dU->tZ->U)):U:=by obtain⟨x0,x1,hA,hB,x2,hC,hD,hE⟩:=h;exact gm x2 hC hD hE
Q5{A:bc}{B:bc}{C:bc}{D:bc}{U:Prop}(h:jX (eJ/\eI/\cx/\cy))(k:gn nw (eJ->eI->cx->cy->U)):U:=by obtain⟨x0,x1,x2,x3,hA,hB,hC,hD⟩:=h;exact cV k hA hB hC hD
aCM{A:aH}{B:aH}{D:bF}{E:bF}{F:bF}{U:Prop}(h:fj (c7/\bR/\b!/\qo (dU/\tZ/\o? F)))(k:gn (c7->bR->b!->∀x2,dU->tZ->o? F->U)):U:=by obtain⟨x0,x1,hA,hB,hC,x2,hD,hE,hF⟩:=h;exact gm hC x2 hD hE hF
pQ{A:aH}{B:aH}{C:bc}{D:bc}{U:Prop}(h:g8 mo (cx/\cy/\dS))(k:j3 JV cx cy dS):U:=by obtain⟨x0,x1,hA,hB,x2,x3,hC,hD,hE⟩:=h;exact gm x2 x3 hC hD hE
atf{A:bE}{B:bE}{C:bE}{D:bE}{U:Prop}(h:iN nb (j9/\j8/\hM/\fy))(k:iY cc x1 x2 cc x3 x4 (j9->j8->hM->fy->U)):U:=by obtain⟨x0,x1,x2,x3,x4,hA,hB,hC,hD⟩:=h;exact cV k x4 hA hB hC hD
agZ{A:aH}{B:aH}{C:bc}{D:bc}{F:bc}{U:Prop}(h:g8 mo (cx/\cy/\dS/\hY))(k:j3 nw (cx->cy->dS->hY->U)):U:=by obtain⟨x0,x1,hA,hB,x2,x3,hC,hD,hE,hF⟩:=h;exact gm x2 x3 hC hD hE hF
Rm{A:aH}{B:aH}{C:bE}{D:bE}{E:bE}{F:bE}{U:Prop}(h:g8 qo nb (hM/\fy/\hO/\hR))(k:j3 (∀x2,cc x3 x4 (hM->fy->hO->hR->U))):U:=by obtain⟨x0,x1,hA,hB,x2,x3,x4,hC,hD,hE,hF⟩:=h;exact gm x2 x3 x4 hC hD hE hF
aGX{A:bc}{B:bc}{C:bc}{D:bc}{F:bc}{G:bc}{U:Prop}(h:jX (eJ/\eI/\cx/\cy/\dS/\hY/\tx))(k:gn cc x2 x3 (eJ->eI->cx->cy->dS->hY->tx->U)):U:=by obtain⟨x0,x1,x2,x3,hA,hB,hC,hD,hE,hF,hG⟩:=h;exact cV k hA hB hC hD hE hF hG
aJY{A:aH}{B:aH}{C:cg}{D:cg}{E:cg}{F:cg}{G:cg}{U:Prop}(h:g8 mo xu a4 x5 (sP/\sR/\j6/\j5/\mX/\ed H))(k:j3 nw cc x4 x5 (sP->sR->j6->j5->mX->ed H->U)):U:=by obtain⟨x0,x1,hA,hB,x2,x3,x4,x5,hC,hD,hE,hF,hG,hH⟩:=h;exact gm x2 x3 x4 x5 hC hD hE hF hG hH
Nf{A:aH}{B:aH}{C:sL}{D:sL}{E:sL}{F:sL}{G:sL}{H:sL}{U:Prop}(h:g8 qo nb (∃x5:a5,∃x6:a6,ik cx/\ik cy/\ik dS/\ik hY/\ik tx/\ik cV H))(k:j3 (∀x2,cc x3 x4 cc x5 x6 (ik cx->ik cy->ik dS->ik hY->ik tx->ik cV H->U))):U:=by obtain⟨x0,x1,hA,hB,x2,x3,x4,x5,x6,hC,hD,hE,hF,hG,hH⟩:=h;exact gm x2 x3 x4 x5 x6 hC hD hE hF hG hH
b0{F G:t7}(h:(λ a b c d e f=>ew F [])=λ a b c d e f=>ew G [])(a:t1)(b:t2)(c:t3)(d:t4)(e:t5)(f:t6)(us:px)(hl:gt=0):s8:=match us,hl with|[],_=>ol QV b c d f
b1{F G:t7}(h:(λ a b c d e f x0=>ew F [x0])=λ a b c d e f x0=>ew G [x0])(a:t1)(b:t2)(c:t3)(d:t4)(e:t5)(f:t6)(us:px)(hl:gt=1):s8:=match us,hl with|[x0],_=>ol (ol QV b c d f) x0
b2{F G:t7}(h:(λ a b c d e f x0 x1=>ew F [x0,x1])=λ a b c d e f x0 x1=>ew G [x0,x1])(a:t1)(b:t2)(c:t3)(d:t4)(e:t5)(f:t6)(us:px)(hl:gt=2):s8:=by rw[Bv (b1 (F:=λ a b c d e f l=>BL) (G:=λ a b c d e f l=>BK)) (λ k a b c d e f y0=>k a b c d e f x0 y0) c]
b3{F G:t7}(h:(λ a b c d e f x0 x1 x2=>ew F [x0,x1,x2])=λ a b c d e f x0 x1 x2=>ew G [x0,x1,x2])(a:t1)(b:t2)(c:t3)(d:t4)(e:t5)(f:t6)(us:px)(hl:gt=3):s8:=by rw[Bv (b2 (F:=λ a b c d e f l=>BL) (G:=λ a b c d e f l=>BK)) (λ k a b c d e f y0 y1=>k a b c d e f x0 y0 y1) c]
b4{F G:t7}(h:(λ a b c d e f x0 x1 x2 x3=>ew F [x0,x1,x2,x3])=λ a b c d e f x0 x1 x2 x3=>ew G [x0,x1,x2,x3])(a:t1)(b:t2)(c:t3)(d:t4)(e:t5)(f:t6)(us:px)(hl:gt=4):s8:=by rw[Bv (b3 (F:=λ a b c d e f l=>BL) (G:=λ a b c d e f l=>BK)) (λ k a b c d e f y0 y1 y2=>k a b c d e f x0 y0 y1 y2) c]
b5{F G:t7}(h:(λ a b c d e f x0 x1 x2 x3 x4=>ew F [x0,x1,x2,x3,x4])=λ a b c d e f x0 x1 x2 x3 x4=>ew G [x0,x1,x2,x3,x4])(a:t1)(b:t2)(c:t3)(d:t4)(e:t5)(f:t6)(us:px)(hl:gt=5):s8:=by rw[Bv (b4 (F:=λ a b c d e f l=>BL) (G:=λ a b c d e f l=>BK)) (λ k a b c d e f y0 y1 y2 y3=>k a b c d e f x0 y0 y1 y2 y3) c]
gB{A:aH}{U:Prop}(h:fj c7)(k:gn (c7->U)):U:=by obtain⟨x0,x1,hA⟩:=h;exact k x0 x1 hA
dm{A:Prop}{B:Prop}{C:Prop}{D:Prop}{U:Prop}(h:n! (C/\D))(k:A->B->C->D->U):U:=by obtain⟨hA,hB,hC,hD⟩:=h;exact k hA hB hC hD
arh{A:aT}{B:aH}{U:Prop}(h:hZ b6 qm bR)(k:∀x0,b6->∀x1,bR->U):U:=by obtain⟨x0,hA,x1,hB⟩:=h;exact k x0 hA x1 hB
iV{A:Prop}{B:Prop}{C:aT}{D:aT}{U:Prop}(h:n! hZ cn fJ)(k:A->B->∀x0,cn->fJ->U):U:=by obtain⟨hA,hB,x0,hC,hD⟩:=h;exact k hA hB x0 hC hD
xH{A:Prop}{B:aH}{U:Prop}(h:A/\fj (bR/\b!))(k:A->gn (bR->b!->U)):U:=by obtain⟨hA,x0,x1,hB,hC⟩:=h;exact k hA x0 x1 hB hC
xN{A:aT}{B:aT}{U:Prop}(h:f9 (b6/\cm/\qm b!))(k:iY (b6->cm->∀x1,b!->U)):U:=by obtain⟨x0,hA,hB,x1,hC⟩:=h;exact k x0 hA hB x1 hC
gJ{A:Prop}{B:Prop}{C:Prop}{D:Prop}{E:Prop}{U:Prop}(h:A/\B/\C/\D/\E)(k:A->B->C->D->E->U):U:=by obtain⟨hA,hB,hC,hD,hE⟩:=h;exact k hA hB hC hD hE
lG{A:bF}{B:bF}{U:Prop}(h:iN (h!/\eM))(k:iY cc x1 x2 (h!->eM->U)):U:=by obtain⟨x0,x1,x2,hA,hB⟩:=h;exact k x0 x1 x2 hA hB
B6{A:aT}{B:aT}{C:aT}{D:aT}{E:aT}{U:Prop}(h:f9 (b6/\cm/\cn/\fJ/\E x0))(k:iY (b6->cm->cn->fJ->E x0->U)):U:=by obtain⟨x0,hA,hB,hC,hD,hE⟩:=h;exact k x0 hA hB hC hD hE
lT{A:Prop}{B:Prop}{C:Prop}{D:Prop}{E:Prop}{F:Prop}{U:Prop}(h:n! (C/\D/\E/\F))(k:A->B->C->D->E->F->U):U:=by obtain⟨hA,hB,hC,hD,hE,hF⟩:=h;exact k hA hB hC hD hE hF
xI{A:Prop}{B:aH}{D:aH}{U:Prop}(h:A/\fj (bR/\b!/\fE))(k:A->cc x0 x1 (bR->b!->fE->U)):U:=by obtain⟨hA,x0,x1,hB,hC,hD⟩:=h;exact k hA x0 x1 hB hC hD
v7{A:aT}{B:bF}{C:bF}{D:bF}{U:Prop}(h:hZ b6 (∃x1:a1,∃x2:a2,eM/\c?/\dU))(k:∀x0,b6->cc x1 x2 (eM->c?->dU->U)):U:=by obtain⟨x0,hA,x1,x2,hB,hC,hD⟩:=h;exact k x0 hA x1 x2 hB hC hD
v_{A:Prop}{B:Prop}{C:Prop}{D:Prop}{E:Prop}{F:Prop}{G:Prop}{U:Prop}(h:A/\B/\C/\D/\E/\F/\G)(k:A->B->C->D->E->F->G->U):U:=by obtain⟨hA,hB,hC,hD,hE,hF,hG⟩:=h;exact k hA hB hC hD hE hF hG
ET{A:bc}{B:bc}{C:bc}{U:Prop}(h:jX (eJ/\eI/\cx))(k:gn JV eJ eI cx):U:=by obtain⟨x0,x1,x2,x3,hA,hB,hC⟩:=h;exact cV k hA hB hC
LX{A:bF}{B:bF}{C:bF}{D:bF}{E:bF}{U:Prop}(h:iN (h!/\eM/\c?/\dU/\tZ))(k:iY cc x1 x2 (h!->eM->c?->dU->tZ->U)):U:=by obtain⟨x0,x1,x2,hA,hB,hC,hD,hE⟩:=h;exact k x0 x1 x2 hA hB hC hD hE
zd{A:bc}{B:bc}{C:bc}{D:bc}{U:Prop}(h:jX (eJ/\eI/\cx/\cy/\dS))(k:gn nw (eJ->eI->cx->cy->dS->U)):U:=by obtain⟨x0,x1,x2,x3,hA,hB,hC,hD,hE⟩:=h;exact cV k hA hB hC hD hE
HC{A:Prop}{B:Prop}{C:aT}{D:bc}{U:Prop}(h:n! hZ cn qm mo (cy/\dS))(k:A->B->∀x0,cn->∀x1,nw (cy->dS->U)):U:=by obtain⟨hA,hB,x0,hC,x1,x2,x3,hD,hE⟩:=h;exact k hA hB x0 hC x1 x2 x3 hD hE
Zz{A:Prop}{B:Prop}{C:aT}{D:bc}{F:bc}{U:Prop}(h:n! hZ cn qm mo (cy/\dS/\hY))(k:A->B->∀x0,cn->∀x1,JV cy dS hY):U:=by obtain⟨hA,hB,x0,hC,x1,x2,x3,hD,hE,hF⟩:=h;exact k hA hB x0 hC x1 x2 x3 hD hE hF
zK{A:bE}{B:bE}{C:bE}{D:bE}{E:bE}{F:bE}{U:Prop}(h:iN nb (j9/\j8/\hM/\fy/\hO/\hR))(k:iY cc x1 x2 cc x3 x4 (j9->j8->hM->fy->hO->hR->U)):U:=by obtain⟨x0,x1,x2,x3,x4,hA,hB,hC,hD,hE,hF⟩:=h;exact cV k x4 hA hB hC hD hE hF
x_{A:bE}{B:bE}{C:bE}{D:bE}{E:bE}{F:bE}{G:bE}{U:Prop}(h:iN nb (j9/\j8/\hM/\fy/\hO/\hR/\jl G))(k:iY cc x1 x2 cc x3 x4 (j9->j8->hM->fy->hO->hR->jl G->U)):U:=by obtain⟨x0,x1,x2,x3,x4,hA,hB,hC,hD,hE,hF,hG⟩:=h;exact cV k x4 hA hB hC hD hE hF hG
yA{A:cg}{B:cg}{C:a0->a1->a2->a3->ci a4 a5}{D:cg}{E:cg}{F:cg}{G:cg}{U:Prop}(h:jX xu a4 x5 (BH/\BI/\sP/\sR/\j6/\j5/\mX))(k:gn nw cc x4 x5 (BH->BI->sP->sR->j6->j5->mX->U)):U:=by obtain⟨x0,x1,x2,x3,x4,x5,hA,hB,hC,hD,hE,hF,hG⟩:=h;exact cV k x4 x5 hA hB hC hD hE hF hG
uI{A:aH}{B:aH}{C:bc}{D:bc}{E:cg}{F:cg}{G:cg}{U:Prop}(h:g8 mo (cx/\cy/\xu a4 x5 (j6/\j5/\mX)))(k:j3 cc x2 x3 (cx->cy->cc x4 x5 (j6->j5->mX->U))):U:=by obtain⟨x0,x1,hA,hB,x2,x3,hC,hD,x4,x5,hE,hF,hG⟩:=h;exact gm x2 x3 hC hD x4 x5 hE hF hG
xf{A:cg}{B:cg}{C:cg}{D:cg}{E:cg}{F:cg}{G:cg}{I:cg}{J:cg}{K:cg}{U:Prop}(h:jX xu a4 x5 (BH/\BI/\sP/\sR/\j6/\j5/\mX/\ed H/\ed I/\ed J/\ed K))(k:gn nw cc x4 x5 (BH->BI->sP->sR->j6->j5->mX->ed H->ed I->ed J->ed K->U)):U:=by obtain⟨x0,x1,x2,x3,x4,x5,hA,hB,hC,hD,hE,hF,hG,hH,hI,hJ,hK⟩:=h;exact cV k x4 x5 hA hB hC hD hE hF hG hH hI hJ hK
AD{a7:Sort _}{A:aH}{B:aH}{C:bc}{D:bc}{E:cg}{F:cg}{G:JO a1 a6 a7}{H:JO a1 a6 a7}{I:JO a1 a6 a7}{U:Prop}(h:g8 mo (cx/\cy/\xu a4 x5 (j6/\j5/\∃x6:a6,∃x7:a7,sK G/\sK H/\sK I)))(k:j3 cc x2 x3 (cx->cy->cc x4 x5 (j6->j5->cc x6 x7 (sK G->sK H->sK I->U)))):U:=by obtain⟨x0,x1,hA,hB,x2,x3,hC,hD,x4,x5,hE,hF,x6,x7,hG,hH,hI⟩:=h;exact gm x2 x3 hC hD x4 x5 hE hF x6 x7 hG hH hI
lg{A:Prop}{B:aT}(hA:A)(x0:a0)(hB:cm):A/\f9 cm:=#[hA,x0,hB]
d3{A:aH}(x0:a0)(x1:a1)(hA:c7):fj c7:=#[x0,x1,hA]
eF{A:Prop}{B:aT}{C:aT}(hA:A)(x0:a0)(hB:cm)(hC:cn):A/\hZ cm cn:=#[hA,x0,hB,hC]
fH{A:Prop}{B:Prop}{C:Prop}{D:Prop}(hA:A)(hB:B)(hC:C)(hD:D):n! (C/\D):=#[hA,hB,hC,hD]
aZ{A:aT}{B:aT}{C:aT}(x0:a0)(hA:b6)(hB:cm)(hC:cn):f9 (b6/\cm/\cn):=#[x0,hA,hB,hC]
Fh{A:Prop}{B:Prop}{C:aT}{D:aT}(hA:A)(hB:B)(x0:a0)(hC:cn)(hD:fJ):n! hZ cn fJ:=#[hA,hB,x0,hC,hD]
pq{A:Prop}{B:aH}(hA:A)(x0:a0)(x1:a1)(hB:bR)(hC:b!):A/\fj (bR/\b!):=#[hA,x0,x1,hB,hC]
Hn{A:aT}{B:aT}(x0:a0)(hA:b6)(hB:cm)(x1:a1)(hC:b!):f9 (b6/\cm/\qm b!):=#[x0,hA,hB,x1,hC]
jN{A:Prop}{B:Prop}{C:Prop}{D:Prop}{E:Prop}(hA:A)(hB:B)(hC:C)(hD:D)(hE:E):A/\B/\C/\D/\E:=#[hA,hB,hC,hD,hE]
aE{A:aH}{B:aH}(x0:a0)(x1:a1)(hA:c7)(hB:bR)(hC:b!):g8 b!:=#[x0,x1,hA,hB,hC]
fF{A:aT}{B:aT}{C:aT}{D:aT}(x0:a0)(hA:b6)(hB:cm)(hC:cn)(hD:fJ):f9 (b6/\cm/\cn/\fJ):=#[x0,hA,hB,hC,hD]
uJ{A:bF}{B:bF}(x0:a0)(x1:a1)(x2:a2)(hA:h!)(hB:eM):iN (h!/\eM):=#[x0,x1,x2,hA,hB]
N8{A:Prop}{B:aT}{C:aT}{D:aT}(hA:A)(x0:a0)(hB:cm)(hC:cn)(hD:fJ):A/\f9 (cm/\cn/\fJ):=#[hA,x0,hB,hC,hD]
qQ{A:aT}{B:aT}{C:aT}{D:aT}{E:aT}(x0:a0)(hA:b6)(hB:cm)(hC:cn)(hD:fJ)(hE:E x0):f9 (b6/\cm/\cn/\fJ/\E x0):=#[x0,hA,hB,hC,hD,hE]
Fu{A:Prop}{B:Prop}{C:Prop}{D:Prop}{E:Prop}{F:Prop}(hA:A)(hB:B)(hC:C)(hD:D)(hE:E)(hF:F):n! (C/\D/\E/\F):=#[hA,hB,hC,hD,hE,hF]
F8{A:Prop}{B:aH}{D:aH}(hA:A)(x0:a0)(x1:a1)(hB:bR)(hC:b!)(hD:fE):A/\fj (bR/\b!/\fE):=#[hA,x0,x1,hB,hC,hD]
lP{A:bF}{B:bF}{C:bF}(x0:a0)(x1:a1)(x2:a2)(hA:h!)(hB:eM)(hC:c?):iN (h!/\eM/\c?):=#[x0,x1,x2,hA,hB,hC]
Bq{A:aT}{B:aH}{D:aH}{E:aH}(x0:a0)(hA:b6)(x1:a1)(hB:bR)(hC:b!)(hD:fE)(hE:nO):hZ b6 qm (bR/\b!/\fE/\nO):=#[x0,hA,x1,hB,hC,hD,hE]
b9{A:bF}{B:bF}{C:bF}{D:bF}(x0:a0)(x1:a1)(x2:a2)(hA:h!)(hB:eM)(hC:c?)(hD:dU):iN (h!/\eM/\c?/\dU):=#[x0,x1,x2,hA,hB,hC,hD]
vD{A:aT}{B:bF}{C:bF}{D:bF}(x0:a0)(hA:b6)(x1:a1)(x2:a2)(hB:eM)(hC:c?)(hD:dU):hZ b6 (∃x1:a1,∃x2:a2,eM/\c?/\dU):=#[x0,hA,x1,x2,hB,hC,hD]
qJ{A:bc}{B:bc}{C:bc}(x0:a0)(x1:a1)(x2:a2)(x3:a3)(hA:eJ)(hB:eI)(hC:cx):jX (eJ/\eI/\cx):=#[x0,x1,x2,x3,hA,hB,hC]
fK{A:aH}{B:aH}{D:aH}{E:aH}(x0:a0)(x1:a1)(hA:c7)(hB:bR)(hC:b!)(hD:fE)(hE:nO):fj (c7/\bR/\b!/\fE/\nO):=#[x0,x1,hA,hB,hC,hD,hE]
wV{A:aH}{B:aH}{C:bF}{D:bF}(x0:a0)(x1:a1)(hA:c7)(hB:bR)(x2:a2)(hC:c?)(hD:dU):g8 qo (c?/\dU):=#[x0,x1,hA,hB,x2,hC,hD]
Aw{A:aH}{B:aH}{D:aH}{E:aH}{F:aH}(x0:a0)(x1:a1)(hA:c7)(hB:bR)(hC:b!)(hD:fE)(hE:nO)(hF:o! F):fj (c7/\bR/\b!/\fE/\nO/\o! F):=#[x0,x1,hA,hB,hC,hD,hE,hF]
Ck{A:bc}{B:bc}{C:bc}{D:bc}{F:bc}(x0:a0)(x1:a1)(x2:a2)(x3:a3)(hA:eJ)(hB:eI)(hC:cx)(hD:cy)(hE:dS)(hF:hY):jX (eJ/\eI/\cx/\cy/\dS/\hY):=#[x0,x1,x2,x3,hA,hB,hC,hD,hE,hF]
tH{A:aT}{B:aH}{C:bF}{D:bE}{E:bE}{F:bE}(x0:a0)(hA:b6)(x1:a1)(hB:bR)(x2:a2)(hC:c?)(x3:a3)(x4:a4)(hD:fy)(hE:hO)(hF:hR):hZ b6 qm (bR/\qo (c?/\nb (fy/\hO/\hR))):=#[x0,hA,x1,hB,x2,hC,x3,x4,hD,hE,hF]
kX{A:bE}{B:bE}{C:bE}{D:bE}{E:bE}{F:bE}(x0:a0)(x1:a1)(x2:a2)(x3:a3)(x4:a4)(hA:j9)(hB:j8)(hC:hM)(hD:fy)(hE:hO)(hF:hR):iN nb (j9/\j8/\hM/\fy/\hO/\hR):=#[x0,x1,x2,x3,x4,hA,hB,hC,hD,hE,hF]
AG{A:bc}{B:bc}{C:bc}{D:bc}{F:bc}{G:bc}(x0:a0)(x1:a1)(x2:a2)(x3:a3)(hA:eJ)(hB:eI)(hC:cx)(hD:cy)(hE:dS)(hF:hY)(hG:tx):jX (eJ/\eI/\cx/\cy/\dS/\hY/\tx):=#[x0,x1,x2,x3,hA,hB,hC,hD,hE,hF,hG]
rD{A:bE}{B:bE}{C:bE}{D:bE}{E:bE}{F:bE}{G:bE}(x0:a0)(x1:a1)(x2:a2)(x3:a3)(x4:a4)(hA:j9)(hB:j8)(hC:hM)(hD:fy)(hE:hO)(hF:hR)(hG:jl G):iN nb (j9/\j8/\hM/\fy/\hO/\hR/\jl G):=#[x0,x1,x2,x3,x4,hA,hB,hC,hD,hE,hF,hG]
}
section z
namespace _B
open Mt
variable{α:Type}{c i n f x j z a low:Y}{l:ac}{bH:wQ}{r:kB}{e:qF}
def z:={
zy{l:en}{x:α}(h:l[n]?=Z x):gu n=x::pa j7:=by obtain⟨a8,rfl⟩:=Q7;exact(List.getElem_cons_drop a8).symm
nR.1(l:gQ):wD->wD|uj=>uj|.ok m=>.ok E7
mZ.1(i:Y)(bH:wQ):ac->tG|[]=>ak|k::a::z::v::_=>let p:=HX nr;kC [Is (k<y6) nr k 4 i,g_ (eu a&&(p.all xq q bn (q.last<a))) 7 i,g_ (eu z&&bn (a<=z)) 7 i,g_ ge (0<v) bn (v<=qG k) 8 i,om (p.all xq q (!(im q.last==a&&q.value==v))) 9 i]|_=>Z nV
adL(i:Y)(bH:wQ):oo i bH []=.ok []:=rfl
acJ{k v:Y}:Q9=fI Bz (nR [(k,#[a,z,v])] (oo bD Z C6 l)) .lJ:=by rw[Jm mZ (kC _)];cases x;(.generalize eG oo _=y;cases y<;>rfl);.rfl
A7{f:qF}(h:mU mZ=Z f):SN=uj:=by(rw[Hd l b d];((.rw[bo]);.rw[sE]);(.rw[sE]);.rw[sE]);.rw[acJ,h];rfl
WM{k v:Y}(h:dR Bz):Q9=nR [(k,#[a,z,v])] (oo bD Z C6 l):=by rw[acJ,h];rfl
A9.1(p:ac)(t:Y):nr:=(lr,#[tw,CO,xm])
iK.1(p:ac)(t:Y):gQ:=(kD t).bz (A9 p)
BU.1(p:ac):Y->cC (Y×kB)|0=>ak|t+1=>Z (A9 p t)
N5(p:ac)(t:Y):iK p g0=MF++[A9 p t]:=by unfold iK;rw[uX,dh];rfl
aIZ(l m:gQ)(e:wD):nR l (nR m e)=nR E7 e:=by cases e with|lJ f=>rfl|ok r=>simp[nR]
arf(e:wD):nR [] e=e:=p5 e
Ea{p:ac}{t:Y}(h:4*t+4<=oq):qH du=lr::tw::CO::xm::qH yJ:=by(have g:∀j,j<oq->qH j=fk j::qH (j+1):=λ j hj=>by rw[zy (x:=fk j)];rw[sw gd hj]);rw[g du eA Um,g z9 eA TH,QY AC,g Ak v4];rfl
jf.1(p:ac)(t:Y):Prop:=4*t<=oq/\yc ak p=nR MF (oo t Eu xT)
jf.zero(p:ac):jf p 0:=#[mE,by show _=nR [] _;rw[arf];rfl]
jf.next{p:ac}{t:Y}(h:Ev)(hl:Lb)(hf:dR (mZ t Eu xT)):jf p g0:=by(have h4:4*t+4<=oq:=by rw[QH hn];((have fO:dy qH du<4:=by rw[wb aGM hn]);have i6:0<dy qH du:=by rw[Qa hl]);revert hf fO i6;generalize xT=q;intro hf fO i6;(rw[Hd q b d];((.exact Hm i6);.cases hf);(.cases hf);.cases hf);.exact Nh (PO bP) fO);refine #[Iy h4,?_];rw[h.2,Ea h4];rw[Ea h4]at hf;rw[WM hf,aIZ,N5];rfl
jf.fault{p:ac}{t:Y}{f:qF}(h:Ev)(hf:mZ t Eu xT=Z f):yc ak p=uj:=by rw[h.2,A7 hf];rfl
jf.done{p:ac}{t:Y}(h:Ev)(hl:oq<=4*t):yc ak p=.ok MF:=by rw[h.2,Bw,adL];simp[nR]
jw.1(l:en):wO->wO|uj=>uj|.ok m=>.ok E7
Nd(l m:en)(e:wO):jw l (jw m e)=jw E7 e:=by cases e with|lJ f=>rfl|ok r=>simp[jw]
My(e:wO):jw [] e=e:=p5 e
oX.1(i:Y)(bH:li):ac->tG|[]=>ak|k::ut=>let p:=HX ui;let to:=kl;kC [Is (k<MAPS) ui k 4 i,g_ (eu c&&(p.all λ(q:Y)=>bn (q<c))) 10 i,g_ ge (0<n) bn (n<=Fd k) 11 i,Kx (n<=bP) 6 i,g_ (Fe k to) 12 i,g_ (!(k !=10&&(k !=11&&to==dX))) 13 i]|_=>Z nV
aLe(f i:Y)(bH:li):Cz gw [] []:=p5 f
QC{bH:li}{k:Y}:tz gw (k::ut) (fI mz oX ut (jw [(k,#[c,kl])] (gw f bD Z (k,c) pe)) .lJ):=by rw[Jm oX (kC _)];cases x;(.generalize gw _ _ _ _=y;cases y<;>rfl);.rfl
aaJ{bH:li}(h:mU oX=Z e):tz gw l kZ e:=by rw[HV a b c];((.rw[bo]);.rw[sE]);(.rw[sE]);.rw[QC,h];rfl
acK{bH:li}{k:Y}(h:dR mz oX ut):tz gw (k::ut) (jw [(k,#[c,kl])] (gw f bD Z (k,c) pe)):=by rw[QC,h];rfl
rZ.1(i:Y)(bH:nq):ac->tG|[]=>ak|k::n::l=>let p:=HX tX;let key:=kl;let r:=pe;let m:=r.headD 0;let to:=(kF 1).d4 m;kC [Is (k<SEQS) tX k 4 i,g_ ge (TY<=n) bn (n<=Ff k) 14 i,Kx (n<bP) 6 i,g_ (key.all eu&&(p.all λ(q:ac)=>ip q key)) 14 i,g_ ge (0<m) bn (m<=y8 k) 15 i,Kx (m<lK) 6 i,g_ (k==0||to.all λ(x:Y)=>bn (x<2^16)) 15 i]|_=>Z nV
aoJ(f i:Y)(bH:nq):Cz gx [] []:=p5 f
afo{bH:nq}{k:Y}:tz gx (k::n::l) (fI mz rZ (n::l) (jw [(k,#[kl,I?])] (gx f bD Z (k,kl) nW pe (1+Cm 0))) .lJ):=by rw[Jm rZ (kC _)];cases x;(.generalize gx _ _ _ _=y;cases y<;>rfl);.rfl
adW{bH:nq}(h:mU rZ=Z e):tz gx l kZ e:=by rw[Id a b l];((.rw[bo]);.rw[sE]);.rw[afo,h];rfl
abA{bH:nq}{k:Y}(h:dR mz rZ (n::l)):tz gx (k::n::l) (jw [(k,#[kl,I?])] (gx f bD Z (k,kl) nW pe (1+Cm 0))):=by rw[afo,h];rfl
MP{o:tG}{l:bA tG}:cw kC (o::l)↔o=ak/\cw kC l:=by cases o<;>simp[kC]
MS{c:aL}{r:Y}:dR (om c r i)↔c=au:=by unfold om;split<;>simp_all
ZO{l:en}{e:wO}{r:en}(h:jw l e=.ok r):∃m,e=.ok m/\r=l++m:=Qc m m (by rw[bo];rfl)
axq{l:gQ}{e:wD}{r:gQ}(h:nR l e=.ok r):∃m,e=.ok m/\r=l++m:=Qc m m (by rw[bo];rfl)
}
structure zl(x:nr):Prop where
 kind:bh<14
 first:ln LS
 bH:ln D!
 le:LS<=D!
 aY:0<LT
 qG:LT<=qG bh
def z:={
nN.1(x y:nr):Prop:=xU (D!<y.2.first)
ak4{k v:Y}(h:dR Bz):zl C6/\∀x,t8->nN x C6:=by rw[c0 mZ,HQ MP MS h,<-gJ h λ aS aU a9 bu _=>bq aS λ h1 h2=>bq aU λ h3 h4=>bq a9 λ h5 h6=>bq bu cr h7 h8,<-#[#[h1,h3,h5,h6,h7,h8],D4]];subst hx;rw[sB lM h2];by_cases e:gl;(.rw[QR ao e lM h4,h4]);.left;show n?;exact y9 h2 e
nN.trans{x y z:nr}(hy:zl y)(a:nN x y)(b:nN y z):nN x z:=by unfold nN at*;have:=hy.le;exact aKU a b al
Ka:∀{l:ac}{i:Y}{bH:wQ}{ps:gQ},SN=.ok ps->v2 ps (zl x)/\ps.Pairwise nN/\∀x,t8->kc ps (nN x y)|[],i,bH,ps,h=>by rw[adL]at h;rw[bo,#[aM,dW,fC]]|[_],i,bH,ps,h=>by rw[hW (A7 (f:=nV) ag)]|[_,_],i,bH,ps,h=>by rw[hW (A7 (f:=nV) ag)]|[_,_,_],i,bH,ps,h=>by rw[hW (A7 (f:=nV) ag)]|k::a::z::v::l,i,bH,ps,h=>by cases hf:Bz with|ca f=>rw[hW (A7 hf)]|ak=>rw[WM hf]at h;(rw[IA axq bW bW]);refine bX (Ka e) ar i1 i2 i3;obtain⟨f1,f2⟩:=ak4 hf;refine #[pA x hx,eP (i3 _ ag) i2,λ x hx y hy=>?_];(.rw[HI f1 i1]);.rcases eD hy with rfl|hy;(.exact f2 x hx);.exact(Mw).u3 f1 LV
}
structure yX(x:me Row):Prop where
 kind:bh<15
 sc:ln (b8).eu
 aY:0<CL
 qG:CL<=Fd bh
 dc:ap (Fe bh (b8).to)
 other:bh≠10->bh≠11->(b8).to≠[x.2.eu]
def z:={
GJ.1(x y:me Row):Prop:=xU ((b8).eu<y.2.eu)
aDJ{bH:li}{k:Y}(h:dR mz oX ut):yX (k,#[c,kl])/\∀x:ui,t8->n?\/(x.1=k/\b8<c):=by rw[c0 oX,HQ MP MS h,<-v_ h λ cJ dw d7 h7 h8 h9 _=>bq cJ λ h1 h2=>bq dw λ h3 h4=>bq d7 cr h5 h6];(have hl:s0=n:=by rw[ot,Fg h7]);refine #[#[h1,h3,by show 0<s0;exact DV h5 hl,by show s0<=Fd k;exact y_ hl h6,h8,ar e1 e2 e3],D4];(.dsimp only at e1 e2 e3;rw[e3]at h9;simp[e1,e2]at h9);.subst hx;rw[sB lM h2];by_cases e:gl;(.rw[QR ao e lM h4,h4]);.left;exact y9 h2 e
Td:∀{f:Y}{l:ac}{i:Y}{bH:li}{ms:B!},Cz gw l ms->v2 ms (yX x)/\Ux GJ/\∀x:ui,t8->kc ms xU (b8<y.2.eu):=by intro f;induction f with|cu=>rw[QL l]|cv f ih=>intro l i bH ps h;cases hf:mU oX with|ca e=>rw[hW (aaJ hf)]|ak=>rw[HV k c n];((.rw[bo,#[aM,dW,fC]]);.cases hf);(.cases hf);.rw[acK hf]at h;(rw[IA ZO fM fM]);refine bX (ih e) ar i1 i2 i3;obtain⟨f1,f2⟩:=aDJ hf;refine #[pA x hx,eP (i3 _ ag) i2,λ x hx y hy=>?_];(.rw[HI f1 i1]);.rcases eD hy with rfl|hy;(.exact f2 x hx);.have a:=Mw;have b:=LV;dsimp only at b;exact aEF a b
aeJ:∀{a b c:ac},ap (ip a b)->ap (ip b c)->ap (ip a c)|_,[],_,h,_=>Dl ip|_,og,[],_,h=>Dl ip|[],og,og,_,_=>rfl|x::a,y::b,z::c,h1,h2=>by simp only[ip,Fi,i4,fc,lO]at h1 h2⊢;rcases h1 with h1|⟨e1,h1⟩<;>rcases h2 with h2|⟨e2,h2⟩;((.left;exact Fj h1 h2);.left;exact Np h1 e2);(.left;exact Uy e1 h2);.right;exact #[eO V4 e1 e2,wI aeJ]
}
structure CT(x:me Seq):Prop where
 kind:bh<3
 ou:Nj bh<=SZ
 qG:SZ<=Ff bh
 sc:ap ((b8).key.all eu)
 aY:0<CL
 OF:CL<=y8 bh
 small:bh≠0->∀y∈(b8).to,y<65536
def z:={
Hh.1(x y:me Seq):Prop:=xU ap (ip (b8).key y.2.key)
aB4{bH:nq}{k:Y}(h:dR mz rZ (n::l)):CT (k,#[kl,I?])/\∀x:tX,t8->n?\/(x.1=k/\ap (ip b8 (u1 n))):=by rw[c0 rZ,HQ MP MS h];obtain⟨⟨h1,h2⟩,⟨h3,h4⟩,h5,⟨h6,h7⟩,⟨h8,h9⟩,eW,eB,_⟩:=h;((have hl:s0=n:=by rw[ot,Fg (Fk h5)]);have hm:dy uK AJ AH=Cm 0:=by rw[ot,io,Fg bm Nat.le_sub_one_of_lt eW]);refine #[#[h1,by show TY<=s0;exact E3 h3 hl,by show s0<=Ff k;exact y_ hl h4,h6,by show 0<dy uK AJ AH;exact DV h8 hm,by show dy uK AJ AH<=y8 k;exact y_ hm h9,ar e1 y hy],D4];(.dsimp only at e1 hy;simp only[Fi,lO,u4,i4]at eB;rcases eB with eB|eB;(.rw[f8 eB e1]);.rw[ll (eB y hy) Up]);.subst hx;rw[sB lM h2];by_cases e:gl;(.right;refine #[e,?_];simp only[u2,ao e,lM]at h7;exact h7);.left;exact y9 h2 e
Q2:∀{f:Y}{l:ac}{i:Y}{bH:nq}{ms:B'},Cz gx l ms->v2 ms (CT x)/\Ux Hh/\∀x:tX,t8->kc ms xU ap (ip b8 y.2.key):=by intro f;induction f with|cu=>rw[QL l]|cv f ih=>intro l i bH ps h;cases hf:mU rZ with|ca e=>rw[hW (adW hf)]|ak=>rw[Id k n l];((.rw[bo,#[aM,dW,fC]]);.cases hf);.rw[abA hf]at h;(rw[IA ZO jx jx]);refine bX (ih e) ar i1 i2 i3;obtain⟨f1,f2⟩:=aB4 hf;refine #[pA x hx,eP (i3 _ ag) i2,λ x hx y hy=>?_];(.rw[HI f1 i1]);.rcases eD hy with rfl|hy;(.exact f2 x hx);.have a:=Mw;have b:=LV;dsimp only at b;rcases a with a|⟨a,a'⟩<;>rcases b with b|⟨b,b'⟩;((.left;exact Fj a b);.left;exact Np a b);(.left;exact Uy a b);.right;exact #[eO V4 a b,aeJ a' b']
cU.1(k:Y)(l:cZ):cZ:=l.zipIdx.filterMap c_ r? (bh.1=k) Z (x.2,bh.2)
eK.1(n:Y)(l:cZ):bA cZ:=JP n λ k=>j_
lQ.1(k:Y)(l:cZ):en:=l.filterMap c_ r? gl Z b8
Nk(k:Y)(l:cZ)(x:sy):cU k ko=j_++CU gl [(bP,b8)]:=by unfold cU;rw[Uz,Nq];congr 1;rw[Q3 y' Nt Fl];by_cases e:gl;(.rw[ao e,ao e]);.rw[aj e,aj e]
MD(k:Y)(l:cZ)(x:sy):lQ k ko=kf++CU gl [x.2]:=by rw[e9 lQ Nq];congr 1;simp only[y',Nt];by_cases e:gl;(.rw[ao e,ao e]);.rw[aj e,aj e]
Nu{p:kq en}(h0:p [])(h1:∀l x,p l->p ko):∀l,p l:=by intro l;have:=λ(r:en)=>List.rec (motive:=λ r=>p r.reverse) dv h0 (λ a r ih=>by rw[Nv];exact eG h1 ih) r;simpa using al l.reverse
m8(k:Y)(l:cZ):(j_).bz (·.2)=kf:=by refine KR (λ l=>(j_).bz (·.2)=kf) ag hV l x ih l;rw[Nk,MD,dh,ih];congr 1;split<;>rfl
FX(k:Y)(l:cZ):bp j_=bp kf:=by rw[<-m8,qL]
A3(n:Y)(l:cZ):u5 n l=JP n λ k=>kf:=rfl
jr{k:Y}(l:cZ)(h:k<n):uE (u5 n l) k []=kf:=by rw[A3,kE,qN,PM];rfl
kL{k:Y}(l:cZ)(h:k<n):(eK n l)[k]?=Z j_:=by unfold eK;rw[Rg]
LP{k:Y}(l:cZ)(x:α)(h:k<n):eK n (l++[(k,x)])=(eK n l).set k (j_++[(bP,x)]):=by rw[wG j];by_cases hj:j<n;(.rw[kL _ hj,Nk];by_cases e:k=j;(.subst e;rw[Fm (by unfold eK;rw[jS]),t?]);.rw[R_,kL _ hj,aj e,oy]);.rw[iq (by unfold eK;rw[gi gy hj]),iq (by rw[Nx];unfold eK;rw[gi gy hj])]
qO.1(k:Y)(l:cZ):Y:=mI Tt (λ j=>bp (lQ j l))
lR(a b:ac):(M6).sum=a.sum+b.sum:=by induction a with|bt=>simp|aQ x r ih=>simp only[Ny,ir,ih];exact Yj
B8(k:Y)(l:cZ):qO br l=wq+bp kf:=by unfold qO;rw[uX,dh,lR];simp
Wf(k:Y)(l:cZ)(x:sy):qO k ko=wq+if n? then 1 else 0:=by induction k with|cu=>simp[qO]|cv k ih=>rw[B8,B8,ih,MD,i7];by_cases e:gl;(.rw[ao e,aj bm VQ e,ao bm asT e];simp only[gA,u6];exact aAG);.rw[aj e];by_cases h:n?;(.rw[ao h,ao eA tq];rw[RG,aiG]);.rw[aj h,aj eO ao6 h e];rw[RG,ayD]
LU{k:Y}(l:cZ)(h:nD l n?):D0 wq:=by revert h;refine KR (λ l=>DZ n?->D0 wq) (λ _=>?_) (λ l x ih h=>?_) l;(. (have:∀j,qO j ([]:cZ)=0:=λ j=>by induction j with|cu=>rfl|cv j ih=>rw[B8,ih];rfl);exact al k);.rw[Wf,ih (λ y hy=>h y IT hy),ao La,i7];rfl
O8{l:cZ}(hs:Fo λ x y=>bh<=y.1):SG k i i:=by revert hs;refine KR (λ l=>(Fo λ x y=>bh<=y.1)->SG k i i) ?_ ?_ l;(.intro _ k i y h;simp[cU]at h);.intro l x ih hs k i y h;refine bX (List.pairwise_append.mp hs) λ h1 _ h3=>?_;have hle:∀z∈l,z.1<=bh:=λ z hz=>h3 z hz x aM;rw[Nk]at h;rw[Wf];by_cases e:gl;(.rw[ao e]at h;rw[aj bm VQ e];rw[List.getElem?_append]at h;split at h;(.exact ih h1 h);. (rename_i hi;have fg:i - bp j_=0:=by rw[QH hn,hW (iq (by rw[gi acw hn]))]);rw[fg]at h;rw[bo];show bP=_;have b_:=LU (k:=k+1) l (λ z hz=>by rw[m3 (hle z hz) axU e]);rw[B8]at b_;rw[FX]at hi fg;exact aDc b_ fg hi);.rw[aj e,oy]at h;(have hk:¬n?:=λ hk=>by(have:j_=[]:=by apply List.eq_nil_iff_length_eq_zero.mpr;rw[FX];have b_:=LU (k:=k) l (λ z hz=>by rw[m3 (hle z hz) Nat.lt_of_le_of_lt hk]);have abM:=LU (k:=k+1) l (λ z hz=>by rw[m3 (hle z hz) ahi hk]);rw[B8]at abM;exact ahx abM b_);rw[al]at h;rw[bo]);rw[aj hk];exact ih h1 h
FJ{k:Y}{l:cZ}{x:α}:x∈kf↔uH∈l:=by rw[e9 lQ List.mem_filterMap];constructor;(.rintro⟨⟨j,y⟩,h1,h2⟩;dsimp only at h2;split at h2;(.rename_i e;cases h2;subst e;exact h1);.cases h2);.intro h;exact aW uH h aM
A6{α:Type}{R:sy->sy->Prop}{S:ci α α}{k:Y}(h:∀x y,R uH (k,y)->S x y):∀{l:cZ},Fo R->wo kf S|[],_=>dW|uM,hp=>by obtain⟨h1,h2⟩:=UA hp;rw[e9 lQ y'];by_cases e:gl;(.rw[ao e];refine List.Pairwise.cons pA y hy (A6 h h2);have hm:(k,y)∈l:=FJ.mp hy;have:=h1 _ hm;obtain⟨x1,x2⟩:=x;dsimp only at e;subst e;exact eG h al);.rw[aj e];exact A6 h h2
DQ{α:Type}{p:α->aL}:∀{l:en}{j:Y}{x:α},l[j]?=Z x->pr p->(∀i y,i<j->ck l y->iL p y)->Nz p=Z x|[],j,x,h,_,_=>gq|qD,0,x,h,hp,_=>by rw[bo];rw[UB hp]|qD,j+1,x,h,hp,hb=>by rw[UF (by rw[hb 0 a (Fq _) ag];simp)];exact DQ (j:=j) pY hp λ i y hi hy=>hb bD y bm Kb hi Cr
asI{B:ai}{k:Y}(h:k6[j]?=Z r)(hb:Im j q c)(h1:LI c)(h2:D7 c):Lh:=by unfold kH;rw[DQ h (by simp[h1,h2]) (λ i y hi hy=>by have:=hb i y hi hy;simp;omega)]
awZ{B:ai}{k:Y}(h:∀r∈k6,¬(oz<=c/\D7 c)):se=0:=by unfold kH;rw[NB (λ r hr=>by have:=yK h;simp;rw[ei aFz])]
afe{B:ai}{k:Y}(h:se≠0):∃r∈k6,LI c/\D7 c/\Lh:=by unfold kH at h⊢;split;(.rename_i r hr;rw[tp h1 Rj SC,sB fc h2,(fF r h1 h2.1 h2.2 ag)]);.rename_i hr;rw[hr]at h;rw[lj h]
}
structure di(B:ai):Prop where
 gT:KI (k<14) k6 zl
 OE:∀k,k<14->wo k6 λ x y=>x.last<y.first
 bb:KI (k<15) B4 yX
 agg:∀k,k<15->wo B4 λ x y=>x.scalar<y.scalar
 seq:KI (k<3) J9 CT
 aJh:∀k,k<3->wo J9 λ x y=>ap (ip x.key y.key)
def z:={
alF{p m s:ac}{ns:Dr}{ps:gQ}{ms:B!}{ss:B'}{g:Y}(hp:yc ak p=.ok ps)(hm:gw f 0 ak m=.ok ms)(hs:gx g 0 ak s=.ok ss):di #[u5 y6 ps,u5 MAPS ms,u5 SEQS ss,ns]:=by refine bX (Ka hp) kr p1 p2 ?_;refine bX (Td hm) kr m1 m2 ?_;refine bX (Q2 hs) kr s1 s2 ?_;refine #[λ k r hk hr=>?_,cr k hk,λ k r hk hr=>?_,cr k hk,λ k r hk hr=>?_,cr k hk];(((.rw[IG hr y6 p1]);.dsimp only;rw[AL jr (k<y6) hk];rw[<-A6 (R:=nN) hV x y h p2,c0 nN,xr,aav h]);(.rw[IG hr MAPS m1]);.dsimp only;rw[AL jr (k<MAPS) hk];rw[<-A6 (R:=GJ) hV x y h m2,c0 GJ,xr,aav h]);(.rw[IG hr SEQS s1]);.dsimp only;rw[AL jr (k<SEQS) hk];rw[<-A6 (R:=Hh) hV x y h s2,c0 Hh,xr];rcases h with h|h;(.exact pI axt h);.exact h.2
ah2{p:α->aL}{l:en}{x:α}(hx:x∈l)(hp:pr p)(hu:kc l (ap (p y)->y=x)):Nz p=Z x:=by cases h:Nz p with|ak=>have:=List.find?_eq_none.mp h x hx;rw[f8 hp al]|ca y=>rw[hu y (ND h) (NE h)]
atP{R:ci α α}{l:en}(h:Fo R){x y:α}(hx:x∈l)(hy:y∈l):bG\/R x y\/R y x:=by induction l with|bt=>cases hx|aQ a l ih=>rw[BW h2 (UA h)];rcases eD hx with rfl|d8;(.rcases eD hy with rfl|hy;(.rw[k7 ag]);.rw[nv eV ym]);.rcases eD hy with rfl|hy;(.rw[nv iZ (h1 x d8)]);.exact ih h2 d8 hy
Fs{B:ai}{k:Y}(h:∀r∈B4,qP≠c):DS=[]:=by unfold bz;rw[NB (λ r hr=>by simpa using yK h)]
Fv{B:ai}{k:Y}(h:DS≠[]):∃r∈B4,qP=c/\DS=r.to:=by unfold bz at h⊢;split;(.rename_i r hr;exact(aZ r Rj (by simpa using SC) ag));.rename_i hr;rw[hr]at h;rw[lj h]
di.Ll{B:ai}(F:il)(c:Y):bp fq<=2:=by unfold u7;split;(.rw[pS qR,xv]);.by_cases h:MI c=[];(.rw[h];simp);.rw[iJ Fv h λ r h1 _ h3=>?_];rw[h3];have:=(F.row 0 r cD h1).qG;exact al
FO.1(B:ai):ac->ac|[]=>[]|c::r=>if pH then c::r else fq++r
aoI{B:ai}{x r:ac}(h:x≠[]):FO B M2=FO B x++r:=by cases x with|bt=>rw[lj h]|aQ c x=>show IQ (c::M2) fq M2=(if pH then c::x else fq++x)++r;split;(.rfl);.rw[Jg]
IV{B:ai}:(ls n c (Di≠[]))|0,c=>fD ix|n+1,c=>by unfold ix;split;(.simp);.intro e;exact IV n _ (List.append_eq_nil_iff.mp e).1
K6{B:ai}:(ls n c (ix B j7 c=FO B Di))|0,c=>(by show Iv dX (a::r) (ix B 0 a++r)=IQ dX fq [];cases h:fq with|bt=>rfl|aQ a r=>simp[ix])|n+1,c=>by show Iv dX (a::r) (ix B j7 a++r)=FO B Iv dX (a::r) (ix B n a++r);cases h:fq with|bt=>show dX=IQ dX fq [];rw[ao h]|aQ a r=>dsimp only;rw[aoI (IV n a),K6 n a]
di.xo{B:ai}(F:il):(ls n c (bp Di<=n+1))|0,c=>fD ix|n+1,c=>by have h1:=F.Ll c;unfold ix;split;(.simp);.rename_i a r e;rw[e]at h1;have:=F.xo n a;rw[i7];rw[Rh h1,axy h1 al]
dJ.1(B:ai)(c:Y):ac:=if p! then fq else D?
mF.1(B:ai)(c:Y):ac:=if iX=[]then dX else iX
gb.1(B:ai)(l:ac):ac:=Fw (mF B)
gk.1(B:ai)(l:ac):aL:=l.all λ c=>iX==[]
Dx(B:ai)(c:Y):T! c=dX:=rfl
uc(B:ai)(n c:Y):KE=if iX=[]then dX else(iX).flatMap AN:=by rw[IN (if p! then fq else D?) dX Kr K_,IN iX dX Kr K_];cases h:iX with|bt=>rfl|aQ a r=>simp
YU(B:ai)(x y:ac):gb B (x++y)=gb B x++gb B y:=by rw[e9 gb List.flatMap_append]
acj{B:ai}{f:Y->ac}:∀l:ac,gb B TL=Kr (gb B yY)|[]=>rfl|qD=>by rw[eR,YU,acj l,eR]
yu(B:ai):(ls n c (KE=gb B j'))|0,c=>by rw[uc,Dx];unfold gb mF;rw[eR,UJ,oy];split;(.rfl);.have:T!=c_ [x]:=funext λ x=>rfl;rw[al];simp|n+1,c=>by rw[uc,uc B n c];split;(.rw[qb];unfold gb mF;rw[eR,uk];rfl);.rw[acj];congr 1;funext x;exact yu B n x
aJU(B:ai)(c:Y):0<bp (mF B c):=by unfold mF;split;(.simp);.rw[qb,List.length_pos_iff.mpr h]
I0(B:ai):∀l:ac,bP<=bp (gb B l)|[]=>gh|qD=>by have:=aJU B a;have ih:=I0 B l;unfold gb at ih⊢;rw[eR,i7,gA];exact Tn al ih
Wl{B:ai}:∀{l:ac},j? l->gb B l=l|[],_=>rfl|qD,h=>by rw[c0 gk];rw[y!,fc]at h;have ih:=Wl (B:=B) (l:=l) h.2;unfold gb at ih⊢;(have e:dJ B a=[]:=by simpa using h.1);rw[eR,ih];rw[lf mF e];rfl
PH(B:ai):(ls n c (0<bp j'))|0,c=>fD Dx|n+1,c=>by rw[yu];exact y? (PH B n c) (I0 B _)
aJG(B:ai)(x y:ac):gk B (x++y)=(gk B x&&gk B y):=by rw[e9 gk List.all_append]
Xu{B:ai}{n:Y}(ih:∀c,u9 B n c=r? (j? j'/\nl j') Z j'):∀(l y:ac),lS H! Z y=z? (l≠[]/\¬(gk B Li=au/\nl (y++Li))) Z (y++Li)|[],y=>fC|qD,y=>by(have nA:∀l:ac,dR (lS H! ak):=λ l=>by induction l with|bt=>rfl|aQ b l ih=>rw[dB za ih]);have hp:=PH B n a;rw[za,u2,eR,aJG,ih a];by_cases h1:18<PK;(.rw[ao h1,nA,lN];rw[<-#[aM,yp h],HY h.2,ate hp h1 al]);.rw[aj h1];by_cases h2:j? K!/\nl K!;(.rw[ao h2,u2];by_cases h3:18<oB+bp K!;(.rw[ao h3,nA,lN];rw[<-#[aM,yp h],HY h.2,aMj h3 al]);.rw[aj h3,Xu ih l];rw[h2.1,Fy,UI];by_cases hl:l=[];(.subst hl;rw[CP,ow];rintro⟨_,h⟩;apply h;refine #[rfl,?_];simp only[UJ,oy,i7];exact gy h3);.simp[hl]);.rw[aj h2];show List.foldl _ (Option.bind ak _) l=_;rw[Option.bind_none,nA,lN];refine #[aM,λ h=>h2 yB ?_];(.have:=h.1;rw[fc]at al;exact al.1);.rw[HY h.2,ei aon]
Kw{B:ai}:(ls n c (u9 B n c=r? (j? j'/\nl j') Z j'))|0,c=>by show GE (p!/\pH) dX ak=_;rw[Dx];(have e:(gk B dX=au/\nl dX)↔(D?=[]/\pH):=by unfold gk dJ;simp only[y!,Fz,FA,lO,gA,u6];split;(.rw[qb];simp[h]);.rw[qb];simp[h]);by_cases h:p!/\pH;(.rw[ao h,lN (e.mpr h)]);.rw[aj h,aj uC (h (e.mp q))]|n+1,c=>by rw[IN iX Z dX (lS H! Z [])];rw[uc];cases h:iX with|bt=>dsimp only;rw[t?,lN];unfold gk;simp[h]|aQ a r=>dsimp only;rw[aj (show¬f_ a=[]by simp),Xu (Kw n)];rw[zc];by_cases hq:j? (UL AN f_ a)/\nl (UL AN f_ a);(.rw[ao hq,aj uC (q.2 hq)]);.rw[aj hq,ao #[aM,hq]]
afQ(B:ai)(c:Y):∀{j n:Y},j<=n->bp ng<=bp j':=by intro j n h;induction h with|refl=>exact u8 _|step _ ih=>rw[UN,yu];exact oE ih (I0 B _)
aGj(B:ai)(c:Y)(h:j<=n)(hd:j? ng):j'=ng:=by induction h with|refl=>rfl|step _ ih=>rw[UN,yu,ih,Wl hd]
eQ.1(B:ai)(c:Y):ac:=if j? xF/\dy GP c<=18 then xF else[]
at5{B:ai}(hj:j<=8)(h:18<bp ng):qt=[]:=by rw[e9 eQ ow];rintro⟨_,q⟩;have:=afQ B c hj;exact aDR h al q
auD{B:ai}(hj:j<=8)(h:nl ng)(hd:j? ng):qt=ng:=by unfold eQ;rw[aGj B c hj hd,ao #[hd,h]]
aF9{B:ai}(h:gk B xF=false):qt=[]:=by rw[e9 eQ ow];rintro⟨q,_⟩;rw[bN h q q]
Vc(B:ai)(c:Y):(Dk).isSome=bn (0<bp qt):=by rw[Kw];unfold eQ u_;split;(.have:=PH B 8 c;simp[al]);.simp
am2{B:ai}(h:tM Dk):qt=fullK B c:=by rw[Kw]at h;rw[c0 u_];unfold eQ fullK u_;split at h;(.rename_i q;rw[ao q]);.rw[bo]
mY.1(p:gV)(e:Y):aL:=((CZ&&(K5&&weight3 e !=0))||((!CZ&&(Tx||!K5))||(CZ&&(!K5&&(!Tx&&(match p with|Z q=>variable_ q==TF|ak=>false))))))&&(CZ||!TF)
arY(p:gV)(e:Y)(r:ac):FB p f_ e=(mY p e&&Km yy):=by show(_&&(_&&Km yy))=(_&&Km yy);rw[tu mY UP]
IU:∀(l:ac)(p:gV),ap (FB p l)↔∀i e,ck l e->ap (mY (if i=0 then p else l[i - 1]?) e)|[],p=>fD FB|qD,p=>by rw[arY,fc,IU l];constructor;(.rintro⟨h1,h2⟩i e he;cases i with|cu=>cases he;exact h1|cv i=>have:=h2 i e dv he;rw[Sj ow];rw[Ql]);.intro h;refine #[h 0 a ag,ar i e he];have:=h bD e dv he;rw[Sj ow]at al;rw[Ql]
Ko(B:ai):∀l:ac,ap (FC B l)↔∀i x y,ck l x->l[bD]?=Z y->ccc B y=0\/ccc B x<=ccc B y|[]=>fD FC|[a]=>fD FC|a::b::l=>by show ap ((ccc B b==0||ka (ccc B a) (ccc B b))&&FC B (b::l))↔_;rw[fc,Ko B (b::l),Fi,lO,i4];constructor;(.rintro⟨h1,h2⟩i x y hx hy;cases i with|cu=>cases hx;cases hy;exact h1|cv i=>exact h2 i x y Cs Cr);.intro h;refine #[h 0 a b ag ag,λ i x y hx hy=>h bD x y Cs Cr]
u!.1(B:ai)(k:Y)(z:ad):Y:=if 0<=z/\ln NJ then kH B k NJ else 0
oZ(c:Y):ln c↔c<0x110000/\¬(0xD800<=c/\c<0xE000):=by unfold eu;simp only[fc,i4,US,Bool.and_eq_false_iff,decide_eq_false_iff_not];exact agV
aar{B:ai}(F:il){k d:Y}(hk:k<14)(h:se≠0)(hc:0xD800<=c/\c<0xE000)(hd:0xD7FF<=d/\d<=0xE000):kH B k d=se:=by refine xn (afe h) λ r hr h1 h2 h3=>?_;have f:=F.gT k r hk hr;have f1:=(oZ _).mp f.first;have f2:=(oZ _).mp f.last;dsimp only at f1 f2;rw[h3];unfold kH;rw[ah2 hr (by simp;exact atl hc hd h1 h2 f1 f2) hV y hy e];have g:=F.gT k y hk hy;have g3:=g.le;dsimp only at g3;rw[sB fc e];rcases atP (F.OE k hk) hy hr with q|q|q;((.exact q);.exact fI (aDz hc hd h1 f1 e q));.exact fI (anU hc hd h2 f2 e q)
atm{B:ai}(F:il)(hr:r∈UH 11 []):((Tf).all λ i=>kH B 11 JH==db&&bn (oA<=GF))=((Tf).all λ d=>bn (((u! B 11 Ia:Y):ad)=(d:ad)+1)):=by have f:=F.gT 11 r cD hr;have fm:oA<=10:=f.most;have fp:0<oA:=f.pos;have fs:=(oZ _).mp f.first;dsimp only at fs;rw[ze,u4,u4];constructor;(.intro h d hd;rw[Jn hd];(have b_:∀i,i<10->kH B 11 JH=db/\TM:=λ i hi=>by have:=h i (UT hi);rw[Ho]);have hle:=(b_ 0 cD).2;(have e:Ia=p_ (pi+d):=by exact Vm hle);rw[i4,e];rw[e9 u! UU];(have bJ:ln (pi+d):=by rw[oZ];have hp:=(b_ d hd).1;refine xn (afe (B:=B) (k:=11) (c:=xL+d) xK agb) λ q hq q1 q2 _=>?_;have g:=(oZ _).mp (F.gT 11 q cD hq).bH;dsimp only at g;refine #[eO anP q2 g,yp hs];by_cases qM:oz<0xD800;(.have a1:=(b_ RQ (by exact apW hs hd)).1;have a2:=(b_ RO (by exact amj hs hd)).1;((have e1:xL+RQ=0xD7FF:=by exact aiB fp qM);have e2:xL+RO=0xD800:=by exact akx e1);rw[e1]at a1;rw[e2]at a2;have:=aar F (k:=11) (c:=0xD800) (d:=0xD7FF) cD bm aob a2 gr atL gr aEg;exact aBY e1 a1 al a2);.have a1:=SO b_ RP as1;have a2:=SO b_ RN amZ;((have e1:xL+RP=0xDFFF:=by exact awK hs);have e2:xL+RN=0xE000:=by exact aKe e1);rw[e1]at a1;rw[e2]at a2;have:=aar F (k:=11) (c:=0xDFFF) (d:=0xE000) cD bm awr a1 gr ara gr aEQ;exact ap9 e1 a1 a2 al);rw[ao #[gr alZ,bJ],(b_ d hd).1];exact anA);.intro h i hi;rw[Jn hi];(have b_:∀d:Y,d<10->p_ (u! B 11 Ia)=(d:ad)+1:=λ d hd=>by have:=h d (UT hd);rw[Ho]);(have h0:=b_ 0 cD;have hle:TM:=by unfold u! at h0;split at h0;(.omega);.exact aDD h0);have hd:=b_ i hi;(have e:(PJ+1+(i:ad))=p_ JH:=by exact Vm hle);rw[e]at hd;unfold u! at hd;rw[UU]at hd;split at hd;(.simp only[fc,lO,i4];exact #[bm ah3 hd,hle]);.exact pI aqQ hd
axQ{B:ai}(F:il){k:Y}(hk:k<14)(qM:Im low q c)(hr:k6[low]?=Z r)(hh:D7 c)(h1:LI c):Lh:=asI hr qM h1 hh
Ws{B:ai}(F:il){k:Y}(hk:k<14)(qM:Im low q c)(h:∀r,k6[low]?=Z r->c<oz):se=0:=by refine awZ cr q hq;obtain⟨i,hi,rfl⟩:=List.getElem_of_mem hq;rintro⟨q1,q2⟩;by_cases h1:i<low;(.rw[m3 (qM i _ h1 gd hi) Fx q2]);.by_cases h2:i=low;(.subst h2;rw[m3 (h _ gd hi) Fx q1]);. (have hl:low<bp k6:=by exact aIT hi h1);have:=h _ gd hl;have p:=List.pairwise_iff_getElem.mp (F.OE k hk) low i hl hi (by exact aFg h1 h2);have g:=(F.gT k _ hk (List.getElem_mem hl)).le;dsimp only at g;exact amJ al g p q1
arV(h:sZ c)(hx:x∈TX):p3:=by rw[c0 lU,sB fc h,xJ qR];rw[oZ];dsimp only at hx;split at hx;(.simp only[NK,UV,or_false]at hx;exact aJq h hx);.simp only[NK,UV,or_false]at hx;exact avO h hx
di.HK{B:ai}(F:il){k:Y}(hk:k<15)(h1:k≠10)(h2:k≠11)(hx:x∈DS):p3:=by rw[iJ (Fv (B:=B) (k:=k) (c:=c)) (λ e=>by rw[bN e hx hx]) λ r hr _ e=>?_];rw[e]at hx;have:=(F.row k r hk hr).dc;unfold Fe at al;dsimp only at al;rw[aj h1,aj h2]at al;exact UW al x hx
di.Pd{B:ai}(F:il)(hx:x∈fq):p3:=by rw[xJ u7];split at hx;(.exact arV Th hx);.exact F.HK cD cD cD hx
di.apD{B:ai}(F:il)(hx:x∈iX):p3:=by rw[xJ dJ];split at hx;(.exact F.Pd hx);.exact F.HK cD cD cD hx
di.Xd{B:ai}(F:il):∀(j c x:Y),ln c->x∈ng->p3|0,c,x,hc,hx=>by rw[Qj qS hx]|j+1,c,x,hc,hx=>by rw[uc]at hx;split at hx;(.rw[Qm]);.refine ah (List.mem_flatMap.mp hx) ar y hy hxy;exact F.Xd j y x (F.apD hy) hxy
di.aLi{B:ai}(F:il)(hc:ln c)(hx:x∈qt):p3:=by rw[xJ eQ];split at hx;(.exact F.Xd 8 c x hc hx);.cases hx
Ym(B:ai)(c:Y):nl qt:=by unfold eQ;split;(.rw[qb,h.2]);.exact Uq _
di.aej{B:ai}(F:il):∀(n c x:Y),ln c->x∈Di->p3|0,c,x,hc,hx=>by rw[Qj ix hx]|n+1,c,x,hc,hx=>by rw[xJ ix];split at hx;(.rw[Qm]);.rename_i y r e;rcases BM hx with h|h;(.exact F.aej n y x (F.Pd (c:=c) (by rw[e];simp)) h);.exact F.Pd (c:=c) (by rw[e];simp[h])
}
section
variable{B:ai}(j0:∀r∈Ti [],RH/\iL kI qP)(j1:∀r∈Tj [],RH/\iL kI qP)
include j0 j1
def z:={
zb(hj:pr kI)(hs:Ts=false):dJ B x=[]:=by(have m1:GA 1 x=[]:=Fs λ r hr e=>by rw[v8 (yK j1).2 e hj];cases al);(have m0:MI x=[]:=Fs λ r hr e=>by rw[v8 (yK j0).2 e hj];cases al);rw[lf dJ m1];unfold u7;rw[aj (by rw[hs];decide),m0]
YO(hs:sZ c):iX=TX:=by(have m1:p!:=Fs λ r hr e=>by rw[v8 (yK j1).1 e hs];cases al);rw[lf dJ m1,lf u7 hs]
Jo(hj:pr kI)(hs:Ts=false)(n:Y):K_=[x]:=by cases n with|cu=>rfl|cv n=>rw[uc,ao iW zb hj hs]
MJ{s:Y}(hs:s<11172):(kI (0x1100+s/588)=au/\AY (0x1100+s/588))/\(kI (0x1161+s%588/28)=au/\AY (0x1161+s%588/28))/\(s%28≠0->ap (kI (0x11A7+s%28))/\AY (0x11A7+s%28)):=by refine #[#[?_,?_],yB ?_,λ h=>yB ?_];(((.unfold kI;rw[gi amy hs]);.unfold lU;rw[gi aD9 hs]);(.rw[t9 kI,apH]);.rw[t9 lU,aJd]);(.rw[t9 kI,aG4 h]);.rw[t9 lU,agC]
XC(hs:sZ c)(zM:jT=0)(n:Y):KE=[Lf vH,Lv (vH%588)]:=by(have hl:S3 c:=by rw[Ju hs hs acO]);refine bX (MJ j0 j1 hl) kr aS aU (bq aS λ a1 a2=>bq aU cr b1 b2);(have e:qR c=[Lf vH,Lv (vH%588)]:=by rw[lf qR zM]);rw[uc,YO j0 j1 hs,e,CP,eR,eR,iW Jo a1 a2,iW Jo b1 b2];rfl
aoU(hs:sZ c):tM Dk:=by((have hl:S3 c:=by rw[Ju hs hs acO]);have fV:0xAC00<=c:=by rw[Ju hs hs axF]);refine bX (MJ j0 j1 hl) λ a9 bu t=>bq a9 λ a1 a2=>bq bu cr b1 b2;rw[Vc];refine zf ?_;by_cases zM:jT=0;(.have e:=iW XC hs zM 7;(have hk:j? xF:=by rw[e];unfold gk;simp only[y!,Fz,FA,iW zb a1 a2,iW zb b1 b2];rfl);unfold eQ;rw[ao #[hk,by rw[e];exact(cD:2<=18)],e];rw[JJ]);.obtain⟨t1,t2⟩:=t zM;((have e0:qR c=[c - jT,0x11A7+jT]:=by unfold qR;rw[aj zM]);have pw:sZ (c - jT):=by unfold lU;rw[Ce xw (0xAC00<=c - jT) ayX zM,Ce xw (c - jT<0xAC00+11172) aES hl];rfl);((have avS:Jf%28=0:=by exact ao2);have dZ:c - jT - 0xAC00<11172:=by exact aIh hl);refine bX (MJ j0 j1 dZ) kr bW cJ (bq bW λ c1 c2=>bq cJ cr d1 d2);((have e:GP c=[Lf Jf,Lv (Jf%588),0x11A7+jT]:=by rw[uc,YO j0 j1 hs,e0,CP,eR,eR,iW XC pw avS,iW Jo t1 t2];rfl);have hk:j? xF:=by rw[e];unfold gk;simp only[y!,Fz,FA,iW zb c1 c2,iW zb d1 d2,iW zb t1 t2];rfl);unfold eQ;rw[ao #[hk,by rw[e];exact(cD:3<=18)],e];rw[JJ]
ajU(h0:∀r∈Ti [],tM (u9 B u_ qP))(h1:∀r∈Tj [],tM (u9 B u_ qP))(c:Y):tM Dk:=by by_cases e1:p!;(.by_cases e0:pH;(.show tM (match(if p! then fq else D?)with|[]=>Z dX|l=>_);rw[ao e1,e0];rfl);.by_cases hs:sZ c;(.exact aoU j0 j1 hs);.have hm:MI c≠[]:=λ e=>e0 (by unfold u7;rw[aj hs,e]);rw[RB hm e h0]);.rw[RB e1 e h1]
}
section z
section _B
namespace Ch
open Mt MtLine
variable{n i a b c:Y}{us:c!}{l:iO}{u:gD}{w:dj}{cs:m5}{r:eo}{m:aL}
def z:={
ie.1(l:eo):Y:=Hj (λ s=>u? iz)
Hv(s:fP)(r:eo):ie E0=if w6 then mS+1 else 0:=by rw[Rc ie,xv]
II:∀l:eo,ie l<=bP|[]=>gh|s::r=>by rw[Hv];have:=II r;rw[xv]<;>omega
zH.1(s:fP)(r:eo)(n:Y):Y:=(EW E0 n s).cls
aJy(h:ap (lV FD)):zh u r=u::dI r:=by cases r with|bt=>rfl|aQ s r=>show(if w6/\Jz then _ else _)=_;rw[aj (by rw[h];simp)];rfl
Q8:∀(r:eo)(u:gD),Jz->zh u r=J2 u (if mS=0 then u.joins else(r.getD PV #[0,false,false,false,false,false,false,false]).cls==47) (d_+mS)::dI (kF (ie r))|[],u,h=>rfl|s::r,u,h=>by show(if w6/\Jz then zh J2 u (iz==47) (d_+1) r else u::zh (vb s) r)=_;rw[Hv];by_cases hm:w6;(.rw[ao #[hm,h],ao hm,Q8 r J2 u (iz==47) (d_+1) h];rw[ow (UQ _),UX,qU];by_cases hz:mS=0;(.rw[ao hz,hz];simp[UY]);.rw[Qf hz r hk];simp[UY,U0 1]);.rw[aj uC (hm q.1),aj hm];rfl
fN.1(s:fP)(r:eo):Y:=if J_ then 1 else 1+mS
ig.1(s:fP)(r:eo):gD:={Mf with zi:=zH s r si==47,qT:=rF}
M_(s:fP):lV Dt s is.cls=lV iz:=by rw[pS vb];split;(.rw[qb,c0 u?];simp only[Fi,lO]at h;rcases h with h|h<;>rw[h]<;>rfl);.rfl
AX(s:fP)(r:eo):dI E0=yq::SE:=by show zh (vb s) r=_;by_cases h:J_;(.rw[aJy (by rw[dB M_ h])];unfold ig fN zH;rw[ao h];rfl);. (have h':iL lV iz:=by rw[jS]);rw[Q8 r _ (by rw[dB M_ h'])];unfold ig fN zH;rw[aj h,Nat.add_sub_cancel_left];congr 1;by_cases hz:mS=0;(.rw[ao hz,hz];rfl);.rw[Qf hz r hk];(have hl:=II r;have a8:k<lK:=by exact asP hk hl);show({Mf with zi:=(r.getD (br - 1) _).cls==47,qT:=Dt s qT+br}:gD)={Mf with zi:=(EW E0 br s).cls==47,qT:=1+br};rw[UX,List.getD_cons_succ,kE,kE,gd a8];rfl
E5(s:fP)(r:eo):0<rF:=by unfold fN;split<;>omega
YK(s:fP)(r:eo):rF<=Lw:=by unfold fN;have:=II r;split<;>omega
num.1:Say->Y|kS=>0|ql=>1|ED=>2
lh.1(eS:aL):ac->c!->Y->BQ->ac|acc,_,p,[]=>FE kn 2|acc,aB,p,qp m=>Q! FE AE aB (u::r.map gj z.1) U1 (u::aB)
o8(n:Y)(cs:m5):bp iQ=n:=by rw[t9 qV]
EK(n:Y)(cs:m5)(h:i<n):iQ[i]?=Z (match cs.find? c_ (bh==db)with|Z (_,au)=>2|Z (_,false)=>1|ak=>0):=by unfold qV;rw[Rg]
abQ{q:Y}(h:nD cs (bh≠q)):cw cs.find? EE (bh==q):=NB λ x hx=>by simpa using sk h
J'{p:Y}{b:aL}(s_:nD cs (bh<p))(h1:1<=p)(h2:p<=n):qV n (cs++[(p,b)])=(iQ).set kn (if b=au then 2 else 1):=by rw[wG i];by_cases hi:i<n;(.rw[El,U3];by_cases e:p - 1=i;(.rw[e,Fm (by rw[dB o8 hi])];rw[abQ (λ x hx=>by have:=sk s_;exact aa8 e al)];(have e':ap (p==db):=by simp;exact arI h1 e);rw[Option.none_or,UB (p:=λ x:ud=>bh==db) (a:=(p,b)) e'];cases b<;>rfl);.rw[R_,El];(have e':¬ap (p==db):=by rw[gi aFl e]);rw[UF (p:=λ x:ud=>bh==db) (a:=(p,b)) e',List.find?_nil,Option.or_none]);.rw[iq (by rw[Bs o8 hi]),iq (by rw[Nx,o8];exact gy hi)]
aMA{p:Y}(s_:nD cs (bh<p))(h1:1<=p):(iQ).set kn 0=iQ:=by rw[wG i];by_cases e:p - 1=i;(.by_cases hi:i<n;(.rw[e,Fm (by rw[dB o8 hi]),El,abQ (λ x hx=>by have:=sk s_;exact aa8 e al)]);.rw[iq (by rw[Nx,o8];exact gy hi),iq (by rw[Bs o8 hi])]);.rw[Nw e]
lW.1(l:BQ):Y:=(zj gj Ee).sum
Fp(eS:aL)(n:Y):∀(i8:BQ)(x:gD)(aB:c!)(p:Y)(cs:m5),(∀y∈cs,y.1<p)->1<=p->p+lW i8<=n->(∀z∈i8,0<Ee)->lh eS iQ sj p i8=vI (cs++walk eS sj p i8)|[],x,aB,p,cs,h1,h2,h3,_=>by show(iQ).set kn 2=vI (cs++[(p,au)]);rw[J' h1 h2 (by simpa[lW]using h3)];rfl|qp m,x,aB,p,cs,h1,h2,h3,h4=>by rw[Sr h4 ht (lW r)];rw[ht]at h3;have rX:∀z∈r,0<Ee:=λ z hz=>v0 h4 z hz;show Q! (iQ).set HD Uk=vI (cs++((match HD with|kS=>[]|ql=>[(p,false)]|ED=>[(p,au)])++walk eS Uk wu r));generalize HD=y;cases y with|ak=>rw[BR ((iQ).set kn 0) _ _];rw[wI aMA,DH sj wu cs (λ y hy=>by rw[ll ym Oe]) Ie hu bm Kg h3 rX];rfl|chance=>rw[BR ((iQ).set kn 1) _ _];have e:=J' (n:=n) (b:=false) h1 h2 QT;rw[CP]at e;rw[<-e,DH sj wu _ (λ y hy=>by rcases BM hy with hy|hy;(.rw[ll ym Oe]);. (have:y=(p,false):=by rw[K7]);subst al;rw[QS (p<_) hu]) Ie hu bm Kg h3 rX];rw[Jg]|must=>rw[BR ((iQ).set kn 2) _ _];have e:=J' (n:=n) (b:=au) h1 h2 QT;rw[t?]at e;rw[<-e,DH sj wu _ (λ y hy=>by rcases BM hy with hy|hy;(.rw[ll ym Oe]);. (have:y=(p,au):=by rw[K7]);subst al;rw[QS (p<_) hu]) Ie hu bm Kg h3 rX];rw[Jg]
aK1(n:Y):qV n []=J3 n:=by rw[wG i];by_cases hi:i<n;(.rw[El,NN,ao hi];rfl);.rw[iq (by rw[Bs o8 hi]),iq (by rw[gi gy hi])]
aLI{eS:aL}{r:BQ}(hn:n=lW Hx)(h:∀z∈qp m,0<Ee):lh eS J3 n [u] d_ r=qV n (walk eS [] 0 Hx):=by rw[Sr h ht (lW r)];rw[<-aK1,DH [] d_ [] aM hu eO ahk hn ht BT h];show _=vI (walk eS [u] (0+d_) r);rw[Fl];rfl
vK.1:s9->cC Say|[]=>ak|x::r=>pT bh Z b8 (vK r)
ZJ(a b:s9):lX M6=(vK a).ox (lX b):=by induction a with|bt=>rfl|aQ x a ih=>show Kk bh b8 (lX M6)=uE Kk bh Z b8 (vK a) (lX b);split;(.rfl);.exact ih
}
section
variable(aB bM:c!)(fR:C?)
def z:={
gX.1:e!:=bef.head?
rK.1:e!:=yz T3
gY.1:e!:=bM.head?
m9.1:e!:=yz (bM.drop 1)
Au.1:e!:=yz (bM.drop 2)
qY.1:c!:=bef.dropWhile λ u=>FD==41
gZ.1:e!:=(qY aB).zk
yZ.1:e!:=yz vV (qY aB)
vO.1(o:e!):aL:=sJ u u.is.initial
wC.1(o:e!):aL:=sJ u u.is.final
xS.1(o:e!):aL:=sJ u u.is.soft
uW.1(o:e!):aL:=sJ u u.is.ring
Ae.1(o:e!):aL:=sJ u u.is.open_
z4.1(o:e!):aL:=sJ u u.joins
W3.1(o:e!):aL:=(o.map Unit_.sa).ox fS
seg.1:Y->s9|1=>[(cN [9],ED),cO gc [15] [30],(cN [15,30,31],ED)]|2=>h? cp [9,15,30,31,41,46]|3=>[(kT gZ [46],ql)]|4=>h? mK z4|5=>h? (cN [45]||cp [45])|6=>[iE cN [19],cO (cp [19]&&isNot (gX aB) [41,7,23])]|7=>h? cp [12,14,18,42]|8=>h? kT gZ [34]|9=>h? (kT gZ [37]&&(vO (gZ aB)&&(lacks (yZ aB)||kT yZ [9,15,30,31,34,37,19,41,46])))|10=>h? (cp [37]&&(nK wC&&(lacks (m9 bM)||is (m9 bM) [41,19,45,12,37,14,18,26,42,9,15,30,31,46])))|11=>[(cp [26]&&(cN [41]&&is (m9 bM) [33]),ql),cO cp [26]]|12=>[iE (cp [32]&&kT gZ [12,14]),cO (cp [6]&&kT gZ [6])]|13=>[(cN [41],ql)]|14=>[iE (cp [37]&&!nK vO),cO (cN [37]&&!mK wC)]|15=>[iE (cp [37]&&(!Kq||!zm (m9 bM))),cO (cN [37]&&(!nK zm||!zm (rK aB)))]|16=>[(cN [10]||cp [10],ql)]|17=>h? ((cN [23]||mK xS)&&((lacks (rK aB)||kT rK [9,15,30,31,41,46,10,19])&&cp [3]))|18=>[iE cp [7,23,32],cO cN [8],cO (kT rK [22]&&((cN [23]||(cN [7]&&!Kq))&&isNot (gY bM) [22])),cO gc [42] [22]]|19=>h? cp [25]|20=>[iE (gc [3,22] [33]||Bj [33]),cO (gc [36] [24,16,17]||gc [24,16,17] [35]),cO (Bj [36,35]||gc [3,22] [36,35])]|21=>[iE (cp [35,36]&&(digits aB||(cN [12,14]&&digits T3))),cO (cN [35,36]&&(cp [34]&&(is (m9 bM) [33]||(is (m9 bM) [26]&&is (Au bM) [33])))),cO gc [35,36,23,26] [33],cO (cp [33]&&digits aB)]|22=>[iE gc [27] [27,29,20,21],cO gc [29,20] [29,28],cO gc [28,21] [28],cO gc [27,29,28,20,21] [35],cO gc [36] [27,29,28,20,21]]|23=>[(Bj [3,22],if mK W3&&nK W3 then(if fR=Z au then ql else kS)else kS)]|24=>[iE (cN [4]&&nK vd),cO (mK vd&&cp [43,44]),cO (vd (rK aB)&&(cN [44]&&(cp [2]||nK uW))),cO (mK vd&&(nK vd&&is (m9 bM) [43]))]|25=>h? Bj [26]|26=>[iE (cN [3,22,33]&&(cp [34]&&!nK zm)),cO (cN [14]&&(!Kq&&cp [3,22,33]))]|27=>h? (cN [38]&&(cp [38]&&(dy bef.takeWhile (λ u=>FD==38))%2==1))|28=>h? ((cN [16]||mK Ae)&&cp [17])|_=>[]
yR.1:Y->Y->s9|0,_=>[]|n+1,i=>z7 i++yR n bD
}
set_option maxRecDepth 100000 in def aak:says aB bM fR=lX (yR aB bM fR 28 1):=rfl
section z
def z:={
cst.1(B:ai)(bb:er):tX:=(S0).or uu
awX(B:ai)(u:bj)(r:er):GN fL=mq fL::C4:=rfl
Vt(B:ai):∀(bb:er)(j:Y),j<=kJ->S0[j]?=Z mq (NO j)|[],0,_=>rfl|[],j+1,h=>gq|u::r,0,_=>rfl|u::r,j+1,h=>by rw[Ra awX,Vt B r j pY]
Zv{α:Type}(le:α->α->aL)(l:en)(b:α):ou le vN b=Z (match ou le l with|ak=>b|Z a=>if(ap (le b a))then b else a):=by cases l with|bt=>rfl|aQ x r=>show Z ((r++[b]).zn _ x)=_;rw[List.foldl_append];rfl
g9.1(B:ai)(bb:er):Y->cC (Y×Y)|0=>ak|k+1=>match CI br (row.take br).zp with|ak=>DJ|Z c=>IO DJ Z (c+Kh,k) (if c+Kh<=b.1 then Z (c+Kh,k)else e8)
aet(B:ai)(u:bj)(r:er):∀k,k<=Lw->ou (λ(a b:tX)=>ka a.1 b.1) ((Tt).filterMap λ i=>g! CI bD ((fL).d4 bD).zp λ c=>(c+(EW C4 i uu).1,bD::(EW C4 i uu).2))=g! (g9 B fL k) λ b=>(b.1,yP::sg nW fL yP)|0,_=>rfl|k+1,h=>by have ih:=aet B u r k Iu;rw[uX,Nq];(have hg:uE C4 k uu=mq nW fL br:=by rw[sw (Vt B r k eA Nat.le_of_lt_succ)]);rw[Ic g9 Nt];cases hp:CI br ((fL).d4 br).zp with|ak=>dsimp only[Option.map_none];rw[oy,ih]|ca c=>rw[Ir];rw[Zv,ih,hg];cases hb:g9 B fL k with|ak=>rfl|ca b=>rw[Ir];by_cases hle:c+(mq nW fL br).1<=b.1;(.rw[ao SV,ao hle];rfl);.rw[aj SV,aj hle];rfl
Oz(B:ai)(bb:er):∀k,0<k->∃b,DJ=Z b|0,h=>by exact pI alK h|k+1,_=>by unfold g9;cases k with|cu=>(have:∃c,CI (0+1) (row.take (0+1)).zp=Z c:=by unfold pieceCost;split;(.exact k3);.exact #[65536,rfl]);obtain⟨c,hc⟩:=al;rw[hc];exact k3|cv k=>obtain⟨b,hb⟩:=Oz B bb br gr DL;rw[hb];split;(.exact k3);.dsimp only;split;(.exact k3);.exact k3
ES{B:ai}{bb:er}:∀{k:Y}{b:ui},DJ=Z b->b.2<k|0,b,h=>yg|k+1,b,h=>by rw[c0 g9];split at h;(.rw[ll (ES h) tq]);.split at h;(.rw[bo,R1]);.rename_i a ha;split at h;(.rw[bo,R1]);.rw[bo,ll (ES ha) tq]
acn{B:ai}{bb:er}{b:ui}(h:g9 B bb kJ=Z b):mq bb=(b.1,yP::sg (NO yP)):=by cases bb with|bt=>rw[bo]|aQ u r=>show((ou _ _).ox uu)=_;rw[aet B u r (lK+1) gh];rw[show bp fL=Lw from rfl]at h;rw[h];rfl
Yl(B:ai):mq []=uu:=rfl
IJ(B:ai):∀(n:Y)(bb:er),kJ=n->(KM).sum=kJ/\∀k∈KM,0<k:=by intro n;induction n using NQ with|_ n ih=>intro bb hn;cases bb with|bt=>exact #[rfl,fD Yl]|aQ u r=>obtain⟨b,hb⟩:=Oz B fL bp fL aM;have a8:=ES hb;rw[acn hb];rw[BW h2 (ih dy vP fL yP (by rw[sM];simp at hn⊢;exact ajT hn) _ ag),<-#[?_,cr k hk]];(.rw[ir,h1,io];exact FF a8);.rcases eD hk with rfl|hk;(.rw[JJ]);.exact h2 k hk
tN.1(ns:ac):bA aL:=ns.flatMap λ n=>au::G! Hf fS
gP.1:Y->ac->ac|_,[]=>[]|a,uN=>ME eY
Vw:∀ns:ac,xR->dy tN ns=zr|[],_=>rfl|uN,h=>by rw[tp h1 (h n aM) (Vw r (λ k hk=>h k jQ hk))];unfold tN at h2⊢;rw[eR,i7,h2,ir];rw[Q?]
Oq:(mV ns a (xR->∀e∈Ep,a<=e))|[],a,_,e,h=>yg|uN,a,hp,e,h=>by have h1:=hp n aM;rcases JN with rfl|h;(.exact ahA h1);.rw[ll (Oq r eY IS e h) U5]
Zl:∀(ns:ac)(a i:Y),xR->0<i->i<zr->((tN ns)[i]?=Z au↔a+i - 1∈Ep)|[],a,i,_,_,h=>gq|uN,a,i,hp,h0,h=>by have h1:=hp n aM;have n8:∀k∈r,0<k:=λ k hk=>hp k jQ hk;((have hb:tN f_ n=Il++tN r:=by rw[e9 tN eR]);have hl:bp Il=n:=by rw[Q?]);rw[hb];show _↔a+i - 1∈ME eY;by_cases hi:i<n;(.rw[FG (by rw[dB hl hi])];(have hf:Il[i]?=Z fS:=by obtain⟨j,rfl⟩:∃j,i=j+1:=#[i - 1,by exact Ku h0];rw[U7,NN,ao bm Nat.lt_sub_of_add_lt hi]);rw[hf];constructor;(.intro q;cases q);.intro q;rcases eD q with q|q;(.exact fI (awN q h0 hi));.have:=Oq r eY n8 _ q;exact fI (alh al hi));.rw[NR (by rw[Bs hl hi]),hl];by_cases he:i=n;(.subst he;rw[U_];constructor;(.intro _;simp);.intro _;cases r with|bt=>simp at h|aQ m r'=>rw[tu tN eR]);.have hs:n+zs=(f_ n).sum:=(ir).symm;rw[Zl r eY (i - n) n8 eO arz hi he (by exact aGU hs h hi)];(have e1:a+n+(i - n) - 1=a+i - 1:=by exact aCd hi);rw[e1,NK];constructor;(.intro q;rw[nv q]);.rintro(q|q);(.exact fI (amM q h1 hi he));.exact q
k9.1(l:iO):Y:=Hj gj z.1.sa
AW(z:Eh)(l:iO):k9 (z::l)=if(ap z.1.sa)then k9 l+1 else 0:=by rw[Rc k9,xv]
adT(B:ai):∀(l:iO)(bb:er),J5=Gz (bb++g! (u1 (k9 l)) ((·.2)))++(match gu (k9 l)with|[]=>[]|_::r=>false::iI r)|[],bb=>by simp[marksFrom,k9]|qp t,bb=>by rw[AW];show Bd=_;by_cases h:u.sa=au;(.rw[uk,uk,adT B r G4];simp);.rw[aj h,aj h];simp
abY(B:ai)(bb:er):z3=tN KM:=rfl
Ah(B:ai)(bb:er):bp z3=kJ:=by rw[BW h2 (IJ B kJ bb ag)];rw[abY,Vw _ h2,h1]
Gr(B:ai):∀(l:iO)(bb:er),bp J5=kJ+bP|[],bb=>by show wT=_;rw[Ah];rfl|qp t,bb=>by show bp Bd=_;split;(.rw[Gr B r];simp;exact zg);.rw[i7,Ah,gA,Gr B r];simp
KS(B:ai):∀(l:iO)(bb:er)(k:Y)(z:Eh),l[k]?=Z z->z.1.sa=false->(J5).kG (kJ+k+1)=iI pa br|[],bb,k,z,h,_=>gq|qp t,bb,0,z,h,hz=>by(have e:(u,t)=z:=by rw[jS]);subst e;show(Bd).kG _=iI r;rw[aj (by dsimp only at hz;rw[hz];simp)];rw[show kJ+0+1=wT+1 by rw[Ah],U!];rw[Ru MA];simp|qp t,bb,k+1,z,h,hz=>by(have h':r[k]?=Z z:=by rw[jS]);show(Bd).kG _=iI (kF br);split;(.have:=KS B r G4 k z h' hz;rw[<-al];congr 1;simp;exact asE);.have:=KS B r [] k z h' hz;rw[<-al];rw[show kJ+br+1=wT+yU by rw[dB Ah aAL],U!];rw[Ru aHf,tV (wT+yU - wT=k+1+1) aLv,qU];simp
iC.1(l:iO)(a:Y):Prop:=a=0\/∃z,l[M8]?=Z z/\z.1.sa=false
atB{B:ai}(h:iC l a)(h0:a<=bP):(w9).kG a=iI ke:=by by_cases ha:a=0;(.subst ha;rfl);.rcases h with h|⟨z,h1,h2⟩;(.rw[f8 h ha]);.have:=KS B l [] M8 z h1 h2;rw[show bp ([]:er)+M8+1=a by rw[gi U? ha],show a - 1+1=a by exact U? ha]at al;exact al
l0.1(l:iO)(a b:Y):er:=(uK ke Hg).bz (·.2)
atY{B:ai}(h:iC l a)(hb:b=a+Lo k9)(h1:a<=i)(h2:i<b)(h3:xB):w9[i]?=(Gz t0)[E!]?:=by(have e:w9[i]?=(iI ke)[E!]?:=by rw[<-atB h (by exact atO h1 h2 h3),oF];congr 1;exact adC h1);rw[e,adT,FG];(.unfold l0;rw[zc,show uQ=Lo k9 by exact aEh hb]);.rw[Ah,zc,qL,ot,io];exact aqN h2 h1 hb h3
mJ.1(B:ai)(l:iO)(i:Y):Prop:=∃z,ck l z/\ap z.1.sa/\((∀y,l[bD]?=Z y->y.1.sa=false)\/w9[bD]?=Z au)
P9:∀(l:iO)(j:Y),j<k9 l->∃z,l[j]?=Z z/\ap z.1.sa|[],j,h=>Dl k9|z::l,j,h=>by rw[AW]at h;split at h;(.rename_i hz;cases j with|cu=>exact aW z ag hz|cv j=>refine ah (P9 l j eA ajE) ar y h1 h2;exact aW y A2 h2);.exact pI nI h
Ya:∀(l:iO)(y:Eh),l[k9 l]?=Z y->y.1.sa=false|[],y,h=>gq|z::l,y,h=>by rw[AW]at h;split at h;(.exact Ya l y pY);.rename_i hz;rw[Ih (z=y)];simpa using hz
Qk:(mV ns a (xR->0<zr->a+zr - 1∈Ep))|[],a,_,h=>gq|uN,a,hp,_=>by have h1:=hp n aM;show _∈ME eY;rw[ir];by_cases hr:0<zs;(.have:=Qk r eY IS hr;rw[tQ (a+(n+zs) - 1=a+n+zs - 1) aL1];rw[wF al]);.rw[xw (zs=0) Nat.eq_zero_of_not_pos hr];exact r9
VR:(mV ns a (xR->∀e∈Ep,e<a+zr))|[],a,_,e,h=>yg|uN,a,hp,e,h=>by have h1:=hp n aM;rw[ir];rcases JN with rfl|h;(.exact aBn h1);.rw[ll (VR r eY IS e h) aDE]
Mc(h:xB):bp t0=uQ:=by unfold l0;rw[qL,ot,io];exact U4 h
amg{B:ai}(h:iC l a)(hb:b=a+Lo k9)(h3:xB)(h1:a<=i)(h2:i<b):mJ B l i↔i∈gP a sg t0:=by obtain⟨hs,hp⟩:=IJ B _ t0 ag;rw[Mc h3]at hs;refine ah (P9 ke E! (by exact azy h2 h1 hb)) ar z km fT;rw[oF,JY E! i FF]at km;by_cases hl:db=b;(.have e:mJ B l i:=(aZ z km fT (eV λ y hy=>by apply Ya (gu a) y;rw[oF,<-hb,<-hl];exact hy));have:=Qk sg t0 a hp (by exact aD2 hl hs h1);rw[hs,show a+Hg - 1=i by exact aoG hl h1]at al;exact #[λ _=>al,λ _=>e]);.refine ah (P9 ke ER (by exact afL h2 h1 hb hl)) ar y Vk yx;rw[oF,show a+ER=db by exact Yo h1]at Vk;have rN:=Zl sg t0 a ER hp tY axK (by exact aMD h2 h1 hs hl);rw[KD (a+ER - 1=i) aGy]at rN;have hm:=atY (B:=B) h hb KD (a<=db) Nat.le_add_right_of_le eO y9 h2 hl h3;rw[abY]at hm;rw[<-rN,<-hm];constructor;(.rintro⟨z',e1,e2,e3|e3⟩;(.rw[e3 y Vk]at yx;cases yx);.exact e3);.exact λ e=>(aZ z km fT iZ e)
az8{B:ai}{x y:Eh}(hx:ck l x)(hy:l[bD]?=Z y)(h1:ap (bh).sa)(h2:ap y.1.sa):mJ B l i↔w9[bD]?=Z au:=by constructor;(.rintro⟨z,e1,e2,e3|e3⟩;(.rw[e3 y hy]at h2;cases h2);.exact e3);.exact λ h=>(aZ x hx h1 iZ h)
Bu(us:c!):∀t:bj,bp nj=gt:=by induction us with|bt=>intro t;rfl|aQ u r ih=>intro t;show bp (FK (qW d_) r)+1=_;rw[ih];rfl
bT.1(us:c!)(i:Y):Y:=Sn (NS i)
Oc(us:c!):bT us 0=0:=fD bT
yl(h:ck us u):bT us bD=vM i+d_:=by unfold bT;rw[zw,h,dh];simp
aeo(u:gD)(r:c!)(i:Y):bT fL bD=d_+bT r i:=by unfold bT;rw[List.take_succ_cons,dL,ir]
FH:∀(us:c!)(t:bj)(i:Y)(u:gD),ck us u->nj[i]?=Z (u,Cf vM i d_)|[],t,i,u,h=>gq|v::r,t,0,u,h=>by rw[Ih (v=u)];show Z (v,t.take v.size)=_;rw[Oc,FL]|v::r,t,db,u,h=>by show(FK (qW v.size) r)[i]?=_;rw[FH r (qW v.size) i u pY,aeo,i_]
aiK(us:c!)(t:bj):Lg nj=us:=by rw[wG i];rw[qN];cases h:us[i]? with|ak=>rw[iq (by rw[Bu];exact List.getElem?_eq_none_iff.mp h)];rfl|ca u=>rw[FH us t i u h];rfl
abF(us:c!)(t:bj)(a:Y):∀n,a+n<=gt->(l0 nj a eY).zp=Cf wd K9|0,_=>fD l0|n+1,h=>by have ih:=abF us t a n Iu;rw[HL u (us[eY]?=Z u) us[eY]];((have e1:l0 nj a (a+j7)=l0 nj a eY++[(qW v?).d4 d_]:=by unfold l0;rw[tQ (a+j7 - a=n+1) avq,show a+n - a=n by exact J6,zw,oF,FH us t eY u hu,dh];rfl);have afa:wd<=v?:=by unfold bT;rw[Vb,dh,List.sum_append];exact vm);rw[e1,List.flatten_append,ih,tV (a+j7=a+n+1) L9,yl hu];rw[xw (v?+d_ - wd=K9+d_) NT afa,Vb,i_,show wd+K9=v? by exact FF afa];simp
aEi(w:dj)(g:Y):L? w 39 g=3\/L? w 39 g=13\/L? w 39 g=24:=by unfold FM plain;simp only[(S1 ((39:Y)=1)),show¬((39:Y)=40\/(39:Y)=0)by decide,if_false,if_true];by_cases hg:g=6\/g=7;(.simp only[ao hg];simp[in_]);.simp only[aj hg];simp only[(S1 ((3:Y)=32\/(3:Y)=25)),and_false,if_false];generalize w.all=b0;generalize w.keep=b1;revert b0 b1;decide
awB{B:ai}(h:ap (Pq).sa):xj=3\/xj=13\/xj=24:=by unfold sort at h⊢;dsimp only at h⊢;(have:kH B 6 c=39:=by rw[jS]);rw[al];exact aEi w _
aMh{k g:Y}(h:w.all=au)(hk:Tk):S!≠3/\S!≠22:=by rw[pS FM];generalize(if w.how=2/\(Lk=32\/Lk=25)then 24 else Lk)=b;rw[h,hk];by_cases hb:ap (in_ b [3,22,33]);(.rw[ao #[rfl,hb]];decide);.rw[aj uC (hb q.2),aj aM];constructor;(.rintro rfl;exact hb ag);.rintro rfl;exact hb ag
aw7{B:ai}(h:w.all=au)(hk:Tk):xj≠3/\xj≠22:=aMh h hk
Jr(s:fP):Dt s is.cls=if w6 then 3 else iz:=by rw[pS vb];split<;>rfl
tK(s:fP)(r:eo):(yq).is=Dt s is:=rfl
Sb(s:fP)(r:eo):(yq).qT=rF:=rfl
RC:∀(r:eo)(s:fP),yz (kF (ie r))=Z s->iL u? iz|[],s,h=>Dl ie|x::r,s,h=>by rw[Hv]at h;split at h;(.exact RC r s pY);.rename_i hx;rw[Ih (x=s),Ht]
aKE:I_ n l (TZ->(∀s∈l,iL u? iz->iz≠3/\iz≠22)->∀(i:Y)(x y:gD),yj[i]?=Z x->yj[bD]?=Z y->ap (in_ y.is.cls [3,22])->ap (lV x.is.cls)):=by intro n;induction n using NQ with|_ n ih=>intro l hn hl i x y hx hy hc;cases l with|bt=>simp[dI]at hx|aQ s r=>rw[AX]at hx hy;have fO:=E5 s r;cases i with|cv i=>refine ih dy kF si (by rw[sM];simp at hn;exact Sa hn) _ ag (λ s' pw=>hl s' jB (Vd pw)) i x y Cs Cr hc|cu=>((have ex:yq=x:=by rw[Ht]);have yN:SE[0]?=Z y:=by rw[K7]);rw[<-ex,tK,M_];cases hd:T9 with|bt=>rw[hd]at yN;simp[dI]at yN|aQ s' r'=>rw[hd,AX]at yN;(have ey:ig s' r'=y:=by simpa using yN);rw[<-ey,tK,Jr]at hc;have pw:s'∈s::r:=jB (Vd (by rw[hd];exact r9));by_cases hm:ap (u? s'.cls);(.by_cases ha:J_;(.exact ha);.exfalso;(have hu:rF - 1=mS:=by unfold fN;rw[aj ha];exact aHX);rw[hu]at hd;have:=RC r s' (by rw[hd];rfl);rw[bN hm al al]);.exfalso;rw[aj hm]at hc;obtain⟨h1,h2⟩:=hl s' pw dv hm;unfold in_ at hc;simp at hc;exact alM hc h2 h1
aLx{k:Y}(h:ap (lV k)):in_ k [3,22]=false:=by unfold lV in_ at*;simp at h⊢;exact amP h
CK:I_ n l (TZ->(∀u∈yj,0<d_)/\D0 Sn yj):=by intro n;induction n using NQ with|_ n ih=>intro l hn;cases l with|bt=>exact #[jQ dI,rfl]|aQ s r=>rw[AX];rw[tp h1 (E5 s r) (YK s r)];obtain⟨h3,h4⟩:=ih dy kF si (by rw[sM];simp at hn;exact Sa hn) _ ag;constructor;(.intro u hu;rcases eD hu with rfl|hu;(.exact h1);.exact h3 u hu);.rw[dL,ir,h4,Sb,io,gA];exact azz h1 h2
L5(l:eo):D0 (bT (dI l) Kl l):=by rw[e9 bT List.take_length,(CK _ l ag).2]
UC:(I_ i l (i<=Kl l->dI (gu (bT (dI l) i))=(dI l).kG i))|0,l,_=>by rw[Oc];rfl|db,l,h=>by cases l with|bt=>simp[dI]at h|aQ s r=>rw[AX]at h⊢;have h1:=E5 s r;rw[aeo,qU,Sb];have:=UC i T9 pY;rw[<-al,i_];congr 1;obtain⟨k,hk⟩:∃k,fN s r=k+1:=#[si,by exact Ku h1];rw[hk,tV (k+1 - 1=k) aaj,tV (k+1+bT (dI (kF k)) i=(k+bT (dI (kF k)) i)+1) aab,qU]
ae5{l:eo}{s:fP}(hi:i<=Kl l)(h:gu (bT (dI l) i)=s::r):yj[i]?=Z yq:=by rw[v8 (UC i l hi) h AX];rw[<-Ve,<-al];rfl
nt.1(us:c!)(z:ad):e!:=r? (0<=z) (us[NJ]?)
cY.1(us:c!)(n:Y):c!:=(NS n).qX
pj(h:us[n]?=Z u):cY us j7=u::Em:=by unfold cY;rw[zw,h];simp
acE(h:K?):(Em).zk=nt us (jO n - 1):=by unfold nt;cases n with|cu=>rfl|cv n=>rw[HL u (us[n]?=Z u) us[n]];rw[pj hu,ao gr aEx,show rS (((j7:Y):ad) - 1)=n by exact aAh,hu];rfl
ab6(h:K?):(Em).kG 1=cY us Hf:=by cases n with|cu=>rfl|cv n=>rw[HL u (us[n]?=Z u) us[n]];rw[pj hu];rfl
Vu(h:K?):(vV Em).zk=nt us (jO n - 2):=by rw[ab6 h];cases n with|cu=>rfl|cv n=>rw[tQ (n+1 - 1=n) aaj,acE eA NP];congr 1;exact aDp
XN(us:c!)(p k:Y):((NU p).kG k).zk=nt us (jO p+k):=by unfold nt;rw[ao gr axX,tV (rS (jO p+k)=p+k) an6,i_,Ve]
gU.1(l:s9):ad:=match vK l with|Z s=>(num s:Y)|ak=> -1
aHs{l:s9}:gU l= -1↔(cw vK l):=by unfold gU;cases h:vK l with|ak=>simp|ca s=>simp
M5(aB bM:c!)(fR:C?):(ls n i ((∀k,k<n->gU z7 (i+k)= -1)->∀m,lX DO yR Nc i=lX DO yR m (i+n)))|0,i,_,m=>by rw[Fl,ve]|n+1,i,h,m=>by rw[tQ (n+1+m=Nc+1) aab];show lX (z7 i++DO yR Nc bD)=_;have h0:=aHs.mp (h 0 gr DL);rw[ve]at h0;rw[ZJ,h0,Option.getD_none,M5 aB bM fR n bD (λ k hk=>by rw[tQ (db+k=i+br) zg];exact h br bm Kb hk) m];rw[tQ (db+n=i+j7) zg]
ayv{aB bM:c!}{fR:C?}{k:Y}(hk:k<28)(h:∀j,j<k->gU sW j= -1)(hs:gU sW k≠ -1):p_ (num (says aB bM fR))=gU sW k:=by obtain⟨m,hm⟩:∃m,28=k+(m+1):=#[27 - k,by exact avN hk];rw[aak,hm,M5 aB bM fR k 1 h (m+1)];show p_ (num (lX (sW k++DO yR m (1+k+1))))=_;rw[ZJ];unfold gU at hs⊢;cases e:vK sW k with|ak=>rw[e]at hs;rw[lj hs]|ca s=>rfl
aJF{aB bM:c!}{fR:C?}(h:∀j,j<28->gU sW j= -1):num (says aB bM fR)=1:=by rw[aak,M5 aB bM fR 28 1 h 0];rfl
atJ(eS:aL)(acc:ac)(us:c!)(ms:bA aL)(k:Y)(fO:Lx gt)(hu:us[br]?=Z u)(hm:ms[br]?=Z m):lh eS acc DU Hw nW yn br=lh eS (FE Te (num AE DU S' ak)) (cY us yU) vM yU nW yn yU:=by rw[Qo hz (yn[br]?=Z (u,m)) #[hu,hm],wt hl e hz];rw[Ri,e];rw[BR (FE Te (num AE DU (u::(vP yn (br+1)).bz gj z.1) ak)) (u::DU) (Hw+d_)];have pF:(us.zip ms).bz k8 z.1=us:=Vf bm Vg fO;(have e2:u::(vP yn (br+1)).bz k8 z.1=S':=by rw[Vh,pF];rw[wt f7 e3 hu];rw[Ai f7,e3]);rw[e2,pj hu,yl hu]
ar4{B:ai}{t:bj}(h0:Dp):∃u,sY[0]?=Z u/\qV cP (chances B w t)=lh w.words J3 cP (cY sY 1) (bT sY 1) vV ((sY).zip iI (FK t sY)):=by obtain⟨hp,hs⟩:=CK _ (t.map Pn) ag;rw[qL]at hs;rw[pS chances];generalize hU:sY=us at hp hs⊢;(have hl:bp iI nj=gt:=by rw[Gr,Bu];simp);generalize iI nj=ms at hl⊢;cases us with|bt=>simp at hs;exact fI (az2 h0 hs)|aQ u r=>cases ms with|bt=>simp at hl|aQ m q=>refine aW u ag ?_;have hz:(r.zip q).bz k8 z.1=r:=Vf (by simp at hl;exact aaZ hl);rw[FS,<-aLI (m:=m) (r:=r.zip q)];((.rfl);.unfold lW;rw[dL,ir,<-hs,dL,ir];congr 1;rw[<-hz,NW];rw[hz];rfl);.intro z Io;rcases eD Io with rfl|Io;(.exact hp u aM);.exact hp z.1 jB (by rw[<-hz];exact Vi aW z Io ag)
}
section Ch
namespace _W
open Mt MtLine
variable{a b q c x:Y}{m l:ac}{I:ia}
def z:={
DC.1(a b:Y):aL:=(a==9&&one [9,10,12,13] b)||(SW (one [10,11] b)||(one [13,11] a&&b==11))
AO.1(l:ia):aL:=odd RD
jn.1(l:ia)(b:Info):aL:=let a:=(vf #[0,0,false]).cls;(a==1&&Ua)||(!(S_||SF)&&((DC a oG||(sq [4,5,8]||a==7))||(T4||(Ub||(Ud&&AO l)))))
aHS(i:Y)(s:Says):Rules.none.on nE i s=s:=by unfold Rules.on Rules.off qZ;simp
aG2(a b:Y):Rules.none.row nE a b=.silent:=rfl
ay6(c:aL)(l:LM):vg (zi c::l)=(!c&&L7):=p5 c
aKu(c:aL)(l:LM):vg (cuts c::l)=(c||L7):=p5 c
aMc(l:LM):vg (.silent::l)=L7:=rfl
aB3:ap (vg [.cut]):=rfl
aGP(l:ia)(b:Info):vg (Vj qZ l b)=!jn l b:=by unfold Vj;simp only[aHS,aG2,ay6,aKu,aMc,aB3,FA];unfold jn DC AO;(have h3:one [4,5,8] oG=(sq [4,5]||oG==8):=by unfold one;simp only[List.contains_cons,List.contains_nil,Bool.or_false,Vl]);simp only[h3];generalize(vf #[0,0,false]).cls=a;generalize(a==1&&Ua)=x1;generalize S_=x2;generalize SF=x3;generalize(a==9&&sq [9,10,12,13])=x4;generalize SW sq [10,11]=x5;generalize(one [13,11] a&&oG==11)=x6;generalize sq [4,5]=x7;generalize(oG==8)=x8;generalize(a==7)=x9;generalize T4=y1;generalize Ub=y2;generalize(Ud&&odd RD)=y3;simp only[Bool.not_or,Bool.not_and,Bool.not_not,Vl,UP]
inf.1(B:ai):Y->Info:=info B qZ nE
B9.1(B:ai)(t:bj)(p:Y):aL:=jn (((t.take p).qX).bz (inf B)) (((qW p).bz (inf B)).or #[0,0,false])
aG1{B:ai}{t:bj}{p:Y}(h0:0<p)(h1:T1):FV B qZ nE t p=!B9 B t p:=by unfold FV;rw[aj eO aIy h0 h1,Ce h1,Fy];rw[pS saysAt];rw[aGP];rfl
uq.1(B:ai)(t:bj):ac:=(D_ (KU Dq) λ p=>!B9 B t p)++TR
ae8{B:ai}{t:bj}(h:Dp):breaks B qZ nE t=0::EA:=by unfold breaks uq;(have e:kD Ly=0::(KU Dq++TR):=by obtain⟨n,hn⟩:∃n,cP=n+1:=#[Dq,by exact Ku h];rw[hn,uX,NY,FY];simp);rw[e,vh,oI];(.congr 1;congr 1;(.rw[H9 p hp hp,aG1 xK Zf xK aA8]);.rw[vh,N0];rw[lf FV iZ ag,jS]);.rw[lf FV pf,jS]
By.1(t:bj):Y->ac->er|_,[]=>[]|a,e::r=>Cf a md e::By t e r
XU(t:bj):(mV l a ((((a::l).zip l).bz c_ Cf bh (x.2 - bh))=By t a l))|[],a=>rfl|e::r,a=>by rw[FS,dL,XU t r e];rfl
ajm{B:ai}{t:bj}(h:Dp):parts B qZ nE t=By t 0 EA:=by rw[pS parts];rw[ae8 h,qU,FL,XU]
no.1:Info:=#[0,0,false]
back.1(I:ia)(a k:Y):ia:=((I.drop a).d4 AI).qX
Lc(I:ia)(a:Y):D5 a=[]:=fD back
QM{k:Y}{x:Info}(h:a<=k)(e:I[k]?=Z x):D5 br=x::D5 k:=by rw[Q_ back I.drop x]
jR.1(I:ia)(a p:Y):aL:=jn D5 p (I.getD p no)
VE(t:bj)(h:b<=a):fa=[]:=by unfold bb;rw[QO (uQ=0),List.take_zero]
pD{t:bj}(h:Da):bp fa=uQ:=by unfold bb;rw[ot,io];exact U4 h
aGS{t:bj}{i:Y}(h:i<uQ):fa[i]?=t[a+i]?:=by unfold bb;rw[Vo h,oF]
abi{t:bj}{y:Y}(h:a+y<=b):bb fa x y=bb t M! (a+y):=by unfold bb;rw[List.drop_take,List.take_take,i_,Fg eA asn,tV (a+y - M!=y - x) atr]
aaV{t:bj}{k:Y}(h:a<=k)(e:t[k]?=Z c):nL br=nL k++dX:=by rw[Q_ bb qW c]
akD{B:ai}{t:bj}{p:Y}(h1:a<p)(h2:p<b)(h3:Da):B9 B fa uP=jR pC a p:=by unfold B9 jR;((have e1:(fa).d4 uP=nL p:=by have:=abi (t:=t) (a:=a) (b:=b) (x:=0) (y:=p - a) (by exact aD3 h1 h2);rw[KD (a+uP=p) R4,ve]at al;rw[<-al];simp[bb]);have e2:((nW fa uP).bz (inf B)).or #[0,0,false]=uE pC p no:=by((have hp:T1:=by exact y? h2 h3);have e:fa[uP]?=Z t[p]:=by rw[aGS (by exact aH7 h2 h1),JY uP p R4,gd hp]);obtain⟨hl,e'⟩:=y4 e;rw[Ri,e',dL,N1,kE,qN,gd hp];rfl);rw[e1,e2];congr 1;unfold back bb;rw[List.map_reverse,List.map_take,Vh]
kM.1(I:ia)(a b:Y):ac:=(D_ p0 cL MU λ p=>!jR I a p)++CU (a<b) [b]
zC{B:ai}{t:bj}(h1:a<b)(h3:Da):Je=g! (uq B fa) ((a + ·)):=by unfold kM uq;rw[ao h1,pD h3,dh];congr 1;(.rw[show(tj cL MU ((KU MU).bz (a + ·)))by rw[Vq],N2];congr 1;rw[H9 p hp hp];show(!jR pC a (a+p))=!B9 B fa p;rw[<-akD (b:=b) xK aBS xK aJ4 h3,show a+p - a=p by exact J6]);.rw[gi aDt h1]
ay7(I:ia)(h:b<=a):v! I=[]:=by unfold kM;rw[aj eA awt,show uQ - 1=0 by exact aqI h];rfl
C0{p:Y}(h:p∈v! I):a<p/\p<=b:=by rw[c0 kM];rcases NL h with h|h;(.have h':=Sl.1;rw[k5 h',ahB h']);.split at h;(.rw[N7]at h;exact aCu Th h);.rw[bo]
VW(I:ia)(a b:Y):SI v! I:=by rw[e9 kM List.pairwise_append,<-#[Rv,?_,?_]];(.rw[xv]);.intro x hx y hy;have h':=sI hx;rw[k5 h'];split at hy;(.rw[N7]at hy;exact aCD h' hy);.cases hy
wf.1(B:ai)(w:dj)(t:bj):Y->Y->ac->Y|col,_,[]=>col|col,a,e::r=>wf B w t (col+BD nL e) e r
abr(B:ai)(w:dj)(t:bj):∀(l:ac)(col a e:Y),C5 a vN e=C5 a l+N_ B w (C5 a l) (bb t (N' a) e)|[],col,a,e=>rfl|uM,col,a,e=>by show wf B w t _ x vN e=_;rw[abr B w t l _ x e];(have h:N' x=(x::l).Vs a:=by cases l with|bt=>rfl|aQ y l=>rw[List.getLast?_cons_cons,List.getLast?_eq_some_getLast aM];rfl);rw[h];rfl
Sk{B:ai}{w:dj}{t:bj}{a b:Y}:∀(L:ac)(x col:Y),(∀e∈L,a+e<=b)->(By fa x L).zn (λ col c=>col+BD c) col=C5 M! (L.map (a + ·))|[],x,col,_=>rfl|e::r,x,col,h=>by show(By fa e r).zn _ (col+BD (bb fa x e))=_;rw[Sk r e _ (λ y hy=>v0 h y hy),abi (h e aM)];rfl
afX{B:ai}{w:dj}{t:bj}(h3:Da):xQ fa=wf B w t 0 a Je:=by by_cases h:a<b;(.unfold width;rw[ajm (by rw[pD h3];rw[Ik]),zC h h3,Sk _ 0 0,ve];intro e he;(have:a+e∈Je:=by rw[zC h h3];exact Vi aW e he ag);exact(C0 al).2);.rw[VE t RI,ay7 _ RI];rfl
apa{B:ai}{w:dj}{t:bj}(h:b<=a):B5 b=xQ fa:=by unfold FZ;rw[VE t h];rfl
akQ{B:ai}{w:dj}{t:bj}{k:Y}(h:a<=k)(e:t[k]?=Z c)(hh:ap (hangs B w c)):B5 br=B5 k:=by unfold FZ;rw[aaV h e,Vv];show xQ ((c::(nL k).qX).dropWhile (hangs B w)).qX=_;rw[List.dropWhile_cons_of_pos hh]
agn{B:ai}{w:dj}{t:bj}{k:Y}(h:a<=k)(e:t[k]?=Z c)(hh:hangs B w c=false):B5 br=xQ nL br:=by unfold FZ;rw[aaV h e,Vv];show xQ ((c::(nL k).qX).dropWhile (hangs B w)).qX=_;rw[List.dropWhile_cons_of_neg (by rw[hh];simp)];simp
Qp{B:ai}(F:_B.di B){k:Y}{c:ac}(hk:k<3)(h:N! B k c=Z l):_B.CT (k,#[c,l]):=by rw[c0 N!];cases hf:(J9).find? (λ s=>s.key==c)with|ak=>rw[hf]at h;rw[bo]|ca r=>rw[hf]at h;rw[tp h1 (F.seq k r hk (ND hf)) (NE hf)];((have h3:r.to=l:=by rw[jS]);have h4:r.key=c:=by simpa using h2);rw[<-h3,<-h4];exact h1
amR{B:ai}(F:_B.di B)(w:dj)(col:Y)(c:bj):BD c=if c=[9]/\T5 then zA - col%zA else match TW 2 c with|Z l=>vf 0|ak=>if dy c.filter c_ (ownClass B nE x==6)=2 then 2 else c.foldl (λ m x=>n1 (scalarWidth B w x)) 0:=by unfold N_;cases h:TW 2 c with|ak=>dsimp only|ca l=>have hf:=Qp F cD h;have h1:=hf.pos;have h2:=hf.OF;have h3:=hf.least;dsimp only at h1 h2 h3;(have h4:c≠[9]:=λ e=>by rw[e]at h3;rw[f8 h3 cD]);(have h5:bP=1:=by have:y8 2=1:=rfl;exact R5 h1 h2 al);match l,h5 with|[x],_=>show x=if c=[9]/\T5 then zA - col%zA else x;rw[aj uC (h4 q.1)]
N?(f:Md):(mV l m (lS (λ m x=>n1 yY) m=n1 ((yk).zn max 0)))|[],m=>fC|uM,m=>by show lS _ n1 yY=_;rw[N? f l,dL];show _=n1 ((yk).zn max (qB (f x)));(have h:mV l m (lS max m=n1 (lS max 0)):=λ l=>by induction l with|bt=>intro m;simp|aQ y l ih=>intro m;rw[za,za,ih n1 y,ih (qB y)];exact Ut);rw[h _ (qB (f x))];exact Ut
aLC{f:Md}{m:Y}(h1:m∈yk)(h2:∀y∈yk,y<=m):lS (λ m x=>n1 yY) 0=m:=by rw[N?];(have h:mV l k ((∀y∈l,y<=DG)/\k<=DG/\(DG∈l\/DG=k)):=λ l=>by induction l with|bt=>intro k;exact #[aM,gh,.inr ag]|aQ x l ih=>intro k;refine bX (ih (max k x)) ar a b c;rw[za];refine #[pA y hy,by exact aiN b,?_];(.rcases eD hy with rfl|hy;(.exact asr b);.exact a y hy);.rcases c with c|c;(.rw[k7 jB c]);.rw[c];by_cases hx:k<=x;(.rw[Nat.max_eq_right hx];rw[k7 aM]);.rw[Nat.max_eq_left bm Nat.le_of_not_ge hx];rw[nv ag]);refine bX (h yk 0) ar a b c;have:=a m h1;rcases c with c|c;(.have:=h2 _ c;omega);.exact aqV c al
nz.1(m:ac)(i:Y):aL:=ef i !=0
pZ.1(m:ac)(i:Y):ud:=(bD,ef i==2)
aup(m:ac)(x:Y):q8 (m++[x])=qa++CU (x !=0) [(cQ+1,x==2)]:=by unfold q8;rw[Uz,oI,dh];congr 1;rw[Q3 Vx N0 Fl];split<;>rfl
aLA{p:kq ac}(h0:p [])(h1:∀l x,p l->p ko)(l:ac):p l:=by rw[<-l.reverse_reverse];induction l.reverse with|bt=>exact h0|aQ x r ih=>rw[Nv];exact eG h1 ih
Sv:∀m:ac,q8 m=(G5 (kD cQ) (nz m)).bz (pZ m):=by refine aLA ag ar l x ih;rw[aup,ih,i7,List.length_singleton,uX,oI,dh];(have hg:∀i,i<bP->uE ko i 0=vG i:=λ i h=>by rw[kE,FG h,<-kE]);(have hl:uE ko bP 0=x:=by rw[kE,z_ NR,U_];rfl);congr 1;(.rw[Vn (q:=nz ko) λ i hi=>by unfold nz;rw[R3 hg hi]];rw[Ij i hi];unfold pZ;rw[R3 hg sI hi]);.rw[Vx,N0];rw[e9 nz hl];split;(.simp[pZ]);.simp
pR.1(m:ac)(a:Y):m5:=(G5 z8 Dw (nz m)).bz (pZ m)
aFw(m:ac):q8 m=pR m 0:=by rw[Sv,pR,NY];rfl
aor(m:ac)(h:TJ):(q8 m).oH EE CD=pR m a:=by rw[Sv,pR,N2,List.filter_filter];(have e:kD cQ=Tl a++z8 Dw:=by rw[NY,show(tj a Dw p0 (0+1*a) Dw)by simp,Vz];congr 1;exact adC h);rw[e,oI];(have e1:(Tl a).oH EG (((λ x:ud=>CD)∘pZ m) i&&nz m i)=[]:=by rw[List.filter_eq_nil_iff];intro i hi;rw[k5 hi];simp[pZ];omega);rw[e1,zc];congr 1;rw[H9 i hi hi];(have:ap bn (a<db):=by rw[gi akF hi]);simp[pZ,al]
}
structure lL(m:ac)(a q:Y):Prop where
 le:a<=q
 lt:q<cQ
 is:ef q=2
 no:∀i,a<=i->i<q->ef i≠2
def z:={
d9.1(m:ac)(a q:Y):ac:=(p0 cL EU).oH λ p=>ef kn !=0
anq{n:Y}(h1:a<=q)(h2:q<n):tj a md n (GU++q::p0 ga yO):=by rw[show tj ga yO p0 ga yO from rfl,<-FY];(have:q::p0 ga yO=p0 (a+1*vY) (n - q):=by rw[xw (n - q=yO+1) aCp h2,FY,JY (1*vY) q XT]);rw[FY,al,Vz];congr 1;exact aJM h1 h2
Zp(h:lv):pR m a=g! Bh EG (bD,false)++(ga,au)::pR m ga:=by unfold pR;rw[anq h.le h.lt,oI,dh];congr 1;(.rw[Ij i hi];have fg:=sI hi;rw[k5 fg];have:=h.no i fg.1 bm aE8 fg;simp only[pZ,Prod.mk.injEq,true_and,Oa];exact al);.rw[vh (by rw[tu nz h.is]),dL];rw[tu pZ h.is]
Dn(h:lv):gS=g! Bh ((· + 1))++[ga]:=by unfold d9;(have e:tj cL EU g! z8 EU ((· + 1)):=by rw[show EE aG=c_ (1+x)by funext x;exact aEJ,Vq,U0]);rw[e,N2];((have e2:tj a EU (GU++[q]):=by rw[show q+1 - a=vY+1 by have:=h.le;rw[ei NT],List.range'_concat,show a+1*vY=q by have:=h.le;rw[ei XT]]);have e3:((EH (ef kn !=0))∘c_ aG)=nz m:=by funext i;simp[nz]);rw[e2,e3,oI,dh,vh (by rw[tu nz h.is])];rfl
Ei{p:Y}(h:p∈gS):a<p/\p<=q+1:=by rw[c0 d9];have:=Sl.1;rw[k5 al,ei aHe]
ay5(m:ac)(a q:Y):SI gS:=Rv
MR(h:lv):gS≠[]:=by rw[Dn h];simp
apy{n:Y}(h:lv):(((D_ qa c_ CD).find? c_ b8).bz c_ bh).ox n=q+1/\((D_ qa c_ CD).bz c_ bh).oH (λ b=>bn (b<=q+1))=gS:=by rw[aor m (by have:=h.le;have:=h.lt;omega),Zp h];constructor;(.rw[U3];(have:cw ((Bh).bz EG ((bD,false):ud)).find? EE b8:=by rw[List.find?_eq_none];intro x hx;(rw[dA (ah (F0 hx) λ i _ aS=>?_) aS]);simp);rw[al];rfl);.rw[Dn h,dh,oI,NW];congr 1;(.rw[List.filter_eq_self.mpr];(.rfl);.intro x hx;(rw[Qe hx aU aU]);have fg:=sI hi;rw[k5 fg,gi aAk fg]);.rw[dL,vh aM,List.filter_eq_nil_iff.mpr];intro x hx;(rw[dA (ah (F0 hx) ar y hy a9) a9]);unfold pR at hy;(rw[Qe hy bu bu]);have fg:=sI hi;rw[k5 fg];simp[pZ];exact aE5 fg
nh.1(B:ai)(w:dj)(n:Y)(t:bj)(a:Y)(L:ac):gV:=(L.filter λ b=>bn (Pk b<=n)).getLast?
nS.1(B:ai)(w:dj)(n:Y)(t:bj)(a:Y)(cs:ac):Y:=match ce nh a cs with|e8=>b|ak=>if w.split=false then LJ else match ce nh a (kM pC a LJ)with|Z p=>p|ak=>(kM pC a LJ).or 0
afA(h:l≠[])(x y:Y):vf x=vf y:=by cases l with|bt=>rw[lj h]|aQ z l=>rfl
Ni(h:l≠[])(x:Y):vf x∈l:=by cases l with|bt=>rw[lj h]|aQ z l=>simp
ape{B:ai}{t:bj}(h:Dp):(EA).oH EH bn (0<p)=EA:=by rw[List.filter_eq_self];intro p hp;unfold uq at hp;rcases BM hp with hp|hp;(.have:=sI hp;rw[k5 al];simp;rw[ei Zf]);.rw[N7]at hp;simp;exact DV h hp
Me(I:ia)(h:a<b):v! I≠[]:=by rw[lf kM h];simp
ae0{B:ai}{w:dj}{n:Y}{t:bj}(hm:T6)(h:lv):BG m a=wS:=by unfold lineEnd nS nh;rw[BW h2 (apy (n:=cP) h)];dsimp only;rw[h1,h2];have be:=MR h;have hh:=afA be cP 0;have fw:=Ei (Ni be 0);(have hb:(gS).or 0<=cP:=by have:=h.lt;exact Yi fw al hm);split;(.rename_i b e;rw[e]);.rename_i e;rw[e,hh];dsimp only;split;(.rfl);. (have hi:((breaks B qZ nE nL (GH gS 0)).oH EH bn (0<p)).bz EH (a+p)=kM pC a (GH gS 0):=by rw[ae8 (by rw[pD hb];exact X9 fw),VA aM,ape (by rw[pD hb];exact X9 fw),zC fw.1 hb]);rw[hi];split;(.rename_i p e2;rw[e2]);.rename_i e2;rw[e2];dsimp only;exact afA (Me _ fw.1) _ _
ad5{B:ai}{w:dj}{n:Y}{t:bj}{L:ac}(h:ce nh a L=Z b):b∈L:=(N4 (List.mem_of_getLast? h)).1
Xr{B:ai}{w:dj}{n:Y}{t:bj}(h:lv):a<wS/\wS<=q+1:=by have be:=MR h;have fw:=Ei (Ni be 0);unfold nS;split;(.rename_i b e;exact Ei (ad5 e));.split;(.exact fw);.split;(.rename_i p e;rw[m3 (C0 (ad5 e)) afi fw]);.rw[m3 (C0 (Ni (Me (t.map (inf B)) fw.1) 0)) afi fw]
UD(hl:m.getLast?=ca 2):ls k a (T0=k->Dz->∃q,lv):=by intro k;induction k with|cu=>intro a h1 h2;exact fI wI aC5|cv k ih=>intro a h1 h2;by_cases e:gp=2;(.exact #[a,gh,h2,e,λ i h3 h4=>by exact alD h4 h3]);.by_cases hz:a+1<cQ;(.obtain⟨q,hq⟩:=ih cL tY Wg hz;refine #[q,by have:=hq.le;rw[ei NP],hq.lt,hq.is,ar i h3 h4];by_cases hi:i=a;(.rw[dB hi e]);.exact hq.no i eO ax6 h3 hi h4);.exfalso;apply e;rw[List.getLast?_eq_getElem?]at hl;rw[kE,show a=cQ - 1 by exact amW h2 hz,hl];rfl
as4{B:ai}{w:dj}{n:Y}{t:bj}{cs:m5}(hg:∀a,LD->a<Px cs a):∀(f g a:Y),cP - a<=f->cP - a<=g->th cs f a=th cs g a:=by(have hz:ls f a (Dd->th cs f a=[]):=λ f a h=>by cases f with|cu=>rfl|cv f=>exact lN h);intro f;induction f with|cu=>intro g a h1 h2;rw[eG hz tY GO,eG hz tY GO]|cv f ih=>intro g a h1 h2;by_cases ha:Dd;(.rw[eG hz ha,eG hz ha]);.cases g with|cu=>exact fI (avW h2 ha)|cv g=>have hb:=hg a bm Nat.lt_of_not_le ha;exact(ow ha).u3 yi (uU (List.cons _) (ih g _ eO Xl h1 hb eO Xl h2 hb)) (aj ha).symm
rb.1(B:ai)(w:dj)(n:Y)(t:bj)(m:ac)(a:Y):z!:=th qa cP a
aB2{B:ai}{w:dj}{n:Y}{t:bj}(h:Dd):ce rb m a=[]:=by unfold rb;cases cP with|cu=>rfl|cv f=>exact lN h
aMu{B:ai}{w:dj}{n:Y}{t:bj}(hm:T6)(hl:m.getLast?=ca 2)(h:lv):ce rb m a=(a,wS)::ce rb m wS:=by(have hg:∀a,LD->a<BG m a:=λ a ha=>by obtain⟨q,hq⟩:=UD hl _ a ag eO BP ha hm;rw[ae0 hm hq];exact(Xr hq).1);(have ha:LD:=by have:=h.le;have:=h.lt;omega);unfold rb;obtain⟨f,hf⟩:∃f,cP=f+1:=#[Dq,by exact aAD ha];rw[as4 hg cP Ly a gr ank (by exact aLy)];rw[w! (th qa Ly a=if Dd then[]else(a,BG m a)::th qa cP BG m a)];rw[aj bm VB ha,ae0 hm h]
}
section
variable(B:ai)(w:dj)(n:Y)(t:bj)(e:Y)
def z:={
z0.1:wZ:=(#[0,0,0],[])
lb.1(l:ac):wZ:=(wP).or z0
Mp.1(a x:Y)(z:wZ):wZ:=((Ag x (x==e)).plus z.1,(a,x)::z.2)
leB.1(x y:wZ):aL:=(bh).le y.1
aey(x:Y):ce lb e [x]=z0:=rfl
ace:∀l:ac,bp wP=bP|[]=>rfl|[_]=>rfl|a::AV=>by show bp GI yQ+1=_;rw[ace yQ];rfl
aJL(a b:Y)(r:ac):ce leastBad e Mx=ce lb e Mx::GI yQ:=rfl
Z9:(mV l j (j<bP->wP[j]?=Z IZ))|[],j,h=>gq|[x],0,_=>rfl|[x],j+1,h=>gq|a::AV,0,_=>rfl|a::AV,j+1,h=>by rw[Ra aJL,Z9 yQ j pY]
zo.1(a:Y)(l:ac):bA (Bad×z!):=(l.zip wP).bz gj m? Mp z.1 z.2
ar2(a:Y)(l:ac):bp Ke=bP:=by unfold zo;rw[qL,List.length_zip,ace,Nat.min_self]
ag5(a:Y){j:Y}(h:l[j]?=Z x):Ke[j]?=Z m? Mp x IZ:=by unfold zo;obtain⟨hl,_⟩:=Q7;rw[Qo e1 ((l.zip wP)[j]?=Z (x,IZ)) #[h,ce Z9 e l j hl]];rw[qN,e1];rfl
aF8(a b:Y)(r:ac):ce lb e Mx=(ou leB (ce zo e a yQ)).ox z0:=rfl
jv.1(a:Y)(l:ac):Y->cC (Bad×Y)|0=>ak|k+1=>IO (jv a l k) A' pT (((Ag pk (pk==e)).plus (rG k).1).le b.1) A' e8
V3(a:Y)(l:ac):∀k,k<=bP->ou leB ((Ke).d4 k)=g! m? jv l k λ b=>(b.1,(a,vG b.2)::(rG b.2).2)|0,_=>rfl|k+1,h=>by have ih:=V3 a l k Iu;(have hk:l[k]?=Z pk:=by rw[sw gd v4]);rw[zw,ce ag5 e a hk];show ou leB (_++[_])=_;rw[Ch.Zv,ih];rw[w! (m? jv l br=IO m? jv l k A' pT (((Ag pk (pk==e)).plus (rG k).1).le b.1) A' e8)];cases hb:m? jv l k with|ak=>rfl|ca b=>rw[Ir];unfold leB Mp;dsimp only;split<;>rfl
anG(a:Y)(l:ac)(k:Y):∃b,m? jv l br=Z b/\b.2<k+1:=by induction k with|cu=>rw[pO SA]|cv k ih=>refine ah ih ar b hb a8;rw[jv,hb];dsimp only;split;(.rw[pO SA]);.rw[pO bm as2 a8]
auE{b:Bad×Y}(h:m? jv l bP=Z b):ce lb e (a::l)=(b.1,(a,vG b.2)::(rG b.2).2):=by cases l with|bt=>rw[bo]|aQ x r=>have h1:=ce V3 e a f_ x bp f_ x gh;rw[h,List.take_of_length_le (by rw[ar2];exact u8 _)]at h1;rw[aF8,h1];rfl
RK:∀(l:m5)(acc:ac)(p:Y)(r:m5),DZ (b8=false)->zB (l++(p,au)::r) acc=(acc++zj (·.1)++[p])::zB r [p]|[],acc,p,r,_=>by show(acc++[p])::zB r [p]=_;simp|(y,au)::l,acc,p,r,h=>by have:=h (y,au) aM;cases al|(y,false)::l,acc,p,r,h=>by show zB (l++(p,au)::r) (acc++[y])=_;rw[RK l _ p r (λ x hx=>h x jQ hx)];simp
kz.1(m:ac)(a:Y):z!:=(zB (pR m a) [a]).flatMap λ l=>(ce lb (N' 0) l).2
aK6(m:ac):raggedBy B w n t qa=kz B w n t m 0:=by unfold raggedBy kz;rw[aFw];rfl
agH(h:TK):ce kz m a=[]:=by unfold kz pR;rw[QO (T0=0)];rfl
aCy(h:lv):ce kz m a=(ce lb ga (a::gS)).2++ce kz m ga:=by unfold kz;rw[Zp h,RK _ _ _ _ (λ x hx=>by(rw[dA (ah (F0 hx) λ i _ iS=>?_) iS]);rfl)];rw[eR];((have e1:[a]++((Bh).bz EG ((bD,false):ud)).bz (·.1)++[ga]=a::gS:=by rw[Dn h,NW];rfl);have e2:(a::gS).Vs 0=q+1:=by rw[Dn h,<-Ny,List.getLast?_append];rfl);rw[e1,e2]
}
section z
section _W
namespace _B
open Mt
variable{a i:Y}{aB:gV}{m s l n z:ac}{hv:CH}{ss:B'}{ms:B!}
def z:={
fz.1(i r:Y):tG:=z? (r=0) Z #[r,i]
kQ.1:w_->Y|[]=>0|uM=>pT bh (kQ l) b8
G8(i:Y):∀l:w_,DZ Mn->kC (zj c_ (om bh b8 i))=fz i (kQ l)|[],_=>rfl|uM,h=>by rw[dL];unfold om kQ;split;(.exact G8 i l λ y hy=>v0 h y hy);.show Z _=fz i b8;unfold fz;rw[aj La]
EV.1(p:ac)(t:Y):aL:=t !=0&&lr==fk (du - 4)
jz.1(p:ac)(t:Y):Y:=KW oq (4*t+4) (kQ [(ge (lr<14) (t==0||ka fk (du - 4) lr),4),(eu tw&&(!EV p t||bn (fk (du - 2)<tw)),7),(eu CO&&ka tw CO,7),(ge (0<xm) ka xm (qG lr),8),(!(EV p t&&(im fk (du - 2)==tw&&fk (du - 1)==xm)),9)])
aFe{bH:wQ}(h0:Lz)(h:TV):mU mZ=Z nV:=by rw[P1]
aqB{p:ac}{t:Y}(h:Lb):mZ t Eu xT=fz t MG:=by unfold jz;by_cases hs:oq<4*t+4;(.rw[ao hs,aFe (by rw[sM,Ik]) (by rw[wb U' hs])];rfl);.rw[aj hs,r6 Ea hs];rw[<-G8 t _ aM];unfold mZ;simp only[dL,F2];cases t with|cu=>rfl|cv t=>((have e0:4*g0 - 4=4*t:=by exact aL3);have e2:4*g0 - 2=4*t+2:=by exact aA7);(have e1:4*g0 - 1=4*t+3:=by exact aGo);unfold BU EV A9;rw[e0,e1,e2];dsimp only[u2,lM];by_cases hk:lr=fk yJ;(.rw[ao hk];rw[HS ap (fk yJ==lr) F3]);.rw[aj hk];rw[HP ((fk yJ==lr)=false) (λ e=>hk zE)]
jf.go{p:ac}{t:Y}(h:Ev)(hl:Lb):if MG=0 then jf p g0 else yc ak p=kZ #[MG,t]:=by have e:=aqB hl;unfold fz at e;split;(.rename_i h0;rw[ao h0]at e;exact h.next hl e);.rename_i h0;rw[aj h0]at e;exact h.fault e
Jq.1(m:ac)(aB:gV):li:=bef.map λ b=>(ef b,ef M9)
lD.1(m:ac)(a:Y):B_|ak=>false|e8=>gp==ef b
pX.1(m:ac)(a:Y):B_|ak=>au|e8=>ka ef b gp
Cn.1(m:ac)(a:Y):B_|ak=>au|e8=>bn (ef M9<tR)
sm.1(m:ac)(a:Y):ac:=(vi yV).d4 nn
jV.1(m:ac)(a:Y)(aB:gV):Y:=KW cQ (a+3) (kQ [(ge (gp<15) (pX m a aB),4),(eu tR&&(!lD m a aB||Cn m a aB),10),(ge (0<nn) ka nn (Fd gp),11),(ka nn (cQ - yV),6),(Fe gp ML,12),(!(gp !=10&&(gp !=11&&ML==[tR])),13)])
Jb(h:LA (a+3)):vi a=gp::tR::nn::vi yV:=by(have g:∀i,i<cQ->ck m ef i:=λ i hi=>by rw[sw gd hi]);rw[zy (g a eA Um),zy QY cL,zy (g mn v4)]
aqL{bH:li}(h0:Lz)(h:bP<3):mU oX=Z nV:=by rw[HV a b c];((.rw[f8 h0 Hm]);.rfl);(.rfl);.rw[f8 h (Nh (Uu 3 bP))]
T_(h:Dz):oX i (Jq m aB) Ue=fz i xM:=by unfold jV;by_cases hs:cQ<a+3;(.rw[ao hs,aqL (by rw[sM,Ik]) (by rw[wb ayA hs])];rfl);.rw[aj hs,r6 Jb hs];rw[<-G8 i _ aM];unfold oX;simp only[dL,F2,io];cases aB with|ak=>rfl|ca b=>unfold Jq;rw[Rb];by_cases hk:ef b=gp;(.rw[ao hk];rw[HS ap (lD m a e8) F3]);.rw[aj hk];rw[HP (lD m a e8=false) (λ e=>hk zE)]
}
structure jJ(m:ac)(a i:Y)(aB:gV)(ms:B!):Prop where
 le:TJ
 num:ms.length=i
 hb:∀b,aB=e8->b+3<=a
 eq:∃f,cQ - a<=f/\Jk gw m (jw ms (gw Ad i (Jq m aB) Ue))
def z:={
jJ.zero(m:ac):jJ m 0 0 ak []:=#[mE,rfl,λ b h=>by(cases h),cQ,by exact Er,by rw[My];rfl]
jJ.fault(h:ue jJ m ms)(hl:Dz)(hr:xM≠0):Jk gw m kZ #[xM,i]:=by rw[we f hf e];have e2:=wr T_ aB aB hl;unfold fz at e2;rw[aj hr]at e2;rw[e,aaJ e2];rfl
LL{l:w_}(h:ap (l.all λ e=>!Nat.beq e.2 0)):nD l Mn:=λ x m e=>by have:=UW h x m;rw[bN e al al]
Cu:∀{l:w_},DZ Mn->kQ l=0->nD l ap bh|[],_,_,x,hx=>by cases hx|y::l,h0,h,x,hx=>by rw[c0 kQ];split at h;(.rename_i hy;rcases eD hx with rfl|hx;(.exact hy);.exact Cu BT h0 h x hx);.rw[f8 h (h0 y aM)]
JD(h:xM=0):LA (a+3+nn)/\gp<15/\0<nn:=by rw[c0 jV];by_cases hl:cQ<a+3;(.rw[hW ao hl]);.rw[aj hl]at h;have h':=Cu (LL ag) h;rw[tp h1 (h' (_,6) jB HE) (h' (_,4) r9)];have h3:=h' (_,11) HE;rw[Q6 h1 h2 h3,#[Nat.add_le_of_le_sub' (gy hl) h1,h2.1,h3.1]]
jJ.next(h:ue jJ m ms)(hl:Dz)(hr:xM=0):jJ m (yV+nn) bD Z a (ms++[(gp,#[tR,ML])]):=by rw[Qz hz JD T_,<-#[hz.1,fD h.num,λ b hb=>by cases hb;exact MK,E9,by exact ayo hf,?_]];rw[Jb bm IM hz]at e2;rw[e,Jb bm IM hz,acK e2,Nd];rw[show E9+1=f by exact XO hf hl,i_];rfl
jJ.done(h:ue jJ m ms)(hl:TK):Jk gw m (.ok ms):=by rw[we f hf e];rw[e,Bw,aLe];simp[jw]
jD.1(s:ac)(a:Y):ac:=(i' mn).d4 rP
IL.1(s:ac)(aB:gV):nq:=bef.map λ b=>(gI b,jD s b)
Bl.1(s:ac)(a:Y):B_|ak=>au|e8=>ip (jD s b) MC
dC.1(s:ac)(a:Y):Y:=a+2+rP
FP.1(s:ac)(a:Y):ac:=(i' Mb).d4 m_
wg.1(s:ac)(q k:Y):w_:=[(ge (0<gI q) ka gI q (y8 k),15),(bn (gI q<gE - q),6),(k==0||(uK (i' ga) gI q).all c_ bn (x<2^16),15)]
j2.1(s:ac)(a:Y)(aB:gV):Y:=KW gE (a+2) (kQ ([(ge (qc<3) (pX s a aB),4),(ge (Nj qc<=rP) ka rP (Ff qc),14),(bn (rP<LK mn),6),((MC).all eu&&(!lD s a aB||Bl s a aB),14)]++wg s iH qc))
Jt(h:LA (a+2)):vi a=gp::tR::vi mn:=by(have g:∀i,i<cQ->ck m ef i:=λ i hi=>by rw[sw gd hi]);rw[zy (g a eA Uo),zy (g cL v4)]
SS(l:ac)(n:Y):Cm 0=vG n:=by rw[kE];by_cases h:n<bP;(.rw[FQ h,Ng h];rfl);.rw[Rk uY,Rk iq];rfl
adX(h:LC):rZ i (IL s aB) L8=fz i xO:=by unfold j2;by_cases hs:gE<a+2;(.rw[ao hs];(have hl:dy i' a=1:=by rw[sM,akp hs h]);match L8,hl with|[_],_=>rfl);.rw[aj hs,r6 Jt hs];rw[<-G8 i _ jQ wg];unfold rZ wg;simp only[dL,F2,Ny,zc,io,i_,SS];have e1:gI tt=m_:=rfl;have e2:LK tt=LK iH:=rfl;have e3:i' (tt+1)=i' Mb:=rfl;rw[e1,e2,e3];cases aB with|ak=>rfl|ca b=>unfold IL;rw[Rb];by_cases hk:gI b=qc;(.rw[ao hk];rw[HS ap (lD s a e8) F3]);.rw[aj hk];rw[HP (lD s a e8=false) (λ e=>hk zE)]
}
structure jI(s:ac)(a i:Y)(aB:gV)(ss:B'):Prop where
 le:a<=gE
 num:ss.length=i
 hb:∀b,aB=e8->b+2+gI M9<a
 eq:∃f,gE - a<=f/\Jl gx s (jw ss (gx Ad i (IL s aB) L8))
def z:={
jI.zero(s:ac):jI s 0 0 ak []:=#[mE,rfl,λ b h=>by(cases h),gE,by exact Er,by rw[My];rfl]
jI.fault(h:ue jI s ss)(hl:LC)(hr:xO≠0):Jl gx s kZ #[xO,i]:=by rw[we f hf e];have e2:=wr adX aB aB hl;unfold fz at e2;rw[aj hr]at e2;rw[e,adW e2];rfl
MB(h:xO=0):iH+1+m_<=gE/\qc<3/\iH<gE:=by rw[c0 j2];by_cases hl:gE<a+2;(.rw[hW ao hl]);.rw[aj hl]at h;rw[tp h' (Cu jQ wg h) (h' (_,4) r9)];have h3:=h' (_,6) HE;have h1:=h' (_,6) pJ jB r9;rw[Q6 h1 h2 h3];unfold dC at h1⊢;exact #[by rw[Nat.add_right_comm];exact Uv R6 h1,h2.1,R6 h3]
jI.next(h:ue jI s ss)(hl:LC)(hr:xO=0):jI s (iH+1+m_) bD Z a (ss++[(qc,#[MC,FP s a])]):=by rw[Qz hz MB adX];(have ht:a+2<=iH:=by unfold dC;exact abu);refine #[hz.1,fD h.num,λ b hb=>by cases hb;show iH<_;exact A1,E9,by exact afH hf ht,?_];rw[CB Jt U2 ht]at e2;rw[e,CB Jt U2 ht,abA e2,Nd];simp only[i_,SS];have e1:gI tt=m_:=rfl;have e3:i' (tt+1)=i' Mb:=rfl;(have e4:i' (tt+(1+m_))=i' (iH+1+m_):=by congr 1;show iH+(1+m_)=_;exact agB);rw[e1,e3,e4,show E9+1=f by exact XO hf hl];rfl
jI.done(h:ue jI s ss)(hl:gE<=a):Jl gx s (.ok ss):=by rw[we f hf e];rw[e,Bw,aoJ];simp[jw]
n4.1(n:ac)(t:Y):ac:=(n.drop du).d4 4
nG.1:CH:=[[90,122,122,122],[90,121,121,121],[90,105,110,104]]
ej.1(z:ac):Bytes:=z.map c_ (vk x)
oJ.1(z:ac):aL:=NI==4&&(ge (65<=z.headD 0) bn (z.headD 0<=90)&&(z.drop 1).all c_ (bn (97<=x)&&bn (x<=122)))
kg.1(z:ac)(t:Y)(hv:CH):aL:=oJ z&&(!S?&&(bn (t<64)&&(bn (3<=t)||z==DD)))
o6.1(z:ac):Prop:=nD z yE
N9:∀{a b:ac},o6 a->o6 b->ej a=ej b->a=b|[],[],_,_,_=>rfl|[],og,_,_,h=>yg|og,[],_,_,h=>yg|x::a,y::b,h1,h2,h=>by rw[c0 ej];rw[dL,dL,List.cons.injEq]at h;have hx:=h1 x aM;have hy:=h2 y aM;have e:=vR UInt8.toNat h.1;rw[Od,Od,Rq K3 hx,Rq K3 hy]at e;rw[e,N9 BT h1 BT h2 h.2]
azj(h1:kc hv (o6 y))(h2:o6 z):(hv.map ej).F5 (ej z)=S?:=by rw[ze,VF,VF,List.mem_map];constructor;(.rintro⟨y,hy,e⟩;rw[N9 h2 ym zE];exact hy);.exact λ h=>aW z h ag
HA{x:Y}(h:yE):(vk x).toNat=x:=by rw[Od,VD eA K3]
ags:firstNames=nG.map ej:=by decide+vd
aIv:kc nG (o6 y):=by unfold o6;decide
adi(h:ap (oJ z)):NI=4/\o6 z:=by rw[c0 oJ];simp only[fc,lO,i4,u4]at h;refine #[h.1,D4];cases z with|bt=>cases hx|aQ y r=>rcases eD hx with rfl|hx;(.have:=h.2.1.2;rw[N1]at al;rw[ei aAY]);.rw[ll (h.2.2 x Cs).2 ao9]
aiZ{b c d t:Y}(hh:kc hv (o6 y)):Pz (r.all F9) (L2).F5 t=kg [a,b,c,d] t hv:=by by_cases hl:o6 [a,b,c,d];(. (have e1:ap GT:=by rw[u4];exact λ x hx=>Ce sk hl);have ha:=hl a aM;have hb:=hl b aM;have hc:=hl c aM;have hd:=hl d aM;rw[e1,Fy,azj hh hl];unfold kg oJ;congr 1;(.show(Of (vk a)&&[vk b,vk c,vk d].all F9)=_;unfold Of F9;simp only[y!,Fz,HA ha,HA hb,HA hc,HA hd,N1,qU,FL,gA,u6];rfl);.congr 1;congr 1;rw[ags,qN];by_cases h3:t<3;(. (have e2:nG[t]?=Z DD:=by rw[sw gd (show t<nG.length from h3)]);rw[e2,Rw VB h3,VI];show(rA==ej DD)=_;rw[ze,lO,lO];have hf:DD∈nG:=VJ e2;exact #[λ h=>N9 hl (aIv _ hf) h,λ h=>by rw[h]]);.rw[iq (show nG.length<=t by show 3<=t;exact gy h3),r6 zf h3,Bool.true_or];rfl);. ((have e1:GT=false:=by rw[VL];intro h;rw[u4]at h;exact hl λ x hx=>of_decide_eq_true sk h);have e2:iL oJ [a,b,c,d]:=by rw[VL];exact λ h=>hl (adi h).2);rw[e1,Oh];unfold kg;rw[e2,Oh]
}
structure rO(n:ac)(t:Y)(hv:CH):Prop where
 le:4*t<=vl
 num:hv.length=t
 low:kc hv (o6 y)
 len:kc hv (oB=4)
 nd:hv.Nodup
 eq:L6 [] n=jw (VM ej) (l3 t L2 Mz du)
def z:={
rO.zero(n:ac):rO n 0 []:=#[mE,rfl,fC,fC,fC,fD My]
apb{t:Y}:bp ly=min 4 (vl - 4*t):=by rw[t9 n4]
aq9{hv:Dr}(h0:Lz)(h:TV):l3 i hv l=CM i:=by rw[P1]
RT(t:Y)(hv:Dr)(a b c d:Y)(l:ac):l3 t hv (a::b::c::d::l)=pT Hu (jw [rA] (l3 g0 J? l)) CM t:=by(conv=>lhs;whnf);unfold om;show(match KA ap Hu Z (#[16,t]:qF)with|yy=>Ul e|ak=>match l3 g0 J? l with|kZ e=>kZ e|.ok m=>.ok (rA::m))=_;generalize Hu=q;cases q with|au=>rw[ao ag,ao ag];dsimp only;cases l3 g0 J? l<;>rfl|false=>rfl
rO.go{t:Y}(h:rO n t hv)(hl:4*t<vl):pT (kg ly t hv) (rO n g0 (ly::hv)) (L6 [] n=CM t):=by by_cases hs:vl<4*t+4;(. (have hf:kg ly t hv=false:=by unfold kg oJ;(have:((ly).Fc==4)=false:=by rw[apb,Oa];exact aIa hs);rw[al];rfl);rw[aj (by rw[hf];simp),h.eq,aq9 (by rw[Qa hl]) (by rw[wb U' hs])];rfl);. (have hd:=r6 (Ea (p:=n) (t:=t)) hs;have hn:n4 n t=[nF du,nF z9,nF AC,nF Ak]:=by rw[tu n4 hd]);have hc:=aiZ (a:=nF du) (b:=nF z9) (c:=nF AC) (d:=nF Ak) (t:=t) h.low;rw[<-hn]at hc;(have yW:l3 t L2 Mz du=pT (kg ly t hv) (jw [ej ly] (l3 g0 ((ly::hv).bz ej) Mz yJ)) CM t:=by rw[hd,RT,<-hc,hn];rfl);split;(. (rename_i aR;have Dy:ap (oJ ly):=by unfold kg at aR;simp only[fc]at aR;exact aR.1);obtain⟨OM,qM⟩:=adi Dy;refine #[Hi hs,fD h.num,?_,?_,?_,?_];((.intro y hy;rw[P! qM h.low]);.intro y hy;rw[P! OM h.len]);(.rw[List.nodup_cons];refine #[λ hm=>?_,h.nd];unfold kg at aR;simp only[fc,US]at aR;have:=aR.2.1;rw[List.contains_iff_mem.mpr hm]at al;cases al);.rw[h.eq,yW,ao aR,Nd,Nv,dh];rfl);.rename_i aR;rw[h.eq,yW,aj aR];rfl
rO.done{t:Y}(h:rO n t hv)(hl:vl<=4*t):L6 [] n=.ok (VM ej)/\vl=4*t:=by refine #[?_,by have:=h.le;exact Nat.le_antisymm hl al];rw[h.eq,Bw];exact uU Except.ok (oy _)
wk.1(k v:Y):aL:=LG||(EI&&v.testBit 12)
Bg.1(x:nr):Y:=if(ap (wk bh LT))then D!+1 - LS else 0
q9.1(ps:gQ):Y:=(ps.map Bg).sum
xD.1(l:bA kB)(k:Y):Y:=mI (if k=0\/k=3\/k=9 then l else if k=13 then l.filter (λ(r:kB)=>wY)else[]) xq r (r.last+1 - oz)
aKh(l:bA kB)(r:kB)(k:Y):xD vN r k=xD l k+Bg (k,r):=by unfold xD Bg wk;by_cases h:k=0\/k=3\/k=9;(.rw[uk,uk,dh,lR];(have:ap (LG||(EI&&wY)):=by rcases h with h|h|h<;>simp[h]);rw[ao al];simp);.rw[aj h,aj h];(have h1:LG=false:=by simp only[Bool.or_eq_false_iff,Oa];exact aGv h);by_cases fY:k=13;(.rw[ao fY,ao fY,oI,dh,lR];(have h2:ap EI:=by simp[fY]);rw[h1,h2,VI,Fy];by_cases hb:ap wY;(.rw[ao hb,vh (p:=xq r wY) hb];simp);.rw[aj hb,VA (p:=xq r wY) hb];simp);.rw[aj fY,aj fY];(have h2:EI=false:=by simp[fY]);rw[h1,h2];simp
Wz{α β:Type}(f:α->bA β)(g:β->Y):∀l:en,mI TL g=(zj c_ mI yY g).sum|[]=>rfl|uM=>by rw[eR,dh,lR,Wz f g l,dL,ir]
al0(ps:gQ)(ms:bA bA Row)(ss:bA bA Seq)(ns:Dr):walked #[u5 y6 ps,ms,ss,ns]=SR:=by rw[e9 walked Wz];dsimp only;rw[A3];rfl
aIB(f g:Md)(j d:Y):∀n,j<n->(∀k,k<n->g k=f k+if k=j then d else 0)->mI Tu g=mI Tu f+d:=by intro n;induction n with|cu=>intro h;exact pI nI h|cv n ih=>intro h hk;rw[uX,dh,dh,lR,lR];simp only[dL,F2,ir,List.sum_nil,ve];by_cases hj:j=n;(.subst hj;rw[hk j (by exact xG),t?];(have:(kD j).bz g=JP j f:=by rw[Ij k cj,Jn cj];rw[hk k bm tq cj,aj bm vo cj];simp);rw[dB al Yj]);.rw[ih eO oV h hj (λ k cj=>hk k bm tq cj),hk n (by exact xG),aj bm ab7 hj];exact atE
aBL:∀ps:gQ,v2 ps (bh<14)->SR=q9 ps:=by refine Nu (λ _=>by decide) λ l x ih h=>?_;have h1:=ih λ y hy=>v0 h y hy;have hx:=La;unfold q9;rw[dh,lR];show _=q9 l+_;rw[<-h1];rw[aIB (λ k=>xD kf k) (λ k=>xD (lQ k ko) k) bh (Bg x) 14 hx];(.simp);.intro k hk;rw[MD];by_cases e:gl;(.subst e;rw[t?,t?,aKh]);.rw[aj e,aj uC (e q.symm),oy,ve]
ak3(l:gQ)(x:nr):q9 ko=q9 l+Bg x:=by unfold q9;rw[dh,lR];simp
}
section _B
namespace _R
variable{l x:cK}{a b:Y}{c xs:CJ}{α:Type}
def z:={
aKG(c:CJ):VN c=c:=by(rcases c with _|⟨h,t⟩;.rfl);(rcases h with _|⟨p,h⟩;.rfl);rcases p with n|n;(.rcases n with _|_|_|_|_|_|_|n;((.rfl);.rcases h with _|⟨x,h⟩;(.rcases t with _|⟨a,_|⟨b,_|⟨c,_|⟨d,_|⟨e,t⟩⟩⟩⟩⟩<;>rfl);.rfl);(iterate 2 rw[QK y t b]);(iterate 2 rcases h with _|⟨x,_|⟨y,_|⟨z,h⟩⟩⟩;((.rfl);.rfl);(.rcases t with _|⟨a,_|⟨b,_|⟨c,t⟩⟩⟩<;>rfl);.rfl);(.rw[QK y t b]);.rfl);.rfl
aBD(l:cK):VO l=F_ q_ bP l:=by unfold VO;split;(.rw[qb];rw[h]);.rename_i cs h;rw[h];congr 1;rw[show VN=id by funext c;exact aKG c,List.map_id]
}
structure iC(l:cK)(a:Y)(x:cK)(b:Y):Prop where
 lt:DB
 at_:l[a]?=Z (Oi:ad)
 le:xB
 eq:b=a+1+Oi
 is:x=(gu cL).d4 Oi
def z:={
Qq{t:cK}(h:Oj ke=Z (x,t)):∃b,iC l a x b/\t=qg:=by by_cases ha:DB;(.rw[Bo]at h;change GE (0<=l[a]/\t!<=J4 cL) ((p?).d4 t!,(gu cL).kG t!) ak=Z (x,t)at h;split at h;(.rename_i hc;rw[io]at hc;rw[bo];(have hl:dy uK p? t!=t!:=by rw[ot,io];exact avo hc);refine aW (cL+t!) #[ha,?_,by exact aFo hc ha,by rw[hl],by rw[hl]] (by rw[i_]);rw[gd ha,hl,Int.toNat_of_nonneg hc.1]);.rw[bo]);.rw[hW HN ha]
aeP(k:Y)(r:cK):vp br r=(Oj r).bind λ p=>g! BY λ q=>(p.1::q.1,q.2):=by(conv=>lhs;whnf);cases Oj r with|ak=>rfl|ca p=>show(match BY with|ak=>ak|Z (xs,t)=>Z (p.1::xs,t))=(BY).bz _;cases BY<;>rfl
NC{t:cK}(h:Tm ke=Z (xs,t)):∃x b,xs=[x]/\iC l a x b/\t=qg:=by rw[aeP]at h;rw[HR p hx,bo,<-ah (Qq hx) ar b h1 h2,(aE _ b ag h1 h2)]
DR{k:Y}{t:cK}(h:vp br ke=Z (xs,t)):∃x ys b,xs=x::ys/\iC l a x b/\vp k qg=Z (ys,t):=by rw[aeP]at h;rw[HR p hx];obtain⟨q,h2,h⟩:=VS h;obtain⟨x,s⟩:=p;(rw[dA (ah (Qq hx) ar b h1 aS) aS]);rw[bo,wI (lP x q.1 b ag)]
}
inductive pK(l:cK)(a:Y):CJ->Y->Prop
 |book{r0 r1 r2 r3:cK}{b0 b1 b2 b3:Y}:l[a]?=ca 1->iC l cL r0 b0->iC l b0 r1 b1->iC l b1 r2 b2->iC l b2 r3 b3->pK l a [[1],r0,r1,r2,r3] b3
 |q!{p w:ad}{r:cK}{b:Y}:l[a]?=Z p->p=2\/p=3\/p=6->l[cL]?=Z w->iC l mn r b->pK l a [[p,w],r] b
 |vq{p w n:ad}{r m:cK}{b c:Y}:l[a]?=Z p->p=4\/p=5->l[cL]?=Z w->l[mn]?=Z n->iC l yV r b->iC l b m c->pK l a [[p,w,n],r,m] c
def z:={
take1{l:en}(h:1<=bP):∃x,l[0]?=Z x/\u1 1=[x]:=by cases l with|bt=>simp at h|aQ x l=>exact aW x ag ag
take2{l:en}(h:2<=bP):∃x y,l[0]?=Z x/\l[1]?=Z y/\u1 2=[x,y]:=by rw[Id x y l];((.rw[f8 h (VT _)]);.exact qK (Nat.le_of_succ_le_succ h) (VT _));.exact(aE x y ag ag ag)
aFm{t:cK}(h:Ol q_ ke=Z (c,t)):∃b,pK l a c b/\t=qg:=by by_cases ha:DB;(.rw[Bo]at h;have hp:l[a]?=Z l[a]:=Ng ha;generalize l[a]=p at h hp;have g:∀i,p?[i]?=l[cL+i]?:=λ i=>oF;rw[c0 Ol,c0 q_,xr];((have q!:(p=2\/p=3\/p=6)->KA (J4 cL<1) Rp (Tm vV p?) ak (p::(gu cL).d4 1)=Z (c,t)->∃b,pK l a c b/\t=qg:=λ hq h=>by split at h;(.rw[bo]);.rename_i fO;refine ah (take1 (l:=p?) Rn) ar w CW F';rw[i_]at h;split at h;(.rw[bo]);.rename_i xs t' hr;rw[bo];(rw[dA (aO (NC hr) λ x b aU h1 h2=>?_) aU]);refine aW b ?_ h2;rw[F'];rw[g]at CW;exact .q! hp hq CW h1);have vq:(p=4\/p=5)->KA (J4 cL<2) Rp (vp 2 (vP p? 2)) ak (p::(gu cL).d4 2)=Z (c,t)->∃b,pK l a c b/\t=qg:=λ hq h=>by split at h;(.rw[bo]);.rename_i fO;refine aO (take2 (l:=p?) Rn) λ w n CW F' hw3=>?_;rw[i_]at h;split at h;(.rw[bo]);.rename_i xs t' hr;rw[bo];(rw[dA (gC (DR hr) λ x ys b a9 h1 h2=>?_) a9]);(rw[dA (aO (NC h2) λ y e bu h3 h4=>?_) bu]);refine aW e ?_ h4;rw[hw3];rw[g]at CW F';exact .vq hp hq CW F' h1 h3);by_cases h1:p=1;(.rw[ao h1]at h;rw[xr];rw[aj gr ayb,FL]at h;split at h;(.rw[bo]);.rename_i xs t' hr;rw[bo];(rw[dA (gC (DR hr) λ x0 y0 b0 bW q0 r0=>?_) bW]);(rw[dA (gC (DR r0) λ x1 y1 b1 cJ q1 r1=>?_) cJ]);(rw[dA (gC (DR r1) λ x2 y2 b2 dw q2 r2=>?_) dw]);(rw[dA (aO (NC r2) λ x3 b3 d7 q3 r3=>?_) d7]);subst h1;exact aW b3 (.book hp q0 q1 q2 q3) r3);.rw[aj h1]at h;by_cases h2:p=2;(.rw[ao h2]at h;exact q! (.inl h2) h);.rw[aj h2]at h;by_cases h3:p=3;(.rw[ao h3]at h;exact q! (.inr eV h3) h);.rw[aj h3]at h;by_cases h4:p=4;(.rw[ao h4]at h;exact vq (.inl h4) h);.rw[aj h4]at h;by_cases h5:p=5;(.rw[ao h5]at h;exact vq (.inr h5) h);.rw[aj h5]at h;by_cases h6:p=6;(.rw[ao h6]at h;exact q! (.inr iZ h6) h);.rw[hW aj h6]);.rw[hW HN ha]
am0(f:Y)(p:ad)(r:cK):F_ q_ Ad f_ p=(Si p).bind λ c=>g! Bi ((c.1 :: ·)):=by(conv=>lhs;whnf);generalize Si p=x;cases x with|ak=>rfl|ca c=>show(match Bi with|ak=>ak|Z cs=>Z (c.1::cs))=(Bi).bz _;cases Bi<;>rfl
RX{f:Y}{cs:bA CJ}(h:Pu ke=Z cs):(bP<=a/\cs=[])\/∃c b g ds,cs=c::ds/\pK l a c b/\F_ q_ g qg=Z ds:=by by_cases ha:DB;(.right;rw[Bo]at h;cases f with|cu=>rw[bo]|cv f=>rw[am0]at h;rw[HR p hc];obtain⟨ds,hd,h⟩:=VS h;obtain⟨c,t⟩:=p;rw[<-Bo]at hc;(rw[dA (ah (aFm hc) ar b h1 fM) fM]);rw[bo,(qJ c b f ds ag h1 hd)]);.left;rw[HN ha]at h;(have h:Z []=Z cs:=by cases f<;>exact h);rw[bo,#[Hi ha,rfl]]
iC.ab(h:iC l a x b):a<b:=by rw[h.eq];exact Gy zq a (Nat.le_add_right _ _)
pK.lt(h:pK l a c b):a<b/\xB:=by cases h with|book h0 h1 h2 h3 h4=>exact #[JT zq a CA h1.ab CA h2.ab CA h3.ab h4.ab,h4.le]|q! h0 hp h1 h2=>exact #[JT NM (Fq 1) h2.ab,h2.le]|vq h0 hp h1 h2 h3 h4=>exact #[JT NM (Fq 2) CA h3.ab h4.ab,h4.le]
}
section _R
namespace _E
open PySem PySem.Spec VU
def z:={
q?.1:cK->cK->aL|[],_=>au|og,[]=>false|x::xs,y::ys=>Sg ys x y
IX(x y:ad)(xs ys:cK):q? MQ (y::ys)=Sg ys x y:=rfl
VX(A:c6)(s:ay)(a:ad)(t:Tok)(c:ad)(u:Tok):SeqAt.EqAt A s Mr L! (a==c):=SeqAt.EqAt.int_int a t c u
TU(A:c6)(s:ay)(a:ad)(t:Tok)(c:ad)(u:Tok)(dk:dN)(w:dO)(E:bU)(Q:bU)(h:e7 ra bn (a<=c) s):gW mG (richCompare .LtE Mr L!) Q:=(PyProof.Rows.le_int h:gW mG (vu .LtE Mr L!) Q)
}
section
open PySem.SeqAt
open PySem.AutoSeq1(VV)
open PySem.MeetsSeq PySem.MeetsSeq2 PySem.MeetsSeq3
def z:={
ap2(l b:aI)(xa xb:Do)(n n2:Y)(dd lC:C!)(sl lq:Ds)(ns ms:cK)(ha:JB)(hb:JQ ms):P0 Builtin.«tuple.__le__» {cls:=Tw,oK:=dd,fU:=v6 xa n,kN:=sl} {cls:=Tw,oK:=lC,fU:=Ed,kN:=lq}:=.of_wp λ dk w A R s h=>by rw[Ba tk h h];have q2:=AutoSeq1.sub_tuple_tuple;((have z1:i?=Om:=by rw[<-ha.length];simp);have z2:Lx oM:=by rw[<-hb.length];simp);wp_walk using Gx h1,pM,wpAny_forIn_list _ (λ todo b s'=>dR b.1/\s'=wp g d tk/\∃(vs ws:cq)(as bs:cK),todo=vs.zip ws/\zF vs as/\zF ws bs/\as.length+oM=bs.length+i?/\R (.ok (.ret (.ra (q? as bs)))) wp g d tk) _;(case turn=>rintro⟨y,x⟩todo b s'⟨e0,rfl,vs,ws,as,bs,e1,e2,e3,e4,e5⟩;cases e2 with|bt=>rw[bN List.zip_nil_left e1 e1]|aQ a t oO=>cases e3 with|bt=>rw[bN List.zip_nil_right e1 e1]|aQ c u O3=>rw[FS]at e1;injection e1 with f1 f2;injection f1 with f3 f4;subst f3 f4;rw[IX]at e5;rw[Rh e4,JU eG (VX A.in1 wp g d tk a t c u dk w) ?_];by_cases jF:a=c;(.rw[ao jF]at e5;rw[Sh];wp_walk;exact #[rfl,rfl,_,_,_,_,f2,oO,O3,by exact aD5 e4,e5]);.rw[aj jF]at e5;rw[QB c u w];wp_walk using N3;rw[pO dv e5]);(case fin=>rintro⟨b1,b2⟩s'⟨e0,rfl,vs,ws,as,bs,e1,e2,e3,e4,e5⟩;simp only at e0;subst e0;(have hv:q? as bs=SD:=by cases e2 with|bt=>simp only[u6]at e4;show au=_;exact(zf bm aHF e4).symm|aQ a t hv=>cases e3 with|bt=>simp only[u6,gA]at e4;show false=_;exact(Rw aK8 e4).symm|aQ c u hw=>rw[bN FS e1 e1]);rw[hv]at e5;wp_walk;rw[pO (by simpa[Builtin.Tuple.tupleCompareSizes]using e5)]);case h=>exact #[rfl,rfl,xa.toList,xb.toList,ns,ms,rfl,ha,hb,by exact akz z2 z1,h]
SQ{vs:cq}{ns:cK}(h:zF vs ns):∀{i:Y}{v:a!},ck vs v->∃n t,ck ns n/\v=pu n t:=by induction h with|bt=>intro i v e;simp at e|aQ a t r ih=>intro i v e;cases i with|cu=>cases e;exact(cF a t ag ag)|cv i=>refine df (wr ih v v dv e) λ n t' h1 h2=>?_;exact(cF n t' A2 h2)
aFU(l b:aI)(xa xb:Do)(n n2:Y)(dd lC:C!)(sl lq:Ds)(ns ms:cK)(ha:JB)(hb:JQ ms)(k:Y):∀i:Y,i? - i=k->i<=i?->i<=oM->PY [ee l,.cS b,zG i,zG 1] {cls:=tT,oK:=dd,fU:=v6 xa n,kN:=sl} {cls:=tT,oK:=lC,fU:=Ed,kN:=lq}:=by((have z1:i?=Om:=by rw[<-ha.length];simp);have z2:Lx oM:=by rw[<-hb.length];simp);(have rf:∀i:Y,i<=i?->i<=oM->(i=i?\/L3)->PY [ee l,.cS b,zG i,zG 1] {cls:=tT,oK:=dd,fU:=v6 xa n,kN:=sl} {cls:=tT,oK:=lC,fU:=Ed,kN:=lq}:=by intro i xc xV Zj dk w A R s h;rw[Ba tk h h,sA pM];(have e:PQ=SD:=by by_cases hz:i=i?;(.rw[CB uY ab9 z1];exact(CB zf Cv xV).symm);. (have fT:L3:=by exact ao8 Zj hz);rw[uY (as:=ms) (by exact ab9 fT z2),FQ (l:=ns) (by exact ajP xc z1 hz)];exact(VG (by exact aCb fT xc hz)).symm);rw[e]at h;(have be:dR (xa[xy]?)\/(∃v,xa[xy]?=Z v)/\dR (xb[xy]?):=by by_cases hz:i=i?;(.left;rw[gi aaZ hz]);.right;exact #[#[xa[i],fC],by simp;exact aE9 Zj hz]);rcases be with e1|⟨⟨v,e1⟩,e2⟩;(.rw[e1];rw[sA pM,h]);.rw[e1,e2];rw[sA pM,h]);induction k with|cu=>intro i hk xc xV;exact rf i xc xV eV eO axV hk xc|cv k ih=>intro i hk xc xV;by_cases hz:L3;(.exact rf i xc xV iZ hz);intro dk w A R s h;rw[Ba tk h h,sA pM];((have l1:i<i?:=by exact Nat.lt_of_sub_eq_succ hk);have l2:i<oM:=by exact y9 xV hz);((have g1:xa[xy]?=Z xa[i]:=by simp[l1]);have g2:xb[xy]?=Z xb[i]:=by simp[l2]);refine df (SQ ha (i:=i) (v:=xa[i]) jQ l1) λ a t na va=>?_;refine df (SQ hb (i:=i) (v:=xb[i]) jQ l2) λ c u nc vc=>?_;(have hc:(jO i+1)=p_ bD:=by push_cast;rfl);rw[wt la ea na,wt lc ec nc];rw[Ai la,Ai lc,ea,ec,IX]at h;rw[g1,g2,va,vc];rw[JU eG (VX A.in1 wp g d tk a t c u dk w) ?_];by_cases jF:a=c;(.rw[ao jF]at h;rw[Sh];wp_walk;rw[hc];refine #[Hl VY,VZ V0 ?_];rw[QD];exact ih bD bm Wg hk Iy l1 Iy l2 dk w A R _ #[h1,h2,h]);.rw[aj jF]at h;rw[QB c u w,sA pM];rw[g1,g2,va,vc];wp_walk using N3;exact h
aod(l b:aI)(xa xb:Do)(n n2:Y)(dd lC:C!)(sl lq:Ds)(ns ms:cK)(ha:JB)(hb:JQ ms):P0 Builtin.«list.__le__» {cls:=tT,oK:=dd,fU:=v6 xa n,kN:=sl} {cls:=tT,oK:=lC,fU:=Ed,kN:=lq}:=by intro dk w A R s h;rw[Ba tk h h];have q3:=AutoSeq1.sub_list_list;rw[sA pM,<-#[Hl VY,VZ V0 ?_]];rw[QD];exact aFU l b xa xb n n2 dd lC sl lq ns ms ha hb _ 0 ag mE mE dk w A R _ #[h1,h2,h]
}
section z
section _E
namespace _L
open PySem PySem.Spec VU
variable{us:cq}{op lY:CmpOp}{Q:bU}{i t' n j:Y}{g:TG}{mg:g5}{eU:dP}{M:Model}{ch fp:nB}{kw:AZ}{rg:xX}{vs:cl}{N:e?}{κ α:Type}{y:V}{it:aI}{oN:vw}{lo:ad}{g':Array GenState}{rh:aN}{l:bC}{r':R2}{d':Drawn}{d!:uh}
def z:={
ajd(i:ad)(t:Tok):ap (rJ (.inl i) AR):=by simp[rJ,Value.isInt]
aue(x:aN)(t:Tok):ap (rJ (.inr x) (.str x t)):=by simp[rJ,Value.isStrOf]
aB9(dk:dN)(w:dO)(i:ad)(t:Tok):ap ((gf dk w).is (.inl i) AR):=ajd i t
alX(dk:dN)(w:dO)(x:aN)(t:Tok):ap ((gf dk w).is (.inr x) (.str x t)):=aue x t
bO.length{xs:cl}{us:cq}(r:sh):fe=gt:=V1 r
bO.get:∀{xs:cl}{us:cq}{i:Y}{x:V},sh->so->∃u,ck us u/\nH|_,_,_,_,dW,e=>by simp at e|_,_,0,_,eP r _,e=>by simp at e;subst e;rw[pO r]|_,_,db,x,eP _ t,e=>by refine ah (wr bO.get x x t dv e) ar u h1 h2;exact aW u A2 h2
bO.set{x:V}{u:a!}(r:nH):(IW us i (bO (xs.set i x) (us.set i u)))|_,_,_,dW=>dW|_,_,0,eP _ t=>eP r t|_,_,db,eP q t=>eP q (bO.set r i t)
bO.append{xs ys:cl}{ws:cq}(h:sh)(s:bO ys ws):bO (xs++ys) (us++ws):=by induction h with|bt=>exact s|aQ r t ih=>exact eP r ih
bO.take:(IW us n (bO (xs.take n) (NS n)))|_,_,0,_=>dW|_,_,_+1,dW=>dW|_,_,n+1,eP r t=>eP r (bO.take n t)
bO.drop:(IW us n (bO (xs.drop n) (NU n)))|_,_,0,r=>r|_,_,_+1,dW=>dW|_,_,n+1,eP _ t=>bO.drop n t
upd.1(H:Hp)(a:aI)(o:HO):Hp:=λ b=>if b=a then Z o else H b
aX{H:Hp}{a:aI}{o:HO}:upd H a o a=Z o:=by rw[lf upd ag]
aV{H:Hp}{a b:aI}{o:HO}(h:b≠a):upd H a o b=H b:=by unfold upd;rw[aj h]
vt{H:Hp}{a b:aI}{o u:HO}(h:H a=Z o)(h':mj H)(d:o≠u):a≠b:=by intro e;subst e;rw[h]at h';exact d (y7 h')
c8{H:Hp}{a b:aI}{o:HO}(h:H a=Z o)(h':kh):a≠b:=by intro e;subst e;rw[bN h h' h']
}
section
variable{P:dN}{w:dO}{H H':Hp}{h h':dP}{a:aI}{o:HO}
def z:={
fu.lt(x:fu P w H h a o):S5:=by cases o with|lst xs=>rw[<-xH x λ _ _ _ _ e=>?_,g? e]|tup xs=>refine iR x λ _ _ _ p=>?_;exact p.lt|dK aq=>rw[<-HC x λ _ _ _ _ o _ _ e _=>?_,g? e]|dT aq=>rw[<-HC x λ _ _ _ _ o _ _ e _=>?_,g? e]|set S n=>rw[<-F7 x λ o _ _ _ e _=>?_,g? e]|ins C dx fs=>rw[<-gJ x λ _ _ _ e _=>?_,g? e]|own y=>obtain⟨_,e⟩:=x;rw[g? e]|xd fs=>rw[<-ah x λ _ aS _=>lG aS λ _ _ _ e _=>?_,g? e]|gT lo hi=>obtain⟨_,_,_,e⟩:=x;rw[g? e]|iU ob u=>obtain⟨e,_⟩:=x;rw[g? e]|v9 ps=>rw[g? (show Cw _ from x)]|met f y=>rw[g? (show Cw _ from x)]|ext φ=>rw[<-bX x λ _ aU _=>cG aU λ _ e=>?_,g? e]
Paired.DE{β:Type}{F G:ci α β}{l₁:en}{l₂:bA β}(h:Paired F l₁ l₂)(f:∀a b,F a b->G a b):Paired G l₁ l₂:=by induction h with|bt=>exact dW|aQ r t ih=>exact eP eG f r ih
fu.wJ(x:fu P w H h a o)(k:HT (b=a\/cE H Ew))(ho:∀b,cE H Ew->cE H' Ew)(ht:iM xs cE H nQ cE H' nQ):fu P w H' h' a o:=by induction o with|lst xs=>refine xH x λ z aF n r e=>?_;exact(pq z aF n r iP)|tup xs=>obtain⟨z,aF,r,ob,e,c⟩:=x;exact #[z,aF,r,ob,iP,c]|dK aq=>refine HC x λ z y vs r ob es ep e c=>?_;exact #[z,y,vs,r,ob,es,ep,iP,c]|dT aq=>refine HC x λ z y xs r ob es ep e c=>?_;exact #[z,y,xs,Paired.DE r λ p q z=>#[z.1,eG ht z.2.1,z.2.2],ob,es,ep,iP,c]|set S n=>refine F7 x λ ob es ep t e c=>?_;exact #[ob,es,ep,t,iP,c]|ins C dx fs=>obtain⟨d,z,ne,e,mA,⟨od,es,ep,e2,c⟩,r⟩:=x;exact #[ho _ d,z,ne,iP,mA,(uJ od es ep (k _ _ iZ d e2) c),r]|own y=>obtain⟨ob,e⟩:=x;exact #[ob,iP]|xd fs=>refine ah x λ mA bu r=>lG bu D' od e c;exact aW mA (uJ od es ep iP c) r|gT lo hi=>obtain⟨t,u,v,e⟩:=x;exact #[t,u,v,iP]|iU ob u ih=>obtain⟨e,q⟩:=x;exact #[iP,ih q]|v9 ps=>have e:Cw {cls:=kS,fU:=.zI ps}:=x;show ri a=Z {cls:=kS,fU:=.zI ps};exact k a _ pf e|met f y=>have e:Cw Rt ee y:=x;show ri a=Z Rt ee y;exact k a _ pf e|ext φ=>refine bX x λ p bW st=>cG bW cr o e;exact #[st _ _ p λ o q=>k _ _ pf q,#[o,iP],st]
dM.lt(x:t_)(e:H a=Z o):S5:=(x a o e).lt
dM.fresh(x:t_)(e:KF):cw H a:=by cases q:H a with|ak=>rfl|ca u=>rw[wE Gy x.lt q e]
dM.kept(x:t_)(k:A?):dM P w H h':=λ a o e=>(x a o e).wJ (λ b u _ q=>k b u q) MM λ _ _ q=>q
dM.laid(x:t_)(k:A?)(hp:KF)(new:fu P w x! h' a o):dM P w x! h':=eH u e (by have hn:=x.fresh hp;by_cases hb:b=a;(.subst hb;rw[bN aX e e,new]);.rw[aV hb]at e;exact(x b u e).wJ (λ c v _ q=>k c v q) (λ c q=>by rw[aV yL];exact q) λ c xs q=>by rw[aV yL];exact q)
}
section z
def z:={
Df.1:(kq cC HO)|Z (.lst _)=>oP|Z (.dK _)=>oP|Z (.dT _)=>oP|Z (.set _ _)=>oP|Z eG .ins _=>oP|Z (.ext _)=>oP|_=>kA
}
section
variable{P:dN}{w:dO}{H:Hp}{h h':dP}{x e:aI}{o':HO}
def z:={
dM.write(ok:t_)(mu:Df (H x))(he:e=x\/H e=Z uz)(k:HT (b≠e))(zx:∃u,CC e u)(new:fu P w (upd H x o') h' x o'):dM P w (upd H x o') h':=eH u q (by((have aa4:∀c y,H c=Z z5 y->c≠x:=λ c y r z=>by subst z;rw[r]at mu;exact mu);have alj:∀c xs,H c=Z nQ->c≠x:=λ c xs r z=>by subst z;rw[r]at mu;exact mu);by_cases hb:b=x;(.subst hb;rw[bN aX q q,new]);.rw[aV hb]at q;by_cases eN:b=e;(. (have q':cE H uz:=by rcases he with z|z;(.exact qK (eN.trans z) hb);.rw[dB eN z]);rw[bN q q' q'];obtain⟨v,hv⟩:=zx;exact #[v,by rw[dB eN hv]]);. (refine(ok b u q).wJ (λ c v hc r=>k c v ?_ r) (λ c r=>by rw[aV (aa4 c b r)];exact r) λ c xs r=>by rw[aV (alj c xs r)];exact r);rcases hc with rfl|hc;(.exact eN);.rintro rfl;rcases he with z|z;(.exact aa4 c b hc z);.rw[bN hc z z,hb ag])
}
section z
section
variable{fs gN ex ex':nB}{H H1 H2:Hp}{h h1 h2 h':dP}{a x e:aI}{o:HO}
def z:={
Un.any(u:xP fs H1 h1){b:aI}{ob:Obj}(q:cE kO ob)(n:kh)(hx:b∉ex):∃sl,cE h1.get? {ob with kN:=sl}:=by by_cases hb:b∈fs;(.exact u.slot b ob q n hb hx);.exact #[ob.slots,u.keep b ob q n hb hx]
F!(k:A?):xP fs H h':=#[λ b ob q _ _ _=>k b ob q,λ b ob q _ _ _=>#[ob.slots,k b ob q],λ _ _ _ n _=>n,λ b ob q _=>#[ob,k b ob q],λ _ _ q=>q,λ _ _ _ q=>q,λ _ ps q=>#[td,by rw[q];simp]]
Un.refl:xP fs H h:=F! λ _ _ q=>q
}
def Un.laid(k:A?)(hp:KF)(hn:cw H a):xP fs x! h' where l4:=λ b u q _ _ _=>k b u q;slot:=λ b u q _ _ _=>#[u.slots,k b u q];jb:=(λ b u q n _=>by rw[aV (vo rE q hp)];exact n);there:=λ b u q _=>#[u,k b u q];pE:=eH xs q (by rw[aV yL];exact q);oa:=(λ b u xs q=>by rw[aV yL];exact q);o5:=eH ps q #[td,by rw[aV yL,q];simp]
def z:={
Un.write(mu:Df (H x))(he:e=x\/H e=Z uz)(k:HT (b≠e))(zx:∃u,CC e u):xP fs LZ h':=by have hx:∀b,kh->b≠x:=eH n z (by subst z;rw[n]at mu;exact mu);have hb:∀b,kh->b≠e:=eH n z (by subst z;rcases he with r|r;(.exact hx b n r);.rw[bN n r r]);(have hm:∀b u,mj H->¬Df Ex->b≠x:=λ b u q nm z=>by subst z;rw[q]at mu;exact nm mu);refine #[λ b u q n _ _=>k b u (hb b n) q,λ b u q n _ _=>#[u.slots,k b u (hb b n) q],λ b u q n _=>by rw[aV (hx b n)];exact n,λ b u q _=>?_,eH xs q (by rw[aV LH];exact q),λ b u xs q=>by rw[aV LH];exact q,eH ps q #[td,by rw[aV LH,q];simp]];by_cases eN:b=e;(.subst eN;exact zx);.exact #[u,k b u eN q]
}
section z
structure Cx where
 dk:dN
 w:dO
 K:cb
 mg:g5
 eU:dP
 A:c6
 N:e?
 iF:ay
 Cb:Hp
 env:Env
 d!:uh
 stack:uh
 ex:nB
 fn:aN->aL
 calm:aL
 pn:a?
 xe:bU
def z:={
Cx.fs.2(X:Cx):nB:=nY vx
mM.1(sc:vw)(x:aN):Prop:=Ig\/Bp\/Pr jb
Loc.1(sc:vw)(x:aN):Prop:=Ig\/Bp
Look.1(env:Env)(h:dP)(m:g5)(x:aN)(u:a!):Prop:=(Op x=Z .local/\m x=Z u)\/((Op x=Z EQ\/Hr Op)/\∃c,env.cells.lookup x=Z c/\h.IsCell c Ex)
}
structure Cx.Ok(X:Cx):Prop where
 mod:Mod bQ oR jc
 kind:V6=T7
 glob:V8=mainGlobals
 blt:X.env.builtins=builtinsNs
 above:vZ fX
 inj:∀x y c,jG->V_ y=Z c->bG
 has:∀x,(Os x=Z EQ\/Hr Os)->∃c,jG
 CQ:∀x c,pr X.fn->jG->vZ c
 hd:wl->X.A.handled=ak
 frames:X.A.frames=Z kP
 FR:kP=vx\/(kP=dl::vx/\X.env.frame=Z fX)
 F1:j4 rj (m6/\∀x c,jG->c≠b)
 bs:iM o wN (IY/\cw X.Cb b)
 pL:X.base.objs.size<=V9
 C1:iM o wN (b∉rj)
 yF:j4 rj Eb
 mH:V' jc vx
 uA:j4 jd cw X.Cb b
structure Inv(X:Cx)(ae:a?)(σ:bA cC V)(H:Hp)(s:ay):Prop where
 ok:X.Ok
 os:s.os=X.iF.os
 bare:D9 s.gens
 eU:Un jd rj X.Cb H X.iF.heap dn
 loc:∃m,RR/\∀(i:Y)(x:aN)(v:V),pV->ck σ mQ->Aa mM->∃u,ii/\Look dl dn m x u
 cell:∀x c,jG->∃v,SL
 jb:cw H fX
 kY:∀x c,jG->cw H c
 pin:ub p Rz p.1 v p.2.fU
 aR:dM oS X.w H dn
 len:Ot=X.N.length
section
variable{X:Cx}{ae:a?}{σ:bA cC V}{H H':Hp}{s:ay}{h':dP}
def z:={
Cx.Ok.agi(ok:X.Ok){b:aI}{o:Obj}(e:wN):Eb:=λ hb=>by have:=(ok.mH.mem hb).1;rw[bN e al al]
Inv.bs(I:av):iM o wN (mW/\kh):=eH o e #[V! b o SK Ta.2 (I.ok.agi e) S7,F? b o SK Ta.2 S7]
Inv.bk(I:av):iM o wN mW:=eH o e A8 I.bs
Inv.mod(I:av):Mod bQ oR jc:=I.ok.mod
Inv.jE(I:av):X.K.In dn:=I.ok.mod.ya.keeps I.bk
Inv.fr(I:av):∃m,Fr jc fX dn m:=let#[m,hn,_]:=ff;#[m,hn,I.bk,QZ]
Inv.lt(I:av):fX<d?:=let#[_,hn,_]:=ff;hn.lt
Inv.sz(I:av):vZ d?:=oE vy (Fk I.lt)
Inv.aHO(I:av){a:aI}(h:Ss):a∉jd:=λ hb=>by rw[<-iR (V? hb) λ _ o ho _=>?_,wE rE ho (oE I.sz h)]
Inv.xA(I:av):∀x c,jG->c≠fX:=λ x c e z=>by refine df CY λ v o ho hd=>?_;refine ah ff kr m cJ (gC cJ λ o' es ep jh jo _=>?_);rw[z,jh]at ho;cases ho;rw[bN jo hd hd]
Inv.mH(I:av):RS vx:=by(have all:∀(l:uh),(∀b∈nY l,b∈jd)->V' jc l->Wa jc l:=by intro l;induction l with|bt=>intro _ _;trivial|aQ env r ih=>intro hs hl;refine bX hl λ hk dw hr=>fW dw λ L o hf hn ho hd=>?_;have hL:L∈jd:=hs L (by rw[Ic nY hf,FI]);rw[s? sl (Wb L o ho (I.ok.uA L hL) hL gj (I.ok.yF L z hL)),#[hk,(i5 L _ hf hn e hd),ih (λ b hb=>hs b (by rw[Ic nY hf,wF hb])) hr]]);exact all vx (λ _ hb=>hb) I.ok.mH
Inv.stack(I:av):RS kP:=by rcases I.ok.FR with e|⟨e,hf⟩;(.rw[dB e I.mH]);.rw[e];refine ah ff kr m hn ?_;refine eP (by rw[je];decide) hf hn ?_ I.mH;exact Heap.get?_none_of_le QZ
Inv.Ox(I:av):∀b∈DM,b∈fX::jd:=λ b hb=>by rcases I.ok.FR with e|⟨e,hf⟩;(.rw[e]at hb;rw[wF hb]);.rw[e]at hb;unfold nY at hb;rw[y',hf]at hb;exact hb
Inv.W_(I:av):∀b∈DM,kh:=λ b hb=>by rcases eD jY I.Ox with e|hb;(.rw[dB e jj]);.refine iR (V? hb) λ _ o ho _=>?_;exact F? b o ho jY I.ok.uA gj (I.ok.yF b z hb)
Inv.step(I:av)(pG:j4 ch (BB/\m6/\Be/\ub p sD b))(l4:∀b o,m6->Eb->yr->mW->kh->J7)(slot:∀b o,m6->b∈jd->yr->mW->kh->∃sl,cE ri {o with kN:=sl})(jb:∀b o,yr->mW->kh->AQ)(there:∀b o,yr->mW->∃o',cE ri o')(pE:iM xs cE H nQ cE H' nQ)(oa:∀b o u,cE H (.iU o u)->cE H' (.iU o u))(o5:iM ps cE H (.v9 ps) (∃more,cE H' (.v9 (ps++more))))(ns:∀m,RR->h'.Ns fX m)(aR:k0 dM H' h')(hg:D9 g'):f6 H' {s with l5:=h',gens:=g',drawn:=d',oW:=t'}:=by have Tv:iM o IY m6:=eH o e (vo rE e vy);((have DX:∀b o,IY->b∉rj->yr:=λ b o e hx hb=>by rcases(jY pG).1 with z|z;(.exact hx z);.rw[wE rE e z]);have cellK:∀x c,jG->∀v,SL->h'.IsCell c v:=λ x c e v bx=>ah bx λ o ho hd=>by have B3:c∉ch:=gj ((pG c z).2.2.1 x c e ag);by_cases hc:c∈jd;(.obtain⟨sl,q⟩:=slot c o (I.xA x c e) hc B3 ho LE;exact pt q hd);.exact aW o (l4 c o (I.xA x c e) hc B3 ho LE) hd);(refine #[I.ok,rk,hg,#[λ b o e n hb hx=>?_,λ b o e n hb hx=>?_,λ b o e n hx=>?_,λ b o e hx=>?_,eH xs e (pE b xs (I.base.pE b xs e)),λ b o xs e=>oa b o xs (I.base.oa b o xs e),ar b ps e],?_,ar x c e,?_,ar x c e,cr p hp,aR,o0];(.exact l4 b o (Tv b o e) hb Dh IC Jw);.rw[ld sl IB];obtain⟨sl',e2⟩:=slot b _ (Tv b o e) hb Dh e1 Jw;exact #[sl',e2]);(((.rw[ld o' BC,jb b o' Dh e1 Jw]);.rw[ld o' BC,there b o' Dh e1]);(.rw[ld m1 (I.base.o5 b ps e)];obtain⟨m2,e2⟩:=o5 b _ e1;exact #[m1++m2,by rw[e2,Array.append_assoc]]);.rw[sT ff m hn,<-aW m (ns m hn) L' i x v,<-ah (hl i x v e1 e2 e3) ar u r l,<-aW u r ?_];rcases l with l|⟨k,c,e,z⟩;(.rw[k7 l]);.rw[nv (eF k c e (cellK x c e _ z))]);((.obtain⟨v,z⟩:=CY;exact #[v,cellK x c e v z]);.refine ah ff kr m d7 (lG d7 λ o _ _ ho _=>?_);exact jb _ o k8 ((pG _ z).2.1 ag) ho jj);(.refine df CY λ v o ho hd=>?_;exact jb c o k8 ((pG c z).2.2.1 x c e ag) ho LE);.refine gJ DI λ e n ne nf d=>?_;have B3:p.1∉ch:=gj ((pG p.1 z).2.2.2 p hp ag);exact(jN (l4 p.1 p.2 ne nf B3 e n) (jb p.1 p.2 B3 e n) ne nf d)
Inv.un(I:av)(u:Un jd [] H H' dn h')(aR:k0 dM H' h'):f6 H' wL:=by refine ah (id ff) kr m fM (lG fM D' o ho r);obtain⟨sl,hL⟩:=u.any ho jj aM;exact I.step (g':=s.gens) (d':=s.drawn) (ch:=[]) n5 z (nomatch z) (λ b o _ hb _ e n=>kW u.keep n hb aM) (λ b o _ hb _ e n=>kW u.slot n hb aM) (λ b o _ e n=>u.free b o e n aM) (λ b o _ e=>kW u.there aM) u.pE u.oa u.o5 (λ m' hm=>by rw[<-lG hm λ o' NZ Nm jh r'=>?_,bN ho jh jh,(uJ _ NZ Nm hL r')]) aR l6
Inv.call(I:av)(u:Un DM ch H H' dn h')(aR:k0 dM H' h')(hg:D9 g')(pG:j4 ch (BB/\m6/\Be/\ub p sD b)):f6 H' {s with l5:=h',gens:=g',drawn:=d',oW:=t'}:=by refine ah (id ff) kr m iS (lG iS D' o ho r);obtain⟨sl,hL⟩:=u.any ho jj gj ((pG _ z).2.1 ag);exact I.step (ch:=ch) pG (λ b o hL hb hc e n=>kW u.keep n k8 (pI No (I.Ox b z) hL hb) hc) (λ b o _ _ hc e n=>u.any e n hc) (λ b o hc e n=>u.free b o e n hc) (λ b o hc e=>kW u.there hc) u.pE u.oa u.o5 (λ m' hm=>by rw[<-lG hm λ o' NZ Nm jh r'=>?_,bN ho jh jh,(uJ _ NZ Nm hL r')]) aR hg
Inv.turned(I:av)(k:∀b o,b≠it->mW->J7)(hn:cw H it)(hL:it≠fX)(h1:it∈rj\/vZ it)(h2:∀x c,jG->c≠it)(h3:ub p sD it):iB wL:=by(have X2:iM u mj H (b≠it):=λ b u e z=>by rw[z,hn]at e;cases e);(refine I.step (g':=s.gens) (d':=s.drawn) (ch:=[it]) Ec (λ b o _ _ hc e _=>K1 k hc z) (λ b o _ _ hc e _=>#[o.slots,K1 k hc z]) (λ _ _ _ _ n=>n) (λ b o hc e=>#[o,K1 k hc z]) (λ _ _ e=>e) (λ _ _ _ e=>e) (λ b ps e=>#[td,by rw[e];simp]) pA m hm hV b u e l6;(.rw[wa b it,(fH h1 hL h2 h3)]);.refine lG hm D' o ho r;exact(uJ o es ep (k _ o (Gb hL) ho) r));.refine(fZ b u e).wJ (λ c v hc q=>k c v ?_ q) MM λ _ _ q=>q;rcases hc with z|z;(.rw[z];exact X2 b u e);.exact X2 c _ z
Inv.tok(I:av)(t:Y):iB {s with oW:=t}:=I.un (h':=dn) (t':=t) Un.refl fZ
Inv.kept{t':Y}(I:av)(k:Qb):iB wL:=I.un (F! k) (I.aR.kept k)
Inv.laid{a:aI}{o:HO}{t':Y}(I:av)(k:Qb)(hp:Ss)(new:k0 fu x! h' a o):f6 x! wL:=I.un (Un.laid k hp (Oy hp)) (I.aR.laid k hp new)
Inv.write{x e:aI}{o:HO}{t':Y}(I:av)(mu:Df (H x))(he:e=x\/H e=Z uz)(k:∀b u,b≠e->mj rc->z6)(zx:∃u,CC e u)(new:k0 fu LZ h' x o):f6 LZ wL:=I.un (Un.write mu he k zx) (I.aR.write mu he k zx new)
Inv.weak{bI:bA cC V}(I:av)(hl:σ'.length=Ot)(w:∀(i:Y)v,ck bI mQ->ck σ mQ):l! bI H s:=#[I.ok,rk,l6,Gd,let#[m,hn,dZ]:=ff;(aW m hn λ i x v e1 e2 e3=>dZ i x v e1 (w i v e2) e3),oT,jj,oY,zJ,fZ,hl.trans o0]
Inv.XZ{Q1:a?}(I:av)(h:∀p∈Q1,Rz p.1 v p.2.fU):Inv X Q1 σ H s:=#[I.ok,rk,l6,Gd,ff,oT,jj,oY,λ p hp=>Rx hp k8 GZ IT z (h p),fZ,o0]
NA(hN:N.Nodup){x:aN}(a:ck N x)(b:N[j]?=Z x):i=j:=by rw[ld h1 (y4 a),wt h2 e2 b,(List.getElem_inj hN).mp (e1.trans e2.symm)]
aeY{A:c6}{E:bU}{x:aN}{v:V}{u:a!}{Q:wU}(I:av)(hN:zL)(hi:pV)(hx:w5)(r:ii)(h:∀s',l! Ky H s'->(∃a,OA a dn Ge/\(a=fX\/Pi a))->Q () s')(hf:ww):gW M (OB dl x u) Q:=by refine ah (id ff) ar m hn hl;((have aDK:(Sz .class||(Sz .module&&fX !=V8))=false:=by rw[je];rfl);have Sm:i<Ot:=by rw[o0];exact(y4 hi).1);have xA:=I.xA;(have OC:∀{a:aI}{h':dP},(∃o,rc a=Z o/\cw H a)->OA a dn h'->dM oS X.w H h':=λ{a h'}ha hs b ob e=>by refine ah ha λ _ _ zD=>?_;refine(fZ b ob e).wJ (λ c w' hc q=>nP (hs.2 c ?_) q) MM λ _ _ q=>q;rintro rfl;rcases hc with rfl|hc;(.rw[bN zD e e]);.rw[bN zD hc hc]);rcases hx with hk|hk;(.refine wpAny_storeName_local hk hn hV h' uV hs aDK;refine lG (id hn) λ oL _ _ hoL _=>?_;(refine h _ #[I.ok,rk,l6,R0,pt uV L' j y v',ar y c e,jj,oY,cr p hp,OC aW oL hoL jj hs,by simpa using o0] pt hs pf;(.exact(su vy).u3 IC);.rw[ld sl IB,#[sl,nP su vy e1]]);((.rw[ld o' BC,#[o',nP su vy e1]]);.by_cases hj:j=i;(.subst hj;rw[bN hi e1 e1];rw[RV Sm]at e2;cases e2;exact aW u r eV #[hk,fC]);.rw[Qg (hl j y v' e1) u' q];rcases q with⟨k,e⟩|⟨k,c,e,z⟩;(.refine .inl #[k,?_];have:y≠x:=λ e=>hj (NA hN e1 (e▸hi));simp[al,e]);.rw[nv (eF k c e (z.sameBut hs (xA y c e)))]);(.obtain⟨w',z⟩:=oT y c e;exact #[w',z.sameBut hs (xA y c e)]);.refine gJ DI λ e n ne nf d=>?_;exact(jN yi (hs.2 p.1 ne) e n ne nf d));. (have JZ:pr X.fn:=by rcases hf with z|z;(.exact z);.rw[bN z hk hk]);obtain⟨c,hc⟩:=I.ok.has x eV hk;obtain⟨w',z⟩:=oT x c hc;refine wpAny_storeName_cell je hk hc z hV h' uL hs;refine ah (id z) ar oc hoc avw;(refine h tE #[I.ok,rk,l6,R0,aW m (hn.sameBut hs (Gb (xA x c hc))) L' j y v',ar y c' e,jj,oY,cr p hp,OC aW oc hoc (oY x c hc) hs,by simpa using o0] aW c hs iZ hc;(.exact(su KQ).u3 IC);.rw[ld sl IB,#[sl,nP su KQ e1]]);((.rw[ld o' BC,#[o',nP su KQ e1]]);.by_cases hj:j=i;(.subst hj;rw[bN hi e1 e1];rw[RV Sm]at e2;cases e2;exact aW u r iZ (eF eV hk c hc uL));.rw[Qg (hl j y v' e1) u' q];rcases q with q|⟨k,c',e,z'⟩;(.rw[k7 q]);.refine .inr (eF k c' e (z'.sameBut hs ?_));rintro rfl;exact hj (NA hN e1 (I.ok.inj _ _ _ e hc▸hi)));(.by_cases rQ:c'=c;(.subst rQ;exact #[_,uL]);.obtain⟨w2,z2⟩:=oT y c' e;exact #[w2,z2.sameBut hs rQ]);.refine gJ DI λ e n ne nf d=>?_;refine(jN yi (hs.2 p.1 ?_) e n ne nf d);intro q;rw[q,hoc]at e;have q':oc=p.2:=y7 e;exact d w' (by rw[<-q'];exact avw)
LY{A:c6}{E:bU}{x:aN}{v:V}{u:a!}{Q:wU}(I:av)(hN:zL)(hi:pV)(hx:w5)(r:ii)(h:∀s',l! Ky H s'->Q () s')(hf:ww):gW M (OB dl x u) Q:=aeY I hN hi hx r (λ s' I' _=>h s' I') hf
Inv.afJ{s':ay}(I:av)(ho:s'.os=s.os)(u:Un DM ch H H' dn Ge)(aR:k0 dM H' Ge)(hg:D9 s'.gens)(pG:j4 ch (BB/\m6/\Be/\ub p sD b)):wR:=by obtain⟨h',g',d',t',o'⟩:=s';have e:o'=s.os:=ho;subst e;exact I.call (g':=g') (t':=t') (d':=d') u aR hg pG
}
section z
def z:={
St.2:=bA cC V
TE.2:=St->v1
TT.2:=St->Hp->kq (aL->lw)
TA.2:=St->Hp->kq (cl->lw)
}
structure l7 where
 nx:k1
 rt:VK
 bk:k1:=λ _ _=>kA
 ct:k1:=λ _ _=>kA
def z:={
TS.2:=l7->k1
EP.1(X:Cx)(ae:a?)(σ:St)(Q:VK)(u:a!)(s':ay):Prop:=∃v H',wR/\ii/\Q v H'
TP.1(X:Cx)(ae:a?)(σ:St)(Q:Ct)(b:aL)(s':ay):Prop:=∃H',wR/\Q b H'
AP.1(X:Cx)(ae:a?)(σ:St)(Q:cl->lw)(us:cq)(s':ay):Prop:=∃vs H',wR/\yd/\Q vs H'
SP.1(X:Cx)(ae:a?)(D:l7)(f:Flow)(s':ay):Prop:=match f with|.im=>sG H' v3 rl|.brk=>sG H' v3 D.bk|.l8=>sG H' v3 D.ct|.ret u=>∃v bI H',l! bI H' s'/\ii/\D.rt v H'
PE.1(X:Cx)(e:bC)(t:TE):Prop:=∀(ae:a?)(s:ay)(σ:St)(H:Hp)(Q:VK),av->gH t Q->mR mw
PT.1(X:Cx)(e:bC)(t:TT):Prop:=∀(ae:a?)(s:ay)(σ:St)(H:Hp)(Q:Ct),av->gH t Q->f' (Gf e dl mw) rs TP
PW.1(X:Cx)(e:bC)(t:TT):Prop:=∀(rm:Af)(ae:a?)(s:ay)(σ:St)(H:Hp)(Q:Ct),av->gH t Q->f' (Gf e dl rm) rs TP
PA.1(X:Cx)(es:lu)(t:TA):Prop:=∀(aY:cT)(ae:a?)(s:ay)(σ:St)(H:Hp)(Q:cl->lw),av->gH t Q->f' (spliced GG) rs AP
PS.1(X:Cx)(st:Stmt)(t:TS):Prop:=∀(ae:a?)(s:ay)(σ:St)(H:Hp)(D:l7),av->t D σ H->f' l? exec st (SP X ae D)
ic.1(X:Cx)(st:xX)(t:TS):Prop:=∀(ae:a?)(s:ay)(σ:St)(H:Hp)(D:l7),av->t D σ H->f' l? execs st (SP X ae D)
bf{t:Sem α}{Q Q':zU α}{A:c6}{E:bU}{s:ay}(h:gW M t Q)(hQ:∀a s,Q a s->Q' a s):gW M t Q':=OH h hQ λ _ _ x=>x
}
section
variable{X:Cx}
def z:={
sN.1(i:Y):TE:=λ σ H Q=>∃v,ck σ mQ/\Q v H
tC.1(v:V):TE:=λ _ H Q=>Q v H
Co{x:aN}{aY:cT}(hN:pV)(hv:Aa mM)(hd:jU)(h_:Pj (x==("__classdict__":aN))):bd xC (sN i):=by rw[ft];obtain⟨v,e,h⟩:=h;rw[sT ff m hn,<-ah (hl i x v hN e hv) ar u r l];have fin:Cy u s:=xZ v I r;rcases l with⟨hk,hm⟩|⟨hk,c,hc,Fn⟩;(.rw[JI (Wd je hk hn hm fin)]);.rcases hk with hk|hk;(.rw[JI (We je hk hc Fn fin)]);.rw[JI (wpAny_loadName_free je hk hc Fn fin h_)]
kb{i j aY}:bd iG Constant uy j (tC uy):=λ _ _ _ H _ I h=>wpAny_Constant_int xZ uy mx k3
Ap{b j aY}:bd iG Constant (.ra b) j (tC sn b):=λ _ _ _ H _ I h=>Constant_bool xZ sn b I ag
Gl.1(X:Cx)(x:aN):Prop:=Os x=Z .globalImplicit
C7{E:bU}{ae:a?}{s:ay}{σ:St}{H:Hp}{x:aN}{u:a!}{aY:cT}(I:av)(hg:lB)(hm:tI u)(h:Q u s)(hd:jU):pc ez xC Q E:=Wh je hg (Calls.loadGlobal_global (by rw[I.ok.glob];exact Wi I.bk) hm h) hd
yb{E:bU}{ae:a?}{s:ay}{σ:St}{H:Hp}{x:aN}{u:a!}{aY:cT}(I:av)(hg:lB)(hm:Lj)(hv:Jp u)(h:Q u s)(hn:IP x)(hd:jU):pc ez xC Q E:=by refine ah I.mod.blt ar mb h1 h2;exact Wh je hg (Calls.loadGlobal_builtin (by rw[I.ok.glob];exact Wi I.bk) hm (by rw[I.ok.blt];exact h1.keeps I.bk) yi (h2 x hn) hv h) hd
aeS{x:aN}{v:V}{u:a!}{aY:cT}(hg:lB)(hm:tI u)(r:ii)(hd:jU):bd xC (tC v):=λ _ _ _ H _ I h=>sx C7 xZ v I r hd
}
variable{a b:bC}{ta tb:TE}{aY:cT}
def z:={
PC.1(X:Cx)(op:CmpOp)(a b:bC)(t:TE):Prop:=∀(ae:a?)(s:ay)(σ:St)(H:Hp)(Q:VK),av->gH t Q->P3 u (vu op v u) Cy
ad1(b:bC)(h:op≠.In)(h2:op≠.NotIn):IR:=by((have e1:ug op CmpOp.In:=by cases op<;>first|rfl|rw[lj h]);have e2:ug op CmpOp.NotIn:=by cases op<;>first|rfl|rw[lj h2]);cases b<;>simp[Wj,e1,e2]
gz(h:oP:=by first|exact ad1 _ cD cD|rfl):oP:=h
tB.1(t:TE):TT:=ju t x (∃c,x=.bl c/\Q c H1)
aDi{t:TE}(h:PC X op a b t)(h1:Qs):bd BN t:=λ ae s σ H Q I hw=>Wk (fi h Q I hw) h1
So{t:TE}(h:PC X op a b t)(h1:Qs):PT X BN (tB t):=by rw[jm H Q hw,<-Wn (bf (fi h _ I hw) λ v s1 h1=>bf h1 λ u s2 h2=>bf h2 λ c s3 lH=>aO lH pv) h1];(rw[dA (ah q1 ar d jC q) jC]);cases r1;rw[wA H1 I1 q]
abB{e:bC}{t:TE}(h:bd e t)(he:Ji (∀rm,Gf e dl rm=SJ v e.pos v)):PT X e (tB t):=by rw[jm H Q hw,<-Wo (bf (fi h _ I hw) λ v s1 oi=>aO oi pv) (he _)];(rw[dA (ah q1 ar d ml q) ml]);cases r1;rw[wA H1 I1 q]
}
variable{tA GV:TT}{i8:lu}
def z:={
atc.1(t u:TT):TT:=ju t c pU c fG u Q (Q fS H1)
tOr.1(t u:TT):TT:=ju t c pU c (Q au H1) fG u Q
apG.1(t:TT):TT:=ju t c (Q (!c) H1)
aBH(ha:PT X a tA):sV And [a] tA:=by intro wh ae s σ H Q I h;refine isTrue_and (bf (fi ha Q I h) ar c s1 e);cases c with|au=>exact isTrue_and_nil e|false=>exact e
aGf(ha:PT X a tA):sV Or [a] tA:=by intro wh ae s σ H Q I h;refine isTrue_or (bf (fi ha Q I h) ar c s1 e);cases c with|false=>exact isTrue_or_nil e|au=>exact e
aqx(ha:PT X a tA)(hb:sV And Eo GV):sV And Es (atc tA GV):=by intro wh ae s σ H Q I h;refine isTrue_and (fo ha λ c s1 vn=>ah vn ar H1 I1 q1);cases c with|au=>exact hb wh ae s1 σ H1 Q I1 q1|false=>exact aW H1 I1 q1
anz(ha:PT X a tA)(hb:sV Or Eo GV):sV Or Es (tOr tA GV):=by intro wh ae s σ H Q I h;refine isTrue_or (fo ha λ c s1 C9=>ah C9 ar H1 I1 q1);cases c with|au=>exact aW H1 I1 q1|false=>exact hb wh ae s1 σ H1 Q I1 q1
afC(ha:PT X a tA):PT X ST (apG tA):=by rw[ft,isTrue_not (fi ha (λ c H1=>Q (!c) H1) I h)]
aLk.1(ta tb:TE):TE:=k? x (∃c,x=.bl c/\pU c fG tb Q e7 bl fS H1)
aKv.1(ta tb:TE):TE:=k? x (∃c,x=.bl c/\pU c e7 bl au H1 fG tb Q)
ani.1(ta:TE):TE:=k? x (∃c,x=.bl c/\e7 bl (!c) H1)
ahp{op}{t:TE}(h:bd a t):bd rM op [a] t:=λ ae s σ H Q I hw=>BoolOp_one (fi h Q I hw)
aKK(ha:ib)(hb:bd rM .And Eo tb):bd rM .And Es (aLk ta tb):=by rw[HF BoolOp_and AM AM,Bt];cases c with|au=>exact r! Q I1 q1|false=>exact KH fS H1 q1
aHY(ha:ib)(hb:bd rM .Or Eo tb):bd rM .Or Es (aKv ta tb):=by rw[HF BoolOp_or aFb aFb,Bt];cases c with|false=>exact r! Q I1 q1|au=>exact KH au H1 q1
amn(ha:ib):bd ST (ani ta):=by rw[HF UnaryOp_ aEN aEN,not_of (OI KH (!c) H1 q1)]
tIf.1(t:TT)(ta tb:TE):TE:=ju t c pU c fG ta Q fG tb Q
ao5{c:bC}(hc:PT X c tA)(ha:ib)(hb:qd):bd (.IfExp c a b aY) (tIf tA ta tb):=by rw[ft,<-wpAny_IfExp (fo hc λ d s1 awh=>ah awh ar H1 I1 q1)];cases d with|au=>exact mm ha Q I1 q1|false=>exact r! Q I1 q1
}
section z
def z:={
azp.1:a!->cC V|kS=>Z .cB|.ra b=>Z (.bl b)|pu i _=>Z uy|.str x _=>Z (.str x)|.bytes b _=>Z (.jg b)|.float b _=>Z (.rH b)|.cS a=>Z vU|.type n=>Z (.ty n)|_=>ak
RelV.abs{x:V}{u:a!}(r:nH):azp u=Z x:=by cases x with|cB=>cases r;rfl|bl _=>cases r;rfl|cR _=>rw[jq r];rfl|str _=>rw[jq r];rfl|jg _=>rw[jq r];rfl|rH _=>rw[jq r];rfl|cS _=>cases r;rfl|ty _=>cases r;rfl
RelV.inj{x y:V}{u:a!}(r:nH)(q:rq y):bG:=y7 (r.abs.symm.trans q.abs)
bO.inj{xs:cl}{us:cq}(h:sh):∀{ys:cl},bO ys us->xs=ys:=by induction h with|bt=>intro ys h;rw[bo];rfl|aQ r t ih=>intro ys h;cases h with|aQ r' t'=>rw[r.inj r',ih t']
}
section
variable{X:Cx}{ae:a?}{σ:St}{H:Hp}{s:ay}{a:aI}{xs ys:cl}
def z:={
aJ.of{K:cb}(h:H a=Z nQ):tU:=.inl eV h
Inv.list(I:av)(h:Db aC):∃aF:cq,bO xs aF/\PlainL dn a OK/\Hk:=by rcases h with h|⟨o,aF,n,hk,hc,hd,hs,hz,r⟩;(.refine xH (h.ok fZ) λ z aF n r e=>?_;exact(aZ aF r (i5 _ n e ag ag ag) z));.refine(aZ aF.toList r (i5 o n (l9 a o hk) hc hd dv hs) ?_);have e:=lK;rw[QW e,y_ e hz]
Inv.tuple(I:av)(h:Db aJ):∃aF:cq,bO xs aF/\IsTup dn a OK/\Hk:=by rcases h with h|⟨o,aF,n,hk,hc,hs,hz,r⟩;(.refine iR (h.ok fZ) λ z aF r p=>?_;exact(aZ aF r p z));.refine(aZ aF.toList r (Hn o (l9 a o hk) hc n dv hs) ?_);have e:=lK;rw[QW e,y_ e hz]
Inv.aGu(I:av)(h:Db aC)(h':aC bQ H a ys):xs=ys:=by rw[iJ zO h λ aF r kK _=>fW kK λ o n e _ _ d=>?_];rw[iJ zO h' λ its' r' jx _=>fW jx λ o' n' e' _ _ d'=>?_];rw[bN e e' e'];rw[d]at d';rw[QX _ (aF=its') r']
Inv.aid(I:av)(h:Db aJ)(h':aJ bQ H a ys):xs=ys:=by rw[iJ vz h λ aF r kd _=>xN kd λ o e _ n d=>?_];rw[iJ vz h' λ its' r' kj _=>xN kj λ o' e' _ n' d'=>?_];rw[bN e e' e'];rw[d]at d';rw[QX _ (aF=its') r']
}
section z
def z:={
Cx.pB.2(X:Cx)(E:bU):Cx:={X with xe:=E}
Cx.ja.2(X:Cx):Cx:=X.pB λ _ _=>kA
Cx.Ok.pB{X:Cx}(ok:X.Ok)(E:bU):(X.pB E).Ok:=#[ok.mod,ok.kind,ok.glob,ok.blt,ok.above,ok.inj,ok.has,ok.CQ,ok.hd,ok.frames,ok.FR,ok.F1,ok.bs,ok.pL,ok.C1,ok.yF,ok.mH,ok.uA]
Cx.Ok.tL{X:Cx}{E:bU}(ok:(X.pB E).Ok):X.Ok:=#[ok.mod,ok.kind,ok.glob,ok.blt,ok.above,ok.inj,ok.has,ok.CQ,ok.hd,ok.frames,ok.FR,ok.F1,ok.bs,ok.pL,ok.C1,ok.yF,ok.mH,ok.uA]
}
section
variable{X:Cx}{ae:a?}{σ:St}{H:Hp}{s:ay}{E:bU}
def z:={
Inv.pB(I:av)(E:bU):Inv MN ae σ H s:=#[I.ok.pB E,rk,l6,Gd,ff,oT,jj,oY,zJ,fZ,o0]
Inv.tL(I:Inv MN ae σ H s):av:=#[I.ok.tL,rk,l6,Gd,ff,oT,jj,oY,zJ,fZ,o0]
SP.tL{D:l7}{f:Flow}{s':ay}(h:SP MN ae D f s'):SP X ae D f s':=by cases f with|im=>rw[HZ h I q]|brk=>rw[HZ h I q]|l8=>rw[HZ h I q]|ret u=>refine gC h λ v bI H' I r q=>?_;exact(lP v bI H' I.tL r q)
ic.ja{st:xX}{t:TS}(h:ic X.ja st t):ic X st t:=λ ae s σ H D I hw=>OH (fi h D (I.pB _) hw) (λ _ _ q=>q.tL) λ _ _ z=>False.elim z
}
section z
section
variable{X:Cx}{st:Stmt}{i8:xX}{t u:TS}{e:bC}{te:TE}{aY:cT}
def z:={
R9.1:TS:=λ D σ H=>rl σ H
ph.1(t u:TS):TS:=λ D σ H=>t {D with nx:=u D} σ H
dg:ic X [] R9:=λ _ _ σ H _ I h=>Wp (cF σ H I h)
aP(h1:PS X st t)(h2:ic X i8 u):ic X (st::i8) (ph t u):=by rw[hT,<-Wq (bf (fi h1 {D with nx:=u D} I h) ar f s1 q)];cases f with|im=>obtain⟨bI,H',I',q⟩:=q;exact h2 ae s1 bI H' D I' q|ret v=>exact q|brk=>exact q|l8=>exact q
cH(h1:PS X st t):ic X [st] t:=by rw[hT,<-Wq (bf (fi h1 D I h) ar f s1 q)];cases f with|im=>rw[Jh q]|ret v=>exact q|brk=>exact q|l8=>exact q
Inv.quiet{ae:a?}{σ:St}{H:Hp}{s:ay}(I:av):iL Wr dl:=by simp[Wr,je]
aia.1(te:TE):TS:=λ D σ H=>gH te λ _ H1=>vS H1
lI(he:qe)(hs:H8 ON e ak):PS X (.bC e aY) (aia te):=by rw[hT,wpAny_Expr_any Bb ahF ahF p8 (cF σ H1 I1 q1) I.quiet hs]
alP.1(te:TE):TS:=λ D σ H=>gH te D.rt
dD(he:qe):PS X (.Return yy aY) (alP te):=by rw[hT,wpAny_Return_some Bb aGN aGN p8 (lP x σ H1 I1 r1 q1)]
ai4.1(c:TT)(t u:TS):TS:=wX c b pU b (t D σ H1) (u D σ H1)
iw{c:bC}{a b:xX}{tc:TT}(hc:PT X c tc)(ha:ic X a t)(hb:ic X b u):PS X (.If c a b aY) (ai4 tc t u):=by rw[hT,<-wpAny_If (fo hc λ d s1 as5=>ah as5 ar H1 I1 q1)];cases d with|au=>exact mm ha D I1 q1|false=>exact r! D I1 q1
}
section z
def z:={
TG.2:=V->St->Hp->kq (St->lw)
vW.2:=cl->St->Hp->kq (St->lw)
PG.1(X:Cx)(target:bC)(t:TG):Prop:=∀(ae:a?)(s:ay)(σ:St)(H:Hp)(v:V)(u:a!)(Q:k1),av->ii->t v σ H Q->f' (Gh target dl u) n5 s' sG H' (Q bI H')
Ft.1(X:Cx)(ts:lu)(t:vW):Prop:=∀(ae:a?)(s:ay)(σ:St)(H:Hp)(vs:cl)(us:cq)(Q:k1),av->yd->t vs σ H Q->f' (assignInOrder ((AF ts).bz (·.2)) us) n5 s' sG H' (Q bI H')
J1.2:=V->V->V->Hp->kq (Hp->Prop)
S4.1(X:Cx)(t:J1):Prop:=∀(ae:a?)(s:ay)(σ:St)(H:Hp)(o i v:V)(ov iv u:a!)(Q:lw),av->RelV o ov->RelV i iv->ii->t o i v H Q->f' (setItem ov iv u) n5 s' (∃H',wR/\Q H')
G'.2:=V->V->ci Hp VK
FU.1(X:Cx)(op:zP)(t:G'):Prop:=∀(ae:a?)(s:ay)(σ:St)(H:Hp)(x y:V)(v u:a!)(Q:VK),av->rC v->rq y->t x y H Q->mR (OO op v u)
}
section
variable{X:Cx}{aY:cT}
def z:={
dF.1(i:Y):TG:=k_ v σ (Q Ky H)
cz{x:aN}(hN:zL)(hi:pV)(hx:w5)(hf:ww):PG X xC (dF i):=by intro ae s σ H v u Q I r h;exact wpAny_assign_Name (LY I hN hi hx r (λ s' I'=>(cF _ H I' h)) hf)
aHP.1:vW:=k_ vs σ (vs=[]/\Q σ H)
aAx.1(t:TG)(u:vW):vW:=k_ vs σ (∃v r,vs=v::r/\t v σ H λ bI H'=>u r bI H' Q)
axT:Ft X [] aHP:=by intro ae s σ H vs us Q I r h;rw[w8 e h];subst e;cases r;exact assignInOrder_nil (cF σ H I h)
FT{e:bC}{es:lu}{t:TG}{u:vW}(h1:PG X e t)(h2:Ft X es u)(hs:jy ((AF gM).bz (·.2)) (l? Gh e::g! JF ((·.2)))):Ft X gM (aAx t u):=by intro ae s σ H vs us Q I r h;obtain⟨v,vr,e1,h⟩:=h;subst e1;cases r with|aQ r rr=>rw[hs];refine assignInOrder_cons (bf (fi h1 _ _ _ I r h) λ _ s1 ajL=>df ajL λ σ1 H1 I1 q1=>?_);exact h2 ae s1 σ1 H1 _ _ Q I1 rr q1
aMv.1(K:cb)(n:Y)(t:vW):TG:=k_ v σ (∃a xs,v=.cS a/\tU/\fe=n/\t xs σ H Q)
aoY{es:lu}{k:Y}{t:vW}(hc:wl)(h:Ft X es t)(hn:zV ((JF).Fc=n))(bw:zV ((JF).findIdx? (·.1)=ak)):PG X iG Tuple es k (aMv bQ n t):=by intro ae s σ H v u Q I r hw;obtain⟨a,xs,e1,hq,hl,hw⟩:=hw;subst e1;cases r;obtain⟨aF,rv,ht,hz⟩:=vz hq;refine assign_Tuple_tuple xW ht (by simp[hn,<-hl,OP]) bw cr h' hx;have I1:iB tE:=Ac I.kept eH o e (hx b o (vo (On e)) e);exact gG h _ H xs _ Q I1 dv rv hw
ar0.1(to ti:TE)(t:J1):TG:=k_ v σ mc to o fG ti λ i H2=>t o i v H2 λ H3=>Q σ H3
WG{o i:bC}{to ti:TE}{t:J1}(ho:bd o to)(hi:bd i ti)(hs:S4 X t)(ha:Ji (∀v,Gh iG Subscript o i dl v=(do let ov<-zN [v] KY;let iv<-zN [v,ov] ez i;OJ aY;zN [v,ov,iv] (setItem ov iv v);release [v,ov,iv] []))):PG X iG Subscript o i (ar0 to ti t):=by intro ae s σ H v u Q I r h;rw[ha];refine tf OQ (fo ho λ ov s1 al2=>aO al2 pv);refine tf OQ (bf (mm hi _ I1 q1) T? iv agj agj);refine tf wpAny_standAt tf OQ (bf (gG hs s2 H2 x y v ov iv u _ I2 r1 r2 r q2) λ _ s3 at4=>ah at4 ar H3 I3 q3);exact wpAny_release (cF σ H3 I3 q3)
MX.1(te:TE)(g:TG):TS:=wX te x (g x σ H1 rl)
X7{tg e:bC}{te:TE}(he:qe)(hg:PG X tg g)(hs:H8 swapsWithSole [tg] e)(hw:jy (swappedStores [tg] e dl) (pure ak))(h1:jy ((AF [tg]).bz (·.2)) [l? Gh tg]):PS X iG Assign [tg] e (MX te g):=by rw[hT,<-wpAny_Assign_stores Bb aqJ aqJ pv hs hw];rw[h1];exact bf JE hg v _ λ _ s2 q=>q
b7{x:aN}{e:bC}{te:TE}{pos':cT}(hN:zL)(hi:pV)(hx:w5)(he:qe)(hs:H8 ON e Z K0)(hf:ww):PS X iG Assign [K0] e (MX te (dF i)):=by rw[hT,<-wpAny_Assign_Name Bb aAo aAo vJ y hs,LY I1 hN hi hx r1 (λ s2 I2=>(cF _ H1 I2 q1)) hf]
aCP.1(i:Y)(te:TE)(ti:G'):TS:=λ D σ H=>∃x,ck σ Z x/\mc te y (ti x y H1 λ z H2=>rl (σ.set i Z z) H2)
Iq{x:aN}{e:bC}{te:TE}{op:zP}{ti:G'}{pos':cT}(hN:zL)(hi:pV)(hx:w5)(he:qe)(ho:FU X op ti)(hf:ww):RJ K0 e (aCP i te ti):=by rw[hT];obtain⟨v,e1,h⟩:=h;rw[sT ff m hn];(have vis:Aa mM:=by rcases hx with k|k;rw[k7 k,nv eV k]);refine ah (hl i x v hi e1 vis) ar u r l;refine wpAny_AugAssign_Name ?_;(have go:f' mw (λ w s₂=>py (OO op u w) (λ r s₃=>py (OB dl x r) (λ _=>SP X ae D .im) s₃) s₂):=by refine bf (fi he _ I h) λ w s1 aAf=>aO aAf vJ y;refine bf (mm ho v y u w _ I1 r r1 q1) λ z s2 aEk=>aO aEk λ zv H2 I2 r2 q2=>?_;exact LY I2 hN hi hx r2 (λ s3 I3=>(cF _ H2 I3 q2)) hf);rcases l with⟨hk,hm⟩|⟨hk,c,hc,Fn⟩;(.exact Wd je hk hn hm go);.rcases hk with hk|hk;(.exact We je hk hc Fn go);.rcases hx with k|k;(.have:Qx:=hk;rw[bN k al al]);.have:Qx:=hk;rw[bN k al al]
NG.1(f:KP):G':=J! i j e7 cR (f i j) H
pN:FU X .Add (NG mr (i+j)):=by intro ae s σ H x y v u Q I r1 r2 h;refine aO h Ej e1 e2 q;subst e1;subst e2;rw[jq r1,zW r2,iadd_int sX _]
wK:FU X .Sub (NG mr (i - j)):=by intro ae s σ H x y v u Q I r1 r2 h;refine aO h Ej e1 e2 q;subst e1;subst e2;rw[jq r1,zW r2,isub_int sX _]
}
section z
section
variable{X:Cx}{aY:cT}
def z:={
aEU.1(c:TT)(tb:TS):TS:=λ D σ H=>∃W:BV,(∃m,W m σ H)/\∀m σ H,W m σ H->mc c b pU b (∃N:k1,(∀bI H',v3 N->∃m',m'<m/\W m' bI H')/\tb Pt D N N σ H1) vS H1
oQ{c:bC}{tc:TT}{tb:TS}(hp:PassesOwn pb X.A dl o1)(hc:PT X c tc)(hb:ic X rg tb):PS X (.While c rg [] aY) (aEU tc tb):=by rw[hT,<-ah h λ W lZ turn=>cG lZ cr m0 w0,<-wpAny_While (codeAny_whileLoop (λ n s'=>sG H' (W n bI H')) ?_ m0 (cF σ H I w0))];rintro n s1⟨σ1,H1,I1,w1⟩;rw[wM hp (bf (hc ae s1 σ1 H1 _ I1 (turn n σ1 H1 w1)) λ b s2 aKc=>ah aKc ar H2 I2 q2)];cases b with|au=>(obtain⟨N,hN,q2⟩:=q2;rw[ao ag];rw[wM hp (bf (hb ae s2 σ1 H2 _ I2 q2) ar f s3 q3)];cases f with|im=>refine df q3 λ σ3 H3 I3 n3=>?_;refine ah (hN σ3 H3 n3) ar m' hm w3;exact #[m',hm,σ3,H3,I3,w3]|l8=>refine df q3 λ σ3 H3 I3 n3=>?_;refine ah (hN σ3 H3 n3) ar m' hm w3;exact #[m',hm,σ3,H3,I3,w3]|brk=>exact q3|ret v=>exact q3)|false=>rw[aj OS];rw[Jh (cF σ1 H2 I2 q2)]
}
section z
structure It where
 go:mi Y
 o_:Y->Hp->ci V Hp
 rf:mi Y
def z:={
oU.1(X:Cx)(ae:a?)(H:Hp)(b:aI):Prop:=kh/\m6/\Eb/\BB/\Be/\ub p sD b
Inv.Cc{X:Cx}{ae:a?}{σ:St}{H H':Hp}{s:ay}{b:aI}(I:av)(hb:d?<=b)(hn:AQ):oU X ae H' b:=by refine(Fu hn (Nat.ne_of_gt (y? I.lt hb)) (I.aHO hb) iZ (oE I.sz hb) (λ x c e z=>?_) hV p hp z);(.obtain⟨v,q⟩:=CY;rw[wE (y? q.lt (by rw[dB z hb]))]);.rw[wE rE DI.1 (by rw[dB z hb])]
}
structure Turn(P:dN)(w:dO)(K:cb)(tg:bC)(J:It)(fp:nB)(it:aI)(tn:ci Y dP):Prop where
 mem:it∈fp
 obj:∀i h,tn i h->Sq o Kp v
 l4:∀i h h',tn i h->At (∀o,Kp->J7)->tn i h'
 item:Su X P (∀(i:Y)(ae:a?)(s:ay)(σ:St)(H:Hp)(E:bU),QF (J.go i H) X.A (λ r s1=>∃u,r=Z u/\i! A5 X.A (OT tg A_ u) n5 s2 (∃x H',f6 H' s2/\nH/\J.o_ i H x H'/\tn bD s2.heap/\j4 fp AQ) E s1))
 done:Su X P (∀(i:Y)(ae:a?)(s:ay)(σ:St)(H:Hp)(E:bU),QF (J.stop i H) X.A (λ r s1=>r=ak/\iB s1))
 self:∀(A:c6)(i:Y)(s:ay)(Q:bU)(E:bU),tn i dn->e7 cS it s->gW A5 (pyIter A_) Q
def z:={
TI.2:=St->Hp->kq (It->lw)
OG.1(X:Cx)(ae:a?)(σ:St)(tg:bC)(R:mi It)(IF:a!)(s2:ay):Prop:=∃(it:aI)(fp:nB)(tn:ci Y dP)(J:It)(H':Hp),IF=.cS it/\f6 H' s2/\k0 Turn bQ tg J fp it tn/\tn 0 s2.heap/\At (oU X ae H' b)/\R J H'
PI.1(X:Cx)(tg iter:bC)(wi:TI):Prop:=∀(ae:a?)(s:ay)(σ:St)(H:Hp)(R:mi It),av->gH wi R->f' ez iter (λ v s1=>py (pyIter v) (OG X ae σ tg R) s1)
E8{A:c6}{E:bU}{s:ay}{tg:bC}{u:a!}{o:Obj}{n:String}{vs:Do}{Q:wU}(ho:GK it o)(hc:o.cls=.type n)(hd:o.data=.zI vs)(hn:["enumerate","zip","dict_itemiterator","dict_reverseitemiterator","odict_iterator","itertools.zip_longest","itertools.pairwise"].F5 n=false)(hQ:Q () s):gW M (OT tg A_ u) Q:=by unfold OT;cases tg<;>first|rw[B1 hQ]|(cases u<;>first|rw[B1 hQ]|(refine re (wpAny_load ho ?_);rw[hc,hd];show gW M Kk (["enumerate","zip","dict_itemiterator","dict_reverseitemiterator","odict_iterator","itertools.zip_longest","itertools.pairwise"].F5 n&&vs[0]?==Z (zG _)) _ _ Q;rw[aj (by intro h;rw[hn,Oh]at h;rw[bo])];rw[B1 hQ]))
uR.1(K:cb)(a:aI):It:=R? (∃xs x,De/\so) De De
tm.1(K:cb)(a:aI):It:=R? (∃xs x,tU/\so) tU tU
p7.1(lo:ad)(n:Y):It:=#[λ i _=>i<n,λ i H x H'=>H'=H/\x=eX M',λ i _=>n<=i]
}
def anR{P:dN}{w:dO}{K:cb}{tg:bC}(a it:aI):KT yw h (h.IsListIter it a i)where mem:=fC;obj:=(λ i h st b hb=>by rw[wa b it,<-bL st λ o e c d=>?_,(aW o e λ v z=>by rw[bN d z z])]);l4:=λ i h h' st k=>st.at λ o e=>k it aM o e;item:=(by intro X hP hw hK hc i ae s σ H E I hf st hg;subst hP hw hK;rw[<-df hg λ xs x hq hx=>?_,P_ zO wpAny_pyNext_list_item OU];have I1:iB tE:=G6 nP jY sb.2 e;rw[iJ id jL λ o e c d=>?_];exact aW u ag (E8 (s:=tE) e c d cD JK x ru #[rfl,λ ys hy=>by rw[I.aGu hy hq];exact hx]));done:=(by intro X hP hw hK hc i ae s σ H E I hf st hg;subst hP hw hK;rw[<-ah hg ar xs hq hx,wc zO rv p,wj f1 f4 f5];have hl:=OP;exact wpAny_pyNext_list_end xW st OU (by simp;exact Cv hl hx) λ h' eb=>HH (eb b o hb e));self:=λ _ _ _ _ _ st h=>wpAny_pyIter_listiter st h
def aIH{P:dN}{w:dO}{K:cb}{tg:bC}(a it:aI):KT yv h (h.IsTupleIter it a i)where mem:=fC;obj:=(λ i h st b hb=>by rw[wa b it,<-bL st λ o e c d=>?_,(aW o e λ v z=>by rw[bN d z z])]);l4:=λ i h h' st k=>st.at λ o e=>k it aM o e;item:=(by intro X hP hw hK hc i ae s σ H E I hf st hg;subst hP hw hK;rw[<-df hg λ xs x hq hx=>?_,P_ vz wpAny_pyNext_tuple_item QE];have I1:iB tE:=G6 nP jY sb.2 e;rw[iJ id jL λ o e c d=>?_];exact aW u ag (E8 (s:=tE) e c d cD JK x ru #[rfl,λ ys hy=>by rw[I.aid hy hq];exact hx]));done:=(by intro X hP hw hK hc i ae s σ H E I hf st hg;subst hP hw hK;rw[<-ah hg ar xs hq hx,wc vz rv p,wj f1 f4 f5];have hl:=OP;exact wpAny_pyNext_tuple_end xW st QE (by simp;exact Cv hl hx) λ h' eb=>HH (eb b o hb e));self:=λ _ _ _ _ _ st h=>wpAny_pyIter_tupleiter st h
def auU{P:dN}{w:dO}{K:cb}{tg:bC}(it:aI)(lo:ad)(n:Y):KT EB h (Wt h it (lo+(i:Y)*1) (jO n - (i:Y)) 1)where mem:=fC;obj:=(λ i h st b hb=>by rw[wa b it,(pt st λ v z=>by have z':Data.fields _=Data.cell v:=z;cases z')]);l4:=λ i h h' st k=>k it aM _ st;item:=(by intro X hP hw hK hc i ae s σ H E I hf st hg;subst hP hw hK;rw[wj f1 f4 f5];have W:=Walks.range (dk:=oS) (w:=X.w) xW it lo 1 n;rw[<-W.item i s _ _ hg st λ v h' tk hv jL kk=>?_,jq hv];have I1:iB GM s h' tk:=Po I.turned (kk b o dv hb e) f4;refine pt ag (E8 (s:=GM s h' tk) (n:="range_iterator") jL ag ag cD JK (.cR M') #[t,?_] #[rfl,rfl]);rw[Int.mul_one]);done:=(by intro X hP hw hK hc i ae s σ H E I hf st hg;subst hP hw hK;rw[wj f1 f4 f5,wpAny_pyNext_range_end xW st (by have:n<=i:=hg;rw[ei Y2]) λ h' eb=>HH (eb b o hb e)]);self:=λ _ _ _ _ _ st h=>wpAny_pyIter_rangeiter st h
section
variable{X:Cx}{tg:bC}
def z:={
Dg.1(K:cb)(tl:TE):TI:=BE tl x (∃a,sv/\(∃xs,aC K H1 a xs)/\R yw H1)
VH.1(K:cb)(tl:TE):TI:=BE tl x (∃a,sv/\(∃xs,aJ K H1 a xs)/\R yv H1)
mf{tl:TE}(hl:bd l tl):PI X tg l (Dg bQ tl):=by rw[jm H R h,HG hl aiJ aiJ,<-bL q1 λ a e oC q=>cG oC cr xs hq];subst e;cases r1;rw[wc I1.list rv p,<-wpAny_pyIter_list OU ?_,<-(kX l_ ([l_]) _ _ H1 ag (Hq OV Bf) (anR a _) (aZ _ Bx ag ag) Ec q),P7]
BO{tl:TE}(hl:bd l tl):PI X tg l (VH bQ tl):=by rw[jm H R h,HG hl azA azA,<-bL q1 λ a e nU q=>cG nU cr xs hq];subst e;cases r1;rw[wc I1.tuple rv p,<-wpAny_pyIter_tuple (show PP s1.heap.IsTuple from p) ?_,<-(kX l_ ([l_]) _ _ H1 ag (Hq OV Bf) (aIH a _) (aZ _ Bx ag ag) Ec q),P7]
acY{ae:a?}{σ:St}{H:Hp}{s:ay}{R:mi It}{E:bU}{hi:ad}{t u v:Tok}{tk:Y}(I:av)(h1:EJ<=lo)(h2:lo<2^62)(h3:EJ<=hi)(h4:hi<2^62)(q:R (p7 lo rS E') H):i! pb X.A (pyIter ee d?) (OG X ae σ tg R) E {s with l5:=Hb,oW:=tk}:=by refine wpAny_pyIter_range (IsRange.new ..) (small_one h1 h2 h3 h4) ?_;have I1:iB {s with l5:=Hb,oW:=tk}:=I.kept Bf;refine(kX P5 ([P5]) _ _ H ag (OV (t':=tk) Bf) (auU _ lo rS E') ?_ Ec q);(. ((have e1:lo+DF*1=lo:=by simp);have e2:p_ GR E' - DF=Builtin.Range.rangeSize lo hi 1:=by rw[rangeSize_one];split<;>omega);show Wt _ _ (lo+DF*1) (((GR E':Y):ad) - DF) 1;rw[e1,e2];exact Gj _ ag);. (have e:b=(vB {cls:=zX "range",fU:=.zI (Oo [kU lo t,pu hi u,pu 1 v])}).objs.size:=by simpa using hb);subst e;exact I1.Cc (u8 _) AU
P4.1(ta:TA):TI:=BE ta vs (∃j:ad,vs=[.cR j]/\EJ<=j/\j<2^62/\R (p7 0 j.toNat) H1)
Mh.1(ta:TA):TI:=BE ta vs (∃i j:ad,vs=[uy,AS]/\(-(2^62)<=i/\i<2^62/\EJ<=j/\j<2^62)/\R (p7 i rS (j - i)) H1)
Av{a:bC}{ta:TA}{p aY:cT}(hg:Gl X "range")(hm:Tp oR)(ha:PA X [a] ta)(hs:jy pd [a] [(false,ez a)]):PI X tg fB (Gw "range" p) [a] (P4 ta):=by rw[jm H R h,<-Call_ sx yb boot_range (OW AA akG akG vJ vs hs ag)];obtain⟨j,e,q1,q2,q⟩:=q1;subst e;cases r1 with|aQ r rr=>cases rr;rw[jq r,call_range_1 (acY I1 gr aLY gr ayZ q1 q2 dv q)]
C2{a b:bC}{ta:TA}{p aY:cT}(hg:Gl X "range")(hm:Tp oR)(ha:PA X [a,b] ta)(hs:jy pd [a,b] [(false,ez a),(false,ez b)])(dY:jy pd [b] [(false,ez b)]):PI X tg fB (Gw "range" p) [a,b] (Mh ta):=by rw[jm H R h,<-Call_ sx yb boot_range (OW AA awe awe vJ vs (by rw[hs,dY]) (by rw[dY];rfl))];obtain⟨i,j,e,⟨q1,q2,q3,q4⟩,q⟩:=q1;subst e;cases r1 with|aQ r rr=>cases rr with|aQ r' rr=>cases rr;rw[jq r,zW r',call_range_2 (acY I1 q1 q2 q3 q4 q)]
aGp.1(wi:TI)(g:TG)(tb:TS):TS:=wX wi J (∃W:Y->Y->ci St Hp,(∃m,W 0 m σ H1)/\∀i m σ H,W i m σ H->(J.stop i H/\Ax)\/(J.go i H/\Py W H' J.o_))
An.1(fp:nB)(h:dP):a?:=fp.filterMap λ b=>(kO b).bz λ o=>(b,o)
Ja{h:dP}{b:aI}{o:Obj}(hb:b∈fp)(e:Kp):(b,o)∈An fp h:=List.mem_filterMap.mpr aW b hb (by rw[e];rfl)
aHv{h:dP}{p:aI×Obj}(hp:p∈An fp h):p.1∈fp/\kO p.1=Z p.2:=by refine ah (List.mem_filterMap.mp hp) ar b hb e;cases q:kO b with|ak=>rw[bN q e e]|ca o=>rw[q]at e;have e':(b,o)=p:=y7 e;subst e';exact #[hb,q]
Inv.pinned{ae:a?}{σ:St}{H:Hp}{s:ay}(I:av)(hf:j4 fp (oU X ae H b))(ho:Sq o mW v):Inv X (ae++An fp dn) σ H s:=I.XZ λ p hp=>Rx hp k8 GZ pJ z gj (by obtain⟨hb,e⟩:=aHv z;rw[<-dm (hf p.1 hb) λ f0 f1 f2 _=>?_,<-ah (ho p.1 hb) ar o e' d,bN e e' e',(jN e f0 f1 f2 d)])
Inv.Gc{ae pl:a?}{σ:St}{H:Hp}{s:ay}(I:Inv X (ae++pl) σ H s):av:=I.XZ λ p hp=>zJ p pJ IT hp
iy{iter:bC}{wi:TI}{tb:TS}{aY:cT}(hp:PassesOwn pb X.A dl o1)(hc:wl)(hi:PI X tg iter wi)(hg:PG X tg g)(hb:ic X rg tb)(hs:Ji (∀x,foldedSetIterable iter dl x=pure x)):PS X (.For tg iter rg [] aY) (aGp wi g tb):=by rw[hT,<-wpAny_For (fo hi λ v s1 h1=>bf h1 ar IF s2 h2) hs];obtain⟨it,fp,tn,J,H2,e,I2,T,sQ,f2,W,⟨m0,w0⟩,turn⟩:=h2;subst e;have uT:∀{H':Hp},JG->j4 fp (oU X ae H' b):=λ hn b hb=>#[jY hn,(jY f2).2];refine codeAny_forLoop_any (λ n s'=>∃i bI H',l! bI H' s'/\tn i Ge/\JG/\W i n bI H') ?_ m0 (b9 0 σ H2 I2 sQ (λ b hb=>(jY f2).1) w0);rintro n s3⟨i,σ3,H3,I3,yt,fr3,w3⟩;rcases turn i n σ3 H3 w3 with⟨rf,qn⟩|⟨go,N,hN,step⟩;(.refine OR hp (bf (T.done X ag ag ag hc i ae s3 σ3 H3 o1 I3 (uT fr3) yt rf) λ r s4 aBl=>bq aBl cr hr I4);subst hr;rw[Jh (cF σ3 H3 I4 qn)]);.refine OR hp (bf (T.item X ag ag ag hc i ae s3 σ3 H3 o1 I3 (uT fr3) yt go) λ r s4 anj=>ah anj ar u hr h4);subst hr;rw[wM hp (bf h4 λ _ s5 ajM=>wy ajM λ x H5 I5 r5 y5 tP fr5=>?_)];have I5':=I5.pinned (uT fr5) eG T.obj tP;rw[wM hp (bf (hg _ s5 σ3 H5 x u _ I5' r5 (step x H5 y5)) λ _ s6 ahb=>df ahb λ σ6 H6 I6 q6=>?_),wM hp (bf (hb _ s6 σ6 H6 _ I6 q6) ar f s7 q7)];(have again:∀{σ7:St}{H7:Hp},Inv X (ae++An fp s5.heap) σ7 H7 s7->N σ7 H7->∃m,m<n/\∃i bI H',l! bI H' s7/\tn i s7.heap/\JG/\W i m bI H':=λ{σ7 H7}I7 n7=>by refine ah (hN σ7 H7 n7) ar m' hm w7;refine #[m',hm,db,σ7,H7,I7.Gc,T.keep _ _ _ tP λ b hb o e=>(I7.pin (b,o) pJ pJ (Ja hb e)).1,cr b hb,w7];refine ah (T.obj _ _ tP b hb) ar o e d;exact(I7.pin (b,o) pJ pJ (Ja hb e)).2.1);cases f with|im=>refine df q7 λ σ7 H7 I7 n7=>?_;exact again I7 n7|l8=>refine df q7 λ σ7 H7 I7 n7=>?_;exact again I7 n7|brk=>obtain⟨σ7,H7,I7,q7⟩:=q7;exact(cF σ7 H7 I7.Gc q7)|ret v=>obtain⟨x7,σ7,H7,I7,r7,q7⟩:=q7;exact(lP x7 σ7 H7 I7.Gc r7 q7)
}
section z
def z:={
uD{K:cb}{a:aI}{xs:cl}{tb:TS}{D:l7}{σ:St}{H:Hp}(Pv:BV)(h0:Pv 0 σ H)(hl:JS H C3 De)(hs:∀i x σ H,so->Aj->g x σ H Am σ2 tb Jc D nx bk)(hd:QI):Hs yw yw yw:=by rw[Jj fe C3 fe,JC i m H];have q:=hl i σ H hi p;by_cases a8:i<fe;(.rw[PZ q x p]);.rw[Ip fe aW xs q gh p]
OL{K:cb}{a:aI}{xs:cl}{tb:TS}{D:l7}{σ:St}{H:Hp}(Pv:BV)(h0:Pv 0 σ H)(hl:JS H C3 tU)(hs:∀i x σ H,so->Aj->g x σ H Am σ2 tb Jc D nx bk)(hd:QI):Hs yv yv yv:=by rw[Jj fe C3 fe,JC i m H];have q:=hl i σ H hi p;by_cases a8:i<fe;(.rw[PZ q x p]);.rw[Ip fe aW xs q gh p]
FW{tb:TS}{D:l7}{σ:St}{H:Hp}(Pv:BV)(h0:Pv 0 σ H)(hs:JS H (i<n) (g (.cR M') σ H Am σ2 tb Jc D nx bk))(hd:∀σ H,Pv n σ H->Ax):Hs EB EB EB:=by rw[Jj n (i<=n) n,JC i m H];by_cases a8:i<n;(.refine .inr (eF a8 Ab (λ bI H' p'=>(fF (n - bD) bm p6 a8 ag a8 p')) hV x H' y);obtain⟨e,y⟩:=y;subst e y;exact hs i σ _ a8 p);.rw[Ip n gh p]
R2.2:=V->V->ci Hp VK
de.1(X:Cx)(f:xl)(r:R2):Prop:=∀(ae:a?)(s:ay)(σ:St)(H:Hp)(x y:V)(v u:a!)(Q:VK),av->rC v->rq y->r x y H Q->mR M0
Mq.1(X:Cx)(f:a!->Af)(r:Cl):Prop:=∀(ae:a?)(s:ay)(σ:St)(H:Hp)(x:V)(v:a!)(Q:VK),av->rC v->r x H Q->mR (f v)
ki.1(X:Cx)(f:a!)(r:cl->v1):Prop:=∀(ae:a?)(s:ay)(σ:St)(H:Hp)(xs:cl)(us:cq)(Q:VK),av->sh->r xs H Q->mR (call f us)
aJt.1(X:Cx)(r:V->Hp->kq (aL->lw)):Prop:=∀(ae:a?)(s:ay)(σ:St)(H:Hp)(x:V)(v:a!)(Q:Ct),av->rC v->r x H Q->f' (truthy v) rs TP
EF.1(r:R2)(ta tb:TE):TE:=k? x fG tb mv y (r x y H2 Q)
tUn.1(r:Cl)(ta:TE):TE:=k? x (r x H1 Q)
rI.1(C:ci ad ad)(g:ad->ad->V):R2:=k_ x y (∃i j,x=eX i/\y=AS/\C i j/\Q i0 H)
jK.1(g:ad->ad->V):R2:=J! i j (Q i0 H)
rU.1(g:ad->V):Cl:=λ x H Q=>∃i,x=eX i/\Q (g i) H
}
section
variable{X:Cx}{a b c:bC}{ta tb tc:TE}{aY:cT}
def z:={
LO(ha:ib)(hb:qd){ae:a?}{s:ay}{σ:St}{H:Hp}{R:V->mi V}(I:av)(h:mc ta x fG tb mv y (R x y H2)){f:xl}(hf:∀v u s2 x y H2,f6 H2 s2->rC v->rq y->R x y H2->py M0 Q s2):P3 u M0 Q:=by rw[HG ha aJk aJk,<-bf (r! _ I1 q1) T? u aly aly,hf v u s2 x y H2 I2 r1 r2 q2]
Dc{op:zP}{r:R2}(ho:js (OX op) r)(ha:ib)(hb:qd):bd (.BinOp a op b aY) MH:=by rw[ft,wpAny_BinOp (LO ha hb I h λ v u s2 x y H2 I2 rx ry q=>gG ho s2 H2 x y v u Q I2 rx ry q)]
ajo{op:UnaryOp}{r:Cl}(ho:Mq X (unaryOp op) r)(ha:ib):bd (PU op a aY) (tUn r ta):=by rw[ft,UnaryOp_ rY aEZ aEZ p8 JE ho v Q]
E2{f:xl}{C:ci ad ad}{g:KP}(o2:∀(i j:ad)(t u:Tok)(s:ay)(Q:bU)(E:bU),C i j->Q (kU i0 vA) p9->pc LF Q E):js f (rI C mr eX i0):=by intro ae s σ H x y v u Q I rx ry h;(refine fW h λ i j nJ wB hc q=>?_;subst nJ wB);rw[g4,jt,o2 i j t t' s _ _ hc sX i0]
Ek{f:xl}{g:KP}(o2:∀(i j:ad)(t u:Tok)(s:ay)(Q:bU)(E:bU),Q (kU i0 vA) p9->pc LF Q E):js f (jK mr eX i0):=by intro ae s σ H x y v u Q I rx ry h;(refine aO h Ej xp u0 q;subst xp u0);rw[g4,jt,o2 i j t t' s _ _ sX i0]
Ib{f:xl}{g:ad->ad->aL}(o2:∀(i j:ad)(t u:Tok)(s:ay)(Q:bU)(E:bU),e7 ra i0 s->pc LF Q E):js f (jK mr (.bl i0)):=by intro ae s σ H x y v u Q I rx ry h;(refine aO h Ej B0 Jx q;subst B0 Jx);rw[g4,jt,o2 i j t t' s _ _ (aE sn i0 H I ag q)]
aLJ.1(i j:ad):Prop:=0<j/\To
PB.1(i j:ad):Prop:=(-(2^64)<i/\i<2^64)\/(-(2^64)<j/\j<2^64)
PB.ok{i j:ad}(h:PB i j):IntMulOk i j:=by rcases h with⟨h1,h2⟩|⟨h1,h2⟩;(.exact .of_left Sw);.exact .of_right Sw
aIz(k:Y):Mm<=2^k:=by rw[two_pow_cast];exact Int.natCast_nonneg _
bV:Bn Add eX Nb:=Ek λ _ _ _ _ _ _ _ q=>add_int q
cW:Bn Sub eX (i - j):=Ek λ _ _ _ _ _ _ _ q=>sub_int q
apf:BA Mult PB (i*j):=E2 λ _ _ _ _ _ _ _ hc q=>mul_int q hc.ok
r_:BA FloorDiv aLJ (i/j):=E2 λ i j _ _ _ _ _ hc q=>by have h1:Mm<j:=hc.1;have h2:To:=hc.2;exact floordiv_int tY adY (by rw[Qn tY Wu]) eV (PyProof.noPylong_small (by omega))
vj:BA Mod n5 j (0<j) (i%j):=E2 λ i j _ _ _ _ _ hc q=>by have h1:Mm<j:=hc;exact mod_int' bm adY hc (by rw[Int.fmod_eq_emod_of_nonneg i bm Wu hc];exact q)
GB:BA RShift n5 j (0<=j) (i/2^j.toNat):=E2 λ i j _ _ _ _ _ hc q=>rshift_int hc (by rw[Qn (aIz _)])
uG:Bn BitAnd eX (Builtin.bitAnd i j):=Ek λ _ _ _ _ _ _ _ q=>and_int q
apr:Bn BitOr eX (Builtin.bitOr i j):=Ek λ _ _ _ _ _ _ _ q=>or_int q
unI{f:a!->Af}{g:ad->ad}(o2:∀(i:ad)(t:Tok)(s:ay)(Q:bU)(E:bU),Q (kU (g i) vA) p9->pc (f AR) Q E):Mq X f (rU λ i=>pu (g i)):=by intro ae s σ H x v Q I rx h;(rw[dA (ah h ar i Ks q) Ks]);rw[g4,o2 i t s _ _ sX (g i)]
aJm:Mq X (unaryOp .USub) (rU λ i=>eX (-i)):=unI λ _ _ _ _ _ q=>neg_int q
}
section z
def z:={
P6.1:V->V->aL|.cB,.cB=>au|.cB,uw=>au|uw,.cB=>au|.cB,uF=>au|uF,.cB=>au|.cB,n0=>au|n0,.cB=>au|uw,uw=>au|uF,uF=>au|n0,n0=>au|.jg _,.jg _=>au|uw,n0=>au|n0,uw=>au|uF,n0=>au|n0,uF=>au|_,_=>false
rEq.1:R2:=k_ x y (ap (P6 x y)/\e7 bl bn kx H)
rNe.1:R2:=k_ x y (ap (P6 x y)/\e7 bl (!bn kx) H)
UR{i j:ad}:bn (V.int i=V.int j)=(i==j):=by rw[I8]
aeZ{i j:aL}:bn (V.bl i=V.bl j)=(i==j):=by rw[I8]
XQ{i j:aN}:bn (V.str i=V.str j)=(i==j):=by rw[I8]
Zo{i j:Array UInt8}:bn (V.jg i=V.jg j)=(i.toList==j.toList):=by rw[ze];cases i;cases j;simp
}
section
variable{X:Cx}{a b c:bC}{ta tb tc:TE}{aY:cT}
def z:={
eT{ae:a?}{σ:St}{H:Hp}{s:ay}{Q:VK}{k k':aL}(I:av)(q:e7 bl k H)(e:k=k'):Cy (.ra k') s:=by subst e;exact(aE sn k H I ag q)
Sd:js (vu .Eq) rEq:=by intro ae s σ H x y v u Q I rx ry h;rw[w8 hs q];cases x with|cB=>(cases rx;cases y with|cB=>rw[g7 PySem.EqNone.eq_none_none]|bl j=>rw[g7 PySem.EqNone.eq_none_bool]|cR j=>rw[jW PySem.EqNone.eq_none_int]|str j=>rw[jW PySem.EqNone.eq_none_str]|_=>rw[g6])|bl i=>(cases rx;cases y with|cB=>rw[g7 PySem.EqNone.eq_bool_none]|bl j=>cases ry;rw[jp eq_bool I aeZ]|str j=>rw[jW PySem.EqMixed.eq_bool_str]|_=>rw[g6])|cR i=>(rw[g4];cases y with|cB=>rw[g7 PySem.EqNone.eq_int_none]|cR j=>rw[jt,jp eq_int I UR]|str j=>rw[jW PySem.EqMixed.eq_int_str]|_=>rw[g6])|str i=>(rw[g4];cases y with|cB=>rw[g7 PySem.EqNone.eq_str_none]|bl j=>rw[g7 PySem.EqMixed.eq_str_bool]|cR j=>rw[jW PySem.EqMixed.eq_str_int]|str j=>rw[jt,jp eq_str I XQ]|_=>rw[g6])|jg i=>(rw[g4];cases y with|jg j=>rw[jt,jp PySem.W.eq_bytes I Zo]|_=>rw[g6])|_=>cases y<;>rw[g6]
T':js (vu .NotEq) rNe:=by intro ae s σ H x y v u Q I rx ry h;rw[w8 hs q];cases x with|cB=>(cases rx;cases y with|cB=>rw[g7 PySem.EqNone.ne_none_none]|bl j=>rw[g7 PySem.EqNone.ne_none_bool]|cR j=>rw[jW PySem.EqNone.ne_none_int]|str j=>rw[jW PySem.EqNone.ne_none_str]|_=>rw[g6])|bl i=>(cases rx;cases y with|cB=>rw[g7 PySem.EqNone.ne_bool_none]|bl j=>cases ry;rw[jp ne_bool I CN aeZ]|str j=>rw[jW PySem.EqMixed.ne_bool_str]|_=>rw[g6])|cR i=>(rw[g4];cases y with|cB=>rw[g7 PySem.EqNone.ne_int_none]|cR j=>rw[jt,jp ne_int I CN UR]|str j=>rw[jW PySem.EqMixed.ne_int_str]|_=>rw[g6])|str i=>(rw[g4];cases y with|cB=>rw[g7 PySem.EqNone.ne_str_none]|bl j=>rw[g7 PySem.EqMixed.ne_str_bool]|cR j=>rw[jW PySem.EqMixed.ne_str_int]|str j=>rw[jt,jp ne_str I CN XQ]|_=>rw[g6])|jg i=>(rw[g4];cases y with|jg j=>rw[jt,jp PySem.W.ne_bytes I CN Zo]|_=>rw[g6])|_=>cases y<;>rw[g6]
cM:Bk Lt bl (i<j):=Ib λ _ _ _ _ _ _ _ q=>lt_int q
d5:Bk LtE bl (i<=j):=Ib λ _ _ _ _ _ _ _ q=>le_int q
gF:Bk Gt bl (j<i):=Ib λ _ _ _ _ _ _ _ q=>gt_int q
eL:Bk GtE bl (j<=i):=Ib λ _ _ _ _ _ _ _ q=>ge_int q
tF{r:R2}(ho:sU op r)(ha:ib)(hb:qd)(hm:IR):bd BN MH:=by rw[ft,Wk (LO ha hb I h λ v u s2 x y H2 I2 rx ry q=>gG ho s2 H2 x y v u Q I2 rx ry q) hm]
aa2.1(t:TE):TT:=λ σ H Q=>gH t λ x H'=>∃k,x=.bl k/\Q k H'
sF{r:R2}(ho:sU op r)(ha:ib)(hb:qd)(hm:IR):PT X BN (aa2 MH):=by rw[ft,<-Wn (rY aCE aCE p8 HW ax8 ax8 λ c s3 ahr=>i9 ahr λ z H3 I3 r3 k e q3=>?_) hm];subst e;cases r3;rw[wA H3 I3 q3]
Vp.1(r r':R2)(ta tb tc:TE):TE:=k? x fG tb mv y (r x y H2 λ z H3=>∃k,z=.bl k/\(if k=au then tc σ H3 λ w' H4=>r' y w' H4 Q else e7 bl fS H3))
akI{r:R2}(ho:sU op r)(jh:sU lY r')(ha:ib)(hb:qd)(hc:bd c tc)(hm:Rd (lastMarks EL EZ)):bd GW EL EZ (Vp r r' ta tb tc):=by rw[ft,<-Compare_chain rY ale ale p8 (chain_link (HW aKC aKC λ d s3 aDY=>i9 aDY λ z H3 I3 r3 k e q3=>?_)) hm];subst e;cases r3;rw[Bt];cases k with|false=>exact ite_ff (aE sn fS H3 I3 ag q3)|au=>exact ite_tt (chain_last Ui aAH aAH (gG jh s4 H4 y z' u w' Q I4 r2 r4 q4))
aof{r:R2}(ho:sU op r)(jh:sU lY r')(ha:ib)(hb:qd)(hc:bd c tc)(hm:Rd (lastMarks EL EZ)):PT X GW EL EZ (aa2 (Vp r r' ta tb tc)):=by rw[ft,<-isTrue_chain rY axu axu p8 (test_link (HW av7 av7 λ d s3 aFD=>i9 aFD λ z H3 I3 r3 k e q3=>?_)) hm];subst e;cases r3;rw[Bt];cases k with|false=>refine ah q3 ar k' e' q';cases e';exact ite_ff aW H3 I3 q'|au=>refine ite_tt (test_last Ui ai0 ai0 (bf (gG jh s4 H4 y z' u w' _ I4 r2 r4 q4) λ d' s5 atb=>i9 atb λ z2 H5 I5 r5 k2 e2 q5=>?_));subst e2;cases r5;rw[wA H5 I5 q5]
wW.1(K:cb)(x:V)(H:Hp)(k:aL):Prop:=match x with|.cB=>k=false|.bl b=>k=b|eX i=>k=(i !=0)|.str y=>rV oB/\k=(jO oB !=0)|.jg y=>rV Gk/\k=(jO Gk !=0)|.cS p=>QP K K p|_=>kA
avp{aq:jk κ V}{vs:jk κ a!}(r:KV aq vs):(!vs.isEmpty)=PR:=p5 r
Z1{xs:cl}{aF:cq}(r:bO xs aF):(!aF.toArray.isEmpty)=G?:=by cases r<;>simp
A4:(Gg:Y)<2^63:=by rw[OY];decide
abN:aJt X (λ x H Q=>∃k,wW bQ x H k/\Q k H):=by intro ae s σ H x v Q I rx h;refine ah h ar k e q;have hl:=A4;have hs:Gg=16777216:=OY;cases x with|cB=>cases rx;have e':k=false:=e;subst e';exact truthy_none aW H I q|bl b=>cases rx;have e':k=b:=e;subst e';rw[wA H I q]|cR i=>rw[g4];have e':k=(i !=0):=e;subst e';exact PySem.P.truthy_int aW H I q|str y=>rw[Qd oB oB e,PySem.P.truthy_str eO avY hy hs aW H mx q]|jg y=>rw[Qd Gk Gk e,PySem.W.truthy_bytes eO aFP hy hs aW H mx q]|cS p=>(cases rx;have e':QP bQ bQ p:=e;rcases e' with⟨xs,hx,e'⟩|⟨xs,hx,e'⟩|⟨aq,hx,e'⟩;((.rw[Qu zO r pl,wpAny_truthy_list pl.isList (by rw[Ro]) aW H mx (by rw[Z1 r];exact q)]);.rw[Qu vz r pl,truthy_tuple pl (by rw[Ro]) aW H mx (by rw[Z1 r];exact q)]);.subst e';obtain⟨hz,hS,vs,r,m⟩:rV aq.length/\ug p sysModules/\∃vs,KV aq vs/\s.heap.DictOf (gf oS X.w) p vs:=fZ p _ hx;have fO:aq.length=zQ:=V1 r;exact wpAny_truthy_dict hS m (by exact Ms hs fO hz) aW H mx (by rw[avp r];exact q))|_=>exact fI (show kA from e)
aho(ha:ib)(he:∀rm,Gf a dl rm=SJ v a.pos v):PT X a (λ σ H Q=>gH ta λ x H'=>∃k,wW bQ x H' k/\Q k H'):=by rw[ft,Wo rY avX avX p8 JE abN v Q (he _)]
vals1{x:V}(r:bO [x] us):∃u,us=[u]/\nH:=by cases r with|aQ r1 r2=>cases r2;rw[pO r1]
vals2{x:V}(r:bO [x,y] us):∃u w',us=[u,w']/\nH/\RelV y w':=by cases r with|aQ r1 r2=>cases r2 with|aQ r3 r4=>cases r4;exact(aE _ _ ag r1 r3)
aEd(hc:wl):ki X (GQ "max") (λ xs H Q=>∃i j,xs=[uy,AS]/\e7 cR (if j>i then j else i) H):=by intro ae s σ H xs us Q I r h;(rw[dA (df h λ i j Nn q=>?_) Nn]);(refine aO (vals2 r) λ u w' Mv Kc NV=>cG Kc λ t Nl=>cG NV cr t' Jy;subst Mv Nl Jy);refine max_two_ints (I.ok.hd hc) λ h' tk k=>(aE _ H (I.kept k) ?_ q);by_cases hj:j>i;(.rw[ao hj,ao hj];exact k3);.rw[aj hj,aj hj];exact k3
}
section z
structure uZ(h:dP)(x dx C:aI)(mA:g5):Prop where
 obj:kO x=Z GL C dx
 ns:h.Ns1 dx mA
 ne:dx≠x
def z:={
aMx{h:dP}{dx:aI}{mA:g5}(n:h.Ns1 dx mA):R' od (kO dx=Z od) od:=by refine LX n λ o es ep ho hd hk _ hm=>?_;refine(aW o ho λ dq=>?_);have e:=hm dq;unfold nsFind findBy at e;rw[<-Array.find?_toList]at e;rw[e9 O0 hd];dsimp only;split;(.rename_i y q;rw[q]at e;exact uU ca e);.rename_i q;rw[q]at e;((have a:iL Wv ((·.refKey)):=by rw[List.any_eq_false];intro y hy;refine gB (hk y (Array.mem_toList_iff.mp hy)) ar z t aA0;simp[DictEntry.refKey,aA0]);have a':¬ap (Wv (·.refKey)):=by rw[dB a OS]);rw[aj a'];exact uU ca e
uZ.look{h:dP}{x dx C:aI}{mA:g5}(I:uZ h x dx C mA):R' od (PySem.W.InstAt h x GL C dx C Z od) od:=let#[od,ho,hl]:=aMx I.ns;aW od #[I.obj,rfl,rfl,ho] hl
}
section
variable{dk:dN}{w:dO}{A:c6}{E:bU}{s:ay}{K:cb}{x dx C f:aI}{mA:g5}{dq:aN}{v:a!}
def z:={
get_map{expr:aL}(X:tW)(I:JL)(hg:ap RL)(hh:RE)(ha:I9 K dq ak)(hv:mA dq=Z v)(qj:R7 v)(h:Q v p9):HU O4 dq expr:=by rw[sT I.look od J,PySem.W.get_value X J RM hg (PySem.W.findObj_own hh ha ag (by rw[hl,hv])) qj h]
auQ{pl:ye}{Q:a!×cq->ay->Prop}(X:tW)(I:JL)(hg:ap RL)(hf:I9 K dq Z lx)(ht:ap (PySem.W.isFn K lx))(hv:cw mA dq)(h:Q (lx,[ee x]) s):HU O6 dq pl:=by rw[sT I.look od J,PySem.W.method_fn X J RM hg (Wx hg).2 hf SX ht (by show(O0 dq od).bz (·.isSome)=Z fS;rw[hl,hv];rfl) h]
akR{ns:e?}{Q:wU}(X:tW)(I:JL)(hs:O1 K my "__setattr__"=Z Z (GQ "object.__setattr__"))(hp:ap (PySem.W.plainOver K C))(ht:O7 K C dq=Z ak)(hh:RE)(hw:WA mA ns)(hsz:rV Om)(h:∀h',uZ h' x dx C (λ y=>if y=dq then mQ else mA y)->OA dx dn h'->Q () {s with l5:=h',oW:=vA+2}):HU setAttr dq v:=by rw[sT I.look od J,<-PySem.W.set_plain X J hs (PySem.W.osa_open (s:=p9) (r:=ak) X J hp ht yp b),<-ah (PySem.W.any_some hh) ar cd hc jo];have hx:rc x=Z #[my,Z dx,.plain,td]:=I.obj;refine tf Gi tf re (wpAny_loadPart hx (re (PySem.W.Looks.here (s:=p9) (PySem.W.looks_clsIn X hc) ?_)));rw[jo];rw[<-Gi (a:=Z dx) (re (Gi (re ?_))),<-wpAny_nsSet1 (s:=p9) I.ns ar h' UO dY,<-gC (UO.count (PySem.Within.cons dq v hw)) λ oD esD epD hoD hdD hcD=>?_,JU (wpAny_lookBehind hoD (by rw[hdD];exact pastItsLine_dict (oE hcD (by rw[gA];exact aaI hsz))) ?_),B1 (h _ #[yi (dY.2 _ (Gb I.ne)) I.obj,UO,I.ne] dY)]
aAl{R:zU Result}{vs:cq}(X:tW)(hm:ap (PySem.W.makesIn K C))(hi:O1 K my "__init__"=Z Z lx)(hf:PySem.W.typeIn K lx=Z (.type "function"))(h:codeAny mG (A.under (Ps #[my::vs,kw])) (.call (.cS f) #[ee jA::vs,kw]) (PySem.W.InitBack jA R) {s with l5:=Qi push}):codeAny mG A (.call (.cS C) #[vs,kw]) R s:=by obtain⟨hh,g,d,t,os⟩:=s;exact PySem.W.make_core (PySem.W.makes_of X hm) (PySem.W.looks_findIn X hi) (λ self=>PySem.W.bind_fn X self hf) pf h
}
section z
def z:={
bK.1(f:aN)(v:V):p4->p4|[]=>[(f,v)]|(g,x)::r=>if g=f then(g,v)::r else(g,x)::mD r
cX(f g:aN)(v:V):∀fs:p4,(DT).Gm g=if g=f then mQ else Gn g|[]=>by show Go g [(f,v)]=_;by_cases h:g=f;(.rw[HM ap (g==f) uk]);.rw[P' ug g f aj h]|ur x=>by have ih:=cX f g v r;rw[w! (mD ((k,x)::r)=(if k=f then ur v else uH::mD r))];by_cases hk:k=f;(.rw[ao hk];by_cases h:g=k;(.rw[HM ap (g==k) (lN (h.trans hk))]);.rw[P' ug g k (aj λ e:g=f=>h (e.trans F3))]);.rw[aj hk];by_cases h:g=k;(.rw[HM ap (g==k) (aj λ e:g=f=>hk (h.symm.trans e))]);.have hb:ug g k:=F4 h;simp only[Go,hb];exact ih
N6(f:aN)(v:V):∀fs:p4,f∈Lg DT/\∀g,g∈fs.map (·.1)->g∈Lg DT|[]=>#[FI,λ g h=>by rw[bo]]|ur x=>by obtain⟨i1,i2⟩:=N6 f v r;rw[w! (mD ((k,x)::r)=(if k=f then ur v else uH::mD r))];by_cases hk:k=f;(.rw[ao hk];subst hk;exact #[aM,λ g h=>by rw[jS]]);.rw[aj hk];refine #[?_,cr g h];(.rw[dL];rw[wF i1]);.rw[dL]at h⊢;rcases JN with e|e;(.exact List.mem_cons.mpr eV e);.rw[wF (i2 g e)]
DA(f:aN)(v:V):∀fs:p4,bp DT<=O9+1|[]=>gh|ur x=>by have ih:=DA f v r;rw[w! (mD ((k,x)::r)=(if k=f then ur v else uH::mD r))];by_cases hk:k=f;(.rw[ao hk,gA,gA];exact arl);.rw[aj hk,gA,gA];exact ajh ih
ji.some_of{v:V}{o:cC a!}(r:ji mQ o):∃u,o=Z u/\ii:=by cases o with|ak=>exact fI (show kA from r)|ca u=>exact aW u ag r
ji.none_of{o:cC a!}(r:ji ak o):o=ak:=by cases o with|ak=>rfl|ca u=>exact fI (show kA from r)
azP{v:V}{u:a!}(r:ii):R7 u:=by cases v with|cB=>cases ny (u=Value.none);rfl|bl b=>cases ny (u=Value.bool b);rfl|cR i=>rw[s? t ny (∃t,u=S9)];cases e;rfl|str x=>rw[s? t ny (∃t,u=Value.str x t)];cases e;rfl|jg b=>rw[s? t ny (∃t,u=Value.bytes b t)];cases e;rfl|rH b=>rw[s? t ny (∃t,u=Value.float b t)];cases e;rfl|cS a=>cases ny (u=Ar);rfl|ty n=>cases ny (u=Value.type n);rfl
}
section
variable{P:dN}{w:dO}{H H':Hp}{h h':dP}{a C dx:aI}{fs gN:p4}
def z:={
Og(aR:t_)(e:mP H):∃mA,uZ h a dx C mA/\(∀f,ji (Gn f) (mA f))/\WA mA (fs.map (·.1))/\O9<=1000/\H dx=Z Ew:=by obtain⟨d,z,ne,ob,mA,n,r,q⟩:=(show fu P w H h a vL fs from aR a _ e);exact(qQ mA #[ob,n,ne] r q z d)
}
section z
def z:={
dQ.get{K:cb}{C:aI}(c:dQ K C)(f:aN):ap (Ww K C f):=c.pg
cf.aGY{K:cb}{C:aI}{f:aN}(n:wv K):O7 K C f=Z ak:=by unfold O7;rw[show I9 K f ak from n];rfl
}
section
variable{X:Cx}{ae:a?}{σ:St}{H:Hp}{s:ay}{a C dx:aI}{fs:p4}{f:aN}{v:V}{A:c6}{E:bU}
def z:={
adk{b:aL}(I:av)(e:mP H)(c:um)(n:wv bQ)(l:PN f)(h:∀u s',iB s'->ii->Q u s'):H? (O4 vU f b) Q E:=by refine B6 (Og fZ e) λ mA O r _ _ _=>?_;refine ah (ji.some_of (v:=v) (o:=mA f) (by rw[<-l];exact r f)) ar u hu ru;exact get_map l9 O (c.get f) c.hd n hu (azP ru) (h u _ mx ru)
Kd{m:aN}{g:aI}{pl:ye}{Q:a!×cq->ay->Prop}(I:av)(e:mP H)(c:um)(k:mL bQ C m g)(l:Ki)(h:Q (ee g,ul) s):H? (O6 vU m pl) Q E:=by refine B6 (Og fZ e) λ mA O r _ _ _=>?_;have hn:cw mA m:=ji.none_of (by rw[<-l];exact r m);exact auQ l9 O (c.get m) k.at_ k.fn hn h
adj{u:a!}{Q:wU}(I:av)(e:mP H)(c:um)(n:wv bQ)(hl:SY)(ry:rq y)(h:∀s',f6 (upd H a vL L_) s'->Q () s'):H? (setAttr vU f u) Q E:=by refine B6 (Og fZ e) λ mA O r wi _ ho=>?_;(have hz:dy fs.map ((·.1))<=Gg:=by rw[qL,OY];exact af4 hl);refine akR l9 O c.sa c.po n.aGY c.hd wi hz λ h' O' sb=>h _ ?_;(have hd:∃o,CC dx o:=by obtain⟨o,_,_,e',_⟩:=O'.ns;exact #[o,e']);refine I.write (x:=a) (e:=dx) (by rw[dB e True.intro]) iZ ho (λ b q hb z=>nP jY sb.2 z) hd ?_;(refine #[by rw[aV O.ne];exact ho,?_,O.ne,O'.obj,_,O'.ns,yp g,cr g hg];(.rw[m3 (DA f y fs) oE hl]);.show ji ((L_).Gm g) (if g=f then Ex else mA g);rw[cX];by_cases q:g=f;(.rw[ao q,ao q];exact ry);.rw[aj q,aj q];exact r g);.by_cases q:g=f;(.rw[q];exact(N6 f y fs).1);.refine(N6 f y fs).2 g (wi g gj (hg ?_));show dR (if g=f then Ex else mA g);rw[aj q];exact z
Inv.made(I:av):f6 (upd (upd H d? z5 jA) jA (.ins C d? [])) {s with l5:=Qi push}:=by have e1:QU get? d?=Z vC:=Gj dn ag;(have e2:((Re).push AT).get? jA=Z AT:=by have:=Gj (vB vC) (o:=AT) ag;rwa[WB]at al);have e3:QU Ns d? (λ _=>ak):=(b9 vC (td) _ e1 ag (λ e he=>B2 he) (λ _=>rfl));have I1:=Ac (I.laid (a:=d?) (o:=.own jA) (h':=Re)) (λ b u q=>vT q) gh #[_,e1];refine Ac (I1.laid (a:=JM) (o:=.ins C d? [])) (λ b u q=>vT q) (Vg (WB _ _)) ?_;have ne:d?≠JM:=Sf;refine #[by rw[aV ne,aX],mE,ne,e2,LW,(Heap.Ns1.of_empty e3).at λ o q=>vT q,λ _=>True.intro,λ y hy=>qK ag hy]
aED{dk:dN}{w:dO}{env:Env}{e:bC}{f:aN}{aY:cT}{s:ay}(hb:WC e f env Mo=Mo)(h:gW mG Mo (λ o s₁=>i! mG A (O4 o f au) Q E s₁)):gW mG (eval iG O! e f env) Q:=Attribute_any_ h (by rw[arm_eval_Attribute,hb])
}
section z
def z:={
aAz.1(K:cb)(ta:TE)(f:aN):TE:=k? x P8 v (dQ K C) (Q v H1)
Ez.1(K:cb)(ta tv:TE)(f:aN):TS:=wX tv y fG ta mv x (∃a C dx fs,sv/\mP H2/\dQ K C/\wv K/\SY/\vS (upd H2 a vL L_))
Uc.1(X:Cx)(op:zP)(rd:V->V->ci Hp VK):Prop:=∀(ae:a?)(s:ay)(σ:St)(H:Hp)(x y:V)(u v:a!)(Q:VK),av->nH->RelV y v->rd x y H Q->mR (OO op u v)
aud.1(K:cb)(ta tv:TE)(rd:V->V->ci Hp VK)(f:aN):TS:=wX ta x P8 v (dQ K C) fG tv mv y (rd v y H2 λ z H3=>∃e_ gN,H3 a=Z (.ins C e_ gN)/\gN.length<1000/\vS (upd H3 a (.ins C e_ (bK f z gN))))
}
section
variable{X:Cx}{o e qI:bC}{f:aN}{aY pos' Tc:cT}{ta tv:TE}
def z:={
aaX(he:bd e ta)(hb:WC e f dl mw=mw):bd iG O! e f (aAz bQ ta f):=by rw[ft,He aED hb (fo he λ u s1 aBk=>Nf aBk λ x H1 I1 rx a C dx fs v ex ea c n l q=>?_),adk I1 ea c n l λ u' s2 I2 ru=>(aE v H1 I2 ru q)]
ij(ha:bd o ta)(hv:bd qI tv)(hs:ON qI Z rW o f pos' pos.line dl=pure fS):PS X iG Assign [rW o f pos'] qI (Ez bQ ta tv f):=by rw[hT,<-plainObj_wpAny_Assign_Attribute (fo hv λ u s1 alu=>aO alu λ y H1 I1 ry q=>bf (mm ha _ I1 q) λ ov s2 ayc=>aJY ayc λ x H2 I2 rx a C dx fs ex ea c n l q2=>?_) hs];subst ex;obtain rfl:ov=Ar:=rx;exact adj I2 ea c n l ry λ s3 I3=>(cF σ _ I3 q2)
aco{op:zP}{rd:V->V->ci Hp VK}(ha:bd o ta)(hv:bd qI tv)(L0:Uc X op rd):RJ rW o f Tc qI (aud bQ ta tv rd f):=by rw[hT,<-wpAny_AugAssign_AttributeAny (fo ha λ ov s1 am5=>Nf am5 λ x H1 I1 rx a C dx fs v ex ea c n l q=>?_)];subst ex;obtain rfl:ov=Ar:=rx;refine adk I1 ea c n l λ u s2 I2 ru=>bf (gG hv s2 H1 _ I2 q) λ w3 s3 aEX=>aO aEX λ y H2 I3 ry q3=>bf (gG L0 s3 H2 v y u w3 _ I3 ru ry q3) λ w4 s4 ay1=>pQ ay1 λ z H3 I4 rz e_ gN ea' l' q4=>?_;exact adj I4 ea' c n l' rz λ s5 I5=>(cF σ _ I5 q4)
ayI.1:V->V->Hp->VK->Prop:=J! i j e7 cR Nb H
abv:Uc X .Add ayI:=by rintro ae s σ H x y u v Q I rx ry⟨i,j,rfl,rfl,q⟩;obtain⟨t,rfl⟩:=(show∃t,u=S9 from rx);obtain⟨t',rfl⟩:=(show∃t',v=Value.int j t' from ry);exact PyProof.Rows.iadd_int sX Nb
aNb{pl:ye}{m:aN}{apos:cT}{kR:lu}{ae:a?}{s:ay}{σ:St}{H:Hp}{te:TE}(he:qe)(I:av)(h:mc te x (∃a C dx fs g,sv/\mP H1/\um/\mL bQ C m g/\Ki/\∀s1,f6 H1 s1->py PF ee g ul kR Q s1))(ht:ez fB rW e m apos kR=Hy mw m kR):i! pb X.A ez fB rW e m apos kR Q o1 s:=by rw[He PL pl pl (fo he λ u s1 ak5=>Nf ak5 λ x H1 I1 rx a C dx fs g ex ea c k l q=>?_) ht,Kd I1 ea c k l (q s1 I1)]
}
section z
def z:={
bZ.mono{k:Y}{A:c6}(r:bZ k A)(h:j<=k):bZ j A:=#[r.hd,by have:=r.dp;exact arM al h,by have:=r.un;exact aKV al h]
bZ.deeper{k:Y}{A:c6}(r:bZ br A)(env:Env):bZ k DN env:=#[r.hd,by have:=r.dp;show O?+1+3*k+5<_;rw[ei ac8],by have:=r.un;show Pa+3+16*k+200<_;rw[ei aCi]]
aLE{A:c6}{C:aI}:(A!).depth=O?+1:=by first|rfl|simp[Pb,Code.weight,Code.isCreation,Code.isGuard,Code.isCaller,WD,Pc,guardIds]
aiT{A:c6}{C:aI}:(A!).dI=Pa+1:=by first|rfl|simp[Pb,Code.cUnits,WD,Pc]
bZ.make{k:Y}{A:c6}(r:bZ br A)(C:aI)(us:cq)(kw:AZ):bZ k A!:=#[r.hd,by have:=r.dp;rw[aLE];rw[ei ac8],by have:=r.un;rw[aiT];rw[ei ats]]
bZ.depth{k:Y}{A:c6}(r:bZ k A):O?<recursionLimit:=by have:=r.dp;rw[ei aiv]
bZ.units{k:Y}{A:c6}(r:bZ k A):Pa+64<cLine:=by have:=r.un;rw[ei aBJ]
vv.1:TA:=λ _ H Q=>Q [] H
apB.1(ta:TE)(tr:TA):TA:=k? x fG tr mv xs (Q MQ H2)
}
section
variable{X:Cx}{e:bC}{es:lu}{te:TE}{t:TA}{aY:cT}
def z:={
fQ:PA X [] vv:=λ _ _ _ _ H Q I h=>Calls.spliced_nil xZ [] I dW
iu(ha:qe)(hr:PA X es t)(hs:sr):PA X gM (apB te t):=by intro aY ae s σ H Q I h;rw[hs];show i! _ _ (spliced ((false,mw)::GG)) _ _ s;refine Calls.spliced_cons (fo ha λ u s1 aFH=>aO aFH pv);exact bf (hr aY ae s1 σ H1 _ I1 q1) λ us s2 asB=>aO asB Hc xs r2 (aE MQ H2 I2 (.aQ r1 r2) q2)
an8.1(t:TA):TE:=Rf p p nQ
Ga.1(t:TA):TE:=Rf p p Uh
Qt{x1}(h:PA X es t):bd (.Tuple es x1 aY) (an8 t):=by rw[jm H Q hq,<-wpAny_Tuple_spliced (GD h hq λ us s1 an0=>fW an0 λ xs H1 I1 r z q=>yB (by rw[<-lK];exact z))];have hf:cw H1 l_:=AU;refine P? nQ e q;exact(eF z us r (Hn _ Bx ag _ ag))
mN(h:PA X es t):bd (.List es aY) (Ga t):=by rw[jm H Q hq,<-wpAny_List_spliced (GD h hq λ us s1 aKO=>fW aKO λ xs H1 I1 r z q=>yB (by rw[<-lK];exact z))];have hf:cw H1 l_:=AU;refine P? Uh e q;exact(pq z us 0 r Bx)
}
section z
def z:={
d6.mono{P:dN}{w:dO}{K:cb}{mg:g5}{eU:dP}{CX:nu}{j k:Y}{f:aI}{fd:zR}{ps:e?}{sp:Sp}(F:zY xE eU j)(h:j<=k):zY xE eU k:=#[F.len,λ A d! s H kR us vs Q E hr=>F.run A d! s H kR us vs Q E (hr.mono h)]
d6.imp{P:dN}{w:dO}{K:cb}{CX:nu}{k:Y}{f:aI}{fd:zR}{ps:e?}{sp sp':Sp}(F:zY xE eU k)(h:∀vs H Q E,sp' vs H Q E->sp vs H Q E):xE eU CX k f fd ps sp':=#[λ vs H Q E q=>F.len vs H Q E (h _ _ _ _ q),λ A d! s H kR us vs Q E hr he hb hv hs=>F.run A d! s H kR us vs Q E hr he hb hv (h _ _ _ _ hs)]
wm.make{P:dN}{w:dO}{K:cb}{A:c6}{s:ay}{H:Hp}(e:Kj wm eU A)(C:aI)(us:cq)(kw:AZ):Kj wm eU A!:=#[by first|exact e.frames|(simpa[Pb,Code.envs,Pc,pushEnvs]using e.frames),e.mod,e.bs,e.pL,e.mH,e.uA,e.aR,e.bare]
}
section
variable{X:Cx}{ae:a?}{σ:St}{H:Hp}{s s':ay}
def z:={
Inv.Q4(I:av):k0 wm bQ oR jc X.A kP s H:=#[I.ok.frames,I.ok.mod,I.bs,oE I.ok.pL I.sz,I.stack,I.W_,fZ,l6]
Inv.after{Q:VK}{u:a!}(I:av)(h:CE kP oS X.w H s Q u s'):Cy u s':=by obtain⟨v,H',os,bare,un,aR,r,q⟩:=h;obtain⟨hh,g,d,t,os'⟩:=s';obtain rfl:os'=s.os:=os;exact(aE v H' (I.call (h':=hh) (g':=g) (d':=d) (t':=t) (ch:=[]) un aR bare (λ b z=>B2 z)) r q)
}
section z
def z:={
adp.1(sp:Sp)(gg:cl)(E:XK)(t:TA):TE:=ju t vs (sp pP H1 Q E)
Xe.1(C:aI)(m:aN)(sp:Sp)(gg:cl)(E:XK)(ta:TE)(t:TA):TE:=k? x (∃a dx fs,sv/\mP H1/\Ki/\fG t mv vs (sp (x::pP) H2 Q E))
abp.1(C:aI)(sp:Sp)(gg:cl)(E:XK)(t:TA):TE:=ju t vs (∀x dx,dR (H1 x)->cw H1 dx->dx≠x->SH (upd H1 dx uz) v v)
Binds.1(K:cb)(fd:zR)(ps:e?)(ds:cq):Prop:=∀(s:ay)(us:cq),tW->bp qu=vE->BindsTo s fd #[us,[]] En qu
Binds.all{K:cb}{fd:zR}{ps:e?}(h:∀us:cq,gt=vE->bindArgs fd #[us,[]]=pure (ps.zip us)):Binds K fd ps []:=λ s us _ hl=>by rw[oy]at hl⊢;exact .of_eq (h us hl)
r8.1(CX:nu)(X:Cx)(E:XK):Prop:=∀(ae:a?)(σ:St)(H:Hp)(s:ay)(e:a!)(s':ay),av->CX kP H s E e s'->o1 e s'
}
section
variable{X:Cx}{CX:nu}{k:Y}{f C:aI}{fd:zR}{ps:e?}{sp:Sp}{gg:cl}{ds:cq}{E:XK}{x m:aN}{p aY apos:cT}{e o:bC}{es:lu}{ta:TE}{t:TA}
def z:={
Dm{ae:a?}{σ:St}{H:Hp}{s:ay}{Q:VK}(F:mT)(hr:yf)(hb:ni)(hd:nZ)(hx:n6)(I:av)(r:yd)(h:sp pP H Q E):mR (call (.cS f) us):=by have r2:bO pP qu:=r.append hd;(have hl:bp qu=vE:=by rw[<-r2.length];exact F.len _ _ _ _ h);refine wpAny_call SB (F.run X.A kP s H #[us,[]] qu pP Q E hr I.Q4 (hb s us l9 hl)) h hq;cases r with|lJ e=>exact hx ae σ H s e s' I hq|ok fl=>cases fl with|ret u=>exact I.after hq|im=>rw[m4 hq]|brk=>rw[m4 hq]|l8=>rw[m4 hq]
adu(F:mT)(hr:yf)(hg:lB)(hm:tI lx)(hk:Se bQ lx)(hb:ni)(hd:nZ)(hx:n6)(ha:xx)(eg:jU)(he:sr)(a_:wx):bd fB mt p gM (adp sp gg E t):=by rw[P2 hk at9 at9,Dm F hr hb hd hx I1 r q]
aAF(F:mT)(hr:yf)(hg:lB)(hm:tI lx)(hk:Se bQ lx)(hb:ni)(hd:nZ)(hx:n6)(eg:jU):bd fB mt p [] (adp sp gg E vv):=by rw[Ay sx C7 ?_ eg,Pe l9 hk (Dm (us:=[]) F hr hb hd hx I dW h)]
Ou{pl:ye}(he:bd o ta)(c:um)(hm:mL bQ C m f)(F:mT)(hr:yf)(hb:ni)(hd:nZ)(hx:n6)(ha:xx)(bw:sr)(a_:wx)(ht:jy ez fB BS gM Hy KY m gM):bd fB BS gM (Xe C m sp gg E ta t):=by rw[PX amx amx (λ x H1 I1 rx a dx fs ex ea l q=>?_),<-WE (first:=ul) (h₀:=jc) WF hm.kp (bf (ha aY ae s1 σ H1 _ I1 q) λ us s2 aru=>aO aru Hc vs r #[I2.jE,?_]) bw a_,Dm (us:=.cS a::us) (vs:=.cS a::vs) F hr hb hd hx I2 (.aQ ag r) q2]
ae1{pl:ye}(he:bd o ta)(c:um)(hm:mL bQ C m f)(F:mT)(hr:yf)(hb:ni)(hd:nZ)(hx:n6)(ht:jy ez fB BS [] Hy KY m []):bd fB BS [] (Xe C m sp gg E ta vv):=by rw[PX ahq ahq (λ x H1 I1 rx a dx fs ex ea l q=>?_),Pe (first:=ul) I1.jE hm.kp (Dm (us:=ul) (vs:=ul) F hr hb hd hx I1 (.aQ ag dW) q)]
Ug{ae:a?}{σ:St}{H:Hp}{s:ay}{Q:VK}(M:Mk bQ C f)(F:mT)(hr:K')(hb:ni)(hd:nZ)(hx:n6)(I:av)(r:yd)(h:∀x dx,dR (H x)->cw H dx->dx≠x->SH (upd H dx uz) v v):mR (call (.cS C) us):=by have hq:=h jA d? (Oy (Nat.le_succ _)) z_ Oy Sf;have I2:=Inv.made (C:=C) I;have r2:bO (Ry::pP) (G_::qu):=eP ag (r.append hd);(have hl:bp (H0++ds)=vE:=by have e:=r2.length;rw[F.len _ _ _ _ hq]at e;exact zE);refine wpAny_call (aAl (f:=f) l9 M.makes M.init SX M.fn SB (F.run _ kP _ _ #[H0,[]] (G_::qu) _ _ E (hr.make C us []) (I2.Q4.make C us []) (hb _ H0 I2.jE hl)) hq fA);cases r with|lJ e=>exact hx ae σ _ _ e s' I2 fA|ok fl=>cases fl with|ret u=>refine fW (I2.after fA) λ v H' I3 rv ev q3=>?_;subst ev;exact #[rv,(aE Ry H' I3 ag q3)]|im=>rw[m4 fA]|brk=>rw[m4 fA]|l8=>rw[m4 fA]
SU(M:Mk bQ C f)(F:mT)(hr:K')(hg:lB)(hm:tI my)(hb:ni)(hd:nZ)(hx:n6)(ha:xx)(eg:jU)(he:sr)(a_:wx):bd fB mt p gM (abp C sp gg E t):=by rw[P2 M.kp am7 am7,Ug M F hr hb hd hx I1 r q]
aqZ(M:Mk bQ C f)(F:mT)(hr:K')(hg:lB)(hm:tI my)(hb:ni)(hd:nZ)(hx:n6)(eg:jU):bd fB mt p [] (abp C sp gg E vv):=by rw[Ay sx C7 ?_ eg,Pe l9 M.kp (Ug (us:=[]) M F hr hb hd hx I dW h)]
}
section z
structure aD(N P:e?)(sc:vw):Prop where
 kind:sc.kind=T7
 co:sc.isCoroutine=false
 gen:sc.isGenerator=false
 nd:N.Nodup
 pre:N.take P.length=P
 par:nD P (Ig\/Bp)
 aEL:kc Pf (y.2≠.jb)
def z:={
Vr{o3:BF}{x:aN}:(Rr m np o4 binds x m)|[],_,_=>rfl|(n,v)::r,m,h=>by unfold o4;rw[Vr λ w hw=>h w jB hw];split;(. (have:x≠n:=by rintro rfl;rw[RF v]);simp[al]);.rfl
Tr{o3:BF}{x:aN}:(Rr m np o7 binds x m)|[],_,_=>rfl|(n,v)::r,m,h=>by unfold o7;rw[Tr λ w hw=>h w jB hw];split;(.rfl);. (have:x≠n:=by rintro rfl;rw[RF v]);simp[al]
aes{o3:BF}{x:aN}{v:a!}:∀{P:e?}{vs:cq}{i:Y}{m:g5},P.Nodup->ck P x->ck vs v->GC o3->np o4 G7 x=Z v|[],_,_,_,_,h,_,_=>gq|og,[],_,_,_,_,h,_=>gq|p::P,w::vs,0,m,nd,h1,h2,hk=>by simp at h1 h2;subst h1;subst h2;show np o4 DK p=_;unfold o4;rw[Vr λ v hv=>RU nd Js hv,ao hk];simp|p::P,w::vs,db,m,nd,h1,h2,hk=>by rw[RW np o4 DK x o4 aes]
ad9{o3:BF}{x:aN}{v:a!}:∀{P:e?}{vs:cq}{i:Y}{m:g5},P.Nodup->ck P x->ck vs v->o3 x≠Z .local->np o7 G7 x=Z v|[],_,_,_,_,h,_,_=>gq|og,[],_,_,_,_,h,_=>gq|p::P,w::vs,0,m,nd,h1,h2,hk=>by simp at h1 h2;subst h1;subst h2;show np o7 DK p=_;unfold o7;rw[Tr λ v hv=>RU nd Js hv,aj hk];simp|p::P,w::vs,db,m,nd,h1,h2,hk=>by rw[RW np o7 DK x o7 ad9]
zS.1(N:e?)(vs:cl):St:=vs.map ca++G! (Pg - zQ) ak
}
meta def iA(CX:nu)(P:dN)(w:dO)(K:cb)(mg:g5)(eU:dP)(N:e?)(rh:aN)(oN:vw)(f:aI)(cd:a!)(A:c6)(d!:uh)(s:ay)(H:Hp)(E:XK):Cx where dk:=P;w:=w;K:=K;mg:=mg;eU:=eU;A:=DN sd;N:=N;iF:=s;Cb:=H;env:=sd;d!:=d!;stack:=sd::d!;ex:=[];calm:=au;fn:=λ _=>au;pn:=[];xe:=λ e s'=>i! A5 DN sd (leaving sd e) n5 Kf (CX d! H s E e Kf) (λ e' Kf=>CX d! H s E e' Kf) s'
def z:={
Y8{sc:vw}{x:aN}(h:Bp):∃c,(cellsFrom n Pf []).Gm x=Z c:=by have q:=WJ Pf n [] eV h;exact Option.isSome_iff_exists.mp q
aym{CX:nu}{P:dN}{w:dO}{K:cb}{ps:e?}{f:aI}{cd:a!}{A:c6}{s s1:ay}{H:Hp}{E:XK}(S:aD N ps oN)(hd:A.handled=ak)(e0:Kj wm eU A)(hl:Sx)(r:yd)(x:InCallC s d? (o4 Qh En us LW) RY (o7 Qh En us LW) s1):Inv Ha P w cd [] D3 H s1:=by(have a_:vE<=Pg:=by have:=vR List.length S.pre;rw[ot]at al;rw[ei awb]);(rw[dA (df x.done λ h1 tk anx hk=>?_) anx]);have zT:∀b:aI,b∉(Ha P w cd).ex:=λ b z=>B2 (show b∈([]:nB)from z);(refine #[#[e0.mod,S.kind,rfl,rfl,gh,λ y z c h1 h2=>?_,cr y hy,λ y c _ h=>?_,λ _=>hd,Around.frames_deeper e0.frames,.inr #[rfl,rfl],λ b z=>qK z (zT b),e0.bs,e0.pL,λ b _ _=>zT b,λ b z=>qK z (zT b),e0.mH,e0.uA],rfl,e0.bare,F! hk,(pt x.toInCall.ns λ i y v h1 h2 h3=>?_),λ y c h=>#[_,x.cell y c h],z_ WK,ar y c h,λ p hp=>B2 (show p∈([]:a?)from hp),e0.aR.kept hk,?_];(.exact name_of_addr x.apart Jv h1 Jv h2);.have hy:Ix y EQ\/Ix y .jb:=hy;rcases hy with hy|hy;(.exact Y8 hy);.rw[lj (S.aEL _ Jv hy)]);((.exact Fk (x.above y c Sc));. ((have hi:i<zQ:=by unfold zS at h2;by_cases hi:i<zQ;(.exact hi);.rw[NR (by simpa using hi)]at h2;rw[NN]at h2;split at h2<;>cases h2);have ha:ck vs v:=by unfold zS at h2;rw[FG (by simpa using hi),qN]at h2;cases e:vs[i]? with|ak=>rw[bN e h2 h2]|ca a=>rw[bN e h2 h2];rfl);refine ah (r.get ha) ar u hu rv;(have hp:ck ps y:=by rw[<-S.pre,Vo (by exact Np hi hl)];exact h1);(have ndP:ps.Nodup:=by rw[<-S.pre];exact S.nd.sublist (List.take_sublist _ _));refine aW u rv ?_;rcases S.par y (VJ hp)with k|k;(.rw[k7 #[k,aes ndP hp hu k]]);.rw[s? c (Y8 (n:=JM) k),<-.inr (eF eV k c e ?_)];have q:=x.cell y c e;rw[ad9 ndP hp hu (by show Ph y≠_;rw[k];decide)]at q;exact q);(.exact WK (Fk (x.above y c Sc)));.unfold zS;show _=Pg;rw[i7,qL,List.length_replicate];exact ao7 hl a_
aiR{CX:nu}{P:dN}{w:dO}{K:cb}{k:Y}{f:aI}{dq:aN}{params:Arguments}{dV kV doc pm aK ct oc:a!}{an od:C!}{qE:Ds}{ps:e?}{sp:Sp}(lk:K.lookup f=Z #[oc,od,.func (SM dV kV doc pm an aK ct),qE])(h_:ap (PySem.W.codeIn K aK rh))(S:aD N ps oN)(len:∀vs H Q E,sp vs H Q E->Sx)(A0:∀(A:c6)(d!:uh)(s:ay)(H:Hp)(vs:cl)(Q:VK)(E:XK),bZ k DN Pl rh oN aK->sp vs H Q E->∃t,ic HJ rg t/\t {nx:=λ _ H'=>Q .cB H',rt:=Q} D3 H):xE eU CX br f (SM dV kV doc pm an aK ct) ps sp:=by refine #[len,λ A d! s H kR us vs Q E hr e0 hb r jH=>?_];have hl:=len _ _ _ _ jH;have KX:tW:=e0.mod.ya.keeps eH o e A8 e0.bs;have lim:s.heap.NoLimit:=e0.mod.nolimit.keeps eH o e A8 e0.bs;(have Lr:∀y∈En us,Ix y.1 .local\/(Ph y.1=Z EQ/\ap ((RY).Gm y.1).isSome):=λ#[n,v]hy=>by rcases S.par n Js hy with q|q;(.rw[k7 q]);.rw[nv #[q,WJ _ _ _ eV q]]);refine codeAny_call_function hr.depth eG KX lk ag S.co S.gen ag (PySem.W.codeRec_of KX h_) (hb _ _ _ _ ?_);refine wpAny_newFunctionEnv_cells S.kind Lr λ env he s1 x=>?_;subst he;refine #[lim.keeps x.toInCall.keep,codeAny_func ?_];refine ah (A0 A d! s H vs Q E (hr.deeper _) jH) ar t ht hq;have I:Inv HJ [] D3 H s1:=aym S hr.hd e0 hl r x;refine OH (ht [] s1 D3 H _ I hq) hV fl s' hs λ e s' hs=>hs;have fin:∀{bI:St}{H':Hp}{v:V}{u:a!},Inv HJ [] bI H' s'->ii->Q v H'->CE d! P w H s Q u s':=λ{bI H' v u}J rv q=>(Aw v H' J.os J.bare J.base J.aR rv q);cases fl with|ret u=>refine gC hs λ v bI H' J rv q=>?_;exact fin J rv q|im=>refine df hs λ bI H' J q=>?_;exact fin (v:=V.cB) (u:=Value.none) J ag q|brk=>rw[<-df hs λ _ _ _ q=>?_,m4 q]|l8=>rw[<-df hs λ _ _ _ q=>?_,m4 q]
}
section
variable{X:Cx}{x:aN}{p aY:cT}{e:bC}{es:lu}{t:TA}{id T:String}{r:cl->v1}
def z:={
Xc.1(r:cl->v1)(t:TA):TE:=ju t vs (r vs H1 Q)
acT(hc:ki X (.OZ id) r)(hg:lB)(hm:Lj)(hv:Jp (.OZ id))(ha:xx)(hn:IP x)(eg:jU)(he:sr)(a_:wx):bd fB mt p gM (Xc r t):=by rw[Uf PyProof.Rows.callWith_builtin1 aBC aBC]
anv(hc:ki X (.type T) r)(hg:lB)(hm:Lj)(hv:Jp (.type T))(ha:xx)(hn:IP x)(eg:jU)(he:sr)(a_:wx):bd fB mt p gM (Xc r t):=by rw[Uf OW aCI aCI]
}
end
mutual section
def z:={
lR:=PySem
lS:=PyProof.Rows
eJ:=prog
cr:=Program
cs:=World
dz:=Around
a7:=Value
ax:=Shared
a3:=Int
ab:=Addr
vw:=IsTup
gu:=s.heap
MZ:=vs.toArray
M0:=ws.toArray
b6:=s.heap.objs.size
rG:=heap
lU:=s.heap.push
rH:=data
cv:=hsz
zy:=vs.length
rK:=sizeLine
fj:=wpAny
Z:=rfl
U_:=PySem.F.slot_tuple_add
U':=PySem.F.entry_tuple_add
jJ:=List.size_toArray
Y:=Nat
a!:=none
dL:=some
kH:=if_neg
vx:=Int.toNat_natCast
g!:=if_pos
U!:=Nat.min_le_right
U?:=Builtin.Slice.sliceAdjust
M1:=if_false
Va:=Builtin.Slice.slicePlaces
o7:=if_true
o8:=IsPart
Vc:=slicePart_none
Vf:=Builtin.Slice.sliceApplied
kI:=pure
e?:=wpAny_bind
fa:=wpAny_pure
bC:=true
M4:=List.range
cc:=this
fN:=items
g?:=items.size
rL:=getItem
FI:=List.length_take
M5:=List.length_drop
M6:=Array.length_toList
kJ:=Nat.le_refl
zA:=s.TypeIs
zB:=wpAny_holding
FJ:=ht.typeIs
Vg:=Str.ofString
Vh:=PyProof.Rows.slot_tuple_getitem
FK:=wpAny_typeOf
jN:=Bool.and_eq_true
FL:=wpAny_newObj_type
o9:=PySem.Spec
da:=scope
eX:=Scope
a4:=Str
fc:=iter
a6:=Expr
bT:=PySem.W.Frag
jO:=cells
d1:=Heap
aN:=pins
lV:=X.prog
gA:=X.env
lW:=X.xe
M7:=intsAre_of
iP:=V.int
cd:=nil
M8:=List.map_nil
bn:=cons
jP:=List.map_cons
al:=pos
bi:=Pos
Vk:=evalPart_none
eL:=RelV
zE:=builtin
M9:=Subscript
M_:=Subscript_
Vm:=s3.heap.push
vy:=List.toArray
Vp:=Heap.get?_push_of_some
l0:=s3.heap.objs.size
M':=subscriptTail
gD:=_H.cA
b4:=xs.length
dO:=tup
a?:=X.K
hC:=I.tuple
bH:=hlen
zF:=aF.toArray.size
zG:=I.laid
zH:=s.toks
M!:=I.aR.fresh
vz:=Nat.le_trans
FM:=ys.length
zM:=List.length_append
FN:=i.toNat
M?:=Option.some.inj
Na:=seqIndex_of
Nb:=seqIndex_neg
Nd:=List.getElem?_eq_some_iff.mp
FO:=subscripted
iQ:=false
Nf:=operate
iU:=value
l1:=slice
kM:=String
fO:=I.list
zN:=r.length
eY:=fin
rM:=pl.isList
Vr:=pl.isList.typeIs
Vt:=slot_list_getitem.lookup
FP:=Obj.mapSeq
gH:=aF.toArray
Ng:=s.heap.get?
rN:=I.aR
Vu:=its'.toArray
Vv:=s.heap.update
Vw:=Heap.get?_update_self
Vy:=Heap.get?_update_other
zP:=Ne.symm
o!:=trans
VC:=List.length_set
FQ:=sliceBounds
zQ:=aF.length
VD:=Heap.get?_push_size
bM:=Bool
Nh:=Bool.false_ne_true
FR:=List.all_cons
rO:=List.any_cons
FS:=List.mem_cons.mp
Ni:=compareOp
nu:=NotIn
vB:=vals1
zR:=I.tok
zS:=h'.get?
VE:=call_list_seq
zT:=I.kept
VF:=h'.objs.size
nv:=False
gJ:=apos
VI:=attributeBase
FT:=backToKw
l2:=Call
zU:=Attribute
VJ:=Calls.callWith_builtin
VM:=Calls.evalArgs_plain
Nj:=Builtin.List.listTooLong
FV:=decide_eq_false
Nk:=call_meets
FZ:=r.append
VP:=kE.toArray.size
F0:=Bool.and_false
Nl:=kE.toArray
VQ:=Nat.le_add_right_of_le
nw:=V.bl
F2:=Value.bool
zV:=bO.Fl
F3:=Value.ref
VR:=s.heap.IsList
vC:=intItems
Nm:=nums_intItems
VU:=List.take_of_length_le
zW:=ns.length
zX:=xs.size
VW:=intItems_at
Nn:=numAt_eq
VX:=PySem.getD_mem
hE:=List.length_map
VZ:=Nat.lt_of_le_pred
zY:=I.ok.hd
F4:=hl.isList
No:=rv.ints
iW:=s₂
o?:=Heap.lt_size
V2:=wpAny_pyIter_list
nz:=Nat.ne_of_lt
rQ:=List.getElem?_map
V3:=Option.map_eq_some_iff.mp
V4:=List.getD_eq_getElem?_getD
V':=wpAny_truthy_bool
Np:=any_range
l3:=List.length_cons
V!:=List.range_succ_eq_map
V?:=List.any_map
Nq:=all_range
Wa:=Nat.lt_irrefl
F5:=PyData
F9:=Dp.reads
Wb:=Dp.readsAll
F_:=SeqAt.shaped
Nt:=PyData.eqv
F':=X.A.units
vE:=cLine
dP:=names
z0:=sc.names.lookup
Nu:=NameKind
bd:=acc
Nv:=cells.lookup
Nw:=env.cells.lookup
F!:=env.cells
Wc:=List.forIn_nil
Wd:=NameKind.free
F?:=List.mem_cons_self
nA:=scope.names
Ny:=mem_lookup
z1:=List.lookup_cons
pc:=cellsFrom
z3:=h.objs.size
NB:=pushCells
rU:=Heap.size_push
Wf:=pushCells_keeps
Ga:=Nat.le_of_succ_le
NC:=Nat.lt_succ_of_lt
ND:=globals
Gb:=closure
fR:=qual
Wg:=newFunctionEnv
Wi:=Option.isSome_some
Wj:=NameKind.cell
rV:=beq_iff_eq
vF:=scope.names.lookup
vG:=own.map
rW:=wipe
Wl:=List.getElem?_eq_none
br:=outer
Gd:=X.env.scope
e7:=X.N.Nodup
Wm:=X.env.cells
NE:=X.env.cells.lookup
Ge:=ok.free
z4:=eR.locals
Wr:=eR.cells.lookup
z5:=PySem.mem_of_lookup
NF:=ok.uniq
NH:=eR.kindOf
Wt:=Nat.lt_of_lt_of_le
Wv:=List.mem_map.mp
Ww:=List.mem_of_getElem?
NK:=X.env.scope.names.lookup
z7:=isTrue
Gf:=target
l4:=s₁
rX:=s₃
NL:=codeAny
NM:=ListComp
d9:=σ2
hG:=pos'
Wx:=foldedSetIterable
Gg:=s2.heap.objs.size
NN:=Nat.le_of_eq
Gh:=Nat.zero_le
NO:=ce.locals
a2:=σ'
NQ:=Bool.false_eq_true
pi:=Assign
l5:=D.nx
Wy:=List.all_eq_true
jR:=decide_eq_true_eq
z8:=Bool.or_eq_true
Wz:=DecidableEq
gM:=putK
rY:=aq.map
z9:=decide_eq_true
NR:=Option.map_some
pj:=aq.length
Gj:=List.length_nil
z_:=o.isSome
NS:=valueAt
WA:=h1.symm.trans
Gk:=h1.trans
Gm:=stored
WB:=Paired.snoc
NT:=Paired.length
NU:=Option.isSome_map
Go:=sysModules
z!:=tupleKind
rZ:=Nat.lt_trans
NV:=rel.val
NW:=dd.mapOf
NY:=tupleKind_room_in1
NZ:=h'.DictOf
z?:=dd.typeIs
Gp:=pos.line
N0:=beq_eq_false_iff_ne.mpr
WD:=Heap.DictOf.new
Aa:=values
kN:=more
Gq:=merged
WE:=keys.length
b!:=base
WF:=PySem.F.slot_dict_get
WG:=Calls.spliced_cons
WH:=getattributeRaised
db:=rest
N2:=rest.length
WI:=codeAny_builtin
N3:=Around.under_plainId
pk:=A.in1
po:=holding
WJ:=wpAny_tryCatch
WL:=wpAny_seqItems
WM:=Nat.le_of_add_right_le
WO:=plainId_quiet
Gr:=dY.extBut
N5:=prs.length
WP:=Builtin.Dict.updateFrom
WQ:=h1.objs.size
N6:=Value.none
WT:=Nat.ne_of_gt
Gs:=Nat.zero_add
WV:=IsRangeIter
WW:=Builtin.Range.rangeSize
gP:=X.mg
WZ:=Builtin.bitAnd
pp:=Stmt
Gu:=FuncData
W0:=PySem.W.fnOf
Gv:=Nat.lt_of_le_of_lt
pr:=aj.refl
W2:=Option.none
l6:=best
Ab:=argBest
N8:=toString
iX:=kept
N9:=updateSeq
Gw:=wpAny_updateSeq
N_:=wpAny_letGo
Ac:=s.trans
dA:=_L.St
iZ:=s1.trans
r3:=s2.trans
eN:=Ev.of
l7:=aL.p
Gx:=of_decide_eq_true
N':=Constant
nB:=X.env.kindOf
N!:=Operator
r4:=ha.later
Gy:=hb.later
r5:=s3.trans
px:=Bool.true_and
W3:=Bool.false_and
Ad:=h.later
l_:=later
Ae:=whole
vH:=Te.of
Af:=Tw.of
f9:=e.now
W4:=PySem.W.keepIn
vJ:=X.base
Ag:=List.append_nil
Gz:=getMethod
r9:=ho.later
nD:=hv.now
i0:=aJ.of
vK:=hi.later
GA:=σ.set
GC:=he.later
pA:=bootBuiltins
vM:=h.now
GD:=hu.later
eP:=body
GE:=hi.toNat
GF:=hu.now
N?:=xs.take
Oa:=List.take_add_one
GG:=filter
GH:=List.range_succ
nE:=List.map_append
Oc:=List.filter_append
Od:=List.filter_cons
Oe:=List.length_range
hJ:=args
d!:=pre
fS:=post
Ah:=e1.now
W5:=Builtin.List.listExtendWith
Og:=_E.lexLe
W7:=wpAny_Call_Name_kw
Ai:=Got.imp
vO:=l.map
Oh:=List.append_assoc
vP:=l.length
r!:=Mt.Range
l!:=Mt.Row
GJ:=Mt.Seq
Am:=Mt.Book
r?:=d.ps
Oi:=Mt.MAPS
l?:=d.book
Oj:=_B.valAt
Ao:=Mt.scalar
Ol:=z.toNat
W9:=Bool.not_eq_true'
W!:=Bool.and_eq_false_iff
At:=decide_eq_false_iff_not
gQ:=c.Book
vQ:=hR.ex
GK:=q.last
ma:=aC.of
Au:=vR.nd
Om:=A.bj.cl
vS:=A.g.cb
GL:=PassesOwn.never
Ay:=List.getElem?_eq_getElem
vT:=Mt.isSyllable
GM:=Bool.eq_iff_iff
On:=Mt.syllable
mb:=congrArg
sa:=rows
vU:=Sum.inl
d?:=r.scalar
sf:=r.to
vV:=Mt.flag
GN:=d.ns.length
W?:=d.book.maps
Xa:=List.find?_cons_of_pos
Xc:=List.find?_cons_of_neg
AA:=Mt.map
GO:=Mt.prop
sg:=hR.cw
GQ:=hR.later
AB:=Mt.canon
sh:=_B.dJ
Op:=Mt.apart
Oq:=Mt.sorted
Xd:=List.map_map
Os:=eq_comm
Xe:=Bool.eq_false_iff
si:=aQ.cw
GR:=Mt.ends
Ov:=Bool.not_not
Ow:=Mt.isJamo
Xf:=List.length_eq_one_iff.mp
Oy:=PyData.int
GS:=PyData.depthAll
Oz:=PyData.depth
GT:=PyData.canLayAll0
OA:=PyData.canLay0
GV:=PyData.eqvAll
Xj:=Int.ofNat_inj
OC:=namesOk
Xk:=of_decide_eq_false
vW:=r.value
vY:=r.value.testBit
GW:=A.g.uC
OF:=Bool.not_eq_false'
GX:=Mt.weight1
Xl:=PySem.W.kbt_mask
OJ:=Mt.weight2
GY:=Mt.weight3
ad a:=dL a
cR a:=List a
fl a b c:=a X σ H b c
hM a b:=autoParam a b
vZ:=by decide+kernel
fe a:=a (by rw[vZ])
O:=fe aH
a5 a b c:=aD a b (aw c)
sj a b:=a b gA
ef a:=a->Prop
bD a:=.ref a
i3 a b:=cR (a×b)
AC a:=hM a aA._auto_1
bF a b:=a _ _ b
pB a:=sj starEach a
au a b c:=λ a b c=>?_
dk a:=.int a
fV a b:=fl aB a b
f_ a b:=AC (a=b)
cx a:=.ref a
bm a b c:=af a b c
kP a:=a->ef Hp
eh:=a.2
pD a:=i3 a4 a
fo a b:=fl Ev a b
eZ:=.Name
cH a:=(a:a3)
hO a:=aj H H1->a
bb a:=a=bC
b5 a b:=by refine a;subst b
nF a:=sj eval a
nG a:=Option a
bv:=aa 0
bQ:=cR V
dR a b:=by refine a b ?_
f' a:=λ H1 s1 Q q=>a
mc a b:=model a b
e9 a b:=af _ a b
bh:=pD ab
dS a b c:=H a=ad (.b c)
d2 a:=λ H1 s1=>a
fq a b:=Inv X aN σ a b
ca a:=a=a!
bE:=kP V
bG a:=decide a
v0 a:=hM a bS._auto_1
f? a:=.kI a
kQ a:=a (iZ s2)
sk a b c:=X.cC a b da c fp
ej a b:=fV a dk b
v1:=rW σ (vG (·.2))
gR a:=a (by kernel_rfl)
md:=.type
ga b:=b=cx a
bA:=cR ab
gU a:=bF s1 a
sm a b:=compEnvC da a b gA
bB:=Fs K mg c
v4 a b c:=a b H3 (r3 s3) c
sn a b:={cls:=a,rH:=b}
cS:=by decide
pE a b:=a l? b
i7 a:=.bl a
so a b c:=f' (a (b s1) c)
ci a:=by refine e? a
fX:=e::es
v6 a:=(false,nF a)
el:=aa 1
me:=a.1.2
dl:=iZ (r3 s3)
c9:=cH n
gb a b c:=.a b c al
dC a b c:=a[b]?=ad c
mh a:=backTo al pB a
dH:=eh.1
mi a:=λ a=>?_
cX a:=(a).length
eq a b c:=by rw[b5 (ah a b) c]
nH a:=AC (a=false)
c_:=eh.2
gc:=GO l?
b? a b:=PE X a b
sq a b c:=upd a b (.lst c)
kR a b c:=f_ pB a (v6 b::pB c)
jS a:=e9 a Z
gV a:=a b=ad o
jT a b:=f_ a ad b
i8 a b c:=Bd X a b c N P
mk a b c:=∀a H1,hO (bc b H1->c)
fr a b c:=a aN b σ c
gd a:=λ v _ _ e=>a
hV a b:=a5 a ["book","record"] b
ck:=cR a7
cD:=fq H s
mm:=eZ y hG
nK a b:=a5 a ["at"] b
kS:=aM P w K mg b!
ft a b:=a (v:=vN b)
cY:=aa 2
su a:=a->ef ax
nL a b:=.l2 a b [] al
G1 a:=(v1).set i ad a
i' a:=(a).imp
nM a:=nH ((mh a).any (·.1))
gX a:=.inl a
fz a:=Q a H2
nN a:=λ H2 s2=>a
mn a:=v0 (a=ad .globalImplicit)
v8:=me.1
ff a:=∀H1,hO a
v9:=f? Z
pG a:=(a:a3)
c5:=X.calm=bC
hW a b:=ae (ag a) b
pH a:=ae a ao
ge a:=fo a P
AD a:=(a).book
mq a:=.ins C dx a
c!:=cR a6
hY a b c:=by refine bL (a b) c
kT a b c:=by show fj _ a b _ _ c
kU:=AD v8
c?:=cR Y
AF a b:=so aL.v a nN b
hZ a b:=fl Te a b
eQ:=.a!
gg a:=(a).toNat
kW a:=(a:a3)
jU a:=λ H3 s3=>a
dp:=cR a4
dt:=mi hx
AH:=G1 x
sv a:=a=bC
fY:=.free
kZ a b c:=aj a H2->bc b H2->c
dV a b:=fV a i7 b
i!:=by rw[dR hU _];dsimp only
d4:=su a7
h!:=ef Hp
G2 a b:=r3 (a b)
er a:=nK ["at"] a
OK a:=G2 r5 a
e_ a b:=bm a Z b
AI a:=dk (lo+a)
AJ a:=.NM elt [a] da al
pJ a b:=(a).map b
mt:=sk s H0 sm cl C
d0:=by cases rx
du:=k+1
e4 a:=ag a
sw a:=Vp _ a
gl:=nG a3
jV a:=bF a e
ev a b:=by rw[a];exact b
gY:=OK s4
ez:=i3 ab Obj
gn a b:=by exact a b
jW a b c:=λ a H2 s2 b=>c
eS:=bD a
AK a:=a<rK
eC:=cR pp
pK a:=v4 q _ a
k1:=.zE
eT a:=λ _=>a
e5 a:=.int a
eU a:=pG (a:Y)
e6 a:=by obtain⟨t,rfl⟩:=a
gZ a:=a b hb
fh a b:=eN a b
AL:=bz gQ H b d kk
pM:=AI k
AN a:=d2 jS a
g0 a b c:=cK Om (a A) b c
pO a:=aj a H'
k3 a:=by refine bg (i' a gd ?_)
fB a:=kI a
nO:=sn (md "dict") (.dict (vy []))
k4 a:=AF r4 a
j0:=i+1
pP a b:=a a? H1 b xs
eE:=.cd
mx a b c:=a b H2 (iZ s2) c
sx a b c:=a b=ad (.lst c)
sy:=nG a7
fG a:=kH a
gp b c:=λ a:b=>c
k7:=hJ a
AO a:=v0 (a=false)
pR a b:=aL.v kQ a jU b
fi:=fo o Po
i? a b:=by exact absurd a b
jb a b:=by rw[kT pk a b]
e! a:=g! a
v! a b c:=λ a b s4 h=>c
my:=mq fs
OM a:=hM a gv._auto_1
pS:=kv.1
h? a b c:=by rw[a]at b;cases c
sA:=md "list"
ie a:=λ H4 s4=>a
ig:=bD b
g3 b:=λ a H=>b
mz:=rW σ vs
nP:=bD a.1.1
nR:=[ea,eb]
mA a b c:=λ a b _=>c
jc a:=.inr a
AQ a b c:=OM (∀a,Wx b gA c=kI x)
pV b:=∃a,ga v/\b
k9 a:=AC sv a
ii:=cR Key
G3 a:=λ _ a=>trivial
fI:=i3 κ V
g4:=kR fX e es
pX:=r4 s1
v?:=GO kU
f6:=ej a i
G5 a:=AN (i0 gU a)
mE a b:=jT (X.N[a]?) b
G7 a b c:=aT (a A) hr b pH c G3 _
G8:=("__debug__":a4)
sB a b c:=aE _ _ a b c
sC:=cq st
j1 a:=mk u (Po u) a
im a b:=behindInMarks a b
AR a:=pE Mt.ccc a
g5:=AO (x==G8)
io a:=a _ _
nS a:=a=cx q
ip a:=by simpa using a
j2 a b c:=λ a b c=>?_
jd:=by simp
j3 a b:=by refine e? (a b)
pY a:=a<=rK
sD a b c:=a lV X.w b c
g6 a b c:=c7 a b gR b1 (λ _=>rfl) c
ir a:=a∈ns
sE a b c:=by intro aN s σ H a b c
jf a:=i8 σ H (a::db)
wa a b c:={a with rG:=b,toks:=c}
sG a b c:=by refine iV (a b e) c
iC:=by have aQ:AL:=hR
gq:=i3 Key V
wc a:=(a:Y)
mF a c:=λ b o a=>c
G9 a:=a (by decide)
j5 a:=a<=rK
nT a:=ft bU a
AS a:=λ _ _=>a
f8:=.cell
mG a b:=G7 a b bv
AT a b c:=.Compare a [b] c al
nV a b:=by exact a b
k!:=.seq
k?:=kP dA
AW a b c:=so l7 a jW b hu c
g7:=a4->sy
AX a:=i3 a a7
sH a:=a hJ d! fS
wf a:=a l?
jg:=∀x,rW AH (vG (·.2))=v1
iG:=kJ _
wg a b c:=a mt b H elt c
j6 a b:={a with rG:=b}
G':=eZ "range"
mH a:=hZ a x
j7:=nF o
iH:=(b,d,kk)
j8 a b c:=λ u a b e=>c
gr a b:=λ a b=>?_
sJ a:=sn sA a
iI:=dh X.N Gd da own
g8:=aa 3
g9 a b c:=a σ H λ b H1=>c
iK a b:=l7 kQ a b
sK:=bQ->Hp->ef VK
pZ a b c:=a X aN b c
AY a:=sj keywordEach a
p4:=jV s4
la a b c:=a _ _ _ b c
mJ b c:=dU b a y c
jk a b c:=Bd.of a λ H1 s1 b n p=>c
gt:=V->V
jm a b c:=bp a b gR b2 (λ _=>rfl) c
jn a b:=fs.lookup a=ad b
wk a b c:=fj mc lV X.w X.A a b c s
jp a:=a _ _ _ _
j9:=nM es
jq:=pK v9
j_ c d e:=by obtain⟨⟨b,c,kk⟩,v,num,r⟩:=a;refine d hp e
sM:=jY X da elt
mK:=ns.map iP
AZ a b c:=λ a H3 s3 h=>v4 b c h
iM a b c:=upd H a (.b c)
nW:=gg (hi - lo)
js:=gV Ng
j':=mn (nB x)
jv a b c:=by have a:b:=by simpa using c
g_:=.int
jw:=gX Z
iN a:=λ σ H Q=>a
A1 a:=pE AB a
wl:=fb P w K mg b!
p9:=n - 44032
G! a b:=a (kJ b)
jy a b:=gb BoolOp .a b
wm a b:=a (fa b)
nY a:=hM (a=false) _L.gz._auto_1
sR a:=λ s H0 C cl fp=>a
n0:=fz v
n1 a:=(a).l_
j! a b c:=by refine ah (a b) c
p! a b c:=dC xs a b->c
wn a b c:=ae (a b ai c) ao
mO b:=pV dS a lst b
jz a:=by rw[g! a]
j?:=sw e
ka a b c:=fj mc eJ w A a b c s
G? a:=a=ps.length
n3 a:=Ni a
lb:=kv.1
wp a:=a H2 s2
p? a b c:=kZ a (b v) c
wq a:=sD a a? gP
mR:=cR a3
mT a b:=a K H b xs
Ha a:=(false,nF a)
kc b c:=AT a .b c
sT a b c:=swapsWith a b c gA
ke a b:=Ng a=ad b
qa:=G9 hr.mono
kg:=kS 1
kl:=kS 2
mW a:=dS a lst xs
lc a:=hV ["book","record"] a
sX a b:=a λ kv=>b
jB a:=a=ad v
A3 a:=-(2^62)<=a
km:=by rw[sE Q I h]
Hc a b c:=a _ b (pr _) c
n4 a:=AW r9 u a
sY:=fS a
jD:=ad v
jG:=bD l
qb a b:=sq H a b
wt b c d:=∀b H1,hO (Po c H1->∃a,ga u/\d)
A6 a b c:=.zU a b c
kn b:=mA a v (v=.bl b)
kq:=a5 N ps st
kt a:=fV a v
Hd:=mb nw ?_
qc a b:=a br s H0 b
qd a:=λ x=>a
jI a b:=(a).map b
kw a b:=fl Tw a b
s0:=aQ.later s1
s? a:=hW a ao
mY:=kR [o] o []
wu a b c:=by rw[sG a rN λ z hd b rel c=>?_]
tc:=G! M! _
wv a b:=λ a=>iP b
A7:=gi Wm nA []
qe:=[eb]
n8 a:=k4 pR Gy a
kx a b c:=Paired a b c
mZ a:=a P w K mg
m1:=AQ x fc x
tf a b c:=fj mc eJ w a b c
m2:=d.book.props.getD k []
A9:=bD b6
n9 a:=(a).toArray
ky a b:=a b aI aI hm
kz:=eL y u
ld a:=a5 ["number"] ["number"] a
lf:=pD Nu
lh:=ej b j
m3 a:=by rw[k3 a];rw[e];rw[dR mb nw]
kA:=cR α
m4 a b:=upd a z b
ll:=AK b4
m5:=PG sk s H sm cl C mm (dF i)
lm:=fo fc Po
ln:=F'+1<vE
lp a b c:=a b H4 (r5 s4) c
m6 a b c:=a sk s H sm cl C b c
A_ a b:=gb M9 a b
lr a b c:=fo a λ b H=>c
m7:=bQ->h!
n!:=sH RQ
tj a:=pJ a f
He a b c:=if a=bC then b else c
qf a:=bb (Ao a)
ls:=α->bE
tp:=cA g? 0 lo
n?:=ed gQ a.1 H
lu a b c:=a (b λ n=>.bl (c n))
kB a b:=λ x a H Q=>b
kC a b c:=λ _ a b=>c
Hf:=lo+hi
lv:=g i j
oa a:=show a by decide
lw:=kP α
qh:=by refine aG cN f? Hd
Hh:=NK y=ad .local
lx a b c:=by refine a;subst b c
ly:=nG ab
lz a:=by rw[kH a]
m9 a b c:=a σ H1 λ b H2=>c
Hi:=wg aB AH (f x)
A!:=nL (eZ x p) fX
oe:=by subst hv;rw[i!]
lB:=α->bQ
ww:=Hc q H1 v9
wz a b c:=af _ a (b c)
wA a b c:=gh K a fR b c fd
tq a:=a d?
wC a b c:=by rw[hY a b λ aF c pl hz=>?_]
m?:=Wr y=ad c
Hj a b:=pc a nA b
kF:=aa 4
og:=nM []
lD:=kW n
lI:=pO H
lL a:=by exact a
lQ:=b8 aq k
Hk:=G? us.length
ON a:=wn nT d? a G5 bo
wE a b:=λ a H2=>b
tr:=bD f
wF:=bD z
ts:=dk i
Hl:=by simp
oh a b:=wk a pZ b σ Q lW
tu a:=∃q,nS u/\a
qi:=(n,k)
Ho:=kI (ps.zip us)
na:=pD V
Hr:=cX k7
nb a b c:=wpAny_mono a b c
nc b c:=aE a b Z h1 c
on a:=a (t':=zH)
wG:=eZ "self"
qk:=GQ s1
oo a b:=by refine a;exact b
ne:=Array a7
Hs a:=AJ #[mm,fc,a,0]
Hu a:=a=ps.length
A?:=ad .cell
nf a:=aj H1 H2->a
Hv:=lo+wc k
wI:=.function
Hw:=gU hb
wJ:=pH el
Ba a b c:=iA eI P w K mg b! N fR (aw st) a b c
ng:=cR Env
nh a:=ad (vN a)
nj:=vO vN
Bb a:=A.deeper (envOfC fR (aw st) b6 a aK)
oq a b:=e9 pX λ a H2 s2 e=>b
tw a b:=bf (fr a s1 H1 _ I1 q1) b
or:=V->sK
nl:=V->bM
tz a:=x=cx a
ql:=wp q
tA a b c:=λ a H1 _ b=>c
np:=Hf/2
ot:=VD _ Z
ou a b e:=a (jt gQ b (λ d r=>e))
ow a b:=a5 a ["numbers"] b
ox a b c:=by exact sB a v! d9 H4 b v! v H4 c
oy a:=by exact mb iP a
qm:=bD p
oD:=bD D
Bc a b:=λ a b=>?_
wK:=ON el
Hy a b c:=a mc lV X.w X.A b c
qn:=sk s3 H3 ce
oE a:=a<b6
Be:=cA g? g? hi
tB a b c:=∀Q:VK,(∀a H2,b)->c
nq:=p.1=k
oH a b:=by have:=a;exact b cc
wL a:=.l2 (G' p1) a [] p2
Hz a b:=a b (r3 s3)
HA a b c:=#[a "default",b,c]
oI:=iJ cH vW
oK:=ge e
wM:=k1 "max"
oL a:=pP aJ a
tC b:=[nP,b]
tG a b c:=bm a b λ H2 s2=>c
Bf a b:=a Gd b
wO:=.Tuple es x1 hG
qp:=kv.2
nr:=i4 _
HB:=λ _ _=>Hl
tH:=AJ #[tg,fc,ifs,0]
wP:=mc eJ w
tI a b:=a b dP bd
Bg a b:=by cases x with|bC=>exact je a|false=>exact jQ b
qr:=hM (sv (X.fn y)\/Hh) sL._auto_1
oM a:=by exact .inr a
oN:=AS True
oP a:=nV bg a
nt:=j+1
wR a b:=sn a (.fields (vy b))
qt:=mE i y
wS a b c:=iD a b gR b3 (λ _=>rfl) c
qu:=cR bM
tK a b:=aE A9 _ a Z b
oR:=nG V
oS a:=mF hb a
wT a b:=a b d9 H2
oT:=bZ k X.A
Bj a:=λ H2 s2=>a
qv:=∀a,Hu Hr
qw:=by obtain⟨hR,hk⟩:=hp;dsimp only at hR hk
qx a:=mk vs (PL vs) a
qy a b c:=by rw[b5 (ah (sP hv) au u a b) c]
oW:=x=false
oX:=cH k
o0 a b:=a Pr w b mg
qz a b:=Pv a H->b
o1 a b:=vH a b
tL a:=bF s2 a
o2 b:=λ a v H=>b
tM:=p! k x Hi
qA a b:=wq a vJ k x b
wX a:=pJ a wv k Hv
qB b c d:=by rw[eq b au a c h1 d]
qC:=wa s h' tk
qD a:=wm fa a
qG a b c:=∀p,ca (H a)->Q bD b c
qJ:=Hk->bindArgs (W0 x fR (jA st) sC (aw st) eQ kV doc pm an aK ct) #[us,[]]=Ho
Bk:=sq H4 D (bd++[y])
Bl a:=List.mem_cons_of_mem _ a
qL a b:=by unfold a;rw[ci b]
Bm a c d:=λ d9 H2=>rW d9 vs=mz/\tt d9 H2 λ a H3=>He b (te d9 H3 λ y H4=>∃bd,sx H4 D bd/\AK acc.length/\c) d
o3 a b c:=a (λ vs H1 s1 hv b q=>c) hg cS cS he a_
qM a b c:=λ H H' v a s b=>c
o4:=KV aq vs
tN a:=v4 q v a
qN a b c:=bf (fr a s H _ b h) c
qP a:=nL (a p) [o]
HC b c d:=Rn b (start c (hJ d)) H sC sY
qS a:=a z=ad my
Bn:=.type
Bo a:=λ z=>a
OO a:=a F.plain_max_loop _
wZ:=sq H2 D []
w1:=sq H1 D []
qU:=fl fC fX PL
qV:=AX Key
Bp:=A1 x
qW a:=A_ o a
tQ a:=FS a
HD a:=a H2 (iZ s2)
tS:=gV h2.get?
o5:=(b,d)
o6 a:=a H4 s4
w3 a:=a==Wd
w4 a b:=by rintro H'⟨a,b⟩
qX:=pD Y
qY:=fl eO es vs
OP a b c:=a (vs:=vG (·.2)) (b:=c) (Qd:=λ H'=>Q bD D H')
w6 a b c:=a (vG (·.2)) σ b c
Bq a b c:=b9 _ dx a Hw Om b c
q4 a b:=∀H2,aj a H2->b
w7:=kP Y
q5:=kW vW
q6 a:=fV o a
q7:=ca (gP "range")
q_:=he s H0 C cl
HE:=FT al AY [HA dL d kp]
OT a:=NB (a nO) nA
tT:=wt u u pP aC a
q!:=.zU o
q?:=F3 a
w8 a b c:=EP X aN σ a b c
w_:=xk X da c
ra:=ad ig
w! a b c:=a b c ?_ ?_ ?_
tU a:=IntsAre a ns
rb:=gM aq k v
rc a b:=a b! eI b f
tV:=mn (nB "range")
tX:=Hs []
re:=false=bC
tY:=ge A!
w? a:=a el ai G5 bo
t0:=f_ pB qe [Ha eb]
rf a:=(a).GG t
rh a b c:=nX X σ z a dx ns H b c
t3:=sJ (k! gH n)
t4 a b:=by rw[i? (show a from b) Nh]
xa a:=λ k H'=>pO H2/\sx H' D tj a
Br:=vN dH
rj a:=ca (H1 a)
Bt a:=atKey a k
t5:=jc Z
Bu:=d! a H1
HF a b c:=d2 wz (ma gU a) b c
Bv a b c:=by exact a b H' (r3 s3) ie e_ c p4
rl:=(1:a3)
rm a:=bb (a x)
xb:=zR _
rn a:=bm o e a
t6:=bF s h
rp:=dQ a? C
xc a:=bF s5 a
rA:=cu ho ao he
t7:=#[cV hD,aX]
rD:=fU A hr
t8 a:=p v a gY h
t9 a b:=aT (mI A) hr a (ae cY s? b) HB
t! a:=a5 ["scalar"] ["scalar"] a
t? a:=λ D hD=>a
xd a b:=λ H1 a=>b
Bw:=bD I
xl:=ad x
rE a:=λ _ r=>a
ub:=sX aq.any bG (pS=k)
uc a:=∃f fd,a/\wA x st f
HG a b:=a5 a ["book","scalar"] b
ud:=v? 2 dH
By a:=kQ n1 (a Z)
ue a b c:=by rw[hY a b λ aF rv c _=>?_]
BA:=i7 _
uf a b:=by simp[a,List.find?_cons,b]
ui a b:=by rw[h? M8 a b]
uj:=hM (zy<=rK) k5._auto_1
uk a b:=nL (a gJ) b
ul:=(a==Go)=false
OU a b c:=notedBy mc eJ w a env λ b s'=>R (.error c) s'
xm:=i8 a2 H1 db
xn a:=∀y∈nA,a
un:=q _ H2 s2 v9
uo:=mw e
uq:=l9 e
rF:=dN l
ur:=Hz q H3
xr:=HC (qc Ba f aK A E).ja N a
ut a b:=by have a:=f9;subst b
uu a b c:=fo a λ b H=>c
xu:=Wa _
uv:=ca (fs.lookup m)
ux:=AR y
uy:=A.units+1<vE
uA:=f pM
uF:=t pM
uI:=pD Fv
HI:=wf vV
uK:=k<nW
uL b c d:=ah b λ a e c=>bm a e d
uM:=A.handled=a!
uN:=pE sh n
OV a:=vy a
uP:=wf AA
uS:=mH a
xw a b c:=tf A a b OU A e e c
OZ:=Hj (l0+1) A7
O0:=cR Keyword
BB:=M4 k
uU a b c:=aO a λ ar b hv c ty=>?_
HJ a:=(NV k).a
xx a:=sB a AZ a2 n a2 AZ v p v
xz b:=bZ k Bb f->d! a H->b
uW:=cR F5
uX:=nG a6
uY:=AS nv
xA a:=M4 a
HK:=A3 hi
uZ:=r3 s3
O2:=F3 b
u1:=cR (ii×ab×a7)
HL a b:=show a=b by simp
u2 b:=_R H a (.b aq)
BC a b:=vO λ a=>b
u3:=dM P w H h
BD b c:=aZ a Z b c
BF:=Og ns ms
HM a b c:=zL a fR st b w c mg b! e
xB a b c:=by refine ah (hx _ H3 dl (hu a s3)) au a' b c;cases e;exact h
u4 a b:=∀a∈fp,b
xC a:=hV ["book","record","scalar"] a
BG a:=(lU nO).a
xD:=G1 pM
u5 a b c:=sU a d5 b bv e4 c
u6:=kH e
u7:=mi cn
HN:=Y×Y
u8 a:=(_:a3)==a
u9 a b:=rN a _ b
u_:=KT H aq xs
u!:=xs.map f
xE a c d:=by cases(show u=O2 from a);rw[wu c d dd]
xF b c d:=by rw[eq mx hx u GF au a b c d]
BI a:=(a).isSome
HP:=hi<2^62
xG a b:=a _ Z b
u?:=a::b::db
va:=c_.2
xJ:=f' ww
vb a b c:=λ a H2 I2 b q2=>c
vc a:=∀H2,a
xK:=λ _ _ _ _ _=>p5
vd a:=Tw.te a
xL a:=.bool a
ve:=ad i
vf:=ab×bR
BL a:=i0 a
vg a b:=call a b
xM a:=λ H3 s3=>a
vh:=oA [] aq
vi a:=∀b o,a
HQ:=FT al AY []
xP:=k9 (vs.all il)
xQ:=Hy PassesOwn gA lW
HR a:=by rw[j3 WJ a]
xS a b c:=fj mc lV X.w A a b c s
vm:=.bn
vo a:=Q a s'
vp a:=Pv j0 a
vq:=ek::[e]
HS a b c:=Vy a b (zP c)
BM:=Be - tp
BQ:=by simp only[jJ]<;>omega
HT a b:=a5 a ["self","scalar"] b
O3 a b:=a5 a ["units","place"] b
xU a b c:=de X n3 a (jK λ i b=>.bl c)
BR a c e:=by obtain⟨⟨b,d,kk⟩,a,c⟩:=e
BS a:=Q bD b6 a
xV:=gn Int.lt_of_not_ge h0
xW:=hM Bf Loc y xO._auto_1
BT a b:=by exact Gv a b
vr:=[b,c]
vv:=x::r
xY a:=by rw[jJ,<-a]
x0:=wa s h2 tk
x2:=tq (gc 9)
x4 a:=z0 x=ad a
x5:=by rw[GM];simp
BU a:=mx a vs hv
x6:=jj gQ H a.1.1 me
x7:=("__classdict__":a4)
x8:=gc 2 m==gc 2 n
HU a:=by rw[hE,a]
x9:=Y->k?
O4 a:=j5 (b4+a)
BV a:=hW a wJ
x_ a b c:=by refine l7 (r9 s1) λ u a b c=>?_
x!:=pY pj
HV a b c:=AJ #[mm,a (G' p1) b [] p2,c,0]
HW:=HD zJ
x? a b:=by subst ex;obtain rfl:a:=b
yc:=by rw[GM]
ye:=dS b dO (k.map kV)
BX:=by have bH:=r'.length
yf a b:=a5 a ["self"] b
yg:=bF s4 bF s3 hb
yh:=fq H1 s
HX a:=a&&sc.kind==wI&&z0 n==A?
yi:=wl 1 gQ
yj:=dS a dT aq
yk:=dS a dK aq
yl a b c:=if a then(pS,b)else c
O5 a c d:=∃Nx:h!,(∀H',Nx H'->∃m',m'<m/\W j0 m' H')/\∀a H',c i H d H'->g x mz H' Bm b (Nx Bk) (Nx H3)
ym:=vY 7
yp:=vY 8
yu:=V->gl->gl->Hp->ef VK
yw:=AX κ
yy:=mg x=ad tr
yz a b c:={a with rG:=b,toks:=c}
yD:=by exact True.intro
yG a b c:=by rintro a b H' hk⟨s3,c⟩
HY a b:=gb UnaryOp .a b
H_:=AR n
O7:=vU c9
yH a:=qb p a
yJ:=OV []
yL a b c:=h.1 a (pr H) b c
yM a b c:=a (gf eJ w) b c
yN:=fo e Py
yO a b:=by exact a b hz hn
yQ:=#[(d2 (h.1 H1 (Ac s1)))]
yR:=fs.map (·.1)
yT a b c:=eN (a aI b) c
H! a:=show a by decide
BY:=md "tuple"
yU a b:=.Slice a b a! p2
yV a:=((a:Y):a3)
H? a b c:=∃W:Y->a,(∃m,b)/\c
yW:=i<=b4
Ib:=GD s3
yX:=iX b o q1 e
yZ a b c:=vA (a hc) hm b c
y0:=bG (i=j)
BZ:=bs.map nw
Id a:=a l? k n
y1:=d?==n
B0:=AQ x wL nR x
Ie:=bs.getD i iQ
y2 a:=NS a k
y3:=Binds K fd ps []
y4:=gO ts vs
y5 a b:=Bo (a (b z))
B1 a:=λ k a2 H'=>a
y6 a:=qI lo a t f
B2:=OT lU
y8 a b c:=show a=b from c
y9 a:=a<rK
Ii a:=by simp[dN,a]
y_ a b c:=show a=b from c
Ij:=pr _
B3 a:=pE a l
B5 a b c:=ah a λ b h q=>c
y!:=r5 s4
y?:=b? o td
B8:=y.2=fY
B9:=f_ pB nR [Ha ea,v6 eb]
zb:=#[_,rfl]
zc:=g! e
ze:=v+c9
B_ a b c:=λ vs a b hv=>c
B! a:=j8 H1 s1 a
zh:=cA n 0 lo
B?:=j1 tu (aC a? H1 q mK)
Cd:=V.ref a
Ce:=k==fY
zi:=gS xs lo hi
zk a:=bF s3 a
zl a b:=aW bV a b
Cf a:=f_ sT a ad (eZ z pz) jl.line fB bC
Ik a b c:=OP (a (b:=kh) (c:=sM)) σ σ
Ch a b c:=eF (hw _) a sR ((b fp k hk).l_ dl) c
O8 b c d:=∀u y H1,hO (bc (Po u) H1->bc (Py y) H1->∃a b,ga u/\mJ H1 c/\d)
Cj b c d:=b (RQ gp (BK×HN) [nP,Br,vN c_] g3 c d)
zn a:=λ fs=>a
zo:=ad e
zp a:=eval a env
Il:=xg rN eb
zq:=vN eh
zr:=b∉wr
zt a b:=λ a hb=>b
Cl:=nY im .Eq b
Cn:=mn (nB "max")
zu a:=λ _=>a
zv a:=i7 (!a)
Cp a:=HG ["book","scalar"] a
Cq a:=O3 ["units","place"] a
Ct a b:=by rw[Bg a b]
Cu:=jT (pA "max") wM
Cy a:=by refine fa #[OO WO,a]
CA:=by rw[jJ,jJ]
CB:=nL A6 o m gJ fX
CC a e f:=by obtain⟨⟨a,e,kk⟩,n⟩:=f;have hR:AL:=hp;rw[dR hU _]
CE:=dF i
CF a:=AF r9 a
CH a b c:=bc (a k a2) H1->Bd X (σ'.set i ad b) H1 eP wE d9 wT J c P
Im a b:=a5 a ["signs","begin","place"] b
CI:=jT (NK z) .local
CJ a b c:=by refine bg (i' a tA v h ?_);show cT H1 v b;unfold c
Is:=λ _ _ q=>sw q
CK:=q _ tc
CL a b:=by simp only[z1,a]at b
O9 a b:=a5 a ["self","w","text"] b
CM:=p? H1 P n0
CN:=HM N P K
CO a b c:=by rw[eq nD au p a b c]
zx:=sN 0
CP a:=jf (.For mm a eP [] al)
O' a b c:=f_ nF a (do let ov<-j7;standAt apos.atName;let(f,first)<-b;c)
CQ:=v? 3 c_
CR:=v? 3 dH
CS a b c:=∃P',a b H1 P'/\∀v H2,aj H1 H2->P' c H2->P v H2
CT a b c:=by(have e:i=a:=by exact sS hi a8);subst e;exact .inl #[b,c]
Iw a b:=a5 a ["numbers","at"] b
CU:=e? (m:=Builtin.Tuple.tupleExact _)
Ix a b c:=by refine .inr (eF a (Pv j0) b j2 x H' c);obtain⟨e,y⟩:=y
CV:=Bl h1
CW:=bG (pS=O7)
CX a:=by rw[Ag];exact a
CY:=H1 b=ad my
C0 a b c:=by refine xI (I.yY hH) λ z aF a b hl c=>?_
C3 a:=.pi [eZ z pz] a jl
C4 a b c:=NL wP A a b c
C6:=fl eO nR [dk lo,e5 hi]
O! a:=kI (ForInStep.yield a)
C7:=qf d?
C8:=fU A qa
C':=ff Bu
C!:=by exact M? h1
Iy a b:=by rw[hE,a]at b
C? a b c:=by rw[a,b,c,nE]
Iz:=kQ h0.later
Da a b c:=bf (fr a b H2 _ I2 q2) c
Db a b c:=ff (∀a:kP bM,b->c)
De a b c:=VI a b gA c
IA a b c:=∃(a:ab)(b:mR),c
Dh a:=hM a xX._auto_1
Dj:=gc 3 m==gc 3 n
Dl a:=z5 a
Dn:=Bp=[]
Do a:=by simp only[a,M1]
Dr a b c:=by obtain⟨aF,a,pl,b⟩:=c
Ds:=pY FM
Dt:=[wO]
Du:=by rw[hE]
Dv a:=by rw[jP]at a
O?:=gD b4 b4 hi
Dw a:=backTo ko pB a
Dx:=fq H' s'
Dy a b:=a b (vU c9)
Pd:=gD b4 0 lo
ID a b c:=a b c (vy [u,q.2])
Dz a:=a5 ["kind"] ["kind"] a
DA:=fq H s'
DB:=FS h
DC:=AK pj
DF:=wl 3 gQ
DG a b:=by exact(show a from b).elim
DH b c d:=∃a b,ga v/\c/\d
DK:=A3 lo/\lo<2^62/\HK/\HP
IE:=(s0).parts
DL:=gV zS
Pg a:=VR l a
DM a b c:=eN (a b aI aI) c
DN b c:=.Compare a b c al
DO a:=by exact fa a
DQ:=HI 12
DR a:=by exact e? a
DS a b:=n9 ((a).take b)
DT:=bb (Ao n)
II a c d:=H? w7 (W 0 m w1) (∀i m H,W i m H->((a).stop i H/\Qd H)\/((c).go i H/\O5 x d x))
DU a b c:=by rintro a H' hk⟨b,c⟩
DV:=AR x
DW:=fl fC es PL
DX b c d:=∀b:ef α,(∀c,d->U a)->U a
IJ a b c:=fF a gn p6 b Z a8 c
D0:=by unfold Oj
D1 a:=a Gd x
IK a b:=a (e? b)
IL:=HJ Aq
D3 a b c:=cz (i:=i) hN a b c
Pi:=N8 "max"
IM:=GN=0
D5:=#[r5 s4,h]
D6 a b:=if v<0 then a else b
D8:=cH GK
D9:=f' ?_
D_:=F2 _
D' a b c:=Bd X σ a b c P
D! a b c:=aO a λ a0 OB b c wY=>?_
D?:=by simpa using hx
Ea:=0<zW
Eb:=r.to.headD 0
Ec a b:=Mt.byKind a b
Ed a b:=a fJ.extBut b
Ee:=i3 TE TE
Ef:=eZ x al
Eg:=ad wF
Eh:=mT aJ a
Ei:=(gZ uh).1
Ej a b c:=aE a H2 b c q2
Ek:=a3->a3->bM
IN:=l5 a2 H2
El a:=AB B a
Eo a:=bc (a 0 σ) H
Er:=(gZ f3).1
Es:=ca (gP "max")
Et:=eZ y py
Ew:=pG (0:Y)
Ey:=p9%28
EA:=p9%28
EB:=fu P w H h
EG:=Bt xs
EH:=r H1 s1 Q q
EI a b c:=a h b hb bH c
EJ:=zY hc
EK a:=(a:ax)
EM:=fG hk
IO:=N? k
EQ a:=_B.kL a hk
ES:=.zE id
EU a:=binaryOp a
EV a b:=(a==b)=false
EW a b c:=λ a b I1 c q1=>?_
EX a b c:=λ o a b c hd=>?_
IQ:=λ _=>rfl
EY:=λ f0 f1 f2 f3 f4 f5=>?_
E1:=qi::r
E2:=Bc p hp
E3:=Sem bM
E4 a:=nw (!(a==[]))
E5 a:=j2 j a e
E_:=lo+(wc i)*c
E' a b c:=a (λ b o hb e=>c) f0 f1 f3 f4 f5
E! a b c:=by rw[wC a hq r,<-b (ku x) c (λ w hw=>HZ rx fx r fs w ip hw) (aE BA H I Z ?_)];rw[HL (aF.toArray.any (ku x)) (aF.any (ku x)),E7 r fs];exact q
E?:=Ax lo c n
Fa:=hp H1 s1
Fc:=(0:Y)
Fd:=(2:a3)
Fe a:=.tuple a
Fg:=bD sl
Fj:=dk (0+k)
Fn a:=gZ a.2
Fp:=yq (g:=dF i)
Ft:=xs++[v]
IR a b c:=by rw[i!,aG (a:=vk) (cO (b (cQ bv d2 Bq fs A.bj.wQ rS) el AN (ma gU wd)) cY HF rT cg lE) xd s1 (gj c _ _ _ _ s1 hL)]
Fw:=b::db
Fx a:=λ l hl=>a
Fy:=gX e
Fz a:=(a).o!
FB:=qK y x
IS:=dk m
FC:=Key×V
IT a b c:=by rw[dR WI F.entry_max_loop];rw[OO N3];rw[jb (seqItems? bD S>>=_) s,ci (WL a Z ?_),jb (tryCatch (pyNext Bw) b>>=_) c]
FD:=q.1=k
FE:=kV lb
FF:=b8 aq j
IU:=HV .l2 nR [c]
IW a b c:=fh (GP a aI (zm aI) b) n4 pR hl.later #[i,rfl,c]
IX a b:=a b wZ l0 OZ fp
Pj a b c:=g0 a hr b bv fe si c Z d2 s0
IY:=Hj (b6+1) A7
IZ b c:=O8 b c (r.isSome=z)
FG:=q::qs
I0:=HX w3 k₀
I! a:=sT a ad A6 (wG p1) f p2 p3.line=fB iQ
I? a b c:=j6 a (Vm wR (b "slice") c)
Jb:=by rw[w4 s3 e];rw[List.take_length]at e;rw[Bv q _ D]
Jc a b d:=OP (a (b:=w_) (d:=sM)) σ σ
Jd a:=hV ["book","record","scalar","part"] a
Je a:=O9 ["self","w","text","refused"] a
Jf a b:=by rw[qh];revert a;cases b<;>simp
Jh a b c:=a (b gF mG Ls n ai) eT c
FH:=8 - k
Jk a b c:=by refine bm (λ i m H=>m=a - i/\b/\Pv i H) (aZ c jd (Gh _) h0) ?_
Jl b d e:=b (RQ gp (BK×Y) tC d g3 n? e)
Jm b c d:=∀b H1,hO (sx H1 c d->i8 (GA j ad eS) H1 db)
Jn:=f' tG x pX ql
Jo a:=by simp only[jN,jR]at a
Jq a b c:=by rw[HR a];have b:=iX c _ offS ug
Jr a b c:=iA eI P w K mg b! ["self","row","classes","place","scalar"] "Book.in_order" (aw oJ) a b c
Jt:=mG Lq n
Jw:=.pi [A6 (wG p1) f p2] e p3::r
Jx a:=HT ["self","scalar"] a
Jy a b:=wS A.bj.JF a b
Jz a b c:=O' a b (callWith al f first mh c HQ)
JA b c d:=by rw[b5 (aO (hx u y H3 dl hu (hy.later s3)) λ a b c h1 h2=>?_) d]
JC:=wX BB
JD a b c:=λ a H1 I1 b q1=>tw ho c
JE a b c:=by refine je (bm a sR (b (iZ gY)) λ H5 c=>w! fF _ xc p4)
JG:=HS _ _ q2
JJ a b c:=iD a b gR b2 (λ _=>rfl) c
JK:=m4 (upd H1 dx (.own z)) mq []
Pm a b:=a5 a ["self","kind","scalar"] b
Pq a b:=a5 a ["book","ways","scalar"] b
JL a:=a∈tI pc z3
Ps a b c:=zG (a:=b6) (o:=.b c)
JM a b c:=mZ a b! b C c n!
JO a b c:=tz l/\a/\mW l/\b/\O4 zs.length/\c
JP a:=by obtain⟨a,e⟩:=hi.allInts.items
Pt:=vF y=ad fY
JT:=pJ BC n H_ vN
JU:=λ b ob q=>sw q
JV:=hx u H3 dl Ib
JW:=O? - Pd
JX a b:=by rw[zM];exact a b
JY a b c:=by rw[jJ];exact a b c
JZ:=By hb
J0 a b:=Va a b 1
J1 a b c:=a (cO g8 b Bj (af rs HW (cg lM))) ai Bj jS BL tL gU c
J2 a b c:=jk (aP (yC (i:=j) hc hN hz n_ mC (a aI) ok hg b oY hs) fP) D c
J4 a b c:=List.length_filter_le a (b c)
J6 b c d:=∃a b,ga x/\mJ H2 c/\d
J_ b c d:=by rw[b5 (aO h λ a b c hs q=>?_) d]
J':=Pg gH
J!:=items.toList.drop (cA g? 0 lo)
J? c d e:=by obtain⟨⟨b,c⟩,d,e⟩:=a
Ka a b:=a5 a ["self","row"] b
Kb:=A1 d?
Kc:=mx hx u hu
Kd a:=a (z5 e)
Kf a b c:=(a).all qd (!x.1)&&(b).all qd BI x.1&&bG ((c).length+cX ([]:O0)+(if([]:O0).isEmpty then 0 else 1)<30)
Kg:=Ii GV
Ki a:=la Wf _ a
Kj a b c:=zG (a:=zH) (o:=.b c)
Kk a b c:=by refine a (NY hu) Il b c ?_
Km a b c:=FL (a b) c
Kn a b c:=s.heap.IsSliceOf sl a b c
Kq:=(Nv n).getD 0
Pw a:=(Pi++N8 ".loop":a)="max.loop"
PB a:=a (gD b4 0 lo)
Kr a:=hM a n6._auto_1
Ks b c d:=ff tB v kZ H1 (λ H=>mO b) n0 w6 (lN (c a? (aL X fc)) (dF i) d sM) H1 Q
Kt:=d.book.maps.getD k []
Ku a b c:=Walks eJ w pk a fp wr b c St
Kw a b c:=q _ a (r3 (r5 (cV b))) c
Ky a:=by obtain⟨t',rfl⟩:=a
KA a:=by rw[rU]at a
KB a:=by simpa[vC]using a
KC a b c:=WL a b (fa c)
KE:=md "list_iterator"
KF:=su Result
KG a:=by rw[<-a];exact hi.numsOf
KK:=vN (gc 0 (e8 x))
KL:=Gx h
KM:=pY b4
KO a:=Ng b=ad a
KQ a:=CmpOf eJ w pk a
KR:=Id Op
KS:=λ i=>Ie
KW:=HY Not a
KX a b c:=Wb I ds _ a b c
KY a:=by simp only[a,o7]
KZ a:=by rw[jP,a]
K1 a b:=Vv a (FP b)
K2 a:=bb (F_ a)
K3:=Oy c9
K5 a b c:=∃a,zS b=ad c
K7 a c d:=λ b o q1 q2 e=>a b o c q2 d
K9:=WO pT _
K' a c d:=P (Ab bt (n - 1)) a->(∀b o,c)->d
K!:=Value.type "tuple"
K?:=M? h
La:=G9 kH
Lb:=nz (o? e)
Lc a b c:=aE a b f9 gX c bH
Le a b c:=by refine(aE .cB _ (I.Mo (its':=a) hH b jd c ?_) Z q)
Lg a:=by exact False.elim a
Lh a:=GA i ad a
Lj a b:=la Wk.frame a b
Lm:=pE Mt.full d?
Ln:=wE x (za X db D (GA j xl) H2)
Lo:=FQ lo hi a! n
Lp a b c:=a b (e? c)
Lr a b c:=I.write (a:=b) (e:=c)
Lt a b c:=if(bb a)then b else c
Lu:=sR (OY (IP s H0 C cl fp))
Lv a b c:=a (b:=lV) (w:=c)
Lx:=OJ n !=0
Ly:=C2 r6 hm dX rR dY
LA a:=Walks.list (A:=a)
LC a:=apos.endLine==a
LD:=vG (·.1)
LE a b:=vz a b
LG:=#[cS,by decide]
LI a b:=wpAny_field a b
LJ:=Gh _
LK:=mc lV X.w
LL:=k1 "sum"
LN a b c:=bm a b λ H3 s3=>c
LP:=io IsTup.new
LT a:=nz a
LU a:=PI X tg fc a
LV:=min v.toNat n
LW a b:={a with rG:=b}
LY a b c:=if a then[b]else c
LZ a b c:=λ(kv:a)(r:b)=>c/\cT H qp sf
L0:=ef ax
L2 a:=bb (xs.all a)
L3 a:=#[a,rfl,fa h]
L4:=vO (·.1)
L5 a b:=λ _ a=>nomatch b
L6:=hc.later s1
L7:=Y×l!
L8:=i<b4
L9:=Bn "list"
L! a:=b4=a
L? a:=a (y:=false)
Ma a b c:=e9 a λ b H2 _ h=>c
Mc:=Ad s1
Me:=Ab bt j
Mf a:=aZ _ a Z Z
Mg:=mV (cq oJ)
Mi a b c:=gj (gj a) b _ _ _ s c
Mj:=Y->bM
Ml:=ks.map kV
Mm:=kW i+(cH m)*1
Mp:=bs.all id
Mq:=bs.any id
Mr a b c:=λ v2 a b c Aj=>?_
Ms:=start N (wF::k7)
Mv:=bF s h1
Mx:=Bc H4 s4
My a:=cg (a:=0)
MB b:=fS a b
MC:=e8 (vN n)
MD:=aL X e
ME:=xs++ys
MG:=xs++zs
MH:=.type T
MJ:=bD t
MK:=p7 lo n
MN:=gf P w
MP:=v::vs
MQ:=KH hv
MR:=l==[]
MS:=h2 l
MT:=kV k
MW:=dN m
PF b c d:=BD #[xs,fk] t? (Ik (b (xs:=xs) (g:=CE)) tt te xa IO t7 (λ k H' _ c=>bq d λ s3 _=>dZ H' s3) ?_ ?_)
MY:=aa 6
PH a:=Pj a (iH,d?) wK
PJ a b c:=g0 zO hr a bv fe si hW b wK Z d2 #[IE,c]
PP a b c:=g0 a qa b bv fe sg BV A.g.L1 Z d2 #[qk,oa c]
PQ a b c:=by rw[k3 (aW uG (iz GB bv ai jd) ai)];rw[e];rw[dR mb iP];have h:=a;rw[H! b]at h;rw[h];unfold c;norm_cast
PR a b c:=by rw[Ix (cF xs (xs[a]) q (by simp[a8])) (λ H' p'=>IJ (b4 - j0) a8 p') y];subst e;exact hs i x _ (b xs c) p
PV c e f:=by rw[j_ d bX λ hR c _=>ah e au ar hv bo];dsimp only at hv bo;rw[oe,dR ft (bI 2 f) vW w? bU]
PX a b c:=a (v:=cx ak) (cQ bv d2 Bq fs A.bj.Lw b) el HF c cg lE
PZ:=sm OZ l0
P0:=nH ((HE).any (·.1.isNone))
P3 a:=k9 ((HE).a (·.1.isSome))
P4 b c:=wpAny_Dict_empty tK (on Ps a b [] Is iG (c gu I.A5)) (h _ tc)
P7 a b c:=n8 xG (wV i j Z Z) (by cases a:lv with|bC=>exact je (aL.v (hc.later dl) ie b)|false=>exact jQ c)
P8:=OT Vm
P9 a:=f_ ((HE).filterMap (·.1)) [("default":a)]
P_ a b c:=by rw[dR WI a];rw[b];rw[jb (pyNext Bw>>=_) s,ci c]
P! a b c:=by rw[wC a hq r',BX,b c BQ (aE dk FM H xb #[zH+1,by rw[jJ,bH]] q)]
P?:=BG objs.size
Qc a:=BS j6 s (lU sn BY (.seq a))
Qg a:=Im ["signs","begin","place","back"] a
Qj a:=Pq ["book","ways","scalar","found"] a
Qk a b c:=by have offS:a∉wr:=λ q=>b (Wk.sub _ c);have nm:Pw kM:=by decide
Qn a:=a5 ["self","w","columns","text","marks","refused","lines"] ["self","w","columns","text","marks"] a
Qo:=xn (B8->∃c,NE y.1=ad c)
Qp:=mk a2 (J b4 a2) xm
Qq a c d:=∃a H',Inv qn [] v1 H' s'/\tn i s'.heap/\(∀b∈fp,ca (H' b))/\W c d H'
Qv a c e:=g0 wj hr (iH,x) bv fe a c Z xM e
Qw a b c:=by rcases tQ fw with e1|a;(.rw[i? (e1▸o? b) xu]);.cases c
Qx a:=Pm ["self","kind","scalar"] a
Qy a b c:=by subst ey;rw[wu xh vs dd,<-a (uz ry) b NW ?_];rw[<-IL,<-c];exact h _ xb
QB a:=fu P w H (h.push nO) z3 a
QC a b c:=fh (a hc hg hm hv b hn eg he a_) f' bm PL pX B_ H2 s2 (BU hr c λ v H3 s3 hp=>tN hp)
QD a:=hV ["book","record","flags"] a
QG:=Nk F.slot_list_extend jS e F.entry_list_extend io F.args_list_extend_2
QJ a b c:=comprehension tH da gA a (newList b) iQ nF fc c
QK a:=Hy compPost lW use a oD l0
QL a b:=a5 a ["book","text","units","first","behind"] b
QM a b c:=if Ce then gi a r ((b,c)::bd)else gi jO r bd
QN:=BM==g?
QO a b:=by obtain⟨a,rfl⟩:=Nd b
QP:=by rw[HU FI,BT io U! hl]
QT a b c:=by simp only at hc hd uQ hd2;subst hc hd uQ hd2;have i1:tU aF.toArray.toList:=M7 r1;have i2:IntsAre kE.toArray.toList ms:=M7 r2;rw[oo a (show b≠Value.notImplemented/\w8 Q xL BF s from(F8 qd (nomatch c) i7 BF H I Z q))]
QU:=AJ #[Gf,fc,ifs,0]
QW:=concat_meets jS ho jS qg noFill_tuple_add seq_tuple_add
Q0 e f g:=by rw[BR e n a,<-bX hp au f hm hn,iC];dsimp only at g hn;rw[i!]
Q1 a b c:=by rw[j! r.get h2 au a ew cZ];have hl:=zN;have hn:=A4;have eY:w8 Q b s:=(aE z H I cZ c)
Q2 a c d:=∀(a:Y)(q:Key×a7),dC prs j q->∃(b:ab)(u:a7),dC c j d/\ID vw gu b/\bb (rJ q.1 u)
Q3 a:=s2.heap.push sJ (.seq a)
Q4:=λ _ _ _ _ _=>cz yo.nd Z jw t5
Q5 a b c:=OM (∀Ae,z7 a gA Ae=(do let b<-Ae;standAt e.pos;po [c] (truthy v)))
Q7 a:=Iw ["numbers","at"] a
Q8 a b c:=by rw[Iy M6 hj];rw[<-Nn];exact a b gn Nat.le_sub_one_of_lt c
Q9 a b c:=a Z yo.nd ee el B! (af av e (b gU gm)) IQ cv c
Q!:=by rw[HU M6]
Q? a b c:=m9 td y IA l ns (tz l/\aC a? H2 l mK/\(ns=[]->fz y)/\(0<zW->∀m,ir a->(∀b,ir k->c<=m)->fz IS))
Ra a b c:=∀(i:Y)(a:r!),b->m2[i]?=ad q->c
Rc b c d:=qM x b (aO c λ a aq e d p=>(aE a aq e t6 (gw (λ _ _ q=>#[q.1,jp gG s q.2]) p)))
Rd a b c:=forIn ifs bC λ a b=>He r (do let ok<-c;O! ok) O! r
Re a b c:=j1 (∃a xs,nS u/\pP aC q/\∀p,bc (P qm) sq H1 b c)
Rg a:=pK f? (by rw[a])
Rh a:=pK f? (by rw[a])
Rl a b c:=ff (∀D:Ends,(∀a2 H2,kZ H1 (a a2) IN)->(∀b H2,p? H1 P (D.rt v H2))->c)
Rm a b c:=by by_cases e:p.1=j;(.rw[a,uo,NR,b]);.rw[c,uq,ih]
Ro a b:=a5 a ["numbers","at","before"] b
Rs a b:=a5 a ["desk","call","reader"] b
Rx a b c:=by obtain⟨t,rfl⟩:=VW a;obtain⟨b,c⟩:=argBest_gt (numAt xs) (zX - 1)
Ry a b:=a5 a ["sheet","begin","end"] b
RC:=Builtin.Builtins.bindParams "max" ["key","default"]
RD:=Pt/\(NH y=A?\/NH y=ad fY)
RE a b c:=Wl (by exact a b c)
RF a b:=a5 a ["book","ways","text"] b
RG:=k9 (Nat.ble (zW+1) 1000)
RJ a b c:=fh (a hc hN (b aI) ok hg xK oY hs) (c i ho hx hw hl he)
RK a b c:=∀a,ir b->(∀y,ir y->y<=k)->c
RM a:=jn ("name_count":a) (vN GN)
RN a b c:=ff (∀a:m7,(∀vs H2,kZ H1 (PL b) fz vs)->c)
RO a:=sJ (k! Vu a)
RS a b c:=by simp only[FQ,a,Option.getD_none,oa b,c]
RT a:=nK ["at","x","y"] a
RX a:=hM (a=false) F6._auto_1
RZ:=O4 FM
R0:=by rw[ev zM hz]
R1 a b c:=by rcases a with b|c;(.exact I.ok.has _ gX k);.exact I.ok.has _ jc k
R3 a:=a->gV s2.heap.get?->tS
R4:=call_meetsIn WF z? PySem.F.entry_dict_get bF PySem.F.args_dict_get_3 _
R5 a b c:=a (b hd) (Nat.le_of_ble_eq_true c)
R8 a:=a5 ["first","second"] ["first","second"] a
R_:=io PySem.F.args_tuple_add_2
R!:=sX vs.any bG (pS=k)
R? a:=Vw _ a Z
Sa a b:=U? a b 1
Sb b c d:=∃(b:ab)(c:qu),vs=[Cd]/\aC K H a BZ/\Q i7 d H
Sc:=PB r.drop
Sh a b:=a5 a ["marks","begin"] b
Si a:=bF Vy a
Sj a:=by exact VD _ a
Sk:=NE y=ad c
Sl a b c:=e9 kQ r.later λ a b s3 e=>c
Sm a:=subscriptTail_builtinR (x:=a)
Sr a:=IK wpAny_standAt a
Sv:=wm N_ ?_
Sx a b:=richCompare_meets_room (a:=b)
Sy:=(Nw n).getD 0
SA a b c:=by show(bb (a||b))↔_;rw[Bool.or_false,z8,c,rV]
SB a b c:=by obtain⟨t,e⟩:=(show∃t,u=a from r);subst e;exact b P w c t
SC:=AA kU dH c_
SD a:=Nj a
SF a b c:=by rw[hE,a,Oe];exact rZ b c
SG a b c:=ki X a (λ xs H Q=>∃b ys,xs=[qm]/\(aC a? H p ys\/aJ a? H p ys)/\c)
SH:=∀H,qz b4 (Qd H)
SK a:=z0 y.1=ad a
SL a b c:=by rw[Xd,Xd];apply List.map_congr_left;intro a _;show b=c
SN a:=hM (a≠"__name__") Az._auto_1
SO a:=List.mem_append_right _ a
SQ a:=N0 a
SR a:=typeLookup a "__getitem__"
SS b c d:=BD #[xs,hl] (b (xs:=xs) B1 (pO H2/\bc (J k a2) H') #[Ij,Iz] (λ k a2 H' _ c=>bq d λ s3 _=>dZ H' s3) ?_ ?_)
ST a b:=a b6=ad b
SY a b c:=bindArgs (W0 "__init__" fR (jA st) (cq st) (aw st) eQ kV doc pm a b c) #[us,[]]
SZ:=bD l0
S0:=kQ GQ
S1 a:=a▸F?
S2:=Vg "default"
S3:=cH zF
S5:=k1 "list.append"
S6:=by rw[F0]at h
S7:=by rw[jJ]
S8 a:=scope.names.all λ y=>a
S9 a:=rU h sn (md "cell") a
S' a b c:=∃(aF:ck)(a:Y),bO xs aF/\b/\c
S!:=xA bs.length
S? a b c:=B5 a v ((b s H0 C cl fp).1 H' Ij Q c aN s' I)
Td:=G? zy
Tf a b c:=d2 (fH (aQ.later s1) H! (a<15) (jp j4 s1 b) c)
Tg:=b<Gg
Ti:=b6+1
Tk a:=a (WA e)
Tl:=GR l? Mt.STEPS n
Tm:=F'+64<vE
Tn:=vY 16
To:=z0 x
Tp:=(n,Wj)
Tr a b c:=a fR b c ad around builtins
Ts a:=W4 K a
Tv:=bs.map F2
Ty c d e:=c a b d e n n2 dd lC sl lq ns ms
Tz a:=Xl a
TB a b c:=_B.Ws hR.dc hk (a:=Ol) (b:=c)
TC a b c:=abE F4 λ iW a b c=>?_
TD:=h1.IsList l fN
TF a b c:=∃f fd,Mk K C f/\a "__init__" fR b f c
TH:=Md X "list.extend"
TJ:=vY 0
TK:=vY 1
TM:=vY 2
TN a b c:=e? (wpAny_mono a b c)
TQ a:=Vv p a
TU a:=g! (by exact a)
TV:=.IfExp c a b al
TW a b c:=g0 a hr b ho fe sg (ae h1 (ae h2 ao fJ) bw) Z d2 #[(qk).parts,c] bw a_ ht
TX:=max 3 GN
T0:=WA e
T1:=IM\/3<=GN
T2 a b c:=a b c MZ M0 n n2 dd lC
T5 a b c:=Wk.done a _ _ b au c tk iX
T_ a:=WZ a
T!:=vT n
T?:=GX n !=0
Ub b c d:=eP a #[f,aK,b,br,c,H0,E] d hr hp _ λ _ h=>h
Uc a:=bT->a
Ud:=fs.length<1000
Ue a:=(a).all Ao
Uf:=B3 _B.Ko
Ug:=cH d?
Uj:=mS b4 i
Um:=r.to.length=1
Us a b c:=BJ A hr 12 a aQ b bv (ag A.g.z6) c
Ut:=k1 "any"
Uu:=k1 "all"
Uy:=Y×r!
UC:=Go<z3
UD:=M4 n
UE:=ms.map iP
UF:=ob.dict=a!
UK:=Bn "tuple"
UL b c d:=b a c dx fs v Z h1 h2 h3 h4 d
UM:=ps.map V.ref
UN a b c:=λ hx=>a Au b (c6 λ c _=>?_)
UO:=n.testBit 31
UQ:=Bn "dict"
UR:=xs.filter t
UU:=rL o i
UV:=j<b4
UX:=[d?]
UY:=ns.count k
UZ:=gD b4
U1:=F.binds hb
U2:=k<GE
U4:=GC s
U6:=zT hk
U8:=e4 A.g.um
U9:=vG (·.2)
}
section z
section _L
namespace _H
open lR lS
section
variable{eJ:cr}{w:cs}{A:dz}{E:d4}{s:ax}
variable{vl vu:a7}{hi lo:gl}{Q:d4}{sl:ab}
def z:={
agq{t b:ab}{vs ws:ck}(ht:vw gu t MZ)(hb:vw gu b M0)(hv:vs≠[])(h1:ws=[]->Q bD t s)(h2:ws≠[]->Qc n9 (vs++ws))(cv:j5 (zy+ws.length)):ka (binaryOp .Add MJ ig) Q E:=by obtain⟨⟨cls,dd,rH,sl⟩,ho,hc,n,hd⟩:=id ht;obtain⟨⟨Rt,lC,data2,lq⟩,qg,uQ,n2,hd2⟩:=id hb;simp only at hc hd uQ hd2;subst hc hd uQ hd2;(have e:MZ++M0=n9 (vs++ws):=by simp);by_cases hw:ws=[];(.exact QW U_ U' R_ (T2 tuple_addW1 t b sl lq ip hv (by simp[hw])) #[ho,qg,h1 hw]);.refine QW U_ U' R_ (T2 tuple_addW2 t b sl lq ip hv ip hw (by rw[CA,cv])) #[ho,qg,?_];rw[e];exact h2 hw
cA.1(n d:Y):gl->Y|a!=>d|jD=>if v<0 then gg ze else LV
aky(n d:Y):cA n d a!=d:=rfl
xt(n d k:Y):cA n d ad oX=min k n:=by show(if oX<0 then gg (kW k+c9)else min gg oX n)=min k n;rw[kH (by exact QQ),vx]
ao4(n d:Y)(hd:d<=n)(o:gl):cA n d o<=n:=by cases o with|a!=>exact hd|dL v=>show D6 gg ze LV<=n;by_cases hv:v<0;(.rw[jz hv,ahe hv]);.rw[lz hv,U! _ _]
aal(v:a3)(n d:Y):D6 (max ze 0) (min v c9)=eU (cA n d jD):=by show D6 (max ze 0) (min v c9)=eU D6 gg ze LV;by_cases hv:v<0;(.simp only[e! hv];exact amz);.simp only[fG hv];exact ahy hv
aCe(lo hi:gl)(n:Y):Sa lo hi c9=(yV zh,eU (cA n n hi)):=by(have h1:¬((1:a3)<0):=by exact aFN);unfold U?;rw[Do h1,dR Prod.ext ?_];(.cases lo with|a!=>rfl|dL v=>exact aal v n 0);.cases hi with|a!=>rfl|dL v=>exact aal v n n
aDv(i j:Y):J0 cH i cH j=j - i:=by unfold Va;(have h1:rl>0:=by exact Int.one_pos);simp only[h1,o7,Int.ediv_one];split<;>omega
T9{v:a7}{o:gl}{Q:gl->L0}(p:o8 v o)(h:Q o s):fj wP A (Builtin.Slice.slicePartIndex v) Q E s:=by cases p with|a!=>exact Vc h|int i t=>exact slicePart_int h
aMi{n:Y}{Q:a3×a3×Y->L0}(hs:Kn vl vu eQ)(pl:o8 vl lo)(pu:o8 vu hi)(h:Q (yV zh,1,cA n n hi - zh) s):ka (Vf Fg (kI c9)) Q E:=by rw[hY id hs λ os Ca s_ Ex=>?_];unfold Vf Builtin.Slice.sliceFields;rw[j3 e? Lp (LI Ca Ex (x:=vl)) Z Lp (LI Ca Ex (x:=vu)) Z (LI Ca Ex (x:=eQ) Z (fa ?_)),j3 Vc ?_,kT _ Lt ((1:a3)==0) _ _ s];rw[La];rw[ci Lp T9 pl (T9 pu wm e? ?_),kT _ (match Sa lo hi c9 with|(lo,hi)=>fB (lo,rl,J0 lo hi)) s];rw[aCe lo hi n];show fj _ _ (kI (yV zh,rl,J0 eU zh eU (cA n n hi))) _ _ s;rw[aDv];exact fa h
auY(xs:ne)(i k:Y):n9 ((BB).filterMap λ(m:Y)=>xs[(Mm).toNat]?)=DS (xs.toList.drop i) k:=by(have e:(λ(m:Y)=>xs[(Mm).toNat]?)=λ m=>xs[i+m]?:=by funext m;(have:gg Mm=i+m:=by exact aIJ);rw[cc]);rw[e];have:=pick_run xs i k;rw[List.filterMap_map]at cc;have e2:((qd (xs[x]?))∘λ x=>i+x)=λ m=>xs[i+m]?:=rfl;rw[e2]at cc;rw[cc]
avQ{t:ab}{fN:ne}(ht:vw gu t fN)(hs:Kn vl vu eQ)(pl:o8 vl lo)(pu:o8 vu hi)(hw:¬(tp=0/\Be=g?))(h:Qc DS J! BM)(cv:pY g?):ka (rL MJ Fg) Q E:=by(have Ir:sizeOk (.seq DS J! BM):=by show j5 ((J!).take BM).toArray.size;rw[jJ,FI,M5,M6];exact aEs cv);have hj:Be<=g?:=ao4 _ _ (kJ _) hi;rw[hY id hs λ os Ca s_ Ex=>?_];have hTs:zA Fg "slice":=bm os Ca s_;unfold rL;(try with_reducible refine zB ?_);(first|rw[j3 fa ?_]|skip);rw[ci (wpAny_sequenceKey FJ cS ?_),ci (wpAny_callSpecial?_slot (name:=Vg "__getitem__") FJ Vh (wpAny_call_entry Vh FJ entry_tuple_getitem ?_ io args_tuple_getitem)),kT _ (Builtin.Tuple.tupleItemsOf MJ>>=_) s,ci (tupleItemsOf_ ht ?_),ci (FK hTs ?_)];rw[G9 g!];rw[ci (aMi hs pl pu ?_)];(have gL:¬(sv (yV tp==0&&rl==1&&QN)):=by intro q;rw[jN,jN]at q;have q1:eU tp=0:=eq_of_beq q.1.1;have q2:Be - tp=g?:=eq_of_beq q.2;exact hw #[gn YL q1,by exact aG5 q1 q2]);rw[kT _ Lt (yV tp==0&&rl==1&&QN) _ _ s];rw[fG gL,auY];first|exact CU Km fa wz Z fa h Ir|exact CU Km e? qD L3 _ Ir|exact e? (CU (FL qD L3 _ Ir))|exact e? (CU Km fa L3 _ Ir)
}
section z
section _H
namespace _L
open lR o9 lS
variable{da:eX}{aq:cR (ii×V)}{g:TG}{n t' j:Y}{α:Type}{tt:TT}{x:V}{us its':ck}{own:qX}{fc elt c:a6}{ifs:c!}{env:Env}{Qd:h!}{H' H1:Hp}{K:bT}{wi:TI}{jO:bh}{tO:Ee}{h':d1}{fN:ne}{M:Model}
def z:={
TO.2:=St->Hp->(gl->h!)->Prop
PO.1(X:Cx)(e:uX)(t:TO):Prop:=∀(aN:ez)(s:ax)(σ:St)(H:Hp)(Q:gl->h!),cD->t σ H Q->wk sj evalPart e (λ u s'=>∃o H',Dx/\o8 u o/\Q o H') lW
aC0.1:TO:=λ _ H Q=>Q a! H
ati.1(t:TE):TO:=iN g9 t x (∃i,x=e5 i/\Q ve H1)
M7{ns:mR}:∀{us:ck},bO mK us->tU us:=by induction ns with|cd=>intro us r;rw[ui r r,eE]|bn n ns ih=>intro us r;rw[Dv r];cases r with|bn r1 r2=>obtain⟨t,e⟩:=r1;subst e;exact vm n t (ih r2)
}
section
variable{X:Cx}{e:a6}{te:TE}{lo hi:uX}{tl th:TO}{al p2:bi}
def z:={
Qa:PO X a! aC0:=by rw[km];rw[Vk];exact fa (aE a! H I eQ h)
zm(h:b? e te):PO X zo (ati te):=by rw[sE Q I hw];rw[evalPart_some];refine bf (fr h s H _ I hw) λ u s1 ary=>aO ary EW x H1 r1;(rw[eq q1 au i auZ q auZ]);rw[e6 r1,(aE ve H1 I1 (.int i t) q)]
Pf.1(X:Cx)(r:yu):Prop:=∀(aN:ez)(s:ax)(σ:St)(H:Hp)(x:V)(v vl vu:a7)(lo hi:gl)(sl:ab)(Q:VK),cD->eL x v->Kn vl vu eQ->o8 vl lo->o8 vu hi->r x lo hi H Q->∃T id,SR MH=fB ad ES/\zA v T/\oh (rL v Fg) EP
tSl.1(r:yu)(te:TE)(tl th:TO):TE:=iN g9 te x m9 tl l (th σ H2 λ u H3=>r x l u H3 Q)
GP{r:yu}(hr:Pf X r)(he:b? e te)(hl:PO X lo tl)(hu:PO X hi th):b? A_ e yU lo hi (tSl r te tl th):=by rw[km,<-M_ (qN he I λ v s1 aH5=>aO aH5 EW x H1 r1),<-wpAny_Slice (tw hl λ vl s2 aFs=>aO aFs (vb l pl Da hu s2 λ vu s3 ant=>aO ant λ u H3 I3 pu q3=>?_))];rw[Vk];refine fa ?_;have I4:fq H3 I? s3 md [vl,vu,eQ]:=I3.kept (t':=s3.toks) λ b ob q=>sw q;refine aO (fr hr I? s3 md [vl,vu,eQ] H3 x v vl vu l u l0 Q I4 r1 (Heap.IsSliceOf.new ..) pl pu q3) λ T id hT ht hg=>?_;show fj mc lV X.w X.A (M' e yU lo hi v SZ) pZ EP σ Q lW I? s3 md [vl,vu,eQ];exact tail_any (ops:=[SZ,v]) ht hT hg (by with_unfolding_all rfl)
gS.1(xs:bQ)(lo hi:gl):bQ:=(PB xs.drop).take JW
ZZ(xs:bQ)(lo hi:gl):cX zi<=b4:=by unfold gS;rw[FI,M5];exact awg
alA.1(K:bT):yu:=λ x lo hi H Q=>∃a xs,ga x/\Eh/\¬(Pd=0/\O?=b4)/\qG p p iM p dO zi
aKI:Pf X (alA a?):=by intro aN s σ H x v vl vu lo hi sl Q I rx hs pl pu h;(rw[b5 (fW h λ a xs aoz hx hw q=>?_) aoz]);rw[d0,hY hC hx λ aF r ht hz=>?_];(have bH:zF=b4:=by rw[ev jJ r.length.symm]);refine(aE ("tuple") _ PyProof.Rows.slot_tuple_getitem.lookup FJ ?_);refine _H.avQ ht hs pl pu (by rw[ev bH hw]) ?_ (by rw[ev bH hz]);rw[bH];rw[oo tK (Kj t' dO zi JU iG ?_) CK (eF (vz (ZZ xs lo hi) hz) _ ((Sc).take JW) LP)]
aLQ.1(K:bT):R2:=kB y (∃a b xs ys,ga x/\y=cx b/\Eh/\aJ K H b ys/\xs≠[]/\RZ/\(ys=[]->Q bD a H)/\(ys≠[]->qG p p iM p dO ME))
bO.LQ{xs:bQ}(r:bO xs us):us=[]↔xs=[]:=by cases r with|cd=>simp|bn _ _=>simp
ao0:de X EU .Add (aLQ a?):=by intro aN s σ H x y v u Q I rx ry h;obtain⟨a,b,xs,ys,rfl,rfl,ha,hb,hx,hz,q1,q2⟩:=h;rw[d0];cases ry;rw[hY hC ha λ aF r1 p1 _=>?_];rw[hY hC hb λ kE r2 p2 _=>?_];rw[<-_H.agq p1 p2 y5 hx r1.LQ.mp Bo (aE eS H I Z (q1 (r2.LQ.mp z))) mi z (by rw[<-r1.length,<-r2.length];exact hz),oo tK (Kj t' dO ME JU iG ?_) (q2 (λ w=>z (r2.LQ.mpr w)) _ tc) (eF (by rw[R0]) _ (r1.append r2) LP)]
}
section z
def z:={
mS.1(n:Y)(i:a3):nG Y:=if 0<=i then(if i<n then ad FN else a!)else if -lD<=i then ad gg (i+n)else a!
kO.1(xs:kA)(i:a3):nG α:=(Uj).bind λ j=>xs[j]?
Xm{i:a3}(h:mS n i=ad j):seqIndex? i n=ad j/\j<n/\ -lD<=i/\i<n:=by unfold mS at h;by_cases h0:0<=i;(.rw[e! h0]at h;by_cases h1:i<n;(.rw[e! h1]at h;have e:FN=j:=K?;exact(fH (by rw[Na h0 h1,e]) (by exact axz h0 e h1) gn aLl h0 h1));.rw[fG h1]at h;cases h);.rw[fG h0]at h;by_cases h1: -lD<=i;(.rw[e! h1]at h;have e:gg (i+n)=j:=K?;exact(fH (by rw[Nb xV h1,e]) (by exact aGB h1 e h0) h1 gn aGs h0));.rw[fG h1]at h;cases h
Yt{xs:kA}{i:a3}{v:α}(h:jB (kO xs i)):∃j,seqIndex? i b4=ad j/\dC xs j v/\UV/\ -(kW b4)<=i/\L8:=by unfold kO at h;cases e:Uj with|a!=>rw[h? e h h]|dL j=>rw[e]at h;refine dm (Xm e) λ h1 h2 h3 h4=>?_;exact(qQ j h1 h h2 h3 h4)
cg{xs:kA}{v:α}(h:dC xs j v):jB (kO xs cH j):=by have hj:UV:=(Nd h).1;(have e:mS b4 cH j=ad j:=by unfold mS;rw[TU tD,g! (by exact Ci hj)];simp);unfold kO;rw[e];exact h
abk(xs:kA)(v:α):jB (kO Ft (-1)):=by((have hl:cX Ft=b4+1:=by simp);have e:mS cX Ft (-1)=ad b4:=by unfold mS;rw[hl,La,TU axL];congr 1;exact agx);unfold kO;rw[e];show jB (Ft[b4]?);simp
qo.1(b:a6):Prop:=∀o i,FO b iQ o i=Nf [o,i] UU
MI.1(X:Cx)(r:R2):Prop:=∀(iU l1:a6)(aN:ez)(s:ax)(σ:St)(H:Hp)(x y:V)(v u:a7)(Q:VK),cD->eL x v->eL y u->r x y H Q->FO l1 iQ v u=Nf [v,u] (rL v u)->oh (M' iU l1 v u) EP
QS.1(X:Cx)(id:kM)(r:or):Prop:=∀(aN:ez)(s:ax)(σ:St)(H:Hp)(x:V)(xs:bQ)(v:a7)(us:ck)(Q:VK),cD->eL x v->bO xs us->r x xs H Q->oh (call (.zE id) (v::us)) EP
}
section
variable{X:Cx}{a b:a6}{ta tb:TE}{al:bi}
def z:={
aaw{r:R2}(hr:MI X r)(ha:b? a ta)(hb:b? b tb)(hs:qo b):b? A_ a b (EF r ta tb):=by rw[km,M_ (LO ha hb I h λ v u s2 x y H2 I2 rx ry q=>hr a b aN s2 σ H2 x y v u Q I2 rx ry q io hs)]
azw.1(K:bT):R2:=kB y (∃p xs i v,tz p/\y=e5 i/\mT aC p/\jB (kO xs i)/\Q v H)
asJ.1(K:bT):R2:=kB y (∃p xs i v,tz p/\y=e5 i/\mT aJ p/\jB (kO xs i)/\Q v H)
amo:MI X (azw a?):=by intro iU l1 aN s σ H x y v u Q I rx ry h hs;(rw[lx (zd h λ p xs i z avK aDj hq he q=>?_) avK aDj]);rw[d0,e6 ry,wC fO hq r,<-B6 (Yt he) λ j h1 h2 h3 h4 h5=>?_,Q1 w w q];by_cases h0:0<=i;(. (have hj:FN=j:=by rw[Na h0 h5]at h1;rw[C!]);exact item_listR rM h0 yO Nr h5 (by rw[hj];simpa using ew) eY hs);. (have hj:gg (i+S3)=j:=by rw[Nb xV h4]at h1;rw[xY hl,C!]);exact Sm w Vr Vt (wpAny_getItem_list_neg (Q:=λ r s'=>r=w/\w8 Q r s') rM xV (by rw[S7]<;>omega) (by exact OD h4 hz hn) (by rw[hj];simpa using ew) #[rfl,eY]) hs
aFp:MI X (asJ a?):=by intro iU l1 aN s σ H x y v u Q I rx ry h hs;(rw[lx (zd h λ p xs i z aHU arc hq he q=>?_) aHU arc]);rw[d0,e6 ry,wC hC hq r,<-B6 (Yt he) λ j h1 h2 h3 h4 h5=>?_,Q1 w w q,Sm w pl.typeIs slot_tuple_getitem.lookup (getItem_tuple (j:=j) (Q:=λ r s'=>r=w/\w8 Q r s') pl yO OD h4 yO Nr h5 (by rw[xY hl,h1]) ip ew #[rfl,eY]) hs]
aIo(aF:ck)(n j:Y)(u:a7):FP (·.setIfInBounds j u) t3=sJ (k! n9 (aF.set j u) n):=by simp[FP]
Inv.lst{aN:ez}{σ:St}{H:Hp}{s:ax}{p:ab}{xs:bQ}(I:cD)(h:mW p):S' n ke p t3 KM:=by refine xH u9 p h λ z aF n r e=>?_;exact(aE aF n r e z)
Inv.aFk{aN:ez}{σ:St}{H:Hp}{s:ax}{p:ab}{xs ys:bQ}{aF:ck}{n':Y}{f:Obj->Obj}(I:cD)(h:mW p)(ho:ke p t3)(hf:f t3=RO n')(r:bO ys its')(hz:Ds)(t:Y):fq yH ys yz s TQ f t:=by(have e:(TQ f).get? p=ad RO n':=by rw[Vw f ho (by rw[hf]<;>rfl),hf]);rw[oo (Lr x p p (by rw[h];trivial) jw (λ b u hb q=>(HS _ _ hb).o! q) #[_,e] ?_) (pq hz its' n' r e)]
aKP.1:V->V->V->Hp->(Hp->Prop)->Prop:=λ o i v H Q=>∃p xs k j,o=cx p/\i=e5 k/\mW p/\mS b4 k=ad j/\Q yH (xs.set j v)
set_list:S4 X aKP:=by intro aN s σ H o i v ov iv u Q I ro ri rv h;(rw[lx (zd h λ p xs k j aKy azc hp hj q=>?_) aKy azc]);cases ro;rw[e6 ri,<-aO (I.lst hp) λ aF n r ho hz=>?_,<-dm (Xm hj) λ h1 h2 h3 h4=>?_];have hl:=zN;have hn:=A4;have I':fq yH (xs.set j v) j6 s K1 p ((·.setIfInBounds j u)):=I.aFk hp ho (aIo aF n j u) (r.set rv j) (by rw[ev VC hz]) zH;by_cases h0:0<=k;(. (have hk:k.toNat=j:=by rw[Na h0 h4]at h1;rw[C!]);exact PySem.W.ki_setAt ho h0 yO Nr h4 (by rw[xY hl,h4]) (by rw[hk];exact e9 I' q));. (have hk:gg (k+S3)=j:=by rw[Nb xV h3]at h1;rw[xY hl,C!]);exact PySem.W.ki_setBack ho xV (by rw[xY hl,h3]) yO OD h3 (by rw[hk];exact e9 I' q)
anF(lo hi:gl)(n:Y):Lo.1=eU (gD n 0 lo)/\Lo.2.1=eU (gD n n hi)/\Lo.2.2=1:=by refine #[?_,?_,rfl];(.cases lo with|a!=>simp[FQ,gD]|dL i=>rw[RS gD (rl>0) o7];by_cases h:i<0;(.rw[KY h,Y3 h]);.rw[Do h,Y5 h]);.cases hi with|a!=>simp[FQ,gD]|dL i=>rw[RS gD (rl>0) o7];by_cases h:i<0;(.rw[KY h,Y3 h]);.rw[Do h,Y5 h]
aHh(aF:ck)(lo hi:gl):slicePick gH lo hi a!=DS (aF.drop (gD zQ 0 lo)) (gD zQ zQ hi - gD zQ 0 lo):=by refine bX (anF lo hi zF) au h1 h2 h3;unfold slicePick;rw[h1,h2,h3];simp only[sliceRange_one,pick_run,jJ]<;>rfl
asz.1(K:bT):yu:=λ x lo hi H Q=>∃a xs,ga x/\mT aC a/\qG p p yH zi
Kv:Pf X (asz a?):=by intro aN s σ H x v vl vu lo hi sl Q I rx hs pl pu h;(rw[b5 (aO h λ a xs ayi hx q=>?_) ayi]);rw[d0,hY fO hx λ aF r ht hz=>?_];have bH:=zN;refine(aE ("list") _ Vt ht.isList.typeIs ?_);refine wpAny_getItem_list_slice ht.isList hs pl pu eQ jd ?_ (by rw[S7]<;>omega);rw[aHh,<-bH];rw[oo tK (Kj t' lst zi JU iG ?_) CK (pq (vz (ZZ xs lo hi) hz) _ 0 ((Sc).take JW) ot)]
il.1:nl|.cB=>bC|.bl _=>bC|e5 _=>bC|.str _=>bC|_=>false
qK.1:V->nl|.cB,.cB=>bC|.bl a,.bl b=>a==b|.bl a,e5 b=>(if a then 1 else 0)==b|e5 a,.bl b=>a==(if b then 1 else 0)|e5 a,e5 b=>a==b|.str a,.str b=>a==b|_,_=>false
ata{A:dz}{s:ax}{y:V}{u v:a7}(ry:kz)(rx:eL x v)(fy:bb (il y))(fx:rm il):SeqAt.EqAt A s u v FB:=by cases y with|cB=>(cases ry;cases x with|cB=>rw[d0,SeqAt.EqAt.same _]|bl b=>rw[d0,SeqAt.EqAt.none_bool b]|int b=>rw[e6 rx,SeqAt.EqAt.none_int b t]|str b=>rw[e6 rx,SeqAt.EqAt.none_str b t]|_=>rw[t4 re fx])|bl a=>(cases ry;cases x with|cB=>rw[d0,SeqAt.EqAt.bool_none a]|bl b=>rw[d0,SeqAt.EqAt.bool_bool a b]|int b=>rw[e6 rx,SeqAt.EqAt.bool_int a b t]|str b=>rw[e6 rx,SeqAt.EqAt.bool_str a b t]|_=>rw[t4 re fx])|int a=>(rw[Ky ry];cases x with|cB=>rw[d0,SeqAt.EqAt.int_none a t']|bl b=>rw[d0,SeqAt.EqAt.int_bool a t' b]|int b=>rw[e6 rx,SeqAt.EqAt.int_int a t' b t]|str b=>rw[e6 rx,SeqAt.EqAt.int_str a t' b t]|_=>rw[t4 re fx])|str a=>(rw[Ky ry];cases x with|cB=>rw[d0,SeqAt.EqAt.str_none a t']|bl b=>rw[d0,SeqAt.EqAt.str_bool a t' b]|int b=>rw[e6 rx,SeqAt.EqAt.str_int a t' b t]|str b=>rw[e6 rx,SeqAt.EqAt.str_str a t' b t]|_=>rw[t4 re fx])|_=>rw[t4 re fy]
ku.1(x:V)(u:a7):bM:=match u with|eQ=>qK .cB x|.bool b=>qK i7 b x|g_ i _=>qK ts x|.str z _=>qK (.str z) x|_=>false
VS{y:V}{u:a7}(r:kz)(f:bb (il y)):ku x u=FB:=by cases y with|cB=>cases r;rfl|bl b=>cases r;rfl|int i=>rw[e6 r];rfl|str z=>rw[e6 r];rfl|_=>rw[t4 re f]
E7{xs:bQ}(h:bO xs us):L2 il->us.any (ku x)=xs.any λ y=>FB:=by induction h with|cd=>exact λ _=>rfl|bn r t ih=>intro f;rw[FR,jN]at f;rw[rO,rO,VS r f.1,ih f.2]
HZ{A:dz}{s:ax}{v:a7}(rx:eL x v)(fx:rm il){xs:bQ}(h:bO xs us):L2 il->∀u∈us,SeqAt.EqAt A s u v (ku x u):=by induction h with|cd=>exact λ _ u hu=>by cases hu|bn r t ih=>intro f u' hu;rw[FR,jN]at f;rcases tQ hu with rfl|hu;(.rw[VS r f.1];exact ata r rx f.1 fx);.exact ih f.2 u' hu
gO.1(x:V)(xs:bQ):bM:=xs.any λ y=>FB
rIn.1(K:bT)(neg:bM):R2:=kB y (∃p xs,y=cx p/\(mT aC p\/mT aJ p)/\rm il/\L2 il/\Q i7 (if neg then !gO x xs else gO x xs) H)
Ob:de X n3 .In (rIn a? iQ):=by intro aN s σ H x y v u Q I rx ry h;(rw[b5 (wy h λ p xs arp hq fx fs q=>?_) arp]);cases ry;rcases hq with hq|hq;(.rw[E! fO SeqAt.in_listAt rM]);.rw[E! hC SeqAt.in_tupleAt pl]
aaM:de X n3 .nu (rIn a? bC):=by intro aN s σ H x y v u Q I rx ry h;(rw[b5 (wy h λ p xs amq hq fx fs q=>?_) amq]);cases ry;rcases hq with hq|hq;(.rw[E! fO SeqAt.notIn_listAt rM]);.rw[E! hC SeqAt.notIn_tupleAt pl]
YG:SG (k1 "len") p (Q dk FM H):=by intro aN s σ H xs us Q I r h;(rw[b5 (aO h λ p ys awF hq q=>?_) awF]);(rw[b5 (ah (vB r) au u aoK rx) aoK]);rw[d0];have hn:=A4;rcases hq with hq|hq;(.rw[P! fO Calls.call_len_list rM]);.rw[P! hC len_tuple pl]
anJ:SG L9 p (∀l,ca (H l)->Q bD l qb l ys):=by intro aN s σ H xs us Q I r h;(rw[b5 (aO h λ p ys ali hq q=>?_) ali]);(rw[b5 (ah (vB r) au u aJ0 rx) aJ0]);rw[d0];have eY:∀(aF:ck),bO ys aF->Ds->∀(h':d1)(c':Y),(∀b o',KO o'->zS b=ad o')->ST zS {cls:=sA,dict:=a!,rH:=k! gH c',slots:=yJ}->w8 Q A9 LW s h':=λ aF r' hz h' c' kp e=>tK (on zG kp iG (show sD fu _ h' _ (.lst ys)from(pq hz aF c' r' e))) CK;rcases hq with hq|hq;(.rw[wC fO hq r',BX];obtain⟨o,ho,hc,n,hd⟩:=rM;exact VE p jw ho hc hd (λ h' c' kp e=>eY aF r' hz h' c' kp e) BQ);.rw[Dr r' hz (hC hq),BX];obtain⟨o,ho,hc,n,hd⟩:=pl;exact VE p t5 ho hc hd (λ h' c' kp e=>eY aF r' hz h' c' kp e) BQ
aj0:ki X UK (λ xs H Q=>∃p ys,xs=[qm]/\((aC a? H p ys/\∀l,ca (H l)->Q bD l iM l dO ys)\/(aJ a? H p ys/\Q bD p H))):=by intro aN s σ H xs us Q I r h;obtain⟨p,ys,rfl,h⟩:=h;obtain⟨u,rfl,rx⟩:=vB r;rw[d0];rcases h with⟨hq,q⟩|⟨hq,q⟩;(.rw[Dr r' hz (fO hq),BX,<-call_tuple_list rM Bc h' kp BQ];have I1:fq H LW s h':=on zT kp;have I2:fq iM VF dO ys j6 s (h'.push sn BY (.seq gH)):=on I1.laid (λ b o e=>j?) iG (show sD fu _ _ _ (.dO ys)from#[hz,aF,r',LP]);exact #[bD VF,_,I2,rfl,q _ G! I1.aR.fresh _]);.rw[Dr r' hz (hC hq),call_tuple_same pl #[qm,H,I,rfl,q]]
S_.1(K:bT)(T:kM)(x:V)(H:Hp):Prop:=match x with|.str _=>T="str"|e5 _=>T="int"|cx p=>(T="list"/\∃xs,mT aC p)\/(T="tuple"/\∃o,K.lookup p=ad o/\o.cls=BY/\o.dict=a!)\/(T="dict"/\((∃aq,dS p dK aq)\/∃aq,dS p dT aq))\/(T="set"/\∃S n,H p=ad (.set S n))|_=>nv
ahz{aN:ez}{σ:St}{H:Hp}{s:ax}{T:kM}{v:a7}(I:cD)(r:eL x v)(ty:S_ a? T x H):zA v T/\∀a,ga v->∃ob,ke a ob/\UF:=by cases x with|str z=>rw[e6 r];cases(show T="str"from ty);exact #[typeIs_str s z t,L5 e e]|int i=>rw[e6 r];cases(show T="int"from ty);exact #[typeIs_int s i t,L5 e e]|ref p=>(cases r;rcases ty with⟨rfl,xs,hq⟩|⟨rfl,o,hk,hc,hd⟩|⟨rfl,hk⟩|⟨rfl,S,n,hk⟩;((.rw[hY fO hq λ aF _ pl _=>?_];refine #[Vr,gr a e];cases e;refine fW pl λ o n e c hd _=>?_;exact rn hd);.refine #[bm o (I.jE p o hk) hc,gr a e];cases e;exact bm o (I.jE _ o hk) hd);(. (have z:∃o,ke p o/\o.ExactDict:=by rcases hk with⟨aq,hk⟩|⟨aq,hk⟩;(.refine Zz u9 p hk λ _ _ _ _ o _ _ e ex _=>?_;exact rn ex);.refine Zz u9 p hk λ _ _ _ _ o _ _ e ex _=>?_;exact rn ex);refine ah z au o e ex;refine #[rn ex.1,gr a e2];cases e2;exact rn ex.2.1);.refine ET u9 p hk λ o _ _ _ e ex _=>?_;refine #[rn ex.1,gr a e2];cases e2;exact rn ex.2.1)|_=>rw[Lg ty]
tBM.1(K:bT)(T:kM)(r:or)(to:TE)(t:TA):TE:=iN g9 to x (S_ K T x H1/\m9 t xs (r x xs H2 Q))
}
variable{o e:a6}{es:c!}{to:TE}{t:TA}{name:a4}{gJ ko:bi}{T id:kM}{r:or}
def z:={
lF(pa:PlainAttrs T)(slot:Slot T name id)(hty:typeOf ES=fB (Bn "method_descriptor"))(hm:QS X id r)(ho:b? o to)(ha:PA X fX t)(Li:f_ De o name j7 j7)(OH:k9 Kf Dw fX (FT ko AY []) fX)(MU:k9 LC ko.line)(hs:g4)(Bs:nH ((Dw es).any (·.1))):b? (.l2 A6 o name gJ fX [] ko) (tBM a? T r to t):=by rw[km,<-wpAny_Call_method_late Li OH MU Z (qN ho I λ v s1 aiW=>fW aiW λ x H1 I1 r1 ty q1=>?_)];obtain⟨h1,h2⟩:=ahz I1 r1 ty;refine(Aw T id pa slot hty h1 h2 ?_);have hA:=ha ko aN s1 σ H1 _ I1 q1;rw[hs]at hA⊢;refine VJ (by show(false||(Dw es).any (·.1))=false;rw[Bs]<;>rfl) (VM ?_);exact bf hA λ us s2 awU=>aO awU vb vs r2 (fr hm s2 H2 x vs v us Q I2 r1 r2 q2)
}
section z
def z:={
Md.1(X:Cx)(id:kM)(r:or):Prop:=∀(aN:ez)(s:ax)(σ:St)(H:Hp)(x:V)(xs:bQ)(v:a7)(us:ck)(Q:VK),cD->eL x v->bO xs us->r x xs H Q->oh (call (.zE id) (v::us)) EP
bO.one(h:bO [x] us):∃u,us=[u]/\eL x u:=by cases h with|bn r t=>cases t;exact e9 Z r
}
section
variable{X:Cx}{aN:ez}{σ:St}{H:Hp}{s:ax}{l b:ab}{xs ys zs:bQ}
def z:={
Inv.Mo{aF:ck}{f:ne->ne}(I:cD)(hH:mW l)(e:ke l t3)(hf:f gH=Vu)(hv:bO ys its')(hz:Ds):fq qb l ys yz s K1 l f t':=by have q:=PySem.IsL.update e f;rw[hf]at q;rw[oo (Lr x l l (by rw[hH];exact trivial) jw (λ b' u hb hu=>(HS gu (FP f) hb).o! hu) #[_,q] ?_) (pq hz its' _ hv q)]
Inv.awd{aF:ck}(I:cD)(hv:bO ys aF)(hz:Ds):fq qb b6 ys yz s (lU sJ (.seq gH)) t':=zG Is iG (pq hz aF 0 hv ot)
Inv.fresh(I:cD):ca (H b6):=tc
Inv.yY(I:cD)(hH:mW l):KM/\S' n L! zQ ke l t3:=by refine xH u9 l hH λ z aF n r e=>?_;exact(F8 z aF n r zN e)
acZ(h:pY n):Nj n=false:=by unfold Nj;exact FV (by exact aya h)
}
section z
section
variable{X:Cx}
def z:={
at7.1:or:=kB vs (∃l xs y,tz l/\vs=[y]/\mW l/\ll/\Q .cB qb l (xs++[y]))
uB:Md X "list.append" at7:=by intro aN s σ H x vs v us Q I rx rv h;(rw[lx (LX h λ l xs y auF axa hH hz q=>?_) auF axa]);rw[d0];(rw[eq rv.one au u axN ru axN]);rw[C0 n r e,<-Nk F.slot_list_append jS e F.entry_list_append io F.args_list_append_2 (PySem.list_append l gH n u (by rw[JY RA hz hl])) #[e,?_],Le (aF++[u]) e (FZ (.bn ru eE))];rw[zM,List.length_singleton];exact Nat.succ_le_of_lt hz
apA.1:or:=kB vs (∃l b xs zs,JO (vs=[ig]) dS b lst zs (Q .cB qb l MG))
EE:TH apA:=by intro aN s σ H x vs v us Q I rx rv h;obtain⟨l,b,xs,zs,rfl,rfl,hH,hB,hz,q⟩:=h;rw[d0];(rw[eq rv.one au u azS ru azS]);cases ru;rw[C0 n r e,<-xI (I.yY hB) λ z2 kE n2 r2 f7 e2=>?_];((have cv:j5 (zF+VP):=by rw[CA,KN hz hl f7]);have aDU:¬(bb (!aF.toArray.isEmpty&&SD (zF+VP))):=by rw[acZ cv,F0];exact Nh);rw[<-QG (AutoSeq1.list_extend_list_list_0 l gH n b Nl n2 aDU (by rw[JY Cv hl z]) gn VQ cv) #[e,e2,?_],Le (aF++kE) e (FZ r2),JX JR hz]
agz.1:R2:=kB y (∃l b xs zs,JO (y=cx b) dS b lst zs qG p p yH MG)
Ri:de X EU .Add agz:=by intro aN s σ H x y v u Q I rx ry h;obtain⟨l,b,xs,zs,rfl,rfl,hH,hB,hz,q⟩:=h;rw[d0];cases ry;rw[C0 n r e,<-xI (I.yY hB) λ z2 kE n2 r2 f7 e2=>?_];(refine PySem.P.add_list e e2 ?_ (by rw[CA,KN hz hl f7]);have ea:gH++Nl=n9 (aF++kE):=by simp);rw[ea];exact(aE bD _ _ (on I.awd (FZ r2) (by rw[JX JR hz])) Z (q _ I.fresh))
}
section z
def z:={
bO.ints:∀{ns:mR}{us:ck},bO mK us->tU us|[],us,h=>by rw[ui h h,IntsAre.nil]|n::ns,us,h=>by rw[jP]at h;cases h with|bn r t=>obtain⟨k,rfl⟩:=r;exact IntsAre.cons n k (bO.ints t)
bO.Px:∀{bs:qu}{us:ck},bO BZ us->us=Tv|[],us,h=>by rw[ui h h];rfl|b::bs,us,h=>by rw[jP]at h;cases h with|bn r t=>cases r;rw[bO.Px t,jP]
zV{a:ab}(r:bO [Cd] us):us=[q?]:=by cases r with|bn r t=>cases t;cases r;rfl
}
section
variable{eJ:cr}{w:cs}{A:dz}{E:d4}{s:ax}{l:ab}{aF:ck}{ns:mR}{Q:d4}
def z:={
aKD(hh:uM)(hl:J')(hi:tU aF)(h:∀h' tk t',(∀b o,js->DL)->Q (.int ns.sum t') qC):ka vg LL [jG] Q E:=by(rw[JP xs];have hn:numsOf (vC xs).toList=ns:=by rw[KG e]);rw[Nm]at hn;rw[e]at hl;refine PySem.sum_intListG hh hl λ h' tk t' hk=>?_;have:=h h' tk t' hk;rw[preSum_eq,VU (by simp),hn];exact cc
aJb(hh:uM)(hl:J')(hi:tU aF)(be:Ea)(h:∀h' tk M t',(∀b o,js->DL)->ir M->(∀a,ir a->a<=M)->Q (.int M t') qC):ka vg wM [jG] Q E:=by(rw[JP xs];have hn:numsOf (vC xs).toList=ns:=by rw[KG e]);rw[Nm]at hn;subst hn;rw[e]at hl;rw[jv cv (0<zX) be,<-PySem.max_intList hh hl cv λ v h' tk hv hk=>?_,Rx hv h1 h2,<-h h' tk _ t hk ?_ λ a ha=>?_];(.rw[Nn];exact VX (by rw[Q!,VZ cv h1]));. (rw[b5 (ah (mem_getD ha) au j hj aE0) aE0]);rw[Q8 h2 j hj]
}
section z
section
variable{X:Cx}
def z:={
aAj.1(K:bT):sK:=λ vs H Q=>IA a ns (vs=[Cd]/\aC K H a mK/\Q dk ns.sum H)
aKW.1(K:bT):sK:=λ vs H Q=>IA a ns (vs=[Cd]/\aC K H a mK/\Ea/\∀m,ir m->(∀y,ir y->y<=m)->Q IS H)
ajl(hc:c5):ki X LL (aAj a?):=by intro aN s σ H vs us Q I r h;(rw[J_ ns aI0 aI0]);rw[ue fO hs hl];rw[zV r];exact aKD (zY hc) F4 No λ h' tk t' hk=>(aE dk _ H U6 zb q)
atq(hc:c5):ki X wM (aKW a?):=by intro aN s σ H vs us Q I r h;(rw[b5 (fW h λ a ns ak2 hs be q=>?_) ak2]);rw[ue fO hs hl];rw[zV r];exact aJb EJ F4 No be λ h' tk m t' hk h1 h2=>(aE dk _ H U6 zb (q m h1 h2))
}
section z
def z:={
abE{eJ:cr}{w:cs}{A:dz}{E:d4}{s:ax}{l:ab}{Q:d4}(hl:Pg fN)(h:∀iW:ax,iW=j6 s (lU wR KE [jG,g_ 0 0])->(s₂.heap.IsListIter b6 l 0/\s₂.heap.IsList l fN)->l≠b6->BS iW):fj wP A (pyIter jG) Q E s:=by(have a8:oE l:=by refine ah hl λ _ e _=>?_;exact o? e);exact V2 hl (h _ Z #[Mf ot,hl.push _] LT a8)
ZP{eJ:cr}{w:cs}{A:dz}{bs:qu}{aF:ck}(e:aF=Tv):TruthOf eJ w A (λ i v=>dC gH i v) KS:=λ i v s Q E hv hq=>by rw[jv qj dC aF i v hv];rw[e,rQ]at qj;(rw[b5 (ah (V3 qj) au b hb akO) akO]);(have hg:Ie=b:=by rw[V4,hb]<;>rfl);have fA:Q Ie s:=hq;rw[hg]at fA;exact V' fA
Np:∀bs:qu,(S!).any KS=Mq|[]=>rfl|b::bs=>by rw[l3,V!,rO,V?,rO,<-Np bs];all_goals rfl
Nq:∀bs:qu,(S!).all KS=Mp|[]=>rfl|b::bs=>by rw[l3,V!,FR,List.all_map,FR,<-Nq bs];all_goals rfl
}
section
variable{X:Cx}
def z:={
aif.1(K:bT):sK:=λ vs H Q=>Sb a bs Mq
amQ.1(K:bT):sK:=λ vs H Q=>Sb a bs Mp
asj(hc:c5):ki X Ut (aif a?):=by intro aN s σ H vs us Q I r h;(rw[J_ bs amI amI]);rw[ue fO hs hl];rw[zV r];have hb:=rv.Px;refine call_any_walk TC e2 st be;subst e2;refine #[_,_,_,_,_,_,_,rfl,LA X.A.in1 EJ _ a be gH,st,ZP hb,au h' tk hk];refine(aE BA H (zT mF eo (hk b o mi fw sw eo)) ?_ q);(.rw[Qw fw eo fw]);.show D_=D_;rw[<-Np,hb,jJ,hE]
atj(hc:c5):ki X Uu (amQ a?):=by intro aN s σ H vs us Q I r h;(rw[J_ bs aKZ aKZ]);rw[ue fO hs hl];rw[zV r];have hb:=rv.Px;refine call_all_walk TC e2 st be;subst e2;refine #[_,_,_,_,_,_,_,rfl,LA X.A.in1 EJ _ a be gH,st,ZP hb,au h' tk hk];refine(aE BA H (zT mF eo (hk b o mi fw sw eo)) ?_ q);(.rw[Qw fw eo fw]);.show D_=D_;rw[<-Nq,hb,jJ,hE]
}
section z
mutual inductive Dp(K:bT)(H:Hp):V->ef F5
 |cB:Dp K H .cB eQ
 |bl(b:bM):Dp K H i7 b xL b
 |int(i:a3):Dp K H ts ts
 |str(x:a4):Dp K H (.str x) (.str x)
 |lst{a:ab}{xs:bQ}{ds:uW}:mT aC a->vI K H xs ds->Dp K H eS (.list ds)
 |dO{a:ab}{xs:bQ}{ds:uW}:Eh->vI K H xs ds->Dp K H eS Fe ds inductive vI(K:bT)(H:Hp):bQ->uW->Prop
 |cd:vI K H [] []
 |bn{v:V}{vs:bQ}{d:F5}{ds:uW}:Dp K H v d->vI K H vs ds->vI K H MP (d::ds)end
section
variable{X:Cx}{aN:ez}{σ:St}{H:Hp}{s:ax}
mutual theorem F9(I:cD):∀(d:F5)(v:V)(u:a7),Dp a? H v d->eL v u->∃as,Reads gu u d as|eQ,_,_,h,r=>by cases h;cases r;exact #[_,Reads.none]|.bool b,_,_,h,r=>by cases h;cases r;exact #[_,Reads.bool b]|e5 i,_,_,h,r=>by cases h;rw[e6 r,#[_,Reads.int i t]]|.str x,_,_,h,r=>by cases h;rw[e6 r,#[_,Reads.str x t]]|.list ds,_,_,h,r=>(by cases h with|lst hs ha=>cases r;rw[hY fO hs λ aF rv apZ _=>fW apZ λ o n ho hc _ hd=>?_];obtain⟨as,hr⟩:=KX aF ha rv;exact #[_,Reads.list ho hc hd hr])|.tuple ds,_,_,h,r=>(by cases h with|dO hs ha=>cases r;rw[hY hC hs λ aF rv asC _=>xN asC EX ho hc n];obtain⟨as,hr⟩:=KX aF ha rv;exact #[_,Reads.tuple ho hc hd hr])|.dict _,_,_,h,_=>by cases h theorem Wb(I:cD):∀(ds:uW)(vs:bQ)(us:ck),vI a? H vs ds->bO vs us->∃as,ReadsAll gu us ds as|[],_,_,h,r=>by cases h;cases r;exact #[_,ReadsAll.nil]|d::ds,_,_,h,r=>by cases h with|bn h1 h2=>cases r with|bn r1 r2=>obtain⟨as,q1⟩:=F9 I d _ _ h1 r1;obtain⟨bs,q2⟩:=KX _ h2 r2;exact #[_,ReadsAll.cons q1 q2]end
section z
section
variable{X:Cx}
def z:={
anS.1(K:bT):R2:=kB y (∃d e,Dp K H x d/\Dp K H y e/\K2 d/\bb (F_ e)/\Q i7 (Nt d e) H)
Pu(hu:Tm):de X n3 .Eq (anS a?):=by intro aN s σ H x y v u Q I rx ry h;refine wy h λ d e hd he sd se q=>?_;obtain⟨as,r1⟩:=F9 I d x v hd rx;obtain⟨bs,r2⟩:=F9 I e y u he ry;exact SeqAt.compareEq_shaped r1 r2 sd se hu (aE BA H I Z q)
}
section z
def z:={
adv.2(h:d1)(c:ab)(v:sy):Prop:=h.IsCell c v
ayU.1(da sc:eX):eX:={da with dP:=scope.names.map λ qi=>if(HX (k==fY))then(n,f8)else qi}
gi.1(jO:bh):lf->bh->bh|[],bd=>bd|E1,bd=>if Ce then gi jO r ((n,Kq)::bd)else gi jO r bd
ab8(env:Env)(f:a4×Nu->bh->Sem (ForInStep bh))(hf:∀n k c,f qi c=if Ce then(do let a<-cellOf env n;fB (.yield ((n,a)::c)))else fB (.yield c)):∀(dP:lf)(bd:bh),(∀y∈dP,B8->∃c,Nw y.1=ad c)->forIn dP bd f=kI (gi F! dP bd)|[],bd,_=>by rw[Wc];rfl|E1,bd,h=>by rw[List.forIn_cons,hf];have ih:=λ bd=>ab8 env f hf r bd λ y hy=>h y Bl hy;show _=fB (if Ce then gi F! r ((n,Sy)::bd)else gi F! r bd);by_cases hk:(bb w3 k);(.rw[e! hk,e! hk];obtain⟨c,hc⟩:=h qi F? ip hk;(have e:cellOf env n=fB c:=by unfold cellOf;rw[hc]);rw[e];(have e2:Sy=c:=by rw[hc];rfl);rw[e2];exact ih _);.rw[EM,EM];exact ih _
aw2(h:xn (B8->∃c,Nw y.1=ad c)):closureFor da env=kI (gi F! nA []):=by simp only[closureFor];rw[ab8 env _ (λ n k c=>rfl) nA [] h];rfl
Ny{l:pD α}{n:a4}{c:α}(h:(n,c)∈l):∃c',l.lookup n=ad c':=by induction l with|cd=>cases h|bn q r ih=>obtain⟨k,v⟩:=q;rw[z1];cases hb:n==k with|bC=>exact zb|false=>rcases DB with e|h;(.cases e;simp at hb);.exact ih h
Rq:∀{dP:lf}{bd:bh}{n:a4}{c:ab},(n,c)∈tI gi jO->(n,c)∈bd\/((n,fY)∈dP/\c=Kq):=by intro dP;induction dP with|cd=>exact λ h=>.inl h|bn q r ih=>intro bd n c h;obtain⟨m,k⟩:=q;have h:(n,c)∈QM jO m ((Nv m).getD 0):=h;by_cases hk:(bb w3 k);(.rw[e! hk]at h;rw[jv hk (k=fY) hk];rcases ih h with h|⟨h1,h2⟩;(.rcases DB with e|h;(.cases e;rw[oM #[S1 hk,rfl]]);.exact .inl h);.rw[oM #[CV,h2]]);.rw[EM]at h;rcases ih h with h|⟨h1,h2⟩;(.exact .inl h);.rw[oM #[CV,h2]]
aBy:∀{dP:lf}{bd:bh}{p:a4×ab},p∈bd->p∈tI gi jO:=by intro dP;induction dP with|cd=>exact λ h=>h|bn q r ih=>intro bd p h;obtain⟨m,k⟩:=q;show p∈QM jO m ((Nv m).getD 0);by_cases hk:(bb w3 k);(.rw[jz hk,ih Bl h]);.rw[lz hk,ih h]
I_{jO:bh}:∀{dP:lf}{bd:bh}{n:a4},(n,fY)∈dP->(n,Kq)∈tI gi jO|(m,k)::r,bd,n,h=>by unfold gi;rcases DB with e|h;(.cases e;exact aBy F?);.split;(.exact I_ h);.exact I_ h
Dq:∀{dP:lf}{h:d1}{bd:bh}{x:a4}{c:ab},JL (x,c)->(x,c)∈bd\/((x,f8)∈dP/\z3<=c/\adv (NB h dP) c a!)|[],_,_,_,_,h=>.inl h|E1,h,bd,x,c,hm=>by unfold pc at hm;unfold NB;split at hm;(.rename_i hk;rw[jz hk,jv hk (k=f8) hk];rw[<-S9 (.cell a!)]at hm;rcases Dq hm with hm|⟨h1,h2,h3⟩;(.rcases tQ hm with e|hm;(.cases e;rw[oM (Fh S1 hk iG _ (Wf r _ _ _ ot) Z)]);.exact .inl hm);.rw[KA h2,oM #[CV,Ga h2,h3]]);.rename_i hk;rw[lz hk];rcases Dq hm with hm|⟨h1,h2,h3⟩;(.exact .inl hm);.rw[oM #[CV,h2,h3]]
E9:∀{dP:lf}{n:Y}{bd:bh}{p:a4×ab},p∈bd->p∈tI pc n|[],_,_,_,h=>h|(m,k)::r,n,bd,p,h=>by unfold pc;split;(.exact E9 Bl h);.exact E9 h
LF:∀{dP:lf}{n:Y}{bd:bh}{x:a4},(x,f8)∈dP->∃c,(x,c)∈tI pc n|(m,k)::r,n,bd,x,h=>by unfold pc;rcases DB with e|h;(.cases e;exact #[n,E9 F?]);.split;(.exact LF h);.exact LF h
L':∀{dP:lf}{h:d1}{bd:bh}{x y:a4}{c:ab},(∀p∈bd,p.2<z3)->(∀x y c,(x,c)∈bd->(y,c)∈bd->x=y)->JL (x,c)->JL (y,c)->x=y|[],_,_,_,_,_,_,hi,h1,h2=>la hi h1 h2|E1,h,bd,x,y,c,hl,hi,h1,h2=>by unfold pc at h1 h2;split at h1;(.rename_i hk;rw[e! hk]at h2;rw[<-S9 (.cell a!)]at h1 h2;refine L' (h:=h.push _) E2 (λ x y c a b=>?_) h1 h2;(.rw[rU];rcases tQ hp with rfl|hp;(.exact Nat.lt_succ_self _);.exact NC (hl p hp));.rcases FS a with e|a<;>rcases FS b with e'|b;((.cases e;cases e';rfl);.cases e;rw[i? (hl _ b) xu]);(.cases e';rw[i? (hl _ a) xu]);.exact la hi a b);.rename_i hk;rw[EM]at h2;exact L' hl hi h1 h2
ay0{A:dz}{E:d4}{s:ax}{ND:ab}{Gb:bh}{fR:a4}{func:ly}{code:a7}{around:Env}{builtins:ab}{Q:su Env}(h:Q Tr (newEnv da b6 ND Hj (b6+1) Gb) func code j6 s B2):fj M A Tr (Wg da ND Gb []) func code Q E s:=by simp only[Wg,Wi,o7];rw[j3 wpAny_alloc ?_,ci bF (wpAny_layCells _ (λ n k c=>rfl) nA Gb) ?_];rw[y8 (EK {s with rG:=lU nO}).heap.objs.size Ti (rU ..)];rw[Wc];exact e? qD h
Jv{sc:eX}:∀{dP:lf}{x:a4}{k:Nu},(names.map λ qi=>if(HX w3 k)then Tp else qi).lookup x=ad k->∃k',names.lookup x=ad k'/\(k=k'\/(k'=fY/\k=f8))|[],_,_,h=>by simp at h|(n,k₀)::r,x,k,h=>by have ih:=@Jv sc r x k;have h':List.lookup x (Lt I0 Tp (n,k₀)::(r.map _))=ad k:=h;cases hx:x==n with|bC=>simp only[z1,hx];by_cases hc:(bb I0);(.rw[e! hc]at h';rw[CL hx h'];cases h';simp only[jN,rV]at hc;exact e_ k₀ jc #[hc.1.1,rfl]);.rw[fG hc]at h';rw[CL hx h'];cases h';exact e9 Z jw|false=>simp only[z1,hx];by_cases hc:(bb I0);(.rw[e! hc]at h';rw[CL hx h',ih h']);.rw[fG hc]at h';rw[CL hx h',ih h']
}
structure dh(N:dp)(sc da:eX)(own:qX):Prop where
 kind:scope.kind=wI
 uniq:xn (vF y.1=ad y.2)
 ix:∀p∈own,N[p.2]?=ad p.1
 free:xn (B8->SK f8\/SK fY)
 own:xn (y.2=.local\/y.2=f8->y.1∈LD\/y.1∉N)
def z:={
rW.1(σ:St):c?->St|[]=>σ|v::vs=>(mz).set v a!
J3(σ:St):∀vs:c?,cX mz=σ.length|[]=>rfl|v::vs=>by unfold rW;rw[VC,J3 σ vs]
Ot{σ:St}{i:Y}{x:V}:∀{vs:c?},mz[i]?=ad xl->dC σ i xl/\i∉vs|[],h=>#[h,Hl]|v::vs,h=>by unfold rW at h;by_cases hi:v=i;(.subst hi;by_cases hv:v<cX mz;(.rw[List.getElem?_set_self hv]at h;cases h);.rw[Wl (by simpa using hv)]at h;cases h);.rw[List.getElem?_set_ne hi]at h;obtain⟨h1,h2⟩:=Ot h;exact #[h1,by simp only[List.mem_cons,not_or];exact #[λ e=>hi e.symm,h2]]
Cx.cC.2(X:Cx)(s:ax)(H:Hp)(da:eX)(eR:Env)(fp:bA):Cx:={X with iF:=s,Cb:=H,env:=eR,br:=X.stack,ex:=fp,fn:=λ x=>vF x==A?,pn:=[],xe:=λ _ _=>nv}
}
section
variable{X:Cx}{aN:ez}{σ:St}{H:Hp}{s:ax}
def z:={
ag1{fp:bA}(I:cD)(ok:iI)(hN:e7)(uh:u4 b (pZ oU H b/\oE b)):Inv sk s H sm IY b6 [] v1 H j6 s B2:=by(have zD:Qo:=λ y hy e=>by rw[R1 (Ge y hy e) k k]);generalize Cr:sm IY b6=eR;have kp:∀b o,js->gV (B2).get?:=mF e Ki j?;((have hL:z4=b6:=by rw[<-Cr];rfl);have ib:eR.cells=IY:=by rw[<-Cr];rfl);(have bJ:eR.scope=ayU da Gd:=by rw[<-Cr];rfl);rw[<-rU gu nO]at ib;(have cm:∀{y c},(y,c)∈A7->Sk/\oE c:=λ{y c}hm=>by rcases Rq hm with hm|⟨h1,rfl⟩;(.cases hm);.obtain⟨c,hc⟩:=zD _ h1 Z;rw[hc];obtain⟨w,z⟩:=bF I.cell hc;exact #[rfl,z.lt]);((have mem:∀{y c},m?->(NE y=ad c/\oE c)\/(b6+1<=c/\adv B2 c a!):=λ{y c}e=>by rw[ib]at e;rcases Kd Dq with hm|⟨_,h2,h3⟩;(.exact .inl (cm hm));.rw[KA h2,oM #[h2,h3]]);have look:∀{y},Pt->∃c,m?/\Sk:=λ{y}hl=>by have hy:(y,Wd)∈nA:=Dl hl;obtain⟨c',e'⟩:=Ny (E9 (dP:=nA) (n:=P?) (I_ (jO:=Wm) (bd:=[]) hy));rw[<-ib]at e';refine bm c' e' ?_;rw[ib]at e';rcases Dq (z5 e')with hm|⟨h1,_,_⟩;(.exact(cm hm).1);.have:=NF _ h1;rw[h? hl cc cc]);(have okB:(sk s H eR).Ok:=by(refine #[I.ok.mod,by show eR.scope.kind=_;rw[ev bJ ok.kind],by show eR.globals=_;rw[<-Cr];exact I.ok.glob,by show eR.builtins=_;rw[<-Cr];exact I.ok.blt,by show b6<=z4;rw[hL];exact kJ _,λ y z c e1 e2=>?_,gr y hy,λ y c z e=>?_,zY,I.ok.frames,.inl Z,zt b #[?_,λ y c e z=>?_],I.bs,LE I.ok.pL I.sz,λ b o e hb=>?_,au b hb z,I.stack,I.W_];.have e1:m?:=e1;have e2:Wr z=ad c:=e2;rw[ib]at e1 e2;refine L' E2 (λ y z c a b=>I.ok.inj y z c (cm a).1 (cm b).1) (z5 e1) Dl e2;rw[rU];exact NC (cm (y:=p.1) (c:=p.2) hp).2);(((.show∃c,m?;(have key:∀k,NH y=ad k->(k=f8\/k=fY)->∃c,m?:=λ k hk cj=>by unfold Env.kindOf at hk;rw[bJ]at hk;rw[j! Jv hk au k' e r];(have:k'=f8\/k'=fY:=by rcases r with rfl|⟨rfl,_⟩;(.exact cj);.rw[oM Z]);rcases cc with rfl|rfl;(.obtain⟨c,hm⟩:=Kd (LF (n:=P?) (bd:=A7));obtain⟨c',e'⟩:=Ny hm;exact #[c',by rw[ev ib e']]);.rw[j! look e λ c h1 _=>?_];exact #[c,h1]);rcases hy with hy|hy;(.exact key _ hy jw);.exact key _ hy t5);.have z:bb (vF y==ad Wj):=z;rw[jv z (vF y=ad f8) z];have e:m?:=e;rw[ib]at e;rcases Kd Dq with hm|⟨_,h2,_⟩;(.rcases Rq hm with hm|⟨h1,_⟩;(.cases hm);.have q:=NF _ h1;rw[h? z q q]);.rw[KA h2,Ga h2]);(.show b≠z4;rw[hL];exact nz (gZ uh).2);.have e:m?:=e;rcases mem e with⟨h1,_⟩|⟨h1,_⟩;(.exact Ei.2.2.2.2.1 y c h1 z);. (have h2:Ti<=b:=by rw[<-z];exact h1);rw[i? (Wt (gZ uh).2 (Ga h2)) xu]);(.rcases Ei.2.2.2.1 with z|z;(.exact I.ok.C1 b o e z);.rw[i? (Wt (o? e) LE I.ok.pL z) xu]);.rcases tQ (I.Ox b z)with z|z;(.exact Ei.2.1 z);.exact Ei.2.2.1 z);(refine #[okB,rfl,I.bare,Un.kept kp,(bm (λ _=>a!) ?_ λ i y av e1 e2 e3=>?_),au y c e,?_,au y c e,gr p hp,I.aR.kept kp,by rw[ev J3 I.len]];.show Heap.Ns _ z4 _;rw[hL];exact Heap.Ns.keeps (Heap.Ns.new ..) mF e Ki e);(((.obtain⟨e2,be⟩:=Ot e2;(have Fo:RD:=by(have key:∀k,eR.scope.names.lookup y=ad k->k=.local\/k=f8\/k=fY->RD:=λ k hk cj=>by have jZ:=hk;rw[bJ]at hk;rw[j! Jv hk au k' e r];(have no:¬(k'=.local\/k'=f8):=λ hh=>by rcases ok.own _ (z5 e) hh with e'|e';(.rw[j! Wv e' au p hp hpy];have e3:=ok.ix p hp;have:p.1=y:=hpy;rw[cc]at e3;exact be (List.mem_map.mpr bm p hp (NA hN e3 e1)));.exact e' (Ww e1));rcases r with rfl|⟨rfl,rfl⟩;(.rcases cj with rfl|rfl|rfl;((.rw[i? jw no]);.rw[i? t5 no]);.exact #[e,.inr jZ]);.exact #[e,.inl jZ]);have e3:mM eR.scope y:=e3;rcases e3 with e3|e3|e3;((.exact key _ e3 jw);.exact key _ e3 jc jw);.exact key _ e3 jc t5);refine ah I.loc au m hn hl;have aq3:Bf mM y:=(Ge _ Dl Fo.1 Z).elim (λ k=>.inr gX k) (λ k=>.inr jc k);rw[<-ah (hl i y av e1 e2 aq3) au w r q,<-bm w r jc #[Fo.2,?_],j! look Fo.1 au c h1 h2];rcases q with⟨k,_⟩|⟨_,c',e',z⟩;(.have k:Hh:=k;rcases Ge _ Dl Fo.1 Z with k'|k'<;>rw[show NK y=_ from k']at k<;>cases k);.rw[h? h2 e' e',(af c h1 (z.keeps kp))]);.have e:m?:=e;rcases mem e with⟨h1,_⟩|⟨_,z⟩;(.obtain⟨w,z⟩:=I.cell y c h1;exact #[w,z.keeps kp]);.exact #[_,z]);.show ca (H z4);rw[hL];exact tc);(.have e:m?:=e;rcases mem e with⟨h1,_⟩|⟨h1,_⟩;(.exact I.kY y c h1);.exact M! (Ga h1));.rw[i? (show p∈([]:ez)++[]from hp) jd]
ayn{E:d4}{D:ab}{xs:bQ}{y:V}{v:a7}{Q:d4}(I:cD)(hD:mW D)(hz:ll)(r:eL y v)(h:∀s',fq sq H D (xs++[y]) s'->vo eQ):wk vg S5 [oD,v] Q E:=by refine xH u9 D hD λ Io aF n ri e=>?_;have hl:=ri.length;refine append_at (cv:=by rw[JY RA hz hl]) e au h' sb jh;refine h LW s h' (on I.write (by rw[hD];trivial) jw (λ b u hb q=>(Fn sb).o! q) #[_,jh] (pq (by rw[R0]) (aF++[v]) (n+1) (ri.append (.bn r eE)) ?_));rw[jh];simp
Dk.1(X:Cx)(ifs:c!)(t:TT):Prop:=∀(aN:ez)(s:ax)(σ:St)(H:Hp)(Q:kP bM),cD->t σ H Q->oh Rd c r (z7 c gA nF c) TP
kh.1:TT:=λ _ H Q=>Q bC H
p5:Dk X [] kh:=λ _ _ _ H _ I h=>wpAny_tests_nil bm H I h
OY{t:TT}(h:PT X c t):Dk X [c] t:=λ aN s σ H Q I hw=>wpAny_tests_one (fr h s H Q I hw)
}
section z
def z:={
yS{t:Sem α}{Q Q':su α}{A:dz}{E:d4}{s:ax}(h:fj M A t Q uY s)(hQ:∀a s,Q a s->Q' a s):fj M A t Q' E s:=nb h hQ λ _ _ z=>False.elim z
aw5{eJ:cr}{w:cs}{A:dz}{R:KF}{s:ax}{Gf:a6}{al:bi}{it bd:a7}(I:su Y)(turn:∀n s,I n s->fj wP A (pyNext it) (λ r l4=>match r with|a!=>R (.ok .next) l4|jD=>xw (letOwnedTupleGo Gf it v) (λ _ Vz=>xw (assign Gf env v) (λ _ iW=>xw Rd c r (z7 c env zp c) (λ ok rX=>He ok xw zp elt (λ x s₄=>xw vg S5 [bd,x] (λ _ s₅=>∃m,m<n/\I m s₅) s₄) rX (∃m,m<n/\I m rX)) iW) Vz) l4) OU A e e s)(n:Y)(h:I n s):C4 (.compLoop QU 0 it bd env) R s:=by refine codeAny_loop Z I j2 n s hI n h;show fj _ A ((compTurn QU 0 it bd env).onRaise qd (do noteFrame x env;theTreesLotGoes x)) _ _ s;refine wpAny_noted ?_;rw[compTurn_list];rw[ci Sr nb (turn n s hI) j2 r l4 h₁ kC _ h' h'];cases r with|a!=>rw[DO h₁]|dL v=>rw[ci nb h₁ (λ _ Vz h₁'=>?_) kC _ h' h',ci nb h₁' (λ _ iW h₂=>TN h₂ j2 ok rX h₃ kC _ h' h') kC _ h' h'];cases ok with|false=>rw[DO #[rfl,h₃]]|bC=>exact e? (e? nb h₃ (λ x s₄ h₄=>TN h₄ (λ _ s₅ h₅=>qD #[rfl,h₅]) kC _ h' h') kC _ h' h')
}
section
variable{X:Cx}
def z:={
lN.1(wi:TI)(g:TG)(tt:TT)(te:TE)(vs:c?):TE:=iN g9 wi J (∀D,rj D->H? w7 (W 0 m w1) (∀i m H,W i m H->(J.stop i H/\Q bD D H)\/(J.go i H/\O5 x J.o_ x)))
Yk{aN:ez}{s:ax}{σ:St}{H:Hp}{Q:VK}{tg:a6}{al hG:bi}{te:TE}{use:nG (a7->Sem Unit)}{Qf:d4}(hc:c5)(hN:e7)(I:cD)(hi:LU wi)(ok:iI)(hg:∀(s:ax)(H:Hp)(C:ab)(cl:bh)(fp:bA),m6 PG tg g)(ht:∀(s:ax)(H:Hp)(C:ab)(cl:bh)(fp:bA),m6 Dk ifs tt)(he:∀(s:ax)(H:Hp)(C:ab)(cl:bh)(fp:bA),m6 PE elt te)(hs:∀x,Wx fc gA x=kI x)(h:w6 (lN wi g tt te) H Q)(hRR:∀D C s' m H',Dx->Q oD H'->s'.heap.Ns C m->pZ oU H' C->Hy compPost lW use Qf oD C (.ok .next) s'):wk QJ hG [] use Qf lW:=by(have zD:Qo:=λ y hy e=>by rw[R1 (Ge y hy e) k k]);refine wpAny_comprehension_free (use:=use) Z hs (aw2 zD) ok.kind (λ y hy e=>by rw[NF y hy,e]) (qN hi I λ xv s1 hx=>bf hx au IF s2 h2);refine zK h2 λ it fp tn J H2 e I2 T sQ f2 q=>?_;subst e;refine FL (ay0 ?_) (by show 0<=rK;decide);generalize hD:Gg=D;have hDn:ca (H2 D):=I2.aR.fresh (NN hD);refine ah (q D hDn) λ W auh turn=>cG auh gr m0 w0;generalize hs3:EK {s2 with rG:=Q3 n9 ([]:ck)}=s3;((have I3:fq wZ s3:=by rw[<-hs3];refine I2.laid (t':=s2.toks) (λ b o e=>j?) (NN hD) (pq (Gh _) ([]) 0 eE ?_);rw[<-hD];rw[Sj Z]);have h3:s3.heap=Q3 n9 ([]:ck):=by rw[<-hs3]);have sz:u4 b Tg:=zt b (by refine ah (T.obj _ _ sQ b hb) λ o e _=>?_;exact o? e);(have f3:u4 b (pZ oU wZ b/\b<l0):=zt b (by have a8:=gZ sz;refine #[#[?_,(gZ f2).2],by rw[h3,rU];exact NC a8];rw[aV (by rw[<-hD];exact nz a8)];exact(gZ f2).1);have yt:tn 0 s3.heap:=la T.keep sQ λ b _ o e=>by rw[h3];exact Vp _ e);have I4:=ag1 I3 ok hN f3;have pg:=IX hg s3;have pt:=IX ht s3;have pe:=IX he s3;show NL _ _ (.compStart tH 0 bD it oD PZ) QK Qf j6 s3 P8;have TR:u4 b ca (wZ b):=zt b (gZ f3).1.1;generalize OW:PZ=ce at I4 pg pt pe⊢;(have cL:NO=l0:=by subst OW;rfl);generalize hH3:wZ=H3 at I3 I4 pg pt pe w0 TR f3;generalize M3:EK {s3 with rG:=P8}=s4 at I4⊢;(have qO:tn 0 s4.heap:=la T.keep yt λ b _ o e=>by rw[<-M3];exact Ki j?);have uT:∀{a2:St}{H':Hp}{s':ax},Inv qn [] a2 H' s'->(∀b∈fp,ca (H' b))->u4 b (oU qn [] H' b):=λ{a2 H' s'}I' hn b hb=>(Fu gZ hn ((gZ I'.ok.F1).1) gZ I'.ok.yF gX hb (λ x c e=>(gZ I'.ok.F1).2 x c e) (λ p hp=>absurd (show p∈([]:ez)++[]from hp) jd));(have loop:NL LK X.A (.compLoop tH 0 bD it oD ce) QK Qf s4:=by refine aw5 (λ n s'=>Qq i i n) ?_ m0 (i5 0 H3 I4 qO TR w0);rintro n s5⟨i,H5,I5,tP,n5,w5⟩;rcases turn i n H5 w5 with⟨stop,qq⟩|⟨go,Nx,hNx,step⟩;(.have td:=T.done qn Z Z Z hc i [] s5 _ H5 uY I5 (uT I5 n5) tP stop;refine yS td λ r s6 al5=>bq al5 gr hr I6;subst hr;(have I7:fq H5 s6:=I3.afJ (ch:=fp) I6.os I6.base I6.aR I6.bare zt b (fH (Er.2.2.2.1) (Er.2.1) (Er.2.2.2.2.1) (Er.2.2.2.2.2));have nC:ca (H5 l0):=by have z:ca (H5 NO):=I6.free;rw[cL]at z;exact z);refine ah I6.loc λ m hn _=>?_;have hn:s6.heap.Ns NO m:=hn;rw[cL]at hn;exact hRR D l0 s6 m H5 I7 qq hn (I3.Cc (kJ _) nC));.have ti:=T.item qn Z Z Z hc i [] s5 _ H5 uY I5 (uT I5 n5) tP go;refine yS ti λ r s6 atG=>ah atG au u hr h6;subst hr;refine yS h6 λ _ s7 aGT=>wy aGT λ x H7 I7 r7 y7 Ph n7=>?_;have I7':=I7.pinned (uT I7 n7) bF T.obj Ph;refine yS (pg _ s7 _ H7 x u _ I7' r7 (step x H7 y7)) λ _ s8 amN=>aO amN λ σ8 H8 I8 VO q8=>?_;refine yS (pt _ s8 σ8 H8 _ I8 q8) λ b s9 ah4=>ah ah4 au H9 I9 q9;(have eY:∀{s':ax}{H':Hp},Inv qn ([]++An fp s7.heap) σ8 H' s'->Nx H'->∃m,m<n/\Qq i i m:=λ{s' H'}I' nx=>by refine ah (hNx H' nx) au m' hm w';(have acp:u4 b (∀o,gV s7.heap.get?->gV s'.heap.get?/\ca (H' b)):=λ b hb o e=>let z:=I'.pin (b,o) SO SO (Ja hb e);#[z.1,z.2.1];have hl:cX v1=σ8.length:=by rw[<-VO,J3]);refine #[m',hm,i+1,H',(I'.Gc (aN:=[])).weak hl E5 v,la T.keep Ph λ b hb o e=>(acp b hb o e).1,gr b hb,w'];(.rw[<-VO]at e;exact(Ot e).1);.refine ah (T.obj _ _ Ph b hb) λ o e _=>?_;exact(acp b hb o e).2);cases b with|false=>simp only[NQ,M1]at q9⊢;exact eY I9 q9|bC=>simp only[o7]at q9⊢;refine yS (pe _ s9 σ8 H9 _ I9 q9) λ z dE ari=>Tb ari λ yv lX I10 r10 bd avr Rp nx=>?_;exact ayn (X:=qn) I10 avr Rp r10 λ zI I11=>eY I11 nx);exact codeAny_compStart_list loop la (T.self X.A 0) qO loop
vL{tg:a6}{al:bi}{te:TE}(hc:c5)(hN:e7)(hi:LU wi)(ok:iI)(hg:∀(s:ax)(H:Hp)(C:ab)(cl:bh)(fp:bA),m6 PG tg g)(ht:∀(s:ax)(H:Hp)(C:ab)(cl:bh)(fp:bA),m6 Dk ifs tt)(he:∀(s:ax)(H:Hp)(C:ab)(cl:bh)(fp:bA),m6 PE elt te)(hs:m1):b? tH (lN wi g tt te U9):=by rw[km];rw[eval_ListComp];refine Yk hc hN I hi ok hg ht he hs h λ D C s' m H' I' q hn f=>(bm m hn λ h'' sb=>?_);refine lT f EY;exact(aE oD H' E' (I'.turned (t':=s'.toks)) b (Fz Fn sb e) Z q)
yC{i:Y}{y:a4}{py:bi}{tg:a6}{al jl:bi}{te:TE}(hc:c5)(hN:e7)(hy:dC X.N i y)(hyl:Hh)(mC:sT tH ad Et jl.line=fB bC)(hi:LU wi)(ok:iI)(hg:∀(s:ax)(H:Hp)(C:ab)(cl:bh)(fp:bA),m6 PG tg g)(ht:∀(s:ax)(H:Hp)(C:ab)(cl:bh)(fp:bA),m6 Dk ifs tt)(he:∀(s:ax)(H:Hp)(C:ab)(cl:bh)(fp:bA),m6 PE elt te)(hs:m1):PS X (.pi [Et] tH jl) (MX (lN wi g tt te U9) (dF i)):=by rw[sE D I h];rw[la exec_Assign_Name_used _ mC];rw[ci Sr ?_,kT X.A (do let _<-QJ (firstIterPos [#[tg,fc,ifs,0]] al) [] ad sj assign Et) s];have h:w6 (lN wi g tt te) H λ x H1=>dF i x σ H1 l5:=h;rw[ci (bf (Yk (Qf:=λ _ s'=>SP X aN D .next s') hc hN I hi ok hg ht he hs h λ L C s' m H' I' q hn f=>?_) λ _ s' hq=>qD hq),kT _ (assign Et gA bD L) _,<-wpAny_assign_Name (aeY (v:=V.ref L) I' hN hy gX hyl Z (λ s2 I2 anw=>ah anw au a sb ha) jc hyl),<-lT f EY];(have haC:C≠a:=by rcases ha with z|z;(.rw[ev z f1]);.exact λ e=>f4 y a z e.symm);rw[oo (bm m (hn.sameBut sb haC) λ h3 sb3=>?_) (cF _ H' E' (I2.turned (t':=s2.toks)) b (Fz Fn sb3 e) q)]
}
section z
def z:={
yq{lo:a3}{te:TE}{vs:c?}{σ:St}{D:ab}(Pv:w7)(h0:Pv 0 w1)(hs:∀i H,i<n->qz i (g AI i mz H Bm b vp Bk vp H3))(hd:∀H,qz n (Qd H)):II MK MK (MK).o_:=by rw[Jk n (i<=n) n];rintro i m H⟨rfl,hi,p⟩;by_cases a8:i<n;(.rw[Ix a8 (λ H' p'=>IJ (n - j0) a8 p') y];subst e y;exact hs i _ a8 p);.rw[CT n iG (hd H p)]
FA{a:ab}{xs:bQ}{te:TE}{vs:c?}{σ:St}{D:ab}(Pv:w7)(h0:Pv 0 w1)(hl:∀i H,yW->qz i mT aC a)(hs:∀i x H,p! i x qz i (g x mz H Bm b vp Bk vp H3))(hd:SH):II (uR K a) (uR K a) (uR K a).o_:=by rw[Jk b4 yW b4];rintro i m H⟨rfl,hi,p⟩;have q:=hl i H hi p;by_cases a8:L8;(.rw[PR i y q]);.rw[CT b4 (af xs q (kJ _)) (hd H p)]
aCo{a:ab}{xs:bQ}{te:TE}{vs:c?}{σ:St}{D:ab}(Pv:w7)(h0:Pv 0 w1)(hl:∀i H,yW->qz i Eh)(hs:∀i x H,p! i x qz i (g x mz H Bm b vp Bk vp H3))(hd:SH):II (tm K a) (tm K a) (tm K a).o_:=by rw[Jk b4 yW b4];rintro i m H⟨rfl,hi,p⟩;have q:=hl i H hi p;by_cases a8:L8;(.rw[PR i y q]);.rw[CT b4 (af xs q (kJ _)) (hd H p)]
Qs.1(N:dp)(sc da:eX)(own:qX):bM:=(match scope.kind with|wI=>bC|_=>false)&&S8 bG (vF y.1=ad y.2)&&(own.all λ p=>bG (N[p.2]?=ad p.1))&&S8 (match y.2 with|fY=>(match z0 y.1 with|A?=>bC|ad .free=>bC|_=>false)|.local=>bG (y.1∈LD)||bG (y.1∉N)|f8=>bG (y.1∈LD)||bG (y.1∉N)|_=>bC)
d_{N:dp}{sc:eX}(h:bb (Qs N sc da own)):dh N sc da own:=by unfold Qs at h;simp only[jN,Wy,jR]at h;refine bq h λ asw h4=>bq asw λ akX h3=>bq akX gr h1 h2;(refine #[?_,h2,h3,au y hy e,au y hy e];(.split at h1;(.assumption);.cases h1);.have q:=h4 y hy;simp only[e]at q;split at q<;>first|exact .inl (by assumption)|exact .inr (by assumption)|cases q);.have q:=h4 y hy;rcases e with e|e<;>(simp only[e,z8,jR]at q;exact q)
}
section
variable{κ:Type} [Wz κ]
def z:={
b8.1(aq:fI)(k:κ):oR:=jI sX aq.find? bG (pS=k) ((·.2))
gM.1(aq:fI)(k:κ)(v:V):fI:=if(bb ub)then rY (λ kv=>yl (lb=k) v kv)else aq++[(k,v)]
mw{p:κ×V}{r:fI}{k:κ}(e:nq):b8 (p::r) k=ad p.2:=by rw[uf b8 e]
l9{p:κ×V}{r:fI}{k:κ}(e:¬nq):b8 (p::r) k=b8 r k:=by rw[uf b8 e]
yr(k:κ):∀aq:fI,ub=BI lQ|[]=>rfl|p::r=>by rw[rO];by_cases e:nq;(.simp only[uo,z9 e,Bool.true_or,Wi]);.rw[uq,FV e,Bool.false_or];exact yr k r
Xb(k j:κ)(y:V):∀aq:fI,b8 (rY λ kv=>yl (lb=k) y kv) j=jI FF λ x=>if j=k then y else x|[]=>rfl|p::r=>by have ih:=Xb k j y r;rw[jP];by_cases h:nq;(.rw[jz h,Rm (mw (p:=(p.1,y)) e) (g! (e.symm.trans h)) (l9 (p:=(p.1,y)) e)]);.rw[lz h,Rm (mw (p:=p) e) fG y5 h e.trans (l9 (p:=p) e)]
PK(k j:κ)(y:V):∀aq:fI,ca lQ->b8 (aq++[(k,y)]) j=if j=k then ad y else FF|[],_=>by by_cases e:k=j;(.rw[jz e.symm,mw (p:=(k,y)) e]);.rw[lz Bo (e z.symm),l9 (p:=(k,y)) e]|p::r,hn=>by rw[List.cons_append];(have hk:¬nq:=λ z=>by rw[mw z]at hn;cases hn);rw[l9 hk]at hn;have ih:=PK k j y r hn;by_cases e:p.1=j;(.rw[uo,uo,fG y5 hk e.trans]);.rw[uq,uq,ih]
kr(aq:fI)(k j:κ)(y:V):b8 (gM aq k y) j=if j=k then ad y else FF:=by unfold gM;by_cases a:(bb ub);(.rw[g! a,Xb];rw[yr]at a;by_cases e:j=k;(.obtain⟨x,hx⟩:=Option.isSome_iff_exists.mp a;rw[zc,e,hx,NR,e! Z]);.rw[u6];cases FF with|a!=>rfl|dL x=>rw[NR,u6]);.rw[kH a];refine PK k j y aq ?_;rw[yr]at a;cases q:lQ with|a!=>rfl|dL x=>rw[q]at a;exact(a Z).elim
pW(aq:fI)(k:κ)(v:V):cX rb<=pj+1:=by unfold gM;split;(.rw[ev hE MA]);.rw[zM,l3,Gj];exact atW
DD{aq:fI}{k:κ}(v:V)(h:ca lQ):gM aq k v=aq++[(k,v)]:=by unfold gM;rw[yr,h];exact La
ji.Aq{o:oR}{u:sy}(r:ji o u):z_=u.isSome:=by cases o with|a!=>(cases u with|a!=>rfl|dL _=>rw[DG nv r])|dL _=>cases u with|a!=>rw[DG nv r]|dL _=>rfl
ji.getD{o:oR}{u:sy}{d:V}{d':a7}(r:ji o u)(rd:eL d d'):eL (o.getD d) (u.getD d'):=by cases o with|a!=>(cases u with|a!=>exact rd|dL _=>rw[DG nv r])|dL _=>cases u with|a!=>rw[DG nv r]|dL _=>exact r
KV.val{aq:fI}{vs:yw}(r:o4)(k:κ):ji (b8 aq k) y2 vs:=by unfold KV at r;induction r with|cd=>rw[yD]|@bn p q ps qs h t ih=>obtain⟨h1,h2⟩:=h;by_cases e:nq;(. (have e':FD:=T0;have b:y2 FG=ad q.2:=by rw[uf NS e']);rw[uo,b];exact h2);. (have e':¬FD:=λ z=>e (Gk z);have b:y2 FG=y2 qs:=by rw[uf NS e']);rw[uq,b];exact ih
KV.any{aq:fI}{vs:yw}(r:o4)(k:κ):ub=R!:=by unfold KV at r;induction r with|cd=>rfl|bn h t ih=>rw[rO,rO,ih,h.1]
KV.KP{aq:fI}{vs:yw}(r:o4)(k:κ){y:V}{u:a7}(ry:kz):KV (rY λ kv=>yl (lb=k) y kv) sX vs.map yl (lb=k) u kv:=by unfold KV at r⊢;induction r with|cd=>exact eE|@bn p q ps qs h t ih=>rw[KZ jP,<-vm ?_ ih];obtain⟨h1,h2⟩:=h;by_cases e:nq;(.rw[zc,Tk g!];exact #[h1,ry]);.rw[u6,fG y5 e Gk];exact #[h1,h2]
KV.put{aq:fI}{vs:yw}(r:o4)(k:κ){y:V}{u:a7}(ry:kz):KV (gM aq k y) (Gm vs k u):=by unfold gM Gm;rw[r.any k];by_cases e:(bb R!);(.rw[zc,zc];exact r.KP k ry);.rw[u6,u6];exact WB r #[rfl,ry]
KV.length{aq:fI}{vs:yw}(r:o4):pj=zy:=NT r
}
section z
def z:={
uz{P:cr}{w:cs}{k:Key}{u:a7}(r:eL (kV k) u):bb ((MN).is k u):=by cases k with|inl i=>rw[SB (Value.int i t) aB9 i]|inr x=>rw[SB (Value.str x t) alX x]
ae7{P:cr}{w:cs}:∀{ks:ii}{us:ck},bO Ml us->ItemsAre (gf P w) ks us|[],_,r=>by rw[ui r r,eE]|k::ks,_,r=>by rw[Dv r];cases r with|bn h t=>exact vm (uz h) (ae7 t)
KT.2(H:Hp):cR (ii×V)->u1->Prop:=Paired λ p q=>p.1=q.1/\dS q.2.1 dO pJ p.1 kV/\eL p.2 q.2.2
KT.val{H:Hp}{xs:u1}(r:u_)(k:ii):ji lQ ((EG).map (·.2)):=by induction r with|cd=>rw[yD]|@bn p q ps qs h t ih=>refine bX h λ h1 _ h2=>?_;by_cases e:nq;(. (have e':FD:=T0;have b:Bt FG=ad q.2:=by rw[uf atKey e']);rw[uo,b];exact h2);. (have e':¬FD:=λ z=>e (Gk z);have b:Bt FG=Bt qs:=by rw[uf atKey e']);rw[uq,b];exact ih
KT.KP{H:Hp}{xs:u1}(r:u_)(k:ii){y:V}{u:a7}(ry:kz):KT H sX rY yl (lb=k) y kv (xs.map (putAt k u)):=by induction r with|cd=>exact eE|@bn p q ps qs h t ih=>rw[KZ jP,<-vm ?_ ih,<-bX h au h1 h2 h3];unfold putAt;by_cases e:nq;(.rw[zc,Tk g!];exact #[h1,h2,ry]);.rw[u6,fG y5 e Gk];exact #[h1,h2,h3]
KT.put{H:Hp}{xs:u1}(r:u_)(k:ii){b:ab}{y:V}{u:a7}(hb:ye)(ry:kz):KT H (gM aq k y) (storedH xs k b u):=by(have e:ub=BI EG:=by rw[yr,(r.val k).Aq,NU]);unfold gM storedH;rw[e];by_cases q:(bb BI EG);(.rw[e! q,e! q];exact r.KP k ry);.rw[fG q,fG q];exact WB r #[rfl,hb,ry]
KT.keeps{H:Hp}{xs:u1}(r:u_)(ht:∀b ys,dS b dO ys->H' b=ad (.dO ys)):KT H' aq xs:=Paired.DE r λ _ _ z=>#[z.1,bF ht z.2.1,z.2.2]
}
section
variable{P:cr}{w:cs}{H:Hp}{h:d1}{a:ab}
def z:={
aeA{u:HO}(ok:u3)(e:_R H a u):EB a u:=e.ok ok
xh{aq:gq}(ok:u3)(e:u2 dK):x!/\ul/\∃vs,o4/\h.DictOf (gf P w) a vs:=show EB a (.dK aq)from aeA ok e
Ru{aq:gq}(ok:u3)(e:yk):x!/\ul/\∃vs,o4/\h.DictOf (gf P w) a vs:=xh ok Fy
xg{ks:ii}(ok:u3)(e:dS a dO Ml):(z! MN).is h ks a:=by obtain⟨_,aF,r,o,h1,h2,n,h3⟩:=(show EB a (.dO Ml)from ok a _ e);exact(b9 o gH n h1 h2 h3 (by simpa using ae7 r))
wU(ok:u3)(e:u2 dT):x!/\ul/\∃xs,u_/\h.DictOfH (z! (gf P w)) a xs:=by obtain⟨z,y,xs,r,o,es,ep,h1,h2,h3,h4,h5⟩:=(show EB a (.dT aq)from aeA ok e);(refine #[z,y,xs,r,o,es,ep,h1,h2,h3,h4,gr x hx,h5];have all:∀{l:cR (ii×V)}{m:u1},KT H l m->∀x∈m,(z! MN).is h x.1 x.2.1:=by intro l m q;induction q with|cd=>intro x hx;exact nomatch hx|@bn p q ps qs hq t ih=>intro x hx;rcases tQ hx with e|hx;(.subst e;exact xg ok (by rw[<-hq.1];exact hq.2.1));.exact ih x hx);exact all r x hx
Ul(ok:u3)(e:yj):x!/\ul/\∃xs,u_/\h.DictOfH (z! (gf P w)) a xs:=wU ok Fy
}
section z
def z:={
dU.1(H:Hp)(a:ab)(y:V)(r:oR):Prop:=(∃aq k,u2 dK/\y=MT/\r=lQ)\/∃aq k b,u2 dT/\y=cx b/\ye/\r=lQ
i_.1(H:Hp)(a:ab)(y v:V)(H':Hp):Prop:=(∃aq k,yk/\y=MT/\DC/\H'=iM a dK rb)\/∃aq k b,yj/\y=cx b/\ye/\DC/\H'=iM a dT rb
dU.k{H:Hp}{a:ab}{aq:gq}{k:Key}(e:yk):dU H a (kV k) lQ:=.inl (aE aq k Fy Z Z)
dU.t{H:Hp}{a b:ab}{k:ii}(e:yj)(eb:ye):dU H a ig lQ:=.inr (b9 aq k b Fy Z eb Z)
i_.k{H:Hp}{a:ab}{aq:gq}{k:Key}{v:V}(e:yk)(hl:DC):i_ H a MT v iM a dK rb:=.inl (i5 aq k e Z hl Z)
i_.t{H:Hp}{a b:ab}{k:ii}{v:V}(e:yj)(eb:ye)(hl:DC):i_ H a ig v iM a dT rb:=.inr (p8 aq k b e Z eb hl Z)
}
section
variable{X:Cx}{aN:ez}{σ:St}{H:Hp}{s:ax}{a:ab}{y v:V}{u r:a7}{o:oR}{A:dz}{E:d4}
def z:={
Inv.A5(I:cD):oE Go:=by have h:oE mainGlobals:=(I.mod.glob.keeps I.bk).lt;exact rZ cS h
aIs{Q:d4}(hu:uy)(I:cD)(g:mJ H jD)(ry:kz)(h:∀w' s',DA->eL v w'->vo w'):xS (rL eS u) Q E:=by rcases g with⟨aq,k,e,ey,l⟩|⟨aq,k,b,e,ey,eb,l⟩;(.subst ey;rw[wu xh vs dd,<-ah (ji.some_of (v:=v) (o:=y2 vs) (by rw[l];exact NV k)) au w' hw cZ,wpAny_getItem_of (uz ry) NW hw (h w' _ (zR _) cZ)]);.subst ey;rw[xE ry wU xs,<-ah (ji.some_of (v:=v) (o:=jI EG ((·.2))) (by rw[l];exact NV k)) au w' hw cZ,j! V3 hw au p hp Fk,Kk wpAny_getItem_heap dd hp];rw[Fk];exact h w' _ (zR _) cZ
aLL{Q:d4}(hu:uy)(I:cD)(g:mJ H o)(ry:kz)(h:∀s',DA->vo xL z_):xS (Ni .In u eS) Q E:=by rcases g with⟨aq,k,e,ey,l⟩|⟨aq,k,b,e,ey,eb,l⟩;(.rw[Qy wpAny_in_of hd l]);.subst ey;rw[xE ry wU xs,Kk wpAny_in_heap hd dd];have q:=IL;rw[NU]at q;rw[<-q,<-l];exact h _ xb
aGF{Q:d4}(hu:uy)(I:cD)(g:mJ H o)(ry:kz)(h:∀s',DA->vo xL (!z_)):xS (Ni .nu u eS) Q E:=by rcases g with⟨aq,k,e,ey,l⟩|⟨aq,k,b,e,ey,eb,l⟩;(.rw[Qy wpAny_notIn_of hd l]);.subst ey;rw[xE ry wU xs,Kk wpAny_notIn_heap hd dd];have q:=IL;rw[NU]at q;rw[<-q,<-l];exact h _ xb
Jg{ob:HO}(I:cD)(mu:Df (H a))(hs:Heap.SameBut a gu h')(he:K5 q a q)(new:sD fu (upd H a ob) h' a ob):fq (upd H a ob) wa s h' t':=Lr x a a mu jw (λ b q hb z=>(Fn hs).o! z) he new
XF{P:cr}{w:cs}{aq:gq}{vs:qV}(z:x!)(hd:ul)(rel:o4)(dd:NZ (gf P w) a vs):fu P w H' h' a (.dK aq):=(Fh z hd vs rel dd)
aKA{Q:su Unit}(hu:uy)(I:cD)(g:i_ H a y v H')(ry:kz)(rv:eL v r)(h:∀s',Dx->vo ()):xS (setItem eS u r) Q E:=by rcases g with⟨aq,k,e,ey,l,eH⟩|⟨aq,k,b,e,ey,eb,l,eH⟩;(.subst ey eH;rw[wu Ru vs dd];((have hz:pY zy:=by rw[<-rel.length];exact z);have hl:j5 cX rb:=by have:=pW aq k v;exact vz cc l);refine wpAny_setItem_pairs (cv:=hz) (uz ry) dd λ h' wo hs=>h _ ?_;(have he:K5 q a q:=by obtain⟨q,_,_,hq,_⟩:=wo;exact #[q,hq]);exact Jg I (by rw[e];rw[yD]) hs he (XF hl hd (rel.put k rv) wo));.subst ey eH;rw[xE ry Ul xs];((have hz:KM:=by rw[<-NT rel];exact z);have hl:j5 cX rb:=by have:=pW aq k v;exact vz cc l);refine wpAny_setItem_heap (cv:=hz) (NY hu) Il dd λ h' wo hs=>h _ ?_;obtain⟨q,es,ep,hq,h2,h3,h4,_,h5⟩:=wo;refine Jg I (by rw[e];rw[yD]) hs #[q,hq] #[hl,hd,_,(rel.put k eb rv).keeps au c ys ec,q,es,ep,hq,h2,h3,h4,h5];rw[aV (vt ec e Bo (nomatch z))];exact ec
}
section z
def z:={
Ia.1(i:a6):Prop:=∀ov iv,FO i iQ ov iv=Nf [ov,iv] (rL ov iv)
aJz{eJ:cr}{w:cs}{A:dz}{E:d4}{s:ax}{iU l1:a6}{al:bi}{T id:kM}{Q:d4}(hl:SR MH=fB ad ES)(hs:Ia l1)(h:ka zp iU (λ o l4=>(tf A zp l1 λ i iW=>s₂.TypeIs o T/\tf A UU Q E iW) E l4) E):ka zp A_ iU l1 Q E:=by refine M_ nb h (λ o l4 h₁=>nb h₁ j2 i iW h₂ kC _ x x) kC _ x x;obtain⟨hT,h₂⟩:=h₂;rw[qL M' ?_];rw[getitemInPython_of_ne hT.not_modules];rw[ci (wpAny_specialOf hT hl ?_)];(have eY:(tf A (FO l1 iQ o i) λ r rX=>tf A (letTemporaryGo iU o r>>=(eT fB r)) Q E rX) E iW:=by rw[hs o i];exact wpAny_operating nb h₂ (λ r rX h₃=>e? wm wpAny_letTemporaryGo h₃) kC _ x x);first|exact fa (e? eY)|rw[DR IK fa eY]|rw[DR eY]
aAi{X:Cx}{aN:ez}{σ:St}{H:Hp}{s:ax}{a:ab}{y:V}{o:oR}(I:cD)(g:mJ H o):zA eS "dict":=by rcases g with⟨aq,k,e,_,_⟩|⟨aq,k,b,e,_,_,_⟩;(.rw[sG xh rN λ _ _ vs _ dd=>?_];exact z?);.rw[sG wU rN λ _ _ xs _ dd=>?_];exact z?
apK.1(td ty:TE):TE:=iN g9 td x m9 ty y J6 v jD n0
aFY.1(ty td:TE):TE:=iN g9 ty y m9 td x J6 o o fz i7 z_
aiu.1(ty td:TE):TE:=iN g9 ty y m9 td x J6 o o fz zv z_
apX.1(td ty tv:TE):TS:=λ D σ H=>g9 tv v m9 td x (ty σ H2 λ y H3=>∃a H4,ga x/\i_ H3 a y v H4/\l5 σ H4)
}
section
variable{X:Cx}{o i e iU:a6}{al hG Tc:bi}{td ty tv:TE}
def z:={
atk(hu:ln)(ho:y?)(hi:b? i ty)(hs:Ia i):b? qW i (apK td ty):=by rw[km,<-aJz PySem.F.slot_dict_getitem.lookup hs (qN ho I λ u s1 aDL=>aO aDL λ x H1 I1 rx q1=>tw hi λ iv s2 aj3=>pQ aj3 λ y H2 I2 ry a v ex g q2=>?_),x? (u=q?) rx,#[aAi I2 g,aIs hu I2 g ry λ w' s3 I3 cZ=>Ej v I3 cZ]]
Tt(hu:ln)(hi:b? i ty)(ho:y?):PC X .In i o (aFY ty td):=by rw[km,<-bf (fr hi s H _ I h) λ iv s1 aF3=>aO aF3 (JD y ry λ u s2 azG=>pQ azG λ x H2 I2 rx a ov ex g q2=>?_),x? (u=q?) rx,aLL hu I2 g ry λ s3 I3=>Ej i7 ov.isSome I3 Z]
anr(hu:ln)(hi:b? i ty)(ho:y?):PC X .nu i o (aiu ty td):=by rw[km,<-bf (fr hi s H _ I h) λ iv s1 aLz=>aO aLz (JD y ry λ u s2 anT=>pQ anT λ x H2 I2 rx a ov ex g q2=>?_),x? (u=q?) rx,aGF hu I2 g ry λ s3 I3=>Ej zv ov.isSome I3 Z]
uw(hu:ln)(ho:y?)(hi:b? i ty)(hv:b? iU tv)(hs:sT iU ad (.M9 o i hG) Gp=fB iQ):PS X gb pi [.M9 o i hG] iU (apX td ty tv):=by rw[sE D I h,<-wpAny_Assign_Subscript (bf (fr hv s H _ I h) λ r s1 ahZ=>aO ahZ (JD v rv λ u s2 ayS=>aO ayS (vb x rx Da hi s2 λ iv s3 aDk=>pQ aDk λ y H3 I3 ry a H4 ex g q3=>?_))) hs,x? (u=q?) rx,aKA hu I3 g ry rv λ s4 I4=>(cF σ H4 I4 q3)]
}
section z
def z:={
afh{P:cr}{w:cs}{H:Hp}(h:d1)(hb:UC):QB (.dK []):=(Fh LJ SQ (zP (nz hb)) ([]) eE (WD h))
aui{P:cr}{w:cs}{H:Hp}(h:d1)(hb:UC):QB (.dT []):=#[LJ,SQ (zP (nz hb)),[],eE,_,yJ,0,ot,#[rfl,rfl,rfl],rfl,rfl,List.nodup_nil]
ais.1:TE:=λ _ H Q=>qG p p iM p dK []
ajC.1:TE:=λ _ H Q=>qG p p iM p dT []
}
section
variable{X:Cx}{al:bi}
def z:={
A2:b? gb Dict [] [] ais:=λ aN s σ H Q I h=>P4 dK afh
adx:b? gb Dict [] [] ajC:=λ aN s σ H Q I h=>P4 dT aui
}
section z
def z:={
Lf.1:Ee->St->Hp->(i3 V V->h!)->Prop|[],_,H,Q=>Q [] H|(tk,tv)::r,σ,H,Q=>g9 tk x m9 tv y (Lf r σ H2 λ ps H3=>Q ((x,y)::ps) H3)
VV.2:i3 V V->AX a7->Prop:=Paired λ p q=>eL p.1 q.1/\eL p.2 q.2
G0.1(X:Cx)(al:bi)(keys:cR uX)(Aa:c!)(tO:Ee):Prop:=∀(aN:ez)(s:ax)(σ:St)(H:Hp)(Q:i3 V V->h!),cD->Lf tO σ H Q->fj LK X.A (evalPairs (pairTrees keys Aa gA al)) (λ vs s'=>∃ps H',Dx/\VV ps vs/\Q ps H') lW s
aaP{X:Cx}{al:bi}:G0 X al [] [] []:=λ aN s σ H Q I h=>pairTrees_nil_walk (aE ([]) H I eE h)
Vo{X:Cx}{al:bi}{k v:a6}{ks:cR uX}{vs:c!}{tk tv:TE}(hk:b? k tk)(hv:b? v tv)(hr:G0 X al ks vs tO):G0 X al (ad k::ks) MP ((tk,tv)::tO):=λ aN s σ H Q I h=>pairTrees_cons_walk (qN hk I λ u s1 ak7=>aO ak7 λ x H1 I1 rx q1=>tw hv λ w2 s2 aKp=>aO aKp (vb y ry Da hr s2 λ ws s3 amm=>aO amm λ ps H3 I3 rel q3=>(aE ((x,y)::ps) H3 I3 (.bn #[rx,ry] rel) q3)))
oA.1(aq kN:gq):gq:=more.foldl (λ bd kv=>gM bd lb qp) aq
KV.merge:∀{kN:gq}{rs:qV}{aq:gq}{vs:qV},KV kN rs->KV aq vs->KV (oA aq kN) (Gq vs rs):=by intro kN rs aq vs r;unfold KV at r;induction r generalizing aq vs with|cd=>intro q;exact q|@bn p q ps qs h t ih=>intro r0;(have e:KV (gM aq p.1 p.2) (Gm vs q.1 q.2):=by have:=r0.put p.1 h.2;rw[<-h.1];exact cc);exact ih e
Lk:∀(kN aq:gq),cX (oA aq kN)<=pj+more.length|[],aq=>by show pj<=pj+0;exact Uw|p::r,aq=>by have h1:=Lk r (gM aq p.1 p.2);have h2:=pW aq p.1 p.2;show cX (oA (gM aq p.1 p.2) r)<=_;rw[l3];exact adM h1 h2
Uq{P:cr}{w:cs}:∀{aq:gq}{ws:AX a7},VV sX rY (FE,qp) ws->∃rs,Carries (gf P w) ws rs/\KV aq rs|[],_,r=>by rw[ui r r,bm [] True.intro eE]|p::aq,_,r=>by rw[Dv r];cases r with|@bn a b as bs h t=>rw[j! (Uq (P:=P) (w:=w)) t au rs c q];obtain⟨b1,b2⟩:=b;exact bm ((p.1,b2)::rs) #[uz h.1,rfl,c] (.bn #[rfl,h.2] q)
awx.1(tO:Ee):TE:=iN (∀p,ca (H p)->Lf tO σ iM p dK [] λ ps H2=>H2 p=ad (.dK [])/\∃aq:gq,ps=rY (λ kv=>(FE,qp))/\pj<=15/\Q bD p (upd H2 p (.dK vh)))
Q6{X:Cx}{al:bi}{keys:cR uX}{Aa:c!}(h:G0 X al keys Aa tO)(b_:bb (keys.all (·.isSome)))(hl:WE=values.length)(h0:keys≠[])(h15:WE<=15):PE X gb Dict keys Aa (awx tO):=by rw[sE Q I q];have hn:=G! M! b6;have I1:=on (Ps a dK [] (h':=lU nO)) Is iG (afh gu I.A5);refine wpAny_Dict_walk (knd:=gf lV X.w) b_ hl h0 h15 (bf (fr h _ _ _ I1 (q _ hn)) λ ws s2 arZ=>aCM arZ λ ps H2 I2 rel e aq ep lk q2=>?_);subst ep;rw[j! Lv Uq P X.w rel au rs c rk,sG Ru I2.aR λ z hd vs0 r0 dd=>?_];cases r0;refine(aZ rs c dd (λ h' wo hs=>tK ?_ q2));((have hz:j5 cX vh:=by have h1:=Lk aq [];rw[Gj]at h1;rw[sizeLine_eq];exact asY h1 lk);have he:K5 q b6 q:=by obtain⟨q,_,_,hq,_⟩:=wo;exact #[q,hq]);exact Jg I2 (by rw[e];rw[yD]) hs he (XF hz hd (rk.merge eE) wo)
}
structure M2(X:Cx)(o:a6)(m:a4)(gJ:bi)(e f:a6)(ko:bi):Prop where
 b!:De o m j7=j7
 few:bb Kf Dw [e,f] (FT ko AY []) ([e,f]:c!)
 line:bb LC ko.line
 trees:backTo ko pB [e,f]=[Ha e,v6 f]
def z:={
PM.1(H:Hp)(a:ab):Prop:=(∃aq,u2 dK)\/∃aq,u2 dT
amr{X:Cx}{aN:ez}{σ:St}{H:Hp}{s:ax}{a:ab}(I:cD)(d:PM H a):zA eS "dict"/\(∀b,q?=cx b->∃ob,KO ob/\UF)/\ul:=by rcases d with⟨aq,e⟩|⟨aq,e⟩;(.rw[sG xh rN λ _ hd vs _ dd=>?_];refine #[z?,gr b q,hd];cases q;refine gC dd λ ob _ _ h1 h2 _=>?_;exact bm ob h1 h2.2.1);.rw[sG wU rN λ _ hd xs _ dd=>?_];refine #[z?,gr b q,hd];cases q;refine gC dd λ ob _ _ h1 h2 _=>?_;exact bm ob h1 h2.2.1
}
section
variable{X:Cx}{aN:ez}{σ:St}{H:Hp}{s:ax}{a:ab}{y d:V}{u r:a7}{o:oR}{A:dz}{E:d4}
def z:={
asG{Q:d4}(hu:uy)(I:cD)(g:mJ H o)(ry:kz)(rd:eL d r)(h:∀w' s',DA->eL (o.getD d) w'->vo w'):xS vg (k1 "dict.get") [eS,u,r] Q E:=by rcases g with⟨aq,k,e,ey,l⟩|⟨aq,k,b,e,ey,eb,l⟩;(.subst ey;rw[wu xh vs dd,<-R4 (meets_dict_get_default (gf lV X.w) a (uz ry) hd r) e9 NW (h _ _ (zR _) ?_)];rw[l];exact HJ getD rd);.subst ey;rw[xE ry wU xs,<-R4 (meetsH_dict_get_default (z! (gf lV X.w)) a b hd r) (F8 (NY hu) k xs Il dd (h _ _ (zR _) ?_))];rw[l];exact HJ getD rd
}
section z
def z:={
aJn.1(td ty tx:TE):TE:=iN g9 td x (∃a,ga x/\PM H1 a/\m9 ty y (tx σ H2 λ z H3=>∃o,mJ H3 o/\Q (o.getD z) H3))
}
section
variable{X:Cx}{o e f:a6}{gJ ko:bi}{td ty tx:TE}
def z:={
aq2(hu:ln)(ho:y?)(he:b? e ty)(hf:b? f tx)(m:M2 X o "get" gJ e f ko):b? (.l2 (q! "get" gJ) [e,f] [] ko) (aJn td ty tx):=by rw[km,<-wpAny_Call_method m.base m.few m.line PySem.F.plainAttrs_dict WF PySem.F.type_dict_get (qN ho I λ u s1 aii=>Tb aii λ x H1 I1 rx a ex d q1=>?_),x? (u=q?) rx,<-bX (amr I1 d) λ t1 t2 _=>?_,<-#[t1,t2,?_]];rw[m.trees];refine VJ Z (VM (WG (tw he λ iv s2 axB=>aO axB vb y ry (WG (Da hf s2 λ fv s3 aHT=>i9 aHT λ z H3 I3 rz ov g q3=>Calls.spliced_nil ?_)))));exact asG hu I3 g ry rz λ w' s4 I4 cZ=>(aE _ H3 I4 cZ q3)
}
section z
def z:={
aj6:typeLookup L9 "keys"=fB a!:=am_miss_of_fast (by first|rw[vZ]|rfl)
Ff:entryFor table "dict.update.loop"=ad Builtin.«dict.update.loop»:=gR entryFor_of_tree
pT:bb (plainId "dict.update.loop"):=by rw[vZ]
}
section
variable{eJ:cr}{w:cs}{A:dz}{E:d4}
def z:={
aef{s:ax}{a:ab}{o:Obj}{xs:ne}{k:Y}{Q:sy->L0}(hx:ke a o)(hc:o.cls=sA)(m_:o.data=k! xs k)(hd:o.dict=a!)(hA:uM)(h:∀h' tk,(∀b ob,KO ob->zS b=ad ob)->Q a! qC):ka (getAttr? eS "keys") Q E:=by obtain⟨c,dct,dat,sl⟩:=o;simp only at hc m_ hd;subst hc m_ hd;obtain⟨hp,g,d,tk,os⟩:=s;have hT:∀Vb,(EK #[hp,g,d,Vb,os]).TypeIs eS "list":=eT jS hx;have aDP:=aj6;((have akk:(["__module__","__name__","__qualname__","__doc__","__annotations__"]:dp).contains "keys"=false:=by rw[vZ]);have cv:j5 (cX ("keys":a4)+100):=by first|size_fits|rw[vZ]);have f1:=sub_AttributeError;have f3:=PySem.F.slot_list_getattribute.lookup;have f4:=PySem.F.slot_list_getattribute.bind eS;have f5:=am_list_getattr_none;unfold getAttr? getAttrBy? getAttrBy;(repeat(any_goals(first|assumption|exact hT _|((with_reducible rw[kT _ (call (Value.builtin "list.__getattribute__") _ _) _]);refine Nk PySem.F.slot_list_getattribute (hT _) am_entry_list_getattribute io PySem.F.args_list_getattribute_2 (meets_getattribute_miss_list a xs k sl "keys" _ aDP akk cv) #[hx,hA,λ h' Vb e d8=>?_])|wp_step)));rw[<-gB d8.there au t' u' he,kT _ bF jp WH _ _];unfold WH;(repeat(any_goals(first|assumption|wp_step)));all_goals first|exact bF h d8.keeps|(dsimp only;repeat(any_goals(first|assumption|exact bF h d8.keeps|wp_step)))
V6{R:KF}{S I l:ab}{fN:ne}{res:a7}(hh:uM)(xy:l≠I)(qZ:S≠I)(BW:S≠l):∀(db:qV)(i:Y)(bd:qV)(ix:a3)(t:Tok)(s:ax),g?=i+N2->j5 (acc.length+N2)->(∀(j:Y)(q:Key×a7),dC db j q->∃(b:ab)(u:a7),fN[i+j]?=ad ig/\b≠S/\b≠I/\ID vw gu b/\bb (rJ q.1 u))->s.heap.IsListIter I l i->VR l fN->yM s.heap.DictOf S bd->(∀h' tk,yM NZ S (Gq bd db)->vi (b≠S->b≠I->js->DL)->R (.ok (.ret res)) qC)->C4 (k1 "dict.update.loop" #[[bD S,cx I,g_ ix t,res],[]]) R s|[],i,bd,ix,t,s,cv,l8,ht,hit,hl,hm,hR=>by rw[P_ Ff (N3 pT _) (wpAny_pyNext_list_end (A:=pk) hh hit hl (by first|exact Array.getElem?_eq_none (NN cv)|(simp at cv;simp;omega)) gr h' he),jb (Builtin.Dict.addKeywords S []>>=_) _,ci qD ?_,hR h' zH (hm.extBut he qZ) λ b o _ hb e=>he b o hb e]|q::db,i,bd,ix,t,s,cv,l8,ht,hit,hl,hm,hR=>by refine wy (ht 0 q Z) λ b u hb hbS K_ OX hk=>?_;rw[l3]at cv l8;rw[P_ Ff (N3 pT _) (wpAny_pyNext_list_item (x:=cx b) hit hl ip hb au h1 LH fJ)];have OR:ID vw h1 b:=Ed OX.extBut K_;have fk:TD:=Ed hl.extBut xy;have pF:yM h1.DictOf S bd:=Ed hm.extBut qZ;rw[<-xN (id OR) EX ho hc n,jb (po [O2] _>>=_) _,j3 zB ?_,j3 WJ ?_,qL Builtin.Dict.pairItems (FK (T:="tuple") bm o ho hc ?_)];rw[g! (by first|decide|rfl|simp)];rw[ci KC ho hd ?_,jb (po [u,q.2] (dictSet S u q.2)) _,<-zB (wpAny_dictSet_pairs (knd:=gf eJ w) (k:=q.1) hk pF j2 h2 mX dY gn WM l8),<-fa #[K9,V6 (fN:=fN) hh xy qZ BW db j0 (Gm bd q.1 q.2) (ix+1) 0 _ (show g?=i+1+N2 by exact O_ cv) ?_ E5 q' ?_ ?_ mX λ h' tk jo k=>?_]];((.have z:=stored_length_le bd q.1 q.2;exact UG l8 z);.refine wy (ht nt q' ip e) λ b' u' iq C5 B' NJ cj=>?_;refine(fK b' u' ?_ C5 B' ((Ed NJ.extBut B').extBut Gr C5) cj);rw[show i+1+j=i+nt by exact zg];exact iq);((.exact LH.at λ o' e=>Gr I o' (zP qZ) e);.exact fk.extBut Gr (zP BW));.exact hR h' tk jo λ c oc h3 h4 e=>k c oc h3 h4 (Gr c oc h3 (fJ.extBut c oc h4 e))
aDX{s:ax}{l:ab}{ol:Obj}{prs:qV}{Q:d4}(hh:uM)(hl:ke l ol)(hc:ol.cls=sA)(hd:ol.dict=a!)(m_:ol.data=k! fN n)(cv:g?=N5)(l8:pY N5)(ht:Q2 j fN ig)(h:∀h' tk,yM NZ b6 (Gq [] prs)->vi (js->DL)->BS qC):ka vg UQ [jG] Q E:=by refine callType_codes (Q₁:=λ obj l4=>obj=cx b6/\l4=j6 s (lU nO)) PySem.F.kt_called_dict (PySem.F.kt_typeCall_dict_1 _) PySem.F.entry_dict_init (kt_code_dict_new _ #[rfl,rfl]) ?_;rintro obj l4⟨rfl,rfl⟩;have w9:yM BG DictOf b6 []:=WD gu;have k0:∀b o,js->gV BG get?:=mF e j?;rw[<-#[w9.typeIs,io PySem.F.args_dict_init_2,?_],qL Builtin.«dict.__init__» ?_,qL Builtin.Dict.selfAndRest (wpAny_notOrdered_dict w9.typeIs ?_)];show fj _ _ (kI (b6,[F3 l])) _ _ _;rw[<-fa ?_,kT _ (WP "dict.__init__" b6 jG [] eQ) _,qL WP (FK (T:="list") bm ol bF k0 hl hc ?_)];rw[g! (by first|decide|rfl|simp)];rw[ci (aef bF k0 hl hc m_ hd hh au h1 OQ cI),jz (show bb (a!:sy).isNone from rfl),j3 wpAny_rule ?_];(have fk:TD:=(Hn ol bF cI bF k0 hl hc n m_);have ny:b6<WQ:=by have e:ST BG get? nO:=ot;exact o? jV cI);rw[ci (V2 fk ?_)];have k2:∀b o,gV h1.get?->gV (h1.push wR KE [jG,g_ 0 0]).get?:=mF e j?;have a8:oE l:=o? hl;have key:=V6 (eJ:=eJ) (w:=w) (A:=pk) (R:=wants (λ r iW=>r=eQ/\BS iW) E) (S:=b6) (I:=WQ) (l:=l) (fN:=fN) (res:=N6) hh (nz (rZ a8 ny)) LT ny (WT a8) prs 0 [] 0 0 yz s (h1.push wR KE [jG,g_ 0 0]) OQ (by rw[cv,Gs]) (by rw[Gj,Gs];exact l8) (λ j q e=>by refine aO (ht j q e) λ b u e1 e2 e3=>?_;have hb:oE b:=e2.lt;exact(fK b u (by rw[ev Gs e1]) (nz hb) (nz (rZ hb ny)) (e2.keeps λ c o z=>bF k2 bF cI bF k0 z) e3)) Mf ot (fk.at λ o e=>jV k2) ((w9.at λ o e=>jV cI).at λ o e=>jV k2) (λ h' tk jo k=>#[rfl,h h' tk jo mF e (k b o Lb LT (rZ (o? e) ny) bF k2 bF cI jV k0)]);first|rw[DO #[K9,key]]|rw[DR qD #[K9,key]]
}
section z
section
variable{X:Cx}
def z:={
agW{aN:ez}{σ:St}{H:Hp}{s:ax}(I:cD){ps:bA}{aq:gq}(p:kx (λ p kv=>aJ a? H p [FE,qp]) ps aq):∃prs:qV,KV aq prs/\G? N5/\Q2 j ps b:=by induction p with|cd=>exact(aZ ([]) eE Z (λ j q e=>by simp at e))|@bn p kv _ _ h t ih=>rw[<-bL ih λ prs r hl hp=>?_,ue hC h ht,<-aO (vals2 rv) λ u y ei ru ry=>?_];subst ei;refine(aZ ((pS,y)::prs) (.bn #[rfl,ry] r) (by rw[l3,l3,hl]) E5 q);cases j with|zero=>have e':(pS,y)=q:=M? e;subst e';exact(aE p u Z ht (Lv uz P X.w ru))|succ j=>refine aO (hp j q ip e) λ b u' e1 e2 e3=>?_;exact(aE b u' ip e1 e2 e3)
J5:∀{ps:bA}{us:ck},bO UM us->us=ps.map F3|[],us,r=>by rw[ui r r];rfl|p::ps,us,r=>by rw[Dv r];cases r with|bn h t=>cases h;rw[jP,<-J5 t]
aBN(Oo:c5):ki X UQ (λ xs H Q=>∃(a:ab)(ps:bA)(aq:gq),xs=[eS]/\aC a? H a UM/\kx (λ p kv=>aJ a? H p [FE,qp]) ps aq/\qG p p iM p dK vh):=by intro aN s σ H xs us Q I r q;obtain⟨a,ps,aq,ex,hq,hp,q⟩:=q;subst ex;rw[j! vB r au u eu rx];subst eu;rw[d0,Dr rv hz (fO hq)];have ei:=J5 rv;subst ei;rw[hE]at hz;obtain⟨prs,rel,hl,ik⟩:=agW I hp;obtain⟨o,n,ho,hc,hd,m_⟩:=pl;refine aDX (prs:=prs) (zY Oo) ho hc hd m_ (by simp[hl]) (by rw[ev hl hz]) E5 q' λ h' tk jo k=>?_;(.obtain⟨b,u,e1,e2,e3⟩:=ik j q' e;exact #[b,u,by simp[e1],e2,e3]);. (have hm:(b6==Go)=false:=N0 (WT I.A5);have bH:j5 cX vh:=by rw[dR vz (Lk aq [])];rw[Gj,Gs,rel.length,hl];exact hz);exact #[A9,iM b6 dK vh,zG (t':=tk) k iG (show sD fu _ _ _ (.dK vh)from#[bH,hm,Gq [] prs,KV.merge rel eE,jo]),rfl,CK]
}
section z
section
variable{X:Cx}
def z:={
aoB{tg:a6}{aN:ez}{σ:St}{H:Hp}{s:ax}{R:kP It}{J:It}{tn:Y->ef d1}{tk:Y}(I:cD)(o:Obj)(T:sD Turn a? tg J [b6] b6 tn)(st:tn 0 (lU o))(q:R J H):pZ OG σ tg R A9 yz s (lU o) tk:=by refine(kX b6 ([b6]) tn J H Z (zT λ b ob e=>j?) T st Bc b hb q);(have e:b=b6:=by simpa using hb);subst e;exact I.Cc (kJ _) tc
}
section z
def z:={
Ax.1(lo c:a3)(n:Y):It:=#[λ i _=>i<n,λ i H x H'=>H'=H/\x=e5 E_,λ i _=>n<=i]
}
def ahf{P:cr}{w:cs}{tg:a6}(it:ab)(lo c:a3)(n:Y):Turn P w K tg E? [it] it (λ i h=>WV h it E_ (lD - wc i) c)where mem:=Hl;obj:=(λ i h st b hb=>by(have e:b=it:=by simpa using hb);subst e;exact(e9 st λ v z=>nomatch z));keep:=λ i h h' st k=>k it jd _ st;item:=(by intro X hP hw hK hc i aN s σ H E I hf st hg;subst hP hw hK;refine lT (hf it jd) EY;have W:=Lv Walks.range eJ X.w EJ it lo c n;rw[<-W.item i s _ _ hg st λ v h' tk hv jL kk=>?_,e6 hv];have I1:fq H qC:=E' I.turned b (kk b o ip hb e);exact e9 Z (E8 (s:=qC) (n:="range_iterator") jL Z Z cS (fK dk E_ H I1 #[t,rfl] #[rfl,rfl] jL (λ b hb=>(gZ hf).1))));done:=(by intro X hP hw hK hc i aN s σ H E I hf st hg;subst hP hw hK;refine lT (hf it jd) EY;exact wpAny_pyNext_range_end (zY hc) st (by have:n<=i:=hg;exact Y2 cc) λ h' eb=>#[rfl,E' on I.turned b (eb b o hb e)]);self:=λ A i s Q E st h=>wpAny_pyIter_rangeiter st h
def z:={
nk.1(i j c:a3)(n:Y):Prop:=c≠0/\c.natAbs<1073741824/\bb (Builtin.Range.small i j c)/\WW i j c=n
nk.neg{i j:a3}(ha:A3 i)(ha':i<2^62)(hb:A3 j)(iq:j<2^62):nk i j (-1) gg (i - j):=(fH cS cS (PySem.W.small_down ha ha' hb iq) (PySem.W.rangeSize_downNat i j))
alm.1(ta:TA):TI:=λ σ H R=>g9 ta vs (∃(i j c:a3)(n:Y),vs=[ts,e5 j,e5 c]/\nk i j c n/\R (Ax i c n) H1)
}
section
variable{X:Cx}{tg:a6}
def z:={
CD{a b:a6}{ta:TA}{p al:bi}(hg:Gl X "range")(hm:q7)(ha:PA X [a,b,c] ta)(hs:kR [a,b,c] a vr)(a_:nM vr):PI X tg nL (G' p) [a,b,c] (alm ta):=by rw[sE R I h,<-Call_ (yb I hg hm boot_range (PyProof.Rows.callWith_type1 (bf (ha al aN s σ H _ I h) λ us s1 aMB=>aO aMB EW vs H1 r1) hs a_)),<-ET q1 λ i j k n e aK7 q=>dm aK7 λ c0 c1 c2 c3=>?_];subst e;cases r1 with|bn r rr=>cases rr with|bn r' rr=>cases rr with|bn r'' rr=>cases rr;rw[e6 r,Ky r'];obtain⟨t'',rfl⟩:=r'';refine call_range_3 c0 ?_ gX (PyProof.noPylong_small c1);refine wpAny_pyIter_range (IsRange.new ..) c2 ?_;have I2:fq H1 j6 s1 (s1.heap.push wR (md "range") [.int i t,g_ j t',g_ k t'']):=I1.kept (t':=s1.toks) mF e j?;refine aoB (tk:=s1.toks) I2 _ (ahf _ i k n) ?_ q;((have e1:i+Ew*k=i:=by simp);have e2:c9 - Ew=WW i j k:=by rw[c3];simp);show WV _ _ (i+Ew*k) (lD - Ew) k;rw[e1,e2];rw[Sj Z]
}
section z
def z:={
Bx{lo c:a3}{tb:TS}{D:Ends}{σ:St}{H:Hp}(Pv:Y->kP St)(h0:Pv 0 σ H)(hs:∀i σ H,i<n->Pv i σ H->g dk E_ σ H λ d9 H2=>wT tb {D with nx:=Pv j0,ct:=Pv j0,bk:=l5})(hd:∀σ H,Pv n σ H->l5 σ H):H? (Y->kP St) (W 0 m σ H) (∀i m σ H,W i m σ H->((E?).stop i H/\l5 σ H)\/((E?).go i H/\∃N:kP St,(∀a2 H',N a2 H'->∃m',m'<m/\W j0 m' a2 H')/\∀x H',(E?).o_ i H x H'->g x σ H' λ d9 H2=>wT tb {D with nx:=N,ct:=N,bk:=l5})):=by refine bm (λ i m σ H=>m=n - i/\i<=n/\Pv i σ H) (aZ n jd (Gh _) h0) ?_;rintro i m σ H⟨rfl,hi,p⟩;by_cases a8:i<n;(.rw[Ix a8 (λ a2 H' p'=>IJ (n - j0) a8 p') y];subst e y;exact hs i σ _ a8 p);.rw[CT n iG (hd σ H p)]
Ar{β:Type}{G:α->ef β}{l₁:kA}{l₂:cR β}(h:kx G l₁ l₂):∀{i:Y}{a:α},dC l₁ i a->∃b,dC l₂ i b/\G a b:=by induction h with|cd=>intro i a e;simp at e|@bn a b l₁ l₂ r t ih=>intro i a' e;cases i with|zero=>simp only[List.getElem?_cons_zero,Option.some.injEq]at e;subst e;exact e_ b r|succ j=>simp only[List.getElem?_cons_succ]at e⊢;exact ih e
}
section _L
section
namespace xZ
open lR lS
variable{x:a3}
def z:={
adm(k:Y)(hx:0<=x):WZ x (2^k - 1)=x%2^k:=by obtain⟨n,rfl⟩:=Int.eq_ofNat_of_zero_le hx;have hp:0<2^k:=Nat.two_pow_pos k;rw[two_pow_cast];(have e:eU (2^k) - 1=eU (2^k - 1):=by generalize(2:Y)^k=m at hp;exact Al hp);rw[e,bitAnd_pp lL tD lL aAZ,vx,vx,Nat.and_two_pow_sub_one_eq_mod];first|rfl|exact Int.natCast_emod _ _|simp
avU{y:a3}(hx:0<=x)(hy:0<=y):Builtin.bitOr x y=eU (x.toNat|||y.toNat):=by have e:=nat_or_add_and x.toNat y.toNat;rw[bitOr_and,bitAnd_pp hx hy];exact aIm hx hy e
}
section xZ
section z
namespace _L
open lR o9 lS
variable{x fR:a4}{f:ab}{st:pp}{H:Hp}{ps:dp}{fd:Gu}
def z:={
E0.2:XK:=λ _ _ _=>nv
ni{X:Cx}:r8 eI X E0:=λ _ _ _ _ _ _ _ h=>h.elim
}
section
variable{P:cr}{w:cs}{K:bT}{mg:g7}{b!:d1}
def z:={
gh.ok{N:dp}{k:Y}{sp:Sp}(F:wA x st f)(S:kq)(len:∀vs H Q E,sp vs H Q E->Td)(A0:∀(aK:a7)(A:dz)(br:ng)(s:ax)(H:Hp)(vs:bQ)(Q:VK)(E:XK),bZ k Bb f->sp vs H Q E->∃t,ic (Ba f aK A br s H E).ja sC t/\t {nx:=λ _ H'=>Q .cB H',rt:=Q} (start N vs) H):rc mZ d6 du fd ps sp:=by obtain⟨oc,od,kV,doc,pm,an,aK,ct,qE,rfl,lk,h_⟩:=F.ex;refine aiR lk h_ S len λ A br s H vs Q E hr jH=>?_;refine ah (A0 aK A br s H vs Q E hr jH) au t h q;exact bm t h.ja q
gh.binds(F:wA x st f)(h:∀(kV doc pm:a7)(an:ly)(aK ct:a7)(us:ck),qJ):y3:=by obtain⟨oc,od,kV,doc,pm,an,aK,ct,qE,rfl,lk,h_⟩:=F.ex;exact .all (h kV doc pm an aK ct)
}
section z
def z:={
jX{A:dz}{k:Y}(hr:bZ k A):uy:=Gv (Nat.add_le_add_left (cS:1<=64) _) hr.units
}
section
variable{X:Cx}
def z:={
pv(i:Y){al:bi}(hN:mE i x)(hv:Dh D1 mM)(hd:g5)(h_:AO (x==x7)):PE X Ef (sN i):=Co hN hv hd h_
}
section z
def z:={
jQ{A B:Prop}(h:B):if re then A else B:=by rw[lz Nh,h]
je{A B:Prop}(h:A):if bC=bC then A else B:=by rw[jz Z,h]
fE{c A B:Prop} [Decidable c](h1:c->A)(h2:¬c->B):if c then A else B:=by by_cases h:c;(.rw[jz h,h1 h]);.rw[lz h,h2 h]
aj.1(H H':Hp):Prop:=∀b o,gV H->gV H'
pr(H:Hp):aj H H:=kC _ h h
aj.trans{H1 H2:Hp}(a:aj H H1)(b:aj H1 H2):aj H H2:=λ c o h=>b c o (a c o h)
aj.free{H':Hp}(e:lI){l:ab}(h:H' l=W2):H l=W2:=by cases q:H l with|a!=>rfl|dL o=>rw[e l o q]at h;cases h
}
section
variable{κ:Type} [Wz κ]
def z:={
ar9{aq:fI}{k:κ}(h:ca lQ):¬k∈rY (·.1):=by intro m;rw[j! Wv m au p hp e];have q:bb ub:=List.any_eq_true.mpr (af p hp (z9 e));rw[yr,h]at q;rw[i? q jd]
}
section z
section _L
namespace _X
open lR o9 lS
variable{Q:d4}
def z:={
agS(a d:a7):argsOk "max" #[[a],[(S2,d)]]:=by unfold argsOk;kernel_rfl
}
section
variable{eJ:cr}{w:cs}{A:dz}{R:KF}{I:ab}{fp wr:bA}{n:Y}{P:Y->ef a7}{St:Y->ef d1}{dv:a7}
def z:={
p_.2(dv:a7):pD a7:=[(S2,dv)]
aBt(Wk:Ku I n P)(bt:Y->Mj)(cmp:KQ .Gt P bt)(S:ab)(sI:S∉fp):∀(k j:Y)(s:ax)(l6:a7)(c:Y),n - nt=k->j+1<=n->St nt gu->P Me l6->ke S {cls:=sA,dict:=a!,rH:=k! (vy [l6,l6]) c,slots:=yJ}->(∀v h2 tk,K' v (zr->b≠S->js->tS) (R (.ok (.ret v)) x0))->C4 (k1 "max.loop" #[[Bw,eQ,cx S],p_ dv]) R s:=by rw[Qk S sI q];intro k;induction k with|zero=>intro j s l6 c e0 e1 at_ pb ug eY;(have last:j+1=n:=by exact aFV e1 e0);rw[IT ug _ s,Jq T5 s (last▸at_) h2 tZ S,jb (N9 S zu yJ>>=_) _,ci ?_,oo (Gw tZ Z (e? Sv)) (eY l6 _ tk (by rw[<-last];exact pb) λ b o q1 q2 e=>(JG).o! yX)]|succ k ih=>intro j s l6 c e0 e1 at_ pb ug eY;(have kN:j+1<n:=by exact Nat.lt_of_sub_eq_succ e0);rw[IT ug _ s,Jq (Wk.item nt s _ _ kN at_ λ v h2 tk pv at2 iX=>?_) tZ S,jb (tryCatch (po [v,v] (richCompare .Gt v l6>>=_)) _>>=_) _,HR IK zB (cmp nt Me v l6 _ _ _ pv pb ?_),ci (zB (V' ?_)),ci Sv];cases up:bt nt Me with|bC=>simp only[o7];rw[ci ?_,<-Gw tZ Z (e? (N_ ?_))];rw[nm];rw[Cy (ih nt _ v _ gn ZE e0 kN (Lj at2 λ b inf o e=>?_) (by simp only[Ab,up,o7];exact pv) R? tZ Mr h3 CZ Bz)];(.exact Fz (Si λ q:S=b=>sI (by rw[ev q inf])) e);.exact eY v2 h3 CZ Bz K7 Aj q1 ((JG).o! yX)|false=>rw[Do NQ,j3 N_ ?_];rw[nm];rw[Cy (ih nt _ l6 c gn ZE e0 kN at2 (by simp only[Ab,up,NQ,M1];exact pb) tZ Mr h3 CZ Bz),eY v2 h3 CZ Bz K7 Aj q1 yX]
aLS(Wk:Ku I n P)(bt:Y->Mj)(cmp:KQ .Gt P bt)(S:ab)(sI:S∉fp){s:ax}{c:Y}(at_:St 0 gu)(ug:ke S {cls:=sA,dict:=a!,rH:=k! (vy []) c,slots:=yJ})(none_:n=0->∀h2 tk,vi (zr->b≠S->js->tS)->R (.ok (.ret dv)) x0)(eY:0<n->∀v h2 tk,K' v (zr->b≠S->js->tS) (R (.ok (.ret v)) x0)):C4 (k1 "max.loop" #[[Bw,eQ,cx S],p_ dv]) R s:=by rw[Qk S sI q,IT ug _ s];by_cases al:0<n;(.rw[Jq (Wk.item 0 s _ _ al at_ λ v h2 tk pv at2 iX=>?_) tZ S,jb (N9 S zu OV [v,v]>>=_) _,ci ?_,<-Gw tZ Z ?_];rw[nm];rw[Cy (aBt Wk bt cmp S sI _ 0 _ v _ Z al (Lj at2 λ b inf o e=>?_) pv R? tZ Mr h3 CZ Bz)];(.exact Fz (Si λ q:S=b=>sI (by rw[ev q inf])) e);.exact eY al v2 h3 CZ Bz K7 Aj q1 ((JG).o! yX));. (have z:n=0:=by exact Nat.eq_zero_of_not_pos al);rw[HR T5 s (z▸at_) h2];show tf pk (rule (Pi++N8 ".default")>>=(eT (ret dv))) _ _ _;rw[DR wm wpAny_rule (none_ z _ tk λ b o q1 q2 e=>yX)]
}
section z
section
variable{eJ:cr}{w:cs}{A:dz}{E:d4}{s:ax}{dv:a7}
def z:={
aCr{x:a7}(h:fj wP pk (pyIter x) (λ it s2=>∃I fp wr n P St bt,it=cx I/\Ku I n P/\St 0 s2.heap/\(∀b∈fp,Tg)/\KQ .Gt P bt/\(n=0->∀h2 tk,vi R3 zr->Q dv wa s2 h2 tk)/\(0<n->∀v h2 tk,K' v R3 zr (Q v wa s2 h2 tk))) E s):ka (call wM [x] (p_ dv)) Q E:=by(have nm:Pw kM:=by decide);rw[<-kmk_tree F.kind_max F.plain_max F.entry_max io agS ?_,jb (RC 0 #[[],p_ dv]>>=_) s,ci (wpAny_of_eq (show RC 0 #[[],p_ dv]=fB [a!,ad dv]from rfl) ?_),j3 fa ?_,ci nb h j2 it s2 h2 kC _ e e];obtain⟨I,fp,wr,n,P,St,bt,rfl,Wk,at_,low,cmp,q0,q1⟩:=h2;rw[j3 FL ?_];have sI:Gg∉fp:=λ hm=>Wa _ (low _ hm);rw[nm];rw[Cy (aLS Wk bt cmp Gg sI (Lj at_ λ b _ o e=>j?) ot (λ z h3 tk iX=>?_) λ z v h3 tk pv iX=>?_)];(.exact q0 z h3 tk λ b o q e=>iX b o q Lb j?);.exact q1 z v h3 tk pv λ b o q e=>iX b o q Lb j?
}
variable{l:ab}{xs:Array (a3×Tok)}{aF:ck}{ns:mR}
def z:={
aJO(hh:uM)(hl:J')(hi:tU aF)(h0:ns=[]->∀h2 tk,vi (js->tS)->Q dv x0)(h:Ea->∀h2 tk M t,(∀b o,js->tS)->ir M->(∀a,ir a->a<=M)->Q (.int M t) x0):ka (call wM [jG] (p_ dv)) Q E:=by(rw[JP xs];have hn:numsOf (vC xs).toList=ns:=by rw[KG e]);rw[Nm]at hn;subst hn;rw[e]at hl;refine aCr (iter_intList hl λ s2 e2 st uh xy=>?_);subst e2;refine #[_,_,_,_,_,_,_,rfl,LA pk hh _ l xy (vC xs),st,uh,CmpOf.ints_gt (numAt xs) AS VW,λ z h2 tk iX=>?_,λ z v h2 tk pv iX=>?_];(. (have z':zX=0:=by rw[KB z]);exact h0 (by rw[List.map_eq_nil_iff];exact List.eq_nil_of_length_eq_zero (by simpa using z')) h2 tk (old_kept iX));. ((have z':0<zX:=by rw[KB z]);have iE:jB ((vC xs)[Ab (λ i j=>bG (numAt xs i>numAt xs j)) (zX - 1)]?):=by rw[KB pv]);rw[Rx iE q1 q2,<-h ip z' h2 tk _ t (old_kept iX) ?_ gr a ha];(.rw[Nn];exact VX (by rw[Q!,VZ z' q1]));. (rw[b5 (ah (mem_getD ha) au j hj aU) aU]);rw[Q8 q2 j hj]
}
section z
section _X
namespace _M
open lR o9 lS _L
variable{e:a6}{P:bE}{op lY:CmpOp}{H':Hp}{db:c!}{g:a3->a3->V}{g':Ek}{u:V}
def z:={
bc.1(P:h!)(H:Hp):Prop:=∀H',aj H H'->P H'
bc.now{P:h!}{H:Hp}(h:bc P H):P H:=h H (pr H)
bc.later{P:h!}{H:Hp}(h:bc P H)(s:lI):bc P H':=nN (h H2 (Ac s2))
bc.pure{p:Prop}{H:Hp}(h:p):bc (λ _=>p) H:=λ _ _=>h
cV{H:Hp}{p:ab}{o:HO}(h:ca (H p)):aj H (upd H p o):=λ b u e=>by rw[aV (c8 e h)];exact e
}
variable{X:Cx}{σ:dA}{H:Hp}
structure Ev(X:Cx)(σ:dA)(H:Hp)(e:a6)(P:bE):Prop where
 go:ff tB v CM (∀aN s,yh->oh nF e EP)
def z:={
aB.2(X:Cx)(σ:dA)(H:Hp)(e:a6)(v:V):Prop:=fo e λ u _=>u=v
Ev.later(h:oK)(s:lI):Ev X σ H' e P:=yQ
Ev.imp{P':bE}(h:oK)(k:∀v H1,hO (P v H1->P' v H1)):fo e P':=#[λ H1 s1 Q q=>h.1 H1 s1 Q (λ v H2 s2 p=>q v H2 s2 jU (k v H3 dl (p H3 s3)))]
aL.1(X:Cx)(e:a6):TE:=iN (∃P,oK/\∀v H2,p? H P n0)
aI:b? e MD:=λ aN s σ H Q I vn=>B5 vn P (yL H Q q aN s I)
eN{t:TE}(h:b? e t)(r:ff tB v CM (t σ H1 Q)):oK:=#[λ H1 s1 Q q aN s I=>fr h s H1 Q I EH]
aL.v{e:a6}{v:V}{Q:VK}(h:kt e)(q:q4 H n0):aL X e σ H Q:=(e9 h λ u H2 s2 p=>by have e:=p.now;subst e;exact q H2 s2)
l7{e:a6}{P:bE}{Q:VK}(h:oK)(q:∀v H2,p? H P n0):aL X e σ H Q:=bm P h q
YC.1(sc:eX)(x:a4):bM:=bG ((To=ad .local\/x4 f8\/x4 fY)/\EV x G8/\EV x x7)
KH{sc:eX}{x:a4}(h:bb (YC sc x)):mM sc x/\EV x G8/\EV x x7:=by have:=KL;exact cc
LR.1(sc:eX)(x:a4):bM:=bG (To=ad .local\/x4 f8)
an2{sc:eX}{x:a4}(h:bb (LR sc x)):Loc sc x:=by have:=KL;exact cc
aa(i:Y){x:a4}{al:bi}{v:V}(e:jT (σ[i]?) jD)(hN:mE i x)(hv:v0 sv D1 YC):kt Ef:=fh (Co hN MQ.1 MQ.2.1 MQ.2.2) f' bm v e (q v H1 (pr _) v9)
ai{i:a3}{j al}:ej gb N' ts j i:=fh kb xJ
cN{b:bM}{j al}:dV gb N' xL b j b:=fh Ap xJ
ag{x:a4}{n:a3}{al:bi}(g:GI gP x n)(hg:j')(hd:g5):ej Ef n:=by obtain⟨t,g⟩:=g;exact eN (aeS hg g (v:=e5 n) #[t,rfl] hd) xJ
lO{x:a4}{a:ab}{al:bi}(g:gP x=ad eS)(hg:j')(hd:g5):fV Ef eS:=eN (aeS hg g (v:=cx a) Z hd) xJ
}
variable{a b c:a6}{al:bi}{i j k:a3}{x y:bM}
def z:={
aW{op:N!}(ho:de X EU op (jK g))(ha:f6)(hb:lh):fV (.BinOp a op b al) lv:=DM Dc ho n8 (aE i j Z Z jq)
iz{op:N!}{C:a3->ef a3}(ho:de X EU op (rI C g))(ha:f6)(hb:lh)(hc:C i j):fV (.BinOp a op b al) lv:=DM Dc ho n8 (i5 i j Z Z hc jq)
oB(ha:f6):ej HY USub a (-i):=eN (ajo aJm aI) k4 e_ i un
gE(ho:de X n3 op (jK g))(ha:f6)(hb:lh)(hm:nY im op b):fV DN [op] [b] lv:=fh ky tF ho n8 (aE i j Z Z jq)
WC{v:V}(ha:fV a u)(hb:kt b)(hs:k9 (P6 u v))(hm:Cl):dV kc Eq [b] bG (u=v):=fh ky tF Sd n8 #[hs,jq]
dW(ha:f6)(hb:lh)(hm:Cl):dV kc Eq [b] y0:=(WC ha hb Z hm).imp tA v e (by rw[e];simp)
sU{g:Ek}(ho:xU op j lv)(jh:xU lY j (g' i j))(ha:f6)(hb:lh)(hc:ej c k)(hm:RX (lastMarks [op,lY] vr)):dV DN [op,lY] vr (lv&&g' j k):=yT (akI ho jh aI aI) hm P7 e (aE j k Z Z (q _ H4 gY f? (by rw[e,px]))) pK f? (by rw[e,W3])
bY{op}(h:ge a):ge gb BoolOp op [a]:=eN (ahp aI) f' bm P Mc q
cp(ha:dV a x)(hb:x=bC->dV jy And Fw y):dV jy And u? (x&&y):=yT aKK aI k4 e_ x (by rw[Bg pR n1 (hb Z) jq un])
fL(ha:dV a x)(hb:oW->dV jy Or Fw y):dV jy Or u? (x||y):=yT aHY aI k4 e_ x (by rw[Bg un pR n1 (hb Z) jq])
iL(ha:dV a x):dV KW (!x):=eN (amn aI) k4 e_ x un
}
structure Te(X:Cx)(σ:dA)(H:Hp)(e:a6)(b:bM):Prop where
 go:Db Q vc nf fz b (∀aN s,yh->oh (z7 e gA nF e) TP)
structure Tw(X:Cx)(σ:dA)(H:Hp)(e:a6)(b:bM):Prop where
 go:Db Q vc nf fz b (∀(Ae:Sem a7)aN s,yh->oh (z7 e gA Ae) TP)
def z:={
Te.later(h:mH e)(s:lI):Te X σ H' e x:=yQ
Tw.later(h:kw e x)(s:lI):Tw X σ H' e x:=yQ
Tw.te(h:kw e x):mH e:=#[λ H1 s1 Q q=>h.1 H1 s1 Q q _]
tTe.1(X:Cx)(e:a6):TT:=iN (∃b,hZ e b/\q4 H fz b)
dy:PT X e (tTe X e):=λ aN s σ H Q I C9=>ah C9 λ b h q=>yL H Q q aN s I
tTw.1(X:Cx)(e:a6):TT:=iN (∃b,kw e b/\q4 H fz b)
WR:PW X e (tTw X e):=λ wh aN s σ H Q I AM=>ah AM λ b h q=>yL H Q q wh aN s I
vH{t:TT}(h:PT X e t)(r:Db Q vc nf fz x (t σ H1 Q)):mH e:=#[λ H1 s1 Q q aN s I=>fr h s H1 Q I EH]
Af{t:TT}(h:PW X e t)(r:Db Q vc nf fz x (t σ H1 Q)):kw e x:=#[λ H1 s1 Q q wh aN s I=>h wh aN s σ H1 Q I EH]
bN(h:dV e x)(he:Q5 e v v):mH e:=vH (abB aI he) AF Ad e_ x ql
bP{g:Ek}(ho:xU op j lv)(ha:f6)(hb:lh)(hm:nY im op b):hZ DN [op] [b] lv:=o1 ky sF ho n8 xG (wV i j Z Z) ur
eV(ha:f6)(hb:lh)(hm:Cl):hZ kc Eq [b] y0:=o1 ky sF Sd n8 (eF Z _ Z (by rw[HL bG (iP i=iP j) y0];exact q H3 uZ))
fZ(ha:f6)(hb:lh)(hm:nY im .NotEq b):hZ kc NotEq [b] (!y0):=o1 ky sF T' n8 (eF Z _ Z (by rw[HL bG (iP i=iP j) y0];exact q H3 uZ))
sZ{g:Ek}(ho:xU op j lv)(jh:xU lY j (g' i j))(ha:f6)(hb:lh)(hc:ej c k)(hm:RX (lastMarks [op,lY] vr)):hZ DN [op,lY] vr (lv&&g' j k):=vH (aof ho jh aI aI aI hm) P7 e xG (wV j k Z Z) (by rw[e,px]at q;exact q H4 gY) e9 Z (by rw[e,W3]at q;exact q H3 uZ)
dI(ha:uS):hZ KW (!x):=vH (afC dy) Jn
c4(ha:uS):kw jy And [a] x:=Af (aBH dy) Jn
eA(ha:uS):kw jy Or [a] x:=Af (aGf dy) Jn
cE(ha:uS)(hb:x=bC->kw jy And Fw y):kw jy And u? (x&&y):=Af (aqx dy WR) f' tG x pX Ct LN y JZ ur ql
dr(ha:uS)(hb:oW->kw jy Or Fw y):kw jy Or u? (x||y):=Af (anz dy WR) f' tG x pX Ct ql LN y JZ ur
Fi(hc:mH c)(ha:x=bC->ge a)(hb:oW->ge b):ge TV:=DM ao5 dy f' tG x L6 (Ct (bm P By ha λ v H3 s3 p=>tN p) bm P JZ λ v H3 s3 p=>tN p)
kf{v:V}(hc:mH c)(ha:x=bC->fV a u)(hb:oW->kt b):fV TV (if x then u else v):=Fi hc (λ e=>(ha e).imp λ w _ _ h=>by rw[h,e];rfl) (λ e=>(hb e).imp λ w _ _ h=>by rw[h,e];rfl)
}
section _M
namespace _M
open lR o9 lS _L
variable{X:Cx}{σ:dA}{H:Hp}
variable{xs vs:bQ}{z:bM}{Py:bE}{eb ea lo:a6}{hi:a3}{mP:eC}{r:sK}{jl:bi}{H':Hp}
structure fC(X:Cx)(σ:dA)(H:Hp)(es:c!)(PL:m7):Prop where
 go:RN Q vs (∀al aN s,yh->fj LK X.A (spliced mh es) pZ AP σ Q lW s)
def z:={
eO.2(X:Cx)(σ:dA)(H:Hp)(es:c!)(vs:bQ):Prop:=fl fC es λ us _=>us=vs
fC.later{es:c!}{PL:m7}(h:DW)(s:lI):fC X σ H' es PL:=yQ
B7.1(X:Cx)(es:c!):TA:=iN (∃PL,DW/\∀vs H2,kZ H (PL vs) fz vs)
dX{es:c!}:PA X es (B7 X es):=λ al aN s σ H Q I bx=>B5 bx P (yL H Q q al aN s I)
fC.of{es:c!}{t:TA}{PL:m7}(h:PA X es t)(r:RN Q vs (t σ H1 Q)):DW:=#[λ H1 s1 Q q al aN s I=>h al aN s σ H1 Q I EH]
ao:fl eO [] []:=fC.of fQ xJ
ae{e:a6}{es:c!}{v:V}(h:kt e)(r:qY)(hs:g4):fl eO fX MP:=fC.of (iu aI dX hs) AF Ad Sl us H3 Rg f9
cu{e:a6}{es:c!}{P:bE}{PL:m7}(h:oK)(r:DW)(hs:g4):fl fC fX λ us H=>∃v r,us=v::r/\P v H/\PL r H:=fC.of (iu aI dX hs) so l7 Ad jW v hv Sl us H3 pK ie (aE v us Z (hv.later s3 H4 s4) o6 e)
RP.2:=bQ->Hp->(V->h!)->Prop
yP.1(R:RP):Sp:=λ vs H Q _=>∃P,R vs H P/\∀v H2,p? H P n0
aM.1(P:cr)(w:cs)(K:bT)(mg:g7)(b!:d1)(k:Y)(x:a4)(R:RP):Prop:=∃f fd ps,yy/\bb Ts tr/\y3/\rc mZ d6 k fd ps (yP R)
fb.1(P:cr)(w:cs)(K:bT)(mg:g7)(b!:d1)(k:Y)(C:ab)(m:a4)(R:RP):Prop:=∃f fd ps,mL K C m f/\y3/\rc mZ d6 k fd ps (yP R)
}
section
variable{k:Y}{x m:a4}{R:RP}{e o:a6}{es:c!}{p al gJ:bi}{C a:ab}
def z:={
adn{PL:m7}{P:bE}(F:qA aM R)(hr:oT)(ha:qU)(hR:qx CS R vs v)(hg:j')(eg:g5)(he:g4)(a_:j9):tY:=by refine hX F λ f fd ps hm hk hb G=>?_;refine eN (adu G hr hg hm hk hb eE ni dX eg he a_) f' bm PL pX B_ H2 s2 ?_;obtain⟨P',r,i⟩:=BU hR;rw[CX bm P' r λ v H3 s3 hp=>tN ie lp i v o6 hp]
N4{pl:E3}{PL:m7}{P:bE}(c:rp)(F:wq fb vJ k C m R)(hr:oT)(ho:q6 eS)(hi:ff (∃dx fs,H1 a=ad my/\uv))(ha:qU)(hR:qx CS R (eS::vs) v)(bw:g4)(a_:j9)(ht:Jz CB (po [ov] (Gz ov m pl)) fX):ge CB:=by refine gC F λ f fd ps hm hb G=>?_;refine eN (Ou aI c hm G hr hb eE ni dX bw a_ ht) CF ?_;refine df HD hi λ dx fs h1 h2=>?_;refine #[a,dx,fs,rfl,h1,h2,PL,kQ r4,λ vs H3 s3 hv=>?_];obtain⟨P',r,i⟩:=hR vs H3 dl hv;rw[CX bm P' r λ v H4 s4 hp=>q v H4 gY λ H5 s5=>i v H5 (s4.trans s5) (hp H5 s5)]
}
section z
section
variable{a b:a6}{es:c!}{al hG:bi}{i:a3}{x1:Y}
def z:={
iT(ha:qY)(hl:uj):lr gb Tuple es x1 v pV dS a dO vs:=eN (Qt dX) f' oq us #[by rw[ev f9 hl],λ p hp=>q _ _ G2 cV hp ie e_ p bF s4 (by rw[aX,f9])]
Bh(ha:f6)(hb:qY)(hf:xP)(hl:uj)(hm:nH im .In wO):dV kc In Dt y4:=fh ky tF Ob k4 iK n1 (iT hb hl) λ v H3 s3 hv=>by(rw[CO aS e aS]);exact(fK p vs Z jc (i0 e) Z hf jq)
RL(ha:f6)(hb:qY)(hf:xP)(hl:uj)(hm:nH im .nu wO):dV kc nu Dt (!y4):=fh ky tF aaM k4 iK n1 (iT hb hl) λ v H3 s3 hv=>by(rw[CO aU e aU]);exact(fK p vs Z jc (i0 e) Z hf jq)
uH(ha:f6)(hb:qY)(hf:xP)(hl:uj)(hm:nH im .In wO):hZ kc In Dt y4:=o1 ky sF Ob k4 iK n1 (iT hb hl) λ v H3 s3 hv=>by(rw[CO a9 e a9]);exact #[p,vs,rfl,.inr (i0 e),rfl,hf,_,rfl,ur]
ax3(ha:f6)(hb:qY)(hf:xP)(hl:uj)(hm:nH im .nu wO):hZ kc nu Dt (!y4):=o1 ky sF aaM k4 iK n1 (iT hb hl) λ v H3 s3 hv=>by(rw[CO bu e bu]);exact #[p,vs,rfl,.inr (i0 e),rfl,hf,_,rfl,ur]
}
section z
section
variable{o e:a6}{al:bi}{a p:ab}{f:a4}{v:V}{n:a3}
def z:={
cQ(ho:q6 eS)(hf:ff (∃C dx fs,H1 a=ad my/\rp/\cf a? C f/\jn f v))(hb:f_ De o f j7 j7):kt gb zU o f:=yT aaX hb CF (by refine hX HD hf λ C dx fs h1 h2 h3 h4=>?_;exact UL kX C un)
cO(ho:q6 qm)(hi:ej e n)(hx:ff (∃xs,pP aC p/\jB (kO xs n)))(hs:Kr (qo e)):kt qW e:=fh (aaw amo aI aI hs) CF pR vK (by refine ah (hx H3 dl) au xs h1 h2;exact(Di p xs n v Z Z h1 h2 jq))
bU(ho:q6 qm)(hi:ej e n)(hx:ff (∃xs,oL p/\jB (kO xs n)))(hs:Kr (qo e)):kt qW e:=fh (aaw aFp aI aI hs) CF pR vK (by refine ah (hx H3 dl) au xs h1 h2;exact(Di p xs n v Z Z h1 h2 jq))
}
section z
structure Bd(X:Cx)(σ:dA)(H:Hp)(mP:eC)(N:k?)(P:bE):Prop where
 go:Rl N v (∀aN s,yh->wk sj execs mP (SP X aN D) lW)
def z:={
Rn.2(X:Cx)(σ:dA)(H:Hp)(mP:eC)(P:bE):Prop:=D' H mP uY
Bd.later{N:k?}{P:bE}(h:i8 σ H mP)(s:lI):i8 σ H' mP:=yQ
za.1(X:Cx)(mP:eC):TS:=λ D σ H=>∃N P,i8 σ H mP/\(∀a2 H2,kZ H (N a2) IN)/\∀v H2,p? H P (D.rt v H2)
fP:ic X mP (za X mP):=λ aN s σ H D I cy=>aO cy λ N P h n p=>yL H D n p aN s I
Bd.of{t:TS}{N:k?}{P:bE}(h:ic X mP t)(r:Rl N v (t D σ H1)):i8 σ H mP:=#[λ H1 s1 D n p aN s I=>fr h s H1 D I (r H1 s1 D n p)]
}
section
variable{e c:a6}{al hG:bi}{db a b:eC}{N:k?}{P:bE}{x:bM}
def z:={
c6(h:bc (N σ) H):i8 σ H []:=jk dg D (n σ H1 (pr _) Mc)
bg(h:oK):jf (.Return zo al):=jk (aP (dD aI) fP) D bm P Mc λ v H2 s2 hv=>p v H2 s2 hv
aG{v:V}(h:kt e)(hv:bc (P v) H):jf (.Return zo al):=bg (h.imp λ u H1 s1 e=>by rw[e];exact hv H1 s1)
aY(hc:mH c)(ha:x=bC->D' H a uY)(hr:oW->i8 σ H db):jf (.If c a [] al):=jk (aP (iw dy fP dg) fP) D tG x L6 Ct sB By ha (λ a2 H3 s3 h=>h.now.elim) AZ v p v xx By hr
rg{N1:k?}(hc:mH c)(ha:x=bC->D' H a N1)(hb:oW->D' H b N1)(hr:mk a2 (N1 a2) xm):jf (.If c a b al):=jk (aP (iw dy fP fP) fP) D #[x,L6,nN (by have go:∀{q:eC},Bd X σ H q N1 P->za X q {D with nx:=za X db D} σ H2:=λ{q}h=>sB kQ Ad (λ a2 H3 s3 h3=>(sB (hr a2 H3 dl h3) (λ σ4 H4 s4 h4=>n σ4 H4 gY h4) λ v H4 s4 h4=>p v H4 gY h4)) AZ v p v;rw[Bg (go (ha Z)) (go (hb Z))])]
gK(i:Y){y:a4}{P1:bE}(hN:e7)(he:fo e P1)(hr:mk v (P1 v) i8 Lh v H1 db)(hi:qt)(hx:v0 sv Bf LR y)(hs:f_ sT e ad mm Gp fB iQ)(hf:qr):jf gb pi [mm] e:=jk (aP (b7 (i:=i) hN hi (an2 hx) aI hs hf) fP) D bm P1 (GC s1) λ v H2 s2 hv=>xx mx hr v hv
bI(i:Y){y:a4}{v:V}(hN:e7)(he:kt e)(hr:i8 Lh v H db)(hi:qt)(hx:v0 sv Bf LR y)(hs:f_ sT e ad mm Gp fB iQ)(hf:qr):jf gb pi [mm] e:=gK i hN he j8 H1 s1 (by rw[f9];exact hr.later s1) hi hx hs hf
}
section z
def z:={
ayM{P:cr}{w:cs}{K:bT}{mg:g7}{b!:d1}{x fR:a4}{st:pp}{f:ab}{fd:Gu}{N ps:dp}{k:Y}{R:RP}(F:wA x st f)(S:kq)(len:∀vs H Q,R vs H Q->Td)(A0:∀(aK:a7)(A:dz)(br:ng)(s:ax)(H0 H:Hp)(vs:bQ)(Q:bE)(E:XK),bZ k Bb f->R vs H Q->Rn (qc Ba f aK A E).ja (start N vs) H sC Q):rc mZ d6 du fd ps (yP R):=F.ok S (λ vs H Q E dB=>ah dB λ P h _=>len vs H P h) λ aK A br s H vs Q E hr eG=>B5 eG P #[_,fP,_,P,A0 aK A br s H H vs P E hr h,λ a2 H2 s2 n=>n.now.elim,jW v hv (q v H2 s2 hv)]
}
section
variable{o e:a6}{es:c!}{al p p2 gJ:bi}{x:a4}{n:a3}{k:Y}{R:RP}{P Po:bE}{PL:m7}
def z:={
vA{id:kM}(hc:ki X ES r)(hm:ca (gP x))(hv:pA x=ad (.zE id))(ha:qU)(hr:qx tB v CM (r vs H1 Q))(hg:j')(hn:SN x)(eg:g5)(he:g4)(a_:j9):tY:=QC acT dX Q
Gn{T:kM}(hc:ki X MH r)(hm:ca (gP x))(hv:pA x=ad (.type T))(ha:qU)(hr:qx tB v CM (r vs H1 Q))(hg:j')(hn:SN x)(eg:g5)(he:g4)(a_:j9):tY:=QC anv dX Q
dq{m:Y}(hm:ca (gP "len"))(ho:fi)(hx:j1 (∃q xs,nS u/\(pP aC q\/oL q)/\L! m))(hg:mn (nB "len"))(he:mY)(a_:og):ej qP (eZ "len") m:=o3 (vA YG hm PySem.boot_len rA) Q (by(rw[lx (aO nD λ u r aU _ a9=>?_) aU a9]);obtain⟨a,xs,rfl,h1,h2⟩:=hx u H1 s1 nN (by refine aO (hv H2 s2) λ u' r' e1 h _=>?_;cases e1;exact h);exact nc xs Hc q H1 f? (by rw[h2]))
sP{Po:bE}{H:Hp}(h:bc (λ H=>∃v r,vs=v::r/\Po v H/\r=([]:bQ)) H):∃v,vs=[v]/\bc (Po v) H:=by(rw[lx (aO vM λ v r bu _ bW=>?_) bu bW]);exact #[v,rfl,nN (by refine aO (h H2 s2) λ v' r' e1 h' _=>?_;cases e1;exact h')]
wb{bs:qu}(hc:c5)(hm:ca (gP "all"))(ho:uu o v pV (aC a? H a BZ))(hv:jT (pA "all") Uu)(hg:mn (nB "all"))(he:mY)(a_:og):dV qP (eZ "all") Mp:=o3 yZ atj hv rA Q (by(rw[qy cJ h cJ]);(rw[qB vM dw dw]);exact nc bs ww)
xR{bs:qu}(hc:c5)(hm:ca (gP "any"))(ho:uu o v pV (aC a? H a BZ))(hv:jT (pA "any") Ut)(hg:mn (nB "any"))(he:mY)(a_:og):dV qP (eZ "any") Mq:=o3 yZ asj hv rA Q (by(rw[qy d7 h d7]);(rw[qB vM fM fM]);exact nc bs ww)
LM(F:qA aM R)(hr:oT)(hR:ff CS R [] v)(hg:j')(eg:g5):ge nL (eZ x p) []:=by refine hX F λ f fd ps hm hk hb G=>?_;refine eN (aAF G hr hg hm hk hb eE ni eg) D9;refine ah (hR H1 s1) au P' r i;exact(bm P' r λ v H3 s3 hp=>q v H3 s3 ie lp i v o6 hp)
uE{hi:a6}{i j:a3}(ho:fi)(hl:ej lo i)(hh:ej hi j)(hx:Re q p (gS xs ve ad j)):ge qW yU ad lo ad hi:=IW Kv (zm aI) (aL.v (hh.later dl) ie #[j,rfl,by(rw[b5 (aO (hx u H4 (iZ gY) (GD (r5 s4))) λ a xs iS h1 h2=>?_) iS]);exact nc xs Fx (q _ _ OK (s4.trans (cV hl)) MS)])
Vj{i:a3}(ho:fi)(hl:ej lo i)(hx:Re q p (gS xs ve a!)):ge qW yU ad lo a!:=IW Kv Qa (by(rw[b5 (aO JV λ a xs jC h1 h2=>?_) jC]);exact nc xs Fx Kw _ hl MS)
vX(hu:ln)(ho:fi)(hi:yN)(hx:O8 v jD (bc (P v) H1))(hs:Kr (Ia e)):ge qW e:=fh (atk hu aI aI hs) n4 iK vK λ y H3 s3 hy=>by(rw[b5 (aO (hx u y H3 dl (GD s3) hy) λ a v ml h1 h2=>?_) ml]);exact nc v tN h2
ZR(hu:ln)(hi:yN)(ho:fi)(hx:IZ r r)(h1:nY im .In o):dV AT e .In [o] z:=fh (aDi (Tt hu aI aI) h1) so l7 vK jW y hy iK r9 λ u H3 s3 hu=>by(rw[JA r kK kK]);exact nc r Rg h2
aaQ(hu:ln)(hi:yN)(ho:fi)(hx:IZ r r)(h1:nY im .In o):hZ AT e .In [o] z:=o1 (So (Tt hu aI aI) h1) so l7 vK jW y hy iK r9 λ u H3 s3 hu=>by(rw[JA r jx jx]);exact xG (wV a r Z h1) (by rw[h2];exact q H3 uZ)
Of(hu:ln)(hi:yN)(ho:fi)(hx:IZ r r)(h1:nY im .nu o):hZ AT e .nu [o] (!z):=o1 (So (anr hu aI aI) h1) so l7 vK jW y hy iK r9 λ u H3 s3 hu=>by(rw[JA r kd kd]);exact xG (wV a r Z h1) (by rw[h2];exact q H3 uZ)
nQ(ho:fo e Po)(hx:j1 (wW a? u H1 z))(he:Q5 e v v):hZ e z:=vH (aho aI he) n4 bm z Kc ql
}
section z
section
variable{e c:a6}{al hG p1 p2:bi}{db eP:eC}{N:k?}{P:bE}{y:a4}
def z:={
lA(i:Y){op:N!}{g:a3->a3->a3}{m k:a3}(ho:FU X op (NG g))(hN:e7)(hv:dC σ i ad IS)(he:ej e k)(hr:i8 Lh dk (g m k) H db)(hi:qt)(hx:xW)(hf:qr):jf (.AugAssign mm op e al):=jk (aP (Iq (i:=i) hN hi hx aI ho hf) fP) D e9 hv (aL.v (GC s1) nN #[m,k,rfl,rfl,_,_,kQ hr.later,λ a2 H3 s3 h=>v4 n a2 h,λ v H3 s3 h=>v4 p v h])
mD(J:x9)(mono:∀m a2 H1 H2,nf (J m a2 H1->J m a2 H2))(m0:Y)(hp:xQ)(h0:J m0 σ H)(hs:∀m a2 H1,hO (J m a2 H1->∃x,Te X a2 H1 c x/\(x=bC->Bd X a2 H1 eP wE d9 (∃m',m'<m/\wT J m') P)/\(x=false->xm))):jf (.While c eP [] al):=jk (aP (oQ hp dy fP) fP) D (by refine bm (λ m a2 H'=>pO H1/\J m a2 H') bm m0 Ij (jp mono s1 h0) ?_;rintro m a2 H'⟨s2,j⟩;refine bL (hs m a2 H' (iZ s2) j) λ x hc hb hr=>?_;refine LN x hc ?_;cases x with|bC=>refine je #[wE d9 (aj H1 H2/\∃m',m'<m/\wT J m'),λ d9 H2 bx=>iR bx λ s4 m' hm h=>(aZ m' hm s4 h),_,_,(hb Z).l_ s3,λ d9 H2 s4 h=>#[gY,vM],λ v H2 s4 h=>t8 H2]|false=>exact jQ sB ((hr Z).l_ s3) v! d9 H2 (n d9 H2 gY h) v! v H2 t8 H2)
Pk(i:Y){lo:a3}(J:x9)(hp:xQ)(rC:c5)(hN:e7)(hm:q7)(ha:C6)(gs:DK)(h0:Eo J)(hb:∀k a2 H1,hO (uK->CH J pM du))(hr:mk a2 (J nW a2) xm)(hg:tV)(hs:B9)(dY:t0)(fg:qt)(hx:xW)(hf:qr)(lK:B0):CP wL nR:=jk (aP (iy hp rC (C2 hg hm dX hs dY) D3 fg hx hf fP lK) fP) D (by refine oq vs (aE lo hi f9 gs (FW B1 (pO H1/\bc (J k a2) H') #[s2,Iz] ?_ ?_));(.rw[yG k a2 j,ox (hb k a2 H' (iZ s3) hk j) D5 lp p v h]);.rintro a2 H'⟨s3,j⟩;rw[ox (hr a2 H' (iZ s3) j) lp n d9 h lp p v h])
Sn(i:Y)(J:x9)(hp:xQ)(rC:c5)(hN:e7)(hm:q7)(ha:fl eO qe [dk hi])(gs:HK/\HP)(h0:Eo J)(hb:∀k a2 H1,hO (U2->CH J Fj du))(hr:mk a2 (J GE a2) xm)(hg:tV)(hs:t0)(fg:qt)(hx:xW)(hf:qr)(lK:AQ x wL qe x):CP wL qe:=jk (aP (iy hp rC (Av hg hm dX hs) D3 fg hx hf fP lK) fP) D (by refine oq vs (fF hi f9 gs.1 gs.2 (FW B1 (pO H1/\bc (J k a2) H') #[s2,Iz] ?_ ?_));(.rw[yG k a2 j,ox (hb k a2 H' (iZ s3) hk j) D5 lp p v h]);.rintro a2 H'⟨s3,j⟩;rw[ox (hr a2 H' (iZ s3) j) lp n d9 h lp p v h])
Gi(i:Y){fc:a6}{Po:bE}(J:x9)(hp:xQ)(rC:c5)(hN:e7)(ho:lm)(hx:tT)(h0:Eo J)(hb:∀k v a2 H1,hO p! k v CH J v du)(hr:Qp)(fg:qt)(d8:xW)(hf:qr)(lK:m1):CP fc:=jk (aP (iy hp rC (mf aI) D3 fg d8 hf fP lK) fP) D (by rw[x_ H2 s2 hu];(rw[xF kj hl kj]);have dZ:∀H3,aj H2 H3->aC a? H3 a xs:=jU (by rw[xB H3 e h]);refine SS uD cy cy;(.rintro k v a2 H' hk⟨s3,j⟩;rw[ox (hb k v a2 H' dl hk j) D5 t8 H4]);.rintro a2 H'⟨s3,j⟩;rw[ox (hr a2 H' dl j) (n d9 H4 gY h) t8 H4])
PU(i:Y){fc:a6}{Po:bE}(J:x9)(hp:xQ)(rC:c5)(hN:e7)(ho:lm)(hx:wt u u oL a)(h0:Eo J)(hb:∀k v a2 H1,hO p! k v CH J v du)(hr:Qp)(fg:qt)(d8:xW)(hf:qr)(lK:m1):CP fc:=jk (aP (iy hp rC (BO aI) D3 fg d8 hf fP lK) fP) D (by rw[x_ H2 s2 hu];(rw[xF lZ hl lZ]);have dZ:∀H3,aj H2 H3->aJ a? H3 a xs:=jU (by rw[xB H3 e h]);refine SS OL dB dB;(.rintro k v a2 H' hk⟨s3,j⟩;rw[ox (hb k v a2 H' dl hk j) D5 t8 H4]);.rintro a2 H'⟨s3,j⟩;rw[ox (hr a2 H' dl j) (n d9 H4 gY h) t8 H4])
}
section z
section
variable{elt fc:a6}{da:eX}{own:qX}{al hG p1 p2:bi}{y:a4}
def z:={
jY.1(X:Cx)(da:eX)(elt:a6):TE:=λ a2 H' Q=>∃v,(∀(s:ax)(H0:Hp)(C:ab)(cl:bh)(fp:bA),aB mt a2 H' elt v)/\q4 H' n0
oY(s:ax)(H0:Hp)(C:ab)(cl:bh)(fp:bA):PE mt elt sM:=λ aN s' a2 H' Q I eG=>S? eG h j8 H2 s2 (by rw[ut e' e',q H2 s2])
xk.1(X:Cx)(da:eX)(c:a6):TT:=λ a2 H' Q=>∃b,(∀(s:ax)(H0:Hp)(C:ab)(cl:bh)(fp:bA),Te mt a2 H' c b)/\q4 H' fz b
IP{c:a6}(s:ax)(H0:Hp)(C:ab)(cl:bh)(fp:bA):PT mt c w_:=λ aN s' a2 H' Q I kD=>S? kD h Bj ql
WN(i:Y){Po:bE}{f:gt}(ho:lm)(hx:tT)(hw:jg)(hl:ll)(he:∀(s:ax)(H0:Hp)(C:ab)(cl:bh)(fp:bA)(k:Y)(x:V),tM):Ks u! Dg kh:=by intro H1 s1 Q q;rw[x_ H2 s2 hu];(rw[xF oC fk oC]);have dZ:∀H3,aj H2 H3->aC a? H3 a xs:=jU (by rw[xB H3 e h]);refine PF FA lH lH;(.rw[yG k x e,<-#[hw x,?_]];(refine(bm (f x) sR ((q_ fp k x hk).l_ dl) λ H4 s4=>w! fF _ p4);(.rw[QP]);.exact oS (by rw[aV (c8 hb hD)];exact yg));.rw[aX,Oa,hk];simp);.rw[Jb]
pU(i:Y){Po:bE}{f:gt}(hc:c5)(hN:e7)(ok:iI)(ho:lm)(hx:tT)(hw:jg)(hl:ll)(he:∀(s:ax)(H0:Hp)(C:ab)(cl:bh)(fp:bA)(k:Y)(x:V),tM)(hg:∀(s:ax)(H:Hp)(C:ab)(cl:bh)(fp:bA),m5)(hs:m1):lr tX v mO u!:=RJ vL mf WN
V1(i j:Y){z:a4}{pz:bi}{db:eC}{N:k?}{P:bE}{Po:bE}{f:gt}(hc:c5)(hN:e7)(ok:iI)(ho:lm)(hx:tT)(hw:jg)(hl:ll)(he:∀(s:ax)(H0:Hp)(C:ab)(cl:bh)(fp:bA)(k:Y)(x:V),tM)(hg:∀(s:ax)(H:Hp)(C:ab)(cl:bh)(fp:bA),m5)(hr:Jm a a u!)(hz:mE j z)(n_:CI)(mC:Cf tX)(hs:m1):jf C3 tX:=J2 mf xK (WN i ho hx hw hl he H1 s1 Ln jW v hv (by(rw[eq nD au a nU ha nU]);exact xx mx hr a ha))
Rw(i:Y){Po:bE}{f:gt}(ho:lm)(hx:wt u u oL a)(hw:jg)(hl:ll)(he:∀(s:ax)(H0:Hp)(C:ab)(cl:bh)(fp:bA)(k:Y)(x:V),tM):Ks u! VH kh:=by intro H1 s1 Q q;rw[x_ H2 s2 hu];(rw[xF qF fk qF]);have dZ:∀H3,aj H2 H3->aJ a? H3 a xs:=jU (by rw[xB H3 e h]);refine PF aCo oi oi;(.rw[yG k x e,<-#[hw x,?_]];(refine(bm (f x) sR ((q_ fp k x hk).l_ dl) λ H4 s4=>w! fF _ p4);(.rw[QP]);.exact oS (by rw[aV (c8 hb hD)];exact yg));.rw[aX,Oa,hk];simp);.rw[Jb]
zj(i:Y){Po:bE}{f:gt}(hc:c5)(hN:e7)(ok:iI)(ho:lm)(hx:wt u u oL a)(hw:jg)(hl:ll)(he:∀(s:ax)(H0:Hp)(C:ab)(cl:bh)(fp:bA)(k:Y)(x:V),tM)(hg:∀(s:ax)(H:Hp)(C:ab)(cl:bh)(fp:bA),m5)(hs:m1):lr tX v mO u!:=RJ vL BO Rw
ap3(i j:Y){z:a4}{pz:bi}{db:eC}{N:k?}{P:bE}{Po:bE}{f:gt}(hc:c5)(hN:e7)(ok:iI)(ho:lm)(hx:wt u u oL a)(hw:jg)(hl:ll)(he:∀(s:ax)(H0:Hp)(C:ab)(cl:bh)(fp:bA)(k:Y)(x:V),tM)(hg:∀(s:ax)(H:Hp)(C:ab)(cl:bh)(fp:bA),m5)(hr:Jm a a u!)(hz:mE j z)(n_:CI)(mC:Cf tX)(hs:m1):jf C3 tX:=J2 BO xK (Rw i ho hx hw hl he H1 s1 Ln jW v hv (by(rw[eq nD au a nJ ha nJ]);exact xx mx hr a ha))
aeB(i:Y){c:a6}{lo:a3}{f:gt}{t:nl}(hc:c5)(hN:e7)(ok:iI)(hm:q7)(ha:C6)(gs:DK)(hw:jg)(hl:y9 nW)(ht:∀(s:ax)(H0:Hp)(C:ab)(cl:bh)(fp:bA)(k:Y),uK->Te mt xD H c uF)(he:∀(s:ax)(H0:Hp)(C:ab)(cl:bh)(fp:bA)(k:Y),uK->bb (t pM)->wg aB xD uA)(hg:∀(s:ax)(H:Hp)(C:ab)(cl:bh)(fp:bA),m5)(r6:tV)(rR:B9)(dY:t0)(hs:B0):lr IU v mO tj rf wX xA nW:=by refine eN (vL hc hN Ly ok hg Lu oY hs) D9;refine oq vs (aE lo hi f9 gs t? (Jc Fp tt te xa rf JC t7 ?_ ?_));(.rw[DU k s3 e];(refine Ch uF (ht s H0 C cl) Mx;have Yx:(wX xA du).GG t=(JC).GG t++LY bb (t pM) (iP (lo+k)) []:=by rw[GH,nE,Oc];congr 1;rw[jP,M8,Od];rfl);cases et:uF with|bC=>rw[JE uA (q_ fp k hk et).l_ s5];((.rw[Du];have h1:=J4 t (BB).map wv k Hv;rw[Iy Oe h1,BT h1 (rZ hk hl)]);.exact oS (by rw[aV (c8 hb hD)];exact xc yg));.rw[aX,Yx,e! et,nE];rfl|false=>refine jQ #[y!,?_];rw[p4,Yx,kH (by rw[et];simp),Ag]);.rw[w4 s3 e,Bv q _ D]
}
section z
section _M
namespace _M
open lR o9 lS _L
variable{z dx:ab}{xs vs:bQ}{ns:mR}{eb ea:a6}{H':Hp}{hi i lo:a3}{PL:m7}{l:uI}{R:RP}{g:a4}{jl:bi}
def z:={
RQ.1{α:Type}(hJ:lB)(d!:lw)(fS:ls):RP:=λ vs H P=>∃a,vs=k7/\d! a H/\P=sY
}
section
variable{P:cr}{w:cs}{K:bT}{mg:g7}{b!:d1}{x fR:a4}{st:pp}{f:ab}{fd:Gu}{N ps:dp}{k:Y}{α:Type}{hJ:lB}{d!:lw}{fS:ls}
def z:={
abZ(F:wA x st f)(S:kq)(bH:qv)(eP:∀(a:α)(aK:a7)(A:dz)(br:ng)(s:ax)(H0 H:Hp)(E:XK),xz xr):rc mZ d6 du fd ps (yP n!):=ayM F S (λ vs H Q bx=>bL bx λ a e _ _=>by rw[e];exact bH a) λ aK A br s H0 H vs Q E hr cy=>bL cy λ a e hp e2=>by subst e e2;exact eP a aK A br s H0 H E hr hp
c7(h:uc yy)(S:kq)(hb:∀(kV doc pm:a7)(an:ly)(aK ct:a7)(us:ck),qJ)(bH:qv)(eP:∀(a:α)(f:ab)(aK:a7)(A:dz)(br:ng)(s:ax)(H0 H:Hp)(E:XK),xz xr):mZ aM b! du x n!:=by refine df h λ f fd hm F=>?_;exact(b9 f fd ps hm F.kp U1 (abZ F S bH λ a=>eP a f))
LB{C:ab}(h:uc (mL K C x f))(S:kq)(hb:∀(kV doc pm:a7)(an:ly)(aK ct:a7)(us:ck),qJ)(bH:qv)(eP:∀(a:α)(f:ab)(aK:a7)(A:dz)(br:ng)(s:ax)(H0 H:Hp)(E:XK),xz xr):JM fb du x:=by refine df h λ f fd hm F=>?_;exact(lP f fd ps hm (F.binds hb) (abZ F S bH λ a=>eP a f))
}
section z
section
variable{X:Cx}{σ:dA}{H:Hp}{k:Y}{x m:a4}{e o:a6}{es:c!}{p al gJ:bi}{C b:ab}{α:Type}{hJ:lB}{d!:lw}{fS:ls}
def z:={
aT(F:qA aM n!)(hr:oT)(a:α)(ha:fl eO fX k7)(hp:C')(hg:j')(eg:g5)(he:g4)(a_:j9):fo A! sY:=adn F hr ha (λ us H1 s1 e1=>Ma (aZ a Ah Fa Z) u h) hg eg he a_
cK{pl:E3}(c:rp)(F:wq fb vJ k C m n!)(hr:oT)(a:α)(ho:q6 ig)(hi:ff (∃dx fs,CY/\uv))(ha:fl eO fX vs)(hv:k7=cx b::vs)(hp:C')(bw:g4)(a_:j9)(ht:Jz CB (po [ov] (Gz ov m pl)) fX):fo CB sY:=N4 c F hr ho hi ha (λ us H1 s1 e1=>Ma (aZ a (by rw[ev Ah hv.symm]) Fa Z) u h) bw a_ ht
}
section z
structure Fr where
 f:ab
 aK:a7
 A:dz
 br:ng
 s:ax
 H0:Hp
 E:XK
def z:={
zL.1(N:dp)(fR:a4)(st:pp)(P:cr)(w:cs)(K:bT)(mg:g7)(b!:d1)(e:Fr):Cx:=(Ba e.f e.aK e.A e.outer e.s e.H0 e.E).ja
}
section
variable{P:cr}{w:cs}{K:bT}{mg:g7}{b!:d1}{x fR:a4}{st:pp}{N ps:dp}{k:Y}{α:Type}{hJ:lB}{d!:lw}{fS:ls}
def z:={
bp(h:uc yy)(S:kq)(hb:∀(kV doc pm:a7)(an:ly)(aK ct:a7)(us:ck),qJ)(bH:qv)(eP:∀(a:α)(e:Fr)(H:Hp),bZ k (CN).A->d! a H->DX U a HC CN N a):mZ aM b! du x n!:=EI c7 S λ a f aK A br s H0 H E hr hp=>Ub A s H
iD{C:ab}(h:uc (mL K C x f))(S:kq)(hb:∀(kV doc pm:a7)(an:ly)(aK ct:a7)(us:ck),qJ)(bH:qv)(eP:∀(a:α)(e:Fr)(H:Hp),bZ k (CN).A->d! a H->DX U a HC CN N a):JM fb du x:=EI LB S λ a f aK A br s H0 H E hr hp=>Ub A s H
k8(h:uc yy)(S:kq)(hb:∀(kV doc pm:a7)(an:ly)(aK ct:a7)(us:ck),qJ)(bH:qv)(eP:∀(a:α)(f:ab)(aK:a7)(A:dz)(br:ng)(s:ax)(H0 H:Hp)(E:XK),xz DX U a xr):mZ aM b! du x n!:=EI c7 S λ a f aK A br s H0 H E hr hp=>qc (eP a f aK A) H E hr hp _ λ _ h=>h
ZT{C:ab}(h:uc (mL K C x f))(S:kq)(hb:∀(kV doc pm:a7)(an:ly)(aK ct:a7)(us:ck),qJ)(bH:qv)(eP:∀(a:α)(f:ab)(aK:a7)(A:dz)(br:ng)(s:ax)(H0 H:Hp)(E:XK),xz DX U a xr):JM fb du x:=EI LB S λ a f aK A br s H0 H E hr hp=>qc (eP a f aK A) H E hr hp _ λ _ h=>h
}
section z
section
variable{X:Cx}{σ:dA}{H:Hp}{o e f:a6}{al gJ p p2:bi}{P Po:bE}
def z:={
R6{Py Pz:bE}(hu:ln)(ho:fi)(he:yN)(hf:fo f Pz)(hd:j1 (∃a,ga u/\PM H1 a))(hx:∀a y z H1,hO (bc (Po eS) H1->bc (Py y) H1->bc (Pz z) H1->∃r,mJ H1 r/\bc (P (r.getD z)) H1))(m:hM (M2 X o "get" gJ e f al) aip._auto_1):ge uk (q! "get") [e,f]:=fh (aq2 hu aI aI aI m) n4 (by(rw[qB mx hd u hu aS aS]);refine(BD h1 iK GC λ y H3 s3 hy=>l7 (hf.later dl) λ z H4 s4 hz=>?_);refine ah (hx a y z H4 (iZ gY) (GD (r5 s4)) (hy.later s4) hz) au r h2 h3;exact bm r h2 (q _ H4 gY h3))
Ji(ho:fi)(hf:j1 (∃a C dx fs v,ga u/\H1 a=ad my/\rp/\cf a? C g/\jn g v/\bc (P v) H1))(hb:f_ De o g j7 j7):ge gb zU o g:=yT aaX hb n4 (by(rw[b5 (zK mx hf u hu λ a C dx fs v aU h1 h2 h3 h4 h5=>?_) aU]);exact UL kX C (q _ H2 s2 h5))
aHJ(hm:ca (gP "list"))(ho:fi)(hx:j1 tu (pP aC q\/oL q))(hv:jT (pA "list") L9)(hg:mn (nB "list"))(he:mY)(a_:og):lr qP (eZ "list") v mO xs:=o3 (Gn anJ hm hv rA) Q (by(rw[qy a9 h a9]);(rw[qB (hx u H1 s1 h) bu bu]);exact nc xs Fx (q _ _ (cV hl) jU e_ l zk aX))
Fm(hm:ca (gP "tuple"))(ho:fi)(hx:j1 tu pP aC q)(hv:jT (pA "tuple") UK)(hg:mn (nB "tuple"))(he:mY)(a_:og):lr qP (eZ "tuple") v pV dS a dO xs:=o3 (Gn aj0 hm hv rA) Q (by(rw[qy bW h bW]);(rw[qB (hx u H1 s1 h) cJ cJ]);exact(cF a xs Z gX #[h1,λ l hl=>q _ _ (cV hl) jU e_ l zk aX]))
oj{es:c!}(ha:qY)(hl:uj):lr (.List es al) v mO vs:=eN (mN dX) f' oq us #[by rw[ev f9 hl],λ p hp=>q _ _ G2 cV hp ie e_ p bF s4 (by rw[aX,f9])]
DP{a b:a6}{ys:bQ}(ha:uu a v (∃q,nS v/\mW q))(hb:uu b v (∃q,nS v/\dS q lst ys))(hl:RZ):lr (.BinOp a .Add b al) v (∃q,nS v/\dS q lst ME):=DM Dc Ri AW r4 u iK Gy λ v H3 s3 hv=>by(rw[eq GF (λ l dw _=>?_) dw]);refine ah (hu H3 s3) au l' e' h1;cases e';(rw[eq nD au r d7 h2 d7]);exact(Ck l r xs ys Z Z h1 h2 hl (λ p hp=>Kw _ hp ie e_ p bF s4 aX))
RR{lo:a6}(ho:fi)(hl:ej lo i)(hx:j1 (∃q xs,nS u/\oL q/\UZ 0 ve≠0/\∀p,bc (P qm) (upd H1 p (.dO (gS xs ve a!))))):ge qW yU ad lo a!:=IW aKI Qa (by(rw[b5 (fW JV λ a xs fM h1 be h2=>?_) fM]);exact(i5 a xs Z h1 (λ h=>be h.1) Fx Kw _ hl MS))
aAS{a:a6}{ta:TE}(ha:b? a ta):b? KW λ σ H Q=>g9 ta x (∃k,wW a? x H1 k/\Q zv k H1):=by rw[km,<-UnaryOp_ (qN ha I λ v s1 bx=>i9 bx λ x H1 I1 r1 k ht q1=>?_),not_of (bf (fr abN s1 H1 x v wE b fz zv b I1 r1 bm k ht q1) λ b s2 cy=>ah cy λ H2 I2 q2=>Ej zv b I2 Z)]
avH{z:bM}(ho:fi)(hx:j1 (wW a? u H1 z)):dV HY Not o (!z):=eN (aAS aI) n4 bm z Kc un
nZ{k:Y}{x:a4}{es:c!}{α:Type}{hJ:lB}{d!:lw}{fS:ls}(F:qA aM n!)(hr:oT)(ha:qU)(hp:qx (∃a,vs=k7/\Bu/\∀v H2,nf (fS a v H2->P v H2)))(hg:j')(eg:g5)(he:g4)(a_:j9):tY:=adn F hr ha (λ us H1 s1 e1=>by refine bL (hp us H1 s1 e1) λ a e2 h1 h2=>?_;exact e9 (aZ a e2 h1 Z) h2) hg eg he a_
}
section z
def z:={
apl(l:ab)(fN:ne)(n:Y)(b:ab)(As:ne)(cv:j5 (g?+As.size)):Meets (Builtin.«list.extend» #[[jG,cx b],[]]) (λ _ R s=>ke l sJ (k! fN n)/\(∃o n2,js/\o.cls=BY/\o.data=k! As n2)/\R (.ok (.ret N6)) j6 s K1 l (λ x=>x++As)):=by intro eJ w A R s zz;rw[<-bX zz λ hS zz hR=>aO zz EX n2 ho hc,jb (W5 jG ig eQ) s,qL W5 (FK bm o ho hc ?_)];(have h1:bb (Builtin.List.listSameRef jG ig||K!==Value.type "list"||K!==K!):=by simp);rw[KY h1,ci ?_,qL Builtin.List.listItems KC ho hd ?_,ci ?_,ci KC hS Z ?_];(have h2:(!items.isEmpty&&SD (g?+As.size))=false:=by rw[acZ cv,F0]);simp only[h2];rw[jb (N9 l (· ++ As)>>=(eT (ret N6))) s,ci (Gw hS Z ?_ (hz:=nV WM cv) (_hz':=by rw[Array.size_append];exact VQ cv)),DO hR]
aEo.1(K:bT):or:=kB vs (∃l b xs zs,JO (vs=[ig]) (aJ K H b zs) (Q .cB qb l MG))
arB{X:Cx}:TH (aEo a?):=by intro aN s σ H x vs v us Q I rx rv h;obtain⟨l,b,xs,zs,rfl,rfl,hH,hB,hz,q⟩:=h;rw[d0];(rw[eq rv.one au u a9 ru a9]);cases ru;rw[C0 n r e,hY hC hB λ kE r2 bu fT=>xN bu EX ho hc n2];have f7:=r2.length;rw[<-QG (apl l gH n b Nl (by rw[CA,KN hz hl f7])) #[e,(aE o n2 ho hc hd),?_],Le (aF++kE) e (FZ r2),JX JR hz]
}
section
variable{X:Cx}{σ:dA}{H:Hp}{elt fc:a6}{da:eX}{own:qX}{al hG p1 p2:bi}{y:a4}
def z:={
aje(i:Y){f:gt}(hc:c5)(hN:e7)(ok:iI)(hm:q7)(ha:C6)(gs:DK)(hw:jg)(hl:y9 nW)(he:∀(s:ax)(H0:Hp)(C:ab)(cl:bh)(fp:bA)(k:Y),uK->wg aB xD uA)(hg:∀(s:ax)(H:Hp)(C:ab)(cl:bh)(fp:bA),m5)(r6:tV)(rR:B9)(dY:t0)(hs:B0):lr HV .l2 nR [] v mO tj wX xA nW:=by refine eN (vL hc hN Ly ok hg xK oY hs) D9;refine oq vs (aE lo hi f9 gs t? (Ik Fp tt te xa JC t7 ?_ ?_));(.rw[DU k s3 e];(refine(Ch uA q_ λ H5 s5=>w! fF _ jV s5);(.rw[SF hE hk hl]);.exact oS (by rw[aV (c8 hb hD)];exact bF s5 bF s3 hb));.rw[C? aX GH nE];rfl);.rw[w4 s3 e,Bv q _ D]
ait(i:Y){f:gt}(hc:c5)(hN:e7)(ok:iI)(hm:q7)(ha:fl eO qe [dk hi])(gs:HK/\HP)(hw:jg)(hl:AK GE)(he:∀(s:ax)(H0:Hp)(C:ab)(cl:bh)(fp:bA)(k:Y),U2->wg aB G1 Fj (f Fj))(hg:∀(s:ax)(H:Hp)(C:ab)(cl:bh)(fp:bA),m5)(r6:tV)(rR:t0)(hs:AQ x wL qe x):lr HV .l2 qe [] v mO tj pJ xA GE wv k (0+wc k):=by refine eN (vL hc hN (Av r6 hm dX rR) ok hg xK oY hs) D9;refine oq vs (fF hi f9 gs.1 gs.2 t? (Ik Fp tt te xa pJ BB wv k (0+wc k) t7 ?_ ?_));(.rw[DU k s3 e];(refine(Ch (f Fj) q_ λ H5 s5=>w! fF _ jV s5);(.rw[SF hE hk hl]);.exact oS (by rw[aV (c8 hb hD)];exact bF s5 bF s3 hb));.rw[C? aX GH nE];rfl);.rw[w4 s3 e,Bv q _ D]
aj1{a o:a6}{Po:bE}(ha:f6)(ho:fi)(hx:j1 tu (aJ a? H1 q vs))(hf:xP)(hm:nH im .In o):dV kc In [o] y4:=fh ky tF Ob k4 iK r9 λ v H3 s3 hv=>by(rw[eq (hx v H3 dl hv) au p aS e aS]);exact(fK p vs Z jc e Z hf jq)
}
section z
section
variable{X:Cx}{σ:dA}{H:Hp}{o e a b:a6}{es:c!}{al gJ p kp:bi}{P Po Pa Pb:bE}
def z:={
Pl.1(S:Uc (Hp->ab->bQ->Prop))(K:bT):R2:=kB y (∃(a b:ab)(ns ms:mR),ga x/\y=cx b/\S K H a mK/\S K H b UE/\Q i7 BF H)
aoA(hu:F'<vE):de X n3 .LtE (Pl aJ a?):=by intro aN s σ H x y v u Q I rx ry h;(rw[lx (zd h λ a b ns ms aS aU ha hb q=>?_) aS aU]);rw[d0];cases ry;obtain⟨aF,r1,⟨⟨cls,dd,rH,sl⟩,ho,hc,n,hd⟩,_⟩:=hC ha;obtain⟨kE,r2,⟨⟨Rt,lC,data2,lq⟩,qg,uQ,n2,hd2⟩,_⟩:=hC hb;rw[QT (Sx op .LtE jS ho jS qg PySem.F.slot_tuple_le PySem.F.entry_tuple_le io PySem.F.args_tuple_le_2 (Ty _E.ap2 _ _ i1 i2) #[ho,qg,?_] hu) (F2 (Og ns ms)) x]
aMn(hu:F'<vE):de X n3 .LtE (Pl aC a?):=by intro aN s σ H x y v u Q I rx ry h;(rw[lx (zd h λ a b ns ms dw d7 ha hb q=>?_) dw d7]);rw[d0];cases ry;obtain⟨aF,r1,⟨⟨cls,dd,rH,sl⟩,n,ho,hc,_,hd⟩,_⟩:=fO ha;obtain⟨kE,r2,⟨⟨Rt,lC,data2,lq⟩,n2,qg,uQ,_,hd2⟩,_⟩:=fO hb;rw[QT (Sx op .LtE jS ho jS qg PySem.F.slot_list_le PySem.F.entry_list_le io PySem.F.args_list_le_2 (Ty _E.aod _ _ i1 i2) #[ho,qg,?_] hu) (F2 (Og ns ms)) x]
ZA{S:Uc (Hp->ab->bQ->Prop)}(ho:de X n3 .LtE (Pl S a?)){ms:mR}(ha:fo a Pa)(hb:fo b Pb)(h1:mk u (Pa u) tu (S a? H1 q mK))(h2:mk u (Pb u) tu (S a? H1 q UE))(hm:nY im .LtE b):hZ kc LtE [b] BF:=o1 ky sF ho AW r4 u iK Gy λ v H3 s3 hv=>by(rw[eq (h1 u H3 dl Ib) au l kK e1 kK]);(rw[eq (h2 v H3 dl hv) au r jx e2 jx]);exact #[l,r,ns,ms,rfl,rfl,e1,e2,_,rfl,ur]
aFQ.1(K:bT):or:=kB vs (∃(l:ab)(ns:mR)(k:a3),tz l/\vs=[dk k]/\aC K H l mK/\Q dk (UY:Y) H)
aDb:QS X "list.count" (aFQ a?):=by intro aN s σ H x vs v us Q I rx rv h;(rw[lx (hX h λ l ns k kd kj hs q=>?_) kd kj]);rw[d0];(rw[lx (arh (vB rv) λ u lZ t oC=>?_) lZ oC]);rw[hY fO hs λ aF r hl _=>?_];exact count_list_ints F4 r.ints (aE dk _ H xb zb q)
aq8{k:a3}(ho:fi)(he:ej e k)(hx:B?)(Li:f_ (VI o "count" gA j7) j7)(OH:k9 Kf mh [e] HQ ([e]:c!))(MU:k9 LC Gp)(hs:kR [e] e [])(a_:og):ej uk (q! "count") [e] (UY:Y):=eN (lF PySem.F.plainAttrs_list PySem.F.slot_list_count PySem.F.type_list_count aDb aI dX Li OH MU hs a_) n4 (by(rw[eq Kc au l nU h1 nU]);refine(eF gX (lg Z _ h1) _ kQ n1 (ae he ao hs) (λ vs H3 s3 e3=>?_));refine ah (hx _ H3 dl Ib) au l' e' h2;cases e';exact(b9 l ns k Z e3.now h2 jq))
agI(hc:c5)(hm:ca (gP "sum"))(ho:fi)(hx:B?)(hv:jT (pA "sum") LL)(hg:mn (nB "sum"))(he:mY)(a_:og):ej qP (eZ "sum") ns.sum:=o3 yZ ajl hv rA Q (by(rw[qy qF h qF]);(rw[qB (hx u H1 s1 h) nJ nJ]);exact nc ns ww)
aDM{m:a3}(hc:c5)(hm:Es)(ho:fi)(hx:B?)(be:Ea)(iY:RK k k (k=m))(hv:Cu)(hg:Cn)(he:mY)(a_:og):ej qP (eZ "max") m:=o3 yZ atq hv rA Q (by(rw[qy wB h wB]);(rw[qB (hx u H1 s1 h) xp xp]);exact(i5 a ns Z h1 be (λ k h2 h3=>Hc q H1 f? (by rw[iY k h2 h3]))))
aAc{j:a3}(hc:c5)(hm:Es)(ha:f6)(hb:lh)(hv:Cu)(hg:Cn)(he:kR [a,b] a [b])(Kz:kR [b] b [])(a_:nM [b]):ej nL (eZ "max" p) [a,b] (if j>i then j else i):=o3 yZ aEd hv (ae ha (ae hb ao Kz) he) Q (cF i j nD ww)
asO{t td:TE}{d:a6}(hc:c5)(hm:Es)(ho:b? o t)(hd:b? d td)(hg:Cn)(hv:Cu)(bw:mY)(he:f_ mh [o] (v6 o::mh []))(Bs:nM [o])(b_:P3 all)(O6:P0)(KD:P9 a4):b? (.l2 (eZ "max" p) [o] [HA dL d kp] al) λ σ H Q=>g9 t x Q? m k k:=by rw[km,<-W7 (yb I hg hm hv ?_),<-callWith_kw (bf (fr (iu ho fQ bw al) s H (λ xs H1=>match xs with|[x]=>Q? m k k|_=>nv) I h) au us s1 iB) he Bs b_ O6,<-aO iB EW xs H1 r1];rcases xs with _|⟨x,_|⟨x',xs⟩⟩;((.rw[Lg q1]);. (rw[b5 (ah (vB r1) au u u0 ru) u0]);refine kws_cons (tw hd λ w s2 bx=>agZ bx λ y H2 I2 ry l ns ex hl q0 q2=>kws_nil ?_);subst ex;cases ru;rw[ue I2.list hl hL];rw[KD];refine _X.aJO (I2.ok.hd hc) hL.isList No (λ e h2 tk hk=>(aE y H2 (I2.kept hk) ry (q0 e))) λ hp h2 tk M t' hk h3 h4=>(aE dk M H2 (I2.kept hk) zb (q2 hp M h3 h4)));.rw[Lg q1]
}
section z
section
variable{X:Cx}{σ:dA}{H:Hp}{e:a6}{es:c!}{al p:bi}{P:bE}{k:Y}{x:a4}
def z:={
oz.1(Pr:cr)(w:cs)(K:bT)(mg:g7)(b!:d1)(k:Y)(f:ab)(R:RP):Prop:=∃fd ps,bb Ts tr/\y3/\rc o0 d6 K k fd ps (yP R)
aM.at_{Pr:cr}{w:cs}{K:bT}{mg:g7}{b!:d1}{x:a4}(h:o0 aM K b! k x R):∃f,yy/\o0 oz K b! k f R:=by refine hX h λ f fd ps h1 h2 h3 h4=>?_;exact(vD f h1 fd ps h2 h3 h4)
oz.mono{Pr:cr}{w:cs}{K:bT}{mg:g7}{b!:d1}{j:Y}{f:ab}{R:RP}(h:o0 oz K b! k f R)(hj:k<=j):o0 oz K b! j f R:=by refine aO h λ fd ps h2 h3 h4=>?_;exact(aE fd ps h2 h3 (h4.mono hj))
Se{f:ab}{fd:Gu}{ps:dp}{sp:Sp}{t:TA}(i:Y)(F:wq d6 vJ eI k f fd ps sp)(hr:oT)(hk:bb (W4 a? tr))(hb:Binds a? fd ps [])(ha:PA X fX t)(hN:mE i x)(hv:Dh D1 mM)(hd:g5)(h_:AO (x==x7))(he:g4)(a_:j9):b? A! λ σ H Q=>dC σ i ad tr/\g9 t vs (sp vs H1 Q E0):=by intro aN s σ H Q I#[h0,h];refine W7 (bf (fr (Co (al:=p) hN hv hd h_) s H (λ v H1=>v=cx f/\H1=H) I Mf h0) λ u s1 cy=>fW cy λ v H1 I1 r1 e1 e2=>?_);subst e1 e2;cases r1;refine PySem.W.callWith_K (h₀:=vJ) I1.ok.mod.ya hk (bf (ha al aN s1 σ H1 _ I1 h) λ us s2 dB=>aO dB vb vs r2 #[I2.jE,?_]) he a_;exact Dm F hr hb eE ni I2 r2 (by rw[ev Ag q2])
Ju{f:ab}(i:Y)(F:wq oz vJ k f R)(hr:oT)(h0:dC σ i ad tr)(ha:qU)(hR:qx CS R vs v)(hN:mE i x)(hv:Dh D1 mM)(hd:g5)(h_:AO (x==x7))(he:g4)(a_:j9):tY:=by refine aO F λ fd ps hk hb G=>?_;refine eN (Se i G hr hk hb dX hN hv hd h_ he a_) f' (eF h0 PL (r4 s1) B_ H2 s2 ?_);refine ah BU hR au P' r i;exact(bm P' r λ v H3 s3 hp=>tN ie lp i v o6 hp)
}
section z
section
variable{Pr:cr}{w:cs}{K:bT}{mg:g7}{b!:d1}{k:Y}{x:a4}{α:Type}{hJ:lB}{d!:lw}{fS:ls}{C:ab}
def z:={
spI.1(C:ab)(hJ:lB)(d!:lw)(fS:ls):Sp:=λ vs H Q _=>∃a x dx H1,vs=cx x::k7/\H=upd (upd H1 dx (.own x)) x mq []/\ca (H1 x)/\rj dx/\dx≠x/\Bu/\∀H2,kZ H1 MB bD x fz .cB
mj.1(Pr:cr)(w:cs)(K:bT)(mg:g7)(b!:d1)(k:Y)(x:a4)(C:ab)(hJ:lB)(d!:lw)(fS:ls):Prop:=∃f fd ps,mg x=ad bD C/\Mk K C f/\y3/\rc o0 d6 K k fd ps (spI C hJ d! fS)
CG{st:pp}{fR:a4}{N ps:dp}(hm:mg x=ad bD C)(h:TF (gh K) st fd)(S:kq)(hb:∀(kV doc pm:a7)(an:ly)(aK ct:a7)(us:ck),Hk->SY an aK ct=Ho)(bH:∀a,Hu (Hr+1))(eP:∀(a:α)(f:ab)(aK:a7)(A:dz)(br:ng)(s:ax)(E:XK)(z dx:ab)(H1:Hp),bZ k Bb f->rj z->rj dx->dx≠z->d! a H1->∃t,ic (iA eI Pr w K mg b! N fR (aw st) f aK A br s JK E).ja sC t/\∀D:Ends,(∀a2 H2,kZ H1 MB wF IN)->t D Ms JK):sH (o0 mj K b! du x C):=by refine df h λ f fd M F=>?_;refine(b9 f fd ps hm M U1 (F.ok S (λ vs H Q E eG=>F7 eG λ a z dx H1 e _=>by rw[e,l3];exact bH a) λ aK A br s H vs Q E hr kD=>aGX kD λ a z dx H1 e eH h1 h2 h3 h4 q=>?_));subst e eH;refine ah (eP a f aK A br s E z dx H1 hr h1 h2 h3 h4) au t ht hq;exact bm t ht (hq _ jW a2 n (q H2 s2 n))
}
section z
section
variable{X:Cx}{σ:dA}{H:Hp}{e:a6}{es:c!}{al p:bi}{P:bE}{k:Y}{x:a4}{α:Type}{hJ:lB}{d!:lw}{fS:ls}{C:ab}
def z:={
B4{H1:Hp}{o o':HO}(h1:rj z)(h2:rj dx):aj H1 m4 (upd H1 dx o) o':=λ b u e=>by rw[aV (c8 e h1),aV (c8 e h2)];exact e
Kx(M:sH qA mj C)(hr:bZ du X.A)(ha:qU)(hp:qx (∃a,vs=k7/\Bu/\∀v H2,nf (fS a v H2->P v H2)))(hg:j')(eg:g5)(he:g4)(a_:j9):tY:=by rw[<-hX M λ f fd ps hm M hb G=>?_,<-eN (SU M G hr hg hm hb eE ni dX eg he a_) (f' bm PL pX λ vs H2 s2 hv z dx h1 h2 h3=>?_),<-bL BU hp λ a e2 h4 h5=>?_,CX (AG a z dx H2 (by rw[e2]) Z h1 h2 h3 h4 (λ H3 s3 n=>#[rfl,pK ie lp h5 _ o6 n]))]
tJ(M:sH qA mj C)(hr:bZ du X.A)(a:α)(ha:fl eO fX k7)(hp:C')(hg:j')(eg:g5)(he:g4)(a_:j9):fo A! sY:=Kx M hr ha (λ vs H1 s1 e1=>(aZ a Ah Fa (λ _ _ _ h=>h))) hg eg he a_
avn(M:sH qA mj C)(hr:bZ du X.A)(a:α)(ha:k7=[])(hp:C')(hg:j')(eg:g5):fo nL (eZ x p) [] sY:=by refine hX M λ f fd ps hm M hb G=>?_;refine eN (aqZ M G hr hg hm hb eE ni eg) λ H1 s1 Q q z dx h1 h2 h3=>?_;exact(AG a z dx H1 (by rw[ha];rfl) Z h1 h2 h3 Fa (λ H3 s3 n=>#[rfl,q _ H3 s3 n]))
qT{t:TS}{D:Ends}{fs:na}(hc:rp)(hn:cf a? C g)(hl:Ud)(he:Ev X σ H' e P)(hr:∀v H2,p? H' P (qS H2->t D σ m4 H2 mq (bK g v fs)))(hz:qS H')(ho:σ[0]?=ad Eg):ph (Ez a? zx MD g) t D σ H':=by refine l7 he jW v hv #[_,ho,z,C,dx,fs,rfl,tL hz,hc,hn,hl,?_];exact hr v H2 s2 hv tL hz
}
section z
def z:={
L_{f:a4}{v:V}:∀{fs:na},f∉yR->bK f v fs=fs++[(f,v)]|[],_=>rfl|(g,x)::r,h=>by have hg:¬g=f:=λ e=>h (by rw[KZ e,.head _]);show(if g=f then(g,v)::r else(g,x)::bK f v r)=_;rw[fG hg,L_ λ m=>h (.tail _ m)];rfl
dn.1:dp->bM|[]=>bC|vv=>r.all (λ y=>!bG (x=y))&&dn r
LS:∀{l:dp},bb (dn l)->l.Nodup|[],_=>eE|vv,h=>by unfold dn at h;rw[jN,Wy]at h;refine vm j2 y hy e (LS h.2);have:=h.1 y hy;rw[e]at cc;simp at cc
}
inductive Fv
 |v(x:V)
 |p(P:bE)
def z:={
Got.1(H:Hp):uI->(na->Prop)->Prop|[],k=>k []|(f,.v x)::l,k=>Got H l zn (k ((f,x)::fs))|(f,.p P)::l,k=>∀x,P x H->Got H l zn (k ((f,x)::fs))
Ai{H:Hp}:∀{l:uI}{k k':na->Prop},Got H l k->(∀fs,k fs->k' fs)->Got H l k'|[],_,_,h,q=>q _ h|(f,.v x)::l,_,_,h,q=>Ai (l:=l) h zn (q _)|(f,.p P)::l,_,_,h,q=>λ x hx=>Ai (l:=l) (h x hx) zn (q _)
SX.1(z C dx:ab)(H H':Hp):Prop:=vi (b≠z->gV H->gV H')/\∃fs,qS H'
Cm.1(z C dx:ab)(ns:dp)(P:bE):Prop:=∀v H fs gN,qS H->(∀f x,jn f x->ir f)->P v H->P v m4 H mq gN
apU{C:ab}{ns:dp}{P:bE}{v:V}{H:Hp}{fs:na}(k:Cm z C dx ns P)(hz:qS H)(hf:∀f x,jn f x->ir f)(s:SX z C dx H H')(n:bc (P v) H):bc (P v) H':=nN (by obtain⟨s1,gN,e⟩:=s;have e2:=jV s2;have g:aj H m4 H2 my:=oS (by by_cases h:b=z;(.subst h;rw[aX,<-hz];exact hb);.rw[aV h];exact tL (s1 _ _ h hb));have:=k v _ fs gN aX hf (n _ g);(have q:m4 m4 H2 my mq gN=H2:=funext λ b=>by by_cases h:b=z;(.subst h;rw[aX,e2]);.rw[aV h,aV h]);rw[q]at cc;exact cc)
}
inductive nX(X:Cx)(σ:dA)(z C dx:ab)(ns:dp)(H:Hp):eC->uI->Prop
 |cd:rh C [] []
 |v{e:a6}{f:a4}{p1 p2 p3:bi}{v:V}{r:eC}{l:uI}(hn:cf a? C f)(he:kt e)(h:rh C r l)(hs:I! e:=by rfl):rh C Jw ((f,.v v)::l)
 |p{e:a6}{f:a4}{p1 p2 p3:bi}{P:bE}{r:eC}{l:uI}(hn:cf a? C f)(he:oK)(hk:Cm z C dx ns P)(h:rh C r l)(hs:I! e:=by rfl):rh C Jw ((f,.p P)::l)
def z:={
SX.go{C:ab}{H2 H3:Hp}{o:HO}(s2:aj H' H2)(s3:SX z C dx m4 H2 o H3):SX z C dx H' H3:=#[λ b u n hb=>s3.1 _ _ n (by rw[aV n];exact tL hb),s3.2]
AV.1(X:Cx):eC->TS|.pi [.zU _ f _] e _::r=>ph (Ez a? zx MD f) (AV X r)|_=>R9
afm{f:a4}{x:V}:∀{fs:na},jn f x->f∈yR|(g,y)::r,h=>by by_cases e:f=g;(.rw[e];exact .head _);.refine .tail _ (afm (x:=x) ?_);rw[z1,N0 e]at h;exact h
nX.run{X:Cx}{σ:dA}{C:ab}{H:Hp}{ns:dp}(ho:∀p,b? (wG p) zx)(cl:rp)(hσ:σ[0]?=ad Eg)(hz:ca (H z))(hd:ns.Nodup)(hn:zW<1000){st:eC}(h:rh C st l):ic X st (AV X st)/\∀(D:Ends)(H':Hp)(fs:na)(T:h!),aj H H'->qS H'->yR++L4=ns->vc (aj H H2->SX z C dx H' H2->Got H2 l λ r=>H2 z=ad mq (fs++r)->T H2)->vc kZ H T (l5 σ H2)->AV X st D σ H':=by((have up:∀{H2:Hp}{o:HO},aj H H2->aj H m4 H2 o:=λ s b u hb=>by rw[aV (c8 hb hz)];exact bF s hb);have ap:∀{f:a4}{v:V}{fs r:na},fs++(f,v)::r=fs++[(f,v)]++r:=λ{f v fs r}=>by rw[Oh];rfl);(have sub:∀{fs:na}{f:a4}{r:dp},yR++f::r=ns->f∉yR/\Ud/\∀g x,jn g x->ir g:=λ{fs f r}e=>by subst e;refine #[λ m=>(List.nodup_append.mp hd).2.2 _ m _ (.head _) Z,?_,λ g x h=>List.mem_append_left _ (afm h)];rw[zM,hE]at hn;omega);induction h with|cd=>exact #[dg,λ D H' fs T s e _ k q=>q H' s λ H3 s3=>k H3 (Ac s3) #[λ b o _ hb=>zk hb,fs,jV s3] (by rw[CX jV s3])]|@v e f p1 p2 p3 v r l hn he h hs ih=>refine #[aP (ij (ho p1) aI hs) ih.1,λ D H' fs T s e en k q=>?_];have b:=sub en;refine qT cl hn b.2.1 U4 (λ u H2 s2 hu e2=>?_) e hσ;cases GF;rw[L_ b.1];refine ih.2 D _ (fs++[(f,v)]) T (up (Ac s2)) aX (by rw[nE,Oh];exact en) j2 H3 s3 x3 q;exact Ai (l:=l) (k H3 s3 (x3.go s2)) λ gN w e=>w (by rw[ev ap e])|@p e f p1 p2 p3 P r l hn he hk h hs ih=>refine #[aP (ij (ho p1) aI hs) ih.1,λ D H' fs T s e en k q=>?_];have b:=sub en;refine qT cl hn b.2.1 U4 (λ u H2 s2 hu e2=>?_) e hσ;rw[L_ b.1];refine ih.2 D _ (fs++[(f,u)]) T (up (Ac s2)) aX (by rw[nE,Oh];exact en) j2 H3 s3 x3 q;exact Ai (l:=l) (k H3 s3 (x3.go s2) u (apU hk e2 b.2.2 (x3.go (pr _)) hu).now) λ gN w e=>w (by rw[ev ap e])
nX.go{X:Cx}{σ:dA}{C:ab}{H:Hp}{ns:dp}{st:eC}{D:Ends}(T:h!)(ho:∀p,b? (wG p) zx)(cl:rp)(hz:ca (H z))(h:rh C st l)(s:lI)(e:H' z=ad mq [])(k:q4 H (Got H2 l λ r=>H2 z=ad mq r->T H2))(q:∀H2,kZ H T (l5 σ H2))(en:AC (L4=ns))(hσ:jT (σ[0]?) Eg)(hd:k9 (dn ns))(hn:RG):AV X st D σ H':=(R5 (h.run ho cl hσ hz) LS hn).2 D H' [] T s e en mA H2 s2 wp k q
}
inductive DI(X:Cx):eC->Prop
 |cd:DI X []
 |bn{e:a6}{f:a4}{p1 p2 p3:bi}{r:eC}(h:DI X r)(hs:I! e:=by rfl):DI X Jw
def z:={
aKm{X:Cx}(ho:∀p,b? (wG p) zx){st:eC}(h:DI X st):ic X st (AV X st):=by induction h with|cd=>exact dg|bn h hs ih=>exact aP (ij (ho _) aI hs) ih
fm0{α:Type}{p:ef α}:∀y∈([]:kA),p y:=L5 h h
fm{α:Type}{p:ef α}{x:α}{l:kA}(h:p x)(t:∀y∈l,p y):∀y∈x::l,p y:=List.forall_mem_cons.mpr #[h,t]
}
section
variable{Pr:cr}{w:cs}{K:bT}{mg:g7}{b!:d1}{k:Y}{x:a4}{C:ab}{α:Type}{hJ:lB}{d!:lw}{fS:ls}
def z:={
FY{st:pp}{fR:a4}{N ps:dp}(hm:mg x=ad bD C)(h:TF (gh K) st fd)(S:kq)(hb:∀(kV doc pm:a7)(an:ly)(aK ct:a7)(us:ck),Hk->SY an aK ct=Ho)(bH:∀a,Hu (Hr+1))(cl:dQ K C)(ns:dp)(eP:∀(a:α)(e:Fr)(z dx:ab)(H:Hp),bZ k (HM N Pr K).A->d! a H->∃l,nX HM N Pr K Ms z C dx ns H sC l/\L4=ns/\q4 H (Got H2 l zn (qS H2->fS a wF H2)))(h0:hM (∀a z,Ms[0]?=ad Eg) aEM._auto_1)(hN:jT (N[0]?) ("self":a4))(hv:Dh (mM (aw st) "self"))(hd:k9 (dn ns))(hl:RG):sH (o0 mj K b! du x C):=by refine CG hm h S hb bH λ a f aK A br s E z dx H1 hr hz om be hp=>?_;obtain⟨l,hi,en,q⟩:=eP a #[f,aK,A,br,s,JK,E] z dx H1 hr hp;obtain⟨ht,k⟩:=R5 (hi.run (λ p=>Co hN hv) cl (h0 a z) hz) LS hl;exact #[_,ht,λ D nn=>k D _ [] MB wF (B4 hz om) aX en mA H2 s2 ql λ H2 s2 n=>nn _ _ s2 n]
}
section z
section
variable{X:Cx}{σ:dA}{H:Hp}{elt fc:a6}{da:eX}{own:qX}{al hG p1 p2:bi}{y:a4}
def z:={
qI.1(lo:a3)(n:Y)(t:nl)(f:gt):bQ:=jI rf wX UD f
JH(lo:a3)(n:Y)(t:nl)(f:gt):y6 (n+1)=y6 n++LY bb (t AI n) (f AI n) []:=by unfold qI;rw[C? GH nE Oc];congr 1;rw[jP,M8,Od];split<;>rfl
aGh(lo:a3)(n:Y)(t:nl)(f:gt):cX y6 n<=n:=by unfold qI;rw[Du];have h1:=J4 t (UD).map wv k Hv;rw[Iy Oe h1,h1]
aEu(i:Y){c:a6}{f:gt}{t:nl}(ha:C6)(gs:DK)(hw:jg)(hl:y9 nW)(ht:∀(s:ax)(H0:Hp)(C:ab)(cl:bh)(fp:bA)(k:Y),uK->Te mt xD H c uF)(he:∀(s:ax)(H0:Hp)(C:ab)(cl:bh)(fp:bA)(k:Y),uK->bb (t pM)->wg aB xD uA):ff tB D (rj D->nf (sx H2 D y6 nW->fz oD)) w6 (lN (Mh (B7 X nR)) CE w_ sM) H1 Q:=by intro H1 s1 Q q;refine oq vs (aE lo hi f9 gs t? (Jc Fp tt te (λ k H'=>pO H2/\sx H' D y6 k) t7 ?_ ?_));(.rw[DU k s3 e,<-Ch uF (ht s H0 C cl) Mx];cases et:uF with|bC=>rw[JE uA (q_ fp k hk et).l_ s5];((.rw[BT (aGh lo k t f) (rZ hk hl)]);.exact oS (by rw[aV (c8 hb hD)];exact xc yg));.rw[aX,JH,e! et]|false=>refine jQ #[y!,?_];rw[p4,JH,kH (by rw[et];simp),Ag]);.rw[w4 s3 e,q D H' (s2.free hD) uZ e]
ajF(i j:Y){z:a4}{pz:bi}{c:a6}(hc:c5)(hN:e7)(ok:iI)(hm:q7)(hg:∀(s:ax)(H:Hp)(C:ab)(cl:bh)(fp:bA),m5)(r6:tV)(rR:B9)(dY:t0)(hz:mE j z)(n_:CI)(mC:Cf IU)(hs:B0):PS X C3 IU (λ D σ H=>w6 (lN (Mh (B7 X nR)) CE w_ sM) H λ x H2=>l5 (GA j xl) H2):=yC (i:=j) hc hN hz n_ mC Ly ok hg Lu oY hs
}
section z
section
variable{X:Cx}{σ:dA}{H:Hp}{a b:a6}{db:c!}{al:bi}{x:bM}
def z:={
sV(ha:uS)(hx:oW):kw jy And u? iQ:=by(have h:=L? cE (b:=b) (db:=db) (al:=al) ha λ e=>by rw[h? hx e e]);rw[S6,h]
EN(ha:dV a x)(hx:oW):dV jy And u? iQ:=by(have h:=L? cp (b:=b) (db:=db) (al:=al) ha λ e=>by rw[h? hx e e]);rw[S6,h]
}
section z
def z:={
axf{k:Y}{v:V}(h:0<k)(e:jB (xs[k - 1]?)):jB (kO xs (kW k - 1)):=by rw[show(kW k - 1)=eU (k - 1)by exact Al h];exact cg e
}
section
variable{X:Cx}{σ:dA}{H:Hp}{elt fc c:a6}{da:eX}{own:qX}{al hG p1 p2:bi}{y:a4}
def z:={
azV(i:Y){Po:bE}{f:gt}{t:nl}(ho:lm)(hx:tT)(hw:jg)(hl:ll)(ht:∀(s:ax)(H0:Hp)(C:ab)(cl:bh)(fp:bA)(k:Y)(x:V),p! k x (Te mt AH H c (t x)))(he:∀(s:ax)(H0:Hp)(C:ab)(cl:bh)(fp:bA)(k:Y)(x:V),dC xs k x->rm t->Hi):Ks tj UR Dg w_:=by intro H1 s1 Q q;rw[x_ H2 s2 hu];(rw[xF aS fk aS]);have dZ:∀H3,aj H2 H3->aC a? H3 a xs:=jU (by rw[xB H3 e h]);refine BD #[xs,fk] t? (Jc (FA (xs:=xs) (g:=CE)) tt te xa rf IO t7 (λ k H' _ bx=>bq bx λ s3 _=>dZ H' s3) ?_ ?_);(.rw[yG k x e];(refine(eF (hw x) (t x) sR ((ht s H0 C cl fp k x hk).l_ dl) Mx);have jH:jI rf (N? du) f=jI rf IO f++LY rm t (f x) []:=by rw[C? Oa hk Oc];congr 1;show jI rf [x] f=_;rw[Od];split<;>rfl);cases et:t x with|bC=>rw[JE (f x) (q_ fp k x hk et).l_ s5];((.rw[Du];have h1:=J4 t N? k;rw[FI]at h1;rw[BT (show _<=b4 by exact aoN h1) hl]);.exact oS (by rw[aV (c8 hb hD)];exact xc yg));.rw[aX,jH,e! et]|false=>refine jQ #[y!,?_];rw[p4,jH,kH (by rw[et];simp),Ag]);.rw[Jb]
azq(i j:Y){z:a4}{pz:bi}{db:eC}{N:k?}{P:bE}{Po:bE}{f:gt}{t:nl}(hc:c5)(hN:e7)(ok:iI)(ho:lm)(hx:tT)(hw:jg)(hl:ll)(ht:∀(s:ax)(H0:Hp)(C:ab)(cl:bh)(fp:bA)(k:Y)(x:V),p! k x (Te mt AH H c (t x)))(he:∀(s:ax)(H0:Hp)(C:ab)(cl:bh)(fp:bA)(k:Y)(x:V),dC xs k x->rm t->Hi)(hg:∀(s:ax)(H:Hp)(C:ab)(cl:bh)(fp:bA),m5)(hr:Jm a a tj UR)(hz:mE j z)(n_:CI)(mC:Cf Hs [c])(hs:m1):jf C3 Hs [c]:=J2 mf Lu (azV i ho hx hw hl ht he H1 s1 Ln jW v hv (by(rw[eq nD au a aU ha aU]);exact xx mx hr a ha))
}
section z
section
variable{X:Cx}{σ:dA}{H:Hp}{o d:a6}{al p kp:bi}{Po:bE}
def z:={
aEV{dd m:a3}(hc:c5)(hm:Es)(ho:fi)(hd:ej d dd)(hx:B?)(h0:ns=[]->m=dd)(h1:RK k k (k=m))(hg:Cn)(hv:Cu)(bw:mY)(he:f_ mh [o] (v6 o::mh []))(Bs:nM [o])(b_:P3 all)(O6:P0)(KD:P9 a4):ej (.l2 (eZ "max" p) [o] [HA dL d kp] al) m:=fh (asO hc hm aI aI hg hv bw he Bs b_ O6 KD) n4 pR hd.later (by(rw[eq JV au l a9 h2 a9]);exact(i5 l ns Z h2 (λ e=>Rh (h0 e)) (λ _ k hk hm=>Rh (h1 k hk hm))))
}
section z
section _M
namespace _P
open lR o9 lS _L _M
def z:={
fsB.1(N P:dp)(sc:eX):bM:=bG (sc.kind=wI/\sc.isCoroutine=false/\sc.isGenerator=false/\N.Nodup/\N.take P.length=P/\(∀x∈P,x4 .local\/x4 f8)/\∀y∈sc.names,y.2≠fY)
aH{N P:dp}{sc:eX}(h:bb (fsB N P sc)):aD N P sc:=by obtain⟨a,b,c,d,e,f,g⟩:=KL;exact #[a,b,c,d,e,f,g]
aop:a5 ["number","bit"] ["number","bit"] UI:=O
av8:ld Z0:=O
ac2:ow ["numbers","number"] EL:=O
auv:t! ae3:=O
ajW:t! aat:=O
aty:t! Tx:=O
amv:t! RB:=O
awV:t! QZ:=O
ayr:t! RY:=O
C_:a5 ["scalar","offset","trailing","leading","vowel"] ["scalar"] ada:=O
aas:ow ["numbers","records","at","kind"] Ip:=O
adq:ow ["numbers","records","at","record","behind","kind"] E6:=O
T7:ow ["numbers","records","at","record","key_end","behind","key","kind"] ER:=O
IC:a5 ["records","record"] ["records"] yE:=O
aaT:a5 ["self","rows","records"] ["self","rows"] yd:=O
K4:a5 ["self","part","kind"] ["self","part","kind"] Qz:=O
vR:Pm ["self","kind","scalar","ranges","low","high","middle"] aeD:=O
atH:a5 ["self","bit","scalar"] ["self","bit","scalar"] UP:=O
yo:Ka ["self","row","classes","place","scalar"] oJ:=O
aj2:Qx VN:=O
aBr:Qx abm:=O
aA6:a5 ["self","kind","key"] ["self","kind","key"] X6:=O
avt:Jx YT:=O
BE:HT ["self","scalar","row","turn","step"] VB:=O
ag6:Jx ac3:=O
adZ:Ka ["self","row","stepped","scalar","step"] T4:=O
Kh:Ka ["self","row","scalar"] Ih:=O
BH:HT ["self","scalar","row","steps"] TL:=O
axg:Jx adl:=O
aaA:yf ["self","counts","record"] V9:=O
aLW:Cp acX:=O
SJ:Qj Yv:=O
Jj:Qj Ux:=O
aAw:Dz QR:=O
Ql:a5 ["marks","text","mark"] ["marks","text"] EC:=O
Y_:Sh ["marks","begin","at"] adR:=O
ab2:Sh ["marks","begin","must","place"] Eu:=O
aMr:a5 ["self","kind","begin","end"] ["self","kind","begin","end"] abH:=O
aow:a5 [] [] abD:=O
aqn:a5 ["book","kind","scalar"] ["book","kind","scalar"] Vs:=O
U7:a5 ["book","text","kinds","begin","end","kind","scalar","is_mark","unit","general"] ["book","text","kinds","begin","end"] Q_:=O
Xq:a5 ["kinds","begin","end"] ["kinds","begin"] QE:=O
YZ:RF ["book","ways","text","kinds","units","begin","end","scalar"] En:=O
aLF:Cq X_:=O
Sz:a5 ["book","text","units","first","last","cost"] ["book","text","units","first","last"] aaf:=O
Su:QL ["book","text","units","first","behind","least","lasts","begin","last","cost","whole"] RU:=O
Sf:QL ["book","text","units","first","behind","lasts","cuts","begin"] Zg:=O
UJ:a5 ["book","text","units","cuts","first","behind","unit"] ["book","text","units"] QF:=O
aKo:Dz aag:=O
afW:Dz YM:=O
aKq:Dz Yb:=O
aoW:Cq U3:=O
QV:Cq SI:=O
aek:a5 ["self","units","place","is_cut","no_space"] ["self","units","place","is_cut"] ZK:=O
aqf:a5 ["holds"] ["holds"] Qe:=O
auV:er Rv:=O
ax0:er acR:=O
aG0:er Tu:=O
aDH:er Th:=O
att:er aeb:=O
ass:er US:=O
aq7:er aeH:=O
aMf:er abz:=O
aa7:nK ["at","begins"] Wn:=O
ZX:nK ["at","ends"] Sq:=O
aFA:er Z':=O
aw0:er QY:=O
azY:er Wq:=O
aFB:er V_:=O
arG:er aep:=O
arR:er Y7:=O
KU:nK ["at","is_hyphen","begins"] ae2:=O
abd:nK ["at","is_hyphen"] aci:=O
aw8:er adO:=O
Nc:RT ZN:=O
V0:Cq Vn:=O
aim:er WX:=O
Hb:nK ["at","x","y","digits_open"] Xt:=O
ana:a5 ["x","y"] ["x","y"] acI:=O
P5:RT R7:=O
ar8:er aec:=O
axm:a5 ["unit"] ["unit"] Yy:=O
ame:er UA:=O
aKz:er VA:=O
aro:er Tj:=O
aaO:O3 ["units","place","back"] afF:=O
aAp:er T3:=O
aBg:er Zs:=O
ab3:nK ["at","rule","said"] ae9:=O
Rf:RF ["book","ways","text","units","cuts","marks","place","scalar"] DZ:=O
ayT:Cp abh:=O
aG7:Cp Ve:=O
aIQ:Cp afD:=O
afs:a5 ["self","book","text","scalar"] ["self","book","text"] qR:=O
ai8:a5 ["a","b"] ["a","b"] abV:=O
AE:Im ["signs","begin","place","linked","back"] X1:=O
OS:Qg aeG:=O
Pe:Qg Rj:=O
K0:Im ["signs","begin","place","a","b"] XI:=O
V5:a5 ["signs","begin","end","ends","place"] ["signs","begin","end"] EO:=O
aer:Pq ["book","ways","scalar","width"] We:=O
aee:a5 ["self","book","ways","text","scalar"] ["self","book","ways","text"] wN:=O
aax:a5 ["sheet","begin","end","column","cluster","number"] ["sheet","begin","end","column"] Ui:=O
Qm:Ry ["sheet","begin","end","column","at","border"] Uk:=O
aaU:Ry ["sheet","begin","end"] Zk:=O
abJ:a5 ["sheet","columns","begin","places","fits","place"] ["sheet","columns","begin","places"] Ht:=O
RV:a5 ["sheet","columns","splits","begin","chances","end","borders"] ["sheet","columns","splits","begin","chances"] aa1:=O
aeM:a5 ["sheet","columns","splits","marks","lines","begin","end"] ["sheet","columns","splits","marks"] adS:=O
Dd:HG ["book","scalar","steps","step"] ZD:=O
GU:hV ["book","record","behind","scalar"] O1:=O
Mn:xC Nz:=O
aJE:lc ad3:=O
J9:xC Mu:=O
awT:lc Yw:=O
asF:lc aeK:=O
aGC:lc SM:=O
MM:hV ["book","record","scalar","row"] Wu:=O
Mb:Jd W':=O
ahm:lc aaE:=O
aIO:a5 ["book","kind","record"] ["book","kind","record"] acb:=O
aHt:lc Y9:=O
Lz:hV ["book","record","scalar","bracket"] aeI:=O
Sw:xC SE:=O
Hg:hV ["book","record","nought","digit"] KJ:=O
ahC:a5 ["book"] ["book"] Uo:=O
apn:lc adQ:=O
MV:hV ["book","record","script"] PD:=O
Pp:Jd Yr:=O
aJB:a5 [] [] Fq:=O
MO:a5 ["record","scalar"] ["record"] GZ:=O
acr:QD ZG:=O
Wh:xC Wp:=O
aLr:a5 ["book","scalar","first"] ["book","scalar","first"] Uv:=O
avl:R8 aeW:=O
JB:a5 ["book","first","second","cluster","wanted"] ["book","first","second"] adB:=O
aai:hV ["book","record","row"] abw:=O
ai9:ld V8:=O
akc:ld Xx:=O
aio:ld TY:=O
aw3:ld Uz:=O
akE:ld XM:=O
ald:ld ae6:=O
Hx:hV ["book","record","row","place","number"] adD:=O
HH:hV ["book","record","key","scalar"] Jp:=O
ajG:lc YB:=O
aCw:lc RW:=O
afE:QD W6:=O
agN:lc Xo:=O
W8:HG ["book","scalar","folded","parts","part"] VY:=O
afq:Jd Yp:=O
DY:hV ["book","record","wanted","scalar"] N7:=O
ML:xC NP:=O
alQ:a5 [] [] Fb:=O
Yf:a5 ["book","rule","part","kind","holds","record"] ["book"] X0:=O
Yg:a5 ["sheet","columns","begin","end","is_last","lack"] ["sheet","columns","begin","end","is_last"] WY:=O
aEO:R8 Rb:=O
SW:a5 ["sheet","columns","places","must","least","ends","at","begin","end","badness"] ["sheet","columns","places"] aaF:=O
Rz:a5 ["sheet","columns","marks","lines","begin","places","ends"] ["sheet","columns","marks"] XG:=O
agA:a5 ["last","first"] ["last","first"] ZI:=O
TZ:Iw ["numbers","at","kind","first","last","follows","value"] abX:=O
acG:ow ["numbers","at","rule"] abT:=O
Yc:ow ["numbers","place"] aaG:=O
aKd:a5 ["kind","row"] ["kind","row"] WS:=O
aaH:Ro ["numbers","at","before","kind","scalar","follows","many","row"] YI:=O
agu:Q7 Y1:=O
aGD:Q7 afc:=O
Vx:a5 ["numbers","at","kind","many"] ["numbers","at","kind"] adz:=O
Zm:Ro ["numbers","at","before","kind","length","key","follows"] WU:=O
ack:Iw ["numbers","at","key_end"] abU:=O
aeR:a5 ["numbers","record_rule","record_end","before","at","record","rule"] ["numbers","record_rule","record_end"] T8:=O
agO:ld Qh:=O
ag9:ld YA:=O
aaR:a5 ["name","letter"] ["name"] Em:=O
aDN:a5 ["name","number","names"] ["name","number","names"] ac0:=O
X4:ow ["numbers","names","at","name"] UW:=O
alk:a5 ["kind","value"] ["kind","value"] Zu:=O
UH:ow ["numbers","walked","at"] adK:=O
QX:a5 ["rows","broken"] ["rows"] Xi:=O
apM:ld Xn:=O
aCs:a5 ["self","number"] ["self","number"] Xh:=O
ak0:a5 ["w","text"] ["w","text"] Qu:=O
U0:a5 ["w","columns","text","marks","refused"] ["w","columns","text","marks"] XR:=O
atF:yf ["self"] XD:=O
ac5:a5 ["self","rows","broken","book","row"] ["self","rows"] Kp:=O
as7:O9 ["self","w","text"] YF:=O
acq:Je adh:=O
aay:Je UB:=O
ZV:Qn acU:=O
UT:Qn Ua:=O
R':Je Vq:=O
aHA:a5 ["self","numbers"] ["self","numbers"] Vi:=O
avL:yf ["self"] adE:=O
afp:yf ["self","number"] ab5:=O
W1:yf ["self","many","row"] ac9:=O
afB:Rs ["desk","call","reader","w","text"] Qb:=O
ZL:Rs ["desk","call","reader","w","columns","text","marks"] XW:=O
Sg:a5 ["desk","reader","call","row"] ["desk","reader"] JI:=O
VG:a5 ["calls","desk","reader","told","answer"] ["calls"] P2:=O
}
section _P
namespace _P
open lR o9 lS _L _M
variable{P:cr}{w:cs}{K:bT}{mg:g7}{b!:d1}{c:Cs}
variable{l:c?}{C z dx:ab}{α β:Type}{H':Hp}{g:Mj}{R:α->ef β}{m:cR β}{ns:dp}{u:V}{xs:bQ}
def z:={
iJ.1(n:a3)(b:a3):bM:=bG (T_ (n/2^b.toNat) 1=1)
RI.2(g:a3->V):RP:=RQ (λ n:a3=>[dk n]) oN mA n v (v=g n)
mI(A:bB):kg "has_bit" (RQ gp (a3×a3) [dk a.1,e5 eh] (λ a _=>0<=eh) kn (iJ a.1 eh)):=c7 A.ayH aop gR b2 (λ _=>rfl) λ a f aK A' br s H0 H E hr hp=>oP (dW (aW uG (iz GB bv el hp) ai) ai)
yB.1(n:a3):bM:=bG (0<=n)&&bG (n<=1114111)&&!(bG (55296<=n)&&bG (n<=57343))
sW(A:bB):lu (kg "is_scalar") RI yB:=g6 A.axo av8 λ a f aK A' br s H0 H E hr hp=>oP (cp u5 d5 ai A.g.aki eT (bY (iL u5 d5 e4 A.g.Z2 A.g.Xw)))
Hm.1(n:a3):bM:=bG (4352<=n)&&bG (n<=4370)
DJ.1(n:a3):bM:=bG (4449<=n)&&bG (n<=4469)
ED.1(n:a3):bM:=bG (4519<n)&&bG (n<=4546)
t_.1(n:a3):bM:=bG (44032<=n)&&bG (n<=55203)
QH(A:bB):lu (kg "is_leading") RI Hm:=g6 A.ajj auv λ a f aK A' br s H0 H E hr hp=>oP u5 d5 e4 A.g.Zh A.g.ak8
Rk(A:bB):lu (kg "is_vowel") RI DJ:=g6 A.an4 ajW λ a f aK A' br s H0 H E hr hp=>oP u5 d5 e4 A.g.Vd A.g.aGn
RH(A:bB):lu (kg "is_trailing") RI ED:=g6 A.aFi aty λ a f aK A' br s H0 H E hr hp=>oP u5 cM e4 A.g.abK A.g.aLb
Ic(A:bB):lu (kg "is_syllable") RI t_:=g6 A.asi amv λ a f aK A' br s H0 H E hr hp=>oP u5 d5 e4 A.g.MF A.g.aJ5
Pc.1(n:a3):bM:=t_ n&&bG (EA=0)
awc(A:bB):lu (kl "is_lv_syllable") RI Pc:=g6 A.az5 awV λ a f aK A' br s H0 H E hr hp=>oP (cp mG Ic a eT (bY (dW (iz vj (aW cW bv (ag A.g.MF)) (ag A.g.KI) cS) ai)))
lJ.1(n:a3):bM:=Hm n||(DJ n||(ED n||t_ n))
yn(A:bB):lu (kl "is_hangul") RI lJ:=g6 A.aH3 ayr λ a f aK A' br s H0 H E hr hp=>oP (fL mG QH a eT (fL mG Rk a eT (fL mG RH a eT (bY mG Ic a))))
gw{S:α->ef β}(h:∀x y,R x y->S x y){l:kA}(p:kx R l m):kx S l m:=_L.Paired.DE p h
pf{l:kA}{i:Y}{y:β}(h:kx R l m)(e:dC m i y):∃x,dC l i x/\R x y:=by induction h generalizing i with|cd=>simp at e|bn r t ih=>cases i with|zero=>cases e;exact e9 Z r|succ i=>refine ah (ih (i:=i) (by simpa using e)) au x h1 h2;exact bm x ip h1 h2
iO{l:kA}(h:kx R l m):vP=m.length:=NT h
cT.1(H:Hp)(v:V)(l:c?):Prop:=pV dS a dO nj
mQ.1(H:Hp)(v:V)(x:Uy):Prop:=pV dS a dO [vN x.1,vN x.2.first,vN x.2.last,vN x.2.iU]
jM.1(H:Hp)(v:V)(x:L7):Prop:=DH y dS a dO [vN x.1,vN x.2.scalar,y] (cT H y x.2.to)
k_.1(H:Hp)(v:V)(x:Y×GJ):Prop:=∃a y z,ga v/\dS a dO [vN x.1,y,z]/\cT H y x.2.key/\cT H z x.2.to
eD.1(R:Hp->V->ef α)(H:Hp)(v:V)(l:kA):Prop:=DH xs dS a lst xs kx (R H) xs l
Up.1(R:Hp->V->ef α):Prop:=∀H H' v x,aj H H'->R H v x->R H' v x
gG:Up cT:=qM x bx uL bx h t6
mB:Up mQ:=qM x cy uL cy h t6
j4:Up jM:=qM x dB (aO dB λ a y e h t=>(aE a y e t6 (jp gG s t)))
mU:Up k_:=qM x eG (hX eG λ a y z e h t u=>(b9 a y z e t6 (jp gG s t) (jp gG s u)))
gj{R:Hp->V->ef α}(h:Up R):Up (eD R):=qM x kD (aO kD λ a xs e h1 p=>(aE a xs e Mv (gw (λ _ _=>la h _ s) p)))
}
structure bR where
 ps:i3 Y r!
 ms:i3 Y l!
 ss:i3 Y GJ
 ns:cR Mt.Bytes
def z:={
bR.book.1(d:bR):Am:=#[Ec Mt.PROPS r?,Ec Oi d.ms,Ec Mt.SEQS d.ss,d.ns]
qH.1:dp:=["records","value","has_flag","in_order","row","has_row","number_of","canonical_step","taken_apart","k_step","stepped_by_k","has_k_step","find_by_k","by_k","composing_counts"]
}
structure jj(C:ab)(H:Hp)(b:ab)(d:bR):Prop where
 dc:wf _B.di
 ex:∃dx fs pa p0 p1 p2,H b=ad my/\jn ("parts":a4) bD pa/\(∀m∈qH,uv)/\dS pa lst [p0,p1,p2]/\eD (eD mQ) H p0 (_B.eK 14 r?)/\eD (eD jM) H p1 (_B.eK 15 d.ms)/\eD (eD k_) H p2 (_B.eK 3 d.ss)
def z:={
jj.later{H:Hp}{b:ab}{d:bR}(h:jj C H b d)(s:lI):jj C H' b d:=by refine yA h.ex λ dx fs pa p0 p1 p2 h1 h2 h3 h4 h5 h6 h7=>?_;exact #[h.dc,dx,fs,pa,p0,p1,p2,Mv,h2,h3,bF s h4,Mi mB _ h5,Mi j4 _ h6,Mi mU _ h7]
ZQ(d:bR){k:Y}(h:k<14):m2=_B.pick k r?:=_B.jr r? (show k<Mt.PROPS from h)
axk.2(C:ab):RP:=RQ gp (vf×Y×a3) [nP,Br,e5 c_] g3 (jj C H a.1.1 me/\dH<14) mA a v (v=vN (Oj AD me dH c_))
VL(z:a3):(bb (yB z))↔0<=z/\qf Ol:=by rw[_B.oZ];unfold yB;simp only[jN,jR,W9,W!,At];exact arQ
Bi(A:bB):wl 2 gQ "value" (axk gQ):=wS A.bj.avh vR λ a e H hr hp U hU=>by rw[J? d k z,qw];(rw[b5 (yA vQ λ dx fs pa p0 p1 p2 hb rS hm wd aS _ _=>D! aS aU rT) aU]);(rw[b5 (v7 (pf wY EQ r?) λ vk lE ak rs a9 pd tW=>?_) a9]);(have bH:rs.length=cX m2:=by rw[iO tW,ZQ d hk,_B.FX]);(have dj:∀(i:Y)(q:r!),m2[i]?=ad q->∃r a',dC rs i bD a'/\dS a' dO [vN r,vN q.first,vN GK,vN q.value]:=λ i q hq=>by rw[ZQ d hk,<-_B.m8,rQ]at hq;cases e:(_B.cU k r?)[i]? with|a!=>rw[h? e hq hq]|dL y=>rw[h? e hq hq];obtain⟨v,h1,a',rfl,h2⟩:=pf tW e;exact(cF _ a' h1 h2));have zJ:ff (aC K H1 ak rs):=xd s1 (ma gU pd);rw[i!];generalize hn:cX m2=n at bH;rw[dR (bI 3 Au (v:=cx ak)) (cO (cO (cQ bv d2 Bq fs A.bj.wQ rS) e4 A.g.QI AN (ma gU wd)) el HF rT cg lE),<-bI 4 Au ai ?_,dR (bI 5 Au (v:=e5 n)) (dq vS g8 B! Lc ak rs (zJ H1 s1)),dR (mD mA m a2 (∃(lo hi:Y)(mv:oR),a2=[ra,nh k,ad dk z,ad bD ak,nh lo,nh hi,mv]/\m=hi - lo/\lo<=hi/\hi<=n/\Ra q (i<lo) (D8<z)/\Ra q (hi<=i) (z<=D8)) (λ _ _ _ _ _ h=>h) n GL) #[0,n,a!,rfl,by exact avG,LJ,iG,λ i q h=>by exact(nI h).elim,λ i q h e=>by rw[RE le_of_eq_of_le hn h]at e;cases e]];rintro m a2 H1 s1⟨lo,hi,mv,rfl,rfl,h1,h2,h3,h4⟩;refine(aZ _ (bP cM kF (aa 5)) dt dt);(. ((have a8:lo<hi:=by rw[D?]);have em:((kW lo+cH hi)/2)=eU np:=by exact aCc);rw[dR ft (bI 6 Au) np ((iz r_ zl kF (aa 5) ai LG).imp gd (by rw[e,em]))];obtain⟨q,hq⟩:∃q,m2[np]?=ad q:=#[_,Ay (by exact aAb a8 h2 hn)];refine df (dj _ q hq) λ r a' lM oF=>?_;have hF:=List.pairwise_iff_getElem.mp (hR.dc.OE k hk);(have hle:∀(i j:Y)(p q:r!),i<=j->m2[i]?=ad p->m2[j]?=ad q->p.last<=GK:=λ i j p q tE hp hq=>by rw[QO li hp,QO lj hq];by_cases e:i=j;(.subst e;exact kJ _);.have h5:=hF i j li lj (by exact Nat.lt_of_le_of_ne tE e);have h6:=(hR.dc.gT k _ hk (List.getElem_mem lj)).le;dsimp only at h6;exact aL2 h5 h6);refine rg (bP cM J1 nT GK MY oF cY) UN (bI 4) zl MY ai H2 UN (bI 5) MY H2 (λ d9 H2 s2 h=>c6 h);(.rw[jv d8 (D8<z) hx,<-#[hi - (np+1),nV al4 a8,Hf/2+1,hi,nh np,rfl,rfl,nV ajA a8,h2,λ i p fg hp=>?_,h4]];have:=hle i np p q gn Nat.le_of_lt_succ fg hp hq;exact akt d8 cc);.rw[jv d8 (z<=D8) hx,<-#[np - lo,nV aE4 a8,lo,Hf/2,nh np,rfl,rfl,nV azN a8,by exact aKk a8 h2,h3,λ i p fg hp=>?_]];have:=hle np i q p fg hq hp;exact atN d8 cc);. (have heq:lo=hi:=by(have:¬(cH lo)<hi:=by rw[D?]);exact IH h1 cc);subst heq;have bJ:=VL z;by_cases pC:lo<n;(.obtain⟨q,hq⟩:∃q,m2[lo]?=ad q:=#[_,Ay (by exact BP pC hn)];refine df (dj _ q hq) λ r a' lM oF=>?_;have hz:=h4 lo q (kJ _) hq;refine aY vd (cE (bP cM kF (dq vS g8 j8 H2 s2 Lc ak rs HW)) eT (cE (bP d5 J1 nT q.first kF oF cY) eT (c4 (bN G7 sW z cY)))) dt dt;(.rw[Jo hx,<-bX hx λ _ hf hs=>?_];obtain⟨hz0,ua⟩:=bJ.mp hs;rw[<-ft aG q.value J1 bU kF oF f? ?_,D0];rw[e! #[hz0,ua],_B.axQ hR.dc hk (c:=Ol) (λ i p hi hp=>by rw[oH (h3 i p hi hp) J8]) hq gn awJ hz gn aCz hf]);.rw[<-aG ai f? ?_,D0];split;(.rename_i hs;have pw:=bJ.mpr hs;rw[TB c low lo (λ i p hi hp=>by rw[oH (h3 i p hi hp) J8]) E2];(.rfl);.rw[h? hq hp hp];(have K8:(cH lo)<c9:=by exact Ci pC);rw[z9 K8,pw,px,Bool.and_true,At]at hx;omega);.rfl);. (have K8:¬(cH lo)<c9:=by exact afu pC);rw[<-aY vd (L? cE (bP cM kF (dq (m:=n) vS g8 j8 H2 s2 Lc ak rs HW)) λ hx=>absurd (Gx hx) K8) (λ hx=>by rw[h? F0 hx hx]) zu ?_,<-aG ai f? ?_,D0];split;(.rename_i hs;rw[TB c low lo (λ i p hi hp=>by rw[oH (h3 i p hi hp) J8]) E2];(.rfl);.rw[RE aml hn pC]at hp;cases hp);.rfl
Xg(n:Y):t_ n=T!:=by unfold t_ vT;rw[yc];simp only[jN,jR];exact axb
av3(A:bB):kg "syllable_step" (RQ (λ n:Y=>[vN n]) (λ n _=>bb (vT n)) (λ n v H=>cT H v (On n))):=g6 A.alo C_ λ n f aK A' br s H0 H E hr hp=>by(have hb:44032<=n/\n<44032+11172:=by unfold vT at hp;simpa using hp);rw[dR ft (bI 1 C_.nd) p9 ((aW cW bv (ag A.g.MF)).imp gd (by rw[e];rw[oy gn anE hb])),dR ft (bI 2 C_.nd) EA ((iz vj el (ag A.g.KI) cS).imp gd (by rw[e];rw[oy lL aBO])),<-aY (bP gF cY ai) dt dt];(. (have h0:¬Ey=0:=by(have:(0:a3)<eU EA:=by rw[D?]);exact aoF cc);refine bg (i' (iT (ft ae (n - Ey) (i' (aW cW bv cY) gd (by rw[e];rw[oy lL aJQ])) (ft ae (4519+Ey) (i' zl e4 A.g.abK cY gd (by rw[e];rw[oy lL aFS])) ao))) tA v bx uL bx h ?_);rw[h];unfold On;dsimp only;rw[lz h0];rfl);. (have h0:Ey=0:=by(have:¬(0:a3)<eU EA:=by rw[D?]);exact agP cc);rw[dR ft (bI 3 C_.nd) (p9/588) ((iz r_ el (ag A.g.acC) LG).imp gd (by rw[e];rw[oy lL aJH])),dR ft (bI 4 C_.nd) (p9%588/28) ((iz r_ (iz vj el (ag A.g.acC) cS) (ag A.g.KI) LG).imp gd (by rw[e];rw[oy lL atw])),<-bg (i' (iT (ft ae (4352+p9/588) (i' zl e4 A.g.Zh g8 gd (by rw[e];rw[oy lL afU])) (ft ae (4449+p9%588/28) (i' zl e4 A.g.Vd kF gd (by rw[e];rw[oy lL auf])) ao))) tA v cy uL cy h ?_)];rw[h];unfold On;dsimp only;rw[jz h0];rfl
wD.1(H:Hp)(v:V)(sa:cR l!):Prop:=DH aq yk kx LZ FC l! (lb=vU cH d?) aq sa
keyOf.1(l:c?):ii:=vO λ(n:Y)=>O7
wx.1(H:Hp)(v:V)(sa:cR GJ):Prop:=DH aq yj kx LZ (ii×V) GJ (lb=keyOf r.key) aq sa
Cw:Up wD:=Rc dB dB h
Hq:Up wx:=Rc eG eG h
sO.1(B:Am)(l:c?):Y:=cX ((Mt.canonRows B).GG λ q=>q.to==l&&!vV B 15 q.scalar)
}
structure bz(C:ab)(H:Hp)(b:ab)(d:bR)(kk:ab):Prop where
 parts:jj C H b d
 ex:∃dx fs mr sr co aq,H b=ad my/\jn ("map_rows":a4) mr/\jn ("sequence_rows":a4) sr/\RM a4/\jn ("composing":a4) bD co/\jn ("known_by_k":a4) bD kk/\(∀m∈qH,uv)/\eD wD H mr W?/\eD wx H sr d.book.seqs/\dS co dT aq/\(∀l:c?,0<B3 sO->b8 aq (keyOf l)=ad (vN B3 sO))
def z:={
bz.later{C:ab}{H H':Hp}{b kk:ab}{d:bR}(h:bz C H b d kk)(s:lI):bz C H' b d kk:=by refine xf h.ex λ dx fs mr sr co aq h1 h2 h3 h4 h5 h6 h7 h8 h9 eW eB=>?_;exact #[h.parts.later s,dx,fs,mr,sr,co,aq,Mv,h2,h3,h4,h5,h6,h7,gj Cw _ _ _ _ s h8,gj Hq _ _ _ _ s h9,bF s eW,eB]
bz.dc{C:ab}{H:Hp}{b kk:ab}{d:bR}(h:bz C H b d kk):wf _B.di:=h.parts.dc
T6(d:bR){k:Y}(h:k<15):dC W? k Kt:=by(have e:d.book.maps.length=15:=by show cX Ec Oi d.ms=15;unfold Mt.byKind;simp[Oi]);rw[V4,Ay (by exact YH h e)];rfl
Zc{H:Hp}{aq:gq}{sa:cR l!}(h:kx LZ FC l! (lb=vU cH d?) aq sa)(n:Y):match rows.find? λ r=>y1 with|ad r=>∃v,jB Dy b8 aq/\cT H v sf|a!=>ca Dy b8 aq:=by induction h with|cd=>rfl|@bn kv r aq sa q t ih=>unfold b8 at ih⊢;by_cases e:d?=n;(. ((have e1:bb (d?==n):=by simpa using e);have e2:bb CW:=by rw[q.1,e];simp);rw[Xa (p:=λ(r:l!)=>y1) e1,Xa (p:=λ(kv:FC)=>CW) e2];exact e_ qp q.2);. ((have e1:¬(bb (d?==n)):=by simpa using e);have e2:¬(bb CW):=by rw[q.1,jR];intro h;have:=Sum.inl.inj h;exact aoa cc e);rw[Xc (p:=λ(r:l!)=>y1) e1,Xc (p:=λ(kv:FC)=>CW) e2];exact ih
BK.2:=ab×bR×ab
ed.2(C:ab)(a:BK)(H:Hp):Prop:=bz C H a.1 dH c_
IB(A:bB):Cj (yi "row") (n?/\dH<15) o2 (cT H v SC):=wS A.bj.ahQ aj2 λ a e H hr hp U hU=>by rw[BR k n a,qw];obtain⟨dx,fs,mr,sr,co,aq,hb,JQ,_,_,_,_,_,⟨am,xs,rfl,tR,A8⟩,_⟩:=vQ;(rw[b5 (v7 (pf A8 (T6 d hk)) λ vk lE ak xq aU pd tW=>?_) aU]);have hl:=Zc tW n;rw[i!,<-bg (R6 (jX hr) PX cO JQ tR cY (iT ao) B! bm ak f9 gX #[xq,.inl gU pd] (λ a' y z H1 s1 e1 e2 e3=>?_))];have wH:=Ah;cases wH;have oO:=e2.now;subst oO;refine tG Dy b8 xq (dU.k (k:=vU c9) gU pd) ?_;unfold AA;cases hf:(Kt).find? (λ r=>y1)with|dL r=>rw[hf]at hl;refine ah hl au v hv ht;rw[hv];exact jp gG (iZ s2) ht|a!=>rw[hf]at hl;rw[hl];(rw[eq wp e3 au az a9 haz a9]);exact e_ az haz
uO(A:bB):Cj (yi "has_row") (n?/\dH<15) o2 (v=.bl (!(SC==[]))):=wS A.bj.aKJ aBr λ a e H hr hp U hU=>by rw[BR k n a,qw];obtain⟨dx,fs,mr,sr,co,aq,hb,JQ,_,_,_,_,_,⟨am,xs,rfl,tR,A8⟩,_⟩:=vQ;(rw[b5 (v7 (pf A8 (T6 d hk)) λ vk lE ak xq bW pd tW=>?_) bW]);have hl:=Zc tW n;rw[i!,<-bg (ZR (jX hr) cY PX cO JQ tR (λ u y H1 s1 e1 e2=>?_))];have wH:=Ah;have oO:=e2.now;subst wH oO;refine(aE ak Dy b8 xq Z (dU.k (k:=vU c9) gU pd) ?_);unfold AA;cases hf:(Kt).find? (λ r=>y1)with|dL r=>(rw[hf]at hl;refine ah hl au v hv ht;rw[hv];have i6:=(hR.dc.row k r hk (List.mem_of_find?_eq_some hf)).al;dsimp only at i6;cases k6:sf with|cd=>rw[k6]at i6;simp at i6|bn x l=>simp[k6])|a!=>rw[hf]at hl;rw[hl];rfl
bz.cw{H:Hp}{b kk:ab}{d:bR}(h:bz C H b d kk){m:a4}(hm:m∈qH):ff (∃dx fs,CY/\uv):=by obtain⟨dx,fs,mr,sr,co,aq,hb,_,_,_,_,_,kG,_⟩:=h.ex;exact xd s1 (cF dx fs Hw (kG m hm))
jj.cw{H:Hp}{b:ab}{d:bR}(h:jj C H b d){m:a4}(hm:m∈qH):ff (∃dx fs,CY/\uv):=by obtain⟨dx,fs,pa,p0,p1,p2,hb,_,kG,_⟩:=h.ex;exact xd s1 (cF dx fs Hw (kG m hm))
Iv{B:Am}{k n:Y}(h:DT):Oj B k c9=GO B k n:=by rw[D0];rw[vx,e! #[lL tD,h]]
i4(n b:Y):iJ c9 cH b=n.testBit b:=by unfold iJ;(have e1:(lD/2^(gg cH b))=eU (n/2^b):=by rw[vx];norm_cast);rw[e1];(have e2:T_ eU (n/2^b) 1=eU (n/2^b%2):=by rw[PyProof.Rows.bitAnd_m1];norm_cast);rw[e2,Nat.testBit_eq_decide_div_mod_eq];congr 1;simp only[eq_iff_iff];exact aDd
zO(A:bB):DF "has_flag" (RQ gp (vf×HN) [nP,Br,vN c_] g3 (x6/\qf c_) kn (vV AD me dH c_)):=wS A.bj.akm atH λ a e H hr hp U hU=>by rw[J? d k n,qw,i!,k3 (aT (mI A) qa ((gc 13 n:a3),oX) (ae (i' (g0 Bi hr (o5,13,c9) bv fe sg hW A.g.JN pH cY Z d2 #[qk,oa ((13:Y)<14)]) gd (by rw[e,Iv hk])) wJ) HB)];rw[e];exact mb nw io i4
wj(A:bB):Jl (wl 2 gQ "canonical_step") zq o2 (cT H v (AB kU eh)):=JJ A.bj.aDa avt λ a e H hr hp U hU=>by rw[CC b d a,<-aY (bN G7 Ic c9 el) dt dt];(.rw[Xg]at hx;rw[CJ (aT (av3 A) hr n pH el AS hx) A1 n AB,jz hx,h]);.rw[Xg]at hx;rw[CJ (g0 IB hr (iH,0,n) bv fe sg BV A.g.Ep Z d2 #[qk,oa (Fc<15)]) A1 n AB];rw[kH (by rw[hx];simp)];exact h
ba.1(H:Hp)(v:V)(l:c?):Prop:=mO nj
gI:Up ba:=qM x bx uL bx h t6
Vl{i:Y}(h:yW):gS xs ad cH i a!=xs.drop i:=by unfold gS;((have e1:UZ 0 ad cH i=i:=by rw[_H.xt];exact Nat.min_eq_left h);have e2:gD b4 b4 a!=b4:=by unfold gD;rfl);rw[e1,e2,VU (by rw[M5];exact kJ _)]
aKY{x:V}{r:bQ}:gS (x::r) (dL 1) a!=r:=Vl (xs:=vv) (i:=1) (by simp)
Ss(A:bB):Jl (DF "k_step") zq o2 (cT H v (sh kU eh)):=JJ A.bj.aJK ag6 λ a e H hr hp U hU=>by rw[CC b d a,<-aY (bN PP uO (iH,1,n) ((1:Y)<15)) dt dt];(.rw[jv d8 (¬uP 1 n=[]) hx,CJ PP IB (iH,1,n) ((1:Y)<15) uN sh,lz d8,h]);.rw[jv d8 (uP 1 n=[]) hx,CJ (g0 wj hr (iH,n) bv fe sg wJ Z d2 qk) uN sh,jz d8,h]
D7{K:bT}{H:Hp}{v:V}(h:cT H v l):wW K v H (!MR):=by obtain⟨a,rfl,h⟩:=h;refine .inr gX #[_,i0 h,?_];cases l<;>rfl
NI(A:bB):Jl (DF "taken_apart") zq o2 (ba H v (Mt.full kU eh)):=JJ A.bj.aLp BE λ a e H hr hp U hU=>by rw[CC b d a,<-gK 2 BE.nd (oj wJ) λ v H1 s1 hv=>?_,dR (Sn 3 (hi:=8) B1 (∃v t st,a2=[ra,nh n,jD,t,st]/\ba H' v KR) GL Z BE.nd A.g.ia s? A.g.PN cS Bj (uJ v a! a! Z wp hv)) ?_];(.intro k a2 H2 s2 hk j;(rw[b5 (lG j.now λ v t st aS hl=>?_) aS]);(rw[eq hl au a1 aU oG aU]);(obtain⟨x,r,G_⟩:∃x r,Op l? k n=vv:=by cases h:KR with|cd=>rw[i? h (_B.IV k n)]|bn x r=>exact(d3 x r Z));rw[G_]at oG;have bH:=hR.dc.xo k n;rw[jv rP (k<8) hk,<-gK 4 BE.nd Qv (S0).cw wn ft cO x cY xM wz (ma zk oG) My j Z (GQ dl) λ vs H3 s3 hs=>?_];have ib:=hR.dc.Ll x;refine rg (N1:=λ d9 H4=>∃v t st,d9=[ra,nh n,jD,t,st]/\ba H4 v (Op l? du n)) (nQ kF j8 H4 s4 (by rw[ut e' e',D7 o6 hs])) dt dt v! d9 H4 (c6 h);(.rw[jv be (¬Dn) hx,<-gK 2 BE.nd (DP (xs:=jI Bp vN) (ys:=r.map vN) (aHJ A.g.agR kF j8 H4 s4 (by rw[ut e' e'];(rw[eq o6 hs au q a9 hq a9]);exact e_ q jc BL hq)) (Vj cY ai j8 H4 s4 (by rw[ut e' e',<-(aE a1 _ Z (ma bF y! oG) (λ p H5 s5=>e_ p xc ?_))];rw[aX,jP,aKY])) ?_) λ v5 H5 s5 h5=>c6 λ H6 s6=>(uJ v5 _ _ Z ?_)];(.rw[HU hE];(have:cX KR=zN+1:=by rw[G_];rfl);have hz:rK=16777216:=rfl;exact apT ib hz rP cc bH);. (rw[eq (h5 H6 s6) au q bu hq bu]);refine e_ q ?_;rw[hq,_B.K6,G_];show _=ad (HO.lst ((if Dn then vv else Bp++r).map vN));rw[fG be,nE]);.rw[jv be Dn hx,<-c6 ie #[bD a1,_,_,rfl,a1,rfl,?_]];rw[bF y! oG,_B.K6,G_];show _=ad (HO.lst ((if Dn then vv else Bp++r).map vN));rw[jz be]);.intro a2 H2 s2 j;(rw[b5 (lG j.now λ v t st bW hl=>?_) bW]);exact aG cY jU (jp gI s3 hl)
e8.1:V->Y|e5 i=>FN|_=>0
gW(n:Y):MC=n:=vx n
eM{k:Y}{x:V}(h:nj[k]?=ad x):∃n,dC l k n/\x=vN n:=by rw[rQ]at h;cases e:l[k]? with|a!=>rw[h? e h h]|dL n=>rw[e]at h;exact e_ n (K?).symm
Ta.1:eC->uX|.pi _ e _::_=>zo|.Return ad (.l2 _ (e::_) _ _) _::_=>zo|_=>a!
mV.1(l:eC):eX:=match Ta l with|ad (.NM _ _ sc _)=>sc|_=>{kind:=wI,dP:=[],isGenerator:=false,isCoroutine:=false}
aK4.1(l:eC):a6:=match Ta l with|ad (.NM e _ _ _)=>e|_=>.N' eQ 0 #[0,0,0,0]
acN.1(H:Hp)(v:V)(l:c?):Prop:=ba H v l\/cT H v l
Wo(A:bB):DF "in_order" (RQ gp (vf×V×c?) tC dH g3 (x6/\acN H dH c_/\bb Ue c_/\cX c_<=1000) kn (Oq AD me c_)):=ZT A.bj.azh yo gR b2 (λ _=>rfl) λ a f aK A' br s H0 H E hr hp U hU=>by rw[J? d v l,<-dm hp λ hR hv bJ bH=>?_];dsimp only at hR hv bJ bH;have aAt:∀(k n:Y),dC l k n->DT:=λ k n h=>List.all_eq_true.mp bJ n (Ww h);((have cv:y9 cX nj:=by rw[hE];exact Gv bH cS);have ib:jI nj qd KK=jI BC n H_ vN:=by rw[SL n (vN (gc 0 MC)) (vN H_)];rw[gW];rfl);have ee:dh ["self","row","classes","place","scalar"] (aw oJ) _ [("scalar",4)]:=fe (d_ (da:=Mg));((have main:∀ac H1,hO (sx H1 ac (pJ nj λ x=>KK)->Bd (qc Jr f aK A' E).ja [ra,jD,ad bD ac,a!,a!] H1 (cq oJ).tail uY (λ u _=>u=.bl B3 Oq)):=by intro ac H1 s1 jF;rw[ib]at jF;have Kl:∀H2,nf (aC K H2 ac JT):=nN (ma tL jF);rw[dR (Pk 3 (lo:=1) (hi:=cH vP) mA k a2 ((∃p q,a2=[ra,jD,ad bD ac,p,q])/\∀(i x y:Y),i<k->dC l i x->l[j0]?=ad y->ux=0\/DV<=ux) GL Z yo.nd A.g.ia (ae ai (ae (dq (m:=vP) vS cY j8 H2 s2 (aE ac _ f9 gX wp Kl jd)) ao)) gn auR bH (λ _ _=>#[bF d3 Z,λ i x y h=>by exact(nI h).elim])) ?_];(.intro k a2 H2 s2 hk j;(rw[b5 (bq j.now λ aS hj=>gB aS au p q aU) aU]);(have cj:k+1<vP:=by exact NX hk);obtain⟨x,hx⟩:∃x,dC l k x:=#[_,Ay (by exact Nat.lt_of_succ_lt cj)];obtain⟨y,hy⟩:∃y,l[du]?=ad y:=#[_,Ay cj];(have gx:JT[k]?=ad (vN DV):=by rw[rQ,rQ,hx];rfl);((have gy:JT[du]?=ad (vN ux):=by rw[rQ,rQ,hy];rfl);have e1:(1+oX)=eU du:=by exact QA);refine aY (sZ cM cM ai (ft cO ux cY g8 xM e9 Hz Kl H3 (by rw[e1];exact cg gy)) (ft cO DV cY (aW cW g8 ai) xM e9 Hz Kl H3 (by rw[show(1+oX - 1)=oX by exact ayh];exact cg gx))) mi d8 mi d8;(.rw[qh,Jo d8];rw[Os,Xe];intro hs;have:=(Uf).mp hs k x y hx hy;exact am8 d8 cc);.refine c6 jU #[bF d3 Z,λ i x' y' hi cn yx=>?_];by_cases e:i=k;(.subst e;rw[hx]at cn;rw[h? hy yx cn];cases yx;(have:¬((0:a3)<(ux:Y)/\(eU ux)<(DV:Y)):=by simpa[W!]using d8);exact aL6 cc);.exact hj i x' y' (by exact oV hi e) cn yx);.intro a2 H2 s2 j;(rw[b5 (bq j.now λ a9 hj=>gB a9 au p q bu) bu]);rw[qh];rw[Os];rw[<-(Uf).mpr λ i x y hx hy=>hj i x y ?_ hx hy,oH (Nd hy).1 Tq]);have VT:∀(s':ax)(dG:Hp)(C:ab)(cl:bh)(fp:bA)(k:Y)(x:V),nj[k]?=ad x->aB ((qc Jr f aK A' E).ja.cC s' dG Mg (compEnvC Mg cl C (qc Jr f aK A' E).ja.env) fp) [ra,jD,a!,a!,xl] H (aK4 (cq oJ)) KK:=by intro s' dG C cl fp k x hk;(rw[b5 (ah (eM hk) au n hn bW) bW]);exact(g0 Bi qa (o5,0,c9) bv fe sg hW A.g.xj pH kF Z d2 #[qk,oa (Fc<14)]).imp gd (by rw[e,Iv (aAt k n hn),gW]));rw[i!];rcases hv with⟨av,rfl,gm⟩|⟨av,rfl,gm⟩;(.exact Q9 (V1 4 2) ma VT Q4 main);.exact Q9 (ap3 4 2) i0 VT Q4 main
D2{X:Cx}{H:Hp}(h:cT H u l):∃q xs,nS u/\(aC a? H q xs\/aJ a? H q xs)/\L! vP:=by obtain⟨a,rfl,h⟩:=h;exact #[a,_,rfl,.inr (i0 h),by rw[Du]]
J7(l:c?):bG (kW vP>0)=!MR:=by cases l with|cd=>rfl|bn x l=>(have:pG (x::l).length>0:=by rw[ev l3 axW]);rw[z9 cc];rfl
amF(A:bB):wl 4 gQ "has_k_step" (RQ gp (BK×V×c?) tC dH g3 (n?/\ba H dH c_/\cX c_<=1000) kn (!_B.gk kU c_)):=ZT A.bj.alG Kh gR b2 (λ _=>rfl) λ a f aK A' br s H0 H E hr hp U hU=>by rw[BR v l a,<-bX hp λ hR aS bH=>ah aS au av hv gm];dsimp only at hR hv gm bH;subst hv;rw[iC];have ee:dh ["self","row","scalar"] (aw Ih) _ [("scalar",2)]:=fe (d_ (da:=mV (cq Ih)));((have cv:y9 cX nj:=by rw[hE];exact Gv bH cS);have rq:jI nj qd E4 (sh l? (e8 x))=jI BC n (!(uN==[])) nw:=by rw[SL n E4 pE sh MC E4 uN];rw[gW]);rw[i!,<-bg (i' (xR (bs:=BC n (!(uN==[]))) Z A.g.zf (i' (pU 2 (f:=λ x=>E4 (sh l? (e8 x))) Z Kh.nd ee el B! (af av e (ma gU gm)) IQ cv (λ s' dG C cl fp k x hk=>?_) (λ _ _ _ _ _=>cz Kh.nd Z jw t5)) tA u bx uL bx h (ma (by rw[h,rq])))) tA u e ?_)];(. (rw[b5 (ah (eM hk) au n hn aU) aU]);refine(gE gF (dq (m:=cX uN) vS Pj Ss (iH,n) pH cY (λ u H1 s1 h=>D2 vM)) ai).imp λ u _ _ e=>?_;rw[e,gW];exact mb nw (J7 _));.rw[e];rw[dR mb nw];unfold _B.gk;rw[V?,List.not_all_eq_any_not];rfl
aCA(A:bB):yi "records" (RQ gp (vf×Y) [nP,g_ 0,vN eh] g3 (x6/\eh<14) o2 (eD mQ H v (_B.cU eh (me).ps))):=Jy K4 λ a e H hr hp U hU=>by obtain⟨⟨b,d⟩,k⟩:=a;rw[qw];(rw[b5 (yA vQ λ dx fs pa p0 p1 p2 hb rS hm wd a9 _ _=>D! a9 bu rT) bu]);rw[<-ah (pf wY EQ r?) au vk lE hL,IR v cO mB]
Qi(A:bB):yi "records" (RQ gp (vf×Y) [nP,g_ 1,vN eh] g3 (x6/\eh<15) o2 (eD jM H v (_B.cU eh (me).ms))):=Jy K4 λ a e H hr hp U hU=>by obtain⟨⟨b,d⟩,k⟩:=a;rw[qw];(rw[b5 (yA vQ λ dx fs pa p0 p1 p2 hb rS hm wd _ bW _=>D! bW cJ rT) cJ]);rw[<-ah (pf wY EQ d.ms) au vk lE hL,IR v cO j4]
aGa(A:bB):yi "records" (RQ gp (vf×Y) [nP,g_ 2,vN eh] g3 (x6/\eh<3) o2 (eD k_ H v (_B.cU eh (me).ss))):=Jy K4 λ a e H hr hp U hU=>by obtain⟨⟨b,d⟩,k⟩:=a;rw[qw];(rw[b5 (yA vQ λ dx fs pa p0 p1 p2 hb rS hm wd _ _ dw=>D! dw d7 rT) d7]);rw[<-ah (pf wY EQ d.ss) au vk lE hL,IR v cO mU]
Js.1(B:Am):Y->c?->bM|0,l=>l==[]|_+1,[]=>bC|n+1,a::_=>Js B n El a
zC(B:Am):∀n c,GR B n c=Js B n El c|0,c=>rfl|n+1,c=>by show(match El c with|[]=>bC|a::_=>GR B n a)=_;cases h:El c with|cd=>rfl|bn a r=>exact zC B n a
aEe(A:bB):aM P w K mg b! 3 "firsts_end" (RQ gp (BK×Y) tC zq g3 n? kn (GR kU Mt.STEPS eh)):=jm A.aHg Dd λ a e H hr hp U hU=>by rw[CC b d a,<-bI 2 Dd.nd ai ?_,<-gK 3 Dd.nd (g0 wj hr (iH,n) bv fe sg wJ Z d2 qk) λ v H1 s1 hv=>?_,<-mD (λ m a2 H'=>∃(k:Y)(st:V)(l:c?),a2=[ra,nh n,nh k,ad st]/\cT H' st l/\k<=8/\m=FH/\Js l? (8 - k) l=Tl) (λ _ _ _ _ s2 cy=>gC cy λ k st l h1 h2 h3=>(lP k st l h1 (jp gG s2 h2) h3)) 8 GL (p8 0 v _ Z nD cS Z ((wf zC 8 n).symm)) ?_];rintro m a2 H2 s2⟨k,st,l,rfl,bw,hk,rfl,he⟩;refine(aZ _ vd (cE (nQ g8 j8 H3 s3 (by rw[ut e' e',D7 (jp gG s3 bw)])) eT (c4 (bP cM cY (ag A.g.PN)))) dt dt);(.rw[Jo hx];obtain⟨h1,h2⟩:=hx;(have rP:k<8:=by exact aHR h2);cases l with|cd=>simp at h1|bn x r=>(rw[eq bw au ast fM xi fM]);refine gK 3 Dd.nd Qv (S0).cw wn nT x g8 xM wz BL zk xi My j Z (GQ dl) λ v3 H3 s3 Mz=>?_;refine lA 2 pN Dd.nd Z ai (c6 ie #[8 - du,nV aDG h2,k+1,v3,_,rfl,o6 Mz,nV aKB h2,rfl,?_]);rw[<-he,show FH=(8 - du)+1 by exact aIw h2];rfl);.refine aG (avH g8 j8 H3 s3 (by rw[ut e' e',D7 (jp gG s3 bw)])) f? Hd;rw[Ov];show MR=Tl;rw[<-he];cases l with|cd=>cases FH<;>rfl|bn x r=>(have:¬oX<8:=by have h1:bb (!(x::r==[])):=rfl;rw[h1,px,At]at hx;exact hx);rw[show FH=0 by exact aEK cc];rfl
jt.2(C:ab)(d!:bR->ef l!)(g:bR->l!->bM):RP:=RQ gp (BK×V×L7) tC dH g3 (ed C a.1 H/\jM H dH c_/\(va).to≠[]/\d! v8 va) kn (g v8 va)
Ak(n:Y):lJ n=(T!||Ow n):=by unfold lJ Hm DJ ED t_ vT Ow;rw[yc];simp only[z8,jN,jR];exact aCS
aGO(A:bB):kS 3 "scalar_is_no_hangul" (jt gQ oN rE (!tq vT&&!tq Ow)):=jm A.aAa aJE λ a e H hr hp U hU=>by rw[j_ d dm λ hR aS _ _=>uU aS y bo];dsimp only at hR hv bo ty;rw[oe,k3 (iL (aT (yn A) qa Ug wK G3 _))];rw[e,Ak,Bool.not_or]
awG(A:bB):ou (kl "has_no_canonical_row") oN (uP 0 d?==[]):=jm A.auu asF λ a e H hr hp U hU=>by rw[j_ d dm λ hR aU _ _=>uU aU y bo];rw[iC];dsimp only at hv bo ty;rw[oe,k3 (iL (g0 uO hr (iH,0,d?) bv fe si hW A.g.Ep wK Z d2 #[s0,oa (Fc<15)]))];rw[e,Ov]
aiV(A:bB):ou (aM P w K mg b! 4 "taken_apart_in_order") (λ d r=>bb Ue Lm) pE Oq Lm:=jm A.amU awT λ a e H hr hp U hU=>by rw[j_ d dm λ hR a9 _ bJ=>uU a9 y bo];rw[iC];dsimp only at hv bo ty bJ;subst hv;have bH:=tq (aQ.dc.xo 8);rw[i!,<-bg (N4 Om (Wo A) hr bv fe si (cu PH NI ao) B_ H1 s1 ?_)];(rw[qy bu hu bu]);exact Ma (aZ (o5,u,Lm) Z (fH IE gX GF bJ LE bH cS) Z) v h
ahh(A:bB):ou (kl "simply_folded_stays") rE Um (r.to.all λ x=>uP 6 x==[]):=c7 A.aln ahm gR b2 (λ _=>rfl) λ a f aK A' br s H0 H E hr hp=>by rw[j_ d dm λ hR bW _ h1=>i9 bW λ ar y hv bo ay hy cP=>?_];rw[iC];dsimp only at hv bo hy cP h1⊢;subst hv hy;obtain⟨x,hx⟩:∃x,sf=[x]:=Xf h1;rw[hx]at cP⊢;rw[k3 (iL (g0 uO hr (iH,6,x) bv fe si hW A.g.SV wn nT x w? (bU (v:=cx ay)) G5 cP Z d2 #[s0,oa ((6:Y)<15)]))];rw[e,Ov];simp
dN.1(l:c?):uW:=vO λ(n:Y)=>K3
we{K:bT}{H:Hp}:∀l:c?,vI K H (vO vN) rF|[]=>eE|n::l=>vm dk c9 (we l)
Ke:∀l:c?,GS (dN l)=0|[]=>Ii GS|n::l=>by have:=Ke l;show GS (K3::rF)=0;simp[GS,Oz,cc]
Pn:∀l:c?,bb (GT (dN l))|[]=>Ii GT|n::l=>by have:=Pn l;show bb (GT (K3::rF));simp[GT,OA,cc]
EZ(l:c?):K2 Fe rF:=by unfold F_;simp[OA,Oz,Ke,Pn]
aeO(l:c?):K2 (.list rF):=by unfold F_;simp[OA,Oz,Ke,Pn]
D4:∀l m:c?,GV (dN l) MW=(l==m)|[],[]=>Kg|[],y::m=>Kg|x::l,[]=>Kg|x::l,y::m=>by have ih:=D4 l m;show GV (Oy cH x::rF) (Oy cH y::MW)=_;rw[GV,ih,Nt,List.cons_beq_cons];congr 1;rw[yc];simp only[rV];exact Xj
aks{X:Cx}{σ:dA}{H:Hp}{a b:a6}{al:bi}{m:c?}(hu:Tm)(ha:uu a v (cT H v l))(hb:uu b v (cT H v m))(hm:Cl):dV kc Eq [b] (l==m):=fh (tF (Pu hu) aI aI hm) AW r4 u iK Gy λ v H3 s3 hv=>by refine ah (hu H3 s3) au q1 e1 h1;refine ah nD au q2 e2 h2;subst e1 e2;refine(fK Fe rF Fe MW (.dO (i0 h1) (we l)) (.dO (i0 h2) (we m)) (EZ l) (EZ m) pK f? Hd);rw[Nt,D4]
AU{A:dz}{k:Y}(hr:bZ k A):A.units+64<vE:=hr.units
YV(A:bB):kl "goes_both_ways" (RQ gp (BK×Y×V×L7) [nP,Br,c_.1] g3 (n?/\dH<15/\jM H c_.1 va/\c_.2.2.to≠[]) kn (AA kU dH (a.2.2.2.2.to.headD 0)==[a.2.2.2.2.scalar])):=c7 A.ajw aIO gR b3 (λ _=>rfl) λ a f aK A' br s H0 H E hr hp=>by obtain⟨⟨b,d,kk⟩,k,v,num,r⟩:=a;rw[<-dm hp λ hR hk aS be=>i9 aS λ ar y hv bo ay hy cP=>?_,iC];dsimp only at hv bo hy cP hk be⊢;subst hv hy;(obtain⟨x,l,hx⟩:∃x l,sf=x::l:=by cases h:sf with|cd=>rw[i? h be]|bn x l=>exact(d3 x l Z));rw[hx]at cP⊢;exact bg (aks (AU hr) (g0 IB hr (iH,k,x) bv fe si (ae el wn nT x (bU (v:=cx ay) cY ai AN BL (s1 _ _ bo)) d2 wz (i0 gU cP) My j Z) Z d2 #[s0,hk]) (iT ON cY))
aua(A:bB):ou (kS 4 "mirror_holds") rE C7 (uP 7 Eb==UX&&tq (HI 13)):=jm A.aHk aHt λ a e H hr hp U hU=>by rw[j_ d dm λ hR fD be bJ=>?_];rw[iC,<-aO (id fD) λ ar y hv bo ty=>?_];dsimp only at fD hv bo ty bJ be;rw[oe,bg (cp (aT (YV A) qa (iH,7,cx ar,num,r) (ae bv BV A.g.abf) Tf (7:Y) fD be) eT (bY PJ (o5,13,d?) A.g.ayF bJ))]
aLh(A:bB):ou (kS 3 "scalar_has_no_class") rE C7 (AR d?==0):=jm A.aH6 agN λ a e H hr hp U hU=>by rw[j_ d dm λ hR aU be bJ=>uU aU y bo];rw[iC];dsimp only at hv bo ty bJ be;rw[oe,m3 (dW (i' (g0 Bi hr (o5,0,Ug) bv fe si hW A.g.xj wK Z d2 #[IE,oa (Fc<14)]) gd (by rw[e,Iv bJ])) ai)];rw[GM];unfold Mt.ccc;simp
IG(A:bB):ou (kS 4 "scalar_is_cased") rE C7 (HI 2 d?):=bp A.aJC aCw gR b2 IQ λ a e H hr hp U hU=>by rw[j_ d dm λ hR a9 be bJ=>uU a9 y bo];rw[iC];dsimp only at hv bo ty bJ be;rw[oe,bg PJ (o5,2,d?) A.g.WK bJ]
pI.2(C:ab)(d!:bR->ef r!)(g:bR->r!->bM):RP:=RQ gp (BK×V×Uy) tC dH g3 (ed C a.1 H/\mQ H dH c_/\d! v8 va) kn (g v8 va)
OC.1(d:bR):Prop:=T1
Ur(A:bB):kg "script_count" (RQ (λ a:BK=>[bD a.1]) g3 (ed gQ a H/\OC dH) mA a v (v=vN (max 3 (dH).zW))):=bp A.ayQ ahC gR b1 (λ _=>rfl) λ a e H hr hp U hU=>by obtain⟨b,d,kk⟩:=a;obtain⟨hR,hn⟩:=hp;rw[iC];have uV:T1:=hn;obtain⟨dx,fs,mr,sr,co,aq,hb,_,_,hnc,_⟩:=aQ.ex;have Rr:ff (∃C dx fs,CY/\dQ K C/\cf K C "name_count"/\RM a4):=xd s1 Bq fs A.bj.Uh hnc;rw[dR hU _,<-aY (eV (cQ bv Rr) ai) dt dt];(. (have h0:IM:=by rw[oH (Gx hx) YL]);exact aG (ag A.g.aDF) f? (mb iP (by dsimp only;exact amA h0)));. (have h0:¬IM:=by rw[oH (Xk hx) aA9]);exact aG (cQ bv Rr) f? (mb iP (by dsimp only;exact aj8 uV h0))
aJA(A:bB):kl "script_is_named" (pI gQ (λ d _=>OC d) (λ d r=>bG (vW<max 3 d.book.scripts.length))):=jm A.akf apn λ a e H hr hp U hU=>by rw[j_ d bX λ hR aS hn=>ah aS au ar hv bo];rw[iC];dsimp only at hv bo hn;rw[oe,m3 (gE cM w? nT vW (aT (Ur A) hr (b,d,kk) pH bv d2 #[s0,hn]))];rw[GM,jR,jR];show(q5<eU TX)↔vW<TX;exact Int.ofNat_lt
aI2(A:bB):kl "flags_agree" (pI gQ oN rE ((!ym||yp)&&!Tn)):=jm A.akU acr λ a e H hr hp U hU=>by rw[PV aU aU acr.nd,<-aY vd (cE (bN t9 (q5,7) A.g.ajY) eT (c4 (dI (bN t9 (q5,8) A.g.aAC)))) dt dt];(.rw[y8 (oI 7) ym (nr 7),y_ (oI 8) yp (nr 8)]at hx;rw[qh];revert hx;cases ym<;>cases yp<;>simp);.rw[y8 (oI 7) ym (nr 7),y_ (oI 8) yp (nr 8)]at hx;rw[m3 (iL t9 (q5,16) A.g.atU)];rw[y8 (oI 16) Tn (nr 16)];revert hx;cases ym<;>cases yp<;>simp
aMg(A:bB):kl "letter_case_is_cased" (pI gQ oN rE (!(TJ||TK)||TM)):=jm A.awE afE λ a e H hr hp U hU=>by rw[PV a9 a9 afE.nd,m3 (fL t9 (q5,2) A.g.WK eT (bY (iL (fL t9 (q5,0) A.g.ath eT (bY t9 (q5,1) A.g.ag4)))))];rw[y8 (oI 2) TM (nr 2),y_ (oI 0) TJ (nr 0),y_ (oI 1) TK (nr 1),Bool.or_comm]
aDe(A:bB):ou (kS 3 "weighed_has_no_step") oN (Kb==[]):=jm A.aI1 ajG λ a e H hr hp U hU=>by rw[j_ d dm λ hR bu be _=>uU bu y bo];rw[iC];dsimp only at hv bo ty be;rw[oe,m3 (dW (dq (m:=cX Kb) vS PH wj (λ u H1 s1 h=>D2 vM)) ai)];cases Kb with|cd=>rfl|bn x l=>rw[FV (by rw[ev l3 aaK])];rfl
an3(A:bB):aM P w K mg b! 1 "conjuncts_follow" (RQ gp HN [vN a.1,zq] oN kn (if a.1=2\/a.1=3 then eh==3 else if a.1=1 then eh==1||eh==3 else bC)):=jm A.ajJ avl λ a e H hr hp U hU=>by obtain⟨m,n⟩:=a;(have ju:(bb (gO dk cH m [.int 2,g_ 3]))↔(m=2\/m=3):=by rw[SA (Fd==cH m) ((3:a3)==cH m||false) rV,aDB]);rw[i!,<-aY (uH bv hW A.g.BN s? A.g.Iu) dt dt];(.rw[g! (ju.mp hx)];rw[m3 (dW el (ag A.g.Iu)),x5,asq]);.rw[lz (λ h=>by rw[ju.mpr h]at hx;cases hx),<-aY (eV bv (ag A.g.G6)) u7 u7];(.rw[g! (by rw[oH (Gx cn) Qr])];rw[m3 (Bh el hW A.g.G6 s? A.g.Iu),yc,SA u8 c9 (u8 c9||false) rV];simp only[z8,rV,jR];exact ay3);.rw[kH (by rw[oH (Xk cn) aac])];exact aG cN v9
}
section
variable{X:Cx}{σ:dA}{H:Hp}{o ek e:a6}{gJ al:bi}{b kk:ab}{d:bR}
def z:={
fU{pl:E3}(A:Fs a? gP c)(hr:bZ 2 X.A)(k n:Y)(hR:AL)(hk:k<14)(hs:DT)(ho:q6 ig)(h1:fV ek (vN k))(h2:fV e (vN n))(fJ:kR [e] e [])(bw:kR vq ek [e])(a_:nM [e])(ht:Jz uk (q! "value") vq (po [ov] (Gz ov "value" pl)) vq):fV uk (q! "value") [ek,e] (vN Id GO):=(TW Bi (o5,k,c9) hk).imp gd (by rw[e,Iv hs])
BJ{pl:E3}(A:Fs a? gP c)(hr:bZ 3 X.A)(k n:Y)(hR:AL)(hs:DT)(ho:q6 ig)(h1:fV ek (vN k))(h2:fV e (vN n))(fJ:kR [e] e [])(bw:kR vq ek [e])(a_:nM [e])(ht:O' uk (q! "has_flag") vq (po [ov] (Gz ov "has_flag" pl)) (callWith al f first mh vq HQ)):dV uk (q! "has_flag") [ek,e] Id vV:=TW zO (o5,k,n) hs
}
section z
def z:={
xT(a b:Y):(!bG (kW a=cH b))=!(a==b):=by congr 1;rw[x5,Xj]
aBb(A:bB):Cj (kS 4 "as_the_first") (n?/\qf dH/\qf c_) kn (ud==v? 2 c_&&(CR==CQ&&vV kU 12 dH==vV kU 12 c_)):=bp A.aIG aLr gR b3 (λ _=>rfl) λ a e H hr hp U hU=>by rw[Q0 m hR hm,<-aY (fZ (C8 2 m aQ cS hm bv e4 GW el) (C8 2 n aQ cS hn bv e4 GW cY)) dt dt];(.rw[xT]at hx;rw[Jf hx x8]);.rw[xT]at hx;refine aY (fZ (C8 3 m aQ cS hm bv e4 A.g.um el) (C8 3 n aQ cS hn bv e4 A.g.um cY)) u7 u7;(.rw[xT]at cn;rw[qh];revert hx cn;first|(generalize x8=b0;generalize Dj=b1;revert b0 b1;decide)|(cases x8<;>cases Dj<;>simp));.rw[xT]at cn;rw[m3 (WC Us m hm el Us n hn cY)];revert hx cn;first|(generalize x8=b0;generalize Dj=b1;generalize DQ m=b2;generalize DQ n=b3;revert b0 b1 b2 b3;decide)|(cases x8<;>cases Dj<;>cases DQ m<;>cases DQ n<;>simp)
am9(A:bB):ou (kS 3 "partner_holds") (λ d r=>C7/\Um/\bb (r.to.all Ao)/\x2<=2) (x2 !=0&&(gc 9 Eb+x2==3&&(uP 8 Eb==UX&&tq (gc 8)==13))):=jm A.aEf Lz λ a e H hr hp U hU=>by rw[j_ d v_ λ hR fD be bJ h1 mo hle=>?_];rw[iC,<-i9 (id fD) λ ar y hv bo ay hy cP=>?_];dsimp only at fD hv bo hy cP bJ h1 mo hle be;subst hv hy;obtain⟨x,hx⟩:∃x,sf=[x]:=Xf h1;(have yI:rm Ao:=by rw[hx]at mo;simpa using mo);rw[i!,dR ft (bI 2 Lz.nd) d? w? bU,<-bI 3 Lz.nd (rD 9 d? aQ cS bJ bv e4 A.g.Ig cY) ?_,<-aY vd (dr (eV g8 ai) eT (eA (fZ (rD 9 x aQ cS yI bv e4 A.g.Ig (nT x w? (bU (v:=cx ay)) ai d2 e9 (i0 gU cP) (by rw[hx];rfl))) (aW cW ai g8)))) mi hq mi hq];(.rw[qh];rw[Os,Xe,hx];simp only[List.headD_cons,ne_eq,jN,bne_iff_ne,rV];simp only[z8,jR,W9,At]at hq;exact λ z=>amH hq z.1 z.2.1);.simp only[Bool.or_eq_false_iff,At,OF,jR]at hq;rw[m3 (cp (aT (YV A) hr (iH,8,cx ar,num,r) (ae bv BV A.g.Mw) Tf (8:Y) fD be) eT (bY (dW (rD 8 d? aQ cS bJ bv (ag A.g.alr) cY) (ag A.g.aws))))];((have g1:bb (x2 !=0):=by simp;exact asM hq);have g2:bb (gc 9 Eb+x2==3):=by rw[hx];simp;exact asH hq);rw[g1,g2,px,px];congr 1;rw[x5,aex]
auK(A:bB):Cj (kS 3 "second_follows") (n?/\qf dH/\qf c_) kn ((ud==0||(ud==4||(ud==8||ud==10)))&&(v? 2 c_==(if ud=10 then 10 else 4)&&(if CR=2\/CR=3 then CQ==3 else if CR=1 then CQ==1||CQ==3 else bC))):=bp A.ayw JB gR b3 (λ _=>rfl) λ a e H hr hp U hU=>by rw[Q0 m hR hm,<-bI 3 JB.nd (rD 2 m aQ cS hm bv (ag GW) el) ?_];generalize Fk:gc 2 m=p2;(have ju:gO dk cH p2 [.int 0,g_ 4,g_ 8,g_ 10]=(p2==0||(p2==4||(p2==8||p2==10))):=by rw[yc];show(bb (u8 pG _||(u8 pG _||(u8 pG _||(u8 pG _||false)))))↔_;simp;exact atD);refine aY (ax3 g8 hW A.g.PY hW A.g.G4 hW A.g.aIF s? A.g.OI) dt dt;(.rw[ju]at hx;rw[Jf hx (p2==0||(p2==4||(p2==8||p2==10)))]);.rw[ju,OF]at hx;rw[hx,px];rw[dR ft (bI 4 JB.nd) (if p2=10 then 10 else 4) ((kf (eV g8 (ag A.g.OI)) zu e4 A.g.OI zu e4 A.g.G4).imp gd ?_)];(.rw[e];by_cases eW:p2=10;(.rw[e! eW,z9 (by exact avm eW)];rfl);.rw[fG eW,FV (by exact V7 eW)];rfl);refine aY (fZ (rD 2 n aQ cS hn bv e4 GW cY) kF) u7 u7;(.rw[xT]at cn;rw[Jf cn (gc 2 n==if p2=10 then 10 else 4)]);.rw[xT,OF]at cn;rw[cn,px];exact bg (aT (an3 A) qa (gc 3 m,gc 3 n) (ae (rD 3 m aQ cS hm bv U8 el) (ae (rD 3 n aQ cS hn bv U8 cY) ao)) G3 _)
yK.2(g:Y->V):RP:=RQ (λ n:Y=>[vN n]) oN mA n v (v=g n)
Ls(A:bB):kg "first_weight" (yK λ n=>vN (GX n)):=g6 A.aIt ai9 λ n f aK A' br s H0 H E hr hp=>by rw[PQ (Tz (lD/2^(gg (15:a3))) 16) ((Fd^16 - 1)=65535) GX]
Lq(A:bB):kg "second_weight" (yK λ n=>vN (OJ n)):=g6 A.aCQ akc λ n f aK A' br s H0 H E hr hp=>by rw[PQ (Tz (lD/2^(gg (5:a3))) 10) ((Fd^10 - 1)=1023) OJ]
U5(A:bB):kg "third_weight" (yK λ n=>vN (GY n)):=g6 A.aiz aio λ n f aK A' br s H0 H E hr hp=>by rw[k3 (aW uG bv ai)];rw[e];rw[dR mb iP];have h:=Xl c9 5;rw[H! ((Fd^5 - 1)=31)]at h;rw[h];unfold GY;norm_cast
Cz(n:Y):bG ((0:a3)<c9)=(n !=0):=by rw[x5,Nat.pos_iff_ne_zero]
Cg(n:Y):bG (lD=0)=!(n !=0):=by rw[x5]
JS.1(n:Y):bM:=T?&&(!Lx&&!(GY n !=0))
aw1(A:bB):lu (kl "is_first_weight_alone") yK JS:=g6 A.aun aw3 λ n f aK A' br s H0 H E hr hp=>by rw[k3 Jh cp gE (cp (dW Jt ai) eT (bY (dW mG U5 n ai)))];rw[e,Cz,Cg,Cg];rfl
rB.1(n:Y):bM:=!(GX n !=0&&!Lx)&&(!Lx||GY n !=0)
ah6(A:bB):lu (kl "weights_fit") yK rB:=g6 A.aBM akE λ n f aK A' br s H0 H E hr hp=>by refine aY vd Jh cE bP (c4 (eV Jt ai)) dt dt;(.rw[Cz,Cg]at hx;rw[qh];unfold rB;rw[hx];rfl);.rw[Cz,Cg]at hx;rw[k3 (fL (dW Jt ai) eT (bY (gE gF mG U5 n ai)))];rw[e,Cz,Cg];show _=nw (rB n);unfold rB;rw[hx];rfl
zw.1(n:Y):bM:=T?||!UO
akS(A:bB):lu (kl "variable_fits") yK zw:=g6 A.at1 ald λ n f aK A' br s H0 H E hr hp=>by rw[k3 Jh fL gE (bY (iL (aT (mI A) hr (lD,31) (ae bv s? A.g.Ld) HB)))];rw[e,Cz,y_ (iJ c9 31) UO (nr 31)];rfl
}
end
mutual section
def z:={
R:=Nat
bE:=true
c!:=some
aH:=none
g?:=Mt.Book
xC:=_B.gb
IO:=l.take
IP:=List.take_add_one
o9:=Nat.le_trans
fJ:=m.length
IQ:=List.length_append
mE:=List.length_cons
jc:=l.length
c?:=aC.of
jd:=List.length_map
cs:=Bool
U?:=Mt.joinsWell
Pi:=Mt.prop
jV:=r.scalar
tZ:=base
mG:=c.Book
jf:=Mt.scalar
t0:=r.to.length
eo:=d.book
j0:=aJ.of
O:=rfl
gi:=r.to
CE:=absurd
jg:=cons
IR:=List.all_cons
eh:=Bool.and_eq_true
fP:=aQ.later
j1:=congrArg
bO:=V.bl
Va:=List.headD_cons
IV:=A.g.cb
t1:=e.now
IW:=Bool.and_true
ep:=Bool.true_and
Pl:=List.drop_zero
IX:=decide
bF:=Int
jh:=Bool.false_or
ei:=_L.St
dk:=Expr
ct:=pos
ej:=Pos
mH:=aL.v
q8:=s1.trans
CI:=s2.trans
Vb:=Mt.elementsFine
a3:=hlen
a0:=σ'
kD:=PassesOwn.never
q9:=A.g.ia
Pm:=Nat.lt_of_succ_le
CO:=List.getElem?_eq_getElem
o_:=l.map
nG:=List.getElem?_map
Vc:=Int.zero_add
hA:=false
Pn:=eq_comm
az:=this
c2:=σ2
CQ:=Tw.te
gj:=if_pos
Pq:=Nat.sub_lt_of_lt
da:=if_neg
xD:=decide_eq_false
q_:=Bool.eq_iff_iff
Pr:=Int.toNat_natCast
q!:=Mt.Range
Ps:=List.range
e5:=V.int
ey:=r.first
CR:=filter
Vd:=List.map_id
Pv:=List.filter_map
hE:=List.map_map
mK:=r.last
cx:=outer
nH:=scope
xF:=Nat.lt_of_le_of_lt
Ve:=List.mem_filter.mp
CT:=List.mem_of_getElem?
IY:=A.g.BN
gk:=beq_iff_eq
t2:=Bool.or_eq_true
dV:=decide_eq_true_eq
q?:=Bool.not_eq_true'
xH:=decide_eq_false_iff_not
xI:=Bool.or_eq_false_iff
rc:=Bool.not_eq_false'
xJ:=List.all_eq_true
Vh:=List.getElem_of_mem
CU:=sizeLine
Vi:=List.length_filter_le
t3:=Mt.isSyllable
t4:=Mt.isJamo
Px:=r.to.map
CV:=A.g.zf
CW:=HO.lst
Py:=Bool.not_or
xK:=List.any_map
Vk:=List.not_any_eq_all_not
xL:=A.g.xu
Pz:=decide_eq_decide.mpr
CX:=List.all_map
o!:=r.value
a5:=Addr
t5:=Mt.Seq
PA:=Mt.canon
o?:=r.key
I0:=A.bj.cl
CY:=aQ.cw
I1:=List.length_drop
I2:=List.map_drop
j2:=hu.now
PB:=Bool.not_not
CZ:=eP.later
I3:=j'.now
Vm:=List.mem_filter.mpr
PC:=List.mem_map.mpr
t6:=List.mem_map.mp
PE:=Bool.and_eq_false_iff
Vn:=beq_eq_false_iff_ne
Vp:=of_decide_eq_true
Vq:=of_decide_eq_false
t':=keyOf
PH:=Mt.joined
rd:=Bool.false_and
C1:=Bool.and_false
C5:=z.toNat
PJ:=d.book.seqs.getD
PK:=List.getD_eq_getElem?_getD
mL:=numOf
C7:=Mt.sequence
j4:=MtLine.Ways
t!:=fs.lookup
a4:=Str
C8:=y.how
C9:=y.all
t?:=y.words
ub:=y.tab
C_:=y.split
PM:=ka.later
xN:=MtLine.scalarWidth
xO:=MtLine.in_
C':=A.eU.cl
PN:=A.eU.OJ
PP:=Mt.hangul
Vr:=Mt.Rules.none
PT:=Mt.ownClass
I4:=l.contains
Vs:=List.map_cons
I5:=List.contains_cons
ji:=pos'
uc:=vs.length
xP:=NotIn
PW:=MtLine.plain
xT:=A.g.ID
pa:=A.g.AL
I6:=A.g.CM
I7:=A.g.NS
ug:=MtLine.sort
Vt:=MtLine.resolve
uh:=contains
PX:=A.eU.Km
C!:=A.g.HL
nJ:=A.g.NU
I8:=A.g.H2
I9:=A.g.H3
I_:=A.g.JL
C?:=A.g.JV
Da:=A.g.JT
Vv:=this.imp_right
xU:=Or.imp_right
xV:=A.g.BK
re:=A.g.rG
up:=A.g.qD
xW:=A.g.NL
rk:=A.g.SP
Db:=A.g.ZW
Dd:=Mt.Info
gl:=x.cls
I':=x.pict
uq:=X.mg
P0:=attributeBase
mM:=X.env
P2:=Subscript
Df:=Attribute
Dh:=A.lV.cl
P3:=A.lV.Nj
ut:=Bool.or_false
Dj:=Mt.linked
uz:=z.conj
I!:=_W.back
Dk:=Nat.le_of_succ_le
xX:=Nat.le_refl
Vw:=Nat.le_sub_one_of_lt
xY:=decide_eq_true
I?:=Bool.or_true
uA:=y.cls
P4:=dropWhile
uF:=z.cls
P6:=takeWhile
P7:=List.length_nil
Vx:=List.takeWhile_cons_of_pos
Vz:=List.takeWhile_cons_of_neg
P9:=Bool.not_false
VA:=Bool.or_assoc
P':=List.range'
rl:=List.map_append
Dl:=_W.ends
VB:=PySem.F.slot_list_append
VC:=PySem.F.type_list_append
Dm:=List.append_nil
jj:=t.map
Do:=_W.inf
rm:=n.testBit
VE:=Nat.testBit_or
VG:=Nat.lt_of_lt_of_le
P!:=Nat.le_of_not_lt
VH:=Builtin.bitAnd
x2:=X.env.kindOf
Ja:=starEach
Dp:=MtLine.waysOf
db:=t.length
VM:=MtLine.hangs
kE:=h.ex
P?:=h9.later
Qa:=A.fB.cl
Jb:=A.fB.HI
x3:=PySem
x4:=PySem.Spec
x!:=PyProof.Rows
Qb:=Program
Qc:=PySem.W.Frag
pb:=MtLine.Bad
rn:=MtLine.row
Jc:=Nat.min_eq_left
VN:=List.map_take
it:=aL.p
kL:=hv.now
VO:=Int.ofNat_inj
VQ:=MtLine.clusterWidth
Qe:=take_snoc
Qf:=getLast?.getD
uI:=Nat.lt_of_succ_lt
Qg:=List.getLast?_append
VS:=List.getElem_mem
x?:=List.pairwise_iff_getElem.mp
VT:=MtLine.width
ya:=fX.later
Dq:=List.take_length
Qh:=MtLine.measure
VV:=MtLines.marksFine
Dr:=m.map
Jf:=A.g.zk
VX:=List.any_eq_false
VY:=List.getLast?_eq_some_getLast
V2:=Nat.le_add_right_of_le
Qi:=Nat.lt_of_le_of_ne
Ds:=A.g.jm
Dt:=Places
hG:=L.length
Qj:=List.getLast?_eq_getElem?
Du:=_W.nh
Jg:=A.g.G7
Qk:=MtLines.pairs
Dw:=pairs_len
V3:=MtLine.linesBy
V4:=MtLine.unmarked
Jl:=dn.length
V6:=Nat.le_of_eq
Qn:=List.append_assoc
Qo:=x.lines
V7:=MtLine.lineBad
nK:=h.lo
ro:=h.en
Dx:=L.drop
rp:=putK
V8:=Nat.ne_of_lt
Qq:=List.drop_eq_getElem_cons
Qs:=List.drop_drop
Dz:=List.getElem?_drop
Qt:=Nat.add_lt_of_lt_sub'
Qu:=Option.some.inj
V9:=List.take_of_length_le
jk:=drop
uJ:=same
Jm:=ev.now
V_:=List.drop_eq_nil_of_le
yb:=V.ref
uK:=sH.trans
yd:=ll.trans
Jn:=CH.trans
DB:=small
V!:=Bool.not_true
V?:=Nat.le_succ_of_le
Qw:=MtLine.raggedBy
ye:=_W.kz
DD:=s3.trans
gn:=c.Unit
Qx:=fs.length
Jo:=A.du.cl
Qz:=A.du.L6
QA:=A.du.Kn
QC:=A.du.Kj
Jq:=A.du.D_
QE:=A.du.PZ
QF:=A.du.MY
QI:=A.du.K5
QK:=A.du.O9
QN:=A.du.M0
QO:=A.du.KE
jp:=MtLine.Unit_
fR:=u.is.cls
Js:=MtLine.isEast
yh:=Ch.uW
Jt:=A.g.Il
QP:=MtLine.ends
DE:=Bool.and_comm
DI:=MtLine.Sort_
DM:=Ch.fN
Jv:=S.length
uM:=r.length
Wb:=Nat.zero_add
Jx:=A.g.Fd
QQ:=MtLine.isMark
Jy:=Nat.succ_le_of_lt
JB:=MtLine.Say
DO:=sorts
Wc:=List.contains_nil
JC:=sA.trans
JD:=MtLine.begin_
mP:=Ch.bT
b?:=us.length
Wd:=List.getElem?_eq_none
We:=List.sum_append
DQ:=MtLine.units
QR:=hU.later
uQ:=Ch.nt
QS:=hO.later
uR:=Ch.qY
pc:=Ch.cY
uT:=Ch.pj
cU:=cut
QX:=c.Place
pe:=Ch.gX
nL:=Ch.gY
DR:=Ch.m9
DT:=Ch.gZ
DU:=h.later
QY:=xm.later
Wf:=List.head?_drop
uU:=A.g.sC
ym:=Ch.gU
DV:=Ch.num
DX:=Ch.seg
D0:=A.g.GL
D1:=A.g.HY
JF:=A.g.CL
D3:=A.g.CP
JI:=A.g.SY
JJ:=A.g.OP
yo:=A.g.QU
yq:=A.g.IS
JK:=Bool.not_and
QZ:=MtLine.kernel
rr:=MtLine.digits
Q1:=Nat.sub_self
uY:=A.g.PR
uZ:=A.g.PO
Q2:=MtLine.says
JM:=MtLine.pieceCost
D5:=Ch.texts
JN:=js.later
Q4:=sM.trans
Q7:=DW.trans
Q8:=own.map
Q9:=MtLine.marksFrom
Q_:=uy.is.sa
Wg:=List.map_set
Wk:=List.eq_nil_of_length_eq_zero
D6:=_B.kQ
aN a b:=a _ _ b
fo a b:=c! (a b)
ac a:=ag a
dd:=a.2
fS a:=List a
an a:=c! a
ad:=aa 0
dM:=a.1
kM a b c:=ae a (ae b c)
kP a:=a eo
Z:=aa 1
cL a:=λ _=>a
ci a:=fo .ref a
iv a b c:=a X σ H b c
dP a:=aN s1 a
nN a:=.pure a
ax a b c:=λ a b c=>?_
bB a:=(a:bF)
bf:=λ _=>rfl
bQ:=by decide
c3 a b:=by refine a b ?_
bC a b:=kM a b ao
as a:=a=bE
ap:=aa 2
kS:=kP Pi
u0 a b:=autoParam a b
dl a:=(a:bF)
a?:=dd.1
dt a:=a (by kernel_rfl)
D7 a b c:=a b w c mg tZ
b!:=dd.2
Y:=Fs K mg c
gp:=D7 aM P K
dY a b:=a (v:=b)
bn a:=λ H1 s1=>a
nQ a:=a A h ad
aD:=fS R
j5 a b:=iv aB a b
cA a b:=af _ a b
bd a:=fo vN a
rs a b:=j1 a b
rt a b:=a A nQ b
fr a b c:=a (b us c)
e6 a b:=MtLine.is a b
e7 a:=u0 a aA._auto_1
bG a b c:=λ a=>aG b c
j_ a:=λ a=>?_
a6 a:=(a).length
dp a:=.ref a
kT a:=rt uk a
aF:=aa 3
bm:=dd.2.2
iA a:=(a:bF)
eu a:=.ref a
nR a:=a (by decide)
cd a b:=by exact a b
ru a b c:=CQ (a b c)
dv a b c:=aN a aN b c
ce a b:=by refine a;subst b
eD a b c:=a (by exact b c)
de a b c:=a[b]?=an c
br:=b!.1
d0:=dM.2
kY a b:=dY a (vN b)
ck:=by rw[c3 hU _];dsimp only
pg a:=Option a
mR:=dM.2.2
jr a b:=a eo b
bH a:=IX a
mU a b c:=cA (a dP b) c
bD a:=iA (a:R)
d1:=nR hr.mono
gr:=dM.1
a7 a b c:=by rw[a]at b;cases c
bt:=j_ hx
e! a:=.bl a
ca:=fS jp
cm a b:=bC ac a ac b
a!:=aa 4
bi b c:=λ a:b=>c
iF a b c:=D5 a b c
kZ:=nN rs bO ?_
JP:=Or.inl O
bA b:=λ a H=>b
jw:=cS c H a us p cU
e? a:=aN s2 a
hH a:=eval a mM
pi a b c:=λ u a b e=>c
u! a:=dl a - 1
pm a:=a _ _ _ _
pn a b c:=a kT b ac c
k0 a b:=af a e b
nT a b:=fS (a×b)
ew:=by rw[jd]
ft a b:=a nd O JP b
d2 a:=ae a ao
d' a:=c? a
cc a b:=cp a cL b
k! a b c:=a b ai bn mU j0 c O
eH a b:=af a O b
jz a:=a (by decide+kernel)
cr a b:=by refine a hp b
c0 a b c:=bp a b dt b1 bf c
cB:=gp 2
c5 a b c:=show a by exact b c
ch:=aa 5
f3 a:=.int a
d! a:=λ H2 s2=>a
k? a b c:=a b=fo .dK c
dT a:=λ x=>a
JQ a:=List.getElem?_eq_some_iff.mp a
la a:=(a:R)
iG a:=aj H1 a
d?:=tx t us
u? a:=Dx a
yr b d e:=by obtain⟨b,us,d,cU⟩:=e;have h:jw:=hp
jA a b c:=a eo b c
jD:=kS 2
yt a b:=λ a v _=>v=b
dz a b c:=kM ac a ac b c
mZ:=nN rs e5 ?_
rv a b c:=λ a _ b e=>c
po a:=mP us a
iH a:=e6 fr pe Bf p a
el:=k+1
va:=J+1
JR:=pm DX
ds a b:=ru cE a cL b
lc a:=a eo y n t
pp a b e:=by have a:bz mG H b d kk:=e
cR a b:=λ a b=>?_
d4:=by rw[yr a p q,c3 hU _]
c':=Fs X.K uq c
dA:=by conv in JR=>whnf
eb:=nN ?_
gt a b:=by refine aG a b
fa a b c:=a b=an (.lst (c vN))
dC b:=yt a b
yu a:=fO (a A) bQ bQ
nU:=rv v _ ?_
eI:=p+1
gu a b:=(a).map b
hK:=bB n
f4 a:=kY bU a
Q' a b c:=e7 (a mM (eval b mM)=hH c)
nV a:=e6 fr nL Af p a
f5 a b:=by exact a b
eq a:=Q' a o o
fu:=u? va
fd a b c:=aP a (aP b c)
m0 a:=k! a Z bo
f6 a b c:=by exact a b c
jE a:=a jV
eK a b c:=a O b c
ec:=pg jp
ef:=gp 1
eQ:=a?.2
d6 a:=by exact a az
pq a:=(a:bF)
dL:=e9 c
f8:=by rw[pp aQ b hR]
m1 a b:=bg ((a).imp b)
vc:=λ _ _=>trivial
iI:=mR.2
m2 a:=pi H1 s1 a
eR a:=λ h=>a
fe:=d0.1
hQ a b c:=ae a bC b c
er:=P0 o
JX:=kP Mt.flag
yv a b c:=upd a b (.dK c)
et:=.Df o
ld:=bB m
lf:=kS 1 n
nY a b:=j5 a eu b
li a b:=j5 a f3 b
f?:=eu gr
lj a:=e? dP a
D8:=.inl O
D9:=.inr O
em a:=.int a
ff a b:=ru dr a cL b
pr a b c:=λ a H1 _ b=>c
rx a b c:=Qh eo y a b c
vd b c d:=ah b λ a e h=>k0 c d
fh:=nN O
ry a:=cL ac a
lk a:=gV A hr a
m3 a:=λ _ _ _ _ _=>a
ga a:=a=aH
fv a b c:=bp a b dt b2 bf c
ps a b:=xO a b
jF:=bB k
iK a:=by exact a
gc:=.int
fl b:=λ a v H=>b
fx a b:=pn a px b
gw:=mR.1
pt a:=aW cW a ai
lm:=kS 3
j! a b:=k? a b ke
gd:=rn t b e
gf a b c:=aY a bG b cN kZ c
rz a:=Qk a
n1:=.tail
n2 a b c:=dq (m:=a) IV b c
gg a b:=by subst a;have nd:=b
gx a:=bN a
gy a b:=de l a b
ln a:=a=bE
eT a b:=(a).imp b
n3 a b:=iv Ev a (OU c b)
fy:=xX _
fz:=nT Key V
j? a:=ft a aI
lq:=dl n
vf a b:=fr a pc b
fn a:=a ct
yw a b c:=bn (b9 _ dx fs dP h1 a b c)
gh:=kT py
pu:=gj O
gD a:=(JQ a).1
kc a:=aW bV a ai
hV:=u! k
fI a b:=by rw[a];exact b
iO:=vN a?
n4 a b:=λ a a0 _=>b
gI:=(b,d,kk)
lr a:=ba H v a
rA a:=I! I b a
gM a b:=t! a=fo .bl b
hY:=Mt.inside r
h' a:=m1 a nU
m4 a:=λ hx=>a
JY a b c:=.Compare a [b] c ct
iQ a b:=(a).imp b
D' a b:=behindInMarks a b=false
h! b c d:=pr u b vd c a d
pA:=kP Mt.map
h? a:=(a).map
ls:=a?.1
gT:=po i
iU:=k - 1
iX a:=by rw[gt a kZ]
ic:=gp 3
i0:=by obtain⟨⟨b,d,kk⟩,v,num,r⟩:=a
JZ a b c:=a (ug b c)
g0:=pg V
lu:=o_ vN
rC:=iF l J bh
ii a:=da a
ik:=ci a
lv a b c:=ah aS ax a b c
m5 a:=fo .int a
D! a b:=nN rs a (b).symm
g':=fS V
rH a:=λ d r=>a
m6 a b d:=a gn H b d
m7 a b c:=by obtain⟨a,b⟩:=JQ c
g!:=aa 6
i1 a b:=by rw[aV (c8 hb a)];exact b
rI a b:=a (by exact b)
pB a b:=λ a H=>b
jG:=.Name
i2 b c:=JY a .b c
D? a:=by rw[c3 j1 a]
im a b:=by rw[a];exact b
yx:=kS 6 n
n5 a:=by exact xF a bQ
Ea a:=dl a+1
io:=j_ h1
rJ:=v=dp q
kg a b c:=q yu a (q yu b c)
ki:=ci qt
iq a:=gj a
lw:=JZ jj eo y
Ec:=.Tuple es x1 ji
jI a:=jz (d_ (nH:=a))
i3 a:=fo bO a
ko a:=(a).toNat
pE a:=aN s a
n7:=k - 1
i!:=aa 7
kp a b c:=aY a bG b ac Ds mZ c
yz:=jf n
J0 a b:=a (Do b)
yA a:=(a).book
jJ:=nY o a
rL a b:=rp ke (kN a) (vN b)
jK:=gp 4
yE a b:=a (c! b)
ir:=hx.2
pG a b c:=by refine bX hp ax a b c
yF:=JX 12
jL a b:=j5 a e! b
vl:=la k
jM a:=gu a vN
lx:=ci bb
pH a:=a->cs
i? a:=λ v H=>a
m8 a b:=pn a py b
pJ:=j+1
jP:=bd n
jS a b:=t! a=b
vn a b:=iH a&&nV b
m_ a:=a<=db
rM a b c:=dO (l:=a) (b:=c)
n9 a b c:=dO (a:=b) (i:=c)
m' a b c:=List.all_eq_true.mp a b c
J1:=by rw[ew]
n!:=J0 jj eo
pK a b c:=a b u c t1
lB a b c:=(a).map λ b=>c
m? a b c:=dh a (aw b) _ [c]
kq a b c:=j5 a (.bl (b c))
na a b:=by rw[ce (bq j.now a) b]
lC a:=a kl ke
vo a b c:=aT (a A) d1 b c vc
ks:=R×R
lD a:=by exact aG lk a D! e5 (iM _)
yJ a:=Ch.cst B iF l a bh
yK:=aj H H1
lG a:=vf a eI
kt a:=by show Rn _ _ _ _ a
ja:=bI 2
jb:=.bl
vp a b:=yv a l1 b
lH:=Nat.zero_le _
ku a b:=by exact CE a b
lQ a:=xF a bQ
n? a b c:=by have a:b:=c;rw[ck]
lR a:=λ _ _=>a
kw a b:=by exact a b az
ky a:=by rw[da a]
nb:=fP s1
rN a:=b8 kl (kN a)
nc a b c:=a b (CT c)
lS:=by repeat(first|rw[cX,pu]|rw[cX,nR da])
rO a b:=(a).uh b
lU a b:=by show a=_;rw[b]
vq:=by rw[D? bO]
kA a b c:=aZ a O b c
kB a b c:=(a).all λ b=>c
yL a:=cA O a
pL:=_W.d9 m k q
Q! a:=u0 a bS._auto_1
lW:=iG H2
lY:=li e i
l0 a b:=eD gj a b
l8 a b:=eD da a b
oa a b c:=cK I0 (a A) b c
yN:=kS 7 n
Ed a:=aN d3 a
vr a b c:=λ u a b hu=>c
yP a b:=ae ac a b
J3 a b:=yw A.eC.cl a b
l_ a b:=t! a=an b
rP a:=dv s4 s3 a
l! a b c:=a b=an (.ins c dx fs)
nf a b c:=e7 (Ja a mM=(false,b)::Ja c mM)
kC a:=e5 a
l? a b:=j5 a (vN b)
ng a b c:=bp a b dt b3 bf c
rR a b c:=kf a ry b c
vt:=fR==38
ma a:=kY mH a
mb a:=pq (a:R)
nl a b c:=by rw[ce (ah (eM hk) ax a hn b) c]
mc a b:=iv Te a b
mi a b:=fL a cL b
Ej a b c:=∃q xs,u=dp q/\(a\/b)/\xs.length=c
mk a:=cd a hj
nm a:=cd Dk a
rS a b:=eD xY a b
np a:=by rw[nG,a];rfl
rU:=64*i
Ek a b c:=by generalize a=b0;generalize b=c
nq a:=by have:=Vp a
mm:=bm.1
yQ a:=c6 (.pure a)
mn:=Ch.ig x r
oc:=iG H'
nu:=n3 o u
nv:=kT px
pM:=p - 1
nw:=q+1
vu a b:=Ch.gP a b
mq:=an uv
rW:=jD n
mt a b:=a (bs:=b)
mx a:=(a:R)
my a:=a->Prop
J5 a b c:=a ct (b c mM)
od:=(a,(bb,d,kk),y,t)
oi a b c:=by refine Bd.of a λ H1 s1 D b c=>?_
ol a b c:=eH a aN b c
vv a b c:=a eo y n b c
on:=e6 o l
vA a b:=ka c.Ways H a b
mA:=a.1.1
rY:=by simpa using hx
ny:=fS Dd
op a b:=by refine a;refine b
oq a b c:=aT (a A) hr b d2 c vc
yR a b:=u0 D' .a b _L.gz._auto_1
pO a:=b8 ke (kN a)
yS a:=rx t b a<=n
El:=lz.cls==47
rZ a:=pi H2 s2 a
nA a b:=fZ a ac b
nB a b:=dY a (.bl b)
nC a:=yE a u
nD a b:=IX a=b
yT a:=m.getD a 0
or:=b7 (i:=5)
os a:=cH (dD a)
Em:=pv 8
ot:=fS (jp×aD)
J8:=yx==39
yU a:=Ch.g9 B rC a
yV:=lc _W.lb
vD a b c:=a b bf hsz c m3 (cz nd O D8 D9)
r0 a:=(a:R)
ox a:=kF us a
J':=QP gl
vF:=rz dn
vI a:=dv s3 s2 a
pR a b c:=cQ (v:=a) ho J3 b c hb
r3 a:=cz a O D8 D9
oy:=nT R R
oC:=lq - ld
oD a:=∃q,rJ/\a
oG:=ci ar
vJ:=pA 5
vK:=pq _==iA _
Ep a:=fo e5 a
Er a b:=a (CI b)
oI:=a6 d0
oJ:=pt ap
yW a:=dY a dp ay
oL a:=i_.k (k:=kN a)
pS:=de L j x
nF a:=(a).cls
r4:=(dM).B
pT a b c:=k8 a b dt b2 bf c
pX:=r.to.headD 0
oM a:=a<=b?
pY a b:=bG a b mZ
vL:=hG - 1
oR a:=kY cO a
oS:=Ed O
pZ a b c:=yP a cm b c
Et a b:=(J5 backTo Ja a).b (·.1)=false
yX a:=a<CU
r5 a:=.pure (a ?_)
oU:=u! n
oX:=bm.2
o0 a c d:=qX a c ho (λ fs b e h=>d) hb
yY a:=pc us a
r6:=n - 1
o1:=λ _ _=>True
y1:=jj vN
o2 a:=c4 (bN a)
p0 a b:=by have a:=Vq b
Ex a:=rI xD a
o4 a:=(a).isSome
o5 a b:=ym a=b
vP:=Bf us p
o6 a:=mO H v a
vQ a:=Q! (a=an .globalImplicit)
p2:=by have fX:kH c H a (bb,d,kk) y t:=hS
EA a b:=by rw[q_,a,b]
Q? a:=u0 a n6._auto_1
EF a:=a (i:=6)
r7:=by simp
p3 a:=λ H4 s4=>a
p4 a b c:=by refine(aZ hA ru sV a b m4 (nomatch hx) cL c)
EH:=rp kl (kN x0) bv
r8 a b c:=∀(H2:Hp)(u:V),a->u=dp b->Ej (aC K H2 q xs) (aJ K H2 q xs) c
y2 a b:=by obtain⟨a,b⟩:=hp
y3 a:=λ _ r=>a
p7 a b c:=by rw[c3 (mD n4 m a (λ _ _ _ _ _ h=>h) b kD) c]
vR a b c:=λ a u b e=>c
o8:=iP h1
p_ a:=λ i=>a
r9:=a6 iI
p! a b c:=tH _ O a O _ O b c
EJ:=as yz
p? a b c:=λ a b=>fE bt c
qa:=kS 0
qd a:=as (jf a)
qf:=ed mG dM H
qg:=ci l2
qi:=ci l1
qj a b c:=a b=fo .lst c
y5 a:=a (q8 s2)
J!:=ps yN [2,3,4]&&!J'
ql:=by simp at az⊢
qn:=ci l
vS:=ci r
y7:=bB ey
qp a:=pB v lr a
y_ a b c:=a ad d! (b9 _ dx fs lj h1 Qa b c)
r_ a c d:=by rw[e];refine gB a ax b c hh;exact(d3 b d (hh.later s1))
r! a b c:=aT (a A) hr b hQ ad Z ap c
r? a:=show a by decide
qq a b:=cA d' a b
qr a:=dY cQ dp a
qs a b:=.Call a b [] ct
EK a b c:=aE a _ b (.inl (c? c)) J1
vT:=e.testBit 31
qv a b:=show a by exact b
qx a b:=show a by exact b
qz:=bd b
qA:=by rw[az];rfl
y!:=CI s3
sb:=V×aD
y? a b c:=jz (d_ (N:=a) (sc:=aw b) (own:=[c]))
J?:=bK "spaceless" e! J8 (bK "joined" e! El fs)
EP a:=a=b?
Ka a b:=m2 k0 a (j0 dP b)
sd:=sD c dM H
za:=Ea b
qC:=i=la j
qE:=ij Em aI O
zb a:=bP eL a ai
qF a:=λ n:R=>a
vW a b c:=a n aQ bQ hs ad ac b c
zd:=#[_,rfl]
EQ:=vN b!
qH:=aj H' H2
se:=Q? (qo e)
ze a:=b7 (a:=4)
qM:=bB b
sh:=fU A hr
qN a b:=bP cM a b
qO a b:=λ u H1 s1 a=>b
vY a:=aN s7 a
qT a:=aN s6 a
sj:=e7 (vs.all il=bE)
sl:=j5 a (.int (kI o))
vZ a b c:=a wK b O ai yQ c
sm a b:=by have a:=Vp b
ER:=fU A d1
qV a b c:=λ v a b hv c=>?_
sq:=u0 (uc<=CU) k5._auto_1
st:=dl ey+vl
qZ a:=λ _=>a
q4:=a.2.2
sw:=[Ec]
sz a b c:=H a=an (.lst (b c))
v4:=fS DI
sG:=.P2 o e ji
Kc:=jr PA n
v5 a b:=bG a b eb
zh:=jr Mt.full n
ET a:=by unfold a;dsimp only
v6 a:=gx vo a hK d2 Z
v9 a b c:=_B.mY (if a then aH else l[b]?) c
sI:=ci qm
v' a:=jr Mt.ccc a
v! a:=rM us i a
sK a b c:=by rw[<-a b l,<-hv];exact c ha hb hf hl hm
sL:=ci b
sQ:=rA k
sR a:=∀H1,yK->a
v? a:=bH a=false
zl a:=show a by decide
zm a b:=fd a b dg
sU a b c:=c4 (a b ac c)
q6:=i+1
sX:=pv 4
s_:=iv eO es vs
zn:=hS.later s1
s? a:=by cases a<;>rfl
tb a:=by rw[gj a]
tc a b:=jU c.kR H a b
td a:=a6 a<=64
tg:=hG - 1
th a b:=a Z ac b
wd:=vN br
zo:=_W.jR I b p
ti a b:=∀{a:Hp},b
tj a b c:=c! (a b c)
tk:=(bb,d,kk)
Kd:=R×cs
tl:=pH R
Ke:=dP eJ
tm:=aN dE p9
tn a b c:=by exact a b c
Kf a:=lc _W.jv mu x0 fu a
zp a b c:=by revert a;rw[Ek b c b1];revert b0 b1;decide
tp a b:=λ a:R=>b
tr a b:=∃a:R,b
ts:=L.map vN
tw a b c:=j7 a H b us c
ty:=w_ A hr n
tA a:=dI (bN a)
wg a b c:=c7 a b dt b1 bf c
wh a b c:=c7 a b dt b2 bf c
wi:=e7 (vs=lu)
tB:=cg (j:=0)
wk a b c:=λ a a0 b=>c
tC:=bB p
tF:=aj H H'
tG a:=bY (iL a)
Kg:=.head _
wm:=ln b
tI a:=λ h1=>a
Kh a b:=jr Ch.cst iF d? a b
wn a b c:=#[a,λ i b c=>by exact(nI h).elim]
EU:=yJ j
wo:=by have e1:=j2;have e2:=hz.now;subst e1 e2
wp:=by rw[eh]at hx
Kk a b c:=yL (p _ _ a λ b s4=>c)
tL a b:=λ a _=>b
tM a:=λ m=>a
wq:=λ _ _ h=>h
tN a:=λ n=>a
tO:=oB ai
Kl a b c:=iy kD O a (b nd O JP) c
wr a b e:=a (jt mG b rH e)
ws:=rO [13,47] gl
Rb:=lf==16
wt a:=by rw[jd,a]
wv a b:=n2 a ap b
ww:=by rw[q_]
wx:=m5 bB J
wy a:=as ((a).all jf)
tP:=h1.2
tU:=.nil
wz:=vN e
wA:=m6 iN gr d0
Ko a b:=(a).P6 λ b=>vt
zs a:=oQ kD dy a
wB a:=rt a py
zv a:=jA Ch.mJ d? a
wD a:=ga rN a
wE a:=.P2 a e ct
wI a b c:=LI a L b J x0 c kl ke
zx:=bK "initial" e! Rb (bK "east" e! J! J?)
Kp a:=by unfold PP a
EV a b c:=a (q8 (b c))
wJ a:=Ep (a - 1)
tV:=pv 3
tX:=pv 6
tY:=aa 9
wP a:=by rw[gj a];rfl
wQ:=DQ l
Rd a:=a×j4
wS a b c:=by exact(aE a _ O b c)
wT:=bd fi
wU:=bd bh
wV:=nQ px
wW:=po pJ
wX a b c:=WI B l bh J a b c
zy:=e7 Et [] any
zA:=yv vp H' EH l2 rL x0 e
wY a b:=a (us.drop b)
w0:=bd k
zC a b c:=a b (Dx c)
w1:=by split<;>rfl
w2:=bd e
zD:=e7 D' .In Ec
zE:=m0 yW bU
w3:=r.to.drop 1
w4 a:=eH qt a
zG a:=bN (cQ Z a)
zJ a b c:=λ qu vs a b c=>?_
zK:=by rw[ew,n5 a3]
w5:=br.2
zL:=u! p
zM:=hK - 1
w7:=Pi B
w8 a:=vr H2 s2 a
Ks:=dP dR
zS a b c:=λ u a b c hu hz=>?_
zT:=L.filter λ p=>bH yS p
zU:=yR Eq b
w9:=.cluster
w' a b:=by refine a kL b
w!:=gj h
zV:=EF b7
zY:=by rw[EA dV gk]
EW a b c:=aT (AH A) hr ((eu qu,us),a) bC Z b c
w? a:=(a).length
xa:=Af us p
xb a:=aN s8 a
xc:=an u
z1 a:=dW a ai
xd:=an b
xe:=(iW,k)
Ku:=Ka ay cP
EZ a:=by rw[PK,a];rfl
z3 a:=e7 (a=ld)
E0 a b:=rR a A.g.yk ry b
xg a:=a e !=0
xh:=gc 0
xi a:=λ h=>a
xk:=hs hm
E1:=[f?,iO,EQ]
z5 a:=by exact o9 a bQ
z!:=rx t b e
z?:=jE yF==yF x
Ac:=yU el
Ad:=by rw[Pn,Bool.eq_false_iff]
Ah:=by simp only[eh,dV]
Kv a:=cd Vw a
Aj a:=by rw[ck];unfold a
An:=jE lm==lm x
Ao:=jE jD==jD x
Aq:=by rw[vq];congr 1
Re a:=f6 Qi a e
Kw a b c:=lF PySem.F.plainAttrs_list a b c
Ar a b:=eD xD a b
Kx:=n1 _ (n1 _ Kg)
xp:=h1.1
xr:=e8 x
E2:=i4 _
xv:=.int
E6 a b c:=by generalize a=b2;generalize b=c
As a b:=fa a b L.map
At:=yX a6 y1
Ax a b e:=a (pI mG b rH e)
Az:=Er q8 s3
AA:=lf==17
AB:=Kc==[]
E7 a b c:=by refine ah (eM hk) ax m hm a;subst b;refine iQ c nU;rw[e,gW]
AC a b:=by rw[a,b,hE];rfl
AD:=vA ls eQ
AJ:=ba H br bm
E8:=ca×Kd
AM a b:=free (a:=.ins gn e_ b)
E9:=EP uc
xy:=b+1
xz:=pv 5
AR:=n - 1
xA a:=bh - a
AT a:=by rw[a,jh]
AV:=L.Pairwise (· < ·)
AX a b c:=V7 a b c
AY a b:=by simp at a⊢;exact b h1
E_:=Rd a5
A0:=D7 mj P K
A3:=JX 11
A4:=jr Mt.full x
A5 a b c:=ah a λ b e1 e2=>(af q e1 c)
A6 a:=(a).P6 dT (gl==6)
A7:=R×V×aD
KA:=jr Do n
A9 a b c:=a (b:=eo) (w:=c)
A_ a b:=dv a s4 b
E! a b c:=aE a _ j2 b c
A!:=lv qt fq dS
A? a b c:=∀{H':Hp}{a:HO},b->c
Ba a b:=by unfold a;rw[b];rfl
Bg:=nT a4 V
E?:=rA p
Bk:=k::pL
Fa a b c:=λ a b=>QY c
Bl a:=by cases a<;>rfl
Bm b c:=b c a? b!
KB a:=.inl (c? a)
KC a:=(a).map (·.cls)
KD:=e1.testBit 31
Bo a:=a6 a<=200
Bs a:=eK lg _ d' a
Fb:=kc ap
By:=yA fe
Fc a b:=show a=b from rfl
Ff a b c:=show a by exact b c
Bz a b:=cu a (cu b ao)
KF a:=ke.length<=a
BC:=PP n
BD:=h.2.2.2.2.2
BE a b c:=DX a b c k
BG:=.int (kI o)
BH a b:=aZ _ O a b
KG a:=a db 0
BI:=y3 (qy r)
BL:=ey+k
BM:=0+jF
BO:=I.getD p _W.no
BQ a:=dU.k (k:=a)
BR:=dP dS
BS:=ey+i
BT:=uA==4
BU a b:=af a b O
BV:=j_ h2
BW:=j_ cn
BY a:=AZ A hr a
B0 a:=by rw[e,a]
B3:=pE h2
B6 a:=upd H' a o
B7 a:=xE (cq a)
B8:=aN pW _
B9 a b c:=uw hU a b c O
Fg a e f:=by obtain⟨⟨a,d,kk⟩,e⟩:=f;rw[y2 hR hs,f8]
Fh:=m0 f4 ey
B' a:=o?==a
B!:=_<=1000
B?:=an vb
Fj:=eu gr.1
Rg:=t' l
Ca a:=aN s3 a
Cb a:=aN s4 a
Cc:=dp qt
Fk c d e:=by obtain⟨⟨a,I⟩,b,c⟩:=q;rw[pG hS kx a_];dsimp only at hS d e
Fl a b:=by simp only[a,eh,dV]at b;rw[Kp t3]
Fn a b c:=vR H2 a EK b e c
KH:=by simp
Cf a:=λ H5 s5=>a
Cg a:=λ fs h=>a
Cl:=vN dd
Cn:=R->V
Fo a b c:=Kl eK a q9 dX b c
Fp:=vu a (Kh a m).2
Co a:=λ p=>a
Cp a:=.inl a
Cr:=J+k+1
Cu:=bZ 1 X.A
Cw:=va+k
Fq:=Kf el
KI a b c:=aE a _ t1 (.inr (b c)) J1
Fr a b c:=bn (b9 _ dx fs dP a C' b c)
Ft:=m3 (cz nd O D8 D9)
Cy:=e::es
Cz:=dH 33
Fv a:=Kk y! H4 a
Fw:=λ j=>yV mu u? j
Fz a b c:=c7 a b dt b3 bf c
FB a b:=m2 k0 a (c? dP b)
FC:=Ko vP u
FD:={kind:=.function,names:=[],isGenerator:=false,isCoroutine:=false}
FE a b:=bn mU c? a b
FG:=n==9676&&!([9,15,30,31,13,47].uh gl)
FJ b c:=rz (b r4 gw a? iI (V4 c))
KK:=nV [33]
FM:=by rw[Ch.tK];rw[ET JD]
FO a b:=by have:a:=eR (b (xY h))
Rj:=f5 Vw hk
FP:=Re hj
FQ a b c:=by refine ah j2 ax a e1 b;exact(af q e1 d' c)
FR:=jA xN y n
CA:=aa 8
FS:=rS Eg ip
FT:=Ex IE
FU a b c:=by rw[c5 (a+1=b) yD c]at az
FV a b c:=∃qe a ke,v=dp qe/\j! H b/\c
KM a:=Qq a
FX:=max 3 d.book.scripts.length
Rm a:=cd V? a
FZ a:=CO a
F0:=vI Ks
F1:=(V×ca)×R
Ro a b c:=Bp A d! lj a (QR s1) O ad b c hu
F2:=by rw[q_];simp
F5:=vK||false
F6 a:=a (DD (s4.trans s5))
F7 a:=by rw[a,dV]
F8:=nN rs vN ?_
F' a:=by rw[a,ep]at hx
Rq:=[13,47].uh gl
Rr:=Ve hn
F! a b:=by have a:b:=by rw[rY]
F? a b c:=by rw[a,b,ep,c]
Ga a b:=jA PT a b
Gc a b c:=by obtain⟨a,b⟩:=Fe (t:=t) c
Gd a b:=lc Du a b
Gh:=rW==0
Gn a:=pi H2 s3 pK a H2 s3
Go:=vJ y==[]
Gs a:=(fu).getD a
KN a b c:=c6 λ a b=>#[zd,c]
Gt a:=λ v l h=>pm gG a h
Rs:=po b?
Gv a b c:=j1 (λ a=>fo CW z) (GD b c)
Gw a b c:=by have a:=fX.len;have b:=c
Gx a b c:=a (p:=λ b:Dd=>c) oK
KO:=jr PA x
KP:=cS c H dM a? br bm
Gy:=ed mG gr H
Gz:=za+jF
GA:=bH (kv.1=Rg)
GE:=D7 oz P K
GF:=JX 15
GG a c d:=a0=a/\b<=k/\c/\m=k - b/\d
GI a b c:=by cases a<;>cases b<;>cases c
KQ a:=as (a jf)
GJ:=da (by simp)
GM:=e6 o [m]
GO:=bP eL aF Z
GP a b c:=if(as a)then b else c
Rt a b:=if a then b else aH
GQ a:=fo HO.tup a
GR:=ci qe
GS:=ci ay
GT:=ci qL
GV:=ci wa
GW:=ci qu
GY a b c:=.v a cN (.v b cN c)
G0 a d e:=a (Gg c λ I b d=>.bl e)
G1 a b c:=lC (WE a b bh c)
G2 c d e:=c (d:=e) (a:=b) (k:=n7)
G3:=yA gr.2.1
G8:=by dsimp only at hs
G_:=("kinds":a4)
G' a b c:=upd a b (.lst c)
G!:=iA r0 n
G? a b c:=by rw[a (Ne.symm b)];exact c
Ha a:=ou (wO A) hr a
Hf:=_W.lb B y n t
Hh a:=a6 a<=1000
Hi:=nQ EI
Hj:=nQ HS
Hn:=Ps n
Ho a:=wipe a (Q8 (·.2))
Hq a b:=b8 a (t' b)
Ru:=ln t?
Hs:=zb Z
KS a b:=fP (a b)
Hw a:=eV aF ac a
Hy:=bd mu
Hz a b e:=a (G5 mG λ d b=>e)
HA:=bm.2.2
HC:=i<b?
HE:=bm.2.1
HF:=V×aD
HG:=yT pM !=0
HK:=q8 s2
KT:=fP s2
HM:=j=vL
KV a:=a+1<hG
HN:=Ps (mK+1 - ey)
HP a b:=∃(a:R),b
HR:=pg R
HT a b c:=w6 (α:=R) a b c
HU a:=.jg (.jg a)
HV:=lJ hK
HW:=bK "final"
HX:=fS dk
HZ a:=aW uG a ai
H!:=iK xG
H?:=DM x r
KX:=dP cP
Ib:=aN dE xw
Id:=.ListComp _ _ sc _
Ie:=yA bk.2.1
Ig a:=(a).flatten
Ih:=fS Key
KY:=eu dM
Ii:=pE h1
Ik a:=us.drop a
Im:=L.take k
K1 a b:=(a).CR b
Io a:=gE eL a Z
Ip a:=ey+a
Ir:=b7 (i:=7)
Rv:=n==8208
Is:=la i
It:=h.2.2.2
Iv:=e5 0
Ix:=an x
Iy a:=aP a dg
Iz a b:=λ a b=>?_
IA:=z.1.sa
IB:=max m (a+1)
K2 a b c:=a Ku bf (HJ a3) b m3 r3 c
K3 a b c:=vD (pU 3 (f:=dT a) O nd b ap) rZ k0 av d' e? gm c
IC:=λ _ _ _ h=>h
IF:=cV hl
IG:=j<=bh
K4 a b c:=by obtain⟨a,hz⟩:=n9 l I n7 (by exact b c a_);have cI:(hV)=bD iU:=by exact zt hk
K6:=yv vp H' (rp kl (kN J) (vN iW)) l2 rL J (J+k)
K8:=y_ kY cQ ub A.fB.vE h4
Rw a b c:=dz xV a dz up xW cm b c
II:=dH 37
IL:=n==m
K9 a:=y? ["book","record","scalar"] a ("scalar",2)
K_:=m0 f4 o!
K!:=Ro eJ Z ip
K?:=m0 f4 mK
Le:=lB gd n bD (KA).cls
Lf:=n2 b? ad m2 (aE qu vs t1 KB Ke hl)
Lh a b c:=aT (mI A) d1 a bC b ac c lR KH
IM:=n+1
Li:=e+1
Lj a b c:=f4 a b ai bn mU j0 cP c
Lk:=n2 fJ ad m2 pK vC H1 s1
Ln:=vQ (x2 x)
Lo a:=m? ["self","book","text","scalar"] a ("scalar",3)
Lp:=n1 _ (n1 _ Kx)
Lq a b c:=by rw[a,q_,b,dV];exact c
Ls a c d:=#[iU - b,f5 H_ hk,n7,?_,Rj,f5 a c,rfl,d]
Lt a b:=yw Qa a b
Lu:=KC lw
Rx a b c:=bn (b9 _ dx fs dP a I0 b c)
Lv a b c:=by rw[na (λ aU hj=>gB a ax p q b) c]
Lw a b c:=e7 (P0 a g mM hH b=hH c)
Lx a b c:=ae ad kM a ap bC b c
Ly a b c:=aP j? a (cH (iw dy b c))
Lz a b:=eD CO a b
LB a b c:=by rw[n? BX (∀a∈hY,EJ) (λ b c=>Rr.2)]
LF a b c:=by generalize a=b0;generalize b=b1;generalize c=b2;revert b0 b1 b2;decide
LH a:=m8 a yo
LJ a b c:=DF A a bn Ke hU O b c O
LL a e f:=by obtain⟨⟨b,d,kk⟩,⟨wa,a⟩,e⟩:=f;rw[pG hR hW hs,f8]
LN a b c:=ER 0 a aQ bQ b ad ac A.g.xj c
LO a b c:=by rw[IQ,List.length_singleton];exact a b c
LP a b c:=∀(i a:R),b->gy i n->as c
LQ:=Rv&&!Rq
LR:=j? ze i
LS a b c:=by rw[ce (ah (eM hk) ax a hm b) c]
LT:=Kv hk
LU a:=by apply List.map_congr_left;intro a _
LW:=DQ (jj jr ug y)
LX:=eH l rP ?_
LY a b c:=by(have a:b:=by exact Nat.eq_zero_of_not_pos h0);subst c
LZ:=by rw[xI]at h1
L1 a b c:=∀{a:R}{b:R},de c k n->EJ
L2 a b c:=by obtain⟨⟨uv,us⟩,p⟩:=q;obtain⟨⟨qu,a,g_,eJ,b⟩,hp⟩:=hp;dsimp only at g_ eJ hU hp⊢;rw[gg g_ c]
L3 a b:=Q! ((a==("__debug__":b))=false)
L4:=ps ux.is.cls [3,22]&&ps uy.is.cls [3,22]
L7 a:=a (lo:=y7) (hi:=bB mK+1)
L8 a b:=by rw[I1];exact a b
L_ a:=m' bJ a (CT h)
L':=Rt Ru an m
L! a:=f5 Jy a
L? a:=by have:=Vq a
Md a:=Dl n! b a
Mf:=Eo A zn ad a! cI hz
Mh a:=beq_eq_false_iff_ne.mpr a
Mj a b c:=yL (p _ _ a λ b s7=>c)
Mk:=KG List.replicate
Ml:=CT hn
Mm a b:=EV JN a b
Mo:=by exact Int.ofNat_eq_zero
Mp b c d:=[lx,ki,b,vS,bd a,c,d]
Mq:=y5 ya
Mr a:=by exact aG a fh
Ms a:=by rw[eh]at a
Mv a b c:=by dsimp only at hv a hy cP b c;subst hv hy
Mx a b c:=by dsimp only at a b hle c;subst hv
My a:=jA ug y a
Mz a b c:=by refine ah (hU.2 _ a hv) ax b c hO
MA:=ps fR [42,26]
MB a:=by rw[a,hE];rfl
MD a b:=JM B a b
MF a b d:=(free (o:=.ins gn e_ a) b).trans d
MH a b c:=by dsimp only at a b hv c;subst hv
MI:=Do eo (e8 x)
MJ:=qh λ p=>!zo
MK a:=by exact a (by assumption)
MP:=by unfold QQ
MQ:=nT cs JB
MS a b c:=a (VM b y c)
MT:=λ x=>bO (g (e8 x))
MU:=Rs=db
MX a c:=kP C7 2 (rn a b c)
M2 a:=by rw[a,ep]
M3:=rP hL
M4:=n::zh
M5 a:=kW gn H v a b e
M_ a b c:=j5 (.Df a b ct) c
M':=tx mR eQ
M!:=t0<=1000
M?:=r.value.testBit 12
Na a:=PC a
Nb:=(nb).parts
Nd:=jj λ n=>yz
Nf:=dl lo+vl
Ng:=jA _W.wf y t 0 b (L.take k)
Ni:=dl hG - 2
Nk a b c:=if(as a)then b else c
Nl a b:=(a).Qf b
Nm:=!t3 c&&!t4 c
Nn:=bP cM Z ap
No:=cf X.K gn g
Nq a b:=o9 a b
Ry:=Ea mK
RA:=r5 bad
Nr:=jr Do m
Ns:=bD (DV s)
Nt a:=r.to.all dT a
Nu a:=zl (¬a)
Nv:=f6 oV hi e
Nw a b c:=uE (P:=a) b Z ap c
RB a:=DD (a s5)
Nx:=dl ey - o!+1
Ny a b c:=a (P:=b) (w:=c) (tZ:=tZ)
NA a:=z'=b? - a
NC:=jA Ge y t
ND a:=fr pe a p
NE:=dl uz
NF:=I4 n
NG:=λ h=>CE h r7
NJ:=a4->pg Value
NK a:=jr a gi
NN:=f6 M7 hle iY
NQ:=pt aF
NR:=pt a!
NV:=kc Z
NX:=yY el
NZ:=X.A.units+1<cLine
N0 a:=a+1<b?
N2:=by assumption
N3 a b c:=yg (n:=a) hU ch i! O b c
N5 a b c:=Es a hz (λ _ _ b c=>nomatch h)
N6 a:=h.hi j x a hx
N9:=a?<65536
N_:=pg cs
N!:=jf x
N?:=uP.later s1
Oa:=ya s1
Ob:=Px vN
Oe:=yT (b+k)
Og:=_<=1114112
Oi:=rm 2
Oj:=rm 3
Ok a:=(a).Pairwise (· < ·)
Om:=u! bh
On:=u! fi
Oo:=ko (8:bF)
Op:=j<jc
Os:=yY n
Ot:=jG x p'
Ou a:=a=b?
Ov:=λ b' o' hb=>?_
Ow:=o!=2
Ox:=nomatch hb
Oy:=fS Stmt
OA:=iK O2
OB:=iK A1
OD:=Ea a
OE:=vY nW
OG:=ac Jf
OH:=aN j8 zX
OI:=aN j8 Jh
OL a b c:=λ q a b c h2 h3=>?_
OM:=mK+1
ON:=uz=3
OO:=uA==5
OQ:=bK "ring"
OR:=fS a4
OT:=j_ h3
OV:=l.getD j 0
OX:=IO k
OY:=vN gl
OZ:=(0:bF)
O3:=n<16384
O4:=(2:bF)
O6 a:=b7 (a:=3)
O8 a:=b7 (a:=9)
O':=_B.di B
O!:=jj g
O?:=b8 aq (kN n)
Pa:=pJ - i
Pb:=ul - 1
Pd:=ow r
Pf:=wO A
Pg:=x::r
RC a b c:=by rw[oi (aP ft ze i (mN fQ) fd ft or kb zs (aP j? zV a) os sX) n' p,<-#[lH,λ l hl=>#[wk z H' b,c,?_]]]
Ph:=a+k
RE a b c:=by rw[m7 a1 a2 o3,m7 b1 b2 a];have:=x? DG j b a1 b1 c
RI a c f:=by rw[E7 aU aU (aT (a A) d1 (gI,m) bC Z c d! #[KT,f])];rfl
RJ a b c:=gx (oa uO d1 a ad jz kn.cw bC ac b aF O bn #[kn.later s1,r? (c<15)])
RK a b c:=c2=a/\m_ k/\z'=db - k/\lW/\fa H2 l h? vF/\dn++lc b m k=vv c t m 0/\Jl<=k
RM a b c:=a0=a/\m_ k/\z=db - k/\oc/\fa H' l h? vF/\dn++lc b m k=vv c t m 0/\Jl<=k
RN a b c:=.p a EW b Fb Fa H6 s6 s6 nR Be c
RT a b c:=by rw[<-vZ a nd (Bq r6 f6 JA ip hm r6 ?_ cd adF hn O b),lU c ip]
RU:=n2 t0 aF rZ KI ay j0 e? cP
RW a c d:=by(have Ag:k=b:=by exact a c d);subst Ag;have fV:v? (hV>=jF):=Ex Ma
RX:=Rw re rk Db
RY a b c:=dY a dp b (cQ ad Rx hb A.bj.MW Gb) Z bn mU c? c (cg lE)
R0 a c e:=oa a hr (gI,n) ad jz c d2 ap O bn e
R1 a b c:=zm (lI (Kw VB VC a b (iu aI fQ))) c
R2 a b c:=zm (lI (Kw PySem.F.slot_list_extend PySem.F.type_list_extend a b (iu aI fQ))) c
R3 a b c:=zj 3 (f:=dT (bO (!(PA eo (e8 x)==[])))) O a y? b c ("scalar",3) ap
R4 a b c:=ds zG d! (b9 _ dx fs lj hw C' a b) c
R6 b c d:=b (RQ (λ a:WD=>[Fj,fe,ls,wd,vN bm]) c fl d)
R7 a b c:=by obtain⟨u,hu⟩:=n9 l us AR (by exact a b c);have ip:zM=bD r6:=by exact Al h0
R9 a b c:=by rw[Fc ([33,36,35]:aD) ([33]++[36,35]),sE,sE]at h1;(conv in JR=>whnf);simp only[ly,vM];revert h1;rw[Ek iH [3,22] KK b1,E6 iH [33] nV [3,22] b3];generalize iH [36,35]=a;generalize nV [36,35]=b5;generalize(vn [36] [24,16,17]||b)=c
R_:=vn [27,29,28,20,21] [35]
R':=vn [27] [27,29,20,21]
R! a b c:=a0=a/\oc/\k? H' l1 kl/\j! b l2/\c/\kl.length<=1+rU/\KF rU
R? b d e:=b (RQ bi (d×E8) [KY] bA KP dC e)
Sa:=m0 f4 jV
Sb a b c:=by rw[a,jh,show iJ bB e 31=vT from E2 31,show iJ b 31=KD from E2 31]at c;rw[aR];rw[zp hq vT KD]
Sc a b c:=∀(a:Hp)(u:V),yK->u=dp b->Ej (aC K H1 q xs) (aJ K H1 q xs) c
Sd b c d:=b (RQ bi (BK×E_×sb) [f?,dp ls,br] bA c fl d)
Se b d e:=b (RQ bi (d×ks) E1 bA (sd/\a?<=b!/\b!<=r9) dC e)
Sg a b c:=k? a l1 kl/\j! H2 l2/\b/\kl.length<=1+rU+k/\KF c
Sh:=vn [29,20] [29,28]
Sj:=vn [28,21] [28]
Sk a b c:=a/\j! b qe/\fa c l h? vF/\dn++((zC yV nw j).2++lc ye m nw)=vv ye t m 0/\Jl<=x
Sm a b c:=aY a bG b ac uU mZ v5 h1 E0 c Ds
So a b c:=aT (a A) d1 b bC aF ch p3 c
Sp:=vW (ER 1) A.g.N' ap
Sq a b c:=by(have hn:ko (Ry - y7)=a - b:=by exact c);rw[ck]
Sr b c e:=b/\j! c r/\(Ch.iC d? a\/ox e=false)/\qW ke p_ (i<a/\zv i)/\ke.length<=a
Ss a b c:=by obtain⟨a,b⟩:=eD v! p uI c
Sv a b c:=by simp only[xI,a,b,xH]at c
SB a b c:=sh 2 n a bQ nc b n hn ad ac A.g.uC c
SC c e f:=aT (Jk A) hr (od,b,c) hQ ad ap e bn f
SD a:=m? ["self","book","ways","text","scalar"] a ("scalar",4)
SE a b c:=by rw[m7 a b c];rw[KM h1,h2,rI V_ YD]
SF a b c:=aT (a A) hr b d2 Z bn #[pm mB s1 fD,c]
SI a b c:=(∃p q,a0=a)/\∀(i n:R),i<k->de gi i n->as ((b).all λ y=>c)
SL a b c:=by rw[EZ (CO (by exact a b c))]
SM a b c:=Gi 3 (xs:=jM a) n4 k' b kD O c
SN a b:=by have:a:=eR (b (List.length_eq_zero_iff.mp h))
SO a b c:=by obtain⟨a,hy⟩:=eD n9 l I (b - 1) Pq a_;have o7:(zL)=bD pM:=by exact zt c
SQ:=iH [35,36,23,26]
SR a b c:=by rw[ce (ah (t6 a) ax i hi b) c]
SS a b c:=a (xs:=b) n4 k c kD O nd
ST a b c:=by simp only[t2,q?,xH,a,b,c]at h1
SV a b c:=d! (b9 _ dx fs dv s2 su a C' b c)
SX a b c:=vr H1 s1 E! a (c? dP b) λ p H2 s2=>eH p e? c
SZ a b c:=by refine ah (a.2 i v hv) ax b h1 h2;exact(af u h1 c)
S0 a b c:=by obtain⟨⟨uv,us⟩,a⟩:=q;rw[cr aO zJ g_ eJ hU];dsimp only at b eJ hU⊢;subst g_;have hl:E9:=hU.1;unfold c
S4 a b c:=aY ff a b bG hq cN RA (λ hq=>c6 λ H3 s3=>good c H3)
S5 a b c:=#[λ c2 H2=>∃z',z'<a - b/\c,wq,?_]
S8:=r.key.all dT (KO==[])
S9 a b c:=a/\aj H2 b/\fa c r dn.map/\dn++vu j EU.2=vu fi (yJ fi).2/\Jl<=j
S_ a b c:=vX (P:=λ v _=>v=wz) hU g! a! zS a b c
S':=Dl n! b e
S!:=Er q8 RB s4.trans
S? a b c:=∀j,a->j<bh->∃b,pO j=bd e/\c<=e/\e<bh/\EU.2=(e - j+1)::(yJ Li).2
Ta a b c:=a (Ch.z4 u) (b u) (Js u) (Ch.vO u) (Ch.wC u) (c u) (Ch.xS u) (Ch.Ae u)
Tb a b c:=(∃p q,a)/\∀(i b:R),i<k+1->gy i e'->as v9 (c=0) (i - 1) e'
Tc a:=vN jA xN y a
Td a b c:=#[ol qm s4 a,b,show fJ<=64 by exact le_of_eq_of_le c a3]
Tf a b:=by simp only[rc,a]at b
Tg:=by(conv=>lhs;rw[<-List.dropLast_concat_getLast h0]);rw[rl];rfl
Th a:=by rw[<-a,List.not_all_eq_any_not]
Tj:=lG rr
Tk a b:=Vz (a:=b)
Tl:=by intro n hn;obtain⟨i,hi,rfl⟩:=Vh hn
Tm:=rz vv Qw t (V4 m)
Tq a:=Ff (p<b?) uI a
Tr a b c:=rD _ _ _ kl ke O a b c ?_ Rm c_ Rm gQ
Tt a b c:=KV j->pS->∃a j',pO x=bd e/\j<j'/\de L j' e/\(F j).2=(b,c)::(F j').2
Tu a b:=eD a Dk b
Tv a b:=c5 a P! b
Tx a b:=List.find?_cons_of_pos (p:=a) b
Ty a b:=List.find?_cons_of_neg (p:=a) b
Tz:=by rw[Pn,xJ]
TA:=by rw[ii hg,da (by simpa using hg)];rfl
TC:=by rw[Vk]
TD a b c:=by refine gK 2 a (P1:=pB u b) c λ u H1 s1 hu=>?_
TE:=CO h
TF:=vf rr n
TG a:=λ i=>by rw[<-a,Dz]
TH a b c:=∀{H1:Hp}{a:R}{b:DI},yK->c->∃xs,aC K H1 qk xs/\kO xs bB i=bd uF
TI:=Nat.le_of_ble_eq_true O
TK a b:=jA Q9 a b
TL a:=f5 V? a
TN a b c:=a (b c) e.s.heap.objs.size e.f e.aK
TO:=v' jV==0
TP a b c:=aY a bG hx cN nN (j1 bO (GH b ?_)) m4 KN H4 s4 (Hd hm ?_ c)
TR a:=cd P! a
TT a:=DQ (jj (ug B a))
TU:=pg (pb×R)
TV a b c:=by refine h' (a z1 (b IV ap m2 (aE ay _ t1 (.inr (j0 KX)) O)) c);rw[e];rw[vq];unfold AF U?;rw[hx]
TW a:=a×j4×aD
TY a b c:=k? a l1 wc/\k? b l2 xB/\c/\wc.length<=1+rU+el/\xB.length<=rU+el
TZ:=bO (jf (e8 x))
T0:=KQ r.to.all
T1:=gj (by simpa using hg)
T2:=y5 hb.later
T3:=jA ug y n
T4:=PH pX (r.to.getD 1 0)
T6 a b c:=Ck l a _ _ O O b c ?_ ?_
T7 a:=a×DI×v4
T8 a b c:=lN (Dg X.K (aL a iter)) (dF i) kh (jY X nH elt) (Q8 (·.2)) σ b c
T9:=if jD x=10 then 10 else 4
T_ a:=PW a yx lf
T! a:=KS JC a
T? a:=Vm a
Ua:=kP Mt.canonRows
Ub a:=as (QQ a)
Uc a b c:=.ListComp a [#[jG y ji,b,c,0]] nH ct
Ud a:=or_assoc.trans (or_congr_right a)
Uf:=jE jf
Ug:=m_ fJ
Uh:=u! b?
Ui:=if wm then 0 else -1
Uj a:=K1 a jf
Uk a b:=show a by simpa using b
Ul a b e:=by rw[cr v_ a,pp aQ bb hR];dsimp only at fq dS b e jy jO f_⊢
Um:=max 3 d.ns.length
Un:=po el - 1
Uo:=rm 7=false
Up:=t3 n
Uq:=(gw).split
Ut:=MtLine.lacks o||on
Uv a:=vN (m.getLast a)
Uw a:=Dj a E?
Ux:=t0==2
Uy:=la jc
Uz:=NT.later (vU.trans s4)
UA a:=a (DD s4)
UB:=t0=2
UC:=Ps 10
UE:=("kind":a4)
UG:=q.testBit 31
UH:=(16255:R)
UI:=b? - 1
UO:=ha.later s1
UP a:=eR #[by omega,a]
UR:=EY.trans s6
US:=jV::gi
UT:=0<db
UV a:=fn (a "kind")
UW:=Ai.y4 p hp
UY:=x.conj==2
U0:=t?&&!C9
U2:=ac Ds
U3:=Mt.flag B
U4:=ac A.g.z6
U5:=C8==2
U8:=uF==4
U_:=Dr vN
U':=o_ g
U!:=e - b - 1
M6(p:HR)(e:R):_B.mY p e=GP (JS e) (match p with|an q=>UG==vT|aH=>false) (rB e&&zw e):=by unfold _B.mY JS rB zw Mt.variable_;cases p with|aH=>dsimp only;rw[Ek xg Mt.weight1 xg Mt.weight2 b1,E6 xg Mt.weight3 vT b3];revert b0 b1 b2 b3;decide|c! q=>dsimp only;rw[Ek xg Mt.weight1 xg Mt.weight2 b1,E6 xg Mt.weight3 vT b3];generalize UG=b4;revert b0 b1 b2 b3 b4;decide
W4{B:g?}{i n:R}(h:gy i n):xC B (IO q6)=xC B (IO i)++_B.mF B n:=by rw[IP,h,_B.YU];simp[xC]
aeQ{B:g?}(F:O')(n:R):a6 (_B.dJ B n)<=18:=by unfold _B.dJ;split;(.rw[z5 (F.Ll n)]);.rename_i h;rw[<-bL (_B.map_some h) λ r h1 _ h3=>?_,im h3 (F.row 1 r bQ h1).most]
QL{B:g?}(F:O'):∀m:aD,a6 (xC B m)<=18*fJ|[]=>by simp[xC]|x::m=>by have ih:=QL F m;(have h1:a6 (_B.mF B x)<=18:=by unfold _B.mF;split;(.simp);.exact aeQ F x);unfold xC at ih⊢;rw[List.flatMap_cons,IQ,mE];exact JW h1 ih
K7{X:Cx}{H:Hp}(h:ba H u l):Ej (aC X.K H q xs) (aJ X.K H q xs) jc:=by obtain⟨a,rfl,h⟩:=h;exact #[a,_,rfl,.inl (c? h),by rw[ew]]
AF.1(B:g?)(r:Mt.Row):cs:=U? B r&&jE (w7 2)==w7 2 pX&&(jE (U3 12)==U3 12 pX&&(jE (w7 3)==w7 3 pX&&(w3).all dT (w7 2 x==(if w7 2 pX=10 then 10 else 4))))
anu(A:Y):wr (gp 5 "canonical_row_stays_cluster") y3 (as Uf/\T0/\t0<=2) jr AF r:=fv A.afI aai λ a e H hr hp U hU=>by rw[i0,cr lT λ hR fD be bJ mo hle=>?_];rw[f8,<-i9 (id fD) λ ar y hv bo ay hy cP=>?_];dsimp only at fD hv bo hy cP bJ mo hle be;subst hv hy;rw[ck,c3 yW (ja aai.nd) m0 bU];(obtain⟨x,l,hx⟩:∃x l,gi=x::l:=by cases h:gi with|nil=>rw[ku h be]|jg x l=>exact(d3 x l O));(have yI:as N!:=by rw[hx,IR,eh]at mo;exact mo.1);rw[hx]at cP;refine aY tA (aT (aBb A) hr (gI,jV,x) hQ ad Sa Lj x ap (tB O) bn #[nb,bJ,yI]) j_ hq j_ hq;(.rw[iX cN];unfold AF;rw[hx];simp only[Va];revert hq;dsimp only;first|(rw[LF Ao An z?])|(rw[GI Ao An z?]<;>simp));. (have fA:as Ao/\as An/\as z?:=by revert hq;dsimp only;first|(rw[LF Ao An z?])|(rw[GI Ao An z?]<;>simp));cases l with|nil=>rw[TV (fL (y:=false)) (dq (m:=1)) (λ h=>by cases h)];simp[fA.1,fA.2.1,fA.2.2]|jg z l'=>(obtain rfl:l'=[]:=by rw[hx]at hle;cases l' with|nil=>rfl|jg _ _=>simp at hle);(have ua:qd z:=by rw[hx]at mo;simp at mo;exact mo.2);rw[TV fL (dq (m:=2)) xi (bY (aT (auK A) d1 (gI,x,z) hQ ad k! f4 x ap cP k! f4 z ap cP bn #[nb,yI,ua]))];simp only[Va,fA.1,fA.2.1,fA.2.2,IW,ep,List.drop_succ_cons,Pl,IR,List.all_nil];rw[zl v? (pq (2:R)=1),jh];show _=((_&&_)&&(jD z==T9));generalize(jD x==0||(jD x==4||(jD x==8||jD x==10)))=q1;generalize(jD z==T9)=q2;generalize(if lm x=2\/lm x=3 then lm z==3 else if lm x=1 then lm z==1||lm z==3 else bE)=q3;first|(revert q1 q2 q3;decide)|(cases q1<;>cases q2<;>cases q3<;>rfl)
LG.1(H:Hp)(v:V)(l:aD):Prop:=∃a x y z,v=dp a/\H a=fo .tup [x,y,z]/\cT H z l
aKb(x y:cs):(!bH (bO x=bO y))=!(x==y):=by cases x<;>cases y<;>decide
aLR{X:Cx}{σ:ei}{H:Hp}{a b:dk}{ct:ej}{x y:cs}(ha:jL a x)(hb:jL b y)(hm:yR NotEq b):mc i2 NotEq [b] (!(x==y)):=Te.of (sF T' aI aI hm) λ H1 s1 Q q=>mH UO λ H2 s2=>mH T2 λ H3 s3=>(eF O _ O (by rw[aKb];exact q H3 y!))
WA(A:Y):ic "weights_hold" (RQ bi (V×V×aD) [a.1,a?] bA (LG H a? b!/\Hh b!) dC (jb (Vb aH b!))):=fv A.aHL Hx λ a e H hr hp U hU=>by obtain⟨vb,v,l⟩:=a;obtain⟨⟨ar,x0,y0,z0,hv,bo,ay,hz,cP⟩,a3⟩:=hp;dsimp only at hv bo hz cP a3;subst hv hz;rw[ck,c3 yW (ja Hx.nd) m0 bU,c3 (Sn 3 (hi:=bB jc) n4 k ((∃p q,a0=[B?,oG,GS,p,q])/\∀(i e:R),i<k->gy i e->as v9 (i=0) (i - 1) e) kD O Hx.nd q9 d2 wv jc rZ KI ay j0 e? cP cd aj9 a3 lR wn oS e h) ?_];(.intro k a0 H2 s2 hk j;(rw[Lv aU a9 a9]);(have cj:k<jc:=by exact Pm hk);obtain⟨e,he⟩:∃e,gy k e:=#[_,FZ cj];(have ge:lu[k]?=w2:=by rw[np he]);have SH:∀H3,aj H2 H3->aJ K H3 ay lu:=λ H3 s3=>j0 vI cP;rw[c3 kY (bI 4 Hx.nd) e (bU ap aF (λ H3 s3=>cA (SH H3 s3) (by rw[Vc];exact cg ge)))];have good:as v9 (k=0) iU e->∀H3:Hp,Tb ([B?,oG,GS,m5 BM,w2]=[B?,oG,GS,p,q]) e' i:=λ h H3=>#[oS,λ i e' hi pP=>by by_cases TB:i=k;(.subst TB;rw[a7 he pP pP,h]);.exact hj i e' f6 oV hi TB pP];have bad:v9 (k=0) iU e=false->(bO hA=bO (Vb aH l)):=eR (by rw[vq,Ad];intro b_;have:=(_B.IU l aH).mp b_ k e he;rw[a7 h az az]);refine rg (N1:=λ c2 H3=>Tb (c2=[B?,oG,GS,p,q]) e' i) gx oq aw1 e a! bt bt (λ c2 H4 s4 h=>c6 h);(.by_cases jZ:k=0;(.subst jZ;refine aY ru (dr (y:=bE)) (eV aF ai) NG cL (aG cN RA) NG;rw[M6,iq hx,pu]);.obtain⟨e1,he1⟩:∃e1,l[iU]?=an e1:=#[_,Lz Pq cj];(have ge1:lu[iU]?=bd e1:=by rw[np he1]);(have aR:v9 (k=0) iU e=(KD==vT):=by rw[M6,iq hx,ii jZ,he1]);have h0:v? (OZ+jF=0):=Ar aqm jZ;refine S4 (eV aF ai) (eA (aLR Lh (dl e,31) a! A.g.Ld Lh (dl e1,31) (f4 e1 ap NQ (λ H3 s3=>cA (SH H3 s3) (by rw[c5 ((BM - 1)=bD iU) aLP jZ];exact cg ge1))) A.g.Ld)) ?_;(.rw[Sb h0 bB e1 hq]);.rw[Sb h0 bB e1 hq]);. (have aR:v9 (k=0) iU e=(rB e&&zw e):=by rw[M6,da (by rw[hx];simp)]);refine S4 tA oq ah6 e a! (eA (dI (bN oq akS e a!))) ?_;(.rw[aR];rw[zp hq (rB e) (zw e)]);.rw[aR];rw[zp hq (rB e) (zw e)]);.intro a0 H2 s2 j;(rw[na (λ bu hj=>gB bu ax p q bW) bW]);rw[iX cN];rw[Pn];refine(_B.IU l aH).mpr λ i e he=>hj i e ?_ he;have:=gD he;rw[d6 Pm]
NW.1:(pH V)|em z=>yB z|_=>false
oP(n:R):yB hK=yz:=by rw[EA VL Pr];constructor;(.exact eR h.2);.exact eR #[iK tD,h]
ajK(r:q!)(n:R):(K1 lB Hn k kC st NW).map id=jM Uj lB Hn i Ip i:=by rw[Vd,Pv,Pv,hE];(have e:(NW∘λ(k:R)=>kC st)=(jf∘λ i=>Ip i):=by funext k;show yB st=jf BL;rw[<-oP];congr 1);rw[e];rw[LU k];show e5 st=kC bD BL;congr 1
qy.1(r:q!):Prop:=ey<=mK/\mK<1114112
NB(A:Y):cB "scalars_of" (RQ bi (V×R×q!) [a.1] bA (mQ H dM dd/\qy b!) fl lr (Mt.inside b!)):=k8 A.ayg MO dt b1 bf λ a f aK A' cx s H0 H E hr hp U hU=>by obtain⟨v,num,r⟩:=a;rw[cr bX λ aS hle iY=>lv ar hv bo];rw[Mx hv bo iY];have ee:m? ["record","scalar"] GZ ("scalar",1):=jI (mV [match cq GZ with|.Return an e p::_=>.Assign [] e p|_=>.Pass #[0,0,0,0]]);rw[Sq OM ey Kt,<-m1 (L7 (aeB 1) (f:=id) (t:=NW) O MO.nd ee q9 bC k! f4 ey ad bo kc k! f4 mK ad bo NN bf (by rw[hn];rw[n5 c5 Og UK iY]) (λ s' dG C cl fp k hk=>gx oq sW st Z) (λ s' dG C cl fp k hk ht=>Z) m3 r3 MO.nd) h! bx bx ?_];rw[h,ajK,hn];rfl
aDS(A:Y):Ax (ic "combining_extends") BI kB hY n (rW==4&&lm n !=2):=fv A.avF Wh λ a e H hr hp U hU=>by rw[i0,pG hR fD aR,f8];dsimp only at fD aR;rw[LB n n hn,<-Gi 2 (xs:=jM hY) n4 k ((∃p,a0=[sL,an v,p])/\∀(i n:R),i<k->hY[i]?=an n->as (rW==4&&lm n !=2)) kD O Wh.nd SF NB (v,num,r) aR qO cy vd cy a d' h lR wn zd n h ?_ ?_];(.intro k x a0 H2 s2 hk j;(rw[na (λ aU hj=>cG aU cR p a9) a9]);(rw[nl n bu bu]);have hs:=nc BX n hn;have eP:=fP s2;refine aY ff nA (sh 2 n eP bQ hs ad ac A.g.uC ap) A.g.G4 (eA (eV (sh 3 n eP bQ hs ad ac A.g.um ap) ac IY)) bt bt;(.rw[iX cN,Ad];intro b_;have h1:=m' b_ n Ml;simp only[eh,gk,bne_iff_ne,ne_eq]at h1;simp only[t2,dV,q?,xH]at hx;exact aEI h1 hx);.refine KN H3 s3 (λ i m hi hm=>?_);by_cases e:i=k;(.subst e;rw[a7 hn hm hm,Sv rc dV hx];simp only[eh,gk,bne_iff_ne,ne_eq];exact aKR hx);.exact hj i m Nv hm);.intro a0 H2 s2 j;(rw[na (λ bW hj=>cG bW cR p cJ) cJ]);rw[iX cN,Tz,Tl,hj i _ (by rw[ew,hi]) FZ hi]
GD(g:tl)(l:aD):(lu).map MT=gu U' bO:=by rw[hE,hE];rw[LU n];show bO (g (e8 (vN n)))=bO (g n);rw[gW]
HJ(h:jc<=1000):yX a6 lu:=by rw[ew,n5 h]
afr{r:q!}(h:qy r):yX a6 hY:=by have h1:a6 hY<=a6 lB HN i Ip i:=Vi _ _;rw[jd,List.length_range]at h1;obtain⟨h2,h3⟩:=h;rw[n5 (show Og by exact aqv h1 h3)]
aLG(A:Y):ic "canonical_row_without_hangul" (jt mG y3 M! y3 kB US c Nm):=pT A.aEP Mn λ a f aK A' cx s H0 H E hr hp U hU=>by rw[i0,cr dm λ hR aS _ a3=>i9 aS λ ar y hv bo ay hy cP=>?_];dsimp only at hR hv bo hy cP a3;subst hv hy;rw[ck,<-h' (cp (iL vo yn bB jV d2 Sa) qZ tG eK mt xR (Px tp n HV) CV eT K2 (zj 2 (f:=dT (bO (lJ mx xr))) O Mn.nd K9 Nz zE) (λ s' dG C cl fp k x hk=>by(rw[nl n aU aU]);exact(vo yn hK d2 ap).imp rv v _ B0 gW) Mn.nd h! bx bx (c? (by rw[im h Gv z qF HV gi])))];rw[e,Ak,Py];rw[vq];rw[IR,xK];congr 1;rw[TC];congr 1;funext n;show(!HV)=_;rw[Ak,Py]
am4(A:Y):wr (cB "scripts_are_named") rH (namesOk d/\M!) Nt bH (x<FX):=pT A.aCa MV λ a f aK A' cx s H0 H E hr hp U hU=>by rw[i0,cr gJ λ hR a9 _ Dy a3=>i9 a9 λ ar y hv bo ay hy cP=>?_];rw[f8,Mv bo a3 Dy,ck,<-h' eK mt wb (Px tp n bH (n<FX)) xL eT K2 (zj 2 (f:=dT (bO (IX (xr<FX)))) O MV.nd y? ["book","record","script"] PD ("script",2) zE) (λ s' dG C cl fp k x hk=>by(rw[nl n bu bu]);refine iQ (gE cM ap (aT (Ur A) hr (b,d,kk) d2 ad bn #[nb,Dy])) nU;rw[e,gW];refine j1 bO (Pz ?_);show(lq<bD Um)↔n<Um;exact Int.ofNat_lt) MV.nd h! cy cy (c? (by rw[im h Gv z qF bH (n<FX) gi]))];rw[e,CX];rfl
atp(A:Y):Ax (ic "pictures_hold") BI (!M?||kB hY n Gh):=pT A.agU ML λ a f aK A' cx s H0 H E hr hp U hU=>by rw[i0,pG hR fD aR,f8,<-ah (id fD) ax ar hv bo,MH fD aR bo,LB n n hn,<-gf tA Lh (dl o!,12) K_ A.g.z6 hx m4 h' eK mt wb gu hY tp n Gh xL eT (pU 2 (f:=dT (bO (jD (e8 x)==0))) O ML.nd K9 NP SF NB (eu ar,num,r) aR qO dB vd dB a d' h bf (by rw[ew,afr aR]) (λ s' dG C cl fp k x hk=>by(rw[nl n bW bW]);refine iQ (dW SB aQ BX ap ac A.g.PY) nU;rw[e,gW];rw[vq,zY,Mo]) m3 r3 ML.nd) h! eG eG (c? (by rw[im h Gv z qF Gh hY]))];(.rw[show iJ bB o! 12=M? from E2 12]at hx;rw[hx];rfl);.rw[show iJ bB o! 12=M? from E2 12]at hx;rw[e,hx,CX];rfl
O7(g:tl)(l:aD):an (CW ((lu).map MT))=an (CW ((U').map bO)):=Gv z g l
aae.2(C:a5)(pre:bR->my t5)(g:bR->pH t5):RP:=RQ bi (BK×V×R×t5) [f?,a?] bA (ed C dM H/\k_ H a? b!/\pre fe bm) dC (jb (g fe bm))
aKL(A:Y):jK "contraction_holds" (aae mG (λ d s=>s.key≠[]/\KQ s.key.all/\s.key.length<=1000) (λ d s=>(s.key.all dT (KO==[]))&&(jr Mt.sorted s.key&&v' (s.key.headD 0)==0))):=pT A.agY HH λ a f aK A' cx s H0 H E hr hp U hU=>by rw[i0,cr gJ λ hR aS be bJ a3=>hX aS λ ar y z hv bo aU tz=>ah aU ax ay hy cP];rw[f8];dsimp only at hv bo hy cP a3 be bJ;subst hv hy;(obtain⟨x,l,hk⟩:∃x l,o?=x::l:=by cases e:o? with|nil=>rw[ku e be]|jg x l=>exact(d3 x l O));rw[n? hx as N! m' bJ x (by rw[fI hk List.mem_cons_self]),c3 yW (ja HH.nd) m0 bU,<-gf (bN (mt xR (r.key.map tp n (!AB)) O CV eT K2 R3 HH.nd ["book","record","key","scalar"] Jp (λ s' dG C cl fp k x hk=>by(rw[nl n a9 a9]);refine iQ (gE gF (dq (m:=a6 Kc) IV (oa wj d1 (gI,n) ad jz CY d2 aF O bn nb) qO h (D2 h.now)) ai) rv u _ ?_;rw[e,gW];exact j1 bO (J7 _)) HH.nd h! bx bx (c? (by rw[h];exact O7 qF (!AB) o?)))) hq λ hq=>h' (cp (oa Wo hr ((b,d),dp ay,o?) ad jz CY d2 ap O bn (fH Nb (.inr eH ay KX) bJ a3)) qZ (bY (dW LN x hx Lj x ap (by rw[hk];exact tB O) ai)))];(.rw[xK]at hq;(have:S8=false:=by rw[Th q?,hq]);rw[qA]);.rw[xK]at hq;(have:as S8:=by rw[Th rc,hq]);rw[F? e az hk,Aq,zY];show bD (qa x)=0↔qa x=0;rw[Mo]
avV(A:Y):wr (jK "canonical_steps_end") rH M! (jA Mt.ends Mt.STEPS jV&&((w3).all dT (KO==[]))):=pT A.ap0 GU λ a f aK A' cx s H0 H E hr hp U hU=>by rw[i0,cr dm λ hR bu be a3=>i9 bu λ ar y hv bo ay hy cP=>?_];rw[f8,Mv bo a3 be];(have hsz:Hh w3:=by rw[L8 aIK a3]);rw[ck,TD GU.nd (cT H u w3) (RR (i:=1) zE ai m2 (i5 ay Ob t1 (j0 dP cP) ?_ (λ p H2 s2=>eH p e? ?_)))];((.rw[Fc (1:bF) iA (1:R),_H.xt,jd];rw[SN (t0≠0) be,d6 aE3]);.rw[aX,show(1:bF)=iA (1:R)from rfl,Vl (by rw[ew,SN (t0≠0) be,d6 avf]),I2]);. (rw[ce (ah j2 ax au bW wL) bW]);have fj:=fP s1;refine h' (cp (aT (aEe A) hr (gI,jV) bC ad (f4 jV Z ai d! cA (j0 lj bo) O) d! (fj.later s2)) qZ tG eK mt xR gu w3 tp n (!AB) CV eT (R3 GU.nd ["book","record","behind","scalar"] O1 Ka au wL bf (HJ hsz) (λ s' dG C cl fp k x hk=>by(rw[nl n cJ cJ]);refine iQ (gE gF (dq (m:=a6 Kc) IV (oa wj d1 (gI,n) ad jz fj.cw d2 aF O bn (fj.later s1)) qO h (D2 h.now)) ai) rv u _ ?_;rw[e,gW];exact j1 bO (J7 _)) m3 r3 GU.nd) h! cy cy (c? (by rw[h];exact O7 qF (!AB) w3)));rw[e,xK];rw[Aq,TC];congr 1;funext n;rw[lU (!!AB) PB]
FK(h:LP n (i<a6 lu) (g n)):as (l.all g):=by rw[xJ];rw[Tl,h i _ (by rw[ew,hi]) FZ hi]
GH{k n:R}(hn:gy k n)(h:g n=false):false=l.all g:=by rw[Ad];intro b_;rw[m' b_ n Ml]at h;cases h
Hd{k n:R}(hn:gy k n)(h:as (g n))(hj:LP n (i<k) (g n)):LP n (i<k+1) (g n):=by intro i m hi hm;by_cases e:i=k;(.subst e;rw[a7 hn hm hm,h]);.exact hj i m Nv hm
aq4(A:Y):wr (jK "prototype_stays") rH (∀x∈gi,(wy A4)) Nt kB A4 y (pA 9 y==[]&&!A3 y):=fv A.aB0 Pp λ a e H hr hp U hU=>by rw[i0,cr dm λ hR aS be bJ=>i9 aS λ ar y hv bo ay hy cP=>?_];rw[f8,Mv bo bJ be,ck,<-PU 2 (xs:=Ob) n4 k SI [sL,oG,p,q] zh (pA 9 y==[]&&!A3 y) kD O Pp.nd zE Ku lR wn oS n h ?_ ?_];(.intro k x a0 H2 s2 hk j;(rw[Lv aU a9 a9]);(rw[nl n bu bu]);have eP:=fP s2;refine SM zh ((∃q,a0=[sL,oG,jP,q])/\∀(i y:R),i<k'->zh[i]?=an y->as (pA 9 y==[]&&!A3 y)) Pp.nd R0 NI eP.cw (CZ s1) qO bx vd bx a d' h lR wn zd n h ?_ ?_;(.intro k' x a0 H3 s3 cj j';(rw[ce (bq I3 λ bW jq=>cG bW cR q' cJ) cJ]);(rw[ce (ah (eM cj) ax m hm dw) dw]);have kn:=CZ s3;have kG:qd m:=m' nc bJ n hn m (CT hm);refine TP ff RJ (gI,9,m) A.g.VD (9:R) (eA (bN (oa zO d1 ((b,d),11,m) ad jz kn.cw bC ac A.g.aaD aF O bn #[(kn.later s1).parts,kG]))) hn jq;(.rw[<-(GH hm ?_).symm,zp hx (pA 9 m==[]) (A3 m)]);.rw[zp hx (pA 9 m==[]) (A3 m)]);.intro a0 H3 s3 j';(rw[ce (bq I3 λ d7 jq=>cG d7 cR q' fM) fM]);exact c6 λ H4 s4=>#[oS,Hd hn (FK jq) hj]);.intro a0 H2 s2 j;(rw[na (λ iS hj=>gB iS ax p q jC) jC]);exact aG cN D! bO (FK hj)
aum(A:Y):wr (jK "folded_stays") (λ d r=>True) Nt (vJ x==[]&&kB A4 y Go):=fv A.agG Mb λ a e H hr hp U hU=>by rw[i0,cr dm λ hR aS be _=>i9 aS λ ar y hv bo ay hy cP=>?_];rw[f8];dsimp only at hv bo hy cP be;subst hv hy;rw[n? hg (∀x,(vJ x==[]&&kB A4 y Go)=kB (x::A4) y Go) dT (by rw[IR])];simp only[hg];refine PU 2 (xs:=Ob) n4 k SI [sL,oG,p,q] M4 Go kD O Mb.nd zE Ku lR wn oS n h ?_ ?_;(.intro k x a0 H2 s2 hk j;(rw[Lv aU a9 a9]);(rw[nl n bu bu]);have eP:=fP s2;have a3:=aQ.dc.xo 8 n;(refine SM M4 ((∃q,a0=[sL,oG,jP,q])/\∀(i y:R),i<k'->M4[i]?=an y->as (vJ y==[])) Mb.nd (DP (xs:=[vN n]) (ys:=jM zh) (oj (ae ap ao)) R0 NI eP.cw (CZ s1) ?_) qO bx vd bx a d' h lR wn zd n h ?_ ?_;.rw[ew,z5 (Nat.add_le_add_left a3 1)]);(.intro k' x a0 H3 s3 cj j';(rw[ce (bq I3 λ bW jq=>cG bW cR q' cJ) cJ]);(rw[ce (ah (eM cj) ax m hm dw) dw]);have kn:=CZ s3;refine TP RJ (gI,5,m) A.g.Cq (5:R) hn jq;(.refine(GH hm ?_).symm;revert hx;cases(vJ m==[])<;>simp);.revert hx;cases(vJ m==[])<;>simp);.intro a0 H3 s3 j';(rw[ce (bq I3 λ d7 jq=>cG d7 cR q' fM) fM]);exact c6 λ H4 s4=>#[oS,Hd hn (FK jq) hj]);.intro a0 H2 s2 j;(rw[na (λ iS hj=>gB iS ax p q jC) jC]);exact aG cN D! bO (FK hj)
apv(A:Y):Ax (cB "brackets_have_partners") BI kB hY n (pA 8 n !=[]):=fv A.agc Sw λ a e H hr hp U hU=>by rw[i0,cr dm λ hR ml hle iY=>ah ml ax ar hv bo];rw[f8,Mx hv bo iY,Sq OM ey Kt,c3 (L7 (Pk 2) n4 k ((∃p,a0=[sL,oG,p])/\∀i,i<k->qd BS->as (pA 8 BS !=[])) kD O Sw.nd q9 bC Fh kc K? NN lR #[zd,λ i h=>by exact(nI h).elim]) ?_];(.intro k a0 H2 s2 hk j;(rw[na (λ kK hj=>cG kK cR p jx) jx]);rw[hn]at hk;have eP:=fP s2;(have ek:y7+jF=bD BL:=by exact IK);rw[ek];refine gf ds gx oq sW bD BL ap (c4 (dI (bN (oa uO hr (gI,8,ey+k) ad jz eP.cw bC ac A.g.Mw ap O bn #[CZ s1,r? ((8:R)<15)])))) hx m4 KN H3 s3 ax i hi hs;(.rw[oP]at hx;simp only[eh,PB]at hx;rw[Ad];intro b_;have h1:=m' b_ BL T? #[Na BU k (List.mem_range.mpr hk),hx.1];rw[bne,ir]at h1;cases h1);.by_cases e:i=k;(.subst e;rw[oP,hs,ep,PB]at hx;rw[bne,hx];rfl);.exact hj i Nv hs);.intro a0 H2 s2 j;(rw[na (λ kd hj=>cG kd cR p kj) kj]);rw[hn]at hj;rw[iX cN,Tz];intro n hn;obtain⟨h1,h2⟩:=Ve hn;(rw[SR h1 lZ lZ]);exact hj i (List.mem_range.mp hi) h2
Jz.1(g:pH bF):V->V|em z=>jb (g z)|_=>.bl hA
S7(g:pH bF)(lo:bF)(n:R):fo CW (h? lB Hn k kC (lo+vl) (Jz g))=an (CW ((lB Hn k (g (lo+vl))).map bO)):=by rw[MB hE]
anB(r:q!)(g:tl)(h:∀n,yz=false->as (g n)):(hY).all g=kB HN i (g BS):=by show(Uj lB HN i Ip i).all g=_;rw[EA xJ xJ];constructor;(.intro ha i hi;cases hs:jf BS with|false=>exact h _ hs|bE=>exact ha _ T? #[Na BU i hi,hs]);.intro ha n hn;(rw[SR Rr.1 aS aS]);exact ha i hi
aBE(n:R)(h:yz=false):as (!Up&&!t4 n):=by(have h1:¬EJ:=by rw[h];simp);rw[_B.oZ]at h1;unfold t3 t4;simp only[eh,q?,xI,PE,xH];exact aAv h1
aHl(A:Y):ic "range_without_hangul" (pI mG BI y3 kB hY c Nm):=pT A.ave J9 λ a f aK A' cx s H0 H E hr hp U hU=>by rw[i0,cr dm λ hR aU hle iY=>ah aU ax ar hv bo];rw[Mx hv bo iY];(have hn:ko (Ry - y7)=OM - ey:=by exact Kt);rw[ck,<-h' (iL (mt xR (gu HN λ k=>lJ st) O CV eT (L7 (aje 2) (f:=Jz lJ) O J9.nd K9 Mu q9 bC Fh kc K? NN bf (by rw[hn];rw[n5 c5 Og UK iY]) (λ s' dG C cl fp k hk=>oq yn st ap) m3 r3 J9.nd) h! bx bx (c? (by rw[h,hn];exact S7 lJ _ _))))];rw[e,anB r _ aBE,xK,Vk];rw[Aq];funext i;show(!lJ (dl ey+Is))=_;rw[qv ((dl ey+Is)=bD BS) IK,Ak,Py]
ahj(A:Y):Ax (ic "digits_stand_in_tens") rH (qy r/\kP _B.di/\r∈d.book.props.getD 11 []) (ey==mK&&kB UC i (kS 11 (ey+1 - o!+i)==i+1&&bH (o!<=ey+1))):=pT A.akC Hg λ a f aK A' cx s H0 H E hr hp U hU=>by rw[i0,cr gJ λ hR a9 bu hF fw=>ah a9 λ ar hv bo=>bq bu cR hle iY];rw[f8];dsimp only at hv bo hle iY hF fw;subst hv;rw[ck];rw[_B.atm hF fw];rw[c3 dY (ja Hg.nd) em Nx kc (aW cW Fh K_),<-gf (fZ Fh K?) hx m4 h' eK mt wb gu UC tp k bH (mb (kP _B.valAt 11 (Nx+BM))=BM+1) xL eT (ait 3 (hi:=10) (f:=Jz λ z=>bH (mb (kP _B.valAt 11 (Nx+z))=z+1)) O Hg.nd y? ["book","record","nought","digit"] KJ ("digit",3) q9 d2 ai iK apY bf bQ (λ s' dG C cl fp k hk=>dW (oa Bi hr ((b,d),11,y7 - o!+1+BM) ad jz CY bC ac A.g.Us (aW bV ap aF) O bn #[Nb,r? ((11:R)<14)]) kc aF) m3 r3 Hg.nd) h! cy cy (c? (by rw[im h (S7 _ 0 10)]))];(. (have:(ey==mK)=false:=by rw[Vn];intro h;rw[h]at hx;simp at hx);rw[qA]);. (have:as (ey==mK):=by rw[gk];rw[Tf dV hx,Dv hx]);rw[F? e az CX,Aq];funext k;show nD _ bH _;rw[Vc]
ow.1(r:q!):g':=if Ow then[xv 0]else[xv 4,gc 5]
aoO(r:q!):as ((Pd).all il):=by unfold ow;rw[w1]
ajk(r:q!)(n:R):gO f3 hK (ow r)=(if Ow then n==0 else n==4||n==5):=by unfold ow;split;(.rw[ww];show as F5↔_;simp;exact ayY);.rw[ww];show as (vK||F5)↔_;simp;exact ayJ
aJW(A:Y):Ax (ic "conjuncts_hold") BI kB hY n (if Ow then Gh else rW==4||rW==5):=pT A.aAn DY λ a f aK A' cx s H0 H E hr hp U hU=>by rw[i0,pG hR fD aR,f8,<-ah (id fD) ax ar hv bo,MH fD aR bo,LB n n hn,TD DY.nd (∃a,u=dp a/\H a=an (.tup (ow r))) (Fi (eV K_ ac IY) m4 iQ (iT (ae ac A.g.PY ao)) h! bx bx ?_ m4 iQ (iT cm A.g.G4 A.g.aiH) h! cy cy ?_)];((.rw[nq hx];rw[h,ow,l0 Bc az]);.rw[L? hx];rw[h,ow,l8 acD az]);. (rw[ce (ah j2 ax au aS wL) aS]);have fj:=fP s1;refine h' eK mt wb gu hY tp n (gO f3 mx rW (ow r)) xL eT (pU 3 (f:=dT (bO (gO f3 mx (jD (e8 x)) Pd))) O DY.nd y? ["book","record","wanted","scalar"] N7 ("scalar",3) (aT (NB A) hr (eu ar,num,r) d2 Z d! #[pm mB HK fD,aR]) qO dB vd dB a d' h bf (by rw[ew,afr aR]) (λ s' dG C cl fp k x hk=>by(rw[nl n aU aU]);refine iQ (aj1 (vs:=Pd) SB fj BX aF ap rZ (af au t1 (j0 e? wL)) (aoO r)) nU;rw[e,gW]) m3 r3 DY.nd) h! eG eG (c? (by rw[h];exact O7 qF (gO f3 mx rW (ow r)) hY));rw[e,CX];rw[Aq];funext n;exact ajk r _
wG(l:aD):(Rg).map kV=lu:=by rw[Ba t' hE]
afG{a b:R}(h1:as (!t3 a&&!t4 a))(h2:as (!t3 b&&!t4 b)):ga (PH a b):=by unfold PH;simp only[eh,q?]at h1 h2;have hj:=tP;unfold t4 at hj;simp only[xI,PE,xH]at hj;rw[l8 aKs hj,da (by rw[h1.1];simp)]
aGG(A:Y):wr (jK "composes_alone") rH (as Uf/\T0/\r∈Ua/\as ((US).all λ c=>Nm)) (jE GF||(Ux&&(TO&&(v' pX==0&&(w? ((Ua).CR λ q=>q.to==gi&&!GF q.scalar)==1&&T4==aH))))):=fv A.afT MM λ a e H hr hp U hU=>by rw[i0,cr v_ λ hR aS be hs b_ fw gL=>i9 aS λ ar y hv bo ay hy cP=>?_];rw[f8];dsimp only at hv bo hy cP be hs b_ fw gL;subst hv hy;rw[<-xf aQ.ex λ dx fs mr sr co aq hb _ _ _ Np _ _ _ _ h_ Bt=>?_,ck,c3 kY (ja MM.nd) jV m0 bU,c3 yW (bI 3 MM.nd) m0 bU,<-gf gx (oa zO d1 ((b,d),15,jV) ad jz CY bC ac A.g.Vg ap O bn #[Nb,hs]) hx bt];(.rw[show(as jE GF)from hx,Bool.true_or]);.have j3:jE GF=false:=hx;rw[AT j3];have i6:0<NK sO:=List.length_pos_of_mem (Vm #[fw,by rw[j3];simp]);by_cases h2:UB;(. (obtain⟨x,z,k6⟩:∃x z,gi=[x,z]:=by match gi,h2 with|[x,z],_=>exact(d3 x z O));have yI:as N!:=m' b_ x (by rw[k6];simp);have nx:=m' gL x (by rw[k6];simp);have nz:=m' gL z (by rw[k6];simp);(refine gf ff (fZ RU ai) (dr (fZ LN jV hs ap ai) cL (eA (fZ LN x yI Lj x aF (by rw[k6];exact tB O) ai))) hq λ hq=>h' (dW (i:=mx NK sO) (vX (jX hr) (cQ ad Rx hb A.bj.RF Np) aF (λ u y H1 s1 e1 e2=>(aE co (vN (sO eo gi)) e1.now ?_ fh))) ai);(.rw[k6];show false=(bE&&((jE qa==0)&&((qa x==0)&&_)));rw[k6]at hq;by_cases h3:jE qa=0;(.by_cases h4:qa x=0;(.rw[h3,h4]at hq;simp at hq);.rw[Mh h4,rd,C1,C1]);.rw[Mh h3,rd,C1]);.have oO:=e2.now;subst oO;rw[<-Bt gi i6];exact dU.t dP h_ (by rw[im wG KX]));.rw[e];rw[vq];((have i7:jE qa=0/\qa x=0:=by simp only[xI,rc,dV]at hq;exact aHK hq);have f7:as Ux:=by rw[h2];rfl);(have hj:ga T4:=by rw[k6];exact afG nx nz);rw[hj,f7,ep,show(as TO)from by rw[show v' jV=0 from i7.1];rfl,show(as (v' pX==0))from by rw[k6,show v' ([x,z].headD 0)=0 from i7.2];rfl,ep,ep];show nD _ ((NK sO==1)&&bE);rw[IW,q_,dV,gk];exact ak9);.refine gf ru (dr (y:=bE)) (fZ RU ai) j_ h hq NG;(.rw[Tf dV h,ku c5 UB Bc h h2]);.rw[Mh h2,rd]
GX{m:aD}(h:t' l=t' m):l=m:=by have h1:=rs (List.map λ k:Key=>match k with|.inl z=>C5|.inr _=>0) h;unfold t' at h1;rw[hE,hE]at h1;simpa[Function.comp_def]using h1
arT(d:bR){k:R}(h:k<3):d.book.seqs[k]?=tj PJ k []:=by(have e:d.book.seqs.length=3:=by show a6 (Mt.byKind Mt.SEQS d.ss)=3;unfold Mt.byKind;simp[Mt.SEQS]);rw[SL RZ h e]
awv{H:Hp}{aq:fS (Ih×V)}{rows:fS t5}(h:Paired (λ(kv:Ih×V)(r:t5)=>kv.1=t' o?/\cT H kv.2 gi) aq rows)(l:aD):match rows.find? λ r=>B' l with|an r=>∃v,Hq aq l=an v/\cT H v gi|aH=>ga Hq aq l:=by induction h with|nil=>rfl|@jg kv r aq rows q t ih=>unfold b8 at ih⊢;by_cases e:o?=l;(. ((have e1:as (o?==l):=by simpa using e);have e2:as GA:=by rw[q.1,e];simp);rw[Tx (λ(r:t5)=>B' l) e1,Tx (λ(kv:Ih×V)=>GA) e2];exact eH kv.2 q.2);. ((have e1:¬(as (o?==l)):=by simpa using e);have e2:¬(as GA):=by rw[F7 q.1,eR (e (GX h))]);rw[Ty (λ(r:t5)=>B' l) e1,Ty (λ(kv:Ih×V)=>GA) e2];exact ih
mL.1(B:g?)(k:R)(l:aD):bF:=match C7 B k l with|an t=>mx (t.headD 0)|aH=> -1
aen(A:Y):D7 fb P K 1 mG "number_of" (RQ bi (BK×A7) [f?,iO,br] bA (qf/\a?<3/\cT H br bm) fl (v=em (mL By a? bm))):=iD A.bj.apq aA6 dt b3 bf λ a e H hr hp U hU=>by obtain⟨⟨b,d,kk⟩,k,v,l⟩:=a;rw[cr iV λ hR hk av hv gm=>?_];rw[MH hR hk gm];obtain⟨dx,fs,mr,sr,co,aq,hb,_,Gb,_,_,_,_,_,⟨am,xs,rfl,tR,A8⟩,_⟩:=hR.ex;(rw[ce (v7 (pf A8 (arT d hk)) λ vk lE ak xq aU pd tW=>?_) aU]);have hl:=awv tW l;rw[n? tf sR (dU H1 ak eu av Hq xq l) (λ H1 s1=>dU.t dP pd (by rw[im wG dP gm]))];(refine aY (aaQ (z:=o4 Hq xq l) (jX hr) ap RY cO ak tR (λ u y H1 s1 e1 e2=>?_)) bt (λ hx=>dY aG em (-1) ?_ eb);.have wH:=e1.now;have oO:=e2.now;subst wH oO;rw[wS ak (tf H1 s1) O]);((.unfold mL C7;cases hf:(PJ k []).find? (λ r=>B' l)with|c! r=>rw[hf]at hl;obtain⟨v,hv,at',rfl,ht⟩:=hl;have i6:=(hR.dc.seq k r hk (List.mem_of_find?_eq_some hf)).ct;(obtain⟨x,m,k6⟩:∃x m,gi=x::m:=by cases e:gi with|nil=>rw[e]at i6;rw[ku i6 r7]|jg x m=>exact(d3 x m O));refine dY aG em la x (bU (vX (P:=λ v _=>v=dp at') (jX hr) RY cO ak tR ap (λ u y H1 s1 e1 e2=>?_)) ai bn mU j0 ht (by rw[k6];exact tB O)) eb;(.have wH:=e1.now;have oO:=e2.now;subst wH oO;rw[wS ak (by rw[<-hv];exact tf H1 s1) fh]);.show e5 la x=kC bD pX;rw[k6];rfl|aH=>rw[hf]at hl;rw[a7 hl hx hx]);.exact oB (i:=1) ai);.unfold mL C7;cases hf:(PJ k []).find? (λ r=>B' l)with|c! r=>rw[hf]at hl;rw[<-ah hl λ v hv _=>?_,a7 hv hx hx]|aH=>rfl
ka.1(C:a5)(H:Hp)(a:a5)(y:j4):Prop:=∃dx fs,l! H a C/\gM ("strict":a4) (C8==0)/\gM ("loose":a4) U5/\gM ("break_all":a4) C9/\gM ("keep_all":a4) y.keep/\gM ("by_words":a4) t?/\gM ("eastern":a4) y.east/\jS ("tab":a4) bd ub/\gM ("splits":a4) C_
PM{H:Hp}{a:a5}{y:j4}(h:ka C H a y)(s:tF):ka C H' a y:=by refine df h λ dx fs h1 h2=>?_;exact(cF dx fs Ii h2)
azo(A:Y):jK "scalar_width" (RQ bi (BK×E_×R) [f?,dp ls,EQ] bA (qf/\AD/\qd b!) dC (vN (xN By eQ b!))):=ng A.aih aer λ a e H hr hp U hU=>by rw[LL y n a];obtain⟨dx,fs,hw,_,_,_,_,_,u_,_⟩:=hW;dsimp only at hw u_ hs;(have hg:gO f3 mx lf [xv 6,gc 8,gc 26,gc 27]=ps lf [6,8,26,27]:=by rw[ww];show as (vK||(vK||(vK||F5)))↔_;simp[xO];exact am1);(have TM:gO f3 mx yN [xv 3,gc 4]=ps yN [3,4]:=by rw[ww];show as (vK||F5)↔_;simp[xO];exact aze);rw[Aj xN,<-aY ff (uH Sp dz A.g.MN A.g.ME cm A.g.CC A.g.CF) (eA (bN (BJ A hr 11 n aQ hs ad ac A.g.aaD ap))) bG hx ai eb bt];(.rw[hg,t2]at hx;rw[wP hx]);.rw[hg,xI]at hx;rw[da (by rw[hx.1,ir];simp)];rw[c3 dY (bI 3 aer.nd) (vN (kS 7 n)) vW (ER 7) A.g.TQ ap,<-aY ff (uH aF cm A.g.U1 A.g.YR) (eA (CQ (cE Hw A.g.arU cL o2 (cQ Z Fr hw PN u_)))) bG hq ai eb v5 hq ai];(.rw[TM,t2,eh,dV]at hq;rw[gj (hq.imp id UP h.2)];rfl);.rw[TM]at hq;rw[da];(.rfl);.intro h;(have:as (ps yN [3,4]||(bH (mb yN=1)&&y.east)):=by rw[t2,eh,dV];exact h.imp id UP h.2);rw[a7 az hq hq]
G5.2(C:a5)(g:bR->Cn):RP:=RQ bi (BK×R) [f?,Cl] bA (ed C dM H/\qd dd) dC (g fe dd)
LK(n:R):o4 BC=HV:=by rw[Ak];rw[Kp t4];by_cases h:(as Up);(.rw[w!,h];rfl);.rw[da h,Bool.eq_false_iff.mpr h,jh];rw[ww];simp only[t2,eh,dV];split;(.simp;rw[MK ajS]);.split;(.simp;rw[MK az9]);.split;(.simp;rw[MK ajy]);.simp;exact aFM N2 N2 N2
amt(A:Y):Hz (ic "conjunct_class") n (vN (Mt.info eo Vr w9 n).conj):=fv A.aHG aG7 λ a e H hr hp U hU=>by rw[Fg b n a,G8,ck,<-h' (kf v6 yn (λ _=>ai) cL vW (sh 3) A.g.um Z)];rw[e];show _=kC bD (if(as o4 BC)then 0 else lm n);rw[LK];rw[w1]
aJJ(A:Y):Hz (jK "is_pictographic") n (.bl (Mt.info eo Vr w9 n).pict):=fv A.azk aIQ λ a e H hr hp U hU=>by rw[Fg b n a,G8,ck,<-h' cc (iL vo yn hK d2 Z) (bY (BJ A hr 12 n aQ hs ad U4 Z))];rw[e,<-LK];show _=bO ((BC).isNone&&yF n);rw[Option.not_isSome]
aFy(A:Y):Hz (ic "cluster_class") n (vN Ga w9 n):=fv A.ama ayT λ a e H hr hp U hU=>by rw[Fg b n a,G8];(have AN:∀x,PP n=an x->e5 la x=vN Ga w9 n:=λ x h=>by unfold PT;rw[h]);have ahE:ga BC->vN (jD n)=vN Ga w9 n:=eR (by rw[Ba PT h]);rw[ck];(refine aY v6 QH bG h1 ac A.g.L r5 (AN 9) io;.rw[Fl Hm h1];rw[da (by rw[Ah,aMo h1]),l0 azm h1]);(refine aY v6 Rk bG h2 ac A.g.V r5 (AN 10) BV;.rw[Fl DJ h2];rw[da (by rw[Ah,ap1 h2]),l8 alO h2,l0 aIj h2]);(refine aY v6 RH bG h3 ac A.g.T r5 (AN 11) OT;.rw[Fl ED h3];rw[da (by rw[Ah,ah7 h3]),l8 aur h3,l8 ai1 h3,l0 aqd h3]);(refine aY v6 awc bG h4 ac A.g.LV r5 (AN 12) j_ h4;.simp only[Pc,t_,eh,dV]at h4;rw[Kp t3];rw[gj (by rw[Ah,ayV h4]),l0 akY h4]);refine aY v6 Ic bG h5 ac A.g.LA r5 (AN 13) bG h5 vW (sh 2) A.g.uC Z r5 ahE;(.rw[Pc,h5,ep]at h4;rw[p0 rX h4,Fl t_ h5];rw[gj (by rw[Ah,azH h5]),da (by exact aMt h5 rX)]);.have:=LK n;unfold lJ at az;rw[h1,h2,h3,h5]at az;cases e:BC with|aH=>rfl|c! x=>rw[a7 e az az]
Ay(n:R):∀l:aD,gO f3 hK (o_ vN)=NF|[]=>rfl|x::l=>by have ih:=Ay n l;unfold gO at ih⊢;rw[Vs,List.any_cons,ih,I5];congr 1;rw[q_,gk];show as (dl x==hK)↔_;rw[fI gk aLt]
}
section
variable{X:Cx}{σ:ei}{H:Hp}{a:dk}{es:HX}{ct ji:ej}{n:R}{x1:R}{vs:g'}
def z:={
oH(l:aD)(ha:l? a n)(hb:s_)(hv:wi)(hf:sj)(hl:sq)(hm:zD):mc i2 In sw NF:=by rw[sK Ay n uH]
zB(l:aD)(ha:l? a n)(hb:s_)(hv:wi)(hf:sj)(hl:sq)(hm:zD):kq i2 In sw I4 n:=by rw[sK Ay n Bh]
UL(l:aD)(ha:l? a n)(hb:s_)(hv:wi)(hf:sj)(hl:sq)(hm:e7 D' .xP Ec):jL i2 xP sw (!NF):=by rw[sK Ay n RL]
Gk{b:dk}{m:R}{k:bF}(ha:l? a n)(hb:li b k)(hk:z3 k)(hm:zU):mc i2 Eq [b] IL:=by(have e:IL=bH (lq=k):=by rw[Lq hk gk Q0]);rw[e];exact eV ha hb hm
qw{b:dk}{m:R}{k:bF}(ha:l? a n)(hb:li b k)(hk:z3 k)(hm:zU):jL i2 Eq [b] IL:=by(have e:IL=bH (lq=k):=by rw[Lq hk gk Q0]);rw[e];exact dW ha hb hm
}
section z
def z:={
Z4(A:Y):Hz (ic "first_class") n (vN (kS 6 n)):=fv A.ayx aLW λ a e H hr hp U hU=>by rw[Fg b n a,c3 hU _,aG vW (sh 6) A.g.agy Z fh]
Ti.2(c:Cs)(g:bR->j4->Cn):RP:=RQ bi (BK×E_×R) [f?,dp ls,EQ] bA (qf/\AD/\qd b!) dC (g fe eQ b!)
aou(A:Y):jK "resolved_class" (Ti c λ d y n=>vN (PW y yx lf)):=ng A.aFf SJ λ a e H hr hp U hU=>by rw[LL y n a];obtain⟨dx,fs,hw,bw,_,_,_,_,u_,_⟩:=hW;dsimp only at hw u_ bw hs;rw[Aj PW,c3 dY (bI 3 SJ.nd) (vN (kS 6 n)) (aT (Z4 A) hr (gI,n) bC ad ap bn #[nb,hs])];generalize yx=k;(refine aY Hw A.g.AI bG h1 rR zG Fr hw PN u_ xT ry pa eb io;.rw[sm hZ h1,tb c5 (k=1) Qr hZ];cases y.east<;>rfl);rw[p0 hZ h1,ky c5 (¬k=1) aac hZ];(refine aY (oH [40,0] aF cm A.g.SG A.g.XX) bG h2 ac pa eb BV;.have De:=h2;rw[wP Uk (k=40\/k=0) De]);have De:=h2;rw[ky Uk (¬(k=40\/k=0)) De];(refine aY Hw A.g.SA bG h3 rR (oH [6,7] Sp cm A.g.MN A.g.MC) I6 ry pa eb OT;.rw[sm Ky h3,tb c5 (k=39) au6 Ky];by_cases hg:lf=6\/lf=7;(.rw[iq hg,T1];rfl);.rw[TA]);rw[p0 Ky h3,ky c5 (¬k=39) aK0 Ky,<-aY Hw A.g.CJ bG h4 rR zG Fr hw A.eU.Tp bw I7 ry xT eb v5 h4 aF];(.rw[sm rX h4,tb c5 (k=11) Rl rX];by_cases hg:C8=0;(.rw[iq hg,T1];rfl);.rw[TA]);.rw[p0 rX h4,ky c5 (¬k=11) QJ rX]
acf(A:Y):gp 5 "line_class" (Ti c λ d y n=>vN nF T3):=ng A.arE Jj λ a e H hr hp U hU=>by rw[LL y n a];have uP:vA wa y:=hW;obtain⟨dx,fs,hw,bw,pC,b_,og,_,u_,_⟩:=hW;dsimp only at hw u_ bw pC b_ og hs;rw[ck,kt tL v (v=vN (Vt y yx lf))];unfold Vt;rw[c3 kY (bI 3 Jj.nd) T_ y r! aou (gI,(wa,y),n) bn #[nb,N?,hs]];generalize T_ y=k;dsimp only;(refine rg (N1:=λ a0 _=>a0=[sL,GV,jP,bd (if C8=2/\(k=32\/k=25)then 24 else k)]) ds zG Fr hw A.eU.Xs pC (c4 (oH [32,25] aF cm I7 A.g.IN)) tI (bI 3 Jj.nd ac xT yQ ?_) tI yQ ?_ ?_;(.rw[eh]at h1;rw[wP #[by simpa using xp,by simpa using tP]]);.rw[da];(.rfl);.intro h;(have:as (U5&&rO [32,25] k):=by simpa using h);rw[a7 az h1 h1]);.intro a0 H1 s1 hσ;have hσ':=hσ.now;subst hσ';generalize(if C8=2/\(k=32\/k=25)then 24 else k)=m;(refine aY R4 PX b_ (c4 (oH [3,22,33] aF pZ pa C! nJ)) bG h2 ac xT eb BV;.rw[Ms h2,wP #[h2.1,h2.2]]);rw[ky (λ h=>by(have:as (C9&&rO [3,22,33] m):=by rw[fI eh h]);rw[a7 az h2 h2]),<-aY R4 A.eU.aa0 og (c4 (oH [24,20,21,27,29,28] aF dz xT I8 dz I9 I_ cm C? Da)) bG h3 ac pa eb v5 h3 aF];(.rw[Ms h3,wP #[h3.1,by have:=h3.2;unfold xO;rw[ql,Vv (xU (xU (xU Or.symm)))]]]);.rw[ky (λ h=>by(have:as (y.keep&&rO [24,20,21,27,29,28] m):=by rw[eh];refine #[h.1,?_];have:=h.2;unfold xO at az;rw[ql,Vv (xU (xU (xU Or.symm)))]);rw[a7 az h3 h3])]
YE(A:Y):ef "stands_alone" (RQ qF [vN n] o1 yt n (jb (MtLine.alone n))):=wg A.ajg aAw λ n f aK A' cx s H0 H E hr hp=>by rw[gt (zB [9,15,30,31,41,46] ad RX) fh]
jU.1(C:a5)(H:Hp)(a:a5)(I:ny):Prop:=∃dx fs k1 k2 k3,l! H a C/\jS G_ ci k1/\jS ("conjuncts":a4) ci k2/\jS ("pictures":a4) ci k3/\sz k1 I.map dT OY/\sz k2 I.map dT (vN x.conj)/\sz k3 I.map dT (bO I')
jU.later{H:Hp}{a:a5}{I:ny}(h:jU C H a I)(s:tF):jU C H' a I:=by refine x_ h λ dx fs k1 k2 k3 h1 h2 h3 h4 h5 h6 h7=>?_;exact(rD dx fs k1 k2 k3 Ii h2 h3 h4 pE h5 pE h6 pE h7)
}
section
variable{X:Cx}{σ:ei}{H:Hp}{o e:dk}{ct ji:ej}{a:a5}{I:ny}{i:bF}{j:R}{x:Dd}
def z:={
yj(A:c')(h:tc a I)(ho:jJ)(hi:lY)(hj:qC)(hx:de I j x)(hs:se)(hb:eq (er "kinds")):l? wE (et "kinds" ji) gl:=by refine x_ h λ dx fs k1 k2 k3 h1 h2 h3 h4 h5 h6 h7=>?_;exact cO (cQ ho yw Dh P3 h2 hb) hi FE h5 (by rw[im hj (cg (by rw[np hx]))]) hs
Eo(A:c')(h:tc a I)(ho:jJ)(hi:lY)(hj:qC)(hx:de I j x)(hs:se)(hb:eq (er "conjuncts")):l? wE (et "conjuncts" ji) x.conj:=by refine x_ h λ dx fs k1 k2 k3 h1 h2 h3 h4 h5 h6 h7=>?_;exact cO (cQ ho yw Dh A.lV.VZ h3 hb) hi FE h6 (by rw[im hj (cg (by rw[np hx]))]) hs
RD(A:c')(h:tc a I)(ho:jJ)(hi:lY)(hj:qC)(hx:de I j x)(hs:se)(hb:eq (er "pictures")):jL wE (et "pictures" ji) I':=by refine x_ h λ dx fs k1 k2 k3 h1 h2 h3 h4 h5 h6 h7=>?_;exact cO (cQ ho yw Dh A.lV.abW h4 hb) hi FE h7 (by rw[im hj (cg (by rw[np hx]))]) hs
}
section z
def z:={
aH8(A:Y):ef "syllable_joins" (RQ bi ks [vN dM,Cl] o1 dC (jb (_W.DC dM dd))):=fv A.aEz ai8 λ ab e H hr hp U hU=>by obtain⟨a,b⟩:=ab;rw[ck];unfold _W.DC Mt.one;(refine aY (Gk (m:=9) ad ac A.g.L) bG h1 (zB [9,10,12,13] Z dz A.g.L A.g.V cm A.g.LV A.g.LA) kZ io;. (have ea:a=9:=by simpa using h1);subst ea;simp);rw[h1,rd,jh];refine aY (oH [12,10] ad cm A.g.LV A.g.V) bG h2 (zB [10,11] Z cm A.g.V A.g.T) kZ bG h2 cc (zB [13,11] ad cm A.g.LA A.g.T) (bY (qw (m:=11) Z ac A.g.T)) kZ;(.rw[M2 h2];(have:rO [13,11] a=false:=by simp at h2⊢;exact alw h2);rw[az,rd,ut]);.rw[h2,rd,jh]
Gg.2(c:Cs)(g:ny->R->Cn):RP:=RQ bi ((a5×ny)×ks) E1 bA (tc gr d0/\a?<b!/\b!<oI) dC Bm g d0
dO{l:fS α}{i:R}(h:i<jc):∃x,gy i x:=#[_,TE]
C3{l:fS α}{i:R}{x y:α}(h:gy i x):l.getD i y=x:=by rw[PK,h];rfl
Vf(sn:cs)(z:Dd)(l:ny):Dj sn (z::l)=if uz=2 then sn else if uz=1 then Dj bE l else if ON then Dj sn l else false:=rfl
aFv(A:Y):G0 (ef "conjunct_joins") p ((BO).conj==2&&Uw hA):=ng A.asv AE λ q e H hr hp U hU=>by((rw[Fk p kx a_];obtain⟨x,hx⟩:=dO a_;rw[ck];rw[C3 hx];refine gf nA (Eo A hS ad ap O hx) IY h1 io;. (have:UY=false:=by rw[AY h1 acD]);rw[qA]);have cn:as UY:=by rw[AY h1 Bc]);rw[M2 cn,<-bI 3 AE.nd cN (dY (bI 4 AE.nd) em zL oJ ?_),p7 (∃(k:R)(sn:cs),GG [ik,qz,bd p,fo .bl sn,m5 hV] (k<=p) (Dj sn sQ=Uw hA)) (p - b) (fK p hA O nm kx fy O O)];rintro m a0 H1 s1⟨k,sn,rfl,h1,h2,rfl,h3⟩;by_cases hk:b<k;(.rw[K4 z UM h2];(have hb:sQ=z::rA iU:=by have:=G2 _W.QM I I LT hz;rw[FU n7 k cI,az]);have fV:as bH (hV>=qM):=rS O5 hk;rw[hb]at h3;refine(aZ _ ds (bP eL a! Z) (c4 (oH [1,3] Mf cm A.g.G6 A.g.Iu)) bt bt);(. (rw[wp];have Br:uz=1\/ON:=by simpa using ir);refine nB (bI 3 AE.nd) (sn||bH (NE=1)) mi aF (bY (dW Mf ac A.g.G6)) vZ (lA 4) AE.nd #[iU - b,f5 H_ hk,n7,sn||bH (NE=1),?_,Rj,f5 HB h2,rfl,?_];(.rw[lU [_,_,_,_,wJ hV] cI]);.rw[<-h3,Vf];rcases Br with h|h;(.rw[l8 aID h,w!,rS al3 h,I?]);.rw[l8 aqe h,l8 apz h,w!,Ar aB1 h,ut]);.rw[F' fV];(have Br:¬(uz=1\/ON):=by rw[rY]);rw[iX cc aF cc Io a! (bY (dW Mf ac IY))];rw[<-h3,fV,ep,Vf];by_cases h:uz=2;(.rw[w!,h];simp);.rw[da h,ii λ e=>Br (.inl e),ii λ e=>Br (.inr e)];have:v? (NE=2):=Ar aiq h;rw[az,C1]);. (have Ag:k=b:=by exact Gu h1 hk);subst Ag;have fV:v? (hV>=jF):=Ex Ma;rw[_W.Lc]at h3;rw[p4 (bP eL a! Z) fV ?_,iX cc aF (EN Io a! fV)];rw[C1];rw[<-h3];rfl
Ce{I:ny}{b k:R}{z:Dd}(h:b<k)(hz:I[iU]?=an z):sQ=z::rA iU:=by have:=G2 _W.QM I I Kv h hz;rw[c5 (n7+1=k) azT h]at az;exact az
aDV(A:Y):G0 (ef "picture_joins") p ((BO).pict&&Mt.sprout (I! I b p)):=ng A.aGz OS λ q e H hr hp U hU=>by rw[Fk p kx a_];obtain⟨x,hx⟩:=dO a_;rw[SO y p kx,ck];rw[C3 hx,Ce kx hy];rw[show Mt.sprout (y::rA pM)=(OO&&(match(rA pM).P4 (λ y=>BT)with|y::_=>y.pict|[]=>false))from rfl];(refine gf ff tA (RD A hS ad ap O hx) (eA (fZ (yj A hS ad oJ o7 hy) ac A.g.QW)) h1 io;.cases HD:I' with|false=>rfl|bE=>rw[HD]at h1;(have:OO=false:=by rw[AY h1 amS]);rw[qA]);(rw[LZ];(have h2:ln I':=by simpa using xp);have h3:as OO:=by have:=tP;rw[ql,d6 azK]);rw[F? h2 h3 ep,c3 dY (bI 3 OS.nd) em (dl p - 2) oJ,p7 HP k GG [ik,qz,bd p,m5 hV] (k<p) ((sQ).P4 (λ y=>BT)=(rA pM).P4 (λ y=>BT)) (pM - b) (qQ pM (by rw[c5 ((dl p - 2)=bD pM - 1) af3 o7];rfl) Kv kx cd avC o7 O O)];rintro m a0 H1 s1⟨k,rfl,k1,k2,rfl,k3⟩;by_cases hk:b<k;(.rw[K4 z azU k2];have fV:as bH (hV>=qM):=rS O5 hk;rw[Ce hk hz]at k3;refine(aZ _ ds GO sU eV (yj A zn ad aF cI hz) A.g.ads bt bt);(. (rw[wp];have oK:as U8:=by have:=ir;rw[ql,d6 Lm]);refine vZ (lA 3) OS.nd Ls Pq k2 ?_;(.rw[lU [_,_,_,wJ hV] cI]);.rw[<-k3,Gx List.dropWhile_cons_of_pos y BT]);.rw[F' fV];(have oK:¬(as U8):=by simp at hx⊢;exact asd hx);rw[iX cc Io aF (bY (RD A zn ad aF cI hz))];rw[<-k3,Gx List.dropWhile_cons_of_neg y BT,fV];rfl);.rw[RW Gu k1 hk];rw[_W.Lc]at k3;rw[p4 GO fV ?_,iX (EN Io aF fV)];rw[<-k3];rfl
awy(A:Y):G0 (ef "indicator_joins") p ((BO).cls==6&&_W.AO (I! I b p)):=ng A.ars Pe λ q e H hr hp U hU=>by((rw[Fk p kx a_];obtain⟨x,hx⟩:=dO a_;rw[ck];rw[C3 hx];refine gf nA (yj A hS ad ap O hx) A.g.Ol h1 io;. (have:(gl==6)=false:=by rw[AY h1 UZ]);rw[qA]);have cn:as (gl==6):=by rw[AY h1 QG]);rw[M2 cn,c3 dY (bI 3 Pe.nd) em zL oJ];(have done:∀(k:R)(H1:Hp),b<=k->k<=p->A6 sQ=[]->p - k+a6 A6 sQ=a6 A6 E?->nD (((zL - hV)%2)=1) (_W.AO (I! I b p)):=λ k H1 k1 k2 k3 k4=>by rw[k3]at k4;unfold _W.AO Mt.odd;rw[<-k4,q_,dV,gk];simp only[P7,Nat.add_zero];exact aCR k2);rw[p7 HP k GG [ik,qz,bd p,m5 hV] (k<=p) (p - k+a6 A6 sQ=a6 A6 E?) (p - b) (qQ p O nm kx fy O iK ayz)];rintro m a0 H1 s1⟨k,rfl,k1,k2,rfl,k3⟩;by_cases hk:b<k;(.rw[K4 z UM k2];have fV:as bH (hV>=qM):=rS O5 hk;refine(aZ _ ds GO sU eV (yj A zn ad aF cI hz) A.g.Ol bt bt);(. (rw[wp];have oK:as (uF==6):=by have:=ir;rw[ql,d6 QG]);refine vZ (lA 3) Pe.nd Ls HB k2 ?_;(.rw[lU [_,_,_,wJ hV] cI]);.rw[<-k3,Ce hk hz,Gx Vx y (uA==6),mE];exact ahO cI k2);.rw[F' fV];(have oK:¬(as (uF==6)):=by simp at hx⊢;exact UZ hx);rw[iX z1 (iz vj (aW cW oJ aF) ai bQ),done k H1 k1 k2 (by rw[Ce hk hz,Gx Vz y (uA==6)]) k3]);.rw[RW Gu k1 hk,p4 GO fV ?_,iX z1 (iz vj (aW cW oJ aF) ai bQ),done k H1 k1 k2 (by rw[_W.Lc];rfl) k3]
anc(A:Y):G0 (cB "is_joined") p zo:=ng A.ane K0 λ q e H hr hp U hU=>by rw[Fk p kx a_];(have hx:I[p]?=tj I.getD p _W.no:=by rw[EZ FZ a_]);rw[SO y p kx];(have hh:nF ((E?).headD #[0,0,false])=uA:=by rw[Ce kx hy];rfl);rw[n? nM sR (jU c.kR H1 a I/\b<p/\p<I.length) (λ H1 s1=>#[zn,kx,a_])];unfold _W.jR _W.jn;rw[hh];dsimp only;refine kY (bI 3 K0.nd) uA (yj A hS ad oJ o7 hy) (kY (bI 4 K0.nd) nF BO (yj A hS ad ap O hx) ?_);(refine gf ds (Gk (m:=1) aF ac A.g.Je) sU (Gk (m:=2)) a! A.g.MG h1 io;.rw[h1];rfl);rw[AT h1];unfold Mt.one;(refine gf ff (oH [1,2,3] aF pZ A.g.Je A.g.MG A.g.acV) (eA (oH [1,2,3] a! pZ A.g.Je A.g.MG A.g.acV)) h2 BV;.rw[h2];rfl);rw[h2,P9,ep];(refine gf ff gx vo aH8 (uA,nF BO) bC aF a! (dr (oH [4,5,8] a! pZ A.g.ads A.g.QW A.g.auJ) cL (eA (Gk (m:=7) aF ac A.g.aL0))) h3 OT;.rw[h3];rfl);rw[AT h3,<-gf ff gx r! aFv ((a,I),b,p) nM (eA (bN r! aDV ((a,I),b,p) nM)) h4 λ h4=>h' r! awy ((a,I),b,p) nM];(.dsimp only at h4⊢;rw[<-VA,h4];rfl);.rw[e,<-VA];dsimp only at h4⊢;rw[AT h4]
NM{lo:R}{t:pH V}{g:tl}:∀{n:R},(∀k,k<n->t (.int Nf)=g (lo+k))->qI lo n t id=jM K1 (P' lo n) g|0,_=>rfl|n+1,h=>by rw[JH,NM (n:=n) (λ k hk=>h k cd tq hk),List.range'_concat,List.filter_append,rl,h n H!];congr 1;rw[qv (lo+1*n=lo+n) aIb];by_cases hg:(as (g (lo+n)));(.rw[iq hg,List.filter_cons_of_pos hg];show[e5 _]=[e5 _];congr 1);.rw[ii hg,List.filter_cons_of_neg hg];rfl
qh.1(g:tl):(pH V)|em z=>g C5|_=>false
aaL(g:tl)(lo k:R):qh g f3 Nf=g (lo+k):=by show g ko Nf=_;congr 1
S3(A:Y):ic "cluster_ends" (RQ bi ((a5×ny)×ks) E1 bA (tc gr d0/\a?<=b!/\b!<=oI/\oI<=1000) fl lr Bm Dl d0):=k8 A.aqs V5 dt b3 bf λ q f aK A' cx s H0 H E hr hp U hU=>by obtain⟨⟨a,I⟩,b,e⟩:=q;rw[cr dm λ hS eN fc hI=>?_];dsimp only at hS eN fc hI;have nd:=V5.nd;have ee:m? ["signs","begin","end","ends","place"] EO ("place",4):=jI (mV (cq EO));(have hn:ko (dl e - za)=e - b - 1:=by exact aJj);(have au0:qI za ko (dl e - za) MJ id=jM ((P' xy U!).CR λ p=>!zo):=by rw[hn];have:=NM (lo:=b+1) (t:=MJ) (g:=λ p=>!zo) (n:=e - b - 1) tL k aN aaL _;rw[<-az];rfl);rw[ck,oi fd (ajF 4 3 O nd ee q9 m3 (cz nd O D8 D9)) (iw dy (cH (lI (Kw VB VC uB tV (iu (pv 2) fQ)))) dg) os tV n p,ET ph,<-aEu 4 (lo:=qM+1) (hi:=bB e) (f:=id) (t:=MJ) bC NV ap (by exact atX eN fc hI) bf (by rw[hn];rw[n5 (show B! by exact anY fc hI)]) (λ s' dG C cl fp k hk=>?_) (λ s' dG C cl fp k hk ht=>a!) H1 s1 _ λ l H2 hl s2 hL=>?_];(. (have hp:qM+1+jF=bD (xy+k):=by exact ayG);refine(Te.of dy λ H3 s3 Q q=>(cA tA (aT (anc A) hr ((a,I),b,b+1+k) hQ ad Z eT a! rv v _ B0 hp p3 #[(hS.later s3).later s4,qx (b<b+1+k) A1,show b+1+k<I.length by exact aju hk fc]) λ H4 s4=>q H4 s4)));.rw[au0]at hL;refine cA Nn p? H3 s3 bt;(.rw[F! d8 (b<e)];have UN:=aN s3 hL;refine #[_,rfl,.inl Bs UN,_,rfl,l,_,_,rfl,rfl,UN,?_,?_];(.rw[ew];have h1:=Vi Co (!zo) (P' xy U!);rw[List.length_range']at h1;rw[n5 (show B! by exact ax7 h1 fc hI)]);.refine cA O (p _ _ Ov λ H4 s4=>ol l s4 ?_);(.rw[i1 hl vI hb]);.rw[aX];unfold Dl;rw[iq d8,rl];rfl);. (have d8:¬b<e:=by rw[rY]);refine Fv LX;rw[hL];unfold Dl;rw[ii d8,Dm]
xE.1(l:Oy)(i:R):Scope:=match l[i]? with|an (.Assign _ Id _)=>sc|_=>FD
Es{H:Hp}{a:a5}{o:HO}{fs:Bg}(h1:H a=an o)(h2:l! H z C)(h3:∀C dx fs,o≠.ins C dx fs):a≠z:=λ e=>by subst e;rw[a7 h1 h2 h2,h3 _ _ _ O]
xl(g:Cn)(t:aD):(y1).map (λ x=>g (e8 x))=O!:=by rw[hE];rw[LU n];show g (e8 (vN n))=g n;rw[gW]
Bv:Cm z C dx ns i? oD qj H q xs:=λ v H fs gN hz _ h=>ah h λ q e hq=>k0 q (by rw[aV (Es hq hz λ _ _ _ h=>nomatch h)];exact hq)
aC2(A:Y):A0 5 "Signs" c.kR bi (BK×V×aD) [f?,a?] bA (qf/\ba H a? b!/\wy b!/\Hh b!) fl oD tc q J0 h? q4 By:=by refine FY A.kR A.lV.init afs dt b3 bf Dh ["kinds","conjuncts","pictures"] λ a e z dx H hr hp=>?_;obtain⟨⟨b,d,kk⟩,v,t⟩:=a;have hr:bZ 4 (e.A.deeper TN (envOfC "Signs.__init__") aw qR):=hr;rw[cr dm λ hR aS bJ a3=>lv av hv gm];rw[f8];dsimp only at hv gm bJ a3⊢;rw[gg hv afs.nd];(have hsz:At:=by rw[zK]);have b1:Lo qR:=jI (B7 qR 0);have b2:Lo qR:=jI (B7 qR 1);have b3:Lo qR:=jI (B7 qR 2);have hs:L1 k n t:=eR L_ _;((refine #[_,.p P3 K3 (vN nF MI) b1 (λ s' dG C cl fp k x hk=>?_) Bv (.p A.lV.VZ K3 (vN (MI).conj) b2 (λ s' dG C cl fp k x hk=>?_) Bv (.p A.lV.abW K3 (bO (MI).pict) b3 (λ s' dG C cl fp k x hk=>?_) Bv tU)),rfl,λ H2 s2 v1 h1 v2 h2 v3 h3 hz=>?_];(.rw[RI aFy aF xk]);.rw[RI amt aF xk]);.rw[E7 aU aU (aT (aJJ A) hr (gI,m) bC Z aF d! #[KT,xk])];rfl);refine ah h1 λ k1 e1 cI=>ah h2 λ k2 e2 nW=>ah h3 ax k3 e3 j9;subst e1 e2 e3;(refine #[z,rfl,dx,_,k1,k2,k3,hz,rfl,rfl,rfl,?_,?_,?_];(.rw[AC cI (xl tM (vN nF Nr))]);.rw[AC nW (xl tM (vN (Nr).conj))]);.rw[AC j9 (xl tM (bO (Nr).pict))]
aAM(n:R):n|||16255=16255↔O3/\Uo:=by constructor;(.intro h;have h1:n<=n|||16255:=Nat.left_le_or;refine #[f6 aj4 h1 h,?_];have h2:=rs tM (Nat.testBit m 7) h;simp only[VE]at h2;(have h3:(UH).testBit 7=false:=by decide);rw[h3,ut]at h2;exact h2);.rintro⟨h1,h2⟩;apply Nat.eq_of_testBit_eq;intro i;rw[VE];by_cases hi:i<14;(.by_cases h7:i=7;(.rw[h7,h2,jh]);. (have:∀j,j<14->j≠7->as ((UH).testBit j):=by decide);rw[az i hi h7,I?]);.have:rm i=false:=Nat.testBit_lt_two_pow (VG h1 (show 16384<=2^i from Nat.pow_le_pow_right (n:=2) bQ Tv (14<=i) hi));rw[AT az]
He(n:R):VH hK 3=bD (n%4):=by have:=rI (xZ.adm (x:=hK) 2) tD;rw[zl ((O4^2 - 1)=3)]at az;rw[fI az aza]
}
section
variable{X:Cx}{σ:ei}{H:Hp}{e b:dk}{ct p:ej}
def z:={
w_(A:c')(hr:Cu)(n k:R)(h1:l? e n)(h2:li b jF)(hg:vQ (x2 "has_bit"))(he:nf [e,b] hH e [b])(Kz:nf [b] hH b [])(a_:e7 Et [b] any):kq qs (jG "has_bit" p) [e,b] rm k:=iQ (aT (mI A) hr (lq,jF) (ae h1 (ae h2 ao Kz) he) lR KH hg bQ he a_) rv v _ (by rw[e];exact j1 bO (i4 n k))
}
section z
def z:={
aMC(A:Y):cB "is_ways" (RQ qF [vN n] o1 yt n (.bl o4 (Dp n))):=wg A.atu apM λ n f aK A' cx s H0 H E hr hp=>by(have e1:bH (Builtin.bitOr hK 16255=16255)=bH (n<16384/\Uo):=by rw[xZ.avU iK tD bQ,Pr];congr 1;rw[<-aAM];simp only[eq_iff_iff];constructor;(.intro h;exact_mod_cast h);.intro h;exact_mod_cast h);unfold Dp;refine gf ff nA (aW apr ad ac A.g.S1) A.g.S1 (eA (bP gF HZ ad ac A.g.aaC)) h1 bG h1 (iL (cp (ty 2 ad ac A.g.TJ) cL (bY (ty 3 ad ac A.g.Ra)))) kZ;(.rw[e1,He]at h1;rw[gj];(.rfl);.rw[ST dV not_and Bool.not_eq_false];by_cases h:O3;(.rcases h1 with h1|h1;(.exact .inr (.inr (.inl (h1 h))));.exact eD .inl az4 h1);.exact .inr (.inr (.inr TR h)));.rw[e1,He]at h1;rw[Sv rc dV h1,<-bq h1 λ aS h4=>bq aS cR h2 h3];by_cases hb:as Oi/\as Oj;(.rw[iq (.inr (.inl hb)),hb.1,hb.2];rfl);.rw[da];(.show as _;rw[q?,PE];by_cases h5:(as Oi);(.right;by_cases h6:(as Oj);(.rw[ku #[h5,h6] hb]);.simpa using h6);.left;simpa using h5);.rintro(h|h|h|h);((.exact aCX h h4);.exact hb h);(.rw[a7 h3 h h]);.exact axh h h2
aqi(n:R):VH (lq/2^Oo) 63=bD (n/256%64):=by(have e:(lq/2^Oo)=bD (n/256):=by rw[zl (Oo=8),r? ((2:bF)^8=256)];exact afY);rw[e];have:=rI (xZ.adm (x:=bD (n/256)) 6) au3;rw[zl ((O4^6 - 1)=63),r? ((O4^6)=64)]at az;rw[fI az ayO]
K'(A:Y):A0 2 "Ways" c.Ways bi (R×j4) [vN dM] tL a (Dp dM=an dd) fl oD vA q dd:=by refine FY A.Ways A.eU.init aCs dt b2 bf C' ["strict","loose","break_all","keep_all","by_words","eastern","splits","tab"] λ a e z dx H hr hp=>?_;obtain⟨n,y⟩:=a;have n8:Dp n=an y:=hp;(have hy:y=#[n%4,Oi,Oj,rm 4,rm 5,rm 6,n/256]/\O3:=by unfold Dp at n8;split at n8;(.cases n8);.rename_i h;cases n8;refine #[rfl,?_];have h4:¬2^14<=n:=λ e=>h (.inr (.inr (.inr e)));omega);obtain⟨rfl,a8⟩:=hy;(refine #[_,.v A.eU.Tp (dW HZ Z ac A.g.atz) (.v A.eU.Xs (dW HZ Z ac A.g.aaC) (.v PX th (ty 2) A.g.TJ (.v A.eU.aa0 th (ty 3) A.g.Ra (.v A.eU.WL th (ty 4) A.g.ayR (.v PN th (ty 5) A.g.aEn (.v A.eU.Wj th (ty 6) A.g.ajq (.v A.eU.vE HZ (iz GB Z ai bQ) tU))))))),rfl,λ H2 s2 hz=>#[z,rfl,dx,_,hz,?_,?_,rfl,rfl,rfl,rfl,?_,rfl]];(.rw[lU i3 _ He,D? (λ b=>i3 b),zY];dsimp only;rw[Mo]);.rw[lU i3 _ He,D? (λ b=>i3 b),zY];dsimp only;exact azu);.rw[lU Ep _ aqi,D? (λ m:R=>bd m)];show n/256%64=n/256;exact ajX a8
}
structure kH(c:Cs)(H:Hp)(a:a5)(bk:BK)(y:j4)(t:aD):Prop where
 sc:KQ t.all
 len:db<=64
 hb:ed mG bk H
 ex:∃dx fs ta sg wl al,l! H a c.yp/\jS ("book":a4) ci bk.1/\jS ("text":a4) ci ta/\jS ("tab":a4) bd ub/\jS ("signs":a4) ci sg/\jS ("widths":a4) ci wl/\jS ("alone":a4) ci al/\fa H ta jj/\tc sg J0 jj Ie/\sz wl jj tN (vN (xN Ie y n))/\sz al jj tN MS bO Ie n
def z:={
kH.later{H H':Hp}{a:a5}{bk:BK}{y:j4}{t:aD}(h:kH c H a bk y t)(s:tF):kH c H' a bk y t:=by refine xf kE λ dx fs ta sg wl al h1 h2 h3 h4 h5 h6 h7 h8 h9 eW eB=>?_;exact #[h.sc,h.len,bz.later h.hb s,dx,fs,ta,sg,wl,al,Ii,h2,h3,h4,h5,h6,h7,pE h8,P? s,pE eW,pE eB]
jU.keep{D:a5}{H:Hp}{a:a5}{I:ny}{fs:Bg}{o:HO}(h:jU C H a I)(hz:l! H z D)(hl:ga (t! G_)):jU C (upd H z o) a I:=by refine x_ h λ e_ gN k1 k2 k3 h1 h2 h3 h4 h5 h6 h7=>?_;(have e0:a≠z:=λ e=>by subst e;rw[a7 h1 hz hz,a7 h2 hl hl]);have e1:k1≠z:=N5 h5 _ h;have e2:k2≠z:=N5 h6 _ h;have e3:k3≠z:=N5 h7 _ h;exact(rD e_ gN k1 k2 k3 (by rw[aV e0];exact h1) h2 h3 h4 (by rw[aV e1];exact h5) (by rw[aV e2];exact h6) (by rw[aV e3];exact h7))
ax2{D:a5}{I:ny}(h0:G_∉ns):Cm z C dx ns i? oD (jU D H q I):=λ v H fs gN hz hf h=>ah h λ q e hq=>k0 q (hq.keep hz (by cases g:t! G_ with|aH=>rfl|c! x=>rw[ku aN hf g h0]))
axY(A:Y):A0 7 "Sheet" c.yp bi (BK×E_×sb) [f?,dp ls,br] bA (qf/\AD/\AJ/\wy bm/\td bm) fl oD (kH c H q dM eQ bm):=by refine FY A.yp A.fB.init aee dt b4 bf Qa ["book","text","tab","signs","widths","alone"] λ a e z dx H hr hp=>?_;obtain⟨⟨b,d,kk⟩,⟨wa,y⟩,v,t⟩:=a;have hr:bZ 6 (e.A.deeper TN (envOfC "Sheet.__init__") aw wN):=hr;rw[cr gJ λ hR hW aS bJ a3=>lv av hv gm];rw[f8];have uP:vA wa y:=hW;dsimp only at hv gm bJ a3⊢;rw[gg hv aee.nd];(have hsz:At:=by rw[zK]);have b1:SD wN:=jI (B7 wN 4);have b2:SD wN:=jI (B7 wN 5);have hs:L1 k n t:=eR L_ _;obtain⟨wdx,wfs,hw,_,_,_,_,_,_,amc,_⟩:=uP;(refine #[_,.v A.fB.xM Z (.v A.fB.adt aF (.v A.fB.vE (kY cQ ub ap p3 (b9 _ wdx wfs Cb hw C' A.eU.vE amc)) (.p Jb (tJ (aC2 A) hr (gI,dp av,t) bC Z aF Cf (fH (fP s5) ol av s5 gm bJ (o9 a3 bQ))) nR ax2 (.p A.fB.XB vD (pU 4 (f:=dT Tc xr) O nd b1 aF) pi H6 s6 k0 av d' qT gm (λ s' dG C cl fp k x hk=>?_) Bv (.p A.fB.V' vD (pU 4 (f:=dT MS bO eo xr) O nd b2 aF) pi H6 s6 k0 av d' qT gm (λ s' dG C cl fp k x hk=>?_) Bv tU))))),rfl,λ H2 s2 v1 h1 v2 h2 v3 h3 hz=>?_];(.rw[E7 a9 a9 (aT (azo A) d1 (gI,(wa,y),m) hQ Z ap a! (λ H6 s6=>#[fP s6,PM hW s6,xk]))]);.rw[E7 bW bW vo YE nF My m d2 (aT (acf A) d1 (gI,(wa,y),m) kM Z ap d2 a! (λ H7 s7=>#[fP s7,PM hW s7,xk]))];rfl);.refine ah h1 λ sg e1 hsg=>ah h2 λ k1 e2 cI=>ah h3 ax k2 e3 nW;subst e1 e2 e3;refine #[z,rfl,bJ,a3,KT,dx,_,av,sg,k1,k2,hz,rfl,rfl,rfl,rfl,rfl,rfl,e? gm,hsg,?_,?_];(.rw[cI,xl tM Tc m]);.rw[nW,xl tM MS bO eo m]
}
section _P
namespace _M
open x3 x4 x! _L
def z:={
abG{X:Cx}{σ:ei}{H:Hp}{k:R}{m:a4}{e o:dk}{es:HX}{ct apos:ej}{C b:a5}{α:Type}{args:α->g'}{pre:α->my Hp}{post:α->V->my Hp}{P:V->my Hp}{PL:g'->my Hp}{pl:Sem cs}(c:dQ X.K C)(F:fb X.prog X.w X.K uq X.base k C m (RQ args pre post))(hr:bZ k X.A)(ho:nY o b)(hi:sR (∃dx fs,l! H1 b C/\ga (t! m)))(ha:iv fC Cy PL)(hp:∀vs H1,yK->bc (PL vs) H1->∃a,dp b::vs=args a/\pre a H1/\∀v H2,lW->post a v H2->P v H2)(bw:nf Cy hH e es)(a_:e7 Et es any)(ht:e7 (hH qs (.Df o m apos) Cy=(do let ov<-hH o;standAt apos.atName;let(f,first)<-holding [ov] (getMethod ov m pl);callWith ct f first J5 backTo Ja Cy J5 backToKw keywordEach []))):iv Ev qs (.Df o m apos) Cy P:=N4 c F hr ho hi ha (λ us H1 s1 e1=>by refine bL (hp us H1 s1 e1) λ a e2 h1 h2=>?_;exact cA (aZ a e2 h1 O) h2) bw a_ ht
}
section _M
namespace _P
open x3 x4 x! _L _M
variable{P:Qb}{w:World}{K:Qc}{mg:NJ}{tZ:Heap}{c:Cs}
variable{H H':Hp}{b J x0 e z mu i n:R}{kl ke:fz}{l m:aD}{oN:TU}{X:Cx}{a:dk}
def z:={
w6{α:Type}(g:Cn){t:aD}(h:b<=e)(he:m_ e):gS O! an qM an bB e=gu gd g:=by unfold gS rn;rw[_H.xt,_H.xt,jd,eD Jc R8 he,Jc (by exact o9 h he),VN,I2]
acS{σ:ei}{b:dk}{ct:ej}(hu:X.A.units+64<cLine)(ha:iv Ev a qp l)(hb:iv Ev b qp m)(hm:zU):mc i2 Eq [b] (l==m):=Te.of (sF (Pu hu) aI aI hm) λ H1 s1 Q q=>it UO λ u H2 s2 hu=>it T2 λ v H3 s3 hv=>by refine ah (hu H3 s3) ax q1 e1 h1;refine ah kL ax q2 e2 h2;subst e1 e2;refine #[.list (dN l),.list (dN m),.lst d' h1 (we l),.lst d' h2 (we m),aeO l,aeO m,_,rfl,?_];rw[PyData.eqv,D4];exact q H3 y!
count_map{f:R->R}{k:R}:(o_ λ n=>bD (f n)).count jF=a6 (l.filter dT (f x==k)):=by rw[List.count,List.countP_map,List.countP_eq_length_filter];congr 1;apply List.filter_congr;intro x _;show(mb (f x)==jF)=(f x==k);rw[EA gk gk,VO]
amB(A:Y):cB "cluster_width" (RQ bi ((a5×TW BK)×R×ks) [f?,iO,wd,vN bm] bA (kH c H gr fe gw iI/\a?<br/\br<=r9) dC (vN (VQ yA fe.2.1 gw bm (rn iI a? br)))):=bp A.ajN aax dt b4 bf λ q e H hr hp U hU=>by obtain⟨⟨a,⟨bb,d,kk⟩,y,t⟩,b,e,col⟩:=q;rw[pG hS eN fc];dsimp only at hS eN fc;rw[pp hR bb hS.hb,<-xf hS.ex λ dx fs ta sg wl al h1 h2 h3 h4 h5 h6 h7 h8 h9 eW eB=>?_];have nd:=aax.nd;rw[ck];rw[_W.amR hR.dc];have xQ:a6 gd=e - b:=_W.pD fc;refine gK 4 nd Nw qp gd (qr ta ad Lt A.fB.adt h3) SX ta h8 (by rw[aX,HT vN nm eN fc]) λ cv H1 s1 rh=>?_;have ib:∀H2,lW->ba H2 cv gd:=λ H2 s2=>rh H2 s2;(refine aY ds (acS (l:=gd) (m:=[9]) (AU hr) (eT a! λ v H2 s2 ev=>by rw[ev];exact ib H2 s2) (eT (oj (ae ac A.g.TAB ao)) λ v H2 s2 bx=>A5 bx q e2)) (c4 (bP gF K8 ai)) bt bt;.rw[eh,gk,dV]at hx;(have ht:ub≠0:=by have:=ir;omega);rw[tb #[hx.1,ht],gt (aW cW K8 (iz vj aF K8 (by have:=ir;omega))) mZ];have:=Nat.mod_lt col (show 0<ub by omega);rw[d6 ajR]);rw[ky (λ h=>by(have:as (gd==[9]&&bH ((dl ub)>0)):=by rw[eh,gk,dV];exact #[h.1,by have:=h.2;rw[d6 aFR]]);rw[a7 az hx hx]),c3 dY (bI 5 nd) (gc (kP mL 2 gd)) (abG I0 (aen A) hr y_ qr bb A.fB.xM h2 jz (hR.later s1).cw Bz ac A.g.arK (Fm (Po:=qp gd) (xs:=jM gd) A.g.z_ (eT a! λ v H2 s2 ev=>by rw[ev];exact ib H2 s2) w8 (by rw[FQ q e2 e2])) (λ vs H2 s2 hv=>by(rw[w' pQ λ v1 r1 aS aU v2 r2 a9 bu bW=>ah bu ax q cJ hq];subst aS aU a9 bW cJ);exact(kA (tk,2,dp q,gd) #[y5 hR.later,r? ((2:R)<3),eH q hq] λ v H3 s3 h=>h)))];(refine aY zb ch bG cn ch eb BW;.rw[sm wF cn];unfold mL at wF⊢;cases Bw:MX t e with|aH=>rw[Bw]at wF;exact CE wF bQ|c! l=>rfl);rw[p0 wF cn];(have Bw:ga MX t e:=by unfold mL at wF;cases Bw:MX t e with|aH=>rfl|c! l=>rw[Bw]at wF;rw[ku (by dsimp only;exact tD) wF]);rw[Bw];dsimp only;refine x_ h9 λ sdx sfs k1 k2 k3 g1 g2 g3 g4 g5 g6 g7=>?_;(have zW:gS ((n!).map dT OY) an qM an bB e=gu Le e5:=by rw[AC hE HT ((λ x=>OY)∘kP Do) nm eN fc]);have WT:(Le).count (6:bF)=a6 ((gd).CR dT (Ga w9 x==6)):=count_map (f:=tN nF KA) (k:=6);(refine aY (eV (aq8 (ns:=gu gd tN bD (KA).cls) (k:=6) (Nw pB v oD sz q h? Le e5 (qr k1 y_ qr sg Jb h5 d! (b9 _ sdx sfs lj g1 Dh P3 g2)) w8 E! k1 d' lj g5 λ p H3 s3=>ol p s3 (by rw[aX,zW])) ac A.g.Ol w8 (by rw[FQ q e2 e2])) ai) bG Cj ai eb j_ Cj;.rw[sm Ab Cj];rw[gj];(.rfl);.rw[WT]at Ab;exact Bc Ab);rw[p0 Ab Cj];rw[WT]at Ab;rw[ky (λ h=>by rw[h]at Ab;exact Ab O),<-dY aG em _ (aDM (ns:=gu gd tN bD FR) O A.g.La (Nw pB v oD sz q h? lB gd n bD FR e5 y_ qr wl A.fB.XB h6 w8 E! wl d' lj eW λ p H3 s3=>ol p s3 (by rw[AC aX HT (λ n=>vN FR) nm eN fc])) w8 (by rw[FQ q e2 e2]) (by rw[wt xQ,Nat.zero_lt_sub_of_lt eN]) (λ k hk iY=>?_)) fh];(rw[ce (ah (t6 hk) ax n hn dw) dw]);have:=_W.aLC (l:=gd) (f:=jr xN y) (m:=FR) Na BU n hn (λ z hz=>by(rw[ce (ah (t6 hz) ax n' uV d7) d7]);have:=iY _ (PC BU n' uV);rw[d6 axO]);rw[az]
oe.2:=a5×TW BK
sD.2(c:Cs)(a:oe)(H:Hp):Prop:=kH c H dM a? br bm
oe.B.2(a:oe):g?:=yA eQ.1
Qe{k:R}(h:gy k z):IO el=OX++[z]:=by rw[IP,h];rfl
af9{k:R}(hp:l.Pairwise (· < ·))(hb:∀x∈l,b<x)(h:gy k z):b<=Nl OX b/\Nl OX b<z:=by cases k with|zero=>rw[im List.take_zero #[fy,nc hb z h]]|succ k=>rw[m7 hl hz h];have hk:gy k l[k]:=Lz uI hl;rw[Qe hk,Qg];show b<=l[k]/\l[k]<z;have h1:=hb l[k] (VS _);have h2:=x? hp k el cd uI hl hl H!;exact as0 h1 h2 hz
KR(A:Y):Se (jK "row_width") oe (vN (VT r4 gw Bm rn iI)):=ng A.aMm Qm λ q e H hr hp U hU=>by obtain⟨⟨a,⟨bb,d,kk⟩,y,t⟩,b,e⟩:=q;rw[pG hS eN fc,p2];dsimp only at eN fc;have nd:=Qm.nd;rw[ck,kt tL v (v=vN jA VT y gd)];rw[_W.afX fc];rw[<-xf fX.ex λ dx fs ta sg wl al h1 h2 h3 h4 h5 h6 h7 h8 h9 eW eB=>?_,Gw a3 rj (_W.VW n! b e)];have fw:∀x∈S',b<x/\x<=e:=λ x hx=>_W.C0 hx;have hL:sR (jU c.kR H1 sg n!/\b<=e/\e<=a6 n!/\Hh n!):=λ H1 s1=>(fH (P? s1) eN (by rw[ew,fc]) (by rw[ew,Yh a3]));refine bI 3 nd ai (bI 4 nd Z ?_);generalize Pt:S'=L at rj fw;refine SS (Gi 5) ts (∃p,a0=[ik,qz,w2,bd Ng,an (vN ((Im).Qf b)),p]) (aT (S3 A) hr ((sg,n!),b,e) hQ (qr sg ad Lt Jb h5) Z ap hL) qO bx A5 bx q (c? (by rw[e2,<-Pt])) lR #[_,rfl] ?_ ?_;(.intro k x a0 H2 s2 hk j;obtain⟨p,rfl⟩:=j.now;(rw[ce (ah (eM hk) ax z hz aS) aS]);obtain⟨l1,l2⟩:=af9 rj (λ x hx=>(fw x hx).1) hz;have hze:=(nc fw z hz).2;refine lA 3 pN nd O (k:=mx (VQ eo y Ng (rn t ((Im).Qf b) z))) (aT (amB A) d1 (od,Nl Im b,z,Ng) kM ad a! bC ch aF (λ H3 s3=>#[Er ya s3,l2,show(m_ z)by exact o9 hze fc])) (bI 4 nd ch (c6 λ H3 s3=>#[bd z,?_]));rw[Qe hz,_W.abr,Qg];rfl);.intro a0 H2 s2 j;obtain⟨p,rfl⟩:=j.now;rw[wt Dq,aG aF fh]
Jk(A:Y):Se (gp 5 "line_measure") oe (vN (Qh r4 gw iI a? b!)):=ng A.aJp aaU λ q e H hr hp U hU=>by obtain⟨⟨a,⟨bb,d,kk⟩,y,t⟩,b,e⟩:=q;rw[pG hS eN fc,p2];dsimp only at eN fc;have nd:=aaU.nd;rw[ck,kt tL v (v=vN z!),<-xf fX.ex λ dx fs ta sg wl al h1 h2 h3 h4 h5 h6 h7 h8 h9 eW eB=>?_,p7 tr k GG [ik,qz,w0] (k<=e) (rx t b k=z!) (e - b) (qQ e O eN fy O O)];rintro m a0 H1 s1⟨k,rfl,k1,k2,rfl,k3⟩;by_cases hk:b<k;(.obtain⟨n,hn⟩:=n9 l t n7 (by exact an7 k2 fc hk);(have cI:(hV)=bD iU:=by exact zt hk);refine(aZ _ ds Nn o2 (nB cO jA VM y n y_ qr al A.fB.V' h7 oJ d! qq lj eB (axf cd agT cI (by rw[np hn]))) bt bt);(.rw[wp,<-vZ (lA 2) nd Ls HB k2 ?_];(.rw[lU [_,_,Ep hV] cI]);.rw[<-k3];have:=G2 A9 _W.akQ B y t t LT hn ir;rw[FU n7 k cI,this.symm]);.have a8:as bH (dl b<jF):=rS Ci hk;rw[F' a8,gt r! KR (od,b,k) d! #[Mq,k1,show(m_ k)by exact o9 k2 fc] F8];rw[<-k3];have:=G2 A9 _W.agn B y t t LT hn hx;rw[FU n7 k cI,this.symm]);. (have Ag:k=b:=by exact Gu k1 hk);rw[p4 Nn Ar afu hk (aG r! KR (od,b,k) d! #[Mq,k1,show(m_ k)by exact aI9 fc eN hk] F8)];rw[<-k3];exact(_W.apa Tv (k<=b) hk).symm
Eh.1(l:Oy)(i:R):Scope:=match l[i]? with|tj .Return an Id _=>sc|tj .Return an (.Call _ [Id] _ _) _=>sc|_=>FD
Ef(g:tl)(t:aD):(y1).map MT=gu O! bO:=by rw[xl (λ n=>bO (g n)),hE];rfl
Mi(A:Y):cB "all_scalars" (RQ bi sb [a.1] bA (acN H dM dd/\a6 dd<=10000) dC (jb (a.2.all jf))):=k8 A.ay2 ac2 dt b1 bf λ a f aK A' cx s H0 H E hr hp U hU=>by obtain⟨v,t⟩:=a;rw[y2 hv a3];dsimp only at hv a3;have nd:=ac2.nd;have ee:m? ["numbers","number"] EL ("number",1):=jI (Eh (cq EL) 0);((have hsz:At:=by rw[zK]);have fin:(Nd).all id=t.all jf:=by rw[CX];rfl);rw[ck];rcases hv with⟨q,rfl,hq⟩|⟨q,rfl,hq⟩;(.refine m1 eK mt wb Nd xL eT vD (pU 1 (f:=dT TZ) O nd ee ad) FB q hq (λ s' dG C cl fp k x hk=>?_) h! bx bx (c? (by rw[h,Ef])) pr u e B0 fin;(rw[LS m aS aS]);refine iQ oq sW ld Z nU;rw[e,gW];exact j1 bO (oP m));.refine m1 eK mt wb Nd xL eT vD (zj 1 (f:=dT TZ) O nd ee ad) Ka q hq (λ s' dG C cl fp k x hk=>?_) h! cy cy (c? (by rw[h,Ef])) pr u e B0 fin;(rw[LS m aU aU]);refine iQ oq sW ld Z nU;rw[e,gW];exact j1 bO (oP m)
aKr.1(l:Oy)(i j:R):Scope:=match l[i]? with|an (.If (.BoolOp _ es _) _ _ _)=>(match es[j]? with|an (.Call _ [Id] _ _)=>sc|_=>FD)|_=>FD
awY(A:Y):ef "are_marks" (RQ bi (HF×sb) [mA,a?] bA (ba H gr d0/\ba H a? b!/\oI<=10000) dC (jb (VV b! d0))):=fv A.alS Ql λ a e H hr hp U hU=>by obtain⟨⟨mv,m⟩,tv,t⟩:=a;rw[cr bX λ a9 bu a3=>ah a9 λ qm kU dR=>ah bu ax qt fq dS];dsimp only at kU dR fq dS a3;subst kU fq;have nd:=Ql.nd;(have ee:m? ["marks","text","mark"] EC ("mark",2):=jI (aKr (cq EC) 0 1);have hsz:yX a6 U_:=by rw[zK]);have vC:Sc H1 qm fJ:=vR H1 s1 EK qm e Ks;have B_:Sc H1 qt db:=vR H1 s1 EK qt e BR;rw[Aj VV];(refine gf ff (fZ Lk n2 db Z m2 pK B_ H1 s1) (eA (bN eK mt xR (Dr λ(n:R)=>bH (lq>2)) CV eT vD (pU 2 (f:=dT (bO (IX ((mb xr)>2)))) O nd ee ad) FB qm dR (λ s' dG C cl fp k x hk=>?_) h! dB dB (c? (by rw[h,Ef (λ(n:R)=>bH (lq>2))])))) h1 io;(. (rw[nl n bW bW]);refine iQ (gE gF ap OG) nU;rw[e,gW]);.rw[Ad];intro h;simp only[eh,gk,xJ,dV]at h;rw[ST List.any_eq_true List.mem_map id_eq];rcases h1 with h1|⟨_,⟨n,hn,rfl⟩,h2⟩;(.exact h1 (by rw[h.1]));.have:=h.2.1 n hn;rw[sm De h2,kw aiD De]);. (rw[LZ];(have e1:as (fJ==db):=by have:=xp;rw[ql,d6 Dv]);have e2:as (m.all dT bH (x<=2)):=by rw[xJ];intro n hn;have h3:=tP;rw[xK,VX]at h3;have:=h3 n hn;rw[ql,d6 aAO]);rw[F? e1 e2 ep];cases hm:m with|nil=>refine nB aG bE eT (fL (y:=bE) z1 Lk m4 (by rw[a7 hm hx hx])) rv v _ B0 I? fh|jg x r=>(have dj:kO U_ (-1)=an Uv (by rw[hm];simp):=by((have h0:m≠[]:=by rw[hm];simp);have h1:Dr vN=m.dropLast.map vN++[Uv h0]:=by rw[Tg]);rw[h1];exact abk _ _);rw[<-hm];rw[iX (fL z1 Lk m4 (bY (qw (m:=2) (cO ad tO bn mU c? dR dj) OG)))];((have be:m≠[]:=by rw[hm];simp);have e3:m.isEmpty=false:=by rw[hm];rfl);have e4:v? (dl fJ=0):=xD (by rw[hm,mE];exact aaK);rw[e3,e4,jh,jh,VY be];rfl
mkD.2:=HF×ks
axI(A:Y):ef "first_must" (RQ (λ a:mkD=>[mA,iO]) bA (ba H gr d0/\Bm _W.lL d0) dC (vN (q4+1))):=fv A.aha Y_ λ a e H hr hp U hU=>by obtain⟨⟨mv,m⟩,b,q⟩:=a;rw[cr bq λ cJ hM=>ah cJ ax qm kU dR];dsimp only at kU dR hM;rw[gg kU Y_.nd,ck,<-ja nd Z ?_,c3 (mD n4 z tr k (a0=[sI,qz,w0]/\b<=k/\k<=q/\z=q - k) (λ _ _ _ _ _ h=>h) (q - b) kD) (fF b O fy hM.le O)];rintro z a0 H1 s1⟨k,rfl,k1,k2,rfl⟩;(have hk:de m k yT k:=by rw[EZ (CO (by have:=hM.lt;rw[kw xF k2]))]);refine(aZ _ nA (oR yT k ad ap d! qq lj dR (cg (by rw[np hk]))) Jf bt bt);(. (have be:k≠q:=λ e=>by subst e;rw[hM.is]at hx;simp at hx);exact lA 2 pN nd O ai yQ (Bq (q - el) f6 aBK be k2 el O cd V2 k1 f6 aE1 be k2 O));. (have heq:k=q:=by by_cases e:k=q;(.exact e);.have:=hM.no k k1 Re k2;rw[rc,dV]at hx;rw[kw afN hx]);subst heq;exact aG Fb fh
aaS(A:Y):cB "chances_behind" (RQ (λ a:mkD=>[mA,iO]) bA (ba H gr d0/\Bm _W.lL d0/\oI<=64) fl lr (_W.d9 d0 a? b!)):=fv A.asa ab2 λ a e H hr hp U hU=>by obtain⟨⟨mv,m⟩,b,q⟩:=a;rw[cr bX λ dw hM a3=>ah dw ax qm kU dR];dsimp only at kU dR hM a3;rw[gg kU ab2.nd];have hle:=hM.le;have a8:=hM.lt;have ee:m? ["marks","begin","must","place"] Eu ("place",3):=jI (Eh (cq Eu) 1);(have hn:ko (mb nw+1 - za)=q+1 - b:=by exact aHr);rw[ck,c3 kY (ja nd) nw (aT (axI A) hr ((eu qm,m),b,q) bC ad Z bn #[eH qm Ks,hM]),<-m1 (aeB 3 (lo:=qM+1) (hi:=bD nw+1) (f:=id) (t:=qh λ p=>HG) O nd ee q9 bC NV Fb (by exact aoD hle a8 a3) bf (by rw[hn];rw[n5 (show B! by exact aJZ a8 a3)]) (λ s' dG C cl fp k hk=>?_) (λ s' dG C cl fp k hk ht=>aF) Ft) h! eG eG ?_];(. (have cj:m[b+k]?=an Oe:=by rw[SL ano hk a8]);(have hz:Gz - 1=bD (b+k):=by exact aF2);(have ht:qh Co HG f3 Gz=!bH (pq Oe=0):=by show(yT ((Gz).toNat - 1)!=0)=_;rw[qv (ko Gz - 1=b+k) aJs,q_];simp);rw[ht];exact fZ (oR Oe ad NQ d! qq e? dR (by rw[im hz (cg (by rw[np cj]))])) U2);.rw[h,hn];have:=NM (lo:=b+1) (t:=qh λ p=>HG) (g:=λ p=>HG) (n:=q+1 - b) tL k aN aaL _;unfold _W.d9;rw[<-az];rfl
}
structure Dt(L:aD)(b n:R):Prop where
 rise:AV
 y4:∀p∈L,b<p/\p<=n
def z:={
O0:∀{L:aD}{b n:R},b<=n->AV->(∀p∈L,b<p/\p<=n)->hG<=n - b|[],b,n,_,_,_=>KH|x::r,b,n,h0,h1,h2=>by have hx:=h2 x r7;rw[List.pairwise_cons]at h1;have:=O0 (L:=r) (b:=x) (n:=n) ir tP (λ p hp=>#[h1.1 p hp,(h2 p (by simp[hp])).2]);rw[mE];rw[kw aGJ hx]
pk.1(o:HR):bF:=match o with|an p=>tC|aH=> -1
axH{L:aD}{p:R}(hp:AV)(h:L.getLast?=an p):p∈L/\∀y∈L,y<=p:=by refine #[List.mem_of_getLast? h,cR y hy];obtain⟨i,hi,rfl⟩:=Vh hy;rw[Qj]at h;rw[m7 hl e h];by_cases hz:i=vL;(.subst hz;rw[e];exact xX _);.have:=x? hp i tg hi hl f6 S6 hi hz;exact KZ az e
acB(A:Y):gp 6 "farthest_fit" (RQ bi (oe×R×A7) [f?,iO,wd,mm] bA (sd/\ba H mm oX/\Dt oX br r9/\br<=r9) dC (gc (pk (Du r4 gw a? iI br oX)))):=k8 A.aqW abJ dt b4 bf λ q f aK A' cx s H0 H E hr hp U hU=>by obtain⟨⟨a,⟨bb,d,kk⟩,y,t⟩,n,b,iE,L⟩:=q;rw[cr dm λ hS aS hP qU=>lv qL cD nj];rw[p2];dsimp only at cD nj hP qU;rw[gg cD abJ.nd,Gw a3 jT (O0 qU hP.rise hP.y4)];have ee:m? ["sheet","columns","begin","places","fits","place"] Ht ("place",5):=jI (mV (cq Ht));((have hsz:yX a6 ts:=by rw[ew,n5 (show _<=64 by exact ain jT a3)]);have j3:((ts).CR (qh λ p=>bH yS p)).map id=gu lB zT p iA r0 p e5:=by rw[Vd,Pv,hE];rfl);rw[ck,<-azq 5 4 (f:=id) (t:=qh λ p=>bH yS p) O nd ee aF FB qL nj bf hsz (λ s' dG C cl fp k x hk=>?_) (λ s' dG C cl fp k x hk ht=>ch) Ft (λ l H1 s1 hl=>?_)];(. (rw[ce (ah (eM hk) ax p hp aU) aU]);have HD:=nc hP.y4 p hp;(have ht:qh Co bH yS p (vN p)=bH (mb rx t b p<=hK):=by show nD yS ko dl p _;rw[Lq Pr dV aLo]);rw[ht];exact bP d5 SC p ch #[Oa,Ff (b<=p) abL HD,HD.2] Z);.rw[j3]at hl;rw[gt (aEV (ns:=gu zT λ p=>iA r0 p) (m:=pk (lc Du b L)) O A.g.La a! ac Jg w8 (af l j2 d' e? hl) j_ e (λ k hk iY=>?_)) fh];(. (have e':zT=[]:=by simpa using e);rw[Ba Du e']);.unfold Du;have rj:Ok zT:=hP.rise.filter _;(rw[ce (ah (t6 hk) ax z hz a9) a9]);cases hg:(zT).getLast? with|aH=>rw[List.getLast?_eq_none_iff]at hg;rw[a7 hg hz hz]|c! p=>obtain⟨h1,h2⟩:=axH rj hg;have h3:=h2 z hz;have h4:=iY _ (PC BU p h1);show iA r0 z=tC;exact akT h4 h3
QT{o:HR}:(pk o= -1)↔o=aH:=by cases o with|aH=>simp[pk]|c! p=>simp[pk]
aoc(A:Y):gp 7 "line_end" (RQ bi (oe×R×A7) [f?,iO,.bl Uq,wd,mm] bA (sd/\ba H mm oX/\Dt oX br r9/\oX≠[]) dC (vN (_W.nS r4 gw a? iI br oX))):=bp A.ake RV dt b5 bf λ q e H hr hp U hU=>by obtain⟨⟨a,⟨bb,d,kk⟩,y,t⟩,n,b,iE,L⟩:=q;rw[cr dm λ hS bu hP be=>ah bu ax qL cD nj];rw[p2];dsimp only at cD nj hP be;rw[gg cD RV.nd];have a3:=fX.len;rw[ck,kt tL v (v=vN (lc _W.nS b L))];(obtain⟨x,r,hL⟩:∃x r,L=x::r:=by cases L with|nil=>rw[ku O be]|jg x r=>exact(d3 x r O));have hx:=hP.y4 x (by rw[hL];simp);((have F_:L.headD 0=x:=by rw[hL];rfl);have qU:m_ b:=by exact aCg hx);unfold _W.nS;rw[c3 dY (bI 5 nd) (gc (pk Gd b L)) (aT (acB A) hr (od,n,b,dp qL,L) kM ad Z bC aF a! bn (fH Oa eH qL dP nj hP qU))];cases hf:Gd b L with|c! p=>refine aY nA ch Jg bG h1 ch fh io;(have:yE pk p= -1:=by simpa using h1);rw[a7 QT az az]|aH=>refine aY nA ch Jg (λ h1=>by simp[pk]at h1) io;dsimp only;rw[F_];(refine aY tA ap bG h2 (oR x a! ai bn mU c? nj (by rw[hL];exact tB O)) eb BV;.rw[gj (by simpa using h2)]);(have jH:¬C_=false:=by have:(!C_)=false:=h2;simp at az;simp[az]);rw[ky jH,<-xf fX.ex λ dx fs ta sg wl al h1 h2 h3 h4 h5 h6 h7 h8 h9 eW eB=>?_];have YW:Md x≠[]:=_W.Me _ hx.1;refine gK 6 nd (P1:=qp Md x) (aT (S3 A) d1 ((sg,n!),b,x) hQ (qr sg ad Lt Jb h5) aF (oR x a! ai bn mU c? nj (by rw[hL];exact tB O)) bn (fH (P? s1) c5 (b<=x) abL hx (by rw[ew,ir]) (by rw[ew,Yh a3]))) λ bv H1 s1 si=>?_;(rw[ce (ah si.now ax qB bW LD) bW]);generalize hB:Md x=B at LD YW⊢;have hPB:Dt B b db:=#[by rw[<-hB];exact aN _W.VW _,λ p hp=>by rw[<-hB]at hp;have:=_W.C0 hp;exact alR az hx];rw[c3 dY (bI 5 nd) (gc (pk Gd b B)) (aT (acB A) hr (od,n,b,dp qB,B) kM ad Z bC aF g! d! (fH Mq eH qB e? LD hPB qU))];(obtain⟨z,r',hB0⟩:∃z r',B=z::r':=by cases B with|nil=>rw[ku O YW]|jg z r'=>exact(d3 z r' O));refine h' (kf (eV ch ac Jg) cL (oR z g! ai d! qq e? LD (by rw[hB0];exact tB O)) cL ch);rw[e];cases hf2:Gd b B with|c! p=>have:bH (yE pk p= -1)=false:=xD (λ h=>by rw[a7 QT h h]);rw[qA]|aH=>rw[hB0];rfl
adG(l:oy)(x:ks):Qk (l++[x])=rz l++[x.1,x.2]:=by unfold Qk;rw[List.flatMap_append];simp
Dw(l:oy):a6 rz l=2*jc:=by induction l with|nil=>rfl|jg x l ih=>show a6 ([x.1,x.2]++rz l)=_;rw[IQ,ih,mE];simp;exact alV
XY{q:R}(h:_W.lL m b q)(hn:fJ<=n):Dt (_W.d9 m b q) b n:=#[aN _W.ay5 _,λ p hp=>by have:=_W.Ei hp;have:=h.lt;omega]
B5.1(m t:aD):Prop:=fJ=db/\(m≠[]->m.getLast?=c! 2)
B5.must{t:aD}(h:B5 m t)(hb:b<fJ):m.getLast?=c! 2/\∃q,_W.lL m b q:=by have h1:=h.2 (λ e=>by rw[e]at hb;simp at hb);exact #[h1,_W.UD h1 _ b O hb]
aBV(A:Y):gp 8 "filled_lines" (RQ bi (oe×A7) [f?,iO,.bl Uq,br] bA (sd/\AJ/\B5 bm iI) fl (lr FJ V3 bm/\Bo FJ V3 bm)):=bp A.aCq aeM dt b4 bf λ q e H hr hp U hU=>by obtain⟨⟨a,⟨bb,d,kk⟩,y,t⟩,n,mv,m⟩:=q;rw[cr bX λ hS aS aR=>lv qm kU dR];rw[p2];dsimp only at kU dR aR;rw[gg kU aeM.nd,Gw a3 g8 aR.1,ck,RC R2 EE sX ft or tX (∃(k:R)(e':g0)(dn:oy),RM [ik,jP,fo .bl C_,sI,qn,w0,e'] _W.rb _W.rb) (KG AG aH ([]) O lH O IF aX O fy)];rintro z a0 H'⟨k,e',dn,rfl,hk,rfl,s2,hL,md,rE⟩;have vC:r8 qH qm fJ:=Fn s3 qm F0;refine cA qN ch n2 fJ aF Gn vC p? H3 s3 bt;(. (have me:k<fJ:=by rw[nq hx,d6 sf]);obtain⟨S2,q,hM⟩:=aR.must me;have FF:=A9 _W.Xr B y (n:=n) (t:=t) hM;have f9:=hM.lt;have bw:=A9 _W.aMu B y (n:=n) g8 S2 hM;generalize he:lc _W.nS k pL=e at FF bw;have Nh:=ya Az;have i7:fa H3 qm Dr:=F0;refine S5 db k (∃(k:R)(e':g0)(dn:oy),RK [ik,jP,fo .bl C_,sI,qn,w0,e'] _W.rb _W.rb);refine ma e (nZ (aoc A) hr (cu ad (cu Z (cu ap Bz ch So aaS ((eu qm,m),k,q) Td i7 hM g8))) (λ vs H4 s4 hv=>?_)) p3 ?_;(.obtain⟨_,_,rfl,rfl,_,_,rfl,rfl,_,_,rfl,rfl,_,_,rfl,rfl,cv,_,rfl,rh,rfl⟩:=kL;exact(kA (od,n,k,cv,pL) (fH (Nh.later s4) rh (XY hM (by show Ug;exact V6 g8)) (_W.MR hM)) λ v H5 s5 h=>by rw[h,<-he]));.have CS:=M3;refine BH Cp Bs CS (it (oj (vs:=[vN k,wz]) bC ch g!) λ u H5 s5 hu=>?_);(rw[ce (ah j2 ax q5 aU j6) aU]);have tu:=aN s5 CS;refine T6 q5 tu j6;(.rw[wt Dw,z5 (show B! by simp;exact ax1 rE me g8 a3)]);. (refine #[_,rfl,db - e,by exact aBR FF me g8,e,_,dn++[(k,e)],rfl,by exact Yi FF f9 g8,rfl,ax b' o' hb,?_,?_,?_];(.rw[i1 hl A_ s5 vI hb]);.rw[aX,adG,rl];rfl);(.rw[<-md,bw,Qn];rfl);.rw[LO ahG FF rE]);.rw[F! me (fJ<=k)];rw[_W.aB2 (by exact Cv g8 me),Dm]at md;(have gs:Bo vF:=by rw[Dw];exact WO rE hk a3);rw[md]at gs;refine Fv #[LX,gs];rw[hL,md];rfl
zi.1(x:pb):aD:=[x.over,x.lack,Qo]
mO.2(H:Hp)(v:V)(x:pb):Prop:=cT H v (zi x)
aEH(A:Y):gp 6 "line_badness" (RQ bi (oe×R×R×Kd) [f?,iO,wd,vN mm,.bl oX] bA (sd/\br<=mm/\mm<=r9/\N9) fl o6 AX a? (Qh r4 gw iI br mm) oX):=bp A.asf Yg dt b5 bf λ q e H hr hp U hU=>by obtain⟨⟨a,⟨bb,d,kk⟩,y,t⟩,n,b,e,last⟩:=q;rw[cr dm λ hS eN fc hn=>?_];rw[p2];dsimp only at eN fc hn;have nd:=Yg.nd;rw[ck,kt i? o6 AX n z! last,c3 dY (bI 5 nd) em (lq - mx z!) (aW cW Z SC e aF #[Oa,eN,fc])];generalize z!=m;unfold V7;(refine aY (bP cM ch ai) tI m1 (iT (vs:=[f3 (-oC),xh,gc 1]) (ae (oB ch) bC ai ai)) pr v bx A5 bx q ?_ tI m1 (iT (vs:=[xv 0,if(ln last)then xh else em (oC*oC),gc 1]) (ae ai bC (kf gx a! (λ _=>ai) cL (iz apf ch ch ?_)) ai)) pr v cy A5 cy q ?_;(.rw[sm hZ h1];rw[e2,l0 an5 hZ];show GQ [kC (-oC),Iv,e5 1]=GQ [kC bD (m - n),_,_];rw[c5 (-oC=bD (m - n)) at0 hZ];rfl);.rw[p0 hZ h1];left;exact aGl hn hZ);.rw[p0 hZ h1];rw[e2,ii c5 (¬n<m) asu hZ];cases last with|bE=>rfl|false=>show GQ [Iv,kC (oC*oC),e5 1]=GQ [_,kC bD ((n - m)^2),_];(have e3:oC*oC=bD ((n - m)^2):=by have:hK - ld=bD (n - m):=f5 azx hZ;rw[az,Nat.pow_two,Int.natCast_mul]);rw[e3];rfl
aHI(A:Y):ef "summed" (RQ bi ((V×pb)×V×pb) [mA,a?] bA (mO H gr d0/\mO H a? b!) fl o6 (a.1.2.plus b!)):=fv A.aBd aEO λ q e H hr hp U hU=>by obtain⟨⟨v1,x⟩,v2,y⟩:=q;rw[cr iR λ aS q2 Hr h2=>lv q1 Q3 h1];dsimp only at Q3 Hr h1 h2;subst Q3 Hr;rw[n? ix (∀(σ:ei)(i:R),True) (λ _ _=>trivial),<-m1 (iT (ae (aW bV k! f4 x.over ad h1 k! f4 y.over Z h2) bC (aW bV k! f4 x.lack ad h1 k! f4 y.lack Z h2) (aW bV k! f4 Qo ad h1 k! f4 y.lines Z h2))) pr v dB A5 dB q ?_];rw[e2];rfl
Rc(x y:pb):_E.lexLe lB (zi x) n G! lB (zi y) n G!=x.le y:=by unfold zi MtLine.Bad.le;simp only[Vs,List.map_nil,_E.lexLe];rw[ww];simp only[t2,eh,dV,gk];by_cases h1:x.over=y.over;(.rw[l0 Cd h1];by_cases h2:x.lack=y.lack;(.rw[l0 Cd h2];by_cases h3:Qo=y.lines;(.rw[l0 Cd h3];simp[h1,h2,h3]);.rw[F7 l8 FN h3,ahW h1 h2]);.rw[F7 l8 FN h2,aDh h1 h2]);.rw[F7 l8 FN h1,aw4 h1]
kN.2(n:R):Key:=.inl hK
GK{a:R}(h:kN a=kN b):a=b:=by injection h with h;exact Dv h
zR.2:=R->pb×oy
}
structure LE(H:Hp)(L:aD)(F:zR)(J:R)(kl ke:fz):Prop where
 hi:∀j x,J<=j->pS->∃v,rN x=an v/\o6 (F j).1
 lo:∀j x,j<J->pS->wD x
 en:∀j x,J<=j->Tt e x e
def z:={
LE.heap{L:aD}{F:zR}(h:lC (LE H L F J))(s:∀v l,cT H v l->cT H' v l):lC (LE H' L F J):=#[λ j x hj hx=>by refine ah N6 hj ax v h1 h2;exact(af v h1 B3),nK,ro]
}
structure LI(H:Hp)(L:aD)(F:zR)(J x0:R)(oN:TU)(kl ke:fz):Prop where
 hi:∀j x,J<j->pS->∃v,rN x=an v/\o6 (F j).1
 lo:∀j x,j<J->pS->wD x
 en:∀j x,J<j->Tt e x e
 no:oN=aH->wD x0
 yes:∀b,oN=xd->(∃v,rN x0=an v/\o6 b.1)/\pO x0=bd (Gs b.2 0)
def z:={
LI.heap{L:aD}{F:zR}(h:wI H F oN)(s:∀v l,cT H v l->cT H' v l):wI H' F oN:=#[λ j x hj hx=>by refine ah N6 hj ax v h1 h2;exact(af v h1 B3),nK,ro,h.no,λ b hb=>by refine bq (h.yes b hb) λ aS h3=>lv v h1 h2;exact #[(af v h1 B3),h3]]
Y6{L:aD}(hp:AV){j x:R}(h1:de L i x)(h2:pS):i=j:=by rw[m7 l1 e1 h1,m7 l2 e2 h2];rcases Nat.lt_trichotomy i j with h|h|h;((.have:=x? hp i j l1 l2 h;exact ade az e1 e2);.exact h);.have:=x? hp j i l2 l1 h;exact ade az e2 e1
LI.put{L:aD}{F:zR}(h:wI H F oN)(hp:AV)(h0:de L J x0){v:V}{x:pb}{k:R}(hv:o6 x)(he:(fu).getD k 0=e):LI H L F J x0 an (x,k) (rp kl (kN x0) v) rL x0 e:=by(have ne:∀{j y:R},j≠J->de L j y->¬kN y=kN x0:=λ{j y}hj hy hk=>hj (Y6 hp hy (by rw[GK hk];exact h0));refine #[λ j y hj hy=>?_,λ j y hj hy=>?_,λ j y hj hl hy=>?_,(λ hb=>Ox),cR b hb];(.rw[kr,da (ne mk Gp hy)];exact h.hi j y hj hy);.rw[kr,da (ne mk V8 hy)];exact nK j y hj hy);(.rw[kr,da (ne mk Gp hy)];exact ro j y hj hl hy);.cases hb;rw[kr,pu,kr,pu,he];exact #[eH v hv,rfl]
LI.close{B:g?}{y:j4}{t:aD}{L:aD}{b:pb×R}(h:wI H (λ j=>Hf mu u? j) xd)(h0:de L J x0)(hl:KV J)(hb:_W.jv B y n t mu x0 fu a6 fu=an b)(a8:b.2<a6 fu):lC (LE H L (λ j=>Hf mu u? j) J):=by rw[m7 wR e0 h0];(have hd:Dx J=x0::fu:=by rw[KM wR,e0]);have C4:=_W.auE B y n t mu hb;rw[<-hd,Qs]at C4;refine bq (h.yes b O) λ aU yi=>ah aU ax v hv si;rw[I1]at a8;refine #[λ j x hj hx=>?_,nK,λ j x hj hlj hx=>?_];(.by_cases e:J=j;(.subst e;rw[a7 h0 hx hx,<-(af v hv ?_)];show o6 (zC Hf mu J).1;rw[fI C4 si]);.exact h.hi j x FP hx);.by_cases e:J=j;(.subst e;rw[a7 h0 hx hx];(have hg:L[va+b.2]?=an (Gs b.2 0):=by rw[PK,Dz,Lz Qt a8];rfl);rw[<-(i5 _ (va+b.2) yi OB hg ?_),lU (zC Hf mu J).2 C4]);.exact ro j x FP hlj hx
LE.open_{L:aD}{F:zR}(h:lC (LE H L F va))(h0:de L J x0):wI H F aH:=#[λ j x hj hx=>N6 hj,λ j x hj hx=>nK j x mk tq hx,λ j x hj hl hx=>ro j x hj hl hx,qZ (nK J x0 H! h0),(λ b hb=>Ox)]
DH{q:a5}{aq kvs':fz}(hq:k? H q aq){v:V}(h:cT H v l):cT (upd H q (.dK kvs')) v l:=by refine ah h ax a e h;refine k0 a ?_;rw[aV (λ e=>by subst e;rw[a7 h hq hq])];exact h
IZ{L:aD}(h:L[tg]?=an mu):kO ts (-1)=bd mu:=by(have h0:L≠[]:=λ e=>by rw[a7 e h h]);((have h1:L.map vN=L.dropLast.map vN++[vN (L.getLast h0)]:=by rw[Tg]);have h2:L.getLast h0=mu:=by rw[<-Qj,VY h0]at h;exact Qu h);rw[h1,h2];exact abk _ _
aGt{L:aD}(h:i<=hG):gS ts an bB i aH=jM u? i:=by unfold gS;rw[_H.xt,_H.aky,jd,Jc h,V9 (by rw[I1,jd];exact xX _),I2]
aao{σ:ei}{b:dk}{rest:HX}{ct:ej}{x:cs}(ha:mc a x)(hx:ln x):iv Tw (.BoolOp .Or (a::b::rest) ct) bE:=by(have h:=dr (y:=bE) (b:=b) (rest:=rest) (ct:=ct) ha λ e=>by rw[a7 hx e e]);rw[I?]at h;exact h
alY(A:Y):gp 7 "least_ends" (RQ bi (oe×R×HF×R) [f?,iO,br.1] bA (sd/\ba H br.1 w5/\N9/\Ok w5/\(∀p∈w5,p<=r9)/\a6 w5<=65/\w5[w? q4.1.2 - 1]?=an bm) fl FV kl qe lC (LE H w5 (λ j=>_W.lb r4 gw a? iI bm (q4.1.2.jk j)) 0)):=Fz A.apj SW λ q f aK A' cx s H0 H E hr hp=>by obtain⟨⟨a,⟨bb,d,kk⟩,y,t⟩,n,⟨iE,L⟩,mu⟩:=q;rw[cr v_ λ hS aS hn rj ju jT zN=>lv qL cD nj];rw[p2];dsimp only at cD nj hn rj ju jT zN⊢;rw[gg cD SW.nd];have hU:=jX hr;(have hL1:1<=hG:=by have:=gD zN;rw[d6 Nat.one_le_of_lt]);rw[kt i? FV kl qe lC (LE H L Fw 0),oi fd j? O6 i ft ze i (Q6 (Vo aI aI aaP) O O bQ bQ) fd ft or A2 Fo CD EF cz (aP j? Ir (cH Kl (mf aI) (cz (i:=8)) Ly O8 i zm B9 sX (pv 7) (pv 9) B9 xz (pv 7) Em dg)) os xz n' p];have ahs:r8 (aj H H2) qL hG:=Fn s3 qL Ca nj;refine ma mu (cO ap tO d! qq lj nj (IZ zN)) cR H2 s2;intro l1 fk;refine ma mu aF λ H3 s3=>it (iT (vs:=[xv 0,xh,xh]) (ae ai bC ai ai)) λ v0 H4 s4 hv0=>?_;have IT:k? H4 l1 []:=rP aX;refine(N8 IT ([(kN mu,v0)]) O r7 Iz l2 f7);(rw[ce (ah hv0.now ax q0 aU M8) aU]);((have n0:q0≠l1:=λ e=>by subst e;rw[a7 M8 IT IT]);have mz:l2≠l1:=λ e=>by subst e;rw[a7 aX f7 f7]);have VJ:iG H4:=λ b' o' hb=>rP (by rw[aV (c8 e? hb fk)];exact e? hb);have f1:ga (H1 l1):=s2.free fk;(have f2:ga (H1 l2):=by rw[aV mz]at f7;exact VJ.free f7);((have uJ:A? o oc iG B6 l1:=λ sx b' o' hb=>by rw[i1 f1 aN sx hb]);have B1:A? o oc iG B6 l2:=λ sx b' o' hb=>by rw[i1 f2 aN sx hb]);have EY:iG yv vp H4 (oA [] [(kN mu,dp q0)]) l2 []:=B1 (uJ VJ);(have ud:ko (Ni - -1)=vL:=by exact aMq);(refine(cA hQ pt wv hG pi H6 s6 pK ahs H6 (q8 (EY.trans s6)) tO tO λ vs H6 s6 ev=>(qJ Ni (-1) (-1) ((Ni - -1).toNat) Jm (nk.neg iK aIR cd asZ jT bQ bQ) (Bx wk i H' (∃(x6 x7 x8 x9:g0)(kl ke:fz),R! [ik,jP,GT,Hy,qi,qg,x6,x7,x8,x9] H' lC (LE H' L Fw (tg - i))) ?_ ?_ ?_)));.refine #[aH,aH,aH,aH,_,_,rfl,UR,qT (by rw[G? aV mz aX]),qT aX,?_,fy,fy];(have Bb:mO H6 eu q0 #[0,0,0]:=ol q0 s6 (by rw[aV (λ e=>by subst e;rw[aV n0]at f7;rw[a7 M8 f7 f7]),aV n0];exact M8);have vG:Dx tg=[mu]:=by rw[SE h1 h2 zN]);refine #[λ j x hj hx=>?_,λ j x hj hx=>?_,λ j x hj hl hx=>by exact(aLB hj hl).elim];(. (have jq:HM:=by have:=gD hx;rw[kw aGg hj]);subst jq;rw[a7 zN hx hx,<-(af eu q0 (mw O) ?_)];rw[vG,_W.aey];exact Bb);.show ga (b8 [(kN mu,yb q0)] (kN x));rw[l9 (λ e=>by have:=Y6 rj hx (by rw[<-GK e];exact zN);rw[kw arj hj])];rfl);(.rintro i a0 H' hi⟨x6,x7,x8,x9,kl,ke,rfl,sH,cI,nW,wZ,c_,gQ⟩;rw[ud]at hi;obtain⟨J,hJ⟩:∃J,vL - i=J+1:=#[hG - 2 - i,f5 axG hi];(have dj:bB hG - 2+Is*(iA (-1))=bB J:=by exact awP hJ);rw[hJ]at wZ;obtain⟨x0,Bn⟩:=eD rM L i J ams dj;have acz:ti H2 (lW->As H2 qL):=λ sx=>aN sx dP nj;rw[dj];refine ma x0 (cO ap g! (λ H7 s7=>qq vY (acz sH) (cg (by rw[np Bn])))) cR H7 s7;refine it (Vj (P:=qp fu) (i:=bB J+1) ap kc g! (vr H8 s8 E! qL d' dv s8 s7 (acz sH) λ q H9 s9=>ol q s9 (by rw[aX,show gS ts an Ea J aH=jM fu from eD (aGt (i:=J+1)) amE dj]))) λ u H8 s8 hu=>?_;(rw[ce (ah j2 ax qS a9 Ee) a9]);have sH8:=uK (s7.trans s8);have Am:=dv s8 s7 cI;have DK:=dv s8 s7 nW;have hLI:=(wZ.heap Gt (s7.trans s8)).open_ Bn;refine kA qS #[_,d' Ee] (uD (xs:=jM fu) (λ k c2 H2=>∃(x8 x9:g0)(kl ke:fz),c2=[ik,jP,GT,Hy,qi,qg,wx,bd x0,x8,x9]/\lW/\fa H2 qS h? fu/\Sg H2 wI H2 Fw Kf k (rU+k)) #[x8,x9,kl,ke,rfl,sH8,Ee,Am,DK,hLI,c_,gQ] (λ k c2 H2 _ bx=>Q5 bx λ _ _ _ _ _ _ hq _=>d' hq) ?_ ?_);(.rintro k x c2 H2 hk⟨y8,y9,kl,ke,rfl,ll,zQ,fk,vB,hI,c_,gQ⟩;(rw[ce (ah (eM hk) ax e he bu) bu]);((have pP:L[Cw]?=an e:=by rw[Dz]at he;exact he);have zF:k<64:=by have:=gD pP;exact aLq az jT);(have Mg:x0<e:=by rw[m7 a1 a2 Bn,m7 b1 b2 pP];have:=x? rj J Cw a1 b1 OB;exact U9 az a2 b2);have fc:=nc ju e pP;refine ah (hI.hi Cw e OB pP) ax ve vH eN;(have hgd:(fu).getD k 0=e:=C3 he;have NH:(AX n rx t x0 e (e==mu)).plus (zC yV mu Cw).1=(AX n rx t x0 (Gs k 0) (Gs k 0==mu)).plus (lc _W.lb mu ((fu).jk k)).1:=by rw[hgd,Qs]);generalize h_:(AX n rx t x0 e (e==mu)).plus (zC yV mu Cw).1=iW at NH;refine it (P:=pB v o6 iW) (nZ (aHI A) d1 Bz (aT (aEH A) hr (od,n,x0,e,e==mu) kM ad Z hQ i! CA (qw (m:=mu) CA aF) (λ H9 s9=>(fH EV ya yd s9 c5 (x0<=e) Dk Mg fc hn))) (vX (P:=λ v _=>v=ve) hU a! CA zS z H9 s9) (λ vs H9 s9 hv=>?_)) λ bv H9 s9 si=>?_;((.rw[wo,(aE l1 ve O (by rw[<-vH];exact dU.k (k:=kN e) aN s9 fk) fh)]);. (rw[w' pQ λ v1 _ bW h1 v2 _ cJ dw d7=>?_];subst bW cJ dw d7);exact(kA ((v1,_),v2,_) #[h1,pm gG s9 eN] λ v lX dE h=>by rw[<-h_];exact h));.have p9:=aN s9 fk;have xw:=aN s9 vB;have Hl:=hI.heap Gt s9;have hb9:=si.now;have CH:=yd s9;have hq9:=aN s9 zQ;(have go:ti H' (aj H9 H'->Fq=an xe->∃(x8 x9:g0)(wc xB:fz),[fo yb a,jP,GT,Hy,qi,qg,wx,bd x0,w2,an bv]=[ik,jP,GT,Hy,qi,qg,wx,bd x0,x8,x9]/\iG zA/\fa zA qS h? fu/\TY zA zA (LI zA L Fw J x0 Fq wc xB)):=λ{H'}sx hb=>by have g1:=aN sx p9;have g2:=aN sx xw;have gq:=aN sx hq9;((have nq1:qS≠l1:=λ e=>by subst e;rw[a7 gq g1 g1]);have nq2:qS≠l2:=λ e=>by subst e;rw[a7 gq g2 g2]);(have c1:j! vp H' EH l2:=by rw[aV mz];exact g2);(refine #[_,_,EH,rL x0 e,rfl,B1 (uJ (Jn sx)),by rw[aV nq2,aV nq1];exact gq,by rw[G? aV mz aX],aX,?_,?_,?_];(.rw[hb];have hI':=Hl.heap (λ v l h=>DH (kvs':=rL x0 e) c1 (DH (kvs':=EH) g1 (pm gG sx h)));exact hI'.put rj Bn (DH c1 (DH g1 (pm gG sx hb9))) hgd);.exact o9 B8 cd ad0 c_);.exact o9 B8 cd adA gQ);have DB:∀{m:R},m<=10000->m<CU:=eR lQ h;(have aNq:i<64:=by exact ao3 dj jT);cases oo:Kf k with|aH=>have gL:=Hl.no oo;(have kJ:Fq=an xe:=by rw[_W.jv,oo,NH]);refine(af bE ru aao (Of (z:=false) hU i! a! zS z lX dE) O (λ lX dE=>je ?_));(.rw[wo,(aE l1 aH O (by rw[<-gL];exact dU.k (k:=kN x0) tm) O)]);.rw[op eK p! _ l1 _ (oL x0 tm (DB (by exact ac4 dj c_ jT zF))) ?_ eK p! _ l2 _ (oL x0 (by rw[aV mz];exact Ib) (DB (by exact Sy dj gQ jT zF))) ?_,go dE kJ]|c! b=>refine bq (Hl.yes b oo) λ fM yi=>ah fM ax vb yf Ki;(have kJ:Fq=if(as (iW.le b.1))then an xe else xd:=by rw[_W.jv,oo,NH]);(refine cA ff (Of (z:=bE) hU i! a! zS z lX dE) (eA (ZA (aoA (uI hU)) (ns:=gu (zi iW) tN G!) (ms:=gu (zi b.1) tN G!) tY (vX (P:=λ v _=>v=vb) hU a! i! zS z lX dE) vr lX dE ?_ vr lX dE ?_)) p? lX dE bt;(.rw[wo,(aE l1 B? O (by rw[<-yf];exact dU.k (k:=kN x0) tm) O)]);.rw[wo,(aE l1 vb O (by rw[<-yf];exact dU.k (k:=kN x0) tm) fh)]);((.have e1:=j2;subst e1;refine ah (si lX dE) ax qb e2 h2;exact(af qb e2 (j0 (by rw[MB h2]))));.have e1:=j2;subst e1;refine ah (pm gG dE Ki) ax qb e2 h2;exact(af qb e2 (j0 (by rw[MB h2]))));(.rw[Rc,V!,jh]at hx;rw[iq hx]at kJ;rw[op eK p! _ l1 _ (oL x0 tm (DB (by exact ac4 dj c_ jT zF))) ?_ eK p! _ l2 _ (oL x0 (by rw[aV mz];exact Ib) (DB (by exact Sy dj gQ jT zF))) ?_,go dE kJ]);.rw[Rc,V!,jh]at hx;rw[ii hx]at kJ;refine #[_,_,kl,ke,rfl,Jn dE,aN dE hq9,tm,Ib,?_,TL c_,TL gQ];rw[kJ,<-oo];exact Hl.heap Gt dE);.rintro c2 H2⟨y8,y9,kl,ke,rfl,ll,zQ,fk,vB,hI,c_,gQ⟩;rw[jd]at hI c_ gQ;obtain⟨m,hm⟩:∃m,a6 fu=m+1:=#[w? fu - 1,by rw[L8 az1 dj]];refine ah (lc _W.anG mu x0 fu m) ax b hb a8;rw[<-hm]at hb a8;(have RS:td fu:=by rw[L8 asD jT]);rw[hb]at hI;refine #[_,_,y8,y9,kl,ke,rfl,ll,fk,vB,?_,tn aBw c_ RS,tn anN gQ RS];rw[c5 (vL - q6=J) agt dj];exact hI.close Bn cd aov dj hb a8);.rintro a0 H'⟨x6,x7,x8,x9,kl,ke,rfl,sH,cI,nW,wZ,c_,gQ⟩;rw[ud,qx (vL - tg=0) aqw]at wZ;exact Mj sH H7 (lP l2 kl ke O OE (wZ.heap Gt s7))
ahU(A:Y):gp 8 "ragged_lines" (RQ bi (oe×A7) [f?,iO,br] bA (sd/\AJ/\B5 bm iI/\N9) fl (lr FJ Qw bm/\Bo FJ Qw bm)):=Fz A.axx Rz λ q f aK A' cx s H0 H E hr hp=>by obtain⟨⟨a,⟨bb,d,kk⟩,y,t⟩,n,mv,m⟩:=q;rw[cr dm λ hS aS aR hn=>lv qm kU dR];rw[p2];dsimp only at kU dR aR hn⊢;rw[gg kU Rz.nd];have hU:=jX hr;rw[Gw a3 g8 aR.1,kt i? (lr Tm/\Bo Tm)];rw[_W.aK6];rw[oi (aP ft O6 i (mN fQ) fd ft ze i kb zs fd ft or (Dc Ri (mN (iu sX fQ)) aI) j? zV (cH (oQ kD dy R2 EE tV LR)) os tV) n' p,<-#[lH,λ l hl=>#[wk z H' (∃(k:R)(x5 x6:g0)(dn:oy),RM [ik,jP,sI,qn,w0,x5,x6] ye ye),(KG rD aH aH ([]) O lH O IF aX O (xX _)),?_]]];rintro z a0 H'⟨k,x5,x6,dn,rfl,hk,rfl,s2,hL,md,rE⟩;have vC:r8 qH qm fJ:=Fn s3 qm F0;refine #[_,qN a! wv fJ Gn vC,λ H3 s3=>fE bt bt];(. (have me:k<fJ:=by rw[nq hx,d6 sf]);obtain⟨S2,q,hM⟩:=aR.must me;have f9:=hM.lt;have bw:=vv _W.aCy t hM;have Nh:=ya Az;have i7:fa H3 qm Dr:=F0;have Ai:=XY hM c5 Ug V6 g8;(have DG:Ok Bk:=List.pairwise_cons.mpr #[λ p hp=>UW.1,Ai.rise];have JO:∀p∈k::pL,(m_ p):=λ p hp=>by rcases List.mem_cons.mp hp with rfl|hp;(.exact KZ me g8);.exact UW.2);((have jT:a6 Bk<=65:=by have:=O0 (show(m_ k)by exact KZ me g8) Ai.rise Ai.y4;rw[mE];exact azl az a3);have vg:Bk[w? Bk - 1]?=an nw:=by rw[<-Qj,_W.Dn hM,<-List.cons_append,Qg];rfl);have F_:Bk[0]?=an k:=rfl;(have ib:td pL:=by rw[mE]at jT;exact Nat.le_of_lt_succ jT);generalize Pt:k::pL=L at bw DG JO jT vg F_;rw[op #[λ c2 H2=>∃z',z'<db - k/\∃(k:R)(x5 x6:g0)(dn:oy),RK [ik,jP,sI,qn,w0,x5,x6] ye ye,wq,?_] BH TI λ p1 o7=>it (aT (aaS A) d1 ((eu qm,m),k,q) bC ap a! p3 Td (cV o7 _ _ i7) hM g8) λ cv H4 s4 rh=>?_];(rw[ce (ah rh.now ax qc aU yO) aU]);refine(Ck p1 qc _ _ O O Cb aX yO (by rw[ew,z5 (show _<=100 by simp;exact aHo ib)]) Iz qP KW);(have T5:aj H3 H4:=(cV o7).trans s4;have Yu:As G' H4 qP ([vN k]++jM pL) qP:=by rw[aX,<-Pt];rfl);(have JE:aj H3 G' H4 qP ([vN k]++jM pL):=T5.trans (cV KW);have nP:qP≠l:=λ e=>by subst e;rw[dv T5 s3 hL]at KW;cases KW);refine it (aT (alY A) hr (od,n,(eu qP,L),q+1) hQ ad Z ch Cf #[Nh.later (JE.trans s5),ol qP s5 Yu,hn,DG,JO,jT,vg]) λ ev H5 s5 yi=>?_;(rw[ce (gC yi.now λ qe kl ke a9 E4 wZ=>?_) a9]);have auH:lC (LE H5 L (λ j=>yV nw u? j) 0):=wZ;have hkq:=hM.le;have arS:=aN s5 Yu;have tu:fa H5 l h? vF:=aN s5 dv JE s3 hL;have vh:=CI RB JE.trans;(have nE:qe≠l:=λ e=>by subst e;rw[a7 E4 tu tu]);refine #[λ z2 c2 H2=>∃(j x:R)(dn:oy),c2=[ik,jP,sI,qn,bd x,ci qP,GR]/\pS/\z2=hG - j/\lW/\Sk As H2 qP H2 H2,#[hG,0,k,dn,rfl,F_,rfl,vh,arS,E4,tu,by rw[Pl,<-bw];exact md,rE],?_];rintro z2 c2 H2⟨j,x,J4,rfl,o3,rfl,ll,DN,Zi,f7,OK,Lb⟩;have hxt:=nc JO x o3;refine(cA qN a! (oR nw ch tO (λ H6 s6=>qq qT DN (IZ vg))) λ H6 s6=>fE BW BW);(. ((have DS:x<q+1:=by rw[nq cn,d6 aAP]);have hj:KV j:=by have h1:=gD o3;by_cases e:HM;(.subst e;rw[a7 vg o3 o3,aDg DS]);.exact aoQ h1 e);refine fW (auH.en j x lH hj o3) λ e j' vH hjj KL C4=>?_;(have hex:x<e:=by rw[RE KL j' hjj,U9 az a2 b2]);(have get:ti H7 (aj H6 H7->dU H7 qe f3 bB x w2):=λ s7=>by rw[<-vH];exact BQ (kN x) dv s7 s6 Zi);refine #[λ σ3 H3=>∃z',z'<hG - j/\∃(j x:R)(dn:oy),σ3=[ik,jP,sI,qn,bd x,ci qP,GR]/\pS/\z'=hG - j/\iG H3/\Sk As H3 qP H3 H3,wq,?_];(have hl6:=aN s6 f7;refine BH Cp Bs hl6 (it (oj (vs:=[vN x,wz]) bC a! S_ z7 H7 s7) λ u H7 s7 hu=>?_);.rw[wo,wS qe (get s7) fh]);(rw[ce (ah j2 ax q7 bu uS) bu]);(have hl7:=aN s7 hl6;refine T6 q7 hl7 uS;.rw[wt Dw,z5 (show B! by simp;exact aIu Lb DS f9 g8 a3)]);(have XE:j! G' H7 l ((rz J4).map vN++[vN x,wz]) qe:=by rw[aV nE];exact dv s7 s6 Zi);refine ma e S_ z8 H8 s8 cR H8 s8;(.rw[wo,wS qe (by rw[<-vH];exact BQ (kN x) xb XE) fh]);have hjl:=gD KL;(refine #[hG - j',tn ard hjl hjj,j',e,J4++[(x,e)],rfl,KL,rfl,λ b' o' hb=>xb ?_,xb (by rw[aV nP];exact dv s7 s6 DN),xb XE,xb ?_,?_,?_];(.rw[i1 hl aN s7 dv s6 ll hb]);.rw[aX,adG,rl];rfl);(.rw[<-OK,C4,Qn];rfl);.rw[LO az3 Lb hex]);.have DS:¬x<q+1:=eR (cn (xY cd ay8 h));(have hj:HM:=by have h1:=gD o3;by_cases e:HM;(.exact e);.rw[RE vg tg f6 S6 a1 e,anh az a2 b2 DS]);subst hj;(have Mg:x=q+1:=by rw[a7 vg o3 o3];rfl);subst Mg;(have vG:Dx tg=[nw]:=by rw[SE h1 h2 vg]);rw[vG,_W.aey]at OK;exact #[db - nw,by exact aJr f9 hkq g8,q+1,_,_,J4,rfl,tn le_of_le_of_eq f9 g8,rfl,yd s6,qT f7,OK,Lb]);.rw[F! me (fJ<=k)];rw[vv _W.agH t cd R8 me,Dm]at md;(have gs:Bo vF:=by rw[Dw];exact WO rE hk a3);rw[md]at gs;refine Fv #[LX,gs];rw[hL,md]
UF.1(fs:Bg)(k:bF)(b e:R)(j sp ea ini fin ri so un:cs):Prop:=t! UE=fo .int k/\jS ("begin":a4) qz/\jS ("end":a4) w2/\gM ("joined":a4) j/\gM ("spaceless":a4) sp/\gM ("east":a4) ea/\gM ("initial":a4) ini/\gM ("final":a4) fin/\gM ("ring":a4) ri/\gM ("soft":a4) so/\gM ("unassigned":a4) un
abo(A:Y):A0 1 "Unit" gn bi (bF×ks) [f3 dM,iO,EQ] o1 fl (∃q dx fs,rJ/\l! H q gn/\Qx<=11/\UF fs dM a? b! hA hA hA hA hA hA hA hA):=FY A.Unit A.du.init aMr dt b4 bf Jo ["kind","begin","end","joined","spaceless","east","initial","final","ring","soft","unassigned"] λ a e z dx H hr hp=>#[_,(.v Qz Z (.v A.du.acF ap (.v QA aF GY QC Jq GY QE QF GY QI QK GY QN QO tU))),rfl,λ H2 s2 hz=>#[z,dx,_,rfl,hz,TI,rfl,rfl,rfl,rfl,rfl,rfl,rfl,rfl,rfl,rfl,rfl]]
kI.1:ec->bF|xc=>la fR|aH=> -1
uX.1(o:ec):cs:=(o.map λ u=>u.is.sa).getD hA
kW.1(C:a5)(H:Hp)(v:V)(o:ec)(b e:R):Prop:=∃q dx fs,rJ/\l! H q C/\UF fs (kI o) b e (Ch.z4 o) (uX o) (Js o) (Ch.vO o) (Ch.wC o) (yh o) (Ch.xS o) (Ch.Ae o)
kW.later{C:a5}{v:V}{o:ec}(h:kW C H v o b e)(s:tF):kW C H' v o b e:=by refine gC h OL dx fs h1;exact(lP q dx fs h1 B3 h3)
aGL(A:Y):ic "no_unit" (RQ (λ _:Unit=>[]) o1 (λ _ v H=>m6 kW v aH 0 0)):=c7 A.avy aow dt b0 bf λ a f aK A' cx s H0 H E hr hp=>by refine m1 (tJ (abo A) d1 (-1,0,0) hQ ac Jt ai ai vc) pr v bx (hX bx λ q dx fs e1 e2 _ e3=>(lP q dx fs e1 e2 e3))
axc(A:Y):ic "is_east" (RQ bi (BK×ks) E1 bA (qf/\qd b!) dC (.bl (ps (Pi By 7 b!) [2,3,4]&&!QP a?))):=ng A.av1 aqn λ a e H hr hp U hU=>by obtain⟨⟨b,d,kk⟩,k,n⟩:=a;rw[y2 hR hs,f8,G8,ck,<-h' cc (UL [9,15,30,31] Z dz xV re cm up xW) (bY (zB [2,3,4] vW (sh 7) A.g.TQ ap pZ A.g.aww A.g.U1 A.g.YR))];rw[e,DE];rfl
aiO(A:Y):cB "unit_end" (RQ bi ((V×v4)×T7 R) [mA,iO] bA (ba H gr KC a.1.2/\(d0).jk a?=br::bm) dC (vN (a.2.1+DM br bm))):=fv A.amL Xq λ a e H hr hp U hU=>by obtain⟨⟨kv,S⟩,b,x,r⟩:=a;rw[cr bq λ aS hd=>lv qk k7 tT];dsimp only at k7 tT hd;rw[gg k7 Xq.nd];have hS:∀i,Pg[i]?=S[b+i]?:=TG hd;have hb:de S b x:=(hS 0).symm;(have a3:Jv=b+(uM+1):=by have:=rs List.length hd;rw[I1,mE]at az;have h2:=gD hb;rw[d6 asS]);rw[n? dj TH i z de S i z (λ{H1 i z}s1 hz=>mU c? tT (cg (by rw[nG,nG,hz];rfl))),<-ja nd NV ?_];unfold DM;(refine aY gx oq YE gl (oR gl ad Z bn (dj s1 hb)) bG h1 ap eb io;.rw[wP h1]);rw[da (by rw[h1];simp)];rw[p7 tr j (a0=[ci qk,qz,bd (xy+j)]/\j<=uM/\m=uM - j/\Ch.ie r=j+Ch.ie (r.drop j)) uM (fF 0 O lH O (by rw[Pl,Wb]))];rintro m a0 H1 s1⟨j,rfl,hj,rfl,hm⟩;have UU:r8 lW qk Jv:=vR H2 s3 (aE qk _ e (.inl (c? Ca dP tT)) (by rw[wt jd]));by_cases a8:j<uM;(.obtain⟨z,hz⟩:=dO a8;(have hSz:S[xy+j]?=an z:=by rw[qv (b+1+j=b+pJ) zg,<-hS pJ,List.getElem?_cons_succ];exact hz);obtain⟨_,ez⟩:=JQ hz;rw[KM a8,ez,Ch.Hv]at hm;refine(aZ _ ds qN ap n2 Jv ad rZ pK UU H2 s2 (c4 (oH [13,47] (oR uF ad ap d! (dj HK hSz)) cm I6 Jx)) bt bt);(. (rw[wp];have wM:Ub uF:=by have:=ir;rw[MP];simpa using az);rw[iq wM]at hm;refine lA 2 pN nd O ai yQ (Bq (uM - pJ) cd p6 a8 pJ ?_ cd Jy a8 O cd O_ hm);show[_,_,Ep (mb (xy+j)+1)]=_;rfl);.rw[xY (by exact aA3 a8 a3),ep]at hx;(have wM:¬(Ub uF):=by rw[MP,rY]);rw[ii wM]at hm;rw[gt ap F8,anm hm]);. (have hjr:j=uM:=by exact sS hj a8);rw[p4 qN ap n2 Jv ad rZ pK UU H2 s2 (xD (by exact aAr a3 a8)) (aG ap F8)];rw[hjr,List.drop_length]at hm;have:Ch.ie ([]:v4)=0:=rfl;exact amD hj hm az a8
}
section _P
namespace _M
open x3 x4 x! _L
def z:={
sJ{X:Cx}{σ:ei}{e:dk}{P:V->my Hp}{C:a5}(j:R){t:TS}{g:a4}{D:Ends}{H':Hp}{z dx:a5}{fs:Bg}(hc:dQ X.K C)(hn:cf X.K C g)(hl:Qx<1000)(he:Ev X σ H' e P)(hr:∀v H2,qH->bc (P v) H2->l! H2 z C->t D σ (upd H2 z (.ins C dx (bK g v fs))))(hz:l! H' z C)(ho:de σ j ci z):ph (Ez X.K (sN j) (aL X e) g) t D σ H':=by refine it he λ v H2 s2 hv=>#[_,ho,z,C,dx,fs,rfl,e? hz,hc,hn,hl,?_];exact hr v H2 s2 hv e? hz
}
section _M
namespace _P
open x3 x4 x! _L _M
variable{P:Qb}{w:World}{K:Qc}{mg:NJ}{tZ:Heap}{c:Cs}
variable{b bh J m:R}{ke kl:fz}{g x:a4}{C:a5}{z:jp×aD}{s:JB}
def z:={
DO.2(bk:BK)(y:j4)(t:aD):v4:=JZ jj Ie y
Eb(s:DI):QQ s.cls=rO [13,47] s.cls:=by rw[MP];rw[I5,I5,Wc,ut]
ajs(A:Y):jK "make_unit" (RQ bi (Rd BK×HF×V×T7 R) [Fj,ls,br,vN mm,vN (q4.2.1+DM HE HA)] bA (Gy/\ba H ls eQ/\wy eQ/\ba H br KC (DO gr d0 eQ)/\(DO gr d0 eQ).jk mm=HE::HA) fl (kW gn H v tj Ch.ig HE HA mm (q4.2.1+DM HE HA))):=bp A.atR U7 dt b5 bf λ a e H hr hp U hU=>by obtain⟨⟨⟨bb,d,kk⟩,y⟩,⟨tv,t⟩,kv,b,x,r⟩:=a;rw[cr gJ λ hR aS bJ aU hd=>ah aS λ qt fq dS=>ah aU ax qk k7 tT];rw[pp aQ bb hR];dsimp only at fq dS bJ k7 tT hd;subst fq k7;have JG:fa H qk h? Lu:=tT;have jo:(lw).jk b=x::r:=hd;have nd:=U7.nd;have f_:=Ch.E5 x r;have Wi:=Ch.YK x r;rw[ck];generalize hu:H?=ul at f_ Wi;have hS:∀i,Pg[i]?=lw[b+i]?:=TG jo;have Aa:lw[b]?=an x:=(hS 0).symm;(obtain⟨n,hn,vV⟩:∃n,de t b n/\x=T3:=by rw[nG]at Aa;cases e:t[b]? with|aH=>rw[a7 e Aa Aa]|c! n=>rw[e]at Aa;exact eH n (Qu Aa).symm);have rf:EJ:=m' bJ n Ml;obtain⟨lz,hlz⟩:∃lz,Pg[Pb]?=an lz:=dO (by rw[mE];exact ah0 Wi);((have hlc:lz.cls=Ch.zH x r Pb:=by unfold Ch.zH;rw[C3 hlz]);have hlS:lw[b+ul - 1]?=an lz:=by rw[c5 (b+ul - 1=b+Pb) ai7 f_,<-hS];exact hlz);refine hX (Ny abo P w A) λ f' fd' ps' hmU M hbU G=>?_;have U6:TH i z (lw[i]?=an z):=λ{H1 i z}s1 hz=>mU c? JG (cg (by rw[nG,nG,hz];rfl));rw[oi fd j? or j? zV fd j? Ir ft (b7 (i:=8)) (SU M G d1 O hmU hbU tU ni dX) (aP j? O8 i fd qE qE fd qE qE fd qE qE fd qE qE os Em) n' p,<-ma gl (cO ap aF d! (U6 HK Aa)) cR H2 s2,<-ma n (cO Z aF (λ H3 s3=>qq vI BR (cg (by rw[np hn])))) cR H3 s3,<-dY mH (jb ([13,47].uh gl)) (zB [13,47] ch cm I6 Jx) cR H4 s4,<-(cA (dY ae GP ws (gc 3) em bB gl rR gx i! pa cL ch bC aF a!) λ vs H5 s5 hvs z dx hz om be=>?_)];(have Lr:Nk ws (e5 3) kC bB gl=e5 (kI (c! mn)):=by show _=kC iA (mn).is.cls;rw[Ch.tK,Ch.Jr,Eb];rw[w1]);refine(AG (yE kI mn,b,b+ul) z dx H5 (by rw[hvs.now,Dm,Lr]) O hz om be trivial (λ H6 s6 jB=>#[rfl,?_]));refine hX jB.now λ q e_ fs e1 zr wR hUF=>?_;cases e1;(have sA:aj H H5:=S!;have free:A? o (aj H5 H') (aj H5 B6 z):=λ s' b' o' hb=>by rw[i1 hz aN s' hb]);have lp:∀{f:a4}{v:V}{fs:Bg}{m:R},Qx<=m->a6 (bK f v fs)<=m+1:=eR (o9 aN DA _ (Nat.succ_le_succ h));have cl:=Jo;refine dY mH (vN (kS 1 n)) (ER 1 n T! s6 bQ rf ad ac A.g.N' g!) cR H7 s7;have t7:=s6.trans s7;refine sJ 8 cl QC lQ wR (qw (m:=47) (oR lz.cls ap NR (λ H8 s8=>by refine ah (U6 (JC (t7.trans s8)) hlS) ax xs h1 h2;exact(af xs h1 (by rw[c5 (bD (b+ul) - 1=bD (b+ul - 1)) ayN f_];exact h2)))) ac Jx) qV H8 s8 hz8 vY zr O;cases kL;have t8:=AM o (bK "joined" e! El fs) (t7.trans s8);have l1:=nB (lp (f:="joined")) El wR;refine sJ 8 cl Jq lQ l1 (qw (m:=39) (aT (Z4 A) hr (tk,n) bC ad g! (λ H9 s9=>#[fP (JC (t8.trans s9)),rf])) ac A.g.SA) qV H9 s9 hz9 aX O;cases kL;have t9:=AM o J? (t8.trans s9);have l2:=nB (lp (f:="spaceless")) J8 l1;refine sJ 8 cl QE lQ l2 (aT (axc A) hr (tk,gl,n) kM ad ch d2 g! (λ lX dE=>#[fP (JC (t9.trans dE)),rf])) qV lX dE Rp aX O;cases kL;have t10:=AM o (bK "east" e! J! J?) (t9.trans dE);have l3:=nB (lp (f:="east")) J! l2;refine sJ 8 cl QF lQ l3 (qw (m:=16) tY ac A.g.PI) qV H11 zI aMN aX O;cases kL;have t11:=t10.trans zI;have l4:=nB (lp (f:="initial")) Rb l3;refine sJ 8 cl QI lQ l4 (qw (m:=17) tY ac A.g.PF) qV RO j8 aMV aX O;cases kL;have l5:=nB (lp (f:="final")) AA l4;have t12:=MF zx t11 j8;refine sJ 8 cl QK lQ l5 cc (qw (m:=9676) g! ac A.g.aAu) (bY (UL [9,15,30,31,13,47] ch Rw re I6 Jx)) qV H13 qG Br aX O;cases kL;have l6:=nB (lp (f:="ring")) FG l5;have t13:=MF (HW e! AA zx) t12 qG;refine sJ 8 cl QN lQ l6 cc (qw (m:=8208) g! ac A.g.aGe) tG i! qV H14 s14 aMO aX O;cases kL;have l7:=nB (lp (f:="soft")) LQ l6;have t14:=MF (OQ e! FG (HW e! AA zx)) t13 s14;have Zq:=AM o (bK "soft" e! LQ (OQ e! FG (HW e! AA zx))) t14;refine sJ 8 cl QO lQ l7 cc (qw (m:=0) tY ac A.g.CN) cc (BJ A hr 12 n T! Zq rf ad U4 g!) tG i! qV H15 s15 aNk aX O;cases kL;have t15:=AM o (bK "unassigned" e! (lf==0&&(yF n&&!Rq)) (bK "soft" e! LQ (OQ e! FG (HW e! AA zx)))) (Zq.trans s15);have sB:iG H5:=F6 CI;obtain⟨u1,u2,u3,u4,u5,u6,u7,u8,u9,u10,u11⟩:=hUF;(have F3:∀(g:pH DI),(∀k,g {x with cls:=3,ring:=false,soft:=false,open_:=false}=g x)->g (mn).is=g x:=λ g hg=>by rw[FM];split;(.exact hg 0);.rfl);(refine cA O (p _ _ (sB.trans t15) λ H16 s16=>#[z,e_,_,rfl,aN s16 aX,?_,?_,?_,?_,?_,?_,?_,?_,?_,?_,?_]);(. (rw[lS]);exact u1);. (rw[lS]);exact u2);(. (rw[lS]);exact u3);((. (rw[lS]);show i3 El=i3 (Ch.zH x r (H? - 1)==47);rw[hlc,hu]);. (rw[lS]);show i3 J8=i3 (mn).is.sa;rw[F3 (·.sa) bf,vV];rfl);(((. (rw[lS]);show _=i3 (mn).is.east;rw[F3 (·.east) bf,vV];rfl);. (rw[lS]);show _=i3 (mn).is.initial;rw[F3 (·.initial) bf,vV];rfl);(. (rw[lS]);show _=i3 (mn).is.final;rw[F3 (·.final) bf,vV];rfl);. (rw[lS]);show _=i3 (mn).is.ring;rw[FM];rw[Eb];((have aE6:x.ring=(n==9676&&!J'):=by rw[vV];rfl);have hc:[9,15,30,31,13,47].uh gl=(J'||ws):=by unfold QP xO;rw[F2,(Ud Ud or_assoc).symm]);rw[hc];cases hm:ws with|bE=>simp|false=>rw[ut,GJ,aE6]);(. ((rw[lS]);show _=i3 (mn).is.soft;rw[FM];rw[Eb];have ap6:x.soft=Rv:=by rw[vV];rfl);cases hm:ws with|bE=>simp|false=>rw[GJ,ap6,P9,IW]);. ((rw[lS]);show _=i3 (mn).is.open_;rw[FM];rw[Eb];have L0:x.open_=(yF n&&lf==0):=by rw[vV];rfl);cases hm:ws with|bE=>simp|false=>rw[GJ,L0,P9,IW,DE]
j7.1(C:a5)(H:Hp)(vs:g')(us:ca)(n:R):Prop:=uc=n/\∀i v,de vs i v->∃u,de us i u/\kW C H v xc gT (mP us q6)
iN.1(C:a5)(H:Hp)(v:V)(us:ca):Prop:=∃q vs,rJ/\qj H q vs/\tw C vs b?
j7.later{C:a5}{H H':Hp}{vs:g'}{us:ca}{n:R}(h:tw C vs n)(s:tF):j7 C H' vs us n:=#[h.1,λ i v hv=>by rw[SZ h u (h2.later s)]]
iN.later{C:a5}{H H':Hp}{v:V}{us:ca}(h:iN C H v us)(s:tF):iN C H' v us:=by refine aO h λ q vs h1 h2 h3=>?_;exact(aE q vs h1 B3 (h3.later s))
alg{H:Hp}{v:V}{o:ec}{e:R}{l:a5}{xs:g'}{ob:HO}(h:kW C H v o b e)(hl:qj H l xs):kW C (upd H l ob) v o b e:=by refine gC h OL dx fs h1;refine(lP q dx fs h1 ?_ h3);rw[aV (λ e=>by subst e;rw[a7 h2 hl hl])];exact h2
j7.upd{C:a5}{H:Hp}{vs:g'}{us:ca}{n:R}{l:a5}{xs:g'}{ob:HO}(h:tw C vs n)(hl:qj H l xs):j7 C (_L.upd H l ob) vs us n:=#[h.1,λ i v hv=>by rw[SZ h u (alg h2 hl)]]
j7.snoc{H:Hp}{vs:g'}{us:ca}{n:R}{u:jp}{v:V}(h:tw C vs n)(hu:de us n u)(hv:kW C H v xc po n (mP us IM)):tw C (vs++[v]) IM:=by refine #[by rw[IQ,h.1];rfl,ax i z hz];by_cases hi:i<uc;(.rw[List.getElem?_append_left hi]at hz;exact h.2 i z hz);.rw[eD List.getElem?_append_right P! hi]at hz;(have:i - uc=0:=by by_cases e:i - uc=0;(.exact e);.rw[Wd (by simp;exact acw e)]at hz;cases hz);rw[a7 az hz hz];(have ju:i=n:=by have:=h.1;omega);subst ju;exact(af u hu hv)
E'(us:ca)(i:R):gT<=Rs:=by by_cases h:(oM i);(.unfold mP;rw[Dq];(conv=>rhs;rw[<-List.take_append_drop i us]);rw[rl,We];exact vm);.unfold mP;rw[eD V9 Nat.le_of_not_ge h,Dq];exact xX _
Kq{l:v4}:∀i,i<=a6 wQ->i<=mP wQ i|0,_=>lH|i+1,h=>by obtain⟨u,hu⟩:=eD (dO (l:=wQ) (i:=i)) Pm h;have:=Kq (l:=l) i nm h;have h2:=nc (Ch.CK _ l O).1 u hu;rw[Ch.yl hu];exact Nat.add_le_add az h2
aIp(A:Y):Sd (gp 6 "units_of") (qf/\AD/\AJ/\wy bm/\td bm) m6 iN v (DQ (DO dM eQ bm)):=k8 A.atZ YZ dt b3 bf λ a f aK A' cx s H0 H E hr hp U hU=>by obtain⟨⟨bb,d,kk⟩,⟨wa,y⟩,tv,t⟩:=a;rw[cr gJ λ hR hW aS bJ a3=>A!];rw[pp aQ bb hR];have uP:vA wa y:=hW;dsimp only at fq dS bJ a3;rw[gg fq YZ.nd];(have hs:L1 k n t:=eR L_ _;have hsz:At:=by rw[zK]);rw[n? ee m? ["book","ways","text","kinds","units","begin","end","scalar"] En ("scalar",7) jI (mV (cq En)),kt i? m6 iN v LW,<-V1 7 3 (f:=dT (vN nF My xr)) O nd ee ap FB qt dS bf hsz (λ s' dG C cl fp k x hk=>?_) Ft (λ qk Hk sk tT=>?_)];(. (rw[LS m aU aU]);refine iQ (aT (acf A) hr (tk,(wa,y),m) hQ ad Z i! bn #[nb,N?,xk]) nU;rw[e,gW]);(have JG:fa Hk qk h? Lu:=by rw[tT,xl tM (vN nF My m),hE,hE];rfl);generalize iB:LW=us;(have b_:MU:=by rw[<-iB,Ch.L5,jd]);rw[RC R1 uB sX ft or tX (∃(i:R)(e':g0)(vs:g'),a0=[lx,GV,ki,ci qk,qn,bd gT,e',aH]/\oM i/\z=b? - i/\oc/\qj H' l vs/\j7 gn H' vs us i) (AG b? 0 aH ([]) (by rw[Ch.Oc];rfl) lH O IF aX O (λ i v hv=>by simp at hv))];rintro z a0 H'⟨i,e',vs,rfl,hi,rfl,s2,hL,hU⟩;have YN:ti H2 (qH->fa H2 qt jj):=λ sx=>dv sx s2 dP aN sk dS;have abR:ti H2 (qH->fa H2 qk h? Lu):=λ sx=>dv sx s2 dP JG;have B_:r8 qH qt db:=vR H2 s3 (aE qt _ e Cp (c? (YN s3)) J1);refine cA qN ch wv db Gn B_ p? H3 s3 bt;(. ((have a8:gT<db:=by rw[nq hx,d6 sf]);have Fy:HC:=by by_cases e:i=b?;(.subst e;exact ahI a8 b_);.exact Qi hi e);(obtain⟨x,r,hd⟩:∃x r,fr (lw).jk mP i=x::r:=by rw[Qq (by rw[ew,a8])];exact oS);(have GC:us[i]?=tj Ch.ig x r:=by have:=Ch.ae5 (l:=lw) (i:=i) (s:=x) (r:=r) (by rw[iB];exact Dk Fy) (by rw[fI iB hd]);rw[iB]at az;exact az);have abC:po q6=gT+H?:=Ch.yl GC;refine S5 b? i (∃(i:R)(e':g0)(vs:g'),c2=[lx,GV,ki,ci qk,qn,bd gT,e',aH]/\oM i/\NA i/\lW/\qj H2 l vs/\j7 gn H2 vs us i);refine ma (gT+H?) So aiO ((eu qk,lw),gT,x,r) #[eH qk UA abR,hd] cR H4 s4;have CS:=M3;refine BH Cp Bs CS (it (aT (ajs A) d1 ((tk,y),(eu qt,t),dp qk,gT,x,r) (ae ad kM ap aF bC ch g!) Cf (jN KS sk.trans S! w4 F6 YN bJ eH qk F6 abR hd)) λ u H5 s5 hu=>?_);have tu:=aN s5 CS;have hvl:uc=i:=hU.1;have UX:=Kq (l:=lw) i (by rw[iB];exact Dk Fy);rw[iB]at UX;refine(p8 l _ u O O tu lQ (show _<=64 by exact aqR hvl UX a8 a3) ?_);refine #[_,rfl,b? - q6,f5 p6 Fy,i+1,_,vs++[u],by rw[abC];rfl,L! Fy,rfl,ax b' o' hb,aX,?_];(.rw[i1 hl A_ s5 vI hb]);.rw[<-j7.upd (j7.snoc F6 QR GC ?_) tu,fI abC j2]);. ((have fV:db<=gT:=by rw[FO (¬iA gT<bB db) hx,d6 zu]);have fg:EP i:=by by_cases e:i=b?;(.exact e);.exfalso;obtain⟨u,hu⟩:=v! i (by exact Qi hi e);have h2:=(Ch.CK _ lw O).1 u (by rw[iB];exact CT hu);have h3:=E' us q6;rw[Ch.yl hu,b_]at h3;exact aHp h2 h3 fV);subst fg;exact Fv (aE l vs O M3 UA QR)
EG(o:ec)(l:aD):gO BG (o_ vN)=on:=by cases o with|c! u=>exact Ay fR l|aH=>show gO f3 (-1) (o_ vN)=false;unfold gO;rw[VX];intro x hx;(rw[ce (ah (t6 hx) λ n _ aS=>?_) aS]);show¬((lq== -1)=bE);rw[fI gk auB]
axJ(o:ec)(l:aD):gO BG (f3 (-1)::lu)=Ut:=by rw[<-EG o l];show(qK f3 (-1) BG||gO BG (o_ vN))=_;congr 1;cases o with|c! u=>show(pq (-1)==bB fR)=false;rw[fI Vn alT]|aH=>rfl
}
section
variable{X:Cx}{σ:ei}{H:Hp}{a:dk}{es:HX}{ct ji:ej}{o:ec}{x1:R}{vs:g'}
def z:={
oT(l:aD)(ha:sl)(hb:s_)(hv:wi)(hf:sj)(hl:sq)(hm:zD):mc i2 In sw on:=by rw[sK EG o uH]
oh(l:aD)(ha:sl)(hb:s_)(hv:wi)(hf:sj)(hl:sq)(hm:zD):jL i2 In sw on:=by rw[sK EG o Bh]
JU(l:aD)(ha:sl)(hb:s_)(hv:e7 (vs=em (-1)::lu))(hf:sj)(hl:sq)(hm:zD):jL i2 In sw Ut:=by rw[sK axJ o Bh]
ay4(l:aD)(ha:sl)(hb:s_)(hv:wi)(hf:sj)(hl:sq)(hm:e7 D' .xP Ec):jL i2 xP sw (!on):=by rw[sK EG o RL]
P8(o:ec)(m:R):nD (kI o=ld) GM:=by cases o with|c! u=>show nD (dl fR=ld) rO [m] fR;rw[F2,VO]|aH=>show bH (pq (-1)=ld)=false;exact Ex apx
gH{b:dk}(m:R){k:bF}(ha:sl)(hb:li b k)(hk:z3 k)(hm:zU):mc i2 Eq [b] GM:=by rw[<-P8,<-hk];exact eV ha hb hm
dH{b:dk}(m:R){k:bF}(ha:sl)(hb:li b k)(hk:z3 k)(hm:zU):jL i2 Eq [b] GM:=by rw[<-P8,<-hk];exact dW ha hb hm
afv{b:dk}(m:R){k:bF}(ha:sl)(hb:li b k)(hk:z3 k)(hm:yR NotEq b):mc i2 NotEq [b] (!GM):=by rw[<-P8,<-hk];exact fZ ha hb hm
VU(A:c'){v:V}{u:ec}{e:R}(hn:No)(ho:iv Ev a pB v M5 u)(hg:∀fs,Ta (UF fs (kI u) b e) uX yh->l_ g v)(hb:Lw a a a):M_ a g v:=Ji ho (λ w H1 s1 hw=>by refine gC hw.now λ q dx fs e1 e2 e3=>?_;exact(kX q gn dx fs v e1 e2 Jo hn (hg fs e3) fh)) hb
}
section z
def z:={
AH(A:Y):jK "unit_at" (RQ bi ((V×ca)×bF) [mA,em dd] bA wA fl (∃b e,M5 (uQ d0 dd))):=wh A.akn aoW λ q f aK A' cx s H0 H E hr hp=>by rw[S0 z g_ uQ,<-aY (sZ d5 cM ai Z Lf) io io];(.rw[eh,dV,dV]at h1;rw[tb xp];obtain⟨v,hv⟩:=rM vs i C5 (by exact aGw h1 hl);rw[Mz v u hu];rw[hu];refine aG (v:=v) (cO ad Z bn (af vs (c? dP eJ) ?_)) λ H1 s1=>Ed (QS s1);rw[c5 (z=iA r0 C5) ax5 h1];exact cg hv);. (have hn:ga Rt (0<=z) (us[C5]?):=by split;(.rename_i h0;rw[xY h0,ep,xH]at h1;exact eD Wd aJ2 h1);.rfl);rw[im hn m1 (LM (aGL A) hr (bn cA kA () trivial O λ v H2 _ h=>h)) pr v h (d3 0 0 h)]
aix{us:ca}{n:R}{u:jp}(h:de us n u):vf uR IM=if fR==41 then vf uR n else yY IM:=by unfold uR;rw[uT h,List.dropWhile_cons]
sT(u:jp)(m:R):e6 xc [m]=(fR==m):=by show[m].uh fR=_;rw[I5,Wc,ut]
}
section
variable{X:Cx}{σ:ei}{H:Hp}{o e:dk}{ct ji:ej}{q:a5}{vs:g'}{us:ca}{i:bF}{j n:R}{u:jp}
def z:={
Bp(A:c')(hq:sR qj H1 q vs)(hU:tw gn vs n)(hn:EP n)(ho:nY o q)(hi:lY)(hj:qC)(hu:de us j u)(hs:se)(hb:Q' (P0 (.P2 o e ji) "kind") sG sG):li UV (.Df sG) nC kI:=by(have hl:E9:=by rw[hU.1,hn]);obtain⟨v,hv⟩:=rM vs i j (by have:=gD hu;exact BP az hl);rw[Mz v u' eE,a7 hu eE eE,VU A Qz (eT (cO (v:=v) ho hi bn (af vs (c? (hq H1 s1)) (by rw[hj];exact cg hv)) hs) λ w H1 s1 e=>by rw[e];exact QS s1) Cg h.1 hb]
}
section z
def z:={
azd(A:Y):ef "last_no_space" (RQ bi F1 [mA,Cl] bA (wA/\dd<oI) (λ a v _=>tr n (v=em oU/\n<=dd+1/\uR (pc d0 (a.2+1))=pc d0 n))):=wh A.awL QV λ q f aK A' cx s H0 H E hr hp=>by rw[L2 vs hU QV.nd,p7 tr n (a0=[GW,m5 oU]/\n<=p+1/\m=n - 0/\lG uR=vf uR n) eI #[eI,by rw[qv ((mb eI - 1)=tC) M1];rfl,fy,rfl,rfl]];rintro m a0 H1 s1⟨n,rfl,hn,hm,hz⟩;by_cases h0:0<n;(.rw[R7 ad7 hn hp];have bw:=aix hu;rw[c5 (AR+1=n) yD ip]at bw;refine(aZ _ ds Hs sU (gH 41) K! rk bt bt);(.rw[eh,sT]at hx;rw[iq ir]at bw;rw[RT (lA 1) (by rw[hz,bw]) [_,wJ oU]]);.rw[FS,ep,sT]at hx;rw[da (by rw[hx];simp)]at bw;exact aG Z nN kA n hn (by rw[hz,bw]));.rw[LY oE (n=0) oE,p4 Hs FT (aG Z nN eK (aZ 0) hn (by rw[hz];rfl))]
Be{z D dx:a5}{ns:OR}{u:ec}(h0:UE∉ns):Cm z C dx ns i? (∃b e,kW D H v u b e):=λ v H fs gN hz hf h=>by refine gB h λ b e h=>gC h OL e_ fs1 h1;(have n:q≠z:=λ e=>by subst e;rw[a7 h2 hz hz,h0 aN hf h3.1]);exact d3 b e (lP q e_ fs1 h1 (by rw[aV n];exact h2) h3)
}
structure cS(c:Cs)(H:Hp)(a:a5)(us:ca)(p:R)(cU:cs):Prop where
 lt:N0 p
 ex:∃dx fs uv xx x y yy jW z zz,l! H a QX/\l_ ("units":a4) uv/\jS ("place":a4) bd p/\gM ("is_cut":a4) cU/\l_ ("xx":a4) xx/\l_ ("x":a4) x/\l_ ("y":a4) y/\l_ ("yy":a4) yy/\l_ ("yyy":a4) jW/\l_ ("z":a4) z/\l_ ("zz":a4) zz/\m6 iN uv us/\∀q∈[(xx,lG Ch.rK),(x,lG pe),(y,wY nL eI),(yy,wY DR eI),(jW,wY Ch.Au eI),(z,lG DT),(zz,lG Ch.yZ)],∃b e,kW gn H q.1 q.2 b e
def z:={
cS.later{H H':Hp}{a:a5}{us:ca}{p:R}{cU:cs}(h:jw)(s:tF):cS c H' a us p cU:=by obtain⟨dx,fs,uv,xx,x,y,yy,jW,z,zz,h1,h2,h3,h4,h5,h6,h7,h8,h9,eW,eB,mT,fY⟩:=kE;exact #[h.lt,dx,fs,uv,xx,x,y,yy,jW,z,zz,Ii,h2,h3,h4,h5,h6,h7,h8,h9,eW,eB,mT.later s,λ q hq=>by refine gB (fY q hq) ax b e h;exact(d3 b e (DU s))]
aLj(A:Y):A0 5 "Place" QX bi ((V×ca)×Kd) [mA,iO,.bl b!] bA (wA/\a?+1<oI) fl oD (cS c H q d0 a? b!):=by refine CG A.Place A.eC.init aek dt b4 bf λ a f aK A' cx s E z dx H1 hr hz om be hp=>?_;obtain⟨⟨uv,us⟩,p,cU⟩:=a;rw[y2 js a8];have xm:iN gn H1 uv us:=js;refine aO js zJ g_ eJ hU;dsimp only at g_ eJ hU a8⊢;rw[gg g_ aek.nd];have a3:E9:=hU.1;refine cA (aP LR (aKm Co (pv 0) HU (.jg HU (.jg HU HU tU)))) Iz D nn;have s0:=B4 (o:=.own z) (o':=.ins QX dx []) hz om;obtain⟨vx,QB⟩:=rM vs i p (by exact ag0 a8 a3);obtain⟨vy,hvy⟩:=n9 l vs (p+1) (by exact Qv a8 a3);refine ah (hU.2 p vx QB) ax ux hux hOx;refine ah (hU.2 eI vy hvy) ax uy huy hOy;refine it (aT (azd A) d1 ((eu qu,us),p) bC Z ap d! #[QY (s0.trans s2),Tq a8]) λ ns H2 s2 rf=>?_;(rw[ce (bL rf.now λ n aS hn ua=>?_) aS]);have ua:lG uR=Os:=ua;have hn:n<=p+1:=hn;(have eXX:lG Ch.rK=uQ us zL:=by unfold Ch.rK;rw[Tu Ch.Vu a8];congr 1;exact aIL);((have eX:lG pe=an ux:=by unfold pe;rw[uT hux];rfl);have eY:wY nL eI=an uy:=by unfold nL;rw[Wf,huy]);(have eYY:wY DR eI=uQ us (dl p+2):=by unfold DR;rw[Ch.XN];congr 1);(have ap7:wY Ch.Au eI=uQ us (dl p+3):=by unfold Ch.Au;rw[Ch.XN];congr 1);(have eZ:lG DT=uQ us oU:=by unfold DT;rw[ua,Ch.acE (by omega)]);(have eZZ:lG Ch.yZ=uQ us (oU - 1):=by unfold Ch.yZ;rw[ua,Ch.Vu (by omega)];congr 1;exact anC);rw[op (nX.go (ns:=["units","place","is_cut","xx","x","y","yy","yyy","z","zz"]) (λ H=>∃q,yb z=dp q/\cS c H q us p cU) Co (pv 0) A.eC.cl hz (.v A.eC.Sl Z (.v A.eC.Zy ap (.v A.eC.abO aF (.p A.eC.abl EW (tC - 1) oJ Fa H6 s6 s6 nR Be (.v A.eC.WQ (cO (v:=vx) Z ap (λ H7 s7=>(af vs d' vY eJ (cg QB)))) (.v A.eC.Rh (cO (v:=vy) Z Fb (λ H8 s8=>(af vs d' xb eJ (cg (j:=p+1) hvy)))) RN A.eC.RG (tC+2) RN A.eC.To (tC+3) (.p A.eC.XA EW zM a! Fa H6 s6 s6 nR Be (.p A.eC.Si EW (zM - 1) NR Fa H6 s6 s6 nR Be tU)))))))) (s0.trans s2) e? aX (λ H3 s3 vxx wu vyy LC azs aDm vz hvz vzz arJ e=>?_) (λ H3 s3 q=>nn _ _ s3 q)) #[z,rfl,a8,dx,_,dp qu,vxx,vx,vy,vyy,azs,vz,vzz,e,rfl,rfl,rfl,rfl,rfl,rfl,rfl,rfl,rfl,rfl,QY s3,?_]];rw[eXX,eX,eY,eYY,ap7,eZ,eZZ];exact fm wu (fm Ed (hOx.later s3) (fm Ed (hOy.later s3) (fm LC (fm aDm (fm hvz (fm arJ fm0))))))
}
section
variable{X:Cx}{σ:ei}{H:Hp}{o:dk}{ct:ej}{a:a5}{us:ca}{p:R}{cU:cs}{u:ec}
def z:={
OU.2(c:Cs)(u:ec):V->my Hp:=pB v (∃b e,M5 u)
qX(A:c'){v:V}(hn:No)(ho:nu)(hg:∀fs b e,Ta (UF fs (kI u) b e) uX yh->l_ g v)(hb:Lw o o o):M_ o g v:=Ji ho (λ w H1 s1 hw=>by obtain⟨b,e,q,dx,fs,e1,e2,e3⟩:=hw.now;exact(kX q gn dx fs v e1 e2 Jo hn (hg fs b e e3) fh)) hb
uk(A:c')(ho:nu)(hb:eq (er "kind")):j5 UV et (.int (kI u)):=o0 A Qz h.1
uj(A:c')(ho:nu)(hb:eq (er "joined")):kq fn (et "joined") Ch.z4 u:=o0 A QC It.1
us_(A:c')(ho:nu)(hb:eq (er "spaceless")):kq fn (et "spaceless") uX u:=o0 A Jq It.2.1
ue(A:c')(ho:nu)(hb:eq (er "east")):kq fn (et "east") Js u:=o0 A QE BD.1
ui(A:c')(ho:nu)(hb:eq (er "initial")):kq fn (et "initial") Ch.vO u:=o0 A QF BD.2.1
uf(A:c')(ho:nu)(hb:eq (er "final")):kq fn (et "final") Ch.wC u:=o0 A QI BD.2.2.1
ur(A:c')(ho:nu)(hb:eq (er "ring")):kq fn (et "ring") yh u:=o0 A QK It.2.2.2.2.2.1
uo(A:c')(ho:nu)(hb:eq (er "soft")):kq fn (et "soft") Ch.xS u:=o0 A QN BD.2.2.2.2.1
uu(A:c')(ho:nu)(hb:eq (er "unassigned")):kq fn (et "unassigned") Ch.Ae u:=o0 A QO BD.2.2.2.2.2
Bf.2(us:ca)(p:R):=yY eI
Af.2(us:ca)(p:R):=Ik eI
Gm(A:c')(h:jw)(ho:jJ)(hb:eq (er "xx")):n3 fn (et "xx") fr Ch.rK Bf p:=by obtain⟨dx,fs,uv,xx,x,y,yy,jW,z,zz,h1,h2,h3,h4,h5,h6,h7,h8,h9,eW,eB,mT,fY⟩:=kE;exact(pR xx A.eC.abl h5).imp λ v H1 s1 e=>by rw[r_ (fY (xx,_) Kg) e e]
px(A:c')(h:jw)(ho:jJ)(hb:eq (er "x")):n3 fn (et "x") fr pe Bf p:=by obtain⟨dx,fs,uv,xx,x,y,yy,jW,z,zz,h1,h2,h3,h4,h5,h6,h7,h8,h9,eW,eB,mT,fY⟩:=kE;exact(pR x A.eC.WQ h6).imp λ v H1 s1 e=>by rw[r_ (fY (x,_) (n1 _ Kg)) e e]
py(A:c')(h:jw)(ho:jJ)(hb:eq (er "y")):n3 fn (et "y") fr nL Af p:=by obtain⟨dx,fs,uv,xx,x,y,yy,jW,z,zz,h1,h2,h3,h4,h5,h6,h7,h8,h9,eW,eB,mT,fY⟩:=kE;exact(pR y A.eC.Rh h7).imp λ v H1 s1 e=>by rw[r_ (fY (y,_) Kx) e e]
zP(A:c')(h:jw)(ho:jJ)(hb:eq (er "yy")):n3 fn (et "yy") fr DR Af p:=by obtain⟨dx,fs,uv,xx,x,y,yy,jW,z,zz,h1,h2,h3,h4,h5,h6,h7,h8,h9,eW,eB,mT,fY⟩:=kE;exact(pR yy A.eC.RG h8).imp λ v H1 s1 e=>by rw[r_ (fY (yy,_) (n1 _ Kx)) e e]
aJi(A:c')(h:jw)(ho:jJ)(hb:eq (er "yyy")):n3 fn (et "yyy") fr Ch.Au Af p:=by obtain⟨dx,fs,uv,xx,x,y,yy,jW,z,zz,h1,h2,h3,h4,h5,h6,h7,h8,h9,eW,eB,mT,fY⟩:=kE;exact(pR jW A.eC.To h9).imp λ v H1 s1 e=>by rw[r_ (fY (jW,_) Lp) e e]
pz(A:c')(h:jw)(ho:jJ)(hb:eq (er "z")):n3 fn (et "z") fr DT Bf p:=by obtain⟨dx,fs,uv,xx,x,y,yy,jW,z,zz,h1,h2,h3,h4,h5,h6,h7,h8,h9,eW,eB,mT,fY⟩:=kE;exact(pR z A.eC.XA eW).imp λ v H1 s1 e=>by rw[r_ (fY (z,_) (n1 _ Lp)) e e]
pzz(A:c')(h:jw)(ho:jJ)(hb:eq (er "zz")):n3 fn (et "zz") fr Ch.yZ Bf p:=by obtain⟨dx,fs,uv,xx,x,y,yy,jW,z,zz,h1,h2,h3,h4,h5,h6,h7,h8,h9,eW,eB,mT,fY⟩:=kE;exact(pR zz A.eC.Si eB).imp λ v H1 s1 e=>by rw[r_ (fY (zz,_) (n1 _ (n1 _ Lp))) e e]
}
section z
def z:={
aCO(A:Y):ef "none_if" (RQ (λ b:cs=>[e! b]) o1 yt b em Ui):=wg A.amX aqf λ b f aK A' cx s H0 H E hr hp=>by rw[gt rR gx ad Ds ry uU eb];cases b<;>rfl
gV{X:Cx}{σ:ei}{H:Hp}{e:dk}{p ct:ej}{b:cs}(A:c')(hr:Cu)(he:jL e b)(hg:vQ (x2 "none_if"))(bw:nf [e] hH e [])(a_:zy):li qs (jG "none_if" p) [e] Ui:=aT (aCO A) hr b (ae he ao bw) vc hg bQ bw a_
vM:o5 [] (-1):=rfl
ly(b:cs)(s:JB)(l:MQ):o5 ((b,s)::l) (if wm then Ns else ym l):=Bl b
iP{b:cs}{l:MQ}(h:b=false):o5 ((b,s)::l) (ym l):=by rw[ly,h,GJ]
nO{b:cs}{l:MQ}(h:wm):o5 ((b,s)::l) Ns:=by rw[ly,w!]
iM(b:cs):o5 [(b,.aH)] (if wm then 0 else -1):=Bl b
e9.2(c:Cs)(k:R):RP:=RQ bi (a5×E8) [KY] bA KP dC (gc (ym BE (Bf a? br) (Af a? br) aH))
as6(A:Y):ef "rule_1" (dL 1):=c0 A.aCT auV λ q e H hr hp U hU=>by rw[d4,<-aY fx (gH 9) xV bG h1 ac Jf eb tI (aY ds fx (gH 15) re sU (gH 30) gh up bG h2 ac Ds eb v5 h2 rR (oT [15,30,31] nv pZ re up xW) Jf ry uU)];all_goals rw[dA];simp only[ly,vM,h1];first|rfl|(simp only[h2];first|rfl|(cases iH [15,30,31]<;>rfl))
aC8(A:Y):cB "rule_2" (dL 2):=c0 A.axR ax0 λ q e H hr hp U hU=>by rw[d4,lD (oh [9,15,30,31,41,46] gh RX)]
aBc(A:Y):ef "rule_3" (dL 3):=c0 A.aLZ aG0 λ q e H hr hp U hU=>by rw[d4,gt E0 pn (gH 46) pz Db uU eb,dA];rw[ly];rw[s? e6 fr DT Bf p [46]]
avZ(A:Y):cB "rule_4" (dL 4):=c0 A.asL aDH λ q e H hr hp U hU=>by rw[d4,lD rt uj px]
aEc(A:Y):cB "rule_5" (dL 5):=c0 A.al7 att λ q e H hr hp U hU=>by rw[d4,lD mi fx (dH 45) A.g.WJ (bY (dH 45 gh ac A.g.WJ))]
M9(o:ec)(l:aD):MtLine.isNot o l=!on:=Bl o
axS(A:Y):cB "rule_6" (dL 6):=c0 A.aoE ass λ q e H hr hp U hU=>by rw[d4,gt lk mi fx (dH 19) D0 (bY (cp m8 (dH 19) D0 cL (bY (ay4 [41,7,23] nv dz rk A.g.BA d2 ac D1)))) mZ,dA];rw[ly,iM,M9];rw[s? iH [19]]
aBh(A:Y):cB "rule_7" (dL 7):=c0 A.aJf aq7 λ q e H hr hp U hU=>by rw[d4,lD (oh [12,14,18,42] gh dz JF D3 cm A.g.EX JI)]
aKn(A:Y):cB "rule_8" (dL 8):=c0 A.ayE aMf λ q e H hr hp U hU=>by rw[d4,lD pn (dH 34) pz JJ]
alH(A:Y):cB "rule_9" (dL 9):=c0 A.aLO aa7 λ q e H hr hp U hU=>by rw[d4,<-bI 1 aa7.nd (JU [9,15,30,31,34,37,19,41,46] kT pzz dz Jt xV dz re up dz xW JJ dz yo D0 cm rk Db) ?_,lD cc pn II pz yo cc rt ui pz (bY Z)]
aK5(A:Y):cB "rule_10" (dL 10):=c0 A.amY ZX λ q e H hr hp U hU=>by rw[d4,<-bI 1 ZX.nd (JU [41,19,45,12,37,14,18,26,42,9,15,30,31,46] kT zP yP Jt dz rk D0 dz A.g.WJ JF dz yo D3 dz A.g.EX yq yP JI dz xV re pZ up xW Db) ?_,lD cc LH II cc wB uf (bY Z)]
agr(A:Y):ef "rule_11" (dL 11):=c0 A.aGx aFA λ q e H hr hp U hU=>by rw[d4,<-Sm m8 (afv 26) yq h1 ds fx (gH 41) rk sU (gH 33) kT zP nJ];(.rw[dA];rw[q?]at h1;simp only[ly,vM,h1];rfl);.rw[dA];rw[rc]at h1;simp only[ly,vM,h1,ep];rw[s? (iH [41]&&e6 fr DR Af p [33])]
aGb(A:Y):cB "rule_12" (dL 12):=c0 A.avT aw0 λ q e H hr hp U hU=>by rw[d4,<-kp ds m8 (gH 32) I7 (c4 (oT [12,14] kT pz cm JF D3)) h1 pY h1 lk cc m8 (dH 6) A.g.B2 (bY (dH 6 kT pz ac A.g.B2))];(.rw[dA];rw[nO h1];rfl);.rw[dA];rw[o8,iM]
alI(A:Y):ef "rule_13" (dL 13):=c0 A.aqt azY λ q e H hr hp U hU=>by rw[d4,gt E0 fx (gH 41) rk uU eb,dA];rw[ly];rw[s? iH [41]]
aIU(A:Y):cB "rule_14" (dL 14):=c0 A.avj aFB λ q e H hr hp U hU=>by rw[d4,<-kp ds LH (gH 37) (c4 (dI (bN wB ui))) h1 pY h1 lk cc fx II yo tG rt uf px];(.rw[dA];rw[nO h1];rfl);.rw[dA];rw[o8,iM]
aII(A:Y):cB "rule_15" (dL 15):=c0 A.aiX arG λ q e H hr hp U hU=>by rw[d4,<-kp ds LH (gH 37) (c4 (dI (CQ (cE (bN (ue A wV)) cL o2 rt ue zP)))) h1 pY h1 lk cc fx II yo tG cc wB ue (bY (ue A nQ Gm))];(.rw[dA];rw[JK]at h1;rw[nO h1];rfl);.rw[dA];rw[JK]at h1⊢;rw[o8,iM]
aKg(A:Y):ef "rule_16" (dL 16):=c0 A.ar1 arR λ q e H hr hp U hU=>by rw[d4,gt E0 ff fx (gH 10) A.g.CB (eA (gH 10 gh ac A.g.CB)) uU eb,dA];rw[ly];rw[s? (iH [10]||nV [10])]
sE(o:ec)(l m:aD):e6 o (l++m)=(on||e6 o m):=by cases o with|aH=>rfl|c! u=>show(l++m).uh fR=(I4 fR||m.contains fR);rw[F2]
F9.2(l:aD):RP:=RQ (λ o:ec=>[BG]) o1 yt o (jb (MtLine.is o l))
wO(A:Y):ef "is_letter" (F9 [3,22]):=wg A.ayW aKo λ q f aK A' cx s H0 H E hr hp=>Mr (oh [3,22] ad cm pa C!)
Ye(A:Y):ef "is_ideograph" (F9 [24,16,17]):=wg A.aIn afW λ q f aK A' cx s H0 H E hr hp=>Mr (oh [24,16,17] ad dz xT A.g.EB d2 ac A.g.EM)
X3(A:Y):ef "is_korean" (F9 [27,29,28,20,21]):=wg A.avR aKq λ q f aK A' cx s H0 H E hr hp=>Mr (oh [27,29,28,20,21] ad yP I_ dz C? Da cm I8 I9)
ou{X:Cx}{σ:ei}{H:Hp}{e:dk}{p ct:ej}{l:aD}{o:ec}(F:aM X.prog X.w X.K uq X.base 1 x (F9 l))(hr:Cu)(he:j5 e (.int (kI o)))(hg:Ln)(eg:L3 x a4)(bw:nf [e] hH e [])(a_:zy):jL qs (jG x p) [e] on:=aT F hr o (ae he ao bw) vc hg eg bw a_
Jw.1(x y:ec):cs:=(e6 x [27]&&e6 y [27,29,20,21])||((e6 x [29,20]&&e6 y [29,28])||(e6 x [28,21]&&e6 y [28]))
FI{o:ec}{l m:aD}(h:as on)(hd:∀k∈l,m.contains k=false):e6 o m=false:=by cases o with|aH=>rfl|c! u=>exact hd fR (by have:as (I4 fR):=h;simpa using az)
axC(A:Y):ef "syllable_goes_on" (RQ bi (ec×ec) [.int (kI dM),gc (kI dd)] o1 dC (jb (Jw dM dd))):=fv A.aIN ana λ q e H hr hp U hU=>by obtain⟨x,y⟩:=q;rw[Aj Jw];(refine aY (gH 27 ad ac I_) bG h1 (oh [27,29,20,21] Z dz I_ C? cm I8 I9) kZ tI (aY (oT [29,20] ad cm C? I8) bG h2 (oh [29,28] Z cm C? Da) kZ bG h2 cc (oh [28,21] ad cm Da I9) (bY (dH 28 Z ac Da)) kZ);(.rw[h1,FI (m:=[29,20]) h1 bQ,FI (m:=[28,21]) h1 bQ];simp);.rw[h1,h2,FI (m:=[28,21]) h2 bQ];simp);.rw[h1,h2];simp
aEt(o:ec):QZ o=(e6 o [2,5]||yh o):=Bl o
aCf(A:Y):ef "is_kernel" (RQ bi (V×ec) [a.1] bA (OU c dd dM H) dC (jb (QZ dd))):=c0 A.aCt axm λ q e H hr hp U hU=>by obtain⟨v,o⟩:=q;have ho:OU c o v H:=hp;rw[c3 hU _,gt mi (oh [2,5] (uk A (eT ad λ w H1 s1 e=>by rw[e];refine gB ho ax b e' h;exact(d3 b e' (DU s1)))) cm A.g.AK A.g.AS) (bY (ur A (eT ad λ w H1 s1 e=>by rw[e];refine gB ho ax b e' h;exact(d3 b e' (DU s1))))) D! bO (aEt o)]
AZ{X:Cx}{σ:ei}{H:Hp}{e:dk}{p ct:ej}{u:ec}(A:c')(hr:Cu)(he:n3 e u)(hg:vQ (x2 "is_kernel"))(bw:nf [e] hH e [])(a_:zy):kq qs (jG "is_kernel" p) [e] QZ u:=nZ (aCf A) hr (cu he ao bw) (λ vs H1 s1 hv=>by(rw[ce (ah (sP hv) ax v aS Hr) aS]);exact kA (v,u) Hr.now IC) hg bQ bw a_
}
section
variable{X:Cx}{σ:ei}{H:Hp}{o:dk}{ct:ej}{a:a5}{us:ca}{p:R}{cU:cs}
def z:={
EI(A:c')(h:jw)(ho:jJ)(hb:eq (er "units")):iv Ev fn (et "units") i? m6 iN v us:=by obtain⟨dx,fs,uv,xx,x,y,yy,jW,z,zz,h1,h2,h3,h4,h5,h6,h7,h8,h9,eW,eB,mT,fY⟩:=kE;exact(pR uv A.eC.Sl h2).imp λ v H1 s1 e=>by rw[e];exact mT.later s1
HS(A:c')(h:jw)(ho:jJ)(hb:eq (er "place")):l? fn (et "place") p:=by obtain⟨dx,fs,uv,xx,x,y,yy,jW,z,zz,h1,h2,h3,h4,h5,h6,h7,h8,h9,eW,eB,mT,fY⟩:=kE;exact cQ ho J3 A.eC.Zy h3 hb
aGq(A:c')(h:jw)(ho:jJ)(hb:eq (er "is_cut")):jL fn (et "is_cut") cU:=by obtain⟨dx,fs,uv,xx,x,y,yy,jW,z,zz,h1,h2,h3,h4,h5,h6,h7,h8,h9,eW,eB,mT,fY⟩:=kE;exact cQ ho J3 A.eC.abO h4 hb
}
section z
def z:={
azb(A:Y):ef "digits_before" (RQ bi F1 [mA,em (pq a.2 - 1)] bA (wA/\dd<=oI) dC (jb (rr (pc d0 dd)))):=wh A.axj V0 λ q f aK A' cx s H0 H E hr hp=>by rw[L2 vs hU V0.nd,p7 tr n (a0=[GW,m5 oU]/\n<=p/\m=n - 0/\TF=fr rr pc p) p #[p,rfl,fy,rfl,rfl]];rintro m a0 H1 s1⟨n,rfl,hn,hm,hz⟩;by_cases h0:0<n;(.obtain⟨u,hu⟩:=n9 l us AR (by exact aDy h0 hn hp);(have ip:zM=bD r6:=by exact Al h0);(have bw:TF=(fR==33||(MA&&vf rr r6)):=by have:=uT hu;rw[FU AR n ip,qA]);refine(aZ _ ds Hs (c4 (oT [42,26] K! cm JI yq)) bt bt);(.rw[wp];have h33:e6 xc [33]=false:=FI ir bQ;rw[sT]at h33;have ju:as MA:=ir;rw[h33,ju,jh,ep]at bw;rw[<-vZ (lA 1) nd (Bq r6 f6 JA ip hm r6 ?_ cd HB hn O (by rw[<-hz,bw])),lU [_,wJ oU] ip]);.rw[FS,ep]at hx;have ju:MA=false:=hx;rw[ju,rd,ut]at bw;rw[iX cc (gE eL Z ai) (bY (Cz K! ac nJ))];rw[FS,ep,sT,<-hz,bw]);.rw[LY oE (n=0) oE,p4 Hs FT (aG (EN (gE eL Z ai) FT) kZ)];rw[<-hz];rfl
P_{X:Cx}{σ:ei}{H:Hp}{e o:dk}{p ct:ej}{us:ca}{n:R}{i:bF}(A:c')(hr:Cu)(ho:iv Ev o i? m6 iN v us)(he:lY)(hi:i=zM)(hn:oM n)(hg:vQ (x2 "digits_before"))(bw:nf [o,e] hH o [e])(Ij:nf [e] hH e [])(a_:e7 Et [e] any):kq qs (jG "digits_before" p) [o,e] rr Os:=nZ (azb A) hr (cu ho (cu he ao Ij) bw) (λ vs H1 s1 hv=>by(rw[w' pQ λ v r aU h1 w r2 a9 bu bW=>?_];subst aU a9 bu bW);exact(aZ ((v,us),n) (by rw[hi]) #[h1,hn] IC)) hg bQ bw a_
akh(A:Y):R? (cB "digits_end") a5 (.bl (rr (Bf a? br)||(e6 (pe (Bf a? br)) [12,14]&&rr ((Bf a? br).jk 1)))):=c0 A.aGE aim λ q e H hr hp U hU=>by rw[yr a p q];have a8:=h.lt;rw[ck,<-gf (bN (P_ (n:=p+1) A hr Hi Hj iK VP nm a8)) h1 bG h1 cc (oh [12,14] nv cm JF D3) (bY (P_ (n:=p) A hr Hi pt Hj O cd au8 a8)) kZ];(.rw[h1];rfl);.rw[h1,jh,Tu Ch.ab6 a8];rfl
aHZ(A:Y):ef "indicators_up_to" (RQ bi F1 [mA,Cl] bA (wA/\dd<oI) dC (vN a6 Ko (Bf d0 dd) u)):=wh A.ahn aaO λ q f aK A' cx s H0 H E hr hp=>by rw[L2 vs hU aaO.nd,<-ja nd Z ?_,p7 tr n (a0=[GW,bd p,m5 oU]/\n<=p+1/\m=n - 0/\(eI - n)+a6 Ko Os u=a6 FC) eI #[eI,by rw[qv ((mb eI - 1)=tC) M1];rfl,fy,rfl,by rw[Q1,Wb]]];rintro m a0 H1 s1⟨n,rfl,hn,hm,hz⟩;by_cases h0:0<n;(.rw[R7 ad7 hn hp];have rq:=uT hu;rw[c5 (AR+1=n) yD ip]at rq;refine(aZ _ ds zb ap sU (gH 38) Ro eJ ap ip A.g.WW bt bt);(.rw[eh,sT]at hx;rw[rq,Vx (p:=λ u:jp=>vt) ir,mE]at hz;rw[RT (lA 2) (by exact akl hz ip hn) [_,_,wJ oU]]);.rw[FS,ep,sT]at hx;rw[rq,Tk p (λ u:jp=>vt) (by rw[hx];simp),P7]at hz;rw[gt (aW cW Z ap) mZ,awO hz hn]);.rw[LY oE (n=0) oE];rw[show(pc us 0).P6 (λ u=>vt)=[]from rfl,P7]at hz;rw[p4 zb ap FT (aG (aW cW Z ap) mZ),aqF hz]
azJ(A:Y):cB "rule_17" (dL 17):=c0 A.akb KU λ q e H hr hp U hU=>by rw[d4,<-bI 1 KU.nd mi fx (dH 23) D1 (bY (uo A wV)) (ja KU.nd (JU [9,15,30,31,41,46,10,19] kT Gm yP Jt dz xV re dz up xW dz rk Db cm A.g.CB D0) ?_),lD cc Z cc ap (bY (dH 3 gh ac pa))]
aj5(A:Y):cB "rule_18" (dL 18):=c0 A.af8 abd λ q e H hr hp U hU=>by rw[d4];(refine kp ff (oT [7,23,32] gh dz A.g.BA D1 d2 ac I7) (eA (gH 8 nv ac A.g.BB)) h1 io;.rw[dA];cases hb:nV [7,23,32]with|bE=>rfl|false=>rw[hb,jh]at h1;rw[iP O,nO h1];rfl);rw[LZ,<-bI 1 abd.nd mi fx (dH 23) D1 (bY (cp fx (dH 7) A.g.BA cL tG rt ue px)) ?_,<-kp ds pn (gH 22) Gm C! (cE m8 (afv 22) C! cL o2 Z) h2 pY h2 lk cc fx (dH 42) JI (bY (dH 22 gh ac C!))];(.rw[dA];rw[iP xp,iP tP,nO (by rw[M9,DE (iH [23]||_)];exact h2)];rfl);.rw[dA];rw[iP xp,iP tP,iP (by rw[M9,DE (iH [23]||_)];exact h2),iM]
aAW(A:Y):cB "rule_19" (dL 19):=c0 A.aCW aw8 λ q e H hr hp U hU=>by rw[d4,lD m8 (dH 25) A.g.IN]
avi(A:Y):cB "rule_20" (dL 20):=c0 A.aFc Nc λ q e H hr hp U hU=>by rw[d4,<-bI 1 Nc.nd nv (ja Nc.nd gh ?_),<-kp ff ds (bN (ou Pf hr Z)) (c4 (oT [33,36,35] ap pZ nJ uY uZ)) (eA (CQ (cE (oT [33,36,35] Z dz nJ uY d2 ac uZ) cL o2 Ha ap))) h1 pY h1 lk mi cc th (dH 36) uY (bY (ou (Ye A) hr ap)) (bY (cp (ou (Ye A) hr Z) cL (bY (dH 35 ap ac uZ))))];(.rw[R9 b4 (iH [24,16,17]&&nV [35]) b6];revert b0 b1 b2 b3 b4 b5 b6;decide+kernel);.rw[R9 b4 (iH [24,16,17]&&nV [35]) b6];revert b0 b1 b2 b3 b4 b5 b6;decide+kernel
aJl(A:Y):ic "rule_21" (dL 21):=c0 A.avx Hb λ q e H hr hp U hU=>by rw[yr a p q];have a8:=h.lt;have lM:bZ 1 _:=d1;rw[c3 hU _,<-bI 1 Hb.nd nv (ja Hb.nd gh ?_)];(refine kp ds (oT [35,36] ap cm uZ uY) o2 (aT (akh A) hr (a,us,p,cU) d2 ad bn (DU s1)) h1 io;.rw[dA];rw[nO h1];rfl);refine bI 3 Hb.nd mi pn Cz zP nJ (bY (cp pn (dH 26) zP yq cL (bY (Cz kT aJi ac nJ)))) ?_;refine kp ds (oT [35,36] Z cm uZ uY) (cE (gH 34 ap ac JJ) cL o2 aF) h2 pY h2 (gV A lM cc (Cz ap ac nJ) (bY (fL (oh [35,36,23,26] Z dz uZ uY cm D1 yq) cL (bY (P_ (n:=p+1) A lM Hi Hj iK VP nm a8)))));(.rw[dA];rw[o8,nO h2];rfl);.rw[dA];rw[o8,iP h2,ly,ly,vM];first|(rw[LF SQ KK Tj])|(rw[GI SQ KK Tj]<;>rfl)
aok(A:Y):cB "rule_22" (dL 22):=c0 A.af5 P5 λ q e H hr hp U hU=>by rw[d4,<-bI 1 P5.nd nv (ja P5.nd gh ?_),gt lk mi (aT (axC A) hr (ND Bf,fr nL Af p) bC Z ap vc) mi cc (ou (X3 A) hr Z) (bY (dH 35 ap ac uZ)) (bY (cp th (dH 36) uY cL (bY (ou (X3 A) hr ap)))) mZ];(conv in JR=>whnf);simp only[ly,vM];unfold Jw;first|(generalize R'=b0;generalize Sh=b1;rw[E6 Sj R_ b3];revert b0 b1 b2 b3;decide)|(rw[GI R' Sh Sj]<;>cases R_<;>rfl)
yH.1(us:ca)(p:R)(cU:cs):bF:=GP vn [3,22] [3,22] (if(as (cU&&uX (nL xa)))then 1 else 0) (-1)
aFG(A:Y):R? (cB "rule_23") a5 em (yH a? br bm):=c0 A.afS ar8 λ q e H hr hp U hU=>by rw[yr a p q,Aj yH,<-Sm ff tA Ha nv (eA (dI (bN Ha gh))) h1 ds gx nQ aGq o2 wB us_];(.rw[<-JK,q?]at h1;rw[h1];rfl);.rw[<-JK,rc]at h1;rw[h1,iq (rfl:ln bE)];rw[s? (cU&&uX (nL xa))]
aqr(A:Y):cB "rule_24" (dL 24):=c0 A.azv ame λ q e H hr hp U hU=>by(rw[d4,<-kp ds fx (gH 4) A.g.AP o2 BY nQ py h1 tI kp ds gx BY wV (c4 (oT [43,44] gh cm A.g.VF A.g.VI)) h2 λ h2=>kp ds gx BY nQ Gm (cE fx (gH 44) A.g.VI cL (c4 (CQ (dr m8 (gH 2) A.g.AK cL (eA (bN wB ur)))))) h3 pY h3 lk cc BY wV cc BY nQ py (bY (dH 43 kT zP ac A.g.VF))];(.rw[dA];rw[nO h1];rfl);.rw[dA];rw[o8,nO h2];rfl);(.rw[dA];rw[o8,iP h2,nO h3];rfl);.rw[dA];rw[o8,iP h2,iP h3,iM]
aqz(A:Y):cB "rule_25" (dL 25):=c0 A.ayf aKz λ q e H hr hp U hU=>by rw[d4,lD cc fx (dH 26) yq (bY (ou Pf hr gh))]
aJ3(A:Y):cB "rule_26" (dL 26):=c0 A.azL aro λ q e H hr hp U hU=>by rw[d4,<-kp ds ff (bN (ou Pf hr nv)) (eA (gH 33 nv ac nJ)) (cE m8 (gH 34) JJ cL (c4 (dI (bN wB ue)))) h1 pY h1 lk cc fx (dH 14) D3 cc (iL (ue A wV)) (bY (fL Ha gh cL (bY (Cz gh ac nJ))))];(.rw[dA];rw[Fc ([3,22,33]:aD) ([3,22]++[33]),sE,sE,nO h1];rfl);.rw[dA];rw[Fc ([3,22,33]:aD) ([3,22]++[33]),sE,sE,o8,iM]
aG9(A:Y):cB "rule_27" (dL 27):=c0 A.aoX aAp λ q e H hr hp U hU=>by rw[yr a p q];have a8:=h.lt;rw[c3 hU _,gt lk cc m8 (dH 38) A.g.WW (bY (dW (iz vj (nZ (P:=λ v _=>v=vN a6 FC) (aHZ A) hr Bz Hi Hj (λ vs H1 s1 hv=>by(rw[w' pQ λ v r aS h1 w r2 aU a9 bu=>?_];subst aS aU a9 bu);exact kA ((v,us),p) #[h1,Tq a8] IC)) ai bQ) ai)) mZ,dA];rw[iM];rw[Ss u hu a8];(have hx:ND Bf=an u:=by unfold pe Bf;rw[uT hu];rfl);(have rq:vP=u::pc us p:=uT hu;have akW:nD ((mb w? FC)%2=1) ((w? FC)%2==1):=by rw[zY,ahM]);rw[akW,hx,sT];cases h38:vt with|bE=>rw[ep]|false=>rw[rq,Tk p (λ u:jp=>vt) (by rw[h38];simp)];rw[s? nV [38]]
aqj(A:Y):cB "rule_28" (dL 28):=c0 A.ajO aBg λ q e H hr hp U hU=>by rw[d4,lD cc mi fx (dH 16) A.g.EB (bY (uu A wV)) (bY (dH 17 gh ac A.g.EM))]
sv.1(us:ca)(p:R)(cU:cs)(k:R):bF:=if k=23 then yH us p cU else ym BE vP xa aH
z9.2(c:Cs)(k:R):RP:=RQ bi (a5×E8) [KY] bA KP dC em (sv a? br bm k)
fO{k:R}(h:aM P w K mg tZ m x (e9 c k))(hk:k≠23)(hm:m<=3):∃f,mg x=ci f/\GE 3 f (z9 c k):=by refine ah h.at_ ax f h1 h2;refine(af f h1 ?_);(have e:z9 c k=e9 c k:=by unfold z9 e9 sv;simp only[ii hk]);rw[e];exact h2.mono hm
qc{F:a4->my R}{k:R}{x:a4}{l:OR}(h:F x k)(r:∀i n,gy i n->F n (el+i)):∀i n,(x::l)[i]?=an n->F n (k+i)|0,n,e=>by cases e;exact h|i+1,n,e=>by have:=r i n e;rwa[Nat.add_right_comm]at az
auo(A:Y):∀(i:R)(n:a4),de BZ i n->∃f,mg n=ci f/\GE 3 f (z9 c (1+i)):=by have q:=λ{k:R}{x:a4}{l:OR}=>@qc (λ n k=>∃f,mg n=ci f/\GE 3 f (z9 c k)) k x l;(have r23:∃f,mg "rule_23"=ci f/\GE 3 f (z9 c 23):=by refine ah ((Ny aFG P w A).at_) ax f h1 h2;exact(af f h1 nR h2.mono));exact q yu as6 kg aC8 aBc kg avZ aEc kg axS aBh kg aKn alH kg aK5 agr kg aGb alI (q yu aIU kg aII aKg kg azJ aj5 kg aAW avi kg aJl aok (q r23 (q yu aqr kg aqz aJ3 kg aG9 aqj (λ i n h=>by cases h))))
aAA(bef bM:ca)(word:N_){k:R}(h:k≠23):BE bef bM word=BE bef bM aH:=by(iterate 23 rcases k with _|k;.rfl);(rcases k with _|k;.rw[ku O h]);(iterate 8 rcases k with _|k;.rfl);rfl
aqb(A:Y)(T:Ts K mg):jK "verdict" (RQ bi ((a5×E8)×N_) [f?] bA (cS c H gr fe gw iI/\o5 (DX (Bf fe gw) (Af fe gw) dd 23) (yH fe gw iI)) dC (vN (DV (Q2 (Bf fe gw) (Af fe gw) dd)))):=c0 A.verdict ab3 λ q e H hr hp U hU=>by obtain⟨⟨a,us,p,cU⟩,word⟩:=q;rw[y2 hP Gq];have h:jw:=hP;dsimp only at Gq;have nd:=ab3.nd;rw[<-fW T.rules λ ra fs hm hS hl lK=>?_,n? SK (∀k,sv us p cU k=ym BE vP xa word) (λ k=>by unfold sv;split;(.rename_i e;rw[e,Gq]);.rename_i e;rw[aAA _ _ word e]),<-SS (PU 1) (fs.map yb) ((∃x y,a0=[ik,x,y])/\∀j,j<k->o5 (DX vP xa word (1+j)) (-1)) (lO hm) m2 k0 ra (hS H1) lR #[oS,λ j hj=>f5 aKQ hj] ?_ ?_];(.intro k x a0 H2 s2 hk j;(rw[na (λ aS hj=>gB aS ax x' y' aU) aU]);(obtain⟨f0,GN,rfl⟩:∃f0,de fs k f0/\yb f0=x:=by rw[nG]at hk;cases e:fs[k]? with|aH=>rw[a7 e hk hk]|c! f0=>rw[e]at hk;exact eH f0 (Qu hk));(have DK:k<28:=by have:=gD GN;exact Nat.lt_of_lt_of_eq az hl);obtain⟨n,hn⟩:=rM BZ i k DK;refine ah (Ny auo P w A k n hn) ax f1 Iw hC;(have hff:f1=f0:=by have:=lK k f0 n GN hn;rw[a7 Iw az az];rfl);subst hff;rw[c3 dY (ja nd) em (sv us p cU (1+k)) (Ju 1 hC hr O d2 ad (λ vs H3 s3 hv=>cA (aZ (a,us,p,cU) kL Er DU s3 O) IC)),<-aY nA ap uU bG hx ap mZ m4 (c6 λ H3 s3=>#[oS,cR j' jq])];(.rw[SK]at hx⊢;rw[Ch.ayv DK hj (by rw[rY])]);.by_cases e:j'=k;(.subst e;rw[SK]at hx;rw[rY]);.exact hj j' f6 oV jq e);.intro a0 H2 s2 j;(rw[na (λ a9 hj=>gB a9 ax x' y' bu) bu]);rw[jd,hl]at hj;rw[gt ac A.g.yk eb];rw[Ch.aJF hj];rfl
kF.1(us:ca)(n:R):cs:=match us[n]? with|xc=>u.sa|aH=>false
}
section
variable{X:Cx}{σ:ei}{H:Hp}{o e:dk}{ct ji:ej}{q:a5}{vs:g'}{us:ca}{i:bF}{j n:R}{u:jp}
def z:={
DF(A:c'){w:V}(uV:No)(hq:sR qj H1 q vs)(hU:tw gn vs n)(hn:EP n)(ho:nY o q)(hi:lY)(hj:qC)(hu:de us j u)(hg:∀fs,UF fs nC kI po j wW nC Ch.z4 nC uX nC Js nC Ch.vO nC Ch.wC nC yh nC Ch.xS nC Ch.Ae->l_ g w)(hs:se)(hb:Lw sG sG sG):M_ sG g w:=by(have hl:E9:=by rw[hU.1,hn]);obtain⟨v,hv⟩:=rM vs i j (by have:=gD hu;exact BP az hl);rw[Mz v u' eE,a7 hu eE eE,VU A uV (eT (cO (v:=v) ho hi bn (af vs (c? (hq H1 s1)) (by rw[hj];exact cg hv)) hs) λ w H1 s1 e=>by rw[e];exact QS s1) hg hb]
}
section z
def z:={
aF4(A:Y):ef "in_row" (RQ bi F1 [mA,Cl] bA wA dC (jb (kF d0 dd))):=wh A.aph aLF λ q f aK A' cx s H0 H E hr hp=>by rw[S0 n g_ kF];cases hn:us[n]? with|c! u=>rw[iX cc (gE cM Z Lf) cc (dH 3 (Bp A bn Ke hU O ad Z O hn) ac pa) (bY (LJ Jq ad Z hn Cg It.2.1))];have:=gD hn;rw[rS Ci az,ep,sT,DE];rfl|aH=>have:=List.getElem?_eq_none_iff.mp hn;exact aG (EN (gE cM Z Lf) Ar awk az) fh
MZ.1(o:HR):bF:=match o with|Ix=>bB x|aH=> -1
ar6{B:g?}(F:O')(n:R)(t:aD):MZ MD n t=if 0<=mL B 1 t then mL B 1 t else if n=1 then 65536 else -1:=by unfold JM mL;cases h:C7 B 1 t with|aH=>dsimp only;rw[ky Nu ((0:bF)<= -1),w1]|c! l=>have hf:=_W.Qp F bQ h;have h1:=hf.pos;have h2:=hf.OF;dsimp only at h1 h2;(have h5:jc=1:=by have:Mt.toMost 1=1:=rfl;exact R5 h1 h2 az);match l,h5 with|[x],_=>dsimp only;rw[gj (by simp)];rfl
tx.2(t:aD)(us:ca):=MtLine.cutText t us
PV.1(us:ca)(t:aD):Prop:=MU
ajf(A:Y):cB "piece_cost" (RQ bi ((BK×sb)×(V×ca)×ks) [Fj,fe,ls,wd,vN bm] bA (Gy/\ba H fe mR/\m6 iN ls eQ/\PV eQ mR/\br<=bm/\bm<a6 eQ) dC (gc (MZ (JM G3 (q4.2 - br+1) Ig iF M' br (q4.2+1))))):=c7 A.aFh Sz dt b5 bf λ q f aK A' cx s H0 H E hr hp=>by obtain⟨⟨⟨bb,d,kk⟩,tv,t⟩,⟨uv,us⟩,i,j⟩:=q;rw[cr lT λ hR aS aU hW tE hj=>ah aS λ qt fq dS=>aO aU zJ g_ eJ hU];rw[pp aQ bb hR];dsimp only at fq dS g_ eJ hU tE hj hW⊢;subst fq g_;have nd:=Sz.nd;obtain⟨ui',GC⟩:=v! i (by exact xF tE hj);obtain⟨uj',huj⟩:=v! j hj;((have h1:gT<=wW:=by unfold mP;rw[c5 (j+1=i+Pa) avd tE,List.take_add,rl,We];exact vm);have h2:wW<=db:=by rw[<-hW];exact E' us pJ);have j3:=Ch.abF us t i Pa f6 aox tE hj;rw[c5 (i+Pa=j+1) Yo tE]at j3;rw[ar6 aQ.dc,j3];have zc:(fr t.drop mP i).take (wW - gT)=rn t gT wW:=rfl;rw[zc];generalize pV:rn t gT wW=cZ;rw[c3 dY (bI 5 nd) (gc (kP mL 1 cZ)) (abG I0 (aen A) hr ad jz CY Bz ac A.g.aF1 (Fm (Po:=qp cZ) (xs:=cZ.map vN) A.g.z_ (uE (P:=qp cZ) Z (LJ A.du.acF ap aF GC Cg h.2.1) (LJ QA ap a! huj Cg h.2.2.1) SX qt dS (by rw[aX,HT vN h1 h2,pV])) vr H1 s1 (by rw[FQ q e2 e2])) (λ vs' H1 s1 hv=>by(rw[w' pQ λ v1 r1 a9 bu v2 r2 bW cJ dw=>ah cJ ax q d7 hq];subst a9 bu bW dw d7);exact(kA (tk,1,dp q,cZ) #[nb,r? ((1:R)<3),eH q hq] λ v H3 s3 h=>h)))];(refine aY zb ch bG hx ch eb bt;.rw[gj (by rw[nq hx,d6 Int.le_of_sub_one_lt])]);rw[da (by rw[L? hx,d6 aIg])];refine aY (eV aF a!) bG cn ac A.g.aAT eb v5 cn ac A.g.PQ;(.rw[gj (by rw[nq cn,d6 aBI])]);.rw[da (by rw[L? cn,kw aDx tE])]
}
structure WE(B:g?)(l:ot)(bh J:R)(kl ke:fz):Prop where
 hi:∀j,J<=j->IG->rN j=bd EU.1
 lo:∀j,j<J->wD j
 en:S? (J<=j) e j
structure WI(B:g?)(l:ot)(bh J:R)(oN:pg (R×R))(kl ke:fz):Prop where
 hi:∀j,J<j->IG->rN j=bd EU.1
 lo:∀j,j<J->wD j
 en:S? (J<j) e j
 no:oN=aH->wD J
 yes:∀b,oN=xd->rN J=bd b.1/\pO J=bd (J+b.2)
def z:={
yG{a:R}(h:a≠b):¬kN a=kN b:=λ e=>h (GK e)
WI.put{B:g?}{l:ot}{oN:pg (R×R)}(h:wX oN kl ke)(x k:R):wX an (x,k) (rp kl (kN J) (vN x)) rL J (J+k):=by(refine #[λ j hj hb=>?_,cR j hj,ax j hj hb,(λ e=>nomatch e),cR b hb];.rw[kr,da (yG mk Gp)];exact h.hi j hj hb);((.rw[kr,da (yG mk V8)];exact nK j hj);.rw[kr,da (yG mk Gp)];exact ro j hj hb);.cases hb;rw[kr,pu,kr,pu];exact #[rfl,rfl]
WE.open_{B:g?}{l:ot}(h:G1 B l va):wX aH kl ke:=#[λ j hj hb=>h.hi j hj hb,λ j hj=>nK j mk tq,λ j hj hb=>ro j hj hb,qZ (nK J H!),(λ b hb=>Ox)]
aiP{l:ot}{a k:R}(h:a+k<=b):(iF l a b).take k=iF l a Ph:=by unfold D5;rw[<-VN,List.take_take,eD Jc Nat.le_sub_of_add_le' h,qx (a+k - a=k) J6]
UQ{l:ot}{a k:R}:(iF l a b).jk k=iF l Ph b:=by unfold D5;rw[<-I2,List.drop_take,Qs,qx (b - a - k=b - Ph) aCF]
WI.close{B:g?}{l:ot}{b:ks}(h:wX xd kl ke)(hJ:J<bh)(hb:yU xA J=an b)(hl:bh<=jc):lC (WE B l bh J):=by have a3:a6 rC=bh - J:=Ch.Mc hl;have a8:=Ch.ES hb;have hc:=Ch.acn (B:=B) (row:=rC) (b:=b) (by rw[fI a3 hb]);rw[UQ]at hc;obtain⟨h1,h2⟩:=h.yes b O;refine #[λ j hj mW=>?_,nK,ax j hj mW];(.by_cases e:J=j;(.subst e;rw[h1,hc]);.exact h.hi j FP mW);.by_cases e:J=j;(.subst e;refine(fF (J+b.2) h2 iK vm cd Qt a8 ?_);rw[hc,qx (J+b.2 - J+1=b.2+1) adb,qx (J+(b.2+1)=J+b.2+1) L9]);.exact ro j FP mW
}
section
variable{X:Cx}{σ:ei}{H:Hp}{o e:dk}{ct:ej}{l:a5}{aq:fz}{i:bF}{n:R}{v:V}
def z:={
yg(hu:NZ)(ho:nY o l)(he:lY)(hi:i=la n)(hl:k? H l aq)(hv:O?=an v)(hs:Q? (Ia e)):j5 wE o v:=vX (P:=λ u _=>u=v) hu ho he (λ u z H1 s1 h1 h2=>by have e1:=h1.now;have e2:=h2.now;subst e1 e2 hi;exact(aE l v O (by rw[<-hv];exact BQ (kN n) dP hl) fh)) hs
NO(hu:NZ)(ho:nY o l)(he:lY)(hi:i=la n)(hl:k? H l aq)(h1:yR xP o):mc JY e .xP [o] (!(O?).isSome):=Of hu he ho (λ u z H1 s1 h1 h2=>by have e1:=h1.now;have e2:=h2.now;subst e1 e2 hi;rw[wS l (BQ (kN n) dP hl) O]) h1
am3(hu:NZ)(ho:nY o l)(he:lY)(hi:i=la n)(hl:k? H l aq)(h1:yR In o):jL JY e .In [o] o4 O?:=ZR hu he ho (λ u z H1 s1 h1 h2=>by have e1:=h1.now;have e2:=h2.now;subst e1 e2 hi;rw[wS l (BQ (kN n) dP hl) O]) h1
}
section z
def z:={
i8(h:m<=10000):m<CU:=lQ h
acL{X:Cx}{σ:ei}{H:Hp}{e:dk}{x y:cs}(h:mc e x)(hx:x=y):mc e y:=hx▸h
eS{X:Cx}{σ:ei}{H:Hp}{e:dk}{x y:V}(h:j5 e x)(hx:x=y):j5 e y:=hx▸h
WD.2:=(BK×sb)×(V×ca)×ks
Z_.1(c:Cs)(a:WD)(H:Hp):Prop:=Gy/\ba H fe mR/\m6 iN ls eQ/\PV eQ mR/\br<=bm/\bm<=a6 eQ/\td eQ
aER(A:Y):R6 (ic "least_pieces") (Z_ c) FV kl qe lC (WE G3 M' bm br):=c7 A.aMl Su dt b5 bf λ q f aK A' cx s H0 H E hr hp=>by obtain⟨⟨⟨bb,d,kk⟩,tv,t⟩,⟨uv,us⟩,fi,bh⟩:=q;rw[Ul (λ hR aS js hW jy jO f_=>A!) js hW,gg fq Su.nd];have hU:=jX hr;rw[kt i? FV kl qe G1 eo d? fi];generalize hB:eo=B;have rV:Ou a6 d?:=Ch.Bu us t;generalize hl:d?=l at rV;rw[oi (aP ft or (Q6 (Vo sX kb aaP) O O bQ bQ) fd ft zV A2 Fo CD (cz (i:=7)) (cH Fo C2 (cz (i:=8)) Ly O8 i Ly (b7 (i:=10)) zm B9 xz (pv 7) (pv 10) B9 tX (pv 7) Em dg dg) os tX) n' p];intro l1 fk;refine yL (N8 aX ([(kN bh,xh)]) O r7 Iz l2 f7);((have mz:l2≠l1:=λ e=>by subst e;rw[a7 aX f7 f7]);have f2:ga (H1 l2):=by rw[aV mz,aV mz]at f7;exact f7);((have uJ:A? o oc iG B6 l1:=λ sx b' o' hb=>by rw[i1 fk aN sx hb]);have B1:A? o oc iG B6 l2:=λ sx b' o' hb=>by rw[i1 f2 aN sx hb]);have EY:iG yv vp vp H1 [] (oA [] [(kN bh,xh)]) l2 []:=B1 (uJ (uJ (aj.refl _)));(have ud:ko (Om - On)=bh - fi:=by exact auC);(refine(cA hQ NR NQ tO λ vs H6 s6 ev=>(qJ Om On (-1) ((Om - On).toNat) Jm (nk.neg OA f6 ayK jO f_ OA (by exact aiM jy jO f_)) (Bx wk i H' (∃(x7 x8 x9 tQ:g0)(kl ke:fz),R! [lx,ki,mq,wT,wU,qi,qg,x7,x8,x9,tQ] H' G1 B l xA i) ?_ ?_ ?_)));(.refine #[aH,aH,aH,aH,_,_,rfl,UR,qT (by rw[G? aV mz aX]),qT aX,?_,fy,fy];refine #[λ j hj mW=>?_,cR j hj,λ j hj mW=>by exact(agd hj mW).elim];(. (have jq:j=bh:=by exact Nat.le_antisymm mW hj);subst jq;show b8 [(kN j,Iv)] (kN j)=_;rw[mw O,show iF l j j=[]by rw[Ba D5 Q1]];rfl);.show ga (b8 [(kN bh,Iv)] (kN j));rw[l9 (yG mk aKa)];rfl);.rintro i a0 H' hi⟨x7,x8,x9,tQ,kl,ke,rfl,sH,cI,nW,vw,c_,gQ⟩;rw[ud]at hi;obtain⟨J,hJ⟩:∃J,bh - i=J+1:=#[xA i - 1,f5 ayp hi];(have dj:bB bh - 1+Is*(iA (-1))=bB J:=by exact awu hJ);rw[hJ]at vw;rw[dj];have hWI:=vw.open_;refine(cA bC i! a! λ vs H7 s7 ev=>(aE bB J bB bh Jm (by exact akM dj jO f_) (FW (λ k c2 H2=>∃(x8 x9 tQ:g0)(kl ke:fz),c2=[lx,ki,mq,wT,wU,qi,qg,wx,x8,x9,tQ]/\lW/\Sg H2 wX yU k kl ke (rU+k)) (rD x8 x9 tQ kl ke O (uK s7) vY cI OE hWI c_ gQ) ?_ ?_)));(.rintro k c2 H2 hk⟨y8,y9,y10,kl,ke,rfl,ll,Od,vB,hI,c_,gQ⟩;(have cj:J+k<bh:=by exact aCC hk);(have OW:(dl J+vl)=bD (J+k):=by exact IK);rw[OW];refine mH (aT (ajf A) hr ((#[bb,d,kk],Cc,t),(uv,us),J,J+k) Lx Z i! CA (λ H9 s9=>(Fu EV fP yd s9 w4 dv s9 ll BR Mm yd s9 hW qv (J<=J+k) vm (show J+k<b? by exact VG cj jO)))) cR H9 s9;show ph _ _ _ _ _;(have ala:jA JM (J+k - J+1) Ig iF d? J Cr=MD el Ig ((rC).take el):=by rw[eD aiP Jy cj,hB,hl,qx (J+k - J+1=k+1) adb,qx (J+k+1=J+el) axn]);dsimp only;rw[ala];have p9:=aN s9 Od;have xw:=aN s9 vB;have CH:=yd s9;(have Ue:(rC).jk el=iF l Cr bh:=by rw[UQ];rfl);cases Kr:MD el Ig ((rC).take el)with|aH=>(have kJ:Ac=yU k:=by rw[Ch.g9,Kr]);rw[op (af hA (acL nA tY A.g.PQ O) (λ lX dE=>jQ ?_)) Tr (Jn dE) tm Ib,fI kJ hI]|c! x=>(have uN:iA r0 x≠ -1:=by exact asU);refine(af bE (acL nA tY A.g.PQ (by show as (!bH (pq r0 x= -1));rw[xD uN];rfl)) (λ lX dE=>je ?_));have Zd:=aN dE p9;have aEp:=aN dE xw;have aBX:=Jn dE;have yc:=hI.hi Cr iK aEa cd Jy cj;generalize Bt:x+(yJ Cr).1=iW;refine ma iW (eS (aW bV (i:=bB x) (j:=mx (yJ Cr).1) tY (yg (n:=J+k+1) hU ch kc CA iK aDq Zd yc)) (j1 e5 cd aF7 Bt)) cR H11 zI;have zX:=aN zI Zd;have Jh:=aN zI aEp;have afk:=aBX.trans zI;have go:ti H' (aj H11 H'->Ac=an xe->∃(x8 x9 tQ:g0)(wc xB:fz),[fo yb bb,ki,mq,wT,wU,qi,qg,wx,m5 bD (J+k),m5 yE MZ x,bd iW]=[lx,ki,mq,wT,wU,qi,qg,wx,x8,x9,tQ]/\iG K6/\TY K6 K6 wX Ac wc xB):=λ{H'}sx hb=>(rD _ _ _ (rp kl (kN J) (vN iW)) rL J (J+k) O (B1 (uJ (afk.trans sx))) (by rw[G? aV mz aX]) aX (by rw[hb];exact hI.put _ _) Nq B8 cd ad0 c_ Nq B8 cd adA gQ);cases oo:yU k with|aH=>(have kJ:Ac=an xe:=by rw[Ch.g9,Kr,oo,Ue,<-Bt]);rw[op (af bE ru aao (NO (n:=J) hU ch i! O zX) (by rw[hI.no oo];rfl) (λ RO j8=>je ?_)) eK p! _ l1 _ (oL J OH (i8 (by exact Qy dj cj c_ jO f_))) ?_,<-eK p! _ l2 _ (oL J (by rw[aV mz];exact OI) (i8 (by exact acx dj cj gQ jO f_))) ?_,go j8 kJ]|c! b=>obtain⟨yf,_⟩:=hI.yes b oo;(have kJ:Ac=if iW<=b.1 then an xe else xd:=by rw[Ch.g9,Kr,oo,Ue,<-Bt]);refine cA ff (NO (n:=J) hU ch i! O zX) (eA (bP d5 (aa 10) N3 J zX yf)) p? RO j8 bt;(.rw[yf]at hx;rw[F! cn (iW<=b.1)];rw[iq cn]at kJ;rw[op eK p! _ l1 _ (oL J OH (i8 (by exact Qy dj cj c_ jO f_))) ?_ eK p! _ l2 _ (oL J (by rw[aV mz];exact OI) (i8 (by exact acx dj cj gQ jO f_))) ?_,go j8 kJ]);.rw[yf]at hx;(have cn:¬iW<=b.1:=by rw[rY]);rw[ii cn]at kJ;refine Tr (afk.trans j8) OH OI;rw[kJ,<-oo];exact hI);.rintro c2 H2⟨y8,y9,y10,kl,ke,rfl,ll,Od,vB,hI,c_,gQ⟩;rw[Int.toNat_sub]at hI c_ gQ;obtain⟨b,hb⟩:=Ch.Oz B rC xA J cd aAK dj;rw[hb]at hI;refine #[_,y8,y9,y10,kl,ke,rfl,ll,Od,vB,?_,by exact aAI c_ jO f_,by exact alb gQ jO f_];rw[c5 (bh - q6=J) aIf dj];exact hI.close cd aBB dj hb f6 E3 jO rV);.rintro a0 H'⟨x7,x8,x9,tQ,kl,ke,rfl,sH,cI,nW,vw,c_,gQ⟩;rw[ud,Ff (bh - xA fi=fi) Nat.sub_sub_self jy]at vw;exact Mj sH H7 (lP l2 kl ke O OE vw)
apo(l:ot)(j:R):iF l j j=[]:=by rw[Ba D5 Q1]
aLT(A:Y):R6 (jK "row_cuts") (Z_ c) lr vu br (Ch.cst G3 iF M' br bm).2:=c7 A.avM Sf dt b5 bf λ q f aK A' cx s H0 H E hr hp=>by have oW:=hp;obtain⟨⟨⟨bb,d,kk⟩,tv,t⟩,⟨uv,us⟩,fi,bh⟩:=q;rw[Ul (λ hR aS js hW jy jO f_=>A!) js hW,gg fq Sf.nd];have hU:=jX hr;rw[kt i? lr vu fi (Kh fi bh).2,oi fd j? or ft zV (mN fQ) fd ft Ir tV zs R1 uB tX j? Ir os tX n' p,<-it (aT (aER A) hr ((#[bb,d,kk],Cc,t),(uv,us),fi,bh) Lx Z aF a! d! #[y5 fP,w4 lj dS,y5 JN,hW,jy,jO,f_]) λ ev H2 s2 yi=>?_];(rw[ce (gC yi.now λ qe kl ke aU E4 vw=>?_) aU]);have Lg:G1 eo d? fi:=vw;generalize hl:d?=l at Lg;generalize hB:eo=B at Lg;rw[hl,hB]at p;refine #[lH,λ r fG=>#[_,rfl,λ z a0 H'=>∃(j:R)(dn:aD),a0=[lx,ki,mq,wT,wU,GR,vS,bd j]/\fi<=j/\IG/\S9 (z=bh - j) H' H',#[xA fi,fi,[],rfl,fy,jy,rfl,cV fG,aX,rfl,lH],?_]];rintro z a0 H'⟨j,dn,rfl,Uu,hj2,rfl,sH,lM,md,rE⟩;refine cA qN i! a! p? H3 s3 bt;(. (have mW:j<bh:=by rw[nq hx,d6 sf]);refine xn (Lg.en j Uu mW) λ e vH h1 h2 h3=>?_;have yM:=aN s3 lM;have i7:=dv s3 sH E4;rw[op #[λ c2 rF=>∃z',z'<bh - j/\∃(j:R)(dn:aD),c2=[lx,ki,mq,wT,wU,GR,vS,bd j]/\fi<=j/\IG/\S9 (z'=bh - j) rF rF,wq,?_] BH Cp Bs yM (ma e N3 j i7 vH cR H4 s4)];have v8:=aN s4 yM;refine(p8 r _ wz O O v8 (i8 (by rw[ew,ago rE mW jO f_])) ?_);(have j6:j! G' H4 r (dn.map vN++[wz]) qe:=by rw[aV (λ e=>by subst e;rw[Cb i7]at v8;cases v8)];exact Cb i7);refine ma Li (eS (aW bV (i:=bB e) (j:=1) N3 j j6 vH ai) O) cR H5 s5;(refine #[bh - Li,tn aqG h2 h1,e+1,dn++[e],rfl,tn aCB Uu h1,L! h2,rfl,λ b' o' hb=>aN s5 ?_,aN s5 ?_,?_,by rw[LO akJ rE h1]];(.rw[i1 fG aN s4 dv s3 sH hb]);.rw[aX,rl];rfl);.rw[<-md,h3,Ch.gP,show j+(e - j+1) - 1=e by exact azg h1,show j+(e - j+1)=e+1 by exact aiI h1,Qn];rfl);. (have mW:j=bh:=by rw[FO (¬bB j<bB bh) hx,kw IH hj2]);subst mW;rw[apo,Ch.Yl,Ch.gP,Dm]at md;refine Kk (CI (uK s3)) H4 eH r rP ?_;rw[lM,md]
qW.1(ke:fz)(Q:my R):Prop:=∀i,as o4 pO i↔Q i
qW.put{Q:my R}(h:qW ke Q)(u:R)(v:V):qW (rp ke (kN u) v) p_ (Q i\/i=u):=λ i=>by rw[kr];by_cases e:i=u;(.subst e;rw[pu];exact #[cL (.inr O),λ _=>rfl]);.rw[da (yG e),h i];exact #[xi (.inl h),eR (h.resolve_right e)]
run_eq:∀(k:R)(l:ot),(∀j,j<k->∃z,gy j z/\as IA)->(∀z,gy k z->IA=false)->Ch.k9 l=k|0,[],_,_=>rfl|0,z::l,_,h=>by rw[Ch.AW,h z O];rfl|k+1,[],h,_=>by refine ah rI (h 0) DL λ z hz _=>?_;cases hz|k+1,z::l,h,h2=>by refine ah rI (h 0) DL ax z' hz hs;cases hz;rw[Ch.AW,iq hs,run_eq k l (λ j hj=>h pJ mk Kb) h2]
Fe{t:aD}{us:ca}{i:R}{u:jp}(h:de us i u):∃s,d?[i]?=an (u,s):=#[_,Ch.FH us t i u h]
aJ7{t:aD}{us:ca}{i:R}(h:d?[i]?=an z):de us i z.1:=by have:=j1 (λ l:ca=>l[i]?) (Ch.aiK us t);rw[<-az,nG,h];rfl
aiL{t:aD}{us:ca}{i:R}(h:as ox i):∃z,d?[i]?=an z/\as IA:=by unfold kF at h;split at h;(.rename_i u hu;rw[Gc s hs hu,cA hs h]);.cases h
NY{t:aD}{us:ca}{i:R}(h:ox i=false)(hz:d?[i]?=an z):IA=false:=by have:=aJ7 hz;unfold kF at h;rw[az]at h;exact h
arX{us:ca}{i:R}(h:as ox i):HC:=by unfold kF at h;split at h;(.rename_i u hu;exact gD hu);.cases h
QD:∀(ns:aD)(a:R),(∀k∈ns,0<k)->a6 vu a ns<=ns.sum|[],_,_=>fy|n::r,a,h=>by have h1:=QD r (a+n) (λ k hk=>h k (by simp[hk]));have h2:=h n r7;rw[Ch.gP,mE,List.sum_cons];exact Tn h2 h1
aoj(A:Y):gp 5 "word_cuts" (RQ bi ((BK×sb)×V×ca) [Fj,fe,a?] bA (Gy/\ba H fe mR/\m6 iN a? b!/\PV b! mR/\td b!) fl (∃q ke,rJ/\j! H q/\qW ke p_ (i<a6 b!/\Ch.mJ G3 (tx mR b!) i))):=Fz A.asA UJ λ q f aK A' cx s H0 H E hr hp=>by obtain⟨⟨⟨bb,d,kk⟩,tv,t⟩,uv,us⟩:=q;rw[cr gJ λ hR aS js hW f_=>A!];rw[pp aQ bb hR];dsimp only at fq dS js hW f_⊢;rw[gg fq UJ.nd];have hU:=jX hr;rw[kt i? (∃q ke,rJ/\j! H q/\qW ke p_ (HC/\zv i))];have rV:Ou a6 d?:=Ch.Bu us t;rw[oi fd ft O6 i A2 ft ze i kb (aP zs fd ft or sX zs Iy (Iq (i:=5) nd O JP kb pN) zm Kl (mf aI) EF cz Iy B9 tV tX Ap LR os tV) n' p,<-λ r fG=>#[wk z H' (∃(a:R)(x5 x6:g0)(ke:fz),a0=[lx,ki,mq,vS,bd a,x5,x6]/\oM a/\z=b? - a/\Sr oc H' a),#[b?,0,aH,aH,[],rfl,lH,rfl,cV fG,aX,.inl (.inl O),p_ #[xi (nomatch h),eR (CE h.1 (Nat.not_lt_zero _))],fy],?_]];rintro z a0 H'⟨a,x5,x6,ke,rfl,ha,rfl,sH,lM,zc,zW,c_⟩;(have Wa:ti H2 (qH->iN gn H2 uv us):=λ sx=>Mm uK sx;have J2:∀(H2:Hp)(u:V),qH->u=uv->Ej (aC K H2 q xs) (aJ K H2 q xs) b?:=λ H2 u s3 e=>by refine aO (Wa s3) zJ h1 h2 h3;exact(aE qu vs (by rw[e,h1]) KB h2 h3.1));refine cA qN a! wv b? Gn J2 p? H3 s3 bt;(. (have wL:a<b?:=by rw[nq hx,d6 sf]);rw[op #[λ c2 rF=>∃z',z'<b? - a/\∃(a:R)(x5 x6:g0)(ke:fz),c2=[lx,ki,mq,vS,bd a,x5,x6]/\oM a/\NA a/\Sr iG rF rF a,wq,?_] #[_,rfl,λ z2 c2 H2=>HP m (c2=Mp mq bd m x6/\a<=m/\oM m/\z2=b? - m/\aj H3 H2/\∀i,a<=i->i<m->as ox i),(Aw (b? - a) a O fy ha O (aj.refl _) (λ i h1 h2=>by exact(Fx h2 h1).elim)),?_]];rintro z2 c2 H2⟨m,rfl,pF,mX,rfl,sM,hM⟩;refine(cA gx (aT (aF4 A) d1 ((uv,us),m) bC ap ch p3 (Wa (DD (Q4 s4)))) λ H4 s4=>fE BW BW);(.have ju:as ox m:=cn;have g8:=arX ju;exact #[λ σ3 H3'=>∃z',z'<b? - m/\HP m (σ3=Mp mq bd m x6/\a<=m/\oM m/\NA m/\aj H3 H3'/\∀i,a<=i->i<m->as ox i),wq,_,rfl,_,_,rfl,rfl,b? - (m+1),f5 p6 g8,m+1,rfl,f5 V2 pF,L! g8,rfl,Q4 s4,λ i h1 h2=>by by_cases e:i=m;(.rw[e];exact ju);.exact hM i h1 f6 oV h2 e]);. ((have gL:ox m=false:=by cases h:ox m with|false=>rfl|bE=>rw[ku h cn]);have Ey:m=a+Ch.k9 ((d?).jk a):=by have:=run_eq (m - a) ((d?).jk a) (λ j hj=>by rw[Dz];exact aiL (hM (a+j) iK vm mk Qt)) (λ z hz=>by rw[Dz,Ff (a+(m - a)=m) Nat.add_sub_of_le pF]at hz;exact NY gL hz);rw[kw air pF]);obtain⟨vi,i6⟩:=Ch.IJ eo _ iF d? a m O;rw[Ch.Mc (by exact E3 mX rV)]at vi;have fc:=QD (Kh a m).2 a i6;have aL8:a<m->Ch.iC d? a:=eR (zc.resolve_right (by rw[hM a fy h];decide));have OC:∀i,a<=i->i<m->(zv i↔i∈Fp):=λ i h1 h2=>Ch.amg (aL8 (by exact xF h1 h2)) Ey f6 E3 mX rV h1 h2;have ab1:∀i,i∈Fp->a<=i/\i<m:=λ i hi=>#[Ch.Oq _ _ i6 _ hi,by have:=Ch.VR _ _ i6 _ hi;exact anX az Ey vi];have v8:=aN s4 dv sM s3 lM;have DW:=uK (DD (Q4 s4));refine it (aT (aLT A) hr ((#[bb,d,kk],Cc,t),(uv,us),a,m) Lx Z a! ch Cf #[EV fP Q7 s5,w4 dv s5 DW BR,Mm Q7 s5,hW,pF,mX,f_]) λ cv H5 s5 rh=>?_;(rw[ce (ah rh.now ax qc aU yO) aU]);dsimp only at yO;have FL:fa H5 qc h? Fp:=yO;generalize Fp=L at FL fc OC ab1;have mh:=aN s5 v8;(have nr:qc≠r:=λ e=>by subst e;rw[a7 FL mh mh]);refine kA qc #[_,d' FL] (uD (xs:=ts) (λ k c2 H2=>∃(x6:g0)(ke:fz),c2=Mp mq bd m x6/\lW/\As H2 qc/\j! H2 r/\qW ke p_ ((i<a/\zv i)\/i∈Im)/\KF (a+k)) (Aw x6 ke O (Q7 s5) FL mh (λ i=>by rw[zW i];simp) c_) (λ k c2 H2 _ bx=>fW bx λ _ _ _ _ hq _=>d' hq) ?_ ?_);(.rintro k x c2 H6 hk⟨y6,ke,rfl,tS,BF,AQ,C6,Bj⟩;(rw[ce (ah (eM hk) ax e he a9) a9]);have aFT:=gD he;refine #[_,rfl,_,rfl,r,_,rfl,oL e AQ (i8 (by exact aAJ f_ mX vi fc Bj aFT)),?_];(refine(Aw _ (rp ke (kN e) e! bE) O Ov ?_ aX ?_ Nq B8 cd aFI Bj);(.rw[i1 fG aN tS hb]);.rw[aV nr];exact BF);.intro i;rw[C6.put e _ i,IP,he];simp[or_assoc]);.rintro c2 H6⟨y6,ke,rfl,tS,BF,AQ,C6,Bj⟩;rw[jd]at Bj C6;rw[Dq]at C6;(have hmx:(if OD>ld then OD else ld)=bD IB:=by by_cases q:OD>ld;(.rw[tb q,aJ6 q]);.rw[ky q,aEq q]);refine dY mH (vN (max m (a+1))) (eS (aAc O A.g.La ch kc a!) (j1 e5 hmx)) cR H7 s7;refine #[b? - IB,f5 ah1 wL,IB,_,_,ke,rfl,tn Nat.max_le_of_le_of_le mX wL,rfl,tS.trans s7,vY AQ,?_,?_,by exact axD Bj fc vi];(.by_cases e:a<m;(.rw[c5 (IB=m) Nat.max_eq_left e];exact .inr gL);. (have hma:m=a:=by exact api Ey e);subst hma;rw[qv (max m (m+1)=m+1) Nat.max_add_right_self];obtain⟨u,hu⟩:=v! m wL;rw[Gc s' pw hu,.inl (.inr cA pw (NY gL pw))]);.intro i;rw[C6 i];constructor;(.rintro(⟨h1,h2⟩|h);(.exact #[cd amh h1,h2]);.obtain⟨h1,h2⟩:=ab1 i h;exact #[cd af0 h2,(OC i h1 h2).mpr h]);.rintro⟨h1,h2⟩;by_cases e:i<a;(.exact .inl #[e,h2]);.by_cases e2:i<m;(.exact .inr ((OC i TR e e2).mp h2));.exfalso;(have him:i=m:=by exact agF h1 Ey e2);subst him;refine bL h2 λ z km fT _=>?_;rw[NY gL km]at fT;cases fT);. (have hae:a=b?:=by rw[FO (¬bB a<bB b?) hx,kw IH ha]);subst hae;exact Kk (uK s3) H4 (aE r ke O rP lM zW)
}
section _P
namespace _M
open x3 x4 x! _L
section
variable{X:Cx}{σ:ei}{H:Hp}{elt iter:dk}{nH:Scope}{own:nT a4 R}{y:a4}{ct ji:ej}
def z:={
ak6(i:R){Po:V->my Hp}{xs:g'}{f:V->V}(ho:iv Ev iter Po)(hx:∀u H1,yK->Po u H1->∃a,u=dp a/\aC X.K H1 a xs)(hw:∀x,Ho ((Ho σ).set i Ix)=Ho σ)(hl:xs.length<CU)(he:∀(s:Shared)(H0:Hp)(C:a5)(cl:nT a4 a5)(fp:fS a5)(k:R)(x:V),de xs k x->aB (X.cC s H0 nH (compEnvC nH cl C mM) fp) ((Ho σ).set i Ix) H elt (f x)):sR (∀Q:VK,(∀D H2,ga (H1 D)->lW->H2 D=an (.lst (xs.map f))->Q eu D H2)->T8 X H1 Q):=by intro H1 s1 Q q;refine it (ho.later s1) λ u H2 s2 hu=>?_;(rw[ce (ah (hx u H2 HK j2) ax a aS fk) aS]);(have dZ:∀H3,aj H2 H3->aC X.K H3 a xs:=λ H3 s3=>by refine ah (hx _ H3 Az (hu H3 s3)) ax a' e h;cases e;exact h);refine(kA a #[xs,fk] λ D hD=>FA (xs:=xs) (g:=dF i) (tt:=kh) (te:=jY X nH elt) (vs:=Q8 (·.2)) (σ:=σ) (Qd:=λ H'=>Q eu D H') (λ k H'=>aj H2 H'/\H' D=an (.lst (h? (xs.take k) f))) #[cV hD,aX] (λ k H' _ bx=>bq bx λ s3 _=>dZ H' s3) ?_ ?_);(.rintro k x H' hk⟨s3,e⟩;refine #[hw x,?_];(refine(af (f x) (λ s H0 C cl fp=>(he s H0 C cl fp k x hk).later Az) p3 (fF _ Cb e ?_ ?_ ?_));(.rw[wt List.length_take,xF (Nat.min_le_right _ _) hl]);.exact λ b o hb=>by rw[i1 hD rP hb]);.rw[aX,IP,hk];simp);.rintro H'⟨s3,e⟩;rw[Dq]at e;exact q _ H' (s2.free hD) y! e
avg(i j:R){z:a4}{pz jl:ej}(hc:ln X.calm)(hN:X.N.Nodup)(ok:dh X.N X.env.scope nH own)(hg:∀(s:Shared)(H:Hp)(C:a5)(cl:nT a4 a5)(fp:fS a5),PG (X.cC s H nH (compEnvC nH cl C mM) fp) (jG y ji) (dF i))(hz:e7 (X.N[j]?=an z))(n_:e7 (X.env.scope.names.lookup z=an .local))(mC:e7 (swapsWith Uc elt iter [] tj jG z pz jl.line mM=pure bE))(hs:u0 (∀x,foldedSetIterable iter mM x=pure x) gv._auto_1):PS X (.Assign [jG z pz] Uc elt iter [] jl) (λ D σ H=>T8 X H λ x H2=>D.nx (σ.set j Ix) H2):=yC (i:=j) hc hN hz n_ mC (mf aI) ok hg (λ _ _ _ _ _=>p5) oY hs
}
section z
section _M
namespace _P
open x3 x4 x! _L _M
variable{P:Qb}{w:World}{K:Qc}{mg:NJ}{tZ:Heap}{c:Cs}
variable{x y n:R}{b:cs}{u:jp}
def z:={
az6{l:v4}{i:R}(h:wQ[i]?=an u):∃s∈l,u.is=(JD s).is:=by have hi:=gD h;have h1:=E' wQ q6;rw[Ch.L5,Ch.yl h]at h1;have h2:=nc (Ch.CK _ l O).1 u h;(have a8:mP wQ i<jc:=by exact aH2 h2 h1);have hd:=Qq a8;have:=Ch.ae5 nm hi hd;rw[a7 h az az,cA (VS a8) (Ch.tK _ _)]
afM{B:g?}{y:j4}{t:aD}{i:R}(h:(TT y)[i]?=an u)(hs:ln u.is.sa):fR=3\/fR=24:=by refine ah (az6 h) ax s hm e;(rw[ce (ah (t6 hm) λ n _ aU=>?_) aU]);(have e1:(JD (ug B y n)).is.sa=(ug B y n).sa:=by rw[ET JD,w1]);rw[e,e1]at hs;rw[e,Ch.Jr];rcases Ch.awB hs with h|h|h<;>rw[h]<;>decide
apw(b:cs)(s:JB):o5 [(b,s)] (if wm then Ns else -1):=Bl b
aGR{B:g?}{y:j4}{t:aD}{us:ca}{p:R}{cU m:cs}(iB:TT y=us)(hp:N0 p)(hk:ln C9->y.keep=false)(hm:(Q9 B [] d?)[eI]?=an m)(hc:ln cU↔as U0/\Ch.mJ B d? p):o5 (DX vP xa L' 23) (yH us p cU):=by rw[Ss ux hx hp];obtain⟨uy,hy⟩:=n9 l us (p+1) hp;((have eX:ND Bf=an ux:=by unfold pe;show(yY eI).head?=_;rw[uT hx];rfl);have eY:fr nL Af p=an uy:=by unfold nL;show(Ik eI).head?=_;rw[Wf,hy]);unfold yH;rw[dA];rw[eX,eY];rw[apw];show Nk L4 _ _=GP L4 _ _;by_cases rQ:(as L4);(.rw[iq rQ,iq rQ];rw[Ms rQ];obtain⟨TX,J_⟩:=rQ;show bD (DV Nk (ux.sa&&uy.sa) _ _)=if(as (cU&&Q_))then 1 else 0;cases hw:t? with|false=>(have:cU=false:=by cases cU with|false=>rfl|bE=>have:=hc.mp O;rw[hw]at az;rw[ku az.1 r7]);rw[az];simp only[rd,ii Nu (false=bE),ii Nu ((aH:N_)=an bE)];rw[w1]|bE=>cases ha:C9 with|bE=>exfalso;have:=Ch.aKE _ JZ jj B y O (λ s hs hm=>by(rw[ce (ah (t6 hs) λ n _ a9=>?_) a9]);exact Ch.aw7 ha (hk ha)) p ux uy (by rw[fI iB hx]) (by rw[fI iB hy]) J_;rw[Ch.aLx az]at TX;cases TX|false=>rw[hw,ha]at hc;(have uL:ln cU↔Ch.mJ B d? p:=by rw[hc];simp);rw[Gc sx mo hx,Gc sy hsy hy];(have LC:uy.sa=Q_:=by unfold MtLine.Unit_.sa;cases h:Q_ with|false=>rfl|bE=>rcases afM (by rw[fI iB hy]) h with h|h;(.rw[h];rfl);.rw[a7 h J_ J_]);rw[pu,<-LC];cases h1:uy.sa with|false=>simp;rfl|bE=>cases h2:ux.sa with|false=>(have:cU=false:=by cases cU with|false=>rfl|bE=>rw[<-bL (uL.mp O) λ z e1 e2 _=>?_,a7 mo e1 e1,a7 h2 e2 e2]);rw[qA]|bE=>have:=Ch.az8 (B:=B) mo hsy h2 h1;rw[<-uL,hm]at az;cases m<;>cases cU<;>rw[ql]<;>rfl);.rw[ii rQ,ii rQ]
aqK{X:Cx}{σ:ei}{H:Hp}{ct:ej}:iv Ev (.Dict [] [] ct) i? oD k? H q []:=Ev.of A2 λ H1 s1 Q q=>λ l hl=>q eu l _ IF d! eH l e? aX
Ge.2(B:g?)(y:j4)(t:aD):aD:=MtLine.marked db (MtLine.chances B y t)
aIE{j:R}{i:bF}(h:qC)(hj:j<n):mS n i=an j:=by subst h;unfold mS;rw[rI gj tD,l0 Ci hj];rfl
atg(A:Y)(T:Ts K mg):Sd (gp 7 "marks_of") (qf/\AD/\(a.2.1.2.all=bE->(eQ).keep=false)/\AJ/\wy bm/\td bm) lr (Ge By eQ bm):=Fz A.aI8 Rf λ q f aK A' cx s H0 H E hr hp=>by obtain⟨⟨bb,d,kk⟩,⟨wa,y⟩,tv,t⟩:=q;rw[cr lT λ hR hW og aS bJ a3=>A!];rw[pp aQ bb hR];have uP:vA wa y:=hW;dsimp only at fq dS bJ a3 og⊢;rw[gg fq Rf.nd];have hU:=jX hr;rw[kt i? lr NC,<-gK 3 nd r! aIp (tk,(wa,y),Cc,t) bn (jN nb N? w4 BR bJ a3) (λ uv Hu su g_=>?_)];have js:=g_.now;dsimp only at js;generalize iB:DQ (DO (bb,d,kk) y t)=us at js;have G9:LW=us:=iB;((have b_:MU:=by rw[<-G9,Ch.L5,jd]);have fV:∀i,oM i->i<=gT:=by rw[<-G9];exact Kq);(have f_:b?<=64:=by have:=fV b? (xX _);exact aB5 az b_ a3);(have ee:m? ["book","ways","text","units","cuts","marks","place","scalar"] DZ ("scalar",7):=jI (mV ((cq DZ).jk 2));have g8:Ou a6 TK [] d?:=by rw[Ch.Gr,Ch.Bu];simp);obtain⟨dx,fs,hwa,_,_,Gf,_,aFX,_⟩:=uP;(refine gK (P1:=pB v (∃q ke,rJ/\j! H q/\qW ke p_ (as U0/\HC/\zv i))) 4 nd (Fi ds zG SV hwa A.eU.WL aFX (c4 (dI (bN (cQ Z SV hwa PX Gf)))) bt bt) (λ cv Hc sc rh=>?_);(.refine iQ (aT (aoj A) d1 ((#[bb,d,kk],Cc,t),uv,us) kM ad ap d2 aF d! (jN (fP (su.trans s2)) w4 dv s2 su dS (JN s2) b_ f_)) λ v H2 s2 h=>?_;refine aO h λ q ke h1 h2 h3=>?_;exact(aE q ke h1 h2 (λ i=>by rw[h3 i];exact #[xi #[hx,h],eR h.2])));.refine aqK.imp λ v H2 s2 h=>?_;refine ah h ax q h1 h2;exact(aE q ([]) h1 h2 p_ #[xi (nomatch h),eR (by rw[hx]at h;exact CE h.1 bQ)]));(rw[ce (aO rh.now λ qc ke aU yO zW=>?_) aU]);have ahL:=JN sc;refine aO ahL zJ arN eJ NT;subst arN;have hRc:=KS su.trans sc;have afz:=dv sc su dS;(have Ew:∀(h0:UT),∃u,us[0]?=an u/\NC=Ch.lh t? Mk (pc us 1) (mP us 1) ((us.zip (Q9 eo [] d?)).jk 1):=λ h0=>by have:=A9 Ch.ar4 B y h0;rw[G9]at az;exact az);generalize hF:NC=F at Ew;generalize kG:TK [] d?=ms at g8 Ew;have J2:r8 (aj Hc H2) qu b?:=vR H2 s3 (aE qu vs e KB Ca eJ NT.1);have B_:r8 (aj Hc H2) qt db:=Fn s3 qt Ca afz;(have hsz:At:=by rw[ew,eD i8 aLg a3]);rw[oi (aP (avg 7 5 O nd ee Ft) fd Fo Av EF cz Iy (X7 aI (WG xz aI set_list)) (iw dy Iy (X7 aI (WG xz aI set_list)) dg) os xz) n' p,ET ph,<-ak6 7 (xs:=y1) (f:=qZ (vN 0)) ap rZ k0 qt d' e? afz bf hsz (λ s' dG C cl fp k x hk=>U2) H1 s1 _ λ r H2 fG s2 oF=>?_];(have avv:(y1).map cL (vN 0)=jM Mk:=by rw[hE,List.map_replicate];exact List.map_const');rw[avv]at oF;(have ud:ko Uh=UI:=by exact amK);refine(cA d2 pt n2 b? aF pi H3 s3 pK J2 H3 Az λ vs' H3 s3 ev=>(fF Uh Jm OA cd aoT f_ (FW wk k H' (∃(x6:g0)(acc:aD),a0=[lx,GV,ki,GW,ci qc,vS,x6,aH]/\oc/\fa H' r acc.map/\acc.length=db/\(0<db->Ch.lh t? acc NX po el ((us.zip ms).jk el)=F)) (fK aH Mk O y! Ca oF List.length_replicate (λ h0=>(Ew h0).choose_spec.2.symm)) ?_ ?_)));(.rintro k a0 H' hk⟨x6,acc,rfl,sH,gA,zq,HQ⟩;rw[ud]at hk;(have cI:N0 k:=by exact Nat.add_lt_of_lt_sub hk);obtain⟨uk,huk⟩:=eD v! k uI cI;obtain⟨uk1,aqO⟩:=n9 l us (k+1) cI;obtain⟨m,hm⟩:=n9 l ms (k+1) (by exact Qv cI g8);(have jZ:(0:bF)+vl=jF:=by exact azM);rw[jZ];have vU:=q8 sH;have Sx:=fV el nm cI;have Ij:=E' us el;rw[b_]at Ij;have Gq:=aGR (cU:=o4 pO k) G9 cI og (by rw[fI kG hm]) (by rw[zW k];exact #[xi #[h.1,h.2.2],eR #[h.1,f5 uI cI,h.2]]);refine dY mH (vN (DV (Q2 NX Ik el L'))) (nZ (aqb A T) d1 (cu (tJ (aLj A) hr ((eu qu,us),k,o4 pO k) hQ aF g! (am3 (n:=k) hU a! g! O aN vU yO) p3 #[(aE qu vs O dv s4 vU eJ Uz),cI]) ao) (λ vs4 H4 s4 hv=>by(rw[w' aO λ v1 r1 a9 bu bW=>ah bu ax q cJ hP];subst a9 bW cJ);exact(kA ((q,us,k,o4 pO k),if Ru then an m else aH) #[hP,Gq] λ v H5 s5 h=>h))) cR H4 s4;refine yL (mH pt (DF A QA Cf aN s5 dv s4 vU eJ Uz O aF g! O huk Cg h.2.2.1) cR H5 s5);have mh:=A_ s5 gA;refine(Di r _ _ Un O O mh (aIE cd aoS Sx (by rw[ew,aps Sx Ij zq])) ?_);(refine(fK _ (acc.set Un (DV (Q2 NX Ik el L'))) O Ov ?_ (by rw[fI List.length_set zq]) j_ h0);(.rw[i1 fG aN s5 dv s4 sH hb]);.rw[aX,Wg]);.rw[<-HQ h0,Ch.atJ t? acc us ms k cd aiF g8 aqO hm]);.rintro a0 H'⟨x6,acc,rfl,sH,gA,zq,HQ⟩;rw[ud]at HQ;have vU:=q8 sH;refine cA (bP gF wv db pi H3 s3 pK B_ H3 (vU.trans s3) ai) p? H4 s4 bt;(. ((have h0:UT:=by rw[nq hx,d6 Vy]);have hu0:0<b?:=by refine ah (Ew h0) λ u hu _=>?_;exact gD hu);refine mH OG λ H5 s5=>yL (mH tO cR H6 s6);(have AQ:=aN s6 A_ s5 gA;refine(Di r _ _ (db - 1) O O AQ ?_ ?_);.unfold mS;rw[jd,zq,nR da,l0 awM h0];congr 1;exact af6);have hf:=HQ h0;rw[c5 (UI+1=b?) Nat.sub_add_cancel hu0,b_,V_ (by rw[fI List.length_zip agf]),Ch.lh]at hf;refine cA O (p _ _ ?_ λ H7 s7=>ol r s7 ?_);(.exact λ b' o' hb=>by rw[i1 fG dv s6 s5 dv s4 sH hb]);.rw[aX,<-hf,Wg];rfl);. (have h0:db=0:=by rw[FO (¬(OZ<bB db)) hx,d6 Jd]);(have ht:t=[]:=Wk h0;have hF0:F=[]:=by rw[<-hF,ht];rfl);have rT:acc=[]:=Wk (by exact ahT zq h0);refine Mj (uK s4) H7 eH r A_ s7 ?_;rw[gA,hF0,rT]
}
section
variable{X:Cx}{σ:ei}{H:Hp}{o e:dk}{ct:ej}{q:a5}{l:aD}{i:bF}{j k:R}
def z:={
Pj{l:aD}{j:R}(h:Op):gy j OV:=by rw[EZ TE]
c9(hq:fa H q o_)(ho:nY o q)(hi:lY)(hj:qC)(hl:Op)(hk:OV=k)(hs:se):l? wE o k:=cO ho hi FE hq (by rw[im hj (cg (by rw[nG,Pj hl,hk];rfl))]) hs
gR(hm:ga (uq "len")){p:ej}(hq:fa H q o_)(ho:nY o q)(hg:vQ (x2 "len"))(he:nf [o] hH o [])(a_:zy):li qs (jG "len" p) [o] Uy:=dq (m:=jc) hm ho m2 EK q t1 dP hq hg he a_
Ct{x:a4}{p:ej}(hT:sY X.K uq x l)(hi:lY)(hj:qC)(hl:Op)(hk:OV=k)(hg:Ln)(hd:L3 x a4)(hs:se):l? wE (jG x p) k:=by refine ah hT ax a h1 h2;exact bU (lO h1 hg hd) hi bn cA (h2 H1) (by rw[im hj (cg (by rw[nG,Pj hl,hk];rfl))]) hs
Oh(hm:ga (uq "len")){x:a4}{p p':ej}(hT:sY X.K uq x l)(hg:Ln)(hd:L3 x a4)(hg':e7 (Gl X "len"))(he:nf [Ot] hH Ot [])(a_:zy):li (.Call (jG "len" p) [Ot] [] ct) Uy:=by refine ah hT ax a h1 h2;exact dq (m:=jc) hm (lO h1 hg hd) m2 KI a h2 H1 hg' he a_
}
section z
def z:={
i'{l:nT cs R}(h:b=false):D6 ((b,n)::l)=n:=by rw[D6,h];rfl
iZ{l:nT cs R}(h:wm):D6 ((b,n)::l)=D6 l:=by rw[D6,w!]
Pw.1(a b:bF):cs:=bH (b=a+1)||(bH (a=55296 - 1)&&bH (b=57343+1))
ajH(A:Y):ef "touch" (RQ bi (bF×bF) [f3 dM,em dd] o1 dC (jb (Pw dM dd))):=wh A.aCL agA λ a f aK A' cx s H0 H E hr hp=>f5 bg (fL (dW Z kc ad) qZ (bY (cp (dW ad pt ac A.g.Z2) qZ (bY (dW Z kc ac A.g.Xw)))))
Xf{a b:R}(h:qd b):Pw a b=(Mt.next a==b):=by unfold Pw Mt.next;(have:¬(55296<=b/\b<=57343):=λ hh=>by unfold jf at h;simp at h;exact aJa hh h);rw[F2];by_cases q:a=55295;(.rw[tb q,kw aBx q]);.rw[ky q,kw aot q]
Gj:nD (dl x<=y) (!bH (y<x)):=by rw[<-decide_not];exact Pz (Int.ofNat_le.trans Nat.not_lt.symm)
F4:nD (dl x<y) (!bH (y<=x)):=by rw[<-decide_not];exact Pz (Int.ofNat_lt.trans Nat.not_le.symm)
ZM{t:R}:nD (OZ<bD (4*t)) (!(t==0)):=by cases t with|zero=>rfl|succ t=>exact xY (Int.ofNat_lt.mpr (Nat.mul_pos bQ (Nat.succ_pos t)))
}
end
mutual section
def z:={
Hs:=decide
cm:=Int
S6:=decide_eq_decide.mpr
S7:=Int.ofNat_le
fm:=Bool
c2:=true
de:=base
Y:=Nat
r!:=_B.jz
jK:=A.g.cb
lf:=of_decide_eq_true
gy:=if_pos
a6:=this
i1:=p.length
lh:=of_decide_eq_false
li:=if_neg
O:=rfl
NB:=Nat.lt_of_add_right_lt
lj:=Tw.te
x7:=Nat.lt_of_succ_lt
r?:=congrArg
sb:=V.bl
uq:=Bool.eq_iff_iff
x8:=Mt.scalar
Cb:=Nat.lt_of_succ_le
fB:=inr
f?:=inl
g?:=PySem
hA:=PySem.Spec
hE:=PyProof.Rows
S9:=Builtin.Range.rangeFitsLong
e9:=Bool.and_eq_true
pg:=decide_eq_true_eq
S_:=Builtin.Range.rangeSize
eo:=_L.St
bi:=pos
d9:=Pos
jO:=rest
pi:=body
bt:=Str
d':=Expr
x9:=X.prog
l9:=X.env
NC:=X.N.Nodup
pj:=X.mg
ac:=none
fY:=int
a!:=σ'
gU:=some
d!:=σ2
Cc:=X.env.kindOf
NE:=starEach
Ht:=X.env.scope
S':=X.env.scope.names.lookup
pk:=Name
NG:=ha.later
po:=e.now
ga:=s1.trans
l_:=s3.trans
gV:=Program
gX:=World
h!:=PySem.W.Frag
h?:=Value
ie:=Heap
NH:=Mt.Fault
ur:=error
ap:=hlen
x_:=PassesOwn.never
x!:=A.g.ia
x?:=hJ.now
l!:=V.int
pt:=_B.jD
l?:=hu.now
ya:=aC.of
ut:=MtLine.row
pu:=_B.dC
e!:=l.length
pw:=absurd
S!:=Nat.not_lt_zero
uu:=zero
yb:=Nat.le_refl
S?:=List.getD_eq_getElem?_getD
Hu:=List.getElem?_eq_getElem
yf:=decide_eq_true
NI:=Bool.not_eq_true
NL:=Mt.mapFine
NM:=hr.mono
uv:=Bool.true_and
Hv:=List.all_eq_true.mp
yi:=List.mem_of_getElem?
px:=_B.jV
bd:=bef
d?:=m.length
yj:=_B.pX
yk:=_B.lD
NP:=Bool.or_eq_true
ux:=Bool.or_eq_false_iff
Hx:=Bool.not_true
NR:=Bool.false_or
Hy:=cZ.length
Ce:=List.length_take
Cg:=List.length_drop
dM:=hv.now
Ch:=Mt.before
NS:=Mt.toMost
uy:=take
Ta:=List.drop_eq_getElem_cons
py:=_B.j2
sd:=V.ref
nC:=List.map_map
ak:=Addr
hF:=rule
HA:=Mt.mapsIn
HB:=h.fault
yl:=Mt.seqsIn
NT:=s.heap.get?
HC:=s.toks
i2:=wpAny_bind
nD:=wpAny_pure
NU:=Nat.add_zero
ll:=aq.length
iG:=pins
Tb:=F.slot_dict_len
NW:=wpAny_holding
NY:=sizeLine_eq
Ci:=Mt.Range
se:=l.map
el:=List.length_map
NZ:=Nat.min_eq_left
N0:=List.map_take
Tc:=List.map_drop
N3:=List.take_of_length_le
em:=outer
uz:=Scope
N4:=ListComp
bM:=kind
N6:=_B.isName
lm:=scope
HD:=z.length
Cl:=aJ.of
Cm:=Ev.of
eT:=aL.p
kB:=s2.trans
Te:=PySem.boot_len
uC:=keyOf
N7:=hv.contains
Cr:=hv.length
yn:=_B.kg
N9:=Bool.not_eq_true'
N':=Mt.namesIn
pB:=ns.length
yo:=n.length
jP:=trans
HF:=A.g.z_
uG:=sH.trans
Cv:=s4.trans
uP:=List.length_append
Cy:=Nat.le_of_not_lt
Tf:=List.mem_cons_of_mem
HH:=List.mem_cons_self
HI:=_B.gone
nE:=_B.iK
yp:=Constant
HJ:=hj.now
N!:=t3.trans
N?:=qs.Nodup
HL:=own.map
Ob:=qs.length
Th:=Nat.zero_le
sg:=Ne.symm
HN:=Nat.lt_of_le_of_lt
yr:=List.map_append
Ti:=List.nodup_append
Tj:=List.mem_singleton
Tk:=List.mem_append.mp
ln:=Shared
Oc:=vs.length
Cz:=Tuple
hG:=Nat.le_trans
uQ:=h.at_
Od:=List.getElem?_eq_some_iff.mp
Tl:=List.pairwise_iff_getElem.mp
Tm:=Paired.snoc
fN:=cons
yv:=List.getElem?_map
pG:=_B.eK
Tn:=Nat.lt_of_lt_of_eq
sk:=later
HQ:=hB.same
ma:=aL.v
CB:=hB.later
HS:=xs.length
nH:=_B.cU
To:=Option.some.inj
Tp:=List.length_zipIdx
Oe:=List.length_range
nI:=Mt.Row
HT:=hM.next
CC:=hM.num
Of:=hM.done
yw:=Mt.Seq
HV:=s5.trans
Og:=s7.trans
sl:=prog
HX:=Around
Oi:=h'.DictOfH
lq:=more
Ok:=more.foldl
gc:=acc
CE:=storedH
mb:=items
Ol:=items.size
yx:=rest.length
uR:=sizeLine
uT:=s.heap
Tr:=List.toArray
Tt:=codeAny_builtin
Tu:=Around.under_plainId
sn:=List.length_cons
yy:=fJ.extBut
HY:=holding
On:=Value.ref
Tv:=wpAny_typeOf
CF:=dY.extBut
Op:=prs.length
i3:=s.heap.objs.size
Tx:=s.heap.push
Ty:=Builtin.Dict.updateFrom
Tz:=h1.objs.size
CH:=Heap.lt_size
yB:=Nat.ne_of_lt
Oq:=Nat.lt_trans
TA:=Nat.ne_of_gt
HZ:=Nat.zero_add
TB:=List.length_nil
uV:=putK
TD:=Paired.length
Os:=ho.later
yD:=List.take_add_one
Ot:=List.take_length
CJ:=Nodup
uW:=List.map_cons
H9:=List.append_assoc
CK:=List.mem_map_of_mem
i!:=r.scalar
uX:=r.to
Ox:=List.Nodup
H_:=List.pairwise_map
so:=Mt.Book
uZ:=rows
Oz:=Mt.flag
i?:=c.Book
CL:=_B.pick
CM:=aQ.later
sp:=A.bj.cl
OB:=A.g.MAPS
H!:=fj.later
eq:=d.ms
pL:=_B.m8
hH:=d.book
TG:=Nat.lt_of_lt_of_le
yH:=Mt.byKind
nK:=Mt.MAPS
TI:=Nat.le_add_right_of_le
kC:=d.ps
hI:=d.ss
H?:=d.ns.length
OC:=d.book.maps
TJ:=List.map_congr_left
OD:=d.book.seqs
yI:=Mt.SEQS
u3:=d.book.maps.getD
Ia:=d.book.seqs.getD
pQ:=apos
c3:=args
cr:=pre
e?:=post
Ib:=Attribute
TL:=apos.atName
CN:=lookup
mc:=free
OE:=A.bj.wQ
OG:=s0.trans
CP:=rp.length
yK:=rm.length
yO:=rs.length
TM:=Mt.canonRows
gd:=stp
pR:=qual
OH:=FuncData
OI:=us.length
Ic:=List.append_nil
Id:=hS.later
yQ:=_B.gb
TO:=List.flatMap_cons
CQ:=l.take
u4:=_B.eQ
CR:=hR.later
CS:=Bool.not_eq_false'
OJ:=BM.later
CV:=bz.later
TP:=List.mem_map.mp
fO:=prev
jR:=Clause
OK:=MtLine.Ways
If:=h.elim
ON:=Mt.shortK
Ih:=Mt.STEPS
OP:=jb.book
OS:=jb.later
nO:=aj.trans
OU:=flatMap
OW:=kZ.later
TQ:=List.flatMap_append
OY:=Mt.foldOnce
Ij:=Mt.foldTwice
TR:=List.all_append
O0:=mK.later
lu:=part
u5:=cl.part
u6:=cl.kind
u7:=cl.nm
yR:=cR.of
Il:=cR.raw
O1:=d.book.props.getD
Io:=Mt.PROPS
Ir:=h4.dc.row
O2:=h1.book
TS:=r.to.length
Is:=Mt.full
O5:=Mt.prop
It:=Mt.ccc
O6:=r.first
su:=List.range
Iu:=r.value
u8:=r.value.testBit
CW:=hD.dc
yS:=hf.sc
Iv:=hf.most
TT:=Nat.le_antisymm
CX:=find?
sv:=cl.rule
Ix:=Mt.countOf
TU:=Mt.beforeOf
TW:=List.getElem?_of_mem
TX:=Nat.add_sub_cancel
CZ:=Nat.add_sub_cancel_left
TY:=Mt.agreements
T0:=knd.contains
T3:=List.mem_cons.mp
C0:=cls.take
u9:=cls.drop
O7:=reverse
O9:=trivial
nP:=t.length
C1:=MtLine.waysOf
T4:=MtLines.marksFine
pU:=c.jS
yY:=A.gu.cl
O':=A.gu.xM
T5:=MtLines.Answer
yZ:=MtLines.asks
C2:=false
O!:=MtLines.says
u_:=MtLines.TEXT
T6:=YfNeutral.numbers
ID:=MtLines.gives
IE:=YfNeutral.ints
IF:=MtLine.marked
T8:=MtLine.chances
T9:=MtLine.width
T_:=MtLine.measure
T':=MtLines.COLUMNS
T!:=MtLines.pairs
O?:=MtLine.linesBy
T?:=MtLine.unmarked
Pa:=MtLine.raggedBy
Ua:=I.base.free
Uc:=List.mem_append_left
Ud:=List.mem_append_right
IH:=bz.ins
nR:=c.Reader
pZ:=dA.of
C3:=dA.upd
C4:=dA.at_
nS:=A.fR.cl
II:=A.fR.Ik
IJ:=nl.length
C6:=nl.drop
IK:=Mt.judge
u!:=MtLines.step
IL:=rn.length
C7:=rW.later
IN:=tS.trans
C8:=textCall
Ue:=MtLines.Call
Pb:=hD.keep
Pc:=m6.later
y4:=YfNeutral.natsOf
C_:=x.length
u?:=YfNeutral.step
Pd:=rM.later
y5:=PyFlat.told
Uf:=PyYqmtfa.answers_asked
Ug:=PyFlat.calls
Ui:=PyYqmtfa.shape
Pe:=cs.length
Uk:=PyYqmtfa.answers
Un:=PyFlat.played
c1 a:=List a
a7 a b:=a _ _ b
ab:=by decide
cd:=a.2
Z a:=gU a
bm:=a.1
et a b:=gU (a b)
al:=c1 Y
ad a b c:=λ a b c=>?_
az:=aa 0
dE a:=λ hx=>a
aN a:=.ref a
au:=aa 1
lw a:=a O
a5:=aa 2
ce a b:=af _ a b
b! a:=a _ _ _ _
c! a:=.ref a
bO a:=(a).length
cS a:=by exact a a6
bT:=cd.1
cv a:=et .ref a
cx a b c:=by rw[a]at b;cases c
bh a:=a=c2
dl a b:=by refine a;subst b
cA a b:=λ a b=>?_
gY a:=a7 s1 a
ck:=λ _=>rfl
md a b:=a->b->Prop
fc:=cd.2.2
ge:=dE ?_
p6 a b:=autoParam a b
p7 a b c:=ae a (ae b c)
a?:=Fs K mg c
ig a b c:=a X σ H b c
sw a b:=λ a H=>b
jT a:=Option a
f7 a b:=af a O b
mi a b:=a P b K mg de
dV a:=a (by kernel_rfl)
gZ a b:=a hH b
ey:=x.2
d1 a b:=p7 a b ao
dn a b:=by exact a b
ii a b:=by refine a b ?_
dp:=NM ab
sx a:=a hH
IO:=lw Or.inl
bn a b c:=λ a b h=>c
sy a:=(a).book
fU a:=m.getD a 0
vb a:=md a Hp
y6 a:=.pure a
b6:=aa 3
jg a:=p6 a aA._auto_1
eX a b:=a b O
gg a b:=by refine bq a b
b? a:=li a
ch:=cd.2
g6:=bm.2
y7 a:=by dsimp only;rw[a]
ci b:=sw a b
kE a:=p.getD a 0
gB a:=by rw[a]at hR
cY b c:=λ a:b=>c
ez a:=ya a
d2:=cd.2.1
p9 a:=aW bV a ai
dz a b:=a nd O IO b
cL:=by rw[y7 h]
il a:=λ H1 s1=>a
c? a b:=ba H a b
dH a:=Hs a
mn:=y6 ?_
gi a:=a7 s3 a
im a b:=a (v:=b)
IP a:=NE a l9
dt a:=(a:cm)
eC a:=ae a ao
db a:=a7 s4 a
fw a b c:=Paired a b c
c0 a b c:=aZ a O b c
dL b:=λ a v H=>b
jh a:=λ _=>a
f8 a:=eval a l9
vc:=by decide+kernel
eY a b c:=aP a (aP b c)
ly a b c:=λ a H2 s2 b=>c
gk:=by rw[ii hU _];dsimp only
gn a b c:=cG a cA b c
hO:=bm.1
sz a b:=.ins a dx b
eH a:=λ d r=>a
mo:=mi aM w
jU:=c1 Key
jW a b c:=a (by exact b c)
nV a b c:=a hH b c
du:=aa 4
d3 a:=ag a
gq a:=λ x=>a
iL a:=a7 s2 a
mq a:=a P w K mg
f_ a b d:=d4 c K a b d
fx a:=λ H3 s3=>a
g7:=c1 V
eJ:=aG ai mn
eZ a:=a=ac
y8 a b c:=a (b A) ab ab λ d r hD hh hm hf=>c
kF a:=a (by rw[vc])
fy a b:=H a=Z b
io a b:=ig aB a b
lz a:=br H a
iM a b:=by refine ce a b
fz a b:=by refine aY a dE b ge
gH b:=b m a bd
nW:=gY hq
eR a:=λ H2 s2=>a
ji a:=cH (dD a)
ff a:=eh _ _ _ _ a
sA a b:=c9 (a:=b)
ve a:=Y×a
g8 a:=λ e=>a
g9 a b c:=a O b c
p_ a b:=by subst a;have nd:=b
iN a b:=λ a _=>b
p! a b:=gR jK a b
f' a b c:=by subst e;rw[cx a b c]
fl:=gr S
fX a b:=by rw[a];exact b
y9 a:=c1 (Y×a)
g_ a:=by rw[gB a];rw[<-hR];rfl
C! a b:=y8 cR.row a b
jY a:=Cl a
vg a:=nH k a
gt a:=λ h=>a
mt a b c:=sA j a b az p9 c O
j0 a b d:=BM a i? b d
gx a:=et vN a
iP a b c:=a (b:=λ v H=>c)
mu a b:=bP a b ai
gO a:=ba H v a
gP:=c1 jR
gQ a:=by rw[li a]
lB a:=a _ _
nX a b:=af a e b
nY a b d:=a i? b d
p? a:=sz i? a
vj:=sx Mt.map
kI a b c:=jg (IP a=(false,b)::IP c)
sB a:=ak×a
n0 a:=a7 s a
jm a b:=by refine a hp b
mw a b c:=aj a (br b c)
hV:=bt->jT h?
y!:=bm.2.2
iU a:=by exact a
g! a:=gy a
vk:=dk.2
n1:=lw gy
hY a b:=by rw[a];exact b
iW a:=Y×a
lC:=e::es
IR:=by simpa using hx
mx a:=((a:Y):cm)
sC a b c:=λ a b c=>?_
my a:=aj H1 a
kJ:=gY bQ
kM:=by decide
kO a:=show a by decide
jn a b:=by have a:b:=by rw[IR]
ip:=aa 5
qc:=a+1
kP:=n+1
qe a b:=ce a lw b
jp:=jT Y
mz a b:=im a c! b
iX a:=.fY a
j1:=q.2.1
it:=Ts K mg
js:=mo 1
vl:=f7 q nW
qg:=nomatch e
iY:=jT V
iv:=.nil
kR a:=a==[]
ju a b c:=by rw[dl (aO a b) c]
vp a:=p! a az
kS a:=a7 a hb
jv a b:=by exact pw a b
y? a:=bO a<=8192
n2 a:=ah a ad qp cD bQ
lE a b:=.Call a b [] bi
j7 a:=λ H4 s4=>a
mA a b:=bg (a b)
n3 a b c:=λ u a b e=>c
za:=by(repeat(first|exact List.Mem.head _|apply List.Mem.tail))
iF a:=id a
n5:=fc.2.2
j!:=V×al
sD:=V×al
mJ a:=by exact .f? a
Pf a:=nV Mt.compat a n
n6 a b c:=by exact a b c
IS a:=T6 a
zb:=.ins
lJ a:=a A T
kT a:=by have:=lh hx;rw[cS a]
sE a b d:=bz i? a b d kk
jw a:=(a).length
sF a b:=upd H a b
qh:=aj H H1
kU b:=λ a v _=>v=b
n7 a:=(a).isSome
n!:=vj 5
mO:=sy vk.2.1
sG a b:=(a).uy b
i0:=aa 6
kW a b c:=show a by exact b c
j?:=vb α
mP:=by have:=lf hx
kc a b c:=by rw[a]at b;cases c
C?:=sB h?
k4 a b:=by have a:=lf b
jE a b:=(a).map b
ke:=ak->Prop
zf a:=backTo bi (NE a l9)
kf:=c1 ak
kl:=c1 d'
sI:=Pf k
ko:=by unfold br
ku a b c:=a b c ?_ ?_
k6 a b c:=by generalize a:b=c at hR
sJ a:=gZ a i!
sK a b c:=by rw[gg hp λ a b=>c]
kw:=aj H H'
k9 a b:=H a=et .lst b
mS a b:=f7 a iL b
k!:=α->vb V
lL a:=by rw[p_ cD a]
qn a:=(a:Y)
k?:=(ra,ca,nl)
kx a:=λ H4 s4=>a
zi a:=a nd O IO
lb:=c1 (bt×V)
mT a b c:=a dn b h4 c
sM a b c:=lR a b (λ _ _ c h=>nomatch h)
kz a:=a k []
qo a:=lx H v IS a
lc:=α->g7
n? a b:=cF a _ b O
lM a b c:=by rw[iM a sC b c n']
lS a b:=a (o:=nY zb dx b)
vq a b d:=mq a de c b d
mW a b:=ig Ev a sw v b
sN a b:=λ a a! H'=>b
lT a b:=io a aN b
lV:=α->vb Hp
kA:=k+1
sP:=pv 0
vr a b c:=b! gI (a b) c
mY:=(b,d,kk)
oe:=(ra,ca,nl)
lX:=cv qp
sS:=sx O5
lY:=cv b
vu a:=λ _ _=>a
qq a:=λ y=>a
mZ:=a.1.1
m0:=c1 (jU×C?)
oh a:=.lst (a vN)
ld a:=(a).imp
qu a:=gZ a m
on:=fU a
vw a b:=ly a e b
m9:=sy y!.1
zk a:=p6 a bS._auto_1
m?:=b7 (i:=2)
na a b c:=a ac b=.ok c
l6 a b:=λ a b _=>?_
Pg:=li ab
sT:=mi fb w
nc a:=(a:cm)
sV:=c! q
vx:=a.2.2.2.1
sY:=λ _ _ _ _ _=>cz nd O (.f? O) (.fB O)
s9:=CL 0 eq
s? a:=O! a
l7 a:=#[_,a]
vy:=aw st
oo a b c:=bp a b dV b1 ck c
op a:=by have:=lf hx;rw[cS a]
nf:=sx _B.di
oq:=sy bm.2.1
vz:=fE ge ge
qw:=bO g6
or a b:=by have:=lf a;rw[cS b]
qx a:=(Od a).1
nh:=by simp at hx⊢
ou:=Mt.propsIn 0
nj a b c:=gj a _ _ _ _ b c
vB:=ve nI
qB a b c:=upd a b (.lst c)
nn a:=(a).map
qD a b c:=by rw[gg a iN b gn c dx h1]
ta:=ji aI
vC:=bd=Z b
np a:=by unfold a at h
Da:=bK "parts"
nr:=fc.1
Db a b c:=a (b:=c) (w:=w) (de:=de)
ow:=by(repeat(first|rw[cX,n1]|rw[cX,Pg]))
Ph a b c:=iy x_ O a b c
Dd a:=List (List a)
nt a b c:=fa a (fa b c)
nu:=v=c! q
nw a:=dI (bN a)
qI:=a+2
ox a b:=gM a _ _ _ _ _ p? b _
zn a b:=bU a ai b
nz a b c:=λ v a b c=>?_
oy a:=mw lz kk a kk
oA a b:=lj (dr a jh b)
De:=vp bQ
nB a b:=a (cq b)
vE a b c:=λ v a b e=>c
qK a b:=C! a #[b,rfl]
qL a b c:=ae a d1 b c
oD a b c:=eS a (r? b c)
oH a b:=H a=et .tup b
oJ a b:=by rw[po];exact a b
vH a:=by rw[cx a a6 a6]
Df:=.type
vI:=sx Oz
oL a b:=H a=et .b aq
qM a b:=aW bV p9 a b
qP a b c:=Ph a zi b c
oM:=by dsimp only at hx
qR:=yb _
IT a:=.lst (a l!)
oN b:=[aN hO,b]
oO a b c:=fw (a H) b c
qS a b c:=by rw[dl (ah (TP a) ad x hx b) c]
zo:=λ _ _=>trivial
qW a b:=by refine a;refine b
Dg:=a'.1
vK:=iQ h
vM a b c:=∀v H2,a->b->c
oR a:=a<=d?
vO a:=by exact(a).symm
qX:=dH (fS bd>=0)
oT:=c1 (jU×V)
oU:=fI c bm H
oX a b:=by unfold a;rw[b]
oY:=a<d?
qY:=d? - a
tb:=fc.2
vR b c d:=aE a b e c d
o0 a:=a i!
o3 a b c:=ah a λ b e h=>c
tc a b:=eV a (ag b)
q5:=by exact a6
q6:=bI 3
Pi a b c:=lF PySem.F.plainAttrs_list a b c
zt a:=jg ((a).any (·.1)=false)
q7 a:=kF (d_ (lm:=a))
o6 a b:=a=false->b
q8 a:=_B.kL _ a
vU:=cl.g d u
td:=bT.2
q9 a:=eX eS a
tg a b:=.List a b
th a b c:=λ a H1 _ b=>c
o_ a:=a7 s5 a
IU a:=by rw[el,a]
o! a b:=λ a b=>?_
vV:=z.2.to
Di a b:=cK yY (a A) hr b
q! a b c:=show a<=8192 by exact b c
q? b c d:=by obtain⟨b,c,d⟩:=a
rb a:=b! (gM a _ _ _)
rc a b:=(a).imp b
o?:=r.2.1
vW a:=.f? a
rd:=q.2.2
zv:=y? cd
re a:=li (by exact a)
ti a:=To a
rf:=kE (4*k+1)
rh:=kE (4*k+2)
ri a:=a (ga s2)
rj:=cv r
rk a:=ez gi a
ro a b:=(vg a).map b
rz:=g8 qg
zw:=jk d u5 u6
pb:=c5 23
pc:=qN S
tm a b:=il #[a,b]
tn a b:=cu a (cu b ao)
tq b c:=[b,vN bT,c]
rB a:=by rw[gy a]
rE:=d2.2.2
rG:=kE (4*k)
tr a b c:=aE a _ O b c
Dk:=e? a v H2
rH:=[f.rule,f.place]
rI:=Hp->md V α
rJ a:=dn a hk
zx a b:=ly a hv b
rK:=(ey).scalar
Dm:=gd a H H2
rL a b:=by refine a;show b
pe:=pv 1
ts a b c:=bp a b dV b2 ck c
rQ a:=by simp;exact a
tu:=TK sl w
rT:=v=c! a
rU:=my H'
vX:=b7 (i:=3)
v4 a:=l.getD a 0
rX:=c1 α
tw:=bT.1
tx:=jh ?_
zy a:=sG a k
v5 a b c:=λ a s1 b q=>c
rZ a:=(a:Y)
ty:=vN cd
v6:=kt.2.1
r4 a b:=a (vs:=b)
IV a:=λ a=>?_
I0 a:=T4 t a
r5 b:=λ a=>b
r7 a b:=λ _ a=>b
zB a b:=iw dy a b
v9 a:=mG a t
tz a b c:=by dsimp only[a,jk]at b c⊢
zC b c d:=b (cl:=c _) (d A) ab (λ a H hp=>?_)
I3:=IT tt.map
tA a b c:=mq a de k b c
tB:=y9 yw
tC:=y9 nI
tD:=sE H b d
tE:=j0 S0 bm H
I4 a b c:={cls:=a,data:=.b (Tr c)}
I5 a b c:=bK "map_rows" a (Da b c)
tG:=mi ng w
Dn a:=b! vY _ _ ha a
v!:=sD×Y
r8:=c5 39
v? a:=yf a
tH:=mx (4*k)
tK a:=bh (x8 a)
tL:=ij sP aI O
Do a b:=a c3 b gd e?
tN a:=by unfold br at a⊢
tO a:=∀H1,qh->a
tQ a b c:=∀{a:b}{o:HO},c
I6 a:=wipe a (HL (·.2))
Dp:=sz C fs
wc a b:=y8 cR.gT a #[b,rfl]
r9:=a+3
r':=pv 3
wd a b c:=eX mt a b a5 n6 c h4 hk
tT a b:=ig a es b
tW a:=f_ a n H
tZ:=fU qc
wf a b c:=by rw[sK a ap n2 b];dsimp only at cD bQ c
t7 a:=by rw[a]at a6
t8 a:=by rw[a]at a6
zD b:=b g6 cd
t9 a:=a cr gd e?
wh:=gi aX
zH:=eC au
t_ a b c:=cG a λ b h=>c
t!:=λ h1 h2 h3 h4 h5=>?_
wi a b:=.tup (a b)
zI a b c:=gw (λ _ _ a=>b) c
zJ a:=n3 H1 s1 a
t? a b:=by exact a b
wj a:=qA 2 nS (a A) dp
zL:=n7 nV ON Ih i!
ua a b:=b8 aq (a b)
wl:=c! qm
zM:=(ey).key
ub b:=nX a b
uc:=n0 h
ud a:=a7 s8 a
ue a b c:=λ a b _ c=>?_
uf a b:=eS (a:=b)
ug:=by simp
uh a:=brk d a
ui a:=br a kk
uj:=mE S H
wm a b:=λ H3 a=>b
wo a:=by rw[gk];unfold a
Pl:=sJ Ij
wp:=by have:=lh hx
wr:=bO sI
zN:=sM hz h _
ws a:=by have:=lh a
wt a:=vq cR fO a
uk a b:=λ _ a=>b
ul:=ey.1
un:=a.2.1
I7:=kF hR.cw
Dq:=HA (d?+1) 0
Du a b:=cK sp (a A) hr b
ww a b c:=by rw[dl (a dM b) c]
wy:=by rw[uq]
wz:=[eb]
uo a:=a H2 s2
wC a b:=a (yf b)
zP a b:=by obtain⟨iE,a⟩:=b
wE:=mo 3
wF a b:=jW li a b
wH b c:=by obtain⟨b,c⟩:=a
wK a b c:=_B.jr a (show b<c from hk)
wL a:=a hF bM nm g'
zR:=Z .globalImplicit
up:=i+1
wN a:=mz ma a
Dw a b:=.Subscript o a b
I8 a:=.Ib o a pQ
I9 a:=a (kB s3)
Dy a b c:=(a b).OU (c hH)
wO a b c:=by refine Bd.of a λ H1 s1 D b c=>?_
wP:=Th _
zT a b c:=aE a _ po b c
wS:=n5.1
wT:=vx+1+1
zV a:=kI lC f8 a es
zW a:=show a by decide
wU a b:=ON a Ih b
wY:=aW cW au ai
DC:=λ vs H1 s1 hv=>?_
wZ a b:=by refine a;unfold b
DF a:=by simpa using a
zX a:=.Ib a
w0:=fc.2.1
w1:=ve yw
w2:=vb V
zY:=bd=Z b0
z1:=.pk y pos'
w3:=l_ s4
z2:=sy bk.2.1
w4:=r! p k=0
w5 a b c:=a d5 d5 ai b c
w7:=sR kP ks j
DG a b c:=Pi PySem.F.slot_list_append PySem.F.type_list_append a b (iu c fQ)
DH:=e! - 1
w_ a b c:=aB X σ a b c
w' a:=sN k a
w! a:=vw u a
w? a:=zn au a
xa:=by rename_i e
xb a b c:=aZ a b c O
z4 a:=((a:Y):cm)
xc:=sF z o
z7 a:=C! a #[yS,rfl]
I_:=#[_,rfl]
xd:=c1 cm
xf:=(b,d,kk)
xh:=b7 (i:=4)
xk:=IV cn
I' a:=cg (a:=2)
xl a:=.ur a
xm:=bm.2.1
xq:=qn k
xv:=r.2.2.2
xw:=r.2.2.1
xx a:=λ H5 s5=>a
xz a:=λ a=>?_
xA a b:=(a).drop b
xB:=bZ k X.A
xD:=(ey).to
xG:=lB eh
DI:=c3 a
xH a:=a7 a e
DJ:=Z x
z8 a:=by unfold a;rw[IU Oe]
I! a:=I4 (Df "dict") dict a
z9 a b c:=bp a b dV b3 ck c
z!:=I5 aN am aN pa []
z? a b c:=by rw[h2];refine aY mu cM a jh mA rY b dE (pw h1 (lh c))
Aa a b c:=aT (a A) hr b eC c zo
Pm a b c:=callWith bi a first zf b (backToKw bi (keywordEach c l9))
I?:=(Pl).all gq kR (n! x)
xI a:=λ n=>a
DK:=.pk
Ab a:=HN a ab
Ja:=il vl
Jb a b c:=by rw[h2];refine aY mu cM a dE (pw (lf hx) b) c
Ae a:=lJ Db a P P
Af a:=qe jY a (cg (j:=1))
DL a:=zk (a=false)
Ag:=bh I0 m
Ah a b:=hG (a b) ab
Ai a b c:=a x9 X.w X.K pj X.base k b c
xJ:=k<15
xL:=hx.1
xR:=k<=8
xS:=pH++pJ
xT:=zS d
xV:=i<=a
Je:=I6 σ
Aj a:=by rw[yv]at a
Ak a b c:=by rw[dl (ah a ad b a9 c) a9]
Al:=by rw[<-NI]
An a:=by rw[ii hG a]
Aq a b:=eX (c9 a az a5 O) b
DR a:=b! b! BI hz a
Pn a b c:=a (Un u? b c)
As a b:=iP eT P (a H v b)
DS a b c:=jg (f8 a=(do let ov<-f8 o;standAt TL;let(f,first)<-b;Pm f c []))
Jg a:=gZ TU a
xZ:=bI 4
At a:=gZ Ix a
Au a b c:=(Mt.inside a).all λ b=>c
Aw:=("__debug__":bt)
Ax a:=by rw[mJ #[a,rfl]]
Jh a b c:=X.cC s a lm (compEnvC lm b c l9) fp
Ay:=c1 (bt×ak)
Az a:=by refine uI dM a
AC a b c:=vE a s1 nX b c
AE a b c:=i2 (a b c)
DW a b:=!Mt.isSyllable a&&!Mt.isJamo b
AG:=sS 2 c
AH a:=d1 az a
AI:=kE (4*k+3)
AK:=y9 α
AL a b:=(yH a b).getD
AN a b:=il ce a b
DX:=BK×V×vB
AO:=gZ u4 n
Jj a:=by dsimp only at hv a
DY a b:=p v a O9 b
AP:=(TK sl w).is
AQ a:=iz r_ a ai #[ab,kM]
AS a:=by rw[cS a]
DZ a:=im ma (vN a)
AT:=Pr m a i bd
Pp:=.pk "range"
Jo:=r? sb ?_
AV a:=wpAny _ _ a _
D0 a b:=kB (a b)
Jp:=CP+yK+yO+IL
AW a b:=show a by exact b
AX:=r.to.headD 0
AZ a:=f7 a O
A0 a b c:=a (b:=λ d! H2=>c)
A1 a b c:=a b O c O az
D1:=NG s1
A4 a b c:=br a kk b=Z c
D2 a b c:=a (w:=wn) (b:=c)
A6 a:=wpAny _ A.in1 a _
A7 a:=by unfold a at hR
A8:=[sv,u.num]
A!:=Fs X.K pj c
A?:=z.2.scalar
Be:=aN hO
D9:=gY h1
Bf b c d:=b (K:=c) (a:=d)
Bg:=pu m a
Bi a b:=a (.pure b)
Bj a:=λ u H1 s1 hu=>a
Bk b c d:=bL b λ a e g c=>d
Bn a b:=a bd=dt b
Bp:=ve Y
Bq:=n0 h1
Br b:=a.2.map b
Bs:=cz (i:=2)
Bt:=.pk x p
Bu:=b7 (i:=1)
Bv:=Y->Y
Bw a b c:=λ a a! H' _ b=>c
D_:=zt zf es
By:=(0:cm)
Bz:=[v0,v1,v2,v3]
BA:=pG 15
BB:=bM<15
BE a:=Mt.map a
BJ a b c:=λ v H1 a b=>c
BL a:=(a).scalar
BN a b:=by rw[a,b]
BT a:=λ x hx=>a
BU a:=a7 s6 a
D! a:=C! a #[trivial,rfl]
D? a b c:=by refine g9 (fK (oe,n,a) ra O n? dx h1) #[hR,b] c
Ps a b c:=Di IA a az lw hD.cw d1 au b O il (jN (hD.later s1) c vl bJ iH)
BX:=pG 3
BZ b c:=λ a:b=>c
B1 a:=#[dx,a]
B2 a b c:=vP a pa b c p1 p2
Ea:=lB Bo
B3:=en m a
B6:=zp hk h
B8 a:=cu a ao
B9:=lz k
B_ a b c:=λ a H3 s3 b=>c
B! a:=λ _ _=>a
B?:=Sem fm
Eb:=xP s3
Ca:=bg ?_
Eg:=lO hm
Ei:=lE I8 m lC
Jq:=by rw[<-NI,e9];rintro⟨h1,h2⟩
Ej:=nV oI zy s9 vV
Ek a b c:=by have:=jW Of a b;rw[vH h];rw[CC];have:=hM.le;exact hG c a6
En a b c:=iD a b dV b3 ck c
Eo a b c:=vf a b dV b2 ck c
Es:=al×al×al×al
Eu a b:=by obtain⟨_,a,b⟩:=Option.bind_eq_some_iff.mp h
Jr a b:=cK sp (a A) dp b
Ew a:=qe jY a I' j
Ex a b c:=by rw[dl (ah (eM a) ad m hm b) c]
Ey a b c:=by obtain⟨a,hR⟩:∃b,c:=I_
Js a b:=if a then s? (-6)else b
Ez:=upd H6 tl I3
EB a b c:=by(have ot:a:=by exact Bm hk);have b:c:=by exact D8
EC a b c:=a b (yi c)
ED a:=by rw[gy (by rw[cS a])]
EF a:=vr qG.trans s4 a
EG:=u? sy BS.2.1 cc
EI a b c:=by obtain⟨⟨iE,a⟩,b⟩:=c
EK a b c:=by rw[jm bX a];dsimp only at cD bQ b c
EL a b c:=by refine ah (wI a) ad b hk c
EM a b c:=mq d6 de a b c fd ps Do Ec cr
EN a b c:=HY [ov] (getMethod a b c)
EO:=sT 10 pU
EP:=(zw).CX λ u=>!vU
EQ a:=vW g9 lg _ ez a
ES:=I9 ga
EX a b c:=by refine gK 1 nd a ly b n9 (c6 fx f7 b2 (c H3 s3))
EY:=E1 hf ab ab
E2:=u_<d?
E3 a:=by rw[el]at a
E4:=fy z Dp
E5 a b c:=by unfold a;rw[li (no hx)];exact b c s2
E7:=by rw[e9]
Jt a b:=by rw[a,uv]at b
E8 a b:=C1 a=Z b
E9 a b c:=show a<=10000 by exact b c
E':=Dn t
E!:=zB ta dg
Pt a b c:=a mO b n c (T? m)
E? a:=Tk a
Fa a:=jW gy a hk
Fc:=ms.length<=d?
Jv a:=yf (e4.mpr a)
Jw a:=jW nk.four a ap
Jz a b c:=IsTup a b (Tr [aN j1,c])
Fd a b:=a=y4 b
Fe:=_B.jJ m a i bd ft
Fj:=_B.jI m a i bd ft
Fl b:=b g6 bT ch
Fn a b c:=jd a H1 b r qs (c ft)
Fo a b:=by obtain⟨a,hb⟩:=b
Fp a b:=by obtain⟨a,b⟩:=hp
Pv a:=ID (T! a)
Fr a b c:=yZ a t b c
Ft:=c9 bQ az au O
Fv:=mi tY w
Fy a b:=a l9 (eval b l9)
Fz:=vI 15
FB a b c:=c9 (a:=b0) (b:=fU b0) c az a5 vK.2.1
FC a b:=(C6 a).uy b
FF:=eZ (fs.lookup m)
FH a:=i2 (a ?_)
FI:=by dsimp only at a6
FJ:=HS<=8192
FK a b c:=∃a,d!=[cv q,Z b]/\ba H2 v c
FL:=Dd cm
FM:=Dd Y
FO a:=D3 sp A.bj.BY a az O
FQ a b c:=λ v H8 a hv=>p v H8 b c
FR a:=by unfold a;dsimp only
FS a:=attributeBase a
FU a b c:=aE a _ l? b c
FW a b c:=by have h5:=a h2 b0 (b c).1
FY a:=r.to.all gq a
F1:=b! gI s3 eE
F2 a b:=CB a (l_ b)
F3 a:=b! gI s a
F6:=sy Dg.2.1
F8:=lz y!
F9:=vg eq
F_:=vg hI
F':=p9 a5
F!:=se (·.2)
F?:=4*k<i1
Gc a b:=∀{a:fm},b
Gd:=64<nP
Ge a:=a<=IJ
Gg:=kB s3
Gi:=kE qc
Gk a b c:=aO a λ b y e h t=>c
Gm:=fU qI
Go a b:=a (k:=uC b)
Gp:=X.calm=c2
Gq a b c:=FV (a b) H v (c 18)
Gr a:=a+1<d?
Gs:=i1/4
Gt a b:=show¬a from b
Gu:=vu True
Gv a b:=CV a b
GA:=(g6).getD
GB a b c:=by intro iG s σ a b c zz
GC:=y6 O
GD:=aj.refl _
GE:=iL AR
GF:=pt m a
GG a:=λ u H3 s3 hu=>a
GH:=(qk,d,kk)
GL a:=ce O a
GM:=λ _ _ _ h=>h
GQ a:=by simp[a]
GS a b c:=by intro a b bd ft hz c hi
GT a:=cH (lI a)
GU:=by cases h
GV:=cz (i:=3)
GW a b c:=λ a H1 b c=>?_
GY a b c:=GR a (λ o e=>b) c
GZ:=c1 β
G0 a b c:=λ v H4 a b=>c
G4:=(wn,co)
G5 a:=cr a H1
G6 a:=(a).map vN
G7:=[ea,eb,ec]
G8 a:=(a).CJ
G9:=by simp
JA a b c:=by obtain⟨dk,wn,tv,a⟩:=b;rw[<-iR hp λ hD q hv hq=>?_,Jj hq,p_ hv c,gk,ii im (q6 nd) (.fY v9 wn) (aT (Iz A) dp (wn,sV,t) d1 au a5 Ja)]
G_ a b c:=λ _ _ _ a b=>c
G':=[e1,e2]
G! a:=(a).book
G?:=PL vs H
Hb:=cl::l
Hc:=.fN
Hd:=mf aI
JB a b c:=by refine a nd mT mt b bQ au Cb c ?_
He:=c5 21
Hg:=dk.2
Hk:=jy h
Hl:=kN n
JE b c d:=b (RQ cY c [a.1] ci (c? bm cd/\zv) dL d)
JF a:=a "folding_settles" eH I?
JG a b c:=Pi PySem.F.slot_list_extend PySem.F.type_list_extend a b (iu c fQ)
JH a b c:=by exact a ab (λ hh b=>c (HR:="canonical_row_without_hangul") (Im:="scalar_is_no_hangul") (Ie:="ends_by_k") (D':="ends_by_k") za za za za n) hp
JL b c:=zC Il (b "folding_settles") c
Pw a:=Pn y5 YfNeutral.start a
JO a b c:=eY dz vX a (oQ x_ dy b) ji c
JQ a:=by rw[el];exact HN a ab
Hm:=pv 2
Hr:=mN fQ
JR a b c:=eY (a O nd ee x! sY) b c
JS a:=(Tx I! []).a
JT a:=by rw[mP,g_ (i' (decide_eq_false a))]
JU b d e:=b (RQ d (Hf c) dL qo (yZ bT fc C2 qq e))
JV:=Jh H0 cl C
JZ:=tJ (K' A) dp (wn,y) zH vu hy
J1:=Dw (.Slice Z ea Z eb ac p1) p2
J2 a b c:=eX mt a bQ au dn b c
J3:=mu cM (aW cW De au)
J4:=aW cW (aW cW De au) ai
J6:=ir a0 (jG (Dq ac m))
J7:=Mt.ROWS<Jp
J8 a:=by rw[el,Ot]at a
J9:=vM (gd a H1 H2) Dk (Q v H2)
J_ a b c:=by refine ah (hj a b) ad v c h;cases e;exact h
J':=j7 vz
J!:=fx vz
J? a b c:=by rw[cx e eE eE,<-#[?_,a i ey (getD_at b hk e)]];show x.1=Jg c+i;unfold TU
Kb:=ir a1 (jG (yl (sq.length+1) 0 ac sq))
Kd b c d:=bZ k (A.deeper (envOfC b vy i3 c d))->cr a H->∃t,ic (iA eI P w K mg de N pR vy f aK A em s H E).ja (cq st) t/\∀D:Ends,(∀v H2,Dm->Dk->D.rt v H2)->(∀a! H2,Dm->e? a .cB H2->D.nx a! H2)->t D (start N (c3 a)) H
Ke c f g:=by exact(Du c ((b,d),bM) ho I7 (ae h1 (ae h2 ao dY) fJ) O il #[(CR s1).parts,hk] fJ a_ ht).imp th v f (aO g λ a xs e h p=>vR xs h (Ny p))
Px c d e:=c? hO c/\y? g6/\bT<qw/\∀b,ch=Z d->e
Kf:=Dy cZ.take k u4
Kg a:=by simp only[e9]at a
Kh:=Db M4 P P A
Ki a b c:=a b (Tf _ c)
Kj a b c:=by refine a (λ v b s2 hv c=>?_) aX O
Kl a b:=pw a (S! b)
Km:=upd H6 z p? f5
Kn a b c:=by rw[gg a λ b h2=>gn c dx h1]
Ko a b c:=by obtain⟨⟨a,b,kk⟩,n⟩:=c
Kq b c d:=by obtain⟨⟨iE,b⟩,a,c⟩:=d
Kr a:=by rw[yv,a];rfl
Kt:=(Je).set i DJ
Ku a:=vr OG s2 a
Kw a:=a (kB (l_ s4))
Ky a b:=a "scalar_is_cased" eH b
Kz:=Mt.agree hH (TY hH)
KB a b c:=Ug Ui a b=Z c
KD a b c:=by refine dm (vJ a) λ b e0 l0 c=>?_
KE a b c:=by refine aO kS a λ xs b hl c ik=>?_
KF b c d:=by refine aO h λ a y e b c=>?_;exact d
KH a b:=by dsimp only at a⊢;have nd:=b
KI:=mg u7=cv f
KJ:=y6 Jo
KK a b c:=p6 (∀a,foldedSetIterable b l9 c=pure x) gv._auto_1
KL:=mS qp j5
KM:=zh [] (j_.map gq (x.1,ey.2))
KN a b c:=λ d a=>match b with|.c x=>g d ey|_=>c2
KP:=NT b=Z o
KS:=bh (t.all x8)
KU:=by rcases cj with rfl|rfl
KV a b c:=by obtain⟨g1,a⟩:=b _ ey h4 h5 hm c
KW:=by rw[el]
KX a b c:=cE a gt (c4 (bP cM b c))
KZ:=by exact yb _
K0:=bR->Ci->fm
K3:=v4 DH
K4:=plainId_quiet pT _
K5:=qB H1 r []
K6 a b c:=fw (λ v a=>b) vs c
K8:=bK "sequence_rows"
K! a b:=yB (Oq a b)
K?:=f7 qp kJ
La:=f7 qm gY dR
Lb:=bO DI=ps.length
Lc a b:=HI (nE a b)
Ld:=al->Y->Prop
Le:=bR->nI->fm
Lf:=bR->yw->fm
Lg a b c:=by congr 1;rw[vO (a b k c (Nat.le_of_lt hk))]
Li:=sF a (.lst ys)
Lk a b c:=∀d a,ze d->tU d fO->r∈b bM []->c (bM,r)->cr d r/\g d r=g' d r
Ll:=bh (x8 x)
Lq a:=yy _ o a e
Lr:=jY nW
Ls:=c1 (bt×Y)
Lt:=ez kJ
Lx:=oh se
Ly:=tc a5 A.g.LW
Lz a b c:=CV a (b _ c)
LA:=zD pu
LC a b c:=∀a,h.get? b=Z o->h'.get? c=Z o
LD a b:=ya (by rw[a,b])
LE:=by simpa using a6
LF:=bK "name_count"
LI a:=md a ln
LK:=qu _B.dJ
Py:=mc (OG s2)
LN:=zx vs ?_
LO a b c:=w6 (α:=Y) a iU b c
LQ:=("parts":bt)
LR:=λ v' H2 e=>e.trans (r? sb g2)
LS:=nD ?_
LT a b c:=λ v H5 s5 vF=>p v a b c
LU:=DF e
LV:=u_<nP
LY a b c:=.Call (Pp a) b [] c
L0 a b c:=λ a a! H1 s1 b c=>?_
L2 a:=by simpa using a
L3 a b:=if a then b else[]
L5:=by assumption
L6 a b:=Cv (a b)
L_:=_B.jI.zero m
L':=_B.jJ.zero m
L!:=yH n l
L? a b:=a (Cv b)
Ma:=ps.map sd
Mb:=64<d?
Mc:=c1 nI
Md:=eP.later s3
Me:=OW s4
Mg:=RQ c3 cr e?
Mh:=Df "list"
Mk a b c:=by refine gC F λ a fd ps hm b c=>?_
Mn:=ir a2 (pO n)
Mo a b c:=HP d (a hF k nm b) (hF,c,f)
Mp a:=a<=e!
Mq:=i1%4
Mr:=!l.isEmpty
Ms a:=a=ps.length
Mu a:=Except NH a
Mx:=c1 h?
My a b c:=dO (l:=qs) (i:=a) (by exact b c f9)
MC:=t.all x8
MD a:=tup_ne ha a
ME:=gH rl
MF:=1<=n/\n<=65535
MG:=nomatch hx
MI:=n<1114112
MJ:=λ _:Unit=>[]
ML:=c1 Stmt
MM:=gi xK
MN:=db yM
MO:=vg l
MP:=_B.sm m a
MR:=_B.jf p k
MS:=nE p k
MU:=jd.new hN f9
MV:=c1 bt
MX:=c1 Env
MY a b c:=by refine a (ae (ag b) ao) ab ck H1 s1 _ λ c qs H2 f9 hN=>?_
MZ a b c:=λ a b h1 h2 c=>?_
M0:=gy h
M2:=cF a _ e h
M5:=uC zM
M6:=se vN
M7:=z.drop 1
M8:=pG 14
M9:=a7 s7 wq
M_:=aN ra
M!:=aN qv
M?:=iW (Y->fm)
Nc:=λ i=>!f i
Nd a:=λ h2=>a
Nf:=λ _ _ _ _ _=>p5
Nh:=a6.1
Ni a b c:=λ H H' v x a b=>c
Nj:=lz l
Nk:=aN D
Nm a:=λ h1=>a
No:=t !=0&&k==k'
Nq:=cV oW
Nr:=cg hi
Nx:=te+1
Nz:=pv 4
NA:=zs nl
Pz a b c:=by rw[Jb b6 h1 jh mA rY a,<-nZ b dp (cu Ps (dk,(wn,y),sV,t) a5 hy tn c p! hq a5) DC]
PA a b c:=by rw[Jb ip h1 tx];generalize hL:T! Pt a y t=L;refine iP (gK 6 nd) P1 (gO L/\L.length<=200) (nZ (b A) dp (cu Ps (dk,(wn,y),sV,t) b6 hy (cu a5 c)) DC) λ v H1 s1 hv=>?_
PB c d e:=c (RQ cY (sD×iW jp) tq mZ (.fY (fS ch)) ci Px g6 b d kU (vN e))
PC a c e:=Jr a (mY,5,c) az I7 d1 d3 A.g.Cq e O tm (CR s1) zW (5<15)
PD a b c:=by rw[qD h a b,cQ ho il (b9 _ dx _ D9 nS c O) hb]
PF b c d:=b (RQ cY v! [mZ,ty] ci (c? hO g6/\c) kU (vN d))
PH a c d:=a[j]?=Z q->∃(b:ak),c/\Jz uT b rd/\d
PI a b c:=D2 Uy n a (t:=t) (m:=b) (f:=qq Pv Pt c y t)
PJ b c d:=b (RQ cY j! [a.1] ci (c? bm cd/\zv/\∃c,na ou cd ps) dL d)
PM a b c:=Di a (dk,wn,c! qt,t) az lw m6.cw d1 b c O fx Eb
PO a b c:=by rw[Jq];rw[a,Hx,NR,e9]at b;rw[hx.1,Hx,NR]at c
PP a b c:=a (λ k a! _=>b) x_ O nd x! qL ai De ai Jw Ii y6 c
PQ a b d:=fI c (da,bk) (br a tl)/\f_ k? n (br b tl)/\d tl=Z I3/\tt++Pn y5 z2 jO=Pw cs/\tt.length+301*yx<=120400
PR a:=y8 cR.gT a #[trivial,rfl]
PT a b c:=aT (X5 A) dp ((aN qp,m),a) d1 az b c
PU b c d:=by refine #[λ d! rF=>∃z',z'<qY/\b,λ _ _ h=>h,?_];have i7:=gi pM;refine DZ c q9 qM a5 d cA H4 s4;have pY:=db i7
PV e f g:=by rcases e with _|⟨a,_|⟨b,_|⟨c,_|⟨d,_|⟨f,g⟩⟩⟩⟩⟩
PW a:=DL (x==("__classdict__":a))
PY:=zk (Cc "range"=zR)
PZ a b c:=dq (a:=3) jK Eg zJ zT b (.fB (c H1)) O
P3 a b c:=fw (λ a kt=>aJ X.K H b [aN v6,kt.2.2]/\fy v6 wi nn kt.1 kV) c j_
P5 a:=a "ends_by_k" eH zL
P6 a b c:=by have:=qx a;rw[b,el]at a6;unfold pG at a6;rw[el,Oe]at c;rw[q5]
P8 b c d:=aO b λ a c e h p=>vR d zN zI q #[q.1,DR q.2] p
P9 a c d:=by have bb:∃b0:Y,(a/\c)\/zY:=by cases bd with|ac=>exact #[0,.f? #[rfl,rfl]]|gU b=>exact #[d,.fB O]
P_ a b c:=by obtain⟨a,b⟩:=Od c
P! b d e:=∃a':DX,xF a=[aN Dg.1,a'.2.1]/\b/\vM (m5 Dg H H2) (j0 S0 Dg H2/\d) (m5 bm H H2/\BQ c e a v H2)
P?:=by have:=vK.2.2;rw[cS x7]
Qa a b c:=a b (ae d3 A.g.Oj d1 d3 A.g.JJ d3 c)
Qb c d e:=(gH yj=c2↔(∀b,vC->fU b<=on))/\(gH yk=c2↔∃b,vC/\on=fU b)/\(gH c=c2↔(∀b,vC->d))/\(0<=fS bd↔∃e,vC)
Qe:=by rw[TO,uP,sn]
Qf a c d:=by rintro⟨b,h1,h2⟩;have h3:bh qX:=Jv #[b,h1];have h4:=(iQ h3).1;rw[cx a h4 c,#[h3,jW yf d h2]]
Qh a b c:=by rw[a,yv,q8 b]at vZ;rw[vO ti c]
Qk:=DW i! i!
Ql a b c:=mW (.BinOp tg a p1 .Add b bi) c
Qm:=by rw[IU el]
Qo a b c:=by show yH a b=_;rw[_B.A3];unfold pG;rw[nC];exact TJ iN k (pL k c).symm
Qp a b c:=by rcases h with h|⟨a,h⟩;(.exact .f? (.f? b));.exact .f? (.fB #[o,c])
Qq:={bM:=.function,names:=[],isGenerator:=false,isCoroutine:=false}
Qr a b c:=zI a #[b.1,b! gG ((cV oW).jP s3) h.2] c
Qs a b c:=kF (d_ (N:=a) (sc:=aw b) (own:=[c]))
Qu a b c:=a b _ (List.contains_iff_mem.mp c)
Qv a b:=by simp only[a,pg]at b
Qw a b:=a tu i3 b
Qy a:=kW (yK<=8192) a hle
Qz a b c:=by rw[zP a q];obtain⟨⟨qp,cD,bQ⟩,ap,ps,tV⟩:=b;dsimp only at cD bQ ap tV;rw[lL c];obtain⟨h4,_⟩:=El tV
QB a:=by rw[a,ux]at hx
QC:=lB List.length_filterMap_le
QD a b c:=a b (Ud _ c)
QE b c d:=by generalize gH yj=b at hR e1;generalize hfo:gH yk=c at hR d
QF a b c:=by dsimp only at a hq hp ap b;rw[p_ hv IC.nd];have c:=iO hp
QG a:=N3 (i:=a)
QH a b c:=key d? 0 0 ac a iU b c qR
QM a:=Q aN i3 a
QR a c d:=by rw[Hx,NR];refine e3.mpr cA b iq;have a:=hx.2;rw[Jt c d]
QS:=aG (ag A.g.ad2) mn
QT a:=by exact yi a
QU a:=dn Nat.le_of_succ_le a
QV a:=Heap.get?_push_of_some _ a
QW a:=a (j8.trans (l_ s4))
QY:=.N4 tg [] lp [#[z1,.Call (Pp p1) wz [] p2,[],0]] lm bi
QZ a b c:=by rw[qW a tr b c ?_];rw[aX,W4 hm,yr];unfold _B.mF
Q0 a b c:=[.yp iX a j p1,DK p p2,DK k b,.pk c p4]
Q1 a b c:=Cm a v5 H1 Q (eT (b s1) λ u H2 s2 hu=>c)
Q3 a b c:=by obtain⟨lq,hm⟩:=a b ps h1;exact #[lq,c]
Q4:=by rw[e9]at hx
Q6 a b c:=by refine v7 uQ a;refine(vD f h1 fd ps b h3 rc (h4.mono hk) c)
Q8:=Ua b o h1 h2 h3
Q_:=mc ((Py).jP s3)
Q' a:=List.find?_eq_none.mpr a
Q!:=by rcases cj with rfl|rfl|rfl
Q?:=yl (d?+1) 0
Ra a b c:=by rw[jm iV a];dsimp only at b hq tX dR;subst hv tX;have nd:=c;rw[gk,ii im (bI 5 nd) (.fY (tM wn n t m)) (aT (ady A) dp ((wn,n),(aN q,t),wl,m) p7 au a5 d1 b6 du il (eF vl qm O gY dR))]
Rb a b c:=a (R:=b) (ls:=l) O nd ee az zJ nX q ez nW ck (i8 (by exact ZH rA ap)) c
Rc a b c:=p8 a b tv O O c jW i8 Ao BG ?_
Rd a:=a d.book.scripts.length
Re a:=Heap.get?_push_size _ a
Rf a:=a (lf h)
Rh:=T6 (ID l)
Ri:=u4 oq cd
Rj:=Str.ofString "__len__"
Rk a:=p6 (a Ht x) xX._auto_1
Rm a:=Mt.elementsFine ac a
Rn a:=li (by rw[cS a])
Rp a:=v? (show a by omega)
Rq:=zX o "records"
Rr:=z4 ll
Rs b d e:=∀b H,ye c fO cl a H->∃a',xF a=d/\cr a' H/\e
Rt a:=if(bh (a&&!false))then 1 else 0
Ru:=S6 S7
Rv a b c:=hG Ea (hG (a b) c)
Rw a b c:=aE vu False sw v a ?_ (λ _ _ _ h=>h.now.elim) (λ v H3 s3 hv=>DY H3 #[b s3,c,dM])
Rx:=by unfold Ox at*
Rz a b c:=Cm (a dX) v5 H1 Q (af PL D1 zx vs #[hG (hl b c dM) ab,λ p hp=>q _ _ D0 cV hp wm s3 (aE p vs O wh (hv H3 ((cV hp).jP s3)))])
RA b d e:=b (RQ X' (PX c) dL qo Js (u_<bO tb) (yZ tw d2.2 (yU td d2.2 tb) qq Pv (d m9 y td d2.2 (T? e))))
RB:=_B.jr eq kO (0<nK)
RC a b c:=bindArgs (PySem.W.fnOf a pR (jA st) (cq st) vy .ac kV doc b an aK ct) #[us,[]]=pure (ps.zip c)
RD:=(mY,i!)
RG:=h4.mono ab
RH:=kO (1<1000)
RK:=kO (2<1000)
RL a b c:=eY dz a aI (lI DG uB aI aI) eY dz m? b (Iq (i:=3) nd O IO kb c) dg
RN:=((sa,vk,y,t),0,nP)
RO:=y4 r
RP a:=a<i3
RS a:=("numbers",c! a)
RU:=sc.names.lookup x
RV a:=PySem.W.keepIn K a
RW:=qu Mt.agree
RY:=j_.map gq (x.1,ey.2)
R4:=gZ Mt.canon x
R5:=h1.IsList l mb
R7:=OK->T5
R8:=hB.same.trans s3
R9:=h'.get? b=Z o
R_:=gZ Is n
R! a b c:=by exact(a).wJ (λ _ _ _ q=>q) (λ b' h1=>b) (λ b' ys h1=>c)
R?:=gZ Is x
Sa a:=gD (· = Dl) a v l
Sb:=Oc<=100
Sc:=bK "known_by_k"
Sd:=dt e!
Sf:=.lst (qs.map sd)
Si a:=(a).all x8
Sk:=nc HD
Sl a b c:=a (b:=HL (·.2)) (σ:=σ) (Qd:=λ H'=>Q aN c H')
Sm a:=gD (· = r) a v l
Sn:=A.handled=ac
So:=bK "composing"
Sq a:=if a then 0 else -1
Su:=c1 Mt.Bytes
Sv:=ve Ci
Sw:=kS L.same
Sx a:=_B.nG.getD t a
Sy:=nP<=64
Sz a:=eZ (a "range")
SA:=model sl w
SB:=_B.jf.zero p
SC:=Mt.mapMost k
SE:=N' 0
SF:=su 4
SG:=ga s3
SH:=OS s1
SI:=Q7.later s4
SJ:=nH 0 eq
SK:=d?<=a
SL:=y_.later s5
SM:=nL.later s5
SP:=ga s2
SQ:=NS k
SS:=Ob=n
ST:=mf (xU (acu A) hr)
SU:=i1/4
SW:=[i!]
SX:=i1+3
SY:=z.headD 0
SZ:=.type "dict"
S1:=_B.oZ _
S2:=e? S
S3:=e? a
S4:=cm×bt×bt×bt
d1L:Hs ((1:cm)<=x)=dH (0<x):=Ru
dP:Hs (nc x<=y)=dH (x<=y):=Ru
nT:Gc x (bh (!x)->x=false):=kM
nF:Gc x o6 (!x) (x=c2):=kM
bG:∀s p:fm,bh (!s||!p)->(s&&p)=false:=kM
bH:∀s p:fm,o6 (!s||!p) bh (s&&p):=kM
bA:∀a b c:fm,bh (!a||!b&&!c)->(a&&(b||c))=false:=kM
bB:∀a b c:fm,o6 (!a||!b&&!c) bh (a&&(b||c)):=kM
bC:∀a b c:fm,o6 (!a||!b&&!c) (a=c2):=kM
bD:∀s f p:fm,bh (!s||f&&!p)->(s&&(!f||p))=false:=kM
bE:∀s f p:fm,o6 (!s||f&&!p) bh (s&&(!f||p)):=kM
bF:∀s f p:fm,o6 (!s||f&&!p) (s=c2):=kM
azr(A:a?)(T:it):mo 2 "range_rule" (RQ cY v! [mZ,vN (4*cd)] ci (c? hO g6/\4*cd<qw) kU (vN zD r!)):=ts A.axE TZ λ q e H hr hp U hU=>by rw[EI p t q,sK aS a8 n2 aS];dsimp only at cD bQ a8;rw[lL TZ.nd,gk];((rw[fz J3 eJ];.rw[mP];unfold r!;rw[ED auw];rfl);have h4:4*t+4<=i1:=by rw[kT apE]);rw[Ey R R (r! p t=R)];rw[hR];rw[A7 r!,gB wF aFu h4,A7 _B.EV,k6 hk kE (4*t) k,k6 hf kE (4*t+1) fi,k6 hl kE (4*t+2) la,k6 hv kE (4*t+3) va,k6 cj kE (4*t - 4) k',k6 dZ kE (4*t - 2) la',k6 qj kE (4*t - 1) va',<-bI 2 nd mT Ft NB hk ?_];(rw[fz oA (bP eL a5 (Oh jK T.aa6)) (eA (lj KX mu gF au a5 mT (sA j (4*t - 4) bQ az wY (by rw[or h WH])) aca cj)) eJ];.rw[Gj,ZM,F4]at hx;rw[g_ (i' (bA dH (k<14) _ _ hx))]);rw[Gj,ZM,F4]at hx;rw[gB (iZ (bB dH (k<14) _ _ hx))];have yz:k<14:=lf (bC dH (k<14) _ _ hx);rw[<-q6 nd mT mt (4*t+1) bQ au TH hf ?_,<-xZ nd mT mt (4*t+2) bQ au x7 hl ?_,ii im (bI 5 nd) (.bl No) oD (cp (gE gF au ai) gt (bY (dW a5 (sA j (4*t - 4) bQ az wY (by rw[or h WH]) dn aca h4 cj)))) sb (by rw[wy,rQ anH])];(have ht:bh No->0<t:=λ h=>by simp at h;exact ax9 h);generalize No=fo at hR ht⊢;(rw[fz oA nw Aa sW dt fi b6 (eA (lj (cE (bN ip) gt (c4 (bP d5 b6 mT (sA j (4*t - 2) bQ az wY (by have:=ht h;rw[cS abn])) Uj dZ))))) eJ];.rw[oP,Gj]at hx;rw[g_ (i' (bD _ _ _ hx))]);rw[oP,Gj]at hx;have hsf:tK fi:=bF _ _ _ hx;rw[gB (iZ (bE _ _ _ hx))];(rw[fz oA nw Aa sW dt la du (eA (bP cM du b6)) eJ];.rw[oP,F4]at hx;rw[g_ (i' a7 bG hx)]);rw[oP,F4]at hx;rw[gB (iZ a7 bH hx)];(rw[JB (bI 6) (4*t+3) hv,fz (dI w5 sZ i0 (Ct (k:=Mt.most k) T.aa6 a5 O yz O)) eJ];.rw[d1L,dP]at hx;rw[g_ (i' (nT hx))]);rw[d1L,dP]at hx;rw[gB (iZ (nF hx)),<-aY (lj (cE (bN ip) gt (cE (bN (aT (ajH A) hr (nc la',dt fi) d1 mT (sA j (4*t - 2) bQ az wY (by have:=ht h;rw[cS abn])) Uj dZ b6 zo)) jh (c4 (eV i0 (sA j (4*t - 1) bQ az wY (by have:=ht h;rw[cS aDo]) dn aAV h4 qj)))))) dE eJ dE eJ];(.rw[oM];rw[Xf hsf]at hx;rw[g_ (i' (by rw[nh,#[hx.1,hx.2.1,by omega]]))]);.rw[oM];rw[Xf hsf]at hx;rw[g_ (iZ (by cases fo<;>rw[nh];by_cases h1:Mt.next la'=fi;rw[.fB Nd (hx h1 dn ayB h2),mJ h1]))]
}
section _P
namespace _M
open g? hA hE _L
variable{n:Y}
def z:={
fits{x:cm}(h1: -(2^62)<=x)(h2:x<2^62):bh (S9 x):=by unfold S9;rw[e9,pg,pg];exact awI h1 h2
nk.four(h:n<2^40):nk 0 qn n 4 ((n+3)/4):=by(have e:S_ 0 qn n 4=mx ((n+3)/4):=by unfold S_;simp only[(kO ((4:cm)>0)),if_true];split<;>omega);rw[wZ (fH ab ab ?_ e) Builtin.Range.small];rw[e,fits ab ab,fits iU abI dn awz h,fits ab ab,fits iU aFC dn auq h,gy ab,fits iU agQ dn aqM h,Bool.or_true];rfl
}
section
variable{X:Cx}{σ:eo}{H:Hp}{bi pos' p1 p2:d9}{jO pi:ML}{N:vb eo}{P:w2}{y:bt}
def z:={
Y0(i:Y){ea eb ec:d'}{lo hi st:cm}(J:Y->vb eo)(hp:PassesOwn (model x9 X.w) X.A l9 X.xe)(rC:Gp)(hN:NC)(hm:Sz pj)(ha:ig eO G7 [iX lo,.fY hi,.fY st])(hn:nk lo hi st n)(h0:bc (J 0 σ) H)(hb:∀k a! H1,qh->k<n->bc (J k a!) H1->Bd X (σ'.set i et .fY (lo+xq*st)) H1 pi (λ d! H2=>J kA d! H2) P)(hr:∀a! H1,qh->bc (J n a!) H1->Bd X a! H1 jO N P)(hg:PY)(hs:kI G7 f8 ea [eb,ec])(a_:zt (backTo p2 (NE [eb,ec] l9)))(fg:jg (X.N[i]?=Z y))(hx:p6 (Loc Ht y) xO._auto_1)(hf:p6 (X.fn y=c2\/S' y=Z .local) sL._auto_1)(lK:KK x LY p1 G7 p2 x):Bd X σ H (.For z1 LY p1 G7 p2 pi [] bi::jO) N P:=Bd.of (aP (iy hp rC (CD hg hm dX hs a_) (cz (i:=i) hN fg hx hf) fP lK) fP) λ H1 s1 D n' p=>by refine ce D1 vw vs (qJ lo hi st n po hn ku Bx w' (rU/\bc (J k a!) H') #[s2,ri h0.later]);(.rintro k a! H' hk⟨s3,j⟩;exact(aE _ _ (hb k a! H' SG hk j) (λ d! H4 s4 h=>#[w3,h]) G0 s4 h (p v H4 w3 h)));.rintro a! H'⟨s3,j⟩;exact(aE _ _ (hr a! H' SG j) (λ d! H4 s4 h=>n' d! H4 w3 h) G0 s4 h (p v H4 w3 h))
}
section z
section _M
namespace _P
open g? hA hE _L _M
variable{P:gV}{w:gX}{K:h!}{mg:hV}{de:ie}{c:Cs}
variable{α:Type}{H:Hp}{r:Mu α}{X:Cx}
def z:={
jG.1(r:Mu α):al:=match r with|xl f=>rH|.ok _=>[]
JM{a b:Y}(h:r=xl #[a,b]):jG r=[a,b]:=by rw[h];rfl
K1{x:α}(h:r=.ok x):jG r=[]:=by rw[h];rfl
xW{σ:eo}{a b:d'}{bi:d9}{i j:Y}(ha:io a (vN i))(hb:io b (vN j))(hs:kI [a,b] f8 a [b])(dY:kI [b] f8 b []):mW tg [a,b] bi gO [i,j]:=(oj (ae ha (ae hb ao dY) hs)).imp λ v H1 s1 h=>h
q_{σ:eo}{bi:d9}:mW tg [] bi gO []:=(oj ao).imp λ v H1 s1 h=>h
aL9(A:a?)(T:it):JE (wE "broken_range") j! gO (jG (ou ac cd)):=oo A.atV acG λ q e H hr hp U hU=>by rw[zP p q,wf aS aS ap,lL acG.nd,gk,<-PP (Y0 1) (∃x1 x2,a!=[lX,x1,x2]/\MR) (cF ac ac O SB) L0 k hk hJ GW a! s1 hJ];(. (rw[dl (df x? λ x1 x2 aU hP=>?_) aU]);rw[EB F? dj (By+xq*4=tH)];have j5:=kJ;rw[dj];have oS:=hP.go ot;refine bI 2 nd (aT lJ azr hr ((aN qp,p),k) AH au eR #[KL,ot]) ?_;refine aY mu gF a5 dE Ca dE Bi c6 (cF _ _ O ?_);(. (have h0:r! p k≠0:=by rw[mP,FI,cS afw]);rw[b? h0]at oS;rw[JM oS];exact xW a5 oD AQ au l! iU Hz);. (have h0:w4:=by rw[wp,FI,cS Jd]);rw[g! h0]at oS;exact oS);. (rw[dl (df x? λ x1 x2 a9 hP=>?_) a9]);rw[K1 (hP.done iU aby)];exact bg q_
aKM(A:a?):PF (js "map_end") (cd+3<=qw) (a.2+3+GA (a.2+2) 0):=ts A.arO agu λ q e H hr hp U hU=>by rw[EI p a q,wf bu bu ap];subst cD;rw[gk,aG qM au J2 (a+2) Cb ap GC]
X5(A:a?):js "key_at" (RQ cY v! [mZ,ty] ci (c? hO g6/\cd+2+GA (a.2+1) 0<=qw) dL gO zD pt):=ts A.anQ aGD λ q e H hr hp U hU=>by rw[EI p a q,wf bW bW ap];subst cD;rw[gk,<-bg (iP uE P gO (pt p a) az eX uf y (vN qI) p9 au eX uf y (vN (qI+Gi)) qM au J2 (a+1) ayu ap (Bj FU qp Lt λ z H2 s2=>mS z ?_))];rw[aX,LO vN abu ap];unfold ut pt;rw[AW (a+2+Gi - qI=Gi) anL]
aqX(A:a?):PF (js "sequence_end") (LA<qw) (LA+1+GA LA 0):=ts A.aKH ack λ q e H hr hp U hU=>by rw[EI p a q,wf cJ cJ ap];subst cD;have aqg:a+2+Gi<i1:=ap;rw[gk,ii im (bI 2 ack.nd) (vN (pu p a)) q9 qM au J2 (a+1) aHn aqg,aG qM a5 Aq bQ ap GC]
Ad.2(l:al):fm:=Mt.rising (λ x y=>dH (x<y)) l
HG:∀l:al,(bh (Ad l))↔∀i,i+1<e!->v4 i<l.getD (i+1) 0|[]=>#[λ _ i hi=>Kl hi _,λ _=>rfl]|[x]=>#[λ _ i hi=>Kl (Nat.lt_of_succ_lt_succ hi) _,λ _=>rfl]|x::y::r=>by show(bh (dH (x<y)&&Ad (y::r)))↔_;rw[e9,pg,HG (y::r)];constructor;(.rintro⟨h1,h2⟩i hi;cases i with|uu=>exact h1|succ i=>exact h2 i DF hi);.intro h;exact #[h 0 (by simp),λ i hi=>h up (by simpa using hi)]
akd{l:al}(h:bh (Ad l))(h0:0<e!)(hl:K3<256):bh (l.all gq dH (x<256)):=by rw[List.all_eq_true];intro x hx;obtain⟨i,hi,e⟩:=List.mem_iff_getElem.mp hx;(have mono:∀d j,j+d<e!->v4 j<=v4 (j+d):=λ d=>by induction d with|uu=>exact iN j qR|succ d ih=>intro j hj;have h1:=ih j dn x7 hj;have h2:=(HG l).mp h (j+d) dn Cb hj;rw[AW (j+(d+1)=j+d+1) L9];exact aIS h1 h2);have:=mono (DH - i) i dn aqh hi;rw[t7 kW (i+(DH - i)=e! - 1) al8 hi];(have e2:v4 i=x:=by rw[S?,Hu hi,e];rfl);exact yf (by exact aoV hl e2 a6)
akN(A:a?):JE (js "rises") j! (v=.bl (Ad cd)):=oo A.arF Yc λ q e H hr hp U hU=>by rw[zP l q,wf aS aS ap,lL Yc.nd,gk,<-Pk 1 (lo:=1) (hi:=Sd) (λ k a! _=>∃x1,a!=[lX,x1]/\∀i,i<k->v4 i<l.getD (i+1) 0) x_ O nd x! d1 ai De dn aqc ap (y6 f7 ac λ i hi=>t? aHb hi) L0 k hk hJ GW a! s1 hJ];(. (rw[dl (ah x? ad x1 aU hP) aU]);have j5:=kJ;(have dj:(1:cm)+xq=mx kA:=by exact QA);rw[dj];refine aY (bP d5 eX (c9 j5 az au O) rJ NX eX (c9 (j:=k) j5 az wY iU M1) rJ ako) dE (aG cN mn) dE Bi c6 GL ?_;(.congr 1;symm;rw[<-NI,HG];intro h;have h1:=h k rJ NX;rw[k4 h2 hx,Y4 h2 h1]);.intro i hi;have h2:=lh hx;by_cases e:i=k;(.subst e;exact adU h2);.exact hP i n6 oV hi e);. (rw[Ak x? x1 hP]);refine aG cN KJ;symm;rw[hY HG λ i hi=>hP i dn Tq hi]
aAe(A:a?):wE "row_fits" (RQ cY iW j! [vN bm,bT] ci (c? bT ch/\y? ch/\0<bO ch) dL (v=.bl (NL bm ch))):=ts A.aKw aKd λ q e H hr hp U hU=>by obtain⟨k,iE,l⟩:=q;rw[EK (λ bu ap h0=>n2 bu) ap h0];subst cD;(rw[wo NL,fz tc az A.g.Lu (aG cN mn)];.rw[mP];rw[Rn aBo,gy (by rw[cS Rl])]);(have eB:¬k=11:=by rw[kT QJ]);have hg:l[DH]?=Z K3:=jW Pj Nat.sub_one_lt_of_lt h0;refine aY tc az A.g.JK dE (aG (cp (aT (akN A) dp (aN qp,l) eC au il #[K?,ap]) jh (bY (gE cM (im cO (vN K3) au (oB ai) AN Lt (IZ hg)) d3 A.g.anM))) mn) dE Ca;(.rw[mP,ED aFn];congr 1;dsimp only;show _=(Ad l&&l.all gq dH (x<256));cases hr:Ad l with|false=>rfl|c2=>rw[uv,uv,uq];constructor;(.intro h;have:=lf h;exact akd hr h0 AS axs);.intro h;have:=Hv h _ (yi hg);have:=lf a6;exact yf AS arn);.rw[wp];rw[Rn arb,b? eB];exact aT (Mi A) hr (aN qp,l) eC au tm vW K? E9 e! Ao ap
fS.1:jp->cm|ac=> -1|Z b=>dt b
aAB(A:a?)(T:it):PB (mo 4 "map_rule") (b+1<qw) Fl px:=z9 A.apk aaH λ q e H hr hp U hU=>by(rw[Kq m bd q,jm dm λ bW ap a8 hb=>n2 bW];dsimp only at cD bQ ap a8 hb;rw[lL aaH.nd,gk];(rw[fz J3 eJ];.rw[mP];unfold px;rw[ED an9];rfl);have h4:oR (a+3):=by rw[kT akq]);rw[Ey R R (gH px=R)];rw[hR];rw[A7 px,gB wF aCl h4];(rw[k6 pV MP cZ];have qU:Qb _B.Cn (fU (b+1)<tZ) b:=by cases bd with|ac=>simp[yj,yk,_B.Cn,fS]|gU b=>simp[yj,yk,_B.Cn,fS]);rw[<-dm qU λ e1 e2 e3 e4=>?_,QE bl fo e2];generalize gH _B.Cn=b1 at hR e3;generalize hk:on=k at hR e1 e2;generalize bJ:tZ=sc at hR e3;rw[k6 hn Gm n,<-q6 nd mT Ft NB hk ?_];(have hbi:Gc y (bh qX->∃b,vC/\Bn fS b/\Gr b):=λ{y}h=>by obtain⟨b,rfl⟩:=Rf e4.mp;exact c0 b O eX hb b);rw[P9 (bd=ac) (b0=0) b];obtain⟨b0,Bb⟩:=bb;(have iQ:bh qX->zY/\Bn fS b0/\Gr b0:=λ h=>by refine bL (hbi (y:=c2) h) λ b h1 h2 h3=>?_;rcases Bb with⟨h4,_⟩|h4;(.rw[cx h4 h1 h1]);.rw[cx h1 h4 h4,#[h1,h2,h3]]);((have Jl:o6 qX (bd=ac):=λ h=>by cases bd with|ac=>rfl|gU b=>rw[jv (lh h) GQ fS]);rw[fz oA (bP eL b6 (Oh jK T.Xj)) (eA (lj KX mu eL a5 b6 eX FB j k bQ (by rw[P?]))) eJ];.rw[g_ (i' (by rw[Jq,k4 h1 h1];rw[NP,e9]at hx;rcases hx with h|⟨h3,h4⟩;(.rw[k4 h h];simp at h;exact ayj h h1);.rw[FW e1.mp iQ h3,k4 h4 h4,Wm h4 h5]))]);rw[ux]at hx;obtain⟨uN,cn⟩:=hx;(have z3:xJ:=by rw[ws uN];simp at a6;rw[cS ag3]);rw[gB (iZ (by rw[E7,<-#[v? z3,e1.mpr cA b iq]];cases h:qX with|false=>rw[kc (Jl h) iq iq]|c2=>rw[Jt h cn,ws cn];have h3:=vK.1;rw[cx iq h3 h3,cS zu])),<-xZ nd mT mt (a+1) bQ au x7 bJ ?_,ii im (bI 5 nd) (.bl fo) oD (cp (gE eL a5 ai) gt (bY (dW b6 (FB j k bQ (by rw[P?]) O)))) sb (by rw[uq,e2,e9];constructor;(.rintro⟨h1,h2⟩;exact(af b0 ((iQ h1).1) (by rw[or h2 Dv])));.rw[Qf h1 h4 Cd])];((have jy:fo=c2->zY/\Bn fS b0/\Gr b0:=λ h=>by refine ah (e2.mp h) l6 b h1;exact iQ Jv #[b,h1]);rw[fz oA nw (aT (sW A) dp dt sc eC du zo) (eA (lj (cE (bN ip) gt (c4 (bP d5 du eX (sA j (b0+1) (k:=fU (b0+1)) bQ az F' (by rw[Hk.2.1];rfl)) Hk.2.2))))) eJ];.rw[oP]at hx;rw[g_ (i' (by rw[PO h1 hx h2,FW e3.mp jy xL,k4 h4 hx.2,Y4 h4 h5]))]);rw[oP,ux]at hx;rw[gB (iZ (by rw[E7,<-#[L2 xL,?_]];cases hf:fo with|false=>rfl|c2=>rw[QR h2 hf h2];have h2:=lh h2;have h3:=(jy hf).1;rw[cx iq h3 h3,adU h2])),JB (bI 6) (a+2) hn];((rw[fz (dI w5 sZ i0 (Ct (k:=Mt.mapMost k) T.Xj b6 O z3 O)) eJ];.rw[g_ (i' (by rw[Al,nh,aeq hx]))]);have oE:0<n:=by simp at hx;exact auc hx);rw[gB (iZ (by rw[nh,X8 hx]))];((rw[fz (bP cM J4 i0) eJ];.rw[JT n6 aHz a6 h4]);have lU:oR (a+3+n):=by rw[kT aC9]);rw[gB wC iZ dn Nat.le_sub_of_add_le' lU];((have zc:ut m r9 (r9+n)=cZ:=by rw[<-pV];unfold ut _B.sm;rw[hn,show a+3+n - r9=n by exact Z3]);have xQ:Hy=n:=by rw[<-zc];unfold ut;rw[Ce,Cg];exact apC lU);refine gK 7 nd (iP uE P gO cZ az eX uf y (vN r9) p9 au eX uf y (vN (r9+n)) qM au i0 (Bj FU qp Lt λ z H2 s2=>mS z (by rw[aX,LO vN MK lU,zc]))) BJ s1 hv ?_;(rw[dl (ah dM ad qr cJ vd) cJ]);(rw[fz nw (aT (aAe A) hr (k,c! qr,cZ) d1 b6 (aa 7) eR #[mS qr vd,show Hy<=8192 by exact aA5 lU xQ ap,show 0<Hy by exact DV oE xQ]) eJ];.rw[g_ (i' (by rw[IR]))]);rw[gB (iZ (by rw[IR])),<-aY (lj (cE (fZ b6 (ag A.g.JK)) jh (cE (fZ b6 (ag A.g.Lu)) jh (c4 (acS (m:=[sc]) hr.units rc (aa 7) vE H2 s2 nX qr iL vd (rc (oj (ae du ao)) λ v H2 s2 h=>h)))))) dE eJ dE eJ];(.rw[g_ (i' (by rw[nh,#[by omega,by omega,hx.2.2]]))]);.rw[g_ (iZ (by rw[nh];by_cases h1:k=10;rw[mJ h1];by_cases h2:k=11;exact .fB (.f? h2);exact .fB (.fB (hx dn V7 h1 dn aoP h2))))]
OO:∀x y:al,_E.lexLe (x.map xI z4 n) (y.map xI z4 n)=!Ch y x|[],_=>by cases‹al›<;>rfl|x::xs,[]=>rfl|x::xs,y::ys=>by show _E.lexLe (nc x::xs.map _) (nc y::ys.map _)=!(dH (y<x)||(y==x&&Ch ys xs));rw[_E.IX,OO xs ys];by_cases h:x=y;(.subst h;simp);.rw[wF FN h,show(y==x)=false by simp;exact ab7 h,Bool.false_and,Bool.or_false,uq];simp
aga(A:a?)(T:it):js "comes_to_rule" (RQ cY (sD×Bp) tq mZ (vN ch) ci (c? hO g6/\bT<qw/\ch<3) kU (vN (_B.kQ Fl _B.wg))):=z9 A.av4 Vx λ q e H hr hp U hU=>by rw[Kq m k q,EK (λ aS a8 hk=>n2 aS) a8 hk,lL Vx.nd,Ey R R (_B.kQ (_B.wg m a k)=R),ii hU _,y7 hR,A7 _B.wg,k6 hn on n,<-q6 nd (Ft a8 hn) ?_];((rw[fz (dI w5 sZ b6 (Ct (k:=NS k) T.apR a5 O hk O)) eJ];.rw[g_ (i' (by rw[Al,nh,aeq hx]))]);have oE:0<n/\n<=SQ:=by simp at hx;exact X8 hx);rw[gB (iZ (by rw[nh,aBi oE]))];((rw[fz (bP cM J4 b6) eJ];.rw[JT AS aIc]);have lU:oR (a+1+n):=by rw[kT aEY]);rw[gB wC iZ dn als lU];(have vG:0<k->sG (m.drop qc) n=[tZ]:=λ h=>by(have h1:n=1:=by(have:SQ=1:=by rcases(show k=1\/k=2 by exact afZ h hk)with rfl|rfl<;>rfl);exact aIi oE a6);rw[h1,Ta (by exact QN lU h1)];show[m[qc]]=_;rw[S?,Hu (by exact QN lU h1)];rfl);generalize hz:tZ=z at vG;refine aY (lj (cE mu gF a5 gt (c4 (bP eL (mt (a+1) bQ au n6 asQ oE lU hz) d3 A.g.aoh)))) dE eJ dE eJ;(.rw[Q4];(have h1:0<k:=by rw[or xL Vy]);rw[k4 h2 hx.2];rw[vG h1,i' (by simp;exact azI h1 h2)]at hR;rw[<-hR];rfl);.rw[Bool.and_eq_false_iff]at hx;rw[g_ (iZ (by by_cases h:k=0;(.rw[h];rfl);.rw[jW vG Nat.zero_lt_of_ne_zero h];rcases hx with hx|hx;(.rw[wp,(aG6 a6 h).elim]);.rw[wp];simp;rw[cS au5]))]
azn(A:a?)(T:it):PB (wE "sequence_rule") (b+2+GA (b+1) 0<=qw) Fl py:=z9 A.aoo Zm λ q e H hr hp U hU=>by(rw[Kq m bd q,jm dm λ aU ap a8 hb=>n2 aU];dsimp only at cD bQ ap a8 hb;rw[lL Zm.nd,gk];(rw[fz J3 eJ];.rw[mP];unfold py;rw[ED ami];rfl);have h4:oR (a+2):=by rw[kT aqk]);rw[Ey R R (gH py=R)];rw[hR];rw[A7 py,gB wF aKf h4];simp only[List.cons_append,List.nil_append]at hR;(rw[k6 tf GF ky];have qU:Qb _B.Bl bh (Ch (pt m b) ky) b:=by cases bd with|ac=>simp[yj,yk,_B.Bl,fS]|gU b=>simp[yj,yk,_B.Bl,fS,tf]);rw[<-dm qU λ e1 e2 e3 e4=>?_,QE bl fo e2];generalize gH _B.Bl=b1 at hR e3;generalize hk:on=k at hR e1 e2;rw[k6 hn tZ n,<-q6 nd mT Ft x7 hk ?_,P9 (bd=ac) (b0=0) b];obtain⟨b0,Bb⟩:=bb;(have iQ:bh qX->zY/\Bn fS b0/\oR (b0+2+fU (b0+1)):=λ h=>by obtain⟨b,eN⟩:=Rf e4.mp;rcases Bb with⟨h4,_⟩|h4;(.rw[cx h4 eN eN]);.subst h4;exact #[rfl,rfl,eX hb b0]);((have Jl:o6 qX (bd=ac):=λ h=>by cases bd with|ac=>rfl|gU b=>rw[jv (lh h) GQ fS]);rw[fz oA (bP eL b6 (Oh jK T.Y')) (eA (lj KX mu eL a5 b6 eX FB j k bQ (by have:=vK.2.2;rw[cS adP]))) eJ];.rw[g_ (i' (by rw[Jq,k4 h1 h1];rw[NP,e9]at hx;rcases hx with h|⟨h3,h4⟩;(.rw[k4 h h];simp at h;exact awR h h1);.rw[FW e1.mp iQ h3,k4 h4 h4,Wm h4 h5]))]);rw[ux]at hx;obtain⟨uN,cn⟩:=hx;(have j9:k<3:=by rw[ws uN];simp at a6;rw[cS axP]);rw[gB (iZ (by rw[E7,<-#[v? j9,e1.mpr cA b iq]];cases h:qX with|false=>rw[kc (Jl h) iq iq]|c2=>rw[Jt h cn,ws cn];have h3:=vK.1;rw[cx iq h3 h3,cS zu]))];(rw[JB xZ (a+1) hn,fz (dI (sZ d5 d5 (Ct (k:=Mt.keyLeast k) T.aIq b6 O j9 O) du (Ct (k:=Mt.keyMost k) T.Y' b6 O j9 O))) eJ];.rw[g_ (i' (by rw[Al,nh,ahR hx]))]);rw[gB (iZ (by rw[nh,asl hx]))];((rw[fz (bP cM J4 p9 du) eJ];.rw[JT AS ax4]);have lU:a+2+n<d?:=by rw[kT aH4]);rw[gB wC iZ dn aJg lU];(have c_:ky.length<=8192:=by rw[<-tf];unfold pt;rw[Ce,Cg];exact aoR ap);refine gK 5 nd PT a au tm K? (by show oR (a+2+fU qc);exact aoi lU hn) BJ s1 hv ?_;(rw[Ak dM qr vd]);rw[show pt (((sd qp,m),a):v!).1.2 (((sd qp,m),a):v!).2=ky from tf]at vd;have O4:=kJ;rw[ii im (bI 6 nd) (.bl fo) oD (cp (gE eL a5 ai) gt (bY (dW b6 (FB j k O4 (by have:=vK.2.2;rw[cS adP]) O)))) sb (by rw[uq,e2,e9];constructor;(.rintro⟨h1,h2⟩;exact(af b0 ((iQ h1).1) (by rw[or h2 Dv])));.rw[Qf h1 h4 Cd])];((have jy:fo=c2->zY/\Bn fS b0/\oR (b0+2+fU (b0+1)):=λ h=>by refine ah (e2.mp h) l6 b h1;exact iQ Jv #[b,h1]);rw[fz oA nw (aT (Mi A) hr (aN qr,ky) eC ip eR #[vW mS qr vd,E9 ky.length Ao c_]) (eA (lj (cE (bN i0) gt (c4 (ZA (aMn (x7 (jX hr))) (ns:=ky.map xI z4 n) (ms:=jE (pt m b0) xI z4 n) ip PT b0 oD a5 l! Hk.2.1 eR #[mS qp O4,Hk.2.2] ly u hu (af qr l? (ya (by rw[iL vd,nC];rfl))) ly u hu (by refine ah l? ad q2 e5 e6;exact(af q2 e5 (ya (by rw[e6,nC];rfl))))))))) eJ];.rw[OO]at hx;rw[oM,g_ (i' (by rw[PO h1 hx h2,FW e3.mp jy xL];rw[h5]at hx;rw[jv hx.2 ab]))]);rw[QB OO,oM,gB (iZ (by rw[E7,<-#[L2 xL,?_]];cases hf:fo with|false=>rfl|c2=>rw[QR h2 hf h2];have h3:=(jy hf).1;rw[cx iq h3 h3];simpa using h2))];rw[<-hR];(have sj:pu m a=a+2+n:=by rw[oX pu hn]);rw[sj];exact bg (aT lJ aga dp ((aN qp,m),a+2+n,k) qL az q9 qM au du b6 eR #[mS qp O4,lU,j9])
}
structure Jm(P:gV)(w:gX)(K:h!)(mg:hV)(de:ie)(fr fe:ak)(rl:al->Y->jp->Y)(en:al->Bv)(res:al->al)(FG:Ld)(DM:Ld)(Pr:al->Y->Y->jp->Prop):Prop where
 hF:mi oz w 4 fr (RQ cY (sD×iW jp) tq mZ (.fY (fS ch)) ci Px g6 b (FG g6 b) kU (vN Fl rl))
 fin:mi oz w 4 fe (RQ cY v! [mZ,ty] ci (c? hO g6/\zD DM) kU (vN zD en))
 uu:∀m,Pr m 0 0 ac
 le:∀m a i bd,AT->a<=d?/\∀b,vC->FG m b
 bad:∀m a i bd,AT->oY->ME≠0->res m=[ME,i]
 next:∀m a i bd,AT->oY->gH rl=0->DM m a/\a<B3/\Pr m B3 up Z a
 done:∀m a i bd,AT->SK->res m=[]
def z:={
SN(A:a?){fr fe:ak}{rl:al->Y->jp->Y}{en:al->Bv}{res:al->al}{FG DM:Ld}{Pr:al->Y->Y->jp->Prop}(G:mq Jm de fr fe rl en res FG DM Pr):mo 5 "broken_among" (RQ cY j! [a.1,c! fr,c! fe] ci (c? bm cd/\zv) dL gO (res cd)):=z9 A.apF aeR λ q e H hr hp U hU=>by rw[zP m q,wf aS aS ap,lL aeR.nd,gk,<-q6 nd (oB ai) (xZ nd ai (bI 5 nd ai ?_)),<-mD (λ z a! _=>∃(a i:Y)(bd:jp)(x6:iY),a!=[lX,cv fr,cv fe,Z (.fY (fS bd)),gx a,gx i,x6]/\AT/\z=qY) (λ _ _ _ _ _ h=>h) d? x_ (qJ 0 0 ac ac O (G.zero m) O) (λ z a! H1 s1 hJ=>?_)];(refine ET hJ λ a i bd x6 aU hP a9=>?_;subst aU a9);have j5:=kJ;rw[Fo zq (G.le m a i bd hP),<-(aZ _ (bP cM du vp j5) ge ge)];(. (have ha:oY:=by rw[op sf]);rw[ii im (bI 6 nd) (vN ME) (Ju 1 G.rule hr O qL az du b6 zx vs ce xb ((aN qp,m),a,bd) dM (fH KL ap ha hb) GM),fz mu gF i0 Ca];(.rw[G.bad m a i bd hP ha (by rw[op afw])];exact xW i0 ip);.refine bX (G.next m a i bd hP ha (by rw[kT Jd])) ad h1 h2 h3;refine q6 nd du (im (xZ nd) (vN B3) (Ju 2 G.fin hr O AH du zx vs ce xb ((aN qp,m),a) dM #[KL,h1] GM) (lA 5 pN nd O ai Bi c6 #[d? - B3,by exact Nat.sub_lt_sub_left ha h2,B3,i+1,Z a,_,rfl,h3,rfl])));. (have ha:SK:=by rw[kT zu]);rw[G.done m a i bd hP ha];exact bg q_
azO(A:a?)(T:it):∃fr fe,mg "map_rule"=cv fr/\mg "map_end"=cv fe/\mq Jm de fr fe px (λ m a=>a+3+fU qI) (λ m=>jG (Dq ac m)) (λ m b=>Gr b) (λ m a=>oR (a+3)) (λ m a i bd=>∃ms,_B.jJ m a i bd ms):=by refine ah ((Ae aAB).at_) ad fr h1 h2;refine ah ((Db aKM P P A).at_) ad fe h3 h4;refine #[fr,fe,h1,h3,h2,RG,λ m=>#[[],L'],λ m a i bd bx=>t_ bx ms #[h.le,λ b hb=>by have:=h.hb b hb;have:=h.le;omega],λ m a i bd cy ha hz=>t_ cy ms (JM (HB ha hz)),λ m a i bd dB ha hz=>gn dB ms h,λ m a i bd eG ha=>t_ eG ms (K1 (h.done ha))];have:=_B.JD hz;exact #[AS IM,by exact arx,_,h.next ha hz]
aHw(A:a?)(T:it):∃fr fe,mg "sequence_rule"=cv fr/\mg "sequence_end"=cv fe/\mq Jm de fr fe py (λ m a=>Bg+1+fU Bg) (λ m=>jG (Q? ac m)) (λ m b=>oR (b+2+fU (b+1))) (λ m a=>Bg<d?) (λ m a i bd=>∃ms,_B.jI m a i bd ms):=by refine ah ((Ae azn).at_) ad fr h1 h2;refine ah ((Db aqX P P A).at_) ad fe h3 h4;refine #[fr,fe,h1,h3,h2.mono ab,RG,λ m=>#[[],L_],λ m a i bd kD=>t_ kD ms #[h.le,λ b hb=>by have:=h.hb b hb;have:=h.le;omega],λ m a i bd lH ha hz=>t_ lH ms (JM (HB ha hz)),λ m a i bd oi ha hz=>gn oi ms h,λ m a i bd vn ha=>t_ vn ms (K1 (h.done ha))];have:=_B.MB hz;exact #[a6.2.2,by unfold pu;exact aHu,_,h.next ha hz]
}
section _P
namespace _M
open g? hA hE _L
def z:={
aiS{Pr:gV}{w:gX}{q:ak}(h0:(q==sysModules)=false):MeetsIn Pr w (Builtin.«dict.__len__» #[[aN q],[]]) (λ _ R s=>∃(n:Y)(ob:Obj)(en:Array DictEntry)(x:_),NT q=Z ob/\ob.data=.dict en x/\en.size=n/\R (.ok (.ret (.fY n HC))) {s with toks:=HC+1}):=.of_wp λ A R s bx=>Q5 bx λ n ob en x g1 g2 g3 r=>by show AV (dictSize q>>=_) _ s;unfold dictSize;apply i2;rw[rL (i2 (wpAny_dictEntries g1 g2 LS)) (AV (Builtin.Dict.pendingCount q>>=_) _ s)];apply i2;refine wpAny_pendingCount_other h0 (wpAny_ret_mkInt ?_);rw[NU,g3];exact r
ag8{X:Cx}:ki X (.builtin "len") (λ xs H Q=>∃a aq,xs=[sd a]/\oL a dT/\Q iX qn ll H):=by intro iG s σ H xs us Q I r h;(rw[ju h (λ a aq aS ha q=>?_) aS]);(rw[dl (ah (vals1 r) ad u aU ru) aU]);cases ru;refine iV (Ul I.aR ha) λ z hd ys rel dd=>?_;have ap:ll=ys.length:=rel.length;have ht:=dd.typeIs (s:=s);(refine LX dd λ ob en x g1 _ g2 g3 _=>?_;have hsz:en.size=ll:=by rw[ap];exact size_of_entries g3);rw[wZ (Calls.call_function_entry kind_len plain_len entry_len (args_len1 _) ?_) Builtin.«len»,qW (i2 (m:=oneArg "len" _) (nD ?_)) (i2 (m:=callSpecial? aN a Rj) (wpAny_callSpecial?_slot (name:=Rj) ht Tb (call_meetsIn Tb ht F.entry_dict_len (F.args_dict_len_1 _) (aiS hd) #[ll,ob,en,x,g1,g2,hsz,?_])))];show b! wpAny _ {s with toks:=HC+1};refine i2 (NW (nD FH wpAny_letGo));rw[NY]at z;show lB AV (if Rr<0 then _ else if Rr>=2^63 then _ else _);rw[re QQ,wF axZ z];exact i2 (wpAny_mkInt (nD (vD _ O iX ll H ((I.tok _).tok _) I_ q)))
}
section _M
namespace _P
open g? hA hE _L _M
variable{P:gV}{w:gX}{K:h!}{mg:hV}{de:ie}{c:Cs}
variable{H:Hp}{l:al}{ps:y9 Ci}{X:Cx}{q:ak}
def z:={
acH{b e:Y}(hb:Mp b)(h:b<=e):gS M6 Z dt b Z dt e=jE sG (l.drop b) (e - b) vN:=by unfold gS;rw[_H.xt,_H.xt,el,NZ hb,N0,Tc];by_cases he:(Mp e);(.rw[NZ he]);.rw[jW Nat.min_eq_right Nat.le_of_not_ge he,QG (e! - b) (by rw[Cg,el];exact azW),QG (e - b) (by rw[Cg,el];exact aDI he)]
aJX(A:a?):js "is_capital" (RI xI (.bl (dH (65<=n)&&dH (n<=90)))):=c7 A.aiY agO dV b1 ck λ a f aK A' em s H0 H E hr hp=>by exact bg w5 sU az ai
aKx(A:a?):js "is_small" (RI xI (.bl (dH (97<=n)&&dH (n<=122)))):=c7 A.ahN ag9 dV b1 ck λ a f aK A' em s H0 H E hr hp=>by exact bg w5 sU az ai
Jf.1(x:Y):fm:=dH (97<=x)&&dH (x<=122)
agE.1(l:ML)(i j:Y):uz:=match l[i]? with|Z (.Return Z (.BoolOp _ es _) _)=>(match es[j]? with|Z (.Call _ [.N4 _ _ sc _] _ _)=>sc|_=>Qq)|_=>Qq
aLs(A:a?):mo 2 "is_name" (RQ cY j! [a.1] ci (cT H bm cd) kU (.bl (N6 cd))):=k8 A.amd aaR dV b1 ck λ a f aK A' em s H0 H E hr hp U hU=>by rw[wH v z,<-ah hp ad q hv hq,Jj hq,p_ hv aaR.nd,wo N6];have ee:dh ["name","letter"] (aw Em) _ [("letter",1)]:=q7 (nB agE Em 0 2);(have h4:Gc b (bh dH (Sk=4)->HD=4):=λ h=>by rw[or h Lm]);(refine mA ld (cp (dW (dq (m:=HD) jK az zJ zT q (.fB (Cl nW)) KW) ai) gt (cp Aa aJX mx SY (im bU (vN SY) az ai AN Lr ?_) jh (bY (eS g9 (wb (bs:=jE M7 Jf)) A.g.xu rc (zj 1 (xs:=jE M7 vN) (f:=gq (sb (Jf (e8 x)))) O nd ee (iP RR P (cT H v M7) (i:=1) az ai Bj (i5 q _ l? Lr ?_ (λ p H2 s2=>mS p ?_))) (λ u H1 s1 cy=>o3 cy a ub (Cl h)) ck ?_ (λ s' dG C cl fp k x hk=>?_) sY) th u dB o3 dB a ub LD h Ef O)))) th u e ?_;(.rcases z with _|⟨a,z⟩;(.rw[jv (h4 (b:=c2) h) ab]);.exact cg (j:=0) O);.rw[el,h4 (b:=c2) h];decide);((.rw[aX];congr 2;have h5:=h4 (b:=c2) h;(rw[PV z e z];((.cases h5);.cases h5);(.cases h5);.cases h5);(.rfl);.cases h5);.rw[el,Cg,h4 (b:=c2) h];exact i8 ab);(. (rw[Ex hk a9 a9]);refine(Aa aKx dt m au).imp λ v _ _ e=>?_;rw[e,gW];exact r? sb (by rw[oX Jf uq,rQ auP]));.rw[e];congr 1;(have e1:(HD==4)=dH (Sk=4):=by rw[wy,rQ amC]);rw[e1,List.all_map];congr 1;congr 1;rw[wy,rQ av6]
azC{σ:eo}{a b:d'}{bi:d9}{m:al}(hu:X.A.units+64<cLine)(ha:ig Ev a λ v H=>∃q,nu/\aJ X.K H q M6)(hb:ig Ev b λ v H=>∃q,nu/\aJ X.K H q (m.map vN))(hm:p6 (behindInMarks .Eq b=false) _L.gz._auto_1):io (.Compare a [.Eq] [b] bi) (.bl (l==m)):=Q1 (tF (Pu hu) aI aI hm) NG (eT ri hb.later λ v H3 s3 hv=>by refine ah (hu H3 s3) ad q1 e1 h1;refine ah dM ad q2 e2 h2;subst e1 e2;refine(fK (.tuple (dN l)) (.tuple (dN m)) (.tup h1 (we l)) (.tup h2 (we m)) (EZ l) (EZ m) (q _ H3 Gg KJ));rw[PyData.eqv,D4])
Zx{σ:eo}{o:d'}{p bi:d9}{aq:oT}{n:Y}(hm:eZ (pj "len"))(ho:lT o q)(hq:oL q dT)(hn:ll=n)(hg:zk (Cc "len"=zR))(he:kI [o] f8 o [])(a_:zt zf []):io lE (.pk "len" p) [o] (vN n):=vA ag8 hm Te (ae ho ao he) (λ vs H5 s5 vF Q q'=>(aE q aq vF.now o_ hq (by rw[hY hn (q' _ H5 GD GC)]))) hg ab ab he a_
BC.1(H:Hp)(q:ak)(hv:FM):Prop:=∃aq:oT,oL q dT/\(∀z,n7 ua uC z=N7 z)/\ll=Cr
BC.later{H':Hp}{hv:FM}(h:BC H q hv)(s:kw):BC H' q hv:=by refine ah h ad aq h1 h2;exact(af aq Bq h2)
aGZ(A:a?)(T:it):wE "name_fits" (RQ cY (sD×iW (ak×FM)) tq mZ c! d2 ci (cT H hO g6/\BC H d2 fc) kU (.bl (yn g6 bT fc))):=z9 A.aC3 aDN λ a e H hr hp U hU=>by obtain⟨⟨v,z⟩,t,qd,hv⟩:=a;obtain⟨⟨q,hvv,hq⟩,aq,hqd,k7,c_⟩:=hp;dsimp only at hvv hq hqd k7 c_;subst hvv;rw[wo yn,fz oA nw (aT (aLs A) hr (aN q,z) eC az Ja) (dr (aaQ (z:=N7 z) (jX hr) az a5 (λ u y H1 s1 h1 h2=>?_)) jh (eA (bP eL au d3 A.g.aul))) (aG cN KJ)];((.have e1:=h1.now;have e2:=h2.now;subst e1 e2;exact tr qd (Go dU.t z gY hqd (by rw[hY wG nW])) (k7 z));.symm;rw[Al];intro h;rw[Kg h,oM];rw[h.1,h.2.1|>(N9 _).mp]at hx;rw[k4 h3 h.2.2.1];simp at hx;exact aie hx h3);.rw[QB ux,<-bX hx ad uN cn Cj];dsimp only at uN;((have hn:bh (N6 z):=by simpa using uN);have ht:t<64:=by have:=lh Cj;rw[cS amV]);rw[hn,cn,v? ht];refine zd T.abe λ an t0 t1 t2 hm hs hs0 fJ dY=>?_;refine mA ld (fL (gE eL au PZ m an hs) gt (bY (azC (m:=Sx []) (AU hr) rc az AC H1 q Lr (?_:Ev _ _ _ _ λ v H=>∃q,nu/\aJ K H q G6 Sx [])))) (λ u H1 s1 e=>?_);(. (have ht3:t<3:=by have:=lh h;rw[cS aMb]);rcases kW (t=0\/t=1\/t=2) aAg ht3 with rfl|rfl|rfl;((.exact(mz bU t0 Eg au il qe (hs H1) (cg (j:=0))).imp AC H1 t0 (hs0 H1));.exact(mz bU t1 Eg au il qe (hs H1) (cg (j:=1))).imp AC H1 t1 (fJ H1));.exact(mz bU t2 Eg au il qe (hs H1) I' j).imp AC H1 t2 (dY H1));.rw[e];congr 1;rw[uv,Bool.not_false,uv,uv];congr 1;rw[wy,rQ ag2]
pO.1(n:al):al:=match SE [] n with|xl f=>rH|.ok ns=>L3 (0<pB/\pB<3) [16,pB]
agw(A:a?)(T:it):JE (mo 4 "broken_name") j! gO (pO cd):=c7 A.akK X4 dV b1 ck λ q f aK A' em s H0 H E hr hp=>by rw[zP n q,sK aU ap n2 aU];dsimp only at cD bQ ap⊢;rw[lL X4.nd];have hU:=jX hr;rw[wO (aP dz Bu adx eY qP g9 CD x! dX Bs (aP dz vX aI eY E! (uw hU pe r' Ap O) dg) E! ta) n' p];intro r fG;have j5:=kJ;have zQ:(upd H1 r (.dT [])) qp=Z oh n.map:=cV fG _ _ j5;refine ce qL ai vp zQ ai ly vs ev (qJ 0 qn yo 4 ((yo+3)/4) ev.now Jw Ii ku Bx w' (∃(x2 x3:iY)(hv:FM),a!=[lX,rj,x2,x3]/\rU/\BC H' r hv/\_B.rO n k hv) (b9 ac ac ([]) O ((cV fG).jP s2) xb [] iL aX (λ z=>rfl) (_B.rO.zero n)));(.rintro k a! H' hk⟨x2,x3,hv,rfl,sH,hN,hT⟩;rw[EB (4*k<yo) dj (By+xq*4=tH)];rw[dj];have pM:=a7 sH j5;have oS:=hT.go ot;generalize hz:_B.n4 n k=z at oS;refine As cT z (iP Fm Po gO z (xs:=z.map vN) HF (iP uE P gO z az a5 eX uf y (vN (4*k+4)) F' (GG FU qp rk pM λ p H4 s4=>f7 p db (by rw[aX,acH QU ot iU ar5,<-hz];unfold _B.n4;rw[AW (4*k+4 - 4*k=4) aBa]))) GG (by refine ah l? ad q e1 e2;exact(af q e1 ez e2))) λ nv H3 s3 hnv=>?_;(rw[Ak hnv.now qz W2]);have Q7:=hN.later s3;refine ce nw (aT lJ aGZ hr ((aN qz,z),k,r,hv) qL b6 oD AQ a5 l! (by show tH/4=dt k;exact Hz) au j7 #[f7 qz db W2,SI]) J';(.rw[jn gL (¬bh (yn z k hv))];rw[b? gL]at oS;(have Ac:pO n=[16,k]:=by rw[oX pO oS]);refine eT (xW (i:=16) (j:=k) ai oD AQ a5 l! (by show tH/4=dt k;exact Hz)) LT H5 (uG (l_ (Cv s5))) (by rw[fX Ac vF]));.rw[jn aR bh (yn z k hv)];rw[g! aR]at oS;refine bL SI λ aq v8 k7 c_=>?_;((have hc:N7 z=false:=by unfold yn at aR;rw[Kg aR];simpa using aR.2.1);have zF:k<64:=by unfold yn at aR;rw[Kg aR,lf aR.2.2.1]);have aHj:=hT.num;refine #[_,rfl,_,rfl,r,_,rfl,Go i_.t z v8 (by rw[hY wG db W2]) (i8 (by exact apL c_ aHj zF)),?_];(have nA:eZ ua uC z:=by have:=k7 z;rw[t8 hc,Option.isNone_iff_eq_none.mp (by rw[<-Option.not_isSome];rw[LE])]);(refine(b9 _ _ (z::hv) O sC b' o' hb (aZ _ aX IV y ?_) oS);(.rw[aV (c8 hb fG)];exact db gi kS sH);.rw[kr];by_cases e:y=z;(.subst e;rw[n1];simp);.rw[b? gt (e (GX h)),k7 y,List.contains_cons];simp[e]);.rw[DD _ nA,uP,List.length_singleton,c_];rfl);.rintro a! H'⟨x2,x3,hv,rfl,sH,⟨aq,gA,k7,c_⟩,hT⟩;obtain⟨hd1,hd2⟩:=hT.done (by exact aby);(have Ac:pO n=L3 (0<Cr/\Cr<3) [16,Cr]:=by rw[oX pO hd1];dsimp only;rw[IU List.length_reverse]);refine ET T.abe λ an t0 t1 t2 hm hs _=>?_;refine ce (sZ cM cM ai (Zx jK au gA c_) PZ m an hs) J';(.rw[Q4,k4 h1 xL,k4 h2 hx.2];rw[gy (by exact apt h2 h1)]at Ac;exact eT (xW (i:=16) (j:=Cr) ai (Zx jK au db gA c_)) LT H5 L? uG s5 (by rw[fX Ac vF]));.rw[li (by simp at hx;exact afR hx)]at Ac;exact eT q_ LT H5 L? uG s5 (by rw[fX Ac vF])
aso(A:a?):mo 2 "is_walked" (RQ cY Bp [vN bm,ty] Gu kU (.bl (_B.wk bm cd))):=ts A.aHW alk λ a e H hr hp U hU=>by rw[wH k x,ii hU _,<-mA ld (fL (Bh az (ae d3 A.g.xj d1 d3 A.g.um d3 A.g.Ig)) jh (bY (cp (dW az (ag A.g.JN)) jh (bY (aT (mI A) hr (nc x,(12:cm)) d1 au d3 A.g.z6 B! zW (By<=12)))))) (λ u H1 s1 e=>?_)];rw[e];rw[FR _B.wk];rw[show iJ dt x 12=x.testBit 12 from i4 _ 12];congr 2;(.rw[wy];show(bh ((_:cm)==(_:cm)||((_:cm)==(_:cm)||((_:cm)==(_:cm)||false))))↔_;rw[rQ atv]);.congr 1;rw[wy,rQ aex]
Cp{p:al}(h:na ou p ps):∀k,4*k<i1+4->MR/\(4*k<i1->w4):=by(have step:∀k,MR->F?->w4:=λ k hP hk=>by have:=hP.go hk;by_cases e:w4;(.exact e);.rw[b? e,h]at a6;cases a6);intro k;induction k with|uu=>exact λ _=>#[SB,step 0 (_B.jf.zero p)]|succ k ih=>intro hk;obtain⟨h1,h2⟩:=jW ih NB hk;have:=jW h1.go Tg hk;rw[t7 (gy (h2 rJ Tg)),#[a6,step _ a6]]
Nb{p:al}{k:Y}(h:w4):4*k+4<=i1/\rf<=rh:=by rw[np r!];split at h;(.cases h);.refine #[dn Cy L5,?_];have:=_B.Cu lw _B.LL h _ Ki Tf _ HH;rw[Qv e9 a6,a6.2]
vS.2(p:al):Y:=Lc p Gs
AJ.1(p:al):al:=L3 (4096<vS p) [17,0]
El{p:al}(h:na ou p ps):Mq=0/\ps=nE p Gs:=by(have h0:Mq=0:=by by_cases e:Mq=0;(.exact e);.have:=Nb ((Cp h Gs iU aaN).2 dn ahc e);rw[cS awA]);have:=jW (Cp h Gs iU aaN).1.done aFF h0;rw[t8 h,#[h0,Except.ok.inj a6]]
aA1(A:a?):PJ (wE "broken_walk") ps gO (AJ cd):=oo A.aKN UH λ q e H hr hp U hU=>by rw[Qz p hp UH.nd,gk,<-bI 1 nd ai ?_,<-PP (Y0 2) (∃x2,a!=[lX,Z (vN (HI MS)),x2]) #[ac,rfl] L0 k hk hJ GW a! s1 hJ];(.obtain⟨x2,rfl⟩:=x?;rw[EB F? dj (By+xq*4=tH)];have j5:=kJ;rw[dj];obtain⟨OM,j3⟩:=Nb ((Cp tV k rJ Ow).2 ot);(have yW:HI (nE p kA)=Lc p k+if(bh (_B.wk rG AI))then rh+1 - rf else 0:=by rw[_B.N5,_B.ak3];rfl);generalize Lc p k=G at yW⊢;refine A0 rg N1 (∃x2,d!=[lX,Z (vN (HI (nE p kA))),x2]) (bN (aT (aso A) hr (rG,AI) d1 Aq j5 rJ Bm wd (4*k+3) j5 UE zo)) ge dE Bi c6 #[gx (4*k),?_] ly d! h (c6 h);(.refine lA 1 pN nd O p9 (aW cW wd (4*k+2) j5 Yz wd (4*k+1) j5 Wy) Bi c6 #[gx (4*k),?_];.rw[oM];rw[yW,g! hx];show[et sd qp,et l! (nc G+((rh:Y) - rZ rf+1)),_]=_;rw[kW (dt G+(((rh:Y):cm) - mx rf+1)=mx (G+(rh+1 - rf))) aku j3]);.rw[oM];rw[yW,li (by rw[hx];decide)];rfl);.obtain⟨x2,rfl⟩:=x?;(have hn:SX/4=SU:=by exact adV h4);rw[hn];unfold AJ vS;refine aY (bP gF au d3 A.g.aBZ) dE Ca dE Ca;(.rw[gy (by rw[op alU])];exact xW (i:=17) (j:=0) ai ai);.rw[li (by rw[kT aLD])];exact q_
vT.1(H:Hp)(v:V)(r:Es):Prop:=∃q v0 v1 v2 v3,nu/\k9 q Bz/\c? v0 r.1/\c? v1 o?/\c? v2 xw/\c? v3 xv
ir.1(a b:al):al:=if a=[]then b else a
BV.1(r:Es):al:=ir (ir (ir (ir (jG (ou ac r.1)) (jG (HA (jw r.2.1+1) 0 ac o?))) (jG (yl (jw r.2.2.1+1) 0 ac xw))) (pO xv)) (AJ r.1)
KO{a b:al}(h:ir a b=[]):a=[]/\b=[]:=by rw[np ir];split at h;(.exact #[L5,h]);.rw[jv h L5]
anp{α:Type}{r:Mu α}(h:jG r=[]):∃x,r=.ok x:=by cases r with|ur f=>cases h|ok x=>exact #[x,rfl]
sX{v:V}(h:gO l):wW K v H Mr:=by obtain⟨q,rfl,h⟩:=h;rw[mJ #[_,ez h,by rw[List.isEmpty_map]]]
aHB(A:a?)(T:it):mo 6 "broken_record" (RQ cY (V×Es) [a.1] ci (vT H bm cd/\bO bT+bO d2+bO nr+bO tb<=8192) dL gO (BV cd)):=oo A.aGi QX λ a e H hr hp U hU=>by obtain⟨v,p,m,sq,n⟩:=a;rw[sK aU ap (zK aU λ q v0 v1 v2 v3 hv hq h0 h1 h2 h3=>?_)];dsimp only at hv hq h0 h1 h2 h3 ap;rw[p_ hv QX.nd];have row:∀{X:Cx}{H1:Hp}{σ:eo}{o:d'}{bi p2:d9}{j:Y}(i:Y)(v:V),X.K=K->qh->Bz[i]?=Z v->w_ H1 o aN q->w_ H1 Dw (.yp iX dt i j p2) bi v:=λ{X}{H1}{σ}{o}{bi}{p2}{j}i v hK s1 hi ho=>cO ho ai eR ce ez iL nW Nr;rw[<-aO Ae azO λ f1 g1 m1 m2 G1=>?_,<-aO Ae aHw λ f2 g2 m3 m4 G2=>?_,wo BV];dsimp only;(have yes:∀{l:al},bh (!Mr)->l=[]:=λ h=>by simpa using h);(have no:∀{l:al},o6 (!Mr) (l≠[]):=λ h=>by simpa using h);refine gK 1 nd (aT lJ aL9 dp (v0,p) eC A1 (row 0) v0 GD tm (b! gI s1 h0) q! i1 Ov ap) GW b1 s1 rN;dsimp only at rN;generalize ha:jG (ou ac p)=a0 at rN;(refine A0 rg N1 FK v v J6 (dI (nQ au w! (by rw[oJ sX uo rN]))) ge dE (c6 eR f7 b1 (by rw[E5 ir rN H2])) ly d! hj ?_;.rw[yes hx];rw[EX (aT (SN A G1) hr (v1,m) qL A1 (row 1) v1 s1 (lO m1) (lO m2) eR #[vr ga s2 h1,q! d? E_ ap]) b2 n9]);((rw[dl (ah HJ l6 b2 a9) a9]);have n9:bc (λ H=>c? b2 J6) H2:=λ H3 s3=>by rw[J_ H3 s3 e]);generalize oG:J6=a1 at n9;(refine A0 rg N1 FK v v Kb (dI (nQ au w! (by rw[oJ sX uo n9]))) ge dE (c6 eR f7 b2 (by rw[E5 ir n9 H2])) (λ d! H3 s3 hj=>?_);.rw[yes hx];rw[EX (aT (SN A G2) hr (v2,sq) qL A1 (row 2) v2 SP (lO m3) (lO m4) fx #[b! gI ES h2,q! sq.length NF ap]) b2 n9]);((rw[dl (ah HJ l6 b3 bu) bu]);have Nv:bc (λ H=>c? b3 Kb) H3:=λ H4 s4=>by rw[J_ H4 s4 e]);generalize yT:Kb=a2 at Nv;have t3:=ga (kB s3);(refine A0 rg N1 FK v v Mn (dI (nQ au w! (by rw[oJ sX uo Nv]))) ge dE (c6 eR f7 b3 (by rw[E5 ir Nv H2])) (λ d! H4 s4 hj=>?_);.rw[yes hx];rw[EX (aT lJ agw dp (v3,n) eC A1 (row 3) v3 t3 j7 #[vr N! s4 h3,q! yo Nat.le_of_add_left_le ap]) b2 n9]);((rw[dl (ah HJ l6 b4 bW) bW]);have OV:bc (λ H=>c? b4 Mn) H4:=λ H4 s4=>by rw[J_ H4 s4 e]);generalize Ze:Mn=a3 at OV;have t4:=N! s4;(refine A0 rg N1 FK v v (ir a3 (AJ p)) (dI (nQ au w! (by rw[oJ sX uo OV]))) ge dE (c6 eR f7 b4 (by rw[E5 ir OV H2])) (λ d! H5 s5 hj=>?_);.have e3:=yes hx;rw[e3];(have ok0:jG (ou ac p)=[]:=by rw[ha];rw[e3]at Ze;rw[(KO Ze).1]at yT;rw[(KO yT).1]at oG;exact(KO oG).1);rw[EX (aT (aA1 A) dp (v0,p) eC A1 (row 0) v0 t4 j7 #[vr t4.trans s4 h0,q! i1 Ov ap,anp ok0]) b2 n9]);(rw[dl (ah HJ l6 b5 cJ) cJ]);exact mA ld au vE H6 s6 (by refine ah (hj H6 s6) ad v' e' h;cases e';rw[fX e h])
}
section _P
namespace _M
open g? hA hE _L
variable{eb:d'}
structure Lv(H1 H':Hp)(D:ak)(qs:kf):Prop where
 at_:H' D=Z Sf
 nd:N?
 off:D∉qs
 d0:eZ (H1 D)
 q0:∀q∈qs,eZ (H1 q)/\H' q=et .lst []
 same:rU
section
variable{X:Cx}{σ:eo}{H:Hp}{lm:uz}{own:Ls}{y:bt}{bi pos' p1 p2 lp:d9}
def z:={
JC(i:Y){n:Y}(ha:ig eO wz [iX qn n])(hn:n<=100)(hw:∀x,I6 Kt=Je):tO (∀Q:VK,(∀D qs H2,SS->Lv H1 H2 D qs->Q Nk H2)->lN (P4 (B7 X wz)) (dF i) kh (Ga vv) (HL (·.2)) σ H1 Q):=by intro H1 s1 Q q;refine ce D1 vw vs (fF qn n po iU abI dn atn hn (λ D hD=>ku Sl (yq (g:=dF i) (tt:=kh) (te:=Ga vv)) vs D (λ k H'=>∃qs:kf,Ob=k/\Lv H2 H' D qs) #[[],rfl,aX,List.nodup_nil,ug,hD,ug,cV hD]));(.rintro k H' hk⟨qs,f9,L⟩;(have cj:k<n:=by exact Cb hk);refine #[hw _,wP,cA r hr];(have IW:r≠D:=λ e=>by rw[f' L.at_ hr hr]);(have Qc:r∉qs:=λ h=>by rw[kc (L.q0 r h).2 hr hr]);refine #[qs.map sd,by rw[aV (sg IW)];exact L.at_,by rw[JQ (show _<=100 by exact alL f9 cj hn)],qs++[r],by rw[uP,f9];rfl,?_];(refine #[by rw[aX,yr];rfl,?_,?_,hD,?_,?_];(.rw[hY Ti #[L.nd,ug,λ a h1 b h2=>by simp at h2;subst h2;exact λ e=>Qc (e▸h1)]]);.simp only[List.mem_append,Tj];rintro(h|h);(.exact L.off h);.exact IW h.symm);(.intro z hz;rcases E? hz with hz|hz;(.have hzD:z≠D:=λ e=>L.off (e▸hz);have hzr:z≠r:=λ e=>Qc (e▸hz);exact #[(L.q0 z hz).1,by rw[aV hzD,aV hzr];exact(L.q0 z hz).2]);.rw[Tj]at hz;subst hz;exact #[L.same.free hr,by rw[aV IW,aX]]);.intro b o hb;rw[aV (c8 hb hD),aV (c8 Sw hr)];exact Sw);.rintro H'⟨qs,f9,L⟩;exact q D qs H' (by rw[fX f9 afV]) #[L.at_,L.nd,L.off,s2.free hD,λ z hz=>#[s2.free (L.q0 z hz).1,(L.q0 z hz).2],kB L.same]
IQ(i j:Y){z:bt}{pz jl:d9}(hc:Gp)(hN:NC)(ok:dh X.N Ht lm own)(hm:Sz pj)(hg:∀(s:ln)(H:Hp)(C:ak)(cl:Ay)(fp:kf),PG Jh H cl C z1 (dF i))(r6:PY)(rR:jg (IP wz=[(false,f8 eb)]))(hz:jg (X.N[j]?=Z z))(n_:jg (S' z=Z .local))(mC:jg (swapsWith QY Z (.pk z pz) jl.line l9=pure c2))(hs:KK x LY p1 wz p2 x):PS X (.Assign [.pk z pz] QY jl) (λ D σ H=>lN (P4 (B7 X wz)) (dF i) kh (Ga vv) (HL (·.2)) σ H λ x H2=>D.nx (σ.set j DJ) H2):=yC (i:=j) hc hN hz n_ mC (Av r6 hm dX rR) ok hg Nf (λ _ _ _ _ _=>Hr) hs
Dt{es:kl}{PL:g7->Hp->Prop}{x1}(ha:tT fC PL)(hl:∀vs H,G?->Sb):mW (.Cz es x1 bi) (∃a vs,rT/\oH a vs/\G?):=Rz Qt vs H2
}
section z
section _M
namespace _P
open g? hA hE _L _M
variable{P:gV}{w:gX}{K:h!}{mg:hV}{de:ie}{c:Cs}
variable{α:Type}{H H1:Hp}{qs:kf}{R:rI}{ls:Dd α}{q:ak}
structure jd{α:Type}(R:rI)(H1 H:Hp)(D:ak)(qs:kf)(ls:Dd α):Prop where
 at_:fy D Sf
 nd:N?
 off:D∉qs
 d0:eZ (H1 D)
 q0:∀q∈qs,eZ (H1 q)
 same:my H
 len:Ob=ls.length
 has:∀(i:Y)(q:ak),qs[i]?=Z q->∃xs l,ls[i]?=Z l/\k9 q xs/\oO R xs l
def z:={
qV.1(R:rI):Prop:=∀(H:Hp)(a:ak)(xs ys:g7)(v:V)(x:α),k9 a xs->R H v x->R Li v x
vY:qV cT:=λ H a xs ys v x ha bx=>o3 bx q nX q (by rw[aV g8 (by rw[f' h ha ha])];exact h)
aLa:qV mQ:=λ H a xs ys v x ha cy=>o3 cy q nX q (by rw[aV g8 (by rw[f' h ha ha])];exact h)
aMa:qV jM:=λ H a xs ys v x ha dB=>Gk dB q (aE q y e (by rw[aV g8 (by rw[f' h ha ha])];exact h) E')
aJc:qV k_:=λ H a xs ys v x ha eG=>hX eG λ q y z e h t u=>(b9 q y z e (by rw[aV g8 (by rw[f' h ha ha])];exact h) E' Dn u)
jd.later(hu:Up R){H':Hp}{D:ak}(h:jd R H1 H D qs ls)(s:kw):jd R H1 H' D qs ls:=#[n0 uQ,h.nd,h.off,h.d0,h.q0,h.same.trans s,h.len,λ i q hq=>by refine aO (h.has i q hq) MZ xs l h3;exact(aE xs l h1 n0 h2 (gw B! (hu _ _ _ _ s) h3))]
aiQ(h:N?){i j:Y}(h1:qs[i]?=Z q)(h2:qs[j]?=Z q):i=j:=by obtain⟨a1,a2⟩:=Od h1;rw[P_ b1 b2 h2];rcases Nat.lt_trichotomy i j with e|e|e;((.exact pw (a2.trans b2.symm) (Tl h i j a1 b1 e));.exact e);.exact pw (b2.trans a2.symm) (Tl h j i b1 a1 e)
jd.add(bw:qV R){D:ak}(h:jd R H1 H D qs ls){k:Y}{xs:g7}{l:rX}{v:V}{x:α}(hq:qs[k]?=Z q)(hl:ls[k]?=Z l)(hx:k9 q xs)(hp:oO R xs l)(hv:R H v x):jd R H1 sF q (.lst (xs++[v])) D qs (ls.set k (l++[x])):=by have hm:=yi hq;have hD:D≠q:=λ e=>h.off (e▸hm);refine #[by rw[aV hD];exact uQ,h.nd,h.off,h.d0,h.q0,ad b o hb,by rw[fX List.length_set h.len],ad i r hr];(.rw[aV (c8 hb (h.q0 q hm))];exact kS h.same);.have c_:=qx hl;by_cases e:i=k;(.rw[f' hq hr hr,<-(aE (xs++[v]) (l++[x]) (by rw[List.getElem?_set_self c_]) aX ?_),Tm (gw (λ a b o1=>b! bw _ _ hx o1) hp) (b! bw _ _ hx hv)]);.refine aO (h.has i r hr) λ ys m g1 g2 g3=>?_;refine(aE ys m (by rw[List.getElem?_set_ne (sg e)];exact g1) ?_ (gw (λ a b o1=>b! bw _ _ hx o1) g3));rw[aV (show r≠q from λ e2=>e (aiQ h.nd hr (by rw[fX e2 hq])))];exact g2
Zb{α β:Type}{F:md α β}:∀(l:rX)(m:GZ),e!=d?->(∀(i:Y)(a:α),l[i]?=Z a->∃b,m[i]?=Z b/\F a b)->fw F l m|[],[],_,_=>iv|[],_::_,h,_=>by simp at h|_::_,[],h,_=>by simp at h|a::l,b::m,h,g=>by refine ah eX (g 0) a ad b' e hf;cases e;exact Hc hf (Zb l m DF h λ i x hx=>g up x hx)
jd.lst{D:ak}(h:jd R H1 H D qs ls):eD (eD R) H Nk ls:=by rw[<-tr D uQ (Zb _ _ (by rw[fX el h.len]) ad i v hv),Aj hv];cases hq:qs[i]? with|ac=>rw[cx hq hv hv]|gU q=>rw[cx hq hv hv,<-aO (h.has i q hq) MZ xs l h3,g9 (vD l h1 q xs) h2 h3]
jd.new{R:Hp->V->ve α->Prop}{D:ak}{n:Y}(h:Lv H1 H D qs)(hn:SS):jd R H1 H D qs (pG n ([]:AK)):=#[uQ,h.nd,h.off,h.d0,λ q hq=>(h.q0 q hq).1,h.same,by rw[oX pG hn];simp,λ i q hq=>(aE ([]) ([]) (by have:=qx hq;rw[q8 n6 Tn a6 hn];rfl) ((EC h.q0 q hq).2) iv)]
aB7{p:al}{k:Y}(h:w4):rG<14:=by rw[np r!];split at h;(.cases h);.have:=_B.Cu lw _B.LL h _ HH;rw[Qv e9 a6,Nh]
aIV(A:a?):PJ (js "range_records") ps (eD (eD mQ) H v (M8 (nE cd ((jw a.2)/4)))):=oo A.aFd aas λ q e H hr hp U hU=>by rw[Qz p hp aas.nd];have ee:dh ["numbers","records","at","kind"] (aw Ip) _ [("kind",3)]:=q7 nB mV Ip;rw[gk,wO JR (IQ 3 1) qP g9 CD x! dX Bs GT DG uB aI aI ji pe n' pp,FR ph,MY (JC 3 (n:=14)) A.g.alv r];have zQ:=a7 hN.same kJ;refine ce p7 ai vp zQ eC ai B_ vs ev (qJ 0 qn i1 4 ((i1+3)/4) ev.now Jw Ii ku Bx w' (∃(x2:iY),a!=[lX,rj,x2,ac]/\jd mQ H1 H' r qs (M8 MS)) f7 ac ((MU).sk mB s3));(.rintro k a! H' hk⟨x2,rfl,hB⟩;rw[EB F? dj (By+xq*4=tH)];rw[dj];obtain⟨OM,j3⟩:=Nb ((Cp tV k rJ Ow).2 ot);have yz:rG<14:=aB7 ((Cp tV k rJ Ow).2 ot);have pM:=a7 HQ kJ;rw[Fo b My rG am6 yz,<-wN b (cO au Aq pM ot j7 ce ez db hB.at_ (cg (by rw[Kr hb]))) cA H4 s4];have Ba:=CB mB s4;rw[KE Ba.has l hx];have M':=db pM;refine #[EQ hx,As mQ (k,#[rf,rh,AI]) ((r4 iT [vN k,vN rf,vN rh,vN AI] p7 oD AQ a5 l! (by show tH/4=dt k;exact Hz) wd (4*k+1) M' Wy d1 wd (4*k+2) M' Yz wd (4*k+3) M' UE).imp λ v H5 s5 h=>h) λ tv H5 s5 fq=>?_];have zA:=Ba.later mB s5;have Qg:=a7 s5 hx;(have BG:FJ:=by rw[iO ik];(have:l=nH rG (nE p k):=by rw[q8 yz]at hl;rw[vO ti hl]);rw[a6];rw[An QC];rw[Tp];rw[z8 nE,aET hk ap]);refine #[b,xs,tv,rfl,rfl,Qg,jW i8 Ao BG,_,rfl,?_];have:=zA.add aLa hb hl Qg (gw B! (mB _ _ _ _ s5) ik) fq.now;(have dZ:l=nH rG (nE p k):=by rw[q8 yz]at hl;rw[vO ti hl]);rw[_B.N5,show _B.A9 p k=(rG,#[rf,rh,AI])from rfl,a7 _B.LP yz,<-dZ,show bO MS=k by rw[z8 nE]];rw[q5]);.rintro a! H'⟨x2,rfl,hB⟩;rw[kW (SX/4=SU) adV h4]at hB;exact ce O (pp _ _ HQ kx (CB mB s4).lst)
Bo(k:Y)(l:AK):bO MO<=e!:=by rw[An QC];rw[Tp];exact yb _
Jc{X:Cx}{σ:eo}{o ea eb:d'}{p1 p2 p3 bi:d9}{l:al}{a b:Y}{r:al}(hm:eZ (pj "tuple"))(hq:fy q Lx)(ho:lT o q)(ha:io ea (vN a))(hb:io eb (vN b))(o1:a<=b)(hl:Mp b)(hr:(l.drop a).uy (b - a)=r)(hg:zk (Cc "tuple"=zR))(he:kI [J1] f8 J1 [])(a_:zt zf []):mW lE (.pk "tuple" p3) [J1] (cT H v r):=iP Fm Po gO r (xs:=r.map vN) hm (iP uE P gO r ho ha hb (GG FU q rk hq λ p H4 s4=>f7 p db (by rw[aX,acH n6 hG o1 hl o1,hr]))) GG (by refine ah l? ad q e1 e2;exact #[q,e1,ez e2]) (by rfl) hg he a_
ak1(A:a?):js "map_records" (RQ cY (V×al×tC) [a.1] ci (c? bm bT/\y? bT/\na (HA (jw un+1) 0) bT ch) dL (eD (eD jM) H v (BA ch))):=oo A.aHd adq λ q e H hr hp U hU=>by obtain⟨iE,m,ms⟩:=q;rw[EK (λ aS ap kG=>n2 aS) ap kG,lL adq.nd];have ee:dh ["numbers","records","at","record","behind","kind"] (aw E6) _ [("kind",5)]:=q7 nB mV E6;rw[gk,wO JR (IQ 5 1) dz m? kb JO kb RL xh Nz pN pe n' pp,FR ph,MY (JC 5 (n:=15)) A.g.awn r];(have gL:∀{a i bd ft},Fe->oY->gH px=0:=λ{a i bd ft}h hl=>by by_cases e:gH px=0;(.exact e);.have:=HB hl e;rw[vH kG]);refine #[sN z (∃(a i:Y)(bd:jp)(ft:tC)(x4:iY),a!=[lX,rj,gx a,gx i,x4,ac]/\Fe/\xV/\z=qY/\Fn jM H' BA),#[d?,0,0,ac,[],ac,rfl,L',qR,rfl,MU],?_];rintro z a! H'⟨a,i,bd,ft,x4,rfl,hM,CY,rfl,hB⟩;have pM:=a7 HQ kJ;refine ce (bP cM a5 vp pM) J!;(. (have ha:oY:=by rw[op sf]);have hz:=gL hM ha;refine bX (_B.JD hz) ad km fT uK;have yc:=HT ha hz;rw[PU (∃(a i:Y)(bd:jp)(ft:tC)(x4:iY),d!=[lX,rj,gx a,gx i,x4,ac]/\Fe/\xV/\z'=qY/\Fn jM rF BA) (r9+Gm) eX mt (a+2) i7 a5 dn aA2 km];have Ba:=F2 j4 s4;rw[Fo b My on YH fT,<-wN b (cO au Aq pY ha xx ce ez o_ Ba.at_ (cg (by rw[Kr hb]))) cA H5 s5];have zA:=Ba.later j4 s5;rw[KE zA.has l wu];have j6:=a7 s5 pY;refine #[EQ wu,As jM (i,#[tZ,MP]) (ld (Dt (cu b6 tn eX mt (a+1) j6 a5 dn aE2 km (Jc (a:=a+3) (b:=a+3+fU qI) (r:=MP) HF j6 az q9 F' du iU MK km (by unfold _B.sm;rw[AW (a+3+fU qI - r9=Gm) Z3]))) bn vs H (by(refine uI h λ _ _ aU _ _ _ a9 _ _ _ bu _ bW=>?_;subst aU a9 bu bW);exact(ab:3<=100))) nz H6 s6 h) λ tv H6 s6 fq=>?_];(. (refine AD h λ q _ e1 e2 _ _ cJ dw _ _ d7 fM y _ iS hy jC=>?_;subst cJ dw d7 fM iS jC);exact(aE q y e1 e2 hy));have uM:=zA.later j4 s6;(have hx6:=a7 s6 wu;(have dZ:l=nH on ft:=by rw[q8 fT]at hl;rw[vO ti hl]);have BG:FJ:=by rw[iO ik,dZ];rw[An Ea];rw[CC];exact anf km CY ap);refine Rc b xs hx6;have:=uM.add aMa hb hl hx6 (gw B! (j4 _ _ _ _ s6) ik) fq.now;refine #[_,rfl,_,rfl,_,_,rfl,rfl,d? - (r9+Gm),t? akv km,_,i+1,_,_,_,rfl,yc,t? Zw CY,rfl,?_];rw[a7 _B.LP fT,<-dZ,CC];rw[q5]);.have hd:=Of (by have:¬dt a<dt d?:=λ h=>wC hx h;rw[cS zu]);rw[cx kG hd hd,#[_,rfl,pp _ _ R8 kx (F2 j4 s4).lst]]
aLX(A:a?):js "sequence_records" (RQ cY (V×al×tB) [a.1] ci (c? bm bT/\y? bT/\na (yl (jw un+1) 0) bT ch) dL (eD (eD k_) H v (BX ch))):=oo A.agv T7 λ q e H hr hp U hU=>by obtain⟨iE,m,ms⟩:=q;rw[EK (λ ml ap kG=>n2 ml) ap kG,lL T7.nd];have ee:dh ["numbers","records","at","record","key_end","behind","key","kind"] (aw ER) _ [("kind",7)]:=q7 nB mV ER;rw[gk,wO JR (IQ 7 1) dz m? kb JO kb eY dz xh aI dz (b7 (i:=5)) aI RL (b7 (i:=6)) (pv 5) pN pe n' pp,FR ph,MY (JC 7 (n:=3)) A.g.aAX r];(have gL:∀{a i bd ft},Fj->oY->gH py=0:=λ{a i bd ft}h hl=>by by_cases e:gH py=0;(.exact e);.have:=HB hl e;rw[vH kG]);refine #[sN z (∃(a i:Y)(bd:jp)(ft:tB)(x4 x5 x6:iY),a!=[lX,rj,gx a,gx i,x4,x5,x6,ac]/\Fj/\xV/\z=qY/\Fn k_ H' BX),#[d?,0,0,ac,[],ac,ac,ac,rfl,L_,qR,rfl,MU],?_];rintro z a! H'⟨a,i,bd,ft,x4,x5,x6,rfl,hM,CY,rfl,hB⟩;have pM:=a7 HQ kJ;refine ce (bP cM a5 vp pM) J!;(. (have ha:oY:=by rw[op sf]);have hz:=gL hM ha;refine bX (_B.MB hz) ad km fT uK;have yc:=HT ha hz;have sj:pu m a=a+2+fU qc:=rfl;rw[PU (∃(a i:Y)(bd:jp)(ft:tB)(x4 x5 x6:iY),d!=[lX,rj,gx a,gx i,x4,x5,x6,ac]/\Fj/\xV/\z'=qY/\Fn k_ rF BX) Bg eX mt (a+1) i7 a5 n6 agM uK sj];generalize hte:Bg=te at km fT uK yc sj;refine DZ (Nx+fU te) q9 qM du eX (c9 (j:=te) pY az du O) uK cA H5 s5;have j6:=a7 s5 pY;refine eT (Jc (a:=a+2) (b:=te) (r:=GF) HF j6 az q9 F' du dn aoy sj QU uK (by unfold pt;rw[kW (te - qI=tZ) aGd sj])) λ kv H6 s6 k7=>?_;have BF:=a7 s6 j6;have uM:=F2 mU L6 HV s6;rw[Fo b My on RZ fT,<-wN b (cO au Aq BF ha xx ce ez o_ uM.at_ (cg (by rw[Kr hb]))) cA H7 s7];have QP:=uM.later mU s7;rw[KE QP.has l wu];have uS:=a7 s7 BF;refine #[EQ wu,As k_ (i,#[GF,_B.FP m a]) (ld (Dt (cu b6 tn (iP ld i0 P' (cT H v GF) vE H8 s8 (by rw[e];exact k7 _ (Og s8))) (Jc (a:=te+1) (b:=te+1+fU te) (r:=_B.FP m a) HF uS az q9 p9 du ip iU aFJ km (by unfold _B.FP;rw[hte,show te+1+fU te - Nx=fU te by exact ar7]))) bn vs H (by(refine uI h λ _ _ kK _ _ _ jx _ _ _ kd _ kj=>?_;subst kK jx kd kj);exact(ab:3<=100))) nz H8 s8 h) λ tv H8 s8 fq=>?_];(. (refine AD h λ q _ e1 e2 _ _ lZ oC y _ nU hy z _ qF hz nJ=>?_;subst lZ oC nU qF nJ);exact(b9 q y z e1 e2 hy hz));have hB8:=QP.later mU s8;(have Qn:=a7 s8 wu;(have dZ:l=nH on ft:=by rw[q8 fT]at hl;rw[vO ti hl]);have BG:FJ:=by rw[iO ik,dZ];rw[An Ea];rw[CC];exact aKX CY ha ap);refine Rc b xs Qn;have:=hB8.add aJc hb hl Qn (gw B! (mU _ _ _ _ s8) ik) fq.now;refine #[_,rfl,_,rfl,_,_,rfl,rfl,d? - (Nx+fU te),by exact aIA km sj,_,i+1,_,_,_,_,_,rfl,yc,by exact ahw CY sj,rfl,?_];rw[a7 _B.LP fT,<-dZ,CC];rw[q5]);.have hd:=Of (by have:¬dt a<dt d?:=λ h=>wC hx h;rw[cS zu]);rw[cx kG hd hd,ce O (pp _ _ R8 kx (F2 mU s4).lst)]
}
section _P
namespace _L
open g? hA hE
section
variable{sl:gV}{w:gX}{A:HX}{E:LI h?}
variable{s:ln}{H:Hp}{h' h:ie}
def z:={
TK.2(sl:gV)(w:gX):=tupleKind (gf sl w)
FE{k:jU}{a:ak}(hk:AP h k a)(e:LC o a a):AP h' k a:=by refine lG hk λ o aF n h1 r=>?_;exact(uJ o aF n (e _ h1) r)
GR{S:ak}{xs:m0}(hm:h.DictOfH tu S xs)(hS:LC o S S)(hk:∀x∈xs,LC o ul ul):Oi tu S xs:=by obtain⟨o,es,ep,ho,hc,hd,he,his,hn⟩:=hm;exact #[o,es,ep,hS _ ho,hc,hd,he,λ x hx=>FE (his x hx) (hk x hx),hn]
EH.1(xs lq:m0):m0:=Ok (λ gc x=>CE gc x.1 ul ey.2) xs
ajI(xs:m0)(k:jU)(a:ak)(v:h?):bO (CE xs k a v)<=HS+1:=by unfold CE;split;(.rw[fX el MA]);.rw[uP];exact yb _
acm{R:LI Result}{S I l:ak}{mb:Array h?}{res:h?}(hu:A.units+1<cLine)(hh:Sn)(xy:l≠I)(qZ:S≠I)(BW:S≠l):∀(jO:m0)(i:Y)(gc:m0)(ix:cm)(t:Tok)(s:ln),Ol=i+yx->acc.length+yx<=uR->(∀(j:Y)(q:jU×C?),jO[j]?=Z q->∃(b:ak),mb[i+j]?=lY/\b≠S/\b≠I/\Jz uT b rd/\AP uT q.1 j1/\j1≠S/\j1≠I)->(∀x∈gc,ul≠S/\ul≠I)->s.heap.IsListIter I l i->s.heap.IsList l mb->s.heap.DictOfH tu S gc->(∀h' tk,Oi tu S (EH gc jO)->(∀b o,b≠S->b≠I->KP->R9)->R (.ok (.ret res)) {s with heap:=h',toks:=tk})->codeAny SA A (.builtin "dict.update.loop" #[[aN S,c! I,.fY ix t,res],[]]) R s|[],i,gc,ix,t,s,hsz,l8,ht,jF,hit,hl,hm,hR=>by rw[ii Tt Ff];rw[Tu pT _];show A6 (pyNext (.ref I)>>=_) _ s;rw[rL (i2 (wpAny_pyNext_list_end (A:=A.in1) hh hit hl (by first|exact Array.getElem?_eq_none (Nat.le_of_eq hsz)|(simp at hsz;simp;omega)) cA h' he)) lB A6 (Builtin.Dict.addKeywords S []>>=_),<-i2 (nD (nD ?_)),hR h' HC (GY hm (he S o qZ e) λ x hx o e=>he _ o (jF x hx).2 e) λ b o _ hb e=>he b o hb e]|q::jO,i,gc,ix,t,s,hsz,l8,ht,jF,hit,hl,hm,hR=>by obtain⟨b,hb,hbS,K_,OX,hk,hkS,QO⟩:=eX (ht 0) q;rw[sn]at hsz l8;rw[ii Tt Ff];rw[Tu pT _];show A6 (pyNext (.ref I)>>=_) _ s;refine i2 (wpAny_pyNext_list_item (x:=c! b) hit hl DF hb ad h1 LH fJ);have OR:Jz h1 b rd:=OX.extBut yy K_;have fk:R5:=hl.extBut yy xy;have pF:h1.DictOfH tu S gc:=GY hm (yy S o qZ e) λ x hx o e=>Lq (jF x hx).2;have cI:AP h1 q.1 j1:=FE hk λ o e=>Lq QO;refine xN iF OR λ o ho hc n hd=>?_;show lB A6 (HY [On b] _>>=_);rw[qW FH NW FH wpAny_tryCatch];unfold Builtin.Dict.pairItems;refine AE (Tv (T:="tuple")) (af o ho hc) ?_;rw[gy (by first|decide|rfl|simp)];rw[rL (i2 (wpAny_seqItems ho hd LS)) lB A6 (HY [On j1,rd] (dictSet S aN j1 rd)),<-NW (wpAny_dictSet_heap (knd:=tu) (k:=q.1) (hsz:=t? Nat.le_of_add_right_le l8) (tupleKind_room_in1 hu) cI pF sC h2 mX dY)];(refine nD #[K4,acm (mb:=mb) hu hh xy qZ BW jO up (CE gc q.1 j1 rd) (ix+1) 0 _ kW (Ol=i+1+yx) O_ hsz ?_ sC j q' e o! x hx ?_ ?_ mX λ h' tk jo k=>?_];(.have z:=ajI gc q.1 j1 rd;exact UG l8 z);.obtain⟨b',iq,C5,B',NJ,cj,YQ,Rg⟩:=ht (j+1) q' LU;refine #[b',?_,C5,B',(NJ.extBut yy B').extBut CF C5,FE cj λ o e=>CF _ o YQ Lq Rg,YQ,Rg];rw[AW (i+1+j=i+(j+1)) zg];exact iq);((.rcases mem_storedH hx with⟨y,hy,_,e2⟩|⟨_,e2⟩;(.rw[e2];exact jF y hy);.rw[hY e2 #[hkS,QO]]);.exact LH.at λ o' e=>CF I o' (sg qZ) e);(.exact fk.extBut CF (sg BW));.exact hR h' tk jo λ c oc h3 h4 e=>k c oc h3 h4 (CF c oc h3 (yy c oc h4 e))
awS{l:ak}{ol:Obj}{mb:Array h?}{n:Y}{prs:m0}{Q:LI h?}(hu:A.units+2<cLine)(hh:Sn)(hl:NT l=Z ol)(hc:ol.cls=Mh)(hd:ol.dict=ac)(m_:ol.data=.seq mb n)(hsz:Ol=Op)(l8:Op<=uR)(ht:∀(j:Y)(q:jU×C?),PH prs (mb[j]?=lY) (AP uT q.1 j1))(h:∀h' tk,Qw Oi (EH [] prs)->(∀b o,KP->R9)->QM {s with heap:=h',toks:=tk}):wpAny SA A (call SZ [aN l]) Q E s:=by refine callType_codes (Q₁:=λ obj s₁=>obj=c! i3/\s₁={s with heap:=Tx I! []}) PySem.F.kt_called_dict (PySem.F.kt_typeCall_dict_1 _) PySem.F.entry_dict_init (kt_code_dict_new _ #[rfl,rfl]) ?_;rintro obj s₁⟨rfl,rfl⟩;have w9:Qw JS DictOfH []:=Heap.DictOfH.new uT;have k0:∀b o,KP->JS get? b=Z o:=λ b o e=>QV e;rw[wZ #[w9.typeIs,lB PySem.F.args_dict_init_2,?_] Builtin.«dict.__init__»,wZ (i2 ?_) Builtin.Dict.selfAndRest,rL AE wpAny_notOrdered_dict w9.typeIs ?_ lB AV (pure (i3,[On l])),rL LS lB AV (Ty "dict.__init__" i3 aN l [] .ac)];unfold Ty;refine AE (Tv (T:="list")) (af ol a7 k0 hl hc) ?_;rw[gy (by first|decide|rfl|simp)];rw[<-AE (aef a7 k0 hl hc m_ hd) hh ad h1 OQ cI,rB (show bh (ac:jT h?).isNone from rfl),<-FH wpAny_rule];(have fk:R5:=(Hn ol a7 cI a7 k0 hl hc n m_);have ny:i3<Tz:=by have e:JS get? i3=Z I! []:=Re O;exact CH xH cI);refine AE wpAny_pyIter_list fk ?_;have k2:∀b o,h1.get? b=Z o->(h1.push I4 (Df "list_iterator") fields [aN l,.fY 0 0]).get? b=Z o:=λ b o e=>QV e;have a8:RP l:=CH hl;have key:=acm (sl:=sl) (w:=w) (A:=A.in1) (R:=wants (λ r s₂=>r=.ac/\QM s₂) E) (S:=i3) (I:=Tz) (l:=l) (mb:=mb) (res:=Value.none) hu hh K! a8 ny (yB ny) (TA a8) prs 0 [] 0 0 {s with heap:=h1.push I4 (Df "list_iterator") fields [aN l,.fY 0 0],toks:=OQ} BN hsz HZ (by rw[TB,HZ];exact l8) (λ j q e=>by refine bL (ht j q e) λ b e1 e2 e3=>?_;have hb:RP b:=e2.lt;(have hk:j1<i3:=by refine lG e3 λ o _ _ g _=>?_;exact CH g);exact #[b,by rw[fX HZ e1],yB hb,K! hb ny,e2.keeps λ c o z=>a7 k2 a7 cI a7 k0 z,FE e3 λ o z=>a7 k2 a7 cI a7 k0 z,yB hk,K! hk ny]) BT MG xb _ Re O O (fk.at λ o e=>xH k2) (GY (GY w9 xH cI λ x hx=>MG) xH k2 λ x hx=>MG) (λ h' tk jo k=>#[rfl,h h' tk jo λ b o e=>k b o (yB (CH e)) (yB (Oq (CH e) ny)) a7 k2 a7 cI xH k0]);first|exact nD #[K4,key]|exact i2 (nD (nD #[K4,key]))
}
section z
def z:={
zh.1(aq lq:oT):oT:=Ok (λ gc kv=>uV gc kv.1 kv.2) aq
KT.merge{lq:oT}{rs:m0}(m:KT H lq rs):∀{aq:oT}{vs:m0},KT H aq vs->KT H (zh aq lq) (EH vs rs):=by induction m with|nil=>exact λ q=>q|@fN p q _ _ h t ih=>intro aq vs r0;(have e:KT H (uV aq p.1 p.2) (CE vs q.1 j1 rd):=by rw[<-h.1];exact r0.put p.1 h.2.1 h.2.2);exact ih e
abq:∀(lq aq:oT),bO (zh aq lq)<=ll+more.length|[],aq=>by show ll<=ll+0;exact Uw|p::r,aq=>by have h1:=abq r (uV aq p.1 p.2);have h2:=pW aq p.1 p.2;show bO (zh (uV aq p.1 p.2) r)<=_;rw[sn];exact adM h1 h2
}
section
variable{X:Cx}
def z:={
aJo{iG:c1 (ak×Obj)}{σ:St}(I:Inv X iG σ H s){ps:kf}{j_:c1 (jU×sB V)}(p:P3 p p ps):∃prs:m0,KT H RY prs/\Ms Op/\∀(j:Y)(q:jU×C?),PH prs (ps[j]?=Z b) ((TK x9 X.w).is uT q.1 j1):=by induction p with|nil=>exact #[[],iv,rfl,λ j q e=>by simp at e]|@fN p kt _ _ h t ih=>obtain⟨prs,r,hl,hp⟩:=ih;obtain⟨aF,rv,ht,_⟩:=I.tuple h.1;obtain⟨u,y,ei,ru,ry⟩:=vals2 rv;subst ei;cases ru;refine #[(kt.1,v6,y)::prs,.fN #[rfl,h.2,ry] r,by rw[sn,sn,hl],ad j q e];cases j with|uu=>have e':(kt.1,v6,y)=q:=ti e;subst e';exact #[p,rfl,ht,xg I.aR h.2]|succ j=>obtain⟨b,e1,e2,e3⟩:=hp j q LU;exact #[b,by simpa using e1,e2,e3]
aye(Oo:Gp)(hu:X.A.units+2<cLine):ki X SZ (λ xs H Q=>∃(a:ak)(ps:kf)(j_:c1 (jU×sB V)),xs=[aN a]/\aC X.K H a Ma/\P3 p p ps/\∀p,eZ (H p)->Q aN p sF p (.dT KM)):=by intro iG s σ H xs us Q I r q;obtain⟨a,ps,j_,ex,hq,hp,q⟩:=q;subst ex;obtain⟨u,eu,rx⟩:=vals1 r;subst eu;cases rx;obtain⟨aF,rv,pl,hz⟩:=I.list hq;have ei:=J5 rv;subst ei;rw[E3 hz];obtain⟨prs,rel,hl,ik⟩:=aJo I hp;obtain⟨o,n,ho,hc,hd,m_⟩:=pl;refine awS (prs:=prs) hu (I.ok.hd Oo) ho hc hd m_ GQ hl (by rw[fX hl hz]) sC j q' e λ h' tk jo k=>?_;(.obtain⟨b,e1,e2,e3⟩:=ik j q' e;exact #[b,by simp[e1],e2,e3]);. (have hm:(i3==sysModules)=false:=beq_eq_false_iff_ne.mpr (TA I.A5);have ap:bO KM<=uR:=by rw[An (abq _ [])];rw[TB,HZ,TD rel,hl];exact hz);obtain⟨q',es,ep,fA,h2,h3,h4,_,h5⟩:=jo;have hf:=I.aR.fresh (yb i3);refine #[aN i3,sF i3 (.dT KM),I.laid (t':=tk) k qR (show fu x9 X.w _ _ _ (.dT _)from#[ap,hm,EH [] prs,(KT.merge rel iv).keeps ad c ys ec,q',es,ep,fA,h2,h3,h4,h5]),rfl,q _ hf];rw[aV g8 (by rw[f' hf ec ec])];exact ec
}
section z
section _L
namespace _M
open g? hA hE _L
section
variable{X:Cx}{σ:eo}{H:Hp}{elt iter:d'}{lm:uz}{own:Ls}{y:bt}{bi pos':d9}
variable{α:Type}
def z:={
ach.1(X:Cx)(lm:uz)(elt:d'):TE:=λ a! H' Q=>∃P:w2,(∀(s:ln)(H0:Hp)(C:ak)(cl:Ay)(fp:kf),Ev JV a! H' elt P)/\vM (aj H' H2) (bc (P v) H2) (Q v H2)
aDW(s:ln)(H0:Hp)(C:ak)(cl:Ay)(fp:kf):PE JV elt (ach X lm elt):=λ iG s' a! H' Q I bx=>ah bx λ P h q=>(h s H0 C cl fp).1 H' GD Q q iG s' I
YS{β:Type}{R S:md α β}(h:∀x y,R x y->S x y){l:rX}{m:GZ}(p:fw R l m):fw S l m:=_L.Paired.DE p h
Dh(i:Y){R:rI}{ls:rX}{Po:w2}{xs:g7}(hc:Gp)(hN:NC)(ok:dh X.N Ht lm own)(ho:ig Ev iter Po)(hx:∀u H1,qh->Po u H1->∃a,u=c! a/\aC X.K H1 a xs)(hw:∀x,I6 Kt=Je)(hl:HS<uR)(rA:HS=ls.length)(he:∀(s:ln)(H0:Hp)(C:ak)(cl:Ay)(fp:kf)(k:Y)(x:V)(z:α)(H1:Hp),qh->xs[k]?=Z x->ls[k]?=Z z->Ev JV Kt H1 elt sw v (R H v z))(tj:∀H H' v x,kw->R H v x->R H' v x)(bw:∀(H:Hp)(a:ak)(xs ys:g7)(v:V)(x:α),k9 a xs->R H v x->R Li v x)(hg:∀(s:ln)(H:Hp)(C:ak)(cl:Ay)(fp:kf),PG Jh H cl C z1 (dF i))(hs:KK x iter x):mW (.N4 elt [#[z1,iter,[],0]] lm bi) (∃a ys,rT/\k9 a ys/\oO R ys ls):=by refine Cm (vL hc hN Hd ok hg Nf aDW hs) λ H1 s1 Q q=>?_;refine eT (Os s1) λ u H2 s2 hu=>?_;obtain⟨a,rfl,fk⟩:=hx u H2 SP l?;(have dZ:∀H3,aj H2 H3->aC X.K H3 a xs:=λ H3 s3=>by obtain⟨a',e,h⟩:=hx _ H3 ES (hu H3 s3);cases e;exact h);refine #[a,rfl,#[xs,fk],λ D hD=>Sl (FA (xs:=xs) (g:=dF i) (tt:=kh) (te:=ach X lm elt)) vs D (λ k H'=>∃ys,aj H2 H'/\H' D=et .lst ys/\fw (R H') ys (ls.take k)) #[[],cV hD,aX,iv] (λ k H' _ cy=>ah cy λ _ s3 _=>dZ H' s3) ?_ ?_];(.rintro k x H' hk⟨ys,s3,e,hP⟩;obtain⟨z,hz⟩:∃z,ls[k]?=Z z:=l7 (Hu (by have:=qx hk;exact Tn a6 rA));(refine #[hw x,_,λ s H0 C cl fp=>he s H0 C cl fp k x z H' ES hk hz,λ v H4 s4 hv=>#[ys,db e,?_,ys++[v],?_,aX,?_]];(.rw[TD hP,Ce,<-rA];exact HN lB Nat.min_le_right hl);.exact λ b o hb=>by rw[aV (c8 hb hD)];exact db gi hb);.rw[yD,hz];exact Tm (YS bn a b (b! bw _ _ db e (b! tj s4 h)) hP) (b! bw _ _ db e dM));.rintro H'⟨ys,s3,e,hP⟩;rw[rA,Ot]at hP;exact q _ H' Gg kx #[D,ys,rfl,db e,YS bn a b (b! tj s4 h) hP]
}
section z
section _M
namespace _P
open g? hA hE _L _M
variable{P:gV}{w:gX}{K:h!}{mg:hV}{de:ie}{c:Cs}
variable{H:Hp}{ys:g7}
def z:={
KY{κ:Type} [DecidableEq κ]:∀(lq gc:c1 (κ×V)),(∀kv∈lq,eZ (b8 gc kv.1))->(more.map (·.1)).CJ->Ok (λ gc kv=>uV gc kv.1 kv.2) gc=gc++lq|[],gc,_,_=>ug|p::r,gc,h,hn=>by have h0:=h p G9;rw[uW,List.nodup_cons]at hn;rw[List.foldl_cons,DD _ h0,KY r _ o! kv hk hn.2,H9];(.rfl);.rw[PK _ _ _ _ h0,b? g8 (hn.1 (by rw[<-e];exact CK hk))];exact h kv GQ hk
DB.1(H:Hp)(v:V)(x:vB):Prop:=∃b y,v=c! b/\oH b [vN rK,y]/\cT H y xD
EA.1(H:Hp)(v:V)(x:w1):Prop:=∃b k y,v=c! b/\oH b [aN k,y]/\fy k wi x.2.key.map vN/\cT H y xD
aMe:Up DB:=Ni s bx Gk bx b (aE b y e uc (b! gG s t))
aqu:Up EA:=Ni s cy (hX cy λ b k y e h g t=>(b9 b k y e uc n0 g (b! gG s t)))
tup_ne{a b:ak}{xs zs:g7}(ha:k9 a xs)(hb:oH b zs):Li b=et .tup zs:=by rw[aV g8 (by rw[f' hb ha ha])];exact hb
alB:qV DB:=λ H a xs ys v x ha dB=>Gk dB b (aE b y e MD h E')
aD0:qV EA:=λ H a xs ys v x ha eG=>hX eG λ b k y e h g t=>(b9 b k y e MD h MD g E')
aJ1{l:tC}(h:oO DB ys l):∃(ps:kf)(aq:c1 (Key×V)),ys=Ma/\fw (λ p(kv:Key×V)=>aJ K H p [kV kv.1,kv.2]) ps aq/\fw (λ(kv:Key×V)(r:nI)=>kv.1=Sum.inl dt i!/\cT H kv.2 uX) aq F!/\aq.map (·.1)=se gq (kN rK):=by induction h with|nil=>exact eX (i5 ([]) ([]) O iv) iv|@fN a x _ _ q r ih=>obtain⟨b,y,e,h,t⟩:=q;refine fW ih λ ps aq h1 h2 h3 h4=>?_;exact(i5 (b::ps) ((kN rK,y)::aq) (by rw[e,h1];rfl) (.fN (Cl h) h2) (.fN #[rfl,t] h3) (by rw[uW,h4];rfl))
aGr{l:tB}(h:oO EA ys l):∃(ps:kf)(j_:c1 (jU×sB V)),ys=Ma/\fw (λ p(kt:jU×sB V)=>aJ K H p [aN v6,kt.2.2]/\fy v6 wi nn kt.1 kV) ps j_/\fw (λ(kv:jU×V)(r:yw)=>kv.1=uC r.key/\cT H kv.2 uX) RY F!/\(j_.map gq (x.1,ey.2)).map (·.1)=se gq M5:=by induction h with|nil=>exact eX (i5 ([]) ([]) O iv) iv|@fN a x _ _ q r ih=>obtain⟨b,k,y,e,h,g,t⟩:=q;refine fW ih λ ps j_ h1 h2 h3 h4=>?_;exact #[b::ps,(M5,k,y)::j_,by rw[e,h1];rfl,.fN #[Cl h,by rw[fX wG g]] h2,.fN #[rfl,t] h3,by rw[uW,uW,h4];rfl]
aev{α β:Type}{f:α->β}(hf:∀a b,f a=f b->a=b){l:rX}(h:l.Nodup):(se f).CJ:=by rw[Rx];rw[H_];exact h.imp λ o1 e=>o1 xH hf
aJD(A:a?):js "lookup" (RQ cY (V×tC) [a.1] ci (eD jM H bm cd/\zv/\G8 Br gq rK) dL (wD H v Br ((·.2)))):=oo A.lookup IC λ a e H hr hp U hU=>by rw[wH v l];obtain⟨⟨q,xs,hv,hq,hp⟩,ap,qi⟩:=hp;rw[QF hv qi rA];have ee:dh ["records","record"] (aw yE) _ [("record",1)]:=q7 (nB Eh yE 0);rw[gk,<-bg (Gn lw aBN A.g.ad6 O B8 (Rb (Dh 1) DB rA (λ s' dG C cl fp k x z H1 s1 hk hz=>?_) aMe alB sY) (λ vs H1 s1 hv Q q'=>?_))];(.rw[<-ah (pf hp hz) ad x' d8 hR,cx hk d8 d8];(rw[ju hR (λ ax y aS yL hy=>?_) aS]);have AR:=gY yL;refine(r4 iT [vN A?,y] d1 w? eR Af GE w? eR Ew GE).imp nz H2 s2 h;refine ah h ad b e1 e2;exact(aE b y e1 e2 (b! gG (ga s2) hy)));. (refine aO dM λ v1 _ aU a9 bu=>aO a9 λ d ys bW hd hP=>?_;subst aU bu bW);refine fW (aJ1 (K:=K) hP) λ ps aq e1 e2 e3 e4=>?_;refine #[d,ps,aq,rfl,LD hd e1,e2,λ p oW=>q' _ _ Nq wm s3 #[p,aq,rfl,gi ?_,Qr h h e3]];rw[aX];congr 2;exact KY aq [] (λ _ _=>rfl) (by rw[e4,show(λ x:vB=>kN rK)=kN∘(λ x=>rK)from rfl,<-nC];exact aev vu GK qi)
aAR(A:a?):js "lookup" (RQ cY (V×tB) [a.1] ci (eD k_ H bm cd/\zv/\G8 Br gq zM) dL (wx H v Br ((·.2)))):=oo A.lookup IC λ a e H hr hp U hU=>by rw[wH v l];obtain⟨⟨q,xs,hv,hq,hp⟩,ap,qi⟩:=hp;rw[QF hv qi rA];have ee:dh ["records","record"] (aw yE) _ [("record",1)]:=q7 (nB Eh yE 0);have aNl:=AU hr;rw[gk,<-bg (Gn (aye O (HN (Nat.add_le_add_left kO (2<=64) _) (AU hr))) A.g.ad6 O B8 (Rb (Dh 1) EA rA (λ s' dG C cl fp k x z H1 s1 hk hz=>?_) aqu aD0 sY) (λ vs H1 s1 hv Q q'=>?_))];(.rw[<-ah (pf hp hz) ad x' d8 hR,cx hk d8 d8];(rw[dl (hX hR λ ax y0 y cJ yL dw hy=>ah dw ad ky tf aqP) cJ]);subst tf;have AR:=gY yL;refine(r4 iT [aN ky,y] d1 w? eR Af GE w? eR Ew GE).imp nz H2 s2 h;refine ah h ad b e1 e2;exact(b9 b ky y e1 e2 iL gY aqP (b! gG (ga s2) hy)));. (refine aO dM λ v1 _ d7 fM iS=>aO fM λ d ys jC hd hP=>?_;subst d7 iS jC);refine fW (aGr (K:=K) hP) λ ps j_ e1 e2 e3 e4=>?_;refine(b9 d ps j_ O LD hd e1 e2 (λ p oW=>q' _ _ Nq wm s3 tr p gi ?_ Qr h h e3));rw[aX];congr 2;exact KY _ [] (λ _ _=>rfl) (by rw[e4,show(λ x:w1=>M5)=uC∘(λ x=>zM)from rfl,<-nC];exact aev vu GX qi)
oI.1(B:so)(uZ:Mc)(l:al):Y:=bO (rows.filter λ q=>q.to==l&&!Oz B 15 q.scalar)
RJ(B:so)(uZ:Mc)(r:nI)(l:al):oI B (uZ++[r]) l=oI B uZ l+if(bh (uX==l&&!Oz B 15 i!))then 1 else 0:=by unfold oI;rw[List.filter_append,uP,List.filter_cons];split<;>rfl
aeh.1(B:so)(uZ:Mc)(aq:oT):Prop:=∀l,ua uC l=if oI B uZ l=0 then ac else gx (oI B uZ l)
aDl(A:a?):sT 4 i? "composing_counts" (RQ cY sB bR [aN bm] ci (jj i? H bm cd/\(cd).ms.length<=8192) dL (∃co aq,v=c! co/\oL co dT/\aeh sy cd (CL 0 (cd).ms) aq)):=LB A.bj.aDO aaA dV b1 ck λ a f aK A' em s H0 H E hr hp=>by rw[wH b d,Fp hR ap];have aQ:jj i? H b d:=hR;rw[KH ap aaA.nd];have hU:=jX hr;rw[wO eY dz Bu adx qP Hd Bs (cH (iw dy (aP (uw hU pe aI aI O) dg) dg)) ji pe n' p];intro r fG;have fj:=CM (ga (cV (o:=.dT []) fG));refine eT (Jr Qi ((b,d),0) az kF fj.cw d1 d3 OB d3 A.g.Ep O eR #[H! s2,zW (0<15)]) λ lv H2 s2 hlv=>?_;(rw[ju hlv.now (λ q xs aS hq ik=>?_) aS]);dsimp only at ik;(have aJI:FJ:=by rw[iO ik];exact hG Ea ap);have Xa:(SJ).map (·.2)=s9:=pL 0 eq;have oF:H2 r=et .dT []:=iL aX;have t2:my H2:=(cV fG).jP s2;refine c0 q l7 ez hq (uD (xs:=xs) w' (∃(x2:iY)(aq:oT),a!=[lY,rj,x2]/\rU/\H' q=et .lst xs/\fw (jM H') xs SJ/\H' r=et .dT aq/\ll<=k/\nV aeh zy s9 aq) #[ac,[],rfl,t2,hq,ik,oF,qR,λ l=>rfl] Bw k bx (fW bx λ _ _ _ _ hq _=>ez hq) ?_ ?_);(.rintro k x a! H' hk⟨x2,aq,rfl,sH,fA,BD,gA,c_,hC⟩;(refine ah (Ar BD hk) λ z hz aU=>i9 aU λ ax y a9 yL ay bu cP=>?_;subst a9 bu);((have rP:k<8192:=by have:=qx hk;exact TG a6 aJI);have fT:s9[k]?=Z z.2:=by rw[<-Xa,yv,hz];rfl);have JP:=CM (ga sH);have aLV:=JP.dc.row 0 z.2 ab (by show z.2∈AL nK eq 0 [];rw[RB];rw[QT fT]);have bJ:tK A?:=aLV.sc;(have htk:(s9).uy kA=(CL 0 eq).uy k++[z.2]:=by rw[yD,fT];rfl);refine ce nw (Du zO ((b,d),15,A?) az kF JP.cw d1 d3 A.g.Vg zn a5 fx Af gi yL O fx #[JP.later s3,bJ]) J!;(.rw[jn j3 (Fz A?=false)];have yM:=gi gA;have aaq:=gi yL;have Vv:=gi cP;refine DZ (Ej+1) q9 (aW bV (i:=rZ Ej) (j:=1) (R6 (P:=iN v (v=vN Ej)) hU au zn a5 j7 Ew db aaq ai (λ u H4 s4 hu=>(af r l? (.fB #[aq,.f? MN]))) (λ a y0 z0 H4 s4 h1 h2 h3=>?_)) ai) kx GL (wN ay zn a5 xx Ew o_ db aaq cA H5 s5);(.have e1:=h1.now;have e2:=h2.now;have e3:=h3.now;cases e1;subst e2 e3;rw[iM (Go dU.t vV MN (by rw[hY wG db Vv])) mn];rw[hC vV];by_cases e:Ej=0;(.rw[g! e,e];rfl);.rw[gQ e];rfl);.have mh:=a7 s5 MN;have J0:=l_ (Cv s5);refine tr r (Go i_.t vV mh (by rw[hY wG o_ db Vv]) (i8 (by exact asx c_ rP))) ?_;(refine #[_,_,rfl,ad b' o' hb,?_,gw bn v x ?_ BD,aX,hG a7 pW _ dn aaI c_,xz l];(.rw[aV (c8 hb fG)];exact a7 J0 kS sH);.rw[aV g8 (by rw[f' fA gA gA])];exact a7 J0 fA);(.refine i9 (b! j4 J0 h) λ a1 y1 e1 e2 a2 e3 e4=>?_;exact(wV a1 y1 e1 (by rw[aV g8 (by rw[f' e2 mh mh])];exact e2) a2 e3 (by rw[aV g8 (by rw[f' e4 mh mh])];exact e4)));.rw[kr,htk,RJ,j3];by_cases e:l=vV;(.subst e;rw[n1,show Rt (z.2.to==vV)=1 by simp,re aBe]);.rw[b? gt (e (GX h)),hC l,show Rt (z.2.to==l)=0 from b? gt (by simp at h;exact e h.symm),NU]);.rw[jn j3 bh (Fz A?),<-#[_,aq,rfl,uG s3,gi fA,gw bn v x (b! j4 s3 h) BD,gi gA,t? TI c_,xz l]];rw[htk,RJ,j3,Hx,Bool.and_false,show(if false=c2 then 1 else 0)=0 from rfl,NU];exact hC l);.rintro a! H'⟨x2,aq,rfl,sH,fA,BD,gA,c_,hC⟩;rw[N3 (by rw[<-Xa,el,iO BD];rw[KZ])]at hC;exact ce O (p _ _ sH kx (aE r aq O db gA hC))
}
section _P
namespace _M
open g? hA hE _L
def z:={
al6{X:Cx}{σ:eo}{H:Hp}{bi:d9}{es:kl}{PL:g7->Hp->Prop}(ha:tT fC PL)(hl:∀vs H,G?->Sb):mW tg es bi (∃a vs,rT/\k9 a vs/\G?):=Rz mN vs H2
}
section _M
namespace _P
open g? hA hE _L _M
variable{P:gV}{w:gX}{K:h!}{mg:hV}{de:ie}{c:Cs}
variable{α:Type}{m:al}
def z:={
tI.1(R:rI):Prop:=∀(H:Hp)(z C dx:ak)(fs:lb)(o:HO)(v:V)(x:α),E4->R H v x->R xc v x
lR{H:Hp}{z C dx a:ak}{fs:lb}{o u:HO}(hz:E4)(ha:fy a u)(hu:∀C dx fs,u≠zb C dx fs):xc a=Z u:=by rw[aV g8 (by subst e;rw[ha]at hz;exact hu _ _ _ ti hz)];exact ha
BI:tI cT:=λ H z C dx fs o v x hz bx=>o3 bx a ub zN
Z5:tI mQ:=λ H z C dx fs o v x hz dB=>o3 dB a ub zN
TV:tI jM:=λ H z C dx fs o v x hz eG=>Gk eG a vR y zN DR t
aed:tI k_:=λ H z C dx fs o v x hz kD=>hX kD λ a y k e h t u=>(b9 a y k e zN DR t DR u)
gM{R:rI}(h:tI R):tI (eD R):=λ H z C dx fs o v x hz lH=>aO lH λ a xs e h1 p=>vR xs sM hz h1 _ zI q (b! b! h hz q) p
zG:tI wD:=λ H z C dx fs o v x hz oi=>P8 oi aq aq
A_:tI wx:=λ H z C dx fs o v x hz vn=>P8 vn aq aq
aol:qV wD:=λ H a xs ys v x ha C9=>aO C9 λ b aq e h p=>(aE b aq e (by rw[aV g8 (by rw[f' h ha ha])];exact h) zI q #[q.1,Dn q.2] p)
awf:qV wx:=λ H a xs ys v x ha AM=>aO AM λ b aq e h p=>(aE b aq e (by rw[aV g8 (by rw[f' h ha ha])];exact h) zI q #[q.1,Dn q.2] p)
uU.2:=Es
af2.1(H:Hp)(v:V)(r:uU):Prop:=∃q v0 v1 v2 v3,nu/\(H q=et .lst Bz\/(oH q Bz))/\c? v0 r.1/\c? v1 o?/\c? v2 xw/\c? v3 xv
}
structure AY(r:uU)(d:bR):Prop where
 le:bO r.1+bO o?+bO xw+bO xv<=8192
 ps:na ou r.1 kC
 ms:na (HA (jw r.2.1+1) 0) o? eq
 ss:na (yl (jw r.2.2.1+1) 0) xw hI
 ns:H?=(bO xv)/4
def z:={
AY.dc{r:uU}{d:bR}(h:AY r d):nf:=_B.alF h.ps h.ms h.ss
acs{ms:tC}(h:na Dq m ms):Fc:=by(have key:∀(z a i:Y)(bd:jp)(ft:tC),qY<=z->Fe->xV->Fc:=λ z=>by induction z with|uu=>rw[GS a i hM,Ek GO hz hi]|succ z ih=>rw[GS a i hM];by_cases ha:oY;(. (have h0:gH px=0:=by by_cases e:gH px=0;(.exact e);.have:=hM.fault ha e;rw[vH h]);exact b! ih dn apQ hz (HT ha h0) dn Zw hi);.rw[Ek Cy ha hi]);exact QH [] Er L'
avE{ms:tB}(h:na Q? m ms):Fc:=by(have key:∀(z a i:Y)(bd:jp)(ft:tB),qY<=z->Fj->xV->Fc:=λ z=>by induction z with|uu=>rw[GS a i hM,Ek GO hz hi]|succ z ih=>rw[GS a i hM];by_cases ha:oY;(. (have h0:gH py=0:=by by_cases e:gH py=0;(.exact e);.have:=hM.fault ha e;rw[vH h]);refine b! ih ?_ (HT ha h0) ?_;(.unfold pu;exact aEb hz);.unfold pu;exact auG hi);.rw[Ek Cy ha hi]);exact QH [] Er L_
afn:∀l:al,Ch l l=false|[]=>rfl|x::l=>by show(dH (x<x)||(x==x&&Ch l l))=false;rw[afn l];simp
N_(d:bR):OC=(BA eq).map λ l=>F!:=by rw[Qo nK eq eq]
NN(d:bR):OD=(BX hI).map λ l=>F!:=by rw[Qo yI hI hI]
ah5{d:bR}(F:nf){k:Y}(hk:xJ):G8 ro eq gq rK:=by rw[show(λ x:vB=>rK)=(λ r:nI=>i!)∘(·.2)from rfl,<-nC,pL];have:=F.agg k hk;rw[t7 (show kz u3=CL k eq from wK eq k nK)];unfold Ox;rw[H_];exact this.imp λ h e=>by exact ahu h e
aMk{d:bR}(F:nf){k:Y}(hk:k<3):G8 ro hI gq zM:=by rw[show(λ x:w1=>zM)=(λ r:yw=>r.key)∘(·.2)from rfl,<-nC,pL];have:=F.aJh k hk;rw[t7 (show kz Ia=CL k hI from wK hI k yI)];unfold Ox;rw[H_];exact this.imp λ h e=>by rw[e,afn]at h;cases h
}
section _P
namespace _M
open g? hA hE _L
def z:={
ab4{X:Cx}{σ:eo}{H:Hp}{k:Y}{m:bt}{o:d'}{bi pQ:d9}{C b:ak}{α:Type}{c3:lc}{cr:j?}{e?:k!}{pl:B?}(c:dQ X.K C)(F:fb x9 X.w X.K pj X.base k C m Mg)(hr:xB)(a:α)(ho:lT o b)(hi:tO (∃dx fs,H1 b=Z Dp/\FF))(hv:c3 a=[aN b])(hp:tO G5 a)(ht:DS lE I8 m [] EN ov m pl []):ig Ev lE I8 m [] S3:=by rw[Mk f hb G,<-Cm (ae1 aI c hm G hr hb iv ni ht) v5 H1 Q (ma (Os s1) cA H2 s2),<-df (hi H2 (ga s2)) λ dx fs h1 h2=>?_,rL (b9 b dx fs O h1 h2 ?_) (yP Mg [sd b] H2 Q E0),(af S3 xb a hv.symm (hp H2 (ga s2)) G0 s4 hp (q v H4 (kB s4) hp))]
}
section _M
namespace _P
open g? hA hE _L _M
variable{P:gV}{w:gX}{K:h!}{mg:hV}{de:ie}{c:Cs}
variable{H H':Hp}{o:HO}{p1 p2 p0:V}{pa:ak}
def z:={
br.1(H:Hp)(k:ak):Hp:=λ a=>if a=k then ac else H a
eh(H:Hp)(k:ak):aj B9 H:=λ a o h=>by rw[np br];split at h;(.cases h);.exact h
e7{k:ak}(s:kw):mw lz k H' k:=λ a o h=>by rw[tN h];split at h;(.cases h);.rw[xa,gQ e,uc]
KQ{k a:ak}{u:HO}(h:fy a o)(hk:fy k u)(be:o≠u):br H k a=Z o:=by rw[ko,gQ g8 (by subst e;rw[h]at hk;exact be (To hk)),h]
}
structure vP(H:Hp)(pa:ak)(d:bR)(p0 p1 p2:V):Prop where
 at_:k9 pa [p0,p1,p2]
 h0:eD (eD mQ) H p0 (M8 kC)
 h1:eD (eD jM) H p1 (BA eq)
 h2:eD (eD k_) H p2 (BX hI)
def z:={
vP.later{d:bR}(h:B2 H d p0)(s:kw):B2 H' d p0:=#[n0 uQ,nj (gj mB) s h.h0,nj (gj j4) s h.h1,nj (gj mU) s h.h2]
vP.ins{d:bR}{z C dx:ak}{fs:lb}(h:B2 H d p0)(hz:E4):B2 xc d p0:=#[sM hz uQ _,rb (gM Z5) _ hz h.h0,rb (gM TV) _ hz h.h1,rb (gM aed) _ hz h.h2]
Vh(m:bt)(hm:m∈qH)(a b cc dd:V):eZ ((LF a (K8 b I5 cc dd [])).CN m):=by(have:∀m∈qH,m≠"name_count"/\m≠"sequence_rows"/\m≠"map_rows"/\m≠"parts":=by rw[vc]);refine dm (a6 m hm) λ h1 h2 h3 h4=>?_;rw[cX,b? h1,cX,b? h2,cX,b? h3,cX,b? h4];rfl
aIC(m:bt)(hm:m∈qH)(x y a b cc dd:V):eZ ((Sc x (So y (LF a (K8 b I5 cc dd [])))).CN m):=by(have:∀m∈qH,m≠"known_by_k"/\m≠"composing":=by rw[vc]);obtain⟨h1,h2⟩:=a6 m hm;rw[cX,b? h1,cX,b? h2];exact Vh m hm _ _ _ _
WZ(S:ke)(A:a?):mi mj w 5 "Book" i? cY (V×uU×bR) [a.1] ci ((∀x,S x->∃o,fy x o)/\af2 H bm bT/\AY bT ch) dL (∃q kk,nu/\¬S kk/\sE lz kk q ch/\H kk=et .dK []):=by refine CG A.Book A.bj.init aaT dV b2 ck λ a f aK A' em s E z dx H1 hr hz om be hp=>?_;obtain⟨rv,⟨rp,rm,rs,rn⟩,d⟩:=a;rw[jm bX λ hSS aS J=>zK aS λ q v0 v1 v2 v3 hv hq k0 k1 k2 k3=>?_];have F:nf:=J.dc;have hle:=J.le;have jps:=J.ps;have Gz:=J.ms;have Nt:=J.ss;have jns:=J.ns;dsimp only at hv hq k0 k1 k2 k3 hle jps Gz Nt jns⊢;rw[p_ hv aaT.nd];(have row:∀{X:Cx}{H2:Hp}{σ:eo}{o:d'}{bi p2:d9}{j:Y}(i:Y)(v:V),my H2->Bz[i]?=Z v->w_ H2 o aN q->w_ H2 Dw (.yp iX dt i j p2) bi v:=λ{X}{H2}{σ}{o}{bi}{p2}{j}i v s1 hi ho=>by rcases hq with hq|hq;(.exact cO ho ai fx ce rk nW Nr);.exact bU ho ai fx ce jY gi nW Nr);have b1:dh ["self","rows","records"] (aw yd) _ [("records",2)]:=q7 (nB xE yd 1);have b2:dh ["self","rows","records"] (aw yd) _ [("records",2)]:=q7 (nB xE yd 2);(rw[iM eY tL tL eY tL tL eY tL (ij sP A2 O) dg o! D n];have s0:=B4 (o:=.own z) (o':=nY zb dx []) hz om;have mc:tQ H' Hp (rU->my (upd H' z o)):=λ s' b' o' hb=>by rw[aV (c8 hb hz)];exact kS s');have lp:∀{f:bt}{v:V}{fs:lb}{m:Y},fs.length<=m->bO (bK f v fs)<=m+1:=λ h=>hG a7 DA _ (Nat.succ_le_succ h);have cl:=sp;obtain⟨o4,ops⟩:=El jps;rw[Kj (qT (fs:=[]) cl OE ab (iP ld (al6 (cu (aT (aIV A) dp (v0,rp) eC (row 0 v0 s0 O au) eR #[Ku k0,q! CP Ov hle,kC,jps]) (cu (aT (ak1 A) dp (v1,rm,eq) eC (row 1 v1 s0 O au) eR #[Ku k1,q! yK E_ hle,Gz]) B8 (aT (aLX A) dp (v2,rs,hI) eC (row 2 v2 s0 O au) eR #[Ku k2,q! yO NF hle,Nt]))) bn vs H (by(refine uI h λ _ _ aU _ _ _ a9 _ _ _ bu _ bW=>?_;subst aU a9 bu bW);exact(ab:3<=100))) P' (∃pa p0 p1 p2,v=c! pa/\B2 H d p0) nz H2 s2 h)) H2 fT];(. (refine AD h λ pa _ e1 e2 p0 _ cJ g0 p1 _ dw g1 p2 _ d7 g2 fM=>?_;subst cJ dw d7 fM);rw[<-#[pa,p0,p1,p2,e1,e2,?_,g1,g2],fX ops g0]);(rw[ww F7 (λ pa p0 p1 p2 iS DN=>?_) iS]);have l1:=mz (lp (f:="parts")) pa (fs:=[]) (m:=0) ab;have t2:=lS mc (Da aN pa []) (OG s2);have JY:=lS DN.ins (Da aN pa []) fT;(have rS:(Da aN pa []).CN LQ=cv pa:=by rw[ow]);(rw[ju JY.h1 (λ a1 pH jC oG yh=>?_) jC]);refine qT cl A.bj.Lw Ab l1 (ku (Dh 2 (R:=wD) (ls:=OC) O nd b1 (mz cO a1 (cQ az fx (b9 _ dx _ wh cl OE rS)) d3 OB fx qe rk JY.at_ (cg (j:=1)))) n3 H3 s3 nX a1 rk oG ck (λ s' dG C cl fp k x zz H3 s3 hk vZ=>?_) Cw aol sY) (λ v H3 s3 hv uK=>?_) aX O;(((.rw[iO yh];rw[z8 pG,i8 ab]);.rw[iO yh,N_,el]);. (have z3:xJ:=by rw[P6 vZ N_ a6]);(rw[<-ah (Ar yh hk) ad l' dZ hL,kc q8 z3 dZ dZ];have NK:zz=jE F9 ((·.2)):=by rw[Qh N_ z3 vZ]);rw[hY NK (aT (aJD A) dp (x,F9) eC a5 j7 #[nj j4 w3 hL,Rv acs Gz Qy E_,ah5 F z3])]);(rw[ju dM (λ am ym ml tR pm=>?_) ml]);have hDm:eD wD H3 aN am OC:=(aE am ym O tR pm);have l2:=mz (lp (f:="map_rows")) am l1;have t3:=lS mc z! (t2.trans s3);have Lp:=lS (JY.later s3).ins z! uK;have atx:=ox zG z! _ uK hDm;(have aLM:(z!).CN LQ=cv pa:=by rw[ow]);(rw[ju Lp.h2 (λ a2 pJ kK yT yJ=>?_) kK]);refine qT cl A.bj.MW Ab l2 (ku (Dh 2 (R:=wx) (ls:=OD) O nd b2 (mz cO a2 (cQ az fx (b9 _ dx _ wh cl OE aLM)) d3 A.g.Xk fx qe rk Lp.at_ I' j)) n3 H3 s3 nX a2 rk yT ck (λ s' dG C cl fp k x zz H3 s3 hk vZ=>?_) Hq awf sY) (λ v H4 s4 hv oK=>?_) aX O;(((.rw[iO yJ];rw[z8 pG,i8 ab]);.rw[iO yJ,NN,el]);. (have j9:k<3:=by rw[P6 vZ NN a6]);(rw[<-ah (Ar yJ hk) ad l' dZ hL,kc q8 j9 dZ dZ];have NK:zz=jE F_ ((·.2)):=by rw[Qh NN j9 vZ]);rw[hY NK (aT (aAR A) dp (x,F_) eC a5 j7 #[nj mU w3 hL,Rv avE Nt kW (yO<=8192) NF hle,aMk F j9])]);(rw[ju dM (λ as ys jx has pS=>?_) jx]);have hDs:eD wx H4 aN as OD:=(aE as ys O has pS);have l3:=mz (lp (f:="sequence_rows")) as l2;generalize zE:K8 aN as z!=f3 at l3⊢;have t4:=lS mc f3 (N! s4);have hP5:=lS (Lp.later s4).ins f3 oK;have aHq:=ox zG f3 _ oK nj Cw s4 atx;have anD:=ox A_ f3 _ oK hDs;(rw[dl (ah k3 ad q3 kd i7) kd]);refine qT cl A.bj.Uh Ab l3 (uf y (vN H?) AQ p! a7 t4 i7 (row 3 aN q3 t4 O au) (r? l! (by rw[fX jns ao1]))) (λ v H5 s5 hv ND=>?_) aX O;cases dM;have l4:=im (lp (f:="name_count")) (vN H?) l3;generalize wA:LF (vN H?) f3=f4 at l4⊢;have t5:=lS mc f4 (t4.trans s5);have BR:=lS (hP5.later s5).ins f4 ND;have aq1:=ox zG f4 _ ND nj Cw s5 aHq;have aus:=ox A_ f4 _ ND nj Hq s5 anD;have wX:jj i? (upd H5 z p? f4) z d:=#[F,dx,f4,pa,p0,_,_,aX,by rw[<-wA,<-zE];rw[ow],cA m hm,BR.at_,BR.h0,BR.h1,BR.h2];(.refine qT cl A.bj.RF Ab l4 (ab4 cl (aDl A) hr (z,d) az kF wX.cw O (λ H6 s6=>#[wX.later s6,hG (acs Gz) Qy E_])) (λ v H6 s6 hv zr=>?_) aX O;(rw[ju dM (λ co aq kj Np hC=>?_) kj]);dsimp only at hC;have l5:=mz (lp (f:="composing")) co l4;generalize zU:So aN co f4=f5 at l5⊢;have t6:=lS mc f5 (t5.trans s6);have S5:=lS (BR.later s6).ins f5 zr;have Yq:=ox zG f5 _ zr nj Cw s6 aq1;have ac1:=ox A_ f5 _ zr nj Hq s6 aus;have afg:Km co=et .dT aq:=sM zr Np _;have uY:Km z=Z p? f5:=aX;generalize Km=G at t6 S5 Yq ac1 afg uY⊢;intro kk jZ;(have IY:z≠kk:=λ e=>by rw[f' uY jZ jZ]);refine #[_,rfl,z,i?,dx,f5,rfl,by rw[aV IY];exact uY,cl,A.bj.BY,Ab l5,?_];generalize vo:Sc aN kk f5=f6;have Gy:=lS S5.ins f6 uY;have anb:=ox zG f6 _ uY Yq;have aFa:=ox A_ f6 _ uY ac1;(have ar3:(upd G z p? f6) co=et .dT aq:=sM uY afg _;have Zn:∀m∈qH,eZ (f6.lookup m):=λ m hm=>by rw[<-vo,<-zU,<-wA,<-zE];exact b! (aIC m hm _ _));(have Hw:sE (upd G z p? f6) z d:=by(refine #[#[F,dx,f6,pa,p0,_,_,aX,?_,Zn,Gy.at_,Gy.h0,Gy.h1,Gy.h2],dx,f6,_,_,co,aq,aX,?_,?_,?_,?_,?_,Zn,anb,aFa,ar3,cA l hl];(.rw[<-vo,<-zU,<-wA,<-zE];rw[ow]);.rw[<-vo,<-zU,<-wA,<-zE];rw[ow]);(((.rw[<-vo,<-zU,<-wA,<-zE];rw[ow]);.rw[<-vo,<-zU,<-wA];rw[ow]);(.rw[<-vo,<-zU];rw[ow]);.rw[<-vo];rw[ow]);.have h1:=hC l;(have h2:nV oI s9 l=gZ sO l:=by unfold oI sO TM;rw[show u3 0 []=s9 from RB]);rw[h2,wF Nat.ne_zero_of_lt hl]at h1;exact h1);refine n _ _ (mc (λ b' o' hb=>by rw[aV (c8 kS t6 jZ)];exact kS t6)) λ H8 s8=>(i5 z kk O (λ hS=>(by obtain⟨o,ho⟩:=hSS kk hS;rw[kc a7 t6 ho jZ jZ])) (Hw.later sC b' o' hb) ud (by rw[aV (sg IY)];exact aX));(have DO:b'≠kk:=λ e=>by subst e;rw[aV (sg IY),jZ]at hb;cases hb);rw[ko,gQ DO,<-ud ?_];by_cases e:b'=z;(.subst e;rw[aX]at hb⊢;exact hb);.rw[aV e]at hb⊢;rw[aV DO];exact hb);.rw[<-wA,<-zE];exact Vh m hm _ _ _ _
}
section _P
namespace _M
open g? hA hE _L
def z:={
Ec.1{α:Type}(c3:lc)(cr:j?)(gd:lV)(e?:k!):Sp:=λ vs H Q _=>∃a,vs=DI/\cr a H/\vM Dm Dk (Q v H2)
}
section
variable{α:Type}
def z:={
ng.1(P:gV)(w:gX)(K:h!)(mg:hV)(de:ie)(k:Y)(x:bt)(c3:lc)(cr:j?)(gd:lV)(e?:k!):Prop:=∃f fd ps,mg x=cv f/\bh RV aN f/\Binds K fd ps []/\EM eI k f
tY.1(P:gV)(w:gX)(K:h!)(mg:hV)(de:ie)(k:Y)(C:ak)(m:bt)(c3:lc)(cr:j?)(gd:lV)(e?:k!):Prop:=∃f fd ps,mL K C m f/\Binds K fd ps []/\EM eI k f
Om.1(P:gV)(w:gX)(K:h!)(mg:hV)(de:ie)(k:Y)(f:ak)(c3:lc)(cr:j?)(gd:lV)(e?:k!):Prop:=∃fd ps,bh RV aN f/\Binds K fd ps []/\EM eI k f
}
variable{P:gV}{w:gX}{K:h!}{mg:hV}{de:ie}{x pR:bt}{st:Stmt}{f:ak}{fd:OH}{N ps:MV}{k:Y}{c3:lc}{cr:j?}{gd:lV}{e?:k!}
def z:={
ng.at_(h:t9 tA ng x c3):∃f,mg x=cv f/\t9 tA Om f c3:=by refine hX h λ f fd ps h1 h2 h3 h4=>?_;exact(vD f h1 fd ps h2 h3 h4)
XH(F:gh K x pR st f fd)(S:aD N ps vy)(ap:∀a,Lb)(pi:∀(a:α)(aK:h?)(A:HX)(em:MX)(s:ln)(H:Hp)(E:XK),Kd pR f aK):EM eI kA f:=F.ok S (λ vs H Q E bx=>ah bx λ a e _=>by rw[e];exact ap a) λ aK A em s H vs Q E hr cy=>bL cy λ a e hp q=>by subst e;refine ah (pi a aK A em s H E hr hp) ad t ht hq;exact(af t ht (hq _ (λ v H2 h1 h2=>q v H2 h1 h2) (λ a! H2 h1 h2=>q .cB H2 h1 h2)))
vf(h:∃f fd,mg x=cv f/\gh K x pR st f fd)(S:aD N ps vy)(hb:∀(kV doc pm:h?)(an:jT ak)(aK ct:h?)(us:Mx),Ms OI->RC x pm us)(ap:∀a,Lb)(pi:∀(a:α)(f:ak)(aK:h?)(A:HX)(em:MX)(s:ln)(H:Hp)(E:XK),Kd pR f aK):t9 (mq ng de kA x c3):=by refine df h λ f fd hm F=>?_;exact(b9 f fd ps hm F.kp (F.binds hb) (XH F S ap λ a=>pi a f))
Ho{C:ak}(h:∃f fd,mL K C x f/\gh K x pR st f fd)(S:aD N ps vy)(hb:∀(kV doc pm:h?)(an:jT ak)(aK ct:h?)(us:Mx),Ms OI->RC x pm us)(ap:∀a,Lb)(pi:∀(a:α)(f:ak)(aK:h?)(A:HX)(em:MX)(s:ln)(H:Hp)(E:XK),Kd pR f aK):Do (mq tY de kA C x) cr:=by refine df h λ f fd hm F=>?_;exact(lP f fd ps hm (F.binds hb) (XH F S ap λ a=>pi a f))
}
section z
section
variable{X:Cx}{k:Y}{x m:bt}{e o:d'}{es:kl}{p bi pQ:d9}{C:ak}{α:Type}{c3:lc}{cr:j?}{gd:lV}{e?:k!}
def z:={
tCR.1(X:Cx)(es:kl)(c3:lc)(cr:j?)(gd:lV)(e?:k!):TE:=λ σ H Q=>∃a,tT eO DI/\tO (G5 a/\J9)
tMR.1(X:Cx)(C:ak)(m:bt)(o:d')(es:kl)(c3:lc)(cr:j?)(gd:lV)(e?:k!):TE:=λ σ H Q=>∃a b vs,lT o b/\(∀H1,qh->∃dx fs,H1 b=Z Dp/\FF)/\tT eO vs/\c3 a=c! b::vs/\tO (G5 a/\J9)
xU(F:t9 Ai ng x c3)(hr:xB)(hg:zk (Cc x=zR))(eg:DL (x==Aw))(he:zV e)(a_:D_):PE X lE Bt lC (tCR X lC c3 cr gd e?):=by refine hX F λ f fd ps hm hk hb G=>?_;intro iG s σ H Q I#[a,ha,q];refine adu G hr hg hm hk hb iv ni dX eg he a_ iG s σ H Q I ce ha LN;obtain⟨h1,h2⟩:=q H2 s2;rw[hY Ic (aZ a dM h1 h2)]
Sh{pl:B?}(c:dQ X.K C)(F:Do Ai tY C m cr)(hr:xB)(bw:zV e)(a_:D_)(ht:DS Ei EN ov m pl lC):PE X Ei (tMR X C m o lC c3 cr gd e?):=by rw[Mk f hb G,GB H Q I];obtain⟨a,b,vs,ho,hi,ha,hv,q⟩:=zz;refine Ou aI c hm G hr hb iv ni dX bw a_ ht iG s σ H Q I (ma ho cA H2 s2);refine df uo hi λ dx fs h1 h2=>?_;refine #[b,dx,fs,rfl,h1,h2,_,NG s2,λ us H3 s3 hu=>?_];obtain⟨g1,g2⟩:=q H3 (kB s3);rw[hY Ic (aZ a BN hv l? g1 g2)]
}
section z
section _M
namespace _P
open g? hA hE _L _M
variable{P:gV}{w:gX}{K:h!}{mg:hV}{de:ie}{c:Cs}
variable{H H':Hp}{S:ke}{l:al}
def z:={
gD.1(S:ke)(H:Hp)(v:V)(l:al):Prop:=∃a,rT/\¬S a/\fy a Lx
mE.1(S:ke)(H:Hp):Prop:=∀x,S x->∃o,fy x o
gD.lst{v:V}(h:gD S H v l):gO l:=by refine bL h ue a e g;exact ub g
gD.later{v:V}(h:gD S H v l)(s:kw):gD S H' v l:=by refine bL h λ a e f g=>?_;exact(aZ a e f n0 g)
mE.later(h:uj)(s:kw):mE S H':=λ x hx=>by obtain⟨o,e⟩:=h x hx;exact #[o,n0 e]
mE.off(h:uj){a:ak}(ha:eZ (H a)):¬S a:=λ hs=>by obtain⟨o,e⟩:=h a hs;rw[cx e ha ha]
Ln{X:Cx}{σ:eo}{es:kl}{bi:d9}{vs:g7}(hS:uj)(ha:tT eO vs)(hl:p6 (Oc<=uR) k5._auto_1):mW tg es bi (∃a,rT/\¬S a/\k9 a vs):=Cm (mN dX) v5 H1 Q ce D1 vw us #[by rw[fX po hl],λ p hp=>q _ _ D0 cV hp kx c0 p ((ri Id).off hp) db BN aX po]
aHM(S:ke)(A:a?):sT 4 i? "stepped_by_k" (RQ cY (BK×j!) oN bT ci (uj/\nY ed bm H/\c? bT ch/\bO ch<=18/\∀n,bO (_B.dJ oq n)<=18) dL (gD S H v (yQ oq ch))):=iD A.bj.aw6 adZ dV b2 ck λ a e H hr hp U hU=>by obtain⟨⟨b,d,kk⟩,v,l⟩:=a;rw[jm gJ λ hS hR aS ap Am=>ah aS ad av hv gm];have aQ:tD:=hR;dsimp only at hv gm ap Am;subst hv;(have hsz:∀m:al,bO qu yQ<=18*d?:=λ m=>by induction m with|nil=>simp[yQ]|fN x m ih=>(have h1:bO gZ _B.mF x<=18:=by unfold _B.mF;split;(.simp);.exact Am x);unfold yQ at ih⊢;rw[Qe,JW h1 ih]);have nd:=adZ.nd;rw[gk,wO eY dz m? Hr qP Hd GV (aP dz xh aI (cH zB GT JG arB Hm Nz GT DG uB Hm r')) ji Hm n p,<-#[wP,cA p0 oW]];have s2:my qB H1 p0 []:=Nq;refine ma au wm s3 c0 av l7 rk iL gY gm (uD (xs:=se vN) sN i (∃x y,a!=[lY,cv av,cv p0,x,y]/\rU/\H' p0=Z oh nn (yQ hH (CQ i))) (aE ac ac O Gg wh) Bw i bx (aO bx G_ s4 _ ez db gY gm) ?_ ?_);(.rintro i x a! H' hi⟨x',y',rfl,s4,h0⟩;(rw[Ex hi aU aU]);have nL:=CM (ga s4);refine eT (Du Ss (mY,m) az kF nL.cw eC b6 O xx SM) λ vs H5 s5 hs=>?_;(have a8:bO (CQ i)<=18:=by rw[Ce];exact aHV ap);have wR:=hsz (CQ i);rw[iM (nQ du n3 H6 s6 (by have e':=po;subst e';exact D7 (hs H6 s6))) o! H6 s6];have Dz:H6 p0=Z oh nn (yQ hH (CQ i)):=BU o_ h0;have s7:my H6:=L6 HV s6;obtain⟨a4,e4,h4⟩:∃a4,vs=c! a4/\H6 a4=Z wi nn LK vN:=hs H6 s6;(have QK:∀o:HO,my (upd H6 p0 o):=λ o b' o' hb=>by rw[aV (c8 hb oW)];exact kS s7);refine fE ge ge;(.rw[jn be (¬LK=[])];have me:=Am m;subst e4;rw[QZ #[_,rfl,.f? g9 lg _ ez Dz,_,rfl,p0,a4,_,_,rfl,rfl,Dz,jY h4,by rw[Qm,hG (show _<=1000 by exact ayC wR me a8) ab],?_] _ (QK _),gQ be]);.rw[jn be (LK=[]),QZ #[_,rfl,.f? g9 lg _ ez Dz,_,rfl,p0,_,_,rfl,rfl,Dz,by rw[JQ (show _<=1000 by exact aDu wR a8)],?_] _ (QK _),rB be];rfl);.rintro a! H'⟨x',y',rfl,s4,h0⟩;rw[J8 h0,ce O (p _ H' s4 λ H6 s6=>c0 p0 ((Id s1).off oW) BU h0)]
aMp(S:ke)(A:a?):sT 5 i? "find_by_k" (RQ cY (BK×Y) oN ty ci (uj/\nY ed bm H) dL (gD S H v Ri)):=iD A.bj.aLU BH dV b2 ck λ a e H hr hp U hU=>by rw[Ko b d a];have hR:tD:=hp.2;have hS:uj:=hp.1;rw[ii hU _,<-gK 2 BH.nd (Ln hS (ae au ao)) nz H1 s1 hv,<-q6 BH.nd ai ?_,<-mD sN m (∃(k:Y)(u:V),a!=[lY,gx n,Z u,gx k]/\gD S H' u sI/\xR/\m=8 - k/\wr<=324) (λ _ _ _ _ s2 cy=>aO cy λ k u h1 h2 h3=>(aE k u h1 (h2.later s2) h3)) 8 x_ (fK 0 v O dM ab O (by rw[_B.Dx];simp)) ?_];rintro m a! H2 s2⟨k,u,rfl,hu,hk,rfl,ap⟩;have eP:=CR (ga s2);have eE:ba H2 u sI:=hu.lst;have Kk:=Id (ga s2);refine(aZ _ (lj (cE (bP d5 (dq (m:=wr) jK a5 B_ u' e (by have e':=po;subst e';exact K7 F1)) d3 A.g.T1) λ _=>c4 (bN (Du amF (mY,u,sI) az kF eP.cw eC a5 O fx #[Md,F1,hG ap ab])))) ge ge);(.simp only[e9,pg,N9]at hx;obtain⟨h1,h2⟩:=hx;refine aY tc b6 A.g.PN xk xk;(. (have rP:k=8:=by rw[or cn aLm]);subst rP;rw[rL mA ld (Ln Kk ao) (λ v' H3 _ dB=>Bk dB h (aZ a e g ?_)) (H3 a=Z oh nn AO)];rw[h,_B.aF9 h2];rfl);. (have rP:k<8:=by rw[ws cn,azi hk a6]);refine gK 2 BH.nd (cK sp (aHM S A) hr (mY,u,sI) az kF eP.cw eC a5 O fx (jN (Kk.later s3) Md F1 kW (wr<=18) aiA h1 (aeQ hR.dc))) λ v3 H3 s3 Mz=>?_;have hl:=QL hR.dc sI;refine lA 3 pN BH.nd O ai (c6 kx #[8 - kA,t? ahS rP,k+1,v3,rfl,?_,t? Nat.succ_le_of_lt rP,rfl,?_]);(.have:=Mz H4 s4;show gD S H4 v3 Pf kA;rw[fX _B.yu a6]);.rw[_B.yu];exact aGA h1 hl);.refine aY (bP gF (dq (m:=wr) jK a5 B_ u' e (by have e':=po;subst e';exact K7 F1)) d3 A.g.T1) xk xk;(. (have F0:18<wr:=by rw[or cn aMz]);rw[rL mA ld (Ln Kk ao) (λ v' H3 _ eG=>Bk eG h (aZ a e g ?_)) (H3 a=Z oh nn AO)];rw[h,_B.at5 hk F0];rfl);. ((have F0:wr<=18:=by have:=lh cn;rw[cS aIl]);have amf:(jw sI:cm)<=18:=by exact auX F0);rw[v? amf,uv,CS]at hx;refine aG a5 cA H3 s3;show gD S H3 u AO;rw[_B.auD hk F0 hx];exact gD.later hu s3
CI.1(S:ke)(d:bR)(H:Hp)(kk:ak):Prop:=∃aq,oL kk dK/\(∀n v,ua kN n=Z v->gD S lz kk v AO)/\(aq.map (·.1)).CJ/\∀k∈aq.map (·.1),∃n,MI/\k=Hl
BM.1(S:ke)(C:ak)(a:BK)(H:Hp):Prop:=bz C lz ch bm bT ch/\CI S bT H ch
S0.1:ke:=λ _=>False
m5.1(a:BK)(H H2:Hp):Prop:=mw lz ch H2 ch
CI.later{d:bR}{kk:ak}(h:CI S d H kk)(s:kw):CI S d H' kk:=by refine bL h λ aq h1 h2 h3=>?_;exact(aZ aq Bq (λ n v e=>(h2 n v e).sk (e7 s)) h3)
OJ{S:ke}{C:ak}{a:BK}{H H':Hp}(h:BM S C a H)(s:kw):BM S C a H':=#[h.1.sk (e7 s),h.2.sk s]
BM.book{S:ke}{C:ak}{a:BK}{H:Hp}(h:BM S C a H):ed C a H:=Lz h.1 eh _
Mj:∀(N:Y)(l:al),l.Nodup->(∀x∈l,x<N)->e!<=N|0,l,_,h=>(by cases l with|nil=>rw[KZ]|fN x r=>rw[jv (h x (by simp)) (S! _)])|N+1,l,hn,h=>by by_cases hm:N∈l;(. (have:=Mj N (l.erase N) (hn.erase N) λ x hx=>by(have h1:=h x (List.mem_of_mem_erase hx);have h2:x≠N:=λ e=>by subst e;exact(List.Nodup.not_mem_erase hn) hx);exact ac6 h1 h2);rw[t7 (List.length_erase_of_mem hm),cS Nat.le_add_of_sub_le]);. (have:=Mj N l hn λ x hx=>by have h1:=h x hx;have h2:x≠N:=λ e=>hm (e▸hx);exact ac6 h1 h2);rw[cS TI]
Ng.1:Key->Y|.f? i=>i.toNat|.fB _=>0
aF6{ks:jU}(hn:ks.Nodup)(hk:∀k∈ks,∃n,MI/\k=Hl):ks.length<=1114112:=by(have h:(ks.map Ng).CJ:=by rw[Rx];rw[H_];refine hn.imp_of_mem λ{a b}ha hb o1 e=>o1 ?_;refine ah (hk a ha) λ n _ e1=>?_;refine ah (hk b hb) λ m _ e2=>?_;subst e1 e2;(have:n=m:=by simp only[Ng]at e;exact apg e);rw[a6]);(have:=Mj 1114112 _ h λ x hx=>by(rw[dl (ah (TP hx) ad k cj aS) aS]);refine ah (hk k cj) ad n h1 e1;subst e1;simp only[Ng];exact Cb h1);rw[t8 el,q5]
aEB{m:Y}(h:m<=1114112):m<uR:=by rw[NY];exact auW h
XS(S:ke)(A:a?):Fv 6 i? "by_k" cY (BK×Y) oN ty ci (uj/\j0 S bm H/\tK cd) r5 (m5 bm) dL (j0 S bm H/\gD S F8 v Ri):=Ho A.bj.axr axg dV b2 ck λ q f aK A' em s H E hr hp=>by rw[Ko b d q,<-bX hp ad hS jb bJ];obtain⟨hB,aq,jc,Et,qi,Fw⟩:=jb;dsimp only at hB jc Et qi Fw bJ⊢;have hU:=jX hr;have hR:tD:=Lz hB eh _;(refine yA hR.ex λ dx fs mr sr co aMP hb _ _ _ _ hfk _=>?_;have hn:MI:=by have:=(S1).mp bJ;rw[cS aw9]);rw[lM (aP (iw dy (aP (uw hU aI pe aI O) dg) dg) ta) D p];have D3:∀{X:Cx}{H1:Hp}{σ:eo}{o:d'}{bi:d9},dQ X.K i?->cf X.K i? "known_by_k"->H1 b=Z p? fs->w_ H1 o aN b->Fy (FS o "known_by_k") o=f8 o->w_ H1 (zX o "known_by_k" bi) aN kk:=λ{X}{H1}{σ}{o}{bi}hc hn rN ho rq=>cQ ho eR (b9 _ dx fs iL rN hc hn hfk) rq;refine ce (NO (n:=n) hU FO hb au O jc) eR vz;(. (have nA:eZ ua kN n:=by cases h:ua kN n with|ac=>rfl|gU v=>rw[cx h hx hx]);refine eT (cK sp (aMp S A) hr (mY,n) az kF (CR s2).cw zH O fx #[I9 Id,I9 CR]) λ v H3 s3 hv=>?_;(rw[ww bL (λ qv aU hfq iI=>?_) aU]);dsimp only at iI;refine ma FO gi iL hb cA H4 s4;have KG:=kB (l_ s4);have CA:=a7 KG jc;have ap:=aF6 qi Fw;rw[E3 ap,<-g9 (vD _ O kk _) (i_.k (k:=kN n) CA (aEB ap)) ?_];((have nb:b≠kk:=λ e=>by rw[f' hb jc jc]);have nq:qv≠kk:=λ e=>by subst e;rw[kc gi iL jc iI iI]);(have hb5:(upd H4 kk (.dK (uV aq Hl M!))) b=Z p? fs:=by rw[aV nb];exact kS KG);refine wN qv (yg (n:=n) hU FO hb5 au O aX (by rw[kr,n1])) cA H6 s6;(have hs:oy H6:=λ a o ha=>by have h1:=e7 (k:=kk) KG _ _ ha;(have ne:a≠kk:=λ e=>by subst e;unfold br at ha;rw[kc n1 ha ha]);rw[tN h1];rw[b? ne]at h1⊢;exact BU (by rw[aV ne];exact h1));have hl:gD S ui H6 M! AO:=c0 qv hfq (by rw[ko,gQ nq,BU (by rw[aV nq];exact db iI)]);(refine p _ H6 hs #[#[CB hs,uV aq Hl M!,BU aX,ad m v hm,?_,?_],hl];(.rw[kr]at hm;by_cases e:m=n;(.subst e;rw[kc n1 hm hm,hl]);.rw[li (yG e)]at hm;exact(Et m v hm).sk hs);.rw[DD _ nA,yr,Ti];refine #[qi,ug,λ a ha b' iq e=>?_];simp at iq;subst iq e;exact ar9 nA ha);.rw[DD _ nA,yr];intro k hk;rcases Tk hk with hk|hk;(.exact Fw k hk);.simp at hk;exact(af n hn hk));.cases h:ua kN n with|ac=>rw[h]at hx;rw[jv O hx]|gU v=>refine ma (v:=v) (yg (n:=n) hU FO iL hb au O iL jc h) cA H3 s3;have s23:=kB s3;have hs:oy H3:=e7 s23;exact p _ H3 hs #[#[CB hs,CI.later (fF aq jc Et qi Fw) s23],(Et n v h).sk hs]
}
section _P
namespace _M
open g? hA hE _L
def z:={
aqy{X:Cx}{k:Y}{m:bt}{e o:d'}{es:kl}{bi pQ:d9}{C:ak}{α β:Type}{c3:lc}{cr:β->j?}{gd:lV}{e?:β->α->w2}{pl:B?}(c:dQ X.K C)(F:∀S:β,Ai tY C m c3 (cr S) gd S2)(hr:xB)(bw:zV e)(a_:D_)(ht:DS Ei EN ov m pl lC):PE X Ei (λ σ H Q=>∃S,tMR X C m o lC c3 (cr S) gd S2 σ H Q):=λ iG s σ H Q I bx=>t_ bx S (Sh c (F S) hr bw a_ ht iG s σ H Q I h)
}
section _M
namespace _P
open g? hA hE _L _M
variable{P:gV}{w:gX}{K:h!}{mg:hV}{de:ie}{c:Cs}
variable{H H2 H':Hp}{α β:Type}{X:Cx}{n hF bM:Y}{e:d'}{z a C b:ak}{fO:gP}{l:rX}{c3:lc}{aq:c1 (Key×V)}{o:HO}{f:Y->fm}{cl:jR}{xs:g7}{gd:lV}{dk:m7}{m:al}{cr:j?}{e?:k!}{y:OK}{es:kl}{g:Le}{x:vB}{u:U}{R:rI}{p1 pQ:d9}{i:cm}
def z:={
D6(H:Hp):mE S0 H:=λ _ h=>If
Gw.2(c:Cs)(a:DX)(H:Hp):Prop:=tE/\jM F8 bT ch/\tK BL fc
aam(A:a?):tG 7 "ends_by_k" cY DX oN bT (Gw c) r5 (m5 bm) dL (tE/\v=.bl n7 wU oq BL fc):=Eo A.aJT aGC λ q f aK A' em s H E hr hp=>by obtain⟨⟨b,d,kk⟩,rv,num,r⟩:=q;rw[jm bX λ jb aS bJ=>aO aS λ ar y pA bo hy=>?_];dsimp only at pA bo hy bJ jb⊢;subst pA;have hR:tD:=OP;have Lh:=ff bo;rw[lM ji (tF gF (acT YG (by rfl) jK Te (iu (Sh sp (XS S0 A) hr) fQ)) kb (by first|exact ad1 _ ab ab|rfl)) D p,<-(p8 RD b ([vN i!]) az I7 eC w? il Af gY Lh O tm #[D6 _,SH,bJ] nz H2 bw jB)];obtain⟨Hi,qv,rfl,_,iI⟩:=jB;rw[qW tr qv (.f? (ya ff iI)) ?_ tr _ O (p _ H2 (nO (e7 s1) bw) #[Hi,Jo])];dsimp only;rw[_B.Vc,el,uq];simp
kq.1(B:so)(n:Y):al:=(if BE B 5 n=[]then[n]else BE B 5 n).OU (u4 B)
acu(A:a?):tG 7 "folded_by_k" cY (BK×Y) oN ty ci (tE/\tK cd) r5 (m5 bm) dL (tE/\ba F8 v (kq oq cd)):=Eo A.axw W8 λ q f aK A' em s H E hr hp=>by rw[Ko b d q,Fp jb bJ];dsimp only at jb bJ⊢;have nd:=W8.nd;have hR:tD:=OP;have F:=hR.dc;unfold kq;generalize pV:(if n! n=[]then[n]else n! n)=cZ;(have Gb:∀x∈cZ,Ll:=λ x hx=>by rw[<-pV]at hx;split at hx;(.simp at hx;rw[fX hx bJ]);.exact F.HK ab ab ab hx);(have xQ:Hy<=3:=by rw[<-pV];split;(.exact(ab:1<=3));.rename_i be;rw[<-bL (_B.map_some be) ue r gA e,hY e (F.row 5 r ab gA).most]);rw[lM (aP dz m? aI eY dz vX Hr qP (BO aI) (cz (i:=4)) GT JG EE r' (aqy sp (λ S=>XS S A) hr) ji r') D p,<-As cT cZ (Fi (bN PC uO n au) ge ge) λ fv H1 s1 hfv=>?_];((.rw[jn be (n! n≠[])];rw[b? be]at pV;rw[<-pV];exact PC IB n au);.rw[jn he (n! n=[])];rw[g! he]at pV;rw[<-pV];exact(r4 iT [vN n] (ae au ao)).imp λ v H1 s1 h=>h);(rw[Ak hfv.now qf Ha]);refine #[wP,cA r fG];refine iR jb λ Gx aq jc Lj=>?_;dsimp only at jc;have amw:j0 ((· = r)) xf K5:=OJ (H:=H1) #[Gx.later (e7 s1),aq,gY jc,λ m v hv=>by refine bL ((Lj.1 m v hv).sk (e7 s1)) ue a e g;exact(aZ a e (λ er=>by subst er;rw[kc ff g fG fG]) g),Lj.2] (cV fG);((have Ml:r≠kk:=λ e=>by subst e;rw[kc gY jc fG fG]);have TF:qf≠kk:=λ e=>by subst e;rw[kc gY jc Ha Ha]);(have nrq:qf≠r:=λ e=>by rw[f' Ha fG fG]);(have WB:A4 K5 qf wi cZ.map vN:=by rw[ko];rw[b? TF,aV nrq];exact Ha);have s2:oy K5:=e7 (ga (cV fG));refine wN qf a5 wm s3 c0 qf l7 jY gi ff WB (Bf OL K qf (xs:=cZ.map vN) w' (∃x4:iY,a!=[lY,gx n,cv qf,rj,x4]/\oy H'/\A4 H' qf wi cZ.map vN/\j0 ((· = r)) xf H'/\A4 H' r oh nn Kf) (qQ ac O (kB (e7 s3)) (e7 s3 _ _ WB) (amw.later s3) (e7 s3 _ _ (by rw[ko,gQ Ml,aX]))) Bw k cy (xn cy G_ h _ jY ff h) ?_ ?_);(.rintro k x a! H' hk⟨x4,rfl,sH,fA,kZ,gA⟩;(rw[Ex hk bu bu]);have hRk:sE H' b d:=kZ.book;refine #[_,rfl,.f? g9 lg _ ez ff gA,(· = r),(mY,m),b,[vN m],az,kF hRk.cw,eC du,rfl,kx #[#[BT (by subst hx;exact l7 db ff gA),Me,EC Gb m hm],nz H5 bw jB]];obtain⟨mK,qv,rfl,vd,iI⟩:=jB;dsimp only at iI bw mK;have xi:mw ui H' H5 kk:=nO (e7 s4) bw;have mh:=a7 xi gA;have j6:=a7 xi fA;(have j9:k<3:=by have:=qx hm;exact TG a6 xQ);(have j3:∀l:al,bO (l.flatMap (u4 hH))<=18*e!:=λ l=>by induction l with|nil=>rw[KZ]|fN a l ih=>rw[Qe];have:=gZ _B.Ym a;exact JW a6 ih);have arL:=qu _B.Ym;refine(Ck r qv _ _ O O ff mh ff iI ?_ ?_);(.rw[Qm];have:=j3 (cZ.take k);rw[t8 Ce];rw[NY];exact aIr a6 arL j9);refine iR mK λ zA kv5 TC K9=>?_;(dsimp only at zA TC K9;have s5:oy qB H5 r (G6 Kf++jE qu u4 vN):=λ a o ha=>by(have h1:=nO sH xi _ _ ha;have ne:a≠r:=λ e=>by subst e;have h2:=ff ha;rw[kc gY h2 fG fG]);rw[tN h1];split at h1;(.cases h1);.rename_i e2;rw[b? e2,aV ne];exact h1);have ups:∀{v:V}{l:al},Sm ui H5->Sm ui qB H5 r (G6 Kf++jE qu u4 vN):=λ dB=>Bk dB h (aZ a e g (by rw[tN h];split at h;(.cases h);.rename_i e2;rw[b? e2,aV g];exact h));refine(qQ _ O s5 ?_ (N8 (Gx.later s5) kv5 (by rw[aV (sg Ml)];exact TC) (λ m' v' qj=>ups (K9.1 m' v' qj)) K9.2) ?_);(.rw[tN j6];rw[b? TF]at j6⊢;rw[aV nrq];exact j6);.rw[ko];rw[b? Ml,aX,yD,hm,TQ,yr];simp);.rintro a! H'⟨x4,rfl,sH,fA,kZ,gA⟩;rw[N3 (by rw[el];exact yb _)]at gA;refine iR kZ λ hB' kv' cj Zr=>?_;exact #[_,rfl,p _ _ sH #[#[hB',kv',cj,λ m' v' qj=>by refine bL (Zr.1 m' v' qj) ue a e g;exact(aZ a e (λ h=>h) g),Zr.2],r,rfl,gA]]
w8.2(B:so)(l:al):fm:=l.all gq kR (BE B 5 x)
Xy{B:so}(h:∀n,bh n7 wU B n)(n:Y):kq B n=OY B n:=by unfold kq OY;congr 1;funext x;exact _B.am2 (h x)
NQ(A:a?):tG 8 "folding_settles" cY DX oN bT ci (Gw c a H/\∀n,bh n7 wU oq n) r5 (m5 bm) dL (tE/\v=.bl ((Ij oq BL fc).all gq kR (BE oq 5 x))):=Eo A.ahY afq λ q f aK A' em s H E hr hp=>by obtain⟨⟨b,d,kk⟩,rv,num,r⟩:=q;rw[sK aS b_ (bX aS λ jb aU bJ=>aO aU λ ar y pA bo hy=>?_)];dsimp only at pA bo hy bJ jb b_⊢;rw[p_ pA afq.nd];have Lh:=ff bo;have F:nf:=(show tD from OP).dc;(have hft:Pl=(sJ kq).OU (kq hH):=by unfold Ij;rw[Xy b_,show kq hH=sx OY from funext (Xy b_)]);rw[hft];(have aH:∀{m x:Y},tK m->x∈qu kq->Ll:=λ{m x}hm hx=>by unfold kq at hx;refine ah (List.mem_flatMap.mp hx) ad z hz hxz;refine F.aLi ?_ hxz;split at hz;(.simp at hz;rw[fX hz hm]);.exact F.HK ab ab ab hz);rw[lM (aP qP ST Bs (cH qP ST GV (cH (iw dy ji Ap dg))) ji Ap) D p,<-(af RD AH w? il Af gY Lh tm #[SH,bJ] nz H2 bw jB)];(rw[dl (iR jB λ Hi qv a9 iI=>?_) a9]);dsimp only at bw Hi iI;have xi:oy H2:=nO (e7 s1) bw;generalize hL:sJ kq=L at iI;have hLs:∀x∈L,Ll:=λ x hx=>aH bJ (by rw[fX hL hx]);rw[hL]at p;refine c0 qv l7 ez ff iI (Bf uD K qv (xs:=L.map vN) w' (∃x2 x3:iY,a!=[lY,cv ar,x2,x3]/\oy H'/\A4 H' qv oh L.map/\j0 S0 xf H'/\bh gZ w8 Dy L.take k kq) (fK ac ac O xi iI Hi O) Bw k bx (fW bx λ _ _ _ _ h _=>ez ff h) ?_ ?_);(.rintro k x a! H' hk⟨x2,x3,rfl,sH,fA,kZ,gL⟩;(rw[Ex hk bu bu]);refine(af (mY,m) AH a5 fx #[#[OW s3,EC hLs m hm],nz H4 Ry jB]);(rw[dl (iR jB λ ad8 q4 bW pY=>?_) bW]);dsimp only at Ry ad8 pY;have M3:mw ui H' H4 kk:=nO (e7 s3) Ry;(have aeV:gZ w8 Dy L.take kA kq=(gZ w8 Dy L.take k kq&&w8 hH (kq hH m)):=by unfold w8;rw[yD,hm,TQ,TR];simp);generalize hM:qu kq=M at pY aeV;refine c0 q4 l7 ez ff pY (Bf uD K q4 (xs:=M.map vN) (λ j d! H5=>∃x3:iY,d!=[lY,cv ar,gx m,x3]/\mw ui H' H5 kk/\A4 H5 q4 oh M.map/\j0 S0 xf H5/\bh (w8 hH (M.take j))) eX (qQ x3 O M3 pY) ad8 (λ j d! H5 _ cy=>xn cy G_ h _ ez ff h) ?_ ?_);(.rintro j z d! H5 hj⟨x3,rfl,vh,j6,mK,AB⟩;(rw[dl (ah (eM hj) ad e he cJ) cJ]);have FZ:sE H5 b d:=mK.book;refine(ce (bN (Jr uO (mY,5,e) az kF FZ.cw d1 d3 A.g.Cq b6 O (λ H6 s6=>#[FZ.later s6,zW (5<15)]))) λ H6 s6=>vz);(.rw[jn be (n! e≠[]),<-p _ H6 (nO sH (nO vh (e7 s6))) #[O0 s6,Jo]];symm;rw[Al];intro h;have h1:=Hv h e (List.mem_flatMap.mpr (af m (yi hm) (by rw[hM];exact yi he)));simp at h1;exact be h1);.rw[jn pP (n! e=[]),<-(qQ _ O (nO vh (e7 s6)) (e7 s6 _ _ j6) (O0 s6) ?_)];unfold w8 at AB⊢;rw[yD,he,TR,AB];simp[pP]);.rintro d! H5⟨x3,rfl,vh,j6,mK,AB⟩;rw[J8 AB,<-(fK _ x3 O (nO sH vh) a7 vh fA mK ?_)];rw[aeV,gL,AB];rfl);.rintro a! H'⟨x2,x3,rfl,sH,fA,kZ,gL⟩;rw[J8 gL,p _ H' sH #[kZ,r? sb gL.symm]]
}
inductive U where
 |p(x:Sv)
 |m(x:vB)
 |s(x:w1)
def z:={
U.num.1:U->Y|.p x=>x.1|.m x=>x.1|.s x=>x.1
xC.1(H:Hp)(v:V):U->Prop|.p x=>mQ H v x|.m x=>jM H v x|.s x=>k_ H v x
LJ:Up xC:=Ni s h (by cases x with|p x=>exact b! mB s h|m x=>exact b! j4 s h|s x=>exact b! mU s h)
}
structure jR where
 hF:Y
 lu:Y
 bM:Y
 nm:bt
 g:bR->U->fm
def z:={
lW.1(hF bM:Y)(nm:bt)(g:K0):jR:=#[hF,0,bM,nm,KN u u p]
c5.1(hF bM:Y)(nm:bt)(g:Le):jR:=#[hF,1,bM,nm,KN u u m]
sh.1(hF bM:Y)(nm:bt)(g:Lf):jR:=#[hF,2,bM,nm,KN u u s]
jk.1(d:bR)(lu bM:Y):c1 U:=if lu=0 then jE (nH bM kC) U.p else if lu=1 then jE (nH bM eq) U.m else jE (nH bM hI) U.s
}
structure ze(d:bR):Prop where
 dc:nf
 names:namesOk d
def z:={
tU.1(d:bR)(l:gP):Prop:=∀p∈l,∀u∈jk d p.part p.kind,bh (p.g d u)
DU.2:=BK×V×U
xF.2(a:DU):g7:=oN bT
ye.1(c:Cs)(fO:gP)(cl:jR)(a:DU)(H:Hp):Prop:=tE/\xC F8 bT ch/\ch∈jk xm u5 u6/\ze xm/\tU xm fO
BQ.1(c:Cs)(cl:jR)(a:DU)(v:V)(H:Hp):Prop:=tE/\v=.bl (cl.g xm ch)
cR.1(P:gV)(w:gX)(K:h!)(mg:hV)(de:ie)(c:Cs)(fO:gP)(cl:jR):Prop:=∃f,KI/\mi Om w 8 f xF (ye c fO cl) r5 (m5 bm) (BQ c cl)
yR{k:Y}(h:tA aM u7 Mg)(hk:xR)(conv:Rs a (c3 a') (∀v H2,e? a' v H2->v=.bl (cl.g xm ch))):wt cl:=by rw[Q6 (λ f h1 fd ps h2 h3 h4=>?_) h2 (λ vs H Q E bx=>bL bx λ a e hp q=>?_),<-bL (conv a H hp) λ a' e' g1 g2=>?_,ce xb a' BN e e' g1 zx v (q v H2 (e7 s2) #[hp.1.sk s2,g2 v H2 dM])]
Il{k:Y}(h:t9 tA ng u7 c3)(hk:xR)(conv:Rs a (c3 a') vM (gd a' H H2) (e? a' v H2) (m5 bm H H2/\BQ c cl a v H2)):wt cl:=by rw[Q6 (λ f h1 fd ps h2 h3 h4=>?_) h2 (λ vs H Q E cy=>bL cy λ a e hp q=>?_),<-bL (conv a H hp) λ a' e' g1 g2=>?_,(aZ a' BN e e' g1 (λ v H2 h5 h6=>q v H2 (g2 v H2 h5 h6).1 (g2 v H2 h5 h6).2))]
EJ{d:bR}{k:Y}(hk:xJ)(h:x∈F9):ey∈kz u3:=by show ey∈kz AL nK eq;rw[wK eq k nK,<-pL];exact CK h
aCV{d:bR}{k:Y}(hk:k<14){x:Sv}(h:x∈vg kC):ey∈kz O1:=by show ey∈kz AL Io kC;rw[wK kC k Io,<-pL];exact CK h
Yd{d:bR}{k:Y}(hk:k<3){x:w1}(h:x∈F_):ey∈kz Ia:=by show ey∈kz AL yI hI;rw[wK hI k yI,<-pL];exact CK h
cR.row{fO:gP}{k hF bM:Y}{nm:bt}{cr:md bR nI}{g g':Le}(h:tA aM nm nY jt cr g)(hk:xR)(o9:BB)(hp:Lk r u3 _B.yX):wt wL c5:=by rw[<-yR (cl:=wL c5) h hk ad a H nM,q? bk v u,<-gJ nM t!,tz c5 h2 h3];(rw[qS h3 aS aS]);have hm:=EJ o9 hx;have hf:=Ir bM ey o9 hm;rw[KV g2 hp hf,<-c0 (bk,v,x) (fH O2 (b! j4 xG h2) g8 ?_ g1) LR];have:=hf.pos;rw[cx e a6 a6]
cR.gT{fO:gP}{k hF bM:Y}{nm:bt}{cr:md bR Ci}{g g':K0}(h:tA aM nm nY pI cr g)(hk:xR)(o9:bM<14)(hp:Lk r O1 _B.zl):wt wL lW:=by rw[<-yR (cl:=wL lW) h hk ad a H nM,q? bk v u,<-gJ nM t!,tz lW h2 h3];(rw[qS h3 aU aU]);have hm:=aCV o9 hx;rw[KV g2 hp (h4.dc.gT bM ey o9 hm),c0 (bk,v,x) #[O2,b! mB xG h2,g1] LR]
cR.sqn{k:Y}{nm:bt}{cr:md bR yw}{g g':Lf}(h:tA aM nm nY aae cr g)(hk:xR)(o9:bM<3)(hp:Lk r Ia _B.CT):wt wL sh:=by rw[<-yR (cl:=wL sh) h hk ad a H nM,q? bk v u,<-gJ nM t!,tz sh h2 h3];(rw[qS h3 a9 a9]);have hm:=Yd o9 hx;rw[KV g2 hp (h4.dc.seq bM ey o9 hm),c0 (bk,v,x) #[O2,b! mU xG h2,g1] LR]
}
section
variable{d:bR}{k:Y}{r:nI}
def z:={
pD(h:_B.yX (k,r)):TS<=32:=by have h1:=h.most;(have h2:SC<=32:=by have:∀k,xJ->SC<=32:=kM;exact a6 k h.kind);exact hG h1 h2
E1(h:_B.yX (k,r))(h1:k≠10)(h2:k≠11):bh (r.to.all x8):=by have:=h.dc;unfold NL at a6;rw[FI];rw[b? h1,b? h2]at a6;rw[q5]
W9(F:nf)(h:tK n):bh Si R_:=List.all_eq_true.mpr λ x hx=>F.aej _ _ _ h hx
z5{r:Ci}(h:_B.zl (k,r)):qy r:=#[h.le,((S1).mp h.last).1]
xo(F:nf)(n c:Y):bO nV Mt.apart n c<=n+1:=F.xo n c
aoq(F:nf)(n:Y):bh dH (jw R_<=18):=v? Ah (xo F 8) n
aLf(F:nf)(hk:k<14)(n:Y):nV O5 k n<=Mt.most k:=by unfold O5;split;(.rename_i r h;exact(F.gT k r hk (List.mem_of_find?_eq_some h)).most);.exact Th _
}
section z
def z:={
cls.1:gP:=[c5 20 0 "canonical_steps_end" eH (nV Mt.ends Ih i!&&((r.to.drop 1).all gq kR R4)),He 0 "canonical_row_without_hangul" uk r ((i!::uX).all λ c=>DW c c),He 1 "scalar_is_no_hangul" uk r Qk,lW 21 0 "range_without_hangul" uk r Au r c DW c c,c5 22 0 "taken_apart_in_order" eH (Mt.sorted hH (Is hH i!)&&dH (jw sJ Is<=18)),pb 1 "has_no_canonical_row" eH kR o0 (Mt.map hH 0),P5 (pb 1),P5 (pb 0),c5 24 0 "composes_alone" eH (o0 Fz||(TS==2&&(sJ It==0&&(gZ It AX==0&&(jw ((sx TM).filter λ q=>q.to==uX&&!Fz q.scalar)==1&&Mt.joined AX (r.to.getD 1 0)==ac))))),c5 25 5 "folded_stays" eH FY (kR (n! x)&&(R?).all qq kR (n! y)),c5 25 6 "simply_folded_stays" eH FY kR (vj 6 x),c5 26 7 "mirror_holds" eH (vj 7 AX==SW&&o0 (vI 13)),c5 27 8 "partner_holds" eH (o0 (sS 9)!=0&&(sS 9 AX+o0 (sS 9)==3&&(vj 8 AX==SW&&o0 (sS 8)==13))),lW 27 9 "brackets_have_partners" eH Au r c (vj 8 c !=[]),lW 28 11 "digits_stand_in_tens" eH (O6==r.last&&(su 10).all λ i=>sS 11 (O6+1 - Iu+i)==i+1&&dH (Iu<=O6+1)),lW 29 10 "script_is_named" eH dH (Iu<Rd (max 3)),c5 29 10 "scripts_are_named" eH FY dH (x<Rd (max 3)),c5 30 9 "prototype_stays" eH FY ((R?).all qq (kR (vj 9 y)&&!vI 11 y)),lW 31 13 "flags_agree" uk r ((!u8 7||u8 8)&&!u8 16),lW 32 0 "combining_extends" eH Au r c (AG==4&&sS 3 c !=2),c5 33 0 "canonical_row_stays_cluster" eH gZ AF r,c5 34 11 "weights_hold" uk r Rm uX,sh 34 0 "weights_hold" uk s Rm s.to,sh 35 0 "contraction_holds" λ d s=>(s.key.all gq kR R4)&&(gZ Mt.sorted s.key&&gZ It (s.key.headD 0)==0),c5 36 11 "weighed_has_no_step" eH kR sJ Mt.canon,Ky (c5 37 2) o0 (vI 2),Ky (c5 37 3) o0 (vI 2),Ky (c5 37 4) o0 (vI 2),lW 37 13 "letter_case_is_cased" uk r (!(u8 0||u8 1)||u8 2),c5 38 1 "scalar_has_no_class" eH (sJ It==0),JF (r8 5),JF (r8 1),JF (r8 0),lW 40 3 "conjuncts_hold" eH Au r c (if Iu=2 then AG==0 else AG==4||AG==5),lW 41 13 "pictures_hold" eH (!u8 12||Au r c (AG==0))]
yV.1(P:gV)(w:gX)(K:h!)(mg:hV)(de:ie)(c:Cs):gP->gP->Prop|_,[]=>True|fO,cl::r=>wt cl/\vq yV (cl::fO) r
Cf{d:bR}{l:gP}(h:tU d l){nm:bt}(hm:c5 hF bM nm g∈l)(hk:BB){r:nI}(hr:r∈u3 bM []):bh (g d r):=by(have e:u3 bM []=jE (nH bM eq) ((·.2)):=by show AL nK eq bM []=_;rw[wK eq bM nK,pL]);rw[e]at hr;(rw[qS hr aS aS]);exact h _ hm (.m x) (CK hx)
P0{d:bR}{l:gP}(h:tU d l){HR Im Ie D':bt}(h1:He 0 HR r7 r ((i!::uX).all λ c=>DW c c)∈l)(h2:He 1 Im r7 r Qk∈l)(h3:pb 1 Ie (λ d r=>zL)∈l)(h4:pb 0 D' (λ d r=>zL)∈l)(n:Y):bh n7 nV ON Ih n:=by refine _B.ajU o! r hr o! r hr (λ r hr=>Cf h h4 ab hr) (λ r hr=>Cf h h3 ab hr) n;(.have:=Cf h h1 ab hr;rw[List.all_cons,e9,e9]at a6;simpa using Nh);.have:=Cf h h2 ab hr;rw[LE]
aAN{v:V}(h:jM H v x):LG H v xD:=by rw[KF g t (qJ a _ _ y e g t)]
alN{v:V}{x:w1}(h:k_ H v x):LG H v xD:=by refine hX h λ a y z e g _ t=>?_;exact(qJ a _ _ z e g t)
aaW{nm:bt}(hk:BB){a:DU}(hp:ye c fO (pb bM nm eH zL) a H):P! (Gw c a' H) (v=.bl n7 wU F6 BL a'.2.2.2) (pb bM nm eH zL):=by rw[q? bk v u,jm gJ t!,tz c5 h2 h3];(rw[qS h3 aU aU]);exact c0 (bk,v,x) #[h1,h2,(Ir bM ey hk (EJ hk hx)).sc] vw v' #[s2,e]
JX{nm:bt}(hk:BB){a:DU}(hh:tU xm fO->∀n,bh n7 wU oq n)(hp:ye c fO (r8 bM nm eH I?) a H):P! (Gw c a' H/\∀n,bh n7 wU F6 n) (v=.bl ((Ij F6 BL a'.2.2.2).all gq kR (BE F6 5 x))) (r8 bM nm eH I?):=by rw[q? bk v u,jm gJ t!,tz c5 h2 h3];(rw[qS h3 a9 a9]);exact c0 (bk,v,x) #[#[h1,h2,(Ir bM ey hk (EJ hk hx)).sc],hh h5] vw v' #[s2,e]
M4(A:a?):vq yV [] cls:=by(refine #[qK avV Ah pD hf,qK aLG Ah pD hf,D! aGO,wc aHl (z5 hf),C! aiV #[W9 CW yS,by rw[aoq CW,Bool.and_true]],D! awG,zC Il (pb 1 "ends_by_k") aam,zC Il (pb 0 "ends_by_k") aam,qK aGG (fH yS EY hm (Cf hh (hF:=21) (bM:=0) (nm:="canonical_row_without_hangul") za ab hm)),D! aum,qK ahh ?_,z7 aua,qK am9 (fH yS ?_ EY (aLf CW ab _)),wc apv (z5 hf),wc ahj #[z5 hf,CW,hm],y8 cR.gT aJA #[hD.names,rfl],qK am4 #[hD.names,Ah pD hf],qK aq4 BT (W9 CW (Hv EY x hx)),PR aI2,wc aDS (z5 hf),qK anu #[yS,EY,Iv],zC yR (c5 34 11 "weights_hold") WA,zC yR (sh 34 0 "weights_hold") WA,y8 cR.sqn aKL #[#[?_,yS,hG Iv kO (Mt.keyMost 0<=1000)],rfl],D! aDe,z7 IG,z7 IG,z7 IG,PR aMg,z7 aLh,JL (r8 5) NQ,JL (r8 1) NQ,JL (r8 0) NQ,wc aJW (z5 hf),wc atp (z5 hf),trivial];(.exact aaW ab hp);.exact aaW ab hp);(((.exact TT Iv hf.pos);.exact TT Iv hf.pos);(.rw[q? bk v u,jm gJ t!,tz c5 h2 h3];(rw[qS h3 bu bu]);exact(c0 (aN bk.1,v,xD) #[aAN (b! j4 xG h2),Ah pD (Ir 11 ey ab (EJ ab hx))] λ v' H2 e=>e));.rw[q? bk v u,jm gJ t!,tz sh h2 h3];(rw[qS h3 bW bW]);exact(c0 (aN bk.1,v,xD) #[alN (b! mU xG h2),hG (h4.dc.seq 0 ey ab (Yd ab hx)).OF kO (NS 0<=1000)] λ v' H2 e=>e));((.intro e;have:=hf.least;rw[FI,t8 e,jv a6 ab]);.rw[JH JX n (P0 hh)]);(.rw[JH JX n (P0 hh)]);.rw[JH JX n (P0 hh)]
brk.1(d:bR):gP->al|[]=>[]|Hb=>match EP with|Z u=>A8|ac=>uh l
alC(d:bR)(cl:jR)(l:gP):uh (cl::l)=match EP with|Z u=>A8|ac=>uh l:=rfl
OA.1:jT NH->al|ac=>[]|Z f=>rH
}
structure zS(d:bR):Prop where
 ps:d.ps.Pairwise λ x y=>x.1<=y.1
 ms:d.ms.Pairwise λ x y=>x.1<=y.1
 ss:d.ss.Pairwise λ x y=>x.1<=y.1
def z:={
HP.1(d:bR)(cl:jR)(x:iW M?):Prop:=x.1=sv/\At ul=bO zw/\∀(i:Y)(u:U),zw[i]?=Z u->u.num=Jg ul+i/\ey.2 i=vU
Jn.1(d:bR):gP->c1 (Y×M?)->Prop|[],[]=>True|Hb,x::m=>HP d cl x/\Jn d l m|_,_=>False
asc{p:α->fm}(h:∀i u,l[i]?=Z u->f i=p u):((su e!).CX Nc=ac/\eZ (l.find? (λ u=>!p u)))\/∃i u,(su e!).CX Nc=Z i/\l.find? (λ u=>!p u)=Z u/\l[i]?=Z u:=by cases e:(su e!).CX Nc with|ac=>refine .f? #[rfl,Q' cA u hu];obtain⟨i,hi⟩:=TW hu;have a8:=qx hi;have:=List.find?_eq_none.mp e i (List.mem_range.mpr a8);rw[t7 (h i u hi),q5]|gU i=>refine bX (List.find?_range_eq_some.mp e) ad h1 h2 h3;have a8:=List.mem_range.mp h2;have hi:l[i]?=Z l[i]:=Hu a8;refine .fB (aE i (l[i]) O ?_ hi);refine _B.DQ (j:=i) hi (by rw[<-h i _ hi];exact h1) λ j y hj hy=>?_;have:=h3 j hj;rw[t7 (h j y hy),LE]
Wv{d:bR}:∀{l:gP}{m:c1 (Y×M?)},Jn d l m->uh l=OA RW|[],[],_=>rfl|[],_::_,h=>If|_::_,[],h=>If|Hb,(hF,bM,f)::m,h=>by rw[gg h λ aS h4=>bX aS ad h1 h2 h3];have ih:=Wv h4;dsimp only at h1 h2 h3;show(match EP with|Z u=>A8|ac=>uh l)=OA (match(su At bM).CX λ i=>!f i with|Z i=>Z #[hF,Jg bM+i]|ac=>RW);rw[h2];rcases asc (l:=zw) (p:=cl.g d) (f:=f) (λ i u e=>(h3 i u e).2)with⟨e1,e2⟩|⟨i,u,e1,e2,e3⟩;(.rw[e1,e2];exact ih);.rw[e1,e2,h1];show A8=[sv,_];rw[(h3 i u e3).1]
L8(n k:Y)(l:AK)(h:k<=n):((zy L!).map List.length).sum=_B.sumTo k l:=by rw[_B.A3,<-N0,List.take_range,NZ h,nC];rfl
Oy{k:Y}(l:AK)(h:k<n):bO kz (L!).getD=bO MO:=by rw[_B.jr l h,_B.FX]
getD_at{k i:Y}(l:AK)(h:k<n){x:ve α}(hx:MO[i]?=Z x):(kz (L!).getD)[i]?=Z ey:=by rw[_B.jr l h,<-pL,yv,hx];rfl
qN{d:bR}(S:xT){k:Y}{nm:bt}{g:K0}(hk:k<14)(hf:∀i r,(kz O1)[i]?=Z r->f i=g d r):Mo lW g (k+1):=by refine #[rfl,?_,ad i u hu];(.show At kA=bO ro kC U.p;unfold Ix;rw[Fa adN,el,TX];exact Oy kC hk);.have eE:(ro kC U.p)[i]?=Z u:=hu;rw[Aj eE];cases e:(vg kC)[i]? with|ac=>rw[cx e eE eE]|gU x=>rw[J? hf kC kA];rw[Fa adN,TX,_B.O8 S.ps e];rw[Lg L8 Io kC]
gr{d:bR}(S:xT){k:Y}{nm:bt}(hk:xJ)(hf:∀i r,(kz u3)[i]?=Z r->f i=g d r):Mo c5 g (32+k):=by refine #[rfl,?_,ad i u hu];(.show At (32+k)=bO ro eq U.m;unfold Ix;rw[re T2,Fa XJ,el,CZ];exact Oy eq hk);.have eE:(ro eq U.m)[i]?=Z u:=hu;rw[Aj eE];cases e:F9[i]? with|ac=>rw[cx e eE eE]|gU x=>rw[J? hf eq (32+k)];rw[re T2,Fa XJ,CZ,_B.O8 S.ms e];rw[Lg L8 nK eq]
Xz{d:bR}(S:xT){k:Y}{nm:bt}{g:Lf}(hk:k<3)(hf:∀i r,(kz Ia)[i]?=Z r->f i=g d r):Mo sh g (64+k):=by refine #[rfl,?_,ad i u hu];(.show At (64+k)=bO ro hI U.s;unfold Ix;rw[re aem,re Xp,el,CZ];exact Oy hI hk);.have eE:(ro hI U.s)[i]?=Z u:=hu;rw[Aj eE];cases e:F_[i]? with|ac=>rw[cx e eE eE]|gU x=>rw[J? hf hI (64+k)];rw[re aem,re Xp,CZ,_B.O8 S.ss e];rw[Lg L8 yI hI]
auI{d:bR}(S:xT):Jn d cls sx TY:=#[fl (k:=0) ab bn i r (by rw[cL]),fl (k:=0) ab bn i r (by rw[cL]),fl (k:=1) ab bn i r (by rw[cL]),pc (k:=0) ab bn i r (by rw[cL]),fl (k:=0) ab bn i r (by rw[cL]),fl (k:=1) ab bn i r (by rw[cL]),fl (k:=1) ab bn i r (by rw[cL]),fl (k:=0) ab bn i r (by rw[cL]),fl (k:=0) ab bn i r (by rw[cL]),fl (k:=5) ab bn i r (by rw[cL]),fl (k:=6) ab bn i r (by rw[cL]),fl (k:=7) ab bn i r (by rw[cL]),fl (k:=8) ab bn i r (by rw[cL]),pc (k:=9) ab bn i r (by rw[cL]),pc (k:=11) ab bn i r (by rw[cL]),pc (k:=10) ab bn i r (by rw[cL]),fl (k:=10) ab bn i r (by rw[cL]),fl (k:=9) ab bn i r (by rw[cL]),pc (k:=13) ab bn i r (by rw[cL]),pc (k:=0) ab bn i r (by rw[cL]),fl (k:=0) ab bn i r (by rw[cL];rfl),fl (k:=11) ab bn i r (by rw[cL]),Xz S (k:=0) ab bn i r (by rw[cL]),Xz S (k:=0) ab bn i r (by rw[cL]),fl (k:=11) ab bn i r (by rw[cL]),fl (k:=2) ab bn i r (by rw[cL]),fl (k:=3) ab bn i r (by rw[cL]),fl (k:=4) ab bn i r (by rw[cL]),pc (k:=13) ab bn i r (by rw[cL]),fl (k:=1) ab bn i r (by rw[cL]),fl (k:=5) ab bn i r (by rw[cL]),fl (k:=1) ab bn i r (by rw[cL]),fl (k:=0) ab bn i r (by rw[cL]),pc (k:=3) ab bn i r (by rw[cL]),pc (k:=13) ab bn i r (by rw[cL]),trivial]
apc{d:bR}(S:xT):uh cls=OA Kz:=Wv (auI S)
mR.1(mg:hV)(H:Hp)(v:V)(cl:jR):Prop:=∃t f,v=c! t/\oH t [vN sv,vN u5,vN u6,c! f]/\KI
FV.1(R:rI)(H:Hp)(v:V)(l:rX):Prop:=∃a xs,rT/\oH a xs/\oO R xs l
aHQ{σ:eo}:ig fC [] sw vs oO R vs []:=fC.of fQ v5 H1 Q (q _ H1 GD vu Paired.nil)
at6{σ:eo}{a:α}(h:ig Ev e λ v H=>R H v a)(r:tT fC λ vs H=>oO R vs l)(hs:zV e):ig fC lC sw vs oO R vs (a::l):=fC.of (iu aI dX hs) v5 H1 Q (eT (h.later s1) λ v H2 s2 hv=>ce ri r.later B_ us e (q _ H3 Gg kx (Hc (hv.later s3 H4 s4) (e H4 s4))))
G3.1:d'->jT bt|DK p _=>Z p|_=>ac
N2{p:bt}(h:G3 e=Z p):∃x,e=DK p x:=by cases e<;>cases h;exact I_
inC.1:Const->jT cm|.fY r=>Z r|_=>ac
Um.1:d'->jT cm|.yp c _ _=>inC c|_=>ac
ahP{r:cm}(h:Um e=Z r):∃j x,e=.yp iX r j x:=by cases e with|yp c j x=>cases c<;>cases h;exact #[_,_,rfl]|_=>cases h
clL.1:kl->jT S4|[a,b,c,d]=>(Um a).bind λ r=>(G3 b).bind λ p=>(G3 c).bind λ k=>(G3 d).bind λ f=>Z (r,p,k,f)|_=>ac
Yn.1:d'->jT S4|.Cz l _ _=>clL l|_=>ac
aAQ{l:kl}{r:cm}{p k f:bt}(h:clL l=Z (r,p,k,f)):∃j p1 p2 p3 p4,l=Q0 r p3 f:=by(rw[PV l e l];((.cases h);.cases h);(.cases h);.cases h);(.rw[Eu h1 h,Eu h2 h,Eu h3 h,Eu h4 h];cases h;obtain⟨_,_,rfl⟩:=ahP h1;obtain⟨_,rfl⟩:=N2 h2;obtain⟨_,rfl⟩:=N2 h3;obtain⟨_,rfl⟩:=N2 h4;exact #[_,_,_,_,_,rfl]);.cases h
aI5{r:cm}{p k f:bt}(h:Yn e=Z (r,p,k,f)):∃j p1 p2 p3 p4 x1 bi,e=.Cz Q0 r p3 f x1 bi:=by cases e with|Cz l x y=>obtain⟨_,_,_,_,_,rfl⟩:=aAQ h;exact #[_,_,_,_,_,_,_,rfl]|_=>cases h
knd.1:Ls:=[("MAPS",1),("CANONICAL",0),("COMPATIBILITY",1),("PROPERTIES",0),("COMBINING",0),("FOLD",5),("SIMPLE_FOLD",6),("MIRROR",7),("PARTNER",8),("BRACKET",9),("DIGIT",11),("SCRIPT",10),("EXTENSIONS",10),("PROTOTYPE",9),("FLAGS",13),("WEIGHTS",11),("SEQUENCES",2),("CONTRACTIONS",0),("UPPER",2),("LOWER",3),("TITLE",4),("CONJUNCT",3)]
fa{p:α->Prop}{a:α}(h:p a)(r:∀x∈l,p x):∀x∈a::l,p x:=List.forall_mem_cons.mpr #[h,r]
aa3(A:a?):∀p∈knd,GI mg p.1 rZ p.2:=fa OB nt A.g.Ep A.g.L1 nt A.g.QI A.g.xj nt A.g.Cq A.g.SV nt A.g.abf A.g.Mw nt A.g.Ig A.g.Us nt A.g.apu A.g.JK nt A.g.VD A.g.JN nt A.g.Lu A.g.Xk nt A.g.aCJ A.g.awC (fa A.g.aBA nt A.g.anV A.g.um r7 h (nomatch h))
Sr.1(sc:uz)(cl:jR)(e:d'):fm:=match Yn e with|Z (r,p,k,f)=>dH (r=sv)&&(T0 (p,u5)&&(T0 (k,u6)&&(dH (f=u7)&&[p,k,f].all gq (RU==zR&&!(x==Aw)))))|ac=>false
YJ.1(sc:uz):gP->kl->fm|[],[]=>c2|Hb,e::es=>Sr sc cl e&&YJ sc l es|_,_=>false
Sj{σ:eo}{sc:uz}(A:A!)(hs:∀x,Cc x=RU):∀{l:gP}{es:kl},bh (YJ sc l es)->(∀cl∈l,∃f,pj u7=cv f)->tT fC sw vs fw (mR pj H) vs l:=by intro l;induction l with|nil=>(intro es h hf;cases es with|nil=>exact aHQ|fN _ _=>cases h)|fN cl l ih=>intro es h hf;rcases es with _|⟨e,es⟩;(.cases h);obtain⟨h1,h2⟩:=Bool.and_eq_true_iff.mp h;unfold Sr at h1;split at h1;(.rename_i r p k f he;obtain⟨j,p1,p2,p3,p4,x1,bi,rfl⟩:=aI5 he;rw[e9,e9,e9,e9,pg,pg]at h1;refine gJ h1 λ g1 g2 g3 g4 g5=>?_;subst g1 g4;(have gl:∀x∈[p,k,u7],Gl X x/\(x==Aw)=false:=λ x hx=>by have:=Hv g5 x hx;rw[e9,N9]at a6;exact #[by unfold Gl;rw[hs];exact eq_of_beq Nh,a6.2]);obtain⟨fa,TN⟩:=hf cl HH;have a1:=gl p G9;have a2:=gl k G9;have a3:=gl u7 G9;refine at6 rc (r4 iT [vN sv,vN u5,vN u6,c! fa] p7 ai (ag Qu aa3 A g2 a1.1 a1.2) d1 (ag Qu aa3 A g3 a2.1 a2.2) (lO TN a3.1 a3.2)) th v bx o3 bx a vR fa h TN (ih h2 λ cl' h'=>Ki hf cl' h'));.cases h1
yV.names:∀{l fO:gP},vq yV fO l->∀cl∈l,∃f,KI|[],_,_,cl,h=>GU|x::l,fO,h,cl,hc=>by rcases T3 hc with rfl|hc;(.refine ah h.1 l6 f h1;exact #[f,h1]);.exact yV.names h.2 cl hc
RM.1:ML->kl|[.Return Z (.Cz es _ _) _]=>es|_=>[]
ajx(A:a?):js "clauses_20_to_30" (RQ MJ Gu (λ _ v H=>Gq mR mg C0)):=c7 A.ajp aJB dV b0 ck λ a f aK A' em s H0 H E hr hp=>mA ld (Dt (es:=nB RM Fq) (Sj A (sc:=aw Fq) ck (by rw[vc]) λ cl h=>(Kh).names cl (List.mem_of_mem_take h)) bn vs H (by rw[iO h];decide)) (λ v H1 _ h=>h)
alx(A:a?):js "clauses_31_to_41" (RQ MJ Gu (λ _ v H=>Gq mR mg u9)):=c7 A.azE alQ dV b0 ck λ a f aK A' em s H0 H E hr hp=>mA ld (Dt (es:=nB RM Fb) (Sj A (sc:=aw Fb) ck (by rw[vc]) λ cl h=>(Kh).names cl (List.mem_of_mem_drop h)) bn vs H (by rw[iO h];decide)) (λ v H1 _ h=>h)
abc{R:md α β}{l':rX}{m m':GZ}(p:fw R l m)(h:fw R l' m'):fw R (l++l') (m++m'):=by induction p with|nil=>exact h|fN r t ih=>exact Hc r ih
zp{k:ak}(hk:oL k dK)(h:oH a xs):br H k a=et .tup xs:=KQ h hk rz
L7{k:ak}{v:V}{l:al}(hk:oL k dK)(h:cT H v l):cT B9 v l:=by refine ah h ad a e h;exact ub B6
auL{k:ak}{v:V}(hk:oL k dK)(h:xC H v u):xC B9 v u:=by cases u with|p x=>refine ah h ad a e h;exact ub B6|m x=>rw[KF h t vR y B6 (L7 hk t)]|s x=>refine hX h λ a y z e h t q=>?_;exact(b9 a y z e B6 (L7 hk t) (L7 hk q))
av2{k:ak}{v:V}(hk:oL k dK)(h:mR mg H v cl):mR mg B9 v cl:=by refine aO h λ t f e h m=>?_;exact(aE t f e B6 m)
RE{v:V}(s:kw)(h:mR mg H v cl):mR mg H' v cl:=by refine aO h λ t f e h m=>?_;exact(aE t f e uc m)
aD4{v:V}(h:xC H v u):∃a r,rT/\oH a (vN u.num::r):=by cases u with|p x=>refine ah h ad a e h;exact M2|m x=>rw[KF h t M2]|s x=>refine hX h λ a y z e h t q=>?_;exact M2
afx:∀{l fO:gP}{i:Y}{cl:jR},vq yV fO l->l[i]?=Z cl->vq cR ((CQ i).O7++fO) cl|[],_,_,_,_,e=>by simp at e|x::l,fO,0,cl,h,e=>by cases e;exact h.1|x::l,fO,i+1,cl,h,e=>by have:=afx (l:=l) (i:=i) h.2 LU;rw[List.take_succ_cons,List.reverse_cons,H9];rw[q5]
Nu.1(lu bM:Y):Prop:=(lu=0/\bM<14)\/(lu=1/\BB)\/(lu=2/\bM<3)
ayq:∀cl∈cls,Nu u5 u6:=by unfold Nu;rw[vc]
Ny{γ:Type}{R:md α γ}{f:β->γ}{m:GZ}(h:fw (λ x y=>R x (f y)) l m):fw R l (m.map f):=by induction h with|nil=>exact iv|fN r t ih=>exact Hc r ih
azF{σ:eo}{o e1 e2:d'}{bi:d9}{kk:ak}{d:bR}{lu:Y}(A:A!)(hr:bZ 1 X.A)(hk:Nu lu bM)(hR:tD)(ho:lT o b)(h1:io e1 (vN lu))(h2:io e2 (vN bM)){pl:B?}(fJ:kI G' f8 e1 [e2])(dY:kI [e2] f8 e2 [])(a_:zt zf [e2])(ht:DS lE (Rq pQ) G' (HY [ov] (getMethod ov "records" pl)) G'):mW lE (Rq pQ) G' (eD xC H v (jk d lu bM)):=by rcases hk with⟨rfl,hk⟩|⟨rfl,hk⟩|⟨rfl,hk⟩;((.rw[Ke aCA cy cy]);.rw[Ke Qi dB dB]);.rw[Ke aGa eG eG]
axe{bi p:d9}{k:Y}{x:bt}(i:Y)(hr:xB)(hN:jg (X.N[i]?=DJ))(hv:Rk mM)(hd:DL (x==Aw))(h_:PW bt)(he:zV e)(a_:D_):PE X lE Bt lC (λ σ H Q=>∃(cr:j?)(e?:k!)(f:ak)(a:α),t9 Ai Om f c3/\σ[i]?=Z cv f/\ig eO lC DI/\tO (G5 a/\J9)):=by rw[GB H Q I];obtain⟨cr,e?,f,a,G,h0,ha,q⟩:=zz;refine aO G λ fd ps hk hb G=>?_;refine Se i G hr hk hb dX hN hv hd h_ he a_ iG s σ H Q I (eF h0 _ ha LN);exact(aZ a dM (uo q).1 (q H2 s2).2)
aCk(A:a?):tG 9 "broken_clause" BZ BK [aN bm] ci (j0 S0 a H/\ze bT) m5 dL (j0 S0 a H/\gO (brk bT cls)):=vf A.aA4 Yf dV b1 ck λ q f aK A' em s H E hr hp=>by obtain⟨b,d,kk⟩:=q;rw[Fp jb Qx,KH Qx Yf.nd,lM (aP Ph (BO (Dc ao0 aI aI)) (aoY O (FT zi (cz (i:=1)) (FT zi Bs (FT zi GV (FT zi (cz (i:=4)) axT))))) (cH qP Hd (cz (i:=5)) (cH (iw (afC (abB (axe (α:=DU) (c3:=xF) (gd:=λ a=>m5 bm) 4 hr))) ta dg))) ta) D p,<-eT (iP (LM (ajx A) (NM ab)) P Gq mR mg C0 AN c0 () O9 O GM) λ u1 H1 s1 hu1=>eT (iP (LM (alx A) (NM ab)) P Gq mR mg u9 AN c0 () O9 O GM) λ u2 H2 s2 hu2=>?_];(rw[ju uo hu1 (λ a1 pH a9 oG yh=>?_) a9]);(rw[ju hu2.now (λ a2 pJ bu yT yJ=>?_) bu]);have l1:=iO yh;have l2:=iO yJ;have KA:pH.length=18:=l1;have Oa:pJ.length=17:=l2;refine #[a1,a2,pH,pJ,rfl,rfl,jY oG,jY yT,g8 (by rw[cx e KA KA]),(by rw[KA,Oa];decide),g8 (by rw[cx e Oa Oa]),λ _ tp Zt=>?_];have s3:=ga D0 (cV (o:=.tup xS)) Zt;refine iR iF jb λ Gx aq jc Lj=>?_;dsimp only at jc Gx;have MQ:=gi jc;(have pr3:fw (mR mg (br (upd H2 tp (.tup xS)) kk)) xS cls:=by have:=(abc yh yJ:fw (mR mg H2) xS (C0 18++u9 18));rw[t8 List.take_append_drop,gw bn x y (av2 MQ (RE (cV Zt) h)) a6]);have Ww:br (upd H2 tp (.tup xS)) kk tp=et .tup xS:=zp MQ aX;generalize pH++pJ=xs at s3 MQ pr3 Ww⊢;refine c0 tp l7 jY aX (Bf OL K tp (xs:=xs) sN i (∃x1 x2 x3 x4 x5:iY,a!=[lY,x1,x2,x3,x4,x5]/\oy H'/\br H' kk tp=et .tup xs/\fw (mR mg (br H' kk)) xs cls/\j0 S0 xf H'/\tU d (C0 i).O7/\uh cls=brk d (u9 i)) (rD ac ac ac ac ac O (e7 s3) Ww pr3 (OS s3) (λ p hp=>by simp at hp) O) Bw i kD (atf kD λ _ _ _ _ _ _ _ h _=>jY ff h) ?_ ?_);(.rintro i x a! H' hi⟨x1,x2,x3,x4,x5,rfl,sH,Wb,ik,kZ,Mf,CU⟩;(rw[dl (v7 (Ar ik hi) λ cl ib t f0 bW ht GN=>?_) bW]);refine ah (afx Kh ib) ad f1 Iw hC;rw[Ic]at hC;(have ef:f1=f0:=by rw[cx GN Iw Iw];rfl);subst ef;have o9:=EC ayq cl ib;refine #[t,_,rfl,jY ff ht,rfl,_,_,rfl,_,_,rfl,_,_,rfl,_,_,rfl,rfl,?_];have aQ:sE H' b d:=kZ.book;refine eT (azF A dp o9 aQ az a5 b6) λ rv H4 s4 pA=>?_;(rw[ju pA.now (λ lr xr cJ hlr aan=>?_) cJ]);refine iR Me λ _ aNr CA _=>?_;dsimp only at CA;(have Z6:u9 i=cl::u9 up:=by rw[P_ a8 e ib];rw[Ta a8,e]);generalize iB:zw=us at aan;refine c0 lr l7 ez hlr (Bf uD K lr (xs:=xr) (λ j d! H5=>∃x5:iY,d!=[lY,gx sv,gx u5,gx u6,cv f1,x5]/\mw ui H' H5 kk/\br H5 kk lr=et .lst xr/\fw (xC (br H5 kk)) xr us/\j0 S0 xf H5/\∀j' u,j'<j->us[j']?=Z u->bh vU) #[x5,rfl,e7 s4,KQ hlr CA rz,gw bn x y (auL CA h) aan,Me,λ j' u h=>Kl h _] (λ j d! H5 _ lH=>xn lH G_ h _ ez ff h) ?_ ?_);(.rintro j y d! H5 hj⟨x5',rfl,s5,ZC,HU,mK,b_⟩;refine ah (Ar HU hj) ad u hu fD;refine #[ye c (C0 i).O7 cl,BQ c cl,f1,(mY,y,u),hC,rfl,AH ip,λ H6 s6=>#[(jN (O0 s6) (b! LJ (e7 s6) fD) (by rw[y7 iB,QT hu]) Qx Mf),λ v H7 bw jB=>ce jB.2 vz]];(.rw[jn hg (vU=false)];have aBq:oy H7:=uG (HV ((e7 s6).jP bw));(rw[dl (df (aD4 (b! LJ ((e7 s6).jP bw) fD)) λ ar rr dw bo=>?_) dw]);refine eT (xW (i:=sv) (j:=u.num) au (zn ip λ H8 s8=>qe jY ud ff bo (cg (j:=0)))) FQ s8 (aBq.trans (e7 s8)) #[OJ jB.1 s8,?_];rw[CU,Z6];rw[alC];rw[iB,_B.DQ (j:=j) hu (by rw[hg];rfl) (λ j' y' jq yN=>by rw[b_ j' y' jq yN];rfl)];exact dM);.rw[jn hg bh vU];have KC:=(e7 (k:=kk) s6).jP bw;refine #[_,rfl,HV KC,a7 KC ZC,gw bn x y (b! LJ KC h) HU,jB.1,λ j' u' jq eE=>?_];by_cases e:j'=j;(.rw[f' hu eE eE,hg]);.exact b_ j' u' n6 oV jq e eE);.rintro d! H5⟨x5',rfl,s5,ZC,HU,mK,b_⟩;have hl:=iO HU;(have Gf:∀u∈us,bh vU:=λ u hu=>by obtain⟨j,hj⟩:=TW hu;exact b_ j u (by have:=qx hj;exact BP a6 hl) hj);refine ku (b! rD _ O (uG s5) o_ Wb) (gw bn x y (RE s5 h) ik) mK;(.rw[yD,ib,List.reverse_append];intro q hq;rcases E? hq with hq|hq;(.simp at hq;subst hq;rw[fX iB Gf]);.exact Mf q hq);.rw[CU,Z6];show(match EP with|Z u=>A8|ac=>brk d (u9 up))=_;rw[iB,Q' λ u hu=>by rw[Gf u hu];decide]);.rintro a! H'⟨x1,x2,x3,x4,x5,rfl,sH,Wb,ik,kZ,Mf,CU⟩;rw[iO ik,List.drop_length]at CU;rw[<-eT q_ FQ s8 (uG (e7 s8)) #[OW s8,?_],fX CU dM]
lx.1(H:Hp)(v:V)(l:xd):Prop:=e!<=300/\∃a,rT/\fy a IT se
mG.1(w:Y)(t:al):cm:=if Gd then -6 else Sq (bh (C1 w).isSome/\KS)
Iz(A:a?):wE "refusal" (RQ cY iW j! [vN bm,bT] ci c? bT ch kU (.fY (mG bm ch))):=ts A.refusal ak0 λ a e H hr hp U hU=>by rw[q? wn tv t,<-ah hp ad q hv hq,Jj hq];subst hv;((rw[wo mG,fz (bP gF p! hq au d3 A.g.VM) (aG (ag A.g.Lo) mn)];.rw[gy (by rw[op aeE])]);have iH:¬Gd:=by rw[kT ZF]);rw[gQ iH,<-aY oA nw Aa aMC wn az (eA (dI (bN (aT (Mi A) hr (aN q,t) eC au tm vW vl E9 nP S8 iH)))) Nm QS Nm eJ];(.rw[gQ gt (by rw[h.1,h.2]at h1;cases h1)]);.rw[ux,CS,CS]at h1;rw[rB h1]
tM.1(w n:Y)(t m:al):cm:=if Mb then -6 else if v9 w<0 then v9 w else Sq (MF/\Ag)
ady(A:a?):mo 4 "lines_refusal" (RQ cY ((Y×Y)×sD×j!) [vN hO,vN g6,tw,d2] ci (c? tw td/\c? d2 fc) kU (.fY (tM hO g6 td fc))):=bp A.arw U0 dV b4 ck λ a e H hr hp U hU=>by obtain⟨⟨wn,n⟩,⟨tv,t⟩,mv,m⟩:=a;rw[sK aS aU (ah aS λ q hv hq=>ah aU ad qm tX dR)];dsimp only at hv hq tX dR;subst hv tX;have nd:=U0.nd;((rw[wo tM,fz (bP gF p! dR b6 d3 A.g.VM) (aG (ag A.g.Lo) mn)];.rw[gy (by rw[op aeE])]);have iH:¬Mb:=by rw[kT ZF]);rw[gQ iH,ii im (xZ nd) (.fY v9 wn) (aT (Iz A) hr (wn,sV,t) d1 az a5 Ja),<-aY mu cM du Nm (aG du mn) IV h1];(.rw[gy (lf h1)]);rw[li (lh h1)];refine aY (lj (dr (dI w5 sZ au d3 A.g.aDA) jh (eA (dI (bN (aT (awY A) dp ((aN qm,m),sV,t) d1 b6 a5 il #[La,vl,E9 d? S8 iH])))))) Nd QS Nd eJ;(.rw[gQ gt (by rw[h.2,Rp ((1:cm)<=n),Rp (dt n<=65535)]at h2;cases h2)]);.rw[ux,CS,CS,e9,pg,pg]at h2;rw[rB #[by omega,h2.2]]
m7.2:=sB BK
fI.1(c:Cs)(a:m7)(H:Hp):Prop:=(∃dx,fy bm sz pU [("book",c! bT)])/\nY ed cd H
fI.later{a:m7}{H H':Hp}(h:fI c a H)(s:kw):fI c a H':=by rw[Kn h a9 a9,#[B1 Bq,Gv h2 s]]
U_{σ:eo}{o:d'}{bi:d9}{a:m7}(A:A!)(h:fI c a H)(ho:lT o bm)(hb:jg (Fy (FS o "book") o=f8 o)):lT (zX o "book" bi) bT:=by rw[qD h bu bu,cQ ho il (b9 _ dx _ D9 yY O' O) hb]
fI.cw{a:m7}{m:bt}(h:fI c a H)(hm:eZ (([("book",c! bT)]:lb).CN m)):tO (∃dx fs,H1 bm=Z sz pU fs/\FF):=λ H1 s1=>by rw[qD h bW bW,(cF dx _ D9 hm)]
IA(A:a?):sT 9 pU "sheet_of" (RQ cY (m7×(Y×OK)×j!) [Be,vN tw,d2] ci (oU/\E8 tw td/\c? d2 fc/\bh Si fc/\bO fc<=64) dL (∃q,nu/\kH c H q g6 td fc)):=En A.gu.atM as7 λ a e H hr hp U hU=>by obtain⟨dk,⟨wn,y⟩,tv,t⟩:=a;rw[jm gJ λ hD hy hT bJ ap=>?_];dsimp only at hy hT bJ ap;rw[gk,<-bg (Kx (axY A) hr (cu (U_ A hD az) tn JZ a5) DC)];(rw[Az λ _ _ cJ dw _ _ d7 fM _ _ iS jC ml=>ah fM ad wa kK hW];subst cJ dw d7 iS jC ml kK);exact(c0 (Hg,(wa,y),_,t) (jN Gv hD.2 s1 hW (b! gI s1 hT) bJ ap) λ v H2 s2 h=>h)
Iy{w:Y}{t:al}{f:R7}:(v9 w<0/\Fr w C2 f=O! (mG w t))\/(¬v9 w<0/\Sy/\KS/\∃y,E8 w y/\Fr w C2 f=f y):=by unfold mG yZ u_;by_cases h:Gd;(.rw[M0,M0];rw[Ax ab]);.rw[b? h,b? h];cases hw:C1 w with|ac=>rw[gQ gt (by cases h.1),Ax ab]|gU y=>dsimp only;cases hs:MC with|false=>rw[b? gt (by cases h.2),gy (.fB O)];rw[Ax ab]|c2=>rw[g! #[rfl,rfl],b? gt (by rcases h with h|h<;>cases h)];exact .fB #[ab,by exact Cy h,rfl,y,rfl,rfl]
TxD.2:=m7×iW j!
L4.2(a:TxD):g7:=tq Be d2
Hf.2(c:Cs)(a:TxD)(H:Hp):Prop:=oU/\c? d2 fc
rY{σ:eo}{bi:d9}(h:io e iX i)(hs:kI [e] f8 e []):mW tg [e] bi (lx H v [i]):=(r4 oj [iX i] (ae h ao hs)).imp th v h #[kO (1<=300),h]
Z8(l:al):Rh=0::Sd::IE l:=rfl
ints_map(l:al):(IE l).map l!=M6:=by rw[oX IE nC];rfl
o8(n:Y)(cs:y9 fm):bO (IF n cs)=n:=by rw[z8 IF]
OT{σ:eo}{a b:d'}{bi:d9}{l:al}(ha:io a (.fY 0))(hb:io b (vN e!))(he:ig Ev e λ v H=>gO l)(hl:e!<=200)(hs:kI [a,b] f8 a [b])(dY:kI [b] f8 b []):Ql [a,b] e (lx H v Rh):=(DP (r4 oj [.fY 0,vN e!] (ae ha (ae hb ao dY) hs)) he (by rw[el];exact hG (show _<=2000 by simp;exact asN hl) ab)).imp th v bx o3 bx q (eF (by rw[Z8];simp[IE];exact aqa hl) q e (by rw[h,Z8,uW,uW,ints_map];rfl))
avD(h:E8 n y):y.all=c2->y.keep=false:=by rw[np C1];split at h;(.cases h);.rename_i hn;cases h;intro h1;cases h2:n.testBit 3 with|false=>rfl|c2=>rw[jv (.fB (.f? #[h1,h2])) hn]
az7(A:a?)(T:it):JU (sT 8 pU "chances") L4 (ID (IF bO fc (T8 m9 y fc))):=En A.gu.asW acq λ a e H hr hp U hU=>by rw[JA t a acq.nd];rcases D2 Iy t t (f:=qq (ID (IF nP (T8 mO y t))))with⟨h1,h2⟩|⟨h1,iH,bJ,y,hy,h2⟩;(.rw[z? b6 b6 hx]);.rw[Jb b6 h1 jh (bg (OT ai (eS p! hq a5 (by rw[o8])) ?_ (by rw[o8];exact aJ8 iH))),<-nZ lJ atg hr (cu (U_ A hD az) tn JZ a5) DC];(rw[Az λ _ _ jx kd _ _ kj lZ _ _ oC nU qF=>ah lZ ad wa nJ hW];subst jx kd kj oC nU qF nJ);exact(c0 (Hg,(wa,y),sV,t) (Fu Gv hD.2 s1 hW (avD hy) vl bJ iH) λ v H2 s2 h=>h)
auz(t:al):ut t 0 nP=t:=by unfold ut;rw[Nat.sub_zero,List.drop_zero,Ot]
aHD(A:a?):JU (EO "width") L4 s? rZ (T9 m9 y fc):=En A.gu.aJe aay λ a e H hr hp U hU=>by rw[JA t a aay.nd];rcases D2 Iy t t (f:=qq s? rZ (T9 mO y t))with⟨h1,h2⟩|⟨h1,iH,bJ,y,hy,h2⟩;(.rw[z? b6 b6 hx]);.rw[Pz ?_ (KR A) ai];(rw[Az λ _ _ wB xp _ _ u0 B0 _ _ Jx Ks aFx=>ah xp ad sa as3 hS];subst wB u0 B0 Jx Ks aFx as3);exact c0 RN #[hS,wP,qR] ly v h (by rw[h];rw[y7 auz])
aDT(A:a?):JU (EO "measure") L4 s? rZ (T_ m9 y fc 0 bO fc):=En A.gu.azR R' λ a e H hr hp U hU=>by rw[JA t a R'.nd];rcases D2 Iy t t (f:=qq s? rZ (T_ mO y t 0 nP))with⟨h1,h2⟩|⟨h1,iH,bJ,y,hy,h2⟩;(.rw[z? b6 b6 hx]);.rw[Pz ?_ (Jk A) ai];(rw[Az λ _ _ aBp aEA _ _ aFr awp _ _ aHN aK2 arC=>ah aEA ad sa auA hS];subst aBp aFr awp aHN aK2 arC auA);exact(c0 RN #[hS,wP,qR] λ v H2 s2 h=>h)
yU.2(n:Y)(t m:al):fm:=n==0||(dH (T'<=n)||!I0 m)
Uy{w:Y}{t:al}{f:R7}:(tM w n t m<0/\Js E2 Fr w (yU n t m) f=s? (tM w n t m))\/(¬tM w n t m<0/\Sy/\KS/\n<=65535/\Ag/\∃y,E8 w y/\Js E2 Fr w (yU n t m) f=f y):=by unfold tM;by_cases h:Mb;(.rw[M0,g! (show E2 from h)];rw[Ax ab]);rw[b? h,b? Gt E2 h];rcases Iy (w:=w) (t:=t) (f:=f)with⟨h1,h2⟩|⟨h1,iH,bJ,y,hy,h2⟩;(.rw[rB h1,<-.f? #[h1,?_]];rw[<-h2];unfold yZ;unfold mG at h1;by_cases h6:Gd;(.rw[g! (show u_<nP from h6),g! (show u_<nP from h6)]);.rw[b? h6]at h1;rw[b? Gt LV h6,b? Gt LV h6];cases hw:C1 w with|ac=>rfl|gU y=>dsimp only;rw[hw]at h1;(have hs:MC=false:=by cases hs:MC with|false=>rfl|c2=>rw[g! #[rfl,hs]]at h1;rw[jv h1 ab]);rw[gy (.fB hs),gy (.fB hs)]);.rw[gQ h1];(have hb:(yU n t m=c2)↔¬(MF/\Ag):=by unfold yU T';cases I0 m<;>simp<;>omega);unfold yZ;rw[b? (show¬LV by unfold u_;exact arq iH),hy];dsimp only;by_cases hg:MF/\Ag;(.rw[g! hg,b? gt (by rcases h with h|h;(.exact hb.mp h hg);.rw[cx bJ h h])];exact .fB #[ab,iH,bJ,hg.1.2,hg.2,y,rfl,rfl]);.rw[b? hg,g! (.f? (hb.mpr hg))];rw[Ax ab]
U8{t:al}(h:Ag):B5 m t:=by rw[np T4];rw[e9,e9,NP]at h;refine #[L2 h.1,xz be];rcases h.2.2 with h|h;(.rw[jv (List.isEmpty_iff.mp h) be]);.simpa using h
LnD.2:=m7×(Y×Y)×sD×j!
X'.2(a:LnD):g7:=[Be,vN tw,vN td,d2.1,nr]
PX.2(c:Cs)(a:LnD)(H:Hp):Prop:=oU/\c? d2.1 d2.2/\c? nr tb
aqD(h:ka c.Ways H a y):∃dx fs,fy a sz c.Ways fs/\fs.lookup ("splits":bt)=et .bl y.split:=by obtain⟨dx,fs,h1,_,_,_,_,_,_,_,h2⟩:=h;exact(cF dx fs h1 h2)
akw(A:a?):RA (EO "fill") O? tb:=iD A.gu.ahD ZV dV b5 ck λ a e H hr hp U hU=>by obtain⟨dk,⟨wn,n⟩,⟨tv,t⟩,mv,m⟩:=a;rw[Ra (λ hD aJN qm tX dR=>ah aJN ad q hv hq) hv ZV.nd];rcases PI n m O? with⟨h1,h2⟩|⟨h1,iH,bJ,hn,wM,y,hy,h2⟩;(.rw[z? ip ip hx]);.rw[PA O? aBV tn (Ji (P:=iN v (v=.bl y.split)) JZ Bj ?_) du];((. (rw[dl (ah l? ad wa avu hW) avu]);refine df (aqD hW) λ dx fs g1 g2=>?_;exact(kX wa _ dx fs _ O g1 A.eU.cl A.eU.Wj g2 GC));. (refine AD dM λ _ _ arA aBW _ _ alf aEr _ _ ato aq5 _ _ aCZ akP agK=>ah aBW ad sa Nn hS;subst arA alf aEr ato aq5 aCZ akP agK Nn);exact c0 ((sa,vk,y,t),n,wl,m) #[hS,La,U8 wM] ly v h (by rw[<-hL];exact h));. (rw[ww bq (λ Mv hl=>ah Mv ad ql Kc f9) Kc]);exact bg (OT ai p! f9 i0 rc i0 vE H2 s2 (by rw[hY e mS ql f9]) dn afb hl)
aBs(A:a?):RA (EO "ragged") Pa ch.2.2:=iD A.gu.aBP UT dV b5 ck λ a e H hr hp U hU=>by obtain⟨dk,⟨wn,n⟩,⟨tv,t⟩,mv,m⟩:=a;rw[Ra (λ hD NV qm tX dR=>ah NV ad q hv hq) hv UT.nd];rcases PI n m Pa with⟨h1,h2⟩|⟨h1,iH,bJ,hn,wM,y,hy,h2⟩;(.rw[z? ip ip hx]);.rw[PA Pa ahU B8 du];(. (rw[Az λ _ _ Nl Jy _ _ aD1 aqA _ _ aAE aH0 aBG=>ah Jy ad sa aB8 hS];subst Nl aD1 aqA aAE aH0 aBG aB8);exact c0 ((sa,vk,y,t),n,wl,m) (fH hS La (U8 wM) kW (n<65536) Nat.lt_succ_of_le hn) ly v h (by rw[<-hL];exact h));. (rw[ww bq (λ aGV hl=>ah aGV ad ql azt f9) azt]);exact bg (OT ai p! f9 i0 rc i0 vE H2 s2 (by rw[hY e mS ql f9]) dn afb hl)
P7{k:ak}(h:eZ (H2 k)):br (upd H2 k o) k=H2:=by funext b;rw[ko];split;(.rw[xa];rw[e,h]);.rw[xa];rw[aV e]
auT{t:TE}(h:PE X e t):PE X e (λ σ H Q=>∃l xs,k9 l xs/\t σ Nj λ v H2=>eZ (H2 l)->Q v qB H2 l xs):=by rw[GB H Q I,<-df zz λ l xs hl ht=>?_];((have be:∀{b:ak},eZ (H b)->b≠l:=λ hb e=>by rw[f' hl hb hb]);have AA:∀{b:ak},eZ (H b)->eZ (br H l b):=λ hb=>by rw[ko];split;(.rfl);.exact hb);have og:tQ b ak (fy b o->(∀ys,o≠.lst ys)->br H l b=Z o):=λ hb ho=>KQ hb hl (ho _);obtain⟨hz,aF,n,rv,hg⟩:fu x9 X.w H uT l (.lst xs):=I.aR l _ hl;(have lK:l∉X.fs:=λ hb=>by refine iR (I.ok.mH.mem hb) λ _ o ho _=>?_;have:=Ua l o ho (I.ok.uA l hb) λ z=>I.ok.yF l z hb;rw[vH hl]);have pC:l≠X.env.locals:=λ e=>be I.free e.symm;(have I1:Inv X ((l,({cls:=Mh,data:=.seq aF.toArray n}:Obj))::iG) σ Nj s:=by(refine #[I.ok,I.os,I.bare,#[I.base.keep,I.base.slot,λ b o h1 h2 h3=>AA Q8,I.base.there,λ b ys h1=>og (I.base.pE b ys h1) r7 e qg,λ b o u h1=>og (I.base.oa b o u h1) r7 e qg,ad b ps h1],I.loc,I.cell,AA I.free,λ x c e=>AA (I.kY x c e),cA p hp,ad b o hb,I.len];(.rw[Q3 I.base.o5 b (og hm r7 e qg)]);.rcases E? hp with hp|hp;(.refine bX (I.pin p (Uc _ hp)) ad g1 g2 g3;exact #[g1,AA g2,g3]);.rcases T3 hp with rfl|hp;(.exact(jN hg (by rw[ko];rw[n1]) pC lK (λ v e=>qg)));.refine bX QD I.pin p hp ad g1 g2 g3;exact #[g1,AA g2,g3]);.rw[R! (I.aR b o ff hb) (og h1 r7 e qg) (og h1 r7 e qg)]);refine bf (h _ s σ Nj _ I1 ht) λ v s' bx=>aO bx λ x H2 I2 r q=>?_;refine bX QD I2.pin (l,_) HH l6 g1 g2;have q':=q g2;((have aGH:tQ b ak (H2 b=Z o->b≠l):=λ hb e=>by rw[f' g2 hb hb]);have tj:tQ b ak (H2 b=Z o->upd H2 l (.lst xs) b=Z o):=λ hb=>by rw[aV (aGH hb)];exact hb);(refine(aE x _ #[I2.ok,I2.os,I2.bare,#[I2.base.keep,I2.base.slot,MZ b o h3,I2.base.there,λ b ys h1=>tj (I2.base.pE b ys h1),λ b o u h1=>tj (I2.base.oa b o u h1),ad b ps h1],I2.loc,I2.cell,?_,ad x c e,cA p hp,ad b o hb,I2.len] r q');(.rw[aV (be Q8)];exact I2.base.free b o h1 h2 h3);.rw[Q3 I2.base.o5 b (tj hm)]);((.rw[aV (be I.free)];exact I2.free);.rw[aV (be (I.kY x c e))];exact I2.kY x c e);(. (have n8:p∈X.pn++(l,({cls:=Mh,data:=.seq aF.toArray n}:Obj))::iG:=by rcases E? hp with hp|hp;(.exact Uc _ hp);.exact Ki Ud _ hp);refine bX (I2.pin p n8) ad k1 k2 k3;refine #[k1,?_,k3];rw[aV (be (I.pin p hp).2.1)];exact k2);.by_cases e:b=l;(.rw[f' aX hb hb,(pq hz aF n rv g1)]);.rw[aV e]at hb;rw[R! (I2.aR b o hb) (tj h1) (tj h1)]
af1{o2:HO}(s:mw lz z H2 z)(h2:H2 z=Z o2):aj sF z o2 H2:=λ a o h=>by by_cases e:a=z;(.subst e;rw[aX]at h;rw[h2,<-h]);.rw[aV e]at h;(have h1:br H z a=Z o:=by rw[ko,gQ e,h]);exact ff Bq
jj.ins{C' e_:ak}{d:bR}{gN:lb}(h:jj C H b d)(hz:fy z (.ins C' e_ gN))(be:b≠z):jj C xc b d:=by obtain⟨F,dx,fs,pa,p0,p1,p2,h1,h2,h3,h4,h5,h6,h7⟩:=h;exact #[F,dx,fs,pa,p0,p1,p2,by rw[aV be];exact h1,h2,h3,sM hz h4 _,rb (gM Z5) _ hz h5,rb (gM TV) _ hz h6,rb (gM aed) _ hz h7]
IH{C:ak}{H:Hp}{b kk z C' e_:ak}{d:bR}{gN:lb}{o:HO}(h:bz C H b d kk)(hz:fy z (.ins C' e_ gN))(hf:eZ (gN.lookup LQ)):bz C xc b d kk:=by obtain⟨hp,dx,fs,mr,sr,co,aq,h1,h2,h3,h4,h5,h6,h7,h8,h9,eW,eB⟩:=h;(have be:b≠z:=λ e=>by subst e;obtain⟨_,LZ,fs2,pa,_,_,_,g1,g2,_⟩:=hp;rw[cx hz g1 g1,cx hf g2 g2]);exact #[hp.ins hz be,dx,fs,mr,sr,co,aq,by rw[aV be];exact h1,h2,h3,h4,h5,h6,h7,rb zG _ hz h8,rb A_ _ hz h9,sM hz eW _,eB]
lQ.2:=ak×ak×al
d4.1(c:Cs)(K:h!)(r:lQ)(n:Y)(H:Hp):Prop:=(∃dx,fy r.1 sz nR [RS o?,("at",vN n)])/\aC K H o? G6 r.2.2
dA.1(z:ak)(H H2:Hp):Prop:=mw lz z H2 z
pZ(s:aj H H2):dA z H H2:=e7 s
dA.trans{z:ak}{H H1 H2:Hp}(a:dA z H H1)(b:dA z H1 H2):dA z H H2:=nO a b
C3{z:ak}{H:Hp}{o:HO}:dA z H xc:=λ a u h=>by rw[tN h];split at h;(.cases h);.rw[xa];rw[b? e,aV e];exact h
C4(s:dA z H H2)(h:fy a o)(be:a≠z):H2 a=Z o:=ff n0 (by rw[ko,gQ be,h])
Dj{dx:ak}{fs:lb}(hz:E4)(s:dA z H H2)(h:aC K H a xs):aC K H2 a xs:=by rcases h with h|h;(.rw[Qp o (s.at_ h (vt h hz rz)) (s.at_ h (vt h hz rz))]);.exact .fB h
uF(s:aj H H2)(h:aC K H a xs):aC K H2 a xs:=by rcases h with h|h;(.rw[Qp o uc uc]);.exact .fB h
d4.later{r:lQ}(h:tW r)(s:kw):f_ r n H':=by rw[Kn h aS aS,#[B1 Bq,uF s h2]]
Qj(x y z:V):bK "at" z ([("numbers",x),("at",y)]:lb)=([("numbers",x),("at",z)]:lb):=by refine(Pg).jP (r? (List.cons _) ?_);exact gy O
MH{σ:eo}{o:d'}{bi:d9}{r:lQ}(A:A!)(h:d4 c X.K r n H)(ho:lT o r.1)(hb:jg (Fy (FS o "numbers") o=f8 o)):lT (zX o "numbers" bi) o?:=by rw[PD aU aU A.fR.abb]
HE{σ:eo}{o:d'}{bi:d9}{r:lQ}(A:A!)(h:d4 c X.K r n H)(ho:lT o r.1)(hb:jg (Fy (FS o "at") o=f8 o)):io (zX o "at" bi) (vN n):=by rw[PD a9 a9 II]
tM0.1(C:ak)(m:bt)(i:Y)(c3:lc)(cr:j?)(gd:lV)(e?:k!):TE:=λ σ H Q=>∃a b,σ[i]?=Z lY/\(∃dx fs,fy b Dp/\FF)/\c3 a=[aN b]/\cr a H/\vM Dm Dk (Q v H2)
qA{k:Y}{x m:bt}{p bi:d9}{pl:B?}(i:Y)(cl:dQ X.K C)(F:Do Ai tY C m cr)(hr:xB)(hN:jg (X.N[i]?=DJ))(hv:Rk mM)(hd:DL (x==Aw))(h_:PW bt)(ht:jg (f8 lE (.Ib Bt m pQ) []=(do let ov<-f8 Bt;standAt TL;let(f,first)<-EN ov m pl;Pm f [] []))):PE X lE (.Ib Bt m pQ) [] t9 (tM0 C m i c3):=by rw[Mk f hb G,GB H Q I];obtain⟨a,b,h0,⟨dx,fs,h1,h2⟩,ha,h3,q⟩:=zz;exact ae1 (Co hN hv hd h_) cl hm G hr hb iv ni ht iG s σ H Q I #[_,h0,b,dx,fs,rfl,h1,h2,a,by rw[ha];rfl,h3,q]
CO(A:a?):Fv 1 nR "take_number" cY (lQ×Bp) [aN hO] ci (f_ bm bT H/\y![un]?=Z ch) r5 (dA hO) dL (v=vN ch/\f_ bm (un+1) H):=Ho A.fR.ap5 afp dV b1 ck λ q f aK A' em s H E hr hp=>by obtain⟨⟨ra,ca,nl⟩,n,x⟩:=q;rw[Fp hR hx,KH hx afp.nd];have aQ:tW k?:=hR;rw[gg iF aQ λ bu h2=>gn bu dx h1];rw[lM eY dz Bu aI (aco sP kb abv) ji pe D p,<-DZ x (cO (MH A aQ az) (HE A aQ az) AN (uF s1 h2) (cg (by rw[yv];rw[y7 hx];rfl))) cA H1 s1];have hZ:=D9;rw[qW #[_,rfl,ra,nR,dx,_,vN n,rfl,hZ,nS,II,rfl,dt n,1,rfl,rfl,dx,_,hZ,RK,_,rfl,?_] (p _ _ ((pZ s1).jP C3) #[rfl,#[dx,?_],Dj hZ C3 (uF s1 h2)])];rw[aX,Qj];rfl
agl{nl:al}{k:Y}(h:Ge (n+k)):gS (nl.map vN) Z dt n Z mx (n+k)=jE zy (C6 n) vN:=by rw[LO vN vm h];rw[oX ut CZ]
aiw{σ:eo}{o lo hi:d'}{bi p2:d9}{Po P:w2}{j:cm}(ho:ig Ev o Po)(hl:io lo iX i)(hh:io hi iX j)(hx:∀u H1,qh->bc (Po u) H1->∃q xs,u=sV/\aC X.K H1 q xs/\∀p,eZ (H1 p)->bc (P (.ref p)) qB H1 p (gS xs Z i Z j)):ig Ev Dw (.Slice Z lo Z hi ac p2) bi P:=Q1 (GP Kv aI (zm aI) (zm aI)) Os (ma ri hl.later λ H3 s3=>#[i,rfl,ma (hh.later ES) kx #[j,rfl,by(rw[ju (hx u H4 Kw ga (hu.later (l_ s4))) (λ a xs bW h1 h2=>?_) bW]);exact(aE a xs O h1 (λ l hl=>q _ _ D0 l_ L6 cV hl (h2 l hl)))]])
RwD.2:=lQ×iW iW (ak->Prop)
HM(A:a?):Fv 2 nR "take_row" BZ RwD [aN hO] ci (mE fc H/\f_ bm bT H/\y![un]?=Z d2/\bT+1+d2<=bO y!) r5 (dA hO) dL (gD fc H v sG xA a.1.2.2 (un+1) d2/\f_ bm (un+1+d2) H):=Ho A.fR.aoM W1 dV b1 ck λ q f aK A' em s H E hr hp=>by obtain⟨⟨ra,ca,nl⟩,n,k,S⟩:=q;refine dm hp λ hS hR hx hle=>?_;dsimp only at hS hx hle⊢;have nd:=W1.nd;have aQ:tW k?:=hR;rw[gg iF aQ λ cJ h2=>gn cJ dx h1];rw[lM (aP dz Bu (qA 0 nS (CO A) hr) eY dz m? aI (aco sP pe abv) ji Hm) D p,<-g9 (fK (oe,n,k) ra O n? dx h1) #[aQ,hx] BJ bw jB ?_];obtain⟨rfl,fj⟩:=jB;have Hj:f_ k? kP H1:=fj;rw[gg iF Hj λ dw g2=>gn dw vQ g1];(have ny:mE S H1:=λ x hx=>by obtain⟨o,ho⟩:=hS x hx;by_cases e:x=ra;(.exact l7 (by rw[fX e g1]));.exact #[o,C4 bw ho e]);refine eT (iP aiw P (gD S H v zy (C6 kP)) (MH A Hj az) (HE A Hj az) (uf y (.fY mx (kP+k)) (aW bV (HE A Hj az) au) (by congr 1)) (w! zT ca (uF s2 g2) λ p hp H3 s3=>c0 p ((ny.later s2).off hp) (by rw[<-agl hle];exact wh))) λ v H2 s2 hv=>?_;(rw[ww bL (λ qv d7 Ee iI=>?_) d7]);have EW:=iL g1;rw[qW #[_,rfl,ra,nR,vQ,_,vN kP,rfl,EW,nS,II,rfl,_,rfl,mx kP,dt k,rfl,rfl,vQ,_,EW,RK,_,rfl,?_] (p _ _ (bw.trans ((pZ s2).jP C3)) #[c0 qv Ee (lR EW iI (λ _ _ _ e=>qg)),#[vQ,?_],Dj EW C3 (uF s2 g2)])];rw[aX,Qj];rfl
aAm(A:a?):mi mj w 1 "Reader" nR cY (ak×al) [aN bm] ci (aC K H bm Br vN) dL (∃q,nu/\d4 c K (q,bm,cd) 0 H):=by rw[<-CG A.Reader A.fR.init aHA dV b2 ck λ a f aK A' em s E z dx H1 hr hz om be hp=>?_,wH ca nl];dsimp only at hp⊢;(rw[iM (aP tL (cH tL)) o! D n];have s0:=B4 (o:=.own z) (o':=zb nR dx []) hz om;have mc:tQ H' Hp (rU->my (upd H' z o)):=λ s' b' o' hb=>by rw[aV (c8 hb hz)];exact kS s');rw[Kj (qT (fs:=[]) nS A.fR.abb ab au) H2 fT];cases dM;refine im ma (.fY 0) ai wm s3 #[_,rfl,z,nR,dx,_,rfl,wh,nS,II,RH,?_];refine n _ _ Q_ kx c0 z #[dx,?_] (uF ((Q_).jP s4) hp);exact db aX
aHC(A:a?):sT 1 nR "is_done" (RQ cY (lQ×Y) [aN hO] ci f_ bm cd H kU (.bl (Hs (jw a.1.2.2<=cd)))):=iD A.fR.auk avL dV b1 ck λ a e H hr hp U hU=>by obtain⟨⟨ra,ca,nl⟩,n⟩:=a;have hR:tW k?:=hp;rw[ii hU _,<-aG (gE eL (HE A hR az) (dq (m:=IJ) jK (MH A hR az) zJ zT ca vW (uF s1 hR.2) KW)) mn];dsimp only;congr 1;exact S6 iU S7
Ro:∀{l:al}{i:Y}{hv:Su}{ns:Su},N' i hv l=.ok ns->e!=4*pB|[],i,hv,ns,h=>by cases h;rfl|[_],i,hv,ns,h=>GU|[_,_],i,hv,ns,h=>GU|[_,_,_],i,hv,ns,h=>GU|a::b::c::d::l,i,hv,ns,h=>by rw[_B.RT]at h;generalize(([a,b,c,d].all λ(x:Y)=>dH (x<128))&&_)=q at h;cases q with|false=>cases h|c2=>rw[n1]at h;cases hm:N' up (_B.ej [a,b,c,d]::hv) l with|ur e=>rw[cx hm h h]|ok m=>rw[cx hm h h];have:=Ro hm;simp only[sn];rw[cS aoH]
awl{p s n:al}(ap:i1+d?+s.length+yo<=8192):(∃f,IK p m s n=xl f/\BV (p,m,s,n)=rH)\/(BV (p,m,s,n)=[]/\∃d:bR,AY (p,m,s,n) d/\ze d/\xT/\IK p m s n=(match Kz with|Z f=>xl f|ac=>.ok hH)):=by unfold BV IK;dsimp only;cases h1:ou ac p with|ur f=>rw[mJ AZ f]|ok ps=>cases h2:Dq ac m with|ur f=>rw[mJ AZ f]|ok ms=>cases h3:yl (s.length+1) 0 ac s with|ur f=>rw[mJ AZ f]|ok ss=>unfold pO;cases h4:SE [] n with|ur f=>rw[mJ AZ f]|ok ns=>dsimp only;by_cases h5:0<pB/\pB<3;(.rw[g! h5,g! h5];rw[mJ GL O]);.rw[b? h5,b? h5];refine bX (_B.Ka h1) l6 p1 p2;refine bX (_B.Td h2) l6 m1 m2;refine bX (_B.Q2 h3) l6 s1 s2;(have hw:Mt.walked #[yH Io ps,yH nK ms,yH yI ss,ns]=vS p:=by rw[_B.al0,_B.aBL ps BT (p1 x hx).bM];unfold vS;rw[<-(El h1).2]);rw[oX AJ hw];by_cases h6:4096<vS p;(.rw[g! (show Mt.WALK<vS p from h6),g! h6];rw[mJ GL O]);.rw[b? Gt (Mt.WALK<vS p) h6,b? h6];have J:AY (p,m,s,n) #[ps,ms,ss,ns]:=#[ap,h1,h2,h3,by have:=Ro h4;show pB=yo/4;rw[cS af7]];(refine .fB #[rfl,#[ps,ms,ss,ns],J,#[J.dc,by show pB=0\/3<=pB;exact agm h5],#[p2.imp xz h,m2.imp xz h,s2.imp xz h],rfl];(.rw[np _B.nN,afd h]);.rw[np _B.GJ,afd h]);.rw[np _B.Hh];rcases h with h|h<;>omega
alE{ys:g7}{ls:al}(h:fw (λ v n=>v=vN n) ys ls):ys=ls.map vN:=by induction h with|nil=>rfl|fN r t ih=>rw[r,ih];rfl
awm(y z:V):bK "book" z ([("book",y)]:lb)=([("book",z)]:lb):=by unfold bK;rw[n1]
vT.later{v:V}{r:uU}(h:vT H v r)(s:kw):vT H' v r:=by refine zK h λ q v0 v1 v2 v3 e h k0 k1 k2 k3=>?_;exact(kX q v0 v1 v2 v3 e uc F3 k0 F3 k1 F3 k2 F3 k3)
Wt{σ:eo}{a:d'}{bi:d9}{q:ak}{l:al}{f:NH}(ha:io a iX (-5))(he:lT e q)(hq:fy q Lx)(hl:l=rH)(hs:kI [a] f8 a []):Ql [a] e qo #[-5,rH,ac]:=by subst hl;refine(DP (xs:=[iX (-5)]) (ys:=jE rH vN) (r4 oj [iX (-5)] (ae ha ao hs)) (he.imp AC H1 q nW) kO (3<=uR)).imp th v bx o3 bx q (eF kO (3<=300) q e h)
Mm.2(B:so)(r:uU):so×T5:=u! B (.book r.1 o? xw xv)
aK9(A:a?)(T:it):Fv 10 pU "hand_over" cY (m7×V×uU) oN bT ci (oU/\vT H bT ch) r5 (dA hO) dL (∃bk:BK,fI c (mZ,bk) H/\z2=(Mm m9 ch).1/\qo (Mm m9 ch).2):=Ho A.gu.aHm ac5 dV b2 ck λ q f aK A' em s H E hr hp=>by obtain⟨⟨da,bk⟩,rv,⟨rp,rm,rs,rn⟩⟩:=q;rw[sK hD aS (zK aS λ ra v0 v1 v2 v3 pA xY k0 k1 k2 k3=>?_)];have rW:fI c (da,bk) H:=hD;dsimp only at pA xY k0 k1 k2 k3⊢;rw[p_ pA ac5.nd];have hRr:vT H M_ (rp,rm,rs,rn):=(kX ra v0 v1 v2 v3 O xY k0 k1 k2 k3);rw[lM (aP (iw dy ta dg) eY dz m? aI E! eY dz vX aI dz m? (xU (aCk A) hr) eY E! (ij sP r' O) ta) D p];have qC:Mm z2 (rp,rm,rs,rn)=if J7 then(G! bk.2.1,s? (-6))else(match IK rp rm rs rn with|xl f=>(G! bk.2.1,#[-5,rH,ac])|.ok A=>(A,O! 0)):=rfl;(refine ce (bP (i:=mx (CP+yK+yO+IL)) gF oD (agI (ns:=[nc CP,yK,yO,IL]) O A.g.arD (Dh 4 (R:=λ _ v n=>v=vN n) (ls:=[CP,yK,yO,IL]) O nd Qs ["self","rows","broken","book","row"] Kp ("row",4) au zJ nX ra ez gY xY ck (i8 kO (4<=10000)) O (λ s' dG C cl fp k x z H1 s1 hk hz=>?_) (λ _ _ _ _ _ h=>h) (λ _ _ _ _ _ _ _ h=>h) sY) Bj ?_) l! (by rw[rQ aFK]) d3 A.g.av0) il vz;(. (obtain⟨l,hl,rfl⟩:∃l,c? x l/\z=e!:=by match k,hk,hz with|0,hk,hz=>cases hk;cases hz;exact ce k0 O|1,hk,hz=>cases hk;cases hz;exact ce k1 O|2,hk,hz=>cases hk;cases hz;exact ce k2 O|3,hk,hz=>cases hk;cases hz;exact ce k3 O|k+4,hk,hz=>simp at hk);exact dq (m:=e!) jK du w! (by rw[oJ K7 vr ga s2 hl]));. (rw[ju l? (λ a ys aU ha pr=>?_) aU]);refine f7 a ez ?_;rw[ha,alE pr];rfl);(. (have hb:J7:=by rw[mP];show 8192<_;rw[cS ahJ]);refine eT (rY (ag A.g.Lo)) λ v H2 s2 hv=>p v H2 ri pZ ku aZ bk ri C7;(.rw[qC,g! hb]);.rw[qC,g! hb];exact dM);have hb:¬J7:=λ h=>wC hx (by have:8192<Jp:=h;rw[cS Int.lt_of_toNat_lt]);have ap:Jp<=8192:=Cy hb;rw[b? hb]at qC;refine eT (aT lJ aHB dp (M_,rp,rm,rs,rn) zH eR #[ri hRr.later,ap]) λ bv H2 s2 si=>?_;(rw[Ak si.now qb xK]);dsimp only at xK;have j8:=ga s2;rcases awl ap with⟨f1,hj,fD⟩|⟨fD,d,J,FD,SD,hj⟩;(.rw[fD]at xK;refine(af c2 (nQ a5 n3 H3 s3 (by rw[oJ (sX (l:=[f1.rule,f1.place])) f7 qb MM])) fx (je ?_));refine eT (Wt d3 A.g.abP a5 MM O) λ v H4 s4 hv=>p v H4 QW pZ ku aZ bk QW C7;(.rw[qC,hj]);.rw[qC,hj];exact dM);rw[fD]at xK;refine(af C2 (nQ a5 n3 H3 s3 (by rw[oJ (sX (l:=[])) f7 qb MM])) fx (jQ ?_));have qG:=j8.trans s3;refine eT (tJ (WZ (λ x=>∃o,fy x o) A) dp (M_,(rp,rm,rs,rn),d) zH j7 #[λ x cy=>cG cy λ o ho=>#[o,db a7 qG ho],(kX ra v0 v1 v2 v3 O vW db a7 qG xY EF k0 EF k1 EF k2 EF k3),J]) λ bkv H4 s4 DO=>?_;(rw[dl (fW DO.now λ qk kk bu hnk Hw jc=>?_) bu]);dsimp only at Hw;have jb:j0 S0 GH H4:=#[Hw,[],jc,λ n v e=>(by cases e),ug,ug];refine(af GH eC b6 xx #[#[OS s5,FD],λ bv2 H6 bw jB=>?_]);(rw[dl (iR jB λ ayd qb2 bW wq=>?_) bW]);dsimp only at wq;rw[apc SD]at wq;(have tS:aj H H6:=λ a o ha=>by(have pd:a≠kk:=λ e=>by subst e;exact hnk #[o,ha]);have h5:=a7 s5 db a7 qG ha;exact ff a7 bw (by rw[ko,gQ pd,h5]));have auM:nY ed GH H6:=BM.book ayd;cases Ub:Kz with|gU f2=>rw[Ub]at wq hj;refine(af c2 (nQ a5 n3 H7 s7 (by rw[oJ (sX (l:=[f2.rule,f2.place])) f7 qb2 M9])) (λ H7 s7=>je ?_));refine eT (Wt (l:=[f2.rule,f2.place]) d3 A.g.abP a5 M9 O) FQ s8 (pZ (IN (Og s8))) ku aZ bk (C7 (IN (Og s8)));(.rw[qC,hj]);.rw[qC,hj];exact dM|ac=>rw[Ub]at wq hj;rw[<-(af C2 (nQ a5 n3 H7 s7 (by rw[oJ (sX (l:=[])) f7 qb2 M9])) (λ H7 s7=>jQ ?_)),gg (C7 (IN s7)) iN cJ gn cJ dx HW,<-#[_,rfl,_,rfl,da,pU,dx,_,rfl,HW,yY,O',RH,?_]];(refine eT (rY ai) FQ s8 ((pZ (IN s7)).jP (dA.upd.trans (pZ s8))) ku aZ GH #[B1 ud ?_,CV (IH Gv auM s7 HW O) s8];(.rw[aX,awm]);.rw[qC,hj]);.rw[qC,hj];exact dM
aC7(A:a?):mi mj w 7 "Desk" pU MJ Gu (λ _ v H=>∃q bk,nu/\fI c (q,bk) H/\z2=Mt.NOBOOK):=by refine CG A.jS A.gu.init atF dV b1 ck λ a f aK A' em s E z dx H1 hr hz om be hp=>?_;(rw[iM (aP (ij sP aI O) dg) o! D n];have s0:=B4 (o:=.own z) (o':=zb pU dx []) hz om;have mc:tQ H' Hp (rU->my (upd H' z o)):=λ s' b' o' hb=>by rw[aV (c8 hb hz)];exact kS s');rw[Kj (iP qT P (∃q kk,nu/\sE H q #[[],[],[],[]]) (fs:=[]) yY O' ab (Kx (WZ (λ _=>False) A) dp B8 (Dt (cu q_ (cu q_ tn q_ q_)) bn vs H (by(refine AD h λ _ _ aS _ _ _ aU _ _ _ a9 _ _ _ bu _ bW=>?_;subst aS aU a9 bu bW);exact(ab:4<=100))) LN)) H2 fT];(.obtain⟨v,_,rfl,⟨a,_,rfl,ha,v0,_,rfl,g0,v1,_,rfl,g1,v2,_,rfl,g2,v3,_,rfl,g3,rfl⟩,rfl⟩:=dM;exact(c0 (aN a,([],[],[],[]),#[[],[],[],[]]) #[λ _ h=>If,(kX a v0 v1 v2 v3 O (.fB ha) g0 g1 g2 g3),#[kO (0<=8192),rfl,rfl,rfl,zW ((0:Y)=0/4)]] λ v H3 _ bx=>fW bx λ q kk e _ h _=>(cF q kk e Lz h eh _)));. (rw[ww df (λ q kk fM hB=>?_) fM]);exact n _ _ Py kx (aE z (q,#[[],[],[],[]],kk) O #[B1 db aX,CV (IH hB fT O) s4] O)
Q9{r:lQ}(hD:fI c dk H)(hR:tW r):dk.1≠r.1:=λ e=>by rw[qD hD iS iS,gg hR iN jC gn jC e_ h2];rw[e,h2]at h1;have:=r? (λ o:jT HO=>match o with|Z a7 .ins fs=>fs.length|_=>0) h1;rw[jv (show(2:Y)=1 from a6) ab]
fI.keep{r:lQ}{n':Y}(hD:fI c dk H)(hR:tW r)(s:dA r.1 H H2)(eP:f_ r n' H2):fI c dk H2:=by have be:=Q9 hD hR;rw[Kn hD ml ml,gg hR iN kK gn kK e_ g1,gg eP iN jx gn jx LZ g2,#[B1 (s.at_ h1 be),CV (IH h2 g1 O) (af1 s g2)]]
d4.keep{r:lQ}(hD:fI c dk H)(hR:tW r)(s:dA dk.1 H H2):f_ r n H2:=by have be:=Q9 hD hR;rw[qD hD kd kd,gg hR λ kj g2=>gn kj e_ g1];exact #[#[e_,s.at_ g1 (sg be)],Dj h1 s g2]
C8.1(k w:Y)(t:al):Ue:=if k=2 then .chances w t else if k=3 then .width w t else .measure w t
TaD.2:=m7×iW (lQ×iW Bp)
aiy(A:a?)(T:it):tG 11 "text_answer" BZ TaD tq Be c! d2.1 ci (oU/\f_ d2 nr H/\rE[vx]?=Z w0/\rE[vx+1]?=Z n5/\nr+1+1+n5<=bO rE) (λ _ _ _=>True) dL (oU/\f_ d2 (wT+n5) H/\qo (u! m9 (C8 bT w0 sG xA a.2.2.1.2.2 wT n5)).2):=vf A.aC1 afB dV b3 ck λ q f aK A' em s H E hr hp=>by obtain⟨dk,k,⟨ra,ca,nl⟩,n,wn,m⟩:=q;rw[jm gJ λ hD hR hw hm hle=>?_];dsimp only at hD hR hw hm hle⊢;have nd:=afB.nd;rw[lM eY dz vX wj CO dz xh wj HM fP D p,qD iF hR lZ lZ,D? wn hw BJ Dr cy (bq cy cA e1 fj)];subst e1;have rM:=Pb hR Dr fj;rw[gg iF fj iN oC gn oC vQ h2,<-(g9 (fK (oe,n+1,m,S0) ra O n? vQ h2) (fH (D6 _) fj hm hle) λ v H2 sQ dB=>bq dB cA hT eP)];have m6:=rM.keep fj sQ eP;(rw[dl (bL hT ue qt nU dS) nU]);dsimp only at dS eP;generalize FC (kP+1) m=t at dS p;have xP:∀{H3:Hp},aj H2 H3->Hf c (dk,wn,c! qt,t) H3:=λ s3=>(eF (Pc s3) qt O gi dS);rw[wZ Rw qo (u! mO (C8 k wn t)).2 Pc Md C8,<-aY tc au A.g.Oj ge ge];(. (have hk:k=2:=by rw[op Bc]);rw[rB hk,bg (cK yY lJ az7 dp (dk,wn,c! qt,t) az lw m6.cw d1 b6 du O fx Eb)]);. (have hk:¬k=2:=λ e=>by rw[wp,ase e a6]);rw[gQ hk,<-aY tc au A.g.JJ xk xk];(. (have j9:k=3:=by rw[or cn age]);rw[rB j9,bg PM aHD b6 du]);. (have j9:¬k=3:=λ e=>by rw[ws cn,au7 e a6]);rw[gQ j9,bg PM aDT b6 du]
Fg.1(k w n:Y)(t m:al):Ue:=if k=4 then .fill w n t m else .ragged w n t m
LaD.2:=m7×iW (lQ×iW ((Y×Y)×Bp))
aht(A:a?):tG 11 "lines_answer" BZ LaD tq Be c! d2.1 ci (oU/\f_ d2 nr H/\rE[vx]?=Z w0.1/\rE[vx+1]?=Z w0.2/\rE[wT]?=Z wS/\rE[wT+1+wS]?=Z n5.2/\nr+1+1+1+wS+1+n5.2<=bO rE) (λ _ _ _=>True) dL (oU/\f_ d2 (wT+1+wS+1+n5.2) H/\qo (u! m9 (Fg bT w0.1 w0.2 sG xA a.2.2.1.2.2 (wT+1) wS sG xA a.2.2.1.2.2 (vx+1+1+1+wS+1) n5.2)).2):=vf A.aqH ZL dV b3 ck λ q f aK A' em s H E hr hp=>by obtain⟨dk,k,⟨ra,ca,nl⟩,n,⟨wn,co⟩,m,mm⟩:=q;rw[jm v_ λ hD hR hw hc hm mX hle=>?_];dsimp only at hD hR hw hc hm mX hle⊢;have nd:=ZL.nd;rw[lM eY dz vX wj CO dz xh wj CO eY dz (b7 (i:=5)) wj HM dz (b7 (i:=6)) wj HM fP D p,qD iF hR qF qF,D? wn hw BJ Dr eG (bq eG cA e1 fj)];subst e1;have rM:=Pb hR Dr fj;rw[gg iF fj iN nJ gn nJ vQ h2,<-(g9 (fK (oe,n+1,co) ra O n? vQ h2) #[fj,hc] λ v H2 sQ kD=>bq kD cA e2 eP)];subst e2;have m6:=rM.keep fj sQ eP;rw[gg iF eP iN wB gn wB LZ h3,<-(g9 (fK (oe,n+1+1,m,S0) ra O n? LZ h3) (fH (D6 _) eP hm kW Ge (n+1+1+1+m) aD7 hle) λ v H3 yt lH=>bq lH cA hT kn)];have Nw:=m6.keep eP yt kn;(rw[dl (bL hT ue qt xp dS) xp]);rw[gg iF kn iN u0 gn u0 Pq h4,<-g9 (fK (oe,n+1+1+1+m,mm,S0) ra O n? Pq h4) (fH (D6 _) kn mX hle) G0 qO oi (bq oi cA hM nL)];have y_:=Nw.keep kn qO nL;(rw[dl (bL hM ue qm B0 dR) B0]);dsimp only at dS dR nL h4;have aad:=C4 qO dS (vt dS h4 rz);generalize FC (kP+1+1) m=t at dS aad p;generalize FC (kP+1+1+m+1) mm=mk at dR p;have xP:∀{H5:Hp},aj H4 H5->PX c (dk,G4,(aN qt,t),wl,mk) H5:=λ s5=>(Fh SL f7 qt o_ aad qm O o_ dR);rw[wZ Rw qo (u! mO (Fg k wn co t mk)).2 y_.later (nL.later s3) Fg,<-aY tc au A.g.ZU ge ge];(. (have hk:k=4:=by rw[op Lm]);rw[rB hk,bg (Di akw (dk,G4,(aN qt,t),wl,mk) az lw y_.cw p7 b6 du d1 ip i0 O fx Eb)]);. (have hk:¬k=4:=λ e=>by rw[wp,aDQ e a6]);rw[gQ hk,bg (Di aBs (dk,G4,(aN qt,t),wl,mk) az lw y_.cw (ae b6 p7 du ip eC i0) O fx Eb)]
wI{nl:al}{a:Y}{x:cm}(h:NA[a]?=Z x):∃k:Y,nl[a]?=Z k/\x=dt k:=by rw[Aj h];cases e:nl[a]? with|ac=>rw[cx e h h]|gU k=>rw[cx e h h,AZ k]
aub(l:al):y4 (zs l)=l:=by unfold y4;rw[hY nC ((TJ (λ x _=>Int.toNat_natCast x)).jP (List.map_id l))]
vJ{nl:al}{a b:Y}{x:xd}(h:_R.iC (zs nl) a x b):nl[a]?=Z C_/\b=a+1+C_/\Ge (a+1+C_)/\y4 x=FC qc C_:=by obtain⟨h1,h2,h3,h4,h5⟩:=h;rw[EL h2 k e,E3 h3,<-(fH (by rw[hk];congr 1;exact ava e) h4 n6 aIY h4 h3 ?_)];(have h6:x=zs ((C6 qc).uy C_):=by rw[zs,N0,Tc];exact h5);(conv=>lhs;rw[h6]);exact aub _
sR.1(n:Y)(ks:Bv):Bv|0=>n|j+1=>sR n ks j+1+ks j
aDC{S:ke}{D:ak}{vs:g7}{g:Y->al}(hv:k9 D vs)(pr:K6 i (gD S H v (g i)) SF):vT H Nk (g 0,g 1,g 2,g 3):=by rw[show SF=[0,1,2,3]from rfl]at pr;cases pr with|fN k0 pr=>cases pr with|fN k1 pr=>cases pr with|fN k2 pr=>cases pr with|fN k3 pr=>cases pr;exact(kX D _ _ _ _ O hv k0.lst k1.lst k2.lst k3.lst)
AoD.2:=m7×lQ×iW (FL×Y)
aI3(A:a?)(T:it):tG 12 "answer_of" BZ AoD oN c! tw ci (oU/\f_ bT d2 H/\_R.pK (zs bT.2.2) d2 nr tb) (λ _ _ _=>True) dL (∃bk:BK,fI c (mZ,bk) H/\z2=(u? m9 nr).1/\f_ bT tb H/\lx H v (u? m9 nr).2):=Eo A.ay9 Sg λ q f aK A' em s H E hr hp=>by obtain⟨dk,⟨ra,ca,nl⟩,n,cc,b⟩:=q;refine bX hp ad hD hR hC;dsimp only at hD hR hC⊢;have nd:=Sg.nd;rw[<-gC Ae aK9 λ fh fdh psh hmh hbh Gh=>?_,lM eY dz m? (qA 1 nS (CO A) dp) zB ji (Ou sP yY hmh Gh dp hbh iv ni (iu (vL O nd g9 Av x! dX Qs ["desk","reader","call","row"] JI ("row",3) (λ _ _ _ _ _=>GV nd O (.f? O) (.fB O)) Nf (λ s' dG C cl fp=>qA 1 nS (HM A) dp)) fQ)) dg eY zB ji (xU lJ aiy hr) dg zB ji (xU (aht A) hr) dg fP D p,qD iF hR aS aS];(have first:∀(k:Y),nl[n]?=Z k->∀{Q:w2},(∀H1,fI c dk H1->f_ k? kP H1->Q (vN k) H1)->∀v H1,dA ra H H1->(v=vN k/\f_ k? kP H1)->Q v H1:=λ k hk Q hq v H1 Dr bx=>bq bx λ e fj=>by subst e;exact hq H1 (Pb hR Dr fj) fj);cases hC with|@book r0 r1 r2 r3 b0 b1 b2 b3 g0 R0 R1 R2 R3=>(rw[EL g0 k ek];(have cI:k=1:=by exact aHE ek);subst cI;rw[<-g9 (fK (oe,n,1) ra O n? dx h1) #[hR,hk] (first 1 hk ad H1 rM fj),iM Ly eR (fE tx dE (pw ab hx))];have m6:=Pd s2;have eP:=H! s2;rw[gg iF m6 iN aU gn aU dxd HW,KD R0 a0 x0,<-dm (vJ R1) λ a1 e1 l1 x1=>?_,<-dm (vJ R2) λ a2 e2 l2 x2=>?_,<-dm (vJ R3) λ a3 e3 l3 x3=>?_];subst e0 e1 e2 e3;refine #[_,rfl,dk.1,dxd,_,rfl,HW,rfl,?_];let ks:Bv:=λ j=>[r0.length,r1.length,r2.length,r3.length].getD j 0;(have i6:∀j,j<4->nl[w7]?=et ks j/\Ge (w7+1+ks j):=λ j hj=>by rcases j with _|_|_|_|j;(((.exact #[a0,l0]);.exact #[a1,l1]);(.exact #[a2,l2]);.exact #[a3,l3]);.rw[jv hj (Nat.not_lt.mpr (Nat.le_add_left 4 j))]);let cZ:Y->al:=λ j=>(C6 (w7+1)).uy (ks j);rw[iM eC ai B_ vs O3 (fF 4 O3.now ab ab o! Dl K2)];have Nw:=Pc s3;have kn:=eP.later s3;rw[gg iF kn λ a9 q3=>gn a9 Pq h3];(have apd:tQ H' Hp (dA ra H3 H'->dA ra H3 (upd H' Dl o)):=λ st a o ha=>by have h5:=a7 st ha;have be:a≠Dl:=c8 ff ha K2;rw[tN h5];split at h5;(.cases h5);.rw[xa];rw[b? e,aV be];exact h5);refine ku (yq (g:=dF 3) (tt:=kh) (vs:=[3]) (σ:=[cv dk.1,cv ra,Z (vN 1),ac])) (λ j H'=>∃vs:g7,H' Dl=et .lst vs/\K6 i (gD (· = Dl) H' v (cZ i)) (su j)/\dA ra H3 H'/\∃dx,H' ra=Z sz nR [RS ca,("at",vN w7)]) #[[],aX,Paired.nil,pZ (cV K2),Pq,cV K2 _ _ h3];(.rintro j H' hj⟨vs,hv,pr,jL,e_,hZ⟩;obtain⟨o7,Fk⟩:=i6 j hj;have aQ:f_ k? w7 H':=#[#[e_,hZ],Dj h3 jL q3];refine #[rfl,(oe,w7,ks j,(· = Dl)),ra,rfl,n? e_ hZ,rfl,(fH BT l7 (show H' x=et .lst vs by rw[show x=Dl from hx];exact hv) aQ o7 Fk),λ v H4 qO cy=>bq cy cA hT nL];have hv4:=C4 qO hv (vt hv hZ rz);(rw[dl (bL hT λ qv bu SR iI=>?_) bu]);dsimp only at SR iI nL;have UY:∀{v:V}{l:al}{ys:g7},Sa H4->Sa qB H4 Dl ys:=λ dB=>Bk dB h #[a,e,g,by rw[aV g];exact h];(have pr4:K6 i (gD (· = Dl) H4 v (cZ i)) (su j):=gw (λ v i eG=>Bk eG h #[a,e,g,C4 qO h (vt h hZ rz)]) pr;have hl:Oc=j:=by rw[iO pr,Oe]);rw[gg iF nL λ bW g4=>gn bW dx4 h4];refine #[vs,hv4,by rw[hl];exact Oq hj ab,_,aX,?_,apd (jL.trans qO),dx4,?_];(.rw[hY List.range_succ (abc (gw bn v i (UY h) pr4) (.fN (UY c0 qv SR iI) iv))]);.rw[aV (vt h4 hv4 rz)];exact h4);.rintro H'⟨vs,hv,pr,jL,e_,hZ⟩;have aQ:f_ k? (sR kP ks 4) H':=#[#[e_,hZ],Dj h3 jL q3];have rW:=Nw.keep kn jL aQ;have y0:Fd (cZ 0) r0:=x0.symm;have y1:Fd (cZ 1) r1:=x1.symm;have y2:Fd (cZ 2) r2:=x2.symm;have y3:Fd (cZ 3) r3:=x3.symm;refine(c0 (dk,c! Dl,(cZ 0,cZ 1,cZ 2,cZ 3)) #[rW,aDC hv pr] λ v H5 tP kD=>bL kD λ bk g1 g2 g3=>?_);dsimp only at g2 g3;rw[y0,y1,y2,y3]at g2 g3;exact DY H5 (fF bk g1 g2 (d4.keep rW aQ tP) g3))|@text p' wv r b g0 gp g1 R0=>rw[EL g0 k ek,<-ah (wI g1) ad wn hw ew,KD R0 a0 x0];subst e0 ew ek;(rw[D? k hk (first k hk ad H1 rM fj)];(have cj:k=2\/k=3\/k=6:=by exact aB6 gp);have bw:u? mO [[nc k,dt wn],r]=(G! Hg.2.1,IS (u! mO (C8 k wn RO)).2):=by rw[Q!]<;>rfl);rw[iM Ly eR (fE dE (by rw[mP,(aAy cj a6).elim]) tx),iM Qa uH a5 A.g.W7 fx (fE tx dE (pw (by rw[Q!]<;>rfl) hx)),<-(af (dk,k,k?,n+1,wn,r.length) qL az a5 au j7 #[(jN Kw Pd Kw H! hw a0 l0),λ v H5 _ lH=>bX lH λ hD5 FZ hv=>DY H5 (fF vk hD5 ?_ FZ ?_)])];(.rw[bw]);.rw[bw,x0];exact hv|@lines p' wv nv r m b c' g0 gp g1 g2 R0 R1=>rw[EL g0 k ek,<-ah (wI g1) ad wn hw ew,<-ah (wI g2) ad co hc ec,KD R0 a0 x0,<-dm (vJ R1) λ a1 e1 l1 x1=>?_];subst e0 e1 ew ek ec;(rw[D? k hk (first k hk ad H1 rM fj)];(have cj:k=4\/k=5:=by exact aja gp);have bw:u? mO [[nc k,dt wn,dt co],r,m]=(G! Hg.2.1,IS (u! mO (Fg k wn co RO (y4 m))).2):=by rw[KU]<;>rfl);rw[iM Ly eR (fE dE (by rw[mP,(aCm cj a6).elim]) tx),iM Qa uH a5 A.g.W7 fx (fE dE (by rw[KU]<;>rw[jv hx ab]) tx),iM (uH a5 d1 d3 A.g.ZU d3 A.g.asR) j7 (fE tx dE (pw (by rw[KU]<;>rfl) hx)),<-(af (dk,k,k?,n+1,G4,r.length,d?) p7 az a5 zH xx #[#[Pd (kB L? l_ s5),H! (kB (l_ (Cv s5))),hw,hc,a0,a1,l1],λ v H6 _ oi=>bX oi λ Ed wX hv=>DY H6 (fF vk Ed ?_ wX ?_)])];(.rw[bw]);.rw[bw,x0,x1];exact hv
D5{k:ak}:br sF k o k=B9:=by funext b;rw[ko];split;(.rfl);.rw[xa];rw[aV e]
alq(a:xd)(l:FL):y5 (a::l)=dt a.length::(a++y5 l):=by rw[oX y5 TO];rfl
afP{l:xd}(h:bh (Uf l)):∃cs,KB e! l cs/\Pe<=400/\Uk l=Pw cs:=by rw[np Uf];unfold Uk;rw[_R.aBD]at h⊢;cases e:Ug Ui e! l with|ac=>rw[cx e h h]|gU cs=>rw[e]at h;dsimp only at h;rw[e9]at h;refine c0 cs ?_ O;have:=h.1;unfold PyFlat.atMost at a6;rw[cS lf]
aL5(A:a?)(T:it){f:ak}{fd:OH}(F:gh K "answers" "answers" P2 f fd):mq d6 de eI 13 f fd ["calls"] (EU K):=F.ok VG (λ vs H Q E bx=>df bx λ a nl e _=>by rw[e];rfl) λ aK A' em s H vs Q E hr jH=>by refine fW jH λ ca nl e hS Na hQ=>?_;subst e;refine bL (afP Na) λ cs s_ ap anZ=>?_;rw[anZ]at hQ;have nd:=VG.nd;rw[iM eY dz Bu aI dz m? aI JO Hr (aP dz xh (auT (xU lJ aI3 hr)) eY (lI DG uB r' aI) (lI JG EE r' Nz) dg) r' ?_,<-eT (avn (aC7 A) dp () O zo) λ dv H1 s1 hd=>?_];(rw[ju hd.now (λ da bk aS hD hB=>?_) aS]);refine eT (tJ (aAm A) dp (ca,nl) eC az eR (uF (ga s2) hS)) λ rv H2 s2 oF=>?_;(rw[dl (ah oF.now ad ra aU hR) aU]);refine #[wP,cA tl rV];have m6:=hD.later s2;have s3:aj H2 qB H2 tl []:=cV rV;refine #[sN z (∃(x4:iY)(bk:BK)(n g:Y)(jO:c1 FL)(tt:xd),a!=[cv ca,cv da,cv ra,cv tl,x4]/\z=yx/\KB g xA NA n jO/\PQ H' H' H'),#[Pe,ac,bk,0,_,cs,[],rfl,rfl,s_,by rw[P7 rV];exact m6,by rw[P7 rV];exact hR,aX,by rw[hB];rfl,by show 0+301*Pe<=120400;exact aDf ap],?_];rintro z a! H'⟨x4,BS,n,g,jO,tt,rfl,rfl,hc,rW,aQ,Za,vi,gs⟩;have hRs:=CM xG;rw[gg iF hRs iN a9 gn a9 dxr xY,<-ce nw (ab4 nS (aHC A) dp (oe,n) a5 j7 n? dxr db xY O j7 (hRs.later s4)) J'];(.rw[oM,jn hn (n<IJ)];rcases _R.RX hc with⟨fV,_⟩|⟨cc,b,g',ds,rfl,hC,uL⟩;(.rw[E3 fV,(Fx hn fV).elim]);have y_:=C7 (e7 (k:=tl) s4);have nL:=CM (e7 (k:=tl) s4);rw[sn]at gs;rw[qW #[λ d! H2=>∃z',z'<bO (cc::ds)/\∃(x4:iY)(bk:BK)(n g:Y)(jO:c1 FL)(tt:xd),d!=[cv ca,cv da,cv ra,cv tl,x4]/\z'=yx/\KB g xA NA n jO/\PQ H2 H2 H2,λ _ _ h=>h,?_] #[tl,_,db Za,((da,BS),k?,n,cc,b),d1 au a5,λ H5 s5=>#[#[SL,SM,hC],λ v H6 _ cy nA=>xn cy λ bk2 Ed uM wX hv=>?_]]];(rw[dl (iR hv λ DT qa bu Ds=>?_) bu]);dsimp only at Ed uM wX DT Ds;(have be:qa≠tl:=λ e=>by rw[f' nA Ds Ds]);have MT:Ez tl=Z I3:=aX;(have uS:Ez qa=Z IT nn EG.2:=by rw[aV be];exact Ds);have W0:br Ez tl=H6:=P7 nA;generalize Ez=H7 at MT uS W0;generalize bw:EG=F5 at uM DT uS Ds;rw[qW c0 _ EQ MT (im ma (.fY rZ jw F5.2) (dq (m:=bO F5.2) jK du n3 H8 s8 zT qa (.f? (ya ud uS)) KW) cA H8 s8) ku (p8 tl _ _ O) O ud MT];(.rw[JQ kW (tt.length<=120400) aFE gs]);(refine #[_,rfl,.f? g9 lg _ ez aX,_,rfl,tl,qa,_,_,rfl,rfl,aX,by rw[aV be];exact ud uS,?_,?_];.rw[uP,el,el];exact hG (show _<=200000 by simp;exact auN gs DT) ab);(have SO:mw H6 H8 tl:=by rw[<-W0];exact e7 s8);(refine #[ds.length,Nat.lt_succ_self _,_,bk2,b,g',ds,tt++((jw F5.2:cm)::F5.2),rfl,rfl,uL,?_,?_,?_,?_,?_];(.rw[D5,D5];exact Ed.later SO);.rw[D5,D5];exact wX.later SO);((.rw[aX,yr,uW,H9];rfl);.rw[<-vi];show _=tt++y5 (EG.2::Un u? EG.1 ds);rw[bw,alq,uM,H9];rfl);.rw[uP,sn];exact awi gs DT);.rw[oM,jn hn (IJ<=n)];rcases _R.RX hc with⟨_,rfl⟩|⟨cc,b,g',ds,rfl,hC,uL⟩;(.rw[iM O a7 hQ db ?_];rw[Za,<-vi];show _=Z (HO.lst (nn (tt++[]) l!));rw[Ic]);.have:=hC.lt;rw[t8 el,(azB a6 hn).elim]
}
section _P
namespace _P
open g? hA hE _L _M
open PySem.W(OpenSpec Codec)
def z:={
aNt{P:gV}{w:gX}{K:h!}{mg:hV}{c:Cs}{fa:ak}(A:a?)(T:it)(OZ:mg "answers"=cv fa):∃fd:OH,(∀(s:ln)(us:Mx),OI=bO (["calls"]:MV)->BindsTo s fd #[us,[]] ((["calls"]:MV).zip us))/\∀de:ie,K.In de->base.Ns mainGlobals mg->mq d6 de eI 13 fa fd ["calls"] (EU K):=by rw[<-df A.answers λ f fd h1 F=>?_,cx OZ h1 h1,<-(af fd sC s us hu (λ de _ _=>aL5 A T F))];obtain⟨oc,od,kV,doc,pm,an,aK,ct,qE,rfl,lk,h_⟩:=F.ex;obtain⟨u,rfl⟩:=List.length_eq_one_iff.mp hu;exact .of_eq O
}
section _P
end
theorem PySem.Challenge.cw_brokenlinesdesk_s01_answers_holds : PySem.Challenge.rw_brokenlinesdesk_s01_answers.Holds :=
  _P.headAll fun _ _ _ _ _ _ A T h => _P.aNt A T h
