import PyProof.Rows.All
import KE.OsHead
import KE.OsGo
import Open.SpecLaws
import PyProof.SetKind
import Wide.All
import OpenK.AllK
import Wide.FinOn
import PyProof.EqAt
import PyProof.EqKinds
import PyProof.TupleCall
import KE.BitLaws
import KE.KSortTupG
import PySem.SetTable
import PySem.Sem
import PyProof.DictKeyH
import PyProof.TupleKey
import PyProof.IsRules
import PyProof.DictKinds
import PyProof.Rows.SetFrom
import PyProof.CollectIter
import KE.KDictList
import KE.KItemsList
import PyProof.ZipIter
import PyProof.EnumIter
import PyProof.ListNew
import PyProof.P3Eq
import PyProof.Rows.CallKwBuiltin
import PyProof.DictTruth
import KE.KMinBuiltin
import PyFlatLaws
import PySem.Challenge.RW_glassrecord_s01_answers
set_option compiler.extract_closed false
set_option Elab.async false
set_option linter.all false
set_option maxRecDepth 100000
set_option maxHeartbeats 0
set_option tactic.hygienic false
set_option genInjectivity false
set_option genSizeOf false
@[elab_as_elim] theorem rwE{α:Sort u}{b:α}{p:α→Prop}{a:α}(h:a=b)(e:p b):p a:=h▸e
@[elab_as_elim] theorem rwF{α:Sort u}{a:α}{p:α→Prop}{b:α}(h:a=b)(e:p a):p b:=h▸e
theorem aua(h:True:=by as_aux_lemma=>simp +arith only):True:=h
theorem aub(h:True:=by as_aux_lemma=>simp +arith):True:=h
theorem auc(h:True:=by decide):True:=h
theorem aud(h:True:=by first|exact .inl rfl|exact .inr rfl|exact .inr (.inl rfl)|exact .inr (.inr rfl)|assumption):True:=h
theorem aue(h:True:=by rfl):True:=h
theorem auf(h:True:=by first|exact(rfl:_=K)|exact(rfl:_=w)|exact(rfl:_=P)):True:=h
theorem aug(h:True:=by intro _;rfl):True:=h
theorem auh(h:True:=by with_unfolding_all rfl):True:=h
theorem aui(h:True:=by intros;rfl):True:=h
theorem auk(h:True:=by first|exact nobehind _ (by decide) (by decide)|rfl):True:=h
theorem aul(h:True:=by exact PassesOwn.never):True:=h
theorem aum(h:True:=by first|{exact nomark _}|rfl):True:=h
theorem aun(h:True:=by intro _ _;rfl):True:=h
theorem aus(h:True:=by(intro _ _ _ _ h;cases h;refine Eq.trans (congrArg List.length (by assumption)) ?_;rfl)):True:=h
open Lean in
local macro_rules|`(mutual $cs* end)=>do
  let c:=cs.map (·.raw)
  if !c[0]![1].isOfKind `Lean.Parser.Command.example then Macro.throwUnsupported
  let L:=c[1]![4][1][2][1][1][0][0][0][3]
  let rec ex(T:NameMap Syntax):Nat→Syntax→Syntax
    |n+1,.node _ k a=>
      match if k==`Lean.Parser.Term.app then T.find? (.num a[0]!.getId a[1]!.getNumArgs) else none with
      |some f=>ex ((f[0].getArgs.zip a[1]!.getArgs).foldl (fun m p=>m.insert (.num p.1.getId 0) (ex T n p.2)) {}) n f[2][2]
      |_=>
        let s:=Syntax.node .none k (a.map (ex T n))
        let l:=s[1].getArgs.back?.getD s
        let tm(x:Name)(y:Syntax):Syntax:=((T.find? (.num x 1)).map fun f=>(ex (({}:NameMap Syntax).insert (.num `a 0) y) n f[2][2])[1]).getD s
        let l:=if l.isOfKind `Lean.Parser.Term.paren then l[1] else l
        if k==`Lean.Parser.Tactic.rwSeq&&(s[2][1][0][1].isOfKind `Lean.Parser.Term.byTactic) then mkNullNode (s[2][1].getSepArgs.map (·[1][1]))
        else if k==`Lean.Parser.Tactic.rwSeq&&s[3].getNumArgs==0 then .node .none `Lean.Parser.Tactic.first #[s,mkNullNode #[mkNullNode #[s,mkNullNode ((s[2][1].getSepArgs.map fun r=>tm (if r[0].getNumArgs==0 then `zzA else `zzB) r[1]).push (tm `zzC s))],mkNullNode #[s,s.setArg 3 L]]]
        else if k==`Lean.Parser.Tactic.cases&&s[1].getNumArgs==1&&s[1][0][1].isIdent&&s[3].getNumArgs==0 then tm `zzD s[1][0][1]
        else if k==`Lean.Parser.Term.anonymousCtor&&l.isOfKind k then s.setArg 1 (mkNullNode (s[1].getArgs.pop++l[1].getArgs))
        else if k==`Lean.Parser.Command.universe then .node .none `Lean.Parser.Command.end #[.atom .none "end",mkNullNode #[s[1][0],mkNullNode]]
        else s
    |_,s=>(T.find? (.num s.getId 0)).getD (s.setInfo .none)
  let T:=c[0]![1][2][1][2][0].getSepArgs.foldl (fun m f=>m.insert (.num f[0][0].getId f[1][0].getNumArgs) (let b:=ex m 9999 f[1];if b[0].getNumArgs==0 then b[2][2] else b)) {}
  return mkNullNode ((c.extract 2 c.size).map fun s=>if s.isOfKind `Lean.Parser.Command.declaration then c[1]!.setArg 4 (ex T 9999 s) else ex T 9999 s)
mutual
example:={
zzA a:=by first|refine rwE (a ..) ?_|rewrite[a]at ⊢
zzB a:=by first|refine rwF (a ..) ?_|rewrite[<-a]at ⊢
zzC a:=by try with_reducible rfl
zzD a:=by first|subst a|(injection a;done)|(injection a with zzE;subst zzE)|(injection a with zzE zzF;subst zzE;subst zzF)|cases (a)
aa:=some
ab:=true
ae:=none
ai:=false
aj:=base
au:=pins
av:=fW.of
ax:=Stmt
aJ:=r.pts.length
aK:=if_pos
aO:=s.heap.objs.size
bh:=s.heap
bj:=if_neg
bp:=r.pt
bx:=O.length
bA:=List.length_map
bF:=wpAny_bind
bH:=linesOf
bJ:=T.bjm
bL:=List
bO:=List.mem_of_getElem?
bX:=r.lines
bZ:=Option
cb:=Bool
cg:=wpAny_pure
cj:=List.length_append
ck:=a7.size
cn:=Nat.le_trans
cp:=V.int
cv:=decide
cw:=b.length
cx:=uU.of
cy:=absurd
cz:=List.getElem?_map
cA:=mask
cD:=False
cE:=X.env
cF:=SB.of
cM:=prog
cR:=Value
cZ:=Option.some.inj
c_:=List.map_cons
da:=List.getElem?_eq_getElem
dd:=r.pts
de:=D.pts.length
df:=t.mask
dk:=Value.ref
dm:=T.bjt
du:=List.append_assoc
dv:=B.idxOf
dD:=Paired
dE:=s.toks
dH:=decide_eq_true
dI:=path
dJ:=T.bjB
dP:=r.lines.length
dQ:=r.marks
dR:=T.bjn
d_:=l.length
ea:=decide_eq_false
eb:=Y.lt
ec:=s.cnt
ef:=Addr
en:=keep
eo:=I.dr
er:=Nat.mod_eq_of_lt
ew:=Nat.le_of_lt
ey:=autoParam
ez:=outer
eA:=X.prog
eB:=B.length
eC:=c.toNat
eI:=Nonempty
eJ:=List.range
eK:=s.aP
eL:=m.at_
eM:=Y.length
eS:=List.length_take
eT:=ar.toArray
eU:=pure
eV:=turn
eW:=Int.le_of_lt
eX:=a4.trans
fb:=Nat.lt_of_le_of_lt
fe:=List.map_append
ff:=row.length
fg:=b5.trans
fh:=W.length
fq:=Array
ft:=Heap.lt_size
fu:=List.mem_cons_self
fv:=wpAny
fw:=f3.g
fH:=Nat.lt_of_lt_of_le
fI:=a4.heap.objs.size
fJ:=List.mem_map
fK:=Z.length
fL:=r.marks.length
fY:=trivial
fZ:=Z.lt
f_:=R.cur
gb:=T.bjq
gc:=c.length
gd:=h.mono
gy:=String
gz:=congrArg
gA:=True
gB:=o.data
gC:=Nat.ne_of_lt
gD:=cLine
gE:=R.lines
gF:=Gla.le
gG:=T.bju
gH:=T.bjC
gP:=RelV
gQ:=h'.get?
gR:=V.ref
gS:=D.marks
gU:=D.lines
gV:=a4.free
hr:=w.params
hs:=Ne.symm
ht:=Sum.inl
hv:=sizeLine
hx:=List.getElem?_append_left
hy:=List.mem_append
hC:=List.mem_cons
hD:=Int.mul_pos
hF:=Z.ok
hH:=dj.go
hI:=T.bjE
hY:=F.length
hZ:=Bool.and_eq_true
h_:=List.mem_cons.mp
ia:=List.length_cons
ib:=List.getElem_of_mem
ic:=Pt.below
ie:=A.length
ig:=r.near
ih:=m.at_.y
ij:=m.at_.x
ik:=Nat.lt_or_ge
il:=s.trans
ip:=O.size
iL:=Heap
iM:=Vals
iN:=Bool.eq_iff_iff
iO:=vs.length
iP:=N.length
iQ:=Int.toNat_natCast
iR:=if_false
iS:=decide_eq_true_eq
iT:=N.lay
iU:=r.lines.filter
iV:=inOrder
iW:=p.more
iX:=aTw.nd
jr:=Nat.lt_irrefl
js:=Nat.lt_trans
jt:=slot
ju:=model
jv:=PyData.eqv
jw:=List.map_map
jx:=m.glass
jy:=HEAD
jz:=n.toNat
jA:=T.bjs
jC:=Gla.within
jH:=GM.aYR
kv:=l.map
kx:=c5.length
kz:=A.in1
kA:=lineBelow
kB:=m.painting
kC:=T.bjr
kD:=runEnd
ly:=b1.length
lz:=Heap.size_push
lA:=f.size
lB:=s.TypeIs
lC:=parts
lD:=R.ss.length
lE:=Prod.mk.inj
lF:=T.bjy
lG:=D.pts
lH:=D.lines.length
lI:=Array.getElem?_eq_getElem
lJ:=t.place
lK:=c0.length
lL:=a7.toList
lM:=jo.go
lN:=d8.take
mC:=h.objs.size
mD:=c1.heap
mF:=D.nx
mG:=X.mg
mH:=s.heap.push
mI:=d.names
mJ:=if_true
mK:=HT.lexLt
mL:=a.length
mM:=putK
mO:=Int.lt_or_le
mP:=Nat.le_antisymm
mQ:=T.hi
mR:=T.lo
mS:=markBelow
mT:=within
mU:=R.ss
mV:=h.at_
mW:=f9.trans
mX:=d9.trans
mY:=GM.BU
oI:=World
oJ:=l.drop
oK:=X.env.locals
oL:=X.stack
oM:=X.xe
oN:=PySem.mem_of_lookup
oO:=Nat.min_le_right
oP:=d7.length
oQ:=List.not_mem_nil
oR:=List.find?_cons
oS:=d.length
oT:=top2
oU:=s.row
oV:=l.Pairwise
oW:=r.lab'
oX:=List.pairwise_cons
oY:=p.below
oZ:=List.getElem?_append_right
o_:=List.flatMap_cons
pa:=made
pb:=B.pts
pd:=R.cs
pe:=bT.gr
pf:=GM.Tb
ph:=Array.getElem?_toList
pj:=D.lines.take
pq:=aTH.nd
qE:=Nat.le_of_eq
qF:=Classical.byContradiction
qG:=p.isList
qH:=List.mem_append_right
qI:=sizeLine_eq
qJ:=List.append_nil
qK:=wpAny_call_entry
qL:=Nat.sub_le
qM:=List.forIn_cons
qN:=Nat.lt_or_eq_of_le
qO:=Nat.min_eq_left
qP:=List.pairwise_append
qQ:=Z.sgn
qR:=d.len
qS:=List.mem_of_mem_take
qT:=writePlan
qU:=GlaKeeps.ptOk
qV:=Gla.ptBytes
qW:=D.marks.length
qX:=e9.length
qY:=t.place.size
qZ:=g.map
q_:=IsPair
rb:=aTG.nd
rd:=T.bjz
sJ:=Prod.ext
sL:=List.length_drop
sM:=X.base
sO:=s.gens
sP:=I.ok.kind
sQ:=I.list
sR:=A.units
sS:=List.getElem?_take_of_lt
sT:=IntsAre
sU:=c8.heap.objs.size
sV:=merge
sW:=r.hN
sX:=r.row
sY:=Int.mul_nonneg
sZ:=Walk
s_:=List.getElem_mem
ta:=half
tb:=arrOf
tc:=r.outlines
td:=below
te:=List.any_eq_true
tf:=B.drawn
tg:=firstBad
th:=marks
tj:=R.gr.first
tk:=o.map
tl:=leap
tm:=n.trans
tn:=gx.go
tp:=cY.refl
tq:=GM.linesOf
tr:=Gla.markBelow
tu:=aUb.nd
vF:=Shared
vG:=K.lookup
vH:=Value.bool
vJ:=List.mem_filter.mp
vK:=K.In
vL:=a.names.lookup
vM:=X.fs
vN:=I.loc
vO:=List.mem_append_left
vP:=bootBuiltins
vQ:=wpAny_truthy_bool
vR:=J.length
vS:=I.Kt
vT:=wpAny_holding
vU:=Nat.ne_of_gt
vV:=rawInt
vW:=o.cls
vX:=wpAny_mono
vY:=ar.toArray.size
vZ:=Nat.lt_succ_of_lt
v_:=DecidableEq
wa:=z.symm
wb:=wpAny_specialOf
wc:=a6.units
wd:=Y.lo
we:=s.side
wg:=Y.hi
wh:=J.lb
wj:=isOn
wk:=Z.below
wm:=Nat.min_le_left
wo:=T.le
wq:=Plan.outlines
wt:=List.idxOf_lt_length_of_mem
wu:=R.trans
wy:=twice
wz:=ns.map
wA:=Fits
wB:=List.getElem?_range
wC:=F.marks
wD:=judgePlan
wF:=p.length
wG:=Y.dl
wH:=R.gr
wI:=GlaKeeps.asked
wJ:=b.map
wK:=ls.length
wL:=ho.mk
wM:=GM.si
wN:=c8.trans
wO:=N.lst
wQ:=GM.yM
wR:=D.pt
wU:=d6.trans
wV:=KeepNeutral.nat
za:=Nat.le_of_not_lt
zb:=h.get?
zc:=I.bare
zd:=s.drawn
ze:=I.dr.fresh
zf:=getItem
zg:=d5.isList
zh:=ns.length
zi:=cellsFrom
zj:=lexLt
zk:=List.map_nil
zl:=X.A.units
zm:=List.mem_map.mp
zo:=atKey
zp:=l.Nodup
zq:=J.inv
zr:=l.filter
zt:=Gla.crosses
zu:=q.symm
zv:=Nat.sub_self
zw:=first
zx:=List.takeWhile_append_dropWhile
zy:=Y.below
zz:=List.getElem?_eq_none
zA:=readSteps
zB:=GlaKeeps.long
zC:=s.seq
zD:=J.args
zE:=GM.iH
zF:=h1.trans
zG:=List.flatMap_append
zH:=lexLe
zI:=GM.eQ
zJ:=t.advance
zK:=t.slot
zL:=t.place.toList
zM:=T.ok
zN:=d.is
zO:=wpAny_letGo
zP:=aTA.nd
zQ:=GM.Lay
zR:=d0.trans
zS:=T.bjx
zT:=Gla.SAVED
zU:=GM.dst
zV:=a3.length
zW:=a3.drop
Cu:=Prod.mk.injEq
Cv:=Option.map_eq_some_iff.mp
Cw:=of_decide_eq_true
Cy:=Gla.Step
Cz:=Value.none
CA:=X.ex
CB:=mainGlobals
CC:=s.os
CD:=I.cell
CF:=I.tuple
CG:=rv.length
CH:=h.IsListIter
CI:=r.list
CJ:=V.bl
CK:=True.intro
CL:=e.symm
CM:=kindOf
CN:=this.g
CO:=Heap.get?_update_self
CP:=HT.yy
CQ:=I.laid
CS:=s.heap.IsList
CT:=PyData
CU:=Bool.false_eq_true
CV:=valueAt
CW:=K.map
CX:=Nat.min_eq_right
CY:=J.bi'
CZ:=aQE.mpr
C_:=Z.km
Dc:=Int.mul_neg_of_neg_of_pos
Dd:=sooner
De:=clear
Df:=List.map_take
Dg:=List.map_drop
Dh:=or_false
Di:=bump
Dj:=last
Dk:=noneSeen
Dl:=f.length
Dm:=List.take_append_drop
Dn:=List.getElem?_drop
Dq:=touches
Dr:=c.map
Ds:=C.lay
Dt:=ptPlace
Du:=taken
Dv:=Y.cur
Dx:=List.take_of_length_le
Dy:=l.heap
Dz:=GM.hX
DA:=Gla.parts
DB:=GM.Fits
DD:=Gla.lineBelow
DE:=D.near
DF:=hashAt
DG:=List.filter_append
DH:=g.getD
DI:=pre.length
DJ:=t.led
DK:=List.take_succ
DL:=wpAny_setField_rec
DM:=B.drop
DN:=aTB.nd
DO:=T.bjv
DP:=s0.cnt
DQ:=GM.di
DR:=GM.yC
DS:=Gla.endsAt
DT:=T.bjD
DU:=T.bjF
DV:=PyYqglha.shape
DW:=Bool.and_eq_true_iff.mp
G2:=SharedT
G3:=s.abs
G4:=Nat.lt_of_not_le
G5:=l.take
G6:=Gla.Mark
G7:=O.drop
G8:=O.map
G9:=X.FR.heap.objs.size
G_:=AllBare
Ha:=List.filterMap_cons
Hb:=I.free
Hc:=I.len
Hd:=s.heap.get?
He:=Heap.SameBut
Hf:=h.elim
Hg:=iter
Hh:=codeAny
Hi:=V.bC
Hj:=List.size_toArray
Hk:=Obj.mapSeq
Hl:=ar.length
Hm:=Bool.false_ne_true
Hn:=List.all_eq_true
Ho:=keys
Hq:=Decidable
Hr:=c1.aP
Hs:=I.gap
Ht:=r.aQo
Hu:=I.aQm
Hv:=r.bi9
Hw:=Nat.max_eq_right
Hx:=List.perm_ext_iff_of_nodup
Hy:=Nat.add_zero
Hz:=side
HA:=Nat.le_of_lt_succ
HB:=Z.wx
HC:=Nat.le_max_right
HD:=passes
HE:=onLines
HF:=C.row
HG:=edgePts
HH:=r.pts.contains
HI:=bja.mp
HJ:=d.same
HK:=firstAt
HL:=d8.map
HM:=Nat.pow_succ
HN:=Bytes
HP:=List.drop_drop
HQ:=numbered
HR:=r.drawn
HS:=C.marks
HU:=endsAt
HV:=take
HW:=Plan
HY:=readRecord
HZ:=L2.St
H0:=List.take_length
H2:=T.bjp
H3:=T.bjo
H4:=Gla.num
H5:=Gla.markBytes
H6:=Gla.MAGIC
H7:=x.toNat
H8:=j0.length
H9:=GM.B_
H_:=p.perturb
Ia:=Probe
Ib:=turns
Ic:=bits
Ie:=c3.g
Ig:=t.plain
Ih:=T.size
Ii:=Holds
Ij:=call
Ik:=List.mem_map_of_mem
Il:=wpAny_nextOf_list_item
Im:=sa.extBut
Io:=IsList.at'
Ip:=argBest
Iq:=c8.extBut
Ir:=a4.extBut
Iu:=f6.isList
Iv:=i9.trans
Iw:=decide_eq_true_iff
Iy:=Gla.edgePts
Iz:=T.bjw
IA:=GM.dt
IB:=G.getD
IC:=GM.vf
ID:=aS_.nd
IE:=GM.Lo
IF:=aTP.nd
IG:=T.bjl
IH:=GM.auN
Mc:=Program
Md:=List.lookup
Me:=l.filterMap
Mf:=default
Mg:=a7.toList.map
Mh:=left
Mi:=Nat.sub_add_cancel
Mj:=Gla.Fault
Ml:=UInt8
Mm:=Value.type
Mn:=Paired.length
Mo:=IsTup
Mq:=X.outer
Mr:=I.ok.above
Ms:=I.step
Mt:=I.pin
Mu:=List.getElem?_set_self
Mv:=I.biY
Mw:=starEach
Mx:=compareOp
My:=ar.toList
Mz:=ar.size
MA:=its'
MB:=swapsWith
MC:=pos.line
MD:=I.kept
ME:=X.env.scope.names.lookup
MF:=pyIter
MG:=letOwnedTupleGo
MH:=step
MI:=PySem.W.emptyDict
MJ:=c5.zip
MK:=False.elim
ML:=codeAny_mono
MM:=start
MN:=d.names.lookup
MO:=List.length_nil
MP:=IsPart
MQ:=intsAre_of
MR:=List.any_cons
MS:=List.all_cons
MT:=Dp.reads
MU:=forIn
MV:=List.forIn_nil
MW:=List.length_set
MX:=wpAny_newObj_type
MY:=F.map
MZ:=o.isSome
M0:=c1.side
M1:=Nat.le_total
M3:=I.bi_
M4:=I.dO
M5:=J.step
M6:=Kept
M7:=P.ret
M8:=aQE.mp
M9:=List.getElem_map
M_:=q.below
Na:=List.pairwise_iff_getElem.mp
Nb:=Int.mul_nonpos_of_nonneg_of_nonpos
Nc:=between
Nd:=List.mem_append.mp
Nf:=List.pairwise_map
Ng:=List.mem_filter
Nh:=N.lay.ok
Ni:=r.outlines.length
Nj:=D.bjb
Nk:=T.Ld
Nl:=seen
Nm:=d.getD
Nn:=d.le
Np:=f.set
Nq:=Plan.drawn
Nr:=List.contains_iff_mem.mp
Nt:=begun
Nu:=runOf
Nv:=r.among
Nw:=d8.length
Nx:=r.fault
Ny:=numLe
Nz:=l.flatMap
NA:=List.ext_getElem?
NB:=pairs
NC:=List.mem_eraseDups.mp
ND:=row.filter
NF:=C.ord
NG:=r.panes
NH:=pts.length
NI:=r.pts.idxOf
NJ:=Y.len
NK:=R.ss.take
NL:=bT.add
NM:=onRecord
NN:=A.go
NO:=List.eq_nil_of_length_eq_zero
NP:=Codec.encAll
NQ:=Gla.turn
NR:=PassesOwn.never
NS:=GM.aeN
NT:=Gla.HEAD
NU:=Gla.writePlan
NV:=f6.length
NW:=g.length
NX:=aTz.nd
NY:=Y.mask
NZ:=t.probeStart
N0:=insertAt
N1:=g.size
N2:=T.rise
N3:=Obj.putSet
N4:=List.mem_singleton
N5:=codeAny_builtin
N6:=sb.extBut
N7:=h'.IsListIter
N8:=Y.map
N9:=wpAny_Call_Name_kw
N_:=F.plain_min_loop
Oa:=intItems
Ob:=f9.extBut
Oc:=and_true
Od:=List.cons.injEq
Oe:=GM.BY
Of:=T.bjA
Og:=a9.Gs
Oh:=vs.drop
Oi:=h.nt
Oj:=GM.Tn
Ol:=aT0.nd
Om:=GM.bN
Oo:=T.bjG
Oq:=aTa.nd
UR:=Array.mk
US:=PySem.W.Frag
UT:=FuncData
UU:=PySem.W.keepIn
UW:=Int.ofNat_lt.mpr
UX:=Gla.Plan
UY:=Sum.inr
UZ:=PySem.W.instObj
U0:=G.length
U1:=tupleKind
U2:=List.mem_filter.mpr
U3:=X.env.cells.lookup
U4:=M.length
U5:=I.ok
U6:=GenState
U7:=List.getElem?_set_ne
U8:=c1.gens
U9:=c1.os
U_:=h.out
Va:=Array.length_toList
Vb:=X.RZ
Vc:=assign
Vd:=Builtin.Range.rangeSize
Ve:=auc._auto_1
Vf:=Nat.succ_le_succ
Vg:=G.lookup
Vh:=I.write
Vi:=J.append
Vj:=List.replicate
Vk:=vs.map
Vl:=i.size
Vm:=i.toNat
Vn:=s.heap.update
Vo:=h'.objs.size
Vp:=t.toArray
Vq:=bs.map
Vr:=Vals.bi6
Vs:=NameKind.free
Vt:=F.any
Vu:=d.val
Vv:=j.typeIs
Vw:=Nat.le_sub_one_of_lt
Vx:=DictEntry
Vy:=Int.mul_le_mul_of_nonneg_left
Vz:=Nat.max_eq_left
VA:=J.st
VB:=Y.nd.filter
VC:=I.pos
VD:=C.mN
VE:=C.mE
VF:=d5.half
VG:=Nat.sub_pos_of_lt
VH:=List.nodup_iff_pairwise_ne
VI:=P.pos
VJ:=Nat.add_comm
VL:=q.trans
VM:=Int.mul_nonpos_of_nonpos_of_nonneg
VN:=z.below
VO:=Nat.pos_of_ne_zero
VP:=Nat.mod_lt
VQ:=E.length
VR:=spans
VS:=Z.nd.filter
VT:=List.pairwise_cons.mp
VU:=frameOk
VW:=Plan.round
VX:=List.mem_flatMap
VY:=List.mem_eraseDups
VZ:=D.fin
V0:=D.head
V1:=T.sym
V2:=T.inj
V3:=l.set
V4:=Array.getD
V5:=I.size
V6:=z.size
V7:=d.root
V8:=d.found
V9:=row.drop
V_:=row.takeWhile
Wa:=List.all_eq_true.mp
Wb:=cuts
Wc:=r.nears
Wd:=Y.inj
We:=r.pts.take
Wf:=B.lines
Wg:=Bool.eq_false_iff.mpr
Wh:=List.contains_iff_mem
Wi:=Nat.le_max_left
Wj:=List.filter_congr
Wk:=l.Perm
Wl:=Mark
Wm:=Function.comp
Wn:=r.marks.map
Wo:=List.drop_eq_getElem_cons
Wq:=alongLine
Wr:=leftOf
Ws:=markOk
Wt:=size_eq
Wu:=List.getD_eq_getElem?_getD
Wv:=T.marks
Ww:=R.add
Wx:=Y.take
Wy:=callerA
Wz:=rw_glassrecord_s01_answers.args
WA:=Gla.Pt.below
WB:=Gla.linePlace
WC:=b5.seq
WD:=aTg.nd
WE:=d9.free
WG:=c8.free
WH:=T.bjk
WI:=HT.lexLe
WJ:=Gla.firstBad
WK:=HT.vt
WL:=List.getElem_range
WM:=GM.Lc
WN:=List.nodup_range
WO:=cands
WQ:=List.getElem?_eq_some_iff.mpr
WR:=t'.mask
WS:=c3.l
WT:=I.val
WU:=B.toList
WV:=hashOf
WW:=c.size
WX:=Value.int
WY:=hG.mem
WZ:=wpAny_of_eq
W0:=argsOk
W2:=wpAny_pyIter_slot
W3:=wpAny_rule
W4:=Builtin.SmallTypes.ownedTupleIsFree
W5:=a.extBut
W6:=wpAny_nextOf_list_end
W7:=f.getD
W8:=r.nd
W9:=Gla.Pt.mk.injEq
W_:=c.symm
Xa:=List.getElem?_eq_some_iff.mp
Xb:=List.range'
Xc:=GM.aR7
Xd:=B.drawn.length
Xe:=GM.BZ
Xf:=c.take
Xg:=GM.LZ
Xh:=s0.row
Xi:=d5.at_
Xj:=aTu.nd
Xk:=r.pts.drop
Xl:=d5.sw.k
Xm:=GM.yI
Xn:=W.take
Xo:=GM.yJ
Xp:=c0.take
Xq:=GM.aeF
Xr:=aTL.nd
Xs:=GM.at6
Xu:=aTx.nd
Xv:=dB.mono
Xw:=Gla.inOrder
Xx:=s.free
Xy:=T.MARK
Xz:=GM.Lr
XA:=a9.mono
XB:=row.all
XC:=PyYqglha.answers
XD:=b5.extBut
agD:=Thread
agE:=s.abs.heap
agF:=importedModules
agG:=Params
agH:=List.lookup_cons
agI:=h.symm
agJ:=Int.not_lt.mp
agK:=Classical.choose
agL:=h.Ns1
agM:=Un.kept
agN:=env.kindOf
agO:=I.base.free
agP:=s.heap.FunFrames
agQ:=I.ok.RV
agR:=I.os
agS:=isTrue
agT:=aug._auto_1
agU:=wpAny_execs_nil
agV:=assignEach
agW:=D.lp
agX:=b5.heap
agY:=Bool.false_and
agZ:=r.kept
ag0:=T.keep
ag1:=Bool.and_false
ag2:=attributeBase
ag3:=A.depth
ag4:=J.un
ag5:=A.deeper
ag6:=a6.mono
ag7:=bindL
ag8:=bindC
ag9:=J.get
ag_:=envOfC
ag':=PyProof.Rows.callWith_type1
aha:=Builtin.Slice.slicePlaces
ahb:=c6.typeIs
ahc:=subscripted
ahd:=r.dr.fresh
ahe:=call_meets
ahf:=Nat.le_succ_of_le
ahg:=List.range_succ_eq_map
ahh:=a5.isList
ahi:=X.env.scope
ahj:=wipe
ahk:=pyNext
ahl:=c1.toks
ahm:=Bool.or_eq_true
ahn:=List.cons_append
aho:=storedH
ahp:=sysModules
ahq:=tupleKind_room_in1
ahr:=j.mapOf
ahs:=I.big
aht:=a4.toks
ahu:=Int.ofNat_sub
ahv:=Turn
ahw:=aud._auto_1
ahx:=Int.mul_lt_mul_of_pos_left
ahy:=Z.map
ahz:=c1.cnt
ahA:=R.lines.filter
ahB:=h.trans
ahC:=F.last
ahD:=F.zero
ahE:=f.snd
ahF:=e.snd
ahG:=Y.kle
ahH:=GM.rv
ahI:=Nat.mod_self
ahJ:=X.rv
ahK:=d5.inj
ahL:=List.pairwise_iff_getElem
ahM:=P.min
ahN:=Nat.sub_lt
ahO:=Nat.one_pos
ahP:=Flow
ahQ:=Int.mul_neg_of_pos_of_neg
ahR:=Bool.true_and
ahS:=Eq.trans
ahT:=List.mem_append.mpr
ahU:=List.nodup_append
ahV:=l.zip
ahW:=l.getLast?
ahX:=aQy.mpr
ahY:=chained
ahZ:=fromLeast
ah0:=Nat.sub_zero
ah1:=N.conn
ah2:=N.start
ah3:=List.filter_cons_of_pos
ah4:=insideOf
ah5:=DInv
ah6:=D.seen
ah7:=List.mem_of_mem_head?
ah8:=T.ad_
ah9:=List.getElem_idxOf
ah_:=I.base
ah':=spread
aia:=seenFrom
aib:=z.getD
aic:=d.get
aid:=row.take
aie:=List.head?_dropWhile_not
aif:=List.drop_left
aih:=List.take_left
aii:=row.dropWhile
aij:=Int.mul_eq_zero.mp
aik:=Int.mul_nonneg_of_nonpos_of_nonpos
ail:=hd.map
aim:=p.mem_iff.mp
ain:=l.eraseDups
aio:=b.below
aip:=Plan.fault
aiq:=a.at_
air:=Nat.mul_comm
ais:=List.drop_eq_nil_of_le
ait:=MAGIC
aiu:=F.pts
aiv:=partedAt
aiw:=lines
aix:=List.map_congr_left
aiy:=r.drawn.flatMap
aiz:=List.eraseIdx_sublist
aiA:=List.length_filter_le
aiB:=Clean
aiC:=d8.Perm
aiD:=Y.get
aiE:=after
aiF:=Y.fit
aiG:=R.gr.done
aiH:=stepSize
aiI:=UInt8.ofNat
aiJ:=Gla.bare
aiK:=asked
aiL:=KeepNeutral.step
aiM:=List.filterMap_append
aiN:=List.getElem?_zip_eq_some
aiO:=Y.tok
aiP:=Option.some.injEq
aiQ:=c5.map
aiR:=b1.map
aiS:=WData
aiT:=WellAll
aiU:=HO.yo
aiV:=cs.length
aiW:=a6.bi2
aiX:=h.p.mono
aiY:=Gla.ptPlace
aiZ:=c2.length
ai0:=aS9.nd
ai1:=HT.bi3
ai2:=b.drop
ai3:=Gla.ptAt
ai4:=bitAnd_m8
ai5:=PyData.eqvAll
ai6:=PyData.depth
ai7:=PyData.depthAll
ai8:=PyData.canLay0
ai9:=PyData.canLayAll0
ai_:=d7.map
ai':=Gla.LARGEST
aja:=T.bjj
ajb:=aTj.nd
ajc:=GM.atV
ajd:=b.set
aje:=GM.BW
ajf:=List.flatMap_singleton
ajg:=GM.Gu
ajh:=GM.Gv
aji:=aTE.nd
ajj:=aTF.nd
ajk:=f.take
ajl:=c5.take
ajm:=aTI.nd
ajn:=h.len
ajo:=aTy.nd
ajp:=B.map
ajq:=List.range_succ
ajr:=List.map_set
ajs:=N.mono
ajt:=Gla.made
aju:=a7.toList.take
ajv:=SetTable.grown
ajw:=Bool.not_false
ajx:=U.trans
ajy:=hG.nd
ajz:=tupK
ajA:=W.done
ajB:=x.at_
ajC:=room_in
ajD:=s.heap.IsListIter
ajE:=wpAny_updateSeq
ajF:=W.keep
ajG:=F.plain_extend_loop
ajH:=h.IsList
ajI:=F.slot_zip_iter
ajJ:=D.l2i1
ajK:=D.l2z
ajL:=D.l1z
ajM:=e9.isList
ajN:=wpAny_tryCatch
ajO:=numAt
ajP:=d9.extBut
ajQ:=f.map
ajR:=aTJ.nd
ajS:=Sum.inl.inj
ajT:=GM.Lj
ajU:=u.mono
ajV:=T.list
ajW:=r.trans
ajX:=List.takeWhile_cons_of_neg
ajY:=List.takeWhile_cons_of_pos
ajZ:=j.symm
aj0:=a9.length
aj1:=PySem.F.plainAttrs_list
aj2:=s0.row.length
aj3:=e6.trans
aj4:=sb.ts
aj5:=sb.trans
aj6:=Y.at_
aj7:=GM.BS
aj8:=iF.mp
aj9:=h.ne
aj_:=ls.filter
aj':=GM.BV
aka:=D.marks.map
akb:=m3.at_
akc:=D.lines.filter
akd:=c0.map
ake:=aTK.nd
akf:=a7.length
akg:=a4.seq
akh:=r.drawn.take
aki:=aTQ.nd
akj:=aTR.nd
akk:=vs.take
akl:=Y.few
akm:=a3.mono
akn:=GM.Gw
ako:=aT3.nd
akp:=Gla.judgePlan
akq:=hR.mono
akr:=Gla.stepBytes
aks:=aTZ.nd
akt:=Gla.readRecord
aku:=h8.map
akv:=r.free
akw:=GM.Lv
akx:=UInt8.toNat
aky:=GM.bT.gr
akz:=z.toNat
akA:=GM.zs
akB:=J.trans
akC:=aua._auto_1
akD:=b.take
akE:=Str.ofString
akF:=a7.take
aAI:=stepT
aAJ:=denote
aAK:=stepOk
aAL:=through
aAM:=boot_toks
aAN:=boot_drawn
aAO:=laidKept
aAP:=gensDone
aAQ:=namesBound
aAR:=staticsOk
aAS:=PySem.W.fnOf
aAT:=PySem.W.plainOver
aAU:=P.main.body
aAV:=e.trans
aAW:=Int.le_trans
aAX:=Int.ofNat_le.mpr
aAY:=Nat.lt_of_le_of_ne
aAZ:=Classical.choose_spec
aA0:=Value.isInt_shape
aA1:=intKind
aA2:=builtinsNs
aA3:=env.cells.lookup
aA4:=X.FR.heap.get?
aA5:=X.fn
aA6:=X.env.kindOf
aA7:=X.env.scope.kind
aA8:=I.ok.aNo
aA9:=I.ok.mod
aA_:=I.ok.has
aA':=backTo
aBa:=wpAny_Name
aBb:=isTrue_plain
aBc:=inplaceOp
aBd:=M.set
aBe:=wpAny_standAt
aBf:=wpAny_pyIter_list
aBg:=j.toNat
aBh:=wpAny_passesOwn
aBi:=T.obj
aBj:=truthy
aBk:=i.toList
aBl:=Bool.or_false
aBm:=O.isEmpty
aBn:=PySem.W.lookIn
aBo:=PySem.W.plainGet_of
aBp:=getAttr
aBq:=PySem.W.takerIn
aBr:=beq_eq_false_iff_ne.mpr
aBs:=G.map
aBt:=Heap.get?_push_size
aBu:=Code.isFrame
aBv:=Around.under
aBw:=Calls.spliced_nil
aBx:=BindsTo
aBy:=wpAny_call
aBz:=Y.after
aBA:=Keyword
aBB:=a.names
aBC:=P.zip
aBD:=List.length_replicate
aBE:=List.take_sublist
aBF:=SeqAt.EqAt
aBG:=AutoSeq1.sub_tuple_tuple
aBH:=typeLookup
aBI:=Subscript_
aBJ:=operate
aBK:=k.toNat
aBL:=Heap.get?_update_other
aBM:=List.length_singleton
aBN:=Walks.list
aBO:=Dp.readsAll
aBP:=NameKind
aBQ:=mem_lookup
aBR:=Nat.le_of_succ_le
aBS:=pushCells
aBT:=d.map
aBU:=own.map
aBV:=List.mem_map.mpr
aBW:=ok.uniq
aBX:=g.cells.lookup
aBY:=g.kindOf
aBZ:=ok.kind
aB0:=compEnvC
aB1:=Bool.false_or
aB2:=Bool.true_or
aB3:=Option.map_some
aB4:=ItemsAre
aB5:=Option.isSome_map
aB6:=List.nodup_nil
aB7:=Nat.le_refl
aB8:=wpAny_pyIter_enum
aB9:=Int.mul_le_mul_of_nonpos_left
aB_:=Int.le_total
aB':=Int.mul_lt_mul_of_neg_left
aCa:=Nat.lt_min.mpr
aCb:=Step
aCc:=l.reverse.map
aCd:=E.reverse.map
aCe:=a5.length
aCf:=List.getElem?_inj
aCg:=this.symm
aCh:=List.length_erase_of_mem
aCi:=R.lines.length
aCj:=Plan.pt
aCk:=beq_self_eq_true
aCl:=Clock
aCm:=List.mem_reverse
aCo:=Plan.next
aCp:=l.head?
aCq:=r.round
aCr:=twiceArea
aCs:=LawfulBEq
aCu:=Plan.among
aCv:=List.mem_range
aCw:=D.chain
aCx:=T.child
aCy:=first.setIfInBounds
aCz:=first.getD
aCA:=Plan.nears
aCB:=List.perm_middle
aCC:=Tree
aCD:=Int.mul_zero
aCE:=beq_iff_eq
aCF:=r.lines.take
aCG:=B.drawn.contains
aCH:=List.pairwise_cons.mpr
aCI:=Bool.or_eq_false_iff
aCJ:=Y.wide
aCK:=l.takeWhile
aCL:=I.mem
aCM:=r.pts.dropWhile
aCN:=Time
aCO:=decide_false
aCP:=List.filter_cons
aCQ:=r.lines.flatMap
aCR:=List.length_range
aCS:=F.lines
aCT:=Iff.rfl
aCU:=C.ord.lt
aCV:=sidesOf
aCW:=partsTwo
aCX:=List.mem_flatMap.mp
aCY:=List.flatMap_map
aCZ:=marks.length
aC0:=List.length
aC1:=List.take_succ_eq_append_getElem
aC2:=Y.first
aC3:=R.ss.drop
aC4:=R.gr.undone
aC5:=UInt8.toNat_inj.mp
aC6:=UInt8.toNat_ofNat'
aC7:=markAt
aC8:=LARGEST
aC9:=SMALLEST
aC_:=GlaKeeps.step
aC':=e.place
aDa:=GlaKeeps.markOk
aDb:=d0.stop
aDc:=List.filterMap_nil
aDd:=GM.bT
aDh:=Nat.succ.inj
aDi:=m.map
aDj:=List.map_inj_left.mp
aDk:=c.enc
aDl:=WData.weightAll
aDm:=d.weight
aDn:=b1.toArray
aDo:=vs.toArray
aDp:=l.heap.Ns
aDq:=Bool.noConfusion
aDr:=Codec.denoteAll
aDs:=Int.ofNat.inj
aDu:=h.m.mono
aDv:=Gla.markPlace
aDw:=D.size
aDx:=Gla.markAt
aDy:=PyData.int
aDz:=lay_ints
aDA:=SeqAt.shaped
aDB:=Gla.MARKS
aDC:=Gla.LINES
aDD:=Gla.POINTS
aDE:=Gla.SMALLEST
aDF:=decide_eq_decide.mpr
aDG:=p.trans
aDH:=Gla.Bytes
aDI:=b.flatMap
aDJ:=aTn.nd
aDK:=Nat.add_assoc
aDL:=Y.Nodup
aDM:=List.sum_append
aDN:=o.set
aDO:=o.length
aDP:=o.getD
aDQ:=path.length
aDR:=SetTable.advance
aDS:=probe.go
aDT:=SetTable.slot
aDU:=SetTable.has
aDV:=Nat.add_le_add
aDW:=below.go
aDX:=layClean.free
aDY:=Nat.lt_succ_of_le
aDZ:=c0.toArray
aD0:=t'.place.toList
aD1:=SetTable.fill
aD2:=t.put
aD3:=hashByValue
aD4:=HeapKind
aD5:=F.slot_tuple_hash.lookup
aD6:=c4.heap
aD7:=K.length
aD8:=W.item
aD9:=PyProof.Rows.F.plain_set_update_loop
aD_:=c4.mono
aD':=wpAny_askSetting
aEa:=not_or
aEb:=wpAny_runValue
aEc:=Builtin.«set_iterator.__next__»
aEd:=entryFor
aEe:=List.eraseIdx_eq_take_drop_succ
aEf:=left.length
aEg:=pickOrder.go
aEh:=x.plain
aEi:=setsByText
aEj:=Obj.data_mapFields
aEk:=wpAny_setField
aEm:=Array.getElem?_eq_none
aEn:=wpAny_isInstance
aEo:=Builtin.List.listLengthHint
aEp:=x.keep
aEq:=tupKeyC
aEr:=tupKindC
aEs:=pairsOf
aEt:=a3.push
aEu:=HT.aOR
aEv:=a9.mem_iff.mp
aEw:=wpAny_tupleItemsOf
aEx:=D.i1z.symm
aEy:=D.i2z.symm
aEz:=wpAny_newTuple
aEA:=sd.extBut
aEB:=Value.type.inj
aEC:=Builtin.List.listExtendWith
aED:=wpAny_pyIter_zip
aEE:=F.entry_min_loop
aEF:=W.frame
aEG:=D.i2z
aEH:=D.i1z
aEI:=D.TOz
aEJ:=g6.objs.size
aEK:=wpAny_updateSeq_pair
aEL:=wpAny_onRaise
aEM:=GM.Uy
aEN:=E.getD
aEO:=List.head?_eq_getElem?
aEP:=GM.S5
aEQ:=List.all_append
aER:=PW.pt
aES:=m.length
aET:=b3.mono
aEU:=s0.trans
aEV:=b9.mono
aEW:=d8.mono
aEX:=n2.symm
aEY:=f7.mono
aEZ:=GM.merge
aE0:=GM.SX
aE_:=GM.iE
aE':=W.map
aFa:=List.getElem?_of_mem
aFb:=d5.sw.at_
aFc:=gl.map
aFd:=GM.SY
aFe:=k1.trans
aFf:=e0.at_
aFg:=c6.at_
aFh:=Gla.Plan.drawn
aFi:=a9.clean
aFj:=Gla.numbered
aFk:=f.trans
aFl:=Gla.pairs
aFm:=NumV
aFn:=a9.clean.ord
aFo:=Nat.lt_or_gt_of_ne
aFp:=vp.length
aFq:=R.cs.take
aFr:=i9.free
aFs:=C.toNat
aFt:=row.flatMap
aFu:=RecAt
aFv:=at_of
aFw:=GlaKeeps.begins
aFx:=GlaKeeps.stepOf
aFy:=PyFlat.okCall
aFz:=KeepNeutral.asked1
aFA:=PyYqglha.answers_asked
aFB:=Expr
aFC:=wpAny_field
aFD:=wpAny_seqItems
aFE:=auf._auto_1
aFF:=treeTable
aFG:=h.nd
aFH:=d.trans
a0z:=openGood
a0A:=p.main.body
a0B:=List.filterMap_cons_some
a0C:=PySem.W.codeIn
a0D:=PySem.W.makesIn
a0E:=PySem.W.hasDictIn
a0F:=PySem.W.plainGet
a0G:=PySem.W.isFn
a0H:=s.tree.list
a0I:=GA.aMZ
a0J:=WData.layableAll
a0K:=Nat.add_le_add_left
a0L:=Nat.add_right_cancel
a0M:=Int.le_of_eq
a0N:=Classical.epsilon_spec
a0O:=Classical.epsilon
a0P:=Value.isStrOf_shape
a0Q:=SeqAt.EqAt.str_int
a0R:=SeqAt.EqAt.int_str
a0S:=Value.float
a0T:=Value.bytes
a0U:=List.take_nil
a0V:=u.slots
a0W:=List.mem_range.mpr
a0X:=base.Ns
a0Y:=X.FR.heap.FunFrames
a0Z:=X.env.globals
a00:=s.heap.IsCell
a01:=X.base.get?
a02:=I.base.keep
a03:=I.base.slot
a04:=I.base.Kr
a05:=I.base.FQ
a06:=I.base.Kq
a07:=wpAny_loadName_cell
a08:=wpAny_loadName_local
a09:=Calls.Name_function_global
a0_:=wpAny_isTrue_Compare1
a0':=wpAny_execs_cons
a1a:=interactive
a1b:=setItem
a1c:=wpAny_assign_Name
a1d:=storeName
a1e:=wpAny_pyIter_rangeiter
a1f:=wpAny_pyNext_range_end
a1g:=Int.mul_one
a1h:=IsRangeIter
a1i:=wpAny_pyIter_range
a1j:=IsRange.new
a1k:=intBits_le_64
a1l:=PyProof.noPylong_small
a1m:=PySem.W.handedIn
a1n:=beq_iff_eq.mp
a1o:=getMethod
a1p:=PySem.Within
a1q:=rW.some_of
a1r:=recursionLimit
a1s:=Code.frames
a1t:=Calls.spliced_cons
a1u:=I.ok.frames
a1v:=PySem.W.callWith_K
a1w:=I.ok.mod.kin
a1x:=PySem.W.callWith_K0
a1y:=Nat.le_succ
a1z:=a.kind
a1A:=Option.isSome_iff_exists.mp
a1B:=PySem.W.cellsFrom_some
a1C:=f5.dr.fresh
a1D:=List.of_mem_zip
a1E:=SeqAt.EqAt.int_int
a1F:=v.toNat
a1G:=Builtin.Slice.sliceAdjust
a1H:=slicePart_none
a1I:=Builtin.Slice.sliceApplied
a1J:=O.toList.drop
a1K:=Builtin.Tuple.tupleItemsOf
a1L:=PyProof.Rows.slot_tuple_getitem
a1M:=f.toList.drop
a1N:=evalPart_none
a1O:=c8.heap.push
a1P:=Int.lt_of_lt_of_le
a1Q:=seqIndex_neg
a1R:=seqIndex_of
a1S:=subscriptTail
a1T:=subscriptTail_builtinR
a1U:=slot_list_getitem.lookup
a1V:=d5.isList.typeIs
a1W:=SeqAt.in_tupleAt
a1X:=o.ExactDict
a1Y:=Calls.callWith_builtin
a1Z:=its'.toArray
a10:=Builtin.List.listTooLong
a11:=t.toArray.size
a12:=pushCells_keeps
a13:=wpAny_alloc
a14:=Option.isSome_some
a15:=newFunctionEnv
a16:=NameKind.cell
a17:=I.ok.hd
a18:=I.ok.glob
a19:=X.env.cells
a1_:=ForInStep.yield
a1':=b5.heap.push
a2a:=compPost
a2b:=Unit
a2c:=d.names.all
a2d:=e.symm.trans
a2e:=a3.symm.trans
a2f:=Paired.snoc
a2g:=I.mod.glob.keeps
a2h:=wpAny_getItem_heap
a2i:=wpAny_getItem_of
a2j:=wpAny_in_heap
a2k:=wpAny_notIn_heap
a2l:=wpAny_setItem_heap
a2m:=keys.length
a2n:=Builtin.Range.small
a2o:=wpAny_pyIter_revIter
a2p:=Int.le_antisymm
a2q:=wpAny_pyNext_enum_end
a2r:=wpAny_pyNext_enum_item
a2s:=Nat.succ_ne_self
a2t:=boot_enumerate
a2u:=Passes
a2v:=Option.none
a2w:=Nat.min_comm
a2x:=Nat.max_comm
a2y:=Nat.le_of_succ_le_succ
a2z:=List.getElem?_cons_zero
a2A:=Int.add_lt_add_of_lt_of_le
a2B:=Nat.le_min.mpr
a2C:=d5.turn
a2D:=List.mem_erase_of_ne
a2E:=m.erase
a2F:=r.lines.Nodup
a2G:=r.pts.Pairwise
a2H:=Int.add_le_add
a2I:=Int.lt_or_eq_of_le
a2J:=Int.mul_pos_of_neg_of_neg
a2K:=List.mem_filterMap
a2L:=Nat.not_lt.mpr
a2M:=Int.sub_pos.mpr
a2N:=Nat.lt_asymm
a2O:=Int.add_zero
a2P:=List.reverse_cons
a2Q:=List.pairwise_lt_range
a2R:=List.foldr_cons
a2S:=N.lay.mp
a2T:=List.nodup_cons.mpr
a2U:=List.Pairwise.filter
a2V:=List.mem_of_find?_eq_some
a2W:=List.find?_eq_none
a2X:=path.getLast?
a2Y:=List.mem_of_getLast?
a2Z:=seen.getD
a20:=List.length_eq_zero_iff.mp
a21:=List.all_takeWhile
a22:=List.mem_iff_getElem?
a23:=r.pts.filter
a24:=B.pts.contains
a25:=List.zipIdx_cons
a26:=r.lines.contains
a27:=List.pairwise_append.mp
a28:=a4.mem_iff.mp
a29:=r.pts.takeWhile
a2_:=takeWhile_all
a2':=p.nodup_iff.mpr
a3a:=m.eraseDups
a3b:=Nat.mod_mul
a3c:=List.take_left'
a3d:=List.drop_left'
a3e:=Nat.pow_pos
a3f:=List.drop_append_of_le_length
a3g:=r.marks.flatMap
a3h:=r.pts.flatMap
a3i:=Int.zero_mul
a3j:=a5.symm
a3k:=List.flatMap_def
a3l:=b4.trans
a3m:=b9.symm
a3n:=List.filter_eq_self
a3o:=r.marks.eraseIdx
a3p:=r.lines.map
a3q:=List.pairwise_map.mpr
a3r:=d8.Pairwise
a3s:=Except
a3t:=R.cs.length
a3u:=Gla.Record
a3v:=Nat.not_lt.mp
a3w:=Gla.Record.undo
a3x:=Gla.Record.redo
a3y:=stepAt
a3z:=Fault
a3A:=KeepNeutral.told
a3B:=GlaKeeps.begun
a3C:=Y.filterMap
a3D:=GlaKeeps.Call
a3E:=PySem.boot_len
a3F:=PySem.F.slot_dict_getitem.lookup
a3G:=List.map_eq_nil_iff.mp
a3H:=vs.toList.map
a3I:=l.heap.get?
a3J:=Codec.withinAll
a3K:=J.args.length
a3L:=d.params.defaults
a3M:=PySem.W.Codec.app
a3N:=PySem.W.nsIn
a3O:=T.len
a3P:=List.map_inj_right
a3Q:=GM.aRz.mpr
a3R:=GM.S2.mpr
a3S:=List.extract
a3T:=Array.toList_extract
a3U:=Array.toList_append
a3V:=Builtin.List.listFitsIndex
a3W:=List.any_eq_true.mpr
a3X:=List.getElem_set
a3Y:=List.length_filterMap_le
a3Z:=List.sum_cons
a30:=List.concat_eq_append
a31:=List.eq_nil_or_concat
a32:=Nat.add_mod
a33:=Nat.mul_mod
a34:=Nat.eq_zero_or_pos
a35:=List.range_add
a36:=List.filter_cons_of_neg
a37:=List.filter_map
a38:=O.toList.length
a39:=Array.getElem?_toList.symm.trans
a3_:=Nat.le_add_right
a3':=List.getElem_drop
a4a:=List.drop_sublist
a4b:=g.setIfInBounds
a4c:=List.getElem?_toArray
a4d:=Option.map_eq_some_iff
a4e:=B.toList.Perm
a4f:=sizeAbove.go
a4g:=t.place.toList.take
a4h:=a7.toList.drop
a4i:=t'.place.size
a4j:=SetTable.fits
a4k:=d.hash
a4l:=carriedByValue
a4m:=searchCouldBeSeen
a4n:=Bool.not_true
a4o:=D.toList.Perm
a4p:=Heap.SameBut.update
a4q:=wpAny_storeSet_of
a4r:=wpAny_setState_of
a4s:=setAddHashed
a4t:=ofAClassStatement
a4u:=IsTupleKey.typeIs
a4v:=PyProof.Rows.F.entry_set_update_loop
a4w:=F.plain_set_new
a4x:=codeAny_of_tree
a4y:=Builtin.«frozenset.__iter__»
a4z:=d.toList
a4A:=pickOrder
a4B:=F.axY.lookup
a4C:=wpAny_setEntries_of
a4D:=F.slot_set_iter
a4E:=unsupported
a4F:=Array.getElem?_eq_none_iff
a4G:=Obj.cls_mapFields
a4H:=Obj.isFreed_of_fields
a4I:=firstArgMember
a4J:=wpAny_ite_split
a4K:=wpAny_typeOf
a4L:=F.plain_list_iadd
a4M:=listOrd
a4N:=itemOrd
a4O:=Array.toList_map
a4P:=Array.toList_zip
a4Q:=a3.objs.size
a4R:=Value.ref.inj
a4S:=b1.Pairwise
a4T:=wpAny_ret_mkInt
a4U:=F.slot_tuple_hash
a4V:=Value.builtin
a4W:=F.slot_tuple_eq
a4X:=F.slot_tuple_eq.lookup
a4Y:=b0.objs.size
a4Z:=wpAny_mkInt
a40:=F.entry_extend_loop
a41:=W.low
a42:=F.args_zip_iter_1
a43:=F.slot_zip_next.lookup
a44:=F.entry_zip_iter
a45:=wpAny_pyNext_zip_end
a46:=wpAny_pyNext_zip_item
a47:=F.slot_enumerate_iter
a48:=c1.drawn
a49:=PySem.W.ktu_apart
a4_:=X.A.in1.in1
a4':=Nat.succ_ne_zero
a5a:=F.slot_dict_len
a5b:=Builtin.«len»
a5c:=Around.under_plainId
a5d:=richCompare
a5e:=intItems_at
a5f:=loadIfAlive
a5g:=D.TOi2.symm
a5h:=D.TOi1.symm
a5i:=D.TOz.symm
a5j:=ZipApart
a5k:=List.Nodup.sublist
a5l:=D.nears
a5m:=List.all_eq_false
a5n:=List.zip_cons_cons
a5o:=T.enumerate
a5p:=List.any_map
a5q:=List.contains_iff_mem.mpr
a5r:=D.drawn.length
a5s:=B.pts.length
a5t:=aTD.nd
a5u:=List.nil_append
a5v:=List.Pairwise.and_mem.mp
a5w:=Nat.add_le_add_right
a5x:=l0.trans
a5y:=e5.trans
a5z:=GM.begun
a5A:=List.Nodup.length_le_of_subset
a5B:=GM.aeC
a5C:=GM.aeB
a5D:=y.symm
a5E:=c6.symm
a5F:=GM.Gm
a5G:=gl.length
a5H:=PI.sb
a5I:=l1.trans
a5J:=Nat.add_sub_cancel
a5K:=D.outlines.length
a5L:=b.at_.below
a5M:=List.flatMap_nil
a5N:=GM.Lq
a5O:=List.dropLast_eq_take
a5P:=Gla.stepAt
a5Q:=Gla.readSteps
a5R:=dB.ls
a5S:=z.sb
a5T:=Gla.saveRecord
a5U:=GM.kq
a5V:=f6.wide
a5W:=KeepNeutral.mark
a5X:=KeepNeutral.points
a5Y:=Int.toNat_of_nonneg
a5Z:=KeepNeutral.bytes
a50:=PyYqglha.whole
a51:=PyYqglha.calls
a52:=KeepNeutral.start
a53:=PyFlat.put
a54:=Nat.add_sub_cancel_left
a55:=T.answers.Ok
a56:=eval
a57:=c5.drop
a58:=d8.drop
a59:=X.blk
a5_:=I.turned
a5':=bja.mpr
a6a:=r.pts.set
a6b:=c1.heap.get?
a6c:=plainId_quiet
a6d:=Binds
a6e:=B.filterMap
a6f:=f.toList
a6g:=Or.inl
a6h:=T.range
a6i:=W.idxOf
a6j:=l.foldl
a6k:=set_list
a6l:=GM.auL
a6m:=I.bi5
a6n:=seqObj
a6o:=F.slot_zip_next
a6p:=wpAny_forIn_list
a6q:=a3.extBut
a6r:=m.extBut
a6s:=Codec.app
a6t:=sliceBounds
a6u:=T.avW.b
a6v:=T.avW.h
a6w:=toString
a6x:=wpAny_loadPart'
a6y:=vs.toArray.toList.map
a6z:=D.i12.symm
a6A:=a9.extBut
a6B:=B.extBut
a6C:=y.length
a6D:=y.size
a6E:=ok.free
a6F:=Y.flatMap
a6G:=L.type
a6H:=F.slot_enumerate_next
a6I:=lines.map
a6J:=h.lst
a6K:=markPlace
a6L:=openSeen
a6M:=ar.any
a6N:=ar.toArray.any
a6O:=SeqAt.canLay_of_shaped
bjS:=backToKw
bjT:=keywordEach
bjU:=Builtin.List.listItems
bjV:=holding
bjW:=aue._auto_1
bjX:=h.casesOn
bjY:=Heap.get?_push_of_some
bjZ:=Nat.zero_le
bj0:=Nat.le_add_left
bj1:=List.mem_cons_of_mem
bj2:=inClass
bj3:=X.calm
bj4:=I.tok
bj5:=Nat.lt_succ_self
bj6:=aub._auto_1
bj7:=w.params.followText
bj8:=PySem.W.findIn
bj9:=Nat.lt_trichotomy
bj_:=Nat.not_lt_zero
bj':=boot_heap
bka:=Nat.succ_pos
bkb:=A.handled
bkc:=sx.take
bkd:=PySem.F.type_list_extend
bke:=PySem.F.slot_list_extend
bkf:=PySem.F.type_list_append
bkg:=PySem.F.slot_list_append
bkh:=List.nodup_cons.mp
bki:=wpAny_callSpecial?_slot
bkj:=pts.eraseDups
bkk:=s.life
bkl:=sx.drop
bkm:=ak.trans
bkn:=HO.lst
bko:=Eq.symm
bkp:=binaryOp
bkq:=f.mono
bkr:=wpAny_attempt
bks:=bindArgs
bkt:=Array.forIn_toList
bku:=d9.seq
bkv:=eR.pk
bkw:=d0.go
bkx:=r.marks.set
bky:=d0.yld
bkz:=row.map
bkA:=Result
bkB:=field
bkC:=Int.lt_trichotomy
bkD:=List.cons_ne_nil
bkE:=behindInMarks
bkF:=X.pn
bkG:=isSubtype_stop
bkH:=aTr.nd
bkI:=builtinLookup_eq_fast
bkJ:=typeLookup_type
bkK:=notedBy
bkL:=T.turn
bkM:=T.sorted
bkN:=List.foldl_cons
bkO:=a4.row
bkP:=rv.get
bkQ:=List.ext_getElem
bkR:=C.net.lay
bkS:=c5.set
bkT:=k.map
bkU:=facts
bkV:=A.under
bkW:=foldedSetIterable
bkX:=Call_
bkY:=a.below
bkZ:=a.at_.below
bk0:=b.at_
bk1:=Value.str
bk2:=bs.getD
bk3:=linePlace
bk4:=D.pts.filter
bk5:=gl.set
bk6:=d8.set
bk7:=UA.go
bk8:=D.pts.take
bk9:=List.map_id
bk_:=B.toList.toArray
bk':=I.ok.bs
bla:=Builtin.Tuple.tupleExact
blb:=GM.ve
blc:=PyFlat.told
bld:=PyFlat.played
blf:=h6.up
blg:=T.awq.b
blh:=T.awq.h
bli:=T.awp.b
blj:=T.awp.h
bll:=h.DictOf
blm:=I.base.there
bln:=N.len
blo:=F.args_zip_next_1
blp:=F.entry_zip_next
blq:=bjd.go
blr:=KeepNeutral.callOf
blu:=a5.mono
blv:=a.lookup
blw:=o.slots
blx:=List.takeWhile_sublist
bly:=D.lines.contains
blz:=Int.toNat
blA:=aus._auto_1
blB:=d7.size
blC:=List.length_pos_of_mem
blD:=row.Pairwise
blE:=List.find?_eq_none.mp
blF:=J.ret.enc
blG:=h'.update
blH:=IsListIter.at'
blI:=List.mem_singleton_self
blJ:=isSubtype_tuple_tuple
blK:=isSubtype_type
blL:=r.marks.drop
blM:=r.marks.take
blN:=c.foldl
blO:=GM.Tree
blP:=Heap.ExtBut
blQ:=Builtin.Tuple.tupleHashOf
blR:=R.takeWhile
blS:=W.Pairwise
blT:=Builtin.Tuple.tupleCompareSizes
blU:=I.ok.cab
blV:=PassesOwn
blW:=s.heap.IsSliceOf
blX:=w.params.setOrder
blY:=hi.length
blZ:=b8.length
bl0:=topStub
bl1:=wpAny_Dict_empty
bl2:=PySem.F.type_list_pop
bl3:=PySem.F.slot_list_pop
bl4:=m.Nodup
bl5:=k.length
bl6:=I.length
bl7:=richCompare_meets_room
bl8:=Value.notImplemented
bl9:=w.withFollow
bl_:=Gla.firstAt
bl':=d.eraseDups
bma:=List.take_take
bmb:=s.heap.IsTuple
bmc:=A.in1.units
bmd:=I.ok.uS.mem
bme:=wpAny_fieldsOf
bmf:=List.zipIdx_nil
bmg:=entryFor_alias
bmh:=wpAny_callSpecial?_none
bmi:=noBool_dict
bmj:=F.slot_dict_len.lookup
bmk:=List.Pairwise.of_map
bml:=Int.lt_or_gt_of_ne
bmm:=R.cur.marks.length
bmn:=F.args_enumerate_next_1
bmo:=F.entry_enumerate_next
bmp:=Expr.ListComp
bmq:=b3.symm.trans
bmr:=Int.mul_lt_mul_of_pos_right
bms:=List.getElem_inj
bmt:=Int.not_lt.mpr
bmu:=d.toList.Perm
bmv:=signature?_of
bmw:=fencedOpening
bmx:=call_enumerate_list
bmy:=call_list_seq
bmz:=Fast.te4187177175401517315
bmA:=Fast.te6613529449190102663
bmB:=Fast.te14364793385576792824
bmC:=Fast.te11892475500146522536
bmD:=Fast.te10156331382660048174
bmE:=List.length_take_le'
bmF:=wpAny_Assign_Subscript
bmG:=Option.ne_none_iff_exists'.mp
bmH:=List.Pairwise.imp
bmI:=PySem.W.WalkOS
bmJ:=Heap.SameBut.refl
bmK:=Option.isNone_some
bmL:=W.kdx_alive
bmM:=Option.getD_none
bmN:=PySem.W.length_le_weightAllW
bmO:=Moved.trans
bmP:=SeqAt.eqAt_reads
bmQ:=List.mem_of_mem_drop
bmR:=List.drop_take
bmS:=Walks.range
bmT:=List.set_set
bmU:=PySem.W.methodCall_KW
v a b c:=⟨a,b,c⟩
a a b c d e:=v a b (v c d e)
a2 a:=(a).2.2.2.2
a b c d e f g h i j:=a b c d e (a f g h i j)
DX:=xE8 _ _
x a:=by exact a
cr a:=(a2 a).1
v a:=(a:Int)
aS a:=(a).2.2.1
dw:=by decide+kernel
l a:=by {exact a}
d a b c d:=v a b ⟨c,d⟩
c a b c d e:=a->b->c->d->e
K a b c:=a[b]?=aa c
b b c d e f g h i j:=by refine a b c d e f g h i j
bS:=pv 0
bG:=‹_›
B a b:=(a).map b
aO a b:=bL (a×b)
f b c d e:=a b c rfl d e
ay:=by decide
au a b:=a->b->Prop
t a:=(a).length
af:=bL V
ag:=by simp[*]
J a:=fun z=>a
aq:=pv 1
v a b:=by refine⟨a,b⟩
ai a b:=v rfl a b
ah:=by simp_all
t a b:=by rw[a];exact b
ai a b c:=R0 a (R0 b c)
b5 a b:=a=aa (.lst b)
E a b c:=∀a,b->c
c c d e f g h i j:=by rw[b c d e f g rfl h i j]
C a:=by refine bF a
be a:=a=aa o
f4 a:=cr (a).2.2
i a b c d:=a->b->c->d
U a b c:=upd a b (.lst c)
de a:=fE (aNF a)
av a b:=v _ a b
cO a b:=.tup [a,b]
ao:=bL Nat
eV a:=a2 (a).2.2
d9 a b:=aUM a a6 b
N a b c:=by by_cases a:b=c
df a:=Nat->a
A a b:=K a i b
cd a:=(a:Nat)
rf:=aqy _ _
z a b c:=∃a,b/\c
M a b:=PE X a b
ac a:=aa (.ref a)
aV a:=(a).2.1
aw:=pv 2
bI:=by rfl
J a b:=(a).trans b
j b c d e f:=by refine a b c d e f
dE a:=au a vF
aR a b:=Inv X au M a b
au a:=fun _=>a
ox a:=dX (j:=a) rfl
a_:=aB7 _
h2 a:=fun _ _=>a
aM:=bL cR
aT:=bL Int
bc:=.ref a
j a b c d:=∀a b,c->d
a1 a:=a<=hv
b a b d e f g:=c (a=b) d e f g
Y a:=H a=ae
bQ:=cY H L
dt a:=by intro a h
dI a:=by rw[v a ?_]
L a b:=by rw[a];exact b
bU a:=aS (a)
bP:=GJ K bS
az:=by {simp_all}
zX:=.head _
II:=xE7 _ _
aW a:=⟨_,a⟩
aA:=(DX).2.1
Z a b c:=if a=ab then b else c
bb:=pv 3
aB:=cr (DX).2
aD:=cr (DX)
aE:=aS (DX).2
aF:=aS (DX)
aG:=(DX).1
aH:=f4 (DX)
aI:=eV (DX).2
i8 a:=fun _ _ _ _ _ _=>a
cA a:=(VA a)
Y a b c:=adl a b (ap6 c)
aQ:=by simp
V a b c:=(∀a∈b,c)
m b c d e:=a b c d rfl e
aa a b:=K a j b
aY:=aR H s
i9 b:=f rfl rfl b (ai dw dw)
aa a b c:=by refine v a b c
x a b:=(a).mp b
aL:=aE8 ?_
ax a b:=k _ _ a b
cG:=by cases h
dk a b:=rX a (de b) Bt
mr a:=fun _ _ _ _ _=>a
XE:=xE5 _ _
ab a:=fun x=>a
bh a b:=H a=aa b
ba:=bL I
l a b c d e:=∀a b,c->d->e
aU:=dE cR
bk a:=a<2^32
aN:=by rw[dt a6]
bg:=bL ef
bu:=by rw[dI rfl]
an a:=fun e=>a
cD a:=aS (a).2
bB:=by trivial
aZ:=by {simp[*]}
ce a:=ey a bjW
M a:=by refine bjX a
aX:=by clear h
d_ a b:=cO (.int a) b
as a:=⟨a,?_⟩
iq:=tb r
i b c d e f g h:=a b c d _ e rfl f g h
gE a:=by show a;decide
X a b c:=Tq K mg a b c
dl a b:=by obtain⟨a,rfl⟩:=b
bK:=x zX
ax a:=by simpa using a
aP a b:=v a rfl b
bf:=i9 dw
bz:=by grind
bh a:=B a vn
N a b c d e:=b5 (upd a b (.lst c) d) e
aj a:=by rw[a]at h
cB:=.ref l
cf a:=ky r a
dh a:=avm K a bE
bn a:=fun p=>a
aC a b:=.ins a dx b
g1 a b:=au_ gZ (zzF a rfl) (i8 b)
ms a:=(BU r a)
bC a b c:=by obtain⟨a,b,rfl⟩:=c
bs a b:=aUL K a b
dg:=ox 0
e a d e f g:=b vs a d e f g
bw:=aO ef Obj
fe a b:={cls:= .type a,data:=b}
bM:=by lia
ch a:=fun l=>a
eZ a:=.int a t
bq:=Lay r
ac a b:=b_ (o:= .lst a) b
a7 a b:=d9 a (dY b)
ax a b c:=∃a,b=aa c
as a b:=KL (sA a b)
eY:=(·.2)
ae a:=v (cd a)
D a b c d:=dk (dZ a b c) d
i a b c d e:=ai (bU a b c) d e
bs a:=by rw[a]at k
ai a:=fun q=>a
bX a:=cr (a)
bC a:=mr (a)
zY:=xE9 _ _
ps:=bZ cR
ar a:=by simp[a]
ad a b:=upd H a b
Y a b:=t (bW a) b
T a b:=by rw[N q a b]
bv a:=s _ _ a
cV:=.ref b
w a b c e:=by refine d a b c e
akG:=xE4 _ _
al a:=by rcases a with q|q
bo a:=fun m=>a
en a:=(gE (a1 a))
am a:=by rw[a]at this
cH:=bL Ln
au a b c:=Kd a (Kd b c)
bR:=pv 4
fM:=(·.1)
Ot:=xE6 _ _
eD:=by intro h
bN a b:=(a).mono b
bm a b:=(v a-b)
ce a b:=B (eJ a) b
y d e f g h:=by rw[c d _ e _ _ f g h]
a a b c d e f:=by have a:N b c d e f:=ak
wW:=.int 0
bY:=by subst e
Z a b:=by {rw[a];exact b}
aj a b:=b5 (L a) b
gW:=au rfl
av a b c:=if a then aa b else c
cs a:=ox R a
cm:=b_ c6
b1 a:=a<65536
aK a b c:=kk a (.ref b) c
bd a:=⟨rfl,a⟩
ed:=bp v
a b c e f g h i j:=a b c e f (d g h i j)
aJ a:=fun x S=>a
vu a:=by intro au s M H a I h
dc a b:=∀e∈a,b
ct a:=cr (a).2
f a b c d e f:=∀a b,i c d e f
bJ a:=by have m:=a
b b c d e f g h i:=a b c d e f _ g h i
cu a:=a->Prop
aO a:=by rw[bj a]
an a b:=(a).take b
a b c d e f g h:=a b c d e (v f g h)
aW b c d:=by refine f b _ c d
eg:=tp _
d c d e f g h i j:=by rw[b c d e f g h i rfl j]
eo a:=au a Hp
lO:=h2 rfl
bl a:=fv (ju cM w) A a Q E s
iY:=bZ Nat
ae a b:=(a).mpr b
fh a:=A a x
dE a b:=Tr (h2 a) b
mt a:=aO Str a
ap a b:=U H a b
bi a b:=cv (a<=b)
ep a:=by rw[dl t a]
gG a:=be (Hd a)
ab a b:=ax t (mg a) (eZ b)
bT a b:=cv (a<b)
bk a b c:=∀(a:Nat)b,c
bT a:=bjY _ a
eE:=bp e.1
eF:=bp e.2
cI:=pv 5
cR a b:=ll aOj a b
m b c d e f:=i b c _ rfl d e f
cP:=aqu _ _
cq:=by grind-abstractProof
P a b c d:=by have a:cY b c:=d
ar a b:=cv (a=b)
a0 a b c:=show a=b from c
cS:=bjZ _
ap a:=zzI a rfl
bn a b:=x (cf a b)
cJ:=v n
be a b c:=i a b c Prop
cN:=aK rfl
a4 a:=by delta a at h
e0 a:=a56 a cE
dq:=ox 1
dN a:=aUN K a3O a
ai d e f g:=by rw[c d _ _ _ rfl e f g]
o a b c d:=∀a,b->c->d
jk a:=(ms a).row
bm a:=av a rfl
h3 a:=x (ew a)
cC:=df Nat
an a b c:=Y a [b] c
ak a b:=by rw[aa a b ?_]
es:=en 2
fi:=by rw[dN,ea ay]
cv a b:=by obtain⟨dx,a⟩:=b
eh:=bL Pt
ea a b:=(a).filter b
v a b c d:=if a=b then c else d
bH a c:=∀b∈a,c
dG a b:=(a).any b
mw a:=.tail _ a
eN:=eX b5
jl a:=av a ?_
akH:=Int×cR
cK:=by {grind-abstractProof}
cZ a c:=num b a c
e b c e f g h i k:=by rw[j b c e f (d g h i k)]
eq a:=d_ (cd i) a
cL:=a<=b
a6 a:=by rw[a]at e
fN:=cg ?_
bt a:=(a).symm
a4 a b:=by cases a;exact b
am a b:=b5 (H a) b
gX:=i<aJ
ei:=aW rfl
fK a:=SB a H L
fm a:=fun t c6=>a
gH a:=aa (v a)
bj a b:=by rw[a,b]
gf:=by simpa using this
aj a b c:=by have a:cY H b:=c
aC a b c:=aR (x:=a) (y:=b) (cU c)
c b c d e f g:=a b c d e ⟨f,g⟩
f b c d e f g h i:=a b c d e rfl f g h i
b7 a b:=x (js a b)
cW:=bL Str
cT:=fq akH
ev a:=a=aa u
jm a:=a2 (a).2
ap a b c:=K (a) b c
ab a b c:=by have a:b=c:=rfl
zZ:=cA R.n
e a b c d e f:=by have a:upd b c d e=aa f:=ak
cX:=by {trivial}
et:=this.1
bD a:=by refine(a)
eG:=bp i
a1 a b:=Gh par a b
bv a b:=by have:=a;exact b
cE a:=it F a h
dz:=Ord r
ch a b:=(eJ a).find? b
du a:=f4 (a)
bh a b c:=d9 a (sA b c)
dM:=Str->ps
dS:=by cases e
dm a b:={s with heap:=a,toks:=b}
aJ a b:=v a b ?_
kC a:=be (zb a)
Z a b c d:=d9 a (yR b c d)
hf a:=H4 b a 2
M a b c d:=by have a:b≠c:=J d
hi a:=fun M H Q=>a
kE:=iD e f
fL a:=Lk r z a
dH a b:=aFu u CR a J b g ls
ak b c d:=by obtain⟨a,b,c⟩:=d
ey a:=iM a b1
br a:=av (bv a)
dO a:=as bE a
E a b c d:=av a ⟨b,c⟩ d
gY:=gG b
ej:=h3 bG
bx a b:=cO (vn a) (vn b)
g_:=oT e f
d0 a:=dir r v a
di a:=a4 _ _ a
ad a b c:=(E a b c)
dU:=fq cR
fj:=this.2
aK a b:=∀x∈a,b
am a b c:=(a).getD b c
i a b c d e f:=by generalize U a b c=d at e f
ac a b c:=by rw[a,b];exact c
d5 a:=f4 (a).2
bi a:=g1 a (sx gW)
aj a b c d:=D a b (gi c) d
dF:=cs h
fx:=by rw[vu Q]
dA:=Ln->Int
f5 a:=(l v L bQ a (Q v L))
dx a:=⟨a,rfl⟩
ek:=bZ Int
dV:=by {grind}
dj a:=(a).isSome
gg:=e.1+1
bU a b:=x (cn a b)
bx a:=(Xa a).1
j a b d e f g:=c a b d e (f->g)
bk a b:=V x a b
lP:=di 0 r.A
bV a b:=by generalize(xE2 _ _).1=a,(xE2 _ _).2=b
bE a:=aa (vn a)
hJ:=(ajz cM w)
b2 a:=by have l:=a
dW:=by congr 1
b a b c d e f g:=by obtain⟨a,b,c,d,e⟩:=f;exact g
gh:=[J,g,ls]
hm a:=⟨0,a⟩
dJ a:=fun i=>a
ci a:=by have q:=a
gj:=.inl rfl
cc a:=.inl (av a)
rg:=yD r
eu:=pv 6
kF:=bV b
jI:=x oQ
as a b c:=d _ a b c
aa a b d e:=c a b d e Prop
cM a:=B a eY
cw b:=bh a b
el:=by (simp_all;lia-abstractProof)
T a b c d:=by rw[P a b c (b_ d)]
iZ:=jk t
lQ:=aP t ak
tv:=bj0 _ _
a2 d e:=by rw[y a dx d dR e]
aO a b c:=by obtain⟨a,b,e⟩:=c
eH:=by split at h
wX:=.ref C
ca a:=by refine jl a
pw:=bp l.1
bo a b:=R0 a (de b)
dI a b:=a->b->cb
dl a:=av rfl a
ee:=df Int
d7 a:=ce n a
rh:=e::a7
h4 a:=aOm I q a
hn a:=A×B×C×D×a
cj a:=fun k=>a
fO:=.ref p
I a b c d:=∃a,b/\c/\d
fW a:={s with heap:=a}
ri:=bp a
rj:=bp l.2
A a b c d:=i (vs=a) b c d
ez a:=bN a ay
be a b:=KA X (Mx a) b
n d e f g h:=by rw[c d e _ _ rfl f g h]
fn a:=a3N K CB a
dm a:=c8 _ _ a
rk:=(wR e.1,wR e.2)
g2 b c:=LH C b a c b2 X G
i_:=(i+1)
c8 a:=fun h=>a
dn a:=adr K a
dd a b:=(a).drop b
d9 a:=yw (dY a)
bp a b:=v a b rfl
z a b c d:=by have a:b:=by rw[L c d]
cw a b:=x (aW (cU a) b)
ha:=be (gQ b)
fy:=td lJ j
a9 a b c:=by obtain⟨ar,a,b,c9⟩:=c
fo a:=fun i M L=>a
u b c d e f:=a b c d _ _ e rfl rfl f
de a b:=fv (ju eA X.w) X.A a b oM s
d_ a:=⟨a,[]⟩
gk:=.ref aO
e_:=by subst q
E a b c d e:=upd (upd a b c) d e
z_:=(zZ).side
dP a:=ox iq a
ec a b:=ll aPu a b
h6 a:=ai rfl a
K b c d e:=by rw[j _ b c d e]
a3 a b c:=by rw[bC a b (zm c)]
tw:=ahj M vs
c_ a:=fun b o e=>a
fz:=Nat×Nat
mZ:=aO Pt Pt
dp a:=.inl (ai _ (av a))
dn a b:=[v a,v b]
co a b:=b_ a _ _ b
akI:=by(rw[eD,cG])
eO:=by omega
cQ a:=by rw[a]at q
hb:=[wW]
cb a:=by have b:=a
ck a:=bj1 _ a
fP:=aE2 ?_
ae a b c:=by have a:b=c:=by simp[*]
db a:=fun b U=>a
bD a b c:=by rw[w a rfl b c]
tx:=e0 e
eP:=c<=d
gI:=aBt _ rfl
kG:=by cases q
tA:=bL Key
fA:=bL aT
cy b:=by have a:=b
cl a:=by have c:=a
bd a b:=t a<=b
hc:=ft e
jA a b:=by rcases a with b|h
bl a b:=by rw[<-a];exact b
dQ a:=by rw[l (.inl a)]
pz:=J ?_
b1 a b:=by rw[N e a b]
gJ:=as rfl
h7 a:=fW K H l a
hp a:=cR a bE
bn d e f:=by rw[ai d (cx e) dg f]
c c d e f g h i:=by rw[b c d _ rfl e f g h i]
r d e f g h:=by rw[c d _ _ e rfl f g h]
kD a:=by rcases a with g|g
cR a:=kd al f a
ab a b c d:=b6 _ _ a b c d
fk:=by lia-abstractProof
cn a:=(de a)
gK:=(iq)
y b c d e:=by refine f b c d e
aP a b c:=∀(a b:Nat),c
br a b:=dG H a b
bA a b:=zb a=aa b
fp a:=cr (a2 (a))
co a:=by rw[l (.inr a)]
kH:=dh bS
ja:=mt ef
hK:=eq y
fB:=X.K=K
hL:=dI t J p
mx a:=fun(l:Nat×Nat)=>a
akJ:=(wR m.1,wR m.2)
d_ a b c:=p=a/\ns=b/\d=c
hM:=by cases J
hO:=by cases R
fC:=bL aFB
eb a:=fun n=>a
e1 a:=fun v=>a
bW a b:=bj2 (top a) b
b2 a b:=by rw[z,a]at b
hq a:=.cons a .nil
fQ:=bj3=ab
s b c d e f:=m b c d ⟨e,f⟩
dJ a b:=be Nat a b
ef a b:=fm (ax a b)
fR:=by(simp[*];lia)
fD:=by rw[cv hd mV]
cY a:=by rcases a with z|z
lR:=aa R
hP:=.int i
e3 a:=∀x,a
gm:=by subst this
Aa:=.type "list"
fS:=by intro q
bE a b:=a=ab↔b
lS:=ajp vn
jJ:=R.d+1
aS a b c:=by have a:b=c:=by simp
gn:=df iY
gp:=Y b
fr a:=bh b a
cz a:=g1 a (vp lO)
vy a:=fun _ _ _=>a
mz b:=fW K H a b
fT:=by (simp_all;lia)
jb:=cu Hp
f8 a b:=ce (Mw a cE=b)
b4 a b:=bh a bS b
fs c:=fun a b=>c
fU:=M a d6
fV:=by have f3:=qI
gq:=aqy o p
gM a:=b5 _ _ a
jK:=bZ V
h8 a:=fun b=>a
bE a b c:=by obtain⟨vs,a,b⟩:=c
mC a:=cv (a<0)
c7 a:=(a).Nodup
bC a b:=by by_cases a:b=ab
df a b:=(a).get? b
cz a b:=∀p∈a,b
bJ a b:=qq a b akI
c5 a b:=Hd a=aa b
eA a:=a++[y]
ac a b c d:=J ((a).2 b c) d
wY:=Y l
k1 a:=aW (av a)
rl:=z.2.1
gs:=aO Key V
dc a:=by rw[a];rfl
wZ:=by rw[ep R]
jn a:=ea (pj i) a
dy a:=Ge r e (cf a)
gu:=x<=y
bT c e f:=by rw[d _ c e _ dx _ _ f]
ff a b:=Bp P w a b
m_:=f+1+zh
rt a:=Z aVE bS a bE
nx a b:=ptK (K:=K) (n:=a) rfl rfl b
jc:=by rw[bC rfl rfl b0]
nf:=bZ ef
dd a:=by have e:=a
bX a b:=by rw[a,b]at this
be a b c d:=g a b c (fun h b7=>d)
fg a b:=(a).lookup b
b8 a b:=Sb K a b
bZ a b:=by intro a b h
eM a b:=(a).Pairwise b
ir:=aCL e
hg:=rv h
jN:=vn p
bL a b:=hH (cO a) b
kI:=a4k F
jB a b:=a=aa (.ref b)
iu:=aO+1
N a b c d:=a/\b/\c/\d
a1 a b c:=d a b c ?_
g c d e f g h i j:=by rw[b c d e f g h rfl i j]
ec a:=by rw[bs (bj a)]
ci a b:=bC (sC a b)
hh:=di 0 A
eB a:=fun o e=>a
jO:=hm 0
cj a b:=arQ (own:=[(a,b)]) bI
gL:=l<=J
f9 a b:=cO (.ref a) (.ref b)
hj:=aqw o p
hk:=aqw _ _
V a b c d:=nx 2 (Ky (sC a b) (Ky (sC c d) aqJ))
ck a b:=by obtain⟨a,e⟩:=b
jC a b:=!(a).contains b
bF a c d:=by obtain⟨b,a,c⟩:=d
bl a b c:=by obtain⟨u,a,b⟩:=c
aJ a b c:=by obtain⟨a,b,q⟩:=c
dr a:=by have d6:=a
dp a b:=.inl ⟨a,b⟩
g3 a b:=show a=ab from b
rm:=bj4 _
fh a b:=by obtain rfl:a:=b
hl:=kq R
dK a b:=par a=aa b
kJ:=ac a
kK:=mr aPF
eC a:=bs bS a
dK a:=a7 a bS
fX a:=by rw[bs (aK a)]
dB a:=Q (.bl a) H
oz a:=fun i j=>a
dh b c:=by rw[aW l b c]
jQ:=e.1<t
jo a:=fe "list" (.seq a)
ia a:=E i gX a
jd:=eb e a0
Ab:=g2 H D
ak a b c d:=by have a:dc b c:=fun e a0=>d
akK:=by rw[dl t' Z]
db a b c:=by have g9:a=b:=by rw[DK,c];rfl
ds a:=by rintro rfl a k
hQ:=bZ a3z
w_:=by assumption
cA a b:=by exact .cons a b
e7 a:=fun y=>a
pA:=bj dw
iv:=a17 b0
jR:=bj5 _
Ac:=.error e
dR a:=dt g a
dL a:=cQ i a
c7 a b:=R0 a (fE b)
jT:=akg a5
a b c d e f g h i j k l:=a b c d e f g h i (v j k l)
ca a b:=by have a:b:=by simp_all
fY a:=x (J a)
cb a b:=by {have:=a;exact b}
dL a b:=J a (b_ b)
ng:=au 0
hS:=ax bG
hT:=aO c V
hU:=aO Str V
nh:=fh O
cc a b:=dE (tn a) b
f7 a:=bn a fw
em a b:=ey (a<=b) akC
eo a b:=ey (a<=b) bj6
cD a b:=by rw[bj a,bj b]
dC a:=bV (a::gF 2 i)
dr a b:=d_ a b []
an a b c d:=mz a (sC b c) (fE d)
Ad:=K2 r bX
fv a:=hp a g Z
IJ:=gc+oS
hV:=aqu o p
lT:=di lP r.E
g4 a b:=aUr (zzM a rfl) (i8 b)
e a b c d e f g:=aPI rfl a (i:=b) rfl rfl (aPJ rfl rfl rfl rfl) c d e f g
F a b c d e:=by generalize(XE).1=a,aV XE=b,bU XE=c,cD XE=d,a2 (XE)=e
pB:=aa v
kL:=by exact .nil
fw b:=fun a=>b
cD a b c:=by obtain⟨a,b,J⟩:=c
DY:=ap6 st
jW:=by subst c3
rn:=.type "tuple"
w b c d e f:=by obtain⟨a,b,c,d,e⟩:=f
ep b c:=∀a∈b,c
je:=wz vn
kM:=aP x
ic a:=(ms a).cnt
ef a:=fl a e
fp a b:=by rw[<-z,a]at b
xb:=akD 4
jf:=vn n
iw:=aE5 ?_
aV a b c:=by rintro rfl a b c
lU:=ajl B
xc:=zK j
oA a:=a2 (eV a)
f8 a:=x (cU a)
k2 a:=cr (jm a)
iy:=by rw[l q]
I a b c e f:=d ⟨a,b⟩ c e f
f9 a:=mG a=ae
cd a b:=av (av a) b
bi b c d e:=m (.bl b) c d e
cp a b:=by rw[aa a ?_ b]
lV:=e∈gE
iz:=e∈bX
L a b c d:=(i 1 a b c d)
ro:=x (mw bG)
P a b c d e:=bk j a (b->aa c d->e)
iA:=(aS e8.2).2
ni:=dH H R
eL a:=by rw[jA a h]
f_ a:=by show fv _ _ a _ _ _
Ou:=bh (IA 0 Xh)
ea a b c:=[.ref a,b,.ref c]
jg:=mz O
cs a b:=Dp K H a b
dN a b:=aQF d5 Y a b
iB:=Mp R J F
nj:=by cases this
jp a:=fun d=>a
mD a:=[.int a]
xf:=.ref J
kN:=.ref x
lW:=by subst ex
jq a:=.seq a n
DZ:=.own x
em a:=fm e a
lX:=by simp at h
ds a b:=∀y∈a,b
dZ a:=by delta a at k
ct a b:=cQ (an a) b
jX:=Net r
pC:=vn i
cE a b:=by rw[l (cy a b)]
Q b c d e:=by rw[j b c d rfl e]
Ov:=(v,a)
jh:=gP v u
dO a b:=a0 a b rfl
XF:=fL x.1
jY:=by (simp[*];lia)
ga a:=bn (p.y==a)
tD:=fW h'
rp:=hp aq
oC a:=fun(i:Nat)=>a
D_:=aDP e 0
bd a c d:=l b o a c d
ji:=aCC a5 B par
jj:=xE9 o p
hr a:=aOF bS a rfl
g5 a b:=(ai,a)::Mw b cE
j_:=eV eE eF z
d a b c d e f g:=aeR (K:=K) (R:=a) b c d e f g ?_ ?_
fF a:=by exact(a)
ka:=bL Env
bo a b c:=(if a then b else c)
du a b:=(show a from b)
eM a:=by have I:=a
eS a:=by have f:=a
pD:=.ref I
pE:=.ref z
mE a:=.int a u
rq:=by subst z
kO:=aK bG
Ow:=bj Hm
g6 a b:=by rcases a with b|m
bp a b c:=(a).set b c
kb:=Run R
ke:=pv 7
kf:=pv 8
nk:=dv v
kg:=aiB r
kh:=Rl I
xg:=bj7 "set-order"
a b c d e f g h i j k:=a b c d e f g h i ⟨j,k⟩
cl a b:=by have a:b:=by simp[*]
z a b c d e:=a/\b/\c/\d/\e
dc a b c:=by rw[C (aFC a rfl (x:=b) rfl c)]
rr:=ac d
a2 a b c:=by rw[bC a b (Cv c)]
k3 a:=ch (! a)
nq:=x∈B
aS a b c d:=show a=b by exact mP c d
xh:=bT e
xi:=by (constructor<;>simp_all)
jt a:=fe "tuple" (.seq a)
xj:=by (simp[*];lia-abstractProof)
gb a:=bn (p.x==a)
l a b c d e f:=by rw[T a b (upd c d e) f]
nr:=dm h' D
tE:=h6 rfl
tF:=h7 kF
mI b:=uU K H a b
K b c d e f:=a b c d _ (ai e f)
e9 a:=R.X e (R.k a)
Ox:=(mY r t)
bh b c d e:=i b c _ _ rfl d e
tG:=RT P w
dP a b:=D KC a cu b
ki:=Pt×Pt
hu a:=bj8 K wX a
xk:=K7 E N
im a b:=aia Wc aJ a b
fG a:=d9 _ _ a
kj:=by refine fF (fun c=>?_) (fun c=>?_)
er a b:=.Call (.Name a p) b [] pos
Cz a:=ey ((x==(a:Str))=ai) Ve
aFI:=(bk ij/\bk ih)
f_ a b:=ce (dG (aA' a (Mw b cE)) fM=ai)
io a b:=by obtain⟨a,a8,r,r1,d2⟩:=b
al a b c d:=by generalize(akG).1=a,aV akG=b,bU akG=c,(akG).2.2.2=d
xl:=aa 0
xm:=aa i
eT a:=by rw[aSU]at a
cE a b c:=by obtain⟨b1,a,b⟩:=c
b6 a b c:=by obtain⟨c5,a,b⟩:=c
ad a b c d:=by have a:b=aa c:=d
nu:=.ref t
ny:=.ref d
mJ a:=cv (bk a)
ie a:=eI (hn a)
tH:=by subst d3
fa a:=cg (bF a)
pF:=da _
hv a:=(a).toArray
eQ a b:=(a).getD b
kP:=wh g
f a b c d e f g:=by generalize U a b c=d at e f g
xn:=b_ nd
gc a:=fG a nd
pG:=cx U
pH:=om bP
m a b c d e f:=by generalize upd a b c=d at e f
lY:=a57 (B+1)
ju a:=by rw[akK];exact a
br a b c:=x (hn a b c)
Ea:=aS z.2
fb a:=(vJ a).1
kQ:=(II).1
lZ:=df ao
kR:=aV II
nz:=dE cb
kS:=bU II
kT:=cD II
cu a b:=ce (SE X a b)
kU:=bX II
k4 a:=fun b m=>a
kW:=by rw[vu D]
kX:=ct II
kY:=gP y u
nB:=dN bS
Oy:=([]:mZ)
l_:=by(simp_all;lia)
kZ:=cE j
k_:=eV (II)
ge a:=f5 (Gz L v a)
bi a b c:=fo (yQ a b c)
a7 a b c:=by rw[bD a (k1 b) c]
gl a:=kk f v a
la:=ff H h
fd a:=fun l a5=>a
nD:=aO Nat Nat
lg:=M b c3
lh:=xE8 o p
go a:=d _ _ a
aFJ:=us3 (vy rfl)
lj:=aCb R t s c1
bA a b c d:=(f a L bQ b c (Q d L))
xo:=by intro au s M H x y v u Q I R Z h
co a b c:=by generalize(RR _ _).1=a,aV (RR _ _)=b,(RR _ _).2.2=c
k6 a:=c A B C D a
c8 a b:=by obtain⟨c,a⟩:=b
nG:=bL d
fe a:=by have a9:=a
c_ a b:=by rw[a,H0]at b
nJ:=.ref it
ff a:=bj (J a)
tI:=.tup O
bV a b c:=.tup (ea a (.ref b) c)
tJ:=by intro z
gP a:=.Name x a
pI:=da hi
au a b c d e:={cls:=a,dict:=b,data:= .seq c d,slots:=e}
ac a b c d e:=by rcases bj9 a b with c|d|e
tK:=bH oU
fq a b:=∃e∈a,b
jv a:=by simp[a]at h
tL:=NK R.d
cp a b c:=KL (yR a b c)
b7 a b c:=(a).extBut b c
dj a b:=(a&&b)=ab
cF a b:=by delta a;exact b
xp:=v i
bj a b c:=d a rfl b c
ma:=by rw[C ?_]
fH a:=by rw[C (bF a)]
mb:=df Prop
tM:=cf z
mc:=by rw[dN,dH bI]
jw a:=by rw[bJ (x a a0)]
dv a b:=show a=b by simp+arith [*]
pJ:=eo St
Eb:=by rw[ep J]
pK:=gP x u
nK:=dN bP
pL:=kC a
md:=kC b
nL:=ey O
gS a:=fun p c2=>a
hw a:=yI r z a
tN:=vf r eL
jx a:=fun b o U e=>a
dx a b:=a[i]'(b)
me:=rt bE
ip a b:=fg a (b:Str)
bm a b c:=Cb a K H b c
nO:=fun e a0=>?_
eR c d:=j a b c d
mK a:=fun(p:Pt)=>a
D b c d e g:=f b _ _ (vn c) rfl d e g
V a b c d e:=a->(b/\c)\/(d/\e)
ga a b:=be x a L b
XG:=ju cM w
gr a:=ar rg m a
vA a:=z f7 (f7<m) a
mf:=Cz "__debug__"
ih a:=v pd mU a
Ec:=(pw,rj)
pM:=cn bG bG
IK:=bG▸bG
rI a:=cy a (bj_ _)
Ae:=Gn r z
cM a b:=zzN a rfl b rfl
hy a:=f9 _ _ a
tO:=aZO dw dw dw
aFK:=aK "gaps" B (aK "passed" b2 [])
rV a:=b3 au s M H a I h
nU:=by cases C
pN:=by cases S
da a b:=by rw[da a]at b
nY:=by rw[this]
dQ a b:=by exact cy a b
pO:=bL aiS
ru:=bj' hr
fI a:=(a).objs.size
mL a:=fun t=>a
gT a:=fun c=>a
bW a b c:=by obtain⟨m,a,b⟩:=c
ae a b c d:=by have a:vj b c:=d
gU a:=by have b5:=a
rx:=.ref f
jy a:=by refine cg a
nZ:=by refine fN
pP:=.inl a5
db a b:=by rcases a with rfl|b
pQ:=ze a_
xq:=cg h
pR:=bH Z
n_:=Run iq
oa:=wh h
ob:=aE7 ?_
oc:=aE4 ?_
Ed:=wN d9
xr:=aQj a6
ap a b c d:=v a b (t c d)
k7 a:=a=aa .local
pS:=x (bka _)
od:=bkb=ae
gZ a:=B a fM
bX a b c:=ai a b (de c)
tP:=ac l
g7 a b:=d_ a (.int b)
oe:=j<aJ
fJ a:=g1 a aFJ
bs a b c:=ac (a++b) c
bZ a b c:=by rw[w a b c ?_]
g8 a b:=dE (hH a) b
Ee:=([]:eh)
X a b c d:=(i 2 a b c d)
og:=x (mw zX)
Af:=hf 12
k8 a:=hi (d6 M H a)
Oz:=di b3
j b c d e f g h:=a _ rfl b c d e f g h
Ag:=ind (h=e)
Ah:=ind (h=rv e)
ev c e:=by rw[bT c a e]
oE b:=m _ _ _ b
L a b c d e:=cf (aC a b c) (aS d e)
Ef:=W b U
oh:=aCN r t z
tQ:=KV F vs
dR a b:=s _ _ a b
jD a b:=Z a (aa b) ae
fZ a:=fun D M H=>a
pT:=(cr e8).2
oi:=xE7 o p
f0 a:=dD a l m
aJ a b c d:=aOa (O:=a) b c d ?_ ?_
vC a:=bo (jC a akJ)
ar b c e f:=by rw[a b c d e d f]
ry:=yy lA 0 lo
IL:=EP X au M Q
bv a b c:=aSC a b c ?_ ?_ ?_ ?_
rz:=aa e
oF a:=aa (v a+1)
pU:=bL Wl
pV:=bL AK
dy a b:=(eJ a).filter b
ii a:=(a).map vn
gt a:=by have b9:=a
f1 a:=by have a5:=a
oG a:=["self",a]
oH a:=by refine ax a ?_
hz a:=.int a 0
X a b c d e:=by obtain⟨z,a,b,c,d⟩:=e
tR:=by simp[this]
OA:=sQ e0
g0 a:=cp (v a)
pW:=.dK F
pX:=.dT []
hA a:=by simp[a]at this
ew a b:=ll a b bE
tS:=aVH _
akL:=axX led
gb a b:=by obtain⟨F,a,_,_,_⟩:=b
hB a:=L b=aa a
xt:=v 0
pY:=(rf).1
jz a:=t a CK
aV a b c d:=U a b (c++[d])
pZ:=aV rf
b_ a b c:=J (J a b) c
rA:=ox 2
p_:=bU rf
jA a:=fun x a8=>a
Ai:=m.2.1
tT:=R.d-1
qa:=cD rf
f2 a:=bs bP a
qb:=bX rf
qc:=ct rf
jC a:=fun o z=>a
qd:=du rf
qe:=d5 rf
hC a:=Ge r f (cf a)
qf:=dx ae
k9 a:=dj (f a)
xu:=H4 b 4 4
f3 a:=fun e a0=>a
ij a:=d9 (gi a)
lb a:=(a==ahp)=ai
qg:=Gl X x
qh:=fp rf
Aj:=cZ 8 4
lc a:=upd L t a
ca a b c:=jl a (gH b) (gH c)
aK a b c d:=by rw[db a (b++[c]) d]
tU:=gP x v
g1 a:=(lx t a p)
ik a:=by have:=gz aC0 a
qi:=k2 rf
xv:=jH r e
qj:=fun x S=>?_
qk:=au I d
dT a b:=sb _ _ a (ax b)
XH:=[e,b9]
eS a b:=R (.ok (.ret a)) b
ql:=cr (eV (rf))
tV:=fun b U=>?_
im a:=by rw[v rfl (Ts a)]
qm:=oA (rf).2
mM a:=fun i M L _ z=>a
is a b:=by intro au s M H a b Q I J h
OB:=b∈a5 a
Eg:=by injection h with h
cF a b c:=p=a\/p=b\/c
eT b c:=bi b H I c
Eh:=by injection h with h k
qn:=by rcases ifC h with⟨rfl,h⟩|h
qo:=auL w h m
nA a c:=ahj h vs=tw/\c3 h b7 (fun b d4=>Z b (b8 h d4 a) c)
rW a:=by obtain⟨F,g4,h3,h6,f4,f5⟩:=a
io a:=⟨a,h⟩
dB a b:=⟨a,av b⟩
rX a:=⟨a,ag⟩
bx a b c:=by simp[a,b,c]
rB:=by cases g
gv a:=by rw[cz]at a
dZ a b:=by obtain⟨a,q⟩:=b
ld a:=fun o=>a
hD a:=(a).map cp
bH a b c:=by obtain⟨f,a,b⟩:=c
cM a b c:=by obtain⟨O,a,b⟩:=c
gw a:=by have a3:=a
gx a:=by have d1:=a
Ak:=.ref y
hE a:=ht (v a)
rC:=by subst f
rD:=by intro l
g9 a b:=gC (fH a b)
oI a:={s with toks:=a}
hF a:=qt a rY
tW:=.dT F
gy a:=(cA t).aP a
akM:=(Ox).row
rE:=bp kE
xw:=pv 9
rF:=lC b
xx:=b_ a5
gz a:=zzA a rfl
Al:=aE3 ?_
eU a b:=(a).free b
Am:=N8 gR
le a:=vw (pj i) a
gc a b:=aFD a rfl b
tX:=LY p
rG:=aYZ dw
xy:=bkc gc
ax b c d e:=a b rfl c d e
dC a b:=by have a:b:=by grind
OC:=cr z.2
g2 a:=aib a ab=ab
cr a b c:=by have a:b=c:=by simp_all
gA a:=a8 a=ae
gB a:=mg a=ae
IM:=L b=ae
M b c d e g:=f b c d ⟨e,g⟩
akN:=fun q=>?_
d3 a b:=by rw[N a b 0]
IP:=Q .bC L
gd a b:=dk (ac4 a) b
xA:=dh aw
ip a:=fun _ _ q=>a
xB:=bd rfl
bA b c d:=by rw[aW b (av c) d]
rH:=eo It
gD a:=by show(a)=_
tY:=by (constructor<;>lia)
jD a:=hi (t M H a)
tZ:=dO bE
XI:=H4 b 8 4
rJ:=dP h
as b c d e:=m b _ (cx c) d e
d4 a b:=by rw[kD (ik a b)]
hG a:=ef a lQ
IQ:=gM b4
aW a b c d:=by rw[cD a b (oz c d)]
An:=Gm r z row
OD:=mF M H
rK:=(a,b)
aFL:=U3 x=aa c
Ao:=rI b8
rL:=rV _
rM:=z<=w
Ap:=gz _ bG
t_:=lD-R.d
rN:=aDq (g3 ai p)
ua:=fun p c2=>?_
rO:=M e b8
jE a:=∃t,u=a
IS:=ar F d g
vD a:=(a5v a).imp ?_
is a:=by generalize a=a8 at a4 b4
aFM:=e8 vs H Q E
akO:=eV ed (bp b) ri
ub:=by delta eV dx dy
rP:=by rw[a4n,Ow]
rQ:=xE6 o p
rR:=g i j
xC:=a3_ _ _
cs a b c:=HQ r.w r.h a b c
g3 a:=rcF g ls a
hI a:=A++(a++B)
jF a b:=.Call (.Name a f6) b [] d
Aq:=B (iU b3) (jH r)
am a b c d:=fv (ju cM w) A a b c d
rS:=aiJ w h m
ez a b:=yq (adp aj1 bke bkd aPs a (dY b))
dD a b:=yq (adp aj1 bkg bkf aPr a (dY b))
OE:=a c2 g d D os
CA a:=b3 a au s M H _ I h
mN a:=afP w a r a7 e1 t k
Ei:=bZ UX
Ej:=by kernel_rfl
OF:=by simp+arith [*]
eA a b:=by obtain⟨a,b9⟩:=b
uc:=bL ax
ud:=bL PKV
lf a:=fun s=>a
ue:=[b8]
uf:=[bc]
xD:=by simpa using bG
bJ a b c:=by obtain⟨o,a,b⟩:=c
au a b c d:=by have a:SB b H c:=d
it a:=by have d5:=a
g4 a:=by have e8:=a
ug:=.ref r
b2 a b c:=["self",a,b,c]
Ek:=kv fM
uh:=vK h
bj a b c e:=.inr (d a b c e)
ct a b c:=if a=0 then b else c
d7 a b:=upd a x b
Q a b c d e:=by obtain⟨a,b,rfl,c,d⟩:=e
c a b c d e f g h i:=by obtain⟨a,b,c,d,e,rfl,f,g,h⟩:=i
a0 a b c d:=by obtain⟨a,b,c,d⟩:=h
ix a:=cy a (jr _)
ui:=by simp at this
ge a b:=by obtain⟨a,e,_⟩:=b
cb a b c:=(a).elim b c
xE:=by rw[<-e]
eV a b:=.Subscript a b pos
uj:=bO a0
xF:=wz cp
lJ a b:=(a).setIfInBounds b ab
it a b:=by obtain⟨a,_,rfl⟩:=b
jF a:=lr (HG r a)
he a b:=(a).idxOf b
uk:=lu R
eB a b:=oA a (hq b)
av a b c d:=by rintro rfl a b c d
um:=gd a4
uo:=oD p
iC a:=a=aa .free
eC a b:=x (RL a b)
iD a:=aDA a=ab
xG:=oY q=ab
cd a b c:=by have a:b=c:=by rfl
bL a b c:=by have a:b=c:=by grind
l a b d e f g h:=c a b d e (f->g->h)
uq:=2^(k+1)
ur:=df cb
Ar:=ac le
uu:=au ae
As:=h2 gA
li a:=fun x y=>a
uv:=i9 bB
rY a:=fe "list" a
uw:=aO tA V
lk a:=bC (aPG a)
hN a:=dc bX a
ux:=by rw[aO Hm]
xH:=fh l
hR a:=bH a8 a
uy:=fK N
Au:=fK gh
uz:=(v,b)∈bX
uA:=h4 bI
uB:=h4 w_
uC:=dm h' t'
ll a:=by cases a<;>rfl
IT:=t<=e.2
iC a b:=B (iU a) (ch b)
uD:=ar F m h
uE:=fa F k
OG:=Pt->cb
bN a b c:=jB (ip a b) c
akP:=j i M H
Av:=bs aq bE
uF:=fK [X]
El:=aa l x
xI:=ax gj e
XJ:=k3 (b3 l)
uG:=mI O
uH:=qD b2 B X c7
uI:=Gg r h
fr a b:=ab _ rfl a b
g5 a:=RQ o (J a)
Em:=bh (d7 dv)
uJ:=zl+64<gD
XM:=im 0 (Dk aJ)
En:=by rw[fh (u=dk a) R]
oK a:=aBL _ _ (hs a)
i a b c d e f g h:=by have a:N b c d e f:=co g h
iE a:=be (df a b)
hW a:=by rw[a3 e a0 a]
g7 a:=vC a X cnt aP
iF a:=by rw[g6 (Nd a) m]
dH a b c:=Se bS gH a (ez b) a6 c .nil fp
fs a b:=aya a z TI d b TO
bO a b c:=aE1 (p:=fun z:a=>b) y c
uK:=cof r e
uL:=a3y b p
lm a:=Z a A B
g8 b:=oj P w H h a b
uM:=(lo+hi)/2
hd a:=by have⟨u,f,hu⟩:=a
hf a b:=au Aa ae a b #[]
uN:=by subst C hw g
aFN:=aCW i j (aCV NG l)
ln a:=aQg rfl a5o (dY a)
uO:=aFI/\b1 jx/\b1 kB
rZ a:=(a).yld i H x L
Eo:=Ur w r e1 a7
xJ:=aY0 dw dw dw dw
r0 a:=mx (bT l.1 l.2&&bT l.2 a)
he a:=ayM C a x b2 B X c7
n a b c d e f:=by generalize(Ot).1=a,aV Ot=b,bU Ot=c,cD Ot=d,bX Ot=e,jm Ot=f
vF b:=∀(a:Addr)(D:Gla.Plan)(b2 X G:Addr),b
jG a:=⟨a,0⟩
iG a:=by rw[a]
eI a b:=by simp[a,b]
iE a b:=by obtain⟨j,a⟩:=b
ft a b:=by obtain⟨Y,a⟩:=b
hX a:=by rw[a5c a _]
Ep:=fq ps
dd a b c:=by obtain⟨a,a9,b⟩:=c
xK:=kv f
jL a:=by refine aix a
hY a:=by refine vD a
IU:=.int j
Aw:=.inl h
eW a b:=.inr ⟨a,b⟩
xM:=by subst d0
IV:=CF e0
Ax:=mH akL
Er:=cU this
xN:=.dK []
Ay:=bkh nd
cd a b c d:=bki (name:=akE a) b c d
jM a:=Km a this
Az:=bH r.E
eJ a b:=(a).Perm b
iI a:=(cA aJ).aP a
gl a b:=(a).flatMap b
xO:=yM r
cO a b c:=ko a (ko b c)
xP:=wR t
xQ:=a58 (j+1)
xR:=a5U R
xS:=aDa m
jS a:=a=aa .cell
b3 a b c:=by have a:b:=by exact c
fu a b:=x (fb a b)
AA:=x tv
aC a b c d:=by have a:b=c:=by exact d
R a b c d e:=by have a:b=c:=by rw[L d e]
ce a b c:=d a b rfl c
go a b:=t (ea a b)
xT:=dE ps
hi a b:=an (jD a b)
xU:=dh bb
IW:=x<cnt
iL a:=by rw[T x a]
vM a:=fun _ _ z=>a
AB:=Q v H
hZ a:=by rw[al (Nd a)]
mO a:=fun i H=>a
jU a:=fun i hi=>a
xV:=by rw[dN,ea bM]
AD:=eo cb
h0 a:=bl (ahk a)
xW:=fh X.N
xX:=mt aBP
aO a b c d:=by have a:b<c:=by exact d
IX:=a∈B
jV a:=Q (.bool a) s
eK a b:=X a b ["drawing"]
IY:=hf 14
akQ:=H4 b 12 4
AE:=(aS e8).2
bk a b c d:=arQ (own:=[(a,b),(c,d)]) bI
iM a:=cw b8 a
jZ a:=x (qp a)
de a b c:=match a with|some e=>b|none=>c
b4 a b c:=(ai a b (de c))
lp a:=by rw[a]at d3 k
S a b c d e:=by {obtain⟨a,b⟩:=c;exact⟨d,e⟩}
AF:=a≠b
xY:=ar F m g
OH:=cY a8 L
IZ:=13+2^k
xZ:=d_ 0 wW
iN a:=(ax a p)
x_:=fZ e a0
lq a:=∀v∈B,a
OI:=ch (l.2==v)
OJ:=(Nu iT)
oL a:=FY (oz (.bl a))
Es:=Nt r t
OK:=iV ic bkj
Et:=A Y a
AG:={r with marks:=d8}
Eu:=W7 z 0
hm a b:=(cF a).put b
cg a c d:=by have a:c:=fun b U=>d
oM a:=fun(x:Ln×Nat)=>a
ya:=dI I I
Ew:=iM O ar
bl a b c d:=bk j a (aa b c->d)
r1 a:=Ce K a (oo bE) (oo bE)
yb:=t _ _ q
hn a b:=PI X c7 a b
cu a b c:=aY->a->de b c
yc:=M i A
yd:=bU tv fw
fv a b:=bm q.x p.x*bm a b
ye:=Inv R t s
akR:=CA pos
eL a b:=afa K H a b
yf:=axH t k
yg:=by rw[rW (W it bK)]
iO a:=ac_ X au a b
akS:=rZ a19 mI []
AH:=(·.at_)
mP a:=fun N hN=>a
jM b c:=.inl (f b _ _ c)
yh:=xE5 o p
akT:=max i j
yi:=Ic h%(cA+1)
XN:=k H eg
AI:=aiA _ _
I0:=BS r v
iP a:=h1 _ _ a
akU:=yT B par
j0 a:=d5 _ (DR a)
AJ:=UN b p
r2 a:=j x c aFL a
yj:=dn p.y p.x
a1 a b c d:=match a with|some i=>aa ⟨b,c⟩|none=>d
yk:=dp ay ay
Ex:=CP bx 0 lo
h1 a:=by rw[aO i hi (ib a)]
akV:=aDN e (D_+1)
OL:=a+c+x
mQ a:=Sh arx a bE lO
akW:=⟨⟨l⟩,bkk⟩
a2 a b c d:=fv (ju eA X.w) X.A a b c d
jP a b:=a59 s H d (aB0 d a b cE) a8
jS a b:=aAS a b (ap5 st) (RH st) DY .none kV p b3 j e3 ct
fw a b:=by obtain⟨e,a⟩:=b
ch a b c:=by obtain⟨a,b⟩:=a1A c
AL:=bL ao
I1:=bL iY
iQ a:=fun j=>a
XO:=["self"]
ci a b c:=by obtain⟨a,b,d2⟩:=c
iR a:=by have c1:=a
iS a:=by have lt:=a
fE a b:=(a,.ref b)
Ey:=.ref D
eX a b:=by refine av a b
j4 a:=a<1000000
AM:=.inl bG
I2:=by delta sd
ad a b c d e:=by obtain⟨a,n,b,c,d⟩:=e
fI a b:=by by_cases a:i<b
XQ:=Sem cR
I3:=.bool b
iF a b:=.BoolOp a b pos
Ez:=vT ?_
mS a:=cg (cg a)
iT a:=(a).elim
j0 a b:=.Attribute o a b
j5 a:=min a n
EA:=dX ah
iH a b:=by rintro⟨a,b,e⟩
ho a b:=by rintro⟨a,b,h⟩
AN:=aer (Tb _ _)
AO:=qA (Tb _ _)
EB:=aiR eY
AQ:=yw Sd
iV a:=St a bh
I4:=bkl IJ
EC:=a0c dw
eZ a b:=by have a:b:=by grind-abstractProof
I5:=x IK
I6:=(aD2 j).1
AR:=by rw[l g]
cv a b c:=by rw[l (v a b c)]
OM:=ac c0
aP b c d e:=by rw[j b c d e ?_]
iW a:=by rw[aj (bj a)]
AS:=ms aJ
iX a:=bs aw a
j6 a:=a7 a aq
j7 a:=Q (vn a) H
i0 a:=by delta a;simp
hp a b:=show a=b by simp
cR a b c:=cR a (ll FZ (gi b) c)
iI a b:=an a "drawing" b
fJ a c:=bH a (b∈c)
i1 a:=by {have:=a;grind-abstractProof}
ED:=f::a7
I7:=b∉ch
cj a b c:=by rw[M a b c ah]
AU:=I->cb
AV:=dH L R
e1 a b:=aj gM aq a b
ls a:=fun v d3=>a
O a b c d e:=mw K a b c d (oG e)
fK a b:=jB (mg a) b
AW:=f++[e]
AX:=ey (X.K=d) aFE
hq a c:=j b o (be a) c
EE:=jo aDo
AY:=ia (ig i≠[])
ck a b c:=by rw[ak a bX b c]
i2 a:=g4 a (vp lO)
AZ:=ic aJ
e3 a b:=dB dG H a b
A_:=by(simp[*];lia-abstractProof)
Ba:=by(simp_all;lia-abstractProof)
lK a b:=mH (fe a (.fields b))
fL a b:=Bu X (.builtin a) b
EF:=jt aDo
XR:=k4 (.inl m)
ON:=(R6 K l)
i3 a:=num (qT r) a 2
aFO:=U a8 D []
akX:=mL (dk t.1)
Bb:=aR L c1
oP b:=f _ _ rfl b
fW a b:=g8 (cO a) b
ce a b c d:=[a,.ref b,.ref c,.ref d]
e4 a b:=Dw K H a b
Bc:=M o l
r3 a:=by rw[dc c9 a ?_]
oR a:=by rw[a9 rv p a]
Bd:=h8 (mC akO)
Be:=ep A (TB h A a)
cl b c d:=by rw[K b l _ (ai c d)]
vN a:=bA l wY (aj l a) cB
I8:=xc= .empty
XS:=aj' D z
cn a b c:=by rintro rfl h a b c k
fc b c:=q_ cM w b c a
akY:=mx (! aFN)
aFP:=fun y k h=>?_
aR c f g h:=by rw[e l b c f rfl g ay h]
Bf:=by rw[F a D b2 X G]
Bg:=by simp only[hC,oQ,Dh]at m
gr a b:=by obtain⟨e,a0,a⟩:=b
i4 a:=fun j b8=>a
Bh:=by intro x S
i5 a:=eV p q a
vO a:=bkm (gz (J (aa (bkn z))) a)
Bi:=by (rw[eD,cG])
Bj:=an Ou gc
EG:=b7 bG bG
XT:=by rw[bV M L]
cw a b c:=E a b DZ x c
Bk:=f8 rh (g5 tx a7)
r4 a:=c3 (agW a) h b7
i6 a:=by show(Z a _ _)
n a b c d e f g:=by rcases aNa a with⟨b,c,rfl,d⟩|⟨e,f,rfl,g⟩
Bl:=j x v (fn x=aa v) (mg x=v)
fd a b:=by rw[ac a b q q q]
nC a c:=nA (fun y e4=>I B (b5 (e4 D) B) (eB<hv) a) c
iJ a b:=sG C P w r a x b2 B X c7 b t
fX a b:=EP X au M Q a b
Bm:=by have f3:hv=16777216:=qI
EH:=a0 au s M H _ I h
i7 a:=L6 b c P w r a y x b2 B X c7 I
vR a:=a5_ (t':=dE) a F g4 h6 f4 f5
vS a:=∀(s:Shared)(H:Hp)(C:Addr)(e9:ja)(a8:bg),a
mT a:=⟨es,a⟩
cx a b c:=by rw[a,b,c]
hr a b:=by simpa[a]using b
EI:=by rw[xi]
j9 a:=by rw[jv a]
oS a:=by rw[this]at a
fY a b:=by obtain⟨f,a⟩:=b
mU a:=by exact .inl a
EJ:=bL cb
EK:=bL gy
df a b c:=by obtain⟨d8,a,b⟩:=c
cy a b c:=by obtain⟨a,b,c⟩:=h
EL:=by {rw[xj]}
OO:=.ref e
EM:=.inr rfl
I9:=by delta oT
EN:=by delta ahk
Y a b c d e:=by obtain⟨a,b,c,rfl,d⟩:=e
f0 a b:=by rcases S with a|b
f1 a b:=by obtain⟨a,q,_⟩:=b
kc a:=a56 a env
EO:=.bl b
gt a b:=(a+b).toNat
OP:=Vk toV
oT a:=by simpa[a]using this
OQ:=wz aDy
ER:=bko bG
ES:=bH d5
gw a b:=∃w∈a,b
ET:=(cA t).cnt
mV a:=a5' (rX a)
EU:=pv 10
OR:=pv 11
lt a:=eX (b_ a)
EV:=ava eZ
XU:=cx (dm b3)
lv a:=cx (K:=K) a
EW:=a53 cs
r5 a:=by rw[wZ];exact a
gx a b:=x (mP a b)
I_:=x (vZ bG)
Ja:=v lo
kd a:=v (t a)
EX:=(zY).1
cU a b c:=by have a:b=c:=by grind-abstractProof
gy a b:=B a (ab b)
EY:=t xk
kk a:=by rw[v (ay) a]
a6 a b c d:=ai a b (bo c d)
Jb:=fun x=>?_
EZ:=aV zY
Jc:=a1 bx
E5:=bU zY
eb a b c:=ab (if a then b else c)
iK a b:=bh a (.tup b)
E6:=cD zY
f2 a b:=(le 2 a++b)
E7:=bX zY
XW:=b≠oK
mY a:=Q (.int a) H
kl a:=dc gE a
E8:=ct zY
lw a:=by rw[bJ (ah8 a)]
E9:=cu aM
lx a:=fun t m=>a
ly a:=fun o q=>a
Jd:=mt cR
E_:=Ln->Ln
km a:=by {have:=a;lia-abstractProof}
f3 a b:=KA X (bkp a) b
hs a b:=bv a (RL this b)
Fb:=du zY
Fc:=by (constructor<;>lia-abstractProof)
f4 a b:=X a b ["data"]
Fd:=ey vs
Fe:=d5 zY
Ff:=I->d
kn a:=hn (E×F×G×H×a)
cY a b c:=ec (ec a b) c
ht a b:=aj gM bS a b
Fh:=by rw[dQ bG]
oU a:=by show fv _ _ a _ _ s
oW a:=fun y b6=>a
m0 a:=R.X f (R.k a)
Fi:=by subst_vars;rfl
ko a:=upd L d6 a
OS:=HG r on
kp a:=sR+a<gD
ks a:=bD a (fun v a4 P=>?_)
hv a b:=eM a (fun e f=>b)
kt a:=dr a []
bd a b c d:=an (om a) b c d
OT:=by rw[N4]at m
m1 a:=fun u hu=>a
lA a:=(aa wH,a)
ku a:=Ad*(a).x
kw a:=ie (E×F×G×H×a)
lB a:=ce de (e1 a)
Fj:=v q.x-p.x
Fl:=v z.x-p.x
XX:=by have d3:=d3
Fm:=aO c cR
cZ a b c:=by {have:=a;rw[am b];exact c}
bm a b c d:=rX (dZ a b c) (fE d) Bt
cz b c d:=oE (v b c d)
Fn:=aa V V Hp VK
Je:=by rw[oH s]
XY:=a6a B p
f5 a b:=by delta a;rw[b];rfl
OU:=oI (dE+1)
akZ:=ajd j v
Fo:=De r z=ab
Fp:=by rw[bV l b]
Fq:=sh F h m
kx a:=by obtain⟨a3,a9⟩:=a
lD a:=ahA (an (a==v))
Fs:=PA X rh t
OV:=j b o gY ha
m2 a:=by rw[aj a,cG]
ak0:=fun c4=>U (ar c4)
gA a b:=by obtain⟨j,b8,a⟩:=b
m3 a:=F9 i c a
Jf:=IC D eL
Ft:=a2 (a2 (zY))
OW:=(zU o x).2
m4 b:=oG P w b a f n
cA a b c:=oj eA X.w a h' b c
Fu:=it rg j h
Jg:=vx t ((q n).j+o)
Jh:=[x,y]
hy a b:=[vn a,vn b]
OX:=by constructor<;>assumption
OY:=BG h e
Fv:=BV r z
Fw:=vA F k
lF a:=bh k (aC A (sI a))
OZ:=cr (d0 a) (d0 b)<0
hz a b:=aBH (.type a) b=eU ae
Fx:=UF f cnt aP
ky a:=v [a] [] 0
aFQ:=Inv X au g0 L c1
T a b c d e:=au (a).1 (aV b) (au (bU c) (cD d) e)
O0:=(bkq i4)
Fy:=aDV h i
Fz:=xE4 o p
kz b:=Rd H a b
FA:=max (aP a) (aP b)
gB a b:=aER (aNy a (aNx b))
oX a:=aWf a5 n a
e1 a b c:=by rw[C (bkr (cd "__next__" a b c))]
lG a:=fun _ H Q=>a
FC:=ce (X.K=K)
FD:=bx z.y z.x
Ji:=yy lA lA hi
kA a:=an ["self"] "self" a
aFR:=(m::row)
FE:=jp (ar d.1 k)
XZ:=mH (fe "dict" (.dict #[]))
m a b c d e f g:=aS a b (cU (aC c d e)) (cU (aS f g))
FF:=Xm r z row
m6 a:=∀(l:Addr)(b:Gla.Bytes),a
O1:=bk p.x/\bk p.y
f7 a b:=jy+(8*aJ+(4*a+b))
CB a:=j g0 L (N g0 L) a
FG:=(tl df p.i H_).1
FH:=by refine fF pz pz
vW a:=.ListComp t a d pos
o0 a:=Tr (vM (a5S sb n)) a
X0:=jl c5 (oF e.1) (gH e.2)
Jj:=a59 c8 d4 d a a8
ae a b c d e:=P y a b y (oC c d e j y=ai)
FI:=aC dm (aK "links" X aFK)
FJ:=jy+8*aJ+4*dP+12*i
CC a:=ly=kx->bks a (d_ b1)=eU (MJ b1)
iL a b:=fun _ _ _ _ _ _ _ a=>b
kB a:=by rcases a with rfl|rfl|rfl|rfl
O2:=iU (VR r t z)
o1 a:=k6 (c E F G H a)
j1 a b:=dG a (Dz (wR e.1) (wR e.2))||dG (B b (bo akJ)) (Cg rk)
lL a b:=LN C H L r b2 X a b
FK:=fun e3 A ez s H vs Q E a6 h=>?_
o2 a:=⟨#[],a⟩
lH a:=⟨?_,a⟩
r6 a:=⟨en 3,a⟩
O3:=bL Obj
Jk:=bL G6
Jl:=by {lia-abstractProof}
O4:=.ref c0
lJ a:=by refine N5 a ?_
m7 a:=cv (0<a)
m8 a:=dH (f8 a)
O5:=.inl k
Jm:=by subst b4
ec a b c:=.cons a (.cons b c)
Jn:=.str x
Jo:=.type "set"
Z a b c d e:=by obtain⟨O,a,b,c,d⟩:=e
gD a b:=bW (fm a b)
dh a b c:=by have:=a5A a (l₂:=b) c
Jp:=by rw[<-bkt]
O6:=.dK akU
X1:=.builtin id
Jq:=.ok T
O7:=dX ag
Jr:=oV (· < ·)
Js:=iU (HD r z)
m9 a:=(a).head?
vX a:=(ND a).eraseDups
j2 a b:=il (b_ (o:=a) b)
gE a b:=mx a (da b)
r7 a:=(a).isNone
Jt:=cx b3
Ju:=bku a5
Jv:=aE9 ?_
na a:=bkv a rfl
lK a:=cF (b_ a)
Jw:=agt row
gG a b:=Nat->a->b
c4 a b c:=by have a:b:=by simpa using c
O8:=xg=ab
hA a b:=by simp[a];exact b
Jx:=Gw b p=ae
gH a b:=by {rw[aj a];exact b}
di a b c:=by {rw[aK a,aK b];exact c}
lL a:=by rw[v ?_ a]
O9:=be (H b)
O_:=be (a6b b)
o b c d e f g:=by rw[j b c d e ⟨f,g⟩]
Jy:=h2 cD
r8 a:=Q (vn a) L
Pa:=Q bc L
Jz:=Q (.ref F) L
JA:=e8.2.1
Pb:=as ?_
JB:=bh akV
j3 a b:=ae (yy n a b)
nb a:=by intro au s M H Q I a
gM a b:=by rw[Z (bW a) b]
JC:=by rw[vu R]
JD:=mt Nat
JE:=(v,x)
Pc:=jk Ae
Pd:=jl rfl
X2:=Q ai s
Pe:=hf 16
JF:=(u,v)
JG:=Ov∈bX
JH:=by rw[cv q mV]
JI:=I->aT
c9 d e f:=by rw[ai d (cx e) dq f]
l1 b:=cw (.tup b)
Pf:=c_ xh
nc a:=uU K H p a
e3 a b c:=by {rw[fX a];exact⟨b,c⟩}
nd a:=by have:=a;rw[gf]
JJ:=cZ 4 4
ef a b c:=X a b ["drawing",c]
JK:=vy cD
JL:=hW k A
gN c d:=eM c (fs d)
JM:=ad l o
l2 a:=g4 a (sx gW)
bn a b c d:=PS X (.Assign a b c) d
Pg:=t M H Q
l3 a:=by {rw[a];simp}
gO a b:=by rw[aj a4 a (b_ b)]
JN:=by rw[io x P]
JO:=by rw[io vs P]
iN a b:=by rw[jy ⟨a6c a _,b⟩]
l5 a:=∀(l:cH),a
Ph:=aS n i
JP:=di g Z
Pj:=by (split<;>simp_all)
JQ:=f_ pos a7
gQ a b:=(.inl a,.int b)
Pk:=a1 a b
X4:=dK c 0
nl a:=dX (by rw[cz,a];rfl)
hC a b:=hu a=aa (ac b)
l6 a:=be a Hp VK
hF a b:=Ce K a Sg (oo b)
JR:=mN bh
JS:=fn n i
c_ a b c:=x (uP a b c fw)
JT:=rY (jq eT)
JU:=sR+1<gD
ak1:=W i m M H
JV:=by rw[VH,Nf]
iO a b:=by obtain⟨ar,rv,a,_⟩:=b
gR a b:=e3 (x∈a↔x∈b)
X5:=mM F k v
aFS:=k a b=ab
X6:=k b u q
JW:=GH K h A
r9 a:=r2 (c≠a)
ak2:=aDI (gF 4)
l7 a:=sD a v K
JX:=fun d nd=>?_
o3 a:=Z a (i e) 0
ak3:=dd lS 1
JY:=dJ Ln Nat
l8 a:=vN (bV a)
Pl:=iC XJ Ec
l9 a:=ahP R J a R.n w
JZ:=by rw[cE q2 f6 h.s]
mi a:=by have d9:=wN a
dJ a b c:=av (vO (UO a b c))
bo a b c d:=by generalize a=b7 at b5 b c d
X7:=Ul t p
ak4:=vD D W
nm a:=by have e:b=a:=by simp_all
X8:=K a7 p e
J0:=fun _ _ _ _=>rfl
aa a b c d e:=by rw[a0 (jl a b ae) c (af8 d e)]
nn b:=a1 hY/\lb a/\b
Pm:=as gI rfl rfl
J1:=ag_ g d aO f R
J2:=aO tA (ef×cR)
gS a b:=by rw[z h8 (uQ a) b CK]
hG a b:=cc z_ w l a=cc z_ w l b
J3:=XI+akQ
J4:=iM b c7
Pn:=.dict a7 e1
aFT:=by obtain⟨rfl,_⟩:=b0
J5:=Loc ahi x
ak5:=ju eA X.w
Po:=bkw i H
J6:=den r e
mj a:=HD r z a
X9:=bkx i m
o4 a:=ko (BZ r a) (yN r)
ml a:=at_ a i h
iP a b:=a4r d0 hd a b
mo a:=Z a _ _
mp a:=fv (ju eA X.w) A a Q E s
J7:=fF (fun c=>?_) (fun c=>?_)
iQ d e:=by rw[y x dx d gG e]
J8:=eV p q z
J9:=bp ae ae
gU a b:=X a b ["data","place"]
bC a b c d:=em (l+(a+b)) (J+(c+d))
bD a b c d:=eo (l+(a+b)) (J+(c+d))
J_:=ch aJ (oC (bT (t (ig i)) 2))
Ka:=ch aJ (oC (!(am XM i ai)))
Kb:=a6d X.K fd c5 c7
iR b c:=i a _ dx _ b dR c
da d f g:=vF (e [bc] Ab d f g)
Kc:=ey (aA5 x=ab\/k7 (ME x)) ahw
a6P:=nC (w (U e4 D (eA B))) (w d4)
Ke:=a2u T X E
Pp:=afz nx k6 l0
Pq:=V u vs (Cd A u)
a6Q:=fun e c1=>R Ac c1
dK a c d:=b a b7 Y c q2 e0 d
Pr:=[x,y,g,q]
vY a:=Cut r a z A B
Kf:=by rcases H with H|H
nE a b:=ag' (bD a (fun b1 a4 P=>?_)) c0 b
gV a b:=aWF cA k c0 a b
Kg:=TI t k a7
Kh:=a5F r z row
no a:=fv (ju eA X.w) X.A a Q E s
em a b d:=∃W:aa Nat Nat a Hp,(∃m,b)/\∀i m M H,d
o6 a:=fun i h h' st k=>a
mq a:=by intro x a nx k6 l0
a6R:=E L (w L) (vA (W (i+1) f7 L))
gZ a b:=by rw[i b7 a b d4 c8 e7]
CD a:=∃W:dJ Nat Hp,(∃m,W 0 m aFO)/\∀i m H,a
Pu:=by obtain⟨u,b,e,k⟩:=a0o h
ak6:=CB (vA (W (i+1) f7 g0 L))
j4 a b:=by show Kx a b _ _ _
cf a b c d:=[.int a,.int b,.int c,.int d]
Pw:=bky i H x L
bE a b c d:=fun(l:Pt×Pt)=>(min a b,max c d)
av a b c d e:=aON a (bN b a_) (ag6 ay) rfl c d .nil fp e
o7 a:=U au a4 M a8 a r d2
Ki:=uZ eA X.w X.K mG sM T k f fd c5 e8
Kj:=@aE2 _ _ _ _ ?_
bZ a b c d:=PoI a P w b d0 x X c7 I W c k d
Kk:=@aE8 _ _ _ _ _ _ _ _ _ _ ?_
hI a b:=∀(kV p b3:Value)(j:nf)(e3 ct:Value)(b1:aM),CC (jS a b)
np a:=⟨o,a⟩
iS a b:=⟨f7 a,b⟩
Px:=bZ aFB
Py:=bZ bT
Pz:=bZ aDd
PB:=by rw[cG]
j5 a b:=by obtain⟨w,a⟩:=b
o8 a:=by exact .inr a
ns a:=(vo (vo a))
PD:=(R7 lo n)
dj a b c:=("Sweep",a,b,c)
dk a b c:=("Record",a,b,c)
PF:=fq cb
PH:=fq Nat
PJ:=fq iY
dl a b c:=by obtain⟨v,a,b⟩:=c
PL:=by split at e
X_:=.ref k
Ya:=.ref lst
nt a:=cv (b1 a)
o9 a:=.inr (.inr a)
hR a b:=.cons a (hq b)
PM:=bj a9
PN:=aBs vn
PQ:=ft d0
sa a:=by obtain⟨_,e⟩:=a
dm a b c:=by rcases a with b|⟨a3,c⟩
PR:=by simp at S
hY a b:=by obtain⟨a,q2,_⟩:=b
nw a:=by simp only[a]at h
Yb:=bF ?_
nA a:=aqb (aC a)
PU:=by simp only at s
nC a:=min a e.2
PV:=R.k kE
PX:=R.k g_
o_ a:=ind (h∈a)
PY:=aFq jJ
pa a:=pe (ih a)
nE a:=yP (jz a)
PZ:=aiR akX
P0:=aE6 ?_
P1:=bV zT
P2:=by dsimp only[ac6]
Yc:=.live i
P4:=bkz vn
P5:=aE' vn
P6:=a58 (i+1)
P7:=a5T wH
j a b c d e f g h:=by obtain⟨a,b,c,d,e,f⟩:=g;exact h
hZ a b:=by have:=a;exact b
nF a:=x (aM4 a)
P8:=x (dH rfl)
aFU:=cr (a2 z)
nH a:=by rw[fx];exact a
dn a b c:=by {rw[a,b];exact c}
P9:=by rw[C fN]
P_:=HE r z=ai
Yd:=fun m=>?_
Qa:=dE a2b
Qb:=dE bkA
Qc:=i9 bz
bp a b c d:=b5 (upd a x b c) d
Qd:=bn (oY z)
Qe:=ae m_
Qf:=ai ah
h0 a b:=dc (bH a) b
h1 a b:=ae (mem a) b
nI a:=by {have:=a;simp_all}
Qg:=ev (par c)
Ye:=e.1<e.2
nM a:=f5 (lL a v)
nN a:=by rw[a];simp
nP a:=E i (i<n) a
dp a b c:=Y a ["self",b] c
Yf:=eb e m.1
j6 a b:=ec a (a7 b kH)
Qh:=i<=n
Qi:=g2 H r
nQ a:=fun p q=>a
nR a:=bW 138 a
ak7:=0<=w x
Yg:=aDP x 0
Qj:=by rw[Eb];rfl
Qk:=hW k X.A
Ql:=rt rp
Qm:=ey (X.w=w) aFE
br a b c d:=by have a:b:=by rw[<-c];exact d
Qn:=eC aq
Yh:=gP y v
Qo:=d_ 0 (.int D.w)
Qp:=aC dm aFK
Qq:=ad a o
Yi:=by intros;simp_all
Qr:=t<R.n
sb a:=ax (ne a) e
Yj:=cw b8 q
Qs:=i<=bx
Qt:=ch (l.1==v)
ak8:=(bp h.1).y
ak9:=(bp h.2).y
Qu:=(R6 K a)
Qv:=p.x<=r.w
Qw:=z.x<=r.w
iT a b:=vP a=aa (.builtin b)
Qx:=U b7 D []
Qy:=hy hd
sc a:=fun J c1=>a
Qz:=J.1*J.1
QA:=aa V af Hp VK
QB:=by have p:=p
nS a:=(.inl a,wW)
ds b c d:=by rw[j b c ?_ ?_ d]
ak_:=dN H _
QC:=y≠x
cg a b c d:=by have a:b=c:=by have:=d;rw[gf]
QD:=Y (fm q d1) q
ak':=bm q.y p.y
Yk:=(a6e (c[·]?))
QE:=(a6e (a7[·]?))
QF:=WX i t
QG:=vj H L
QH:=au Nat iL
QI:=PA X [e] d6
QJ:=by rw[d2]at p k
aFV:=zN bh F b
ab a b c d e:=by rw[M a b c (by rw[gb q d,fp e q,kG])]
QK:=jC 2 64 jz
h5 a b:=by have a3:a:=Cw b
QL:=(Ct a3).1
QM:=ch n p
dt a b c:=I dx a b c aj9
Yl:=V b a8 IM
ala:=oM (mC XF)
QN:=by have i9:=eN
QO:=lH<=8192
QP:=h b U
pb a:=He a bh h'
QQ:=sT a6f ns
nT a:=cQ (SI R a) gE
QR:=HK p l
h8 a b:=num (Gq r++B) a b
nV a:=K O a x
QS:=aa g xm
dv a b c:=by have a:b:=fun i hi=>c
QT:=dI Nat Ln
QU:=aC hI (sI .bC)
nW a:=by rw[f_ (bkB a 2>>=_)]
nX a:=(hJ).is a K b
iU a b:=ap (vy df k a) m b
n0 a:=(yl (fn p.1),a)
QV:=k b o b0 e
alb:=by rw[a5n]at c9
n1 c:=by obtain⟨a,b⟩:=c
h9 a b:=by obtain⟨p,c2,a⟩:=b
n2 a:=by have b6:=b6 _ a
QW:=y::d7
alc:=.yo o u
QX:=mH (jo #[])
bF a b d e:=c aY a b d (de e IL)
sd a:=ac sb b U a
n3 a:=by rw[iE b8 (aFa a)]
QY:=by rw[b6 a3 e9 h.p]
bH a b c d:=bk i a (b->(i<t c↔d))
n4 a:=HV r x=a
pc a:=fv d5 A a Q E s
Ym:=Bv J d6 c3
n5 b:=a (.int b) H rm ei q
h_ a c:=ayd a e it c d b u
ia a b:=by obtain⟨y,b6,a⟩:=b
QZ:=de<=4096
Q0:=cv (XF=0)
Yn:=fun l a5=>?_
Q1:=fun y b6=>?_
iW b c:=v=bc/\b/\c
n6 a:=a7 a (r1 aq)
Q2:=(v r.w+1)
v0 a:=fun O H Q=>a
Q3:=b7 et fj
n7 b:=by rw[dh (.inl b) ?_]
Yo:=i_%t (Z++d)
ald:=K f x l
pd a:=M (er x rh) a
dx a b c:=∀{l:cH},a->b=c
Q4:=iE N c J
Yp:=fW K a8 a O
n8 b:=by have⟨a,d0,b3⟩:=b
v1 a:=Hh XG A a R s
ib a b:=i3 _ _ a (i0 _ _ b)
Q5:=by rw[bE d2 e9 h.c]
sf a:=fun b o _ _ b0 e _=>a
n9 a:=∀b1:aM,ly=a->P b1
j7 b c:=f (b-i_) (bn (aR Z) c) Z u
Q6:=vW [d c7 Hg G 0]
ale:=(aBU eY)
sg a:=.list (B a dT)
Q7:=a2H h i
Yq:=c e<c f
Q8:=RR o p
ic a b:=Bp eA X.w a b
of a:=d6 _ _ a
oj a:=b8 M H a
Q9:=256^w
j9 a b:=by obtain⟨t,a,f6,_⟩:=b
Q_:=sT aBk d8
Yr:=by delta dst aC_
Ra:=by rw[ak,<-qC]
Ys:=Vn a (N3 c W)
bs a b c d:=by rcases bkC a 0 with b|c|d
Rb:=fb bG bG
Rc:=oT Ov (v,b)
Rf:=eb l a5
Rg:=(aFR).zip row
ol a:=aCJ _ (yC a)
Rh:=.lead row m
op a:=(a).seq a5
bJ a b c d:=by rintro M a⟨⟨b,rfl⟩,c,d⟩
Ri:=a5z r t
pf a:=v [] a .nil
Rj:=x (bkD _ _)
Rk:=fun j b8=>?_
dy a b c:=B a (dJ ⟨b,c⟩)
iX a b:=by {rintro M L⟨_,a,_⟩;exact b}
Yt:=bkE j b=ai
alf:=k b a=ai
sh a:=fun _ _ _ _ s e0=>a
Rm:=d_ D.h wW
dL a b c:=.Call (j0 a i) b [] c
i0 a b:=eV (bp a) (bp b) z
Rn:=be j J
v2 a:=cz (bkF++au) a
oq a:=by rw[bF rfl U a]
Ro:=ey (eA=g) aFE
Rp:=ch aJ (Wb Wc aJ)
alg:=(lx t n q)
i1 a b:=E c1 a (Q b c1)
bt b c d e:=K b c d (cc e) ?_
kc a c:=ac c0 b (g9 hc a) c
Rq:=g7 D.h D.w
id a b:=a=z.y/\z.x<b
Rr:=Co tf pb D i e
Rt:=Co Oy Ee D i e
Yu:=KT H F O
Ru:=dd Ou (IJ+1)
Yv:=[c5,h',ij,ih,jx,kB]
ie a b:=fv (ju cM w) A a b E s
ig d e:=by rw[y x W d gG e]
pg a:=(by simp at a;omega)
a6S:={nx:=fun _ L=>IP,rt:=Q}
lN a c:=aEn (T:="StopIteration") (b:=ab) a bkG c
Rv:=f8 [e] [(ai,tx)]
ph a:=fun i h st b U=>a
ih b c:=by rw[ak e q b];exact v a e c
v3 a:=["width","height","points",a,"marks"]
ep a c d:=vh b N n f a c d
Rw:=vr w h b2 X G
or a:=G0 u CR A a k o N
os c:=sV aP a b c
pi a:=aQC Y nd W a
alh:=Dq r i l
ii a b:=aqL (i:=a) bkH rfl (a6g rfl) b
ot a:=aN7 rfl a6h (dY a)
Rx:=.set a7 e1 t
ou a:=q_ a TI (.ref c2) (.ref N)
ij a b:=Uy par B a b w
bv a b c d:=by have a:E j b c:=fun j b8=>d
ali:=di 0 (yI r (bp t) iZ)
alj:=a+c+x+z
l0 a b:=by rw[ak a (d b bI cS b1)]
ov a:=aFu bJ dJ L J a g ls
ow b:=by cases x;exact v [] b (fun a m=>cy m jI)
Ry:=by rw[co l b p]
Yw:=by rw[bkJ,bkI];kernel_rfl
i2 a b:=bj a (j (i+1)) b (fun x L y=>?_)
pk a:=∃g0 L,aFQ/\a
CE a:=(a).foldl (aE0 r v) []
kd a b:=by simp only[MO,ia]at E;rw[a];exact bt b
Rz:=tg (mK (bi p.x r.w&&bi p.y r.h)) ic dd
pl a:=fun a7 a8 a4 n1 b4=>a
RA:=by rw[al J R g ls]
alk:=∀vs H Q E,aFM->iO=kx
il a b:=h au s M H a b hw
a6T:=#[eZ lo,mE hi,.int 1 v]
ax a b c d e:=by obtain⟨a,e7,f5,rfl,b,c,d⟩:=id e
RC:=bkK XG A env a6Q
Yx:=by rcases O y k h with⟨rfl,rfl⟩|⟨_,h⟩
RD:=tg (r0 aJ) kA bX
alm:=LV F k b v
pm a:=by rintro i M L hi⟨_,a,_⟩
aFW:=hi au s M H _ I h
bx a b c d:=gd (aq2 yt yt (gi a) b (gi c)) d
Yy:=d0 au s M H _ I h
a6U:=d0 au a4 M a8 _ r d2
RE:=ase _ _ _ _ q
CG a:=∀(l:Addr)(b:Gla.Bytes)(p:Nat),a
aln:=fun b o e n U S=>?_
dB a b c:=kc bkL awM a6 ay rfl (uY a (uY b (uY c Sd)))
sk a:=F1 (aYt (K:=K) (w:=w) rfl rfl rfl) bI bkM aSY (dY a)
dC a d f:=∀(J:Addr)(R:GM.bT)(g ls:Addr),e [xf] ni a d f
RF:=by rw[jc,bu,fi,bu,fi,bu,fi,bu,fi,bD XN]
dE a c d:=by rintro i a c L h4 N d s⟨b,rfl,U⟩b6 d1
Yz:=by cases z
kk a b:=by obtain⟨g,a⟩:=b
i3 a b:=by obtain⟨a,h⟩:=b
dN a b c:=by obtain⟨a,b⟩:=lE c
i4 a b:=by exact⟨a,b⟩
dO a b c:=by obtain⟨B,a,b⟩:=c
eq a b c:=by obtain⟨a,d0,b⟩:=c
YA:=by split at h'
YB:=by rename_i c3
YC:=.ref b2
YD:=.ref xa
YE:=e8.1.2
YF:=Mm "list"
po a:=by refine aBh c2 a
YG:=.int d
pp a:=a<=1048575
YI:=.inl e
YJ:=by delta ind
alo:=.tup d7
YK:=.own a
i5 a b:=by rcases a with e|b
kl a b:=by obtain⟨a,d2,_⟩:=b
pq a:=tC (.int a)
YL:=.bl ab
pr a:=by simp only[a]at this
pt a:=cg (dl a)
sl a:=agZ (t':=aht) a
pu a:=by rw[<-a]at e
i6 a b:=by simp only[a,b,mJ]
i7 a b:=(eJ a).filterMap b
i8 a b:=show a by exact b
YM:=by simp only[bkN]
alp:=bH r.A
alq:=bH r.B
px a:=oZ (x a)
YN:=iU (HU k)
py a:=(a).toList
sn a:=bO (i:=i) a
v4 a:=(a).length_le
YO:=aC3 R.d
i9 a b:=eX (ac [a] b)
p0 a:=(aV (TF a rfl)).c
dP a b c:=by generalize a[i]=b at c
p1 a:=Cj (ld a)
km a b:=axT a (fun o d0=>b)
YQ:=a6i l.2
YR:=a6i l.1
YS:=aFl row
YT:=(lE e).2
jk a b:=x (ap9 a b fw)
YU:=VU r=ab
p2 a:=a0G K a=ab
p3 a:=a2Z a ab=ab
p4 a:=by cases x;exact a
YV:=(cP).1
p5 a:=(x a a0).1
YW:=(we e).1
p6 a:=pa r a=ae
YX:=t (a5 x)
alr:=be (L b)
YY:=be (H a)
YZ:=fun e=>?_
v5 a:=bh (Xb cnt a)
Y0:=(r.w+1)
v6 a:=(gE (a<1000))
so a:=by delta a;simp[*]
b0 a b c d:=by delta a;rw[b,c,d]
p7 a:=by rw[cz,a];rfl
Y1:=eo Nat
dQ a b c:=by have a:b<c:=by simp_all
bL a b c d:=by have a:b<=c:=by exact d
bN a b c d:=by have a:b=c:=by rw[d];rfl
dR a b c:=by have a:b=c:=by subst_vars;rfl
sp a:=fun b u e=>a
Y2:=Q ab s
Y3:=b∉ex
Y4:=x (mw (mw zX))
p8 a:=fun y b7=>a
als:=td lJ jt
alu:=Pt×Nat
alv:=x (aMl b1)
Y5:=eb (mJ n)
sq a:=fun y a8=>a
Y6:=bh (IA 0 bkO)
Y7:=aC C []
bO b c d e:=m b _ _ (v c d e)
Y8:=fv (Wp i w)
p9 a:=(ax a4 a)
qq a:=(aa a,[0])
Y9:=ga r.h
alw:=Gm r z iZ
a6V:=x≠"__name__"
Y_:=Ad*z.x
Za:=by split<;>simp
qr a:=FY (oz (.int a))
Zb:=Nt r v
qs a:=num (qT r) a 4
Zc:=A l a
ai a b c d e:=rX (dZ a b c) (c7 d e) Bt
Zd:=by rw[e]at d3
qt a:=by rw[a,ahR]at k
qu a:=∀(l:ba),a
qw a:=fun b u q=>a
qx a:=k8 (jA a)
Ze:=f_ pos []
Zf:=a6a k p
aFX:=x<(zZ).cnt
aFY:=i∈cM (Xn k)
Zg:=jC 2 64 ff
sr a:=fun z c9=>a
Zh:=yv K C
alx:=sd z_ h
Zi:=ta J d
Zj:=fun t h7=>?_
Zk:=d8++[b8]
Zl:=lN i++[b8]
Zm:=jn (vC Oy)
Zn:=jn (vC (tf))
Zo:=.ins dm W (qD R B X c7)
Zp:=by rw[is O b1]
Zq:=by rw[is vs b1]
Zr:=by have E:=eB
qz b:=upd d4 a b
bT a b c d:=by obtain⟨a,b⟩:∃c:Int,d:=ei
aly:=qL j i
Zs:=DQ 0 c
alz:=t (jn OI)
Zu:=by (intros;simp_all)
qC a:=E v (v<R.n) a
bU a b c d:=iI ["drawing",a,b,c] d
Zv:=PT X a g
Zw:=by rw[oR OA]
Zx:=j b u (ev (Hd b)) (ev (gQ b))
Zy:=RI K C m
Zz:=c3 _ _ q
ZA:=by exact MK x
aFZ:=agV a7 cE
ZC:=(cA gg).row
ZD:=a6j BP a
alA:=2*dP+1
qD a:=(eG).below a=ab
qG a:=J (oK U) a
ZE:=fW K H p O
ZF:=bj e d3
ZG:=by rw[b1 p.1 k]
ZH:=lJ (Dk aJ) i
alB:=vu H l Y (d7 a5)
alC:=zi (sU+1) mI akS
alD:=⟨q,e0⟩
qH a:=by obtain⟨r1,r2⟩:=a
ZI:=by have h:=DW h
ZJ:=f∈gE
ZK:=h e a0
alE:=aDb i H
ZL:=Ww x T
ZM:=a2 (jm cP)
ZN:=cO x y
ZO:=lU++[u]
ZP:=ad dx (.own k)
qI a:=fun M H R=>d6 M H a
ZQ:=b7 l.1 l.2
r a b c d e f:=by rw[M a b c (by rw[b2 d e];cases f)]
aj a b c d e:=by rw[ca (ai a b (bX c d e))]
dT a b c:=mw K dJ a b c XO
qK a:=fun m M L=>a
ZR:=eT _ ?_
qM a:=by rw[cr d3 a 0]
a6W:=ch (l.2==e.2)
ZS:=by rw[bl hu m (bkP S)]
alF:=hm (tp H) bK
bV a b c d:=aJ a b c (mM (av (z.2 _ _ d)))
jl a c:=bD a (fun v a4 e0=>b x a8 r r1 d2 e0 c)
ZT:=ef->bZ af
ak a b c d e:=by have a:ap b c d:=by rw[cz,wB e];rfl
v7 a:=(Hk (·.push a))
ZU:=aD4 cM w K
qP a:=by have⟨lk,e,d⟩:=a
qQ b:=fun a m O e=>b
ZV:=vY (VA t)
jm a b:=KW K x a st f b
qR a:=fun _ _ _ H _ I h=>a
alG:=[e7]++ws
dX a b c:=by cases a with|true=>{exact b}|false=>exact c
qW a:=vU (fH a c0)
ss b:=a.2.getD b ab
ZW:=.mark i m
qX c:=my (fw (my (h8 c)))
qY a:=v lk a d
aF0:=fun w hw=>?_
q0 a:=(Z a (i e) 0)
su a:=Bx O a=aa v
ZX:=by rw[b1 j i]
ZY:=by rw[tJ];cases z
ZZ:=by rw[ec (axb q)]
Z1:=U b7 X hb
Z2:=zq Y t ej
kn a b:=by cases a with|error e=>{rfl}|ok b=>rfl
jo a b:=de a Ac (.ok b)
Z3:=BO a5 B par Z
Z4:=Itc lo c n
Z5:=so H b8 m
Z6:=cR->cR->XQ
sv a:=Ce K bP (oo a) Sg
Z7:=by have Z:lB pE "zip":=bm c9
q1 a:=ah5 a5 B par c a
Z8:=CE (Xf i)
l1 a b:=fun x G=>by rw[bJ (HI G)];refine Lb Z a b ?_;simp_all
Z9:=PK->jK
Z_:=Aj+cZ 12 4
aaa:=((OJ).st aJ)
v8 a:=by rcases a with k|k
alH:=a0X CB mg
aab:=by intro e a0
q3 a:=.Subscript o i a
aac:=Itt K a
aad:=yv X.K C
alI:=oO _ _
aae:=min a b
aaf:=min (aP a) (aP b)
aag:=h6 b U
jp a b:=by simp only[bH,c_,a]at b
alJ:=by apply bkQ aQ
q4 a:=(Nu bkR).lb a
aah:=Dz l.1 l.2
dY a b c:=aPX xr a b c rfl
d3 a b c:=aNM a (aNL b c a6k)
aai:=UK x I
alK:=Xq D eL
aaj:=aZi dw dw
aak:=bkS B u
aal:=a5N r B
alL:=aZU b p
alM:=a5P b p
q5 a:=wj p q a=ab
aam:=aO TE TE
aan:=f++[cnt]
aao:=M c i
aF6:=fe "dict" (.dict #[])
er a b c:=dE ((ayZ a).go (cO b)) c
q6 a:=by show eQ a _=_
aap:=m_+1+fh
alN:=dO (a7 awU aw)
alO:=bk B (x<n)
aaq:=dn p.1 p.2
aar:=bV (0::gF 1 ff)
aas:=fr (.tup (bkT kV))
aat:=c5 d j
q7 a:=by rw[bF h2 e2 a]
alP:=ia (2<=t (ig i))
aau:=by injection h with a3 a9
a6X:=(ab,a0z q3 l3)
alQ:=CP bx bx hi
v9 a:=fq a (e.2=dk b)
q8 a:=by rw[bZ _ a rfl]
alR:=Xm r (bp t) akM
sw a:=dX (by rw[cz,cz,wB a];rfl)
wa a:=mT aC9 aC8 a=ai
jq a b:=by rw[aW l a5 a b]
aav:=a6d K fd c5 []
aF7:=mK (bi p.x D.w&&bi p.y D.h)
aaw:=.ins dm W (qD R b3 X c7)
aax:=hn Hg wi
aay:=a6l c5 h' m
aaz:=pa r x=aa T
d4 a b c:=by rw[e a L d6 b d6 c]
aaA:=lK "range" a6T
wb a:=fun g h=>b3 g a
aF8:=(yK _ _)
aaB:=iE r.N ec lT
aaC:=le e.1++[e.2]
q9 a:=aJ (by rw[it j (M8 S)];exact a)
aaD:=tg (Ws r) mS dQ
alS:=.Compare a [j] [b] pos
ev b c d:=a b c a _ dx _ _ rfl d
wc a:=fun e a0 lt=>a
aaE:=[x,X,c7]
aaF:=mn R e f
aaG:=d_ (cd t) y
CH d:=by rw[bn a Oz (u rfl (dp b4) a _ d)]
sz a:=fun x y H Q=>a
aaH:=oL (bi i j)
aaI:=fun v a8 a4 d5=>k v a8 a4 d5
alT:=aiT P h vs c7
sA d:=by rw[ai b c dg (bh rfl b c d)]
aaJ:=fun h' f7=>bd (vR (jx (f7 b o U e)))
aaK:=a5j z TI TO c2 N a7 d5
aaL:=bkU K=aMZ
aaM:=[a,b,c]
al a b c d e:=by refine aup F.w F.h a b c d e
bW b c d e:=cg (a _ rfl b _ c d e)
CK b:=bkV (.builtin "type.__call__" ⟨b,a⟩)
aaN:=jl O lo hi
alU:=nx k%aEf
d5 a b c:=aUt (aV (TF a rfl)) (zzJ b rfl) (i8 c)
alV:=neK (K:=K) rfl wc
e4 a b c:=aQb rfl a6h (yR a b c)
aF9:=lV/\jQ/\IT
sB a:=bN a (ay:_<=5)
nF a b:=by rw[bE q p h];exact v vs a b
wd a:=N a aFI (b1 jx) (b1 kB)
aaO:=fun g0 j1 z=>z
ew a b c:=V e a (z j b (e.2= .ref c))
aaP:=(tl cA i f).1
wf a:=[a,.ref d8,.ref j,pD]
aaQ:=[x,X,c7,I]
aaR:=aC dm (aK "passed" b2 [])
wg c:=fun b o a f e=>c
aaS:=by rw[dd ls f6 h.l]
jt a b:=Un G ex H a h b
aF_:=fun _ _ _ a b=>vd a b
q_ a:=by obtain⟨b1,b4,b9,e7⟩:=a
aaT:=by rw[aFT];exact cy ay b2
ra a:=cf 71 76 65 a
jw a b:=(a==b&&a1z== .function&&vL n==aa .cell)
aaU:=by rw[bn a b3 ⟨(bB),fun d nd=>?_⟩]
jx a b:=∀{Z:Row}{g:Nat},a->b
jy a b:=ahv P w K c7 a [it] it (fun i h=>b)
ex a b c:=atv (r:=r) (Lh Z) hi c0 ne (P:=a) b c
bX a b c d:=by refine aVL (i:=a) (lo:=b) (hi:=c) (n:=d) rfl akN akN
rb a:=by rcases a with c9|⟨d,fl,c9⟩
aF':=Y b o a e
a6Y:=∀x,bkW Hg cE x=eU x
a6Z:=hi au a4 M a8 _ r d2
l2 d e:=by rw[c J dx hd tO J d e]
rc a:=fun au s M H Q I h=>a
alW:=a 0 0 [] [] []
rd a:=by rw[e3 q (ay) (fin 2 a H eg k)]
jz a b:=bkX (FU I d8 c4 a (nE akR b))
re c:=by rintro a b⟨b3,U,ne⟩c
e7 a b c:=hW k (ag5 a)->aFM->z t (qs b c t) (t a6S (MM N vs) H)
am a b c d e:=uZ P w K mg aj sf a b c d e
rs a:={mask:=a,place:= #[],dummies:= #[],finger:=0,led:=ab,moves:=0,plain:=ab}
e8 c d e:=by rw[g a D b2 c G i (gd d) e]
aaV:=by obtain⟨z,ar,n,J,a5,e⟩:=a6m a
d7 a c d:=CD (V (W i m H) ((a).stop i H) (k H) ((c).go i H) (∃w:jb,(a6R)/\j x L (rZ d) (ga tw a6P)))
aaW:=@aE6 _ _ _ _ _ _ _ _ ?_
sC a:=⟨dx,a⟩
alX:=aa .bC
sD a:=a= .function
sE a:=by rw[ll a]
kq a b:=by obtain⟨W,a⟩:=b
kr a b:=by obtain⟨a,b⟩:=e0
alY:=["calls"]
alZ:=by {contradiction}
al0:=.ref sl
al1:=.ref T
aGa:=Mm "tuple"
al2:=.int (lo+cd i*c)
al3:=.inl (sg _ _)
al4:=.lst []
al5:=by rw[<-this]
al6:=Sem cb
sF a:=aOh (iL q a)
al7:=by simp only at h
al8:=by simp only at k
ks a b:=by simp only[a,b]at e
kt a b:=by simp only[c_,a,b]
ku a b:=(a).filterMap b
sG a:=cQ (BG h) a
al9:=r.aQp I
al_:=r.aQq I
al':=(cA aJ).cnt
ama:=(mY D t).row
amb:=bp f.1
amc:=bp f.2
sJ a:=SO (r:=r) a
amd:=aRA (SO _)
ame:=.refl _
amf:=Wn (bo tN)
amg:=gi T.avu
b2 a b d e:=axf (lo:=a) (n:=b) (c:=d) e bM
kv a b:=a5y (b_ (o:=a) b)
b3 a b c d:=aj3 (b_ (o:=bV a b c) d)
amh:=aqv ?_
ami:=XC (akA a3)
sK a:=by rw[cG];exact a
aGb:=(aD2 j).2
amj:=(we e).2
b4 a b c d:=by have a:b:=by simpa[c]using d
kw a b:=x (FN (mh a) (Ko b))
amk:=x (HA bG)
aml:=x (VO bG)
sL a:=a0F K C a=ab
amm:=a0D K C=ab
amn:=bkY b=ab
amo:=bkZ bk0=ab
ey a b c:=by have:a:=b;exact c
amq:=v (aP a)
amr:=v (aP b)
sM a:=(VF Y a).1
b7 a b c d:=by have a:b=c:=by simpa using d
kx a b:=by rw[l (FN (mh a) (Ko b))]
ams:=vG b=ae
amt:=Hd d=ae
kz a b:=by {rw[<-a];exact b}
sN a:=by {rw[bY];exact a}
sO a:=J (gv z a)
kB a b:=by rw[C (ajE a rfl b)]
amu:=a5L aiq=ai
sP a:=fun _ z=>a
amv:=cf (bp g_)
l3 a b:=fe a (.fields b)
sR a:=fun _ _ e=>a
amw:=e∈tK
sT a:=fun t h7=>a
ez a b c:=by have a:b<c:=by grind-abstractProof
amx:=Ln->fz
amy:=b∈ig a
amz:=Str->bZ aBP
kC a b:=an a "data" b
wj a:=ce (a=eU ai)
amA:=by rw[a6 this]
aGc:=bt (Dm _ _)
kV a b:=by have e:a=b:=by grind
amB:=b∉vM
amC:=aP t ?_
amD:=cw (aC C G)
amE:=dI t IZ p
sU a:=h4 (gz not a)
amF:=M o d6
amG:=Gl X "list"
sV a:=by rw[kD (mO 0 a)]
sX a:=by rw[kD (mO a 0)]
l4 a b:=by have:=a;rw[hA rv];exact b
sY a:=fun b o b0 e=>a
amH:=(ed).x
amI:=(eE).x
amJ:=(eF).x
wk a:=bD a (fun u a4 P=>?_)
amK:=dy (bp g_)
amL:=ls++[e]
amM:=d_ 0 (vn C)
amN:=ad p o
amO:=j 0 M H
amP:=f9 "list"
amQ:=bs aq bb
sZ a:=cc z_ w IS a
amR:=[e,it]
amS:=gb r.w
amT:=l∈Aq
s0 a:=ce de (e1 (cM a))
amU:=U3 y=aa c
amV:=by split<;>lia-abstractProof
amW:=aO Key cR
amX:=by rw[jw (VE e)]
amY:=by rw[jw (VD e)]
amZ:={T with marks:=d8}
am0:=gZ (gr h)
b8 a b c d:=X a b ["cartoon",c,d]
am1:=dI Nat I
am2:=M o C
am3:=x<(cA t).cnt
am4:=hC (bp g_)
am5:=ij T.aU3
am6:=dN H j
s1 a:=by rw[is (ap d (mD a))]
s2 a:=(a).more<=9
am7:=a7 Ub kH
s3 a:=bT (t a) 2
am8:=zl+1<gD
an a b c d e:=by rw[M a b c (by rw[ci d,fp e q,kG])]
s4 a:=fun d nd=>a
s5 a:=z m (m<n) a
am9:=jy+8*i
k1 a b:=∀{l:ba},a->b
k2 a b:=∀{l:cH},a->b
am_:=[cp 0]
s6 a:=qL (a-1) i
am':=zo O k
ana:=by simp;lia
aGd:=t (jn a6W)
anb:=it F d g
s7 a:=hq (a01 b) a
CL b:=PT X a (k8 (fun x L=>b))
ane:=by rw[r3 (.bool ai)]
anf:=j b u (ev (zb b)) (ev (gQ b))
ang:=c1 _ _ v
aGe:=r4 (j (i+1))
s8 a:=by have:x≠t:=ai a
anh:=jn f n
ani:=DS B e
anj:=tL++[x]
ank:=aa O v
anl:=aC bJ []
eA a b c:=by have a:b:=by simp at c;omega
anm:=an (DM 1) i
s9 b:=by rw[aW d b ?_]
ta a:=by rw[oU (a>>=_)]
ano:=f9 y e0
anp:=f9 y g0
anq:=f9 e0 d0
anr:=f9 g0 d0
tc a:=by rw[aj a4 (ap d (mD a)) xn]
aGf:=A (Eo) e
ans:=df+1=2^k
ant:=cA+1=2^k
wl a:=by rw[X hd O d j a]
wm a:=by rw[X hd vs d j a]
aGg:=fun c o b0 e=>?_
aGh:=fun c o b0 q=>?_
anu:=cH->Int
anv:=by refine qF (fun f6=>?_)
anw:=ey a6Y agT
anx:=HK a bX
anz:=A M pB
l5 a b:=by have:=a;rw[am b];exact this
k3 a b:=ef a b "before"
anA:=b8 C f
anB:=fq gE (e.1=0)
anC:=qz Z t wo
anD:=d1 (ar d3) _ eg
td a:=fun b U o e=>a
anE:=iJ H s
te a:=ad L bQ (Q (.bl a) L)
anF:=GH K h A b
tf a:=by refine cn a ?_
anG:=acY h H
anH:=aBS XZ mI
anI:=cY a8 H
k4 a b:=aeb Z (a6 a b)
aGi:=sA aq aw
anJ:=Cp D B
anK:=aj7 r t
anL:=A dQ m
b9 a b c d:=by have a:b=c:=by rw[ik d,gf]
anM:=aj c0 Em
anN:=aJ (h x ro)
wn a:=bD a (fun c c8 P=>?_)
tg a:=am XY a jO
anO:=2*oX o
anP:=v o d0 b0
anQ:=v q.y-p.y
th a:=¬(a:Str)=f
k5 a b:=bm q.y p.y*bm a b
eB b c d:=by rw[cp b (jM c ⟨tE,d⟩)]
anR:=.ins bJ W []
ti a:=by rw[gU (j2 a c6)]
anS:=ew aOk bS
k6 a b:=ca (ii a) 2 b
anT:=fs bh b
anU:=sZ a l b
tj d:=by rw[r l pC a5 dg d]
fa d e f:=by rw[c a D b2 X G (gd d) e f]
l6 a b:=v1 (.builtin a b)
k7 a c:=(f b o (b∉a) (b≠r) gY c)
wo a:=Cb a K a8 l Y
tl c:=∀{l:cH}{a b:Nat},c
anV:=a _ _ _ _ rfl
anW:=v3 "lines"
wp a:=fun b u q _ _ _=>a
anY:=by rw[hB]at a5
anZ:=(ed,ri)
an0:=fL<=akT
aGj:=aDm<=1048576
an1:=by by_cases b0:x<ec
an2:=by simp only[di]at a5⊢
an3:=cr c a
aGk:=aeP rfl rfl
an4:=aEj a _
to a:=lM (cO a) c4
an5:=fun i hi=>?_
an6:=fun v d3=>?_
an7:=fun m c4=>?_
an8:=fun z c9=>?_
an9:=A m b
an_:=M B L
fb a b c:=dk (aER (ac3 a (aqI b))) c
an':=ap b2 []
aoa:=by rw[jA h rfl]
tr a:=by rw[cE hu a9 a]
wr a:=fun c o e=>a
ts a:=be St Hp (a)
k9 a b:=Ce K bS (oo a) (oo b)
aob:=kA a b=ab
tt a:=q_ a TO x y
aoc:=by rw[bW d1 a5 vN]
aGl:=CD x c e
CN a:=l M a8 (fun x b7=>a)
ws c:=fun{a b}h e=>c
lb a b:=by have hi:i<a:=bx b
aod:=eR H v l
ca a b c d:=by cases q:H a with|none=>{rfl}|some o=>have:=b;rw[oS c];cases d
lc a b:=GV a it r jt i b e1
tu a:=j M H (j a M H) OD
fc a c d:=lN (v h a P) (cg (g c d))
aoe:=ad9 _ _ a_
ty a:=Well P h v a
tz a:=by rw[ad h' a T h]
t0 a:=fun h' p=>g h' dE a
aof:=CK (wX::b1)
ap a b c d e:=axd (n:=a) b (dJ c) d (f7 e) ?_ ?_
aGm:=aAh c p ns d
ld a b:=nF a (dE (NN b) p)
a60:=aa (di 0 (hw row))
wv a:=by obtain⟨i,hi⟩:=a
lf a b:=by obtain⟨x,S,a⟩:=b
t1 a:=by show(fun h5=>_) a
aog:=(l.2,l.1)
li a b:=mtF K (dn p.1) a b
aoh:=a.1::Ek
aoi:=.int (lo+i)
aoj:=xE2 o p
aok:=bk1 x t
eC a b d:=by obtain⟨c,b0,a,b⟩:=d
aol:=Vis ahi x
aom:=h3 b U
ll a b:=rI a (oz (.int b))
aon:=by simp only[iE,di]
aoo:=zj ns d8
aop:=CS a7 O
aoq:=CS d5 d7
aor:=bk2 i ai
aos:=arX eo f7
aot:=dX (afr b0)
aou:=iD (a,v) (b,v)
aov:=bH (cA t).row
aow:=wm _ _
aox:=cr (d0 a) (d0 b)
aoy:=all 1 a3
aoz:=le w n
aoA:=aiy (Lo row)
aoB:=bk3 r i
aoC:=.move k p
aoD:=aUB j q
t2 a:=zzT a rfl ay
ww a:=Ue (ns:=[_,_]) a
aoE:=zH ns d8
aoF:=vt ns d8
aoG:=lt5 G ay
t3 a:=bk4 (bn (jC a p))
aoH:=ayz D B
aoI:=aj' r eL
aGn:=bk5 num XS
aoJ:=bk6 i b8
lm b c:=by rw[l (aP b (jM c (dx tE)))]
aoK:=cO d f
a61:=cO (nv lR) (nv (aa M))
aGo:=fun _ q=>q
aoL:=fun _ _ _ _ _ h=>h
ln a b:=aP a (j _ _ b)
a62:=(r9 b)/\v2 (p.1≠b)
a63:=bl (a4t 8 cV)
eI a b c:=∃C,a=num (b++C) q c
aoM:=bj h i
aGp:=bj ak ajr
wx a:=bj (bW a) ak
aoN:=cO (vn c) wW
a64:=[(ht 0,.bC)]
aoO:=by refine fF (fun e=>?_) (fun e=>?_)
aoP:=by refine fF (fun g=>?_) (fun g=>?_)
t5 a:=bv a (fH this tv)
wy a:=hi (A M H a)
aGq:=bx ih ij
t6 a:=f5 (Ui L v a)
aoQ:=by rw[b2 (fZ e m.1)]
aoR:=by rw[b2 (dE (bk7 (cO c1)) l)]
a65:=dd (bk8 e.2) gg
lo a b:=aj gM (dh aq) a (Z b bS (dh aq) (dh aq))
t7 a:=fun j O h=>a
t a b c d e f:=mz (ln a) (V b c d e) (fE f)
eJ a c d:=by have:=atV b a c;rw[oT d]
t8 a:=by rw[bE c0 c2 a]
wC a:=by rw[a]at m;cases m
t9 a:=an ["data"] "data" a
aoS:=f9 W d8
aoT:=by rw[cE lt aQ]
lp a b:=dO a (4+(4+b))
l7 a b:=vX a b (fun _ _ e=>e)
lq a b:=vX a b (fun _ _ x=>x)
aoU:=bV (zT++ak2++NU tj)
ul a:=by rw[ck t (du (jE a) J),dS];rfl
un a:=by rw[dQ (g3 ai a) Hm]
aoV:=g7 6 (v cw)
aoW:=by {have z:=azQ ay e;rw[rq];rfl}
wE b:=by induction b with|nil=>{rw[kL]}|cons a J d6=>rw[cA rfl d6]
aGr:=nA h4 (N d4)
aGs:=by intro i g7 g8
up a:=go a (gT (par c==xl))
aoX:=b7 X.1 X.2
ch a b c d:=Y ["self",a,b] ["self",c] d
wF a:=fun j e b8 a0=>a
aoY:=by rw[iH j b8]
aoZ:=by rw[ho m c4]
ao0:=a6l w h m
ao1:=U a8 B hb
us b:=oP (a1 (cx b0) b rfl)
a66:=[jF "enumerate" [e]]
a67:=[jF "zip" XH]
nH a b:=(Iy D a,b,⟨D.w,D.h⟩)
ao2:=cr x J*cR w
lr a b:=E o (kC a) (be (gQ b))
ao3:=bi (v fL) (ae akT)
ls a b:=by rw[ab f5 ([cp a]++bV (gF 2 i)) b]
ut a:=by conv=>rhs;rw[<-bk9 a]
wG d:=by rw[bn a d0 (bh rfl a (cx d0) d)]
CO d:=by rw[bn a (dm b3) (bh rfl a XU d)]
aGt:=.ins lF dy []
ao4:=j3 0 lo
ao5:=hf (hv (N8 dk)) c
ao6:=eb IW kM x
ao7:=jy+8*aJ+4*i
l8 a b:=by rw[j4 10 (CJ (j1 a b))]
ao8:=by obtain⟨g4,h3⟩:=f
ao9:=(kI,dk xa)
ao_:=.bare w h m
aGu:=mV i a b3
ao':=a6n "list" bk_ 0
uP a:=J ((a).2.1 rfl)
lu a b:=bD a (fun v a4⟨x,a8,r,r1,d2⟩=>b)
apa:=vX (hX l.1 l.2)
uS a:=bZ dm D t a
apb:=by rw[db (pj (i+1)) (pj i++[e]) a0]
uU a:=Sf (aSL (K:=K) rfl) bI ajV auS (dY a)
nI b c:=bl a b a (p j c a/\aj<=a)
apc:=dv x<k
eK a b c:=∀e,e∈a↔b/\c=v
apd:=(hi-lo).toNat
ape:=it j a b3
eL a b c:=d9 aZD (vq bS a b c)
aGv:=⟨es,fun t c6=>?_⟩
lv a c:=l b u a (ev c) (ev (gQ b))
apf:=dB R H a O
apg:=eR OB (a∈a5 b)
aph:=∃j:Nat,aa Y b
aGw:=by cases(a0 u (dk b) Z)
aGx:=afF t (13+n) p OF
aGy:=by rw[aW t (cx Z) gJ]
lw a b:=∀i M H,a->akP->b
lx b c:=by rw[ar b4 H (mD b) (mD c)]
api:=arK X.N ahi d own
uV a:=as9 Y nd sub (fun h c7=>Gf a c7)
apj:=J.1*d.2-J.2*d.1
uW a:=ah6 x S j z a c9
apk:=adR iq v s E N
apl:=∀c,agS a cE c=(do{let v<-c;standAt a.pos;holding [v] (truthy v)})
apm:=(aC7 b p)
uY a:=(ea (pj (i+1)) (vC a))
aGz:=by rcases e0 with e0|e0
uZ a:=by rcases aFo a with l|l
apn:=bk' b o e
apo:=hd M H p
a68:=.Attribute e f pos
u0 a:=by generalize(RQ _ _)=a
u1 a:=bF (m:=bla _) (MX a d)
eM b c d:=I.aPo (its':=b) a e c d ?_
ly a b:=F.F7 _ _ a b h
aGA:=Nn y k h
l9 a b:=head _ _ a ?_ b
apq:=ajD N d5 f7
apr:=ajD c2 a7 c0
eQ a b c:=aNO (i:=a) b rfl (a6g rfl) c aqN
aps:=a5R (v b1 v l)
aGB:=blb r (bp t) akM
lA a b:=q2 _ _ a (ax b)
ar a b c d e:=q5 a (b).1 (c).2.1 (aS d) e
u2 a:=blc (bld aiL a cs)
as a b c d e:=by rw[l (k v a b (aZE (blf c) d rfl a9 e))]
u3 a:=by rw[lp a,XX,tH]
apt:=I×d0×K
apu:=A×B×C
apv:=E×F×G
aGC:=E d4 (cY L d4) (N d4)
apw:=Y N c5 st
apx:=X x st c5
eS a b c:=aP a ((dL (b_ b) c) _ _ ak)
wH a:=by have e6:a:=by simp at e5⊢;omega
lC d e:=by rw[y k u d DU e]
apy:=by intro au s M H x vs v b1 Q I R rv h
u4 a:=E h' a (Q ae tD)
apz:=by rw[fh (c=dk b) Z]
eT a d e:=b x cB (vs=a) (am l O) d e
wK a:=by {refine fP;rw[XT];rintro⟨_,s,_⟩;exact a}
CP a:=by {refine Al;rw[co i M L];rintro hi⟨_,s,_⟩;exact a}
a69:=an (a57 gg) (e.2-(e.1+1))
apA:=by rw[dc c9 (.ref TI) (bF (gc f ?_))]
aGD:=by rw[cM q p a5]
u5 a:=both a os=aa (a6X,a0I)
mg d e:=by rw[r N (.ref m8) (av d) (dX t9) e]
apB:=dH blh aZQ blg
apC:=dH blj aZP bli
u6 a:=zA b N n f=a
u7 a:=by rw[aj c8 (U b7 d a) (gc eN)]
lD a b:=by rw[a4 a,eH,l b,l Hf]
apD:=a w h p l m
u8 a:=hi (((a):OG) e.2) e.1
lE a c:=CG (A [cB,jN] tF a c)
lF a b:=by obtain⟨e7,d,a,n1,n2⟩:=b
u_ a:=by obtain⟨a3,a9,e2,e5⟩:=a
apE:=by rcases m with rfl|rfl|rfl
apF:=J (ac lS O) (ac ak3 a)
aGE:=fun a b p q=>?_
apG:=(Z ai (! k9 (gO rk)) (k9 (gO rk)))
CQ a:=fun u d4=>KJ .tup Q [.int a,u] d4
f4 a c d:=B F d4 a _ (a5V b8) (aFr O) c d rfl XR
apH:=z vs tQ (bll tG a vs)
va e:=by rw[CH (s (cx Oz) dq i e (fun d5 b7 b5 n2 b9=>m d d5 IQ b9 (as ag)))]
apI:=["p","q","r","s"]
apJ:=r b o e S
aGF:=blm b o e S
aGG:=TP X au M Q
vc a:=by rintro e f⟨a0,W,a⟩
vd a:=by rcases a with h|h|h|h
mh a b:=dZ (leK (K:=K) rfl aiW) a b
ve a:=aEM par B (ab (aEN x 0)) z a
nM a c:=let⟨b,b4,b9⟩:=a;v b b4 c
apK:=I×d0×K×Z
apL:=A×B×C×D
apM:=E×F×G×H
apN:=by intro a8 d7 a4 b4 e9
a6_:=aV i3 n j4 cV
apO:=oC ak4 tr gS i m
fd a b c:=by have a:0<=b:=by rw[eL (aB_ 0 c),l (sY h h),l (aik h h)]
apP:=by obtain⟨o,d0,hex,hd⟩:=ajB
apQ:=ce Ak e0 g0 d0
apR:=ce (.ref n) h2 e2 i8
o c d f h i j k:=by rw[g cV c d rk _ _ f (a h i ⟨j1,k8⟩ (gS (d5 p j)) (as k))]
cb d e f g:=by {intro i L h4 N hi s b6 d;rw[im (c l b e ?_ f g)];simp[vn];simp+arith [*]}
apS:=by rw[cg i0 eM n bln]
vf a:=by rw[n a i t rfl x t rfl]
apT:=by rw[e1 Z a6o (qK a6o Z blp ?_ (blo _))]
eU a b c:=by rw[l0 (fun i m M H=>m=a-i/\b/\akP) c]
CR a:=a3Q ⟨v e a0 bB,fun j x b8 S=>a⟩
eW a b c:=by refine ai es (fm (c0 e t _ _ a b ak (blq (Gy c6) c)))
aGH:=[i,ij,ih,jx,kB]
apU:=[z,TI,TO,c2,N]
vh a:=by obtain⟨g7,g9,g8,e1,h⟩:=a
apV:=@aE1 _ _ _ ?_
a6':=a akW sO zd dE CC
apW:=by {rw[Eg,Eh];rw[vE h];rw[vE k];constructor}
eX a b c:=by {intro i a b L h4 l8 c s S b6 j2;exact bd (Ts (ab 0 rfl eg rfl))}
apX:=fun vs H Q E h=>?_
apY:=bD aFW (fun c a4⟨y,a8,r,Z,d2⟩=>bD a6U (fun u b5 P=>?_))
nN a b:=∀(s:Shared)(b1:aM),a->aBx s fd (d_ b1) b
vi a:=by rintro v m J c1⟨a6,rfl,a⟩
lG a b:=by {refine a;simp only[hC,oQ,Dh,aEa]at b0;exact b}
vj a:=fun A i s Q E st h=>a
vl a:=f L d7 OH (aj D d7) (dD (R L) d7 a) (k L)
lH d f:=∀(a:Addr)(D:Gla.Plan)(b2 X G:Addr)(b4:V)(B:Ei),e [bc,b4] Ab (Uk C H b4 B) d f
a b c d e g h i j k l m n:=by have b:GX c d e:=f g h (.ref i) (.ref j) ak (c1 _ _ k) l (aP m (co n ak))
nP b c:=d6 (fun v x z=>let⟨a,e,_⟩:=z;⟨a,e⟩) b (J c)
apZ:=by rintro i m M H⟨rfl,hi,p⟩
ap0:=fun w hw=>aPh R n J G w ah
vq a:=adj P w K mg aj a ez s H
ap1:=@aE3 _ _ _ _ _ ?_
vr a:=fun{i:Nat}(hi:i<aJ)=>a
eZ a b c:=cp (Bz rfl rb (om bb) (bk "number" 5 "point" 6) (bC (V 5 rb 6 rb)) (lk (dZ gM (dh eu) a)) (bC cI)) b c
ap2:=∀c o,j (c≠z) (c≠TO) (c≠c2) (c≠N) (gG c) (be (gQ c))
wL a:=(∀y e4 b,i (a=aa b) (cY L e4) (R e4 y b) (h4 y e4))
ap3:=by {rintro⟨r1,r2⟩c1⟨a6,rfl,_⟩;simp only at a6;subst a6;exact xq}
lI b c:=by obtain⟨m,a,d,b,d0,R,F,f,k⟩:=N.orb J c
vs a:=by obtain⟨F,a3,a9,e2,e5,z,hd,j⟩:=afY a d
vt c:=fun e0 e4 d9 y g5=>m d e0 (fG e7) g5 ⟨c,fun b f=>k b _ (dL Ed f) (eU Ed f) ?_⟩
mi a b:=by refine a6p _ (fun m J c1=>J.1=ae/\c1=s/\∀v∈m,a) _ ?_ ?_ _ _ (h6 b)
aGI:=by simp only[*]
aGJ:=by simp_all only
aGK:=by rw[OX]
aGL:=.list c7
aGM:=.list OQ
aGN:=cv (x<y)
aGO:=(OW).length
aGP:=.inl ?_
mj a b:=if 65536<=R.d then a else b
mk a b:=if a then b else 0
aGQ:=.tup (wJ vn)
aGR:=bW d.symm
aGS:=uQ (H x)
wO a:=by simp only[hZ]at a
wP a:=by simp only[hC]at a
ml a b:=cg ⟨a6c a _,b⟩
wS a:=aBr (hs (gC a))
aGT:=by simp only at j6
a7a:=akE "__len__"
aGU:=.tuple c7
wT a:=.error ⟨a,p⟩
w0 a:=r_ (p:=a) e
w1 a:=se (p:=a) e
aGV:=by unfold bump at b8
w2 a:=zx (p:=ala) (l:=a)
w3 a:=(An).dropWhile a
w4 a:=(a).length_eq
aGW:=begins c
w5 a:=jm.k (k:=hE y) a
aGX:=(alg).perturb
aGY:=(I6).place
ci a b c d:={j:=a,more:=b,i:=c,perturb:=d,dummy:=ae}
w6 a:=a4o (lL++[a])
aGZ:=a3.map vn
aG0:=J.seq a5
aG5:=e8.2.2.2
mm a b:=by have a:b:=by lia-abstractProof
aG6:=x (qH _ zX)
aG7:=x (gC bG)
w7 a:=x (aqb (mh a))
aG8:=a0E K C=ab
aG9:=O.all F2=ab
aC a b c d e:=by obtain⟨a,b,c⟩:=d;exact e
aG_:=(DH j d).1
w8 a:=t (iU (an a))
aG':=J (n ag)
w9 a:=by rw[C (a4K a ?_)]
aHa:=fun v=>?_
a7b:=au (aa (ae:ps))
aHb:=ab (mC XF)
aHc:=ab (p (f x))
aHd:=bh (m::row)
xa a:=g1 a (us5 (mr rfl))
aHe:=bo (Nv tc eL)
xd a:=by delta a;grind-abstractProof
aHf:=by rw[cG];rfl
mn a b:=show a=b by simp[*]
xe a:=fun b O e=>a
aHg:=I->bZ d
xs a:=by rw[a];trivial
mo a b:=by rw[a];simp[b]
aHh:=dI t (J+1) p
aHi:=p+Lu b p
aHj:=cj (qE k.1)
aHk:=Gl X "enumerate"
aHl:=Gl X "zip"
CS a:=fun(e:Nat×Nat)=>a
aHm:=Vg f=aa v
aHn:=par w=aa v
a7c:=db (by cases U)
xz a:=by have:=a;simp_all
aHo:=(mY r (t+1))
aHp:=ey a6V Ve
aHq:=fun e _=>?_
aHr:=f9 "enumerate"
aHs:=f9 "zip"
xL a:=(aj3 c1) _ _ a
x0 a:=(a5x k0) _ _ a
mp a b:=by have b9:a=b:=by grind
mq a b:=im a (lJ (Dk aJ) b)
aHt:=ce de (vw (pj i))
aHu:=cw<100000
x1 a:=fun b O q=>a
aHv:=qF (fun n=>?_)
aHw:=qF (fun f6=>?_)
fe a b c:=by have a:b=ae:=by simpa using c
aHx:=x<(cA aJ).cnt
x2 a:=Ce K a (oo bE) Sg
x3 a:=de (Ij a b1) IL
x4 a:=jD (fun vs a8=>a)
aHy:=dJ St Hp
aHz:=sh F g m
aHA:=by rw[it (a2S J)]
aHB:=au (dM) iL
aHC:=PA X a7 t
aHD:=PA X XH d6
x5 a:=j b o gY (iE a)
x6 a:=lm (ar a Hi)
x7 a:=lm (! ar a Hi)
aHE:=sd (cA aJ).side h
aHF:=blr c=aa x
a7d:=fun t m=>?_
x8 a:=lq (t<=nk->a)
aHG:=mM F k y
aHH:=GH K Dy A
aHI:=by rw[ea mm]at c4
aHJ:=dP<=8192
aHK:=dI Nat Nat
ff a b c:=by simp only[a]at E;rw[b];exact bt c
aHL:=aC hI (sI xf)
aHM:=RI K C "__init__"
aHN:=k b o (J (b0 (ar z))) e
x9 a:=Q fO (ap p a)
aHO:=(cA t').row
aHP:=a6j min a
aHQ:=x (j h) q
ym a:=by rw[aj a4 (ad d a) xn]
aHR:=vu H l Y g
aHS:=zi iu mI akS
a7e:=vR (jx (sd e))
aHT:=HK (Dq r) bX
yn a:=E t (t<=R.n) a
aHU:=J eN cm
aHV:=fun b u e=>?_
yo a:=fun b _ o e=>a
mr b c:=a J g ls dx rfl b c Y
aHW:=GW H b k
yp a:=ad L bQ (r8 a)
aHX:=fun v b7 b5 p=>?_
yr b:=iR (gM hd) b
aHY:=GH K Dy A b
aHZ:=(fin (d ?_))
aH0:=(cM (tb f))
ms a b:=by have B:=blu a (b_ (o:=hK) b)
ys a:=Q .bC (ap l a)
aH1:=by simp only[ia]at E
aH2:=a6q Im aEH
aH3:=a6q Ir aEH
aH4:=a6r Im ajL
aH5:=a6r Ir ajL
aH6:=UU K wX=ab
aH7:=UU K rx=ab
mt a b:=by {have:=a;have:=b;lia-abstractProof}
aH8:=fun y c e=>?_
yt a:=by have⟨dx,ex⟩:=a
aH9:=eQ (blv n) 0
aH_:=by rw[a9 B d5 OA]
aH':=by rw[a9 B d5 IV]
aJ a b c d f:=by have a:b=ae:=by cases q:c with|some e=>{rw[q]at d;cases f}|none=>rfl
fg a b c:=by have a:b=ae:=by cases q:c with|some e=>{rw[m2 q]}|none=>rfl
yu a:=fun b u O q=>a
mw a b:=PW X (iF .And a) b
my a b:=PW X (iF .Or a) b
aIa:=eV J s p
aIb:=eV J s q
aIc:=Int->Int->Int
aIe:=Int->Int->V
yv a:=sf ⟨blw,a⟩
aIf:=[71,76,65,49]
aIg:=[71,76,65,72]
aIh:=ea (fY (gv z E.l))
aIi:=cy rfl h
aIj:=hW (k+1) X.A
yx a:=by simp only[hZ,iS]at a
aIk:=v4 (blx _)
yy a:=LM (t bA (cn a0 a))
a7f:=fun i _=>n<=i
yz a:=an (ai2 16) a
yA a:=dO (b4 awV a)
aIl:=fun p _=>akI
yB a:=ds mI (y.2= .free->a)
aIm:=dP aq (as aq cu)
aIn:=zq Y R.n a_
aIo:=ve r ed oU
yE a:=(a).all (ch (bly l))
aIp:=Ii d h a7
aIq:=BR r z row
yG a:=Cn P w a d ls
yI a:=ac ou ou (.inr a)
aIr:=by exact mP (cU hi) (cU (qp Z))
aIs:=jm H a y o
yJ a:=by rw[cG,hM];exact aW a
mz a d:=c M H (fun b a8=>Z b a d)
aIt:=BC we E N
aIu:=fun v a8 a4 g4=>?_
fh a b c:=by have fin:a=ab->b:=fun U=>c
yK c:=∃a b:Int,∀x,c=a+b*x
aIv:=by obtain⟨o,e,c,d⟩:=id f
yQ a:=by with_unfolding_all exact a
aIw:=by rw[(aF8).length_eq]
aIx:=(tk pe,auN e)
aIy:=R.d<=lD
yR a:=Q (.int a dE) OU
aIz:=by simp only[q,mJ]
aIA:=wk l.1 l.2
fl a b c:=ad6 a (mV b) (l1 m.1 c)
aIB:=Ci par y
aIC:=a4b j (aa n)
aID:=t5 a5H a3
aIE:=a8 a=aa (aC C G)
aIF:=x (ahS bG bG)
CT a:=by rw[a6 a,dS]
yS a:=by rw[l (O _ e7 a)]
yT a:=by {rw[aj a,cG]}
aIG:=vs++[l4]
yU a:=V m a (De r eL=ab)
aIH:=gE (a1 2)
yW a:=by rw[v a (fun x S=>?_)]
aII:=cR bR aw
aK b c e f g:=by rw[a4 S (m b _ c (d e f g rfl))]
aIJ:=dI t J X7
aIK:=bv ag4 Er
fm a b c:=aj gM aw a (cp (gi b) bb c)
aIL:=yI r ed oU
yY a:=by have:=gz (Md (a:Str)) z
mB a b:=by have:=a;rw[fp b this,nj]
aIM:=fun j y b8=>?_
mC a b:=jD (fun c a8=>Z c a b)
yZ a:=E j (j<i) (a=ai)
aIN:=qs X a c3
y0 a:=cR (gi aja) WH a
aIO:=Mo bh l f
fn a b c:=ht a (cp (gi b) Av c)
aIP:=oW (h y ro)
mD a c:=m6 (A [cB] tF (ge a) c)
aIQ:=P g e g'
aIR:=by rw[C (gc b2 ?_)]
aIS:=e3 (ds (ig x) (y<aJ))
aIT:=MY (jp (v d.1 k (d.1,y) d))
aIU:=ap hL n j
aIV:=DC aP c l J
aIW:=Mv x c e
aIX:=rZ a d B
aIY:=∃j∈hL,I8
aIZ:=KI bh x dx C j
aI5:=Uw eA X.w a alm
aI6:=yY r H l Y c
y1 a:=ad0 d5 Y i ak_ H a
y2 d:=by rw[l2 R (f g ls h d)]
mE b c:=fun x p L h4 c4 O J B=>M x p b c B
aI7:=.dK (KU [] a64)
y3 a:=Meth X.K C m a
aI8:=Mk X.K C f
y4 c:=fun{a b}h=>c
aI9:=T.vc x S q
aI_:=(Z b (fh::W) [])
y5 a:=v b1 (Y a q2) (o0 f6)
mG b c:=vF (A [bc] Ab (ge b) c)
aI':=d M H I h
y6 a:=vi K C a st c5
aJa:=ep i R p
y7 a:=a12 _ _ _ _ a
y8 a:=LX a5 B par E a
y9 a:=by rw[ad f D a3 a h.d]
fo a b c:=match a with|true=>b|false=>c
y_ a:=by obtain⟨e5,e6⟩:=a
zc a:=by obtain⟨A0,x3⟩:=a
aJb:=(a9.map eY)
aJc:=(x (vb Z) h)
aJd:=(Ite K l)
aJe:=a.1.map blz
aJf:=by have d0:=a5I f9
aJg:=(l.1,l.2)
aJh:=(bp m.1,bp m.2)
zd a:=fun b7 b5=>a
aJi:=ey alk blA
mH a b:=Hf (c8 a) (c8 b)
a7g:=.int ck (dE+1)
aJj:=RT eA X.w
aJk:=.tup (wf (.ref W))
aJl:=rW (Vg f) (j f)
aJm:=by delta KV at J
zf a:=h_ (I.aNr b a)
aJn:=h n (x jR)
a7h:=U7 (e7 (q a5D))
aJo:=.Name y r
aJp:=.Name d1 T
zg a:=bF (bF (aD' a))
aJq:=f (eZ i) (mE j)
aJr:=r.R5 a_ (ahd a_)
zh a:=(bm hi a).toNat
zi a:=(aiI (a%256)).toNat
aJs:=min ip blB
aJt:=MP i5 lo
aJu:=([]:aM).toArray
mI a b:=fb a (ahN (blC b) ahO)
aJv:=Y.diff a0 W
mJ a b:=K5 (by rw[a,b];simp)
aJw:=HI (ad3 c7).2
aJx:=HI (ad3 c7).1
aJy:=blD (fs OZ)
zj a:=aRy (p:=p) (l:=l) (k:=a)
zk a:=aRB (P:=As) (atH Z I a)
zl a:=blE a i (ar hi)
aJz:=.erase i j
aJA:=a3s Mj a3u
aJB:=(Lz e).binds b
aJC:=blF (a6s zD J.f a)
aJD:=c.drop (gc-i)
aJE:=ajz eA X.w
aJF:=ax6 eA X.w
aJG:=blG r (v7 gk)
zn a:=Io a (jC (c3 _ _ z))
mL a b:=blH a (eB (sb b))
aJH:=by injection f5 with f5
aJI:=Xe D (agb D B)
mM a b:=(a).put (o:=b) (blI x)
aJJ:=IA h9 (aE_ N DP b5)
zo a:=fW.sb a5 a d6
mN a b:=by have:a:=b;rw[gf]
aJK:=fun a8 a4=>?_
aJL:=fun c0 c1=>?_
aJM:=J (U (ar z))
zp a:=E t' (t'<=t) a
zq a:=by rw[C (aEn a blJ ?_)]
aJN:=r7 (DH x xl)=ai
aJO:=A atN (c,l)
zt a:=M a68 (aOB a d6 f)
zu a:=by {rw[cQ N4,e_];exact a}
aJP:=gE (2<hv)
aJQ:=bs xw OR
aJR:=by rw[T r.N []]
nQ a b:=bo (jr _ (fH (a41 a m) b))
aJS:=fW K H b d7
aJT:=aJ (H x ro)
a7i:=fF (fun e5=>?_) (fun e5=>?_)
zv b:=bl (a5d b (eZ a) (mE c))
aJU:=by refine fF (fun e6=>?_) (fun e6=>?_)
aJV:=cZ 18 2≠0
aJW:=br (di I)
aJX:=bU bG bG
a7j:=by rw[blK];kernel_rfl
aJY:=dJ (! cv (i∈B))
aJZ:=dI aT aT
aJ0:=dd hL (n+1)
aJ1:=d_ [cB,cV]
aJ2:=dn q.y q.x
mQ a b:=aj gM kH a (j6 aq b)
aJ3:=by rw[jA (h_ h) e]
a7k:=uU K H b (HL cp)
fp a b c:=(ai (hr a) (hr b) c)
f5 a b c:=bA a {cls:=b,dict:=ae,data:=c,slots:= #[]}
a7l:=fun(k:Nat)=>dG (iU akY) (HU k)
mT a b:=X a b ["neighbours","came_from"]
mU c d:=aFC a b (x:=c) rfl d
mV a b:=c7 (hr a) (hr b)
zx a:=by rw[ca d3 (¬a=0)]
CU a:=by rw[cD (c8 (aDq (show ab=ai from h.1))) a]
fq a b c:=PS X (.AugAssign a j b pos) c
a7m:=qH _ (qH _ (aN9 U e))
aJ4:=dO jy 20
zy a:=V e gU (a/\e.2<de)
aJ5:=mM F p.1 p.2
zA a:=by rw[a]at D;cases D
aJ6:=vP "list"=aa Aa
aJ7:=K b p c
aJ8:=eR aFS alf
aJ9:=aa ⟨6,cw⟩
aJ_:=zN bh F xa
a7n:=fun b N q=>bT q
aJ':=fun j a b3=>?_
aKa:=∀x,t (f x)=k
zD a:=bk j x (El->a)
aKb:=lc (cO u x)
aKc:=dT c5 m7
aKd:=E x aFX ak7
aKe:=f8 XH (g5 tx [b9])
zG a:=bA l wY (dB eR L l a) cB
aKf:=lf (oD (lx t s p))
a7o:=∃i u,v=WX i u
a7p:=fun j x b8=>Ao
zH a:=fun h' p c0=>a
aKg:=fu bG bG
aKh:=ch (l.1==e.1)
a7q:=bD a6Z (fun c b5 P=>?_)
a7r:=v o e (fun v z=>ah)
zL a:=fun c O q=>a
aKi:=by injection e with b4 _
aKj:=upd d4 W a61
aKk:=PG X c7 g
a7s:=by rw[f_ (a5f (v d).toNat>>=_)]
aKl:=lK "list_iterator" #[cB,hz 0]
zM a:=ap (vy df k a) n j
zN a:=by have Z:lB OO "enumerate":=bm a
aKm:=(yl (fn "NUMBERS"),nmF K)
aKn:=[w,h,ij,ih,jx,kB]
aKo:=Mo bh b i
aKp:=BR r ed oU
aKq:=fun h' f sb=>?_
aKr:=J (oK f) aF'
f7 a b c:=Y ["drawing",a] ["drawing",b] c
zP b:=r6 (fun a b3=>ax (dL eN b3) (mP b))
aKs:=aFy DV c/\aFz c=ab
aKt:=by have e0:=va J x
zS a:=z b (f (gO xv)=aa cV) a
aKu:=by rw[ak b3 e (M8 q)]
zT a:=fun v d3 z=>cy (wt d3) a
aKv:=li (mK y.2 x.2=ai)
aKw:=20+8*Af+4*i
mW a b:=(Du r a).bind (fun T=>aiE T b)
aKx:=CO _ H rfl
CV a:=eW (mu b3 (mQ e.2 m.2.2 a))
CY a:=eW (mu (HB a) (mR e.1 Ai))
aKy:=(eJ eM).zip Y
aKz:=(qQ U ri).2
mX a b:=by rw[ge q a];exact qq e t b
zU a:=by rw[ge q a];exact bJ e t
aKA:=(qQ b3 (bp b)).1
zV a:=bl (Mx a cB cV)
z0 a:=by {rw[ae (l a ay) e];rfl}
aKB:=by have:fl (h::l)=an (OY+ef l):=bI
z2 e:=∀a b c d,e
m0 a b:=by cases r with|nil=>{rw[kd a b]}|cons c u hw=>rw[alb];cases c9
aKC:=Dd J a b=ab
aKD:=Dd J w x=ab
aKE:=Gd (F:=F) _ h j b8
z3 a:=(l i x (i<a) nh (x<j))
z4 a:=(l i x (a<=i) nh (j<=x))
aKF:=v 16+ae xu
z5 a:=WO t (WV a7) kI a
aKG:=v O q a_
z6 a:=(tG).is k a=ab
C0 a:=by rw[fx];refine N9 (aqF I d8 c4 a l)
fr a b c:=t cj (cf (RP (l:=a) (k:=b) a_) c)
aKH:=by rw[C (iP (LS T) ?_)]
aKI:=fun v d3 z=>?_
aKJ:=by rw[al (M1 a b)]
a7t:=ce aJ (dJ (v i k p eG))
m1 a b:=fun i m H=>m=a-i/\b/\j i H
C1 a:=o z (a1 x z) (z∈B) a
m2 a b:=by have a:dc b aF9:=fun e h=>x ir ag
z7 a:=by rw[aS a (cd 256^2) 65536]
fs a b c:=an pH a aDJ (ez aq (a7 b c))
z8 a:=ct (o3 (T a)) gE
z9 a:=20+8*Af+4*IY+12*a
At a:=cy (show b∈([]:bg)from a) jI
aKK:=by rw[df e2 j0 h.m]
aKL:=iK t.1 (hD t.2)
aKM:=by rw[iO a5 (sQ c0)]
aKN:=cf eG<cf (bp j)
aKO:=e9 kE<m0 kE
AC a:=Up cA k a h s
aKP:=aFm C H L v T c
aKQ:=(mJ c5&&mJ h')
aKR:=Wf=gU/\pb=lG
AK a:=bm yu aq cu (bU 1 a5t (dK a))
aKS:=by obtain⟨h2,e2⟩:=b
aKT:=by (repeat(any_goals(first|assumption|wp_step)))
aKU:=c[gc-1-i]
aKV:=HJ y k h
aKW:=V7 y k h
AP a:=Uq (ajz cM w) a r a7
a7u:=Xs D lR (aa M)
AT a:=M (.Dict [] [] pos) a
aKX:=bx (IB i 0) (IB (i+1) 0)
aKY:=by rw[aO rfl dx h]
A0 a:=by rw[bD m es (hG a)]
A1 a:=∀(J:Nat)(p:Probe),a
m3 a b:=by rw[b6 hw W (a1q (v:=v) (o:=a) b)]
a7v:=(b=r\/v9 lL)
aKZ:=lc (bx e.1 e.2)
cu c d e f:=by rw[e8 X c (mT d)];delta e;rw[L f lQ]
aK0:=b7 lt.1 lt.2
aK1:=[.int 1,.int 3,.int 13]
ft d e g:=b x bc (y=cV) (m4 d) (GW e b k) g
A2 c:=by refine f b _ pG (ai rfl (Ts c))
C2 a:=by rw[j5 W (adQ Y J a R.n a_)]
m4 a b:=oF K q a=oE b q st
aK2:=["cartoon","points","ends","marks"]
m6 a b:=by obtain⟨c2,g,d,D,a⟩:=b
aK3:=by rw[dh,pA,dh,cN]
aK4:=bd (fun d7 b6=>t (I.ac5 b6 e0) S)
a7w:=by rw[aK (Wx (i+1)) (Wx i) a b3]
aK5:=(gK).k e.1<=tM/\tM<=(gK).k e.2
A3 d:=by rw[CO (u dg rfl a _ d)]
aK6:=sh (by rw[ak e h e0];exact v a e (bv h))
nR b c:=a dx _ _ rfl b dR gb fX c
a7x:=∃c d,X4/\dK d 0/\c≠d
cj a b c e:=by rw[CP (d a (dx b (t c hi)) e pF)]
A4 c:=f4 lR c (a J g ls u rfl a7 D.2 Y)
a7y:=nN (ly=kx) (MJ b1)
fu b c d:=nP b (by rw[z]at c;simp at d)
aK7:=by obtain⟨m2,S⟩:=aFb
m7 b d:=(b:bl (Mx d (eZ a) (mE c)))
fv a b c:=by refine aOc (n:=a) b c ?_ ?_
aK8:=by injection G with b6 S
a7z:=blM j++blL (j+1)
aK9:=by obtain⟨o,d0,_⟩:=ajB
A5 a:=by rcases a with h|h|h
aK_:=iE Es (ic t) (di ali (ve r (bp t) iZ))
aK':=by rintro⟨a3,a9,e2⟩
aLa:=r.aQr (jZ b0) S
aLb:=r.asu Y I e
aLc:=(i-fK+1)%t (d++Z)
A6 a:=by delta aDa qU zB at a
aLd:=aQO g a6 hw
aLe:=Lc par y t
A7 a:=blN (SX r v) a
aLf:=aec r v I0
A8 c:=aen Lm aF_ (fun _ _ h=>SY h) c
aLg:=R.F.ok r len U
aLh:=NQ p q J
aLi:=PxV H v p
fw a b c:=by rintro M a⟨rfl,⟨b,rfl⟩,c⟩
aLj:=blO a5 B par
aLk:=N0 lJ fy j
aLl:=blP it bh h'
aLm:=blQ [(hJ).hash k.1,(hJ).hash k.2]
aLn:=W.type 0 _ st
A9 a:=by obtain⟨F,c3,_,c4⟩:=a
a7A:=eqK (K:=K) rfl wc
aLo:=blR (h8 (mC (NQ ed (bp b) ri)))
aLp:=blS (li (mK (O y) (O x)=ai))
Bp a:=aFv (j:=p+1) aQ (afr a)
aLq:=a0C K e3 g=ab
Br a:=by rw[l (d5.nt b a O e)]
aLr:=K b (p+1) n
Bs a:=by {rintro⟨_,q⟩;exact cy (a0 (cd 2) a q) ay}
aLs:=gy×gy×ax
aLt:=by rw[N c3 k f]
aLu:=e=x\/bh e DZ
ck a b c d:=by have:it F a (cE b)=c:=by rw[<-yB,d,e]
aLv:=ad b (B=aa b) (wQ b)
aLw:=dl (hr blT hR)
m8 a b:=PA X a (qt d6 (qt c3 b))
aLy:=by rw[cy (Gd (F:=F) _ h i hi)]
aLz:=by rw[aS d2 (xt+xp) xp]
fE a b c:=by rw[bl J l (a5 i x v a b c)]
aLA:=by rw[bl rfl R (vals1 J)]
m9 a b:=b3 au a4 M a8 a r b
Bt a:=MB B (aa a) MC cE=eU ai
C3 a:=bo (i=j\/t (iU akY)=dP) ae a
nS c d:=by have a:j b u (fr u) c:=fun b u e z=>d
aLB:=(C-D)*(kp-K)
aLC:=bV b2 X G
fF a b c:=by have e2:a=b:=by delta c;simp;simp[*]
na c d:=by rw[j l b c ?_ ⟨jT,d⟩]
aLD:=by rw[cM e0 S d8]
aLE:=by have:(an (Ag-Ah))=an (Ag+(-Ah)):=bI
aLF:=e.1+e.2-B
aLG:=xy++p++I4
aLH:=cQ (u_ R i t) gE
aLI:=d [] 1 id (au (0,0))
Bu a:=∀{l:nD}{c J:Nat},a
aLJ:=vS (PE (jP e9 C) t b8)
aLK:=vS (PG (jP e9 C) c7 g)
aLL:=vS (PTs (jP e9 C) G c3)
nb a b:=∀(J:Nat)(p:Probe),a->b
Bv a:=zA b (n+1) r p=a
Bx a:=wy r a 0 [] dQ
aLM:=dT (dn (a5C D e) (a5B D e))
By a:=by rw[a,hq,hq];simp[a0]
Bz a:=aP m x (m<n->a->zK x≠.empty)
fG d e f:=by rw[iQ d (u zS yW X e f)]
aLN:=oC (r0 de) DD gU i z
aLO:=oC aF7 WA lG i z
BB a:=jk bS DU T.T_.h (ez a0e) a6 T.T_.b .nil fp (dY a)
aLP:=by {intro p c2;rw[it i (zm c2)];simp[*]}
BC a:=by rw[rq];rw[a]at h8;exact h8
BD a:=aP x l (ald->a)
BF a:=fun j x y=>x= .int (cd j)/\aa a y
aLQ:=agO b o e n S
C4 a:=bD (o7 _) (fun u b5⟨y,b7,Y,r2,q2⟩=>a)
a7B:=(j::a.1,lJ a.2 j)
BH a:=axG t a 13 p ay
aLR:=aEP D e.1 e.2.1 e.2.2
aLS:=ax u (gQ e) u
aLT:=aV e4 le zs nu
BJ b:=CL (z k (aq3 b x L k) (Q k L))
aLU:=j b O (fr tI) (hB tI)
f8 a b c:=by induction a generalizing i with|nil=>{trivial}|cons J t j=>cases i with|zero=>{exact dl (b▸J)}|succ i=>exact c
aLV:=∀a b c,aFS->k b c=ab->k a c=ab
nT a d:=(eo b u e).qr (fun c v b0 q=>k c v ?_ q) a d
aLW:=c V ek ek Hp (cu VK)
C5 a:=aAo u CR A H k dx a Q
aLX:=CE ez P w H s Q u c1
nc a b:=(as' (m:=O2) (l:=jF a) (fun h c7 q=>b))
BL a:=xlAt a [] s&&recOk [] s
BM a:=∀(w:World)(os:OsState),a
aLY:=by obtain⟨zs,L,a5⟩:=st
aLZ:=by have id:=asV al f J w x
aL0:=.Pass (d 0 0 0 0)
aL1:=[k,J,g,ls]
fH a b c:=by refine aPK (n:=a) (fun i L=>b) c ?_ ?_
BN a:=∃(ar:aM)(n:Nat),a
BO a:=by obtain⟨gl,k2,p1,o3⟩:=a
aL2:=c4 b _ q (J z)
aL3:=blU x c r b0
aL4:=blV ak5 X.A cE oM
BP a:=aBi _ _ a b U
aL5:=blW sl i5 c .none
aL6:=a6t lo hi ae n
aL7:=zt p q J s
aL8:=zt pw rj (bp m.1) (bp m.2)
aL9:=VR r t z e
fI a b c:=SInv (ab (Nm x [])) n a P b c
aL_:=SX r v row a
BQ a:=aRJ C.net NF C.aez a H
aL':=at6 r (vf r aFg) (vf r aFf) l
nd a b:=ReadsW R e9 a u b Y
nV b c:=afq bJ [bc,pC] b (CQ c) E0
cl a b c d:=aOb (O:=a) b c (mM (cx d)) ?_ ?_
BR a:=afO cM w a a7 l
aMa:=a4A (blX r e1) a7
fJ a b c:=W.af2 j _ _ a b (jC c)
aMb:=lay H l Y L
aMc:=ne v d3 z q
BS b:=a r.w r.h dd bX b
BT a:=by {rw[bD (fin ?_)];have:a:=ah;delta oC;rw[tR]}
BV a:=fun g e g' _ h=>a
aMd:=fun i H hi s=>?_
aMe:=by rw[w (ar qR) aFP aFP aFP]
nW b c:=m DT y_ b _ (aJ c (v6 3))
f_ a b d:=by rw[aj a b (fun c o z=>by have l9:=d9 c o z;exact d)]
v a b c d e f:=E a 2 4 (E b 2 8 (E c 2 12 (E d 2 14 (E e 2 16 f))))
fK a b c:=aP y k (ap a y k->b\/(c/\K f y k))
a7C:=eB (k it bK o e)
aMf:=dO (gl ((k,x)::J)) (v k f ((k,v)::J) ((k,x)::gl J))
aMg:=b_ (ac [vn l] n1) (bs [vn l] (v5 (b-1)) n2) (ac [vn J] u)
aMh:=fun H v(m:G6)=>br v eL
cn a c d f:=by have a:bd (b≠x) (be c) (be d):=fun b o a5 e=>f
nl a b:=Y ["data","place",a] ["data","place"] b
BZ a:=by rw[Y e a0 b U a]
B0 a:=hv a ((fL f<0->fL e<0)/\(0<fL e->0<fL f))
fL a b c:=by have a:∀p q:Pt,b:=fun p q=>c
aMi:=by have z1:lA=zh:=by rw[<-blY];rfl
aMj:=by have h6:Vl=Nw:=by rw[<-blZ];rfl
aMk:=(afh K mg e G)
aMm:=zp->bk l (x∈m)->d_<=aES
B1 a:=by rw[ax c b0 r1 r2 a]
B7 a:=∀(o:Obj),a->vW=Aa
aMn:=bH ch ((b∈CA\/G9<=b)/\XW/\a62)
aMo:=av (i<fL) (cs dd HR X9) ae
a7D:=d3 au s M H _ I h
B8 c:=wg (x b o a f c)
a7E:=d0 au b5 M b7 x y v u _ Y r1 r2 q2
aMp:=aa (Mm "dict",(ae:nf),nmN.map nP,(#[]:Ep))
aMq:=cw≠jy+8*cZ 12 2+4*cZ 14 2+12*cZ 16 2
a7F:=upd (ap e5 (bV xb)) e6 (.tup (bV xb))
aMr:=by obtain⟨O,x,e0,S⟩:=d8
aMs:=aCl r al f Z d
aMu:=let⟨o,d0,J⟩:=x;v o (e _ d0) J
B9 a:=jk bP gG a6v (ez ayR) a6 a6u .nil fp (dY a)
fW a b c:=∀{Z:Row}{g:Nat},a->b->fv c
aO b c d e f:=by rw[fx];refine b;obtain⟨c,b7,Y,d,a,e,ex,g,q2⟩:=P;rw[lW,En];exact f
aMv:=a02 b o e n U S
r c d g h i j k:=a c d g h (a f n i a3 (wc (nM j k))) h.n1 h.n2
Ca a:=e7 (ag_ x DY aO R.f e3) (a).Ku (RH st)
s a b c d e f g:=RG aAL (aAK a ((b).nsMap CB "__annotations__")) (aAI (aAJ aFF) c d) e f (bl0 g)
nX b c:=[kJ,ac x,ac lt,b,Ar,i1,j5,ac I,ae,ac N,c,bE k,l6]
aMw:=dz->bk i l (A bX l->a i l=alh)
nm a b:=by obtain⟨a5,nd,mem,nx⟩:=d5.rot a b
aMx:=by rcases O y k h with⟨rfl,rfl⟩|⟨q,h⟩
Cb a:=.of_wp (fun cM w A R s h=>a)
aMy:=a0 cM w _ _ ?_
fX b c d:=bl1 (m gk _ (CQ (a:=aO) (o:=b) (t':=dE) (ip (bT q)) a_ c) d)
Cc a:=aro (aSS (K:=K) rfl) a (oo bE) (oo bE)
Cd a:=yq (aPn aj1 bl3 bl2 aPt a)
aMz:=aDW O j r lo hi
Ce a:=vG f=aa (d D m (.func a) z)
fY c f g:=by rw[e l b c 2 ?_ f ay g]
co c d e f:=by rw[g _ c l b d e a5 ⟨ay,fun a8 a4=>f⟩]
aMA:=by rw[ac i j l l l]
C6 a:=L6 dm lF P w D a y x e7 d X c7 I
aMB:=by rw[cd m (a6w "min"++a6w ".loop":gy) "min.loop"]
Cf a:=∀m:fA,bl4->bk m (x∈a)->aES<9000
aMC:=by rw[ad e ne w d (Mt p c2)]
nn b c:=by rw[e a D b2 X G rfl b c]
Ch a:=fun _ _ _ _ _ st h=>a
aP a b c d e:=av T.TM.h aVx T.aVp T.TM.b (GI a b c d e)
Ci a:=av T.T2.h aZS T.aVs T.T2.b (dY a)
aMD:=eC=0\/eC=1\/eC=2\/eC=3\/eC=4
C8 a:=aP u (aqP (s:=tD) e c d ay a)
aME:=by intro i j hi b8 l e
no a b:=by obtain⟨J,g,ls,a,rfl,b,hR,Y⟩:=h
n0 b c:=∃(o:Obj)(ar:dU)(n:Nat),be (vG a)/\vW=b/\c
u a b c d e f:=by have step:a=ai->ae (j<i+1) b c d e:=fun U j d7 b8 O=>f
aMF:=wd (2<=ff/\ff<=64/\cz row O1)
a7G:=a03 b o e n U S
aMG:=["self","width","height","points","lines","marks"]
np a b:=fin h' (av _ d3) (av _ a) r V Z b
aMH:=by rcases cs with e|e|e|e|e
nt a b:=by obtain⟨c9,f,⟨a,b,n⟩,a3,a9⟩:=st
fZ a b c:=E (cw<a) 1 cw (E (xb≠b) 1 0 c)
f0 a b c:=uZ P w K mg aj a b f c c5 e8
f1 a b c:=by cases q:a with|false=>{rfl}|true=>rw[ci b,a4 c,aj aEu];rcases q with q|⟨d2,q2⟩;{rw[el]};{rw[aK (x Ap),aEu,bj (fY (acR z.n (mh q2)))]at h;rw[lX];lia-abstractProof}
cp b c d e:=by obtain⟨l,b,c,d,rfl,rfl,a,e,c9,q⟩:=h
cr b c g h:=by rw[e x b _ c rfl ak (f c2 b2 X G g jI jI ⟨jI,jI⟩) h]
Ck c:=by rw[b ?_ ?_ ?_ ?_ ?_ ?_ ?_ ?_ c]
Cl a:=af1 cM w a T I a8 aj n St p
aMI:=by obtain⟨zs,f,a3,a9,m,B⟩:=st
cs b c d e:=a x _ dx _ rfl (Y b c) gG d (as e)
aMJ:=fun i H x L s hi y=>?_
aMK:=by rw[gr B (aOV kz OE a t c u)]
aR a b c d f:=e ajb a (e4 b c (gi d)) (cj "place" 4) (ci 4 ajb) kK (bC (b4 f bR))
nv a c:=Meets a (fun _ R s=>c5 l {cls:=rn,dict:=j,data:=jq f,slots:=sl}/\c5 b (au rn o i n2 p)/\eS (.bool c) s)
ct a b c e:=[tP,rr,ac lo,OM,ae,i1,j5,a,b,c,e]
Cm b:=by {obtain⟨o,a7,e1,d0,J⟩:=c4;exact a o a7 e1 (k _ o b d0) J}
f2 a b d:=em St (W 0 m M H) (V ak1 ((a).stop i H) OD ((b).go i H) (∃N:pJ,(ak6)/\j x L (rZ d) (ga M (r4 N))))
aML:=@aE4 _ _ _ _ _ _ ?_
ga b c d:=∀(a:Addr)(b:Gla.Plan)(b2 X G:Addr)(c:Nat),d
aMM:=uZ P w K mg aj sf k R.f R.fd c5 e8
f3 d e f:=∀(c1:Shared)(M:bg)(C:Nat),b U8 sO (a48=zd) (U9=CC) (a6b d=aa (hf (hv (M.map dk)) C)) (i (U4=n) (nI M mD) e f)
aMN:=by rw[a0 g0 L I q];exact d g0 L I.FV q
C9 b:=a a b2 X G e b c9 g9 e1 j5
Cn a:=sk (Sf (aYu (K:=K) (w:=w) rfl rfl rfl wc) bI T.set aSX (dY a))
aMO:=∀{Q:nz}{O:K}{b:Addr},zN bh O b->X2->a63
Co b:=by cases e with|true=>{rw[aK (B.mp rfl)]at hR;wp_walk;exact a rfl rfl _ _ _ _ H C (v F (x (aQ1 E)) hR)}|false=>rw[bj (ai (cy (B.mpr q) Hm))]at hR;have J:=b;wp_walk using J;exact dl (ax hR)
Cp a:=by obtain⟨z,ar,J,o,d0,b0,n,hd⟩:=eo _ _ a
Cq c:=by wp_walk using a6x a5,a6x U,a6p _ (fun m b c1=>b.1=ae/\c1=OE/\∃(vs ws:aM)(I k:aT),m=vs.zip ws/\sT vs I/\sT ws k/\bl6+Vl=bl5+lA/\eS (.bool c) OE) _
Cr a:=by rcases a with⟨o,rfl⟩|⟨j,q,c0,e0,c,rfl,b0⟩
C_ a:=aOg b3 U I h (fun v u b5 x y b7 Y R Z q=>a)
aMP:=by case h=>exact a rfl rfl a6f aBk ns d8 rfl hi b8 OF h
Cu b:=by obtain⟨a,b2,X,G,e,d,c9,g9,e1,j5⟩:=b
aMQ:=(afh a.K a.mg a.e a.G).Ok a.P a.w a.base 16 (LC a.K)
nw a c:=by rcases zs with⟨a,a7,a0⟩|⟨d,b,u,j,c,b1,G,c0⟩
aMR:=by obtain⟨c2,b2,X,G,rfl,j,b0,a0,e0,d1⟩:=J
Cx d:=by rw[xo,c a b ns d8 rfl b3 U q h,hO];cases Z;obtain⟨ar,r1,e9,_⟩:=CF b3;rw[j9 r2 (CF U)];exact d
Cy a:=∀(i j:Int)(t u:Tok)(s:Shared)(Q:aU)(E:aU),a
a7H:=aS (N-i) ((N-i_)+1) (L N i lt N (i+1)) (L N (i+1) lt N i)
a7I:=by rcases g with⟨F,k,e,c3,l⟩|⟨F,k,b,e,c3,f7,l⟩
t b d e f g i k:=by obtain⟨⟨y,j,a,sl⟩,d0,b0,n,hd⟩:=id a5;obtain⟨⟨c,o,data2,p⟩,u,m,n2,d7⟩:=id U;simp only at b0 hd m d7;subst b0 hd m d7;exact bl7 (op:=b) (bm d0) (bm u) d e f g (v d0 u (show vH i≠bl8/\jV k from io (ab (nomatch x)))) hu
a7J:=by simp[dI]at b8
Da a:=bl9 "special-get-raises" a
a7K:=.lst (a6y toV)
a7L:=.tup (a6y toV)
a7M:=akE "default"
Db a:=MX a (by size_fits)
a7N:=wz WData.int
a7O:=PlainAttrs T
a7P:=N.Pairwise (mn R)
a7Q:=Z.den_pos a0
a7R:=by unfold Plan.joined at this
a7S:=m.Pairwise R
a7T:=R.cs.headD alW
a7U:=f.any (Cg l)
a7V:=ns.filter (eb Jg)
a7W:=hG.set.qr kp
a7X:=left.take alU
a7Y:=a4E "internal:collect"
a7Z:=J.wellSaid=ab
gb a b c:=by obtain⟨_,a,_⟩:=b;exact c
Dc a:=by rw[bW d0 a5 I.look];exact a
a70:=by subst_vars;rfl
Dd b:=bl (eqIsQuiet b bc)
a71:=fun e m=>?_
a72:=fun x m=>?_
Df a:=oC (!(am a i ai))
a73:=Cz "__classdict__"
a74:=fa (bF (aEL ?_))
a75:=by split<;>grind-abstractProof
a76:=cr (eV (gq))
n1 a b:=by delta a;rw[bA];exact b
a77:=by rw[jL (fun x _=>?_)]
a78:=Q (ac aO) nr
a79:=v o e ex.2.1
a7_:=(ay:bk (cd 0))
Dg a:=seqIndex? i a=aa j
a7':=ad a (.dK X5)
a8a:=ad a (.dT X5)
a8b:=o1 (au I d0)
a8c:=by refine qF (fun ne=>?_)
a8d:=td O (O[i]+1)
a8e:=fun b o e=>?_
a8f:=(Hk (·.pop))
a8g:=fun v b7 b5 r2=>?_
a8h:=no (e0 (gP pos))
a8i:=o6 (st.at a7C)
Dh a:=fun _ _ M H _ I h=>a
a8j:=Q (ac aO) tD
a8k:=fun b7 r2=>?_
n2 a b:=by rw[ck t (du (jE a) J),bY];exact b
a8l:=di 0 (hw Pc)
a8m:=v o d0 hex.1
a8n:=fun y b6 e=>?_
a8o:=ax c (aA3 y.1) c
Di c:=∀{l:ao}{a b:Nat},c
a8p:=a _ _ _ _ (bd yD)
a8q:=by {rw[Eg,Eh,sa (aAx h)];rw[e];rw[vE k];constructor}
Dj a:=fun b N q _ _ _=>a
a8r:=ea (fY (gv z E.g))
Dl a:=by rw[a4 a];simp_all
Dm a:=by simp[cQ,a];simp+arith [*]
a8s:=aj le (bh (d7 lo))
a8t:=an (dt 0 (hI E)) ie
a8u:=ae (sW e) ⟨a0,q⟩
a8v:=ve r ed (jk v)
a8w:=fun b7 b5 f5=>?_
Dn a:=by rw[cG,Eb];exact aW a
a8x:=wb (ac ou ou (o9 h))
Do a:=fun c o e5 e6 c1 i0 e=>a
a8y:=it F (d-1) g∈IS
a8z:=lB bc "dict"
a8A:=lB ny "dict"
a8B:=MY (ab (kV x.1))
a8C:=a2 (eV (hj))
a8D:=a2 (eV (hk))
a8E:=(al b (bO U)).1
a8F:=fun a h=>?_
a8G:=fun t' h=>?_
a8H:=ef cm (mP lQ)
a8I:=fun x c e=>?_
a8J:=fun x l e=>?_
gc a b c:=by have:0<a:=by rw[al (mO 0 b),l q];{have:=Nb (eW c) q;lia}
a8K:=hz T "__len__"
a8L:=hz T "__length_hint__"
a8M:=hC "__init__" f
a8N:=hI "__init__" q
gd a c d:=bD a (fun b1 b5 e0=>dK c r2 d)
a8O:=wp ⟨a0V,X6⟩
a8P:=by obtain⟨g9,e1⟩:=m
a8Q:=by obtain⟨g9,e1⟩:=vJ a0
ge a b c:=v (mO a) (fun i H v L=>b) (mO c)
a8R:=(l b o (b∉a8) gY ha)
a8S:=(l b o (b<aO) gY ha)
a8T:=G _ _ (ae8 b4)
a8U:=d_ 1 [] (wJ akx)
a8V:=d_ 13 [] (wJ akx)
a8W:=bo (i=0) 1 0
a8X:=bp (aFc nv) num Hi
a8Y:=bp (aFc nv) num (nv XS)
Dp a:=F9 i (qx R t) a*BD R t
a8Z:=i e*qx R t e*BD R t
n3 c d:=by rw[dv (a+1+b) ((a+b)+1)];simp[c,d]
Ds a:=fun c o e5 e6 c1 e=>a
cv a c d e:=by rw[akK];cases x with|bC=>{rw[a4 R a]}|bl b=>{rw[a4 R c]}|int b=>{rw[r5 d]}|str b=>{rw[r5 e]}|_=>trivial
cw a c d e:=by cases Z;cases x with|bC=>{rw[a4 R a]}|bl b=>{rw[a4 R c]}|int b=>{rw[r5 d]}|str b=>{rw[r5 e]}|_=>trivial
cx a b c d:=by rw[hO];cases y with|bC=>{rw[a4 Z a]}|bl j=>{rw[a4 Z b]}|int j=>{rw[ju c]}|str j=>{rw[ju d]}|_=>trivial
cy a b c d:=by rw[wZ];cases y with|bC=>{rw[a4 Z a]}|bl j=>{rw[a4 Z b]}|int j=>{rw[ju c]}|str j=>{rw[ju d]}|_=>trivial
a80:=t.dummies= #[]
n4 a b:=(aBr (J (h7 a b (aEB z))))
a81:=ey Yt aum._auto_1
a82:=ea (ai (nomatch q))
a83:=a1p j (aBs fM)
a84:={c8 with heap:=aBS (a1O aF6) mI}
Dv a:=Ij (.builtin "list.append") a
Dw a:=CX (cf (aNl e5) (aS a 1))
a85:=aEp (jC (bT z))
a86:=fun D m=>?_
a87:=by (intro;lia-abstractProof)
a88:=(k.1.length+1)
a89:=fun b z=>cy z (G b)
a8_:=by rw[al (aFo (d.ne Y))]
a8':=fun b c5 e=>o2 bB
a9a:=(O8\/td lJ d=i+1)
a9b:=(O3->I)->I
a9c:=by rw[dh (WC a5) (fun c7 Y=>?_)]
a9d:=PT X alS (uX Ym)
a9e:=xg=ab\/als=i
a9f:=fun j b8 h=>?_
a9g:=V e pR (y<=c e)
a9h:=aa (aGa,p.2.map aa)
a9i:=oL (cv (j<i))
a9j:=oP (as (.inl Pb))
a9k:=fun b o U e=>?_
a9l:=e3 (ds (Nm x []) (y<n))
a9m:=by induction h with|nil=>{rfl}|cons J t i=>rw[i];rw[hM];rfl
a9n:=z u (b1=[u]) pK
n5 a b:=fun g0 j1=>z f7 (f7<a) b
a9o:=uU X.K H a O
a9p:=bm dG b2 pts
n6 a b:=by rw[P sm a (cw b W (.ins dJ W [])) Pp]
a9q:=fW X.K H a O
a9r:=by obtain⟨dy,b6⟩:=Xi
a9s:=N0 a7 aGb (h,v)
n7 a b:=by rw[a];intro e;rw[b];simp
a9t:=E (cw<p+AJ) 6 cw ae
a9u:=(x,c)∈zi mC d B
n8 a b:=∀l:ba,Me (hi (p e) a)=b
a9v:=ew lL (j<Mz) (ad j)
n9 b d:=by show dj (qB (aDk a.1)) b;rw[Cc c a.1,d]<;>rfl
a9w:=mw K C m x st c5
a9x:=k7 (vL x)\/jS (vL x)
Dy a:=wi M H (fun d0 a8=>a)
a9y:=(h,v)::a4h fy
of a b:=o h' a (pb b) (Q ai tD)
Dz d:=by rw[bn b U (m b _ pG dq d)]
a9z:=an (J.drop Ex) (alQ-Ex)
DC a:=fZ (L M H (fun v a8=>CN (A M b7 a)))
a9A:=by have:fl []=ng:=bI;rw[this,Ga];rfl
DD a:=fun b o h2 e2 z=>a
a9B:=(Nm k []).foldl BP (J,Nl)
a9C:=q_ bh TO a b
a9D:=hX eE eF p=ab
DG c:=M (eV a b) (Bv c d6 c3)
DH a:=∀(N:cH)(c J g:Nat),a
a9E:=ap H rm (aOo J) q
DI a:=by have c0:a=0:=by have:=I.adN 0 VC;simp_all
a9F:=fun j y t b4 b9 e7=>?_
DJ a:=fun au s M H Q I hw=>a
a9G:=⟨4,16+aC'⟩
a9H:=⟨bI,x cS⟩
DK a:={P with main:={P.main with body:=a}}
a9I:=ey (aru b) aun._auto_1
DL a:=za (cj (e5 ⟨a,k⟩))
a9J:=cv (v a<=b)
a9K:=e (a3.trans z)
a9L:=by (try with_reducible refine Ez)
a9M:=aK (W.mpr e5)
a9N:=.yo EE (.lst OP)
a9O:=.yo EF (.tup OP)
a9P:=s.heap.Ns oK m
a9Q:=cv (y.1∈aBU fM)||cv (y.1∉N)
a9R:=r.R5 c1 (ahd c1)
a9S:=r.pin (b,o) a7m
a9T:=max (eK lP) (eK lT)
a9U:=IsTup.new _ _
a9V:=O.any (e7 (yz y x))
a9W:=Hk (au (#[]:dU))
a9X:=by rw[<-UL ag,<-UL C]
a9Y:=by rw[<-KZ h nd,<-adY h nd]
a9Z:=ahV (oJ 1++G5 1)
a90:=a5' ⟨al,I5⟩
a91:=sj _ (yC ah)
a92:=bN (saveRecord wH)
DN a:=have z:=DW (lE e).1;a
a93:=.lst (av e) ?_
a94:=b_ (o:=cO O o) c0
a95:=b_ (o:=aGq) u1
oj a b:=aje (k:=a) (ab (pf b x))
a96:=(N8 dk).toArray.push gk
DO a:=by rcases a with⟨_,q,_⟩|⟨_,_,_,q,_⟩
DP a:=by rcases a with⟨_,_,q⟩|⟨_,_,_,_,q,_⟩
a97:=Gla.cuts a5l de
a98:=bl_ (agb D B) gU
a99:=DQ (DQ 0 alR) aGB
a9_:=lM (Gy c6) b8
a9':=lM (Gy b3) r2
a_a:=c6.imp (ai (aZA q))
a_b:=e9 e (fb a0)
a_c:=RP (k:=B) d5.l
a_d:=inK (K:=K) rfl
a_e:=aFt (bn [p.x,p.y])
a_f:=B.head?=aa 0
a_g:=Nv tc z=aa (Gg r g)
a_h:=MN y.1=aa y.2
gi a b c:=by have:a:=qF (ai (wC b));exact io (bn this c)
a_i:=r7 (DH j xl)=ab
a_j:=a6s zD J.asked a=ab
a_k:=l.1.below l.2=ab
a_l:=fun q e0=>?_
a_m:=fun u hu=>?_
a_n:=fun le j3=>?_
a_o:=B (iV mS m) AH
a_p:=t a18 (a2g I.bk)
a_q:=p (k+j) x=ai
a_r:=NK tT++[mU[tT]]
DQ a:=by {intro c o g7 nc;rw[bW (J ah)];exact a}
DS a:=by rw[zk]at J;rw[hM];exact a
a_s:=fun _ _ _ _ n=>n
a_t:=as ⟨ay,ay⟩
DT a:=bn (nd (atV b p a))
a_u:=fe "cell" (.cell ae)
a_v:=ai (L.ne Y zu)
a_w:=ad J (aC CR (g3 e))
a_x:=ad r (afS w r a7)
a_y:=fF (fun c1=>?_) (fun c1=>?_)
a_z:=fF (fun d=>?_) (fun d=>?_)
a_A:=fF (fun e6=>?_) (fun e6=>?_)
a_B:=(dk a==dk b)
a_C:=by rw[bJ (aim (sn (t ph a0)))]
DU a:=ea (aCF i) (bo (! a))
a_D:=ce (t aFZ=n)
a_E:=am t (zs.map cp)
a_F:=bj (da c2) Q
a_G:=by refine fF (fun f=>?_) (fun f=>?_)
a_H:=by refine fF (fun a3=>?_) (fun a3=>?_)
a_I:=aK Z (O x≠[])
D0 a:=ac (si EG) (si b8) a
D1 a:=f5 (aFm C H L v a th)
ok a b:=Y a ["neighbours","came_from"] b
a_J:=dJ (f[i]?==xm)
a_K:=c8 (g (W.sub _ h))
a_L:=by rw[cb (x (aCL f) W)]
a_M:=by rw[cy (x (sW f) W)]
a_N:=fun(n:Nat)=>cJ
a_O:=eb (vx t ((g1 (13+n)).j+o))
a_P:=(OS).head?.map bp=aa c
a_Q:=(OS).getLast?.map bp=aa c
a_R:=¬gO (jH r d3)=gO xv
a_S:=fs (cr (r a) (r b)<0)
D2 a:=an ["value"] "value" a
a_T:=ce ((aFZ).findIdx? fM=ae)
a_U:=em (l+b) (J+a)
a_V:=em (b+d+1) (a+c)
a_W:=eo (l+b) (J+a)
a_X:=eo (b+d+1) (a+c)
a_Y:=dr 5 [k,q.x,q.y]
D3 b:=fw (B b (ld (a,o)))
D4 a:=(ax (tp H) (L8 (GM.at7 C a)))
a_Z:=(aa (aeB r l),aa (aeC r l))
a_0:=ds (ig x) (g2 y)
a_1:=typeOf X1=eU (.type "method_descriptor")
a_2:=L k=aa (aC A (sI xf))
ol a b:=vX a b (fun _ _ z=>MK z)
a_3:=eR (F a b) (G a b)
a_4:=K (Z++d) Yo y
D5 a:=(eC=0->∃n:UInt8,a)
a_5:=fun j x S=>?_
D6 a:=by {rw[Yx,l a,l aGA]}
a_6:=(Ja+v hi)/2
a_7:=aB0 d alC sU cE
a_8:=hu "__setattr__"=aa (aa (.builtin "object.__setattr__"))
D7 a:=bm a p.x*bm q.y p.y
om a b:=cb (Nd c2) (J (Mt p a)) b
a_9:=he (iV ic bl') p
a__:=qz Z v (ew d3)
a_':=eC AE j.1.2.1
a'a:=hN (Ye/\e.2<aJ)
D8 a:=hR (z o a (∀v,gB≠.cell v))
a'b:=fun _ _ _ e=>e
a'c:=iE ED (c+1) J
a'd:=gl (akh i) (IE row)
D9 a:=z m a (∀c,aBn c m=aa (j c))
on a b:=lq (∀w∈a5 v,a->Z v<=b)
a'e:=fE "links" X
a'f:=by injection a9 with a9 _
a'g:=by injection d' with c5 _
a'h:=PG X (gP pos) (Kx i)
a'i:=(w g-w g')*c e
a'j:=Z (T v) (dL (lD (c5 e))) 0
a'k:=dd (dt 0 (hI E)) (ie+VQ+1)
a'l:=ahP R J i t w
a'm:=iJ H (mY r t)
a'n:=oF K p.1 (dn p.1)
a'o:=DS B (e.1,e.2)
a'p:=E b (b∉B) (par b=ae)
Eq b:=z a (mg x=aa bc) b
Ev a:=by rw[bA];have:=a;exact cf this fw
a'q:=fv d5 A t h4 E s
a'r:=fun v a8 a4 p=>gJ
a's:=a (.int oP) H rm (rX (dE+1)) q
EP a:=ayd h' e it a d ab u
a't:=.ins C aO []
a'u:=iE N ec (di hh E)
EQ a:=by cases a with|some e=>{rfl}|none=>rfl
a'v:=fun J h1 e0=>?_
a'w:=le e.2++[e.1]
E0 a:=aJ (by rw[bJ (HI S)];exact Y.Lb a ag)
E1 b:=fun o d0=>f o _ (.inr d0) b
E2 a:=fun M H R=>h8 M H a
E3 a:=by have:=a;rw[bX bma (qO aQ)];exact this
a'x:=by rw[cz,wB (bU hi i0.l)]
a'y:=br i0.l d1 fw
a'z:=by induction h with|nil=>{exact s}|cons J t i=>rw[cA J i]
a'A:=fun w hw=>h w (ck hw)
a'B:=tg (Ws AG) mS d8
E4 a:=vm (fun i1 j5=>M=a)
a'C:=.Compare a [j,f] [b,c] pos
a'D:=by obtain⟨g4,g8⟩:=aXh e0 g0
a'E:=∀f∈bH J,Yq
a'F:=mV i _ (da a5)
cz a b c d:=by have a:K a3 b c:=by have:=gz (J z[0]?) d;rw[gf]
a'G:=cz dd (p.y<=r.h)
a'H:=by have⟨dx,hd⟩:=mV
a'I:=iT "min" "min"
a'J:=⟨(ag),fun t c6=>?_⟩
a'K:=pc (a1d cE x u)
a'L:=GD K mg x (kv cp)
oo a b:=aj d (bV (a++gl (akD i) (gF b)))
a'M:=pd (F0 e8 [] E0 t)
Fa a:=(f b o (b∉a8) (b≠r) (be (b1.get? b)) a)
a'N:=Iq _ _ a5i (XD _ _ aEx z1)
a'O:=Cb R K G l Y
Fg a:=i1 (aR H c1) (.bool a)
a'P:=Sf (aX7 rfl) bI ajV auS (dY aq)
op a d:=CG (e [cB,jN] tF alL a d)
oq a b:=∃F,yQ (L d=aa a) (hY<=i) b
a'Q:=∀v,aa (ajd j pB) pB
a'R:=cg (h6 (sr (all z (ck c9))))
Fk a:=km b9 (en b o a d0)
Fr a:=i aY tU (J x H Q) a
gl a b c:=i aY a (t b M H Q) (de c (fun _ c1=>pk (Q g0 L)))
a'S:=lL++[((hJ).hash F,dk (ad i))]
FB a:=fun b o e0=>by rw[aJ e a0 e0];exact a
a'T:=ce jz (dJ (ai3 b (p+2+8*i)))
a'U:=ad x (x<n) nq
a'V:=uU X.K H p d7
a'W:=fun v i3 d6 h6=>?_
a'X:=fun j x y=>aa O x/\aa d7 y
a'Y:=fun i x R S=>?_
a'Z:=fun m x c4 S=>?_
a'0:=a [] H I .nil h
a'1:=by rw[iX s (av (br e5) ag)]
a'2:=fW X.K H p d7
a'3:=(mJ x&&mJ y)
a'4:=wb (t ou Aw)
or a b:=by {refine i2 Z a;rw[fw y y];subst e y;exact b}
a'5:=by obtain⟨C,a3⟩:=g 0
FM a:=∃ar:aM,Ew/\a/\Jc
FN a:=∃vs:aM,a1 iO/\Pq/\a
a'6:=fun f W=>eW (a3.2 f W)
a'7:=bj (cj (e6 (d8.mp k)))
a'8:=by rcases b3 with b3|rfl
FO a:=∃g7∈dR Z,∃g8∈dR Z,a
a'9:=er (iM b:j+1<n)
a'_:=fn x=aa (ac (dn x))
a'':=by rw[C (aFD d0 d ?_)]
baa:=by rw[C (aFD d0 hd Yb)]
bab:=ax sl (gQ b) {o with slots:=sl}
bac:=bo (aeF r eL&&dj tN)
bae:=aJ (hw x (by simp[dt]at S⊢;exact .inr bG))
baf:=by rw[v (v o e ex.1) (fun a b9=>?_)]
bag:=wj (MB e (aa (gP E)) MC cE)
bah:=by rw[aj b5 a7F (dL (b_ a3) a9)]
bai:=bv h.b (jM b4.n)
baj:=bv h.t (jM b9.n)
bak:=by {next h=>rw[lX];simp[h]}
bal:=by rw[ae b4 (i e) (w g-w g')]
bam:=(n,.free)∈d
ban:=(x,.cell)∈d
bao:=a1 ?_ ?_ ?_
FP b:=∀(l:ao)(a:Nat),b
bap:=bp (bh (lB alz)) e.2 (g0 (cd aGd+1))
baq:=b7 (a6A Im aEG) N6 a6z
bas:=b7 (a6B Im ajK) N6 ajJ
bat:=bm (yX O) a Z
FQ a:=M (er "list" a66) (aXZ a d6)
FR a:=M (er "list" a67) (aXY a d6)
bau:=by have e1:h∉bX:=J (bv (fZ _ z) (gv et q))
bav:=by have e1:hg∉bX:=J (l4 (fZ _ z) (gv et q))
baw:=(Iy D (ga 0),jO,jG D.w)
bax:=(Iy D (gb 0),jO,hm D.h)
bay:=v vs ak (o0 p)
cA a b c d:=by have a:b<=zV:=by rw[ik c,bX sL cj];exact d
baz:=sc (J=w/\fX J c1)
baA:=sc (J=a7g/\Q (m7 ck) c1)
os a d:=bD a6Z (fun c b5 e0=>dK a r2 d)
go a b c:=by cases q:a with|true=>{rw[fF b]}|false=>rw[fF (d1 (by rw[aO c]) _ eg)]
FS b:=fun c8 O=>bi b b7 O q2
baB:=x (acP f (aC c9) (aC d1))
baC:=x (acP e5 (aC c9) (mh d1))
FT a:=wr (B c o (sm c o e) a)
FU a:=∀(pins:bw)(s:Shared)(M:St)(H:Hp)(Q:AD),cu Pg a aGG
ot a b:=S5 r (HG r a) b ⟨r.w,r.h⟩
baD:=WJ (bo (alK&&dj Jf)) tr gS
baE:=f6 _ _ f5 j2
baF:=Co tf pb D j x
baG:=Co Oy Ee D j x
FV a:=Un (uR oL) ch H L bh a
baH:=nH (ga D.h) (hm D.h)
baI:=nH (gb D.w) (jG D.w)
ou a b:=i 3 ake a (dP bb (dO (b4 awW bb))) b
gr a b c:=i 3 a (bh azi aw b) (dP bb (a7 azK bb)) c
baJ:=a1 a6C/\k=(v a6C !=0)
baK:=a1 a6D/\k=(v a6D !=0)
baL:=by rw[e Z L t hK t hK]
baM:=by rw[e Z L t (eq cV) t (eq cV)]
baN:=fun g0 L u=>j7 n Ph
baO:=fun g0 L u=>j7 bx (aS bx i)
ov d e:=∀a b,j IX OB (a≠0) (b≠0) d e
oy d e:=∀a b,j IX OB (a≠u) (b≠u) d e
baP:=(fv a.x p.x+ak'*bm a.y p.y)
baQ:=(fv b.x p.x+ak'*bm b.y p.y)
baR:=by rw[mi a7o (items_int hi)]
baS:=⟨(a9 x m).1.go t,(a9 x m).2⟩
baT:=by obtain⟨t,a⟩:=au8 a
baU:=by obtain⟨b1,a3⟩:=O.at_
baV:=by obtain⟨c2,M⟩:=d.at_
baW:=by obtain⟨e0,g0⟩:=a
FW a:=(atZ (fun i p c2=>a))
baX:=mU[R.d]::aC3 jJ
baY:=show bmb a eT from p
baZ:=j.1.2.2 p c2
ba0:=eV ri ed (bp b)
ba1:=mn iq Ov (v,b)
FX a:=(jF a).reverse.map rv
ba2:=asE n (fm (h t I_))
ba3:=k b7 (J xn b5)
ba4:=aDG (bt (yK mS m))
ba5:=P (Ip bt (n-1)) v
FZ a:=x (FN (aC a) (mh b3))
ba6:=by rw[a4 Gw];unfold readSteps;rw[Pj]
F0 a:=E H (j a H) (k H)
oB a b:=M (.Constant a j pos) (tC b)
ba7:=a1 (bx+zs.length)
ba8:=ax (ne h2) c9
oC a b:=by {rw[tH,a9 J d5 a];have E:=vR;exact b}
ba9:=fun i v=>z e aGf (v=e.2)
ba_:=by rw[a4 r1 (vQ (v a8 r q))]
ba':=ap (a5 t) (c t) y
bba:=by have e:v R.d+1=ae jJ:=by rfl
oD a b:=by {next l=>rw[bJ a];have:=eb _ m;exact b}
bbb:=(fW K H p d7\/nc d7)
bbc:=CS (ahZ (aCq alA e e))
bbd:=fun v e4 d9 d3=>?_
cD a b c d:=by have a:X≠b:=by have⟨lk,e,_⟩:=c;exact em d
bbe:=bo (v<0) (gt v cJ) (j5 a1F)
F1 a:=∀(m:Nat)(h:Ln),a
bbf:=bV (f++gF 2 0)
F3 a:=by rw[aK (akD (i+1)) (akD i) n a]
bbg:=¬(bp j).below eG=ab
bbh:=rY (.seq a1Z C)
bbi:=by rw[al (mO (cr x J) 0),l q];{have:=sY q (eW hw);grind}
F4 a:=d [] ak a_ (an a)
bbj:=ab p ?_ eg (aP b U)
bbk:=(GM.aek Z t).1 e
bbl:=by {intro p c2;simp[Lv]at c2;grind}
bbm:=U d4 d (bV e)
F5 c:=l a b (R a b) (R b a) c
bbn:=HQ w h pts aiw th
F6 a:=PC X .NotIn i o (ax_ a w ab A l)
bbo:=by obtain⟨a7,e5,i9⟩:=LE
bbp:=D uW aq nK cu
F7 a:=∀(j:Nat)x y,El->K l (j+1) y->a
bbq:=O[c0]?=ae\/d7[f7]?=ae
F8 a:=N6 _ _ e6 (Im _ _ e5 a)
bbr:=j h' D (OV) (Q .none nr)
bbs:=by rw[r le (vn Eu) (av F) EA a7i]
bbt:=bH e (A (bH iZ) e) (hw iZ) (j_<0)
F9 d:=∀a b,c (a<n) (P a) (b∈Nm a []) d (P b)
Gb d:=by rw[c dl b (gO rk) f _ rfl h3 d]
bbu:=by obtain⟨lk,q2,d⟩:=h.k
bbv:=this _ x S jR
bbw:=(a4M a4N).blt (CW ht) (ls.map ht)
Gc a:=aFj r.w r.h a Pl a7z
oE b c:=b->F3 K H O c7->cs bc c
Gd a:=P e (k<=j) W e a
Gf a:=fun b c5 q=>o2 (by rw[bW a,q];rfl)
bbx:=by intro b7 d7 b5 b9 f6
bby:=by intro e4 d7 d9 g5 e2
Gg a:=f7 "number" "number" a
oF a b:=by have a:((Expr.Name y r).pos.line==b)=ab:=a5
Gh a:=o L Au (dH L (ih a)) (r8 1)
Gl a:=e [cB,ny] alB (bh d O6) (j4 n) a
bbz:=CV (Z.ok.lt e m.1).2
bbA:=CY (bv wo (cn Ai this))
bbB:=ph (by rw[nm it,bY];obtain⟨o,e,c,d⟩:=st;exact a7r)
Gm c:=∀(a b:Nat)(h:Ln),c
Gn a:=∀(l:I1)(i:Nat)(c:I1),a
bbC:=by intro e4 ns d9 g5 e2
Go a:=by obtain⟨b6,Z⟩:∃z,z=a:=ei
bbD:=by {rw[bj (J (q (ayv z))),W m];simp[q]}
bbE:=by rw[C2 (asO d5 Y G P)]
oG a b:=fun(n,k)=>if a then(n,b)else(n,k)
oI a b:=c0 ⟨a,p⟩ _ _ ?_ b lQ
bbF:=(kv (c8 (o_ m))).foldr (· + ·) 0
bbG:=aEF _ _ _ T (fun b d0 o e=>?_)
bbH:=by rw[nS I7 (CT (W b z).1)]
bbI:=bl O K O ((hJ).is bh O (ad j))
bbJ:=fun e a x a8 m a4 d0 n=>?_
bbK:=C4 (bD a7E (fun d c8 P=>?_))
aS a b c d f:=e a b (om bS) (cj "row" c) (ci d f) kK (mr bE)
bbL:=nX (aa y) (bE t)
Gr a:=opI (fun i j _ _ _ _ _ b0 q=>a)
gt b c e:=a x e7 d X c7 I i b (a rfl c e Z (fun b7 b5 O=>?_))
bbM:=by {rw[dC,dC,pf,pf];decide}
bbN:=by obtain⟨n,j2⟩:=d1 d3
bbO:=by obtain⟨j8,l9⟩:=U.at_
bbP:=(0::gF 1 ff:aDH)
oJ a b:=∀p:Pt,bE ((a).contains p) b
bbQ:=iC (MN y)/\(jS (aBY y)\/iC (aBY y))
bbR:=["p","q","r"]
bbS:=[wW,.ref i7,b8]
bbT:=clF K (dn p.1) p.2
bbU:=oE p.1 p.1 p.2
bbV:=by refine k _ _ (wN xx) (WG a5) ?_
Gs a:=.inr (v y (bO b6) a)
bbW:=p z.1 rl z.2.2
bbX:=by injection b4 with b9 e7
bbY:=by injection b9 with g5 i2
bbZ:=show bmc<gD from hu
bb0:=by rcases c3 with c3|c3
bb1:=by rcases b6 with b6|b6
bb2:=Mod X.K mG sM
bb3:=∀d∈c7,aGj
bb4:=by obtain⟨_,o,d0,_⟩:=bmd U
oK a b:=c0 a (by delta uR;rw[Ha,W];exact b)
bb5:=by obtain⟨x,S,_⟩:=mx p pI
bb6:=by obtain⟨i,hi,_⟩:=a8 m x Z G
bb7:=z.sameBut c0 (f y c e)
bb8:=.Tuple c B T
oL a b:=f7 a _ alF (h.azD (dx:=dx) b)
cE b c d e:=CQ (a:=aO) (o:=b) (h':=c) (t':=dE) d a_ e
bb9:=by simp only[aiP,Cu]at b9
bb_:=max (v+cJ) 0
bb':=By (vn B) (hy e.1 e.2)
bca:=a6E _ (oN j.1) rfl
bcb:=fun{a}l=>g9 l b2
bcc:=by rcases mem e with⟨a3,_⟩|⟨a3,_⟩
Gt a:=eW (x (rV a U b3))
Gw a:=low a (by delta iD;lia-abstractProof)
bcd:=N.SQ (Nu iT) G H
Gz a:=ahG (i:=v) (j:=e.2) m.2.2 a
bcf:=aRF Y (ai (c (a5q q)))
bcg:=aCQ (ch (vX (hX pw rj)))
bch:=by rintro(l|⟨a7,d5⟩)
bci:=aR9 C q.2.symm q.1.symm
GA a:=auu W (fun Y i l h=>a) d1
oN a b:=yQ (SB [X] a L) (C6 L) b
bck:=aWh (bU c7 C.g)
GB a:=d6 (m:=a2E x) n2.2 (oW a)
bcl:={p with j:=p.j+1,more:=iW-1}
bcm:=putSet_of D t' hd
bcn:=hG.keys.qr (fun b o U=>kp b o (.inr U))
gw a b c:=d6.extBut _ _ a (R.extBut _ _ b c)
bco:=afe a7A bP (GJ K aq)
bcp:=GM.BR r (bp t) akM
bcq:=v z.1 (c6 _ _ rl) z.2.2
bcr:=by obtain⟨k,h9,r,h8⟩:=c;exact again r h8
oP a b:=by {rw[bD a];delta vD Xq;simp[pg b]}
bcs:=jX/\dz/\alP
oQ b c:=by have U:b=t:=by delta iD;rw[a.2];exact c
cF a b c d:=by {have a:b=j:=by{rw[a1R b1 c]at a3;exact cZ a3};exact d}
bct:=E B (k=aa B) (aiB B)
bcu:=by rw[C (aXF c9 b1 (fun b3 k sa=>?_))]
bcv:=by rw[C (aYk c9 b1 ?_)]
bcw:=U g6 z [wW,wW]
bcx:=Inv X au (aBd i pB) H c1
gx a b c:=by {rw[q];obtain⟨_,a,_⟩:=b;exact ft c}
bcy:=a1 (t (B++a6F f))
bcz:=j.cls=rn/\aj<=d
bcA:=Z (ss j) a a7B
bcB:=V l g (l.1∈pts/\l.2∈pts)
bcC:=ax (lt hu) (aP u ak)
oR a b:=an (eQ (mr a b e) (we e))
bcD:=ce ((i.endLine==a.line)=ab)
bcE:=by rw[bC i u (all v fu)]
bcF:=ch (gF 2 l.1++gF 2 l.2)
GD b:=bN (T.GU b s e c2 a0) a
bcG:=(z x xH (p i x=ab))/\P x (j<i) l x (p j x=ai)
bcH:=by rw[v cS (fun n k7=>?_)]
bcI:=bl (Ij (.builtin "min") [cB] dfl)
bcJ:=(p,w)::aBC vs
bcK:=a0 (iD f e) kE (a2x _ _)
bcL:=a0 (oT f e) g_ (a2w _ _)
oS a b:=o vs a (dD (R H) vs O) b
GE b:=fun a h=>by have:=b;rw[aQT];simp[*]
bcM:=X "answers" acF ["calls"]
GH a:=hi (l M H (jA (A M a8 a)))
bcN:=ad t (t<n) (0<=f t)
GI a:=aj lq nB a (dO nB)
bcO:=bU (wm bx oP) z1
bcP:=as (da a5) q n
bcQ:=by rw[aO n d1 (axD k i j)]
bcR:=fW ((mH MI).push (UZ C aO))
bcS:=db (e6 b U).clean
bcT:=by {rw[c0,<-a7,UQ];rfl}
GJ a:=by rw[dl t' (du (∃t',v=WX j t') a)]
bcU:=bm ak9 ak8*z.x
GK a:=by {rw[jL nO];have:=a;rw[Ht (fY (gv z.g fj))]}
oU a b:=by have i7:a=b:=by delta tq;exact bA _
bcV:=by rw[bF U J (oz p (y O (zC q)))]
bcW:=aC C (kk f y G)
cM a b c d:=by rw[ak e8 a b (by rw[jw ir,b2 Yf];exact⟨c,d⟩)]
bcX:=by rw[cb jd (v e (.inl a0) (so sd))]
bcY:=j a s (Q a s) (h4 a s)
bcZ:=by have W:=J (cO s) (Gy (o:=cO O o) c6)
bc0:=by rw[fF (fin h6 _ eg)]
bc1:=bp (tk vn) e (g0 (cd D_+1))
GL a:=oj P w H (h.push aF6) mC a
bc2:=br hd.l aly b8
bc3:=fd (k _ _ xx a5 ?_)
bc4:=k6 (be E F G)
GM a:=dj ((a).isNs CB) ((UR []:fq U6).size==0)
GN a:=by rw[fH ((hJ).pyHash r1 a fN)]
GO a:=gS (cy (show p∈a from c2) jI)
bc5:=by intro au s M H x v Q I R h
GP a:=by have b4:[e].filter a7u=a:=by simp[f5]
oV a b:=X a b ["call","numbers","row"]
bc6:=fun b u q _=>⟨u,X6⟩
bc7:=by delta HV;rw[h];simp only[at0 F,a0]
GQ a:=fun b o e5 e6 q=>a
bc8:=∀j,xc≠.dummy
bc9:=∀b6,Gla.take f_ alM≠.ok b6
bc_:=b2 "call" "numbers" "row"
GR c:=∃i L,N (Inv Jj [] (ahj M ale) L c1) (l i mD) Yl c
bc':=(NH<=100000/\∃B:eh,eB<9000/\aK pts nq)
GS b:=fr cm (m t O o b)
GU b:=i J _ dx _ hd gH b
GV b:=i x _ dx _ S gG b
oW a b:=dG a (hX pw rj)||dG b (Li r l)
bda:=q_ cM w bh q b
bdb:=by rw[(cZ a),(cZ b)]at e
bdc:=by obtain⟨_,_,_,_,o,_,_,e,_⟩:=x;exact hc
GW a:=dD (yZ u gh H) vs a
GY a:=PG X (.Tuple a7 k pos) (aqK a n t)
bdd:=by delta Gla.STEPS;simp at c1;lia
bde:=ls ((Ay).1 (a1D d3).1)
G0 a:=fun b o _ U _ e n=>a
bdf:=∀i x M H,nh->akP->be x M H aGe
bdg:=nC (j (i+1) (U e4 D (eA B))) (j (i+1) d4)
bdh:=dk iu::(b1++c7)
bdi:=k b u (U b n) q
bdj:=by rw[Pu];exact⟨u,bj e (vE k)⟩
bdk:=m1 (o z u hu)
G2 a:=by rw[cZ (zy l a) h (cy this (mv _))]
G3 a:=lG (E p (Y p) (Q fO a))
bdl:=by {rw[Eg,Eh];rw[vE h];rw[sa (aAC k)];rw[e];constructor}
bdm:=o1 (be I d0 K)
bdn:=akk n++gR t::Oh n
G6 b:=by rw[Ha,aCP,b];rw[ll (p a)]
gy a b c:=(bi (bp a).y z.y&&(bT z.y (bp b).y&&c))
bdo:=fun b o U z=>x b o (e7 (U (ar y))) z
gz a b c:=dst lR a=ct b (lA [0,0]) (aa (pa c),[0,1])
bdp:=nn (z O Yu (h.DictOfH (U1 tG) a O))
bdq:=o6 (k it bK _ st)
bdr:=ey (l+b=J+a) akC
bds:=MY (jp (kV d.1,d.2))
bdt:=d ae ae ae rfl
oX a b:=by rw[Eb];cases(a0 T a A);exact⟨b,fun _ e=>nomatch e⟩
bdu:=j b c5 (fr (.Kp c5)) (ax a (L b) (.Kp (c5++a)))
bdv:=bm q.y z.y*bm z.x p.x
oY d f:=∀a b O d7,e [bc,cV] Yp (fW K a8 b d7) d f
oZ c d:=b _ _ rfl rfl c _ rfl d
G9 a:=Iq _ _ e6 (XD _ _ c1 (Ir _ _ e5 a))
bdw:=∀v,ap akZ o rr
bdx:=(Ax).push (l3 "list_iterator" #[Ya,hz 0])
o0 a b:=av ak (er O a (ay1 n (lx (e7 t b))))
bdy:=by have g7:X0=a69:=afs c5 gg e.2
bdz:=by rw[aS b (cd 256^4) (2^32)]
bdA:=bn [gP E] e pos (ac9 b8 (Kx i))
Ha c:=∃a b:Int,∀z,c=a*z.y+b*z.x
bdB:=by obtain⟨w,n,W⟩:=ag9 a9
bdC:=by obtain⟨n,d1,a7⟩:=axD k (g1 13).i e
bdD:=oE "__init__" p.2.1 p.2.2
bdE:=oE p.2.1 (aS p) p.2.2.2
gA b c d:=∀a,i (x=bc) (∃O,b) (R c a8) d
Hb a:=by obtain⟨vs,a3,a9,e2⟩:=a
Hc a:=by obtain⟨vs,d2,q2,q3⟩:=a
bdF:=er (cw hi a:i+1<n)
bdG:=N7 N d5 (f7+1)
bdH:=N7 c2 a7 (c0+1)
bdI:=(tl cA i f).2
He a:=by refine Lb Z al (HI a).1 ?_;simp[*]
bdJ:=by {rw[cD b8 b8];exact ei}
Hf b:=by rw[j ?_ NJ b Y.Ls (v aiF Y.st akl)]
gB b c d:=by rw[w vs rfl d0 g b];obtain⟨a9,c0⟩:=c;exact d
o2 a b:=by {rw[ea a];rw[ajw,cN];rw[aj (ea (J b))];exact bF (mS (cg xq))}
gC a c d:=f x dx a c (dx≠x) (e8 (kN::(vs++b)) d (fun v b7=>v= .bC/\Q kN b7) E)
bdK:=bk ls (gN x.1/\gN x.2)
bdL:=fun(p q:Pt)=>xG
bdM:=fun c v _ q=>k c v q
bdN:=by rw[Q rfl dp _ (as (jm.t (k:=tX) c3 U))]
Hg a:=∃i j,x=hP/\y=IU/\a
bdO:=by have s:=ex (au gA) fY (i8 fY)
Hh a:=by have b4:i0 h.1 h.2=a:=by rw[ub];rw[d2,q2];grind-abstractProof
cO a b c d:=by have a:b:=fun p c2=>⟨hs (aCJ p c2) c,hs (Y.BJ p c2) d⟩
bdP:=XD _ _ D.TOi1 (Ir _ _ aEI n)
gD b c d:=a U5 agR zc ah_ b CD Hb Mv c eo d
bdQ:=fun v b7 b5 p=>iN eN
bdR:=ws (by rw[bY,a4 cr];grind)
cQ c d e f:=b T.TK ago (dp c) ls d rfl rfl (aJ e f)
Hi a:=C M H (fun o a8=>ti M a8 (fun i b7=>a))
Hj a:=ch "data" "told" "data" a
Hl a:=by rw[S g b4 aGF g (kc a b4)]
Hm a:=by rw[S sl b4 a7G sl (kc a b4)]
bdS:=f8 a66 (g5 (e0 (jF "enumerate" [e])) [])
bdT:=f8 a67 (g5 (e0 (jF "zip" XH)) [])
bdU:=b7 (b7 (a6A Ir aEG) XD a6z) Iq a5g
bdV:=b7 (b7 (a6B Ir ajK) XD ajJ) Iq D.l2TO
bdW:=by rw[fd b (J.2*J.2) J.2]
bdX:=⟨cf et fj,cU fj⟩
bdY:=by exact ft (show bA a _ from x)
Hn b:=∀(cs:bL Codec)(a:aDr cs),b
bdZ:=by obtain⟨I,m2,m3⟩:=(Xv dj f9 (v ns g5 e2))
bd0:=by have q:qB d=ab/\sy c7=ab:=DW p
bd1:=fun n k c=>rfl
bd2:=[vn z.y,vn z.x,vn num]
Ho a:=∃f:ba,a=ajQ O/\aK f (x∈Z)
gE a b c:=∀F,i (bh d tW) (hY<=a) (b) c
bd3:=by simp only[hy,fJ,aCm]at S
bd4:=auT K mg "NUMBERS" auW
bd5:=by obtain⟨_,_,_,q⟩:=c0;exact MK q
Hp a:=by have:=a;rw[am (Mi (VO h))];exact this
Hs a:=by rw[ci I.eq];rw[a7H,a]at q;exact q
bd6:=j j x (f j=aa x) (x.1=j)
bd7:=fun z a8 a4 a3=>?_
bd8:=ac (alG++[f5]) t
o3 a b:=by rw[wZ];obtain⟨b6,d3⟩:a:=e;rw[tH];exact b
bd9:=by have⟨b1,q2,_⟩:=h.s
Hu a:=ac (dv (J+2) (1+(J+1))) LP a
Hv a:=ait++(le 4 r.w++(le 4 r.h++a))
bd_:=c_ (f5.bs b o e).1
bd':=by rw[y le a7 (av (iP e5)) ?_]
bea:=ep B (bH B (dv a<dv b->OB->Pk))
beb:=hv (an (a1M ry) (Ji-ry))
cR a b c d:=by have a:b:=by rw[c];rw[cY (ik i d),l z,az]
bec:=ap i hi (si hi) e
bed:=F1 (aOr rfl) bI T.max aSZ aGi
bee:=mr g Z e=aa (g7,g8)
Hx a:=by have H:=x a (show y∈ig i by rw[L d1 zX])
HC b:=∀(i:Nat)(a:Addr),Et->b
bef:=o x (cs x) (x.1=v) (o y (cs y) (y.1=0) (hG x y))
beg:=by rw[bo (lc (eq cV)) B U Z]
HD c:=by cases q:c with|nil=>{rw[Yi]}|cons a b=>rw[q]at d1;simp only[oX]at d1;grind-abstractProof
beh:=eB (cc l6 l5) (tn (J (cO d7) l6) rv)
bei:=by have a0:A gU gU[i]:=pI
bej:=by {rw[pm s];exact as (dx a7 ag) (br e5) pF}
bek:=bF tU nL (J x O H Q) (Ij X1 (v::b1))
o4 c d:=b hd dR jA jq G rfl (cc c) d
HE a:=ww (cx (b9 _ _ (c5 _ _ (g _ _ a))))
bel:=by rw[c p O i z rfl e0 a0 q h]
HF a:=jk bb rd T.GK.h (sB ay8) a6 T.GK.b .nil fp (dY a)
bem:=by rw[wK (ap c5 (br a3) qX a_)]
HG b:=∃(a:Addr)(vs:aM),iW b alT
ben:=WZ (a:=(dk it,[])) bI (bF (bme c a (bF (a4C d0 hd (LS x.ti) ?_))))
o5 a b:=v (l9 bI g4) (Dj _ _ bI ?_ a) b
HJ a:=fun b u q n _=>Y a n
beo:=by {rw[dh pP aGv,fX l_,L dC (ax cm lQ)]}
bep:=by rw[m g6 u o h5 h1 c0]
ber:=fun h' D k=>a _ H (MD k) ?_ q
gF d e f:=by rw[Q b d U e c0,cl (lv U),sA (u dg rfl b _ (b c dg rfl b _ _ rfl f))]
gG a b c:=aeR sr aZ5 a (eb (aa b)) f c ?_ ?_
bes:=by rw[y J dx hd gH (nW dx hd)]
HK a:=by obtain⟨E,N,C⟩:=asA Y J _ a_ a d3
bet:=f8 q (cZ h) (j h)
beu:=u Iz L0 B (vn a[n]) (v (av d8) O7 (k _ rfl))
o6 c e:=by rw[ev c (b hd dR H3 yS a dx _ (j hd dR H2 GO a _ (nR hd e)))]
HM g:=C8 (a x H (a7e) m g f (db (Ef).1))
bev:=n0 rn (gB=jq ar/\a1 Mz/\iM O My)
bew:=bZ (UT×cb×cb)
o7 a b:=(ac eS (show a=b+1 by grind) k6)
gH a b c:=(l5 (jm.t (k:=LY a) c7 b) (numOf _ c))
bex:=(ab,ab,aa (aa (a4V "object.__setattr__")),p.2.map a7b)
bey:=by obtain⟨h,i,P⟩:=a0
bez:=ey (lastMarks [j,f] [b,c]=ai) auh._auto_1
beA:=p z.1 rl (aS z) z.2.2.2
HN a:=∃(k:Nat)(l6:jK),a
HO a:=by obtain⟨W,⟨c9,b2⟩,turn⟩:=a
beB:=by rcases I.ok.stk with e|⟨e,W⟩
beC:=∀z∈Z++d,z≠y->Dd (r x) (r y) (r z)=ab
beD:=ew (x.above y c (oN h))
beE:=-bm ak9 ak8*z.x
beF:=by obtain⟨j,Y,J,_,_,_⟩:=aq5 eo e
beG:=q y (ac Le (aK S) b6)
beH:=a1G lo hi 1 cJ
beI:=by simp only[a25,bmf,qM,MV]
gM c d e:=asb (a:=a) (b:=b) a3 a9 (y:=c) d e
beJ:=by simp only[bH,c_,oX]at c2⊢
HP a:=aQ6 iT N.frame T h a
beK:=ahG (i:=e.1) (j:=v) (h3 Ai) d3
beL:=aRP F (a3h sj++(aCQ Gp++a3g yL))
cU a b c d:=atA (aej Y a) b a3 c (jU ah) (jU (aeE.mp d i hi))
HQ a:=bmg (id':=a) Ej rfl dw Ej
beM:=aW8 w r e1 a7
HR a:=(hJ).keeps a d0 hd c0
beN:=kp b u Yd (c3 b u z)
beO:=bmh (name:=akE "__bool__") Z bmi ?_
beP:=wb (name:=a7a) Z bmj ?_
beQ:=GM.BO a5 B par lo
beR:=Cb.mono dj R (v I (av m2) m3)
beS:=by obtain⟨f,⟨F,q,_,_,_⟩,_⟩:=f7
o8 c d:=bmk c (fun a b h z=>h (iG z)) d
beT:=Xs D lR (aa M) e
HS a:=by simp only[a2P,fe,c_,zk];exact a
beU:=by rw[l (asa nd (bo (by rw[(al b m).1]at U;cases U)))]
o9 a b:=d a7d a b (fun p g a9 po a0=>?_)
beV:=B ((l.zipIdx k).find? (fun(x:I×Nat)=>p x.2 x.1)) (fun(x:I×Nat)=>x.2)
HT a:=by {rw[cD o d0 a];exact v o (bT d0) J}
o_ a b:=by {have:0<a:=by{rw[kD (bml h),l (a2J g g),l (hD g g)]};exact b}
beW:=J (e (F5 aFG U I5))
HV a:=by rw[C (fc i _ (fun c o e5 e6 c1 q=>a))]
HW a:=by rw[C (aXa x c0 (fun e d a0 g0=>?_) a)]
pb b c:=by rw[j 0 p.j ag (fun f7 x q=>b) c]
beX:=p.1=q.1/\iK q.2.1 (p.1.map kV)/\gP p.2 q.2.2
beY:=m (.ref Vo) b7 d0 (q _ _ N)
beZ:=ab (cv (iI x=x/\x≠0))
HX a:=by rw[w b4 nd (ar i0) (fun i b U=>d [] ?_ a (al b (bO U)).2.2)]
be0:=by rw[al (I.1.sound j b8 h)]
be1:=bN (bN (aEY d9) f9) R
be2:=by have u5:num<a5G:=by rw[L p1 (bx u0)]
be3:=by have⟨h,i,P⟩:=a0
pc a b:=o v (e.1<v) (v<e.2) (a≠b)
be4:=bv (arT F k v) pM
be5:=by obtain⟨ar,rv,e9,z1⟩:=CI b2
be6:=I x (a1 v x) nq (Z v=nk\/gw (a5 x) (dv w=Z v))
be7:=z i gX (eG=p)
be8:=z h dF (alx=x)
HZ a:=d_ 3 [ij,ih,jx,kB] a
pd a b:=fun v b7 b5 b8=>r6 (ef a (mP b))
be9:=bm z.y p.y*bm z.x q.x
pe a b:=by rw[cb (aCU l (sub l a5)) (v a (d b l a5 (ar HU)) CL)]
aV a b c e f:=I c4 a (v vs (dR d2 b) c) (v b1 (dR q2 e) f) aj9
be_:=aK "steps" ls (aK "cartoons" g [])
gN d e f:=by rw[n a7 d5 d e ⟨f,fun l3 u=>?_⟩]
be':=by rw[eS (ax1 w r e1 a7)]
H0 a:=bA i1 (Y i1) (dB eR L i1 a) (.ref i1)
bfa:=k6 (aa E F G H)
bfb:=ll FZ (ll ys (mQ aq) (mQ bS)) (ll ys (mQ aw) (mQ aq))
bfc:=v b (t (bj ne) h2) (J _ _ (n0 _ _ e2))
gO c d f:=by rw[nb e0];refine c;rw[Q (.ref fI) d (r.laid (t':=aht) (sp xh) a_ f) (q _ (ahd a_))]
bfd:=gy×gy×gy×ax
bfe:=dv (k+(j+1)) (k+1+j)
bff:=by rw[aK (Xn (k+1)) (Xn k) (z,num) o9]
bfg:=w g*c e-w g'*c e
pg a b:=by have:0<a*cR b:=x (rV id.n f6 e9)
H1 a:=bU 3 a (cY (hF bP aq) (d9 aw) (sv rp))
gP a b c:=by have a:b=j:=by rw[a1Q alv c]at a3;rw[Hj,<-a5];exact cZ a3
bfh:=ct n R.d (v n 1 t_ bmm)
bfi:=by obtain⟨os,a,e,b⟩:=id c0
H2 b:=Ii d ((Ys).update a (N3 Yk d8)) b
bfj:=by rw[aO n0 e.1 de (js C.1 C.2)]
ph a b:=fL a (v0 (∃i j,O=[hP,IU]/\mY (if b then j else i)))
H3 a:=jk bS gG a6v (ez ayR) a6 a6u .nil fp (dY a)
H4 a:=Y ["data","place"] ["data","place"] a
cY c d e f:=b _ _ rfl rfl c _ d (ax rfl e (LM f) ?_)
bfk:=bk i x (fh ls->(i<n↔NQ x.1 x.2 z<0))
H6 a:=∀(pins:bw)(s:Shared)(M:St)(H:Hp)(D:Ends),cu (t D M H) a (SP X au D)
bfl:=by rw[e1 a6G F.axY (qK F.axY a6G F.aW2 ?_ (F.aW4 _))]
bfm:=o1 (aa I d0 K Z)
bfn:=by have:min i cw<=3:=alI
bfo:=∀(p:Nat)e b,X8->e.2=cV->¬aFV
bfp:=by refine f t (hy e.1 e.2) (.inr (cx ak)) (ai rfl ?_)
bfq:=bC (b+d) y (a+c) x
bfr:=bC (b+d+y) w OL z
bfs:=bD (b+d) y (a+c) x
bft:=bD (b+d+y) w OL z
bfu:=en _ _ (nQ a l) z
bfv:=by rw[e1 Z a6H (qK a6H Z bmo ?_ (bmn _))]
H7 a:=∃O b,v=a/\zN bh O b
bfw:=by obtain⟨j,c,h,a⟩:=id L
H8 a:=by rw[fx];refine N9 (FU I d8 c4 d3 a d1 l)
bfx:=by rw[l (J ((aCw x S t Dj).keep r) g)]
pi a b:=by rw[C (ajN (aD8 a s _ _ b z (fun v h' D C T Y=>?_)))]
bfy:=Ag*g h+Ah*g h
bfz:=by have f5:alw=ve r z iZ++BR r z iZ:=by delta ve BR;rw[zx]
cZ d f g i:=by have d:dc f (t<e.2):=fun e h=>by rw[ak b c g];rcases qN c with c|c;rw[l c];{have:=wg e a;have:=i;simp_all}
bfA:=em (b+d+y+1) OL
bfB:=em (b+d+y+w+1) alj
bfC:=eo (b+d+y+1) OL
bfD:=eo (b+d+y+w+1) alj
bfE:=a.1*b.2-a.2*b.1
pj a b:=jv (sg (kv a)) (sg (aDi b))=ar l m
H_ d:=b rfl c dg rfl b _ _ d
c1 a c d e:=by have a:bH Y c:=fun b U z=>by rw[wv (aFa U)];obtain⟨g,_,⟨vs,q,_⟩,_⟩:=d;rw[b2 e q,kG]
bfF:=by have g5:=Vy (b6 e bK) (hw g bK)
bfG:=(bmp t a d pos).pos.line
bfH:=a6I (bE (f6 l.1) (f6 l.2) (f6 l.1) (f6 l.2))
bfI:=a6I (bE (he OK l.1) (he OK l.2) (he OK l.1) (he OK l.2))
bfJ:=v c o e5 e6 q
bfK:=a c m d2 q2 q3
Ia c:=by {rw[bY];have:a=b:=cZ (bmq U);rw[gm];exact d ns (Mu (bx f5)) c c6}
gQ c d e:=by have c:J.y=d->p.y<q.y->cD:=fun a b=>e
bfL:=bk F (GW H x.2.1 x.1/\RB x.2.2)
c2 a b c d:=(ai (aj uV (dN aq) a (ij T.aVj)) (bU 2 b (j6 c)) (bo (dP xA (a7 azK xA)) d))
c5 d e f g:=by rw[n e5 e6 d e ⟨br f g fw,fun c1 j5=>?_⟩]
pk c d:=by rw[Q gk _ (CQ (t':=dE) (o:=c) a7n a_ d) (q _ pQ)]
c6 a b c d:=by have e6:a<=b:=by rw[kD (mO c d)];{have:=bmr g k3;omega};rw[l g]
bfM:=by rw[fa l1 c1 (iS j7 (fun le g6 f9 j3 LE=>?_))]
bfN:=l6 "min.loop" ⟨ea I .none r,dfl⟩
bfO:=b0 au c8 M d4 _ O q3
pl a b:=by have d2:t a=8*b:=aje (ab (b0 qV cj pf pf)) _
Id a:=by {exfalso;have k:kE=a:=by{delta iD;grind-abstractProof};rw[k]at g7 ov;grind-abstractProof}
pm a b:=by {exfalso;have k:g_=a:=by{rw[I9];exact b};rw[k]at a5 ov;grind-abstractProof}
bfP:=ey (l+(b+d)=J+(a+c)) akC
bfQ:=ey (l+(b+d+y)=J+(a+c+x)) akC
bfR:=afd y j c7 _ g p a9
bfS:=by simp only[iE,di]at c;rw[c.1]
bfT:=["points","row","first","last","joined"]
bfU:=by obtain⟨v,o,d0,hd⟩:=aGl
bfV:=by obtain⟨e5,e6,c1,i0⟩:=d1 c b0
Ie a:=∀(Z d5:Row)(g:Nat),a
bfW:=by rintro⟨c,b0,d2,q2,q3⟩
aW a b c d e:=by {rw[I2];have:¬a<b:=fY (yn z c d);simp[this,rv,e]}
If a:=d (na J) CK a (fun o k6=>?_)
bfX:=aC bJ (vr C c ls X u)
bfY:=fun t l q u x=>?_
bfZ:=ce (ag2 o c cE (e0 o)=e0 o)
bf0:=by rw[ab b9 (m3 (bH ((e,g')::J))) (i e*c e+m3 (bH J))]
bf1:=db (d (cD Ef) (aV Ef) (bX Ef) (jm Ef))
pn a c:=fun v l=>a2 (e0 b) (fun u g=>a2 a c oM g) oM l
Ig a:=by {rw[bJ a];have:=Hu e m.1 m.2;simp[*]}
bf2:=by {rw[a3 x S a0];have:=a2_ S;rw[gf]}
Ih a:=by {rw[iH x S];exact v x S a}
Ii a:=by have⟨Y,n,n1,N⟩:=GM.aut a
po a b:=∀{l:ba}{m:nG},f0 F->dD F a b
bf3:=∀x:Str,a6V->D x=vP x
bf4:=by rw[l h1 g6 g6 u o Y]
bf5:=Got cM w h' aO K a7 N
bf6:=by replace z1:af6 g7 z TI TO .ellipsis fl:=z1
bf7:=arZ a3F c0 (bD Yy (fun u a4⟨x,a8,r,R,d2⟩=>a7q))
c9 a b c d:=∀(p s:Nat)e,a->b->Up c k d e.1 s
pp a b:=v N [] (sV eK a b) (eb (x<ec) (eK x) x)
Ij a:=f5 z (.type "zip") (.fields #[a,I3,.bool ai,.ref TI,.ref TO])
bf8:=by have d8:eB<=n:=by rw[dh W8 (eJ n) (aJ (a0W (lt x S))),gf]
Il b:=by rw[K _ (Ue (bl axa (cx ak))) (Ue (ns:=b) d0) (aJ tS tS)]
bf9:=l7 O (fun J c1 h'=>by obtain⟨rfl,e0⟩:=h';exact cg (R▸e0))
bf_:=C3 (aa (cs (B (dy aJ a7l) bp) (B (iU akY) (mx Ec)) (a3o j)))
pq c d:=by rw[b x _ W _ rfl c gG d (as (aY_ _ _ _ _))]
Im a:=by have h:=a;delta aDA;rw[ai8,h.1,ai6,m8 h.2];rfl
bf':=let⟨q,_,_,e0,_⟩:=p;alD
bga:=by rw[dh,pA,dh,pA,dh,pA,dh,cN]
pr b c:=ga D n (A [bc,jf] Ab (j7 b) c)
c_ b c f g:=C9 (I c2 b (d.p.sb dj s h7 c) (d.l.sb iI s h7 f) (d.m.sb jo s h7 g))
bgb:=C_ (d0 au b5 M b7 x y v u Q Y R Z q)
bgc:=ag2 e f cE tx=tx
bgd:=(share (s:=a4) g7 g8 a5)
pt a b:=(j l b7 (Ux a8 b7 l a b) (Q cB b7))
pu d e:=fun⟨a,b,c⟩=>v d e c
bge:=topFrom aFF p w N (a (i hr) (UR []) d k os)
bgf:=by rw[Hy,(aGx).1,LP,l.1,a7]
In a:=∃a7,IsEnum h e it a a7
bgg:=cn (aO8 O lo hi) c9
pv a d:=∀p O i v,b x fO (y=hP) a (su i) (AB->d)
bgh:=p z.1 rl (aS z) Ea (a2 z)
Io b:=∃(O:af)(x:V),jg/\b
bgi:=Inv (Vb E) au M H s
bgj:=PIE X au M c7 R
bgk:=a5 i M H hi p
bgl:=by simp only[n1,n2,u,y,f]
px a b:=by obtain⟨a,z1,h6,rfl,c9,_⟩:=id b
bgm:=by obtain⟨⟨a7,a0⟩,L,R⟩:=st
Ip a:=∀(N:cH)(c J:Nat),a
py a b:=by rw[oZ ag,a,hp (fy+(u+1)-fy) (u+1)]at b
bgn:=by rintro M L⟨rfl,v,rfl⟩
bgo:=aQu Y J F hw c6
bgp:=aRH N Y d (g x S) k5
bgq:=Tq X.K mG x st c5
bgr:=LK xu XI Af IY Pe
bgs:=aq2 lq lq bE (dh cI) bP
bgt:=aDS t DF h r p
bgu:=W3 (bF (aFC c9 rfl (x:= .ref TO) rfl (bF (DL c9 pS (fun g7 z1 a4=>?_)))))
bgv:=IsZip h z TI TO .none
bgw:=fn c=aa (ac (dn c))/\ClP K (dn c)/\∀f∈l,b8 (dn c) f
Iq a:=by rw[xo,dZ rfl h];cases Z;refine a;cases x<;>first|(rw[hO];rfl)|(rw[wZ];rfl)
bgx:=by {obtain⟨_,_,_,_,o,_,_,e,ex,_⟩:=eo p _ c3;exact v o e ex}
bgy:=by obtain⟨a3,b4⟩:=Xa a;rw[eA a9 (Xa b)];exact x (bms hN) (a3l a3m)
bgz:=by have e8:am (Np z b) z 0=b:=aYy (bU a0 u.g)
bgA:=l v L (cY G L) (aj d (bV (B++a6F f))) (mF akZ L)
Ir c:=i fI [fI] _ a8 (sl Pf) c (v Pm tV q)
bgB:=by rw[w (Y a5E a6J) aFG (t MW ajn) (fun j b U=>?_)]
bgC:=(bi (-v 2^63) z&&cv (z<2^63))
p0 a b:=f i j (x=hP) (y=IU) (mY a) b
w a b c d e f:=by have k1:bo (a>b) c d=e:=by rw[v8 f];{rw[aK (UW k),Hw (ew k)]};{rw[bj (bmt (aAX k)),Vz k]}
p1 a e:=j (bmu a) (afR bh a4z) (aO<=p) (gQ p=aa (a6n "list" d c)) (OV) e
Is a:=by show fv _ kz (a>>=_) _ _ _
bgD:=E h9 dy (.own y) y aGt
bgE:=fun(m:Nat)=>O[(xp+v m*1).toNat]?
It a:=by have:=Vy (by rw[kD (qN hi),l (eW (C_ g a))];simp[*]) (eW s);grind-abstractProof
bgF:=by have g9:N8 ng=Vj n 0:=by rw[<-i0];exact afC Y
u a b c e f g h:=by rw[eM (aRl (d:=Wc) (n:=aJ) (i:=a) (first:=b) (P:=P) c (ar Dk) (fun x y b6=>e) f g h)]
bgG:=by delta eV cr dir dx dy;grind-abstractProof
Iu a:=by {have:=a;simp[ic]at this q;exact cb (FO this q) (cj (ix k)) (cj (ix k.2))}
bgH:=aR L {s with heap:=h',gens:=g',drawn:=d',toks:=t'}
p2 a b:=by {rw[aK a]at G;rw[ea b];exact⟨es,fm (G _ _ (wU cm) lQ)⟩}
Iw a:=by rw[d4 j i,l (cy a h),l g]
p3 a b:=by delta W0;rw[bmv (id:=a) (n:=(b).toList) (o:="rotareti_tes".toList) Ej aW3];kernel_rfl
Ix a:=by have h2:l=rk:=by delta aFh at a5;rw[cz,a0]at a5;exact a
bgI:=by rw[Q v vs e7 f5 (aUx x)]
bgJ:=match k with|none=>o4 (Gk r)|some B=>if Wf=bX/\pb=dd then ae else o4 (Te B r)
bgK:=by rw[R d3 (bp k) p (si c3) e]
bgL:=by rw[R i0 eM de len qX]
Iy a:=Y ["drawing","before","fault"] ["drawing","before"] a
Iz b:=M (eV e (.Slice lo hi ae f6)) (tSl b b8 h8 a)
IA a:=by rw[Z c3 e2 a4 c5 (axV Y (i:=p) a)]
gR a b c:=by rw[aGk];delta NM;rw[d3 h a];{rw[aK h,b];rfl};{rw[bj h,(c).1];rfl}
p4 b c:=by rw[e b ij ih jx kB rfl (dJ Yv 2 6) c]
IB a:=aP m x (m<a->iU kI x->z i (zK x=Yc) (l e b (A a7 e) (e.2=cV) (¬aFV)))
IC a:=v (fun i _=>i<n) (fun i H x L=>L=H/\x=a) a7f
ID a:=by {rw[a];simp only[Gi U,hC];rw[iL j,aZ];{simp[q]}}
p5 a d:=∀b o,j XW a I7 gY gp d
p6 a b:=a1 a 11 (a6K r i) (a1 b 12 (a6K r i) (E (fL<Ni) 13 r.size ae))
bgM:=en _ _ h2 (kp b o h2 e2 z)
bgN:=by rw[n d3 j u rfl y u rfl]
gS a b c:=∀(d:WData)(v:Value),i a (qB d=ab) b c
gT a b c:=∀(c7:pO)(vs:aM),i a (sy c7=ab) b c
IF a:=fun i s Q E st g=>a
bgO:=by obtain⟨z,D,z1,h6⟩:=I.zero (by obtain⟨e,a0,_⟩:=b1;have:=jd;exact cn tv fj) b1
bgP:=by rw[l (J (aBL _ _ (fun h:r=b=>g ag)) e)]
bgQ:=by have g7:ca kF 0 4=bV xb:=aft b 0 4
bgR:=bH B (b≠0->I a (dK b a) IX (OB/\dv a<dv b))
bgS:=by rw[dh a5 (fun e5 a3=>ce e5 _ (.inl ⟨av ak,fun e6 a9=>?_⟩))]
bgT:=by have d5:t tL=R.d:=by rw[eS];have:=wG;exact kO
bgU:=av (k<aJ) (cs a7t (a3p (mx ((v l.1 k p pw),(v l.2 k p rj)))) dQ) ae
IG b:=∃(ar:aM)(o:Obj)(n:Nat),Ew/\pL/\vW=b/\gB=jq eT
IN c:=sz (∃a b ns d8,x=bc/\y=cV/\mI xF/\a7k/\dB c)
IO a:=by rw[wZ];cases y with|iC j=>{rw[ju a]}|_=>trivial
bgV:=a6L q lo (agF a0A) Xt ab G3
bgW:=∀b o u,fr alc->hB alc
bgX:=by rintro i m H⟨rfl,hi,p⟩
bgY:=T.BN a v b bo l w
bgZ:=T.BN b bo a v l (V1 _ _ w)
bg0:=c=2\/c=4\/c=8\/c=12
IR a:=aJ (hw x (by have:=Hs x S;have:=J.ow (t:=a) (t':=R.n) ej a_;exact pM))
bg1:=fun v d4 c8 m=>fr c8 m
Kd a:=Bu X Aa (v0 (∃p d7,O=[fO]/\a/\E l wY (Q cB (ap l d7))))
p7 a b:=Bu X rn (v0 (∃p d7,O=[fO]/\((a/\E l wY (Q cB (ad l alo)))\/(b/\Q fO H))))
bg2:=by have h6:∀n,t (bV (gF 2 n))=2:=eb bI
bg3:=by rw[aa c5 (oF B) lY c5 (B+1)]
a1 a b c d e:=B (bmw aFF a w b) (lf (bh,sO,zd,dE))=aa (c,UR [],d,e)
Kl a:=by {refine .inr a;rw[z]at b1;have:=b0 _ b1;rw[am G];exact cy (aEB this) ay}
gU a b c:=v (mO (∃O x,a/\nh)) (fun i H x L=>b) (mO (z O c (bx<=i)))
Km a:=∀(l:Addr)(Y:bg)(n:Nat)(a5:lZ),a
p8 d f:=by rw[wG (m dg _ e ⟨n,fun F b7 b5 O Z=>d2 e F b7 d eN (gV O) f⟩)]
bg4:=by rw[mg (i4 _ _ z7) (D m8 num (cx (i4 _ _ z8)) rA (f I _ _ num rfl k2 (LM (t bA u5)) ?_))]
gV a b d:=by have D:(gy xb (v H7))=a↔xb=b:=aVJ (c:=d)
bg5:=fun v d3 w hw c2=>by have:=Z.b v d3 cS w hw;unfold Uy at this;simp_all
Kn a:=fun b u q n _ _=>a
Kp b:=[kJ,ac b2,OM,aa x,aa y,v,b]
bg6:=by rintro _⟨a,b2,X,G,rfl,j,_⟩
bg7:=by {have:=jd;rw[ak (rv e) (.inr a0),I2];rw[bj (hA rv (ew et)),adX,b9]}
bg8:=(i=0/\a7x)\/(i≠0/\z c (dK c i) (dv i<=lo c))
g0 a f g:=e [jN,cB,O4] aGm a (h7 je) (i (fW K H c0 (aBT vn)) (oS<100000) f g)
p9 a b:=i 2 ajR (bh a aq bb) (dP aw alN) b
qp a b:=by rw[alJ,aGs];simp only[a3X,M9,WL,DG,a];rw[T b i,aZ,aZ]
v a b c d e f g:=mz (ln bP) (V 2 a 3 b) (ai (fb c d e) (dk (gB (dZ KC aq cu) (mh bb aq)) f) (fE (bU 1 g bb)))
Kq b:=wy (sq (CN (∃a o,x=bc/\jm b7 a y o/\Q (.bl b) b7)))
bg9:=match m9 An with|some x=>ct XF ae a60|none=>a60
bg_:=fun y b6 e=>by rw[v8 (a6E y b6 e),l (aA_ _ O5),l (aA_ _ (.inr k))]
Kr b:=match b with|some (some (.ref a))=>a|_=>0
qq a b:=match vG f with|some ⟨_,_,.func fd,_⟩=>a|_=>b
bg':=m (i+(j-i)) j j i l j i
qr e f:=by rw[c k dx c3 EC k dx (m c0 v b (d c3 e f (c2 _ ?_)))]
qs c d:=by have yD:Cf c b7 cV d (i+1):= .inr (f i z c9 (aP b U))
bha:=∃x y u v,O=Jh/\pK/\Yh/\gQ b=aa (jt #[u,v])
g1 a b c:=e akj a pH (bk "a" 4 "b" 5) (bC (V 4 akj 5 akj)) (lk (dZ b aq (as bR cI))) (bC c)
bhb:=by rw[f_ h1 h5 (O c o (S c o z) fR)]
Ks a:=v (wa r.w) (wa r.h) (mT 4 POINTS aJ=ai) (mT 4 LINES dP=ai) (mT 1 MARKS fL=ai) a
Kt d:=(∀e a x L,b d Ac bQ (L a=aa (cO x .bC)) (Gz L x rz) Pa)
bhc:=(tLc wi g c3 b8 ale)
bhd:=by have n7:oH [c7] b7:=fun a m O q=>by rw[gb c4 i4,OT];rw[m,c4]at q;rw[kG]
bhe:=fun e1 i7 i4 j8=>(k d i7 i4 nd ?_)
g2 a c d:=∃Y:bg,vl (aj a Am) (eM=i) aDL (bH Y (aj b []/\c/\d))
qw a b:=by refine bmx a (fun h' a0 L G c3=>b)
qy c d:=sJ (ayW Z (b7 a.1 a.2) (b7 b.1 b.2) (lE c).1) (ayW Z a.2 b.2 d)
bhf:=p z.1 rl (aS z) Ea (cr z) (a2 z.2)
qz a b:=ahv eA X.w X.K c7 d0 a b l
bhg:=by obtain⟨a,e,⟨O,e0⟩,q⟩:=d2
bhh:=c0 i x M _ (y O q) p
da a b c d:=bmy p a d0 b0 hd (fun h' C kp e=>fin ar B c9 h' C b c) d
Ku a:=∀{Z:Row}{g:Nat}{y:Int},a
bhi:=by rcases Sn c4 with c4|⟨a3,a9,e2⟩
qA a b:=aed Z (v:=v) I0 [] aQ a b .nil
bhj:=by rw[dh,pA,dh,pA,dh,cN]
Kv a:=by rcases(ax a)with q|q|q|q|q
bhk:=R.Ok mg P w aj (k+1) e8
bhl:=by rintro rfl⟨a,rfl,b3⟩c2 k
g3 a b c:=by rintro i z M a c9⟨rfl,⟨b,rfl⟩,c⟩
Kw a:=by rintro a⟨a4,Y,b4,len,nd,al⟩
qB a b:=aNQ a b (aWc (K:=K) rfl) bE aqN a6k
qC a b:=by obtain⟨a,i7,b8,rfl,b,I,c4,_⟩:=c0
bhm:=oG eA X.w H a f n
qD a b:=call_zip_2 ajM a (fun h' c9 f n a3 a9 G c3=>b)
bhn:=CmpOf cM w kz .Lt P bt
bho:=by rintro i M L hi⟨_,s,e,_⟩
bhp:=GM.Ta r (azm (fun a b ne=>aFd ne) O (dO.imp (ai (aZy q))))
bhq:=by unfold both run lk;rw[bmD,bmC,bmB,bmA,bmz];kernel_rfl
g4 a b c:=by {rw[a]at M l;exact axF t DF h nd r b _ c (v j M e)}
bhr:=J ((h c z).2.2.1 x c e rfl)
Ky a:=M (.Call (.Name "min" p) [e] [v (aa "default") (.Constant .none B q) kp] pos) (aYi a d6)
Kz a:=by {rw[a3 l a5 q,hW a5];exact DR a}
bhs:=by rw[a g8 h9 q2 (akF i) q2 (akF i)]
bht:=by rw[i h9 q2 (akF i) i3 g8 i4]
qE a b:=by rw[cl (aQD Y d5 C (P.nodup d5 Y G a_) W (fun x X=>P.closed d5 Y G X) a b)]
KA a:=by rw[c8 b f7];simp at e1 b;subst e1;subst b;exact a
bhu:=bD (b0 au s M H _ I h) (fun d a4 P=>?_)
bhv:=PS X (.For c7 Hg a [] pos) (aN8 wi g c3)
bhw:=z (c5 p.1 p.2) (Y p.1) (p.1≠oK) (p.1∉vM) (∀v,p.2.data≠.cell v)
db a b c d:=z a b c d (aDO=n/\GM.DInv a5 B par (ab Yg) dI/\alO/\eB<=n/\aDQ<=eB)
KB a:=by {rintro⟨l,a5,rfl⟩;rw[al a,dV,l (v (Tc l) q (by simp only[Tc];grind))]}
qF a b:=∀d e,j (cs x d) (cs y e) (iD d) (iD e) a b
bhx:=aAS c g h a d Z kV p b3 j e3 ct
dc a c d e:=(∃F k,a/\y=kV k/\c)\/∃F k b,d/\y=cV/\e
bhy:=by rw[T d6 h5 (U h5 d2 X0) m4]
bhz:=by rw[T h1 g6 (U g6 n []) k7]
bhA:=by rw[T i4 h9 (U h9 q2 (akF i)) m5]
dd a b c d:=by have TE:∀i l,agb D a i l=Co b c D i l:=fun i l=>d
bhB:=∀(w:World)(h:Heap),b w h->(K hr).In h
a2 a b c d e:=F1 (aSK (K:=K) rfl rfl) bI T.all aS1 (dY (Bz rfl a (om b) (cj c 1) (ci 1 d) kK (bC (aq1 yt yt bE aq (gi e)))))
KC b:=∀{a:Jd}{m:dM},(∀v,(x,v)∉a)->b=m x
bhC:=by {rw[bD (v (oE yD) b5 (MH ?_))];delta oC;simp only[ok];subst o;rfl}
KD b:=a d ij ih jx kB rfl (dJ aGH 1 5) b
KE a:=Y ["p","q","r"] ["p","q","r"] a
KF a:=Y ["call","numbers","row"] ["call","numbers","row"] a
bhD:=a w h (Lv w h) [(0,1),(0,2),(1,3),(2,3)] [m]
qG a b:=∀{Z:Row}{g:Nat}{e:Ln},a->b
KG b:=a b agR zc ah_ vN CD Hb Mv Mt eo Hc
a3 c d e f g:=by rw[eq b7 N (aX0 (t':=ahl) (P:=c) r (fun b u z=>d) e at_ i0 f (fun j a b3=>g))]
KH b:=by obtain⟨l,O,y,rfl,rfl,a,b,q⟩:=h
bhE:=fun c o e5 e6 c1 i0 q=>c3 c o e5 c1 i0 q
qI c e:=by rw[ev c (b hd dR gb fX a dx _ (j hd dR kC ku X rfl e))]
qJ b c:=∃o a7 e1,pL/\a1X/\gB=Pn/\lL=b/\c
de b d f h:=g h' dE (a _ _ S b6 v) (c b d k7 l9 (Io m (eB f)) (Io B (eB h))) aGg
bhF:=by have n:tK=alp++(Az++alq):=by rw[sX,hq,hq]
bhG:=by have e0:a4Y=aO:=by rw[a.1,sb.1,sa.1]
g5 c e f:=by rw[b x p ns c e B S z (d ?_ f ?_ g)]
bhH:=by {refine nT aGo (ip q);rw[cY b0,aZ,aZ]}
qK a c:=M (dL m a pos) (aOL C m e8 b E d6 c)
df d e f g:=by rw[n e0 g0 M b9 ⟨x (RM (bmE d e) f g fw),fun d0 j5=>?_⟩]
bhI:=∀c o,c (c≠z) (c≠c2) (c≠N) (gG c) (be (gQ c))
KI c:=b T.TJ agn (dp d2) g vs rfl rfl (aJ d2 c)
bhJ:=fun g6 g ls B b9 e1 b6=>gJ
qM a b:=by refine a1t (N9 (FU I d8 c4 a (nE (CA d) b) ay ay))
bhK:=by obtain⟨j,a3,a9,e2,e5,f⟩:=aO_ a0
bhL:=by obtain⟨b,i2,h7,i7,rfl,U⟩:=hB
bhM:=by rcases l with⟨c3,c4⟩|⟨c3,c,b0,a⟩
di a b c d:=by have a:b=tg (De r) ic (c):=(aRM (fun(m:Wl)=>eL) (De r) ic d)
qN a b:=by rw[Yr,CU akI];delta a3B;have e2:¬(a<cw):=by{rw[xD]};simp only[bj e2];rw[kn b r]
bhN:=bE (oY q) (p.y<q.y\/(p.y=q.y/\p.x<q.x))
qO d e:=by rw[n d0 R D g5 ⟨t cj (ap9 d e fw),fun y F=>?_⟩]
a4 c d f g h:=by have b1:c:=fun i e a0=>b O b b4 b9 e7 d (a O b b4 (en b9 f g h) e7)
bhO:=by have kp:bd a7v gY O_:=fun b o U d0=>by refine aD6 b o ?_ d0;rcases U with rfl|⟨e,a0,q⟩;{omega};{rw[gA q2 (a e a0)];rw[q]at q2;cases q2;exact V j b8}
bhP:=Walks cM w kz I a8 d n P St
KJ a:=by have sm:∀{b:Addr}{o:HO},O9->(∀d7,o≠.lst d7)->alr:=fun{b o}e n=>dR e a
bhQ:=LeftO P q3 l3 X3 (lf (YH bh)) (au gA) 10068
k a b c d e f g h:=(abN.map a,itN.map (bn b),tpN.map c,d,atN.map e,fnN.map f,meN.map g,FL.map h)
dj a b d e:=by refine aXL (s:={a4 with heap:=h'}) W a b ay d rfl e (fun c1 Y c g7 g8 a5 at_ i0 it kp=>?_)
bhR:=p z.1 rl (aS z) Ea (cr z) OC (eV z)
bhS:={strHash:=ng,shareClass:=ng,mergeTok:=id,idOf:=ng,idOfShared:=h2 0,followText:=au ab,idOfImm:=ng}
bhT:=by obtain⟨x,a8,r,r1,A,d2⟩:=P
qP a d:=∀(X:Cx),b eA P (X.w=w) fB fQ (∀(i:Nat)(pins:bw)(s:Shared)(M:St)(H:Hp)(E:aU),c aY (V b a8 (iO H)) (l i bh) a (fv (ju P w) X.A (ahk nJ) (fun J a4=>d) E s))
bhU:=[tP,rr,ac t,ae,ac p,i1,j5]
bhV:=bmF (bD a7D (fun J a4⟨v,a8,r,rv,d2⟩=>bD a6U (fun u b5⟨x,b7,Y,R,q2⟩=>wn (hi au b5 M b7 _ Y q2)))) c0
bhW:=by rcases I.SD x S with rfl|⟨e,a0,_,b4|b9⟩
KK a:=Slot.of (n:=a) (owner:="set_iterator") Yw dw dw dw (by first|rw[o8 bz]|rw[mU dw]) a7j
KM a:=by rintro rfl⟨dx,S⟩⟨f,a5,d⟩a k
KN b:=d (bv a6J) aFG ajn (fun i a b3=>let⟨ns,e,q,n⟩:=aGu;d ns e b n)
KO a:=D alV (Sf (aSM (K:=K) rfl) bI T.tuple aSW (dY (r1 bS))) a tZ
KP a:=by {have:t.2∈EB:=a;rw[am b9,aO x S (zm this),xE];exact ne x S}
KQ a:=(∃(p:Nat)(e:akH)(b:Addr),X8/\e.2=cV/\aFV)->a
d a b c d e f h i j:=by have a:b=ae:=by cases q:c with|none=>{rfl}|some o=>rw[M d e c7 (by rw[kk c4 (bmG r2)];have:=f;rw[fp h this,nj])];have:=i;rw[am j,nj]
KS a:=∀l L b9,c Au wY (aj l (b9.map cp)) a (Q cB L)
bhX:=B F L o N (cF s) O Z (gd s) rfl XR
bhY:=by obtain⟨h6,t,n2,r2,B,b9⟩:=a6m hB
KU a:=CD (V (W i m H) alE a Po (∃w:jb,(a6R)/\j x L Pw (ga tw a6P)))
bhZ:=fun c o U q=>c3 c o ak0 ak0 ak0 ak0 q
KV b:=by obtain⟨a,i7,b8,e,q,l,b,a3⟩:=z
qR a b:=g h' a (as _ S k7) (v b h6 (Io a5 (ly (v _ _ c1 f q)))) aGh
bh0:=Bz rfl IF (om cI) (cj "line" 4) (ci 4 IF) kK (bC (dh bR))
qS a b:=∀{P:cW}{vs:aM}{i:Nat}{m:dM},c P.Nodup (fh P) (A vs v) a (b=aa v)
qT c d:=by rw[b (bm _) (fG s f5) (Y a7 e) (Y b1 c4) (Np z b) aGp (t MW u) (ls (t (aYx d3) (o v d3))) (v c aF0 d)]
bh1:=by {rw[v (ay) (fun t c6=>?_),fX z];exact k t _ [0] R (cF cm) c6 ak (gd cm) Y rfl}
KW a:=by {rw[v (ay) (fun t c6=>?_),ec z];exact k t _ [1] _ (eX (cF cm)) (agx a4 (k4 (a3.live m)) c6) ak (akm cm) (a).2 rfl}
KX c:=a l b c 2 ?_ jT ay (fun b7 b5=>?_)
g6 c d e:=by have i:=c;refine aRK (R:=d) aGE (ab (J (h x) (bt (i.2 x)))) s i.1;rw[cQ e,kG]
KY e:=by rw[a2 (r _ _ hd) (s gb fX b2 (k1 (r _ _ a3)) (fun i0 i8=>d dG dj dj (gd r).p.ls (bn (jD (jC e p) p)) i8 bM))]
bh2:=by have g4:N h5 d2 X0 d2 a69:=by rw[ak,g7]
b c e f g h k n o q r s t:=by rw[ev (L c cu e (de cu)) (a hd dR f g h c5 rfl (av a3) (bv k (bi (Lx (fun l m p=>M=[kJ,aa l,m,p]/\Cf n L l o i)) bQ (ae (j<i) q r s t)) (v (m .bC ae ae (.inl xB)) eg (fun j y b8=>Ao))))]
KZ a:=by rw[xo,Q i j rfl q U_,wZ,akK];exact rule i j t t' s _ _ a
a7 c e f g i:=by rw[ev (cn c) (a hd dR e f g vs rfl (cc c0) (a a D b2 X G iO rfl h i))]
w d e f g h i j:=by {rw[n b c d e ?_];rw[f];have f7:g=h:=by{delta oC;subst c0;simp only[ok,a5J,e0];rfl};refine fF (fun c1=>?_) (fun c1=>?_);rw[l (fin i),cv (oE yD) b5 (MH j)]}
g7 c d e:=arO (O:=c5) (fun i L=>c) (s (b_ d) [] ak aB6 a7c) (fun i L _ z=>av (z.1 _ _ e)) ?_ ?_
K1 a:=fun i s Q E hi st C g=>a
bh3:=U d au a4 M a8 Q r d2
dk a b c d:=Hh a b c (a2a ak5 X.A oM a3 d5 Ey sU) d
g8 a b e:=a2C Y (cc z_ w IS) (v:=a) (fun x X e7=>bj (asM Y d5 W ahJ (e9 _ ahJ (by show x.1≠g.1;rw[e7];exact b))) (pi X)) c e i8 rfl
qU d f:=bmH (S:=fs AF) (fun{a b}q(e:a=b)=>c a d) f
bh4:=bmI q j m b J d [] (fun f vs=>PySem.call f vs)
bh5:=by obtain⟨g8,e1,t,k,u,hex,hd,_⟩:=H
qV a b:=∀(l:Addr)(x y g q:Nat),A [cB] (h7 (ii Pr)) a b
K2 b:=WalkOS q j m (fun _ h=>b) J d a run
dl a b d f:=by have a:∀(on:OG)(c:Pt),b->HH c=ab:=by rw[bZ on c];cases e:d with|none=>{simp_all}|some i=>rw[aj e];exact ae (atD Y) (v i (HI f).1 (cZ h))
bh6:=by delta W4;rw[r3 (vV d),a7s];rw[iQ];rw[C (bmL b1 ?_)];simp only[bmK,CU,iR];rw[r3 I3];cases b with|true=>{rw[L (bj (show¬((vH ab !=vH ab)=ab)from Hm)) (cg (g _ c9 (bmJ _ _)))]}|false=>rw[aK (g3 (vH ai !=vH ab) rfl)];rw[C (DL c9 AA (fun e2 e7 c8=>cg (g e2 e7 c8)))]
a8 b d e f g:=by have b:∀(on:OG)(c:Pt),i (on c=ab) (o i gX (on eG=ab) d) (HH c=ab) e:=by intro on c D f b0;rw[ak al s (x (atD Y) b0),L g Ap]
bh7:=by rw[a2 (go hd) (u kC ku X wX (ev (av (go a9)) (dX l2) (b (go hd) dR gb fX C _ _ (b rfl rfl (cx l4) dg C _ _ (b rfl rfl (cx l4) dq b2 rfl (av (go a3)) (fun d2 m4=>?_))))))]
b e f g h j k m n o p q:=by rw[a2 e (a jA jq a b2 X G r f (i le G g dQ h j (a k m (d n _ o (aJ S)) p (f8 pT) Yn q)))]
bh8:=by {rw[a7h,o3 i m hi];have:(i∈cM (Xn k)++[((z,num):alu)].map eY)↔aFY:=ar q;by_cases q2:aFY;{rw[aK q2,aK (this.mpr q2)]};{rw[cD q2 (e7 (q2 (this.mp y)))]}}
g9 b c e:=[kJ,bE D.w,bE D.h,ac Z,ac b8,ae,ae,rr,i9,b,c,e]
bh9:=by rw[a0 F a b c];exact d F (bv a) b c
K3 a:=by rw[xo];obtain⟨d,e,hd,a0,sd,p,q⟩:=h;rw[ft r1 (MT I d x v hd R)];obtain⟨bs,r2⟩:=MT I e y u a0 Z;exact a
he a b c:=by rw[wZ];cases y with|bC=>{rw[a4 Z a]}|int j=>{rw[ju b]}|str j=>{rw[ju c]}|_=>trivial
bh_:=by obtain⟨a,b,O,d7,ex,b2,c6,q⟩:=d2
x a b c d e f:=by rw[iN N_ (d6 (j+1) _ a b (gx (hn (aC n (j+1+1) Z) (aS n (j+1)) WS) (hn Ie (aC n (j+1) b8) (aS n (j+1+1)))) Z c d e f)]
a9 c d f g h:=a U5 agR zc (a aln aln agO (fun b o e S=>?_) a06 a05 a04) c d Hb Mv ua (K (v f g h) c0) (ax Hc)
qW a b:=∀p q J,j (aVu H vs p q J) (gN p) (gN q) (gN J) a b
K4 a:=fun r i h h'⟨b2,b0⟩st k=>a
bh':=p z.1 rl (aS z) Ea (cr z) OC (f4 z) (eV z.2)
hf a c d:=dD (fun(e:Int×cR)(O:bL Int)=>z b (e.2=cV) ((hJ).is a O b)) c d
dm b c f g:=by obtain⟨a,i7,b8,e,q,l,k,a3⟩:=h;exact a a i7 b8 e b c f g
K6 c:=by rw[b Am (Y a3j e) (by rw[bA];rw[jY]) (fG (il (b_ U)) c) (Y++[b]) ?_ (ar len) ?_ ?_]
qX a b:=by rcases h with(h|⟨o,h⟩)|h;rw[dQ (.inl a),dQ (eW o b),co h]
bia:=fun a b v w y n M=>s.2.2.2.1 a (lt a v) y M b w
qY a c:=C0 (a1v (h₀:=sM) a1w a (bD akR (fun b1 a4 e0=>b vs a8 r J q e0 ⟨r.Kt,c⟩)) a0 b8)
hi a b c:=by rw[hO];cases y with|bC=>{rw[a4 Z a]}|bl j=>{rw[a4 Z b]}|str j=>{rw[ju c]}|_=>trivial
bib:=["enumerate","zip","dict_itemiterator","dict_reverseitemiterator","odict_iterator","itertools.zip_longest","itertools.pairwise"].contains n
bic:=p z.1 rl (aS z) Ea (cr z) OC (f4 z) (f4 z.2) (a2 (a2 z))
hm b c d:=aqG (v:=bc) d8 b3 rfl b au s M H c I d
dn a d f g:=∀(k dx l:Addr)(v:V)(b:Gla.Bytes),e [X_,cB] (lF v) a d (C5 f->g)
qZ a c:=by rw[a7I];{rw[jW,wm (Sr eo e)];refine a;rw[<-(Vu k).adD,<-l];exact h _ rm};{rw[jW,aGw,wl (Ss eo e)];refine c;rw[ci (Vu k).adD,cQ aB5];rw[<-q,<-l];exact h _ rm}
q1 b c:=by obtain⟨b1,a3,a9,e2⟩:=j a b3;rw[cU hu b1 vs];subst hu;rw[dI a9];cases c3:vG a with|none=>{rw[mU (.inr (aW (bj (afc b3 c3 e) b)))]}|some o=>rw[gt (y a o c3)];rw[e]at b9;obtain rfl:=cZ b9;exact .inr c
K7 c:=by rw[cA (h 0 x u rfl rfl) (i (aDh c) (fun j y v a b=>h (j+1) y v a b))]
bid:=by intro j s i c c3 b8 z y b2 hR
bie:=uZ eA X.w X.K mG sM sf j R.f R.fd c5 e8
bih:=by {intro c b0;rw[iF b0];{rw[ci (al c m)];exact v (ac (bW q.2.2) (bW (J (by rw[cQ z];rw[q.1]at U;cases U))) q.1) q.2.1 q.2.2};{rw[OT];subst m;exact v (wx a5) (Xx U) a5}}
bii:=by have a9:wo (fun _ v(b:ef)=>v=cV):=v Am (av (di wO)) (by clear N i0;rw[wE Y])
q2 b c:=by rw[bD (a a D b2 X G i rfl (gd (zR c0)) b (ef (J (zR c0) cm) ?_))];delta Xe;rw[L (CR c) lQ]
bij:=by simp only[a6t,CP,bmM,show v 1>0 by decide,mJ];rw[fI h 0,di h h (sl1 h)];{rw[cD h h];exact sl0 h}
bik:=k d b7 _ R (cF eN) (gV nd) b9 (gd eN) Y rfl
bil:=∀t∈["list","tuple","set","frozenset","dict","dict_keys","dict_values","dict_items"],T≠t
q4 a b:=match a with|0=>14+8*b|1=>5|2=>11|3=>15|_=>3
bim:=em HZ (W 0 m b H) (V ak1 ((ON).stop i H) OD ((ON).go i H) (∃N:eo HZ,(ak6)/\j x L (rZ ON) (Kx j x M L (fun h b7=>R1 (tBM K "list" adq (ho o) (hF (F0 e8 [] E0 (hF (ho j))))) (agW N) h b7))))
K8 e:=by rw[c x r1 r2 xJ le _ (a _ (vn (t (akc (ch (l.2==t))))) rfl rfl q2 (sw l5) lt _ (a _ (.ref c) rfl rfl d2 (nl b0) x q9 (a r0 X c7 D t y c (dc (GM.aRC Z l5)) (a m3 e q7 Z l5 o1 j7 (fun g6 n5 n6 B g4 h3 m7=>a k _ _ l6 (bd (i6 g6 n5 n6 B g4 h3 m7)))))))]
bio:=(aAR (agF aAU) ru akW&&aAQ P akW&&aAP a6'&&aAO ru akW,a6L q3 l3 (agF aAU) X3 ab a6')
bip:=p z.1 rl (aS z) Ea (cr z) OC (f4 z) (f4 z.2) aFU (a2 (a2 z.2))
K9 a:=by obtain⟨o,e1,t,k,d0,hex,hd,T,hE,d5⟩:=a
K_ d:=∀(i:Nat)a x L(h4:VK)(N:jb),j Et OH d (wL (f a)) (f a=ae->aGC) (ga tw aGr)
La a:=∃(B:ao)(par:gn)(o path:ao)(i1 j5:jK),a
ho b d f:=by obtain⟨z,y,b,J,N,a7,e1,e,c⟩:=x;exact a z y d f N a7 e1 xI c
q5 a b:=by rw[xo];obtain⟨p,O,rfl,e0,n,G,q⟩:=h;cases Z;rw[aGz];{rw[a9 J d5 OA];refine a;rw[hp (a6N (qv x)) (a6M (qv x)),arA J G];exact q};{rw[a9 J d5 IV];refine b;rw[hp (a6N (qv x)) (a6M (qv x)),arA J G];exact q}
q6 c f:=by rw[w vs rfl d0 g c];have h6:aDl c7<=1048576:=z;obtain⟨A,a3,a9⟩:=afb c7 _ g p (fun d hd=>cn (avf hd) h6);rw[cg k (fJ A (a::A)) (ck U),aa (a::A) (fu ..) tV,g6 (h_ U) e,Z e (d vs (aUy (t (avg g) (cn (bmN c7) h6))) (m1 (bN (a3 u hu) k)) f),l (bN (a9 b m) k)]
q7 c d:=dl (aqP (s:=nr) (n:="range_iterator") f rfl rfl ay (a c H (a5_ (jx (B b o ag e)) F g4 h6 f4 f5) d xB f (db (Ef).1)))
biq:=cF 1 2 (cF 3 4 (cF 5 6 (cF 7 8 (cF 9 10 (cF 11 12 (p=13))))))
bir:=bD akR (fun b1 a4 e0=>b vs a8 r r1 d2 e0 (b0 au a4 M a8 vs b1 Q r r1 d2))
bis:=by intro i s a7 l b0 hi z hG a b9 hR
biu:=fun f7 c4=>by obtain⟨g,D,Q,l,B⟩:=c4;rw[d0]at l;rw[a4 l (a _ D Q f B)]
q8 a b:=by obtain⟨m,⟨o,a7,e1,d0,J⟩,_⟩:=id vN;obtain⟨sl,f⟩:=u.any d0 Hb a;exact b
biv:=fun i j u v K ls le hu d3 n L=>?_
c a b c e f g h j k l m:=by rw[iN aD9 (d6 (i+1) _ a b c X (aEF _ c1 e _ T xC f) (d g h j Jb) k l (fun M b1 b2 b4 b7=>hR M b1 b2 (bmO W.gtrans ((aD_ wide).then_heap xC m) b4) b7))]
Lb a:=by {refine fP;rw[XT];rintro⟨⟨l,m,p,rfl,a5⟩,s,g⟩;rw[Je];delta a;rw[axm g];rfl}
Lc a:=by have G:∀x y,c (a1 x y) (y∈B) (C1 a) (Q y) (Q x):=by rw[bZ x y];induction h with|refl=>{intros;assumption}|step e h' d6=>intro I t i;rw[lw e];refine d6 (aS m) t (e9 _ _ I (V1 _ _ (aS m.2)) (t _ (.step e h') I) (t _ h' (aS m)) i)
biw:=p z.1 rl (aS z) Ea (cr z) OC (f4 z) (f4 z.2) aFU (cr (a2 z.2)) (oA z)
bix:=∀x a L(h4:VK),c (a∈Y) (cY G L) (R L x a) (f i1 j1 (cY L j1) (L i1=ae) (b5 (j1 i1) (bV (f a))) (h4 (.ref i1) j1)) (e8 [x] L h4 E0)
biy:=@aE7 _ _ _ _ _ _ _ _ _ ?_
dp a b d e:=bmP a dx _ s _ _ _ _ b m (a6O d) (a6O c) (room e)
biz:=a ok.mod aBZ ok.glob ok.blt ok.above ok.inj ok.has ok.cab (a ok.hd ok.frames ok.stk ok.exf ok.bs ok.RV ok.aNo ok.RW ok.uS ok.FT)
biA:=by obtain⟨j,d4,O,u⟩:=q3;obtain⟨f7,c4,w⟩:=hN j d4 u;exact c f7 c4 j d4 O w
biB:=by rw[o d2 q2 (tn (cO d7) rv) (by rw[ca (av (i4 _ _ g4))];have:=fW (aFH d7) (sv (e.2-(e.1+1)) (Ca gg e9));rw[L bmR this]) (by have:=cc (cO (wu d7)) (sv i i9);unfold Gla.Plan.drawn at this;rw[<-Df]at this;exact cd g8 this) (qS (bmQ c2)) (fun J a6=>?_)]
q9 b c:=pl (as a Oz b (bj c c2.2 (fun d5 b7 b5 n2 b9=>m a7 d5 IQ b9 ⟨?_,fun l a5=>?_⟩)))
ra a d:=∀(w:World)(mg:dM)(t:Addr)(h:Heap),c (b w h) ((K hr).In h) (h.Ns CB mg) (fK d.name t) (∃fd:FuncData,(a7y)/\∀base:iL,(K hr).In aj->alH->uZ J.prog w (K hr) mg aj a k t fd c5 d)
biC:=fun e7 f5⟨i8,d6,o,a7,e1,N,S⟩en=>a i8 d6 o a7 e1 (en _ N) S
biD:=p z.1 rl (aS z) Ea (cr z) OC (f4 z) (f4 z.2) aFU (cr (a2 z.2)) (cr (eV z)) (oA z.2)
Ld a:=l au d9 M e4 y d3 u c5 a a5 r2 c9 i6
Le c:=by rcases zs with⟨c,c9,a,b,n⟩|⟨d,b,j,c9,b1,G,c0⟩
biE:=by intro i s Y c c3 hi st b2 i0 it kp hR
Lf a:=by {intro i n a L h4 N d1 s S b6 c5;rw[pN,im Pd];rw[dH (show xt<=cJ by simp)];rw[bD (fr eg ?_)];show CJ _=CJ _;rw[dW];apply aDF;rw[tY]}
rb b c:=by {intro a O c7 c0 b3 d6 u J;rw[hM];obtain⟨ar,o,n,rv,d0,b0,hd⟩:=b;rw[ft a6 (d6 ar rv)];exact aW c}
Lg c:=by rw[b _ _ rfl rfl (fh-(k+1)) c (k+1) _ (ax ?_ bB (a (((O0).sb).put aQ) (a e7 d (l2.put h8 w4 n1 n2 t4 w5) n1 n2) bB (d aGn ak (t MW p1) (fun i m hi=>?_)) (wF ((O0).lo j e ej a0))) (hH (yP h8) (bL i4 t7)))]
Li a:=by refine(bmS (prog:=eA) (w:=X.w) iv it lo a n).item i s _ _ d8 st (fun v h' D d3 f B=>?_)
hq b c e:=by refine bv lH (fo (vl (GC (fun b1 e1 j9 e8=>M=b)) (cY g6 L) (dB eR L n (B c (bo akJ))) (P x (j<i) gU x (e=ai)))) (d (a _ ae ae ae rfl) h1 (pf ak) a7p)
y c e f g i j:=by rw[d _ c a D b2 dl G (a h Z e f g i j (fun a8 y x e7 d X c7 I a4 b0 n7 Y=>?_))]
biF:=by obtain⟨D,m,kV,p,b3,j,e3,ct,z,rfl,lk,S⟩:=F.ex
Lk d:=by ({rw[a3 m c4 a6];have:=c1 m (qS c4);exact⟨j0 et,j0 fj⟩});have c7:(j1 a65 (pj i))=d:=by{delta Co;rw[bj (J (j2 (Nr z))),a5p];rfl};rw[l8 a65 (pj i)];rw[c7];obtain⟨j4,j5,l5⟩:=aEV gx d7;have m6:j4.length<=lH:=by{rw[l5.length,bA];exact cn AI bz};rw[ae l6 i3 a6_ (Gx j5),n (dp j5) n j5 (br m6 j7 fw) ?_,P c0 g6 a6_ (fG (wu d7) k7)]
Ll b:=by rw[aGD];refine aJ O (bi (∃v,M=akZ) (cY G L) (aj d (bV (B++gl (Wx i) f)))) (v ⟨ae,b1⟩ s cq) (mM (z.2.seq q));{rintro i x M L S⟨⟨v,rfl⟩,a4,b4⟩;rw[ak b3 J (oz p S),a7w];show R1 _ _ (bp akZ j (aa x)) L;rw[(bmT ..)];delta R1 tBM qt F0 rY;refine wL (c _) ⟨dp b4,wL (e _) (C x a L _ (bO b3) a4 b (fun i1 b7 b5 n2 b9=>m d i1 IQ b9 (a1 ?_ ei (gc eN))))⟩;{rw[<-cj,<-qC,dC];refine cn ?_ c9;rw[du,<-ajf f a,<-zG,<-g9];have:Y=Wx (i+1)++Y.drop (i+1):=aGc;conv=>{rhs;rw[this,zG]};simp};{rw[ak,<-qC,du,<-ajf f a,<-zG,<-g9]}};{rw[bJ L v a4 b4,c_ wF b4];exact k v L a4 b4}
biG:=by {rintro M L⟨⟨b1,e1,j9,e8,rfl⟩,s,b9,g⟩;rw[oH (zR s)];delta Xe;rw[a3R (fun j x S=>bz)];rfl}
biH:=bD (h pos au s M H _ I e0) (fun b1 a4⟨O,a8,r,J,z,q⟩=>as (bl vR z))
Lm b:=by rw[fx];refine bmU (pl:=d5) (wk EH) c6;obtain⟨x,a8,r,R,a,dx,G,ex,d0,l,q⟩:=P;rw[lW,En];refine aOz r d0 c c4 l b
biI:=by {rw[wH (¬b<Eu),b (bm _) s e c4 f F u o (v h2 aF0 i8)];rw[g9]at hw;rw[iF hw,l (e2 w m),az]}
hr c h o:=by have h8:upd L t hK n=L n:=bW (J (by rw[kl q b9,b2 Z d2];cases d2));generalize lc hK=h5 at rv b9 Z R d k9;rw[ax b U j0 j6 rv];have n9:∀m:fz,GM.Li D e m=Cg rk akJ:=bo rfl;have l0:c=ai->P x (j<i+1) gU x (h=ai):=fun W j x b8 S=>by{rw[T j i,dV,l (g j x Yj S)]};have fin:o=ab->E i3 (cY h5 i3) (nV i3 7):=fun W i3 d6=>cu (aFH d6) (ef (J (aFH d6) cm) ?_) Xe (CR ag);rw[aGy,bH h3 W k9]
}
#guard_msgs(pass all)in example:=by rw[a]at ⊢
section z
set_option tactic.hygienic true
open PySem PySem.W PyProof.Rows
namespace HX
noncomputable abbrev P:=PySem.Challenge.rw_glassrecord_s01_answers.prog
noncomputable def RG(a ok:agD->cb)(b:G2->agD->bZ (G2×agD)):i Nat G2 agD (bZ G2)|0,_,_=>ae|n+1,s,t=>fo (a t) (aa s) (match ok t with|false=>ae|true=>match b s t with|some (c1,t')=>RG a ok b n c1 t'|none=>ae)
theorem ap4{c3:gy->bZ Builtin}{p:Program}{w:World}{d:Nat}{e:ps}:∀{n:Nat}{s J:SharedT}{t:Thread},RG aAL (aAK d e) (aAI (aAJ c3) p w) n s t=aa J->topRun c3 p w d e n G3 t=aa J.abs|0,_,_,_,h=>PB|n+1,s,J,t,h=>by unfold RG at h;unfold topRun;cases a:aAL t with|true=>{rw[aj a,cG];rfl}|false=>rw[aj a];cases b:aAK d e t with|false=>{rw[m2 b]}|true=>rw[aj b];cases c:aAI (aAJ c3) p w s t with|none=>{rw[m2 c]}|some x=>obtain⟨b5,d8⟩:=x;rw[aj c,L (stepT_spec c) (ap4 h)]
noncomputable def bt:i Nat O3 BT BT|_,[],t=>t|n,o::J,t=>bt (n+1) J (t.ins n o)
noncomputable def s0(w:World)(os:OsState):G2:=a (bt 0 (ru).objs.toList .nil) (fI ru) (ru).life #[] aAN aAM os
theorem aMS(w:World)(os:OsState):(s0 w os).abs=a ru #[] aAN aAM os:=Ej
noncomputable abbrev q:Mc:=view P (dy 149 (dJ (jC ([0,14,38,43,50,57,74,91,99,113]:ao) i)))
abbrev lo:cW:=["NUMBERS"]
noncomputable abbrev Xt(s:Shared):cb:=BL q
theorem left{p q:Program}{lo:cW}{Xt:vF->cb}{I:Type}{b:vF->I}{c:oI->I}{i:agG->iL}{f:Drawn}{p3 N:Nat}{n:oI->OsState->G2}(j:∀w:oI,a1 p N (i hr) f p3)(u:∀w os,(n w os).abs=a (i hr) (UR []) f p3 os)(z1:∀w:oI,GM (i hr))(run:BM (B (s (fI (i hr)) (i hr) p w N (n w os) p) (lf (aAR (agF a0A) (i hr) agE&&aAQ p agE&&aAP G3&&aAO (i hr) agE,bgV,b G3))=aa (ab,a0z q lo,c w))):LeftO p q lo Xt b c N:=fun w=>by obtain⟨⟨h,a,d,k,os⟩,e,d3⟩:=Cv (j w);obtain⟨rfl,rfl,rfl,rfl⟩:h=i hr/\a=UR []/\d=f/\k=p3:=ax d3;obtain⟨s,J,l⟩:=Cv (run w os);obtain⟨a7,d5,l3⟩:_/\_/\_:=by{simpa only[Cu]using l};have t:bge=aa G3:=by{have J:=ap4 J;rw[u]at J;unfold topFrom;dsimp only;rw[z1,J];rw[gD (fo (aAR _ _ _&&aAQ p _&&aAP G3&&aAO _ _) _ _)];rw[a7]};unfold openEnds;rw[e];show B bge _=_;rw[t];show aa (bgV,b G3)=_;rw[d5,l3]
theorem bo(w:World):a1 P 10068 ru aAN aAM:=boot_open (p:=P) (N:=10068) Ej ay (lf bI) w
theorem z1(w:World):GM (ru):=Ej
universe HX
universe z
section z
set_option tactic.hygienic true
namespace L2
open PySem
noncomputable def inClass(s:Stmt)(j:Nat):ax:=match s with| .ClassDef _ _ _ a _ _ _ _ _ _ _=>a.getD j aL0|_=>aL0
noncomputable def ap5(s:Stmt):Arguments:=match s with| .FunctionDef _ a _ _ _ _ _ _ _ _=>a|_=>{posonlyargs:=[],args:=[],vararg:=ae,kwonlyargs:=[],kw_defaults:=[],kwarg:=ae,defaults:=[]}
noncomputable def RH(s:Stmt):uc:=match s with| .FunctionDef _ _ b _ _ _ _ _ _ _=>b|_=>[]
noncomputable def ap6(s:Stmt):Scope:=match s with| .FunctionDef _ _ _ _ _ _ a _ _ _=>a|_=>{kind:= .function,names:=[],isGenerator:=ai,isCoroutine:=ai}
universe L2
namespace GA
open PySem PySem.Spec PyProof.Rows L2
abbrev Fg:=US
noncomputable def top(i:Nat):ax:=PySem.Challenge.pw_glassrecord_s01_answers.main.body.getD i aL0
noncomputable abbrev aaX:ax:=bW 5 0
noncomputable abbrev aaY:ax:=top 6
noncomputable abbrev aaZ:ax:=top 7
noncomputable abbrev aa0:ax:=top 8
noncomputable abbrev aa1:ax:=top 9
noncomputable abbrev aa2:ax:=top 10
noncomputable abbrev aa3:ax:=top 11
noncomputable abbrev aa4:ax:=top 12
noncomputable abbrev aa5:ax:=top 13
noncomputable abbrev aa6:ax:=top 24
noncomputable abbrev aa7:ax:=top 25
noncomputable abbrev aa8:ax:=top 26
noncomputable abbrev aa9:ax:=top 27
noncomputable abbrev aa_:ax:=top 28
noncomputable abbrev aa':ax:=top 29
noncomputable abbrev aba:ax:=top 30
noncomputable abbrev abb:ax:=top 31
noncomputable abbrev abc:ax:=top 32
noncomputable abbrev abd:ax:=top 33
noncomputable abbrev abe:ax:=top 34
noncomputable abbrev abf:ax:=top 35
noncomputable abbrev abg:ax:=top 36
noncomputable abbrev abh:ax:=top 37
noncomputable abbrev abi:ax:=top 39
noncomputable abbrev abj:ax:=top 40
noncomputable abbrev abk:ax:=top 41
noncomputable abbrev abl:ax:=top 42
noncomputable abbrev abm:ax:=bW 45 0
noncomputable abbrev abn:ax:=bW 45 1
noncomputable abbrev abo:ax:=bW 45 2
noncomputable abbrev abp:ax:=bW 45 3
noncomputable abbrev abq:ax:=bW 45 4
noncomputable abbrev abr:ax:=bW 45 5
noncomputable abbrev abt:ax:=bW 45 6
noncomputable abbrev abu:ax:=top 46
noncomputable abbrev abv:ax:=bW 47 0
noncomputable abbrev abw:ax:=bW 47 1
noncomputable abbrev abx:ax:=bW 47 2
noncomputable abbrev aby:ax:=bW 47 3
noncomputable abbrev abz:ax:=top 48
noncomputable abbrev abA:ax:=top 49
noncomputable abbrev abB:ax:=top 51
noncomputable abbrev abC:ax:=top 52
noncomputable abbrev abD:ax:=top 53
noncomputable abbrev abE:ax:=top 54
noncomputable abbrev abF:ax:=top 55
noncomputable abbrev abG:ax:=top 56
noncomputable abbrev abH:ax:=top 59
noncomputable abbrev abI:ax:=top 60
noncomputable abbrev abJ:ax:=top 61
noncomputable abbrev abK:ax:=top 62
noncomputable abbrev abL:ax:=top 63
noncomputable abbrev abM:ax:=top 64
noncomputable abbrev abO:ax:=top 65
noncomputable abbrev abQ:ax:=top 66
noncomputable abbrev abR:ax:=top 67
noncomputable abbrev abS:ax:=top 68
noncomputable abbrev abT:ax:=top 69
noncomputable abbrev abU:ax:=top 70
noncomputable abbrev abV:ax:=top 71
noncomputable abbrev abW:ax:=top 72
noncomputable abbrev abX:ax:=top 73
noncomputable abbrev abY:ax:=top 82
noncomputable abbrev abZ:ax:=top 83
noncomputable abbrev ab0:ax:=top 84
noncomputable abbrev ab1:ax:=top 85
noncomputable abbrev ab2:ax:=top 86
noncomputable abbrev ab3:ax:=top 87
noncomputable abbrev ab4:ax:=top 88
noncomputable abbrev ab5:ax:=top 89
noncomputable abbrev ab6:ax:=top 90
noncomputable abbrev ab7:ax:=bW 97 0
noncomputable abbrev ab8:ax:=bW 97 1
noncomputable abbrev ab9:ax:=bW 97 2
noncomputable abbrev ab_:ax:=bW 97 3
noncomputable abbrev ab':ax:=bW 97 4
noncomputable abbrev aca:ax:=bW 97 5
noncomputable abbrev acb:ax:=bW 97 6
noncomputable abbrev acd:ax:=top 98
noncomputable abbrev ace:ax:=top 103
noncomputable abbrev acf:ax:=top 104
noncomputable abbrev acg:ax:=top 105
noncomputable abbrev ach:ax:=top 106
noncomputable abbrev aci:ax:=top 107
noncomputable abbrev acj:ax:=top 108
noncomputable abbrev ack:ax:=top 109
noncomputable abbrev acm:ax:=top 110
noncomputable abbrev acn:ax:=top 111
noncomputable abbrev aco:ax:=top 112
noncomputable abbrev acp:ax:=nR 0
noncomputable abbrev acq:ax:=nR 1
noncomputable abbrev acr:ax:=nR 2
noncomputable abbrev acs:ax:=nR 3
noncomputable abbrev acu:ax:=nR 4
noncomputable abbrev acv:ax:=nR 5
noncomputable abbrev acw:ax:=top 139
noncomputable abbrev acx:ax:=top 140
noncomputable abbrev acy:ax:=top 141
noncomputable abbrev acz:ax:=top 142
noncomputable abbrev acA:ax:=top 143
noncomputable abbrev acB:ax:=top 144
noncomputable abbrev acC:ax:=top 145
noncomputable abbrev acD:ax:=top 146
noncomputable abbrev acE:ax:=top 147
noncomputable abbrev acF:ax:=top 148
noncomputable def gT(s:PySem.W.SharedT)(a:Addr):bZ Obj:=fo (Nat.blt a s.n) ((s.tree.get a).bind PySem.W.alive) ae
theorem aMT{s:PySem.W.SharedT}{a:Addr}{o:Obj}(e:be (gT s a)):be (s.abs.heap.get? a):=by unfold gT at e;rw[PL];{rename_i l;rw[aO u g (Option.bind_eq_some_iff.mp e)];exact J (PySem.W.abs_get (Nat.blt_eq.mp l) g) e};{rw[dS]}
theorem acG{g:ef->bZ Obj}{a:Addr}{o:Obj}:∀{l:bg},be (Md a (Me (D3 (g a))))->be (g a)|[],e=>by{rw[dS]}|b::l,e=>by cases q:g b with|none=>{rw[a6 (List.filterMap_cons_none (dc q))];exact acG e}|some u=>rw[a0B (b:=(b,u)) (dc q),agH]at e;cases J:a==b with|true=>{rw[a6 J,dS,L (eq_of_beq J) q]}|false=>rw[a6 J];exact acG e
noncomputable def asN:bg:=[3,27,28,30,31,41,42,48,49,55,56,62,63,67,68,72,73,79,80,86,87,88,94,95,101,102,108,109,115,116,122,123,129,130,136,137,143,144,150,151,155,156,162,163,169,170,176,177,183,184,190,191,197,198,204,205,211,212,225,226,232,233,239,240,246,247,253,254,258,259,265,266,268,269,279,280,293,294,300,301,307,308,312,313,315,316,324,325,329,330,334,335,341,342,346,347,353,354,358,359,365,366,372,373,379,380,386,387,393,394,400,401,407,408,414,415,419,420,426,427,431,432,438,439,445,446,450,451,457,458,464,465,471,472,478,479,485,486,490,491,497,498,502,503,507,508,514,515,519,520,533,534,540,541,547,548,554,555,561,562,568,569,575,576,578,579,589,590,591,592,598,599,605,606,612,613,619,620,626,627,633,634,640,641,647,648,654,655,659,660,661,662,675,676,682,683,689,690,696,697,703,704,710,711,713,714,722,723,727,728,734,735,741,742,746,747,753,754,760,761,767,768,774,775,781,782]
noncomputable def KT(s:PySem.W.SharedT):Fg:=(asN.filterMap (D3 (gT s a)))
theorem aMV(s:PySem.W.SharedT):(KT s).In agE:=sR (aMT (acG e))
noncomputable def adr(K:Fg)(x:Str):ef:=Kr (fn x)
noncomputable def RI(K:Fg)(C:Addr)(x:Str):ef:=Kr (hu x)
noncomputable def fdOf(K:Fg)(f:Addr):UT:=qq fd Mf
noncomputable def oF(K:Fg)(q:Str)(f:Addr):bew:=qq (aa ({fd with kwdefaults:= .none,doc:= .none,pyModule:= .none,annotations:=ae,code:= .none,closureTuple:= .none},a0C K fd.code q,UU K rx)) ae
noncomputable def oE(x q:Str)(st:Stmt):bew:=aa (aAS x q (ap5 st) (RH st) DY .none .none .none .none ae .none .none,ab,ab)
noncomputable def abN:EK:=["len","range","enumerate","zip","reversed","sorted","set","list","tuple","max","min","all"]
noncomputable def itN:aO gy Int:=[("HEADER_BYTES",20),("POINT_BYTES",8),("LINE_BYTES",4),("MARK_BYTES",12),("LEAST_SIDE",16),("MOST_SIDE",1048575),("LEAST_POINTS",4),("MOST_POINTS",4096),("LEAST_LINES",4),("MOST_LINES",8192),("LEAST_MARKS",1),("MOST_MARKS",2048),("OUTSIDE",0),("FRAME_PLACE",20),("LEAD",0),("ERASE",1),("MOVE",2),("MARK",3),("DROP",4),("LEAST_LEAD",2),("MOST_LEAD",64),("MOST_STEPS",65536),("DONE",0),("NO_SUCH_THING",-2),("TOO_MANY_STEPS",-3),("NOT_TAKEN",-5),("FIRST_PLACE",16),("CALL_OPEN",1),("CALL_BARE",2),("CALL_LEAD",3),("CALL_ERASE",4),("CALL_MOVE",5),("CALL_MARK",6),("CALL_DROP",7),("CALL_UNDO",8),("CALL_REDO",9),("CALL_COUNT",10),("CALL_PLAN",11),("CALL_READ",13),("COUNT_DONE",0),("COUNT_UNDONE",1),("COUNT_PANES",2),("NO_RECORD",-9),("OUT_OF_RANGE",-1),("TOO_LONG",-6),("MOST_LENGTH",4294967295),("MOST_KIND",65535),("MOST_CARTOON_BYTES",131072),("MOST_SAVED_BYTES",67108864)]
noncomputable def tpN:aO gy aT:=[("OPENING",aIf),("RECORD_OPENING",aIg),("STEP_BYTES",[14,5,11,15,3]),("WITH_ROW",[1,3,13])]
noncomputable def fnN:aO gy ax:=[("point_place",aaY),("line_place",aaZ),("mark_place",aa0),("byte_count",aa1),("ends_of",aa2),("numbered",aa3),("in_order",aa4),("frame_alone",aa5),("number_at",aa6),("two_bytes",aa7),("four_bytes",aa8),("opening_fault",aa9),("size_fault",aa_),("header_fault",aa'),("point_at",aba),("line_at",abb),("mark_at",abc),("drawing_told",abd),("point_bytes",abe),("line_bytes",abf),("mark_bytes",abg),("cartoon_bytes",abh),("turn",abi),("lies_inside",abj),("crosses",abk),("count_left",abl),("left_to_right",abu),("panes_of",abz),("lines_between",abA),("neighbours_of",abB),("first_loose",abC),("walk_deep",abD),("first_unreached",abE),("earliest_back",abF),("first_cut",abG),("cartoon_told",abH),("judge",abI),("same_lines",abJ),("net_fault",abK),("form_fault",abL),("points_fault",abM),("lines_fault",abO),("frame_fault",abQ),("edge_stands",abR),("tangle_fault",abS),("is_tangled",abT),("ways_fault",abU),("marks_fault",abV),("first_misplaced",abW),("first_repeated",abX),("drawing_after",abY),("redrawn",abZ),("joined",ab0),("parted",ab1),("with_lead",ab2),("with_erased",ab3),("with_moved",ab4),("with_mark",ab5),("with_dropped",ab6),("refusal",acd),("saved_bytes",ace),("step_bytes",acf),("record_told",acg),("head_fault",ach),("steps_told",aci),("steps_fault",acj),("step_fault",ack),("step_size",acm),("step_at",acn),("lead_at",aco),("lengths_fit",acw),("mark_fits",acx),("in_range",acy),("mark_told",acz),("row_told",acA),("step_told",acB),("told_of",acC),("counted",acD),("with_count",acE),("answers",acF)]
noncomputable def atN:aO gy EK:=[("Drawing",anW),("Sweep",["passed","gaps","links","sides"]),("Panes",["sweep","mark_gaps"]),("Record",["cartoons","steps","done"]),("Desk",["record"])]
noncomputable def meN:aO gy aLs:=[dj "new_region" "Sweep.new_region" abn,dj "region" "Sweep.region" abo,dj "link" "Sweep.link" abp,dj "gap_at" "Sweep.gap_at" abq,dj "gaps_above" "Sweep.gaps_above" abr,dj "pass_point" "Sweep.pass_point" abt,("Panes","home","Panes.home",abw),("Panes","homes_beside","Panes.homes_beside",abx),("Panes","how_many","Panes.how_many",aby),dk "cartoon" "Record.cartoon" ab8,dk "undone" "Record.undone" ab9,dk "take" "Record.take" ab_,dk "forget_undone" "Record.forget_undone" ab',dk "undo" "Record.undo" aca,dk "redo" "Record.redo" acb,("Desk","answer","Desk.answer",acq),("Desk","begin_from_cartoon","Desk.begin_from_cartoon",acr),("Desk","begin_bare","Desk.begin_bare",acs),("Desk","begin_from_saved","Desk.begin_from_saved",acu),("Desk","begin","Desk.begin",acv)]
noncomputable def FL:aO gy (gy×ax):=[("Drawing","Drawing.__init__",aaX),("Sweep","Sweep.__init__",abm),("Panes","Panes.__init__",abv),("Record","Record.__init__",ab7),("Desk","Desk.__init__",acp)]
noncomputable def yl:bZ ps->cb|some (some (.ref _))=>ab|_=>ai
noncomputable def RJ:bZ ps->ek|some (some (.int i _))=>xm|_=>ae
noncomputable def vI:cR->ek| .int i _=>xm|_=>ae
noncomputable def RK(K:Fg)(x:Str):bZ (cR×bL ek):=match vG (dn x)with|some ⟨c,_,.seq ar _,_⟩=>aa (c,ar.toList.map vI)|_=>ae
noncomputable def nE(e:DictEntry):Int×ek×ek:=(e.hash,vI e.key,vI e.val)
noncomputable def nP(p:Int×Int):Int×ek×ek:=(hashInt p.1,aa p.1,aa p.2)
noncomputable def nmN:aO Int Int:=[(1,0),(2,6),(3,4),(4,2),(5,3),(6,5),(7,1),(8,0),(9,0),(10,1),(11,0),(12,0),(13,0)]
noncomputable def nmF(K:Fg):bZ (cR×nf×aO Int (ek×ek)×Ep):=match vG (dn "NUMBERS")with|some ⟨c,d,.dict a7 _,sl⟩=>aa (c,d,Mg nE,sl)|_=>ae
noncomputable def clF(K:Fg)(C:Addr)(l:EK):=(a0F K C Str.empty&&a0E K C&&aAT K C&&a0D K C&&UU K wX,hu "__setattr__",kv (fun f:gy=>hu f))
noncomputable def mtF(K:Fg)(C:Addr)(m q:Str):=(yl (hu m)&&a0G K (.ref Zy),oF K q Zy)
noncomputable def facts(K:Fg):=k (fun x:gy=>fn x) (RJ (fn p.1)) (bn (n0 (RK K p.1))) aKm (bn (n0 bbT)) (bn (n0 a'n)) (bn (li p.2.1 (aS p))) (bn (li "__init__" p.2.1))
noncomputable def aMZ:=k a7b (aa p.2) (bn (ab,a9h)) (ab,aMp) (bn bex) (bn (ab,bbU)) (bn (ab,bdE)) (bn (ab,bdD))
universe GA
universe z
section z
set_option tactic.hygienic true
open PySem PySem.W PyProof.Rows
namespace HX
noncomputable def fo{I:Type}(l:O3):a9b:= @List.rec Obj (au a9b) (cj (k [])) (fun o _ d6 k=> @Obj.rec (au I) (fun a b c d=>d6 (fun J=>k (d a b c d::J))) o) l
theorem ap8{I:Type}:∀(l:O3)(k:O3->I),fo l k=k l|[],_=>rfl|⟨_,_,_,_⟩::l,k=>ap8 l _
noncomputable def kp:ao->uc->uc|[],J=>J|0::l,_::J=>kp l J|(n+1)::l,a::J=>a::kp (n::l) J|_,[]=>[]
noncomputable def q2:Mc:=DK (kp [0,13,23,4,6,6,16,16,7,13] aAU)
noncomputable abbrev Xt2(s:Shared):cb:=BL q2
universe HX
universe z
section z
set_option tactic.hygienic true
open PySem PySem.W PyProof.Rows
namespace HX
noncomputable def q3:Mc:=DK (P.main.body.drop 148)
noncomputable def l3:cW:=P.main.scope.names.map fM
noncomputable abbrev X3(s:Shared):cb:=BL q3
theorem biK(w:World)(os:OsState):B (s (fI ru) (ru) P (Da ai) 10068 (s0 w os) P) (lf (fo (a0H s.n) (ch bio)))=aa a6X:=by rw[PySem.W.Fast.te10156331382660048174,PySem.W.Fast.te11892475500146522536,PySem.W.Fast.te14364793385576792824,PySem.W.Fast.te6613529449190102663,PySem.W.Fast.te4187177175401517315];kernel_rfl
universe HX
universe z
section z
set_option tactic.hygienic true
section z
namespace HX
open PySem PySem.W PyProof.Rows
noncomputable abbrev run(w:World)(os:OsState):bZ G2:=s (fI ru) (ru) P w 10068 (s0 w os) P
noncomputable def YH(h:Heap):Prop:=∃K:Frag,uh/\GA.facts K=a0I
noncomputable abbrev lk(w:World)(s:SharedT)(l:O3):=bio
noncomputable abbrev both(w:World)(os:OsState):=B (run w os) (lf (fo (a0H s.n) (lk w s),GA.facts (GA.KT s)))
theorem aM0(a:BM (u5 w)):bhQ:=by refine Mh bo aMS z1 (fun w os=>?_);obtain⟨s,J,l⟩:=Cv (a w os);rw[dN l i1 l];rw[ap8]at l;rw[dN a7 d5 l];refine Option.map_eq_some_iff.mpr (aJ s J);exact sJ a7 (sJ d5 (eq_true (av (GA.aMV s) i1)))
universe HX
universe z
universe z
section z
set_option tactic.hygienic true
namespace HX
open PySem PySem.W PyProof.Rows
noncomputable abbrev ym(b:Bool)(w:World):=Da b
theorem ra0(w:World)(os):u5 (ym ai w):=bhq
theorem ra1(w:World)(os):u5 (ym ab w):=bhq
theorem ra:BM (u5 w):=byRow2 "special-get-raises" ra0 ra1
theorem lft:bhQ:=aM0 ra
abbrev R:=PySem.Challenge.rw_glassrecord_s01_answers
theorem ws:R.wellSaid=ab:=dw
theorem co:dj (chainsOk q3) (opensWell R.prog):=dw
theorem br:R.prog.bare:=f rfl rfl rfl (bd dw)
theorem xa:z i (R.pre i=ab) (a0J i=ab):=v [.list (mD 8)] dw dw
universe HX
universe z
theorem cU{a b l J:Nat}(h:cL)(e:a_U):gL:=Nat.le_of_add_le_add_right (cn e (a0K h J))
theorem aM4{a b l J:Nat}(h:cL)(e:a_W):gL:=cU h e
theorem cf{a b c d l J:Nat}(h:cL)(i:eP)(e:bC b d a c):gL:=cU Fy e
theorem RL{a b c d l J:Nat}(h:cL)(i:eP)(e:bD b d a c):gL:=cf h i e
theorem hn{a b c d x y l J:Nat}(h:cL)(i:eP)(j:gu)(e:bfq):gL:=cf Fy j e
theorem ap9{a b c d x y l J:Nat}(h:cL)(i:eP)(j:gu)(e:bfs):gL:=hn h i j e
theorem uP{a b c d x y z w l J:Nat}(h:cL)(i:eP)(j:gu)(k:rM)(e:bfr):gL:=hn Fy j k e
theorem RM{a b c d x y z w l J:Nat}(h:cL)(i:eP)(j:gu)(k:rM)(e:bft):gL:=uP h i j k e
theorem Kl{a b c d x y z w u v l J:Nat}(h:cL)(i:eP)(j:gu)(k:rM)(m:u<=v)(e:bC (b+d+y+w) v alj u):gL:=uP Fy j k m e
theorem biL{a b c d x y z w u v l J:Nat}(h:cL)(i:eP)(j:gu)(k:rM)(m:u<=v)(e:bD (b+d+y+w) v alj u):gL:=Kl h i j k m e
theorem aN0{l J:Nat}(e:em l J):gL:=e
theorem aM5{l J:Nat}(e:eo l J):gL:=aN0 e
theorem aF1{a b:Nat}(h:cL)(e:em (b+1) a):cD:=jr _ (cn e h)
theorem biM{a b:Nat}(h:cL)(e:eo (b+1) a):cD:=aF1 h e
theorem gv{a b c d:Nat}(h:cL)(i:eP)(e:a_V):cD:=aF1 Fy e
theorem biN{a b c d:Nat}(h:cL)(i:eP)(e:a_X):cD:=gv h i e
theorem yn{a b c d x y:Nat}(h:cL)(i:eP)(j:gu)(e:bfA):cD:=gv Fy j e
theorem biO{a b c d x y:Nat}(h:cL)(i:eP)(j:gu)(e:bfC):cD:=yn h i j e
theorem aF4{a b c d x y z w:Nat}(h:cL)(i:eP)(j:gu)(k:rM)(e:bfB):cD:=yn Fy j k e
theorem biP{a b c d x y z w:Nat}(h:cL)(i:eP)(j:gu)(k:rM)(e:bfD):cD:=aF4 h i j k e
theorem aF5{a b c d x y z w u v:Nat}(h:cL)(i:eP)(j:gu)(k:rM)(m:u<=v)(e:em (b+d+y+w+v+1) (OL+z+u)):cD:=aF4 Fy j k m e
theorem biQ{a b c d x y z w u v:Nat}(h:cL)(i:eP)(j:gu)(k:rM)(m:u<=v)(e:eo (b+d+y+w+v+1) (OL+z+u)):cD:=aF5 h i j k m e
theorem aQ1{a b l J:Nat}(h:a=b)(e:bdr):l=J:=a0L (aAV (gz _ h))
theorem aQ2{a b c d l J:Nat}(h:a=b)(i:c=d)(e:bfP):l=J:=aQ1 aoM e
theorem aQ3{a b c d x y l J:Nat}(h:a=b)(i:c=d)(j:x=y)(e:bfQ):l=J:=aQ2 (a:=a+c) aoM j e
theorem rT{a b l J:Int}(h:cL)(e:a_U):gL:=Int.le_of_add_le_add_right (aAW e (Int.add_le_add_left h J))
theorem aqb{a b l J:Int}(h:cL)(e:a_W):gL:=rT h e
theorem Km{a b c d l J:Int}(h:cL)(i:eP)(e:bC b d a c):gL:=rT Q7 e
theorem FN{a b c d l J:Int}(h:cL)(i:eP)(e:bD b d a c):gL:=Km h i e
theorem rV{a b c d x y l J:Int}(h:cL)(i:eP)(j:gu)(e:bfq):gL:=Km Q7 j e
theorem acP{a b c d x y l J:Int}(h:cL)(i:eP)(j:gu)(e:bfs):gL:=rV h i j e
theorem aI4{a b c d x y z w l J:Int}(h:cL)(i:eP)(j:gu)(k:rM)(e:bfr):gL:=rV Q7 j k e
theorem biS{a b c d x y z w l J:Int}(h:cL)(i:eP)(j:gu)(k:rM)(e:bft):gL:=aI4 h i j k e
theorem aI0{l J:Int}(e:em l J):gL:=e
theorem biT{l J:Int}(e:eo l J):gL:=aI0 e
theorem aG1{a b:Int}(h:cL)(e:em (b+1) a):cD:=Int.lt_irrefl _ (aAW e h)
theorem biU{a b:Int}(h:cL)(e:eo (b+1) a):cD:=aG1 h e
theorem Kn{a b c d:Int}(h:cL)(i:eP)(e:a_V):cD:=aG1 Q7 e
theorem acR{a b c d:Int}(h:cL)(i:eP)(e:a_X):cD:=Kn h i e
theorem RN{a b c d x y:Int}(h:cL)(i:eP)(j:gu)(e:bfA):cD:=Kn Q7 j e
theorem biV{a b c d x y:Int}(h:cL)(i:eP)(j:gu)(e:bfC):cD:=RN h i j e
theorem aG4{a b c d x y z w:Int}(h:cL)(i:eP)(j:gu)(k:rM)(e:bfB):cD:=RN Q7 j k e
theorem biW{a b c d x y z w:Int}(h:cL)(i:eP)(j:gu)(k:rM)(e:bfD):cD:=aG4 h i j k e
theorem RO{a b l J:Int}(h:a=b)(e:bdr):l=J:=eO
theorem aP2{a b c d l J:Int}(h:a=b)(i:c=d)(e:bfP):l=J:=RO aoM e
theorem aP3{a b c d x y l J:Int}(h:a=b)(i:c=d)(j:x=y)(e:bfQ):l=J:=aP2 (a:=a+c) aoM j e
theorem Eq.l{a b:Nat}(h:a=b):cL:=qE h
theorem Eq.g{a b:Nat}(h:a=b):b<=a:=qE agI
theorem Eq.m{a b:Int}(h:a=b):cL:=a0M h
theorem Eq.n{a b:Int}(h:a=b):b<=a:=a0M agI
theorem aNl{a b:Nat}(h:¬cL):b+1<=a:=G4 h
theorem qp{a b:Nat}(h:¬a<b):b<=a:=za h
theorem aMl{a b:Int}(h:¬cL):b+1<=a:=Int.lt_of_not_ge h
theorem aMt{a b:Int}(h:¬a<b):b<=a:=agJ h
theorem aDe{a b:Nat}(h:a9J=ab):cL:=Int.ofNat_le.mp (Cw h)
theorem Bn{a b:Nat}(h:bT (v a) b=ab):a<b:=Int.ofNat_lt.mp (Cw h)
theorem aDf{a b:Nat}(h:¬a9J=ab):b<a:=G4 (J (h (dH (aAX z))))
theorem Bo{a b:Nat}(h:¬bT (v a) b=ab):b<=a:=za (J (h (dH (UW z))))
theorem aS(x y:Nat):x<=x-y+y:=Nat.sub_le_iff_le_add.mp a_
theorem aR{x y:Nat}(h:y<=x):x-y+y<=x:=qE (Mi h)
theorem aC{x y:Nat}(h:gu):v x<=y:=aAX h
theorem Ko(x:Nat):xt<=x:=Int.natCast_nonneg x
theorem mh{x y:Nat}(h:x<y):v x+1<=y:=UW h
theorem aW{a b:Nat}(h:cL)(n:¬a=b):a<b:=aAY h n
theorem aV{a b:Nat}(h:cL)(n:¬b=a):a<b:=aAY h (hs n)
theorem RP{I:Type}{l:ba}{k n:Nat}(h:d_<=n):t (G5 k)+t (oJ (k+1))<=n:=by rw[eS,sL];lia
theorem FO{a b c d e f:Nat}(h:a<b\/a=b/\d<e)(g:b<c\/b=c/\e<f):a<c\/a=c/\d<f:=mH (.inl (g.elim (js h) (fun g=>g.1▸h))) (g.elim (fun g=> .inl (h.1▸g)) (fun g=>eW (h.1.trans g.1) (js h.2 g.2)))
section z
theorem FP:∃e:(∀{I:Type} [eI I],(cu I)->I),∀{I:Type} [eI I](p:cu I),p (e p)->∀z,p z:=⟨bn (a0O (J (¬p z))),fun p h z=>qF (eb (a0N (p:=J (¬p z)) ⟨z,n⟩ h))⟩
noncomputable def RQ{I:Type}(_:eI I)(p:cu I):I:=agK FP p
def Kd{I:Type}(_:I)(q:Prop):Prop:=q
theorem aE1{I:Type} [o:eI I]{p:cu I}(h:Kd (RQ o p) (p (RQ o p))):∀z,p z:=aAZ FP p h
variable{A B C D E F G H I d0 K Z:Type}
noncomputable def xE2(o:eI (A×B))(p:au A B):A×B:=g5 (p z.1 z.2)
theorem aE2 [o:eI (A×B)]{p:au A B}(y:au (aoj).1 (aoj).2 (p (aoj).1 (aoj).2)):∀a b,p a b:=fs (bO (A×B) (p z.1 z.2) rK)
noncomputable def RR(o:eI apu)(p:be A B C):apu:=g5 bbW
theorem aE3 [o:eI apu]{p:be A B C}(y:au (Q8).1 (aV Q8) (Kd (Q8).2.2 (p (Q8).1 (aV Q8) (Q8).2.2))):∀a b c,p a b c:=fun a b c=>bO apu bbW (a,b,c)
noncomputable def xE4(o:eI apL)(p:aa A B C D):apL:=g5 beA
theorem aE4 [o:eI apL]{p:aa A B C D}(y:au (Fz).1 (aV Fz) (au (bU Fz) (Fz).2.2.2 (p (Fz).1 (aV Fz) (bU Fz) (Fz).2.2.2))):z2 (p a b c d):=fun a b c d=>bO apL beA (a,b,c,d)
noncomputable def xE5(o:ie E)(p:k6 (cu E)):hn E:=g5 bgh
theorem aE5 [o:ie E]{p:k6 (cu E)}(y:T yh yh yh yh (Kd (a2 (yh)) (p (yh).1 (aV yh) (bU yh) (cD yh) (a2 (yh))))):∀a b c d e,p a b c d e:=fun a b c d e=>bO (hn E) bgh (a,b,c,d,e)
noncomputable def xE6(o:ie (E×F))(p:k6 (au E F)):hn (E×F):=g5 bhf
theorem aE6 [o:ie (E×F)]{p:k6 (au E F)}(y:T rQ rQ rQ rQ (au (bX rQ) (jm rQ) (p (rQ).1 (aV rQ) (bU rQ) (cD rQ) (bX rQ) (jm rQ)))):∀a b c d e f,p a b c d e f:=fun a b c d e f=>bO (hn (E×F)) bhf (a,b,c,d,e,f)
noncomputable def xE7(o:ie apv)(p:bc4):hn apv:=g5 bhR
theorem aE7 [o:ie apv]{p:bc4}(y:T oi oi oi oi (au (bX oi) (ct oi) (Kd (eV (oi)) (p (oi).1 (aV oi) (bU oi) (cD oi) (bX oi) (ct oi) (eV (oi)))))):∀a b c d e f g,p a b c d e f g:=fun a b c d e f g=>bO (hn apv) bhR (a,b,c,d,e,f,g)
noncomputable def xE8(o:ie apM)(p:bfa):hn apM:=g5 bh'
theorem aE8 [o:ie apM]{p:bfa}(y:T lh lh lh lh (au (bX lh) (ct lh) (au (du lh) (eV (lh).2) (p (lh).1 (aV lh) (bU lh) (cD lh) (bX lh) (ct lh) (du lh) (eV (lh).2))))):∀a b c d e f g h,p a b c d e f g h:=fun a b c d e f g h=>bO (hn apM) bh' (a,b,c,d,e,f,g,h)
noncomputable def xE9(o:kw I)(p:o1 (cu I)):kn I:=g5 bic
theorem aE9 [o:kw I]{p:o1 (cu I)}(y:T jj jj jj jj (au (bX jj) (ct jj) (au (du jj) (d5 jj) (Kd (a2 (a2 (jj))) (p (jj).1 (aV jj) (bU jj) (cD jj) (bX jj) (ct jj) (du jj) (d5 jj) (a2 (a2 (jj)))))))):∀a b c d e f g h i,p a b c d e f g h i:=fun a b c d e f g h i=>bO (kn I) bic (a,b,c,d,e,f,g,h,i)
noncomputable def aqu(o:kw (I×d0))(p:a8b):kn (I×d0):=g5 bip
theorem aqv [o:kw (I×d0)]{p:a8b}(y:T hV hV hV hV (au (bX hV) (ct hV) (au (du hV) (d5 hV) (au (fp hV) (a2 (jm hV)) (p (hV).1 (aV hV) (bU hV) (cD hV) (bX hV) (ct hV) (du hV) (d5 hV) (fp hV) (a2 (jm hV))))))):∀a b c d e f g h i j,p a b c d e f g h i j:=fun a b c d e f g h i j=>bO (kn (I×d0)) bip (a,b,c,d,e,f,g,h,i,j)
noncomputable def aqw(o:kw apt)(p:bdm):kn apt:=g5 biw
theorem aqx [o:kw apt]{p:bdm}(y:T hj hj hj hj (au (bX hj) (ct hj) (au (du hj) (d5 hj) (au (fp hj) (k2 hj) (Kd a8C (p (hj).1 (aV hj) (bU hj) (cD hj) (bX hj) (ct hj) (du hj) (d5 hj) (fp hj) (k2 hj) a8C)))))):∀a b c d e f g h i j k,p a b c d e f g h i j k:=fun a b c d e f g h i j k=>bO (kn apt) biw (a,b,c,d,e,f,g,h,i,j,k)
noncomputable def aqy(o:kw apK)(p:bfm):kn apK:=g5 biD
theorem mi [o:kw apK]{p:bfm}(y:T gq gq gq gq (au (bX gq) (ct gq) (au (du gq) (d5 gq) (au (fp gq) (k2 gq) (au a76 (oA (gq).2) (p (gq).1 (aV gq) (bU gq) (cD gq) (bX gq) (ct gq) (du gq) (d5 gq) (fp gq) (k2 gq) a76 (oA (gq).2))))))):∀a b c d e f g h i j k l,p a b c d e f g h i j k l:=fun a b c d e f g h i j k l=>bO (kn apK) biD (a,b,c,d,e,f,g,h,i,j,k,l)
universe z
section z
open PySem
instance nA:eI Around:=⟨{}⟩
instance nS:eI vF:=⟨{}⟩
instance nQ:eI agG:=⟨bhS⟩
instance nW:eI oI:=nQ.elim (bn ⟨⟨h2 0,p⟩⟩)
instance nP:eI UX:=⟨alW⟩
instance nT:eI Gla.Pt:=⟨jO⟩
instance nM:eI G6:=⟨v jO 0 0⟩
instance nF:eI Mj:=⟨jO⟩
instance nE:eI Cy:=⟨.drop 0⟩
universe z
namespace L2
open PySem PySem.Spec PyProof.Rows
abbrev Key:=Sum Int Str
noncomputable def RS:dI Key cR| .inl k,v=>Value.isInt k v| .inr x,v=>Value.isStrOf x v
noncomputable def aM'(w:World):Key->Int| .inl k=>hashInt k| .inr x=>hashStr w x
theorem aNa:∀{k:Key}{v:Value},RS k v=ab->(∃i t,k=ht i/\v=QF)\/(∃x t,k=UY x/\v=aok)| .inl i,v,h=>by{rw[ck t (aA0 (k:=i) (v:=v) h)];exact .inl (ce i t e)}| .inr x,v,h=>by rw[ck t (a0P (x:=x) (v:=v) h)];exact bj x t rfl e
theorem acV(i:Int)(t:Tok):RS (.inl i) (eZ i)=ab:=P8
theorem aNb(x:Str)(t:Tok):RS (.inr x) (.str x t)=ab:=P8
theorem aNc(a b:Int):ar (ht a:Key) (ht b)=(a==b):=A_
theorem aNd(a b:Str):ar (UY a:Key) (UY b)=ar a b:=aQ
theorem aNe(a:Int)(b:Str):ar (ht a:Key) (UY b)=ai:=a82
theorem aNf(a:Str)(b:Int):ar (UY a:Key) (ht b)=ai:=a82
noncomputable def RT(prog:Program)(w:World):PySem.KeyKind cM w Key where is:=RS;hash:=aM' w;inj:=fun v a b b3 U=>by{rw[vf b3];{rw[n U j u e y u e];{rw[aKi];rw[b4]};rw[cX]};{rw[n U j u e y u e,cX];{rw[aKi];rw[b4]}}};byValue:=fun k v h=>by{rw[vf h]<;>rfl};pyHash:=fun d3 h=>by{rw[vf d3,l (wpAny_pyHash_int h),l (wpAny_pyHash_str h)]};eqBool:=fun hu d3 h=>by{rw[vf hu];{rw[bgN,gH aNc (wpAny_eqBool_int h),gH aNe (a0R i t y u _ _ _ _ h)]};{rw[bgN,gH aNf (a0Q x t j u _ _ _ _ h),gH aNd (wpAny_eqBool_str h)]}};«strs»:=fun k x t v h=>by rw[n h i u e y u e,cX];{rw[aKi,Jm,ll v]}
theorem aNg(prog:Program)(w:World)(i:Int)(t:Tok):(RT cM w).is (.inl i) (eZ i)=ab:=acV i t
theorem aNh(prog:Program)(w:World)(x:Str)(t:Tok):(RT cM w).is (.inr x) (.str x t)=ab:=aNb x t
universe L2
namespace L2
open PySem PySem.Spec PyProof.Rows
set_option genInjectivity true in inductive V where|bC|bl(b:Bool)|int(i:Int)|str(x:Str)|iC(b:fq Ml)|RU(b:UInt64)|ref(a:Addr)|ty(n:String)deriving DecidableEq
instance nV:eI V:=⟨.bC⟩
def RelV:au V cR| .bC,u=>u=Cz| .bl b,u=>u=vH b| .int i,u=>jE QF| .str x,u=>jE aok| .iC b,u=>jE (a0T b t)| .RU b,u=>jE (a0S b t)| .ref a,u=>u=dk a| .ty n,u=>u=Mm n
abbrev Vals:au af aM:=dD gP
theorem Vals.length{O:af}{b1:aM}(J:nL):bx=ly:=Mn J
theorem Vals.get{O:af}{b1:aM}{i:Nat}{x:V}(h:nL)(e:nh):z u (A b1 u) pK:=f8 h (cZ e) (j e)
theorem Vals.set{x:V}{u:Value}(J:pK){O:af}{b1:aM}(i:Nat)(h:nL):iM (O.set i x) (b1.set i u):=by induction h generalizing i with|nil=>{rw[kL]}|cons q t j=>cases i with|zero=>{rw[cA J t]}|succ i=>rw[cA q (j i)]
theorem Vals.append{O d7:af}{b1 ws:aM}(h:nL)(s:iM d7 ws):iM (O++d7) (b1++ws):=a'z
theorem Vals.take{O:af}{b1:aM}(n:Nat)(h:nL):iM (O.take n) (b1.take n):=by induction h generalizing n with|nil=>{rw[a0U,a0U];exact .nil}|cons J t j=>cases n with|zero=>{rw[kL]}|succ n=>rw[cA J (j n)]
theorem Vals.drop:∀{O:af}{b1:aM}(n:Nat),nL->iM (G7 n) (b1.drop n)|_,_,0,J=>J|_,_,_+1,.nil=> .nil|_,_,n+1,.cons _ t=>Vals.drop n t
def rW:au jK ps|some v,some u=>jh|none,none=>gA|_,_=>cD
def KV{c:Type}:au hT Fm:=dD (fun(p:c×V)(q:c×cR)=>p.1=q.1/\gP p.2 q.2)
noncomputable def kV:Key->V| .inl i=>hP| .inr x=>Jn
set_option genInjectivity true in inductive HO where|lst(O:af)|tup(O:af)|dK(F:gs)|dT(F:uw)|set(r:Int->cb)(n:Nat)|ins(C dx:Addr)(G:hU)|own(x:Addr)|xd(G:hU)|met(f x:Addr)|rng(lo hi:Int)|yo(o:Obj)(u:HO)|Kp(c5:dU)|ext(i:cu iL)
instance nH:eI HO:=⟨al4⟩
abbrev Hp:=ef->bZ HO
noncomputable def upd(H:Hp)(a:Addr)(o:HO):Hp:=h8 (av (b=a) o (H b))
theorem ak{H:Hp}{a:Addr}{o:HO}:be (upd H a o a):=by delta upd;rw[cN]
theorem bW{H:Hp}{a b:Addr}{o:HO}(h:b≠a):upd H a o b=H b:=by delta upd;rw[aO h]
theorem yp{H:Hp}{a:Addr}{o u:HO}:upd Qq a u=ad a u:=by funext b;delta upd;split<;>rfl
theorem qq{H:Hp}{a b:Addr}{o u:HO}(h:YY)(h':fr u)(d:o≠u):AF:=fk
theorem fm{H:Hp}{a b:Addr}{o:HO}(h:YY)(h':gp):AF:=fk
section z
variable(P:Program)(w:World)
def oj(H:Hp)(h:Heap)(a:Addr):cu HO| .lst O=>Jc/\BN (Ew/\bA a JT)| .tup O=>Jc/\∃ar:aM,Ew/\Mo h a eT| .dK F=>nn apH| .dT F=>nn (∃O:J2,dD (fun(p:bL Key×V)(q:bL Key×ef×cR)=>beX) F O/\qJ (G8 (entryOfKey (U1 tG))) (c7 (G8 fM)))| .set r n=>h.SetOf (aA1 P w) a r n| .ins C dx G=>z (bh dx YK) (U0<=1000) (dx≠a) (bA a (UZ C dx)) (I j (agL dx j) (∀f,aJl) a83)| .own _=>∃o,pL| .xd G=>z j (agL a j) (∀f,aJl)| .rng lo hi=>∃t u v,bA a (l3 "range" a6T)| .yo o u=>pL/\oj H h a u| .Kp c5=>bA a {cls:= .none,data:= .fields c5}| .met f x=>bA a (PySem.W.methodObj rx kN)| .ext i=>i h/\(∃o,pL)/\∀a3 a9:iL,i a3->ad o (be (a3.get? a)) (be (a9.get? a))->i a9
def Bp(H:Hp)(h:Heap):Prop:=j a o YY (g8 o)
universe z
section z
variable{P:Program}{w:World}{H L:Hp}{h h':Heap}{a:Addr}{o:HO}
theorem oj.lt(x:g8 o):a<mC:=by revert x;revert P w H h a o;refine aaW;rw[n P w H h a o];intro x;cases o with|lst O=>{obtain⟨_,_,_,_,e⟩:=x;exact hc}|tup O=>{obtain⟨_,_,_,p⟩:=x;exact p.lt}|dK F=>{rw[bdc]}|dT F=>{rw[bdc]}|set r n=>{obtain⟨o,_,_,_,e,_⟩:=x;exact hc}|ins C dx G=>{obtain⟨_,_,_,e,_⟩:=x;exact hc}|own y=>{rw[sa x];exact hc}|xd G=>{obtain⟨_,⟨_,_,_,e,_⟩,_⟩:=x;exact hc}|rng lo hi=>{obtain⟨_,_,_,e⟩:=x;exact hc}|yo N u=>{obtain⟨e,_⟩:=x;exact hc}|Kp c5=>{rw[bdY]}|met f y=>{rw[bdY]}|ext i=>obtain⟨_,⟨_,e⟩,_⟩:=x;exact hc
theorem Paired.aqz{I d:Type}{F G:qk}{c:ba}{e:nG}(h:dD F c e)(f:a_3):dD G c e:=by induction h with|nil=>{rw[kL]}|cons J t i=>rw[cA (f _ _ J) i]
theorem oj.qr(x:g8 o)(k:lv (b=a\/fr YK) (zb b))(d0:E b (fr YK) (hB YK))(c6:aLU):oj P w L h' a o:=by induction o with|lst O=>{rw[X ar n J e x];exact a z ar n J xI}|tup O=>{rw[j z ar J N e c x (c z ar J N xI c)]}|dK F=>{rw[ho vs vs J]}|dT F=>{rw[ho O O (Paired.aqz J (fun p q z=>bcq))]}|set r n=>{rw[j N a7 e1 t e c x (c N a7 e1 t xI c)]}|ins C dx G=>{obtain⟨d,z,ne,e,j,⟨m,a7,e1,b9,c⟩,J⟩:=x;exact a (d0 _ d) z ne xI j (a m a7 e1 (ax (.inr d) b9) c) J}|own y=>{rw[ck N x];exact⟨N,xI⟩}|xd G=>{obtain⟨j,⟨m,a7,e1,e,c⟩,J⟩:=x;exact v j (a m a7 e1 xI c) J}|rng lo hi=>{obtain⟨t,u,v,e⟩:=x;exact d t u v xI}|yo N u d6=>{rw[dZ e x];exact⟨xI,d6 q⟩}|Kp c5=>{exact k a _ gj x}|met f y=>{exact k a _ gj x}|ext i=>obtain⟨p,⟨o,e⟩,st⟩:=x;exact v (st _ _ p (ly (ax gj q))) (np xI) st
theorem Bp.lt(x:la)(e:YY):a<mC:=(x a o e).lt
theorem Bp.fresh(x:la)(e:mC<=a):Y a:=by cases q:H a with|none=>{rfl}|some u=>rw[dQ (fH (x.lt q) e) (jr _)]
theorem Bp.kept(x:la)(k:anf):ff H h':=fun a o e=>(x a o e).qr (fun b u _ q=>X6) aGo (ip q)
theorem Bp.laid(x:la)(k:anf)(c2:mC<=a)(a6:oj P w Qq h' a o):ff Qq h':=sp (by have d1:=x.fresh c2;rw[N U b a];{subst U;rw[a6 ak,dS];exact a6};{rw[a6 (bW U)];exact(x b u e).qr bdM (fun c q=>QD) (zL QD)})
universe z
def Rd(H:Hp)(a:Addr)(u:HO):Prop:=cw u\/∃o,cw alc
theorem Rd.ok{P:Program}{w:World}{H:Hp}{h:Heap}{a:Addr}{u:HO}(J:kz u)(x:la):g8 u:=by rcases J with J|⟨o,J⟩;rw[l (x a u J)];{obtain⟨_,q⟩:=x a _ J;exact q}
def uQ:cu (bZ HO)|some (.lst _)=>gA|some (.dK _)=>gA|some (.dT _)=>gA|some (.set _ _)=>gA|some (.ins _ _ _)=>gA|some (.ext _)=>gA|_=>cD
section z
variable{P:Program}{w:World}{H:Hp}{h h':Heap}{x e:Addr}{g:HO}
theorem Bp.write(ok:la)(h8:aGS)(a0:aLu)(k:lv (b≠e) (zb b))(a:aLS)(a6:oj P w (ad x g) h' x g):ff (ad x g) h':=qw (by have d:j c y (bh c (.own y)) (c≠x):=fun c y J z=>BC J;rw[N U b x];{subst U;rw[cQ ak,kG];exact a6};{rw[cQ (bW U),N f b e];{rw[mm c4 (fr DZ)];rw[q]at c4;cases c4;obtain⟨v,d3⟩:=a;exact rX v};{refine(ok b u q).qr (fun c v b0 J=>k c v ?_ J) (fun c J=>Y (d c b J) J) (fun c O J=>Y ((fun c O J z=>BC J) c O J) J);rw[db b0 b0,cX,cK]}})
universe z
structure Un(G ex:bg)(H L:Hp)(h h':Heap):Prop where
 keep:∀b o,c md gp (b∉G) Y3 ha
 slot:∀b o,c md gp (b∈G) Y3 bab
 free:f b o md gp Y3 IM
 there:bd md Y3 (ax g (gQ b) g)
 Kq:aLU
 FQ:bgW
 Kr:bdu
section z
variable{G b ex d:bg}{H a8 b7:Hp}{h a3 a9 h':Heap}{a x e:Addr}{o:HO}
theorem Un.any(u:jt a8 a3){b:Addr}{N:Obj}(q:bA b N)(n:gp)(S:Y3):ax sl (a3.get? b) {N with slots:=sl}:=by by_cases U:b∈G;rw[l (u.slot b N q n U S),l ⟨N.slots,u.keep b N q n U S⟩]
theorem Un.kept(k:anf):jt H h':=a (Dj (k b N q)) (Dj ⟨N.slots,k b N q⟩) (fun _ _ _ n _=>n) (fun b N q _=>⟨N,k b N q⟩) (ip q) (fun _ _ _ q=>q) (fun _ c5 q=>o2 bB)
theorem Un.refl:jt H h:=agM (ip q)
theorem Un.laid(k:anf)(c2:mC<=a)(d1:Y a):jt Qq h' where keep:=wp X6;slot:=a8O;free:=HJ (g9 (ft q) c2);there:=bc6;Kq:=x1 QD;FQ:=yu QD;Kr:=Gf (fm q d1)
theorem Un.write(h8:aGS)(a0:aLu)(k:lv (b≠e) (zb b))(a:aLS):jt (ad x o) h':=by have S:E b gp (b≠x):=fun b n z=>BC n;have U:E b gp (b≠e):=fun b n z=>ah;have c4:l b u (fr u) (¬uQ (aa u)) (b≠x):=fun b u q d1 z=>ah;rw[j (Kn bdi) (Kn ⟨a0V,bdi⟩) (HJ (S b n)) (fun b u q _=>?_) (v (x1 (Y aL2 q)) (yu (Y aL2 q)) (Gf aL2)),N f b e,l IK,aZ]
universe z
noncomputable def trk(h:Heap)(H:Hp):bg:=dy mC (fw (dj (H a)))
noncomputable def acY(h:Heap)(H:Hp):iL:=PySem.W.hideAll h (trk h H)
theorem aNi(h:Heap)(H:Hp):fI anG=mC:=PySem.W.hideAll_size _ _
theorem aNj{h:Heap}{H:Hp}{b:Addr}{o:Obj}(e:md)(n:gp):iE anG:=PySem.W.hideAll_get _ e (fun c4=>by rw[ci (vJ c4).2,cQ n];simp at q)
theorem aNk{h:Heap}{H:Hp}{b:Addr}{o:Obj}(e:iE anG):md/\gp:=by have d3:=PySem.W.of_hideAll (trk h H) e;rw[dI d3];cases q:H b with|none=>{rfl}|some x=>have z:df anG b=ae:=PySem.W.hideAll_none (trk h H) (U2 ⟨a0W (ft d3),x Ap⟩);rw[a6 z,dS]
universe L2
namespace L2
open PySem PySem.Spec PyProof.Rows
structure Mod(K:PySem.W.Frag)(mg:dM)(base:Heap):Prop where
 kin:vK aj
 glob:alH
 blt:z D (a0X aA2 D) bf3
 nolimit:base.NoLimit
structure Cx where
 prog:Mc
 w:oI
 K:US
 mg:dM
 base:iL
 A:Around
 N:cW
 FR:vF
 Ks:Hp
 env:Env
 outer:ka
 stack:ka
 ex:bg
 fn:Str->cb
 calm:cb
 pn:bw
 xe:aU
instance nX:eI Cx:=⟨a Mf Classical.ofNonempty [] uu Mf {} [] {} (a uu Mf [] [] [] (au ab) ab [] As)⟩
noncomputable def uR(l:ka):bg:=Me (·.frame)
noncomputable abbrev Cx.fs(X:Cx):bg:=uR Mq
def Vis(a:Scope)(x:Str):Prop:=k7 (vL x)\/jS (vL x)\/iC (vL x)
def Loc(a:Scope)(x:Str):Prop:=a9x
def Look(env:Env)(h:Heap)(m:dM)(x:Str)(u:Value):Prop:=(k7 (agN x)/\ev (m x))\/((jS (agN x)\/iC (agN x))/\z c (aA3 x=aa c) (h.IsCell c (aa u)))
structure Cx.Ok(X:Cx):Prop where
 mod:bb2
 kind:sD aA7
 glob:a0Z=CB
 blt:X.env.builtins=aA2
 above:G9<=oK
 inj:∀x y c,aFL->amU->x=y
 has:E x (jS (aA6 x)\/iC (aA6 x)) (ax c (U3 x) c)
 cab:l x c (aA5 x=ab) aFL (G9<=c)
 hd:fQ->X.A.handled=ae
 frames:X.A.frames=aa oL
 stk:oL=Mq\/(oL=cE::Mq/\X.env.frame=aa oK)
 exf:bH CA (XW/\r9 b)
 bs:s7 (be (aA4 b)/\X.Ks b=ae)
 RV:X.base.objs.size<=G9
 aNo:s7 (b∉CA)
 RW:bH CA amB
 uS:a0Y sM Mq
 FT:bH vM (X.Ks b=ae)
structure Inv(X:Cx)(pins:bw)(M:bL jK)(H:Hp)(s:Shared):Prop where
 ok:X.Ok
 os:CC=X.FR.os
 bare:G_ sO
 base:Un vM CA X.Ks H X.FR.heap bh
 loc:z m a9P (∀(i:Nat)(x:Str)(v:V),i xW anz aol (z u jh (Look cE bh m x u)))
 cell:r2 (∃v,a00 c v)
 free:Y oK
 biY:r2 (Y c)
 pin:v2 bhw
 dr:ic H bh
 len:U4=X.N.length
section z
variable{X:Cx}{pins:bw}{M:bL jK}{H L:Hp}{s:Shared}{h':Heap}
theorem Cx.Ok.aNp(ok:X.Ok){b:Addr}{o:Obj}(e:be (a01 b)):amB:=fun U=>by have:=(ok.uS.mem U).1;rw[am e,nj]
theorem Inv.bs(I:aY):s7 (gY/\gp):=c_ ⟨a02 b o (apn).1 (apn).2 (I.ok.aNp e) (aA8 b o e),agO b o (apn).1 (apn).2 (aA8 b o e)⟩
theorem Inv.bk(I:aY):s7 gY:=c_ (I.bs b o e).1
theorem Inv.mod(I:aY):bb2:=aA9
theorem Inv.Kt(I:aY):X.K.In bh:=I.ok.mod.kin.keeps I.bk
theorem Inv.lt(I:aY):oK<aO:=let⟨_,d1,_⟩:=vN;d1.lt
theorem Inv.sz(I:aY):G9<=aO:=cn Mr (ew I.lt)
theorem Inv.aNq(I:aY){a:Addr}(h:aO<=a):a∉vM:=fun U=>by rw[bb4];exact ix (fH PQ (cn I.sz h))
theorem Inv.cne(I:aY):r9 oK:=fun x c e z=>by rw[bfU];obtain⟨m,⟨g,a7,e1,l,p,_⟩,_⟩:=vN;rw[b2 l d0];cases d0;rw[p]at hd;cases hd
theorem Inv.uS(I:aY):agP sM Mq:=by have all:∀(l:ka),V b (uR l) (b∈vM)->a0Y sM l->agP sM l:=by{rw[rD];induction l with|nil=>{intro _ _;trivial}|cons env J d6=>intro c0 a5;obtain⟨c3,⟨Z,o,W,d1,d0,hd⟩,a6⟩:=a5;rw[eS (oK Z fu),ck sl (a03 Z o d0 (I.ok.FT Z f) f (J (I.ok.RW Z z f)))];exact v c3 (c Z _ W d1 e hd) (d6 (db (oK b (ck U))) a6)};exact all Mq (fun _ U=>U) I.ok.uS
theorem Inv.stack(I:aY):agP sM oL:=by rw[beB,Z e I.uS];{rw[e];obtain⟨m,d1,_⟩:=vN;refine .cons (by rw[sP];decide) W d1 (Heap.get?_none_of_le (cn agQ Mr)) I.uS}
theorem Inv.aNr(I:aY):fJ (uR oL) (oK::vM):=db (by rw[beB,az];{rw[e]at U;delta uR at U;rw[Ha,W]at U;exact U})
theorem Inv.aqC(I:aY):bH (uR oL) gp:=db (by rw[i5 (zf U) U,Z e Hb];{rw[bb4];exact agO b o d0 (I.ok.FT b U) (J (I.ok.RW b z U))})
theorem Inv.step{g':fq U6}{t':Nat}{d':Drawn}{ch:bg}(I:aY)(h:aMn)(keep:p5 amB ha)(slot:p5 (b∈vM) bab)(free:f b o I7 gY gp IM)(there:bd I7 gY (ax g (gQ b) g))(Kq:aLU)(FQ:bgW)(Kr:bdu)(ns:E m a9P (h'.Ns oK m))(dr:ic L h')(d8:G_ g'):bgH:=by have p4:hq (aA4 b) XW:=c_ (g9 hc Mr);have r:bd (be (aA4 b)) (b∉CA) I7:=fun b o e S U=>by{rw[cY (QP).1,cX,cE (fH hc z) (jr _)]};have t:r2 (E v (a00 c v) (h'.IsCell c v)):=fun x c e v e0=>by{rw[bJ d0 hd e0];have j:=bhr;by_cases b0:c∈vM;{rw[dZ sl (jt c o (I.cne x c e) b0 j d0 aIW)];exact av q hd};rw[l (v o (en c o (I.cne x c e) b0 j d0 aIW) hd)]};rw[b U5 agR d8 (a aln aln (fun b o e n S=>?_) (fun b o e S=>?_) (xe (Kq b O (a06 b O e))) (fun b o O e=>FQ b o O (a05 b o O e)) (fun b c5 e=>?_)) ?_ a8I ?_ a8I (v ua dr Hc),l (en b o (p4 b o e) U apJ aMv aLQ)];{obtain⟨sl,b4⟩:=a7G;rw[eA f (jt b _ (p4 b o e) U apJ b4 aLQ)];exact⟨f,b9⟩};{rw[kk b4 aGF];exact free b g apJ b4 aLQ};{rw[kk b4 aGF];exact there b g apJ b4};{obtain⟨g9,b4⟩:=a04 b c5 e;rw[eA e1 (Kr b _ b4)];exact⟨g9++e1,ag⟩};{rw[aoc,aa m (ns m d1) (fun i x v b4 b9 e7=>?_),fE b4 b9 e7,ak u J];rcases l with l|⟨k,c,e,z⟩;rw[dQ l,co (d k c e (t x c e _ z))]};rw[S v z aGl v (t x c e v z)];{obtain⟨m,⟨o,_,_,d0,_⟩,_⟩:=vN;exact free _ o (uP (h _ z)) d0 Hb};{rw[bfU];exact free c o bhr d0 aIW};{rw[aMC];have j:=J ((h p.1 z).2.2.2 p c2 rfl);exact a (en p.1 p.2 ne w j e n) (free p.1 p.2 j e n) ne w d}
theorem Inv.un{t':Nat}(I:aY)(u:Un vM [] H L bh h')(dr:ic L h'):aR L uC:=q8 jI (Ms (g':=sO) (d':=zd) (ch:=[]) (sP (nomatch z)) (G0 (u.keep b o e n U bB)) (G0 (u.slot b o e n U bB)) (fun b o _ e n=>u.free b o e n bB) (fun b o _ e=>u.there b o e bB) u.Kq u.FQ u.Kr biu dr zc)
theorem Inv.call{g':fq U6}{t':Nat}{d':Drawn}{ch:bg}(I:aY)(u:FV h')(dr:ic L h')(d8:G_ g')(h:aMn):bgH:=q8 (uP (h _ z)) (Ms (ch:=ch) h (fun b o f U b0 e n=>u.keep b o e n (J (cb (zf z) f U)) b0) (fun b o _ _ b0 e n=>u.any e n b0) (fun b o b0 e n=>u.free b o e n b0) (sY (u.there b o e b0)) u.Kq u.FQ u.Kr biu dr d8)
theorem Inv.turned{t':Nat}{it:Addr}(I:aY)(k:bd (b≠it) gY ha)(d1:Y it)(f:it≠oK)(a3:it∈CA\/G9<=it)(a9:r9 it)(e2:v2 (p.1≠it)):aR H uC:=by rw[nS (b≠it) ah];refine Ms (g':=sO) (d':=zd) (ch:=[it]) tV (sf aHN) (yv aHN) a_s (sY (np aHN)) (sR e) a'b a8' an7 aHV zc;{rw[el]};rw[Cm (hs f),bhH]
theorem Inv.tok(I:aY)(t:Nat):aR H (oI t):=I.un (h':=bh) (t':=t) Un.refl eo
theorem Inv.kept{t':Nat}(I:aY)(k:Zx):aR H uC:=I.un (agM k) (I.dr.kept k)
theorem Inv.laid{a:Addr}{o:HO}{t':Nat}(I:aY)(k:Zx)(c2:aO<=a)(a6:cA Qq a o):aR Qq uC:=I.un (Un.laid k c2 (ze c2)) (I.dr.laid k c2 a6)
theorem Inv.write{x e:Addr}{o:HO}{t':Nat}(I:aY)(h8:aGS)(a0:aLu)(k:lv (b≠e) (Hd b))(a:aLS)(a6:cA (ad x o) x o):aR (ad x o) uC:=I.un (Un.write h8 a0 k a) (I.dr.write h8 a0 k a a6)
theorem Inv.weak{g0:bL jK}(I:aY)(a5:g0.length=U4)(w:bk i v (A g0 pB->anz)):Inv X au g0 H s:=gD (let⟨m,d1,h1⟩:=vN;v m d1 (fun i x v b4 b9 e7=>h1 i x v b4 (w i v b9) e7)) Mt (a5.trans Hc)
theorem Inv.aqD{a:bw}(I:aY)(h:cz a bhw):Inv X a M H s:=gD vN (gS (om (vO _ z) (h p))) Hc
theorem ac1{N:cW}(hN:N.Nodup){i j:Nat}{x:Str}(a:fh N)(b:aa N x):i=j:=bgy
theorem aqE{d5:Model}{A:Around}{E:aU}{i:Nat}{x:Str}{v:V}{u:Value}{Q:Qa}(I:aY)(hN:X.N.Nodup)(hi:xW)(S:J5)(J:jh)(h:o c1 bcx (z a (He a bh mD) (a=oK\/U3 x=aa a)) (Q () c1))(W:Kc):a'K:=by rw[bW d1 a5 (id vN),bN Y (aA7== .class||(aA7== .module&&oK !=a0Z)) ai sP,z G (i<U4) Hc (bx hi),eS I.cne];have K:∀{a:Addr}{h':Heap},(z o (gG a) (Y a))->pb a->ic H h':=fun{a h'}b3 c0 b N e=>by{obtain⟨_,_,L⟩:=b3;refine(eo b N e).qr (fun c c5 b0 q=>ac c0 c ?_ q) aGo (ip q);rintro rfl;rw[db b0 b0,az,az]};rw[f0 c3 c3];{refine wpAny_storeName_local c3 d1 (fun h' j2 c0=>?_) Y;obtain⟨Z,_,_,l,_⟩:=id d1;refine h _ (a9 (av j2 a9F) aH8 Z l Hb) (av c0 gj);rw[l (kc Mr aMv),Hm Mr,Hl Mr];{rw[N b8 j i];{subst b8;rw[hi]at b4;cases b4;rw[Mu G]at b9;rw[a4 b9 (v u J (dp c3 (x cN)))]};{rw[U7 (hs b8)]at b9;rw[aJ F B (a5 j y t b4 b9 e7),ak F B];rcases q with⟨k,e⟩|⟨k,c,e,z⟩;{refine .inl (as k);have:QC:=an (b8 (ac1 hN b4 (e▸hi)));simp[this,e]};rw[co (d k c e bb7)]}};rw[S c5 z (CD y c e) c5 bb7];{rw[aMC];exact a (ac c0 p.1 ne e) n ne w d}};{rw[ca r (aA5 x=ab),c8 b0 (aA_ x (.inl c3))];obtain⟨c5,z⟩:=CD x c b0;refine wpAny_storeName_cell sP c3 b0 z (fun h' O c0=>?_);obtain⟨D,P,a0⟩:=id z;refine h tD (a9 (v m (d1.sameBut c0 (hs (f x c b0))) a9F) (fun y C e=>?_) D P (Mv x c b0)) (v c c0 (.inr b0));rw[l (kc aL3 aMv),Hm aL3,Hl aL3];{rw[N b8 j i];{subst b8;rw[hi]at b4;cases b4;rw[Mu G]at b9;rw[a4 b9 (v u J (bj (.inl c3) c b0 O))]};{rw[U7 (hs b8)]at b9;rw[aJ F B (a5 j y t b4 b9 e7),ak F B];rcases q with q|⟨k,C,e,d3⟩;rw[dQ q];{refine bj k C e (d3.sameBut c0 ?_);rintro rfl;exact b8 (ac1 hN b4 (I.ok.inj _ _ _ e b0▸hi))}}};{rw[N R C c];{subst R;exact aW O};rw[S T h6 (CD y C e) T (h6.sameBut c0 R)]};{rw[aMC,j (ac c0 p.1 ?_ e) n ne w d,fS];rw[q,P]at e;have c4:D=p.2:=cZ e;exact d c5 (bl c4 a0)}}
theorem ac2{d5:Model}{A:Around}{E:aU}{i:Nat}{x:Str}{v:V}{u:Value}{Q:Qa}(I:aY)(hN:X.N.Nodup)(hi:xW)(S:J5)(J:jh)(h:i1 bcx ())(W:Kc):a'K:=aqE I hN hi S J (fun c1 K _=>h c1 K) W
theorem Inv.aNs{c1:Shared}{ch:bg}(I:aY)(d0:U9=CC)(u:FV mD)(dr:ic L mD)(d8:G_ U8)(h:aMn):Bb:=by obtain⟨h',g',d',t',g⟩:=c1;rw[xM];exact I.call (g':=g') (t':=t') (d':=d') u dr d8 h
universe z
abbrev XK:=be cR nf Hp
abbrev St:=bL jK
abbrev VK:=eo V
abbrev TE:=l6 St
abbrev TT:=ts AD
abbrev TA:=ts (eo af)
structure Ends where
 nx:pJ
 rt:VK
 bk:pJ:=Jy
 ct:pJ:=Jy
instance nN:eI Ends:=⟨d As As As As⟩
abbrev TS:=be Ends St Hp
noncomputable abbrev Ends.sq(D:Ends)(u:TS):Ends:=d (u D) D.rt D.bk D.ct
noncomputable abbrev Ends.lp(D:Ends)(N:pJ):Ends:=d N D.rt mF N
inductive EP(X:Cx)(pins:bw)(M:St)(Q:VK)(u:Value)(c1:Shared):Prop|mk:f v L Bb jh (Q v L) (fX u c1)
def TP(X:Cx)(pins:bw)(M:St)(Q:AD)(b:Bool)(c1:Shared):Prop:=z L Bb (Q b L)
inductive AP(X:Cx)(pins:bw)(M:St)(Q:eo af)(b1:aM)(c1:Shared):Prop|mk:f vs L Bb Fd (Q vs L) (AP X au M Q b1 c1)
def SP(X:Cx)(pins:bw)(D:Ends)(f:Flow)(c1:Shared):Prop:=match f with| .next=>pk (mF g0 L)| .brk=>pk (D.bk g0 L)| .cont=>pk (D.ct g0 L)| .ret u=>∃v g0 L,aFQ/\jh/\D.rt v L
def PE(X:Cx)(e:Expr)(t:TE):Prop:=∀(pins:bw)(s:Shared)(M:St)(H:Hp)(Q:VK),aY->Pg->de tx IL
def PT(X:Cx)(e:Expr)(t:TT):Prop:=FU (agS e cE tx)
def PW(X:Cx)(e:Expr)(t:TT):Prop:=∀(c:XQ)(pins:bw)(s:Shared)(M:St)(H:Hp)(Q:AD),cu Pg (agS e cE c) aGG
theorem PW.pt{X:Cx}{e:Expr}{t:TT}(h:PW X e t):PT X e t:=h _
def PA(X:Cx)(a7:fC)(t:TA):Prop:=∀(pos:Pos)(pins:bw)(s:Shared)(M:St)(H:Hp)(Q:eo af),cu Pg (spliced (aA' pos (Mw a7 cE))) (AP X au M Q)
def PS(X:Cx)(st:Stmt)(t:TS):Prop:=H6 (exec st cE)
def qs(X:Cx)(st:uc)(t:TS):Prop:=H6 (execs st cE)
theorem bD{I:Type}{t:Sem I}{Q h4:dE I}{d5:Model}{A:Around}{E:aU}{s:Shared}(h:pc t)(g:bcY):a'q:=lq h g
universe L2
namespace L2
open PySem PySem.Spec PyProof.Rows
section z
variable{X:Cx}
def ho(i:Nat):TE:=hi (match M[i]? with|some (some v)=>AB|_=>cD)
theorem ho.out{i:Nat}{M:St}{H:Hp}{Q:VK}(h:ho i M H Q):z v anz AB:=lD ho (av bG h)
theorem ho.mk{i:Nat}{M:St}{H:Hp}{Q:VK}{v:V}(e:anz)(h:AB):ho i M H Q:=by delta ho;rw[e];exact h
def tC(v:V):TE:=lG AB
theorem aNu{i:Nat}{x:Str}{pos:Pos}(hN:xW)(d3:aol)(hd:mf)(S:a73):M (gP pos) (ho i):=by rw[fx,dl e h U_,aoc,fE hN e d3];have fin:fX u s:=a v H I J h;rw[bhM,l (aBa (a08 sP c3 d1 c4 fin) hd)];{rw[bb0,l (aBa (a07 sP c3 b0 a fin) hd),l (aBa (wpAny_loadName_free sP c3 b0 a fin S) hd)]}
theorem bE{i j pos}:oB hP hP:=qR (wpAny_Constant_int (a hP H rm ei h))
theorem mj{b j pos}:oB I3 EO:=qR (Constant_bool (eT b h))
theorem cu{j pos}:M (.Constant .none j pos) (tC .bC):=qR (Constant_none (m .bC H I h))
def Gl(X:Cx)(x:Str):Prop:=aA6 x=aa .globalImplicit
theorem aqF{E:aU}{pins:bw}{s:Shared}{M:St}{H:Hp}{x:Str}{u:Value}{pos:Pos}{Q:aU}(I:aY)(d8:qg)(c4:ev (mG x))(h:Q u s)(hd:mf):a8h:=a09 sP d8 (Calls.loadGlobal_global a_p c4 h) hd
theorem FU{E:aU}{pins:bw}{s:Shared}{M:St}{H:Hp}{x:Str}{u:Value}{pos:Pos}{Q:aU}(I:aY)(d8:qg)(c4:f9 x)(d3:ev (vP x))(h:Q u s)(d1:aHp)(hd:mf):a8h:=aC D a3 a9 I.mod.blt (a09 sP d8 (Calls.loadGlobal_builtin a_p c4 (t I.ok.blt (a3.keeps I.bk)) (J (a9 x d1) d3) h) hd)
theorem aqG{x:Str}{v:V}{u:Value}{pos:Pos}(d8:qg)(c4:ev (mG x))(J:jh)(hd:mf):M (gP pos) (tC v):=qR (aqF I d8 c4 (a v H I J h) hd)
variable{a b:Expr}{d6 c3:TE}{pos:Pos}
def PC(X:Cx)(j:CmpOp)(a b:Expr)(t:TE):Prop:=∀(pins:bw)(s:Shared)(M:St)(H:Hp)(Q:VK),cu Pg (e0 a) (pn (Mx j v u) IL)
def jB(Q:AD)(x:V)(H:Hp):Prop:=match x with| .bl c=>Q c H|_=>cD
theorem jB.out{Q:AD}{x:V}{H:Hp}(h:jB Q x H):z c (x= .bl c) (Q c H):=lD jB (dl h)
def tB(t:TE):TT:=jD (jB Q)
theorem Bq{j:CmpOp}{t:TE}(h:PC X j a b t)(a3:ey Yt auk._auto_1):PT X alS (tB t):=by rw[nb hw];refine a0_ (bD (il _ I) (fun v a4 a3=>bD a3 (fun u b5 a9=>wn a9))) a3;rw[JN,aJ d rfl d2.out,ba_]
theorem uT{e:Expr}{t:TE}(h:M e t)(a0:ey (∀c,agS e cE c=(do{let v<-c;standAt e.pos;holding [v] (truthy v)})) agT):PT X e (tB t):=by rw[nb hw];refine aBb (bD (il _ I) (fun v a4 e0=>?_)) (a0 _);rw[io x e0,aJ d rfl d2.out,ba_]
variable{g e:TT}{m:fC}
def aNv(t u:TT):TT:=mC (u M a8 Q) (Q ai a8)
def tOr(t u:TT):TT:=mC (Q ab a8) (u M a8 Q)
def aqH(t:TT):TT:=jD (fun c a8=>Q (! c) a8)
theorem aNx(b3:Zv):mw [a] g:=by intro d au s M H Q I h;refine isTrue_and (bD (rV Q) (fun c a4 e=>?_));rw[dX c (isTrue_and_nil e) e]
theorem aqI(b3:Zv):my [a] g:=by intro d au s M H Q I h;refine isTrue_or (bD (rV Q) (fun c a4 e=>?_));cases c with|false=>{exact isTrue_or_nil e}|true=>exact e
theorem aNy(b3:Zv)(U:mw (b::m) e):mw (a::b::m) (aNv g e):=by intro d au s M H Q I h;refine isTrue_and (bD rL (fun c a4 P=>?_));rw[ci a8 r P,dX c bh3 (v a8 r d2)]
theorem ac3(b3:Zv)(U:my (b::m) e):my (a::b::m) (tOr g e):=by intro d au s M H Q I h;refine isTrue_or (bD rL (fun c a4⟨a8,r,d2⟩=>?_));cases c with|true=>{trivial}|false=>exact bh3
theorem ac4(b3:Zv):PT X (.UnaryOp .Not a pos) (aqH g):=nH (isTrue_not (rV (fun c a8=>Q (! c) a8)))
def aNz(d6 c3:TE):TE:=qx (z c (x= .bl c) (Z c (c3 M a8 Q) (Q (.bl ai) a8)))
theorem RX{j}{t:TE}(h:M a t):M (iF j [a]) t:=DJ (BoolOp_one (il Q I))
theorem Br(b3:fU)(U:M (iF .And (b::m)) c3):M (iF .And (a::b::m)) (aNz d6 c3):=by rw[fx];refine BoolOp_and (ks rL);rw[JN,ci c rfl d2];cases r1;refine vQ ?_;rw[dX c (o7 Q) (bi ai a8 r d2)]
def tIf(t:TT)(d6 c3:TE):TE:=mC (d6 M a8 Q) (c3 M a8 Q)
theorem RY{c:Expr}(b0:PT X c g)(b3:fU)(U:lg):M (.IfExp c a b pos) (tIf g d6 c3):=by rw[fx];refine wpAny_IfExp bhu;rw[ci a8 r P,dX d (m9 Q d2) (o7 Q)]
universe z
universe L2
namespace L2
open PySem PySem.Spec PyProof.Rows
def fW(K:PySem.W.Frag)(H:Hp)(a:Addr)(O:af):Prop:=kz (.lst O)\/n0 Aa (o.dict=ae/\gB=jq ar/\a1 Mz/\iM O My)
def uU(K:PySem.W.Frag)(H:Hp)(a:Addr)(O:af):Prop:=kz tI\/bev
noncomputable def aNB:cR->jK| .none=>alX| .bool b=>aa EO| .int i _=>aa hP| .str x _=>aa Jn| .bytes b _=>aa (.iC b)| .float b _=>aa (.RU b)| .ref a=>kJ| .type n=>aa (.ty n)|_=>ae
theorem RelV.abs{x:V}{u:Value}(J:pK):aNB u=aa x:=by cases x with|bC=>{rw[Fi]}|bl _=>{rw[Fi]}|int _=>{rw[Qj]}|str _=>{rw[Qj]}|iC _=>{rw[Qj]}|RU _=>{rw[Qj]}|ref _=>{rw[Fi]}|ty _=>rw[hM];rfl
theorem RelV.inj{x y:V}{u:Value}(J:pK)(q:kY):x=y:=cZ (J.abs.symm.trans q.abs)
theorem Vals.inj{O d7:af}{b1:aM}(h:nL)(k:ey d7):O=d7:=by induction h generalizing d7 with|nil=>{cases k;rfl}|cons J t d6=>cases k with|cons B t'=>rw[J.inj B,d6 t']
section z
variable{X:Cx}{pins:bw}{M:St}{H:Hp}{s:Shared}{a:Addr}{O d7:af}
theorem fW.of{K:PySem.W.Frag}(h:am a O):jg:= .inl Aw
theorem uU.of{K:PySem.W.Frag}(h:cw tI):uG:= .inl Aw
theorem Inv.list(I:aY)(h:a9q):FM (PlainL bh a eT):=by rcases h with h|⟨o,ar,n,c3,b0,hd,c0,c9,J⟩;{rw[X ar n J e (h.ok eo)];exact d ar J (m _ n e xB) z};{rw[bZ My J (c o n (vS a o c3) b0 hd eO),dd vR];simp only[Va]at e;exact IK}
theorem Inv.tuple(I:aY)(h:a9o):FM (Mo bh a eT):=by rcases h with h|⟨o,ar,n,c3,b0,c0,c9,J⟩;{obtain⟨z,ar,J,p⟩:=h.ok eo;exact d ar J p z};{rw[bZ My J (a o (vS a o c3) b0 n eO),dd vR];simp only[Va]at e;exact IK}
theorem Inv.ac5(I:aY)(h:a9q)(h':fW X.K H a d7):O=d7:=by obtain⟨ar,J,⟨o,n,e,_,_,d⟩,_⟩:=sQ h;obtain⟨its',B,⟨g,C,d3,_,_,d'⟩,_⟩:=sQ h';rw[Zd];cases d3;rw[d]at d';rw[a'g];have:ar=MA:=ah;rw[gm];exact J.inj B
theorem Inv.aNC(I:aY)(h:a9o)(h':uU X.K H a d7):O=d7:=by obtain⟨ar,J,⟨o,e,_,n,d⟩,_⟩:=CF h;obtain⟨its',B,⟨g,d3,_,C,d'⟩,_⟩:=CF h';rw[Zd];cases d3;rw[d]at d';rw[a'g];have:ar=MA:=ah;rw[gm];exact J.inj B
universe z
noncomputable abbrev Cx.RZ(X:Cx)(E:aU):Cx:={X with xe:=E}
noncomputable abbrev Cx.Ku(X:Cx):Cx:=Vb Jy
theorem Cx.Ok.RZ{X:Cx}(ok:X.Ok)(E:aU):(Vb E).Ok:=biz
theorem Cx.Ok.FV{X:Cx}{E:aU}(ok:(Vb E).Ok):X.Ok:=biz
section z
variable{X:Cx}{pins:bw}{M:St}{H:Hp}{s:Shared}{E:aU}
theorem Inv.RZ(I:aY)(E:aU):bgi:=KG (I.ok.RZ E)
theorem Inv.FV(I:bgi):aY:=KG I.ok.FV
theorem SP.FV{D:Ends}{f:Flow}{c1:Shared}(h:SP (Vb E) au D f c1):SP X au D f c1:=by cases f with|next=>{rw[aMN]}|brk=>{rw[aMN]}|cont=>{rw[aMN]}|ret u=>rw[j v g0 L I J q h (c v g0 L I.FV J q)]
theorem qs.Ku{st:uc}{t:TS}(h:qs X.Ku st t):qs X st t:=fun au s M H D I hw=>ol (il D (I.RZ _)) (ip q.FV)
universe z
section z
variable{X:Cx}{st:Stmt}{m:uc}{t u:TS}{e:Expr}{b8:TE}{pos:Pos}
def ac6:TS:=fZ OD
def Bs(t u:TS):TS:=fZ (t (D.sq u) M H)
theorem Bt:qs X [] ac6:=Dh (agU aI')
theorem R0(a3:PS X st t)(a9:qs X m u):qs X (st::m) (Bs t u):=by rw[kW];refine a0' (bD (a3 au s M H (D.sq u) I h) (fun f a4 q=>?_));cases f with|next=>{obtain⟨g0,L,K,q⟩:=q;exact a9 au a4 g0 L D K q}|ret v=>{exact q}|brk=>{exact q}|cont=>exact q
theorem fE(a3:PS X st t):qs X [st] t:=by rw[kW];refine a0' (bD (a3 au s M H D I h) (fun f a4 q=>?_));cases f with|next=>{exact agU q}|ret v=>{exact q}|brk=>{exact q}|cont=>exact q
def aND:TS:=fZ (D.ct M H)
theorem aNE:PS X (.Continue pos) aND:=Dh (wpAny_Continue aI')
theorem Inv.quiet{pins:bw}{M:St}{H:Hp}{s:Shared}(I:aY):a1a cE=ai:=eI a1a sP
def R1(b8:TE):TS:=fZ (oj (fun _ a8=>mF M a8))
theorem yq(a0:rO)(c0:wj (MB e ae MC cE)):PS X (.Expr e pos) (R1 b8):=by rw[kW];exact wpAny_Expr_any (jl EH (d M a8 r d2)) I.quiet c0
def R3(b8:TE):TS:=fZ (oj D.rt)
theorem aNF(a0:rO):PS X (.Return rz pos) (R3 b8):=by rw[kW];exact wpAny_Return_some (jl EH (c x M a8 r r1 d2))
def R4(c:TT)(t u:TS):TS:=fZ (mz (t D M a8) (u D M a8))
theorem rX{c:Expr}{a b:uc}{i:TT}(b0:PT X c i)(b3:qs X a t)(U:qs X b u):PS X (.If c a b pos) (R4 i t u):=by rw[kW];refine wpAny_If bhu;rw[ci a8 r P,dX d (m9 D d2) (o7 D)]
universe z
abbrev TG:=aa V St Hp (pJ)
abbrev yr:=aa af St Hp (pJ)
def PG(X:Cx)(a:Expr)(t:TG):Prop:=∀(pins:bw)(s:Shared)(M:St)(H:Hp)(v:V)(u:Value)(Q:pJ),gl jh v (Vc a cE u)
def Kv(X:Cx)(g:fC)(t:yr):Prop:=∀(pins:bw)(s:Shared)(M:St)(H:Hp)(vs:af)(b1:aM)(Q:pJ),gl Fd vs (assignInOrder (cM (agV g cE)) b1)
abbrev Kw:=c V V V Hp (cu (jb))
def ac7(X:Cx)(t:Kw):Prop:=∀(pins:bw)(s:Shared)(M:St)(H:Hp)(o i v:V)(ov c u:Value)(Q:jb),j aY (gP o ov) (gP i c) jh (t o i v H Q) (de (a1b ov c u) (fun _ c1=>z L Bb (Q L)))
abbrev FW:=Fn
def PIp(X:Cx)(j:Operator)(t:FW):Prop:=∀(pins:bw)(s:Shared)(M:St)(H:Hp)(x y:V)(v u:Value)(Q:VK),bF tU kY (t x y H Q) (aBc j v u)
section z
variable{X:Cx}{pos:Pos}
def Kx(i:Nat):TG:=fun v M H Q=>Q (aBd i pB) H
theorem aNG{i:Nat}{x:Str}(hN:X.N.Nodup)(hi:xW)(S:J5)(W:Kc):a'h:=by rw[is v u];exact a1c (ac2 I hN hi S J (fun c1 K=>as H K h) W)
def aNH:yr:=fun vs M H Q=>match vs with|[]=>Q M H|_=>cD
def aNI(t:TG)(u:yr):yr:=fun vs M H Q=>match vs with|v::J=>t v M H (fun g0 L=>u J g0 L Q)|[]=>cD
theorem aqJ:Kv X [] aNH:=by rw[Zq];cases J with|nil=>{exact assignInOrder_nil aI'}|cons=>exact Hf
theorem Ky{e:Expr}{a7:fC}{t:TG}{u:yr}(a3:PG X e t)(a9:Kv X a7 u)(c0:ce (cM (agV rh cE)=Vc e cE::cM aFZ)):Kv X rh (aNI t u):=by rw[Zq];cases J with|nil=>{exact Hf}|cons J C=>rw[c0];refine assignInOrder_cons (bD (a3 au s M H _ _ _ I J h) (fun _ a4 e0=>by obtain⟨d,a8,r,d2⟩:=e0;exact a9 au a4 d a8 _ _ Q r C d2))
inductive aqK(K:PySem.W.Frag)(n:Nat)(t:yr)(v:V)(M:St)(H:Hp)(Q:pJ):Prop|mk:∀a O,b v bc uG (bx=n) (t O M H Q) (aqK K n t v M H Q)
theorem aNJ{a7:fC}{k:Nat}{t:yr}{n:Nat}(b0:fQ)(h:Kv X a7 t)(d1:a_D)(z:a_T):GY X.K:=by intro au s M H v u Q I J hw;obtain⟨a,O,b4,e0,a5,hw⟩:=hw;rw[Jm,hM,a9 rv c6 IV];refine assign_Tuple_tuple iv c6 (by simp[d1,<-a5,CG]) z (fun h' S=>?_);exact h au _ M H O _ Q (MD (t':=dE) (c_ (S b o (gC hc) e))) ag hw
def aNK(C ti:TE)(t:Kw):TG:=fun v M H Q=>Hi (t o i v b7 (fun d4=>Q M d4))
theorem aNL{o i:Expr}{C ti:TE}{t:Kw}(d0:am2)(hi:M i ti)(c0:ac7 X t)(b3:ey (∀v,Vc (eV o i) cE v=(do{let ov<-holding [v] (eval o X.env);let c<-holding [v,ov] (eval i X.env);standAt pos;holding [v,ov,c] (setItem ov c v);release [v,ov,c] []})) agT):PG X (eV o i) (aNK C ti t):=by rw[is v u];rw[b3];rw[C (vT (bD Yy (fun ov a4 e0=>b x a8 r r1 d2 e0 (bF (vT (os y (bF (aBe (bF (vT (bD (c0 au b5 M b7 x y v ov c u _ Y r1 r2 J q2) (fun _ c8 e0=>aC d4 O q3 e0 (wpAny_release (d M d4 O q3))))))))))))))]
def ac9(b8:TE)(g:TG):TS:=fZ (oj (jA (g x M a8 mF)))
theorem aNM{c7 e:Expr}{b8:TE}{g:TG}(a0:rO)(d8:aKk)(c0:wj (swapsWithSole [c7] e MC cE))(hw:ce (swappedStores [c7] e cE=eU ae))(a3:ce (cM (agV [c7] cE)=[Vc c7 cE])):bn [c7] e pos (ac9 b8 g):=by rw[kW];refine wpAny_Assign_stores (ks EH) c0 hw;rw[JN];rw[a3];exact bD (d8 au a4 M a8 x v _ r r1 d2) (fun _ b5 q=>q)
theorem aqL{i:Nat}{x:Str}{e:Expr}{b8:TE}{E:Pos}(hN:X.N.Nodup)(hi:xW)(S:J5)(a0:rO)(c0:bag)(W:Kc):bdA:=by rw[kW];refine wpAny_Assign_Name (ks EH) c0;rw[io y P];exact ac2 r hN hi S r1 (fun b5 Y=>as a8 Y d2) W
def aNN(i:Nat)(b8:TE)(ti:FW)(D:Ends)(M:St)(H:Hp):Prop:=ho i M H (fun x _=>oj (sq (ti x y a8 (fun z b7=>mF (aBd i (aa z)) b7))))
theorem aNO{i:Nat}{x:Str}{e:Expr}{b8:TE}{j:Operator}{ti:FW}{E:Pos}(hN:X.N.Nodup)(hi:xW)(S:J5)(a0:rO)(d0:PIp X j ti)(W:Kc):fq (gP E) e (aNN i b8 ti):=by rw[kW,dl b4 h (ho.out h),aoc];have d:aol:=by{rw[f0 k k,mU k];exact .inr O5};rw[fE hi b4 d];refine wpAny_AugAssign_Name ?_;have go:de tx (fun w g=>a2 (aBc j u w) (fun J b=>a2 (a1d cE x J) (au (SP X au D .next)) oM b) oM g):=by{refine bD EH (fun w a4 e0=>?_);rw[io y e0];refine bD (d0 au a4 M a8 v y u w _ r J r1 d2) (fun z b5 P=>?_);obtain⟨f,b7,Y,r2,q2⟩:=P;exact ac2 Y hN hi S r2 (fun c8 O=>as b7 O q2) W};rw[bhM,l (a08 sP c3 d1 c4 go)];{rw[bb0,l (a07 sP c3 b0 a go)];{rw[f0 k k];{have:iC (ME x):=c3;rw[am k,nj]};{have:iC (ME x):=c3;rw[am k,nj]}}}
def aNP(C ti b8:TE)(a:Fn)(b:FW)(f:Kw):TS:=fZ (Hi (a o i b7 (fun x d4=>b8 M d4 (fun y e4=>b x y e4 (fun z g6=>f o i z g6 (fun h5=>mF M h5))))))
def aqM(X:Cx)(t:Fn):Prop:=∀(pins:bw)(s:Shared)(M:St)(H:Hp)(o i:V)(ov c:Value)(Q:VK),bF (gP o ov) (gP i c) (t o i H Q) (zf ov c)
theorem aNQ{o i e:Expr}{C ti b8:TE}{a:Fn}{b:FW}{f:Kw}{j:Operator}{T:Pos}(d0:am2)(hi:M i ti)(d8:aqM X a)(a0:rO)(c2:PIp X j b)(c0:ac7 X f)(b3:ey (∀ov c a6,augStore i ov c a6=(do{holding [a6,ov,c] (setItem ov c a6);release [a6,ov,c] [];pure .next})) aui._auto_1):fq (q3 T) e (aNP C ti b8 a b f):=by rw[kW];refine wpAny_AugAssign_SubscriptAny (bD Yy (fun ov a4 e0=>b e7 a8 r r1 d2 e0 (os f5 (bD (d8 au b5 M b7 e7 f5 ov c _ Y r1 r2 q2) (fun a7 c8 e0=>b d d4 O m q3 e0 (bD (a0 au c8 M d4 _ O q3) (fun v d9 e0=>b g e4 a5 c9 i6 e0 (bD (c2 au d9 M e4 d g a7 v _ a5 m c9 i6) (fun a6 f9 e0=>b l1 g6 A p e2 e0 (bD (c0 au f9 M g6 e7 f5 l1 ov c a6 _ A r1 r2 p e2) (fun _ h1 e0=>aC h5 F c6 e0 (d M h5 F c6)))))))))))) b3
def ipI(f:aIc):FW:=sz (Hg (mY (f i j)))
theorem aqN:PIp X .Add (ipI (oz (i+j))):=by intro au s M H x y v u Q I r1 r2 h;obtain⟨i,j,b4,b9,q⟩:=h;rw[Jm];subst b9;rw[ep r1,dl t' r2];exact iadd_int (n5 _)
universe z
section z
variable{X:Cx}{pos:Pos}
def aqO(c:TT)(c3:TS):TS:=fZ (∃W:dJ St Hp,(∃m,W m M H)/\∀m M H,W m M H->mz (∃N:pJ,(CB (vA (W f7 g0 L)))/\c3 (agW N) M a8) (mF M a8))
theorem FX{c:Expr}{a:uc}{i:TT}{c3:TS}(c2:aL4)(b0:PT X c i)(U:aIN):PS X (.While c a [] pos) (aqO i c3):=by rw[kW,HO h];refine wpAny_While (codeAny_whileLoop (fun n c1=>pk (W n g0 L)) ?_ c9 (d M H I b2));rintro n a4⟨d,a8,r,e⟩;rw[po (bD (b0 au a4 d a8 _ r (eV n d a8 e)) (fun b b5 P=>?_))];obtain⟨b7,Y,q2⟩:=P;cases b with|true=>{obtain⟨N,hN,q2⟩:=q2;rw[cN];rw[po (bD (U au b5 d b7 _ Y q2) (fun f c8 q3=>?_))];cases f with|next=>{rw[biA]}|cont=>{rw[biA]}|brk=>{exact q3}|ret v=>exact q3}|false=>rw[L Ow (agU (d d b7 Y q2))]
universe z
structure It where
 go:Y1
 yld:aa Nat Hp V Hp
 stop:Y1
instance nI:eI It:=⟨v As (fun _ _ _ _=>gA) As⟩
def ac_(X:Cx)(pins:bw)(H:Hp)(b:Addr):Prop:=z gp XW amB (b∈CA\/G9<=b) a62
theorem Inv.R5{X:Cx}{pins:bw}{M:St}{H L:Hp}{s:Shared}{b:Addr}(I:aY)(U:aO<=b)(d1:IM):iO L:=by rw[o d1 (vU (fH I.lt U)) (I.aNq U) (.inr (cn I.sz U)) (fun x c e z=>?_) (fun p c2 z=>?_)];{rw[dZ v aGl];exact ix (fH q.lt ag)};rw[cE (fH (ft (Mt p c2).1) ag) (jr _)]
structure Turn(P:Program)(w:World)(K:PySem.W.Frag)(c7:Expr)(d0:It)(a8:bg)(it:Addr)(l:QH):Prop where
 mem:it∈a8
 obj:j i h (l i h) (D8 md)
 keep:∀i h h',l i h->V b a8 (E o md ha)->l i h'
 item:qP Po (z u (ev J) (fv (ju P w) X.A (MG c7 nJ u) (fun _ b5=>∃x L,z (aR L b5) pK Pw (l (i+1) agX) (hR IM)) E a4))
 done:qP alE (J=ae/\aR H a4)
 self:∀(A:Around)(i:Nat)(s:Shared)(Q:aU)(E:aU),l i bh->Q nJ s->fv (ju P w) A (MF nJ) Q E s
abbrev TI:=ts rH
inductive PIE(X:Cx)(pins:bw)(M:St)(c7:Expr)(R:rH)(e1:Value)(b5:Shared):Prop|mk:∀(it:Addr)(a8:bg)(l:QH)(d0:It)(L:Hp),b e1 nJ (aR L b5) (qz a8 it) (l 0 agX) (V b a8 (iO L)->R d0 L->PIE X au M c7 R e1 b5)
def PI(X:Cx)(c7 iter:Expr)(wi:TI):Prop:=∀(pins:bw)(s:Shared)(M:St)(H:Hp)(R:rH),cu (wi M H R) (e0 Hg) (fun v a4=>a2 (MF v) bgj oM a4)
theorem aqP{d5:Model}{A:Around}{E:aU}{s:Shared}{c7:Expr}{it:Addr}{u:Value}{o:Obj}{n:String}{vs:dU}{Q:Qa}(d0:gG it)(b0:vW= .type n)(hd:gB= .fields vs)(d1:bib=ai)(g:Q () s):pc (MG c7 nJ u):=by delta MG;cases c7<;>first|exact cg g|(cases u<;>first|exact cg g|(rw[C (wpAny_load d0 ?_)];rw[b0,hd];show pc (mo (bib&&vs[0]?==aa (vV _)));rw[aO (by rw[eD];rw[d1,agY]at h;rw[cG])];exact cg g))
noncomputable def R6(K:PySem.W.Frag)(a:Addr):It:=gU jg (L=H/\E O jg nh) jg
noncomputable def Itt(K:PySem.W.Frag)(a:Addr):It:=gU uG (L=H/\E O uG nh) uG
noncomputable def R7(lo:Int)(n:Nat):It:=IC aoi
theorem aNU{P:Program}{w:World}{K:PySem.W.Frag}{c7:Expr}(a it:Addr):jy (R6 K a) (CH it a i)where mem:=bK;obj:=bbB;keep:=a8i;item:=by{intro X C hw g b0 i au s M H E I W st d8;rw[uN,aMr,Zw,ZS,yg];refine wpAny_pyNext_list_item st qG (x:=u) ag aKq;rw[aIv];exact HM aK4};done:=by{intro X C hw g b0 i au s M H E I W st d8;rw[uN,aLD,Zw,yg,f1 CG];exact wpAny_pyNext_list_end iv st qG ah aaJ};self:=Ch (wpAny_pyIter_listiter st h)
theorem aNV{P:Program}{w:World}{K:PySem.W.Frag}{c7:Expr}(a it:Addr):jy aac (h.IsTupleIter it a i)where mem:=bK;obj:=bbB;keep:=a8i;item:=by{intro X C hw g b0 i au s M H E I W st d8;rw[uN,aMr,oR IV,ZS,yg];refine wpAny_pyNext_tuple_item st baY (x:=u) ag aKq;rw[aIv];exact HM (bd (fun d7 b6=>t (I.aNC b6 e0) S))};done:=by{intro X C hw g b0 i au s M H E I W st d8;rw[uN,aLD,oR IV,yg,f1 CG];exact wpAny_pyNext_tuple_end iv st baY ah aaJ};self:=Ch (wpAny_pyIter_tupleiter st h)
theorem aNW{P:Program}{w:World}{K:PySem.W.Frag}{c7:Expr}(it:Addr)(lo:Int)(n:Nat):jy (R7 lo n) (a1h h it (lo+cd i*1) (cJ-cd i) 1)where mem:=bK;obj:=ph (by rw[nm it,bY];exact av st (fun v z=>Yz));keep:=bdq;item:=by{intro X C hw g b0 i au s M H E I W st d8;rw[uN,yg,Li 1,ep d3];refine q7 aoi (as t);rw[a1g]};done:=by{intro X C hw g b0 i au s M H E I W st d8;rw[yg];exact a1f iv st (ey (n<=i) d8 (nA this)) aaJ};self:=Ch (a1e st h)
universe L2
namespace L2
open PySem PySem.Spec PyProof.Rows
section z
variable{X:Cx}{c7:Expr}
inductive jL(K:PySem.W.Frag)(R:rH)(x:V)(a8:Hp):Prop|mk:gA Yp (R6 K a) (jL K R x a8)
def aNX(K:PySem.W.Frag)(h8:TE):TI:=E2 (jL K R)
inductive jU(K:PySem.W.Frag)(R:rH)(x:V)(a8:Hp):Prop|mk:gA (uU K a8 a O) aac (jU K R x a8)
def aNY(K:PySem.W.Frag)(h8:TE):TI:=E2 (jU K R)
theorem om{d:PySem.W.Frag}{l:Expr}{h8:TE}(a5:M l h8)(g:AX):hn l (aNX d h8):=by rw[rB,JC];refine ks (a5 au s M H _ I h);rw[JN,bhg,bY];cases r1;rw[oR (CI e0)];refine aBf qG (Ir (aNU a _));rw[nm fI,bY];exact aJr
theorem ada{d:PySem.W.Frag}{l:Expr}{h8:TE}(a5:M l h8)(g:AX):hn l (aNY d h8):=by rw[rB,JC];refine ks (a5 au s M H _ I h);rw[JN,bhg,bY];cases r1;rw[oR (r.tuple e0)];refine wpAny_pyIter_tuple (show a4.heap.IsTuple a eT from p) (Ir (aNV a _));rw[nm fI,bY];exact aJr
theorem aNZ{pins:bw}{M:St}{H:Hp}{s:Shared}{R:rH}{E:aU}{lo hi:Int}{t u v:Tok}{D:Nat}(I:aY)(a3: -(2^62)<=lo)(a9:lo<2^62)(e2: -(2^62)<=hi)(e5:hi<2^62)(q:R (R7 lo apd) H):a2 (MF gk) bgj E (dm aaA D):=by refine a1i (a1j ..) (small_one a3 a9 e2 e5) ?_;have r:aR H (dm aaA D):=MD Pf;rw[c (fI aaA) [fI aaA] _ _ H (agZ (t':=D) Pf) (aNW _ lo apd) (v ?_ tV q)];{rw[aS b4 (lo+ae 0*1) lo];have b9:ae apd-ae 0=Vd lo hi 1:=by{rw[rangeSize_one];split<;>grind};rw[b4,b9];exact gI};{rw[nm (fI aaA),bY];exact aJr}
inductive jR1(R:rH)(vs:af)(a8:Hp):Prop|mk:∀j:Int,e [IU] (-(2^62)<=j) (j<2^62) (R (R7 0 aBg) a8) (jR1 R vs a8)
def aN6(d6:TA):TI:=qI (jR1 R)
theorem aN7{a:Expr}{d6:TA}{p pos:Pos}(d8:Gl X "range")(c4:f9 "range")(b3:PA X [a] d6)(c0:f8 [a] [(ai,e0 a)]):hn (er "range" [a]) (aN6 d6):=by rw[JC];refine jz boot_range rfl;rw[JO];obtain⟨j,e,d2,q2,q⟩:=d2;rw[bY];cases r1 with|cons J C=>rw[nU,Eb];exact call_range_1 (aNZ r aQ aQ d2 q2 ag)
def aN8(wi:TI)(g:TG)(c3:TS):TS:=fZ (Dy (em St (W 0 m M a8) (V ak1 alE OD Po (∃N:pJ,(ak6)/\j x L Pw (ga M (r4 N))))))
noncomputable def Kz(a8:bg)(h:Heap):bw:=a8.filterMap (h8 (B (zb b) (ld (b,o))))
theorem aN9{a8:bg}{h:Heap}{b:Addr}{o:Obj}(U:b∈a8)(e:md):(b,o)∈Kz a8 h:=List.mem_filterMap.mpr (v b U (x Ap))
theorem aN_{a8:bg}{h:Heap}{p:ef×Obj}(c2:p∈Kz a8 h):p.1∈a8/\bA p.1 p.2:=by rw[aO b U (List.mem_filterMap.mp c2)];cases q:zb b with|none=>{simp_all}|some o=>rw[a6 q];have d3:=cZ e;rw[tH];exact⟨U,q⟩
theorem Inv.pinned{pins:bw}{M:St}{H:Hp}{s:Shared}{a8:bg}(I:aY)(W:hR (iO H))(d0:D8 gY):Inv X (au++Kz a8 bh) M H s:=I.aqD (gS (om (qH _ z) (J (by rw[ck U (aN_ z)];obtain⟨F,g4,h3,_⟩:=W p.1 U;rw[bJ d3 d (d0 p.1 U),Zd,a4 d3 (a e F g4 h3 d)]))))
theorem Inv.R8{pins d5:bw}{M:St}{H:Hp}{s:Shared}(I:Inv X (au++d5) M H s):aY:=I.aqD (gS (Mt p (qH _ (vO _ c2))))
theorem aN'{iter:Expr}{a:uc}{wi:TI}{g:TG}{c3:TS}{pos:Pos}(c2:aL4)(b0:fQ)(hi:aax)(d8:aKk)(U:aIN)(c0:anw):bhv:=by revert c2 b0 hi d8 U c0;revert X c7 iter a wi g c3 pos;refine Kk;generalize aG=X,aA=c7,aF=iter,aE=a,aD=wi,aB=g,aH=c3,aI=pos;intro c2 b0 hi d8 U c0;rw[kW];refine wpAny_For (bD aFW (fun v a4 a3=>bD a3 (fun e1 b5 a9=>?_))) c0;obtain⟨it,a8,l,d0,b7,e,Y,T,b4,h3,W,⟨c9,b2⟩,turn⟩:=a9;rw[bY];have V:∀{L:Hp},Yl->hR (iO L):=fun d1 b U=>⟨d1 b U,(aom).2⟩;refine codeAny_forLoop_any (fun n c1=>∃i g0 L,N aFQ (l i mD) Yl (W i n g0 L)) ?_ c9 (a 0 M b7 Y b4 (db (aom).1) b2);rintro n c8⟨i,j,d4,O,d2,q,w⟩;rcases eV i n j d4 w with⟨stop,y⟩|⟨go,N,hN,step⟩;{refine aBh c2 (bD (T.done X rfl rfl rfl b0 i au c8 j d4 oM O (V q) d2 stop) (fun J d9 e0=>?_));rw[kr a6 a5];subst a6;exact agU (d j d4 a5 y)};{rw[po (bD (T.item X rfl rfl rfl b0 i au c8 j d4 oM O (V q) d2 go) (fun J d9 e0=>?_)),bl a6 e5 e0];subst a6;rw[po (bD e5 (fun _ f9 e0=>?_))];obtain⟨x,g6,A,p,z,d3,B⟩:=e0;rw[po (bD (d8 _ f9 j g6 x u _ (A.pinned (V B) (aBi _ _ d3)) p (MH x g6 z)) (fun _ h1⟨C,h5,F,c6⟩=>aBh c2 (bD (U _ h1 C h5 _ F c6) (fun f R c=>?_))))];have again:∀{k:St}{h9:Hp},Inv X (au++Kz a8 f9.heap) k h9 R->N k h9->s5 (∃i g0 L,N (Inv X au g0 L R) (l i R.heap) Yl (W i m g0 L)):=fun{k h9}r h8=>by{obtain⟨f7,c4,E⟩:=hN k h9 h8;rw[b f7 c4 (i+1) k h9 r.R8 (ag0 _ _ _ d3 (td (a9S).1)) tV E,bJ e d (BP d3)];exact aV a9S};cases f with|next=>{rw[bcr]}|cont=>{rw[bcr]}|brk=>{obtain⟨k,h9,r,c⟩:=c;exact d k h9 r.R8 c}|ret v=>rw[j t k h9 r b1 c c (c t k h9 r.R8 b1 c)]}
universe z
theorem aOa{K:PySem.W.Frag}{a:Addr}{O:af}{g:TG}{c3:TS}{D:Ends}{M:St}{H:Hp}(j:aHy)(b1:amO)(a5:lw Qs jg)(c0:bdf)(hd:tu bx):f2 Qu Qu Qu:=by rw[eU bx Qs bx,apZ,ci bgk,fI Z bx];{refine i2 (d O O[i] q (x pF)) baO;rw[fw y y,bY];exact bhh};{have e:i=bx:=by{rw[aIr]};rw[bY];exact dp aKG apo}
theorem aOb{K:PySem.W.Frag}{a:Addr}{O:af}{g:TG}{c3:TS}{D:Ends}{M:St}{H:Hp}(j:aHy)(b1:amO)(a5:lw Qs uG)(c0:bdf)(hd:tu bx):f2 (aac) (aac) (aac):=by rw[eU bx Qs bx,apZ,ci bgk,fI Z bx];{refine i2 (d O O[i] q (x pF)) baO;rw[fw y y,bY];exact bhh};{have e:i=bx:=by{rw[el]};rw[bY];exact dp aKG apo}
theorem aOc{lo:Int}{n:Nat}{g:TG}{c3:TS}{D:Ends}{M:St}{H:Hp}(j:aHy)(b1:amO)(c0:lw (i<n) (be aoi M H aGe))(hd:tu n):f2 PD PD PD:=by rw[eU n Qh n,apZ];by_cases Z:i<n;rw[or baN (c0 i M _ Z p)];{have e:i=n:=by{rw[aIr]};rw[bY];exact dp a_ apo}
theorem aOd{c:TT}{c3:TS}{D:Ends}{M:St}{H:Hp}(j:pJ)(a:St->Hp->Nat)(b1:j M H)(c0:j M H (j M H) (mz (c3 (agW (fun g0 L=>j g0 L/\a g0 L<a M H)) M a8) (mF M a8)))(d:∀M H Q h4,(j b a8 (Q b a8) (h4 b a8))->c M H Q->c M H h4):aqO c c3 D M H:=by rw[ak (fun m M H=>m=a M H/\j M H) (dl b1)];rintro m M H⟨rfl,p⟩;refine d M H _ _ (fun b a8 q=>?_) (c0 M H p);cases b with|true=>{exact av (fun g0 L e0=>by rw[kr u l];exact as l rfl u) q}|false=>exact q
universe L2
namespace L2
open PySem PySem.Spec PyProof.Rows
abbrev R2:=Fn
def KA(X:Cx)(f:Z6)(J:R2):Prop:=∀(pins:bw)(s:Shared)(M:St)(H:Hp)(x y:V)(v u:Value)(Q:VK),bF tU kY (J x y H Q) (f v u)
def UnR(X:Cx)(f:cR->XQ)(J:l6 V):Prop:=∀(pins:bw)(s:Shared)(M:St)(H:Hp)(x:V)(v:Value)(Q:VK),Fr (de (f v) IL)
def Bu(X:Cx)(f:Value)(J:l6 af):Prop:=∀(pins:bw)(s:Shared)(M:St)(H:Hp)(O:af)(b1:aM)(Q:VK),i aY nL (J O H Q) (x3 f)
def aOe(X:Cx)(J:be V Hp (AD)):Prop:=∀(pins:bw)(s:Shared)(M:St)(H:Hp)(x:V)(v:Value)(Q:AD),Fr (de (aBj v) aGG)
def Bv(J:R2)(d6 c3:TE):TE:=qx (c3 M a8 (p8 (J x y b7 Q)))
def tUn(J:l6 V)(d6:TE):TE:=qx (J x a8 Q)
inductive rI(C:au Int Int)(g:aIe)(x:V)(y:V)(H:Hp)(Q:VK):Prop|mk:∀i j,b x hP (y=IU) (C i j) (Q rR H) (rI C g x y H Q)
def FY(g:aIe)(x:V)(y:V)(H:Hp)(Q:VK):Prop:=match x,y with| .int i,.int j=>Q rR H|_,_=>cD
theorem FY.out{g:aIe}{x y:V}{H:Hp}{Q:VK}(h:FY g x y H Q):Hg (Q rR H):=lD FY (oP h)
inductive rU(g:Int->V)(x:V)(H:Hp)(Q:VK):Prop|mk:o i (x=hP) (Q (g i) H) (rU g x H Q)
section z
variable{X:Cx}{a b c:Expr}{d6 c3 i:TE}{pos:Pos}
theorem aOg(b3:fU)(U:lg){pins:bw}{s:Shared}{M:St}{H:Hp}{R:be V V Hp}(I:aY)(h:d6 M H (jA (c3 M a8 (p8 (R x y b7))))){Q:aU}{f:Z6}(W:∀v u b5 x y b7,c (aR b7 b5) tU kY (R x y b7) (a2 (f v u) Q oM b5)):de (e0 a) (pn (f v u) Q):=by refine jl rL (bD (o7 _) (fun u b5 e0=>dK y r2 (W v u b5 x y b7 Y r1 r2 q2)))
theorem ll{j:Operator}{J:R2}(d0:f3 j J)(b3:fU)(U:lg):M (.BinOp a j b pos) Ym:=nH (wpAny_BinOp bgb)
theorem aqR{j:UnaryOp}{J:l6 V}(d0:UnR X (unaryOp j) J)(b3:fU):M (.UnaryOp j a pos) (tUn J d6):=nH (UnaryOp_ (jl rL (d0 au a4 M a8 x v Q r r1 d2)))
theorem opI{f:Z6}{C:au Int Int}{g:aIc}(rule:Cy (C i j->yR rR->no aJq)):KA X f (ll C rR):=by rw[xo];obtain⟨i,j,rfl,rfl,b0,q⟩:=h;rw[wZ,akK];exact rule i j t t' s _ _ b0 (n5 rR)
theorem ade{f:Z6}{g:aIc}(rule:Cy (yR rR->no aJq)):KA X f (qr rR):=KZ (n5 rR)
theorem aOh{f:Z6}{g:dI Int Int}(rule:Cy (jV rR->no aJq)):KA X f (oL rR):=KZ (eT rR q)
def aOi(i j:Int):Prop:=0<j/\j<1073741824
def adf(i j:Int):Prop:=(-(2^64)<i/\i<2^64)\/(-(2^64)<j/\j<2^64)
theorem adf.ok{i j:Int}(h:adf i j):IntMulOk i j:=by rcases h with⟨a3,a9⟩|⟨a3,a9⟩;rw[l (.of_left (a1k a3 a9)),l (.of_right (a1k a3 a9))]
theorem bi1(k:Nat):xt<=2^k:=by rw[tY]
theorem aOj:f3 .Add (qr (i+j)):=ade (iL q (add_int q))
theorem ys:f3 .Sub (qr (i-j)):=ade (iL q (sub_int q))
theorem FZ:f3 .Mult (ll adf (i*j)):=opI (fun _ _ _ _ _ _ _ b0 q=>mul_int q b0.ok)
theorem aqT:f3 .FloorDiv (ll aOi (i/j)):=Gr (by rw[gw b0.1,fe b0.2];exact floordiv_int (fY (Kn z.m a3)) bz (.inl (a1l eO)))
theorem aOk:f3 .RShift (ll (fun _ j=>0<=j) (i/2^aBg)):=Gr (rshift_int b0 bz)
theorem R9:f3 .BitAnd (qr (Builtin.bitAnd i j)):=ade (iL q (and_int q))
theorem unI{f:cR->XQ}{g:Int->Int}(rule:∀(i:Int)(t:Tok)(s:Shared)(Q:aU)(E:aU),yR (g i)->no (f (eZ i))):UnR X f (rU (dJ (.int (g i)))):=by rw[bc5,aJ i rfl h,wZ];exact rule i t s _ _ (n5 (g i))
theorem aqU:UnR X (unaryOp .USub) (rU (dJ (.int (-i)))):=unI (fun _ _ _ _ _ q=>neg_int q)
universe z
noncomputable def aqV:dI V V| .bC,.bC=>ab| .bC,.int _=>ab| .int _,.bC=>ab| .bC,.bl _=>ab| .bl _,.bC=>ab| .bC,.str _=>ab| .str _,.bC=>ab| .int _,.int _=>ab| .bl _,.bl _=>ab| .str _,.str _=>ab| .iC _,.iC _=>ab| .int _,.str _=>ab| .str _,.int _=>ab| .bl _,.str _=>ab| .str _,.bl _=>ab|_,_=>ai
inductive rEq(x y:V)(H:Hp)(Q:VK):Prop|mk:aqV x y=ab->dB (ar x y)->rEq x y H Q
inductive rNe(x y:V)(H:Hp)(Q:VK):Prop|mk:aqV x y=ab->dB (! ar x y)->rNe x y H Q
theorem dN{i j:Int}:ar (cp i) (cp j)=(i==j):=fR
theorem aqY{i j:Bool}:ar (CJ i) (CJ j)=(i==j):=A_
theorem aqZ{i j:Str}:ar (V.str i) (V.str j)=(i==j):=A_
theorem aq0{i j:fq Ml}:ar (V.iC i) (V.iC j)=(aBk==j.toList):=by rw[iN];cases i;cases j;simp
section z
variable{X:Cx}{a b c:Expr}{d6 c3 i:TE}{pos:Pos}
theorem aOm{pins:bw}{M:St}{H:Hp}{s:Shared}{Q:VK}{k G:Bool}(I:aY)(q:dB k)(e:k=G):fX (.bool G) s:=by rw[bY];exact eT k q
theorem gM:be .Eq rEq:=by rw[xo,dZ c0 h];cases x with|bC=>{rw[cx (PySem.EqNone.eq_none_none uB) (PySem.EqNone.eq_none_bool uA) (PySem.EqNone.eq_none_int uA) (PySem.EqNone.eq_none_str uA)]}|bl i=>{rw[hi (PySem.EqNone.eq_bool_none uA) (eq_bool (h4 aqY)) (PySem.EqMixed.eq_bool_str uA)]}|int i=>{rw[he (PySem.EqNone.eq_int_none uA) (eq_int (h4 dN)) (PySem.EqMixed.eq_int_str uA)]}|str i=>{rw[cy (PySem.EqNone.eq_str_none uA) (PySem.EqMixed.eq_str_bool uA) (PySem.EqMixed.eq_str_int uA) (eq_str (h4 aqZ))]}|iC i=>{rw[IO (PySem.W.eq_bytes (h4 aq0))]}|_=>cases y<;>rw[un c0]
theorem R_:be .NotEq rNe:=by rw[xo,dZ c0 h];cases x with|bC=>{rw[cx (PySem.EqNone.ne_none_none uA) (PySem.EqNone.ne_none_bool uB) (PySem.EqNone.ne_none_int uB) (PySem.EqNone.ne_none_str uB)]}|bl i=>{rw[hi (PySem.EqNone.ne_bool_none uB) (ne_bool (sU aqY)) (PySem.EqMixed.ne_bool_str uB)]}|int i=>{rw[he (PySem.EqNone.ne_int_none uB) (ne_int (sU dN)) (PySem.EqMixed.ne_int_str uB)]}|str i=>{rw[cy (PySem.EqNone.ne_str_none uB) (PySem.EqMixed.ne_str_bool uB) (PySem.EqMixed.ne_str_int uB) (ne_str (sU aqZ))]}|iC i=>{rw[IO (PySem.W.ne_bytes (sU aq0))]}|_=>cases y<;>rw[un c0]
theorem lq:be .Lt (oL (cv (i<j))):=sF (lt_int q)
theorem yt:be .LtE aaH:=sF (le_int q)
theorem uV:be .Gt a9i:=sF (gt_int q)
theorem uW:be .GtE (oL (bi j i)):=sF (ge_int q)
theorem yu:be .Is (sz (y= .bC/\dB (ar x .bC))):=Iq (is_none_gen (h4 ?_))
theorem KC:be .IsNot (sz (y= .bC/\dB (! ar x .bC))):=Iq (isnot_none_gen (h4 ?_))
theorem Bw(b:Expr){j:CmpOp}(h:ey (j≠.In) Ve)(a9:ey (j≠.NotIn) Ve):Yt:=by have b4:(j==CmpOp.In)=ai:=by{rw[xD]};have b9:(j==CmpOp.NotIn)=ai:=by{rw[xD]};cases b<;>first|rfl|(show(_&&(j==_||j==_)&&_)=ai;rw[b4,b9,aBl,ag1,agY])
theorem KD{j:CmpOp}{J:R2}(d0:Rn)(b3:fU)(U:lg)(c4:Yt):M alS Ym:=nH (wpAny_Compare1 bgb c4)
def uX(t:TE):TT:=jD (jB Q)
theorem KG{j:CmpOp}{J:R2}(d0:Rn)(b3:fU)(U:lg)(c4:Yt):a9d:=by rw[fx];refine a0_ (lu rL (C4 (bD a7E (fun c c8 e0=>?_)))) c4;rw[X d4 O m q3 e0];obtain⟨k,e,q3⟩:=q3.out;rw[bY];cases m;exact vQ (v d4 O q3)
def KH(J B:R2)(d6 c3 i:TE):TE:=qx (c3 M a8 (p8 (J x y b7 (fun z d4=>z k (z= .bl k) (Z k (i M d4 (fun c5 e4=>B y c5 e4 Q)) (Q (.bl ai) d4))))))
theorem aq1{j f:CmpOp}{J B:R2}(d0:Rn)(l:be f B)(b3:fU)(U:lg)(b0:aao)(c4:bez):M a'C (KH J B d6 c3 i):=by rw[fx];refine Compare_chain (lu rL (chain_link bbK)) c4;obtain⟨z,d4,O,m,k,e,q3⟩:=P;rw[bY];cases m;refine vQ ?_;cases k with|false=>{exact ite_ff (bi ai d4 O q3)}|true=>exact ite_tt (chain_last (bD bfO (fun c5 d9 e0=>b d3 e4 a5 c9 i6 e0 (Ld Q))))
theorem aq2{j f:CmpOp}{J B:R2}(d0:Rn)(l:be f B)(b3:fU)(U:lg)(b0:aao)(c4:bez):PT X a'C (uX (KH J B d6 c3 i)):=by rw[fx];refine isTrue_chain (lu rL (test_link bbK)) c4;obtain⟨z,d4,O,m,k,e,q3⟩:=P;rw[bY];cases m;refine vQ ?_;cases k with|false=>{exact ite_ff (v d4 O q3)}|true=>refine ite_tt (test_last (bD bfO (fun c5 d9⟨d3,e4,a5,c9,i6⟩=>bD (Ld _) (fun d' f9 e0=>?_))));obtain⟨h6,g6,A,p,e2⟩:=e0;obtain⟨f7,b9,e2⟩:=e2.out;subst b9;rw[a4 p (vQ (v g6 A e2))]
def aq3(K:PySem.W.Frag)(x:V)(H:Hp)(k:Bool):Prop:=match x with| .bC=>k=ai| .bl b=>k=b| .int i=>k=(i !=0)| .str y=>baJ| .iC y=>baK| .ref p=>(z O ZE (k=! aBm))\/(z O (nc O) (k=! aBm))\/z F (bh p pW) (k=! F.isEmpty)|_=>cD
theorem aOn{c:Type}{F:hT}{vs:Fm}(J:tQ):(! vs.isEmpty)=! F.isEmpty:=sE J
theorem aOo{O:af}{ar:aM}(J:Ew):(! ar.toArray.isEmpty)=! aBm:=sE J
theorem Sa:cd hv<2^63:=by rw[qI];decide
theorem aOp:aOe X (fun x H Q=>z k (aq3 X.K x H k) (Q k H)):=by rw[bc5,aJ k e h];have c0:=qI;cases x with|bC=>{rw[hO,bY];exact truthy_none (v H I q)}|bl b=>{rw[hO,bY];exact vQ (v H I q)}|int i=>{rw[wZ,bY];exact PySem.P.truthy_int (v H I q)}|str y=>{rw[o3 baJ (PySem.P.truthy_str bM (v H rm q))]}|iC y=>{rw[o3 baK (PySem.W.truthy_bytes (bn b6 c0.l) (v H rm q))]}|ref p=>{rw[hO];have d3:=e;rcases d3 with⟨O,S,d3⟩|⟨O,S,d3⟩|⟨F,S,d3⟩;rw[oC (sQ S) (wpAny_truthy_list zg bz a9E),oC (CF S) (truthy_tuple d5 bz a9E)];{rw[tH];obtain⟨c9,b2,vs,J,m⟩:a1 hY/\lb p/\z vs tQ (s.heap.DictOf aJj p vs):=eo p _ S;have E:=Mn J;exact wpAny_truthy_dict b2 m bM (ap H rm (aOn J) q)}}|_=>exact(du cD e).elim
theorem aOq(b3:fU)(a0:apl):BJ X.K:=nH (aBb (jl rL (aOp au a4 M a8 x v Q r r1 d2)) (a0 _))
theorem vals1{x:V}{b1:aM}(J:ey [x]):a9n:=by cases J with|cons r1 r2=>rw[a4 r2 (dl r1)]
theorem vals2{x y:V}{b1:aM}(J:ey Jh):∃u c5,b1=[u,c5]/\pK/\gP y c5:=by cases J with|cons r1 r2=>cases r2 with|cons m c9=>rw[a4 c9 (f _ _ r1 m)]
theorem aOr(b0:fQ):ph "max" (j>i):=by rw[Zp,a0 i j rfl q];obtain⟨u,c5,rfl,⟨t,rfl⟩,⟨t',rfl⟩⟩:=vals2 J;refine max_two_ints iv ber;by_cases b8:j>i;rw[di b8 b8 ei,bdJ]
theorem aOs(b0:fQ):ph "min" (j<i):=by rw[Zp,a0 i j rfl q];obtain⟨u,c5,rfl,⟨t,rfl⟩,⟨t',rfl⟩⟩:=vals2 J;refine min_two_ints iv ber;by_cases b8:j<i;rw[di b8 b8 ei,bdJ]
universe z
universe L2
namespace L2
open PySem PySem.Spec PyProof.Rows
structure KI(h:Heap)(x dx C:Addr)(j:dM):Prop where
 obj:bA x (UZ C dx)
 ns:agL dx j
 ne:dx≠x
set_option tactic.hygienic true in theorem aOt{h:Heap}{dx:Addr}{j:dM}(n:agL dx j):D9 (bA dx m):=by obtain⟨o,a7,e1,d0,hd,c3,_,c4⟩:=n;rw[aa o d0 (fun c=>?_),dd (c4 c)];unfold nsFind findBy at e;rw[pu Array.find?_toList];delta aBn;rw[hd];dsimp only;split;rw[az];{rename_i q;rw[a6 q];have a:a7.toList.any (·.refKey)=ai:=by{rw[List.any_eq_false];intro y b6;obtain⟨z,t,b⟩:=c3 y (Array.mem_toList_iff.mp b6);simp[DictEntry.refKey,b]};rw[aO ag];exact gz aa e}
theorem KI.look{h:Heap}{x dx C:Addr}{j:dM}(I:KI h x dx C j):D9 (PySem.W.InstAt h x (UZ C dx) C (aa m)):=let⟨m,d0,a5⟩:=aOt I.ns;v m (bj I.obj rfl d0) a5
section z
variable{prog:Program}{w:World}{A:Around}{E:aU}{s:Shared}{K:PySem.W.Frag}{x dx C f:Addr}{j:dM}{c:Str}{v:Value}
theorem get_map{a:Bool}{Q:aU}(X:vK bh)(I:aIZ)(d8:sL c)(c7:aG8)(b3:hu c=aa ae)(d3:j c=aa v)(g:a1m v=ab)(h:Q v OU):bl (aBp kN c a):=Dc (PySem.W.get_value X d0 (aBo d8).1 (PySem.W.findObj_own c7 b3 rfl ag) g h)
theorem aOu{d5:al6}{Q:dE (cR×aM)}(X:vK bh)(I:aIZ)(d8:sL c)(W:hC c f)(c6:p2 rx)(d3:j c=ae)(h:Q (rx,[kN]) s):bl (a1o kN c d5):=Dc (PySem.W.method_fn X d0 (aBo d8).1 (aBo d8).2 W (a1n c6) (by show B (aBn c m) (·.isSome)=aa ai;rw[a5,d3];rfl) h)
theorem aOv{ns:cW}{Q:Qa}(X:vK bh)(I:aIZ)(c0:a_8)(c2:aAT K C=ab)(c6:aBq K C c=aa ae)(c7:aG8)(hw:a1p j ns)(G:a1 zh)(h:o h' (KI h' x dx C (e7 (av (y=c) v (j y)))) (pb dx) (Q () (dm h' (dE+2)))):bl (setAttr kN c v):=by rw[bW d0 a5 I.look];refine PySem.W.set_plain X d0 c0 (PySem.W.osa_open (s:=OU) (r:=ae) X d0 c2 c6 (fun b=>?_));obtain⟨R,b0,p⟩:=PySem.W.any_some c7;rw[C (fa (bF (wpAny_loadPart I.obj (bF (PySem.W.Looks.here (s:=OU) (PySem.W.looks_clsIn X b0) ?_)))))];rw[p];refine cg (a:=aa dx) (bF (fa (wpAny_nsSet1 (s:=OU) I.ns (fun h' j7 a=>?_))));obtain⟨g,i,k,d,e,f⟩:=j7.count (PySem.Within.cons c v hw);rw[C (wpAny_lookBehind d (t e (pastItsLine_dict (cn f (x (Vf G))))) (cg (h _ (v (ac a _ (hs I.ne) I.obj) j7 I.ne) a)))]
theorem aOw{R:Qb}{vs:aM}{a:Jd}(X:vK bh)(c4:amm)(hi:a8M)(W:PySem.W.typeIn K rx=aa (.type "function"))(h:Hh XG (CK (wX::vs)) (.call rx ⟨.ref iu::vs,a⟩) (PySem.W.InitBack iu R) bcR):v1 (.call wX ⟨vs,a⟩):=b c7 g d t os s (PySem.W.make_core (PySem.W.makes_of X c4) (PySem.W.looks_findIn X hi) (fun self=>PySem.W.bind_fn X self W) gj h)
universe z
noncomputable def kk(f:Str)(v:V):hU->hU|[]=>[(f,v)]|(g,x)::J=>v g f ((g,v)::J) ((g,x)::gl J)
theorem dh(f g:Str)(v:V):∀G:hU,fg (gl G) g=av (g=f) v (Vg g)|[]=>by{show Md g [(f,v)]=_;rw[N h g f,aZ,aZ]}|(k,x)::J=>by rw[aMf];rw[aLt,cK];{rw[aO c3,N h g k,aZ];{simp only[Md,(aBr h)];exact(dh f g v J)}}
theorem adg(f:Str)(v:V):∀G:hU,f∈gZ (gl G)/\E g (g∈aBs fM) (g∈gZ (gl G))|[]=>⟨bK,fun g h=>ah⟩|(k,x)::J=>by obtain⟨c2,N⟩:=adg f v J;rw[aMf];rw[aLt,aZ,cK]
theorem aq4(f:Str)(v:V):∀G:hU,bd (gl G) (U0+1)|[]=>aGK|(k,x)::J=>by have d6:=aq4 f v J;rw[aMf];rw[aLt,aZ,aZ]
theorem rW.some_of{v:V}{o:ps}(J:rW pB o):z u (ev o) jh:=by cases o with|none=>{trivial}|some u=>exact aP u J
theorem rW.none_of{o:ps}(J:rW ae o):o=ae:=by cases o with|none=>{rfl}|some u=>exact(du cD J).elim
theorem aOx{v:V}{u:Value}(J:jh):a1m u=ab:=by cases v with|bC=>{rw[Fi]}|bl b=>{rw[Fi]}|int i=>{rw[ul QF]}|str x=>{rw[ul aok]}|iC b=>{rw[ul (a0T b t)]}|RU b=>{rw[ul (a0S b t)]}|ref a=>{rw[Fi]}|ty n=>cases(a0 u (Mm n) J);rfl
section z
variable{P:Program}{w:World}{H L:Hp}{h h':Heap}{a C dx:Addr}{G b:hU}
theorem aq5(dr:la)(e:amD):I j (KI h a dx C j) (∀f,aJl) (a83/\U0<=1000/\bh dx YK):=by obtain⟨d,z,ne,N,j,n,J,q⟩:=du (g8 (aC C G)) (dr a _ e);exact c j (v N n ne) J q z d
universe z
structure yv(K:PySem.W.Frag)(C:Addr):Prop where
 pg:sL Str.empty
 hd:aG8
 po:aAT K C=ab
 sa:a_8
theorem yv.get{K:PySem.W.Frag}{C:Addr}(c:Zh)(f:Str):sL f:=c.pg
def Sb(K:PySem.W.Frag)(C:Addr)(f:Str):Prop:=hu f=aa ae
theorem Sb.aOy{K:PySem.W.Frag}{C:Addr}{f:Str}(n:anA):aBq K C f=aa ae:=f5 aBq (show hu f=aa ae from n)
structure Meth(K:PySem.W.Frag)(C:Addr)(m:Str)(f:Addr):Prop where
 at_:hC m f
 fn:p2 rx
 kp:aH7
section z
variable{X:Cx}{pins:bw}{M:St}{H:Hp}{s:Shared}{a C dx:Addr}{G:hU}{f:Str}{v:V}{A:Around}{E:aU}
theorem aq6{b:Bool}{Q:aU}(I:aY)(e:amD)(c:aad)(n:Sb X.K C f)(l:aHm)(h:l u c1 (aR H c1) jh (Q u c1)):mp (aBp bc f b):=by rw[beF,bl hu m (a1q (v:=v) (o:=j f) cq)];exact get_map vS Y (c.get f) c.hd n hu (aOx m) (h u _ rm m)
theorem aOz{m:Str}{g:Addr}{d5:al6}{Q:dE (cR×aM)}(I:aY)(e:amD)(c:aad)(k:y3 g)(l:Vg m=ae)(h:Q (.ref g,uf) s):mp (a1o bc m d5):=by rw[beF];exact aOu vS Y (c.get m) k.at_ k.fn (rW.none_of cq) h
theorem aq7{y:V}{u:Value}{Q:Qa}(I:aY)(e:amD)(c:aad)(n:Sb X.K C f)(a5:U0<1000)(Z:kY)(h:i1 (aR (ad a bcW) c1) ()):mp (setAttr bc f u):=by obtain⟨j,Y,J,wi,_,d0⟩:=aq5 eo e;refine aOv vS Y c.sa c.po n.aOy c.hd wi (ac bA qI (cU a5)) (fun h' d sb=>h _ ?_);refine Vh (x:=a) (e:=dx) (jz e) (.inr d0) (fun b q U z=>sd z) (let⟨o,_,_,d3,_⟩:=d.ns;np d3) (a (Y Y.ne d0) ?_ Y.ne d.obj _ d.ns (fun g=>?_) (fun g d8=>?_));rw[cb (aq4 f y G) pM];{rw[dh];rw[T g f,di q q Z,aZ]};{rw[T g f,Z q (adg f y G).1];{refine(adg f y G).2 g (wi g (J (d8 ?_)));show(av (g=f) u (j g))=ae;rw[L (bj q) z]}}
theorem Inv.made(I:aY):aR (upd (ad aO (.own iu)) iu a't) bcR:=by rw[ad b4 (df (mH MI) aO) MI (aBt bh rfl)];refine(cE (.own iu) (mH MI) (qw (bT q)) (aW b4)).laid (a:=iu) (o:=a't) (t':=dE) (qw (bT q)) (qE (lz _ _)) ?_;have ne:aO≠iu:=gC jR;rw[e (wx ne) cS ne (by have:=aBt (mH MI) (o:=UZ C aO) rfl;rwa [lz]at this) uu ((Heap.Ns1.of_empty (a MI #[] _ b4 (ai (f3 (cy a0 ah)) gW))).at (ly (bT q))) (au CK) (oW (cy rfl b6))]
theorem aOA{prog:Program}{w:World}{env:Env}{e:Expr}{f:Str}{pos:Pos}{s:Shared}{Q:aU}(U:ag2 e f env (kc e)=kc e)(h:ie (kc e) (fun o l=>am (aBp o f ab) Q E l)):bl (kc a68):=Attribute_any_ h (bj arm_eval_Attribute U)
universe z
inductive jF(K:PySem.W.Frag)(f:Str)(Q:VK)(x:V)(a8:Hp):Prop|mk:∀a C dx G v,b x bc aIE Zh anA (aHm->Q v a8->jF K f Q x a8)
def aOB(K:PySem.W.Frag)(d6:TE)(f:Str):TE:=k8 (jF K f Q)
inductive jS(K:PySem.W.Frag)(f:Str)(N:jb)(y x:V)(b7:Hp):Prop|mk:∀a C dx G,b x bc (b7 a=aa (aC C G)) Zh anA (U0<1000->N (upd b7 a bcW)->jS K f N y x b7)
def aOC(K:PySem.W.Frag)(d6 L:TE)(f:Str):TS:=fZ (L M H (sq (d6 M a8 (jS K f (mF M) y))))
def adh(X:Cx)(j:Operator)(F:Fn):Prop:=∀(pins:bw)(s:Shared)(M:St)(H:Hp)(x y:V)(u v:Value)(Q:VK),bF pK Yh (F x y H Q) (aBc j u v)
def aOD(K:PySem.W.Frag)(d6 L:TE)(F:Fn)(f:Str):TS:=fZ (d6 M H (jA (∃a C dx G v,x=bc/\aIE/\N Zh anA aHm (L M a8 (p8 (F v y b7 (fun z d4=>∃t b,d4 a=aa (.ins C t b)/\cw<1000/\mF M (qz (.ins C t (kk f z b))))))))))
section z
variable{X:Cx}{o e B:Expr}{f:Str}{pos E T:Pos}{d6 L:TE}
theorem aOE(a0:M e d6)(U:bgc):zt X.K:=by rw[fx];refine aOA U (wk EH);obtain⟨x,a8,r,R,a,C,dx,G,v,ex,d0,c,n,l,q⟩:=P;rw[lW,En];exact aq6 r d0 c n l (fun F b5 Y m=>a v a8 Y m q)
theorem aOF{d:PySem.W.Frag}(b3:amF)(d3:an_)(c0:Bt (j0 f E))(g:AX):bn [j0 f E] B pos (aOC d d6 L f):=by rw[rB,kW];refine plainObj_wpAny_Assign_Attribute (bD a7D (fun u a4⟨y,a8,r,Z,q⟩=>bD (m9 _ q) (fun ov b5 P=>?_))) c0;obtain⟨x,b7,Y,R,a,C,dx,G,ex,d0,c,n,l,q2⟩:=P;rw[lW,fh (ov=dk a) R];exact aq7 Y d0 c n l Z (fun c8 O=>d M _ O q2)
theorem adi{d:PySem.W.Frag}{j:Operator}{F:Fn}(b3:amF)(d3:an_)(i:adh X j F)(g:AX):fq (j0 f T) B (aOD d d6 L F f):=by rw[rB,kW];refine wpAny_AugAssign_AttributeAny (bD rL (fun ov a4 P=>?_));obtain⟨x,a8,r,R,a,C,dx,G,v,ex,d0,c,n,l,q⟩:=P;rw[lW,fh (ov=dk a) R];refine aq6 r d0 c n l (fun u b5 Y m=>bD (d3 au b5 M a8 _ Y q) (fun w c8 e0=>b y b7 O Z q3 e0 (bD (i au c8 M b7 v y u w _ O m Z q3) (fun p d9 e0=>by obtain⟨z,d4,a5,e,t,b,k,i1,i6⟩:=e0;exact aq7 a5 k c n i1 e (fun f9 A=>d M _ A i6)))))
inductive aq8(x:V)(y:V)(H:Hp)(Q:VK):Prop|mk:p0 (i+j) (aq8 x y H Q)
inductive aq9(x:V)(y:V)(H:Hp)(Q:VK):Prop|mk:p0 (i-j) (aq9 x y H Q)
theorem aq_:adh X .Add aq8:=by rintro pins s M H x y u v Q I R Z⟨i,j,rfl,rfl,q⟩;rw[ep (du (jE QF) R),GJ Z];exact PyProof.Rows.iadd_int (n5 (i+j))
theorem aOG:adh X .Sub aq9:=by rintro pins s M H x y u v Q I R Z⟨i,j,rfl,rfl,q⟩;rw[ep (du (jE QF) R),GJ Z];exact PyProof.Rows.isub_int (n5 (i-j))
universe z
section z
variable{X:Cx}{pins:bw}{M:St}{H:Hp}{s:Shared}{A:Around}{E:aU}{Q:aU}{c:Value}{b:Bool}
universe z
universe L2
namespace L2
open PySem PySem.Spec PyProof.Rows
structure hW(k:Nat)(A:Around):Prop where
 hd:od
 dp:ag3+3*k+5<a1r
 un:sR+16*k+200<gD
theorem hW.mono{j k:Nat}{A:Around}(J:JL)(h:j<=k):hW j A:=v J.hd (bv J.dp (uP this h h h)) (by have:=ag4;lia-abstractProof)
theorem hW.deeper{k:Nat}{A:Around}(J:hW (k+1) A)(env:Env):hW k (ag5 env):=v J.hd (by have:=J.dp;show ag3+1+3*k+5<_;exact Er) (by have:=ag4;show sR+3+16*k+200<_;exact Er)
theorem aOH{A:Around}{C:Addr}{b1:aM}{a:Jd}:(aof).depth=ag3+1:=by first|rfl|simp[aBv,Code.weight,Code.isCreation,Code.isGuard,Code.isCaller,a1s,aBu,guardIds]
theorem aOI{A:Around}{C:Addr}{b1:aM}{a:Jd}:(aof).units=sR+1:=by first|rfl|simp[aBv,Code.cUnits,a1s,aBu]
theorem hW.make{k:Nat}{A:Around}(J:hW (k+1) A)(C:Addr)(b1:aM)(a:Jd):hW k aof:=v J.hd (by have:=J.dp;rw[aOH];exact Er) (by have:=ag4;rw[aOI];exact Er)
theorem hW.depth{k:Nat}{A:Around}(J:JL):ag3<a1r:=bv J.dp Er
theorem hW.units{k:Nat}{A:Around}(J:JL):kp 64:=aIK
theorem hW.bi2{k:Nat}{A:Around}(J:JL):sR<gD:=aIK
def rY:TA:=lG (Q [] H)
def qt(d6:TE)(o:TA):TA:=qx (o M a8 (fun O b7=>Q (x::O) b7))
section z
variable{X:Cx}{e:Expr}{a7:fC}{b8:TE}{t:TA}{pos:Pos}
theorem Sd:PA X [] rY:=fun _ _ _ _ H Q I h=>aBw a'0
theorem uY(b3:rO)(a6:aHC)(c0:Bk):PA X rh (qt b8 t):=by intro pos au s M H Q I h;rw[c0];refine a1t (bD rL (fun u a4 e0=>b x a8 r r1 d2 e0 (gd (a6 pos au a4 M a8 _ r d2) O (a (x::O) b7 Y (.cons r1 r2) q2))))
inductive KJ(o:af->HO)(Q:VK)(O:af)(a8:Hp):Prop|mk:Jc->ad p (gA p) (Q fO (upd a8 p (o O)))->KJ o Q O a8
def aOJ(t:TA):TE:=jD (KJ .tup Q)
def aOK(t:TA):TE:=jD (KJ .lst Q)
theorem KL{e7}(h:aHC):M (.Tuple a7 e7 pos) (aOJ t):=gO (wpAny_Tuple_spliced biH) (upd a8 fI tI) (a z b1 J _ gI rfl _ rfl)
theorem yw(h:aHC):M (.List a7 pos) (aOK t):=gO (wpAny_List_spliced biH) (U a8 fI O) (a z b1 0 J gI)
universe z
abbrev Sp:=aa af Hp VK XK
abbrev ml:=c ka Hp vF XK aU
structure adj(P:Program)(w:World)(K:PySem.W.Frag)(mg:dM)(base:Heap)(A:Around)(outer:ka)(s:Shared)(H:Hp):Prop where
 frames:A.frames=aa ez
 mod:Mod K mg aj
 bs:hq (base.get? b) (gY/\gp)
 RV:base.objs.size<=aO
 uS:agP aj ez
 FT:bH (uR ez) gp
 dr:ff H bh
 bare:G_ sO
inductive CE(outer:ka)(P:Program)(w:World)(H:Hp)(s:Shared)(Q:VK)(u:Value)(c1:Shared):Prop|mk:∀v L,b U9 CC (G_ U8) (Un (uR ez) [] H L bh mD) (ff L mD) (jh->Q v L->aLX)
def CR(T:ml)(outer:ka)(P:Program)(w:World)(H:Hp)(s:Shared)(Q:VK)(E:XK)(J:Result)(c1:Shared):Prop:=match J with| .ok (.ret u)=>aLX| .ok _=>cD| .error e=>T ez H s E e c1
structure uZ(P:Program)(w:World)(K:PySem.W.Frag)(mg:dM)(base:Heap)(T:ml)(k:Nat)(f:Addr)(fd:FuncData)(c5:cW)(e8:Sp):Prop where
 len:alk
 run:∀(A:Around)(outer:ka)(s:Shared)(H:Hp)(i:Args)(b1:aM)(vs:af)(Q:VK)(E:XK),j JL (vq A) (aBx s fd i (MJ b1)) Fd aFM (Hh (ju P w) A (.call rx i) (CR T ez P w H s Q E) s)
theorem uZ.mono{P:Program}{w:World}{K:PySem.W.Frag}{mg:dM}{base:Heap}{T:ml}{j k:Nat}{f:Addr}{fd:FuncData}{c5:cW}{e8:Sp}(F:f0 T j fd)(h:j<=k):uZ P w K mg aj T k f fd c5 e8:=⟨F.len,fun A ez s H i b1 vs Q E a6=>F.run A ez s H i b1 vs Q E (ag6 h)⟩
theorem adj.make{P:Program}{w:World}{K:PySem.W.Frag}{mg:dM}{base:Heap}{A:Around}{outer:ka}{s:Shared}{H:Hp}(e:vq A)(C:Addr)(b1:aM)(a:Jd):vq aof:=a (by first|exact e.frames|(simpa[aBv,Code.envs,aBu,pushEnvs]using e.frames)) e.mod e.bs e.RV e.uS e.FT e.dr e.bare
section z
variable{X:Cx}{pins:bw}{M:St}{H:Hp}{s c1:Shared}
theorem Inv.aq'(I:aY):adj eA X.w X.K mG sM X.A oL s H:=a a1u aA9 I.bs (cn agQ I.sz) I.stack I.aqC eo zc
theorem Inv.after{Q:VK}{u:Value}(I:aY)(h:CE oL eA X.w H s Q u c1):fX u c1:=by obtain⟨v,L,os,bare,un,dr,J,q⟩:=h;obtain⟨c7,g,d,t,a⟩:=c1;rw[fh (a=CC) os];exact a v L (I.call (h':=c7) (g':=g) (d':=d) (t':=t) (ch:=[]) un dr bare (fun b z=>cy z jI)) J q
universe z
def F0(e8:Sp)(b:af)(E:XK)(t:TA):TE:=x4 (e8 (vs++b) a8 Q E)
inductive jM(C:Addr)(m:Str)(e8:Sp)(b:af)(E:XK)(t:TA)(M:St)(Q:VK)(x:V)(a8:Hp):Prop|mk:∀a dx G,b x bc aIE (Vg m=ae) (t M a8 (fun vs b7=>e8 (x::(vs++b)) b7 Q E)) (jM C m e8 b E t M Q x a8)
def aOL(C:Addr)(m:Str)(e8:Sp)(b:af)(E:XK)(d6:TE)(t:TA):TE:=k8 (jM C m e8 b E t M Q)
def ara(C:Addr)(e8:Sp)(b:af)(E:XK)(t:TA):TE:=x4 (gC (gA x) (gA dx) (cw a8 dx Y7))
def Binds(K:PySem.W.Frag)(fd:FuncData)(c5:cW)(c7:aM):Prop:=∀(s:Shared)(b1:aM),vK bh->t (b1++c7)=kx->aBx s fd (d_ b1) (MJ (b1++c7))
theorem Binds.all{K:PySem.W.Frag}{fd:FuncData}{c5:cW}(h:∀b1:aM,CC fd):aav:=fun s b1 _ a5=>by rw[qJ]at a5⊢;exact .of_eq (h b1 a5)
def Passes(T:ml)(X:Cx)(E:XK):Prop:=∀(pins:bw)(M:St)(H:Hp)(s:Shared)(e:Value)(c1:Shared),aY->T oL H s E e c1->oM e c1
section z
variable{X:Cx}{T:ml}{k:Nat}{f C:Addr}{fd:FuncData}{c5:cW}{e8:Sp}{b:af}{c7:aM}{E:XK}{x m:Str}{p pos i:Pos}{e o:Expr}{a7:fC}{d6:TE}{t:TA}
theorem adk{pins:bw}{M:St}{H:Hp}{s:Shared}{Q:VK}{b1:aM}{vs:af}(F:Ki)(a6:Qk)(U:Kb)(hd:J4)(S:Ke)(I:aY)(J:Fd)(h:e8 (vs++b) H Q E):x3 rx:=by have r2:=Vi hd;refine aBy (ML (F.run X.A oL s H (d_ b1) (b1++c7) (vs++b) Q E a6 I.aq' (U s b1 vS (bl r2.length (F.len _ _ _ _ h))) r2 h) (fun J c1 e0=>?_));cases J with|error e=>{exact S au M H s e c1 I e0}|ok fl=>cases fl with|ret u=>{exact I.after e0}|next=>{assumption}|brk=>{assumption}|cont=>exact MK e0
theorem aOM(F:Ki)(a6:Qk)(d8:qg)(c4:jB (mG x) f)(c3:UU X.K rx=ab)(U:Kb)(hd:J4)(S:Ke)(b3:Fs)(l:mf)(a0:Bk)(b8:JQ):pd (F0 e8 b E t):=qY c3 (adk F a6 U hd S r J q)
theorem jk{d5:al6}(a0:amF)(c:aad)(c4:y3 f)(F:Ki)(a6:Qk)(U:Kb)(hd:J4)(S:Ke)(b3:Fs)(z:Bk)(b8:JQ)(c6:ce (e0 (dL m rh pos)=(do{let ov<-eval o X.env;standAt i.atName;let(f,first)<-holding [ov] (getMethod ov m d5);callWith pos f first (backTo pos (starEach (e::a7) X.env)) (backToKw pos (keywordEach [] X.env))}))):qK rh t:=Lm (a1v (first:=uf) (h₀:=sM) a1w c4.kp (bD (b3 pos au a4 M a8 _ r q) (fun b1 b5 e0=>dK vs J ⟨Y.Kt,adk (b1:=bc::b1) (vs:=bc::vs) F a6 U hd S Y (.cons rfl J) q2⟩)) z b8)
theorem Se{d5:al6}(a0:amF)(c:aad)(c4:y3 f)(F:Ki)(a6:Qk)(U:Kb)(hd:J4)(S:Ke)(c6:ce (e0 (dL m [] pos)=(do{let ov<-eval o X.env;standAt i.atName;let(f,first)<-holding [ov] (getMethod ov m d5);callWith pos f first (backTo pos (starEach [] X.env)) (backToKw pos (keywordEach [] X.env))}))):qK [] rY:=Lm (a1x (first:=uf) r.Kt c4.kp (adk (b1:=uf) (vs:=uf) F a6 U hd S r (hq rfl) q))
structure Mk(K:PySem.W.Frag)(C f:Addr):Prop where
 makes:amm
 init:a8M
 fn:p2 rx
 kp:aH6
theorem arb{pins:bw}{M:St}{H:Hp}{s:Shared}{Q:VK}{b1:aM}{vs:af}(d5:aI8)(F:Ki)(a6:aIj)(U:Kb)(hd:J4)(S:Ke)(I:aY)(J:Fd)(h:gC (Y x) (Y dx) (d7 (ad dx DZ) Y7)):x3 wX:=by have e0:=h iu aO (ze (a1y _)) pQ (gC jR);have Y:=Inv.made (C:=C) I;have r2:iM (gR iu::(vs++b)) bdh:= .cons rfl (Vi hd);refine aBy (aOw (f:=f) vS d5.makes d5.init (a1n d5.fn) (ML (F.run _ oL _ _ (d_ (dk iu::b1)) bdh _ _ E (a6.make C b1 []) (Y.aq'.make C b1 []) (U _ (dk iu::b1) Y.Kt (by rw[dd r2.length,a6 (F.len _ _ _ _ e0)];exact CL)) r2 e0) (fun J c1 a=>?_)));cases J with|error e=>{exact S au M _ _ e c1 Y a}|ok fl=>cases fl with|ret u=>{obtain⟨v,L,O,rv,B,q3⟩:=aBz a;subst B;exact a rv (gR iu) L O (bd q3)}|next=>{assumption}|brk=>{assumption}|cont=>exact MK a
theorem aON(d5:aI8)(F:Ki)(a6:aIj)(d8:qg)(c4:mG x=aa wX)(U:Kb)(hd:J4)(S:Ke)(b3:Fs)(l:mf)(a0:Bk)(b8:JQ):pd (ara C e8 b E t):=qY d5.kp (arb d5 F a6 U hd S r J q)
theorem arc(d5:aI8)(F:Ki)(a6:aIj)(d8:qg)(c4:mG x=aa wX)(U:Kb)(hd:J4)(S:Ke)(l:mf):M (er x []) (ara C e8 b E rY):=C0 (a1x vS d5.kp (arb (b1:=[]) d5 F a6 U hd S I .nil h))
universe z
section z
variable{X:Cx}{T:ml}{k:Nat}{f C:Addr}{fd:FuncData}{c5 K:cW}{e8:Sp}{E:XK}{x m:Str}{p pos i a:Pos}{e o:Expr}{a7:fC}{b:bL aBA}{b8 d6:TE}{t D:TA}{d1:bZ Str}
variable{g:aM->aM->aM}{a:af->af->af}
universe z
structure adl(N P:cW)(a:Scope):Prop where
 kind:sD a1z
 co:a.isCoroutine=ai
 gen:a.isGenerator=ai
 nd:N.Nodup
 pre:N.take P.length=P
 par:aK P a9x
 aOO:ds aBB (y.2≠.free)
theorem ard{kindOf:amz}{x:Str}:KC (ag7 CM a m x)|[],_,_=>rfl|(n,v)::J,m,h=>by unfold bindL;rw[ard a'A];split;rw[cK];{rfl}
theorem arf{kindOf:amz}{x:Str}:KC (ag8 CM a m x)|[],_,_=>rfl|(n,v)::J,m,h=>by unfold bindC;rw[arf a'A];split;{rfl};rw[dV]
theorem arh{kindOf:amz}{x:Str}{v:Value}:qS (k7 (CM x)) (ag7 CM (aBC vs) m x)|[],_,_,_,_,h,_,_=>bB|_::_,[],_,_,_,_,h,_=>bB|p::P,w::vs,0,m,nd,a3,a9,c3=>by{simp at a3 a9;subst a3;subst a9;show ag7 CM bcJ m p=_;unfold bindL;rw[ard bde,aK c3];exact cN}|p::P,w::vs,i+1,m,nd,a3,a9,c3=>by unfold bindL;exact arh (i:=i) (Ay).2 bB bB c3
theorem ari{kindOf:amz}{x:Str}{v:Value}:qS (CM x≠aa .local) (ag8 CM (aBC vs) m x)|[],_,_,_,_,h,_,_=>bB|_::_,[],_,_,_,_,h,_=>bB|p::P,w::vs,0,m,nd,a3,a9,c3=>by{simp at a3 a9;subst a3;subst a9;show ag8 CM bcJ m p=_;unfold bindC;rw[arf bde,bj c3];exact cN}|p::P,w::vs,i+1,m,nd,a3,a9,c3=>by unfold bindC;exact ari (i:=i) (Ay).2 bB bB c3
noncomputable def start(N:cW)(vs:af):St:=Vk aa++Vj (iP-iO) ae
noncomputable def yx(T:ml)(P:Program)(w:World)(K:PySem.W.Frag)(mg:dM)(base:Heap)(N:cW)(g:Str)(d:Scope)(f:Addr)(R:Value)(A:Around)(outer:ka)(s:Shared)(H:Hp)(E:XK):Cx where prog:=P;w:=w;K:=K;mg:=mg;base:=aj;A:=ag5 J1;N:=N;FR:=s;Ks:=H;env:=J1;outer:=ez;stack:=J1::ez;ex:=[];calm:=ab;fn:=au ab;pn:=[];xe:=fun e c1=>fv (ju P w) (ag5 J1) (leaving J1 e) (fun _ M=>T ez H s E e M) (fun d3 M=>T ez H s E d3 M) c1
theorem arj{a:Scope}{n:Nat}{x:Str}(h:jS (vL x)):ax c (fg (zi n aBB []) x) c:=x (a1A (a1B aBB n [] Aw))
theorem aOP{T:ml}{P:Program}{w:World}{K:PySem.W.Frag}{mg:dM}{base:Heap}{N c5:cW}{g:Str}{d:Scope}{f:Addr}{R:Value}{A:Around}{outer:ka}{s a4:Shared}{H:Hp}{E:XK}{b1:aM}{vs:af}(r:adl N c5 d)(hd:od)(f5:vq A)(a5:iO=kx)(J:Fd)(x:InCallC s aO (ag7 (J1).kindOf (MJ b1) uu) (zi iu mI []) (ag8 (J1).kindOf (MJ b1) uu) a4):Inv (yx T P w K mg aj N g d f R A ez s H E) [] (MM N vs) H a4:=by have b8:kx<=iP:=by{rw[ik r.pre,am eS];exact cn CN (oO kx iP)};obtain⟨a3,D,rfl,c3⟩:=x.done;have G:∀b:ef,b∉(yx T P w K mg aj N g d f R A ez s H E).ex:=fun b z=>At z;rw[b (a f5.mod r.kind rfl rfl a_ (fun y z c a3 a9=>?_) Q1 (fun y c _ h=>?_) (a (au hd) (Around.frames_deeper f5.frames) (.inr xB) a89 f5.bs f5.RV (fun b _ _=>G b) a89 f5.uS f5.FT)) rfl f5.bare (agM c3) (av x.toInCall.ns (fun i y v a3 a9 e2=>?_)) (fun y c h=>aW (x.cell y c h)) (a1C a_) (fun y c h=>?_) (aJ (GO ([]:bw)) (f5.dr.kept c3)),l (name_of_addr x.apart (oN a3) (oN a9))];{have b6:=b6;rw[bb1,l (arj b6),cE rfl (r.aOO _ (oN b6))]};rw[l beD];{have hi:i<iO:=by{delta MM at a9;rw[fI hi iO,l hi,dV]};have b3:A vs v:=by{delta MM at a9;rw[hx hS,cz]at a9;cases e:vs[i]? with|none=>{simp_all}|some a=>simp_all};rw[bl hu rv (ag9 b3)];have c2:A c5 y:=by{rw[<-r.pre,sS ah];exact a3};rw[br j c5.Nodup r.pre (r.nd.sublist (aBE _ _)),ak u rv,v8 (r.par y (bO c2)),dQ ⟨k,arh j c2 hu k⟩];{rw[ck c (arj (n:=iu) k)];refine .inr (a1 O5 c e);rw[ci (x.cell y c e),cQ (ari j c2 hu (by show MN y≠_;rw[k];decide))];exact q}};rw[l (a1C beD)];{delta MM;show _=iP;rw[cj,bA,aBD];simp[*]}
theorem aOQ{T:ml}{P:Program}{w:World}{K:PySem.W.Frag}{mg:dM}{base:Heap}{k:Nat}{f:Addr}{c g:Str}{h:Arguments}{a:uc}{d:Scope}{Z kV p b3 e3 ct D:Value}{j m:nf}{z:Ep}{N c5:cW}{e8:Sp}(lk:Ce bhx)(S:aLq)(r:adl N c5 d)(len:alk)(l:∀(A:Around)(outer:ka)(s:Shared)(H:Hp)(vs:af)(Q:VK)(E:XK),e7 (ag_ g d aO f e3) (yx T P w K mg aj N g d f e3 A ez s H E) a):f0 T (k+1) bhx:=by rw[v len (fun A ez s H i b1 vs Q E a6 f5 U J C=>?_)];have y:=f5.mod.kin.keeps bd_;refine codeAny_call_function a6.depth (y _ _ lk) rfl r.co r.gen rfl (PySem.W.codeRec_of y S) (U _ _ _ _ (wpAny_newFunctionEnv_cells r.kind (fun⟨n,v⟩b6=>by rw[al (r.par n (a1D b6).1),l AM,co ⟨q,a1B _ _ _ (.inl q)⟩]) (fun env a0 a4 x=>?_)));subst a0;rw[v ((f5.mod.nolimit.keeps bd_).keeps x.toInCall.keep) (codeAny_func ?_)];obtain⟨t,c6,e0⟩:=l A ez s H vs Q E (a6.deeper _) C;refine vX (c6 [] a4 (MM N vs) H _ (aOP r a6.hd f5 (len _ _ _ _ C) J x) e0) (fun fl c1 c0=>?_) (fun e c1 c0=>c0);have fin:∀{g0:St}{L:Hp}{v:V}{u:Value},i (Inv (yx T P w K mg aj N g d f e3 A ez s H E) [] g0 L c1) jh (Q v L) aLX:=fun{g0 L v u}d0 rv q=>a v L d0.os d0.bare d0.base d0.dr rv q;cases fl with|ret u=>{rw[j v g0 L d0 rv q c0 (fin d0 rv q)]}|next=>{obtain⟨g0,L,d0,q⟩:=c0;exact fin (v:=Hi) (u:=Cz) d0 rfl q}|brk=>{rw[bd5]}|cont=>rw[bd5]
universe L2
namespace L2
open PySem PySem.Spec PyProof.Rows
section z
variable{X:Cx}{x:Str}{p pos:Pos}{e:Expr}{a7:fC}{t:TA}{id T:String}{J:l6 af}
def KN(J:l6 af)(t:TA):TE:=x4 (J vs a8 Q)
theorem F1(b0:fL id J)(d8:qg)(c4:f9 x)(d3:vP x=aa X1)(b3:Fs)(d1:aHp)(l:mf)(a0:Bk)(b8:JQ):pd (KN J t):=H8 (PyProof.Rows.callWith_builtin1 bir a0 b8)
theorem Sf(b0:Bu X (.type T) J)(d8:qg)(c4:f9 x)(d3:vP x=aa (.type T))(b3:Fs)(d1:aHp)(l:mf)(a0:Bk)(b8:JQ):pd (KN J t):=H8 (ag' bir a0 b8)
universe z
universe L2
namespace HT
open PySem PyProof.Rows
noncomputable def lexLt:aJZ|[],[]=>ai|[],_::_=>ab|_::_,[]=>ai|x::O,y::d7=>v x y (zj O d7) aGN
theorem aOR(x y:Int)(O d7:aT):zj (x::O) QW=v x y (zj O d7) aGN:=rfl
theorem aOS:zj [] []=ai:=rfl
theorem aOT(y:Int)(d7:aT):zj [] QW=ab:=rfl
theorem aOU(x:Int)(O:aT):zj (x::O) []=ai:=rfl
theorem aOV(A:Around)(s:Shared)(a:Int)(t:Tok)(c:Int)(u:Tok):z e (aBF A s (eZ a) (mE c) e) (bE e (a=c)):=v (a==c) (a1E a t c u) aQ
theorem aOW(A:Around)(s:Shared)(a:Int)(t:Tok)(c:Int)(u:Tok)(prog:Program)(w:World)(E:aU)(Q:aU)(h:jV (bT a c)):zv .Lt:=m7 (PyProof.Rows.lt_int h) .Lt
section z
open PySem.SeqAt
open PySem.AutoSeq1(wpAny_loadPart')
open PySem.MeetsSeq PySem.MeetsSeq2 PySem.MeetsSeq3
theorem aOX(l b:Addr)(f i:dU)(n n2:Nat)(j o:nf)(sl p:Ep)(ns d8:aT)(hi:QQ)(b8:Q_):nv (Builtin.«tuple.__lt__» aJ1) aoo:=Cb (by rw[m6 os s,cy a5 U h];have h3:=aBG;rw[aMi,aMj,Cq (zj I k)];(case turn=>rintro⟨y,x⟩m b c1⟨j6,rfl,vs,ws,I,k,c9,v,r,E,hR⟩;cases v with|nil=>{trivial}|cons a t C=>cases r with|nil=>{trivial}|cons c u F=>rw[alb];injection c9 with G H;rw[aK8];subst b6 S;rw[aOR]at hR;rw[aH1,aMK,C aMy,Co (aOW kz OE a t c u cM w)]);(case fin=>rintro⟨h2,e2⟩c1⟨j6,rfl,vs,ws,I,k,c9,v,r,E,hR⟩;rw[aGT];subst j6;have d3:zj I k=bT lA Vl:=by{cases v with|nil=>{cases r with|nil=>{rw[ff MO aOS aIh]}|cons c u hw=>rw[kd aOT (m8 E.g)]}|cons a t d3=>rw[m0 aOU aIh]};rw[d3]at hR;wp_walk;exact aLw);rw[aMP])
universe z
section z
variable{prog:Program}{w:World}{A:Around}{E:aU}{s:Shared}
theorem aOY{l b:Addr}{f i:dU}{ns d8:aT}{Q:aU}(a5:aIO)(U:aKo)(hi:QQ)(b8:Q_)(hu:sR<gD)(h:jV aoo):zV .Lt:=t .Lt PySem.F.slot_tuple_lt PySem.F.entry_tuple_lt (PySem.F.args_tuple_lt_2 _ _) (aOX l b f i n n2 j o sl p ns d8 hi b8) aoo aoo
noncomputable def yy(n d:Nat):ek->Nat|none=>d|some v=>if v<0 then gt v cJ else j5 a1F
theorem ark(n d:Nat):yy n d ae=d:=rfl
theorem bi3(n d k:Nat):yy n d (gH k)=j5 k:=by show(if v k<0 then gt (v k) cJ else j5 (v k).toNat)=j5 k;rw[bj aQ,iQ]
theorem aOZ(n d:Nat)(hd:d<=n)(o:ek):yy n d o<=n:=by cases o with|none=>{exact hd}|some v=>show bbe<=n;by_cases d3:v<0;rw[EL,EL]
theorem arl(v:Int)(n d:Nat):(if v<0 then bb_ else min v cJ)=j3 d pB:=by show bo (v<0) bb_ (min v cJ)=ae bbe;by_cases d3:v<0;rw[aZ,cK]
theorem aO0(lo hi:ek)(n:Nat):beH=(ao4,j3 n hi):=by have a3:¬(v 1<0):=by{decide};delta a1G;simp only[a3,iR];refine sJ ?_ ?_;{cases lo with|none=>{rfl}|some v=>exact arl v n 0};{cases hi with|none=>{rfl}|some v=>exact arl v n n}
theorem aO1(i j:Nat):aha xp (v j) 1=j-i:=by delta aha;have a3:v 1>0:=by{decide};simp only[a3,mJ,Int.ediv_one];split<;>simp_all
theorem arn{v:Value}{o:ek}{Q:dE ek}(p:MP v o)(h:Q o s):bl (Builtin.Slice.slicePartIndex v):=by cases p with|none=>{exact a1H h}|int i t=>exact slicePart_int h
theorem aO2{sl:Addr}{i5 c:Value}{lo hi:ek}{n:Nat}{Q:dE (Int×Int×Nat)}(c0:aL5)(d5:aJt)(a9:MP c hi)(h:Q (ao4,1,yy n n hi-yy n 0 lo) s):bl (a1I al0 (eU cJ)):=by rw[bfi];delta a1I Builtin.Slice.sliceFields;rw[fH (mU i5 (bF (mU c (bF (mU .none (fa (a1H ?_))))))),aO ay,C (arn d5 (bF (arn a9 (bF fN)))),oU (match beH with|(lo,hi)=>eU (lo,v 1,aha lo hi 1))];rw[aO0 lo hi n];rw[oU (eU (ao4,v 1,aha ao4 (j3 n hi) 1)),L aO1 xq]
theorem aO3(O:dU)(i k:Nat):hv (i7 k bgE)=hv (an (a1J i) k):=by have e:(bgE)=bo O[i+m]?:=funext (bo (by rw[a1g,<-Int.natCast_add,iQ]));rw[e];have:=pick_run O i k;rw[am List.filterMap_map,ab b9 ((ab O[x]?)∘ab (i+x)) (bo O[i+m]?),am b9,nY]
theorem aO4{t sl:Addr}{f:dU}{i5 c:Value}{lo hi:ek}{Q:aU}(c6:Mo bh t f)(c0:aL5)(d5:aJt)(a9:MP c hi)(hw:¬(ry=0/\Ji=lA))(h:Q gk (fW (mH (jt beb))))(G:a1 lA):bl (zf nu al0):=by revert c6 c0 d5 a9 hw h G;revert prog w A E s t sl f i5 c lo hi Q;refine@mi _ _ _ _ _ _ _ _ _ _ _ _ _ _ ?_;generalize pY=prog,pZ=w,p_=A,qa=E,qb=s,qc=t,qd=sl,qe=f,qh=i5,qi=c,ql=lo,qm=hi;refine apV;rw[u0 Q];intro c6 c0 d5 a9 hw h G;have d:sizeOk (.seq beb):=by{show a1 (an (a1M ry) (Ji-ry)).toArray.size;rw[Hj,eS,sL,Va];exact cn (oO (Ji-ry) (lA-ry)) (cn (qL lA ry) G)};have b8:Ji<=lA:=aOZ _ _ a_ hi;rw[bfi];have g:lB al0 "slice":=v os a e;delta zf;rw[a9L];(first|rw[P9]|skip);rw[C (wpAny_sequenceKey ahb ay ?_),C (cd "__getitem__" ahb a1L (qK a1L ahb entry_tuple_getitem ?_ (args_tuple_getitem _ _))),ta (a1K nu),C (tupleItemsOf_ c6 ?_),w9 g];rw[aK ay];rw[C (aO2 c0 d5 a9 ?_),ca c5 (¬(dj (ae ry==0&&v 1==1) ((Ji-ry)==lA))),oU (mo (ae ry==0&&v 1==1&&(Ji-ry)==lA))];rw[bj c5,aO3];first|exact u1 (pt xq)|exact u1 (bF (mS (dl xq)))|exact bF (u1 (mS (dl xq)))|exact bF (u1 (pt xq))
universe z
universe HT
namespace L2
open PySem PySem.Spec PyProof.Rows
abbrev TO:=ts (eo ek)
def PO(X:Cx)(e:Px)(t:TO):Prop:=∀(pins:bw)(s:Shared)(M:St)(H:Hp)(Q:eo ek),cu Pg (evalPart e cE) (fun u c1=>∃o L,Bb/\MP u o/\Q o L)
def aO5:TO:=lG (Q ae H)
def jP(Q:eo ek)(x:V)(H:Hp):Prop:=match x with| .int i=>Q xm H|_=>cD
theorem jP.out{Q:eo ek}{x:V}{H:Hp}(h:jP Q x H):z i (x=hP) (Q xm H):=lD jP (dl h)
def aO6(t:TE):TO:=jD (jP Q)
theorem intsAre_of{ns:aT}:∀{b1:aM},ey xF->sT b1 ns:=by induction ns with|nil=>{intro b1 J;rw[zk]at J;rw[hM];exact .nil}|cons n ns d6=>intro b1 J;rw[c_]at J;cases J with|cons r1 r2=>rw[ck t r1,bY];exact .cons n t (d6 r2)
section z
variable{X:Cx}{e:Expr}{b8:TE}{lo hi:Px}{h8 a:TO}{pos f6:Pos}
theorem Sg:PO X ae aO5:=by rw[fx];rw[a1N];exact cg (a ae H I .none h)
theorem oo(h:rO):PO X rz (aO6 b8):=by rw[nb hw];rw[evalPart_some];refine wk (il _ I);rw[JN,aJ i rfl d2.out,ep r1];exact a xm a8 r (eZ i) q
def KO(X:Cx)(J:aLW):Prop:=∀(pins:bw)(s:Shared)(M:St)(H:Hp)(x:V)(v i5 c:Value)(lo hi:ek)(sl:Addr)(Q:VK),l aY tU aL5 aJt (MP c hi) (J x lo hi H Q) (∃T id,aBH (.type T) "__getitem__"=eU (aa X1)/\lB v T/\de (zf v al0) IL)
def tSl(J:aLW)(b8:TE)(h8 a:TO):TE:=hi (oj (jA (h8 M a8 (fun l b7=>a M b7 (fun u d4=>J x l u d4 Q)))))
theorem aro{J:aLW}(a6:KO X J)(a0:rO)(a5:PO X lo h8)(hu:PO X hi a):Iz J:=by rw[fx];refine aBI (lu EH (wpAny_Slice (bD (a5 au a4 M a8 _ r d2) (fun i5 b5⟨l,b7,Y,d5,q2⟩=>wn (hu au b5 M b7 _ Y q2)))));obtain⟨u,d4,O,a9,q3⟩:=P;rw[a1N];rw[nZ];obtain⟨T,id,Z,c6,d8⟩:=a6 au {c8 with heap:=a1O (l3 "slice" #[i5,c,.none])} M d4 x v i5 c l u sU Q (O.kept (t':=c8.toks) a7n) r1 (Heap.IsSliceOf.new ..) d5 a9 q3;exact tail_any (ops:=[.ref sU,v]) c6 Z d8 (by with_unfolding_all rfl)
noncomputable def jl(O:af)(lo hi:ek):af:=an (G7 Ex) (alQ-Ex)
theorem aO8(O:af)(lo hi:ek):bd aaN bx:=by delta jl;rw[eS,sL];exact cn (oO (alQ-Ex) (bx-Ex)) (qL bx Ex)
inductive adm(K:PySem.W.Frag)(x:V)(lo:ek)(hi:ek)(H:Hp)(Q:VK):Prop|mk:∀a O,b x bc uG (¬(Ex=0/\alQ=bx)) (ad p (Y p) (Q fO (ad p (.tup aaN)))) (adm K x lo hi H Q)
theorem aO9:KO X (adm X.K):=by intro au s M H x v i5 c lo hi sl Q I R c0 d5 a9 h;obtain⟨a,O,rfl,S,hw,q⟩:=h;rw[hO,a9 J c6 (CF S),R E vY bx Hj J.length.symm,j "tuple" _ PyProof.Rows.slot_tuple_getitem.lookup ahb (HT.aO4 c6 c0 d5 a9 I5 ?_ I5)];rw[E];rw[pk (.tup aaN) (d bgg _ a9z a9U)]
inductive arp(K:PySem.W.Frag)(x:V)(y:V)(H:Hp)(Q:VK):Prop|mk:∀a b ns d8,b x bc (y=cV) (mI xF) a7k (dB (mK ns d8)->arp K x y H Q)
theorem arq(hu:zl<gD):be .Lt (arp X.K):=Cx (HT.aOY e9 f6 (MQ r1) (MQ r2) hu (eT (mK ns d8) q))
universe z
universe L2
namespace L2
open PySem PySem.Spec PyProof.Rows
noncomputable def qu(n:Nat)(i:Int):iY:=if 0<=i then(av (i<n) Vm ae)else av (-cJ<=i) (gt i n) ae
noncomputable def Bx{I:Type}(O:ba)(i:Int):bZ I:=(qu bx i).bind (iQ O[j]?)
theorem ars{n:Nat}{i:Int}{j:Nat}(h:qu n i=aa j):N (Dg n) (j<n) (-cJ<=i) (i<n):=by rw[a4 qu];by_cases b1:0<=i;{rw[aj (aK b1)];by_cases a3:i<n;{rw[aj (aK a3),dd (cZ h)];exact d (bj (a1R b1 a3) e) fk (x (FN (Ko n) b1)) a3};rw[az]};{rw[iW b1];by_cases a3: -cJ<=i;{rw[aj (aK a3),dd (cZ h)];exact d (bj (a1Q alv a3) e) fk a3 (x (a1P (aMl b1) (Ko n)))};rw[az]}
theorem aO_{I:Type}{O:ba}{i:Int}{v:I}(h:su i):I j (Dg bx) ank (j<bx/\ -v bx<=i/\i<bx):=by rw[a4 Bx];cases e:qu bx i with|none=>{simp_all}|some j=>rw[aj e,u_ (ars e)];exact c j a3 h a9 e2 e5
theorem dX{I:Type}{O:ba}{j:Nat}{v:I}(h:ank):su (v j):=by have b8:=bx h;have e:qu bx (v j)=aa j:=by{delta qu;rw[aK aQ,aK (x (mh b8))];simp};delta Bx;rw[e];exact h
theorem art{I:Type}(O:ba)(v:I):Bx (O++[v]) (-1)=aa v:=by rw[aC a5 (t (O++[v])) (bx+1) cj];have e:qu (t (O++[v])) (-1)=aa bx:=by{delta qu;rw[a5,bj ay,aK OF];rw[dW];simp+arith [*]};delta Bx;rw[e];simp
def aru(b:Expr):Prop:=∀o i,ahc b ai o i=aBJ [o,i] (zf o i)
def KP(X:Cx)(J:R2):Prop:=∀(B a:Expr)(pins:bw)(s:Shared)(M:St)(H:Hp)(x y:V)(v u:Value)(Q:VK),j aY tU kY (J x y H Q) (ahc a ai v u=aBJ [v,u] (zf v u)) (de (a1S B a v u) IL)
def MtR(X:Cx)(id:String)(J:QA):Prop:=∀(pins:bw)(s:Shared)(M:St)(H:Hp)(x:V)(O:af)(v:Value)(b1:aM)(Q:VK),bek
section z
variable{X:Cx}{a b:Expr}{d6 c3:TE}{pos:Pos}
theorem Sh{J:R2}(a6:KP X J)(b3:fU)(U:lg)(c0:aru b):M (eV a b) Ym:=nH (aBI (C_ (a6 a b au b5 M b7 x y v u Q Y R Z q (c0 _ _))))
inductive Si(K:PySem.W.Frag)(x:V)(y:V)(H:Hp)(Q:VK):Prop|mk:pv ZE (Si K x y H Q)
inductive Sj(K:PySem.W.Frag)(x:V)(y:V)(H:Hp)(Q:VK):Prop|mk:pv (nc O) (Sj K x y H Q)
theorem arw:KP X (Si X.K):=by intro B a au s M H x y v u Q I R Z h c0;rw[bel,hO,ep Z,a9 J d5 OA,bhK,bdB,f1 vR,gx Sa];have fin:fX w s:=a z H I W q;by_cases b1:0<=i;rw[cF b8 Vm f (item_listR zg b1 baB ag fin c0)];{rw[gP b8 (gt i (v vY)) e5];exact a1T (x:=w) a1V a1U (wpAny_getItem_list_neg (Q:=baz) zg alv ah baC cq (bd fin)) c0}
theorem arx:KP X (Sj X.K):=by intro B a au s M H x y v u Q I R Z h c0;rw[bel,hO,ep Z,a9 J d5 IV,bhK,bdB,gx Sa];exact a1T (x:=w) d5.typeIs slot_tuple_getitem.lookup (getItem_tuple (j:=j) (Q:=baz) d5 baC baB (by rw[Hj,<-vR];exact a3) ag (c rfl z H I W q)) c0
theorem aO'(ar:aM)(n j:Nat)(u:Value):Hk (·.setIfInBounds j u) JT=rY (jq (hv (ar.set j u))):=ar Hk
theorem Inv.lst{pins:bw}{M:St}{H:Hp}{s:Shared}{p:Addr}{O:af}(I:aY)(h:am p O):BN (Ew/\c5 p JT/\Jc):=b z ar n J e (eo p _ h) (a ar n J e z)
theorem Inv.aPa{pins:bw}{M:St}{H:Hp}{s:Shared}{p:Addr}{O d7:af}{ar its':aM}{n C:Nat}{f:Obj->Obj}(I:aY)(h:am p O)(d0:c5 p JT)(W:f JT=bbh)(J:iM d7 MA)(c9:a1 oP)(t:Nat):aR (ap p d7) (dm (Vn p f) t):=by have e:df (Vn p f) p=aa bbh:=by{rw[CO f d0 (by rw[W]<;>rfl),W]};refine Vh (x:=p) (e:=p) (xs h) gj (fun b u U q=>qG q) (aW e) (a c9 MA C J e)
inductive ary(o:V)(i:V)(v:V)(H:Hp)(Q:jb):Prop|mk:∀p O k j,b o fO (i= .int k) (am p O) (qu bx k=aa j) (Q (ap p (O.set j v))->ary o i v H Q)
theorem set_list:ac7 X ary:=by intro au s M H o i v ov c u Q I b a rv h;rw[c p O k j rfl c2 b8 q h];cases b;rw[ep a,ad ar J d0 c9 (I.lst c2),u_ (ars b8),f1 vR,gx Sa];have K:=I.aPa c2 d0 (aO' ar n j u) (J.set rv j) hS dE;by_cases b1:0<=k;rw[cF c3 aBK e5 (PySem.W.ki_setAt d0 b1 bM ah bz)];{rw[gP c3 (gt k (v vY)) e2];exact PySem.W.ki_setBack d0 alv ah bM bz}
theorem sl1{i:Int}{n:Nat}(h:i<0):max 0 (j5 (i+n))=ae (gt i n):=cx Int.toNat_eq_max (Int.min_eq_left (rT h)) Int.max_comm
theorem sl0{i:Int}{n:Nat}(h:¬i<0):max 0 (j5 i)=ae (j5 Vm):=by rw[dl k (Int.eq_ofNat_of_zero_le (agJ h))];rw[iQ];lia
theorem aPd(lo hi:ek)(n:Nat):(aL6).1=ae (CP n 0 lo)/\aV aL6=ae (CP n n hi)/\(aL6).2.2=1:=by rw[cp ?_ rfl];{cases lo with|none=>{rfl}|some i=>rw[bij]};{cases hi with|none=>{rfl}|some i=>rw[bij]}
theorem aPe(ar:aM)(lo hi:ek):slicePick eT lo hi ae=hv (an (ar.drop (CP Hl 0 lo)) (CP Hl Hl hi-CP Hl 0 lo)):=by rw[dd a3 e2 (aPd lo hi vY)];delta slicePick;rw[a3,a9,e2];simp only[sliceRange_one,pick_run,Hj]<;>rfl
inductive Sk(K:PySem.W.Frag)(x:V)(lo:ek)(hi:ek)(H:Hp)(Q:VK):Prop|mk:f a O (x=bc) jg (ad p (Y p) (x9 aaN)) (Sk K x lo hi H Q)
theorem aPf:KO X (Sk X.K):=by intro au s M H x v i5 c lo hi sl Q I R c0 d5 a9 h;rw[w O rfl S q h,hO,a9 J c6 (sQ S)];have E:=vR;rw[j "list" _ a1U c6.isList.typeIs (wpAny_getItem_list_slice c6.isList c0 d5 a9 .none ay ?_ ah)];rw[aPe,<-E];rw[pk (.lst aaN) (a bgg _ 0 a9z gI)]
noncomputable def F2:V->cb| .bC=>ab| .bl _=>ab| .int _=>ab| .str _=>ab|_=>ai
noncomputable def yz:dI V V| .bC,.bC=>ab| .bl a,.bl b=>a==b| .bl a,.int b=>bo a 1 0==b| .int a,.bl b=>a==bo b 1 0| .int a,.int b=>a==b| .str a,.str b=>a==b|_,_=>ai
theorem aPg{A:Around}{s:Shared}{y x:V}{u v:Value}(Z:kY)(R:tU)(r3:F2 y=ab)(n:F2 x=ab):aBF A s u v (yz y x):=by cases y with|bC=>{rw[cw (SeqAt.EqAt.same _) (SeqAt.EqAt.none_bool b) (SeqAt.EqAt.none_int b t) (SeqAt.EqAt.none_str b t)]}|bl a=>{rw[cw (SeqAt.EqAt.bool_none a) (SeqAt.EqAt.bool_bool a b) (SeqAt.EqAt.bool_int a b t) (SeqAt.EqAt.bool_str a b t)]}|int a=>{rw[cv (SeqAt.EqAt.int_none a t') (SeqAt.EqAt.int_bool a t' b) (a1E a t' b t) (a0R a t' b t)]}|str a=>{rw[cv (SeqAt.EqAt.str_none a t') (SeqAt.EqAt.str_bool a t' b) (a0Q a t' b t) (SeqAt.EqAt.str_str a t' b t)]}|_=>rw[un r3]
noncomputable def qv(x:V)(u:Value):cb:=match u with| .none=>yz .bC x| .bool b=>yz EO x| .int i _=>yz hP x| .str z _=>yz (.str z) x|_=>ai
theorem arz{x y:V}{u:Value}(J:kY)(f:F2 y=ab):qv x u=yz y x:=by cases y with|bC=>{rw[Fi]}|bl b=>{rw[Fi]}|int i=>{rw[Qj]}|str z=>{rw[Qj]}|_=>rw[un f]
theorem arA{x:V}{O:af}{b1:aM}(h:nL)(f:aG9):b1.any (qv x)=a9V:=by induction h with|nil=>{rfl}|cons J t i=>rw[MS,hZ]at f;rw[MR,MR,arz J f.1,i f.2]
theorem aPh{A:Around}{s:Shared}{x:V}{v:Value}(R:tU)(n:F2 x=ab){O:af}{b1:aM}(h:nL)(f:aG9)(u:Value)(hu:u∈b1):aBF A s u v (qv x u):=by induction h with|nil=>{exact iT (oQ hu)}|cons J t i=>rw[MS,hZ]at f;rw[db (h_ hu) hu,Z (arz J f.1) (aPg J R f.1 n),l (i f.2 hu)]
noncomputable def By(x:V)(O:af):cb:=a9V
inductive KQ(K:PySem.W.Frag)(neg:Bool)(x:V)(y:V)(H:Hp)(Q:VK):Prop|mk:∀p O,b y fO (ZE\/nc O) (F2 x=ab) aG9 (dB (if neg then ! By x O else By x O)->KQ K neg x y H Q)
theorem aPi:be .In (KQ X.K ai):=q5 (SeqAt.in_listAt (qv x) zg ap0 ZR) (a1W (qv x) d5 ap0 ZR)
theorem aPj:be .NotIn (KQ X.K ab):=q5 (SeqAt.notIn_listAt (qv x) zg ap0 ZR) (SeqAt.notIn_tupleAt (qv x) d5 ap0 ZR)
inductive KR(K:PySem.W.Frag)(O:af)(H:Hp)(Q:VK):Prop|mk:f p d7 (O=[fO]) bbb (mY oP) (KR K O H Q)
theorem arB:fL "len" (KR X.K):=by rw[Zp,Q p d7 e0 q h,aLA,hO,gx Sa,aGz];{rw[aH_,Zr];exact Calls.call_len_list zg cq a's};{rw[aH',Zr];exact len_tuple d5 cq a's}
theorem aPk:Kd (a'2\/a'V):=by rw[Zp,Q p d7 e0 q h,aLA,hO];have fin:∀(ar:aM),iM d7 ar->a1 oP->∀(h':Heap)(C:Nat),(j b g (c5 b g) (gQ b=aa g))->gQ aO=aa (hf eT C)->fX gk tD:=fun ar B c9 h' C kp e=>m gk _ (CQ (t':=dE) kp a_ (show cA _ _ (.lst d7)from a c9 ar C B e)) (q _ pQ);rw[aGz];{rw[aH_,Zr];obtain⟨o,d0,b0,n,hd⟩:=zg;exact da gj kp e ah};{rw[aH',Zr];obtain⟨o,d0,b0,n,hd⟩:=d5;exact da EM kp e ah}
theorem aPl:p7 a'2 a'V:=by rw[Zp,a0 p d7 rfl h,aLA,hO];rcases h with⟨e0,q⟩|⟨e0,q⟩;{rw[aH_,Zr];refine call_tuple_list zg (fun h' kp=>?_) ah;have r:=MD (t':=dE) kp;exact m (.ref Vo) _ (r.laid (t':=dE) Pf a_ (show oj eA X.w _ _ _ alo from d c9 ar B a9U)) (q _ (ahd a_))};{rw[aH'];exact call_tuple_same d5 (m fO H I q)}
def tyV(K:PySem.W.Frag)(T:String)(x:V)(H:Hp):Prop:=match x with| .str _=>T="str"| .int _=>T="int"| .ref p=>(T="list"/\∃O,ZE)\/(T="tuple"/\∃o,be (vG p)/\vW=rn/\o.dict=ae)\/(T="dict"/\((∃F,bh p pW)\/∃F,bh p tW))\/(T="set"/\∃r n,bh p (.set r n))|_=>cD
theorem arC{pins:bw}{M:St}{H:Hp}{s:Shared}{T:String}{x:V}{v:Value}(I:aY)(J:tU)(A:tyV X.K T x H):lB v T/\E a (v=bc) (z N (c5 a N) (N.dict=ae)):=by cases x with|str z=>{rw[oX "str" (typeIs_str s z t)]}|int i=>{rw[oX "int" (typeIs_int s i t)]}|ref p=>{rw[hM];rcases A with⟨rfl,O,e0⟩|⟨rfl,o,c3,b0,hd⟩|⟨rfl,c3⟩|⟨rfl,r,n,c3⟩;{obtain⟨ar,_,d5,_⟩:=OA;rw[v a1V (fun a e=>?_),dS];obtain⟨o,n,e,c,hd,_⟩:=d5;exact v o e hd};{rw[v (v o (vS p o c3) b0) (fun a e=>?_),dS];exact v o (vS _ o c3) hd};{have z:z o (gG p) a1X:=by{rcases c3 with⟨F,c3⟩|⟨F,c3⟩;rw[bgx,bgx]};rw[bJ e ex z,baf];cases b9;exact a79};{obtain⟨o,_,_,_,e,ex,_⟩:=eo p _ c3;rw[baf];cases b9;exact a79}}|_=>exact MK A
def aPm(K:PySem.W.Frag)(T:String)(J:QA)(C:TE):TE:=hi (C M H (jA (tyV K T x a8/\J x [] a8 Q)))
inductive jBM(K:PySem.W.Frag)(T:String)(J:QA)(t:TA)(M:St)(Q:VK)(x:V)(a8:Hp):Prop|mk:tyV K T x a8->t M a8 (fun O b7=>J x O b7 Q)->jBM K T J t M Q x a8
def tBM(K:PySem.W.Frag)(T:String)(J:QA)(C:TE)(t:TA):TE:=hi (C M H (jBM K T J t M Q))
variable{o e:Expr}{a7:fC}{C:TE}{t:TA}{c:Str}{i a:Pos}{T id:String}{J:QA}
theorem aPn{d:PySem.W.Frag}(u:a7O)(slot:Slot T c id)(b:a_1)(c4:MtR X id J)(d0:am2)(f:bfZ)(j:bcD)(g:AX):M (dL c [] a) (aPm d T J C):=by rw[rB,fx];refine wpAny_Call_method0_late f j (ks Yy);rw[bhT,kx (arC r r1 A)];exact a T id u jt b a3 a9 (a1Y rfl (PySem.evalArgs_none (c4 au a4 M a8 x [] v [] Q r r1 .nil d2)))
theorem adp{d:PySem.W.Frag}(u:a7O)(slot:Slot T c id)(b:a_1)(c4:MtR X id J)(d0:am2)(b3:Fs)(f:bfZ)(k:ce (dj ((aA' a (Mw rh cE)).all (ab (! x.1))&&(bjS a (bjT [] cE)).all (ab x.1.isSome)) (bT (t rh+([]:bL aBA).length+bo ([]:bL aBA).isEmpty 0 1) 30)))(j:bcD)(c0:Bk)(l:f_ a a7)(g:AX):M (dL c rh a) (tBM d T J C t):=by rw[rB,fx];refine wpAny_Call_method_late f k j rfl (ks Yy);rw[bhT,kx (arC r r1 A),e T id u jt b a3 a9 ?_];have hA:=b3 a au a4 M a8 _ r d2;rw[c0]at hA⊢;refine a1Y bB (Calls.evalArgs_plain (gd hA vs (c4 au b5 M b7 x vs v b1 Q Y r1 r2 q2)))
universe z
universe L2
namespace L2
open PySem PySem.Spec PyProof.Rows
def Sl(X:Cx)(id:String)(J:QA):Prop:=∀(pins:bw)(s:Shared)(M:St)(H:Hp)(x:V)(O:af)(v:Value)(b1:aM)(Q:VK),bek
theorem Vals.one{x:V}{b1:aM}(h:ey [x]):a9n:=by cases h with|cons J h=>rw[sK (dl J)]
theorem Vals.two{x y:V}{b1:aM}(h:ey Jh):∃u v,b1=[u,v]/\pK/\Yh:=by cases h with|cons J h=>cases h with|cons q h=>rw[sK (f _ _ J q)]
theorem Vals.zero:∀{b1:aM},ey []->b1=[]|_,.nil=>rfl
theorem Vals.dropLast{O:af}{b1:aM}(h:nL):iM O.dropLast b1.dropLast:=by induction h with|nil=>{rw[kL]}|cons J t d6=>cases t with|nil=>{rw[kL]}|cons q t'=>rw[cA J d6]
theorem bi4{I:Type}(l:ba):l.eraseIdx (d_-1)=l.dropLast:=aQ
section z
variable{X:Cx}{pins:bw}{M:St}{H:Hp}{s:Shared}{l b:Addr}{O d7 zs:af}
theorem Inv.aPo{ar its':aM}{n:Nat}{f:dU->dU}{t':Nat}(I:aY)(a:am l O)(e:c5 l JT)(W:f eT=a1Z)(d3:iM d7 MA)(c9:a1 oP):aR (ap l d7) (dm (Vn l (Hk f)) t'):=by rw[ci (PySem.IsL.update e f),cQ W];refine Vh (x:=l) (e:=l) (t a fY) gj (fun b2 u U hu=>J (aBL bh (Hk f) (hs U)) hu) (aW q) (a c9 MA _ d3 q)
theorem Inv.aPp{ar:aM}{t':Nat}(I:aY)(d3:iM d7 ar)(c9:a1 oP):aR (ap aO d7) (dm (mH (jo eT)) t'):=CQ (ip (bT q)) a_ (a c9 ar 0 d3 gI)
theorem Inv.fresh(I:aY):Y aO:=pQ
theorem Inv.bi5(I:aY)(a:am l O):Jc/\BN (Ew/\bx=Hl/\c5 l JT):=b z ar n J e (eo l _ a) (c z ar n J vR e)
theorem aPq{n:Nat}(h:a1 n):a10 n=ai:=cF a10 (ea ag)
universe z
section z
variable{X:Cx}
inductive arE(x:V)(vs:af)(H:Hp)(Q:VK):Prop|mk:∀l O y,eT [y] (bx<hv) (ys (eA O)->arE x vs H Q)
theorem aPr:Sl X "list.append" arE:=by rw[apy,KH c9,hO,bl rfl m rv.one,aaV];refine ahe F.slot_list_append (bm e) F.entry_list_append (F.args_list_append_2 _ _) (PySem.list_append l eT n u ah) (a e .bC _ (eM (ar++[u]) aQ (Vi (hq m))) (bd q));rw[cj,aBM];trivial
inductive adq(x:V)(vs:af)(H:Hp)(Q:VK):Prop|mk:∀l b O zs,eT [cV] (am b zs) (ba7->ys (O++zs)->adq x vs H Q)
theorem aPs:Sl X "list.extend" adq:=by rw[apy,cp b O zs hB,hO,bl rfl m rv.one];cases m;rw[aaV,bhY,ca G (a1 (vY+a11))];refine ahe F.slot_list_extend (bm e) F.entry_list_extend (F.args_list_extend_2 _ _) (AutoSeq1.list_extend_list_list_0 l eT n b Vp n2 (ac (aPq G) ag1 Hm) ah (by(constructor<;>trivial))) (a e b9 .bC _ (aP (eM (ar++t) aQ (Vi r2)) q));rw[cj];omega
inductive arF(x:V)(vs:af)(H:Hp)(Q:VK):Prop|mk:∀l O y,eT [] (K O (bx-1) y) (Q y (ap l O.dropLast)->arF x vs H Q)
theorem aPt:Sl X "list.pop" arF:=by rw[apy,KH b6,hO,cb rv.zero];subst b;rw[aaV,bl hu m (ag9 b6)];refine ahe F.slot_list_pop (bm e) F.entry_list_pop (F.args_list_pop_1 _) (MeetsSeq.list_pop_last l eT n u ah ah) (c e y _ (eM ar.dropLast ?_ J.dropLast) m q);{simp};{simp at*;exact ahf z}
inductive arG(x:V)(y:V)(H:Hp)(Q:VK):Prop|mk:∀l b O zs,b x cB (y=cV) (am l O) (am b zs) (ba7->ad p (Y p) (x9 (O++zs))->arG x y H Q)
theorem aPu:f3 .Add arG:=by rw[xo,cp b O zs hB,hO];cases Z;rw[aaV,bhY];refine PySem.P.add_list e b9 ?_ ah;rw[aS d0 (eT++Vp) (ar++t).toArray,L d0 (m (.ref _) _ (I.aPp (t':=dE) (Vi r2) hS) (q _ I.fresh))]
universe z
section z
variable{X:Cx}
universe z
universe L2
namespace L2
open PySem PySem.Spec PyProof.Rows
theorem Vals.ints:∀{ns:aT}{b1:aM},ey xF->sT b1 ns|[],b1,h=>by{rw[aj zk,cG];exact IntsAre.nil}|n::ns,b1,h=>by rw[aj c_];cases h with|cons J t=>rw[dl k J];exact IntsAre.cons n k (Vals.ints t)
theorem Vals.bls:∀{bs:EJ}{b1:aM},ey (Vq CJ)->b1=Vq vH|[],b1,h=>by{rw[aj zk,cG];rfl}|b::bs,b1,h=>by rw[aj c_];cases h with|cons J t=>rw[hM];rw[Vals.bls t,c_]
theorem Vals.bi6{a:Addr}{b1:aM}(J:ey [gR a]):b1=[dk a]:=by cases J with|cons J t=>cases t;rw[hM];rfl
section z
variable{prog:Program}{w:World}{A:Around}{E:aU}{s:Shared}{l:Addr}{ar:aM}{ns:aT}{Q:aU}
universe z
section z
variable{X:Cx}
universe z
section z
variable{X:Cx}
universe z
section z
variable{X:Cx}
universe z
theorem aPv{prog:Program}{w:World}{A:Around}{E:aU}{s:Shared}{l:Addr}{f:dU}{Q:aU}(a5:CS l f)(h:∀g:vF,i (g=fW aKl) (g.heap.IsListIter aO l 0/\g.heap.IsList l f) (l≠aO) (Q gk g)):bl (MF cB):=x (aBf a5 (h _ rfl ⟨Pm,a5.push _⟩ (gC (gb e a5 hc))))
theorem aPw{prog:Program}{w:World}{A:Around}{bs:EJ}{ar:aM}(e:ar=Vq vH):TruthOf cM w A (fun i v=>A eT v) (dJ aor):=fun i v s Q E d3 e0=>by rw[dC g (A ar v)];rw[e,cz]at g;rw[a2 b U g,ae d8 aor b];have a:Q aor s:=e0;rw[d8]at a;exact vQ a
theorem all_range:∀bs:EJ,(eJ bs.length).all (dJ aor)=bs.all id|[]=>rfl|b::bs=>by rw[ia,ahg,MS,List.all_map,MS,<-all_range bs];all_goals rfl
section z
variable{X:Cx}
inductive ads(K:PySem.W.Frag)(vs:af)(H:Hp)(Q:VK):Prop|mk:∀(a:Addr)(bs:EJ),A [gR a] (mz (Vq CJ)) (dB (bs.all id)) (ads K vs H Q)
theorem aPx(b0:fQ):fL "all" (ads X.K):=by rw[Zq,w bs rfl c0 q h,aKM];rw[Vr J];have U:=rv.bls;refine call_all_walk (aPv ahh (fun g b9 st R=>?_));subst b9;rw[d _ _ _ _ _ _ _ (d (aBN (A:=X.A.in1) iv _ a R eT) st (aPw U) (fun h' D c3=>a (.bl _) H (MD (fun b o y=>c3 b o (fun c=>?_) (bT y))) ?_ q))];{rcases h_ c with b4|c;rw[l (ix (b4▸ft y)),az]};{show vH _=vH _;rw[<-all_range,U,Hj,bA]}
universe z
mutual inductive Dp(K:PySem.W.Frag)(H:Hp):au V CT|bC:cs .bC .none|bl(b:Bool):cs EO I3|int(i:Int):cs hP hP|str(x:Str):cs Jn Jn|lst{a:Addr}{O:af}{c7:bL CT}:oE jg aGL|tup{a:Addr}{O:af}{c7:bL CT}:oE uG aGU inductive F3(K:PySem.W.Frag)(H:Hp):au af (bL CT)|nil:F3 K H [] []|cons{v:V}{vs:af}{d:PyData}{c7:bL CT}:cs v d->F3 K H vs c7->F3 K H (v::vs) (d::c7)end
section z
variable{X:Cx}{pins:bw}{M:St}{H:Hp}{s:Shared}
mutual theorem Dp.reads(I:aY):∀(d:PyData)(v:V)(u:Value),Dp X.K H v d->jh->∃Y,Reads bh u d Y| .none,_,_,h,J=>yJ Reads.none| .bool b,_,_,h,J=>yJ (Reads.bool b)| .int i,_,_,h,J=>Dn (Reads.int i t)| .str x,_,_,h,J=>Dn (Reads.str x t)| .list c7,_,_,h,J=>by{cases h with|lst c0 b3=>rw[hM];obtain⟨ar,rv,⟨o,n,d0,b0,_,hd⟩,_⟩:=sQ c0;rw[ft a6 (aBO I c7 _ ar b3 rv)];exact aW (Reads.list d0 b0 hd a6)}| .tuple c7,_,_,h,J=>by{cases h with|tup c0 b3=>rw[hM];obtain⟨ar,rv,⟨o,d0,b0,n,hd⟩,_⟩:=CF c0;rw[ft a6 (aBO I c7 _ ar b3 rv)];exact aW (Reads.tuple d0 b0 hd a6)}| .dict _,_,_,h,_=>PB theorem Dp.readsAll(I:aY):∀(c7:bL CT)(vs:af)(b1:aM),F3 X.K H vs c7->Fd->∃Y,ReadsAll bh b1 c7 Y|[],_,_,h,J=>yJ ReadsAll.nil|d::c7,_,_,h,J=>by{cases h with|cons a3 a9=>cases J with|cons r1 r2=>rw[ft d2 (MT I d _ _ a3 r1)];obtain⟨bs,q2⟩:=aBO I c7 _ _ a9 r2;exact aW (ReadsAll.cons d2 q2)}end
universe z
section z
variable{X:Cx}
inductive adt(K:PySem.W.Frag)(x:V)(y:V)(H:Hp)(Q:VK):Prop|mk:qF (dB (jv d e)) (adt K x y H Q)
inductive adu(K:PySem.W.Frag)(x:V)(y:V)(H:Hp)(Q:VK):Prop|mk:qF (dB (! jv d e)) (adu K x y H Q)
theorem aPy(hu:uJ):be .Eq (adt X.K):=K3 (SeqAt.compareEq_shaped r1 r2 sd p hu (eT _ q))
theorem aPz(hu:uJ):be .NotEq (adu X.K):=K3 (SeqAt.compareNe_shaped r1 r2 sd p hu (eT _ q))
universe z
universe L2
namespace L2
open PySem PySem.Spec PyProof.Rows
abbrev arI(h:Heap)(c:Addr)(v:ps):Prop:=h.IsCell c v
noncomputable def aPA(d a:Scope):Scope:={d with names:=d.names.map (oG (jw k .free) .cell)}
noncomputable def rZ(a:ja):xX->ja->ja|[],B=>B|(n,k)::J,B=>if k== .free then rZ a J ((n,aH9)::B)else rZ a J B
theorem arJ(env:Env)(f:Str×aBP->ja->Sem (ForInStep ja))(W:∀n k c,f (n,k) c=if k== .free then(do{let a<-cellOf env n;pure (.yield ((n,a)::c))})else eU (.yield c)):∀(d:xX)(B:ja),V y d (y.2= .free->a8o)->MU d B f=eU (rZ env.cells d B)|[],B,_=>bI|(n,k)::J,B,h=>by rw[qM,W];rw[dr (fun B=>arJ env f W J B (oW (h y (ck b6))))];unfold rZ;rw[bC c3 (k==Vs)];{rw[aK c3,aK c3];rw[c8 b0 (h (n,k) fu ah)];have e:cellOf env n=eU c:=by{unfold cellOf;rw[b0]};rw[e];rw[ae b9 (eQ (aA3 n) 0) c];rw[b9];exact d6 _};rw[aZ]
theorem aPB{d:Scope}{env:Env}(h:yB a8o):closureFor d env=eU (rZ env.cells mI []):=by simp only[closureFor];rw[arJ env _ bd1 mI [] h];rfl
theorem mem_lookup{I:Type}:∀{l:mt I}{n:Str}{c:I},(n,c)∈l->ax C (l.lookup n) C|(k,v)::J,n,c,h=>by rw[agH];cases U:n==k with|true=>{exact ei}|false=>rw[aJ3,az,l (aBQ h)]
set_option tactic.hygienic true in theorem Sm{a:ja}:∀{d:xX}{B:ja}{n:Str}{c:Addr},(n,c)∈aIX->(n,c)∈B\/(bam/\c=aH9)|[],_,_,_,h=>Aw|(m,k)::J,B,n,c,h=>by unfold rZ at h;rw[eH];{rw[YB,dm (Sm h) h a9,cK,aZ]};{rw[dm (Sm h) h a9,l AM,aZ]}
theorem adv{a:ja}:∀{d:xX}{B:ja}{p:Str×ef},p∈B->p∈aIX|[],_,_,h=>h|(m,k)::J,B,p,h=>by unfold rZ;split;rw[l (adv (ck h)),l (adv h)]
theorem adw{a:ja}:∀{d:xX}{B:ja}{n:Str},bam->(n,aH9)∈aIX|(m,k)::J,B,n,h=>by unfold rZ;rw[aJ3];{cases(e);exact adv fu};{split;rw[l (adw h),l (adw h)]}
set_option tactic.hygienic true in theorem Sn:∀{d:xX}{h:Heap}{B:ja}{x:Str}{c:Addr},a9u->(x,c)∈B\/(ban/\mC<=c/\arI (aBS h d) c ae)|[],_,_,_,_,h=>Aw|(n,k)::J,h,B,x,c,c4=>by unfold cellsFrom at c4;unfold pushCells;split at c4;{rw[YB];rw[aK c3];rw[<-lz h a_u]at c4;rw[bhi];{rw[i5 (h_ c4) c4];{cases(e);exact .inr (a ((ax c3)▸fu) a_ _ (a12 J _ _ _ gI) rfl)};rw[Fh]};{rw[lz]at a9;exact .inr (v (ck a3) (aBR a9) e2)}};{rw[YB,aO c3,bhi,Fh,aZ]}
theorem So:∀{d:xX}{n:Nat}{B:ja}{p:Str×ef},p∈B->p∈zi n d B|[],_,_,_,h=>h|(m,k)::J,n,B,p,h=>by unfold cellsFrom;split;rw[l (So (ck h)),l (So h)]
theorem adx:∀{d:xX}{n:Nat}{B:ja}{x:Str},ban->∃c,(x,c)∈zi n d B|(m,k)::J,n,B,x,h=>by unfold cellsFrom;rw[aJ3];{cases(e);exact⟨n,So fu⟩};{split;rw[l (adx h),l (adx h)]}
set_option tactic.hygienic true in theorem ady:∀{d:xX}{h:Heap}{B:ja}{x y:Str}{c:Addr},c (V p B (p.2<mC)) (∀x y c,(x,c)∈B->(y,c)∈B->x=y) a9u ((y,c)∈zi mC d B) (x=y)|[],_,_,_,_,_,_,hi,a3,a9=>hi _ _ _ a3 a9|(n,k)::J,h,B,x,y,c,a5,hi,a3,a9=>by unfold cellsFrom at a3 a9;split at a3;{rw[YB];rw[aK c3]at a9;rw[<-lz h a_u]at a3 a9;refine ady (h:=h.push _) ua (fun x y c a b=>?_) a3 a9;{rw[lz];rw[db (h_ c2) c2];{simp};rw[cK]};rw[cK]};{rw[YB];rw[bj c3]at a9;exact ady a5 hi a3 a9}
theorem aPC{d5:Model}{A:Around}{E:aU}{s:Shared}{d:Scope}{globals:Addr}{a:ja}{g:Str}{b:nf}{code:Value}{e:Env}{f:Addr}{Q:dE Env}(h:Q (newEnv d aO globals (zi iu mI a) g b code rz f) (fW anH)):pc (a15 d globals a [] g b code rz f):=by rw[i6 a15 a14,C (a13 (bF (wpAny_layCells _ bd1 mI a _ _ ?_)))];rw[a0 (fW XZ:vF).heap.objs.size iu (lz ..)];rw[MV];exact bF (cg xq)
theorem adz{a:Scope}:∀{d:xX}{x:Str}{k:NameKind},fg (aBT (oG (jw k Vs) a16)) x=aa k->z G (d.lookup x=aa G) (k=G\/(G= .free/\k= .cell))|[],_,_,h=>bB|(n,b)::J,x,k,h=>by rw[dr (@adz a J x k),ad h' (Md x ((Z (jw b Vs) (n,a16) (n,b))::(J.map _))) k h];cases S:x==n with|true=>{simp only[agH,S];rw[bC b0 (jw b Vs),az,az]}|false=>simp only[agH,S];rw[bC b0 (jw b Vs),cK,cK]
structure arK(N:cW)(a d:Scope)(own:JD):Prop where
 kind:sD d.kind
 uniq:ds mI a_h
 ix:cz own (K N p.2 p.1)
 free:yB (jS (vL y.1)\/iC (vL y.1))
 own:ds mI (y.2= .local\/y.2= .cell->y.1∈aBU fM\/y.1∉N)
noncomputable def wipe(M:St):ao->St|[]=>M|v::vs=>bp tw v ae
theorem adA(M:St):∀vs:ao,t tw=U4|[]=>rfl|v::vs=>by unfold wipe;rw[MW,adA M vs]
theorem adB{M:St}{i:Nat}{x:V}:∀{vs:ao},A (tw) (aa x)->A M (aa x)/\i∉vs|[],h=>⟨h,jI⟩|v::vs,h=>by unfold wipe at h;rw[N hi v i,dV];{rw[aj (U7 hi),kx (adB h)];exact⟨a3,fR⟩}
noncomputable abbrev Cx.blk(X:Cx)(s:Shared)(H:Hp)(d:Scope)(g:Env)(a8:bg):Cx:={X with FR:=s,Ks:=H,env:=g,outer:=oL,ex:=a8,fn:=ab (MN x==aa .cell),pn:=[],xe:=Jy}
section z
variable{X:Cx}{pins:bw}{M:St}{H:Hp}{s:Shared}
theorem aPD{d:Scope}{own:JD}{a8:bg}(I:aY)(ok:api)(hN:X.N.Nodup)(h:hR (iO H/\b<aO)):Inv (jP aHS aO) [] (ahj M ale) H (fW anH):=by revert I ok hN h;revert X pins M H s d own a8;refine Kk;generalize aG=X,aA=pins,aF=M,aE=H,aD=s,aB=d,aH=own,aI=a8;intro I ok hN h;have L:yB (ax c (U3 y.1) c):=bg_;generalize n:aB0 d aHS aO cE=g;have kp:x5 anH:=c_ (y7 xh);rw[dR f g.locals aO,dR l g.cells aHS];have r:g.scope=aPA d ahi:=by{rw[<-n];rfl};rw[<-lz bh aF6]at l;have k5:∀{y c},(y,c)∈akS->amU/\c<aO:=fun{y c}c4=>by{rw[dm (Sm c4) c4 rfl,az];{rw[c8 b0 (L _ a3 rfl)];rw[b0];rw[j5 z (CD _ _ b0)];exact bd z.lt}};have mem:∀{y c},V (aBX y=aa c) amU (c<aO) (iu<=c) (arI anH c ae):=fun{y c}e=>by{rw[a6 l];rcases Sn (oN e)with c4|⟨_,a9,e2⟩;rw[dQ (k5 c4)];{rw[lz]at a9;exact eW a9 e2}};have u:∀{y},iC (MN y)->z c (aBX y=aa c) amU:=fun{y}a5=>by{obtain⟨C,d3⟩:=aBQ (So (d:=mI) (n:=fI XZ) (adw (a:=a19) (B:=[]) (oN a5)));rw[<-l]at d3;rw[ak C d3];rw[l]at d3;rcases Sn (oN d3)with c4|⟨a3,_,_⟩;rw[l (k5 c4).1];{have:=aBW _ a3;rw[am a5,nj]}};rw[b (by rw[b aA9 (t r aBZ) (bl n a18) (bl n I.ok.blt) (t f a_) (fun y z c b4 b9=>?_) Q1 (fun y c z e=>?_) (a a17 a1u gj (db (lH (fun y c e z=>?_))) I.bs (cn agQ I.sz) (fun b o e U=>?_) (fun b U z=>?_) I.stack I.aqC)];{have b4:=b4;rw[gt b9];rw[l]at b4 b9;refine ady ua (fun y z c a b=>I.ok.inj y z c (k5 a).1 (k5 b).1) (oN b4) (oN b9);rw[L lz (vZ (k5 (y:=p.1) (c:=p.2) c2).2)]};{have O:o k (aBY y=aa k) (k= .cell\/k= .free) (ax c (aBX y) c):=fun k c3 Y=>by{delta Env.kindOf at c3;rw[r]at c3;rw[cD G e (adz c3)];have:G= .cell\/G= .free:=bz;rw[db this rfl];{rw[c8 c4 (adx (n:=fI XZ) (B:=akS) (oN e))];obtain⟨C,d3⟩:=aBQ c4;exact⟨C,t l d3⟩};{obtain⟨c,a3,_⟩:=u e;exact⟨c,a3⟩}};rw[bb1,l (O _ b6 gj),l (O _ b6 EM)]};{have z:=z;rw[c4 z (jS (MN y)) z,dd e,a6 l];rcases Sn (oN e)with c4|⟨_,a9,_⟩;{rcases Sm c4 with c4|⟨a3,_⟩;rw[az];{rw[ci (aBW _ a3),cQ z,kG]}};{rw[lz]at a9;exact aBR a9}};rw[Z f (gC (QP).2)];{rw[bcc,l ((a2 (QP).1).1 y c a3 z),dV]};{rw[cY (aS (QP).1.2),l (aA8 b o e z),cE (fH hc (cn agQ z)) (jr _)]};{rw[cY (zf z),l ((QP).1.2.1 z),l ((QP).1.2.2.1 z)]}) rfl zc (agM kp) (v uu ?_ (fun i y t b4 b9 e7=>?_)) aH8 ?_ aH8 (ap ua (I.dr.kept kp) adA Hc),Z f (Heap.Ns.keeps (Heap.Ns.new ..) (c_ (y7 e)))];{obtain⟨b9,R⟩:=adB b9;have j:bbQ:=by{have O:o k (g.scope.names.lookup y=aa k) (k= .local\/k= .cell\/k= .free) bbQ:=fun k c3 Y=>by{have l7:=c3;rw[r]at c3;rw[cD G e (adz c3)];have f6:¬(G= .local\/G= .cell):=fun c7=>by{rcases ok.own _ (oN e) c7 with d3|d3;{rw[h9 v (zm d3)];have e7:=ok.ix p c2;have:p.1=y:=v;rw[oS e7];exact R (aBV (v p c2 (ac1 hN e7 b4)))};rw[l (d3 (bO b4))]};rcases J with rfl|⟨rfl,rfl⟩;{rcases Y with rfl|rfl|rfl;rw[cE gj f6,cE EM f6,l ⟨e,.inr l7⟩]};rw[l ⟨e,.inl l7⟩]};have e7:=e7;rcases e7 with e7|e7|e7;rw[yS gj,yS (.inr gj),yS (.inr EM)]};rw[aoc,aJ w J (a5 i y t b4 b9 (cb bca (cj (.inr O5)) (cj (o9 k)))),aa w J (.inr (as j.2))];obtain⟨c,a3,a9⟩:=u j.1;rcases q with⟨k,_⟩|⟨_,C,d3,z⟩;{rw[ad k (ME y) .local k];rcases bca with G|G<;>rw[bs (a0 (ME y) _ G)]<;>cases k};{rw[a9]at d3;cases d3;exact v c a3 (z.keeps kp)}};{rcases mem e with⟨a3,_⟩|⟨_,z⟩;rw[S w z (CD y c a3) w (z.keeps kp),l (aW z)]};rw[Z f pQ];{rw[bcc,l (Mv y c a3),l (ze (aBR a3))]};rw[az]
theorem aPE{E:aU}{D:Addr}{O:af}{y:V}{v:Value}{Q:aU}(I:aY)(a7:am D O)(c9:bx<hv)(J:Yh)(h:i1 (aR (ap D (eA O)) c1) .none):no (Dv [Ey,v]):=by obtain⟨a0,ar,n,a,e⟩:=eo D _ a7;rw[f1 mL];refine append_at (hsz:=ah) e (fun h' sb l=>h tD (Vh (t':=dE) (xs a7) gj (fun b u U q=>sd q) (aW l) (a hS (ar++[v]) (n+1) (a.append (hq J)) ?_)));rw[l];simp
def PTs(X:Cx)(G:fC)(t:TT):Prop:=FU (MU G ab (fun c J=>Z J (do{let ok<-isTrue c X.env (eval c X.env);pure (ForInStep.yield ok)}) (eU (a1_ J))))
def arL:TT:=lG (Q ab H)
theorem aPF:PTs X [] arL:=qR (wpAny_tests_nil (v H I h))
theorem aPG{c:Expr}{t:TT}(h:PT X c t):PTs X [c] t:=DJ (wpAny_tests_one (il Q I))
universe z
theorem F4{I:Type}{t:Sem I}{Q h4:dE I}{d5:Model}{A:Around}{E:aU}{s:Shared}(h:fv d5 A t Q Jy s)(g:bcY):a'q:=ol h g
theorem aPH{prog:Program}{w:World}{A:Around}{R:Qb}{s:Shared}{t a iter:Expr}{G:fC}{d:Scope}{pos:Pos}{it B:Value}{env:Env}(I:dE Nat)(turn:j n s (I n s) (fv (ju cM w) A (ahk it) (fun J l=>match J with|none=>R (.ok .next) l|some v=>am (MG a it v) (fun _ i=>am (Vc a env v) (fun _ g=>am (MU G ab (fun c J=>Z J (do{let ok<-isTrue c env (eval c env);pure (ForInStep.yield ok)}) (eU (a1_ J)))) (fun ok b=>Z ok (am (kc t) (fun x o=>am (Dv [B,x]) (fun _ p=>s5 (I m p)) RC o) RC b) (s5 (I m b))) RC g) RC i) RC l) RC s))(n:Nat)(h:I n s):v1 (.compLoop (vW [d a Hg G 0]) 0 it B env):=by revert turn h;revert prog w A R s t a iter G d pos it B env I n;refine@mi _ _ _ _ _ _ _ _ _ _ _ _ _ _ ?_;generalize pY=prog,pZ=w,p_=A,qa=R,qb=s,qc=t,qd=a,qe=iter,qh=G,qi=d,ql=pos,qm=it;refine aML;rw[al B env I n,dt eV];refine codeAny_loop rfl I (fun n s q=>?_) n h;refine wpAny_noted ?_;rw[compTurn_list];rw[C (aBe (bF (vX (eV n s q) (fun J l j=>?_) (fun _ _ h'=>h'))))];cases J with|none=>{exact cg j}|some v=>rw[C (vX j (fun _ i r=>bF (vX r (fun _ g f=>bF (vX f (fun ok b k=>?_) (fun _ _ h'=>h'))) (fun _ _ h'=>h'))) (fun _ _ h'=>h'))];cases ok with|false=>{exact cg (bd k)}|true=>exact bF (bF (vX k (fun x o u=>bF (vX u (fun _ p y=>mS (bd y)) (fun _ _ h'=>h'))) (fun _ _ h'=>h')))
section z
variable{X:Cx}
def tLc(wi:TI)(g:TG)(c3:TT)(b8:TE)(vs:ao):TE:=hi (Dy (E D (gA D) (KU (Q Ey H))))
theorem arN{pins:bw}{s:Shared}{M:St}{H:Hp}{Q:VK}{t c7 iter:Expr}{G:fC}{d:Scope}{own:JD}{pos E:Pos}{wi:TI}{g:TG}{c3:TT}{b8:TE}{a3:bZ (cR->Sem a2b)}{d5:aU}(b0:fQ)(hN:X.N.Nodup)(I:aY)(hi:aax)(ok:api)(d8:aLK)(c6:aLL)(a0:aLJ)(c0:a6Y)(h:tLc wi g c3 b8 ale M H Q)(e4:∀D C c1 m L,c Bb (Q Ey L) (c1.heap.Ns C m) (ac_ X au L C) (a2a ak5 X.A oM a3 d5 Ey C (.ok .next) c1)):de (comprehension Q6 d cE E (newList []) ai (e0 Hg) a3) d5:=by revert b0 hN I hi ok d8 c6 a0 c0 h e4;revert X pins s M H Q t c7 iter G d own pos E wi g c3 b8 a3 d5;refine@mi _ _ _ _ _ _ _ _ _ _ _ _ _ _ ?_;generalize pY=X,pZ=pins,p_=s,qa=M,qb=H,qc=Q,qd=t,qe=c7,qh=iter,qi=G,ql=d,qm=own;refine Kk;generalize aG=pos,aA=E,aF=wi,aE=g,aD=c3,aB=b8,aH=a3,aI=d5;intro b0 hN I hi ok d8 c6 a0 c0 h e4;refine wpAny_comprehension_free (use:=a3) rfl c0 (aPB bg_) aBZ (fun y b6 e=>bj (aBW y b6) e) (bD aFW (fun f3 a4 S=>bD S (fun e1 b5 a9=>?_)));obtain⟨it,a8,l,d0,b7,e,Y,T,b4,h3,q⟩:=a9;rw[bY];refine MX (aPC ?_) (gE (a1 0));generalize a7:b5.heap.objs.size=D;rw[HO (q D (Y.dr.fresh (qE a7)))];generalize g9:({b5 with heap:=a1' (jo aJu)}:vF)=c8;have O:aR Qx c8:=by{rw[<-g9];refine Y.laid (t':=b5.toks) Pf (qE a7) (a cS [] 0 .nil ?_);rw[<-a7];exact gI};rw[bL e2 c8.heap (a1' (jo aJu)),cg e8 (hR (b<b5.heap.objs.size)) (by rw[ge o (BP b4)];exact hc),cg h6 (hR (iO Qx/\b<sU)) (by have Z:=e8 b U;rw[v (lH (aom).2) (ac e2 lz (vZ Z)),L (bW bz) (aom).1])];have d2:l 0 c8.heap:=ag0 _ _ _ b4 (yo (t e2 xh));rw[f1 (aPD O ok hN h6)];have pg:=d8 c8 Qx sU alC a8;have e5:=c6 c8 Qx sU alC a8;have N:=a0 c8 Qx sU alC a8;show dk _ _ (.compStart Q6 0 nJ Ey a_7) a84;have e3:=db (aag).1.1;generalize P:a_7=a at a5 pg e5 N⊢;have f5:a.locals=sU:=by{subst P;rfl};generalize j1:Qx=d4 at O a5 pg e5 N b2 e3 h6;generalize h4:(a84:vF)=d9 at a5⊢;have f6:l 0 d9.heap:=ag0 _ _ _ d2 (yo (bl h4 (y7 xh)));have V:∀{g0:St}{L:Hp}{c1:Shared},Inv Jj [] g0 L c1->Yl->hR (ac_ Jj [] L b):=fun{g0 L c1}K d1 b U=>c (d1 b U) (K.ok.exf b U).1 (K.ok.RW b U) (.inl U) (fun x c e=>(K.ok.exf b U).2 x c e) (GO (([]:bw)++[]));have g4:dk ak5 X.A (.compLoop Q6 0 nJ Ey a) d9:=by{refine aPH (fun n c1=>GR (W i n L)) ?_ c9 (c 0 d4 a5 f6 e3 b2);rintro n f9⟨i,g6,A,d3,f,h5⟩;rcases eV i n g6 h5 with⟨stop,d7⟩|⟨go,w,h7,step⟩;{refine F4 (T.done Jj rfl rfl rfl b0 i [] f9 _ g6 Jy A (V A f) d3 stop) a'v;rw[kr a6 F];subst a6;obtain⟨m,d1,_⟩:=F.loc;rw[gx d1];rw[f5]at d1;exact e4 D sU h1 m g6 (O.aNs (ch:=a8) F.os F.base F.dr F.bare (db (d (aS (aag).1.2) (aag).1.2.1 (cr (aag).1) (a2 (aag).1.2)))) d7 d1 (O.R5 a_ (by have z:=F.free;rw[f5]at z;exact z))};{refine F4 (T.item Jj rfl rfl rfl b0 i [] f9 _ g6 Jy A (V A f) d3 go) a'v;rw[bl a6 b3 e0];subst a6;refine F4 b3 (fun _ R e0=>?_);obtain⟨x,h9,r,b1,i0,e6,h8⟩:=e0;refine F4 (pg _ R _ h9 x u _ (r.pinned (V r h8) (aBi _ _ e6)) b1 (MH x h9 i0)) (fun _ d6⟨e7,i3,i1,g5,h2⟩=>F4 (e5 _ d6 e7 i3 _ i1 h2) (fun b i4 e0=>?_));obtain⟨i7,g7,b9⟩:=e0;have fin:∀{c1:Shared}{L:Hp},Inv Jj ([]++Kz a8 R.heap) e7 L c1->w L->s5 (GR (W i m L)):=fun{c1 L}K nx=>by{obtain⟨f7,c4,c5⟩:=h7 L nx;have g8:hR (E o (be (R.heap.get? b)) (O_/\IM)):=td (let z:=K.pin (b,o) a7m;⟨z.1,rl⟩);rw[e f7 c4 (i+1) L ((K.R8 (pins:=[])).weak (by rw[<-g5,adA]) (fun j v e=>?_)) (ag0 _ _ _ e6 (td (g8 b U o e).1)) tV c5];{rw[pu g5];exact(adB e).1};{rw[ge o (BP e6)];exact(g8 b U o e).2}};cases b with|false=>{simp only[CU,iR]at b9⊢;exact fin g7 b9}|true=>simp only[mJ]at b9⊢;refine F4 (N _ i4 e7 i7 _ g7 b9) (fun z j2 e0=>by obtain⟨i2,j3,i5,i6,B,i8,i9,nx⟩:=e0;exact aPE (X:=Jj) i5 i8 i9 i6 (fun j4 j0=>fin j0 nx))}};exact codeAny_compStart_list g4 (T.self X.A 0 _ _ _ f6 g4)
theorem Bz{t c7 iter:Expr}{G:fC}{d:Scope}{own:JD}{pos:Pos}{wi:TI}{g:TG}{c3:TT}{b8:TE}(b0:fQ)(hN:X.N.Nodup)(hi:aax)(ok:api)(d8:aLK)(c6:aLL)(a0:aLJ)(c0:anw):M Q6 bhc:=by rw[fx];rw[eval_ListComp];refine arN b0 hN I hi ok d8 c6 a0 c0 h (fun D C c1 m L K q d1 f=>v m d1 (fun l sb=>?_));rw[rW f];exact m Ey L (K.turned (t':=ahl) (jx (sd e)) F g4 h6 f4 f5) q
theorem aPI{i:Nat}{y:Str}{r:Pos}{t c7 iter:Expr}{G:fC}{d:Scope}{own:JD}{pos c:Pos}{wi:TI}{g:TG}{c3:TT}{b8:TE}(b0:fQ)(hN:X.N.Nodup)(b6:A X.N y)(j:k7 (ME y))(k:MB Q6 (aa aJo) c.line cE=eU ab)(hi:aax)(ok:api)(d8:aLK)(c6:aLL)(a0:aLJ)(c0:anw):bn [aJo] Q6 c (ac9 bhc (Kx i)):=by rw[kW];rw[exec_Assign_Name_used _ _ _ _ k];rw[C (aBe Yb),C (bD (arN (d5:=fun _ c1=>SP X au D .next c1) b0 hN I hi ok d8 c6 a0 c0 h (fun Z C c1 m L K q d1 f=>?_)) (fun _ c1 e0=>mS e0))];refine a1c (aqE (v:=gR Z) K hN b6 (.inl j) rfl (fun b5 Y P=>?_) (.inr j));rw[ak sb b3 P,rW f,aa m (d1.sameBut sb cq) (fun e2 f6=>as L (Y.turned (t':=b5.toks) (jx (ac f6 b U e)) F g4 h6 f4 f5) q)]
theorem aPJ{t:Expr}{a:bL Comprehension}{d:Scope}{pos r:Pos}{y:Str}{l:Nat}{env:Env}(c3:sD env.scope.kind)(b6:k7 (env.scope.names.lookup y))(a5:(r.line==MC)=ab)(b3:(d.names.any (fun(n,k)=>n==y&&(k== .local||k== .cell)))=ai):MB (vW a) (aa aJo) l env=eU ab:=by rw[ad ky (agN y) .local b6];have U:env.blockKind= .function:=by{delta Env.blockKind;rw[c3];rfl};rw[oF b1 MC];have a3:(r.line==bfG)=ab:=a5;rw[oF a9 bfG];delta MB;simp only[U,ky,b3,a5,b1,a3,a9];rfl
universe z
theorem aPK{lo:Int}{n:Nat}{g:TG}{c3:TT}{b8:TE}{vs:ao}{M:St}{a8:Hp}{D:Addr}{k:jb}(j:Y1)(b1:j 0 aFO)(c0:l i H (i<n) (j i H) (be aoi tw H bdg))(hd:F0 n):d7 PD PD PD:=by rw[l0 (m1 n Qh) n,bgX];by_cases Z:i<n;rw[or (fun L u=>j7 n Ph) (c0 i _ Z p)];{have e:i=n:=by{rw[el]};rw[bY];exact dp a_ (hd H p)}
theorem arO{K:PySem.W.Frag}{a:Addr}{O:af}{g:TG}{c3:TT}{b8:TE}{vs:ao}{M:St}{a8:Hp}{D:Addr}{k:jb}(j:Y1)(b1:j 0 aFO)(a5:l i H Qs (j i H) jg)(c0:∀i x H,nh->j i H->be x tw H bdg)(hd:F0 bx):d7 Qu Qu Qu:=by rw[l0 (m1 bx Qs) bx,bgX,ci (a5 i H hi p),fI Z bx];{refine i2 (d O O[i] q ah) (fun L u=>f (bx-i_) bz Z u);rw[fw y y,bY];exact c0 i x _ (y O q) p};{have e:i=bx:=by{rw[aIr]};rw[bY];exact dp aKG (hd H p)}
noncomputable def arP(N:cW)(a d:Scope)(own:JD):cb:=(match d.kind with| .function=>ab|_=>ai)&&(a2c (e7 (cv a_h)))&&(own.all (bn (cv (K N p.2 p.1))))&&(a2c (e7 (match y.2 with| .free=>(match vL y.1 with|some .cell=>ab|some .free=>ab|_=>ai)| .local=>a9Q| .cell=>a9Q|_=>ab)))
theorem arQ{N:cW}{a d:Scope}{own:JD}(h:arP N a d own=ab):arK N a d own:=by rw[a4 arP];simp only[hZ,Hn,iS]at h;obtain⟨⟨⟨a3,a9⟩,e2⟩,e5⟩:=h;rw[j ?_ a9 e2 a8n a8n];{split at a3;{assumption};rw[cX]};{rw[ci (e5 y b6)];simp only[e]at q;split at q<;>first|rw[mU w_]|rw[o8 w_]|(rw[kG])};{rw[ci (e5 y b6)];rw[i5 e e]<;>(simp only[e,ahm,iS]at q;exact q)}
universe L2
namespace L2
open PySem PySem.Spec PyProof.Rows
section z
variable{prog:Program}{w:World}{A:Around}{R:Qb}{s:Shared}{t u o W c2:Expr}{a b:fC}{d:Scope}{pos:Pos}{it B:Value}{env:Env}
universe z
section z
variable{X:Cx}
universe z
universe L2
namespace L2
open PySem PySem.Spec PyProof.Rows
section z
variable{c:Type} [v_ c]
noncomputable def fa(F:hT)(k:c):jK:=cM (F.find? FE)
noncomputable def putK(F:hT)(k:c)(v:V):hT:=Z (Vt FE) (MY (jp (v d.1 k (d.1,v) d))) (F++[(k,v)])
theorem r_{p:c×V}{J:hT}{k:c}(e:p.1=k):fa (p::J) k=aa p.2:=bx fa oR e
theorem se{p:c×V}{J:hT}{k:c}(e:¬p.1=k):fa (p::J) k=fa J k:=bx fa oR e
theorem KS(k:c):∀F:hT,(Vt FE)=dj uE|[]=>rfl|p::J=>by rw[MR];rw[ZG];{simp only[r_ e,dH e,aB2,a14]};{rw[se e,ea e,aB1];exact KS k J}
theorem arR(k j:c)(y:V):∀F:hT,fa aIT j=gy (fa F j) (v j k y x)|[]=>rfl|p::J=>by have d6:=arR k j y J;rw[c_];rw[N h p.1 k];{rw[aK h];rw[b1 p.1 j];{rw[w0 (p.1,y),r_ e,aB3,aK (a2d h)]};{rw[w1 (p.1,y),se e,d6]}};{rw[aO h,b1 p.1 j];{rw[w0 p,r_ e,aB3,ff (h (aAV z))]};{rw[w1 p,se e,d6]}}
theorem arS(k j:c)(y:V):∀F:hT,uE=ae->fa (F++[(k,y)]) j=av (j=k) y (fa F j)|[],_=>by{rw[b1 k j,Z (aK CL) (w0 (k,y)),Z (ff (e wa)) (w1 (k,y))]}|p::J,d1=>by rw[ahn];have c3:¬p.1=k:=J (by rw[r_ z]at d1;cases d1);rw[se c3]at d1;rw[b1 p.1 j];{rw[r_ e,r_ e,ff (c3 (aAV z))]};{rw[se e,se e,(arS k j y J d1)]}
theorem Sq(F:hT)(k j:c)(y:V):fa aHG j=av (j=k) y (fa F j):=by delta mM;rw[bC a (Vt FE)];{rw[aK a,arR];rw[KS]at a;rw[b1 j k];{rw[ch x S a];rw[aK e,e,S,aB3,cN]};rw[az]};{rw[aO a];refine arS k j y F ?_;rw[KS]at a;cases q:uE with|none=>{rfl}|some x=>rw[q]at a;exact iT (a rfl)}
theorem arT(F:hT)(k:c)(v:V):bd X5 (hY+1):=by delta mM;split;{simp};{simp}
theorem aPL{F:hT}{k:c}(v:V)(h:uE=ae):X5=F++[(k,v)]:=by delta mM;rw[KS,h];exact bj ay
theorem rW.adD{o:jK}{u:ps}(J:rW o u):MZ=u.isSome:=by cases o with|none=>{cases u with|none=>{rfl}|some _=>trivial}|some _=>cases u with|none=>{trivial}|some _=>rfl
theorem KV.val{F:hT}{vs:Fm}(J:tQ)(k:c):rW uE (CV vs k):=by rw[aJm];induction J with|nil=>{trivial}| @cons p q c5 v h t d6=>rw[kx h,ZG];{have b:CV (q::v) k=aa q.2:=by{simp[CV,oR,(a2e e)]};rw[r_ e,b];exact a9};{have d3:¬q.1=k:=J a9K;have b:CV (q::v) k=CV v k:=by{simp[CV,oR,d3]};rw[se e,b];exact d6}
theorem KV.any{F:hT}{vs:Fm}(J:tQ)(k:c):(Vt FE)=vs.any FE:=by rw[aJm];induction J with|nil=>{rfl}|cons h t d6=>rw[MR,MR,d6,h.1]
theorem KV.adE{F:hT}{vs:Fm}(J:tQ)(k:c){y:V}{u:Value}(Z:kY):KV aIT (Vk (jp (v d.1 k (d.1,u) d))):=by delta KV at J⊢;induction J with|nil=>{rw[kL]}| @cons p q c5 v h t d6=>rw[c_,c_];refine .cons ?_ d6;rw[kx h,ZG,az,az]
theorem KV.put{F:hT}{vs:Fm}(J:tQ)(k:c){y:V}{u:Value}(Z:kY):KV aHG (stored vs k u):=by delta mM stored;rw[J.any k];rw[bC e (vs.any FE),di e e (J.adE k Z)];{rw[cD e e];exact a2f J (bd Z)}
theorem KV.length{F:hT}{vs:Fm}(J:tQ):hY=iO:=Mn J
universe z
theorem BA{P:Program}{w:World}{k:Key}{u:Value}(J:gP (kV k) u):z6 u:=by cases k with|inl i=>{rw[n2 QF (aNg P w i t)]}|inr x=>rw[n2 aok (aNh P w x t)]
theorem arU{P:Program}{w:World}:∀{K:tA}{b1:aM},ey (CW kV)->aB4 tG K b1|[],_,J=>DS .nil|k::K,_,J=>by rw[c_]at J;cases J with|cons h t=>rw[cA (BA h) (arU t)]
abbrev KT(H:Hp):au uw J2:=dD (nQ beX)
theorem KT.val{H:Hp}{F:uw}{O:J2}(J:Yu)(k:tA):rW uE (cM am'):=by induction J with|nil=>{trivial}| @cons p q c5 v h t d6=>obtain⟨a3,_,a9⟩:=h;rw[ZG];{have b:zo (q::v) k=aa q.2:=by{simp[zo,oR,(a2e e)]};rw[r_ e,b];exact a9};{have d3:¬q.1=k:=J a9K;have b:zo (q::v) k=zo v k:=by{simp[zo,oR,d3]};rw[se e,b];exact d6}
theorem KT.adE{H:Hp}{F:uw}{O:J2}(J:Yu)(k:tA){y:V}{u:Value}(Z:kY):KT H aIT (G8 (putAt k u)):=by induction J with|nil=>{rw[kL]}| @cons p q c5 v h t d6=>rw[c_,c_];refine .cons ?_ d6;rw[dd a3 e2 h];delta putAt;rw[ZG,az,az]
theorem KT.put{H:Hp}{F:uw}{O:J2}(J:Yu)(k:tA){b:Addr}{y:V}{u:Value}(U:aas)(Z:kY):KT H aHG (aho O k b u):=by have e:(Vt FE)=dj am':=by{rw[KS,(J.val k).adD,aB5]};delta mM aho;rw[e];rw[bC q (dj am'),di q q (J.adE k Z)];{rw[cD q q];exact a2f J (ai U Z)}
theorem KT.keeps{H L:Hp}{F:uw}{O:J2}(J:Yu)(c6:j b d7 (fr alo) (hB alo)):KT L F O:=Paired.aqz J (vM bcq)
section z
variable{P:Program}{w:World}{H:Hp}{h:Heap}{a:Addr}
theorem arV{u:HO}(ok:la)(e:kz u):g8 u:=e.ok ok
theorem Sr{F:gs}(ok:la)(e:kz pW):nn apH:=show g8 pW from arV ok e
theorem arW{F:gs}(ok:la)(e:cw pW):nn apH:=Sr ok YI
theorem arX{K:tA}(ok:la)(e:l1 (CW kV)):(U1 tG).is h K a:=by obtain⟨_,ar,J,o,a3,a9,n,e2⟩:=du (g8 (.tup (CW kV))) (ok a _ e);exact a o eT n a3 a9 e2 (ax (arU J))
theorem Ss{F:uw}(ok:la)(e:kz tW):bdp:=by revert ok e;revert P w H h a F;refine aaW;rw[n P w H h a F];intro ok e;obtain⟨z,y,O,J,o,a7,e1,a3,a9,e2,e5,f⟩:=du (g8 tW) (arV ok e);rw[b z y O J o a7 e1 a3 (a a9 e2 e5 qj f)];have all:∀{l:uw}{m:J2},KT H l m->aK m ((U1 tG).is h x.1 x.2.1):=by{intro l m q;induction q with|nil=>{rw[Yi]}| @cons p q c5 v e0 t d6=>rw[Bh,i5 (h_ S) S,sN (arX ok ag),aZ]};exact all J x S
theorem aPM{F:uw}(ok:la)(e:cw tW):bdp:=Ss ok YI
universe z
def jm(H:Hp)(a:Addr)(y:V)(J:jK):Prop:=dc (kz pW) (J=uE) (kz tW) (aas/\J=uE)
def qw(H:Hp)(a:Addr)(y v:V)(L:Hp):Prop:=dc (cw pW) (hY<hv/\L=a7') (cw tW) (aas/\hY<hv/\L=a8a)
theorem jm.k{H:Hp}{a:Addr}{F:gs}{k:Key}(e:cw pW):jm H a (kV k) uE:= .inl (m F k YI rfl)
theorem jm.t{H:Hp}{a b:Addr}{F:uw}{k:tA}(e:cw tW)(f7:aas):jm H a cV uE:= .inr (a F k b YI (ai f7 rfl))
theorem qw.k{H:Hp}{a:Addr}{F:gs}{k:Key}{v:V}(e:cw pW)(a5:hY<hv):qw H a (kV k) v a7':= .inl (m F k e (dx a5))
theorem qw.t{H:Hp}{a b:Addr}{F:uw}{k:tA}{v:V}(e:cw tW)(f7:aas)(a5:hY<hv):qw H a cV v a8a:= .inr (a F k b e rfl f7 a5 rfl)
section z
variable{X:Cx}{pins:bw}{M:St}{H:Hp}{s:Shared}{a:Addr}{y v:V}{u J:Value}{o:jK}{A:Around}{E:aU}
theorem Inv.big(I:aY):ahp<aO:=b7 ay (a2g I.bk).lt
theorem aPN{Q:aU}(hu:JU)(I:aY)(g:jm H a y pB)(Z:kY)(h:l c5 c1 (aR H c1) (gP v c5) (Q c5 c1)):mp (zf bc u):=by revert hu I g Z h;revert X pins M H s a y v u A E Q;refine@mi _ _ _ _ _ _ _ _ _ _ _ _ _ _ ?_;generalize pY=X,pZ=pins,p_=M,qa=H,qb=s,qc=a,qd=y,qe=v,qh=u,qi=A,ql=E,qm=Q;intro hu I g Z h;rw[a7I];{rw[jW,wm (Sr eo e),m3 (CV vs k) (t l (Vu k))];exact a2i (BA Z) ahr hw (h c5 _ rm W)};{rw[jW,aGw,wl (Ss eo e),m3 (cM am') (t l (Vu k)),h9 b0 (Cv hw)];refine a2h (ahq hu) aos j c2 ?_;rw[L b0 (h c5 _ rm W)]}
theorem aPO{Q:aU}(hu:JU)(I:aY)(g:aIs)(Z:kY)(h:Fg MZ):mp (Mx .In u bc):=qZ (wpAny_in_of (BA Z) hd ahr ?_) (a2j (ahq hu) aos hd j ?_)
theorem aPP{Q:aU}(hu:JU)(I:aY)(g:aIs)(Z:kY)(h:Fg (! MZ)):mp (Mx .NotIn u bc):=qZ (wpAny_notIn_of (BA Z) hd ahr ?_) (a2k (ahq hu) aos hd j ?_)
theorem Su{h':Heap}{t':Nat}{N:HO}(I:aY)(h8:uQ (H a))(c0:pb a)(a0:ax q (gQ a) q)(a6:cA (ad a N) a N):aR (ad a N) uC:=Vh (x:=a) (e:=a) h8 gj (fun b q U z=>ac c0 b U z) a0 a6
theorem arY{P:Program}{w:World}{L:Hp}{h':Heap}{F:gs}{vs:amW}(z:a1 hY)(hd:lb a)(d:tQ)(j:h'.DictOf tG a vs):oj P w L h' a pW:=a z hd vs d j
theorem aPQ{L:Hp}{Q:Qa}(hu:JU)(I:aY)(g:qw H a y v L)(Z:kY)(rv:gP v J)(h:i1 Bb ()):mp (a1b bc u J):=by revert hu I g Z rv h;revert X pins M H s a y v u J A E L Q;refine@mi _ _ _ _ _ _ _ _ _ _ _ _ _ _ ?_;generalize pY=X,pZ=pins,p_=M,qa=H,qb=s,qc=a,qd=y,qe=v,qh=u,qi=J,ql=A,qm=E;refine Kj;rw[bV L Q];intro hu I g Z rv h;rcases g with⟨F,k,e,c3,l,b0⟩|⟨F,k,b,e,c3,f7,l,b0⟩;{subst c3 b0;rw[wm (arW eo e)];refine wpAny_setItem_pairs (hsz:=bl oS z) (BA Z) j (zH (h _ ?_));exact Su I (jz e) c0 bf' (arY be4 hd (d.put k rv) p)};{subst c3 b0;rw[aGw,wl (aPM eo e)];refine a2l (hsz:=bl (Mn d) z) (ahq hu) aos j (zH (h _ ?_));obtain⟨q,a7,e1,e0,a9,e2,e5,_,f⟩:=p;refine Su I (jz e) c0 alD (a (be4) hd _ ((d.put k f7 rv).keeps (fun c d7 g7=>?_)) q a7 e1 e0 (d a9 e2 e5 f));rw[L (bW (qq g7 e (J (nomatch z)))) g7]}
universe z
section z
variable{X:Cx}{pins:bw}{M:St}{H:Hp}{s:Shared}{a:Addr}{F:gs}{k:Key}{u:Value}{A:Around}{E:aU}
universe z
def Sv(i:Expr):Prop:=∀ov c,ahc i ai ov c=aBJ [ov,c] (zf ov c)
theorem arZ{prog:Program}{w:World}{A:Around}{E:aU}{s:Shared}{env:Env}{B a:Expr}{pos:Pos}{T id:String}{Q:aU}(a5:aBH (.type T) "__getitem__"=eU (aa X1))(c0:Sv a)(h:ie (kc B) (fun o l=>am (kc a) (fun i g=>g.TypeIs o T/\am (zf o i) Q E g) E l)):bl (kc (eV B a)):=by refine aBI (lq h (fun o l j=>lq j (fun i g f=>?_)));obtain⟨Z,f⟩:=f;delta a1S;rw[ma];rw[getitemInPython_of_ne Z.not_modules];rw[C (wb Z a5 ?_),z fin (am (ahc a ai o i) (fun J b=>am (letTemporaryGo B o J>>=au (eU J)) Q E b) E g) (c0 o i) (wpAny_operating (lq f (fun J b k=>bF (wpAny_letTemporaryGo (cg k)))))];first|exact fa fin|exact bF (fa fin)|exact bF fin
theorem aPR{X:Cx}{pins:bw}{M:St}{H:Hp}{s:Shared}{a:Addr}{y:V}{o:jK}(I:aY)(g:aIs):a8z:=by rcases g with⟨F,k,e,_,_⟩|⟨F,k,b,e,_,_,_⟩;{obtain⟨_,_,vs,_,j⟩:=Sr eo e;exact Vv};{obtain⟨_,_,O,_,j⟩:=Ss eo e;exact Vv}
inductive jG(Q:VK)(x y:V)(H:Hp):Prop|mk:f a v (x=bc) (jm H a y pB) AB (jG Q x y H)
def aPS(l A:TE):TE:=GH (jG Q x)
def aPT(A l:TE):TE:=Kq MZ
def aPU(A l:TE):TE:=Kq (! MZ)
inductive jD(N:jb)(v x y:V)(d4:Hp):Prop|mk:f a e4 (x=bc) (qw d4 a y v e4) (N e4) (jD N v x y d4)
def aPV(l A L:TE):TS:=DC (jD (mF M) v x)
section z
variable{X:Cx}{o i e B:Expr}{pos E T:Pos}{l A L:TE}
theorem Sx(hu:am8)(d0:Bc)(hi:yc)(c0:Sv i):M (eV o i) (aPS l A):=aO bf7 y Z v ⟨aPR Y g,aPN hu Y g Z (fun c5 c8 O W=>a v b7 O W q2)⟩
theorem aPW(hu:am8)(hi:yc)(d0:Bc):PC X .In i o (aPT A l):=aO apY x R ov (aPO hu Y g Z (FS ov.isSome))
theorem Sy(hu:am8)(hi:yc)(d0:Bc):PC X .NotIn i o (aPU A l):=aO apY x R ov (aPP hu Y g Z (FS (! ov.isSome)))
theorem aPX(hu:am8)(d0:Bc)(hi:yc)(d3:an_)(c0:Bt (q3 E)):bn [q3 E] B pos (aPV l A L):=by rw[kW];refine bhV;obtain⟨y,d4,O,Z,a,e4,ex,g,q3⟩:=P;rw[lW,En];exact aPQ hu O g Z rv (fun d9 a5=>d M e4 a5 q3)
universe z
theorem ar0{P:Program}{w:World}{H:Hp}(h:Heap)(U:ahp<mC):GL xN:=a cS (wS U) [] .nil (Heap.DictOf.new h)
theorem aPY{P:Program}{w:World}{H:Hp}(h:Heap)(U:ahp<mC):GL pX:=a cS (wS U) [] .nil _ #[] 0 gI (bj tE rfl aB6)
def aPZ:TE:=G3 (ad p xN)
def aP0:TE:=G3 (ad p pX)
section z
variable{X:Cx}{pos:Pos}
theorem aP4:AT aPZ:=rc (fX xN (ar0 bh ahs) (h _ pQ))
theorem adF:AT aP0:=rc (fX pX (aPY bh ahs) (h _ pQ))
universe z
def adG:aa aam St Hp (eo (aO V V))|[],_,H,Q=>Q [] H|(D,L)::J,M,H,Q=>D M H (jA (L M a8 (p8 (adG J M b7 (fun c5 d4=>Q ((x,y)::c5) d4)))))
abbrev VV:au (aO V V) (aO cR cR):=dD (nQ (gP p.1 q.1/\gP p.2 q.2))
def Sz(X:Cx)(pos:Pos)(keys:bL Px)(b:fC)(a:aam):Prop:=∀(pins:bw)(s:Shared)(M:St)(H:Hp)(Q:eo (aO V V)),cu (adG a M H Q) (evalPairs (pairTrees Ho b cE pos)) (fun vs c1=>∃c5 L,Bb/\VV c5 vs/\Q c5 L)
theorem aP5{X:Cx}{pos:Pos}:Sz X pos [] [] []:=rc (pairTrees_nil_walk a'0)
theorem aP6{X:Cx}{pos:Pos}{k v:Expr}{K:bL Px}{vs:fC}{D L:TE}{a:aam}(c3:M k D)(d3:M v L)(a6:Sz X pos K vs a):Sz X pos (aa k::K) (v::vs) ((D,L)::a):=rc (pairTrees_cons_walk (bD (c3 au s M H _ I h) (fun u a4 e0=>b x a8 r R d2 e0 (bD (d3 au a4 M a8 _ r d2) (fun T b5 e0=>dK y Z (bD (a6 au b5 M b7 _ Y q2) (fun ws c8 e0=>b c5 d4 O d q3 e0 (a ((x,y)::c5) d4 O (.cons ⟨R,Z⟩ d) q3))))))))
noncomputable def KU(F a:gs):gs:=a.foldl (fun B d=>mM B d.1 d.2) F
theorem KV.merge:∀{a:gs}{f:amW}{F:gs}{vs:amW},KV a f->tQ->KV (KU F a) (merged vs f):=by intro a f F vs J;rw[aJm];induction J generalizing F vs with|nil=>{rw[fS];exact q}| @cons p q c5 v h t d6=>intro m;have e:KV aJ5 (stored vs q.1 q.2):=by{have:=m.put p.1 h.2;rw[<-h.1];exact this};exact d6 e
theorem ar1:∀(a F:gs),bd (KU F a) (hY+mL)|[],F=>aGK|p::J,F=>by have a3:=ar1 J aJ5;have a9:=arT F p.1 p.2;show bd (KU aJ5 J) _;rw[ia];exact cf a3 a9
theorem ar2{P:Program}{w:World}:∀{F:gs}{ws:aO cR cR},VV bds ws->z f (Carries tG ws f) (KV F f)|[],_,J=>DS (pf CK)|p::F,_,J=>by rw[c_]at J;cases J with| @cons a b Y bs h t=>rw[aJ f c (ar2 (P:=P) (w:=w) t),aKS];exact v ((p.1,e2)::f) (aP (BA h.1) c) (.cons (bd h.2) q)
def aP7(a:aam):TE:=hi (E p (Y p) (adG a M (ad p xN) (fun c5 b7=>b7 p=aa xN/\∃F:gs,c5=bds/\hY<=15/\Q fO (upd b7 p (.dK (KU [] F))))))
theorem aP8{X:Cx}{pos:Pos}{keys:bL Px}{b:fC}{a:aam}(h:Sz X pos Ho b a)(g:keys.all (·.isSome)=ab)(a5:a2m=cw)(b1:Ho≠[])(k:a2m<=15):M (.Dict Ho b pos) (aP7 a):=by rw[nb q];refine wpAny_Dict_walk (knd:=aJj) g a5 b1 k (bD (h au _ M _ _ (cE xN XZ (ip (bT q)) (ar0 bh ahs)) (q _ (ze (aB7 aO)))) (fun ws b5⟨c5,b7,Y,d,e,F,e1,lk,q2⟩=>?_));subst e1;rw[bH c i (ar2 (P:=eA) (w:=X.w) d),X hd l m j (arW Y.dr e)];cases m;rw[w f c j (zH (m gk _ ?_ q2))];exact Su Y (jz e) c0 bf' (arY (by rw[gw (ar1 F [])];rw[MO]at a3;rw[L qI (cf a3 lk)]) hd (i.merge .nil) p)
section z
variable{X:Cx}{pins:bw}{M:St}{H:Hp}{s:Shared}{a:Addr}{y d:V}{u J:Value}{o:jK}{A:Around}{E:aU}
universe z
section z
variable{X:Cx}{o e f:Expr}{i a:Pos}{l A b:TE}
universe z
section z
variable{X:Cx}{pins:bw}{M:St}{H:Hp}{s:Shared}{a:Addr}{F:gs}{A:Around}{E:aU}
universe z
section z
variable{X:Cx}{pins:bw}{M:St}{H:Hp}{s:Shared}{a:Addr}{y:V}{u:Value}{A:Around}{E:aU}
universe z
universe L2
namespace L2
open PySem PySem.Spec PyProof.Rows
section z
variable{prog:Program}{w:World}{A:Around}{E:aU}
universe z
section z
variable{X:Cx}
universe z
universe L2
namespace L2
open PySem PySem.Spec PyProof.Rows
theorem aP9:vP "reversed"=aa (.type "reversed"):=dw
section z
variable{X:Cx}{pins:bw}{M:St}{H:Hp}{s:Shared}{h':Heap}
theorem Inv.aP_{t':Nat}{ch:bg}(I:aY)(k:bd I7 gY ha)(W:bH ch (iO H)):aR H uC:=by rw[bbH];refine Ms (g':=sO) (d':=zd) (ch:=ch) bf1 (sf QV) (yv QV) a_s (sY (np QV)) (sR e) a'b a8' an7 aHV zc;rw[Cm (uP (W _ z)),bhH]
theorem Inv.ar3{t':Nat}{ch:bg}{T:Addr}{N:HO}(I:aY)(k:bd I7 gY ha)(W:bH ch (iO H))(Z:aO<=T)(a6:cA (ad T N) T N):aR (ad T N) uC:=by rw[gx (ze Z),bbH];refine Ms (g':=sO) (d':=zd) (ch:=ch) bf1 (sf QV) (yv QV) (fun b o _ e n=>?_) (sY (np QV)) (fun b O e=>?_) (fun b o u e=>?_) (fun b c5 e=>as #[]) an7 aHV zc;rw[gM (g9 hc Z) n,gM (em d1) e,gM (em d1) e];{rw[bW (em d1),e];rfl};rw[Cm (uP (W _ z))];{rw[N U b T];{subst U;rw[a6 ak,dS];exact a6};{rw[a6 (bW U)];refine nT (fun c q=>QD) (zL QD);rw[cY b0,aZ,aZ]}}
universe z
section z
variable{X:Cx}
theorem ar4{c7:Expr}{pins:bw}{M:St}{H:Hp}{s:Shared}{R:rH}{d0:It}{l:QH}{D:Nat}(I:aY)(o:Obj)(T:qz [aO] aO)(st:l 0 (mH o))(q:R d0 H):PIE X au M c7 R gk (dm (mH o) D):=by rw[c aO [aO] l d0 H (MD (fun b N e=>xh)) T (v st tV q),nm aO,bY];exact I.R5 a_ pQ
universe z
noncomputable def Itc(lo c:Int)(n:Nat):It:=IC al2
theorem aP'{P:Program}{w:World}{K:PySem.W.Frag}{c7:Expr}(it:Addr)(lo c:Int)(n:Nat):jy Z4 (a1h h it (lo+cd i*c) (cJ-cd i) c)where mem:=bK;obj:=ph ah;keep:=bdq;item:=by{intro X C hw g b0 i au s M H E I W st d8;rw[uN,yg,Li c,ep d3];exact q7 al2 (dx t)};done:=by{intro X C hw g b0 i au s M H E I W st d8;rw[yg];exact a1f iv st (ey (n<=i) d8 (nA this)) aaJ};self:=vj (a1e st h)
def RgC(i j c:Int)(n:Nat):Prop:=c≠0/\c.natAbs<1073741824/\a2n i j c=ab/\Vd i j c=n
inductive jR3(R:rH)(vs:af)(a8:Hp):Prop|mk:∀(i j c:Int)(n:Nat),A [hP,IU,.int c] (RgC i j c n) (R (Itc i c n) a8) (jR3 R vs a8)
def aQa(d6:TA):TI:=qI (jR3 R)
section z
variable{X:Cx}{c7:Expr}
theorem aQb{a b c:Expr}{d6:TA}{p pos:Pos}(d8:Gl X "range")(c4:f9 "range")(b3:PA X aaM d6)(c0:f8 aaM (g5 (e0 a) [b,c]))(b8:f_ pos [b,c]):hn (er "range" aaM) (aQa d6):=by rw[JC];refine jz boot_range b8;rw[JO];obtain⟨i,j,k,n,e,⟨u,e5,e6,c1⟩,q⟩:=d2;rw[bY];cases r1 with|cons J C=>cases C with|cons B C=>cases C with|cons d C=>rw[nU,Eb,dl t' B,dl f d];refine call_range_3 u (a1i (a1j ..) e6 ?_) (.inl (a1l e5));refine ar4 (D:=aht) (sl Pf) _ (aP' _ i k n) ?_ q;rw[aS b4 (i+ae 0*k) i];have b9:cJ-ae 0=Vd i j k:=by{exact ER};rw[b4,b9];exact gI
universe z
noncomputable def Itv(K:PySem.W.Frag)(a:Addr)(n:Nat):It:=v (mO (i<n/\Io (nV (n-1-i)))) (fun i H x L=>L=H/\E O jg (nV (n-1-i))) a7f
theorem aQc{P:Program}{w:World}{K:PySem.W.Frag}{c7:Expr}(a it:Addr)(n:Nat):jy (Itv K a n) (Qh/\h.IsRevIter it a (cJ-1-cd i))where mem:=bK;obj:=ph (by have e:b=it:=by{grind};rw[bY];obtain⟨_,o,e,c,d⟩:=st;exact a7r);keep:=o6 ⟨st.1,st.2.at a7C⟩;item:=by{intro X C hw g b0 i au s M H E I W st d8;rw[uN];obtain⟨k8,O,x,e0,S⟩:=d8;rw[Zw,ZS,yg];obtain⟨_,L⟩:=st;have b4:cJ-1-ae i=ae (n-1-i):=by{rw[ahu (Vw k8),ahu (fb cS k8)];rfl};rw[b4]at L;refine wpAny_pyNext_rev_item L qG (x:=u) ag aKq;have b9:ae (n-1-i)-1=cJ-1-ae (i+1):=by{rw[fT]};rw[b9]at f;rw[aIv];exact C8 (a x H (a7e) m aK4 ⟨k8,f⟩ (db (Ef).1))};done:=by{intro X C hw g b0 i au s M H E I W st d8;rw[yg];obtain⟨k8,L⟩:=st;have j:n<=i:=d8;have b4:cJ-1-ae i= -1:=by{exact a2p (nA j) (nA k8)};rw[b4]at L;exact wpAny_pyNext_rev_end iv L aaJ};self:=vj (a2o st.2 h)
inductive jV(K:PySem.W.Frag)(R:rH)(vs:af)(a8:Hp):Prop|mk:∀(a:Addr)(O:af),A [bc] Yp (R (Itv K a bx) a8) (jV K R vs a8)
def aQd(K:PySem.W.Frag)(d6:TA):TI:=qI (jV K R)
section z
variable{X:Cx}{c7:Expr}
theorem ar9{d:PySem.W.Frag}{e:Expr}{d6:TA}{p pos:Pos}(d8:Gl X "reversed")(c4:f9 "reversed")(b3:QI)(c0:Rv)(g:AX):hn (er "reversed" [e]) (aQd d d6):=by rw[rB,JC];refine jz aP9 rfl;rw[JO,w O e e0 q d2,bY];cases r1 with|cons J C=>rw[nU,hM,a9 rv u (CI e0),f1 CG,ae b4 (ae vY-1) (v bx-1-ae 0)];refine call_reversed_list u.isList (a2o (l:=a) (i:=ae vY-1) Pm (ar4 (D:=aht) r _ (aQc a _ bx) (as cS) q));rw[<-b4];exact Pm
universe z
section z
variable{prog:Program}{w:World}{A:Around}{E:aU}{s:Shared}
universe z
section z
variable{X:Cx}{pins:bw}{M:St}{H:Hp}{s:Shared}{d:Addr}{o:Obj}
universe z
section z
variable{P:Program}{w:World}{K:PySem.W.Frag}{c7:Expr}{d:Addr}{o:Obj}{a7:fq Vx}{e1:Nat}
universe z
section z
variable{X:Cx}{c7 e:Expr}{l:TE}{i a:Pos}
universe z
noncomputable def Ite(K:PySem.W.Frag)(a:Addr):It:=ge (Io nh) (∃T x,v=al1/\Y T/\L=ad T (eq x)/\E O jg nh) (∃O:af,jg/\bx<=i)
theorem aQe{P:Program}{w:World}{K:PySem.W.Frag}{c:fC}{B:Nat}{T:Pos}(a e it:Addr):ahv P w K bb8 (Ite K a) amR e (fun i h=>(In (ae i))/\CH it a i/\e≠it)where mem:=bK;obj:=ph (by obtain⟨⟨a7,a0⟩,⟨o,d0,b0,hd⟩,_⟩:=st;rw[cY (ax U),aZ,aZ]);keep:=o6 (let⟨⟨a7,a0⟩,hi,R⟩:=st;v ⟨a7,k e bK _ a0⟩ (hi.at (ly (k it og o q))) R);item:=by{intro X C hw g b0 i au s M H E I W st d8;rw[uN,bgm,aMr,Zw,ZS];have d:=ft a0;refine a2r a0 L qG (x:=u) ah R (fun h' d0 f Z G c3=>dl (wpAny_letOwnedTupleGo_enum (s:=dm h' (dE+1)) d0 (fun l V sb=>?_)));have a6:oj eA X.w (ad aO (eq x)) l aO (eq x):=a aIH [.int i dE,u] (hR ei m) _ (ac sb _ (vU d) Z) rfl _ rfl;rw[Q gk _ (I.ar3 (ch:=amR) (fun b N U q=>ac sb b aJM (c3 b N aJM aJM q)) W a_ a6) (v (f _ x pQ aK4) (v (as u) (f.at (ly (ac sb it (hs R) q))) R) tV),cX,gM (gC (by rw[cY (ax U),l IK,Z z (gb q L (ft q))])) (Ef).1]};done:=by{intro X C hw g b0 i au s M H E I W st d8;rw[uN,bgm,aLD,Zw,rW (W it og),f1 CG];exact a2q iv a0 L qG ah (fun h' f7=>bd (vR (fun b o U q=>f7 b o U q)))};self:=vj (let⟨⟨_,a0⟩,_⟩:=st;aB8 a0 h)
inductive jE(K:PySem.W.Frag)(R:rH)(vs:af)(a8:Hp):Prop|mk:f a O (vs=uf) Yp (R (Ite K a) a8) (jE K R vs a8)
def aQf(K:PySem.W.Frag)(d6:TA):TI:=qI (jE K R)
theorem aQg{d:PySem.W.Frag}{X:Cx}{e:Expr}{d6:TA}{p pos T:Pos}{c:fC}{B:Nat}(d8:aHk)(c4:aHr)(b3:QI)(c0:Rv)(g:AX):PI X bb8 (er "enumerate" [e]) (aQf d d6):=by rw[rB,JC];refine jz a2t rfl;rw[JO,w O ex e0 q d2,lW];cases r1 with|cons J C=>rw[nU,hM,a9 rv u (CI e0),qw u.isList (aB8 a0 ?_),c (fI+1) [fI+1,fI] _ _ a8 (sl c3) (aQe a (fI+1) fI) (v (v ⟨.none,a0⟩ L (a2s _)) tV q)];have c1:fI<=b:=by{rw[el]};exact a9R
theorem ar_:vP "zip"=aa (.type "zip"):=dw
noncomputable def Itz(K:PySem.W.Frag)(a b:Addr):It:=ge (∃(O d7:af)(x y:V),N jg aJS nh (A d7 y)) (∃T x y,v=al1/\Y T/\L=ad T ZN/\ad O jg nh/\E d7 aJS (A d7 y)) (∃O d7:af,jg/\aJS/\(bx<=i\/oP<=i))
inductive jZ(K:PySem.W.Frag)(R:rH)(vs:af)(a8:Hp):Prop|mk:oY (R (Itz K a b) a8) (jZ K R vs a8)
def aQh(K:PySem.W.Frag)(d6:TA):TI:=qI (jZ K R)
universe L2
section z
namespace Bits
open PySem PyProof.Rows
universe Bits
universe z
section z
namespace TL
open PySem PySem.Builtin PySem.Builtin.Str PySem.StrLaws
universe TL
universe z
namespace L2
open PySem PySem.Spec PyProof.Rows
section z
variable{X:Cx}{pins:bw}{M:St}{H:Hp}{s:Shared}{Q:VK}
universe z
section z
variable{X:Cx}
universe z
section z
variable{X:Cx}{o e:Expr}{C b8:TE}
universe z
universe L2
namespace L2
open PySem PySem.Spec PyProof.Rows
section z
variable{X:Cx}
universe z
universe L2
namespace Att
open PySem PySem.W PySem.Calls PyProof.Rows
section z
variable{prog:Program}{w:World}{A:Around}{E:aU}{s:Shared}{K:Frag}
universe z
universe Att
namespace L2
open PySem PySem.Spec PyProof.Rows
universe L2
namespace L2
open PySem PySem.Spec PyProof.Rows
universe L2
namespace L2
open PySem PySem.Spec PyProof.Rows
abbrev sf:ml:=i8 cD
abbrev E0:XK:=JK
theorem fp{X:Cx}:a2u sf X E0:=iL h Hf
structure KW(K:PySem.W.Frag)(x g:Str)(st:Stmt)(f:Addr)(fd:FuncData):Prop where
 ex:∃(D:Value)(m:nf)(kV p b3:Value)(j:nf)(e3 ct:Value)(z:Ep),fd=jS x g/\Ce fd/\aLq
 kp:aH7
section z
variable{P:Program}{w:World}{K:PySem.W.Frag}{mg:dM}{base:Heap}
theorem KW.ok{x g:Str}{st:Stmt}{f:Addr}{fd:FuncData}{N c5:cW}{k:Nat}{e8:Sp}(F:jm g fd)(r:apw)(len:alk)(l:∀(e3:Value)(A:Around)(outer:ka)(s:Shared)(H:Hp)(vs:af)(Q:VK)(E:XK),e7 (ag_ g DY aO f e3) (yx sf P w K mg aj N g DY f e3 A ez s H E).Ku (RH st)):f0 sf (k+1) fd:=by rw[biF];refine aOQ lk S r len (fun A ez s H vs Q E a6 C=>?_);rw[aJ t h (l e3 A ez s H vs Q E a6 C)];exact v t h.Ku q
theorem KW.binds{x g:Str}{st:Stmt}{f:Addr}{fd:FuncData}{c5:cW}(F:jm g fd)(h:hI x g):aav:=by rw[biF];exact .all (h kV p b3 j e3 ct)
theorem aQi{x g:Str}{st:Stmt}{f:Addr}{D:Value}{m j:nf}{z:Ep}{kV p b3 e3 ct:Value}(l:Ce (jS x g))(c:aLq)(k:aH7):jm g (jS x g):=⟨a D m kV p b3 j e3 ct (bj z l c),k⟩
universe z
theorem aQj{A:Around}{k:Nat}(a6:JL):JU:=fb (a0K (ay:1<=64) _) wc
section z
variable{X:Cx}
theorem pv(i:Nat){x:Str}{pos:Pos}(hN:ce xW)(d3:ey aol ahw)(hd:mf)(S:a73):M (gP pos) (ho i):=aNu hN d3 hd S
universe z
theorem bi8{A B:Prop}(h:B):lm ai:=bB
theorem ar'{A B:Prop}(h:A):lm ab:=bB
theorem fF{c A B:Prop} [Hq c](a3:c->A)(a9:¬c->B):if c then A else B:=ah
theorem adJ{c A B:Prop} [Hq c](b0:c)(h:B):lm (! cv c):=ag
def cY(H L:Hp):Prop:=hq (H b) alr
theorem cY.refl(H:Hp):cY H H:=fun _ _ h=>h
theorem cY.trans{H a8 b7:Hp}(a:cY H a8)(b:cY a8 b7):cY H b7:=fun c o h=>b c o (a c o h)
theorem cY.free{H L:Hp}(e:bQ){l:Addr}(h:L l=a2v):H l=a2v:=by cases q:H l with|none=>{rfl}|some o=>rw[m2 (e l o q)]
theorem cY.seq{K:PySem.W.Frag}{H L:Hp}{a:Addr}{O:af}(e:bQ)(h:jg):fW K L a O:=qX (e _ _ h) (e _ _ h)
section z
variable{c:Type} [v_ c]
theorem asa:∀{l:bL c}{k:c},zp->¬k∈l->c7 (l++[k])|[],k,_,_=>aQ|a::J,k,h,c3=>cq
universe z
theorem at_of{O:af}{z:Int}{j:Nat}{v:V}(e:z=v j)(h:ank):su z:=t e (dX h)
theorem F5{I:Type}{l:ba}(hN:l.Nodup){i j:Nat}{x:I}(a:xH)(b:El):i=j:=bgy
universe L2
namespace GM
abbrev Ln:=fz
theorem asb{a b x y z:Int}(a3:a+b*x<=0)(a9:a+b*z<=0)(S:gu)(c9:y<=z):a+b*y<=0:=by rcases aB_ 0 b with U|U;rw[cb (Vy c9 U) (jM a9),cb (aB9 U S) (jM a3)]
theorem aQk{a b x y z v:Int}(a3:a+b*x<=0)(a9:a+b*z<=0)(e2:a+b*x<0\/a+b*z<0)(S:gu)(d3:y<v)(c9:v<=z):(a+b*y)+(a+b*v)<0:=by have b4:=gM y S (x (eW (a1P d3 c9)));have b9:=gM v (x (eW (Int.lt_of_le_of_lt S d3))) c9;rw[bs b U U U];{have:b*v<b*y:=aB' d3 U;exact rV b4 b4 this};{rw[el]};{have:b*y<b*v:=ahx d3 U;exact rV b9 b9 this}
structure Arr where
 n:Nat
 lines:cH
 k:ee
 u:ee
 X:Ln->Int->Int
noncomputable def top2(e f:Ln):Nat:=min e.2 f.2
noncomputable def iD(e f:Ln):Nat:=max e.1 f.1
structure Arr.Ok(R:Arr):Prop where
 lt:kl (Ye/\e.2<R.n)
 nd:R.lines.Nodup
 km:l i j (i<j) (j<R.n) (R.k i<R.k j)
 BB:kl (yK (R.X e x))
 lo:kl (e9 e.1=R.u e.1)
 hi:kl (e9 e.2=R.u e.2)
 on:kl (pc (e9 v) (R.u v))
 nc:kl (∀f∈gE,kE<g_->aKO->e9 g_<=m0 g_)
structure mn(R:Arr)(e f:Ln):Prop where
 ov:kE<g_
 b:e9 kE<=m0 kE
 t:e9 g_<=m0 g_
 s:aKO\/e9 g_<m0 g_
theorem Arr.Ok.kle{R:Arr}(Y:R.Ok){i j:Nat}(h:i<=j)(b8:j<R.n):R.k i<=R.k j:=by rw[eL (qN h),l (eW (Y.km i j h b8))];simp[*]
theorem Arr.Ok.diff{R:Arr}(Y:R.Ok){e f:Ln}(a0:lV)(W:ZJ):yK (R.X e x-R.X f x):=by rw[ak b h (Y.BB e a0)];obtain⟨c,d,g⟩:=Y.BB f W;rw[aa (a-c) (b-d) Jb];rw[h,g];grind-abstractProof
theorem mn.le{R:Arr}(Y:R.Ok){e f:Ln}(a0:lV)(W:ZJ)(h:aaF){z:Int}(a3:PV<=z)(a9:z<=PX):R.X e z<=R.X f z:=by rw[ak b g aJv];have b4:=g PV;rw[gt (g PX)];have e7:=g z;have:=asb (a:=a) (b:=b) (x:=PV) (z:=PX) (y:=z) bai baj a3 a9;exact jM e7.m
theorem mn.two{R:Arr}(Y:R.Ok){e f:Ln}(a0:lV)(W:ZJ)(h:aaF){y z:Int}(a3:PV<=y)(a9:y<z)(e2:z<=PX):R.X e y+R.X e z<R.X f y+R.X f z:=by have⟨a,b,g⟩:=aJv;have b4:=g PV;rw[gt (g PX)];have e7:=g y;have g5:=g z;have:=aQk (a:=a) (b:=b) (x:=PV) (z:=PX) (y:=y) (v:=z) bai baj (by have:=h.s;grind) a3 a9 e2;exact rV e7.m this g5.m
theorem mn.asymm{R:Arr}{e f:Ln}(h:aaF)(g:mn R f e):cD:=by have a:iD f e=kE:=a2x _ _;have b:oT f e=g_:=a2w _ _;have e2:=h.s;have g7:=g.b;have g8:=g.t;rw[el]
theorem aQl{R:Arr}(Y:R.Ok){e f:Ln}(a0:lV)(W:ZJ)(h:e.1=f.1)(c6:e9 g_<m0 g_):aaF:=by have le:=jd;rw[bJ (eb f W)];have U:kE=e.1:=by{delta iD;simp[*]};have b4:=wd e a0;rw[gt (wd f W)];rw[<-h]at b9;rw[w ?_ ?_ (eW c6) (.inr c6)];{delta iD oT;rw[h,Nat.max_self];exact aCa ⟨h▸le.1,m.1⟩};simp_all
theorem asd{R:Arr}(Y:R.Ok){e f:Ln}(a0:lV)(W:ZJ)(ov:kE<g_)(h:aKO):aaF:=d ov (eW h) (Y.nc e a0 f W ov h) Aw
abbrev Row:=aO Ln Nat
noncomputable def di:gG Row Nat|g,[]=>g|_,(_,g)::J=>di g J
def hp(P:JY):au Nat Row|_,[]=>gA|g,(e,g')::J=>aIQ/\hp P g' J
noncomputable def dt(g:Nat)(Z:Row):ao:=g::ahy eY
noncomputable def linesOf(Z:Row):cH:=ahy fM
theorem oq:Ie (di g (Z++d5)=di JP d5)|[],d5,g=>rfl|(e,g')::Z,d5,g=>oq Z d5 g'
theorem ot{P:JY}:Ie (hp P g (Z++d5)↔fv P/\hp P JP d5)|[],d5,g=>eI hp di|(e,g')::Z,d5,g=>by simp[hp,di,ot Z d5 g',and_assoc]
theorem hp.mono{P Q:JY}:fW (∀g e g',(e,g')∈Z->aIQ->Q g e g') (fv P) Q|[],_,_,_=>fY|(e,g')::Z,g,h,⟨a,b⟩=>⟨h g e g' bK a,b.mono (fun g7 b4 g8 m=>h g7 b4 g8 ro)⟩
theorem hp.adK{P:JY}:jx (fv P) (dc pR (FO (P g7 e g8)))|[],_,_,e,h=>j9 bH|(e,g')::Z,g,⟨a,b⟩,f,h=>by rw[jv bH];rcases h with rfl|⟨q,h⟩;rw[l (a g bK g' og a)];{rw[vh (b.adK f (hA bH (io q))),j g7 ?_ g8 ?_ h];{rw[OX]};{rw[OX]}}
theorem sg:∀(Z:Row)(g:Nat),JP∈dR Z|[],g=>aGK|(e,g')::Z,g=>by have:=sg Z g';simp[di,dt]at this⊢;rw[eL this,co AM];exact o9 bG
theorem hp.swap{P:JY}{Z:Row}{g h:Nat}(q:j e g' aIQ (P h e g'))(c:fv P):hp P h Z:=by cases Z with|nil=>{trivial}|cons a J=>rw[i4 (q _ _ c.1) c.2]
noncomputable def cQ(i:dA):anu|[]=>0|e::J=>i e+dL J
theorem SA(i:dA){a b:cH}(h:a.Perm b):dL a=dL b:=by induction h with|nil=>{rfl}|cons x _ d6=>{simp[cQ,d6]}|swap x y l=>{simp[cQ];simp+arith [*]}|trans _ _ a b=>exact a.trans b
def Wp(i:dA)(w:ee)(g:Nat)(e:Ln)(g':Nat):Prop:=w g=i e+w g'
theorem adL{i:dA}{w:ee}:∀{Z:Row}{g:Nat},Y8->w g=dL pR+w JP|[],g,_=>bx bH cQ di|(e,g')::Z,g,⟨a,b⟩=>by have:=adL b;delta Wp at a;simp[bH,cQ,di]at this⊢;simp+arith [*]
noncomputable def iE:i cH Nat Nat Row|[],_,_=>[]|[e],_,J=>[(e,J)]|e::f::a7,c,J=>(e,c)::a'c
theorem mq:Ip (bH Q4=N)|[],c,J=>rfl|[e],c,J=>rfl|e::f::a7,c,J=>by have:=mq ED (c+1) J;simp[iE,bH]at this⊢;exact this
theorem ase:DH (N≠[]->di g Q4=J)|[],c,J,g,h=>aIi|[e],c,J,g,_=>rfl|e::f::a7,c,J,g,_=>by simp[iE,di];exact ase ED (c+1) J c Rj
theorem asf:Ip (aK Q4 (x.2=J\/(c<=x.2/\x.2+1<c+iP)))|[],c,J,x,h=>j9 iE|[e],c,J,x,h=>by{rw[jv iE];(constructor<;>(subst_vars;rfl))}|e::f::a7,c,J,x,h=>by rw[jv iE,aoa];{simp};{rw[eL (asf ED (c+1) J x h),l AM];grind-abstractProof}
theorem ash{i:dA}{w:ee}{d:Int}:DH (b (w J) d (w g=d+dL N) (ad j (j+1<iP) (w (c+j)=d+dL (N.drop (j+1)))) (N≠[]) (hp (Wp i w) g Q4))|[],c,J,g,_,_,_,h=>aIi|[e],c,J,g,a3,a9,_,_=>by{rw[lL fY];delta Wp;rw[a3,a9];simp[cQ];simp+arith [*]}|e::f::a7,c,J,g,a3,a9,e2,_=>by have a:=e2 0 AA;simp at a;rw[lL (ash ED (c+1) J c a3 a Rk Rj)];{delta Wp;rw[a,a9];simp[cQ];simp+arith [*]};rw[i1 (e2 (j+1) (x (Vf b8)))]
structure Sw where
 row:Row
 cnt:Nat
 aP:cC
 side:amx
noncomputable def merge(aP:cC)(a b:Nat):cC:=ab (v kM FA aaf kM)
noncomputable def mr:i Nat Row Ln (bZ fz)|_,[],_=>ae|g,(f,g')::J,e=>av (e=f) (g,g') (mr g' J e)
structure Step(R:Arr)(v:Nat)(s c1:Sw)where
 A:Row
 E:Row
 B:Row
 N:cH
 row:oU=hI E
 hA:h0 A (e9 v<R.u v)
 hE:h0 E (e.2=v)
 hB:h0 B (R.u v<e9 v)
 hN:eK N lV e.1
 sN:a7P
 bi9:c1.row=hI a'u
 KX:ahz=ec+(iP-1)
 lab':Hr=pp hh (di hh E)
 adM:M0=oR hh a'u
def Kept(R:Arr)(i:dA):Prop:=E v (v<R.n) (dL (lD e.2)=dL (lD e.1))
def Sp(s:Sw)(g:Nat)(e:Ln)(g':Nat):Prop:=eK g=eK YW/\eK g'=eK amj
structure Inv(R:Arr)(t:Nat)(s:Sw):Prop where
 mem:∀e,e∈tK↔aF9
 dO:eM tK (mn R)
 pos:0<ec
 gap:∀g∈dt 0 oU,g<ec
 bi_:E x (x<ec) (eK x<ec)
 adN:E x (x<ec) (eK x<=x)
 KY:E x (x<ec) (eK (eK x)=eK x)
 last:eK (di 0 oU)=0
 al:hp (Sp s) 0 oU
 aQm:kl (jQ->YW<ec/\amj<ec)
 SD:E x (x<ec) (x=0\/fq gE (jQ/\(YW=x\/amj=x)))
 zero:0<t->(anB)->fq gE (e.1=0/\YW=0)
universe GM
namespace GM
theorem hq(a b:Row):bH (a++b)=bH a++bH b:=ar bH
theorem asi:qG (e∉pR) (mr g Z e=ae)|[],_,_,_=>rfl|(f,g')::Z,g,e,h=>by rw[jv bH];simp[mr,h.1];exact asi (hA bH h.2)
theorem asj:jx (c7 pR) (fv (fun g7 e g8=>bee))|[],_,_=>fY|(f,g')::Z,g,h=>by rw[jv bH,v (x cN) (bN (asj (Z:=Z) (g:=g') (hr bH h.2)) (fun g7 e g8 m q=>?_))];have:e≠f:=ai (h.1 g8 (q▸m));simp[mr,this];exact q
theorem asl:qG (e∈pR) (FO bee)|[],_,_,h=>j9 bH|(f,g')::Z,g,e,h=>by rw[T e f,l (a g bK g' og (x kO))];{have:e∈pR:=by{simp[bH]at h⊢;simp_all};rw[vh (asl (g:=g') this),j g7 ?_ g8 ?_ (bx mr q h)];{rw[OX]};{rw[OX]}}
theorem adO(aP:cC)(a b:Nat):os a=os b:=by delta sV;grind-abstractProof
theorem asm{aP:cC}{a b x:Nat}(h:kM=0):os x=0:=by delta sV;split<;>simp_all
theorem aQn{aP:cC}{a b x y:Nat}(h:kM=aP y):os x=os y:=by delta sV;rw[h]
theorem SF{R:Arr}:k2 (oV (mn R)) zp:=fun{l}h=>h.imp (fun{a b}q e=>by rw[bY];exact q.asymm q)
theorem ou(g:Nat)(a b:Row):e3 (x∈dR (a++b)↔x∈dR a\/x∈dt (di g a) b):=by intro x;simp only[dt,fe,hC,hy];have:E y (y=di g a) (y=g\/y∈a.map eY):=fun y h=>by{have:=sg a g;rw[h];rw[oT dt]};constructor;rw[cK];grind-abstractProof
variable{R:Arr}{t:Nat}{s c1:Sw}
theorem Step.asn(r:lj){x y:Nat}(S:x<ec)(b6:y<ec)(h:eK x=eK y):Hr x=Hr y:=by rw[oW];split;rw[l (aQn h),aZ]
theorem Step.ow(r:lj):ec<=ahz:=t r.KX xC
theorem Step.aQo(r:lj){e:Ln}(h:e.1≠t):M0 e=we e:=by rw[r.adM];have:e∉bH aaB:=by{rw[mq];rw[fS];exact h (x (sW e) q).2};simp[asi this]
theorem Step.aso(r:lj):r.N.Nodup:=SF r.sN
theorem Step.aQp(r:lj)(I:ye):lP<ec:=by refine Hs _ ?_;rw[sX,ou];exact al3
theorem Step.aQq(r:lj)(I:ye):lT<ec:=by refine Hs _ ?_;rw[sX,ou,ou];exact .inr al3
theorem Step.adP(r:lj)(I:ye):∀g∈dt lP aaB,g<ahz:=by rw[dt g];simp only[dt,hC,fJ]at h;rw[cy al9,cb al_,cl r.ow];rcases h with rfl|⟨x,S,rfl⟩;rw[l pM];{rw[eL (asf _ _ _ x S),l (fb h.l (fH b c)),Z r.KX (cf h.2 (aS r.N.length 1))]}
theorem Step.aQr(r:lj){x:Nat}(h:ec<=x)(S:x<ahz):Hr x=x:=by rw[oW];have:r.N≠[]:=by{rw[fS];have:=r.KX;rw[am q,ui];exact yn h S this.l};rw[tR,a87]
theorem Step.F6(r:lj):hp (fun g e g'=>M0 e=(g,g')) lP aaB:=by refine bN (asj (t mq r.aso)) (BV ?_);rw[r.adM];simp[h]
theorem asp:∀(N:cH)(c J j:Nat),j+1<iP->fq N ((e,c+j)∈Q4)|[],c,J,j,h=>ah|[e],c,J,j,h=>ah|e::f::a7,c,J,j,h=>by cases j with|zero=>{exact v e bK (x fu)}|succ j=>rw[aJ d3 m (asp ED (c+1) J j (x (a2y h))),ak d3 (x (ck bG))];simp[iE];grind-abstractProof
theorem asq{P:JY}:jx (fv P) (∀{e:Ln}{x:Nat},(e,x)∈Z->∃y,P y e x)|[],_,_,e,x,h=>ah|(f,g')::Z,g,⟨a,b⟩,e,x,h=>by rw[lX];rcases h with⟨rfl,rfl⟩|h;rw[cK,l (asq b h)]
theorem asr(Y:R.Ok)(c6:Qr)(I:ye)(r:lj):Inv R (t+1) c1:=by rw[bhF];have o:bH c1.row=alp++(r.N++alq):=by{rw[Hv,hq,hq,mq]};rw[m2 i alp,m2 H Az,m2 j alq,cZ p alp (i e h) (r.hA e h),cZ u alq (j e h) (r.hB e h)];have dO:=M4;rw[n]at dO;rw[qP,qP]at dO;obtain⟨c0,⟨sE,v,K⟩,L⟩:=dO;have al:=I.al;rw[sX,ot,ot]at al;rw[dO M C al];have X:=al9;have i7:=al_;have e9:=r.ow;have b3:=Hs;rw[sX]at b3;have w:=a'4;have N:=wb (yI Aw);rw[b2 a8x];have keep:∀{g:Nat}{e:Ln}{g':Nat},j lV jQ (g<ec) (g'<ec) (Sp s g e g') (Sp c1 g e g'):=by{intro g e g' a0 a3 d8 E⟨d2,q2⟩;have sl:=Hu e a0 a3;delta Sp;rw[Ht aG7];exact⟨r.asn d8 sl.1 d2,r.asn E sl.2 q2⟩};have A:∀{Z:Row}{g:Nat},i (bk (dR Z) (x<ec)) (V e pR aF9) (fv (Sp s)) (fv (Sp c1)):=by{intro Z;induction Z with|nil=>{intros;trivial}|cons a J d6=>intro g d8 a0 b0;rw[fw g' a,bJ (a0 e bK),v (en m.1 Ai (d8 g bK) (d8 g' og) b0.1) (d6 (aJ (d8 x ?_)) (aJ (a0 x ?_)) b0.2)];{simp[dt]at S⊢;exact .inr bG};{simp[bH]at S⊢;exact .inr S}};rw[Ck bao];{intro e;rw[o];simp only[hy];constructor;{rintro(h|h|h);rw[cv (i e h).1 (vZ (aV (i e h))) (p e h)];{rw[cy (x (sW e) h)];have:=eb e a.1;exact v a.1 ag (fu a.2.g et)};exact v (j e h).1 (vZ (aV (j e h))) (u e h)};{rw[aK',T e.1 t,co (.inl (ae (sW e) ⟨a3,q⟩))];{have:=ae ir (v a3 (cw a9 q) ej);rw[am n,pr hy,A5 this,Fh];{have:=r.hE e h;rw[el]};rw[co (.inr bG)]}}};{rw[o,qP,qP];rw[aa c0 (v r.sN v (fun f W e a0=>?_)) (fun e a0 f W=>?_)];{rw[a_M,cb (j e a0),cl (u e a0)];have d:=eb f a.1;rw[oQ (iD f e) (Vz (ew b.2.1))];refine asd Y a.1 b.1 (t U (aCa ⟨a.2▸d.1,c⟩)) ?_;rw[U,<-a.2,wd f a.1,a.2];exact r.hB e a0};{simp only[hy]at W;rcases W with W|W;{rw[a_M,cb (i e a0),cl (p e a0)];have d:=eb f a.1;rw[oQ kE (Hw (ew b.2.1))];refine asd Y b.1 a.1 (t U (aCa ⟨c,a.2▸d.1⟩)) ?_;rw[U];have:=wd f a.1;rw[am a.2];rw[this];exact r.hA e a0};rw[aZ]}};rw[l (cf e9 X)];{rw[dt g];rw[Hv,ou,ou]at h;rw[A5 h,l (fH (w g h) e9),l (r.adP I g h)];{rw[T r.N []];{rw[aj q];simp only[iE,di,dt,hC]at h;rw[eL h,l (fb h.l (fH X e9)),cb (l g (by simp only[dt,hC];exact .inr h)) pM]};{rw[aj RE];have:=l g h;exact cn this e9}}};{intro x S;rw[an1];{rw[gw (M3 x b0)];rw[oW];split;{rw[fe (M3 _ X)];have e2:=M3 _ i7;delta sV;rw[a75]};rw[EL]};rw[Z aLa S]};{intro x S;rw[an1];{rw[gw (I.adN x b0)];rw[oW];split;{delta sV;rw[a75]};rw[aZ]};rw[Z aLa a_]};{intro x S;rw[an1];{rw[gw (I.KY x b0)];rw[oW];split;{delta sV;rw[T (eK x) a9T];{rw[aIz,cY (M1 (eK lP) (eK lT))];{rw[qO z,(I.KY _ X)];rw[amV]};{rw[CX z,(I.KY _ i7)];rw[amV]}};rw[aZ]};rw[aZ]};{have:=aLa;rw[this,this]}};{rw[f1 I.last];rw[sX,oq,oq]at a5;rw[Hv,oq,oq];rw[aJR];{rw[oW,aK q,q];rw[aon];cases hB:r.B with|nil=>{rw[anY,an2,L adO (asm a5)]}|cons a J=>rw[fY g a,anY,an2];exact asm a5};{rw[RE,oW,bj q];have:=l _ (sg r.B _);simp[this,a5]}};{rw[Hv,ot,ot];rw[ak (A w i B) (r.F6.mono (BV ?_))];{delta Sp;rw[h];exact xB};{have base:=A l j C;rw[T r.N []];{rw[q];rw[aon];refine base.swap (fun e g' h=>lH h.2);rw[<-h.1,oW,aK q];exact adO _ _ _};rw[Z RE aj]}};{intro e a0 a3;rw[T e.1 t];{rw[z m (e∈bH aaB) mq a8u,vh (asl (g:=lP) m)];have b4:M0 e=(g7,g8):=by{rw[r.adM];simp[h]};rw[b4];exact⟨r.adP I _ g9,r.adP I _ e1⟩};{rw[Ht q];have:=Hu e a0 bM;rw[Fc]}};{intro x S;rw[an1];{rcases I.SD x b0 with h|⟨e,a0,a3,a9⟩;rw[l AM,co (d e a0 I_ (t (Ht aG7) a9))]};{rw[aJ e m (asp r.N ec lT (x-ec) (bv r.KX (Nat.add_lt_of_lt_sub (Nat.sub_lt_left_of_lt_add (za b0) (this▸S))))),cQ (show ec+(x-ec)=x by simp_all)];obtain⟨y,b6⟩:=asq r.F6 q;rw[cy (x (sW e) m)];exact bj e a.1 ag (.inr (iG b6))}};{intro _ b1;rw[T t 0];{rw[e_,gr a3 b1];have D:=ae (sW e) ⟨a0,a3⟩;have F:r.A=[]:=by{cases hA:r.A with|nil=>{rfl}|cons a J=>have:=i a.1 (mo hA bH);simp_all};cases hN:r.N with|nil=>{rw[zA hN]}|cons f G=>have k:=x (sW f) ag;rw[bZ f k.1 k.2,cl r.F6];rw[hN,F]at c;cases G with|nil=>{rw[bfS]}|cons h3 G=>rw[bfS]};{obtain⟨e,a0,a3,a9⟩:=I.zero aml b1;exact d e a0 a3 (t (Ht fk) a9)}}
theorem ass(R:Arr):Inv R 0 aLI:=by rw[Ck bao]<;>simp[bH,dt,di,hp]
universe GM
namespace GM
variable{R:Arr}
theorem hp.SG{i:dA}{w c5:ee}:fW (bk (dR Z) (c5 x=w x)) Y8 (Wp i c5)|[],_,_,_=>fY|(e,g')::Z,g,h,⟨a,b⟩=>by rw[lL (b.SG (aJ (h x ?_)))];{delta Wp at a⊢;rw[h g bK,h g' og];exact a};{rw[OX]}
theorem hp.and{P Q:JY}:fW (fv P) (fv Q) (fun a e b=>P a e b/\Q a e b)|[],_,_,_=>fY|(e,g')::Z,g,⟨a,b⟩,⟨c,d⟩=>⟨⟨a,c⟩,b.and d⟩
structure Run(R:Arr)where
 st:df Sw
 zero:st 0=aLI
 step:E t Qr (aCb R t (st t) (st (t+1)))
theorem Run.inv(J:kb)(Y:R.Ok):yn (Inv R t (VA t))|0,_=>t J.zero (ass R)|t+1,h=>asr Y h Z2 (M5 t h)
theorem Run.ow(J:kb):∀{t t':Nat},t<=t'->t'<=R.n->ET<=(cA t').cnt:=by intro t t' h h';induction t' with|zero=>{simp_all}|succ m d6=>rw[T t (m+1),aZ,km (M5 m bB).ow]
theorem Step.asu{t:Nat}{s c1:Sw}(r:lj)(Y:R.Ok)(I:ye)(e:Ln):e∈Az↔lV/\e.2=t:=by rw[bhF];constructor;{rw[eD];have:=x ir ag;exact⟨et,r.hE e h⟩};{rintro⟨a3,a9⟩;rw[b2 (eb e a3)];have:=ae ir (v a3 (bU l.1 a9.l) (x a9.g));rw[am n,pr hy];have hi:=wg e a3;rw[a9]at hi;rw[A5 this,nI (r.hA e h),l h,nI (r.hB e h)]}
theorem Step.asv{t:Nat}{s c1:Sw}(r:lj)(I:ye):eM Az (mn R):=by have dO:=M4;rw[sX,hq,hq,qP,qP]at dO;exact dO.2.1.1
theorem Step.asw{t:Nat}{s c1:Sw}(r:lj)(Y:R.Ok)(I:ye):eJ Az (ahA (an (e.2==t))):=n7 (Hx (SF (r.asv I)) (VB _)) aLb
theorem Step.aQs{t:Nat}{s c1:Sw}(r:lj)(Y:R.Ok):r.N.Perm (ahA (an (e.1==t))):=n7 (Hx r.aso (VB _)) (sW e)
structure Flow(R:Arr)(J:kb)(i:dA)(t:Nat)(w:ee):Prop where
 zero:w 0=0
 F7:f x y am3 (y<ET) (gy x=gy y) (w x=w y)
 F8:zp (hp (Wp i w) 0 aHO)
 last:zp (w (di 0 aHO)=0)
 side:kl (jQ->w ((cA t).side e).1=i e+w ((cA t).side e).2)
theorem mm{a b c:Nat}(h:c=max a b\/c=aae):c=a\/c=b:=cb (M1 a b) (cj (mH (.inr (ahB (Hw k))) (.inl (ahB (qO k))))) (cj (mH (.inl (ahB (Vz k))) (.inr (ahB (CX k)))))
theorem adQ(Y:R.Ok)(J:kb){i:dA}(K:M6 R i):yn (∃w,a'l)|0,_=>by{rw[o ng rfl (mr rfl) a8G lO (fun e _ h=>ah)];have:t'=0:=ah;rw[gm];rw[J.zero];trivial}|t+1,c6=>by rw[j5 F (adQ Y J K t ej),eM Z2];have r:=M5 t c6;have X:=al9;have i7:=al_;rw[cl (F.F8 t a_)];rw[sX,ot,ot]at c;rw[bJ p e6 c];have k:=adL p;have eq:dL Az=dL r.N:=by{rw[SA i (r.asw Y I),SA i (r.aQs Y)];exact K t c6};have b3:=Hs;rw[sX]at b3;have l:=a8x;let c5:ee:=eb am3 (w x) (w lT+dL (r.N.drop (x-ET+1)));have d:E x am3 (c5 x=w x):=fun x h=>cq;have a7:zp (∀g∈dt 0 aHO,c5 g=w g):=fun t' h g m=>by{rw[cy ((zq Y t' (h3 (fb h c6))).gap g m),cb (J.ow h ej)];exact d g aJX};have u9:r.N≠[]->hp (Wp i c5) lP (iE r.N ET lT):=ai (by refine ash (d:=w lT) _ _ _ _ (d _ i7) ?_ Rk q;{simp+arith [*]};grind-abstractProof);rw[ds c5 ?_ Pb,Z (d 0 VC) ahD];{intro x y S b6 h;rw[T r.N []];{have b0:(cA (t+1)).cnt=ET:=by{rw[r.KX,q];exact Hy _};rw[b0]at S b6;rw[d x S,d y b6];rw[oW,aK q]at h;rw[q]at eq;have c0:w lP=w lT:=by{rw[k,eq];simp[cQ]};have O:o z (z<ET) (gy z=max (gy lP) (gy lT)\/gy z=min (gy lP) (gy lT)) (w z=w lP):=by{rw[bZ z c9];have:gy z=gy lP\/gy z=gy lT:=mm h;rw[eL this,l (ly c9 X),Z c0 (ly c9 i7)]};rw[a4 sV,eH,cK];{next a3=>rw[eH,cK,l (ly S b6)]}};{rw[oW,bj q]at h;by_cases j0:am3;{have:=M3 x j0;by_cases u:y<ET;{simp only[j0,u,mJ]at h;rw[d x j0,d y u];exact ly j0 u};simp_all};{by_cases u:y<ET;rw[nI (M3 y u)];simp_all}}};{rw[dt t',T t' (t+1)];{rw[e_];rw[Hv,ot,ot];rw[ak (o.SG (aJ (d x ((a'4) x S)))) ?_];{rw[T r.N []];{rw[q];trivial};rw[aZ]};{have n:=e6.SG (aJ (d x (l x S)));rw[T r.N []];{rw[q];rw[aon];refine n.swap (fun e g' h=>?_);rw[q]at eq;delta Wp at h⊢;rw[<-h,d _ X,d _ i7,k,eq];simp[cQ]};rw[Z RE n]}};rw[l ((F.F8 t' fk).SG (aJ (a7 t' fk x S)))]};{rw[dt t',T t' (t+1)];{rw[e_,f1 (ahC t a_)];rw[sX,oq,oq]at a5;rw[Hv,oq,oq];rw[aJR];{rw[q];rw[aon];cases hB:r.B with|nil=>{rw[anY,an2];rw[q]at eq;rw[d _ X,k,eq,a5];rfl}|cons a b=>rw[fY g a,anY,an2];rw[d _ (l _ ?_)]at⊢;rw[cX];{rw[hB];have:=sg ((f,g)::b) lT;rw[oT di]}};rw[dn RE (d _ (l _ (sg _ _))) a5]};rw[Z (a7 t' fk _ (sg _ _)) (ahC t' fk)]};{intro e a0 a3;rw[T e.1 t];{rw[bJ a8u];obtain⟨g7,_,g8,_,a3,a9⟩:=(((u9 cq).and r.F6).adK e (t mq m));rw[L a9 a3]};{rw[Ht q];have:=Hu e a0 (cw a3 q);rw[d _ et,d _ fj];exact F.side e a0 (cw a3 q)}}
def DC(aP:cC):dJ nD Nat|c,[],J=>c=J|c,(d,a)::l,J=>c=aP d/\DC aP (aP a) l J
theorem asx{aP:cC}{l m:nD}{c J:Nat}(h:z x (DC aP c l x) (DC aP x m J)):DC aP c (l++m) J:=by rw[cy x h g];induction l generalizing c with|nil=>{rw[sK g]}|cons a l i=>rw[i4 h.1 (i h.2)]
theorem asy{aP:cC}:Bu (aIV->DC aP J (aCc (ab (x.2,x.1))) c)|[],c,J,h=>x ER|(d,a)::l,c,J,⟨a3,a9⟩=>HS (asx (as (asy a9) rfl a3.symm))
theorem SH{aP:cC}:Bu (aIV->E i (i<d_) ((i=0->z x xH (c=aP x.1))/\ad x xH ((E y (K l (i+1) y) (aP x.2=aP y.1))/\(i+1=d_->aP x.2=J))))|[],c,J,h,i,hi=>ah|(d,a)::l,c,J,⟨a3,a9⟩,i,hi=>by cases i with|zero=>{rw[yW (au (v (d,a) (x a2z) a3)),PR];subst S;rw[v Q1 YZ];{simp at b6;obtain⟨⟨z,c9,b0⟩,_⟩:=And.intro ((SH a9 0 cq).1 rfl) fY;rw[c9]at b6;simp_all};{have:l=[]:=ah;rw[gm];exact a9}}|succ i=>rw[yW (c8 bB)];simp at S hi;have:=(SH a9 i hi).2 x S;rw[el]
noncomputable def BC(side:amx)(E N:cH):nD:=(aCd (an ((Hz e).2,(Hz e).1)))++N.map (an ((Hz e).1,(Hz e).2))
structure adR(R:Arr)(v:Nat)(s:Sw)(E N:cH):Prop where
 mE:eK E lV e.2
 sE:E.Pairwise (mn R)
 mN:eK N lV e.1
 sN:a7P
 dc:∃c,DC eK c aIt c
theorem adS{s:Sw}:jx (fv (Sp s)) (DC eK (eK g) (B pR we) (eK JP))|[],g,_=>rfl|(e,g')::Z,g,⟨a,b⟩=>by rw[dI a.1];rw[<-a.2];exact adS b
theorem adT{aP lab':cC}(f:cC):Bu (bk l (lab' x.1=f (aP x.1)/\lab' x.2=f (aP x.2))->aIV->DC lab' (f c) l (f J))|[],c,J,_,h=>a70|(d,a)::l,c,J,q,⟨a3,a9⟩=>by have:=q (d,a) bK;rw[dI ag,L fj (adT f (aJ (q x ro)) a9)]
theorem Step.asz{t:Nat}{s c1:Sw}(r:lj)(I:ye):∃f:cC,E x (x<ec) (Hr x=f (eK x)):=by rw[aJR];{rw[v (e7 (v y a9T (min (eK lP) (eK lT)) y)) (fun x _=>?_)];rw[oW,aK q];rfl};{rw[yW (e7 y)];rw[oW,bj q];exact kO}
theorem aQt{t:Nat}{s c1:Sw}(Y:R.Ok)(c6:Qr)(I:ye)(r:lj):adR R t c1 Az r.N:=by rw[j (r.asu Y I) (r.asv I) sW r.sN (as (Hr lT))];have al:=I.al;rw[sX,ot,ot]at al;rw[fY W (r.asz I)];have c7:=adT (lab':=Hr) f (aJ (by simp only[fJ]at S;rw[bC e a0 S,jw aLb,b2 Yf];have:=Hu e m.1 (bU l.1 m.2.l);simp[*])) (adS al.2.1);rw[<-W _ al9,<-W _ al_]at c7;rw[fe (asy c7)];have b4:(B Az we).reverse.map (ab (x.2,x.1))=(Az).reverse.map (an ((M0 e).2,(M0 e).1)):=by{rw[<-List.map_reverse,jw];rw[jL nO,bJ (x aLb ah),b2 Yf];rw[Ht (fY (yn z.g l.1 m.2.l))];rfl};rw[b4]at a9;refine asx (jl a9);rw[T r.N []];{rw[q];rw[oW,aK q];exact adO _ _ _};{have c:hp (Sp c1) lP aaB:=r.F6.mono (BV (so Sp));have:=adS c;rw[bX mq RE];exact this}
theorem asA(Y:R.Ok)(J:kb):yn (E v (v<t) (∃E N,adR R v (VA t) E N))|0,_,v,h=>ah|t+1,c6,v,h=>by have I:=Z2;have r:=M5 t c6;rw[T v t];{rw[e_];exact av _ (aQt Y c6 I r)};{obtain⟨E,N,C⟩:=asA Y J t ej v (cw h q);rw[c8 d C.dc,fY W (r.asz I),e E N VE C.sE VD C.sN (f c) ?_,ak hE E (lV/\jQ) (by rw[amX];have:=Yf;rw[el]),ak hN N (lV/\jQ) (by rw[amY,xj])];have f5:BC (cA (t+1)).side E N=BC (cA t).side E N:=by{delta BC;rw[dW,GK (hE e ah),GK (hN e a0)]};rw[f5];refine adT f qj d;unfold BC at S;rw[bd3];rcases S with⟨e,a0,rfl⟩|⟨e,a0,rfl⟩;rw[Ig (hE e a0),Ig (hN e a0)]}
universe GM
namespace GM
variable{R:Arr}
noncomputable def F9(i c:dA):anu|[]=>0|e::J=>i e*c e+m3 J
theorem adU{i c:dA}{w:ee}:Ku (j Y8 (w JP=0) (bk (dR Z) ak7) (hv pR Yq) a9g (w g*y<=m3 pR))|[],g,y,_,a5,_,_,_=>by{simp[di]at a5;simp[a5,F9,bH]}|(e,g')::J,g,y,⟨e5,e6⟩,a5,hw,c2,b6=>by have a3:hv (bH J) Yq/\a'E:=by{rw[beJ];grind-abstractProof};rw[dr (adU (y:=c e) e6 a5 bae a3.1 a'6)];delta Wp at e5;rw[bal,bf0];rw[b9,b4];rw[cU e7 a'i bfg,bfF];exact rV g5 e7.n d6
theorem asB{i c:dA}{w:ee}:Ku (c Y8 (w JP=0) (bk (dR Z) ak7) (hv pR Yq) (a9g->(∃p∈Z,0<w p.2)->w g*y<m3 pR))|[],g,y,_,a5,_,_,_,⟨p,c2,_⟩=>ah|(e,g')::J,g,y,⟨e5,e6⟩,a5,hw,c2,b6,⟨p,b3,C⟩=>by have a3:hv (bH J) Yq/\a'E:=by{rw[beJ];grind};have a:aK (dt g' J) ak7:=bae;delta Wp at e5;rw[bal,bf0];rw[b9,b4];rw[bL e7 a'i bfg,bfF];simp at b3;have O:w g'*c e<m3 (bH J):=by{rw[db b3 b3];{cases J with|nil=>{simp[di]at a5;simp at C;simp_all}|cons q r2=>rw[fY g8 q,dr (adU (y:=c f) e6 a5 a a3.1 (fun I t=>by simp[bH]at t;rw[db t t];{simp};{have:=a3.1;rw[jp oX this];grind}))];have:w g'*c e<w g'*c f:=ahx (a3.2 f bK) C;exact aAW bG bG};rw[l (asB (y:=c e) e6 a5 a a3.1 a'6 (v p b3 C))]};exact rV g5 e7.n O
noncomputable def qx(R:Arr)(t:Nat)(e:Ln):Int:=e9 (t-1)+e9 t
noncomputable def BD(R:Arr)(t:Nat):Int:=R.k t-R.k (t-1)
noncomputable def u_(R:Arr)(i:dA)(t:Nat)(e:Ln):Int:=mk (jQ/\IT) a8Z
noncomputable def jn(f:ee):ee|0=>0|n+1=>anh+f n
theorem adV(f:gG Ln Int)(l:cH):∀n,jn (mL (cQ (f t) l)) n=ct (jn (mL (f t e)) n) l|0=>by{simp only[jn];induction l with|nil=>{rfl}|cons a J d6=>simp[cQ,<-d6]}|n+1=>by simp only[jn,adV f l n];induction l with|nil=>{rfl}|cons a J d6=>simp[cQ,<-d6];lia-abstractProof
theorem BE{i a:dA}:dx (V e l (i e=a e)) (dL l) (cQ a l)|[],_=>rfl|e::J,h=>by have:=BE (i:=i) (a:=a) (l:=J) anN;simp[cQ,h e bK,this]
theorem F_{i:dA}{p:Ln->cb}:l5 (dL (zr p)=ct (o3 (p e)) l)|[]=>rfl|e::J=>by rw[bC h (p e)];{simp[h,cQ,F_ J]};{simp[h,cQ,F_ J]}
theorem asC(Y:R.Ok){i:dA}{e:Ln}(a0:lV):E m (m<=R.n) (jn (mL (u_ R i t e)) m=if m<=gg then 0 else i e*(e9 e.1+e9 (nC (m-1)))*(R.k (nC (m-1))-R.k e.1))|0,_=>bI|m+1,h=>by have l:=jd;rw[ak b g (Y.BB e a0)];simp only[jn,(asC (i:=i) Y a0 m ej)];by_cases a3:m+1<=gg;{rw[bL a9 m gg (ew bG),mm e2 (¬(e.1<m/\m<=e.2))];simp[a3,a9,u_,e2]};{by_cases e5:m<=e.2;{have f:e.1<m/\m<=e.2:=by{rw[xi]};rw[aC b3 (nC (m+1-1)) m kO];by_cases a9:m<=gg;{simp only[a3,a9,u_,f,b3,qx,BD,(eO),mJ,iR,and_self];grind-abstractProof};{simp only[a3,a9,u_,f,b3,(eO),qx,BD,mJ,iR,and_self,g];lia-abstractProof}};{rw[aC b3 (nC (m+1-1)) e.2 (Dw (m+1)),aC k (nC (m-1)) e.2 (Dw m)];simp only[a3,(eO),u_,(eO),b3,k,iR];rw[xj]}}
noncomputable def SI(R:Arr)(i:dA)(e:Ln):Int:=i e*((R.u e.1+R.u e.2)*(R.k e.2-R.k e.1))
theorem asD(Y:R.Ok)(i:dA):nT i=jn (mL aLH) R.n:=by rw[adV];refine BE nO;rw[b2 jd];rw[asC Y a0 R.n a_];by_cases h:R.n<=gg;rw[Jl];{rw[aC b3 (nC (R.n-1)) e.2 (CX (cf l.2 (aS R.n 1)))];rw[bj h,b3,wd e a0,wg e a0];delta SI;grind-abstractProof}
theorem asE{f:ee}:E n bcN (0<=anh)|0,_=>ar jn|n+1,h=>by have:=ba2;have:=aJn;simp only[jn];lia-abstractProof
theorem asF{f:ee}:o n bcN (z t (t<n) (0<f t)) (0<anh)|0,_,⟨t,h,_⟩=>ah|n+1,h,⟨t,a3,a9⟩=>by have a:=ba2;rw[cb aJn];simp only[jn];rw[T t n];{rw[fT]};rw[cb (asF n (fm (h t I_)) (v t (cw a3 q) a9)) (a2A this b)]
theorem asG(Y:R.Ok)(J:kb)(i:dA){t:Nat}(c6:Qr):aLH=Dp aov:=by have I:=Z2;have p:eJ aov (ahA (an (cv (jQ/\IT)))):=by{rw[Hx (SF M4) (VB _)];intro e;rw[ir];simp};have a3:l5 (Dp l=ct a8Z l):=by{rw[rD];induction l with|nil=>{simp[F9,cQ]}|cons a b d6=>simp[F9,cQ,<-d6];grind-abstractProof};rw[a3,SA _ p,F_];refine BE aHq;delta u_;simp
theorem adW(Y:R.Ok){t:Nat}{s:Sw}(I:ye)(c6:Qr)(b1:0<t):hv tK (qx R t e<qx R t f):=by refine vD M4;rw[vc h,cy (x ir a0),a_L];delta qx;rw[bJ (eb f b.1)];refine h.two Y a.1 b.1 (ahG ?_ ?_) (Y.km _ _ (x (aR b1)) c6) (ahG ?_ ?_);{delta iD;exact Nat.max_le.mpr ⟨Vw a.2.1,Vw b.2.1⟩};rw[l (fb (qL t 1) c6)];{rw[I9];exact a2B ⟨cU a.2.2,cU b.2.2⟩};{rw[I9];exact fb (oO ahF ahE) m.2}
theorem aQu(Y:R.Ok)(J:kb){i:dA}{w:ee}(F:l9 i)(hw:aKd){t:Nat}(c6:Qr):0<=aLH:=by rw[asG Y J i c6];rw[d3 b1 t];{subst b1;rw[J.zero];simp[bH,F9]};{rw[eM Z2,cl (adU (c:=qx R t) (y:=(B aov (qx R t)).head?.getD 0) (F.F8 t ej) (ahC t (h3 c6)) (IR t) (adW Y I c6 aml) (by rw[gx (adW Y I c6 aml),HD aov]))];rw[ahD]at c;exact sY (x (rT c)) (by delta BD;have:=Y.km (t-1) t fk c6;exact rT this)}
theorem aQv(Y:R.Ok)(J:kb){i:dA}{w:ee}(F:l9 i)(hw:aKd):0<=nT i:=t (asD Y) (asE _ (fm bgo))
theorem Run.aQw(J:kb)(Y:R.Ok){e:Ln}(a0:lV):((cA gg).side e).1∈dt 0 ZC/\((cA gg).side e).2∈dt 0 ZC:=by have l:=jd;have r:=M5 e.1 ZQ;rw[vh (r.F6.adK e (t mq (ae (sW e) (dx a0))))];rw[h,Hv];rw[i4 (yI (.inl g9)) (yI (.inl e1))]
theorem Run.asH(J:kb){e:Ln}:∀{t:Nat},jQ->t<=R.n->(cA t).side e=(cA gg).side e|0,h,_=>ah|t+1,h,c6=>by rw[T e.1 t];{(subst_vars;rfl)};rw[Z ((M5 t c6).aQo q) (J.asH (cw h q) ej)]
theorem aQx(Y:R.Ok)(J:kb){i:dA}{w:ee}(F:l9 i)(hw:aKd)(S:fq gE (0<w ((zZ).side e).1\/0<w ((zZ).side e).2)):0<nT i:=by rw[asD Y];refine asF _ (fm bgo) ?_;rw[gr h S,b2 jd,ak gg (fu l.1 l.2),aO c6 gg R.n (fb l.1 l.2),eM (zq Y gg ej)];rw[asG Y J i c6];rw[aj (J.asH ej a_)];have g:=J.aQw Y a0;rw[gx (adW Y I c6 pS),cl (asB (c:=qx R gg) (y:=(B (bH ZC) (qx R gg)).head?.getD 0) (F.F8 gg ej) (ahC gg (h3 c6)) (IR gg) d1 (by rw[HD (bH ZC)]) (by have:∃x∈dt 0 ZC,0<w x:=cq;rw[lf c2 this];simp only[dt,hC,fJ]at S;rcases S with rfl|⟨p,m,rfl⟩;rw[nI ahD];grind-abstractProof))];rw[ahD]at c;exact hD ah (by delta BD;have:=Y.km (gg-1) gg aQ c6;simp_all)
universe GM
namespace GM
variable{R:Arr}
noncomputable def rv(h:Ln):Ln:=(h.2,h.1)
def ox(R:Arr)(h:Ln):Prop:=h∈gE\/hg∈gE
theorem adX(h:Ln):rv hg=h:=rfl
theorem ox.rv{h:Ln}(H:dF):cs hg:=H.symm
theorem ox.ne(Y:R.Ok){h:Ln}(H:dF):h.1≠h.2:=by rw[Kf,cb (eb _ H) (J (gv z.g et))];{have:=eb _ H;rw[hA ahH];exact J (gv z.l et)}
theorem ox.yA(Y:R.Ok){h:Ln}(H:dF):h.1<R.n:=by rw[Kf,cb (eb _ H) (js et fj)];{have:=eb _ H;rw[hA ahH];simp[*]}
theorem ox.BF(Y:R.Ok){h:Ln}(H:dF):h.2<R.n:=H.rv.yA Y
theorem ox.up(Y:R.Ok){h:Ln}(H:dF)(l:h.1<h.2):h∈gE:=by rw[Kf,l H];{have:=eb _ H;rw[hA ahH];lia-abstractProof}
theorem ox.dn(Y:R.Ok){h:Ln}(H:dF)(l:h.2<h.1):ahH h∈gE:=by rw[Kf,km (eb _ H),l H]
noncomputable def sd(side:amx)(h:Ln):Nat:=if h.1<h.2 then(Hz h).1 else(Hz hg).2
noncomputable def ind(p:Prop) [Hq p]:Int:=mk p 1
noncomputable def BG(h e:Ln):Int:=Ag-Ah
noncomputable def fl:cH->Ln->Int|[],_=>0|h::l,e=>OY+ef l
def Walk:dJ cH Nat|a,[],b=>a=b|a,h::l,b=>h.1=a/\sZ h.2 l b
theorem aQy:∀{l m:cH}{a b:Nat},sZ a (l++m) b↔z x (sZ a l x) (sZ x m b)|[],m,a,b=>ar sZ|h::l,m,a,b=>by simp only[ahn,sZ,aQy (l:=l)];grind-abstractProof
theorem kn(i a:dA):l5 (ct (i e+a e) l=dL l+cQ a l)|[]=>rfl|e::J=>Dm (kn i a J)
theorem BH(i:dA):l5 (ct (-i e) l= -dL l)|[]=>rfl|e::J=>Dm (BH i J)
theorem Ga:l5 (cQ ng l=0)|[]=>rfl|e::J=>eI cQ (Ga J)
theorem KZ(h:Ln):dx zp (ct Ag l) (ind (h∈l))|[],_=>bI|e::J,nd=>by have n2:=Ay;simp only[cQ,(KZ h n2.2)];rw[T h e];{rw[e_];simp[ind,n2.1]};{simp[ind,q]}
theorem adY(h:Ln){l:cH}(nd:l.Nodup):ct Ah l=ind (hg∈l):=by rw[<-KZ hg nd];refine BE aHq;delta ind rv;grind
theorem aQz(Y:R.Ok){h:Ln}(H:dF)(v:Nat):sG (lD e.2)-sG (lD e.1)=ind (h.2=v)-ind (h.1=v):=by have O:dx zp (cQ (BG h) l) (ind (h∈l)-ind (hg∈l)):=fun{l}nd=>by{rw[a9Y];show ct (Ag-Ah) l=_;rw[aLE];rw[this,kn,BH];rfl};rw[O (VB _),O (VB _)];rw[uZ (H.ne Y)];{have e1:hg∉gE:=ai (l4 (eb _ q) (gv l et));simp[ind,(H.up Y l),e1]};{have e1:h∉gE:=ai (bv (eb _ q) (gv l et));have j5:(h.2,h.1)∈gE:=(H.dn Y l);simp[ind,e1,rv,j5];simp+arith [*]}
theorem asI(Y:R.Ok)(v:Nat):tl (anU->V h l dF->cQ (fl l) (lD e.2)-cQ (fl l) (lD e.1)=ind (b=v)-ind (a=v))|[],a,b,h,_=>by{rw[cG];have:fl []=ng:=bI;rw[this,Ga,Ga];simp}|h::l,a,b,⟨a3,a9⟩,H=>by have d6:=asI Y v a9 aJT;have b4:=aQz Y (H h bK) v;rw[aKB];rw[this,kn,kn]at⊢;rw[el]
theorem adZ(Y:R.Ok){l:cH}{a:Nat}(W:sZ a l a)(H:∀h∈l,dF):M6 R (fl l):=fun v _=>bv (asI Y v W H) (RO this)
theorem asJ:k2 zp (∀e,ef l=ind (e∈l)-ind (rv e∈l))|[],_,e=>bI|h::l,nd,e=>by have n2:=Ay;simp only[fl,(asJ n2.2 e),BG];have e0:ind (e∈h::l)=Ag+ind (e∈l):=by{delta ind;grind};have g0:ind (rv e∈h::l)=Ah+ind (rv e∈l):=by{delta ind;grind};rw[e0,g0];simp+arith [*]
noncomputable def Run.lb(J:kb)(h:Ln):Nat:=(zZ).aP alx
structure Mp(R:Arr)(J:kb)(F:E_):Prop where
 rot:qC (∃a5:ao,a5.Nodup/\(e3 (x∈a5↔cs JE))/\aP i x (fh a5->z y (K a5 (i_%aCe) y) (F (x,v)=(v,y))))
 aP:E h dF (wh (F h)=oa)
variable{J:kb}{F:E_}
theorem Mp.half(d5:iB)(Y:R.Ok){h:Ln}(H:dF):cs (F h)/\(F h).1=h.2:=by rw[nm h.2 (H.BF Y),h1 (h1 h.1 H.rv),ia b9 (nx i h.1 ag)];have e7:F h=(h.2,y):=b9;rw[L e7 (dx (x (mem y) (bO b6)))]
theorem aQB{n i j:Nat}(hi:i<n)(b8:j<n)(h:i_%n=(j+1)%n):i=j:=by rw[N a (i+1) n];{rw[N b (j+1) n,l (aQ2 a b.symm)];{rw[a,ahI,a'9]at h;trivial}};{rw[N b (j+1) n];{rw[b,ahI,bdF]at h;trivial};{rw[bdF,a'9]at h;simp_all}}
theorem asK{l:ao}(nd:l.Nodup){i j:Nat}{x:Nat}(hi:xH)(b8:El):i=j:=x (x (aCf bz nd) (hi.trans b8.symm))
theorem Mp.inj(d5:iB)(Y:R.Ok){g h:Ln}(G:cs g)(H:dF)(e:F g=F h):g=h:=by have b9:g.2=h.2:=by{rw[<-(VF Y G).2,<-(VF Y H).2,e]};rw[nm h.2 (H.BF Y),aJ i hi (ib (h1 h.1 H.rv)),gA c4 (ib (h1 g.1 (bl b9 G.rv))),ia z (nx i h.1 ag)];obtain⟨d7,O,d3⟩:=nx j g.1 ag;rw[cU h6 (F g) (h.2,d7),b2 h6 e];have c3:=YT;rw[jW];have:=asK nd b6 O;have:=aQB hi b8 this;rw[gm];have:g.1=h.1:=ah;grind-abstractProof
theorem Mp.turn(d5:iB)(Y:R.Ok){v:Nat}(c:dA)(b0:o h dF (h.1=v) (c (F hg)=c h)){g h:Ln}(G:cs g)(H:dF)(g7:g.1=v)(a3:h.1=v):c g=c h:=by have d3:v<R.n:=by{rw[<-a3];exact H.yA Y};rw[nm v d3];have all:∀(i:Nat)(x:Nat),fh a5->E y (K a5 0 y) (c JE=c (v,y)):=by{intro i;induction i with|zero=>{rw[Zu]}|succ i d6=>intro x S y b6;have m:i+1<aCe:=by{grind};have c9:A a5 (dx a5 ej):=da ej;rw[aO d7 O (nx i _ c9)];rw[er m,S]at O;cases O;have D:cs (v,dx a5 (h3 m)):=x (mem _) (s_ _);have:=b0 _ D rfl;rw[<-d6 _ c9 y b6,<-this];show c JE=c (F (a5[i],v));rw[e]};rw[aJ i hi (ib (h1 g.2 bz)),gA c4 (ib (h1 h.2 bz))];have c0:K a5 0 (a5[0]'(bU tv hi)):=da bM;have b4:g=(v,g.2):=by{grind};rw[mp h (v,h.2)];rw[b4,b9,(all i g.2 bz _ c0),(all j h.2 bz _ c0)]
def K0(R:Arr):Prop:=∀P:mb,P 0->(l a b (cs rK) (P a) (P b))->qC (P v)
def asL(R:Arr)(v:Nat):Prop:=∀P:mb,∀s,c (s<R.n) (s≠v) (P s) (∀a b,c (cs rK) (a≠v) (b≠v) (P a) (P b)) (o x (x<R.n) (x≠v) (P x))
noncomputable def cc(side:amx)(w:ee)(l:cH)(h:Ln):Int:=w (sd Hz h)-ind (h∈l)
theorem Run.bi'(J:kb)(Y:R.Ok){h:Ln}(H:dF):alx<(zZ).cnt:=by have I:=aIn;rw[I2];split;rw[oD (H.up Y l) (Hu _ m (b7 l fj)).1,oD (H.dn Y (bv (H.ne Y) (aV (cU (qp l)) this))) (Hu _ m Q3).2]
theorem aQC(Y:R.Ok){l:cH}{w:ee}(nd:l.Nodup)(W:l9 (fl l)){h:Ln}(H:dF):hG hg h:=by rw[ak O gE (hG (rv e) e) (by have lt:=jd;rw[cy (W.side e a0 aK0)];rw[asJ nd]at a;delta cc sd;rw[bj (hA rv (ew lt.1)),aK lt.1];rw[adX];simp+arith [*]),Kf,aZ,cZ (O _ H) adX aCg]
theorem asM(Y:R.Ok)(d5:iB){l:cH}{w:ee}{i:dA}(W:l9 i){h:Ln}(H:dF)(c4:h∈l↔F h∈l):hG (F h) h:=by delta cc;rw[(W.F7 _ _ (CY Y (sM H)) (CY Y H) (d5.aP h H))];simp[*]
theorem aQD(Y:R.Ok)(d5:iB)(C:K0 R){l:cH}{w:ee}(nd:l.Nodup)(W:l9 (fl l))(a5:E h dF (h∈l↔F h∈l)){g h:Ln}(G:cs g)(H:dF):hG g h:=by have d:∀v,∀{g h:Ln},c (cs g) dF (g.1=v) (h.1=v) (hG g h):=fun v g h G H g7 a3=>a2C Y (cc z_ w l) (fun x X _=>bj (asM Y d5 W ahJ (a5 _ ahJ)) (pi X)) G H g7 a3;have all:qC bef:=by{refine C (e1 bef) (fun x X e7 y c i8=>d 0 X c e7 i8) (fun a b k d6 x X e7 y c i8=>?_);rw[<-d6 rK k rfl y c i8,<-pi k];exact d b X k.rv e7 rfl};by_cases e:z y (cs y) (y.1=0);{obtain⟨y,c,i8⟩:=e;rw[all g.1 (G.yA Y) g G rfl y c i8,all h.1 (H.yA Y) h H rfl y c i8]};{exfalso;have:qC (v=0):=C (e1 (v=0)) rfl (fun a b k b3=>ah);exact e (v h H (this _ (H.yA Y)))}
universe GM
namespace GM
variable{R:Arr}{J:kb}{F:E_}
noncomputable def it(F:E_):gG Ln Ln|0,h=>h|m+1,h=>F (cE m)
noncomputable def ar(F:E_):gG Ln cH|0,_=>[]|m+1,h=>h::ar F m (F h)
theorem Gb:F1 (it F m (F h)=F (cE m))|0,h=>rfl|m+1,h=>eI it (Gb m h)
theorem yB:Gm (cE (a+b)=it F a (cE b))|0,b,h=>ar it|a+1,b,h=>n3 it (yB a b h)
theorem aQE:∀{m:Nat}{h x:Ln},x∈uD↔z j (j<m) (kZ=x)|0,h,x=>ar ar|m+1,h,x=>by simp only[ar,hC,aQE (m:=m)];constructor;{rintro(rfl|⟨j,b8,e⟩);rw[l (bp 0 pS),l (v (j+1) ag (by rw[a6 Gb];exact e))]};{rw[aoY];cases j with|zero=>{rw[mU CL]}|succ j=>rw[o8 (ap j ah Gb e)]}
theorem BI:F1 (t uD=m)|0,h=>rfl|m+1,h=>eI ar (BI m)
theorem Gd:∀(m:Nat)(h:Ln)(j:Nat),j<m->aa (uD) kZ|0,h,j,b8=>ah|m+1,h,j,b8=>by cases j with|zero=>{rfl}|succ j=>simp[ar,Gd m (F h) j ah,Gb,it]
theorem aQF(d5:iB)(Y:R.Ok){h:Ln}(H:dF):∀m,cs (cE m)|0=>H|m+1=>sM (dN H m)
theorem ad0(d5:iB)(Y:R.Ok):∀(m:Nat){g h:Ln},i (cs g) dF (it F m g=cE m) (g=h)|0,g,h,_,_,e=>e|m+1,g,h,G,H,e=>ad0 d5 Y m G H (ahK Y (dN G m) (dN H m) e)
theorem K1(d5:iB)(Y:R.Ok):∀(m:Nat){h:Ln},dF->sZ h.1 uD (cE m).1|0,h,_=>rfl|m+1,h,H=>by rw[cy (VF Y H),dr (K1 d5 Y m a.1)];rw[a.2,Gb]at d6;exact bd d6
theorem SJ{I:Type} [v_ I]:∀{l m:ba},aMm|[],m,_,_=>x cS|a::l,m,nd,h=>by have n2:=Ay;rw[dr (SJ (m:=a2E a) n2.2 (aJ (ae (a2D (fun(e:x=a)=>n2.1 (e▸S))) (h x (ck S)))))];rw[aCh (h a fu)]at d6;exact mI d6 (h a fu)
noncomputable def SK(R:Arr):cH:=gE++R.lines.map rv
theorem aQG{h:Ln}:h∈SK R↔dF:=by delta SK ox;simp only[hy,fJ];constructor;{rintro(h|⟨x,S,rfl⟩);rw[l AM,co S]};{rintro(h|h);rw[l AM,co (bm h)]}
structure sh(F:E_)(h:Ln)(m:Nat):Prop where
 pos:0<m
 ret:cE m=h
 min:o j (0<j) (j<m) (kZ≠h)
theorem aQH(d5:iB)(Y:R.Ok){h:Ln}(H:dF):z m Fq (m<=2*aCi):=by have ret:I d (0<d) (d<=2*aCi) (cE d=h):=by{rw[anv];have nd:c7 (ar F (2*aCi+1) h):=by{rw[VH,ahL];rw[aME];rw[BI]at hi b8;rw[aLy];have b:=aKE;rw[da ag a,da ag b,bdb,ck i (j-i) (cE i) bg'];have:=y1 this;exact f6 (d (j-i) (VG l) (cn aly (HA b8)) this)};have:=SJ nd (m:=SK R) (q9 (aQG.mpr am6));rw[am BI,hA SK];exact aF1 this};obtain⟨d,f,c5,c7⟩:=ret;have least:f n d (d<=n) (0<d) (cE d=h) (z m Fq (m<=d)):=by{intro n;induction n with|zero=>{intro d a b;simp_all}|succ n d6=>intro d a b c;by_cases q:I j (0<j) (j<d) (kZ=h);{obtain⟨j,u,v,w⟩:=q;rw[bW x y (d6 j (HA (fH v a)) u w)];exact v m x (cn y (ew v))};rw[cv d (v b c (fun j g k e=>q (d j g k e))) a_]};rw[bW x y (least d d a_ f c7)];exact v m x (cn y c5)
theorem sh.inj(d5:iB)(Y:R.Ok){h:Ln}(H:dF){m:Nat}(P:Fq){i j:Nat}(hi:i<m)(b8:j<m)(e:cE i=kZ):i=j:=by rw[aMA];{rw[ck i (j-i) (cE i) bg'];exact cy (y1 this) (ahM (j-i) (bn l (aS j i)) (fu aly b8))};rw[l l];{rw[ck j (i-j) kZ (m (j+(i-j)) i i j l i j)];exact cy (ad0 d5 Y j ak_ H this) (ahM (i-j) (bn (aS i j) l) (fu (qL i j) hi))}
theorem sh.nodup(d5:iB)(Y:R.Ok){h:Ln}(H:dF){m:Nat}(P:Fq){d:Nat}(hd:d<=m):c7 (ar F d h):=by rw[VH,ahL];rw[aME];rw[BI]at hi b8;rw[aLy,cb aKE,da ag a,da ag b,bdb,hZ (P.inj d5 Y H (bU hi hd) aJX e) (gv CN l)]
theorem sh.closed(d5:iB)(Y:R.Ok){h:Ln}(H:dF){m:Nat}(P:Fq){x:Ln}(X:cs x):x∈uD↔F x∈uD:=by constructor;{rw[fS,bC j b8 (M8 q),b1 (j+1) m];{refine CZ (aJ 0 VI);show h=F kZ;rw[dO (F kZ) (cE (j+1)),e,M7]};rw[l (CZ (bp (j+1) (iM e)))]};{rw[fS,aO j b8 (M8 q)];cases j with|zero=>{rw[hZ (ahK Y ak_ X (by rw[xE];show cE (m-1+1)=h;rw[m (m-1+1) m m 1 b8 m 1,M7])) (CZ (v (m-1) (x (aR b8)) this))]}|succ j=>rw[hZ (ahK Y ak_ X e) (CZ (v j ej this))]}
theorem sh.shift(d5:iB)(Y:R.Ok){h:Ln}(H:dF){m:Nat}(P:Fq)(i:Nat):sh F (cE i) m:=by rw[cp VI (fun j g k e=>?_)];{rw[<-yB,VJ,yB,M7]};{rw[<-yB,VJ,yB]at e;exact ahM j g k (y1 e)}
theorem asO(d5:iB)(Y:R.Ok){h:Ln}(H:dF){m:Nat}(P:Fq):M6 R (fl uD):=by have W:=K1 d5 Y m H;rw[M7]at W;exact adZ Y W (q9 am6)
theorem ad1(d5:iB)(Y:R.Ok){h:Ln}(H:dF):∀j,wh kZ=oa|0=>rfl|j+1=>by show wh (F kZ)=_;rw[d5.aP _ am6,ad1 d5 Y H j]
theorem SM(d5:iB)(Y:R.Ok)(C:K0 R){g h:Ln}(G:cs g)(H:dF){m:Nat}(P:aHz):h∈xY↔oa=kP:=by constructor;{rw[fS,it j (M8 q)];exact ad1 d5 Y G j};{intro e;rw[bbE,qE G H];unfold cc at c;have a:g∈xY:=CZ (bp 0 VI);rw[(W.F7 _ _ (CY Y H) (CY Y G) e)]at c;have c2:ind (g∈xY)=1:=by{rw[YJ];exact kO};rw[c2]at c;delta ind at c;split at c;rw[aZ,Jl]}
theorem aQI(d5:iB)(Y:R.Ok)(C:qC (asL R v)){h:Ln}(H:dF){m:Nat}(P:Fq):c7 (gZ uD):=by rw[VH,ahL];rw[aME];simp only[bA,BI]at hi b8;simp only[M9]at e;rw[aLy,cb aKE,da bz a,da bz b];rw[cZ a,cZ b]at e;have L:=dN H i;have p:=P.shift d5 Y H i;obtain⟨d,hd⟩:∃d,d=j-i:=ei;have a3:(it F d (cE i)).1=(cE i).1:=by{rw[<-yB,aS (d+i) j (cf hd.l (aC j i l)) (cf (aS j i) hd.g),<-e]};generalize cE i=g at L p a3;have f:=K1 d5 Y d L;rw[a3]at f;have nd:=p.nodup d5 Y L (d:=d) bc2;rw[C2 (adZ Y f (q9 (dN L j)))];have e9:o x (cs x) (x.2≠g.1) (x∈IS↔F x∈IS):=by{intro x X f5;have n:=VF Y X;constructor;{rw[fS,aKu,N z (a+1) d];{exfalso;have:F x=anb:=by{rw[<-e,<-z];rfl};lia};rw[l (CZ (v (a+1) (cw b3 z) (by rw[xE];rfl)))]};{rw[fS,aKu];cases a with|zero=>{exfalso;have d3:g=F x:=e;simp_all}|succ a=>rw[hZ (ahK Y (dN L a) X e) (CZ (v a ej this))]}};have all:=C g.1 (L.yA Y) (e1 (o y (cs y) (y.1=v) (sZ y=sZ (rv g)))) g.2 (L.BF Y) a_v (fun y c i8=>g8 g.2 a_v L.rv) (fun a b k e0 h2 d6 y c i8=>by rw[<-d6 rK k rfl,<-pi k];exact g8 b h2 k.rv);have r:E y (cs y) (sZ y=sZ (rv g)):=by{intro y c;rw[T y.1 g.1,kz (pi c) (all y.2 (c.BF Y) (J (c.ne Y (VL wa))) (rv y) c.rv rfl),l (all y.1 (c.yA Y) q y c rfl)]};have o:=dN L (d-1);have g9:a8y:=CZ (bp (d-1) (ahN (hd▸VG l) ahO));have b9:F (it F (d-1) g)=anb:=by{show it F (d-1+1) g=_;rw[Mi (hd▸VG l)]};have e1:anb∉IS:=ai (by rw[aKu];have:=p.inj d5 Y L (x (uP b3 hd.l aly b8)) bc2 e;simp_all);have e5:=r _ o;have e6:=r _ (sM o);unfold cc at e5 e6;rw[(W.F7 _ _ (CY Y (sM o)) (CY Y o) (d5.aP _ o)),b9]at e6;have c2:ind a8y=1:=by{rw[YJ];exact kO};have N:ind (anb∈IS)=0:=by{rw[YJ];exact bj bG};rw[fT]
theorem asP(d5:iB)(Y:R.Ok)(C:K0 R)(b1:anB){g:Ln}(G:cs g){m:Nat}(P:aHz):z w (l9 (fl xY)) (E x aFX (w x=ind ((zZ).aP x=kP)-ind (kP=0))):=by rw[bbE,ak w W,eM aIn,bgO];have f3:=eb z D;have e8:sd z_ z=0:=by{delta sd;rw[aK f3.1,h6]};rw[DI ((zZ).aP 0)];have j7:wh z=0:=by{delta Run.lb;rw[e8,c0]};have a:cs z:= .inl D;have O:E h dF (w alx=ind (oa=kP)-ind (kP=0)):=by{intro h H;rw[qE H a];unfold cc at c;rw[e8,W.zero]at c;have e0:o_ xY=ind (oa=kP):=by{delta ind;simp[SM d5 Y C G H P]};have g0:ind (z∈xY)=ind (kP=0):=by{delta ind;have:z∈xY↔kP=0:=by{rw[SM d5 Y C G a P,j7];grind-abstractProof};rw[tR]};rw[el]};rw[Bh];have SD:be8:=by{rw[bhW,cK,bcX,bg7]};rw[bC h H SD];exact O h H
theorem asQ(Y:R.Ok)(J:kb)(b1:anB){x:Nat}(S:aFX):be8:=by have I:=aIn;rw[bgO];have f3:=eb z D;rw[bhW,cv z (.inl D) (by delta sd;rw[aK f3.1,h6]),bcX,bg7]
theorem Flow.neg{i:dA}{w:ee}{t:Nat}(W:a'l):ahP R J (an (-i e)) t (ab (-w x)):=by rw[j (ar W.zero) (fun x y S b6 h=>ar (W.F7 x y S b6 h)) a8G (fun t' h=>ar (W.last t' h)) (fun e a0 h=>by have:=W.side e a0 h;simp+arith [*])];have:jx Y8 (fv (Wp (an (-i e)) (ab (-w x)))):=by{intro Z;induction Z with|nil=>{intros;trivial}|cons a b d6=>intro g c;exact⟨by have:=c.1;unfold Wp at this⊢;simp+arith [*],d6 c.2⟩};exact this (W.F8 t' h)
theorem aQJ(d5:iB)(Y:R.Ok)(C:K0 R)(b1:anB){g:Ln}(G:cs g){m:Nat}(P:aHz):0<nT (fl xY)↔kP≠0:=by obtain⟨w,W,hw⟩:=asP d5 Y C b1 G P;constructor;{intro h e;have:=aQv Y J W.neg (aJ (by have:=hw x S;rw[am e];delta ind at this;grind-abstractProof));have eq:nT (an (-ef xY))= -nT (fl xY):=by{rw[<-BH];refine BE aHq;delta SI;grind-abstractProof};rw[el]};{intro e;have b:w (sd z_ g)=1:=by{rw[hw _ (CY Y G)];have:(zZ).aP (sd z_ g)=kP:=rfl;simp[ind,this,e]};refine aQx Y J W qj ?_;{rw[hw x S];rw[YJ];grind-abstractProof};{rcases G with a|a;{have:=eb _ a;rw[aa g a aGP];delta sd at b;simp_all};{have:=eb _ a;rw[aa (rv g) a (.inr ?_)];delta sd at b;have a3:¬g.1<g.2:=by{rw[hA rv];exact sO et};simp_all}}}
universe GM
namespace GM
open Gla
structure Lay(r:Plan):Prop where
 dO:a2G (nQ xG)
 wide:cz dd Qv
 BJ:a'G
 lt:a'a
 nd:a2F
 on:hN (∀k,i (k<aJ) (k≠e.1) (k≠e.2) (wj eE eF (bp k)=ai))
 nc:hN (∀f∈bX,e≠f->zt eE eF amb amc=ai)
noncomputable def ky(r:Plan)(p:Pt):Int:=Y0*v p.y+p.x
noncomputable def den(r:Plan)(e:Ln):Int:=cf eF-cf eE
noncomputable def K2(r:Plan):anu|[]=>1|e::J=>J6*K2 r J
noncomputable def cof(r:Plan)(e:Ln):Int:=Ad/J6
noncomputable def Ge(r:Plan)(e:Ln)(z:Int):Int:=uK*(amI*(cf eF-z)+amJ*(z-cf eE))
noncomputable def arrOf(r:Plan):Arr:=a aJ bX (dJ (cf eG)) (dJ (ku eG)) (Ge r)
theorem si{r:Plan}{i:Nat}(h:gX):eG=dd[i]:=by delta aCj;simp[List.getD,h]
theorem yC{r:Plan}{i:Nat}(h:gX):eG∈dd:=nN (si h)
theorem mu{r:Plan}{p q:Pt}(c2:Qv)(h:xG):cf p<cf q:=by delta ky;rw[jv ic,dm h h a9];{have:Q2*(v p.y+1)<=Q2*q.y:=Vy (x (mh h)) (by rw[Fc]);grind-abstractProof};rw[aZ]
theorem aQL{r:Plan}{p q:Pt}(c2:Qv)(e0:q.x<=r.w):cf p<cf q↔xG:=by rw[v (c8 aHv) (mu c2),b1 p q,az];{have:M_ p=ab:=by{simp[ic]at n⊢;by_cases y:q.y<p.y;rw[Fh];{right;have:q.y=p.y:=gx (cU n.1) (cU (qp y));rw[dI this];rcases qN (n.2 aCg)with e2|e2;rw[aZ];{exfalso;apply e;cases p;rw[kG];simp at*;simp[*]}}};have:=mu e0 this;exact Kn this h}
theorem asR{r:Plan}:k2 (V e l (0<J6)) (0<K2 r l)|[],_=>ar K2|e::J,h=>hD (h e bK) (asR anN)
theorem asS{r:Plan}:∀{l:cH}{e:Ln},e∈l->J6∣K2 r l|[],e,h=>ah|f::J,e,h=>by rw[lX,aoa,l (Int.dvd_mul_right _ _),l (Int.dvd_mul_of_dvd_right (asS h))]
variable{r:Plan}
theorem Lay.below(Z:bq){i j:Nat}(h:i<j)(b8:oe):qD (bp j):=D0 (Na Z.dO i j EG b8 h)
theorem Lay.wx(Z:bq){i:Nat}(h:gX):(eG).x<=r.w:=Z.wide _ (yC h)
theorem Lay.km(Z:bq){i j:Nat}(h:i<j)(b8:oe):aKN:=mu (HB EG) (wk h b8)
theorem Lay.den_pos(Z:bq){e:Ln}(a0:iz):0<J6:=by rw[b2 x_];have:=C_ l.1 l.2;delta den;simp[*]
theorem Lay.asT(Z:bq):0<Ad:=asR (f3 a7Q)
theorem Lay.asU(Z:bq){e:Ln}(a0:iz):uK*J6=Ad:=Int.ediv_mul_cancel (asS a0)
theorem Lay.aQM(Z:bq){e:Ln}(a0:iz):0<uK:=by have a:=Z.asU a0;rw[cb Z.asT,eL (mO 0 uK),l h];{have:uK*J6<=0:=VM h (eW a7Q);grind-abstractProof}
theorem Lay.K3(Z:bq){e:Ln}(a0:iz)(z:Pt):dy z-Y_=uK*(Y0*j_):=by rw[<-Z.asU a0];delta Ge den ky eV dx dy;grind-abstractProof
theorem Lay.sgn(Z:bq){e:Ln}(a0:iz)(z:Pt):(dy z<Y_↔j_<0)/\(Y_<dy z↔0<j_):=by rw[cy (Z.K3 a0 z)];have w:xt<r.w+1:=by{simp};have p:=hD (Z.aQM a0) w;have b4:uK*(Q2*j_)=uK*Q2*j_:=by{grind-abstractProof};rw[b4]at a;generalize j_=t at*;generalize uK*Q2=q at*;constructor;{constructor;{rw[eD,sX t,AR,km (sY (eW p) g)]};{rw[eD];have:=ahQ p h;exact jM a.m}};{constructor;{rw[eD,sV t,AR,km (Nb (eW p) g)]};{rw[eD];have:=hD p h;exact jM a.n}}
theorem aQN{p q:Pt}(h:xG):p.y<=q.y:=by rw[jv ic];lia-abstractProof
theorem K4{p q z:Pt}(a3:oY z=ab)(a9:VN q=ab)(h:J8=0):q5 z:=by revert a3 a9 h;revert p q z;refine ap1;rw[co p q z,bZ a3 a9];delta wj;simp only[h,aCk,ahR,hZ,Nc,iS];simp[ic]at a3 a9;delta eV dx dy at h;rw[N Q p.y q.y];{rw[tY]};{rw[kV (D7 z.x) (fv z.y p.y)];have k3:xt<anQ:=by{lia};have y:xt<=v z.y-p.y:=by{lia};have e0:v z.y-p.y<=anQ:=by{lia};generalize ak'=d at*;generalize bm z.y p.y=s at*;rw[aa ?_ (cn aow (a3.elim ew aHj)) (cn (a9.elim ew aHj) (HC _ _))];rcases M1 p.x q.x with c|c;{have f:xt<=Fj:=by{simp[*]};have h2:=sY f y;have e2:=Vy e0 f;have e5:xt<=Fl:=by{rw[sX Fl];{have:=Dc g k3;rw[fT]};rw[l g]};rw[c6 Fl Fj Fj Fl];simp_all};{rw[bL f Fj 0 (nA c)];have h2:=VM f y;have e2:=aB9 f e0;have e5:Fl<=0:=by{rw[sV Fl];{have:=hD g k3;rw[fT]};rw[l g]};rw[c6 Fj Fl Fl Fj,fT]}}
theorem Lay.ok(Z:bq):(gK).Ok:=by rw[ck k (dy eE=ku eE) (by have:=Z.K3 a0 eE;have u:eV eE eF eE=0:=by{rw[ub];grind-abstractProof};rw[am u,ui];exact RO this),ck p (dy eF=ku eF) (by have:=Z.K3 a0 eF;have u:eV eE eF eF=0:=by{rw[ub];simp};rw[am u,ui];exact RO this),ck BB (yK (Ge r e x)) (by rw[aa (uK*(amI*cf eF-amJ*cf eE)) (uK*(amJ-amI)) Jb];delta Ge;grind-abstractProof),e fZ Z.nd (fun i j h b8=>C_ h b8) BB k p ?_ ?_];{intro e a0 v a3 a9 q;rw[b2 x_];have c4:dy ed=ku ed:=q;have O:=qQ a0 ed;have o:=K4 (wk a3 (b7 a9 l.2)) (wk a9 l.2) Ba;rw[Z.on e a0 v (b7 a9 l.2) (x (vU bG)) aG7]at o;cases o};{intro e a0 f W ov h;refine qF (fun n=>?_);have V:=a0;have t:=W;have le:=fZ e V;rw[bJ (fZ f t)];have h':dy rE<hC rE:=h;have C:am4<amK:=Int.not_le.mp n;rw[ak b d0 (BB e V)];obtain⟨c,d,g7⟩:=BB f t;have h8:g_<aJ:=by{rw[I9];exact fb (wm ahF ahE) le.2};have s:0<b-d:=by{rw[sV (b-d),AR];{have:=aB9 g (eW (C_ ov h8));rw[el]}};rw[dv low (E i (i<=kE) (dy eG<hC eG)) (It EG)];have w:o i (g_<=i) gX (hC eG<dy eG):=fun i hi a5=>It a5;have b4:=Gw e.1;have g4:=Gw f.1;rw[gt (w e.2 (cF oT (wm ahF ahE)) ag)];have h3:=w f.2 (cF oT (oO ahF ahE)) ag;rw[k e V]at b4;rw[k f t]at g4;rw[p e V]at b9;rw[p f t]at h3;have cr:=Z.nc e V f t Qf;unfold Gla.crosses at cr;simp[(Dc ((qQ V amb).1.mp g4) ((qQ V amc).2.mp h3)),(ahQ ((qQ t eE).2.mp b4) ((qQ t eF).1.mp b9))]at cr}
universe GM
namespace GM
open Gla
abbrev gw:=Int×Int
noncomputable def cr(a b:gw):Int:=bfE
noncomputable def kd(al f:Int)(a:gw):Int:=al*a.1+f*a.2
theorem asV(al f:Int)(a b c:gw):cr a b*cR c+cr b c*cR a+an3*cR b=0:=by delta cr kd;grind
theorem va(a b:gw):cr b a= -cr a b:=xd cr
theorem BK{J d:gw}(h:cr J d<0):Zi=0:=by delta ta;have:apj<0:=h;exact kO
theorem qy{J d:gw}(h:0<cr J d):Zi=2:=by delta ta;have a3:0<apj:=h;rw[el]
theorem asW{J d:gw}(h:cr J d=0):Zi=1\/Zi=3:=by delta ta;have a3:apj=0:=h;simp[a3];lia-abstractProof
theorem asX(J:gw):ta J J=3:=by delta ta;rw[bL a3 (J.1*J.2-J.2*J.1) 0];have a9:¬(Qz+J.2*J.2<0):=by{rw[fd a Qz J.1,bdW];exact J (RN z a b)};simp[a3,a9]
theorem aQO{al f:Int}{J d:gw}(h:cr J d=0)(a6:cR J<0)(hd:0<cR d):Zi=1:=by delta ta;have a3:apj=0:=h;have O:cR J*(J.1*d.1+J.2*d.2)=cR d*(Qz+J.2*J.2):=by{delta kd;rw[a4 cr];grind-abstractProof};rw[fd a Qz J.1,bdW];have pos:0<Qz+J.2*J.2:=by{have:J.1≠0\/J.2≠0:=by{refine aHv;delta kd at a6;simp_all};rw[eL this,o_ Qz (a2A this b),o_ (J.2*J.2) (a2H a this)]};have f6:=hD hd pos;have neg:J.1*d.1+J.2*d.2<0:=by{rw[sX (J.1*d.1+J.2*d.2),AR,km (VM (eW a6) g)]};simp[a3,neg]
theorem K5{J a b:gw}(h:ta J a<ta J b):aKC:=by delta Dd;simp[h]
theorem K6{J a b:gw}(h:ta J a=ta J b)(c:cr a b<0):aKC:=by delta Dd;have:bfE<0:=c;simp[h,this]
theorem aQP{J a b:gw}(h:aKC):Dd J b a=ai:=by delta Dd at h⊢;lia-abstractProof
section z
variable{al f:Int}
theorem aQQ{J w x:gw}(a6:cR J<0)(hw:cR w<0)(ym:cr J w<0)(S:cr w x<0\/0<cr J x\/x=J\/0<cR x):aKD:=by have b1:=BK ym;by_cases c:cr J x<0;{rw[gw (BK c)];refine K6 (x (ahS bG ER)) ?_;rw[vd S,l h,Jl];{subst h;delta cr at c;grind-abstractProof};{rw[aLZ];have e9:=Dc ym h;rw[aKt];have f6:ao2<0:=ahQ ag hw;rw[pg (cr w x) J,sX (cr w x),AR,i1 (Nb g (eW a6))]}};{refine K5 ?_;rw[kD (a2I (agJ c))];{rw[b1,qy g];simp};{rw[al (asW g.symm)]<;>simp[*]}}
theorem aQR{J w x:gw}(a6:cR J<0)(hw:0<cR w)(S:(cR x<0/\0<cr J x)\/x=J\/(0<cR x/\cr w x<0)):aKD:=by rcases S with⟨S,c⟩|rfl|⟨S,c⟩;{rw[fe (qy c),bs (cr J w) g g g,l (mJ (BK g) a9),l (mJ aLd a9)];{refine K6 (bj (qy g) a9) ?_;rw[aLZ];have e9:=ahQ g S;rw[aKt];have f6:ao2<0:=Dc ag hw;rw[al (mO (cr w x) 0),iy];{have:=Nb q (eW a6);lia}}};{refine K5 ?_;rw[asX];rw[bs (cr x w) g g g,l3 (BK g),l3 aLd,Z (qy g) jR]};{rw[aLZ];have e9:=a2J c a6;rw[aKt,bs (cr J w) g g g];{rw[al (mO (cr J x) 0),l (K6 (bj (BK g) (BK q)) c)];{refine K5 ?_;rw[BK g];rw[al (a2I q),l3 (qy q)];{rw[cY (asW zu)]<;>simp[*]}}};{rw[ae O (cr J w*cR x) 0];have:ao2<0:=bM;have:cr x J<0:=bbi;exact mJ aLd (qy ah)};{have f6:=hD g S;have:ao2<0:=x (rV id.m e9 f6);have:cr x J<0:=bbi;exact K6 (bj (qy g) (qy ah)) c}}
theorem aQS{J w x:gw}(ym:0<cr J w)(S:x=J\/(0<cr J x/\cr w x<0)):aKD:=by rw[dm S rfl a9,l (K5 (ac asX (qy ym) jR)),l (K6 (bj (qy ym) (qy a3)) a9)]
universe z
structure Clock(r:df gw)(al f:Int)(Z d:ao):Prop where
 l:ep Z (cR (r a)<0)
 u:ep d (0<cR (r a))
 sl:Z.Pairwise a_S
 su:d.Pairwise a_S
theorem aQT(al f:Int)(a:gw):kd (-al) (-f) a= -cR a:=xd kd
theorem Clock.flip{r:df gw}{al f:Int}{Z d:ao}(C:aMs):aCl r (-al) (-f) d Z:=d (GE (C.u a h)) (GE (C.l a h)) C.su C.sl
theorem aQU{l:ao}{i x:Nat}(h:xH):∃a b,l=a++x::b/\mL=i:=by rw[eZ hi (i<d_),w (G5 i) (oJ (i+1)) ?_ cq,aj pI];rw[<-(cZ h)];simp
theorem Clock.low{r:df gw}{al f:Int}{Z d:ao}(C:aMs){i x y:Nat}(hi:i<fK)(S:fh (Z++d))(b6:a_4):beC:=by revert C hi S b6;revert r al f Z d i x y;refine Kk;generalize aG=r,aA=al,aF=f,aE=Z,aD=d,aB=i,aH=x,aI=y;intro C hi S b6;rw[hx hi]at S;obtain⟨A,B,e,d0⟩:=aQU S;have sl:=C.sl;rw[e,qP,oX]at sl;obtain⟨c0,⟨c,v⟩,l⟩:=sl;have k:=C.l x (x (bO bG));intro z c9 ne;have j:ep A (0<cr (r x) (r a)):=fun a b3=>by{have:=l a b3 x bK;have:=va (r a) (r x);simp[*]};rw[ca a0 (z∈A\/z=x\/z∈B\/z∈d)];cases B with|cons w n=>{have m:i+1<fK:=by{simp[*]};have:Yo=i+1:=er ag;rw[this,hx m,e,px (ahf d0.l)]at b6;rw[mn (i+1-ie) 1]at b6;simp at b6;subst b6;refine aQQ k (C.l w ag) (c w bK) ?_;rw[vd a0,aZ,aZ,az,co (o9 (C.u z h))]}|nil=>rw[ae m (i+1) fK];cases g:d with|cons w o=>{have:Yo=i+1:=er bz;rw[this,px m.g,g]at b6;rw[show i+1-fK=0 by exact mP (cf (aC (i+1) fK m.g) m.l) aN0]at b6;simp at b6;subst b6;refine aQR k (C.u w bz) ?_;rw[vd a0,dQ ⟨C.l z bz,j z h⟩,dV];{rw[cG]};{have su:=C.su;rw[g]at h su;rw[lX,eL h,dV];{rw[oX]at su;exact .inr (eW (C.u z bz) (su.1 z h))}}}|nil=>subst g;have:i_%t (Z++[])=0:=cx qJ m ahI;rw[this,qJ]at b6;cases A with|nil=>{grind}|cons w b=>rw[e]at b6;simp at b6;subst b6;refine aQS (j w bK) ?_;rw[vd a0,az];{rw[xi]};rw[az,az]
theorem Clock.next{r:df gw}{al f:Int}{Z d:ao}(C:aMs){i x y:Nat}(S:fh (Z++d))(b6:a_4):beC:=by rw[fI hi fK,l (C.low hi S b6)];{have p5:i<t (Z++d):=bx S;rw[cj]at p5;have O:K (d++Z) aLc y:=by{rw[T (i+1) (fK+oS)];{rw[cr a Yo 0];rw[a]at b6;rw[d3 c0 fK,az];{rw[R b aLc oS (aS (i-fK+1) oS (cf (aC i fK (qp hi)) q.l) (cf q.g (aS i fK))) (er fR)];rw[b,oZ a_,zv];rwa [hx (VO c0)]at b6}};{have a:Yo=i+1:=er fR;have b:aLc=i-fK+1:=er l_;rw[b,hx bM,aS (i-fK+1) (i+1-fK) (L i fK (qp hi) (i+1) fK) (L (i+1) fK (qp hi) i fK)];rwa [a,px (ahf (qp hi))]at b6}};intro z c9 ne;exact C.flip.low bM (by rw[hx bM];rwa [oZ (jZ hi)]at S) O z (ahT (bt (Nd c9))) ne}
theorem asY{lt:aHK}{w:Nat}:∀{J:ao}{k:Nat},w∈k::J->bk (k::J) (x≠w->lt w x=ab/\lt x w=ai)->J.foldl (fs (Z (lt b a) b a)) k=w|[],k,h,_=>ah|b::J,k,h,q=>by rw[YM];refine asY cq (fun x S ne=>?_);rw[PR];grind-abstractProof
variable{r:Plan}
noncomputable def yD(r:Plan)(h:Ln):Ln:=(h.2,r.next h.1 h.2)
theorem vb{v x:Nat}(Z:bq):x∈ig v↔dP JE:=by delta Plan.near ox;simp only[a2K];constructor;{rw[ho l a5,eH];{next e=>rw[cG];left;rw[xE];exact a5};{rw[eH];{next e=>rw[cG];right;rw[xE];exact a5};rw[cX]}};{rintro(h|h);rw[l (v JE h (x cN))];{rw[ak (x,v) h];simp_all}}
theorem ad2(v x:Nat):kd 1 (r.w+1) (d0 x)=cf (bp x)-cf ed:=by delta kd dir dx dy ky;grind
theorem yE(v a b:Nat):eV ed ri (bp b)=aox:=bgG
theorem asZ(v a b:Nat):ba0= -aox:=bgG
theorem aQV(Z:bq){v a b:Nat}(b3:JG)(U:uz)(h:ba1):OZ:=by have Y:=hF;have h2:iD Ov (v,b)=v:=by{delta iD;simp};have s:=h.s;rw[h2]at s;have c5:=(wd _ b3);rw[cl (wd _ U),dQ t ((gK).X Ov ((gK).k Rc)) ((gK).X (v,b) ((gK).k Rc)),aKJ];{have e2:Rc=a:=by{rw[I9];simp;exact kO};rw[e2]at t;rw[(wg _ b3)]at t;have:=(aKz).mp t;have g5:0<akO:=this;rw[yE,va]at g5;simp_all};{rw[fF Rc b oT];rw[e2]at t;rw[(wg _ U)]at t;have:=(aKA).mp t;have g5:=this;rw[yE]at g5;exact g5}
theorem aQW(Z:bq){v a b:Nat}(b3:(a,v)∈bX)(U:(b,v)∈bX)(h:mn iq (a,v) (b,v)):cr (d0 b) (d0 a)<0:=by have Y:=hF;have h2:oT (a,v) (b,v)=v:=by{delta oT;simp};have s:=h.s;rw[h2]at s;have c5:=wg _ b3;rw[cl (wg _ U),dQ t ((gK).X (a,v) ((gK).k aou)) ((gK).X (b,v) ((gK).k aou)),aKJ];{have e2:aou=b:=by{delta iD;simp;exact kO};rw[e2]at t;rw[(wd _ U)]at t;have:=(aKA).mp t;have g5:ba0<0:=this;rw[asZ]at g5;have:=va (d0 a) (d0 b);simp only[*]};{rw[fF aou a iD];rw[e2]at t;rw[(wd _ b3)]at t;have:=(aKz).mp t;have g5:0<eV (bp b) ed ri:=this;rw[asZ]at g5;simp_all}
noncomputable def K7(E N:cH):ao:=aCd fM++N.map eY
theorem as0(Z:bq){v:Nat}{s:Sw}{E N:cH}(d3:v<aJ)(C:apk):aCl (dir r v) 1 (r.w+1) (aCd fM) (N.map eY):=by rw[bZ a8F a8F ?_];{simp only[fJ,aCm]at h;rw[bC e a0 h,amX,aoQ];rw[ad2];have:=C_ (i:=e.1) (j:=v) (bU l.1 m.2.l) d3;exact rT this};{rw[nw fJ,bC e a0 h,amY,aoQ];rw[ad2];have:=C_ (i:=v) (j:=e.2) ah l.2;simp[*]};{rw[Nf,List.pairwise_reverse];rw[hY C.sE,vc h,amX];have f7:=x (VE f) W;rw[eA b4 e,ao8,a8P,KA (aQW Z g9 c h)]};{rw[Nf];rw[hY C.sN,vc h,amY];have f7:=x (VD f) W;rw[eA b4 e,ao8,a8P,KA (aQV Z g9 c h)]}
theorem aQX(Z:bq){v:Nat}{s:Sw}{E N:cH}(d3:v<aJ)(C:apk):c7 xk:=by have K:=as0 Z d3 C;delta K7;rw[ahU];rw[ak ?_ ?_,l (K.sl.imp bdR),l (K.su.imp bdR)];{intro a b3 b U e;rw[bY];have:=K.l a b3;have:=K.u a U;lia}
theorem SN(Z:bq){v:Nat}{s:Sw}{E N:cH}(C:apk)(x:Nat):x∈xk↔dP JE:=by delta K7 ox;simp only[hy,fJ,aCm];constructor;{rintro(⟨e,a0,rfl⟩|⟨e,a0,rfl⟩);{rw[amX];right;rw[<-m.2];exact m.1};{rw[amY];grind-abstractProof}};{rintro(h|h);rw[l (.inr (bp JE (ae (VD _) (dx h)))),dQ (bp (x,v) (ae (VE _) (dx h)))]}
theorem as1(Z:bq){v:Nat}{s:Sw}{E N:cH}(d3:v<aJ)(C:apk){i x:Nat}(S:fh (xk)):z y (ap xk (i_%EY) y) (yD r (x,v)=(v,y)):=by rw[eZ hi (i<EY)];have c4:i_%EY<EY:=VP _ (bU tv hi);refine jl (da c4);have O:=(as0 Z d3 C).next (i:=i) (x:=x) (y:=(xk)[i_%EY]) S (da c4);generalize b6:(xk)[i_%EY]=y at O⊢;delta yD;rw[dW];delta aCo;have G:=ae (vb Z) (x (SN Z C y) cq);cases d1:ig v with|nil=>{simp_all}|cons k J=>simp only;rw[d1]at G;refine asY (lt:=fun b a=>Dd (d0 x) (d0 b) (d0 a)) G (fun z c9 ne=>?_);have:=O z (ae (SN Z C z) (x (vb Z) ag)) ne;exact⟨this,aQP this⟩
theorem Lay.mp(Z:bq)(J:n_):Mp iq J rg:=by have Y:=hF;rw[v an6 (fun h H=>?_)];{rw[HK v];exact d xk (aQX Z d3 C) (SN Z C) (fun i x S=>as1 Z d3 C S)};{have d3:=H.BF Y;rw[HK h.2,h1 (ae (SN Z C h.1) H.rv),cl S (A (xk) h.1),ia b9 (as1 Z d3 C S)];rw[b9];rw[c8 d C.dc];generalize c0:VA (gK).n=s at*;have len:t aIt=EY:=by{delta BC K7;simp};have a:aP j x (aa (xk) x->∃p:fz,aa (aIt) p/\p.1=sd we (h.2,x)/\p.2=sd we (x,h.2)):=by{intro j x b8;delta K7 at b8;delta BC;by_cases q:j<VQ;{rw[hx ag,cz]at b8;rw[hx ag,cz];cases W:E.reverse[j]? with|none=>{simp_all}|some f=>rw[W]at b8;simp at b8;have k:=x (VE f) bz;have fl:=fZ f k.1;rw[ao8];simp at b8 fl;have b:h3=h.2:=k.2;subst b8;rw[bD _ ?_ ?_,aW h.2 g4 fl.1 b.l b];{rw[I2];simp_all}};{have c4:=za q;rw[oZ ag,cz]at b8;rw[oZ ag,cz];simp only[bA,List.length_reverse]at b8⊢;cases W:N[j-VQ]? with|none=>{simp_all}|some f=>rw[W]at b8;simp at b8;have k:=x (VD f) (bO W);have fl:=fZ f k.1;rw[ao8];simp at b8 fl;have g:g4=h.2:=k.2;subst b8;rw[bD _ ?_ ?_];{rw[I2];simp_all};rw[aW h3 h.2 g.g fl.1 g]}};obtain⟨p,c2,e9,f6⟩:=a i h.1 S;obtain⟨u,a3,l,D⟩:=a _ y b6;rw[bJ (SH d i ag)];delta Run.lb;rw[c0];rw[<-l,a0 (sd we h) p.2 f6.symm];rw[T (i+1) EY];{rw[q,ahI]at a3;have o4:=(SH d 0 (bn len.g q.l)).1 rfl;grind};{rw[er (cw hi q)]at a3;grind}}
universe GM
namespace GM
open Gla
variable{r:Plan}
structure Time(r:Plan)(t:Nat)(z:Pt):Prop where
 le:t<=aJ
 lo:E i (i<t) (qD z)
 hi:o i (t<=i) gX (VN eG=ab)
noncomputable def passes(r:Plan)(z:Pt)(x:Ln):cb:=gy x.1 x.2 (m7 (i0 x.1 x.2))||gy x.2 x.1 (mC (i0 x.1 x.2))
noncomputable def spans(r:Plan)(t:Nat)(z:Pt)(e:Ln):cb:=cv (jQ/\IT/\0<j_)
theorem aQY(p q z:Pt):eV q p z= -J8:=by rw[ub];grind
theorem as2(x:Ln)(z:Pt):mj (rv x)=mj x:=by delta HD rv;simp only;rw[aQY (bp x.1) (bp x.2) z,Bool.or_comm];congr 3<;>(rw[decide_eq_decide];lia-abstractProof)
theorem aQZ(Z:bq){e:Ln}(a0:iz)(z:Pt):bE (mj e) ((eE).y<=z.y/\z.y<(eF).y/\0<j_):=by have l:=x_;have:=aQN aIA;delta HD;simp;intro a b;grind-abstractProof
theorem as3{f:ee}{a:Nat}:∀n,jn (e1 (v a v (f v) 0)) n=mk (a<n) (f a)|0=>bI|n+1=>by simp only[jn,as3 n];(split<;>lia)
theorem as4{f g:ee}:E n (ad v (v<n) (f v=g v)) (anh=jn g n)|0,_=>rfl|n+1,h=>by simp only[jn];rw[as4 n (ls (h v I_)),aJn]
theorem aQ0{R:Arr}(Y:R.Ok){i:dA}(K:M6 R i)(T:ur):z8 e.1=z8 e.2:=by have a:∀(c5:Ln->Nat),V e gE (c5 e<R.n)->z8 (c5 e)=jn (e1 a'j) R.n:=by{intro c5 c2;have b4:(e1 a'j)=e1 (ct (v (c5 e) v (q0 (T v)) 0) gE):=by{funext v;rw[bC q (T v)];{rw[aIz];rw[F_];simp};{simp only[q];have:(an (v (c5 e) v (Z ai (i e) xt) 0))=ng:=aQ;simp;rw[Ga]}};rw[b4,adV];refine BE nO;rw[as3 (f:=e1 (o3 (T v))) R.n];simp[c2 e a0]};rw[a fM (f3 (bv jd (js et fj))),a eY (f3 (by have:=jd;simp[*]))];refine as4 _ an6;rw[K v d3]
theorem as5(h:P_){e:Ln}(a0:iz):wj eE eF z=ai:=Dl HE
theorem aQ4(Z:bq){t:Nat}{z:Pt}(T:oh)(h:P_){e:Ln}(a0:iz)(a3:jQ)(a9:IT):j_≠0:=by rw[fS];have:=K4 (mR e.1 a3) (mQ e.2 a9 (x_).2) q;rw[am (as5 h a0),nj]
theorem as6(Z:bq){t:Nat}{z:Pt}(T:oh)(h:P_){i:dA}(K:M6 iq i):dL Js=dL O2:=by let d:ur:=e1 (cv (id (ed).y amH));have O:hN (q0 (mj e)+q0 (d e.2)=q0 aL9+q0 (d e.1)):=by{rw[aab,b2 x_,fe (aQZ Z a0 z)];have e8:bE aL9 (jQ/\IT/\0<j_):=by{delta VR;simp};have f:=aIA;have f6:=as5 h a0;have c2:jQ↔(eE).below z=ab:=by{constructor;rw[l (mR e.1)];{rw[fS,d4 e.1 t,AR,Iu (mQ e.1 g ZQ)]}};have N:IT↔VN eF=ab:=by{constructor;{rw[fS];exact mQ e.2 q l.2};{rw[fS,d4 e.2 t,Iu (mR e.2 g),l g]}};have m:eE≠z:=ai (by rw[d4 e.1 t];{have:=mR e.1 g;rw[am q,hA ic]};{have:=mQ e.1 g bM;lia});have u:eF≠z:=ai (by rw[d4 e.2 t];{have:=mR e.2 g;lia};{have:=mQ e.2 g ag;rw[am q,hA ic]});rw[c2,N]at e8;have n:∀{p:Pt},p≠z->p.y=z.y->p.x≠z.x:=fun{p}R b6 S=>R (by cases p;cases z;simp_all);have W:bE (d e.1) (id (eE).y amI):=by{simp[d]};have d8:bE (d e.2) (id (eF).y amJ):=by{simp[d]};generalize eE=p at*;generalize eF=q at*;simp[ic]at e8 f;by_cases e5:id p.y p.x;{have ns:¬aL9=ab:=cj ((e8.mp k).1.elim (fw (gC a e5.1)) (fw (a2N e5.2 a.2)));by_cases e6:id q.y q.x;{rw[bj (cj (gC (aV (a9.mp k)) e6.1.symm)),bj ns,aK (d8.mpr e6),a9M]};{have j:z.y<q.y:=e5.1▸f.elim id (cj (cy ⟨k.1.symm.trans e5.1,js e5.2 k.2⟩ e6));have L:0<J8:=by{have b4:J8=k5 p.x z.x:=by{rw[ub];grind};rw[b4,e5.1];exact hD (a2M (UW j)) (a2M (UW e5.2))};rw[aK (a9.mpr (v (qE e5.1) j L)),bj ns,a'7,a9M];exact Int.add_comm _ _}};{by_cases e6:id q.y q.x;{have Q:p.y<z.y:=by{rw[d4 p.y z.y,AR];{exfalso;have b4:p.y=z.y:=f.elim (cj (cy (e6.1▸k) (a2L g))) (cj (k.1.trans e6.1));have o:p.x<=z.x:=DL b4;have:q5 z:=by{delta wj eV dx dy Nc;simp[b4,e6.1,cn (wm p.x q.x) o,cn (ew e6.2) (HC p.x q.x)]};simp_all}};have L:0<J8:=by{have b4:J8=k5 q.x z.x:=by{rw[ub,jY]};rw[b4];exact hD ag ag};simp[*]};rw[a'7,bj (cj (e5 (W.mp k))),Bool.eq_iff_iff.mpr (a9.trans (Iff.trans ⟨pu ((qN a).imp_right (e7 ⟨y,aAY (DL y) (n m y)⟩)) (.inl b),pu (a.elim ew aHj) (b.elim id (cj (cy ⟨k.1.symm,k.2⟩ e6)))⟩ e8.symm))]}};have s:=BE O;rw[kn,kn]at s;rw[F_,F_];have w:ct (o3 (d e.1)) bX=ct (o3 (d e.2)) bX:=(aQ0 hF K d);simp_all
structure Cut(r:Plan)(s:Sw)(z:Pt)(A B:Row):Prop where
 row:oU=A++B
 hA:h0 A (j_<0)
 hB:h0 B (0<j_)
theorem as7(Z:bq){J:n_}{t:Nat}{z:Pt}(T:oh)(h:P_){A B:Row}(C:ZV){i:dA}(K:M6 iq i){w:ee}(W:ahP iq J i aJ w):w hh=dL Js:=by have I:=zq hF t wo;rw[cl (W.F8 t wo),b2 (W.last t wo)];rw[HF,ot]at c;rw[HF,oq]at l;rw[dd (adL c.2),a6 l];rw[e,as6 Z T h K];simp only[a2O];refine SA i ?_;have dO:=M4;rw[HF,hq,qP]at dO;rw[Hx (SF dO.2.1) (VS _)];intro e;simp only[Ng,VR,iS];constructor;{intro m;rw[cy (x ir (ac HF hq (qH _ bG)))];exact d a.1 a.2.1 a.2.2 (C.hB e m)};{rintro⟨a,b,c,d⟩;have:=ae ir (v a b c);rw[HF,hq,hy]at this;rw[g6 this m,km (C.hA e m),l m]}
noncomputable def lr(l:ao):cH:=ahV (oJ 1)
theorem K8(a b:Nat)(l:ao):lr (a::b::l)=(a,b)::lr (b::l):=bI
theorem K9:Di (aCp=aa a->ahW=aa b->sZ a (lr l) b)|[],a,b,h,_=>bB|[x],a,b,h,g=>by{simp at h g;subst h;subst g;rfl}|x::y::l,a,b,h,g=>by rw[lX];subst h;rw[K8];rw[v rfl (K9 rfl ?_)];trivial
theorem ad3:∀{l:ao}{e:Ln},e∈lr l->e.1∈l/\e.2∈l|[],e,h=>j9 lr|[x],e,h=>j9 lr|x::y::l,e,h=>by rw[aj K8,nw hC,aoa];{simp};{have:=ad3 h;simp[*]}
theorem Gf:∀{l:ao}{e:Ln},Jr->e∈lr l->Ye|[],e,_,h=>j9 lr|[x],e,_,h=>j9 lr|x::y::l,e,p,h=>by rw[aj K8];rw[oX]at p;rw[nw hC,aoa,aZ,l (Gf p.2 h)]
theorem ad4:tl (anU->sZ b (aCc rv) a)|[],a,b,h=>x ER|h::l,a,b,⟨a3,a9⟩=>HS (ahX (ce h.2 (ad4 a9) a3))
theorem ad5:∀(a b:cH)(e:Ln),ef (a++b)=ef a+ef b|[],b,e=>ar fl|h::a,b,e=>by simp[fl,ad5 a b e];simp+arith [*]
theorem aQ5(h e:Ln):BG hg e= -OY:=by delta BG ind;have a:(hg=e)↔(h=rv e):=⟨ai (by rw[<-q];rfl),ai (dc q)⟩;have b:(hg=rv e)↔(h=e):=⟨ai (bv (gz rv q) this),ai (by rw[q])⟩;simp+arith [*]
theorem as8:∀(l:cH)(e:Ln),ef (aCc rv)= -ef l|[],e=>bI|h::l,e=>by simp only[a2P,fe,c_,zk,ad5,as8 l e,fl,aQ5];lia-abstractProof
theorem as9(Y:(gK).Ok){m:cH}(nd:m.Nodup)(c4:dc m iz):dx (V h l (h.1<h.2)) (cQ (fl l) m) bbF|[],_=>a9A|h::l,a5=>by rw[aKB];rw[this,kn,as9 Y nd c4 (aJ (a5 x ro))];have b4:sG m=o_ m:=by{show ct (Ag-Ah) m=_;rw[aLE];rw[this,kn,BH,KZ h nd,adY h nd];have c7:=a5 h bK;have:hg∉m:=ai (l4 (eb _ (c4 _ q)) (gv et c7));simp[ind,this]};rw[b4];rfl
theorem SO(on:OG):eM OS (· < ·):=cF HG (ea a2Q _)
theorem bja{on:OG}{i:Nat}:i∈OS↔gX/\on eG=ab:=i0 HG
theorem K_(Z:bq){l:ao}(s:Jr)(h:ahY r l=ab){e:Ln}(a0:e∈lr l):iz:=by rw[a4 ahY,aj Hn];have:=ZK;rw[a7R,iS (Gf s a0),bX (qO ej) (Hw ej),gf]
theorem La{l:ao}{a:Nat}(s:Jr)(b3:a∈l)(h:aK l (a<=x)):aCp=aa a:=by cases l with|nil=>{simp_all}|cons b J=>rw[oX]at s;simp at b3⊢;rw[al b3,l ER,mt (s.1 a q) (h b bK)]
theorem ad6{l:ao}{a:Nat}(s:Jr)(b3:a∈l)(h:aK l (x<=a)):ahW=aa a:=by cases a5:ahW with|none=>{simp_all}|some b=>rw[ck d7 (List.getLast?_eq_some_iff.mp a5)];rw[e]at s b3;rw[qP]at s;simp at b3;rw[al b3,mt (s.2.2 a q b bK) (h b ag)];{rw[q]}
theorem BL(Z:bq){p:Pt}(h:HH p=ab):be7:=by rw[ca m (p∈dd),h1 m];exact bec
theorem Lb(Z:bq){i j:Nat}(hi:gX)(b8:oe)(h:bbg):i<=j:=Iw (wk g hi)
theorem as_{t:Nat}{m:cH}:Di (c Jr (aCp=aa a) (ahW=aa b) (V h (lr l) (h∈m↔h.1<t/\t<=h.2)) ((B (lr l) (c8 (o_ m))).foldr (· + ·) 0=ind (t<=b)-ind (t<=a)))|[],a,b,_,h,_,_=>bB|[x],a,b,_,h,g,_=>by{simp at h g;subst h;subst g;simp[lr]}|x::y::l,a,b,p,h,g,q=>by rw[lX];rw[List.getLast?_cons_cons]at g;have f6:=VT p;rw[dr (as_ f6.2 rfl g (fun h c7=>q h (t K8 (mw bG))))];rw[K8]at q⊢;rw[kt a2R d6];have j:=f6.1 y bK;have N:=q (x,y) bK;simp only at N;rw[YJ];by_cases c:(x,y)∈m;rw[cK];lia-abstractProof
theorem as'{m:cH}:k2 (V h l (h∉m)) (bbF=0)|[],_=>rfl|h::l,q=>by have:=as' (m:=m) (l:=l) (aJ (q x ro));rw[kt a2R this];simp[ind,q h bK]
theorem aQ6(Z:bq)(n:YU){J:n_}{t:Nat}{z:Pt}(T:oh)(h:Fo){A B:Row}(C:ZV):iI hh≠0:=by have Y:=hF;rw[a4 De,lX];obtain⟨v,u,D,E,f⟩:=h;delta VU at n;rw[wO n];obtain⟨g4,h3,h6,f4,g7,g8,a5,W⟩:=n;rw[ak al s (BL Z g4),bF h7 i2 (BL Z h3)];obtain⟨c,e9,M⟩:=BL Z h6;obtain⟨d,dl,dp⟩:=BL Z f4;rw[fL iF bhN (ar ic)];have a4:=sJ (ga 0);have b5:=sJ Y9;have c8:=sJ (gb 0);have d9:=sJ amS;have b6:=vr (Z.BJ _ (yC hi));have S:=vr (HB hi);have e5:=La d9 (mV h7) (l1 h7 m.1);have e0:=fl d9 dl dl;have K:=adZ Y (ahX (v b (K9 (La a4 (mV al) (aJ (He S))) (fl a4 h7 h7)) (ahX (v d (K9 e5 e0) (ahX (v c (ad4 (K9 (La b5 (mV e9) (l1 e9 m.1)) (ad6 b5 (mV dl) (fun x G=>by rw[bJ (HI G)];refine Lb Z m.1 dl ?_;simp[*])))) (ad4 (K9 (La c8 (mV al) (fun x G=>He G)) (fl c8 e9 e9))))))))) (aJ (by rw[bd3];rcases S with S|S|⟨y,S,rfl⟩|⟨y,S,rfl⟩;rw[dQ (K_ Z a4 g7 S),dQ (K_ Z d9 W S),co (K_ Z b5 g8 S),co (K_ Z c8 a5 S)]));rw[j5 o (adQ Y J K aJ a_)];have e:=as7 Z T f C K o;rw[a6 (as6 Z T f K)];have nd:c7 O2:=VS _;rw[ak sub O2 iz (fb a0)];have c9:fl (jF (ga 0)++(jF amS++(FX Y9++FX (gb 0))))=an (ef (jF (ga 0))+(ef (jF amS)+((-ef (jF Y9))+(-ef (jF (gb 0)))))):=by{funext e;simp only[ad5,as8]};rw[c9,kn,kn,kn,BH,BH,uV a4,uV b5,uV c8,uV d9]at e;have j:∀h:Ln,h∈O2↔N (h∈bX) (h.1<t) (t<=h.2) (0<i0 h.1 h.2):=c8 (ar VR);have c3:=ai (by have:=mQ b q h7;rw[bX iF i2,ui];omega);have l:t<=d:=by{rw[d4 d t,i1 (mR d g),l g]};rw[nc (ga 0) (by have e1:=aJw;have:=mQ h.2 (bU aHQ) e1.1;rw[am iF];have:=e1.2;rw[ui];lia-abstractProof),nc Y9 (by have e1:=aJx;have:=mR h.1 (aV aHQ);rw[am iF];grind-abstractProof),nc (gb 0) (by rw[bJ aHQ];have e1:=aJw;have k:=wk (Gf c8 c7) e1.1;rw[bs iF];have d2:=(aJx).2;have q2:=e1.2;simp at d2 q2;rw[Hh beE];have:0<=bcU:=sY fk (x (Ko z.x));rw[b4]at m;have b9:beE= -(bcU):=by{lia};exact RN m.2.2.2 b9.m this),(as_ (t:=t) (m:=O2) d9 e5 e0 (fun h c7=>by rw[j h];have e1:=aJw;have k:=wk (Gf d9 c7) e1.1;rw[bs iF];have d2:=(aJx).2;have q2:=e1.2;simp at d2 q2;rw[Hh (bm ak9 ak8*bm r.w z.x),i4 (ai ⟨q.2.1,aS q⟩) (ai (d (K_ Z d9 W c7) q.1 q.2 (t b4 (hD fk (w7 u)))))]))]at e;simp only[ind,c3,l,mJ,iR]at e;rw[fS,eM (zq Y aJ a_)];have c0:iI 0=0:=by{have:=I.adN 0 VC;lia-abstractProof};have:=o.F7 hh 0 (by rw[cy ((zq Y t wo).gap hh (ac HF ou al3)),cb (J.ow wo a_)];exact cn a b) VC ah;rw[am o.zero];lia-abstractProof
universe GM
namespace GM
open Gla
variable{r:Plan}
noncomputable def yF(l:ao):cH:=a9Z
theorem ad7(F:E_):Gm (ar F (a+b) h=ar F a h++ar F b (cE a))|0,b,h=>eI ar it|a+1,b,h=>by rw[dv (a+1+b) ((a+b)+1)];simp[ar,ad7 F a b (F h),Gb,it]
theorem aQ7{F:E_}{h:Ln}{m j:Nat}(ret:cE m=h)(b8:j<=m):dd uD j++an uD j=ar F m kZ:=by have b4:uD=ar F j h++ar F (m-j) kZ:=by{rw[<-ad7];rw[dW];simp[*]};have b9:ar F m kZ=ar F (m-j) kZ++ar F j (it F (m-j) kZ):=by{rw[<-ad7];rw[dW];simp[*]};have e7:it F (m-j) kZ=h:=by{rw[<-yB,mn (m-j+j) m,ret]};rw[b9,e7,b4];rw[b2 (BI (F:=F) j h)];simp[*]
theorem ata(Z:bq){J:n_}{h:Ln}(H:rJ){m:Nat}(P:sh rg h m):aP n j (j<m->m-j<=n->aCq n h Fu=gZ (ar rg (m-j) Fu))|0,j,b8,d1=>cq|n+1,j,b8,d1=>by rw[aS (m-j) ((m-(j+1))+1) (L m j b8 m (j+1)) (L m (j+1) b8 m j)];simp only[VW,ar,c_];rw[dW,ab e ((Fu).2,r.next (Fu).1 (Fu).2) (it rg (j+1) h)];rw[e];rw[T (j+1) m];{rw[q,M7];simp[ar]};{rw[bj (ahM (j+1) pS Yj),ata Z (J:=J) H P n (j+1) Yj Ba];rfl}
noncomputable def Gg(r:Plan)(h:Ln):ao:=ahZ (aCq alA h h)
theorem atb:FP (aHP<=a/\aK l (aHP<=x))|[],a=>aQ|b::l,a=>by have:=atb l aae;rw[YM];exact⟨cn et aow,aJ (cb (h_ S) (an (t e (cn et alI))) (this.2 x))⟩
theorem atc:FP (aHP∈a::l)|[],a=>x fu|b::l,a=>by have:=atc l aae;rw[YM];grind-abstractProof
theorem aQ8(Z:bq){J:n_}{h:Ln}(H:rJ){m:Nat}(P:sh rg h m)(c4:m<=2*dP):∃j,j<m/\uI=gZ (gr Fu)/\aK (gr h) ((Fu).1<=x.1):=by have e:=ata Z (J:=J) H P alA 0 VI EI;rw[ks it ah0];delta Gg;rw[e];have len:=BI (F:=rg) m h;cases d3:gr h with|nil=>{rw[d3]at len;simp at len;have:=VI;simp_all}|cons a l=>simp only[c_,ahZ];generalize U:(Ek).foldl min a.1=W;rw[br mm (W∈aoh) U (atc _ _)];have g8:=atb (Ek) a.1;rw[U]at g8;generalize b8:(a.1::Ek).idxOf W=j;rw[dC j4 (j<t aoh),ca b (j<m),bZ j b ?_];{rw[ae D aoh am0];rw[D,<-Dg,<-Df,<-fe,aQ7 M7 (h3 b)]};{rw[dC v3 (aa (a.1::Ek) W),ae D aoh am0];rw[D,cz,Gd (F:=rg) m h j b]at v3;grind}
theorem atd:tl (anU->(Ek).zip (dd Ek 1++[b])=l)|[],a,b,_=>bI|[h],a,b,⟨a3,a9⟩=>a70|h::g::l,a,b,⟨a3,a9⟩=>by rw[dr (atd a9)];have g7:=a9.1;simp at d6⊢;grind-abstractProof
theorem aQ9(Z:bq){J:n_}{h:Ln}(H:rJ){m:Nat}(c9:0<m)(ret:it rg m h=h):yF (am0)=gr h:=by have W:=K1 (Z.mp J) hF m H;rw[ret]at W;delta yF;have:an am0 1=[h.1]:=by{cases m with|zero=>{simp_all}|succ m=>rfl};rw[L this (atd W)]
theorem Lay.ate(Z:bq){h:Ln}:h∈ways r↔rJ:=by delta ways ox;simp only[VX,hC,oQ,Dh];constructor;{rintro⟨l,a5,rfl|rfl⟩;rw[l pP,co a5]};{rintro(a3|a3);rw[l (v h a3 gj),l (v hg a3 EM)]}
structure Net(r:Plan):Prop where
 lay:bq
 frame:YU
 conn:K0 iq
 aQ_:E v (v<aJ) (asL iq v)
 start:fq bX (e.1=0)
variable{J:n_}
theorem Net.orb(N:jX)(J:n_){h:Ln}(H:rJ):∃m g,sh rg g m/\dP g/\uI=gZ (gr g)/\yF uI=gr g/\kP=oa/\ad x (dP x) (x∈gr g↔wh x=oa)/\(o x (dP x) (wh x=oa) (g.1<=x.1)):=by have Y:=Nh;rw[aHA,bW P c4 (aQH d5 Y H)];obtain⟨j,b,e,least⟩:=aQ8 iT (J:=J) H P c4;have G:=am6;have PG:=P.shift d5 Y H j;have i5:=ad1 d5 Y H j;rw[b m Fu PG G e ?_ i5 (fun x X=>?_) (fun x X q=>?_),Z e (aQ9 iT (J:=J) G PG.pos PG.ret)];{rw[SM d5 Y ah1 G X PG,i5]};rw[l (least x (ae (SM d5 Y ah1 H X P) q))]
theorem Net.SQ(N:jX)(J:n_){g h:Ln}(G:dP g)(H:rJ):Gg r g=uI↔kP=oa:=by rw[lI A G];obtain⟨n,b,c,B,f7,d1,i5,D,e⟩:=N.orb J H;constructor;{(intros;simp_all only)};{rw[fS,cU u a.1 b.1,ci i hi (M8 (ae (D a A) (bj F q)))];have o:i=0:=by{have g8:ap (gZ (ar rg n b)) 0 a.1:=by{rw[cz,Gd _ _ _ c.pos,u];rfl};exact asK (aQI (a2S J) Nh N.aQ_ B c) (by rw[cz,Gd _ _ _ hi,d2];rfl) g8};subst o;have f5:b=a:=d2;subst f5;have W:m=n:=by{rw[fd m n,cE d.ret (c.min m d.pos q),iy,cE c.ret (d.min n c.pos q)]};rw[d0,f7,W]}
noncomputable def iG(g:dA):anu|[]=>0|h::l=>g h+iG g l
theorem atg(Z:bq){g:dA}(j:∀e,g (rv e)= -g e):dx (V h l rJ) (ct (ef l*g e) bX) (iG g l)|[],_=>by{have:(an (ef []*g e))=ng:=by{funext e;simp[fl]};rw[this,Ga];rfl}|h::l,H=>by have b4:(an (ef (h::l)*g e))=an ((OY*g e)+(ef l*g e)):=by{funext e;simp[fl];grind-abstractProof};rw[b4,kn,atg Z j aJT];simp only[iG];rw[dW];have O:∀(e:Ln),OY*g e=bfy:=by{intro e;delta BG ind;rw[T h e,cK];grind-abstractProof};rw[ae b9 (an (OY*g e)) (an bfy)];rw[b9,kn];have i:∀(f:dA)(c:Int)(l:cH),ct (f e*c) l=cQ f l*c:=by{intro f c l;induction l with|nil=>{simp[cQ]}|cons a b d6=>simp[cQ,d6];grind-abstractProof};rw[i,i,KZ h Z.nd,adY h Z.nd];have Y:=hF;have d:=H h bK;rw[a8_];{have m:h∈bX:=d.up Y q;rw[bav];simp[ind,m,e1]};{have m:hg∈bX:=d.dn Y q;rw[bau];simp[ind,m,e1]}
theorem ath(f g:dA):l5 (iG (c8 (f h+g h)) l=iG f l+iG g l)|[]=>rfl|h::l=>by simp[iG,ath f g l];simp+arith [*]
theorem ati(f:dA)(c:Int):l5 (iG (c8 (c*f h)) l=c*iG f l)|[]=>ar iG|h::l=>by simp[iG,ati f c l];grind-abstractProof
theorem atj(p:ee):tl (anU->iG (c8 (p h.2-p h.1)) l=p b-p a)|[],a,b,h=>by{rw[cG];simp[iG]}|h::l,a,b,⟨a3,a9⟩=>by simp only[iG,atj p a9,a3];simp+arith [*]
noncomputable def SR(r:Plan)(h:Ln):Int:=v (bp h.1).x*v ak9-v (bp h.2).x*v ak8
theorem aQ'(r:Plan)(l:ao):aCr r l=iG (SR r) (yF l):=by delta aCr yF;generalize a9Z=q;induction q with|nil=>{rfl}|cons a b d6=>exact Ap
theorem Net.atk(N:jX)(J:n_){h:Ln}(H:rJ):0<aCr r uI↔oa≠0:=by have Y:=Nh;rw[aHA,lI A H];rw[<-F,<-aQJ d5 Y ah1 ah2 A d];let G:dA:=an (((gK).u e.1+(gK).u e.2)*((gK).k e.2-(gK).k e.1));have b4:cQ (SI iq (fl (gr a))) (gK).lines=iG G (gr a):=atg iT (g:=G) (an (by simp only[G,rv];grind-abstractProof)) (q9 (dN A j));rw[b4,aQ',R];obtain⟨pv,b⟩:∃pv:ee,∀v,pv v=Ad*(Y0*(amH*(ed).y)+amH*amH):=aW gW;have b9:G=c8 ((Ad*Y0)*SR r h+(pv h.2-pv h.1)):=by{funext h;simp only[G,tb,SR,ky,b];grind-abstractProof};have W:=K1 d5 Y m A;rw[d.ret]at W;rw[b9,ath,ati,atj pv W];have p:0<Ad*Y0:=hD N.lay.asT aQ;generalize Ad*Q2=c at*;generalize iG (SR r) (gr a)=x at*;constructor;{rw[fS];have:=hD p q;rw[xD]};{rw[fS,sV x,AR,i1 (Nb (eW p) g)]}
theorem atl(Z:bq)(z:Pt):dx (V h l rJ) (kd (zr (HD r z))%2) ((cQ (fl l) Js)%2)|[],_=>a9A|h::l,H=>by have d6:=atl Z z (l:=l) aJT;rw[aKB];rw[this,kn];have Y:=hF;have d:=H h bK;have nd:c7 Js:=VS _;have b4:sG Js=o_ Js-ind (hg∈Js):=by{rw[a9Y];show ct (Ag-Ah) _=_;rw[aLE];rw[this,kn,BH];rfl};rw[b4];rw[bC p (mj h)];{rw[z u (mj hg=ab) as2 p];rw[ah3 p,ia];rw[a8_];{have m:h∈bX:=d.up Y q;rw[bav];simp[ind,m,e1,p];lia-abstractProof};{have m:hg∈bX:=d.dn Y q;rw[bau];simp[ind,m,e1,u];lia-abstractProof}};{rw[z u (¬mj hg=ab) as2 p];simp[*]}
theorem aRa(l:ao)(z:Pt):bE (ah4 r l z) (go (yF l) (HD r z)%2=1):=by delta ah4 yF HD;simp
theorem aRb{z:Pt}(h:Fo):P_:=Dl De
theorem atm(Z:bq){t:Nat}{z:Pt}(T:oh){A B:Row}(C:ZV):hh<al':=by rw[cy ((zq hF t wo).gap hh (ac HF ou al3))];have b2:=J.ow wo a_;exact pM
theorem Net.inside(N:jX){t:Nat}{z:Pt}(T:oh)(h:Fo){A B:Row}(C:ZV){g:Ln}(G:dP g)(e5:kP≠0):bE (ah4 r (Gg r g) z) (iI hh=kP):=by have Y:=Nh;rw[aHA,lI b G];have c7:aK (gr a) (dP x):=q9 (dN b j);rw[aRa,R];have M:=atl iT z c7;obtain⟨w,W,hw⟩:=asP d5 Y ah1 ah2 b d;rw[<-(as7 iT T (aRb h) C (asO d5 Y b d) W),hw _ (atm iT T C),F]at M;rw[aC O (ind (kP=0)) 0 (bj bG)];rw[O]at M;rw[ab f5 ((cA (gK).n).aP hh) (iI hh)];rw[f5]at M;delta ind at M;split at M;{rw[jY]};rw[jY]
theorem ad8(N:jX)(J:n_){l:ao}:l∈tc↔∃h,rJ/\uI=l/\oa≠0:=by delta wq;simp only[Ng,VY,fJ,iS];constructor;{rintro⟨⟨h,hw,rfl⟩,a⟩;have H:=N.lay.ate.mp hw;exact ce h H (x (N.atk J H) a)};{rintro⟨h,H,rfl,a⟩;exact⟨bp h (N.lay.ate.mpr H),ae (N.atk J H) a⟩}
theorem ad9{I:Type} [BEq I] [aCs I]:∀(n:Nat)(l:ba),d_<=n->l.eraseDups.Nodup|0,l,h=>ah|n+1,[],h=>aQ|n+1,a::l,h=>by rw[List.eraseDups_cons];refine a2T (lH (ad9 n _ cq));rw[VY];simp
theorem aRc(r:Plan):r.outlines.Nodup:=cF wq (a2U _ (ad9 _ (B (ways r) bbc) a_))
theorem Net.among(N:jX){t:Nat}{z:Pt}(T:oh)(h:Fo){A B:Row}(C:ZV){g:Ln}(G:dP g)(d8:kP=iI hh):a_g:=by delta aCu;rw[aK h];have c6:=HP C;cases W:r.outlines.find? (ch (ah4 r l z))with|none=>{rw[a2W]at W;exact cy (ae (N.inside T h C G ag) d8.symm) (W _ (ae (ad8 N J) (ce g G ag)))}|some l=>have p:=List.find?_some W;obtain⟨x,X,rfl,R⟩:=x (ad8 N J) (a2V W);have:=x (N.inside T h C X R) p;rw[ae (N.SQ J X G) ag]
theorem Net.count(N:jX)(J:n_):Ni=t (dy al' beZ):=by have Y:=Nh;have I:=zq Y aJ a_;have ex:e3 (∃h,aHx->rJ/\aHE=x):=ab (by by_cases q:aHx;{rw[aO h H (asQ Y J ah2 (x:=x) q)];exact⟨h,au ⟨H,e⟩⟩};rw[l ⟨(0,0),J (cy z q)⟩]);let d:df Ln:=ab (agK (ex x));have c0:=fun x q=>aAZ (ex x) q;have g:E x aHx (wh (d x)=iI x):=fun x q=>by{show iI (sd (cA aJ).side (d x))=_;rw[(c0 x q).2]};have p:r.outlines.Perm (gy (dy al' beZ) (Gg r (d x))):=by{rw[Hx (aRc r) ?_]at⊢;{rw[rD];rw[ad8 N J];simp only[fJ,Ng,aCv,iS];constructor;{rintro⟨h,H,rfl,c6⟩;have f:aHE<al':=(CY Y H);have o:=M3 _ f;rw[cl (I.KY _ f),ab e oa (iI aHE)];rw[<-e]at o c;rw[aa oa (v o c c6) (ae (N.SQ J (c0 _ o).1 H) cq)]};grind-abstractProof};{rw[JV,hY (List.nodup_range.filter _),re e];simp only[Ng,aCv,iS]at b3 U;have:=x (N.SQ J (c0 a b3.1).1 (c0 b U.1).1) e;rw[g a b3.1,g b U.1,b3.2.1,U.2.1]at this;exact ne this}};rw[p.length_eq,bA]
theorem Net.follows(N:jX)(J:n_){h:Ln}(H:rJ){i j:Nat}(b:dP (i,j)):bE (follows uI i j) (wh (i,j)=oa):=by rw[lI A H];delta Gla.follows;rw[dO ((uI).zip (dd uI 1++an uI 1)) (yF uI),R];simp[*]
universe GM
namespace GM
inductive Gh(par:gn)(a:Nat):mb|refl:a1 a a|step{b c:Nat}:par b=aa c->a1 a c->Pk
theorem Gh.trans{par:gn}{a b c:Nat}(h:Pk)(g:a1 b c):a1 a c:=by induction g with|refl=>{exact h}|step e _ d6=>exact .step e d6
structure DInv(a5:lZ)(B:ao)(par:gn)(c:cC)(path:ao):Prop where
 nd:B.Nodup
 head:a_f
 yG:par 0=ae
 BM:a'p
 vc:bgR
 bjb:aK dI nq
 chain:aK dI (E t (a2X=aa t) (a1 x t))
 SS:e3 (c x<=YX)
 seen:aK B (∀(j:Nat)(y:Nat),j<c x->aa (a5 x) y->y∈B)
 SU:E x (x∉B) (c x=0)
 fin:aK B (x∉dI->c x=YX)
 BN:bea
 SV:∀(p q:ao),dI=p++q->p≠[]->aK p (E t (p.getLast?=aa t) (a1 x t))
variable{a5:lZ}{B:ao}{par:gn}{c:cC}{path:ao}
theorem aRd(a5:lZ):ah5 a5 [0] uu ng [0]:=by rw[b ay rfl rfl lO ?_ ay ?_ aQ (a bM lO ?_ ?_ ?_)];{rw[Zu]};{intro x S t c6;simp at S c6;subst S;subst c6;exact .refl};{(intros;trivial)};{rw[Zu]};{intro p q e c2 x S t c6;cases p with|nil=>{trivial}|cons y p=>simp at e;rw[ck rfl e];have:p=[]:=e.1;rw[gm];simp at S c6;subst S;subst c6;exact .refl}
theorem DInv.pop(D:q1 dI){p:ao}{t:Nat}(e:dI=p++[t])(h:c t=t (a5 t)):q1 p:=by rw[b D.nd V0 D.yG D.BM D.vc (aJ (Nj x ag)) ?_ D.SS (a ah6 D.SU ?_ D.BN ?_)];{intro x S t' c6;exact D.SV p [t] e cq x S t' c6};{intro x S d1;rw[iL t,l IK,l (VZ x S ag)]};{intro u c4 d3 a3 x S t' c6;exact D.SV u (c4++[t]) ag a3 x S t' c6}
noncomputable def bump(c:cC)(t:Nat):cC:=ab (v x t (c x+1) (c x))
theorem DInv.old(D:q1 dI){t y:Nat}(L:t∈dI)(h:ba')(b6:y∈B):ah5 a5 B par (Di c t) dI:=by rw[b D.nd V0 D.yG D.BM D.vc Nj aCw ?_ (a ?_ ?_ ?_ D.BN D.SV)];{intro x;delta Di;split;rw[dV,l (D.SS x)]};{intro x S j z b8 c9;rw[aGV];split at b8;{next q=>rw[N d j (c x),az,l (uW (iM d))]};rw[l (uW b8)]};{rw[Bh,s8 (S (q▸Nj t L))];delta Di;rw[tR];exact D.SU x S};{intro x S d1;rw[s8 (d1 (q▸L))];delta Di;rw[tR];exact VZ x S d1}
noncomputable def Lc(par:gn)(y t:Nat):gn:=ab (av (x=y) t (par x))
theorem Gh.keep{y t:Nat}(b6:par y=ae){a b:Nat}(h:Pk):Gh aLe a b:=by induction h with|refl=>{exact .refl}|step e _ d6=>refine .step ?_ d6;delta Lc;split;rw[az,l e]
theorem DInv.new(D:q1 dI)(sym:apg){t y:Nat}(last:a2X=aa t)(h:ba')(b6:y∉B):ah5 a5 (eA B) aLe (Di c t) (eA dI):=by have L:=a2Y Dj;have C:=Nj t L;have r:=D.BM y b6;have b1:=ah7 (dc V0);have k3:y≠0:=ai (b6 (q▸b1));have ix:ep B (he (eA B) a=dv a):=fun a b3=>cq;have i:t≠y:=ai (b6 (q▸C));have g:Gh aLe t y:= .step (x cN) .refl;rw[Ck (a ?_ ?_ ?_ ?_ ?_)];{rw[ahU];rw[aa D.nd aQ (fun a b3 b U=>?_)];simp at U;grind-abstractProof};{cases B with|nil=>{simp_all}|cons a J=>simpa using V0};{delta Lc;simp[hs k3];exact D.yG};{intro b U;simp at U;delta Lc;simp[U.2];exact D.BM b U.1};{intro b U n;simp at U;rcases U with U|rfl;{rw[w e v w l (D.vc b U n)];have:b≠y:=ai (b6 (q▸U));rw[aP a (bx Lc this e) (x (vO _ bG)) w];simp[*]};{rw[aP t (x cN) (x (vO _ bG)) (bO h)];grind-abstractProof}};{rw[Bh];simp at S⊢;rw[f0 S S,dQ (Nj x S),co bG]};{intro x S t' c6;simp at c6;subst c6;rw[PR,f0 S rfl,bfx,l .refl]};{intro x;delta Di;split;rw[cK,l (D.SS x)]};{intro x S j z b8 c9;simp at S⊢;rw[f0 S rfl];{rw[aGV];split at b8;{next q=>rw[N d j (c x),az,dQ (uW (iM d))]};rw[dQ (uW b8)]};{rw[aGV];simp[hs i]at b8;rw[D.SU _ b6]at b8;simp_all}};{rw[Bh,PR,s8 (S.1 (q▸C))];delta Di;rw[tR];exact D.SU x S.1};{intro x S d1;simp at S d1;rw[f0 S S];{rw[s8 (d1.1 (q▸L))];delta Di;rw[tR];exact VZ x S d1.1};grind-abstractProof};{intro a b3 b U l w;simp at b3 U;rcases U with U|rfl;{rw[a'8];{rw[ix a b3,ix b U]at l;exact(D.BN a b3 b U l w).keep r};grind-abstractProof};{rw[a'8];{by_cases q:a∈dI;rw[l (J ((aCw a q t Dj).keep r) g)];{exfalso;rw[eS (VZ a b3 q),aO j b8 (ib w)];exact b6 (ah6 a b3 j b ag ag)}};{rw[Fc]}}};{intro p q e c2 x S t' c6;rw[N d7 q []];{subst d7;simp at e;rw[bY];simp at c6;subst c6;rw[PR,f0 S rfl,bfx,l .refl]};{obtain⟨c4,z,rfl⟩:∃c4 z,q=c4++[z]:=v q.dropLast (q.getLast d7) (bt (List.dropLast_concat_getLast d7));rw[pu du];have:=List.append_inj_left' e rfl;exact(D.SV p c4 this c2 x S t' c6).keep r}}
universe GM
namespace GM
structure Tree(a5:lZ)(B:ao)(par:gn):Prop where
 sym:apg
 nd:B.Nodup
 head:a_f
 yG:par 0=ae
 BM:a'p
 vc:bgR
 Ld:aK B (ds (a5 x) (y∈B))
 BN:bea
variable{a5:lZ}{B:ao}{par:gn}{c:cC}
theorem DInv.tree(D:q1 [])(sym:apg):ji:=a sym D.nd V0 D.yG D.BM D.vc (fun x S y b6=>by rw[eS (VZ x S jI),aO j b8 (ib b6)];exact ah6 x S j y ag ag) D.BN
theorem Tree.zero(T:ji):0∈B:=ah7 (dc T.head)
theorem Tree.reach(T:ji){P:mb}(f:P 0)(e9:f a b IX OB (P a) (P b)):aK B (P x):=by have:l k x nq apc (P x):=by{intro k;induction k with|zero=>{rw[bZ x _];simp_all}|succ k d6=>rw[bZ x S,iL 0,aZ];{have⟨a,_,v,w,l⟩:=aI9;grind-abstractProof}};rw[Bh];exact bbv
theorem Tree.ad_(T:ji){b c:Nat}(h:par b=aa c):z (b∈B) (b≠0) (c∈B) (b∈a5 c) (dv c<dv b):=by have U:=qF (ai (by rw[aj (T.BM b q),cG]));have b1:b≠0:=ai (by rw[q,T.yG]at h;rw[cG]);have⟨a,e,v,w,l⟩:=T.vc b U b1;rw[a6 h];simp_all
theorem Tree.SW(T:ji){a b:Nat}(h:Pk):dv a<=dv b:=by induction h with|refl=>{exact a_}|step e _ d6=>rw[hZ (a2 (ah8 e)) (ew (fb d6 this))]
theorem Tree.inj(T:ji){a b:Nat}(b3:IX)(U:b∈B)(h:dv a=dv b):a=b:=by rw[gt (ah9 (xs:=B) (x:=b) (wt U))];grind-abstractProof
theorem atn{a b x:Nat}(h:a1 a x)(g:a1 b x):Pk\/a1 b a:=by induction h with|refl=>{rw[o8 g]}|step e h d6=>cases g with|refl=>{rw[mU (.step e h)]}|step d3 g'=>simp_all
theorem Tree.root(T:ji):aK B (a1 0 x):=by have:l k x nq apc (a1 0 x):=by{intro k;induction k with|zero=>{rw[bZ x _];simp_all}|succ k d6=>rw[bZ x S,iL 0,Z q .refl];{have⟨a,e,v,w,l⟩:=aI9;exact .step e (d6 a v (bn l h))}};rw[Bh];exact bbv
theorem ad'{a c u:Nat}(h:a1 a c)(e:Qg)(ne:a≠c):a1 a u:=by cases h with|refl=>{trivial}|step d3 h'=>simp_all
structure BO(a5:lZ)(B:ao)(par:gn)(Z:cC):Prop where
 a:lq (Z v<=nk)
 b:on (par w≠pB) (dv w)
 c:on aHn (Z w)
 d:lq (Z v=nk\/(gw (a5 v) (par w≠pB/\dv w=Z v))\/(gw (a5 v) (aHn/\Z w=Z v)))
variable{Z:cC}
theorem BO.anc(W:Z3)(T:ji){v x:Nat}(h:a1 v x):Z v<=Z x:=by induction h with|refl=>{exact a_}|step e _ d6=>rw[lw e];have:=W.c _ (aS m) _ (aS m.2) e;exact pM
theorem BO.le(W:Z3)(T:ji){v x w:Nat}(h:a1 v x)(S:nq)(hw:w∈a5 x):Z v<=dv w:=by have a3:=W.anc T h;by_cases q:dK w x;rw[mt (W.a x S) (a2 (ah8 q)),cb (W.b x S w hw q) pM]
theorem BO.att(W:Z3)(T:ji){v:Nat}(d3:v∈B):be6:=by have:l k v (v∈B) (eB-nk<k) be6:=by{intro k;induction k with|zero=>{rw[bZ v _];simp_all}|succ k d6=>rw[bZ v d3];rcases W.d v d3 with q|⟨w,g,_,e⟩|⟨w,g,C,e⟩;rw[l (d v .refl d3 (.inl q)),l (d v .refl d3 (.inr (v w g e)))];{rw[lw C];have N:=wt m.1;obtain⟨x,a,b,S⟩:=d6 w m.1 (x (uP (aC eB (List.idxOf w B) N) (aS eB (List.idxOf v B)) h (a2 m)));rw[bZ x (J (Gh.step C .refl) a) b];rcases S with S|⟨z,a0,c1⟩;rw[i1 (W.le T (v:=w) (x:=w) (w:=v) .refl m.1 (V1 _ _ g))];grind-abstractProof}};exact this _ v d3 jR
theorem Tree.aRg(T:ji)(W:Z3){u c:Nat}(D:Qg)(h:dv u<=Z c)(f:u≠0):oy (¬a1 c a) (¬a1 c b):=by intro a b v w d i b0 d1;rw[lw D];have bo:=Nk a v b w;rw[uZ (ai (xz (V2 v bo q)))];{rcases atn bgY d1 with k9|R;{have le:=W.le T d1 bo (V1 _ _ w);have:=T.SW (ad' k9 D (ai (b0 (q▸.refl))));exact d (V2 v (aS m) (gx Er (cf h le)))};rw[cX]};rw[cb bgZ (b0 (d1.trans this))]
theorem Tree.ato(T:ji){c u:Nat}(D:Qg):¬a1 c 0:=by rw[eD];cases h with|refl=>{rw[zA T.yG]}|step e _=>rw[a6 T.yG,dS]
theorem Tree.aRh(T:ji)(W:Z3){u:Nat}(f:u≠0)(h:E c Qg (Z c<dv u)){Q:mb}(N:Q 0)(e9:oy (Q a) (Q b)):aK B (x≠u->Q x):=by rw[Lc (z≠u)];have:f k x nq apc (x≠u) (Q x):=by{intro k;induction k with|zero=>{rw[bZ x _];simp_all}|succ k d6=>intro x S c3 o;rw[iL 0,aZ];{have⟨p,e,po,A,l⟩:=aI9;rw[N a9 p u];{subst a9;have lo:=h x e;have⟨y,j,I,b6⟩:=W.att T S;rw[eZ hw (gw (a5 y) (dv w=Z x))];have⟨w,g,n⟩:=hw;have d:=Nk y I w g;have r:w≠p:=ai cq;have below:C1 (z≠p):=fun z s _ q=>by{have:=T.SW s;rw[e_];exact gv this l};have i:=e9 w y d (V1 _ _ g) r (td y j I) (d6 w d (x (uP n.l lo l c3)) r);grind-abstractProof};grind-abstractProof}};intro x S o;exact this _ x S jR o
theorem Tree.aRi(T:ji){c:Nat}(D:X4):ov (a1 c a) (a1 c b):=by intro a b v w y n R;have bo:=Nk a v b w;rw[b1 (dv a) (dv b)];{have:=V2 v bo e;rw[gm];exact R};{rw[uZ e,l (wu bgY)];{rcases atn bgZ R with f|d1;{rw[T b c,az];{have:=ad' f D q;have le:=T.SW this;have:=V2 bo T.zero (by have z:dv 0=0:=by{cases B with|nil=>{rfl}|cons a J=>have:=T.head;simp_all};simp_all);exact cy this n}};rw[aZ]}}
set_option tactic.hygienic true in theorem Tree.child(T:ji){x:Nat}(S:nq)(R:x≠0):z c X4 (a1 c x):=by have h:=T.root x S;have O:o y (a1 0 y) (y≠0) (z c X4 (a1 c y)):=by{rw[dt y];induction h with|refl=>{simp}|step e h' d6=>rename_i b c;intro _;rw[T c 0];{rw[e_];exact v b e .refl};{obtain⟨d,d3,ad⟩:=d6 q;exact v d d3 (.step e ad)}};exact O x h R
theorem Tree.other(T:ji){c d:Nat}(D:X4)(d3:dK d 0)(ne:c≠d):¬a1 c d:=by rw[eD];have:=ad' h d3 ne;have le:=T.SW this;rw[lw D];exact gv le (a2 m)
theorem Tree.aRj(T:ji){c s:Nat}(one:E d (dK d 0) (d=c))(d8:s∈B)(s0:s≠0){Q:mb}(v:Q s)(e9:ov (Q a) (Q b)):aK B (x≠0->Q x):=by have⟨C,g,n⟩:=aCx d8 s0;have:=one C g;rw[Lc (z≠0)];have X:=G C s n d8 (fun z j _ q=>by rw[e_];exact T.ato g j) v;have:f k x nq apc (x≠0) (Q x):=by{intro k;induction k with|zero=>{rw[bZ x _];simp_all}|succ k d6=>intro x S c3 R;have⟨p,e,po,A,l⟩:=T.vc x S R;rw[d3 f p,az];grind-abstractProof};intro x S R;exact this _ x S jR R
universe GM
namespace GM
open Gla
noncomputable def yH(a:EJ):Nat:=t (a.filter (· ==ai))
theorem atp:∀{l:EJ}{j:Nat},aa l ai->yH (V3 j ab)+1=yH l|[],j,h=>bB|b::l,0,h=>by{rw[lX];subst h;rfl}|b::l,j+1,h=>by rw[lX,dr (atp h)];unfold yH at d6⊢;simp only[List.set_cons_succ];grind-abstractProof
abbrev Bst:=ao×PF
noncomputable def BP(a:Bst)(j:Nat):Bst:=bcA
theorem Gi{a:PF}{j x:Nat}(h:a.getD j ab=ai):am (a.setIfInBounds j ab) x ab=v x j ab (a.getD x ab):=by rw[eZ j4 (j<a.size),iL j,az];{simp only[q,iR];simp only[V4,Array.size_setIfInBounds];split;{next l=>exact Array.getElem_setIfInBounds_ne l (hs q)};{rfl}}
theorem atq:∀(l:ao)(a:Bst),((ZD).2.size=a.2.size)/\(e3 (bE ((ZD).2.getD x ab) (ss x=ab\/x∈l)))/\(e3 (x∈(ZD).1↔x∈a.1\/(x∈l/\ss x=ai)))/\((ZD).1.length+yH (ZD).2.toList=a.1.length+yH a.2.toList)|[],a=>aQ|j::l,a=>by rw[YM,u_ (atq l (BP a j))];cases U:ss j with|true=>{have e:BP a j=a:=by{delta BP;exact kO};rw[fT]}|false=>have e:BP a j=a7B:=by{delta BP;simp[U]};rw[dC j4 (j<a.2.size)];rw[e]at a3 a9 e2 e5⊢;rw[bZ ag Jb Jb,ID (a9 x),ID (e2 x)];{rw[e5];simp only[ia,Array.toList_setIfInBounds];have:aa a.2.toList ai:=ah;have:=atp this;simp+arith [*]}
structure SInv(a5:lZ)(n:Nat)(first:mb)(P:mb)(i:ao)(seen:PF):Prop where
 size:seen.size=n
 atr:aK i (P x/\x<n)
 base:E j (zw j) (p3 j)
 sound:o j (j<n) (p3 j) (zw j\/P j)
 Ld:o x (x<n) (p3 x) (zw x\/x∈i\/ds (a5 x) (p3 y))
theorem ats{d:fq ao}{n:Nat}{first P:mb}(d1:a9l)(C:F9 (¬zw b)):∀(r:Nat)(i:ao)(seen:PF),fI zw i Nl->i.length+yH seen.toList<=r->fI zw [] (ah' d r i Nl)/\E x (p3 x) (am (ah' d r i Nl) x ab=ab)|0,i,seen,I,h=>by{have:i=[]:=a20 ah;rw[gm];exact⟨I,fun _ h=>h⟩}|r+1,[],seen,I,h=>by{simp only[ah'];simp_all}|r+1,k::J,seen,I,h=>by simp only[ah'];rw[ab e ((Nm k []).foldl (fun(a:bL Nat×fq cb)(j:Nat)=>bcA) (J,Nl)) a9B];rw[e];rw[u_ (atq (Nm k []) (J,Nl))];generalize a9B=z at*;simp only at a3 a9 e2 e5;rw[b2 (I.atr k bK),lX,qH (ats d1 C r z.1 z.2 (by rw[j (t a3 V5) qj (i4 (ae (a9 j) (.inl (ah_ j b8)))) (fun j b8 c0=>?_) (fun x S c0=>?_)];{rcases x (e2 x) S with q|⟨q,g⟩;rw[l (I.atr x ro)];{rw[v (C k x l.2 l.1 q (fun f=>?_)) (d1 k x q)];rw[ah_ x f]at g;rw[rB]}};{rw[al (x (a9 j) c0),l (I.sound j b8 q)];by_cases f:zw j;rw[dQ f,co (C k j l.2 l.1 q f)]};{rw[bC q (a2Z x ab)];{rcases I.Ld x S q with c|c|c;rw[Fh];{rw[el]};simp_all};simp_all}) (bn e5.l h))];simp_all
theorem aRk(l:EJ):yH l<=d_:=AI
theorem aRl{d:fq ao}{n i:Nat}{first:PF}{P:mb}(hi:i<n)(c0:first.size=n)(d1:a9l)(C:F9 (¬aCz b ab=ab))(f:P i)(c:aCz i ab=ai):fI (iQ (aCz j ab=ab)) [] (aia d n i zw)/\am (aia d n i zw) i ab=ab:=by have:=ats d1 C (n+1) [i] (aCy i ab) (by rw[j (ar c0) qj Rk a9f (fun x S h=>?_),az];{rw[Gi c];simp[b8]};{rw[aj (Gi c)];lia-abstractProof};{rw[aj (Gi c),el]}) (by have:yH (py (aCy i ab))<=(aCy i ab).toList.length:=aRk _;rw[el]);rw[v et (this.2 i ?_),L (Gi c) cN]
variable{r:Plan}
theorem Le(r:Plan)(x:Nat):r.nears.getD x []=if x<aJ then ig x else []:=by delta aCA;simp only[V4];split;rw[bak,Pj]
theorem Lf(n x:Nat):am (Dk n) x ab=! cv (x<n):=by delta Dk;simp only[V4];split;rw[bak];simp_all
theorem atu(d1:aIS)(b1:0<aJ){P:mb}(f:P 0)(C:f a b (a<aJ) (P a) amy (P b)):let z:=XM;V6=aJ/\g2 0/\(o j oe (g2 j) (P j))/\o x (x<aJ) (g2 x) a_0:=by rw[tJ,u 0 (Dk aJ) b1 (by rw[Le]at b6;grind) (fun a b b3 u U _=>C a b b3 u (by rw[Le]at U;simpa[b3]using U)) f (mo Lf b1),w I.1.size I.2 a9f (fun x S h y b6=>?_)];{rw[be0];{rw[cQ Lf];simp at q;lia};rw[iy]};{rcases I.1.Ld x S h with q|q|q;{rw[cQ Lf];simp at q;omega};rw[az,l beG]}
theorem atv(d1:aIS){i s:Nat}(hi:gX)(c0:s<aJ)(ne:s≠i){P:mb}(f:P s)(C:∀a b,c (a<aJ) (P a) amy (b≠i) (P b)):let z:=im s ZH;V6=aJ/\g2 s/\(∀j,i oe (j≠i) (g2 j) (P j))/\(e3 (i (x<aJ) (x≠i) (g2 x) a_0))/\g2 i:=by rw[tJ];have k:E x (x<aJ) (am ZH x ab=ar x i):=aJ (by rw[Gi (mo Lf hi),Lf];simp[*]);rw[u s ZH c0 (by rw[Le]at b6;grind-abstractProof) (fun a b b3 u U w=>by have j6:amy:=by{rw[Le]at U;simpa[b3]using U};grind-abstractProof) f ag,j I.1.size I.2 (fun j b8 d h=>?_) (fun x S c h y b6=>?_) (I.1.base i ag)];{rw[be0,az,iy]};{rcases I.1.Ld x S h with q|q|q;rw[az,az,l beG]}
theorem atw{z:PF}{n:Nat}(h:V6=n):bE (z.contains ai) (z j (j<n) (aib j ab=ai)):=by rw[Array.contains_iff_mem,Array.mem_iff_getElem];constructor;{rw[iH i hi];exact v i (bU hi h.l) (bx V4 hi e)};{rw[aoY,cl j4 (j<V6)];exact v j j4 ah}
universe GM
namespace GM
open Gla
structure UF(f:ao)(cnt:Nat)(aP:cC):Prop where
 len:Dl=cnt
 le:BD (l<=x)
 same:aP x l (ald->aP l=kM)
 root:BD (l=x↔kM=x)
variable{f:ao}{cnt:Nat}{aP:cC}
theorem UF.get(d:Fx){x:Nat}(h:IW):z l ald (l<=x):=by rw[z S (x<Dl) qR h];exact av (da S) (Nn x _ (da S))
theorem aRm:UF [0] 1 id:=by rw[bZ rfl ?_ ?_]<;>rw[bZ x l]<;>(cases x<;>rw[lX])<;>subst h<;>simp
theorem atx{l:ao}{x m:Nat}(a5:x<d_)(y k:Nat)(h:ap (V3 x m) y k):(y=x/\k=m)\/(QC/\K l y k):=by rw[b1 y x];{rw[bY,aj (Mu a5)];exact .inl (bd (bt (cZ h)))};rw[gH (U7 (hs e)) (.inr (io e))]
theorem UF.aRn(d:Fx){x l m:Nat}(a5:ald)(c4:K f l m)(ne:l≠x):UF (Np x m) cnt aP:=by have a:=Nn x l a5;have le2:=Nn l m c4;have O:fK (Np x m) (y=x/\k=m) QC:=atx (bx a5);rw[aMe,D6 pM];{rw[Yx];{rw[HJ l k c4,HJ y l a5]};rw[l aKV]};{rw[Yx];{have:=(V7 y l a5);rw[fT]};rw[l aKW]}
theorem UF.found(d:Fx){x:Nat}(h:K f x x):kM=x:=x (V7 x x h) rfl
theorem UF.Lg(d:Fx):∀{x:Nat},IW->kM<=x/\K f kM kM:=by intro x;induction x using Nat.strongRecOn with|ind x d6=>rw[eD];obtain⟨l,a5,le⟩:=aic h;rw[T l x];{rw[e_];rw[V8 a5];trivial};{have:=d6 l (cw le q) aKg;rw[am (HJ x l a5)];lia-abstractProof}
theorem UF.KY(d:Fx){x:Nat}(h:IW):aP kM=kM:=V8 (d.Lg h).2
theorem UF.link(d:Fx){a b:Nat}(b3:a<cnt)(U:b<cnt):UF (Np FA aaf) cnt (sV aP a b):=by have F:=d.Lg b3;have i5:=d.Lg U;rw[mm c (K f FA FA),dd (V8 c)];generalize g:FA=d5 at*;generalize c4:aaf=m at*;have O:fK (Np d5 m) (y=d5/\k=m) (y≠d5):=atx (bx c);have mg:∀x,os x=v kM d5 m kM:=ab (by delta sV;rw[g,c4]);rw[aMe];{rw[Yx,Jl,l aGA]};{rw[mg,mg];rw[Yx];{rw[e,(V8 fk)];simp};{rw[aKV]}};{rw[mg];rw[aMx,aZ];{have J:=aKW;lia-abstractProof}}
theorem UF.new(d:Fx):UF aan (cnt+1) ao6:=by have O:fK aan (y=cnt/\k=cnt) (y<cnt):=by{rw[bZ y k];by_cases q:y<Dl;rw[gH (hx q) (.inr (io (bl qR q)))];{rw[aj (oZ (jZ q))];have:y-Dl=0:=bz;rw[aj this,lX];left;have:=qR;grind}};rw[aMe,D6 a_];{rw[aMx];{rfl};{have:=aGA;rw[aO kl k cnt Rb,i6 q kl];exact aKV}};{rw[aMx];{simp};{rw[aIz];exact aKW}}
variable{r:Plan}
theorem atz{al f:Int}{a b c:gw}(b3:0<cR a)(U:0<cR b)(b0:0<cR c)(a3:cr a b<0)(a9:cr b c<0):cr a c<0:=by have id:=asV al f a b c;have e9:=Dc a3 b0;have f6:=Dc a9 b3;have j:=va a c;rw[pg an3 b];have:0<an3:=by{rw[al (mO 0 an3),l q,i1 (VM q (eW U))]};simp_all
theorem aeb(Z:bq){v a:Nat}(h:JG):0<kd 1 (r.w+1) (d0 a):=by rw[b2 (fZ _ h)];rw[ad2];have:=C_ l.1 l.2;simp_all
theorem aRo(Z:bq){v a b:Nat}(b3:JG)(U:uz)(ne:AF):aox≠0:=by rw[fS];have F:=fZ _ b3;have i5:=fZ _ U;have O:∀{a b:Nat},c JG uz (a<b) (aox=0) cD:=by{intro a b b3 U l q;have F:=fZ _ b3;have o:=K4 (wk F.1 F.2) (wk l (fZ _ U).2) (by rw[yE,va,q];rfl);rw[Z.on _ U a F.2 bz bz]at o;cases o};rw[uZ ne,az,l (O U b3 l (by rw[va,q];rfl))]
theorem aRp(Z:bq){v a b:Nat}(b3:JG)(U:uz)(h:OZ):ba1:=by have Y:=hF;refine aQl Y b3 U rfl ?_;rw[aKJ];{have e2:Rc=a:=by{rw[I9];simp;exact kO};rw[e2];rw[(wg _ b3)];refine(aKz).mpr ?_;show 0<akO;rw[yE,va];simp[*]};{rw[fF Rc b oT];rw[e2];rw[(wg _ U)];refine(aKA).mpr ?_;rw[L yE h]}
noncomputable def SX(r:Plan)(v:Nat)(row:ao)(a:Nat):ao:=let n:=t (V_ Bd);aid n++a::V9 n
noncomputable def aec(r:Plan)(v:Nat)(c:ao):ao:=A7 []
theorem aRq(v:Nat)(row:ao)(a:Nat):eJ aL_ (a::row):=by delta SX;simp only;generalize t (V_ Bd)=n;have:(aid n++a::V9 n).Perm (a::(aid n++V9 n)):=aCB;rwa [Dm]at this
theorem aRr(Z:bq){v a:Nat}{row:ao}(a6:bH row uz)(b3:JG)(b0:a∉row)(dO:aJy):gN aL_ OZ:=by delta SX;simp only;have b4:=zx (p:=Bd) (l:=row);generalize hA:(V_ Bd)=A at*;generalize hB:(aii Bd)=B at*;have t:aid ie=A:=by{rw[<-b4];exact aih};have d:V9 ie=B:=by{rw[<-b4];exact aif};rw[t,d];rw[<-b4,qP]at dO;have g:bH A (cr (d0 b) (d0 a)<0):=by{intro b U;rw[<-hA]at U;have:=Wa (a21 (p:=Bd) (l:=row)) b U;rw[ui,am yE];exact this};have h:bH B OZ:=by{cases e:B with|nil=>{rw[Yi]}|cons c n=>have u:¬eV ed (bp c) ri<0:=by{have:=aie Bd row;rw[bX hB e,gf]};have k5:c∈row:=by{rw[<-b4,e];exact qH _ fu};rw[eS (aRo Z (a6 c k5) b3 (ai (b0 (q▸k5))))];rw[yE]at u;rw[z k9 (cr (d0 a) (d0 c)<0) va (Int.neg_neg_of_pos (Int.lt_iff_le_and_ne.mpr ⟨agJ u,hs f⟩))];intro b U;simp at U;rw[db U U,aZ];{rw[gU dO.2.1];rw[e,oX]at b5;exact atz (aeb Z b3) (k4 c k5) (k4 b bz) k9 (b5.1 b U)}};grind
theorem aed(Z:bq){v:Nat}:∀(c row:ao),c (V b row uz) (V b c uz) (row++c).Nodup (aJy) (eJ (A7 row) (row++c)/\gN (A7 row) OZ)|[],row,_,_,_,s=>EI|a::c,row,a6,c6,nd,s=>by rw[YM];have p:=aRq (r:=r) v row a;rw[dr (aed Z c aL_ (db cq) (db (c6 b ro)) cq (aRr Z a6 (c6 a bK) (ai cq) s))];grind-abstractProof
universe GM
namespace GM
open Gla
variable{r:Plan}
theorem aRs(Z:bq):eR amy (a∈ig b):=fun a b h=>ae (vb Z) (aJc).rv
theorem Lh(Z:bq):aIS:=fun x y h=>(aJc).BF hF
theorem aee(Z:bq):e3 (ds (ig x) (x<aJ)):=fun x y h=>(aJc).yA hF
variable{B:ao}{par:gn}{lo:cC}
theorem aRt(Z:bq)(b1:0<aJ)(T:aCC ig B par){i:Nat}(hi:gX):bE (am XM i ai) (i∈B):=by have s:=atu (r:=r) (Lh Z) b1 (P:=ab nq) T.zero (fun a b _ b3 U=>Nk a b3 b U);rw[PU];generalize XM=z at*;have e:aib i ai=aib i ab:=by{simp[*]};rw[e];constructor;rw[az];{intro c4;have:=T.reach (P:=ab (x<aJ->g2 x)) (au s.2.1) (fun a b _ U b3 _=>s.2.2.2 a (aee Z a b U) (b3 (aee Z a b U)) b U) i c4;exact this hi}
theorem aRu(Z:bq)(a3:1<aJ)(T:aCC ig B par)(W:BO ig B par lo)(all:ia (i∈B))(lt:∀i∈B,gX){i:Nat}(hi:gX):bE (Wb Wc aJ i) bg8:=by delta Wb;have c0:a8W<aJ:=by{(split<;>exact cn tv a3)};have ne:a8W≠i:=by{lia};rw[g4 (ex (au gA) fY (i8 fY)).1];rw[atw e8];rw[d3 o i];{subst o;rw[cN]at c0 ne e8⊢;constructor;{rw[aoY];refine .inl (bd aHw);obtain⟨c,D,_⟩:=aCx aoy eO;rw[bdO,PU];generalize mq 1 0=z at*;have:=T.aRj (fun d d3=>qF (ai (f6 (a d c d3 D q)))) aoy eO (Q:=ab (g2 x)) s.2.1 bia j (all j b8) Qf;rw[amA,dS]};{rintro(⟨_,c,d,D,d3,R⟩|⟨q,_⟩);{rw[bH l t (aCx aoy eO)];obtain⟨g,pg,k⟩:z g (dK g 0) (f≠g):=bz;have s:=ex (ab (nq/\x≠0/\a1 f x)) (v aoy eO t) (fun a b _ u U n=>v (Nk a u.1 b U) n (T.aRi l a b u.1 U u.2.1 n u.2.2));rw[PU,lw pg,ak g (lt g m.1)];cases e:am (mq 1 0) g ab with|false=>{rfl}|true=>rw[dQ (s.2.2.1 g (lt g m.1) Ai e).2.2 (T.other l pg k)]};rw[cX]}};{rw[bj o]at c0 ne e8⊢;constructor;{rw[aoY];refine eW o aHw;rw[bdO,PU];generalize im 0 ZH=z at*;have:=T.aRh W o (fun c D=>ah) (Q:=ab (g2 x)) s.2.1 bia j (all j b8) Qf;rw[amA,dS]};{rintro(⟨q,_⟩|⟨_,c,D,h⟩);rw[cX];{have s:=ex (ab (nq/\x≠i/\¬a1 c x)) (v T.zero (ai (o zu)) (T.ato D)) (fun a b _ u U p=>v (Nk a u.1 b U) p (T.aRg W D h o a b u.1 U u.2.1 p u.2.2));rw[PU,lw D,ak c (lt c m.1)];cases e:am (im 0 ZH) c ab with|false=>{rfl}|true=>refine cy .refl (s.2.2.1 c (lt c m.1) akN e).2.2;simp_all}}}
theorem atA(Z:bq)(n:YU)(a3:1<aJ)(d:alP)(l2:ia (am XM i ai=ab))(m:ia (Wb Wc aJ i=ai)):jX:=by rw[aP Z n (fun P f e9 v d3=>?_) (fun v d3 P s c0 a0 c5 e9 x S f3=>?_)];{have s:=atu (r:=r) (Lh Z) ej (P:=P) f (fun a b _ u U=>e9 a b (x (vb Z) U) u);rw[PU];have g:v<aJ:=d3;simp_all};{have g:=d3;let b:=ct v 1 0;have a5:b≠v:=by{rw[a87]};have k:=m v g;unfold cuts at k;have reach:∀{Q:mb},Q b->(∀a c,c (dP (a,c)) (a≠v) (c≠v) (Q a) (Q c))->o y (y<aJ) (y≠v) (Q y):=by{intro Q l X y b6 i2;have f9:=atv (r:=r) (Lh Z) g cq a5 (P:=fw (a≠v/\Q a)) ⟨a5,l⟩ (fun a c _ u b0 e=>⟨e,X a c (x (vb Z) b0) u.1 e u.2⟩);simp only at f9;have all:¬(z j oe (am (mq b v) j ab=ai)):=by{rw[<-atw f9.1];simp only[b];rw[k];simp};simp_all};exact reach (bv (reach (Q:=e7 (P y->P b)) (c8 h) (fun a c k9 t e d6 D=>d6 (e9 c a k9.rv e t D)) s c0 a0) (this c5)) e9 x S f3};{cases d1:ig 0 with|nil=>{grind-abstractProof}|cons y J=>rw[cl o (y∈ig 0)];have H:=x (vb Z) o;rw[Kf,l (bp (0,y) H)];{have:=fZ _ H;rw[hA rv]}}
universe GM
namespace GM
open Gla
variable{r:Plan}
structure Ord(r:Plan):Prop where
 dO:a2G (nQ xG)
 wide:cz dd Qv
 BJ:a'G
 lt:a'a
 ls:r.lines.Pairwise (fs aob)
theorem iF{p q:Pt}:bhN:=ar ic
theorem mv(p:Pt):¬oY p=ab:=nN iF
theorem vd{p q J:Pt}(h:xG)(g:M_ J=ab):oY J=ab:=by rw[iF]at*;exact FO h g
theorem SY{p q:Pt}(h:p≠q):oY q=ab\/M_ p=ab:=by rw[iF,iF];rw[N y p.y q.y];{have:p.x≠q.x:=ab (h (by cases p;rw[kG];simp_all));rw[jY]};{rw[jY]}
theorem BQ{a b:Ln}:bE (kA a b) (a.1<b.1\/(a.1=b.1/\a.2<b.2)):=ar kA
theorem Ord.nd(Y:dz):a2F:=Y.ls.imp (ws (by rw[bY,aj BQ];simp_all))
theorem Ord.below(Y:dz){i j:Nat}(h:i<j)(b8:oe):qD (bp j):=D0 (Na Y.dO i j (b7 h b8) b8 h)
theorem Ord.inj(Y:dz){i j:Nat}(hi:gX)(b8:oe)(h:eG=bp j):i=j:=by rw[aMA,G2 b8,l l,G2 hi]
theorem Ord.lt_iff(Y:dz){i j:Nat}(hi:gX)(b8:oe):bE ((eG).below (bp j)) (i<j):=by constructor;{rw[eD,aMA,l l];{subst l;exact cy h (mv _)};rw[cE (vd h (zy l hi)) (mv _)]};{rw[eD];exact zy h b8}
theorem Ord.mu(Y:dz){i j:Nat}(h:i<j)(b8:oe):aKN:=GM.mu (ol EG) (zy h b8)
noncomputable def hX(p q J:Pt):cb:=oY J&&(J.below q&&cv (i5 J=0))
theorem Gj{p q J:Pt}(h:xG):bE (hX p q J) (q5 J/\J≠p/\J≠q):=by revert h;revert p q J;refine ap1;rw[co p q J,eD];delta hX;simp only[hZ,iS];constructor;{rw[aK',aa (K4 a3 a9 e2) YZ YZ,sN (mv _ a3),sN (mv _ a9)]};{rw[aK'];delta wj at a3;simp only[hZ,aCE,Nc,iS]at a3;obtain⟨u,⟨e7,f5⟩,i8,d6⟩:=a3;rw[aj iF];have r:p.y<=q.y:=by{lia};rw[qO r]at i8;rw[Hw r]at d6;have d:∀{a b:Pt},AF->a.y=b.y->a.x≠b.x:=fun{a b}ne b6 S=>ne (by cases a;cases b;simp_all);delta eV dx dy at u;rw[bL eq (D7 J.x) (fv J.y p.y),bL c (bm J.x q.x*bm q.y p.y) (fv J.y q.y),gQ f p.y (by rw[ae z (bm J.y p.y) 0,b2 aCD eq];rcases aij eq with w|w;rw[l ((d a9) a bM),dV]),gQ g q.y (by rw[ae z (bm J.y q.y) 0,b2 aCD c];rcases aij c with w|w;rw[l ((d e2) a bM)];{lia}),cp ?_ u];{rw[iF];grind};{rw[iF];grind}}
theorem aRv{p q J s:Pt}{k:Pt->Int}(f:Ha (k z))(h:aL7=ab)(a3:k p<k q)(a9:k J<k s):k p<k s:=by refine aHv;rw[ak b c3 f,a4 zt,yx h,y_ h];have id:i5 s*k J-i5 J*k s=aIa*k q-aIb*k p:=by{rw[c3,c3,c3,c3];rw[ub];grind-abstractProof};have sm:i5 s-i5 J=aIa-aIb:=by{rw[ub];grind-abstractProof};generalize i5 s=A at*;generalize i5 J=B at*;generalize aIa=C at*;generalize aIb=D at*;generalize k p=kp at*;generalize k q=c at*;generalize k J=e at*;generalize k s=K at*;have b4:(A-B)*K-A*(K-e)=(C-D)*kp+C*(c-kp):=by{lia-abstractProof};rw[sm]at b4;have b9:aLB+C*(c-kp)+A*(K-e)=0:=by{lia-abstractProof};rw[bs A b3 b3 b3];{have U:0<B:=by{rw[al (mO 0 B),iy,i1 (aik q (eW b3))]};have W:aLB<=0:=VM (Gt sm.n) ah;have d8:C*(c-kp)<0:=Dc (by rw[al (mO C 0),l q];{rw[b3 d (0<D) (aI4 sm.n q U b3)];have:=sY q (eW d);grind-abstractProof}) ag;have j:A*(K-e)<0:=Dc b3 ag;exact aG4 W b9.n j d8};rw[az];{have U:B<0:=by{rw[al (mO B 0),iy,km (sY q (eW b3))]};have W:0<=aLB:=sY (Gt sm.m) (x (rT (aMt n)));have d8:0<C*(c-kp):=hD (by rw[al (mO 0 C),l q];{rw[b3 d (D<0) (aI4 sm.m q U b3)];have:=aik q (eW d);lia-abstractProof}) ag;have j:0<A*(K-e):=hD b3 ag;exact aG4 b9.m j d8 W}
theorem aRw(r:Plan):Ha tM:=v (r.w+1) 1 (J (i0 ky))
noncomputable def Li(r:Plan)(l m:Ln):cb:=(pw).below (bp m.2)&&aL8
theorem S0(Y:dz){l m:Ln}(a5:l∈bX)(c4:m∈bX):Li r l m=aL8:=by delta Li;cases h:aL8 with|false=>{simp}|true=>have X:=Rf;have G:=eb m c4;have:=aRv (aRw r) h (Y.mu X.1 X.2) (Y.mu G.1 G.2);simp[(x (aQL (ol aoX) (ol G.2)) this)]
theorem atB(Y:dz){l:Ln}(a5:l∈bX):bE ((eJ aJ).any (cj (k !=l.1&&(k !=l.2&&wj pw rj (bp k))))) (∃p∈dd,hX pw rj p=ab):=by have X:=Rf;rw[cb (zy X.1 X.2)];rw[te];constructor;{rw[ho k c3];simp at c3 h;rw[aa (bp k) (yC c3) (ae (Gj b) (v h.2.2 (an (h.1 (Wd c3 aoX e))) (an (h.2.1 (Wd c3 X.2 e)))))]};{rw[ho p c2,aO k c3 (ib c2),bgK];have:=x (Gj b) h;rw[ak k (ar c3),xj]}
noncomputable def Gk(r:Plan)(i:Nat)(l:Ln):cb:=oW (dd (We l.2) (l.1+1)) (aCF i)
theorem S1(Y:dz){i:Nat}{l:Ln}(a5:l∈bX):Gk r i l=alh:=by have X:=Rf;delta Gk Dq;rw[dW];{rw[iN,atB Y a5,te];constructor;rw[cK];{rw[ho p c2,cp p h];have⟨k,c3,e⟩:=ib c2;rw[bgK,a4 hX,nw hZ];rw[<-d3]at h;have c0:=x (Y.lt_iff aoX c3) h.1;have f7:=x (Y.lt_iff c3 X.2) h.2.1;rw[a22];exact⟨k-(l.1+1),by rw[Dn,m (l.1+1+(k-(l.1+1))) k k (l.fst+1) c0 k (l.fst+1),sS f7,da c3,e]⟩}};{rw[iN,te,te];constructor;{rw[aoZ];exact v m c4 (bl (S0 Y a5 (qS c4)) h)};{rw[aoZ];exact ap m c4 (S0 Y a5 (qS c4)) h}}
noncomputable def aef(B r:Plan)(i:Nat)(l:Ln):cb:=oW (a23 (bn (! a24 p))) (DU (aCG aJh))
theorem aeg{B:Plan}{p q:Pt}:(p,q)∈tf↔fq Wf (B.pt e.1=p/\B.pt e.2=q):=i0 Nq
theorem aRx{B:Plan}(k5:Lay B)(Y:dz){i:Nat}{l:Ln}(a5:l∈bX)(U:(pw,rj)∈tf)(hi:∀m∈aCF i,m≠l):aef B r i l=alh:=by have X:=Rf;obtain⟨e,a0,b4,b9⟩:=aeg.mp U;have le:=k5.lt e a0;delta aef Dq;rw[dW];{rw[iN,atB Y a5,te];constructor;rw[dV];{rw[ho p c2,aa p (U2 (as c2)) h];cases q:a24 p with|false=>{rfl}|true=>exfalso;obtain⟨k,c3,c1⟩:=BL k5 q;have:=x (Gj (zy X.1 X.2)) h;rw[<-b4,<-b9,<-c1]at this;rw[am (k5.on e a0 k c3 (J ((fj).1 (iG z))) (J ((fj).2 (iG z))))];cases et}};{rw[iN,te,te];constructor;{rw[aoZ];have Z:=fb c4;exact v m Z (bl (S0 Y a5 (qS Z)) h)};{rw[aoZ];have g8:=qS c4;rw[aa m (U2 (as c4)) (t (S0 Y a5 g8) h)];cases q:aCG aJh with|false=>{rfl}|true=>exfalso;obtain⟨f,W,g4,h3⟩:=aeg.mp (Nr q);rw[<-b4,<-b9,<-g4,<-h3]at h;rw[aj (k5.nc e a0 f W (J (by rw[rq];have G:=eb m g8;have g9:=Wd (b7 G.1 G.2) aoX (g4.symm.trans b4);have e1:=Wd G.2 X.2 (h3.symm.trans b9);grind))),cG]}}
universe GM
namespace GM
open Gla
variable{r:Plan}
theorem aRy{I:Type}{p:am1}:∀{l:ba}{k:Nat},(E i (beV=aa i) (k<=i/\(z x (K l (i-k) x) (p i x=ab))/\l j x (j<i-k) El a_q))/\(beV=ae->zD a_q)|[],k=>aQ|a::l,k=>by rw[kx (zj (k+1))];simp only[a25];rw[bC q (p k a),aZ];{rw[List.find?_cons_of_neg (x q)];rw[v (fun i h=>?_) (fun h=>?_)];{obtain⟨a7,⟨x,S,b⟩,d5⟩:=a3 i h;rw[aa ej (v x ?_ b) (fun j y b8 b6=>?_),Z (aS (i-k) ((i-(k+1))+1) (L i k a7 i (k+1)) (L i (k+1) a7 i k)) S];{cases j with|zero=>{rw[a4 b6 (Wg q)]}|succ j=>have:=d5 j y (br b8 (aC i k a7) (aS i (k+1))) bB;rw[bfe];exact this}};{intro j y b6;cases j with|zero=>{rw[a4 b6 (Wg q)]}|succ j=>rw[L bfe (a9 h j y b6)]}}
theorem S2{I:Type}{p:am1}{l:ba}:QR=ae↔zD (p j x=ai):=by have g:=zj 0;constructor;{intro h j x S;have:=g.2 h j x S;simp_all};{rw[eD];cases e:QR with|none=>{rfl}|some i=>obtain⟨_,⟨x,S,b⟩,_⟩:=g.1 i e;simp_all}
theorem aRz{I:Type}{p:am1}{l:ba}{i:Nat}:QR=aa i↔bcG:=by have a:E i (QR=aa i) bcG:=fun i h=>by{have⟨_,⟨x,S,b⟩,d5⟩:=(zj 0).1 i h;simp_all};constructor;rw[az];{rintro⟨⟨x,S,b⟩,a9⟩;cases e:QR with|none=>{rw[S2.mp e i x S]at b;cases b}|some j=>have⟨⟨y,b6,r⟩,e2⟩:=a j e;grind-abstractProof}
theorem aeh{I:Type}{p q:am1}{l:ba}(h:bk j x (El->p j x=q j x)):QR=HK q l:=by cases e:HK q l with|none=>{rw[S2]at e⊢;(intros;simp[*])}|some i=>rw[aRz]at e⊢;obtain⟨⟨x,a,b⟩,c⟩:=e;exact⟨v x a (J (h i x a) b),fun j x k a=>J (h j x a) (c j x k a)⟩
theorem S3{I:Type}{ok:AU}{k:ya}{l:ba}:tg ok k l=ae↔bk l (ok x=ab)/\F7 (k x y=ab):=by delta tg;rw[S2];constructor;{rw[eD,v qj (fun j x y S b6=>?_)];{rw[h1 S];have:=h i x ag;lia};rw[nI (h (j+1) y b6)]};grind-abstractProof
theorem S4{I:Type}{R:au I I}(o:∀a b c,R a b->R b c->R a c):k1 (F7 (R x y)) (oV R)|[],_=> .nil|[a],_=>aQ|a::b::l,h=>by have d6:=S4 o (l:=b::l) (fun j x y S b6=>h (j+1) x y bB bB);have u:=h 0 a b (x a2z) bI;refine aCH ⟨qj,d6⟩;rw[PR,db S S,aZ,l (o _ _ _ u ((VT d6).1 x S))]
theorem aei(e5:Rz=ae)(f:RD=ae):dz:=by rw[S3]at e5 f;rw[j (S4 (R:=bdL) aF_ e5.2) ua ua nO (S4 (R:=fun(a b:Ln)=>aob) (fun a b c h g=>?_) f.2),az,az,cK];{rw[BQ]at*;exact FO h g}
theorem aej(Y:dz)(b:aHT=ae):bq:=by rw[S2]at b;rw[j Y.dO aCJ Y.BJ eb (aJ Y.nd (fun e a0 k c3 c0 f7=>?_))];{rw[ci i hi (ib a0)];have:=b i e ag;unfold touches at this;rw[pr aCI];simp_all};{have a:∀p q J s:Pt,aL7=zt J s p q:=fun p q J s=>by{delta zt;rw[Bool.and_comm]};intro e a0 f W ne;rw[ci i hi (ib a0),gA C (ib W)];have O:∀{i j:Nat}{e f:Ln},i (i<j) (A bX e) (aa bX f) (zt amb amc eE eF=ai):=by{intro i j e f l a0 W;have:=b j f W;unfold touches at this;rw[pr aCI];simpa using(List.any_eq_false.mp fj e (sn ag))};rw[cl M (aa bX f)];grind-abstractProof}
noncomputable def S5(r:Plan)(row:ao)(a b:Pt):cb:=cv (row.head?.map bp=aa a)&&(cv (row.getLast?.map bp=aa b)&&(row.zip (V9 1)).all (ch (a26 l)))
noncomputable def Lj(r:Plan):cb:=S5 r (HG r (ga 0)) jO (jG r.w)&&(S5 r (HG r (gb 0)) jO (hm r.h)&&(ot amS (jG r.w)&&ot Y9 (hm r.h)))
theorem aRA{l:ao}(s:Jr):ahY r l=(ahV (oJ 1)).all (ch (a26 l)):=by delta ahY;rw[iN,Hn,Hn];constructor<;>intro h e a0<;>rw[iS (Gf s a0)]<;>have:=ZK;{rw[a7R];grind-abstractProof};{delta Plan.joined;grind-abstractProof}
theorem atD(Y:dz){p:Pt}:bE (HH p) be7:=by rw[Wh];constructor;{rw[eD,h1 h];exact bec};{rw[iH i hi,xE];exact yC hi}
theorem Ord.Lb(Y:dz){i j:Nat}(hi:gX)(h:bbg):i<=j:=Iw (zy g hi)
theorem atE(Y:dz):Lj r=VU r:=by have S:=vr (ol hi);rw[a8 head (¬(eG).below c=ab) a_P least (La (SO on) a90 (E0 al)),a8 last (¬c.below eG=ab) a_Q f (ad6 (SO on) a90 (E0 m.1)),dl d a_P (m9 OS) (ah7 eO),dl b a_Q (OS).getLast? (a2Y e)];rw[iN];delta Lj VU S5;simp only[hZ,iS];rw[amd,amd,amd,amd];constructor;{rintro⟨⟨e0,g0,d0⟩,⟨h2,e2,i8⟩,⟨e5,e6,c1⟩,c5,c7,a9⟩;exact a (go e0) (b _ _ g0) (b _ _ e2) (b _ _ e6) d0 a9 i8 c1};{rintro⟨g4,h3,h6,f4,d0,a9,i8,c1⟩;rw[o (o5 h3 d0) (o5 h6 i8) (v (l9 P8 h3) (Dj _ _ P8 ?_ f4) c1) (l9 P8 h6) (Dj _ _ P8 ?_ f4) a9]<;>intro i hi on<;>have:=S hi<;>have:=(vr (Y.BJ _ (yC hi))) hi<;>simp at on<;>rw[iF]<;>simp<;>rw[Zu]}
universe GM
namespace GM
open Gla
variable{r:Plan}
noncomputable def Lk(r:Plan)(z:Pt)(e:Ln):Int:=j_
noncomputable def yI(r:Plan)(z:Pt)(row:Row):Row:=V_ aHb
noncomputable def Gm(r:Plan)(z:Pt)(row:Row):Row:=aii aHb
noncomputable def ve(r:Plan)(z:Pt)(row:Row):Row:=(An).takeWhile (ab Q0)
noncomputable def BR(r:Plan)(z:Pt)(row:Row):Row:=w3 (ab Q0)
noncomputable def BS(r:Plan)(v:Nat):ao:=cM (iU (an (e.1==v)))
noncomputable def begun(r:Plan)(v:Nat):cH:=B aLf (fw Ov)
noncomputable def atG(r:Plan)(v:Nat)(s:Sw):Sw:=let A:=aIL;let E:=aIo;let B:=aKp;let N:=Zb;let l:=hh;let J:=di l E;let d5:=iE N ec J;d (hI d5) (ec+(iP-1)) (pp l J) (oR l d5)
theorem Ll(r:Plan)(z:Pt)(row:Row):row=hw row++(ve r z row++aIq):=by delta yI ve BR Gm;rw[zx,zx]
theorem takeWhile_all{I:Type}{p:AU}{l:ba}{x:I}(h:x∈aCK p):p x=ab:=Wa a21 x h
theorem aRB{P:au Ln Ln}{z:Pt}{row:Row}(h:B0 (bH row)):V e (bH (hw row)) (fL e<0)/\V e (bH (ve r z row)) (fL e=0)/\V e (bH aIq) (0<fL e):=by have inR:h0 An (¬fL e<0):=by{have b4:=w2 row;cases hB:An with|nil=>{rw[aab];cases a0}|cons c J=>have u:¬fL c.1<0:=by{have:=aie ala row;delta Gm at hB;simp_all};have a:aii ala=c::J:=hB;rw[a]at b4;rw[<-b4,hq]at h;have a9:=aV (a27 h);rw[jp oX a9];intro e a0 q;rw[jp hC a0,db a0 a0,cX];grind-abstractProof};rw[ak nO nO,bf2,bf2];{rw[gt (zx (p:=oM Q0) (l:=An))];cases hB:aIq with|nil=>{rw[aab];cases a0}|cons c J=>have k5:c.1∈bH An:=by{rw[<-b9];have:w3 (oM Q0)=c::J:=hB;rw[this,hq];exact qH _ zX};have u:0<fL c.1:=by{have:=aie (oM Q0) An;delta BR at hB;grind-abstractProof};have a:w3 (oM Q0)=c::J:=hB;have a9:B0 (bH (c::J)):=by{rw[<-(w2 row),hq]at h;have e2:=aV (a27 h);rw[ab e7 (aii ala) An];rw[e7,<-b9,a,hq]at e2;grind-abstractProof};rw[jp oX a9,aab,jp hC a0,db a0 a0,aZ];simp[*]}
theorem atH(Z:bq){t:Nat}{s:Sw}(I:Inv iq t s){z:Pt}(h:dc tK aK5):B0 tK:=by refine vD M4;rw[vc l,cy (x ir a0),a_L];have b1:dy z<=hC z:=(l.le hF a.1 b.1 (z:=tM) (by delta iD;rw[al (M1 e.1 f.1),Z (Hw q) (h f W).1,Z (Vz q) (ZK).1]) (by delta oT;rw[al (M1 e.2 f.2),Z (qO q) (ZK).2,Z (CX q) (h f W).2]));have a4:=qQ a.1 z;rw[gU (qQ b.1 z)];delta Lk;constructor;rw[cK];grind-abstractProof
theorem aek(Z:bq)(v:Nat):(eK Zb iz e.1)/\eM Zb (mn iq):=by rw[cg c6 (bH I0 uz) (by delta BS at U;rw[hW U];simp_all)];have s:=qA c6 (ax (by delta BS;rw[JV,hY (VS _),re q];grind-abstractProof));have a4:eJ aLf I0:=s.1;rw[dI YZ];{delta Nt;rw[fJ];constructor;rw[cK];{rintro⟨a0,a3⟩;rw[aa e.2 (a4.mem_iff.mpr ?_) cq];delta BS;rw[xj]}};{delta Nt;rw[Nf];rw[hY s.2];rintro a b⟨b3,U,h⟩;exact aRp Z (c6 a (a28 b3)) (c6 b (a28 U)) h}
noncomputable def S6(Z:bq){v:Nat}(d3:v<aJ){s:Sw}(I:Inv iq v s):aCb iq v s (atG r v s):=by have Y:=hF;rw[cM tK ((gK).k e.1<=cf ed/\cf ed<=(gK).k e.2) beK (Gz l.2),cl (zk e8)];have parts:=Ll r ed oU;have f:E e amw iz:=fun e a0=>p5 ir;rw[ak g (bH aIL) amw (by rw[lC,hq];simp[a0]),ak i (bH aIo) amw (By lC),ak h (bH aKp) amw (By lC)];have d:=aek Z v;rw[b aIL aIo aKp Zb lC nO nO nO (f d.1 d.2 rfl xB),l ((qQ (f e (g e a0)) ed).1.mpr (c.1 e a0))];{rw[bJ (x ir (i e a0)),aoQ];have z:=c.2.1 e a0;rw[al (qN m.2.2)];{exfalso;have:=Y.on e m.1 v Ai q;apply this;have O:=qQ m.1 ed;show dy ed=ku ed;unfold Lk at z;rw[z]at O;rw[cy O.1,cb O.2];simp at a b;exact a2p (rT b) (rT a)};rw[l zu]};rw[l ((qQ (f e ZK) ed).2.mpr (c.2.2 e a0))]
noncomputable def BU(r:Plan):df Sw|0=>aLI|t+1=>atG r t (BU r t)
theorem qz(Z:bq):E t (t<=aJ) (Inv iq t (BU r t))|0,_=>ass _|t+1,h=>asr hF (show t<(gK).n from h) (qz Z t ej) (S6 Z h (qz Z t ej))
noncomputable def runOf(Z:bq):n_:=aP (BU r) (fm (S6 Z c6 (qz Z t (ew c6))))
theorem aRC(Z:bq){v:Nat}(d3:v<aJ):t a8v=w8 (e.2==v):=by rw[eM a__];have e:t (bH (S6 Z d3 I).E)=t a8v:=by{delta bH;rw[bA];rfl};exact a2d (w4 ((S6 Z d3 I).asw hF I))
theorem aRD(Z:bq){t:Nat}{z:Pt}(b3:Qw)(T:oh)(h:P_):Cut r (BU r t) z (hw iZ) alw:=by have I:=anC;rw[cl (zk (f3 (by rw[jw ir];exact⟨bbA,bbz⟩))),bfz,aa ?_ c.1 nO,Z f5 (Ll r z _)];{rw[f5,hq,hy]at a0;rcases a0 with a0|a0;{exfalso;rw[bJ (x ir (By (Ll r z iZ)))];exact aQ4 Z T h m.1 Ai m.2.2 (c.2.1 e a0)};rw[l (c.2.2 e a0)]}
theorem aRE(Z:bq){t:Nat}{z:Pt}(b3:Qw)(T:oh):(z x (m9 alw=aa x) (XF=0))↔HE r z=ab:=by have I:=anC;have Y:=hF;constructor;{rintro⟨x,S,b1⟩;rw[bJ (x (aCL x.1) (aBV (bp x (by have:x∈alw:=ah7 bB;rw[<-w2 iZ];exact ahT (.inr this)))))];have:=K4 (mR _ Ai) (mQ _ m.2.2 (eb _ m.1).2) b1;delta HE;rw[L te (v x.1 m.1 this)]};{rw[eD,anv];unfold onLines at h;rw[aj te,gr o h,b2 x_];have k0:ia (z≠eG):=fun i hi q=>by{rw[d4 i t,cZ (mR i g) q (mv _ this),cZ (mQ i g hi) q (mv _ this)]};have d:=ae (Gj aIA) (v o (k0 e.1 ZQ) (k0 e.2 l.2));unfold hX at d;rw[yx d];have a3:e.1<t:=by{rw[d4 e.1 t,AR,l (cy (vd d.1 (mQ _ g ZQ)) (mv _))]};have a9:t<=e.2:=by{rw[d4 e.2 t,cE (vd d.2.1 (mR _ g)) (mv _),l g]};have D:=ae ir (v a0 a3 a9);rw[cM (bH iZ) aK5 (CY fk) (CV l.2)];have c:=zk e8;rw[Ll r z iZ,hq,hq,hy,hy]at D;have O:fL e=0:=d.2.2;rcases D with D|D|D;rw[cK];{apply f6;rw[bfz];cases hE:ve r z iZ with|nil=>{rw[zA hE]}|cons x J=>rw[aa x ag (c.2.1 x.1 (t hE zX))]};grind-abstractProof}
universe GM
namespace GM
open Gla
variable{r:Plan}
noncomputable def Gn(r:Plan)(z:Pt):Nat:=t (a29 Qd)
theorem aRF(Y:dz){z:Pt}(h:z∉dd):aCN r Ae z:=by have b4:=zx (p:=mK (oY z)) (l:=dd);have le:Ae<=aJ:=by{delta Gn;grind};rw[aa le an5 (fun i a3 a9=>?_)];{rw[si aJX];have:dd[i]∈a29 Qd:=by{delta Gn at hi;exact sn (by rw[<-hx (l₂:=aCM Qd) hi,b4];exact pF)};exact a2_ (p:=mK (oY z)) this};{rw[si a9];have m:dd[i]∈aCM Qd:=by{delta Gn at a3;grind};cases hd:aCM Qd with|nil=>{simp_all}|cons c J=>have a:VN c=ab:=by{rw[al (SY (p:=c) (q:=z) (ai (h (q▸(bz))))),cE q (xz (aie (mK (oY z)) dd)),iy]};have dO:=Y.dO;rw[<-b4,hd,qP,oX]at dO;rw[hd]at m;simp at m;rw[al m,l IK,l (vd a (dO.2.1.1 _ q))]}
noncomputable def BV(r:Plan)(z:Pt):iY:=let row:=Pc;Z (HH z) ae bg9
noncomputable def S7(r:Plan):cC:=(AS).aP
noncomputable def vf(r:Plan)(z:Pt):iY:=B Fv (S7 r)
theorem atJ(Z:bq)(Y:dz)(d:AY){z:Pt}(b3:Qw):Fv=ae↔HE r z=ab:=by delta BV;simp only;rw[bC c (HH z)];{rw[aK c];rw[v (fun _=>?_) gW,aO i hi (BL Z c)];cases d1:ig i with|nil=>{simp_all}|cons y J=>rw[Hx (vb Z),fL a (q5 p) (by delta wj Nc;have:i5 p=0:=by{rw[ub];grind-abstractProof};rw[tR];exact v ⟨aow,Wi _ _⟩ aow (Wi _ _)),fL b (q5 q) (by delta wj Nc;have:i5 q=0:=by{rw[ub];simp};rw[tR];exact v ⟨alI,HC _ _⟩ alI (HC _ _))];delta HE;rw[te];rw[Kf,cv (i,y) H ag,cv (y,i) H ag]};{rw[aO c];rw[<-aRE Z b3 bcf];(split<;>simp[*])}
theorem aRG(Z:bq)(Y:dz)(d:AY){z:Pt}(h:Fo):∃(A B:Row),aCN r Ae z/\vY (BU r Ae)/\Fv=aa hh:=by have h':=h;unfold clear at h';simp at h';rw[eS (a2 h'),bL b3 z.x r.w (ew h'.2.1)];have b:Fv≠ae:=ai (by rw[x (atJ Z Y d b3) q]at f;cases f);delta BV at b⊢;simp only at b⊢;rw[bC c (HH z),az];{rw[bj c]at b⊢;have T:=bcf;rw[K _ T (aRD Z b3 T f) ?_,Pj]}
theorem S8(N:jX)(Y:dz)(d:AY){z:Pt}(h:Fo):I g (dP g) a_g (vf r z=aa ((OJ).lb g)/\(OJ).lb g≠0):=by obtain⟨A,B,T,C,e⟩:=aRG iT Y d h;have a:vY ((OJ).st Ae):=C;obtain⟨g,G,O⟩:=asQ Nh (Nu iT) ah2 (atm iT T a);have i5:(OJ).lb g=(aaa).aP hh:=by{show(aaa).aP (sd (aaa).side g)=_;have b:sd (aaa).side g=hh:=O;rw[b]};rw[j g G (N.among T h a G i5) ?_ ?_];{delta vf;rw[e,i5];rfl};rw[Z i5 (HP a)]
theorem aRH(N:jX)(Y:dz)(d:AY){y z:Pt}(b6:De r y=ab)(c9:Fo):Nv tc y=Nv tc z↔vf r y=vf r z:=by obtain⟨g,G,o,d8,_⟩:=S8 N Y d b6;obtain⟨h,H,a,c7,_⟩:=S8 N Y d c9;rw[o,a,d8,c7];constructor;{rw[fS];rw[x bcd (cZ q)]};{rw[fS];rw[ae bcd (cZ q)]}
noncomputable def yJ:i Nat I1 I1 iY|_,_,[]=>ae|i,c,x::J=>Z (c.contains x) xm (yJ (i+1) (x::c) J)
theorem ael(N:jX)(Y:dz)(d:AY):∀(d8:pU)(i:Nat)(hd:pU),yU d8->yU hd->wy r tc i (ail aHe) d8=yJ i (ail (bo tN)) (HL (bo tN))|[],i,hd,_,_=>rfl|m::d8,i,hd,h,g=>by simp only[wy,yJ,c_];have k5:=h m bK;have e:(ail aHe).contains (Nv tc eL)=(ail (bo tN)).contains tN:=by{rw[iN,Wh,Wh,fJ,fJ];constructor;rw[Ih (x bgp e),Ih (ae bgp e)]};rw[e];split;{rfl};{have:=ael N Y d d8 (i+1) (m::hd) anN (aJ cq);trivial}
theorem aRI(N:jX){f:ao}(d:UF f AZ (S7 r)):Ni+1=t (dy Dl a_J):=by rw[cl (N.count (Nu iT)),eM (qz iT aJ a_),ab f5 aaa (BU r aJ)];rw[f5]at c;rw[c,qR];have b4:(dy AZ a_J)=dy AZ (ab (ar ((AS).aP x) x)):=by{refine Wj qj;rw[ca G (x<AZ)];obtain⟨l,a5,_⟩:=aic G;rw[a5,iN];simp;exact(V7 x l a5)};rw[b4];rw[DI ((AS).aP 0)];obtain⟨k,c3⟩:∃k,AZ=k+1:=⟨AZ-1,bv VC (mP (cU (aS AZ 1)) (cU (aC AZ 1 this)))⟩;rw[c3,ahg];simp only[aCP,c0,decide_true,mJ,ne_eq,not_true_eq_false,and_false,aCO];simp only[ia];rw[dW,ux,dW];refine Wj qj;simp only[fJ]at S;rw[it y S];simp
theorem aRJ(N:jX)(Y:dz)(d:AY){z:Pt}(h:Fo){i j:Nat}(b:dP (i,j)):bE (match Nv tc z with|some l=>follows l i j|none=>ai) (vf r z=aa ((OJ).lb (i,j))):=by have⟨g,G,o,d8,_⟩:=S8 N Y d h;rw[o,d8];simp only;rw[N.follows (Nu iT) G b];rw[xi]
universe GM
namespace GM
open Gla
theorem S9{I:Type}{R:au I I}(j:F5 (a=b)):∀{l m:ba},i (Wk m) (oV R) a7S (l=m)|[],m,p,_,_=>ah|a::l,[],p,_,_=>ah|a::l,b::m,p,sl,sm=>by have f:=VT sl;rw[cl (VT sm)];have e:a=b:=by{have a8:a∈b::m:=aim bK;have h7:b∈a::l:=p.mem_iff.mpr bK;grind-abstractProof};rw[bY];rw[S9 j (List.Perm.cons_inv p) f.2 c.2]
theorem aRK{I:Type}{R:au I I}(Y:F5 cD){l m:ba}(h:gR l m)(sl:oV R)(sm:a7S):l=m:=by rw[cl (fun a q=>Y a a q q)];exact S9 (fun a b p q=>iT (Y a b p q)) (ae (Hx (qU aGJ sl) (qU ah sm)) h) sl sm
theorem aem{I:Type}(k:ya)(x:I):qu (eJ (putIn k x l) (x::l))|[]=>ame|y::J=>by unfold putIn;split;{rfl};rw[l (J ((aem k x J).cons y) (.swap x y J))]
theorem yK{I:Type}(k:ya):qu (eJ (iV k l) l)|[]=>ame|x::l=>x (J (aem k x _) ((yK k l).cons x))
theorem atL{I:Type}{k:ya}(Y:aJ8)(o:aLV)(x:I):k1 (oV (fs alf)) (gN (putIn k x l) alf)|[],_=>ar putIn|y::J,s=>by have c1:=VT s;unfold putIn;split;{next h=>refine aCH ⟨an8,s⟩;grind-abstractProof};{next h=>refine aCH ⟨an8,atL Y o x c1.2⟩;have:=(aem k x J).mem_iff.mp c9;grind-abstractProof}
theorem S_{I:Type}{k:ya}(Y:aJ8)(o:aLV):qu (gN (iV k l) alf)|[]=> .nil|x::l=>atL Y o x (S_ Y o l)
theorem aen{I:Type} [BEq I] [aCs I]{k:ya}(Y:aJ8)(o:aLV)(cQ:eR AF (k a b=ab\/k b a=ab))(l:ba):gN (iV k ain) aFS/\gR (iV k ain) l:=by have p:=yK k ain;rw[v (((S_ Y o ain).and (a2' aoe)).imp (y4 ?_)) Jb,cK];{rw[p.mem_iff,VY]}
theorem Lm(a b:Pt)(h:amn):aio a=ai:=by cases q:aio a with|false=>{rfl}|true=>rw[dQ (vd h q) (mv _)]
theorem aeo(a b:Ln)(h:aob):kA b a=ai:=by cases q:kA b a with|false=>{rfl}|true=>rw[BQ]at h q;exact cb (FO h q) (cj (ix k)) (cj (ix k.2))
theorem atM(a b c:Ln)(h:aob)(g:kA b c=ab):kA a c=ab:=by rw[BQ]at*;exact FO h g
theorem aep(a b:Ln)(h:AF):kA a b=ab\/kA b a=ab:=by rw[BQ,BQ];rw[ac a.1 b.1 k k k,dQ O5];{rw[fd a.2 b.2,dQ (eW k q),cE (sJ k q) h,co (eW k.symm q)]};rw[co O5]
theorem Ta{l m:eh}(h:gR l m)(s:oV (nQ xG)):l=iV ic a3a:=g6 (A8 m) bdL (Lm a b p)
theorem aeq{l m:cH}(h:gR l m)(s:oV (nQ (kA p q=ab))):l=iV kA a3a:=g6 (aen aeo atM aep m) (fun(p q:Ln)=>kA p q=ab) (aeo a b p)
theorem atO{l m:pU}(p:Wk m)(s:oV (fs amu)):kv AH=a_o:=by have o:∀a b c:Wl,mS a b=ab->mS b c=ab->mS a c=ab:=fun a b c h g=>vd h g;refine S9 (R:=fun(a b:Pt)=>aio a=ai) aGE (B ba4 _) ?_ ?_;{rw[a8c,eL (SY ne),az];simp_all};rw[cK,Z Nf (S_ (fun a b h=>Lm _ _ h) o m)]
theorem aRL{l m:pU}(p:Wk m)(s:oV (fs amo)):l=iV mS m:=by rw[dd (atO p (s.imp (y4 (Lm _ _ h))))];refine S9 (R:=fun(a b:Wl)=>amo) aGE ba4 s (by have:gN a_o amn:=cq;grind-abstractProof);rw[cQ (Lm _ _ p),kG]
theorem aRM{I d:Type}(f:Ff)(ok:d->cb)(k:dI d d)(l:ba):tg (ab (ok (f x))) (li (k (f x) (f y))) l=tg ok k xK:=by delta tg HK;rw[List.zipIdx_map,List.find?_map,Option.map_map];rw[dW,dW];funext x;simp only[Wm,Prod.map,id];(split<;>simp[*])
theorem atQ(r:Plan)(all:AL):∀(d8 ns:pU)(i:Nat)(c:bL (bZ ao)),HL AH=wz AH->wy r all i c d8=wy r all i c ns|[],[],_,_,_=>rfl|[],b::ns,_,_,h=>bB|a::d8,[],_,_,h=>bB|a::d8,b::ns,i,c,h=>by rw[lX];simp only[wy,h.1];split;{rfl};rw[l (atQ r all d8 ns _ _ h.2)]
theorem atR(r:Plan)(d8:pU):∀(n:Nat)(s e:fz),VW AG n s e=VW r n s e|0,_,_=>rfl|n+1,s,e=>by simp only[VW];rw[dO (aCo AG e.1 e.2) (aCo r e.1 e.2),atR r d8 n]
theorem aRN(r:Plan)(d8:pU):wq AG=tc:=by delta wq;have e:(CS (ahZ (VW AG alA e e)))=bbc:=by{funext e;rw[atR]};simp only[e];rfl
theorem aRO(r:Plan)(d8:pU)(h:HL AH=Wn AH):aip AG=Nx:=by revert h;revert r d8;refine Kj;rw[bV r d8,eD,b9 len Nw fL h];have b4:a'B=aaD:=by{rw[di B a'B (HL AH) d8,di b2 aaD (Wn AH) dQ];rw[B,b2,h]};have b9:wy AG (wq r) 0 [] d8=Bx (wq r):=by{have g:∀(l:pU)(i:Nat)(c:bL (bZ ao)),wy AG (wq r) i c l=wy r (wq r) i c l:=by{rw[rD];induction l with|nil=>{intros;rfl}|cons a J d6=>intro i c;simp only[wy];rw[dO (aCu AG (wq r) aiq) (aCu r (wq r) aiq),d6]};rw[g];exact atQ r _ _ _ _ _ h};delta aip;simp only[b4,aRN,b9];delta Plan.size;rw[len];rfl
theorem Tb:aP w n (t aoz=w)|0,_=>rfl|w+1,n=>eI le (Tb w)
theorem atU:aP w n (Ny aoz=n%Q9)|0,n=>bx le Ny Nat.mod_one|w+1,n=>by simp only[le,Ny,atU w];have e:zi n=n%256:=by{simp};rw[e,HM,air Q9 256,a3b]
theorem aer{A B:Bytes}{w n p:Nat}(c2:ie=p):num (hI aoz) p w=n%Q9:=b0 num (a3d c2) (a3c (Tb w n)) atU
theorem qA{A B:Bytes}{p q w:Nat}(c2:ie=p):num (A++B) (p+q) w=num B q w:=by delta num;rw[<-c2,List.drop_append,ais xC];simp
theorem aes{B:Bytes}{w n:Nat}:num (aoz++B) 0 w=n%Q9:=nd (aer (A:=[]) (B:=B) (w:=w) (n:=n) (p:=0) rfl)
theorem atV(b:Bytes)(p w:Nat):cZ p w<Q9:=by delta num;have:∀(l:Bytes)(w:Nat),d_<=w->Ny l<Q9:=by{rw[rD];induction l with|nil=>{intro w _;exact a3e ay}|cons c J d6=>rw[dt w];cases w with|zero=>{rw[lX]}|succ w=>have k0:=c.toNat_lt;simp only[Ny];grind-abstractProof};exact this _ _ A_
theorem BW{I:Type}{f:I->HN}{k:Nat}(h:aKa):qu (t (Nz f)=k*d_)|[]=>x (Hy _)|x::l=>by simp[BW h l,h x];grind-abstractProof
theorem atW{I:Type}{f:I->HN}{k:Nat}(h:aKa):∀(l:ba)(i:Nat),dd (Nz f) (k*i)=gl (oJ i) f|l,0=>bI|[],i+1=>aQ|x::l,i+1=>by rw[o_,show k*i_=k+k*i by grind-abstractProof,<-HP,a3d (h x),atW h l i];rfl
theorem aet{I:Type}{f:I->HN}{k:Nat}(h:aKa){l:ba}{i:Nat}{x:I}(S:xH)(B:Bytes)(q w:Nat):eI (num (Nz f++B) (k*i+q) w) (f x) w:=by rw[eZ X (i<d_)];have e:oJ i=x::oJ (i+1):=by{rw[Wo X];simp_all};rw[dI (gl (oJ (i+1)) f++B)];delta num;have d:(Nz f++B).drop (k*i+q)=(f x++(gl (oJ (i+1)) f++B)).drop q:=by{rw[<-HP,a3f (t (BW h) (Nat.mul_le_mul_left k ej)),atW h,e,o_,du]};rw[d]
noncomputable def sj(p:Pt):HN:=le 4 p.x++le 4 p.y
noncomputable def Gp(l:Ln):HN:=le 2 l.1++le 2 l.2
noncomputable def yL(m:Mark):HN:=le 4 ij++(le 4 ih++f2 jx (le 2 kB))
theorem aeu(p:Pt):t (sj p)=8:=bI
theorem aev(l:Ln):t (Gp l)=4:=bI
theorem atX(m:Mark):t (yL m)=12:=bI
noncomputable def Gq(r:Plan):HN:=Hv (f2 aJ (f2 dP (f2 fL (le 2 0))))
theorem atY(r:Plan):t (Gq r)=20:=bI
theorem Gr(r:Plan):qT r=Gq r++(a3h sj++(aCQ Gp++a3g yL)):=by delta qT Gq;simp only[du];rfl
theorem aew(r:Plan):t (qT r)=20+8*aJ+4*dP+12*fL:=by rw[Gr];simp only[cj,atY,BW aeu,BW aev,BW atX];simp+arith [*]
structure Fits(r:Plan):Prop where
 w:bk r.w
 h:bk r.h
 p:b1 aJ
 l:b1 dP
 m:b1 fL
 pts:cz dd O1
 lines:hN (b1 e.1/\b1 e.2)
 marks:∀m∈dQ,uO
theorem aRP{r:Plan}(F:wA r)(B:Bytes):(Gq r++B).take 4=ait/\h8 4 4=r.w/\h8 8 4=r.h/\h8 12 2=aJ/\h8 14 2=dP/\h8 16 2=fL/\h8 18 2=0:=by rw[ab b0 MAGIC.length 4,cd e0 (Gq r++B) (Hv (f2 aJ (f2 dP (f2 fL (f2 0 B)))))];rw[e0];rw[bdz,z7 a,ds (a3c b0) ?_ (aJ ?_ ?_)];{rw[aer b0,b,er F.w]};{rw[dO 8 (4+4),qA b0,AN,b,er F.h]};{rw[lp 12 4,qA b0,AO,AN,a,er F.p]};{rw[lp 14 (4+2),qA b0,AO,AO,AN,a,er F.l]};{rw[lp 16 (4+(2+2)),qA b0,AO,AO,AO,AN,a,er F.m]};{rfl}
theorem atZ{I:Type}{l:ba}{g:df I}(h:bk i x (xH->g i=x)):ce d_ g=l:=by refine NA (fun i=>?_);rw[cz];rw[fI k d_,dn (wB k) (da k) (gz aa (h i _ (da k)))];{rw[zz (t aCR (za k)),zz (za k)];rfl}
theorem aRQ{r:Plan}(F:wA r):lC (qT r)=r:=by revert F;revert r;refine apV;rw[u0 r];intro F;rw[gx beL];rw[<-Gr]at d1;obtain⟨_,n1,n2,u,y,f,_⟩:=d1;rw[bdz,z7 a];delta lC;rw[bgl,f1 (atY r),it (BW aeu dd)];rw[FW (by have b3:=aiu p (bO c2);have g:∀q,eI (qs (jy+(8*i+q))) (sj p) 4:=ai (by rw[Gr,aJ4,qA a5];exact aet aeu c2 _ q 4);rw[a'5];obtain⟨D,a9⟩:=g 4;have b4:qs am9=p.x:=by{rw[show am9=jy+(8*i+0)by rfl,a3];delta sj;rw[du,aes,b,er b3.1]};have b9:qs (am9+4)=p.y:=by{rw[show am9+4=jy+(8*i+4)by rfl,a9];delta sj;rw[du,AN,b,er b3.2]};rw[b4,b9]),FW (by have b3:=aCS p (bO c2);have g:∀q,eI (i3 (f7 i q)) (Gp p) 2:=ai (by rw[Gr,aJ4,qA a5,qA d5];exact aet aev c2 _ q 2);rw[a'5];obtain⟨D,a9⟩:=g 2;have b4:i3 ao7=p.1:=by{rw[dv ao7 (f7 i 0),a3];delta Gp;rw[du,aes,a,er b3.1]};have b9:i3 (ao7+2)=p.2:=by{rw[dv (ao7+2) (f7 i 2),a9];delta Gp;rw[du,AN,a,er b3.2]};rw[b4,b9]),(atZ (fun i m c4=>by have b3:=wC m (bO c4);have g:∀q w,eI (num (qT r) (f7 dP (12*i+q)) w) (yL m) w:=fun q w=>by{rw[Gr,aJ4,qA a5,qA d5,qA (BW aev bX)];have:=aet atX c4 [] q w;rw[gf]};rw[c8 a3 (g 0 4)];obtain⟨d,a9⟩:=g 4 4;rw[fw e2 (g 8 2)];obtain⟨h,e5⟩:=g 10 2;have b4:qs FJ=ij:=by{rw[dv FJ (f7 dP (12*i+0)),a3];delta yL;rw[du,aes,b,er b3.1.1]};have b9:qs (FJ+4)=ih:=by{rw[dv (FJ+4) (f7 dP (12*i+4)),a9];delta yL;rw[du,du,AN,b,er b3.1.2]};have e7:i3 (FJ+8)=jx:=by{rw[dv (FJ+8) (f7 dP (12*i+8)),e2];delta yL;rw[dO 8 (4+4),du,AO,du,du,AN,a,er b3.2.1]};have g5:i3 (FJ+10)=kB:=by{rw[dv (FJ+10) (f7 dP (12*i+10)),e5];delta yL;rw[lp 10 2,du,AO,du,AO,du,AN,a,er b3.2.2]};rw[b4,b9,e7,g5]))]
noncomputable def eQ(r:Plan):hQ:=Ks Nx
theorem at0{r:Plan}(F:wA r):wD (qT r)=jo (eQ r) r:=by have d1:=beL;rw[<-Gr]at d1;obtain⟨t,n1,n2,u,y,f,a⟩:=d1;have len:=aew r;delta wD eQ;have a9:¬(i3 18≠0):=by{rw[xD]};have e2:¬(t (qT r)≠jy+8*i3 12+4*i3 14+12*i3 16):=by{rw[len,u,y,f];simp[jy]};rw[cD Ba hS,bgl];rw[u,y,f]at e2;rw[PM,bj e2,aRQ F];split;{rfl};(split<;>lia-abstractProof)
universe GM
namespace GM
open Gla
theorem aRR{p q a b:Pt}(h:xG)(b3:hX p q a=ab)(U:hX p q b=ab):Wq p q a<Wq p q b↔amn:=by revert h b3 U;revert p q a b;refine aML;rw[al p q a b];intro h b3 U;delta hX at b3 U;simp only[hZ,iS]at b3 U;rw[dr b3.2.2];have c3:=U.2.2;rw[iF]at h⊢;delta eV dx dy at d6 c3;delta Wq dx dy;rw[kV (fv b.y a.y) (k5 b.x a.x),bL g (baQ-baP) (fv b.x a.x+ak'*bm b.y a.y)];generalize baQ=B at*;generalize baP=A at*;rw[bT X k X (X=Fj),bT c n c (c=anQ),bT u hu u (u=v b.x-a.x),bT v d3 v (v=v b.y-a.y)];rw[<-k,<-n,<-hu,<-d3]at e g;rw[dm h h a9];{rw[cl f (0<c)];have d:0<X*X+c*c:=by{have:0<=X*X:=by{rw[al (aB_ 0 X),l (sY q q),l (aik q q)]};have:=hD f f;lia};rw[bL O (c*(B-A)) ((X*X+c*c)*v)];constructor;{rw[rD];left;have:0<c*(B-A):=hD f hS;rw[gc v v d];simp_all};{rw[bch];{have:0<v:=ag;have:=hD d this;rw[gc (B-A) (B-A) f];exact rT this};{exfalso;rw[ae j v 0];rw[j,aCD]at e;rw[al (aij CL)]<;>lia}}};{rw[ae f c 0,cl i (0<X)];rw[f]at e g;rw[a6 a3i];rw[a3i,a2O]at g;have j:v=0:=by{rw[al (aij e),az,iy]};constructor;{rw[rD];right;have:0<X*u:=x (Km g.m l);have:0<u:=by{rw[al (mO 0 u),l q];{have:=Nb (eW i) q;grind}};rw[fT]};{rw[bch];{rw[fT]};{have:0<u:=ag;have:=hD i this;exact jM g.n}}}
noncomputable def Lo(row:eh)(l:ki):mZ:=NB (l.1::(iV ic apa++[l.2]))
theorem aRS{row:eh}{l:ki}(h:a_k):aiv row l=Lo row l:=by delta aiv Lo;simp only;have c9:(ND (fun(J:Pt)=>J !=l.1&&(J !=l.2&&wj l.1 l.2 J)))=ND (hX l.1 l.2):=by{refine Wj (fun J _=>?_);rw[iN,Gj h];rw[xi]};rw[c9];congr 2;rw[dW];have d:aK apa (hX l.1 l.2 x=ab):=aJ (vJ (NC S)).2;let al:dI Pt Pt:=fun(a b:Pt)=>bT (Wq l.1 l.2 a) (Wq l.1 l.2 b);have p:=yK al apa;refine Ta Jb ?_;{rw[p.mem_iff,VY]};{rw[hY ((S_ (k:=al) (fun a b q=>fk) (fun a b c q z=>fk) apa).and (a2' aoe))];rintro a b⟨b3,U,a3,ne⟩;rw[al (SY ne),iy,i1 (ae (aRR h (d b (aim U)) (d a (aim b3))) q)]}
noncomputable def Tc(l:ki):ki:=aog
theorem aex{w h:Nat}{pts d:eh}{lines c:mZ}{marks:pU}(c2:gR pts d)(a3:∀l∈aiw,l∈c\/Tc l∈c)(a9:∀l∈c,l∈aiw\/Tc l∈aiw):bbn=HQ w h d c th:=by delta HQ;simp only;have H:=A8 pts;rw[(Ta (ab (J (H.2 x) (c2 x))) H.1)];rw[dW];generalize c5:(mK a_9)=f6;have b9:∀x:Ln,x∈bfH↔x∈Dr (bE (f6 l.1) (f6 l.2) (f6 l.1) (f6 l.2)):=by{intro x;simp only[fJ];constructor;rw[KB (a3 l a5),KB (a9 l a5)]};have e7:∀p,a_9=f6 p:=bn bz;simp only[e7];have X:=aen aeo atM aep bfH;exact aeq (ab (J (X.2 x) (b9 x))) X.1
variable{r:Plan}
theorem aRT(Y:dz){l:ki}(h:l∈HR):a_k:=by rw[a4 Nq,hW h];have:=jd;exact zy et fj
theorem at1(Y:dz)(row:eh)(m:Mark):pa r Rh=aa (cs (dd++row) (NB row++aoA) (dQ++[m])):=by show aa (cs (dd++row) (aiy (aiv row)++NB row) (dQ++[m]))=_;rw[dW];have e:aiy (aiv row)=aoA:=by{rw[a3k,a3k];rw[dW];exact aix (fd (aRS (aRT Y a5)))};rw[e];refine aex (au aCT) (fd aGP) (fd aGP)<;>simp only[hy]at a5⊢<;>exact a3j
universe GM
namespace GM
open Gla
variable{r:Plan}
structure Clean(r:Plan):Prop where
 f4:Rz=ae
 f5:RD=ae
 f6:YU
 f7:aHT=ae
 f8:(J_)=ae
 f9:(Ka)=ae
 f10:Rp=ae
 f11:aaD=ae
 f12:Bx tc=ae
 f13:¬fL<Ni
theorem at4(h:Nx=ae):kg:=by rw[a4 aip,eH,cX];{next e5=>rw[eH,cX];{next f=>rw[eH,cX];{next b3=>rw[eH,cX];{next b=>rw[eH,cX];{next k=>rw[al7,eH,cX];{next D=>rw[eH,cX];{next c=>rw[eH,cX];{next a=>rw[eH,cX];{next d=>rw[eH,cX];{next e=>exact a e5 f ag b k D c a d e}}}}}}}}}}
theorem Clean.ord(C:kg):dz:=aei C.f4 C.f5
theorem Clean.lay(C:kg):bq:=aej NF C.f7
theorem Clean.deg(C:kg):alP:=jU (by have:=zl C.f8;rw[ui];omega)
theorem Clean.aez(C:kg):AY:=fun i hi q=>xz (C.deg i hi)
theorem Clean.aRW(C:kg):1<aJ:=by have f:=C.f6;unfold frameOk at f;rw[wO f,aO i hi (BL Ds f.1)];have d:=C.deg i hi;cases d1:ig i with|nil=>{simp_all}|cons y J=>rw[Hx (vb Ds)];have V:y<aJ:=(H.BF C.lay.ok);have a:i≠y:=(H.ne C.lay.ok);lia-abstractProof
theorem Clean.net(C:kg):jX:=by refine atA Ds C.f6 C.aRW C.deg an5 an5;{have:=zl C.f9;rw[gf]};{have:=zl C.f10;rw[gf]}
theorem Clean.marks(C:kg):yU dQ/\r.marks.Pairwise (fs amo):=bv (S3.mp C.f11) ⟨et,S4 (R:=fun(a b:Wl)=>amo) aF_ fj⟩
theorem at5:Gn (yJ i c l=ae->zp/\aK l (x∉c))|[],_,_,_=>aQ|x::l,i,c,h=>by unfold yJ at h;rw[eH,cX];{next q=>rw[dr (at5 l (i+1) (x::c) h),v (a2T ⟨J (d6.2 x z bK),d6.1⟩) (fun y b6=>?_)];grind-abstractProof}
theorem Clean.aRX(C:kg):c7 amf:=by have t:=ael C.net NF C.aez dQ 0 [] HS.1 aQ;simp only[zk]at t;rw[C.f12]at t;exact(at5 _ _ _ t.symm).1
noncomputable def aeB(r:Plan)(l:Ln):Nat:=S7 r ((AS).side l).1
noncomputable def aeC(r:Plan)(l:Ln):Nat:=S7 r ((AS).side l).2
theorem aRY(C:kg){l:Ln}(h:l∈bX):q4 aJg=aeB r l/\q4 aog=aeC r l:=by have lt:=aCU l h;constructor;{show(AS).aP (sd (AS).side aJg)=_;rw[I2];rw[aK lt.1];rfl};{show(AS).aP (sd (AS).side aog)=_;rw[I2,aO fk];rfl}
theorem aeD(C:kg){i a b:Nat}(H:dP rK):Wr NG a b=aa i↔z m anL (tN=aa (q4 rK)):=by delta Wr;rw[ab c2 NG (Wn aHe)];rw[c2,List.findIdx?_eq_some_iff_getElem];constructor;{rintro⟨hi,p,_⟩;simp only[bA]at hi;rw[ak dQ[i] pI];rw[M9]at p;exact x (BQ (HS.1 _ (s_ hi))) p};{rintro⟨m,c4,c7⟩;rw[dC hi (i<fL),cr D dQ[i] m,cp ag Rk,dn M9 D (ae (BQ (HS.1 m (bO c4))) c7)];{intro p;rw[M9]at p;rw[b3 j4 (j<fL) (js bG bG)];have M:=x (BQ (HS.1 _ (s_ j4))) p;rw[cl b4 (aa (amf) (aa (q4 rK))),cl b9 (A (amf) (aa (q4 rK)))];have:=x (aCf ag C.aRX) (a3l a3m);exact gv CN b8}}
noncomputable def at6(r:Plan)(hi b8:iY)(l:Ln):cb:=cv (a_Z=(hi,b8)\/a_Z=(b8,hi))
theorem aRZ(C:kg){i j:Nat}{c6 e0:Mark}(hi:A dQ c6)(b8:aa dQ e0){l:Ln}(a5:l∈bX):aFN=aL':=by have i5:=aRY C a5;have k:∀{i:Nat}{m:Mark},anL->(Wr NG l.1 l.2=aa i↔aa (aeB r l)=tN)/\(Wr NG l.2 l.1=aa i↔aa (aeC r l)=tN):=by{intro i m c4;rw[aeD C pP,aeD C (.inr a5),i5.1,i5.2];constructor;{rw[xi]};rw[xi]};delta aCW aCV at6;rw[iN];simp only[ahm,aCE,iS,Cu];simp[*]
theorem gone_none(C:kg){i j:Nat}(h:an0){l:Ln}(a5:l∈bX):aFN=ai:=by have a8:dP aJg:=pP;have b7:dP aog:= .inr a5;have k:∀{i a b:Nat},dP rK->fL<=i->Wr NG a b≠xm:=by{intro i a b H le q;obtain⟨m,c4,_⟩:=x (aeD C H) q;simp_all};delta aCW aCV;rw[aCI];simp only[beq_eq_false_iff_ne,ne_eq,Cu,not_and];grind-abstractProof
theorem at7(C:kg){i j:Nat}(h:i=j\/an0):p6 aJz:=by show C3 _=ae;rw[aK];rw[eL h,Fh];{right;rw[dW];rw[a3n];intro l a5;rw[gone_none C h a5];rfl}
theorem erase_eq(C:kg){i j:Nat}{c6 e0:Mark}(ne:i≠j)(hi:A dQ c6)(b8:aa dQ e0):pa r aJz=(let a:=iU (k3 aL');v mL dP ae (aa (cs (a.flatMap (ch [pw,rj])) (a.map (ch Ec)) (a3o j)))):=by show bf_=_;rw[(Wj (fd (iG (aRZ C hi b8 a5))))];simp only[ne,false_or];generalize z:(iU (k3 aL'))=a;have sub:∀l∈a,l∈bX:=fun l a5=>cq;split;{rfl};{rw[dW];refine aex (fun p=>?_) (fd pP) (fd pP);simp only[fJ,Ng,aCv,te,VX,hC,oQ,Dh];constructor;{rintro⟨k,⟨c3,l,a5,e⟩,rfl⟩;delta HU at e;grind-abstractProof};{rintro⟨l,a5,e|e⟩;rw[pe l.1 Q3,pe l.2 ag]}}
universe GM
namespace GM
open Gla
variable{r:Plan}
theorem aR0(Z:bq){e f:Ln}(a0:iz)(W:f∈bX){z:Pt}(c:hX eE eF z=ab)(d:hX amb amc z=ab)(b3:Qw):e=f:=by have Y:=hF;have le:=x_;rw[bJ (fZ f W)];delta hX at c d;simp only[hZ,iS]at c d;have s:=mu (HB (b7 le.1 le.2)) c.1;have t:=mu b3 c.2.1;have u:=mu (HB (b7 m.1 m.2)) d.1;have w:=mu b3 d.2.1;have xe:dy z=Y_:=by{have:=Z.K3 a0 z;rw[el]};have x:hC z=Y_:=by{have:=Z.K3 W z;rw[el]};have p:l i j gX aKN (i<j):=fun i j hi h=>by{rw[al (ik i j),l q];{rw[al (qN q),i1 (C_ q hi),az]}};have l:cf rE<tM:=by{delta iD;grind-abstractProof};have o:tM<amv:=by{rw[I9];lia-abstractProof};have ov:kE<g_:=p _ _ (Nat.max_lt.mpr ⟨js le.1 le.2,js m.1 m.2⟩) (x (Int.lt_trans l o));rw[ak b g aJv];have g7:dy rE-hC rE=a+b*cf rE:=g _;have g8:dy z-hC z=a+b*tM:=g _;have a5:amK-am4=a+b*amv:=g _;have n1:dy rE<hC rE->amK<=am4:=Y.nc e a0 f W ov;have n2:hC rE<dy rE->am4<=amK:=by{have:=Y.nc f W e a0 (ac bcK bcL ov);rw[bX bcK bcL];exact this};have n:b=0:=by{rw[bs b q q q];{have a3:b*tM<b*cf rE:=aB' l q;have a9:b*amv<b*tM:=aB' o q;grind-abstractProof};rw[iy];{have a3:b*cf rE<b*tM:=ahx l q;have a9:b*tM<b*amv:=ahx o q;lia-abstractProof}};subst n;simp at g7 g8 a5;rw[ck lo (dy eE=ku eE) (wd e a0),ck hi (dy eF=ku eF) (wg e a0)];have on:hN (pc (dy ed) (ku ed)):=fun e a0 v a3 a9=>Y.on e a0 v a3 a9;exact sJ (by rw[fd e.1 f.1,Id f.1,iy,Id e.1]) (by rw[fd e.2 f.2,pm e.2 (qO (cU q)),iy,pm f.2 (CX (cU q))])
theorem at8{I d:Type}{f:I->nG}:∀{l:ba},i zp (bk l (c7 (f x))) (bk l (ds l (o z (z∈f x) (z∈f y) (x=y)))) (c7 (Nz f))|[],_,_,_=>aQ|a::l,nd,a3,a9=>by have n2:=Ay;rw[o_,ahU];rw[aa (a3 a bK) (at8 n2.2 (aJ (a3 x ro)) (fun x S y b6=>a9 x ro y ro)) (fun b U c b0 e=>?_),ia c5 (aCX b0)];grind-abstractProof
theorem pairs_len{I:Type}(l:ba):t (NB l)=d_-1:=i0 NB
theorem at9{I:Type} [BEq I] [aCs I](l:ba):l.eraseDups.length<=d_:=ey (v_ I) (fs (Classical.propDecidable (a=b))) (SJ aoe (aJ (NC S)))
theorem auj(C:kg)(row:eh)(a6:cz row (hN (a9D->Qv))):bd (NB row++aoA) (dP+2*ff):=by have Z:=Ds;rw[cj,pairs_len];have b4:t aoA=dP+t bcg:=by{delta Nq;rw[aCY];generalize r.lines=ls;induction ls with|nil=>{rfl}|cons a J d6=>rw[o_,o_,cj,cj,d6];have:t (Lo row (bp a.1,bp a.2))=(ND (hX (bp a.1) (bp a.2))).eraseDups.length+1:=by{delta Lo;rw[pairs_len];simp only[ia,cj,MO];rw[aIw];rfl};rw[nY];simp+arith [*]};have nd:c7 bcg:=at8 Z.nd (fun x _=>aoe) (fun e a0 f W z I c=>by rw[cy (vJ (NC I)),cb (vJ (NC c))];exact aR0 Z a0 W a.2 b.2 (a6 z a.1 e a0 a.2));rw[hZ (SJ nd (m:=row) (sr (by obtain⟨l,_,h⟩:=aCX c9;exact fb (NC h)))) (hn (qL ff 1) b4.l this)]
theorem auo(Y:dz){e:Ln}(a0:iz){p:Pt}(h:a9D):Qv:=by have l:=jd;have o:=(x (Gj (zy l.1 l.2)) h).1;unfold isOn at o;simp only[hZ,Nc,iS]at o;rw[gw (ol (i8 (e.1<aJ) (js l.1 l.2))),fe (ol l.2)];lia-abstractProof
theorem aup{w h:Nat}{pts:eh}{lines:mZ}{marks:pU}(hw:bk w)(c7:bk h)(c2:NH<65535)(a5:b1 lines.length)(c4:b1 aCZ)(a8:cz pts O1)(k:∀m∈th,uO):wA bbn:=by have H:=A8 pts;have b2:t OK<=NH:=by{rw[L (aF8).length_eq (at9 _)]};rw[e hw c7 ?_ ?_ ?_ ?_ ?_ ?_];{show t OK<_;exact cf b2 c2};{show t (iV kA _)<_;rw[aIw];have:=at9 bfI;rw[el]};{show t (iV mS th)<_;rw[aIw];exact c4};{intro p a3;exact a8 p (x (H.2 p) a3)};{intro e a0;have V:e∈iV kA (bfI).eraseDups:=a0;rw[(aF8).mem_iff,VY,fJ]at V;grind-abstractProof};{intro m Z;exact k m ((yK mS th).mem_iff.mp Z)}
universe GM
namespace GM
open Gla
variable{r:Plan}
theorem auq{p:ur}{n m:Nat}:QM=aa m↔m<n/\p m=ab/\E i (i<m) (p i=ai):=by rw[List.find?_eq_some_iff_getElem];rw[xi]
theorem aeE{p:ur}{n:Nat}:QM=ae↔nP (p i=ai):=aQ
noncomputable def aeF(r:Plan)(z:Pt):cb:=cv (0<z.x/\z.x<r.w)&&cv (0<z.y/\z.y<r.h)
theorem aR1(Z:bq)(Y:dz)(d:AY)(m:Mark):(aeF r eL&&dj tN)=Ws r m:=by delta Ws De aeF;by_cases a3:0<ij/\ij<r.w;{by_cases a9:0<ih/\ih<r.h;{have g:=atJ Z Y d (z:=eL) (h3 a3.2);have e:dj tN=! HE r eL:=by{delta vf;cases q:BV r eL with|none=>{rw[g.mp q];rfl}|some x=>simp_all};simp[*]};rw[xj]};rw[xj]
noncomputable def vg(r:Plan):hQ:=p6 (tg bac mS dQ) (yJ 0 [] amf)
theorem aR2(N:jX)(Y:dz)(d:AY):vg r=(p6 aaD (Bx tc)):=by delta vg;have e:(bac)=Ws r:=by{funext m;exact aR1 iT Y d m};rw[e];cases h:aaD with|some i=>{rfl}|none=>have t:=ael N Y d dQ 0 [] (S3.mp h).1 aQ;simp only[zk]at t;simp only;rw[t]
noncomputable def Td(r:Plan)(a:QT):hQ:=a1 Rz 4 (Dt i) (a1 RD 5 aoB (E (Lj r=ai) 6 jy (a1 anx 7 aoB (a1 J_ 8 (Dt i) (a1 Ka 9 (Dt i) (a1 Rp 10 (Dt i) (vg r)))))))
theorem aR3(a3:1<aJ){a:QT}(c6:aMw):Td r a=Nx:=by delta Td aip;cases e5:Rz with|some i=>{rfl}|none=>simp only;cases f:RD with|some i=>{rfl}|none=>have Y:=aei e5 f;simp only;rw[atE Y];cases b3:VU r with|false=>{rfl}|true=>simp only[Bool.true_eq_false,iR];rw[aeh (c6 Y)];cases b:aHT with|some i=>{rfl}|none=>simp only;cases k:J_ with|some i=>{rfl}|none=>simp only;cases D:Ka with|some i=>{rfl}|none=>simp only;cases c:Rp with|some i=>{rfl}|none=>simp only;rw[aR2 (cU b b3 (jU ah) c) Y (fun i hi q=>cq)];rfl
universe GM
namespace GM
open Gla
variable{r:Plan}
noncomputable def Te(B r:Plan)(i:Nat)(l:Ln):cb:=Z (aCG Ec) (aef B r i l) (Gk r i l)
theorem aeG{B:Plan}(k5:Lay B)(Y:dz){i:Nat}{l:Ln}(h:A bX l):Te B r i l=alh:=by have a5:=bO h;delta Te;split;{next q=>refine aRx k5 Y a5 (Nr q) (fun m c4 e=>?_);rw[bY,gA C (ib c4),dC j4 (j<i),dC M (aa bX m),dC X (i<dP)];have:=x (aCf (EG:j<dP) Y.nd) (M.trans agI);simp_all};rw[l (S1 Y a5)]
theorem aR4{x:Gla.Step}(h:p6 x):n4 (.error ae):=by delta HV;rw[h]
theorem aR5{x:Gla.Step}{T:Plan}(h:aaz)(F:wA T){e:Fault}(a0:eQ T=aa e):n4 (.error rz):=bc7
theorem aR6{x:Gla.Step}{T:Plan}(h:aaz)(F:wA T)(a0:eQ T=ae):n4 Jq:=bc7
structure yM(r:Plan):Prop where
 fits:wA r
 ok:eQ r=ae
theorem Lp{c:Prop} [Hq c]{x:Fault}{y:hQ}(h:(av c x y)=ae):¬c/\y=ae:=by by_cases q:c;rw[yT (aK q)];{rw[iW q];exact⟨q,h⟩}
theorem wi{a b n:Nat}(h:¬mT a b n=ai):a<=n/\n<=b:=hr mT h
theorem yM.Gs(C:xO):(16<=r.w/\pp r.w)/\(16<=r.h/\pp r.h)/\N (4<=aJ/\aJ<=4096) (4<=dP/\aHJ) (1<=fL/\fL<=2048) (Nx=ae):=by have h:=C.ok;obtain⟨a,h⟩:=Lp h;rw[i3 b (Lp h),c8 h (Lp h),i3 d (Lp h),fw h (Lp h)];exact c (wi a) (wi b) (wi c) (wi d) (wi e) h
theorem yM.clean(C:xO):kg:=at4 (a2 C.Gs.2)
def Tf:cu Cy| .lead row m=>wd (ff<=64/\cz row O1)| .move _ p=>O1| .mark _ m=>uO|_=>gA
theorem aR7(r:Plan):r.drawn.length=dP:=cF Nq (bA _)
theorem Tg(C:xO){x:Gla.Step}(S:Tf x){T:Plan}(h:aaz):wA T:=by have e8:=C.Gs;have F:=C.fits;have K:=C.clean;have sj:=aiu;cases x with|lead row m=>{rw[aj (at1 K.ord),cG];have X:=auj K row (fun p _ e a0 q=>auo K.ord a0 q);rw[al (by simp;have:=S.1.1;exact cf AE this) (bv S.1.1 (RM X iA this this)) (nF pT) ua (fun f7 Z=>?_)];{rw[hZ c2,aZ,l (S.1.2 p q)]};{rw[hZ Z,l (wC f7 q),zu S.2]}}|erase i j=>{rw[tz bf_,YA,cX];{cases h';rw[cy (aiA a7l (eJ aJ)),cb (aiA akY bX),cl (v4 (aiz dQ j)),al bz (eC b iA) (bn c pT) ua (fun f7 Z=>wC f7 ((aiz dQ j).subset Z)),a3 k c3 c2];have:=fb c3;exact a91}}|move k p=>{rw[tz (bgU),YA];{cases h';rw[al fR (nF iA) (f8 pT) a_l wC,a3 i hi e0];split;rw[l S,l a91]};rw[az]}|mark i m=>{rw[tz (aMo),YA];{cases h';rw[al bM (by rw[aR7];lia) fR sj (fun f7 Z=>?_),al (List.mem_or_eq_of_mem_set Z),l (wC f7 q)];{rw[e_];exact S}};rw[dV]}|drop k=>rw[a4 pa,al7,eH];{rw[cG,cy (aiA (mx (! HU k l)) bX),cl (v4 (aiz dd k)),al (bn c AE) (eC a iA) bM (gS (sj p ((aiz dd k).subset c2))) wC]};{lia}
universe GM
namespace GM
open Gla
variable{r:Plan}
noncomputable def ko(a b:hQ):hQ:=de a rz b
noncomputable def iH(r:Plan):hQ:=Ks ae
noncomputable def Gu(r:Plan):hQ:=dy Rz 4 (Dt i)
noncomputable def Gv(r:Plan):hQ:=dy RD 5 aoB
noncomputable def BX(r:Plan):hQ:=E (Lj r=ai) 6 jy ae
noncomputable def BY(r:Plan):hQ:=cO (iH r) (Gu r) (ko (Gv r) (BX r))
noncomputable def BZ(r:Plan)(a:QT):hQ:=dy anx 7 aoB
noncomputable def yN(r:Plan):hQ:=cO (dy J_ 8 (Dt i)) (dy Ka 9 (Dt i)) (dy Rp 10 (Dt i))
theorem size_eq(r:Plan):eQ r=ko (iH r) Nx:=by delta eQ iH ko;split;{rfl};(split<;>lia)
theorem aR8(r:Plan)(a:QT):Td r a=cO (Gu r) (Gv r) (cO (BX r) (BZ r a) (ko (yN r) (vg r))):=by revert r a;refine Kj;rw[bV r a];delta Td Gu Gv BX BZ yN ko;cases Rz with|some i=>{rfl}|none=>cases RD with|some i=>{rfl}|none=>cases Lj r with|false=>{rfl}|true=>cases anx with|some i=>{rfl}|none=>cases J_ with|some i=>{rfl}|none=>cases Ka with|some i=>{rfl}|none=>rw[ll Rp]
theorem aur(a b c:hQ):ko (ko a b) c=cO a b c:=sE a
theorem Th{a b:hQ}(h:a=ae):ko a b=b:=dc h
theorem aeH{a:QT}(c6:aMw):eQ r=cO (BY r) (o4 a) (vg r):=by rw[Wt];delta BY;rw[aur];cases h:iH r with|some e=>{rfl}|none=>rw[<-aR3 (by delta iH mT at h;rw[eH,cX,eH,cX];grind) c6,aR8];simp only[aur]
theorem aut(h:BY r=ae):N dz YU (1<aJ) (iH r=ae):=by rw[a4 BY,fg b1 (iH r) (iH r),aj (Th b1),fg e5 (Gu r) (Gu r),aj (Th e5),fg f (Gv r) (Gv r),aj (Th f)];have Y:=aei (hr Gu e5) (hr Gv f);rw[w Y ?_ ?_ b1];{rw[a4 BX];rw[<-atE Y];grind-abstractProof};{delta iH mT at b1;split at b1;rw[cX];split at b1;rw[cX];grind-abstractProof}
theorem auu(W:BY r=ae){a:QT}(c6:aMw)(d1:o4 a=ae):bcs:=by obtain⟨Y,n,a3,_⟩:=aut W;rw[aJ b (BZ r a) (BZ r a) d1 d1];rw[Th b]at d1;delta BZ at b;have c:anx=ae:=by{simp_all};rw[aeh (c6 Y)]at c;delta yN at d1;rw[aJ k J_ J_ d1 d1];rw[k]at d1;have j2:=d1;rw[aJ D Ka Ka j2 j2];rw[D]at j2;rw[dv d alP ah];exact v (cU c n d (by cases q:Rp with|some e=>{rw[q]at j2;cases j2}|none=>rfl)) Y d
theorem aR9{B:Plan}(C:aiB B)(c2:dd=pb)(a5:bX=Wf):o4 (Dq r)=ae:=by obtain⟨w,h,p,l,m⟩:=r;obtain⟨c5,h',u,i1,f7⟩:=B;cases c2;cases a5;delta BZ yN;have j2:HK (Dq apD) l=ae:=C.f7;have j9:ch wF (oC (s3 (Plan.near apD i)))=ae:=C.f8;have j8:ch wF (Df (aia (aCA apD) wF 0 (Dk wF)))=ae:=C.f9;have e2:ch wF (Wb (aCA apD) wF)=ae:=C.f10;simp only[j2,j9,j8,e2];rfl
noncomputable def Ti(r:Plan)(k:bZ HW):hQ:=cO (BY r) bgJ (vg r)
theorem aR_{k:bZ HW}(U:bct):Ti r k=eQ r:=by delta Ti;cases k with|none=>{exact bt (aeH (fun Y i l h=>S1 Y (bO h)))}|some B=>have C:=U B rfl;simp only;split;{next q=>rw[aeH (r:=r) (a:=Dq r) J0,bci]};rw[l (bt (aeH (fun Y i l h=>aeG Ds Y h)))]
theorem aR'{k:bZ HW}(U:bct)(W:BY r=ae)(d1:(bgJ)=ae):bcs:=by cases k with|none=>{exact GA (S1 Y (bO h))}|some B=>have C:=U B rfl;simp only at d1;split at d1;{next q=>exact auu W (a:=Dq r) J0 bci};rw[l (GA (aeG Ds Y h))]
universe GM
namespace GM
open Gla
variable{r:Plan}
theorem auv(Y:dz){i:Nat}(hi:gX):NI eG=i:=by have c4:=yC hi;refine Wd (wt c4) hi ?_;rw[eZ e (K dd (NI eG) eG)];delta aCj at e⊢;rw[Wu,e];rfl
theorem aSa(Y:dz):iV ic r.pts.eraseDups=dd:=bt (Ta (au aCT) Y.dO)
theorem auw(Y:dz)(w h:Nat)(d8:pU):HQ w h dd HR d8=a w h dd bX (iV mS d8):=by delta HQ;simp only[aSa Y];rw[dW];have e:(r.drawn.map (bE (NI l.1) (NI l.2) (NI l.1) (NI l.2)))=bX:=by{delta Nq;rw[jw];rw[ut bX,jL Yn];have:=Rf;simp only[Wm];rw[auv Y Q3,auv Y ag];grind-abstractProof};rw[L e (bt (aeq (au aCT) Y.ls))]
theorem aSb(Y:dz){i:Nat}(h:i<fL)(m:Mark):pa r ZW=aa (BS (iV mS X9)):=by show(aMo)=_;rw[aK h,auw Y]
theorem mark_none{i:Nat}(h:¬i<fL)(m:Mark):p6 ZW:=by show(aMo)=_;rw[aO h]
theorem auy{k:Nat}(h:¬k<aJ)(p:Pt):p6 aoC:=by show bo (k<aJ) _ ae=ae;rw[aO h]
theorem aSc(Y:dz){k:Nat}(h:k<aJ)(p:Pt):pa r aoC=aa (cs Zf (a3p (ch (am Zf l.1 jO,am Zf l.2 jO))) dQ):=by rw[dv f (ia ((v i k p eG)=am Zf i jO)) (by rw[Wu,List.getElem?_set];rw[b1 i k,aZ];{rw[cD e (ai (e zu))];delta aCj;rfl}),gD bgU];rw[aK h];have b4:(a7t)=Zf:=by{rw[alJ];intro i a3 a9;grind-abstractProof};rw[b4];congr 2;rw[jL Yn];have:=Rf;grind-abstractProof
noncomputable def Lq(r:Plan)(k:Nat):ao:=iC (HU k) (l.1+l.2-k)
theorem auz{k:Nat}(h:t (Lq r k)≠2):p6 (.drop k):=by rw[a4 Lq];delta pa;grind-abstractProof
set_option tactic.hygienic true in theorem drop_eq{k a b:Nat}(h:Lq r k=[a,b]):pa r (.drop k)=aa (cs (r.pts.eraseIdx k) ((iC (k3 (HU k l)) Ec)++[(ri,bp b)]) dQ):=by have c:∀l∈YN,(v l.1 k rj pw)=bp (l.1+l.2-k):=fun l a5=>by{rw[dd (vJ a5).2];unfold endsAt at e;rw[Pj]};rw[a4 Lq];delta pa;simp only;split;rw[az];{next f6=>obtain⟨x,y,e⟩:∃x y,YN=Jh:=by{cases q:YN with|nil=>{simp_all}|cons x J=>cases J with|nil=>{simp_all}|cons y J=>simp_all};lia}
theorem auA{T:Plan}{c d8:pU}(Z:Wv=iV mS c)(p:aiC c)(s:a3r (fs amu)):eQ amZ=eQ T/\(eQ T=ae->amZ=T):=by have D:=atO p s;rw[<-Z]at D;rw[v (by delta eQ;simp only[(nd (gz aC0 D)),aRO T d8 D]) (fun h=>?_)];have C:aiB T:=by{refine at4 ?_;rw[aj Wt];cases q:iH T with|some e=>{rw[m2 q]}|none=>rw[aj q];exact h};have:d8=Wv:=t Z (aRL p (by have a4:gN (T.marks.map AH) amn:=a3q HS.2;grind-abstractProof));rw[gm];rfl
universe GM
namespace GM
open Gla
def aeI:cu Cy| .lead row m=>aMF| .erase i j=>i<65536/\j<65536| .move k p=>b1 k/\bk p.x/\bk p.y| .mark i m=>wd (i<65536)| .drop k=>b1 k
def B_:cu Cy| .lead row m=>aMF| .move _ p=>O1| .mark _ m=>uO|_=>gA
theorem B_.ok:∀{x:Gla.Step},B_ x->Tf x| .lead _ _,h=>⟨⟨h.1.2.1,h.1.2.2⟩,h.2⟩| .erase _ _,_=>fY| .move _ _,h=>h| .mark _ _,h=>h| .drop _,_=>fY
theorem B_.fit{r:Plan}(C:xO){x:Gla.Step}(h:B_ x){T:Plan}(m:aaz):aeI x:=by rw[g4 C.Gs];have K:=C.clean;cases x with|lead row mk=>{exact h}|erase i j=>{have:¬(i=j\/an0):=ai (wC (at7 K q));have w:=G4 (cj (this (.inr k)));exact⟨hn (Wi i j) w pT,hn (HC i j) w pT⟩}|move k p=>{rw[gi (k<aJ) (auy q) AE]}|mark i mk=>{rw[gi (i<fL) (mark_none q) pT]}|drop k=>rw[ci (qF (ai (wC (auz q))))];unfold Lq at q;rw[cQ bA];obtain⟨l,a5⟩:∃l,l∈YN:=by{cases e:YN with|nil=>{simp_all}|cons a J=>simp};have a3:=K.ord.lt l (fb a5);rw[fe (vJ a5).2];unfold endsAt at a9;simp at a9;show b1 k;grind-abstractProof
noncomputable def Lr(r:Plan)(x:Gla.Step):a3s hQ HW:=match pa r x with|none=> .error ae|some T=>de (eQ T) (.error rz) Jq
theorem Tj{r:Plan}(C:xO){x:Gla.Step}(h:Tf x):n4 (Lr r x):=by delta Lr;cases m:pa r x with|none=>{exact aR4 m}|some T=>have F:=Tg C h m;simp only;cases e:eQ T with|some d3=>{exact aR5 m F e}|none=>exact aR6 m F e
theorem aSd{r:Plan}(C:xO){x:Gla.Step}(h:Tf x){T:Plan}(e:n4 Jq):yM T/\aaz:=by rw[a6 (Tj C h)];delta Lr at e;cases m:pa r x with|none=>{simp_all}|some d=>rw[a6 m];simp only at e;cases f:eQ d with|some d3=>{simp_all}|none=>rw[a6 f,dS];exact dx ⟨Tg C h m,f⟩
structure bT where
 cs:bL HW
 ss:bL Cy
 d:Nat
structure kq(R:bT):Prop where
 len:a3t=lD+1
 dl:aIy
 Ls:∀r∈pd,xO
 fit:aK mU (aeI x)
 st:∀(i:Nat)x r T,i (fh mU) (A pd r) (K pd (i+1) T) (n4 Jq)
 few:lD<=65536
noncomputable def bT.gr(R:bT):a3u:=v a7T tL YO
noncomputable def bT.cur(R:bT):HW:=R.cs.getD R.d alW
theorem kq.get{R:bT}(Y:hl){i:Nat}(h:i<=lD):z r (A pd r) xO:=by have hi:i<a3t:=by{have:=NJ;simp+arith [*]};exact av pI (Y.Ls _ (s_ hi))
theorem kq.cur{R:bT}(Y:hl):K pd R.d f_/\yM f_:=by obtain⟨r,h,c⟩:=aiD wG;have e:f_=r:=by{delta bT.cur;simp[*]};simp[*]
theorem kq.first{R:bT}(Y:hl):K pd 0 tj/\yM tj:=by obtain⟨r,h,c⟩:=aiD cS;have e:tj=r:=by{delta pe;cases q:pd with|nil=>{grind-abstractProof}|cons a J=>simp_all};simp[*]
theorem auB:∀(l:bL Cy)(r T d:Plan)(x:Gla.Step),aiE r l=aa T->HV T x= .ok d->aiE r (l++[x])=aa d|[],r,T,d,x,h,g=>by{rw[cG];show mW x []=aa d;delta Du;rw[g];rfl}|y::J,r,T,d,x,h,g=>by rw[tz (mW y J)];show mW y (J++[x])=aa d;cases q:Du r y with|none=>{simp_all}|some V=>rw[q]at h';exact auB J V T d x h' g
theorem kq.after{R:bT}(Y:hl):∀(i:Nat),i<=lD->aiE tj (NK i)=pd[i]?|0,_=>dc aC2.1|i+1,h=>by have d6:=aBz i ej;obtain⟨r,b2,_⟩:=aiD (i:=i) ej;obtain⟨T,Z,_⟩:=aiD (i:=i+1) h;have hi:i<lD:=by{trivial};rw[b2]at d6;rw[aC1 hi,Z];exact auB _ _ r T _ d6 (Y.st i _ r T pI b2 Z)
theorem kq.now{R:bT}(Y:hl):R.gr.now=f_:=by delta Gla.Record.now;have:=aBz R.d wG;rw[am Dv.1,q6 (Gla.after tj tL),nY];rfl
theorem aeJ{r:Plan}(C:xO):kq (ky r):=by rw[ds rfl a_ (lH cS),aZ];{simp};(intros;trivial)
noncomputable def bT.add(R:bT)(x:Gla.Step)(T:Plan):bT:=v (PY++[T]) anj jJ
theorem kq.add{R:bT}(Y:hl){x:Gla.Step}(S:B_ x){T:Plan}(h:HV f_ x=Jq)(few:b1 R.d):kq ZL:=by have c:=Dv;have t:=aSd c.2 S.ok h;rw[cU a7 (t PY) jJ,bgT,ds (bx NL a7 d5) (eI NL d5) (lH (by simp[NL,d5];exact HA bG))];{intro r b2;rw[hZ b2,l (Y.Ls r (qS q))];simp_all};{intro y b6;rw[hZ b6,l (aiF y (qS q)),zu (S.fit c.2 t.2)]};{intro i y r d a3 a9 e2;simp only[NL]at a3 a9 e2;by_cases q:i<R.d;{rw[hx ag,sS q]at a3;rw[hx (b7 q a7.g),sS I_]at a9;rw[hx ag,sS ag]at e2;exact Y.st i y r d a3 a9 e2};{rw[f1 (bx a3)];rw[cj,d5]at a5;rw[fh (i=R.d) (mP (HA a5) (a3v q))];rw[oZ (qE d5),d5,zv]at a3;rw[hx (t a7 jR),sS jR]at a9;rw[oZ (qE a7),a7,zv]at e2;cases a3;cases e2;rw[L (cZ (a9.symm.trans c.1)) h]}}
theorem bT.aSe{R:bT}(Y:hl)(x:Gla.Step)(T:Plan):(ZL).gr={wH with done:=aiG++[x],undone:=[]}:=by rw[bgT];have b4:an anj jJ=anj:=Dx (ar d5);have b9:dd anj jJ=[]:=ais (ar d5);have f5:(PY++[T]).headD alW=a7T:=by{cases q:pd with|nil=>{have:=NJ;simp_all}|cons a J=>rfl};delta NL pe;simp only[*]
theorem kq.aeK{R:bT}(Y:hl):R.gr.done.length=R.d:=by show t tL=R.d;rw[eS];have:=wG;exact kO
theorem kq.auC{R:bT}(Y:hl):R.gr.undone.length=t_:=by show t YO=_;rw[sL]
theorem aSf{R:bT}(Y:hl)(h:R.d=0):R.gr.undo=ae:=by delta a3w;have:aiG=[]:=by{show tL=[];rw[h];rfl};rw[nY];rfl
theorem auD{R:bT}(Y:hl)(h:R.d≠0):R.gr.undo=aa (pa tT)/\kq (ih tT):=by have dl:=wG;have hi:tT<lD:=by{lia};have e:tL=a_r:=by{rw[Hp (aC1 hi)]};have b9:aC3 tT=mU[tT]::YO:=by{rw[Hp (Wo hi)]};rw[Hf bM];delta a3w;have hd:aiG=a_r:=e;rw[hd];simp only[List.getLast?_append,List.getLast?_singleton,Option.some_or,List.dropLast_concat];delta pe;simp only[b9]
theorem aSg{R:bT}(Y:hl)(h:t_=0):R.gr.redo=ae:=by delta a3x;have:aC4=[]:=by{show YO=[];exact ais (bn (aS lD R.d) h.l)};rw[nY]
theorem auE{R:bT}(Y:hl)(h:t_≠0):R.gr.redo=aa (pa jJ)/\kq (ih jJ):=by have hi:R.d<lD:=by{lia-abstractProof};have e:NK jJ=tL++[mU[R.d]]:=aC1 hi;have b9:YO=baX:=Wo hi;rw[Hf bB];delta a3x;have hd:aC4=baX:=b9;rw[hd];simp only;delta pe;simp only[e]
theorem bT.all(R:bT):aiG++aC4=mU:=Dm _ _
noncomputable def Gw(b:Bytes)(p:Nat):hQ:=match aiH b p with| .error e=>rz| .ok k=>E (cw<p+k) 6 cw ae
noncomputable def Lu(b:Bytes)(p:Nat):Nat:=match aiH b p with| .error _=>0| .ok k=>k
theorem Tn{b:Bytes}{p:Nat}{c:UInt8}(h:aJ7):cZ p 1=eC:=by delta num;rw[ez c2 p cw];rw[Wo c2];rw[aj (da c2),cG];show Ny [b[p]]=b[p].toNat;exact Hy _
theorem aSh{b:Bytes}{n:Nat}{r:Plan}{p:Nat}{e:Fault}(h:Gw b p=aa e):Bv Ac:=ba6
theorem aSi{b:Bytes}{n:Nat}{r:Plan}{p:Nat}(h:Jx)(t:Du r uL=ae):Bv (wT 7):=ba6
theorem aSj{b:Bytes}{n:Nat}{r T:Plan}{p:Nat}(h:Jx)(t:Du r uL=aa T):Bv (gy (zA b n T aHi) (uL::x.1,x.2)):=by rw[a4 Gw];delta Lu;conv=>{lhs;unfold readSteps};rw[xj]
theorem aeL{b:Bytes}{p:Nat}(h:Jx):∃c:UInt8,aJ7/\eC<=4/\D5 (aLr/\2<=jz/\jz<=64):=by revert h;revert b p;refine Kj;rw[bV b p,eD];delta Gw aiH at h;cases q:b[p]? with|none=>{simp_all}|some c=>rw[ak c rfl,aj q,al7,d3 u c];{subst u;rw[v ay (fun _=>?_)];cases d2:b[p+1]? with|none=>{simp_all}|some n=>rw[aj d2,nw mJ,bC w (mT 2 64 jz),l (aP n (by delta mT at w;simpa using w))];simp_all};{rw[lL (an (cy e (an (u (by apply aC5;simpa using e))))),iW u,N e5 c 1,az,iW e5,N e6 c 2,az,iW e6,N c1 c 3,az,iW c1,N i0 c 4,az,iW i0,cG]}
theorem aSk{b:Bytes}{p:Nat}(h:Jx):Lu b p=(q4 (cZ p 1) (cZ (p+1) 1)):=by revert h;revert b p;refine Kj;rw[bV b p,eD,eC i0 a5 (aeL h)];rw[Tn b0];delta Lu aiH;rw[b0];simp only;have l:∀k:Nat,k<256->(c=aiI k↔eC=k):=fun k c3=>by{rw[<-UInt8.toNat_inj,aC6];rw[tY]};have I:=l 4 ay;have cs:aMD:=by{lia};rw[aMH];{obtain⟨n,d1,n1,n2⟩:=a5 e;have z:c=0:=ae (l 0 ay) e;rw[aK z,d1,e,Tn d1];have w:mT 2 64 jz=ab:=by{delta mT;simp[n1,n2]};simp+arith [*]};rw[z0 1,z0 2,z0 3,az]
theorem aeM(b:Bytes)(p:Nat):bk (ptAt b p).x/\bk (ptAt b p).y:=⟨eJ p 4 ptAt,eJ (p+4) 4 ptAt⟩
theorem auF(b:Bytes)(p:Nat):(bk (apm).at_.x/\bk (apm).at_.y)/\b1 (apm).glass/\b1 (apm).painting:=v (aeM b p) (eJ (p+8) 2 aC7) (eJ (p+10) 2 aC7)
theorem auG{b:Bytes}{p:Nat}(h:Jx):B_ uL:=by have⟨c,b0,i0,a5⟩:=aeL h;delta a3y;simp only;rw[Tn b0];split;{next e=>have⟨n,d1,n1,n2⟩:=a5 e;rw[Tn d1];rw[v (v ag ag (fun q e0=>?_)) (auF b _),it i (zm e0)];exact aeM b _};{split;rw[cX];{split;rw[l (aeM b _)];{split;rw[l (auF b _),cX]}}}
structure vh(b:Bytes)(N:Nat)(n:Plan)(f i:Nat)(R:bT)(p:Nat):Prop where
 ok:hl
 d:R.d=i
 l:lD=i
 first:K pd 0 n
 le:i<=N
 eq:u6 (gy (zA b (N-i) f_ p) (mU++x.1,x.2))
theorem aSl{b:Bytes}{N:Nat}{n:Plan}(C:yM n)(f:Nat):ep 0 (ky n) f:=by rw[y (aeJ C) rfl rfl (as cS)];show zA b N n f=gy (zA b (N-0) n f) ([]++x.1,x.2);rw[ah0];rw[kn (zA b N n f) x]
theorem aSm{R:bT}(Y:hl)(x:Gla.Step)(T:Plan):(ZL).cur=T:=by have a7:t PY=jJ:=by{rw[eS];have:=NJ;have:=wG;simp[*]};delta bT.cur NL;simp only;simp[*]
theorem vh.step{b:Bytes}{N:Nat}{n:Plan}{f i:Nat}{R:bT}{p:Nat}(I:aJa)(hN:N<=65536)(lt:i<N)(h:Jx){T:Plan}(t:HV f_ uL=Jq):ep (i+1) (Ww uL T) aHi:=by have d:=I.d;rw[b2 I.l,ds (I.ok.add (auG h) t (fu d.l (fH lt hN))) (by show jJ=_;rw[xD]) (as lt)];{show t (tL++[uL])=_;simp[*]};{show(PY++[T])[0]?=_;have:=I.ok.len;rw[hx ag,sS pS];exact I.first};{rw[dd I.eq];rw[a7H,aSj h (by delta Du;rw[t])]at e;rw[e,aSm U5];have a7:(Ww uL T).ss=mU++[uL]:=by{show tL++[uL]=_;grind-abstractProof};rw[a7];cases zA b (N-i_) T aHi with|error e=>{rfl}|ok x=>simp[Except.map]}
theorem vh.fail{b:Bytes}{N:Nat}{n:Plan}{f i:Nat}{R:bT}{p:Nat}(I:aJa)(lt:i<N){e:Fault}(h:Gw b p=aa e):u6 Ac:=Hs (aSh h)
theorem vh.no{b:Bytes}{N:Nat}{n:Plan}{f i:Nat}{R:bT}{p:Nat}(I:aJa)(lt:i<N)(h:Jx)(t:∀T,HV f_ uL≠Jq):u6 (wT 7):=Hs (aSi h (by delta Du;rw[Pj]))
theorem vh.done{b:Bytes}{N:Nat}{n:Plan}{f:Nat}{R:bT}{p:Nat}(I:ep N R p):u6 (.ok (mU,p)):=by have q:=I.eq;rw[cQ zv];rw[q];show Except.ok (mU++[],p)=_;rw[qJ]
noncomputable def yO(b:Bytes):hQ:=fZ 16 SAVED (E (STEPS<Z_) 2 8 (E (cw<16+JJ) 3 cw ae))
theorem aSn{b:Bytes}{e:Fault}(h:yO b=aa e):HY b=Ac:=by rw[a4 yO];delta HY;rw[eH,az,jY]
theorem auH{b:Bytes}(h:yO b=ae):(Z_<=65536/\16+JJ<=cw)/\HY b=(match wD (yz JJ)with| .error e=> .error a9G| .ok r=>match zA b Z_ r (16+JJ)with| .error e=>Ac| .ok (l,p)=>if p<cw then wT 8 else .ok (v r (G5 Aj) (oJ Aj))):=by rw[a4 yO];delta HY;rw[eH,alZ];next d2=>rw[eH,alZ];next q2=>rw[eH,alZ];next q3=>rw[eH,alZ];next i6=>rw[bj d2,bj q2,bj q3,bj i6];exact dx ⟨by delta STEPS at q3;exact(qp q3),jZ i6⟩
theorem vh.got{b:Bytes}{n:Plan}{p:Nat}{R:bT}(I:vh b Z_ n (16+JJ) Z_ R p)(h:yO b=ae)(j:wD (yz JJ)= .ok n)(a0:¬p<cw):HY b= .ok (pa Aj)/\kq (ih Aj):=by have Y:kq (ih Aj):=c I.ok.len (by show Aj<=lD;have:=I.l;simp[*]) I.ok.Ls I.ok.fit I.ok.st I.ok.few;rw[lL Y];rw[(auH h).2,j];simp only[I.done];rw[aO a0];have e:(pa Aj).first=n:=by{have:=aC2.1;rw[eS I.first];simp_all};rw[dW];delta pe at e⊢;simp only at e⊢;rw[e]
noncomputable def aeN(b:Bytes):hQ:=fZ jy ait (ko (iH rF) (E aJV 2 18 (E aMq 3 jy ae)))
theorem aeO(b:Bytes):(rF).pts.length=cZ 12 2/\(rF).lines.length=cZ 14 2/\(rF).marks.length=cZ 16 2:=i0 lC
theorem auI(b:Bytes):wA rF:=by have l:=aeO b;have y:=DT 4;have n2:=DT 2;rw[e (y 4) (y 8) ag ag ag ?_ ?_ ?_,aLP,aLP,aLP]
theorem auJ(b:Bytes):wD b=de (aeN b) Ac (jo (eQ rF) rF):=by rw[b2 (aeO b)];delta aeN wD;by_cases a3:cw<jy;rw[aZ,cD a3 a3];by_cases a9:xb≠ait;rw[aZ];rw[PM,PM,Wt];delta iH;rw[l.1,l.2.1,l.2.2];rw[ab n (rF).w JJ,ab f (rF).h Aj];rw[n,f];split;{rfl};split;{rfl};split;{rfl};split;{rfl};split;{rfl};{show _=de (av aJV (⟨2,18⟩:a3z) (E aMq 3 jy ae)) (Except.error e) (jo (rF).fault rF);by_cases e2:aJV;rw[aZ,cD e2 e2];by_cases e5:aMq;rw[aZ,cD e5 e5];rfl}
theorem auK{b:Bytes}{r:Plan}(h:wD b= .ok r):xO:=by rw[aj auJ];cases q:aeN b with|some e=>{simp_all}|none=>rw[aj q,al7];cases J:eQ rF with|some e=>{simp_all}|none=>rw[aj J,cG];exact⟨auI b,J⟩
noncomputable def Lv(w h:Nat):eh:=[jO,jG w,hm h,io w]
noncomputable def To(w h:Nat):mZ:=[(jO,jG w),(jO,hm h),(jG w,io w),(hm h,io w)]
noncomputable def auL(w h:Nat)(m:Mark):HW:=HQ w h (Lv w h) (To w h) [m]
theorem aSo{w h:Nat}(hw:0<w)(c7:0<h)(m:Mark):qo=rS:=by have Y:Ord bhD:=by{rw[ds ?_ ?_ ?_];{simp[Lv,ic,hw,c7]};rw[bbl,bbl];{intro e a0;simp at a0;rw[kB a0]<;>simp[Lv]};{simp[kA]}};have:=auw Y w h [m];delta auL;rw[ab e (Nq bhD) (To w h),am e];exact this
theorem Tp{w h:Nat}(m:Mark):eQ qo=eQ rS/\(eQ rS=ae->qo=rS):=by by_cases q:0<w/\0<h;rw[l3 (aSo q.1 q.2)];{have b4:iH qo=iH rS/\iH rS≠ae:=by{delta iH;rw[ab a (qo).w w,ab b (qo).h h,ab c (rS).w w,ab d (rS).h h];rw[a,b,c,d];by_cases z:wa w;rw[aZ];{rw[cD z z];have h6:mT aC9 aC8 h=ai:=by{delta mT aC9 aC8 at z⊢;grind-abstractProof};simp[*]}};rw[Wt,Wt,b4.1];cases J:iH rS with|none=>{rw[dQ J b4.2]}|some e=>exact bd (c8 PB)}
theorem auM{w h:Nat}{m:Mark}(hw:bk w)(c7:bk h)(c4:uO):wA rS:=by rw[e hw c7 AA AA AA ?_ ?_ ?_];{intro p c2;simp[aiJ]at c2;rw[kB c2];{decide};rw[l ⟨hw,a7_⟩,l ⟨a7_,c7⟩,l ⟨hw,c7⟩]};{intro e a0;simp[aiJ]at a0;rw[Fc]};{intro f7 Z;simp[aiJ]at Z;subst Z;exact c4}
theorem aSp{w h:Nat}{m:Mark}(hw:bk w)(c7:bk h)(c4:uO):wD (qT rS)=jo (eQ qo) qo:=by rw[at0 (auM hw c7 c4),(Tp m).1];cases q:eQ rS with|some e=>{rfl}|none=>rw[(Tp m).2 q]
theorem aSq{w h:Nat}{m:Mark}(hw:bk w)(c7:bk h)(c4:uO)(e:eQ qo=ae):yM qo:=by have q:=e;rw[cQ (Tp m).1,lL e];rw[(Tp m).2 q];exact auM hw c7 c4
universe GM
namespace GM
open Gla GlaKeeps
noncomputable def dst(o:Py)(c:GlaKeeps.Call):GlaKeeps.State×aT:=((aC_ (tk pe) c).1,a3A (aC_ (tk pe) c).2)
noncomputable def auN(e:Fault):aT:=[-5,v e.rule,v aC']
theorem aSr(o:Py){b:Bytes}(h:cw<=131072):dst o (.open_ b)=match wD b with| .error e=>aIx| .ok r=>qq (pe (ky r)):=qN BYTES (wD b)
theorem aSs(o:Py){b:Bytes}(h:cw<=67108864):dst o (.read b)=match HY b with| .error e=>aIx| .ok J=>qq J:=qN READ (HY b)
theorem auO(o:Py){c:GlaKeeps.Call}(a3:aGW=ab\/MZ=ab)(h:aiK c=ai):dst o c=(tk pe,[-1]):=by rw[Yr];rw[bj (by rintro⟨a,b⟩;rw[al a3,cK,az]),aK h];rfl
theorem aSt{c:GlaKeeps.Call}(h:aGW=ai):dst ae c=(ae,[-9]):=by rw[Yr];rw[aK (dx h)];rfl
theorem aSu(o:Py){w h:Nat}{m:Mark}(b3:aiK ao_=ab):dst o ao_=de (eQ qo) aIx (qq (pe (ky qo))):=by have c7:z (bk w) (bk h) aFI (b1 jx) (b1 kB):=by{delta wI zB aDa qU zB at b3;simpa using b3};rw[Yr,CU hS];delta a3B;simp only[jr,iR];rw[aSp c7.1 c7.2.1 c7.2.2];rw[EQ (eQ qo)]
theorem aeP{R:bT}{c:GlaKeeps.Call}(b3:aiK c=ab)(U:aGW=ai):dst lR c=((NM wH c).1,a3A (NM wH c).2):=by rw[Yr,cD aQ hS];cases c<;>first|rfl|(cases U)
theorem aSv{R:bT}(Y:hl){c:GlaKeeps.Call}{x:Gla.Step}(b3:aiK c=ab)(S:stepOf c=aa x)(sa:B_ x):dst lR c=match Lr f_ x with| .error none=>lA [-2]| .error (some e)=>lA (auN e)| .ok T=>mj (lA [-3]) (qq (ZL).gr):=by rw[aeP b3 (by cases c<;>first|rfl|rw[pN])];have e:NM wH c=stepOn wH x:=by{cases c<;>first|(rw[pN];rfl)|trivial};rw[e];delta stepOn;rw[Y.now,Tj Dv.2 sa.ok];cases Lr f_ x with|error q=>{cases q with|none=>{rfl}|some f=>rfl}|ok T=>simp only[Y.aeK];delta STEPS;split;{rfl};{rw[bT.aSe Y x T];rfl}
theorem aSw{R:bT}(Y:hl):gz .undo R.d tT:=gR R.d (aSf Y h) (auD Y h)
theorem aSx{R:bT}(Y:hl):gz .redo t_ jJ:=gR t_ (aSg Y h) (auE Y h)
theorem aSy{R:bT}(Y:hl){n:Nat}(h:n<=2):dst lR (.count n)=lA [0,ae bfh]:=by rw[aeP (x (dH bG)) rfl];delta NM;simp only[Y.now,Y.aeK,Y.auC];rfl
noncomputable def bN(b:Bytes):aT:=wJ (gT (v eC))
theorem aSz{R:bT}(Y:hl):dst lR .plan=lA (0::kd (bN (qT f_))::bN (qT f_)):=by rw[aGk];delta NM;simp only[Y.now];rfl
theorem aSA{R:bT}(Y:hl):dst lR .save=lA (0::kd a92::a92):=dc aGk
theorem aSB(o:Py){c:fA}{x:GlaKeeps.Call}(h:aHF):aiL (tk pe) c=dst o x:=f5 aiL h
universe GM
namespace GA
open PySem PySem.Spec PyProof.Rows L2
structure Tq(K:Fg)(mg:dM)(x:Str)(st:Stmt)(c5:cW)where
 f:ef
 fd:UT
 F:jm x fd
 m:jB (mg x) f
 b:aav
structure mw(K:Fg)(C:Addr)(m g:Str)(st:Stmt)(c5:cW)where
 f:ef
 fd:UT
 F:KW K m g st f fd
 b:aav
 h:Meth K C m f
structure vi(K:Fg)(C:Addr)(g:Str)(st:Stmt)(c5:cW)where
 f:ef
 fd:UT
 F:KW K "__init__" g st f fd
 b:aav
 h:Mk K C f
section z
variable{P:Program}{w:World}{K:Fg}{mg:dM}{base:Heap}{x m:Str}{C:Addr}{st:Stmt}{N c5:cW}{k:Nat}{e8:Sp}
abbrev Tq.Ok(R:apx)(P:Program)(w:World)(base:Heap)(k:Nat)(e8:Sp):Prop:=aMM
abbrev mw.Ok(R:a9w)(mg:dM)(P:Program)(w:World)(base:Heap)(k:Nat)(e8:Sp):Prop:=aMM
abbrev vi.Ok(R:y6 x)(mg:dM)(P:Program)(w:World)(base:Heap)(k:Nat)(e8:Sp):Prop:=aMM
theorem Tq.go(R:apx)(r:apw)(U:∀(e3:Value)(A:Around)(outer:ka)(s:Shared)(H:Hp)(vs:af)(Q:VK)(E:XK),Ca (yx sf P w K mg aj N x DY R.f e3 A ez s H E))(len:aJi):R.Ok P w aj (k+1) e8:=aLg
theorem mw.go(R:a9w)(r:apw)(U:∀(e3:Value)(A:Around)(outer:ka)(s:Shared)(H:Hp)(vs:af)(Q:VK)(E:XK),Ca (yx sf P w K mg aj N x DY R.f e3 A ez s H E))(len:aJi):bhk:=aLg
theorem vi.go(R:y6 x)(r:apw)(U:∀(e3:Value)(A:Around)(outer:ka)(s:Shared)(H:Hp)(vs:af)(Q:VK)(E:XK),Ca (yx sf P w K mg aj N x DY R.f e3 A ez s H E))(len:aJi):bhk:=aLg
universe z
section z
variable{X:Cx}
theorem kc{x:Str}{st:Stmt}{c5:cW}{e8:Sp}{j k:Nat}{e:Expr}{a7:fC}{t:TA}{p pos:Pos}(R:bgq)(G:bie)(a6:Qk)(c3:j<=k)(d8:qg)(b3:Fs)(l:mf)(a0:Bk)(b8:JQ):a'M:=aOM (G.mono c3) a6 d8 R.m R.F.kp R.b .nil fp b3 l a0 b8
theorem gi{x:Str}{n:Int}{pos:Pos}(c4:ax t (mG x) (eZ n))(d8:ce qg)(hd:mf):M (gP pos) (pq n):=by rw[i3 t c4];exact aqG d8 h (dx t) hd
universe z
variable{H L a8 b7:Hp}{K:Fg}
theorem b_{l:Addr}{o:HO}(h:wY):cY H JM:=sp (Y (em h) e)
theorem fG{l:Addr}{o:HO}(s:bQ)(h:wY):cY H (upd L l o):=sp (Y (em h) (s b u e))
def vj(H L:Hp):Prop:=j a O (cw tI) (L a=aa tI)
theorem vj.trans(a:vj H a8)(b:vj a8 b7):vj H b7:=fun x O h=>b x O (a x O h)
theorem cO(s:bQ):QG:=fun a O h=>bv h
theorem yP{l:Addr}{o:HO}(m:uQ (H l)):vj H JM:=fun a O h=>Y (an (by rw[bY];rw[h]at m;exact m)) h
theorem Gx{l:Addr}{o:HO}{O:af}(h:am l O):vj H JM:=yP (xs h)
theorem Gy{l:Addr}{o:HO}(h:wY):vj H JM:=cO (b_ h)
abbrev Pt:=Gla.Pt
abbrev Rl(I:Type):=be Hp V I
def lu{I:Type}(R:kh):Prop:=∀(H L:Hp)(v:V)(x:I),QG->R H v x->R L v x
theorem lu.go{I:Type}{R:kh}(s:uk){H L:Hp}{v:V}{x:I}(t:QG)(h:R H v x):R L v x:=s _ _ _ _ t h
noncomputable abbrev vn(n:Nat):V:= .int cJ
def oy:Rl Nat:=fun _ v n=>v=jf
inductive Lw(l:af)(H:Hp)(v:V):Prop|mk:o a (v=bc) (l1 l) (Lw l H v)
abbrev dG:Rl Pt:=fun H v p=>Lw [.int p.y,.int p.x] H v
inductive eR(H:Hp)(v:V)(l:ki):Prop|mk:∀a x y,b v bc (cw ZN) (br x l.1) (br y l.2) aod
abbrev sk:Rl fz:=fun H v e=>Lw [.int e.1,.int e.2] H v
abbrev so:Rl G6:=fun H v m=>Lw (cf ih ij jx kB) H v
def Gz:Rl (bZ Mj):=fun H v f=>match f with|none=>v= .bC|some e=>z a (v=bc) (cw (g7 e.rule aC'))
theorem sr:lu oy:=aoL
theorem dj:lu dG:=aK6
theorem gx:lu eR:=sh (by obtain⟨a,x,y,e,h,p,q⟩:=e0;exact a a x y e (bv h) (hH s p) (hH s q))
theorem iI:lu sk:=aK6
theorem jo:lu so:=aK6
theorem bjd:lu Gz:=fun H L v x s h=>by cases x with|none=>{exact h}|some e=>rw[ak q J h];exact v a q (bv J)
theorem Tr{I d:Type}{F G:qk}(h:a_3){l:ba}{m:nG}(q:f0 F):f0 G:=by induction q with|nil=>{rw[kL]}|cons J t i=>rw[cA (h _ _ J) i]
theorem mx{I d:Type}{F:qk}{l:ba}{m:nG}{i:Nat}{b:d}(q:f0 F)(h:an9):z a Zc (F a b):=bet
theorem oz{I d:Type}{F:qk}{l:ba}{m:nG}{i:Nat}{a:I}(q:f0 F)(h:Zc):z b an9 (F a b):=bet
theorem oA{I d:Type}{F:qk}{l i1:ba}{m f7:nG}(h:f0 F)(s:dD F i1 f7):dD F (l++i1) (m++f7):=a'z
theorem sv{I d:Type}{F:qk}(n:Nat):po (G5 n) (m.take n):=by induction n with|zero=>{intro l m _;exact .nil}|succ n d6=>rw[bZ l m];cases h with|nil=>{rw[kL]}|cons J t=>rw[cA J (d6 t)]
theorem Ca{I d:Type}{F:qk}(n:Nat):po (oJ n) (m.drop n):=by induction n with|zero=>{rw[bZ l m];exact h}|succ n d6=>rw[bZ l m];cases h with|nil=>{rw[kL]}|cons J t=>exact d6 t
theorem auP(ns:ao):dD (oy H) je ns:=by rw[wE ns]
theorem vk{vs:af}{ns:ao}(h:dD (oy H) vs ns):vs=je:=a9m
inductive Cb{I:Type}(R:kh)(K:Fg)(H:Hp)(a:Addr)(O:ba):Prop|mk:oS (mz vs) (@Cb I R K H a O)
theorem Cb.mono{I:Type}{R:kh}(A:uk){a:Addr}{O:ba}(s:bQ)(h:bm R a O):Cb R K L a O:=ld (zC q) (cO s)
inductive dB{I:Type}(R:kh)(H:Hp)(a:Addr)(O:ba):Prop|mk:oS (am a vs) (@dB I R H a O)
theorem dB.mono{I:Type}{R:kh}(A:uk){a:Addr}{O:ba}(s:bQ)(h:apf):dB R L a O:=ld (bv q) (cO s)
theorem dB.ls{I:Type}{R:kh}{a:Addr}{O:ba}(h:apf):bm R a O:=nF (av q) p
theorem dB.put{I:Type}{R:kh}(A:uk){a l:Addr}{o:HO}{O:ba}(h:apf)(m:uQ (H l))(ne:a≠l):dB R JM a O:=ld (Y ne q) (yP m)
theorem aSC{d0:It}{g:TG}{c3:TS}{D:Ends}{M:L2.St}{H:Hp}(n:Nat)(j:dJ HZ Hp)(b1:amO)(go:lw (i<n) Po)(stop:j M H (j n M H) (aDb n H))(c0:∀i M H x L,i (i<n) akP Pw (ga M aGe))(hd:tu n):em HZ (W 0 m M H) (V ak1 alE OD Po (∃N:eo HZ,(ak6)/\j x L Pw (ga M (r4 N)))):=by rw[eU n Qh n,apZ];by_cases Z:i<n;rw[co (d (go i M H Z p) (j (i+1)) baN (fun x L y=>c0 i M H x L Z p y))];{have e:i=n:=mP hi (za Z);rw[bY];exact dp (stop M H p) apo}
theorem aeQ{I d:Type}{d0:It}{g:TG}{c3:TT}{b8:TE}{vs:ao}{M:L2.St}{a8:Hp}{D:Addr}{k:jb}{R:Rl d}(A:uk)(Y:ba)(r:be Hp V I)(f:aHg)(a7:gA D)(c9:eM<hv)(go:l i H (i<eM) anI Po)(stop:E H anI (aDb eM H))(b6:∀i H x L,i anI (i<eM) Pw (bQ/\z a Et (r L x a)))(c0:K_ (r L x a))(hd:vl (a3C f)):KU (k H):=by let j:Y1:=mO (anI/\I d7 (am D d7) (dD (R H) d7 (ku (Wx i) f)) (oP<=i));rw[ak (m1 eM (i<=eM)) (a eM bI cS (b_ a7) [] ak .nil a_)];rintro i m H⟨rfl,hi,s,d7,l,c5,le⟩;rw[fI Z eM];{refine i2 (go i H Z s) (fun L u=>j7 eM (aS eM i));obtain⟨a4,a,b3,c⟩:=b6 i H x L s Z y;rw[a7w];refine c0 i a x L _ _ b3 (il a4) c (fun y e4 b n d9 J=>?_) (fun fn d4 c8=>?_);{have d3:=fG (di l);rw[e d7 d3 (br le Z c9) (fG (J (il a4) d9) a7) (eA d7) ak ?_ ag];rw[g9,aiM];rw[ae t e4 (U e4 D (eA d7)) (Gx d3)];refine oA (dE (NN (J (cO (eX d9)) t)) c5) ?_;simp only[Ha,n,aDc];exact hq (NN t J)};{rw[j (J (il a4) c8) d7 (dm (di l)) ?_ EI];rw[g9,aiM];simp only[Ha,fn,aDc,qJ];exact dE (NN (cO (eX c8))) c5}};{have e:i=eM:=mP hi (za bG);rw[bY];rw[H0]at c5;exact dp (stop H s) (hd H d7 s l c5)}
theorem aeR{I d:Type}{g:TG}{c3:TT}{b8:TE}{vs:ao}{M:L2.St}{a8:Hp}{D:Addr}{k:jb}{c:kh}(s0:lu c){R:Rl d}(A:uk){l:Addr}{Y:ba}(a5:wo c)(f:aHg)(a7:gA D)(c9:eM<hv)(c0:K_ (c L x a))(hd:vl (a3C f)):d7 ON ON ON:=by rw[aGD];refine aeQ A Y (fun H x a=>c H x a) f a7 c9 aMd (fun H s=>ap O (zC q) wF a_) aMJ c0 hd;{rw[bb5];exact d O x (zC q) S};{obtain⟨rfl,y⟩:=y;rw[bcV];exact d eg b U (s0.go (cO s) J)}
theorem aSD{I d:Type}{g:TG}{c3:TT}{b8:TE}{vs:ao}{M:L2.St}{a8:Hp}{D:Addr}{k:jb}{c:kh}(s0:lu c){R:Rl d}(A:uk){l:Addr}{Y:ba}(a5:wo c)(f:Nat×I->bZ d)(a7:gA D)(c9:eM<hv)(c0:∀(i:Nat)a T x L(h4:VK)(N:jb),c Et OH (L T=aa (eq x)) (c L x a) (wL (f (i,a))->(f (i,a)=ae->aGC)->be al1 tw L aGr))(hd:vl (ku aKy f)):d7 aJd aJd aJd:=by rw[aGD,aS i0 (t aKy) eM];refine aeQ A aKy (fun H v a=>∃T x,v=al1/\bh T (d_ (cd a.1) x)/\c H x a.2/\K Y a.1 a.2) f a7 ag aMd (fun H s=>v O (zC q) (ac wF i0 a_)) aMJ (fun i a x L h4 N b3 s⟨T,b1,e,c6,J,hi⟩a3 a9=>?_) hd;{rw[i0]at hi;rw[bb5];exact d O x (zC q) S};{rw[i0]at hi;obtain⟨T,b1,rfl,Z,rfl,y⟩:=y;rw[bcV,c (b_ Z) (i,b) ?_ T b1 ak (s0.go (cO (il (b_ Z))) J) U,L aiN ⟨ag,U⟩]};rw[sN (c0 a.1 a.2 T b1 L h4 N hi s c6 J a3 a9)]
universe GA
section z
open PySem PySem.Spec PyProof.Rows L2
instance nR:eI aDd:=⟨v [] [] 0⟩
instance nC:eI a3D:=⟨.undo⟩
universe z
namespace GA
structure yQ(a b c:Prop):Prop where mk::
 (A:a)
 (B:b)
 (C:c)
structure vl(a b c d:Prop):Prop where mk::
 (A:a)
 (B:b)
 (C:c)
 (D:d)
structure GB(a b c d e:Prop):Prop where mk::
 (A:a)
 (B:b)
 (C:c)
 (D:d)
 (E:e)
structure Aa6(a b c d e f:Prop):Prop where mk::
 (A:a)
 (B:b)
 (C:c)
 (D:d)
 (E:e)
 (F:f)
structure Aa7(a b c d e f g:Prop):Prop where mk::
 (A:a)
 (B:b)
 (C:c)
 (D:d)
 (E:e)
 (F:f)
 (G:g)
structure Aa8(a b c d e f g h:Prop):Prop where mk::
 (A:a)
 (B:b)
 (C:c)
 (D:d)
 (E:e)
 (F:f)
 (G:g)
 (H:h)
structure Aa9(a b c d e f g h i:Prop):Prop where mk::
 (A:a)
 (B:b)
 (C:c)
 (D:d)
 (E:e)
 (F:f)
 (G:g)
 (H:h)
 (I:i)
inductive vm{e f:Type}(p:au e f):Prop|mk:eR (p a b) (vm p)
inductive Lx{e f g:Type}(p:be e f g):Prop|mk:∀a b c,p a b c->Lx p
inductive GC{e f g h:Type}(p:aa e f g h):Prop|mk:z2 (p a b c d->GC p)
universe GA
namespace GA
open PySem PySem.Spec PyProof.Rows L2
section z
variable{X:Cx}{K:Fg}
theorem ixl(g:fB):KP X (Si K):=g▸arw
theorem ixt(g:fB):KP X (Sj K):=g▸arx
theorem flK{e:Expr}{f:Str}{pos:Pos}{d6:TE}(g:fB)(a0:M e d6)(U:bgc):zt K:=g▸aOE a0 U
theorem ptK{a7:fC}{k:Nat}{pos:Pos}{t:yr}{n:Nat}(g:fB)(b0:fQ)(h:Kv X a7 t)(d1:a_D)(z:a_T):GY K:=g▸aNJ b0 h d1 z
theorem aSJ(g:fB):fL "len" (KR K):=g▸arB
theorem aSK(g:fB)(b0:fQ):fL "all" (ads K):=g▸aPx b0
theorem aSL(g:fB):Kd bbb:=g▸aPk
theorem aSM(g:fB):p7 (fW K H p d7) (nc d7):=g▸aPl
theorem eqK(g:fB)(hu:uJ):be .Eq (adt K):=g▸aPy hu
theorem neK(g:fB)(hu:uJ):be .NotEq (adu K):=g▸aPz hu
theorem inK(g:fB):be .In (KQ K ai):=g▸aPi
theorem aSQ(g:fB):be .NotIn (KQ K ab):=g▸aPj
theorem aSR(g:fB):KO X (Sk K):=g▸aPf
theorem aSS(g:fB):KO X (adm K):=g▸aO9
theorem aST{a:Expr}{d6:TE}(g:fB)(b3:fU)(a0:apl):BJ K:=g▸aOq b3 a0
universe z
theorem auR(f:Str)(v:V):∀l:hU,bd (gl l) (d_+1)|[]=>a_|p::J=>by have d6:=auR f v J;rw[n1 p];unfold kk;split;{simp};rw[l (Vf d6)]
theorem vo{f:Str}{v:V}{l:hU}{n:Nat}(h:d_<n):t (gl l)<n+1:=bv (auR f v l) (cf this h)
theorem Ts{b8:TE}{M:L2.St}{H:Hp}{Q:VK}{N:jb}(h:oj Q):arL M H (fun b d4=>Z b (b8 M d4 Q) (N d4)):=w_
theorem aSU{I d:Type}(f:Ff):∀l:ba,Me (an (aa (f e)))=xK|[]=>rfl|a::J=>aQ
theorem Ly{I:Type}(p:AU):n8 e (zr p)|[]=>rfl|a::J=>G6 (Ly p J)
theorem aSV:iT "len" "len":=a3E
theorem auS:aJ6:=dw
theorem aSW:vP "tuple"=aa rn:=dw
theorem aSX:vP "set"=aa Jo:=dw
theorem aSY:iT "sorted" "sorted":=dw
theorem aSZ:iT "max" "max":=dw
theorem aS0:a'I:=dw
theorem aS1:iT "all" "all":=dw
def GD(K:Fg)(mg:dM)(x:Str)(O:af):Prop:=Eq bev
def tKT(K:Fg)(O:af):TE:=lG (E a uG (Q bc H))
theorem GT{X:Cx}{K:Fg}{x:Str}{O:af}{pos:Pos}(c4:GD K mG x O)(g:FC)(d8:ce qg)(hd:mf):M (gP pos) (tKT K O):=by rw[ak b3 h c4,nb e0];exact hm hd Q (e0 a (.inr h))
def auT(K:Fg)(mg:dM)(x:Str)(F:gs):Prop:=Eq (∀(P:Program)(w:World)(h:Heap),uh->apH)
inductive jKD(F:gs)(Q:VK)(y:V)(a8:Hp):Prop|mk:f k v (y=kV k) (uE=aa v) (Q v a8) (jKD F Q y a8)
def tKD(F:gs)(A:TE):TE:=wy (jKD F Q)
theorem aS3{X:Cx}{K:Fg}{x:Str}{F:gs}{i:Expr}{A:TE}{pos p:Pos}(hd:auT K mG x F)(hi:yc)(c0:Sv i)(g:FC)(d8:ce qg)(l:mf):M (eV (gP p) i) (tKD F A):=by subst g;rw[ak b3 a7 hd,fx];refine arZ a3F c0 (bD (hm l (fun z a8=>z=bc/\tKD F A M a8 Q) (bd h)) (fun u a4⟨z,a8,r,e,c1,d2⟩=>a7q));obtain⟨y,b7,Y,Z,k,v,c3,d3,q2⟩:=P;subst c1;rw[jW,fh (u=dk a) e,bE d j (a7 eA X.w agX Y.Kt),m3 (CV vs k) (bl d3 (Vu k))];exact⟨Vv,a2i (BA Z) ahr hw (a v b7 (aiO _) W q2)⟩
noncomputable def auW:gs:=[nS 1,gQ 2 6,gQ 3 4,gQ 4 2,gQ 5 3,gQ 6 5,gQ 7 1,nS 8,nS 9,gQ 10 1,nS 11,nS 12,nS 13]
theorem aS4:Y aMG aMG aaX:=bf
theorem aS5:an ["number"] "number" aaY:=uv
theorem aS6:Gg aaZ:=bf
theorem aS7:Gg aa0:=bf
theorem aS8:an ["drawing"] "drawing" aa1:=uv
theorem aS9:bU "points" "a" "b" aa2:=bf
theorem aS_:Y ["width","height","points","ends","marks","standing","numbers","number","point","lines","p","q"] (v3 "ends") aa3:=bf
theorem aS':Y ["a","b"] ["a","b"] aa4:=bf
theorem aTa:Y ["width","height","mark","low_left","low_right","high_left","high_right","points","ends"] ["width","height","mark"] aa5:=bf
theorem Tt:Y ["data","place","size","value","byte"] ["data","place","size"] aa6:=bf
theorem aTb:D2 aa7:=uv
theorem aTc:D2 aa8:=i9 ah
theorem aTe:t9 aa9:=uv
theorem aTf:Y anW anW aa_:=bf
theorem aTg:kC ["data","fault","points","lines","marks"] aa':=bf
theorem aTh:H4 aba:=bf
theorem aTi:H4 abb:=bf
theorem auX:nl "spot" abc:=bf
theorem aTj:kC ["data","lines_begin","marks_begin","points","place","lines","marks"] abd:=bf
theorem aTk:an ["point"] "point" abe:=uv
theorem aTl:an ["line"] "line" abf:=uv
theorem aTm:an ["mark"] "mark" abg:=uv
theorem aTn:an ["cartoon","data","row","point","line","mark"] "cartoon" abh:=bf
theorem aTo:KE abi:=bf
theorem aTp:KE abj:=bf
theorem aTq:Y apI apI abk:=bf
theorem aTr:Y ["row","spot","low","high","middle","line"] ["row","spot"] abl:=bf
theorem aTs:kA abm:=uv
theorem aTt:kA abn:=i9 ah
theorem auY:dp (oG "number") "number" abo:=bf
theorem aeS:Y ["self","one","other"] ["self","one","other"] abp:=bf
theorem aeT:dp (b2 "spot" "at" "line") "spot" abq:=bf
theorem aeU:Y ["self","left","right","begun","between","number"] (b2 "left" "right" "begun") abr:=bf
theorem aTu:Y ["self","point","ended","tops","at","begun","gaps","number","line"] (b2 "point" "ended" "tops") abt:=bf
theorem aeV:Y ["point","tops","row","top"] ["point","tops"] abu:=bf
theorem aTv:Y ["self","sweep","gaps"] ["self","sweep","gaps"] abv:=bf
theorem auZ:ch "mark" "gap" "mark" abw:=bf
theorem au0:ch "line" "gaps" "line" abx:=bf
theorem Tu:an (b2 "links" "own" "number") "self" aby:=bf
theorem aTw:iI ["drawing","sweep","tops","point","ended","a","b","gaps","mark","waiting","number","at","spot"] abz:=bf
theorem aTx:Y ["drawing","i","j","panes","homes","turned","line"] ["drawing","i","j"] abA:=bf
theorem aTy:iI ["drawing","rows","point","a","b"] abB:=bf
theorem aeW:an ["neighbours","number","row"] "neighbours" abC:=bf
theorem aTz:an ["neighbours","came_from","tried","row","path","here","there"] "neighbours" abD:=bf
theorem au1:Y ["neighbours","came_from","number"] ["neighbours","came_from"] abE:=bf
theorem aTA:ok ["neighbours","came_from","order","rank","row","position","number","earliest","here","there","back"] abF:=bf
theorem aTB:ok ["neighbours","came_from","ranks","rank","earliest","begun_at_first","cuts","number","above"] abG:=bf
theorem Tv:kC ["data","fault","drawing"] abH:=bf
theorem Tw:Iy abI:=bf
theorem aTC:f7 "before" "before" abJ:=bf
theorem aeX:Iy abK:=bf
theorem aTD:iI ["drawing","fault"] abL:=bf
theorem aTE:bU "last" "number" "point" abM:=bf
theorem aTF:bU "last" "number" "line" abO:=bf
theorem aTG:iI ["drawing","width","height","points","edges","number","point","joined","line","row","first","last"] abQ:=bf
theorem au2:Y ["points","row","first","last","joined","line"] bfT abR:=bf
theorem aTH:Y ["drawing","before","known_lines","known_points","line","point","new_points","ends","new_ends","number","tangled","numbers"] ["drawing","before"] abS:=bf
theorem aTI:Y ["line","points","rivals","first","second","point","rival"] ["line","points","rivals"] abT:=bf
theorem aTJ:bU "neighbours" "number" "came_from" abU:=bf
theorem aTK:bU "panes" "homes" "number" abV:=bf
theorem aTL:Y ["drawing","homes","last","number","mark","spot"] ["drawing","homes"] abW:=bf
theorem Tx:an ["homes","seen","number","home"] "homes" abX:=bf
theorem aTM:Y ["cartoon","step"] ["cartoon","step"] abY:=bf
theorem aTN:Y aK2 aK2 abZ:=bf
theorem aTO:an ["row"] "row" ab0:=uv
theorem aeY:Y ["line","row","inside","point"] ["line","row"] ab1:=bf
theorem aeZ:Y ["cartoon","row","mark","ends","line"] ["cartoon","row","mark"] ab2:=bf
theorem aTP:Y ["cartoon","i","j","gone","line","ends","points"] ["cartoon","i","j"] ab3:=bf
theorem aTQ:Y ["cartoon","k","point","points","ends","a","b"] ["cartoon","k","point"] ab4:=bf
theorem au3:Y ["cartoon","i","mark","marks"] ["cartoon","i","mark"] ab5:=bf
theorem aTR:Y ["cartoon","k","points","near","a","b","ends"] ["cartoon","k"] ab6:=bf
theorem aTS:dp (oG "first") "first" ab7:=bf
theorem aTT:kA ab8:=i9 ah
theorem aTU:kA ab9:=Qc
theorem ae0:dp (b2 "step" "drawn" "fault") "step" ab_:=bf
theorem aTV:kA ab':=Qc
theorem aTW:kA aca:=Qc
theorem aTX:kA acb:=Qc
theorem aTY:an ["fault"] "fault" acd:=uv
theorem aTZ:an ["record","first","data","number","step"] "record" ace:=bf
theorem ae1:an ["step","data","point"] "step" acf:=bf
theorem aT0:kC ["data","fault","steps_place","told","record","number"] acg:=bf
theorem aT1:t9 ach:=i9 ah
theorem aT2:t9 aci:=i9 ah
theorem Tz:Y ["record","data","place","number","fault"] ["record","data","place"] acj:=bf
theorem au4:nl "missing" ack:=bf
theorem ae2:nl "size" acm:=bf
theorem ae3:Y ["data","place","kind","number"] ["data","place"] acn:=bf
theorem aT3:Y ["data","place","row_place","mark_place","row","at"] ["data","place"] aco:=bf
theorem aT4:kA acp:=Qc
theorem aT5:Y bc_ (b2 "call" "numbers" "row") acq:=bf
theorem au5:Hj acr:=bf
theorem ae4:dp (b2 "numbers" "drawing" "fault") "numbers" acs:=bf
theorem au6:Hj acu:=bf
theorem aT6:dp (oG "record") "record" acv:=bf
theorem ae5:an ["lengths","length"] "lengths" acw:=bf
theorem ae6:an ["numbers","number"] "numbers" acx:=bf
theorem aT7:KF acy:=bf
theorem aT8:an ["numbers"] "numbers" acz:=uv
theorem ae7:an ["row","at"] "row" acA:=bf
theorem aT9:KF acB:=bf
theorem aT_:Y ["record","call","numbers"] ["record","call","numbers"] acC:=bf
theorem aT':Y ["record","what"] ["record","what"] acD:=bf
theorem aUa:t9 acE:=Qc
theorem aUb:an ["calls","desk","told","at","call","row_at","numbers","row","answer"] "calls" acF:=bf
universe GA
section z
set_option tactic.hygienic true
namespace GA
open PySem PySem.Spec PyProof.Rows L2
theorem Lz{K:Fg}{x q:Str}{st:Stmt}{f:Addr}(e:m4 f x):jm q (fdOf K f):=by unfold oF oE at e;unfold fdOf;rw[PL];{rename_i D m fd sl l;obtain⟨n,y,u,bo,a,gl,e9,g,kd,dc,b3,j,R,ct,i⟩:=fd;simp only[aiP,Cu,FuncData.mk.injEq]at e;obtain⟨⟨rfl,rfl,rfl,rfl,rfl,rfl,rfl,rfl,-,-,-,-,-,-,rfl⟩,c,k⟩:=e;exact aQi l c k};{rw[dS]}
variable{K:Fg}{h:Heap}{mg:dM}{x m q:Str}{st:Stmt}{c5:cW}{C:Addr}
noncomputable def fnF(K:Fg)(x:Str):=(fn x,oF K x (dn x))
noncomputable def aUc(G:Bl)(a:a'_)(e:oF K x (dn x)=oE x x st)(b:hI x x):apx:=a _ _ (Lz e) (G _ _ a) aJB
noncomputable def aUd(a:hC m Zy)(i:p2 (.ref Zy))(e:m4 Zy m)(b:hI m q):mw K C m q st c5:=a _ _ (Lz e) aJB a i (Lz e).kp
noncomputable def aUe(a:hC "__init__" aHM)(i:p2 (.ref aHM))(mk:amm)(y:aH6)(e:m4 aHM "__init__")(b:a8N):y6 q:=a _ _ (Lz e) aJB mk a i y
theorem GF{P:E9}(h:P []):∀b1:aM,ly=0->P b1:=fun b1 e=>bt (NO e)▸h
theorem my{n:Nat}{P:E9}(h:j a b1 (ly=n) (P (a::b1)))(b1:aM)(e:ly=n+1):P b1:=by cases b1 with|nil=>{contradiction}|cons a b1=>exact h a b1 (aDh e)
theorem sx{P:E9}(h:∀a,P [a]):n9 1:=my (fw (GF (h a)))
theorem vp{P:E9}(h:∀a b,P [a,b]):n9 2:=qX (GF (h a b))
theorem us3{P:E9}(h:∀a b c,P aaM):n9 3:=qX (my (gT (GF (h a b c))))
theorem LA{P:E9}(h:z2 (P [a,b,c,d])):n9 4:=qX (my (gT (my (jp (GF (h a b c d))))))
theorem us5{P:E9}(h:∀a b c d e,P [a,b,c,d,e]):n9 5:=qX (my (gT (my (jp (my (an (GF (h a b c d e))))))))
theorem us6{P:E9}(h:∀a b c d e f,P [a,b,c,d,e,f]):n9 6:=qX (my (gT (my (jp (my (an (my (fun f=>GF (h a b c d e f)))))))))
universe GA
universe z
section z
set_option tactic.hygienic true
namespace GA
open PySem PySem.Spec PyProof.Rows L2
theorem ae8{K:Fg}{x:Str}(e:yl (fn x)=ab):a'_:=by unfold adr;unfold yl at e;rw[PL];{rename_i h;rw[h]};{rw[dS]}
theorem au7{K:Fg}{C:Addr}{x:Str}(e:yl (hu x)=ab):hC x (RI K C x):=by unfold RI;unfold yl at e;rw[PL];{rename_i h;rw[h]};{rw[dS]}
theorem au8{v:Value}{i:Int}(e:vI v=aa i):∃t,v=eZ i:=by unfold vI at e;rw[PL];{rw[dS];exact ei};{rw[dS]}
theorem aUi(P:Program)(w:World):∀{a7:bL Vx}{c5:aO Int Int},a7.map nE=aiQ nP->I vs (KV (aiQ (ai ((.inl q.1:Key),cp q.2))) vs) (Pairs tG a7 vs) (dc a7 (z k (z6 e.key) (e.hash=(tG).hash k))):=by intro a7;induction a7 with|nil=>{intro c5 z;cases a3G wa;exact d [] .nil .nil (fun e m=>iT (oQ m))}|cons e a7 d6=>intro c5 z;cases c5 with|nil=>{contradiction}|cons p c5=>injection z with a z;rw[Hc (d6 z),dN h a a,n1 (lE a),baT];obtain⟨u,b⟩:=au8 b;rw[bH c1 B e,cG];cases a;cases b;rw[w ((.inl p.1,mE p.2)::vs) (.cons (ai u rfl) d2) (.cons (acV p.1 t) rfl q2) a71,g6 (h_ m) rfl,l (bp (.inl p.1) (acV p.1 t)),l (q3 e m)]
theorem aUj{c:Type}{l:hT}{m:Fm}(h:KV l m):aDi fM=Ek:=by induction h with|nil=>{rfl}|cons J t d6=>rw[c_,c_,d6,J.1]
variable{K:Fg}{h:Heap}{mg:dM}{x m q:Str}{st:Stmt}{c5:cW}{C:Addr}
theorem aUk(G:Bl)(e:aKm=(ab,aMp)):bd4:=by rw[eA b4 (lE e)];unfold nmF at b9;split at b9;{rename_i c d a7 e1 sl l;rw[bb9];obtain⟨rfl,rfl,s,rfl⟩:=b9;rw[eX a8T (fun P w h' a=>?_),Hc (aUi P w s),d vs d2 _ a7 e1 (a _ _ l) tE (aJ (fun d m=>q3 d (ax m)) q2)];rw[aUj d2];decide};{cases b9}
theorem aUl{l:aT}{b1:aM}(e:aiR vI=kv aa):ey (kv cp):=by induction b1 generalizing l with|nil=>{rw[a4 (a3G CL) .nil]}|cons u b1 d6=>cases l with|nil=>{contradiction}|cons i l=>injection e with a b;rw[baT,L a (.cons ei (d6 b))]
theorem aUm{l:aT}(G:Bl)(e:(yl (fn x),RK K x)=(ab,aa (aGa,kv aa)))(n:d_<=9:=by decide):a'L:=by rw[eA b4 (lE e)];unfold RK at b9;split at b9;{rename_i c d ar e1 sl k;rw[bb9,eA rfl b9];have z:=gz aC0 b9;simp only[bA,Va]at z;exact a _ a8T _ ar _ k rfl rfl ⟨t z (cn n ay),aUl b9⟩};{cases b9}
theorem aUn{i:Int}(G:Bl)(e:RJ (fn x)=aa i):ab x i:=by unfold RJ at e;rw[PL];{rename_i t a;rw[dS];exact aW (G _ _ a)};{rw[dS]}
universe GA
universe z
section z
set_option tactic.hygienic true
namespace GA
open PySem PySem.Spec PyProof.Rows L2
noncomputable def abP(K:Fg)(x:String):Prop:=fn x=aa ae
noncomputable def itP(K:Fg)(p:gy×Int):Prop:=RJ (fn p.1)=aa p.2
noncomputable def tpP(K:Fg)(p:gy×aT):Prop:=n0 (RK K p.1)=(ab,a9h)
noncomputable def atP(K:Fg)(p:gy×EK):Prop:=n0 bbT=bex
noncomputable def fnP(K:Fg)(p:gy×ax):Prop:=n0 a'n=(ab,bbU)
noncomputable def meP(K:Fg)(p:bfd):Prop:=li p.2.1 (aS p)=(ab,bdE)
noncomputable def inP(K:Fg)(p:aLs):Prop:=li "__init__" p.2.1=(ab,bdD)
variable{K:Fg}{h:Heap}{mg:dM}{x m q:String}{st:Stmt}{c5:cW}{c:String}
noncomputable def au_(G:Bl)(e:fnP K (x,st))(b:hI x x):apx:=aUc G (ae8 (lE e).1) YT b
noncomputable def aUr(e:meP K (c,m,q,st))(b:hI m q):mw K (dn c) m q st c5:=DN (aUd (au7 z.1) z.2 YT b)
structure ClP(K:Fg)(C:Addr):Prop where
 c:Zh
 m:amm
 k:aH6
theorem aUs{l:EK}(e:atP K (c,l)):bgw:=by rw[eA b4 (lE e),dN b9 e7 b9,dN e7 g5 e7,wO b9];obtain⟨⟨⟨⟨a,b⟩,c⟩,d⟩,k⟩:=b9;exact v (ae8 b4) (v (d a b c e7) d k) (aDj g5)
noncomputable def aUt(Z:ClP K (dn c))(e:inP K (c,q,st))(b:a8N):vi K (dn c) q st c5:=DN (aUe (au7 z.1) z.2 Z.m Z.k YT b)
theorem fc{I d c:Type}{f g:Ff}{l:ba}{a b:c}(e:(xK,a)=(kv g,b)):bk l (f x=g x)/\a=b:=⟨aDj (lE e).1,YT⟩
theorem ava(e:aaL):bk abN (abP K x)/\bk itN (itP K x)/\bk tpN (tpP K x)/\aKm=(ab,aMp)/\N (bk atN (atP K x)) (bk fnN (fnP K x)) (bk meN (meP K x)) (aK FL (inP K x)):=by have⟨a,e⟩:=fc e;have⟨b,e⟩:=fc e;have⟨c,e⟩:=fc e;rw[ck d (lE e)];have⟨f,e⟩:=fc e;have⟨g,e⟩:=fc e;have⟨i,e⟩:=fc e;exact a a b c d f g i (aDj e)
universe GA
universe z
namespace L2
open PySem PySem.Spec PyProof.Rows
open PySem.W(WData Codec OpenSpec Well WellAll ReadsW ReadsAllW)
mutual inductive Dw(K:PySem.W.Frag)(H:Hp):au V aiS|bC:e4 .bC .none|bl(b:Bool):e4 EO I3|int(i:Int):e4 hP hP|str(x:Str):e4 Jn Jn|iC(b:fq Ml):e4 (.iC b) (.bytes b.toList)|lst{a:Addr}{O:af}{c7:pO}:jg->eL O c7->e4 bc aGL|tup{a:Addr}{O:af}{c7:pO}:uG->eL O c7->e4 bc aGU inductive afa(K:PySem.W.Frag)(H:Hp):au af pO|nil:eL [] []|cons{v:V}{vs:af}{d:WData}{c7:pO}:e4 v d->eL vs c7->eL (v::vs) (d::c7)end
theorem avb{K:PySem.W.Frag}{H:Hp}:∀ns:aT,eL xF a7N|[]=> .nil|n::J=> .cons (.int n) (avb J)
theorem avc{K:PySem.W.Frag}{H:Hp}:∀(ns:aT)(O:af),eL O a7N->O=xF|[],O,h=>aHf|n::J,O,h=>by cases h with|cons a3 a9=>cases a3;rw[avc J _ a9]<;>rfl
section z
variable{P:Program}{w:World}{K:PySem.W.Frag}{H:Hp}{h:Heap}{R:PySem.W.WRecords}{e9:Str->nf}
theorem aUu{a:Addr}{O:af}(dr:la)(y:uh)(q:jg):IG Aa:=by rcases q with q|⟨o,ar,n,e,b0,_,hd,_,d3⟩;{obtain⟨_,ar,n,d3,e⟩:=du (g8 (.lst O)) (q.ok dr);exact a ar _ n d3 (aP e rfl)};rw[l (a My o n d3 (y _ _ e) b0 bB)]
theorem aUv{a:Addr}{O:af}(dr:la)(y:uh)(q:uG):IG rn:=by rcases q with q|⟨o,ar,n,e,b0,hd,_,d3⟩;{obtain⟨_,ar,d3,o,e,b0,n,hd⟩:=du (g8 tI) (q.ok dr);exact a ar o n d3 e b0 hd};rw[l (a My o n d3 (y _ _ e) b0 bB)]
theorem Dw.reads(dr:la)(y:uh){d:WData}{v:V}(u:Value)(x:e4 v d):jh->∃Y,nd h d:=by refine Dw.rec (motive_1:=fun v d _=>E u jh (∃Y,nd h d)) (motive_2:=fun vs c7 _=>E b1 Fd (∃Y,ReadsAllW R e9 h b1 c7 Y)) ?_ ?_ ?_ ?_ ?_ ?_ ?_ ?_ ?_ x u;{intro u J;rw[hM];exact aW ReadsW.none};{intro b u J;rw[hM];exact aW (ReadsW.bool b)};{intro i u J;rw[Eb];exact aW (ReadsW.int i t)};{intro s u J;rw[Eb];exact aW (ReadsW.str s t)};{intro b u J;rw[Eb];exact aW (ReadsW.bytes _ t)};rw[rb (aUu dr y c0) (ReadsW.list d0 b0 hd a6),rb (aUv dr y c0) (ReadsW.tuple d0 b0 hd a6)];{intro b1 J;rw[hM];exact aW ReadsAllW.nil};{intro v vs d c7 a3 a9 c2 N b1 J;cases J with|cons r1 r2=>rw[ft d2 (c2 _ r1)];obtain⟨bs,q2⟩:=N _ r2;exact aW (ReadsAllW.cons d2 q2)}
universe z
mutual def qB:aiS->cb| .none=>ab| .bool _=>ab| .int _=>ab| .str _=>ab| .bytes _=>ab| .list O=>sy O| .tuple O=>sy O|_=>ai def sy:pO->cb|[]=>ab|x::J=>qB x&&sy J end
theorem avd{I:Type}{f:I->aiS}(h:∀a,qB (f a)=ab):∀l:ba,sy xK=ab|[]=>rfl|x::J=>by show dj (qB (f x)) (sy (J.map f));rw[h x,avd h J]<;>rfl
theorem Cc:∀(c:Codec)(a:c.denote),qB (aDk a)=ab| .unit,_=>rfl| .bool,_=>rfl| .int _ _,_=>rfl| .nat _ _,_=>rfl| .u8,_=>rfl| .bytes _ _,_=>rfl| .text _ _ _ _,_=>rfl| .list _ _ c,a=>avd (ab (Cc c x)) a| .pair c d,a=>n9 (qB (d.enc a.2)&&ab) (Cc d a.2)| .triple c d e,a=>by{show dj (qB (aDk a.1)) (qB (d.enc a.2.1)&&(qB (e.enc a.2.2)&&ab));rw[Cc c a.1,Cc d a.2.1,Cc e a.2.2]<;>rfl}| .option c,none=>rfl| .option c,some x=>Cc c x
theorem ave:Hn (sy (NP cs a)=ab)|[],_=>rfl|c::cs,a=>n9 (sy (NP cs a.2)) (ave cs a.2)
theorem avf:∀{O:pO}{d:WData},d∈O->aDm<=aDl O|[],d,h=>cy h jI|x::J,d,h=>by show aDm<=x.weight+1+aDl J;rw[g6 (h_ h) e];{simp+arith [*]};{have z:=avf m;exact cU z}
noncomputable def toV:cR->V| .none=> .bC| .bool b=>EO| .int i _=>hP| .str x _=>Jn| .bytes b _=> .iC b| .ref a=>bc|_=> .bC
def Cd(A:bg):cu cR| .none=>gA| .bool _=>gA| .int _ _=>gA| .str _ _=>gA| .bytes _ _=>gA| .ref a=>a∈A|_=>cD
theorem Cd.mono{A B:bg}(h:ep A IX):∀{u:Value},Cd A u->Cd B u:=fun{u}x=>by cases u with|ref a=>{exact h a x}|none=>{trivial}|bool b=>{trivial}|int i t=>{trivial}|str s t=>{trivial}|bytes b t=>{trivial}|_=>rw[ZA]
theorem aUw{A:bg}{u:Value}(x:Cd A u):gP (toV u) u:=by cases u with|ref a=>{rfl}|none=>{rfl}|bool b=>{rfl}|int i t=>{exact dx t}|str s t=>{exact dx t}|bytes b t=>{exact dx t}|_=>rw[ZA]
theorem GG{A:bg}:∀{vs:aM},Pq->iM OP vs|[],_=> .nil|u::J,h=> .cons (aUw (h u (fu ..))) (GG (aJ (h x (ck S))))
def TB(h:Heap)(A:bg)(a:Addr):Prop:=FN (bA a EE\/bA a EF)
theorem TB.mono{h:Heap}{A B:bg}{a:Addr}(k:ep A IX)(x:TB h A a):TB h B a:=by rw[Hb x];exact d vs a3 (m1 (bN (a9 u hu) k)) e2
theorem avg{P:Params}{h:Heap}:∀{vs:aM}{c7:pO},alT->iO=c7.length:=by intro vs;induction vs with|nil=>{rw[dt c7,cG];rfl}|cons v vs d6=>rw[dt c7];cases h with|cons a b=>exact gz (· +1) (d6 b)
theorem avh{P:Params}{h:Heap}{v:Value}{c7:pO}(x:ty aGL):HG (bA a EE):=by cases x with|list d0 g=>exact f _ _ d0 g
theorem avi{P:Params}{h:Heap}{v:Value}{c7:pO}(x:ty aGU):HG (bA a EF):=by cases x with|tuple d0 g=>exact f _ _ d0 g
theorem aUx{P:Params}{h:Heap}{b1:aM}{d:WData}{c7:pO}(x:aiT P h b1 (d::c7)):∃(v:Value)(vs:aM),b1=v::vs/\ty d/\alT:=by cases x with|cons a b=>exact f _ _ a b
theorem aUy{n:Nat}(h:n<=1048576):a1 n:=cn h ay
section z
variable{P:Params}{h:Heap}
mutual theorem aUz:gS (ty d) aGj (∃A:bg,Cd A v/\Be)| .none,_,x,_,_=>ow fY| .bool b,_,x,_,_=>ow fY| .int i,_,x,_,_=>ow fY| .str s,_,x,_,_=>ow fY| .bytes b,_,x,_,_=>ow fY| .list c7,_,x,p,z=>q6 (avh x) (.inl d0)| .tuple c7,_,x,p,z=>q6 (avi x) (.inr d0)| .float _,_,_,p,_=>rN| .dict _,_,_,p,_=>rN| .bytearray _,_,_,p,_=>rN| .set _,_,_,p,_=>rN| .frozenset _,_,_,p,_=>rN| .obj _ _,_,_,p,_=>rN theorem afb:gT alT (V d c7 aGj) (∃A:bg,Pq/\Be)|[],_,x,_,_=>ow (fun u m=>cy m jI)|d::c7,_,x,p,z=>by{rw[bgI,bd0];obtain⟨A,e0,g0⟩:=aUz d v e7 q.1 (z d (fu ..));rw[dO h2 e2 (afb c7 vs f5 q.2 (f3 (z e (ck a0)))),cg c (fJ A (A++B)) (ahT (.inl U)),cg f (fJ B (A++B)) (ahT (.inr U)),aa (A++B) a_m tV];{rw[g6 (h_ hu) e,Z e (e0.mono c),l (bN (h2 u m) f)]};{rw[iF U,l (bN (g0 b m) c),l (bN (e2 b m) f)]}}end
universe z
noncomputable def TC(o:Obj):bZ HO:=match gB with| .seq vs _=>Z (vW==YF) (aa (.yo o (.lst (a3H toV)))) (aa (.yo o (.tup (a3H toV))))|_=>ae
noncomputable def GH(K:PySem.W.Frag)(h:Heap)(A:bg):Hp:=h8 (if b∈A then(Z (r7 (vG b)) ((zb b).bind TC) ae)else ae)
def LB(H:Hp):Prop:=∀b,gp\/∃o u,fr alc
theorem avj(vs:aM):TC EE=aa a9N:=by show(Z (YF==YF) (aa (aiU EE a7K)) (aa (aiU EE a7L)))=_;rw[aK (aCk _)]
theorem avk(vs:aM):TC EF=aa a9O:=by show(Z (aGa==YF) (aa (aiU EF a7K)) (aa (aiU EF a7L)))=_;rw[aO ay]
section z
variable{P:Program}{w:World}{K:PySem.W.Frag}{h:Heap}{A:bg}
theorem afc{b:Addr}{o:Obj}(U:b∈A)(c3:ams)(e:md):anF=TC o:=by delta GH;rw[aK U,c3,aK (g3 (ae:bZ Obj).isNone rfl),e]<;>rfl
theorem aUA{b:Addr}{u:HO}(q:ev anF):b∈A/\ams:=by delta GH at q;by_cases U:b∈A;{simp at*;lia};rw[az]
theorem aUB(j:Be){b:Addr}{u:HO}(q:ev anF):ams/\FN ((bA b EE/\u=a9N)\/(bA b EF/\u=a9O)):=by obtain⟨U,c3⟩:=aUA q;rw[Hb (j b U),aP c3 vs a3 a9,i5 e2 e];{rw[afc U c3 e,avj]at q;exact dp e (bt (cZ q))};{rw[afc U c3 e,avk]at q;exact eW e (bt (cZ q))}
theorem aUC(j:Be):LB JW:=h8 (by cases q:anF with|none=>{exact gj}|some u=>obtain⟨_,vs,_,_,⟨_,e⟩|⟨_,e⟩⟩:=aoD;rw[aZ,aZ])
theorem aUD(j:Be):ff JW h:=qw (by obtain⟨_,vs,a3,a9,⟨e,rfl⟩|⟨e,rfl⟩⟩:=aoD;rw[l (c e ag vs _ (GG a9) e),l (a e ah vs (GG a9) _ e rfl _ rfl)])
theorem bjh{c C:Value}{vs b1:aM}(e:(aa {cls:=c,data:= .seq aDo}:bZ Obj)=aa {cls:=C,data:= .seq aDn}):c=C/\vs=b1:=cq
theorem aUE(y:uh)(j:Be){a:Addr}{vs:aM}(b3:a∈A)(e:bA a EE):Pq/\fW K JW a OP:=q1 avj (f _ aDn _ c3 rfl rfl bB (ax (GG a9)))
theorem aUF(y:uh)(j:Be){a:Addr}{vs:aM}(b3:a∈A)(e:bA a EF):Pq/\uU K JW a OP:=q1 avk (a _ aDn _ c3 rfl rfl ah (ax (GG a9)))
mutual theorem aUG{c:Params}(y:uh)(j:Be):gS (Well c h v d) (Cd A v) (Dw K JW (toV v) d)| .none,_,x,_,_=>p4 .bC| .bool b,_,x,_,_=>p4 EO| .int i,_,x,_,_=>p4 hP| .str s,_,x,_,_=>p4 (.str s)| .bytes b,_,x,_,_=>by{cases x;have z:=Dw.iC (K:=K) (H:=JW) b.toArray;exact z}| .list c7,_,x,p,hu=>gB (avh x) (aUE y j hu d0) (.lst c0 bfR)| .tuple c7,_,x,p,hu=>gB (avi x) (aUF y j hu d0) (.tup c0 bfR)| .float _,_,_,p,_=>rN| .dict _,_,_,p,_=>rN| .bytearray _,_,_,p,_=>rN| .set _,_,_,p,_=>rN| .frozenset _,_,_,p,_=>rN| .obj _ _,_,_,p,_=>rN theorem afd{c:Params}(y:uh)(j:Be):gT (aiT c h vs c7) Pq (afa K JW OP c7)|[],_,x,_,_=>p4 .nil|d::c7,_,x,p,hu=>by{rw[bgI,bd0];exact .cons (aUG y j d v e7 q.1 (hu _ (fu ..))) (afd y j c7 vs f5 q.2 (fun u m=>hu u (ck m)))}end
universe z
theorem aUH{P:Program}{w:World}{K:PySem.W.Frag}{mg D:dM}{T:ml}{k:Nat}{t:Addr}{fd:FuncData}{c5:cW}{e8:Sp}{l:Shared}{I:aM}{c7:pO}{R:PySem.W.WRecords}{e9:Str->nf}{f:WData}(y:vK Dy)(h:aDp CB mg)(U:aDp aA2 D)(S:bf3)(Z:l.heap.NoLimit)(d8:l.gens= #[])(Q:aiT hr Dy I c7)(b8:sy c7=ab)(a5:bb3)(a6:hW k Wy)(F:∀base:iL,vK aj->alH->uZ P w K mg aj T k t fd c5 e8)(a8:a7y)(E:c7.length=kx)(C:∀(H:Hp)(O:af),LB H->eL O c7->e8 O H (fun v L=>Dw K L v f) JK)(W:∀H e c1,T [] H l JK e c1->cD):Hh (ju P w) Wy (.call nu (d_ I)) (sc (∃u Y,J= .ok (.ret u)/\nd mD f/\OldK Dy mD/\U9=l.os/\G_ U8)) l:=by rw[eq A j (afb c7 I Q b8 a5)];have X:LB aHH:=aUC j;have dr:ff aHH Dy:=aUD j;have b2:=afd y j c7 I Q b8 d0;have g:j b u (ev aHY) ams:=qw (aoD).1;have G:∀{b:Addr}{o:Obj}{a7:fq Vx}{e1:Nat},be (a3I b)->gB=Pn->aHY=ae:=fun{b o a7 e1}e d=>by{cases q:aHY with|none=>{rfl}|some u=>obtain⟨_,vs,_,_,⟨b9,_⟩|⟨b9,_⟩⟩:=aoD;rw[cK,cK]};generalize aHH=H at X dr b2 g G;have i:∀{b:Addr}{o:Obj},be (a3I b)->gp->iE (acY Dy H):=fun e n=>aNj e n;have a:∀{b:Addr}{m:dM},aDp b m->(acY Dy H).Ns b m:=fun{b m}⟨o,a7,e1,e,d,J⟩=>c o a7 e1 (i e (G e d)) d J;have b0:hq (vG b) gp:=c_ (by cases q:H b with|none=>{rfl}|some u=>rw[a6 (g b u q),dS]);have p:=c_ (i (y b o e) (b0 b o e));refine ML ((F _ p (a h)).run Wy [] l H (d_ I) I (I.map toV) _ _ a6 (a rfl (d p (a h) (v D (a U) S) (let⟨c,a3,a9⟩:=Z;v c (a a3) a9)) (c_ (aNk e)) (qE (aNi _ _)) fY (db (At U)) dr (.of_eq d8)) (a8 l I (t (avg Q) E)) (GG d0) (C H _ X b2)) (fun J c1 x=>?_);cases J with|error e=>{exact iT (W H e c1 x)}|ok fl=>cases fl with|next=>{rw[ZA]}|brk=>{rw[ZA]}|cont=>{rw[ZA]}|ret u=>obtain⟨v,L,os,bare,un,M,B,q⟩:=x;have r:=c_ (by cases q2:H b with|none=>{exact un.keep b o e q2 (by rw[tJ];exact At z) jI}|some a4=>rcases X b with z|⟨N,b3,z⟩;rw[az];{obtain⟨b4,_⟩:=dr b _ z;obtain⟨b9,_⟩:=M b _ (un.FQ b N _ z);rw[e]at b4;cases b4;exact b9});rw[ft a0 (Dw.reads (R:=R) (e9:=e9) M (c_ (r b o (y b o e))) u q B)];exact f u Y a0 (v (OldK.of_keep r) os bare)
theorem aUI{c7:pO}(h:a0J c7=ab):bb3:=fun d hd=>(PySem.W.layableW_iff.mp (Wa h d hd)).2.2
theorem avl:Hn (t (NP cs a)=aiV)|[],_=>rfl|c::cs,a=>by show t (NP cs a.2)+1=aiV+1;rw[avl cs a.2]
theorem aUJ{J:OpenSpec}{k:Nat}{q:Program}{j:cW}{m:aHB}{b:au oI iL}{d:DefRec}{K:agG->US}{T:oI->ml}{c5:cW}{e8:oI->Sp}(x:a7Z)(N:a3L=[])(E:a3K=kx)(a6:hW k Wy)(n:bhB)(F:ra (T w) (e8 w))(C:∀(w:World)(H:Hp)(O:af)(a:aDr zD),c (LB H) (a3J zD a=ab) a_j (afa (K hr) H O (NP zD a)) (e8 w O H (fun v L=>Dw (K hr) L v aJC) JK))(W:∀(w:World)(H:Hp)(s:Shared)(e:Value)(c1:Shared),T w [] H s JK e c1->cD):bh4:=by intro w FR l mg D G c t o b3 R p Z kV d0 hd S a7 A d8 i I Y P a4 a0 Q a5;rw[ak b4 b9 (PySem.W.os_pre_some P)];obtain⟨e7,r⟩:=Codec.encAll_of_decAll zD i a b4;subst e7;have y:=n w _ c;obtain⟨fd,U,g⟩:=F w mg t _ c y G.T.g A;refine PySem.W.enter_call (ML (aUH (R:=[]) (e9:=classAt FR.heap) (f:=aJC) y G.T.g G.T.b G.T.builtins G.T.nolimit d8 Q (ave _ _) (aUI a4) a6 g U (t avl E) (fun H O X b2=>C w H O a X r b9 b2) (fun H e c1=>W w H l e c1)) (fun B c1 e0=>?_));obtain⟨u,M,rfl,a3,a9,e2,e5⟩:=e0;exact d (.inl (m u _ M (d gW a3 (ae (OpenSpec.post_iff x r _ _) rfl) (J (aDq (g3 ai z)))))) a9 e2 e5
theorem aUK{J:OpenSpec}{k:Nat}{q:Program}{j:cW}{m:aHB}{b:au oI iL}{d:DefRec}{K:agG->US}{T:ml}{c5:cW}{e8:US->Sp}(x:a7Z)(N:a3L=[])(E:a3K=kx)(a6:hW k Wy)(n:bhB)(F:ra T (e8 (K hr)))(C:∀(K:PySem.W.Frag)(H:Hp)(O:af)(a:aDr zD),c (LB H) (a3J zD a=ab) a_j (eL O (NP zD a)) (e8 K O H (fun v L=>Dw K L v aJC) JK))(W:∀(H:Hp)(s:Shared)(e:Value)(c1:Shared),T [] H s JK e c1->cD):bh4:=aUJ (K:=K) (T:=au T) (e8:=fun w=>e8 (K hr)) x N E a6 n F (fun w H O a a3 a9 e2 e5=>C (K hr) H O a a3 a9 e2 e5) (fun _ H s e c1=>W H s e c1)
universe L2
namespace GA
open PySem PySem.Spec PyProof.Rows L2
section z
variable{X:Cx}{a b c d e f:Expr}{d6 c3 i l b8 g:TE}{pos p E:Pos}{x:Str}
abbrev SE(X:Cx)(e:Expr)(a7:fC):Prop:=Mw rh cE=g5 tx a7
theorem dY(h:fU)(s:cu a []):PA X [a] (hF d6):=uY h Sd s
theorem sA(h:fU)(a9:lg)(s:cu a [b])(b5:cu b []):PA X [a,b] (qt d6 (hF c3)):=uY h (dY a9 b5) s
theorem yR(h:fU)(a9:lg)(e2:aao)(s:cu a [b,c])(b5:cu b [c])(c8:cu c []):m8 aaM (hF i):=uY h (sA a9 e2 b5 c8) s
theorem vq(h:fU)(a9:lg)(e2:aao)(e5:M d l)(s:cu a [b,c,d])(b5:cu b [c,d])(c8:cu c [d])(d9:cu d []):m8 [a,b,c,d] (qt i (hF l)):=uY h (yR a9 e2 e5 b5 c8 d9) s
theorem GI(h:fU)(a9:lg)(e2:aao)(e5:M d l)(f:rO)(s:cu a [b,c,d,e])(b5:cu b [c,d,e])(c8:cu c [d,e])(d9:cu d [e])(f9:cu e []):m8 [a,b,c,d,e] (qt i (qt l (hF b8))):=uY h (vq a9 e2 e5 f b5 c8 d9 f9) s
theorem bU(i:Nat)(hN:X.N.Nodup)(a0:rO)(hi:ce xW)(S:ey J5 ahw)(c0:bag)(W:Kc):bdA:=aqL hN hi S a0 c0 W
theorem sC(i:Nat)(hN:X.N.Nodup)(hi:ce xW)(S:ey J5 ahw)(W:Kc):a'h:=aNG hN hi S W
theorem GJ(K:Fg){f:Str}(a0:M e d6)(U:ce (ag2 e f cE tx=tx))(g:FC):zt K:=flK g a0 U
theorem aUL(K:Fg)(b3:fU)(U:lg)(c0:a9I)(g:FC):DG (Si K):=Sh (ixl g) b3 U c0
theorem avm(K:Fg)(b3:fU)(U:lg)(c0:a9I)(g:FC):DG (Sj K):=Sh (ixt g) b3 U c0
theorem aUM{st:Stmt}{c5:cW}{e8:Sp}{j k:Nat}{a7:fC}{t:TA}{R:bgq}(G:bie)(a6:Qk)(b3:Fs)(c3:ey (j<=k) Ve)(d8:ce qg)(l:mf)(a0:Bk)(b8:JQ):a'M:=kc R G a6 c3 d8 b3 l a0 b8
theorem dZ{j:CmpOp}{J:R2}(d0:Rn)(b3:fU)(U:lg)(c4:a81):a9d:=KG d0 b3 U c4
theorem afe{j:CmpOp}{J:R2}(d0:Rn)(b3:fU)(U:lg)(c4:a81):M alS Ym:=KD d0 b3 U c4
theorem mz{c7 iter:Expr}{a:uc}{wi:TI}{g:TG}{c3:TS}(hi:aax)(d8:aKk)(U:aIN)(c2:ey aL4 aul._auto_1)(b0:ce fQ)(c0:anw):bhv:=aN' c2 b0 hi d8 U c0
theorem aUN(K:Fg)(c4:f9 "len")(b3:fU)(d8:ce (Gl X "len"))(a0:cu a [])(b8:Ze)(g:FC):M (er "len" [a]) (KN (KR K) (hF d6)):=F1 (aSJ g) d8 c4 aSV (dY b3 a0) ay ay a0 b8
theorem afg(K:Fg)(b3:fU)(a0:ey apl agT)(g:FC):BJ K:=aST g b3 a0
theorem Ce(K:Fg){lo hi:Px}{h8 a:TO}{f6:Pos}(a0:rO)(a5:PO X lo h8)(hu:PO X hi a)(g:FC):Iz (Sk K):=aro (aSR g) a0 a5 hu
universe z
structure Zt where
 P:Mc
 w:oI
 K:Fg
 mg:dM
 base:iL
 e:aaL
 G:Bl
theorem at_{I:Type}{P:cu I}{l:ba}(h:aK l (P x))(i:Nat){a:I}(e:Zc):P a:=h a (bO e)
noncomputable def afh(K:Fg)(mg:dM)(e:aaL)(G:Bl):bcM:=au_ G (at_ (ct (ava e)) 79 rfl) (i8 (sx gW))
open PySem.Challenge in def LC(K:Fg):Sp:=fun O H Q _=>∃a:PySem.W.Codec.denoteAll Wz,N (PySem.W.Codec.withinAll Wz a=ab) (a3M Wz rw_glassrecord_s01_answers.asked a=ab) (eL O (PySem.W.Codec.encAll Wz a)) (j v L (Dw K L v (rw_glassrecord_s01_answers.ret.enc (a3M Wz rw_glassrecord_s01_answers.f a))) (Q v L))
theorem zne:eI Zt:=by have w:oI:={draws:=h2 0,params:=bhS};obtain⟨s,_,h⟩:=Cv (HX.ra w Mf);exact⟨a HX.P w (KT s) (ab (eQ (a3N (KT s) CB x) ae)) (o2 Mf) (lE h).2 (fun x v z=>by rw[z]<;>rfl)⟩
noncomputable def Z0:Zt:= @a0O Zt zne (fw (¬aMQ))
@[irreducible]noncomputable def P:Mc:=Z0.P
@[irreducible]noncomputable def w:oI:=Z0.w
@[irreducible]noncomputable def K:Fg:=Z0.K
@[irreducible]noncomputable def mg:dM:=Z0.mg
@[irreducible]noncomputable def base:iL:=Z0.base
theorem eZ:aaL:=yQ Z0.e
theorem gZ:Bl:=yQ Z0.G
theorem zzA(i:Nat){x:String}(h:fh abN):mg x=ae:=gZ _ _ (ml (EV).1)
theorem zzI(i:Nat){x:String}{n:Int}(h:A itN (x,n)):ab x n:=aUn gZ (ml (aV EV))
theorem zzT(i:Nat){x:String}{l:aT}(h:A tpN (x,l))(n:d_<=9):a'L:=aUm gZ (ml (bU EV)) n
theorem TF(i:Nat){c:String}{l:EK}(h:aJO):bgw:=aUs (ml (bX EV))
theorem LD(i:Nat){c:String}{l:EK}(h:aJO):fK c (dn c):=gZ _ _ (TF i h).1
theorem zzN(i:Nat){c:String}{l:EK}(h:aJO)(j:Nat){f:String}(e:aa l f):b8 (dn c) f:=at_ (TF i h).2.2 j e
theorem zzF(i:Nat){x:String}{st:Stmt}(h:A fnN (x,st)):fnP K (x,st):=ml (ct EV)
theorem zzM(i:Nat){p:bfd}(h:A meN p):meP K p:=ml (du EV)
theorem zzJ(i:Nat){p:aLs}(h:A FL p):inP K p:=ml (eV (EV).2)
theorem T.len:gB "len":=gz 0
theorem T.range:gB "range":=gz 1
theorem T.enumerate:gB "enumerate":=gz 2
theorem T.zip:gB "zip":=gz 3
theorem T.reversed:gB "reversed":=gz 4
theorem T.sorted:gB "sorted":=gz 5
theorem T.set:gB "set":=gz 6
theorem T.list:gB "list":=gz 7
theorem T.tuple:gB "tuple":=gz 8
theorem T.max:gB "max":=gz 9
theorem T.min:gB "min":=gz 10
theorem T.all:gB "all":=gz 11
theorem T.bjj:ab "HEADER_BYTES" 20:=ap 0
theorem T.bjk:ab "POINT_BYTES" 8:=ap 1
theorem T.TH:ab "LINE_BYTES" 4:=ap 2
theorem T.afi:ab "MARK_BYTES" 12:=ap 3
theorem T.avn:GD K mg "OPENING" (ra 49):=t2 0
theorem T.avo:ab "LEAST_SIDE" 16:=ap 4
theorem T.avp:ab "MOST_SIDE" 1048575:=ap 5
theorem T.aUW:ab "LEAST_POINTS" 4:=ap 6
theorem T.aUX:ab "MOST_POINTS" 4096:=ap 7
theorem T.aUY:ab "LEAST_LINES" 4:=ap 8
theorem T.aUZ:ab "MOST_LINES" 8192:=ap 9
theorem T.aU0:ab "LEAST_MARKS" 1:=ap 10
theorem T.aU1:ab "MOST_MARKS" 2048:=ap 11
theorem T.afj:ab "OUTSIDE" 0:=ap 12
theorem T.aU2:ab "FRAME_PLACE" 20:=ap 13
theorem T.bjl:ab "LEAD" 0:=ap 14
theorem T.LF:ab "ERASE" 1:=ap 15
theorem T.LG:ab "MOVE" 2:=ap 16
theorem T.MARK:ab "MARK" 3:=ap 17
theorem T.afk:ab "DROP" 4:=ap 18
theorem T.avq:ab "LEAST_LEAD" 2:=ap 19
theorem T.avr:ab "MOST_LEAD" 64:=ap 20
theorem T.avs:ab "MOST_STEPS" 65536:=ap 21
theorem T.aU3:ab "DONE" 0:=ap 22
theorem T.aU4:ab "NO_SUCH_THING" (-2):=ap 23
theorem T.aU5:ab "TOO_MANY_STEPS" (-3):=ap 24
theorem T.aU6:ab "NOT_TAKEN" (-5):=ap 25
theorem T.avt:GD K mg "RECORD_OPENING" (ra 72):=t2 1
theorem T.avu:ab "FIRST_PLACE" 16:=ap 26
theorem T.aU7:GD K mg "STEP_BYTES" [.int 14,.int 5,.int 11,.int 15,.int 3]:=t2 2
theorem T.aU8:ab "CALL_OPEN" 1:=ap 27
theorem T.aU9:ab "CALL_BARE" 2:=ap 28
theorem T.avv:ab "CALL_LEAD" 3:=ap 29
theorem T.aU_:ab "CALL_ERASE" 4:=ap 30
theorem T.avw:ab "CALL_MOVE" 5:=ap 31
theorem T.avx:ab "CALL_MARK" 6:=ap 32
theorem T.aU':ab "CALL_DROP" 7:=ap 33
theorem T.aVa:ab "CALL_UNDO" 8:=ap 34
theorem T.aVb:ab "CALL_REDO" 9:=ap 35
theorem T.avy:ab "CALL_COUNT" 10:=ap 36
theorem T.aVc:ab "CALL_PLAN" 11:=ap 37
theorem T.aVd:ab "CALL_READ" 13:=ap 38
theorem T.aVe:GD K mg "WITH_ROW" aK1:=t2 3
theorem T.aVf:ab "COUNT_DONE" 0:=ap 39
theorem T.aVg:ab "COUNT_UNDONE" 1:=ap 40
theorem T.aVh:ab "COUNT_PANES" 2:=ap 41
theorem T.aVi:ab "NO_RECORD" (-9):=ap 42
theorem T.avz:ab "OUT_OF_RANGE" (-1):=ap 43
theorem T.aVj:ab "TOO_LONG" (-6):=ap 44
theorem T.aVk:ab "MOST_LENGTH" 4294967295:=ap 45
theorem T.aVl:ab "MOST_KIND" 65535:=ap 46
theorem T.aVm:ab "MOST_CARTOON_BYTES" 131072:=ap 47
theorem T.aVn:ab "MOST_SAVED_BYTES" 67108864:=ap 48
theorem T.aVo:bd4:=aUk gZ (cD EV)
noncomputable def T.bjm:ef:=dn "Drawing"
theorem T.bjn:yv K bJ:=p0 0
theorem T.aVp:fK "Drawing" bJ:=LD 0 rfl
theorem T.bjo:b8 bJ "width":=cM 0 0
theorem T.bjp:b8 bJ "height":=cM 0 1
theorem T.bjq:b8 bJ "points":=cM 0 2
theorem T.bjr:b8 bJ "lines":=cM 0 3
theorem T.bjs:b8 bJ "marks":=cM 0 4
noncomputable def T.bjt:ef:=dn "Sweep"
theorem T.bju:yv K dm:=p0 1
theorem T.aVq:fK "Sweep" dm:=LD 1 rfl
theorem T.bjv:b8 dm "passed":=cM 1 0
theorem T.bjw:b8 dm "gaps":=cM 1 1
theorem T.bjx:b8 dm "links":=cM 1 2
theorem T.afl:b8 dm "sides":=cM 1 3
noncomputable def T.bjy:ef:=dn "Panes"
theorem T.bjz:yv K lF:=p0 2
theorem T.aVr:fK "Panes" lF:=LD 2 rfl
theorem T.bjA:b8 lF "sweep":=cM 2 0
theorem T.avA:b8 lF "mark_gaps":=cM 2 1
noncomputable def T.bjB:ef:=dn "Record"
theorem T.bjC:yv K dJ:=p0 3
theorem T.aVs:fK "Record" dJ:=LD 3 rfl
theorem T.TJ:b8 dJ "cartoons":=cM 3 0
theorem T.TK:b8 dJ "steps":=cM 3 1
theorem T.bjD:b8 dJ "done":=cM 3 2
noncomputable def T.bjE:ef:=dn "Desk"
theorem T.bjF:yv K hI:=p0 4
theorem T.aVt:fK "Desk" hI:=LD 4 rfl
theorem T.bjG:b8 hI "record":=cM 4 0
@[irreducible]noncomputable def T.TM:vi K bJ "Drawing.__init__" aaX aMG:=d5 0 0 (us6 (i8 rfl))
@[irreducible]noncomputable def T.avB:X "point_place" aaY ["number"]:=bi 0
@[irreducible]noncomputable def T.avC:ef "line_place" aaZ "number":=cz 1
@[irreducible]noncomputable def T.avD:ef "mark_place" aa0 "number":=cz 2
@[irreducible]noncomputable def T.avE:eK "byte_count" aa1:=bi 3
@[irreducible]noncomputable def T.avF:eK "ends_of" aa2:=bi 4
@[irreducible]noncomputable def T.numbered:X "numbered" aa3 (v3 "ends"):=xa 5
@[irreducible]noncomputable def T.avG:X "in_order" aa4 ["a","b"]:=cz 6
@[irreducible]noncomputable def T.avH:X "frame_alone" aa5 ["width","height","mark"]:=fJ 7
@[irreducible]noncomputable def T.avI:X "number_at" aa6 ["data","place","size"]:=fJ 8
@[irreducible]noncomputable def T.avJ:X "two_bytes" aa7 ["value"]:=bi 9
@[irreducible]noncomputable def T.avK:X "four_bytes" aa8 ["value"]:=bi 10
@[irreducible]noncomputable def T.avL:f4 "opening_fault" aa9:=bi 11
@[irreducible]noncomputable def T.avM:X "size_fault" aa_ anW:=xa 12
@[irreducible]noncomputable def T.avN:f4 "header_fault" aa':=bi 13
@[irreducible]noncomputable def T.avO:gU "point_at" aba:=cz 14
@[irreducible]noncomputable def T.avP:gU "line_at" abb:=cz 15
@[irreducible]noncomputable def T.avQ:gU "mark_at" abc:=cz 16
@[irreducible]noncomputable def T.avR:f4 "drawing_told" abd:=bi 17
@[irreducible]noncomputable def T.avS:X "point_bytes" abe ["point"]:=bi 18
@[irreducible]noncomputable def T.avT:X "line_bytes" abf ["line"]:=bi 19
@[irreducible]noncomputable def T.avU:X "mark_bytes" abg ["mark"]:=bi 20
@[irreducible]noncomputable def T.avV:X "cartoon_bytes" abh ["cartoon"]:=bi 21
@[irreducible]noncomputable def T.turn:X "turn" abi ["p","q","r"]:=fJ 22
@[irreducible]noncomputable def T.afm:X "lies_inside" abj ["p","q","r"]:=fJ 23
@[irreducible]noncomputable def T.crosses:X "crosses" abk apI:=g1 24 (LA J0)
@[irreducible]noncomputable def T.afn:X "count_left" abl ["row","spot"]:=cz 25
@[irreducible]noncomputable def T.TN:vi K dm "Sweep.__init__" abm XO:=d5 1 1 (sx gW)
@[irreducible]noncomputable def T.TQ:mw K dm "new_region" "Sweep.new_region" abn XO:=l2 0
@[irreducible]noncomputable def T.avW:O dm "region" "Sweep.region" abo "number":=i2 1
@[irreducible]noncomputable def T.TR:mw K dm "link" "Sweep.link" abp ["self","one","other"]:=g4 2 aFJ
@[irreducible]noncomputable def T.TU:O dm "gap_at" "Sweep.gap_at" abq "spot":=i2 3
@[irreducible]noncomputable def T.TV:mw K dm "gaps_above" "Sweep.gaps_above" abr (b2 "left" "right" "begun"):=g4 4 (LA J0)
@[irreducible]noncomputable def T.TX:mw K dm "pass_point" "Sweep.pass_point" abt (b2 "point" "ended" "tops"):=g4 5 (LA J0)
@[irreducible]noncomputable def T.avX:X "left_to_right" abu ["point","tops"]:=cz 26
@[irreducible]noncomputable def T.TY:vi K lF "Panes.__init__" abv ["self","sweep","gaps"]:=d5 2 2 aFJ
@[irreducible]noncomputable def T.GK:O lF "home" "Panes.home" abw "mark":=i2 6
@[irreducible]noncomputable def T.TZ:O lF "homes_beside" "Panes.homes_beside" abx "line":=i2 7
@[irreducible]noncomputable def T.T1:mw K lF "how_many" "Panes.how_many" aby XO:=l2 8
@[irreducible]noncomputable def T.avY:eK "panes_of" abz:=bi 27
@[irreducible]noncomputable def T.avZ:X "lines_between" abA ["drawing","i","j"]:=fJ 28
@[irreducible]noncomputable def T.av0:eK "neighbours_of" abB:=bi 29
@[irreducible]noncomputable def T.av1:X "first_loose" abC ["neighbours"]:=bi 30
@[irreducible]noncomputable def T.av2:X "walk_deep" abD ["neighbours"]:=bi 31
@[irreducible]noncomputable def T.av3:mT "first_unreached" abE:=cz 32
@[irreducible]noncomputable def T.av4:mT "earliest_back" abF:=cz 33
@[irreducible]noncomputable def T.av5:mT "first_cut" abG:=cz 34
@[irreducible]noncomputable def T.av6:f4 "cartoon_told" abH:=bi 35
@[irreducible]noncomputable def T.judge:k3 "judge" abI:=cz 36
@[irreducible]noncomputable def T.av7:k3 "same_lines" abJ:=cz 37
@[irreducible]noncomputable def T.av8:k3 "net_fault" abK:=cz 38
@[irreducible]noncomputable def T.av9:eK "form_fault" abL:=bi 39
@[irreducible]noncomputable def T.av_:eK "points_fault" abM:=bi 40
@[irreducible]noncomputable def T.av':eK "lines_fault" abO:=bi 41
@[irreducible]noncomputable def T.awa:eK "frame_fault" abQ:=bi 42
@[irreducible]noncomputable def T.awb:X "edge_stands" abR bfT:=xa 43
@[irreducible]noncomputable def T.awc:k3 "tangle_fault" abS:=cz 44
@[irreducible]noncomputable def T.awd:X "is_tangled" abT ["line","points","rivals"]:=fJ 45
@[irreducible]noncomputable def T.awe:eK "ways_fault" abU:=bi 46
@[irreducible]noncomputable def T.awf:eK "marks_fault" abV:=bi 47
@[irreducible]noncomputable def T.awg:ef "first_misplaced" abW "homes":=cz 48
@[irreducible]noncomputable def T.awh:X "first_repeated" abX ["homes"]:=bi 49
@[irreducible]noncomputable def T.awi:X "drawing_after" abY ["cartoon","step"]:=cz 50
@[irreducible]noncomputable def T.awj:X "redrawn" abZ aK2:=g1 51 (LA J0)
@[irreducible]noncomputable def T.joined:X "joined" ab0 ["row"]:=bi 52
@[irreducible]noncomputable def T.parted:X "parted" ab1 ["line","row"]:=cz 53
@[irreducible]noncomputable def T.awk:b8 "with_lead" ab2 "row" "mark":=fJ 54
@[irreducible]noncomputable def T.awl:b8 "with_erased" ab3 "i" "j":=fJ 55
@[irreducible]noncomputable def T.awm:b8 "with_moved" ab4 "k" "point":=fJ 56
@[irreducible]noncomputable def T.awn:b8 "with_mark" ab5 "i" "mark":=fJ 57
@[irreducible]noncomputable def T.awo:X "with_dropped" ab6 ["cartoon","k"]:=cz 58
@[irreducible]noncomputable def T.T2:vi K dJ "Record.__init__" ab7 (oG "first"):=d5 3 3 (vp lO)
@[irreducible]noncomputable def T.awp:dT "cartoon" "Record.cartoon" ab8:=l2 9
@[irreducible]noncomputable def T.awq:dT "undone" "Record.undone" ab9:=l2 10
@[irreducible]noncomputable def T.GL:O dJ "take" "Record.take" ab_ "step":=i2 11
@[irreducible]noncomputable def T.T3:dT "forget_undone" "Record.forget_undone" ab':=l2 12
@[irreducible]noncomputable def T.GN:dT "undo" "Record.undo" aca:=l2 13
@[irreducible]noncomputable def T.T4:dT "redo" "Record.redo" acb:=l2 14
@[irreducible]noncomputable def T.refusal:X "refusal" acd ["fault"]:=bi 59
@[irreducible]noncomputable def T.awr:X "saved_bytes" ace ["record"]:=bi 60
@[irreducible]noncomputable def T.aws:X "step_bytes" acf ["step"]:=bi 61
@[irreducible]noncomputable def T.awt:f4 "record_told" acg:=bi 62
@[irreducible]noncomputable def T.awu:f4 "head_fault" ach:=bi 63
@[irreducible]noncomputable def T.awv:f4 "steps_told" aci:=bi 64
@[irreducible]noncomputable def T.aww:X "steps_fault" acj ["record","data","place"]:=fJ 65
@[irreducible]noncomputable def T.awx:gU "step_fault" ack:=cz 66
@[irreducible]noncomputable def T.step_size:gU "step_size" acm:=cz 67
@[irreducible]noncomputable def T.step_at:gU "step_at" acn:=cz 68
@[irreducible]noncomputable def T.awy:gU "lead_at" aco:=cz 69
@[irreducible]noncomputable def T.T5:vi K hI "Desk.__init__" acp XO:=d5 4 4 (sx gW)
@[irreducible]noncomputable def T.T6:mw K hI "answer" "Desk.answer" acq bc_:=g4 15 (LA J0)
@[irreducible]noncomputable def T.T7:O hI "begin_from_cartoon" "Desk.begin_from_cartoon" acr "data":=i2 16
@[irreducible]noncomputable def T.T8:O hI "begin_bare" "Desk.begin_bare" acs "numbers":=i2 17
@[irreducible]noncomputable def T.T9:O hI "begin_from_saved" "Desk.begin_from_saved" acu "data":=i2 18
@[irreducible]noncomputable def T.T_:O hI "begin" "Desk.begin" acv "record":=i2 19
@[irreducible]noncomputable def T.awz:X "lengths_fit" acw ["lengths"]:=bi 70
@[irreducible]noncomputable def T.awA:X "mark_fits" acx ["numbers"]:=bi 71
@[irreducible]noncomputable def T.awB:oV "in_range" acy:=fJ 72
@[irreducible]noncomputable def T.awC:X "mark_told" acz ["numbers"]:=bi 73
@[irreducible]noncomputable def T.awD:X "row_told" acA ["row"]:=bi 74
@[irreducible]noncomputable def T.awE:oV "step_told" acB:=fJ 75
@[irreducible]noncomputable def T.awF:X "told_of" acC ["record","call","numbers"]:=fJ 76
@[irreducible]noncomputable def T.awG:X "counted" acD ["record","what"]:=cz 77
@[irreducible]noncomputable def T.awH:f4 "with_count" acE:=bi 78
@[irreducible]noncomputable def T.answers:bcM:=afh K mg eZ gZ
universe GA
namespace GA
open PySem PySem.Spec PyProof.Rows L2
def gN(p:Pt):Prop:=p.x<2^33/\p.y<2^33
def kr(p:Pt):Prop:=p.x<2^30/\p.y<2^30
theorem kr.ks{p:Pt}(h:kr p):gN p:=⟨t5 h.1,t5 h.2⟩
theorem Ua(p q:Pt):mK yj aJ2=oY q:=by delta WA;simp only[mK];rw[N h p.y q.y];{rw[N k p.x q.x];{simp[h,k]};{simp[h,show¬v p.x=q.x from J (k (aDs z))]}};{simp[h,show¬v p.y=q.y from J (h (aDs z))]}
theorem dN(i j:Int):ar (cp i) (cp j)=ar i j:=aQ
theorem oB{K:Fg}{H:Hp}{a:Addr}{p:Pt}(h:cw (g7 p.y p.x)):mI (hD yj):=cx h
abbrev aVu(H:Hp)(vs:af)(p q J:Pt):Prop:=∃x y z,vs=[x,y,z]/\br x p/\br y q/\br z J
inductive awI(vs:af)(H:Hp)(Q:VK)(E:XK):Prop|mk:qW (mY aLh) (awI vs H Q E)
inductive awJ(vs:af)(H:Hp)(Q:VK)(E:XK):Prop|mk:qW (dB (Dz p q J)) (awJ vs H Q E)
inductive awK(vs:af)(H:Hp)(Q:VK)(E:XK):Prop|mk:∀(x y z u:V)(p q J s:Pt),e [x,y,z,u] (br x p) (br y q) (br z J) (l (br u s) (kr p) (kr q) (kr J) (kr s) (dB aL7) (awK vs H Q E))
theorem awL{p q J:Pt}(c2:kr p)(e0:kr q)(a6:kr J): -(2^64)<aLh/\aLh<2^64:=by obtain⟨e9,f6⟩:=c2;rw[kr d2 q2,qH a6];delta NQ Gla.dx Gla.dy;have O:∀u v:Int,c (-(2^30)<=u) (u<=2^30) (-(2^30)<=v) (v<=2^30) (-(2^60)<=u*v/\u*v<=2^60):=by{intro u v a b c d;have m:(u*v).natAbs<=2^30*2^30:=by{rw[L Int.natAbs_mul (Nat.mul_le_mul bM bM)]};have e:cd 2^30*2^30=2^60:=by{simp};rw[e]at m;rw[tY]};rw[gw (O Fj (v J.y-q.y) (kw e9 q.x) (kw d2 p.x) (kw q2 J.y) (kw r2 q.y)),fe (O anQ (v J.x-q.x) bM bM bM bM)];generalize fv J.y q.y=A at*;generalize k5 J.x q.x=B at*;exact⟨FN a9.2 a3.1,FN a3.2 a9.1⟩
section z
theorem awM:am 1 T.turn.f T.turn.fd bbR awI:=by refine T.turn.F.ok aTo apX FK;{obtain⟨p,q,J,⟨x,y,z,rfl,_⟩,_⟩:=h;rfl};{obtain⟨p,q,J,⟨_,_,_,rfl,⟨a,rfl,c2⟩,⟨b,rfl,e0⟩,⟨c,rfl,hR⟩⟩,e8,d,e,k⟩:=h;rw[ca (cn (ll ys bfb bfb))];have c2:=lv c2;have e0:=lv e0;have hR:=lv hR;rw[fY m4 e8,kk i d,iE l e,ai b e0 dq (m a _ c2 dq (m c _ hR dg (m b _ e0 dg a9j))),kx f q.x,kx g p.x,ai b e0 dg (m a _ c2 dg (m c _ hR dq (m b _ e0 dq a9j))),kx m4 q.y,kx i p.y];exact k}
theorem awN:am 2 T.afm.f T.afm.fd bbR awJ:=by refine T.afm.F.ok aTp apX FK;{obtain⟨p,q,J,⟨x,y,z,rfl,_⟩,_⟩:=h;rfl};{obtain⟨p,q,J,⟨x,y,z,rfl,l4,f,g⟩,e8,d,e,k⟩:=h;have⟨a,d0,c2⟩:=l4;have⟨b,f7,e0⟩:=f;have⟨c,g7,hR⟩:=g;rw[b _ (cn (Br (KD (arq aiW) bS aw (Bw _)) (Br (KD (arq aiW) aw aq (Bw _)) (RX (KD gM (dB bS aq aw) bE (Bw _)))))) a c _ _ d0 g7 (m (oB c2) (oB hR) _ ?_)];rw[Ua];rw[dZ Dz,a_H];{rw[b c b _ _ g7 f7 (oB hR) (oB e0) Pd];rw[Ua];rw[qt a3];refine fF (fun a9=>?_) (fun a9=>?_);{rw[qt a9,d p q J (cz l4 f g) e8 d e ?_,L dN k]};rw[az]};rw[az]}
theorem aVv:am 2 T.crosses.f T.crosses.fd apI awK:=by refine T.crosses.F.ok aTq apX FK;{obtain⟨x,y,z,u,p,q,J,s,rfl,_⟩:=h;rfl};{obtain⟨x,y,z,u,p,q,J,t,rfl,l4,f,g,a,e8,d,e,ss,k⟩:=h;rw[ca (bo (dk (KG uW (ll FZ (dB bS aq aw) (dB bS aq bb)) bE (Bw _)) mj) (KD lq (ll FZ (dB aw bb bS) (dB aw bb aq)) bE (Bw _))),b p q J (cz l4 f g) e8.ks d.ks e.ks p (a q t (cz l4 f a) e8.ks d.ks ss.ks _ _ (a1 rfl rfl (.inl (awL e8 d e)))),dZ zt,a_H];{rw[ea ah,agY]at k;exact k};{rw[qt (dH ah),b J t p (cz g a l4) e.ks ss.ks e8.ks J (a t q (cz g a f) e.ks ss.ks d.ks _ _ (bj rfl (.inl (awL e ss e8)) k))]}}
universe z
inductive awO(K:Fg)(vs:af)(H:Hp)(Q:VK)(E:XK):Prop|mk:∀(l:Addr)(v:V)(ls:mZ)(z:Pt)(n:Nat),e [cB,v] (bm eR l ls) (br v z) (gN z) (c bdK (n<=wK) (bfk) (mY n) (awO K vs H Q E))
noncomputable def aVw:HZ->Hp->Nat:=fun M _=>match M with|[_,_,some (.int lo),some (.int hi),_,_]=>apd|_=>0
section z
theorem afo:am 2 T.afn.f T.afn.fd ["row","spot"] (awO K):=by refine T.afn.F.ok aTr apX FK;{obtain⟨l,v,ls,z,n,rfl,_⟩:=h;rfl};{obtain⟨l,v,ls,z,n,rfl,⟨O,S,a5⟩,c9,e8,sl,d6,d1,k⟩:=h;have o:=aCe;rw[cl (ai (ii 2 bE) (ii 3 (F1 arB bI a3O a3E (uY bS Sd))) (bo (FX NR (KG lq aw bb (Bw _)) (ai (ii 4 (ew aqT (cR aw bb))) (ii 5 (Sh arw bS bR lO)) (fE (rX (KG lq (dB (mQ cI) (mQ cI) aq) bE (Bw _)) (fE (ii 2 (hp bR))) (fE (ii 3 bR)))))) aw)) (.inl S) (aOd (fun M L=>L=H/\GC (fun(lo hi:Nat)(m i:bZ V)=>vl (M=[tP,pB,aa (.int lo),aa (.int hi),m,i]) (lo<=n) (n<=hi) (hi<=wK))) aVw (a rfl 0 bx ae ae rfl cS ag (x o.l)) ?_ ?_)];{rintro M L⟨rfl,lo,hi,m,i,rfl,a3,a9,e2⟩;rw[bD J7];{have lt:lo<hi:=by{rw[fF (Bn c)]};rw[aW _ rfl a_t,cd D a_6 (ae uM),j4 4 (cp a_6)];rw[D];have f:uM<wK:=by{rw[el]};rw[c u d3 a x y c0 b r (gE a5 f)];have sm:=sl _ (s_ f);rw[ai l S (dX d3) (as a c0 dg (as a c0 dq (a _ _ z (oE (v b r c9)) sm.1 sm.2 e8 ?_)))];have c4:=d1 _ _ (da f);refine fF (fun d=>?_) (fun d=>?_);{have d':=c4.mpr ah;rw[dI (i rfl (uM+1) hi _ bB a9 e2)];show zh (ae uM+1)<zh Ja;lia-abstractProof};{have d':¬uM<n:=ai (d ah);rw[dI (i rfl lo uM _ a3 (jZ d') ej)];show(ae uM-Ja).toNat<zh Ja;lia-abstractProof}};{have e:lo=n:=by{exact mP (cU a3) (cf a9 (Bo c))};rw[bY];exact k}};{intro M L g o7 e0 h;unfold uX Bv at h;rw[dl b4 h U_,bl b9 h U_,Q i j rfl h U_];delta uX Bv;exact wL b4 (wL b9 (e0 _ _ h))}}
universe z
noncomputable def vr(w h:Int)(b2 X G:Addr):hU:=aK "marks" G (aK "lines" X (aK "points" b2 (kk "height" (.int h) (kk "width" (.int w) []))))
section z
variable{w h:Int}{b2 X G:Addr}
theorem yS:ip Rw "width"=aa (.int w):=by delta vr;rw[dh,pA,dh,pA,dh,pA,dh,pA,dh,cN]
theorem GO:ip Rw "height"=aa (.int h):=by delta vr;rw[bga]
theorem fX:bN Rw "points" b2:=by delta vr;rw[bhj]
theorem ku:bN Rw "lines" X:=by delta vr;rw[aK3]
theorem jq:bN Rw "marks" G:=by delta vr;rw[dh,cN]
universe z
structure LH(C:Addr)(H:Hp)(a:Addr)(D:Gla.Plan)(b2 X G:Addr):Prop where
 at_:∃dx,cw (aC C (vr D.w D.h b2 X G))
 p:e3 b2 lG
 l:dB sk H X gU
 m:dB so H G gS
theorem LH.mono{C:Addr}{H L:Hp}{a:Addr}{D:Gla.Plan}{b2 X G:Addr}(s:bQ)(h:Ab):g2 L D:=by rw[cv e mV];exact I dx (bv e) (aiX dj s) (h.l.mono iI s) (aDu jo s)
inductive awP(C:Addr)(vs:af)(H:Hp)(Q:VK)(E:XK):Prop|mk:∀(p dx:Addr)(w h:Int)(b2 X G:Addr),A [fO,.int w,.int h,YC,.ref X,.ref G] (bh p Y7) (Q .bC (ad p (aC C Rw))) (awP C vs H Q E)
inductive afp(vs:af)(H:Hp)(Q:VK)(E:XK):Prop|mk:∀n:Nat,vs=[jf]->j7 (aiY n)->afp vs H Q E
inductive afq(C:Addr)(vs:af)(H:Hp)(Q:VK)(E:XK):Prop|mk:pr (WB D n) (afq C vs H Q E)
inductive awQ(C:Addr)(vs:af)(H:Hp)(Q:VK)(E:XK):Prop|mk:pr (aDv D n) (awQ C vs H Q E)
inductive awR(C:Addr)(vs:af)(H:Hp)(Q:VK)(E:XK):Prop|mk:vF (A [bc] Ab (j7 aDw) (awR C vs H Q E))
inductive awS(vs:af)(H:Hp)(Q:VK)(E:XK):Prop|mk:∀i j:Nat,vs=[pC,vn j]->f5 (sk L v (min i j,akT))->awS vs H Q E
inductive awT(C:Addr)(vs:af)(H:Hp)(Q:VK)(E:XK):Prop|mk:da (zy (e.1<de)) (lH<hv) (zG D.drawn->awT C vs H Q E)
section z
theorem aVx:T.TM.Ok mg P w aj 1 (awP bJ):=by refine T.TM.go aS4 aL;generalize aG=e3,aA=A,aF=outer,aE=s,aD=H,aB=vs,aH=Q,aI=E;rw[aN,M ob,aX];generalize kQ=p,kR=dx,kS=w,kT=h,kU=b2,kX=X,k_=G;rw[ds c2,g _ (fp aq aw (ai (hr bb) (hr bR) (fE (hr cI)))) p _ dx _ c2 (a dR H3 (ay) p _ dx _ rfl (b ak dR H2 (v6 1) p dx _ (a rfl ak dR gb (ns ay) p _ dx (j ak dR kC (ns (vo ay)) p _ (f dx _ ak (a1 dR jA (ns (vo (vo ay)))))))))];rw[yp,yp,yp,yp];exact k
theorem awU:T.avB.Ok P w aj 1 afp:=by refine T.avB.go aS5 aL;generalize aG=e3,aA=A,aF=outer,aE=s,aD=H,aB=vs,aH=Q,aI=E;rw[aN,cy n rfl k,e _ (cn (y0 bS)) _ _ rfl rfl yk ?_];have e:ae (aiY n)=20+8*cJ:=by{rfl};rw[dZ vn,bs e];exact k
theorem awV:T.avC.Ok P w aj 2 (afq bJ):=by refine T.avC.go aS6 aL;generalize aG=e3,aA=A,aF=outer,aE=s,aD=H,aB=vs,aH=Q,aI=E;rw[aN,M P0,aX,n a D b2 X G n,ds h,fD,t8 h.p,ev (cn (cR (a7 awU nK) T.TH aq)) (a hd dR gb fX b2 vs rfl (cc c0) (a iO rfl _ _ rfl rfl yk ?_))];have e:ae (WB D n)=ae (aiY iO)+4*cJ:=by{rw[aiZ];delta WB aiY;rfl};rw[dZ vn,bs e];exact k
theorem awW:T.avD.Ok P w aj 3 (awQ bJ):=by refine T.avD.go aS7 aL;generalize aG=e3,aA=A,aF=outer,aE=s,aD=H,aB=vs,aH=Q,aI=E;rw[aN,M P0,aX,n a D b2 X G n,ds h,fD,t8 h.l,a7 (cR (b4 awV nK) T.afi aq) kC ku X (oP (as yk))];have e:ae (aDv D n)=ae (WB D iO)+12*cJ:=by{rw[aiZ];delta aDv WB;rfl};rw[dZ vn,bs e];exact k
theorem aVy:T.avE.Ok P w aj 4 (awR bJ):=by refine T.avE.go aS8 aL;generalize aG=e3,aA=A,aF=outer,aE=s,aD=H,aB=vs,aH=Q,aI=E;rw[aN,M iw,aX,Bf,ds h,fD,t8 h.m,a7 (b4 awW nK) jA jq G ?_,L aiZ k]
theorem aVz:T.avG.Ok P w aj 1 awS:=by refine T.avG.go aS' aL;generalize aG=e3,aA=A,aF=outer,aE=s,aD=H,aB=vs,aH=Q,aI=E;rw[aN,a0 i j rfl k,eX (cn (RY (dZ lq bS aq) (as bS aq) (as aq bS))) (J7)];{have lt:i<j:=by{rw[fF (Bn c)]};rw[v es (ef cm amC)];rw[ak,qO ej,Hw (h3 lt)]};{rw[b3 lt (¬i<j) (sO (Bo c)),v es (ef cm amC)];rw[ak,CX (jZ lt),Vz (jZ lt)]}
theorem LI:T.avF.Ok P w aj 1 (awT bJ):=by refine T.avF.go aS9 aL;generalize aG=e3,aA=A,aF=outer,aE=s,aD=H,aB=vs,aH=Q,aI=E;rw[aN,M iw,aX,Bf,av h ix c9 k,fD,t8 h.p,cE hu a5 h.l,qI (bo (bU 1 ai0 bP) (Bz rfl ai0 pH (bk "a" 2 "b" 3) (bC (V 2 ai0 3 ai0)) kK (bC (as (bs aq aw) amQ)))) ⟨k1 hu,fun Z f=>aeR iI gx h.l.ls (an (aa rk)) f c9 ?_ ?_⟩];{rw[dE e x a0];have C:=ix e uj;rw[cM g7 r1 (gE c2 C.1),bJ g8 r2 (gE c2 C.2),A2 (m b2 _ (br c0) (dX g7) (m b2 _ (br c0) (dX g8) ⟨(EI),fun t c6=>?_⟩)),bcZ];refine GS (aJ ak ?_);rw[Z (wM C.1) (hH W r1),Z (wM C.2) (hH W r2)]};{intro L d7 s b6 c5;refine k Z L s f (aJ d7 b6);rw[eT c5];exact c5}
universe z
noncomputable def bV(b:Gla.Bytes):af:=wJ (gT (vn eC))
theorem dC(b:Gla.Bytes):t kF=cw:=cF bV (bA _)
theorem qC(b c:Gla.Bytes):bV (b++c)=kF++bV c:=i0 bV
theorem afr{b:Gla.Bytes}{i:Nat}{c:UInt8}(h:A b c):A (kF) (vn eC):=by delta bV;rw[cz,h];rfl
theorem afs(O:af)(p q:Nat):ca O p q=an (G7 p) (q-p):=by delta jl;rw[ai1,ai1];rw[eL (ik p bx)];{rw[qO (ew h)];rw[d4 q bx,cK];{rw[CX g,Dx aQ,Dx (t sL (Nat.sub_le_sub_right g p))]}};rw[aZ]
theorem aft(b:Gla.Bytes)(p q:Nat):ca kF p q=bV (an (ai2 p) (q-p)):=by rw[afs];delta bV;rw[Df,Dg]
theorem le2{n:Nat}(h:b1 n):bV (gF 2 n)=[.int (cJ%256),.int (cJ/256)]:=by unfold bV Gla.le Gla.le Gla.le;simp;lia-abstractProof
theorem le4{n:Nat}(h:bk n):bV (gF 4 n)=cf (cJ%256) (cJ/256%256) (cJ/65536%256) (cJ/16777216):=by unfold bV Gla.le Gla.le Gla.le Gla.le Gla.le;simp;rw[Fc]
noncomputable def accN:bL Ml->Nat|[]=>0|c::J=>eC+256*accN J
theorem aVB(b:Gla.Bytes):accN b=Gla.numLe b:=by induction b with|nil=>{rfl}|cons c J d6=>unfold accN Gla.numLe;rw[d6]
inductive awX(K:Fg)(vs:af)(H:Hp)(Q:VK)(E:XK):Prop|mk:∀(l:Addr)(b:Gla.Bytes)(p n:Nat),e [cB,jN,jf] tF (n<=8) (yp (H4 b p n)) (awX K vs H Q E)
inductive awY(vs:af)(H:Hp)(Q:VK)(E:XK):Prop|mk:∀n:Nat,A [jf] (b1 n) (l8 (gF 2 n)) (awY vs H Q E)
inductive awZ(vs:af)(H:Hp)(Q:VK)(E:XK):Prop|mk:∀n:Nat,A [jf] (bk n) (l8 (gF 4 n)) (awZ vs H Q E)
inductive aw0(K:Fg)(vs:af)(H:Hp)(Q:VK)(E:XK):Prop|mk:lE (f5 (dG L v (ai3 b p))) (aw0 K vs H Q E)
inductive aw1(K:Fg)(vs:af)(H:Hp)(Q:VK)(E:XK):Prop|mk:lE (f5 (sk L v (hf p,hf (p+2)))) (aw1 K vs H Q E)
inductive aw2(K:Fg)(vs:af)(H:Hp)(Q:VK)(E:XK):Prop|mk:lE (f5 (so L v (aDx b p))) (aw2 K vs H Q E)
inductive PxV(H:Hp)(v:V)(p:Pt):Prop|mk:l a J (v=bc) (l1 (.int p.y:: .int p.x::J)) aLi
theorem dG.px{H:Hp}{v:V}{p:Pt}(h:br v p):aLi:=by rw[ak e h h];exact d a [] e h
inductive aw3(vs:af)(H:Hp)(Q:VK)(E:XK):Prop|mk:∀(v:V)(p:Pt),e [v] aLi (bk p.x/\bk p.y) (l8 (qV p)) (aw3 vs H Q E)
inductive aw4(vs:af)(H:Hp)(Q:VK)(E:XK):Prop|mk:∀(v:V)(p:fz),e [v] (sk H v p) (b1 p.1/\b1 p.2) (vN (bV (gF 2 p.1++gF 2 p.2))) (aw4 vs H Q E)
inductive aw5(vs:af)(H:Hp)(Q:VK)(E:XK):Prop|mk:∀(v:V)(m:Gla.Mark),e [v] (so H v m) (uO) (l8 (H5 m)) (aw5 vs H Q E)
theorem aVD{I:Type}{O:ba}{i:Nat}{x:I}(hi:i<bx)(h:nV (bx-1-i)):G7 (bx-i_)=x::G7 (bx-i):=by rw[aO lt (bx-1-i) bx (fb (s6 bx) (aC bx 1 hi))];rw[show bx-i_=bx-1-i by lia-abstractProof,Wo lt];rw[aj (da lt),cG];congr 2;rw[Nat.sub_right_comm,Mi (VG hi)]
section z
theorem aVE:T.avI.Ok P w aj 1 (awX K):=by refine T.avI.go Tt aL;generalize aG=e3,aA=A,aF=outer,aE=s,aD=H,aB=vs,aH=Q,aI=E;rw[aN,M oc,aX,al l b p n,aV a5 v5 k,ca (i 3 Tt.nd bE (an (ar9 rfl T.reversed (dY (k9 aq (cR aq aw)))) 4 Tt.nd (bU 3 Tt.nd (cR (ll FZ bb bE) bR))) (de bb))];have g7:jl kF (gH p) (aa (v p+cJ))=bV (an (ai2 p) n):=by{have:=aft b p (p+n);rw[am (hp (p+n-p) n),al5];rfl};rw[dh a5 (fun d hd=>?_)];rw[g7];generalize b0:an (ai2 p) n=c;rw[ar c0 H (bV c) (bV c),bA d c0 (bv (t (bV c)) (fo (L=ap d (bV c)/\∃v,M=[tP,bE p,bE n,bE (accN aJD),v])) (ai ae ?_))];{rw[ah0,List.drop_length];rfl};{rintro i M L hi⟨rfl,v,rfl⟩;exact a hi _ _ (av c0) (da (fu (s6 (t (bV c))) (aC (t (bV c)) 1 hi)))};{rw[bgn];exact a_};{rintro i M L x b7 hi⟨rfl,v,rfl⟩⟨rfl,S⟩;have S:=S _ (av c0);have R:i<gc:=by{rw[dC]at hi;exact hi};rw[dC]at S;rw[aO lt (gc-1-i) gc (fb (s6 gc) (aC gc 1 R))];rw[afr (da lt)]at S;rw[pN,aW _ rfl (a1 (eW ay ay) rfl (bE (aKU).toNat))];rw[aVD R (da lt)];have e:ae (accN (aKU::aJD))=v (accN aJD)*256+ae (aKU).toNat:=by{conv=>{lhs;unfold accN};simp+arith [*]};delta vn;rw[e];rfl};{rw[bgn];have:=k _ (ac (bV c) hd);unfold Gla.num at this;rw[b0,<-aVB]at this;rw[dC,zv];exact this}
theorem Ub:T.avJ.Ok P w aj 1 awY:=by refine T.avJ.go aTb aL;generalize aG=e3,aA=A,aF=outer,aE=s,aD=H,aB=vs,aH=Q,aI=E;rw[aN,a0 n rfl d1 k,n _ (cn (yw (sA (ew R9 bS) anS))) (aQ) es bc3,dd (le2 d1),pu ai4];rw[ak,e];rfl
theorem LJ:T.avK.Ok P w aj 1 awZ:=by refine T.avK.go aTc aL;generalize aG=e3,aA=A,aF=outer,aE=s,aD=H,aB=vs,aH=Q,aI=E;rw[aN,a0 n rfl d1 k,eX (cn (yw (vq (ew R9 bS) (ew R9 anS) (ew R9 anS) anS))) (oZ (ah) (m rfl (aQ) (aQ) (en 4) bc3)),dd (le4 d1)];rw[<-ai4,<-ai4,<-ai4]at e;rw[ak,e];rfl
theorem Uc:T.avO.Ok P w aj 2 (aw0 K):=by refine T.avO.go aTh aL;generalize aG=e3,aA=A,aF=outer,aE=s,aD=H,aB=vs,aH=Q,aI=E;rw[aN,M Al,aX,Ry,ds a5,b _ (cn (as Ql (rt aq))) l b (p+4) 4 ?_ a5 ⟨ay,fun a8 a4=>?_⟩];{congr};rw[aR p 4 jT (zd (mT (hG aHU)))]
theorem aVF:T.avP.Ok P w aj 2 (aw1 K):=by refine T.avP.go aTi aL;generalize aG=e3,aA=A,aF=outer,aE=s,aD=H,aB=vs,aH=Q,aI=E;rw[aN,M Al,aX,Ry,ds a5,co (cn (as (rt aq) Ql)) p 2 (KX (p+2))];{congr};rw[v es (hG aHU)]
theorem afu:T.avQ.Ok P w aj 3 (aw2 K):=by refine T.avQ.go auX aL;generalize aG=e3,aA=A,aF=outer,aE=s,aD=H,aB=vs,aH=Q,aI=E;rw[aN,M Al,aX,Ry,ds a5,e _ (bo (bU 2 auX.nd (b4 Uc aq)) (KL (vq xA xA Ql Ql))) l b p rfl a5 ?_];rintro _ a8 a4⟨a,rfl,b3⟩;rw[bn a b3 (as a b3 dq (KX (p+8)))];{congr};rw[fY (p+10) (op eN) (fun d4 c8=>?_)];{congr};rw[v (en 4) (hG (b_ eN c8 cm))]
theorem Ud:T.avS.Ok P w aj 2 aw3:=by refine T.avS.go aTk aL;generalize aG=e3,aA=A,aF=outer,aE=s,aD=H,aB=vs,aH=Q,aI=E;rw[aN,M fP,aX,bV O p];rintro rfl⟨a,m,rfl,b3⟩c2 k;rw[d _ (cn (j6 (a7 LJ kH) LJ)) a _ _ _ rfl (s Jt dq p.x c2.1 (q9 dg p.y)),bbM];{have c8:=eN;rw[bbV,Ra];rfl}
theorem aVG:T.avT.Ok P w aj 2 aw4:=by refine T.avT.go aTl aL;generalize aG=e3,aA=A,aF=outer,aE=s,aD=H,aB=vs,aH=Q,aI=E;rw[aN,M fP,aX,bV O p,bhl,d _ (cn (j6 am7 Ub)) a _ _ _ rfl (s Jt dg p.1 c2.1 (q9 dq p.2)),bbM];{have c8:=eN;rw[bbV,Ra]}
universe z
noncomputable abbrev dT(ns:aT):CT:= .tuple OQ
theorem afv{K:Fg}{H:Hp}:∀ns:aT,F3 K H xF OQ|[]=> .nil|n::J=> .cons (.int n) (afv J)
theorem Ue{K:Fg}{H:Hp}{a:Addr}{ns:aT}(h:mI xF):cs bc (dT ns):= .tup h (afv ns)
theorem afw:∀ns d8:aT,ai5 OQ (HL aDy)=ar ns d8|[],[]=>bI|[],m::d8=>bI|n::ns,[]=>bI|n::ns,m::d8=>by simp only[c_,ai5,jv,(afw ns d8)];rw[N h n m,aZ];{simp[h]}
theorem GP(ns d8:aT):jv (dT ns) (dT d8)=ar ns d8:=t jv (afw ns d8)
theorem lay_ints:∀ns:aT,ai9 OQ=ab/\ai7 OQ<=1|[]=>a9H|n::J=>by rw[dr (aDz J),dI (bx ai9 ai8 d6.1),kt ai7 ai6];simp[*]
theorem aw6(ns:aT):ai8 (dT ns)=ab/\ai6 (dT ns)<=2:=by have h:=aDz ns;rw[dI (by delta dT;rw[ai8];exact h.1)];delta dT;rw[ai6];exact Vf h.2
theorem aVH(ns:aT):iD (dT ns):=by have h:=aw6 ns;delta aDA;rw[h.1,m8 h.2];rfl
theorem aw7:∀O:fA,ai9 (G8 dT)=ab/\ai7 (G8 dT)<=2|[]=>a9H|n::J=>by have d6:=aw7 J;have h:=aw6 n;rw[dI (by simp only[c_,ai9,h.1,d6.1];rfl)];simp only[c_,ai7];lia-abstractProof
theorem Ug(O:fA):iD (.list (G8 dT)):=Im (aw7 O)
theorem afx:∀O d7:fA,ai5 (G8 dT) (ai_ dT)=ar O d7|[],[]=>bI|[],m::d8=>bI|n::ns,[]=>bI|n::ns,m::d8=>by simp only[c_,ai5,(afx ns d8),GP];rw[N h n m];{simp};{simp}
theorem bjH{a:Addr}{A B:Prop}(h:A):x7 (gR a):=bB
theorem bjI{a:Addr}{A B:Prop}(h:B):x6 (gR a):=bB
theorem bjJ{A B:Prop}(h:A):x6 Hi:=bB
theorem aw8{c A B:Prop} [Hq c](n:¬c)(h:B):lm (cv c):=ag
theorem aVI{c A B:Prop} [Hq c](n:¬c)(h:A):lm (! cv c):=ag
theorem bjK{A B:Prop}(h:B):x7 Hi:=adJ rfl h
inductive aw9(K:Fg)(vs:af)(H:Hp)(Q:VK)(E:XK):Prop|mk:mD (fZ 20 H6 ae) (aw9 K vs H Q E)
noncomputable def LK(w h p l m:Nat):bZ Mj:=v (jC aDE ai' w=ai) (jC aDE ai' h=ai) (jC 4 aDD p=ai) (jC 4 aDC l=ai) (jC 1 aDB m=ai) ae
inductive aw_(vs:af)(H:Hp)(Q:VK)(E:XK):Prop|mk:∀w h p l m:Nat,vs=[vn w,vn h,jN,vn l,vn m]->ge (LK w h p l m)->aw_ vs H Q E
inductive aw'(K:Fg)(vs:af)(H:Hp)(Q:VK)(E:XK):Prop|mk:mD (NS b) (aw' K vs H Q E)
theorem aVJ{b c:Gla.Bytes}:(wJ (ab (v H7)))=(Dr (ab (v H7)))↔b=c:=by constructor;{rw[eD];exact x (a3P (f:=fun x:Ml=>v H7) (fun x y e=>by have:H7=y.toNat:=cq;exact aC5 this)) h};rw[cK]
theorem axa(b:Gla.Bytes):kF=B (wJ (ab (v H7))) cp:=f5 bV jw
theorem aVK{lo hi:Int}{i n:Nat}{M:L2.St}{H:Hp}{Q:AD}(a:A M (bE n))(h:Q (bi lo cJ&&bi cJ hi) H):uX (KH aaH aaH (pq lo) (ho i) (pq hi)) M H Q:=by delta uX KH tC;refine wL a (dl J7);{rw[c,ahR]at h;exact h};rw[gH (Wg c) h]
theorem within_int(a b n:Nat):(bi (v a) cJ&&bi cJ (v b))=jC a b n:=by delta jC;rw[dW]<;>(apply aDF;simp)
theorem axb{b:Bool}(h:b=ab):¬b=ai:=hS
theorem aVL{lo hi i n:Nat}{M:L2.St}{H:Hp}{D:Ends}{t u:L2.TS}(a:A M (bE n))(Z:jC lo hi n=ai->t D M H)(g:jC lo hi n=ab->u D M H):R4 (aqH (uX (KH aaH aaH (pq Ja) (ho i) (pq (v hi))))) t u D M H:=by refine aVK (i:=i) a ?_;rw[within_int];cases e:jC lo hi n with|false=>{rw[fF (Z e)]}|true=>rw[fF (g e)]
section z
theorem afy:T.avU.Ok P w aj 3 aw5:=by refine T.avU.go aTm aL;generalize aG=e3,aA=A,aF=outer,aE=s,aD=H,aB=vs,aH=Q,aI=E;rw[aN,M fP,aX,bV O m,bhl,e _ (cn (cY (dK Ud) am7 am7)) _ eL rfl (ce a _ b3) c2.1 (pl (as a Oz rA (bj jx c2.2.1 (fun d5 b7 b5 n2 b9=>?_)))),cd z1 (t (bV (qV eL))) 8,bg2,gN IQ b9 (by rw[z1,h6];decide)];have c8:=J eN (bs (bV (qV eL)) (bV (gF 2 jx)) u);rw[ai a (cx (dm b3)) (ox 3) (bj kB c2.2.2 (fun e0 e4 d9 y g5=>m l3 e0 (fG ak) g5 ⟨by rw[cj,z1,h6,h6];decide,fun b f=>k _ _ (dL Ed f) (eU Ed f) ?_⟩))];rw[ak,<-qC,<-qC,du];rfl
theorem aVM:T.avL.Ok P w aj 1 (aw9 K):=by refine T.avL.go aTe aL;generalize aG=e3,aA=A,aF=outer,aE=s,aD=H,aB=vs,aH=Q,aI=E;rw[aN,M fP,aX,Fp,ds a5,cl (b4 (GI aja) (KO (GT T.avn)) cu) pP ?_];rw[dC];rw[kj,beo];{rw[ec l_,bgS,bgQ];rw[g7]at a9⊢;intro o d0;rw[bah,Il aIf];rw[GP];rw[gV aIf H6 H6,b1 xb H6];{rw[dH (D.mpr e)];rw[bD (ax b5 (by rw[aO hS];rfl))]};{rw[ea (ai (e (D.mp q)))];rw[kk (ef (fg cm) (t (aK e) lQ))]}}
theorem axc:T.avM.Ok P w aj 1 aw_:=by refine T.avM.go aTf aL;generalize aG=e3,aA=A,aF=outer,aE=s,aD=H,aB=vs,aH=Q,aI=E;rw[aN];obtain⟨a,b,c,d,e,rfl,k⟩:=h;rw[ca (ai (bx T.avo bS T.avp tZ) (bx T.avo aq T.avp tZ) (a6 (bx T.aUW aw T.aUX tZ) (bx T.aUY bb T.aUZ tZ) (bx T.aU0 bR T.aU1 tZ) cu))];delta LK aDE ai' aDD aDC aDB at k;have fin:∀(J p:Nat)(a8:Hp),cY H a8->ge (aa ⟨J,p⟩)->E t (gA t) (Q nu (upd a8 t (bx J p))):=fun J p a8 a4 B t c6=>B _ _ (eX cm) lQ;rw[bX 0 16 1048575 a,rd 4,ZZ,P2];rw[Bs];rw[bX 1 16 1048575 b,rd 8,ZZ,P2];rw[Bs];rw[bX 2 4 4096 c,rd 12,ZZ,P2];rw[Bs];rw[bX 3 4 8192 d,rd 14,ZZ,P2];rw[Bs];rw[bX 4 1 2048 e,rd 16,ZZ];exact ax eg rfl
theorem aVN:T.avN.Ok P w aj 2 (aw' K):=by refine T.avN.go aTg aL;generalize aG=e3,aA=A,aF=outer,aE=s,aD=H,aB=vs,aH=Q,aI=E;rw[aN,M fP,aX,Fp,ds a5,ca (L WD (dK aVM) (dP aq aq) (i 2 WD me (bU 3 WD me) (i 4 WD me (bU 1 WD (d9 axc (GI me me aw bb bR))) (a6 (dP aq aq) (D R_ me bE tZ) (D R_ nB (cR (cR (y0 aw) T.TH bb) T.afi bR) (dO (gi aja))) cu)))),dZ NS,y l b a5 aIu];by_cases a3:cw<20;{rw[aK a3]at g4;rw[fX (show cw<NT from a3),n8 g4,xM];exact bd (p9 g4)};rw[bj a3]at g4;rw[ec (show¬cw<NT from a3)];by_cases a9:xb≠H6;{rw[aK a9]at g4 k;rw[n8 g4,xM];exact bd (p9 g4)};rw[PM]at g4 k;cases g4;rw[c rfl l b 12 2 jT ay a8k];have b5:=eX r2;rw[aR 14 2 (WC a5) (fun d4 m=>?_)];have c8:=fg m;rw[aR 16 2 (c8.seq a5) (fun e4 c9=>?_),mi c9,aR 4 4 Ju (fun g6 p=>?_)];have f9:=mX p;rw[aR 8 4 (f9.seq a5) (fun h5 q=>?_),it (GM.aeO b)];have a7:zE (DA b)=bgr:=by{delta zE LK;rw[d5.1,d5.2.1,d5.2.2];rfl};rw[K _ _ _ (dl (fun v h9 R f7=>?_))];have R:=J (mW q) R;rw[bs a7];cases i2:bgr with|some f=>{rw[i2]at f7 k;rw[n8 f7,xM];exact bd (ax R f7)}|none=>rw[i2]at f7 k;cases f7;rw[c rfl l b 18 2 (R.seq a5) ay (fun i3 i=>?_),dr (wu i)];have G:=k;rw[bu];rw[dN];rw[d3 e2 (hf 18)];{rw[bj hS]at G;rw[dH (show ae (hf 18)=0 by rw[xD])];rw[d l _ rfl (.inl (d6.seq a5)) _ _ rfl (f yk _ _ rfl yk _ _ (m rfl rfl yk ?_))];rw[dC];rw[i6 (! ar (g0 cw) (cp (20+8*v Af+4*v IY+12*v Pe)))];rw[dN];rw[N e5 cw (NT+8*Af+4*IY+12*Pe)];{rw[bj hS]at G;rw[dH (by delta NT at e5;exact Ap)];exact(G _ _ d6 rfl)};rw[p2 e5 (by delta NT at e5;lia)]};rw[p2 e2 (show¬ae (hf 18)=0 by simp[*])]
universe z
section z
variable{K:Fg}
theorem axd{d:Type}{g:TG}{c3:TT}{b8:TE}{vs:ao}{M:L2.St}{a8:Hp}{D:Addr}{k:jb}{R:Rl d}(A:uk){lo c:Int}{n:Nat}(f:df (bZ d))(a7:gA D)(c9:n<hv)(c0:∀(i:Nat)L(h4:VK)(N:jb),c (i<n) OH (wL (f i)) (f i=ae->aGC) (be al2 tw L aGr))(hd:vl (i7 n f)):d7 (Z4) (Z4) (Z4):=by refine aeQ (d0:=Z4) A (eJ n) (fun _ x i=>x=al2/\i<n) f a7 ag aMd (fun H s=>?_) aMJ (fun i a x L h4 N b3 s e a3 a9=>?_) hd;{have:i<n:=ah;exact this};{show n<=_;simp};{rw[dl rfl y];have:i<n:=ah;exact m eg i (wB this) this};rw[az]
theorem afz{H:Hp}{x dx C:Addr}{G:hU}(nx:Y x)(nd:Y dx)(ne:dx≠x):cY H (d7 (ad dx DZ) (aC C G)):=dL xn (Y ne.symm nx)
theorem axe{lo n c:Nat}(b0:bg0):Vd Ja (ae (lo+c*n)) (v c)=n:=by delta Vd;rw[aK A_];rw[d3 h n,aZ,Jl]
theorem axf{lo n c:Nat}(b0:bg0)(d1:lo+c*n<2^40):RgC Ja (ae (lo+c*n)) (v c) n:=by rw[w fR fR ?_ (axe b0)];delta a2n;rw[axe b0];simp only[Builtin.Range.rangeFitsLong,hZ,ahm,iS,aCE];have n1:n<=c*n:=Nat.le_mul_of_pos_left n bM;generalize c*n=m at*;simp;lia
inductive axg(K:Fg)(C:Addr)(vs:af)(H:Hp)(Q:VK)(E:XK):Prop|mk:m6 (e [cB] tF (NS b=ae) (∀a b2 X G L,l bQ (g2 L (DA b)) (Y a) (Y b2) (Y X) (Y G) Pa) (axg K C vs H Q E))
theorem aVO{b:Gla.Bytes}(h:NS b=ae):cw=z9 Pe:=by rw[a4 NS,eH,cX,eH,cX];cases e:zE (DA b)with|some f=>{rw[m2 e]}|none=>rw[aj e];have h':=h;rw[YA,cX,YA,cX];next q=>delta NT at q;simpa using q
universe z
section z
theorem aVP:T.avR.Ok P w aj 4 (axg K bJ):=by refine T.avR.go aTj aL;generalize aG=e3,aA=A,aF=outer,aE=s,aD=H,aB=vs,aH=Q,aI=E;rw[aN,M fP,aX,Fp,aV a5 g k];have F:=ajc b 12 2;rw[dd (ajc b 14 2),eS (ajc b 16 2),z7 b9];rw[b9]at F e f;rw[fV,co (L ajb (y0 me) (bU 2 ajb (cR aq T.TH me)) (a6 (aR 3 (gi aja) aq WH Uc) (aR 5 aq aw T.TH aVF) (aR 6 aw nB T.afi afu) (aP me me bb cI eu))) 12 2 (a _ _ rfl rfl yk l b 14 (ax 2 jT ay a8k))];have b5:=eX r2;rw[b _ _ rfl rfl yk _ _ _ (as rfl (b2 20 Af 8 ay) (fun a j=>ap Af dj (aa (ai3 b (20+8*i))) j F)),cb d1 (20+8*i) (op (fg s)) bg1];intro d4 c5 m e7 j0;rw[eT j0];have c8:=fg m;have g9:dB dG d4 a (DA b).pts:=v c5 e7 j0;rw[K _ _ _ (ai (b2 (20+8*Af) IY 4 (x (.inr gj))) (fun c n=>ap IY iI (aa (hf aKw,hf (aKw+2))) n e)),cb d1 aKw (op (wN s)) (fun v e4 d9 c9=>fr d9 c9)];intro e4 ls c9 g5 e2;rw[eT e2,mi c9];have e1:dB sk e4 c (DA b).lines:=v ls g5 e2;rw[n7 Ju];rw[dC,(aVO g)];rw[K _ _ _ (ai (b2 (20+8*Af+4*IY) Pe 12 ay) (fun d o=>ap Pe jo (aa (aDx b (z9 i))) o f)),cb d1 (z9 i) (op (mX s)) (fun v g6 f9 p=>fr f9 p)];intro g6 d8 p i2 y;rw[eT y];have f9:=mX p;have j5:dB so g6 d (DA b).marks:=v d8 i2 y;rw[aR 4 4 (f9.seq a5) (fun h5 q=>?_)];have h1:=mW q;rw[aR 8 4 (h1.seq a5) (fun h9 b1=>?_)];have R:=zF b1;rw[mq dx,d x dx _ _ a c d (aP ak ?_)];rw[yp];rw[P d6 h9 (cw h9 dx (aC bJ (vr (cd xu) (cd XI) a c d))) Pp];refine k x a c d _ (wu d6) (a1 (sC ak) ?_ ?_) (R.free nx) (b5.free j) (WG n) (WE o);rw[l (g9.mono dj (b_ (c9.trans p) (VL b1) d6)),l (e1.mono iI (J (aDG (VL b1)) d6)),l (j5.mono jo (J (VL b1) d6))]
universe z
theorem Uh{I:Type}{R:kh}(A:uk){K:Fg}{l d:Addr}{j o:Nat}{b:L2.St}{G H:Hp}{D:Ends}{Y:ba}(f:I->aDH){B:Gla.Bytes}{e8:Sp}(a5:a'O)(nd:G d=ae)(s:cY G H)(hd:am d (bV B))(c9:bcy)(b1:b=ajd j ae)(c:bdw)(e:a'Q)(C:bix)(k:bgA):bim:=Ll (NN (cO a4) J)
inductive axh(C:Addr)(vs:af)(H:Hp)(Q:VK)(E:XK):Prop|mk:da (DB D) (l8 (NU D)) (axh C vs H Q E)
section z
theorem axi:T.avV.Ok P w aj 4 (axh bJ):=by refine T.avV.go aTn aL;generalize aG=e3,aA=A,aF=outer,aE=s,aD=H,aB=vs,aH=Q,aI=E;rw[aN,M iw,aX,Bf,aV h F k,fD,QY,aaS,aKK,fV];have g4:=F.p;have h3:=F.l;have h6:=F.m;rw[eX (L aDJ (cY (uU (GT T.avn)) (a7 LJ bP) (a7 LJ bP)) (an (ada (cp bP bP bP)) 2 aDJ (ez aq (a7 Ub (dN aw)))) (ai (ez aq (yw (sA bE bE))) (fs 3 Ud bb) (bX (fs 4 aVG bR) (fs 5 afy cI) aq))) (E1 (fun c0 c6=>iR (co c6 hd) (s H3 yS D.w F.w (fun a7 a8 r1 n1 b4=>?_))))];have a4:=J cm r1;rw[c c0 a7 (ra 49) _ rfl (r1 _ _ ak) b4 ⟨?_,fun d5 n2=>?_⟩];{rw[dC,pf];decide};rw[a2 ((lt n2) _ _ hd) (s H2 GO D.h F.h (fun l3 d4 m u e7=>?_))];have c8:=J (lt n2) m;rw[n d5 l3 (m _ _ ak) e7 ⟨?_,fun d c=>?_⟩];{rw[cj,dC,dC,pf,pf];decide};have nd:=WG c;rw[ab m9 (ra 49:af) (bV H6)];rw[m9,<-qC,<-qC];generalize hA:H6++gF 4 D.w++gF 4 D.h=e;rw[dR C e.length 12,aj d9 bbm (wN (b_ c)),a2 (fG hd) (ev gb fX (b (fG hd) dR kC ku a dx _ (a _ rfl (fG hd) dR jA jq (en 3) Zj))),e c3 bbm t aLC t aLC,ci (fm (ak (H:=d4)) h7),bD t (aW (cx c3)) ?_];let b:ao:=[de,lH,qW];refine cl (ea b2 (.ref X) G) (fo (vl (∃v,M=[kJ,rr,v,ae,ae,ae]) bQ (L t=aa aLC) (oo e 2))) (a1 qf (mX (b_ h7)) c3) z.3;{rw[bW q,ak];simp};{rintro i x M L S⟨⟨v,rfl⟩,f9,i2,j1⟩;obtain⟨l,n,vs,a5,d1,d3,b0⟩:∃(l:Addr)(n:Nat)(vs:af),x=cB/\am l vs/\iO=n/\b1 n/\A b n:=by{match i,S with|0,S=>{rw[aK b2 c5 a3 qX g4]}|1,S=>{rw[aK X ls a9 NV h3]}|2,S=>{rw[aK G d8 e2 H8 h6]}|i+3,S=>trivial};subst a5;rw[c (dp j1) l (cc (hy d1)) n (dc d3) b0.1 (fun i1 b7 r2 n2 b9=>?_),F3 b0.2,n d i1 (r2 _ _ j1) b9 (a ?_ ei (gc (mW r2)) ?_ ?_)];{rw[dC,dC,cj,oj 2 2,pf,C,eS];rw[bfn];exact hn this this fw};rw[gM zu (r2 _ _ i2)];{rw[ak,<-qC,du,g9,zG,ajf]}};rintro M g6⟨⟨v,rfl⟩,f9,i2,j1⟩;have j1:b5 (g6 d) (bV (e++aDI (gF 2))):=j1;generalize hB:e++aDI (gF 2)=f at j1;rw[dR g Dl 18,aa (dp j1) es (fun z k0=>m d z (co k0 j1) ak Pb)];{rw[dC,g];decide};rw[bN c1 (bV f++[wW,wW]) bbf qC,aj h1 (U bcw d bbf) (gc (mW (b_ k0)))];generalize y:f++gF 2 0=j at h1 c1;have r:j.length=20:=by{rw[<-y,cj,g,pf]};rw[pl (D.pts.flatMap qV) de];have q2:t (D.lines.flatMap bcF)=4*lH:=aje (ab (cx cj pf pf)) _;have q3:t (D.marks.flatMap H5)=12*qW:=aje (ab (by delta H5 qV;rfl)) _;rw[c1];generalize I:U bcw d (bV j)=h5 at h1;rw[br j2 (b5 (h5 d) (bV j)) I ak,a2 (iP hd) (s gb fX b2 (dB c5 (iP a3)) (Uh (j:=3) (o:=1) dj qV h.p.ls nd h1 j2 (by rw[cj,d2,r];rw[jY]) rfl gW gW (mE J.px (aiu p c4)) (fun j3 h9 R j2=>iR (R _ _ hd) (s kC ku X (dB ls (R _ _ a9)) (Uh (j:=4) (o:=1) iI bcF h.l.ls nd R j2 (by rw[cj,cj,d2,q2,r];rw[jY]) rfl gW gW (mE J (aCS p c4)) (fun i9 i3 d6 j9=>iR (of hd) (s jA jq G (dB d8 (of e2)) (Uh (j:=5) (o:=1) jo H5 h.m.ls nd d6 j9 (by rw[cj,cj,cj,d2,q2,q3,r];rw[jY]) rfl gW gW (mE J (wC p c4)) bhe))))))))];rw[j8,<-y,<-hB,<-hA];congr 3;delta NU H5 qV;simp[b,du]
universe z
universe GA
namespace HT
open PySem PyProof.Rows
noncomputable def lexLe:aJZ|[],_=>ab|_::_,[]=>ai|x::O,y::d7=>v x y (zH O d7) (bi x y)
theorem aVQ(x y:Int)(O d7:aT):zH (x::O) QW=v x y (zH O d7) (bi x y):=rfl
theorem aVR:zH [] []=ab:=rfl
theorem aVS(y:Int)(d7:aT):zH [] QW=ab:=rfl
theorem aVT(x:Int)(O:aT):zH (x::O) []=ai:=rfl
theorem aVU(A:Around)(s:Shared)(a:Int)(t:Tok)(c:Int)(u:Tok)(prog:Program)(w:World)(E:aU)(Q:aU)(h:jV (bi a c)):zv .LtE:=m7 (PyProof.Rows.le_int h) .LtE
section z
open PySem.SeqAt
open PySem.AutoSeq1(wpAny_loadPart')
open PySem.MeetsSeq PySem.MeetsSeq2 PySem.MeetsSeq3
theorem aVV(l b:Addr)(f i:dU)(n n2:Nat)(j o:nf)(sl p:Ep)(ns d8:aT)(hi:QQ)(b8:Q_):nv (Builtin.«tuple.__le__» aJ1) aoE:=Cb (by rw[m6 os s,cy a5 U h];have h3:=aBG;rw[aMi,aMj,Cq (zH I k)];(case turn=>rintro⟨y,x⟩m b c1⟨j6,rfl,vs,ws,I,k,c9,v,r,E,hR⟩;cases v with|nil=>{trivial}|cons a t C=>cases r with|nil=>{trivial}|cons c u F=>rw[alb];injection c9 with G H;rw[aK8];subst b6 S;rw[aVQ]at hR;rw[aH1,aMK,C aMy,Co (aVU kz OE a t c u cM w)]);(case fin=>rintro⟨h2,e2⟩c1⟨j6,rfl,vs,ws,I,k,c9,v,r,E,hR⟩;rw[aGT];subst j6;have d3:zH I k=bi lA Vl:=by{cases v with|nil=>{cases r with|nil=>{rw[ff MO aVR (m8 E.g)]}|cons c u hw=>rw[kd aVS (m8 E.g)]}|cons a t d3=>rw[m0 aVT aIh]};rw[d3]at hR;wp_walk;exact aLw);rw[aMP])
universe z
section z
variable{prog:Program}{w:World}{A:Around}{E:aU}{s:Shared}
theorem aVW{l b:Addr}{f i:dU}{ns d8:aT}{Q:aU}(a5:aIO)(U:aKo)(hi:QQ)(b8:Q_)(hu:sR<gD)(h:jV aoE):zV .LtE:=t .LtE PySem.F.slot_tuple_le PySem.F.entry_tuple_le (PySem.F.args_tuple_le_2 _ _) (aVV l b f i n n2 j o sl p ns d8 hi b8) aoE aoE
universe z
universe HT
namespace L2
open PySem PySem.Spec PyProof.Rows
section z
variable{X:Cx}
def axj(K:PySem.W.Frag):R2:=IN (WI ns d8)
theorem aVX(hu:zl<gD):be .LtE (axj X.K):=Cx (HT.aVW e9 f6 (MQ r1) (MQ r2) hu (eT (WI ns d8) q))
universe z
universe L2
namespace GA
open PySem PySem.Spec PyProof.Rows L2
theorem leK{X:Cx}{K:Fg}(g:fB)(hu:zl<gD):be .LtE (axj K):=g▸aVX hu
theorem axk(p q:fz):WI aaq (dn q.1 q.2)=! DD q p:=by delta DD;simp only[WI];rw[N h (v p.1) q.1,EL,EL]
theorem afA(p q:Pt):WI yj aJ2=! M_ p:=axk (p.y,p.x) (q.y,q.x)
theorem ixi{K:Fg}{H:Hp}{a:Addr}{p:fz}(h:cw (g7 p.1 p.2)):mI (hD aaq):=cx h
noncomputable def oC{I:Type}(ok:AU)(k:ya)(l:ba)(i:Nat)(x:I):cb:=! ok x||(m7 i&&(match l[i-1]? with|some y=>! k y x|none=>ai))
theorem afB{I:Type}{ok:AU}{k:ya}{l:ba}{i:Nat}{x:I}(h:xH)(b:oC ok k l i x=ab)(g:ae (j<i) l ok k l):WJ ok k l=aa i:=a3Q ⟨v x h b,fun j y b8 b6=>g j y b8 b6⟩
theorem axm{I:Type}{ok:AU}{k:ya}{l:ba}(g:ae (j<d_) l ok k l):WJ ok k l=ae:=a3R (fun j y b6=>g j y cq b6)
def Cf{I:Type}(R:kh)(H:Hp)(v:V)(l:ba)(i:Nat):Prop:=(i=0/\v= .bC)\/∃j x,i=j+1/\El/\R H v x
theorem Cf.mono{I:Type}{R:kh}(A:uk){H L:Hp}{v:V}{l:ba}{i:Nat}(s:bQ)(h:Cf R H v l i):Cf R L v l i:=by rcases h with h|⟨j,x,e,g,J⟩;rw[l Aw,co (a j x e g (NN (cO s) J))]
inductive axn(C:Addr)(vs:af)(H:Hp)(Q:VK)(E:XK):Prop|mk:mG (ajg D) (axn C vs H Q E)
inductive axo(C:Addr)(vs:af)(H:Hp)(Q:VK)(E:XK):Prop|mk:mG (ajh D) (axo C vs H Q E)
section z
theorem aVZ:T.av_.Ok P w aj 2 (axn bJ):=by refine T.av_.go aTE aL;generalize aG=e3,aA=A,aF=outer,aE=s,aD=H,aB=vs,aH=Q,aI=E;rw[aN,M iw,aX,Bf,ds h,fD,QY,b aji (v aji aji (dZ uV xU bP) (dZ uV xU bP) alN alN aji) gb fX b2 de dG lG lG aF7 WA lG,cj c5 c5 qX (br a3),bem];{refine iw;rw[F i M L x b7];rintro hi⟨⟨l,m,p,rfl,a5⟩,s,g⟩⟨t,y,rfl,c6,rfl,b6⟩;rw[aW z c9 e9 (b6 c5 (br a3)),ti hK,ms dj c6,oq (bL b5 J),baM,beg,aGy,fh aLO (afp [pC] b7 (CQ 4) E0) (by rw[bD i es (ef (fg cm) ?_)];delta ajg;rw[L (afB c9 U g) lQ]),u aLO lG aF7 WA lG (by rw[ZX];{lia};rw[l (g j d7 (iM e) O)]),c9 b U (yr (v H3 yS J7)),BT (¬z.x<=D.w),bn b U (yr (v H2 GO a_A))];{rw[bD (fin ?_)];have:¬z.y<=D.h:=ah;delta oC;rw[tR]};have ok:dj (bi z.x D.w) (bi z.y D.h):=by{simp at c e6;simp;trivial};rw[bu,qs dG lG,Cr B,bhC,w (oB U) (oB b0) afA aLO (! M_ z) (t f7 c1) (by rw[f7];simpa using c1)]};rw[Lb ajg]
theorem aV0:T.av'.Ok P w aj 3 (axo bJ):=by refine T.av'.go aTF aL;generalize aG=e3,aA=A,aF=outer,aE=s,aD=H,aB=vs,aH=Q,aI=E;rw[aN,M iw,aX,Bf,ds h,fD,b6 a3 e9 h.l,ci v g7 h.p,b ajj (v ajj ajj (dZ uW xU xU) (dZ uW xU nK) (yA aw) (yA aw) ajj) kC ku X lH sk gU gU (r0 de) DD gU,cj c5 c5 qX (br a3),bem];{refine iw;rw[F i M L x b7];rintro hi⟨⟨l,m,p,rfl,a5⟩,s,g⟩⟨t,y,rfl,c6,rfl,b6⟩;rw[aW z c9 e9 (b6 c5 (br a3)),ti hK,ms iI c6,oq (iI.go (cO b5) J),baM,beg,aGy,fh aLN (nV b7 5) (cu b5 (ef (fg cm) ?_) ajh (afB c9 U g)),u aLN gU (r0 de) DD gU bz,Dz J7,BT (¬z.1<z.2),c9 b U (yr (bt gb fX b2 (gM g7)))];rw[d2.length];rw[aJU,BT (¬z.2<de),ca ok (dj (bT z.1 z.2) (bT z.2 de)),bu,qs sk gU,Cr B,bhC,w (ixi U) (ixi b0) axk aLN (! DD q z) aIF bz]};rw[Lb ajh]
universe z
universe GA
namespace HT
open PySem PyProof.Rows
noncomputable def vt:aJZ|[],_=>ai|_::_,[]=>ab|x::O,y::d7=>v x y (vt O d7) (bT y x)
theorem aV1(x y:Int)(O d7:aT):vt (x::O) QW=v x y (vt O d7) (bT y x):=rfl
theorem aV2:vt [] []=ai:=rfl
theorem aV3(y:Int)(d7:aT):vt [] QW=ai:=rfl
theorem aV4(x:Int)(O:aT):vt (x::O) []=ab:=rfl
theorem aV5(A:Around)(s:Shared)(a:Int)(t:Tok)(c:Int)(u:Tok)(prog:Program)(w:World)(E:aU)(Q:aU)(h:jV (bT c a)):zv .Gt:=m7 (PyProof.Rows.gt_int h) .Gt
section z
open PySem.SeqAt
open PySem.AutoSeq1(wpAny_loadPart')
open PySem.MeetsSeq PySem.MeetsSeq2 PySem.MeetsSeq3
theorem aV6(l b:Addr)(f i:dU)(n n2:Nat)(j o:nf)(sl p:Ep)(ns d8:aT)(hi:QQ)(b8:Q_):nv (Builtin.«tuple.__gt__» aJ1) aoF:=Cb (by rw[m6 os s,cy a5 U h];have h3:=aBG;rw[aMi,aMj,Cq (vt I k)];(case turn=>rintro⟨y,x⟩m b c1⟨j6,rfl,vs,ws,I,k,c9,v,r,E,hR⟩;cases v with|nil=>{trivial}|cons a t C=>cases r with|nil=>{trivial}|cons c u F=>rw[alb];injection c9 with G H;rw[aK8];subst b6 S;rw[aV1]at hR;rw[aH1,aMK,C aMy,Co (aV5 kz OE a t c u cM w)]);(case fin=>rintro⟨h2,e2⟩c1⟨j6,rfl,vs,ws,I,k,c9,v,r,E,hR⟩;rw[aGT];subst j6;have d3:vt I k=bT Vl lA:=by{cases v with|nil=>{cases r with|nil=>{rw[ff MO aV2 a8r]}|cons c u hw=>rw[kd aV3 a8r]}|cons a t d3=>rw[m0 aV4 (m8 E.l)]};rw[d3]at hR;wp_walk;exact aLw);rw[aMP])
universe z
section z
variable{prog:Program}{w:World}{A:Around}{E:aU}{s:Shared}
theorem aV7{l b:Addr}{f i:dU}{ns d8:aT}{Q:aU}(a5:aIO)(U:aKo)(hi:QQ)(b8:Q_)(hu:sR<gD)(h:jV aoF):zV .Gt:=t .Gt PySem.F.slot_tuple_gt PySem.F.entry_tuple_gt (PySem.F.args_tuple_gt_2 _ _) (aV6 l b f i n n2 j o sl p ns d8 hi b8) aoF aoF
universe z
universe HT
namespace L2
open PySem PySem.Spec PyProof.Rows
section z
variable{X:Cx}
def axp(K:PySem.W.Frag):R2:=IN (WK ns d8)
theorem aV8(hu:zl<gD):be .Gt (axp X.K):=Cx (HT.aV7 e9 f6 (MQ r1) (MQ r2) hu (eT (WK ns d8) q))
universe z
universe L2
namespace L2
open PySem PySem.Spec PyProof.Rows
section z
variable{X:Cx}
inductive axq(x:V)(vs:af)(H:Hp)(Q:VK):Prop|mk:∀(l:Addr)(O:af)(j:Nat)(y:V),eT [IU,y] (j<=bx) (bx<hv->ys (O.take j++y::G7 j)->axq x vs H Q)
theorem aV9:Sl X "list.insert" axq:=by rw[apy,cp O j y b8,hO];obtain⟨f,u,rfl,⟨t,rfl⟩,m⟩:=rv.two;rw[aaV,bT c b c (c=v j)];have fit:a3V c=ab:=by{rw[qI]at c9;delta a3V;rw[dH ag,dH (x (acP b.m (aC b8) (mh c9)))];rfl};rw[<-b];refine ahe F.slot_list_insert (bm e) F.entry_list_insert (F.args_list_insert_3 _ _ _) (AutoSeq1.list_insert_list_int_val_1 l eT n c t u cq ah) (as e);rw[aC W (min j Hl) j (qO (cf b8 a5.l)),Q .bC _ (eM (ar.take j++u::ar.drop j) ?_ ((J.take j).append (.cons m (J.drop j)))) q];{have a3:¬(c<0):=by{lia-abstractProof};have d:eC=j:=by{lia-abstractProof};apply Array.toList_inj.mp;simp[a3,d,W,a3U,a3T,a3S];exact Dx aQ};{rw[cj,ia,<-aDK,<-cj,Dm];exact c9}
universe z
universe L2
namespace GA
open PySem PySem.Spec PyProof.Rows L2
theorem gtK{X:Cx}{K:Fg}(g:fB)(hu:zl<gD):be .Gt (axp K):=g▸aV8 hu
theorem axr:∀O d7:aT,WK O d7=mK d7 O|[],[]=>rfl|[],_::_=>rfl|_::_,[]=>rfl|x::O,y::d7=>by simp only[WK,mK,axr O d7,eq_comm (a:=x)]
theorem aV'(p q:Pt):WK yj aJ2=M_ p:=J (axr _ _) (Ua q p)
noncomputable def Cg(l m:ki):cb:=l.1.below m.2&&zt l.1 l.2 m.1 m.2
inductive axs(K:Fg)(vs:af)(H:Hp)(Q:VK)(E:XK):Prop|mk:∀(v:V)(b2 c0:Addr)(l:ki)(c5:eh)(f:mZ),e [v,YC,O4] aod (bm dG b2 c5) (bm eR c0 f) (c (kr l.1/\kr l.2) (V p c5 (kr p)) (V J f (kr J.1/\kr J.2)) (dB (c5.any aah||a7U)) (axs K vs H Q E))
section z
theorem axt:T.awd.Ok P w aj 3 (axs K):=by refine T.awd.go aTI aL;generalize aG=e3,aA=A,aF=outer,aE=s,aD=H,aB=vs,aH=Q,aI=E;rw[aN,M P0,aX,n O b2 c0 l c5 f];rintro rfl⟨a,x,y,rfl,b3,S,b6⟩⟨b1,l8,c2⟩⟨ws,hw,j⟩sl e8 e k;rw[d _ (i 3 ajm kH (bU 4 ajm kH) (bX (bd aq 5 ajm (dk (uT (Z awN bb bR cI)) mj)) (bd aw 6 ajm (dk (gB (dZ (gtK (K:=K) rfl aiW) (dh eu) bb) (uT (d9 aVv (vq bb bR (dh eu) (dh eu))))) mj)) mj)) a _ _ _ rfl (u Jt dg a _ (s Jt dq b2 ⟨b1,l8⟩ (aJ b1 (bi (L=H) (∃v,M=Kp ae) (dG (ajl i) aah=ai)) (ai qf rfl) (mM (z.1▸l8)))))];{rw[g3 L v g];have⟨p,a3,J⟩:=oz c2 c9;rw[aK (ajl (i+1)) (ajl i) p a3,e l.1 l.2 p (cz S b6 J) sl.1.ks sl.2.ks (e8 p (bO a3)).ks J7];{have:c5.any aah=ab:=a3W (v p (bO a3) c);rw[this,aB2]at k;exact k};{refine ai ei ?_;rw[g9,List.any_append,g];simp at c;simp[c]}};rw[fw L v g,c_ aiZ g];rw[g,aB1]at k;rw[bD c0 ⟨ws,hw⟩ (aJ ws (fun i M j1=>yQ (j1=L) (∃j5,M=Kp j5) (dG (ajk i) (Cg l)=ai)) (ai qf rfl) (fun i M j1 _ z=>z.1▸hw))];{rw[g3 j1 j5 g8,c J I b n a4 U r1 r2 (oz j c9)];have sm:=e J (bO I);rw[aK (ajk (i+1)) (ajk i) J I];have k0:=gT (by have:a7U=ab:=a3W (v J (bO I) c);rw[bs this];exact k);have f6:Cg l J=ai->dG (ajk (i+1)) (Cg l)=ai:=gT ag;have⟨e5,b4,d2⟩:=S;have⟨e6,b9,q2⟩:=r2;subst b4 b9;rw[c9 b U (m e6 e5 (oB q2) (oB d2) ?_)];rw[aV'];unfold Cg at k0 f6;rw[kj];{rw[Dz (a _ _ _ _ l.1 l.2 J.1 J.2 (a rfl S b6 r1 r2 sl.1 sl.2 sm.1 sm.2 a_z)),l (k0 ag),l (ai ei (f6 ag))]};{refine ai ei (f6 ag)}};rw[fw j1 j5 g8,c_ j.length g8,bs g8];exact k
universe z
structure vu(H:Hp)(l:Addr)(Y:bg)(g:AL):Prop where
 lst:am l Am
 nd:aDL
 len:eM=NW
 at_:HC (I ns (A g ns) (am a je) (a≠l))
theorem vu.mono{H L:Hp}{l:Addr}{Y:bg}{g:AL}(h:aHR)(s:bQ):vu L l Y g:=KN (bv q)
theorem vu.get{H:Hp}{l:Addr}{Y:bg}{g:AL}(h:aHR){i:Nat}{ns:ao}(hi:A g ns):I a Et (am a je) (a≠l):=by rw[cR a5 (i<eM) ajn NW];obtain⟨I,e,q,n⟩:=a'F;rw[a6 hi,dS];exact bcP
theorem vu.put{H:Hp}{l:Addr}{Y:bg}{g:AL}(h:aHR){i:Nat}{a:Addr}(b3:Et)(ns:ao):vu (ap a je) l Y (g.set i ns):=by have⟨d,f5,N,c6⟩:=aGu;rw[bgB,ZX,Ia ak];{have⟨I,b4,d2,n1⟩:=mV j b U;exact d I bz (Y beW d2) n1}
noncomputable def vw(ls:nD)(i:Nat):ao:=ls.filterMap (mx (av (l.1=i) l.2 (av (l.2=i) l.1 ae)))
theorem aWa{ls:nD}{n:Nat}{e:fz}(h:e.1≠e.2)(a3:e.1<n)(a9:e.2<n):(bp (bp (d7 (vw ls)) e.1 (vw ls e.1++[e.2])) e.2 (vw ls e.2++[e.1]))=d7 (vw amL):=by rw[alJ,aGs];simp only[a3X,M9,WL,MW,bA,aCR];have f9:vw amL i=vw ls i++(v e.1 i [e.2] (v e.2 i [e.1] [])):=by{delta vw;rw[aiM];rw[dW];simp only[Ha,aDc];rw[N d2 e.1 i,aZ,cK]};rw[f9];rw[N q2 e.2 i,az,cK]
inductive axu(C:Addr)(vs:af)(H:Hp)(Q:VK)(E:XK):Prop|mk:da (zy Ye) QZ (QO->(∀l Y L,bQ->vu L l Y (ce de DE)->Q cB L)->axu C vs H Q E)
section z
theorem aWb:T.av0.Ok P w aj 1 (axu bJ):=by refine T.av0.go aTy aL;generalize aG=e3,aA=A,aF=outer,aE=s,aD=H,aB=vs,aH=Q,aI=E;rw[aN,M iw,aX,Bf,cn c1 c9 o,fD,QY,aaS,fV,ev (b4 (e ajo 1 pH (cj "point" 2) (ci 2 ajo) kK (bC AQ)) (mz pH (V 3 ajo 4 ajo) (c7 (dD amQ bR) (dD (bs aq bR) bb))) aq) (a hd dR gb fX b2 rfl (dB c5 a3) (fun Z f=>g7 (bQ/\g2 Z gp (b≠Z)) f a3))];{rintro i x L S⟨s,Y,e,len,nd,al⟩;have hi:=bx S;have p5:=qX;rw[im ⟨cS,fun b U=>?_⟩];have a5:b≠Z:=J ah;rw[K6 f,l3 ak,beU,bih]};rw[Kw a8,bgL,a2 (di hd) (s kC ku X (dB ls (di a9)) (bV ls (bi (vm (fun j8 b1=>M=[kJ,ac Z,ae,j8,b1])) bQ (vu L Z Y aHt)) (v J9 a4 (by rw[HX a8E];have hi:=bx U;rw[a'x];rfl)) a9))];{rintro i x M L S⟨⟨j8,b1,rfl⟩,s,N⟩;rw[BZ (oz f6 S)];have C:=c1 e uj;rw[apb,bfj,ak g7 aHt e.1 (le e.1) n0];obtain⟨e5,e0,d2,n1⟩:=N.get g7;have d:∀j,bd (le j) 8192:=iQ (by rw[tf (a3Y _ _)];rw[eS];exact cn (oO i lH) o);rw[b b _ rfl (cx (bv U)) rfl Z _ _ (a (gR e5) rfl rfl (av wO) (nl e0) (dp d2) e5 _ (f _ rfl d2 (as (Ev (d e.1))))),aS a7 (bh (le e.1)++[g0 e.2]) (bh aaC)];rw[a7];rw[b2 (N.put e0 aaC),aj n (U L e5 (bh aaC)) (fG s (aV (al e5 (bO e0)))),i L e5 (bh aaC) b7 l n,dC g8 (ap (bp aHt e.1 aaC) e.2 (le e.2))];obtain⟨e6,g0,q2,n2⟩:=l.get g8;rw[r Z (gR e6) (av l.lst) (nl g0) (m (dp q2) e6 q2 (Ev (d e.2)) ?_),aS p (bh (le e.2)++[g0 e.1]) (bh a'w)];rw[p];rw[ak (bm _) (fG n (aV (al e6 (bO g0))))];have g:=l.put g0 a'w;rw[aWa (fY (gv z.g C.1)) n0 C.2]at g;rw[L g9 g]};rintro M L⟨⟨j8,b1,rfl⟩,s,N⟩;rw[c_ NV N];exact(k Z Y L s N)
universe z
inductive rGN(K:Fg)(x y:V)(H:Hp)(Q:VK):Prop|mk:∀(p:Addr)(O:af)(j:Nat)(v:V),b x fO (y=vn j) ZE ank (AB->rGN K x y H Q)
theorem aWc{X:Cx}{K:Fg}(g:fB):aqM X (rGN K):=by subst g;intro au s M H o i ov c Q I b a h;rw[c p O j v rfl e0 S q h];cases b;rw[ep a,a9 J d5 OA,bl n m (ag9 S)];have b8:=bx S;rw[fV];exact wpAny_getItem_list zg aQ fk ag (a v H I m q)
def Ui:Rl iY:=fun _ v o=>match o with|none=>v= .bC|some n=>v=jf
theorem LL{p:ur}{n i:Nat}(hi:i<n)(h:p i=ab)(g:yZ (p j)):QM=aa i:=GM.auq.mpr (v hi h g)
theorem Uj{p:ur}{n:Nat}(g:E j (j<n) (p j=ai)):QM=ae:=GM.aeE.mpr g
inductive axw(vs:af)(H:Hp)(Q:VK)(E:XK):Prop|mk:Km (A [cB] alB (t6 (ch n (dJ (s3 (a5 i))))) (axw vs H Q E))
noncomputable def Ci(par:gn)(x:Nat):V:=match par x with|none=> .bC|some p=>jN
noncomputable def yT(B:ao)(par:gn):gs:=ajp (fun(x:Nat)=>((hE x:Key),Ci par x))
theorem GQ(par:gn)(y:Nat):∀B:ao,fa akU (hE y)=av (y∈B) aIB ae|[]=>rfl|x::J=>by have d6:=GQ par y J;unfold yT at d6⊢;rw[c_];rw[b1 x y];{rw[bY];rw[r_ rfl,aK bK]};{rw[se (by rw[fS];exact e cq),d6];by_cases m:y∈J;rw[aZ,cK]}
inductive axx(vs:af)(H:Hp)(Q:VK)(E:XK):Prop|mk:∀(l d:Addr)(Y:bg)(n:Nat)(a5:lZ)(B:ao)(par:gn),e [cB,ny] alB (j4 n) (bh d O6) (ad v (Ui H v (ch n aJY)) AB->axx vs H Q E)
inductive axy(vs:af)(H:Hp)(Q:VK)(E:XK):Prop|mk:Km (e [cB] alB (0<n) (j4 n) (j (ad x (n<=x) (a5 x=[])) (e3 (ds (a5 x) (y<n))) (e3 (j4 YX)) (apg) (∀d B par L,j bQ (Y d) (L d=aa O6) aLj alO (Q ny L)) (axy vs H Q E)))
section z
theorem aWd:T.av1.Ok P w aj 1 axw:=by refine T.av1.go aeW aL;generalize aG=e3,aA=A,aF=outer,aE=s,aD=H,aB=vs,aH=Q,aI=E;rw[aN,M oc,aX,al l Y n a5,ds N,apS,cl (bo (t bS 1 aeW.nd 2 aeW.nd (D lq (dN aw) bE aq)) cu) (av wO) (bv n (bi (vm (fun O o=>M=[tP,O,o])) bQ (yZ (s3 (a5 j)))) (v J9 eg (i4 Ao))),CP (as (gR (dx Y ag)) (br wO) ag),wK (av (br wO) ag)];{refine iw;rw[F i M L x b7];rintro hi⟨⟨O,o,rfl⟩,s,g⟩⟨t,y,rfl,c6,rfl,b6⟩;rw[n2 (br wO),cl gi (A (d7 a5) (a5 i)),eC X nc (N.get gi)];rw[cz,b0]at b6;cases b6;rw[ti (eq (.ref c)),d t _ rfl (cx ak) rfl c _ (as (cc (gM X)))];rw[bA];rw[FH];{rw[bD (ax b5 ?_)];rw[LL hi (ax (l_)) g];rfl};{rw[aa (bm _) b5 Rk,ZX];{rw[fT]};rw[l (g j (iM e))]}};{refine fP;rw[XT];rintro⟨⟨O,o,rfl⟩,s,g⟩;rw[Je];rw[Uj g];rfl}
theorem aWe:T.av3.Ok P w aj 1 axx:=by refine T.av3.go au1 aL;generalize aG=e3,aA=A,aF=outer,aE=s,aD=H,aB=vs,aH=Q,aI=E;rw[aN,M ob,aX];generalize kQ=l,kR=d,kS=Y,kT=n,kU=a5,kX=B,k_=par;rw[av N d1 hd k,apS,b _ (bo (an (ot nB) 2 au1.nd (dk (Bq (Sy xr aw aq)) aw)) cu) l _ rfl (cc wO) cJ ag (aJ aQ (w7 d1))];rw[iQ];rw[fv n (bi (L=H) (∃o,M=[tP,rr,o]) (yZ (! cv (j∈B)))) (ai qf (i4 Ao))];{rintro i M L hi⟨rfl,⟨o,rfl⟩,g⟩;rw[aLz];rw[d2];rw[s9 (jm.k (k:=ht xp) hd)];rw[GQ];by_cases m:i∈B;{rw[aK m];refine ai ei Rk;rw[ZX,aZ,l (g j (iM e))]};{rw[aO m,bD (k _ ?_)];rw[LL hi (ar m) g];rfl}};{rw[fw L o g];refine k _ ?_;rw[Uj g];rfl}
universe z
theorem LM{n j:Nat}(h:j<n):qu n (v j)=aa j:=b0 qu (aK aQ) (aK (x (mh h))) iQ
theorem afC{I:Type}:∀l:ba,kv (au (cd 0))=Vj d_ 0|[]=>rfl|a::J=>by rw[c_,afC J];rfl
theorem axz{f g:cC}{x:Nat}(e:g x+1=f x)(o:E y QC (g y=f y)):E n (x<n) ((d7 g).sum+1=(d7 f).sum)|0,h=>rI h|n+1,h=>by rw[ajq,fe,fe,aDM,aDM];simp only[c_,zk,a3Z,List.sum_nil];rw[iL n];{rw[e_];have:ce x g=ce x f:=aix (oW (o y l_));rw[nY];simp+arith [*]};{rw[dr (axz e o n (cw h q))];rw[o n (J (q wa))];simp+arith [*]}
noncomputable def aWf(a5:lZ)(n:Nat)(o:ao):Nat:=(d7 (ab (YX-Yg))).sum
theorem aWg{a5:lZ}{n:Nat}{o:ao}{x:Nat}(S:x<n)(i0:aDO=n)(h:Yg<YX):oX (aDN x (Yg+1))+1=oX o:=by refine axz (x:=x) ?_ Q1 n S;{rw[fT]};rw[dV]
theorem aWh{o:ao}{x:Nat}(S:x<aDO):(e7 (am (aDN x (Yg+1)) y 0))=GM.bump (e7 (aDP y 0)) x:=by funext y;delta GM.bump;rw[Wu];rw[b1 y x,aZ,cK]
theorem aWi{B:ao}{par:gn}{y t:Nat}(h:y∉B):mM akU (hE y) (vn t)=yT (eA B) (WM par y t):=by rw[aPL _ (bj GQ (bj h))];delta yT;rw[fe];rw[dW];{rw[jL qj];have:x≠y:=an (h ah);delta Ci WM;rw[aO this]};{simp[Ci,WM]}
section z
theorem aWj:T.av2.Ok P w aj 1 axy:=by refine T.av2.go aTz aL;generalize aG=e3,aA=A,aF=outer,aE=s,aD=H,aB=vs,aH=Q,aI=E;rw[aN,M oc,aX,al l Y n a5];rintro rfl N c6 d1 b8 b1 g sym k;rw[apS];have f3:=qI;rw[eX (L NX (aP8 (aP6 bE cu aP5) rfl rfl Rj ay) (aS NX 2 3 3 NX) (i 4 NX (d9 bE) (FX NR (afg K bR) (i 5 NX (bs bR (aqR aqU bE)) (ai gM (iX cI) (dN (eC cI)) (Cd bR) aNE) (i 6 NX (bs (eC cI) (iX cI)) (qB aw cI) (fE (rX (Bq (Sy xr eu aq)) (c7 (dY aq eu cI) (dD bR eu)) Bt))))) (de aq))) (s4 (f ak a64 ay ?_))];rw[yp];rw[ym aI7,e b4 H d aI7 d (.dK (yT [0] uu)),is (ad d aI7),bii,a7 l (di wO) (sT (d oy aoL sr a9 (au xl) h7 a'y)),eX a x b3,bbx];have c3:=vk f6;rw[eT c3,bgF];rw[g9]at c3;rw[jW];have c5:=IQ;have W:=fm b4 h7;rw[v (bB) (fun p a0=>?_),T c8 b7 (U b7 p hb) a0,a e7 b7 p hb p hb,cj I p d,M O p t bM,gZ p hb];have Hp:=eU eN a0;rw[ak (qK (La (m=anO+aDQ/\M=bhU/\db bQ (L d=aa O6) (aj t (tk vn)) (aj p (path.map vn))))) (a _ [0] uu (Vj n 0) [0] ae ae rfl (a rfl (J eN c8) (dm c5) (dm b9) e7 aBD ?_ (aJ ah) bB a_))];{have:(ab (am (Vj n 0) x 0))=ng:=bz;rw[nY];exact GM.aRd a5};rintro m M L⟨B,par,o,path,i1,j5,rfl,rfl,s,a3,j,e1,C,D,lt,lo,b2⟩;rw[ca (.inl (bm (av e1)))];rcases a31 dI with rfl|⟨f,e,rfl⟩;{rw[bD (k d B par L s nd a3 (D.tree sym) lt)]};{have c4:=Nj e aQ;have c7:=lt e c4;rw[a30]at*;have ne:(!(bh AW).isEmpty)=ab:=by{simp};rw[ne];rw[cl c0 (K o e D_),cl r (ap (d7 a5) e (a5 e))];have⟨c,b0,X,nc⟩:=(ajs s).get r;have Z:=(ajs s).lst;rw[c (n5 (anO+t AW) (La (f7=anO+aDQ/\g0=bhU/\db (cY H j1) (j1 d=aa O6) (b5 (j1 t) (tk vn)) (b5 (j1 p) (path.map vn))))) aaO p _ _ (vn e) (b rfl rfl (av e1) (t fe (art _ _)) t _ (vn D_) (b rfl rfl (av j) O7 l _ (gR c) (b rfl rfl (av Z) (nl b0) c rfl (cc X) gJ)))];rw[dN,bA];rw[FH];{rw[c (dp e1) p _ (vn e) rfl e1 aQ (a (anO+Dl) aQ B par o f _ j5 (a rfl rfl (fG s Hp) (Y I.symm a3) (Y O.symm j) (nN ak) C (D.pop rfl bz) lt lo (nF b2)))]};{have h8:=D.SS e;have d3:D_<t (a5 e):=by{lia};have u:=da d3;generalize(a5 e)[D_]=y at u;have G:=b1 e y (bO u);rw[r l (gR c) (av Z) EA (D t D_ (av j) EA (D c y (av X) EA (f t _ e (vn D_) rfl (av j) ah (cY t e j ah)))),bN a7 (bc1) JB ajr,t1 (U L t bc1)];rw[a7];rw[aj d9 (U L t JB) (fG s (gV h7)),z g4 (upd L t (.lst JB) d=aa O6) (bW W) a3,a h3 L t JB t JB,z h6 (N L t JB p (bh AW)) (bW O) e1];generalize U L t JB=e4 at d9 g4 h3 h6;have F:=aWg (a5:=a5) c7 C d3;rw[bL e0 (t akV) n,s9 (w5 g4)];rw[GQ];by_cases U:y∈B;{rw[aK U];rw[b (2*oX akV+t AW) bM B par _ AW _ _ (a rfl rfl d9 g4 h3 h6 e0 ?_ lt lo b2),L bck (D.old aG6 u U)]};{rw[aO U];have R:eB+1<=n:=by{rw[dh (asa D.nd U) (eJ n) (aJ (by rw[hZ S,aZ,az])),gf]};rw[s9 (qw.k (k:=hE y) g4 (n1 yT (hn R d1 fw)))];rw[aWi U];rw[z e2 (b5 (upd e4 d (.dK (yT (eA B) (WM par y e))) p) (bh AW)) (bW I) h6,bL d5 (t AW) n pM,n (dp e2) p e2 (x (RM b2 R d1 fw)) (a (2*oX akV+t (eA AW)) (eC F.l F.l) (eA B) (WM par y e) _ (eA AW) _ _ (a rfl rfl (fG (gc d9) Hp) ?_ ?_ ?_ e0 ?_ ?_ ag ah))];{rw[bW I.symm,ak]};{rw[bW O.symm,bW W.symm];exact h3};{rw[ak,<-List.map_singleton (f:=vn),<-fe]};rw[Z bck (D.new sym aQ u U)];{intro x S;rw[hZ S,aZ,az]}}}}
universe z
def mA(N:bg):Rl Cy:=fun H v x=>match x with| .lead row m=>∃a i7 b8,iW (l1 bbS) (e3 i7 row/\Z5/\i7∉N)| .erase i j=>z a (v=bc) (l1 [.int 1,pC,vn j])| .move k p=>∃a pv,v=bc/\l1 [.int 2,vn k,pv]/\br pv p| .mark i m=>∃a b8,v=bc/\l1 [.int 3,pC,b8]/\Z5| .drop k=>z a (v=bc) (cw (d_ 4 (vn k)))
def LN(C:Addr)(H L:Hp)(r:Gla.Plan)(b2 X:Addr)(x:Gla.Step)(v:V):Prop:=match ajt r x with|none=>v= .bC|some T=>∃b6 a e7 i I,iW (LH C L a b6 e7 i I) (DB b6/\zI b6=zI T/\z (zI T=ae->b6=T) (Y a) (Y e7\/e7=b2) (Y i\/i=X) (Y I))
inductive axA(C:Addr)(vs:af)(H:Hp)(Q:VK)(E:XK):Prop|mk:∀(a:Addr)(r:Gla.Plan)(b2 X G:Addr)(a0:V)(x:Gla.Step),e [bc,a0] Qi (mA [] H a0 x) (wQ r) (H9 x->nM x->axA C vs H Q E)
def Uk(C:Addr)(H:Hp)(v:V):cu Ei|none=>v= .bC|some B=>∃b b2 X G,v=cV/\LH C H b B b2 X G
inductive axB(C:Addr)(vs:af)(H:Hp)(Q:VK)(E:XK):Prop|mk:lH (DB D) (aLv->ge (zI D)->axB C vs H Q E)
universe GA
namespace GM
noncomputable def sm:cC|0=>0|n+1=>5*sm n+1
noncomputable def fn:gG Nat Nat|0,x=>x|n+1,x=>5*fn n x+1
theorem LO:aP n x (fn n x=5^n*x+sm n)|0,x=>eI fn sm|n+1,x=>by simp only[fn,LO n x,sm,HM];grind-abstractProof
theorem afD:∀(a b x:Nat),fn (a+b) x=fn a (fn b x)|0,b,x=>ar fn|a+1,b,x=>n3 fn (afD a b x)
theorem aWk(a b:Nat):sm (a+b)=5^a*sm b+sm a:=by have h:=afD a b 0;rw[LO,LO,LO]at h;simpa using h
theorem afE:∀k,∃u,5^(2^k)=1+4*2^k*u|0=>⟨1,ay⟩|k+1=>by rw[i3 u (afE k),dI (u+2*2^k*u*u)];rw[HM,Nat.pow_mul,h];grind-abstractProof
theorem axC:∀k,∃v,sm (2^k)=2^k*(2*v+1)|0=>hm ay|k+1=>by have⟨v,h⟩:=axC k;have⟨u,g⟩:=afE k;rw[dI (v+2*2^k*u*v+2^k*u+0+(2*v+1)*0)];rw[show uq=2^k+2^k by grind,aWk,h,g];grind
theorem aWl(k x:Nat):∃c,fn (2^k) x=x+2^k+uq*c:=by obtain⟨u,g⟩:=afE k;rw[i3 v (axC k),dI (2*u*x+v)];rw[LO,g,h,HM];grind-abstractProof
theorem axD:∀(k i j:Nat),z n (n<2^k) (JS%2^k=j%2^k)|0,i,j=>v 0 ay cq|k+1,i,j=>by rw[bcQ,cU f6 uq (2*2^k)];have p:e3 (x%uq=x%2^k\/x%uq=x%2^k+2^k):=ab (by rw[f6,air,a3b];rw[al (Nat.mod_two_eq_zero_or_one (x/2^k))];{rw[xi]};simp[*]);rw[T (JS%uq) (j%uq),cK];{rw[ak (2^k+n) (bn f6.g d1)];rw[afD];rw[c8 h (aWl k JS)];rw[h,Nat.add_mul_mod_self_left];rw[cy (p JS),cb (p j)];rw[e]at a;rw[aS d ((JS+2^k)%uq) ((JS%uq+2^k)%uq)];rw[d];rcases a with a|a;{rw[a];rcases b with b|b;rw[az];{rw[b,er eO]}};{rw[a];rcases b with b|b;{rw[b,dv (j%2^k+2^k+2^k) (j%2^k+uq),Nat.add_mod_right,er eO]};simp_all}}
theorem aWm{k i a b:Nat}(b3:a<2^k)(U:b<2^k)(h:fn a i%2^k=fn b i%2^k):a=b:=by have O:∀(m:Nat)(f:cC),ad n (n<m) (f n<m)->ad j (j<m) (z n (n<m) (f n=j))->f a b (a<m) (b<m) (f a=f b) (a=b):=by{intro m f W c a b b3 U e;rw[a8c];let l:=(eJ m).erase a;rw[cU G (t xK) (m-1),eZ all (∀j∈eJ m,j∈xK)];have len:∀{l m:ao},aMm:=by{rw[rD];induction l with|nil=>{intros;exact cS}|cons x l d6=>rw[bZ m nd];have n2:=Ay;have N:=GB cq;have a8:=h x bK;have:=aCh a8;rw[oS N];exact mI N a8};have:=len WN all;rw[am G,ui];exact gv this (aC m 1 b3)};have V:0<2^k:=a3e ay;exact O (2^k) (eb (JS%2^k)) (fun n _=>VP _ V) (i4 (by rw[bcQ];exact v n d1 (bj e (er b8)))) a b b3 U h
universe GM
namespace GM
open PySem PySem.SetTable
noncomputable def Ul(t:SetTable)(p:Probe):Ia:={p with j:=FG,more:=kD df FG-FG,i:=FG,perturb:=(tl df p.i H_).2}
theorem aWn(t:SetTable)(p:Probe)(h:iW=0):zJ p=X7:=by delta aDR Ul;simp[h]
theorem aWo(t:SetTable)(p:Probe)(h:0<iW):zJ p=bcl:=cF aDR kO
noncomputable def oD(p:Probe):ao:=ce (iW+1) (p.j+ ·)
noncomputable def lx(t:SetTable):gG Ia Ia|0,p=>p|J+1,p=>lx t J X7
noncomputable def path(t:SetTable):gG Ia ao|0,_=>[]|J+1,p=>uo++aIJ
theorem aWp(p:Probe)(h:0<iW):uo=p.j::oD bcl:=by delta oD;simp only;rw[aS (iW+1) ((iW-1+1)+1) (cU (aS iW 1)) (cU (aC iW 1 h)),ahg,c_,jw];simp only[Hy];rw[dW,a77];simp only[Wm];simp+arith [*]
theorem aWq(p:Probe)(h:iW=0):uo=[p.j]:=f5 oD h
theorem axE(t:SetTable)(p:Probe):∀(J:Nat),aHh=p.j::bo (iW=0) (dI t J (zJ p)) (dI t (J+1) (zJ p)):=by intro J;rw[d3 h iW];{rw[aK h,aWn t p h];simp only[dI,aWq p h,List.singleton_append]};{rw[bj h,aWo t p aml];simp only[dI];rw[aWp p (x (aV aM5 h)),ahn];rfl}
theorem axF(t:SetTable)(hashAt:ee)(h:Int)(nd:bc8):∀(r J:Nat)(p:Probe),bd hL r->(aIY)->ax m bgt m|r,0,p,_,⟨j,b8,_⟩=>a7J|0,J+1,p,l,_=>ah|r+1,J+1,p,l,⟨j,b8,e⟩=>by rw[axE]at l b8;simp only[aDS];cases c0:zK p.j with|empty=>{exact ei}|dummy=>{simp_all}|live i=>simp only;split;{simp};{rw[wP b8];have M:=b8.resolve_left Qf;rw[T iW 0,g4 (aK q) J (x (a2y l)),g4 (bj q) (J+1) ah]}
noncomputable def cands(t:SetTable)(hashAt:ee)(h:Int)(l:ao):Nat:=t (zr (iQ (match xc with| .live i=>DF i==h|_=>ai)))
theorem GR(t:SetTable):A1 (hL=(eJ J).flatMap aKf)|0,p=>rfl|J+1,p=>by rw[ahg,o_,aCY];simp only[dI,lx,GR t J]
theorem LP(t:SetTable):∀(a b:Nat)(p:Probe),lx t (a+b) p=lx t b (lx t a p)|0,b,p=>ar lx|a+1,b,p=>by rw[dv (a+1+b) ((a+b)+1)];simp only[lx,LP t a b]
theorem Um(t:SetTable):A1 ((g1 J).perturb=H_/32^J)|0,p=>ar lx|J+1,p=>by simp only[lx,Um t J];show(H_/32)/32^J=_;rw[Nat.div_div_eq_div_mul,HM,air]
theorem afF(t:SetTable):nb (0<J) ((g1 J).j=(g1 J).i/\s2 (g1 J))|0,p,h=>ah|1,p,_=>by{rw[bu];show kD df _-_<=9;delta kD;rw[Za]}|J+2,p,_=>Hu (afF t (J+1) _ pS)
theorem Uo(t:SetTable){k:Nat}(c3:ans):∀(n:Nat)(q:Probe),q.perturb=0->q.i<2^k->(alg).i=fn n q.i%2^k/\aGX=0|0,q,b1,hi=>by{simp[lx,fn,er hi,b1]}|n+1,q,b1,hi=>by have d6:=Uo t c3 n q b1 hi;rw[dO (n+1) (n+1),LP t n 1];constructor;{show(tl df (alg).i aGX).1=_;delta tl;simp only[d6.1,d6.2,c3,fn];rw[Nat.zero_div,Hy,a32,a33,Nat.mod_mod,<-a33,<-a32,air]};{show(tl df (alg).i aGX).2=0;delta tl;simp only[*]}
theorem axG(t:SetTable){k:Nat}(c3:ans):nb (0<J) ((g1 J).i<2^k)|0,p,h=>ah|1,p,_=>by{show(tl df _ _).1<_;delta tl;simp only;rw[c3];omega}|J+2,p,_=>Hu (axG t c3 (J+1) _ pS)
theorem aWr(p:Probe):t uo=iW+1:=ar oD
structure axH(t:SetTable)(k:Nat):Prop where
 mask:ans
 GS:a80
 fill:qY<=df
theorem afG{t:SetTable}{j i:Nat}(h:xc=Yc):j∈zL:=by rw[a4 aDT];grind-abstractProof
theorem afH{t:SetTable}{k:Nat}(Y:yf)(j:Nat):xc≠.dummy:=by delta aDT aDU;rw[Y.GS];rw[xj]
theorem afI{l m:ao}:aMm:=by induction l generalizing m with|nil=>{intros;exact cS}|cons x l d6=>rw[dt nd];have n2:=Ay;have:=aCh (h x bK);rw[ci (GB (ae (a2D (fun(e:y=x)=>n2.1 (e▸b6))) (h y (ck b6)))),cQ this];exact mI q (h x fu)
theorem aWs{t:SetTable}{k:Nat}(Y:yf):z e (e<=df) (zK e= .empty):=by rw[anv];have all:aK (eJ (df+1)) (x∈zL):=by{rw[Bh];cases h:zK x with|empty=>{grind-abstractProof}|dummy=>{rw[dQ h (afH Y x)]}|live i=>exact afG h};have:=afI WN all;have:=Y.fill;simp at*;lia-abstractProof
theorem aWt{t:SetTable}{k:Nat}(Y:yf){p:Probe}(c2:H_<2^64):∃j∈amE,I8:=by rw[gr c0 (aWs Y),bdC];have D:e<2^k:=by{have:=NY;exact fb a0 this.l};rw[er D]at a7;rw[cp e c0];rw[GR,VX];rw[ak (13+n) ag,b2 (Uo t NY n _ (by rw[Um];rw[fT]) (BH NY))];delta oD;rw[fJ];rw[ak 0 aQ,bgf]
theorem axI{t:SetTable}{p:Probe}(c4:iW<=9):∀(J:Nat),bd hL (10*J):=by intro J;rw[GR];have:∀(l:ao),bd (Nz aKf) (10*d_):=by{rw[rD];induction l with|nil=>{exact cS}|cons a b d6=>rw[o_,cj,aWr,ia];have:s2 (g1 a):=by{rw[al (a34 a),Z q c4,l (afF t a p q).2]};exact cf this d6};grind-abstractProof
theorem aWu{t:SetTable}{k:Nat}(Y:yf){p:Probe}(c4:iW<=9):bd amE (10*Ib df):=by have:=axI (t:=t) (p:=p) c4 IZ;have:=NY;delta Ib;lia-abstractProof
noncomputable def vx(t:SetTable)(j:Nat):cb:=cv (j∈zL)
theorem axJ{I:Type}{p q:AU}:qu (bk l (p x=ab->q x=ab)->bd (zr p) (t (zr q)))|[],_=>aQ|x::l,h=>by rw[dr (axJ (p:=p) (q:=q) l aIP)];grind-abstractProof
theorem aWv{t:SetTable}{hashAt:ee}{h:Int}(l:ao):WO t DF h l<=t (zr (vx t)):=by delta WO;refine axJ l (fun j _ q=>?_);cases c0:xc with|empty=>{simp_all}|dummy=>{simp_all}|live i=>delta vx;simp only[iS];exact afG c0
noncomputable def Cj(f:cC):Nat:=(ce 10 f).sum
theorem aWw(f g:cC):p1 (f o+g o)=Cj f+Cj g:=by delta Cj;generalize eJ 10=l;induction l with|nil=>{rfl}|cons a b d6=>simp+arith [*]
theorem aWx{f:cC}{c:Nat}(h:∀o,f o<=c):Cj f<=10*c:=by delta Cj;have:∀l:ao,(xK).sum<=d_*c:=by{rw[rD];induction l with|nil=>{exact cS}|cons a b d6=>rw[kt a3Z ia];grind-abstractProof};grind-abstractProof
noncomputable def one(b:Bool):Nat:=Z b 1 0
theorem aWy:∀(m:Nat)(f:ur),m<=10->bd (dy m f) (p1 (one (f o))):=by intro m f c4;have a:∀l:ao,t (zr f)=(kv (ld (one (f o)))).sum:=by{rw[rD];induction l with|nil=>{rfl}|cons x J d6=>rw[bC q (f x)];{rw[ah3 q];simp[d6,one,q];simp+arith [*]};{rw[a36 q];simp[d6,one,q]}};rw[a];delta Cj;rw[show eJ 10=eJ m++ce (10-m) (m+ ·)by rw[<-a35];rw[dW];simp[*]];rw[fe,aDM];exact xC
theorem axK{t:SetTable}(q:df Ia)(e0:∀n,s2 (q n)):∀(ns:ao),bd (ea (ns.flatMap (eb (oD (q n)))) (vx t)) (p1 (t a7V))|[]=>by{rw[tY]}|n::ns=>by have d6:=axK (t:=t) q e0 ns;rw[o_,DG,cj];have e:(ld (go (n::ns) (eb Jg)))=ld (one Jg+t a7V):=by{funext o;rw[bC h Jg];{rw[ah3 (p:=eb Jg) h];simp[one,h];simp+arith [*]};{rw[a36 (p:=eb Jg) h];simp[one,h]}};rw[e,aWw];have J:go (oD (q n)) (vx t)<=p1 (one Jg):=by{delta oD;rw[a37,bA];have:=aWy ((q n).more+1) (vx t∘((q n).j+ ·)) ag;exact this};exact aDV J d6
theorem aWz{t:SetTable}{k:Nat}(Y:yf){p:Probe}(c2:H_<2^64)(c4:iW<=9)(hashAt:ee)(h:Int):WO t DF h amE<=130+10*qY:=by rw[tf (aWv _)];rw[GR,a0 (eJ IZ) (eJ 13++ce (2^k) (13+ ·)) a35,zG,DG,cj,aCY];have a:go ((eJ 13).flatMap aKf) (vx t)<=130:=by{rw[tf AI];rw[<-GR];exact axI c4 13};have j4:∀n,(g1 (13+n)).j=fn n (g1 13).i%2^k:=eb (ac (aGx).1 LP (Uo t NY n _ (by rw[Um];rw[el]) (BH NY)).1);rw[cb (axK (t:=t) (eb (lx t (13+n) p)) (eb (aGx).2) (eJ (2^k)))];have c:(p1 (t (dy (2^k) a_O)))<=10*qY:=by{refine aWx (fun o=>?_);have nd:c7 (B (dy (2^k) a_O) (eb ((g1 (13+n)).j+o))):=by{rw[JV,hY (a2U _ WN),re e];have d:=fb b3;have j6:=fb U;simp at d j6;rw[j4,j4]at e;exact ne (aWm d j6 (a0L e))};have:=afI nd (m:=zL) (aJ (by rw[a3 n d1 S];have:=(vJ d1).2;unfold vx at this;rw[gf]));rw[gf]};exact hn a b c
theorem aWA{t:SetTable}{h:Int}:(NZ h).perturb<2^64/\s2 (NZ h)/\(NZ h).dummy=ae:=by delta SetTable.probeStart;rw[cp ?_ rfl];{delta Ic;lia};{show kD df _-_<=9;delta kD;rw[Za]}
def iJ(O:PH):Prop:=O.toList.Pairwise (· < ·)
theorem afJ{O:PH}(h:iJ O){a b:Nat}(u:a<b){x y:Nat}(S:nV a)(b6:K O b y):x<y:=by rw[<-ph]at S b6;rw[ez F a a38,ez i5 b a38,da F S,da i5 b6];have:=Na h a b F i5 u;rw[bX (cZ S) (cZ b6)];exact this
theorem afK{O:PH}(h:iJ O)(j:Nat):∀(r lo hi:Nat),j (hi-lo<=r) (lo<=hi) (hi<=ip) (z3 lo) (z4 hi) ((aMz<=ip)/\z3 aMz/\z4 aMz)|0,lo,hi,f,l,s,a,b=>by{have:hi=lo:=gx (cf (aS hi lo) f) (cU l);rw[gm];simp only[aDW];exact v s a b}|r+1,lo,hi,f,l,s,a,b=>by simp only[aDW];by_cases q:lo<hi;{rw[aK q];have g8:uM<ip:=by{lia-abstractProof};have mg:=lI g8;rw[cr d (O.getD uM j) O[uM]];by_cases c:O.getD uM j<j;{rw[aK c];rw[d]at c;refine afK h j r _ _ Ba fk s a'Y b;rw[cY (qN (HA R)),cb (afJ h z S mg) (js bG bG)];simp_all};{rw[aO c];rw[d]at c;refine afK h j r _ _ Ba fk ej a a'Y;rw[cY (qN R),cb (afJ h z mg S) (ew (fb (qp c) this))];simp_all}};grind-abstractProof
theorem LQ{O:PH}(h:iJ O)(j:Nat):td O j<=ip/\z3 (td O j)/\z4 (td O j):=cF td (afK h j ip 0 ip aQ (x cS) a_ (fun i x q=>ah) (fun i x q S=>ah))
theorem afL{t:SetTable}{k:Nat}(Y:yf)(R:iJ lJ){j i:Nat}:xc=Yc↔A lJ j:=by have b:=LQ R j;delta aDT aDU;simp only[Y.GS];constructor;rw[EL];{rw[eD];have e:fy=i:=by{rw[fd fy i];{rw[ez l fy qY];have g:=lI l;have e0:=b.2.2 _ _ a_ g;have g0:=afJ R q g h;lia-abstractProof};rw[iy];grind-abstractProof};rw[e,h];simp}
theorem afM{t:SetTable}{k:Nat}(Y:yf)(R:iJ lJ){j:Nat}:I8↔j∉zL:=by constructor;{intro h m;rw[h1 m];have:=ae (afL Y R (j:=j) (i:=i)) (a39 (WQ ⟨hi,e⟩));simp_all};{rw[eD];cases c0:xc with|empty=>{rfl}|dummy=>{rw[dQ c0 (afH Y j)]}|live i=>rw[dQ (afG c0) h]}
theorem afN{I:Type}(O:fq I)(p:Nat)(x:I)(c2:p<=ip):py (N0 O p x)=O.toList.take p++x::a1J p:=by delta N0;simp[a3U,a3T,a3S];exact Dx aQ
theorem aWB{t:SetTable}{k:Nat}(Y:yf)(R:iJ lJ){j:Nat}(b8:I8):aGb=fy/\(I6).mask=df/\(I6).dummies= #[]/\aGY=aLk/\iJ aGY/\(I6).place.size=qY+1:=by revert Y R b8;revert t k j;refine ap1;rw[co t k j];intro Y R b8;rw[cb (LQ R j),gx (x (afM Y R) b8),ab d5 aGY aLk];have h8:=afN lJ fy j b.1;rw[Q rfl rfl ?_ Pb];{delta SetTable.put;simp only[Y.GS];delta aDU;rfl};{delta iJ;rw[d5,h8,qP,oX];have C:=R;unfold iJ at C;rw[aa (C.sublist (aBE _ _)) ⟨qj,C.sublist (a4a _ _)⟩ (fun x S y b6=>?_)];{rw[h1 S,a6 a3',dC g (K lJ (fy+i) x)];grind};{have o:x<j:=by{rw[h1 S,a6 List.getElem_take];exact b.2.1 i x bz bz};rw[wP b6,db b6 b6,aZ];{rw[h1 b6,a6 a3'];have:=b.2.2 _ y (a3_ fy i) bz;exact pM}}};{have:(aLk).toList.length=t.place.toList.length+1:=OF;trivial}
theorem axL(t:SetTable)(hashAt:ee)(h:Int)(nd:bc8):∀(r J:Nat)(p:Probe)(m:Met),i (p.dummy=ae) (bgt=aa m) (aIY) (∃(n j:Nat),aIU/\(aP f7 x (f7<n->ap hL f7 x->z i (zK x=Yc) (DF i≠h)))/\((m= .empty j ae/\xc= .empty)\/(∃i q,m= .candidate j i q/\xc=Yc/\DF i=h/\q.dummy=ae/\∃B,dI t B q=aJ0)))|r,0,p,m,_,_,⟨j,b8,_⟩=>a7J|0,J+1,p,m,_,g,_=>bB|r+1,J+1,p,m,b4,g,⟨j,b8,e⟩=>by simp only[aDS]at g;have c5:=axE t p J;have a:(zJ p).dummy=ae:=by{delta aDR;(split<;>trivial)};cases c0:zK p.j with|empty=>{rw[c0]at g;simp at g;rw[b4]at g;rw[pb ah (dp g.symm c0)]}|dummy=>{simp_all}|live i=>rw[c0]at g;simp only at g;rw[c5]at b8;rw[wP b8];obtain⟨B,I,a3⟩:z B (j∈dI t B (zJ p)) (aHh=p.j::dI t B (zJ p)):=cq;split at g;{next c7=>rw[pb fk (.inr (a i (zJ p) (bt (cZ g)) c0 ah a B cq))]};{next c7=>obtain⟨n,f,d1,U,c4⟩:=axL t DF h nd r B (zJ p) m a g (v j I e);rw[aP (n+1) f ah (fun f7 x q S=>?_)];{rw[a3]at S;cases f7 with|zero=>{rw[a4 S (v i c0 (ax c7))]}|succ f7=>exact U f7 x (Nat.lt_of_succ_lt_succ q) S};simp_all}
noncomputable def vy(mask k:Nat)(h:Int):ao:=dI (rs cA) IZ (ci yi (kD cA yi-yi) yi (Ic h))
theorem axM{t t':SetTable}(e:df=WR):A1 (hL=dI t' J p)|0,p=>rfl|J+1,p=>by simp only[dI];have:X7=Ul t' p:=by{delta Ul;rw[e]};rw[this,axM e J]
theorem aWC(t:SetTable)(k:Nat)(h:Int):dI t IZ (NZ h)=vy df k h:=f5 vy (axM (t:=t) (t':=rs df) rfl)
def Up(mask k:Nat)(taken:mb)(h:Int)(s:Nat):Prop:=z n (ap (vy cA k h) n s) (aP m x (m<n->ap (vy cA k h) m x->Du x))
theorem Up.mono{mask k:Nat}{A B:mb}{h:Int}{s:Nat}(u:E x (A x) (B x))(J:AC A):AC B:=by rw[aJ n e J];exact v n e (fun m x a b=>u x (q m x a b))
theorem axN(mask k:Nat)(c3:ant)(g:PJ):∀(r J i f:Nat),J<=r->let p:Ia:=ci i (kD cA i-i) i f;let t:SetTable:=rs cA;(∃j∈hL,a_i)->∃n j,aIU/\a_i/\(aP m x (m<n->ap hL m x->aJN))/\aDX cA g r i f=aa j|r,0,i,f,_=>by{rw[bZ p t];obtain⟨j,b8,_⟩:=h;simp[dI]at b8}|0,J+1,i,f,l=>ah|r+1,J+1,i,f,l=>by rw[bZ p t];have u:i<=kD cA i:=by{delta kD;rw[Za]};rw[bN C uo (ce (kD cA i+1-i) (i+ ·)) (Nat.sub_add_comm u),ab N aHh (uo++aIJ)];simp only[aDX];cases W:ch (kD cA i+1-i) (cj (r7 (DH (i+k) xl)))with|some o=>{simp only;have:=List.find?_eq_some_iff_getElem.mp W;rw[ad po d1 a7 H this];have y:n=o:=by{rw[<-a7,WL]};subst y;have d1:=aCR▸d1;rw[j n (i+n) ?_ po (dx a'Z)];{rw[N,C,hx (ax d1),cz,wB d1];rfl};{have Z:=js c4 d1;rw[N,C,hx (ax Z),cz,wB Z]at S;rw[pN];have:=H m c4;rw[gf]}}|none=>simp only;rw[a2W]at W;have s:aK uo aJN:=by{rw[Bh];rw[C]at S;rw[a3 k c3 S];exact Wg (W k c3)};rw[aO j b8 h];rw[N,hy]at b8;have M:j∈aIJ:=by{rcases b8 with b8|b8;{rw[a6 (s j b8),dS]};rw[l b8]};rw[ab b2 X7 (ci aaP (kD cA aaP-aaP) aaP bdI)];rw[b2]at M N;obtain⟨n,v,a,b,c,d⟩:=(axN cA k c3 g r J aaP bdI ah (v j M e));rw[o (t uo+n) v ?_ b a'Z d];{rw[N,px xC,hp (t uo+n-t uo) n];exact a};{by_cases q:m<t uo;{rw[N,hx q]at S;exact s x (bO S)};{rw[N,px (a3v bG)]at S;exact c _ x (bn (aR (qp q)) c4) S}}
theorem aWD{t:SetTable}{k:Nat}(c3:ans){p:Probe}(c2:H_<2^64){e:Nat}(a0:e<=df):e∈amE:=by rw[bdC,b3 D (e<2^k) (fb a0 WS)];rw[er D]at a7;rw[GR,VX];rw[ak (13+n) ag,b2 (Uo t c3 n _ (by rw[Um];rw[el]) (BH c3))];delta oD;rw[fJ];rw[ak 0 aQ,bgf]
theorem aWE(h:Int):Ic h<2^64:=by delta Ic;lia
def LR(g:PJ)(x:Nat):Prop:=aJN
structure aWF(mask k:Nat)(c0:aT)(g:PJ)(n:Nat):Prop where
 size:N1=cA+1
 le:n<=lK
 val:aP j i (QS->i<n)
 all:nP (∃j:Nat,QS)
 inj:∀(j f i:Nat),QS->K g f xm->j=f
 GU:∀(j i:Nat)h,QS->A c0 h->Up cA k (LR g) h j
theorem aWG{mask k:Nat}{c0:aT}{g:PJ}{n:Nat}(I:gV g n)(d1:n<=cA):z j (j<=cA) (aa g ae):=by rw[anv,bv ex (j<=cA) (∃i,QS) (by rw[z j4 (j<N1) V5 (aDY bG)];cases q:g[j]with|none=>{rw[dQ (v j b8 ag) f6]}|some i=>simp[*])];let f:cC:=iQ (eQ (DH j ae) 0);rw[bv p (j<=cA) (aa g (aa (f j))) (by rw[wv (ex j b8)];have:f j=i:=eI f hi;rw[L this hi])];have nd:c7 (ce (cA+1) f):=by{rw[JV,hY WN,re e];simp at b3 U;have t:=p a amk;rw[e]at t;exact ne (I.inj a b _ t (p b amk))};have:=afI nd (m:=eJ n) (aJ (by rw[a3 j b8 S];simp at b8;have:=WT j _ (p j amk);rw[gf]));rw[ui];exact gv d1 this
theorem aWH{mask k:Nat}(c3:ant){c0:aT}{g:PJ}{n:Nat}(I:gV g n)(d1:n<=cA){h:Int}(c7:K c0 n h):z j (aDX cA g (Ib cA) yi (Ic h)=aa j) (gV aIC (n+1)):=by revert c3 I d1 c7;revert mask k c0 g n h;refine aaW;rw[n mask k c0 g n h];intro c3 I d1 c7;rw[gr a7 (aWG I d1)];obtain⟨m,j,c4,b8,H,W⟩:=(axN cA k c3 g (Ib cA) IZ yi (Ic h) (cF Ib (cU Ie)) (v e (aWD (t:=rs cA) c3 (aWE h) a0) (by have h2:e<N1:=(Array.getElem?_eq_some_iff.mp a7).1;rw[lI h2]at a7;simp[V4,h2,cZ a7])));rw[ak j W,dC j4 (j<N1),ca o (aa g ae)];have get:∀x,(aIC)[x]?=av (x=j) (aa n) g[x]?:=ab (by rw[Array.getElem?_setIfInBounds];rw[b1 x j];{rw[aK CL,aK e,aK j4]};{rw[cD (hs e) e]});have d:E x (LR g x) (LR aIC x):=aJ (by delta LR at S⊢;rw[iL j,aZ,az]);rw[o (ar V5) (bz) (fun x i S=>?_) an5 (fun x y i S b6=>?_) (fun x i h' S a=>?_)];{rw[get]at S;split at S;rw[az,cb (WT x i S) (vZ bG)]};{rw[T i n,l ⟨j,cx get cN q⟩,S x S (I.all i (cw hi q)) x (ac get (ff (by rw[b2 o S];cases S)) S)]};{rw[get]at S b6;split at S;{next q=>split at b6;rw[l (ahS bG ER)];{rw[pN];have:=WT y _ b6;simp_all}};{split at b6;{cases b6;have:=WT x _ S;simp_all};rw[l (I.inj x y i S b6)]}};{rw[get]at S;split at S;{next q=>rw[pN];rw[c7]at a;cases a;rw[aa m (t q c4) (fun f7 y Z b6=>d y (H f7 y Z b6))]};rw[l (bN (I.GU x i h' S a) d)]}
theorem aWI{mask k:Nat}(c3:ant){c0:aT}(a5:lK<=cA):z g (layClean cA aDZ=aa g) (gV g lK):=by have init:gV (Array.replicate (cA+1) ae) 0:=by{rw[o aQ cS (fun j i h=>?_) (jU ah) (fun j f i h=>?_) (fun j i h q=>?_),cK,cK];grind-abstractProof};have b:∀(m pre:aT)(g:PJ),pre++m=c0->gV g DI->z a (m.foldl (fun(B:bZ (fq (bZ Nat)×Nat))(h:Int)=>do{let(g,k)<-B;let j<-layClean.free mask g (turns mask) (bits h%(mask+1)) (bits h);pure (g.setIfInBounds j (some k),k+1)}) (aa (g,DI))=aa (a,lK)) (gV a lK):=by{intro m;induction m with|nil=>{grind-abstractProof}|cons h J d6=>intro pre g e I;have c7:K c0 DI h:=by{rw[xE];simp};have d5:DI<=cA:=by{grind-abstractProof};rw[gA K (aWH c3 I d5 c7),ae b9 ((pre++[h])++J) c0];have:=d6 (pre++[h]) (a4b j (aa DI)) b9 (ax K);simp_all};rw[eq g I (b c0 [] _ rfl init),cp g I];delta layClean;rw[List.foldl_toArray];grind-abstractProof
theorem aWJ{f:df (bZ fz)}(W:bd6):∀{l:ao},Jr->eM (gZ (Me f)) (· < ·)|[],_=>bB|a::l,s=>cq
theorem axO{t:SetTable}:nb (p.j+iW<=df) (aK hL (x<=df))|0,p,_,x,h=>j9 dI|J+1,p,c2,x,h=>by simp only[dI,hy]at h;rw[eL h];{rw[a4 oD,el]};{refine axO J _ ?_ x h;show FG+(kD df FG-FG)<=df;have l:FG<df+1:=by{delta tl;exact VP _ pS};delta kD;rw[amV]}
theorem aWK{mask k:Nat}{h:Int}:aK (vy cA k h) (x<=cA):=by delta vy;refine axO (t:=rs cA) _ _ ?_;show yi+(kD cA yi-yi)<=cA;have l:yi<cA+1:=VP _ pS;delta kD;rw[amV]
theorem aWL{mask k:Nat}(c3:ant){c0:aT}(a5:lK<=cA)(finger moves:Nat)(led plain:Bool):∃t B,laid cA finger moves led plain aDZ=aa (t,B)/\yf/\iJ lJ/\df=cA/\DJ=led/\Ig=plain/\qY=lK/\B.size=lK/\a4e (eJ lK)/\∀(p s i:Nat)h,i (K lJ p s) (K B p i) (A c0 h) (AC (ab (x∈zL))):=by rw[eq g I (aWI c3 a5)];have d8:∀j,DH j ae=eQ g[j]? ae:=iQ aQ;let f:df (bZ fz):=iQ (B (DH j ae) (j,·));let c:=i7 (cA+1) f;have W:bd6:=fun j x e=>by{rw[ks f a4d,el]};have mem:∀j i,(j,i)∈c↔QS:=by{intro j i;simp only[c,a2K];constructor;{rw[iH b U];have b4:=W b _ e;simp only at b4;rw[ks f a4d];obtain⟨n9,R,b9⟩:=e;grind-abstractProof};{rw[eD,eZ j4 (j<N1),ak j (by rw[V5]at j4;simpa using j4)];grind-abstractProof}};have rise:eM (Dr fM) (· < ·):=aWJ W a2Q;have d:c7 (Dr fM):=rise.imp (y4 (gC h));have k2:c.Nodup:=by{rw[VH]at d⊢;rw[Nf]at d;exact d.imp (ws (h (by rw[e])))};have l:eJ (Dr eY) (eJ lK):=by{rw[Hx (by rw[JV,hY k2];rintro⟨a,i⟩⟨b,n9⟩⟨b3,U,ne⟩e;simp only at e;rw[bY];exact ne (iG (I.inj a b i (x (mem a i) b3) (x (mem b i) U)))) WN]at⊢;intro i;rw[fJ];constructor;{rintro⟨⟨j,n9⟩,h,rfl⟩;have:=WT j n9 (x (mem j n9) h);rw[gf]};{rw[eD,iE b8 (I.all i ah)];exact bp (j,i) (ae (mem j i) b8)}};rw[cg len gc lK l.length_eq,c (a cA (hv (Dr fM)) #[] finger led moves plain) (hv (Dr eY)) ?_ (aP c3 ah) (by delta iJ;simpa using rise) rfl rfl (a1 ah ah eO)];{delta laid;rw[d0];rfl};{intro p s i h c2 e0 c7;simp only[a4c]at c2 e0;rw[cz]at c2 e0;cases e:c[p]? with|none=>{simp_all}|some x=>rw[e]at c2 e0;simp at c2 e0;rw[iE n9 x];simp at c2 e0;subst c2;subst e0;obtain⟨n,a7,H⟩:=I.GU _ _ h (x (mem _ _) (bO e)) c7;rw[aa n a7 (fun f7 x Z G=>?_)];have S:=H f7 x Z G;have o:x<N1:=by{rw[V5];have:=aWK x (bO G);exact aDY bG};unfold LR at S;simp only[fJ];rw[Array.getD_eq_getD_getElem?,lI o]at S;cases v:g[x]with|none=>{simp_all}|some N=>exact bp (x,N) (ae (mem x N) ah)}
theorem axP(n:Nat):aP r s (n<2^(s+r)->∃c1,a4f n r (2^s)=2^c1/\s<=c1/\n<2^c1/\(2^c1=2^s\/2^c1<=2*n))|0,s,h=>ax s a_ bB gj|r+1,s,h=>by simp only[a4f];by_cases q:2^s<=n;{rw[aK q,show 2^s*2=2^(s+1)by rw[HM]];obtain⟨c1,e,l,g,b⟩:=axP n r (s+1) cq;grind-abstractProof};grind-abstractProof
theorem aWM{n:Nat}(h:n<2^60):∃s,sizeAbove n=2^s/\3<=s/\n<2^s/\(2^s=8\/2^s<=2*n):=by delta sizeAbove;have:=axP n 64 3 (fH h ay);exact this
structure TI(t:SetTable)(k:Nat)(a7:cT):Prop where
 ok:yf
 rise:iJ lJ
 size:ck=qY
 room:qY*5<df*3
 least:7<=df
 GU:c9 (K lJ p s) X8 df (ab (x∈zL))
theorem aWN(finger moves:Nat)(led:Bool):TI (SetTable.fresh finger moves led) 3 #[]:=by rw[y (h6 cS) (cF iJ .nil) (gE (0*5<7*3)) ⟨aB7 7,fun p s e h=>bB⟩]
theorem aWO{t:SetTable}{k:Nat}{a7:cT}(T:Kg){h:Int}{n j:Nat}(d1:zM h)(b8:I8)(H:Bz (iU h x)){p:Nat}{e:akH}(a0:X8)(f:e.1=h):∃m s,m<n/\iU h s/\zK s= .live p:=by revert T d1 b8 H a0 f;revert t k a7 h n j p e;refine Kk;generalize aG=t,aA=k,aF=a7,aE=h,aD=n,aB=j,aH=p,aI=e;intro T d1 b8 H a0 f;have c2:=lI (by rw[al (ik p ck),kz Ih q];simp_all);rw[bW D i7 (T.GU p _ e c2 a0)];rw[f]at D i7;have sl:=ae (afL zM N2) c2;rw[j m _ ?_ D sl,fd m n,iy,az,cb (i7 n j q d1) (cy this (x (afM zM N2) b8))]
theorem aWP{t:SetTable}{k:Nat}{a7:cT}(T:Kg){h:Int}{v:Value}{n j:Nat}(d1:zM h)(b8:I8)(H:Bz (iU h x)):let t':=I6;let D:=a9s;WR=df/\axH t' k/\iJ t'.place/\aDw=a4i/\w6 (h,v)/\a4i=qY+1/\(c9 (K t'.place p s) (K D p e) WR (ab (x∈aD0))):=by intro t' D;have P:=aWB zM N2 b8;rw[cb (LQ N2 j)];have room:=T.room;have b4:D.toList=aju fy++a9y:=by{show py a9s=_;rw[P.1];exact afN a7 _ _ (t Ih b.1)};have b9:aD0=a4g fy++j::t.place.toList.drop fy:=by{rw[L (aS P.2) (afN _ _ _ b.1)]};have a:E x (x∈zL) (x∈aD0):=aJ (by rw[b9];rw[<-Dm fy zL]at S;grind-abstractProof);have e8:aDw=ck+1:=by{have:D.toList.length=a7.toList.length+1:=by{rw[b4,cj,ia,<-aDK,<-cj,Dm]};rw[gf]};rw[j P.2.1 (v (t (a0 WR df P.2.1) T.ok.mask) (aS P) cq) (cr P) (by rw[e8,Ih];grind-abstractProof) (v ?_ (a2 P.2) (fun p s e c2 a0=>?_))];{rw[b4];have e9:(aju fy++a9y).Perm ((h,v)::(aju fy++a4h fy)):=aCB;rw[Dm]at e9;exact e9.trans (bt (List.perm_append_singleton _ _))};{rw[a0 WR df P.2.1];rw[<-ph]at c2 a0;rw[b9]at c2;rw[b4]at a0;rw[ae n0 (t (a4g fy)) fy];have c:t (aju fy)=fy:=by{simp;have:=Ih;simp[*]};rw[fd p fy];{rw[hx ag,sS q,ph]at c2 a0;exact GD p};{rw[oZ ag,n0,q,zv]at c2;rw[oZ ag,c,q,zv]at a0;simp at c2 a0;subst c2;subst a0;rw[aa n d1 (fun m x c4 S=>a x (qF (fun f6=>H m x c4 S (ae (afM zM N2) f6))))]};{obtain⟨u,rfl⟩:∃u,p=fy+(u+1):=⟨p-fy-1,bj (Mi (VG q)) (Nat.add_sub_cancel' (ew q))⟩;rw[py n0 c2,py c a0];simp at c2 a0;exact GD _}}
theorem axQ{I d:Type}{f:aHg}{g:Ff}:∀{l:ba},bk l (f x=aa (g x))->Me f=kv g|[],_=>rfl|x::l,h=>cx (a0B (h x bK)) c_ (axQ aIP)
theorem aWQ{t:SetTable}{a7:cT}(c6:0<ck)(n1:ck<=50000):∃d8 B f7,t.relaid (a7.map fM) (ajv ck)=aa (d8,B)/\(QE).size=ck/\TI d8 f7 QE/\(QE).toList.Perm lL/\d8.led=DJ/\d8.plain=Ig/\SetTable.sizeAbove (ajv ck)<=8*ck:=by revert c6 n1;revert t a7;refine Kj;rw[bV t a7];intro c6 n1;have b:ajv ck=ck*4:=by{delta ajv;rw[jY]};obtain⟨s,e,l3,c,M⟩:=aWM (n:=ck*4) (fb (Nat.mul_le_mul_right 4 n1) ay);have a:8<=2^s:=by{have:cd 2^3<=2^s:=Nat.pow_le_pow_right ay l3;exact this};have c3:(2^s-1)+1=2^s:=Mi (cn ay a);let c0:=Mg fM;have a5:lK<=2^s-1:=by{simp[c0];exact cf c Ie};obtain⟨d8,B,a3,Y,R,e1,ld,pn,c5,os,l,GU⟩:=aWL c3 a5 t.finger (t.movedTo (2^s-1)) DJ Ig;rw[bL d aDZ (a7.map fM)];let g:df akH:=dJ (eQ a7[i]? (0,Cz));rw[dv c4 (∀i∈WU,A a7 (g i)) bz,R k (QE).toList (B.toList.map g) Array.toList_filterMap (axQ c4)];have e8:(QE).size=ck:=by{have:(QE).toList.length=ck:=bz;trivial};rw[b d8 B s ?_ e8 (a Y R bz ?_ (as ?_)) ?_ ld (as pn)];{delta SetTable.relaid;simp_all};rw[dV,l (hn a Ie e1.g)];{intro p q x c2 S;rw[e1];have d5:p<B.size:=by{grind};have xe:x=g B[p]:=by{rw[<-ph,k,cz,ph,(lI d5)]at S;simp_all};have c7:K c0 B[p] x.1:=by{simp only[c0,cz];rw[ph,(c4 B[p] aQ),xe];rfl};grind};{rw[k];have e9:=kv g;have b9:ce lK g=lL:=by{refine NA (fun i=>?_);rw[cz];rw[cY (ik i ck)];{rw[da (hA c0 z)];simp[g,z]};{rw[zz (hA c0 z),zz eO];rfl}};rw[b9]at e9;exact e9};{rw[b,e];lia}
theorem aWR{t:SetTable}(h:t.tooFull=ai)(d:a80):qY*5<df*3:=by delta SetTable.tooFull aD1 at h;simp_all
noncomputable def hashOf(a7:cT)(i:Nat):Int:=eQ (a7[i]?.map fM) 0
section z
variable{prog:Program}{w:World}{K:Type} [v_ K]{d:ZU}{A:Around}{E:aU}{s:Shared}
theorem LS{t:SetTable}{k:Nat}{a7:cT}(T:Kg):t.fits ck=ab:=by delta a4j aD1;rw[T.ok.GS];have:=T.ok.fill;simp[Ih];exact this
theorem aWS{t:SetTable}{k:Nat}{a7:cT}(T:Kg):t.gaveWay=ai:=by delta SetTable.gaveWay;rw[bJ T.ok.mask,b2 T.least];cases k with|zero=>{simp at m;simp_all}|succ k=>rw[HM]at m;have:df%2=1:=fk;rw[tR]
def Holds(d:ZU)(h:Heap)(a7:cT):Prop:=bk p e (X8->∃O b,e.2=cV/\zN h O b/\e.1=a4k O)
theorem aWT{F:K}{xa:Addr}(S:aJ_)(y:aMO):∀(l:aM){Q:nz},V v l (H7 cV)->X2->bl (a4m YD l):=by intro l Q a5 h;delta a4m;rw[ma,mi (H7 (dk b)) a5];{rw[vi g];obtain⟨O,b,rfl,U⟩:=g v fu;have h8:=m1 (g u (ck hu));rw[T xa b];{rw[e_,i6 aCk aB2];exact cg (h6 h8)};{rw[aC c4 (xa==b) ai (bj bG)];simp only[c4,aB1];have e:a4l (dk xa)=ai:=rfl;simp only[e,agY,CU,iR];rw[C (d.quiet S ?_),rP,C (d.quiet U ?_),rP,C (y S ?_),ux,C (y U ?_),ux];exact cg (h6 h8)}};rw[ap3]
universe z
section z
variable{prog:Program}{w:World}{K:Type} [v_ K]{d:ZU}{A:Around}{E:aU}{s:Shared}
theorem axR{a:Addr}{o:Obj}{a7:cT}{e1:Nat}{t:SetTable}{k:Nat}(d0:gG a)(hd:gB=Rx)(T:Kg)(hE:Ii d bh a7){F:K}{xa:Addr}(S:aJ_)(room:d.room A)(y:aMO){Q:dE SetFound}(L:aP n j (c (zM kI) I8 (Bz (iU kI x)) (bfo) (Q (.free j ai) s)))(a9:KQ (Q (.there ae) s)):∀(r J c:Nat)(a6:bZ Ia)(p:Probe),b (a6.getD (NZ kI)) p (p.dummy=ae) (hL=dd (vy df k kI) c) (bd hL (10*Ib df)) (i (aIY) (z5 hL<r) (IB c) (bl (setSearchFrom a YD kI ab r a6)))|0,J,c,a6,p,c0,b4,c2,a5,a0,b0,U=>ah|r+1,J,c,a6,p,c0,b4,c2,a5,a0,b0,U=>by have nd:=afH zM;rw[aKH];dsimp only;rw[aWS T,Ow,c0];obtain⟨b1,b5⟩:=axF t (WV a7) kI nd (10*Ib df) J p a5 a0;generalize e0:t.probe _ kI p=q;rw[br eq (q=aa b1) e0 b5];subst eq;dsimp only;obtain⟨n,j,d1,b6,c4⟩:=axL t (WV a7) kI nd _ J p b1 b4 b5 a0;rw[c2,Dn]at d1;have b8:bk i e (A a7 e->WV a7 i=e.1):=fun i e h=>by{unfold hashOf;rw[h];rfl};have a8:IB (c+n):=by{intro m x Z G;rw[al (ik m c),l (U m x q G)];{obtain⟨i,hi,R⟩:=b6 (m-c) x (bn (aR q) Z) (by rw[c2,Dn,mn (c+(m-c)) m];exact G);rw[aa i hi (fun e b V f7 c3=>?_),Z b2 g Y c7 (hE i e V)];rw[f7]at g;rw[rB];have:=d.inj c3 Y;rw[gm];rw[b8 i e V,c7]at R;exact R rfl}};rcases c4 with⟨rfl,b7⟩|⟨i,q,rfl,l,b9,k4,B,I⟩;{dsimp only;rw[nZ];refine L (c+n) j d1 b7 (fun m x Z G=>?_) (fun u e b V f7 c3=>?_);{rw[bb6];rw[hi];rw[tJ];cases z};{rw[Z b2 g Y c7 (hE u e V)];rw[f7]at g;rw[rB];have:=d.inj c3 Y;rw[gm];obtain⟨m,x,Z,G,c6⟩:=aWO T d1 b7 (fun m x Z G=>by rw[bb6];rw[hi];rw[tJ];cases z) V c7;obtain⟨i,hi,c5⟩:=a8 m x Z G;rw[c6]at hi;rw[a4 hi (c5 e b V f7 c3)]}};{have H:=x (afL zM N2) l;rw[cR X (i<ck) Ih qY];have P:=lI X;rw[Z b f7 c3 c7 (hE i _ P)];dsimp only;rw[bC led DJ];(case' pos=>rw[led,a4n,Ow]);(case' neg=>rw[Wg led,ajw,cN];rw[C (aWT S y _ (ls (by rw[a3 e V d3,ca D (e∈lL),bW Z c8 (ib D)];obtain⟨b3,b2,g,Y,_⟩:=hE m e (by rw[<-ph,da Z,c8]);exact d b3 b2 g Y)) ?_),ux]);all_goals rw[P];dsimp only;rw[f7];rw[C (vT (d.eqBool room c3 S ?_)),C (iP (LS T) ?_)];dsimp only;rw[N c1 O F];{subst c1;rw[aK (g3 (ab&&ar O O) (dH rfl))];exact cg (a9 (c i _ b P f7 c3))};{rw[ea c1,ag1,Ow];have sm:t.sameMemory t.moves df=aa ab:=by{unfold SetTable.sameMemory;simp};rw[sm];dsimp only;rw[cN,l];dsimp only;rw[P];dsimp only;rw[f7];rw[C (wpAny_isSame_ref_self ?_),P9];rw[cN];refine axR d0 hd T hE S room y L a9 r B (c+n+1) (aa q) q rfl k4 ?_ ?_ ?_ ?_ ?_;{rw[I,c2,HP];rw[dW]};{rw[I];simp;exact cU a5};{rw[I];rw[bH M a3 a0,bW Z D (ib M)];have W:n<m:=by{rw[ac m n z z z];{obtain⟨N,p5,_⟩:=b6 m f z (bj (da Z) D);rw[p5]at a3;cases a3};{rw[rq];have:ap hL m j:=ag;rw[bX (da Z) D,nj];rw[l]at a3;cases a3};rw[l z]};rw[cp f a3];rw[a22];exact⟨m-(n+1),by rw[Dn,m (n+1+(m-(n+1))) m m (n+1) W m (n+1),da Z,D]⟩};{rw[cl j2 aIU,aO d6 n (t hL) (bx bG)];have e8:hL=an hL n++j::aJ0:=by{have C:(hL)[n]=j:=by{rw[da d6 j2];exact cZ j2};rw[<-C];simp};have lt:z5 aJ0<z5 hL:=by{conv=>{rhs;rw[e8]};delta WO;rw[DG,ah3 (by simp only[l,b9];simp)];simp;exact tv};rw[L I (cf lt b0)]};{intro m x Z G;rw[cY (qN (HA Z)),l (a8 m x z G)];{rw[b2 d1 G];cases G;rw[aa i l (fun e e2 V a4 f5=>?_)];rw[P]at V;cases V;rw[f7]at a4;cases a4;exact c1 (d.inj c3 f5)}}}}
universe z
section z
variable{prog:Program}{w:World}{K:Type} [v_ K]{d:ZU}{A:Around}{E:aU}{s:Shared}
def Uq(d:ZU)(h:Heap)(a:Addr)(a7:cT):Prop:=∃o e1 t k,pL/\o.ExactSet/\gB=Rx/\Kg/\aIp/\Ig=ab/\(DJ=ab\/O8)
theorem Holds.perm{h:Heap}{a7 D:cT}(H:aIp)(p:a4o lL):Ii d h D:=fun i e a0=>by rw[a_C,gA C (ib m)];exact H j e (a39 (WQ ⟨b8,C⟩))
theorem Holds.push{h:Heap}{a7 D:cT}(H:aIp){F:K}{xa:Addr}(S:zN h F xa)(p:w6 ao9):Ii d h D:=fun i e a0=>by rw[a_C,iF m];{have⟨j,b8,C⟩:=ib m;exact H j e bz};{rw[fT]}
theorem axS{h:Heap}{a:Addr}{o:Obj}{a7:cT}{e1:Nat}{t:SetTable}(d0:pL)(hd:gB=Rx)(D:cT)(t':SetTable):df (h.update a (N3 D t')) a=aa {o with data:= .set D (e1+1) t'}:=l5 (CO (N3 D t') d0 (dc bcm)) bcm
theorem aWU{a:Addr}{a7:cT}{F:K}{xa:Addr}{Q:nz}(b2:Uq d bh a a7)(S:aJ_)(room:d.room A)(z:ck<9000)(y:aMO)(X:∀{Q:nz},Y2->bl (aD3 8 YD))(keep:∀{h h':Heap}{O:K}{b:Addr}{o:Obj}{a7:cT}{e1:Nat}{t:SetTable},c (zN h O b) pL (gB=Rx) (He a h h') (zN h' O b))(b5:KQ X2)(I:(bfo)->∀(h':Heap)(D:cT),i (pb a) (Uq d h' a D) (w6 ao9) (Q ab tD)):bl (a4s a YD kI):=by rw[K9 b2];delta a4s;refine Ez;delta setAddHashedIn;rw[aKH];dsimp only;have a5:byScan YD a7=ai:=rfl;rw[a5];rw[ux,eS (aWA (t:=t) (h:=kI))];have C:=aWC t k kI;delta setSearch;rw[ma];refine axR d0 hd T hE S room y ?_ ?_ 100000 IZ 0 ae (NZ kI) rfl f.2.2 (dc C) (aWu zM f.2.1) (aWt zM f.1) ?_ (fun m x c4=>ah);{intro n j d1 b8 H f6;dsimp only;rw[aKH];dsimp only;have P:=aWP T (v:=dk xa) d1 b8 H;simp only at P;have V:(I6).plain=ab:=d5.1;have d3:(I6).led=ab\/O8:=d5.2;obtain⟨g9,l,Y,J,r,b7,Z⟩:=P;rw[cg N (N0 a7 aGb ao9).size (ck+1) r.length_eq];generalize c0:aD2 j=L at*;rw[kq e9 L];dsimp only at*;rw[V];rw[cN];rw[C (X ?_)];rw[cN];generalize c1:N0 a7 e9 ao9=c at*;rw[z f3 (a1 WW) qI (cf N.l z),C (a4q d0 hd ?_ f3)];have g:=axS d0 hd c W;have v:=a4p bh a (N3 c W);have j0:zN Ys F xa:=en S d0 hd v;have R:Ii d Ys c:=by{rw[a4 (Ii d Ys a7) (hE i e a0) d0 hd v];exact b1.push j0 r};cases a4:W.tooFull with|false=>{simp only[ajw,ag1,CU,iR];rw[nZ];refine I f6 _ c v (a _ (e1+1) W k g hex rfl (c l Y J (aWR a4 l.GS) (t g9 T.least) Z) (v R V d3)) r}|true=>rw[i6 ajw Bool.and_self,ma];delta setRelay;have a8:W.fits WW=ab:=by{delta a4j aD1;rw[l.GS,J];have:=l.fill;simp;exact this};rw[C (a4r g rfl a8 ?_)];dsimp only;rw[cl c6 (0<WW)];obtain⟨d8,B,f7,a6,G,a9,U,b0,b3,M⟩:=aWQ (t:=W) c6 (bn N.l z);rw[aC a3 (ck+1) WW ER];rw[a3];rw[aO (by rw[qI];lia-abstractProof)];rw[a6];rw[ma];change am (do{let D:=B.filterMap (c[·]?);if D.size !=c.size then{unsupported "internal:set-table-lost-an-element"};pure (D,d8)}) _ _ _;dsimp only;have f5:((Yk).size !=WW)=ai:=by{rw[G];simp};rw[f5];rw[ux,nZ];dsimp only;refine a4q g rfl ?_ (t G f3);rw[nZ];have u:=axS g rfl Yk d8;rw[ci (a4p Ys a (N3 Yk d8))];have b6:H2 Yk:=by{rw[a4 (H2 c) (R i e a0) g rfl q];exact b1.perm U};exact I f6 _ _ (v.trans q) (a _ _ d8 f7 u hex rfl a9 (ap b6 (t b3 V) b0 d3)) (ajx r)};{rw[eD];dsimp only;exact cg (b5 h)};{have:=aWz zM f.1 f.2.1 (WV a7) kI;have:=Ih;rw[el]}
universe z
section z
variable{prog:Program}{w:World}{A:Around}{E:aU}{s:Shared}
noncomputable abbrev tupK(prog:Program)(w:World):aD4 cM w aT:=U1 (aA1 cM w)
theorem items_int{K:aT}{vs:aM}(q:aB4 (aA1 cM w) K vs)(v:Value)(h:v∈vs):a7o:=by induction q with|nil=>{exact iT (oQ h)}|cons c3 J i=>rw[jA (h_ h) rfl];{rw[ck u (aA0 c3)];exact av u e};rw[l (i h)]
theorem axT{h h':Heap}{K:aT}{b:Addr}(x:nX h)(keep:E o md ha):nX h':=by obtain⟨o,f,n,d0,c,d,i⟩:=x;exact a o f n (en o d0) c d i
theorem axU{h h':Heap}{K:aT}{a b:Addr}{o:Obj}{a7:cT}{e1:Nat}{t:SetTable}(x:nX h)(d0:pL)(hd:gB=Rx)(sb:He a h h'):nX h':=by obtain⟨N,f,n,U,c,d,i⟩:=x;exact a N f n (t (sb.2 b (an ah)) U) c d i
theorem aWV{K:aT}{b:Addr}{Q:nz}(x:nX bh)(h:X2):a63:=by have⟨o,f,n,d0,c,d,hi⟩:=x;unfold ofAClassStatement;rw[w9 (a4u x)];dsimp only;rw[aK ay];rw[P9,rP,a'',ma,Jp,baR];{rw[vi all,bcE,ab f5 (a4t 7 (WX i u)) (eU ai)];rw[f5];rw[P9,ux];exact a'R};rw[ap3]
theorem aWW{K:aT}{b:Addr}{Q:nz}(x:nX bh)(h:Y2):bl (aD3 8 cV):=by have⟨o,f,n,d0,c,d,hi⟩:=x;rw[C (wb (a4u x) aD5 ?_),a'',ma,Jp,baR];{rw[vi all,bcE,ab f5 (aD3 7 (WX i u)) (eU ab)];rw[f5];rw[P9,rP];exact a'R};rw[ap3]
universe z
theorem aWX{I d:Type}{R:qk}{a B:ba}(p:B.Perm a):∀{b:nG},dD R a b->z b2 (dD R B b2) (b2.Perm b):=by induction p with|nil=>{rw[dt b];exact v b h ame}|cons x _ d6=>{rw[dt b];cases h with|cons J t=>rw[aJ b2 h' (d6 t)];exact v (_::b2) (.cons J h') (q.cons _)}|swap x y l=>{rw[dt b];cases h with|cons J t=>cases t with|cons r2 d8=>exact v (_::_::_) (ec r2 J d8) (.swap _ _ _)}|trans _ _ c i=>rw[dt b,ci h2 a3 (i h),dd e2 q2 (c a3)];exact v e2 a9 (q2.trans d2)
theorem axV{I d:Type}{R:qk}:∀{l:ba}{m:nG}{i:Nat}{a:I},f0 R->Zc->z b an9 (R a b)|_,_,_,_,.nil,h=>bB|_,_,0,_,.cons J _,h=>ah|_,_,i+1,a,.cons _ t,h=>by rw[bF e f (axV (i:=i) t w_)];exact v b bB f
theorem axW{I d:Type}{R:qk}:∀{l:ba}{m:nG}{i:Nat}{b:d},f0 R->an9->z a Zc (R a b)|_,_,_,_,.nil,h=>bB|_,_,0,_,.cons J _,h=>ah|_,_,i+1,b,.cons _ t,h=>by rw[ak e f (axW (i:=i) t w_)];exact v a bB f
theorem aWY{I d:Type}{R:qk}{a:I}{b:d}(J:R a b){l:ba}{m:nG}(h:f0 R):dD R (l++[a]) (m++[b]):=by induction h with|nil=>{exact hq J}|cons q t i=>rw[cA q i]
section z
variable{prog:Program}{w:World}{A:Around}
def afO(prog:Program)(w:World)(h:Heap)(a7:cT)(l:fA):Prop:=hf h lL l
structure Got(prog:Program)(w:World)(h:Heap)(r:Addr)(K:fA)(a7:cT)(l:fA):Prop where
 set:AP h
 keys:BR h
 nd:zp
 mem:gR l K
theorem Uq.qr{h h':Heap}{r:Addr}{a7:cT}(H:AP h)(keep:bd a7v md ha):AP h':=by revert H keep;revert prog w h h' r a7;refine aaW;rw[n prog w h h' r a7];intro H en;rw[K9 H,b o e1 t k (en r o gj d0) hex hd T ⟨fun p e a0=>?_,d5⟩,Z b b4 b9 e7 (hE p e a0)];exact a O b b4 (Fk (.inr (v e (bO (i:=p) ag) b4))) e7
theorem afO.qr{h h':Heap}{a7:cT}{l:fA}(H:BR h)(keep:bd (v9 lL) md ha):BR h':=by revert H keep;revert prog w h h' a7 l;refine aaW;rw[n prog w h h' a7 l];intro H en;delta afO at H⊢;generalize a7.toList=O at*;induction H with|nil=>{rw[kL]}|cons J t d6=>rw[bF b4 b9 J];exact .cons (v b b4 (Fk (av fu b4))) (d6 (FB (en b o (v e (ck a0) q))))
variable{R:Qb}{I:Addr}{a8 d:bg}{G:au (fq U6) (fq U6)}{n:Nat}{P:au Nat cR}{St:dE Nat}
theorem aWZ(W:WalksS cM w kz I a8 d G n P St)(r:Addr)(g:r∉a8)(K:fA)(ad:df ef)(E:aD7=n)(a5:j i v (P i v) (v= .ref (ad i)))(d1:Cf K)(hu:JU)(V:nP (ad i∉d)):∀(c i:Nat)(s:Shared)(a7:cT)(l:fA),b (n-i) c Qh (St i s) (Got cM w bh r (K.take i) a7 l) (i (ew lL (j<n) (ad j)) (bbI) (∀c1 D i1,i (Moved (r::d) G s c1) (Got cM w mD r K D i1) (ew D.toList (j<n) (ad j)) (eS .none c1)) (l6 "set.update.loop" (d_ [ug,pD]))):=by revert W g E a5 d1 hu V;revert prog w A R I a8 d G n P St r K ad;refine@mi _ _ _ _ _ _ _ _ _ _ _ _ _ _ ?_;generalize pY=prog,pZ=w,p_=A,qa=R,qb=I,qc=a8,qd=d,qe=G,qh=n,qi=P,ql=St,qm=r;refine Kj;rw[bV K ad];intro W g E a5 d1 hu V;have d4:=ai (g (W.sub _ q));have wide:fJ d (r::d):=fun b q=>ck q;intro c;induction c with|zero=>{rw[bis];have f5:i=n:=by{exact mP (cU hi) (cf Ph b0.l)};subst f5;rw[lJ a4v,hX aD9,C (ajA s _ _ z (fun c1 c4=>?_)),bhO,jy (hR c1 a7 l (aD_ wide) (a1 a7W bcn ajy) a)];intro x;rw[WY x,<-E,H0]}|succ c d6=>rw[bis,b3 X (i<n) (cf (aR hi) b0.g),lJ a4v,hX aD9,C (aD8 i s _ _ X z (fun v c1 C T c4=>?_))];have B:=a5 i v C;subst B;rw[bhO];have H:=a7W;have Y:=bcn;have c9:∀{j:Nat}{O:aT},aa K O->j<n:=fun{j O}h=>by{rw[al (ik j aD7),az,yT (zz q)]};have a6:=t7 (km (b9 j O h) (aD6 _ o (V j (c9 h)) d0));obtain⟨F,c0⟩:∃F,A K F:=aW (da ag);have S:=a6 i F c0;rw[C Ez];delta setAdd;refine vT (bF ((hJ).pyHash (A:=kz) bbZ S ?_));have c6:K.take (i+1)=K.take i++[F]:=by{rw[DK,c0];rfl};refine aWU (d:=ajz cM w) (s:={c1 with toks:=ahl+(hJ).draws F}) H S bbZ (by have a3:=Mn hG.keys;rw[fe (d1 l ajy (aJ (qS (x (WY x) S))))];simp at a3;simp[*]) (fun x h=>aWV x h) (c8 (aWW S h)) (fun x d0 hd sb=>axU x d0 hd sb) (fun b5=>?_) (fun f6 h' D sb J b3=>?_);{rw[c a7 l (gx (hn (aC n (i+1) X) Ph b0.l) (hn b0.g (aC n i hi) (aS n (i+1)))) mD (td e) H Y ajy a a6 (jx e)];rw[WY x,c6];simp only[hy,N4];constructor;rw[l .inl];{rintro(q|rfl);rw[l q];{obtain⟨p,e,b,a0,f7,U⟩:=b5;rw[IA (t ph a0)];rw[f7]at a4;cases a4;have:=(hJ).inj U c5;rw[gm];exact x (WY _) (bO c3)}}};{have c7:bd (v9 a'S) O_ ha:=fun b o U d0=>t (sb.2 b (by rw[fS,e_,bh5,aJ e a0 U];have L:∃O,(hJ).is mD O b:=by{rcases Nd a0 with a0|a0;{rw[h9 Q (ib a0),IA a_F];rw[q]at a4;cases a4;exact⟨O,c5⟩};rw[dV]};obtain⟨O,N,f,m,Z,_,c8,_⟩:=L;rw[u]at Z;cases Z;rw[hd]at c8;cases c8)) d0;have d2:hf h' a'S (l++[F]):=by{refine aWY (aP (ad i) (km S (c7 _ o (bm (qH _ (List.mem_singleton.mpr rfl))) d0))) (Y.qr (FB (c7 b o (v e (vO _ a0) q))))};obtain⟨i1,d3,d5⟩:=aWX b3 d2;have nx:F∉l:=ai (by rw[h9 Q (ib q)];obtain⟨e,a0,b,f7,U⟩:=axW Y (i:=p) a_F;exact f6 p e b (bl ph a0) f7 U);rw[c D i1 bM h' (fun b U o e=>?_) J d3 (by refine d5.nodup_iff.mpr ?_;rw[ahU];exact v ajy aQ (fun x d7 y b6 e=>ah)) (f3 (by rw[al (Nd (b3.mem_iff.mp a0)),l (a e q),zu (bp i X)])) (t7 (by rw[bh5];exact axU (a6 j O h) u hd sb)) a9k,Z (sb.2 b (fun q:b=r=>g (bl q U))) e];{rw[d5.mem_iff,c6,hy,hy,WY x]};rw[Z (sb.2 b (fun q:b=r=>U (t q fu))) e]}
universe z
universe GM
namespace PySem
open PySem.SetTable _root_.GM
section z
variable{prog:Program}{w:World}{A:Around}{E:aU}{s:Shared}
noncomputable abbrev axX(led:Bool):Obj:={cls:=Jo,dict:=ae,data:= .set #[] 0 (.fresh 0 0 led)}
theorem aW0(x:Value){R:aU}(k:R gk (fW (mH (axX (! xg))))):Hh XG A (.call (.builtin "set.__new__") (d_ [Jo,x])) (wants R E) s:=by revert k;revert prog w A E s x R;refine biy;generalize kQ=prog,kR=w,kS=A,kT=E,kU=s,kX=x,k_=R;intro k;refine a4x (show fv _ kz (do{checkBuiltinCall "set.__new__" ⟨[.type "set",x],[]⟩;again (.builtin "set.__new__" ⟨[.type "set",x],[]⟩)}) _ _ s from ?_);have own:=sub_set_self;rw[C (WZ (F.newCall_set_1 x) (ml a4w (N5 F.entry_set_new (by rw[hX a4w];delta Builtin.«set.__new__» Builtin.Frozenset.newClass;obtain⟨b1,e5,f,u,j⟩:=s;dsimp only;wp_walk;refine aD' (cg (by dsimp only;simp only[newObj];exact bF (a13 (mS k))))))))]
theorem aW1{lst:Addr}{ar:dU}{K:fA}{ad:df ef}{Q:aU}(n:od)(c:CS lst ar)(f:bk i v (A ar v->v= .ref (ad i)))(same:aD7=Mz)(keys:bbI)(few:Cf K)(hu:kp 8)(fin:∀(h':Heap)(D:Nat)a7 N,i bf5 a9v a8S (Q gk nr)):bl (Ij Jo [Ya]):=by revert n c f same keys few hu fin;revert prog w A E s lst ar K ad Q;refine@aqv _ _ _ _ _ _ _ _ _ _ _ _ ?_;generalize YV=prog,aV cP=w,bU cP=A,cD cP=E,bX cP=s,ct cP=lst,du cP=ar,d5 cP=K,fp cP=ad,ZM=Q;intro n c f same Ho few hu fin;rw[bl a8 b0 F.called_set.mro];have b1:=F.called_set.made;have b2:=F.called_set.sub;refine aBy (a4x ?_);rw[f_ (callAny Jo _),jy ⟨Code.quiet_builtin _ dw,N5 F.entry_type_call ?_⟩];rw[Around.under_plain (weight_type_call_type "set" [Ya] []) rfl];have b3:=F.called_set.notType;have b4:=F.called_set.canCreate;have b7:=F.typeCall_set_1 Ya;rw[aKT];refine ML (aW0 Ya (E:=E) (R:=fun obj a4=>∃led:Bool,led=(! xg)/\obj=gk/\a4=fW Ax) (as rfl rfl rfl)) (fun J a4 a6=>?_);cases J with|error e=>{exact a6}|ok fl=>cases fl with|ret obj=>{obtain⟨led,b9,rfl,rfl⟩:=a6;rw[cl dl (led=ab\/O8),ad atS (df Ax aO) akL gI];have G:Shared.TypeIs (fW Ax) gk "set":=bm atS;have c0:=F.called_set.init.lookup;rw[iR (F.called_set.init.bind gk),aKT];refine ML (codeAny_call_builtin (R:=wants (fun J b5=>J= .none/\∃h' D a7 N,b5=nr/\bf5/\a9v/\a8S) E) F.called_set.init.plain F.entry_set_init (check_set_init_1 G ?_)) (fun r2 b5 g=>?_);{have c2:=c;obtain⟨d8,t,l,d6,z⟩:=c;obtain⟨c5,H,c6,I⟩:=d8;simp only at l z;subst l;rw[rq,ad L (df Ax lst) (au Aa H ar d6 I) (bT t)];have c7:=F.sub_list_set;have c9:=F.sub_list_frozenset;rw[cd d1 (YF==Mm "dict") ai];have B:(Ax).IsList lst ar:=f _ L d6 rfl;delta Builtin.«set.__init__» noKeywords Builtin.Frozenset.updateFrom;generalize M:pyIter=PI;wp_walk;subst M;refine aBf B ?_;rw[C (aEb ?_)];have P:lst<aO:=ft t;have R:A.in1.in1.in1.handled=ae:=by{trivial};rw[z S (lst≠fI Ax) lz (gC (vZ P))];have e3:aO∉[fI Ax,lst]:=by{simp at*;lia};have T:bl O K O (ad j<aO):=t7 (by obtain⟨o,_,_,d0,_⟩:=Ho j O h;exact PQ);rw[bv V (j<Mz) (∃O,aa K O) (aW (da (bU b8 same.g)))];have C:x5 bdx:=c_ (bT xh);refine aWZ (aBN R _ lst S ar).toS aO e3 K ad same (fun i v d3=>f i v d3) few ?hu (jU ?hw) Mz 0 _ #[] [] bM cS ⟨Pm,(B.push _)⟩ ?hG (f3 (by cases a0)) (t7 (km (Ho j O h) (C _ o d0))) ?hR;(case hu=>show _<gD;simp only[Around.in1];exact cU hu);(case hw=>obtain⟨O,c3⟩:=V i hi;have:=T i O c3;rw[fS];simp only[N4]at q;rw[bX q lz];exact jr _ (js jR this));(case hG=>rw[ad b6 (df bdx aO) akL (bT atS)];exact d (a akL 0 _ 3 b6 tE rfl (aWN 0 0 led) (aP (fun p e a0=>by simp at a0) dl)) .nil aQ (ab bI));case hR=>intro c8 a7 N c4 k a;obtain⟨e2,a5,a9,W,X⟩:=c8;have k2:a5=sO:=c4.gens;have a3:a9=zd:=c4.drawn;have y:X=CC:=c4.os;subst k2;subst a3;subst y;rw[f_ _,nZ,f_ (ret Cz),jy (a rfl e2 W a7 N rfl k a a9k)];have d:b≠aO:=gC U;rw[z Y (b≠fI Ax) lz (gC (vZ U))];exact aD6 b o (by simp only[hC,N4,oQ,Dh,aEa];exact⟨d,Y⟩) (C b o e)};{cases r2 with|error e=>{exact g}|ok Z=>cases Z with|ret J=>{rw[c rfl h' D a7 N k a r g,aKT];exact fin _ _ a7 N k a r}|_=>exact g.elim}}|_=>exact a6.elim
universe z
universe PySem
namespace PySem
open PySem.SetTable _root_.GM
namespace F
theorem axY:Slot "set_iterator" "__next__" "set_iterator.__next__":=KK "__next__"
theorem aW2:aEd table "set_iterator.__next__"=aa aEc:=entryFor_of_fast Ej
theorem aW3:Manifest.owners.lookup (String.ofList "rotareti_tes".toList.reverse)=aa Manifest.sig_set_iterator:=Ej
theorem aW4(a:Value):W0 "set_iterator.__next__" (d_ [a]):=p3 "set_iterator.__next__" "__txen__"
theorem axZ:Slot "set_iterator" "__iter__" "set_iterator.__iter__":=KK "__iter__"
theorem aW5:aEd table "set_iterator.__iter__"=aa Builtin.«dict_keyiterator.__iter__»:=HQ "dict_keyiterator.__iter__"
theorem aW6(a:Value):W0 "set_iterator.__iter__" (d_ [a]):=p3 "set_iterator.__iter__" "__reti__"
theorem aW7:aEd table "set.__iter__"=aa a4y:=HQ "frozenset.__iter__"
universe F
theorem ax0{I:Type}(nx:cC):∀(r k:Nat)(left:ba)(d:fq I),aEf=r->(aEg nx r k Mh d).toList.Perm (a4z++Mh)|0,k,left,d,h=>by{have:Mh=[]:=NO h;rw[gm];simp[aEg]}|r+1,k,left,d,h=>by simp only[aEg];have Z:alU<aEf:=VP _ ag;rw[da Z];refine J (ax0 nx r (k+1) _ _ (by rw[List.length_eraseIdx_of_lt Z,h];rfl)) ?_;rw[Array.toList_push,du];refine List.Perm.append_left _ ?_;rw[aS b4 Mh (a7X++Mh[alU]::left.drop (alU+1))];rw[aEe];conv=>{rhs;rw[b4]};exact bt (aCB (l₁:=a7X))
noncomputable def Ur(w:World)(r e1:Nat)(a7:cT):cT:=Z xg aMa a7
theorem aW8(w:World)(r e1:Nat)(a7:cT):(Eo).toList.Perm lL:=by delta Ur;split;{delta a4A;exact J (ax0 _ ck 0 lL #[] bI) aQ};{rfl}
theorem ax1(w:World)(r e1:Nat)(a7:cT):(Eo).size=ck:=nd (w4 beM)
def GV(h:Heap)(it r slot i n e1:Nat):Prop:=∃o,kC it/\vW= .type "set_iterator"/\gB= .fields #[hz jt,hz i,ug,hz n,hz e1]
structure afP(w:World)(h:Heap)(r:Addr)(a7:cT)(e1:Nat)(t:SetTable)(k:Nat):Prop where
 at_:I o (kC r) o.ExactSet (gB=Rx)
 ti:Kg
 plain:Ig=ab
 led:DJ=ab\/O8
section z
variable{prog:Program}{w:World}{A:Around}{E:aU}{s:Shared}
theorem afP.keep{h h':Heap}{r:Addr}{a7:cT}{e1:Nat}{t:SetTable}{k:Nat}(x:mN h)(e:lr r r):mN h':=by rw[bJ a b ajB];exact d (v o (e _ a) b) x.ti aEh x.led
theorem GV.type{it r slot i n e1:Nat}(x:lc bh n):lB nJ "set_iterator":=let⟨o,d0,b0,_⟩:=x;anP
theorem GV.keep{h h':Heap}{it r slot i n e1:Nat}(x:lc h n)(e:lr it it):lc h' n:=aMu
theorem aW9{r:Addr}{a7:cT}{e1:Nat}{t:SetTable}{k:Nat}{Q:aU}(x:JR)(g:Q gk (fW (lK "set_iterator" #[hz 0,hz 0,ug,hz ck,hz e1]))):bl (MF ug):=by rw[apP];have Z:lB ug "set":=a8m;have W:=LS x.ti;refine W2 Z a4D (qK a4D Z F.aW7 ?_ (F.args_set_iter_1 _));delta a4y;rw[C (WZ (a:=r) bI (bF (show fv _ _ (setEntries r>>=J (eU V6)) _ _ s from bF (a4C d0 hd W (fa ?_)))))];delta setDrawn aEi;rw[C (iP W (zg (cg fN))),aO (by show¬(dj (! xg) (! Ig&&cv (ck>1)));rw[aEh];simp),C (fa (wpAny_setEpoch_of d0 hd W (bF (MX (bW "set_iterator" (bm gI) a4B g)))))]
theorem aW_{O:PH}(h:iJ O):td O 0=0:=by rw[cb (LQ h 0),cY (a34 (td O 0)),l z,nI (b.2.1 0 _ z (lI (bU z b.1)))]
theorem aW'{O:PH}(h:iJ O){i:Nat}(hi:i<ip):a8d=i+1:=by have b:=LQ h (O[i]+1);rw[fd a8d (i+1),km (b.2.2 i _ amk (lI hi)),iy];{rw[aO l (i+1) ip (cn q b.1),iS (b.2.1 (i+1) _ q (lI l))];have J:O[i]<O[i+1]:=by{rw[a4 iJ];have:=Na h i (i+1) ag ag (x jR);rw[gf]};lia-abstractProof}
theorem aXa{r slot i e1:Nat}{a7:cT}{t:SetTable}{k:Nat}{Q:dE (bZ (cR×Nat))}(x:JR)(c0:a9e)(a3:l e d aGf a9a (Q (aa (e.2,d)) s))(a9:ck<=i->Q ae s):bl (setNext r jt i e1):=by revert x c0 a3 a9;revert prog w A E s r slot i e1 a7 t k Q;refine@mi _ _ _ _ _ _ _ _ _ _ _ _ _ _ ?_;generalize pY=prog,pZ=w,p_=A,qa=E,qb=s,qc=r,qd=slot,qe=i,qh=e1,qi=a7,ql=t,qm=k;refine apV;rw[u0 Q];intro x c0 a3 a9;rw[apP];have W:=LS x.ti;delta setNext aEi;rw[C (iP W (zg fN)),f_ (mo xg),be',bC a xg];{rw[aK a];rw[aO aQ];delta setWalk aEi;rw[fH (iP W (zg fN)),f_ (mo xg)];rw[aK a];rw[C (aD' (cg fN))];have y:Eo=aMa:=by{delta Ur;rw[aK a]};show Q (B (aMa)[i]? (an (e.2,jt))) s;rw[<-y];cases a0:(Eo)[i]? with|some e=>{exact a3 e jt a0 (.inl a)}|none=>rw[a4F]at a0;exact a9 (bU f.g a0)};{rw[aO a,cr U als i];have a5:DJ=ab:=by{rw[cY x.led,l z,cX]};rw[aO (by show¬(dj (! Ig) (cv (ck>1)));rw[aEh];rw[Bi])];refine bF (m:=Z (! DJ&&! a7.isEmpty) (a4E "set:maker-not-led") (eU ())) ?_;rw[aO ag,jy fN];rw[U];have y:Eo=a7:=by{delta Ur;rw[aO a]};have e8:=x.ti.size;rw[al (ik i ck)];{rw[ca c4 (i<qY)];rw[lI q,lI c4];exact a3 a7[i] (lJ[i]+1) ag (.inr (aW' x.ti.rise c4))};rw[az]}
theorem aXb{it r slot i e1:Nat}{a7:cT}{t:SetTable}{k:Nat}{Q:xT}(L:lc bh ck)(x:JR)(c0:a9e)(hi:i<ck)(g:∀e d h',c aGf (GV h' it r d (i+1) ck e1) a9a aLl (Q (aa e.2) tD)):h0 nJ:=by rw[bfw,apP,EN,bfl];delta aEc;rw[C ben];dsimp only;rw[aO aQ];rw[iQ,iQ,iQ];rw[HW (J (cy hi hS)),C (aEk c a pS ?_),gw (CO (Obj.mapFields (·.setIfInBounds 0 (vV d))) c (a4H an4)),C (aEk a3 an4 AA (pt (cg (g e d _ a0 (as (CO _ a3 (a4H (aEj an4 _))) ?_ ?_) g0 (fun b u ne U=>?_))))),dn a4G a4G h];{rw[aEj an4];rfl};rw[dn (oK ne) (oK ne) U]
theorem aXc{it r slot e1:Nat}{a7:cT}{t:SetTable}{k:Nat}{Q:xT}(c7:od)(L:GV bh it r jt ck ck e1)(x:JR)(c0:xg=ab\/als=ck)(g:u4 aLl):h0 nJ:=by revert c7 L x c0 g;revert prog w A E s it r slot e1 a7 t k Q;refine@mi _ _ _ _ _ _ _ _ _ _ _ _ _ _ ?_;generalize pY=prog,pZ=w,p_=A,qa=E,qb=s,qc=it,qd=r,qe=slot,qh=e1,qi=a7,ql=t,qm=k;refine apV;rw[u0 Q];intro c7 L x c0 g;rw[bfw,apP,EN,bfl];delta aEc;rw[C ben];dsimp only;rw[aO aQ];rw[iQ,iQ,iQ];rw[HW pz];{rw[be'];rw[aEm (x f.l)]at a0;cases a0};rw[C (aEk c a AA Yb)];simp only[newExc,newTuple];rw[C (Db (bF (m:=a4I _ _) (WZ (a:=Cz) (by first|rfl|(simp only[a4I];rfl)) (Db ?_))))];simp only[raiseNew];rw[C (wpAny_handled ?_)];rw[show A.in1.handled=ae from c7];rw[C (cg (wpAny_throw ?_)),C (lN (bm gI) ?_)];exact cg (g _ (fun b u ne U=>bT (bT (t (oK ne) U))))
theorem aXd(c7:od)(I r:Addr)(ne:r≠I)(a7:cT)(e1:Nat)(t:SetTable)(k:Nat):Walks cM w A I [I,r] [I] ck ba9 (fun i h=>I slot (GV h I r jt i ck e1) (O8\/als=i) (mN h))where sub:=db ah;frame:=fun _ _ _⟨jt,a,b,c⟩c3=>d jt (a.keep (eB (c3 I bK o e))) b (c.keep (eB (c3 r og o e)));item:=fun i s Q E hi⟨jt,a,b,c⟩g=>by{refine aXb a c b hi (fun e d h' a0 B b2 x=>g e.2 h' dE (bp e a0) (d d B b2 (c.keep (jC (x r o ne z)))) bdo)};done:=fun s Q E⟨jt,a,b,c⟩g=>aXc c7 a c b (fun h' x=>g h' dE bdo);self:=fun _ _ _ _⟨jt,a,b,c⟩g=>by refine W2 a.type F.axZ (qK F.axZ a.type F.aW5 (bW "set_iterator" a.type a4B g) (F.aW6 _))
theorem aXe{J:Addr}{Q:nz}(Z:lB xf "set")(h:X2):bl (aEo xf):=by revert Z h;revert prog w A E s J Q;refine biy;generalize kQ=prog,kR=w,kS=A,kT=E,kU=s,kX=J,k_=Q;rw[dt Z];delta aEo;rw[C (wb Z PySem.F.slot_set_len.lookup ?_)];generalize a:("set.__len__":gy)=b;wp_delta;rw[show splitId b=aa ("set","__len__")from by subst a;decide+kernel];subst a;rw[C (aEn (T:="set") (b:=ab) Z a7j (a4J (gT (cy c ay)) (au (a4J (au (bF (a4K Z xq))) (gT (cy dw c))))))]
theorem afP.type{r:Addr}{a7:cT}{e1:Nat}{t:SetTable}{k:Nat}(x:JR):lB ug "set":=by have⟨o,d0,hex,hd⟩:=ajB;exact a8m
theorem aXf(r:Addr)(a7:cT)(e1:Nat)(t:SetTable)(k:Nat):W.KdlSrc cM w "set" r r ck ba9 (c8 (mN h))where type:=fun s x=>x.type;there:=fun h x=>by{rw[aK9];exact⟨PQ,PQ⟩};keep:=fun h h' x e=>aEp (jC (e r gj o z));notList:=bI;notTuple:=bI;hint:=fun A E s Q x q=>aXe x.type q;iter:=fun A s c7 x=>by rw[aK9,e _ _ (fun E Q q=>aW9 x q) (aXd c7 aO r (gC PQ) a7 e1 t k) 0 Pm (.inr (aW_ x.ti.rise)) a85]
theorem aXg{r:Addr}{a7:cT}{e1:Nat}{t:SetTable}{k:Nat}{Q:dE aM}(c7:od)(x:JR)(d1:a1 ck)(g:∀h' D(B:dU),c (aO<Vo) (OV) (B.size=ck) (bl v B v (z e (aa (Eo) e) (v=e.2))) (Q WU nr)):bl (collect ug):=by rw[aK9,iS PQ];delta collect;rw[C (aEb (N5 F.entry_proto_collect ?_)),hX F.plain_proto_collect,C (MX (ml a4L (N5 F.entry_list_iadd ?_))),hX a4L];refine W.kdl_extend (prog:=cM) (R:=sc (match J with| .ok (.ret v)=>am (match v with| .ref a=>(load a>>=ld (match gB with| .seq O _=>eU O.toList|_=>a7Y))|_=>a7Y) Q E c1| .ok _=>cD| .error e=>E e c1)) (s:=fW (mH (jo aJu))) (aXf r a7 e1 t k) c7 a85 aO (vU lt) (vU lt) _ 0 gI (fun h' D c C en H hi=>?_) d1;rw[C (wpAny_load H (cg (g h' D c (ft H) (fun b u U=>en b u (J (jr _ (z▸ft U))) (bT U)) hi.1 hi.2)))]
universe z
section z
open PyProof.Rows PyProof.Rows.G
def sD(h:Heap)(v:Value)(K:aT):Prop:=∃a o O n,iW pL (vW=rn/\gB=jq O/\sT O.toList K/\K≠[])
noncomputable abbrev sF:ur:=au ai
theorem sD.keep{h h':Heap}{v:Value}{K:aT}(x:l7 h)(k:j b o md ha):l7 h':=by obtain⟨a,o,O,n,e,g,J⟩:=x;exact a a o O n e (k _ _ g) J
theorem ax2:∀{vs:aM}{K:aT}(i:Nat),sT vs K->tupItems sF i vs=aa (CW ht)|[],[],_,_=>rfl|v::vs,k::K,i,h=>by{cases h with|cons n t b=>simp only[tupItems,ax2 (i+1) b];rfl}|[],_::_,_,h=>PB|_::_,[],_,h=>PB
theorem sD.key{h:Heap}{v:Value}{K:aT}(x:l7 h):aEq h sF v=aa (CW ht):=by obtain⟨a,o,O,n,rfl,g,c,d,i,_⟩:=x;delta aEq isTupObj tupKey;simp only[g,c,d];rw[aK ay];exact ax2 0 i
theorem sD.tup{h:Heap}{v:Value}{K:aT}(x:l7 h):∃f,TupOf h sF v f:=by obtain⟨a,o,O,n,rfl,g,c,d,i,ne⟩:=x;obtain⟨l⟩:=O;cases i with|nil=>{trivial}|cons m t q=>exact i _ a o n g c (bj d (au (bm t)) (J Yz))
theorem afQ{h:Heap}:∀{vs:aM},V v vs (∃K,l7 h)->∃G,TupsOf h sF vs G|[],_=>⟨[],.nil⟩|v::vs,a=>by rw[dZ G (afQ (vs:=vs) (m1 (a u (ck hu))))];obtain⟨K,x⟩:=a v fu;rw[fY y x.tup];exact⟨f::G,.cons y q⟩
def afR(h:Heap)(l:aM):Prop:=∀(i j:Nat)u v K ls,j (i<=j) (A l u) (aa l v) (sD h u K) (sD h v ls) ((a4M a4N).blt (ls.map ht) (CW ht)=ai)
theorem aXh{h:Heap}{vs:aM}{f:SortSt}(p:eJ (tb f) (aEs vs))(d8:SortedToK (aEr h sF) (tb f) (aEs vs).size):(aH0).toList.Perm vs/\afR h (aH0).toList:=by have eq:∀q∈py (tb f),q.1=q.2:=fun q e0=>by{have m:=p.toList.mem_iff.mp e0;unfold pairsOf at m;rw[a4P]at m;generalize vs.toArray.toList=l at m;induction l with|nil=>{simp_all}|cons a J d6=>rw[cY (h_ m)];{rw[z]};rw[l (d6 z)]};rw[g4 p.size_eq,lL biv];{rw[a4O];refine J (p.toList.map _) ?_;delta aEs;rw[a4P];have:∀l:aM,cM (ahV l)=l:=ch (by induction l with|nil=>{rfl}|cons a J d6=>exact Ap);rw[nY]};{rw[a4O,cz,ph]at hu d3;rw[eZ j4 (j<(tb f).size)];have:=d8 i j le ah;have B:∀(x:Nat)y zs,cM (tb f)[x]?=aa y->sD h y zs->KK (aEr h sF) (tb f) x=zs.map ht:=fun x y zs S A=>by{delta KK;cases e0:(tb f)[x]? with|none=>{simp_all}|some q=>rw[e0]at S;have b9:q.2=y:=by{simp_all};rw[q6 ((aEr h sF).keyOf q.1)];rw[(eq q (bO (i:=x) ag)),b9];rw[q6 (aEq h sF y)];rw[A.key];rfl};rw[bX (B i u K hu n) (B j v ls d3 L)];exact this}
variable{prog:Program}{w:World}{A:Around}{E:aU}{s:Shared}
theorem aXi{r:Addr}{a7:cT}{e1:Nat}{t:SetTable}{k:Nat}{Q:aU}(c7:od)(x:JR)(d1:a1 ck)(c6:dc lL (∃K,sD bh e.2 K))(g:∀(h':Heap)D(p:Addr)(d:dU)c,p1 (Mg eY) (Q fO nr)):bl (Ij (.builtin "sorted") [ug]):=by refine Calls.call_function_entry kind_sorted plain_sorted entry_sorted (args_sorted1 _) ?_;delta Builtin.«sorted»;refine bF (m:=checkCount "sorted" 1 1 _) (fa (aXg c7 x d1 (fun a3 D B C en e8 it=>?_)));have pv:a4e (Mg eY):=by{have e:WU=(Eo).toList.map eY:=by{refine NA (fun j=>?_);rw[cz,ph,ph];cases b8:B[j]? with|none=>{rw[a4F]at b8;rw[aEm (by rw[ax1];simp_all)];rfl}|some v=>rw[bC e a0 (it j v b8)];rw[a0];rfl};rw[e];exact B beM _};rw[cl al (a1 B.toList.length),C (wpAny_newList ?_ al),ad l (df (aEt ao') a4Q) ao' gI];have a:x5 (aEt ao'):=c_ (bT (en b o e));have all:∀v∈WU,∃K,l7 (aEt ao'):=fun v d3=>by{rw[hW (pv.mem_iff.mp d3),dZ K (c6 e a0)];exact⟨K,q.keep a⟩};obtain⟨G,N⟩:=afQ all;rw[C (vT (qK slot_list_sort (bm l) entry_list_sort (list_sort_tups (shape:=sF) l N an6 al (fun f e0 g0 d0=>dl (cg Pd))) (args_list_sort _)))];{rw[dZ K (all v d3)];exact aW q.key};{rw[a'D,c8 h (sortedHeap_at (vs:=WU) (out:=cM (tb f)) l)];refine g _ D a4Q _ c (g4.trans pv) biv ?_ h (c_ ((fun b o ne e=>t (sortedHeap_old ne hc) e) b o ?_ (a b o e)));rw[l (g8 i j u v K ls le hu d3 (n.keep a) (L.keep a)),l (ew C),l (J (jr _ (js C (z▸hc))))]}
universe z
universe PySem
namespace GA
open PySem PySem.Spec PyProof.Rows PyProof.Rows.G L2 _root_.GM
theorem ax3:∀K ls:aT,bbw=mK K ls|[],[]=>rfl|[],_::_=>rfl|_::_,[]=>rfl|x::K,y::ls=>by rw[gD (aGN||(! bT y x&&bbw))];rw[(ax3 K ls),aEu];rw[b1 x y,aZ,EL]
abbrev AK:=ef×aT
noncomputable def vz(g:pV):af:=qZ (mL (gR t.1))
def Us(H:Hp)(g:pV):Prop:=∀t∈g,aKL
noncomputable def afS(w:World)(r:Addr)(a7:cT):HO:= .ext (c8 (∃e1 t k,mN h))
theorem afT{b1:aM}:∀{g:pV},ey (vz g)->b1=qZ akX|[],h=>aHf|t::g,h=>by cases h with|cons a b=>rw[afT b];cases a;rfl
theorem ax4:∀g:pV,iM (vz g) (qZ akX)|[]=> .nil|t::g=> .cons rfl (ax4 g)
theorem afU{b1:aM}:∀{K:aT},ey (CW cp)->sT b1 K|[],h=>by{rw[cG];exact .nil}|k::K,h=>by cases h with|cons a b=>rw[ep a];exact .cons _ t (afU b)
theorem aXj{P:Program}{w:World}{b1:aM}{K:aT}(q:sT b1 K):aB4 (PySem.intKind P w) K b1:=by induction q with|nil=>{rw[kL]}|cons n t h i=>rw[cA (by show(n==n)=ab;exact dH rfl) i]
section z
variable{X:Cx}{pins:bw}{s:Shared}{M:L2.St}{H:Hp}
theorem aXk(I:aY){t:AK}(h:aKL)(ne:t.2≠[]):sD bh (.ref t.1) t.2:=by rw[Cp h];exact f t.1 o eT n d0 b0 hd ⟨afU J,ne⟩
theorem Ut(I:aY){t:AK}(h:aKL):(aJE).is bh t.2 t.1:=by rw[Cp h];exact a o eT n d0 b0 hd (aXj (afU J))
inductive Uu(K:Fg)(w:World)(vs:af)(H:Hp)(Q:VK):Prop|mk:∀(a:Addr)(g:pV),e [gR a] (mz (vz g)) (Us H g) (Cf (qZ eY)) ((∀(r:Addr)(a7:cT)(b1:pV),b (Mg eY) PZ (V t b1 (t∈g)) (c7 EB) (∀k,k∈EB↔k∈qZ eY) (Y r->Q ug a_x))->Uu K w vs H Q)
theorem aXl(b0:fQ)(hu:uJ):Bu X Jo (Uu X.K X.w):=by rw[Zq];obtain⟨a,g,rfl,c0,c6,few,q⟩:=h;rw[aKM];rw[Vr J];have d2:=afT rv;rw[ae i0 Hl NW];let d:AK:=(0,[]);refine aW1 (K:=qZ eY) (ad:=iQ aG_) iv ahh (fun i v hi=>?_) (cx bA Hj i0) (fun j O b8=>?_) few (f8 hu) (fun h' D a7 N G f en=>?_);{have R:A ar v:=by{rw[a4c]at hi;exact hi};rw[d2,cz]at R;cases S:g[i]? with|none=>{rw[S]at R;rw[hO]}|some x=>rw[S]at R;have:dk x.1=v:=ax R;rw[<-this,Wu,S];rfl};{rw[gv b8];cases S:g[j]? with|none=>{simp_all}|some x=>rw[S]at b8;have e:x.2=O:=by{simpa using b8};have:aG_=x.1:=ag;rw[this,<-e];exact Ut I (c6 x (bO S))};{have kp:=c_ (en b o hc e);have O:∀{l:aO Int cR}{m:fA},f0 (fun(e:Int×cR)(O:bL Int)=>z b (e.2=cV) ((aJE).is h' O b))->ew l (j<vY) aG_->∃b1:pV,kv eY=PZ/\EB=m/\∀t∈b1,t∈g:=by{intro l m p;induction p with|nil=>{exact au (bj [] rfl (fun t h=>PB))}| @cons e k l m U c5 d6=>intro n;rw[q_ (d6 (sr (n z (ck c9)))),bF f7 c U];obtain⟨j,j4,C⟩:=n e fu;rw[ca r (j<NW),ae W (DH j d) g[j]];rw[W]at C;have c4:=s_ r;have j8:b=g[j].1:=by{rw[f7]at C;exact a4R C};have F:k=g[j].2:=by{rw[j8]at c;exact(aJE).inj c (axT (Ut I (c6 _ c4)) (jC (kp _ o z)))};rw[w (g[j]::b1) ?_ ?_ (fun t mt=>?_),az,aZ,cK]};rw[q_ (O G.keys f)];obtain⟨o,e1,t,k,d0,hex,hd,T,_,d5,ld⟩:=G.set;rw[Q gk (ad aO (afS X.w aO a7)) (CQ kp a_ (v (a e1 t k (d o d0 hex hd) T d5 ld) (np d0) (fun a3 a9⟨e1,t,k,x⟩z=>d e1 t k (aEp z)))) (q _ a7 b1 b4 e7 (t b9 G.nd) (t b9 G.mem) pQ)]}
theorem afV{I d:Type}(f:Ff){l m:nG}(p:Wk m):∀b1:ba,m=aiR f->∃g:ba,g.Perm b1/\l=qZ f:=by induction p with|nil=>{rw[dt b1];cases b1 with|nil=>{exact bp [] ame}|cons a J=>trivial}| @cons x l m p d6=>{rw[dt b1];cases b1 with|nil=>{trivial}|cons u b1=>rw[aau,aO g q (d6 b1 a9)];exact v (u::g) (q.cons u) ag}|swap x y l=>{rw[dt b1];match b1,h with|u::v::b1,h=>rw[aau];injection a9 with a9 e2;exact v (v::u::b1) (.swap _ _ _) ag}|trans p q c i=>rw[dt b1];obtain⟨n,d2,b4⟩:=i b1 h;obtain⟨a4,q2,b9⟩:=c n b4;exact v a4 (q2.trans d2) b9
theorem aXm{h:Heap}{b1:pV}(o:afR h PZ)(c6:∀t∈b1,sD h (.ref t.1) t.2):a4S aKv:=by rw[ahL];intro i j hi b8 lt;have:=o i j (.ref b1[i].1) (.ref b1[j].1) b1[i].2 b1[j].2 (ew lt) ag ag (c6 _ (s_ hi)) (c6 _ (s_ b8));rw[am ax3];exact this
inductive LU(K:Fg)(w:World)(vs:af)(H:Hp)(Q:VK):Prop|mk:∀(a:Addr)(b1:pV),e [gR a] (Us H b1) (V t b1 (t.2≠[])) (a1 ly) ((mz (vz b1)\/∃a7:cT,cw (afS w a a7)/\Mg eY=PZ)->(∀(p:Addr)(g:pV),i (g.Perm b1) (g.Pairwise aKv) (Y p) (x9 (vz g)))->LU K w vs H Q)
theorem aXn(b0:fQ):fL "sorted" (LU X.K X.w):=by rw[is vs l];obtain⟨a,b1,rfl,c6,ne,z,c0,q⟩:=h;rw[Vr J];have j:=lx (aXk I (c6 t m) (ne t m));have fin:∀(h':Heap)(D:Nat)(p:Addr)(d:dU)(c:Nat),p1 PZ (fX fO nr):=by{intro h' D p d c po i C at_ en;rw[dd g y (afV _ po b1 rfl)];rw[y]at i;rw[Q fO (ap p (vz g)) (CQ en C (a ?_ (qZ akX) c (ax4 g) ?_)) (q p g a9 (aXm i (lx (j t (aEv m)))) (ze C))];{show bd (qZ _) _;rw[bA,a9.length_eq];exact z};{rw[at_,<-y]}};rcases c0 with c0|⟨a7,a0,F⟩;{rw[aKM];have d2:=afT rv;have al:∀v∈ar,∃K,l7 bh:=fun v m=>by{rw[d2]at m;rw[a3 t mt m];exact aW (j t mt)};obtain⟨G,N⟩:=afQ al;refine sorted_tups (shape:=sF) ahh N (fun v m=>?_) (ac d2 bA z) (fun f e0 g0 d0=>?_);{obtain⟨K,x⟩:=al v m;exact aW x.key};{rw[a'D];obtain⟨e1,V⟩:=sortedAll_at bh ar aH0;exact fin _ dE _ _ e1 (bl d2 g4) g8 (a1y _) V (h2 sortedAll_old)}};{obtain⟨⟨e1,t,k,x⟩,_⟩:=eo _ _ a0;rw[b9 e8 ck ly F];refine aXi iv x I5 a71 (fun h' D p d c po i C at_ en=>fin h' D p d c (bl F po) i C at_ en);rw[br f7 (e.2∈PZ) F (Ik m)];obtain⟨t,mt,g9⟩:=zm f7;rw[<-g9];exact aW (j t mt)}
universe z
universe GA
namespace GM
open PySem
abbrev PK:=aT×aT
section z
variable{prog:Program}{w:World}{A:Around}{E:aU}{s:Shared}
def IsPair(prog:Program)(w:World)(h:Heap)(k:PK)(a:Addr):Prop:=∃o n x y,pL/\vW=rn/\gB=jq #[kN,Ak]/\(hJ).is h k.1 x/\(hJ).is h k.2 y
theorem IsPair.type{k:PK}{a:Addr}(x:fc bh k):lB bc "tuple":=let⟨o,_,_,_,d0,b0,_⟩:=x;anP
theorem IsPair.inj{h:Heap}{a:Addr}{x y:PK}(S:fc h x)(b6:fc h y):x=y:=by obtain⟨o,n,u,v,d0,_,hd,a3,a9⟩:=S;obtain⟨g,C,F,t,l,_,p,r,V⟩:=b6;rw[fh (o=g) (cZ (d0.symm.trans l))];rw[hd]at p;injection p with e _;have b4:u=F:=by{grind};rw[mp v t,Jm];subst b9;exact sJ ((hJ).inj a3 r) ((hJ).inj a9 V)
theorem IsPair.keeps{h h':Heap}{k:PK}{a d:Addr}{o:Obj}{a7 e1}(x:fc h k)(d0:kC d)(hd:gB=Pn)(c0:He d h h'):fc h' k:=by obtain⟨g,n,u,v,l,b0,p,a3,a9⟩:=x;exact a g n u v (ac c0 a (J ah) l) b0 p (HR a3) (HR a9)
noncomputable def afW(prog:Program)(w:World)(k:PK):Int:=reduceHash aLm
noncomputable def Uv(k:PK):Nat:=a88+(k.2.length+1)+1
theorem aXo{k:PK}{a:Addr}{Q:dE Int}(hu:kp 8)(c3:fc bh k)(h:Q (afW cM w k) (oI (dE+Uv k))):bl (pyHash bc):=by have Z:=c3.type;obtain⟨o,n,x,y,d0,_,hd,a3,a9⟩:=c3;delta pyHash;(first|delta pyHashByItsType|skip);(first|rw[C (wpAny_cRoomFor_or (.inr (f8 hu)) ?_)]|skip);rw[C (wb Z aD5 ?_)];show fv _ _ (mo (aa (a4V "tuple.__hash__")==aa Cz)) Q E s;rw[aO (t beq_builtin_none Hm),C (wb Z aD5 ?_)];show fv _ _ (callSpecialIfBoundUnlessNone? bc "__hash__" _>>=_) Q E s;rw[C (wpAny_callSpecialIfBoundUnlessNone?_slot Z a4U (qK a4U Z F.entry_tuple_hash ?_ (F.args_tuple_hash_1 _))),ta (a1K bc),C (aEw d0 hd ?_),ma,Jp,f_ (MU [dk x,dk y] _ _)];have r1:(hJ).room kz:=i8 JU (cU hu);rw[qM];rw[GN a3];dsimp only;rw[qM];rw[GN a9];dsimp only;rw[MV];rw[nZ,f_ (retInt aLm)];refine a4T ?_;delta afW reduceHash at h;have g9:dE+a88+(k.2.length+1)+1=dE+Uv k:=by{delta Uv;simp+arith [*]};generalize aLm=z at h⊢;show fv _ _ (mo bgC) Q E _;rw[bC a6 bgC];{rw[aK a6];rw[aj (aK a6),nZ];rw[<-g9]at h;exact h};{rw[aO a6,iW a6,C (W3 fN)];rw[<-g9]at h;exact h}
theorem aXp{p q:PK}{a b:Addr}{P:dE Fin}(hu:kp 8)(S:fc bh p)(b6:bda)(h:P (.done (.ret (.bool (ar p q)))) s):ie (Builtin.«tuple.__eq__» (d_ [bc,cV])) P:=by have⟨e,b0,x,y,c,_,d,a3,a9⟩:=S;have⟨N,a5,b1,d7,Z,_,l,r,V⟩:=b6;have r1:=show sR<gD by{lia};rw[ta (isInstance cV rn),zq b6.type,rP,C (aEw c d (bF (aEw Z l Yb))),f_ (MU [(dk x,dk b1),(dk y,dk d7)] _ _)];rw[qM];rw[fH ((hJ).eqBool r1 a3 r ?_),N b4 p.1 q.1];{rw[dH b4];rw[rP,nZ];dsimp only;rw[qM];rw[fH ((hJ).eqBool r1 a9 V ?_),N b9 p.2 q.2];{rw[dH b9];rw[rP,nZ];dsimp only;rw[MV];rw[jy fN,aj (dH (sJ b4 b9))];exact h};rw[o2 b9 (b9 (iG z))]};rw[o2 b4 (b4 (iG z))]
theorem aXq{p q:PK}{a b:Addr}{Q:nz}(hu:kp 16)(S:fc bh p)(b6:bda)(h:Q (ar p q) s):bl (eqBool bc cV):=by delta eqBool;rw[a9L];show fv _ _ (mo a_B) Q E s;rw[bC c a_B];{rw[aK c];have e:a=b:=by{have z:=eq_of_beq c;injection z};rw[bY];obtain rfl:=S.inj b6;exact bF (W3 (cg (ax h)))};rw[Z (bj c) (bF (wpAny_richCompare_same_room (op:= .Eq) S.type b6.type a4W (qK a4W S.type F.entry_tuple_eq (aXp (i8 (_+1+8<gD) (cU hu)) S b6 (as rfl (an (nomatch e)) (vQ h))) (F.args_tuple_eq_2 _ _)) (f8 hu)))]
theorem ax5{K:aT}{a:Addr}{Q:nz}(c3:(hJ).is bh K a)(h:Y2):Dd 7:=by obtain⟨o,f,n,d0,b0,hd,hi⟩:=c3;have Z:lB bc "tuple":=anP;unfold eqIsQuiet;rw[C (wb Z a4X ?_),zq Z,rP,baa,Jp,mi (a4l v=ab) hi.byValue];{rw[vi g];rw[eqIsQuiet_byValue _ (g v fu)];rw[P9,rP];exact cg (h6 (fun u c8=>g u (ck c8)))};rw[ap3]
theorem aXr{k:PK}{a:Addr}{Q:nz}(c3:fc bh k)(h:Y2):Dd 8:=by have Z:=c3.type;have⟨o,n,x,y,d0,_,hd,a3,a9⟩:=c3;unfold eqIsQuiet;rw[C (wb Z a4X ?_),zq Z,rP,baa,Jp,oU (MU [dk x,dk y] _ _)];rw[qM];rw[fH (ax5 a3 ?_),rP,nZ];dsimp only;rw[qM];rw[fH (ax5 a9 ?_),rP,nZ];dsimp only;rw[MV];exact cg xq
universe z
noncomputable def ax6(prog:Program)(w:World):aD4 cM w PK where is:=q_ cM w;hash:=afW cM w;draws:=Uv;room:=fun A=>kp 16;inj:=fun S b6=>S.inj b6;keeps:=fun x d0 hd c0=>x.keeps d0 hd c0;pyHash:=fun hu c3 h=>aXo (f8 hu) c3 h;eqBool:=fun hu S b6 h=>aXq hu S b6 h;quiet:=fun c3 h=>aXr c3 h
universe GM
namespace GA
open PySem PySem.Spec PyProof.Rows PyProof.Rows.G L2 _root_.GM
def RB:cu V| .ref _=>gA| .bl _=>gA|_=>cD
noncomputable def vv:V->cR| .ref a=>bc| .bl b=>I3|_=> .none
theorem aXs{v:V}(h:RB v):gP v (vv v):=by cases v<;>first|exact Hf|rfl
theorem aXt{v:V}{u:Value}(h:RB v)(J:jh):u=vv v:=by cases v<;>first|exact Hf|exact J
abbrev PKV:=PK×ef×V
noncomputable def mB(F:ud):aO PK (ef×cR):=MY (ab (x.1,x.2.1,vv x.2.2))
noncomputable def Uw(P:Program)(w:World)(a:Addr)(F:ud):HO:= .ext (c8 (nn (qJ (B (mB F) (entryOfKey (ax6 P w))) (c7 (gZ (mB F))))))
inductive GW(H:Hp)(b:Addr)(k:PK):Prop|mk:f x y (fr (f9 x y)) (iK x (hD k.1)) (iK y (hD k.2)) aHW
theorem GW.go{H L:Hp}{b:Addr}{k:PK}(t:QG)(h:aHW):GW L b k:=b x y a c d h (a x y (t _ _ a) (t _ _ c) (t _ _ d))
noncomputable def vA(F:ud)(k:PK):jK:=B (F.find? (ab (ar x.1 k))) (·.2.2)
noncomputable def LV(F:ud)(k:PK)(b:Addr)(v:V):ud:=Z (dj Fw) (MY (ab (v x.1 k (x.1,x.2.1,v) x))) (F++[(k,b,v)])
theorem ax7(F:ud)(k:PK):cM (zo (mB F) k)=B Fw vv:=by delta zo mB vA;induction F with|nil=>{rfl}|cons x J d6=>rw[c_,oR,oR];rw[b1 x.1 k];{simp[e]};rw[az]
theorem afX(F:ud)(k:PK):dj (zo (mB F) k)=dj Fw:=nd (gz Option.isSome (ax7 F k))
theorem aXv(F:ud)(k:PK)(b:Addr)(v:V):aho (mB F) k b (vv v)=mB alm:=by delta aho LV;rw[afX];rw[bC e (dj Fw)];{rw[aK e,aK e];delta mB;rw[jw,jw];rw[a77];simp only[Wm,putAt];rw[T x.1 k,aZ,aZ]};{rw[cD e e];simp[mB]}
theorem aXw(F:ud)(k:PK)(b:Addr)(v:V):bd alm (hY+1):=by delta LV;rw[Za]
theorem aXx(F:ud)(k:PK)(b:Addr)(v:V)(G:PK):vA alm G=av (G=k) v (vA F G):=by delta LV;rw[bC e (dj Fw)];{rw[aK e];rw[T G k];{rw[e_];rw[cN];delta vA at e⊢;induction F with|nil=>{trivial}|cons x J d6=>rw[c_,oR];rw[a6 oR,N z x.1 G];{simp[z]};rw[Jl]};{rw[aO q];delta vA;clear e;induction F with|nil=>{rfl}|cons x J d6=>rw[c_,oR,oR];rw[N z x.1 k,Jl];{rw[Pj]}}};{rw[aO e];unfold vA at e⊢;rw[List.find?_append];rw[T G k];{rw[e_,ks aB5 Option.not_isSome_iff_eq_none];rw[cN,e];simp};{rw[aO q];simp[hs q]}}
inductive oG(P:Program)(w:World)(H:Hp)(a:Addr)(f:Z9)(n:Nat):Prop|mk:∀F,c (cw (Uw P w a F)) bfL (hY<=n) (∀k,Fw=f k) (m4 H)
theorem oG.go{P:Program}{w:World}{H L:Hp}{a:Addr}{f:Z9}{n:Nat}(h:m4 H)(t:QG)(e:E o YY (be (L a))):m4 L:=b F a3 a9 e2 e5 h (a F (e _ a3) (fun x m=>baS) e2 e5)
theorem oG.mono{P:Program}{w:World}{H L:Hp}{a:Addr}{f:Z9}{n:Nat}(h:m4 H)(s:bQ):m4 L:=h.go (cO s) (s _)
section z
variable{X:Cx}{pins:bw}{s:Shared}{M:L2.St}{H:Hp}{A:Around}{E:aU}
theorem LW(I:aY){b:Addr}{k:PK}(h:aHW):(aJF).is bh k b:=by obtain⟨x,y,a3,a9,e2⟩:=h;rw[Cp a3];have e:ar=[kN,Ak]:=by{cases J with|cons a q=>cases q with|cons b q=>rw[kG];cases a;cases b;rfl};rw[bY];exact a o n x y d0 b0 hd (Ut (t:=(x,k.1)) I a9) (Ut (t:=(y,k.2)) I e2)
theorem afY(I:aY){a:Addr}{f:Z9}{n:Nat}(h:bhm):I F (cw (Uw eA X.w a F)) bfL (z (hY<=n) (∀k,Fw=f k) (a1 hY) (lb a) (s.heap.DictOfH aJF a (mB F))):=by obtain⟨F,a3,a9,e2,e5⟩:=h;obtain⟨⟨z,hd,o,a7,e1,g7,g8,a5,W,g6⟩,_⟩:=eo _ _ a3;rw[b F a3 a9 e2 e5 z hd o (a a7 e1 g7 g8 a5 W a72 g6)];unfold mB at m;rw[a3 y U m];exact LW I (a9 y U).1
theorem aXy(I:aY){a:Addr}{f:Z9}{n:Nat}(h:bhm):a8z:=by obtain⟨F,_,_,_,_,_,_,j⟩:=afY I h;exact Vv
inductive jPG(P:Program)(w:World)(Q:VK)(x y:V)(b7:Hp):Prop|mk:∀a b k f n v,ft b7 b7 (f k=aa v->Q v b7->jPG P w Q x y b7)
def aXz(P:Program)(w:World)(l A:TE):TE:=GH (jPG P w Q x)
inductive jPI(P:Program)(w:World)(neg:Bool)(Q:VK)(y x:V)(b7:Hp):Prop|mk:∀a b k f n,ft b7 b7 (Q (.bl (if neg then ! k9 k else k9 k)) b7->jPI P w neg Q y x b7)
def ax_(P:Program)(w:World)(neg:Bool)(A l:TE):TE:=wy (sq (l M a8 (jPI P w neg Q y)))
inductive jPP(P:Program)(w:World)(N:jb)(v x y:V)(d4:Hp):Prop|mk:∀a b k f n,ft d4 d4 (i (RB v) (n<hv) (ad o (oG P w (qz o) a (fun G=>av (G=k) v (f G)) (n+1)) (N (qz o))) (jPP P w N v x y d4))
def aXA(P:Program)(w:World)(l A L:TE):TS:=DC (jPP P w (mF M) v x)
theorem room_in(hu:kp 64):(aJF).room kz:=i8 (sR+1+16<gD) (cU hu)
variable{o i e B:Expr}{pos E T:Pos}{l A L:TE}
theorem aXB{g:Program}{w:World}(hu:uJ)(d0:Bc)(hi:yc)(c0:Sv i)(C:Ro)(hw:Qm):M (eV o i) (aXz g w l A):=by rw[nU];cases hw;rw[fx];refine bf7;obtain⟨y,b7,Y,Z,a,b,k,f,n,v,ex,c3,d,K,m,q2⟩:=P;rw[lW,jW,En,apz,vs Y];have B:=J (e5 k) m;have c4:=ax7 F k;rw[B]at c4;rw[h9 b0 (Cv c4),v Vv (a2h (ajC hu) (LW Y K) j c2 (a v b7 (aiO _) ?_ q2))];rw[b0];exact aXs (by delta vA at B;rw[aO y b6 (Cv B),xE];exact(a9 y (a2V b6)).2)
theorem aXC{g:Program}{w:World}(hu:uJ)(hi:yc)(d0:Bc)(C:Ro)(hw:Qm):PC X .In i o (ax_ g w ai A l):=by rw[nU];cases hw;rw[fx];refine apY;obtain⟨x,b7,Y,R,a,b,k,f,n,ex,c3,d,K,q2⟩:=P;rw[lW,jW,En,apz,vs Y];refine a2j (ajC hu) (LW Y K) hd j ?_;rw[afX,e5];exact bi (k9 k) b7 (aiO _) q2
theorem aXD{g:Program}{w:World}(hu:uJ)(hi:yc)(d0:Bc)(C:Ro)(hw:Qm):F6 g:=by rw[nU];cases hw;rw[fx];refine apY;obtain⟨x,b7,Y,R,a,b,k,f,n,ex,c3,d,K,q2⟩:=P;rw[lW,jW,En,apz,vs Y];refine a2k (ajC hu) (LW Y K) hd j ?_;rw[afX,e5];exact bi (! k9 k) b7 (aiO _) q2
theorem afZ{g:Program}{w:World}(hu:uJ)(d0:Bc)(hi:yc)(d3:an_)(c0:Bt (q3 E))(C:Ro)(hw:Qm):bn [q3 E] B pos (aXA g w l A L):=by rw[nU];cases hw;rw[kW];refine bhV;obtain⟨y,d4,O,Z,a,b,k,f,n,ex,c3,d,K,e,a0,q3⟩:=P;rw[lW,jW,En,apz];obtain rfl:=aXt e rv;rw[vs O];refine a2l (hsz:=n1 mB z) (ajC hu) (LW O K) j (fun h' p c0=>?_);rw[aXv]at p;obtain⟨q,a7,e1,e0,g8,a5,W,_,g6⟩:=p;have i0:=aXw F k b v;have a6:cA (qz aI5) a aI5:=v (a (br i0 e2 a0) hd q a7 e1 e0 g8 a5 W g6) alD biC;rw[w M _ (Su O (jz a3) c0 alD a6) (q3 _ (a _ ak a72 (bn i0 e2) (fun G=>?_)))];{rw[ae t d4 (qz aI5) (nE a3)];unfold LV at m;split at m;{rw[a3 y U m];have Q:=a9 y U;split;rw[l ⟨Q.1.go t,e⟩,l ⟨Q.1.go t,Q.2⟩]};{rw[iF m,l baS];{rw[OT];subst m;exact⟨K.go t,e⟩}}};{rw[aXx,e5]}
def aXE(P:Program)(w:World):TE:=lG (l p o (Y p) (oG P w amN p uu 0) (Q fO amN))
theorem af0{g:Program}{w:World}(C:Ro)(hw:Qm):AT (aXE g w):=by rw[nU];cases hw;exact rc (by refine fX (Uw eA X.w aO []) (v (a cS (wS ahs) _ #[] 0 gI tE rfl (bd aB6)) (aW gI) biC) (h _ _ pQ (a [] ak (fun x m=>nomatch m) a_ (cj rfl))))
universe z
universe GA
namespace PySem
section z
variable{prog:Program}{w:World}{A:Around}{E:aU}{s:Shared}
def aya(h:Heap)(z TI d:Addr)(b:Bool)(TO:Addr):Prop:=Ij (vV d)
theorem aXF{z TI d TO:Addr}{b:Bool}{j:Obj}{Q:nz}(c9:anT)(b1:aat)(g:of (fs h' ab) z):bl (W4 pE):=bh6
theorem ayb{z TI d TO c2 N a7 d5:Addr}{b:Bool}{c0 f7:Nat}{O d7:dU}{x y:Value}{j:Obj}{Q:xT}(c9:anT)(b1:aat)(f:ou bh)(D:aaK)(a3:apr)(a9:apq)(m:aop)(B:aoq)(S:nV c0)(b6:K d7 f7 y)(g:∀h',j (fs h' ab) bdH bdG (q_ h' aO x y) (bhI) a8j):h0 pE:=by rw[Z7,EN,apT,nW pE,ane,apA,bcu,ux,ma,Jp];rw[qM];rw[fH Ez,C (Il aH2 aH4 S (fun U l sb=>cg fN))];dsimp only;rw[qM];rw[fH Ez,C (Il baq bas b6 (fun b0 i a=>cg fN))];dsimp only;rw[MV];rw[nZ,bhG,C (aEz (pt fN) (hsz:=aIH)),ad h (df (b0.push (jt #[x,y])) a4Y) (jt #[x,y]) gI];rw[e0]at h⊢;refine g _ (bT (W5 _ _ aEy (N6 _ _ aEx k))) ?_ ?_ h (Ds (bT ((Ds (W5 _ _ c1 (F8 e))) c o e5 e6 c1 e)));rw[HT (l.extBut W5 D.i12),HT i]
theorem ayc{z TI d TO c2 N a7 d5:Addr}{b:Bool}{c0 f7:Nat}{O d7:dU}{j:Obj}{Q:xT}(c7:od)(c9:anT)(b1:aat)(f:ou bh)(D:aaK)(a3:apr)(a9:apq)(m:aop)(B:aoq)(J:bbq)(g:u4 (bhI)):h0 pE:=by revert c7 c9 b1 f D a3 a9 m B J g;revert prog w A E s z TI d TO c2 N a7 d5 b c0 f7 O d7 j Q;refine@mi _ _ _ _ _ _ _ _ _ _ _ _ _ _ ?_;generalize pY=prog,pZ=w,p_=A,qa=E,qb=s,qc=z,qd=TI,qe=d,qh=TO,qi=c2,ql=N,qm=a7;refine Kk;generalize aG=d5,aA=b,aF=c0,aE=f7,aD=O,aB=d7,aH=j,aI=Q;intro c7 c9 b1 f D a3 a9 m B J g;rw[Z7,EN,apT,nW pE,ane,apA,bcu,ux,ma,Jp];rw[qM];rw[fH Ez];cases S:O[c0]? with|none=>{rw[C (W6 c7 aH2 aH4 S (fun U e sb a0=>?_)),bey,HV (sb c o e6 (Im _ _ e5 q))]}|some x=>rw[C (Il aH2 aH4 S (fun U l sb=>cg fN))];dsimp only;rw[qM];rw[fH Ez,C (W6 c7 baq bas bz (fun b0 e a a0=>?_)),bey,HV (a c o c1 (F8 q))]
def ayd(h:Heap)(e it:Addr)(i:Int)(d:Addr)(b:Bool)(u:Value):Prop:=f5 e (.type "enumerate") (.fields #[vV d,I3,nJ,vV i,.none,u])
theorem aXG{e it d:Addr}{i:Int}{b:Bool}{u:Value}{j:Obj}{Q:nz}(c9:h_ bh i)(b1:aat)(g:of (EP i) e):bl (W4 OO):=bh6
theorem aXH{e it l d:Addr}{i:Nat}{b:Bool}{u x:Value}{f:dU}{j:Obj}{Q:xT}(a0:h_ bh i)(b1:aat)(c6:d≠e)(n1:d≠it)(L:ajD it l i)(a5:CS l f)(S:fh f)(R:e≠it)(g:∀h' t D,c (EP (v i+1)) (N7 it l (i+1)) (gQ aO=aa (jt #[eZ i,x])) (f b o (b≠e) (b≠it) gY ha) a78):h0 OO:=by revert a0 b1 c6 n1 L a5 S R g;revert prog w A E s e it l d i b u x f j Q;refine@mi _ _ _ _ _ _ _ _ _ _ _ _ _ _ ?_;generalize pY=prog,pZ=w,p_=A,qa=E,qb=s,qc=e,qd=it,qe=l,qh=d,qi=i,ql=b,qm=u;refine aML;rw[al x f j Q];intro a0 b1 c6 n1 L a5 S R g;rw[zN a0,EN,bfv,nW OO,dc a0 nJ (bF (Il L a5 S (fun b3 n sa=>?_)))];have c:=ac sa e R a0;rw[dc c (vV i) ?_,dc c .none ?_,C (a4Z ?_),C (DL c AA (fun U h sb=>?_))];replace h:h_ U (v i+1):=h;replace sb:He e b3 U:=sb;rw[C (DL h (x xC) (fun b0 k a=>?_))];replace k:h_ b0 (v i+1):=k;replace a:He e U b0:=a;rw[C (aEz ?_),bhG];have G:f b o (b≠e) (b≠it) gY (be (b0.get? b)):=GQ (W5 _ _ e5 (N6 _ _ e5 (Im _ _ e6 q)));rw[C (aXG (bT k) (bT (G _ _ c6 n1 b1)) (fun hd p sd=>?_)),ux,jy (dl fN),bJ (aEA _ _ (vU (t e0 (ft a0))) gI)];rw[e0]at m⊢;refine g hd dE _ p ?_ m (GQ (aEA _ _ e5 (bT (G b o e5 e6 q))));have⟨o,d0,J⟩:=b7 (n.extBut N6 (hs R)) W5 (hs R);exact v o (aEA _ _ (hs R) (bT d0)) J
theorem aXI{e it l d:Addr}{i:Nat}{b:Bool}{u:Value}{f:dU}{Q:xT}(c7:od)(a0:h_ bh i)(L:ajD it l i)(a5:CS l f)(S:f[i]?=ae)(g:u4 aLl):h0 OO:=by rw[zN a0,EN,bfv,nW OO,dc a0 nJ (bF (W6 c7 L a5 S (fun h' x V G=>?_)))];have⟨o,d0,b0⟩:=G;rw[C (lN anP (cg (g _ V)))]
universe z
structure af1(prog:Program)(w:World)(A:Around)(T:String)(I:Addr)(a8:bg)(base n:Nat)(St:QH)(p:dJ iL ef):Prop where
 mem:I∈a8
 low:hR (b<aj)
 type:∀i(s:Shared),iV i->lB pD T
 item:∀i(s:Shared)(Q:xT)(E:aU),c (i<n) (iV i) (aj<=aO) (f h' D (p i h' aO) (St (i+1) h') a8R a78) (h0 pD)
 done:∀(s:Shared)(Q:xT)(E:aU),iV n->(j h' D a8R (Q ae nr))->h0 pD
 self:∀i(s:Shared)(Q:aU)(E:aU),iV i->Q pD s->bl (MF pD)
 keep:∀(r:Addr)i h h',i (aj<=r/\(B7 (kC r))) (St i h) (l b o (b≠r) md ha) (St i h')
 af2:∀i h h' a,p i h a->ad o pL (be (gQ a))->p i h' a
 tup:∀i h a,p i h a->z o pL (vW=rn)
section z
variable{prog:Program}{w:World}{A:Around}{R:Qb}{T:String}{I:Addr}{a8:bg}{base n:Nat}{St:QH}{p:dJ iL ef}
theorem aXJ(W:Cl kz)(d1:a1 n)(r:Addr)(v:aj<=r)(x:Value){b1:Heap}:∀(k i:Nat)(s:Shared)(Y:bg)(c:Nat),b (n-i) k Qh (iV i) (c5 r ao5) (b eM i (nI Y bh) (Fa gY) (f3 r (Fa O_) (eS x c1)) (l6 "list.extend.loop" (d_ [.ref r,pD,x]))):=by have g:=nQ r v;intro k;induction k with|zero=>{rw[biE];have e:i=n:=by{exact mP (cU hi) (cf Ph WS)};rw[bY,lJ a40,hX ajG,C (ajA s _ _ st (fun h' D en=>cg (hR _ Y c rfl rfl rfl (en _ _ g b2) i0 aJ' (DD bgM))))];obtain⟨q,l⟩:=ape;exact⟨fJ a q bfu,l⟩}|succ k d6=>rw[biE,b3 lt (i<n) (cf (aR hi) Ie),lJ a40,hX ajG];have t:=ew (fb v (ft b2));rw[C (aD8 i s _ _ lt st t (fun h' D c2 f en=>?_))];have H:=en _ _ g b2;rw[ma];have G:bd (b≠r) ha (iE aJG):=fun b o U z=>qG z;have u:(N8 dk).toArray.size=i:=by{simp[i0]};have ne:∀{j:Nat}{h:Heap}{a:Addr},p j h a->bA r ao5->a≠r:=fun{j h a}q z y=>by{rw[bJ a3 a9 (W.tup j h a q)];rw[y,z]at a3;rw[a4 a3 (cy (aEB a9) ay)]};rw[aS d0 (hv (B (Y++[aO]) dk)) a96];obtain⟨e6,J⟩:ax e6 (df aJG r) (hf a96 e6):=aW aKx;rw[<-d0]at J;refine ajE H rfl (ml ajG (d6 (i+1) (dm aJG D) (Y++[aO]) e6 (gx (hn (aC n (i+1) lt) Ph WS) (hn Ie (aC n i hi) (aS n (i+1)))) lt (ajF r _ _ _ ⟨v,(jC (by rw[H]at z;cases z;rfl))⟩ f G) J (ar i0) aJ' (DD (G b o e2 bgM)) (fun c1 M C g7 g8 a5 B E K L=>?_))) (t u pM) (ac Array.size_push u (cf lt d1));{rw[List.getElem?_append]at b3;split at b3;rw[S q l ape (fJ a q (G _ _ (ne q b2) bfu)) l];{rw[bL d j i];subst d;rw[show j-eM=0 by simp[*]]at b3;rw[b7 d0 aO a b3,xM];exact⟨fJ _ c2 (G _ _ (ne c2 H) z),t⟩}};rw[l (hR c1 M C g7 g8 a5 B E K L)]
theorem aXK{s:Shared}(W:Cl kz)(d6:a8K)(i:a8L)(h7:bil)(d1:a1 n)(r:Addr)(v:aj<=r)(x:Value)(u:Nat)(st:iV 0)(b2:c5 r (rY (.seq #[] u)))(hR:f3 r (k7 a8 O_) (eS x c1)):fv (ju cM w) kz (aEC ug pD x) (fun fin c1=>match fin with| .done f=>R (.ok f) c1| .again C=>C.quiet=ab/\Hh XG A C R c1) a6Q s:=by have g:r≠I:=an (jr _ (fH (a41 I W.mem) (e▸v)));delta aEC;rw[w9 aLn,aC a3 (Builtin.List.listSameRef ug pD) ai (bj bG)];simp only[a3,n4 "list" bK,n4 "tuple" og,aBl,CU,iR];rw[C (W.self 0 _ _ _ st (bF Ez))];delta aEo;rw[C (wb aLn d6 ?_),C (wb aLn i fN),C (W3 Yb),kB b2 ?_];have J:=CO (v7 Cz) b2 rfl;refine ajE (hz:=by seq_fits) J rfl ?_;have h:bd (b≠r) gY (iE ((Vn r (v7 Cz)).update r a8f)):=jx (qG (qG e));rw[iN ajG (aXJ W d1 r v x (b1:=bh) n 0 _ [] _ rfl cS (ajF r _ _ _ ⟨v,(jC ah)⟩ st h) (CO a8f J rfl) rfl (fun j a b3=>bB) (fun b o _ e2 z=>h b o e2 z) (fun c1 M C g7 g8 a5 a b c d=>hR c1 M C g7 g8 a5 a b c d))]
theorem aXL{s:Shared}{E:aU}{Q:aU}(W:Cl A.in1.in1)(d6:a8K)(i:a8L)(h7:bil)(d1:a1 n)(U:aj=aO)(st:iV 0)(g:f3 aj (l b o (b∉a8) gY O_) (Q (.ref aj) c1)):bl (Ij Aa [pD]):=by subst U;refine callType_codes (Q₁:=fun obj l=>obj=gk/\l=fW QX) F.called_list (F.typeCall_list_1 _) F.entry_list_init (code_list_new _ xB) (fun obj a4 a3=>?_);rw[dl rfl a3,ad b2 (df QX aO) (jo #[]) gI,ak (bm b2) (F.args_list_init_2 _ _)];have h:bd (b≠aO) (iE QX) (iE ((QX).update aO a9W)):=jx (qG e);have f:B7 (gG aO):=fun o z=>ix (ft z);have k:St 0 QX:=ajF aO _ _ _ ⟨a_,f⟩ st (fun b o _ z=>bT z);have m:B7 (be (df QX aO)):=fun o z=>ah;have b4:=ajF aO _ _ _ ⟨a_,m⟩ k h;rw[f_ (do{let a7<-Builtin.List.listItems (.ref s.heap.objs.size);Builtin.List.listUpdate (.ref s.heap.objs.size) (fun _=> #[]);letGo a7.toList.reverse;Builtin.List.listExtendWith (.ref s.heap.objs.size) (.ref I) .none}),ma];delta bjU;rw[C (gc b2 fN),f_ (updateSeq aO (au #[])>>=au (letGo (#[]:dU).toList.reverse>>=au (aEC gk pD .none))),C (ajE b2 rfl ?_)];have J:=CO a9W b2 rfl;rw[C (zO ?_)];refine aXK W d6 i h7 d1 aO a_ .none _ b4 J (fun c1 M C g7 g8 a5 a b c d=>?_);exact bd (g c1 M C g7 g8 a5 a b c (fun x o e7 z=>d x o e7 (gC (ft z)) (h x o (gC (ft z)) (bT z))))
universe z
section z
variable{prog:Program}{w:World}{A:Around}
theorem aXM:hz "zip" "__len__":=Yw
theorem aXN:hz "zip" "__length_hint__":=Yw
theorem aXO:hz "enumerate" "__len__":=Yw
theorem aXP:hz "enumerate" "__length_hint__":=Yw
theorem IsListIter.at'{h h':Heap}{it l:Addr}{i:Nat}(x:CH it l i)(e:lr it it):N7 it l i:=aMu
theorem IsList.at'{h h':Heap}{l:Addr}{O:dU}(x:ajH l O)(e:lr l l):h'.IsList l O:=aMu
def aXQ(base:Nat)(z TI TO c2 N a7 d5:Addr)(O d7:dU)(i:Nat)(h:Heap):Prop:=((i=0/\bgv/\∃a b,q_ h TO a b)\/∃d b j,fs h b/\bA d j/\bcz)/\ou h/\N (CH c2 a7 i) (CH N d5 i) (ajH a7 O) (ajH d5 d7)
theorem aXR(c7:od){base z TI TO c2 N a7 d5:Addr}(D:aaK)(h2:z<aj)(e2:TO<aj)(i8:c2<aj)(b3:N<aj)(t:TI<aj)(u:a7<aj)(H:d5<aj)(O d7:dU):af1 cM w A "zip" z [z,TO,c2,N] aj aJs (aXQ aj z TI TO c2 N a7 d5 O d7) (fun i h a=>∃x y,nh/\A d7 y/\q_ h a x y)where mem:=bK;low:=db Ba;type:=fun i s x=>by{rw[DO x.1,l (bm q),l (bm q)]};item:=K1 (by rw[aMI];have S:A O O[i]:=lI eO;have b6:A d7 d7[i]:=lI eO;have d1:E c (c∉[z,TO,c2,N]) (N (c≠z) (c≠TO) (c≠c2) (c≠N)):=fun c b0=>ah;rw[Le rfl];{refine a46 D c9 f n a3 a9 m B S b6 (fun h' z1 h6 k7 l9 v I p=>de (.inr (a aO ai _ z1 (aP v C))) (p _ _ D.TIz D.TITO D.TIi1 D.TIi2 f) (p _ _ ajL D.l1TO D.l1i1 D.l1i2 e) (p _ _ ajK D.l2TO ajJ D.l2i2 e));rw[bfV];exact p c o e5 e6 c1 i0 e};{refine ayb c9 b1 f D a3 a9 m B S b6 (fun h' z1 k7 l9 v p=>?_);have c6:d≠z/\d≠c2/\d≠N:=v (qW h2) (qW i8) (qW b3);refine de (.inr (a d ab j z1 (p _ _ c6.1 c6.2.1 c6.2.2 b1) G c0)) (p _ _ D.TIz D.TIi1 D.TIi2 f) (p _ _ ajL D.l1i1 D.l1i2 e) (p _ _ ajK ajJ D.l2i2 e);rw[bfV];exact p c o e5 c1 i0 e});done:=fun s Q E st g=>by{rw[aMI];have J:O[aJs]?=ae\/d7[aJs]?=ae:=by{rw[xj]};rcases zs with⟨_,c9,a,b,n⟩|⟨d,b,j,c9,b1,G,c0⟩;rw[lG (a45 c7 D c9 f n a3 a9 m B J (t0 aGg)) (p c o b0.1 b0.2.1 (aS b0) b0.2.2.2 e),lG (ayc c7 c9 b1 f D a3 a9 m B J (t0 aGg)) (p c o b0.1 (aS b0) b0.2.2.2 e)]};self:=IF (by rw[DO st.1,l (aED q g)];{have Z:lB pE "zip":=bm q;refine W2 Z ajI (qK ajI Z a44 (bW "zip" Z a43 g) (a42 _))});keep:=K4 (by rw[aMI];have ne:∀{a:Addr},a<aj->a≠r:=bcb;rw[o ?_ (ax (ne t) f) (mL a3 i8) (mL a9 b3) (Io m (eB (sb u))) (Io B (eB (sb H))),Le e,cK,Kl (a d b j ba8 (ax pz b1) G c0)]);af2:=fun i h h' a⟨x,y,b4,b9,e7⟩k=>a x y b4 b9 (k _ e7);tup:=fun i h a⟨x,y,b4,b9,e7⟩=>bm e7
def aXS(base:Nat)(e it l:Addr)(O:dU)(i:Nat)(h:Heap):Prop:=((i=0/\In 0)\/∃d b u j,h_ h i/\bA d j/\bcz)/\CH it l i/\ajH l O
theorem aXT(c7:od){base e it l:Addr}(R:e≠it)(c1:l≠e)(f:l≠it)(h2:e<aj)(e2:it<aj)(i8:l<aj)(O:dU):af1 cM w A "enumerate" e amR aj ip (aXS aj e it l O) (fun i h a=>∃t x,nh/\bA a (jt #[eZ i,x]))where mem:=bK;low:=db Ba;type:=fun i s x=>by{rw[DP x.1,l (bm q),l (bm q)]};item:=K1 (by rw[aLY];have S:=lI hi;rw[cd d2 (ae (i+1)) (v i+1)];have d1:E c (c∉amR) (c≠e/\c≠it):=fun c b0=>ah;rw[nw rfl a0];{refine a2r a0 L a5 S R (fun h' z1 h6 k7 l9 v=>qR _ (.inr (a aO ai _ _ z1 k7 rfl C)));rw[y_ (d1 c b0)];exact bfJ};{have c6:d≠e/\d≠it:=⟨qW h2,qW e2⟩;refine aXH a0 b1 c6.1 c6.2 L a5 S R (fun h' t D z1 h6 k7 v=>qR D (.inr (a d ab u j bB (v _ _ c6.1 c6.2 b1) G c0)));rw[y_ (d1 c b0)];exact bfJ});done:=fun s Q E st g=>by{rw[aLY];have J:O[ip]?=ae:=aEm a_;rw[nw z a0,lG (a2q c7 (i:=ip) (old:=a7) A_ L a5 J (t0 aGh)) (p c o b0.2 q),lG (aXI c7 a0 L a5 J (t0 aGh)) (p c o b0.2 q)]};self:=IF (by rw[DP st.1,l (aB8 q g)];{rw[zN q];refine W2 Z a47 (qK a47 Z F.entry_enumerate_iter (bW "enumerate" Z F.slot_enumerate_next.lookup g) (F.args_enumerate_iter_1 _))});keep:=K4 (by rw[aLY];have ne:∀{a:Addr},a<aj->a≠r:=bcb;rw[aa ?_ (mL L e2) (Io a5 (eB (sb i8))),nw z c9,cK,Kl (a d b u j ba8 (ax pz b1) G c0)]);af2:=fun i h h' a⟨t,x,b4,b9⟩k=>d t x b4 (k _ b9);tup:=fun i h a⟨t,x,b4,b9⟩=>bm b9
universe z
universe PySem
namespace GA
open PySem PySem.Spec PyProof.Rows L2
section z
variable{X:Cx}{pins:bw}{s:Shared}{M:L2.St}{H b7:Hp}{h':Heap}
theorem aXU{t':Nat}(I:aY)(k:Zx)(d:cY H b7)(a6:hq (b7 b) (O9\/(aO<=b/\cA b7 b o))):aR b7 uC:=by refine I.un (a (wp X6) a8O (fun b u q n _=>?_) bc6 (x1 (go q)) (yu (go q)) (fun b c5 q=>o2 (dc (go q)))) a8e;{cases e:b7 b with|none=>{rfl}|some o=>rcases a6 b o e with z|⟨z,_⟩;rw[az,l (ix (fH (ft q) z))]};{rcases a6 b o e with z|⟨_,z⟩;rw[l ((eo b o z).qr bdM (fun c q=>go q) (zL (go q))),l z]}
noncomputable def lay(H:Hp)(l:Addr)(Y:bg)(L:ZT):Hp:=h8 (av (b=l) (.lst Am) (match L b with|some O=>aa tI|none=>H b))
theorem aXV{t':Nat}(I:aY)(k:Zx){l:Addr}{Y:bg}{c:Nat}{L:ZT}(a5:aO<=l)(at_:gQ l=aa ao5)(z:a1 eM)(c6:j b O (hB O) (aO<=b/\Jc/\∃ar:aM,Ew/\Mo h' b eT)):aR aMb uC/\cY H aMb:=by rw[aj sm aMb (c_ (by have lt:=I.dr.lt e;delta lay;rw[aO (g9 lt a5)];cases q:L b with|none=>{exact e}|some O=>rw[dQ (fH lt (c6 b O q).1) (jr _)])),v (aXU I k sm a8e) sm];unfold lay at e;rw[T b l];{rw[a6 (aK q),dS,e_];refine .inr (c a5 ag (N8 dk) c ?_ at_);clear at_ z sm;rw[wE Y]};{rw[a6 (bj q)];cases d:L b with|none=>{rw[a6 d];exact YI}|some O=>rw[a6 d,dS,dd a3 e2 (c6 b O d)];exact .inr (v a3 a9 e2)}
universe z
theorem aXW{H:Hp}{l:Addr}{Y:bg}{L:ZT}:b5 (lay H l Y L l) Am:=by delta lay;rw[cN]
theorem aXX{H:Hp}{l b:Addr}{Y:bg}{L:ZT}{O:af}(ne:b≠l)(h:hB O):lay H l Y L b=aa tI:=by delta lay;rw[bj ne,h]
inductive Ux(a8 b7:Hp)(l:Addr)(n:Nat)(P:dJ V V):Prop|mk:cY a8 b7->gA l->∀Y:bg,i (eM=n) (b5 (b7 l) Am) (bl a Y a (gA a/\∃x y,P j x y/\b7 a=aa ZN)) (Ux a8 b7 l n P)
inductive jLZ(K:Fg)(Q:VK)(vs:af)(a8:Hp):Prop|mk:oY (pt (min bx oP) a'X) (jLZ K Q vs a8)
def aXY(K:Fg)(d6:TA):TE:=k8 (jLZ K Q)
inductive jLE(K:Fg)(Q:VK)(vs:af)(a8:Hp):Prop|mk:f a O (vs=uf) Yp (pt bx (BF O)) (jLE K Q vs a8)
def aXZ(K:Fg)(d6:TA):TE:=k8 (jLE K Q)
open Classical in theorem aX0{X:Cx}{pins:bw}{s:Shared}{M:L2.St}{H:Hp}{h':Heap}{t':Nat}(I:aY)(k:Zx){l:Addr}{Y:bg}{c n:Nat}{P:dJ V V}(a5:aO<=l)(at_:gQ l=aa ao5)(i0:eM=n)(z:a1 n)(c6:bl a Y a (aO<=a/\∃x y u v,N (P j x y) pK Yh (gQ a=aa (jt #[u,v])))):z b7 (aR b7 uC) (Ux H b7 l n P):=by have ex:E b (aph) (∃O:af,bha):=fun b e0=>by{rw[iE b8 e0];obtain⟨_,x,y,u,v,_,r1,r2,e⟩:=c6 j b b8;exact a _ x y u v rfl r1 r2 e};let L:ZT:=h8 (if q:aph then aa (agK (ex b q))else ae);have g:j b O (hB O) ((aph)/\bha):=xe (by by_cases q:aph;{have:hB (agK (ex b q)):=dif_pos q;rw[amA,dS];exact⟨q,aAZ (ex b q)⟩};{have:IM:=dif_neg q;rw[amA,dS]});obtain⟨d0,sm⟩:=aXV (t':=t') (L:=L) I k a5 at_ (t i0 z) (xe (by obtain⟨⟨j,b8⟩,x,y,u,v,ex,r1,r2,d3⟩:=g b O e;rw[g (c6 j b b8).1 ?_ [u,v] ?_ _ d3 _ rfl];{rw[ex];show a1 2;decide};rw[Z ex (hR r1 r2)]));rw[e _ d0 sm (ze a5) Y i0 aXW aJ'];obtain⟨w,x,y,u,v,p,r1,r2,e⟩:=c6 j a b3;have g9:ax O (L a) O:=aW (dif_pos ⟨j,b3⟩);obtain⟨O,g9⟩:=g9;obtain⟨_,b1,d7,F,t,d,h,i,d3⟩:=g a O g9;rw[Zd];injection d3 with d3;injection d3 with _ _ d3 _;injection d3 with d3 _;have f:u=F:=cZ (gz (fun z:dU=>z[0]?) d3);have B:v=t:=cZ (gz (fun z:dU=>z[1]?) d3);rw[rC];subst B;rw[M ne a l bM,aP (ze w) x y p];rw[aXX ne g9,d,RelV.inj r1 h,RelV.inj r2 i]
theorem af3{O:af}{b1:aM}{j:Nat}{u:Value}(q:nL)(h:aa b1 u):z x (aa O x) pK:=mx q h
section z
variable{X:Cx}{e b9:Expr}{d6:TA}{p f6 pos d:Pos}
theorem lt5{n m k:Nat}(h:m=n+5)(c3:k<5):n+k<m:=ag
theorem ayh{n m a:Nat}(h:m=n+5)(l:a<n):a<m:=bn l h.g
theorem le5{n m:Nat}(h:m=n+5):n<=m:=ag
theorem share{s c1:Shared}(g7:U8=sO)(g8:a48=zd)(a5:U9=CC):c1=dm mD ahl:=by cases s;cases c1;simp at*;exact v g7 g8 a5
theorem aX1(b0:fQ)(k:amG)(l:amP)(d8:aHl)(c4:aHs)(b3:aHD)(c0:aKe)(b8:f_ d [b9])(i:bdT)(A:Ze):FR X.K:=by rw[fx];refine N9 (FU I k l (bI:aJ6) (ag' ?_ i A) ay ay);rw[i];rw[qM ar_ b8,JO,bh_,lW];cases r1 with|cons J C=>cases C with|cons B C=>rw[nU,hM];cases B;rw[be5];obtain⟨t,d4,D,h6⟩:=CI c6;have F:=e9.lt;have i5:=D.lt;refine qD D.isList (aBw ?_);have a7:min vY a11=min bx oP:=by{simp[CG,d4.length]};have W:=aXR (prog:=eA) (w:=X.w) (A:=a4_) iv (base:=Vo) (a49 fI a b F i5) aoG aoG (lt5 (k:=0) G ay) aoG aoG (ayh G F) (ayh G i5) eT Vp;rw[a7]at W;rw[dj aXM aXN bcO (c (.inl (a rfl c9 _ _ n)) f a3 a9 (zn ajM) (zn D.isList)),a3 a'X (by refine beN;rw[iS (ft z),Bg,kB m,aoT,aoT,az,aoT]) (le5 G) bcO (by obtain⟨⟨u,v,hu,d3,c5⟩,w⟩:=ape;rw[dI (cn (le5 G) w),c4 c8 (aa ar u) hu,c4 g (aa t v) d3,lf R (af3 rv c8),ia Z (af3 d4 g)];exact a x y u v ⟨S,b6⟩ R Z c5)];rw[bgd];exact beY
universe z
universe GA
namespace GA
open PySem PySem.Spec PyProof.Rows L2
section z
variable{X:Cx}{e b9:Expr}{d6:TA}{p f6 pos d:Pos}
theorem ayj{n m k:Nat}(h:m=n+2)(c3:k<2):n+k<m:=ag
theorem aX2{n m a:Nat}(h:m=n+2)(l:a<n):a<m:=bn l h.g
theorem ayk{n m:Nat}(h:m=n+2):n<=m:=ag
theorem aX3(b0:fQ)(k:amG)(l:amP)(d8:aHk)(c4:aHr)(b3:QI)(c0:Rv)(i:bdS)(A:Ze):FQ X.K:=by rw[fx];refine N9 (FU I k l (bI:aJ6) (ag' ?_ i A) ay ay);rw[i];rw[qM a2t rfl,JO,w O ex b2 q d2,lW];cases r1 with|cons J C=>rw[nU,hM,be5];have F:=e9.lt;rw[qw ajM (aBw ?_)];have W:=aXT (prog:=eA) (w:=X.w) (A:=a4_) iv (base:=Vo) (e:=fI+1) (it:=fI) (l:=a) (a2s _) (gC (vZ F)) (gC F) (ayj G ay) (ayj (k:=0) G ay) (aX2 G F) eT;have a7:vY=bx:=by{simp[CG]};rw[a7]at W;rw[dj aXO aXP eO (v (.inl (ai _ a0)) L (zn ajM)),a3 (BF O) (by refine beN;rw[iS (ft z),Bg,db m rfl,aoT,az]) (ayk G) eO (by obtain⟨⟨t,v,d3,c5⟩,w⟩:=ape;rw[dI (cn (ayk G) w),ca g (aa ar v),ia Z (af3 rv g)];exact a (.int (cd j)) y (eZ j) v (bd b6) (dx t) Z c5),L bgd beY]
theorem aX4{P:Program}{w:World}{k:Key}{v:Value}(h:z6 v):gP (kV k) v:=by cases k with|inl n=>{rw[ep (aA0 h)];exact dx t}|inr x=>rw[ep (a0P h)];exact dx t
theorem aX5{F:gs}{vs:amW}(J:tQ)(j:Nat):(F[j]?.map fM)=vs[j]?.map fM:=by induction J generalizing j with|nil=>{rfl}| @cons a b l m h t d6=>cases j with|zero=>{simp[*]}|succ j=>simpa using d6 j
theorem aX6{P:au Nat V}{O:af}{b1:aM}(l:bx=ly)(h:∀(j:Nat)x u,aa O x->aa b1 u->pK):nL:=by induction O generalizing b1 with|nil=>{rw[L (NO l.symm) .nil]}|cons x O i=>cases b1 with|nil=>{exact iT (a4' _ l)}|cons u b1=>rw[K7 l]
inductive ayl(vs:af)(H:Hp)(Q:VK):Prop|mk:∀(d:Addr)(F:gs),A [ny] (bh d pW) (ad l wY (Q cB (ap l a8B))) (ayl vs H Q)
theorem aX7(b0:fQ):Bu X Aa ayl:=by rw[Zq,Q d F hd q h];rw[Vr J];rw[X b2 ws i m (eo d _ hd)];obtain⟨e1,c2⟩:=m.dictAt;have i0:=Mn i;refine PySem.W.kdl_call (PySem.W.kdl_dict (knd:=aJj) (kvs:=ws) (ep:=e1) b2) iv c2 ah (fun h' D c C c3 a7 a=>m gk (ap aO a8B) (CQ c3 a_ (a ah c.toList C (aX6 (P:=As) (by have:=a.1;simp;exact ahS bG ER) (fun j x u S hu=>?_)) eO)) (q _ pQ));obtain⟨k,y,b6,b⟩:=a.2 j u ah;rw[iR (aX5 i j)];rw[b6]at c1;rw[gv S];cases c9:F[j]? with|none=>{simp_all}|some w=>rw[c9]at S c1;have b4:kV w.1=x:=by{simp at*;lia-abstractProof};have b9:w.1=k:=by{simp_all};rw[<-b4,b9];exact aX4 b
universe z
section z
variable{X:Cx}
inductive af4(K:Fg)(x:V)(y:V)(H:Hp)(Q:VK):Prop|mk:∀p a b c5 c7 dx,b y fO (nc [bc,cV]) AF (cs x dx) (l (cs bc c5) (cs cV c7) (iD dx) (iD c5) (iD c7) (dB (jv c5 dx||jv c7 dx)) (af4 K x y H Q))
theorem aX8(hu:zl+128<gD):be .In (af4 X.K):=by rw[xo];obtain⟨p,a,b,c5,c7,dx,rfl,e0,ne,S,a3,a9,c,a4,b5,q⟩:=h;cases Z;rw[a9 J d5 IV,ft m (MT I dx x v S R),fw r1 (MT I c5 _ bc a3 rfl),fY r2 (MT I c7 _ cV a9 rfl)];have d2:ar=[bc,cV]:=by{cases J with|cons e7 i8=>cases i8 with|cons f5 d6=>cases d6;cases e7;cases f5;rfl};subst d2;refine a1W (J (v z bc (jv c5 dx) (jv c7 dx))) d5 aF0 ZR;{have room:∀{d d':PyData},iD d->X.A.in1.units+min d.depth d'.depth<gD:=fun{d d'}hd=>SeqAt.room_of_shaped hd fk;rw[db (ax hw) rfl,Z cN (dp c5 r1 a4 a4),Z (ff (ne (bt (a4R z)))) (dp c7 r2 b5 b5)]};rw[EL]
universe z
universe GA
namespace GA
open PySem PySem.Spec PyProof.Rows L2 _root_.GM
section z
variable{prog:Program}{w:World}{A:Around}{E:aU}{s:Shared}
theorem aX9{d:Addr}(hd:lb d):MeetsIn cM w (Builtin.«dict.__len__» (d_ [ny])) (fun _ R s=>∃o a7 e1,gG d/\gB=Pn/\eS (.int ck dE) OU):= .of_wp (fun A R s⟨o,a7,e1,d0,a,h⟩=>by rw[ta (dictSize d)];delta dictSize;rw[fH (wpAny_dictEntries d0 a fN),C (wpAny_pendingCount_other hd (a4T ?_)),L Hy h])
theorem aX_{d:Addr}{o:Obj}{a7:fq Vx}{e1:Nat}{Q:aU}(hd:lb d)(d0:gG d)(Z:a8A)(a:gB=Pn)(a9:v ck<2^63)(h:Q a7g (oI (dE+1+1))):ie (a5b (d_ [ny])) (fun fin c1=>z J (fin= .done (.ret J)) (Q J c1)):=by delta a5b;refine bF (m:=oneArg "len" _) (cg (bF (m:=callSpecial? ny a7a) (cd "__len__" Z a5a (call_meetsIn a5a Z F.entry_dict_len (F.args_dict_len_1 _) (aX9 hd) (a o a7 e1 d0 (as a))))));rw[C (vT (fa (zO ?_))),aO fk,L (bj (fY (Kn z a9))) (bF (a4Z (pt h)))]
theorem aX'(m:Nat):(v m !=0)=m7 m:=bz
theorem aYa{d:Addr}{o:Obj}{a7:fq Vx}{e1:Nat}{Q:nz}(hd:lb d)(d0:gG d)(Z:a8A)(a:gB=Pn)(a9:v ck<2^63)(h:Q (m7 ck) (oI (dE+1+1))):bl (aBj ny):=by have R:(v ck !=0)=m7 ck:=aX' _;have O:ie (runValue (.builtin "len" (d_ [ny]))) baA:=by{refine aEb (N5 entry_len ?_);rw[a5c plain_len _];exact l7 (aX_ (Q:=baA) hd d0 Z a a9 (bd h)) (fun fin c1 h'=>by obtain⟨J,rfl,e0⟩:=h';exact e0)};delta aBj;(first|rw[C beO]|rw[C (fa beO)]);(first|rw[C beP]|rw[C (fa beP)]);first|exact bF bf9|exact bF (fa bf9)
universe z
section z
variable{X:Cx}{a:Expr}{d6:TE}
theorem aYb:∀{F:ud},(∀k,Fw=ae)->F=[]|[],_=>rfl|x::J,h=>by have:=h x.1;unfold vA at this;rw[am oR,ui]
theorem aYc{g:Program}{w:World}(b3:fU)(a0:apl)(C:Ro)(hw:Qm):CL (∃d f n,x=ny/\oG g w L d f n/\∀b:cb,(b=ai↔∀k,f k=ae)->Q b L):=by rw[nU];cases hw;rw[fx];refine aBb (ks rL) (a0 _);rw[JN];obtain⟨d,f,n,rfl,D,q⟩:=d2;cases r1;obtain⟨F,a3,a9,e2,e5,z,hd,o,a7,e1,g7,g8,a5,W,g6⟩:=afY r D;have e8:ck=hY:=by{rw[ik W,oT mB]};rw[Bm];refine aYa hd g7 (aXy r D) a5 (by rw[e8];lia-abstractProof) (v a8 (r.tok _) (q _ ?_));rw[e8];constructor;{intro e k;have:F=[]:=ah;rw[<-e5 k,this];rfl};{intro e;have:F=[]:=aYb (cj (t e5 (e k)));rw[nY];rfl}
universe z
section z
variable{prog:Program}{w:World}{A:Around}{R:Qb}{I:Addr}{a8 d:bg}{n:Nat}{P:au Nat cR}{St:QH}
noncomputable abbrev dfl:Jd:=[(a7M,.none)]
theorem aYd(W:bhP)(bt:aHK)(p:bhn)(r:Addr)(g:r∉a8):∀(k j:Nat)(s:Shared)(i:Value)(c:Nat),b (n-(j+1)) k (j+1<=n) (iV (j+1)) (P (Ip bt j) i) (c5 r (hf #[i,i] c)->(∀v h' D,ba5->k7 d ha->eS v nr)->bfN):=by revert W p g;revert prog w A R I a8 d n P St bt r;refine@mi _ _ _ _ _ _ _ _ _ _ _ _ _ _ ?_;generalize pY=prog,pZ=w,p_=A,qa=R,qb=I,qc=a8,qd=d,qe=n,qh=P,qi=St,ql=bt,qm=r;intro W p g;have B:=a_K;rw[aMB];intro k;induction k with|zero=>{rw[bid];have k8:j+1=n:=by{exact mP (cU b8) (cf (aS n (j+1)) WS)};rw[lJ aEE,hX N_,aIR,C (ajN (ajA s _ _ (k8▸z) (fun h' D Y=>?_))),kB (Y r _ B b2) (bF (zO (cg (hR i _ D (t (mP (Nat.sub_le_of_le_add (Nat.le_of_sub_eq_zero c3)) (Vw b8)) y) (wg aKr)))))]}|succ k d6=>rw[bid,aO Z (j+1) n (cf (aR b8) Ie),lJ aEE,hX N_,aIR,pi (j+1) Z];have H:=Y r _ B b2;rw[Is (tryCatch (bjV [v,v] (a5d .Lt v i>>=_)) _),C (ajN (vT (bF (p (j+1) (Ip bt j) v i _ _ _ C y (bF (vT (vQ (bF (zO fN)))))))))];cases U:bt (j+1) (Ip bt j)with|true=>{rw[cN];rw[kB H (bF (zO ?_))];rw[m];rw[x v _ bbG (by rw[i6 Ip U];exact C) aKx bfY,bgP,l (hR t l q u (B8 aKr))]}|false=>rw[ux,C (zO ?_)];rw[m];rw[x i c T (by simp only[Ip,U,CU,iR];exact y) H (fun t l q u x=>hR t l q u (B8 aF'))]
theorem aYe(W:bhP)(bt:aHK)(p:bhn)(r:Addr)(g:r∉a8){s:Shared}{c:Nat}(z:iV 0)(b2:c5 r (hf #[] c))(b1:n=0->j h' D (k7 d ha) (eS .none nr))(hR:0<n->∀v h' D,ba5->k7 d ha->eS v nr):bfN:=by rw[aMB,lJ aEE,hX N_,aIR];by_cases d1:0<n;{rw[pi 0 d1];have H:=Y r _ a_K b2;rw[Is (updateSeq r (au #[v,v])),kB H ?_];rw[m];rw[iN N_ (aYd W bt p r g _ 0 _ v _ rfl d1 bbG C aKx bfY),bgP,l (hR d1 t l q u (B8 aKr))]};{rw[cr f5 n 0,C (ajN (ajA s _ _ I5 (fun h' D Y=>bF (W3 (cg (b1 f5 h' D (wg aF')))))))]}
universe z
section z
variable{prog:Program}{w:World}{A:Around}{E:aU}{s:Shared}
theorem aYf(a v:Value):W0 "min" ⟨[a],[(a7M,v)]⟩:=by delta W0;kernel_rfl
theorem aYg{l:Addr}{O:fq (Int×Tok)}{Q:aU}(c7:od)(a5:CS l (Oa O))(b1:ip=0->bbr)(a3:0<ip->∀v h' D,ap (Oa O) (Ip (oz (bT (ajO O i) (ajO O j))) (ip-1)) v->(OV)->Q v nr):bcI:=by revert c7 a5 b1 a3;revert prog w A E s l O Q;refine Kk;generalize aG=prog,aA=w,aF=A,aE=E,aD=s,aB=l,aH=O,aI=Q;intro c7 a5 b1 a3;rw[aMB];have e8:(Oa O).size=ip:=by{simp[Oa]};refine kmb_tree F.kind_min F.plain_min F.entry_min (aYf _ _) ?_;rw[C (WZ (dO (Builtin.Builtins.bindParams "min" ["key","default"] 0 ⟨[],dfl⟩) (eU [ae,aa .none])) (bF (fa (iter_intList a5 (fun g e st h a=>?_))))),bY,C (MX ?_)];rw[m];have W:=aBN (prog:=cM) (w:=w) (A:=kz) c7 _ l a (Oa O);have a7:∀{h':Heap},(f b o (b∉[aO]) (b≠fI aKl) (iE ((aKl).push (jo #[]))) ha)->OV:=fun{h'}c3 b o e=>by{have lt:=hc;refine c3 b o (fun c4=>?_) pz (bT xh);rw[az];{simp_all;lia}};rw[iN N_ (aYe W _ (CmpOf.ints_lt (ajO O) (h2 a5e)) _ (fun c4=>jr _ (h _ c4)) (aEF _ _ _ st (yo xh)) gI (fun z h' D c3=>?_) (fun z v h' D C c3=>?_)),l (b1 ah h' D (a7 c3))];{refine a3 ah v h' D ?_ (a7 c3);rw[<-e8];exact C}
theorem aYh{l:Addr}{ar:aM}{ns:aT}{Q:aU}(c7:od)(a5:CS l eT)(hi:sT ar ns)(b1:ns=[]->bbr)(h:∀h' D d5 t',i (OV) (d5∈ns) (ad a (a∈ns) (d5<=a)) (Q (.int d5 t') nr)):bcI:=by rw[ck O hi.allInts.items];have d1:numsOf (py (Oa O))=ns:=by{rw[xE];exact hi.numsOf};rw[nums_intItems]at d1;subst d1;rw[e]at a5;refine aYg c7 a5 (fun z h' D c3=>b1 ah h' D c3) (fun G v h' D d3 c3=>?_);rw[ep (a5e d3),kx (argBest_lt (ajO O) (ip-1))];refine h h' D _ t c3 ?_ (fun a b3=>?_);rw[Z numAt_eq (PySem.getD_mem bz)];{rw[bC j b8 (mem_getD b3)];rw[bA,Va]at b8;rw[<-numAt_eq];exact a9 j (bn b8 (aS ip 1))}
universe z
section z
variable{X:Cx}{e:Expr}{d6:TA}{p pos kp q:Pos}{B:Nat}
def aYi(K:Fg)(d6:TA):TE:=k8 (fun vs a8=>∃(a:Addr)(ns:aT),vs=uf/\fW K a8 a xF/\(ns=[]->Q .bC a8)/\o m (m∈ns) (ad y (y∈ns) (m<=y)) (Q (.int m) a8))
theorem aYj(b0:fQ)(d8:Gl X "min")(c4:f9 "min")(b3:QI)(c0:Rv):Ky X.K:=by rw[fx];refine N9 (FU I d8 c4 (bI:a'I) (callWith_kw (bD akR (fun b1 a4⟨vs,a8,r,r1,a,ns,ex,e0,N,d2⟩=>?_)) (dc c0) (dc c0) rfl rfl) ay ay);rw[lW];rw[Vr r1];refine kws_cons (wpAny_Constant_none (kws_nil ?_));rw[iO a5 (CI e0)];exact aYh (r.ok.hd b0) ahh rv.ints (fun z h' D c3=>m .bC a8 (agZ c3) (N z)) (fun h' D m t' c3 a3 a9=>a (.int m) a8 (agZ c3) ei (d2 m a3 a9))
universe z
universe GA
namespace PySem
section z
variable{prog:Program}{w:World}{A:Around}{E:aU}{s:Shared}
theorem aYk{z TI d TO:Addr}{b:Bool}{Q:nz}(c9:anT)(b1:amt)(g:Y2):bl (W4 pE):=by delta W4;rw[r3 (vV d),a7s];rw[iQ];have al:ie (a5f d) (fun o c1=>o=ae/\c1=s):=vy (bB:amt/\s=s);rw[C (l7 al (fun o c1 P=>?_)),eA b4 P,Jm];subst b9;simp only[Option.isNone_none,mJ];exact cg g
abbrev af6(h:Heap)(z TI TO:Addr)(v:Value)(b:Bool):Prop:=Ij v
theorem aYl{z TI d TO c2 N a7 d5:Addr}{fl:Bool}{c0 f7:Nat}{O d7:dU}{x y a b:Value}{Q:xT}(D:aaK)(c9:fs bh fl)(b1:amt)(f:ou bh)(n:a9C)(a3:apr)(a9:apq)(m:aop)(B:aoq)(S:nV c0)(b6:K d7 f7 y)(g:∀h',c (aya h' z TI aO ai TO) (tt h') bdH bdG (q_ h' aO x y->(ap2)->a8j)):h0 pE:=by revert D c9 b1 f n a3 a9 m B S b6 g;revert prog w A E s z TI d TO c2 N a7 d5 fl c0 f7 O d7 x y a b Q;refine@mi _ _ _ _ _ _ _ _ _ _ _ _ _ _ ?_;generalize pY=prog,pZ=w,p_=A,qa=E,qb=s,qc=z,qd=TI,qe=d,qh=TO,qi=c2,ql=N,qm=a7;refine@aqx _ _ _ _ _ _ _ _ _ _ _ _ _ ?_;generalize(hk).1=d5,aV hk=fl,bU hk=c0,cD hk=f7,bX hk=O,ct hk=d7,du hk=x,d5 hk=y,fp hk=a,k2 hk=b,a8D=Q;intro D c9 b1 f n a3 a9 m B S b6 g;rw[Z7,EN,apT,nW pE,ane,apA,bcv];rw[cN];rw[C bgu,bf6,ma,beI,fH (aEL ?_),C (Il aH3 aH5 S (fun g8 f6 b5=>fN))];have d8:=bdP;rw[C (gc d8 (bF (aEK d8 (fun a5 j c8=>?_))))];replace j:q_ a5 TO x b:=j;rw[C (zO a74),C (Il bdU bdV b6 (fun W e2 d9=>fN)),eM (ajP _ _ D.TOi2 j),C (gc I (bF (aEK I (fun g6 J f9=>?_))))];replace J:tt g6:=J;rw[C (zO (cg (fa (gc J (bF (aEz ?_))))))];have e8:aEJ=aO:=by{rw[f9.1,d9.1,c8.1,b5.1,a4.1]};have v:=Ob _ _ a5i (ajP _ _ aEy a'N);have k:=ft v;rw[ma];delta Builtin.SmallTypes.ownedTupleHandOut;rw[C (DL (bT v) pS (fun l p R=>?_))];replace p:af6 l z TI TO (vV aEJ) fl:=p;refine DL p AA (fun i h d6=>?_);replace h:af6 i z TI TO (vV aEJ) ai:=h;have G:l c o (c≠z) (be (g6.get? c)) (be (i.get? c)):=fun c o e5 e=>gw e5 e5 xh;rw[ci (gw (vU k) (vU k) gI)];rw[e8]at h q;rw[jy (dl fN)];rw[e8];exact g i h (G _ _ aEI J) ((b7 (b7 (f6.extBut Iq a5h) ajP D.i12) Ob a5h).at (eB (G _ o aEH e))) ((e2.extBut Ob a5g).at (eB (G _ o aEG e))) q (Do (G c o e5 ((Do (Ob _ _ e6 (ajP _ _ i0 (G9 e)))) c o e5 e6 c1 i0 e)))
theorem aYm{z TI d TO c2 N a7 d5:Addr}{fl:Bool}{c0 f7:Nat}{O d7:dU}{a b:Value}{Q:xT}(c7:od)(D:aaK)(c9:fs bh fl)(b1:amt)(f:ou bh)(n:a9C)(a3:apr)(a9:apq)(m:aop)(B:aoq)(J:bbq)(g:u4 (ap2)):h0 pE:=by revert c7 D c9 b1 f n a3 a9 m B J g;revert prog w A E s z TI d TO c2 N a7 d5 fl c0 f7 O d7 a b Q;refine@mi _ _ _ _ _ _ _ _ _ _ _ _ _ _ ?_;generalize pY=prog,pZ=w,p_=A,qa=E,qb=s,qc=z,qd=TI,qe=d,qh=TO,qi=c2,ql=N,qm=a7;refine@aE9 _ _ _ _ _ _ _ _ _ _ _ ?_;generalize EX=d5,EZ=fl,E5=c0,E6=f7,E7=O,E8=d7,Fb=a,Fe=b,Ft=Q;intro c7 D c9 b1 f n a3 a9 m B J g;rw[Z7,EN,apT,nW pE,ane,apA,bcv];rw[cN];rw[C bgu,bf6,ma,beI,fH (aEL ?_)];cases S:O[c0]? with|none=>{rw[C (W6 c7 aH3 aH5 S (fun g8 e b5 a0=>?_)),be3];have h6:=b5 _ _ aEx z1;refine DL h6 pS (fun a5 _ c8=>bF (fc (Iq _ _ (ab ah) i) a5 (fun c o e5 _ c1 _ x=>Iq _ _ e5 (b5 _ _ c1 (Ir _ _ e5 x)))))}|some x=>rw[C (Il aH3 aH5 S (fun g8 f6 b5=>fN))];have d8:=bdP;rw[C (gc d8 (bF (aEK d8 (fun a5 j c8=>bF (zO a74))))),C (W6 c7 bdU bdV bz (fun W e d9 a0=>?_)),be3];have l9:=d9 _ _ aEy a'N;refine DL l9 pS (fun g6 _ f9=>bF (fc (Ob _ _ (ab bz) i) g6 (fun c o e5 e6 c1 i0 x=>Ob _ _ e5 (d9 _ _ i0 (G9 x)))))
universe z
universe PySem
namespace GA
open PySem PySem.Spec PyProof.Rows L2
def ZSt(z TI TO c2 N a b:Addr)(i:Nat)(h:Heap):Prop:=z (bgv\/∃d fl,fs h fl) (ou h) (∃x y,tt h) (CH c2 a i) (CH N b i)
theorem aYn{P:Program}{w:World}{K:Fg}{d1:Str}{T:Pos}{a b z TI TO c2 N:Addr}(D:a5j z TI TO c2 N a b):ahv P w K aJp (Itz K a b) apU z (ZSt z TI TO c2 N a b)where mem:=bK;obj:=fun i h st c b0=>by{obtain⟨c9,f,⟨x,y,n⟩,⟨g4,b4,_,c5⟩,⟨g8,b9,_,c7⟩⟩:=st;rw[Kv b0];{rw[q];rw[rb c9,aZ,l (av c9 (fun v q=>nomatch q))]};rw[aZ,aZ,aZ,az]};keep:=o6 (by rw[nt x y,j ?_ (k TI og _ f) (v x y (k TO Y4 _ n)) (a3.at (ly (k c2 aQ o q))) (a9.at (ly (k N aQ o q))),rb c9,cK,co (v d fl (k z bK _ c9))]);item:=by{intro X C hw g b0 i au s M H E I W st d8;rw[uN,nt R k3];obtain⟨O,d7,x,y,b2,c6,S,b6⟩:=d8;rw[iO p (sQ b2),j9 d4 (sQ c6),ZS];obtain⟨a4,l9,a8⟩:=d4.get b6;have fin:∀h':iL,c (∃d fl,fs h' fl) (∃x y,tt h') (N7 c2 a (i+1)) (N7 N b (i+1)) (q_ h' aO u a4->(ap2)->z v (aa (dk aO)=aa v) (a2 (MG aJp pE v) (fun _ b5=>∃x L,z (L2.Inv X au M L b5) tU (rZ (Itz X.K a b)) (ZSt z TI TO c2 N a b (i+1) agX) (∀c∈apU,L c=ae)) E tD)):=by{intro h' d3 e r V Z c3;rw[ca rfl];delta MG;rw[nZ];have a6:cA (ad aO ZN) aO ZN:=a aIH [u,a4] (hR m a8) _ Z rfl _ rfl;rw[Q gk _ (I.ar3 (t':=dE) (ch:=apU) bhZ W a_ a6) (v (m _ x y (bj pQ (fd (t (I.ac5 a5 b2) S)) (fd (t (I.ac5 a5 c6) b6)))) (a (.inr d3) (c3 _ _ D.TIz D.TITO D.TIi1 D.TIi2 f) e r V) (fun c Y=>?_)),L (bW (gC (by rw[Kv Y,Z q (by rcases c9 with c9|⟨_,_,c9⟩<;>exact ft c9),Z q (ft f),Z q (ft n),gx b4 a3 b4,gx b9 a9 b9]))) (W c Y).1]};rw[c4 c8 (A eT u) hu,c4 B (A Vp a4) l9,rb c9,l (a46 D c9 f n a3 a9 qG Iu c8 B (fun h' d3 e r V Z G c3=>np e c3))];{cases f5:Hd d with|some j=>{exact ayb c9 f5 f D a3 a9 qG Iu c8 B (fun h' d3 r V Z c3=>np (c3 _ _ aEI D.TOi1 D.TOi2 n) bhE)}|none=>exact aYl D c9 f5 f n a3 a9 qG Iu c8 B (fun h' d3 e r V Z c3=>np e c3)}};done:=by{intro X C hw g b0 i au s M H E I W st d8;rw[uN,nt R k3,Z d7 b2 c6 J d8,iO p (sQ b2),j9 d4 (sQ c6)];have a7:=CG;rw[it d4.length,ca a0 (eT[i]?=ae\/Vp[i]?=ae)];have fin:∀h':iL,(ap2)->(ae:ps)=ae/\L2.Inv X au M H tD:=fun h' c3=>bd (I.aP_ (t':=dE) (ch:=apU) bhZ W);rw[rb c9,l (a45 iv D c9 f n a3 a9 qG Iu a0 fin)];{cases f5:Hd d with|some j=>{exact ayc iv c9 f5 f D a3 a9 qG Iu a0 (fun h' c3=>fin h' bhE)}|none=>exact aYm iv D c9 f5 f n a3 a9 qG Iu a0 fin}};self:=vj (by rw[rb st.1,l (aED c9 h)];{rw[Z7];refine W2 Z ajI (qK ajI Z a44 ?_ (a42 _));exact bW "zip" Z a43 h})
theorem aYo{d:PySem.W.Frag}{X:Cx}{e b9:Expr}{d6:TA}{p pos T:Pos}{d1:Str}(d8:aHl)(c4:aHs)(b3:aHD)(c0:aKe)(b8:f_ pos [b9])(g:AX):PI X aJp (er "zip" XH) (aQh d d6):=by rw[rB,JC];refine jz ar_ b8;rw[JO,bh_,lW];cases r1 with|cons J C=>cases C with|cons B C=>rw[nU,hM];cases B;rw[iO e9 (CI b2),j9 d4 (CI c6)];refine qD Iu (aED c9 ?_);rw[c (fI+4) [fI+4,fI+2,fI+3,fI,fI+1] _ _ a8 (sl c3) (aYn (a49 fI a b e9.lt f6.lt)) (v (a (.inl c9) f (av _ n) a3 a9) (fun c Y=>?_) q)];have c1:fI<=c:=by{rw[el]};exact a9R
universe GA
namespace GA
open PySem PySem.Spec PyProof.Rows L2
theorem aYp{k:Nat}{A:Around}(J:JL):kp 128:=aIK
section z
variable{X:Cx}{K:Fg}{w:World}{e b9:Expr}{d6:TA}{p f6 pos d kp q:Pos}{B:Nat}
theorem aYq(g:fB)(b0:fQ)(k:amG)(l:amP)(d8:aHl)(c4:aHs)(b3:aHD)(c0:aKe)(b8:f_ d [b9])(i:bdT)(A:Ze):FR K:=g▸aX1 b0 k l d8 c4 b3 c0 b8 i A
theorem aYr(g:fB)(b0:fQ)(k:amG)(l:amP)(d8:aHk)(c4:aHr)(b3:QI)(c0:Rv)(i:bdS)(A:Ze):FQ K:=g▸aX3 b0 k l d8 c4 b3 c0 i A
theorem aYs(g:fB)(b0:fQ)(d8:Gl X "min")(c4:f9 "min")(b3:QI)(c0:Rv):Ky K:=g▸aYj b0 d8 c4 b3 c0
theorem aYt(g:fB)(hw:X.w=w)(b0:fQ):fL "sorted" (LU K w):=g▸hw▸aXn b0
theorem aYu(g:fB)(hw:X.w=w)(b0:fQ)(hu:uJ):Bu X Jo (Uu K w):=g▸hw▸aXl b0 hu
theorem aYv(g:fB)(hu:zl+128<gD):be .In (af4 K):=g▸aX8 hu
universe z
theorem af7(B:ao)(par:gn):(gy akU (kV x.1))=lS:=f5 yT jw
universe GA
namespace GM
variable{a5:lZ}{B:ao}{par:gn}{E f:cC}{t h:Nat}
noncomputable def Uy(par:gn)(B:ao)(E:cC)(h w:Nat):Nat:=if dK w h then E w else dv w
structure LX(a5:lZ)(B:ao)(par:gn)(E:cC)(t:Nat):Prop where
 un:lq (nk<t->E v=nk)
 a:x8 (E v<=nk)
 b:x8 (∀w∈a5 v,E v<=ij E v)
 d:x8 (E v=nk\/gw (a5 v) (E v=ij E v))
theorem aYw(h:lq (E v=nk)):y8 eB:=d (fun v d3 _=>h v d3) (zT ag) (zT fk) (zT eO)
theorem LX.low(Z:y8 0):BO a5 B par E where a:=ls (Z.a v d3 cS);b:=bg5;c:=bg5;d:=ls (by rcases Z.d v d3 cS with z|⟨w,hw,e⟩;rw[l AM];{delta Uy at e;grind-abstractProof})
theorem LX.step(T:ji)(Z:y8 (t+1))(c7:h∈B)(d6:dv h=t)(o:E v (v≠h) (f v=E v))(b4:f h<=t)(b9:∀w∈a5 h,f h<=ij E h)(e7:f h=t\/gw (a5 h) (f h=ij E h)):LX a5 B par f t:=by have vv:E v (t<=nk) (∀w,ij f v=ij E v):=fun v d3 w=>by{delta Uy;by_cases c2:aHn;{rw[aK c2,aK c2];refine o w pz;have:=a2 (ah8 c2);rw[am z];exact yn d3 this d6.l};simp[*]};have ne:lq (t<=nk->v≠h->t+1<=nk):=fun v d3 z n=>by{rw[al (ik t nk),l q,cE (V2 d3 c7 (gx (cf q d6.g) (cf d6.l z))) n]};rw[w aKI aKI (fun v d3 z w hw=>?_) aKI,Z (o v Qf) (Z.un v d3 I_)];{rw[T v h,aZ,Z (o v q) (Z.a v d3 aMc)]};{rw[vv v z w];rw[T v h,az,Z (o v q) (Z.b v d3 aMc w hw)]};{rw[T v h,aZ];{rw[o v q];rcases Z.d v d3 aMc with J|⟨w,hw,J⟩;rw[Fh];grind-abstractProof}}
universe GM
namespace GA
open PySem PySem.Spec PyProof.Rows L2
inductive ayn(K:Fg)(vs:af)(H:Hp)(Q:VK)(E:XK):Prop|mk:∀(l d:Addr)(Y:bg)(n:Nat)(a5:lZ)(B:ao)(par:gn),Gl (c aLj alO a'U (∀(t c0 le:Addr)(lo:cC)L,j bQ (L t=aa (f9 c0 le)) anM a8s beQ (Q nu L)) (ayn K vs H Q E))
theorem getD_some{l:ao}{x:Nat}(h:x<d_):K l x (l.getD x 0):=ag
theorem aYx{l:ao}{x y v:Nat}(h:QC):am (V3 x v) y 0=l.getD y 0:=cq
theorem aYy{l:ao}{x v:Nat}(h:x<d_):am (V3 x v) x 0=v:=ag
theorem aYz{l:ao}{n:Nat}(h:d_=n):l=d7 (ab (l.getD x 0)):=by apply NA;intro i;rw[cz];rw[cY (ik i n),aZ,aZ]
section z
theorem aYA:T.av4.Ok P w aj 1 (ayn K):=by refine T.av4.go aTA aL;generalize aG=e3,aA=A,aF=outer,aE=s,aD=H,aB=vs,aH=Q,aI=E;rw[aN,M ob,aX];generalize kQ=l,kR=d,kS=Y,kT=n,kU=a5,kX=B,k_=par;rintro rfl N hd d1 r lt al k;rw[apS];have f3:=qI;rw[bf8,K (X zP a'P (aS zP 3 4 4 zP) (a6 (t aw 5 zP 6 zP (d3 cI bb eu)) (bU 7 zP (uU bb)) (an (ar9 rfl T.reversed (dY aw)) 8 zP (mz (om (eC kf)) (sC 9 zP) (c7 (bU 10 zP (RY (dZ gM (Sx xr aq xw lO) kf) (bs ke xw) (bs bb xw))) (bm lq EU (bs ke kf) (d3 EU ke kf))))) (as bb ke))) d _ (ai hd (fun lo O=>?_))];rw[af7];rw[gO (ap lo lS) O,a b4 H lo lS lo lS,is (ap lo lS),bii,a7 l (di wO) (fun c0 c1=>d oy aoL sr a9 (au xl) c1 a'y),eX a x b3,bbx];have c3:=vk f6;rw[eT c3,bgF];rw[g9]at c3;rw[jW];have g8:=eN;have c5:=IQ;have h1:=gV c1;have h3:=fm b4 c1;rw[bA lo c5 (bv eB (fo (vl (E4 (ct ae ae ae ae)) bQ (aj lo lS) (∃R:ao,yQ (aj c0 (R.map vn)) (R.length=n) (aP j x (j<i->aa B x->K R x j))))) (a J9 g8 c5 _ b9 aBD a7p))];{rw[bho];exact as (vn B[i]) (av e) (p7 pI)};{rintro M L⟨_,s,e,_⟩;exact cd e aQ};{rintro i M L x d4 hi⟨⟨i1,j5,rfl⟩,s,e,R,c4,a3,g⟩⟨t,y,rfl,c6,rfl,b6⟩;rw[n2 (av e)];have d0:=pI;rw[dP B z d0];rw[cz,d0]at b6;cases b6;have a0:=lt z (bO d0);have k1:=em c6;have c7:=fm c4 c6;rw[b t _ rfl (cx ak) rfl c0 _ _ (a z rfl rfl (Y c7 c4) (yy a3.g) (bm _) (fG (il cm) h1) (ac (bW h3) (bW k1) e) (d (R.set z i) aGp (t MW a3) (fun j x b8 S=>?_))),iL z];{rw[e_];have:j=i:=F5 W8 S d0;rw[gm];exact Mu (bU a0 a3.g)};{rw[a7h];rw[N q2 j i];{lia};rw[l (g j x (iM q2) S)]}};rintro M d4⟨⟨i1,j5,rfl⟩,c8,e7,R,U,a3,g⟩;have h5:R=d7 dv:=by{apply NA;intro x;rw[cz];rw[cY (ik x n)];{rw[wB z];rw[bJ (al x z)];exact g _ x (wt m) (WQ ⟨wt m,ah9 (wt m)⟩)};rw[aZ]};subst h5;clear g;rw[aW c0 (cc U) a_n];have d9:=wN (ac Em j3);rw[z g5 (N d4 le Em lo lS) (gD e7 j3) e7,z e0 (N d4 le Em c0 Em) (gD U j3) U,a e9 d4 le Em le Em];generalize U d4 le Em=e4 at d9 g5 e0 e9;have f5:=WG j3;have a7:=fm e7 j3;have b1:=fm U j3;clear c8 e7 U j3;rw[bA lo g5 (bv eB (fo (GB (Lx (fun i9 e1 j9=>M=ct Ar i9 e1 j9)) bQ (aj lo lS) anM (∃E:ao,yQ (aj le (E.map vn)) (VQ=n) (GM.LX a5 B par (ab (aEN x 0)) (eB-i))))) (a bdt d9 g5 e0 _ e9 bB ?_))];{refine GM.aYw an6;have:=lt v d3;rw[Wu,cz,wB this];rfl};{rw[bho];rw[bA];rw[aP hi _ (vn B[eB-1-i]) (av e)];rw[cz,da eO];rfl};{rintro M L _;show bd lS eB;rw[L bA a_]};{rintro i M L x g6 hi⟨⟨i9,e1,j9,rfl⟩,s,e,c4,E,F,b2,D⟩⟨rfl,b6⟩;rw[n2 (av e)];rw[bA]at b6;have d0:K B (eB-1-i) (B[eB-1-i]'(fu (s6 eB) (aC eB 1 hi))):=da eO;generalize B[eB-1-i]'(eO)=z at d0;rw[cz,d0]at b6;cases b6;have C:=bO d0;have a0:=lt z C;have c9:dv z=eB-i_:=by{have:=F5 W8 (WQ ⟨wt C,ah9 (wt C)⟩) d0;rw[jY]};have W:eB-i=eB-i_+1:=by{exact mP (L eB i hi eB (i+1)) (L eB (i+1) hi eB i)};rw[W]at D;rw[ak d2 (d7 a5) z (a5 z) a0];have⟨c,b0,X,nc⟩:=N.get d2;rw[r l (gR c) (br wO) (nl b0) (a1 c rfl (aW (br X)))];have g0:=D.un z C (x (Vf c9.l));refine aJ (bh (a5 z)) (fun j M L=>GB (vm (fun e1 j9=>M=ct Ar (bE z) e1 j9)) bQ (aj lo lS) anM (∃f:ao,Aa6 (aj le (ajQ vn)) (Dl=n) (E v (v≠z) (W7 v 0=aEN v 0)) (Eu<=dv z) (∀w∈an (a5 z) j,Eu<=ve w) (Eu=dv z\/gw (a5 z) (Eu=ve w)))) (a (bp e1 j9) s e c4 E F b2 lO (qE g0) (fun w hw=>by simp at hw) (.inl g0)) (fun j M L _ z=>av (z.2 _ _ X));{rintro j x M L S⟨⟨e1,j9,rfl⟩,s,e,c4,f,F,u,o,h2,e2,i8⟩;rw[gv S,a2 y b6 S,eM (r.Ld z C y (bO b6))];have G:=lt y I;rw[db (an (a5 z) (j+1)) (eA (an (a5 z) j)) b6];have p:=bv hd;have d5:jm L d (kV (hE y)) (aa aIB):=by{have:=w5 p;rw[bX GQ (aK I)];exact this};have ne:le≠lo/\le≠c0:=⟨a7.symm,b1.symm⟩;rw[aW d d5 (as (by delta Ci;rw[ll (par y)]))];have h6:ar aIB (vn z)=cv (dK y z):=by{delta Ci;cases c2:par y with|none=>{rfl}|some q=>simp only[dN,aiP];rw[iN];simp;rw[tY]};rw[h6];by_cases Z:dK y z;{rw[dH Z];rw[r le (vn (W7 y 0)) (av F) EA ?_];have f7:W7 y 0=ve y:=by{delta aEM;have h8:y≠z:=ai (by have:=a2 (r.ad_ Z);rw[am q];exact jr _ bG);rw[L (aK Z) (o y h8)]};generalize W7 y 0=b at f7;rw[bbs];{rw[wH (b<Eu),r le z F (yy u.g) ?_,bgz,qT (br e8.l (Bn e5) h2) (Gs (x (aQ2 e8 f7)))];rw[e8];rw[g9]at hw;rw[iF hw,cb (e2 w m) (ew (fH bG bG)),az]};rw[biI]};{rw[ea Z];rw[r c0 (vn (dv y)) (av c4) (sw G) ?_];have f7:dv y=ve y:=by{delta aEM;rw[aO Z]};generalize dv y=b at f7;rw[bbs];{rw[wH (b<Eu),r le z F (yy u.g) ?_,bgz,qT (br e8.l e6 h2) (Gs bM)];rw[e8];rw[g9]at hw;rw[iF hw,dV,az]};rw[biI]}};{rintro M L⟨⟨e1,j9,rfl⟩,s,e,c4,f,F,u,o,h2,e2,i8⟩;rw[c_ bA e2,e (as _ _ rfl) s e c4 f F u (D.step r C c9 o aGJ e2 (bl c9 i8))]}};rintro M g6⟨⟨i9,e1,j9,rfl⟩,f9,i2,g4,E,g7,b2,D⟩;rw[zv]at D;rw[v es (sT (k t c0 le _ _ (mW (b_ h7)) ak (Y (fm g4 h7) g4) (by rw[gD g7 h7,<-aYz b2];exact g7) D.low))]
universe z
theorem af8(O:af)(p:Nat):jl O (gH p) ae=G7 p:=by delta jl;rw[ai1,HT.ark];rw[eL (ik p bx)];{rw[qO (ew h),Dx aQ]};rw[aZ]
theorem yU(O:af)(p:Nat):jl O ae (gH p)=O.take p:=by delta jl;rw[ai1,HT.ark,List.drop_zero,ah0];rw[eL (ik p bx)];{simp};{simp}
theorem aYB{I:Type}{l:ba}(nd:l.Nodup)(h:1<d_):∃c d,c∈l/\d∈l/\c≠d:=by match l,nd,h with|c::d::J,nd,_=>rw[j c d bK og pz,rq];simp at nd
theorem of_two{I:Type}{l:ba}{c d:I}(b0:c∈l)(hd:d∈l)(ne:c≠d):1<d_:=by match l,b0,hd with|[x],b0,hd=>{simp at b0 hd;exact cy (b0.trans hd.symm) ne}|_::_::_,_,_=>exact tv
def aYC(B:ao)(par:gn)(lo:cC)(i:Nat):Prop:=bg8
inductive ayo(K:Fg)(vs:af)(H:Hp)(Q:VK)(E:XK):Prop|mk:∀(l d:Addr)(Y:bg)(n:Nat)(a5:lZ)(B:ao)(par:gn)(p:ur),Gl (j aLj alO a'U (ad lo beQ (nP (bE (p i) (aYC B par lo i)))) (t6 QM) (ayo K vs H Q E))
section z
theorem aYD:T.av5.Ok P w aj 2 (ayo K):=by refine T.av5.go aTB aL;generalize aG=e3,aA=A,aF=outer,aE=s,aD=H,aB=vs,aH=Q,aI=E;rw[aN,M aL,aX];generalize aG=l,aA=d,aF=Y,aE=n,aD=a5,aB=B,aH=par,aI=p;rintro rfl N hd d1 r lt al c2 k;rw[fV,bf8,b _ (X DN (b4 aYA aq) (bU 3 DN xA) (i 4 DN xA (bU 5 DN bE) (i 6 DN AQ (mz (om (x2 a'P)) (sC 7 DN) (c7 (bU 8 DN (Sx xr aq ke lO)) (rX (dZ gM kf bE) (fE (eQ 5 DN bE)) (fE (bm uW (bs bR ke) (bs bb kf) (dD eu kf)))))) (bo (D uV cI bE bE) (aYs (K:=K) rfl rfl bI T.min (dY eu)))))) l d Y n a5 B (a par rfl N hd d1 r lt al (fun t c0 le lo a8 a4 c6 d7 c1 r4=>?_))];have c2:=c2 lo r4;rw[bn t c6 (as t c6 dq ⟨cS,fun g b9=>?_⟩)];have b5:=eX (ac [] b9);have c5:upd a8 g al4 c0=_:=(co b9 d7);have c7:upd a8 g al4 le=_:=(co b9 c1);rw[a a0 a8 g [] g (ii ([]:ao))];have ne:=fm c1 b9;rw[bo (U a8 g []) c5 c7 a0,aW d (gM hd) (fun R O=>f R _ (av ak) (fun b2 a=>?_))];rw[af7]at a;rw[af7,a0 (jl lS (gH 1) ae) ak3 (af8 _ 1)];have c8:=fg apF;have d0:=(apF) _ _ c5;have d3:=(apF) _ _ c7;have d5:=(apF) _ _ a0;have a7:N (U b7 R lS) b2 ak3 b2 (bh (DM 1)):=by{rw[ak,Dg]};generalize U (U b7 R lS) b2 ak3=d4 at c8 d0 d3 d5 a7;rw[a7 b2 a7 (aJ (bh (DM 1)) (fo (Lx (fun(j3 i9:bZ V)(C:bL Nat)=>Aa8 (M=[tP,rr,ac t,OM,Ar,bE (up anm),ac g,j3,i9]) bQ (aj b2 (bh (DM 1))) anM a8s (aj g (C.map vn)) (C.length<=i) (∀u,u∈C↔∃c∈anm,Qg/\u≠0/\dv u<=lo c)))) (a ae ae [] rfl c8 a7 d0 d3 d5 a_ (fun u=>aQ)) (fun i M L _ e0=>by obtain⟨_,_,_,_,_,z,_,_,_,_,_⟩:=e0;exact av z))];{rintro i x M L S⟨j3,i9,C,rfl,s,a3,G,F,b,d6,f⟩;rw[gv S,a2 y b6 S,db (an (DM 1) (i+1)) (eA anm) b6,ca b3 (K B (i+1) y),eM (bO b3)];obtain⟨u,a9,e2,un,e4⟩:=r.vc y I (J (by rw[rq];exact cy (F5 W8 b3 (bl aEO r.head)) bM));have X:=bx b3;rw[aW d (by have:=w5 (bv hd);rw[bX GQ (aK I)];delta Ci at this;rw[am a9];exact this) gJ];rw[dN];rw[FH];{have z:u=0:=by{simp at z;omega};rw[rq,b _ _ rfl rfl (bE y) (bE 0) C ?_ (a s a3 G F b EI aHa),az,az]};{rw[eA z (u≠0) z,cr c9 (up (an (DM 1) (i+1))) (up anm),r le (vn (lo y)) (av F) (sw (lt y I)) (D c0 (dv u) (av G) (sw (lt u e2)) (fF (fun q=>?_) (fun q=>?_)))];{rw[n (dp b) g b (t bA (Kl d6 X d8 d1 fw)) (a (bE y) (bE u) (C++[u]) (dc c9) (fG s (gV b9)) (Y (J (by rw[z]at a;rw[gD a0 O,a0]at a;cases a)) a3) (Y (fm d7 b9) G) (Y ne F) (nN ak) (by simp;omega) aHa)];rw[hy,f v,g9];constructor;{rintro(⟨c,b0,J⟩|m);rw[l (v c (vO _ b0) J)];{rw[OT];subst m;exact a y aG6 a9 z (pg q)}};{rw[bfW,iF b0,dQ bfK,az]}};{rw[b (bE y) (bE u) C (dc c9) s a3 G F (v b EI aHa)];rw[f v,g9];constructor;{rintro⟨c,b0,J⟩;exact v c (vO _ b0) J};{rw[bfW,iF b0,l bfK];{rw[OT];subst m;rw[a9]at d2;cases d2;exact cy q3 (by simp at q;rw[xD])}}}}};rintro M L⟨j3,i9,C,rfl,s,a3,G,F,b,d6,f⟩;rw[c_ bA f];rw[bA,H0];rw[br b1 (K B 0 0) aEO r.head];have d9:=lt 0 r.zero;have b4:∀{c u},Qg->c∈DM 1:=fun{c u}D=>by{have:=r.ad_ D;rw[n3 et];cases j with|zero=>{simp_all}|succ j=>exact bO (i:=j) (ac Dn VJ b8)};have e1:1<up (DM 1)↔a7x:=by{constructor;{rw[fS];obtain⟨c,d,b0,hd,ne⟩:=aYB (ea (a5k (a4a _ _) W8) _) q;rw[Ng]at b0 hd;exact a c d (ax b0.2) (ax hd.2) ne};{rintro⟨c,d,b0,hd,ne⟩;exact of_two (U2 ⟨b4 b0,ax b0⟩) (U2 ⟨b4 hd,ax hd⟩) ne}};rw[FH];{rw[Je];rw[LL d9 (ae (c2 0 d9) (.inl (bd (e1.mp (by simp at z⊢;lia))))) (i4 Ao)];rfl};{rw[dv c3 (nP (bE (p i) (i∈C))) (by rw[c2 i hi,f i];constructor;{rintro(⟨_,q⟩|⟨o,c,D,q⟩);rw[l (cy q (ai (z (by have:=e1.mpr q;simp at this⊢;exact(mh this))))),l (a c (b4 D) D o q)]};{rintro⟨c,_,D,o,q⟩;exact bj o c D q}),y g (C.map a_N) (av (t jw b)) ⟨YZ,fun m c4 U=>?_⟩];{have e:C=[]:=by{simpa using e};rw[Je];rw[Uj (i4 (by cases q:p j with|false=>{rfl}|true=>have:=x (c3 j b8) q;rw[am e,nj]))];rfl};{rw[a3 f7 Z c4,eC D q (x (f f7) Z)];have W:=lt f7 (bU (r.ad_ D));rw[Je];rw[LL W (ae (c3 f7 W) Z) (i4 (by cases q:p j with|false=>{rfl}|true=>have:=U j (Ik (x (c3 j EG) q));rw[fT]))];rfl}}
universe z
theorem bjL{n:Int}{A B:Prop}(h:A):x7 (cp n):=bB
theorem aYE{p q:ur}{n:Nat}(h:nP (p i=q i)):QM=ch n q:=by cases e:ch n q with|some m=>{rw[ak b c (GM.auq.mp e)];exact LL a ag (i4 cq)}|none=>exact Uj (i4 ah)
inductive ayp(C:Addr)(vs:af)(H:Hp)(Q:VK)(E:XK):Prop|mk:da (zQ D) (zy Ye) (c (1<de) QZ QO (ge (GM.yN D)) (ayp C vs H Q E))
section z
theorem aYF:T.awe.Ok P w aj 3 (ayp bJ):=by refine T.awe.go aTJ aL;generalize aG=e3,aA=A,aF=outer,aE=s,aD=H,aB=vs,aH=Q,aI=E;rw[aN,M iw,aX,Bf];rintro rfl h Z c1 n1 k0 j7 k;rw[d _ (L ajR (dK aWb) (bU 2 ajR (j6 aWd)) (ai (dP aw alN) (bU 3 ajR (j6 aWj)) (p9 aWe (p9 aYD (de cu))))) a D b2 X G (a h c1 k0 j7 (fun l Y a8 a4 N=>a l Y de DE (ai N (fun v b7 b5 d3=>?_)))),QN,dZ GM.yN,bu];cases j9:ch de (oC (s3 (DE i)))with|some m=>{rw[u3 j9,A0 (Iv cm)]}|none=>rw[lp j9,XX,tH];have g:=ajs b5;have d6:e3 (bd (DE x) 8192):=ab (cF Gla.Plan.near (cn (a3Y _ _) j7));rw[b l Y de DE rfl g ej (f8 k0) (a qj (GM.Lh Z) (ab bz) (GM.aRs Z) (fun d B par d4 c8 nd hd r lt=>?_))];{cases q:DE x with|nil=>{rfl}|cons y J=>rw[dQ (GM.aee Z x y ag) ag]};have n:=Iv c8;rw[cb (g.mono c8),d l d Y de DE B par (d b bM hd (ls gJ))];have c:(ch de (Df (Gla.seenFrom a5l de 0 (Gla.noneSeen de))))=ch de aJY:=aYE (jU (by have:=GM.aRt Z ej r hi;rw[dW];rw[iN,this];simp));rw[bs c];cases j8:ch de aJY with|some m=>{rw[u3 j8,A0 (tm cm)]}|none=>rw[lp j8,XX,tH];have al:=aJ (nd (GM.aeE.mp j8 x S));rw[b l d Y de DE B par a97 (a rfl b hd bM r lt al (fun lo W i hi=>GM.aRu Z n1 r W al lt hi) bbd)];have U:=tm d9;rw[bu];cases e2:ch de a97 with|some m=>{rw[lp e2,tH,A0 (ajx cm)]}|none=>rw[lp e2,tH,bD (ax U rfl)]
universe z
noncomputable def vB(e:fz):tA:=[hE e.1,hE e.2]
theorem aYG{e f:fz}(h:vB e=vB f):e=f:=by rw[a4 vB,aau,a'f,gw (ajS a3),fe (ajS a9)];exact sJ Ba Ba
inductive Ck(H:Hp)(d:Addr)(ls:nD):Prop|mk:gE wK (∀e:fz,dj (fa F (vB e))=cv (e∈ls)) (Ck H d ls)
theorem Ck.mono{H L:Hp}{d:Addr}{ls:nD}(s:bQ)(h:Ck H d ls):Ck L d ls:=bh9
noncomputable abbrev ptD(p:Pt):CT:=dT yj
theorem af_(p q:Pt):jv (ptD p) (ptD q)=ar p q:=by rw[GP,iN,Iw,Iw];rw[n1 p,c8 d q];simp only[Od,Oc,W9];rw[Fc]
theorem dG.dp{K:Fg}{H:Hp}{v:V}{p:Pt}(h:br v p):cs v (ptD p):=by rw[ak rfl h h];exact Ue (ns:=yj) (cx h)
inductive ayq(vs:af)(H:Hp)(Q:VK)(E:XK):Prop|mk:∀(b2 c0 d:Addr)(n i5:V)(D:Gla.Plan)(row:ao)(a b:Pt),e [YC,O4,n,i5,ny] (e3 b2 lG) (am c0 P4) (V i row (i<de)) (c (br n a) (br i5 b) (Ck H d gU) (te (aEP D row a b)) (ayq vs H Q E))
section z
theorem aYH:T.awb.Ok P w aj 1 ayq:=by refine T.awb.go au2 aL;generalize aG=e3,aA=A,aF=outer,aE=s,aD=H,aB=vs,aH=Q,aI=E;rw[aN,M Jv,aX];generalize EX=b2,EZ=c0,E5=d,E6=n,E7=i5,E8=D,Fb=row,Fe=a,Ft=b;rintro rfl⟨c5,a3,e9⟩I c1 W a5 b8 k;rw[K (b4 (dk (aER (ac3 (ac4 (afg K aq)) (ac3 (dZ alV (eC Av) aw) (aqI (dZ alV (eC (bs aq (aqR aqU bE))) bb))))) mj) (an (aYo rfl T.zip (sA aq (x2 aq))) 5 au2.nd (dk (Bq (Sy xr cI bR)) mj)) mj) _ (.inl (bm (av I))) ?_,dZ aEP];cases row with|nil=>{rw[bD ?_,c4 G (dB ai) XN];exact G}|cons m row=>have f5:(! !(aHd).isEmpty)=ai:=rfl;rw[f5];have o:=c1 m bK;obtain⟨j,e5,N⟩:=gE e9 o;rw[<-(wM o)]at N;rw[r c0 (vn m) (av I) dg (f b2 _ _ j rfl (av a3) (dX e5) (a _ _ N.dp W.dp tS tS ?_))];rw[af_];rw[N R (wR m) a];{rw[dH R];have c:I z ((aFR).getLast?=aa z) (Bx aHd (-1)=aa (vn z)) (z<de):=by{rcases a31 (m::row)with q|⟨f,z,q⟩;rw[cX];{rw[cQ a30,w z ag (ac q fe (art _ _)) (c1 z ag)]}};obtain⟨z,z1,h6,k7⟩:=c;rw[cM g7 d2 (gE e9 k7)];rw[<-(wM k7)]at d2;rw[d _ rfl c0 _ _ (vn z) rfl (u (av I) h6 b2 O (a (av a3) (dX g7) _ _ d2.dp a5.dp tS tS ?_))];rw[af_];rw[bs z1,N d1 (wR z) b];{rw[dH d1];have k:E L bQ (Q (.bl (yE Rg)) L):=by{rw[Zu]};rw[bA c0 I (fun ls e1=>?_)];rw[a0 (jl aHd (gH 1) ae) P4 (af8 _ 1)];rw[gO (ap ls P4) e1,a e7 H ls P4 ls P4];generalize ap ls P4=a8 at a4 e7;rw[e c0 ls _ _ rfl (av (di I)) (av e7) (bv ff (bi (∃i1,M=[ac b2,OM,aa n,aa i5,rr,i1]) OH (yE (an Rg i)=ab)) (bp qf eg))];{rw[pm s];exact a _ _ (vn (dx aFR (x (ahf hi)))) (vn row[i]) aJW (br e7) bz ag};rw[iX s (a _ _ aJW (br e7) (.inr aQ))];{rintro i M L x b7 hi⟨⟨i1,rfl⟩,s,g⟩⟨t,b1,d7,rfl,c6,rfl,S,b6⟩;have S:=S _ aJW;have b6:=b6 _ (br e7);rw[cz]at S b6;rw[a2 u hu S,a2 v d3 b6];have c9:A (Rg) JF:=List.getElem?_zip_eq_some.mpr ⟨hu,d3⟩;rw[aK (an Rg (i+1)) (an Rg i) JF c9,ti (bx u v),A9 (b8.mono eN)];have d5:jm (lc (bx u v)) d nu (fa F (vB JF)):=jm.t c3 (dc ak);rw[s9 d5];have c4:=c4 JF;by_cases mm:JF∈gU;{rw[dH mm]at c4;rw[ch y b6 c4];rw[b6];rw[ak ei b5];rw[g9,aEQ,g];simp[mm]};{rw[aHI,fe b6 (fa F (vB JF)) c4];rw[b6];have:=k _ eN;rw[R g5 (yE Rg) ai a5m (v JF (bO c9) hS),am g5];exact this}};{rw[bJ L i1 s g];rw[Dx aQ]at g;have:=k _ (eX s);rw[am g];exact this}};{rw[ea d1];rw[b4 G (dB ai) d1 XN];exact G}};{rw[ea R];rw[bD ?_,b4 G (dB ai) R XN];exact G}
universe z
theorem Uz{c:Type} [v_ c](F:hT)(k:c)(v:V):bd X5 (hY+1):=by delta mM;rw[Za]
theorem ayr{I d:Type}{F:qk}{l:ba}{m:nG}(e:d_=aES)(h:∀(j:Nat)a b,aa l a->aa m b->F a b):f0 F:=by induction l generalizing m with|nil=>{rw[L (NO CL) .nil]}|cons x O i=>cases m with|nil=>{exact iT (a4' _ e)}|cons u b1=>rw[K7 e]
inductive EnV(H:Hp)(v:V)(e:Nat×Pt):Prop|mk:f a y (v=bc) (cw (cO (vn e.1) y)) (br y e.2) (EnV H v e)
theorem UA:lu EnV:=sh (b a y e h p e0 (a a y e (bv h) (hH s p)))
theorem aYI{H a8:Hp}{l:Addr}{c5:af}{pts:eh}(e9:dD (dG H) c5 pts)(N:Ux H a8 l kx (BF c5)):dB EnV a8 l ((eJ NH).zip pts):=by obtain⟨s,d6,Y,i0,e,al⟩:=N;rw[ca e,it qX];refine ayr ag (fun j v x d3 S=>?_);rw[gv d3,a2 a b3 d3];obtain⟨_,e7,i8,⟨rfl,b6⟩,g9⟩:=al j a b3;rw[aW p c2 e9 b6];have G:x=(j,p):=by{rw[n1 (List.getElem?_zip_eq_some.mp S)];obtain⟨_,c⟩:=Xa a;rw[WL]at c;exact sJ W_ (cZ (b.symm.trans c2))};subst G;exact f a i8 g9 (bL s J)
theorem UB(D:Gla.Plan)(on:OG):ku ((eJ de).zip lG) (hi (on e.2) e.1)=Iy D on:=by delta Iy Gla.Plan.pt;generalize D.pts=pts;have O:∀(pts pre:eh),ku ((Xb DI NH).zip pts) (hi (on e.2) e.1)=ea (Xb DI NH) (dJ (on ((pre++pts).getD i jO))):=by{intro pts;induction pts with|nil=>{intro pre;rfl}|cons p J d6=>intro pre;have:=d6 (pre++[p]);rw[cj,aBM,du]at this;rw[ia,List.range'_succ,a5n,Ha,aCP];have e:(pre++p::J).getD DI jO=p:=by{simp};rw[e,this];rw[ll (on p)]};have:=O pts [];rw[oT List.range_eq_range']
abbrev Edg:=ao×Pt×Pt
inductive GX(H:Hp)(v:V)(e:Edg):Prop|mk:∀t c0 n i5,b v nu (iK t [.ref c0,n,i5]) (am c0 (ii e.1)) (br n e.2.1) (br i5 e.2.2->GX H v e)
theorem GX.mono{H L:Hp}{v:V}{e:Edg}(s:bQ)(h:GX H v e):GX L v e:=by obtain⟨t,c0,n,i5,a,b,c,d,f⟩:=h;exact a t c0 n i5 a (bv b) (bv c) (bL s d) (bL s f)
noncomputable def yV(D:Gla.Plan):bL Edg:=[baw,bax,baI,baH]
theorem ays(D:Gla.Plan):ajT D=(yV D).all (an aLR):=by delta ajT yV;simp[MS]
theorem aYJ(D:Gla.Plan):dc (yV D) (∀i∈e.1,i<de):=by intro e a0 i hi;have O:E on (i∈Iy D on) (i<de):=fun on h=>by{rw[a4 Iy];exact List.mem_range.mp (fb h)};delta yV at a0;simp only[hC,oQ,Dh]at a0;rw[kB a0]<;>(simp only at hi;exact O _ hi)
inductive ayt(C:Addr)(vs:af)(H:Hp)(Q:VK)(E:XK):Prop|mk:da QZ QO (ge (GM.BX D)->ayt C vs H Q E)
section z
theorem aYK:T.awa.Ok P w aj 2 (ayt bJ):=by refine T.awa.go aTG aL;generalize aG=e3,aA=A,aF=outer,aE=s,aD=H,aB=vs,aH=Q,aI=E;rw[aN,M iw,aX,Bf,av h k0 j7 k,fD,QY,aaS,fV,o6 (L rb bP (bU 2 rb bP) (i 3 rb (aYr (K:=K) rfl rfl bI ajV bI a5o (dY bP)) (bU 4 rb (KL (vq (eZ bE tZ (dO aq)) (eZ bE tZ (as aw bE)) (eZ aq (dO aq) (as aw aq)) (eZ aw (as aw bE) (as aw aq))))) (i 7 rb adF (an pH 8 rb (dY ke kf mj)) (bo (mz (ada bR) (nx 3 (Ky (sC 9 rb) (Ky (sC 10 rb) (Ky (sC 11 rb) aqJ)))) (fE (gd (uT (d9 aYH (GI bP xw EU OR ke))) (dO (gi T.aU2))))) cu)))) (f b2 c5 (av a3) (fun Z a8 J=>?_))];have p6:=aYI e9 J;have s0:=J.1;clear J;rw[cE v l p6,a7 Z v (fun b4 v7=>d oy UA sr aps (u8 (ga 0)) v7 ana)];{rintro i e x L h4 N a0 s⟨b,y,rfl,U,c,rfl,b0⟩b6 d1;rw[c b _ rfl pG rfl c _ (us dg)];rw[dN];rw[FH];{rw[qM e.2.y];exact(ab e.1 (ar d3) eg rfl)};{rw[zx e.2.y];exact anD}};intro r k6 r1 h8 e2;rw[UB D (ga 0)]at e2;have j4:=vk e2;subst j4;clear e2 v7;rw[v (bB) (fun g4 h9=>?_),l e5 r r g4 xZ h9,v (ah) (fun a7 e4=>?_)];have e6:=kv Qo e4;rw[v (yd) (fun W k1=>?_)];have c1:=b3 b4 g4 a7 k1;rw[a u (E (upd r g4 xZ) a7 Qo W (bV b4 g4 a7)) (.ref W) baw W b4 g4 a7 h8 (eS g4 e4 k1) a7 k1];generalize E (upd r g4 xZ) a7 Qo W (bV b4 g4 a7)=k7 at c1 u;rw[iR (r1.trans c1)];have a4:=aEU c1;have v:=ang;rw[aoR];clear h9 e4 k1 e5 e6 h8 r1;clear c1;rw[a7 Z v (fun b9 v8=>d oy UA sr aps (u8 (gb 0)) v8 ana)];{rintro i e x L h4 N a0 s⟨b,y,rfl,U,c,rfl,b0⟩b6 d1;rw[c b _ rfl pG rfl c _ (us dq)];rw[dN];rw[FH];{rw[qM e.2.x];exact(ab e.1 (ar d3) eg rfl)};{rw[zx e.2.x];exact anD}};intro Y k8 r2 i1 e7;rw[UB D (gb 0)]at e7;have j5:=vk e7;subst j5;clear e7 v8;rw[v (bB) (fun h3 i2=>?_),l e5 Y Y h3 xZ i2,v (ah) (fun d5 f5=>?_)];have e6:=kv Rm f5;rw[v (yd) (fun d8 c7=>?_),iR (b3 b9 h3 d5 c7),a C (E (upd Y h3 xZ) d5 Rm d8 (bV b9 h3 d5)) (.ref d8) bax d8 b9 h3 d5 i1 (eS h3 f5 c7) d5 c7];generalize E (upd Y h3 xZ) d5 Rm d8 (bV b9 h3 d5)=k9 at c1 C;rw[iR (r2.trans c1)];have b5:=eX c1;have v:=ang;rw[aoR];clear i2 f5 c7 e5 e6 i1 r2;have u:=ajU c1;clear c1;rw[a7 Z v (fun c2 i3=>d oy UA sr aps (u8 (gb D.w)) i3 ana)];{rintro i e x L h4 N a0 s⟨b,y,rfl,U,c,rfl,b0⟩b6 d1;rw[c b _ rfl pG rfl c _ (us dq)];rw[dN];rw[FH];{have d3:e.2.x=D.w:=by{simp at z;lia};exact(ab e.1 (ar d3) eg rfl)};{have d3:¬e.2.x=D.w:=by{simp at z;lia};exact anD}};intro O l0 m i6 f7;rw[UB D (gb D.w)]at f7;have j8:=vk f7;subst j8;clear f7 i3;rw[v (ah) (fun h6 i7=>?_),l e5 O O h6 Qo i7,v (ah) (fun l3 g0=>?_)];have e6:=kv Rq g0;rw[v (yd) (fun j c4=>?_),iR (b3 c2 h6 l3 c4),a b3 (E (upd O h6 Qo) l3 Rq j (bV c2 h6 l3)) (.ref j) baI j c2 h6 l3 i6 (eS h6 g0 c4) l3 c4];generalize E (upd O h6 Qo) l3 Rq j (bV c2 h6 l3)=l1 at c1 b3;rw[iR (m.trans c1)];have c8:=fg c1;have v:=ang;rw[aoR];clear i7 g0 c4 e5 e6 i6 m;have u:=ajU c1;have C:=C.mono c1;clear c1;rw[a7 Z v (fun d2 i8=>d oy UA sr aps (u8 (ga D.h)) i8 ana)];{rintro i e x L h4 N a0 s⟨b,y,rfl,U,c,rfl,b0⟩b6 d1;rw[c b _ rfl pG rfl c _ (us dg)];rw[dN];rw[FH];{have d3:e.2.y=D.h:=by{simp at z;lia};exact(ab e.1 (ar d3) eg rfl)};{have d3:¬e.2.y=D.h:=by{simp at z;lia};exact anD}};intro a5 l2 c9 j0 g6;rw[UB D (ga D.h)]at g6;have k2:=vk g6;subst k2;clear g6 i8;rw[v (ah) (fun f4 j1=>?_),l e5 a5 a5 f4 Rm j1,v (ah) (fun e0 g7=>?_)];have e6:=kv Rq g7;rw[v (yd) (fun I d4=>?_)];have c1:=b3 d2 f4 e0 d4;rw[a g8 (E (upd a5 f4 Rm) e0 Rq I (bV d2 f4 e0)) pD baH I d2 f4 e0 j0 (eS f4 g7 d4) e0 d4];generalize E (upd a5 f4 Rm) e0 Rq I (bV d2 f4 e0)=j2 at c1 g8;have c1:=c9.trans c1;rw[mi c1];have v:=ang;rw[aoR];clear j1 g7 d4 e5 e6 j0 c9;have u:=ajU c1;have C:=C.mono c1;have b3:=aET c1;clear c1;rw[v (yd) (fun b8 k3=>?_)];have i0:=b_ (o:=aJk) k3;have h2:upd j2 b8 aJk b8=_:=ak;rw[m j2 b8 aJk d0 i0 h2];have f9:=mX i0;have al:dD (GX d0) (wf (gR W)) (yV D):=ec (ajU i0) (C.mono i0) (hR (aET i0) (g8.mono i0));clear u C b3 g8 v l i0 d9 c8 b5 a4 s0;refine JX;rw[l h1 d0 d0 d pX nd];have j3:Ck (upd d0 d pX) d []:=F4 bI;rw[m d0 d pX p7 h1 j3,a2 (iP Qy) (s kC ku X (dB ls (iP (hy a9))) (bV ls (bi (∃i9,M=g9 ae ae ae) (cY d0 L) (Ck L d (pj i))) (v qf h1 j3) (hy a9)))];{rintro i x M L S⟨⟨i9,rfl⟩,s,F,c3,lk,mk⟩;rw[BZ (oz f6 S)];have hi:=bx a0;have j6:=bv (hy U);rw[eS]at lk;rw[b d _ rfl (qw.t (k:=vB e) c3 j6 (c_ lk (oO i lH) j7)) ei (gc s) (mM F (vB e) YL) ak (lH (fun f=>?_))];{have:=Uz F (vB e) YL;rw[eS];exact a2B ⟨hn this lk (wm i lH),uP this lk (wm i lH) hi⟩};{rw[Sq,DK,a0];have h5:=mk f;rw[T f e,az];{rw[bj (J (q (aYG z))),h5];simp[q]}}};rw[bJ p8 i9 R o,c_ NV o,bD b8 (aW (cx (R _ _ h2))) (cl (wf (gR W)) (bi (Lx (fun e1 j9 e8=>M=g9 e1 j9 e8)) (cY p8 L) ((an (yV D) i).all (an aLR)=ab)) (bp bdt eg) (z.2 _ _ (R _ _ h2)))];{rintro i x M L S⟨⟨e1,j9,e8,rfl⟩,s,g⟩;rw[gr B (oz al S),dr (mW (wu s))];obtain⟨t,c0,n,i5,rfl,c6,d7,k4,k5⟩:=B.mono (wu s);rw[db (an (yV D) (i+1)) (an (yV D) i++[e]) a0,b t _ rfl (cx c6) rfl a _ dx (a _ _ rfl (of hd) dR gb fX b2 (a c0 d n i5 D e.1 e.2.1 e.2.2 (a rfl (aiX dj d6) d7 (aYJ D e uj) k4 k5 (o.mono s) (fun b7 i4=>?_))))];cases st:aLR with|true=>{rw[ak (as _ _ rfl) (il i4)];rw[g9,aEQ,g];simp[st]}|false=>rw[v (bB) (sT (ax (dL (wU i4) h7) ?_))];have g5:ajT D=ai:=by{rw[ays,a5m];exact v e uj ah};delta GM.BX;rw[g5];exact lQ};{rintro M L⟨⟨e1,j9,e8,rfl⟩,s,g⟩;rw[oH (mW (wu s)),z g (ajT D=ab) ays g];delta GM.BX;rw[g];rfl}
universe z
noncomputable def LY(p:Pt):tA:=[hE p.y,hE p.x]
theorem ayu{e f:Pt}(h:LY e=LY f):e=f:=by rw[a4 LY,aau,a'f,gw (ajS a3),fe (ajS a9),n1 e,c8 d f];simp only[W9];simp only at a3 a9;rw[el]
inductive Cm(H:Hp)(d:Addr)(c5:eh):Prop|mk:gE kx (∀p:Pt,dj (fa F tX)=cv (p∈c5)) (Cm H d c5)
theorem Cm.mono{H L:Hp}{d:Addr}{c5:eh}(s:bQ)(h:Cm H d c5):Cm L d c5:=bh9
noncomputable def gO(l:ki):GM.PK:=(dn l.1.y l.1.x,dn l.2.y l.2.x)
theorem ayv{l m:ki}(h:gO l=gO m):l=m:=by obtain⟨⟨a,b⟩,c,d⟩:=l;obtain⟨⟨B,b2⟩,C,d'⟩:=m;simp only[gO,Cu,Od,Oc,W9]at h⊢;lia
theorem eR.pk{H:Hp}{v:V}{l:ki}(h:aod){b:Addr}(e:v=cV):GW H b (gO l):=by obtain⟨a,x,y,d3,h,⟨p,rfl,c2⟩,q,rfl,e0⟩:=h;rw[Zd,a4 d3 (a p q h c2 e0)]
inductive Cn(P:Program)(w:World)(H:Hp)(d:Addr)(ls:mZ):Prop|mk:o f (oG P w H d f wK) (∀l:ki,k9 (gO l)=cv (l∈ls)) (yG H)
theorem Cn.mono{P:Program}{w:World}{H L:Hp}{d:Addr}{ls:mZ}(h:yG H)(s:bQ):yG L:=by rw[bH a b h];exact v f (a.mono s) b
noncomputable def Co(a:mZ)(b:eh)(r:Gla.Plan)(i:Nat)(l:fz):cb:=Z (a.contains Ec) (dG (a23 (bn (! b.contains p))) (Dz pw rj)||dG (DU (a.contains aJh)) (GM.Li r l)) (GM.Gk r i l)
noncomputable def agb(D:Gla.Plan):i Ei Nat fz cb|none=>GM.Gk D|some B=>GM.Te B D
inductive ayw(C:Addr)(vs:af)(H:Hp)(Q:VK)(E:XK):Prop|mk:lH (GM.Ord D) (l (pp D.w) (pp D.h) QZ QO aLv (ge aJI) (ayw C vs H Q E))
section z
theorem aYL:T.awc.Ok P w aj 4 (ayw bJ):=by refine T.awc.go aTH aL;generalize aG=e3,aA=A,aF=outer,aE=s,aD=H,aB=vs,aH=Q,aI=E;rw[aN,M ob,aX];generalize kQ=a,kR=D,kS=b2,kT=X,kU=G,kX=b4,k_=B;rintro rfl h hB Y b3 n4 k0 j7 e6 k;rw[fD,QY,aaS,Bm,ak c1 gU (e.1<de/\e.2<de) (bv jd bdX),cO d5 (cz lG (kr p)) b3 n4,eX (X pq af0 (bU 3 pq adF) (ai (ai KC aq cu (bd (j6 LI) 4 pq (afZ wc aw bR mj rfl)) (bd (GJ K aq) 5 pq (dY bb cI mj))) (e pq 6 pH (cj "point" 5) (ci 5 pq) (lk (Bq (Sy xr cI bb))) (bC cI)) (i 7 pq (dK LI) (bU 8 pq AQ) (bo (mz (ln ke) (V 9 pq 4 pq) (c7 (rX (Bq (aXC wc bR aw)) (fE (bU 10 pq (Z axt bR eu kf))) (i 11 pq (f2 xw) (bU 10 pq (Z axt bR (Ce K bP (oo (hp (dh OR))) (oo (dh OR))) (hF ke xw))) (fE (dD kf bR)))) (dk (uT EU) (yA xw)))) cu)))) (fun dl g4 k2 k3=>?_),gO (ad dl g4) k2];generalize ad dl g4=a8 at k3 a4;refine fun dp m9=>?_;rw[l b5 a8 a8 dp pX m9];have d8:Cm (upd a8 dp pX) dp []:=F4 (ar fa);rw[m a8 dp pX b7 b5 d8];have r:=eN;have f7:Cn P w b7 dl []:=av (k3.mono b5) (ch aQ);rw[bu];cases B with|none=>{subst hB;rw[dd ae [] [] bI];have n6:oJ Ee (p∈Ee):=bn Wh;rw[KY Ee];{rw[dE p x c2,A9 (aEW s),bdN];have c4:=c4 p;by_cases mm:p∈Ee;rw[cX];{rw[aHI];have O:fa F tX=ae:=by{simp at*;lia};rw[O];rw[bD bbj];simp[mm]}};rw[bbC];rw[Ly]at e2;have l1:=ajW d9;rw[bfM,aJf,bcH,bhz,bbo,bdZ,bd'];have n7:a5r=lH:=Xc D;have n8:=i9.length;rw[hq [kJ,alX,ac dl,ac dp,b1,ae,ac i0,Ar,ac n,e1,j9,e8] Zm baG,bej,a'1];{rintro i M L x h5 hi⟨⟨b1,e1,j9,e8,rfl⟩,s,b9,g⟩⟨t,y,rfl,c6,rfl,b6⟩;rw[jq i9 (b6 _ (br e5)),bei,dP gU e a0,Ix (bt (cZ a5))];subst h2;have ix:=c1 e uj;have j1:=j0 ix.1;have k8:=j0 ix.2;rw[P st L (lc hK) cm];have rv:=tn (cO (il st)) J;rw[gt (aEV gx st),baL];have R:=il st;have d:=zR R;have k9:=be1;rw[hr Rt baG Rt];have o1:=W rk;rw[Gb (as (na rv)),apb];by_cases j2:rk∈Oy;{rw[b3 g0 (apG=ab) (iT (oQ bG))];rw[g0];rw[o i0 n rv beR b9.ls (fb c2) (fun J a6=>bz)];have c7:(j1 (t3 Ee) Zm)=Rt:=by{trivial};rw[l8 (t3 Ee) Zm];rw[c7];rw[bL c9 (uY Oy) Zm];cases h6:Rt with|true=>{rw[bc0]}|false=>exact d anV R bB (l0 h6)};{have g0:apG=ai:=by{trivial};rw[g0];rw[Y c l2 C b0 (mx f6 a0)];have l4:=go b0;rw[bh7,bdy,bh2,bhy,i h5 d2 X0 h9 g4 d6,bA le (of (R _ _ e5)) (fun q2 m5=>?_)];rw[yU a7 i];rw[bhs,bhA,bht];have d7:=wU i4;rw[biB,Lk Rt];cases h6:Rt with|true=>{rw[q2 (ag) ah]}|false=>rw[w anV c0 (jl ak) (l0 h6),ae c9 (uY Oy) ((Zm)++[e])];rw[c9,fe];exact beh}};rw[biG]}|some B=>rw[bhL];have n0:=e6 B rfl;have m7:=n0.Gs;rw[dd (aa B) tf pb rfl,c b B i2 h7 i7 (U.mono r) (f3 (by have:=n0.clean.ord.lt e a0;rw[jY])) (iS (aS m7.2).2 (fun i5 d4 c8 n5 k5=>?_))];obtain⟨bs,l8,n1⟩:=k5;have k1:=ajW c8;have ldn:Xd=B.lines.length:=Xc B;have d8:=aEW c8;have f7:=aEY c8;rw[a7 i5 l8 ?_,M n2 dp dl (by rw[beS];obtain⟨m8,q2,_,_⟩:=d8;rw[b2 q q2];cases q2)];refine aJ bs (fo (Aa6 (∃b1,M=[kJ,ac b,ac dl,ac dp,b1,ae,ae,ae,ae,ae,ae,ae]) bQ (aj i5 bs) (dD (eR L) bs tf) (Cm L dp []) (Cn P w L dl (B.drawn.take i)))) (c qf k1 l8 n1 d8 ag) (mM (av z.3));{rintro i x M L S⟨⟨b1,rfl⟩,s,l7,m1,d3,f,h3,W⟩;rw[jq m1 S,B1 J,lb Xd a5];rw[eS]at h3;rw[c dl c (gO l) f _ rfl h3 (If (x (Kl (wm i Xd) hi ldn.l (aS m7.2).2 fw))),gb k4 h3];obtain⟨m8,q2,q3,i6⟩:=d3;rw[e ei (fG s k2) (Y (J (by rw[beS,b2 q l8];cases l8)) l7) (cc (nE k4) m1) (d m8 (Y n2 q2) q3 i6) _ (o7 (min (i+1) Xd) (min i Xd)) Yd];rw[DK,a5];rw[T m l,aZ,bbD]};rintro M d4⟨⟨b1,rfl⟩,k1,l7,m1,d8,f7⟩;rw[c_ n1.length f7,bbO,dl e0 n3 U.p,y b j8 (k1 _ _ l9) dR (s gb fX i2 (k1 (k1 _ _ e0)) (bV v (fo (vl (∃i1,M=[kJ,ac b,ac dl,ac dp,b1,i1,ae,ae,ae,ae,ae,ae]) bQ (Cn P w L dl tf) (Cm L dp (B.pts.take i)))) (d qf k1 f7 d8) e0))];{rintro i x M L S⟨⟨i1,rfl⟩,s,⟨f,h3,W⟩,F,c3,lk,mk⟩;rw[Y p c2 c b0 (oz n3 S),lb a5s c2];rw[eS]at lk;rw[b dp _ rfl (qw.t (k:=tX) c3 (bv b0) (x (Kl lk (wm i a5s) hi (aS m7).2 fw))) ei (fG s (gV m9)) (v f (h3.go (nE c3) (eB (Y aEX e))) W) (mM F tX YL) (v ak ?_ akN)];{have:=Uz F tX YL;rw[eS];rw[fT]};{rw[Sq,DK,c2];rw[N z q p,aZ];{rw[bj (e7 (z (ayu y))),(mk q)];simp[z]}}};rintro M d4⟨⟨i1,rfl⟩,r,f7,d8⟩;rw[c_ n3.length d8];have n6:oJ (pb) (p∈(pb)):=bn Wh;rw[KY (pb)];{rw[dE p x c2,A9 (aEW s),bdN];have c4:=c4 p;by_cases mm:p∈(pb);{rw[dH mm]at c4;rw[ch y O c4];rw[O];rw[bD (d1 ?_ _ eg)];simp[mm]};{rw[aHI,fe O (fa F tX) c4];rw[O];rw[bD bbj];simp[mm]}};rw[bbC];rw[Ly]at e2;have l1:=ajW d9;rw[bfM,aJf,bcH,bhz,bbo,bdZ,bd'];have n7:a5r=lH:=Xc D;have n8:=i9.length;rw[hq [kJ,ac b,ac dl,ac dp,b1,i1,ac i0,Ar,ac n,e1,j9,e8] Zn baF,bej,a'1];{rintro i M L x h5 hi⟨⟨b1,e1,j9,e8,rfl⟩,s,b9,g⟩⟨t,y,rfl,c6,rfl,b6⟩;rw[jq i9 (b6 _ (br e5)),bei,dP gU e a0,Ix (bt (cZ a5))];subst h2;have ix:=c1 e uj;have j1:=j0 ix.1;have k8:=j0 ix.2;rw[P st L (lc hK) cm];have rv:=tn (cO (il st)) J;rw[gt (aEV gx st),baL];have R:=il st;have d:=zR R;have k9:=be1;rw[hr Rr baF Rr];have o1:=W rk;rw[Gb (as (na rv)),apb];by_cases j2:rk∈(tf);{rw[cl g0 (apG=ab)];rw[g0];rw[o i0 n rv beR b9.ls (fb c2) (fun J a6=>by rw[a3 m c4 a6];have:=c1 m (qS (fb c4));exact⟨j0 et,j0 fj⟩)];have c7:(j1 (t3 (pb)) Zn)=Rr:=by{delta Co;rw[aK (a5q j2),a5p];rfl};rw[l8 (t3 (pb)) Zn];rw[c7];rw[ae c9 (uY (tf)) Zn];cases h6:Rr with|true=>{rw[bc0]}|false=>exact d anV R bz (l0 h6)};{rw[ae g0 apG ai];rw[g0];rw[Y c l2 C b0 (mx f6 a0)];have l4:=go b0;rw[bh7,bdy,bh2,bhy,i h5 d2 X0 h9 g4 d6,bA le (of (R _ _ e5)) (fun q2 m5=>?_)];rw[yU a7 i];rw[bhs,bhA,bht];have d7:=wU i4;rw[biB,Lk Rr];cases h6:Rr with|true=>{rw[q2 (yd) bz]}|false=>rw[w anV c0 (jl ak) (l0 h6),ae c9 (uY (tf)) ((Zn)++[e])];rw[c9,fe];exact beh}};rw[biG]
universe z
theorem bjM{A B:Prop}(h:A):x6 Hi:=ar' h
inductive ayx(C:Addr)(vs:af)(H:Hp)(Q:VK)(E:XK):Prop|mk:mG (Oe D) (ayx C vs H Q E)
noncomputable def Cp(D:Gla.Plan):Ei->cb|none=>ai|some B=>cv aKR
inductive ayy(C:Addr)(vs:af)(H:Hp)(Q:VK)(E:XK):Prop|mk:lH (dB anJ) (ayy C vs H Q E)
noncomputable def ayz(D:Gla.Plan)(B:Ei):bZ Mj:=GM.ko aJI (GM.yN D)
inductive ayA(C:Addr)(vs:af)(H:Hp)(Q:VK)(E:XK):Prop|mk:lH (Oe D=ae) (aLv->ge aoH->ayA C vs H Q E)
theorem Uk.mono{C:Addr}{H L:Hp}{v:V}{B:Ei}(s:bQ)(h:Uk C H v B):Uk C L v B:=by cases B with|none=>{exact h}|some B=>rw[j b x y z e d h (c b x y z e (d.mono s))]
theorem UC{D:Gla.Plan}(h:zE D=ae):N (D.w<=1048575/\pp D.h) QZ QO (qW<=2048):=by delta zE jC ai' aDD aDC aDB at h;(repeat' rw[eH]);(all_goals first|(rw[cG])|skip);simp_all
theorem ayB{K:Fg}{H:Hp}{l:Addr}{c5:eh}(h:e3 l c5):cs cB (sg (aiQ (bn yj))):=by rw[bE e p h];refine a93;clear e;induction p with|nil=>{rw[kL]}|cons J t d6=>rw[cA J.dp d6]
theorem ayC{K:Fg}{H:Hp}{l:Addr}{c5:nD}(h:dB sk H l c5):cs cB (sg (aiQ (bn aaq))):=by rw[bE e p h];refine a93;clear e;induction p with|nil=>{rw[kL]}|cons J t d6=>rw[ak rfl b3 J];exact .cons (ww Jt) d6
theorem ayD{I d:Type} [v_ I] [v_ d]{f:Ff}(W:eR (f a=f b) (a=b))(l m:ba):ar xK (aDi f)=ar l m:=by rw[iN,Iw,Iw];exact⟨c8 (a3P W|>.mp h),c8 (iG h)⟩
theorem aYM(l m:eh):pj (bn yj) (bn yj):=by rw[jv,afx];refine ayD (fun a b h=>?_) l m;rw[baW,aKS];simp only[Od,Oc,W9]at h⊢;lia-abstractProof
theorem aYN(l m:nD):pj (bn aaq) (bn aaq):=by rw[jv,afx];refine ayD (fun a b h=>?_) l m;rw[baW,aKS];simp only[Od,Oc,Cu]at h⊢;rw[Fc]
section z
theorem aYO:T.av7.Ok P w aj 1 (ayy bJ):=by refine T.av7.go aTC aL;generalize aG=e3,aA=A,aF=outer,aE=s,aD=H,aB=vs,aH=Q,aI=E;rw[aN,M ob,aX];generalize kQ=a,kR=D,kS=b2,kT=X,kU=G,kX=b4,k_=B;rw[aV h hB k,fD,y _ (cn (Br (afe KC aq cu) (Br bco (RX bco)))) _ gJ];cases B with|none=>{subst hB;exact k}|some B=>rw[bhL,bbO,a2 hd (a kC ku b _ j8 _ _ rfl (b l9 dR kC ku _ (ayC h.l) (ayC U.l) (m (Ug _) (Ug _) _ ?_)))];rw[aYN];rw[T gU Wf];{rw[dH q];rw[a2 hd (a gb fX b _ j8 _ _ rfl (b l9 dR gb fX _ (ayB h.p) (ayB U.p) (aJ (Ug _) (Ug _))))];rw[aYM];have:Cp D (aa B)=ar lG pb:=by{delta Cp;rw[iN,Iw,Iw];exact⟨J z.2.symm,J ⟨zu,wa⟩⟩};rw[al5];exact k};{rw[ea q];have:Cp D (aa B)=ai:=cF Cp (ea (J (q z.1.symm)));rw[bs this];exact k}
theorem aYP:T.av9.Ok P w aj 4 (ayx bJ):=by refine T.av9.go aTD aL;generalize aG=e3,aA=A,aF=outer,aE=s,aD=H,aB=vs,aH=Q,aI=E;rw[aN,M iw,aX,Bf,ds h,a'H];have⟨c5,a3,e9⟩:=h.p;have⟨ls,a9,f6⟩:=h.l;have⟨d8,e2,j0⟩:=h.m;rw[o6 (L a5t (d9 axc (GI bP bP nK nK nK)) (AK aVZ) (bX (AK aV0) (AK aYK) aq)) (b b2 _ rfl (cc a3) a dx _ (j hd dR kC ku X _ (ev rfl (cc a9) (o4 e2 (a D.w D.h kx wK (aP Nw (fun v a8 a4 p=>?_)))))))];have f5:LK D.w D.h kx wK Nw=zE D:=by{rw[qX,NV,H8];rfl};rw[f5]at p;rw[bu,dZ Oe];cases N:zE D with|some e=>{rw[N]at p k;rw[hd p,rC];refine h6 (iN a4)}|none=>rw[N]at p k;rw[QB];subst p;rw[g4 (UC N),nn um aHX,QN,bu];cases d2:ajg D with|some e=>{rw[QJ,hd p,rC];exact bd (iN i9)}|none=>rw[QJ,QB];subst p;rw[nn (gd i9) (fun v d4 c8 p=>?_)];have n:=Iv c8;rw[bu];cases q2:ajh D with|some e=>{rw[q2]at p k;rw[hd p,rC];exact iN n}|none=>rw[q2]at p k;rw[QB];subst p;rw[fa n JA ⟨aS e8,fun v e4 d9 p=>iN (tm d9)⟩]
theorem aYQ:T.av8.Ok P w aj 5 (ayA bJ):=by refine T.av8.go aeX aL;generalize aG=e3,aA=A,aF=outer,aE=s,aD=H,aB=vs,aH=Q,aI=E;rw[aN,M ob,aX];generalize kQ=a,kR=D,kS=b2,kT=X,kU=G,kX=b4,k_=B;rw[cn hB W e6,Ii W,g4 (UC N),b _ (X aeX.nd (b4 aYL aq) (bm yu aw cu (bU 2 aeX.nd (dK aYF))) (de aw)) a D b2 X G b4 (a B rfl h hB Y e8.1.1 YE JA (aS e8) e6 a'r),dZ ayz];cases d2:aJI with|some e=>{rw[QJ,hd p,rC];exact iN a4}|none=>rw[QJ,QB];subst p;rw[c a D b2 X G um (by have q2:a98=ae:=by{delta Xe at d2;cases z:a98 with|none=>{rfl}|some i=>simp_all};refine GM.aej Y ?_;rw[<-q2];refine GM.aeh a_5;cases B with|none=>{exact bt (GM.S1 Y (bO S))}|some B=>exact bt (GM.aeG (e6 B rfl).clean.lay Y S)) (a eb n1 JA (aS e8) bdQ)]
universe z
universe GA
namespace GM
open Gla
variable{r:Plan}
theorem agc{I:Type}{p:AU}:k1 (oV (li (p y=ab->p x=ab))) (bH x xH (aCK p) (p x=ab))|[],_,i,x,h=>bB|a::J,q,i,x,h=>by rw[cQ oX];cases u:p a with|true=>{rw[ajY u,ia];cases i with|zero=>{simp_all}|succ i=>have:=agc q.2 i x bB;rw[al5];simp}|false=>rw[ajX hS];grind-abstractProof
theorem UF.congr{f:ao}{cnt:Nat}{aP lab':cC}(d:Fx)(h:E x IW (kM=lab' x)):UF f cnt lab':=by have lt:BD IW:=fun x l e=>l5 (bx e) qR;rw[w qR Nn a8J a8J];{have:=Nn x l e;have S:=lt x l e;rw[<-h x S,<-h l aKg];exact HJ x l e};rw[kz (h x (lt x l e)) (V7 x l e)]
noncomputable def aYR(r:Plan)(e:Ln):ki:=(eE,eF)
theorem ayE{I d:Type}(f:Ff)(p:d->cb):∀l:ba,t ((xK).takeWhile p)=t (aCK aHc)|[]=>rfl|a::J=>by rw[c_];cases q:p (f a)with|true=>{rw[ajY q,ajY (p:=aHc) q,ia,ia,ayE f p J]}|false=>rw[ajX hS,ajX (p:=aHc) cq];rfl
theorem ayF(Z:bq){t:Nat}{s:Sw}(I:Inv iq t s){z:Pt}(h:dc tK aK5):bH e (A (tK) e) (hw oU) (j_<0):=by intro i e a0;have:=agc (p:=an (mC (fL e))) (l:=tK) ((atH Z I h).imp Qf) i e a0;unfold linesOf at this;rw[am ayE];delta yI;rw[nY];delta Lk;simp
theorem Cq(g:Nat)(A X:Row):dR (A++X)=dR A++X.map eY:=i0 dt
theorem agd:∀(A:Row)(g:Nat),dR A=an (dR A) ie++[di g A]|[],g=>rfl|(e,g')::A,g=>by rw[ab b4 (dR ((e,g')::A)) (g::dt g' A)];rw[b4,ia,List.take_succ_cons,ahn];show g::dt g' A=g::(_++[di g' A]);rw[<-(agd A g')]
theorem LZ(g:Nat)(A:Row):t (dR A)=ie+1:=i0 dt
theorem age(g:Nat)(A X:Row):ap (dR (A++X)) ie (di g A):=by rw[Cq,hx (t LZ jR),agd A g,oZ A_,eS,LZ];simp
theorem aYS(A E B d5:Row):dt 0 (hI d5)=a8t++(dt hh d5++a'k):=by have a3:a8t=an (dt 0 A) ie:=by{rw[Cq,List.take_append_of_le_length (t LZ xC)]};have a9:a'k=ajp eY:=by{rw[<-du,Cq,a3f (ac LZ cj jR),ais (ac LZ cj jR),a5u]};rw[a3,a9,Cq];rw[ab e2 (dt hh d5) ([hh]++d5.map eY)];rw[e2,du,<-du,<-agd,fe]
theorem aYT(A E B d5:Row):bH (hI d5)=an (bH (hI E)) ie++(ES++dd (bH (hI E)) (ie+VQ)):=xd bH
theorem ayG:∀(N:cH)(l c J:Nat),N≠[]->dt l Q4=l::((Xb c (iP-1))++[J])|[],_,_,_,h=>aIi|[e],l,c,J,_=>rfl|e::f::a7,l,c,J,_=>by rw[ab b4 (dt l (iE (e::ED) c J)) (l::dt c a'c)];rw[b4,(ayG ED c (c+1) J Rj)];rfl
theorem ayH:∀(d5:Row)(g j:Nat)(e:Ln),c7 ES->aa (ES) e->mr g d5 e=aa (am (dR d5) j 0,am (dR d5) (j+1) 0)|[],g,j,e,_,h=>bB|(f,g')::d5,g,j,e,nd,h=>by rw[b4 c (f∉ES/\c7 ES) bH nd];cases j with|zero=>{have:f=e:=hr bH h;rw[gm];exact cN}|succ j=>have h':aa (ES) e:=by{assumption};have:=ayH d5 g' j e c.2 h';unfold mr;rw[bj (fun(z:e=f)=>c.1 (z▸bO h')),this];rfl
theorem ayI:∀(d5:Row)(g:Nat)(e:Ln),e∉ES->mr g d5 e=ae|[],_,_,_=>rfl|(f,g')::d5,g,e,h=>by rw[b4 h' (¬e=f/\e∉ES) bH h];unfold mr;rw[L (bj h'.1) (ayI d5 g' e h'.2)]
theorem aYU(Z:bq){v a:Nat}{row:ao}(a6:bH row uz)(b3:JG)(dO:aJy):bH b (A row b) (V_ Bd) (akO<0):=by intro i b U;have:=agc (p:=Bd) (l:=row) ((a5v dO).imp (fun{x y}q=>by rw[aJ S b6 q];simp only[Iw,yE];rw[tJ];exact atz (k4 x S) (k4 y b6) (aeb Z b3) q z)) i b U;rw[nY];simp
universe GM
namespace GM
open Gla
variable{r:Plan}
theorem agf(Z:bq)(v:Nat):V b I0 uz/\c7 I0:=by rw[dI tV];{unfold BS at U;rw[hW U];simp_all};{delta BS;rw[JV,hY (VS _),re q];grind-abstractProof}
theorem ayJ(Z:bq)(v:Nat):eJ aLf I0:=by have t:=agf Z v;exact(qA t.1 ag).1
theorem ayK(Z:bq)(v:Nat):c7 Zb:=by delta Nt;rw[JV];exact((ayJ Z v).nodup_iff.mpr (agf Z v).2).imp (fun ne q=>ne (lE q).2)
noncomputable def Cr(r:Plan)(t:Nat):Nat:=w8 (bT e.1 t)
theorem agg(Z:bq)(t:Nat):Cr r (t+1)=Cr r t+t Es:=by have b4:t Es=w8 (e.1==t):=by{delta Nt;rw[bA,w4 (ayJ Z t)];delta BS;rw[bA]};rw[b4];delta Cr;induction bX with|nil=>{rfl}|cons e J d6=>rw[ac e.1 t p p p];{simp[p,vZ p,gC p,d6,Nat.add_right_comm]};{subst p;simp[d6,aDK]};{simp[a2N p,vU p,show¬e.1<t+1 from a2L p,d6]}
theorem UD(r:Plan)(t:Nat):Cr r t<=dP:=AI
theorem ow(Z:bq):∀t,ic t<=1+Cr r t|0=>by{show 1<=_;exact xC}|t+1=>by rw[dr (ow Z t)];rw[agg Z];show ic t+(t Es-1)<=_;exact cf d6 (qL (t Es) 1)
theorem aYV(Z:bq)(t:Nat):bd Es dP:=by have:=agg Z t;have:=UD r (t+1);rw[el]
theorem aYW(Z:bq){v:Nat}(d3:v<aJ):bH e (A (bH (jk v)) e) (yI r ed (jk v)) (eV eE eF ed<0):=by have Y:=hF;have I:=a__;refine ayF Z I nO;rw[jw ir,i4 beK (Gz (Yf).2)]
theorem aYX(Z:bq){t:Nat}{z:Pt}(b3:Qw)(T:oh):bbt:=by rw[eM anC];refine ayF Z I nO;rw[jw ir];exact⟨bbA,bbz⟩
theorem aYY(Z:bq){t:Nat}{e:Ln}(a0:iz)(lt:e.1<t+1):(jQ/\(ms (t+1)).side e=(ms t).side e/\e∉Es)\/z j (aa (Es) e) ((ms (t+1)).side e=(am (dt ali aK_) j 0,am (dt ali aK_) (j+1) 0)):=by have bo:=(aek Z t).1 e;rw[T e.1 t];{right;rw[n3 (bo.mpr ⟨a0,q⟩),ak j b8];have:=ayH aK_ ali j e (t mq (ayK Z t)) (t mq b8);rw[q6 (mr _ _ e),nY];rfl};{left;rw[gx (bo (q (bo.mp m).2)),cp (cw lt q) d1,q6 (mr _ _ e)];rw[ayI _ _ _ (t mq d1)];rfl}
universe GM
namespace GA
open PySem PySem.Spec PyProof.Rows L2
def SB(N:bg)(H L:Hp):Prop:=bd O9 (b∉N) alr
theorem SB.of{N:bg}{H L:Hp}(s:bQ):uy:=fun b o e _=>s b o e
theorem SB.trans{N:bg}{H a8 b7:Hp}(a:SB N H a8)(b:SB N a8 b7):SB N H b7:=fun c o e n=>b c o (a c o e n) n
theorem SB.put{N:bg}{H L:Hp}{l:Addr}{o:HO}(s:uy)(m:l∈N):SB N H (upd L l o):=fun b u e n=>Y aG' (s b u e n)
def oH(N:bg)(H:Hp):Prop:=ep N (∀O,H a≠aa tI)
theorem SB.ts{N:bg}{H L:Hp}(s:uy)(n:oH N H):QG:=fun a O e=>s a _ e (bo (n a m O e))
theorem dB.sb{I:Type}{R:kh}(A:uk){N:bg}{H L:Hp}{a:Addr}{O:ba}(h:apf)(s:uy)(n:oH N H)(m:a∉N):dB R L a O:=ld (dR q m) (s.ts n)
theorem aYZ{f g:Str}{v u:V}{J:hU}(h:¬g=f):gl ((g,u)::J)=(g,u)::gl J:=by show(v g f _ _)=_;rw[aO h]
theorem UE{f:Str}{v u:V}{J:hU}:gl ((f,u)::J)=(f,v)::J:=by show(v f f _ _)=_;rw[cN]
noncomputable def qD(b2 B X c7:Addr):hU:=aK "sides" c7 (aK "links" X aFK)
section z
variable{b2 B X c7:Addr}
theorem GY:bN uH "passed" b2:=by delta qD;rw[bga]
theorem L0:bN uH "gaps" B:=by delta qD;rw[bhj]
theorem yW:bN uH "links" X:=by delta qD;rw[aK3]
theorem aY0{f:Str}(a3:th "sides")(a9:th "links")(e2:th "gaps")(e5:th "passed"):fg uH f=ae:=by delta qD;rw[dh,ff (a3 wa),dh,ff (a9 wa),dh,ff (e2 wa),dh,ff (e5 wa)];rfl
theorem ayL:bN uH "sides" c7:=by delta qD;rw[dh,cN]
universe z
inductive ayM(C:Addr)(H:Hp)(x b2 B X c7:Addr):Prop|mk:E dx (bh x (aC C uH)) (he H)
inductive vC(H:Hp)(X:Addr)(cnt:Nat)(aP:cC):Prop|mk:∀f:ao,am X (ajQ vn)->GM.UF f cnt aP->g7 H
theorem L1{H:Hp}{X:Addr}{cnt:Nat}{aP:cC}(h:g7 H):oH [X] H:=qQ (by rw[f1 f h,OT];rw[m,q]at e;rw[dS])
theorem aY1{C H x b2 B X c7 cnt aP}(h:he H)(k:g7 H):x≠X:=by rw[cv e h,f1 f k];exact bJ e q
theorem ayM.sb{C H L x b2 B X c7 cnt aP}(h:he H)(k:g7 H)(s:uF):he L:=by have⟨dx,e⟩:=h;exact⟨dx,dR e (ax (aY1 h k))⟩
inductive ayN(C:Addr)(P:Program)(w:World)(vs:af)(H:Hp)(Q:VK)(E:XK):Prop|mk:∀(x dx:Addr),A [kN] (bh x Y7) (∀L b2 B X c7,c (fK [x]) (he L) (Y b2) (Y B) (c (Y X) (Y c7) (aj b2 []) (aj B [vn 0]) (j (vC L X 1 id) (oG P w L c7 uu 0) (X≠b2) (X≠B) (b2≠B) IP))) (ayN C P w vs H Q E)
inductive ayO(C:Addr)(vs:af)(H:Hp)(Q:VK)(E:XK):Prop|mk:∀(x b2 B X c7:Addr)(cnt:Nat)(aP:cC),e [kN] (he H) (g7 H) (j4 cnt) ((o L uF (vC L X (cnt+1) ao6) (r8 cnt))->ayO C vs H Q E)
inductive ayP(C:Addr)(vs:af)(H:Hp)(Q:VK)(E:XK):Prop|mk:∀(x b2 B X c7:Addr)(cnt n:Nat)(aP:cC),e [kN,jf] (he H) (g7 H) (n<cnt) ((o L uF (g7 L) (r8 (aP n)))->ayP C vs H Q E)
inductive ayQ(C:Addr)(vs:af)(H:Hp)(Q:VK)(E:XK):Prop|mk:∀(x b2 B X c7:Addr)(cnt a b:Nat)(aP:cC),e [.ref x,vn a,vn b] (he H) (g7 H) (a<cnt) (b<cnt->(o L uF (vC L X cnt (aEZ aP a b)) IP)->ayQ C vs H Q E)
section z
theorem aY2:T.TQ.Ok mg P w aj 1 (ayO dm):=by refine T.TQ.go aTt aL;generalize aG=e3,aA=A,aF=outer,aE=s,aD=H,aB=vs,aH=Q,aI=E;rw[aN,M ob,aX];generalize kQ=x,kR=b2,kS=B,kT=X,kU=c7,kX=cnt,k_=aP;rw[KM j,fV,bT (bo (dD bP nK) (ew ys nK)) x (a S gG zS yW (dp a5) x _ dx (a _ _ rfl S gG zS yW X (b _ rfl (cc a5) X _ rfl rfl (aJ a5 (ac bA qR (cf j fw))))))];rw[bA,qR];rw[aS b4 (ajQ vn++[g0 cnt]) (bh aan)];rw[b4];rw[iQ (Y (bJ S a5) S) (bt zS yW X ak)];have b9:kd (bh aan)-1=v cnt:=by{rw[bA,cj,qR,aBM];simp};show Q (.int (kd (bh aan)-1)) _;rw[b9];exact k _ alF (av ak d.new)
theorem ayR:T.avW.Ok mg P w aj 1 (ayP dm):=by refine T.avW.go auY aL;generalize aG=e3,aA=A,aF=outer,aE=s,aD=H,aB=vs,aH=Q,aI=E;rw[aN,M aL,aX];generalize aG=x,aA=b2,aF=B,aE=X,aD=c7,aB=cnt,aH=n,aI=aP;rw[KM nc];have ne:=bJ S a5;rw[K (bo (FX NR (dZ R_ (f2 aq) aq) (c7 (d3 (f2 (f2 aq)) bP aq) (bU 1 auY.nd (f2 aq)))) aq) (qK (M=[ac x,bE m]/\uF/\g7 L/\m<cnt/\aP m=aP n)) (c n rfl (cF (tp H)) (v f a5 d) nc rfl) ?_];refine Al;rw[co m M L];rintro⟨rfl,sb,⟨lk,h2,d⟩,c,D⟩;have G:=sb _ _ S ag;obtain⟨l,gl,i⟩:=aic c;rw[fG G (vn l) (a1 (av h2) O7 rfl)];rw[dN];rw[T l m];{rw[e_];refine adJ rfl ?_;have:=k L sb (qY h2);rw[<-D,V8 gl]at this;exact this};{rw[(ea bM)];obtain⟨p,b3,d5⟩:=aic (i8 (l<cnt) Rb);rw[d (fun g0 j1=>∃f7,f7<m/\g0=[ac x,bE f7]/\SB [X] H j1/\g7 j1/\f7<cnt/\aP f7=aP n) aaO x _ dx _ _ (b G gG zS yW x dx _ (j G gG zS yW X _ (a _ (vn l) rfl rfl (av h2) O7 X _ (f _ jN rfl (aJ (av h2) O7)))))];have g8:=bx gl;rw[fG G m (aJ h2 (LM ag)),aS a7 (bp (lk.map vn) m jN) (bh (lk.set m p))];rw[a7];rw[fG (Y ne G) jN (f (av ak) EA p bM (sb.put bK) (av ak (d.aRn gl b3 q)) (br d5 i c) ?_)];rw[HJ l p b3,HJ m l gl,D]}
theorem aY3:T.TR.Ok mg P w aj 2 (ayQ dm):=by refine T.TR.go aeS aL;generalize aG=e3,aA=A,aF=outer,aE=s,aD=H,aB=vs,aH=Q,aI=E;rw[aN,M Jv,aX];generalize EX=x,EZ=b2,E5=B,E6=X,E7=c7,E8=cnt,Fb=a,Fe=b,Ft=aP;rintro rfl S c3 k9 f k;rw[ca (L aeS.nd (H3 aq) (bU 2 aeS.nd (H3 aw)) (fE (d3 (F1 (aOs rfl) bI T.min aS0 aGi) bP bed))),yt S,c x dx ex xJ x b2 (a B X c7 cnt a aP rfl S c3 k9 (fun a8 a4 I=>?_))];have j0:=S.sb c3 a4;have⟨h4,c⟩:=j0;rw[c x h4 c xJ x b2 (a B X c7 cnt b aP rfl j0 I f a8w)];have⟨W,m1⟩:=(j0.sb I b5);have⟨lk,h2,d⟩:=f5;have F:=d.Lg k9;have i5:=d.Lg f;rw[q8 _,kV (bo (amr<amq) amr amq) (ae aaf),w amr amq amr amq (ae FA) (ik (aP a) (aP b))];rw[e];rw[ig m1 (a zS yW _ _ gJ)];rw[k1];have h5:=qR;rw[r X FA h2 (LM fR) (k _ ((eN).put bK) (v (lk.set FA aaf) aGp (d.link k9 f)))]
universe z
noncomputable def UG(l J cnt b:Nat):ao:=ct b [l] (l::(Xb cnt (b-1)++[J]))
noncomputable def UH(aP:cC)(l J cnt b:Nat):cC:=ct b (aEZ aP l J) ao6
inductive ayS(C:Addr)(vs:af)(H:Hp)(Q:VK)(E:XK):Prop|mk:∀(x b2 B X c7:Addr)(cnt l J b:Nat)(aP:cC),e [kN,vn l,vn J,vn b] (he H) (g7 H) (l<cnt) (i (J<cnt) (j4 (cnt+b)) (∀L a,c uF (Y a) (aj a (bh (UG l J cnt b))) (vC L X (cnt+(b-1)) (UH aP l J cnt b)) Pa) (ayS C vs H Q E))
noncomputable def UI(ls:mZ)(a:ao)(z:Pt)(n:Nat):iY:=match ls[n]? with|some l=>ct (NQ l.1 l.2 z) ae a[n]?|none=>a[n]?
inductive ayT(C:Addr)(vs:af)(H:Hp)(Q:VK)(E:XK):Prop|mk:∀(x b2 B X c7:Addr)(v:V)(ls:mZ)(a:ao)(z:Pt)(n:Nat),e [kN,v] (he H) (dB eR H b2 ls) (am B (a.map vn)) (b mL (wK+1) (br v z) (gN z) bdK (i (n<=wK) (bfk) (ad u (Ui H u (UI ls a z n)) (Q u H)) (ayT C vs H Q E)))
inductive ayU(vs:af)(H:Hp)(Q:VK)(E:XK):Prop|mk:∀(pv:V)(lt:Addr)(r:Gla.Plan)(v:Nat)(c:ao),e [pv,.ref lt] (br pv ed) (e3 lt (Dr bp)) (zQ r) (l (V b c uz) c.Nodup (gN ed) (V b c (gN (bp b))) (j4 gc) (zG (B (GM.aec r v c) (fw anZ))) (ayU vs H Q E))
section z
theorem aY4:T.TN.Ok mg P w aj 1 (ayN dm P w):=by refine T.TN.go aTs aL;generalize aG=e3,aA=A,aF=outer,aE=s,aD=H,aB=vs,aH=Q,aI=E;rw[aN,M fP,aX,bV x dx,ds S,w _ (fp AQ (ij T.afj) (mV (ij T.afj) af0)) cS (fun b2 a0=>cs (fm S a0) S DO (ay)),cj f b2 x,au a4 [x] (d7 an' aaR) (hm (b_ a0) bK)];have e9:bp an' aaR b2 []:=by{rw[bW f,ak]};rw[e e7 an' x aaR x aaR];generalize d7 an' aaR=a8 at a4 e9 e7;rw[kk (fun B b=>cs (fm e7 b) e7 Iz (vo ay)),cj i B x,b2 (fm e9 b)];have b5:=mM (eX (cF (ac hb b))) Qp;have f6:bp ao1 Qp b2 []:=by{rw[bW f,bW l];exact e9};have g8:bp ao1 Qp B hb:=by{rw[bW i,ak]};rw[e f5 ao1 x Qp x Qp,bo (d7 ao1 Qp) f6 g8 f5,kk (fun X d6=>cs (fm f5 d6) f5 zS (ns ay)),cj m X x,cy (fm f6 d6)];have n:=fm g8 d6;have c8:=mM (fg (cF (ac hb d6))) FI;have j0:bp Z1 FI b2 []:=by{rw[bW f,bW a];exact f6};have a5:bp Z1 FI B hb:=by{rw[bW i,bW n];exact g8};have l3:bp Z1 FI X hb:=by{rw[bW m,ak]};rw[e d Z1 x FI x FI];generalize d7 Z1 FI=d4 at c8 j0 a5 l3 d;refine fun c7 o nd o4=>?_;rw[cj j c7 x,b x _ dx _ rfl (Y ajZ d) gG T.afl (as (ns (vo ay))),z c (upd d4 c7 o x=aa FI) (bW ajZ) d];refine k _ b2 B X c7 (mM (wN (cF (b_ (o:=o) nd))) (aC dm uH)) (sC ak) a0 (by cases q:H B with|none=>{rfl}|some o=>have:=a4 _ _ q ag;rw[oS b];cases b) (ca X (b5 _ _ q ag) d6 d6) (ca c7 (c8 _ _ q ah) nd nd) ?_ ?_ ?_ ?_ a.symm n.symm l;{rw[bW f,gD j0 nd];exact j0};{rw[bW i,gD a5 nd];exact a5};rw[cv [0] (ac (bW m) (gD l3 nd) l3) GM.aRm,l (o4.go (nE c) (fun g e=>Y j e))]
theorem aY5:T.TU.Ok mg P w aj 3 (ayT dm):=by refine T.TU.go aeT aL;generalize aG=e3,aA=A,aF=outer,aE=s,aD=H,aB=vs,aH=Q,aI=E;rw[aN,M amh,aX];generalize YV=x,aV cP=b2,bU cP=B,cD cP=X,bX cP=c7,ct cP=v,du cP=ls,d5 cP=a,fp cP=z,ZM=n;rintro rfl⟨dx,S⟩c2 d8 gl d3 e8 sl d6 d1 k;rw[tr (id c2),bT (X aeT.nd (bh afo bP aq) (ai lq aw nK (bU 3 aeT.nd (f2 aw)) (D gM (Z awM xU xU aq) bE cu)) (de (f2 aw))) x (a S gG DO GY b2 v ls z (a n rfl c2.ls d3 e8 sl d6 d1 (GV (bt DO GY b2 hu))))];rw[aj0];have r:K a n a[n]:=da eO;rw[dZ UI,kj];{have C:n<wK:=by{rw[fF (Bn c)]};have b4:=da C;have sm:=sl _ (s_ C);rw[bs b4,c u d b e7 f5 U r1 r2 (mx a9 b4),iQ S (u DO GY b2 _ (u (av hu) (dX d) b _ (u pG dg b _ (a pG dq _ _ z (cz r1 r2 d3) sm.1 sm.2 (aP e8 ?_)))))];rw[dN];rw[T (NQ ls[n].1 ls[n].2 z) 0];{simp only[q,mJ]at k;rw[dH q];exact(k _ rfl)};{simp only[q,iR,r]at k;rw[ea q];rw[iQ S beu]}};{rw[zz (x (Bo c)),r]at k;exact GV beu}
theorem aY6:T.TV.Ok mg P w aj 3 (ayS dm):=by refine T.TV.go aeU aL;generalize aG=e3,aA=A,aF=outer,aE=s,aD=H,aB=vs,aH=Q,aI=E;rw[aN,M amh,aX];generalize YV=x,aV cP=b2,bU cP=B,cD cP=X,bX cP=c7,ct cP=cnt,du cP=l,d5 cP=J,fp cP=b,ZM=aP;rintro rfl S c3 g r j k;delta UG UH at k;rw[fV,q8 (b4 (rX (dZ gM bb bE) (bo (yq (jk bS gG T.TR.h (ez aY3) a6 T.TR.b .nil fp aGi)) (d9 aq)) Bt) (e aeU.nd 4 (ot (ew ys bb)) (cj "number" 5) (ci 5 aeU.nd) kK (bC (Se bS gG T.TQ.h (ez aY2) a6 T.TQ.b .nil fp))) (cY (d9 aq) bR (d9 aw)))];rw[dN];rw[d3 n b];{subst n;rw[yt S,c x dx ex xJ x b2 (a B X c7 cnt l J aP rfl (a S c3 g r (fun a8 a4 I=>⟨(ag),fun a b0=>?_⟩))),cD d6 a I b0];rw[cN,cN]at k;refine k _ a (eX (lK b0)) (by cases q:H a with|none=>{rfl}|some o=>have:=a4 _ _ q fR;rw[oS b0];cases b0) ak ?_;rw[qP I];exact qY (Y d6 e)};{rw[(ea ag)];rw[j (ae (b-1)) (gz (J [cp z]) (bt (ahu (VO n)))) aQ eO a86];rw[iQ];rw[cD p D c3 m,fH (b-1) (yQ uF (aj D (v5 i)) (vC L X (cnt+i) ao6)) (aJ (lK m) (dc ak))];{rw[qP c3];exact v lk (Y p e) (d.congr (aJ ag))};{rintro i L hi⟨s,f,Y⟩;have G:=S.sb c3 s;rw[yt G,im (a x dx _ rfl ex xJ x b2 (a B X c7 (cnt+i) _ rfl G Y (br j hi (qL b 1)) a8w)),K (b5 _ _ f fR) fR ?_ Pb,DQ ((il b5) c o g7 nc)];{rw[ak,List.range'_concat];simp};{rw[qP f5,aa lk (Y p e) (d.congr qj)];by_cases q:IW;{simp at*;lia};rw[aZ]}};rintro b7⟨s,f,f5⟩;rw[v (ag) (fun e0 n1=>?_),n e0 D ak (co n1 f) ⟨fR,fun g0 n2=>⟨(ah),fun d0 u=>m g0 d0 (co u ak) ak ⟨fR,fun R y=>?_⟩⟩⟩];have c0:=J aMg (ac (([vn l]++v5 (b-1))++[vn J]) y);rw[bj n,bj n]at k;refine k _ R (il (cF c0)) (ca R ((aMg) _ _ (dR q (ax (J (by rw[qP f5];have:=(aMg) _ _ e;rw[b2 this y];cases y))))) y y) (nN ak) ?_;rw[qP f5];exact qY (c0 _ _ e)}
universe z
section z
theorem aY7:T.avX.Ok P w aj 3 ayU:=by refine T.avX.go aeV aL;generalize aG=e3,aA=A,aF=outer,aE=s,aD=H,aB=vs,aH=Q,aI=E;rw[aN,M iw,aX,F u lt r v c];rintro rfl c2⟨b1,hu,a9⟩Z l nd a0 st q k;rw[fV,w _ (X aeV.nd AQ (bd aq 3 aeV.nd (yq (adp aj1 PySem.F.slot_list_insert PySem.F.type_list_insert aV9 aw (sA (bh afo aw bb) (as bS bb))))) (de aw)) cS aJL,gO (ap c0 []) c1,a7 lt (di hu) (bV b1 (bi (∃j8,M=[aa u,ac lt,OM,j8]) bQ (dB eR L c0 (B Z8 (fw anZ)))) (a qf a4 [] ak .nil) hu)];{rintro i x M L S⟨⟨j8,rfl⟩,s,e⟩;rw[aW p a3 a9 S,gv a3,a2 a b3 a3];have a8:=bO b3;rw[aK (Xf (i+1)) (Xf i) a b3];have d8:=GM.aed Z (Xf i) [] a7c (db (l b (qS U))) (ax (a5k (aBE _ _) nd)) .nil;rw[cg mem (fJ Z8 c) (by have:=d8.1.mem_iff.mp U;rw[pr a5u];exact qS this)];have len:t Z8<=gc:=by{rw[d8.1.length_eq];simp;exact(oO i gc)};rw[cr c9 (CE (Xf (i+1))) (aE0 r v Z8 a)];rw[c9];generalize Z8=R at*;rw[bE d3 d (id e)];have i5:=oS;rw[bA]at i5;have B:bd aLo R.length:=aIk;rw[bJ (bL s J),g (dp d3) c0 x (R.map (fw anZ)) ri (t aLo) e.ls (a m (st a a8) Q1 ah (as aIM))];{rw[a3 b U b6];exact⟨a0,st b (mem b U)⟩};{rw[gv b8,a2 b U b8];exact(GM.aYU Z (db (l b (mem b U))) (l a a8) d8.2) j b U};rw[v (ah) (fun t h7=>?_),T f L aKb h7];have g:=f _ _ d3;have i0:eR aKb nu anZ:=m t u x (v ak (bL (il f) c2) (bL f m));rw[gU (il f)];have o:=cc (cO f) d;generalize aKb=b7 at g i0 b5 o;generalize d1:t aLo=n at*;have h8:=Gx (o:= .lst bdn) g;rw[c c0 vs n nu rfl g ag (a (c_ i5.l len q) ei (fG b5 c1) bdn (as ak)),dR d2 (aE0 r v R a) (R.take n++a::R.drop n)];rw[d2,fe,c_,Df,Dg];have j0:=cc h8 o;exact oA (sv n j0) (.cons (tn h8 i0) (Ca n j0))};rw[bJ L j8 s e];have h5:=aj0;rw[bA]at h5;rw[c_ h5 e,fF (k c0 L s c1 e)]
universe z
structure sG(C:Addr)(P:Program)(w:World)(r:Gla.Plan)(H:Hp)(x b2 B X c7:Addr)(s:GM.Sw)(t:Nat):Prop where
 at_:he H
 p:dB eR H b2 (B (tq oU) (jH r))
 g:am B (bh (IA 0 oU))
 k:vC H X ec eK
 d:∃f n,oG P w H c7 f n/\n<=GM.Cr r t/\hN (jQ->zS (fr (bx YW amj)))
 n1:X≠b2
 n2:X≠B
theorem sG.nt{C P w r H x b2 B X c7 s t}(h:anE):oH aaE H:=qQ (by rw[cv d2 mV,hY lk h.k];obtain⟨f,n,⟨F,q3,_,_,_⟩,_⟩:=h.d;rw[Bg,apE,az,az];{rw[a6 q3,dS]})
theorem sG.mono{C P w r H L x b2 B X c7 s t}(h:anE)(sm:bQ):iJ L s:=by rw[cv d2 mV,bbu,y9 q3];exact r (sC (sm _ _ d2)) (aiX gx sm) (sm _ _ h.g) (qY (sm _ _ q2)) (D.mono sm) (q3 e a0 lt) (sm _ _ b9)
noncomputable def swL(b2 B X c7:Addr):hU:=[fE "passed" b2,fE "gaps" B,a'e,fE "sides" c7]
theorem L3(b2 B X c7:Addr):uH=swL b2 B X c7:=by delta qD;show aK "sides" c7 (aK "links" X (aK "gaps" B [("passed",YC)]))=_;rw[rG];rw[rG,rG];show aK "sides" c7 [fE "passed" b2,fE "gaps" B,a'e]=_;rw[rG,rG,rG];rfl
theorem aY8(b2 B X c7 l:Addr):kk "passed" cB uH=qD l B X c7:=by rw[L3,L3];delta swL;rw[UE]
theorem aY9(b2 B X c7 l:Addr):kk "gaps" cB uH=qD b2 l X c7:=by rw[L3,L3];delta swL;rw[rG,UE]
theorem aY_(b2 B X c7:Addr):t uH<1000:=by rw[L3];show 4<1000;decide
inductive ayV(C:Addr)(P:Program)(w:World)(vs:af)(H:Hp)(Q:VK)(E:XK):Prop|mk:∀(x b2 B X c7:Addr)(r:Gla.Plan)(t:Nat)(pv:V)(lt:Addr),e [kN,pv,vn (t aGB),.ref lt] a'm (br pv (bp t)) (e3 lt (B anK bp)) (j (zQ r) (t<aJ) (V p dd (gN p)) aHJ (∀L e7 d,c (fK aaE) (Y e7) (Y d) (sG C P w r L x e7 d X c7 (mY r (t+1)) (t+1)) IP) (ayV C P w vs H Q E))
theorem ayW{r:Gla.Plan}(Z:zQ r){i j:Nat}(hi:gX)(b8:oe)(h:eG=bp j):i=j:=by have O:∀{a b},a<b->b<aJ->ri≠bp b:=fun{a b}lt U z=>by{have:=Na Z.dO a b EG U lt;rw[<-wM (b7 lt U),<-wM U,z]at this;exact GM.mv _ this};rw[fd i j,az,iy,cK]
theorem agi{N d5:bg}{H L:Hp}(s:uy)(h:ep N (a∈d5)):fK d5:=fun c o e n=>s c o e (bo (n (h c m)))
section z
theorem mi2{a b c s:Nat}(h:b+c<=s):aae+c<=s:=cn (a5w (oO ..) _) h
theorem mi3{a b c d e s:Nat}(h:b+c+d<=s):aae+c+(d-e)<=s:=cn (aDV (a5w (oO ..) _) (qL ..)) h
theorem aY':T.TX.Ok mg P w aj 4 (ayV dm P w):=by refine T.TX.go aTu aL;generalize aG=e3,aA=A,aF=outer,aE=s,aD=H,aB=vs,aH=Q,aI=E;rw[aN,M Jv,aX];generalize EX=x,EZ=b2,E5=B,E6=X,E7=c7,E8=r,Fb=t,Fe=u,Ft=lt;rintro rfl d5 c2 c6 Z l e8 j7 k;rw[Bm,dv sm (ia (gN eG)) (e8 _ (DR hi)),eM (GM.qz Z t (ew l))];have parts:=GM.Ll r (bp t) akM;have e9:=GM.ow Z t;rw[gx (GM.UD r t)];have h7:=GM.aYV Z t;have bs:=GM.agg Z t;have r4:=GM.UD r (t+1);have C:=GM.agf Z t;have D:=GM.aYW Z l;have r5:=fun{e:Nat×Nat}(a0:e∈bX)(lt:e.1<t+1)=>GM.aYY Z a0 lt;rw[ab o8 (aHo).row (alR++(aE_ Ri (Ox).cnt a99++bcp)),ab r6 (aHo).cnt ((Ox).cnt+(t Ri-1)),ab u_ (aHo).aP (v Ri [] (aEZ (Ox).aP (DQ 0 alR) a99) (eb (x<(Ox).cnt) ((Ox).aP x) x))];have r7:B (GM.aec r t anK) (fw (bp t,ri))=B Ri (jH r):=by{delta a5z;rw[jw];rfl};rw[ak r8 Ri iz (p5 bbk)];have r9:=GM.ayK Z t;generalize mY r (t+1)=a4 at*;generalize alR=c at*;generalize aGB=d at*;generalize bcp=RB at*;generalize mY r t=s0 at*;generalize hN:Ri=N at*;rw[ca (i 4 Xj (bh afo bP aq) (bU 5 Xj (bh aY7 aq bb)) (i 6 Xj (jk bS gG T.TV.h (ez aY6) a6 T.TV.b .nil fp (yR (f2 bR) (f2 aII) (dN cI))) (t cI 7 Xj 8 Xj (afZ wc bP kf (as (bs eu ke) (bs eu (hp ke))) rfl)) (mV (cY (hF bP bR) cI (sv aII)) (cY (hF bP bR) eu (sv (hp aII)))))),cv S Xi,tr d5.p,oU (t (tq Xh)) aj2];have nA:gc<=t (tq Xh):=by{rw[i7,lC];simp};rw[iQ S (a DO GY b2 u (B (tq Xh) (jH r)) (bp t) gc rfl (a d5.p.ls c2 (sm t l) Q1 (t bA nA) aIM ?_))];{rw[hW b6];have:=fZ e (p5 ir);exact⟨sm _ Q3,sm _ fj⟩};{rw[gv b8,a2 e a0 b8];exact D j e a0};have h8:t anK<=dP:=by{delta aj7;rw[bA];exact AI};rw[c u lt r t anK c2 c6 (a Z C.1 C.2 (sm t l) (db (sm b (fZ _ (C.1 b U)).2)) (bn h8 j7) (fun i5 a8 d2 n5 k5=>?_))];rw[r7]at k5;have Y:=d5.mono d2;obtain⟨h4,j0⟩:=aj6;have gl:IJ<=aj2:=by{simp[*]};have g7:ap Ou gc (vn Zs):=by{rw[cz,lC,GM.age];rfl};have g8:ap Ou IJ (vn (DQ Zs d)):=by{have:=GM.age 0 (c++d) RB;rw[du,<-lC,cj,GM.oq]at this;rw[cz,this];rfl};obtain⟨p,o9,p0⟩:=id k5;have s6:Zs<DP:=Hs _ (ac lC GM.Cq (vO _ (GM.sg c 0)));have s7:DQ Zs d<DP:=Hs _ (by rw[lC,<-du,GM.Cq,<-GM.oq];exact vO _ (GM.sg (c++d) 0));generalize s8:Zs=h9 at*;generalize DQ h9 d=b5 at*;have n6:=p0.length;rw[bA]at n6;rw[c x h4 j0 xJ x _ (a h4 _ _ rfl j0 gG Iz L0 (D B h9 (av Y.g) (dX g7) (i x _ h4 _ j0 gG (u Iz L0 B (vn b5) (bt (av Y.g) (dX (j:=IJ) g8) i5 o9)))))];rw[n6];rw[b x b2 B X c7 DP h9 b5 (a iP s0.aP rfl aj6 Y.k s6 s7 (x (uP e9 bs.g r4 j7)) (fun b7 k7 q2 x1 k2 f5=>?_))];have s9:UG h9 b5 DP iP=aJJ:=by{delta UG;rw[N z N []];{rw[z];rfl};{rw[bj (ai (z (NO q))),GM.ayG N _ _ _ z]}};have v:UH s0.aP h9 b5 DP iP=a4.aP:=by{rw[u_];delta UH;rw[N z N []];{simp};{simp}};rw[s9]at k2;rw[v,<-r6]at f5;have p1:t aJJ=iP+1:=by{rw[Xg];rw[ik (GM.mq N DP b5)];unfold GM.linesOf at this;rw[am bA,xD]};generalize hG:aJJ=G at*;have k1:=L1 Y.k;have m2:=q2.ts k1;have j6:=Y.at_.sb Y.k q2;obtain⟨x2,t2,_⟩:=Y.k;have t4:H X≠ae:=by{rw[ge lk d5.k];rw[e];rw[Bi]};rw[M t5 i5 X (t4 (bl z n5)),cj x3 k7 X];obtain⟨g4,n1,k3,t6,t7⟩:=Y.d;rw[M p2 c7 X (by rw[gb q k3,b2 t2 q,kG]),ab m3 x c7 k3 j0];have i4:oG P w b7 c7 g4 n1:=k3.go m2 (eB (lA e p2));have c5:=lA o9 t5;have m4:=cc m2 p0;obtain⟨sx,l8,t8⟩:=Y.p;have l9:=lA l8 d5.n1.symm;have t9:=cc m2 t8;have p3:=lA Y.g d5.n2.symm;rw[au o7 aaE b7 (J (cF d2) (agi q2 ah)),ab p4 k7 c7 i4 k2,ab m7 i5 c7 i4 c5,ab u0 b2 c7 i4 l9,ab u1 B c7 i4 p3];have inj:hN (∀d3∈bX,gO xv=gO (jH r d3)->e=d3):=fun e a0 d3 V q=>by{have q:=ayv q;unfold GM.aYR at q;rw[cy x_,cb (fZ d3 V)];exact qy q (lE q).2};rw[kq m1 j6,bA i5 c5 (bv iP (bi (vm (fun j3 i9=>M=[ac x,aa u,bE oS,ac lt,bE gc,ac i5,ac k7,j3,i9])) (SB [c7] b7 L) (vm (fun f n=>vl (oG P w L c7 f n) (n<=GM.Cr r t+i) (hN (jQ->zS (hB (bx (s0.side e).1 (s0.side e).2)))) (P e (j<i) N e (zS (hB (bx (IB j 0) (IB (j+1) 0)))))))) (a J9 (cF eg) g4 n1 i4 t6 (wc (nM (t7 e a0 lt) (m2 _ _ b9))) (fun j e b8=>Ao)))];{rw[pm sb];exact as (dx p ag) (av aKc) pF};rw[iX sb (cd aKc (x n6.l))];{rintro i M L d7 d4 hi⟨⟨j3,i9,rfl⟩,sb,f,n,h3,a3,d8,f9⟩⟨d6,y,rfl,k4,rfl,b6⟩;rw[n2 (av aKc)];have k8:A N N[i]:=pI;have m9:N[i]∈N:=s_ hi;generalize N[i]=e at k8 m9;rw[bhd];have m8:=aj4 n7;obtain⟨i1,h1,rv⟩:=oz m4 b6;rw[cz,k8]at h1;rw[b7 h1 xv i1 h1];subst h1;rw[T c8 L (ko hK) k4,d4 l5 hK hK];generalize ko hK=d4 at c8 l5;have f6:=aj5 (cF c8);have p5:=tn (m8.trans (cO c8)) rv;rw[px u2 p5];have i2:=f6 _ _ m1 (ax m3);have l6:=f6 _ _ k2 (ax p4);rw[aW d6 (cx l5) gJ,bv gi (j<iP+1) (aa (PN) (vn (IB j 0))) (p7 (getD_some ag)),ai k7 (av l6) (dX (gi i I_)) (m k7 _ (av l6) (dX (j:=i+1) (gi (i+1) ag)) ⟨es,fun c3 u3=>?_⟩),l d9 d4 d4 c3 aKX u3,e p6 d4 c3 aKX c3 (bx (IB i 0) (IB (i+1) 0)),m d4 c3 aKX e4 d9 p6];have k9:=f6.trans (cF d9);have n0:=Ed;rw[ig (fG i2) (a T.afl ayL c7 u2 (gO xv) f n rfl (a rfl (h3.mono n0) (na (tn (cO d9) p5)) CK ⟨l_,fun o k6=>?_⟩))];have u4:=h3.mono n0;obtain⟨x4,i6,_,_,_⟩:=u4;rw[ae J e4 (upd e4 c7 o) (nE i6)];obtain⟨le,b4⟩:=x bbk (t hN m9);rw[e (bm _) (k9.put bK) _ _ k6 (x (aDY bG)) (fun d3 V lt'=>?_) (fun j d3 b8 V=>?_)];{rw[q7 (d8 d3 V lt')];have ne:a_R:=ai (by have:=inj d3 V e le q;rw[this,b4]at lt';simp_all);exact bfc};{rw[T j i];{rw[e_];rw[k8]at V;rw[b7 V e d3 V];subst V;exact v c3 aQ (J _ _ p6)};{rw[q7 (f9 j d3 Yj V)];have u5:=r8 d3 (bO V);have ne:a_R:=J (by have:=inj d3 u5 e le z;rw[gm];exact q (F5 r9 V k8));exact bfc}}};rintro M d4⟨⟨j3,i9,rfl⟩,sb,f,n,h3,a3,d8,f9⟩;rw[bhd];have m8:=aj4 n7;have i2:=dT m1 m3;have p9:=dT l9 u0;have u6:=dT c5 m7;have l6:=dT p3 u1;have q0:=dT k2 p4;obtain⟨u7,u9,Un⟩:=f5;have n2:=dT u9 p2.symm;have q1:=cc m8 t9;have v3:=cc m8 m4;have h5:=q1.length;rw[bA,i7]at h5;have x5:aj2<=dP:=by{have nd:c7 (tq Xh):=I.dO.imp (fun q z=>by rw[rq];exact q.asymm q);rw[dh nd bX (f3 (p5 ir))];simp_all only};rw[au n8 aaE d4 (o7.trans (agi sb aQ)),ig i2 (K DO GY b2 (av p9) (fun e0 g9=>?_))];rw[yU sx gc];rw[T e5 d4 (U d4 e0 xy) g9,a b4 d4 e0 xy e0 xy,i d4 e0 xy p7 e5 b4,n e0 i5 b4 (e5 _ _ u6) ⟨t eS (mi2 bM),fun g0 e1=>?_⟩];have e6:=a5y (bs xy p e1);rw[a b9 p7 g0 (xy++p) g0 (xy++p),i p7 g0 (xy++p) p8 e6 b9,ig (e6 _ _ i2) (K DO GY b2 (av (e6 _ _ p9)) (fun d0 j5=>?_)),aa sx (aa (v gc+v oS)) I4 sx IJ];have c1:=ac I4 j5;rw[a e7 p8 d0 I4 d0 I4,i p8 d0 I4 v9 c1 e7,n g0 d0 (c1 _ _ b9) e7 ⟨by simp only[cj,eS,sL];exact mi3 bM,fun R b0=>?_⟩];have i0:=J (aj3 c1) (bs (xy++p) I4 b0);rw[a g5 v9 R aLG R aLG,i v9 R aLG m5 i0 g5];have n9:=i0 _ _ i2;have o1:R≠x:=bJ g5 n9;rw[M q4 R X (mB (xL n2) b0),pq n9 DO];rw[aY8];rw[z v5 (uQ (m5 x)) n9 CK,ae J m5 (d7 m5 Zo) (yP v5),cn i3 (m5 b) (upd m5 x Zo b) (Y a5 e),e l1 m5 x Zo x Zo];generalize d7 m5 Zo=m6 at J i3 l1;have q5:x≠X:=bJ i2 n2;have v7:B≠x:=bJ l6 i2;have v8:k7≠x:=bJ q0 i2;have g6:=ib v7 l6;have w0:=ib v8 q0;rw[ig l1 (K Iz L0 B (av g6) (fun h2 c0=>?_))];rw[yU _ gc];rw[T o2 m6 (U m6 h2 Bj) c0,a j1 m6 h2 Bj h2 Bj,i m6 h2 Bj q6 o2 j1];have x6:t Ou=aj2+1:=by{rw[bA,Xg]};rw[n h2 k7 j1 (o2 _ _ w0) ⟨by rw[eS,bA,bA,p1,Xg];exact mi2 bM,fun e2 f7=>?_⟩];have l0:=o2.trans (bs Bj PN f7);rw[a j2 q6 e2 (Bj++PN) e2 (Bj++PN),i q6 e2 (Bj++PN) q7 l0 j2,ig (l0 _ _ l1) (K Iz L0 B (av (l0 _ _ g6)) (fun i8 w1=>?_)),aa Ou (aa (v gc+v oS+1)) Ru _ (IJ+1)];have k0:=ac Ru w1;rw[a j9 q7 i8 Ru i8 Ru,i q7 i8 Ru q8 k0 j9,n e2 i8 (k0 _ _ j2) j9 ⟨by simp only[cj,eS,sL,bA,p1,Xg];exact mi3 bM,fun b3 n3=>?_⟩];have w2:Bj++PN++Ru=Y6:=by{rw[o8,GM.aYS c d RB (aE_ N DP b5),<-lC,fe,fe,Df,Dg,du,s8,hG]};rw[w2];have l2:=J (a5x k0) (ac Y6 n3);rw[a j8 q8 b3 Y6 b3 Y6,i q8 b3 Y6 l4 l2 j8];have o3:=l2 _ _ l1;have o4:b3≠x:=bJ j8 o3;have w3:=ib q5.symm n2;rw[M q9 b3 X (mB (x0 w3) n3),pq o3 Iz];rw[aY9];rw[ae r0 l4 (d7 l4 aaw) (nE o3),cn n4 (l4 b) (upd l4 x aaw b) (Y a5 e),e r1 l4 x aaw x aaw];generalize d7 l4 aaw=o5 at r0 n4 r1;rw[ae l7 d4 o5 (b_ (J (cO i0) J) (cO l2) r0),cn o6 (d4 b) (o5 b) (n4 _ _ a5 (l2 _ _ (ib a5 e)))];have r2:d4 c7≠ae:=by{rw[gb q h3];rw[q];rw[Bi]};rw[d w4 (H R) (H R) w5 R (xL c4) b0 (xL (n8 _ _ q (bx o1 q4 w5))) b0,d w6 (H b3) (H b3) w7 b3 (x0 (ib m3.symm c4)) n3 (x0 (ib o4 (n8 _ _ q (bx o4 q9 w7)))) n3];refine k o5 R b3 (fun b o e a5=>?_) w4 w6 (a ⟨W,r1⟩ ?_ (n4 _ _ o4 j8) (v u7 (o6 _ _ q5.symm n2) Un) (a f n (h3.go l7 (eB (o6 _ _ m3.symm e))) ag (fun e a0 lt=>?_)) q4.symm q9.symm);{have w8:b≠x:=J (a5 (ar z));exact o6 _ _ w8 (n8 b o e a5)};{rw[ca (n4 _ _ o1 (l2 _ _ (i3 _ _ o1 g5)))];rw[o8,GM.aYT c d RB,GM.mq,fe,fe,Df,Dg,<-lC,<-du];have r3:=cc l7 q1;have w9:=cc l7 v3;exact oA (oA (sv _ r3) w9) (Ca _ r3)};{rcases r5 a0 lt with⟨lt',a7,_⟩|⟨j,b8,a7⟩;{rw[q7 (d8 e a0 lt')];exact v b h2 (t a7 (l7 _ _ e2))};{have j4:j<iP:=bx b8;rw[q7 (f9 j e j4 b8),ak b h2];rw[a7];exact l7 _ _ e2}}
universe z
abbrev yX{I:Type}(O:JI):kh:=fun H v a=>Lw (B (O a) cp) H v
theorem ayZ{I:Type}(O:JI):lu (yX O):=sh (by rw[bF e h e0];exact v b e (bv h))
theorem ay0{I:Type}{O:JI}{H:Hp}{d7:af}{Z:ba}(q:dD (yX O H) d7 Z):∃b1:pV,d7=vz b1/\EB=ahy O/\Us H b1:=by induction q with|nil=>{exact bj [] rfl (lx (by cases m))}|cons J t i=>rw[bF e h J,q_ i,w ((b,O _)::b1) ?_ (gz _ b9) a7d];{rw[e,b4];rfl};{rw[cY (h_ m),Z z h,l (e7 t z)]}
theorem ay1{I:Type}{O:JI}{H:Hp}:∀{b1:pV}{W:ba},EB=aE' O->Us H b1->dD (yX O H) (vz b1) W|[],[],_,_=> .nil|u::b1,a::W,e,h=>by rw[c_,c_]at e;injection e with b4 b9;refine .cons (aP u.1 ?_) (ay1 b9 (lx (h t (ck m))));rw[<-b4];exact h u bK
theorem ay2{I:Type}{O:JI}{b1:pV}{W:ba}(e:EB=aE' O)(p:a4S aKv):aLp:=by have e9:eM EB (li (mK y x=ai)):=a3q p;rw[e]at e9;exact List.pairwise_map.mp e9
theorem agj{I:Type}{O:JI}{K:Fg}{w:World}{H:Hp}{Q:VK}{a:Addr}{Z:ba}(h:bat)(ne:a_I)(z:a1 fK)(q:∀p o W,c (W.Perm Z) (aLp) (Y p) (dB (yX O) amN p W) (Q fO amN)):LU K w uf H Q:=by rw[cy d7 c0 c5,q_ (ay0 c5),Jm,b9 h5 ly fK b9,y a b1 e7 (o9 I5 (.inl c0)),KP (Ik m)];{obtain⟨W,C,n⟩:=afV O aJb Z b9;refine q p _ W C (ay2 n po) a0 (o0 (b_ a0) (aEv m))}
theorem agk{I:Type}{O:JI}(inj:j x y (O x=O y) (x=y)){K:Fg}{w:World}{H:Hp}{Q:VK}{a:Addr}{Z:ba}(h:bat)(ne:a_I)(c:fK<=100000)(z:∃B:ba,eB<9000/\aK Z nq)(q:∀p L W,l (gR W Z) W.Nodup (aLp) bQ (Y p) (dB (yX O) L p W) (Q fO L)):Uu K w uf H (fun v a8=>LU K w [v] a8 Q):=by rw[cy d7 c0 c5,q_ (ay0 c5),Jm,b9 h5 ly fK b9,fV,y a b1 c0 (v e7 (fun m nd c4=>by rw[dO h7 hB z,dh nd (ajp O) (fun k c3=>by have a3:=c4 k c3;rw[b9]at a3;rw[aO x S (zm a3),xE];exact Ik (hB x S)),am bA];exact Rb) (fun r a7 vs F sub nd mem nS=>?_)),gO a_x nS,bL i5 iO ly (a5A (o8 eY nd) (lx (sub t m))),y r vs (lx ((cO a4) _ _ (e7 t (sub t m)))) (o9 (c_ i5 h5.l c) (.inr (v a7 ak F))),KP (Ik (sub t m))];{have ex:Ho (Vk eY):=by{have b3:∀l:fA,V k l (k∈ahy O)->Ho l:=by{rw[rD];induction l with|nil=>{rw[Yi]}|cons k J d6=>intro c3;rw[bH e c9 (d6 (fun G m=>c3 G (ck m))),lf ex (zm (c3 k fu))];exact v (x::f) (by rw[c_,ex,<-e]) (fun y U=>by rw[cY (h_ U),aZ,l (c9 y z)])};exact b3 _ (fun k m=>bl b9 (x (mem k) m))};rw[bH f5 c9 ex];obtain⟨W,C,n⟩:=afV O aJb f f5;rw[gU (eX (ac (vz g) a0))];refine q p _ W (ab (by constructor;rw[l (bo (c9 x (C.mem_iff.mp m)))];{intro m;have:O x∈Vk eY:=h1 _ (t b9 (Ik m));rw[am f5,aO y b6 (zm this)];rw[<-inj _ _ e];exact C.mem_iff.mpr b6})) (by have n1:=(aJb).nodup_iff.mpr nd;rw[n]at n1;exact o8 O n1) (ay2 n po) b5 (gV a0) (o0 b5 (sub t (aEv m)))}
noncomputable abbrev sH(p:Pt):aT:=yj
noncomputable abbrev GZ(e:fz):aT:=dn e.1 e.2
noncomputable abbrev L4(m:Gla.Mark):aT:=[v ih,v ij,v jx,v kB]
noncomputable abbrev Cs(e:alu):aT:=[v e.1.y,v e.1.x,v e.2]
universe GA
namespace GM
open Gla
variable{r:Plan}
theorem aZa(Z:bq){t:Nat}{z:Pt}(b3:r.w<z.x)(T:oh){e:Ln}(a0:e∈bH iZ):j_<0:=by rw[jw ((anC).mem e),aoQ,gw (aj8 (mR e.1 Ai)),fe (aj8 (mQ e.2 m.2.2 l.2))];have e7:=HB (i:=e.1) ZQ;have f5:=HB (i:=e.2) l.2;generalize eE=p at*;generalize eF=q at*;have b4:J8= -(bdv)-be9:=by{rw[ub];grind};rw[b4];have a:0<bdv:=hD bM (FZ e7);have b:0<=be9:=sY bM (FZ f5);exact Km a b
theorem aZb(Z:bq){t:Nat}{z:Pt}(T:oh):bbt:=by by_cases b3:Qw;rw[l (aYX Z b3 T)];{rw[ak al (bH iZ) (j_<0) (aZa Z (x (aNl b3)) T a0)];intro i e a0;have le:hw iZ=iZ:=by{delta yI;have O:∀J:Row,bk J (i0 x.1.1 x.1.2<0)->J.takeWhile aHb=J:=by{intro J;induction J with|nil=>{rw[Yi]}|cons x J d6=>rw[eD];rw[ajY (so Lk),d6 aIP]};exact O _ (aJ (al x.1 (Ik S)))};rw[le];have X:=bx a0;unfold linesOf at X;rw[bA]at X;exact⟨au (al e uj),au X⟩}
theorem aZc(Z:bq){t:Nat}{z:Pt}(T:oh):Ae=t:=by delta Gn;have e:dd=We t++Xk t:=aGc;have a3:cz (We t) (oY z=ab):=fun p c2=>by{rw[wv (aFa c2)];have X:i<t:=fH (bx hi) (List.length_take_le _ _);rw[sS X]at hi;have:=mR i X;rw[f1 (bx hi),am (si a5),da a5 hi];cases hi;exact this};rw[e,List.takeWhile_append_of_pos (gS (a3 p c2))];have a9:(Xk t).takeWhile Qd=[]:=by{cases q:Xk t with|nil=>{rfl}|cons p J=>have hi:K dd t p:=by{rw[<-List.head?_drop,q];rfl};have X:=bx hi;have:=mQ t a_ X;rw[am (si X),da X hi];cases hi;rw[ajX];intro d3;rw[cy (aj8 this),cb (aj8 d3)];exact cb (FO a b) (jr _) (cj (jr _ k.2))};rw[a9,qJ,eS];have:=wo;exact qO Er
noncomputable def UJ(r:Plan)(z:Pt)(row:Row):iY:=bg9
theorem aZd{z:Pt}(h:z∈dd):Fv=ae:=so BV
theorem ay3(Z:bq){t:Nat}{z:Pt}(T:oh):Fv=UJ r z iZ:=by delta BV UJ;simp only;rw[aZc Z T,bj (c8 (by rw[h1 (Nr h),pu (si hi),al (ik i t),cZ (mR i q) e (mv _ this),cZ (mQ i q hi) e (mv _ this)]))];all_goals rfl
theorem aZe(Z:bq){z:Pt}(h:ia (qD z)):Fv=aa 0:=by rw[ay3 Z (v a_ h (fun i a b=>fk))];have e:jk aJ=[]:=by{cases q:jk aJ with|nil=>{rfl}|cons x J=>have:x.1∈bH (jk aJ):=t q zX;rw[bJ (x ((qz Z aJ a_).mem x.1) this),b2 (fZ x.1 m.1)];lia-abstractProof};rw[e];rfl
theorem aZf(Z:bq){z:Pt}{g:Nat}(h:Fv=aa g):g<AZ:=by have d:eR cL (ic a<=ic b):=fun a b le=>by{induction le with|refl=>{exact a_}| @step m _ d6=>rw[tf d6];show ic m<=ic m+_;exact xC};have h8:Ae<=aJ:=by{delta Gn;exact aIk};have O:a8l<ic Ae:=by{refine(qz Z _ h8).gap _ ?_;have e:Pc=hw Pc++Gm r z Pc:=by{delta yI Gm;rw[zx]};have m:a8l∈dt 0 (hw Pc):=sg _ 0;rw[e,Cq];grind-abstractProof};rw[a4 BV];grind-abstractProof
universe GM
namespace GA
open PySem PySem.Spec PyProof.Rows L2
noncomputable def nv:iY->V|none=> .bC|some n=>jf
theorem aZg{H:Hp}{v:V}{o:iY}(h:Ui H v o):v=nv o:=by cases o<;>exact h
noncomputable def UK(x I:Addr):hU:=aK "mark_gaps" I (aK "sweep" x [])
section z
variable{x I:Addr}
theorem L5:bN aai "sweep" x:=by delta UK;rw[aK3]
theorem aZh:bN aai "mark_gaps" I:=by delta UK;rw[dh,cN]
theorem aZi{f:Str}(a3:¬f="mark_gaps")(a9:¬f="sweep"):fg aai f=ae:=by delta UK;rw[dh,bj a3,dh,PM];rfl
universe z
structure L6(b c:Addr)(P:Program)(w:World)(r:Gla.Plan)(H:Hp)(y x b2 B X c7 I:Addr):Prop where
 at_:∃dx,bh y (aC c aai)
 sw:sG b P w r H x b2 B X c7 (mY r aJ) aJ
 mg:am I (B (Wn (bo aoI)) nv)
 ne:I≠X
theorem L6.mono{b c P w r H L y x b2 B X c7 I}(h:i7 H)(s:bQ):i7 L:=by rw[JH];exact dt (bv q) (h.sw.mono s) (bv h.mg)
theorem sG.lk{C P w r H L x b2 B X c7 s t}(h:anE)(sb:uF)(k:vC L X ec eK):iJ L s:=by have h7:=L1 h.k;have g:=aj4 h7;rw[y9 sd];exact r (h.at_.sb h.k sb) (h.p.sb gx sb h7 (ax h.n1.symm)) (dT h.g h.n2.symm) k (D.go g (eB (dT e (J (by rw[gb q D,hY lk h.k,b2 q2 q,kG]))))) (sd e a0 lt) (g _ _ b9)
theorem L6.lk{b c P w r H L y x b2 B X c7 I}(h:i7 H)(sb:uF)(k:vC L X (mY r aJ).cnt (mY r aJ).aP):i7 L:=by rw[JH];exact dt (dT q (by rw[hY lk h.sw.k];exact bJ q q2)) (h.sw.lk sb k) (dT h.mg aj9)
inductive ay4(C:Addr)(vs:af)(H:Hp)(Q:VK)(E:XK):Prop|mk:∀(y dx x I:Addr),A (ea y kN I) (bh y Y7) (Q .bC (ad y (aC C aai))) (ay4 C vs H Q E)
inductive ay5(b c:Addr)(P:Program)(w:World)(vs:af)(H:Hp)(Q:VK)(E:XK):Prop|mk:∀(r:Gla.Plan)(y x b2 B X c7 I:Addr)(i:Nat)(m:Gla.Mark),e [Ak,pC] (i7 H) anL (zQ r) ((o L uF (i7 L) (Q (nv (IC r eL)) L))->ay5 b c P w vs H Q E)
inductive ay6(b c:Addr)(P:Program)(w:World)(vs:af)(H:Hp)(Q:VK)(E:XK):Prop|mk:∀(r:Gla.Plan)(y x b2 B X c7 I:Addr)(v:V)(e:fz),e [Ak,v] (i7 H) (eR H v xv) iz (zQ r->(∀L t,c uF (i7 L) (L t=aa (bx (a5C r e) (a5B r e))) (Y t) (Q nu L))->ay6 b c P w vs H Q E)
inductive ay7(b c:Addr)(P:Program)(w:World)(vs:af)(H:Hp)(Q:VK)(E:XK):Prop|mk:∀(r:Gla.Plan)(y x b2 B X c7 I:Addr),e [Ak] (i7 H) (GM.Net r) aHJ (yp Ni->ay7 b c P w vs H Q E)
section z
theorem aZj:T.TY.Ok mg P w aj 1 (ay4 lF):=by refine T.TY.go aTv aL;generalize aG=e3,aA=A,aF=outer,aE=s,aD=H,aB=vs,aH=Q,aI=E;rw[aN,M oc,aX,al y dx x I,ds b6,g _ (mV aq aw) y _ dx _ b6 (a rd Of (ay) y _ dx _ rfl (a ak rd T.avA (vo ay) ?_)),L yp k]
theorem ay8:T.GK.Ok mg P w aj 2 (ay5 dm lF P w):=by refine T.GK.go auZ aL;generalize aG=e3,aA=A,aF=outer,aE=s,aD=H,aB=vs,aH=Q,aI=E;rw[aN,M amh,aX];generalize YV=r,aV cP=y,bU cP=x,cD cP=b2,bX cP=B,ct cP=X,du cP=c7,d5 cP=I,fp cP=i,ZM=m;rw[av d5 c4 Z k,cv b6 Xi,bT (bo (bU 2 auZ.nd (f2 aq)) (RY (dZ yu aw cu) cu (B9 aw))) y (b b6 rd T.avA aZh I _ (nv aoI) (ax rfl (av d5.mg) EA gJ)),dZ IC];cases q:aoI with|none=>{rw[bs q];exact(k H (cF (tp H)) d5)}|some g=>rw[bs q,aK7];rw[(ea ZY)];rw[y y dx b6 rd (a Of L5 x m2 _ rfl S xJ (b x b2 B X c7 g _ (a rfl aFb Xl (GM.aZf Z q) (fun a8 a4 c0=>k a8 a4 (d5.lk a4 c0)))))]
theorem aZk:T.TZ.Ok mg P w aj 2 (ay6 dm lF P w):=by refine T.TZ.go au0 aL;generalize aG=e3,aA=A,aF=outer,aE=s,aD=H,aB=vs,aH=Q,aI=E;rw[aN,M amh,aX];generalize YV=r,aV cP=y,bU cP=x,cD cP=b2,bX cP=B,ct cP=X,du cP=c7,d5 cP=I,fp cP=v,ZM=e;rintro rfl d5 d3 a0 Z k;rw[cv b6 Xi,aK7,ad f D a3 sd d5.sw.d,iS x_,q7 (sd e a0 aK0)];have sl:=(GM.qz Z aJ a_).aQm e a0 aK0;rw[px i5 d3,bT (bo (bU 2 au0.nd (aXB wc (GJ K bP) aq lO)) (as (B9 xA) (B9 xA))) y (b b6 rd Of L5 x m2 _ (j S gG T.afl ayL c7 i5 (f (gO xv) f n cV rfl D (na d3) (b h2 y _ dx _ rfl b6 (b rd Of L5 x m2 rfl S (bh xJ b (cx e2) (a dg x b2 B X c7 _ _ (c _ rfl aFb Xl sl.1 (fun a8 a4 c0=>?_)))))))))];have Y:=d5.lk a4 c0;obtain⟨h4,u⟩:=aj6;obtain⟨a,j0⟩:=Y.sw.at_;rw[y y h4 u rd (a Of L5 x a _ rfl j0 xJ (as b (a4.ts (L1 Xl) _ _ e2) dq (b x b2 B X c7 _ _ (a rfl Y.sw.at_ Y.sw.k sl.2 (fun b7 b5 f7=>?_)))))];have O:=Y.lk b5 f7;rw[v es (fun t h7=>?_),QN];exact k _ t (Iv (lK h7)) (O.mono (b_ h7)) ak (ca t (i9 _ _ q (ax (J (by rw[f1 lk O.sw.k,b2 q h7];cases h7)))) h7 h7)
theorem aZl:T.T1.Ok mg P w aj 1 (ay7 dm lF P w):=by refine T.T1.go Tu aL;generalize aG=e3,aA=A,aF=outer,aE=s,aD=H,aB=vs,aH=Q,aI=E;rw[aN,M aL,aX];generalize aG=r,aA=y,aF=x,aE=b2,aD=B,aB=X,aH=c7,aI=I;rw[av d5 N j7 k,fV,cv b6 Xi,aK7];obtain⟨lk,a5,d⟩:=Xl;rw[cy (GM.aRI N d)];have e9:=GM.ow iT aJ;have d1:=GM.UD r aJ;have h5:=qR;rw[bT (L Tu.nd (GJ K bP) (e Tu.nd 2 (ot (dN aq)) (cj "number" 3) (ci 3 Tu.nd) (lk (dZ gM amQ bb)) (bC bb)) (de (ew ys (dN aw)))) y (b b6 rd Of L5 x m2 _ (j S gG zS yW X _ (a rfl (cc a5) (v lk.length) aQ aQ bM a86)))];rw[iQ];rw[fH lk.length (bQ/\∃d7:ao,aj D (ai_ vn)/\d7=dy i (iQ (lk[j]?==aa j))) (d (b_ m) [] ak rfl)];{rintro i L hi⟨s,d7,f,c3⟩;rw[aLz];rw[d2];have gi:=pI;rw[dP lk l gi];have V:oP<=i:=by{grind};rw[c rfl X _ _ (vn l) rfl (br a5) (aP O7 ?_)];rw[dN];rw[T l i];{rw[e_];rw[dH rfl];rw[K f bz (fG s m) (aJ (d7++[l]) (nN ak))];rw[ajq,DG,<-c3];simp[gi]};{have:ar (v l) xp=ai:=ea bM;rw[nY,bZ s d7 f];rw[ajq,DG,<-c3];simp[gi,q]}};rintro a8⟨a4,d7,f,c3⟩;rw[<-c3]at a;rw[aW D (cc f) ?_,mp (kd (ai_ vn)-1) (v Ni)];show Q (.int (kd (ai_ vn)-1)) _;rw[L b9 (k a8 a4)]
universe z
structure yY(r:Gla.Plan)(H:Hp)(l:Addr)(Y:bg)(c:AL):Prop where
 lst:am l Am
 nd:aDL
 len:eM=gc
 at_:HC (I g (A c g) (e3 a (qZ bp)) (a≠l))
theorem yY.mono{r:Gla.Plan}{H L:Hp}{l:Addr}{Y:bg}{c:AL}(h:aI6)(s:bQ):yY r L l Y c:=KN (q.mono dj s)
theorem yY.get{r:Gla.Plan}{H:Hp}{l:Addr}{Y:bg}{c:AL}(h:aI6){i:Nat}{ns:ao}(hi:A c ns):I a Et (e3 a (wz bp)) (a≠l):=by rw[z a5 (i<eM) ajn (bx hi)];obtain⟨I,e,q,n⟩:=a'F;rw[a6 hi,dS];exact bcP
theorem yY.put{r:Gla.Plan}{H:Hp}{l:Addr}{Y:bg}{c:AL}(h:aI6){i:Nat}{a:Addr}(b3:Et){vs:af}{ns:ao}(d3:dD (dG H) vs (wz bp)):yY r (ap a vs) l Y (c.set i ns):=by obtain⟨d,f5,N,c6⟩:=aGu;have h8:uQ (H a):=by{rw[f1 b1 N];rw[q];exact CK};rw[bgB,ZX,Ia (v vs ak (g8 (yP h8) d3))];{obtain⟨I,b4,d2,n1⟩:=mV j b U;exact d I bz (d2.put dj h8 beW) n1}
theorem sG.put{C P w r H x b2 B X c7 s t}(h:anE){l:Addr}{o:HO}(m:uQ (H l))(c6:l≠x)(n1:l≠b2)(n2:l≠B)(u:l≠X)(y:l≠c7):iJ JM s:=by rw[cv d2 mV,bbu,y9 q3,ae c3 H JM (yP m)];exact r (sC (Y a5E d2)) (h.p.put gx m n1.symm) (Y aEX h.g) (qY (Y u.symm q2)) (D.go c3 (eB (Y a5D e))) (q3 e a0 lt) (c3 _ _ b9)
theorem aZm(r:Gla.Plan)(z:Pt)(row:GM.Row):UI (B (tq row) (jH r)) (IA 0 row) z (t FF)=GM.UJ r z row:=by have e:row=FF++Kh:=by{delta Xm a5F;rw[zx]};have g:ap (IA 0 row) (t FF) (DQ 0 FF):=by{have:=GM.age 0 FF Kh;rw[<-e]at this;exact this};have l:(B (tq row) (jH r))[t FF]?=(Kh).head?.map (ab (jH r x.1)):=by{have h:row[t FF]?=m9 Kh:=by{have:=oZ (l₁:=FF) (l₂:=Kh) a_;rw[<-e,zv,<-aEO]at this;exact this};delta tq;rw[cz,cz,h];rw[ll (m9 Kh)]};delta UI GM.UJ;rw[l,g];cases m9 Kh with|none=>{rfl}|some x=>rfl
noncomputable def L7(r:Gla.Plan):aO Pt Nat:=B ((eJ fL).zip dQ) (an (e.2.at_,e.1))
theorem ay9{r:Gla.Plan}{e:alu}:e∈L7 r↔z m (K dQ e.2 m) (eL=e.1):=by delta L7;rw[fJ];constructor;{rintro⟨⟨i,m⟩,h,rfl⟩;rw[n3 h];rw[aiN]at b8;have:j=i:=by{obtain⟨_,c⟩:=Xa b8.1;rwa [WL]at c};rw[gm];exact bp m b8.2};{rintro⟨m,h,b4⟩;rw[aa (e.2,m) (bO (i:=e.2) ?_) (sJ b4 rfl),L aiN (io (wB (bx h)))]}
theorem ay_(r:Gla.Plan):t (L7 r)=fL:=i0 L7
theorem aZn{a b:alu}(h:mK (Cs b) (Cs a)=ai):b.1.below a.1=ai:=f1 (b.1.below a.1) (GM.iF.mp q) Cs
structure PoI(C:Addr)(P:Program)(w:World)(r:Gla.Plan)(d0:Hp)(x X c7 I:Addr)(W:aO Pt Nat)(t k:Nat)(H:Hp):Prop where
 sb:SB aaQ d0 H
 sw:∃b2 B,a'm/\I≠b2/\I≠B
 kl:k<=fh
 gl:∃gl:I1,am I (aFc nv)/\a5G=fL/\bk i m (anL->A gl (bo aFY aoI xl))
 lo:Gd (E i (i<t) (qD e.1))
theorem PoI.mono{C P w r d0 x X c7 I W t k H L}(h:bZ C r t H)(s:bQ):bZ C r t L:=by obtain⟨b2,B,d5,a,b⟩:=h.sw;rw[cD gl e h.gl];exact a (h.sb.trans (cF s)) (a b2 B (d5.mono s) a b) h.kl (v gl (bv e) J) h.lo
theorem aZo{ls:nD}{e:fz}{n:Nat}(h:e.1<n):bp (d7 (e1 (cM (aj_ Qt)))) e.1 (cM (aj_ aKh)++[e.2])=d7 (e1 (cM (ea amL Qt))):=qp fe e.1
theorem aZp{ls:nD}{e:fz}{n:Nat}(h:e.2<n):bp (d7 (e1 (t (aj_ OI)))) e.2 (t (aj_ a6W)+1)=d7 (e1 (go amL OI)):=qp cj e.2
inductive aza(C b c:Addr)(P:Program)(w:World)(vs:af)(H:Hp)(Q:VK)(E:XK):Prop|mk:da (zQ D) QZ (j QO (qW<=2048) (V p lG (gN p)) (V m gS (gN eL)) (∀L y x e7 d i c7 I,c bQ (Y i) (Y y) (L6 b c P w D L y x e7 d i c7 I) (Q Ak L)) (aza C b c P w vs H Q E))
section z
theorem azb:T.avY.Ok P w aj 5 (aza bJ dm lF P w):=by refine T.avY.go aTw aL;generalize aG=e3,aA=A,aF=outer,aE=s,aD=H,aB=vs,aH=Q,aI=E;rw[aN,M iw,aX,F a D dp dl o5];rintro rfl h Z k0 j7 x4 o1 A7 k;rw[Bm,fD,QY,aaS,aKK,ca (L iX (arc T.TN.h (bN aY4 a_) (ag6 ay) rfl T.aVq T.TN.b .nil fp) (e iX 2 pH (cj "point" 3) (ci 3 iX) kK (bC AQ)) (ai (e iX 4 pH (cj "point" 3) (ci 3 iX) kK (mr bE)) (mz pH (V 5 iX 6 iX) (c7 (dD (iX cI) (f2 eu)) (qB bR eu))) (ai (e iX 7 pH (cj "mark" 8) (ci 8 iX) kK (bC (gi T.afj))) (bU 9 iX (sk (Bz rfl iX (ln bP) (bk "number" 10 "mark" 8) (bC (V 10 iX 8 iX)) kK (bC (cp (dh kf) (dh kf) EU))))) (i 11 iX bE (mz (ln bP) (V 10 iX 3 iX) (c7 (FX NR (gB (dZ lq OR (dN xw)) (mh (Cc aJQ) bb)) (i 12 iX (Cc aJQ) (d3 (RY (dZ a7A (pv 12) bb) cu (jk aq gG T.TU.h (ez aY5) a6 T.TU.b .nil fp (dY (pv 12)))) ke (dh aJQ)) (fE (eQ 11 iX bE)))) (yq (jk aq gG T.TX.h (ez aY') a6 T.TX.b .nil fp (yR bb (bs bR EU) (iX EU)))))) (de (av T.TY.h aZj T.aVr T.TY.b (sA aq ke))))))),mq m2,aj r5 (d7 (ad m2 DZ) (.ins dm m2 [])) Pp,y x m2 ak (fun F r6 r7 X c7 x5 w0 A8 A9 p9 x6 FP w1 l7 o4 d2 q2 q3=>gJ),aj n F (wr (x5 c o (r5 c o e) (ax (em nx))))];have x7:Y X:=r5.free p9;have B0:Y c7:=r5.free x6;clear x5 r5 A8 A9 p9 x6;have B1:sG dm P w D F x r6 r7 X c7 (mY D 0) 0:=a w0 (pf FP) w1 l7 (a _ 0 o4 cS (wc (rI lt))) d2 q2;have B2:F x≠ae:=by{rw[ck q w0];rw[e];rw[Bi]};have B3:F X≠ae:=by{rw[ge q l7];rw[e];rw[Bi]};have B4:F c7≠ae:=by{obtain⟨q,e,_,_,_⟩:=o4;rw[e];rw[Bi]};have B5:F r6≠ae:=by{rw[FP];rw[Bi]};have B6:F r7≠ae:=by{rw[w1];rw[Bi]};rw[cg q0 (E b (F b=ae) (z (b≠x) (b≠X) (b≠c7) (b≠r6) (b≠r7))) (a (J (B2 (z▸U))) (J (B3 (z▸U))) (J (B4 (z▸U))) (J (B5 (z▸U))) (J (B6 (z▸U))))];clear w0 FP w1 l7 o4 d2 q2 q3;rw[a2 (n _ _ hd) (s gb fX dp (dB c5 (n _ _ a3)) (fun lt r8=>g7 (cY F L/\g2 lt (F b=ae) (b≠lt)) r8 (n _ _ a3)))];{rintro i y L b6⟨s,Y,e,len,nd,al⟩;rw[lb kx b6];have p5:=qX;rw[im ⟨cS,fun b U=>?_⟩];have a5:b≠lt:=J ah;rw[K6 r8,l3 ak,beU,bih]};rw[Kw p7,bgL];have r9:yY D p7 lt Y (s0 (([]:nD).filter Qt)):=by{rw[HX (pf a8E),lb eM U,a'x];rfl};rw[cg x8 (bH Y (F b=ae)) (aV (al b U))];have B7:F lt=ae:=r8;clear b4 al r8;have s6:=tm a4;rw[a2 (s6 _ _ hd) (s gb fX dp (dB c5 (s6 _ _ a3)) (fun le j3=>d oy dj sr (aiX dj s6).ls (au xl) j3 bM)),eX p y c2];intro p8 d7 b5 b9 x9;have c3:=vk x9;rw[eT c3];have f5:D.pts.map ng=lB (t (([]:nD).filter OI)):=by{rw[afC];rw[alJ,aGs];simp};rw[f5]at c3;rw[jW];clear x9 f5;have B8:=r9.mono b5;have p4:F le=ae:=gV j3;rw[r B9 le lt r9.lst j3 j3,c1 y0 (b≠le) (r9.at_ i b hi) j3];clear r9 j3;have o6:=s6.trans b5;have i9:=eN;rw[a2 (o6 _ _ hd) (s kC ku dl (dB ls (o6 _ _ a9)) (bV ls (fo (vl (E4 [kJ,ac x,ac lt,ae,Ar,i1,j5,ae,ae,ae,ae,ae,ae]) (cY F L) (yY D L lt Y (s0 (jn Qt))) (aj le (bh (lB alz))))) (d J9 i9 B8 b9) (n _ _ a9)))];{rintro i y M L b6⟨⟨i1,j5,rfl⟩,s,TP,p6⟩;rw[BZ (oz f6 b6)];have C:=fZ e uj;have r:=tm s;rw[apb,bfj,ak g7 (s0 (jn Qt)) e.1 (cM (jn aKh)) n0];obtain⟨c,b0,⟨vs,d3,pv⟩,nc⟩:=TP.get g7;have u9:=x8 c (bO b0);obtain⟨l4,b3,d1⟩:=gE e9 C.2;rw[<-wM C.2]at d1;have i5:iO<=lH:=by{rw[pv.length,bA,bA];exact cn AI (t eS (oO i lH))};rw[b b _ rfl (cx (r _ _ U)) rfl lt _ _ (a (gR c) rfl rfl (av TP.lst) (nl b0) (dp d3) a _ (nR (r _ _ hd) (f dp _ _ l4 rfl (av (r _ _ a3)) (dX b3) (m c _ _ (a1 rfl d3 (br i5 j7 fw))))))];have o7:=TP.put (i:=e.1) b0 (vs:=aIG) (ns:=cM (jn aKh)++[e.2]) (t fe (eB pv (bL r d1)));rw[aZo n0]at o7;rw[z s7 (N L c aIG le (bh (lB alz))) (bW (bt (y0 c (bO b0)))) p6,P c1 F (aV L c vs l4) (fG s u9),f L c aIG b7 o7 s7 c1,ak v3 (lB alz) e.2 aGd C.2,c le _ e.2 (vn aGd) rfl (av s7) (p7 v3) (cY le e.2 s7 (by simp;exact C.2))];have a7:bap=bh (lB (go (pj i++[e]) OI)):=by{rw[<-aZp C.2,ajr];rfl};rw[t1 (U b7 le bap)];rw[a7];rw[w (bm _) (fG c1 p4) ?_ (t g9 ak)];rw[g9];rw[gS (b7 le) s7];exact d (Y B9.symm o7.lst) o7.nd o7.len (fun j b2 j6=>let⟨g,d2,q2,q3⟩:=o7.at_ j b2 j6;d g d2 (q2.put dj h8 (y0 b2 (bO j6))) q3)};rintro M v9⟨⟨i1,j5,rfl⟩,c8,q1,s8⟩;rw[NV,H0]at q1 s8;have k1:=tm c8;rw[a2 (k1 _ _ hd) (s jA jq o5 (dB d8 (k1 _ _ e2)) (fun I n3=>d oy jo sr (aDu jo k1).ls (au xl) n3 (f7 x4))),eX p y c2];intro m5 d7 d9 g5 y1;have c3:=vk y1;rw[eT c3,jW];clear y1;have g5:b5 (m5 I) (B (aka (au (xl:iY))) nv):=by{rw[g5,jw,jw];rfl};have y2:=q1.mono d9;have y3:=fG s8;have y4:F I=ae:=WG n3;rw[r C0 I lt q1.lst n3 n3,r C1 I le s8 n3 n3,c1 C2 (b≠I) (q1.at_ i b hi) n3];have l1:=aFe d9;have y5:=Ed;clear q1 s8 c8 d9 n3;rw[a2 (l1 _ _ hd) (a jA jq o5 d8 (ai (av (l1 _ _ e2)) (fun c0 p9=>aSD (K:=K) (R:=yX Cs) jo (ayZ Cs) (aDu jo l1).ls (an (aa (e.2.at_,e.1))) p9 bM ?_ ?_)))];{rintro i m d6 y L h4 l8 c4 s k4⟨b,rfl,U⟩b6 j2;refine f d6 _ (cx k4) (ai rfl (Ts (m b _ pG dg (m b _ pG dq (r6 (sT (ab (eL,i) rfl (b_ h7) lQ)))))))};intro m6 ws f9 i2 n4;rw[eT n4];have n4:dD (yX Cs m6) ws (L7 D):=n4;delta rY;refine agj (K:=K) (O:=Cs) (v ws (av i2) n4) (fun e _=>akI) (t ay_ (cf x4 fw)) (fun N o W w2 dO s9 r4=>?_);rw[l h1 m6 m6 N o s9,m m6 N o d0 h1 r4];have o8:=mW h1;have t2:=a5I o8;have C3:=y5.trans o8;have TP:=y2.mono o8;have p6:=o8 _ _ y3;have m9:=o8 _ _ g5;rw[M C4 N I (mB (hy g5) s9)];have C5:F N=ae:=eU (y5.trans f9) s9;clear y2 y3 g5 f9 h1 o8 i2 n4 s9 p9;have a8:=q0 I y4;have w3:=q0 N C5;have w4:=a8.1;have t4:=a8.2.1;have w5:=aS a8;have q4:fh=qW:=by{rw[w2.length_eq,ay_]};rw[it (B1.mono C3)];have h7:oH aaQ d0:=fun b m O e=>by{rw[Bg,kB m,Br bK,Br og,Br Y4];{lia}};rw[cE hw y6 r4];have C6:=y6.length;have q5:∀b,c (b≠x) (b≠X) (b≠c7) (b≠I) (b∉aaQ):=fun b z1 h6 k7 l9 m=>ah;have C7:∀{b o},O9->b∉aaQ:=fun{b o}e=>q5 b (em nx) (em x7) (em B0) (em (n.free y4));have t5:∀{L:Hp},SB aaQ d0 L->∀{b o},O9->alr:=fun{L}sb{b o}e=>sb _ _ (t2 _ _ e) (C7 e);rw[a2 (t2 _ _ hd) (a gb fX dp c5 (ai (av (t2 _ _ a3)) (bv de (fun t M L=>GC (fun(k:Nat)(j8 j9 l6:bZ V)=>M=nX j8 j9/\uS L)) (f 0 ae ae ae (cF (tp d0)) (a r6 r7 d5 (aS a8.2) (a2 a8)) cS ⟨as m9 (x (bA _)) (fun i m hi=>by rw[cz,hi];simp),fun j e _ _ i hi=>rI hi⟩))))];{rintro t M L c6⟨G,_,_,_,_,PI⟩;exact as (c5[t]'(ah)) (av aID) pF};{rintro M L⟨G,_,_,_,_,PI⟩;exact cd aID (bU len.g i0.l)};{rintro t M L k3 b7 l5⟨p3,j8,j9,l6,rfl,PI⟩⟨d6,y,rfl,k4,rfl,b6⟩;rw[n2 (av aID),h9 d1 (oz e9 b6)];have e1:xP=p:=by{rw[wM l5];rw[da l5 c2];exact cZ c2};subst e1;rw[T b5 L (ko aaG) k4,d4 w6 aaG aaG];have q6:=PI.mono b5;have w7:dG (ko aaG) y xP:=hH (J (cO t2) (q6.sb.ts h7)) d1;generalize ko aaG=b7 at w6 q6 w7;rw[aW d6 (cx w6) (a1 rfl (qK (HN (m=fh-k/\M=bbL/\k<=fh/\uS L/\dG L y xP))) (m _ p3 l6 (d rfl q6.kl q6 w7)))];clear q6 w7 w6 b5 PI k4 b6;rintro m M d4⟨k,l6,rfl,rfl,kl,t6,w8⟩;have w9:=t6.sb _ _ hw (ar N w3 w3 w3 C4);rw[aW N (cc w9) ?_];rw[C6];have fin:∀e4,i (uS e4) (dG e4 y xP) (Gd ((xP).below e.1=ab)) (I c (K Y t c) (fW K e4 lt Am) (fW K e4 le (bh (lB (t (akc OI))))/\dB dG e4 c (B (aj7 D t) wR)/\∃e7 d,sG dm P w D e4 x e7 d X c7 (mY D t) t/\∀g6 n5 n6,c (SB aaE e4 g6) (e4 n5=ae) (e4 n6=ae) (sG dm P w D g6 x n5 n6 X c7 (mY D (t+1)) (t+1)) (bZ dm D (t+1) g6))):=by{intro e4 f t7 E1;rw[ak g7 (s0 (akc Qt)) t (aj7 D t) l5,eC q7 nc (TP.get g7)];have k5:=bO b0;have k9:=q0 c (x8 c k5);have x1:=q0 lt B7;have x2:=q0 le p4;rw[lF o2 f.sw,b c b0 (av (f.sb _ _ TP.lst (ar lt x1 x1 x1 C0.symm))) (av (f.sb _ _ p6 (ar le x2 x2 x2 C1.symm))) (q7.sb dj f.sb h7 (ar c k9 k9 k9 (C2 c k5))) e7 d o2 (fun g6 n5 n6 B g4 h3 m7=>?_)];{rw[cD gl k2 f.gl,j (f.sb.trans (agi B aQ)) (a n5 n6 m7 pz pz) f.kl (v gl (B _ _ k2 (bx w4 t4 w5)) J) (fun j e b8 a0 i hi=>?_),az,az];{rw[al (Nat.lt_succ_iff_lt_or_eq.mp hi),l (f.lo j e b8 a0 i q),dV]}}};refine fF (fun e5=>?_) (fun e5=>?_);{rw[eA t8 (k<fh) e5];have o9:K W k W[k]:=da t8;rw[Y v t9 m8 y7 (mx y6 o9)];have y8:=ay9.mp (w2.mem_iff.mp (s_ t8));generalize C8:W[k]=C9 at o9 y7 y8;obtain⟨z,num⟩:=C9;obtain⟨mk,u0,c9⟩:=y8;have c9:mk.at_=z:=c9;rw[ad y9 (d4 m8) (.tup bd2) ((t6.sb.ts h7) _ _ y7),mg w9 (f m8 _ (cx y9) ⟨?_,fun e8 u1=>?_⟩),Bs 3,ab u2 (ca bd2 0 2) (hy z.y z.x)];rw[u2];rw[l d9 d4 d4 e8 FD u1,e z0 d4 e8 FD e8 FD,m d4 e8 FD q8 d9 z0];have z2:=t6.mono d9;have u3:=bL d9 w8;obtain⟨m1,D0,D1⟩:=id u3;rw[b e8 m1 _ _ rfl D0 (oB z0) (oB D1) ?_];rw[afA];rw[aJU];{rw[b7 p0 ((xP).below z) ai e6,ak (n5 (fh-k) (HN (f7=fh-k/\g0=bbL/\k<=fh/\uS j1/\dG j1 y xP))) aaO];have z3:=fG w9;have z4:=fG y9;rw[mg z3 (f m8 _ (cx z4) ⟨?_,fun m4 D2=>?_⟩),Bs 3];rw[u2];rw[l f9 q8 q8 m4 FD D2,e z5 q8 m4 FD m4 FD,m q8 m4 FD e4 f9 z5,eS (z2.mono f9)];have t7:=bL f9 u3;have z6:dG e4 (.ref m4) z:=aP m4 z5;have z7:=hy z3;have z8:=hy z4;rw[K _ z6.dp t7.dp (aJ tS tS)];rw[af_];rw[N u4 z xP];{rw[dH u4];have z9:XS=ae:=(t u4 (GM.aZd (DR l5)));rw[P i4 e4 e4 eg,lF l2 (O0).sw,BO (O0).gl,be2,bg4];have a7:a8X=B aGn nv:=by{rw[ajr,z9];rfl};rw[t1 (U e4 I a8X)];rw[a7];rw[zc l2.at_,gS (e4 I) k2,Lg (bn (aR (Bn e5)) (aS fh k))];{rfl};{rw[bff];rw[g9,fe];rw[T i num,az,bh8]}};{rw[ea u4];have A1:VN xP=ab:=by{rw[al (aFd u4),iy,az]};have TT:GM.Time D t z:=v (ew l5) (jU (f.lo k (z,num) a_ o9 i hi)) (fun i hi k8=>by rw[al (qN hi),l (GM.vd A1 (wk q k8)),kz q A1]);obtain⟨q9,r0,m3,v7,v8⟩:=f.sw;rw[qH akb,oU (t (tq ama)) (mY D t).row.length,c x r1 r2 xJ x q9 (a r0 X c7 (.ref m4) (B (tq ama) (jH D)) (IA 0 ama) z (t (Xm D z ama)) (a rfl akb m3.p m3.g (cx Xg bA i7) z6 (bl c9 (A7 mk (bO u0))) a_l ?_ (fun i q e0=>?_) a_m))];{rw[hW e0];have:=fZ e (p5 ((GM.qz Z t (ew l5)).mem e));exact⟨o1 _ (DR Q3),o1 _ (DR fj)⟩};{rw[bA,i7];delta Xm;exact aIk};{rw[gv e0,a2 e a0 e0];exact GM.aZb Z TT i e a0};rw[aZm,<-GM.ay3 Z TT]at hu;have hu:=aZg hu;subst hu;rw[ab z9 XS XS,P i4 e4 e4 eg,lF l2 (O0).sw,BO (O0).gl,be2,bg4,aS a7 a8Y (B aGn nv),t1 (U e4 I a8Y)];rw[a7];rw[zc l2.at_,gS (e4 I) k2,Lg bM];{rfl};{rw[bff];rw[g9,fe];rw[T i num];{rw[e_];rw[Mu u5,aK aG6];rw[u0]at hi;have:mk=m:=ax hi;rw[<-this,c9]};rw[bh8]}}};{rw[c4 p0 ((xP).below z=ab) e6];obtain⟨c,b0,d2,q2,q7,q9,r0,m3,i6⟩:=fin q8 z2 u3 (wF (by rw[al (qN b8)];{have j4:=bx a0;have:=Na dO k j t8 j4 q;rw[da j4 a0];have a0:=cZ a0;rw[bX a0 C8];have h2:=aZn this;simp only at h2;rw[N q2 e.1 z,Z q2 p0];{rcases aFd q2 with J|J;{rw[J]at h2;cases h2};rw[l (GM.vd p0 J)]}};{rw[e_];rw[o9]at a0;cases a0;exact p0}));rw[qH (id akb),K8 u3]}};{rw[eA t8 (fh<=k) e5];obtain⟨c,b0,d2,q2,q7,q9,r0,m3,i6⟩:=fin d4 t6 w8 (wF (cy (bx a0) (fY (yn z (Bo e5) b8))));rw[qH (id akb),K8 w8]}};rintro M h9⟨A2,j8,j9,l6,rfl,PI⟩;intro y dy n7 D3 D4;rw[lF A3 PI.sw,BO PI.gl];have D5:gl=aka (bo (aj' D eL)):=by{apply NA;intro i;rw[cz];cases hi:gS[i]? with|none=>{have:qW<=i:=by{rw[al (ik i qW)];{rw[da q hi];cases hi};rw[iy]};rw[zz ag];rfl}|some m=>rw[o3 i m hi];by_cases q:i∈cM (Xn A2);{rw[aK q];rfl};{rw[aO q];have D6:(eL,i)∈W:=w2.mem_iff.mpr (ay9.mpr (bp m hi));rw[n3 D6];show _=aa (aj' D eL);rw[GM.aZe Z (z:=eL) (fun n9 R=>PI.lo j _ (by rcases ik j A2 with J|J;rw[l (cy (aBV (bp (eL,i) (bO (i:=j) (t (sS J) b8)))) q),l J]) b8 n9 R)]}};subst D5;rw[P u6 h9 bgD (afz n7 D3 D4),aj A4 h9 (c_ (t5 a5H e)),e i8 (upd h9 dy (.own y)) y aGt y aGt];have r3:Y y:=A4.free n7;rw[r D7 y I k2 n7 n7];generalize bgD=i3 at u6 i8;rw[e y dy x I rfl i8 rfl ?_];have n8:=A3.mono u6;have A5:=n8.at_;obtain⟨A6,A5⟩:=A5;obtain⟨E2,u7,_⟩:=n8.k;obtain⟨f8,v5,⟨E3,p2,_,_,_⟩,_⟩:=n8.d;obtain⟨E4,D8,_⟩:=n8.p;rw[M D9 y x (by rw[ck q A3.at_,b2 e n7];cases n7)];refine k _ y x e7 d X c7 I (fG (A4.trans u6) r3) x7 r3 (I dy ak (n8.put (jz i8) D9 (bJ i8 D8) (bJ i8 n8.g) (bJ i8 u7) (qq i8 p2 ZY)) (Y D7.symm (u6 _ _ k2)) t4)
universe z
noncomputable def vD(D:Gla.Plan)(W:G6->iY)(m:Gla.Mark):cb:=alK&&dj (W m)
inductive azc(C:Addr)(vs:af)(H:Hp)(Q:VK)(E:XK):Prop|mk:∀(a p:Addr)(D:Gla.Plan)(b2 X G:Addr)(W:G6->iY),e [bc,fO] Ab (am p (B (aka W) nv)) (t6 (WJ ak4 tr gS)) (azc C vs H Q E)
inductive azd(vs:af)(H:Hp)(Q:VK)(E:XK):Prop|mk:∀(p:Addr)(c0:ao),e [fO] (am p (akd vn)) (j4 lK) (t6 (Xo 0 [] (akd aa))) (azd vs H Q E)
theorem aze{I:Type}:Gn ((zD (x∉c/\l f y (f<j) (K l f y) QC))->Xo i c l=ae)|[],_,_,_=>rfl|x::J,i,c,h=>by have b1:=h 0 x rfl;unfold GM.yJ;rw[aO (J (b1.1 (Nr z)))];refine aze (I:=I) J (i+1) (x::c) aIM;have M:=h (j+1) y bB;rw[v Yd (fun f d7 lt O=>M.2 (f+1) d7 ag bB),cY (h_ m),l (M.2 0 x aQ rfl wa),az]
theorem azf:∀(l:I1)(i:Nat)(c:I1)(k:Nat)(x:iY),i (K l k x) (P y (j<k) l y (y∉c/\l f z (f<j) (K l f z) (z≠y))) (x∈c\/z j (j<k) El) (Xo i c l=aa (i+k))|[],_,_,_,_,h,_,_=>bB|y::J,i,c,0,x,h,_,S=>by{have:y=x:=ax h;rw[gm];delta Xo;rcases S with m|⟨j,lt,_⟩;rw[aZ,az]}|y::J,i,c,k+1,x,h,g,S=>by have e5:=g 0 y aQ rfl;unfold GM.yJ;rw[ff (e5.1 (Nr z)),(azf J (i+1) (y::c) k x w_ (fun j z lt c9=>by have a:=g (j+1) z ag w_;rw[v Yd (fun f d3 lt' a0=>a.2 (f+1) d3 ag w_),al (h_ m),l (a.2 0 y aQ rfl zu),l (a.1 q)]) (by rcases S with m|⟨j,lt,b8⟩;rw[l (.inl (ck m))];{cases j with|zero=>{simp_all}|succ j=>rw[o8 (v j ah w_)]}))]at⊢;rw[dW];simp+arith [*]
section z
theorem aZq:T.awh.Ok P w aj 1 azd:=by refine T.awh.go Tx aL;generalize aG=e3,aA=A,aF=outer,aE=s,aD=H,aB=vs,aH=Q,aI=E;rw[aN,M fP,aX,bV p c0,aV c7 c9 k,fV,eX (L Tx.nd aP4 (mz (ln bS) (V 2 Tx.nd 3 Tx.nd) (c7 (dk (Bq (aPW xr bb aq)) aw) (dY aq bb mj))) (de cu)) JX,ym xN,e b4 H d xN d xN,is (ad d xN),bA p (di c7) (bv lK (fo (vl (vm (fun o j8=>M=[ac p,rr,o,j8])) bQ (oq pW (∀n:Nat,dj (fa F (ht cJ))=cv (n∈Xp i))) (aP j n (j<i->aa c0 n->n∉Xp j)))) (d J9 a4 (d [] b4 a_ (eb (ar fa))) (fun j n b8=>Ao)))];{rw[pm s];exact as (vn c0[i]) (br c7) ah};rw[iX s (av (br c7) aQ)];{rintro i M L k3 b7 hi⟨⟨o,j8,rfl⟩,s,⟨F,c1,lk,mk⟩,g⟩⟨d6,y,rfl,k4,rfl,b6⟩;rw[n2 (br c7)];have d1:=pI;rw[dP c0 n d1];rw[cz,d1]at b6;cases b6;rw[aK (Xp (i+1)) (Xp i) n d1,gU (j2 (eq jf) k4)];have a:upd L d6 (eq jf) d=aa pW:=co k4 c1;rw[d4 b9 (eq jf) (eq jf)];generalize ko (eq jf)=b7 at b5 a b9;rw[d d6 _ rfl (cx b9) rfl d _ (as (jm.k (k:=ht cJ) a))];have W:=mk n;by_cases m:n∈Xp i;{rw[dH m]at W;rw[ch q e0 W];rw[e0];rw[bD (ax b5 ?_),n3 m,dC j4 (j<i)];rw[sS j4]at b8;rw[azf (akd aa) 0 [] i (aa n) ah (fun j y b8 b6=>by rw[v jI (fun f z lt c9 e=>?_)];rw[cz]at b6 c9;rw[a2 d7 O b6,a2 d3 a0 c9,dd (cZ e),bY];exact g j d3 b8 O (bO (i:=f) ah)) (.inr (v j j4 ah)),Nat.zero_add]at⊢;rfl};{rw[ea m]at W;rw[fe e0 (fa F (ht cJ)) W];rw[e0];rw[aW d (qw.k (k:=ht cJ) a (c_ lk hi c9)) (d (bm _) (gc b5) (as ak ?_ (fun C=>?_)) (fun j C b8 j2=>?_)),cb (Uz F (ht cJ) YL) (cf this lk)];{rw[Sq,g9];have:=mk C;rw[T C n,az,dV]};{rw[T j i];{lia};rw[l (g j C Yj j2)]}}};{rintro M L⟨⟨o,j8,rfl⟩,s,_,g⟩;rw[Je];rw[aze (I:=Nat) (akd aa) 0 [] a_5]at⊢;{rfl};{rw[v jI (fun f y lt b6 e=>?_)];rw[cz]at S b6;rw[a2 b1 G S,a2 d7 O b6,dd (cZ e),bY];exact g j d7 (bx G) G (bO (i:=f) ah)}}
theorem aZr:T.awg.Ok P w aj 1 (azc bJ):=by refine T.awg.go aTL aL;generalize aG=e3,aA=A,aF=outer,aE=s,aD=H,aB=vs,aH=Q,aI=E;rw[aN,M ob,aX];generalize kQ=a,kR=p,kS=D,kT=b2,kU=X,kX=G,k_=W;rw[aV h c7 k,fD,aKK,ev (X Xr cu (mz (ln bP) (V 3 Xr 4 Xr) (i 5 Xr (Cc bR) (gd (gB bgs bgs) bb) (c7 (fb (dZ yu amQ cu) (gB (dZ KC aw cu) (mh cI aw)) bb) (bU 2 Xr cI)))) (de cu)) (a hd dR jA jq G d8 rfl (av e2) (bv qW (bi (GC (fun l j8 b1 i1=>M=[kJ,ac p,aa l,j8,b1,i1]/\Cf aMh L l gS i)) bQ (ae (j<i) gS ak4 tr gS)) (v (a .bC ae ae ae (bd (.inl xB))) eg (fun j y b8=>Ao)))),cj d8 d8 H8 (br e2),wK (ap d8 (br e2) H8 a_)];{refine iw;rw[F i M L k3 b7];rintro hi⟨⟨l,j8,b1,i1,rfl,a5⟩,s,g⟩⟨d6,y,rfl,k4,rfl,b6⟩;rw[aW m c4 j0 (b6 d8 (br e2))];have e:lu aMh:=fun _ _ _ _ t h=>hH t h;rw[gU (j2 hK k4),ms e k4,d4 b9 hK hK,oq (lM (cO b5) J),bo (ko (eq cV)) B b9 U,d d6 _ rfl (cx b9) rfl b _ (v pG ?_ (fun e8 u1=>?_)),Bs 4,ab u2 (ca [cp ih,cp ij,cp jx,cp kB] 0 2) (hy ih ij)];rw[u2];have c8:=fg a95;rw[eS (B.mono e a95),e e7 b7 e8 aGq e8 (bx ih ij)];generalize upd b7 e8 aGq=d4 at c8 f e7;rw[fh apO (Q pC d4) (by rw[oH c8];rw[afB c4 U g];rfl),u apO gS ak4 tr gS bz];have d:vD D W m=ai->apO=ab:=ai (f5 oC q);have c3:=dm hd;rw[c9 e8 e7 (dl a7i)];{rw[a2 c3 (v H3 yS a_A)];{rw[bn e8 e7 (dl a_y)];{rw[a2 c3 (aJ H2 GO)];by_cases i0:ih<D.h;{have st:alK=ab:=by{delta Xq;simp[pg e5,pg e6,pg c1,i0]};refine adJ (x (mh i0)) (f p _ _ (nv (W m)) rfl (av (dm c7)) EA gJ);cases n:W m with|none=>{rw[bD aHZ];delta vD;rw[n];simp}|some Z=>rw[(ea ZY)];have ok:vD D W m=ab:=by{delta vD;rw[st,n];rfl};have yD:Cf aMh d4 (.ref e8) gS (i+1):= .inr (f i m c4 (aP e8 e7));rw[bu,Cr f];{rw[bD (v a8p c8 (MH ?_))];delta oC;rw[ok];subst o;simp};{rw[n e8 c (oB e7) (oB b0) ?_];rw[afA];have f7:apO=! q.at_.below eL:=by{delta oC;subst c0;simp only[ok,a5J,e0];simp[tr]};refine fF (fun r=>?_) (fun r=>?_);rw[l (fin aIF),cv a8p c8 (MH bz)]}};{have st:alK=ai:=by{delta Xq;simp[i0]};refine aVI ag (fin (d ?_));delta vD;rw[st];rfl}};rw[oP aHZ c1]};{rw[b3 p0 (¬ij<D.w) (sO (Bo e6)),bD (fin (d ?_))];delta vD Xq;simp[p0]}};rw[oP (aHZ) e5]};{refine fP;rw[XT];rintro⟨⟨l,j8,b1,i1,rfl,a5⟩,s,g⟩;rw[Je];rw[axm g];rfl}
universe z
inductive azg(C:Addr)(vs:af)(H:Hp)(Q:VK)(E:XK):Prop|mk:da (GM.Net D) (DB D) (zE D=ae->ge (GM.vg D)->azg C vs H Q E)
theorem aZs{D:Gla.Plan}(Z:zQ D)(c0:zE D=ae):cz lG (gN p):=gS (by rw[g4 (UC c0)];exact⟨hs (Z.wide p c2) e8.1.1,hs (Z.BJ p c2) YE⟩)
theorem aZt{D:Gla.Plan}(F:DB D):∀m∈gS,gN eL:=fun m c4=>⟨t5 (wC m c4).1.1,t5 (wC m c4).1.2⟩
theorem azh{I:Type}{f:I->iY}:k1 (bk l (dj (f x)=ab)) (∃ns:ao,xK=wz aa)|[],_=>dx []|a::J,h=>by rw[ck ns (azh (l:=J) anN),ch n d1 (h a bK)];exact rX (n::ns)
theorem aZu(D:Gla.Plan)(B:Ei):GM.Ti D B=GM.ko (Oe D) (GM.ko (Z anJ ae aoH) (GM.vg D)):=by cases B with|none=>{rfl}|some B=>delta GM.Ti Cp;by_cases q:aKR;rw[aZ];{simp only[q,iR,aCO,CU];rfl}
theorem aZv{D:Gla.Plan}{B:Ei}(U:E b (B=aa b) (GM.Clean b))(W:Oe D=ae)(d1:(Z anJ ae aoH)=ae):GM.Net D:=by refine(GM.aR' U W ?_).1;cases B with|none=>{exact d1}|some B=>delta Cp at d1;by_cases q:aKR;rw[cK];{simp only[q,iR,aCO,CU]at d1⊢;exact d1}
section z
theorem aZw:T.awf.Ok P w aj 6 (azg bJ):=by refine T.awf.go aTK aL;generalize aG=e3,aA=A,aF=outer,aE=s,aD=H,aB=vs,aH=Q,aI=E;rw[aN,M iw,aX,F a D b2 dl G,cn N F c0,fV,g4 (UC c0)];have Z:=iT;rw[y (L ake (dK azb) (e ake 2 (ot nK) (cj "number" 3) (ci 3 ake) kK (bC (jk aq rd T.GK.h (sB ay8) a6 T.GK.b .nil fp (dY bb)))) (ou (b4 aZr aw) (ou (a7 aZq aw) (bo (D lq (dN aw) (Se aq rd T.T1.h (sB aZl) a6 T.T1.b .nil fp) (dO (dK aVy))) cu)))) JA (aS e8) aG5 (aZs Z c0) (aZt F)];have k3:=um;rw[cv hd k3.at_,df e2 j0 k3.m];have g8:=H8;rw[a2 hd (a jA jq G _ rfl (cc e2) (v Nw) rfl (v aQ bM (fun p g=>?_)))];rw[iQ];have j:X≠p:=by{rw[f1 lk Y.sw.k];exact fm q g};rw[fH Nw (oN a8 (aj p (B (B (D.marks.take i) (bo Jf)) nv))) (v (lK g) (Y.mono (b_ g)) ak)];{rintro i L hi⟨sb,d5,e⟩;rw[aLz,j4 3 (cp (0+xp))];rw[d2];have c4:A gS (dx gS ah):=pF;generalize dx gS (bU hi g8.l)=m at c4;rw[a9r,im (a y dy _ rfl b6 aaj D y (gt m d5 c4)),gt (b5 _ _ e (ax ajZ)),K b9 (by simp;exact hn (oO i qW) aG5 fw) ?_ Pb];{intro c o g7 nc;rw[cj ch c p,L (bW ch) ((aj5 b5) c o g7 nc)]};{rw[baU,gS (b7 p) b9];have B:=bJ b9 a3;obtain⟨R,j6⟩:=O.sw.at_;obtain⟨h3,n2,⟨m8,d7,_,_,_⟩,_⟩:=O.sw.d;rw[M n1 p e7 (by rw[f1 vs Y.sw.p,fp g q,kG]),an n2 p d Y.sw.g g,an u p I Y.mg g];exact I b1 (Y B.symm a3) (O.sw.put h8 (bJ b9 j6) n1 n2 ajZ (qq b9 d7 ZY)) (Y u.symm O.mg) O.ne};{rw[ak,DK,c4];simp}};rintro b7⟨sb,O,f⟩;rw[c_ g8 f,aj b5 b7 (c_ (sb b o (a4 b o e) (ax (em b0))))];have i4:=gd b5;rw[dZ GM.vg,d a p D b2 dl G (bo Jf) (v i4 f (fun v d4 c8 d3=>?_))];have n:=fg c8;rw[ab c1 (WJ (vD D (bo Jf)) tr gS) baD];rw[c1]at d3;rw[bu];cases g0:baD with|some i=>{rw[u3 g0,e8 dl n ⟨(ah),hG (tm cm)⟩]}|none=>rw[lp g0,XX,tH];have e9:=(GM.S3.mp g0).1;obtain⟨ns,a7⟩:=azh (f:=fun m:G6=>Jf) (l:=gS) (fun m c4=>ah);rw[b2 (dm f)];rw[a7,jw]at l;have d6:zh=qW:=by{rw[ik a7];simpa using aCg};have r:=l;rw[y p ns r ⟨bn d6.l aG5,bbd⟩];have U:=tm d9;rw[<-a7]at d3;rw[bu,al8];cases M:Xo 0 [] (aka (bo Jf))with|some i=>{rw[u3 M,e8 dl U ⟨(ah),hG (ajx cm)⟩]}|none=>rw[lp M,XX,tH];have o2:=bN (O.mono c8) d9;obtain⟨dy,b6⟩:=o2.at_;have J:=fG r;rw[d p _ rfl (cc J) y dy _ (a b6 aaj D y x e7 d X (f c7 I o2 (v N (aS e8) (fun g6 f9=>?_))))];have S:=ajx f9;rw[bA,d6];rw[kj];{have C:qW<a5K:=by{rw[fF (Bn c)]};simp only[C,mJ]at k;rw[c a D b2 dl G (gd S) (ah) (hG (S.trans cm))]};{rw[b3 C (¬qW<a5K) (sO (Bo c))];simp only[C,iR]at k;exact ax S rfl}
theorem azi:T.judge.Ok P w aj 7 (axB bJ):=by refine T.judge.go Tw aL;generalize aG=e3,aA=A,aF=outer,aE=s,aD=H,aB=vs,aH=Q,aI=E;rw[aN,M ob,aX];generalize kQ=a,kR=D,kS=b2,kT=X,kU=G,kX=b4,k_=B;rw[cn hB F e6,ca (X Tw.nd (dK aYP) (rX (gB (dZ yu aw cu) (ac4 (uT (b4 aYO aq)))) (fE (bU 2 Tw.nd (b4 aYQ aq))) Bt) (bo (bm yu aw cu (bU 2 Tw.nd (dK aZw))) aw))];rw[<-(GM.aR_ (r:=D) (k:=B) bcS),aZu]at k;rw[nn h a'r];cases d2:Oe D with|some e=>{rw[QJ,hd p,rC,bD (bd (iN a4))]}|none=>rw[QJ,QB];subst p;rw[d a D b2 X G b4 B (aJ um (hB.mono a4)),Ii d2];have o:=aZv (D:=D) (B:=B) bcS d2;have k:=k;cases l:anJ with|true=>{rw[l,cN]at k o;rw[g rfl a D b2 X G um (d (o rfl) F N bdQ)]}|false=>rw[l,Ow]at k o;rw[d a D b2 X G b4 B (a um (hB.mono a4) d2 e6 aHX),QN,bu];cases y:aoH with|some e=>{rw[y]at p k;rw[hd p,rC];exact iN i9}|none=>rw[y]at p k o;rw[QB];subst p;rw[fa i9 (o rfl) (v F N (fun v d4 c8 p=>iN (Iv c8)))]
universe z
theorem azj{D:Gla.Plan}(C:GM.Clean D){m:Gla.Mark}(c4:m∈gS):ax h Jf h:=by obtain⟨g,_,_,e,_⟩:=GM.S8 C.net NF C.aez (HS.1 m c4);exact aW e
inductive azk(C:Addr)(vs:af)(H:Hp)(Q:VK)(E:XK):Prop|mk:∀(a:Addr)(D:Gla.Plan)(b2 X G:Addr)(i j:Nat)(c6 e0:Gla.Mark),e [bc,pC,vn j] Ab (wQ D) (A gS c6) (aa gS e0->zG (B (akc (Xs D (IC D aFg) (IC D aFf))) (jH D))->azk C vs H Q E)
section z
theorem aZx:T.avZ.Ok P w aj 6 (azk bJ):=by refine T.avZ.go aTx aL;generalize aG=e3,aA=A,aF=outer,aE=s,aD=H,aB=vs,aH=Q,aI=E;rw[aN,M Jv,aX];generalize EX=a,EZ=D,E5=b2,E6=dl,E7=G,E8=i,Fb=j,Fe=c6,Ft=e0;rw[cn a9 hi b8,Bm];have C:=aFi;have Z:=Ds;rw[g4 Og];obtain⟨R,c9⟩:=azj C (bO hi);obtain⟨M,d9⟩:=azj C (bO b8);rw[y (i 3 Xu (dK azb) (bU 4 Xu (as (HF aq) (HF aw))) (bo (bU 5 Xu (as (dh bR) (dh bR))) (Bz rfl Xu (om (dK LI)) (cj "line" 6) (ci 6 Xu) (lk (KG (aYv (K:=K) rfl (aYp a6)) (jk bb rd T.TZ.h (sB aZk) a6 T.TZ.b .nil fp (dY eu)) (as bR cI) bI)) (bC eu)))) ag ag ag (gS ⟨hs (Z.wide p c2) YE,hs (Z.BJ p c2) (JA).2⟩) an7];{have:=HS.1 m c4;unfold Gla.clear at this;rw[yx this];exact⟨eC this.2.1 YE,eC (aS fj) (JA).2⟩};obtain⟨f7,u⟩:=aj6;rw[c y f7 u aaj D y (gt c6 Y hi),baU,c y b1 a3 aaj D y (a x e7 d X c7 I j e0 (a rfl O b8 Z (fun d4 c8 g0=>?_)))];rw[c9,d9];rw[v (ag) (fun W n1=>?_),l i6 d4 d4 W (bx R M) n1,e g5 d4 W a61 W (bx R M)];have o2:C6 aKj:=g0.mono i6;have k9:SB [X] a8 aKj:=J (fg c8) (cF i6);generalize aKj=e4 at g5 o2 k9;rw[c9 W g5 (as W g5 dg ⟨(ag),fun d8 n2=>?_⟩),l e2 e4 e4 d8 (bx M R) n2,e i2 e4 d8 (bx M R) d8 (bx M R)];have U:=e2 _ _ g5;have m7:=o2.mono e2;have B:=k9.trans (cF e2);generalize upd e4 d8 (bx M R)=g6 at e2 i2 U m7 B;rw[aj d0 g6 (c_ (B b o (a4 b o e) fR)),c a D b2 dl G (gd d0) (f3 (bv (aCU e a0) bdX)) (iS iA (fun le h5 h1 j3 LE=>?_))];obtain⟨a7,e1,e5⟩:=LE;have N:=m7.mono h1;rw[eS (zR h1),a7 le e1 aJL];have b3:=e5.length;rw[Xc]at b3;obtain⟨i0,g4,_⟩:=N.sw.k;have g8:X≠c0:=fm g4 c1;rw[an h2 c0 d N.sw.g c1,an h3 c0 I N.mg c1];refine arO (O:=a7) (fun n L=>oN h5 (∃d7,yQ (aj c0 d7) (oP<=n) (dD (eR L) d7 (B (ea (pj n) a7u) (jH D))))) (c (lK c1) (ajs (ac [] c1)) [] ak a_ .nil) (fun n L _ z=>av (z.1 _ _ e1 (ax (J (ey (g6 X≠ae) (by rw[f1 lk m7.sw.k];rw[q];rw[Bi]) (this (z▸j3))))))) ?_ ?_;{rintro n v L d3⟨sb,d5,d7,c3,V,r⟩;rw[jq e5 d3];delta aFh at a5;rw[gv a5,a2 e a0 a5];have d1:n<akf:=bx d3;have g:=aj4 (L1 N.sw.k);have rv:eR L v (jH D e):=tn g J;rw[db (pj (n+1)) (pj n++[e]) a0,a9r,b rfl y dy _ rfl b6 aaj D (a y x e7 d X c7 I v (a e rfl d5 rv (uj) Z (fun i3 t d6 n8 h4 i1=>?_)))];have c5:=d6.ts (L1 Xl);rw[v (ag) (fun q d2=>?_),l b9 i3 i3 q aoS d2,e j8 i3 q aoS q aoS,m i3 q aoS i7 b9 j8,g q W d8 (dT (dn R M)) (dT (dn M R)) aLM (cx j8) (a (fm g5 n2) (ww (cx (b9 _ _ h4))) (HE (iP U)) (HE (iP i2)) tS tS tS ?_)];have k2:(jv (dT (dn R M)) aLM||jv (dT (dn M R)) aLM)=beT:=by{rw[GP,GP];delta Xs;rw[iN];simp only[ahm,iS,Od,Oc,Cu,aiP];rw[tY]};rw[k2];have S:SB [X] h5 i7:=J (aj5 d6) (cF b9);have l2:=n8.mono b9;have F:=b9 _ _ (d6 _ _ c3 fR);rw[ae e6 L i7 (c5.trans (cO b9))];have e9:=cc e6 r;cases f5:beT with|true=>{rw[b d7 F (x (Kl V d1 b3.l iA fw)) ?_ ?_ (d7++[v]) ak ag ?_,DQ (S c o g7 nc)];{obtain⟨h6,f6⟩:=l2.at_;rw[zc l2.sw.at_];obtain⟨f9,i4,⟨i5,h7,_,_,_⟩,_⟩:=l2.sw.d;exact I h6 (Y (bt (bJ F f6)) f6) (l2.sw.put (jz F) (bJ F x3) (J (by rw[f1 vs N.sw.p,fp c1 q,kG])) h2 g8.symm (qq F h7 ZY)) (Y h3.symm l2.mg) l2.ne};{rw[ae h8 i7 (aV i7 c0 d7 v) (Gx F)];rw[g9,DG,fe];rw[GP [e]];rw[b4];exact eB (cc h8 e9) (tn (aj3 h8) rv)}}|false=>rw[j S l2 d7 F (as EI)];rw[g9,DG];rw[GP []];rw[b4,qJ];exact e9};rintro h9⟨sb,d5,d7,c3,V,r⟩;rw[c_ b3 r];rw[c9,d9]at k;exact k c0 h9 (c_ (sb b o (f b o e) bz)) (f.free c1) (v d7 c3 r)
universe z
inductive NumV(C:Addr)(H L:Hp)(v:V)(T:Gla.Plan)(c:Jk):Prop|mk:∀(d8:Jk)(a b2 X G:Addr),b v bc (g2 L amZ) (aiC c) (a3r (fs amu)) (c (Y a) (Y b2) (Y X) (Y G) aKP)
inductive azl(C:Addr)(K:Fg)(vs:af)(H:Hp)(Q:VK)(E:XK):Prop|mk:∀(w h:Nat)(b2 le G:Addr)(pts:eh)(g:mZ)(marks:Jk),e [vn w,vn h,YC,.ref le,.ref G] a9p (bm eR le g) (bm so G th) (j bc' (NW<9000) (aCZ<9000) bcB (D1 (aFj w h pts g th)) (azl C K vs H Q E))
theorem aZy{a b:Pt}(h:mK (sH b) (sH a)=ai):aio a=ai:=by have:=Ua b a;rw[al5];exact h
theorem aZz{a b:fz}(h:mK (GZ b) (GZ a)=ai):DD b a=ai:=f1 (DD b a) (GM.BQ.mp q) GZ
theorem aZA{a b:Gla.Mark}(h:mK (L4 b) (L4 a)=ai):amu:=f1 (a5L aiq) (GM.iF.mp q) L4
theorem azm{I:Type}{lt:ya}(cQ:eR AF (lt a b=ab\/lt b a=ab)){l:ba}(nd:l.Nodup)(s:oV (li (lt y x=ai))):oV (li (lt x y=ab)):=by refine(List.Pairwise.and nd s).imp (fun{a b}⟨ne,h⟩=>?_);rw[al (cQ a b ne),iy,az]
theorem azn(x y:Pt)(h:sH x=sH y):x=y:=by rw[n1 x,c8 d y];simp only[sH,Od,Oc,W9]at h⊢;lia-abstractProof
theorem aZB(x y:fz)(h:GZ x=GZ y):x=y:=cq
section z
theorem azo:T.numbered.Ok P w aj 3 (azl bJ K):=by refine T.numbered.go aS_ aL;generalize aG=e3,aA=A,aF=outer,aE=s,aD=H,aB=vs,aH=Q,aI=E;rw[aN,M aL,aX];generalize aG=C,aA=c,aF=b2,aE=le,aD=G,aB=pts,aH=g,aI=marks;rintro rfl c2 a0 c4 R I D k8 k;rw[fV,ca (i 5 ID (Cn aw) (bU 6 ID adF) (bX (t cI 7 ID 8 ID (dY eu kf ke)) (e ID 9 (om bb) (bk "p" 10 "q" 11) (bC (V 10 ID 11 ID)) kK (bC (bh aVz (Sx xr eu EU lO) (Sx xr eu OR lO)))) (aP bS aq cI (Cn xw) (sk bR))))];delta rY;refine agk (K:=K) (O:=sH) azn c2 (fun p _=>Rj) R.1 R.2 (fun ls a8 W r O dO a4 e1 c5=>?_);have b4:=bhp;have V:fh<9000:=by{obtain⟨_,B,h7,hB⟩:=R;rw[dh O B (aJ (hB x (x (r x) S)))];exact Rb};refine JX;rw[l b5 a8 a8 d pX nd,e b9 a8 d pX d pX,m a8 d pX b7 b5 b9,tr c5,y ls b1 (av (gM hu)) (bv fh (bi (vm (fun j3 i9=>M=[bE C,bE c,ac b2,Ar,ac G,ac ls,rr,j3,i9,ae,ae,ae])) OH (oq tW (P p (j<i) W p (fa F tX=aa (vn j))))) (c J9 b5 [] b9 a_ (fun j p b8=>Ao)))];{rw[pm s];exact d b1 (dx b1 (t aj0 hi)) (br hu) pF};rw[iX s (ap b1 (br hu) aj0 a_)];{rintro i M L k3 d4 hi⟨⟨j3,i9,rfl⟩,s,F,c1,lk,mk⟩⟨d6,y,rfl,k4,rfl,b6⟩;rw[aW p a3 a9 (b6 b1 (br hu))];have c8:=j2 hK k4;have a7:upd L d6 hK d=aa tW:=co k4 c1;rw[d4 l5 hK hK,oq (bL c8 J)];generalize ko (eq cV)=d4 at c8 a7 l5 U;rw[d d6 _ rfl (cx l5) rfl d _ (a (qw.t (k:=tX) a7 U (c_ lk hi V)) (bm _) (gc c8) (mM F tX pC) ak ?_ (fun j q b8 e0=>?_)),cb (Uz F tX pC) (cf this lk)];{rw[Sq];rw[N z j i];{lia};{rw[bj (e7 (z ?_))]at⊢;rw[l (mk j q (iM z) e0)];{have:=ayu y;rw[gm];exact F5 O e0 a3}}}};rintro M d4⟨⟨j3,i9,rfl⟩,c8,F,c1,lk,mk⟩;have k1:=eX c8;have numOf:=gS (by rw[iS (wt (ae (r p) c2))];exact mk _ p lt (WQ ⟨lt,ah9 lt⟩));rw[bE d3 pv (id a0),bD le (aW (k1.seq d3)) (fun i0 i8=>d sk gx iI (a0.mono gx k1) (ch (aa (min YR YQ,max YR YQ))) i8 (f7 I))];{rintro i l v L h4 N a5 s⟨b,e7,f5,rfl,U,⟨e5,rfl,l2⟩,e6,rfl,m⟩b6 d1;have c4:=k8 l (bO a5);have c7:=bv c1;rw[A2 (b d _ rfl (gH l.1 l2 c4.1) d rfl (gH l.2 m c4.2) (ce YR YQ (fun v e4 d9 d3=>fr d9 d3)))]};rw[bby,eT e2];have l1:=aFe d9;rw[bD (agk (K:=K) (O:=GZ) aZB (Z:=qZ (bE YR YQ YR YQ)) (v d7 (av g5) e2) aIl (nF I) (av hS (aJ S)) (fun X g6 V d5 e8 e9 f9 b0 Z=>?_)),aJf,bD (agj (K:=K) (O:=L4) (aD_ jo d0) aIl (f7 D) (fun u o d8 b3 c6 Y c0=>?_)),bf4,bep];have f:=zR h1;rw[mq dx,P sm h5 (cw h5 dx anl) Pp,e t (upd h5 dx DZ) x anl x anl];generalize cw h5 dx anl=h9 at sm t;rw[d x dx C c ls X u amC];have n:=f.free nx;rw[gS (h9 x) t];have c9:=Xv dj (b_ Ed f9 (zF sm)) (v b1 hu a9);have d2:=Xv iI (zF sm) Z;have c3:=Xv jo sm c0;refine ax (fG (aFk sm) n) (a d8 x ls X u rfl (I dx ak ?_ ?_ (c3.put jo h8 (zU c3))) b3 (a a_a n e1 (l1.free b0) (d0.free Y)));rw[cZ (c9.put (o:=bfX) dj h8 (mX c9 ah)) b4 this];{have:=d2.put (o:=bfX) iI h8 (mX d2 bM);rw[bX (GM.aeq d5 (azm GM.aep e8 (e9.imp (ai (aZz q))))) b4];exact this}
universe z
inductive azp(K:Fg)(vs:af)(H:Hp)(Q:VK)(E:XK):Prop|mk:∀(l:Addr)(row:eh),A [cB] (bm dG l row) (H0 YS) (azp K vs H Q E)
inductive azq(K:Fg)(vs:af)(H:Hp)(Q:VK)(E:XK):Prop|mk:∀(v:V)(c0:Addr)(l:ki)(row:eh),e [v,O4] aod (bm dG c0 row) (gN l.1) (c (gN l.2) (V p row (gN p)) (ff<1000) (H0 (IE row l)) (azq K vs H Q E))
inductive azr(C:Addr)(K:Fg)(vs:af)(H:Hp)(Q:VK)(E:XK):Prop|mk:∀(a b c d:Addr)(r:Gla.Plan)(b2 le G:Addr)(pts:eh)(g:mZ)(marks:Jk),e (ce bc b2 le G) (LH C H a r b c d) a9p (bm eR le g) (l (bm so G th) bc' (NW<9000) (aCZ<9000) bcB (D1 (aFj r.w r.h pts g th)) (azr C K vs H Q E))
theorem azs{I:Type}{row:ba}{j:Nat}{e:I×I}(h:aa (YS) e):aa row e.1/\K row (j+1) e.2:=by rw[a4 aFl];rw[aiN,Dn,VJ 1 j]at h;exact h
section z
theorem azt:T.joined.Ok P w aj 1 (azp K):=by refine T.joined.go aTO aL;generalize aG=e3,aA=A,aF=outer,aE=s,aD=H,aB=vs,aH=Q,aI=E;rw[aN,M fP,aX,bV l row];rintro rfl⟨vs,d3,d⟩k;rw[cl (cn (aYq (K:=K) rfl rfl bI ajV bI T.zip (sA bS (x2 bS)))) d3 (fun b a5=>?_),aa vs (gH 1) (Oh 1) _ 1,aj a4 (ap b (Oh 1)) xx,a b4 H b (Oh 1) b (Oh 1),is (ap b (Oh 1)),e l b _ _ rfl (akg d3) (av b4) (fun i1 b7 J=>?_)];obtain⟨b5,d6,Y,F,h2,al⟩:=J;have i9:=eN;refine k i1 b7 i9 (gV d6) (jl h2);have i5:=oS;refine ayr (by rw[bA,F,(GM.pairs_len row),sL];simp[*]) (fun j v e b8 a0=>?_);rw[gv b8,a2 a b3 b8];obtain⟨_,x,y,⟨S,b6⟩,d0⟩:=al j a b3;obtain⟨g7,g8⟩:=azs a0;rw[Dn,VJ 1 j]at b6;rw[cM d2 r1 (mx d g7),bJ q2 r2 (mx d g8)];rw[S]at d2;rw[b6]at q2;cases d2;rw[a4 q2 (bO a d0 (bL i9 r1) (bL i9 r2))]
theorem aZC:T.parted.Ok P w aj 3 (azq K):=by refine T.parted.go aeY aL;generalize aG=e3,aA=A,aF=outer,aE=s,aD=H,aB=vs,aH=Q,aI=E;rw[aN,M oc,aX,al v c0 l row];rintro rfl d3 I j1 d5 u e k;rw[fV,ax a b3 j0 j6 d3,tr (id I),K (b4 (e aeY.nd 2 (om aq) (cj "point" 3) (ci 3 aeY.nd) (lk (uT (Z awN kH kH bb))) (bC bb)) (gd (afg K aw) (d9 bS)) (a7 azt (cY (d9 kH) (Cn aw) (d9 kH)))) c0 rfl ⟨aW hu,fun m y=>d dG dj dj I (bn (jD (Dz l.1 l.2 p) p)) y (f7 e)⟩];{rintro i p x L h4 N c2 s S b6 d1;have g:=cO s;rw[c rfl a _ _ _ rfl (cx (bv b3)) (bh dg a (cx (bv b3)) (a dq l.1 l.2 p (cz (hH g j0) (hH g j6) S) j1 d5 (u p (bO c2)) ?_)),go (Dz l.1 l.2 p) (ab p (x kO) eg S) hS]};rw[apN];rw[Ly]at e9;rw[ca (.inl (bm (av b4)))];have B:=cO a4;rw[dZ IE];cases f:ND aah with|nil=>{rw[f]at e9 k;cases e9;rw[v (ag) (fun b a5=>?_),gU (i9 bc a5)];exact k b _ b5 (gV a5) (av ak (hq (tn (cO b5) d3)))}|cons z zs=>obtain⟨k3,c,rfl⟩:∃k3 c,d7=k3::c:=by{have:=qX;rw[am f];cases d7 with|nil=>{trivial}|cons k3 c=>exact bp k3 c};rw[bn a Oz ⟨(ag),fun b a5=>?_⟩,gU (i9 e7 a5),a b9 a8 b [e7] b [e7],i M a8 b [e7] m (k3::c) a5 b4];have j:=fW (ac [e7] a5) e9;rw[bo (U a8 b [e7]) b9 M j];delta rY;refine agk (K:=K) (O:=sH) azn (Z:=ND aah) (cd M j) (fun p _=>Rj) bz (v row (x (fH e tv)) (aJ (fb S))) (fun ls d4 W r O dO c8 e1 c5=>?_);have V:fh<1000:=by{rw[dh O row (aJ (fb (x (r x) S)))];exact Rb};obtain⟨ws,hw,C⟩:=c5;have q4:=C.length;rw[n b ls (dm b9) hw ⟨jk q4.l V,fun e5 n=>?_⟩];have d9:=J (fg c8) (bs [e7] ws n);rw[a g5 d4 e5 alG e5 alG];have o:=er sH (bs [e7] ws n) C;rw[f d4 e5 alG e4 d9 g5 o,c9 a (fG b3) ⟨(ah),fun e6 d=>?_⟩];have f9:=mX (ac [f5] d);rw[a i2 e4 e6 [f5] e6 [f5]];have U:upd e4 e6 (.lst [f5]) e5=_:=co d g5;have n4:=er sH (ac [f5] d) o;generalize U e4 e6 [f5]=g6 at f9 i2 U n4;rw[n e5 e6 U i2 ⟨jk q4.l V,fun c1 t=>?_⟩];have h1:=mW bd8;rw[y c1 (l.1::(W++[l.2])) (jl (av ak)) (fun i1 h9 R e0 Z=>?_),l (.cons (bL h1 j0) (eB (er sH bd8 n4) (bL h1 j6)))];{rw[(bhp)]at Z;exact k i1 h9 (zF R) (h1.free e0) Z}
theorem aZD:T.awj.Ok P w aj 4 (azr bJ K):=by refine T.awj.go aTN aL;generalize aG=e3,aA=A,aF=outer,aE=s,aD=H,aB=vs,aH=Q,aI=E;rw[aN,M (aqx ?_),aX];generalize(hk).1=a,aV hk=b,bU hk=c,cD hk=d,bX hk=r,ct hk=b2,du hk=le,d5 hk=G,fp hk=pts,k2 hk=g,a8D=marks;rintro rfl h c2 a0 c4 R I D k8 k;rw[fD,ev (cn (d9 azo (GI bP bP aq aw bb))) (b hd dR H3 yS a dx _ (j hd dR H2 GO r.w r.h (a b2 le G pts g th rfl c2 (a a0 c4 R I D k8 (fun v a8 a4 nv=>k v a8 a4 nv)))))]
universe z
theorem azu{T:Gla.Plan}{c d8:Jk}(F:DB T)(Z:Wv=Xw tr c)(p:aiC c):DB amZ:=by rw[z V (aiC Wv) Z (aDG (bt (GM.yK _ _)))];exact a F.w F.h F.p F.l (t V.length_eq F.m) aiu aCS (fun m c4=>wC m (V.mem_iff.mp c4))
theorem aZE{C:Addr}{H L:Hp}{r T:Gla.Plan}{b2 X:Addr}{x:Gla.Step}{v:V}{c:Jk}(h6:aKP)(c4:ajt r x=aa T)(Z:Wv=Xw tr c)(a9:wQ r)(ask:H9 x):lL x v:=by obtain⟨d8,a,e7,i,I,e,d,p,s,n1,n2,u,y⟩:=h6;rw[cb (GM.auA Z p s)];delta LN;rw[c4];exact a _ a e7 i I e d (azu (GM.Tg a9 ask.ok c4) Z p) (c b.1 b.2 n1 (.inl n2) (.inl u) y)
theorem NumV.up{C:Addr}{H a8 L:Hp}{v:V}{T:Gla.Plan}{c:Jk}(s:cY H a8)(h:aFm C a8 L v T c):aKP:=by obtain⟨d8,a,e7,i,I,e,d,p,q,n1,n2,u,y⟩:=h;exact a d8 a e7 i I e d p (a q (Xx n1) (Xx n2) (Xx u) (Xx y))
theorem L8{C:Addr}{H L:Hp}{r:Gla.Plan}{b2 X:Addr}{x:Gla.Step}(c4:ajt r x=ae):lL x .bC:=by delta LN;rw[c4]
theorem azv{I:Type}{O:ba}{l:I×I}(h:l∈aFl O):l.1∈O/\l.2∈O:=by rw[n3 h];have:=azs b8;exact⟨bO et,bO fj⟩
theorem aZF{row:eh}{d l:ki}(h:l∈IE row d):(l.1=d.1\/l.1=d.2\/l.1∈row)/\(l.2=d.1\/l.2=d.2\/l.2∈row):=by rw[a4 IE];have:=azv h;have O:E p (p∈d.1::(Xw WA (vX (Dz d.1 d.2))++[d.2])) (cF d.1 d.2 (p∈row)):=fun p c2=>by{rw[al (h_ c2),l AM];{rw[hZ q,l (o9 (fb (NC ((GM.yK _ _).mem_iff.mp q)))),az]}};exact⟨O _ et,O _ fj⟩
inductive azw(C:Addr)(vs:af)(H:Hp)(Q:VK)(E:XK):Prop|mk:∀(a c0:Addr)(b8:V)(r:Gla.Plan)(b2 X G:Addr)(row:eh)(m:Gla.Mark),e [bc,O4,b8] Qi (e3 c0 row) Z5 (i (wQ r) (H9 Rh) (nM Rh) (azw C vs H Q E))
inductive azx(C:Addr)(vs:af)(H:Hp)(Q:VK)(E:XK):Prop|mk:∀(a:Addr)(pv:V)(r:Gla.Plan)(b2 X G:Addr)(k:Nat)(p:Pt),e [bc,vn k,pv] Qi (br pv p) (wQ r) (H9 aoC->nM aoC->azx C vs H Q E)
inductive azy(C:Addr)(vs:af)(H:Hp)(Q:VK)(E:XK):Prop|mk:∀(a:Addr)(b8:V)(r:Gla.Plan)(b2 X G:Addr)(i:Nat)(m:Gla.Mark),e [bc,pC,b8] Qi Z5 (wQ r) (H9 ZW->nM ZW->azy C vs H Q E)
theorem UL{I:Type}{l:ba}{k:Nat}(h:k<d_)(x:I):G5 k++[x]++oJ (k+1)=V3 k x:=by rw[List.set_eq_take_append_cons_drop,aK h,du];rfl
section z
theorem aZG:T.awk.Ok P w aj 5 (azw bJ):=by refine T.awk.go aeZ aL;generalize aG=e3,aA=A,aF=outer,aE=s,aD=H,aB=vs,aH=Q,aI=E;rw[aN,M Jv,aX];generalize EX=a,EZ=c0,E5=b8,E6=r,E7=b2,E8=X,Fb=G,Fe=row,Ft=m;rintro rfl h I c4 a9 ask k;rw[fV];have C:=aFi;have Y:=NF;rw[g4 Og];have j:aMF:=ask;have t:=GM.auj C row (fun p _ e a0 q=>GM.auo Y a0 q);rw[cO o1 (cz dd (gN p)) YE (JA).2];have e9:∀d∈HR,d.1∈dd/\d.2∈dd:=fun d hd=>by{obtain⟨e,a0,b4,b9⟩:=GM.aeg.mp (show(d.1,d.2)∈HR from hd);have:=jd;exact⟨bl b4 (DR Q3),bl b9 (DR fj)⟩};rw[K (i 3 aeZ.nd (j6 azt) (bd (dK LI) 4 aeZ.nd (ez bb (bh aZC bR aq))) (de (eL (ec bP (uU aq)) bb (ec bP (d9 aw))))) c0 row (ai I.ls (fun le a8 a4 j3 LE=>a a r b2 X G rfl um (f3 (by have:=jd;rw[jY])) (f7 iA) (fun ld b7 b5 B f7=>?_)))];obtain⟨c7,d7,c9⟩:=f7;rw[a7 ld d7 (aJ c7 (fo (GB (∃b1,M=[kJ,OM,aa b8,Ar,b1]) bQ (aj ld c7) (dD (eR L) c7 HR) (dB eR L le (YS++a'd)))) (a qf (eN) d7 c9 (ax (LE.mono gx b5))) (mM (av z.3)))];{rintro i x M L S⟨⟨b1,rfl⟩,s,a3,d3,d0⟩;rw[aW d hd d3 S];have o5:=e9 d (bO hd);obtain⟨a7,F,N⟩:=d0;rw[aK (akh (i+1)) (akh i) d hd];have cQ:t (YS++a'd)+t (IE row d)<=dP+2*ff:=by{have b4:HR=akh (i+1)++r.drawn.drop (i+1):=aGc;rw[b4,g9,zG,zG]at t;simp only[cj,o_,a5M,qJ]at t⊢;lia};rw[c (dp F) x c0 d row J (I.mono dj s).ls (a (o1 _ o5.1) (o1 _ o5.2) (gS ⟨js (baZ).1 ay,js (baZ).2 ay⟩) (f8 j.1.2.1) (fun i1 d4 c8 e0 D=>?_)),b6 e1 V D];have O:=dm F;have d5:=V.length;have h2:=iP;rw[n le i1 O e1 (as bM),ae h8 d4 (U d4 le (a7++c5)) (Gx O)];have g:=J (cO c8) h8;rw[j ei (fG (il c8) j3) (Y (J (by rw[ge q LE,b2 e B];cases B)) (dm a3)) (cc g d3) (aJ (a7++c5) ak)];rw[g9,zG,<-du];simp only[o_,a5M,qJ];exact oA (cc g N) (cc h8 V)};rintro M d4⟨⟨b1,rfl⟩,c8,a3,d3,U⟩;rw[c_ d3.length U];have o:=gd c8;rw[cv c3 o.at_,b6 n W o.p,df d1 Z o.m,bH d2 b0 (I.mono dj c8),it fh];have g8:=fK;have i7:=b0.length;rw[a2 c3 (K gb fX c0 (cc d2) (fun e5 n1=>?_))];have d9:=wN (ac f n1);have i6:=ac f n1;rw[a g5 d4 e5 f e5 f,f d4 e5 f e4 d9 i6 g5,n b2 e5 (i6 _ _ n) g5 ⟨fR,fun e6 n2=>?_⟩];have f9:=mX (bs c5 f n2);have e2:=i6.trans (bs c5 f n2);rw[a i2 e4 e6 (c5++f) e6 (c5++f),f e4 e6 (c5++f) g6 f9 e2 i2,a2 (e2 _ _ c3) (d jA jq (ag) (fun c1 u=>?_))];have h1:=mW (ac [b8] u);have c6:=e2.trans (ac [b8] u);rw[a j1 g6 c1 ue c1 ue,i b3 g6 c1 ue e6 (c5++f) u i2];generalize U g6 c1 ue=h5 at h1 c6 j1 b3;rw[n G c1 (c6 _ _ d1) j1 ⟨jk g8.l pT,fun i0 y=>?_⟩];have R:=zF (ac Zk y);rw[cl (c6.trans (ac Zk y)),a j2 h5 i0 Zk i0 Zk,i b6 h5 i0 Zk e6 (c5++f) y b3];generalize aV h5 i0 d8 b8=h9 at R c j2 b6;rw[cb (cO c),b a b2 X G r e6 le i0 (a (dd++row) (YS++aiy (IE row)) (dQ++[m]) rfl (gd R) (cd b6 (oA (g8 b W) (g8 b b0))) (U.mono gx c).ls (cd j2 (eB (dE (lM b) Z) (to R))) (a (d a_' _ a_' (aJ S)) bM (nF pT) Yn a'W))];{rw[hZ a5];{have:=azv q;exact⟨qH _ et,qH _ fj⟩};{rw[aJ d hd (aCX q)];have o5:=e9 d hd;have:=aZF q;constructor;rw[dV,dV]}};rw[as i3 (wu d6) R (GM.at1 Y row m) ask]
theorem aZH:T.awm.Ok P w aj 5 (azx bJ):=by refine T.awm.go aTQ aL;generalize aG=e3,aA=A,aF=outer,aE=s,aD=H,aB=vs,aH=Q,aI=E;rw[aN,M aL,aX];generalize aG=a,aA=u,aF=r,aE=b2,aD=X,aB=G,aH=B,aI=p;rw[cn c2 a9 ask,fV];have Y:=aFn;rw[g4 Og,fD,b6 a3 a7 h.p];have d5:=akf;rw[ev (ai bbp (H1 aki) (bo (e aki 4 pH (bk "a" 5 "b" 6) (bC (V 5 aki 6 aki)) kK (bC (as (bs bb cI) (bs bb eu)))) (eL bb bR bP))) (b hd dR gb fX b2 rfl (cc a3) ?_)];rw[d5];rw[kj,l (ax (tp H) (L8 (GM.auy ah p)))];{rw[dQ C B aJ,a2 hd (K gb fX b2 (av a3) (fun e0 g9=>?_))];rw[yU c5 B];rw[gO (ap e0 lU) g9,a b4 H e0 lU e0 lU,is (ap e0 lU),v (ag) (fun g0 e1=>?_)];have b5:=i9 u e1;rw[a b9 a8 g0 [u] g0 [u],i M a8 g0 [u] e0 lU e1 b4,f a8 g0 [u] b7 b5 b9 M,df B c5 d5.l AE];have c8:=fg (ac ZO j5);rw[a e7 b7 d0 ZO d0 ZO,gZ d0 ZO,a2 (dm hd) (K gb fX b2 (av (dm a3)) (fun R b0=>?_)),bg3,mi (ac lY b0),a g5 d4 R lY R lY,i D d4 R lY d0 ZO b0 e7,f d4 R lY e4 d9 g5 D,qO a_c AE];rw[UL ag];have f9:=mX (ac aak F);rw[a i2 e4 y aak y aak,i e4 y aak g6 f9 i2];have d:dD (dG g6) aak XY:=by{have J:=cO f9;have z:=g8 J a7;rw[a9X];exact oA (eB (sv B z) (hH J c2)) (Ca (B+1) z)};rw[bJ (gd f9)];obtain⟨ls,q,I⟩:=m.l;rw[a2 Qy (s kC ku X (k1 q) (fun le j3=>d eR iI gx m.l.ls (an (aa (tg e.1,tg e.2))) j3 bM))];{rw[dE e x a0];have ix:=eb e uj;rw[bv g oe (aa (XY) (tg j)) ag,cM g7 r1 (mx d (g e.1 bM)),bJ g8 r2 (mx d (g e.2 ix.2)),A2 (m y _ (br i2) (dX g7) (m y _ (br i2) (dX g8) a'J)),bcZ];exact GS (v ak (hH W r1) (hH W r2))};intro h5 d7 h1 j1 i0;rw[eT i0,eS (mW h1)];have n:=gd f;rw[b (f _ _ hd) y XY n (cd (iP i2) (fW h1 d)) (cd j1 i0) n.m.ls fR fR (nF iA) a'W];{rw[hW a5];have ix:=jd;rw[bv g oe (tg j∈XY) ag];exact⟨g e.1 bM,g e.2 ix.2⟩};rw[as i3 (aFk d6) f (GM.aSc Y C p) ask]}
theorem aZI:T.awn.Ok P w aj 3 (azy bJ):=by refine T.awn.go au3 aL;generalize aG=e3,aA=A,aF=outer,aE=s,aD=H,aB=vs,aH=Q,aI=E;rw[aN,M aL,aX];generalize aG=a,aA=b8,aF=r,aE=b2,aD=X,aB=G,aH=i,aI=m;rw[cn c4 a9 ask,fV];have e8:=Og;rw[fD,df g7 i1 h.m];have g8:=i1.length;rw[ev (b4 bbp (H1 au3.nd) (aP bP bP bP bP (sk bb))) (o4 g7 ?_)];rw[g8];rw[kj,l (ax (tp H) (L8 (GM.mark_none ah m)))];{have C:i<fL:=by{rw[fF (aDf c)]};have j:=GM.aSb aFn C m;rw[a2 hd (K jA jq G (av g7) (fun e0 g9=>?_))];rw[yU d8 i];rw[gO (ap e0 (lN i)) g9,a b4 H e0 (lN i) e0 (lN i),is (ap e0 (lN i)),v (ah) (fun g0 e1=>?_)];have b5:=i9 b8 e1;rw[a b9 a8 g0 ue g0 ue,i M a8 g0 ue e0 (lN i) e1 b4,f a8 g0 ue b7 b5 b9 M,df i d8 g8.l pT];have c8:=fg (ac Zl j5);rw[a e7 b7 d0 Zl d0 Zl,gZ d0 Zl,a2 (dm hd) (K jA jq G (av (dm g7)) (fun R b0=>?_)),aa d8 (oF i) P6 d8 (i+1),mi (ac P6 b0),a g5 d4 R P6 R P6,i D d4 R P6 d0 Zl b0 e7,f d4 R P6 e4 d9 g5 D,qO (RP (k:=i) g8.l) pT];rw[UL ag];have f9:=mX (ac aoJ F);rw[a i2 e4 y aoJ y aoJ,i e4 y aoJ g6 f9 i2,a2 Qy (ev H3 yS (b Qy dR H2 GO a dx _ (j Qy dR gb fX a _ (a dx _ _ rfl Qy dR kC ku ?_))))];delta rY;refine agj (K:=K) (O:=L4) (Z:=X9) (cd i2 (by have J:=cO f9;have z:=dE (lM J) i1;rw[a9X];exact oA (eB (sv i z) (lM J c4)) (Ca (i+1) z))) aIl fR (fun u o ns b3 c6 Y c0=>?_);rw[bf4,bep,eS (mW h1),mq W,P sm h5 (cw h5 W anR) Pp,e t (upd h5 W DZ) x anR x anR];generalize cw h5 W anR=h9 at sm t;rw[d x W r.w r.h b2 X u amC];have d:=aFk sm;have n:=f.free nx;rw[gS (h9 x) t];have g:=gd d;have c3:=Xv jo sm c0;rw[ab Z (BS (Xw tr X9):UX).marks (Xw tr X9)];have b:=GM.auA Z b3 a_a;rw[b2 (azu (GM.Tg a9 (x:=ZW) ask j) Z b3),oH (fG d n)];delta LN;rw[L j (a (BS ns) x b2 X u rfl (I W ak (g.p.put dj h8 (zU g.p)) (g.l.put iI h8 (zU g.l)) (c3.put jo h8 (mX c3 ah))) l (c b.1 b.2 n EM EM (f9.free Y)))]}
universe z
inductive azz(C:Addr)(vs:af)(H:Hp)(Q:VK)(E:XK):Prop|mk:∀(a:Addr)(r:Gla.Plan)(b2 X G:Addr)(i j:Nat),e [bc,pC,vn j] Qi (wQ r) (nM aJz) (azz C vs H Q E)
inductive azA(C:Addr)(vs:af)(H:Hp)(Q:VK)(E:XK):Prop|mk:ga r k (e [bc,vn k] Qi (wQ r) (nM (.drop k)) (azA C vs H Q E))
theorem aZJ{r:Gla.Plan}(Z:zQ r){e d3:fz}(a0:iz)(V:d3∈bX)(h:xv=jH r d3):e=d3:=by rw[cy x_,cb (fZ d3 V),a4 jH];exact qy h (lE h).2
theorem aZK{X:Cx}{P:Program}{w:World}{i o:Expr}{l A:TE}(C:eA=P)(hw:X.w=w)(hu:uJ)(hi:yc)(d0:Bc):F6 P:=aXD hu hi d0 C hw
theorem azB(k a b:Nat):By (vn k) (hy a b)=DS k rK:=by delta By DS;simp only[MR,List.any_nil,aBl];have:∀x:Nat,yz (vn x) (vn k)=(x==k):=ab (by show(v x==v k)=_;rw[iN];simp;rw[Fc]);rw[this,this]
section z
theorem aZL:T.awl.Ok P w aj 7 (azz bJ):=by refine T.awl.go aTP aL;generalize aG=e3,aA=A,aF=outer,aE=s,aD=H,aB=vs,aH=Q,aI=E;rw[aN,M ob,aX];generalize kQ=a,kR=r,kS=b2,kT=X,kU=G,kX=i,k_=j;rw[aV h a9 k,Bm];have C:=aFi;have Y:=NF;have Z:=Ds;rw[g4 Og,fD,df g7 i1 h.m];have g8:=i1.length;rw[q8 (ai (fb (dZ gM aq aw) (dZ uW bed nK) cu) (bU 3 IF af0) (ai (bd (Z aZx bS aq aw) 4 IF (afZ wc bb bR mj rfl)) (gd (aYc bb gW) cu) (bX (e IF 5 (om (dK LI)) (cj "line" 4) (ci 4 IF) (lk (Bq (aZK (P:=P) (w:=w) rfl rfl wc bR bb))) (bC bR)) (bU 6 IF (ec bh0 bh0)) (eL eu cI (ec (hF bP aw) (sv (hp aw)))))))];rw[dN];rw[N c0 i j,Z (dH (x Ap)) (D4 (.inl c0))];{rw[ea bM];rw[q8 _,w (v j) xp (v j) xp (ae akT) (ik i j)];rw[k1];rw[a2 hd (bt jA jq G g7)];rw[g8];by_cases g5:an0;{have k2:ao3=ab:=dH (x (aC g5));rw[i6 ao3,L k2 (D4 (.inr g5))]};have k2:ao3=ai:=ea ag;rw[i6 ao3];rw[k2];have hi:A dQ (dx dQ (fb (Wi i j) (G4 g5))):=pF;have b8:aa dQ (dQ[j]'(fb (HC i j) (G4 g5))):=pF;generalize dx dQ (fb (Wi i j) (G4 g5))=c6 at hi;generalize dQ[j]'(fb (HC i j) (G4 g5))=e0 at b8;have c4:=GM.erase_eq C c0 hi b8;simp only at c4;generalize l9:Xs r (IC r aFg) (IC r aFf)=b3 at c4;refine fun d g4 nd k3=>?_;rw[ym g4];generalize ad d g4=a8 at k3 a4;rw[b a r b2 X G i j c6 (a e0 rfl um a9 hi b8 (fun i5 b7 b5 n5 k5=>?_))];rw[l9]at k5;obtain⟨bs,c5,m4⟩:=k5;have i9:=eN;have i4:=k3.mono b5;rw[ab m2 i5 d i4 c5];have gl:bd (iU b3) dP:=AI;rw[a7 i5 c5 ?_];have m3:Cn P w b7 d (an Aq 0):=av i4 (ch aQ);refine aJ bs (fun n M L=>GB (∃b1,M=[kJ,bE i,bE j,rr,b1,ae,ae]) bQ (aj i5 bs) (dD (eR L) bs Aq) (Cn P w L d (an Aq n))) (a qf i9 c5 m4 m3) (fun n M L _ z=>av z.3);{rintro n x M L S⟨⟨b1,rfl⟩,s,l7,m1,f,h3,W⟩;rw[jq m1 S,B1 J];have d1:n<t Aq:=bx a5;rw[aO j7 n dP (RL d1 gl)];rw[eS]at h3;rw[c d c (gO l) f _ rfl h3 (If (c_ (wm n (t (List.map (jH r) (List.filter b3 bX)))) j7 iA)),gb k4 h3,gS (L d) k4,ae c3 L (upd L d o) (yP h8),j ei (gc s) (Y m2 l7) (cc c3 m1) (av (o7 (min (n+1) (t Aq)) (min n (t Aq))) Yd)];rw[DK,a5];rw[T m l,aZ,bbD]};rintro M d4⟨⟨b1,rfl⟩,c8,l7,m1,f7⟩;rw[c_ m1.length f7,bH h3 W (id f7),Q d f _ ⟨h3,fun b U=>?_⟩,ck n8 ((xv∈Aq)↔b3 e=ab) (by rw[fJ];constructor;{rintro⟨d3,V,q⟩;rw[bJ (vJ V)];rw[<-aZJ Z m.1 a0 q];exact m.2};rw[dV])];cases b with|false=>{rw[bD (ax c8 (L8 ?_))];have al:=U.mp rfl;rw[ck m5 (b3 e=ai) bz];rw[c4,aK];rw[dW];rw[a3n];rw[aab];rw[m5 e a0];rfl}|true=>have k0:¬t (iU XJ)=dP:=ai (by rw[ci (List.filter_eq_self.mp (List.Sublist.eq_of_length List.filter_sublist q))];have:∀B,f B=ae:=by{refine aHw;have j6:¬(ab=ai↔∀B,f B=ae)->cD:=J (z U);rw[ck a3 (b3 e=ai) ah];have D:(iU b3)=[]:=List.filter_eq_nil_iff.mpr (f3 ag);rw[D]at h3;obtain⟨F,d2,q2,q3,i6⟩:=h3;have:F=[]:=NO ah;refine f6 (fun B=>?_);rw[<-i6,this];rfl};exact cy (U.mpr this) ay);rw[bj k0]at c4;rw[ck e9 (e.1<aJ/\e.2<aJ) (by have:=jd;rw[fT]),c a r b2 X G (gd c8) e9 (iS iA (fun m6 e4 d9 n9 LE=>?_))];obtain⟨o1,l0,m7⟩:=LE;rw[a7 m6 l0 a_n];have m8:=aEY d9;refine d eR gx gx (cd l0 m7) (ch (jD (! cv amT) l)) j3 (t Xc (cf iA fw));{rintro n l x L h4 N a5 s rv b6 d1;rw[B1 rv];obtain⟨I,k6,t⟩:=m8.mono s;rw[d rfl d c (gO l) I _ rfl (aJ k6 (na rv)),ae b4 (Z ab (! dj (I (gO l))) (dj (I (gO l)))) (! cv amT)];rw[b4];rw[go (! cv amT) (ab l (x kO) eg rv) ag]};intro g6 d7 f9 i2 y;rw[Ly]at y;have c9:r.drawn.filter (k3 (cv amT))=Pl:=by{delta aFh;rw[a37];rw[dW];refine Wj nO;rw[cl O (∀x:ki,x=xv->(! cv (x∈Aq))=! b3 e)];exact O _ rfl};rw[c9]at y;have d0:=J Ed f9;have j0:bd (iU XJ) dP:=AI;have k7:dB eR g6 le Pl:=v d7 i2 y;rw[a7 le i2 (fun a7 n1=>d dG gx dj k7.ls (ch (aa l.1)) n1 (jk j0 iA))];{rintro n l x L h4 N a5 s⟨c,e7,f5,rfl,b0,r1,r2⟩b6 d1;rw[im (as c b0 dg (fr eg r1))]};intro h5 i8 h1 j1 i0;rw[eT i0];have l1:=k7.mono gx h1;obtain⟨o2,m9,_⟩:=id l1;rw[a7 le m9 (fun d5 n2=>d dG gx dj l1.ls (ch (aa l.2)) n2 (jk j0 iA))];{rintro n l x L h4 N a5 s⟨c,e7,f5,rfl,b0,r1,r2⟩b6 d1;rw[im (as c b0 dq (fr eg r2))]};intro h9 d6 R j2 k8;rw[eT k8];have n0:=i0.length;have n3:=k8.length;rw[bA,bA]at n0 n3;rw[gN (R _ _ j1) j2 l_];have h2:=bs i8 d6 u;rw[a j9 h9 l3 (i8++d6) l3 (i8++d6),i h9 l3 (i8++d6) i3 h2 j9];have l2:=J (zF R) h2;have c7:=zR l2;have p2:=c7 _ _ hd;have l4:=c7 _ _ g7;rw[bD (iR p2 (K jA jq G (av l4) (fun e5 g9=>?_)))];rw[yU d8 j];rw[gt (ac (lN j) g9),a j8 i3 e5 (lN j) e5 (lN j),i i3 e5 (lN j) i7 b9 j8,a2 (b9 _ _ p2) (K jA jq G (av (b9 _ _ l4)) (fun e6 e1=>?_)),aa d8 (oF j) xQ d8 (j+1)];have l5:=b9.trans (ac xQ e1);rw[a e2 i7 e6 xQ e6 xQ,i l6 i7 e6 xQ e5 (lN j) e1 j8,f i7 e6 xQ h7 l5 e2 l6,c5 l6 e2 (RP (k:=j) g8.l) pT];have j4:=l5.trans (bs (lN j) xQ j5);rw[a g0 h7 c1 (lN j++xQ) c1 (lN j++xQ),i h7 c1 (lN j++xQ) o3 j4 g0];have k9:=c7.trans j4;have tB:=cO j4;rw[(aEe _ _)]at c4;have l8:=dE (lM tB) (dE (lM (cO c7)) i1);have o4:∀(g:ki->Pt),B Pl g=iC XJ (g Ec):=fun g=>aQ;have n4:Gc (gl (iU XJ) (ch [pw,rj]))=Gc (gZ Pl++cM Pl):=by{refine GM.aex (fun p=>?_) (fd pP) (fd pP);simp only[VX,hy,fJ,hC,oQ,Dh];constructor;{rintro⟨e,a0,q|q⟩;rw[dV,dV]};{rintro(⟨_,⟨e,a0,rfl⟩,q⟩|⟨_,⟨e,a0,rfl⟩,q⟩);rw[dV,dV]}};rw[n4]at c4;rw[b a b2 X G r l3 le c1 (a _ _ a7z rfl (gd k9) (cd (j4 _ _ j9) (g8 tB (oA (fW h2 (fW R i0)) (fW h2 k8)))) ((k7.mono gx l2).mono gx j4).ls (cd g0 (oA (sv j l8) (Ca (j+1) l8))) (a (d (x (RM j0 iA j0 iA)) dd l_ ua) (eC j0 iA) (fr dQ j pT) Yn (fun v n6 n7 h6=>?_)))];{rw[hZ c2,Kz (a_b).1,Kz (a_b).2]};rw[dV,as n6 (k9.trans n7) k9 c4 fY]}
universe z
theorem agl{I d:Type}(p:AU)(f:Ff):n8 (f e) (B (zr p) f)|[]=>rfl|a::J=>G6 (agl p f J)
theorem UM{r:Gla.Plan}{i k:Nat}(hi:gX)(ne:i≠k):eG∈We k++Xk (k+1):=by rw[wM hi];rw[al (aFo ne),l (vO _ (sn ag))];{refine qH _ (bO (i:=i-(k+1)) ?_);rw[Dn,m (k+1+(i-(k+1))) i i (k+1) q i (k+1),pI]}
section z
theorem aZM:T.awo.Ok P w aj 5 (azA bJ):=by refine T.awo.go aTR aL;generalize aG=e3,aA=A,aF=outer,aE=s,aD=H,aB=vs,aH=Q,aI=E;rw[aN,M P0,aX,n a r b2 X G B,aV h a9 k,Bm];have Y:=aFn;have e8:=Og;rw[fD,b6 a3 a7 h.p];obtain⟨ls,d9,e0⟩:=h.l;rw[it akf,qI (X akj bP (g1 3 a_d (ll ys (cR bR cI) aq)) (a6 (D R_ (dN bb) bE cu) (g1 6 (aSQ (K:=K) rfl) (as (iX bR) (iX cI))) (dD eu (as (iX (bs bb bE)) (iX (bs bb bE)))) (eL (ec (hF aw aq) (Ce K aw (oo rp) Sg)) eu bP))) ⟨k1 d9,fun i0 i8=>d oy iI sr h.l.ls (hi ani aLF) i8 (f7 iA)⟩];{rw[dE e x a0,aW b pG (bj rfl (ag) Zj),T b5 L aKZ h7,bfp,i6 bb'];rw[azB];cases q:a'o with|true=>{refine ar' ?_;have c4:=q;unfold Gla.endsAt at c4;simp at c4;refine ab aLF (x kO) b5 ?_;show cp (v e.1+v e.2-v B)=vn aLF;exact gz cp l_}|false=>rw[fF (d1 (by rw[aO (show¬ani=ab from hS)]) _ b5)]};rw[apN];rw[agl]at e9;have c3:=vk e9;rw[jW];have b4:b5 (a8 i0) (bh aal):=b4;rw[aW i0 (cc b4) gJ];rw[dN,bA];rw[N p (t aal) 2];{rw[(dH (x Ap))];obtain⟨x,y,M⟩:∃x y,aal=Jh:=by{match aal,p with|[x,y],_=>exact bp x y};have b1:=GM.drop_eq M;have b9:∀z∈aal,z<aJ/\z≠B:=fun z c9=>by{delta a5N at c9;rw[hW c9,a8Q];delta DS at e1;simp at e1;have:=eb e g9;omega};have C:=b9 x ag;have F:=b9 y ag;have k3:=um;obtain⟨e2,m,f5⟩:=k3.l;rw[a2 (di hd) (m kC ku X ⟨k1 m,fun le j3=>?_⟩)];have b3:∀{j:Nat},oe->z v (aa c5 v) (br v (bp j)):=fun{j}b8=>by{rw[cD v g (gE a7 b8)];exact v v g (t (wM b8) J)};refine d eR iI gx k3.l.ls (hi (! ani) (eE,eF)) j3 bM;{rw[dE e v a0];have ix:=eb e uj;rw[cM g7 r1 (b3 (j:=e.1) (b7 ix.1 ix.2)),bJ g8 r2 (b3 ix.2),aW b pG (bj rfl (yd) Zj),T b5 L aKZ h7,bfp,i6 (! bb')];rw[azB];have o6:=J (eX s) b5;have b0:=o6 _ _ a3;generalize aKZ=b7 at b5 o6 b0;cases q:! a'o with|true=>{rw[ai b2 (av b0) (dX g7) (m b2 _ (av b0) (dX g8) ⟨(ag),fun t' c0=>?_⟩)];have k1:=o6.trans a94;exact ab _ (by rw[aK q]) (fg a94) (m t' O o (v ak (bL k1 r1) (bL k1 r2)))}|false=>rw[fF (d1 (by rw[aO (show¬(! ani)=ab from ag)]) _ b5)]};intro d4 zs c8 e7 j0;rw[agl]at j0;have k1:=eX c8;rw[eM (dm b4)];rw[M]at I;have n:=k1 _ _ a3;obtain⟨d,W,R⟩:=b3 C.1;rw[bH u Z (b3 F.1)];have c2:=H8;have fl:bd (iU (k3 (DS B l))) dP:=AI;rw[bA]at c2;rw[c (dp e7) i0 _ _ (vn x) rfl (av I) (i dg b2 _ d rfl (av n) (i (dX W) i0 _ (vn y) rfl (av I) (i dq b2 _ f rfl (av n) (v (dX u) (yd) Zj)))),l i6 d4 d4 t aoK h7,e g5 d4 t aoK t aoK];have D:=i6 _ _ e7;generalize upd d4 t aoK=e4 at i6 g5 D;rw[e le _ _ rfl rfl D (c_ c2.l fl iA) ?_,aj d0 aLT (fG (aFe i6) (gV j3)),ae h8 e4 aLT (Gx D)];have LE:dB eR aLT le ((iC (k3 (DS B l)) Ec)++[(bp x,bp y)]):=by{rw[eX ak (eB (cc (J (cO i6) h8) j0) (m t d f (v (h8 _ _ g5) (bL d0 R) (bL d0 Z))))]};rw[i e4 le (zs++[nu]) g6 d0 LE];have d2:=d0 _ _ a3;rw[bA b2 d2 (fun e5 g9=>?_)];rw[yU c5 B];have c6:=ac lU g9;rw[a j1 g6 e5 lU e5 lU,i g6 e5 lU h5 c6 j1,bA b2 (c6 _ _ d2) (fun e6 e1=>?_),bg3,cl (c6.trans (ac lY e1)),a j2 h5 e6 lY e6 lY,i d3 h5 e6 lY e5 lU e1 j1,f h5 e6 lY h9 c j2 d3,c5 d3 j2 a_c AE];have h2:=c.trans (bs lU lY j5);rw[a j9 h9 c1 (lU++lY) c1 (lU++lY),i h9 c1 (lU++lY) i3 h2 j9];have c7:=zR h2;rw[dr (fW h2 (fW d0 a7))];have d8:=gd c7;rw[(aEe _ _)]at b1;rw[b (h2 _ _ (d0 _ _ hd)) c1 (We B++Xk (B+1)) d8 (cd j9 (oA (sv B d6) (Ca (B+1) d6))) (LE.mono gx h2).ls d8.m.ls (fr dd B AE) (fr dd B AE) (eC fl iA) (fun v i7 i4 h6=>?_)];{rw[hZ a5];{rw[hW q,a8Q];delta DS at e1;simp at e1;have:=eb e g9;exact⟨UM bM e1.1,UM fj e1.2⟩};{rw[cQ N4,e_];exact⟨UM C.1 C.2,UM F.1 F.2⟩}};rw[as i7 (c7.trans i4) c7 b1 fY]};rw[Z (ea bM) (p9 (L8 (GM.auz p)))]
theorem aZN:T.awi.Ok P w aj 8 (axA bJ):=by refine T.awi.go aTM aL;generalize aG=e3,aA=A,aF=outer,aE=s,aD=H,aB=vs,aH=Q,aI=E;rw[aN,M ob,aX];generalize kQ=a,kR=r,kS=b2,kT=X,kU=G,kX=a0,k_=x;rw[cn c0 a9 ask,aj (lo IG aZG) (lo T.LF aZL) (lo T.LG aZH) (lo Xy aZI) (b4 aZM (dh aq))];cases x with|lead row m=>{rw[qC b U,cl (lv U),sA (bh dq b c (a rA a i7 b8 r b2 X G (a row m rfl h I c4 a9 ask aaI)))]}|erase i j=>{rw[oq c0,cl (lv U),sA (u dg rfl b _ (u c dq b _ (a c rA a r b2 X G i (ax j h a9 aaI))))]}|move B p=>{rw[gF u c2 (b rfl c dq b _ _ rfl (a rfl c rA a u r b2 X (a G B p rfl h c2 a9 ask aaI)))]}|mark i m=>{rw[gF b8 c4 (H_ (b rfl rfl c dq b _ _ (a rfl rfl c rA a b8 r b2 (f X G i m h c4 a9 ⟨ask,aaI⟩))))]}|drop B=>rw[oq c0,cl (lv U),sA (u dg rfl b _ (b c dg rfl b _ _ rfl (H_ (a rfl rfl c dq a r b2 X (M G B h a9 aaI)))))]
universe z
def yZ(C:Addr)(N:bg):Rl UX:=fun H v D=>∃a b2 X G,iW Ab (N (a∉N) (b2∉N) (X∉N) (G∉N))
theorem yZ.sb{C:Addr}{N:bg}{H L:Hp}{v:V}{D:Gla.Plan}(h:yZ C N H v D)(s:uy)(n:oH N H):yZ C N L v D:=by rw[Cu h,cv q d.at_];exact C9 (I dx (dR q c9) (d.p.sb dj s n g9) (d.l.sb iI s n e1) (d.m.sb jo s n j5))
theorem mA.sb{N:bg}{H L:Hp}{v:V}{x:Gla.Step}(h:mA N H v x)(s:uy)(n:oH N H):mA N L v x:=by have t:=s.ts n;cases x with|lead row m=>{rw[dm yb (l.sb dj s n a3) (lM t k) a3]}|erase i j=>{rw[ih h yb]}|move k p=>{rw[w pv e q J h];exact a a pv e yb (hH t J)}|mark i m=>{rw[w b8 e q J h];exact a a b8 e yb (lM t J)}|drop k=>rw[ih h yb]
theorem mA.nil{N:bg}{H:Hp}{v:V}{x:Gla.Step}(h:mA N H v x):mA [] H v x:=by cases x with|lead row m=>{rw[dm q l k jI]}|erase i j=>{exact h}|move k p=>{exact h}|mark i m=>{exact h}|drop k=>exact h
noncomputable def rcF(g ls:Addr)(d:Int):hU:=[fE "cartoons" g,fE "steps" ls,("done",YG)]
theorem L9(g ls:Addr)(d:Int):kk "done" YG be_=g3 d:=by show kk "done" YG (aK "steps" ls [("cartoons",.ref g)])=_;rw[rG];show kk "done" YG [("cartoons",.ref g),("steps",.ref ls)]=_;rw[rG,rG];rfl
theorem agm(g ls:Addr)(d e:Int):kk "done" (.int e) (g3 d)=g3 e:=b0 rcF rG rG UE
section z
variable{g ls:Addr}{d:Int}
theorem agn:bN (g3 d) "cartoons" g:=by rw[<-L9,dh,pA,dh,pA,dh,cN]
theorem ago:bN (g3 d) "steps" ls:=by rw[<-L9,dh,pA,dh,cN]
theorem y_:ip (g3 d) "done"=aa YG:=by rw[<-L9,dh,cN]
theorem aZO{m:Str}(a3:¬m="done")(a9:¬m="steps")(e2:¬m="cartoons"):fg (g3 d) m=ae:=by rw[<-L9,dh,bj a3,dh,PM,dh,bj e2];rfl
universe z
structure RecAt(u CR:Addr)(H:Hp)(J:Addr)(R:GM.bT)(g ls:Addr):Prop where
 at_:∃dx,bh J (aC CR (g3 R.d))
 c:z vs (am g vs) (GW pd)
 s:z vs (am ls vs) (dD (mA gh H) vs mU)
 ne:g≠ls
theorem RecAt.nt{u CR:Addr}{H:Hp}{J:Addr}{R:GM.bT}{g ls:Addr}(h:ni):oH gh H:=qQ (by rw[JH,kl vs h.c,hY b1 h.s,Bg,apE,az,az,cK])
theorem RecAt.mono{u CR:Addr}{H L:Hp}{J:Addr}{R:GM.bT}{g ls:Addr}(h:ni)(s:bQ):AV:=by have n:=Oi;have sb:Au:=cF s;rw[JH,Q5,JZ];exact dt (bv q) (v vs (bv d2) (o0 e9)) (v b1 (bv q2) (o0 f6))
theorem RecAt.nrc{u CR:Addr}{H:Hp}{J:Addr}{R:GM.bT}{g ls:Addr}(h:ni):J≠g/\J≠ls:=by rw[JH,Q5,JZ];exact⟨bJ q d2,qq q q2 ah⟩
theorem RecAt.azD{u CR:Addr}{H:Hp}{J:Addr}{R:GM.bT}{g ls dx:Addr}(h:ni)(e:Nat):dH a_w (ih e):=by have n:=Oi;rw[au sb gh a_w alF,Q5,JZ];have G:=h.nrc;exact dt ak (v vs (Y G.1.symm d2) (o0 e9)) (y5 G.2.symm)
inductive azE(vs:af)(H:Hp)(Q:VK)(E:XK):Prop|mk:∀(v:V)(e:Gla.Fault),A [v] (Gz H v rz) (vN (B (IH e) cp)) (azE vs H Q E)
inductive azF(u CR:Addr)(vs:af)(H:Hp)(Q:VK)(E:XK):Prop|mk:dC xR (ad v (yZ u gh H v f_) AB) (azF u CR vs H Q E)
inductive azG(u CR:Addr)(vs:af)(H:Hp)(Q:VK)(E:XK):Prop|mk:dC aIy (j7 t_) (azG u CR vs H Q E)
inductive azH(u CR:Addr)(vs:af)(H:Hp)(Q:VK)(E:XK):Prop|mk:dC (R.d=0->j7 0) (R.d≠0->Gh tT) (azH u CR vs H Q E)
inductive azI(u CR:Addr)(vs:af)(H:Hp)(Q:VK)(E:XK):Prop|mk:dC aIy (t_=0->j7 0) ((t_≠0->Gh jJ)->azI u CR vs H Q E)
inductive azJ(u CR:Addr)(vs:af)(H:Hp)(Q:VK)(E:XK):Prop|mk:∀(J dx:Addr)(v:V)(D:Gla.Plan),e [xf,v] (bh J (aC CR [])) (yZ u [] H v D) (∀L g ls,c (fK [J]) (Y g) (Y ls) (dH L (ky D)) IP) (azJ u CR vs H Q E)
section z
theorem azK:T.refusal.Ok P w aj 1 azE:=by refine T.refusal.go aTY aL;generalize aG=e3,aA=A,aF=outer,aE=s,aD=H,aB=vs,aH=Q,aI=E;rw[aN,M fP,aX,bV O e];rintro rfl⟨a,rfl,b3⟩k;rw[d _ (cn (yw (yR (gi T.aU6) kH kH))) a _ _ _ rfl (u Jt dg a _ (d Jt dq (en 3) (fd (k l _ xx a5 ak))))]
theorem aZP:T.awp.Ok mg P w aj 1 (azF bJ dJ):=by refine T.awp.go aTT aL;generalize aG=e3,aA=A,aF=outer,aE=s,aD=H,aB=vs,aH=Q,aI=E;rw[aN,M oc,aX,RA,aV h Y k,fD,bE q p h.c,dl o3 rv (mx p Dv.1),bT (cn (f2 bP)) J (b hd gH T.TJ agn J dx _ (j hd gH DT y_ g _ (f _ v rfl (v (av q) (dX o3) (k v rv)))))]
theorem aZQ:T.awq.Ok mg P w aj 1 (azG bJ dJ):=by refine T.awq.go aTU aL;generalize aG=e3,aA=A,aF=outer,aE=s,aD=H,aB=vs,aH=Q,aI=E;rw[aN,M oc,aX,RA,aV h dl k,fD,bE q p h.s,bT (cn (ll ys nK bP)) J (b hd gH T.TK ago ls rfl (cc q) (GU (aJ DT y_)))];rw[wF];rw[kV (ae t_) (v lD-v R.d),dZ vn,bs e];exact k
theorem azL:T.GN.Ok mg P w aj 1 (azH bJ dJ):=by refine T.GN.go aTW aL;generalize aG=e3,aA=A,aF=outer,aE=s,aD=H,aB=vs,aH=Q,aI=E;rw[aN,M oc,aX,RA,aV h c0 f7,fD,bT (b4 (D gM bP bE bE) (adi bS bE aOG) bE) J (a hd gH DT y_ gJ)];rw[dN];rw[kj,l (c0 ah)];{rw[ca k0 (R.d≠0),bes];rw[agm];have e:v R.d-1=ae tT:=bt (ahu (VO k0));rw[L e (oL k0 tT)]}
theorem aZR:T.T4.Ok mg P w aj 2 (azI bJ dJ):=by refine T.T4.go aTX aL;generalize aG=e3,aA=A,aF=outer,aE=s,aD=H,aB=vs,aH=Q,aI=E;rw[aN,M oc,aX,RA,av h dl c0 f7,fD,c _ (b4 (D gM apB bE bE) (adi bS bE aq_) bE) J dx _ hd tO (f J R g ls h dl rfl ?_)];rw[dN];rw[kj,l (c0 ah)];{rw[bes];rw[agm];rw[bba];rw[e];exact oL ah jJ}
theorem aZS:T.T2.Ok mg P w aj 1 (azJ bJ dJ):=by refine T.T2.go aTS aL;generalize aG=e3,aA=A,aF=outer,aE=s,aD=H,aB=vs,aH=Q,aI=E;rw[aN,M oc,aX,al J dx v D,aV q d3 k,w _ (fp (d9 aq) AQ (fE (hr bE))) (en 1) (fun g nc=>?_)];have c:=fm q nc;rw[b J _ dx _ rfl (Y c q) gH T.TJ (v (ay) cS (fun ls ns=>?_)),M d J ls (by rw[fp ak ns];cases ns),M r g ls (by rw[<-z,bW W_,ak]at ns;cases ns),b J _ dx _ rfl (wx d) gH T.TK (a (vo ay) J _ dx _ rfl ak gH (aJ DT (ns ay)))];rw[L9];have e1:H ls=ae:=by{rw[aGR,bW r.symm]at ns;exact ns};rw[au sb [J] (E (U (upd (ap g [v]) J (aC dJ (aK "cartoons" g []))) ls []) J (aC dJ be_) J (aC dJ (g3 0))) (fun b o e m=>by rw[ca f7 (b≠J)];rw[bW f7,bW f7,bW (em e1),bW f7,bW (em nc)];exact e)];obtain⟨a,b2,X,G,rfl,j,_⟩:=d3;have l:oH [J] H:=fun b m O e=>ah;refine k _ g ls sb nc e1 (I dx ak (v uf ?_ (hq (a a b2 X G gJ))) (pf ?_) r);{rw[bW W_,bW W_,bW r,bW W_,ak]};{obtain⟨t,M⟩:=j.at_;rw[kl c5 j.p,hY d8 j.l];obtain⟨b1,q3,_⟩:=j.m;have u:=qq M q (by rw[tJ];injection z with _ _ z;rw[yY "width",am yS,nj]);have x:=bJ d2 q;rw[iR (bJ q2 q)];have y:=bJ q3 q;have k3:yZ bJ [J] H bc D:=f a b2 X G j ah ah ⟨ah,ah⟩;obtain⟨B,e7,i,I,d0,p,_⟩:=k3.sb sb l;cases d0;have f:∀{b:Addr}{o:HO},O9->b≠J->b∉gh:=fun{b o}e n=>by{simp only[hC,oQ,Dh,aEa];exact v n (em nc) (em e1)};exact a (I t (sb _ _ M ag) (j.p.sb dj sb l ah) (j.l.sb iI sb l ah) (j.m.sb jo sb l ah)) (f M u) (f d2 x) (f q2 c1) (f q3 y)};{rw[aGR,aGR,ak]}
universe z
universe GA
namespace GA
open PySem PySem.Spec PyProof.Rows L2
variable{u CR:Addr}{H L:Hp}{J g ls:Addr}{R:GM.bT}
theorem RecAt.azM(h:ni){vs:af}{cs:bL UX}(p:GW cs):dH (ap g vs) (v cs mU R.d):=by have n:=Oi;rw[au sb gh (ap g vs) (hm (tp H) og),JH,JZ];have G:=h.nrc;exact dt (Y G.1 q) bay (y5 h.ne.symm)
theorem RecAt.sets(h:ni){vs:af}{ss:bL Cy}(p:dD (mA gh H) vs ss):dH (ap ls vs) (v pd ss R.d):=by have n:=Oi;rw[au sb gh (ap ls vs) (hm (tp H) Y4),JH,cE q2 f6 h.c];have G:=h.nrc;exact dt (Y G.2 q) (y5 aj9) bay
theorem RecAt.live(h:ni){l:Addr}(m:l∈gh):H l≠ae:=an (by have⟨dx,q⟩:=mV;have⟨vs,d2,_⟩:=h.c;rw[bd9,Bg,apE,az,dV,dV])
inductive azN(u CR:Addr)(vs:af)(H:Hp)(Q:VK)(E:XK):Prop|mk:dC xR (o L Au (dH L (v PY tL R.d)) IP) (azN u CR vs H Q E)
def agq(u CR:Addr)(H L:Hp)(J:Addr)(R:GM.bT)(g ls:Addr)(x:Gla.Step)(b9:aT):Prop:=match Xz f_ x with| .error none=>b9=[-2]/\AV| .error (some e)=>b9=IH e/\AV| .ok T=>mj (b9=[-3]/\AV) (b9=[0]/\dH L ZL)
inductive azO(u CR:Addr)(vs:af)(H:Hp)(Q:VK)(E:XK):Prop|mk:∀(J:Addr)(R:GM.bT)(g ls:Addr)(a0:V)(x:Gla.Step),e [xf,a0] ni xR (mA gh H a0 x) (H9 x->(KS (agq u CR H L J R g ls x b9))->azO u CR vs H Q E)
section z
theorem aZT:T.T3.Ok mg P w aj 2 (azN bJ dJ):=by refine T.T3.go aTV aL;generalize aG=e3,aA=A,aF=outer,aE=s,aD=H,aB=vs,aH=Q,aI=E;rw[aN,M oc,aX,RA,aV h Y k];have d8:=NJ;rw[K (fE (FX NR (dZ uV apB bE) (c7 (Cd bP) (Cd bP)))) (qK (∃j,m=j-R.d/\R.d<=j/\j<=lD/\M=[ac J]/\Au/\ov (v (aFq (j+1)) (NK j) R.d))) (f _ lD wG (a1 a_ rfl (cF eg))) ?_,dn (Dx (x d8.l)) H0 h];rintro m M L⟨j,rfl,a3,a9,rfl,s,h'⟩;rw[cv hd h'.at_,bE d2 e9 h'.c,cE q2 f6 h'.s,ae a7 (t (NK j)) j,ae d5 (t (aFq (j+1))) (j+1)];have O:=qX;rw[l2 _ (f g ls h' (as ag))];rw[a7];rw[kj];{have C:R.d<j:=by{grind};rw[ca aaO];have b:K vs (iO-1) (vs[iO-1]'(ag)):=pF;rw[y J dx hd gH (KI b)];have b4:vs.dropLast=akk j:=by{rw[a5O,O,d5];rfl};rw[b4];have V:=h'.azM (E3 (sv j e9));rw[au b5 gh (U L g (akk j)) (s.put og),i L g (akk j) b7 V b5,kq d7 V.at_];obtain⟨vp,q3,j0⟩:=V.s;rw[R a aFp j H8 a7];have d:K vp (aFp-1) (vp[aFp-1]'(ahN (a▸fb cS C) ahO)):=pF;rw[y J W d7 gH (cQ q3 vp q3 d)];have b9:vp.dropLast=vp.take (j-1):=by{rw[a5O,a]};rw[b9];rw[b (j-1-R.d) (Nat.sub_lt_sub_right (Vw C) (ahN (fb cS C) ahO)) (j-1) rfl (bn C (aS j 1)) (bU (qL j 1) a9) rfl (b5.put Y4) ?_];rw[m (j-1+1) j j 1 C j 1];exact(V.sets (E3 (sv (j-1) j0)))};rw[dV]
theorem azP:T.GL.Ok mg P w aj 11 (azO bJ dJ):=by refine T.GL.go ae0 aL;generalize aG=e3,aA=A,aF=outer,aE=s,aD=H,aB=vs,aH=Q,aI=E;rw[aN,M P0,aX,n J R g ls a0 x,cn Y c0 sa,a'H];have FL:∀{b:Addr},gp->b∉gh:=fun{b}e m=>by{have⟨vs,d2,_⟩:=h.c;rw[bd9,Bg,apE,az,dV,dV]};rw[c _ (X ae0.nd (bh aZN apC aq) (D yu aw cu (ij T.aU4)) (gr ae0.nd apC (ai (aj uW bP T.avs (ij T.aU5)) (yq (dH T.T3.h aZT T.T3.b)) (a6 (dD bP aw) (dD bP aq) (adi bS bE aq_) am5)))) J dx _ hd tO (a J R g ls rfl h Y ?_)];rintro _⟨a,b2,X,G,rfl,j,c6,n1,n2,u⟩;rw[d a f_ b2 X G a0 x (a j c0.nil Dv.2 sa (fun v a8 a4 b8=>?_))];have a3:=um;unfold LN at b8;have c1:KS (match Xz f_ x with| .error none=>b9=[-2]/\ov R| .error (some e)=>b9=IH e/\ov R| .ok b6=>mj (b9=[-3]/\ov R) (b9=[0]/\ov (Ww x b6))):=k;delta Xz at c1;cases D:ajt f_ x with|none=>{rw[D]at b8 c1;subst b8;refine ai (ay) (fd (c1 l _ [-2] (cF (eX xx)) (gV a5) ak (bd (akm xx))))}|some d=>rw[D]at b8 c1;simp only at c1;obtain⟨b6,B,e7,i,I,rfl,d',N,c9,g9,F,g4,h3,h6⟩:=b8;rw[bu];have⟨h4,Z⟩:=a3.at_;rw[c J h4 Z tO J R (f g ls a3 (as Y))];rintro _⟨b,i2,h7,i7,rfl,M,_⟩;rw[d B b6 e7 i I _ (aa f_) (a d' (a b i2 h7 i7 (bd M)) N (sP (by cases z;exact Dv.2)) aHX)];rw[c9]at p;rw[QN,fe (akm b5)];cases a7:zI d with|some e=>{rw[a7]at p c1;have⟨t,b0,d1⟩:=p;subst b0;rw[Q rfl _ e ⟨p,fun l d4 c8 d6 h2=>c1 l _ (IH e) (cF (Iv c8)) (aFr d6) h2 (bd (XA c8))⟩]}|none=>rw[a7]at p c1;subst p;have c2:=g9 a7;subst c2;rw[bu];have⟨W,d7⟩:=a9.at_;rw[y J W d7 gH (v DT y_ J7)];{rw[kk (fd (c1 l _ [-3] (cF (Iv xx)) (aFr a5) ak ?_))];simp only;rw[L (aK l_) ⟨fY,XA xx⟩]};{rw[c J W d7 tO J R (M g ls a9 Y (fun d4 c8 e2=>?_))];have n:=J (cF i9) c8;have b4:yZ bJ gh b7 (.ref B) b6:=f B e7 i I (d'.mono b5) (FL F) bz ⟨bz,FL h6⟩;have⟨c4,c3⟩:=e2.at_;have⟨vs,d2,e9⟩:=e2.c;have i5:iO<=65537:=by{rw[qX];rw[eS];have:=NJ;have:=akl;grind};rw[fV,y J c4 c3 gH (KI (f7 i5))];have e5:=e2.azM (eB e9 (b4.sb c8 a9.nt));have k9:SB gh d4 (aV d4 g vs (.ref B)):=hm (tp d4) og;have r:=(c0.sb n Oi).sb k9 e2.nt;have U:=tm k9;rw[f d4 g (vs++[.ref B]) e4 e5 r U];have⟨c5,c7⟩:=e5.at_;have⟨b1,q2,f6⟩:=e5.s;have d0:ly<=65536:=by{rw[NV];rw[eS];have:=akl;grind};rw[y J c5 c7 gH (cQ q2 b1 q2 (f7 d0)),eS (e5.sets (eB f6 r)),au S gh (aV e4 ls b1 a0) (U.put Y4),i e4 ls (b1++[a0]) g6 f S];have⟨q,y⟩:=f.at_;rw[y J q y gH (nW q y)];rw[agm];rw[bba];show KJ _ _ _ _;rw[e];have b3:=f.azD (dx:=q) jJ;rw[au C gh (upd g6 J (.ins dJ q (g3 (ae jJ)))) (S.put bK),kk (fd (c1 l _ [0] (C.trans (cF xx)) ?_ ak ?_))];{cases O:H l with|none=>{rfl}|some o=>by_cases m:l∈gh;rw[cE a5 (b3.live m)];{rw[C l o O m]at a5;cases a5}};{simp only;rw[aO bM];exact⟨fY,aET xx⟩}}
universe z
universe GA
namespace GA
open PySem PySem.Spec PyProof.Rows L2
noncomputable def UN(b:Gla.Bytes)(p:Nat):Nat:=q4 (H4 b p 1) (H4 b (p+1) 1)
theorem azQ{c:UInt8}{k:Nat}(c3:k<256)(e:eC=k):c=aiI k:=by apply aC5;rw[e,aC6];exact bt (er c3)
theorem azR(b:Gla.Bytes)(p:Nat):akn b p=match b[p]? with|none=>aJ9|some c=>E (4<eC) 5 p (ct eC (match b[p+1]? with|none=>aJ9|some n=>E (QK=ai) 5 (p+1) (E (cw<p+AJ) 6 cw ae)) a9t):=by delta akn Gla.stepSize;cases b0:b[p]? with|none=>{rfl}|some c=>simp only;by_cases e5:4<eC;{rw[aK e5];rw[ff ah,ff ah,ff ah,ff ah,ff ah]};{rw[aO e5];have cs:aMD:=by{rw[el]};delta UN;rw[(Oj b0)];rw[aMH];{have z:c=0:=azQ ay e;rw[aK z,aK e,e];cases d1:b[p+1]? with|none=>{rfl}|some n=>simp only;cases hw:QK with|false=>{rfl}|true=>rw[cN];simp only;rw[(Oj d1)];have b9:2+8*jz+12=14+8*jz:=by{simp+arith [*]};rw[b9];rfl};rw[aoW,aoW,aoW,aoW]}
inductive azS(K:Fg)(vs:af)(H:Hp)(Q:VK)(E:XK):Prop|mk:m6 (A [cB] tF (yp J3) (azS K vs H Q E))
inductive azT(K:Fg)(vs:af)(H:Hp)(Q:VK)(E:XK):Prop|mk:mD (GM.yO b) (azT K vs H Q E)
inductive aZU(b:Gla.Bytes)(p:Nat):Prop|mk:∀c:Ml,i aJ7 (eC<=4) (D5 aLr) alL
inductive agr(K:Fg)(vs:af)(H:Hp)(Q:VK)(E:XK):Prop|mk:op (j7 AJ) (agr K vs H Q E)
inductive azU(K:Fg)(vs:af)(H:Hp)(Q:VK)(E:XK):Prop|mk:lE (ge (akn b p)) (azU K vs H Q E)
inductive azV(K:Fg)(vs:af)(H:Hp)(Q:VK)(E:XK):Prop|mk:∀(l:Addr)(b:Gla.Bytes)(p:Nat)(n:UInt8),e [cB,jN] tF aLr (p<2^30) ((∀a i7 b8 L,j bQ (L a=aa (.tup bbS)) (Y i7) (dB dG L i7 a'T) (so L b8 (aDx b (p+2+8*jz))) Pa)->azV K vs H Q E)
def StF(H L:Hp)(v:V)(x:Gla.Step):Prop:=∀N:bg,V b N (H b≠ae)->mA N L v x
inductive azX(K:Fg)(vs:af)(H:Hp)(Q:VK)(E:XK):Prop|mk:op (p<2^30) (f5 (StF H L v alM)->azX K vs H Q E)
section z
theorem azY:T.awv.Ok P w aj 2 (azS K):=by refine T.awv.go aT2 aL;generalize aG=e3,aA=A,aF=outer,aE=s,aD=H,aB=vs,aH=Q,aI=E;rw[aN,M fP,aX,Fp,ds a5,co (cn (cR me me)) 8 4 (a l b 12 4 rfl jT ay (zd (k b7 eN)))]
theorem aZV:T.awu.Ok P w aj 3 (azT K):=by refine T.awu.go aT1 aL;generalize aG=e3,aA=A,aF=outer,aE=s,aD=H,aB=vs,aH=Q,aI=E;rw[aN,M fP,aX,Fp,ds a5,aj (GI T.avu) (KO (GT T.avt)) (aj uV (dK azY) T.avs tZ) (D uV (cR amg me) nB (dO nB)) cu,dZ GM.yO,dh pP ?_];rw[dC];rw[kj,beo];{rw[ec l_,bgS,bgQ];rw[g7]at a9⊢;intro o d0;rw[bah,Il aIg];rw[GP];rw[gV aIg zT zT];generalize a7F=b7 at b5;rw[b1 xb zT];{rw[dH (D.mpr e)];rw[ec hS,y l b (WC a5) (fun d4 m=>?_)];have c8:=fg m;rw[bD a_y,e3 bdd (ay) (hG (wN cm))];{rw[ec bdd,aR 4 4 (c8.seq a5) (fun e4 c9=>?_),mi c9,n7 Ju];rw[dC];refine fF (fun i0=>?_) (fun i0=>?_);{rw[fX l_,dh (.inl Ju) aGv,L dC (ax (mX cm) lQ)]};{rw[ec l_];exact ax d9 rfl}}};{rw[ea (ai (e (D.mp q)))];rw[fX e,kk (hG (fg cm))]}}
theorem azZ:T.step_size.Ok P w aj 1 (agr K):=by refine T.step_size.go ae2 aL;generalize aG=e3,aA=A,aF=outer,aE=s,aD=H,aB=vs,aH=Q,aI=E;rw[aN,M Al,aX,Ry];rintro rfl a5⟨c,b0,i0,d1⟩k;have nc:=Oj b0;rw[ca (X ae2.nd (avm K (GT T.aU7) Qn) (bm gM Qn (gi IG) (eQ 2 ae2.nd (ll FZ (gi WH) (eC rp)))) (de aw))];intro o d0;have g:∃z:Nat,K ([cp 14,cp 5,cp 11,cp 15,cp 3]:af) eC (vn z)/\(eC=0->z=14)/\(eC≠0->z=AJ):=by{delta UN;rw[nc];have cs:aMD:=by{lia};rw[aMH]<;>rw[e];{simp};{simp};{simp};{simp};{simp}};obtain⟨z,d2,O,z1⟩:=g;rw[r l (vn eC) a5 aot (D o z d0 (dX d2) (D l eC a5 aot gJ))];rw[dN];rw[aoO];{rw[qM eC,bbN,r l (vn jz) a5 ?_ (oZ yk gJ),l (Bp j2)];{rw[dZ UN];rw[nc,d3,Oj j2]at k;rw[iR (O d3)];subst c1;exact k}};rw[Z (z1 ah) k]
universe z
section z
theorem aZW:T.awx.Ok P w aj 2 (azU K):=by refine T.awx.go au4 aL;generalize aG=e3,aA=A,aF=outer,aE=s,aD=H,aB=vs,aH=Q,aI=E;rw[aN,M Al,aX,Ry,ds a5,ca (X au4.nd (dO nB) (D uW aq nB aw) (a6 (aj uV Qn T.afk (dO aq)) (ai gM Qn (gi IG) (D uW rp nB aw) (bx T.avq (eC rp) T.avr (dO rp))) (D uV (cR aq (b4 azZ aq)) nB aw) cu)),bs azR,dh pP aGv];rw[dC];rw[aj a4 (ad t aoV) cm,e b4 H t aoV t aoV,is (ad t aoV)];have a:Gz a8 nu aJ9:=aP t b4;rw[n7 jT];rw[dC];rw[kj];{rw[bs (zz (x (aDe c)))];exact p9 a};have lt:p<cw:=by{rw[fF (aDf c)]};have b0:=da lt;generalize b[p]=C at b0;rw[bs b0,al8,bJ aot,ai l jT m a_z,e3 l_ es (m1 bcC)];have d':¬4<aFs:=by{rw[fT]};rw[ec d'];have last:alL->ge a9t->∀M:HZ,i (K M 0 tP) (K M 1 (bE p)) (K M 2 (ac t)) (R4 (uX (Bv a9i (Bv (qr (i+j)) (ho 1) (F0 (agr K) [] E0 (qt (ho 0) (hF (ho 1))))) (KN (KR K) (hF (ho 0))))) (R3 (ho 2)) ac6 {nx:=R3 (tC .bC) a6S,rt:=Q} M a8):=fun c3 B M b1 a3 a9=>by{delta R4 uX Bv F0 KN qt rY;refine wL a3 (wL b1 (wL a3 (m l b p (v jT c3 (wL b1 (f l _ (.inl jT) ?_))))));rw[dC];rw[aoO];{have d3:cw<p+AJ:=by{rw[fT]};rw[aK d3]at B;delta R3;exact wL a9 (B _ _ a4 a)};{have d3:¬cw<p+AJ:=by{rw[fT]};rw[bj d3]at B;exact B _ _ a4 rfl}};rw[ai l jT m gJ];rw[dN];rw[aoO];{rw[qM aFs,fX d3,n7 jT];rw[dC];rw[a_G];{have I:cw<=p+1:=by{rw[fT]};rw[bs (zz I)];exact p9 a};have I:p+1<cw:=by{rw[fT]};have d1:=da I;generalize b[p+1]=n at d1;rw[bs d1,al8,ad r (Bx kF (v p+1)) (vn jz) (Bp d1),ai l jT r Pd];have o:QK=ai->E u (gA u) (Q (.ref u) (upd a8 u (g7 5 (v p+1)))):=fun z u hu=>by{rw[fX z];exact bcC};rw[aoP];{rw[i6 (! bi (v jz) 64)];refine fF (fun g8=>?_) (fun g8=>?_);{have z:QK=ai:=by{delta jC;simp at g g8⊢;lia};exact⟨es,bdk⟩};{have z:QK=ab:=by{delta jC;simp at g g8⊢;rw[tY]};rw[ec (axb z),P2];rw[Bs];refine Dj (d C b0 ag (au ⟨n,d1⟩)) k _ ?_ ?_ ?_<;>rfl}};{have z:QK=ai:=by{delta jC;simp at g⊢;grind};exact⟨es,bdk⟩}};{rw[zx aFs,ec d3,P2];rw[Bs];refine Dj (d C b0 (jZ d') (J (cy z d3))) k _ ?_ ?_ ?_<;>rfl}
theorem aZX:T.awy.Ok P w aj 4 (azV K):=by refine T.awy.go aT3 aL;generalize aG=e3,aA=A,aF=outer,aE=s,aD=H,aB=vs,aH=Q,aI=E;rw[aN,M oc,aX,al l b p n,av a5 d1 c2 k];have v5:=n.toNat_lt;have f3:=qI;rw[eX (X ako rp (bU 3 ako (cR aw WH (eC rp))) (bo (e ako 4 (e4 aw bb (gi WH)) (cj "at" 5) (ci 5 ako) kK (bC (b4 Uc cI))) (cp (gi IG) bR (b4 afu bb)))) (D l jz a5 (Bp d1) (b _ _ rfl rfl yk _ _ (as rfl (b2 (p+2) jz 8 aQ) (fun Z f=>axd (n:=jz) dj (dJ (aa (ai3 b (p+2+8*i)))) f (eC v5 fw) ?_ ?_)))),cb j2 (p+2+8*i) (zC a5) bg1];intro a8 c5 a4 b4 e9;rw[eT e9,na (p+2+8*jz) (fun b8 b7 b5 r2=>?_)];{rfl};rw[v (yd) (fun a b3=>?_)];have g9:dB dG a8 Z a'T:=v c5 b4 e9;exact k a Z b8 _ (dL eN b3) ak f (g9.mono dj (fg (b_ b3))) a9'
theorem aZY:T.step_at.Ok P w aj 5 (azX K):=by refine T.step_at.go ae3 aL;generalize aG=e3,aA=A,aF=outer,aE=s,aD=H,aB=vs,aH=Q,aI=E;rw[aN,M Al,aX,Ry];rintro rfl a5⟨c,b0,i0,d1⟩c2 k;rw[d _ (X ae3.nd Qn (aj gM aw IG (b4 aZX aq)) (i 3 ae3.nd Ql (fm T.LF T.LF Ql) (bX (fm T.LG T.LG (b4 Uc rp)) (fm Xy Xy (b4 afu rp)) (as (gi T.afk) bb)))) l _ _ (vn eC) rfl (aJ a5 aot),dZ a5P,al8,bs (Oj b0),bu];rw[dN];rw[aoO];{rw[qM eC,bbN];rw[aK d3,Oj j2]at k;rw[b l b p n rfl a5 j2 c2 (fun a i7 b8 L s d0 c4 D c1=>k _ L s (mP (m a i7 b8 (d d0 D c1 (bo (hN i7 m c4))))))]};rw[ec ah,fY (p+1) a5 aJK];{rfl};rw[bu];rw[dN];rw[a_G];{rw[fX bz,fY (p+3) jT (fun b7 b5=>?_)];{rfl};exact zP (aP a ak)};rw[ec bz,bu];rw[dN];rw[aoP];{rw[fX bz,na (p+3) a8g];{rfl};exact zP (f a v ak (hH (Gy b3) r2))};rw[ec bz,bu];rw[dN];rw[aoP];{rw[fX bz,na (p+3) a8g,dV];exact zP (f a v ak a9')};rw[ec bz];exact mT (fun a b3=>ax (lt b3) (mP (aP a ak)))
universe z
inductive ags(C:Addr)(H L:Hp)(v:V)(r:Gla.Plan):Prop|mk:∀a b2 X G,b v bc (g2 L r) (Y a) (Y b2) (Y X->Y G->ags C H L v r)
inductive az0(K:Fg)(C:Addr)(vs:af)(H:Hp)(Q:VK)(E:XK):Prop|mk:m6 (e [cB] tF (Kt (akp b)) (∀r a y L,b (akp b) (.ok r) bQ (L a=aa (cO .bC y)) (ags C H L y r) Pa) (az0 K C vs H Q E))
theorem fW.sb{K:Fg}{N:bg}{H L:Hp}{l:Addr}{O:af}(h:h7 O)(s:uy)(m:l∉N):fW K L l O:=qX (dR h m) (dR h m)
theorem az1{K:Fg}{H:Hp}{a:Addr}{ns:aT}(h:mz xF):cs bc aGM:= .lst h (afv ns)
theorem aZZ(ns d8:aT):jv aGM (.list (HL aDy))=ar ns d8:=t jv (afw ns d8)
theorem az2(ns:aT):iD aGM:=Im (aDz ns)
noncomputable def L_(b:Gla.Bytes)(r:Gla.Plan)(p:Nat):bZ Mj:=match a5Q b J3 r p with| .error e=>rz| .ok (_,q)=>E (q<cw) 8 q ae
inductive az3(K:Fg)(u CR:Addr)(vs:af)(H:Hp)(Q:VK)(E:XK):Prop|mk:∀(J l:Addr)(b:Gla.Bytes)(p:Nat)(r:Gla.Plan)(g ls:Addr),e [.ref J,cB,jN] (dH H (ky r)) (wQ r) tF (c (l∉gh) aHu (p<100000) (J3<=65536) ((∀e v L,i (L_ b r p=aa e) Au (Gz L v rz) (Q v L))->(∀R q L,c (GM.vh b J3 r p J3 R q) (¬q<cw) Au AV IP)->az3 K u CR vs H Q E))
section z
theorem az4:T.av6.Ok P w aj 10 (az0 K bJ):=by refine T.av6.go Tv aL;generalize aG=e3,aA=A,aF=outer,aE=s,aD=H,aB=vs,aH=Q,aI=E;rw[aN,M fP,aX,Fp,aV a5 c0 f7,ca (L Tv.nd (dK aVN) aIm (i 2 Tv.nd (dK aVP) (bU 1 Tv.nd (bh azi aw cu)) (bo aIm (as cu aw))))];rw[GM.auJ]at c0 f7;rw[y l b a5 aIu];cases b4:NS b with|some e=>{rw[b4]at g4 c0;rw[n8 g4,xM,eW rfl (eX cm) g4]}|none=>rw[b4]at g4 c0 f7;simp only at c0 f7;subst g4;rw[Q rfl l b (v jT b4 (fun a b2 X G b7 b5 c7 b0 a0 d6 d1=>b a (DA b) b2 X G ae rfl (ax c7 (GM.auI b) (sP (Yz)) (fun v d4 c8 h6=>?_))))];have n:=J eN c8;cases e7:zI (DA b)with|some e=>{rw[e7]at h6 c0;have⟨u,d0,b3⟩:=h6;rw[xM,eW rfl (tm cm) h6]}|none=>rw[e7]at h6 f7;subst h6;refine ai es (fm (f7 _ t _ _ rfl (tm cm) ak (f a b2 X G (bN (c7.mono c8) cm) (gV b0) (gV a0) ⟨gV d6,gV d1⟩)))
theorem aZ0:T.aww.Ok P w aj 12 (az3 K bJ dJ):=by refine T.aww.go Tz aL;generalize aG=e3,aA=A,aF=outer,aE=s,aD=H,aB=vs,aH=Q,aI=E;rw[aN,M ob,aX];generalize kQ=J,kR=l,kS=b,kT=f,kU=r,kX=g,k_=ls;rintro rfl h C a5 d6 U j a7 c0 f7;rw[ca (b4 (mz (ot (j6 azY)) (sC 3 Tz.nd) (i 4 Tz.nd (bh aZW aq aw) (dP bR bR) (c7 (D alV (jk bS gH T.GL.h (ez azP) a6 T.GL.b .nil fp (dY (bh aZY aq aw))) am5 (dO aw)) (eQ 2 Tz.nd (bh azZ aq aw))))) (D lq aw (dN aq) (dO aw)) cu)];generalize hN:J3=N at*;rw[y l b a5 aJK];rw[hN];rw[aP (v N) rfl aQ (x (nA a7))];rw[iQ];rw[fv N (fo (GC (fun(p:Nat)(R:aDd)(j8 b1:bZ V)=>GB (M=[ac J,tP,bE p,j8,b1]) Au (ov R) (GM.vh b N r f i R p) (p<100000)))) (f f _ ae ae (cF a4) um (GM.aSl C f) j)];{refine Al;rw[co i M L];rintro hi⟨p,R,j8,b1,rfl,s,hR,I,c2⟩;have h1:=zo s;rw[Q l b p ⟨h1,fun v b7 b5 h3=>?_⟩,ci (il (cF b5))];have X:=akq b5;cases c9:akn b p with|some e=>{rw[c9]at h3;rw[n8 h3,xM,v rfl (c0 e _ _ ?_ q h3)];delta L_;rw[hN,I.fail hi c9]}|none=>rw[c9]at h3;subst h3;rw[bu];have⟨c,b0,i0,k⟩:=GM.aeL c9;have kd:alL:=d c b0 i0 (J (let⟨n,d1,_⟩:=k z;⟨n,d1⟩));have⟨W,d7⟩:=X.at_;rw[c J W d7 tO l b (c p rfl (WC h1) kd (x (fH c2 tv)) (fun a0 d4 c8 d2=>?_))];have sa:=GM.auG c9;rw[g J R g ls a0 alM (X.mono c8) (d U5 (d2 _ (fun x m=>X.live m)) sa (fun F e4 b9 d9 O Z D=>?_)),v (en 1) (fun j7 k0=>?_),T f9 e4 (U e4 j7 hb) k0];have B:=b_ (VL (cF c8)) d9 (cF f9);rw[a c1 e4 j7 hb j7 hb];have d:=hy Z;generalize U e4 j7 hb=g6 at f9 B c1 d;rw[K _ (az1 (av d)) (az1 (ns:=[0]) (av c1)) (aJ (az2 _) (az2 _))];rw[aZZ];have b8:=GM.Tj I.ok.cur.2 sa.ok;have f6:(bc9)->E t (g6 t=ae) (Q nu (upd g6 t (d_ 7 jN))):=fun c5 t c6=>by{refine oI 7 (B.trans (cF cm));delta L_;rw[hN,I.no hi c9 c5]};unfold agq at D;cases g9:Xz f_ alM with|error y=>{have c5:bc9:=fun b6 z=>ah;rw[ea (by cases y with|none=>{rw[g9]at D;rw[D.1];decide}|some e=>rw[g9]at D;rw[D.1];delta IH;rw[tJ];cases z)];exact mT (fm (f6 c5 t c6))}|ok b6=>rw[g9]at D;simp only at D;rw[z BD (b1 R.d) I.d pM];rw[bj ag]at D;obtain⟨rfl,o⟩:=D;rw[dH rfl];have Y:=Ms a7 hi c9 (T:=b6) aIF;rw[b l b p rfl (zo B) kd _ _ (h6 ?_),bN a3 (GM.Lu b p) AJ (GM.aSk c9)];rw[a3]at Y;rw[b (p+AJ) _ (aa (cp (0+xp))) alX rfl B (o.mono f9) Y ?_];{have:p+AJ<=cw:=by{have z:=c9;rw[azR,b0]at z;simp only at z;rw[bj ag]at z;rw[d3 u eC];{rw[fT]};rw[az]};exact Rb}};{refine fP;rw[XT];rintro⟨p,R,j8,b1,rfl,s,hR,I,c2⟩;rw[n7 (zo s)];rw[dC];rw[kj];{rw[v es (fm (oI 8 (il (cF cm))))];delta L_;rw[hN,I.done];simp only;rw[aK (x (Bn c))]};rw[l (f7 R p L I (fY (gv z (Bo c))) s hR)]}
universe z
theorem aZ1{I:Type}{R:kh}{K:Fg}{l d:Addr}{j o:Nat}{b:L2.St}{G H:Hp}(A:∀L v a,cY G L->R G v a->R L v a){D:Ends}{Y:ba}(f:I->aDH){B:Gla.Bytes}{e8:Sp}(a5:a'O)(nd:G d=ae)(s:cY G H)(hd:am d (bV B))(c9:bcy)(b1:b=ajd j ae)(c:bdw)(e:a'Q)(C:bix)(k:bgA):bim:=Ll (A _ _ _ a4 J)
inductive az5(vs:af)(H:Hp)(Q:VK)(E:XK):Prop|mk:∀(v:V)(x:Gla.Step),e [v] (mA [] H v x) (GM.aeI x) (l8 (akr x)) (az5 vs H Q E)
theorem bjN(c:UInt8)(b:Gla.Bytes):bV (c::b)=vn eC::kF:=rfl
section z
theorem aZ2:T.aws.Ok P w aj 4 az5:=by refine T.aws.go ae1 aL;generalize aG=e3,aA=A,aF=outer,aE=s,aD=H,aB=vs,aH=Q,aI=E;rw[aN,M fP,aX,bV v x,aV c0 W k,Bm,bg2];have R:∀p,t (bV (qV p))=8:=bn bI;have D:∀m,t (bV (H5 m))=12:=bo bI;rw[ca (L ae1.nd (d9 kH) (rX (dZ gM kH (gi IG)) (bX (dD aq (dN kH)) (bd kH 2 ae1.nd (ez aq (a7 Ud aw))) (j6 aq afy)) Bt) (ai (ez aq am7) (mQ T.LF Ub) (bX (mQ T.LG Ud) (mQ Xy afy) aq)))];cases x with|lead row m=>{rw[qC a b3,b6 a3 a7 I];obtain⟨⟨r2,c,d1⟩,h5⟩:=W;rw[aaU,aj a4 (ap d hb) xn,ar b4 H hb hb,is (ap d hb),CH (a (cx Oz) dq i7 _ rfl (cc (di a3)) d _ (f _ rfl b4 (as (bB))))];have f5:(am_++[g0 kx])=aar:=by{rw[akf];show [cp 0,g0 ff]=hy 0 (zi ff);have:zi ff=ff:=by{simp[*];exact cU c};rw[nY];rfl};rw[f5];rw[aj b5 (U a8 d aar) (gc a4),ar b9 a8 aar aar,i a8 d aar b7 b5 b9,pl (aFt qV) ff,ab N (bbP).length 2,c9 a (gM b3) (bj i7 (dB c5 (gM a3)) (Uh (j:=2) (o:=1) dj qV (a5R (v c5 a3 a7)) nd b5 b9 l_ rfl gW gW (fun x p L h4 Z O J B=>M x p J.px (d1 p Z) B) (fun j8 d4 c8 e7=>as a (dm b3) rA (M b8 m (to c8) h5 (vt (by rw[dC,cj,d2,N,D];rw[jY])))))),Ra,cd F (bbP++aFt qV++H5 m) (akr Rh)];rw[F]}|erase i j=>{rw[ak rfl b3 c0,aaU,tc 1,lx 1 1,s1 1,va W.1,ls 1 (dC 1)];rw[f5];rw[u7 (dC 1),ar e7 b7 (dC 1) (dC 1),gZ d (dC 1),CO (f rA j W.2 (vt bz)),Ra];rfl}|move i p=>{rw[w u rfl b3 c2 c0,aaU,tc 2,lx 2 2,s1 2,va W.1,ls 2 (dC 2)];rw[f5];rw[u7 (dC 2),ar e7 b7 (dC 2) (dC 2),gZ d (dC 2),A3 (a XU rA u p rfl (bL c8 c2).px W.2 (vt bz)),Ra];rfl}|mark i m=>{rw[w b8 rfl b3 c4 c0,aaU,tc 3,lx 3 3,s1 3,va W.1,ls 3 (dC 3)];rw[f5];rw[u7 (dC 3),ar e7 b7 (dC 3) (dC 3),gZ d (dC 3),A3 (b XU dg rfl a _ _ rfl (a rfl XU rA b8 m rfl (to c8) W.2 (vt bz))),Ra];rfl}|drop i=>rw[ak rfl b3 c0,aaU,tc 4,lx 4 4,s1 4,va W,ls 4 (dC 4)];rw[f5];rw[u7 (dC 4),ar e7 b7 (dC 4) (dC 4),gZ d (dC 4),A3 (ce XU dg (k d _ c8 nd e7))]
universe z
inductive az6(u CR:Addr)(vs:af)(H:Hp)(Q:VK)(E:XK):Prop|mk:dC xR (a1 (t P7)) (l8 P7->az6 u CR vs H Q E)
section z
theorem aZ3:T.awr.Ok P w aj 5 (az6 bJ dJ):=by refine T.awr.go aTZ aL;generalize aG=e3,aA=A,aF=outer,aE=s,aD=H,aB=vs,aH=Q,aI=E;rw[aN,M oc,aX,RA,av h Y c9 k,fV,fD,Q5,JZ,dd aC2];obtain⟨j,e5,y,b2,X,G,l,f,_⟩:=mx e9 e.1;subst l;have e8:=e.2.Gs;have q4:=GM.aew tj;have dl:=wG;have few:=akl;rw[bT (L aks (a7 axi (f2 bE)) (bU 2 aks (uU (GT T.avt))) (a6 (an (ada (cp (dN aq) bP apB)) 3 aks (ez aw (a7 LJ bb))) (ez aw aq) (an pH 4 aks (ez aw (a7 aZ2 bR))) aw)) J (b hd gH T.TJ agn g _ Ak (a rfl rfl (av d2) (dX (j:=0) e5) y tj b2 X (ax G f e.2.fits (pl (E1 (fun d c=>?_))))))];have nd:=gV c;rw[ab m9 (ra 72:af) P1];rw[m9];rw[aj b5 (U a8 d P1) (lt c),ar b9 a8 P1 P1];have c5:=b_ (o:= .lst P1) c _ _ b4;rw[cj k2 d a7,f a8 d P1 b7 b5 b9 c5,fe (gd b5),kq d7 a9.at_,b a7 _ rfl (cc c5) J _ W _ (j d7 gH DT y_ J W (j d7 tO J R g ls (a rfl a9 dl (yd) Zj)))];rw[dC];let b:ao:=[t (NU tj),R.d,t_];rw[e c3 b7 t aGQ t aGQ,ci (fm b9 h7),bD t (aW (cx c3)) (cl (wJ vn) (fo (GB (∃v,M=[ac J,ac a7,rr,v,ae]) bQ (L t=aa aGQ) (aj a7 (bV (NU tj))) (oo zT 4))) (a qf (fg (b_ h7)) c3 (co h7 c5) ?_) z.3)];{rw[bW q];simpa using b9};{rintro i x M L S⟨⟨v,rfl⟩,f9,i2,j1,j2⟩;obtain⟨n,rfl,b0,d1⟩:∃n:Nat,x=jf/\A b n/\bk n:=by{rw[gv S,a2 n b0 S,bD n b0 ?_];have:=bO b0;rw[hA b];lia};rw[y (dp j2) n d1 (fun i1 d4 m u e7=>?_),F3 b0,n d i1 (m _ _ j2) e7 (a ?_ ei (gc (mW m)) ?_ (as ?_))];{rw[dC,dC,cj,oj 4 4,pf,eS];rw[bfn];have:Gla.SAVED.length=4:=rfl;lia};rw[gM zu (m _ _ i2),gM k2.symm (m _ _ j1)];{rw[ak,<-qC,du,g9,zG,ajf]}};rintro M g6⟨⟨v,rfl⟩,f9,i2,j1,j2⟩;have j2:b5 (g6 d) (bV (zT++ak2)):=j2;rw[cd r (t (zT++ak2)) 16,c (dp j2) d a7 _ _ rfl j2 (aJ j1 (by rw[dC,dC,r,q4];lia))];rw[<-qC];rw[aj h1 (U g6 d aoU) (gc f9),ar j9 g6 aoU aoU,i g6 d aoU h5 h1 j9];have D:zT++ak2++NU tj++R.ss.flatMap akr=P7:=by{delta a5T;rw[R.all,Y.aeK,Y.auC];simp[b,du]};obtain⟨F,I⟩:=(gd h1).at_;rw[y J F I gH (s T.TK ago ls (dB b1 (iP q2)) (aZ1 (R:=mA gh) (j:=4) (o:=2) (G:=H) (fun L v a s z=>a5S (cF s) Oi) akr (v b1 (av q2) f6) nd h1 j9 aGJ rfl gW gW (fun x p L h4 Z O C B=>M x p C.nil (aiF p Z) B) bhe))];rw[j8,D]
universe z
inductive az7(u CR:Addr)(vs:af)(H:Hp)(Q:VK)(E:XK):Prop|mk:m6 (e [cB] (am l kF) aHu (Kt (akt b)) ((∀R a J g ls L,b (akt b) (.ok wH) xR bQ (L a=aa (cO .bC (.ref J))) (c AV (Y J) (Y g) (Y ls) Pa))->az7 u CR vs H Q E))
section z
theorem aZ4:T.awt.Ok P w aj 13 (az7 bJ dJ):=by refine T.awt.go aT0 aL;generalize aG=e3,aA=A,aF=outer,aE=s,aD=H,aB=vs,aH=Q,aI=E;rw[aN,M fP,aX,Fp,av Z U c0 f7];have a5:tF:=av Z;rw[K (L Ol (dK aZV) aIm (i 2 Ol (cR amg me) (bU 3 Ol (a7 az4 (k9 amg aw))) (ai (dP xU (as (dO (cR amg (dh xU))) cu)) (bU 4 Ol (Ci xU)) (i 1 Ol (Z aZ0 bR bS aw) (dP aq (as aq cu)) (bo (an (ot me) 5 Ol (yq (Se bR gH T.GN.h (ez azL) a6 T.GN.b .nil fp))) (as cu bR)))))) l b (ai a5 aIu)];cases b4:GM.yO b with|some e=>{rw[b4]at g4;rw[n8 g4,xM,eW (GM.aSn b4) (eX cm) g4]}|none=>rw[b4]at g4;subst g4;rw[bu];have⟨⟨a7,a9⟩,C⟩:=GM.auH b4;rw[aR 4 4 jT (fun b7 r2=>?_),gU (eX r2),cd b8 aKF (ae (16+xu)),dh (WC a5) JX,aj c8 (U b7 d (jl kF (gH 16) (aa aKF))) (fg xn),y d (yz xu) (av (vO (by rw[b8];have:=aft b 16 (16+xu);rw[am (hp (16+xu-16) xu)];exact this))) ⟨fun e a x e4 m c9 d0 n=>?_,fun r a y e4 m c9 d0 J=>?_⟩];{rw[hd n,rC,wG (bh dg u (cx hu) (v dq es (fun W k1=>⟨es,fun d8 c7=>c0 a9G d8 _ _ ag (dL (dL (wN c9) k1) c7) ak (aP W ?_)⟩)))];rw[bW (J (by rw[fp ak c7];cases c7)),ak];rfl};{rw[mi c9,wG (as dq),mq dx,aMR,P sm e4 (cw e4 dx (aC dJ [])) Pp,cr dx r (j.mono sm) bhJ];have S:=mX (FT fR);have c1:=sm.free b9;have c3:=sm.free e1;have d4:=fG Z;rw[b x l b (16+xu) r g ls ?_ (a b6 (GM.auK m) (av (S _ _ Z)) ?_ U aKg a7 (fun e v h5 p O f6=>?_) (fun R q h5 I d2 O hR=>?_)),az];{rw[jY]};{rw[bhb,hd f6,rC,eW ?_ (zF cm) f6];rw[C,m];unfold L_ at p;simp only;cases c4:a5Q b J3 r (16+xu)with|error d3=>{simp_all}|ok z=>have⟨z1,h6⟩:=z;rw[c4]at p;simp only at p⊢;split at p;rw[az,cX]};{rw[bhb,c rfl l b 12 4 (h1.seq a5) ay (fun h9 b1=>?_)];have⟨N,Y⟩:=I.got b4 m d2;have Id:=I.d;rw[it I.l];have F:=ajc b 12 4;rw[show cd 256^4=4294967296 by decide]at F;rw[aP (ae akQ) rfl aQ (w7 F)];rw[iQ];rw[fv akQ (bi (∃i1,M=[tP,alX,aa (cp aKF),kJ,ac x,i1]) (SB [x,g,ls] h9 L) (aFu bJ dJ L x (ih (R.d-i)) g ls)) (v qf (cF eg) (akq b1))];{rintro i M i3 hi⟨⟨i1,rfl⟩,d6,k⟩;have⟨A6,p2⟩:=k.at_;rw[c x A6 p2 tO x _ (M g ls k pz (fun _ i7 i4 D=>?_)),dV];{rw[ak ei (wU i4)];have:R.d-i_=R.d-i-1:=bI;rw[L this D]}};{rw[bJ i3 i1 d6 k,ae a3 (R.d-akQ) XI,bs a3,f_ c5 i3 (d6 c o ((zF b1) c o z) fR),v es (fm (f7 (ih XI) t x g ls _ N Y (c5.trans cm) ak (k.mono cm) (WE nx) (WE c1) (WE c3)))]}}}
universe z
def BlV:Rl cb:=fun _ v b=>v=EO
theorem aZ5:lu BlV:=aoL
theorem az9{H:Hp}{vs:af}{bs:EJ}(h:dD (BlV H) vs bs):vs=Vq CJ:=a9m
theorem UO(ns:ao)(p q:Nat):ca je p q=bh (an (ns.drop p) (q-p)):=cx afs Df Dg
theorem all_map(f:ur)(ns:ao):(wz f).all id=ns.all f:=aQ
inductive az_(K:Fg)(vs:af)(H:Hp)(Q:VK)(E:XK):Prop|mk:∀(l:Addr)(ns:ao),e [cB] (h7 je) (zh<hv) (te (ns.all Y5)) (az_ K vs H Q E)
inductive az'(K:Fg)(vs:af)(H:Hp)(Q:VK)(E:XK):Prop|mk:qV (te (a'3&&(nt g&&nt q))) (az' K vs H Q E)
inductive aAa(K:Fg)(vs:af)(H:Hp)(Q:VK)(E:XK):Prop|mk:qV (f5 (so L v (v ⟨x,y⟩ g q))) (aAa K vs H Q E)
noncomputable def agt(row:eh):ao:=a_e
theorem agu(row:eh):t Jw=2*ff:=by induction row with|nil=>{rfl}|cons a J d6=>unfold agt at d6⊢;rw[o_,cj,d6];simp;simp+arith [*]
theorem aAb:∀(row:eh)(i:Nat)(p:Pt),A row p->ap Jw (2*i) p.x/\ap Jw (2*i+1) p.y|[],i,p,h=>bB|a::J,0,p,h=>by{rw[cG];exact xB}|a::J,i+1,p,h=>x (aAb J i p bB)
theorem aAc{I:Type}(l:ba):∀k,i7 k (dJ l[i]?)=G5 k|0=>rfl|k+1=>by rw[ajq,aiM,aAc l k,DK];rw[dW]
inductive aAd(K:Fg)(vs:af)(H:Hp)(Q:VK)(E:XK):Prop|mk:∀(l:Addr)(row:eh),e [cB] (h7 (bh Jw)) (ff<100000) (bA d (Y d) (dB dG L d row) ny) (aAd K vs H Q E)
inductive aAe(K:Fg)(vs:af)(H:Hp)(Q:VK)(E:XK):Prop|mk:m6 (e [cB] (am l kF) (cw<hv) (bA d (Y d) (aj d (B (kd (Om b)::Om b) cp)) ny) (aAe K vs H Q E))
inductive aAf(u CR:Addr)(vs:af)(H:Hp)(Q:VK)(E:XK):Prop|mk:∀(J:Addr)(R:GM.bT)(g ls:Addr)(n:Nat),e [xf,jf] ni xR (j7 bfh) (aAf u CR vs H Q E)
section z
theorem UP:T.awz.Ok P w aj 1 (az_ K):=by refine T.awz.go ae5 aL;generalize aG=e3,aA=A,aF=outer,aE=s,aD=H,aB=vs,aH=Q,aI=E;rw[aN,M fP,aX,bV l ns,aV a5 c9 k,K (cn (a2 ae5.nd bS "length" ae5.nd T.aVk)) l rfl ⟨aW a5,fun Z f=>gG (av a5 (auP ns)) (mJ n) c9⟩,Lf x,apN,eT e9];have c3:=az9 e9;rw[jW,bA Z b4 ?_,L all_map (k a8 a4)]
theorem agv:T.awA.Ok P w aj 2 (az' K):=by refine T.awA.go ae6 aL;generalize aG=e3,aA=A,aF=outer,aE=s,aD=H,aB=vs,aH=Q,aI=E;rw[aN,M iw,aX,F l x y g q,ds a5,cl (cn (Br (a7 UP (r1 bS)) (RX (a2 ae6.nd (r1 bS) "number" ae6.nd T.aVl)))) a5 JX,y d Jh (dJ Pr 0 2) ⟨aJP,fun b7 r2=>Pd⟩];have b5:=J (ac (ca (ii Pr) 0 2) nd) r2;rw[aS f5 ((Jh).all Y5) a'3];rw[f5];rw[kj];{rw[qt c,a9c];have e7:N b7 c7 (k6 Pr 4) c7 (ii [g,q]):=vO (UO Pr 2 4);rw[a7 c7 e7 (fun Z f=>gG (cd e7 (auP [g,q])) (nt n) aJP),Lf z,bby,eT e2];have c3:=az9 e2;rw[jW,bA Z g5 ?_];rw[all_map];rw[aS i2 ([g,q].all (eb (nt n))) (nt g&&nt q),L i2 (k e4 (J (fg (ac (k6 Pr 4) Y)) d9))]};rw[az]
theorem agw:T.awC.Ok P w aj 1 (aAa K):=by refine T.awC.go aT8 aL;generalize aG=e3,aA=A,aF=outer,aE=s,aD=H,aB=vs,aH=Q,aI=E;rw[aN,M iw,aX,F l x y g q,ds a5,d _ (cn (KL (vq (eC bE) (eC bE) (eC bE) (eC bE)))) l _ _ _ rfl (u a5 dq l _ (u a5 dg l _ (u a5 rA l _ (d a5 (ox 3) (en 4) (hG cm)))))]
theorem aZ6:T.awD.Ok P w aj 1 (aAd K):=by refine T.awD.go ae7 aL;generalize aG=e3,aA=A,aF=outer,aE=s,aD=H,aB=vs,aH=Q,aI=E;rw[aN,M fP,aX,bV l row,aV a5 c9 k,fV,cl (cn (Bz rfl ae7.nd (e4 bE nB bE) (cj "at" 1) (ci 1 ae7.nd) kK (bC (as (eC rp) Qn)))) pP ?_];rw[bA,agu];rw[K _ _ _ (v ?_ (axf (lo:=0) (n:=ff) (c:=2) aQ (eC c9 c9)) (fun Z f=>?_))];{simp};refine ap ff dj row[i]? f c9;{intro i L h4 N hi s b6 j2;have c2:=pI;have g:=aAb row i _ c2;rw[im (D l row[i].y (zC a5) ?_ (D l row[i].x (zC a5) ?_ a'J)),l (aFv (j:=2*i+1) OF ag),l (aFv (j:=2*i) OF ag),l (ab _ c2 cm lQ)]};rw[apN];refine k Z a8 a4 f (aJ d7 b4);have c4:i7 ff (dJ row[i]?)=row:=by{rw[aAc,H0]};rw[c4]at e9;exact e9
theorem aAg:T.awH.Ok P w aj 1 (aAe K):=by refine T.awH.go aUa aL;generalize aG=e3,aA=A,aF=outer,aE=s,aD=H,aB=vs,aH=Q,aI=E;rw[aN,M fP,aX,Fp,aV a5 c9 k,e _ (cn (ec (d9 nB) bS)) l _ rfl (cc a5) (EI) (fun t c6=>?_)];have a4:=ac [g0 (t kF)] c6;rw[n t l ak (di a5) ⟨by rw[dC];show a1 (1+cw);exact cU c9,fun d nd=>k d _ (eX xn) (gV nd) ?_⟩];rw[ak,dC];have:t (Om b)=cw:=cF Om (bA _);rw[this,axa];rfl
theorem aZ7:T.awG.Ok P w aj 2 (aAf bJ dJ):=by refine T.awG.go aT' aL;generalize aG=e3,aA=A,aF=outer,aE=s,aD=H,aB=vs,aH=Q,aI=E;rw[aN,M iw,aX,F J R g ls n,aV h Y k,fD,q8 (b4 (e1 T.aVf bP) (e1 T.aVg apB) (dN (GJ K apC)))];rw[dN];rw[kj];{rw[fX (show n=0 by simp at c;omega)];exact GU (v DT y_ k)};rw[ec (show¬n=0 by simp at c;omega),bu];rw[dN];rw[aJU];{rw[fX (show n=1 by simp at e6;lia)];exact a J dx _ rfl hd tO J R (M g ls h wG k)};rw[ec (show¬n=1 by simp at e6;lia),y2 (as Y),bg6];obtain⟨b,d⟩:=j.at_;rw[df c4 b3 j.m,y a b d dR (bt jA jq G c4)];rw[b3.length];exact k
universe z
def aAh(c:GlaKeeps.Call)(p:Nat)(ns d:ao):Prop:=match c with| .open_ b=>a8U| .bare w h m=>dr 2 aKn| .lead row m=>HZ Jw| .erase i j=>dr 4 [i,j]| .move k q=>a_Y| .mark i m=>dr 6 aGH| .drop k=>dr 7 [k]| .undo=>kt 8| .redo=>kt 9| .count n=>dr 10 [n]| .plan=>kt 11| .save=>kt 12| .read b=>a8V
theorem aZ8(row:eh):((Jw).all Y5)=XB qU:=by induction row with|nil=>{rfl}|cons a J d6=>unfold agt at d6⊢;rw[o_,aEQ,d6,MS];delta qU zB;simp
inductive aAi(K:Fg)(vs:af)(H:Hp)(Q:VK)(E:XK):Prop|mk:∀(c:GlaKeeps.Call)(p:Nat)(ns d:ao)(l c0:Addr),g0 (aFw c=ai) (te (wI c)) (aAi K vs H Q E)
inductive aAj(K:Fg)(vs:af)(H:Hp)(Q:VK)(E:XK):Prop|mk:∀(c:GlaKeeps.Call)(x:Gla.Step)(p:Nat)(ns d:ao)(l c0:Addr),g0 (aFx c=aa x) (f5 (StF H L v x)) (aAj K vs H Q E)
section z
theorem aZ9:T.awB.Ok P w aj 3 (aAi K):=by refine T.awB.go aT7 aL;generalize aG=e3,aA=A,aF=outer,aE=s,aD=H,aB=vs,aH=Q,aI=E;rw[aN,M P0,aX,n c p ns W l c0];rintro rfl b0 U a5 I c9 k;rw[fV,aj (ht T.avv (Br (j6 agv) (Br (aq1 yt yt (gi T.avq) (ew aqT (dN aw)) (gi T.avr)) (RX (a7 UP aw))))) (ht T.avw (n6 UP)) (ht T.avx (n6 agv)) (ht T.avy (afe yt Av (gi T.aVh))) mj];cases c with|open_ b=>{contradiction}|bare w h m=>{contradiction}|read b=>{contradiction}|lead row m=>{rw[jc,bu,mc];have d0:wI Rh=(xS&&(Zg&&XB qU)):=by{show(Zg&&(XB qU&&xS))=_;cases Zg<;>cases XB qU<;>cases xS<;>rfl};rw[bs d0,e l _ _ _ _ rfl a5 (fun a8 a4=>Pd),i6 xS,kj];{rw[qt c,d c0 _ rfl (.inl (akg I)) _ _ rfl a_t];rw[bA,agu];rw[aS b9 (ae (2*ff)/2) (v ff),ca rfl];rw[b9];have hw:Zg=(bi (v 2) (v ff)&&bi (v ff) 64):=bt (within_int 2 64 ff);rw[bs hw,aoP];{refine dl (fF (fun g8=>?_) (fun g8=>?_));{rw[y c0 Jw (akg I) ⟨f7 c9,fun d4 c8=>?_⟩];rw[aZ8];rw[g,g8]at k;exact k d4 (eX c8)};rw[az]};rw[az]};rw[az]}|move i q=>{rw[jc,bu,fi,bu,mc,dh a5 (s4 (f d [q.x,q.y] (dJ [i,q.x,q.y] 1 3) ⟨ag,fun b7 b5=>?_⟩))];have f5:([q.x,q.y].all Y5)=wI (.move i q):=by{show _=qU q;simp[qU,zB]};rw[f5];exact ba3}|mark i m=>{rw[jc,bu,fi,bu,fi,bu,mc,dh a5 (s4 (KD (zd ba3)))]}|count n=>{rw[jc,bu,fi,bu,fi,bu,fi,bu,mc,r l jf a5 dg ?_];have f5:bi cJ 2=wI (.count n):=by{apply aDF;rw[tY]};show dB (bi cJ 2);rw[L f5 XN]}|erase i j=>{rw[RF]}|drop i=>{rw[RF]}|undo=>{rw[RF]}|redo=>{rw[RF]}|plan=>{rw[RF]}|save=>rw[RF]
theorem aZ_:T.awE.Ok P w aj 2 (aAj K):=by refine T.awE.go aT9 aL;generalize aG=e3,aA=A,aF=outer,aE=s,aD=H,aB=vs,aH=Q,aI=E;rw[aN,M ob,aX];generalize kQ=c,kR=x,kS=p,kT=ns,kU=W,kX=l,k_=c0;rintro rfl b0 S a5 I c9 k;rw[aj (ht T.avv (cp (gi IG) (a7 aZ6 aw) (j6 agw))) (fn T.aU_ T.LF Av) (fn T.avw T.LG (as Av Av)) (fn T.avx Xy (n6 agw)) (as (gi T.afk) Av)];cases c with|lead row m=>{rw[jc,pN,bu,mc,y c0 row I ⟨by rw[agu]at c9;exact cU c9,fun d a8 a4 nd a3=>a l _ _ _ _ rfl jT (pd aHU (m t d v (d ak (akm dj (fg cm)) a9_ (J (hN d z nd)))))⟩]}|erase i j=>{rw[jc,pN,bu,xV,bu,mc,tj (D l j a5 dq (r6 a8H))]}|move i q=>{rw[jc,pN,bu,xV,bu,fi,bu,mc,tj (D l q.y a5 rA (D l q.x a5 dq (mT (fm ⟨en 3,fun d8 a=>ax (dL cm a) (mP (f d8 _ ak (hH (Gy a) lQ)))⟩))))]}|mark i m=>{rw[jc,pN,bu,xV,bu,fi,bu,xV,bu,mc,tj (f l _ a5 (s4 (KD (pd (b_ xn b5 cm) (f t v ak a9_)))))]}|drop i=>{rw[jc,pN,bu,xV,bu,fi,bu,xV,bu,xV,tj (mT a8H)]}|_=>rw[pN]
universe z
noncomputable def aZ':a3D->cb| .undo=>ab| .redo=>ab| .count n=>bi n 2| .plan=>ab| .save=>ab|_=>ai
theorem agx{N:bg}{H L:Hp}{l:Addr}(s:uy)(a:bH N (L b≠ae))(h:L l=ae):wY:=by cases q:H l with|none=>{rfl}|some o=>by_cases m:l∈N;rw[az,yT (s l o q m)]
inductive aAk(K:Fg)(u CR:Addr)(vs:af)(H:Hp)(Q:VK)(E:XK):Prop|mk:∀(J:Addr)(R:GM.bT)(g ls:Addr)(c:GlaKeeps.Call)(p:Nat)(ns d:ao)(l:Addr),e [.ref J,jN,cB] ni xR (aZ' c=ab) (c aGm (h7 je) ((zU lR c).2.length<=10000000) (∀F L h8 C,l Au (Y F) (aj F (aku cp)) (dH L C) (a5U C) (zU lR c=(aa C.gr,0::h8)) Jz) (aAk K u CR vs H Q E))
section z
theorem a0a:T.awF.Ok P w aj 6 (aAk K bJ dJ):=by refine T.awF.go aT_ aL;generalize aG=e3,aA=A,aF=outer,aE=s,aD=H,aB=vs,aH=Q,aI=E;rw[aN,M Jv,aX];generalize EX=J,EZ=R,E5=g,E6=ls,E7=c,E8=p,Fb=ns,Fe=W,Ft=l;rintro rfl h Y i b0 a5 c9 k;rw[fV,fD,aj (e1 T.aVa (d9 (dH T.GN.h azL T.GN.b))) (e1 T.aVb (d9 (dH T.T4.h aZR T.T4.b))) (e1 T.avy (d9 (b4 aZ7 (iX bE)))) (e1 T.aVc (a7 aAg (a7 axi apC))) (a7 aAg (dK aZ3))];cases c with|undo=>{rw[jc,bs (GM.aSw Y),bu,mc,l2 R (M g ls h pz bd7),bh1,KW (GM.auD Y z)]}|redo=>{rw[jc,bs (GM.aSx Y),bu,fi,bu,mc,y2 (v wG pz bd7),bh1,KW (GM.auE Y z)]}|count n=>{rw[jc,bs (GM.aSy Y (Cw i)),bu,fi,bu,fi,bu,mc,r l jf a5 dg (a J R g ls n rfl h Y (ag) (fm (k t _ [_] R (cF cm) c6 ak (gd cm) Y rfl)))]}|plan=>{rw[jc,bs (GM.aSz Y),bu,fi,bu,fi,bu,fi,bu,mc,y2 (as Y),bg6];have F:=Dv.2.fits;rw[c a f_ b2 X G j F (pl (f a7 _ b4 ⟨by rw[(GM.aew f_)];have:=F.p;have:=F.l;have:=F.m;lia,fun d b7 b5 nd b9=>bik⟩))]}|save=>{rw[jc];rw[GM.aSA Y]at k c9;have a0:t P7<=10000000:=by{have:t (Om P7)=t P7:=cF Om (bA _);simp only[ia]at c9;exact cf CN c9};rw[bu,fi,bu,fi,bu,fi,bu,fi,b J R g ls rfl h Y (f7 a0) (pl (f a7 _ b4 (iS a0 (fun d b7 b5 nd b9=>bik))))]}|_=>cases i
universe z
noncomputable def sI(v:V):hU:=[("record",v)]
theorem aAl(v:V):kk "record" v []=sI v:=rfl
theorem a0b(v u:V):kk "record" u (sI v)=sI u:=UE
theorem Ma{v:V}:ip (sI v) "record"=aa v:=by rw[<-aAl,dh,cN]
theorem a0c{v:V}{m:Str}(h:¬m="record"):fg (sI v) m=ae:=by rw[<-aAl,dh,bj h];rfl
theorem RecAt.agy{u CR A:Addr}{H L:Hp}{J:Addr}{R:GM.bT}{g ls k dx:Addr}{v:V}(h:ni)(c3:lF v)(s:fK [k]):AV:=by rw[dZ c4 mV,Q5,JZ];have h7:oH [k] H:=qQ ah;have d6:∀{l:Addr}{O:af},am l O->l∉[k]:=fun{l O}e=>A_;exact aV (dR q (ax (qq q c3 (by rw[tJ];injection z with _ _ z;rw[yY "done",bX y_ EC,nj])))) (d6 d2) (Tr (fun x D z=>by rw[Cu z,baV];obtain⟨c5,h2,_⟩:=d.p;obtain⟨d8,e2,_⟩:=d.l;obtain⟨K,i8,_⟩:=d.m;exact c_ (dR M (mN (a≠k) (qq M c3 (by rw[tJ];injection z with _ _ z;rw[yY "width",bX yS EC,nj])))) (d6 h2) (d6 e2) (d6 i8)) e9) (d6 q2) (Tr (fun x y z=>by have t:=s.ts h7;cases y with|lead row m=>{rw[KV B,b6 h2 e2 l];exact a a i7 b8 e yb (dB.sb dj (v c5 h2 e2) s h7 (d6 h2)) (lM t B) a3}|erase i j=>{rw[ih z yb]}|move B p=>{rw[w pv e q C z];exact a a pv e yb (hH t C)}|mark i m=>{rw[w b8 e q C z];exact a a b8 e yb (lM t C)}|drop B=>rw[ih z yb]) f6)
inductive aAm(A:Addr)(vs:af)(H:Hp)(Q:VK)(E:XK):Prop|mk:∀(k dx:Addr),A [X_] (bh k (aC A [])) (Q .bC (ad k (aC A (sI .bC)))) (aAm A vs H Q E)
inductive aAn(A:Addr)(vs:af)(H:Hp)(Q:VK)(E:XK):Prop|mk:∀(k dx J:Addr)(v:V),A [X_,xf] (lF v) (∀F L,c (fK [k]) (Y F) (aj F hb) a_2 Jz) (aAn A vs H Q E)
def aAo(u CR A:Addr)(H:Hp)(k dx:Addr)(f:aJA)(Q:VK):Prop:=(∀e F L,b f Ac bQ (Y F) (aj F (B (IH e) cp)) Jz)/\(∀R F J g ls L,b f (.ok wH) xR (fK [k]) (Y F) (l (aj F hb) a_2 AV (Y J) (Y g) (Y ls) Jz))
inductive aAp(K:Fg)(u CR A:Addr)(vs:af)(H:Hp)(Q:VK)(E:XK):Prop|mk:dn tF (cw<=131072) (B (akp b) (fun r=>v r [] [])) (aAp K u CR A vs H Q E)
inductive aAq(u CR A:Addr)(vs:af)(H:Hp)(Q:VK)(E:XK):Prop|mk:dn (am l kF) aHu (akt b) (aAq u CR A vs H Q E)
section z
theorem a0d:T.T5.Ok mg P w aj 1 (aAm hI):=by refine T.T5.go aT4 FK;rw[Q k dx c3 q h,g _ (fE (hr cu)) k _ dx _ c3 (d DU Oo (ay) q)]
theorem a0e:T.T_.Ok mg P w aj 1 (aAn hI):=by refine T.T_.go aT6 FK;obtain⟨k,dx,J,v,rfl,c3,q⟩:=h;rw[g _ (bo (hr aq) am5) k _ dx _ c3 (a1 DU Oo (v6 1))];rw[a0b];rw[v (ay) (fun F a=>?_),au sb [k] (ad k aHL) alF,e c1 H k aHL k aHL];exact q F _ (aj5 (lK a)) (agx sb (k4 ah) a) ak (co a c1)
theorem a0f:T.T9.Ok mg P w aj 14 (aAq bJ dJ hI):=by refine T.T9.go au6 FK;obtain⟨k,dx,l,v,b,rfl,c3,a5,U,d2,q2⟩:=h;rw[cl (c2 T.aVn au6.nd aZ4 (BB xA)) (cc a5) ?_];rw[dC];refine aw8 (fY (acR z (mh U))) (f l b a5 (v U bbJ (fun R a J g ls a8 m Y a4 d0 hR G nc ns=>?_)));{rw[hd n,rC,p8 m Z]};{rw[bn a d0 gJ,eM (di c3),c k dx I EC a _ (a _ _ rfl rfl (cx d0) dq k dx (f J v I (fun F b7 b5 O Z c1=>q2 R F J g ls b7 m Y (J (cF a4) b5) (gV O) Z c1 (hR.agy I b5) G nc ns)))]}
theorem a0g:T.T7.Ok mg P w aj 11 (aAp K bJ dJ hI):=by refine T.T7.go au5 FK;obtain⟨k,dx,l,v,b,rfl,c3,a5,U,d2,q2⟩:=h;rw[cl (c2 T.aVm au5.nd az4 (BB (Ci xA))) pP ?_];rw[dC];refine aw8 (fY (acR z (aC U))) (M l b a5 bbJ (fun r a y a8 m a4 d0 J=>?_));{rw[hd n,rC,p8 (dc m) Z]};{rw[bn a d0 gJ,eM (di c3),c k dx I EC a _ (oP (aJ (cx d0) dq)),mq W,aMR,n6 a8 a8,cr W r (j.mono sm) bhJ];have f9:=FT A_;have d:=hy I;have S:=eX f9;rw[j k dx x v (ai d (fun F h5 h1 O Z c1=>q2 (ky r) F x g ls h5 (dc m) (GM.aeJ (GM.auK m)) (J (cF S) h1) (S.free O) Z c1 (b6.agy d h1) (gV nx) (eU (eX sm) b9) (eU (eX sm) e1)))]}
universe z
inductive aAr(C:Addr)(vs:af)(H:Hp)(Q:VK)(E:XK):Prop|mk:∀(w h:Nat)(b8:V)(m:Gla.Mark),A [vn w,vn h,b8] Z5 (f5 (ags C H L v ao0)) (aAr C vs H Q E)
theorem a0h{I:Type}{l:ba}{m:I}(h:Wk [m]):l=[m]:=List.perm_singleton.mp h
section z
theorem a0i:T.avH.Ok P w aj 8 (aAr bJ):=by refine T.avH.go aTa aL;generalize aG=e3,aA=A,aF=outer,aE=s,aD=H,aB=vs,aH=Q,aI=E;rw[aN,M oc,aX,al C c b8 m,ds c4,w _ (i 3 Oq tZ (bU 4 Oq (dO bS)) (i 5 Oq (as aq bE) (bU 6 Oq (as aq bS)) (i 7 Oq (yw (vq bb bR cI eu)) (bU 8 Oq (yw (vq (as bb bR) (as bb cI) (as bR eu) (as cI eu)))) (de (d9 azo (GI bS aq ke kf (d9 aw))))))) es (fun y c6=>?_)];have s0:=b_ (o:=xZ) c6;rw[e f5 H y xZ y xZ];generalize ad y xZ=i at s0 f5;rw[v es (fun e0 n1=>?_)];have a4:=b_ (o:=amM) n1;rw[e b4 i e0 amM e0 amM];have F:=di f5;generalize upd i e0 amM=a8 at a4 b4 F;rw[v es (fun g0 n2=>?_),gU (b_ (o:=aoN) n2),e b9 a8 g0 aoN g0 aoN];have e5:=gM F;have g7:=IQ;rw[bo (upd a8 g0 aoN) b9 e5 g7,v es (fun d0 u=>?_)];have c8:=b_ (o:=bx c C) u;rw[e e7 b7 d0 (bx c C) d0 (bx c C)];have o:=dm e5;have c2:=dm g7;have N:=dm b9;generalize upd b7 d0 (bx c C)=d4 at c8 e7 o c2 N;rw[v (en 4) (fun b2 a0=>?_)];have d9:=ac apQ a0;rw[a g5 d4 b2 apQ b2 apQ,i d4 b2 apQ e4 d9 g5,v es (fun n c9=>?_)];have f9:=b_ (o:=ano) c9;rw[e i2 e4 n ano n ano,m e4 n ano g6 f9 i2,v es (fun h2 g9=>?_)];have h1:=b_ (o:=anp) g9;rw[e j1 g6 h2 anp h2 anp,m g6 h2 anp h5 h1 j1,v es (fun e2 e1=>?_)];have R:=b_ (o:=anq) e1;rw[e j2 h5 e2 anq e2 anq,m h5 e2 anq h9 R j2,v es (fun i8 j5=>?_)];have d6:=b_ (o:=anr) j5;rw[e j9 h9 i8 anr i8 anr,m h9 i8 anr i3 d6 j9,v (en 4) (fun le ne=>?_)];have i4:=ac apR ne;rw[a j8 i3 le apR le apR,i i3 le apR i7 i4 j8,v (en 1) (fun G d1=>?_)];have c0:=ac [b8] d1;rw[a d i7 G ue G ue,i i7 G ue h7 c0 d,ci (i4.trans c0),cb (wU q),dd (wu b)];have J:=zF e;have I:=mW J;have j:=mX I;have r:=J (b_ (aEU a4) b5 c8) j;have f:dG h7 Ak jO:=ln y o;have e9:dG h7 (.ref e0) (jG C):=ln e0 c2;have f6:dG h7 (.ref g0) (hm c):=ln g0 N;have j0:dG h7 (.ref d0) ⟨C,c⟩:=ln d0 e7;rw[b C c b2 le G (akw C c) (GM.To C c) [m] (a rfl (cd (I _ _ g5) (ec f e9 (hR f6 j0))) (cd (c0 _ _ j8) (ec (bO n (J _ _ i2) f e9) (bO h2 (e _ _ j1) f f6) (hR (bO e2 (b _ _ j2) e9 j0) (bO i8 (q _ _ j9) f6 j0)))) (cd d (hq (to r))) (d (gE (4<=100000)) (akw C c) (gE (4<9000)) (fun x h=>h)) (gE (4<9000)) aQ ?_ (fun v L c1 nv=>?_))];{intro l a5;simp[GM.To]at a5;rw[kB a5]<;>simp[akw]};{obtain⟨d8,a,g,O,p,rfl,D,b3,_,b0,t,z,B⟩:=nv;have:=a0h b3;rw[gm];exact ax (ajW c1) (f a g O p D (akv b0) (akv t) ⟨akv z,akv B⟩)}
universe z
theorem a0j{w h:Nat}{m:Gla.Mark}(hw:bk w)(c7:bk h)(c4:uO):DB ao0:=by refine GM.aup hw c7 (gE (4<65535)) (gE (b1 4)) aQ ?_ ?_;{intro p c2;simp[akw]at c2;rw[kB c2]<;>simp[hw,c7]};{rw[xD]}
noncomputable def agz(w h:Nat)(m:Gla.Mark):aJA:=jo (zI ao0) (v ao0 [] [])
inductive aAs(K:Fg)(u CR A:Addr)(vs:af)(H:Hp)(Q:VK)(E:XK):Prop|mk:∀(k dx l:Addr)(v:V)(w h:Nat)(m:Gla.Mark),e [X_,cB] (lF v) (h7 (ii aKn)) (wI ao_=ai->f F L bQ (Y F) (aj F (mD (-1))) Jz) ((wI ao_=ab->C5 (agz w h m))->aAs K u CR A vs H Q E)
section z
theorem a0k:T.T8.Ok mg P w aj 10 (aAs K bJ dJ hI):=by refine T.T8.go ae4 aL;generalize aG=e3,aA=A,aF=outer,aE=s,aD=H,aB=vs,aH=Q,aI=E;rw[aN,M ob,aX];generalize kQ=k,kR=dx,kS=l,kT=v,kU=c5,kX=h',k_=m;rw[av c3 a5 N d2];have d0:wI (.bare c5 h' m)=(aKQ&&xS):=by{show(zB c5&&(zB h'&&xS))=_;delta zB;rw[Bool.and_assoc]};rw[d0]at N d2;rw[cl (ai (gd (gB (uT (n6 UP)) (uT (n6 agv))) (ij T.avz)) (bU 2 ae4.nd (Z a0i Av Av (n6 agw))) (gr ae4.nd cu (de (BB (Ci aw))))) a5 JX,y d [c5,h'] (dJ Yv 0 2) ⟨aJP,fun b7 r2=>?_⟩];have b5:=J (ac (ca (ii Yv) 0 2) nd) r2;rw[aS f5 ([c5,h'].all Y5) aKQ];rw[f5];rw[kj];{rw[c,ahR]at N d2;rw[a9c,p4 c7 (fun e4 c9=>?_)];have d9:=J (fg (ac (k6 Yv 6) Y)) c9;rw[i6 (! xS)];cases D:xS with|false=>{rw[kk (fun F a=>N D F _ (mX (b_ a)) (WE a) ak)]}|true=>have⟨h2,e2⟩:=d2 D;have t:bk c5/\bk h':=by{rw[xi]};have c4:uO:=by{rw[A6 D];simpa using D};rw[r l (vn c5) Ju dg (D l h' Ju dq (f l _ Ju (fun a9 L=>?_))),p4 a9 (fun b8 h5 q M=>?_),j c5 h' b8 m (ai M (fun r h9 b1 J=>?_)),aMR,d c2 aay b2 X G _ ae (ax j (a0j t.1 t.2 c4) (sP (Yz)) (fun p i3 i b=>?_)),dr (b_ (J (mX (ac (k6 Yv 6) L)) q) b1 i)];delta agz at h2 e2;cases a7:zI aay with|some e=>{rw[a7]at b h2;rw[hd b,rC,Q rfl _ e ⟨b,fun F i7 R O Z=>h2 e F i7 rfl (wU R) (d6.free O) Z⟩]}|none=>rw[a7]at b e2;subst b;rw[bu];have u7:=of c3;rw[Q k dx _ (aJ u7 EC),mq W,n6 i3 i3,cr W aay (bN (j.mono i) sm) (fun i7 g ls S b9 e1 b6=>gJ)];have i4:=wr (S c o (sm c o e) fR);have y:=i4 _ _ u7;have B:=wU i4;rw[j k dx x v (ai y (fun F h7 I O Z c1=>e2 (ky aay) F x g ls h7 rfl (GM.aeJ (GM.aSq t.1 t.2 c4 a7)) (J (cF B) I) (B.free O) Z c1 (b6.agy y I) (d6.free nx) (eU (wU sm) b9) (eU (wU sm) e1)))]};{rw[ae C aKQ ai,kk (fun F a=>N ag F _ (fg (b_ a)) (b5.free a) ak)]}
universe z
def G0(u CR A:Addr)(H:Hp)(k:Addr)(o:Pz)(N:bg):Prop:=match o with|none=>N=[k]/\∃dx,lF .bC|some R=>∃J g ls dx,N=aL1/\lF xf/\ni/\xR
theorem G0.k{u CR A:Addr}{H:Hp}{k:Addr}{o:Pz}{N:bg}(h:or H):k∈N/\∃dx v,lF v:=by cases o with|none=>{rw[aKY];exact d bK dx _ e}|some R=>obtain⟨J,g,ls,dx,rfl,e,_⟩:=h;exact d bK dx _ e
theorem G0.mono{u CR A:Addr}{H L:Hp}{k:Addr}{o:Pz}{N:bg}(h:or H)(s:bQ):or L:=by cases o with|none=>{rw[aKY];exact ai dx (bv e)}|some R=>rw[no dx e];exact mr (bv e) (akq s)
theorem SB.wide{N d5:bg}{H L:Hp}(s:uy)(h:fJ N d5):fK d5:=fun b o e n=>s b o e (bo (n (h b m)))
theorem aAt(b:Gla.Bytes):kF=bh (wJ akx):=f5 bV jw
theorem a0l{c:GlaKeeps.Call}{x:Gla.Step}(h:aFx c=aa x)(a:wI c=ab):H9 x:=by cases c with|lead row m=>{rw[cG];have B:dj Zg (XB qU&&xS):=a;simp only[hZ,Hn]at B;obtain⟨e0,g0,d0⟩:=B;delta jC at e0;rw[A6 d0,v (v ah ah ua) ah];have:=g0 p c2;unfold GlaKeeps.ptOk GlaKeeps.long at this;rw[gf]}|erase i j=>{rw[cG];trivial}|move i q=>{rw[cG];have B:qU q=ab:=a;delta qU zB at B;show bk q.x/\bk q.y;simpa using B}|mark i m=>{rw[cG];have B:xS=ab:=a;rw[A6 B];show uO;simpa using B}|drop i=>{rw[cG];trivial}|_=>rw[cG]
inductive aAu(u CR A:Addr)(vs:af)(H:Hp)(Q:VK)(E:XK):Prop|mk:∀(k:Addr)(o:Pz)(N:bg)(c:GlaKeeps.Call)(p:Nat)(ns d:ao)(l c0:Addr),e [X_,jN,cB,O4] (or H) aGm (am l je) (c (am c0 (aBT vn)) (oS<100000) ((zU o c).2.length<=10000000) (∀F L g l8,l uy (Y F) (aj F (hD (zU o c).2)) (G0 u CR A L k g l8) (qZ aky=(zU o c).1) (V b l8 (b∈N\/gp)) Jz) (aAu u CR A vs H Q E))
section z
theorem a0m:T.T6.Ok mg P w aj 15 (aAu bJ dJ hI):=by refine T.T6.go aT5 aL;generalize aG=e3,aA=A,aF=outer,aE=s,aD=H,aB=vs,aH=Q,aI=E;rw[aN,M Jv,aX];generalize EX=k,EZ=o,E5=N,E6=c,E7=p,E8=ns,Fb=W,Fe=l,Ft=c0;rintro rfl h b0 a5 d7 c9 d1 B;obtain⟨f7,dx,v,c3⟩:=h.k;rw[ca (ai (e1 T.aU8 (jk bS DU T.T7.h (ez a0g) a6 T.T7.b .nil fp (dY bb))) (e1 T.aU9 (jk bS DU T.T8.h (ez a0k) a6 T.T8.b .nil fp (dY aw))) (ai (e1 T.aVd (jk bS DU T.T9.h (ez a0f) a6 T.T9.b .nil fp (dY bb))) (D yu bP cu (ij T.aVi)) (bX (gd (uT (Z aZ9 aq aw bb)) (ij T.avz)) (aj yt aq T.aU' (jk bP gH T.GL.h (ez azP) a6 T.GL.b .nil fp (dY (Z aZ_ aq aw bb)))) (ec am5 (Z a0a bP aq aw)))))];have c2:∀f:aJA,(zU o c=match f with| .error e=>(tk aky,IH e)| .ok J=>qq J)->aAo bJ dJ hI H k dx f Q:=fun f a3=>by{rw[v (fun e F L z s O Z=>?_) (fun R F J g ls L z Y s O Z c1 hR G nc I=>?_)];{rw[rq];rw[a3]at B;exact bhX};{rw[rq];rw[a3]at B;refine B F L lR aL1 (s.wide (k4 ah)) O Z (mr c1 hR) rfl (fun b m=>?_);rw[Bg,kB m,Fh,co bG,co bG,co bG]}};rw[bC U (aFw c)];{cases c with|open_ b=>{rw[jc,dQ i5 cw 100000,bu,mc,qr (av (bj d7 aAt)) (f8 i5)];rw[GM.aSr o bM];rw[kn (akp b) r]}|bare c5 h' m=>{rw[jc,bu,fi,bu,mc,c k dx c3 EC k dx (a l v c5 h' m rfl c3 (av a5) (fun b3 F L s O Z=>?_) (fun b3=>c2 _ ?_))];{rw[GM.auO o gj b3]at B;exact bhX};{rw[GM.aSu o b3];delta agz;rw[EQ (zI aay)]}}|read b=>{rw[jc,dQ i5 cw 100000,bu,fi,bu,fi,bu,mc,qr (bj d7 aAt) i5];rw[GM.aSs o (f8 i5)];all_goals(rw[kn (akt b) r])}|_=>cases U};{rw[ae j6 (aFw c) ai];have pn:p≠1/\p≠2/\p≠13:=by{cases c<;>first|contradiction|(rw[aFT];decide)};rw[bu,xV,bu,xV,bu,xV];cases o with|none=>{rw[cy rfl u f5,lC f5 (f Oo Ma (en 1) (fun F a=>?_))];rw[GM.aSt j6]at B;exact B F _ ae [k] (lK a) a ak (ai u (co a f5)) rfl XR}|some R=>rw[no u f5,lC f5 (a Oo Ma rfl c p ns W l (a c0 rfl b0 j6 (av a5) (av d7) c9 aJK))];have b4:=di f5;rw[fe (akq a4)];have b8:fJ gh aL1:=fun b m=>ck m;have j2:k∉gh:=bo (by obtain⟨c4,c7⟩:=hR.at_;rw[kl b1 hR.c,hY ws hR.s,Bg];rcases m with z|z|z;{rw[b2 c7 f5,aJH];injection f5 with _ _ f5;have:=gz (Md ("record":Str)) f5;rw[bX Ma tO,nj]};rw[az,az]);cases b3:wI c with|false=>{rw[v (en 1) (fun F a=>?_)];rw[GM.auO lR EM b3]at B;exact B F _ lR _ (cF (lt a)) (gV a) ak (a J g ls u rfl (co a b4) (XA (b_ a)) Y) rfl XR}|true=>rw[bD (fF (fun M=>?_) (fun M=>?_))];{obtain⟨x,S⟩:ax x (aFx c) x:=by{have b2:p<=7:=by{simp at M;lia};cases c<;>first|exact ei|trivial|(rw[aFT];trivial)};have sa:=a0l S b3;obtain⟨c4,c7⟩:=a9.at_;rw[lC b4 (a Oo Ma J c4 _ rfl c7 tO (a c x p ns W l c0 rfl (c b0 S (av (di a5)) (av (di d7)) c9 (fun a0 b7 b5 st=>?_)))),g J R g ls a0 x (XA b5) (d Y (st _ (k4 (a9.live m))) sa (fun F d4 b9 c8 O Z D=>?_)),QN];have f6:=J (cF i9) c8;have a7:=baE;rw[GM.aSv Y b3 S sa]at B;delta agq at D;cases g9:Xz f_ x with|error y=>{rw[g9]at D B;cases y with|none=>{exact A4 aGI}|some e=>exact A4 ah}|ok b6=>rw[g9]at D B;simp only at D B;by_cases d0:65536<=R.d;{rw[aK d0]at D B;exact A4 aGI};{rw[bj d0]at D B;exact f4 (aa (Ww x b6)) aGI (a J g ls u rfl a7 D.2 (Y.add sa (bj (GM.Tj Dv.2 sa.ok) g9) (x (aNl d0))))}};{have b2:¬p<=7:=by{simp at M;lia};rw[v (en 1) (fun t c6=>?_)];have b5:=i9 (cp 0) c6;rw[a g9 a8 t am_ t am_];have X:=XA (ac [cp 0] c6);rw[f a8 t am_ b7 b5 g9 X,lC (gM f5) (a Oo Ma J R g ls c p (a ns W l rfl X Y (by cases c with|count n=>{trivial}|undo=>{rfl}|redo=>{rfl}|plan=>{rfl}|save=>{rfl}|open_ b=>{trivial}|bare c5 h' m=>{trivial}|read b=>{trivial}|lead row m=>{rw[aaT]}|erase i j=>{rw[aaT]}|move i q=>{rw[aaT]}|mark i m=>{rw[aaT]}|drop i=>rw[aaT]) b0 (av (gM a5)) d1 (fun F d4 h8 C c8 O Z d3 d5 a3=>?_)))];have f6:=J (cF b5) c8;rw[fV,n t F (c8 _ _ g9 (bo (a9.live m c6))) Z ⟨?_,fun d nd=>?_⟩];{simp_all;exact cU d1};{rw[a3]at B;exact B d _ (aa C) _ (J (a5V b8) (cF xn)) (agx f6 (k4 (d3.live m)) nd) (dc ak) (a J g ls u rfl (co nd baE) (d3.mono xn) d5) rfl XR}}}
universe z
universe GA
namespace GM
open Gla GlaKeeps
noncomputable def agA(row:eh):ao:=a_e
def Mb(c:GlaKeeps.Call)(p:Int)(ns d:ao):Prop:=match c with| .open_ b=>a8U| .bare w h m=>dr 2 aKn| .lead row m=>HZ (agA row)| .erase i j=>dr 4 [i,j]| .move k q=>a_Y| .mark i m=>dr 6 aGH| .drop k=>dr 7 [k]| .undo=>kt 8| .redo=>kt 9| .count n=>dr 10 [n]| .plan=>kt 11| .save=>kt 12| .read b=>a8V
noncomputable def zs(ns:ao):aT:=wz a_N
theorem Ct{z:Int}(h:0<=z):wV z=aa akz/\v akz=z:=by delta wV;rw[jY]
theorem G1{z:Int}{n:Nat}(h:wV z=aa n):cJ=z:=by rw[a4 wV,fT]
theorem agB{x y g p:Int}{m:Mark}(h:a5W x y g p=aa m):v ij=x/\v ih=y/\v jx=g/\v kB=p:=by revert h;revert x y g p m;refine@aE5 _ _ _ _ _ _ _ ?_;rw[F x y g p m,eD,a4 a5W];cases S:wV x with|none=>{simp_all}|some a=>cases b6:wV y with|none=>{simp_all}|some b=>cases d8:wV g with|none=>{simp_all}|some c=>cases c2:wV p with|none=>{simp_all}|some d=>rw[S,b6,d8,c2]at h;rw[cG];exact d (G1 S) (G1 b6) (G1 d8) (G1 c2)
theorem aAv:∀{J:aT}{row:eh},a5X J=aa row->zs (agA row)=J|[],row,h=>aHf|[x],row,h=>bB|x::y::J,row,h=>by unfold KeepNeutral.points at h;cases a6:a5X J with|none=>{simp_all}|some l=>cases S:wV x with|none=>{simp_all}|some a=>cases b6:wV y with|none=>{simp_all}|some b=>rw[a6,S,b6]at h;rw[cG,dr (aAv a6)];unfold zs agA at d6⊢;rw[o_,fe,d6];simp[G1 S,G1 b6]
theorem aAw{J:aT}(h:J.all (J (KeepNeutral.natural z 8))=ab):z b (a5Z J=aa b) (zs (wJ akx)=J):=by have h':=sr (by have:=Wa h z c9;unfold KeepNeutral.natural at this;rw[gf]);rw[ak (J.map (J (aiI akz))) ?_];{delta a5Z;rw[aK];delta NeutralIO.bytes;rw[Hn];intro z c9;grind-abstractProof};{delta zs;rw[jw,jw];rw[ut J,jL an8];have:=h' z c9;simp only[Wm,id];rw[aC6,er (ae (Int.toNat_lt et) fj),a5Y et]}
inductive iK:cu fA|a J:iK [[1],J]|b w h x y g q:iK [[2,w,h,x,y,g,q]]|c x y g q J:iK [[3,x,y,g,q],J]|d i j:iK [[4,i,j]]|e k x y:iK [[5,k,x,y]]|f i x y g q:iK [[6,i,x,y,g,q]]|g k:iK [[7,k]]|h:iK [[8]]|i:iK [[9]]|j n:iK [[10,n]]|k:iK [[11]]|l:iK [[12]]|m J:iK [[13],J]
theorem ifC{c:Prop} [Hq c]{I:Type}{x y z:I}(h:(if c then x else y)=z):c/\x=z\/y=z:=by rw[eH,l (dp bG h),co h]
theorem a0o{I:Type}{n:Nat}{a:ba}(h:n+1=mL):∃x b,a=x::b/\n=cw:=by cases a with|nil=>{rw[cG]}|cons x b=>exact ce x b (aDh h)
theorem vE{I:Type}{a:ba}(h:0=mL):a=[]:=a20 agI
theorem aAx{a:aT}(h:1=mL):∃u,a=[u]:=bdj
theorem aAy{a:aT}(h:2=mL):∃u v,a=[u,v]:=by rw[Pu];obtain⟨v,d3⟩:=aAx k;exact v u v ZF
theorem aAz{a:aT}(h:3=mL):∃u v w,a=[u,v,w]:=by rw[Pu,dl w d3 (aAy k)];exact d u v w ZF
theorem aAA{a:aT}(h:4=mL):∃u v w x,a=[u,v,w,x]:=by rw[Pu];obtain⟨v,w,x,d3⟩:=aAz k;exact a u v w x ZF
theorem aAB{a:aT}(h:5=mL):∃u v w x y,a=[u,v,w,x,y]:=by rw[Pu];obtain⟨v,w,x,y,d3⟩:=aAA k;exact c u v w x y ZF
theorem a0p{a:aT}(h:6=mL):∃u v w x y z,a=[u,v,w,x,y,z]:=by rw[Pu];obtain⟨v,w,x,y,z,d3⟩:=aAB k;exact a u v w x y z ZF
theorem aAC{a:fA}(h:1=mL):∃u,a=[u]:=bdj
theorem callC{c:fA}(o:aFy DV c):iK c:=by rw[Y p a O h o,a4 DV,qn,bdl,qn];{rw[Eg,Eh];obtain⟨_,_,_,_,_,_,e⟩:=a0p h;rw[e];rw[vE k];constructor};rw[qn];{rw[Eg,Eh];obtain⟨_,_,_,_,e⟩:=aAA h;rw[e];rw[sa (aAC k)];rw[e];constructor};rw[qn];{rw[Eg,Eh];obtain⟨_,_,e⟩:=aAy h;rw[e];rw[vE k];constructor};rw[qn];{rw[Eg,Eh];obtain⟨_,_,_,e⟩:=aAz h;rw[e];rw[vE k];constructor};rw[qn];{rw[Eg,Eh];obtain⟨_,_,_,_,_,e⟩:=aAB h;rw[e];rw[vE k];constructor};rw[qn,a8q,qn,apW,qn,apW,qn,a8q,qn,apW,qn,apW,qn,bdl,cG]
set_option tactic.hygienic true in theorem call_of{c:fA}(o:iK c)(h:aFz c=ab):z x aHF ((∃p l,c=[p::l]/\z ns (Mb x p ns []) (zs ns=l))\/∃p l J,c=[p::l,J]/\∃ns d,Mb x p ns d/\zs ns=l/\zs d=J):=by cases o;{next J=>rw[bF b4 b9 (aAw h),cp (.open_ b) (.inr (b 1 [] J rfl [] tE rfl b9)),gD (do{some (GlaKeeps.Call.open_ (<-KeepNeutral.bytes J))})];rw[b4];rfl};{next w c7 x y g q=>rw[ZI];obtain⟨h,e2⟩:=h;rw[kx (DW h),h5 (0<=w) a3];have a9:0<=c7:=Cw a9;rw[ch m c4 e2];have e:=agB c4;rw[cp (.bare w.toNat c7.toNat m) (jM 2 (as tE))];{rw[gD (do{some (GlaKeeps.Call.bare (<-KeepNeutral.nat w) (<-KeepNeutral.nat c7) (<-KeepNeutral.mark x y g q))})];rw[QL,(Ct a9).1,c4];rfl};{simp[zs,(Ct a3).2,(Ct a9).2,e]}};{next x y g q J=>rw[ZI];obtain⟨a3,e2⟩:=h;rw[ch row a6 a3,ch m c4 e2,dd (agB c4),cp Rh (.inr (b 3 _ J rfl _ tE ?_ (aAv a6)))];{rw[gD (do{some (GlaKeeps.Call.lead (<-KeepNeutral.points J) (<-KeepNeutral.mark x y g q))})];rw[a6,c4];rfl};{simp[zs,e]}};{next i j=>rw[ZI,h5 (0<=i) h.1];have a9:0<=j:=Cw h.2;rw[eB (.erase Vm aBg) 4 (by simp[zs];rw[tY]),gD (do{some (GlaKeeps.Call.erase (<-KeepNeutral.nat i) (<-KeepNeutral.nat j))})];rw[QL,(Ct a9).1];rfl};{next k x y=>rw[ZI,h5 (0<=k) (DW h.1).1];have a9:0<=x:=Cw (DW h.1).2;have e2:0<=y:=Cw h.2;rw[eB (.move aBK ⟨H7,y.toNat⟩) 5 (by simp[zs];grind),gD (do{some (GlaKeeps.Call.move (<-KeepNeutral.nat k) ⟨<-KeepNeutral.nat x,<-KeepNeutral.nat y⟩)})];rw[QL,(Ct a9).1,(Ct e2).1];rfl};{next i x y g q=>rw[ZI,h5 (0<=i) h.1,ch m c4 h.2,dd (agB c4),cp (.mark Vm m) (jM 6 (as tE))];{rw[gD (do{some (GlaKeeps.Call.mark (<-KeepNeutral.nat i) (<-KeepNeutral.mark x y g q))})];rw[QL,c4];rfl};{simp[zs,e];lia}};{next k=>rw[h5 (0<=k) h,eB (.drop aBK) 7 (by simp[zs];lia),gD (do{some (GlaKeeps.Call.drop (<-KeepNeutral.nat k))})];rw[QL];rfl};rw[lm .undo 8,lm .redo 9];{next n=>rw[h5 (0<=n) h,eB (.count jz) 10 (by simp[zs];lia),gD (do{some (GlaKeeps.Call.count (<-KeepNeutral.nat n))})];rw[QL];rfl};rw[lm .plan 11,lm .save 12];{next J=>rw[bF b4 b9 (aAw h),cp (.read b) (.inr (b 13 [] J rfl [] tE rfl b9)),gD (do{some (GlaKeeps.Call.read (<-KeepNeutral.bytes J))})];rw[b4];rfl}
theorem aAD:∀{A B:ao},zs A=zs B->A=B|[],[],_=>rfl|[],b::B,h=>bB|a::A,[],h=>bB|a::A,b::B,h=>by rw[aau];rw[aAD a9,aDs a3]
theorem a0q(A B:ao):zs (A++B)=zs A++zs B:=fe
theorem UQ(A:ao):t (zs A)=ie:=bA _
theorem aAE{Z A:ao}{t:aT}(h:zs Z=zs A++t):z B (Z=A++B) (zs B=t):=by have a3:=gz (List.drop ie) h;have a9:=gz (List.take ie) h;rw[dd (bt (UQ A))];rw[e]at a3 a9;rw[aif]at a3;rw[aih,<-e]at a9;have V:Z.take ie=A:=aAD (by delta zs at a9⊢;rw[Df];exact a9);exact v (Z.drop ie) (by rw[<-V,eS];conv=>{lhs;rw[<-Dm ie Z]};congr 2;grind-abstractProof) (by delta zs at a3⊢;rw[Dg,<-a3,bA])
theorem a0r{c:fA}(o:iK c):a50 c=c:=sE o
theorem a0s{l:aT}(h:aFA l=ab):∃cs,l=EW/\V c cs aKs/\XC l=u2 a52/\bd (XC l) 10000000:=by rw[a4 aFA];cases q:a51 l with|none=>{simp_all}|some cs=>rw[aj q];have h:=h;have e:XC l=u2 a52:=by{delta XC;rw[q]};delta a51 at q;cases c4:PyFlat.calls DV d_ l with|none=>{simp_all}|some c7=>rw[cQ c4,ci (cZ q)];obtain⟨e9,f6⟩:=PyFlat.put_calls _ _ _ c4;have:c7.map a50=c7:=by{rw[ut c7];exact aix (fun c m=>a0r (callC (f6 c m)))};rw[cQ this,e_,nw hZ];obtain⟨⟨a3,a9⟩,e2⟩:=h;delta KeepNeutral.asked at a9;simp only[hZ,Hn]at a9;delta PyFlat.short at e2;exact a c7 e9 (fun c m=>⟨f6 c m,a9.2.1 c m⟩) e ah
theorem a0t{cs:bL fA}(h:∀c∈cs,aKs)(e:EW=[]):cs=[]:=by cases cs with|nil=>{rfl}|cons c cs=>obtain⟨⟨p,a,O,rfl,_⟩,_⟩:=h c (fu ..);rw[dS]
theorem a0u{c:fA}(o:iK c):∃(p:Int)(a:aT)(O:fA),c=(p::a)::O/\0<=p:=by cases o<;>exact oE ay
theorem a0v{c:fA}{cs:bL fA}{Z:ao}(ok:aFy DV c)(b3:aFz c=ab)(e:zs Z=a53 (c::cs)):∃(x:GlaKeeps.Call)(p:Nat)(ns d:ao)(b:Bool)(n:ao),z aHF (Mb x p ns d) (DV (v p)=aa (zh,Z b 1 0)) (b=ai->d=[]) (Z=(p::(ns++(Z b (oS::d) [])))++n/\zs n=EW):=by revert ok b3 e;revert c cs Z;refine ap1;rw[co c cs Z];intro ok b3 e;rw[lf w (call_of (callC ok) b3)];obtain⟨f,_,_,f5,c6⟩:=a0u (callC ok);obtain⟨u,a,O,g7,c0⟩:=ok;have pn:∀{ns d:ao},Mb x u ns d->∃p:Nat,u=v p:=fun{ns d}z=>⟨f.toNat,by rw[g7]at f5;rw[aJH,aJH];rw[f5,a5Y c6]⟩;rcases w with⟨q,l,b4,ns,z,a7⟩|⟨q,l,J,b4,ns,W,z,a7,c4⟩;{rw[g7]at b4;rw[bbX,bbY];subst g5 i2 e7;rw[dl p (pn z)];subst g7;have E:zs Z=zs (p::ns)++EW:=by{rw[e];show(v p::a)++[]++EW=_;rw[qJ,<-a7];rfl};rw[dO h g (aAE E),g5 [] ai gW,bcT,aZ]};{rw[g7]at b4;rw[bbX,bbY];subst g5 i2 e7;rw[dl p (pn z)];subst g7;have E:zs Z=zs (p::(ns++fh::W))++EW:=by{rw[e];show(v p::a)++((v vR::J)++[])++EW=_;rw[qJ,<-a7,<-c4,UQ];show _=zs ((p::ns)++fh::W)++_;rw[a0q];rfl};rw[dO h g (aAE E),g5 W ab (J (Yz)),bcT,cX]}
universe GM
namespace GA
open PySem PySem.Spec PyProof.Rows L2
theorem aAF{I d:Type}{F G:qk}{l:ba}{m:nG}(h:l a b (b∈m) (F a b) (G a b))(q:f0 F):f0 G:=by induction q with|nil=>{rw[kL]}|cons J t i=>rw[cA (h _ _ zX J) (i (fun a b m=>h a b (mw m)))]
theorem RecAt.told{u CR:Addr}{H L:Hp}{J:Addr}{R:GM.bT}{g ls t:Addr}{zs:aT}(h:ni)(Y:xR)(c6:a_E)(n1:t≠g)(n2:t≠ls)(s:fK [t]):AV:=by rw[dZ c4 mV,Q5,JZ];have h7:oH [t] H:=qQ ah;have d6:∀{I:Type}{c:kh}(_:j v x (c H v x) (∃a,v=bc)){l:Addr}{O:ba},dB c H l O->O≠[]->l∉[t]:=fun{I c}hR{l O}⟨d7,e,C⟩ne=>mN (l≠t) (J (by rw[rq,a6 c6];injection e with e;injection e with e;rw[bY];cases O with|nil=>{exact ne rfl}|cons x O=>cases zs with|nil=>{rw[nU]}|cons z zs=>cases C with|cons a b=>obtain⟨B,d0⟩:=hR _ _ a;cases d0));rw[KJ (mN (b≠t) (qq e c6 (n _)))];exact aV (sm q aQ) (ax n1.symm) (aAF (fun x D mem z=>by rw[Cu z,baV];obtain⟨_,_,z1,h6,k7,_⟩:=(Y.Ls D mem).Gs;exact c_ (sm M aQ) (fu d.p z1 z1) (fu d.l h6 h6) (fu d.m k7 k7)) e9) (ax aEX) (aAF (fun x y mem z=>by have F:=aiF y mem;have c3:=s.ts h7;cases y with|lead row m=>{rw[KV k];exact a a i7 b8 e Zz (l.sb dj s h7 (nP l (by have:=F.1.1;rw[am z,ui]))) (lM c3 k) a3}|erase i j=>{rw[ih z Zz]}|move k p=>{rw[w pv e q J z];exact a a pv e Zz (hH c3 J)}|mark i m=>{rw[w b8 e q J z];exact a a b8 e Zz (lM c3 J)}|drop k=>rw[ih z Zz]) f6)
theorem G0.told{u CR A:Addr}{H L:Hp}{k t:Addr}{o:Pz}{N:bg}{zs:aT}(h:or H)(c6:a_E)(n:t∉N)(s:fK [t]):or L:=by rw[KJ cq];cases o with|none=>{rw[aKY];exact ai dx (sm e cq)}|some R=>rw[no dx e];exact mr (sm e aQ) (hR.told Y c6 aG' aG' s)
theorem a0w{x:GlaKeeps.Call}{p:Nat}{ns d:ao}(h:GM.Mb x p ns d):aAh x p ns d:=by cases x<;>rw[aa (Int.ofNat_inj.mp h.1) h.2.1 h.2.2]
theorem a0x{p a b:Nat}(h:DV (v p)=aa rK):fa auW (.inl (v p))=aa (vn a)/\By jN aK1=ar b 1:=by have O:biq:=by{rw[a4 DV];by_cases z:biq;rw[l z];{(repeat rw[iW (by(intro;lia))]);rw[cG]}};rcases O with rfl|rfl|rfl|rfl|rfl|rfl|rfl|rfl|rfl|rfl|rfl|rfl|rfl<;>(rw[sK xB])
inductive agC(K:Fg)(vs:af)(H:Hp)(Q:VK)(E:XK):Prop|mk:∀(l:Addr)(a3:ao),e [cB] (h7 aGZ) (zV<=30000) (aFA (akA a3)=ab) ((j F L (aj F (B ami cp)) Jz)->agC K vs H Q E)
section z
theorem aAG:a55 P w aj 16 (agC K):=by refine T.answers.go aUb aL;generalize aG=e3,aA=A,aF=outer,aE=s,aD=H,aB=vs,aH=Q,aI=E;rw[aN,M fP,aX,bV l a3,av a5 c9 b3 B,Bm];obtain⟨cs,r,X,D,f6⟩:=GM.a0s b3;rw[ca (L tu (arc T.T5.h (bN a0d a_) (ag6 ay) rfl T.aVt T.T5.b .nil fp) (bU 2 tu AQ) (i 3 tu bE (FX NR (dZ lq bb nB) (i 4 tu (eC bb) (bU 5 tu (cR (hp bb) (aS3 T.aVo bR lO))) (i 6 tu (k9 (hp bb) cI) (bU 7 tu AQ) (i 3 tu cI (ai a_d bR (GT T.aVe) (bU 3 tu (cR (hp cI) (eC cI))) (bU 7 tu (k9 (hp cI) bb))) (i 8 tu (jk aq DU T.T6.h (ez a0m) a6 T.T6.b .nil fp (yR bR eu ke)) (dD aw (dN kf)) (fE (ez aw kf))))))) (de aw)))];intro k dx e1 k6 g4;rw[y k dx ak gJ,aj s0 (upd ZP k QU) (afz e1 k6 g4)];have f5:E ZP k (aC hI []) k QU=upd ZP k QU:=yp;rw[e l7 ZP k QU k QU];rw[f5];rw[m ZP k QU i s0 l7,v (by show a1 0;simp) (fun t h7=>?_)];have a4:=aEU (ac [] h7);have I:=b_ (o:=al4) h7 _ _ l7;rw[a d5 i t [] t []];have g8:Y t:=s0.free h7;rw[cj g9 t k,f i t [] a8 a4 I d5,ak (qK (∃(f:Nat)(cs:bL fA)(o:Pz)(N:bg)(h8:aT)(b1 i1 j5 j3 i9:jK),m=aiV/\M=[tP,ac k,ac t,bE f,b1,i1,j5,j3,i9]/\f<=zV/\akA (zW f)=EW/\z (V c cs aKs) bQ (G0 bJ dJ hI L k o N) (V b N gp) (aj t (aku cp)/\t∉N/\ami=h8++u2 (tk aky)))) (a _ 0 cs ae [k] [] ae ae (f ae ae ae rfl cS r X (c a4 (ai dx I) (k4 (t (show b=k by simpa using m) e1)) d5 (ax g9) D)))];clear r X D I d5 a4 l7 s0 f5 cs;rintro m M L⟨f,cs,o,N,h8,b1,i1,j5,j3,i9,rfl,rfl,c2,r,X,J,a7,hN,c6,e6,D⟩;rw[n7 aG0,kj];{rw[eA C (f<zV) c,ca aaO];cases cs with|nil=>{exfalso;rw[ik r,bX GM.UQ sL];have:zV-f=0:=this;exact yn this.l C (aS zV f)}|cons cc cs=>obtain⟨h1,ask⟩:=X cc (fu ..);obtain⟨x,p,ns,W,b,n,S,a0,h2,U,v,h3⟩:=GM.a0v h1 ask r;obtain⟨f9,sw⟩:=a0x h2;rw[cz e5 f p v,r l jN aG0 (dX (j:=f) (p7 e5)) ?_,y (.inl (v p)) (vn zh) f9 ?_];have dl:zW f=p::(ns++aI_++n):=by{trivial};have c5:zW (f+1)=ns++(aI_++n):=by{rw[<-HP,dl];exact du _ _ _};have c7:zW m_=aI_++n:=by{rw[<-HP,c5,aif]};have b4:v f+1+v zh=Qe:=by{rfl};have b9:v f+1=ae (f+1):=by{rfl};delta FY;dsimp only;rw[b4];rw[dh aG0 JX];have h4:jl aGZ (oF f) (aa Qe)=je:=by{rw[b9,UO,c5,a0 (m_-(f+1)) zh (a54 ..),aih]};rw[h4];rw[T a4 L (U L d je) nd,ar d2 L je je,i L d je b7 a4 d2,v (by show a1 0;exact cS) (fun c4 Y=>?_),P b5 L (U b7 c4 []) (lt Y),a q2 b7 c4 [] c4 [],i d6 b7 c4 [] d je Y d2,f b7 c4 [] d4 b5 q2 d6];intro j k4;refine f j _ (.inr k4) (ai rfl ?_);rw[i6 (By jN aK1)];rw[sw];refine fF (fun d1=>?r1) (fun d1=>?r2);(case' r1=>have h5:b=ab:=by{cases b with|true=>{rfl}|false=>simp at d1};subst h5;have c7:zW m_=fh::(W++n):=c7;rw[cz g7 m_ fh c7];have a9:zW (m_+1)=W++n:=by{rw[<-HP,c7];rfl};have b8:zW aap=n:=by{rw[<-HP,a9,aif]};rw[cA h6 fh a9 (cf CN (qL zV (m_+1))),r l (vn fh) (op (akB b5)) (dX (j:=m_) (p7 g7)) ?_];have e7:Qe+1+v fh=ae aap:=by{lia};have g5:Qe+1=ae (m_+1):=by{lia};rw[j4 3 (cp (Qe+1+v fh))];rw[e7];rw[dh (op (akB b5)) aJL];have h9:jl aGZ (aa (Qe+1)) (aa (ae aap))=P5:=by{rw[g5,UO,a9,a0 (aap-(m_+1)) fh (a54 ..),aih]};rw[h9];rw[P d9 L (U d4 c0 P5) (fg (b_ c1)),a i6 d4 c0 P5 c0 P5,i e2 d4 c0 P5 d je c1 d6,f d4 c0 P5 e4 d9 i6 e2,Go aap];rw[<-Z]at b8;rw[<-Z];have d7:b6<=zV:=by rw[iS (bx g7),ik a9,bX sL cj];exact hn Z.l (aR lt) CN);(case' r2=>have d0:b=ai:=by{cases b with|false=>{rfl}|true=>simp at d1};rw[xM];have q:W=[]:=U rfl;rw[e_];have b8:zW m_=n:=c7;have h6:([]:ao).length<=zV:=cS;rw[cA d7 m_ c5 (RL (aR C) CN)];obtain⟨e4,d9,i6,e2,b0⟩:I z (cY L z) (b5 (z c4) (ii ([]:ao))) (b5 (z d) je/\z=d4):=a d4 b5 q2 d6 rfl;rw[<-b0];obtain⟨c0,G⟩:∃z,z=c4:=ei;rw[<-G]at i6;rw[<-G];rw[Go m_];rw[<-Z]at b8 d7;rw[<-Z]);all_goals obtain⟨f7,i0,i5,c3⟩:=(a7.mono d9).k;have d3:=a7.mono d9;have i2:aiL (tk aky) cc=zU o x:=GM.aSB o S;have e8:ami=h8++((v aGO::OW)++u2 (zU o x).1):=by{rw[D,<-i2];rfl};have d8:h8.length+(1+aGO)<=10000000:=by{rw[ik e8];rw[cj,cj,ia]at this;exact cf CN f6};rw[c k i0 c3 EC k o (a N x p ns _ d c0 rfl (a d3 (a0w a0) e2 i6 bM (f8 d8) (fun F g6 g l8 sb O a i3 y k8=>?_)))];have c8:=fG c6;have e0:=sb _ _ c8 e6;rw[r i4 t F O c8 c8];have e9:t∉l8:=bo (cb (k8 t m) e6 (J (by rw[c8]at z;cases z)));rw[c (dp e0) F (cc a) t _ _ (ax rfl e0 (t bA (cf d8 fw)) ?_),c (dp ak) t F _ _ rfl ak (aJ (Y i4.symm a) (by rw[cj,bA,bA];show h8.length+1+_<=_;exact cf d8 fw))];have R:SB [t] g6 (U (aV g6 t (aku cp) (g0 (t (hD OW)))) t (aku cp++[g0 (t (hD OW))]++hD OW)):=(hm eg aQ).put aQ;rw[b aiV jR b6 cs g l8 (h8++(v aGO::OW)) _ (m _ _ d7 (t b8 h3) (a (fun c m=>X c (ck m)) ?_ (i3.told e0 e9 R) ?_ ?_ e9 ?_))];{intro b2 u e;have n1:b2∉N:=bo (CT (hN b2 m));have n2:b2∉[t]:=by{have:b2≠t:=J (by rw[b2 g8 e,dS]);rw[gf]};exact R _ _ (sb _ _ ((akB d9) _ _ e) n1) n2};{intro b2 m;rw[cY (k8 b2 m),l (hN b2 z),l (eU (akB d9) z)]};rw[l3 ak];{rw[e8,y,du]}};{have C:zW f=[]:=by{simp at c;simpa using c};rw[C]at r;have:=GM.a0t X r.symm;rw[gm,R D ami h8 D (qJ _)];rw[<-D]at c6;exact(B t L c6)}
universe z
universe GA
section z
set_option tactic.hygienic true
namespace GA
open PySem PySem.Spec PyProof.Rows L2
theorem aAH{K:Fg}{O:af}{H:Hp}{Q:VK}{E:XK}(h:LC K O H Q E):agC K O H Q E:=by rw[w r b S c2 h];cases S with|cons a3 a9=>cases a9;cases a3 with|lst c0 b3=>have e:=L2.avc a.1 _ b3;rw[bY];have q:dj (PySem.W.Codec.inLen 0 30000 a.1&&a.1.all (PySem.W.Codec.inInt 0 8589934591)) ab:=r;rw[hZ,hZ]at q;have k0:akA aJe=a.1:=by{unfold GM.zs;rw[jw];rw[ut a.1,jL an8];have:=Wa q.1.2 z c9;have:=(PySem.W.Codec.inInt_iff.mp this).1;show ae akz=z;omega};have c:hD a.1=bh aJe:=by{conv=>{lhs;rw[<-k0]};unfold GM.zs;rw[jw];rfl};rw[c]at c0;rw[y _ aJe c0 (v (t bA (PySem.W.Codec.inNat_iff.mp q.1.1).2) (t k0 b) (fun F L z=>c2 _ _ ?_))];rw[k0]at z;exact .lst (L2.fW.of z) (L2.avb _)
theorem a0y(a:Zt):aMQ:=by apply qF;intro n;have z:= @a0N Zt (fw (¬aMQ)) ⟨a,n⟩;have o:a55 P w aj 16 (LC K):=⟨fun vs H Q E h=>aAG.len vs H Q E (aAH h),fun A ez s H i b1 vs Q E a6 U J S h=>aAG.run A ez s H i b1 vs Q E a6 U J S (aAH h)⟩;exact z (yQ o)
theorem fin{P:Program}{w:World}{K:Fg}{mg:dM}{t:Addr}(e:aaL)(G:Bl)(A:fK "answers" t):∃fd:FuncData,(nN (ly=(alY:cW).length) ((alY:cW).zip b1))/\∀base:iL,vK aj->alH->am 16 t fd alY (LC K):=by rw[ci (A.symm.trans (aMk).m)];injection q with q;injection q with q;rw[e_];obtain⟨D,m,kV,p,b3,j,e3,ct,z,c9,_⟩:=(aMk).F.ex;rw[aa (aMk).fd (fun s b1 hu=>?_) (fun aj _ _=>a0y (a P w K mg aj e G))];rw[c9];revert b1;exact sx (au (.of_eq rfl))
universe GA
universe z
section z
set_option tactic.hygienic true
open PySem PySem.W PyProof.Rows
theorem HX.walk{q:Program}{j:cW}{m:aHB}{J:OpenSpec}{d:DefRec}{a:mt aFB}{run:cR->aM->XQ}{G:cu Frag}(h:E K (G K) (K2 uh)):K2 (∃K:Frag,uh/\G K):=fun w s0 a4 mg D g⟨K,i,e⟩=>h K e w s0 a4 mg D g i
theorem HX.bjO:PySem.Challenge.rw_glassrecord_s01_answers.Holds:=by refine holds_os (XP:=XL HX.q3 []) (YP:=fun _ h=>HX.YH h) HX.lft (sR (of_eq_true e)) (fun _ _ _⟨K,i,e⟩k=>v K (Frag.In.keeps i k) e) (fun s e=>xl_of s (DW e).1) XL.keeps bI bI bI (fun s e=>recFacts_of (DW e).2) os_shapes HX.ws HX.co HX.br HX.xa ?_;refine HX.walk (fun K e=>L2.aUK (k:=16) (T:=L2.sf) (c5:=alY) (e8:=GA.LC) (K:=au K) HX.ws rfl rfl (ai ay ay) (fun w h c=>c) (fun w mg t h c X G m=>GA.fin e (fun x v a=>match v with|some _=>mg_of X G a|none=>mg_none_of X G a) m) (fun K H O a _ i k x=>a a i k x (vM z)) (fun _ _ _ _ z=>z))
universe z
end
theorem PySem.Challenge.cw_glassrecord_s01_answers_holds : PySem.Challenge.rw_glassrecord_s01_answers.Holds := by
 exact HX.bjO
