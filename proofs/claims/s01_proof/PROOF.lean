import PyProof.Rows.All
import KE.OsHead
import KE.OsGo
import Open.SpecLaws
import PyProof.SetKind
import Wide.All
import OpenK.AllK
import Wide.FinOn
import PyProof.EqAt
import PyProof.EqKinds
import PyProof.TupleCall
import KE.BitLaws
import KE.KSortTupG
import PySem.SetTable
import PySem.Sem
import PyProof.DictKeyH
import PyProof.TupleKey
import PyProof.IsRules
import PyProof.DictKinds
import PyProof.Rows.SetFrom
import PyProof.CollectIter
import KE.KDictList
import KE.KItemsList
import PyProof.ZipIter
import PyProof.EnumIter
import PyProof.ListNew
import PyProof.P3Eq
import PyProof.Rows.CallKwBuiltin
import PyProof.DictTruth
import KE.KMinBuiltin
import PyFlatLaws
import PySem.Challenge.RW_glassrecord_s01_answers
set_option compiler.extract_closed false
set_option Elab.async false
set_option linter.all false
set_option maxRecDepth 100000
set_option maxHeartbeats 0
set_option tactic.hygienic false
set_option genInjectivity false
set_option genSizeOf false
@[elab_as_elim] theorem rwE{α:Sort u}{b:α}{p:α→Prop}{a:α}(h:a=b)(e:p b):p a:=h▸e
@[elab_as_elim] theorem rwF{α:Sort u}{a:α}{p:α→Prop}{b:α}(h:a=b)(e:p a):p b:=h▸e
theorem aua(h:True:=by as_aux_lemma=>simp +arith only):True:=h
theorem aub(h:True:=by as_aux_lemma=>simp +arith):True:=h
theorem auc(h:True:=by decide):True:=h
theorem aud(h:True:=by first|exact .inl rfl|exact .inr rfl|exact .inr (.inl rfl)|exact .inr (.inr rfl)|assumption):True:=h
theorem aue(h:True:=by rfl):True:=h
theorem auf(h:True:=by first|exact(rfl:_=K)|exact(rfl:_=w)|exact(rfl:_=P)):True:=h
theorem aug(h:True:=by intro _;rfl):True:=h
theorem auh(h:True:=by with_unfolding_all rfl):True:=h
theorem aui(h:True:=by intros;rfl):True:=h
theorem auk(h:True:=by first|exact nobehind _ (by decide) (by decide)|rfl):True:=h
theorem aul(h:True:=by exact PassesOwn.never):True:=h
theorem aum(h:True:=by first|{exact nomark _}|rfl):True:=h
theorem aun(h:True:=by intro _ _;rfl):True:=h
theorem aus(h:True:=by(intro _ _ _ _ h;cases h;refine Eq.trans (congrArg List.length (by assumption)) ?_;rfl)):True:=h
open Lean in
local macro_rules|`(mutual $cs* end)=>do
  let c:=cs.map (·.raw)
  if !c[0]![1].isOfKind `Lean.Parser.Command.example then Macro.throwUnsupported
  let L:=c[1]![1][2][1][1][0][0][0][3]
  let rec ex(T:NameMap Syntax):Nat→Syntax→Syntax
    |n+1,.node _ k a=>
      match if k==`Lean.Parser.Term.app then T.find? (.num a[0]!.getId a[1]!.getNumArgs) else none with
      |some f=>ex ((f[0].getArgs.zip a[1]!.getArgs).foldl (fun m p=>m.insert (.num p.1.getId 0) (ex T n p.2)) {}) n f[2][2]
      |_=>
        let s:=Syntax.node .none k (a.map (ex T n))
        let l:=s[1].getArgs.back?.getD s
        let tm(x:Name)(y:Syntax):Syntax:=((T.find? (.num x 1)).map fun f=>(ex (({}:NameMap Syntax).insert (.num `a 0) y) n f[2][2])[1]).getD s
        let l:=if l.isOfKind `Lean.Parser.Term.paren then l[1] else l
        if k==`Lean.Parser.Tactic.rwSeq&&(s[2][1][0][1].isOfKind `Lean.Parser.Term.byTactic) then mkNullNode (s[2][1].getSepArgs.map (·[1][1]))
        else if k==`Lean.Parser.Tactic.rwSeq&&s[3].getNumArgs==0 then .node .none `Lean.Parser.Tactic.first #[s,mkNullNode #[mkNullNode #[s,mkNullNode ((s[2][1].getSepArgs.map fun r=>tm (if r[0].getNumArgs==0 then `zzA else `zzB) r[1]).push (tm `zzC s))],mkNullNode #[s,s.setArg 3 L]]]
        else if k==`Lean.Parser.Tactic.cases&&s[1].getNumArgs==1&&s[1][0][1].isIdent&&s[3].getNumArgs==0 then tm `zzD s[1][0][1]
        else if k==`Lean.Parser.Term.anonymousCtor&&l.isOfKind k then s.setArg 1 (mkNullNode (s[1].getArgs.pop++l[1].getArgs))
        else if k==`Lean.Parser.Command.universe then .node .none `Lean.Parser.Command.end #[.atom .none "end",mkNullNode #[s[1][0],mkNullNode]]
        else s
    |_,s=>(T.find? (.num s.getId 0)).getD (s.setInfo .none)
  let T:=c[0]![1][2][1][2][0].getSepArgs.foldl (fun m f=>m.insert (.num f[0][0].getId f[1][0].getNumArgs) (let b:=ex m 9999 f[1];if b[0].getNumArgs==0 then b[2][2] else b)) {}
  return mkNullNode ((c.extract 2 c.size).map (ex T 9999))
mutual
example:={
zzA a:=by first|refine rwE (a ..) ?_|rewrite[a]at ⊢
zzB a:=by first|refine rwF (a ..) ?_|rewrite[<-a]at ⊢
zzC a:=by try with_reducible rfl
zzD a:=by first|subst a|(injection a;done)|(injection a with zzE;subst zzE)|(injection a with zzE zzF;subst zzE;subst zzF)|cases (a)
aa:=some
ab:=true
ae:=none
ah:=false
aj:=base
au:=fW.of
aw:=Stmt
aI:=pins
aJ:=if_pos
aL:=r.pts.length
aO:=s.heap.objs.size
bh:=s.heap
bj:=if_neg
bp:=r.pt
bx:=O.length
bA:=List.length_map
bE:=wpAny_bind
bG:=linesOf
bI:=T.bjH
bK:=List
bM:=List.mem_of_getElem?
bX:=r.lines
bY:=Option
cb:=Bool
cg:=wpAny_pure
cj:=List.length_append
ck:=a7.size
cn:=Nat.le_trans
cp:=V.int
cv:=decide
cw:=b.length
cx:=va.of
cy:=absurd
cz:=List.getElem?_map
cA:=mask
cE:=False
cF:=X.env
cG:=SB.of
cN:=prog
cR:=Value
cZ:=Option.some.inj
c_:=List.map_cons
da:=List.getElem?_eq_getElem
dd:=r.pts
de:=D.pts.length
df:=t.mask
dm:=Value.ref
dq:=T.bjO
dv:=List.append_assoc
dw:=B.idxOf
dD:=Paired
dE:=s.toks
dH:=decide_eq_true
dI:=path
dJ:=T.bjW
dQ:=r.lines.length
dR:=r.marks
dS:=T.bjI
eb:=l.length
ec:=decide_eq_false
ed:=Y.lt
ee:=s.cnt
eh:=Addr
eo:=keep
er:=I.dt
es:=Nat.mod_eq_of_lt
ey:=Nat.le_of_lt
ez:=autoParam
eA:=outer
eB:=X.prog
eC:=B.length
eD:=c.toNat
eJ:=Nonempty
eK:=List.range
eL:=s.aP
eM:=m.at_
eN:=Y.length
eS:=List.length_take
eT:=ar.toArray
eU:=pure
eV:=turn
eW:=Int.le_of_lt
fe:=wpAny
ff:=Nat.lt_of_le_of_lt
fg:=List.map_append
fh:=row.length
fi:=b5.trans
fj:=W.length
fv:=Array
fw:=Heap.lt_size
fx:=List.mem_cons_self
fy:=f3.g
fJ:=Nat.lt_of_lt_of_le
fK:=List.mem_map
fL:=Z.length
fM:=r.marks.length
fY:=a4.heap.objs.size
fZ:=trivial
f_:=J.st
gb:=Z.lt
gc:=R.cur
gd:=a4.trans
gf:=T.bjL
gg:=c.length
gh:=h.mono
gB:=String
gC:=congrArg
gD:=True
gE:=o.data
gF:=Nat.ne_of_lt
gG:=cLine
gH:=R.lines
gI:=Gla.le
gJ:=T.bjP
gK:=T.bjX
gS:=RelV
gU:=h'.get?
gV:=V.ref
gW:=D.marks
gX:=D.lines
gY:=a4.free
hv:=w.params
hx:=Ne.symm
hy:=Sum.inl
hC:=sizeLine
hD:=List.getElem?_append_left
hF:=List.mem_append
hH:=List.mem_cons
hI:=Int.mul_pos
hJ:=Z.ok
hK:=dk.go
hL:=T.bjZ
ia:=F.length
ib:=Bool.and_eq_true
ic:=List.mem_cons.mp
ie:=List.length_cons
ig:=List.getElem_of_mem
ih:=Pt.below
ij:=A.length
ik:=r.near
il:=m.at_.y
ip:=m.at_.x
iq:=Nat.lt_or_ge
ir:=s.trans
iu:=O.size
iO:=Heap
iP:=Nat.lt_irrefl
iQ:=Vals
iR:=Bool.eq_iff_iff
iS:=vs.length
iT:=N.length
iU:=Int.toNat_natCast
iV:=if_false
iW:=decide_eq_true_eq
iX:=N.lay
iY:=r.lines.filter
iZ:=inOrder
i_:=p.more
ja:=aTP.nd
jv:=Nat.lt_trans
jw:=slot
jx:=model
jy:=PyData.eqv
jz:=List.map_map
jA:=m.glass
jC:=HEAD
jH:=n.toNat
jI:=T.bjN
jJ:=Gla.within
jK:=GM.aY'
kA:=l.map
kB:=c5.length
kC:=A.in1
kD:=lineBelow
kE:=m.painting
kF:=T.bjM
kG:=runEnd
lD:=b1.length
lE:=Heap.size_push
lF:=f.size
lG:=s.TypeIs
lH:=parts
lI:=R.ss.length
lJ:=Prod.mk.inj
lK:=T.bjT
lL:=D.pts
lM:=D.lines.length
lN:=Array.getElem?_eq_getElem
lO:=t.place
lP:=c0.length
lQ:=a7.toList
lR:=jt.go
lS:=d8.take
mG:=h.objs.size
mH:=c1.heap
mI:=D.nx
mJ:=X.mg
mK:=s.heap.push
mL:=d.names
mM:=if_true
mO:=HT.lexLt
mP:=a.length
mQ:=putK
mR:=Int.lt_or_le
mS:=Nat.le_antisymm
mT:=T.hi
mU:=T.lo
mV:=markBelow
mW:=within
mX:=R.ss
mY:=h.at_
mZ:=f9.trans
m_:=d9.trans
nf:=c8.trans
ng:=GM.Ce
oP:=World
oQ:=l.drop
oR:=X.env.locals
oS:=X.stack
oT:=X.xe
oU:=PySem.mem_of_lookup
oV:=Nat.min_le_right
oW:=d7.length
oX:=List.not_mem_nil
oY:=List.find?_cons
oZ:=d.length
o_:=top2
pa:=s.row
pb:=l.Pairwise
pd:=r.lab'
pe:=J.inv
pf:=List.pairwise_cons
ph:=p.below
pj:=List.getElem?_append_right
pq:=List.flatMap_cons
ps:=made
pw:=B.pts
pz:=R.cs
pA:=bT.gr
pB:=GM.Th
pC:=Array.getElem?_toList
pD:=D.lines.take
pE:=aT0.nd
qM:=Nat.le_of_eq
qN:=Classical.byContradiction
qO:=p.isList
qP:=List.mem_append_right
qQ:=List.append_nil
qR:=wpAny_call_entry
qS:=Nat.sub_le
qT:=List.forIn_cons
qU:=Nat.lt_or_eq_of_le
qV:=Nat.min_eq_left
qW:=List.pairwise_append
qX:=Z.sgn
qY:=d.len
qZ:=List.mem_of_mem_take
q_:=writePlan
rd:=GlaKeeps.ptOk
rf:=Gla.ptBytes
rg:=D.marks.length
rh:=e9.length
ri:=t.place.size
rj:=g.map
rk:=IsPair
rl:=aTZ.nd
rm:=T.bjU
sQ:=Prod.ext
sR:=List.length_drop
sS:=X.base
sT:=s.gens
sU:=I.ok.kind
sV:=I.list
sW:=A.units
sX:=List.getElem?_take_of_lt
sY:=IntsAre
sZ:=c8.heap.objs.size
s_:=merge
ta:=r.hN
tb:=r.row
tc:=Int.mul_nonneg
td:=Walk
te:=List.getElem_mem
tf:=half
tg:=arrOf
th:=r.outlines
tj:=below
tk:=List.any_eq_true
tl:=B.drawn
tm:=firstBad
tn:=marks
tp:=R.gr.first
tq:=o.map
tr:=leap
tu:=n.trans
tv:=gA.go
tw:=cY.refl
tx:=GM.linesOf
tA:=Gla.markBelow
tD:=aUu.nd
vM:=Shared
vN:=K.lookup
vO:=Value.bool
vP:=List.mem_filter.mp
vQ:=K.In
vR:=a.names.lookup
vS:=X.fs
vT:=I.loc
vU:=List.mem_append_left
vV:=bootBuiltins
vW:=wpAny_truthy_bool
vX:=J.length
vY:=I.Kz
vZ:=wpAny_holding
v_:=Nat.ne_of_gt
wd:=rawInt
we:=o.cls
wg:=sizeLine_eq
wh:=wpAny_mono
wj:=ar.toArray.size
wk:=Nat.lt_succ_of_lt
wm:=DecidableEq
wo:=z.symm
wq:=wpAny_specialOf
wt:=a6.units
wu:=Y.lo
wy:=s.side
wz:=Y.hi
wA:=J.lb
wB:=isOn
wC:=Z.below
wD:=Nat.min_le_left
wF:=T.le
wG:=Plan.outlines
wH:=List.idxOf_lt_length_of_mem
wI:=R.trans
wJ:=twice
wK:=ns.map
wL:=Fits
wM:=List.getElem?_range
wN:=F.marks
wO:=judgePlan
wQ:=p.length
wR:=Y.dl
wU:=R.gr
wV:=GlaKeeps.asked
wW:=b.map
wX:=ls.length
wY:=hr.mk
wZ:=GM.sx
w_:=N.lst
xb:=GM.yU
xc:=D.pt
xf:=d6.trans
xg:=KeepNeutral.nat
zi:=Option.map_eq_some_iff.mp
zj:=Nat.le_of_not_lt
zk:=h.get?
zl:=I.bare
zm:=s.drawn
zo:=I.dt.fresh
zp:=getItem
zq:=d5.isList
zr:=ns.length
zt:=cellsFrom
zu:=lexLt
zv:=Bool.false_ne_true
zw:=List.map_nil
zx:=X.A.units
zy:=List.mem_map.mp
zz:=atKey
zA:=l.Nodup
zB:=l.filter
zC:=Gla.crosses
zD:=q.symm
zE:=Nat.sub_self
zF:=first
zG:=List.takeWhile_append_dropWhile
zH:=Y.below
zI:=List.getElem?_eq_none
zJ:=readSteps
zK:=GlaKeeps.long
zL:=s.seq
zM:=J.args
zN:=GM.iK
zO:=h1.trans
zP:=List.flatMap_append
zQ:=lexLe
zR:=GM.eQ
zS:=t.advance
zT:=t.slot
zU:=t.place.toList
zV:=T.ok
zW:=d.is
zX:=wpAny_letGo
zY:=aTT.nd
zZ:=GM.Lay
z_:=d0.trans
Aa:=T.bjS
Ab:=Gla.SAVED
Ac:=GM.dst
Ad:=Bool.and_eq_true_iff.mp
Ae:=a3.length
Af:=a3.drop
CI:=Prod.mk.injEq
CJ:=of_decide_eq_true
CK:=Gla.Step
CL:=Value.none
CM:=X.ex
CN:=mainGlobals
CO:=s.os
CP:=I.cell
CQ:=I.tuple
CS:=rv.length
CT:=h.IsListIter
CU:=r.list
CV:=V.bl
CW:=True.intro
CX:=e.symm
CY:=kindOf
CZ:=this.g
C_:=Heap.get?_update_self
Dc:=HT.yG
Dd:=I.laid
De:=s.heap.IsList
Df:=PyData
Dg:=Bool.false_eq_true
Dh:=valueAt
Di:=K.map
Dj:=Nat.min_eq_right
Dk:=J.bju
Dl:=aQX.mpr
Dm:=Z.km
Dn:=Int.mul_neg_of_neg_of_pos
Dq:=sooner
Dr:=clear
Ds:=List.map_take
Dt:=List.map_drop
Du:=or_false
Dv:=bump
Dx:=last
Dy:=noneSeen
Dz:=f.length
DA:=List.take_append_drop
DB:=List.getElem?_drop
DD:=touches
DE:=c.map
DF:=C.lay
DG:=ptPlace
DH:=taken
DI:=Y.cur
DJ:=List.take_of_length_le
DK:=l.heap
DL:=GM.h_
DM:=Gla.parts
DN:=GM.Fits
DO:=Gla.lineBelow
DP:=D.near
DQ:=hashAt
DR:=List.filter_append
DS:=g.getD
DT:=pre.length
DU:=t.led
DV:=List.take_succ
DW:=wpAny_setField_rec
DX:=B.drop
DY:=aTU.nd
DZ:=T.bjQ
D_:=s0.cnt
Ea:=GM.di
Eb:=GM.yK
Ec:=Gla.endsAt
Ed:=T.bjY
Ee:=T.bj0
Ef:=PyYqglha.shape
G_:=SharedT
Ha:=s.abs
Hb:=Str.ofString
Hc:=Nat.lt_of_not_le
Hd:=l.take
He:=Gla.Mark
Hf:=O.drop
Hg:=O.map
Hh:=X.F0.heap.objs.size
Hi:=AllBare
Hj:=List.filterMap_cons
Hk:=I.free
Hl:=I.len
Hm:=s.heap.get?
Hn:=Heap.SameBut
Ho:=h.elim
Hq:=iter
Hr:=codeAny
Hs:=V.bC
Ht:=List.size_toArray
Hu:=Obj.mapSeq
Hv:=ar.length
Hw:=List.all_eq_true
Hx:=keys
Hy:=Decidable
Hz:=c1.aP
HA:=I.gap
HB:=r.aQH
HC:=I.aQF
HD:=r.bjs
HE:=Nat.max_eq_right
HF:=List.perm_ext_iff_of_nodup
HG:=Nat.add_zero
HH:=side
HI:=Nat.le_of_lt_succ
HJ:=Z.wx
HK:=Nat.le_max_right
HL:=passes
HM:=onLines
HN:=C.row
HP:=edgePts
HQ:=r.pts.contains
HR:=bjv.mp
HS:=d.same
HU:=firstAt
HV:=d8.map
HW:=Nat.pow_succ
HY:=Bytes
HZ:=List.drop_drop
H0:=numbered
H2:=r.drawn
H3:=C.marks
H4:=endsAt
H5:=take
H6:=Plan
H7:=readRecord
H8:=L2.St
H9:=List.take_length
H_:=T.bjK
Ia:=T.bjJ
Ib:=Gla.num
Ic:=Gla.markBytes
Ie:=Gla.MAGIC
Ig:=x.toNat
Ih:=j0.length
Ii:=GM.Cm
Ij:=p.perturb
Ik:=Probe
Il:=turns
Im:=bits
Io:=c3.g
Ip:=t.plain
Iq:=T.size
Ir:=Holds
Iu:=call
Iv:=List.mem_map_of_mem
Iw:=wpAny_nextOf_list_item
Iy:=sa.extBut
Iz:=IsList.at'
IA:=argBest
IB:=c8.extBut
IC:=a4.extBut
ID:=f6.isList
IE:=i9.trans
IF:=decide_eq_true_iff
IG:=Gla.edgePts
IH:=T.bjR
II:=GM.du
IJ:=G.getD
IK:=GM.vm
IL:=aTs.nd
IM:=GM.Lw
IP:=aT8.nd
IQ:=T.bjG
IS:=GM.auU
Mi:=Program
Mj:=List.lookup
Ml:=l.filterMap
Mm:=default
Mn:=a7.toList.map
Mo:=left
Mq:=Nat.sub_add_cancel
Mr:=Gla.Fault
Ms:=UInt8
Mt:=Value.type
Mu:=Paired.length
Mv:=IsTup
Mw:=X.outer
Mx:=I.ok.above
My:=I.step
Mz:=I.pin
MA:=List.getElem?_set_self
MB:=I.bjh
MC:=starEach
MD:=compareOp
ME:=ar.toList
MF:=ar.size
MG:=its'
MH:=swapsWith
MI:=pos.line
MJ:=I.kept
MK:=X.env.scope.names.lookup
ML:=pyIter
MM:=letOwnedTupleGo
MN:=step
MO:=PySem.W.emptyDict
MP:=c5.zip
MQ:=False.elim
MR:=codeAny_mono
MS:=start
MT:=d.names.lookup
MU:=List.length_nil
MV:=IsPart
MW:=intsAre_of
MX:=List.any_cons
MY:=List.all_cons
MZ:=Dp.reads
M0:=forIn
M1:=List.forIn_nil
M3:=List.length_set
M4:=wpAny_newObj_type
M5:=F.map
M6:=o.isSome
M7:=c1.side
M8:=Nat.le_total
M9:=I.bjt
M_:=I.dP
Na:=J.step
Nb:=Kept
Nc:=P.ret
Nd:=aQX.mp
Nf:=List.getElem_map
Ng:=q.below
Nh:=List.pairwise_iff_getElem.mp
Ni:=Int.mul_nonpos_of_nonneg_of_nonpos
Nj:=between
Nk:=List.mem_append.mp
Nl:=List.pairwise_map
Nm:=List.mem_filter
Nn:=N.lay.ok
Np:=r.outlines.length
Nq:=D.bjw
Nr:=T.Lk
Nt:=seen
Nu:=d.getD
Nv:=d.le
Nw:=f.set
Nx:=Plan.drawn
Ny:=List.contains_iff_mem.mp
Nz:=begun
NA:=runOf
NB:=r.among
NC:=d8.length
ND:=r.fault
NF:=numLe
NG:=l.flatMap
NH:=List.ext_getElem?
NI:=pairs
NJ:=List.mem_eraseDups.mp
NK:=row.filter
NL:=C.ord
NM:=r.panes
NN:=pts.length
NO:=r.pts.idxOf
NP:=Y.len
NQ:=R.ss.take
NR:=bT.add
NS:=onRecord
NT:=A.go
NU:=List.eq_nil_of_length_eq_zero
NV:=Codec.encAll
NW:=Gla.turn
NX:=PassesOwn.never
NY:=GM.aeS
NZ:=Gla.HEAD
N0:=Gla.writePlan
N1:=f6.length
N2:=g.length
N3:=aTS.nd
N4:=Y.mask
N5:=t.probeStart
N6:=insertAt
N7:=g.size
N8:=T.rise
N9:=Obj.putSet
N_:=List.mem_singleton
Oa:=codeAny_builtin
Ob:=sb.extBut
Oc:=h'.IsListIter
Od:=Y.map
Oe:=wpAny_Call_Name_kw
Of:=F.plain_min_loop
Og:=intItems
Oh:=f9.extBut
Oi:=and_true
Oj:=List.cons.injEq
Ol:=GM.Cj
Om:=T.bjV
Oo:=a9.GB
Oq:=vs.drop
Ot:=h.nt
Ou:=GM.Tt
Ov:=aUh.nd
Ow:=GM.bN
Ox:=T.bj1
Oy:=aTu.nd
UY:=Array.mk
UZ:=importedModules
U0:=PySem.W.Frag
U1:=FuncData
U2:=PySem.W.keepIn
U3:=R.prog
U4:=Int.ofNat_lt.mpr
U5:=Gla.Plan
U6:=Sum.inr
U7:=PySem.W.instObj
U8:=G.length
U9:=tupleKind
U_:=List.mem_filter.mpr
Va:=X.env.cells.lookup
Vb:=M.length
Vc:=I.ok
Vd:=GenState
Ve:=List.getElem?_set_ne
Vf:=c1.gens
Vg:=c1.os
Vh:=h.out
Vi:=Array.length_toList
Vj:=X.R6
Vk:=assign
Vl:=Builtin.Range.rangeSize
Vm:=auc._auto_1
Vn:=Nat.succ_le_succ
Vo:=G.lookup
Vp:=I.write
Vq:=J.append
Vr:=List.replicate
Vs:=vs.map
Vt:=PyProof.Rows.callWith_type1
Vu:=i.size
Vv:=i.toNat
Vw:=s.heap.update
Vx:=h'.objs.size
Vy:=t.toArray
Vz:=bs.map
VA:=Vals.bjp
VB:=NameKind.free
VC:=F.any
VD:=d.val
VE:=j.typeIs
VF:=Nat.le_sub_one_of_lt
VG:=DictEntry
VH:=Int.mul_le_mul_of_nonneg_left
VI:=Nat.max_eq_left
VJ:=Y.nd.filter
VL:=I.pos
VM:=C.mN
VN:=C.mE
VO:=d5.half
VP:=Nat.sub_pos_of_lt
VQ:=List.nodup_iff_pairwise_ne
VR:=P.pos
VS:=Nat.add_comm
VT:=q.trans
VU:=Int.mul_nonpos_of_nonpos_of_nonneg
VW:=z.below
VX:=Nat.pos_of_ne_zero
VY:=Nat.mod_lt
VZ:=E.length
V0:=spans
V1:=Z.nd.filter
V2:=List.pairwise_cons.mp
V3:=frameOk
V4:=Plan.round
V5:=List.mem_flatMap
V6:=List.mem_eraseDups
V7:=D.fin
V8:=D.head
V9:=T.sym
V_:=T.inj
Wa:=l.set
Wb:=Array.getD
Wc:=I.size
Wd:=z.size
We:=d.root
Wf:=d.found
Wg:=row.drop
Wh:=row.takeWhile
Wi:=List.all_eq_true.mp
Wj:=cuts
Wk:=r.nears
Wl:=Y.inj
Wm:=r.pts.take
Wn:=B.lines
Wo:=Bool.eq_false_iff.mpr
Wq:=List.contains_iff_mem
Wr:=Nat.le_max_left
Ws:=List.filter_congr
Wt:=l.Perm
Wu:=Mark
Wv:=Function.comp
Ww:=r.marks.map
Wx:=List.drop_eq_getElem_cons
Wy:=alongLine
Wz:=leftOf
WA:=markOk
WB:=size_eq
WC:=List.getD_eq_getElem?_getD
WD:=T.marks
WE:=R.add
WG:=Y.take
WH:=callerA
WI:=rw_glassrecord_s01_answers.args
WJ:=Gla.Pt.below
WK:=Gla.linePlace
WL:=b5.seq
WM:=aTz.nd
WN:=d9.free
WO:=c8.free
WQ:=T.bjF
WR:=HT.lexLe
WS:=Gla.firstBad
WT:=HT.vA
WU:=List.getElem_range
WV:=GM.Lj
WW:=List.nodup_range
WX:=cands
WY:=List.getElem?_eq_some_iff.mpr
WZ:=t'.mask
W0:=c3.l
W2:=I.val
W3:=B.toList
W4:=hashOf
W5:=c.size
W6:=Value.int
W7:=hG.mem
W8:=wpAny_of_eq
W9:=argsOk
W_:=wpAny_pyIter_slot
Xa:=wpAny_rule
Xb:=Builtin.SmallTypes.ownedTupleIsFree
Xc:=a.extBut
Xd:=wpAny_nextOf_list_end
Xe:=f.getD
Xf:=r.nd
Xg:=Gla.Pt.mk.injEq
Xh:=c.symm
Xi:=List.getElem?_eq_some_iff.mp
Xj:=List.range'
Xk:=GM.aSo
Xl:=B.drawn.length
Xm:=GM.Ck
Xn:=c.take
Xo:=GM.L6
Xp:=s0.row
Xq:=d5.at_
Xr:=aTN.nd
Xs:=r.pts.drop
Xu:=d5.sw.k
Xv:=GM.yQ
Xw:=W.take
Xx:=GM.yR
Xy:=c0.take
Xz:=GM.aeK
XA:=aT4.nd
XB:=GM.auq
XC:=aTQ.nd
XD:=dB.mono
XE:=Gla.inOrder
XF:=s.free
XG:=T.MARK
XH:=GM.Lz
XI:=a9.mono
XJ:=row.all
XM:=PyYqglha.answers
XN:=b5.extBut
agI:=Thread
agJ:=s.abs.heap
agK:=Params
agL:=List.lookup_cons
agM:=GA.aNe
agN:=R.prog.main.body
agO:=h.symm
agP:=Int.not_lt.mp
agQ:=Classical.choose
agR:=h.Ns1
agS:=Un.kept
agT:=env.kindOf
agU:=I.base.free
agV:=s.heap.FunFrames
agW:=I.ok.R1
agX:=I.os
agY:=isTrue
agZ:=aug._auto_1
ag0:=wpAny_execs_nil
ag1:=assignEach
ag2:=D.lp
ag3:=b5.heap
ag4:=Bool.false_and
ag5:=r.kept
ag6:=T.keep
ag7:=Bool.and_false
ag8:=attributeBase
ag9:=A.depth
ag_:=J.un
ag':=A.deeper
aha:=a6.mono
ahb:=bindL
ahc:=bindC
ahd:=J.get
ahe:=envOfC
ahf:=PySem.wpAny_ite_true
ahg:=Builtin.Slice.slicePlaces
ahh:=c6.typeIs
ahi:=subscripted
ahj:=r.dt.fresh
ahk:=call_meets
ahl:=Nat.le_succ_of_le
ahm:=List.range_succ_eq_map
ahn:=a5.isList
aho:=X.env.scope
ahp:=wipe
ahq:=pyNext
ahr:=c1.toks
ahs:=Bool.or_eq_true
aht:=List.cons_append
ahu:=storedH
ahv:=sysModules
ahw:=tupleKind_room_in1
ahx:=j.mapOf
ahy:=I.big
ahz:=a4.toks
ahA:=Int.ofNat_sub
ahB:=Turn
ahC:=aud._auto_1
ahD:=Int.mul_lt_mul_of_pos_left
ahE:=Z.map
ahF:=c1.cnt
ahG:=R.lines.filter
ahH:=h.trans
ahI:=F.last
ahJ:=F.zero
ahK:=f.snd
ahL:=e.snd
ahM:=Y.kle
ahN:=GM.rv
ahO:=Nat.mod_self
ahP:=X.rv
ahQ:=d5.inj
ahR:=List.pairwise_iff_getElem
ahS:=P.min
ahT:=Nat.sub_lt
ahU:=Nat.one_pos
ahV:=Flow
ahW:=Int.mul_neg_of_pos_of_neg
ahX:=Bool.true_and
ahY:=Eq.trans
ahZ:=List.mem_append.mpr
ah0:=List.nodup_append
ah1:=l.zip
ah2:=l.getLast?
ah3:=aQR.mpr
ah4:=chained
ah5:=fromLeast
ah6:=Nat.sub_zero
ah7:=N.conn
ah8:=N.start
ah9:=List.filter_cons_of_pos
ah_:=insideOf
ah':=DInv
aia:=D.seen
aib:=List.mem_of_mem_head?
aic:=T.aed
aid:=List.getElem_idxOf
aie:=I.base
aif:=spread
aih:=seenFrom
aii:=z.getD
aij:=d.get
aik:=row.take
ail:=List.head?_dropWhile_not
aim:=List.drop_left
ain:=List.take_left
aio:=row.dropWhile
aip:=Int.mul_eq_zero.mp
aiq:=Int.mul_nonneg_of_nonpos_of_nonpos
air:=hd.map
ais:=p.mem_iff.mp
ait:=l.eraseDups
aiu:=b.below
aiv:=Plan.fault
aiw:=a.at_
aix:=Nat.mul_comm
aiy:=List.drop_eq_nil_of_le
aiz:=MAGIC
aiA:=F.pts
aiB:=partedAt
aiC:=lines
aiD:=List.map_congr_left
aiE:=r.drawn.flatMap
aiF:=List.eraseIdx_sublist
aiG:=List.length_filter_le
aiH:=Clean
aiI:=d8.Perm
aiJ:=Y.get
aiK:=after
aiL:=Y.fit
aiM:=R.gr.done
aiN:=stepSize
aiO:=UInt8.ofNat
aiP:=Gla.bare
aiQ:=asked
aiR:=KeepNeutral.step
aiS:=List.filterMap_append
aiT:=List.getElem?_zip_eq_some
aiU:=Y.tok
aiV:=Option.some.injEq
aiW:=c5.map
aiX:=b1.map
aiY:=WData
aiZ:=WellAll
ai0:=HO.yw
ai1:=cs.length
ai2:=a6.bjl
ai3:=h.p.mono
ai4:=Gla.ptPlace
ai5:=c2.length
ai6:=aTr.nd
ai7:=HT.bjm
ai8:=b.drop
ai9:=Gla.ptAt
ai_:=bitAnd_m8
ai':=PyData.eqvAll
aja:=PyData.depth
ajb:=PyData.depthAll
ajc:=PyData.canLay0
ajd:=PyData.canLayAll0
aje:=d7.map
ajf:=Gla.LARGEST
ajg:=T.bjE
ajh:=aTC.nd
aji:=GM.at3
ajj:=b.set
ajk:=GM.Cg
ajl:=List.flatMap_singleton
ajm:=GM.GC
ajn:=GM.GD
ajo:=aTX.nd
ajp:=aTY.nd
ajq:=f.take
ajr:=c5.take
ajs:=aT1.nd
ajt:=h.len
aju:=aTR.nd
ajv:=B.map
ajw:=List.range_succ
ajx:=List.map_set
ajy:=N.mono
ajz:=Gla.made
ajA:=a7.toList.take
ajB:=SetTable.grown
ajC:=Bool.not_false
ajD:=U.trans
ajE:=hG.nd
ajF:=tupK
ajG:=W.done
ajH:=PySem.wpAny_loadPart'
ajI:=x.at_
ajJ:=room_in
ajK:=s.heap.IsListIter
ajL:=W.keep
ajM:=F.plain_extend_loop
ajN:=h.IsList
ajO:=F.slot_zip_iter
ajP:=D.l2i1
ajQ:=D.l2z
ajR:=D.l1z
ajS:=e9.isList
ajT:=wpAny_tryCatch
ajU:=numAt
ajV:=d9.extBut
ajW:=f.map
ajX:=aT2.nd
ajY:=Sum.inl.inj
ajZ:=GM.Lr
aj0:=u.mono
aj1:=T.list
aj2:=l1.trans
aj3:=r.trans
aj4:=List.takeWhile_cons_of_neg
aj5:=List.takeWhile_cons_of_pos
aj6:=j.symm
aj7:=a9.length
aj8:=PySem.F.plainAttrs_list
aj9:=s0.row.length
aj_:=e6.trans
aj':=sb.ts
aka:=sb.trans
akb:=Y.at_
akc:=GM.Cd
akd:=iI.mp
ake:=h.ne
akf:=ls.filter
akg:=GM.Cf
akh:=D.marks.map
aki:=m3.at_
akj:=D.lines.filter
akk:=c0.map
akl:=aT3.nd
akm:=a7.length
akn:=a4.seq
ako:=r.drawn.take
akp:=aT9.nd
akq:=aT_.nd
akr:=vs.take
aks:=Y.few
akt:=a3.mono
aku:=GM.GF
akv:=aUk.nd
akw:=Gla.judgePlan
akx:=hR.mono
aky:=Gla.stepBytes
akz:=aUg.nd
akA:=Gla.readRecord
akB:=h8.map
akC:=r.free
akD:=GM.LC
akE:=UInt8.toNat
akF:=GM.bT.gr
akG:=z.toNat
akH:=GM.zs
akI:=J.trans
akJ:=aua._auto_1
akK:=b.take
akL:=a7.take
aAP:=stepT
aAQ:=denote
aAR:=stepOk
aAS:=through
aAT:=boot_toks
aAU:=boot_drawn
aAV:=laidKept
aAW:=gensDone
aAX:=namesBound
aAY:=staticsOk
aAZ:=PySem.W.fnOf
aA0:=PySem.W.plainOver
aA1:=P.main.body
aA2:=e.trans
aA3:=Int.le_trans
aA4:=Int.ofNat_le.mpr
aA5:=Nat.lt_of_le_of_ne
aA6:=Classical.choose_spec
aA7:=Value.isInt_shape
aA8:=intKind
aA9:=builtinsNs
aA_:=env.cells.lookup
aA':=X.F0.heap.get?
aBa:=X.fn
aBb:=X.env.kindOf
aBc:=X.env.scope.kind
aBd:=I.ok.aNI
aBe:=I.ok.mod
aBf:=I.ok.has
aBg:=backTo
aBh:=wpAny_Name
aBi:=isTrue_plain
aBj:=inplaceOp
aBk:=M.set
aBl:=wpAny_standAt
aBm:=wpAny_pyIter_list
aBn:=j.toNat
aBo:=T.obj
aBp:=truthy
aBq:=i.toList
aBr:=Bool.or_false
aBs:=O.isEmpty
aBt:=PySem.W.lookIn
aBu:=PySem.W.plainGet_of
aBv:=getAttr
aBw:=PySem.W.takerIn
aBx:=beq_eq_false_iff_ne.mpr
aBy:=G.map
aBz:=Heap.get?_push_size
aBA:=Code.isFrame
aBB:=Around.under
aBC:=Calls.spliced_nil
aBD:=BindsTo
aBE:=wpAny_call
aBF:=Y.after
aBG:=Keyword
aBH:=a.names
aBI:=P.zip
aBJ:=List.length_replicate
aBK:=List.take_sublist
aBL:=SeqAt.EqAt
aBM:=AutoSeq1.sub_tuple_tuple
aBN:=typeLookup
aBO:=Subscript_
aBP:=operate
aBQ:=k.toNat
aBR:=Heap.get?_update_other
aBS:=List.length_singleton
aBT:=Walks.list
aBU:=Dp.readsAll
aBV:=NameKind
aBW:=mem_lookup
aBX:=Nat.le_of_succ_le
aBY:=pushCells
aBZ:=d.map
aB0:=own.map
aB1:=List.mem_map.mpr
aB2:=ok.uniq
aB3:=g.cells.lookup
aB4:=g.kindOf
aB5:=ok.kind
aB6:=compEnvC
aB7:=Bool.false_or
aB8:=Bool.true_or
aB9:=Option.map_some
aB_:=ItemsAre
aB':=Option.isSome_map
aCa:=List.nodup_nil
aCb:=Nat.le_refl
aCc:=wpAny_pyIter_enum
aCd:=Int.mul_le_mul_of_nonpos_left
aCe:=Int.le_total
aCf:=Int.mul_lt_mul_of_neg_left
aCg:=Nat.lt_min.mpr
aCh:=Step
aCi:=l.reverse.map
aCj:=E.reverse.map
aCk:=a5.length
aCl:=List.getElem?_inj
aCm:=this.symm
aCo:=List.length_erase_of_mem
aCp:=R.lines.length
aCq:=Plan.pt
aCr:=beq_self_eq_true
aCs:=Clock
aCu:=List.mem_reverse
aCv:=Plan.next
aCw:=l.head?
aCx:=r.round
aCy:=twiceArea
aCz:=LawfulBEq
aCA:=Plan.among
aCB:=List.mem_range
aCC:=D.chain
aCD:=T.child
aCE:=first.setIfInBounds
aCF:=first.getD
aCG:=Plan.nears
aCH:=List.perm_middle
aCI:=Tree
aCJ:=Int.mul_zero
aCK:=beq_iff_eq
aCL:=r.lines.take
aCM:=B.drawn.contains
aCN:=List.pairwise_cons.mpr
aCO:=Bool.or_eq_false_iff
aCP:=Y.wide
aCQ:=l.takeWhile
aCR:=I.mem
aCS:=r.pts.dropWhile
aCT:=Time
aCU:=decide_false
aCV:=List.filter_cons
aCW:=r.lines.flatMap
aCX:=List.length_range
aCY:=F.lines
aCZ:=Iff.rfl
aC0:=C.ord.lt
aC1:=sidesOf
aC2:=partsTwo
aC3:=List.mem_flatMap.mp
aC4:=List.flatMap_map
aC5:=marks.length
aC6:=List.length
aC7:=List.take_succ_eq_append_getElem
aC8:=Y.first
aC9:=R.ss.drop
aC_:=R.gr.undone
aC':=UInt8.toNat_inj.mp
aDa:=UInt8.toNat_ofNat'
aDb:=markAt
aDc:=LARGEST
aDd:=SMALLEST
aDh:=GlaKeeps.step
aDi:=e.place
aDj:=GlaKeeps.markOk
aDk:=d0.stop
aDl:=List.filterMap_nil
aDm:=GM.bT
aDn:=Nat.succ.inj
aDo:=m.map
aDp:=List.map_inj_left.mp
aDq:=c.enc
aDr:=WData.weightAll
aDs:=d.weight
aDu:=b1.toArray
aDv:=vs.toArray
aDw:=l.heap.Ns
aDx:=Bool.noConfusion
aDy:=Codec.denoteAll
aDz:=Int.ofNat.inj
aDA:=h.m.mono
aDB:=Gla.markPlace
aDC:=D.size
aDD:=Gla.markAt
aDE:=PyData.int
aDF:=lay_ints
aDG:=SeqAt.shaped
aDH:=Gla.MARKS
aDI:=Gla.LINES
aDJ:=Gla.POINTS
aDK:=Gla.SMALLEST
aDL:=decide_eq_decide.mpr
aDM:=p.trans
aDN:=Gla.Bytes
aDO:=b.flatMap
aDP:=aTG.nd
aDQ:=Nat.add_assoc
aDR:=Y.Nodup
aDS:=List.sum_append
aDT:=o.set
aDU:=o.length
aDV:=o.getD
aDW:=path.length
aDX:=SetTable.advance
aDY:=probe.go
aDZ:=SetTable.slot
aD0:=SetTable.has
aD1:=Nat.add_le_add
aD2:=below.go
aD3:=layClean.free
aD4:=Nat.lt_succ_of_le
aD5:=c0.toArray
aD6:=t'.place.toList
aD7:=SetTable.fill
aD8:=t.put
aD9:=hashByValue
aD_:=HeapKind
aD':=F.slot_tuple_hash.lookup
aEa:=c4.heap
aEb:=K.length
aEc:=W.item
aEd:=PyProof.Rows.F.plain_set_update_loop
aEe:=c4.mono
aEf:=wpAny_askSetting
aEg:=not_or
aEh:=wpAny_runValue
aEi:=PySem.wpAny_load'
aEj:=Builtin.«set_iterator.__next__»
aEk:=entryFor
aEm:=List.eraseIdx_eq_take_drop_succ
aEn:=left.length
aEo:=pickOrder.go
aEp:=x.plain
aEq:=setsByText
aEr:=Obj.data_mapFields
aEs:=wpAny_setField
aEt:=Array.getElem?_eq_none
aEu:=wpAny_isInstance
aEv:=Builtin.List.listLengthHint
aEw:=x.keep
aEx:=tupKeyC
aEy:=tupKindC
aEz:=pairsOf
aEA:=a3.push
aEB:=HT.aO_
aEC:=a9.mem_iff.mp
aED:=wpAny_tupleItemsOf
aEE:=D.i1z.symm
aEF:=D.i2z.symm
aEG:=wpAny_newTuple
aEH:=sd.extBut
aEI:=wpAny_updateSeq
aEJ:=Value.type.inj
aEK:=Builtin.List.listExtendWith
aEL:=wpAny_pyIter_zip
aEM:=F.entry_min_loop
aEN:=W.frame
aEO:=D.i2z
aEP:=D.i1z
aEQ:=D.TOz
aER:=g6.objs.size
aES:=wpAny_updateSeq_pair
aET:=wpAny_onRaise
aEU:=GM.UE
aEV:=E.getD
aEW:=List.head?_eq_getElem?
aEX:=GM.Ta
aEY:=List.all_append
aEZ:=PW.pt
aE0:=m.length
aE_:=b3.mono
aE':=s0.trans
aFa:=b9.mono
aFb:=d8.mono
aFc:=n2.symm
aFd:=f7.mono
aFe:=GM.merge
aFf:=GM.S4
aFg:=GM.iH
aFh:=W.map
aFi:=List.getElem?_of_mem
aFj:=d5.sw.at_
aFk:=gl.map
aFl:=GM.S5
aFm:=k1.trans
aFn:=e0.at_
aFo:=c6.at_
aFp:=Gla.Plan.drawn
aFq:=a9.clean
aFr:=Gla.numbered
aFs:=f.trans
aFt:=Gla.pairs
aFu:=NumV
aFv:=a9.clean.ord
aFw:=Nat.lt_or_gt_of_ne
aFx:=Cp.length
aFy:=R.cs.take
aFz:=i9.free
aFA:=C.toNat
aFB:=row.flatMap
aFC:=RecAt
aFD:=at_of
aFE:=GlaKeeps.begins
aFF:=GlaKeeps.stepOf
aFG:=PyFlat.okCall
aFH:=KeepNeutral.asked1
aFI:=PyYqglha.answers_asked
aFJ:=Expr
aFK:=wpAny_field
aFL:=wpAny_seqItems
aFM:=auf._auto_1
aFN:=h.nd
aFO:=treeTable
aFP:=d.trans
a0T:=openGood
a0U:=p.main.body
a0V:=List.filterMap_cons_some
a0W:=PySem.W.codeIn
a0X:=PySem.W.makesIn
a0Y:=PySem.W.hasDictIn
a0Z:=PySem.W.plainGet
a00:=PySem.W.isFn
a01:=GA.facts
a02:=openSeen
a03:=List.filter
a04:=WData.layableAll
a05:=Nat.add_le_add_left
a06:=Nat.add_right_cancel
a07:=Int.le_of_eq
a08:=Classical.epsilon_spec
a09:=Classical.epsilon
a0_:=Value.isStrOf_shape
a0':=SeqAt.EqAt.str_int
a1a:=SeqAt.EqAt.int_str
a1b:=Value.float
a1c:=Value.bytes
a1d:=List.take_nil
a1e:=u.slots
a1f:=List.mem_range.mpr
a1g:=base.Ns
a1h:=X.F0.heap.FunFrames
a1i:=X.env.globals
a1j:=s.heap.IsCell
a1k:=X.base.get?
a1l:=I.base.keep
a1m:=I.base.slot
a1n:=I.base.Kx
a1o:=I.base.FZ
a1p:=I.base.Kw
a1q:=wpAny_loadName_cell
a1r:=wpAny_loadName_local
a1s:=Calls.Name_function_global
a1t:=wpAny_isTrue_Compare1
a1u:=wpAny_execs_cons
a1v:=interactive
a1w:=setItem
a1x:=wpAny_assign_Name
a1y:=storeName
a1z:=wpAny_pyIter_rangeiter
a1A:=wpAny_pyNext_range_end
a1B:=Int.mul_one
a1C:=IsRangeIter
a1D:=wpAny_pyIter_range
a1E:=IsRange.new
a1F:=intBits_le_64
a1G:=PyProof.noPylong_small
a1H:=PySem.W.handedIn
a1I:=beq_iff_eq.mp
a1J:=getMethod
a1K:=PySem.Within
a1L:=sf.some_of
a1M:=recursionLimit
a1N:=Code.frames
a1O:=Calls.spliced_cons
a1P:=I.ok.frames
a1Q:=PySem.W.callWith_K
a1R:=I.ok.mod.kin
a1S:=PySem.W.callWith_K0
a1T:=Nat.le_succ
a1U:=a.kind
a1V:=Option.isSome_iff_exists.mp
a1W:=PySem.W.cellsFrom_some
a1X:=f5.dt.fresh
a1Y:=List.of_mem_zip
a1Z:=SeqAt.EqAt.int_int
a10:=v.toNat
a11:=Builtin.Slice.sliceAdjust
a12:=slicePart_none
a13:=Builtin.Slice.sliceApplied
a14:=O.toList.drop
a15:=Builtin.Tuple.tupleItemsOf
a16:=PyProof.Rows.slot_tuple_getitem
a17:=f.toList.drop
a18:=evalPart_none
a19:=c8.heap.push
a1_:=Int.lt_of_lt_of_le
a1':=seqIndex_neg
a2a:=seqIndex_of
a2b:=subscriptTail
a2c:=subscriptTail_builtinR
a2d:=slot_list_getitem.lookup
a2e:=d5.isList.typeIs
a2f:=SeqAt.in_tupleAt
a2g:=o.ExactDict
a2h:=Calls.callWith_builtin
a2i:=its'.toArray
a2j:=Builtin.List.listTooLong
a2k:=t.toArray.size
a2l:=pushCells_keeps
a2m:=wpAny_alloc
a2n:=Option.isSome_some
a2o:=newFunctionEnv
a2p:=NameKind.cell
a2q:=I.ok.hd
a2r:=I.ok.glob
a2s:=X.env.cells
a2t:=ForInStep.yield
a2u:=b5.heap.push
a2v:=compPost
a2w:=Unit
a2x:=d.names.all
a2y:=e.symm.trans
a2z:=a3.symm.trans
a2A:=Paired.snoc
a2B:=I.mod.glob.keeps
a2C:=wpAny_getItem_heap
a2D:=wpAny_getItem_of
a2E:=wpAny_in_heap
a2F:=wpAny_notIn_heap
a2G:=wpAny_setItem_heap
a2H:=keys.length
a2I:=Builtin.Range.small
a2J:=wpAny_pyIter_revIter
a2K:=Int.le_antisymm
a2L:=wpAny_pyNext_enum_end
a2M:=wpAny_pyNext_enum_item
a2N:=Nat.succ_ne_self
a2O:=boot_enumerate
a2P:=Passes
a2Q:=Option.none
a2R:=Nat.min_comm
a2S:=Nat.max_comm
a2T:=Nat.le_of_succ_le_succ
a2U:=List.getElem?_cons_zero
a2V:=Int.add_lt_add_of_lt_of_le
a2W:=Nat.le_min.mpr
a2X:=d5.turn
a2Y:=List.mem_erase_of_ne
a2Z:=m.erase
a20:=r.lines.Nodup
a21:=r.pts.Pairwise
a22:=Int.add_le_add
a23:=Int.lt_or_eq_of_le
a24:=Int.mul_pos_of_neg_of_neg
a25:=List.mem_filterMap
a26:=Nat.not_lt.mpr
a27:=Int.sub_pos.mpr
a28:=Nat.lt_asymm
a29:=Int.add_zero
a2_:=List.reverse_cons
a2':=List.pairwise_lt_range
a3a:=List.foldr_cons
a3b:=N.lay.mp
a3c:=List.nodup_cons.mpr
a3d:=List.Pairwise.filter
a3e:=List.mem_of_find?_eq_some
a3f:=List.find?_eq_none
a3g:=path.getLast?
a3h:=List.mem_of_getLast?
a3i:=seen.getD
a3j:=List.length_eq_zero_iff.mp
a3k:=List.all_takeWhile
a3l:=List.mem_iff_getElem?
a3m:=r.pts.filter
a3n:=B.pts.contains
a3o:=List.zipIdx_cons
a3p:=r.lines.contains
a3q:=List.pairwise_append.mp
a3r:=a4.mem_iff.mp
a3s:=r.pts.takeWhile
a3t:=takeWhile_all
a3u:=p.nodup_iff.mpr
a3v:=m.eraseDups
a3w:=Nat.mod_mul
a3x:=List.take_left'
a3y:=List.drop_left'
a3z:=Nat.pow_pos
a3A:=List.drop_append_of_le_length
a3B:=r.marks.flatMap
a3C:=r.pts.flatMap
a3D:=Int.zero_mul
a3E:=a5.symm
a3F:=List.flatMap_def
a3G:=b4.trans
a3H:=b9.symm
a3I:=List.filter_eq_self
a3J:=r.marks.eraseIdx
a3K:=r.lines.map
a3L:=List.pairwise_map.mpr
a3M:=d8.Pairwise
a3N:=Except
a3O:=R.cs.length
a3P:=Gla.Record
a3Q:=Nat.not_lt.mp
a3R:=Gla.Record.undo
a3S:=Gla.Record.redo
a3T:=stepAt
a3U:=Fault
a3V:=KeepNeutral.told
a3W:=GlaKeeps.begun
a3X:=Y.filterMap
a3Y:=GlaKeeps.Call
a3Z:=PySem.boot_len
a30:=PySem.F.slot_dict_getitem.lookup
a31:=List.map_eq_nil_iff.mp
a32:=vs.toList.map
a33:=l.heap.get?
a34:=Codec.withinAll
a35:=J.args.length
a36:=d.params.defaults
a37:=PySem.W.Codec.app
a38:=PySem.W.nsIn
a39:=T.len
a3_:=List.map_inj_right
a3':=GM.aRS.mpr
a4a:=GM.S8.mpr
a4b:=List.extract
a4c:=Array.toList_extract
a4d:=Array.toList_append
a4e:=Builtin.List.listFitsIndex
a4f:=List.any_eq_true.mpr
a4g:=List.getElem_set
a4h:=List.length_filterMap_le
a4i:=List.sum_cons
a4j:=List.concat_eq_append
a4k:=List.eq_nil_or_concat
a4l:=Nat.add_mod
a4m:=Nat.mul_mod
a4n:=Nat.eq_zero_or_pos
a4o:=List.range_add
a4p:=List.filter_cons_of_neg
a4q:=List.filter_map
a4r:=O.toList.length
a4s:=Array.getElem?_toList.symm.trans
a4t:=Nat.le_add_right
a4u:=List.getElem_drop
a4v:=List.drop_sublist
a4w:=g.setIfInBounds
a4x:=List.getElem?_toArray
a4y:=Option.map_eq_some_iff
a4z:=B.toList.Perm
a4A:=sizeAbove.go
a4B:=t.place.toList.take
a4C:=a7.toList.drop
a4D:=t'.place.size
a4E:=SetTable.fits
a4F:=d.hash
a4G:=carriedByValue
a4H:=searchCouldBeSeen
a4I:=Bool.not_true
a4J:=D.toList.Perm
a4K:=Heap.SameBut.update
a4L:=wpAny_storeSet_of
a4M:=wpAny_setState_of
a4N:=setAddHashed
a4O:=ofAClassStatement
a4P:=IsTupleKey.typeIs
a4Q:=PyProof.Rows.F.entry_set_update_loop
a4R:=F.plain_set_new
a4S:=codeAny_of_tree
a4T:=PySem.wpAny_call
a4U:=Builtin.«frozenset.__iter__»
a4V:=d.toList
a4W:=pickOrder
a4X:=F.ax5.lookup
a4Y:=wpAny_setEntries_of
a4Z:=F.slot_set_iter
a40:=unsupported
a41:=Array.getElem?_eq_none_iff
a42:=Obj.cls_mapFields
a43:=Obj.isFreed_of_fields
a44:=firstArgMember
a45:=wpAny_ite_split
a46:=wpAny_typeOf
a47:=F.plain_list_iadd
a48:=listOrd
a49:=itemOrd
a4_:=Array.toList_map
a4':=Array.toList_zip
a5a:=a3.objs.size
a5b:=Value.ref.inj
a5c:=b1.Pairwise
a5d:=wpAny_ret_mkInt
a5e:=F.slot_tuple_hash
a5f:=Value.builtin
a5g:=F.slot_tuple_eq
a5h:=F.slot_tuple_eq.lookup
a5i:=b0.objs.size
a5j:=wpAny_mkInt
a5k:=F.entry_extend_loop
a5l:=W.low
a5m:=F.args_zip_iter_1
a5n:=F.slot_zip_next.lookup
a5o:=F.entry_zip_iter
a5p:=wpAny_pyNext_zip_end
a5q:=wpAny_pyNext_zip_item
a5r:=F.slot_enumerate_iter
a5s:=c1.drawn
a5t:=PySem.W.ktu_apart
a5u:=X.A.in1.in1
a5v:=Nat.succ_ne_zero
a5w:=F.slot_dict_len
a5x:=Builtin.«len»
a5y:=Around.under_plainId
a5z:=richCompare
a5A:=intItems_at
a5B:=loadIfAlive
a5C:=D.TOi2.symm
a5D:=D.TOi1.symm
a5E:=D.TOz.symm
a5F:=ZipApart
a5G:=List.Nodup.sublist
a5H:=D.nears
a5I:=List.all_eq_false
a5J:=List.zip_cons_cons
a5K:=T.enumerate
a5L:=List.any_map
a5M:=List.contains_iff_mem.mpr
a5N:=D.drawn.length
a5O:=B.pts.length
a5P:=aTW.nd
a5Q:=List.nil_append
a5R:=List.Pairwise.and_mem.mp
a5S:=Nat.add_le_add_right
a5T:=l0.trans
a5U:=e5.trans
a5V:=GM.begun
a5W:=List.Nodup.length_le_of_subset
a5X:=GM.aeH
a5Y:=GM.aeG
a5Z:=y.symm
a50:=c6.symm
a51:=GM.Gv
a52:=gl.length
a53:=PI.sb
a54:=Nat.add_sub_cancel
a55:=D.outlines.length
a56:=b.at_.below
a57:=List.flatMap_nil
a58:=GM.Ly
a59:=List.dropLast_eq_take
a5_:=Gla.stepAt
a5':=Gla.readSteps
a6a:=dB.ls
a6b:=z.sb
a6c:=Gla.saveRecord
a6d:=GM.ku
a6e:=f6.wide
a6f:=KeepNeutral.mark
a6g:=KeepNeutral.points
a6h:=Int.toNat_of_nonneg
a6i:=KeepNeutral.bytes
a6j:=PyYqglha.whole
a6k:=PyYqglha.calls
a6l:=KeepNeutral.start
a6m:=PyFlat.put
a6n:=Nat.add_sub_cancel_left
a6o:=T.answers.Ok
a6p:=eval
a6q:=c5.drop
a6r:=d8.drop
a6s:=X.blk
a6t:=I.turned
a6u:=bjv.mpr
a6v:=r.pts.set
a6w:=c1.heap.get?
a6x:=plainId_quiet
a6y:=Binds
a6z:=B.filterMap
a6A:=f.toList
a6B:=Or.inl
a6C:=T.range
a6D:=W.idxOf
a6E:=l.foldl
a6F:=set_list
a6G:=GM.auS
a6H:=I.bjo
a6I:=seqObj
a6J:=F.slot_zip_next
a6K:=wpAny_forIn_list
a6L:=a3.extBut
a6M:=m.extBut
a6N:=Codec.app
a6O:=sliceBounds
a6P:=T.av3.b
a6Q:=T.av3.h
a6R:=toString
a6S:=vs.toArray.toList.map
a6T:=D.i12.symm
a6U:=a9.extBut
a6V:=B.extBut
a6W:=y.length
a6X:=y.size
a6Y:=ok.free
a6Z:=Y.flatMap
a60:=L.type
a61:=F.slot_enumerate_next
a62:=lines.map
a63:=Fast.te6613529449190102663
a64:=Fast.te14364793385576792824
a65:=Fast.te11892475500146522536
a66:=Fast.te10156331382660048174
a67:=h.lst
a68:=markPlace
a69:=ar.any
a6_:=ar.toArray.any
a6':=SeqAt.canLay_of_shaped
bkb:=backToKw
bkc:=keywordEach
bkd:=Builtin.List.listItems
bke:=holding
bkf:=aue._auto_1
bkg:=h.casesOn
bkh:=PySem.wpAny_bind
bki:=Heap.get?_push_of_some
bkj:=Nat.zero_le
bkk:=PySem.wpAny_pure
bkl:=Nat.le_add_left
bkm:=List.mem_cons_of_mem
bkn:=PySem.wpAny_ite_false
bko:=inClass
bkp:=X.calm
bkq:=I.tok
bkr:=Nat.lt_succ_self
bks:=aub._auto_1
bkt:=w.params.followText
bku:=PySem.W.findIn
bkv:=Nat.lt_trichotomy
bkw:=Nat.not_lt_zero
bkx:=Nat.succ_pos
bky:=A.handled
bkz:=GO.take
bkA:=PySem.F.type_list_extend
bkB:=PySem.F.slot_list_extend
bkC:=PySem.F.type_list_append
bkD:=PySem.F.slot_list_append
bkE:=boot_heap
bkF:=List.nodup_cons.mp
bkG:=wpAny_callSpecial?_slot
bkH:=pts.eraseDups
bkI:=PySem.wpAny_of_eq
bkJ:=GO.drop
bkK:=ak.trans
bkL:=HO.lst
bkM:=Eq.symm
bkN:=binaryOp
bkO:=f.mono
bkP:=wpAny_attempt
bkQ:=bindArgs
bkR:=Array.forIn_toList
bkS:=d9.seq
bkT:=eR.pk
bkU:=wpAny_passesOwn
bkV:=d0.go
bkW:=r.marks.set
bkX:=d0.yld
bkY:=row.map
bkZ:=Result
bk0:=field
bk1:=Int.lt_trichotomy
bk2:=List.cons_ne_nil
bk3:=behindInMarks
bk4:=X.pn
bk5:=isSubtype_stop
bk6:=aTK.nd
bk7:=builtinLookup_eq_fast
bk8:=typeLookup_type
bk9:=notedBy
bk_:=T.turn
bk':=T.sorted
bla:=List.foldl_cons
blb:=a4.row
blc:=rv.get
bld:=List.ext_getElem
blf:=C.net.lay
blg:=c5.set
blh:=k.map
bli:=s.life
blj:=facts
bll:=A.under
blm:=foldedSetIterable
bln:=Call_
blo:=a.below
blp:=a.at_.below
blq:=b.at_
blr:=GA.KT
blu:=Value.str
blv:=bs.getD
blw:=linePlace
blx:=D.pts.filter
bly:=gl.set
blz:=d8.set
blA:=UH.go
blB:=D.pts.take
blC:=List.map_id
blD:=B.toList.toArray
blE:=s.tree.list
blF:=I.ok.bs
blG:=Builtin.Tuple.tupleExact
blH:=GM.vl
blI:=PyFlat.told
blJ:=PyFlat.played
blK:=h6.up
blL:=T.awx.b
blM:=T.awx.h
blN:=T.aww.b
blO:=T.aww.h
blP:=h.DictOf
blQ:=I.base.there
blR:=N.len
blS:=F.args_zip_next_1
blT:=F.entry_zip_next
blU:=bjy.go
blV:=PySem.wpAny_rule
blW:=PySem.wpAny_holding
blX:=KeepNeutral.callOf
blY:=a5.mono
blZ:=a.lookup
bl0:=o.slots
bl1:=List.takeWhile_sublist
bl2:=D.lines.contains
bl3:=Int.toNat
bl4:=aus._auto_1
bl5:=d7.size
bl6:=List.length_pos_of_mem
bl7:=row.Pairwise
bl8:=List.find?_eq_none.mp
bl9:=J.ret.enc
bl_:=h'.update
bl':=IsListIter.at'
bma:=List.mem_singleton_self
bmb:=isSubtype_tuple_tuple
bmc:=isSubtype_type
bmd:=r.marks.drop
bme:=r.marks.take
bmf:=c.foldl
bmg:=GM.Tree
bmh:=Heap.ExtBut
bmi:=Builtin.Tuple.tupleHashOf
bmj:=R.takeWhile
bmk:=W.Pairwise
bml:=Builtin.Tuple.tupleCompareSizes
bmm:=I.ok.cab
bmn:=PassesOwn
bmo:=s.heap.IsSliceOf
bmp:=w.params.setOrder
bmq:=hi.length
bmr:=b8.length
bms:=wpAny_Dict_empty
bmt:=PySem.F.type_list_pop
bmu:=PySem.F.slot_list_pop
bmv:=m.Nodup
bmw:=k.length
bmx:=I.length
bmy:=richCompare_meets_room
bmz:=Value.notImplemented
bmA:=Gla.firstAt
bmB:=d.eraseDups
bmC:=List.take_take
bmD:=s.heap.IsTuple
bmE:=A.in1.units
bmF:=I.ok.uZ.mem
bmG:=wpAny_fieldsOf
bmH:=List.zipIdx_nil
bmI:=entryFor_alias
bmJ:=wpAny_callSpecial?_none
bmK:=noBool_dict
bmL:=F.slot_dict_len.lookup
bmM:=List.Pairwise.of_map
bmN:=Int.lt_or_gt_of_ne
bmO:=R.cur.marks.length
bmP:=F.args_enumerate_next_1
bmQ:=F.entry_enumerate_next
bmR:=Expr.ListComp
bmS:=b3.symm.trans
bmT:=Int.mul_lt_mul_of_pos_right
bmU:=List.getElem_inj
bmV:=Int.not_lt.mpr
bmW:=d.toList.Perm
bmX:=signature?_of
bmY:=fencedOpening
bmZ:=Fast.te4187177175401517315
bm0:=call_enumerate_list
bm1:=call_list_seq
bm2:=List.length_take_le'
bm3:=wpAny_Assign_Subscript
bm4:=Option.ne_none_iff_exists'.mp
bm5:=List.Pairwise.imp
bm6:=PySem.W.WalkOS
bm7:=Heap.SameBut.refl
bm8:=Option.isNone_some
bm9:=W.kdx_alive
bm_:=Option.getD_none
bm':=PySem.W.length_le_weightAllW
bna:=Moved.trans
bnb:=SeqAt.eqAt_reads
bnc:=List.mem_of_mem_drop
bnd:=List.drop_take
bnf:=Walks.range
bng:=List.set_set
bnh:=PySem.W.methodCall_KW
v a b c:=⟨a,b,c⟩
a a b c d e:=v a b (v c d e)
a2 a:=(a).2.2.2.2
a b c d e f g h i j:=a b c d e (a f g h i j)
Eg:=xE8 _ _
x a:=by exact a
cr a:=(a2 a).1
v a:=(a:Int)
aS a:=(a).2.2.1
cB:=by decide+kernel
l a:=by {exact a}
d a b c d:=v a b ⟨c,d⟩
c a b c d e:=a->b->c->d->e
K a b c:=a[b]?=aa c
b b c d e f g h i j:=by refine a b c d e f g h i j
bR:=pv 0
B a b:=(a).map b
bF:=‹_›
aO a b:=bK (a×b)
f b c d e:=a b c rfl d e
ax:=by decide
au a b:=a->b->Prop
t a:=(a).length
af:=bK V
ag:=by simp[*]
J a:=fun z=>a
aq:=pv 1
v a b:=by refine⟨a,b⟩
ah a b:=v rfl a b
ai:=by simp_all
t a b:=by rw[a];exact b
ah a b c:=R7 a (R7 b c)
b7 a b:=a=aa (.lst b)
E a b c:=∀a,b->c
c c d e f g h i j:=by rw[b c d e f g rfl h i j]
C a:=by refine bE a
be a:=a=aa o
f9 a:=cr (a).2.2
i a b c d:=a->b->c->d
U a b c:=upd a b (.lst c)
de a:=fG (aNY a)
aw a b:=v _ a b
cR a b:=.tup [a,b]
ao:=bK Nat
eZ a:=a2 (a).2.2
ec a b:=aU6 a a6 b
N a b c:=by by_cases a:b=c
df a:=Nat->a
A a b:=K a i b
cf a:=(a:Nat)
rn:=aqF _ _
z a b c:=∃a,b/\c
M a b:=PE X a b
ac a:=aa (.ref a)
aV a:=(a).2.1
av:=pv 2
bH:=by rfl
L a b:=(a).trans b
j b c d e f:=by refine a b c d e f
dE a:=au a vM
hi a:=by (with_reducible refine a)
aR a b:=Inv X aI M a b
as a:=fun _=>a
oE a:=dZ (j:=a) rfl
aY:=aCb _
hm a:=fun _ _=>a
aM:=bK cR
aQ:=bK Int
bc:=.ref a
j a b c d:=∀a b,c->d
a1 a:=a<=hC
b a b d e f g:=c (a=b) d e f g
Y a:=H a=ae
bP:=cY H L
nh:=by kernel_rfl
dt a:=by intro a h
dI a:=by rw[v a ?_]
J a b:=by rw[a];exact b
bX a:=aS (a)
bO:=GS K bR
ay:=by {simp_all}
Ag:=.head _
IT:=xE7 _ _
aW a:=⟨_,a⟩
az:=(Eg).2.1
Z a b c:=if a=ab then b else c
bb:=pv 3
aA:=cr (Eg).2
aB:=cr (Eg)
aD:=aS (Eg).2
aE:=aS (Eg)
aF:=(Eg).1
aG:=f9 (Eg)
aH:=eZ (Eg).2
jo a:=fun _ _ _ _ _ _=>a
Y a b c:=adq a b (aqb c)
aT:=by simp
V a b c:=(∀a∈b,c)
m b c d e:=a b c d rfl e
aa a b:=K a j b
aZ:=aR H s
jp b:=f rfl rfl b (ah cB cB)
aa a b c:=by refine v a b c
x a b:=(a).mp b
aK:=aE8 ?_
aC a b:=k _ _ a b
cH:=by cases h
dm a b:=sg a (de b) BE
mz a:=fun _ _ _ _ _=>a
XO:=xE5 _ _
ab a:=fun x=>a
bh a b:=H a=aa b
ba:=bK I
l a b c d e:=∀a b,c->d->e
aU:=dE cR
bk a:=a<2^32
aN:=by rw[dt a6]
bg:=bK eh
bu:=by rw[dI rfl]
an a:=fun e=>a
cA a:=aS (a).2
bB:=by trivial
a_:=by {simp[*]}
ch a:=ez a bkf
M a:=by refine bkg a
aX:=by clear h
ee a b:=cR (.int a) b
aw a:=⟨a,?_⟩
iv:=tg r
f b c d e f g h:=a b c d _ e rfl f g h
gJ a:=by show a;decide
X a b c:=Tw K mg a b c
dn a b:=by obtain⟨a,rfl⟩:=b
bJ:=x Ag
aI a:=by simpa using a
aP a b:=v a rfl b
bf:=jp cB
bz:=by grind
bh a:=B a vn
O a b c d e:=b7 (upd a b (.lst c) d) e
aj a:=by rw[a]at h
cC:=.ref l
ci a:=ky r a
dh a:=avt K a bD
bn a:=fun p=>a
aI a b:=.ins a dx b
g5 a b:=avf gZ (zzF a rfl) (jo b)
mA a:=(Ce r a)
bC a b c:=by obtain⟨a,b,rfl⟩:=c
bs a b:=aU5 K a b
dg:=oE 0
e a d e f g:=b vs a d e f g
bw:=aO eh Obj
fr a b:={cls:= .type a,data:=b}
bS:=by rw[hi (bkh ?_)]
bL:=by lia
e0 a:=.int a t
bq:=Lay r
ac a b:=bZ (o:= .lst a) b
a7 a b:=ec a (d_ b)
cs a:=fun l=>a
aC a b c:=∃a,b=aa c
as a b:=KS (sH a b)
eX:=(·.2)
ae a:=v (cf a)
D a b c d:=dm (ea a b c) d
i a b c d e:=ah (bU a b c) d e
bs a:=by rw[a]at k
ah a:=fun q=>a
b1 a:=cr (a)
bC a:=mz (a)
Ah:=xE9 _ _
pF:=bY cR
ar a:=by simp[a]
ad a b:=upd H a b
o a b c d e f:=ft (@a aI b M c _ d e) f
Y a b:=t (bW a) b
T a b:=by rw[N q a b]
bv a:=s _ _ a
cV:=.ref b
w a b c e:=by refine d a b c e
akM:=xE4 _ _
al a:=by rcases a with q|q
bo a:=fun m=>a
eq a:=(gJ (a1 a))
am a:=by rw[a]at this
cI:=bK Ln
au a b c:=Kd a (Kd b c)
bQ:=pv 4
fN:=(·.1)
Oz:=xE6 _ _
eE:=by intro h
bN a b:=(a).mono b
bm a b:=(v a-b)
ch a b:=B (eK a) b
z d e f g h:=by rw[c d _ e _ _ f g h]
a a b c d e f:=by have a:O b c d e f:=ak
xh:=.int 0
b_:=by subst e
Z a b:=by {rw[a];exact b}
aj a b:=b7 (L a) b
aw a b c:=if a then aa b else c
ct a:=oG R a
cm:=bZ c6
b2 a:=a<65536
aL a b c:=kq a (.ref b) c
bd a:=⟨rfl,a⟩
ef:=bp v
a b c e f g h i j:=a b c e f (d g h i j)
aL a:=fun x S=>a
jq a:=by intro aI s M H a I h
df a b:=∀e∈a,b
cu a:=cr (a).2
f a b c d e f:=∀a b,i c d e f
bT a:=by have m:=a
b b c d e f g h i:=a b c d e f _ g h i
cw a:=a->Prop
aO a:=by rw[bj a]
an a b:=(a).take b
a b c d e f g h:=a b c d e (v f g h)
aW b c d:=by refine f b _ c d
ei:=tw _
d c d e f g h i j:=by rw[b c d e f g h i rfl j]
er a:=au a Hp
bl a:=fe (jx cN w) A a Q E s
jb:=bY Nat
ae a b:=(a).mpr b
fh a:=A a x
dH a b:=Tx (hm a) b
mC a:=aO Str a
ap a b:=U H a b
bi a b:=cv (a<=b)
ev a:=by rw[dn t a]
gK a:=be (Hm a)
ab a b:=aC t (mg a) (e0 b)
bT a b:=cv (a<b)
bk a b c:=∀(a:Nat)b,c
bU a:=bki _ a
eF:=bp e.1
eG:=bp e.2
cJ:=pv 5
cZ a b:=ly aOC a b
ez a:=by (with_reducible apply a)
m b c d e g:=f b c _ rfl d e g
cP:=aqB _ _
cq:=by grind-abstractProof
P a b c d:=by have a:cY b c:=d
ar a b:=cv (a=b)
a0 a b c:=show a=b from c
cS:=bkj _
ap a:=zzI a rfl
bn a b:=x (cf a b)
cK:=v n
be a b c:=i a b c Prop
cO:=aJ rfl
a4 a:=by delta a at h
e1 a:=a6p a cF
dM:=by rw[hi (bkk ?_)]
dr:=oE 1
dO a:=aU7 K a39 a
ah d e f g:=by rw[c d _ _ _ rfl e f g]
o a b c d:=∀a,b->c->d
jr a:=(mA a).row
bm a:=aw a rfl
ie a:=x (ey a)
cD:=df Nat
an a b c:=Y a [b] c
ak a b:=by rw[aa a b ?_]
et:=eq 2
fk:=by rw[dO,ec ax]
tE:=GO (as nh)
cw a b:=by obtain⟨dx,a⟩:=b
ej:=bK Pt
eh a b:=(a).filter b
v a b c d:=if a=b then c else d
bG a c:=∀b∈a,c
dI a b:=(a).any b
mE a:=.tail _ a
eY:=gd b5
js a:=aw a ?_
akN:=Int×cR
cL:=by {grind-abstractProof}
c5 a c:=num b a c
e b c e f g h i k:=by rw[j b c e f (d g h i k)]
eA a:=ee (cf i) a
cM:=a<=b
a6 a:=by rw[a]at e
fO:=cg ?_
bt a:=(a).symm
a4 a b:=by cases a;exact b
am a b:=b7 (H a) b
g_:=i<aL
ek:=aW rfl
fM a:=SB a H L
fj a:=fun t c6=>a
gP a:=aa (v a)
bj a b:=by rw[a,b]
gj:=by simpa using this
aj a b c:=by have a:cY H b:=c
aI a b c:=aR (x:=a) (y:=b) (cU c)
c b c d e f g:=a b c d e ⟨f,g⟩
f b c d e f g h i:=a b c d e rfl f g h i
b8 a b:=x (jv a b)
cW:=bK Str
cT:=fv akN
eB a:=a=aa u
jt a:=a2 (a).2
ap a b c:=K (a) b c
ab a b c:=by have a:b=c:=rfl
Ai:=(f_ R.n)
e a b c d e f:=by have a:upd b c d e=aa f:=ak
bU a b:=o a s H I h b
cX:=by {trivial}
eu:=this.1
bD a:=by refine(a)
eH:=bp i
a1 a b:=Gq par a b
bv a b:=by have:=a;exact b
cE a:=it F a h
dz:=Ord r
ci a b:=(eK a).find? b
du a:=f9 (a)
bh a b c:=ec a (sH b c)
dN:=Str->pF
dU:=by cases e
dp a b:={s with heap:=a,toks:=b}
aJ a b:=v a b ?_
k4 a:=be (zk a)
Z a b c d:=ec a (yZ b c d)
hq a:=Ib b a 2
M a b c d:=by have a:b≠c:=J d
hs a:=fun M H Q=>a
kH:=iG e f
fW a:=Ls r z a
dJ a b:=aFC u CR a J b g ls
ak b c d:=by obtain⟨a,b,c⟩:=d
eC a:=iQ a b1
br a:=au (bv a)
dP a:=as bD a
E a b c d:=aw a ⟨b,c⟩ d
ha:=gK b
dV:=ie bF
bx a b:=cR (vn a) (vn b)
hb:=o_ e f
d5 a:=dir r v a
di a:=a4 _ _ a
ad a b c:=(E a b c)
dW:=fv cR
fm:=this.2
aL a b:=∀x∈a,b
am a b c:=(a).getD b c
i a b c d e f:=by generalize U a b c=d at e f
ac a b c:=by rw[a,b];exact c
d7 a:=f9 (a).2
bi a:=g5 a tE
aj a b c d:=D a b (gi c) d
dF:=ct h
fz:=by rw[jq Q]
dA:=Ln->Int
ga a:=(l v L bP a (Q v L))
dv a:=⟨a,rfl⟩
el:=bY Int
kI:=by assumption
dX:=by {grind}
dk a:=(a).isSome
gk:=e.1+1
bV a b:=x (cn a b)
bx a:=(Xi a).1
j a b d e f g:=c a b d e (f->g)
bk a b:=V x a b
lT:=di 0 r.A
bW a b:=by generalize(xE2 _ _).1=a,(xE2 _ _).2=b
bI a:=aa (vn a)
hM:=(ajF cN w)
cd a:=by have l:=a
dY:=by congr 1
gm:=[J,g,ls]
aFQ:=Cp (hm nh)
ht a:=⟨0,a⟩
dJ a:=fun i=>a
gn:=.inl rfl
ce a:=.inl (au a)
ro:=yL r
ew:=pv 6
kJ:=bV b
jN:=x oX
as a b c:=d _ a b c
aa a b d e:=c a b d e Prop
cF a:=B a eX
cy b:=bh a b
en:=by (simp_all;lia-abstractProof)
T a b c d:=by rw[P a b c (bZ d)]
jc:=jr t
lU:=aP t ak
tF:=bkl _ _
a2 d e:=by rw[z a dx d dS e]
aO a b c:=by obtain⟨a,b,e⟩:=c
eI:=by split at h
xi:=.ref C
ca a:=by refine js a
pG:=bp l.1
bo a b:=R7 a (de b)
dK a b:=a->b->cb
dl a:=aw rfl a
eg:=df Int
d9 a:=ch n a
rp:=e::a7
ih a:=aOF I q a
hu a:=A×B×C×D×a
cj a:=fun k=>a
cN a:=by have q:=a
fP:=.ref p
I a b c d:=∃a,b/\c/\d
r a b c d e:=by obtain⟨a,b,c,d,e⟩:=e0
fX a:={s with heap:=a}
rq:=bp a
rr:=bp l.2
A a b c d:=i (vs=a) b c d
eD a:=bN a ax
be a b:=KJ X (MD a) b
n d e f g h:=by rw[c d e _ _ rfl f g h]
fn a:=a38 K CN a
dn a:=c8 _ _ a
ru:=(xc e.1,xc e.2)
g6 b c:=LN C b a c b2 X G
jd:=(i+1)
c_ a:=fun h=>a
cb a:=by have b:=a
dp a:=adr K a
dh a b:=(a).drop b
ea a:=yE (d_ a)
bp a b:=v a b rfl
z a b c d:=by have a:b:=by rw[J c d]
cz a b:=x (aW (cU a) b)
hc:=be (gU b)
fA:=tj lO j
a1 a b c:=by obtain⟨ar,a,b,c9⟩:=c
fo a:=fun i M L=>a
w b c d e f:=a b c d _ _ e rfl rfl f
dj a b:=fe (jx eB X.w) X.A a b oT s
eb a:=⟨a,[]⟩
cc a:=by have c:=a
gp:=.ref aO
e_:=by subst q
F a b c d e:=upd (upd a b c) d e
Aj:=(Ai).side
dQ a:=oG iv a
em a b:=ly aPN a b
ii a:=ah rfl a
K b c d e:=by rw[j _ b c d e]
a7 a b c:=by rw[bC a b (zy c)]
tG:=ahp M vs
db a:=fun b o e=>a
fB:=Nat×Nat
ni:=aO Pt Pt
dq a:=.inl (ah _ (au a))
dq a b:=[v a,v b]
cp a b:=bZ a _ _ b
akO:=by(rw[eE,cH])
eO:=by omega
cQ a:=by rw[a]at q
hg:=[xh]
ck a:=bkm _ a
fQ:=aE2 ?_
ae a b c:=by have a:b=c:=by simp[*]
dc a:=fun b U=>a
bD a b c:=by rw[w a rfl b c]
tH:=e1 e
eP:=c<=d
gL:=aBz _ rfl
kK:=by cases q
tI:=bK Key
fC:=bK aQ
bd a b:=t a<=b
hh:=fw e
jJ a b:=by rcases a with b|h
bl a b:=by rw[<-a];exact b
dR a:=by rw[l (.inl a)]
pH:=J ?_
b2 a b:=by rw[N e a b]
gM:=aw rfl
ij a:=fW K H l a
hv a:=cZ a bD
hj:=by rw[ez bkn]
bn d e f:=by rw[ah d (cx e) dg f]
b c d e f g h i:=by rw[b c d _ rfl e f g h i]
s d e f g h:=by rw[c d _ _ e rfl f g h]
fa:=by have f3:=wg
k6 a:=by rcases a with g|g
cR a:=kd al f a
ab a b c d:=b6 _ _ a b c d
fp:=by lia-abstractProof
cl a:=(de a)
gN:=(iv)
cn b:=by have a:=b
y b c d e:=by refine f b c d e
aP a b c:=∀(a b:Nat),c
br a b:=dG H a b
bA a b:=zk a=aa b
fq a:=cr (a2 (a))
co a:=by rw[l (.inr a)]
kL:=dh bR
je:=mC eh
hO:=eA y
fD:=X.K=K
hP:=dI t J p
mG a:=fun(l:Nat×Nat)=>a
akP:=(xc m.1,xc m.2)
eb a b c:=p=a/\ns=b/\d=c
hQ:=by cases J
hS:=by cases R
fE:=bK aFJ
ed a:=fun n=>a
e3 a:=fun v=>a
bX a b:=bko (top a) b
b4 a b:=by rw[z,a]at b
hw a:=.cons a .nil
fR:=bkp=ab
u b c d e f:=m b c d ⟨e,f⟩
dL a b:=be Nat a b
ep a b:=fj (aC a b)
fS:=by(simp[*];lia)
fF:=by rw[cw hd mY]
cY a:=by rcases a with z|z
lV:=aa R
hT:=.int i
e7 a:=∀x,a
gq:=by subst this
Ak:=.type "list"
fT:=by intro q
bD a b:=a=ab↔b
lW:=ajv vn
jO:=R.d+1
aS a b c:=by have a:b=c:=by simp
gs:=df jb
gu:=Y b
fr a:=bh b a
cz a:=g5 a aFQ
vz a:=fun _ _ _=>a
mH b:=fW K H a b
fU:=by (simp_all;lia)
jf:=cw Hp
gd a b:=ch (MC a cF=b)
b5 a b:=bh a bR b
fs c:=fun a b=>c
fV:=M a d6
gv:=aqF o p
gS a:=b5 _ _ a
jQ:=bY V
il a:=fun b=>a
bE a b c:=by obtain⟨vs,a,b⟩:=c
c7 a:=by have e:=a
mL a:=cv (a<0)
c8 a:=(a).Nodup
bC a b:=by by_cases a:b=ab
dk a b:=(a).get? b
cA a b:=∀p∈a,b
bI a b:=qy a b akO
c7 a b:=Hm a=aa b
eM a:=a++[y]
ac a b c d:=L ((a).2 b c) d
xj:=Y l
k7 a:=aW (au a)
rx:=z.2.1
gw:=aO Key V
dd a:=by rw[a];rfl
xk:=by rw[ev R]
ju a:=eh (pD i) a
dx a:=Gm r e (ci a)
gx:=x<=y
bV c e f:=by rw[d _ c e _ dx _ _ f]
fs a b:=BA P w a b
nj:=f+1+zr
rm a:=Z aVY bR a bD
nH a b:=ptK (K:=K) (n:=a) rfl rfl b
jg:=by rw[bC rfl rfl b0]
nk:=bY eh
bY a b:=by rw[a,b]at this
be a b c d:=g a b c (fun h b7=>d)
fu a b:=(a).lookup b
ca a b:=Si K a b
b1 a b:=by intro a b h
eT a b:=(a).Pairwise b
iw:=aCR e
hk:=rv h
jR:=vn p
bK a b:=hK (dj a) b
kM:=a4F F
jM a b:=a=aa (.ref b)
iy:=aO+1
N a b c d:=a/\b/\c/\d
a2 a b c:=d a b c ?_
g c d e f g h i j:=by rw[b c d e f g h rfl i j]
ee a:=by rw[bs (bj a)]
cj a b:=bC (sI a b)
hl:=di 0 A
eN a:=fun o e=>a
jT:=ht 0
ck a b:=arX (own:=[(a,b)]) bH
gO:=l<=J
ge a b:=cR (.ref a) (.ref b)
hn:=aqD o p
ho:=aqD _ _
V a b c d:=nH 2 (KH (sI a b) (KH (sI c d) aqQ))
cl a b:=by obtain⟨a,e⟩:=b
jP a b:=!(a).contains b
bG a c d:=by obtain⟨b,a,c⟩:=d
bl a b c:=by obtain⟨u,a,b⟩:=c
aJ a b c:=by obtain⟨a,b,q⟩:=c
hz a:=by have b5:=a
ds a b:=.inl ⟨a,b⟩
g7 a b:=show a=ab from b
ry:=bkq _
fv a b:=by obtain rfl:a:=b
hp:=ku R
dO a b:=par a=aa b
kN:=ac a
rz:=hm rfl
XQ:=(f_ aL)
kO:=mz aPY
eS a:=bs bR a
dK a:=a7 a bR
fY a:=by rw[bs (aJ a)]
dy a:=Q (.bl a) H
oF a:=fun i j=>a
dl b c:=by rw[aW l b c]
jW:=e.1<t
jw a:=fr "list" (.seq a)
im a:=E i g_ a
jh:=ed e a0
Al:=g6 H D
ak a b c d:=by have a:df b c:=fun e a0=>d
akQ:=by rw[dn t' Z]
dd a b c:=by have g9:a=b:=by rw[DV,c];rfl
ds a:=by rintro rfl a k
hU:=bY a3U
cE a b:=by exact .cons a b
e9 a:=fun y=>a
dB a:=by have d6:=a
pI:=bj cB
iz:=a2q b0
jX:=bkr _
Am:=.error e
dS a:=du g a
dL a:=cQ i a
c8 a b:=R7 a (fG b)
jY:=akn a5
a b c d e f g h i j k l:=a b c d e f g h i (v j k l)
cb a b:=by have a:b:=by simp_all
fZ a:=x (J a)
cc a b:=by {have:=a;exact b}
dP a b:=L a (bZ b)
nq:=as 0
hV:=aI bF
hW:=aO c V
hX:=aO Str V
nr:=fh O
cd a b:=dH (tv a) b
gb a:=bn a fy
er a b:=ez (a<=b) akJ
es a b:=ez (a<=b) bks
dC a:=bV (a::gI 2 i)
dt a b:=eb a b []
an a b c d:=mC a (sI b c) (fG d)
An:=K9 r bX
ft a:=hs a g Z
IU:=gg+oZ
hY:=aqB o p
lX:=di lT r.E
dv a b:=aUL (zzM a rfl) (jo b)
d a b c d e f g:=aP4 rfl a (i:=b) rfl rfl (aP5 rfl rfl rfl rfl) c d e f g
L a b c d e:=by generalize(XO).1=a,aV XO=b,bX XO=c,cA XO=d,a2 (XO)=e
pJ:=aa v
kP:=by exact .nil
fu b:=fun a=>b
cF a b c:=by obtain⟨a,b,J⟩:=c
eh a:=by have I:=a
Eh:=aqb st
j_:=by subst c3
rA:=.type "tuple"
y b c d e f:=by obtain⟨a,b,c,d,e⟩:=f
ev b c:=∀a∈b,c
ji:=wK vn
kQ:=aP x
io a:=(mA a).cnt
em a:=fl a e
fw a b:=by rw[<-z,a]at b
xl:=akK 4
jj:=vn n
iA:=aE5 ?_
aV a b c:=by rintro rfl a b c
lY:=ajr B
xm:=zT j
oG a:=a2 (eZ a)
gc a:=x (cU a)
k8 a:=cr (jt a)
iB:=by rw[l q]
I a b c e f:=d ⟨a,b⟩ c e f
ge a:=mJ a=ae
ce a b:=aw (au a) b
bi b c d e:=m (.bl b) c d e
cs a b:=by rw[aa a ?_ b]
lZ:=e∈gH
iC:=e∈bX
L a b c d:=(i 1 a b c d)
c_ a b:=by rw[bj a,bj b]
rB:=x (mE bF)
Q a b c d e:=bk j a (b->aa c d->e)
iD:=(aS e8.2).2
nu:=dJ H R
eT a:=by rw[jJ a h]
gf a:=by show fe _ _ a _ _ _
OA:=bh (II 0 Xp)
ec a b c:=[.ref a,b,.ref c]
jk:=mH O
ct a b:=Dp K H a b
dQ a b:=aQY d5 Y a b
iE:=Mp R J F
ny:=by cases this
jx a:=fun d=>a
mM a:=[.int a]
xn:=.ref J
kR:=.ref x
l_:=by subst ex
jy a:=.seq a n
Ei:=.own x
eo a:=fq e a
ma:=by simp at h
dw a b:=∀y∈a,b
d0 a:=by delta a at k
cu a b:=cQ (an a) b
ka:=Net r
pK:=vn i
cF a b:=by rw[l (cy a b)]
Q b c d e:=by rw[j b c d rfl e]
OB:=(v,a)
jl:=gS v u
dR a b:=a0 a b rfl
XR:=fW x.1
kb:=by (simp[*];lia)
gg a:=bn (p.y==a)
tJ:=fX h'
rC:=hv aq
oI a:=fun(i:Nat)=>a
Ej:=aDV e 0
bd a c d:=l b o a c d
jm:=aCI a5 B par
jn:=xE9 o p
hA a:=aOY bR a rfl
g8 a b:=(ah,a)::MC b cF
ke:=eV eF eG z
c a b c d e f g:=aeW (K:=K) (R:=a) b c d e f g ?_ ?_
fy a:=by exact(a)
kf:=bK Env
bo a b c:=(if a then b else c)
dx a b:=(show a from b)
ep a:=by have a9:=a
pL:=.ref I
pM:=.ref z
mN a:=.int a u
rD:=by subst z
kS:=aJ bF
OC:=bj zv
g9 a b:=by rcases a with b|m
bp a b c:=(a).set b c
kg:=Run R
kh:=pv 7
ki:=pv 8
nz:=dw v
kj:=aiH r
kk:=Rl I
xo:=bkt "set-order"
a b c d e f g h i j k:=a b c d e f g h i ⟨j,k⟩
co a b:=by have a:b:=by simp[*]
D a b c d e:=a/\b/\c/\d/\e
de a b c:=by rw[C (aFK a rfl (x:=b) rfl c)]
rE:=ac d
a3 a b c:=by rw[bC a b (zi c)]
k9 a:=cs (! a)
nB:=x∈B
aS a b c d:=show a=b by exact mS c d
xp:=bU e
xq:=by (constructor<;>simp_all)
jz a:=fr "tuple" (.seq a)
xr:=by (simp[*];lia-abstractProof)
gl a:=bn (p.x==a)
l a b c d e f:=by rw[T a b (upd c d e) f]
nD:=dp h' D
tK:=ii rfl
tL:=ij kJ
mO b:=va K H a b
K b c d e f:=a b c d _ (ah e f)
fb a:=R.X e (R.k a)
OD:=(ng r t)
bh b c d e:=f b c _ _ rfl d e
tM:=RZ P w
dS a b:=D KL a cu b
kn:=Pt×Pt
ey a b:=o a a4 a8 r d2 b
hB a:=bku K xi a
xt:=Ld E N
it a b:=aih Wk aL a b
fH a:=d9 _ _ a
ko:=by refine fH (fun c=>?_) (fun c=>?_)
eA a b:=.Call (.Name a p) b [] pos
CE a:=ez ((x==(a:Str))=ah) Vm
aFR:=(bk ip/\bk il)
gf a b:=ch (dI (aBg a (MC b cF)) fN=ah)
al a b c d:=by generalize(akM).1=a,aV akM=b,bX akM=c,(akM).2.2.2=d
xu:=aa 0
xv:=aa i
eV a:=by rw[aTb]at a
cG a b c:=by obtain⟨b1,a,b⟩:=c
b7 a b c:=by obtain⟨c5,a,b⟩:=c
ad a b c d:=by have a:b=aa c:=d
nG:=.ref t
nJ:=.ref d
mP a:=cv (bk a)
ip a:=eJ (hu a)
tN:=by subst d3
fd a:=cg (bE a)
pN:=da _
hC a:=(a).toArray
eU a b:=(a).getD b
kT:=wA g
e a b c d e f g:=by generalize U a b c=d at e f g
xw:=bZ nd
go a:=fI a nd
pO:=cx U
pP:=oy bO
m a b c d e f:=by generalize upd a b c=d at e f
mb:=a6q (B+1)
jA a:=by rw[akQ];exact a
br a b c:=x (hq a b c)
da a b:=(a&&b)=ab
Ek:=aS z.2
fe a:=(vP a).1
kU:=(IT).1
mc:=df ao
kW:=aV IT
nK:=dE cb
kX:=as rfl
kY:=bX IT
kZ:=cA IT
cv a b:=ch (SE X a b)
k_:=b1 IT
lb a:=fun b m=>a
la:=by rw[jq D]
lg:=cu IT
lh:=gS y u
nL:=dO bR
OE:=([]:ni)
lj:=cE j
ll:=eZ (IT)
gr a:=ga (GI L v a)
bi a b c:=fo (yY a b c)
a9 a b c:=by rw[bD a (k7 b) c]
gt a:=kq f v a
lq:=fs H h
ff a:=fun l a5=>a
nO:=aO Nat Nat
lr:=M b c3
lu:=xE8 o p
gy a:=d _ _ a
aFS:=us3 (vz nh)
lx:=aCh R t s c1
bA a b c d:=(f a L bP b c (Q d L))
xx:=by intro aI s M H x y v u Q I R Z h
co a b c:=by generalize(RX _ _).1=a,aV (RX _ _)=b,(RX _ _).2.2=c
lc a:=c A B C D a
db a b:=by obtain⟨c,a⟩:=b
nU:=bK d
fI a:=by have f:=a
dc a b:=by rw[a,H9]at b
nY:=.ref it
fg a:=bj (J a)
tO:=.tup O
bW a b c:=.tup (ec a (.ref b) c)
tP:=by intro z
gT a:=.Name x a
pQ:=da hi
aC a b c d e:={cls:=a,dict:=b,data:= .seq c d,slots:=e}
ad a b c d e:=by rcases bkv a b with c|d|e
tQ:=bG pa
fx a b:=∃e∈a,b
jC a:=by simp[a]at h
tR:=NQ R.d
cp a b c:=KS (yZ a b c)
ca a b c:=(a).extBut b c
cG a b:=by delta a;exact b
xy:=v i
bj a b c:=d a rfl b c
md:=by rw[C ?_]
fJ a:=by rw[C (bE a)]
me:=df Prop
bX a b c:=L (L a b) c
tS:=ci z
mf:=by rw[dO,dH bH]
jD a:=by rw[bT (x a a0)]
dy a b:=show a=b by simp+arith [*]
pR:=er St
El:=by rw[ev J]
pS:=gS x u
nZ:=dO bO
n_:=by(simp_all;lia)
pT:=k4 a
mh:=k4 b
oa:=eC O
gW a:=fun p c2=>a
hE a:=yQ r z a
tT:=vm r eM
jE a:=fun b o U e=>a
dB a b:=a[i]'(b)
mi:=rm bD
iu a b:=fu a (b:Str)
bm a b c:=Co a K H b c
ob:=fun e a0=>?_
eV c d:=j a b c d
mQ a:=fun(p:Pt)=>a
E b c d e g:=f b _ _ (vn c) rfl d e g
X a b c d e:=a->(b/\c)\/(d/\e)
gg a b:=be x a L b
XS:=jx cN w
gz a:=ar ro m a
vA a:=z f7 (f7<m) a
mj:=CE "__debug__"
iq a:=v pz mX a
Em:=(pG,rr)
pU:=cn bF bF
IV:=bF▸bF
rs a:=cy a (bkw _)
Ao:=Gw r z
cN a b:=zzN a rfl b rfl
hF a:=f9 _ _ a
tU:=aZ8 cB cB cB
aFT:=aL "gaps" B (aL "passed" b2 [])
jF a:=by obtain⟨a,a8,r,r1,d2⟩:=P
oc:=by cases C
pV:=by cases S
dd a b:=by rw[da a]at b
od:=by rw[this]
dT a b:=by exact cy a b
pW:=bK aiY
mR a:=fun t=>a
gX a:=fun c=>a
bY a b c:=by obtain⟨m,a,b⟩:=c
ae a b c d:=by have a:vr b c:=d
fK a:=by have a3:=a
rF:=.ref f
jG a:=by refine cg a
oe:=by refine fO
pX:=.inl a5
ae a b c d e:=by obtain⟨z,a,b,c,d⟩:=e
de a b:=by rcases a with rfl|b
pY:=zo aY
xA:=cg h
pZ:=bG Z
og:=Run iv
oh:=wA h
oi:=aE7 ?_
oj:=aE4 ?_
En:=nf d9
xB:=aQC a6
ap a b c d:=v a b (t c d)
ld a:=a=aa .local
p_:=x (bkx _)
om:=bky=ae
gZ a:=B a fN
bZ a b c:=ah a b (de c)
tV:=ac l
he a b:=ee a (.int b)
oo:=j<aL
fL a:=g5 a aFS
bs a b c:=ac (a++b) c
b2 a b c:=by rw[w a b c ?_]
hf a b:=dH (hK a) b
Eo:=([]:ej)
X a b c d:=(i 2 a b c d)
oq:=x (mE Ag)
Ap:=hq 12
le a:=hs (d6 M H a)
OF:=di b3
i b c d e f g h:=a _ rfl b c d e f g h
Aq:=ind (h=e)
Ar:=ind (h=rv e)
eB c e:=by rw[bV c a e]
oJ b:=m _ _ _ b
M a b c d e:=cf (aI a b c) (aS d e)
Ep:=W b U
ot:=aCT r t z
tW:=KV F vs
d3 a b:=s _ _ a b
jS a b:=Z a (aa b) ae
f0 a:=fun D M H=>a
qa:=(cr e8).2
ou:=xE7 o p
f1 a:=dD a l m
aJ a b c d:=aOt (O:=a) b c d ?_ ?_
vB a:=bo (jP a akP)
ar b c e f:=by rw[a b c d e d f]
rG:=yG lF 0 lo
IW:=EP X aI M Q
bv a b c:=aSV a b c ?_ ?_ ?_ ?_
rH:=aa e
oL a:=aa (v a+1)
qb:=bK Wu
qc:=bK AK
f2 a:=(a).objs.size
dC a b:=(eK a).filter b
jH a:=(a).map vn
f3 a:=by have g:=a
f4 a:=by have d1:=a
f5 a:=by have a5:=a
As:=by {heap_get}
oN a:=["self",a]
oO a:=by refine aC a ?_
hG a:=.int a 0
tX:=by simp[this]
OG:=sV e0
g0 a:=cp (v a)
qd:=.dK F
qe:=.dT []
hH a:=by simp[a]at this
eC a b:=ly a b bD
tY:=aV1 _
akR:=ax4 led
gh a b:=by obtain⟨F,a,_,_,_⟩:=b
hI a:=L b=aa a
xC:=v 0
qf:=(rn).1
jI a:=t a CW
aV a b c d:=U a b (c++[d])
qg:=aV rn
rJ:=oE 2
jJ a:=fun x a8=>a
qh:=bX rn
Au:=m.2.1
tZ:=R.d-1
qi:=cA rn
f7 a:=bs bO a
qj:=b1 rn
qk:=cu rn
jL a:=fun o z=>a
ql:=du rn
qm:=d7 rn
hJ a:=Gm r f (ci a)
qn:=dv ae
lf a:=dk (f a)
xD:=Ib b 4 4
f8 a:=fun e a0=>a
is a:=ea (gi a)
li a:=(a==ahv)=ah
qo:=Gl X x
qp:=fq rn
Av:=c5 8 4
lk a:=upd L t a
cr a b c:=jq a (gP b) (gP c)
aL a b c d:=by rw[dd a (b++[c]) d]
t_:=gS x v
g1 a:=(lC t a p)
it a:=by have:=gC aC6 a
qq:=k8 rn
xE:=jK r e
qr:=fun x S=>?_
qs:=au I d
d4 a b:=sb _ _ a (aI b)
XT:=[e,b9]
eW a b:=R (.ok (.ret a)) b
qt:=cr (eZ (rn))
ua:=fun b U=>?_
iu a:=by rw[v rfl (Tz a)]
qu:=oG (rn).2
mS a:=fun i M L _ z=>a
iF a b:=by intro aI s M H a b Q I J h
OH:=b∈a5 a
Er:=by injection h with h
cN a b c:=p=a\/p=b\/c
eZ b c:=bi b H I c
Es:=by injection h with h k
qv:=by rcases ifC h with⟨rfl,h⟩|h
qw:=auS w h m
nI a c:=ahp h vs=tG/\c3 h b7 (fun b d4=>Z b (b8 h d4 a) c)
rt a:=by obtain⟨F,g4,h3,h6,f4,f5⟩:=a
ix a:=⟨a,h⟩
dD a b:=⟨a,au b⟩
rI a:=⟨a,ag⟩
bx a b c:=by simp[a,b,c]
ub:=by cases g
gA a:=by rw[cz]at a
gB a:=by rw[a]at hR
d7 a b:=by obtain⟨a,q⟩:=b
lm a:=fun o=>a
hL a:=(a).map cp
bI a b c:=by obtain⟨f,a,b⟩:=c
cR a b c:=by obtain⟨O,a,b⟩:=c
hN a:=by have d5:=a
g2 a:=by have b9:=a
Aw:=.ref y
eD a b:=(a).all b
hR a:=hy (v a)
rK:=by subst f
rL:=by intro l
hi a b:=gF (fJ a b)
oP a:={s with toks:=a}
hZ a:=qB a sh
uc:=.dT F
gC a:=(f_ t).aP a
akS:=(OD).row
rM:=bp kH
xF:=pv 9
rN:=lH b
xG:=bZ a5
gD a:=zzA a rfl
Ax:=aE3 ?_
e1 a b:=(a).free b
Ay:=Od gV
ln a:=vC (pD i) a
gl a b:=aFL a rfl b
ud:=L5 p
rO:=aZh cB
xH:=bkz gg
aC b c d e:=a b rfl c d e
dE a b:=by have a:b:=by grind
OI:=cr z.2
g3 a:=aii a ab=ab
cs a b c:=by have a:b=c:=by simp_all
gE a:=a8 a=ae
gG a:=mg a=ae
IX:=L b=ae
N b c d e g:=f b c d ⟨e,g⟩
akT:=fun q=>?_
d9 a b:=by rw[N a b 0]
IY:=Q .bC L
jM a:=fun x y=>a
go a b:=dm (ac9 a) b
xI:=dh av
iF a:=fun _ _ q=>a
xJ:=bd rfl
bA b c d:=by rw[aW b (au c) d]
rP:=er It
gH a:=by show(a)=_
ue:=by (constructor<;>lia)
jS a:=hs (t M H a)
uf:=dP bD
XU:=Ib b 8 4
rQ:=dQ h
as b c d e:=m b _ (cx c) d e
ea a b:=by rw[k6 (iq a b)]
h0 a:=ep a lU
IZ:=gS b4
aW a b c d:=by rw[cF a b (oI c d)]
Az:=Gv r z row
OJ:=mI M H
rR:=(a,b)
aFU:=Va x=aa c
AA:=rs b8
rS:=z<=w
AB:=gC _ bF
ug:=lI-R.d
rT:=aDx (g7 ah p)
uh:=fun p c2=>?_
rV:=M e b8
jU a:=∃t,u=a
I0:=ar F d g
vE a:=(a5R a).imp ?_
iG a:=by generalize a=a8 at a4 b4
aFV:=e8 vs H Q E
akU:=eV ef (bp b) rq
ui:=by delta eV dx dy
rW:=by rw[a4I,OC]
rX:=g i j
rY:=xE6 o p
xK:=a4t _ _
ct a b c:=H0 r.w r.h a b c
g4 a:=rcF g ls a
h1 a:=A++(a++B)
j0 a b:=.Call (.Name a f6) b [] d
AD:=B (iY b3) (jK r)
am a b c d:=fe (jx cN w) A a b c d
rZ:=aiP w h m
eJ a b:=yy (adv aj8 bkB bkA aPL a (d_ b))
dG a b:=yy (adv aj8 bkD bkC aPK a (d_ b))
OK:=a c2 g d D os
mT a:=afU w a r a7 e1 t k
Et:=bY U5
OL:=by simp+arith [*]
eK a b:=by obtain⟨a,b9⟩:=b
uj:=bK aw
uk:=bK PKV
um:=[b8]
uo:=[bc]
xM:=by simpa using bF
bK a b c:=by obtain⟨o,a,b⟩:=c
au a b c d:=by have a:SB b H c:=d
g5 a:=by have c1:=a
uq:=.ref r
b3 a b c:=["self",a,b,c]
Eu:=kA fN
ur:=vQ h
bj a b c e:=.inr (d a b c e)
cu a b c:=if a=0 then b else c
eb a b:=upd a x b
R a b c d e:=by obtain⟨a,b,rfl,c,d⟩:=e
c a b c d e f g h i:=by obtain⟨a,b,c,d,e,rfl,f,g,h⟩:=i
a0 a b c d:=by obtain⟨a,b,c,d⟩:=h
iH a:=cy a (iP _)
uu:=by simp at this
gr a b:=by obtain⟨a,e,_⟩:=b
cb a b c:=(a).elim b c
xN:=by rw[<-e]
e3 a b:=.Subscript a b pos
uv:=bM a0
xO:=wK cp
lS a b:=(a).setIfInBounds b ab
iH a b:=by obtain⟨a,_,rfl⟩:=b
jV a:=lA (HP r a)
hm a b:=(a).idxOf b
uw:=lB R
eL a b:=oJ a (hw b)
aw a b c d:=by rintro rfl a b c d
ux:=gh a4
uy:=oM p
iI a:=a=aa .free
eM a b:=x (RR a b)
iJ a:=aDG a=ab
xP:=ph q=ab
cd a b c:=by have a:b=c:=by rfl
bM a b c:=by have a:b=c:=by grind
j a b d e f g h:=c a b d e (f->g->h)
uz:=2^(k+1)
uA:=df cb
AE:=ac le
uB:=as ae
AF:=hm gD
uC:=jp bB
r0 a:=fr "list" a
uD:=aO tI V
lp a:=bC (aPZ a)
h2 a:=df bX a
uE:=by rw[aO zv]
xQ:=fh l
h3 a:=bG a8 a
uF:=fM N
AG:=fM gm
uG:=(v,b)∈bX
uH:=ih bH
uI:=ih kI
uJ:=dp h' t'
ls a:=by cases a<;>rfl
I1:=t<=e.2
iI a b:=B (iY a) (cs b)
uK:=ar F m h
uL:=fb F k
OM:=Pt->cb
bN a b c:=jM (iu a b) c
akV:=j i M H
AH:=bs aq bD
uM:=fM [X]
Ew:=aa l x
xR:=aC gn e
XW:=k9 (b3 l)
uN:=mO O
uO:=qL b2 B X c7
uP:=Gp r h
fy a b:=ab _ rfl a b
g7 a:=RW o (J a)
cv a b c:=B a (fun s=>b)=aa c
Ex:=bh (d9 dw)
uQ:=zx+64<gG
XX:=it 0 (Dy aL)
Ey:=by rw[fv (u=dm a) R]
oR a:=aBR _ _ (hx a)
h a b c d e f g h:=by have a:O b c d e f:=cp g h
iL a:=be (dk a b)
h4 a:=by rw[a7 e a0 a]
g8 a:=vJ a X cnt aP
iO a:=by rw[g9 (Nk a) m]
dK a b c:=Sk bR gK a (eD b) a6 c .nil fu
fG a b:=ayh a z TI d b TO
bT a b c:=aE1 (p:=fun z:a=>b) y c
uR:=cof r e
uS:=a3T b p
lt a:=Z a A B
hd b:=ox P w H h a b
uT:=(lo+hi)/2
he a:=by have⟨u,f,hu⟩:=a
hq a b:=aC Ak ae a b #[]
uU:=by subst C hw g
aFW:=aC2 i j (aC1 NM l)
lv a:=aQz rfl a5K (d_ a)
uV:=aFR/\b2 jA/\b2 kE
r1 a:=(a).yld i H x L
Ez:=Ux w r e1 a7
xS:=aZi cB cB cB cB
r2 a:=mG (bT l.1 l.2&&bT l.2 a)
hf a:=ayT C a x b2 B X c7
n a b c d e f:=by generalize(Oz).1=a,aV Oz=b,bX Oz=c,cA Oz=d,b1 Oz=e,jt Oz=f
vG b:=∀(a:Addr)(D:Gla.Plan)(b2 X G:Addr),b
jZ a:=⟨a,0⟩
iQ a:=by rw[a]
eN a b:=by simp[a,b]
iK a b:=by obtain⟨j,a⟩:=b
fK a b:=by obtain⟨Y,a⟩:=b
h6 a:=by rw[a5y a _]
xT:=bkE hv
EA:=fv pF
df a b c:=by obtain⟨a,a9,b⟩:=c
h7 a:=by have e8:=a
xU:=kA f
j0 a:=by refine aiD a
h8 a:=by refine vE a
I2:=.int j
AI:=.inl h
e4 a b:=.inr ⟨a,b⟩
xV:=by subst d0
I3:=CQ e0
AJ:=mK akR
EB:=cU this
xW:=.dK []
AL:=bkF nd
ce a b c d:=bkG (name:=Hb a) b c d
j4 a:=Ks a this
AM:=bG r.E
eQ a b:=(a).Perm b
iR a:=(XQ).aP a
gt a b:=(a).flatMap b
xX:=yU r
cU a b c:=ks a (ks b c)
xY:=xc t
xZ:=a6r (j+1)
x_:=a6d R
ya:=aDj m
j5 a:=a=aa .cell
b4 a b c:=by have a:b:=by exact c
fL a b:=x (ff a b)
AN:=x tF
aI a b c d:=by have a:b=c:=by exact d
S a b c d e:=by have a:b=c:=by rw[J d e]
ce a b c:=d a b rfl c
gz a b:=t (eh a b)
yb:=dE pF
hr a b:=an (jS a b)
yc:=dh bb
I4:=x<cnt
iS a:=by rw[T x a]
vJ a:=fun _ _ z=>a
AO:=Q v H
h_ a:=by rw[al (Nk a)]
mV a:=fun i H=>a
j6 a:=fun i hi=>a
yd:=by rw[dO,ec bL]
AQ:=er cb
ia a:=bl (ahq a)
ye:=fh X.N
yf:=mC aBV
aO a b c d:=by have a:b<c:=by exact d
I5:=a∈B
j7 a:=Q (.bool a) s
eR a b:=X a b ["drawing"]
I6:=hq 14
akW:=Ib b 12 4
AR:=(aS e8).2
bk a b c d:=arX (own:=[(a,b),(c,d)]) bH
iT a:=cz b8 a
j9 a:=x (qx a)
dh a b c:=match a with|some e=>b|none=>c
b6 a b c:=(ah a b (de c))
lw a:=by rw[a]at d3 k
T a b c d e:=by {obtain⟨a,b⟩:=c;exact⟨d,e⟩}
AS:=a≠b
yg:=ar F m g
ON:=cY a8 L
I7:=13+2^k
yh:=ee 0 xh
iU a:=(aC a p)
yi:=gb e a0
ly a:=∀v∈B,a
OO:=cs (l.2==v)
OP:=(NA iX)
oS a:=F6 (oF (.bl a))
EC:=Nz r t
OQ:=iZ ih bkH
ED:=A Y a
AU:={r with marks:=d8}
EE:=Xe z 0
hs a b:=(cG a).put b
cg a c d:=by have a:c:=fun b U=>d
oT a:=fun(x:Ln×Nat)=>a
yj:=dK I I
EF:=iQ O ar
bl a b c d:=bk j a (aa b c->d)
r3 a:=Cs K a (oz bD) (oz bD)
yk:=t _ _ q
ht a b:=PI X c7 a b
cw a b c:=aZ->a->dj b c
yl:=M i A
ym:=bV tF fy
fM a b:=bm q.x p.x*bm a b
yn:=Inv R t s
eS a b:=afg K H a b
yo:=axO t k
yp:=by rw[rt (W it bJ)]
iV a:=adf X aI a b
akX:=si a2s mL []
AV:=(·.at_)
mW a:=fun N hN=>a
j1 b c:=.inl (f b _ _ c)
yq:=xE5 o p
akY:=max i j
yr:=Im h%(cA+1)
XY:=k H ei
AW:=aiG _ _
I8:=Cd r v
iW a:=h1 _ _ a
akZ:=za B par
kc a:=d5 _ (Eb a)
AX:=UT b p
EG:=by rw[hi (bkI kI ?_)]
r4 a:=j x c aFU a
ys:=dq p.y p.x
a1 a b c d:=match a with|some i=>aa ⟨b,c⟩|none=>d
yt:=ds ax ax
EH:=Dc bx 0 lo
ib a:=by rw[aO i hi (ig a)]
ak0:=aDT e (Ej+1)
OR:=a+c+x
r5 a:=ft (@b3 pos aI s M H _ I h) a
mX a:=Sn arE a bD rz
a2 a b c d:=fe (jx eB X.w) X.A a b c d
j2 a b:=a6s s H d (aB6 d a b cF) a8
j3 a b:=aAZ a b (aqa st) (RN st) Eh .none kV p b3 g e3 ct
fW a b:=by obtain⟨e,a⟩:=b
ch a b c:=by obtain⟨a,b⟩:=a1V c
AY:=bK ao
I9:=bK jb
iX a:=fun j=>a
XZ:=["self"]
ci a b c:=by obtain⟨a,b,d2⟩:=c
lz a:=run a os
iZ a:=by have lt:=a
fX a b:=(a,.ref b)
EI:=.ref D
fc a b:=by refine aw a b
kd a:=a<1000000
AZ:=.inl bF
I_:=by delta sd
Y a b c d e:=by obtain⟨O,a,b,c,d⟩:=e
ah a b c d e:=by obtain⟨a,n,b,c,d⟩:=e
fY a b:=by by_cases a:i<b
X0:=Sem cR
Ja:=.bool b
iL a b:=.BoolOp a b pos
EJ:=vZ ?_
mY a:=cg (cg a)
i0 a:=(a).elim
j4 a b:=.Attribute o a b
kl a:=min a n
EK:=dZ ai
iM a b:=by rintro⟨a,b,e⟩
hv a b:=by rintro⟨a,b,h⟩
A_:=aew (Th _ _)
Ba:=qI (Th _ _)
EL:=aiX eX
Bb:=yE Sj
i1 a:=St a bh
Jb:=bkJ IU
EM:=a0w cB
fd a b:=by have a:b:=by grind-abstractProof
Jc:=x IV
Jd:=(aD8 j).1
Bc:=by rw[l g]
cx a b c:=by rw[l (v a b c)]
OS:=ac c0
aP b c d e:=by rw[j b c d e ?_]
i2 a:=by rw[aj (bj a)]
Bd:=mA aL
i3 a:=bs av a
km a:=a7 a aq
kp a:=Q (vn a) H
i4 a:=by delta a;simp
hx a b:=show a=b by simp
cY a b c:=cZ a (ly F7 (gi b) c)
iN a b:=an a "drawing" b
fZ a c:=bG a (b∈c)
i5 a:=by {have:=a;grind-abstractProof}
EN:=f::a7
Je:=b∉ch
cj a b c:=by rw[M a b c ai]
Be:=I->cb
Bf:=dJ L R
fe a b:=aj gP aq a b
lC a:=fun v d3=>a
P a b c d e:=mz K a b c d (oN e)
f0 a b:=jM (mg a) b
Bg:=f++[e]
oW a:=by rw[hz (gd a)]
Bh:=ez (X.K=d) aFM
hy a c:=j b o (be a) c
EO:=jw aDv
Bi:=im (ik i≠[])
ck a b c:=by rw[ak a bX b c]
i6 a:=dv a aFQ
Bj:=io aL
fg a b:=dB dG H a b
Bk:=by(simp[*];lia-abstractProof)
Bl:=by(simp_all;lia-abstractProof)
l0 a b:=mK (fr a (.fields b))
f1 a b:=BF X (.builtin a) b
ER:=jz aDv
X1:=lb (.inl m)
OT:=(Sb K l)
i7 a:=num (q_ r) a 2
aFX:=U a8 D []
ak1:=mR (dm t.1)
Bm:=aR L c1
oY b:=f _ _ rfl b
f2 a b:=hf (dj a) b
cf a b c d:=[a,.ref b,.ref c,.ref d]
fh a b:=Dw K H a b
Bn:=M o l
r6 a:=by rw[de c9 a ?_]
Bo:=il (mL akU)
Bp:=ev A (TM h A a)
cl b c d:=by rw[K b l _ (ah c d)]
vK a:=bA l xj (aj l a) cC
Jf:=xm= .empty
X2:=akg D z
cn a b c:=by rintro rfl h a b c k
fi b c:=rk cN w b c a
ak2:=mG (! aFW)
aFY:=fun y k h=>?_
aR c f g h:=by rw[e l b c f rfl g ax h]
Bq:=by rw[L a D b2 X G]
Br:=by simp only[hH,oX,Du]at m
gA a b:=by obtain⟨e,a0,a⟩:=b
i8 a:=fun j b8=>a
Bs:=by intro x S
i9 a:=eV p q a
vM a:=bkK (gC (J (aa (bkL z))) a)
Bt:=by (rw[eE,cH])
Bu:=an OA gg
ES:=b8 bF bF
X4:=by rw[bW M L]
cy a b c:=F a b Ei x c
Bv:=gd rp (g8 tH a7)
r7 a:=c3 (ag2 a) h b7
i_ a:=by show(Z a _ _)
m a b c d e f g:=by rcases aNv a with⟨b,c,rfl,d⟩|⟨e,f,rfl,g⟩
Bw:=j x v (fn x=aa v) (mg x=v)
fj a b:=by rw[ad a b q q q]
nM a c:=nI (fun y e4=>I B (b7 (e4 D) B) (eC<hC) a) c
iO a b:=sM C P w r a x b2 B X c7 b t
f3 a b:=EP X aI M Q a b
Bx:=by have f3:hC=16777216:=wg
ja a:=Mb b c P w r a y x b2 B X c7 I
vS a:=a6t (t':=dE) a F g4 h6 f4 f5
vT a:=∀(s:Shared)(H:Hp)(C:Addr)(e9:je)(a8:bg),a
m0 a:=⟨et,a⟩
cz a b c:=by rw[a,b,c]
hz a b:=by simpa[a]using b
ET:=by rw[xq]
kq a:=by rw[jC a]
oZ a:=by rw[this]at a
f4 a b:=by obtain⟨f,a⟩:=b
m1 a:=by exact .inl a
EU:=bK cb
EV:=bK gB
di a b c:=by obtain⟨d8,a,b⟩:=c
dj a b c:=by obtain⟨a,b,c⟩:=h
EW:=by {rw[xr]}
OU:=.ref e
EX:=.inr rfl
Jg:=by delta o_
EY:=by delta ahq
Z a b c d e:=by obtain⟨a,b,c,rfl,d⟩:=e
f5 a b:=by rcases S with a|b
f7 a b:=by obtain⟨a,q,_⟩:=b
kr a:=a6p a env
EZ:=.bl b
gB a b:=(a+b).toNat
OV:=Vs toV
o0 a:=by simpa[a]using this
OW:=wK aDE
E4:=bkM bF
E5:=bG d5
gD a b:=∃w∈a,b
E6:=(f_ t).cnt
m2 a:=a6u (rI a)
E7:=pv 10
OX:=pv 11
lD a:=gd (bZ a)
E8:=avh eZ
X5:=cx (dn b3)
lF a:=cx (K:=K) a
E9:=a6m cs
r8 a:=by rw[xk];exact a
gE a b:=x (mS a b)
Jh:=x (wk bF)
Ji:=v lo
ks a:=v (t a)
E_:=(Ah).1
cZ a b c:=by have a:b=c:=by grind-abstractProof
gG a b:=B a (ab b)
Fb:=t xt
kt a:=by rw[v (ax) a]
a6 a b c d:=ah a b (bo c d)
Jj:=fun x=>?_
Fc:=aV Ah
Jk:=a1 bx
Fd:=bX Ah
ed a b c:=ab (if a then b else c)
iR a b:=bh a (.tup b)
Fe:=cA Ah
f8 a b:=(le 2 a++b)
Ff:=b1 Ah
X6:=b≠oR
m3 a:=Q (.int a) H
kw a:=df gH a
Fh:=cu Ah
lG a:=by rw[bT (aic a)]
Fi:=cw aM
lI a:=fun t m=>a
lK a:=fun o q=>a
Jl:=mC cR
Fj:=Ln->Ln
kx a:=by {have:=a;lia-abstractProof}
f9 a b:=KJ X (bkN a) b
hA a b:=bv a (RR this b)
Fl:=du Ah
Fm:=by (constructor<;>lia-abstractProof)
f_ a b:=X a b ["data"]
Fn:=eC vs
Fo:=d7 Ah
Fp:=I->d
ky a:=hu (E×F×G×H×a)
c4 a b c:=em (em a b) c
hC a b:=aj gP bR a b
Fq:=by rw[dR bF]
o1 a:=by show fe _ _ a _ _ s
o2 a:=fun y b6=>a
m4 a:=R.X f (R.k a)
Fs:=by subst_vars;rfl
kz a:=upd L d6 a
OY:=HP r on
kB a:=sW+a<gG
hF a b:=eT a (fun e f=>b)
kC a:=dt a []
bd a b c d:=an (oy a) b c d
OZ:=by rw[N_]at m
m6 a:=fun u hu=>a
lL a:=(aa wU,a)
kD a:=An*(a).x
kE a:=ip (E×F×G×H×a)
lM a:=ch de (e3 a)
Ft:=v q.x-p.x
Fu:=v z.x-p.x
Fv:=aO c cR
c9 a b c:=by {have:=a;rw[am b];exact c}
bm a b c d:=sg (ea a b c) (fG d) BE
lO a:=bU a (fun v a4 P=>?_)
cA b c d:=oJ (v b c d)
Fw:=aa V V Hp VK
Jm:=by rw[oO s]
X7:=a6v B p
ga a b:=by delta a;rw[b];rfl
O0:=oP (dE+1)
ak3:=ajj j v
Fx:=Dr r z=ab
Fy:=by rw[bW l b]
Fz:=sv F h m
kF a:=by obtain⟨a3,a9⟩:=a
lP a:=ahG (an (a==v))
FA:=PA X rp t
O1:=j b o ha hc
r9 a:=fun _ _ _ _=>a
m7 a:=by rw[aj a,cH]
ak4:=fun c4=>U (ar c4)
gH a b:=by obtain⟨j,b8,a⟩:=b
m8 a:=Gg i c a
Jn:=IK D eM
FC:=a2 (a2 (Ah))
O2:=(Ac o x).2
m9 b:=oN P w b a f n
cE a b c:=ox eB X.w a h' b c
FD:=it ro j h
Jo:=vD t ((q n).j+o)
Jp:=[x,y]
hG a b:=[vn a,vn b]
O3:=by constructor<;>assumption
O4:=BR h e
FE:=Cf r z
FF:=vG F k
lQ a:=bh k (aI A (sP a))
O5:=cr (d5 a) (d5 b)<0
hH a b:=aBN (.type a) b=eU ae
FG:=UF f cnt aP
kG a:=v [a] [] 0
aFZ:=Inv X aI g0 L c1
V a b c d e:=au (a).1 (aV b) (au (bX c) (cA d) e)
O6:=(bkO i4)
FH:=aD1 h i
FI:=xE4 o p
k1 b:=Rd H a b
FJ:=max (aP a) (aP b)
gJ a b:=aEZ (aNR a (aNQ b))
o3 a:=aWz a5 n a
e4 a b c:=by rw[C (bkP (ce "__next__" a b c))]
l1 a:=fun _ H Q=>a
FK:=ch (X.K=K)
FL:=bx z.y z.x
Jq:=yG lF lF hi
k2 a:=an ["self"] "self" a
aF0:=(m::row)
FN:=jx (ar d.1 k)
X8:=mK (fr "dict" (.dict #[]))
l a b c d e f g:=aS a b (cU (aI c d e)) (cU (aS f g))
FO:=Xv r z row
na a:=∀(l:Addr)(b:Gla.Bytes),a
O7:=bk p.x/\bk p.y
gc a b:=jC+(8*aL+(4*a+b))
CF a:=j g0 L (N g0 L) a
FP:=(tr df p.i Ij).1
FQ:=by refine fH pH pH
vU a:=.ListComp t a d pos
o4 a:=Tx (vJ (a6b sb n)) a
X9:=jq c5 (oL e.1) (gP e.2)
Jr:=a6s c8 d4 d a a8
aj a b c d e:=Q y a b y (oL c d e j y=ah)
FR:=aI dq (aL "links" X aFT)
FT:=jC+8*aL+4*dQ+12*i
CI a:=lD=kB->bkQ a (eb b1)=eU (MP b1)
iS a b:=fun _ _ _ _ _ _ _ a=>b
k3 a:=by rcases a with rfl|rfl|rfl|rfl
O8:=iY (V0 r t z)
o6 a:=lc (c E F G H a)
j5 a b:=dI a (DL (xc e.1) (xc e.2))||dI (B b (bo akP)) (Cu ru)
l1 a b:=LU C H L r b2 X a b
FU:=fun e3 A eA s H vs Q E a6 h=>?_
o7 a:=⟨#[],a⟩
l2 a:=⟨?_,a⟩
sa a:=⟨eq 3,a⟩
O9:=bK Obj
Js:=bK He
Jt:=by {lia-abstractProof}
O_:=.ref c0
l3 a:=by refine Oa a ?_
nb a:=cv (0<a)
nc a:=dH (gc a)
Pa:=.inl k
Ju:=by subst b4
ee a b c:=.cons a (.cons b c)
Jv:=.str x
Jw:=.type "set"
gK a b:=bW (fq a b)
dk a b c:=by have:=a5W a (l₂:=b) c
Jx:=by rw[<-bkR]
Pb:=.dK akZ
X_:=.builtin id
Jy:=.ok T
Pc:=dZ ag
Jz:=pb (· < ·)
JA:=iY (HL r z)
nd a:=(a).head?
vX a:=(NK a).eraseDups
j6 a b:=ir (bZ (o:=a) b)
gP a b:=mA a (da b)
sb a:=(a).isNone
JB:=cx b3
JC:=bkS a5
JD:=aE9 ?_
ng a:=bkT a rfl
l5 a:=cG (bZ a)
JE:=agy row
gQ a b:=Nat->a->b
c_ a b c:=by have a:b:=by simpa using c
Pd:=xo=ab
hJ a b:=by simp[a];exact b
JF:=GF b p=ae
gR a b:=by {rw[aj a];exact b}
dl a b c:=by {rw[aJ a,aJ b];exact c}
l6 a:=by rw[v ?_ a]
Pe:=be (H b)
Pf:=be (a6w b)
hL a b:=L (dj a) b
r b c d e f g:=by rw[j b c d e ⟨f,g⟩]
JG:=hm cE
sc a:=Q (vn a) L
Pg:=Q bc L
JH:=Q (.ref F) L
JI:=e8.2.1
Ph:=aw ?_
JJ:=bh ak0
j7 a b:=ae (yG n a b)
nl a:=by intro aI s M H Q I a
gU a b:=by rw[Z (bW a) b]
JK:=mC Nat
JL:=(v,x)
Pj:=jr Ao
Pk:=js rfl
Ya:=Q ah s
Pl:=hq 16
JM:=(u,v)
JN:=OB∈bX
JO:=by rw[cw q mY]
JP:=I->aQ
da d e f:=by rw[ah d (cx e) dr f]
l7 b:=cy (.tup b)
Pm:=db xp
nm a:=va K H p a
e7 a b c:=by {rw[fY a];exact⟨b,c⟩}
nn a:=by have:=a;rw[gj]
JQ:=c5 4 4
eh a b c:=X a b ["drawing",c]
JR:=vz cE
JS:=hZ k A
a7a:=fun b1 a4 P=>?_
gV c d:=eT c (fs d)
JT:=ad l o
bn a b c d:=PS X (.Assign a b c) d
Pn:=t M H Q
l8 a:=by {rw[a];simp}
gW a b:=by rw[aj a4 a (bZ b)]
JU:=by rw[jF vs]
iT a b:=by rw[jG ⟨a6x a _,b⟩]
l9 a:=∀(l:cI),a
Po:=aS n i
JV:=di g Z
Pp:=by (split<;>simp_all)
JW:=gf pos a7
gX a b:=(.inl a,.int b)
Pq:=a1 a b
Yb:=dO c 0
no a:=dZ (by rw[cz,a];rfl)
hR a b:=hB a=aa (ac b)
mn a:=be a Hp VK
h0 a b:=Cs K a Sm (oz b)
JX:=mT bh
JY:=fn n i
db a b c:=x (uW a b c fy)
JZ:=r0 (jy eT)
J0:=sW+1<gG
ak5:=W i m M H
J1:=by have i9:=eY
J2:=by rw[VQ,Nl]
iU a b:=by obtain⟨ar,rv,a,_⟩:=b
gY a b:=e7 (x∈a↔x∈b)
Yc:=mQ F k v
aF6:=k a b=ab
Yd:=k b u q
J3:=GQ K h A
sd a:=r4 (c≠a)
ak6:=aDO (gI 4)
mo a:=sJ a v K
J4:=fun d nd=>?_
o8 a:=Z a (i e) 0
ak7:=dh lW 1
J5:=dL Ln Nat
mp a:=vK (bV a)
Pr:=iI XW Em
mq a:=ahV R J a R.n w
J6:=by rw[cG q2 f6 h.s]
dL a b c:=au (vM (UU a b c))
bo a b c d:=by generalize a=b7 at b5 b c d
Ye:=Us t p
ak8:=vK D W
o9 a:=by have e:b=a:=by simp_all
Yf:=K a7 p e
aa a b c d e:=by rw[a0 (jq a b ae) c (agb d e)]
np b:=a1 ia/\li a/\b
Pu:=as gL rfl rfl
J7:=ahe j d aO f R
J8:=aO tI (eh×cR)
gZ a b:=by rw[z h8 (uX a) b CW]
h1 a b:=cc Aj w l a=cc Aj w l b
J9:=XU+akW
J_:=iQ b c7
Pw:=.dict a7 e1
aF7:=by obtain⟨rfl,_⟩:=b0
Ka:=Loc aho x
ak9:=jx eB X.w
g1 a b:=bkU c2 (ft a b)
Px:=bkV i H
Kb:=den r e
mr a:=HL r z a
Yg:=bkW i m
o_ a:=ks (Ck r a) (yV r)
ms a:=at_ a i h
iV a b:=a4M d0 hd a b
mt a:=Z a _ _
mv a:=fe (jx eB X.w) A a Q E s
Kc:=fH (fun c=>?_) (fun c=>?_)
iW d e:=by rw[z x dx d gJ e]
Ke:=eV p q z
Kf:=bp ae ae
g2 a b:=X a b ["data","place"]
bC a b c d:=er (l+(a+b)) (J+(c+d))
bD a b c d:=es (l+(a+b)) (J+(c+d))
Kg:=ci aL (oI (bT (t (ik i)) 2))
Kh:=ci aL (oI (!(am XX i ah)))
Ki:=a6y X.K fd c5 c7
iX b c:=f a _ dx _ b dS c
dc d f g:=vG (e [bc] Al d f g)
Kj:=ez (aBa x=ab\/ld (MK x)) ahC
a7b:=nM (w (U e4 D (eM B))) (w d4)
Kk:=a2P T X E
Py:=afE nx k6 l0
Pz:=V u vs (Cr A u)
a7c:=fun e c1=>R Am c1
PB:=[x,y,g,q]
vY a:=Cut r a z A B
Kl:=by rcases H with H|H
g3 a b:=aWZ cA k c0 a b
Km:=TI t k a7
Kn:=a51 r z row
ns a:=fe (jx eB X.w) X.A a Q E s
em a b d:=∃W:aa Nat Nat a Hp,(∃m,b)/\∀i m M H,d
pa a:=fun i h h' st k=>a
mw a:=by intro x a nx k6 l0
a7d:=E L (w L) (vA (W (i+1) f7 L))
g4 a b:=by rw[i b7 a b d4 c8 e7]
CK a:=∃W:dL Nat Hp,(∃m,W 0 m aFX)/\∀i m H,a
PD:=by obtain⟨u,b,e,k⟩:=a0I h
ak_:=CF (vA (W (i+1) f7 g0 L))
j9 a b:=by show KG a b _ _ _
cg a b c d:=[.int a,.int b,.int c,.int d]
PF:=bkX i H x L
bE a b c d:=fun(l:Pt×Pt)=>(min a b,max c d)
aI a b c d e:=aO6 a (bN b aY) (aha ax) rfl c d .nil fu e
Ko:=vf eB X.w X.K mJ sS T k f fd c5 e8
Kp:=@aE2 _ _ _ _ ?_
b0 a b c d:=PoI a P w b d0 x X c7 I W c k d
Kq:=@aE8 _ _ _ _ _ _ _ _ _ _ ?_
h5 a b:=∀(kV p b3:Value)(g:nk)(e3 ct:Value)(b1:aM),CI (j3 a b)
nt a:=⟨o,a⟩
iY a b:=⟨gb a,b⟩
PH:=bY aFJ
PJ:=bY bT
PL:=bY aDm
PM:=by rw[cH]
kc a b:=by obtain⟨w,a⟩:=b
pc a:=by exact .inr a
nw a:=(vx (vx a))
PN:=(Sd lo n)
dm a b c:=("Sweep",a,b,c)
dn a b c:=("Record",a,b,c)
PQ:=fv cb
PR:=fv Nat
PU:=fv jb
dp a b c:=by obtain⟨v,a,b⟩:=c
PV:=by split at e
Yh:=.ref k
Yi:=.ref lst
nA a:=cv (b2 a)
pd a:=.inr (.inr a)
h8 a b:=.cons a (hw b)
PX:=bj a9
PY:=aBy vn
PZ:=fw d0
se a:=by obtain⟨_,e⟩:=a
ab a b c d e:=by obtain⟨a,b,c,d,e⟩:=h
dq a b c:=by rcases a with b|⟨a3,c⟩
P0:=by simp at S
h9 a b:=by obtain⟨a,q2,_⟩:=b
nC a:=by simp only[a]at h
Yj:=bE ?_
nE a:=aqi (aC a)
P1:=by simp only at s
nF a:=min a e.2
P2:=R.k kH
P4:=R.k hb
pe a:=ind (h∈a)
P5:=aFy jO
pf a:=pA (iq a)
nH a:=yX (jI a)
P6:=aiX ak1
P7:=aE6 ?_
P8:=bV Ab
P9:=by dsimp only[ac']
Yk:=.live i
P_:=bkY vn
Qa:=aFh vn
Qb:=a6r (i+1)
Qc:=a6c wU
i a b c d e f g h:=by obtain⟨a,b,c,d,e,f⟩:=g;exact h
ia a b:=by have:=a;exact b
nI a:=x (aNm a)
Qd:=x (dH rfl)
aF8:=cr (a2 z)
nM a:=by rw[fz];exact a
ds a b c:=by {rw[a,b];exact c}
Qe:=by rw[C fO]
Qf:=HM r z=ah
Yl:=fun m=>?_
Qg:=dE a2w
Qh:=dE bkZ
Qi:=jp bz
bp a b c d:=b7 (upd a x b c) d
Qj:=bn (ph z)
Qk:=ae nj
Ql:=ah ai
ib a b:=df (bG a) b
ic a b:=ae (mem a) b
nN a:=by {have:=a;simp_all}
Qm:=eB (par c)
Ym:=e.1<e.2
nP a:=by rw[a];simp
nQ a:=ga (l1 a v)
nR a:=E i (i<n) a
du a b c:=Y a ["self",b] c
Yn:=ed e m.1
kd a b:=em a (a7 b kL)
Qn:=i<=n
Qo:=g6 H r
nS a:=fun p q=>a
nT a:=bX 138 a
ak':=0<=w x
Yo:=aDV x 0
Qp:=by rw[El];rfl
Qq:=hZ k X.A
Qr:=rm rC
br a b c d:=by have a:b:=by rw[<-c];exact d
Qs:=ez (X.w=w) aFM
Qt:=eS aq
Yp:=gS y v
Qu:=ee 0 (.int D.w)
Qv:=aI dq aFT
Qw:=ad a o
Yq:=by intros;simp_all
Qx:=t<R.n
sf a:=aC (ne a) e
Yr:=cz b8 q
Qy:=i<=bx
Qz:=cs (l.1==v)
ala:=(bp h.1).y
alb:=(bp h.2).y
QA:=(Sb K a)
QB:=p.x<=r.w
QC:=z.x<=r.w
i0 a b:=vV a=aa (.builtin b)
QD:=U b7 D []
QE:=hF hd
sg a:=fun J c1=>a
QF:=J.1*J.1
QG:=aa V af Hp VK
QH:=by have p:=p
nV a:=(.inl a,xh)
dw b c d:=by rw[j b c ?_ ?_ d]
alc:=dQ H _
QI:=y≠x
ch a b c d:=by have a:b=c:=by have:=d;rw[gj]
QJ:=Y (fq q d1) q
ald:=bm q.y p.y
Ys:=(a6z (c[·]?))
QK:=(a6z (a7[·]?))
QL:=W6 i t
QM:=vr H L
QN:=au Nat iO
QO:=PA X [e] d6
QP:=by rw[d2]at p k
aF9:=zW bh F b
ac a b c d e:=by rw[M a b c (by rw[gh q d,fw e q,kK])]
QQ:=jJ 2 64 jH
id a b:=by have a3:a:=CJ b
QR:=(CH a3).1
QS:=ci n p
dx a b c:=I dx a b c ake
Yt:=V b a8 IX
ale:=oT (mL XR)
QT:=lM<=8192
QU:=h b U
pg a:=Hn a bh h'
QV:=sY a6A ns
nW a:=cQ (SQ R a) gH
QW:=HU p l
ie a b:=num (Gy r++B) a b
nX a:=K O a x
QX:=aa g xv
dy a b c:=by have a:b:=fun i hi=>c
QY:=dK Nat Ln
QZ:=aI hL (sP .bC)
n0 a:=by rw[gf (bk0 a 2>>=_)]
n1 a:=(hM).is a K b
i1 a b:=ap (vE df k a) m b
n2 a:=(yu (fn p.1),a)
Q0:=k b o b0 e
alf:=by rw[a5J]at c9
n3 c:=by obtain⟨a,b⟩:=c
ig a b:=by obtain⟨p,c2,a⟩:=b
Q1:=y::d7
alg:=.yw o u
Q2:=mK (jw #[])
bG a b d e:=c aZ a b d (dj e IW)
sh a:=ac sb b U a
n4 a:=by rw[iK b8 (aFi a)]
Q3:=by rw[b7 a3 e9 h.p]
bI a b c d:=bk i a (b->(i<t c↔d))
n5 a:=H5 r x=a
pi a:=fe d5 A a Q E s
Yu:=BG J d6 c3
n6 b:=a (.int b) H ry ek q
ih a c:=ayk a e it c d b u
ii a b:=by obtain⟨y,b6,a⟩:=b
Q4:=de<=4096
Q5:=cv (XR=0)
Yv:=fun l a5=>?_
Q6:=fun y b6=>?_
i2 b c:=v=bc/\b/\c
n7 a:=a7 a (r3 aq)
Q7:=(v r.w+1)
v0 a:=fun O H Q=>a
Q8:=b8 eu fm
n8 b:=by rw[dl (.inl b) ?_]
Q9:=jd%t (Z++d)
alh:=K f x l
pk a:=M (eA x rp) a
dB a b c:=∀{l:cI},a->b=c
Q_:=iH N c J
Yw:=fW K a8 a O
n9 b:=by have⟨a,d0,b3⟩:=b
v1 a:=Hr XS A a R s
ij a b:=i3 _ _ a (i0 _ _ b)
Ra:=by rw[bE d2 e9 h.c]
si a:=fun b o _ _ b0 e _=>a
of a:=∀b1:aM,lD=a->P b1
kl b c:=f (b-jd) (bn (aR Z) c) Z u
Rb:=vU [d c7 Hq G 0]
ali:=(aB0 eX)
sl a:=.list (B a dT)
Rc:=a22 h i
Yx:=c e<c f
Rf:=RX o p
ik a b:=BA eB X.w a b
ol a:=d6 _ _ a
op a:=b8 M H a
Rg:=256^w
km a b:=by obtain⟨t,a,f6,_⟩:=b
Rh:=sY aBq d8
Yy:=by delta dst aDh
Ri:=by rw[ak,<-qK]
Yz:=Vw a (N9 c W)
bs a b c d:=by rcases bk1 a 0 with b|c|d
Rj:=ff bF bF
Rk:=o_ OB (v,b)
Rm:=ed l a5
Rn:=(aF0).zip row
or a:=aCP _ (yK a)
Ro:=.lead row m
os a:=(a).seq a5
bK a b c d:=by rintro M a⟨⟨b,rfl⟩,c,d⟩
Rp:=a5V r t
pl a:=v [] a .nil
Rq:=x (bk2 _ _)
Rr:=fun j b8=>?_
dC a b c:=B a (dJ ⟨b,c⟩)
i3 a b:=by {rintro M L⟨_,a,_⟩;exact b}
YA:=bk3 j b=ah
alj:=k b a=ah
sn a:=fun _ _ _ _ s e0=>a
Rt:=ee D.h xh
dO a b c:=.Call (j4 a i) b [] c
i4 a b:=eV (bp a) (bp b) z
Ru:=be j J
v2 a:=cA (bk4++aI) a
ov a:=by rw[bG rfl U a]
Rv:=ez (eB=g) aFM
Rw:=ci aL (Wj Wk aL)
alk:=(lC t n q)
i5 a b:=E c1 a (Q b c1)
bt b c d e:=K b c d (ce e) ?_
kq a c:=ac c0 b (hi hh a) c
Rx:=he D.h D.w
il a b:=a=z.y/\z.x<b
Ry:=CB tl pw D i e
Rz:=CB OE Eo D i e
YB:=KT H F O
RA:=dh OA (IU+1)
YC:=[c5,h',ip,il,jA,kE]
im a b:=fe (jx cN w) A a b E s
io d e:=by rw[z x W d gJ e]
pm a:=(by simp at a;omega)
a7e:={nx:=fun _ L=>IY,rt:=Q}
l2 a c:=aEu (T:="StopIteration") (b:=ab) a bk5 c
RC:=gd [e] [(ah,tH)]
po a:=fun i h st b U=>a
ip b c:=by rw[ak e q b];exact v a e c
v3 a:=["width","height","points",a,"marks"]
ep a c d:=vp b N n f a c d
RD:=vz w h b2 X G
ow a:=G8 u CR A a k o N
ox c:=s_ aP a b c
pp a:=aQV Y nd W a
alm:=DD r i l
ir a b:=aqS (i:=a) bk6 rfl (a6B rfl) b
oA a:=aOo rfl a6C (d_ a)
RE:=.set a7 e1 t
oB a:=rk a TI (.ref c2) (.ref N)
is a b:=UE par B a b w
bv a b c d:=by have a:E j b c:=fun j b8=>d
aln:=di 0 (yQ r (bp t) jc)
alo:=a+c+x+z
l3 a b:=by rw[ak a (d b bH cS b1)]
oC a:=aFC bI dJ L J a g ls
oD b:=by cases x;exact v [] b (fun a m=>cy m jN)
RF:=by rw[co l b p]
YD:=by rw[bk8,bk7];kernel_rfl
i6 a b:=bj a (j (i+1)) b (fun x L y=>?_)
pq a:=∃g0 L,aFZ/\a
CL a:=(a).foldl (aFf r v) []
kr a b:=by simp only[MU,ie]at E;rw[a];exact bt b
RG:=tm (mQ (bi p.x r.w&&bi p.y r.h)) ih dd
pr a:=fun a7 a8 a4 n1 b4=>a
RH:=by rw[al J R g ls]
alp:=∀vs H Q E,aFV->iS=kB
a7f:=#[e0 lo,mN hi,.int 1 v]
aJ a b c d e:=by obtain⟨a,e7,f5,rfl,b,c,d⟩:=id e
RI:=bk9 XS A env a7c
YE:=by rcases O y k h with⟨rfl,rfl⟩|⟨_,h⟩
RJ:=tm (r2 aL) kD bX
alq:=L1 F k b v
ps a:=by rintro i M L hi⟨_,a,_⟩
bx a b c d:=go (aq9 yB yB (gi a) b (gi c)) d
RK:=asn _ _ _ _ q
CM a:=∀(l:Addr)(b:Gla.Bytes)(p:Nat),a
alr:=fun b o e n U S=>?_
dE a b c:=kc bk_ awT a6 ax rfl (ve a (ve b (ve c Sj)))
so a:=F9 (aYN (K:=K) (w:=w) rfl rfl rfl) bH bk' aTg (d_ a)
dH a d f:=∀(J:Addr)(R:GM.bT)(g ls:Addr),e [xn] nu a d f
RL:=by rw[jg,bu,fk,bu,fk,bu,fk,bu,fk,bD XY]
dJ a c d:=by rintro i a c L h4 N d s⟨b,rfl,U⟩b6 d1
YF:=by cases z
kt a b:=by obtain⟨g,a⟩:=b
i7 a b:=by obtain⟨a,h⟩:=b
dP a b c:=by obtain⟨B,a,b⟩:=c
eq a b c:=by obtain⟨a,d0,b⟩:=c
YG:=by split at h'
YI:=by rename_i c3
YJ:=.ref b2
YK:=.ref xa
YL:=e8.1.2
YM:=Mt "list"
YN:=.int d
pt a:=a<=1048575
YO:=.inl e
YQ:=by delta ind
als:=.tup d7
YR:=.own a
i8 a b:=by rcases a with e|b
ku a b:=by obtain⟨a,d2,_⟩:=b
pu a:=tC (.int a)
YS:=.bl ab
pw a:=by simp only[a]at this
px a:=cg (dl a)
sp a:=ag5 (t':=ahz) a
py a:=by rw[<-a]at e
i9 a b:=by simp only[a,b,mM]
i_ a b:=(eK a).filterMap b
ja a b:=show a by exact b
YT:=by simp only[bla]
alu:=bG r.A
alv:=bG r.B
pz a:=pj (x a)
YU:=iY (H4 k)
pB a:=(a).toList
sq a:=bM (i:=i) a
v4 a:=(a).length_le
YV:=aC9 R.d
pC a:=(aV (TQ a rfl)).c
dQ a b c:=by generalize a[i]=b at c
pE a:=Cw (lm a)
kv a b:=ax0 a (fun o d0=>b)
YW:=a6D l.2
YX:=a6D l.1
YY:=aFt row
YZ:=(lJ e).2
jo a b:=x (aqe a b fy)
Y0:=V3 r=ab
p0 a:=a00 K a=ab
p1 a:=a3i a ab=ab
p2 a:=by cases x;exact a
Y1:=(cP).1
p3 a:=(x a a0).1
Y2:=(wy e).1
jp a b:=by rw[l ⟨a,b⟩]
p4 a:=ps r a=ae
Y3:=t (a5 x)
jq a b:=by rw[C (aEI a rfl b)]
alw:=be (L b)
Y4:=be (H a)
Y5:=fun e=>?_
v5 a:=bh (Xj cnt a)
Y6:=(r.w+1)
v6 a:=(gJ (a<1000))
sr a:=by delta a;simp[*]
b2 a b c d:=by delta a;rw[b,c,d]
p5 a:=by rw[cz,a];rfl
Y7:=er Nat
dR a b c:=by have a:b<c:=by simp_all
bM a b c d:=by have a:b<=c:=by exact d
bN a b c d:=by have a:b=c:=by rw[d];rfl
dS a b c:=by have a:b=c:=by subst_vars;rfl
ss a:=fun b u e=>a
Y8:=Q ab s
Y9:=b∉ex
Y_:=x (mE (mE Ag))
p6 a:=fun y b7=>a
alx:=tj lO jw
aly:=Pt×Nat
alz:=x (aMl b1)
Za:=ed (mP n)
su a:=fun y a8=>a
Zb:=bh (II 0 blb)
Zc:=aI C []
bT b c d e:=m b _ _ (v c d e)
Zd:=ft (Wp i w)
p7 a:=(aC a4 a)
p8 a:=(aa a,[0])
Ze:=gg r.h
alA:=Gv r z jc
a7g:=x≠"__name__"
Zf:=An*z.x
Zg:=by split<;>simp
p9 a:=F6 (oF (.int a))
Zh:=Nz r v
qy a:=num (q_ r) a 4
Zi:=A l a
ak a b c d e:=sg (ea a b c) (c8 d e) BE
Zj:=by rw[e]at d3
qz a:=by rw[a,ahX]at k
qA a:=∀(l:ba),a
qB a:=fun b u q=>a
qC a:=le (jJ a)
Zk:=gf pos []
Zl:=a6v k p
aF_:=x<(Ai).cnt
aF':=i∈cF (Xw k)
Zm:=jJ 2 64 fh
sv a:=fun z c9=>a
Zn:=yD K C
alB:=sd Aj h
Zo:=tf J d
Zp:=fun t h7=>?_
Zq:=d8++[b8]
Zr:=lS i++[b8]
Zs:=ju (vB OE)
Zu:=ju (vB (tl))
Zv:=.ins dq W (qL R B X c7)
Zw:=by rw[iF O b1]
Zx:=by rw[iF vs b1]
Zy:=by have E:=eC
qE b:=upd d4 a b
bU a b c d:=by obtain⟨a,b⟩:∃c:Int,d:=ek
alC:=qS j i
Zz:=Ea 0 c
alD:=t (ju OO)
ZA:=by (intros;simp_all)
qF a:=E v (v<R.n) a
bV a b c d:=iN ["drawing",a,b,c] d
jr a b:=by rw[oW (ac [a] b)]
ZC:=PT X a g
ZD:=by rw[a1 rv p OG]
ZE:=j b u (eB (Hm b)) (eB (gU b))
ZF:=RO K C m
ZG:=c3 _ _ q
ZH:=by exact MQ x
aGa:=ag1 a7 cF
ZI:=(f_ gk).row
ZJ:=a6E Ca a
alE:=2*dQ+1
qH a:=(eH).below a=ab
qK a:=L (oR U) a
ZK:=fW K H p O
ZL:=bj e d3
ZM:=by rw[b2 p.1 k]
ZN:=lS (Dy aL) i
alF:=vB H l Y (d9 a5)
alG:=zt (sZ+1) mL akX
alH:=⟨q,e0⟩
ZO:=f∈gH
ZP:=h e a0
alI:=aDk i H
ZQ:=WE x T
ZR:=a2 (jt cP)
ZS:=cR x y
ZT:=lY++[u]
ZU:=ad dx (.own k)
qL a:=fun M H R=>d6 M H a
ZV:=b8 l.1 l.2
t a b c d e f:=by rw[M a b c (by rw[b4 d e];cases f)]
al a b c d e:=by rw[ca (ah a b (bZ c d e))]
dT a b c:=mz K dJ a b c XZ
qO a:=fun m M L=>a
ZW:=eZ _ ?_
qP a:=by rw[cs d3 a 0]
a7h:=cs (l.2==e.2)
ZX:=by rw[bl hu m (blc S)]
alJ:=hs (tw H) bJ
bW a b c d:=aJ a b c (mS (au (z.2 _ _ d)))
ZY:=eh->bY af
am a b c d e:=by have a:ap b c d:=by rw[cz,wM e];rfl
jt a b:=bU a (fun v a4 e0=>by rw[r x a8 r r1 d2];exact b)
v7 a:=(Hu (·.push a))
ZZ:=aD_ cN w K
qR a:=by have⟨lk,e,d⟩:=a
qT b:=fun a m O e=>b
Z1:=vY (f_ t)
ju a b:=K3 K x a st f b
qW a:=fun _ _ _ H _ I h=>a
qX a:=by have b6:=b6 _ a
alK:=[e7]++ws
dZ a b c:=by cases a with|true=>{exact b}|false=>exact c
qY a:=v_ (fJ a c0)
sw b:=a.2.getD b ab
Z2:=.mark i m
q0 c:=mB (fu (mB (il c)))
q1 a:=v lk a d
aGb:=fun w hw=>?_
q3 a:=(Z a (i e) 0)
sz a:=BI O a=aa v
Z3:=by rw[b2 j i]
Z4:=by rw[tP];cases z
Z5:=by rw[ee (axi q)]
Z6:=U b7 X hg
kw a b:=by cases a with|error e=>{rfl}|ok b=>rfl
jw a b:=dh a Am (.ok b)
Z7:=B_ a5 B par Z
Z8:=Itc lo c n
Z9:=sC H b8 m
Z_:=cR->cR->X0
sA a:=Cs K bO (oz a) Sm
aaa:=by have Z:lG pM "zip":=bm c9
q4 a:=ah' a5 B par c a
aab:=CL (Xn i)
l4 a b:=fun x G=>by rw[bT (HR G)];refine Li Z a b ?_;simp_all
aac:=PK->jQ
aad:=Av+c5 12 4
aae:=((OP).st aL)
v8 a:=by rcases a with k|k
alL:=a1g CN mg
aaf:=by intro e a0
q5 a:=.Subscript o i a
aag:=Itt K a
aah:=yD X.K C
alM:=oV _ _
alN:=by apply bld aT
aai:=min a b
aaj:=min (aP a) (aP b)
aak:=h6 b U
jz a b:=by simp only[bG,c_,a]at b
q6 a:=(NA blf).lb a
aal:=us4 (r9 nh)
aam:=DL l.1 l.2
d3 a b c:=aQh xB a b c rfl
d4 a b c:=aN' a (aN_ b c a6F)
aan:=UQ x I
alO:=Xz D eM
aao:=aZC cB cB
aap:=blg B u
aaq:=a58 r B
alP:=a0c b p
alQ:=a5_ b p
q7 a:=wB p q a=ab
aar:=aO TE TE
aas:=f++[cnt]
aat:=M c i
aGc:=fr "dict" (.dict #[])
es a b c:=dH ((ay6 a).go (dj b)) c
q8 a:=by show eU a _=_
aau:=nj+1+fj
alR:=dP (a7 aw1 av)
alS:=bk B (x<n)
aav:=dq p.1 p.2
aaw:=bV (0::gI 1 fh)
aax:=fr (.tup (blh kV))
aay:=c7 d j
q9 a:=by rw[bG h2 e2 a]
alT:=im (2<=t (ik i))
aaz:=by injection h with a3 a9
alU:=Dc bx bx hi
v9 a:=fx a (e.2=dm b)
ra a:=by rw[b2 _ a rfl]
alV:=Xv r (bp t) akS
sB a:=dZ (by rw[cz,cz,wM a];rfl)
wa a:=mW aDd aDc a=ah
jA a b:=by rw[aW l a5 a b]
aaA:=a6y K fd c5 []
aGd:=mQ (bi p.x D.w&&bi p.y D.h)
aaB:=.ins dq W (qL R b3 X c7)
aaC:=ht Hq wi
aaD:=a6G c5 h' m
aaE:=ps r x=aa T
d5 a b c:=by rw[e a L d6 b d6 c]
aaF:=l0 "range" a7f
wb a:=fun g h=>b3 g a
aGe:=(yS _ _)
aaG:=iH r.N ee lX
aaH:=ln e.1++[e.2]
rb a:=aL (by rw[iH j (Nd S)];exact a)
aaI:=tm (WA r) mV dR
alW:=.Compare a [j] [b] pos
ev b c d:=a b c a _ dx _ _ rfl d
wc a:=fun e a0 lt=>a
aaJ:=[x,X,c7]
aaK:=mu R e f
aaL:=ee (cf t) y
CN d:=by rw[bn a OF (w rfl (dq b4) a _ d)]
sC a:=fun x y H Q=>a
aaM:=oS (bi i j)
aaN:=fun v a8 a4 d5=>k v a8 a4 d5
alX:=aiZ P h vs c7
sD d:=by rw[ah b c dg (bh rfl b c d)]
aaO:=fun h' f7=>bd (vS (jE (f7 b o U e)))
aaP:=a5F z TI TO c2 N a7 d5
alY:=⟨⟨l⟩,bli⟩
aaQ:=blj K=aNe
aaR:=[a,b,c]
an a b c d e:=by refine auy F.w F.h a b c d e
bX b c d e:=cg (a _ rfl b _ c d e)
CO b:=bll (.builtin "type.__call__" ⟨b,a⟩)
aaS:=jq O lo hi
alZ:=nx k%aEn
d7 a b c:=aUN (aV (TQ a rfl)) (zzJ b rfl) (jo c)
al0:=neK (K:=K) rfl wt
e8 a b c:=aQu rfl a6C (yZ a b c)
aGf:=lZ/\jW/\I1
sE a:=bN a (ax:_<=5)
nN a b:=by rw[bE q p h];exact v vs a b
we a:=N a aFR (b2 jA) (b2 kE)
aaT:=fun g0 j1 z=>z
ex a b c:=V e a (z j b (e.2= .ref c))
aaU:=(tr cA i f).1
wf a:=[a,.ref d8,.ref j,pL]
aaV:=[x,X,c7,I]
aaW:=aI dq (aL "passed" b2 [])
wg c:=fun b o a f e=>c
aaX:=by rw[df ls f6 h.l]
jB a b:=Un G ex H a h b
aGg:=fun _ _ _ a b=>vk a b
rc a:=by obtain⟨b1,b4,b9,e7⟩:=a
aaY:=by rw[aF7];exact cy ax b2
re a:=cg 71 76 65 a
jC a b:=(a==b&&a1U== .function&&vR n==aa .cell)
aaZ:=by rw[bn a b3 ⟨(bB),fun d nd=>?_⟩]
jD a b:=∀{Z:Row}{g:Nat},a->b
jF a b:=ahB P w K c7 a [it] it (fun i h=>b)
ey a b c:=atD (r:=r) (Lp Z) hi c0 ne (P:=a) b c
wh a:=∀(w:World)(os:OsState),a
bY a b c d:=by refine aV5 (i:=a) (lo:=b) (hi:=c) (n:=d) rfl akT akT
rg a:=by rcases a with c9|⟨d,fl,c9⟩
aGh:=Y b o a e
jH a b:=@a aI a4 M a8 b r d2
a7i:=∀x,blm Hq cF x=eU x
l5 c d:=by rw[b J dx hd tU J c d]
rh a:=fun aI s M H Q I h=>a
al1:=a 0 0 [] [] []
ri a:=by rw[e7 q (ax) (fin 2 a H ei k)]
jI a b:=bln (F2 I d8 c4 a (Vt (r5 a7a) c0 b))
rk c:=by rintro a b⟨b3,U,ne⟩c
fb a b c:=hZ k (ag' a)->aFV->z t (qA b c t) (t a7e (MS N vs) H)
ap a b c d e:=vf P w K mg aj so a b c d e
rl a:={mask:=a,place:= #[],dummies:= #[],finger:=0,led:=ab,moves:=0,plain:=ab}
fc c d e:=by rw[g a D b2 c G i (gh d) e]
aa0:=by obtain⟨z,ar,n,J,a5,e⟩:=a6H a
d_ a c d:=CK (X (W i m H) ((a).stop i H) (k H) ((c).go i H) (∃w:jf,(a7d)/\j x L (r1 d) (gg tG a7b)))
aa1:=@aE6 _ _ _ _ _ _ _ _ ?_
sF a:=⟨dx,a⟩
al2:=aa .bC
sH a:=a= .function
sI a:=by rw[ls a]
kx a b:=by obtain⟨W,a⟩:=b
ez a b c:=by obtain⟨a,b⟩:=lJ c
kz a b:=by obtain⟨a,b⟩:=e0
al3:=["calls"]
al4:=by {contradiction}
al5:=.ref sl
al6:=.ref T
aGi:=Mt "tuple"
al7:=.int (lo+cf i*c)
al8:=.inl (sr _ _)
al9:=.lst []
al_:=by rw[<-this]
al':=Sem cb
sJ a:=aOA (iS q a)
ama:=by simp only at h
amb:=by simp only at k
kA a b:=by simp only[a,b]at e
kB a b:=by simp only[c_,a,b]
kC a b:=(a).filterMap b
sK a:=cQ (BR h) a
amc:=r.aQI I
amd:=r.aQJ I
ame:=(XQ).cnt
amf:=(ng D t).row
amg:=bp f.1
amh:=bp f.2
sL a:=SW (r:=r) a
ami:=aRT (SW _)
amj:=.refl _
amk:=Ww (bo tT)
aml:=gi T.avB
b3 a b d e:=axm (lo:=a) (n:=b) (c:=d) e bL
kE a b:=a5U (bZ (o:=a) b)
b4 a b c d:=aj_ (bZ (o:=bW a b c) d)
amm:=aqC ?_
amn:=XM (akH a3)
sM a:=by rw[cH];exact a
aGj:=(aD8 j).2
amo:=(wy e).2
b7 a b c d:=by have a:b:=by simpa[c]using d
kF a b:=x (FW (ml a) (Ku b))
amq:=x (HI bF)
amr:=x (VX bF)
sN a:=a0Z K C a=ab
ams:=a0X K C=ab
amt:=blo b=ab
amu:=blp blq=ab
eA a b c:=by have:a:=b;exact c
amv:=v (aP a)
amw:=v (aP b)
sQ a:=(VO Y a).1
b8 a b c d:=by have a:b=c:=by simpa using d
kV a b:=by rw[l (FW (ml a) (Ku b))]
amx:=vN b=ae
amy:=Hm d=ae
k1 a b:=by {rw[<-a];exact b}
sR a:=by {rw[b_];exact a}
sS a:=J (gy z a)
amz:=a56 aiw=ah
sT a:=fun _ z=>a
amA:=ci (bp hb)
l6 a b:=fr a (.fields b)
sU a:=fun _ _ e=>a
amB:=e∈tQ
sW a:=fun t h7=>a
eB a b c:=by have a:b<c:=by grind-abstractProof
amC:=Ln->fB
amD:=b∈ik a
amE:=Str->bY aBV
k2 a b:=an a "data" b
wj a:=ch (a=eU ah)
amF:=by rw[a6 this]
aGk:=bt (DA _ _)
k3 a b:=by have e:a=b:=by grind
amG:=b∉vS
amH:=aP t ?_
amI:=cy (aI C G)
amJ:=dI t I7 p
sY a:=ih (gC not a)
amK:=M o d6
amL:=Gl X "list"
l7 a b:=by have:=a;rw[hH rv];exact b
sZ a:=by rw[k6 (mR 0 a)]
s0 a:=by rw[k6 (mR a 0)]
s1 a:=fun b o b0 e=>a
amM:=(ef).x
amN:=(eF).x
amO:=(eG).x
amP:=dx (bp hb)
amQ:=ls++[e]
amR:=ee 0 (vn C)
amS:=ad p o
amT:=j 0 M H
amU:=ge "list"
amV:=bs aq bb
s2 a:=cc Aj w I0 a
amW:=[e,it]
amX:=gl r.w
amY:=l∈AD
s3 a:=ch de (e3 (cF a))
amZ:=Va y=aa c
am0:=by split<;>lia-abstractProof
am1:=aO Key cR
am2:=by rw[jD (VN e)]
am3:=by rw[jD (VM e)]
am4:={T with marks:=d8}
am5:=gZ (gz h)
b9 a b c d:=X a b ["cartoon",c,d]
wl a:=fun(x:I×Nat)=>a
am6:=dK Nat I
am7:=M o C
am8:=x<(f_ t).cnt
am9:=hJ (bp hb)
am_:=is T.aVl
am':=dQ H j
s4 a:=by rw[iG (ap d (mM a))]
s5 a:=(a).more<=9
ana:=a7 Ui kL
s6 a:=bT (t a) 2
anb:=zx+1<gG
ar a b c d e:=by rw[M a b c (by rw[cN d,fw e q,kK])]
s7 a:=fun d nd=>a
s8 a:=z m (m<n) a
ane:=jC+8*i
k4 a b:=∀{l:ba},a->b
k5 a b:=∀{l:cI},a->b
anf:=[cp 0]
s9 a:=qS (a-1) i
ang:=zz O k
anh:=by simp;lia
aGl:=t (ju a7h)
ani:=it F d g
s_ a:=hy (a1k b) a
CP b:=PT X a (le (fun x L=>b))
anj:=by rw[r6 (.bool ah)]
ank:=j b u (eB (zk b)) (eB (gU b))
anl:=c1 _ _ v
aGm:=r7 (j (i+1))
tb a:=by have:x≠t:=ah a
anm:=js f n
ano:=Ec B e
anp:=tR++[x]
anq:=aa O v
anr:=aI bI []
eC a b c:=by have a:b:=by simp at c;omega
ans:=an (DX 1) i
tc b:=by rw[aW d b ?_]
td a:=by rw[o1 (a>>=_)]
ant:=ge y e0
anu:=ge y g0
anv:=ge e0 d0
anw:=ge g0 d0
tf a:=by rw[aj a4 (ap d (mM a)) xw]
aGn:=A (Ez) e
anx:=df+1=2^k
anz:=cA+1=2^k
wn a:=by rw[ae hd O d j a]
wo a:=by rw[ae hd vs d j a]
aGo:=fun c o b0 e=>?_
aGp:=fun c o b0 q=>?_
anA:=cI->Int
anB:=by refine qN (fun f6=>?_)
anC:=ez a7i agZ
anD:=HU a bX
anE:=A M pJ
l8 a b:=by have:=a;rw[am b];exact this
k6 a b:=eh a b "before"
anF:=ca C f
anG:=fx gH (e.1=0)
anH:=qH Z t wF
anI:=d1 (ar d3) _ ei
th a:=fun b U o e=>a
anJ:=iO H s
ti a:=ad L bP (Q (.bl a) L)
anK:=GQ K h A b
anL:=by have h:=Ad h
tj a:=by refine cn a ?_
anM:=ac3 h H
anN:=aBY X8 mL
anO:=cY a8 H
k7 a b:=aeg Z (a6 a b)
aGq:=sH aq av
anP:=CC D B
anQ:=akc r t
anR:=A dR m
ca a b c d:=by have a:b=c:=by rw[it d,gj]
anS:=aj c0 Ex
anT:=aL (h x rB)
aGr:=fun c c8 P=>?_
tk a:=am X7 a jT
anU:=2*o3 o
anV:=v o d0 b0
anW:=v q.y-p.y
tl a:=¬(a:Str)=f
k9 a b:=bm q.y p.y*bm a b
tm a:=by rw[hz (j6 a c6)]
eD b c d:=by rw[cs b (j1 c ⟨tK,d⟩)]
anY:=.ins bI W []
anZ:=eC aOD bR
lb a b:=cr (jH a) 2 b
an0:=fG bh b
an1:=td a l b
tn d:=by rw[s l pK a5 dg d]
fd d e f:=by rw[c a D b2 X G (gh d) e f]
l9 a b:=v1 (.builtin a b)
lc a c:=(f b o (b∉a) (b≠r) ha c)
wp a:=Co a K a8 l Y
to c:=∀{l:cI}{a b:Nat},c
an2:=a _ _ _ _ rfl
an3:=v3 "lines"
wq a:=fun b u q _ _ _=>a
an4:=by rw[hB]at a5
an5:=(ef,rq)
an6:=fM<=akY
aGs:=aDs<=1048576
an7:=by by_cases b0:x<ee
an8:=by simp only[di]at a5⊢
an9:=cr c a
aGt:=aeU rfl rfl
an_:=aEr a _
tp a:=lR (dj a) c4
an':=fun i hi=>?_
aoa:=fun v d3=>?_
aob:=fun m c4=>?_
aoc:=fun z c9=>?_
aod:=A m b
aoe:=M B L
fe a b c:=dm (aEZ (ac8 a (aqP b))) c
aof:=ap b2 []
aog:=by rw[jJ h rfl]
tr a:=by rw[cG hu a9 a]
ts a:=be St Hp (a)
ld a b:=Cs K bR (oz a) (oz b)
wr a:=fun c o e=>a
aoh:=kD a b=ab
tt a:=rk a TO x y
aoi:=by rw[bY d1 a5 vT]
aGu:=CP x c e
CR a:=l M a8 (fun x b7=>a)
ws c:=fun{a b}h e=>c
lf a b:=by have hi:i<a:=bx b
aoj:=eR H v l
cb a b c d:=by cases q:H a with|none=>{rfl}|some o=>have:=b;rw[oZ c];cases d
li a b:=G3 a it r jw i b e1
ty a:=j M H (j a M H) OJ
ff a c d:=l2 (v h a P) (cg (g c d))
aok:=aec _ _ aY
tz a:=Well P h v a
tA a:=by rw[ad h' a T h]
tD a:=fun h' p=>g h' dE a
aol:=CO (xi::b1)
as a b c d e:=axk (n:=a) b (dJ c) d (gb e) ?_ ?_
aGv:=aAo c p ns d
lm a b:=nN a (dH (NT b) p)
a7j:=aa (di 0 (hE row))
wt a:=by obtain⟨i,hi⟩:=a
ln a b:=by obtain⟨x,S,a⟩:=b
t0 a:=by show(fun h5=>_) a
aom:=(l.2,l.1)
lo a b:=mtF K (dp p.1) a b
aon:=a.1::Eu
aGw:=a01 (blr s)
aoo:=.int (lo+i)
aop:=xE2 o p
aoq:=blu x t
eJ a b d:=by obtain⟨c,b0,a,b⟩:=d
aor:=Vis aho x
aos:=h3 b U
lp a b:=rI a (oF (.int b))
aot:=by simp only[iH,di]
aou:=zu ns d8
aov:=De a7 O
aow:=De d5 d7
aox:=blv i ah
aoy:=ar4 er f7
aoz:=dZ (afw b0)
aoA:=iG (a,v) (b,v)
aoB:=bG (f_ t).row
aoC:=wD _ _
aoD:=cr (d5 a) (d5 b)
aoE:=all 1 a3
aoF:=le w n
aoG:=aiE (Lw row)
aoH:=blw r i
aoI:=.move k p
aoJ:=aUV j q
t1 a:=zzT a rfl ax
wu a:=Ul (ns:=[_,_]) a
aoK:=zQ ns d8
aoL:=vA ns d8
aoM:=lt5 G ax
t2 a:=blx (bn (jP a p))
aoN:=ayG D B
aoO:=akg r eM
aGx:=bly num X2
aoP:=blz i b8
ls b c:=by rw[l (aP b (j1 c (dv tK)))]
aoQ:=cR d f
a7k:=cR (nv lV) (nv (aa M))
aGy:=fun _ q=>q
aoR:=fun _ _ _ _ _ h=>h
lv a b:=aP a (j _ _ b)
aoS:=(Z++d)
a7l:=(sd b)/\v2 (p.1≠b)
a7m:=bl (a4O 8 cV)
eK a b c:=∃C,a=num (b++C) q c
aoT:=bj h i
aGz:=bj ak ajx
wv a:=bj (bW a) ak
aoU:=cR (vn c) xh
a7n:=[(hy 0,.bC)]
aoV:=by refine fH (fun e=>?_) (fun e=>?_)
aoW:=by refine fH (fun g=>?_) (fun g=>?_)
t3 a:=bv a (fJ this tF)
ww a:=hs (A M H a)
aGA:=bx il ip
t5 a:=ga (Up L v a)
aoX:=by rw[cd (gb e m.1)]
aoY:=by rw[cd (dH (blA (dj c1)) l)]
a7o:=dh (blB e.2) gk
lw a b:=aj gP (dh aq) a (Z b bR (dh aq) (dh aq))
u a b c d e f:=mC (lv a) (V b c d e) (fG f)
eL a c d:=by have:=at3 b a c;rw[o0 d]
t6 a:=by rw[bE c0 c2 a]
wx a:=by rw[a]at m;cases m
t7 a:=an ["data"] "data" a
aoZ:=ge W d8
ao0:=by rw[cF lt aT]
ly a b:=dR a (4+(4+b))
aGB:=(ab,a0T q3 l3)
mg a b:=wh a b (fun _ _ e=>e)
lz a b:=wh a b (fun _ _ x=>x)
ao1:=bV (Ab++ak6++N0 tp)
t8 a:=by rw[cl t (dx (jU a) J),dU];rfl
t9 a:=by rw[dT (g7 ah a) zv]
ao2:=he 6 (v cw)
ao3:=by {have z:=azX ax e;rw[rD];rfl}
wz b:=by induction b with|nil=>{rw[kP]}|cons a J d6=>rw[cE rfl d6]
aGC:=nI h4 (N d4)
aGD:=by intro i g7 g8
ul a:=gz a (gX (par c==xu))
ao4:=b8 X.1 X.2
ci a b c d:=Y ["self",a,b] ["self",c] d
wB a:=fun j e b8 a0=>a
ao5:=by rw[iM j b8]
ao6:=by rw[hv m c4]
ao7:=a6G w h m
ao8:=U a8 B hg
un b:=oY (a2 (cx b0) b rfl)
a7p:=[j0 "enumerate" [e]]
a7q:=[j0 "zip" XT]
nP a b:=(IG D a,b,⟨D.w,D.h⟩)
ao9:=cr x J*cR w
lA a b:=E o (k4 a) (be (gU b))
ao_:=bi (v fM) (ae akY)
lB a b:=by rw[ab f5 ([cp a]++bV (gI 2 i)) b]
up a:=by conv=>rhs;rw[<-blC a]
wC d:=by rw[bn a d0 (bh rfl a (cx d0) d)]
CS d:=by rw[bn a (dn b3) (bh rfl a X5 d)]
aGE:=.ins lK dy []
ao':=j7 0 lo
apa:=hq (hC (Od dm)) c
apb:=ed I4 kQ x
apc:=jC+8*aL+4*i
mk a b:=by rw[j9 10 (CV (j5 a b))]
apd:=by obtain⟨g4,h3⟩:=f
ape:=(kM,dm xa)
apf:=.bare w h m
aGF:=mY i a b3
apg:=a6I "list" blD 0
us a:=J ((a).2.1 rfl)
aph:=vX (h_ l.1 l.2)
ut a:=b0 dq D t a
api:=by rw[dd (pD (i+1)) (pD i++[e]) a0]
uW a:=Sl (aS4 (K:=K) rfl) bH aj1 auZ (d_ a)
nQ b c:=bl a b a (p j c a/\aj<=a)
apj:=dw x<k
eM a b c:=∀e,e∈a↔b/\c=v
apk:=(hi-lo).toNat
apl:=it j a b3
eN a b c:=ec aZX (vy bR a b c)
aGG:=⟨et,fun t c6=>?_⟩
lC a c:=l b u a (eB c) (eB (gU b))
apm:=dB R H a O
apn:=eV OH (a∈a5 b)
apo:=∃j:Nat,aa Y b
aGH:=by cases(a0 u (dm b) Z)
aGI:=afK t (13+n) p OL
aGJ:=by rw[aW t (cx Z) gM]
lD a b:=∀i M H,a->akV->b
lF b c:=by rw[ar b4 H (mM b) (mM c)]
lH a b:=by obtain⟨a,g,d,b,os⟩:=s
apq:=arR X.N aho d own
uZ a:=ate Y nd sub (fun h c7=>Gn a c7)
apr:=J.1*d.2-J.2*d.1
u0 a:=aia x S j z a c9
aps:=adW iv v s E N
apt:=∀c,agY a cF c=(do{let v<-c;standAt a.pos;holding [v] (truthy v)})
apu:=(aDb b p)
u1 a:=(eh (pD (i+1)) (vB a))
wD a:=fo (blE s.n) (lk a s)
aGK:=by rcases e0 with e0|e0
u2 a:=by rcases aFw a with l|l
apv:=blF b o e
apw:=hd M H p
a7r:=.Attribute e f pos
u3 a:=by generalize(RW _ _)=a
u4 a:=bE (m:=blG _) (M4 a d)
eQ b c d:=I.aPH (its':=b) a e c d ?_
lI a b:=F.Ge _ _ a b h
aGL:=Nv y k h
ml a b:=head _ _ a ?_ b
apx:=ajK N d5 f7
apy:=ajK c2 a7 c0
eS a b c:=aOb (i:=a) b rfl (a6B rfl) c aqU
apz:=a6a (v b1 v l)
aGM:=blH r (bp t) akS
lJ a b:=q2 _ _ a (aI b)
au a b c d e:=q4 a (b).1 (c).2.1 (aS d) e
u5 a:=blI (blJ aiR a cs)
aw a b c d e:=by rw[l (k v a b (aZY (blK c) d rfl a9 e))]
u6 a:=by rw[lw a];have d3:=d3;rw[tN]
apA:=I×d0×K
apB:=A×B×C
apC:=E×F×G
aGN:=E d4 (cY L d4) (N d4)
apD:=Y N c5 st
apE:=X x st c5
eT a b c:=aP a ((dP (bZ b) c) _ _ ak)
wE a:=by have e6:a:=by simp at e5⊢;omega
lK d e:=by rw[z k u d Ee e]
apF:=by intro aI s M H x vs v b1 Q I R rv h
u8 a:=E h' a (Q ae tJ)
apG:=by rw[fv (c=dm b) Z]
eU a d e:=b x cC (vs=a) (am l O) d e
wF a:=by {refine fQ;rw[X4];rintro⟨_,s,_⟩;exact a}
CT a:=by {refine Ax;rw[co i M L];rintro hi⟨_,s,_⟩;exact a}
a7s:=an (a6q gk) (e.2-(e.1+1))
apH:=by rw[de c9 (.ref TI) (bE (gl f ?_))]
aGO:=by rw[cR q p a5]
mm d e:=by rw[s N (.ref wb) (au d) (dZ t8) e]
apI:=dK blM aZ_ blL
apJ:=dK blO aZ9 blN
u9 a:=zJ b N n f=a
va a:=by rw[aj c8 (U b7 d a) (go eY)]
lL a b:=by rw[a4 a,eI,l b,l Ho]
apK:=a w h p l m
apL:=L (ac lW O) (ac ak7 a)
vb a:=hr (((a):OM) e.2) e.1
lM a c:=CM (A [cC,jR] tL a c)
lN a b:=by obtain⟨e7,d,a,n1,n2⟩:=b
vc a:=by obtain⟨a3,a9,e2,e5⟩:=a
apM:=by rcases m with rfl|rfl|rfl
aGP:=fun a b p q=>?_
apN:=(Z ah (! lf (gR ru)) (lf (gR ru)))
CW a:=fun u d4=>KR .tup Q [.int a,u] d4
f8 a c d:=B F d4 a _ (a6e b8) (aFz O) c d rfl X1
apO:=z vs tW (blP tM a vs)
ve e:=by rw[CN (u (cx OF) dr i e (fun d5 b7 b5 n2 b9=>m d d5 IZ b9 (aw ag)))]
apP:=["p","q","r","s"]
apQ:=r b o e S
aGQ:=blQ b o e S
aGR:=TP X aI M Q
vf a:=by rintro e f⟨a0,W,a⟩
vg a:=by rcases a with h|h|h|h
mn a b:=ea (leK (K:=K) rfl ai2) a b
vh a:=aEU par B (ab (aEV x 0)) z a
fg a b c:=ft (@a aI s M H b I h) c
mo a b:=o a b5 b7 Y q2 b
nR a c:=let⟨b,b4,b9⟩:=a;v b b4 c
apR:=I×d0×K×Z
apS:=A×B×C×D
apT:=E×F×G×H
vj a:=by rw[ae ar n J e a]
apU:=by intro a8 d7 a4 b4 e9
a7t:=aV i3 n j4 cV
apV:=oL ak8 tA gW i m
fh a b c:=by have a:0<=b:=by rw[eT (aCe 0 c),l (tc h h),l (aiq h h)]
apW:=by obtain⟨o,d0,hex,hd⟩:=ajI
apX:=cf Aw e0 g0 d0
apY:=cf (.ref n) h2 e2 i8
n c d f h i j k:=by rw[g cV c d ru _ _ f (a h i ⟨j1,k8⟩ (gW (d5 p j)) (aw k))]
cd d e f g:=by {intro i L h4 N hi s b6 d;rw[iu (c l b e ?_ f g)];simp[vn];simp+arith [*]}
apZ:=by rw[ch i0 eN n blR]
vk a:=by rw[m a i t rfl x t rfl]
ap0:=by rw[e4 Z a6J (qR a6J Z blT ?_ (blS _))]
eW a b c:=by rw[l3 (fun i m M H=>m=a-i/\b/\akV) c]
CX a:=a3' ⟨v e a0 bB,fun j x b8 S=>a⟩
eZ a b c:=by refine ah et (fj (c0 e t _ _ a b ak (blU (GH c6) c)))
aGS:=[i,ip,il,jA,kE]
ap1:=[z,TI,TO,c2,N]
vl a:=by obtain⟨g7,g9,g8,e1,h⟩:=a
ap2:=@aE1 _ _ _ ?_
ap3:=by {rw[Er,Es];rw[vL h];rw[vL k];constructor}
e1 a b c:=by {intro i a b L h4 l8 c s S b6 j2;exact bd (Tz (ab 0 rfl ei rfl))}
ap4:=fun vs H Q E h=>?_
nS a b:=∀(s:Shared)(b1:aM),a->aBD s fd (eb b1) b
vm a:=by rintro v m J c1⟨a6,rfl,a⟩
lO a b:=by {refine a;simp only[hH,oX,Du,aEg]at b0;exact b}
vp a:=fun A i s Q E st h=>a
ap5:=bU hi (fun c a4⟨y,a8,r,Z,d2⟩=>ey d0 (fun u b5 P=>?_))
cj a b c d:=@a aI a4 M a8 b c d r r1 d2
vq a:=f L d7 ON (aj D d7) (dD (R L) d7 a) (k L)
lP d f:=∀(a:Addr)(D:Gla.Plan)(b2 X G:Addr)(b4:V)(B:Et),e [bc,b4] Al (Ur C H b4 B) d f
a b c d e g h i j k l m n:=by have b:G5 c d e:=f g h (.ref i) (.ref j) ak (c1 _ _ k) l (aP m (cp n ak))
nT b c:=d6 (fun v x z=>let⟨a,e,_⟩:=z;⟨a,e⟩) b (J c)
ap6:=by rintro i m M H⟨rfl,hi,p⟩
ap7:=fun w hw=>aPA R n J G w ai
vr a:=ado P w K mg aj a eA s H
ap8:=@aE3 _ _ _ _ _ ?_
vs a:=fun{i:Nat}(hi:i<aL)=>a
e3 a b c:=cp (BK rfl rl (oy bb) (bk "number" 5 "point" 6) (bC (V 5 rl 6 rl)) (lp (ea gP (dh ew) a)) (bC cJ)) b c
ap9:=∀c o,j (c≠z) (c≠TO) (c≠c2) (c≠N) (gK c) (be (gU c))
wJ a:=(∀y e4 b,i (a=aa b) (cY L e4) (R e4 y b) (h4 y e4))
ap_:=by {rintro⟨r1,r2⟩c1⟨a6,rfl,_⟩;simp only at a6;subst a6;exact xA}
lQ b c:=by obtain⟨m,a,d,b,d0,R,F,f,k⟩:=N.orb J c
vu a:=by obtain⟨F,a3,a9,e2,e5,z,hd,j⟩:=af3 a d
vy c:=fun e0 e4 d9 y g5=>m d e0 (fH e7) g5 ⟨c,fun b f=>k b _ (dP En f) (e1 En f) ?_⟩
mp a b:=by refine a6K _ (fun m J c1=>J.1=ae/\c1=s/\∀v∈m,a) _ ?_ ?_ _ _ (ii b)
aGT:=by simp only[*]
aGU:=by simp_all only
aGV:=by rw[O3]
a7u:=Hb "__len__"
aGW:=.list c7
aGX:=.list OW
aGY:=cv (x<y)
aGZ:=(O2).length
aG0:=.inl ?_
mq a b:=if 65536<=R.d then a else b
mr a b:=if a then b else 0
aG5:=.tup (wW vn)
aG6:=bW d.symm
aG7:=uX (H x)
wN a:=by simp only[ib]at a
wP a:=by simp only[hH]at a
ms a b:=cg ⟨a6x a _,b⟩
wQ a:=aBx (hx (gF a))
aG8:=by simp only at j6
aG9:=.tuple c7
wR a:=.error ⟨a,p⟩
wS a:=sj (p:=a) e
wT a:=sk (p:=a) e
aG_:=by unfold bump at b8
wU a:=zG (p:=ale) (l:=a)
wX a:=(Az).dropWhile a
wY a:=(a).length_eq
aG':=begins c
w0 a:=jr.k (k:=hR y) a
aHa:=(alk).perturb
aHb:=(Jd).place
ck a b c d:={j:=a,more:=b,i:=c,perturb:=d,dummy:=ae}
w1 a:=a4J (lQ++[a])
aHc:=a3.map vn
aHd:=J.seq a5
aHe:=e8.2.2.2
mt a b:=by have a:b:=by lia-abstractProof
aHf:=x (qP _ Ag)
aHg:=x (gF bF)
w2 a:=x (aqi (ml a))
aHh:=a0Y K C=ab
aHi:=O.all F_=ab
aL a b c d e:=by obtain⟨a,b,c⟩:=d;exact e
aHj:=(DS j d).1
w3 a:=t (iY (an a))
aHk:=J (n ag)
w4 a:=by rw[C (a46 a ?_)]
aHl:=fun v=>?_
aHm:=by rw[hi (blV ?_)]
aHn:=by rw[hi (blW ?_)]
a7v:=as (aa (ae:pF))
aHo:=ab (mL XR)
aHp:=ab (p (f x))
aHq:=bh (m::row)
aHr:=bo (NB th eM)
w5 a:=by delta a;grind-abstractProof
aHs:=by rw[cH];rfl
mu a b:=show a=b by simp[*]
w6 a:=fun b O e=>a
w7 a:=by rw[a];trivial
mv a b:=by rw[a];simp[b]
aHt:=I->bY d
aHu:=dI t (J+1) p
aHv:=p+LB b p
aHw:=cj (qM k.1)
aHx:=Gl X "enumerate"
aHy:=Gl X "zip"
CZ a:=fun(e:Nat×Nat)=>a
aHz:=Vo f=aa v
aHA:=par w=aa v
a7w:=dc (by cases U)
w8 a:=by have:=a;simp_all
aHB:=(ng r (t+1))
aHC:=ez a7g Vm
aHD:=fun e _=>?_
aHE:=ge "enumerate"
aHF:=ge "zip"
w9 a:=(aj_ c1) _ _ a
w_ a:=(a5T k0) _ _ a
mw a b:=by have b9:a=b:=by grind
mz a b:=it a (lS (Dy aL) b)
aHG:=ch de (vC (pD i))
aHH:=cw<100000
xa a:=fun b O q=>a
aHI:=qN (fun n=>?_)
aHJ:=qN (fun f6=>?_)
fi a b c:=by have a:b=ae:=by simpa using c
aHK:=x<(XQ).cnt
xd a:=Cs K a (oz bD) Sm
xe a:=dj (Iu a b1) IW
aHL:=by rw[hN (a3b J)]
xs a:=jS (fun vs a8=>a)
aHM:=dL St Hp
aHN:=sv F g m
aHO:=au (dN) iO
aHP:=PA X a7 t
aHQ:=PA X XT d6
xz a:=j b o ha (iL a)
xL a:=lt (ar a Hs)
x0 a:=lt (! ar a Hs)
aHR:=sd (XQ).side h
aHS:=blX c=aa x
a7x:=fun t m=>?_
a7y:=fun c b5 P=>?_
x1 a:=ly (t<=nz->a)
aHT:=mQ F k y
aHU:=GQ K DK A
aHV:=by rw[ec mm]at c4
aHW:=dQ<=8192
aHX:=dK Nat Nat
fj a b c:=by simp only[a]at E;rw[b];exact bt c
aHY:=aI hL (sP xn)
aHZ:=RO K C "__init__"
aH0:=k b o (J (b0 (ar z))) e
x2 a:=Q fP (ap p a)
aH1:=(f_ t').row
aH2:=a6E min a
aH3:=x (j h) q
x3 a:=by rw[aj a4 (ad d a) xw]
aH4:=vB H l Y g
aH5:=zt iy mL akX
a7z:=vS (jE (sh e))
aH6:=HU (DD r) bX
x4 a:=E t (t<=R.n) a
aH7:=L eY cm
aH8:=fun b u e=>?_
x5 a:=fun b _ o e=>a
mB b c:=a J g ls dx rfl b c Y
aH9:=G4 H b k
x6 a:=ad L bP (sc a)
aH_:=fun v b7 b5 p=>?_
x7 b:=iX (gS hd) b
aH':=GQ K DK A b
aIa:=(fin (d ?_))
aIb:=(cF (tg f))
mC a b:=by have B:=blY a (bZ (o:=hO) b)
aIc:=by have d9:=nf c9
x8 a:=Q .bC (ap l a)
aIe:=by simp only[ie]at E
aIf:=a6L Iy aEP
aIg:=a6L IC aEP
aIh:=a6M Iy ajR
aIi:=a6M IC ajR
aIj:=U2 K xi=ab
aIk:=U2 K rF=ab
x9 a:=by have⟨dx,ex⟩:=a
mE a b:=by {have:=a;have:=b;lia-abstractProof}
aIl:=fun y c e=>?_
aIm:=eU (blZ n) 0
aIn:=by rw[a1 B d5 OG]
aIo:=by rw[a1 B d5 I3]
aO a b c d f:=by have a:b=ae:=by cases q:c with|some e=>{rw[q]at d;cases f}|none=>rfl
fl a b c:=by have a:b=ae:=by cases q:c with|some e=>{rw[m7 q]}|none=>rfl
yv a:=fun b u O q=>a
mF a b:=PW X (iL .And a) b
mG a b:=PW X (iL .Or a) b
aIp:=eV J s p
aIq:=eV J s q
aIr:=Int->Int->Int
aIs:=Int->Int->V
yw a:=si ⟨bl0,a⟩
aIt:=[71,76,65,49]
aIu:=[71,76,65,72]
aIv:=ec (fZ (gy z E.l))
aIw:=cy rfl h
aIx:=hZ (k+1) X.A
yx a:=by simp only[ib,iW]at a
aIy:=v4 (bl1 _)
yz a:=LS (t bA (cn a0 a))
a7A:=fun i _=>n<=i
yA a:=an (ai8 16) a
yB a:=dP (b5 aw2 a)
aIz:=fun p _=>akO
yC a:=dw mL (y.2= .free->a)
aIA:=dS aq (as aq cu)
aIB:=vl r ef pa
yD a:=eD a (cs (bl2 l))
aIC:=Ir d h a7
aID:=Cc r z row
yF a:=CA P w a d ls
yG a:=ac oC oC (.inr a)
aIE:=by exact mS (cU hi) (cU (qx Z))
aIF:=jr H a y o
yH a:=by rw[cH,hQ];exact aW a
mH a d:=c M H (fun b a8=>Z b a d)
aIG:=BN wy E N
aIH:=fun v a8 a4 g4=>?_
fn a b c:=by have fin:a=ab->b:=fun U=>c
yI c:=∃a b:Int,∀x,c=a+b*x
aII:=by obtain⟨o,e,c,d⟩:=id f
yJ a:=by with_unfolding_all exact a
aIJ:=by rw[(aGe).length_eq]
aIK:=(tq pA,auU e)
aIL:=R.d<=lI
yM a:=Q (.int a dE) O0
aIM:=by simp only[q,mM]
aIN:=wC l.1 l.2
fo a b c:=ad' a (m2 b) (l4 m.1 c)
aIO:=Cv par y
aIP:=a4w j (aa n)
aIQ:=t4 a53 a3
aIR:=a8 a=aa (aI C G)
aIS:=x (ahY bF bF)
C0 a:=by rw[a6 a,dU]
yO a:=by rw[l (O _ e7 a)]
yQ a:=by {rw[aj a,cH]}
aIT:=vs++[l4]
yR a:=V m a (Dr r eM=ab)
aIU:=gJ (a1 2)
yS a:=by rw[v a (fun x S=>?_)]
aIV:=cZ bQ av
aP b c e f g:=by rw[a4 S (m b _ c (d e f g rfl))]
aIW:=dI t J Ye
aIX:=bv ag_ EB
fq a b c:=aj gP av a (cp (gi b) bb c)
aIY:=yQ r ef pa
yY a:=by have:=gC (Mj (a:Str)) z
mJ a b:=by have:=a;rw[fw b this,ny]
aIZ:=pe Y t dV
aI5:=fun j y b8=>?_
mK a b:=jS (fun c a8=>Z c a b)
yZ a:=E j (j<i) (a=ah)
aI6:=qA X a c3
y0 a:=cY (gi ajg) WQ a
aI7:=Mv bh l f
fr a b c:=hC a (cp (gi b) AH c)
aI8:=o2 (h y rB)
mL a c:=na (A [cC] tL (gr a) c)
aI9:=P g e g'
aI_:=by rw[C (gl b2 ?_)]
aI':=e7 (dw (ik x) (y<aL))
aJa:=M5 (jx (v d.1 k (d.1,y) d))
aJb:=ap hP n j
aJc:=DC aP c l J
aJd:=MB x c e
aJe:=si a d B
aJf:=∃j∈hP,Jf
aJg:=KQ bh x dx C j
aJh:=UC eB X.w a alq
aJi:=zf r H l Y c
y1 a:=ad5 d5 Y i alc H a
y2 c:=by rw[l5 R (f g ls h c)]
mM b c:=fun x p L h4 c4 O J B=>N x p b c B
aJj:=.dK (K2 [] a7n)
y3 a:=Meth X.K C m a
aJk:=Mk X.K C f
y4 c:=fun{a b}h=>c
aJl:=T.vj x S q
aJm:=(Z b (fj::W) [])
y5 a:=v b1 (Y a q2) (o4 f6)
mN b c:=vG (A [bc] Al (gr b) c)
aJn:=d M H I h
y6 a:=vq K C a st c5
aJo:=ep i R p
y7 a:=a2l _ _ _ _ a
y8 a:=L4 a5 B par E a
y9 a:=by rw[ah f D a3 a h.d]
aJp:=by rw[L i M L x b7]
aJq:=by rw[dM,dM,bS];wp_delta;rw[bS];wp_delta;rw[bS,ez aEi]
fs a b c:=match a with|true=>b|false=>c
y_ a:=by obtain⟨e5,e6⟩:=a
za a:=by obtain⟨z9,x2⟩:=a
aJr:=(a9.map eX)
aJs:=(x (vi Z) h)
aJt:=(Ite K l)
aJu:=a.1.map bl3
aJv:=(l.1,l.2)
aJw:=(bp m.1,bp m.2)
zb a:=fun b7 b5=>a
aJx:=ez alp bl4
mP a b:=Ho (c_ a) (c_ b)
a7B:=.int ck (dE+1)
aJy:=RZ eB X.w
aJz:=aJ (B.mp rfl)
mQ a b:=bj (ah (cy (B.mpr a) b))
aJA:=.tup (wf (.ref W))
aJB:=sf (Vo f) (j f)
aJC:=by delta KV at J
zd a:=ic (I.aNL b a)
aJD:=h n (x jX)
a7C:=Ve (e9 (q a5Z))
aJE:=.Name y r
aJF:=.Name d1 T
zf a:=bE (bE (aEf a))
aJG:=f (e0 i) (mN j)
a7D:=r.Sa aY (ahj aY)
zg a:=(bm hi a).toNat
zh a:=(aiO (a%256)).toNat
aJH:=min iu bl5
aJI:=MV i5 lo
aJJ:=([]:aM).toArray
mT a b:=ff a (ahT (bl6 b) ahU)
aJK:=Y.diff a0 W
mW a b:=Lb (by rw[a,b];simp)
aJL:=HR (ad8 c7).2
aJM:=HR (ad8 c7).1
aJN:=bl7 (fs O5)
zl a:=aRR (p:=p) (l:=l) (k:=a)
zm a:=aRU (P:=AF) (atU Z I a)
zn a:=bl8 a i (ar hi)
aJO:=.erase i j
aJP:=a3N Mr a3P
aJQ:=(LH e).binds b
aJR:=bl9 (a6N zM J.f a)
aJS:=c.drop (gg-i)
aJT:=ajF eB X.w
aJU:=ayb eB X.w
aJV:=bl_ r (v7 gp)
zp a:=Iz a (jL (c3 _ _ z))
mX a b:=bl' a (eN (sf b))
aJW:=by injection f5 with f5
aJX:=Xm D (agg D B)
mY a b:=(a).put (o:=b) (bma x)
aJY:=II h9 (aFg N D_ b5)
zq a:=fW.sb a5 a d6
mZ a b:=by have:a:=b;rw[gj]
aJZ:=fun a8 a4=>?_
aJ0:=fun c0 c1=>?_
aJ1:=J (U (ar z))
zr a:=E t' (t'<=t) a
zt a:=by rw[C (aEu a bmb ?_)]
aJ2:=sb (DS x xu)=ah
aJ3:=A atN (c,l)
zu a:=M a7r (aOU a d6 f)
zv a:=by {rw[cQ N_,e_];exact a}
aJ4:=gJ (2<hC)
zw a:=g5 a (us5 (mz nh))
aJ5:=bs xF OX
aJ6:=by rw[T r.N []]
nV a b:=bo (iP _ (fJ (a5l a m) b))
aJ7:=fW K H b d7
aJ8:=aL (H x rB)
a7E:=fH (fun e5=>?_) (fun e5=>?_)
zx b:=bl (a5z b (e0 a) (mN c))
zz a:=o h s H I hw a
aJ9:=by refine fH (fun e6=>?_) (fun e6=>?_)
aJ_:=c5 18 2≠0
aJ':=br (di I)
a7F:=by rw[bmc];kernel_rfl
aKa:=bV bF bF
aKb:=dJ (! cv (i∈B))
aKc:=dK aQ aQ
aKd:=dh hP (n+1)
aKe:=eb [cC,cV]
aKf:=dq q.y q.x
m0 a b:=aj gP kL a (kd aq b)
aKg:=by rw[jJ (ic h) e]
a7G:=va K H b (HV cp)
ft a b c:=(ah (hA a) (hA b) c)
f_ a b c:=bA a {cls:=b,dict:=ae,data:=c,slots:= #[]}
a7H:=fun(k:Nat)=>dI (iY ak2) (H4 k)
m1 a b:=X a b ["neighbours","came_from"]
m2 c d:=aFK a b (x:=c) rfl d
m3 a b:=c8 (hA a) (hA b)
zA a:=by rw[cb d3 (¬a=0)]
fu a b c:=PS X (.AugAssign a j b pos) c
C1 a:=by rw[c_ (c_ (aDx (show ab=ah from h.1))) a]
a7I:=qP _ (qP _ (aOq U e))
aKh:=dR jC 20
aKi:=fun s=>oM (lC t s p)
zC a:=V e gX (a/\e.2<de)
aKj:=mQ F p.1 p.2
zD a:=by rw[a]at D;cases D
aKk:=vV "list"=aa Ak
aKl:=K b p c
a7J:=bU a0 (fun u a4 P=>?_)
aKm:=eV aF6 alj
aKn:=aa ⟨6,cw⟩
aKo:=zW bh F xa
a7K:=fun b N q=>bU q
aKp:=fun j a b3=>?_
aKq:=∀x,t (f x)=k
zE a:=bk j x (Ew->a)
aKr:=lk (cR u x)
aKs:=d4 c5 m7
aKt:=E x aF_ ak'
aKu:=gd XT (g8 tH [b9])
zG a:=bA l xj (dB eR L l a) cC
a7L:=∃i u,v=W6 i u
a7M:=fun j x b8=>AA
zH a:=fun h' p c0=>a
aKv:=fL bF bF
aKw:=cs (l.1==e.1)
a7N:=v o e (fun v z=>ai)
zJ a:=fun c O q=>a
aKx:=by injection e with b4 _
aKy:=upd d4 W a7k
aKz:=PG X c7 g
a7O:=by rw[gf (a5B (v d).toNat>>=_)]
aKA:=l0 "list_iterator" #[cC,hG 0]
zM a:=ap (vE df k a) n j
zP a:=by have Z:lG OU "enumerate":=bm a
aKB:=(yu (fn "NUMBERS"),nmF K)
aKC:=[w,h,ip,il,jA,kE]
aKD:=Mv bh b i
aKE:=Cc r ef pa
aKF:=fun h' f sb=>?_
aKG:=L (oR f) aGh
ga a b c:=Y ["drawing",a] ["drawing",b] c
zQ b:=sa (fun a b3=>aC (dP eY b3) (mW b))
aKH:=aFG Ef c/\aFH c=ab
zU a:=z b (f (gR xE)=aa cV) a
aKI:=by rw[ak b3 e (Nd q)]
zV a:=fun v d3 z=>cy (wH d3) a
aKJ:=jM (mO y.2 x.2=ah)
zW c:=b.1=ae/\c1=OK/\c
aKK:=20+8*Ap+4*i
aKL:=by have e0:=vh J x
m4 a b:=(DH r a).bind (fun T=>aiK T b)
aKM:=C_ _ H rfl
C2 a:=eW (mx b3 (mT e.2 m.2.2 a))
C3 a:=eW (mx (HJ a) (mU e.1 Au))
aKN:=(eK eN).zip Y
aKO:=(qX U rq).2
m6 a b:=by rw[gr q a];exact qy e t b
zY a:=by rw[gr q a];exact bI e t
aKP:=(qX b3 (bp b)).1
z0 a:=bl (MD a cC cV)
z2 a:=by {rw[ae (l a ax) e];rfl}
aKQ:=by have:fl (h::l)=an (O4+em l):=bH
z3 e:=∀a b c d,e
m7 a b:=by cases r with|nil=>{rw[kr a b]}|cons c u hw=>rw[alf];cases c9
aKR:=Dq J a b=ab
aKS:=Dq J w x=ab
aKT:=Gk (F:=F) _ h i hi
z4 a:=(l i x (i<a) nr (x<j))
z5 a:=(l i x (a<=i) nr (j<=x))
aKU:=v 16+ae xD
z6 a:=WX t (W4 a7) kM a
aKV:=v O q aY
z7 a:=(tM).is k a=ab
C4 a:=by rw[fz];refine Oe (aqM I d8 c4 a l)
fv a b c:=t cj (cf (RV (l:=a) (k:=b) aY) c)
aKW:=by rw[C (iV (LZ T) ?_)]
aKX:=fun v d3 z=>?_
aKY:=by rw[al (M8 a b)]
a7P:=ch aL (dJ (v i k p eH))
m8 a b:=fun i m H=>m=a-i/\b/\j i H
C5 a:=o z (a1 x z) (z∈B) a
m9 a b:=by have a:df b aGf:=fun e h=>x iw ag
z8 a:=by rw[aS a (cf 256^2) 65536]
fw a b c:=an pP a aDP (eJ aq (a7 b c))
z9 a:=cu (o8 (T a)) gH
Aa a:=20+8*Ap+4*I6+12*a
Ab a:=cy (show b∈([]:bg)from a) jN
a7Q:=bs [vn l] (v5 (b-1)) n2
aKZ:=by rw[di e2 j0 h.m]
aK0:=iR t.1 (hL t.2)
aK1:=by rw[iU a5 (sV c0)]
aK2:=ci eH<ci (bp j)
aK3:=fb kH<m4 kH
Ac a:=Uv cA k a h s
aK4:=aFu C H L v T c
aK5:=(mP c5&&mP h')
aK6:=Wn=gX/\pw=lL
Ae a:=bm yC aq cu (bU 1 a5P (dK a))
aK7:=by obtain⟨h2,e2⟩:=b
aK8:=c[gg-1-i]
aK9:=HS y k h
aK_:=We y k h
At a:=Uw (ajF cN w) a r a7
a7R:=XB D lV (aa M)
AC a:=M (.Dict [] [] pos) a
aK':=bx (IJ i 0) (IJ (i+1) 0)
aLa:=by rw[aO rfl dx h]
AK a:=by rw[bD m et (h0 a)]
AP a:=∀(J:Nat)(p:Probe),a
m_ a b:=by rw[b7 hw W (a1L (v:=v) (o:=a) b)]
a7S:=(b=r\/v9 lQ)
aLb:=lk (bx e.1 e.2)
cw c d e f:=by rw[fc X c (m0 d)];delta e;rw[J f lU]
aLc:=b8 lt.1 lt.2
aLd:=[.int 1,.int 3,.int 13]
fx d e g:=b x bc (y=cV) (m9 d) (G4 e b k) g
AT c:=by refine f b _ pO (ah rfl (Tz c))
C7 a:=by rw[kc W (adV Y J a R.n aY)]
na a b:=oF K q a=oE b q st
aLe:=["cartoon","points","ends","marks"]
aLf:=by rw[dh,pI,dh,cO]
aLg:=bd (fun d7 b6=>t (I.ac_ b6 e0) S)
a7T:=by rw[aL (WG (i+1)) (WG i) a b3]
aLh:=(gN).k e.1<=tS/\tS<=(gN).k e.2
A0 d:=by rw[CS (w dg rfl a _ d)]
aLi:=sn (by rw[ak e h e0];exact v a e (bv h))
nW b c:=a dx _ _ rfl b dS gf fX c
a7U:=∃c d,Yb/\dO d 0/\c≠d
cl a b c e:=by rw[CT (d a (dB b (t c hi)) e pN)]
A1 c:=f8 lV c (a J g ls u rfl a7 D.2 Y)
a7V:=nS (lD=kB) (MP b1)
fy b c d:=nT b (by rw[z]at c;simp at d)
aLj:=by obtain⟨m2,S⟩:=aFj
nb b d:=(b:bl (MD d (e0 a) (mN c)))
fG a b c:=by refine aOv (n:=a) b c ?_ ?_
aLk:=by injection G with b6 S
a7W:=bme j++bmd (j+1)
aLl:=by obtain⟨o,d0,_⟩:=ajI
A2 a:=by rcases a with h|h|h
aLm:=iH EC (io t) (di aln (vl r (bp t) jc))
aLn:=by rintro⟨a3,a9,e2⟩
aLo:=r.aQK (j9 b0) S
aLp:=r.asB Y I e
aLq:=(i-fL+1)%t (d++Z)
A3 a:=by delta aDj rd zK at a
aLr:=aQ_ g a6 hw
aLs:=Lj par y t
A4 a:=bmf (S4 r v) a
aLt:=aeh r v I8
A5 c:=aes Lv aGg (fun _ _ h=>S5 h) c
aLu:=R.F.ok r len U
aLv:=NW p q J
aLw:=PxV H v p
fH a b c:=by rintro M a⟨rfl,⟨b,rfl⟩,c⟩
aLy:=bmg a5 B par
aLz:=N6 lO fA j
aLA:=bmh it bh h'
aLB:=bmi [(hM).hash k.1,(hM).hash k.2]
aLC:=W.type 0 _ st
A6 a:=by obtain⟨F,c3,_,c4⟩:=a
a7X:=eqK (K:=K) rfl wt
fI a b c:=aP6 (n:=a) (fun i L=>b) c ?_ ?_
aLD:=bmj (il (mL (NW ef (bp b) rq)))
aLE:=bmk (jM (mO (O y) (O x)=ah))
A7 a:=aFD (j:=p+1) aT (afw a)
aLF:=a0W K e3 j=ab
A8 a:=by rw[l (d5.nt b a O e)]
aLG:=K b (p+1) n
A9 a:=by {rintro⟨_,q⟩;exact cy (a0 (cf 2) a q) ax}
aLH:=gB×gB×aw
aLI:=by rw[N c3 k f]
aLJ:=e=x\/bh e Ei
cn a b c d:=by have:it F a (cE b)=c:=by rw[<-yJ,d,e]
nc a c:=by rw[ez (a6K _ (fun m b c1=>a) c)]
aLK:=ad b (B=aa b) (xb b)
aLL:=dl (hz bml hR)
aLM:=by rw[cb (Gk (F:=F) _ h j b8)]
nd a b:=PA X a (qB d6 (qB c3 b))
aLN:=by rw[aS d2 (xC+xy) xy]
fJ a b c:=by rw[bl J l (a5 i x v a b c)]
aLO:=by rw[bl rfl R (vals1 J)]
BA a:=MH B (aa a) MI cF=eU ah
C8 a:=bo (i=j\/t (iY ak2)=dQ) ae a
nX c d:=by have a:j b u (fr u) c:=fun b u e z=>d
aLP:=(C-D)*(kp-K)
aLQ:=bW b2 X G
fK a b c:=by have e2:a=b:=by delta c;simp;simp[*]
nf c d:=by rw[j l b c ?_ ⟨jY,d⟩]
aLR:=by rw[cR e0 S d8]
nl a b:=bU a (fun v a4⟨x,a8,r,r1,d2⟩=>b)
aLS:=by have:(an (Aq-Ar))=an (Aq+(-Ar)):=bH
aLT:=e.1+e.2-B
aLU:=xH++p++Jb
aLV:=cQ (vg R i t) gH
aLW:=d [] 1 id (as (0,0))
BC a:=∀{l:nO}{c J:Nat},a
aLX:=vT (PE (j2 e9 C) t b8)
aLY:=vT (PG (j2 e9 C) c7 g)
aLZ:=vT (PTs (j2 e9 C) G c3)
aL0:=by rw[dj a5 U h]
nm a b:=∀(J:Nat)(p:Probe),a->b
BD a:=zJ b (n+1) r p=a
BE a:=wJ r a 0 [] dR
aL1:=dT (dq (a5Y D e) (a5X D e))
BF a:=by rw[a,ht,ht];simp[a0]
BG a:=aP m x (m<n->a->zT x≠.empty)
fL d e f:=by rw[iW d (w Aa zd X e f)]
aL2:=oL (r2 de) DO gX i z
aL3:=oL aGd WJ lL i z
BI a:=jo bR Ee T.Ug.h (eD a0y) a6 T.Ug.b .nil fu (d_ a)
aL4:=by {intro p c2;rw[iH i (zy c2)];simp[*]}
aL5:=v F (x (aQ1 E)) hR
BJ a:=by rw[rD];rw[a]at h8;exact h8
BK a:=aP x l (alh->a)
BM a:=fun j x y=>x= .int (cf j)/\aa a y
aL6:=agU b o e n S
n0 a b:=fun u b5⟨y,b7,Y,r2,q2⟩=>ft a b
a7Y:=(j::a.1,lS a.2 j)
BN a:=axN t a 13 p ax
aL7:=aEX D e.1 e.2.1 e.2.2
aL8:=aC u (gU e) u
aL9:=aV e4 le zs nG
BO b:=CP (z k (aq_ b x L k) (Q k L))
aL_:=j b O (fr tO) (hI tO)
gb a b c:=by induction a generalizing i with|nil=>{trivial}|cons J t j=>cases i with|zero=>{exact dl (b▸J)}|succ i=>exact c
aL':=∀a b c,aF6->k b c=ab->k a c=ab
n1 a d:=(er b u e).qz (fun c v b0 q=>k c v ?_ q) a d
aMa:=c V el el Hp (cw VK)
C9 a:=aAv u CR A H k dx a Q
aMb:=CE eA P w H s Q u c1
nn a b:=(atg (m:=O8) (l:=jV a) (fun h c7 q=>b))
BQ a:=xlAt a [] s&&recOk [] s
aMc:=by obtain⟨zs,L,a5⟩:=st
aMd:=by have id:=as2 al f J w x
aMe:=.Pass (d 0 0 0 0)
aMf:=[k,J,g,ls]
BS a:=∃(ar:aM)(n:Nat),a
BT a:=by obtain⟨gl,k2,p0,o2⟩:=a
aMg:=c4 b _ q (J z)
aMh:=bmm x c r b0
aMi:=bmn ak9 X.A cF oT
BV a:=aBo _ _ a b U
aMj:=bmo sl i5 c .none
aMk:=a6O lo hi ae n
aMm:=zC p q J s
aMn:=zC pG rr (bp m.1) (bp m.2)
aMo:=V0 r t z e
fM a b c:=SInv (ab (Nu x [])) n a P b c
aMp:=S4 r v row a
BX a:=aR2 C.net NL C.aeE a H
aMq:=auq r (vm r aFo) (vm r aFn) l
no a b:=ReadsW R e9 a u b Y
n2 b c:=afv bI [bc,pK] b (CW c) E0
co a b c d:=aOu (O:=a) b c (mS (cx d)) ?_ ?_
BY a:=afT cN w a a7 l
aMr:=a4W (bmp r e1) a7
fW a b c:=W.af7 j _ _ a b (jL c)
aMs:=lay H l Y L
aMu:=ne v d3 z q
BZ b:=a r.w r.h dd bX b
B0 a:=by {rw[bD (fin ?_)];have:a:=ai;delta oL;rw[tX]}
B6 a:=fun g e g' _ h=>a
aMv:=fun i H hi s=>?_
np a b:=o a c8 d4 O q3 b
aMw:=by rw[w (ar qY) aFY aFY aFY]
n3 b c:=m Ed zh b _ (aJ c (v6 3))
w a b c d e f:=E a 2 4 (E b 2 8 (E c 2 12 (E d 2 14 (E e 2 16 f))))
fX a b c:=aP y k (ap a y k->b\/(c/\K f y k))
a7Z:=eN (k it bJ o e)
aMx:=dR (gt ((k,x)::J)) (v k f ((k,v)::J) ((k,x)::gt J))
aMy:=fun H v(m:He)=>br v eM
cp a c d f:=by have a:bd (b≠x) (be c) (be d):=fun b o a5 e=>f
nt a b:=Y ["data","place",a] ["data","place"] b
B7 a:=by rw[Z e a0 b U a]
B8 a:=hF a ((fW f<0->fW e<0)/\(0<fW e->0<fW f))
fY a b c:=by have a:∀p q:Pt,b:=fun p q=>c
aMz:=by have z1:lF=zr:=by rw[<-bmq];rfl
aMA:=by have h6:Vu=NC:=by rw[<-bmr];rfl
aMB:=(afm K mg e G)
aMC:=zA->bk l (x∈m)->eb<=aE0
B9 a:=by rw[aJ c b0 r1 r2 a]
B_ a:=∀(o:Obj),a->we=Ak
aMD:=bG ch ((b∈CM\/Hh<=b)/\X6/\a7l)
aME:=aw (i<fM) (ct dd H2 Yg) ae
Ca c:=wg (x b o a f c)
aMF:=aa (Mt "dict",(ae:nk),nmN.map nP,(#[]:EA))
aMG:=cw≠jC+8*c5 12 2+4*c5 14 2+12*c5 16 2
a70:=upd (ap e5 (bV xl)) e6 (.tup (bV xl))
aMH:=by obtain⟨O,x,e0,S⟩:=d8
aMI:=aCs r al f Z d
aMJ:=let⟨o,d0,J⟩:=x;v o (e _ d0) J
Cb a:=jo bO gJ a6Q (eD ayY) a6 a6P .nil fu (d_ a)
fZ a b c:=∀{Z:Row}{g:Nat},a->b->ft c
aR b c d e f:=by rw[fz];refine b;obtain⟨c,b7,Y,d,a,e,ex,g,q2⟩:=P;rw[l_,Ey];exact f
aMK:=a1l b o e n U S
o c d g h i j k:=a c d g h (a f n i a3 (wc (nR j k))) h.n1 h.n2
Cc a:=fb (ahe x Eh aO R.f e3) (a).KA (RN st)
n4 b c:=[kN,ac x,ac lt,b,AE,i1,j5,ac I,ae,ac N,c,bI k,l6]
aML:=dz->bk i l (A bX l->a i l=alm)
nv a b:=by obtain⟨a5,nd,mem,nx⟩:=d5.rot a b
aMM:=by rcases O y k h with⟨rfl,rfl⟩|⟨q,h⟩
Cd a:=.of_wp (fun cN w A R s h=>a)
aMN:=a0 cN w _ _ ?_
f0 b c d:=bms (m gp _ (Dd (a:=aO) (o:=b) (t':=dE) (iF (bU q)) aY c) d)
Cf a:=arw (aS' (K:=K) rfl) a (oz bD) (oz bD)
Ch a:=yy (aPG aj8 bmu bmt aPM a)
aMO:=aD2 O j r lo hi
Ck a:=vN f=aa (d D m (.func a) z)
f1 c f g:=by rw[e l b c 2 ?_ f ax g]
gc a b d:=by rw[aj a b (fun c o z=>by have l9:=d9 c o z;exact d)]
cr c d e f:=by rw[g _ c l b d e a5 ⟨ax,fun a8 a4=>f⟩]
aMP:=by rw[ad i j l l l]
C_ a:=Mb dq lK P w D a y x e7 d X c7 I
aMQ:=by rw[cd m (a6R "min"++a6R ".loop":gB) "min.loop"]
Cl a:=∀m:fC,bmv->bk m (x∈a)->aE0<9000
aMR:=by rw[ah e ne w d (Mz p c2)]
nw b c:=by rw[e a D b2 X G rfl b c]
Cn a:=fun _ _ _ _ _ st h=>a
aS a b c d e:=aI T.TX.h aVR T.aVJ T.TX.b (GR a b c d e)
Co a:=aI T.T8.h a0a T.aVM T.T8.b (d_ a)
aMS:=eD=0\/eD=1\/eD=2\/eD=3\/eD=4
Da a:=aP u (aqW (s:=tJ) e c d ax a)
aMT:=by intro i j hi b8 l e
nx a b:=by obtain⟨J,g,ls,a,rfl,b,hR,Y⟩:=h
n5 b c:=∃(o:Obj)(ar:dW)(n:Nat),be (vN a)/\we=b/\c
v a b c d e f:=by have step:a=ah->aj (j<i+1) b c d e:=fun U j d7 b8 O=>f
aMU:=we (2<=fh/\fh<=64/\cA row O7)
a71:=a1m b o e n U S
aMV:=["self","width","height","points","lines","marks"]
nA a b:=fin h' (aw _ d3) (aw _ a) r V Z b
aMW:=by rcases cs with e|e|e|e|e
nC a b:=by obtain⟨c9,f,⟨a,b,n⟩,a3,a9⟩:=st
f2 a b c:=E (cw<a) 1 cw (E (xl≠b) 1 0 c)
f3 a b c:=vf P w K mg aj a b f c c5 e8
aMX:=by rw[bS];wp_delta;rw[dM,dM,dM];exact dl (aI hR)
f4 a b c:=by cases q:a with|false=>{rfl}|true=>rw[cN b,a4 c,aj aEB];rcases q with q|⟨d2,q2⟩;{rw[en]};{rw[aJ (x AB),aEB,bj (fZ (acW z.n (ml q2)))]at h;rw[ma];lia-abstractProof}
cs b c d e:=by obtain⟨l,b,c,d,rfl,rfl,a,e,c9,q⟩:=h
ct b c g h:=by rw[e x b _ c rfl ak (f c2 b2 X G g jN jN ⟨jN,jN⟩) h]
Cq b:=a rfl rfl _ _ _ _ H C b
aMY:=@aE4 _ _ _ _ _ _ ?_
Cr c:=by rw[b ?_ ?_ ?_ ?_ ?_ ?_ ?_ ?_ c]
Cs a:=af6 cN w a T I a8 aj n St p
aMZ:=by obtain⟨zs,f,a3,a9,m,B⟩:=st
cu b c d e:=a x _ dx _ rfl (Y b c) gJ d (aw e)
aM0:=fun i H x L s hi y=>?_
Ct b:=m=vs.zip ws/\sY vs I/\sY ws k/\bmx+Vu=bmw+lF/\eW (.bool b) OK
aM1:=by rw[gA B (aPc kC OK a t c u)]
aV a b c e f:=d ajh a (e8 b c (gi e)) (ck "place" 4) (cj 4 ajh) kO (bC (b5 f bQ))
nE a c:=Meets a (fun _ R s=>c7 l {cls:=rA,dict:=j,data:=jy f,slots:=sl}/\c7 b (aC rA o i n2 p)/\eW (.bool c) s)
cv a b c e:=[tV,rE,ac lo,OS,ae,i1,j5,a,b,c,e]
Cv b:=by {obtain⟨o,a7,e1,d0,J⟩:=c4;exact a o a7 e1 (k _ o b d0) J}
f5 a b d:=em St (W 0 m M H) (X ak5 ((a).stop i H) OJ ((b).go i H) (∃N:pR,(ak_)/\j x L (r1 d) (gg M (r7 N))))
gd b c d:=∀(a:Addr)(b:Gla.Plan)(b2 X G:Addr)(c:Nat),d
aM2:=vf P w K mg aj so k R.f R.fd c5 e8
f7 d e f:=∀(c1:Shared)(M:bg)(C:Nat),b Vf sT (a5s=zm) (Vg=CO) (a6w d=aa (hq (hC (M.map dm)) C)) (i (Vb=n) (nQ M mH) e f)
aM3:=by rw[a0 g0 L I q];exact d g0 L I.F3 q
Db b:=a a b2 X G e b c9 g9 e1 j5
Cx a:=so (Sl (aYO (K:=K) (w:=w) rfl rfl rfl wt) bH T.set aTf (d_ a))
aM4:=∀{Q:nK}{O:K}{b:Addr},zW bh O b->Ya->a7m
aM5:=by wp_delta;rw[hj];{rfl};rw[hj];{rfl};rw[dM,bS];wp_delta;rw[bS];wp_delta;rw[bS,ez ajH,As,dM,EG,hj];{rfl};rw[bS];wp_delta;rw[bS];wp_delta;rw[bS,ez aEi,As]
Cy a:=by obtain⟨z,ar,J,o,d0,b0,n,hd⟩:=er _ _ a
Cz a:=by rcases a with⟨o,rfl⟩|⟨j,q,c0,e0,c,rfl,b0⟩
aM6:=by exact a rfl rfl a6A aBq ns d8 rfl hi b8 OL h
CA a:=aOz b3 U I h (fun v u b5 x y b7 Y R Z q=>a)
CB b:=by obtain⟨a,b2,X,G,e,d,c9,g9,e1,j5⟩:=b
aM7:=(afm a.K a.mg a.e a.G).Ok a.P a.w a.base 16 (LJ a.K)
nF a c:=by rcases zs with⟨a,a7,a0⟩|⟨d,b,u,j,c,b1,G,c0⟩
aM8:=by obtain⟨c2,b2,X,G,rfl,j,b0,a0,e0,d1⟩:=J
CC d:=by rw[xx,c a b ns d8 rfl b3 U q h,hS];cases Z;obtain⟨ar,r1,e9,_⟩:=CQ b3;rw[km r2 (CQ U)];exact d
CD a:=∀(i j:Int)(t u:Tok)(s:Shared)(Q:aU)(E:aU),a
a72:=aS (N-i) ((N-jd)+1) (M N i lt N (i+1)) (M N (i+1) lt N i)
a73:=by rcases g with⟨F,k,e,c3,l⟩|⟨F,k,b,e,c3,f7,l⟩
r b d e f g i k:=by obtain⟨⟨y,j,a,sl⟩,d0,b0,n,hd⟩:=id a5;obtain⟨⟨c,o,data2,p⟩,u,m,n2,d7⟩:=id U;simp only at b0 hd m d7;subst b0 hd m d7;exact bmy (op:=b) (bm d0) (bm u) d e f g (v d0 u (show vO i≠bmz/\j7 k from ix (ab (nomatch x)))) hu
a74:=by simp[dI]at b8
n6 a b:=byRow2 "special-get-raises" a b
a75:=Hb "default"
a76:=.lst (a6S toV)
a77:=.tup (a6S toV)
Dc a:=M4 a (by size_fits)
a78:=wK WData.int
a79:=PlainAttrs T
a7_:=N.Pairwise (mu R)
a7':=Z.den_pos a0
a8a:=by unfold Plan.joined at this
a8b:=m.Pairwise R
a8c:=R.cs.headD al1
a8d:=f.any (Cu l)
a8e:=ns.filter (ed Jo)
a8f:=hG.set.qz kp
a8g:=left.take alZ
a8h:=a40 "internal:collect"
a8i:=J.wellSaid=ab
ge a b c:=by obtain⟨_,a,_⟩:=b;exact c
Dd a:=by rw[bY d0 a5 I.look];exact a
a8j:=by subst_vars;rfl
De b:=bl (eqIsQuiet b bc)
a8k:=fun e m=>?_
a8l:=fun x m=>?_
Df a:=oI (!(am a i ah))
a8m:=CE "__classdict__"
a8n:=fd (bE (aET ?_))
a8o:=by split<;>grind-abstractProof
a8p:=cr (eZ (gv))
n7 a b:=by delta a;rw[bA];exact b
a8q:=by rw[j0 (fun x _=>?_)]
a8r:=Q (ac aO) nD
a8s:=v o e ex.2.1
a8t:=(ax:bk (cf 0))
Dg a:=seqIndex? i a=aa j
a8u:=ad a (.dK Yc)
a8v:=ad a (.dT Yc)
a8w:=o6 (au I d0)
a8x:=by refine qN (fun ne=>?_)
a8y:=tj O (O[i]+1)
a8z:=fun b o e=>?_
a8A:=(Hu (·.pop))
a8B:=fun v b7 b5 r2=>?_
a8C:=ns (e1 (gT pos))
a8D:=pa (st.at a7Z)
Dh a:=fun _ _ M H _ I h=>a
a8E:=Q (ac aO) tJ
a8F:=fun b7 r2=>?_
n8 a b:=by rw[cl t (dx (jU a) J),b_];exact b
a8G:=di 0 (hE Pj)
a8H:=v o d0 hex.1
a8I:=fun y b6 e=>?_
a8J:=aC c (aA_ y.1) c
Dk c:=∀{l:ao}{a b:Nat},c
a8K:=a _ _ _ _ (bd yL)
a8L:=by {rw[Er,Es,se (aAE h)];rw[e];rw[vL k];constructor}
Dm a:=fun b N q _ _ _=>a
a8M:=ec (fZ (gy z E.g))
Dn a:=by rw[a4 a];simp_all
Do a:=by simp[cQ,a];simp+arith [*]
a8N:=aj le (bh (d9 lo))
a8O:=an (du 0 (h1 E)) ij
a8P:=ae (ta e) ⟨a0,q⟩
a8Q:=fun J d9 e0=>?_
a8R:=vl r ef (jr v)
a8S:=fun b7 b5 f5=>?_
of a b:=fun b1 b5 e0=>by rw[r a b7 Y r2 q2];exact b
Dp a:=by rw[cH,El];exact aW a
Dq a:=fun c o e5 e6 c1 i0 e=>a
a8T:=it F (d-1) g∈I0
a8U:=lG bc "dict"
a8V:=lG nJ "dict"
a8W:=M5 (ab (kV x.1))
a8X:=a2 (eZ (hn))
a8Y:=a2 (eZ (ho))
a8Z:=(al b (bM U)).1
a80:=fun a h=>?_
a81:=fun t' h=>?_
a82:=ep cm (mW lU)
a83:=fun x c e=>?_
a84:=fun x l e=>?_
gf a b c:=by have:0<a:=by rw[al (mR 0 b),l q];{have:=Ni (eW c) q;lia}
a85:=hH T "__len__"
a86:=hH T "__length_hint__"
a87:=hR "__init__" f
a88:=h5 "__init__" q
a89:=wq ⟨a1e,Yd⟩
a8_:=by obtain⟨g9,e1⟩:=m
a8':=by obtain⟨g9,e1⟩:=vP a0
gg a b c:=v (mV a) (fun i H v L=>b) (mV c)
a9a:=(l b o (b∉a8) ha hc)
a9b:=(l b o (b<aO) ha hc)
a9c:=G _ _ (afb b4)
a9d:=eb 1 [] (wW akE)
a9e:=eb 13 [] (wW akE)
a9f:=bo (i=0) 1 0
a9g:=bp (aFk nv) num Hs
a9h:=bp (aFk nv) num (nv X2)
Ds a:=Gg i (qF R t) a*BO R t
a9i:=i e*qF R t e*BO R t
ok c d:=by rw[dy (a+1+b) ((a+b)+1)];simp[c,d]
Dt a:=fun c o e5 e6 c1 e=>a
cx a c d e:=by rw[akQ];cases x with|bC=>{rw[a4 R a]}|bl b=>{rw[a4 R c]}|int b=>{rw[r8 d]}|str b=>{rw[r8 e]}|_=>trivial
cy a c d e:=by cases Z;cases x with|bC=>{rw[a4 R a]}|bl b=>{rw[a4 R c]}|int b=>{rw[r8 d]}|str b=>{rw[r8 e]}|_=>trivial
cz a b c d:=by rw[hS];cases y with|bC=>{rw[a4 Z a]}|bl j=>{rw[a4 Z b]}|int j=>{rw[jA c]}|str j=>{rw[jA d]}|_=>trivial
cA a b c d:=by rw[xk];cases y with|bC=>{rw[a4 Z a]}|bl j=>{rw[a4 Z b]}|int j=>{rw[jA c]}|str j=>{rw[jA d]}|_=>trivial
a9j:=t.dummies= #[]
ol a b:=(aBx (J (h7 a b (aEJ z))))
a9k:=ez YA aum._auto_1
a9l:=ec (ah (nomatch q))
a9m:=a1K j (aBy fN)
a9n:={c8 with heap:=aBY (a19 aGc) mL}
Du a:=Iu (.builtin "list.append") a
Dv a:=Dj (cf (aNl e5) (aS a 1))
a9o:=k b7 (L xw b5)
a9p:=aEw (jL (bU z))
a9q:=fun D m=>?_
a9r:=by (intro;lia-abstractProof)
a9s:=(k.1.length+1)
a9t:=fun b z=>cy z (G b)
a9u:=by rw[al (aFw (d.ne Y))]
a9v:=fun b c5 e=>o7 bB
a9w:=(Pd\/tj lO d=i+1)
a9x:=(O9->I)->I
a9y:=by rw[dl (WL a5) (fun c7 Y=>?_)]
a9z:=PT X alW (vd Yu)
a9A:=xo=ab\/alx=i
a9B:=fun j b8 h=>?_
a9C:=V e pZ (y<=c e)
on a b:=ey hi (fun c b5 e0=>by rw[r a b7 Y r2 q2];exact b)
a9D:=aa (aGi,p.2.map aa)
a9E:=oS (cv (j<i))
a9F:=oY (aw (.inl Ph))
a9G:=fun b o U e=>?_
a9H:=e7 (dw (Nu x []) (y<n))
a9I:=by induction h with|nil=>{rfl}|cons J t i=>rw[i];rw[hQ];rfl
a9J:=z u (b1=[u]) pS
op a b:=fun g0 j1=>z f7 (f7<a) b
a9K:=va X.K H a O
a9L:=bm dG b2 pts
or a b:=by rw[P sm a (cy b W (.ins dJ W [])) Py]
a9M:=fW X.K H a O
a9N:=by obtain⟨dy,b6⟩:=Xq
a9O:=N6 a7 aGj (h,v)
os a b:=by rw[a];intro e;rw[b];simp
a9P:=E (cw<p+AX) 6 cw ae
a9Q:=(x,c)∈zt mG d B
ov a b:=∀l:ba,Ml (hr (p e) a)=b
a9R:=ex lQ (j<MF) (ad j)
ox b d:=by show da (qJ (aDq a.1)) b;rw[Cq c a.1,d]<;>rfl
a9S:=mz K C m x st c5
a9T:=ld (vR x)\/j5 (vR x)
Dw a:=wi M H (fun d0 a8=>a)
a9U:=(h,v)::a4C fA
oy a b:=o h' a (pg b) (Q ah tJ)
Dx d:=by rw[bn b U (m b _ pO dr d)]
a9V:=an (J.drop EH) (alU-EH)
Dz a:=f0 (L M H (fun v a8=>CR (A M b7 a)))
a9W:=by have:fl []=nq:=bH;rw[this,Gi];rfl
DA a:=fun b o h2 e2 z=>a
a9X:=(Nu k []).foldl Ca (J,Nt)
a9Y:=rk bh TO a b
a9Z:=h_ eF eG p=ab
DB c:=M (e3 a b) (BG c d6 c3)
DC a:=∀(N:cI)(c J g:Nat),a
a90:=ap H ry (aOH J) q
DF a:=by have c0:a=0:=by have:=I.adS 0 VL;simp_all
a91:=fun j y t b4 b9 e7=>?_
DI a:=fun aI s M H Q I hw=>a
a92:=⟨4,16+aDi⟩
a93:=⟨bH,x cS⟩
DK a:={P with main:={P.main with body:=a}}
a94:=ez (arB b) aun._auto_1
DL a:=zj (cj (e5 ⟨a,k⟩))
a95:=cv (v a<=b)
a96:=e (a3.trans z)
a97:=by (try with_reducible refine EJ)
a98:=aJ (W.mpr e5)
a99:=.yw EO (.lst OV)
a9_:=.yw ER (.tup OV)
a9':=s.heap.Ns oR m
a_a:=cv (y.1∈aB0 fN)||cv (y.1∉N)
a_b:=r.Sa c1 (ahj c1)
a_c:=r.pin (b,o) a7I
a_d:=max (eL lT) (eL lX)
a_e:=IsTup.new _ _
a_f:=O.any (e9 (yH y x))
a_g:=Hu (as (#[]:dW))
a_h:=by rw[<-UR ag,<-UR C]
a_i:=by rw[<-K6 h nd,<-ad3 h nd]
a_j:=ah1 (oQ 1++Hd 1)
a_k:=a6u ⟨al,Jc⟩
a_l:=sy _ (yK ai)
a_m:=bN (saveRecord wU)
DO a:=have z:=Ad (lJ e).1;a
a_n:=.lst (au e) ?_
a_o:=bZ (o:=cR O o) c0
a_p:=bZ (o:=aGA) u0
oz a b:=ajk (k:=a) (ab (pB b x))
a_q:=(Od dm).toArray.push gp
DR a:=by rcases a with⟨_,q,_⟩|⟨_,_,_,q,_⟩
DS a:=by rcases a with⟨_,_,q⟩|⟨_,_,_,_,q,_⟩
a_r:=Gla.cuts a5H de
a_s:=bmA (agg D B) gX
a_t:=Ea (Ea 0 alV) aGM
a_u:=lR (GH c6) b8
a_v:=lR (GH b3) r2
a_w:=c6.imp (ah (aZU q))
a_x:=e9 e (fe a0)
a_y:=RV (k:=B) d5.l
a_z:=inK (K:=K) rfl
a_A:=aFB (bn [p.x,p.y])
a_B:=B.head?=aa 0
a_C:=NB th z=aa (Gp r g)
a_D:=MT y.1=aa y.2
gh a b c:=by have:a:=qN (ah (wx b));exact ix (bn this c)
a_E:=sb (DS j xu)=ab
a_F:=a6N zM J.asked a=ab
a_G:=l.1.below l.2=ab
a_H:=fun q e0=>?_
a_I:=fun u hu=>?_
a_J:=fun le j3=>?_
a_K:=B (iZ mV m) AV
a_L:=t a2r (a2B I.bk)
a_M:=p (k+j) x=ah
a_N:=NQ tZ++[mX[tZ]]
DT a:=by {intro c o g7 nc;rw[bW (J ai)];exact a}
DU a:=by rw[zw]at J;rw[hQ];exact a
a_O:=fun _ _ _ _ n=>n
a_P:=aw ⟨ax,ax⟩
DV a:=bn (nn (at3 b p a))
a_Q:=fr "cell" (.cell ae)
a_R:=ah (L.ne Y zD)
a_S:=ad J (aI CR (g4 e))
a_T:=ad r (afX w r a7)
a_U:=fH (fun c1=>?_) (fun c1=>?_)
a_V:=fH (fun d=>?_) (fun d=>?_)
a_W:=fH (fun e6=>?_) (fun e6=>?_)
a_X:=(dm a==dm b)
a_Y:=by rw[bT (ais (sq (t pC a0)))]
DW a:=eh (aCL i) (bo (! a))
a_Z:=ch (t aGa=n)
a_0:=am t (zs.map cp)
a_1:=bj (da c2) Q
a_2:=by refine fH (fun f=>?_) (fun f=>?_)
a_3:=by refine fH (fun a3=>?_) (fun a3=>?_)
a_4:=aL Z (O x≠[])
DY a:=ac (sx ES) (sx b8) a
DZ a:=ga (aFu C H L v a tn)
a_5:=by rw[cd (wb (ac oC oC (pd h)))]
oA a b:=Y a ["neighbours","came_from"] b
a_6:=dJ (f[i]?==xv)
a_7:=c_ (g (W.sub _ h))
a_8:=by rw[cb (x (aCR f) W)]
a_9:=by rw[cn (x (ta f) W)]
a__:=fun(n:Nat)=>cK
a_':=ed (vD t ((g1 (13+n)).j+o))
a'a:=(OY).head?.map bp=aa c
a'b:=(OY).getLast?.map bp=aa c
a'c:=¬gR (jK r d3)=gR xE
a'd:=fs (cr (r a) (r b)<0)
D0 a:=an ["value"] "value" a
a'e:=ch ((aGa).findIdx? fN=ae)
a'f:=er (l+b) (J+a)
a'g:=er (b+d+1) (a+c)
a'h:=es (l+b) (J+a)
a'i:=es (b+d+1) (a+c)
a'j:=dt 5 [k,q.x,q.y]
D1 b:=fu (B b (lm (a,o)))
D2 a:=(aC (tw H) (Md (GM.aur C a)))
a'k:=(aa (aeG r l),aa (aeH r l))
a'l:=dw (ik x) (g3 y)
a'm:=typeOf X_=eU (.type "method_descriptor")
a'n:=L k=aa (aI A (sP xn))
oB a b:=wh a b (fun _ _ z=>MQ z)
a'o:=bU b0 (fun d a4 P=>?_)
a'p:=eV (F a b) (G a b)
D3 a:=(eD=0->∃n:UInt8,a)
a'q:=fun j x S=>?_
D4 a:=by {rw[YE,l a,l aGL]}
a'r:=(Ji+v hi)/2
a's:=aB6 d alG sZ cF
a't:=hB "__setattr__"=aa (aa (.builtin "object.__setattr__"))
D5 a:=bm a p.x*bm q.y p.y
oC a b:=cb (Nk c2) (J (Mz p a)) b
a'u:=hm (iZ ih bmB) p
a'v:=eM AR j.1.2.1
a'w:=h2 (Ym/\e.2<aL)
D6 a:=h3 (z o a (∀v,gE≠.cell v))
a'x:=fun _ _ _ e=>e
a'y:=iH EN (c+1) J
a'z:=gt (ako i) (IM row)
D7 a:=z m a (∀c,aBt c m=aa (j c))
oE a b:=ly (∀w∈a5 v,a->Z v<=b)
a'A:=fX "links" X
a'B:=by injection a9 with a9 _
a'C:=by injection d' with c5 _
a'D:=PG X (gT pos) (KG i)
a'E:=(w g-w g')*c e
a'F:=fun e1 b5 a9=>?_
a'G:=Z (T v) (dL (lP (c5 e))) 0
a'H:=dh (du 0 (h1 E)) (ij+VZ+1)
a'I:=ahV R J i t w
a'J:=iO H (ng r t)
a'K:=oF K p.1 (dp p.1)
a'L:=Ec B (e.1,e.2)
a'M:=E b (b∉B) (par b=ae)
a'N:=fun f a4 q=>?_
D8 b:=z a (mg x=aa bc) b
D9 a:=by rw[bA];have:=a;exact cf this fy
a'O:=fe d5 A t h4 E s
a'P:=fun v a8 a4 p=>gM
a'Q:=a (.int oW) H ry (rI (dE+1)) q
D_ a:=ayk h' e it a d ab u
a'R:=.ins C aO []
a'S:=iH N ee (di hl E)
Ea a:=by cases a with|some e=>{rfl}|none=>rfl
a'T:=ln e.2++[e.1]
Ec a:=aL (by rw[bT (HR S)];exact Y.Li a ag)
Ed b:=fun o d0=>f o _ (.inr d0) b
Ee a:=fun M H R=>h8 M H a
Eq a:=by have:=a;rw[bY bmC (qV aT)];exact this
a'U:=by rw[cz,wM (bV hi i0.l)]
a'V:=br i0.l d1 fy
a'W:=by induction h with|nil=>{exact s}|cons J t i=>rw[cE J i]
a'X:=fun w hw=>h w (ck hw)
a'Y:=tm (WA AU) mV d8
Ev a:=vw (fun i1 j5=>M=a)
a'Z:=.Compare a [j,f] [b,c] pos
a'0:=by obtain⟨g4,g8⟩:=aXB e0 g0
a'1:=∀f∈bG J,Yx
a'2:=mY i _ (da a5)
cE a b c d:=by have a:K a3 b c:=by have:=gC (J z[0]?) d;rw[gj]
a'3:=by have⟨dx,hd⟩:=mY
a'4:=cA dd (p.y<=r.h)
a'5:=i0 "min" "min"
a'6:=⟨(ag),fun t c6=>?_⟩
a'7:=pi (a1y cF x u)
a'8:=GL K mg x (kA cp)
oF a b:=aj d (bV (a++gt (akK i) (gI b)))
a'9:=pk (F8 e8 [] E0 t)
EP a:=(f b o (b∉a8) (b≠r) (be (b1.get? b)) a)
a'_:=IB _ _ a5E (XN _ _ aEE z1)
a'':=Co R K G l Y
EQ a:=i5 (aR H c1) (.bool a)
baa:=Sl (aYp rfl) bH aj1 auZ (d_ aq)
oH a d:=CM (e [cC,jR] tL alP a d)
E0 a:=by refine K0 a (fun J h1 e0=>?_)
oK a b:=∃F,yY (L d=aa a) (ia<=i) b
bab:=∀v,aa (ajj j pJ) pJ
bac:=cg (ii (sv (all z (ck c9))))
E1 a:=kv b9 (eo b o a d0)
E2 a:=i aZ t_ (J x H Q) a
gi a b c:=i aZ a (t b M H Q) (dj c (fun _ c1=>pq (Q g0 L)))
bae:=lQ++[((hM).hash F,dm (ad i))]
E3 a:=fun b o e0=>by rw[aJ e a0 e0];exact a
baf:=ch jH (dJ (ai9 b (p+2+8*i)))
bag:=ad x (x<n) nB
bah:=va X.K H p d7
bai:=fun v i3 d6 h6=>?_
baj:=fun j x y=>aa O x/\aa d7 y
bak:=fun i x R S=>?_
bal:=fun m x c4 S=>?_
bam:=a [] H I .nil h
ban:=by rw[i3 s (aw (br e5) ag)]
bao:=fW X.K H p d7
bap:=(mP x&&mP y)
baq:=wb (t oC AI)
oL a b:=by {refine i6 Z a;rw[fW y y];subst e y;exact b}
bas:=by obtain⟨C,a3⟩:=g 0
Fa a:=∃ar:aM,EF/\a/\Jk
Fg a:=∃vs:aM,a1 iS/\Pz/\a
bat:=fun f W=>eW (a3.2 f W)
bau:=bj (cj (e6 (d8.mp k)))
bav:=by rcases b3 with b3|rfl
Fk a:=∃g7∈dS Z,∃g8∈dS Z,a
baw:=es (iT b:j+1<n)
bax:=fn x=aa (ac (dp x))
bay:=by rw[C (aFL d0 d ?_)]
baz:=by rw[C (aFL d0 hd Yj)]
baA:=aC sl (gU b) {o with slots:=sl}
baB:=bo (aeK r eM&&dk tT)
baC:=aL (hw x (by simp[du]at S⊢;exact .inr bF))
baD:=by rw[v (v o e ex.1) (fun a b9=>?_)]
baE:=wj (MH e (aa (gT E)) MI cF)
baF:=by rw[aj b5 a70 (dP (bZ a3) a9)]
baG:=bv h.b (j4 b4.n)
baH:=bv h.t (j4 b9.n)
baI:=by {next h=>rw[ma];simp[h]}
baJ:=by rw[ae b4 (i e) (w g-w g')]
baK:=(n,.free)∈d
baL:=(x,.cell)∈d
baM:=a2 ?_ ?_ ?_
Fr b:=∀(l:ao)(a:Nat),b
baN:=bp (bh (lM alD)) e.2 (g0 (cf aGl+1))
baO:=ca (a6U Iy aEO) Ob a6T
baP:=ca (a6V Iy ajQ) Ob ajP
baQ:=bm (ze O) a Z
FB a:=M (eA "list" a7p) (aYh a d6)
FM a:=M (eA "list" a7q) (aYg a d6)
baR:=by have e1:h∉bX:=J (bv (gb _ z) (gy eu q))
baS:=by have e1:hk∉bX:=J (l7 (gb _ z) (gy eu q))
baT:=(IG D (gg 0),jT,jZ D.w)
baU:=(IG D (gl 0),jT,ht D.h)
baV:=v vs ak (o4 p)
cF a b c d:=by have a:b<=Ae:=by rw[it c,bY sR cj];exact d
baW:=sg (J=w/\f3 J c1)
baX:=sg (J=a7B/\Q (nb ck) c1)
gl a b c:=by cases q:a with|true=>{rw[fy b]}|false=>rw[fy (d1 (by rw[aO c]) _ ei)]
FS b:=fun c8 O=>bi b b7 O q2
baY:=x (acU f (aC c9) (aC d1))
baZ:=x (acU e5 (aC c9) (ml d1))
FW a:=wr (B c o (sm c o e) a)
FX a:=∀⦃pins:bw⦄(s:Shared)(M:St)(H:Hp)(Q:AQ),cw Pn a aGR
ba0:=wh (cv (lz w) aGw agM)
oM a b:=Ta r (HP r a) b ⟨r.w,r.h⟩
ba1:=WS (bo (alO&&dk Jn)) tA gW
ba2:=f6 _ _ f5 j2
ba3:=CB tl pw D j x
ba4:=CB OE Eo D j x
FY a:=Un (uY oS) ch H L bh a
ba5:=nP (gg D.h) (ht D.h)
ba6:=nP (gl D.w) (jZ D.w)
oN a b:=i 3 akl a (dS bb (dP (b5 aw3 bb))) b
go a b c:=i 3 a (bh azp av b) (dS bb (a7 azR bb)) c
ba7:=a1 a6W/\k=(v a6W !=0)
ba8:=a1 a6X/\k=(v a6X !=0)
ba9:=by rw[e Z L t hO t hO]
ba_:=by rw[e Z L t (eA cV) t (eA cV)]
ba':=fun g0 L u=>kl n Po
bba:=fun g0 L u=>kl bx (aS bx i)
oP d e:=∀a b,j I5 OH (a≠0) (b≠0) d e
oQ d e:=∀a b,j I5 OH (a≠u) (b≠u) d e
bbb:=(fM a.x p.x+ald*bm a.y p.y)
bbc:=(fM b.x p.x+ald*bm b.y p.y)
bbd:=by rw[mp a7L (items_int hi)]
bbe:=⟨(a9 x m).1.go t,(a9 x m).2⟩
bbf:=by obtain⟨t,a⟩:=avd a
bbg:=by obtain⟨b1,a3⟩:=O.at_
bbh:=by obtain⟨c2,M⟩:=d.at_
bbi:=by obtain⟨e0,g0⟩:=a
FZ a:=(at7 (fun i p c2=>a))
bbj:=mX[R.d]::aC9 jO
bbk:=show bmD a eT from p
bbl:=j.1.2.2 p c2
bbm:=eV rq ef (bp b)
bbn:=mu iv OB (v,b)
F0 a:=(jV a).reverse.map rv
bbo:=asL n (fj (h t Jh))
bbp:=aDM (bt (yS mV m))
bbq:=P (IA bt (n-1)) v
F1 a:=x (FW (aC a) (ml b3))
bbr:=by rw[a4 GF];unfold readSteps;rw[Pp]
F2 a:=E H (j a H) (k H)
oR a b:=M (.Constant a j pos) (tC b)
bbs:=a1 (bx+zs.length)
bbt:=aC (ne h2) c9
oS a b:=by {rw[tN,a1 J d5 a];have E:=vX;exact b}
bbu:=fun i v=>z e aGn (v=e.2)
bbv:=by rw[a4 r1 (vW (v a8 r q))]
bbw:=ap (a5 t) (c t) y
bbx:=by have e:v R.d+1=ae jO:=by rfl
oU a b:=by {next l=>rw[bT a];have:=ed _ m;exact b}
bby:=(fW K H p d7\/nm d7)
bbz:=CZ (ah5 (aCx alE e e))
bbA:=fun v e4 d9 d3=>?_
cG a b c d:=by have a:X≠b:=by have⟨lk,e,_⟩:=c;exact eo d
bbB:=bo (v<0) (gB v cK) (kl a10)
F3 a:=ey U (n0 a (fun d c8 P=>?_))
F4 a:=∀(m:Nat)(h:Ln),a
bbC:=bV (f++gI 2 0)
F5 a:=by rw[aL (akK (i+1)) (akK i) n a]
bbD:=¬(bp j).below eH=ab
bbE:=r0 (.seq a2i C)
bbF:=by rw[al (mR (cr x J) 0),l q];{have:=tc q (eW hw);grind}
F7 a:=d [] ak aY (an a)
bbG:=ab p ?_ ei (aP b U)
bbH:=(GM.aep Z t).1 e
bbI:=by {intro p c2;simp[LC]at c2;grind}
bbJ:=U d4 d (bV e)
F8 c:=l a b (R a b) (R b a) c
bbK:=H0 w h pts aiC tn
F9 a:=PC X .NotIn i o (ayf a w ab A l)
bbL:=by obtain⟨a7,e5,i9⟩:=LE
bbM:=D vc aq nZ cu
Ga a:=∀(j:Nat)x y,Ew->K l (j+1) y->a
bbN:=O[c0]?=ae\/d7[f7]?=ae
Gb a:=Ob _ _ e6 (Iy _ _ e5 a)
bbO:=j h' D (O1) (Q .none nD)
bbP:=by rw[s le (vn EE) (au F) EK a7E]
bbQ:=bI e (A (bG jc) e) (hE jc) (ke<0)
Gc d:=∀a b,c (a<n) (P a) (b∈Nu a []) d (P b)
Gd d:=by rw[c dl b (gR ru) f _ rfl h3 d]
bbR:=by obtain⟨lk,q2,d⟩:=h.k
bbS:=this _ x S jX
bbT:=(a48 a49).blt (Di hy) (ls.map hy)
Ge a:=aFr r.w r.h a Pr a7W
oW b c:=b->Ga K H O c7->ct bc c
Gf a:=Q e (k<=j) W e a
Gg a:=fun b c5 q=>o7 (by rw[bW a,q];rfl)
bbU:=by intro b7 d7 b5 b9 f6
bbV:=by intro e4 d7 d9 g5 e2
oX a b:=by have a:((Expr.Name y r).pos.line==b)=ab:=a5
Gj a:=ga "number" "number" a
Gk a:=o L AG (dJ L (iq a)) (sc 1)
Gl a:=e [cC,nJ] alF (bh d Pb) (kd n) a
bbW:=C2 (Z.ok.lt e m.1).2
bbX:=C3 (bv wF (cn Au this))
bbY:=po (by rw[o9 it,b_];obtain⟨o,e,c,d⟩:=st;exact a7N)
Gn c:=∀(a b:Nat)(h:Ln),c
Go a:=∀(l:I9)(i:Nat)(c:I9),a
bbZ:=by intro e4 ns d9 g5 e2
Gp a:=by obtain⟨b6,Z⟩:∃z,z=a:=ek
bb0:=by {rw[bj (J (q (ayC z))),W m];simp[q]}
bb1:=by rw[C7 (asV d5 Y G P)]
oY a b:=fun(n,k)=>if a then(n,b)else(n,k)
oZ a b:=c0 ⟨a,p⟩ _ _ ?_ b lU
bb2:=(kA (c_ (pe m))).foldr (· + ·) 0
bb3:=aEN _ _ _ T (fun b d0 o e=>?_)
bb4:=by rw[nX Je (C0 (W b z).1)]
bb5:=bl O K O ((hM).is bh O (ad j))
bb6:=fun e a x a8 m a4 d0 n=>?_
aW a b c e f:=d a b (oy bR) (ck "row" c) (cj e f) kO (mz bD)
bb7:=n4 (aa y) (bI t)
Gq a:=opI (fun i j _ _ _ _ _ b0 q=>a)
gr b c e:=a x e7 d X c7 I i b (a rfl c e Z (fun b7 b5 O=>?_))
bb8:=by {rw[dC,dC,pB,pB];decide}
bb9:=by obtain⟨n,j2⟩:=d1 d3
bb_:=by obtain⟨j8,l9⟩:=U.at_
bb':=(0::gI 1 fh:aDN)
o0 a b:=∀p:Pt,bD ((a).contains p) b
bca:=iI (MT y)/\(j5 (aB4 y)\/iI (aB4 y))
bcb:=["p","q","r"]
bcc:=[xh,.ref i7,b8]
bcd:=clF K (dp p.1) p.2
bcf:=oE p.1 p.1 p.2
bcg:=by refine k _ _ (nf xG) (WO a5) ?_
Gt a:=.inr (v y (bM b6) a)
bch:=p z.1 rx z.2.2
bci:=by injection b4 with b9 e7
bck:=by injection b9 with g5 i2
bcl:=show bmE<gG from hu
bcm:=by rcases c3 with c3|c3
bcn:=by rcases b6 with b6|b6
bco:=Mod X.K mJ sS
bcp:=∀d∈c7,aGs
bcq:=by obtain⟨_,o,d0,_⟩:=bmF U
o1 a b:=c0 a (by delta uY;rw[Hj,W];exact b)
bcr:=by obtain⟨x,S,_⟩:=mA p pQ
bcs:=by obtain⟨i,hi,_⟩:=a8 m x Z G
bct:=z.sameBut c0 (f y c e)
bcu:=.Tuple c B T
o2 a b:=f7 a _ alJ (h.azK (dx:=dx) b)
cN b c d e:=Dd (a:=aO) (o:=b) (h':=c) (t':=dE) d aY e
bcv:=by simp only[aiV,CI]at b9
bcw:=max (v+cK) 0
bcx:=BJ (vn B) (hG e.1 e.2)
bcy:=a6Y _ (oU j.1) rfl
bcz:=fun{a}l=>hi l b2
bcA:=by rcases mem e with⟨a3,_⟩|⟨a3,_⟩
Gv a:=eW (x (se a U b3))
Gw a:=low a (by delta iG;lia-abstractProof)
bcB:=N.SX (NA iX) G H
bcC:=(l.zipIdx k).find? (wl (p x.2 x.1))
Gz a:=ahM (i:=v) (j:=e.2) m.2.2 a
bcD:=aRY Y (ah (c (a5M q)))
bcE:=aCW (cs (vX (h_ pG rr)))
bcF:=by rintro(l|⟨a7,d5⟩)
bcG:=aSq C q.2.symm q.1.symm
GA a:=auC W (fun Y i l h=>a) d1
o3 a b:=yY (SB [X] a L) (C_ L) b
bcH:=aWB (bV c7 C.g)
GB a:=d6 (m:=a2Z x) n2.2 (o2 a)
bcI:={p with j:=p.j+1,more:=i_-1}
bcJ:=putSet_of D t' hd
bcK:=hG.keys.qz (fun b o U=>kp b o (.inr U))
gt a b c:=d6.extBut _ _ a (R.extBut _ _ b c)
bcL:=afk a7X bO (GS K aq)
bcM:=GM.Cc r (bp t) akS
bcN:=v z.1 (c6 _ _ rx) z.2.2
bcO:=by obtain⟨k,h9,r,h8⟩:=c;exact again r h8
o4 a b:=by {rw[bD a];delta vK Xz;simp[pm b]}
bcP:=ka/\dz/\alT
o5 b c:=by have U:b=t:=by delta iG;rw[a.2];exact c
cQ a b c d:=by {have a:b=j:=by{rw[a2a b1 c]at a3;exact cZ a3};exact d}
bcQ:=E B (k=aa B) (aiH B)
bcR:=by rw[C (aXZ c9 b1 (fun b3 k sa=>?_))]
bcS:=by rw[C (aYE c9 b1 ?_)]
bcT:=U g6 z [xh,xh]
bcU:=Inv X aI (aBk i pJ) H c1
gz a b c:=by {rw[q];obtain⟨_,a,_⟩:=b;exact fw c}
bcV:=a1 (t (B++a6Z f))
bcW:=j.cls=rA/\aj<=d
bcX:=Z (sw j) a a7Y
bcY:=V l g (l.1∈pts/\l.2∈pts)
bcZ:=aC (lD hu) (aP u ak)
o6 a b:=an (eU (mw a b e) (wy e))
bc0:=ch ((i.endLine==a.line)=ab)
bc1:=by rw[bC i u (all v fx)]
bc2:=cs (gI 2 l.1++gI 2 l.2)
GE b:=bN (T.G2 b s e c2 a0) a
bc3:=(z x xQ (p i x=ab))/\Q x (j<i) l x (p j x=ah)
bc4:=by rw[v cS (fun n k7=>?_)]
bc5:=bl (Iu (.builtin "min") [cC] dfl)
bc6:=(p,w)::aBI vs
bc7:=a0 (iG f e) kH (a2S _ _)
bc8:=a0 (o_ f e) hb (a2R _ _)
o7 a b:=o vs a (dD (R H) vs O) b
GF b:=fun a h=>by have:=b;rw[aRd];simp[*]
bc9:=X "answers" acK ["calls"]
GI a:=hs (l M H (jJ (A M a8 a)))
bc_:=ad t (t<n) (0<=f t)
GJ a:=aj lz nL a (dP nL)
bc':=bV (wD bx oW) z1
bda:=as (da a5) q n
bdb:=by rw[aO n d1 (axK k i j)]
bdc:=fX ((mK MO).push (U7 C aO))
bdd:=dc (e6 b U).clean
bde:=by {rw[c0,<-a7,UX];rfl}
GL a:=by rw[dn t' (dx (∃t',v=W6 j t') a)]
bdf:=bm alb ala*z.x
GM a:=by {rw[j0 ob];have:=a;rw[HB (fZ (gy z.g fm))]}
o8 a b:=by have i7:a=b:=by delta tx;exact bA _
bdg:=by rw[bG U J (oI p (y O (zL q)))]
bdh:=aI C (kq f y G)
cR a b c d:=by rw[ak e8 a b (by rw[jD iw,cd Yn];exact⟨c,d⟩)]
bdi:=by rw[cc jh (v e (.inl a0) (sr sd))]
bdj:=j a s (Q a s) (h4 a s)
bdk:=by rw[eh (qH Z v (ey d3))]
bdl:=by rw[fy (fin h6 _ ei)]
bdm:=bp (tq vn) e (g0 (cf Ej+1))
GQ a:=ox P w H (h.push aGc) mG a
bdn:=br hd.l alC b8
GR a:=da ((a).isNs CN) ((UY []:fv Vd).size==0)
bdo:=ff (k _ _ xG a5 ?_)
bdp:=lc (be E F G)
GS a:=by rw[fJ ((hM).pyHash r1 a fO)]
GU a:=gW (cy (show p∈a from c2) jN)
bdq:=by intro aI s M H x v Q I R h
GV a:=by have b4:[e].filter a7R=a:=by simp[f5]
o9 a b:=X a b ["call","numbers","row"]
gA a b c:=ft (@a pos aI a4 M a8 _ r b) c
bdr:=fun b u q _=>⟨u,Yd⟩
bds:=by delta H5;rw[h];simp only[at8 F,a0]
GW a:=fun b o e5 e6 q=>a
bdt:=∀j,xm≠.dummy
bdu:=∀b6,Gla.take gc alQ≠.ok b6
bdv:=by have W:=L (dj s) (GH (o:=cR O o) c6)
bdw:=b3 "call" "numbers" "row"
GX c:=∃i L,N (Inv Jr [] (ahp M ali) L c1) (l i mH) Yt c
bdx:=(NN<=100000/\∃B:ej,eC<9000/\aL pts nB)
GY b:=fy cm (m t O o b)
GZ b:=f J _ dx _ hd gK b
G0 b:=f x _ dx _ S gJ b
pa a b:=dI a (h_ pG rr)||dI b (Lq r l)
bdy:=rk cN w bh q b
bdz:=by rw[(cZ a),(cZ b)]at e
bdA:=by obtain⟨_,_,_,_,o,_,_,e,_⟩:=x;exact hh
G1 a:=dD (zg u gm H) vs a
G2 a:=PG X (.Tuple a7 k pos) (aqR a n t)
bdB:=by delta Gla.STEPS;simp at c1;lia
bdC:=lC ((AL).1 (a1Y d3).1)
G3 a:=fun b o _ U _ e n=>a
bdD:=∀i x M H,nr->akV->be x M H aGm
bdE:=nM (j (i+1) (U e4 D (eM B))) (j (i+1) d4)
bdF:=dm iy::(b1++c7)
bdG:=k b u (U b n) q
bdH:=by rw[PD];exact⟨u,bj e (vL k)⟩
bdI:=m6 (o z u hu)
G4 a:=by rw[c9 (zH l a) h (cy this (my _))]
G6 a:=l1 (E p (Y p) (Q fP a))
bdJ:=by {rw[Er,Es];rw[vL h];rw[se (aAJ k)];rw[e];constructor}
bdK:=o6 (be I d0 K)
bdL:=akr n++gV t::Oq n
G8 b:=by rw[Hj,aCV,b];rw[ls (p a)]
gB a b c:=(bi (bp a).y z.y&&(bT z.y (bp b).y&&c))
bdM:=fun b o U z=>x b o (e9 (U (ar y))) z
gC a b c:=dst lV a=cu b (lL [0,0]) (aa (pf c),[0,1])
bdN:=np (z O YB (h.DictOfH (U9 tM) a O))
bdO:=pa (k it bJ _ st)
bdP:=ez (l+b=J+a) akJ
bdQ:=M5 (jx (kV d.1,d.2))
bdR:=d ae ae ae rfl
pb a b:=by rw[El];cases(a0 T a A);exact⟨b,fun _ e=>nomatch e⟩
bdS:=j b c5 (fr (.Kv c5)) (aC a (L b) (.Kv (c5++a)))
bdT:=bm q.y z.y*bm z.x p.x
pc d f:=∀a b O d7,e [bc,cV] Yw (fW K a8 b d7) d f
pd c d:=b _ _ rfl rfl c _ rfl d
G_ a:=IB _ _ e6 (XN _ _ c1 (IC _ _ e5 a))
bdU:=∀v,ap ak3 o rE
bdV:=(AJ).push (l6 "list_iterator" #[Yi,hG 0])
pe a b:=aw ak (es O a (ay8 n (lI (e7 t b))))
bdW:=by have g7:X9=a7s:=afx c5 gk e.2
bdX:=by rw[aS b (cf 256^4) (2^32)]
bdY:=bn [gT E] e pos (ade b8 (KG i))
Ha c:=∃a b:Int,∀z,c=a*z.y+b*z.x
bdZ:=by obtain⟨w,n,W⟩:=ahd a9
bd0:=by obtain⟨n,d1,a7⟩:=axK k (g1 13).i e
bd1:=oE "__init__" p.2.1 p.2.2
bd2:=oE p.2.1 (aS p) p.2.2.2
gD b c d:=∀a,i (x=bc) (∃O,b) (R c a8) d
He a:=by obtain⟨vs,a3,a9,e2⟩:=a
Hh a:=by obtain⟨vs,d2,q2,q3⟩:=a
bd3:=es (cz hi a:i+1<n)
bd4:=Oc N d5 (f7+1)
bd5:=Oc c2 a7 (c0+1)
bd6:=(tr cA i f).2
Hj a:=by refine Li Z al (HR a).1 ?_;simp[*]
bd7:=by {rw[c_ b8 b8];exact ek}
Hk b:=by rw[j ?_ NP b Y.LA (v aiL Y.st aks)]
gE b c d:=by rw[y vs rfl d0 g b];obtain⟨a9,c0⟩:=c;exact d
pf a b:=by {rw[ec a];rw[ajC,cO];rw[aj (ec (J b))];exact bE (mY (cg xA))}
gF a c d:=f x dx a c (dx≠x) (e8 (kR::(vs++b)) d (fun v b7=>v= .bC/\Q kR b7) E)
bd8:=bk ls (gQ x.1/\gQ x.2)
bd9:=fun(p q:Pt)=>xP
bd_:=fun c v _ q=>k c v q
bd':=by rw[Q rfl dp _ (aw (jr.t (k:=ud) c3 U))]
Hl a:=∃i j,x=hT/\y=I2/\a
bea:=by have s:=ey (as gD) fZ (jo fZ)
Hn a:=by have b4:i4 h.1 h.2=a:=by rw[ui];rw[d2,q2];grind-abstractProof
cU a b c d:=by have a:b:=fun p c2=>⟨hA (aCP p c2) c,hA (Y.BV p c2) d⟩
beb:=XN _ _ D.TOi1 (IC _ _ aEQ n)
gG b c d:=a Vc agX zl aie b CP Hk MB c er d
bec:=fun v b7 b5 p=>iU eY
bed:=ws (by rw[b_,a4 cr];grind)
cY c d e f:=b T.TV agt (dq c) ls d rfl rfl (aJ e f)
bee:=wh (cv (lz w) (wD w) aGB)
Ho a:=C M H (fun o a8=>ti M a8 (fun i b7=>a))
Hp a:=ci "data" "told" "data" a
Hq a:=by rw[T g b4 aGQ g (kq a b4)]
Hr a:=by rw[T sl b4 a71 sl (kq a b4)]
bef:=gd a7p (g8 (e1 (j0 "enumerate" [e])) [])
beg:=gd a7q (g8 (e1 (j0 "zip" XT)) [])
beh:=ca (ca (a6U IC aEO) XN a6T) IB a5C
bei:=ca (ca (a6V IC ajQ) XN ajP) IB D.l2TO
bej:=fg b3 Q (fun c a4 e=>?_)
bek:=by rw[fh b (J.2*J.2) J.2]
bel:=⟨cf eu fm,cU fm⟩
bem:=by exact fw (show bA a _ from x)
Hs b:=∀(cs:bK Codec)(a:aDy cs),b
ben:=by obtain⟨I,m2,m3⟩:=(XD dk f9 (v ns g5 e2))
beo:=by have q:qJ d=ab/\sG c7=ab:=Ad p
bep:=fun n k c=>rfl
ber:=[vn z.y,vn z.x,vn num]
Ht a:=∃f:ba,a=ajW O/\aL f (x∈Z)
gH a b c:=∀F,i (bh d uc) (ia<=a) (b) c
bes:=by simp only[hF,fK,aCu]at S
bet:=au0 K mg "NUMBERS" au3
beu:=by obtain⟨_,_,_,q⟩:=c0;exact MQ q
Hv a:=by have:=a;rw[am (Mq (VX h))];exact this
Hw a:=by rw[cN I.eq];rw[a72,a]at q;exact q
bev:=j j x (f j=aa x) (x.1=j)
bew:=fun z a8 a4 a3=>?_
bex:=ac (alK++[f5]) t
pg a b:=by rw[xk];obtain⟨b6,d3⟩:a:=e;rw[tN];exact b
bey:=by have⟨b1,q2,_⟩:=h.s
Hx a:=ac (dy (J+2) (1+(J+1))) LW a
HA a:=aiz++(le 4 r.w++(le 4 r.h++a))
bez:=db (f5.bs b o e).1
beA:=by rw[y le a7 (au (iW e5)) ?_]
beB:=ev B (bG B (dw a<dw b->OH->Pq))
beC:=hC (an (a17 rG) (Jq-rG))
cZ a b c d:=by have a:b:=by rw[c];rw[cY (iq i d),l z,ay]
beD:=ap i hi (sx hi) e
beE:=F9 (aOK rfl) bH T.max aTh aGq
HC a:=by have H:=x a (show y∈ik i by rw[J d1 Ag])
HD b:=∀(i:Nat)(a:Addr),ED->b
beF:=mw g Z e=aa (g7,g8)
beG:=o x (ct x) (x.1=v) (o y (ct y) (y.1=0) (h1 x y))
beH:=by rw[bo (lk (eA cV)) B U Z]
a1 c d f g h:=by have b1:c:=fun i e a0=>by rw[Y b b4 b9 e7 d];exact a O b b4 (eo b9 f g h) e7
HF c:=by cases q:c with|nil=>{rw[Yq]}|cons a b=>rw[q]at d1;simp only[pf]at d1;grind-abstractProof
beI:=eL (cd l6 l5) (tv (hL d7 l6) rv)
beJ:=by have a0:A gX gX[i]:=pQ
beK:=by {rw[ps s];exact as (dB a7 ag) (br e5) pN}
beL:=bG t_ oa (J x O H Q) (Iu X_ (v::b1))
ph c d:=b hd dS jI ju G rfl (ce c) d
HK a:=wu (cx (b9 _ _ (c5 _ _ (g _ _ a))))
beM:=by rw[c p O i z rfl e0 a0 q h]
HL a:=jo bb rm T.GU.h (sE azd) a6 T.GU.b .nil fu (d_ a)
beN:=by rw[wF (ap c5 (br a3) rh aY)]
HM b:=∃(a:Addr)(vs:aM),i2 b alX
beO:=W8 (a:=(dm it,[])) bH (bE (bmG c a (bE (a4Y d0 hd (LZ x.ti) ?_))))
pi a b:=v (ml bH g4) (Dx _ _ bH ?_ a) b
HN a:=fun b u q n _=>Y a n
beP:=by {rw[dl pX aGG,fY n_,J dC (aC cm lU)]}
beQ:=by rw[m g6 u o h5 h1 c0]
beR:=fun h' D k=>a _ H (MJ k) ?_ q
gI d e g:=by rw[R b d U e c0,cc (lF U),sD (w dg rfl b _ (b c dg rfl b _ _ rfl g))]
gJ a b c:=aeW sD a0n a (ed (aa b)) f c ?_ ?_
beS:=by rw[z J dx hd gK (n3 dx hd)]
HO a:=by obtain⟨E,N,C⟩:=asH Y J _ aY a d3
beT:=gb q (cZ h) (j h)
beU:=w IH L7 B (vn a[n]) (v (au d8) Pc (k _ rfl))
pj c e:=by rw[eB c (b hd dS Ia y_ a dx _ (i hd dS H_ GX a _ (nW hd e)))]
HP g:=Da (a x H (a7z) m g f (dc (Ep).1))
beV:=n5 rA (gE=jy ar/\a1 MF/\iQ O ME)
beW:=bY (U1×cb×cb)
pk a b:=(ac eS (show a=b+1 by grind) k6)
gK a b c:=(l8 (jr.t (k:=L5 a) c7 b) (numOf _ c))
beX:=(ab,ab,aa (aa (a5f "object.__setattr__")),p.2.map a7v)
beY:=by obtain⟨h,i,P⟩:=a0
beZ:=ez (lastMarks [j,f] [b,c]=ah) auh._auto_1
be0:=p z.1 rx (aS z) z.2.2.2
HS a:=∃(k:Nat)(l6:jQ),a
HT a:=by obtain⟨W,⟨c9,b2⟩,turn⟩:=a
be1:=by rcases I.ok.stk with e|⟨e,W⟩
be2:=∀z∈Z++d,z≠y->Dq (r x) (r y) (r z)=ab
be3:=ey (x.above y c (oU h))
be4:=-bm alb ala*z.x
be5:=by obtain⟨j,Y,J,_,_,_⟩:=ara er e
be6:=q y (ac Ll (aJ S) b6)
be7:=a11 lo hi 1 cK
be8:=by simp only[a3o,bmH,qT,M1]
gP c d e:=asl (a:=a) (b:=b) a3 a9 (y:=c) d e
be9:=by simp only[bG,c_,pf]at c2⊢
HU a:=aRn iX N.frame T h a
be_:=ahM (i:=e.1) (j:=v) (ie Au) d3
be':=aR8 F (a3C sy++(aCW Gx++a3B yT))
c1 a b c d:=atL (aeo Y a) b a3 c (j6 ai) (j6 (aeJ.mp d i hi))
HW a:=bmI (id':=a) nh rfl cB nh
bfa:=aXq w r e1 a7
HX a:=(hM).keeps a d0 hd c0
bfb:=kp b u Yl (c3 b u z)
bfc:=bmJ (name:=Hb "__bool__") Z bmK ?_
bfd:=wq (name:=a7u) Z bmL ?_
bfe:=GM.B_ a5 B par lo
bff:=Co.mono dk R (v I (au m2) m3)
bfg:=by obtain⟨f,⟨F,q,_,_,_⟩,_⟩:=f7
pl c d:=bmM c (fun a b h z=>h (iQ z)) d
bfh:=XB D lV (aa M) e
HY a:=by simp only[a2_,fg,c_,zw];exact a
bfi:=by rw[l (asj nd (bo (by rw[(al b m).1]at U;cases U)))]
pm a b:=d a7x a b (fun p g a9 po a0=>?_)
HZ a:=by {rw[cF o d0 a];exact v o (bU d0) J}
pn a b:=by {have:0<a:=by{rw[k6 (bmN h),l (a24 g g),l (hI g g)]};exact b}
bfj:=J (e (Gb aFN U Jc))
H0 a:=by rw[C (ff i _ (fun c o e5 e6 c1 q=>a))]
H1 a:=by rw[C (aXu x c0 (fun e d a0 g0=>?_) a)]
po b c:=by rw[j 0 p.j ag (fun f7 x q=>b) c]
bfk:=p.1=q.1/\iR q.2.1 (p.1.map kV)/\gS p.2 q.2.2
bfl:=m (.ref Vx) b7 d0 (q _ _ N)
bfm:=ab (cv (iR x=x/\x≠0))
H2 a:=by rw[w b4 nd (ar i0) (fun i b U=>d [] ?_ a (al b (bM U)).2.2)]
bfn:=by rw[al (I.1.sound j b8 h)]
bfo:=bN (bN (aFd d9) f9) R
bfp:=by have u4:num<a52:=by rw[J p0 (bx t9)]
pp a b:=o v (e.1<v) (v<e.2) (a≠b)
bfq:=by have⟨h,i,P⟩:=a0
bfr:=bv (ar0 F k v) pU
bfs:=by obtain⟨ar,rv,e9,z1⟩:=CU b2
bft:=I x (a1 v x) nB (Z v=nz\/gD (a5 x) (dw w=Z v))
bfu:=z i g_ (eH=p)
bfv:=z h dF (alB=x)
H3 a:=eb 3 [ip,il,jA,kE] a
pq a b:=fun v b7 b5 b8=>sa (ep a (mW b))
bfw:=bm z.y p.y*bm z.x q.x
pr a b:=by rw[cc (aC0 l (sub l a5)) (v a (d b l a5 (ar H4)) CX)]
a2 a b c e f:=I c4 a (v vs (d3 d2 b) c) (v b1 (d3 q2 e) f) ake
H5 a:=(bX (ac [vn l] n1) a7Q (ac [vn J] u)) _ _ a
bfx:=aL "steps" ls (aL "cartoons" g [])
gQ d e f:=by rw[n a7 d5 d e ⟨f,fun l3 u=>?_⟩]
H6 a:=bA i1 (Y i1) (dB eR L i1 a) (.ref i1)
bfy:=lc (aa E F G H)
bfz:=by rw[fI (ax8 w r e1 a7)]
bfA:=ly F7 (ly yA (mX aq) (mX bR)) (ly yA (mX av) (mX aq))
bfB:=v b (t (bj ne) h2) (J _ _ (n0 _ _ e2))
gR c d f:=by rw[nl e0];refine c;rw[Q (.ref fY) d (r.laid (t':=ahz) (ss xp) aY f) (q _ (ahj aY))]
bfC:=gB×gB×gB×aw
bfD:=dy (k+(j+1)) (k+1+j)
bfE:=by rw[aL (Xw (k+1)) (Xw k) (z,num) o8]
bfF:=w g*c e-w g'*c e
pt a b:=by have:0<a*cR b:=x (se id.n f6 e9)
H8 a:=bU 3 a (c4 (h0 bO aq) (ea av) (sA rC))
gS a b c:=by have a:b=j:=by rw[a1' alz c]at a3;rw[Ht,<-a5];exact cZ a3
bfG:=cu n R.d (v n 1 ug bmO)
bfH:=by obtain⟨os,a,e,b⟩:=id c0
H9 b:=Ir d ((Yz).update a (N9 Ys d8)) b
bfI:=by rw[aO m9 e.1 de (jv C.1 C.2)]
bfJ:=r5 (fun b1 a4 e0=>by rw[r vs a8 r r1 d2];exact cj b0 vs b1 Q)
pu a b:=f1 a (v0 (∃i j,O=[hT,I2]/\m3 (if b then j else i)))
H_ a:=jo bR gJ a6Q (eD ayY) a6 a6P .nil fu (d_ a)
Ia a:=Y ["data","place"] ["data","place"] a
c2 c d e f:=b _ _ rfl rfl c _ d (aC rfl e (LS f) ?_)
bfK:=bk i x (fh ls->(i<n↔NW x.1 x.2 z<0))
Ib a:=∀⦃pins:bw⦄(s:Shared)(M:St)(H:Hp)(D:Ends),cw (t D M H) a (SP X aI D)
bfL:=by rw[e4 a60 F.ax5 (qR F.ax5 a60 F.aXk ?_ (F.aXm _))]
bfM:=o6 (aa I d0 K Z)
bfN:=by have:min i cw<=3:=alM
bfO:=∀(p:Nat)e b,Yf->e.2=cV->¬aF9
bfP:=by refine f t (hG e.1 e.2) (.inr (cx ak)) (ah rfl ?_)
bfQ:=bC (b+d) y (a+c) x
bfR:=bC (b+d+y) w OR z
bfS:=bD (b+d) y (a+c) x
bfT:=bD (b+d+y) w OR z
bfU:=eo _ _ (nV a l) z
bfV:=by rw[e4 Z a61 (qR a61 Z bmQ ?_ (bmP _))]
Id a:=∃O b,v=a/\zW bh O b
bfW:=by obtain⟨j,c,h,a⟩:=id L
Ie a:=by rw[fz];refine Oe (F2 I d8 c4 d3 a d1 l)
bfX:=by rw[l (L ((aCC x S t Dx).keep r) g)]
pv a b:=by rw[C (ajT (aEc a s _ _ b z (fun v h' D C T Y=>?_)))]
bfY:=by have f5:alA=vl r z jc++Cc r z jc:=by delta vl Cc;rw[zG]
c5 d f g i:=by have d:df f (t<e.2):=fun e h=>by rw[ak b c g];rcases qU c with c|c;rw[l c];{have:=wz e a;have:=i;simp_all}
bfZ:=er (b+d+y+1) OR
bf0:=er (b+d+y+w+1) alo
bf1:=es (b+d+y+1) OR
bf2:=es (b+d+y+w+1) alo
bf3:=a.1*b.2-a.2*b.1
pw a b:=jy (sl (kA a)) (sl (aDo b))=ar l m
If d:=b rfl c dg rfl b _ _ d
c6 a c d e:=by have a:bG Y c:=fun b U z=>by rw[wt (aFi U)];obtain⟨g,_,⟨vs,q,_⟩,_⟩:=d;rw[b4 e q,kK]
bf4:=by have g5:=VH (b6 e bJ) (hw g bJ)
bf5:=(bmR t a d pos).pos.line
bf6:=a62 (bE (f6 l.1) (f6 l.2) (f6 l.1) (f6 l.2))
bf7:=a62 (bE (hm OQ l.1) (hm OQ l.2) (hm OQ l.1) (hm OQ l.2))
bf8:=v c o e5 e6 q
bf9:=a c m d2 q2 q3
bf_:=by unfold run;rw[a66,a65,a64,a63];kernel_rfl
Ig c:=by {rw[b_];have:a=b:=cZ (bmS U);rw[gq];exact d ns (MA (bx f5)) c c6}
gT c d e:=by have c:J.y=d->p.y<q.y->cE:=fun a b=>e
bf':=bk F (G4 H x.2.1 x.1/\RB x.2.2)
c9 a b c d:=(ah (aj vb (dO aq) a (is T.aVD)) (bU 2 b (km c)) (bo (dS xI (a7 azR xI)) d))
c_ d e f g:=by rw[n e5 e6 d e ⟨br f g fy,fun c1 j5=>?_⟩]
px c d:=by rw[Q gp _ (Dd (t':=dE) (o:=c) a7K aY d) (q _ pY)]
da a b c d:=by have e6:a<=b:=by rw[k6 (mR c d)];{have:=bmT g k3;omega};rw[l g]
bga:=by rw[fd l1 c1 (iY j7 (fun le g6 f9 j3 LE=>?_))]
bgb:=l9 "min.loop" ⟨ec I .none r,dfl⟩
py a b:=by have d2:t a=8*b:=ajk (ab (b2 rf cj pB pB)) _
Ih a:=by {exfalso;have k:kH=a:=by{delta iG;grind-abstractProof};rw[k]at g7 ov;grind-abstractProof}
pz a b:=by {exfalso;have k:hb=a:=by{rw[Jg];exact b};rw[k]at a5 ov;grind-abstractProof}
bgc:=ez (l+(b+d)=J+(a+c)) akJ
bgd:=ez (l+(b+d+y)=J+(a+c+x)) akJ
bge:=afj y j c7 _ g p a9
bgf:=by simp only[iH,di]at c;rw[c.1]
bgg:=["points","row","first","last","joined"]
bgh:=by obtain⟨v,o,d0,hd⟩:=aGu
bgi:=by obtain⟨e5,e6,c1,i0⟩:=d1 c b0
Ij a:=∀(Z d5:Row)(g:Nat),a
bgj:=by rintro⟨c,b0,d2,q2,q3⟩
a3 a b c d e:=by {rw[I_];have:¬a<b:=fZ (yv z c d);simp[this,rv,e]}
Ik a:=d (ng J) CW a (fun o k6=>?_)
bgk:=aI bI (vz C c ls X u)
bgl:=fun t l q u x=>?_
bgm:=ch (ag8 o c cF (e1 o)=e1 o)
bgn:=by rw[ab b9 (m8 (bG ((e,g')::J))) (i e*c e+m8 (bG J))]
bgo:=dc (d (cA Ep) (aV Ep) (b1 Ep) (jt Ep))
pA a c:=fun v l=>a2 (e1 b) (fun u g=>a2 a c oT g) oT l
In a:=by {rw[bT a];have:=HC e m.1 m.2;simp[*]}
bgp:=by {rw[a7 x S a0];have:=a3t S;rw[gj]}
Io a:=by {rw[iM x S];exact v x S a}
pC a b:=∀{l:ba}{m:nU},f1 F->dD F a b
bgq:=∀x:Str,a7g->D x=vV x
Ip a:=by have⟨Y,n,n1,N⟩:=GM.auB a
bgr:=by rw[l h1 g6 g6 u o Y]
bgs:=Got cN w h' aO K a7 N
bgt:=by replace z1:af' g7 z TI TO .ellipsis fl:=z1
db a b c d:=∀(p s:Nat)e,a->b->Uv c k d e.1 s
pD a b:=v N [] (s_ eL a b) (ed (x<ee) (eL x) x)
Iq a:=f_ z (.type "zip") (.fields #[a,Ja,.bool ah,.ref TI,.ref TO])
bgu:=by have d8:eC<=n:=by rw[dk Xf (eK n) (aL (a1f (lt x S))),gj]
Ir b:=by rw[K _ (Ul (bl axh (cx ak))) (Ul (ns:=b) d0) (aJ tY tY)]
bgv:=mg O (fun J c1 h'=>by obtain⟨rfl,e0⟩:=h';exact cg (R▸e0))
x a b c d e f:=RM aAS (aAR a ((b).nsMap CN "__annotations__")) (aAP (aAQ aFO) c w) d e (topStub f)
bgw:=C8 (aa (ct (B (dC aL a7H) bp) (B (iY ak2) (mG Em)) (a3J j)))
pE c d:=by rw[b x _ W _ rfl c gJ d (aw (aZs _ _ _ _))]
Is a:=by have h:=a;delta aDG;rw[ajc,h.1,aja,nc h.2];rfl
bgx:=let⟨q,_,_,e0,_⟩:=p;alH
bgy:=by rw[dh,pI,dh,pI,dh,pI,dh,cO]
p0 b c:=gd D n (A [bc,jj] Al (kp b) c)
dc b c f g:=Db (I c2 b (d.p.sb dk s h7 c) (d.l.sb iL s h7 f) (d.m.sb jt s h7 g))
bgz:=ag8 e f cF tH=tH
bgA:=(share (s:=a4) g7 g8 a5)
p1 a b:=(j l b7 (UD a8 b7 l a b) (Q cC b7))
p2 d e:=fun⟨a,b,c⟩=>v d e c
bgB:=topFrom aFO p w N (a (i hv) (UY []) d k os)
bgC:=by rw[HG,(aGI).1,LW,l.1,a7]
It a:=∃a7,IsEnum h e it a a7
bgD:=cn (aPp O lo hi) c9
p3 a d:=∀p O i v,b x fP (y=hT) a (sz i) (AO->d)
bgE:=p z.1 rx (aS z) Ek (a2 z)
Iu b:=∃(O:af)(x:V),jk/\b
bgF:=Inv (Vj E) aI M H s
bgG:=PIE X aI M c7 R
bgH:=a5 i M H hi p
bgI:=by simp only[n1,n2,u,y,f]
p4 a b:=by obtain⟨a,z1,h6,rfl,c9,_⟩:=id b
bgJ:=by obtain⟨⟨a7,a0⟩,L,R⟩:=st
Iw a:=∀(N:cI)(c J:Nat),a
p5 a b:=by rw[pj ag,a,hx (fA+(u+1)-fA) (u+1)]at b
bgK:=by rintro M L⟨rfl,v,rfl⟩
bgL:=aQN Y J F hw c6
bgM:=aR0 N Y d (g x S) k5
bgN:=Tw X.K mJ x st c5
bgO:=LQ xD XU Ap I6 Pl
bgP:=aq9 lz lz bD (dh cJ) bO
bgQ:=aDY t DQ h r p
bgR:=IsZip h z TI TO .none
bgS:=a alY sT zm dE CO
bgT:=fn c=aa (ac (dp c))/\ClP K (dp c)/\∀f∈l,ca (dp c) f
Ix a:=by rw[xx,d7 rfl h];cases Z;refine a;cases x<;>first|(rw[hS];rfl)|(rw[xk];rfl)
bgU:=by {obtain⟨_,_,_,_,o,_,_,e,ex,_⟩:=er p _ c3;exact v o e ex}
bgV:=Aq*g h+Ar*g h
bgW:=by obtain⟨a3,b4⟩:=Xi a;rw[eK a9 (Xi b)];exact x (bmU hN) (a3G a3H)
bgX:=by have e8:am (Nw z b) z 0=b:=aYS (bV a0 u.g)
bgY:=l v L (cY G L) (aj d (bV (B++a6Z f))) (mI ak3 L)
Iy c:=f fY [fY] _ a8 (sp Pm) c (v Pu ua q)
bgZ:=by rw[w (Y a50 a67) aFN (t M3 ajt) (fun j b U=>?_)]
bg0:=(bi (-v 2^63) z&&cv (z<2^63))
p6 a b:=f i j (x=hT) (y=I2) (m3 a) b
y a b c d e f:=by have k1:bo (a>b) c d=e:=by rw[v8 f];{rw[aJ (U4 k),HE (ey k)]};{rw[bj (bmV (aA4 k)),VI k]}
p7 a e:=j (bmW a) (afW bh a4V) (aO<=p) (gU p=aa (a6I "list" d c)) (O1) e
Iz a:=by show fe _ kC (a>>=_) _ _ _
bg1:=F h9 dy (.own y) y aGE
bg2:=fun(m:Nat)=>O[(xy+v m*1).toNat]?
IA a:=by have:=VH (by rw[k6 (qU hi),l (eW (Dm g a))];simp[*]) (eW s);grind-abstractProof
bg3:=by have g9:Od nq=Vr n 0:=by rw[<-i0];exact afH Y
s a b c e f g h:=by rw[eh (aRE (d:=Wk) (n:=aL) (i:=a) (first:=b) (P:=P) c (ar Dy) (fun x y b6=>e) f g h)]
bg4:=by delta eV cr dir dx dy;grind-abstractProof
IB a:=by {have:=a;simp[ih]at this q;exact cb (FX this q) (cj (iH k)) (cj (iH k.2))}
bg5:=aR L {s with heap:=h',gens:=g',drawn:=d',toks:=t'}
p8 a b:=by {rw[aJ a]at G;rw[ec b];exact⟨et,fj (G _ _ (xf cm) lU)⟩}
IC a:=by rw[ea j i,l (cy a h),l g]
qx a b:=by delta W9;rw[bmX (id:=a) (n:=(b).toList) (o:="rotareti_tes".toList) nh aXl];kernel_rfl
ID a:=by have h2:l=ru:=by delta aFp at a5;rw[cz,a0]at a5;exact a
bg6:=by rw[R v vs e7 f5 (aUR x)]
a4 a b c d e:=cv (bmY aFO a w b) (bh,sT,zm,dE) (c,UY [],d,e)
bg7:=match k with|none=>o_ (Gu r)|some B=>if Wn=bX/\pw=dd then ae else o_ (Tn B r)
bg8:=by rw[S d3 (bp k) p (sx c3) e]
bg9:=by rw[S i0 eN de len rh]
IF a:=Y ["drawing","before","fault"] ["drawing","before"] a
IG a:=by rw[Y c3 e2 a4 c5 (ax2 Y (i:=p) a)]
IH b:=M (e3 e (.Slice lo hi ae f6)) (tSl b b8 h8 a)
gU a b c:=by rw[aGt];delta NS;rw[d9 h a];{rw[aJ h,b];rfl};{rw[bj h,(c).1];rfl}
qy b c:=by rw[e b ip il jA kE rfl (dL YC 2 6) c]
II a:=aP m x (m<a->i1 kM x->z i (zT x=Yk) (l e b (A a7 e) (e.2=cV) (¬aF9)))
IJ a:=v (fun i _=>i<n) (fun i H x L=>L=H/\x=a) a7A
IK a:=by {rw[a];simp only[Gr U,hH];rw[iS j,a_];{simp[q]}}
IL a:=L (ac (cr (jH a) 0 2) nd) r2
qz a d:=∀b o,j X6 a Je ha gu d
qA a b:=a1 a 11 (a68 r i) (a1 b 12 (a68 r i) (E (fM<Np) 13 r.size ae))
bg_:=eo _ _ h2 (kp b o h2 e2 z)
bg':=by rw[m d3 j u rfl y u rfl]
gV a b c:=∀(d:WData)(v:Value),i a (qJ d=ab) b c
gW a b c:=∀(c7:pW)(vs:aM),i a (sG c7=ab) b c
IN a:=fun i s Q E st g=>a
bha:=by obtain⟨z,D,z1,h6⟩:=I.zero (by obtain⟨e,a0,_⟩:=b1;have:=jh;exact cn tF fm) b1
bhb:=by rw[l (L (aBR _ _ (fun h:r=b=>g ag)) e)]
bhc:=by have g7:cr kJ 0 4=bV xl:=afy b 0 4
bhd:=bG B (b≠0->I a (dO b a) I5 (OH/\dw a<dw b))
bhe:=by rw[dl a5 (fun e5 a3=>ce e5 _ (.inl ⟨au ak,fun e6 a9=>?_⟩))]
bhf:=by have d5:t tR=R.d:=by rw[eS];have:=wR;exact kS
bhg:=aw (k<aL) (ct a7P (a3K (mG ((v l.1 k p pG),(v l.2 k p rr)))) dR) ae
IO b:=∃(ar:aM)(o:Obj)(n:Nat),EF/\pT/\we=b/\gE=jy eT
IP c:=sC (∃a b ns d8,x=bc/\y=cV/\mO xO/\a7G/\dy c)
IQ a:=by rw[xk];cases y with|iF j=>{rw[jA a]}|_=>trivial
bhh:=∀b o u,fr alg->hI alg
bhi:=by rintro i m H⟨rfl,hi,p⟩
bhj:=T.BZ a v b bo l w
bhk:=T.BZ b bo a v l (V9 _ _ w)
bhl:=by unfold run lk;rw[a66,a65,a64,a63,bmZ];kernel_rfl
bhm:=c=2\/c=4\/c=8\/c=12
IR a:=aL (hw x (by have:=HA x S;have:=J.oD (t:=a) (t':=R.n) dV aY;exact pU))
bhn:=fun v d4 c8 m=>fy c8 m
Kd a:=BF X Ak (v0 (∃p d7,O=[fP]/\a/\E l xj (Q cC (ap l d7))))
qE a b:=BF X rA (v0 (∃p d7,O=[fP]/\((a/\E l xj (Q cC (ad l als)))\/(b/\Q fP H))))
bho:=by have h6:∀n,t (bV (gI 2 n))=2:=ed bH
bhp:=by rw[aa c5 (oL B) mb c5 (B+1)]
Kr a:=by {refine .inr a;rw[z]at b1;have:=b0 _ b1;rw[am G];exact cy (aEJ this) ax}
gX a b c:=v (mV (∃O x,a/\nr)) (fun i H x L=>b) (mV (z O c (bx<=i)))
Ks a:=∀(l:Addr)(Y:bg)(n:Nat)(a5:mc),a
qG d g:=by rw[wC (m dg _ e ⟨n,fun F b7 b5 O Z=>d2 e F b7 d eY (gY O) g⟩)]
bhq:=by rw[mm (i4 _ _ z6) (E wb num (cx (i4 _ _ z7)) rJ (f I _ _ num rfl k2 (LS (t bA u4)) ?_))]
bhr:=a02 q lo (UZ a0U) Xt ab Ha
gY a b d:=by have D:(gG xl (v Ig))=a↔xl=b:=aV3 (c:=d)
bhs:=fun v d3 w hw c2=>by have:=Z.b v d3 cS w hw;unfold UE at this;simp_all
Kt a:=fun b u q n _ _=>a
Kv b:=[kN,ac b2,OS,aa x,aa y,v,b]
bht:=by rintro _⟨a,b2,X,G,rfl,j,_⟩
bhu:=by {have:=jh;rw[ak (rv e) (.inr a0),I_];rw[bj (hJ rv (ey eu)),ad2,b9]}
bhv:=(i=0/\a7U)\/(i≠0/\z c (dO c i) (dw i<=lo c))
g0 a f g:=e [jR,cC,O_] aGv a (ij ji) (i (fW K H c0 (aBZ vn)) (oZ<100000) f g)
qH a b:=i 2 ajX (bh a aq bb) (dS av alR) b
qI a b:=by rw[alN,aGD];simp only[a4g,Nf,WU,DR,a];rw[T b i,a_,a_]
t a b c d e f g:=mC (lv bO) (V 2 a 3 b) (ah (fe c d e) (dm (gJ (ea KL aq cu) (mn bb aq)) f) (fG (bU 1 g bb)))
Kw b:=ww (su (CR (∃a o,x=bc/\jr b7 a y o/\Q (.bl b) b7)))
bhw:=ar6 a30 c0 (bU d0 (fun u a4⟨x,a8,r,R,d2⟩=>ey hi a7y))
bhx:=match nd Az with|some x=>cu XR ae a7j|none=>a7j
bhy:=fun y b6 e=>by rw[v8 (a6Y y b6 e),l (aBf _ Pa),l (aBf _ (.inr k))]
Kx b:=match b with|some (some (.ref a))=>a|_=>0
qJ a b:=match vN f with|some ⟨_,_,.func fd,_⟩=>a|_=>b
bhz:=l (i+(j-i)) j j i l j i
qK c e:=by rw[b k dx c3 EM k dx (m c0 v b (d c3 c e (c2 _ ?_)))]
qL c d:=by have yL:Ct c b7 cV d (i+1):= .inr (f i z c9 (aP b U))
bhA:=∃x y u v,O=Jp/\pS/\Yp/\gU b=aa (jz #[u,v])
g1 a b c:=d akq a pP (bk "a" 4 "b" 5) (bC (V 4 akq 5 akq)) (lp (ea b aq (as bQ cJ))) (bC c)
Ky a:=w (wa r.w) (wa r.h) (mW 4 POINTS aL=ah) (mW 4 LINES dQ=ah) (mW 1 MARKS fM=ah) a
bhB:=by rw[gc h1 h5 (O c o (S c o z) fS)]
Kz d:=(∀e a x L,b d Am bP (L a=aa (cR x .bC)) (GI L x rH) Pg)
bhC:=(tLc wi g c3 b8 ali)
bhD:=by have n7:oO [c7] b7:=fun a m O q=>by rw[gh c4 i4,OZ];rw[m,c4]at q;rw[kK]
bhE:=fun e1 i7 i4 j8=>(k d i7 i4 nd ?_)
g2 a c d:=∃Y:bg,vu (aj a Ay) (eN=i) aDR (bG Y (aj b []/\c/\d))
qM a b:=by refine bm0 a (fun h' a0 L G c3=>b)
qN a b:=by refine call_zip_2 ajS a (fun h' c9 f n a3 a9 G c3=>b)
qO c d:=sQ (ay3 Z (b8 a.1 a.2) (b8 b.1 b.2) (c).1) (ay3 Z a.2 b.2 d)
bhF:=p z.1 rx (aS z) Ek (cr z) (a2 z.2)
qQ a b:=ahB eB X.w X.K c7 d0 a b l
bhG:=c0 i x M _ (y O q) p
dd a b c d:=bm1 p a d0 b0 hd (fun h' C kp e=>fin ar B c9 h' C b c) d
KA a:=∀{Z:Row}{g:Nat}{y:Int},a
bhH:=by rcases Sv c4 with c4|⟨a3,a9,e2⟩
qR a b:=aei Z (v:=v) I8 [] aT a b .nil
bhI:=by rw[dh,pI,dh,pI,dh,cO]
KB a:=by rcases(aI a)with q|q|q|q|q
bhJ:=R.Ok mg P w aj (k+1) e8
bhK:=by rintro rfl⟨a,rfl,b3⟩c2 k
g3 a b c:=by rintro i z M a c9⟨rfl,⟨b,rfl⟩,c⟩
KC a:=by rintro a⟨a4,Y,b4,len,nd,al⟩
qT a b:=aOd a b (aWw (K:=K) rfl) bD aqU a6F
qU a b:=by obtain⟨a,i7,b8,rfl,b,I,c4,_⟩:=c0
bhL:=Xa (bE (aFK c9 rfl (x:= .ref TO) rfl (bE (DW c9 p_ (fun g7 z1 a4=>?_)))))
bhM:=oN eB X.w H a f n
bhN:=CmpOf cN w kC .Lt P bt
bhO:=by rintro i M L hi⟨_,s,e,_⟩
bhP:=GM.Tg r (azt (fun a b ne=>aFl ne) O (dP.imp (ah (aZS q))))
g4 a b c:=by {rw[a]at M l;exact axM t DQ h nd r b _ c (v j M e)}
bhQ:=J ((h c z).2.2.1 x c e rfl)
KD a:=M (.Call (.Name "min" p) [e] [v (aa "default") (.Constant .none B q) kp] pos) (aYC a d6)
KE a:=by {rw[a7 l a5 q,h4 a5];exact Eb a}
bhR:=by rw[a g8 h9 q2 (akL i) q2 (akL i)]
bhS:=by rw[i h9 q2 (akL i) i3 g8 i4]
qV a b:=by rw[cc (aQW Y d5 C (P.nodup d5 Y G aY) W (fun x X=>P.closed d5 Y G X) a b)]
KF a:=by rw[db b f7];simp at e1 b;subst e1;subst b;exact a
bhT:=PS X (.For c7 Hq a [] pos) (aOp wi g c3)
bhU:=D (c7 p.1 p.2) (Y p.1) (p.1≠oR) (p.1∉vS) (∀v,p.2.data≠.cell v)
de a b c d:=D a b c d (aDU=n/\GM.DInv a5 B par (ab Yo) dI/\alS/\eC<=n/\aDW<=eC)
KH a:=by {rintro⟨l,a5,rfl⟩;rw[al a,dX,l (v (Ti l) q (by simp only[Ti];grind))]}
qW a b:=∀d e,j (ct x d) (ct y e) (iJ d) (iJ e) a b
bhV:=aAZ c j h a d Z kV p b3 g e3 ct
df a c d e:=(∃F k,a/\y=kV k/\c)\/∃F k b,d/\y=cV/\e
bhW:=by rw[T d6 h5 (U h5 d2 X9) m4]
bhX:=by rw[T h1 g6 (U g6 n []) k7]
bhY:=by rw[T i4 h9 (U h9 q2 (akL i)) m5]
di a b c d:=by have TE:∀i l,agg D a i l=CB b c D i l:=fun i l=>d
bhZ:=∀(w:World)(h:Heap),b w h->(K hv).In h
a7 a b c d e:=F9 (aS3 (K:=K) rfl rfl) bH T.all aTj (d_ (BK rfl a (oy b) (ck c 1) (cj 1 d) kO (bC (aq8 yB yB bD aq (gi e)))))
KI b:=∀{a:Jl}{m:dN},(∀v,(x,v)∉a)->b=m x
bh0:=by {rw[bD (v (oJ yL) b5 (MN ?_))];delta oL;simp only[ok];subst o;rfl}
KJ b:=a d ip il jA kE rfl (dL aGS 1 5) b
KK a:=Y ["p","q","r"] ["p","q","r"] a
KL a:=Y ["call","numbers","row"] ["call","numbers","row"] a
bh1:=a w h (LC w h) [(0,1),(0,2),(1,3),(2,3)] [m]
qY a b:=∀{Z:Row}{g:Nat}{e:Ln},a->b
KM b:=a b agX zl aie vT CP Hk MB Mz er Hl
a8 c d e f g:=by rw[eq b7 N (aYi (t':=ahr) (P:=c) r (fun b u z=>d) e at_ i0 f (fun j a b3=>g))]
KN b:=by obtain⟨l,O,y,rfl,rfl,a,b,q⟩:=h
bh2:=fun c o e5 e6 c1 i0 q=>c3 c o e5 c1 i0 q
qZ c e:=by rw[eB c (b hd dS gf fX a dx _ (i hd dS kF kz X rfl e))]
q0 b c:=∃o a7 e1,pT/\a2g/\gE=Pw/\lQ=b/\c
dj b d f h:=g h' dE (a _ _ S b6 v) (c b d k7 l9 (Iz m (eN f)) (Iz B (eN h))) aGo
bh3:=by have n:tQ=alu++(AM++alv):=by rw[tb,ht,ht]
bh4:=by have e0:a5i=aO:=by rw[a.1,sb.1,sa.1]
g5 c e f:=by rw[b x p ns c e B S z (d ?_ f ?_ g)]
bh5:=by {refine n1 aGy (iF q);rw[cY b0,a_,a_]}
q1 a c:=M (dO m a pos) (aO4 C m e8 b E d6 c)
dk d e f g:=by rw[n e0 g0 M b9 ⟨x (RS (bm2 d e) f g fy),fun d0 j5=>?_⟩]
bh6:=∀c o,c (c≠z) (c≠c2) (c≠N) (gK c) (be (gU c))
KO c:=b T.TU ags (dq d2) g vs rfl rfl (aJ d2 c)
bh7:=fun g6 g ls B b9 e1 b6=>gM
bh8:=by obtain⟨j,a3,a9,e2,e5,f⟩:=aPr a0
bh9:=by obtain⟨b,i2,h7,i7,rfl,U⟩:=hB
bh_:=by rcases l with⟨c3,c4⟩|⟨c3,c,b0,a⟩
bh':=by have g4:O h5 d2 X9 d2 a7s:=by rw[ak,g7]
dl a b c d:=by have a:b=tm (Dr r) ih (c):=(aR5 (fun(m:Wu)=>eM) (Dr r) ih d)
q2 a b:=by rw[Yy,C1 akO];delta a3W;have e2:¬(a<cw):=by{rw[xM]};simp only[bj e2];rw[kw b r]
bia:=bD (ph q) (p.y<q.y\/(p.y=q.y/\p.x<q.x))
q4 d e:=by rw[n d0 R D g5 ⟨t cj (aqe d e fy),fun y F=>?_⟩]
bib:=by have kp:bd a7S ha Pf:=fun b o U d0=>by refine aEa b o ?_ d0;rcases U with rfl|⟨e,a0,q⟩;{omega};{rw[gH q2 (a e a0)];rw[q]at q2;cases q2;exact V j b8}
bic:=Walks cN w kC I a8 d n P St
KP a:=by have sm:∀{b:Addr}{o:HO},Pe->(∀d7,o≠.lst d7)->alw:=fun{b o}e n=>d3 e a
bid:=LeftO P q3 l3 X3 (fun s=>YH bh) (as gD) 10068
j a b c d e f g h:=(abN.map a,itN.map (bn b),tpN.map c,d,atN.map e,fnN.map f,meN.map g,FV.map h)
dm a b d e:=by refine aX5 (s:={a4 with heap:=h'}) W a b ax d rfl e (fun c1 Y c g7 g8 a5 at_ i0 it kp=>?_)
bie:=p z.1 rx (aS z) Ek (cr z) OI (eZ z)
bih:={strHash:=nq,shareClass:=nq,mergeTok:=id,idOf:=nq,idOfShared:=hm 0,followText:=as ab,idOfImm:=nq}
bii:=by obtain⟨x,a8,r,r1,A,d2⟩:=P
q5 a d:=∀(X:Cx),b eB P (X.w=w) fD fR (∀(i:Nat)(pins:bw)(s:Shared)(M:St)(H:Hp)(E:aU),c aZ (V b a8 (iV H)) (l i bh) a (fe (jx P w) X.A (ahq nY) (fun J a4=>d) E s))
bij:=[tV,rE,ac t,ae,ac p,i1,j5]
bik:=bm3 (bU d3 (fun J a4⟨v,a8,r,rv,d2⟩=>ey d0 (fun u b5⟨x,b7,Y,R,q2⟩=>mo hi aGr))) c0
bil:=by rcases I.SK x S with rfl|⟨e,a0,_,b4|b9⟩
KQ a:=Slot.of (n:=a) (owner:="set_iterator") YD cB cB cB (by first|rw[pc bz]|rw[m1 cB]) a7F
KR a:=by rintro rfl⟨dx,S⟩⟨f,a5,d⟩a k
KU b:=d (bv a67) aFN ajt (fun i a b3=>let⟨ns,e,q,n⟩:=aGF;d ns e b n)
KV a:=D al0 (Sl (aS5 (K:=K) rfl) bH T.tuple aTe (d_ (r3 bR))) a uf
KW a:=by {have:t.2∈EL:=a;rw[am b9,aO x S (zy this),xN];exact ne x S}
KX a:=(∃(p:Nat)(e:akN)(b:Addr),Yf/\e.2=cV/\aF9)->a
bim:=@U d aI a4 M a8 Q r d2
d a b c d e f h i j:=by have a:b=ae:=by cases q:c with|none=>{rfl}|some o=>rw[M d e c7 (by rw[kt c4 (bm4 r2)];have:=f;rw[fw h this,ny])];have:=i;rw[am j,ny]
bio:=ft (@h pos aI s M H _ I e0) (fun b1 a4⟨O,a8,r,J,z,q⟩=>aw (bl vX z))
KY a:=∀l L b9,c AG xj (aj l (b9.map cp)) a (Q cC L)
bip:=B F L o N (cG s) O Z (gh s) rfl X1
biq:=by obtain⟨h6,t,n2,r2,B,b9⟩:=a6H hB
K0 a:=CK (X (W i m H) alI a Px (∃w:jf,(a7d)/\j x L PF (gg tG a7b)))
bir:=fun c o U q=>c3 c o ak4 ak4 ak4 ak4 q
K1 b:=by obtain⟨a,i7,b8,e,q,l,b,a3⟩:=z
q6 a b:=g h' a (as _ S k7) (v b h6 (Iz a5 (lK (v _ _ c1 f q)))) aGp
bis:=BK rfl IP (oy cJ) (ck "line" 4) (cj 4 IP) kO (bC (dh bQ))
q7 a b:=∀{P:cW}{vs:aM}{i:Nat}{m:dN},c P.Nodup (fh P) (A vs v) a (b=aa v)
q8 c d:=by rw[b (bm _) (fI s f5) (Y a7 e) (Y b1 c4) (Nw z b) aGz (t M3 u) (lC (t (aYR d3) (o v d3))) (v c aGb d)]
biu:=by {rw[v (ax) (fun t c6=>?_),fY z];exact k t _ [0] R (cG cm) c6 ak (gh cm) Y rfl}
K2 a:=by {rw[v (ax) (fun t c6=>?_),ee z];exact k t _ [1] _ (gd (cG cm)) (agC a4 (lb (a3.live m)) c6) ak (akt cm) (a).2 rfl}
K3 c:=a l b c 2 ?_ jY ax (fun b7 b5=>?_)
g6 c d e:=by have i:=c;refine aR3 (R:=d) aGP (ab (L (h x) (bt (i.2 x)))) s i.1;rw[cQ e,kK]
K4 d:=by rw[a2 (r _ _ hd) (u gf fX b2 (k7 (r _ _ a3)) (fun i0 i8=>c dG dk dk (gh r).p.ls (bn (jS (jP d p) p)) i8 bL))]
b c e f g h k n o q r s t:=by rw[eB (L c cu e (de cu)) (a hd dS f g h c5 rfl (au a3) (bv k (bi (LF (fun l m p=>M=[kN,aa l,m,p]/\Ct n L l o i)) bP (aj (j<i) q r s t)) (v (m .bC ae ae (.inl xJ)) ei (fun j y b8=>AA))))]
q9 a b:=C4 (a1Q (h₀:=sS) a1R a (r5 (fun b1 a4 e0=>by rw[r vs a8 r J q];exact⟨r.Kz,b⟩)) a0 b8)
K5 a:=by rw[xx,R i j rfl q Vh,xk,akQ];exact rule i j t t' s _ _ a
a9 c e f g i:=by rw[eB (cl c) (a hd dS e f g vs rfl (ce c0) (a a D b2 X G iS rfl h i))]
u d e f g h i j:=by {rw[n b c d e ?_];rw[f];have f7:g=h:=by{delta oL;subst c0;simp only[ok,a54,e0];rfl};refine fH (fun c1=>?_) (fun c1=>?_);rw[l (fin i),cx (oJ yL) b5 (MN j)]}
g7 c d e:=arV (O:=c5) (fun i L=>c) (u (bZ d) [] ak aCa a7w) (fun i L _ z=>au (z.1 _ _ e)) ?_ ?_
K6 a:=fun i s Q E hi st C g=>a
dn a b c d:=Hr a b c (a2v ak9 X.A oT a3 d5 EI sZ) d
g8 a b e:=a2X Y (cc Aj w I0) (v:=a) (fun x X e7=>bj (asU Y d5 W ahP (e9 _ ahP (by show x.1≠g.1;rw[e7];exact b))) (pp X)) c e i8 rfl
q_ d f:=bm5 (S:=fs AS) (fun{a b}q(e:a=b)=>c a d) f
g9 b c d:=aqN (v:=bc) d8 b3 rfl b s M H c I d
biv:=bm6 q j m b J d [] (fun f vs=>PySem.call f vs)
biw:=by obtain⟨g8,e1,t,k,u,hex,hd,_⟩:=H
ra a b:=∀(l:Addr)(x y g q:Nat),A [cC] (ij (jH PB)) a b
K8 b:=WalkOS q j m (fun _ h=>b) J d a run
dp a b d f:=by have a:∀(on:OM)(c:Pt),b->HQ c=ab:=by rw[b1 on c];cases e:d with|none=>{simp_all}|some i=>rw[aj e];exact ae (atO Y) (v i (HR f).1 (cZ h))
bix:=by delta Xb;rw[r6 (wd d),a7O];rw[iU];rw[C (bm9 b1 ?_)];simp only[bm8,Dg,iV];rw[r6 Ja];cases b with|true=>{rw[J (bj (show¬((vO ab !=vO ab)=ab)from zv)) (cg (g _ c9 (bm7 _ _)))]}|false=>rw[aJ (g7 (vO ah !=vO ab) rfl)];rw[C (DW c9 AN (fun e2 e7 c8=>cg (g e2 e7 c8)))]
bd b d e f g:=by have b:∀(on:OM)(c:Pt),i (on c=ab) (o i g_ (on eH=ab) d) (HQ c=ab) e:=by intro on c D f b0;rw[ak al s (x (atO Y) b0),J g AB]
biy:=by rw[a2 (gy hd) (w kF kz X xi (ev (au (gy a9)) (dZ l2) (b (gy hd) dS gf fX C _ _ (b rfl rfl (cx l4) dg C _ _ (b rfl rfl (cx l4) dr b2 rfl (au (gy a3)) (fun d2 m4=>?_))))))]
b e g h i j k m n o p q:=by rw[a2 e (a jI ju a b2 X G r g (f le G h dR i j (a k m (d n _ o (aL S)) p (gc qa) Yv q)))]
biz:=by {rw[a7C,o2 i m hi];have:(i∈cF (Xw k)++[((z,num):aly)].map eX)↔aF':=ar q;by_cases q2:aF';{rw[aJ q2,aJ (this.mpr q2)]};{rw[c_ q2 (e9 (q2 (this.mp y)))]}}
he b c e:=[kN,bI D.w,bI D.h,ac Z,ac b8,ae,ae,rE,i9,b,c,e]
biA:=by rw[a0 F a b c];exact d F (bv a) b c
K9 a:=by rw[xx];obtain⟨d,e,hd,a0,sd,p,q⟩:=h;rw[fK r1 (MZ I d x v hd R)];obtain⟨bs,r2⟩:=MZ I e y u a0 Z;exact a
hf a b c:=by rw[xk];cases y with|bC=>{rw[a4 Z a]}|int j=>{rw[jA b]}|str j=>{rw[jA c]}|_=>trivial
biB:=by obtain⟨a,b,O,d7,ex,b2,c6,q⟩:=d2
z a b c d e f:=by rw[iT Of (d6 (j+1) _ a b (gE (hq (aI n (j+1+1) Z) (aS n (j+1)) W0) (hq Io (aI n (j+1) b8) (aS n (j+1+1)))) Z c d e f)]
be c d f g h:=a Vc agX zl (a alr alr agU (fun b o e S=>?_) a1p a1o a1n) c d Hk MB uh (K (v f g h) c0) (aI Hl)
hi a b c:=by refine a1O (Oe (F2 I d8 c4 a (Vt (ft (@b3 d aI s M H _ I h) a7a) c0 b) ax c))
rb a b:=∀p q J,j (aVO H vs p q J) (gQ p) (gQ q) (gQ J) a b
K_ a:=fun r i h h'⟨b2,b0⟩st k=>a
biC:=p z.1 rx (aS z) Ek (cr z) OI (f9 z) (eZ z.2)
hm a c d:=dD (fun(e:Int×cR)(O:bK Int)=>z b (e.2=cV) ((hM).is a O b)) c d
dq b c f g:=by obtain⟨a,i7,b8,e,q,l,k,a3⟩:=h;exact a a i7 b8 e b c f g
La c:=by rw[b Ay (Y a3E e) (by rw[bA];rw[kb]) (fI (ir (bZ U)) c) (Y++[b]) ?_ (ar len) ?_ ?_]
rc a b:=by rcases h with(h|⟨o,h⟩)|h;rw[dR (.inl a),dR (e4 o b),co h]
biD:=fun a b v w y n M=>s.2.2.2.1 a (lt a v) y M b w
biE:=@aE7 _ _ _ _ _ _ _ _ _ ?_
hr a b c:=by rw[hS];cases y with|bC=>{rw[a4 Z a]}|bl j=>{rw[a4 Z b]}|str j=>{rw[jA c]}|_=>trivial
biF:=["enumerate","zip","dict_itemiterator","dict_reverseitemiterator","odict_iterator","itertools.zip_longest","itertools.pairwise"].contains n
biG:=p z.1 rx (aS z) Ek (cr z) OI (f9 z) (f9 z.2) (a2 (a2 z))
ds a d f g:=∀(k dx l:Addr)(v:V)(b:Gla.Bytes),e [Yh,cC] (lQ v) a d (C9 f->g)
rd a c:=by rw[a73];{rw[j_,wo (Sz er e)];refine a;rw[<-(VD k).adI,<-l];exact h _ ry};{rw[j_,aGH,wn (SA er e)];refine c;rw[cN (VD k).adI,cQ aB'];rw[<-q,<-l];exact h _ ry}
re b c:=by obtain⟨b1,a3,a9,e2⟩:=j a b3;rw[cZ hu b1 vs];subst hu;rw[dI a9];cases c3:vN a with|none=>{rw[m1 (.inr (aW (bj (afi b3 c3 e) b)))]}|some o=>rw[g2 (y a o c3)];rw[e]at b9;obtain rfl:=cZ b9;exact .inr c
Lc c:=by rw[cE (h 0 x u rfl rfl) (i (aDn c) (fun j y v a b=>h (j+1) y v a b))]
biH:=by intro j s i c c3 b8 z y b2 hR
biI:=vf eB X.w X.K mJ sS so j R.f R.fd c5 e8
biJ:=by {intro c b0;rw[iO b0];{rw[cN (al c m)];exact v (ac (bW q.2.2) (bW (J (by rw[cQ z];rw[q.1]at U;cases U))) q.1) q.2.1 q.2.2};{rw[OZ];subst m;exact v (wv a5) (XF U) a5}}
biK:=by have a9:wp (fun _ v(b:eh)=>v=cV):=v Ay (au (di w_)) (by clear N i0;rw[wz Y])
rf b c:=by rw[bD (a a D b2 X G i rfl (gh (z_ c0)) b (ep (L (z_ c0) cm) ?_))];delta Xm;rw[J (CX c) lU]
biL:=by simp only[a6O,Dc,bm_,show v 1>0 by decide,mM];rw[fY h 0,dl h h (sl1 h)];{rw[c_ h h];exact sl0 h}
biM:=k d b7 _ R (cG eY) (gY nd) b9 (gh eY) Y rfl
biN:=∀t∈["list","tuple","set","frozenset","dict","dict_keys","dict_values","dict_items"],T≠t
rg a b:=match a with|0=>14+8*b|1=>5|2=>11|3=>15|_=>3
biO:=em H8 (W 0 m b H) (X ak5 ((OT).stop i H) OJ ((OT).go i H) (∃N:er H8,(ak_)/\j x L (r1 OT) (KG j x M L (fun h b7=>R8 (tBM K "list" adw (hr o) (hZ (F8 e8 [] E0 (hZ (hr j))))) (ag2 N) h b7))))
Ld e:=by rw[b x r0 r1 xS le _ (a _ (vn (t (akj (cs (l.2==t))))) rfl rfl q2 (sB l5) lt _ (a _ (.ref c) rfl rfl d2 (no b0) x q8 (a q9 X c7 D t y c (dd (GM.aRV Z l5)) (a m3 e q6 Z l5 n9 j7 (fun g6 n4 n5 B g4 h3 m7=>a k _ _ l6 (bd (i6 g6 n4 n5 B g4 h3 m7)))))))]
biP:=p z.1 rx (aS z) Ek (cr z) OI (f9 z) (f9 z.2) aF8 (a2 (a2 z.2))
Le a:=by obtain⟨o,e1,t,k,d0,hex,hd,T,hE,d5⟩:=a
Lf d:=∀(i:Nat)a x L(h4:VK)(N:jf),j ED ON d (wJ (f a)) (f a=ae->aGN) (gg tG aGC)
Lg a:=∃(B:ao)(par:gs)(o path:ao)(i1 j5:jQ),a
ht b d f:=by obtain⟨z,y,b,J,N,a7,e1,e,c⟩:=x;exact a z y d f N a7 e1 xR c
rh a b:=by rw[xx];obtain⟨p,O,rfl,e0,n,G,q⟩:=h;cases Z;rw[aGK];{rw[a1 J d5 OG];refine a;rw[hx (a6_ (qD x)) (a69 (qD x)),arH J G];exact q};{rw[a1 J d5 I3];refine b;rw[hx (a6_ (qD x)) (a69 (qD x)),arH J G];exact q}
ri c f:=by rw[y vs rfl d0 g c];have h6:aDr c7<=1048576:=z;obtain⟨A,a3,a9⟩:=afh c7 _ g p (fun d hd=>cn (avm hd) h6);rw[cg k (fZ A (a::A)) (ck U),aa (a::A) (fx ..) ua,g9 (ic U) e,Z e (d vs (aUS (t (avn g) (cn (bm' c7) h6))) (m6 (bN (a3 u hu) k)) f),l (bN (a9 b m) k)]
rj c d:=dl (aqW (s:=nD) (n:="range_iterator") f rfl rfl ax (a c H (a6t (jE (B b o ag e)) F g4 h6 f4 f5) d xJ f (dc (Ep).1)))
biQ:=cN 1 2 (cN 3 4 (cN 5 6 (cN 7 8 (cN 9 10 (cN 11 12 (p=13))))))
biR:=by intro i s a7 l b0 hi z hG a b9 hR
biS:=fun f7 c4=>by obtain⟨g,D,Q,l,B⟩:=c4;rw[d0]at l;rw[a4 l (a _ D Q f B)]
rl a b:=by obtain⟨m,⟨o,a7,e1,d0,J⟩,_⟩:=id vT;obtain⟨sl,f⟩:=u.any d0 Hk a;exact b
biT:=fun i j u v K ls le hu d3 n L=>?_
c a b c e f g h j k l m:=by rw[iT aEd (d6 (i+1) _ a b c X (aEN _ c1 e _ T xK f) (d g h j Jj) k l (fun M b1 b2 b4 b7=>hR M b1 b2 (bna W.gtrans ((aEe wide).then_heap xK m) b4) b7))]
Lh a:=by {refine fQ;rw[X4];rintro⟨⟨l,m,p,rfl,a5⟩,s,g⟩;rw[Jm];delta a;rw[axt g];rfl}
rm c d:=by rw[ub,jq R];refine lO a5;rw[jF x];obtain⟨a,e,⟨O,e0⟩,q⟩:=d2;rw[b_];cases r1;rw[a1 rv p c];refine d;rw[o9 fY,b_];exact a7D
Li a:=by have G:∀x y,c (a1 x y) (y∈B) (C5 a) (Q y) (Q x):=by rw[b1 x y];induction h with|refl=>{intros;assumption}|step e h' d6=>intro I t i;rw[lG e];refine d6 (aS m) t (e9 _ _ I (V9 _ _ (aS m.2)) (t _ (.step e h') I) (t _ h' (aS m)) i)
biU:=p z.1 rx (aS z) Ek (cr z) OI (f9 z) (f9 z.2) aF8 (cr (a2 z.2)) (oG z)
biV:=∀x a L(h4:VK),c (a∈Y) (cY G L) (R L x a) (f i1 j1 (cY L j1) (L i1=ae) (b7 (j1 i1) (bV (f a))) (h4 (.ref i1) j1)) (e8 [x] L h4 E0)
dt a b d e:=bnb a dx _ s _ _ _ _ b m (a6' d) (a6' c) (room e)
biW:=a ok.mod aB5 ok.glob ok.blt ok.above ok.inj ok.has ok.cab (a ok.hd ok.frames ok.stk ok.exf ok.bs ok.R1 ok.aNI ok.R3 ok.uZ ok.F1)
biX:=by obtain⟨j,d4,O,u⟩:=q3;obtain⟨f7,c4,w⟩:=hN j d4 u;exact c f7 c4 j d4 O w
biY:=by rw[n d2 q2 (tv (dj d7) rv) (by rw[ca (au (i4 _ _ g4))];have:=f2 (aFP d7) (sF (e.2-(e.1+1)) (Cn gk e9));rw[J bnd this]) (by have:=cd (dj (wI d7)) (sF i i9);unfold Gla.Plan.drawn at this;rw[<-Ds]at this;exact ce g8 this) (qZ (bnc c2)) (fun J a6=>?_)]
rs b c:=pr (as a OF b (bj c c2.2 (fun d5 b7 b5 n2 b9=>m a7 d5 IZ b9 ⟨?_,fun l a5=>?_⟩)))
rt a d:=∀(w:World)(mg:dN)(t:Addr)(h:Heap),c (b w h) ((K hv).In h) (h.Ns CN mg) (f0 d.name t) (∃fd:FuncData,(a7V)/\∀base:iO,(K hv).In aj->alL->vf J.prog w (K hv) mg aj a k t fd c5 d)
biZ:=fun e7 f5⟨i8,d6,o,a7,e1,e,N⟩eo=>a i8 d6 o a7 e1 (eo _ e) N
bi0:=p z.1 rx (aS z) Ek (cr z) OI (f9 z) (f9 z.2) aF8 (cr (a2 z.2)) (cr (eZ z)) (oG z.2)
Lj c:=by rcases zs with⟨c,c9,a,b,n⟩|⟨d,b,j,c9,b1,G,c0⟩
bi1:=by intro i s Y c c3 hi st b2 i0 it kp hR
Lk a:=by {intro i n a L h4 N d1 s S b6 c5;rw[pV,iu Pk];rw[dH (show xC<=cK by simp)];rw[bD (fy ei ?_)];show CV _=CV _;rw[dY];apply aDL;rw[ue]}
rv b c:=by {intro a O c7 c0 b3 d6 u J;rw[hQ];obtain⟨ar,o,n,rv,d0,b0,hd⟩:=b;rw[fK a6 (d6 ar rv)];exact aW c}
Ll c:=by rw[b _ _ rfl rfl (fj-(k+1)) c (k+1) _ (aC ?_ bB (a (((O6).sb).put aT) (a e7 d (l2.put h8 w3 n1 n2 t2 w4) n1 n2) bB (d aGx ak (t M3 p0) (fun i m hi=>?_)) (wB ((O6).lo j e dV a0))) (hK (yX h8) (bK i4 t6)))]
Lm a:=by refine(bnf (prog:=eB) (w:=X.w) iz it lo a n).item i s _ _ d8 st (fun v h' D d3 f B=>?_)
hu b c e:=by refine bv lM (fo (vu (GK (fun b1 e1 j9 e8=>M=b)) (cY g6 L) (dB eR L n (B c (bo akP))) (Q x (j<i) gX x (e=ah)))) (d (a _ ae ae ae rfl) h1 (pl ak) a7M)
A c e f g i j:=by rw[d _ c a D b2 dl G (a h Z e f g i j (fun a8 y x e7 d X c7 I a4 b0 n6 Y=>?_))]
bi2:=by obtain⟨D,m,kV,p,b3,g,e3,ct,z,rfl,lk,S⟩:=F.ex
Ln d:=by ({rw[a7 m c4 a6];have:=c1 m (qZ c4);exact⟨kc eu,kc fm⟩});have c7:(j5 a7o (pD i))=d:=by{delta CB;rw[bj (J (j2 (Ny z))),a5L];rfl};rw[mk a7o (pD i)];rw[c7];obtain⟨j4,j5,l5⟩:=aFa gA d7;have m6:j4.length<=lM:=by{rw[l5.length,bA];exact cn AW bz};rw[ae l6 i3 a7t (GG j5),n (dq j5) n j5 (br m6 j7 fy) ?_,P c0 g6 a7t (fI (wI d7) k7)]
Lo b:=by rw[aGO];refine aJ O (bi (∃v,M=ak3) (cY G L) (aj d (bV (B++gt (WG i) f)))) (v ⟨ae,b1⟩ s cq) (mS (z.2.seq q));{rintro i x M L S⟨⟨v,rfl⟩,a4,b4⟩;rw[ak b3 J (oI p S),a7T];show R8 _ _ (bp ak3 j (aa x)) L;rw[(bng ..)];delta R8 tBM qB F8 sh;refine wY (c _) ⟨dq b4,wY (e _) (C x a L _ (bM b3) a4 b (fun i1 b7 b5 n2 b9=>m d i1 IZ b9 (a2 ?_ ek (go eY))))⟩;{rw[<-cj,<-qK,dC];refine cn ?_ c9;rw[dv,<-ajl f a,<-zP,<-g9];have:Y=WG (i+1)++Y.drop (i+1):=aGk;conv=>{rhs;rw[this,zP]};simp};{rw[ak,<-qK,dv,<-ajl f a,<-zP,<-g9]}};{rw[bK L v a4 b4,dc wQ b4];exact k v L a4 b4}
bi3:=by {rintro M L⟨⟨b1,e1,j9,e8,rfl⟩,s,b9,g⟩;rw[oO (z_ s)];delta Xm;rw[a4a (fun j x S=>bz)];rfl}
Lq b:=by rw[fz];refine bnh (pl:=d5) a7J c6;obtain⟨x,a8,r,R,a,dx,G,ex,d0,l,q⟩:=P;rw[l_,Ey];refine aOS r d0 c c4 l b
bi4:=by {rw[wE (¬b<EE),b (bm _) s e c4 f F u o (v h2 aGb i8)];rw[g9]at hw;rw[iO hw,l (e2 w m),ay]}
hv c h o:=by have h8:upd L t hO n=L n:=bW (J (by rw[ku q b9,b4 Z d2];cases d2));generalize lk hO=h5 at rv b9 Z R d k9;rw[aJ b U j0 j6 rv];have n9:∀m:fB,GM.Lq D e m=Cu ru akP:=bo rfl;have l0:c=ah->Q x (j<i+1) gX x (h=ah):=fun W j x b8 S=>by{rw[T j i,dX,l (g j x Yr S)]};have fin:o=ab->E i3 (cY h5 i3) (n2 i3 7):=fun W i3 d6=>cw (aFP d6) (ep (L (aFP d6) cm) ?_) Xm (CX ag);rw[aGJ,bI h3 W k9]
}
example:=by rw[a]at ⊢
section z
set_option tactic.hygienic true
open PySem PySem.W PyProof.Rows
namespace HX
noncomputable abbrev P:=PySem.Challenge.rw_glassrecord_s01_answers.prog
noncomputable def RM(a ok:agI->cb)(b:G_->agI->bY (G_×agI)):i Nat G_ agI (bY G_)|0,_,_=>ae|n+1,s,t=>fs (a t) (aa s) (match ok t with|false=>ae|true=>match b s t with|some (c1,t')=>RM a ok b n c1 t'|none=>ae)
theorem ap'{c3:gB->bY Builtin}{p:Program}{w:World}{d:Nat}{e:pF}:∀{n:Nat}{s J:SharedT}{t:Thread},RM aAS (aAR d e) (aAP (aAQ c3) p w) n s t=aa J->topRun c3 p w d e n Ha t=aa J.abs|0,_,_,_,h=>PM|n+1,s,J,t,h=>by unfold RM at h;unfold topRun;cases a:aAS t with|true=>{rw[aj a,cH];rfl}|false=>rw[aj a];cases b:aAR d e t with|false=>{rw[m7 b]}|true=>rw[aj b];cases c:aAP (aAQ c3) p w s t with|none=>{rw[m7 c]}|some x=>obtain⟨b5,d8⟩:=x;rw[aj c,J (stepT_spec c) (ap' h)]
noncomputable def bt:i Nat O9 BT BT|_,[],t=>t|n,o::J,t=>bt (n+1) J (t.ins n o)
noncomputable def s0(w:World)(os:OsState):G_:=a (bt 0 (xT).objs.toList .nil) (f2 xT) (xT).life #[] aAU aAT os
theorem aM9(w:World)(os:OsState):(s0 w os).abs=a xT #[] aAU aAT os:=nh
noncomputable abbrev q:Mi:=view P (dC 149 (dJ (jP ([0,14,38,43,50,57,74,91,99,113]:ao) i)))
abbrev lo:cW:=["NUMBERS"]
noncomputable abbrev Xt(s:Shared):cb:=BQ q
theorem left{p q:Program}{lo:cW}{Xt:vM->cb}{I:Type}{b:vM->I}{c:oP->I}{i:agK->iO}{f:Drawn}{p2 N:Nat}{n:oP->OsState->G_}(j:∀w:oP,a4 p N (i hv) f p2)(u:∀w os,(n w os).abs=a (i hv) (UY []) f p2 os)(z1:∀w:oP,GR (i hv))(run:wh (cv (x (f2 (i hv)) (i hv) p N (n w os) p) (aAY (UZ a0U) (i hv) agJ&&aAX p agJ&&aAW Ha&&aAV (i hv) agJ,bhr,b Ha) (ab,a0T q lo,c w))):LeftO p q lo Xt b c N:=fun w=>by obtain⟨⟨h,a,d,k,os⟩,e,d3⟩:=zi (j w);obtain⟨rfl,rfl,rfl,rfl⟩:h=i hv/\a=UY []/\d=f/\k=p2:=aI d3;obtain⟨s,J,l⟩:=zi (lz w);obtain⟨a7,d5,l3⟩:_/\_/\_:=by{simpa only[CI]using l};have t:bgB=aa Ha:=by{have J:=ap' J;rw[u]at J;unfold topFrom;dsimp only;rw[z1,J];rw[gH (fs (aAY _ _ _&&aAX p _&&aAW Ha&&aAV _ _) _ _)];rw[a7]};unfold openEnds;rw[e];show B bgB _=_;rw[t];show aa (bhr,b Ha)=_;rw[d5,l3]
theorem bo(w:World):a4 P 10068 xT aAU aAT:=boot_open (p:=P) (N:=10068) nh ax (fun s=>bH) w
theorem z1(w:World):GR (xT):=nh
universe HX
universe z
section z
set_option tactic.hygienic true
namespace L2
open PySem
noncomputable def inClass(s:Stmt)(j:Nat):aw:=match s with| .ClassDef _ _ _ a _ _ _ _ _ _ _=>a.getD j aMe|_=>aMe
noncomputable def aqa(s:Stmt):Arguments:=match s with| .FunctionDef _ a _ _ _ _ _ _ _ _=>a|_=>{posonlyargs:=[],args:=[],vararg:=ae,kwonlyargs:=[],kw_defaults:=[],kwarg:=ae,defaults:=[]}
noncomputable def RN(s:Stmt):uj:=match s with| .FunctionDef _ _ b _ _ _ _ _ _ _=>b|_=>[]
noncomputable def aqb(s:Stmt):Scope:=match s with| .FunctionDef _ _ _ _ _ _ a _ _ _=>a|_=>{kind:= .function,names:=[],isGenerator:=ah,isCoroutine:=ah}
universe L2
namespace GA
open PySem PySem.Spec PyProof.Rows L2
abbrev Fg:=U0
noncomputable def top(i:Nat):aw:=PySem.Challenge.pw_glassrecord_s01_answers.main.body.getD i aMe
noncomputable abbrev aa2:aw:=bX 5 0
noncomputable abbrev aa3:aw:=top 6
noncomputable abbrev aa4:aw:=top 7
noncomputable abbrev aa5:aw:=top 8
noncomputable abbrev aa6:aw:=top 9
noncomputable abbrev aa7:aw:=top 10
noncomputable abbrev aa8:aw:=top 11
noncomputable abbrev aa9:aw:=top 12
noncomputable abbrev aa_:aw:=top 13
noncomputable abbrev aa':aw:=top 24
noncomputable abbrev aba:aw:=top 25
noncomputable abbrev abb:aw:=top 26
noncomputable abbrev abc:aw:=top 27
noncomputable abbrev abd:aw:=top 28
noncomputable abbrev abe:aw:=top 29
noncomputable abbrev abf:aw:=top 30
noncomputable abbrev abg:aw:=top 31
noncomputable abbrev abh:aw:=top 32
noncomputable abbrev abi:aw:=top 33
noncomputable abbrev abj:aw:=top 34
noncomputable abbrev abk:aw:=top 35
noncomputable abbrev abl:aw:=top 36
noncomputable abbrev abm:aw:=top 37
noncomputable abbrev abn:aw:=top 39
noncomputable abbrev abo:aw:=top 40
noncomputable abbrev abp:aw:=top 41
noncomputable abbrev abq:aw:=top 42
noncomputable abbrev abr:aw:=bX 45 0
noncomputable abbrev abt:aw:=bX 45 1
noncomputable abbrev abu:aw:=bX 45 2
noncomputable abbrev abv:aw:=bX 45 3
noncomputable abbrev abw:aw:=bX 45 4
noncomputable abbrev abx:aw:=bX 45 5
noncomputable abbrev aby:aw:=bX 45 6
noncomputable abbrev abz:aw:=top 46
noncomputable abbrev abA:aw:=bX 47 0
noncomputable abbrev abB:aw:=bX 47 1
noncomputable abbrev abC:aw:=bX 47 2
noncomputable abbrev abD:aw:=bX 47 3
noncomputable abbrev abE:aw:=top 48
noncomputable abbrev abF:aw:=top 49
noncomputable abbrev abG:aw:=top 51
noncomputable abbrev abH:aw:=top 52
noncomputable abbrev abI:aw:=top 53
noncomputable abbrev abJ:aw:=top 54
noncomputable abbrev abK:aw:=top 55
noncomputable abbrev abL:aw:=top 56
noncomputable abbrev abM:aw:=top 59
noncomputable abbrev abO:aw:=top 60
noncomputable abbrev abQ:aw:=top 61
noncomputable abbrev abR:aw:=top 62
noncomputable abbrev abS:aw:=top 63
noncomputable abbrev abT:aw:=top 64
noncomputable abbrev abU:aw:=top 65
noncomputable abbrev abV:aw:=top 66
noncomputable abbrev abW:aw:=top 67
noncomputable abbrev abX:aw:=top 68
noncomputable abbrev abY:aw:=top 69
noncomputable abbrev abZ:aw:=top 70
noncomputable abbrev ab0:aw:=top 71
noncomputable abbrev ab1:aw:=top 72
noncomputable abbrev ab2:aw:=top 73
noncomputable abbrev ab3:aw:=top 82
noncomputable abbrev ab4:aw:=top 83
noncomputable abbrev ab5:aw:=top 84
noncomputable abbrev ab6:aw:=top 85
noncomputable abbrev ab7:aw:=top 86
noncomputable abbrev ab8:aw:=top 87
noncomputable abbrev ab9:aw:=top 88
noncomputable abbrev ab_:aw:=top 89
noncomputable abbrev ab':aw:=top 90
noncomputable abbrev aca:aw:=bX 97 0
noncomputable abbrev acb:aw:=bX 97 1
noncomputable abbrev acd:aw:=bX 97 2
noncomputable abbrev ace:aw:=bX 97 3
noncomputable abbrev acf:aw:=bX 97 4
noncomputable abbrev acg:aw:=bX 97 5
noncomputable abbrev ach:aw:=bX 97 6
noncomputable abbrev aci:aw:=top 98
noncomputable abbrev acj:aw:=top 103
noncomputable abbrev ack:aw:=top 104
noncomputable abbrev acm:aw:=top 105
noncomputable abbrev acn:aw:=top 106
noncomputable abbrev aco:aw:=top 107
noncomputable abbrev acp:aw:=top 108
noncomputable abbrev acq:aw:=top 109
noncomputable abbrev acr:aw:=top 110
noncomputable abbrev acs:aw:=top 111
noncomputable abbrev acu:aw:=top 112
noncomputable abbrev acv:aw:=nT 0
noncomputable abbrev acw:aw:=nT 1
noncomputable abbrev acx:aw:=nT 2
noncomputable abbrev acy:aw:=nT 3
noncomputable abbrev acz:aw:=nT 4
noncomputable abbrev acA:aw:=nT 5
noncomputable abbrev acB:aw:=top 139
noncomputable abbrev acC:aw:=top 140
noncomputable abbrev acD:aw:=top 141
noncomputable abbrev acE:aw:=top 142
noncomputable abbrev acF:aw:=top 143
noncomputable abbrev acG:aw:=top 144
noncomputable abbrev acH:aw:=top 145
noncomputable abbrev acI:aw:=top 146
noncomputable abbrev acJ:aw:=top 147
noncomputable abbrev acK:aw:=top 148
noncomputable def gT(s:PySem.W.SharedT)(a:Addr):bY Obj:=fs (Nat.blt a s.n) ((s.tree.get a).bind PySem.W.alive) ae
theorem aM_{s:PySem.W.SharedT}{a:Addr}{o:Obj}(e:be (gT s a)):be (s.abs.heap.get? a):=by unfold gT at e;rw[PV];{rename_i l;rw[aO u g (Option.bind_eq_some_iff.mp e)];exact L (PySem.W.abs_get (Nat.blt_eq.mp l) g) e};{rw[dU]}
theorem acL{g:eh->bY Obj}{a:Addr}{o:Obj}:∀{l:bg},be (Mj a (Ml (D1 (g a))))->be (g a)|[],e=>by{rw[dU]}|b::l,e=>by cases q:g b with|none=>{rw[a6 (List.filterMap_cons_none (dd q))];exact acL e}|some u=>rw[a0V (b:=(b,u)) (dd q),agL]at e;cases J:a==b with|true=>{rw[a6 J,dU,J (eq_of_beq J) q]}|false=>rw[a6 J];exact acL e
noncomputable def asN:bg:=[3,27,28,30,31,41,42,48,49,55,56,62,63,67,68,72,73,79,80,86,87,88,94,95,101,102,108,109,115,116,122,123,129,130,136,137,143,144,150,151,155,156,162,163,169,170,176,177,183,184,190,191,197,198,204,205,211,212,225,226,232,233,239,240,246,247,253,254,258,259,265,266,268,269,279,280,293,294,300,301,307,308,312,313,315,316,324,325,329,330,334,335,341,342,346,347,353,354,358,359,365,366,372,373,379,380,386,387,393,394,400,401,407,408,414,415,419,420,426,427,431,432,438,439,445,446,450,451,457,458,464,465,471,472,478,479,485,486,490,491,497,498,502,503,507,508,514,515,519,520,533,534,540,541,547,548,554,555,561,562,568,569,575,576,578,579,589,590,591,592,598,599,605,606,612,613,619,620,626,627,633,634,640,641,647,648,654,655,659,660,661,662,675,676,682,683,689,690,696,697,703,704,710,711,713,714,722,723,727,728,734,735,741,742,746,747,753,754,760,761,767,768,774,775,781,782]
noncomputable def KT(s:PySem.W.SharedT):Fg:=(asN.filterMap (D1 (gT s a)))
theorem aNa(s:PySem.W.SharedT):(KT s).In agJ:=sU (aM_ (acL e))
noncomputable def adr(K:Fg)(x:Str):eh:=Kx (fn x)
noncomputable def RO(K:Fg)(C:Addr)(x:Str):eh:=Kx (hB x)
noncomputable def fdOf(K:Fg)(f:Addr):U1:=qJ fd Mm
noncomputable def oF(K:Fg)(q:Str)(f:Addr):beW:=qJ (aa ({fd with kwdefaults:= .none,doc:= .none,pyModule:= .none,annotations:=ae,code:= .none,closureTuple:= .none},a0W K fd.code q,U2 K rF)) ae
noncomputable def oE(x q:Str)(st:Stmt):beW:=aa (aAZ x q (aqa st) (RN st) Eh .none .none .none .none ae .none .none,ab,ab)
noncomputable def abN:EV:=["len","range","enumerate","zip","reversed","sorted","set","list","tuple","max","min","all"]
noncomputable def itN:aO gB Int:=[("HEADER_BYTES",20),("POINT_BYTES",8),("LINE_BYTES",4),("MARK_BYTES",12),("LEAST_SIDE",16),("MOST_SIDE",1048575),("LEAST_POINTS",4),("MOST_POINTS",4096),("LEAST_LINES",4),("MOST_LINES",8192),("LEAST_MARKS",1),("MOST_MARKS",2048),("OUTSIDE",0),("FRAME_PLACE",20),("LEAD",0),("ERASE",1),("MOVE",2),("MARK",3),("DROP",4),("LEAST_LEAD",2),("MOST_LEAD",64),("MOST_STEPS",65536),("DONE",0),("NO_SUCH_THING",-2),("TOO_MANY_STEPS",-3),("NOT_TAKEN",-5),("FIRST_PLACE",16),("CALL_OPEN",1),("CALL_BARE",2),("CALL_LEAD",3),("CALL_ERASE",4),("CALL_MOVE",5),("CALL_MARK",6),("CALL_DROP",7),("CALL_UNDO",8),("CALL_REDO",9),("CALL_COUNT",10),("CALL_PLAN",11),("CALL_READ",13),("COUNT_DONE",0),("COUNT_UNDONE",1),("COUNT_PANES",2),("NO_RECORD",-9),("OUT_OF_RANGE",-1),("TOO_LONG",-6),("MOST_LENGTH",4294967295),("MOST_KIND",65535),("MOST_CARTOON_BYTES",131072),("MOST_SAVED_BYTES",67108864)]
noncomputable def tpN:aO gB aQ:=[("OPENING",aIt),("RECORD_OPENING",aIu),("STEP_BYTES",[14,5,11,15,3]),("WITH_ROW",[1,3,13])]
noncomputable def fnN:aO gB aw:=[("point_place",aa3),("line_place",aa4),("mark_place",aa5),("byte_count",aa6),("ends_of",aa7),("numbered",aa8),("in_order",aa9),("frame_alone",aa_),("number_at",aa'),("two_bytes",aba),("four_bytes",abb),("opening_fault",abc),("size_fault",abd),("header_fault",abe),("point_at",abf),("line_at",abg),("mark_at",abh),("drawing_told",abi),("point_bytes",abj),("line_bytes",abk),("mark_bytes",abl),("cartoon_bytes",abm),("turn",abn),("lies_inside",abo),("crosses",abp),("count_left",abq),("left_to_right",abz),("panes_of",abE),("lines_between",abF),("neighbours_of",abG),("first_loose",abH),("walk_deep",abI),("first_unreached",abJ),("earliest_back",abK),("first_cut",abL),("cartoon_told",abM),("judge",abO),("same_lines",abQ),("net_fault",abR),("form_fault",abS),("points_fault",abT),("lines_fault",abU),("frame_fault",abV),("edge_stands",abW),("tangle_fault",abX),("is_tangled",abY),("ways_fault",abZ),("marks_fault",ab0),("first_misplaced",ab1),("first_repeated",ab2),("drawing_after",ab3),("redrawn",ab4),("joined",ab5),("parted",ab6),("with_lead",ab7),("with_erased",ab8),("with_moved",ab9),("with_mark",ab_),("with_dropped",ab'),("refusal",aci),("saved_bytes",acj),("step_bytes",ack),("record_told",acm),("head_fault",acn),("steps_told",aco),("steps_fault",acp),("step_fault",acq),("step_size",acr),("step_at",acs),("lead_at",acu),("lengths_fit",acB),("mark_fits",acC),("in_range",acD),("mark_told",acE),("row_told",acF),("step_told",acG),("told_of",acH),("counted",acI),("with_count",acJ),("answers",acK)]
noncomputable def atN:aO gB EV:=[("Drawing",an3),("Sweep",["passed","gaps","links","sides"]),("Panes",["sweep","mark_gaps"]),("Record",["cartoons","steps","done"]),("Desk",["record"])]
noncomputable def meN:aO gB aLH:=[dm "new_region" "Sweep.new_region" abt,dm "region" "Sweep.region" abu,dm "link" "Sweep.link" abv,dm "gap_at" "Sweep.gap_at" abw,dm "gaps_above" "Sweep.gaps_above" abx,dm "pass_point" "Sweep.pass_point" aby,("Panes","home","Panes.home",abB),("Panes","homes_beside","Panes.homes_beside",abC),("Panes","how_many","Panes.how_many",abD),dn "cartoon" "Record.cartoon" acb,dn "undone" "Record.undone" acd,dn "take" "Record.take" ace,dn "forget_undone" "Record.forget_undone" acf,dn "undo" "Record.undo" acg,dn "redo" "Record.redo" ach,("Desk","answer","Desk.answer",acw),("Desk","begin_from_cartoon","Desk.begin_from_cartoon",acx),("Desk","begin_bare","Desk.begin_bare",acy),("Desk","begin_from_saved","Desk.begin_from_saved",acz),("Desk","begin","Desk.begin",acA)]
noncomputable def FV:aO gB (gB×aw):=[("Drawing","Drawing.__init__",aa2),("Sweep","Sweep.__init__",abr),("Panes","Panes.__init__",abA),("Record","Record.__init__",aca),("Desk","Desk.__init__",acv)]
noncomputable def yu:bY pF->cb|some (some (.ref _))=>ab|_=>ah
noncomputable def RP:bY pF->el|some (some (.int i _))=>xv|_=>ae
noncomputable def vI:cR->el| .int i _=>xv|_=>ae
noncomputable def RQ(K:Fg)(x:Str):bY (cR×bK el):=match vN (dp x)with|some ⟨c,_,.seq ar _,_⟩=>aa (c,ar.toList.map vI)|_=>ae
noncomputable def nE(e:DictEntry):Int×el×el:=(e.hash,vI e.key,vI e.val)
noncomputable def nP(p:Int×Int):Int×el×el:=(hashInt p.1,aa p.1,aa p.2)
noncomputable def nmN:aO Int Int:=[(1,0),(2,6),(3,4),(4,2),(5,3),(6,5),(7,1),(8,0),(9,0),(10,1),(11,0),(12,0),(13,0)]
noncomputable def nmF(K:Fg):bY (cR×nk×aO Int (el×el)×EA):=match vN (dp "NUMBERS")with|some ⟨c,d,.dict a7 _,sl⟩=>aa (c,d,Mn nE,sl)|_=>ae
noncomputable def clF(K:Fg)(C:Addr)(l:EV):=(a0Z K C Str.empty&&a0Y K C&&aA0 K C&&a0X K C&&U2 K xi,hB "__setattr__",kA (fun f:gB=>hB f))
noncomputable def mtF(K:Fg)(C:Addr)(m q:Str):=(yu (hB m)&&a00 K (.ref ZF),oF K q ZF)
noncomputable def facts(K:Fg):=j (fun x:gB=>fn x) (RP (fn p.1)) (bn (n2 (RQ K p.1))) aKB (bn (n2 bcd)) (bn (n2 a'K)) (bn (lo p.2.1 (aS p))) (bn (lo "__init__" p.2.1))
noncomputable def aNe:=j a7v (aa p.2) (bn (ab,a9D)) (ab,aMF) (bn beX) (bn (ab,bcf)) (bn (ab,bd2)) (bn (ab,bd1))
universe GA
universe z
section z
set_option tactic.hygienic true
open PySem PySem.W PyProof.Rows
namespace HX
noncomputable def fo{I:Type}(l:O9):a9x:= @List.rec Obj (as a9x) (cj (k [])) (fun o _ d6 k=> @Obj.rec (as I) (fun a b c d=>d6 (fun J=>k (d a b c d::J))) o) l
theorem aqd{I:Type}:∀(l:O9)(k:O9->I),fo l k=k l|[],_=>rfl|⟨_,_,_,_⟩::l,k=>aqd l _
noncomputable def kp:ao->uj->uj|[],J=>J|0::l,_::J=>kp l J|(n+1)::l,a::J=>a::kp (n::l) J|_,[]=>[]
noncomputable def q2:Mi:=DK (kp [0,13,23,4,6,6,16,16,7,13] aA1)
noncomputable abbrev Xt2(s:Shared):cb:=BQ q2
universe HX
universe z
section z
set_option tactic.hygienic true
open PySem PySem.W PyProof.Rows
namespace HX
noncomputable def q3:Mi:=DK (P.main.body.drop 148)
noncomputable def l3:cW:=P.main.scope.names.map fN
noncomputable abbrev X3(s:Shared):cb:=BQ q3
universe HX
universe z
section z
set_option tactic.hygienic true
section z
namespace HX
open PySem PySem.W PyProof.Rows
noncomputable abbrev run(w:World)(os:OsState):bY G_:=x (f2 xT) (xT) P 10068 (s0 w os) P
noncomputable def YH(h:Heap):Prop:=∃K:Frag,ur/\a01 K=agM
noncomputable abbrev lk(w:World)(s:SharedT)(l:O9):=(aAY (UZ aA1) xT alY&&aAX P alY&&aAW bgS&&aAV xT alY,a02 q3 l3 (UZ aA1) X3 ab bgS)
theorem aNf(a:bee)(b:ba0):bid:=by refine Mo bo aM9 z1 (fun w os=>?_);obtain⟨s,J,l⟩:=zi (a w os);obtain⟨c1,B,i1⟩:=zi (b w os);cases J.symm.trans B;rw[aqd]at l;rw[ez a7 d5 l];refine Option.map_eq_some_iff.mpr (aJ s J);exact sQ a7 (sQ d5 (eq_true (aw (GA.aNa s) i1)))
universe HX
universe z
universe z
section z
set_option tactic.hygienic true
namespace HX
open PySem PySem.W PyProof.Rows
noncomputable abbrev ow(b:Bool)(w:World):=w.withFollow "special-get-raises" b
theorem ra0(w:World)(os):cv (lz (ow ah w)) (wD (ow ah w)) aGB:=bhl
theorem ra1(w:World)(os):cv (lz (ow ab w)) (wD (ow ab w)) aGB:=bhl
theorem rb0(w:World)(os):cv (lz (ow ah w)) aGw agM:=bf_
theorem rb1(w:World)(os):cv (lz (ow ab w)) aGw agM:=bf_
theorem ra:bee:=n6 ra0 ra1
theorem rb:ba0:=n6 rb0 rb1
theorem lft:bid:=aNf ra rb
abbrev R:=PySem.Challenge.rw_glassrecord_s01_answers
theorem wa:namesResolve U3=ab:=cB
theorem wb:noRoadLSs {strict:=! eD (UZ agN) cThrough.contains,foot:=ae,bare:=a03 (readsOut U3 agN) [Hb "vars",Hb "dir",Hb "locals"]} agN=ab:=cB
theorem wc:namesMeet U3 agN (fun _ n=>attrL n)=ab:=cB
theorem ws:R.wellSaid=ab:=by have g:∀{a b:Bool},a=ab->b=ab->da a b:=jM (Bool.and_eq_true_iff.mpr ⟨x,y⟩);have e:looksOpen U3=ab:=g (g (g (g (g cB cB) wa) cB) wb) wc;exact g (g (g (g (g e cB) cB) cB) cB) cB
theorem co:da (chainsOk q3) (opensWell U3):=cB
theorem br:R.prog.bare:=f rfl rfl rfl (bd cB)
theorem xa:z i (R.pre i=ab) (a04 i=ab):=v [.list (mM 8)] cB cB
universe HX
universe z
theorem cU{a b l J:Nat}(h:cM)(e:a'f):gO:=Nat.le_of_add_le_add_right (cn e (a05 h J))
theorem aNm{a b l J:Nat}(h:cM)(e:a'h):gO:=cU h e
theorem cf{a b c d l J:Nat}(h:cM)(i:eP)(e:bC b d a c):gO:=cU FH e
theorem RR{a b c d l J:Nat}(h:cM)(i:eP)(e:bD b d a c):gO:=cf h i e
theorem hq{a b c d x y l J:Nat}(h:cM)(i:eP)(j:gx)(e:bfQ):gO:=cf FH j e
theorem aqe{a b c d x y l J:Nat}(h:cM)(i:eP)(j:gx)(e:bfS):gO:=hq h i j e
theorem uW{a b c d x y z w l J:Nat}(h:cM)(i:eP)(j:gx)(k:rS)(e:bfR):gO:=hq FH j k e
theorem RS{a b c d x y z w l J:Nat}(h:cM)(i:eP)(j:gx)(k:rS)(e:bfT):gO:=uW h i j k e
theorem Kr{a b c d x y z w u v l J:Nat}(h:cM)(i:eP)(j:gx)(k:rS)(m:u<=v)(e:bC (b+d+y+w) v alo u):gO:=uW FH j k m e
theorem bi6{a b c d x y z w u v l J:Nat}(h:cM)(i:eP)(j:gx)(k:rS)(m:u<=v)(e:bD (b+d+y+w) v alo u):gO:=Kr h i j k m e
theorem aN0{l J:Nat}(e:er l J):gO:=e
theorem aNn{l J:Nat}(e:es l J):gO:=aN0 e
theorem aF1{a b:Nat}(h:cM)(e:er (b+1) a):cE:=iP _ (cn e h)
theorem bi7{a b:Nat}(h:cM)(e:es (b+1) a):cE:=aF1 h e
theorem gy{a b c d:Nat}(h:cM)(i:eP)(e:a'g):cE:=aF1 FH e
theorem bi8{a b c d:Nat}(h:cM)(i:eP)(e:a'i):cE:=gy h i e
theorem yv{a b c d x y:Nat}(h:cM)(i:eP)(j:gx)(e:bfZ):cE:=gy FH j e
theorem bi9{a b c d x y:Nat}(h:cM)(i:eP)(j:gx)(e:bf1):cE:=yv h i j e
theorem aF4{a b c d x y z w:Nat}(h:cM)(i:eP)(j:gx)(k:rS)(e:bf0):cE:=yv FH j k e
theorem bi_{a b c d x y z w:Nat}(h:cM)(i:eP)(j:gx)(k:rS)(e:bf2):cE:=aF4 h i j k e
theorem aF5{a b c d x y z w u v:Nat}(h:cM)(i:eP)(j:gx)(k:rS)(m:u<=v)(e:er (b+d+y+w+v+1) (OR+z+u)):cE:=aF4 FH j k m e
theorem bi'{a b c d x y z w u v:Nat}(h:cM)(i:eP)(j:gx)(k:rS)(m:u<=v)(e:es (b+d+y+w+v+1) (OR+z+u)):cE:=aF5 h i j k m e
theorem aQ1{a b l J:Nat}(h:a=b)(e:bdP):l=J:=a06 (aA2 (gC _ h))
theorem aQ2{a b c d l J:Nat}(h:a=b)(i:c=d)(e:bgc):l=J:=aQ1 aoT e
theorem aQ3{a b c d x y l J:Nat}(h:a=b)(i:c=d)(j:x=y)(e:bgd):l=J:=aQ2 (a:=a+c) aoT j e
theorem r_{a b l J:Int}(h:cM)(e:a'f):gO:=Int.le_of_add_le_add_right (aA3 e (Int.add_le_add_left h J))
theorem aqi{a b l J:Int}(h:cM)(e:a'h):gO:=r_ h e
theorem Ks{a b c d l J:Int}(h:cM)(i:eP)(e:bC b d a c):gO:=r_ Rc e
theorem FW{a b c d l J:Int}(h:cM)(i:eP)(e:bD b d a c):gO:=Ks h i e
theorem se{a b c d x y l J:Int}(h:cM)(i:eP)(j:gx)(e:bfQ):gO:=Ks Rc j e
theorem acU{a b c d x y l J:Int}(h:cM)(i:eP)(j:gx)(e:bfS):gO:=se h i j e
theorem aI4{a b c d x y z w l J:Int}(h:cM)(i:eP)(j:gx)(k:rS)(e:bfR):gO:=se Rc j k e
theorem bjb{a b c d x y z w l J:Int}(h:cM)(i:eP)(j:gx)(k:rS)(e:bfT):gO:=aI4 h i j k e
theorem aI0{l J:Int}(e:er l J):gO:=e
theorem bjc{l J:Int}(e:es l J):gO:=aI0 e
theorem aG1{a b:Int}(h:cM)(e:er (b+1) a):cE:=Int.lt_irrefl _ (aA3 e h)
theorem bjd{a b:Int}(h:cM)(e:es (b+1) a):cE:=aG1 h e
theorem Kt{a b c d:Int}(h:cM)(i:eP)(e:a'g):cE:=aG1 Rc e
theorem acW{a b c d:Int}(h:cM)(i:eP)(e:a'i):cE:=Kt h i e
theorem RT{a b c d x y:Int}(h:cM)(i:eP)(j:gx)(e:bfZ):cE:=Kt Rc j e
theorem bje{a b c d x y:Int}(h:cM)(i:eP)(j:gx)(e:bf1):cE:=RT h i j e
theorem aG4{a b c d x y z w:Int}(h:cM)(i:eP)(j:gx)(k:rS)(e:bf0):cE:=RT Rc j k e
theorem bjf{a b c d x y z w:Int}(h:cM)(i:eP)(j:gx)(k:rS)(e:bf2):cE:=aG4 h i j k e
theorem RU{a b l J:Int}(h:a=b)(e:bdP):l=J:=eO
theorem aP2{a b c d l J:Int}(h:a=b)(i:c=d)(e:bgc):l=J:=RU aoT e
theorem aP3{a b c d x y l J:Int}(h:a=b)(i:c=d)(j:x=y)(e:bgd):l=J:=aP2 (a:=a+c) aoT j e
theorem Eq.l{a b:Nat}(h:a=b):cM:=qM h
theorem Eq.g{a b:Nat}(h:a=b):b<=a:=qM agO
theorem Eq.m{a b:Int}(h:a=b):cM:=a07 h
theorem Eq.n{a b:Int}(h:a=b):b<=a:=a07 agO
theorem aNl{a b:Nat}(h:¬cM):b+1<=a:=Hc h
theorem qx{a b:Nat}(h:¬a<b):b<=a:=zj h
theorem aMl{a b:Int}(h:¬cM):b+1<=a:=Int.lt_of_not_ge h
theorem aMt{a b:Int}(h:¬a<b):b<=a:=agP h
theorem aDe{a b:Nat}(h:a95=ab):cM:=Int.ofNat_le.mp (CJ h)
theorem By{a b:Nat}(h:bT (v a) b=ab):a<b:=Int.ofNat_lt.mp (CJ h)
theorem aDf{a b:Nat}(h:¬a95=ab):b<a:=Hc (J (h (dH (aA4 z))))
theorem Bz{a b:Nat}(h:¬bT (v a) b=ab):b<=a:=zj (J (h (dH (U4 z))))
theorem aS(x y:Nat):x<=x-y+y:=Nat.sub_le_iff_le_add.mp aY
theorem aR{x y:Nat}(h:y<=x):x-y+y<=x:=qM (Mq h)
theorem aC{x y:Nat}(h:gx):v x<=y:=aA4 h
theorem Ku(x:Nat):xC<=x:=Int.natCast_nonneg x
theorem ml{x y:Nat}(h:x<y):v x+1<=y:=U4 h
theorem aW{a b:Nat}(h:cM)(n:¬a=b):a<b:=aA5 h n
theorem aV{a b:Nat}(h:cM)(n:¬b=a):a<b:=aA5 h (hx n)
theorem RV{I:Type}{l:ba}{k n:Nat}(h:eb<=n):t (Hd k)+t (oQ (k+1))<=n:=by rw[eS,sR];lia
theorem FX{a b c d e f:Nat}(h:a<b\/a=b/\d<e)(g:b<c\/b=c/\e<f):a<c\/a=c/\d<f:=mP (.inl (g.elim (jv h) (fun g=>g.1▸h))) (g.elim (fun g=> .inl (h.1▸g)) (fun g=>e4 (h.1.trans g.1) (jv h.2 g.2)))
section z
theorem FY:∃e:(∀{I:Type} [eJ I],(cw I)->I),∀{I:Type} [eJ I](p:cw I),p (e p)->∀z,p z:=⟨bn (a09 (J (¬p z))),fun p h z=>qN (ed (a08 (p:=J (¬p z)) ⟨z,n⟩ h))⟩
noncomputable def RW{I:Type}(_:eJ I)(p:cw I):I:=agQ FY p
def Kd{I:Type}(_:I)(q:Prop):Prop:=q
theorem aE1{I:Type} [o:eJ I]{p:cw I}(h:Kd (RW o p) (p (RW o p))):∀z,p z:=aA6 FY p h
variable{A B C D E F G H I d0 K Z:Type}
noncomputable def xE2(o:eJ (A×B))(p:au A B):A×B:=g7 (p z.1 z.2)
theorem aE2 [o:eJ (A×B)]{p:au A B}(y:au (aop).1 (aop).2 (p (aop).1 (aop).2)):∀a b,p a b:=fs (bT (A×B) (p z.1 z.2) rR)
noncomputable def RX(o:eJ apB)(p:be A B C):apB:=g7 bch
theorem aE3 [o:eJ apB]{p:be A B C}(y:au (Rf).1 (aV Rf) (Kd (Rf).2.2 (p (Rf).1 (aV Rf) (Rf).2.2))):∀a b c,p a b c:=fun a b c=>bT apB bch (a,b,c)
noncomputable def xE4(o:eJ apS)(p:aa A B C D):apS:=g7 be0
theorem aE4 [o:eJ apS]{p:aa A B C D}(y:au (FI).1 (aV FI) (au (bX FI) (FI).2.2.2 (p (FI).1 (aV FI) (bX FI) (FI).2.2.2))):z3 (p a b c d):=fun a b c d=>bT apS be0 (a,b,c,d)
noncomputable def xE5(o:ip E)(p:lc (cw E)):hu E:=g7 bgE
theorem aE5 [o:ip E]{p:lc (cw E)}(y:V yq yq yq yq (Kd (a2 (yq)) (p (yq).1 (aV yq) (bX yq) (cA yq) (a2 (yq))))):∀a b c d e,p a b c d e:=fun a b c d e=>bT (hu E) bgE (a,b,c,d,e)
noncomputable def xE6(o:ip (E×F))(p:lc (au E F)):hu (E×F):=g7 bhF
theorem aE6 [o:ip (E×F)]{p:lc (au E F)}(y:V rY rY rY rY (au (b1 rY) (jt rY) (p (rY).1 (aV rY) (bX rY) (cA rY) (b1 rY) (jt rY)))):∀a b c d e f,p a b c d e f:=fun a b c d e f=>bT (hu (E×F)) bhF (a,b,c,d,e,f)
noncomputable def xE7(o:ip apC)(p:bdp):hu apC:=g7 bie
theorem aE7 [o:ip apC]{p:bdp}(y:V ou ou ou ou (au (b1 ou) (cu ou) (Kd (eZ (ou)) (p (ou).1 (aV ou) (bX ou) (cA ou) (b1 ou) (cu ou) (eZ (ou)))))):∀a b c d e f g,p a b c d e f g:=fun a b c d e f g=>bT (hu apC) bie (a,b,c,d,e,f,g)
noncomputable def xE8(o:ip apT)(p:bfy):hu apT:=g7 biC
theorem aE8 [o:ip apT]{p:bfy}(y:V lu lu lu lu (au (b1 lu) (cu lu) (au (du lu) (eZ (lu).2) (p (lu).1 (aV lu) (bX lu) (cA lu) (b1 lu) (cu lu) (du lu) (eZ (lu).2))))):∀a b c d e f g h,p a b c d e f g h:=fun a b c d e f g h=>bT (hu apT) biC (a,b,c,d,e,f,g,h)
noncomputable def xE9(o:kE I)(p:o6 (cw I)):ky I:=g7 biG
theorem aE9 [o:kE I]{p:o6 (cw I)}(y:V jn jn jn jn (au (b1 jn) (cu jn) (au (du jn) (d7 jn) (Kd (a2 (a2 (jn))) (p (jn).1 (aV jn) (bX jn) (cA jn) (b1 jn) (cu jn) (du jn) (d7 jn) (a2 (a2 (jn)))))))):∀a b c d e f g h i,p a b c d e f g h i:=fun a b c d e f g h i=>bT (ky I) biG (a,b,c,d,e,f,g,h,i)
noncomputable def aqB(o:kE (I×d0))(p:a8w):ky (I×d0):=g7 biP
theorem aqC [o:kE (I×d0)]{p:a8w}(y:V hY hY hY hY (au (b1 hY) (cu hY) (au (du hY) (d7 hY) (au (fq hY) (a2 (jt hY)) (p (hY).1 (aV hY) (bX hY) (cA hY) (b1 hY) (cu hY) (du hY) (d7 hY) (fq hY) (a2 (jt hY))))))):∀a b c d e f g h i j,p a b c d e f g h i j:=fun a b c d e f g h i j=>bT (ky (I×d0)) biP (a,b,c,d,e,f,g,h,i,j)
noncomputable def aqD(o:kE apA)(p:bdK):ky apA:=g7 biU
theorem aqE [o:kE apA]{p:bdK}(y:V hn hn hn hn (au (b1 hn) (cu hn) (au (du hn) (d7 hn) (au (fq hn) (k8 hn) (Kd a8X (p (hn).1 (aV hn) (bX hn) (cA hn) (b1 hn) (cu hn) (du hn) (d7 hn) (fq hn) (k8 hn) a8X)))))):∀a b c d e f g h i j k,p a b c d e f g h i j k:=fun a b c d e f g h i j k=>bT (ky apA) biU (a,b,c,d,e,f,g,h,i,j,k)
noncomputable def aqF(o:kE apR)(p:bfM):ky apR:=g7 bi0
theorem mn [o:kE apR]{p:bfM}(y:V gv gv gv gv (au (b1 gv) (cu gv) (au (du gv) (d7 gv) (au (fq gv) (k8 gv) (au a8p (oG (gv).2) (p (gv).1 (aV gv) (bX gv) (cA gv) (b1 gv) (cu gv) (du gv) (d7 gv) (fq gv) (k8 gv) a8p (oG (gv).2))))))):∀a b c d e f g h i j k l,p a b c d e f g h i j k l:=fun a b c d e f g h i j k l=>bT (ky apR) bi0 (a,b,c,d,e,f,g,h,i,j,k,l)
universe z
section z
open PySem
instance nA:eJ Around:=⟨{}⟩
instance nS:eJ vM:=⟨{}⟩
instance nQ:eJ agK:=⟨bih⟩
instance nW:eJ oP:=nQ.elim (bn ⟨⟨hm 0,p⟩⟩)
instance nP:eJ U5:=⟨al1⟩
instance nT:eJ Gla.Pt:=⟨jT⟩
instance nM:eJ He:=⟨v jT 0 0⟩
instance nF:eJ Mr:=⟨jT⟩
instance nE:eJ CK:=⟨.drop 0⟩
universe z
namespace L2
open PySem PySem.Spec PyProof.Rows
abbrev Key:=Sum Int Str
noncomputable def RY:dK Key cR| .inl k,v=>Value.isInt k v| .inr x,v=>Value.isStrOf x v
noncomputable def aNu(w:World):Key->Int| .inl k=>hashInt k| .inr x=>hashStr w x
theorem aNv:∀{k:Key}{v:Value},RY k v=ab->(∃i t,k=hy i/\v=QL)\/(∃x t,k=U6 x/\v=aoq)| .inl i,v,h=>by{rw[cl t (aA7 (k:=i) (v:=v) h)];exact .inl (ce i t e)}| .inr x,v,h=>by rw[cl t (a0_ (x:=x) (v:=v) h)];exact bj x t rfl e
theorem ac0(i:Int)(t:Tok):RY (.inl i) (e0 i)=ab:=Qd
theorem aNw(x:Str)(t:Tok):RY (.inr x) (.str x t)=ab:=Qd
theorem aNx(a b:Int):ar (hy a:Key) (hy b)=(a==b):=Bk
theorem aNy(a b:Str):ar (U6 a:Key) (U6 b)=ar a b:=aT
theorem aNz(a:Int)(b:Str):ar (hy a:Key) (U6 b)=ah:=a9l
theorem aNA(a:Str)(b:Int):ar (U6 a:Key) (hy b)=ah:=a9l
noncomputable def RZ(prog:Program)(w:World):PySem.KeyKind cN w Key where is:=RY;hash:=aNu w;inj:=fun v a b b3 U=>by{rw[vk b3];{rw[m U j u e y u e];{rw[aKx];rw[b4]};rw[cX]};{rw[m U j u e y u e,cX];{rw[aKx];rw[b4]}}};byValue:=fun k v h=>by{rw[vk h]<;>rfl};pyHash:=fun d3 h=>by{rw[vk d3,l (wpAny_pyHash_int h),l (wpAny_pyHash_str h)]};eqBool:=fun hu d3 h=>by{rw[vk hu];{rw[bg',gR aNx (wpAny_eqBool_int h),gR aNz (a1a i t y u _ _ _ _ h)]};{rw[bg',gR aNA (a0' x t j u _ _ _ _ h),gR aNy (wpAny_eqBool_str h)]}};«strs»:=fun k x t v h=>by rw[m h i u e y u e,cX];{rw[aKx,Ju,ls v]}
theorem aNB(prog:Program)(w:World)(i:Int)(t:Tok):(RZ cN w).is (.inl i) (e0 i)=ab:=ac0 i t
theorem aNC(prog:Program)(w:World)(x:Str)(t:Tok):(RZ cN w).is (.inr x) (.str x t)=ab:=aNw x t
universe L2
namespace L2
open PySem PySem.Spec PyProof.Rows
set_option genInjectivity true in inductive V where|bC|bl(b:Bool)|int(i:Int)|str(x:Str)|iF(b:fv Ms)|R0(b:UInt64)|ref(a:Addr)|ty(n:String)deriving DecidableEq
instance nV:eJ V:=⟨.bC⟩
def RelV:au V cR| .bC,u=>u=CL| .bl b,u=>u=vO b| .int i,u=>jU QL| .str x,u=>jU aoq| .iF b,u=>jU (a1c b t)| .R0 b,u=>jU (a1b b t)| .ref a,u=>u=dm a| .ty n,u=>u=Mt n
abbrev Vals:au af aM:=dD gS
theorem Vals.length{O:af}{b1:aM}(J:oa):bx=lD:=Mu J
theorem Vals.get{O:af}{b1:aM}{i:Nat}{x:V}(h:oa)(e:nr):z u (A b1 u) pS:=gb h (cZ e) (j e)
theorem Vals.set{x:V}{u:Value}(J:pS){O:af}{b1:aM}(i:Nat)(h:oa):iQ (O.set i x) (b1.set i u):=by induction h generalizing i with|nil=>{rw[kP]}|cons q t j=>cases i with|zero=>{rw[cE J t]}|succ i=>rw[cE q (j i)]
theorem Vals.append{O d7:af}{b1 ws:aM}(h:oa)(s:iQ d7 ws):iQ (O++d7) (b1++ws):=a'W
theorem Vals.take{O:af}{b1:aM}(n:Nat)(h:oa):iQ (O.take n) (b1.take n):=by induction h generalizing n with|nil=>{rw[a1d,a1d];exact .nil}|cons J t j=>cases n with|zero=>{rw[kP]}|succ n=>rw[cE J (j n)]
theorem Vals.drop:∀{O:af}{b1:aM}(n:Nat),oa->iQ (Hf n) (b1.drop n)|_,_,0,J=>J|_,_,_+1,.nil=> .nil|_,_,n+1,.cons _ t=>Vals.drop n t
def sf:au jQ pF|some v,some u=>jl|none,none=>gD|_,_=>cE
def KV{c:Type}:au hW Fv:=dD (fun(p:c×V)(q:c×cR)=>p.1=q.1/\gS p.2 q.2)
noncomputable def kV:Key->V| .inl i=>hT| .inr x=>Jv
set_option genInjectivity true in inductive HO where|lst(O:af)|tup(O:af)|dK(F:gw)|dT(F:uD)|set(r:Int->cb)(n:Nat)|ins(C dx:Addr)(G:hX)|own(x:Addr)|xd(G:hX)|met(f x:Addr)|rng(lo hi:Int)|yw(o:Obj)(u:HO)|Kv(c5:dW)|ext(i:cw iO)
instance nH:eJ HO:=⟨al9⟩
abbrev Hp:=eh->bY HO
noncomputable def upd(H:Hp)(a:Addr)(o:HO):Hp:=il (aw (b=a) o (H b))
theorem ak{H:Hp}{a:Addr}{o:HO}:be (upd H a o a):=by delta upd;rw[cO]
theorem bW{H:Hp}{a b:Addr}{o:HO}(h:b≠a):upd H a o b=H b:=by delta upd;rw[aO h]
theorem yx{H:Hp}{a:Addr}{o u:HO}:upd Qw a u=ad a u:=by funext b;delta upd;split<;>rfl
theorem qy{H:Hp}{a b:Addr}{o u:HO}(h:Y4)(h':fr u)(d:o≠u):AS:=fp
theorem fq{H:Hp}{a b:Addr}{o:HO}(h:Y4)(h':gu):AS:=fp
section z
variable(P:Program)(w:World)
def ox(H:Hp)(h:Heap)(a:Addr):cw HO| .lst O=>Jk/\BS (EF/\bA a JZ)| .tup O=>Jk/\∃ar:aM,EF/\Mv h a eT| .dK F=>np apO| .dT F=>np (∃O:J8,dD (fun(p:bK Key×V)(q:bK Key×eh×cR)=>bfk) F O/\q0 (Hg (entryOfKey (U9 tM))) (c8 (Hg fN)))| .set r n=>h.SetOf (aA8 P w) a r n| .ins C dx G=>D (bh dx YR) (U8<=1000) (dx≠a) (bA a (U7 C dx)) (I j (agR dx j) (∀f,aJB) a9m)| .own _=>∃o,pT| .xd G=>z j (agR a j) (∀f,aJB)| .rng lo hi=>∃t u v,bA a (l6 "range" a7f)| .yw o u=>pT/\ox H h a u| .Kv c5=>bA a {cls:= .none,data:= .fields c5}| .met f x=>bA a (PySem.W.methodObj rF kR)| .ext i=>i h/\(∃o,pT)/\∀a3 a9:iO,i a3->ad o (be (a3.get? a)) (be (a9.get? a))->i a9
def BA(H:Hp)(h:Heap):Prop:=j a o Y4 (hd o)
universe z
section z
variable{P:Program}{w:World}{H L:Hp}{h h':Heap}{a:Addr}{o:HO}
theorem ox.lt(x:hd o):a<mG:=by revert x;revert P w H h a o;refine aa1;rw[n P w H h a o];intro x;cases o with|lst O=>{obtain⟨_,_,_,_,e⟩:=x;exact hh}|tup O=>{obtain⟨_,_,_,p⟩:=x;exact p.lt}|dK F=>{rw[bdA]}|dT F=>{rw[bdA]}|set r n=>{obtain⟨o,_,_,_,e,_⟩:=x;exact hh}|ins C dx G=>{obtain⟨_,_,_,e,_⟩:=x;exact hh}|own y=>{rw[se x];exact hh}|xd G=>{obtain⟨_,⟨_,_,_,e,_⟩,_⟩:=x;exact hh}|rng lo hi=>{obtain⟨_,_,_,e⟩:=x;exact hh}|yw N u=>{obtain⟨e,_⟩:=x;exact hh}|Kv c5=>{rw[bem]}|met f y=>{rw[bem]}|ext i=>obtain⟨_,⟨_,e⟩,_⟩:=x;exact hh
theorem Paired.aqG{I d:Type}{F G:qs}{c:ba}{e:nU}(h:dD F c e)(f:a'p):dD G c e:=by induction h with|nil=>{rw[kP]}|cons J t i=>rw[cE (f _ _ J) i]
theorem ox.qz(x:hd o)(k:lC (b=a\/fr YR) (zk b))(d0:E b (fr YR) (hI YR))(c6:aL_):ox P w L h' a o:=by induction o with|lst O=>{rw[vj x];exact a z ar n J xR}|tup O=>{rw[i z ar J N e c x (c z ar J N xR c)]}|dK F=>{rw[ht vs vs J]}|dT F=>{rw[ht O O (Paired.aqG J (fun p q z=>bcN))]}|set r n=>{rw[i N a7 e1 t e c x (c N a7 e1 t xR c)]}|ins C dx G=>{obtain⟨d,z,ne,e,j,⟨m,a7,e1,b9,c⟩,J⟩:=x;exact a (d0 _ d) z ne xR j (a m a7 e1 (aC (.inr d) b9) c) J}|own y=>{rw[cl N x];exact⟨N,xR⟩}|xd G=>{obtain⟨j,⟨m,a7,e1,e,c⟩,J⟩:=x;exact v j (a m a7 e1 xR c) J}|rng lo hi=>{obtain⟨t,u,v,e⟩:=x;exact d t u v xR}|yw N u d6=>{rw[d7 e x];exact⟨xR,d6 q⟩}|Kv c5=>{exact k a _ gn x}|met f y=>{exact k a _ gn x}|ext i=>obtain⟨p,⟨o,e⟩,st⟩:=x;exact v (st _ _ p (lK (aC gn q))) (nt xR) st
theorem BA.lt(x:lq)(e:Y4):a<mG:=(x a o e).lt
theorem BA.fresh(x:lq)(e:mG<=a):Y a:=by cases q:H a with|none=>{rfl}|some u=>rw[dT (fJ (x.lt q) e) (iP _)]
theorem BA.kept(x:lq)(k:ank):fs H h':=fun a o e=>(x a o e).qz (fun b u _ q=>Yd) aGy (iF q)
theorem BA.laid(x:lq)(k:ank)(c2:mG<=a)(a6:ox P w Qw h' a o):fs Qw h':=ss (by have d1:=x.fresh c2;rw[N U b a];{subst U;rw[a6 ak,dU];exact a6};{rw[a6 (bW U)];exact(x b u e).qz bd_ (fun c q=>QJ) (zJ QJ)})
universe z
def Rd(H:Hp)(a:Addr)(u:HO):Prop:=cy u\/∃o,cy alg
theorem Rd.ok{P:Program}{w:World}{H:Hp}{h:Heap}{a:Addr}{u:HO}(J:k1 u)(x:lq):hd u:=by rcases J with J|⟨o,J⟩;rw[l (x a u J)];{obtain⟨_,q⟩:=x a _ J;exact q}
def uX:cw (bY HO)|some (.lst _)=>gD|some (.dK _)=>gD|some (.dT _)=>gD|some (.set _ _)=>gD|some (.ins _ _ _)=>gD|some (.ext _)=>gD|_=>cE
section z
variable{P:Program}{w:World}{H:Hp}{h h':Heap}{x e:Addr}{g:HO}
theorem BA.write(ok:lq)(h8:aG7)(a0:aLJ)(k:lC (b≠e) (zk b))(a:aL8)(a6:ox P w (ad x g) h' x g):fs (ad x g) h':=qB (by have d:j c y (bh c (.own y)) (c≠x):=fun c y J z=>BJ J;rw[N U b x];{subst U;rw[cQ ak,kK];exact a6};{rw[cQ (bW U),N f b e];{rw[mt c4 (fr Ei)];rw[q]at c4;cases c4;obtain⟨v,d3⟩:=a;exact rI v};{refine(ok b u q).qz (fun c v b0 J=>k c v ?_ J) (fun c J=>Y (d c b J) J) (fun c O J=>Y ((fun c O J z=>BJ J) c O J) J);rw[de b0 b0,cX,cL]}})
universe z
structure Un(G ex:bg)(H L:Hp)(h h':Heap):Prop where
 keep:∀b o,c mh gu (b∉G) Y9 hc
 slot:∀b o,c mh gu (b∈G) Y9 baA
 free:f b o mh gu Y9 IX
 there:bd mh Y9 (aC g (gU b) g)
 Kw:aL_
 FZ:bhh
 Kx:bdS
section z
variable{G b ex d:bg}{H a8 b7:Hp}{h a3 a9 h':Heap}{a x e:Addr}{o:HO}
theorem Un.any(u:jB a8 a3){b:Addr}{N:Obj}(q:bA b N)(n:gu)(S:Y9):aC sl (a3.get? b) {N with slots:=sl}:=by by_cases U:b∈G;rw[l (u.slot b N q n U S),l ⟨N.slots,u.keep b N q n U S⟩]
theorem Un.kept(k:ank):jB H h':=a (Dm (k b N q)) (Dm ⟨N.slots,k b N q⟩) (fun _ _ _ n _=>n) (fun b N q _=>⟨N,k b N q⟩) (iF q) (fun _ _ _ q=>q) (fun _ c5 q=>o7 bB)
theorem Un.refl:jB H h:=agS (iF q)
theorem Un.laid(k:ank)(c2:mG<=a)(d1:Y a):jB Qw h' where keep:=wq Yd;slot:=a89;free:=HN (hi (fw q) c2);there:=bdr;Kw:=xa QJ;FZ:=yv QJ;Kx:=Gg (fq q d1)
theorem Un.write(h8:aG7)(a0:aLJ)(k:lC (b≠e) (zk b))(a:aL8):jB (ad x o) h':=by have S:E b gu (b≠x):=fun b n z=>BJ n;have U:E b gu (b≠e):=fun b n z=>ai;have c4:l b u (fr u) (¬uX (aa u)) (b≠x):=fun b u q d1 z=>ai;rw[j (Kt bdG) (Kt ⟨a1e,bdG⟩) (HN (S b n)) (fun b u q _=>?_) (v (xa (Y aMg q)) (yv (Y aMg q)) (Gg aMg)),N f b e,l IV,a_]
universe z
noncomputable def trk(h:Heap)(H:Hp):bg:=dC mG (fu (dk (H a)))
noncomputable def ac3(h:Heap)(H:Hp):iO:=PySem.W.hideAll h (trk h H)
theorem aND(h:Heap)(H:Hp):f2 anM=mG:=PySem.W.hideAll_size _ _
theorem aNE{h:Heap}{H:Hp}{b:Addr}{o:Obj}(e:mh)(n:gu):iL anM:=PySem.W.hideAll_get _ e (fun c4=>by rw[cN (vP c4).2,cQ n];simp at q)
theorem aNF{h:Heap}{H:Hp}{b:Addr}{o:Obj}(e:iL anM):mh/\gu:=by have d3:=PySem.W.of_hideAll (trk h H) e;rw[dI d3];cases q:H b with|none=>{rfl}|some x=>have z:dk anM b=ae:=PySem.W.hideAll_none (trk h H) (U_ ⟨a1f (fw d3),x AB⟩);rw[a6 z,dU]
universe L2
namespace L2
open PySem PySem.Spec PyProof.Rows
structure Mod(K:PySem.W.Frag)(mg:dN)(base:Heap):Prop where
 kin:vQ aj
 glob:alL
 blt:z D (a1g aA9 D) bgq
 nolimit:base.NoLimit
structure Cx where
 prog:Mi
 w:oP
 K:U0
 mg:dN
 base:iO
 A:Around
 N:cW
 F0:vM
 Ky:Hp
 env:Env
 outer:kf
 stack:kf
 ex:bg
 fn:Str->cb
 calm:cb
 pn:bw
 xe:aU
instance nX:eJ Cx:=⟨a Mm Classical.ofNonempty [] uB Mm {} [] {} (a uB Mm [] [] [] (as ab) ab [] AF)⟩
noncomputable def uY(l:kf):bg:=Ml (·.frame)
noncomputable abbrev Cx.fs(X:Cx):bg:=uY Mw
def Vis(a:Scope)(x:Str):Prop:=ld (vR x)\/j5 (vR x)\/iI (vR x)
def Loc(a:Scope)(x:Str):Prop:=a9T
def Look(env:Env)(h:Heap)(m:dN)(x:Str)(u:Value):Prop:=(ld (agT x)/\eB (m x))\/((j5 (agT x)\/iI (agT x))/\z c (aA_ x=aa c) (h.IsCell c (aa u)))
structure Cx.Ok(X:Cx):Prop where
 mod:bco
 kind:sH aBc
 glob:a1i=CN
 blt:X.env.builtins=aA9
 above:Hh<=oR
 inj:∀x y c,aFU->amZ->x=y
 has:E x (j5 (aBb x)\/iI (aBb x)) (aC c (Va x) c)
 cab:l x c (aBa x=ab) aFU (Hh<=c)
 hd:fR->X.A.handled=ae
 frames:X.A.frames=aa oS
 stk:oS=Mw\/(oS=cF::Mw/\X.env.frame=aa oR)
 exf:bG CM (X6/\sd b)
 bs:s_ (be (aA' b)/\X.Ky b=ae)
 R1:X.base.objs.size<=Hh
 aNI:s_ (b∉CM)
 R3:bG CM amG
 uZ:a1h sS Mw
 F1:bG vS (X.Ky b=ae)
structure Inv(X:Cx)(pins:bw)(M:bK jQ)(H:Hp)(s:Shared):Prop where
 ok:X.Ok
 os:CO=X.F0.os
 bare:Hi sT
 base:Un vS CM X.Ky H X.F0.heap bh
 loc:z m a9' (∀(i:Nat)(x:Str)(v:V),i ye anE aor (z u jl (Look cF bh m x u)))
 cell:r4 (∃v,a1j c v)
 free:Y oR
 bjh:r4 (Y c)
 pin:v2 bhU
 dt:ik H bh
 len:Vb=X.N.length
section z
variable{X:Cx}{pins:bw}{M:bK jQ}{H L:Hp}{s:Shared}{h':Heap}
theorem Cx.Ok.aNJ(ok:X.Ok){b:Addr}{o:Obj}(e:be (a1k b)):amG:=fun U=>by have:=(ok.uZ.mem U).1;rw[am e,ny]
theorem Inv.bs(I:aZ):s_ (ha/\gu):=db ⟨a1l b o (apv).1 (apv).2 (I.ok.aNJ e) (aBd b o e),agU b o (apv).1 (apv).2 (aBd b o e)⟩
theorem Inv.bk(I:aZ):s_ ha:=db (I.bs b o e).1
theorem Inv.mod(I:aZ):bco:=aBe
theorem Inv.Kz(I:aZ):X.K.In bh:=I.ok.mod.kin.keeps I.bk
theorem Inv.lt(I:aZ):oR<aO:=let⟨_,d1,_⟩:=vT;d1.lt
theorem Inv.sz(I:aZ):Hh<=aO:=cn Mx (ey I.lt)
theorem Inv.aNK(I:aZ){a:Addr}(h:aO<=a):a∉vS:=fun U=>by rw[bcq];exact iH (fJ PZ (cn I.sz h))
theorem Inv.cne(I:aZ):sd oR:=fun x c e z=>by rw[bgh];obtain⟨m,⟨g,a7,e1,l,p,_⟩,_⟩:=vT;rw[b4 l d0];cases d0;rw[p]at hd;cases hd
theorem Inv.uZ(I:aZ):agV sS Mw:=by have all:∀(l:kf),V b (uY l) (b∈vS)->a1h sS l->agV sS l:=by{rw[rL];induction l with|nil=>{intro _ _;trivial}|cons env J d6=>intro c0 a5;obtain⟨c3,⟨Z,o,W,d1,d0,hd⟩,a6⟩:=a5;rw[fI (o1 Z fx),cl sl (a1m Z o d0 (I.ok.F1 Z f) f (J (I.ok.R3 Z z f)))];exact v c3 (c Z _ W d1 e hd) (d6 (dc (o1 b (ck U))) a6)};exact all Mw (fun _ U=>U) I.ok.uZ
theorem Inv.stack(I:aZ):agV sS oS:=by rw[be1,Z e I.uZ];{rw[e];obtain⟨m,d1,_⟩:=vT;refine .cons (by rw[sU];decide) W d1 (Heap.get?_none_of_le (cn agW Mx)) I.uZ}
theorem Inv.aNL(I:aZ):fZ (uY oS) (oR::vS):=dc (by rw[be1,ay];{rw[e]at U;delta uY at U;rw[Hj,W]at U;exact U})
theorem Inv.aqJ(I:aZ):bG (uY oS) gu:=dc (by rw[i8 (zd U) U,Z e Hk];{rw[bcq];exact agU b o d0 (I.ok.F1 b U) (J (I.ok.R3 b z U))})
theorem Inv.step{g':fv Vd}{t':Nat}{d':Drawn}{ch:bg}(I:aZ)(h:aMD)(keep:qz amG hc)(slot:qz (b∈vS) baA)(free:f b o Je ha gu IX)(there:bd Je ha (aC g (gU b) g))(Kw:aL_)(FZ:bhh)(Kx:bdS)(ns:E m a9' (h'.Ns oR m))(dt:ik L h')(d8:Hi g'):bg5:=by have p3:hy (aA' b) X6:=db (hi hh Mx);have r:bd (be (aA' b)) (b∉CM) Je:=fun b o e S U=>by{rw[cY (QU).1,cX,cF (fJ hh z) (iP _)]};have t:r4 (E v (a1j c v) (h'.IsCell c v)):=fun x c e v e0=>by{rw[bK d0 hd e0];have j:=bhQ;by_cases b0:c∈vS;{rw[d7 sl (jw c o (I.cne x c e) b0 j d0 aJd)];exact aw q hd};rw[l (v o (eo c o (I.cne x c e) b0 j d0 aJd) hd)]};rw[b Vc agX d8 (a alr alr (fun b o e n S=>?_) (fun b o e S=>?_) (w6 (Kw b O (a1p b O e))) (fun b o O e=>FZ b o O (a1o b o O e)) (fun b c5 e=>?_)) ?_ a83 ?_ a83 (v uh dt Hl),l (eo b o (p3 b o e) U apQ aMK aL6)];{obtain⟨sl,b4⟩:=a71;rw[eK f (jw b _ (p3 b o e) U apQ b4 aL6)];exact⟨f,b9⟩};{rw[kt b4 aGQ];exact free b g apQ b4 aL6};{rw[kt b4 aGQ];exact there b g apQ b4};{obtain⟨g9,b4⟩:=a1n b c5 e;rw[eK e1 (Kx b _ b4)];exact⟨g9++e1,ag⟩};{rw[aoi,aa m (ns m d1) (fun i x v b4 b9 e7=>?_),fJ b4 b9 e7,ak u J];rcases l with l|⟨k,c,e,z⟩;rw[dR l,co (d k c e (t x c e _ z))]};rw[T v z aGu v (t x c e v z)];{obtain⟨m,⟨o,_,_,d0,_⟩,_⟩:=vT;exact free _ o (us (h _ z)) d0 Hk};{rw[bgh];exact free c o bhQ d0 aJd};{rw[aMR];have j:=J ((h p.1 z).2.2.2 p c2 rfl);exact a (eo p.1 p.2 ne w j e n) (free p.1 p.2 j e n) ne w d}
theorem Inv.un{t':Nat}(I:aZ)(u:Un vS [] H L bh h')(dt:ik L h'):aR L uJ:=rl jN (My (g':=sT) (d':=zm) (ch:=[]) (sT (nomatch z)) (G3 (u.keep b o e n U bB)) (G3 (u.slot b o e n U bB)) (fun b o _ e n=>u.free b o e n bB) (fun b o _ e=>u.there b o e bB) u.Kw u.FZ u.Kx biS dt zl)
theorem Inv.call{g':fv Vd}{t':Nat}{d':Drawn}{ch:bg}(I:aZ)(u:FY h')(dt:ik L h')(d8:Hi g')(h:aMD):bg5:=rl (us (h _ z)) (My (ch:=ch) h (fun b o f U b0 e n=>u.keep b o e n (J (cb (zd z) f U)) b0) (fun b o _ _ b0 e n=>u.any e n b0) (fun b o b0 e n=>u.free b o e n b0) (s1 (u.there b o e b0)) u.Kw u.FZ u.Kx biS dt d8)
theorem Inv.turned{t':Nat}{it:Addr}(I:aZ)(k:bd (b≠it) ha hc)(d1:Y it)(f:it≠oR)(a3:it∈CM\/Hh<=it)(a9:sd it)(e2:v2 (p.1≠it)):aR H uJ:=by rw[nX (b≠it) ai];refine My (g':=sT) (d':=zm) (ch:=[it]) ua (si aH0) (yw aH0) a_O (s1 (nt aH0)) (sU e) a'x a9v aob aH8 zl;{rw[en]};rw[Cv (hx f),bh5]
theorem Inv.tok(I:aZ)(t:Nat):aR H (oP t):=I.un (h':=bh) (t':=t) Un.refl er
theorem Inv.kept{t':Nat}(I:aZ)(k:ZE):aR H uJ:=I.un (agS k) (I.dt.kept k)
theorem Inv.laid{a:Addr}{o:HO}{t':Nat}(I:aZ)(k:ZE)(c2:aO<=a)(a6:cE Qw a o):aR Qw uJ:=I.un (Un.laid k c2 (zo c2)) (I.dt.laid k c2 a6)
theorem Inv.write{x e:Addr}{o:HO}{t':Nat}(I:aZ)(h8:aG7)(a0:aLJ)(k:lC (b≠e) (Hm b))(a:aL8)(a6:cE (ad x o) x o):aR (ad x o) uJ:=I.un (Un.write h8 a0 k a) (I.dt.write h8 a0 k a a6)
theorem Inv.weak{g0:bK jQ}(I:aZ)(a5:g0.length=Vb)(w:bk i v (A g0 pJ->anE)):Inv X aI g0 H s:=gG (let⟨m,d1,h1⟩:=vT;v m d1 (fun i x v b4 b9 e7=>h1 i x v b4 (w i v b9) e7)) Mz (a5.trans Hl)
theorem Inv.aqK{a:bw}(I:aZ)(h:cA a bhU):Inv X a M H s:=gG vT (gW (oC (vU _ z) (h p))) Hl
theorem ac6{N:cW}(hN:N.Nodup){i j:Nat}{x:Str}(a:fh N)(b:aa N x):i=j:=bgW
theorem aqL{d5:Model}{A:Around}{E:aU}{i:Nat}{x:Str}{v:V}{u:Value}{Q:Qg}(I:aZ)(hN:X.N.Nodup)(hi:ye)(S:Ka)(J:jl)(h:o c1 bcU (z a (Hn a bh mH) (a=oR\/Va x=aa a)) (Q () c1))(W:Kj):a'7:=by rw[bY d1 a5 (id vT),bN Y (aBc== .class||(aBc== .module&&oR !=a1i)) ah sU,z G (i<Vb) Hl (bx hi),fI I.cne];have K:∀{a:Addr}{h':Heap},(z o (gK a) (Y a))->pg a->ik H h':=fun{a h'}b3 c0 b N e=>by{obtain⟨_,_,L⟩:=b3;refine(er b N e).qz (fun c c5 b0 q=>ac c0 c ?_ q) aGy (iF q);rintro rfl;rw[de b0 b0,ay,ay]};rw[f5 c3 c3];{refine wpAny_storeName_local c3 d1 (fun h' j2 c0=>?_) Y;obtain⟨Z,_,_,l,_⟩:=id d1;refine h _ (be (aw j2 a91) aIl Z l Hk) (aw c0 gn);rw[l (kq Mx aMK),Hr Mx,Hq Mx];{rw[N b8 j i];{subst b8;rw[hi]at b4;cases b4;rw[MA G]at b9;rw[a4 b9 (v u J (ds c3 (x cO)))]};{rw[Ve (hx b8)]at b9;rw[aJ F B (a5 j y t b4 b9 e7),ak F B];rcases q with⟨k,e⟩|⟨k,c,e,z⟩;{refine .inl (aw k);have:QI:=an (b8 (ac6 hN b4 (e▸hi)));simp[this,e]};rw[co (d k c e bct)]}};rw[T c5 z (CP y c e) c5 bct];{rw[aMR];exact a (ac c0 p.1 ne e) n ne w d}};{rw[cb r (aBa x=ab),db b0 (aBf x (.inl c3))];obtain⟨c5,z⟩:=CP x c b0;refine wpAny_storeName_cell sU c3 b0 z (fun h' O c0=>?_);obtain⟨D,P,a0⟩:=id z;refine h tJ (be (v m (d1.sameBut c0 (hx (f x c b0))) a91) (fun y C e=>?_) D P (MB x c b0)) (v c c0 (.inr b0));rw[l (kq aMh aMK),Hr aMh,Hq aMh];{rw[N b8 j i];{subst b8;rw[hi]at b4;cases b4;rw[MA G]at b9;rw[a4 b9 (v u J (bj (.inl c3) c b0 O))]};{rw[Ve (hx b8)]at b9;rw[aJ F B (a5 j y t b4 b9 e7),ak F B];rcases q with q|⟨k,C,e,d3⟩;rw[dR q];{refine bj k C e (d3.sameBut c0 ?_);rintro rfl;exact b8 (ac6 hN b4 (I.ok.inj _ _ _ e b0▸hi))}}};{rw[N R C c];{subst R;exact aW O};rw[T T h6 (CP y C e) T (h6.sameBut c0 R)]};{rw[aMR,j (ac c0 p.1 ?_ e) n ne w d,fT];rw[q,P]at e;have c4:D=p.2:=cZ e;exact d c5 (bl c4 a0)}}
theorem ac7{d5:Model}{A:Around}{E:aU}{i:Nat}{x:Str}{v:V}{u:Value}{Q:Qg}(I:aZ)(hN:X.N.Nodup)(hi:ye)(S:Ka)(J:jl)(h:i5 bcU ())(W:Kj):a'7:=aqL I hN hi S J (fun c1 K _=>h c1 K) W
theorem Inv.aNM{c1:Shared}{ch:bg}(I:aZ)(d0:Vg=CO)(u:FY mH)(dt:ik L mH)(d8:Hi Vf)(h:aMD):Bm:=by obtain⟨h',g',d',t',g⟩:=c1;rw[xV];exact I.call (g':=g') (t':=t') (d':=d') u dt d8 h
universe z
abbrev XK:=be cR nk Hp
abbrev St:=bK jQ
abbrev VK:=er V
abbrev TE:=mn St
abbrev TT:=ts AQ
abbrev TA:=ts (er af)
structure Ends where
 nx:pR
 rt:VK
 bk:pR:=JG
 ct:pR:=JG
instance nN:eJ Ends:=⟨d AF AF AF AF⟩
abbrev TS:=be Ends St Hp
noncomputable abbrev Ends.sq(D:Ends)(u:TS):Ends:=d (u D) D.rt D.bk D.ct
noncomputable abbrev Ends.lp(D:Ends)(N:pR):Ends:=d N D.rt mI N
inductive EP(X:Cx)(pins:bw)(M:St)(Q:VK)(u:Value)(c1:Shared):Prop|mk:f v L Bm jl (Q v L) (f3 u c1)
def TP(X:Cx)(pins:bw)(M:St)(Q:AQ)(b:Bool)(c1:Shared):Prop:=z L Bm (Q b L)
inductive AP(X:Cx)(pins:bw)(M:St)(Q:er af)(b1:aM)(c1:Shared):Prop|mk:f vs L Bm Fn (Q vs L) (AP X aI M Q b1 c1)
def SP(X:Cx)(pins:bw)(D:Ends)(f:Flow)(c1:Shared):Prop:=match f with| .next=>pq (mI g0 L)| .brk=>pq (D.bk g0 L)| .cont=>pq (D.ct g0 L)| .ret u=>∃v g0 L,aFZ/\jl/\D.rt v L
def PE(X:Cx)(e:Expr)(t:TE):Prop:=∀⦃pins:bw⦄(s:Shared)(M:St)(H:Hp)(Q:VK),aZ->Pn->dj tH IW
def PT(X:Cx)(e:Expr)(t:TT):Prop:=FX (agY e cF tH)
def PW(X:Cx)(e:Expr)(t:TT):Prop:=∀(c:X0)(pins:bw)(s:Shared)(M:St)(H:Hp)(Q:AQ),cw Pn (agY e cF c) aGR
theorem PW.pt{X:Cx}{e:Expr}{t:TT}(h:PW X e t):PT X e t:=h _
def PA(X:Cx)(a7:fE)(t:TA):Prop:=∀⦃pos:Pos⦄(pins:bw)(s:Shared)(M:St)(H:Hp)(Q:er af),cw Pn (spliced (aBg pos (MC a7 cF))) (AP X aI M Q)
def PS(X:Cx)(st:Stmt)(t:TS):Prop:=Ib (exec st cF)
def qA(X:Cx)(st:uj)(t:TS):Prop:=Ib (execs st cF)
theorem ft{I:Type}{t:Sem I}{Q h4:dE I}{d5:Model}{A:Around}{E:aU}{s:Shared}(h:pi t)(g:bdj):a'O:=lz h g
universe L2
namespace L2
open PySem PySem.Spec PyProof.Rows
section z
variable{X:Cx}
def hr(i:Nat):TE:=hs (match M[i]? with|some (some v)=>AO|_=>cE)
theorem hr.out{i:Nat}{M:St}{H:Hp}{Q:VK}(h:hr i M H Q):z v anE AO:=lL hr (aw bF h)
theorem hr.mk{i:Nat}{M:St}{H:Hp}{Q:VK}{v:V}(e:anE)(h:AO):hr i M H Q:=by delta hr;rw[e];exact h
def tC(v:V):TE:=l1 AO
theorem aNN{i:Nat}{x:Str}{pos:Pos}(hN:ye)(d3:aor)(hd:mj)(S:a8m):M (gT pos) (hr i):=by rw[fz,dp e h Vh,aoi,fJ hN e d3];have fin:f3 u s:=a v H I J h;rw[bh_,l (aBh (a1r sU c3 d1 c4 fin) hd)];{rw[bcm,l (aBh (a1q sU c3 b0 a fin) hd),l (aBh (wpAny_loadName_free sU c3 b0 a fin S) hd)]}
theorem bD{i j pos}:oR hT hT:=qW (wpAny_Constant_int (a hT H ry ek h))
theorem mq{b j pos}:oR Ja EZ:=qW (Constant_bool (eZ b h))
theorem cu{j pos}:M (.Constant .none j pos) (tC .bC):=qW (Constant_none (m .bC H I h))
def Gl(X:Cx)(x:Str):Prop:=aBb x=aa .globalImplicit
theorem aqM{E:aU}{pins:bw}{s:Shared}{M:St}{H:Hp}{x:Str}{u:Value}{pos:Pos}{Q:aU}(I:aZ)(d8:qo)(c4:eB (mJ x))(h:Q u s)(hd:mj):a8C:=a1s sU d8 (Calls.loadGlobal_global a_L c4 h) hd
theorem F2{E:aU}{pins:bw}{s:Shared}{M:St}{H:Hp}{x:Str}{u:Value}{pos:Pos}{Q:aU}(I:aZ)(d8:qo)(c4:ge x)(d3:eB (vV x))(h:Q u s)(d1:aHC)(hd:mj):a8C:=aL D a3 a9 I.mod.blt (a1s sU d8 (Calls.loadGlobal_builtin a_L c4 (t I.ok.blt (a3.keeps I.bk)) (L (a9 x d1) d3) h) hd)
theorem aqN{x:Str}{v:V}{u:Value}{pos:Pos}(d8:qo)(c4:eB (mJ x))(J:jl)(hd:mj):M (gT pos) (tC v):=qW (aqM I d8 c4 (a v H I J h) hd)
variable{a b:Expr}{d6 c3:TE}{pos:Pos}
def PC(X:Cx)(j:CmpOp)(a b:Expr)(t:TE):Prop:=∀⦃pins:bw⦄(s:Shared)(M:St)(H:Hp)(Q:VK),cw Pn (e1 a) (pA (MD j v u) IW)
def jB(Q:AQ)(x:V)(H:Hp):Prop:=match x with| .bl c=>Q c H|_=>cE
theorem jB.out{Q:AQ}{x:V}{H:Hp}(h:jB Q x H):z c (x= .bl c) (Q c H):=lL jB (dl h)
def tB(t:TE):TT:=jS (jB Q)
theorem BB{j:CmpOp}{t:TE}(h:PC X j a b t)(a3:ez YA auk._auto_1):PT X alW (tB t):=by rw[nl hw];refine a1t (zz (fun v a4 a3=>ft a3 (fun u b5 a9=>ft a9 aGr))) a3;rw[jF x,aJ d rfl d2.out,bbv]
theorem u_{e:Expr}{t:TE}(h:M e t)(a0:ez (∀c,agY e cF c=(do{let v<-c;standAt e.pos;holding [v] (truthy v)})) agZ):PT X e (tB t):=by rw[nl hw];refine aBi (zz (fun v a4 e0=>?_)) (a0 _);rw[r x a8 r r1 d2,aJ d rfl d2.out,bbv]
variable{g e:TT}{m:fE}
def aNO(t u:TT):TT:=mK (u M a8 Q) (Q ah a8)
def tOr(t u:TT):TT:=mK (Q ab a8) (u M a8 Q)
def aqO(t:TT):TT:=jS (fun c a8=>Q (! c) a8)
theorem aNQ(b3:ZC):mF [a] g:=by intro d aI s M H Q I h;refine isTrue_and bej;rw[dZ c (isTrue_and_nil e) e]
theorem aqP(b3:ZC):mG [a] g:=by intro d aI s M H Q I h;refine isTrue_or bej;cases c with|false=>{exact isTrue_or_nil e}|true=>exact e
theorem aNR(b3:ZC)(U:mF (b::m) e):mF (a::b::m) (aNO g e):=by intro d aI s M H Q I h;refine isTrue_and (bU b3 (fun c a4 P=>?_));rw[ci a8 r P,dZ c bim (v a8 r d2)]
theorem ac8(b3:ZC)(U:mG (b::m) e):mG (a::b::m) (tOr g e):=by intro d aI s M H Q I h;refine isTrue_or (bU b3 (fun c a4⟨a8,r,d2⟩=>?_));cases c with|true=>{trivial}|false=>exact bim
theorem ac9(b3:ZC):PT X (.UnaryOp .Not a pos) (aqO g):=nM (isTrue_not (@b3 aI s M H (fun c a8=>Q (! c) a8) I h))
def aNS(d6 c3:TE):TE:=qC (z c (x= .bl c) (Z c (c3 M a8 Q) (Q (.bl ah) a8)))
theorem R4{j}{t:TE}(h:M a t):M (iL j [a]) t:=DI (BoolOp_one (@h aI s M H Q I hw))
theorem BC(b3:fV)(U:M (iL .And (b::m)) c3):M (iL .And (a::b::m)) (aNS d6 c3):=by rw[fz];refine BoolOp_and (lO b3);rw[jF x,ci c rfl d2];cases r1;refine vW ?_;rw[dZ c (jH U Q) (bi ah a8 r d2)]
def tIf(t:TT)(d6 c3:TE):TE:=mK (d6 M a8 Q) (c3 M a8 Q)
theorem R5{c:Expr}(b0:PT X c g)(b3:fV)(U:lr):M (.IfExp c a b pos) (tIf g d6 c3):=by rw[fz];refine wpAny_IfExp a'o;rw[ci a8 r P,dZ d (jH b3 Q) (jH U Q)]
universe z
universe L2
namespace L2
open PySem PySem.Spec PyProof.Rows
def fW(K:PySem.W.Frag)(H:Hp)(a:Addr)(O:af):Prop:=k1 (.lst O)\/n5 Ak (o.dict=ae/\gE=jy ar/\a1 MF/\iQ O ME)
def va(K:PySem.W.Frag)(H:Hp)(a:Addr)(O:af):Prop:=k1 tO\/beV
noncomputable def aNU:cR->jQ| .none=>al2| .bool b=>aa EZ| .int i _=>aa hT| .str x _=>aa Jv| .bytes b _=>aa (.iF b)| .float b _=>aa (.R0 b)| .ref a=>kN| .type n=>aa (.ty n)|_=>ae
theorem RelV.abs{x:V}{u:Value}(J:pS):aNU u=aa x:=by cases x with|bC=>{rw[Fs]}|bl _=>{rw[Fs]}|int _=>{rw[Qp]}|str _=>{rw[Qp]}|iF _=>{rw[Qp]}|R0 _=>{rw[Qp]}|ref _=>{rw[Fs]}|ty _=>rw[hQ];rfl
theorem RelV.inj{x y:V}{u:Value}(J:pS)(q:lh):x=y:=cZ (J.abs.symm.trans q.abs)
theorem Vals.inj{O d7:af}{b1:aM}(h:oa)(k:eC d7):O=d7:=by induction h generalizing d7 with|nil=>{cases k;rfl}|cons J t d6=>cases k with|cons B t'=>rw[J.inj B,d6 t']
section z
variable{X:Cx}{pins:bw}{M:St}{H:Hp}{s:Shared}{a:Addr}{O d7:af}
theorem fW.of{K:PySem.W.Frag}(h:am a O):jk:= .inl AI
theorem va.of{K:PySem.W.Frag}(h:cy tO):uN:= .inl AI
theorem Inv.list(I:aZ)(h:a9M):Fa (PlainL bh a eT):=by rcases h with h|⟨o,ar,n,c3,b0,hd,c0,c9,J⟩;{rw[vj (h.ok er)];exact d ar J (m _ n e xJ) z};{rw[b2 ME J (c o n (vY a o c3) b0 hd eO),c7 vX];simp only[Vi]at e;exact IV}
theorem Inv.tuple(I:aZ)(h:a9K):Fa (Mv bh a eT):=by rcases h with h|⟨o,ar,n,c3,b0,c0,c9,J⟩;{obtain⟨z,ar,J,p⟩:=h.ok er;exact d ar J p z};{rw[b2 ME J (a o (vY a o c3) b0 n eO),c7 vX];simp only[Vi]at e;exact IV}
theorem Inv.ac_(I:aZ)(h:a9M)(h':fW X.K H a d7):O=d7:=by obtain⟨ar,J,⟨o,n,e,_,_,d⟩,_⟩:=sV h;obtain⟨its',B,⟨g,C,d3,_,_,d'⟩,_⟩:=sV h';rw[Zj];cases d3;rw[d]at d';rw[a'C];have:ar=MG:=ai;rw[gq];exact J.inj B
theorem Inv.aNV(I:aZ)(h:a9K)(h':va X.K H a d7):O=d7:=by obtain⟨ar,J,⟨o,e,_,n,d⟩,_⟩:=CQ h;obtain⟨its',B,⟨g,d3,_,C,d'⟩,_⟩:=CQ h';rw[Zj];cases d3;rw[d]at d';rw[a'C];have:ar=MG:=ai;rw[gq];exact J.inj B
universe z
noncomputable abbrev Cx.R6(X:Cx)(E:aU):Cx:={X with xe:=E}
noncomputable abbrev Cx.KA(X:Cx):Cx:=Vj JG
theorem Cx.Ok.R6{X:Cx}(ok:X.Ok)(E:aU):(Vj E).Ok:=biW
theorem Cx.Ok.F3{X:Cx}{E:aU}(ok:(Vj E).Ok):X.Ok:=biW
section z
variable{X:Cx}{pins:bw}{M:St}{H:Hp}{s:Shared}{E:aU}
theorem Inv.R6(I:aZ)(E:aU):bgF:=KM (I.ok.R6 E)
theorem Inv.F3(I:bgF):aZ:=KM I.ok.F3
theorem SP.F3{D:Ends}{f:Flow}{c1:Shared}(h:SP (Vj E) aI D f c1):SP X aI D f c1:=by cases f with|next=>{rw[aM3]}|brk=>{rw[aM3]}|cont=>{rw[aM3]}|ret u=>rw[i v g0 L I J q h (c v g0 L I.F3 J q)]
theorem qA.KA{st:uj}{t:TS}(h:qA X.KA st t):qA X st t:=fun aI s M H D I hw=>oB (@h aI s M H D (I.R6 _) hw) (iF q.F3)
universe z
section z
variable{X:Cx}{st:Stmt}{m:uj}{t u:TS}{e:Expr}{b8:TE}{pos:Pos}
def ac':TS:=f0 OJ
def BD(t u:TS):TS:=f0 (t (D.sq u) M H)
theorem BE:qA X [] ac':=Dh (ag0 aJn)
theorem R7(a3:PS X st t)(a9:qA X m u):qA X (st::m) (BD t u):=by rw[la];refine a1u (fg a3 (D.sq u) a'N);cases f with|next=>{obtain⟨g0,L,K,q⟩:=q;exact@a9 aI a4 g0 L D K q}|ret v=>{exact q}|brk=>{exact q}|cont=>exact q
theorem fG(a3:PS X st t):qA X [st] t:=by rw[la];refine a1u (fg a3 D a'N);cases f with|next=>{exact ag0 q}|ret v=>{exact q}|brk=>{exact q}|cont=>exact q
def aNW:TS:=f0 (D.ct M H)
theorem aNX:PS X (.Continue pos) aNW:=Dh (wpAny_Continue aJn)
theorem Inv.quiet{pins:bw}{M:St}{H:Hp}{s:Shared}(I:aZ):a1v cF=ah:=eN a1v sU
def R8(b8:TE):TS:=f0 (op (fun _ a8=>mI M a8))
theorem yy(a0:rV)(c0:wj (MH e ae MI cF)):PS X (.Expr e pos) (R8 b8):=by rw[la];exact wpAny_Expr_any (jt a0 (d M a8 r d2)) I.quiet c0
def R9(b8:TE):TS:=f0 (op D.rt)
theorem aNY(a0:rV):PS X (.Return rH pos) (R9 b8):=by rw[la];exact wpAny_Return_some (jt a0 (c x M a8 r r1 d2))
def R_(c:TT)(t u:TS):TS:=f0 (mH (t D M a8) (u D M a8))
theorem sg{c:Expr}{a b:uj}{i:TT}(b0:PT X c i)(b3:qA X a t)(U:qA X b u):PS X (.If c a b pos) (R_ i t u):=by rw[la];refine wpAny_If a'o;rw[ci a8 r P,dZ d (jH b3 D) (jH U D)]
universe z
abbrev TG:=aa V St Hp (pR)
abbrev yz:=aa af St Hp (pR)
def PG(X:Cx)(a:Expr)(t:TG):Prop:=∀⦃pins:bw⦄(s:Shared)(M:St)(H:Hp)(v:V)(u:Value)(Q:pR),gi jl v (Vk a cF u)
def KC(X:Cx)(g:fE)(t:yz):Prop:=∀⦃pins:bw⦄(s:Shared)(M:St)(H:Hp)(vs:af)(b1:aM)(Q:pR),gi Fn vs (assignInOrder (cF (ag1 g cF)) b1)
abbrev KD:=c V V V Hp (cw (jf))
def ada(X:Cx)(t:KD):Prop:=∀(pins:bw)(s:Shared)(M:St)(H:Hp)(o i v:V)(ov c u:Value)(Q:jf),j aZ (gS o ov) (gS i c) jl (t o i v H Q) (dj (a1w ov c u) (fun _ c1=>z L Bm (Q L)))
abbrev F4:=Fw
def PIp(X:Cx)(j:Operator)(t:F4):Prop:=∀(pins:bw)(s:Shared)(M:St)(H:Hp)(x y:V)(v u:Value)(Q:VK),bG t_ lh (t x y H Q) (aBj j v u)
section z
variable{X:Cx}{pos:Pos}
def KG(i:Nat):TG:=fun v M H Q=>Q (aBk i pJ) H
theorem aNZ{i:Nat}{x:Str}(hN:X.N.Nodup)(hi:ye)(S:Ka)(W:Kj):a'D:=by rw[iF v u];exact a1x (ac7 I hN hi S J (fun c1 K=>as H K h) W)
def aN6:yz:=fun vs M H Q=>match vs with|[]=>Q M H|_=>cE
def aN7(t:TG)(u:yz):yz:=fun vs M H Q=>match vs with|v::J=>t v M H (fun g0 L=>u J g0 L Q)|[]=>cE
theorem aqQ:KC X [] aN6:=by rw[Zx];cases J with|nil=>{exact assignInOrder_nil aJn}|cons=>exact Ho
theorem KH{e:Expr}{a7:fE}{t:TG}{u:yz}(a3:PG X e t)(a9:KC X a7 u)(c0:ch (cF (ag1 rp cF)=Vk e cF::cF aGa)):KC X rp (aN7 t u):=by rw[Zx];cases J with|nil=>{exact Ho}|cons J C=>rw[c0];refine assignInOrder_cons (ft (@a3 aI s M H _ _ _ I J h) (fun _ a4 e0=>by obtain⟨d,a8,r,d2⟩:=e0;exact@a9 aI a4 d a8 _ _ Q r C d2))
inductive aqR(K:PySem.W.Frag)(n:Nat)(t:yz)(v:V)(M:St)(H:Hp)(Q:pR):Prop|mk:∀a O,b v bc uN (bx=n) (t O M H Q) (aqR K n t v M H Q)
theorem aN8{a7:fE}{k:Nat}{t:yz}{n:Nat}(b0:fR)(h:KC X a7 t)(d1:a_Z)(z:a'e):G2 X.K:=by intro aI s M H v u Q I J hw;obtain⟨a,O,b4,e0,a5,hw⟩:=hw;rw[Ju,hQ,a1 rv c6 I3];refine assign_Tuple_tuple iz c6 (by simp[d1,<-a5,CS]) z (fun h' S=>?_);exact@h aI _ M H O _ Q (MJ (t':=dE) (db (S b o (gF hh) e))) ag hw
def aN9(C ti:TE)(t:KD):TG:=fun v M H Q=>Ho (t o i v b7 (fun d4=>Q M d4))
theorem aN_{o i:Expr}{C ti:TE}{t:KD}(d0:am7)(hi:M i ti)(c0:ada X t)(b3:ez (∀v,Vk (e3 o i) cF v=(do{let ov<-holding [v] (eval o X.env);let c<-holding [v,ov] (eval i X.env);standAt pos;holding [v,ov,c] (setItem ov c v);release [v,ov,c] []})) agZ):PG X (e3 o i) (aN9 C ti t):=by rw[iF v u];rw[b3];rw[C (vZ (bU d0 (fun ov a4 e0=>by rw[r x a8 r r1 d2];exact bE (vZ (on y (bE (aBl (bE (vZ (ft (@c0 aI b5 M b7 x y v ov c u _ Y r1 r2 J q2) (fun _ c8 e0=>aL d4 O q3 e0 (wpAny_release (d M d4 O q3)))))))))))))]
def ade(b8:TE)(g:TG):TS:=f0 (op (jJ (g x M a8 mI)))
theorem aN'{c7 e:Expr}{b8:TE}{g:TG}(a0:rV)(d8:aKz)(c0:wj (swapsWithSole [c7] e MI cF))(hw:ch (swappedStores [c7] e cF=eU ae))(a3:ch (cF (ag1 [c7] cF)=[Vk c7 cF])):bn [c7] e pos (ade b8 g):=by rw[la];refine wpAny_Assign_stores (lO a0) c0 hw;rw[jF x];rw[a3];exact ft (cj d8 x v _) (fun _ b5 q=>q)
theorem aqS{i:Nat}{x:Str}{e:Expr}{b8:TE}{E:Pos}(hN:X.N.Nodup)(hi:ye)(S:Ka)(a0:rV)(c0:baE)(W:Kj):bdY:=by rw[la];refine wpAny_Assign_Name (lO a0) c0;rw[jF y];exact ac7 r hN hi S r1 (fun b5 Y=>as a8 Y d2) W
def aOa(i:Nat)(b8:TE)(ti:F4)(D:Ends)(M:St)(H:Hp):Prop:=hr i M H (fun x _=>op (su (ti x y a8 (fun z b7=>mI (aBk i (aa z)) b7))))
theorem aOb{i:Nat}{x:Str}{e:Expr}{b8:TE}{j:Operator}{ti:F4}{E:Pos}(hN:X.N.Nodup)(hi:ye)(S:Ka)(a0:rV)(d0:PIp X j ti)(W:Kj):fu (gT E) e (aOa i b8 ti):=by rw[la,dp b4 h (hr.out h),aoi];have d:aor:=by{rw[f5 k k,m1 k];exact .inr Pa};rw[fJ hi b4 d];refine wpAny_AugAssign_Name ?_;have go:dj tH (fun w g=>a2 (aBj j u w) (fun J b=>a2 (a1y cF x J) (as (SP X aI D .next)) oT b) oT g):=by{refine bU a0 (fun w a4 e0=>?_);rw[r y a8 r r1 d2];refine ft (@d0 aI a4 M a8 v y u w _ r J r1 d2) (fun z b5 P=>?_);obtain⟨f,b7,Y,r2,q2⟩:=P;exact ac7 Y hN hi S r2 (fun c8 O=>as b7 O q2) W};rw[bh_,l (a1r sU c3 d1 c4 go)];{rw[bcm,l (a1q sU c3 b0 a go)];{rw[f5 k k];{have:iI (MK x):=c3;rw[am k,ny]};{have:iI (MK x):=c3;rw[am k,ny]}}}
def aOc(C ti b8:TE)(a:Fw)(b:F4)(f:KD):TS:=f0 (Ho (a o i b7 (fun x d4=>b8 M d4 (fun y e4=>b x y e4 (fun z g6=>f o i z g6 (fun h5=>mI M h5))))))
def aqT(X:Cx)(t:Fw):Prop:=∀(pins:bw)(s:Shared)(M:St)(H:Hp)(o i:V)(ov c:Value)(Q:VK),bG (gS o ov) (gS i c) (t o i H Q) (zp ov c)
theorem aOd{o i e:Expr}{C ti b8:TE}{a:Fw}{b:F4}{f:KD}{j:Operator}{T:Pos}(d0:am7)(hi:M i ti)(d8:aqT X a)(a0:rV)(c2:PIp X j b)(c0:ada X f)(b3:ez (∀ov c a6,augStore i ov c a6=(do{holding [a6,ov,c] (setItem ov c a6);release [a6,ov,c] [];pure .next})) aui._auto_1):fu (q5 T) e (aOc C ti b8 a b f):=by rw[la];refine wpAny_AugAssign_SubscriptAny (bU d0 (fun ov a4 e0=>by rw[r e7 a8 r r1 d2];exact on f5 (ft (@d8 aI b5 M b7 e7 f5 ov c _ Y r1 r2 q2) (fun a7 c8 e0=>by rw[r d d4 O m q3];exact np a0 (fun v d9 e0=>by rw[r g e4 a5 c9 i6];exact ft (@c2 aI d9 M e4 d g a7 v _ a5 m c9 i6) (fun a6 f9 e0=>by rw[r l1 g6 A p e2];exact ft (@c0 aI f9 M g6 e7 f5 l1 ov c a6 _ A r1 r2 p e2) (fun _ h1 e0=>aL h5 F c6 e0 (d M h5 F c6)))))))) b3
def ipI(f:aIr):F4:=sC (Hl (m3 (f i j)))
theorem aqU:PIp X .Add (ipI (oF (i+j))):=by intro aI s M H x y v u Q I r1 r2 h;rw[ab i j b4 b9 q,Ju];subst b9;rw[ev r1,dn t' r2];exact iadd_int (n6 _)
universe z
section z
variable{X:Cx}{pos:Pos}
def aqV(c:TT)(c3:TS):TS:=f0 (∃W:dL St Hp,(∃m,W m M H)/\∀m M H,W m M H->mH (∃N:pR,(CF (vA (W f7 g0 L)))/\c3 (ag2 N) M a8) (mI M a8))
theorem F5{c:Expr}{a:uj}{i:TT}{c3:TS}(c2:aMi)(b0:PT X c i)(U:aI6):PS X (.While c a [] pos) (aqV i c3):=by rw[la,HT h];refine wpAny_While (codeAny_whileLoop (fun n c1=>pq (W n g0 L)) ?_ c9 (d M H I b2));rintro n a4⟨d,a8,r,e⟩;refine g1 (@b0 aI a4 d a8 _ r (eV n d a8 e)) (fun b b5 P=>?_);obtain⟨b7,Y,q2⟩:=P;cases b with|true=>{obtain⟨N,hN,q2⟩:=q2;rw[cO];refine g1 (@U aI b5 d b7 _ Y q2) (fun f c8 q3=>?_);cases f with|next=>{rw[biX]}|cont=>{rw[biX]}|brk=>{exact q3}|ret v=>exact q3}|false=>rw[J OC (ag0 (d d b7 Y q2))]
universe z
structure It where
 go:Y7
 yld:aa Nat Hp V Hp
 stop:Y7
instance nI:eJ It:=⟨v AF (r9 gD) AF⟩
def adf(X:Cx)(pins:bw)(H:Hp)(b:Addr):Prop:=D gu X6 amG (b∈CM\/Hh<=b) a7l
theorem Inv.Sa{X:Cx}{pins:bw}{M:St}{H L:Hp}{s:Shared}{b:Addr}(I:aZ)(U:aO<=b)(d1:IX):iV L:=by rw[r d1 (v_ (fJ I.lt U)) (I.aNK U) (.inr (cn I.sz U)) (fun x c e z=>?_) (fun p c2 z=>?_)];{rw[d7 v aGu];exact iH (fJ q.lt ag)};rw[cF (fJ (fw (Mz p c2).1) ag) (iP _)]
structure Turn(P:Program)(w:World)(K:PySem.W.Frag)(c7:Expr)(d0:It)(a8:bg)(it:Addr)(l:QN):Prop where
 mem:it∈a8
 obj:j i h (l i h) (D6 mh)
 keep:∀i h h',l i h->V b a8 (E o mh hc)->l i h'
 item:q5 Px (z u (eB J) (fe (jx P w) X.A (MM c7 nY u) (fun _ b5=>∃x L,D (aR L b5) pS PF (l (i+1) ag3) (h3 IX)) E a4))
 done:q5 alI (J=ae/\aR H a4)
 self:∀(A:Around)(i:Nat)(s:Shared)(Q:aU)(E:aU),l i bh->Q nY s->fe (jx P w) A (ML nY) Q E s
abbrev TI:=ts rP
inductive PIE(X:Cx)(pins:bw)(M:St)(c7:Expr)(R:rP)(e1:Value)(b5:Shared):Prop|mk:∀(it:Addr)(a8:bg)(l:QN)(d0:It)(L:Hp),b e1 nY (aR L b5) (qQ a8 it) (l 0 ag3) (V b a8 (iV L)->R d0 L->PIE X aI M c7 R e1 b5)
def PI(X:Cx)(c7 iter:Expr)(wi:TI):Prop:=∀⦃pins:bw⦄(s:Shared)(M:St)(H:Hp)(R:rP),cw (wi M H R) (e1 Hq) (fun v a4=>a2 (ML v) bgG oT a4)
theorem aqW{d5:Model}{A:Around}{E:aU}{s:Shared}{c7:Expr}{it:Addr}{u:Value}{o:Obj}{n:String}{vs:dW}{Q:Qg}(d0:gK it)(b0:we= .type n)(hd:gE= .fields vs)(d1:biF=ah)(g:Q () s):pi (MM c7 nY u):=by delta MM;cases c7<;>first|exact cg g|(cases u<;>first|exact cg g|(rw[C (wpAny_load d0 ?_)];rw[b0,hd];show pi (mt (biF&&vs[0]?==aa (wd _)));rw[aO (by rw[eE];rw[d1,ag4]at h;rw[cH])];exact cg g))
noncomputable def Sb(K:PySem.W.Frag)(a:Addr):It:=gX jk (L=H/\E O jk nr) jk
noncomputable def Itt(K:PySem.W.Frag)(a:Addr):It:=gX uN (L=H/\E O uN nr) uN
noncomputable def Sd(lo:Int)(n:Nat):It:=IJ aoo
theorem aOh{P:Program}{w:World}{K:PySem.W.Frag}{c7:Expr}(a it:Addr):jF (Sb K a) (CT it a i)where mem:=bJ;obj:=bbY;keep:=a8D;item:=by{intro X C hw g b0 i aI s M H E I W st d8;rw[uU,aMH,ZD,ZX,yp];refine wpAny_pyNext_list_item st qO (x:=u) ag aKF;rw[aII];exact HP aLg};done:=by{intro X C hw g b0 i aI s M H E I W st d8;rw[uU,aLR,ZD,yp,f5 CS];exact wpAny_pyNext_list_end iz st qO ai aaO};self:=Cn (wpAny_pyIter_listiter st h)
theorem aOi{P:Program}{w:World}{K:PySem.W.Frag}{c7:Expr}(a it:Addr):jF aag (h.IsTupleIter it a i)where mem:=bJ;obj:=bbY;keep:=a8D;item:=by{intro X C hw g b0 i aI s M H E I W st d8;rw[uU,aMH,a1 rv p I3,ZX,yp];refine wpAny_pyNext_tuple_item st bbk (x:=u) ag aKF;rw[aII];exact HP (bd (fun d7 b6=>t (I.aNV b6 e0) S))};done:=by{intro X C hw g b0 i aI s M H E I W st d8;rw[uU,aLR,a1 rv p I3,yp,f5 CS];exact wpAny_pyNext_tuple_end iz st bbk ai aaO};self:=Cn (wpAny_pyIter_tupleiter st h)
theorem aOj{P:Program}{w:World}{K:PySem.W.Frag}{c7:Expr}(it:Addr)(lo:Int)(n:Nat):jF (Sd lo n) (a1C h it (lo+cf i*1) (cK-cf i) 1)where mem:=bJ;obj:=po (by rw[o9 it,b_];exact aw st (fun v z=>YF));keep:=bdO;item:=by{intro X C hw g b0 i aI s M H E I W st d8;rw[uU,yp,Lm 1,ev d3];refine rj aoo (aw t);rw[a1B]};done:=by{intro X C hw g b0 i aI s M H E I W st d8;rw[yp];exact a1A iz st (eA (n<=i) d8 (nE this)) aaO};self:=Cn (a1z st h)
universe L2
namespace L2
open PySem PySem.Spec PyProof.Rows
section z
variable{X:Cx}{c7:Expr}
inductive jL(K:PySem.W.Frag)(R:rP)(x:V)(a8:Hp):Prop|mk:gD Yw (Sb K a) (jL K R x a8)
def aOk(K:PySem.W.Frag)(h8:TE):TI:=Ee (jL K R)
inductive jU(K:PySem.W.Frag)(R:rP)(x:V)(a8:Hp):Prop|mk:gD (va K a8 a O) aag (jU K R x a8)
def aOl(K:PySem.W.Frag)(h8:TE):TI:=Ee (jU K R)
theorem oy{d:PySem.W.Frag}{l:Expr}{h8:TE}(a5:M l h8)(g:Bh):ht l (aOk d h8):=rm (CU e0) (aBm qO (Iy (aOh a _)))
theorem adh{d:PySem.W.Frag}{l:Expr}{h8:TE}(a5:M l h8)(g:Bh):ht l (aOl d h8):=rm (r.tuple e0) (wpAny_pyIter_tuple (show a4.heap.IsTuple a eT from p) (Iy (aOi a _)))
theorem aOm{pins:bw}{M:St}{H:Hp}{s:Shared}{R:rP}{E:aU}{lo hi:Int}{t u v:Tok}{D:Nat}(I:aZ)(a3: -(2^62)<=lo)(a9:lo<2^62)(e2: -(2^62)<=hi)(e5:hi<2^62)(q:R (Sd lo apk) H):a2 (ML gp) bgG E (dp aaF D):=by refine a1D (a1E ..) (small_one a3 a9 e2 e5) ?_;have r:aR H (dp aaF D):=MJ Pm;rw[c (f2 aaF) [f2 aaF] _ _ H (ag5 (t':=D) Pm) (aOj _ lo apk) (v ?_ ua q)];{rw[aS b4 (lo+ae 0*1) lo];have b9:ae apk-ae 0=Vl lo hi 1:=by{rw[rangeSize_one];split<;>grind};rw[b4,b9];exact gL};{rw[o9 (f2 aaF),b_];exact a7D}
inductive jR1(R:rP)(vs:af)(a8:Hp):Prop|mk:∀j:Int,e [I2] (-(2^62)<=j) (j<2^62) (R (Sd 0 aBn) a8) (jR1 R vs a8)
def aOn(d6:TA):TI:=qL (jR1 R)
theorem aOo{a:Expr}{d6:TA}{p pos:Pos}(d8:Gl X "range")(c4:ge "range")(b3:PA X [a] d6)(c0:gd [a] [(ah,e1 a)]):ht (eA "range" [a]) (aOn d6):=by rw[jq R];refine jI boot_range rfl;rw[JU];obtain⟨j,e,d2,q2,q⟩:=d2;rw[b_];cases r1 with|cons J C=>rw[oc,El];exact call_range_1 (aOm r aT aT d2 q2 ag)
def aOp(wi:TI)(g:TG)(c3:TS):TS:=f0 (Dw (em St (W 0 m M a8) (X ak5 alI OJ Px (∃N:pR,(ak_)/\j x L PF (gg M (r7 N))))))
noncomputable def KI(a8:bg)(h:Heap):bw:=a8.filterMap (il (B (zk b) (lm (b,o))))
theorem aOq{a8:bg}{h:Heap}{b:Addr}{o:Obj}(U:b∈a8)(e:mh):(b,o)∈KI a8 h:=List.mem_filterMap.mpr (v b U (x AB))
theorem aOr{a8:bg}{h:Heap}{p:eh×Obj}(c2:p∈KI a8 h):p.1∈a8/\bA p.1 p.2:=by rw[aO b U (List.mem_filterMap.mp c2)];cases q:zk b with|none=>{simp_all}|some o=>rw[a6 q];have d3:=cZ e;rw[tN];exact⟨U,q⟩
theorem Inv.pinned{pins:bw}{M:St}{H:Hp}{s:Shared}{a8:bg}(I:aZ)(W:h3 (iV H))(d0:D6 ha):Inv X (aI++KI a8 bh) M H s:=I.aqK (gW (oC (qP _ z) (J (by rw[cl U (aOr z)];obtain⟨F,g4,h3,_⟩:=W p.1 U;rw[bK d3 d (d0 p.1 U),Zj,a4 d3 (a e F g4 h3 d)]))))
theorem Inv.Se{pins d5:bw}{M:St}{H:Hp}{s:Shared}(I:Inv X (aI++d5) M H s):aZ:=I.aqK (gW (Mz p (qP _ (vU _ c2))))
theorem aOs{iter:Expr}{a:uj}{wi:TI}{g:TG}{c3:TS}{pos:Pos}(c2:aMi)(b0:fR)(hi:aaC)(d8:aKz)(U:aI6)(c0:anC):bhT:=by revert c2 b0 hi d8 U c0;revert X c7 iter a wi g c3 pos;refine Kq;generalize aF=X,az=c7,aE=iter,aD=a,aB=wi,aA=g,aG=c3,aH=pos;intro c2 b0 hi d8 U c0;rw[la];refine wpAny_For (bU hi (fun v a4 a3=>ft a3 a'F)) c0;obtain⟨it,a8,l,d0,b7,e,Y,T,b4,h3,W,⟨c9,b2⟩,turn⟩:=a9;rw[b_];have V:∀{L:Hp},Yt->h3 (iV L):=fun d1 b U=>⟨d1 b U,(aos).2⟩;refine codeAny_forLoop_any (fun n c1=>∃i g0 L,N aFZ (l i mH) Yt (W i n g0 L)) ?_ c9 (a 0 M b7 Y b4 (dc (aos).1) b2);rintro n c8⟨i,j,d4,O,d2,q,w⟩;rcases eV i n j d4 w with⟨stop,y⟩|⟨go,N,hN,step⟩;{refine g1 (@T.done X rfl rfl rfl b0 i aI c8 j d4 oT O (V q) d2 stop) a8Q;rw[kz a6 a5];subst a6;exact ag0 (d j d4 a5 y)};{refine g1 (@T.item X rfl rfl rfl b0 i aI c8 j d4 oT O (V q) d2 go) a8Q;rw[bl a6 e5 e0];subst a6;refine g1 e5 (fun _ f9 e0=>?_);obtain⟨x,g6,A,p,z,d3,B⟩:=e0;refine g1 (@d8 _ f9 j g6 x u _ (A.pinned (V B) (aBo _ _ d3)) p (MN x g6 z)) (fun _ h1⟨C,h5,F,c6⟩=>g1 (@U _ h1 C h5 _ F c6) (fun f R c=>?_));have again:∀{k:St}{h9:Hp},Inv X (aI++KI a8 f9.heap) k h9 R->N k h9->s8 (∃i g0 L,N (Inv X aI g0 L R) (l i R.heap) Yt (W i m g0 L)):=fun{k h9}r h8=>by{obtain⟨f7,c4,E⟩:=hN k h9 h8;rw[b f7 c4 (i+1) k h9 r.Se (ag6 _ _ _ d3 (th (a_c).1)) ua E,bK e d (BV d3)];exact aV a_c};cases f with|next=>{rw[bcO]}|cont=>{rw[bcO]}|brk=>{obtain⟨k,h9,r,c⟩:=c;exact d k h9 r.Se c}|ret v=>rw[i t k h9 r b1 c c (c t k h9 r.Se b1 c)]}
universe z
theorem aOt{K:PySem.W.Frag}{a:Addr}{O:af}{g:TG}{c3:TS}{D:Ends}{M:St}{H:Hp}(j:aHM)(b1:amT)(a5:lD Qy jk)(c0:bdD)(hd:ty bx):f5 QA QA QA:=by rw[eW bx Qy bx,ap6,cN bgH,fY Z bx];{refine i6 (d O O[i] q (x pN)) bba;rw[fW y y,b_];exact bhG};{have e:i=bx:=by{rw[aIE]};rw[b_];exact ds aKV apw}
theorem aOu{K:PySem.W.Frag}{a:Addr}{O:af}{g:TG}{c3:TS}{D:Ends}{M:St}{H:Hp}(j:aHM)(b1:amT)(a5:lD Qy uN)(c0:bdD)(hd:ty bx):f5 (aag) (aag) (aag):=by rw[eW bx Qy bx,ap6,cN bgH,fY Z bx];{refine i6 (d O O[i] q (x pN)) bba;rw[fW y y,b_];exact bhG};{have e:i=bx:=by{rw[en]};rw[b_];exact ds aKV apw}
theorem aOv{lo:Int}{n:Nat}{g:TG}{c3:TS}{D:Ends}{M:St}{H:Hp}(j:aHM)(b1:amT)(c0:lD (i<n) (be aoo M H aGm))(hd:ty n):f5 PN PN PN:=by rw[eW n Qn n,ap6];by_cases Z:i<n;rw[oL ba' (c0 i M _ Z p)];{have e:i=n:=by{rw[aIE]};rw[b_];exact ds aY apw}
theorem aOw{c:TT}{c3:TS}{D:Ends}{M:St}{H:Hp}(j:pR)(a:St->Hp->Nat)(b1:j M H)(c0:j M H (j M H) (mH (c3 (ag2 (fun g0 L=>j g0 L/\a g0 L<a M H)) M a8) (mI M a8)))(d:∀M H Q h4,(j b a8 (Q b a8) (h4 b a8))->c M H Q->c M H h4):aqV c c3 D M H:=by rw[ak (fun m M H=>m=a M H/\j M H) (dl b1)];rintro m M H⟨rfl,p⟩;refine d M H _ _ (fun b a8 q=>?_) (c0 M H p);cases b with|true=>{exact aw (fun g0 L e0=>by rw[kz u l];exact as l rfl u) q}|false=>exact q
universe L2
namespace L2
open PySem PySem.Spec PyProof.Rows
abbrev R2:=Fw
def KJ(X:Cx)(f:Z_)(J:R2):Prop:=∀(pins:bw)(s:Shared)(M:St)(H:Hp)(x y:V)(v u:Value)(Q:VK),bG t_ lh (J x y H Q) (f v u)
def UnR(X:Cx)(f:cR->X0)(J:mn V):Prop:=∀(pins:bw)(s:Shared)(M:St)(H:Hp)(x:V)(v:Value)(Q:VK),E2 (dj (f v) IW)
def BF(X:Cx)(f:Value)(J:mn af):Prop:=∀(pins:bw)(s:Shared)(M:St)(H:Hp)(O:af)(b1:aM)(Q:VK),i aZ oa (J O H Q) (xe f)
def aOx(X:Cx)(J:be V Hp (AQ)):Prop:=∀(pins:bw)(s:Shared)(M:St)(H:Hp)(x:V)(v:Value)(Q:AQ),E2 (dj (aBp v) aGR)
def BG(J:R2)(d6 c3:TE):TE:=qC (c3 M a8 (p6 (J x y b7 Q)))
def tUn(J:mn V)(d6:TE):TE:=qC (J x a8 Q)
inductive rI(C:au Int Int)(g:aIs)(x:V)(y:V)(H:Hp)(Q:VK):Prop|mk:∀i j,b x hT (y=I2) (C i j) (Q rX H) (rI C g x y H Q)
def F6(g:aIs)(x:V)(y:V)(H:Hp)(Q:VK):Prop:=match x,y with| .int i,.int j=>Q rX H|_,_=>cE
theorem F6.out{g:aIs}{x y:V}{H:Hp}{Q:VK}(h:F6 g x y H Q):Hl (Q rX H):=lL F6 (oY h)
inductive rU(g:Int->V)(x:V)(H:Hp)(Q:VK):Prop|mk:o i (x=hT) (Q (g i) H) (rU g x H Q)
section z
variable{X:Cx}{a b c:Expr}{d6 c3 i:TE}{pos:Pos}
theorem aOz(b3:fV)(U:lr){pins:bw}{s:Shared}{M:St}{H:Hp}{R:be V V Hp}(I:aZ)(h:d6 M H (jJ (c3 M a8 (p6 (R x y b7))))){Q:aU}{f:Z_}(W:∀v u b5 x y b7,c (aR b7 b5) t_ lh (R x y b7) (a2 (f v u) Q oT b5)):dj (e1 a) (pA (f v u) Q):=by refine jt b3 (ey U (fun u b5 e0=>by rw[r y b7 Y r2 q2];exact W v u b5 x y b7 Y r1 r2 q2))
theorem ly{j:Operator}{J:R2}(d0:f9 j J)(b3:fV)(U:lr):M (.BinOp a j b pos) Yu:=nM (wpAny_BinOp (CA (@d0 aI b5 M b7 x y v u Q Y R Z q)))
theorem aqY{j:UnaryOp}{J:mn V}(d0:UnR X (unaryOp j) J)(b3:fV):M (.UnaryOp j a pos) (tUn J d6):=nM (UnaryOp_ (jt b3 (cj d0 x v Q)))
theorem opI{f:Z_}{C:au Int Int}{g:aIr}(rule:CD (C i j->yM rX->ns aJG)):KJ X f (lp C rX):=by rw[xx];obtain⟨i,j,rfl,rfl,b0,q⟩:=h;rw[xk,akQ];exact rule i j t t' s _ _ b0 (n6 rX)
theorem adj{f:Z_}{g:aIr}(rule:CD (yM rX->ns aJG)):KJ X f (p9 rX):=K5 (n6 rX)
theorem aOA{f:Z_}{g:dK Int Int}(rule:CD (j7 rX->ns aJG)):KJ X f (oS rX):=K5 (eZ rX q)
def aOB(i j:Int):Prop:=0<j/\j<1073741824
def adk(i j:Int):Prop:=(-(2^64)<i/\i<2^64)\/(-(2^64)<j/\j<2^64)
theorem adk.ok{i j:Int}(h:adk i j):IntMulOk i j:=by rcases h with⟨a3,a9⟩|⟨a3,a9⟩;rw[l (.of_left (a1F a3 a9)),l (.of_right (a1F a3 a9))]
theorem bjk(k:Nat):xC<=2^k:=by rw[ue]
theorem aOC:f9 .Add (p9 (i+j)):=adj (iS q (add_int q))
theorem yA:f9 .Sub (p9 (i-j)):=adj (iS q (sub_int q))
theorem F7:f9 .Mult (lp adk (i*j)):=opI (fun _ _ _ _ _ _ _ b0 q=>mul_int q b0.ok)
theorem aq0:f9 .FloorDiv (lp aOB (i/j)):=Gq (by rw[fK b0.1,ep b0.2];exact floordiv_int (fZ (Kt z.m a3)) bz (.inl (a1G eO)))
theorem aOD:f9 .RShift (lp (fun _ j=>0<=j) (i/2^aBn)):=Gq (rshift_int b0 bz)
theorem Sf:f9 .BitAnd (p9 (Builtin.bitAnd i j)):=adj (iS q (and_int q))
theorem unI{f:cR->X0}{g:Int->Int}(rule:∀(i:Int)(t:Tok)(s:Shared)(Q:aU)(E:aU),yM (g i)->ns (f (e0 i))):UnR X f (rU (dJ (.int (g i)))):=by rw[bdq,aJ i rfl h,xk];exact rule i t s _ _ (n6 (g i))
theorem aq1:UnR X (unaryOp .USub) (rU (dJ (.int (-i)))):=unI (fun _ _ _ _ _ q=>neg_int q)
universe z
noncomputable def aq2:dK V V| .bC,.bC=>ab| .bC,.int _=>ab| .int _,.bC=>ab| .bC,.bl _=>ab| .bl _,.bC=>ab| .bC,.str _=>ab| .str _,.bC=>ab| .int _,.int _=>ab| .bl _,.bl _=>ab| .str _,.str _=>ab| .iF _,.iF _=>ab| .int _,.str _=>ab| .str _,.int _=>ab| .bl _,.str _=>ab| .str _,.bl _=>ab|_,_=>ah
inductive rEq(x y:V)(H:Hp)(Q:VK):Prop|mk:aq2 x y=ab->dy (ar x y)->rEq x y H Q
inductive rNe(x y:V)(H:Hp)(Q:VK):Prop|mk:aq2 x y=ab->dy (! ar x y)->rNe x y H Q
theorem dO{i j:Int}:ar (cp i) (cp j)=(i==j):=fS
theorem aq5{i j:Bool}:ar (CV i) (CV j)=(i==j):=Bk
theorem aq6{i j:Str}:ar (V.str i) (V.str j)=(i==j):=Bk
theorem aq7{i j:fv Ms}:ar (V.iF i) (V.iF j)=(aBq==j.toList):=by rw[iR];cases i;cases j;simp
section z
variable{X:Cx}{a b c:Expr}{d6 c3 i:TE}{pos:Pos}
theorem aOF{pins:bw}{M:St}{H:Hp}{s:Shared}{Q:VK}{k G:Bool}(I:aZ)(q:dy k)(e:k=G):f3 (.bool G) s:=by rw[b_];exact eZ k q
theorem gP:be .Eq rEq:=by rw[xx,d7 c0 h];cases x with|bC=>{rw[cz (PySem.EqNone.eq_none_none uI) (PySem.EqNone.eq_none_bool uH) (PySem.EqNone.eq_none_int uH) (PySem.EqNone.eq_none_str uH)]}|bl i=>{rw[hr (PySem.EqNone.eq_bool_none uH) (eq_bool (ih aq5)) (PySem.EqMixed.eq_bool_str uH)]}|int i=>{rw[hf (PySem.EqNone.eq_int_none uH) (eq_int (ih dO)) (PySem.EqMixed.eq_int_str uH)]}|str i=>{rw[cA (PySem.EqNone.eq_str_none uH) (PySem.EqMixed.eq_str_bool uH) (PySem.EqMixed.eq_str_int uH) (eq_str (ih aq6))]}|iF i=>{rw[IQ (PySem.W.eq_bytes (ih aq7))]}|_=>cases y<;>rw[t9 c0]
theorem Sg:be .NotEq rNe:=by rw[xx,d7 c0 h];cases x with|bC=>{rw[cz (PySem.EqNone.ne_none_none uH) (PySem.EqNone.ne_none_bool uI) (PySem.EqNone.ne_none_int uI) (PySem.EqNone.ne_none_str uI)]}|bl i=>{rw[hr (PySem.EqNone.ne_bool_none uI) (ne_bool (sY aq5)) (PySem.EqMixed.ne_bool_str uI)]}|int i=>{rw[hf (PySem.EqNone.ne_int_none uI) (ne_int (sY dO)) (PySem.EqMixed.ne_int_str uI)]}|str i=>{rw[cA (PySem.EqNone.ne_str_none uI) (PySem.EqMixed.ne_str_bool uI) (PySem.EqMixed.ne_str_int uI) (ne_str (sY aq6))]}|iF i=>{rw[IQ (PySem.W.ne_bytes (sY aq7))]}|_=>cases y<;>rw[t9 c0]
theorem lz:be .Lt (oS (cv (i<j))):=sJ (lt_int q)
theorem yB:be .LtE aaM:=sJ (le_int q)
theorem vb:be .Gt a9E:=sJ (gt_int q)
theorem vc:be .GtE (oS (bi j i)):=sJ (ge_int q)
theorem yC:be .Is (sC (y= .bC/\dy (ar x .bC))):=Ix (is_none_gen (ih ?_))
theorem KL:be .IsNot (sC (y= .bC/\dy (! ar x .bC))):=Ix (isnot_none_gen (ih ?_))
theorem BH(b:Expr){j:CmpOp}(h:ez (j≠.In) Vm)(a9:ez (j≠.NotIn) Vm):YA:=by have b4:(j==CmpOp.In)=ah:=by{rw[xM]};have b9:(j==CmpOp.NotIn)=ah:=by{rw[xM]};cases b<;>first|rfl|(show(_&&(j==_||j==_)&&_)=ah;rw[b4,b9,aBr,ag7,ag4])
theorem KN{j:CmpOp}{J:R2}(d0:Ru)(b3:fV)(U:lr)(c4:YA):M alW Yu:=nM (wpAny_Compare1 (CA (@d0 aI b5 M b7 x y v u Q Y R Z q)) c4)
def vd(t:TE):TT:=jS (jB Q)
theorem KO{j:CmpOp}{J:R2}(d0:Ru)(b3:fV)(U:lr)(c4:YA):a9z:=by rw[fz];refine a1t (bU b3 (fun v a4⟨x,a8,r,r1,d2⟩=>ey U (n0 (@d0 aI b5 M b7 x y v u _ Y r1 r2 q2) (fun c c8 e0=>?_)))) c4;rw[r z d4 O m q3];obtain⟨k,e,q3⟩:=q3.out;rw[b_];cases m;exact vW (v d4 O q3)
def KP(J B:R2)(d6 c3 i:TE):TE:=qC (c3 M a8 (p6 (J x y b7 (fun z d4=>z k (z= .bl k) (Z k (i M d4 (fun c5 e4=>B y c5 e4 Q)) (Q (.bl ah) d4))))))
theorem aq8{j f:CmpOp}{J B:R2}(d0:Ru)(l:be f B)(b3:fV)(U:lr)(b0:aat)(c4:beZ):M a'Z (KP J B d6 c3 i):=by rw[fz];refine Compare_chain (nl b3 (chain_link (F3 (@d0 aI b5 M b7 x y v u _ Y r1 r2 q2)))) c4;obtain⟨z,d4,O,m,k,e,q3⟩:=P;rw[b_];cases m;refine vW ?_;cases k with|false=>{exact ite_ff (bi ah d4 O q3)}|true=>exact ite_tt (chain_last (np b0 (fun c5 d9 e0=>by rw[r d3 e4 a5 c9 i6];exact@l aI d9 M e4 y d3 u c5 Q a5 r2 c9 i6)))
theorem aq9{j f:CmpOp}{J B:R2}(d0:Ru)(l:be f B)(b3:fV)(U:lr)(b0:aat)(c4:beZ):PT X a'Z (vd (KP J B d6 c3 i)):=by rw[fz];refine isTrue_chain (nl b3 (test_link (F3 (@d0 aI b5 M b7 x y v u _ Y r1 r2 q2)))) c4;obtain⟨z,d4,O,m,k,e,q3⟩:=P;rw[b_];cases m;refine vW ?_;cases k with|false=>{exact ite_ff (v d4 O q3)}|true=>refine ite_tt (test_last (np b0 (fun c5 d9⟨d3,e4,a5,c9,i6⟩=>ft (@l aI d9 M e4 y d3 u c5 _ a5 r2 c9 i6) (fun d' f9 e0=>?_))));rw[r h6 g6 A p e2];obtain⟨f7,b9,e2⟩:=e2.out;subst b9;rw[a4 p (vW (v g6 A e2))]
def aq_(K:PySem.W.Frag)(x:V)(H:Hp)(k:Bool):Prop:=match x with| .bC=>k=ah| .bl b=>k=b| .int i=>k=(i !=0)| .str y=>ba7| .iF y=>ba8| .ref p=>(z O ZK (k=! aBs))\/(z O (nm O) (k=! aBs))\/z F (bh p qd) (k=! F.isEmpty)|_=>cE
theorem aOG{c:Type}{F:hW}{vs:Fv}(J:tW):(! vs.isEmpty)=! F.isEmpty:=sI J
theorem aOH{O:af}{ar:aM}(J:EF):(! ar.toArray.isEmpty)=! aBs:=sI J
theorem Sh:cf hC<2^63:=by rw[wg];decide
theorem aOI:aOx X (fun x H Q=>z k (aq_ X.K x H k) (Q k H)):=by rw[bdq,aJ k e h];have c0:=wg;cases x with|bC=>{rw[hS,b_];exact truthy_none (v H I q)}|bl b=>{rw[hS,b_];exact vW (v H I q)}|int i=>{rw[xk,b_];exact PySem.P.truthy_int (v H I q)}|str y=>{rw[pg ba7 (PySem.P.truthy_str bL (v H ry q))]}|iF y=>{rw[pg ba8 (PySem.W.truthy_bytes (bn b6 c0.l) (v H ry q))]}|ref p=>{rw[hS];have d3:=e;rcases d3 with⟨O,S,d3⟩|⟨O,S,d3⟩|⟨F,S,d3⟩;rw[oS (sV S) (wpAny_truthy_list zq bz a90),oS (CQ S) (truthy_tuple d5 bz a90)];{rw[tN];obtain⟨c9,b2,vs,J,m⟩:a1 ia/\li p/\z vs tW (s.heap.DictOf aJy p vs):=er p _ S;have E:=Mu J;exact wpAny_truthy_dict b2 m bL (ap H ry (aOG J) q)}}|_=>exact(dx cE e).elim
theorem aOJ(b3:fV)(a0:apt):BO X.K:=nM (aBi (jt b3 (aOI aI a4 M a8 x v Q r r1 d2)) (a0 _))
theorem vals1{x:V}{b1:aM}(J:eC [x]):a9J:=by cases J with|cons r1 r2=>rw[a4 r2 (dl r1)]
theorem vals2{x y:V}{b1:aM}(J:eC Jp):∃u c5,b1=[u,c5]/\pS/\gS y c5:=by cases J with|cons r1 r2=>cases r2 with|cons m c9=>rw[a4 c9 (f _ _ r1 m)]
theorem aOK(b0:fR):pu "max" (j>i):=by rw[Zw,a0 i j rfl q];obtain⟨u,c5,rfl,⟨t,rfl⟩,⟨t',rfl⟩⟩:=vals2 J;refine max_two_ints iz beR;by_cases b8:j>i;rw[dl b8 b8 ek,bd7]
theorem aOL(b0:fR):pu "min" (j<i):=by rw[Zw,a0 i j rfl q];obtain⟨u,c5,rfl,⟨t,rfl⟩,⟨t',rfl⟩⟩:=vals2 J;refine min_two_ints iz beR;by_cases b8:j<i;rw[dl b8 b8 ek,bd7]
universe z
universe L2
namespace L2
open PySem PySem.Spec PyProof.Rows
structure KQ(h:Heap)(x dx C:Addr)(j:dN):Prop where
 obj:bA x (U7 C dx)
 ns:agR dx j
 ne:dx≠x
set_option tactic.hygienic true in theorem aOM{h:Heap}{dx:Addr}{j:dN}(n:agR dx j):D7 (bA dx m):=by obtain⟨o,a7,e1,d0,hd,c3,_,c4⟩:=n;rw[aa o d0 (fun c=>?_),c7 (c4 c)];unfold nsFind findBy at e;rw[py Array.find?_toList];delta aBt;rw[hd];dsimp only;split;rw[ay];{rename_i q;rw[a6 q];have a:a7.toList.any (·.refKey)=ah:=by{rw[List.any_eq_false];intro y b6;obtain⟨z,t,b⟩:=c3 y (Array.mem_toList_iff.mp b6);simp[DictEntry.refKey,b]};rw[aO ag];exact gC aa e}
theorem KQ.look{h:Heap}{x dx C:Addr}{j:dN}(I:KQ h x dx C j):D7 (PySem.W.InstAt h x (U7 C dx) C (aa m)):=let⟨m,d0,a5⟩:=aOM I.ns;v m (bj I.obj rfl d0) a5
section z
variable{prog:Program}{w:World}{A:Around}{E:aU}{s:Shared}{K:PySem.W.Frag}{x dx C f:Addr}{j:dN}{c:Str}{v:Value}
theorem get_map{a:Bool}{Q:aU}(X:vQ bh)(I:aJg)(d8:sN c)(c7:aHh)(b3:hB c=aa ae)(d3:j c=aa v)(g:a1H v=ab)(h:Q v O0):bl (aBv kR c a):=Dd (PySem.W.get_value X d0 (aBu d8).1 (PySem.W.findObj_own c7 b3 rfl ag) g h)
theorem aON{d5:al'}{Q:dE (cR×aM)}(X:vQ bh)(I:aJg)(d8:sN c)(W:hR c f)(c6:p0 rF)(d3:j c=ae)(h:Q (rF,[kR]) s):bl (a1J kR c d5):=Dd (PySem.W.method_fn X d0 (aBu d8).1 (aBu d8).2 W (a1I c6) (by show B (aBt c m) (·.isSome)=aa ah;rw[a5,d3];rfl) h)
theorem aOO{ns:cW}{Q:Qg}(X:vQ bh)(I:aJg)(c0:a't)(c2:aA0 K C=ab)(c6:aBw K C c=aa ae)(c7:aHh)(hw:a1K j ns)(G:a1 zr)(h:o h' (KQ h' x dx C (e9 (aw (y=c) v (j y)))) (pg dx) (Q () (dp h' (dE+2)))):bl (setAttr kR c v):=by rw[bY d0 a5 I.look];refine PySem.W.set_plain X d0 c0 (PySem.W.osa_open (s:=O0) (r:=ae) X d0 c2 c6 (fun b=>?_));obtain⟨R,b0,p⟩:=PySem.W.any_some c7;rw[C (fd (bE (wpAny_loadPart I.obj (bE (PySem.W.Looks.here (s:=O0) (PySem.W.looks_clsIn X b0) ?_)))))];rw[p];refine cg (a:=aa dx) (bE (fd (wpAny_nsSet1 (s:=O0) I.ns (fun h' j7 a=>?_))));obtain⟨g,i,k,d,e,f⟩:=j7.count (PySem.Within.cons c v hw);rw[C (wpAny_lookBehind d (t e (pastItsLine_dict (cn f (x (Vn G))))) (cg (h _ (v (ac a _ (hx I.ne) I.obj) j7 I.ne) a)))]
theorem aOP{R:Qh}{vs:aM}{a:Jl}(X:vQ bh)(c4:ams)(hi:a87)(W:PySem.W.typeIn K rF=aa (.type "function"))(h:Hr XS (CO (xi::vs)) (.call rF ⟨.ref iy::vs,a⟩) (PySem.W.InitBack iy R) bdc):v1 (.call xi ⟨vs,a⟩):=by rw[lH c7 t];exact PySem.W.make_core (PySem.W.makes_of X c4) (PySem.W.looks_findIn X hi) (fun self=>PySem.W.bind_fn X self W) gn h
universe z
noncomputable def kq(f:Str)(v:V):hX->hX|[]=>[(f,v)]|(g,x)::J=>v g f ((g,v)::J) ((g,x)::gt J)
theorem dh(f g:Str)(v:V):∀G:hX,fu (gt G) g=aw (g=f) v (Vo g)|[]=>by{show Mj g [(f,v)]=_;rw[N h g f,a_,a_]}|(k,x)::J=>by rw[aMx];rw[aLI,cL];{rw[aO c3,N h g k,a_];{simp only[Mj,(aBx h)];exact(dh f g v J)}}
theorem adl(f:Str)(v:V):∀G:hX,f∈gZ (gt G)/\E g (g∈aBy fN) (g∈gZ (gt G))|[]=>⟨bJ,fun g h=>ai⟩|(k,x)::J=>by obtain⟨c2,N⟩:=adl f v J;rw[aMx];rw[aLI,a_,cL]
theorem aq'(f:Str)(v:V):∀G:hX,bd (gt G) (U8+1)|[]=>aGV|(k,x)::J=>by have d6:=aq' f v J;rw[aMx];rw[aLI,a_,a_]
theorem sf.some_of{v:V}{o:pF}(J:sf pJ o):z u (eB o) jl:=by cases o with|none=>{trivial}|some u=>exact aP u J
theorem sf.none_of{o:pF}(J:sf ae o):o=ae:=by cases o with|none=>{rfl}|some u=>exact(dx cE J).elim
theorem aOQ{v:V}{u:Value}(J:jl):a1H u=ab:=by cases v with|bC=>{rw[Fs]}|bl b=>{rw[Fs]}|int i=>{rw[t8 QL]}|str x=>{rw[t8 aoq]}|iF b=>{rw[t8 (a1c b t)]}|R0 b=>{rw[t8 (a1b b t)]}|ref a=>{rw[Fs]}|ty n=>cases(a0 u (Mt n) J);rfl
section z
variable{P:Program}{w:World}{H L:Hp}{h h':Heap}{a C dx:Addr}{G b:hX}
theorem ara(dt:lq)(e:amI):I j (KQ h a dx C j) (∀f,aJB) (a9m/\U8<=1000/\bh dx YR):=by obtain⟨d,z,ne,N,j,n,J,q⟩:=dx (hd (aI C G)) (dt a _ e);exact c j (v N n ne) J q z d
universe z
structure yD(K:PySem.W.Frag)(C:Addr):Prop where
 pg:sN Str.empty
 hd:aHh
 po:aA0 K C=ab
 sa:a't
theorem yD.get{K:PySem.W.Frag}{C:Addr}(c:Zn)(f:Str):sN f:=c.pg
def Si(K:PySem.W.Frag)(C:Addr)(f:Str):Prop:=hB f=aa ae
theorem Si.aOR{K:PySem.W.Frag}{C:Addr}{f:Str}(n:anF):aBw K C f=aa ae:=ga aBw (show hB f=aa ae from n)
structure Meth(K:PySem.W.Frag)(C:Addr)(m:Str)(f:Addr):Prop where
 at_:hR m f
 fn:p0 rF
 kp:aIk
section z
variable{X:Cx}{pins:bw}{M:St}{H:Hp}{s:Shared}{a C dx:Addr}{G:hX}{f:Str}{v:V}{A:Around}{E:aU}
theorem arb{b:Bool}{Q:aU}(I:aZ)(e:amI)(c:aah)(n:Si X.K C f)(l:aHz)(h:l u c1 (aR H c1) jl (Q u c1)):mv (aBv bc f b):=by rw[be5,bl hu m (a1L (v:=v) (o:=j f) cq)];exact get_map vY Y (c.get f) c.hd n hu (aOQ m) (h u _ ry m)
theorem aOS{m:Str}{g:Addr}{d5:al'}{Q:dE (cR×aM)}(I:aZ)(e:amI)(c:aah)(k:y3 g)(l:Vo m=ae)(h:Q (.ref g,uo) s):mv (a1J bc m d5):=by rw[be5];exact aON vY Y (c.get m) k.at_ k.fn (sf.none_of cq) h
theorem arc{y:V}{u:Value}{Q:Qg}(I:aZ)(e:amI)(c:aah)(n:Si X.K C f)(a5:U8<1000)(Z:lh)(h:i5 (aR (ad a bdh) c1) ()):mv (setAttr bc f u):=by obtain⟨j,Y,J,wi,_,d0⟩:=ara er e;refine aOO vY Y c.sa c.po n.aOR c.hd wi (ac bA wg (cU a5)) (fun h' d sb=>h _ ?_);refine Vp (x:=a) (e:=dx) (jI e) (.inr d0) (fun b q U z=>sh z) (let⟨o,_,_,d3,_⟩:=d.ns;nt d3) (a (Y Y.ne d0) ?_ Y.ne d.obj _ d.ns (fun g=>?_) (fun g d8=>?_));rw[cc (aq' f y G) pU];{rw[dh];rw[T g f,dl q q Z,a_]};{rw[T g f,Z q (adl f y G).1];{refine(adl f y G).2 g (wi g (J (d8 ?_)));show(aw (g=f) u (j g))=ae;rw[J (bj q) z]}}
theorem Inv.made(I:aZ):aR (upd (ad aO (.own iy)) iy a'R) bdc:=by rw[ad b4 (dk (mK MO) aO) MO (aBz bh rfl)];refine(cN (.own iy) (mK MO) (qB (bU q)) (aW b4)).laid (a:=iy) (o:=a'R) (t':=dE) (qB (bU q)) (qM (lE _ _)) ?_;have ne:aO≠iy:=gF jX;rw[e (wv ne) cS ne (by have:=aBz (mK MO) (o:=U7 C aO) rfl;rwa [lE]at this) uB ((Heap.Ns1.of_empty (a MO #[] _ b4 (ah (f8 (cy a0 ai)) kX))).at (lK (bU q))) (as CW) (o2 (cy rfl b6))]
theorem aOT{prog:Program}{w:World}{env:Env}{e:Expr}{f:Str}{pos:Pos}{s:Shared}{Q:aU}(U:ag8 e f env (kr e)=kr e)(h:im (kr e) (fun o l=>am (aBv o f ab) Q E l)):bl (kr a7r):=Attribute_any_ h (bj arm_eval_Attribute U)
universe z
inductive jF(K:PySem.W.Frag)(f:Str)(Q:VK)(x:V)(a8:Hp):Prop|mk:∀a C dx G v,b x bc aIR Zn anF (aHz->Q v a8->jF K f Q x a8)
def aOU(K:PySem.W.Frag)(d6:TE)(f:Str):TE:=le (jF K f Q)
inductive jS(K:PySem.W.Frag)(f:Str)(N:jf)(y x:V)(b7:Hp):Prop|mk:∀a C dx G,b x bc (b7 a=aa (aI C G)) Zn anF (U8<1000->N (upd b7 a bdh)->jS K f N y x b7)
def aOV(K:PySem.W.Frag)(d6 L:TE)(f:Str):TS:=f0 (L M H (su (d6 M a8 (jS K f (mI M) y))))
def adm(X:Cx)(j:Operator)(F:Fw):Prop:=∀(pins:bw)(s:Shared)(M:St)(H:Hp)(x y:V)(u v:Value)(Q:VK),bG pS Yp (F x y H Q) (aBj j u v)
def aOW(K:PySem.W.Frag)(d6 L:TE)(F:Fw)(f:Str):TS:=f0 (d6 M H (jJ (∃a C dx G v,x=bc/\aIR/\N Zn anF aHz (L M a8 (p6 (F v y b7 (fun z d4=>∃t b,d4 a=aa (.ins C t b)/\cw<1000/\mI M (qE (.ins C t (kq f z b))))))))))
section z
variable{X:Cx}{o e B:Expr}{f:Str}{pos E T:Pos}{d6 L:TE}
theorem aOX(a0:M e d6)(U:bgz):zu X.K:=by rw[fz];refine aOT U a7J;obtain⟨x,a8,r,R,a,C,dx,G,v,ex,d0,c,n,l,q⟩:=P;rw[l_,Ey];exact arb r d0 c n l (fun F b5 Y m=>a v a8 Y m q)
theorem aOY{d:PySem.W.Frag}(b3:amK)(d3:aoe)(c0:BA (j4 f E))(g:Bh):bn [j4 f E] B pos (aOV d d6 L f):=by rw[ub,la];refine plainObj_wpAny_Assign_Attribute (bU d3 (fun u a4⟨y,a8,r,Z,q⟩=>o b3 a4 a8 r q (fun ov b5 P=>?_))) c0;obtain⟨x,b7,Y,R,a,C,dx,G,ex,d0,c,n,l,q2⟩:=P;rw[l_,fv (ov=dm a) R];exact arc Y d0 c n l Z (fun c8 O=>d M _ O q2)
theorem adn{d:PySem.W.Frag}{j:Operator}{F:Fw}(b3:amK)(d3:aoe)(i:adm X j F)(g:Bh):fu (j4 f T) B (aOW d d6 L F f):=by rw[ub,la];refine wpAny_AugAssign_AttributeAny (bU b3 (fun ov a4 P=>?_));obtain⟨x,a8,r,R,a,C,dx,G,v,ex,d0,c,n,l,q⟩:=P;rw[l_,fv (ov=dm a) R];refine arb r d0 c n l (fun u b5 Y m=>o d3 b5 a8 Y q (fun w c8 e0=>by rw[r y b7 O Z q3];exact ft (@i aI c8 M b7 v y u w _ O m Z q3) (fun p d9 e0=>by obtain⟨z,d4,a5,e,t,b,k,i1,i6⟩:=e0;exact arc a5 k c n i1 e (fun f9 A=>d M _ A i6))))
inductive ard(x:V)(y:V)(H:Hp)(Q:VK):Prop|mk:p6 (i+j) (ard x y H Q)
inductive arf(x:V)(y:V)(H:Hp)(Q:VK):Prop|mk:p6 (i-j) (arf x y H Q)
theorem arh:adm X .Add ard:=by rintro pins s M H x y u v Q I R Z⟨i,j,rfl,rfl,q⟩;rw[ev (dx (jU QL) R),GL Z];exact PyProof.Rows.iadd_int (n6 (i+j))
theorem aOZ:adm X .Sub arf:=by rintro pins s M H x y u v Q I R Z⟨i,j,rfl,rfl,q⟩;rw[ev (dx (jU QL) R),GL Z];exact PyProof.Rows.isub_int (n6 (i-j))
universe z
section z
variable{X:Cx}{pins:bw}{M:St}{H:Hp}{s:Shared}{A:Around}{E:aU}{Q:aU}{c:Value}{b:Bool}
universe z
universe L2
namespace L2
open PySem PySem.Spec PyProof.Rows
structure hZ(k:Nat)(A:Around):Prop where
 hd:om
 dp:ag9+3*k+5<a1M
 un:sW+16*k+200<gG
theorem hZ.mono{j k:Nat}{A:Around}(J:JS)(h:j<=k):hZ j A:=v J.hd (bv J.dp (uW this h h h)) (by have:=ag_;lia-abstractProof)
theorem hZ.deeper{k:Nat}{A:Around}(J:hZ (k+1) A)(env:Env):hZ k (ag' env):=v J.hd (by have:=J.dp;show ag9+1+3*k+5<_;exact EB) (by have:=ag_;show sW+3+16*k+200<_;exact EB)
theorem aO0{A:Around}{C:Addr}{b1:aM}{a:Jl}:(aol).depth=ag9+1:=by first|rfl|simp[aBB,Code.weight,Code.isCreation,Code.isGuard,Code.isCaller,a1N,aBA,guardIds]
theorem aO1{A:Around}{C:Addr}{b1:aM}{a:Jl}:(aol).units=sW+1:=by first|rfl|simp[aBB,Code.cUnits,a1N,aBA]
theorem hZ.make{k:Nat}{A:Around}(J:hZ (k+1) A)(C:Addr)(b1:aM)(a:Jl):hZ k aol:=v J.hd (by have:=J.dp;rw[aO0];exact EB) (by have:=ag_;rw[aO1];exact EB)
theorem hZ.depth{k:Nat}{A:Around}(J:JS):ag9<a1M:=bv J.dp EB
theorem hZ.units{k:Nat}{A:Around}(J:JS):kB 64:=aIX
theorem hZ.bjl{k:Nat}{A:Around}(J:JS):sW<gG:=aIX
def sh:TA:=l1 (Q [] H)
def qB(d6:TE)(o:TA):TA:=qC (o M a8 (fun O b7=>Q (x::O) b7))
section z
variable{X:Cx}{e:Expr}{a7:fE}{b8:TE}{t:TA}{pos:Pos}
theorem Sj:PA X [] sh:=fun _ _ _ _ H Q I h=>aBC bam
theorem ve(b3:rV)(a6:aHP)(c0:Bv):PA X rp (qB b8 t):=by intro pos aI s M H Q I h;rw[c0];refine a1O (bU b3 (fun u a4 e0=>by rw[r x a8 r r1 d2];exact gA a6 d2 (of O (a (x::O) b7 Y (.cons r1 r2) q2))))
inductive KR(o:af->HO)(Q:VK)(O:af)(a8:Hp):Prop|mk:Jk->ad p (gE p) (Q fP (upd a8 p (o O)))->KR o Q O a8
def aO2(t:TA):TE:=jS (KR .tup Q)
def aO3(t:TA):TE:=jS (KR .lst Q)
theorem KS{e7}(h:aHP):M (.Tuple a7 e7 pos) (aO2 t):=gR (wpAny_Tuple_spliced bio) (upd a8 fY tO) (a z b1 J _ gL rfl _ rfl)
theorem yE(h:aHP):M (.List a7 pos) (aO3 t):=gR (wpAny_List_spliced bio) (U a8 fY O) (a z b1 0 J gL)
universe z
abbrev Sp:=aa af Hp VK XK
abbrev mr:=c kf Hp vM XK aU
structure ado(P:Program)(w:World)(K:PySem.W.Frag)(mg:dN)(base:Heap)(A:Around)(outer:kf)(s:Shared)(H:Hp):Prop where
 frames:A.frames=aa eA
 mod:Mod K mg aj
 bs:hy (base.get? b) (ha/\gu)
 R1:base.objs.size<=aO
 uZ:agV aj eA
 F1:bG (uY eA) gu
 dt:fs H bh
 bare:Hi sT
inductive CE(outer:kf)(P:Program)(w:World)(H:Hp)(s:Shared)(Q:VK)(u:Value)(c1:Shared):Prop|mk:∀v L,b Vg CO (Hi Vf) (Un (uY eA) [] H L bh mH) (fs L mH) (jl->Q v L->aMb)
def CR(T:mr)(outer:kf)(P:Program)(w:World)(H:Hp)(s:Shared)(Q:VK)(E:XK)(J:Result)(c1:Shared):Prop:=match J with| .ok (.ret u)=>aMb| .ok _=>cE| .error e=>T eA H s E e c1
structure vf(P:Program)(w:World)(K:PySem.W.Frag)(mg:dN)(base:Heap)(T:mr)(k:Nat)(f:Addr)(fd:FuncData)(c5:cW)(e8:Sp):Prop where
 len:alp
 run:∀(A:Around)(outer:kf)(s:Shared)(H:Hp)(i:Args)(b1:aM)(vs:af)(Q:VK)(E:XK),j JS (vr A) (aBD s fd i (MP b1)) Fn aFV (Hr (jx P w) A (.call rF i) (CR T eA P w H s Q E) s)
theorem vf.mono{P:Program}{w:World}{K:PySem.W.Frag}{mg:dN}{base:Heap}{T:mr}{j k:Nat}{f:Addr}{fd:FuncData}{c5:cW}{e8:Sp}(F:f3 T j fd)(h:j<=k):vf P w K mg aj T k f fd c5 e8:=⟨F.len,fun A eA s H i b1 vs Q E a6=>F.run A eA s H i b1 vs Q E (aha h)⟩
theorem ado.make{P:Program}{w:World}{K:PySem.W.Frag}{mg:dN}{base:Heap}{A:Around}{outer:kf}{s:Shared}{H:Hp}(e:vr A)(C:Addr)(b1:aM)(a:Jl):vr aol:=a (by first|exact e.frames|(simpa[aBB,Code.envs,aBA,pushEnvs]using e.frames)) e.mod e.bs e.R1 e.uZ e.F1 e.dt e.bare
section z
variable{X:Cx}{pins:bw}{M:St}{H:Hp}{s c1:Shared}
theorem Inv.ari(I:aZ):ado eB X.w X.K mJ sS X.A oS s H:=a a1P aBe I.bs (cn agW I.sz) I.stack I.aqJ er zl
theorem Inv.after{Q:VK}{u:Value}(I:aZ)(h:CE oS eB X.w H s Q u c1):f3 u c1:=by obtain⟨v,L,os,bare,un,dt,J,q⟩:=h;obtain⟨c7,g,d,t,a⟩:=c1;rw[fv (a=CO) os];exact a v L (I.call (h':=c7) (g':=g) (d':=d) (t':=t) (ch:=[]) un dt bare (fun b z=>cy z jN)) J q
universe z
def F8(e8:Sp)(b:af)(E:XK)(t:TA):TE:=xs (e8 (vs++b) a8 Q E)
inductive jM(C:Addr)(m:Str)(e8:Sp)(b:af)(E:XK)(t:TA)(M:St)(Q:VK)(x:V)(a8:Hp):Prop|mk:∀a dx G,b x bc aIR (Vo m=ae) (t M a8 (fun vs b7=>e8 (x::(vs++b)) b7 Q E)) (jM C m e8 b E t M Q x a8)
def aO4(C:Addr)(m:Str)(e8:Sp)(b:af)(E:XK)(d6:TE)(t:TA):TE:=le (jM C m e8 b E t M Q)
def arj(C:Addr)(e8:Sp)(b:af)(E:XK)(t:TA):TE:=xs (gF (gE x) (gE dx) (cy a8 dx Zc))
def Binds(K:PySem.W.Frag)(fd:FuncData)(c5:cW)(c7:aM):Prop:=∀(s:Shared)(b1:aM),vQ bh->t (b1++c7)=kB->aBD s fd (eb b1) (MP (b1++c7))
theorem Binds.all{K:PySem.W.Frag}{fd:FuncData}{c5:cW}(h:∀b1:aM,CI fd):aaA:=fun s b1 _ a5=>by rw[qQ]at a5⊢;exact .of_eq (h b1 a5)
def Passes(T:mr)(X:Cx)(E:XK):Prop:=∀(pins:bw)(M:St)(H:Hp)(s:Shared)(e:Value)(c1:Shared),aZ->T oS H s E e c1->oT e c1
section z
variable{X:Cx}{T:mr}{k:Nat}{f C:Addr}{fd:FuncData}{c5:cW}{e8:Sp}{b:af}{c7:aM}{E:XK}{x m:Str}{p pos i:Pos}{e o:Expr}{a7:fE}{d6:TE}{t:TA}
theorem adp{pins:bw}{M:St}{H:Hp}{s:Shared}{Q:VK}{b1:aM}{vs:af}(F:Ko)(a6:Qq)(U:Ki)(hd:J_)(S:Kk)(I:aZ)(J:Fn)(h:e8 (vs++b) H Q E):xe rF:=by have r2:=Vq hd;refine aBE (MR (F.run X.A oS s H (eb b1) (b1++c7) (vs++b) Q E a6 I.ari (U s b1 vY (bl r2.length (F.len _ _ _ _ h))) r2 h) (fun J c1 e0=>?_));cases J with|error e=>{exact S aI M H s e c1 I e0}|ok fl=>cases fl with|ret u=>{exact I.after e0}|next=>{assumption}|brk=>{assumption}|cont=>exact MQ e0
theorem aO5(F:Ko)(a6:Qq)(d8:qo)(c4:jM (mJ x) f)(c3:U2 X.K rF=ab)(U:Ki)(hd:J_)(S:Kk)(b3:FA)(l:mj)(a0:Bv)(b8:JW):pk (F8 e8 b E t):=q9 c3 (adp F a6 U hd S r J q)
theorem jo{d5:al'}(a0:amK)(c:aah)(c4:y3 f)(F:Ko)(a6:Qq)(U:Ki)(hd:J_)(S:Kk)(b3:FA)(z:Bv)(b8:JW)(c6:ch (e1 (dO m rp pos)=(do{let ov<-eval o X.env;standAt i.atName;let(f,first)<-holding [ov] (getMethod ov m d5);callWith pos f first (backTo pos (starEach (e::a7) X.env)) (backToKw pos (keywordEach [] X.env))}))):q1 rp t:=Lq (a1Q (first:=uo) (h₀:=sS) a1R c4.kp (gA b3 q (fun b1 b5 e0=>by rw[r vs b7 Y J q2];exact⟨Y.Kz,adp (b1:=bc::b1) (vs:=bc::vs) F a6 U hd S Y (.cons rfl J) q2⟩)) z b8)
theorem Sk{d5:al'}(a0:amK)(c:aah)(c4:y3 f)(F:Ko)(a6:Qq)(U:Ki)(hd:J_)(S:Kk)(c6:ch (e1 (dO m [] pos)=(do{let ov<-eval o X.env;standAt i.atName;let(f,first)<-holding [ov] (getMethod ov m d5);callWith pos f first (backTo pos (starEach [] X.env)) (backToKw pos (keywordEach [] X.env))}))):q1 [] sh:=Lq (a1S (first:=uo) r.Kz c4.kp (adp (b1:=uo) (vs:=uo) F a6 U hd S r (hw rfl) q))
structure Mk(K:PySem.W.Frag)(C f:Addr):Prop where
 makes:ams
 init:a87
 fn:p0 rF
 kp:aIj
theorem ark{pins:bw}{M:St}{H:Hp}{s:Shared}{Q:VK}{b1:aM}{vs:af}(d5:aJk)(F:Ko)(a6:aIx)(U:Ki)(hd:J_)(S:Kk)(I:aZ)(J:Fn)(h:gF (Y x) (Y dx) (eb (ad dx Ei) Zc)):xe xi:=by have e0:=h iy aO (zo (a1T _)) pY (gF jX);have Y:=Inv.made (C:=C) I;have r2:iQ (gV iy::(vs++b)) bdF:= .cons rfl (Vq hd);refine aBE (aOP (f:=f) vY d5.makes d5.init (a1I d5.fn) (MR (F.run _ oS _ _ (eb (dm iy::b1)) bdF _ _ E (a6.make C b1 []) (Y.ari.make C b1 []) (U _ (dm iy::b1) Y.Kz (by rw[c7 r2.length,a6 (F.len _ _ _ _ e0)];exact CX)) r2 e0) (fun J c1 a=>?_)));cases J with|error e=>{exact S aI M _ _ e c1 Y a}|ok fl=>cases fl with|ret u=>{obtain⟨v,L,O,rv,B,q3⟩:=aBF a;subst B;exact a rv (gV iy) L O (bd q3)}|next=>{assumption}|brk=>{assumption}|cont=>exact MQ a
theorem aO6(d5:aJk)(F:Ko)(a6:aIx)(d8:qo)(c4:mJ x=aa xi)(U:Ki)(hd:J_)(S:Kk)(b3:FA)(l:mj)(a0:Bv)(b8:JW):pk (arj C e8 b E t):=q9 d5.kp (ark d5 F a6 U hd S r J q)
theorem arl(d5:aJk)(F:Ko)(a6:aIx)(d8:qo)(c4:mJ x=aa xi)(U:Ki)(hd:J_)(S:Kk)(l:mj):M (eA x []) (arj C e8 b E sh):=C4 (a1S vY d5.kp (ark (b1:=[]) d5 F a6 U hd S I .nil h))
universe z
section z
variable{X:Cx}{T:mr}{k:Nat}{f C:Addr}{fd:FuncData}{c5 K:cW}{e8:Sp}{E:XK}{x m:Str}{p pos i a:Pos}{e o:Expr}{a7:fE}{b:bK aBG}{b8 d6:TE}{t D:TA}{d1:bY Str}
variable{g:aM->aM->aM}{a:af->af->af}
universe z
structure adq(N P:cW)(a:Scope):Prop where
 kind:sH a1U
 co:a.isCoroutine=ah
 gen:a.isGenerator=ah
 nd:N.Nodup
 pre:N.take P.length=P
 par:aL P a9T
 aO7:dw aBH (y.2≠.free)
theorem arn{kindOf:amE}{x:Str}:KI (ahb CY a m x)|[],_,_=>rfl|(n,v)::J,m,h=>by unfold bindL;rw[arn a'X];split;rw[cL];{rfl}
theorem aro{kindOf:amE}{x:Str}:KI (ahc CY a m x)|[],_,_=>rfl|(n,v)::J,m,h=>by unfold bindC;rw[aro a'X];split;{rfl};rw[dX]
theorem arp{kindOf:amE}{x:Str}{v:Value}:q7 (ld (CY x)) (ahb CY (aBI vs) m x)|[],_,_,_,_,h,_,_=>bB|_::_,[],_,_,_,_,h,_=>bB|p::P,w::vs,0,m,nd,a3,a9,c3=>by{simp at a3 a9;subst a3;subst a9;show ahb CY bc6 m p=_;unfold bindL;rw[arn bdC,aJ c3];exact cO}|p::P,w::vs,i+1,m,nd,a3,a9,c3=>by unfold bindL;exact arp (i:=i) (AL).2 bB bB c3
theorem arq{kindOf:amE}{x:Str}{v:Value}:q7 (CY x≠aa .local) (ahc CY (aBI vs) m x)|[],_,_,_,_,h,_,_=>bB|_::_,[],_,_,_,_,h,_=>bB|p::P,w::vs,0,m,nd,a3,a9,c3=>by{simp at a3 a9;subst a3;subst a9;show ahc CY bc6 m p=_;unfold bindC;rw[aro bdC,bj c3];exact cO}|p::P,w::vs,i+1,m,nd,a3,a9,c3=>by unfold bindC;exact arq (i:=i) (AL).2 bB bB c3
noncomputable def start(N:cW)(vs:af):St:=Vs aa++Vr (iT-iS) ae
noncomputable def yF(T:mr)(P:Program)(w:World)(K:PySem.W.Frag)(mg:dN)(base:Heap)(N:cW)(j:Str)(d:Scope)(f:Addr)(R:Value)(A:Around)(outer:kf)(s:Shared)(H:Hp)(E:XK):Cx where prog:=P;w:=w;K:=K;mg:=mg;base:=aj;A:=ag' J7;N:=N;F0:=s;Ky:=H;env:=J7;outer:=eA;stack:=J7::eA;ex:=[];calm:=ab;fn:=as ab;pn:=[];xe:=fun e c1=>fe (jx P w) (ag' J7) (leaving J7 e) (fun _ M=>T eA H s E e M) (fun d3 M=>T eA H s E d3 M) c1
theorem ars{a:Scope}{n:Nat}{x:Str}(h:j5 (vR x)):aC c (fu (zt n aBH []) x) c:=x (a1V (a1W aBH n [] AI))
theorem aO8{T:mr}{P:Program}{w:World}{K:PySem.W.Frag}{mg:dN}{base:Heap}{N c5:cW}{j:Str}{d:Scope}{f:Addr}{R:Value}{A:Around}{outer:kf}{s a4:Shared}{H:Hp}{E:XK}{b1:aM}{vs:af}(r:adq N c5 d)(hd:om)(f5:vr A)(a5:iS=kB)(J:Fn)(x:InCallC s aO (ahb (J7).kindOf (MP b1) uB) (zt iy mL []) (ahc (J7).kindOf (MP b1) uB) a4):Inv (yF T P w K mg aj N j d f R A eA s H E) [] (MS N vs) H a4:=by have b8:kB<=iT:=by{rw[it r.pre,am eS];exact cn CZ (oV kB iT)};obtain⟨a3,D,rfl,c3⟩:=x.done;have G:∀b:eh,b∉(yF T P w K mg aj N j d f R A eA s H E).ex:=fun b z=>Ab z;rw[b (a f5.mod r.kind rfl rfl aY (fun y z c a3 a9=>?_) Q6 (fun y c _ h=>?_) (a (as hd) (Around.frames_deeper f5.frames) (.inr xJ) a9t f5.bs f5.R1 (fun b _ _=>G b) a9t f5.uZ f5.F1)) rfl f5.bare (agS c3) (aw x.toInCall.ns (fun i y v a3 a9 e2=>?_)) (fun y c h=>aW (x.cell y c h)) (a1X aY) (fun y c h=>?_) (aJ (GU ([]:bw)) (f5.dt.kept c3)),l (name_of_addr x.apart (oU a3) (oU a9))];{have b6:=b6;rw[bcn,l (ars b6),cF rfl (r.aO7 _ (oU b6))]};rw[l be3];{have hi:i<iS:=by{delta MS at a9;rw[fY hi iS,l hi,dX]};have b3:A vs v:=by{delta MS at a9;rw[hD hV,cz]at a9;cases e:vs[i]? with|none=>{simp_all}|some a=>simp_all};rw[bl hu rv (ahd b3)];have c2:A c5 y:=by{rw[<-r.pre,sX ai];exact a3};rw[br g c5.Nodup r.pre (r.nd.sublist (aBK _ _)),ak u rv,v8 (r.par y (bM c2)),dR ⟨k,arp g c2 hu k⟩];{rw[cl c (ars (n:=iy) k)];refine .inr (a2 Pa c e);rw[cN (x.cell y c e),cQ (arq g c2 hu (by show MT y≠_;rw[k];decide))];exact q}};rw[l (a1X be3)];{delta MS;show _=iT;rw[cj,bA,aBJ];simp[*]}
theorem aO9{T:mr}{P:Program}{w:World}{K:PySem.W.Frag}{mg:dN}{base:Heap}{k:Nat}{f:Addr}{c j:Str}{h:Arguments}{a:uj}{d:Scope}{Z kV p b3 e3 ct D:Value}{g m:nk}{z:EA}{N c5:cW}{e8:Sp}(lk:Ck bhV)(S:aLF)(r:adq N c5 d)(len:alp)(l:∀(A:Around)(outer:kf)(s:Shared)(H:Hp)(vs:af)(Q:VK)(E:XK),fb (ahe j d aO f e3) (yF T P w K mg aj N j d f e3 A eA s H E) a):f3 T (k+1) bhV:=by rw[v len (fun A eA s H i b1 vs Q E a6 f5 U J C=>?_)];have y:=f5.mod.kin.keeps bez;refine codeAny_call_function a6.depth (y _ _ lk) rfl r.co r.gen rfl (PySem.W.codeRec_of y S) (U _ _ _ _ (wpAny_newFunctionEnv_cells r.kind (fun⟨n,v⟩b6=>by rw[al (r.par n (a1Y b6).1),l AZ,co ⟨q,a1W _ _ _ (.inl q)⟩]) (fun env a0 a4 x=>?_)));subst a0;rw[v ((f5.mod.nolimit.keeps bez).keeps x.toInCall.keep) (codeAny_func ?_)];obtain⟨t,c6,e0⟩:=l A eA s H vs Q E (a6.deeper _) C;refine wh (@c6 [] a4 (MS N vs) H _ (aO8 r a6.hd f5 (len _ _ _ _ C) J x) e0) (fun fl c1 c0=>?_) (fun e c1 c0=>c0);have fin:∀{g0:St}{L:Hp}{v:V}{u:Value},i (Inv (yF T P w K mg aj N j d f e3 A eA s H E) [] g0 L c1) jl (Q v L) aMb:=fun{g0 L v u}d0 rv q=>a v L d0.os d0.bare d0.base d0.dt rv q;cases fl with|ret u=>{rw[i v g0 L d0 rv q c0 (fin d0 rv q)]}|next=>{obtain⟨g0,L,d0,q⟩:=c0;exact fin (v:=Hs) (u:=CL) d0 rfl q}|brk=>{rw[beu]}|cont=>rw[beu]
universe L2
namespace L2
open PySem PySem.Spec PyProof.Rows
section z
variable{X:Cx}{x:Str}{p pos:Pos}{e:Expr}{a7:fE}{t:TA}{id T:String}{J:mn af}
def KU(J:mn af)(t:TA):TE:=xs (J vs a8 Q)
theorem F9(b0:f1 id J)(d8:qo)(c4:ge x)(d3:vV x=aa X_)(b3:FA)(d1:aHC)(l:mj)(a0:Bv)(b8:JW):pk (KU J t):=Ie (PyProof.Rows.callWith_builtin1 bfJ a0 b8)
theorem Sl(b0:BF X (.type T) J)(d8:qo)(c4:ge x)(d3:vV x=aa (.type T))(b3:FA)(d1:aHC)(l:mj)(a0:Bv)(b8:JW):pk (KU J t):=Ie (Vt bfJ a0 b8)
universe z
universe L2
namespace HT
open PySem PyProof.Rows
noncomputable def lexLt:aKc|[],[]=>ah|[],_::_=>ab|_::_,[]=>ah|x::O,y::d7=>v x y (zu O d7) aGY
theorem aO_(x y:Int)(O d7:aQ):zu (x::O) Q1=v x y (zu O d7) aGY:=rfl
theorem aO':zu [] []=ah:=rfl
theorem aPa(y:Int)(d7:aQ):zu [] Q1=ab:=rfl
theorem aPb(x:Int)(O:aQ):zu (x::O) []=ah:=rfl
theorem aPc(A:Around)(s:Shared)(a:Int)(t:Tok)(c:Int)(u:Tok):z e (aBL A s (e0 a) (mN c) e) (bD e (a=c)):=v (a==c) (a1Z a t c u) aT
theorem aPd(A:Around)(s:Shared)(a:Int)(t:Tok)(c:Int)(u:Tok)(prog:Program)(w:World)(E:aU)(Q:aU)(h:j7 (bT a c)):zx .Lt:=nb (PyProof.Rows.lt_int h) .Lt
section z
open PySem.SeqAt
open PySem.AutoSeq1(wpAny_loadPart')
open PySem.MeetsSeq PySem.MeetsSeq2 PySem.MeetsSeq3
theorem aPe(l b:Addr)(f i:dW)(n n2:Nat)(j o:nk)(sl p:EA)(ns d8:aQ)(hi:QV)(b8:Rh):nE (Builtin.«tuple.__lt__» aKe) aou:=Cd (by rw[lH c2 D,aL0];have h3:=aBM;rw[aMz,aMA];wp_delta;wp_delta;rw[bS,aM5,aJq,As,dM,dM,bS,nc (zW (∃(vs ws:aM)(I k:aQ),Ct (zu I k))) _];(case turn=>rintro⟨y,x⟩m b c1⟨j6,rfl,vs,ws,I,k,c9,v,r,E,hR⟩;cases v with|nil=>{trivial}|cons a t C=>cases r with|nil=>{trivial}|cons c u F=>rw[alf];injection c9 with G H;rw[aLk];subst b6 S;rw[gB aO_,aIe,aM1,C aMN];cases e with|true=>{rw[gB aJz,hj];{rfl};rw[dM];exact Cq aL5}|false=>rw[gB (mQ q zv)];have J:=aPd kC OK a t c u cN w;rw[ez ahf];{rfl};rw[bS,aHm,bS,ez J,aMX]);(case fin=>rintro⟨h2,e2⟩c1⟨j6,rfl,vs,ws,I,k,c9,v,r,E,hR⟩;rw[aG8];subst j6;have d3:zu I k=bT lF Vu:=by{cases v with|nil=>{cases r with|nil=>{rw[fj MU aO' aIv]}|cons c u hw=>rw[kr aPa (nc E.g)]}|cons a t d3=>rw[m7 aPb aIv]};rw[gB d3];wp_delta;wp_delta;rw[dM];exact aLL);case h=>rw[aM6])
universe z
section z
variable{prog:Program}{w:World}{A:Around}{E:aU}{s:Shared}
theorem aPf{l b:Addr}{f i:dW}{ns d8:aQ}{Q:aU}(a5:aI7)(U:aKD)(hi:QV)(b8:Rh)(hu:sW<gG)(h:j7 aou):z0 .Lt:=r .Lt PySem.F.slot_tuple_lt PySem.F.entry_tuple_lt (PySem.F.args_tuple_lt_2 _ _) (aPe l b f i n n2 j o sl p ns d8 hi b8) aou aou
noncomputable def yG(n d:Nat):el->Nat|none=>d|some v=>if v<0 then gB v cK else kl a10
theorem art(n d:Nat):yG n d ae=d:=rfl
theorem bjm(n d k:Nat):yG n d (gP k)=kl k:=by show(if v k<0 then gB (v k) cK else kl (v k).toNat)=kl k;rw[bj aT,iU]
theorem aPg(n d:Nat)(hd:d<=n)(o:el):yG n d o<=n:=by cases o with|none=>{exact hd}|some v=>show bbB<=n;by_cases d3:v<0;rw[EW,EW]
theorem aru(v:Int)(n d:Nat):(if v<0 then bcw else min v cK)=j7 d pJ:=by show bo (v<0) bcw (min v cK)=ae bbB;by_cases d3:v<0;rw[a_,cL]
theorem aPh(lo hi:el)(n:Nat):be7=(ao',j7 n hi):=by have a3:¬(v 1<0):=by{decide};delta a11;simp only[a3,iV];refine sQ ?_ ?_;{cases lo with|none=>{rfl}|some v=>exact aru v n 0};{cases hi with|none=>{rfl}|some v=>exact aru v n n}
theorem aPi(i j:Nat):ahg xy (v j) 1=j-i:=by delta ahg;have a3:v 1>0:=by{decide};simp only[a3,mM,Int.ediv_one];split<;>simp_all
theorem arv{v:Value}{o:el}{Q:dE el}(p:MV v o)(h:Q o s):bl (Builtin.Slice.slicePartIndex v):=by cases p with|none=>{exact a12 h}|int i t=>exact slicePart_int h
theorem aPj{sl:Addr}{i5 c:Value}{lo hi:el}{n:Nat}{Q:dE (Int×Int×Nat)}(c0:aMj)(d5:aJI)(a9:MV c hi)(h:Q (ao',1,yG n n hi-yG n 0 lo) s):bl (a13 al5 (eU cK)):=by rw[bfH];delta a13 Builtin.Slice.sliceFields;rw[fJ (m2 i5 (bE (m2 c (bE (m2 .none (fd (a12 ?_))))))),aO ax,C (arv d5 (bE (arv a9 (bE fO)))),o1 (match be7 with|(lo,hi)=>eU (lo,v 1,ahg lo hi 1))];rw[aPh lo hi n];rw[o1 (eU (ao',v 1,ahg ao' (j7 n hi) 1)),J aPi xA]
theorem aPk(O:dW)(i k:Nat):hC (i_ k bg2)=hC (an (a14 i) k):=by have e:(bg2)=bo O[i+m]?:=funext (bo (by rw[a1B,<-Int.natCast_add,iU]));rw[e];have:=pick_run O i k;rw[am List.filterMap_map,ab b9 ((ab O[x]?)∘ab (i+x)) (bo O[i+m]?),am b9,od]
theorem aPl{t sl:Addr}{f:dW}{i5 c:Value}{lo hi:el}{Q:aU}(c6:Mv bh t f)(c0:aMj)(d5:aJI)(a9:MV c hi)(hw:¬(rG=0/\Jq=lF))(h:Q gp (fX (mK (jz beC))))(G:a1 lF):bl (zp nG al5):=by revert c6 c0 d5 a9 hw h G;revert prog w A E s t sl f i5 c lo hi Q;refine@mn _ _ _ _ _ _ _ _ _ _ _ _ _ _ ?_;generalize qf=prog,qg=w,qh=A,qi=E,qj=s,qk=t,ql=sl,qm=f,qp=i5,qq=c,qt=lo,qu=hi;refine ap2;rw[u3 Q];intro c6 c0 d5 a9 hw h G;have d:sizeOk (.seq beC):=by{show a1 (an (a17 rG) (Jq-rG)).toArray.size;rw[Ht,eS,sR,Vi];exact cn (oV (Jq-rG) (lF-rG)) (cn (qS lF rG) G)};have b8:Jq<=lF:=aPg _ _ aY hi;rw[bfH];have g:lG al5 "slice":=v os a e;delta zp;rw[a97];(first|rw[Qe]|skip);rw[C (wpAny_sequenceKey ahh ax ?_),C (ce "__getitem__" ahh a16 (qR a16 ahh entry_tuple_getitem ?_ (args_tuple_getitem _ _))),td (a15 nG),C (tupleItemsOf_ c6 ?_),w4 g];rw[aJ ax];rw[C (aPj c0 d5 a9 ?_),cb c5 (¬(da (ae rG==0&&v 1==1) ((Jq-rG)==lF))),o1 (mt (ae rG==0&&v 1==1&&(Jq-rG)==lF))];rw[bj c5,aPk];first|exact u4 (px xA)|exact u4 (bE (mY (dl xA)))|exact bE (u4 (mY (dl xA)))|exact bE (u4 (px xA))
universe z
universe HT
namespace L2
open PySem PySem.Spec PyProof.Rows
abbrev TO:=ts (er el)
def PO(X:Cx)(e:PH)(t:TO):Prop:=∀⦃pins:bw⦄(s:Shared)(M:St)(H:Hp)(Q:er el),cw Pn (evalPart e cF) (fun u c1=>∃o L,Bm/\MV u o/\Q o L)
def aPm:TO:=l1 (Q ae H)
def jP(Q:er el)(x:V)(H:Hp):Prop:=match x with| .int i=>Q xv H|_=>cE
theorem jP.out{Q:er el}{x:V}{H:Hp}(h:jP Q x H):z i (x=hT) (Q xv H):=lL jP (dl h)
def aPn(t:TE):TO:=jS (jP Q)
theorem intsAre_of{ns:aQ}:∀{b1:aM},eC xO->sY b1 ns:=by induction ns with|nil=>{intro b1 J;rw[zw]at J;rw[hQ];exact .nil}|cons n ns d6=>intro b1 J;rw[c_]at J;cases J with|cons r1 r2=>rw[cl t r1,b_];exact .cons n t (d6 r2)
section z
variable{X:Cx}{e:Expr}{b8:TE}{lo hi:PH}{h8 a:TO}{pos f6:Pos}
theorem Sm:PO X ae aPm:=by rw[fz];rw[a18];exact cg (a ae H I .none h)
theorem oz(h:rV):PO X rH (aPn b8):=by rw[nl hw];rw[evalPart_some];refine zz (fun u a4 P=>?_);rw[jF x,aJ i rfl d2.out,ev r1];exact a xv a8 r (e0 i) q
def KW(X:Cx)(J:aMa):Prop:=∀(pins:bw)(s:Shared)(M:St)(H:Hp)(x:V)(v i5 c:Value)(lo hi:el)(sl:Addr)(Q:VK),j aZ t_ aMj aJI (MV c hi) (J x lo hi H Q) (∃T id,aBN (.type T) "__getitem__"=eU (aa X_)/\lG v T/\dj (zp v al5) IW)
def tSl(J:aMa)(b8:TE)(h8 a:TO):TE:=hs (op (jJ (h8 M a8 (fun l b7=>a M b7 (fun u d4=>J x l u d4 Q)))))
theorem arw{J:aMa}(a6:KW X J)(a0:rV)(a5:PO X lo h8)(hu:PO X hi a):IH J:=by rw[fz];refine aBO (nl a0 (wpAny_Slice (ey a5 (fun i5 b5⟨l,b7,Y,d5,q2⟩=>mo hu aGr))));obtain⟨u,d4,O,a9,q3⟩:=P;rw[a18];rw[oe];obtain⟨T,id,Z,c6,d8⟩:=a6 aI {c8 with heap:=a19 (l6 "slice" #[i5,c,.none])} M d4 x v i5 c l u sZ Q (O.kept (t':=c8.toks) a7K) r1 (Heap.IsSliceOf.new ..) d5 a9 q3;exact tail_any (ops:=[.ref sZ,v]) c6 Z d8 (by with_unfolding_all rfl)
noncomputable def jq(O:af)(lo hi:el):af:=an (Hf EH) (alU-EH)
theorem aPp(O:af)(lo hi:el):bd aaS bx:=by delta jq;rw[eS,sR];exact cn (oV (alU-EH) (bx-EH)) (qS bx EH)
inductive ads(K:PySem.W.Frag)(x:V)(lo:el)(hi:el)(H:Hp)(Q:VK):Prop|mk:∀a O,b x bc uN (¬(EH=0/\alU=bx)) (ad p (Y p) (Q fP (ad p (.tup aaS)))) (ads K x lo hi H Q)
theorem aPq:KW X (ads X.K):=by intro aI s M H x v i5 c lo hi sl Q I R c0 d5 a9 h;obtain⟨a,O,rfl,S,hw,q⟩:=h;rw[hS,a1 J c6 (CQ S),S E wj bx Ht J.length.symm,j "tuple" _ PyProof.Rows.slot_tuple_getitem.lookup ahh (HT.aPl c6 c0 d5 a9 Jc ?_ Jc)];rw[E];rw[px (.tup aaS) (d bgD _ a9V a_e)]
inductive arx(K:PySem.W.Frag)(x:V)(y:V)(H:Hp)(Q:VK):Prop|mk:∀a b ns d8,b x bc (y=cV) (mO xO) a7G (dy (mO ns d8)->arx K x y H Q)
theorem ary(hu:zx<gG):be .Lt (arx X.K):=CC (HT.aPf e9 f6 (MW r1) (MW r2) hu (eZ (mO ns d8) q))
universe z
universe L2
namespace L2
open PySem PySem.Spec PyProof.Rows
noncomputable def qC(n:Nat)(i:Int):jb:=if 0<=i then(aw (i<n) Vv ae)else aw (-cK<=i) (gB i n) ae
noncomputable def BI{I:Type}(O:ba)(i:Int):bY I:=(qC bx i).bind (iX O[j]?)
theorem arz{n:Nat}{i:Int}{j:Nat}(h:qC n i=aa j):N (Dg n) (j<n) (-cK<=i) (i<n):=by rw[a4 qC];by_cases b1:0<=i;{rw[aj (aJ b1)];by_cases a3:i<n;{rw[aj (aJ a3),c7 (cZ h)];exact d (bj (a2a b1 a3) e) fp (x (FW (Ku n) b1)) a3};rw[ay]};{rw[i2 b1];by_cases a3: -cK<=i;{rw[aj (aJ a3),c7 (cZ h)];exact d (bj (a1' alz a3) e) fp a3 (x (a1_ (aMl b1) (Ku n)))};rw[ay]}
theorem aPr{I:Type}{O:ba}{i:Int}{v:I}(h:sz i):I j (Dg bx) anq (j<bx/\ -v bx<=i/\i<bx):=by rw[a4 BI];cases e:qC bx i with|none=>{simp_all}|some j=>rw[aj e,vc (arz e)];exact c j a3 h a9 e2 e5
theorem dZ{I:Type}{O:ba}{j:Nat}{v:I}(h:anq):sz (v j):=by have b8:=bx h;have e:qC bx (v j)=aa j:=by{delta qC;rw[aJ aT,aJ (x (ml b8))];simp};delta BI;rw[e];exact h
theorem arA{I:Type}(O:ba)(v:I):BI (O++[v]) (-1)=aa v:=by rw[aI a5 (t (O++[v])) (bx+1) cj];have e:qC (t (O++[v])) (-1)=aa bx:=by{delta qC;rw[a5,bj ax,aJ OL];rw[dY];simp+arith [*]};delta BI;rw[e];simp
def arB(b:Expr):Prop:=∀o i,ahi b ah o i=aBP [o,i] (zp o i)
def KX(X:Cx)(J:R2):Prop:=∀(B a:Expr)(pins:bw)(s:Shared)(M:St)(H:Hp)(x y:V)(v u:Value)(Q:VK),j aZ t_ lh (J x y H Q) (ahi a ah v u=aBP [v,u] (zp v u)) (dj (a2b B a v u) IW)
def MtR(X:Cx)(id:String)(J:QG):Prop:=∀(pins:bw)(s:Shared)(M:St)(H:Hp)(x:V)(O:af)(v:Value)(b1:aM)(Q:VK),beL
section z
variable{X:Cx}{a b:Expr}{d6 c3:TE}{pos:Pos}
theorem Sn{J:R2}(a6:KX X J)(b3:fV)(U:lr)(c0:arB b):M (e3 a b) Yu:=nM (aBO (CA (@a6 a b aI b5 M b7 x y v u Q Y R Z q (c0 _ _))))
inductive So(K:PySem.W.Frag)(x:V)(y:V)(H:Hp)(Q:VK):Prop|mk:p3 ZK (So K x y H Q)
inductive Sq(K:PySem.W.Frag)(x:V)(y:V)(H:Hp)(Q:VK):Prop|mk:p3 (nm O) (Sq K x y H Q)
theorem arD:KX X (So X.K):=by intro B a aI s M H x y v u Q I R Z h c0;rw[beM,hS,ev Z,a1 J d5 OG,bh8,bdZ,f5 vX,f4 Sh];have fin:f3 w s:=a z H I W q;by_cases b1:0<=i;rw[cQ b8 Vv f (item_listR zq b1 baY ag fin c0)];{rw[gS b8 (gB i (v wj)) e5];exact a2c (x:=w) a2e a2d (wpAny_getItem_list_neg (Q:=baW) zq alz ai baZ cq (bd fin)) c0}
theorem arE:KX X (Sq X.K):=by intro B a aI s M H x y v u Q I R Z h c0;rw[beM,hS,ev Z,a1 J d5 I3,bh8,bdZ,f4 Sh];exact a2c (x:=w) d5.typeIs slot_tuple_getitem.lookup (getItem_tuple (j:=j) (Q:=baW) d5 baZ baY (by rw[Ht,<-vX];exact a3) ag (c rfl z H I W q)) c0
theorem aPs(ar:aM)(n j:Nat)(u:Value):Hu (·.setIfInBounds j u) JZ=r0 (jy (hC (ar.set j u))):=ar Hu
theorem Inv.lst{pins:bw}{M:St}{H:Hp}{s:Shared}{p:Addr}{O:af}(I:aZ)(h:am p O):BS (EF/\c7 p JZ/\Jk):=by rw[vj (er p _ h)];exact a ar n J e z
theorem Inv.aPt{pins:bw}{M:St}{H:Hp}{s:Shared}{p:Addr}{O d7:af}{ar its':aM}{n C:Nat}{f:Obj->Obj}(I:aZ)(h:am p O)(d0:c7 p JZ)(W:f JZ=bbE)(J:iQ d7 MG)(c9:a1 oW)(t:Nat):aR (ap p d7) (dp (Vw p f) t):=by have e:dk (Vw p f) p=aa bbE:=by{rw[C_ f d0 (by rw[W]<;>rfl),W]};refine Vp (x:=p) (e:=p) (w7 h) gn (fun b u U q=>qK q) (aW e) (a c9 MG C J e)
inductive arF(o:V)(i:V)(v:V)(H:Hp)(Q:jf):Prop|mk:∀p O k j,b o fP (i= .int k) (am p O) (qC bx k=aa j) (Q (ap p (O.set j v))->arF o i v H Q)
theorem set_list:ada X arF:=by intro aI s M H o i v ov c u Q I b a rv h;rw[c p O k j rfl c2 b8 q h];cases b;rw[ev a,ah ar J d0 c9 (I.lst c2),vc (arz b8),f5 vX,f4 Sh];have K:=I.aPt c2 d0 (aPs ar n j u) (J.set rv j) hV dE;by_cases b1:0<=k;rw[cQ c3 aBQ e5 (PySem.W.ki_setAt d0 b1 bL ai bz)];{rw[gS c3 (gB k (v wj)) e2];exact PySem.W.ki_setBack d0 alz ai bL bz}
theorem sl1{i:Int}{n:Nat}(h:i<0):max 0 (kl (i+n))=ae (gB i n):=cz Int.toNat_eq_max (Int.min_eq_left (r_ h)) Int.max_comm
theorem sl0{i:Int}{n:Nat}(h:¬i<0):max 0 (kl i)=ae (kl Vv):=by rw[dn k (Int.eq_ofNat_of_zero_le (agP h))];rw[iU];lia
theorem aPw(lo hi:el)(n:Nat):(aMk).1=ae (Dc n 0 lo)/\aV aMk=ae (Dc n n hi)/\(aMk).2.2=1:=by rw[cs ?_ rfl];{cases lo with|none=>{rfl}|some i=>rw[biL]};{cases hi with|none=>{rfl}|some i=>rw[biL]}
theorem aPx(ar:aM)(lo hi:el):slicePick eT lo hi ae=hC (an (ar.drop (Dc Hv 0 lo)) (Dc Hv Hv hi-Dc Hv 0 lo)):=by rw[df a3 e2 (aPw lo hi wj)];delta slicePick;rw[a3,a9,e2];simp only[sliceRange_one,pick_run,Ht]<;>rfl
inductive Sr(K:PySem.W.Frag)(x:V)(lo:el)(hi:el)(H:Hp)(Q:VK):Prop|mk:f a O (x=bc) jk (ad p (Y p) (x2 aaS)) (Sr K x lo hi H Q)
theorem aPy:KW X (Sr X.K):=by intro aI s M H x v i5 c lo hi sl Q I R c0 d5 a9 h;rw[y O rfl S q h,hS,a1 J c6 (sV S)];have E:=vX;rw[j "list" _ a2d c6.isList.typeIs (wpAny_getItem_list_slice c6.isList c0 d5 a9 .none ax ?_ ai)];rw[aPx,<-E];rw[px (.lst aaS) (a bgD _ 0 a9V gL)]
noncomputable def F_:V->cb| .bC=>ab| .bl _=>ab| .int _=>ab| .str _=>ab|_=>ah
noncomputable def yH:dK V V| .bC,.bC=>ab| .bl a,.bl b=>a==b| .bl a,.int b=>bo a 1 0==b| .int a,.bl b=>a==bo b 1 0| .int a,.int b=>a==b| .str a,.str b=>a==b|_,_=>ah
theorem aPz{A:Around}{s:Shared}{y x:V}{u v:Value}(Z:lh)(R:t_)(r2:F_ y=ab)(n:F_ x=ab):aBL A s u v (yH y x):=by cases y with|bC=>{rw[cy (SeqAt.EqAt.same _) (SeqAt.EqAt.none_bool b) (SeqAt.EqAt.none_int b t) (SeqAt.EqAt.none_str b t)]}|bl a=>{rw[cy (SeqAt.EqAt.bool_none a) (SeqAt.EqAt.bool_bool a b) (SeqAt.EqAt.bool_int a b t) (SeqAt.EqAt.bool_str a b t)]}|int a=>{rw[cx (SeqAt.EqAt.int_none a t') (SeqAt.EqAt.int_bool a t' b) (a1Z a t' b t) (a1a a t' b t)]}|str a=>{rw[cx (SeqAt.EqAt.str_none a t') (SeqAt.EqAt.str_bool a t' b) (a0' a t' b t) (SeqAt.EqAt.str_str a t' b t)]}|_=>rw[t9 r2]
noncomputable def qD(x:V)(u:Value):cb:=match u with| .none=>yH .bC x| .bool b=>yH EZ x| .int i _=>yH hT x| .str z _=>yH (.str z) x|_=>ah
theorem arG{x y:V}{u:Value}(J:lh)(f:F_ y=ab):qD x u=yH y x:=by cases y with|bC=>{rw[Fs]}|bl b=>{rw[Fs]}|int i=>{rw[Qp]}|str z=>{rw[Qp]}|_=>rw[t9 f]
theorem arH{x:V}{O:af}{b1:aM}(h:oa)(f:aHi):b1.any (qD x)=a_f:=by induction h with|nil=>{rfl}|cons J t i=>rw[MY,ib]at f;rw[MX,MX,arG J f.1,i f.2]
theorem aPA{A:Around}{s:Shared}{x:V}{v:Value}(R:t_)(n:F_ x=ab){O:af}{b1:aM}(h:oa)(f:aHi)(u:Value)(hu:u∈b1):aBL A s u v (qD x u):=by induction h with|nil=>{exact i0 (oX hu)}|cons J t i=>rw[MY,ib]at f;rw[de (ic hu) hu,Z (arG J f.1) (aPz J R f.1 n),l (i f.2 hu)]
noncomputable def BJ(x:V)(O:af):cb:=a_f
inductive KY(K:PySem.W.Frag)(neg:Bool)(x:V)(y:V)(H:Hp)(Q:VK):Prop|mk:∀p O,b y fP (ZK\/nm O) (F_ x=ab) aHi (dy (if neg then ! BJ x O else BJ x O)->KY K neg x y H Q)
theorem aPB:be .In (KY X.K ah):=rh (SeqAt.in_listAt (qD x) zq ap7 ZW) (a2f (qD x) d5 ap7 ZW)
theorem aPC:be .NotIn (KY X.K ab):=rh (SeqAt.notIn_listAt (qD x) zq ap7 ZW) (SeqAt.notIn_tupleAt (qD x) d5 ap7 ZW)
inductive KZ(K:PySem.W.Frag)(O:af)(H:Hp)(Q:VK):Prop|mk:f p d7 (O=[fP]) bby (m3 oW) (KZ K O H Q)
theorem arI:f1 "len" (KZ X.K):=by rw[Zw,R p d7 e0 q h,aLO,hS,f4 Sh,aGK];{rw[aIn,Zy];exact Calls.call_len_list zq cq a'Q};{rw[aIo,Zy];exact len_tuple d5 cq a'Q}
theorem aPD:Kd (bao\/bah):=by rw[Zw,R p d7 e0 q h,aLO,hS];have fin:∀(ar:aM),iQ d7 ar->a1 oW->∀(h':Heap)(C:Nat),(j b g (c7 b g) (gU b=aa g))->gU aO=aa (hq eT C)->f3 gp tJ:=fun ar B c9 h' C kp e=>m gp _ (Dd (t':=dE) kp aY (show cE _ _ (.lst d7)from a c9 ar C B e)) (q _ pY);rw[aGK];{rw[aIn,Zy];obtain⟨o,d0,b0,n,hd⟩:=zq;exact dd gn kp e ai};{rw[aIo,Zy];obtain⟨o,d0,b0,n,hd⟩:=d5;exact dd EX kp e ai}
theorem aPE:qE bao bah:=by rw[Zw,a0 p d7 rfl h,aLO,hS];rcases h with⟨e0,q⟩|⟨e0,q⟩;{rw[aIn,Zy];refine call_tuple_list zq (fun h' kp=>?_) ai;have r:=MJ (t':=dE) kp;exact m (.ref Vx) _ (r.laid (t':=dE) Pm aY (show ox eB X.w _ _ _ als from d c9 ar B a_e)) (q _ (ahj aY))};{rw[aIo];exact call_tuple_same d5 (m fP H I q)}
def tyV(K:PySem.W.Frag)(T:String)(x:V)(H:Hp):Prop:=match x with| .str _=>T="str"| .int _=>T="int"| .ref p=>(T="list"/\∃O,ZK)\/(T="tuple"/\∃o,be (vN p)/\we=rA/\o.dict=ae)\/(T="dict"/\((∃F,bh p qd)\/∃F,bh p uc))\/(T="set"/\∃r n,bh p (.set r n))|_=>cE
theorem arJ{pins:bw}{M:St}{H:Hp}{s:Shared}{T:String}{x:V}{v:Value}(I:aZ)(J:t_)(A:tyV X.K T x H):lG v T/\E a (v=bc) (z N (c7 a N) (N.dict=ae)):=by cases x with|str z=>{rw[pb "str" (typeIs_str s z t)]}|int i=>{rw[pb "int" (typeIs_int s i t)]}|ref p=>{rw[hQ];rcases A with⟨rfl,O,e0⟩|⟨rfl,o,c3,b0,hd⟩|⟨rfl,c3⟩|⟨rfl,r,n,c3⟩;{obtain⟨ar,_,d5,_⟩:=OG;rw[v a2e (fun a e=>?_),dU];obtain⟨o,n,e,c,hd,_⟩:=d5;exact v o e hd};{rw[v (v o (vY p o c3) b0) (fun a e=>?_),dU];exact v o (vY _ o c3) hd};{have z:z o (gK p) a2g:=by{rcases c3 with⟨F,c3⟩|⟨F,c3⟩;rw[bgU,bgU]};rw[bK e ex z,baD];cases b9;exact a8s};{obtain⟨o,_,_,_,e,ex,_⟩:=er p _ c3;rw[baD];cases b9;exact a8s}}|_=>exact MQ A
def aPF(K:PySem.W.Frag)(T:String)(J:QG)(C:TE):TE:=hs (C M H (jJ (tyV K T x a8/\J x [] a8 Q)))
inductive jBM(K:PySem.W.Frag)(T:String)(J:QG)(t:TA)(M:St)(Q:VK)(x:V)(a8:Hp):Prop|mk:tyV K T x a8->t M a8 (fun O b7=>J x O b7 Q)->jBM K T J t M Q x a8
def tBM(K:PySem.W.Frag)(T:String)(J:QG)(C:TE)(t:TA):TE:=hs (C M H (jBM K T J t M Q))
variable{o e:Expr}{a7:fE}{C:TE}{t:TA}{c:Str}{i a:Pos}{T id:String}{J:QG}
theorem aPG{d:PySem.W.Frag}(u:a79)(slot:Slot T c id)(b:a'm)(c4:MtR X id J)(d0:am7)(f:bgm)(j:bc0)(g:Bh):M (dO c [] a) (aPF d T J C):=by rw[ub,fz];refine wpAny_Call_method0_late f j (lO d0);rw[bii,kF (arJ r r1 A)];exact a T id u jw b a3 a9 (a2h rfl (PySem.evalArgs_none (@c4 aI a4 M a8 x [] v [] Q r r1 .nil d2)))
theorem adv{d:PySem.W.Frag}(u:a79)(slot:Slot T c id)(b:a'm)(c4:MtR X id J)(d0:am7)(b3:FA)(f:bgm)(k:ch (da (eD (aBg a (MC rp cF)) (ab (! x.1))&&eD (bkb a (bkc [] cF)) (ab x.1.isSome)) (bT (t rp+([]:bK aBG).length+bo ([]:bK aBG).isEmpty 0 1) 30)))(j:bc0)(c0:Bv)(l:gf a a7)(g:Bh):M (dO c rp a) (tBM d T J C t):=by rw[ub,fz];refine wpAny_Call_method_late f k j rfl (lO d0);rw[bii,kF (arJ r r1 A),e T id u jw b a3 a9 ?_];have hA:= @b3 a aI a4 M a8 _ r d2;rw[c0]at hA⊢;refine a2h bB (Calls.evalArgs_plain (ft hA (of vs (@c4 aI b5 M b7 x vs v b1 Q Y r1 r2 q2))))
universe z
universe L2
namespace L2
open PySem PySem.Spec PyProof.Rows
def Ss(X:Cx)(id:String)(J:QG):Prop:=∀(pins:bw)(s:Shared)(M:St)(H:Hp)(x:V)(O:af)(v:Value)(b1:aM)(Q:VK),beL
theorem Vals.one{x:V}{b1:aM}(h:eC [x]):a9J:=by cases h with|cons J h=>rw[sM (dl J)]
theorem Vals.two{x y:V}{b1:aM}(h:eC Jp):∃u v,b1=[u,v]/\pS/\Yp:=by cases h with|cons J h=>cases h with|cons q h=>rw[sM (f _ _ J q)]
theorem Vals.zero:∀{b1:aM},eC []->b1=[]|_,.nil=>rfl
theorem Vals.dropLast{O:af}{b1:aM}(h:oa):iQ O.dropLast b1.dropLast:=by induction h with|nil=>{rw[kP]}|cons J t d6=>cases t with|nil=>{rw[kP]}|cons q t'=>rw[cE J d6]
theorem bjn{I:Type}(l:ba):l.eraseIdx (eb-1)=l.dropLast:=aT
section z
variable{X:Cx}{pins:bw}{M:St}{H:Hp}{s:Shared}{l b:Addr}{O d7 zs:af}
theorem Inv.aPH{ar its':aM}{n:Nat}{f:dW->dW}{t':Nat}(I:aZ)(a:am l O)(e:c7 l JZ)(W:f eT=a2i)(d3:iQ d7 MG)(c9:a1 oW):aR (ap l d7) (dp (Vw l (Hu f)) t'):=by rw[cN (PySem.IsL.update e f),cQ W];refine Vp (x:=l) (e:=l) (t a fZ) gn (fun b2 u U hu=>L (aBR bh (Hu f) (hx U)) hu) (aW q) (a c9 MG _ d3 q)
theorem Inv.aPI{ar:aM}{t':Nat}(I:aZ)(d3:iQ d7 ar)(c9:a1 oW):aR (ap aO d7) (dp (mK (jw eT)) t'):=Dd (iF (bU q)) aY (a c9 ar 0 d3 gL)
theorem Inv.fresh(I:aZ):Y aO:=pY
theorem Inv.bjo(I:aZ)(a:am l O):Jk/\BS (EF/\bx=Hv/\c7 l JZ):=by rw[vj (er l _ a)];exact c z ar n J vX e
theorem aPJ{n:Nat}(h:a1 n):a2j n=ah:=cG a2j (ec ag)
universe z
section z
variable{X:Cx}
inductive arL(x:V)(vs:af)(H:Hp)(Q:VK):Prop|mk:∀l O y,eU [y] (bx<hC) (x8 (eM O)->arL x vs H Q)
theorem aPK:Ss X "list.append" arL:=by rw[apF,KN c9,hS,bl rfl m rv.one,aa0];refine ahk F.slot_list_append (bm e) F.entry_list_append (F.args_list_append_2 _ _) (PySem.list_append l eT n u ai) (a e .bC _ (eQ (ar++[u]) aT (Vq (hw m))) (bd q));rw[cj,aBS];trivial
inductive adw(x:V)(vs:af)(H:Hp)(Q:VK):Prop|mk:∀l b O zs,eU [cV] (am b zs) (bbs->x8 (O++zs)->adw x vs H Q)
theorem aPL:Ss X "list.extend" adw:=by rw[apF,cs b O zs hB,hS,bl rfl m rv.one];cases m;rw[aa0,biq,cb G (a1 (wj+a2k))];refine ahk F.slot_list_extend (bm e) F.entry_list_extend (F.args_list_extend_2 _ _) (AutoSeq1.list_extend_list_list_0 l eT n b Vy n2 (ac (aPJ G) ag7 zv) ai (by(constructor<;>trivial))) (a e b9 .bC _ (aP (eQ (ar++t) aT (Vq r2)) q));rw[cj];omega
inductive arM(x:V)(vs:af)(H:Hp)(Q:VK):Prop|mk:∀l O y,eU [] (K O (bx-1) y) (Q y (ap l O.dropLast)->arM x vs H Q)
theorem aPM:Ss X "list.pop" arM:=by rw[apF,KN b6,hS,cb rv.zero];subst b;rw[aa0,bl hu m (ahd b6)];refine ahk F.slot_list_pop (bm e) F.entry_list_pop (F.args_list_pop_1 _) (MeetsSeq.list_pop_last l eT n u ai ai) (c e y _ (eQ ar.dropLast ?_ J.dropLast) m q);{simp};{simp at*;exact ahl z}
inductive arN(x:V)(y:V)(H:Hp)(Q:VK):Prop|mk:∀l b O zs,b x cC (y=cV) (am l O) (am b zs) (bbs->ad p (Y p) (x2 (O++zs))->arN x y H Q)
theorem aPN:f9 .Add arN:=by rw[xx,cs b O zs hB,hS];cases Z;rw[aa0,biq];refine PySem.P.add_list e b9 ?_ ai;rw[aS d0 (eT++Vy) (ar++t).toArray,J d0 (m (.ref _) _ (I.aPI (t':=dE) (Vq r2) hV) (q _ I.fresh))]
universe z
section z
variable{X:Cx}
universe z
universe L2
namespace L2
open PySem PySem.Spec PyProof.Rows
theorem Vals.ints:∀{ns:aQ}{b1:aM},eC xO->sY b1 ns|[],b1,h=>by{rw[aj zw,cH];exact IntsAre.nil}|n::ns,b1,h=>by rw[aj c_];cases h with|cons J t=>rw[dn k J];exact IntsAre.cons n k (Vals.ints t)
theorem Vals.bls:∀{bs:EU}{b1:aM},eC (Vz CV)->b1=Vz vO|[],b1,h=>by{rw[aj zw,cH];rfl}|b::bs,b1,h=>by rw[aj c_];cases h with|cons J t=>rw[hQ];rw[Vals.bls t,c_]
theorem Vals.bjp{a:Addr}{b1:aM}(J:eC [gV a]):b1=[dm a]:=by cases J with|cons J t=>cases t;rw[hQ];rfl
section z
variable{prog:Program}{w:World}{A:Around}{E:aU}{s:Shared}{l:Addr}{ar:aM}{ns:aQ}{Q:aU}
universe z
section z
variable{X:Cx}
universe z
section z
variable{X:Cx}
universe z
section z
variable{X:Cx}
universe z
theorem aPO{prog:Program}{w:World}{A:Around}{E:aU}{s:Shared}{l:Addr}{f:dW}{Q:aU}(a5:De l f)(h:∀g:vM,i (g=fX aKA) (g.heap.IsListIter aO l 0/\g.heap.IsList l f) (l≠aO) (Q gp g)):bl (ML cC):=x (aBm a5 (h _ rfl ⟨Pu,a5.push _⟩ (gF (ge e a5 hh))))
theorem aPP{prog:Program}{w:World}{A:Around}{bs:EU}{ar:aM}(e:ar=Vz vO):TruthOf cN w A (fun i v=>A eT v) (dJ aox):=fun i v s Q E d3 e0=>by rw[dE g (A ar v)];rw[e,cz]at g;rw[a3 b U g,ae d8 aox b];have a:Q aox s:=e0;rw[d8]at a;exact vW a
theorem all_range:∀bs:EU,(eK bs.length).all (dJ aox)=bs.all id|[]=>rfl|b::bs=>by rw[ie,ahm,MY,List.all_map,MY,<-all_range bs];all_goals rfl
section z
variable{X:Cx}
inductive adx(K:PySem.W.Frag)(vs:af)(H:Hp)(Q:VK):Prop|mk:∀(a:Addr)(bs:EU),A [gV a] (mH (Vz CV)) (dy (bs.all id)) (adx K vs H Q)
theorem aPQ(b0:fR):f1 "all" (adx X.K):=by rw[Zx,y bs rfl c0 q h,aK1];rw[VA J];have U:=rv.bls;refine call_all_walk (aPO ahn (fun g b9 st R=>?_));subst b9;rw[d _ _ _ _ _ _ _ (d (aBT (A:=X.A.in1) iz _ a R eT) st (aPP U) (fun h' D c3=>a (.bl _) H (MJ (fun b o y=>c3 b o (fun c=>?_) (bU y))) ?_ q))];{rcases ic c with b4|c;rw[l (iH (b4▸fw y)),ay]};{show vO _=vO _;rw[<-all_range,U,Ht,bA]}
universe z
mutual inductive Dp(K:PySem.W.Frag)(H:Hp):au V Df|bC:ct .bC .none|bl(b:Bool):ct EZ Ja|int(i:Int):ct hT hT|str(x:Str):ct Jv Jv|lst{a:Addr}{O:af}{c7:bK Df}:oW jk aGW|tup{a:Addr}{O:af}{c7:bK Df}:oW uN aG9 inductive Ga(K:PySem.W.Frag)(H:Hp):au af (bK Df)|nil:Ga K H [] []|cons{v:V}{vs:af}{d:PyData}{c7:bK Df}:ct v d->Ga K H vs c7->Ga K H (v::vs) (d::c7)end
section z
variable{X:Cx}{pins:bw}{M:St}{H:Hp}{s:Shared}
mutual theorem Dp.reads(I:aZ):∀(d:PyData)(v:V)(u:Value),Dp X.K H v d->jl->∃Y,Reads bh u d Y| .none,_,_,h,J=>yH Reads.none| .bool b,_,_,h,J=>yH (Reads.bool b)| .int i,_,_,h,J=>Dp (Reads.int i t)| .str x,_,_,h,J=>Dp (Reads.str x t)| .list c7,_,_,h,J=>by{cases h with|lst c0 b3=>rw[hQ];obtain⟨ar,rv,⟨o,n,d0,b0,_,hd⟩,_⟩:=sV c0;rw[fK a6 (aBU I c7 _ ar b3 rv)];exact aW (Reads.list d0 b0 hd a6)}| .tuple c7,_,_,h,J=>by{cases h with|tup c0 b3=>rw[hQ];obtain⟨ar,rv,⟨o,d0,b0,n,hd⟩,_⟩:=CQ c0;rw[fK a6 (aBU I c7 _ ar b3 rv)];exact aW (Reads.tuple d0 b0 hd a6)}| .dict _,_,_,h,_=>PM theorem Dp.readsAll(I:aZ):∀(c7:bK Df)(vs:af)(b1:aM),Ga X.K H vs c7->Fn->∃Y,ReadsAll bh b1 c7 Y|[],_,_,h,J=>yH ReadsAll.nil|d::c7,_,_,h,J=>by{cases h with|cons a3 a9=>cases J with|cons r1 r2=>rw[fK d2 (MZ I d _ _ a3 r1)];obtain⟨bs,q2⟩:=aBU I c7 _ _ a9 r2;exact aW (ReadsAll.cons d2 q2)}end
universe z
section z
variable{X:Cx}
inductive ady(K:PySem.W.Frag)(x:V)(y:V)(H:Hp)(Q:VK):Prop|mk:qW (dy (jy d e)) (ady K x y H Q)
inductive adz(K:PySem.W.Frag)(x:V)(y:V)(H:Hp)(Q:VK):Prop|mk:qW (dy (! jy d e)) (adz K x y H Q)
theorem aPR(hu:uQ):be .Eq (ady X.K):=K9 (SeqAt.compareEq_shaped r1 r2 sd p hu (eZ _ q))
theorem aPS(hu:uQ):be .NotEq (adz X.K):=K9 (SeqAt.compareNe_shaped r1 r2 sd p hu (eZ _ q))
universe z
universe L2
namespace L2
open PySem PySem.Spec PyProof.Rows
abbrev arP(h:Heap)(c:Addr)(v:pF):Prop:=h.IsCell c v
noncomputable def aPT(d a:Scope):Scope:={d with names:=d.names.map (oY (jC k .free) .cell)}
noncomputable def si(a:je):yf->je->je|[],B=>B|(n,k)::J,B=>if k== .free then si a J ((n,aIm)::B)else si a J B
theorem arQ(env:Env)(f:Str×aBV->je->Sem (ForInStep je))(W:∀n k c,f (n,k) c=if k== .free then(do{let a<-cellOf env n;pure (.yield ((n,a)::c))})else eU (.yield c)):∀(d:yf)(B:je),V y d (y.2= .free->a8J)->M0 d B f=eU (si env.cells d B)|[],B,_=>bH|(n,k)::J,B,h=>by rw[qT,W];rw[dB (fun B=>arQ env f W J B (o2 (h y (ck b6))))];unfold si;rw[bC c3 (k==VB)];{rw[aJ c3,aJ c3];rw[db b0 (h (n,k) fx ai)];have e:cellOf env n=eU c:=by{unfold cellOf;rw[b0]};rw[e];rw[ae b9 (eU (aA_ n) 0) c];rw[b9];exact d6 _};rw[a_]
theorem aPU{d:Scope}{env:Env}(h:yC a8J):closureFor d env=eU (si env.cells mL []):=by simp only[closureFor];rw[arQ env _ bep mL [] h];rfl
theorem mem_lookup{I:Type}:∀{l:mC I}{n:Str}{c:I},(n,c)∈l->aC C (l.lookup n) C|(k,v)::J,n,c,h=>by rw[agL];cases U:n==k with|true=>{exact ek}|false=>rw[aKg,ay,l (aBW h)]
set_option tactic.hygienic true in theorem Su{a:je}:∀{d:yf}{B:je}{n:Str}{c:Addr},(n,c)∈aJe->(n,c)∈B\/(baK/\c=aIm)|[],_,_,_,h=>AI|(m,k)::J,B,n,c,h=>by unfold si at h;rw[eI];{rw[YI,dq (Su h) h a9,cL,a_]};{rw[dq (Su h) h a9,l AZ,a_]}
theorem adA{a:je}:∀{d:yf}{B:je}{p:Str×eh},p∈B->p∈aJe|[],_,_,h=>h|(m,k)::J,B,p,h=>by unfold si;split;rw[l (adA (ck h)),l (adA h)]
theorem adB{a:je}:∀{d:yf}{B:je}{n:Str},baK->(n,aIm)∈aJe|(m,k)::J,B,n,h=>by unfold si;rw[aKg];{cases(e);exact adA fx};{split;rw[l (adB h),l (adB h)]}
set_option tactic.hygienic true in theorem Sv:∀{d:yf}{h:Heap}{B:je}{x:Str}{c:Addr},a9Q->(x,c)∈B\/(baL/\mG<=c/\arP (aBY h d) c ae)|[],_,_,_,_,h=>AI|(n,k)::J,h,B,x,c,c4=>by unfold cellsFrom at c4;unfold pushCells;split at c4;{rw[YI];rw[aJ c3];rw[<-lE h a_Q]at c4;rw[bhH];{rw[i8 (ic c4) c4];{cases(e);exact .inr (a ((aI c3)▸fx) aY _ (a2l J _ _ _ gL) rfl)};rw[Fq]};{rw[lE]at a9;exact .inr (v (ck a3) (aBX a9) e2)}};{rw[YI,aO c3,bhH,Fq,a_]}
theorem Sx:∀{d:yf}{n:Nat}{B:je}{p:Str×eh},p∈B->p∈zt n d B|[],_,_,_,h=>h|(m,k)::J,n,B,p,h=>by unfold cellsFrom;split;rw[l (Sx (ck h)),l (Sx h)]
theorem adC:∀{d:yf}{n:Nat}{B:je}{x:Str},baL->∃c,(x,c)∈zt n d B|(m,k)::J,n,B,x,h=>by unfold cellsFrom;rw[aKg];{cases(e);exact⟨n,Sx fx⟩};{split;rw[l (adC h),l (adC h)]}
set_option tactic.hygienic true in theorem adD:∀{d:yf}{h:Heap}{B:je}{x y:Str}{c:Addr},c (V p B (p.2<mG)) (∀x y c,(x,c)∈B->(y,c)∈B->x=y) a9Q ((y,c)∈zt mG d B) (x=y)|[],_,_,_,_,_,_,hi,a3,a9=>hi _ _ _ a3 a9|(n,k)::J,h,B,x,y,c,a5,hi,a3,a9=>by unfold cellsFrom at a3 a9;split at a3;{rw[YI];rw[aJ c3]at a9;rw[<-lE h a_Q]at a3 a9;refine adD (h:=h.push _) uh (fun x y c a b=>?_) a3 a9;{rw[lE];rw[de (ic c2) c2];{simp};rw[cL]};rw[cL]};{rw[YI];rw[bj c3]at a9;exact adD a5 hi a3 a9}
theorem aPV{d5:Model}{A:Around}{E:aU}{s:Shared}{d:Scope}{globals:Addr}{a:je}{j:Str}{b:nk}{code:Value}{e:Env}{f:Addr}{Q:dE Env}(h:Q (newEnv d aO globals (zt iy mL a) j b code rH f) (fX anN)):pi (a2o d globals a [] j b code rH f):=by rw[i9 a2o a2n,C (a2m (bE (wpAny_layCells _ bep mL a _ _ ?_)))];rw[a0 (fX X8:vM).heap.objs.size iy (lE ..)];rw[M1];exact bE (cg xA)
theorem adE{a:Scope}:∀{d:yf}{x:Str}{k:NameKind},fu (aBZ (oY (jC k VB) a2p)) x=aa k->z G (d.lookup x=aa G) (k=G\/(G= .free/\k= .cell))|[],_,_,h=>bB|(n,b)::J,x,k,h=>by rw[dB (@adE a J x k),ad h' (Mj x ((Z (jC b VB) (n,a2p) (n,b))::(J.map _))) k h];cases S:x==n with|true=>{simp only[agL,S];rw[bC b0 (jC b VB),ay,ay]}|false=>simp only[agL,S];rw[bC b0 (jC b VB),cL,cL]
structure arR(N:cW)(a d:Scope)(own:JK):Prop where
 kind:sH d.kind
 uniq:dw mL a_D
 ix:cA own (K N p.2 p.1)
 free:yC (j5 (vR y.1)\/iI (vR y.1))
 own:dw mL (y.2= .local\/y.2= .cell->y.1∈aB0 fN\/y.1∉N)
noncomputable def wipe(M:St):ao->St|[]=>M|v::vs=>bp tG v ae
theorem adF(M:St):∀vs:ao,t tG=Vb|[]=>rfl|v::vs=>by unfold wipe;rw[M3,adF M vs]
theorem adG{M:St}{i:Nat}{x:V}:∀{vs:ao},A (tG) (aa x)->A M (aa x)/\i∉vs|[],h=>⟨h,jN⟩|v::vs,h=>by unfold wipe at h;rw[N hi v i,dX];{rw[aj (Ve hi),kF (adG h)];exact⟨a3,fS⟩}
noncomputable abbrev Cx.blk(X:Cx)(s:Shared)(H:Hp)(d:Scope)(g:Env)(a8:bg):Cx:={X with F0:=s,Ky:=H,env:=g,outer:=oS,ex:=a8,fn:=ab (MT x==aa .cell),pn:=[],xe:=JG}
section z
variable{X:Cx}{pins:bw}{M:St}{H:Hp}{s:Shared}
theorem aPW{d:Scope}{own:JK}{a8:bg}(I:aZ)(ok:apq)(hN:X.N.Nodup)(h:h3 (iV H/\b<aO)):Inv (j2 aH5 aO) [] (ahp M ali) H (fX anN):=by revert I ok hN h;revert X pins M H s d own a8;refine Kq;generalize aF=X,az=pins,aE=M,aD=H,aB=s,aA=d,aG=own,aH=a8;intro I ok hN h;have L:yC (aC c (Va y.1) c):=bhy;generalize n:aB6 d aH5 aO cF=g;have kp:xz anN:=db (y7 xp);rw[dS f g.locals aO,dS l g.cells aH5];have r:g.scope=aPT d aho:=by{rw[<-n];rfl};rw[<-lE bh aGc]at l;have k5:∀{y c},(y,c)∈akX->amZ/\c<aO:=fun{y c}c4=>by{rw[dq (Su c4) c4 rfl,ay];{rw[db b0 (L _ a3 rfl)];rw[b0];rw[kc z (CP _ _ b0)];exact bd z.lt}};have mem:∀{y c},X (aB3 y=aa c) amZ (c<aO) (iy<=c) (arP anN c ae):=fun{y c}e=>by{rw[a6 l];rcases Sv (oU e)with c4|⟨_,a9,e2⟩;rw[dR (k5 c4)];{rw[lE]at a9;exact e4 a9 e2}};have u:∀{y},iI (MT y)->z c (aB3 y=aa c) amZ:=fun{y}a5=>by{obtain⟨C,d3⟩:=aBW (Sx (d:=mL) (n:=f2 X8) (adB (a:=a2s) (B:=[]) (oU a5)));rw[<-l]at d3;rw[ak C d3];rw[l]at d3;rcases Sv (oU d3)with c4|⟨a3,_,_⟩;rw[l (k5 c4).1];{have:=aB2 _ a3;rw[am a5,ny]}};rw[b (by rw[b aBe (t r aB5) (bl n a2r) (bl n I.ok.blt) (t f aY) (fun y z c b4 b9=>?_) Q6 (fun y c z e=>?_) (a a2q a1P gn (dc (l2 (fun y c e z=>?_))) I.bs (cn agW I.sz) (fun b o e U=>?_) (fun b U z=>?_) I.stack I.aqJ)];{have b4:=b4;rw[g2 b9];rw[l]at b4 b9;refine adD uh (fun y z c a b=>I.ok.inj y z c (k5 a).1 (k5 b).1) (oU b4) (oU b9);rw[J lE (wk (k5 (y:=p.1) (c:=p.2) c2).2)]};{have O:o k (aB4 y=aa k) (k= .cell\/k= .free) (aC c (aB3 y) c):=fun k c3 Y=>by{delta Env.kindOf at c3;rw[r]at c3;rw[cF G e (adE c3)];have:G= .cell\/G= .free:=bz;rw[de this rfl];{rw[db c4 (adC (n:=f2 X8) (B:=akX) (oU e))];obtain⟨C,d3⟩:=aBW c4;exact⟨C,t l d3⟩};{obtain⟨c,a3,_⟩:=u e;exact⟨c,a3⟩}};rw[bcn,l (O _ b6 gn),l (O _ b6 EX)]};{have z:=z;rw[c_ z (j5 (MT y)) z,c7 e,a6 l];rcases Sv (oU e)with c4|⟨_,a9,_⟩;{rcases Su c4 with c4|⟨a3,_⟩;rw[ay];{rw[cN (aB2 _ a3),cQ z,kK]}};{rw[lE]at a9;exact aBX a9}};rw[Z f (gF (QU).2)];{rw[bcA,l ((a2 (QU).1).1 y c a3 z),dX]};{rw[cY (aS (QU).1.2),l (aBd b o e z),cF (fJ hh (cn agW z)) (iP _)]};{rw[cY (zd z),l ((QU).1.2.1 z),l ((QU).1.2.2.1 z)]}) rfl zl (agS kp) (v uB ?_ (fun i y t b4 b9 e7=>?_)) aIl ?_ aIl (ap uh (I.dt.kept kp) adF Hl),Z f (Heap.Ns.keeps (Heap.Ns.new ..) (db (y7 e)))];{obtain⟨b9,R⟩:=adG b9;have j:bca:=by{have O:o k (g.scope.names.lookup y=aa k) (k= .local\/k= .cell\/k= .free) bca:=fun k c3 Y=>by{have l7:=c3;rw[r]at c3;rw[cF G e (adE c3)];have f6:¬(G= .local\/G= .cell):=fun c7=>by{rcases ok.own _ (oU e) c7 with d3|d3;{rw[ig v (zy d3)];have e7:=ok.ix p c2;have:p.1=y:=v;rw[oZ e7];exact R (aB1 (v p c2 (ac6 hN e7 b4)))};rw[l (d3 (bM b4))]};rcases J with rfl|⟨rfl,rfl⟩;{rcases Y with rfl|rfl|rfl;rw[cF gn f6,cF EX f6,l ⟨e,.inr l7⟩]};rw[l ⟨e,.inl l7⟩]};have e7:=e7;rcases e7 with e7|e7|e7;rw[yO gn,yO (.inr gn),yO (.inr EX)]};rw[aoi,aJ w J (a5 i y t b4 b9 (cb bcy (cj (.inr Pa)) (cj (pd k)))),aa w J (.inr (aw j.2))];obtain⟨c,a3,a9⟩:=u j.1;rcases q with⟨k,_⟩|⟨_,C,d3,z⟩;{rw[ad k (MK y) .local k];rcases bcy with G|G<;>rw[bs (a0 (MK y) _ G)]<;>cases k};{rw[a9]at d3;cases d3;exact v c a3 (z.keeps kp)}};{rcases mem e with⟨a3,_⟩|⟨_,z⟩;rw[T w z (CP y c a3) w (z.keeps kp),l (aW z)]};rw[Z f pY];{rw[bcA,l (MB y c a3),l (zo (aBX a3))]};rw[ay]
theorem aPX{E:aU}{D:Addr}{O:af}{y:V}{v:Value}{Q:aU}(I:aZ)(a7:am D O)(c9:bx<hC)(J:Yp)(h:i5 (aR (ap D (eM O)) c1) .none):ns (Du [EI,v]):=by obtain⟨a0,ar,n,a,e⟩:=er D _ a7;rw[f5 mP];refine append_at (hsz:=ai) e (fun h' sb l=>h tJ (Vp (t':=dE) (w7 a7) gn (fun b u U q=>sh q) (aW l) (a hV (ar++[v]) (n+1) (a.append (hw J)) ?_)));rw[l];simp
def PTs(X:Cx)(G:fE)(t:TT):Prop:=FX (M0 G ab (fun c J=>Z J (do{let ok<-isTrue c X.env (eval c X.env);pure (ForInStep.yield ok)}) (eU (a2t J))))
def arS:TT:=l1 (Q ab H)
theorem aPY:PTs X [] arS:=qW (wpAny_tests_nil (v H I h))
theorem aPZ{c:Expr}{t:TT}(h:PT X c t):PTs X [c] t:=DI (wpAny_tests_one (@h aI s M H Q I hw))
universe z
theorem K0{I:Type}{t:Sem I}{Q h4:dE I}{d5:Model}{A:Around}{E:aU}{s:Shared}(h:fe d5 A t Q JG s)(g:bdj):a'O:=oB h g
theorem aP0{prog:Program}{w:World}{A:Around}{R:Qh}{s:Shared}{t a iter:Expr}{G:fE}{d:Scope}{pos:Pos}{it B:Value}{env:Env}(I:dE Nat)(turn:j n s (I n s) (fe (jx cN w) A (ahq it) (fun J l=>match J with|none=>R (.ok .next) l|some v=>am (MM a it v) (fun _ i=>am (Vk a env v) (fun _ g=>am (M0 G ab (fun c J=>Z J (do{let ok<-isTrue c env (eval c env);pure (ForInStep.yield ok)}) (eU (a2t J)))) (fun ok b=>Z ok (am (kr t) (fun x o=>am (Du [B,x]) (fun _ p=>s8 (I m p)) RI o) RI b) (s8 (I m b))) RI g) RI i) RI l) RI s))(n:Nat)(h:I n s):v1 (.compLoop (vU [d a Hq G 0]) 0 it B env):=by revert turn h;revert prog w A R s t a iter G d pos it B env I n;refine@mn _ _ _ _ _ _ _ _ _ _ _ _ _ _ ?_;generalize qf=prog,qg=w,qh=A,qi=R,qj=s,qk=t,ql=a,qm=iter,qp=G,qq=d,qt=pos,qu=it;refine aMY;rw[al B env I n,dt eV];refine codeAny_loop rfl I (fun n s q=>?_) n h;refine wpAny_noted ?_;rw[compTurn_list];rw[C (aBl (bE (wh (eV n s q) (fun J l j=>?_) (fun _ _ h'=>h'))))];cases J with|none=>{exact cg j}|some v=>rw[C (wh j (fun _ i r=>bE (wh r (fun _ g f=>bE (wh f (fun ok b k=>?_) (fun _ _ h'=>h'))) (fun _ _ h'=>h'))) (fun _ _ h'=>h'))];cases ok with|false=>{exact cg (bd k)}|true=>exact bE (bE (wh k (fun x o u=>bE (wh u (fun _ p y=>mY (bd y)) (fun _ _ h'=>h'))) (fun _ _ h'=>h')))
section z
variable{X:Cx}
def tLc(wi:TI)(g:TG)(c3:TT)(b8:TE)(vs:ao):TE:=hs (Dw (E D (gE D) (K0 (Q EI H))))
theorem arU{pins:bw}{s:Shared}{M:St}{H:Hp}{Q:VK}{t c7 iter:Expr}{G:fE}{d:Scope}{own:JK}{pos E:Pos}{wi:TI}{g:TG}{c3:TT}{b8:TE}{a3:bY (cR->Sem a2w)}{d5:aU}(b0:fR)(hN:X.N.Nodup)(I:aZ)(hi:aaC)(ok:apq)(d8:aLY)(c6:aLZ)(a0:aLX)(c0:a7i)(h:tLc wi g c3 b8 ali M H Q)(e4:∀D C c1 m L,c Bm (Q EI L) (c1.heap.Ns C m) (adf X aI L C) (a2v ak9 X.A oT a3 d5 EI C (.ok .next) c1)):dj (comprehension Rb d cF E (newList []) ah (e1 Hq) a3) d5:=by revert b0 hN I hi ok d8 c6 a0 c0 h e4;revert X pins s M H Q t c7 iter G d own pos E wi g c3 b8 a3 d5;refine@mn _ _ _ _ _ _ _ _ _ _ _ _ _ _ ?_;generalize qf=X,qg=pins,qh=s,qi=M,qj=H,qk=Q,ql=t,qm=c7,qp=iter,qq=G,qt=d,qu=own;refine Kq;generalize aF=pos,az=E,aE=wi,aD=g,aB=c3,aA=b8,aG=a3,aH=d5;intro b0 hN I hi ok d8 c6 a0 c0 h e4;refine wpAny_comprehension_free (use:=a3) rfl c0 (aPU bhy) aB5 (fun y b6 e=>bj (aB2 y b6) e) (bU hi (fun f3 a4 S=>ft S a'F));obtain⟨it,a8,l,d0,b7,e,Y,T,b4,h3,q⟩:=a9;rw[b_];refine M4 (aPV ?_) (gJ (a1 0));generalize a7:b5.heap.objs.size=D;rw[HT (q D (Y.dt.fresh (qM a7)))];generalize g9:({b5 with heap:=a2u (jw aJJ)}:vM)=c8;have O:aR QD c8:=by{rw[<-g9];refine Y.laid (t':=b5.toks) Pm (qM a7) (a cS [] 0 .nil ?_);rw[<-a7];exact gL};rw[bM e2 c8.heap (a2u (jw aJJ)),cg e8 (h3 (b<b5.heap.objs.size)) (by rw[gr o (BV b4)];exact hh),cg h6 (h3 (iV QD/\b<sZ)) (by have Z:=e8 b U;rw[v (l2 (aos).2) (ac e2 lE (wk Z)),J (bW bz) (aos).1])];have d2:l 0 c8.heap:=ag6 _ _ _ b4 (x5 (t e2 xp));rw[f5 (aPW O ok hN h6)];have pg:=d8 c8 QD sZ alG a8;have e5:=c6 c8 QD sZ alG a8;have N:=a0 c8 QD sZ alG a8;show dn _ _ (.compStart Rb 0 nY EI a's) a9n;have e3:=dc (aak).1.1;generalize P:a's=a at a5 pg e5 N⊢;have f5:a.locals=sZ:=by{subst P;rfl};generalize j1:QD=d4 at O a5 pg e5 N b2 e3 h6;generalize h4:(a9n:vM)=d9 at a5⊢;have f6:l 0 d9.heap:=ag6 _ _ _ d2 (x5 (bl h4 (y7 xp)));have V:∀{g0:St}{L:Hp}{c1:Shared},Inv Jr [] g0 L c1->Yt->h3 (adf Jr [] L b):=fun{g0 L c1}K d1 b U=>c (d1 b U) (K.ok.exf b U).1 (K.ok.R3 b U) (.inl U) (fun x c e=>(K.ok.exf b U).2 x c e) (GU (([]:bw)++[]));have g4:dn ak9 X.A (.compLoop Rb 0 nY EI a) d9:=by{refine aP0 (fun n c1=>GX (W i n L)) ?_ c9 (c 0 d4 a5 f6 e3 b2);rintro n f9⟨i,g6,A,d3,f,h5⟩;rcases eV i n g6 h5 with⟨stop,d7⟩|⟨go,w,h7,step⟩;{rw[E0 (T.done Jr rfl rfl rfl b0 i [] f9 _ g6 JG A (V A f) d3 stop),kz a6 F];subst a6;obtain⟨m,d1,_⟩:=F.loc;rw[f4 d1];rw[f5]at d1;exact e4 D sZ h1 m g6 (O.aNM (ch:=a8) F.os F.base F.dt F.bare (dc (d (aS (aak).1.2) (aak).1.2.1 (cr (aak).1) (a2 (aak).1.2)))) d7 d1 (O.Sa aY (by have z:=F.free;rw[f5]at z;exact z))};{rw[E0 (T.item Jr rfl rfl rfl b0 i [] f9 _ g6 JG A (V A f) d3 go),bl a6 b3 e0];subst a6;refine K0 b3 (fun _ R e0=>?_);obtain⟨x,h9,r,b1,i0,e6,h8⟩:=e0;refine K0 (@pg _ R _ h9 x u _ (r.pinned (V r h8) (aBo _ _ e6)) b1 (MN x h9 i0)) (fun _ d6⟨e7,i3,i1,g5,h2⟩=>K0 (@e5 _ d6 e7 i3 _ i1 h2) (fun b i4 e0=>?_));obtain⟨i7,g7,b9⟩:=e0;have fin:∀{c1:Shared}{L:Hp},Inv Jr ([]++KI a8 R.heap) e7 L c1->w L->s8 (GX (W i m L)):=fun{c1 L}K nx=>by{obtain⟨f7,c4,c5⟩:=h7 L nx;have g8:h3 (E o (be (R.heap.get? b)) (Pf/\IX)):=th (let z:=K.pin (b,o) a7I;⟨z.1,rx⟩);rw[e f7 c4 (i+1) L ((K.Se (pins:=[])).weak (by rw[<-g5,adF]) (fun j v e=>?_)) (ag6 _ _ _ e6 (th (g8 b U o e).1)) ua c5];{rw[py g5];exact(adG e).1};{rw[gr o (BV e6)];exact(g8 b U o e).2}};cases b with|false=>{simp only[Dg,iV]at b9⊢;exact fin g7 b9}|true=>simp only[mM]at b9⊢;refine K0 (@N _ i4 e7 i7 _ g7 b9) (fun z j2 e0=>by obtain⟨i2,j3,i5,i6,B,i8,i9,nx⟩:=e0;exact aPX (X:=Jr) i5 i8 i9 i6 (fun j4 j0=>fin j0 nx))}};exact codeAny_compStart_list g4 (T.self X.A 0 _ _ _ f6 g4)
theorem BK{t c7 iter:Expr}{G:fE}{d:Scope}{own:JK}{pos:Pos}{wi:TI}{g:TG}{c3:TT}{b8:TE}(b0:fR)(hN:X.N.Nodup)(hi:aaC)(ok:apq)(d8:aLY)(c6:aLZ)(a0:aLX)(c0:anC):M Rb bhC:=by rw[fz];rw[eval_ListComp];refine arU b0 hN I hi ok d8 c6 a0 c0 h (fun D C c1 m L K q d1 f=>v m d1 (fun l sb=>?_));rw[rt f];exact m EI L (K.turned (t':=ahr) (jE (sh e)) F g4 h6 f4 f5) q
theorem aP4{i:Nat}{y:Str}{r:Pos}{t c7 iter:Expr}{G:fE}{d:Scope}{own:JK}{pos c:Pos}{wi:TI}{g:TG}{c3:TT}{b8:TE}(b0:fR)(hN:X.N.Nodup)(b6:A X.N y)(j:ld (MK y))(k:MH Rb (aa aJE) c.line cF=eU ab)(hi:aaC)(ok:apq)(d8:aLY)(c6:aLZ)(a0:aLX)(c0:anC):bn [aJE] Rb c (ade bhC (KG i)):=by rw[la];rw[exec_Assign_Name_used _ _ _ _ k];rw[C (aBl Yj),C (ft (arU (d5:=fun _ c1=>SP X aI D .next c1) b0 hN I hi ok d8 c6 a0 c0 h (fun Z C c1 m L K q d1 f=>?_)) (fun _ c1 e0=>mY e0))];refine a1x (aqL (v:=gV Z) K hN b6 (.inl j) rfl (fun b5 Y P=>?_) (.inr j));rw[ak sb b3 P,rt f,aa m (d1.sameBut sb cq) (fun e2 f6=>as L (Y.turned (t':=b5.toks) (jE (ac f6 b U e)) F g4 h6 f4 f5) q)]
theorem aP5{t:Expr}{a:bK Comprehension}{d:Scope}{pos r:Pos}{y:Str}{l:Nat}{env:Env}(c3:sH env.scope.kind)(b6:ld (env.scope.names.lookup y))(a5:(r.line==MI)=ab)(b3:(d.names.any (fun(n,k)=>n==y&&(k== .local||k== .cell)))=ah):MH (vU a) (aa aJE) l env=eU ab:=by rw[ad ky (agT y) .local b6];have U:env.blockKind= .function:=by{delta Env.blockKind;rw[c3];rfl};rw[oX b1 MI];have a3:(r.line==bf5)=ab:=a5;rw[oX a9 bf5];delta MH;simp only[U,ky,b3,a5,b1,a3,a9];rfl
universe z
theorem aP6{lo:Int}{n:Nat}{g:TG}{c3:TT}{b8:TE}{vs:ao}{M:St}{a8:Hp}{D:Addr}{k:jf}(j:Y7)(b1:j 0 aFX)(c0:l i H (i<n) (j i H) (be aoo tG H bdE))(hd:F2 n):d_ PN PN PN:=by rw[l3 (m8 n Qn) n,bhi];by_cases Z:i<n;rw[oL (fun L u=>kl n Po) (c0 i _ Z p)];{have e:i=n:=by{rw[en]};rw[b_];exact ds aY (hd H p)}
theorem arV{K:PySem.W.Frag}{a:Addr}{O:af}{g:TG}{c3:TT}{b8:TE}{vs:ao}{M:St}{a8:Hp}{D:Addr}{k:jf}(j:Y7)(b1:j 0 aFX)(a5:l i H Qy (j i H) jk)(c0:∀i x H,nr->j i H->be x tG H bdE)(hd:F2 bx):d_ QA QA QA:=by rw[l3 (m8 bx Qy) bx,bhi,cN (a5 i H hi p),fY Z bx];{refine i6 (d O O[i] q ai) (fun L u=>f (bx-jd) bz Z u);rw[fW y y,b_];exact c0 i x _ (y O q) p};{have e:i=bx:=by{rw[aIE]};rw[b_];exact ds aKV (hd H p)}
noncomputable def arW(N:cW)(a d:Scope)(own:JK):cb:=(match d.kind with| .function=>ab|_=>ah)&&(a2x (e9 (cv a_D)))&&(own.all (bn (cv (K N p.2 p.1))))&&(a2x (e9 (match y.2 with| .free=>(match vR y.1 with|some .cell=>ab|some .free=>ab|_=>ah)| .local=>a_a| .cell=>a_a|_=>ab)))
theorem arX{N:cW}{a d:Scope}{own:JK}(h:arW N a d own=ab):arR N a d own:=by rw[a4 arW];simp only[ib,Hw,iW]at h;obtain⟨⟨⟨a3,a9⟩,e2⟩,e5⟩:=h;rw[j ?_ a9 e2 a8I a8I];{split at a3;{assumption};rw[cX]};{rw[cN (e5 y b6)];simp only[e]at q;split at q<;>first|rw[m1 kI]|rw[pc kI]|(rw[kK])};{rw[cN (e5 y b6)];rw[i8 e e]<;>(simp only[e,ahs,iW]at q;exact q)}
universe L2
namespace L2
open PySem PySem.Spec PyProof.Rows
section z
variable{prog:Program}{w:World}{A:Around}{R:Qh}{s:Shared}{t u o W c2:Expr}{a b:fE}{d:Scope}{pos:Pos}{it B:Value}{env:Env}
universe z
section z
variable{X:Cx}
universe z
universe L2
namespace L2
open PySem PySem.Spec PyProof.Rows
section z
variable{c:Type} [wm c]
noncomputable def fb(F:hW)(k:c):jQ:=cF (F.find? FN)
noncomputable def putK(F:hW)(k:c)(v:V):hW:=Z (VC FN) (M5 (jx (v d.1 k (d.1,v) d))) (F++[(k,v)])
theorem sj{p:c×V}{J:hW}{k:c}(e:p.1=k):fb (p::J) k=aa p.2:=bx fb oY e
theorem sk{p:c×V}{J:hW}{k:c}(e:¬p.1=k):fb (p::J) k=fb J k:=bx fb oY e
theorem K1(k:c):∀F:hW,(VC FN)=dk uL|[]=>rfl|p::J=>by rw[MX];rw[ZM];{simp only[sj e,dH e,aB8,a2n]};{rw[sk e,ec e,aB7];exact K1 k J}
theorem arY(k j:c)(y:V):∀F:hW,fb aJa j=gG (fb F j) (v j k y x)|[]=>rfl|p::J=>by have d6:=arY k j y J;rw[c_];rw[N h p.1 k];{rw[aJ h];rw[b2 p.1 j];{rw[wS (p.1,y),sj e,aB9,aJ (a2y h)]};{rw[wT (p.1,y),sk e,d6]}};{rw[aO h,b2 p.1 j];{rw[wS p,sj e,aB9,fg (h (aA2 z))]};{rw[wT p,sk e,d6]}}
theorem arZ(k j:c)(y:V):∀F:hW,uL=ae->fb (F++[(k,y)]) j=aw (j=k) y (fb F j)|[],_=>by{rw[b2 k j,Z (aJ CX) (wS (k,y)),Z (fg (e wo)) (wT (k,y))]}|p::J,d1=>by rw[aht];have c3:¬p.1=k:=J (by rw[sj z]at d1;cases d1);rw[sk c3]at d1;rw[b2 p.1 j];{rw[sj e,sj e,fg (c3 (aA2 z))]};{rw[sk e,sk e,(arZ k j y J d1)]}
theorem Sy(F:hW)(k j:c)(y:V):fb aHT j=aw (j=k) y (fb F j):=by delta mQ;rw[bC a (VC FN)];{rw[aJ a,arY];rw[K1]at a;rw[b2 j k];{rw[ch x S a];rw[aJ e,e,S,aB9,cO]};rw[ay]};{rw[aO a];refine arZ k j y F ?_;rw[K1]at a;cases q:uL with|none=>{rfl}|some x=>rw[q]at a;exact i0 (a rfl)}
theorem ar0(F:hW)(k:c)(v:V):bd Yc (ia+1):=by delta mQ;split;{simp};{simp}
theorem aP7{F:hW}{k:c}(v:V)(h:uL=ae):Yc=F++[(k,v)]:=by delta mQ;rw[K1,h];exact bj ax
theorem sf.adI{o:jQ}{u:pF}(J:sf o u):M6=u.isSome:=by cases o with|none=>{cases u with|none=>{rfl}|some _=>trivial}|some _=>cases u with|none=>{trivial}|some _=>rfl
theorem KV.val{F:hW}{vs:Fv}(J:tW)(k:c):sf uL (Dh vs k):=by rw[aJC];induction J with|nil=>{trivial}| @cons p q c5 v h t d6=>rw[kF h,ZM];{have b:Dh (q::v) k=aa q.2:=by{simp[Dh,oY,(a2z e)]};rw[sj e,b];exact a9};{have d3:¬q.1=k:=J a96;have b:Dh (q::v) k=Dh v k:=by{simp[Dh,oY,d3]};rw[sk e,b];exact d6}
theorem KV.any{F:hW}{vs:Fv}(J:tW)(k:c):(VC FN)=vs.any FN:=by rw[aJC];induction J with|nil=>{rfl}|cons h t d6=>rw[MX,MX,d6,h.1]
theorem KV.adJ{F:hW}{vs:Fv}(J:tW)(k:c){y:V}{u:Value}(Z:lh):KV aJa (Vs (jx (v d.1 k (d.1,u) d))):=by delta KV at J⊢;induction J with|nil=>{rw[kP]}| @cons p q c5 v h t d6=>rw[c_,c_];refine .cons ?_ d6;rw[kF h,ZM,ay,ay]
theorem KV.put{F:hW}{vs:Fv}(J:tW)(k:c){y:V}{u:Value}(Z:lh):KV aHT (stored vs k u):=by delta mQ stored;rw[J.any k];rw[bC e (vs.any FN),dl e e (J.adJ k Z)];{rw[c_ e e];exact a2A J (bd Z)}
theorem KV.length{F:hW}{vs:Fv}(J:tW):ia=iS:=Mu J
universe z
theorem BL{P:Program}{w:World}{k:Key}{u:Value}(J:gS (kV k) u):z7 u:=by cases k with|inl i=>{rw[n8 QL (aNB P w i t)]}|inr x=>rw[n8 aoq (aNC P w x t)]
theorem ar1{P:Program}{w:World}:∀{K:tI}{b1:aM},eC (Di kV)->aB_ tM K b1|[],_,J=>DU .nil|k::K,_,J=>by rw[c_]at J;cases J with|cons h t=>rw[cE (BL h) (ar1 t)]
abbrev KT(H:Hp):au uD J8:=dD (nS bfk)
theorem KT.val{H:Hp}{F:uD}{O:J8}(J:YB)(k:tI):sf uL (cF ang):=by induction J with|nil=>{trivial}| @cons p q c5 v h t d6=>obtain⟨a3,_,a9⟩:=h;rw[ZM];{have b:zz (q::v) k=aa q.2:=by{simp[zz,oY,(a2z e)]};rw[sj e,b];exact a9};{have d3:¬q.1=k:=J a96;have b:zz (q::v) k=zz v k:=by{simp[zz,oY,d3]};rw[sk e,b];exact d6}
theorem KT.adJ{H:Hp}{F:uD}{O:J8}(J:YB)(k:tI){y:V}{u:Value}(Z:lh):KT H aJa (Hg (putAt k u)):=by induction J with|nil=>{rw[kP]}| @cons p q c5 v h t d6=>rw[c_,c_];refine .cons ?_ d6;rw[df a3 e2 h];delta putAt;rw[ZM,ay,ay]
theorem KT.put{H:Hp}{F:uD}{O:J8}(J:YB)(k:tI){b:Addr}{y:V}{u:Value}(U:aax)(Z:lh):KT H aHT (ahu O k b u):=by have e:(VC FN)=dk ang:=by{rw[K1,(J.val k).adI,aB']};delta mQ ahu;rw[e];rw[bC q (dk ang),dl q q (J.adJ k Z)];{rw[c_ q q];exact a2A J (ah U Z)}
theorem KT.keeps{H L:Hp}{F:uD}{O:J8}(J:YB)(c6:j b d7 (fr als) (hI als)):KT L F O:=Paired.aqG J (vJ bcN)
section z
variable{P:Program}{w:World}{H:Hp}{h:Heap}{a:Addr}
theorem ar2{u:HO}(ok:lq)(e:k1 u):hd u:=e.ok ok
theorem Sz{F:gw}(ok:lq)(e:k1 qd):np apO:=show hd qd from ar2 ok e
theorem ar3{F:gw}(ok:lq)(e:cy qd):np apO:=Sz ok YO
theorem ar4{K:tI}(ok:lq)(e:l7 (Di kV)):(U9 tM).is h K a:=by obtain⟨_,ar,J,o,a3,a9,n,e2⟩:=dx (hd (.tup (Di kV))) (ok a _ e);exact a o eT n a3 a9 e2 (aI (ar1 J))
theorem SA{F:uD}(ok:lq)(e:k1 uc):bdN:=by revert ok e;revert P w H h a F;refine aa1;rw[n P w H h a F];intro ok e;obtain⟨z,y,O,J,o,a7,e1,a3,a9,e2,e5,f⟩:=dx (hd uc) (ar2 ok e);rw[b z y O J o a7 e1 a3 (a a9 e2 e5 qr f)];have all:∀{l:uD}{m:J8},KT H l m->aL m ((U9 tM).is h x.1 x.2.1):=by{intro l m q;induction q with|nil=>{rw[Yq]}| @cons p q c5 v e0 t d6=>rw[Bs,i8 (ic S) S,sR (ar4 ok ag),a_]};exact all J x S
theorem aP8{F:uD}(ok:lq)(e:cy uc):bdN:=SA ok YO
universe z
def jr(H:Hp)(a:Addr)(y:V)(J:jQ):Prop:=df (k1 qd) (J=uL) (k1 uc) (aax/\J=uL)
def qE(H:Hp)(a:Addr)(y v:V)(L:Hp):Prop:=df (cy qd) (ia<hC/\L=a8u) (cy uc) (aax/\ia<hC/\L=a8v)
theorem jr.k{H:Hp}{a:Addr}{F:gw}{k:Key}(e:cy qd):jr H a (kV k) uL:= .inl (m F k YO rfl)
theorem jr.t{H:Hp}{a b:Addr}{F:uD}{k:tI}(e:cy uc)(f7:aax):jr H a cV uL:= .inr (a F k b YO (ah f7 rfl))
theorem qE.k{H:Hp}{a:Addr}{F:gw}{k:Key}{v:V}(e:cy qd)(a5:ia<hC):qE H a (kV k) v a8u:= .inl (m F k e (dv a5))
theorem qE.t{H:Hp}{a b:Addr}{F:uD}{k:tI}{v:V}(e:cy uc)(f7:aax)(a5:ia<hC):qE H a cV v a8v:= .inr (a F k b e rfl f7 a5 rfl)
section z
variable{X:Cx}{pins:bw}{M:St}{H:Hp}{s:Shared}{a:Addr}{y v:V}{u J:Value}{o:jQ}{A:Around}{E:aU}
theorem Inv.big(I:aZ):ahv<aO:=b8 ax (a2B I.bk).lt
theorem aP9{Q:aU}(hu:J0)(I:aZ)(g:jr H a y pJ)(Z:lh)(h:l c5 c1 (aR H c1) (gS v c5) (Q c5 c1)):mv (zp bc u):=by revert hu I g Z h;revert X pins M H s a y v u A E Q;refine@mn _ _ _ _ _ _ _ _ _ _ _ _ _ _ ?_;generalize qf=X,qg=pins,qh=M,qi=H,qj=s,qk=a,ql=y,qm=v,qp=u,qq=A,qt=E,qu=Q;intro hu I g Z h;rw[a73];{rw[j_,wo (Sz er e),m_ (Dh vs k) (t l (VD k))];exact a2D (BL Z) ahx hw (h c5 _ ry W)};{rw[j_,aGH,wn (SA er e),m_ (cF ang) (t l (VD k)),ig b0 (zi hw)];refine a2C (ahw hu) aoy j c2 ?_;rw[J b0 (h c5 _ ry W)]}
theorem aP_{Q:aU}(hu:J0)(I:aZ)(g:aIF)(Z:lh)(h:EQ M6):mv (MD .In u bc):=rd (wpAny_in_of (BL Z) hd ahx ?_) (a2E (ahw hu) aoy hd j ?_)
theorem aP'{Q:aU}(hu:J0)(I:aZ)(g:aIF)(Z:lh)(h:EQ (! M6)):mv (MD .NotIn u bc):=rd (wpAny_notIn_of (BL Z) hd ahx ?_) (a2F (ahw hu) aoy hd j ?_)
theorem SD{h':Heap}{t':Nat}{N:HO}(I:aZ)(h8:uX (H a))(c0:pg a)(a0:aC q (gU a) q)(a6:cE (ad a N) a N):aR (ad a N) uJ:=Vp (x:=a) (e:=a) h8 gn (fun b q U z=>ac c0 b U z) a0 a6
theorem ar5{P:Program}{w:World}{L:Hp}{h':Heap}{F:gw}{vs:am1}(z:a1 ia)(hd:li a)(d:tW)(j:h'.DictOf tM a vs):ox P w L h' a qd:=a z hd vs d j
theorem aQa{L:Hp}{Q:Qg}(hu:J0)(I:aZ)(g:qE H a y v L)(Z:lh)(rv:gS v J)(h:i5 Bm ()):mv (a1w bc u J):=by revert hu I g Z rv h;revert X pins M H s a y v u J A E L Q;refine@mn _ _ _ _ _ _ _ _ _ _ _ _ _ _ ?_;generalize qf=X,qg=pins,qh=M,qi=H,qj=s,qk=a,ql=y,qm=v,qp=u,qq=J,qt=A,qu=E;refine Kp;rw[bW L Q];intro hu I g Z rv h;rcases g with⟨F,k,e,c3,l,b0⟩|⟨F,k,b,e,c3,f7,l,b0⟩;{subst c3 b0;rw[wo (ar3 er e)];refine wpAny_setItem_pairs (hsz:=bl oZ z) (BL Z) j (zH (h _ ?_));exact SD I (jI e) c0 bgx (ar5 bfr hd (d.put k rv) p)};{subst c3 b0;rw[aGH,wn (aP8 er e)];refine a2G (hsz:=bl (Mu d) z) (ahw hu) aoy j (zH (h _ ?_));obtain⟨q,a7,e1,e0,a9,e2,e5,_,f⟩:=p;refine SD I (jI e) c0 alH (a (bfr) hd _ ((d.put k f7 rv).keeps (fun c d7 g7=>?_)) q a7 e1 e0 (d a9 e2 e5 f));rw[J (bW (qy g7 e (J (nomatch z)))) g7]}
universe z
section z
variable{X:Cx}{pins:bw}{M:St}{H:Hp}{s:Shared}{a:Addr}{F:gw}{k:Key}{u:Value}{A:Around}{E:aU}
universe z
def SF(i:Expr):Prop:=∀ov c,ahi i ah ov c=aBP [ov,c] (zp ov c)
theorem ar6{prog:Program}{w:World}{A:Around}{E:aU}{s:Shared}{env:Env}{B a:Expr}{pos:Pos}{T id:String}{Q:aU}(a5:aBN (.type T) "__getitem__"=eU (aa X_))(c0:SF a)(h:im (kr B) (fun o l=>am (kr a) (fun i g=>g.TypeIs o T/\am (zp o i) Q E g) E l)):bl (kr (e3 B a)):=by refine aBO (lz h (fun o l j=>lz j (fun i g f=>?_)));obtain⟨Z,f⟩:=f;delta a2b;rw[md];rw[getitemInPython_of_ne Z.not_modules];rw[C (wq Z a5 ?_),z fin (am (ahi a ah o i) (fun J b=>am (letTemporaryGo B o J>>=as (eU J)) Q E b) E g) (c0 o i) (wpAny_operating (lz f (fun J b k=>bE (wpAny_letTemporaryGo (cg k)))))];first|exact fd fin|exact bE (fd fin)|exact bE fin
theorem aQb{X:Cx}{pins:bw}{M:St}{H:Hp}{s:Shared}{a:Addr}{y:V}{o:jQ}(I:aZ)(g:aIF):a8U:=by rcases g with⟨F,k,e,_,_⟩|⟨F,k,b,e,_,_,_⟩;{obtain⟨_,_,vs,_,j⟩:=Sz er e;exact VE};{obtain⟨_,_,O,_,j⟩:=SA er e;exact VE}
inductive jG(Q:VK)(x y:V)(H:Hp):Prop|mk:f a v (x=bc) (jr H a y pJ) AO (jG Q x y H)
def aQc(l A:TE):TE:=GI (jG Q x)
def aQd(A l:TE):TE:=Kw M6
def aQe(A l:TE):TE:=Kw (! M6)
inductive jD(N:jf)(v x y:V)(d4:Hp):Prop|mk:f a e4 (x=bc) (qE d4 a y v e4) (N e4) (jD N v x y d4)
def aQf(l A L:TE):TS:=Dz (jD (mI M) v x)
section z
variable{X:Cx}{o i e B:Expr}{pos E T:Pos}{l A L:TE}
theorem SG(hu:anb)(d0:Bn)(hi:yl)(c0:SF i):M (e3 o i) (aQc l A):=aR bhw y Z v ⟨aQb Y g,aP9 hu Y g Z (fun c5 c8 O W=>a v b7 O W q2)⟩
theorem aQg(hu:anb)(hi:yl)(d0:Bn):PC X .In i o (aQd A l):=aR ap5 x R ov (aP_ hu Y g Z (FS ov.isSome))
theorem SH(hu:anb)(hi:yl)(d0:Bn):PC X .NotIn i o (aQe A l):=aR ap5 x R ov (aP' hu Y g Z (FS (! ov.isSome)))
theorem aQh(hu:anb)(d0:Bn)(hi:yl)(d3:aoe)(c0:BA (q5 E)):bn [q5 E] B pos (aQf l A L):=by rw[la];refine bik;obtain⟨y,d4,O,Z,a,e4,ex,g,q3⟩:=P;rw[l_,Ey];exact aQa hu O g Z rv (fun d9 a5=>d M e4 a5 q3)
universe z
theorem ar7{P:Program}{w:World}{H:Hp}(h:Heap)(U:ahv<mG):GQ xW:=a cS (wQ U) [] .nil (Heap.DictOf.new h)
theorem aQi{P:Program}{w:World}{H:Hp}(h:Heap)(U:ahv<mG):GQ qe:=a cS (wQ U) [] .nil _ #[] 0 gL (bj tK rfl aCa)
def aQj:TE:=G6 (ad p xW)
def aQk:TE:=G6 (ad p qe)
section z
variable{X:Cx}{pos:Pos}
theorem aQl:AC aQj:=rh (f0 xW (ar7 bh ahy) (h _ pY))
theorem adK:AC aQk:=rh (f0 qe (aQi bh ahy) (h _ pY))
universe z
def adL:aa aar St Hp (er (aO V V))|[],_,H,Q=>Q [] H|(D,L)::J,M,H,Q=>D M H (jJ (L M a8 (p6 (adL J M b7 (fun c5 d4=>Q ((x,y)::c5) d4)))))
abbrev VV:au (aO V V) (aO cR cR):=dD (nS (gS p.1 q.1/\gS p.2 q.2))
def SI(X:Cx)(pos:Pos)(keys:bK PH)(b:fE)(a:aar):Prop:=∀⦃pins:bw⦄(s:Shared)(M:St)(H:Hp)(Q:er (aO V V)),cw (adL a M H Q) (evalPairs (pairTrees Hx b cF pos)) (fun vs c1=>∃c5 L,Bm/\VV c5 vs/\Q c5 L)
theorem aQm{X:Cx}{pos:Pos}:SI X pos [] [] []:=rh (pairTrees_nil_walk bam)
theorem aQn{X:Cx}{pos:Pos}{k v:Expr}{K:bK PH}{vs:fE}{D L:TE}{a:aar}(c3:M k D)(d3:M v L)(a6:SI X pos K vs a):SI X pos (aa k::K) (v::vs) ((D,L)::a):=rh (pairTrees_cons_walk (bU c3 (fun u a4 e0=>by rw[r x a8 r R d2];exact ey d3 (fun T b5 e0=>by rw[r y b7 Y Z q2];exact mo a6 (fun ws c8 e0=>by rw[r c5 d4 O d q3];exact a ((x,y)::c5) d4 O (.cons ⟨R,Z⟩ d) q3)))))
noncomputable def K2(F a:gw):gw:=a.foldl (fun B d=>mQ B d.1 d.2) F
theorem KV.merge:∀{a:gw}{f:am1}{F:gw}{vs:am1},KV a f->tW->KV (K2 F a) (merged vs f):=by intro a f F vs J;rw[aJC];induction J generalizing F vs with|nil=>{rw[fT];exact q}| @cons p q c5 v h t d6=>intro m;have e:KV aKj (stored vs q.1 q.2):=by{have:=m.put p.1 h.2;rw[<-h.1];exact this};exact d6 e
theorem ar8:∀(a F:gw),bd (K2 F a) (ia+mP)|[],F=>aGV|p::J,F=>by have a3:=ar8 J aKj;rw[ep (ar0 F p.1 p.2)];show bd (K2 aKj J) _;rw[ie];exact cf a3 a9
theorem ar9{P:Program}{w:World}:∀{F:gw}{ws:aO cR cR},VV bdQ ws->z f (Carries tM ws f) (KV F f)|[],_,J=>DU (pl CW)|p::F,_,J=>by rw[c_]at J;cases J with| @cons a b Y bs h t=>rw[aJ f c (ar9 (P:=P) (w:=w) t),aK7];exact v ((p.1,e2)::f) (aP (BL h.1) c) (.cons (bd h.2) q)
def aQo(a:aar):TE:=hs (E p (Y p) (adL a M (ad p xW) (fun c5 b7=>b7 p=aa xW/\∃F:gw,c5=bdQ/\ia<=15/\Q fP (upd b7 p (.dK (K2 [] F))))))
theorem aQp{X:Cx}{pos:Pos}{keys:bK PH}{b:fE}{a:aar}(h:SI X pos Hx b a)(g:keys.all (·.isSome)=ab)(a5:a2H=cw)(b1:Hx≠[])(k:a2H<=15):M (.Dict Hx b pos) (aQo a):=by rw[nl q];refine wpAny_Dict_walk (knd:=aJy) g a5 b1 k (o h _ _ (cN xW X8 (iF (bU q)) (ar7 bh ahy)) (q _ (zo (aCb aO))) (fun ws b5⟨c5,b7,Y,d,e,F,e1,lk,q2⟩=>?_));subst e1;rw[bI c i (ar9 (P:=eB) (w:=X.w) d),ae hd l m j (ar3 Y.dt e)];cases m;rw[w f c j (zH (m gp _ ?_ q2))];exact SD Y (jI e) c0 bgx (ar5 (by rw[fK (ar8 F [])];rw[MU]at a3;rw[J wg (cf a3 lk)]) hd (i.merge .nil) p)
section z
variable{X:Cx}{pins:bw}{M:St}{H:Hp}{s:Shared}{a:Addr}{y d:V}{u J:Value}{o:jQ}{A:Around}{E:aU}
universe z
section z
variable{X:Cx}{o e f:Expr}{i a:Pos}{l A b:TE}
universe z
section z
variable{X:Cx}{pins:bw}{M:St}{H:Hp}{s:Shared}{a:Addr}{F:gw}{A:Around}{E:aU}
universe z
section z
variable{X:Cx}{pins:bw}{M:St}{H:Hp}{s:Shared}{a:Addr}{y:V}{u:Value}{A:Around}{E:aU}
universe z
universe L2
namespace L2
open PySem PySem.Spec PyProof.Rows
section z
variable{prog:Program}{w:World}{A:Around}{E:aU}
universe z
section z
variable{X:Cx}
universe z
universe L2
namespace L2
open PySem PySem.Spec PyProof.Rows
theorem aQq:vV "reversed"=aa (.type "reversed"):=cB
section z
variable{X:Cx}{pins:bw}{M:St}{H:Hp}{s:Shared}{h':Heap}
theorem Inv.aQr{t':Nat}{ch:bg}(I:aZ)(k:bd Je ha hc)(W:bG ch (iV H)):aR H uJ:=by rw[bb4];refine My (g':=sT) (d':=zm) (ch:=ch) bgo (si Q0) (yw Q0) a_O (s1 (nt Q0)) (sU e) a'x a9v aob aH8 zl;rw[Cv (us (W _ z)),bh5]
theorem Inv.ar_{t':Nat}{ch:bg}{T:Addr}{N:HO}(I:aZ)(k:bd Je ha hc)(W:bG ch (iV H))(Z:aO<=T)(a6:cE (ad T N) T N):aR (ad T N) uJ:=by rw[f4 (zo Z),bb4];refine My (g':=sT) (d':=zm) (ch:=ch) bgo (si Q0) (yw Q0) (fun b o _ e n=>?_) (s1 (nt Q0)) (fun b O e=>?_) (fun b o u e=>?_) (fun b c5 e=>aw #[]) aob aH8 zl;rw[gU (hi hh Z) n,gU (eo d1) e,gU (eo d1) e];{rw[bW (eo d1),e];rfl};rw[Cv (us (W _ z))];{rw[N U b T];{subst U;rw[a6 ak,dU];exact a6};{rw[a6 (bW U)];refine n1 (fun c q=>QJ) (zJ QJ);rw[cY b0,a_,a_]}}
universe z
section z
variable{X:Cx}
theorem ar'{c7:Expr}{pins:bw}{M:St}{H:Hp}{s:Shared}{R:rP}{d0:It}{l:QN}{D:Nat}(I:aZ)(o:Obj)(T:qQ [aO] aO)(st:l 0 (mK o))(q:R d0 H):PIE X aI M c7 R gp (dp (mK o) D):=by rw[c aO [aO] l d0 H (MJ (fun b N e=>xp)) T (v st ua q),o9 aO,b_];exact I.Sa aY pY
universe z
noncomputable def Itc(lo c:Int)(n:Nat):It:=IJ al7
theorem aQs{P:Program}{w:World}{K:PySem.W.Frag}{c7:Expr}(it:Addr)(lo c:Int)(n:Nat):jF Z8 (a1C h it (lo+cf i*c) (cK-cf i) c)where mem:=bJ;obj:=po ai;keep:=bdO;item:=by{intro X C hw g b0 i aI s M H E I W st d8;rw[uU,yp,Lm c,ev d3];exact rj al7 (dv t)};done:=by{intro X C hw g b0 i aI s M H E I W st d8;rw[yp];exact a1A iz st (eA (n<=i) d8 (nE this)) aaO};self:=vp (a1z st h)
def RgC(i j c:Int)(n:Nat):Prop:=c≠0/\c.natAbs<1073741824/\a2I i j c=ab/\Vl i j c=n
inductive jR3(R:rP)(vs:af)(a8:Hp):Prop|mk:∀(i j c:Int)(n:Nat),A [hT,I2,.int c] (RgC i j c n) (R (Itc i c n) a8) (jR3 R vs a8)
def aQt(d6:TA):TI:=qL (jR3 R)
section z
variable{X:Cx}{c7:Expr}
theorem aQu{a b c:Expr}{d6:TA}{p pos:Pos}(d8:Gl X "range")(c4:ge "range")(b3:PA X aaR d6)(c0:gd aaR (g8 (e1 a) [b,c]))(b8:gf pos [b,c]):ht (eA "range" aaR) (aQt d6):=by rw[jq R];refine jI boot_range b8;rw[JU];obtain⟨i,j,k,n,e,⟨u,e5,e6,c1⟩,q⟩:=d2;rw[b_];cases r1 with|cons J C=>cases C with|cons B C=>cases C with|cons d C=>rw[oc,El,dn t' B,dn f d];refine call_range_3 u (a1D (a1E ..) e6 ?_) (.inl (a1G e5));refine ar' (D:=ahz) (sp Pm) _ (aQs _ i k n) ?_ q;rw[aS b4 (i+ae 0*k) i];have b9:cK-ae 0=Vl i j k:=by{exact E4};rw[b4,b9];exact gL
universe z
noncomputable def Itv(K:PySem.W.Frag)(a:Addr)(n:Nat):It:=v (mV (i<n/\Iu (nX (n-1-i)))) (fun i H x L=>L=H/\E O jk (nX (n-1-i))) a7A
theorem aQv{P:Program}{w:World}{K:PySem.W.Frag}{c7:Expr}(a it:Addr)(n:Nat):jF (Itv K a n) (Qn/\h.IsRevIter it a (cK-1-cf i))where mem:=bJ;obj:=po (by have e:b=it:=by{grind};rw[b_];obtain⟨_,o,e,c,d⟩:=st;exact a7N);keep:=pa ⟨st.1,st.2.at a7Z⟩;item:=by{intro X C hw g b0 i aI s M H E I W st d8;rw[uU];obtain⟨k8,O,x,e0,S⟩:=d8;rw[ZD,ZX,yp];obtain⟨_,L⟩:=st;have b4:cK-1-ae i=ae (n-1-i):=by{rw[ahA (VF k8),ahA (ff cS k8)];rfl};rw[b4]at L;refine wpAny_pyNext_rev_item L qO (x:=u) ag aKF;have b9:ae (n-1-i)-1=cK-1-ae (i+1):=by{rw[fU]};rw[b9]at f;rw[aII];exact Da (a x H (a7z) m aLg ⟨k8,f⟩ (dc (Ep).1))};done:=by{intro X C hw g b0 i aI s M H E I W st d8;rw[yp];obtain⟨k8,L⟩:=st;have j:n<=i:=d8;have b4:cK-1-ae i= -1:=by{exact a2K (nE j) (nE k8)};rw[b4]at L;exact wpAny_pyNext_rev_end iz L aaO};self:=vp (a2J st.2 h)
inductive jV(K:PySem.W.Frag)(R:rP)(vs:af)(a8:Hp):Prop|mk:∀(a:Addr)(O:af),A [bc] Yw (R (Itv K a bx) a8) (jV K R vs a8)
def aQw(K:PySem.W.Frag)(d6:TA):TI:=qL (jV K R)
section z
variable{X:Cx}{c7:Expr}
theorem asf{d:PySem.W.Frag}{e:Expr}{d6:TA}{p pos:Pos}(d8:Gl X "reversed")(c4:ge "reversed")(b3:QO)(c0:RC)(g:Bh):ht (eA "reversed" [e]) (aQw d d6):=by rw[ub,jq R];refine jI aQq rfl;rw[JU,y O e e0 q d2,b_];cases r1 with|cons J C=>rw[oc,hQ,a1 rv u (CU e0),f5 CS,ae b4 (ae wj-1) (v bx-1-ae 0)];refine call_reversed_list u.isList (a2J (l:=a) (i:=ae wj-1) Pu (ar' (D:=ahz) r _ (aQv a _ bx) (aw cS) q));rw[<-b4];exact Pu
universe z
section z
variable{prog:Program}{w:World}{A:Around}{E:aU}{s:Shared}
universe z
section z
variable{X:Cx}{pins:bw}{M:St}{H:Hp}{s:Shared}{d:Addr}{o:Obj}
universe z
section z
variable{P:Program}{w:World}{K:PySem.W.Frag}{c7:Expr}{d:Addr}{o:Obj}{a7:fv VG}{e1:Nat}
universe z
section z
variable{X:Cx}{c7 e:Expr}{l:TE}{i a:Pos}
universe z
noncomputable def Ite(K:PySem.W.Frag)(a:Addr):It:=gg (Iu nr) (∃T x,v=al6/\Y T/\L=ad T (eA x)/\E O jk nr) (∃O:af,jk/\bx<=i)
theorem aQx{P:Program}{w:World}{K:PySem.W.Frag}{c:fE}{B:Nat}{T:Pos}(a e it:Addr):ahB P w K bcu (Ite K a) amW e (fun i h=>(It (ae i))/\CT it a i/\e≠it)where mem:=bJ;obj:=po (by obtain⟨⟨a7,a0⟩,⟨o,d0,b0,hd⟩,_⟩:=st;rw[cY (aI U),a_,a_]);keep:=pa (let⟨⟨a7,a0⟩,hi,R⟩:=st;v ⟨a7,k e bJ _ a0⟩ (hi.at (lK (k it oq o q))) R);item:=by{intro X C hw g b0 i aI s M H E I W st d8;rw[uU,bgJ,aMH,ZD,ZX];have d:=fw a0;refine a2M a0 L qO (x:=u) ai R (fun h' d0 f Z G c3=>dl (wpAny_letOwnedTupleGo_enum (s:=dp h' (dE+1)) d0 (fun l V sb=>?_)));have a6:ox eB X.w (ad aO (eA x)) l aO (eA x):=a aIU [.int i dE,u] (h8 ek m) _ (ac sb _ (v_ d) Z) rfl _ rfl;rw[Q gp _ (I.ar_ (ch:=amW) (fun b N U q=>ac sb b aJ1 (c3 b N aJ1 aJ1 q)) W aY a6) (v (f _ x pY aLg) (v (aw u) (f.at (lK (ac sb it (hx R) q))) R) ua),cX,gU (gF (by rw[cY (aI U),l IV,Z z (ge q L (fw q))])) (Ep).1]};done:=by{intro X C hw g b0 i aI s M H E I W st d8;rw[uU,bgJ,aLR,ZD,rt (W it oq),f5 CS];exact a2L iz a0 L qO ai (fun h' f7=>bd (vS (fun b o U q=>f7 b o U q)))};self:=vp (let⟨⟨_,a0⟩,_⟩:=st;aCc a0 h)
inductive jE(K:PySem.W.Frag)(R:rP)(vs:af)(a8:Hp):Prop|mk:f a O (vs=uo) Yw (R (Ite K a) a8) (jE K R vs a8)
def aQy(K:PySem.W.Frag)(d6:TA):TI:=qL (jE K R)
theorem aQz{d:PySem.W.Frag}{X:Cx}{e:Expr}{d6:TA}{p pos T:Pos}{c:fE}{B:Nat}(d8:aHx)(c4:aHE)(b3:QO)(c0:RC)(g:Bh):PI X bcu (eA "enumerate" [e]) (aQy d d6):=by rw[ub,jq R];refine jI a2O rfl;rw[JU,y O ex e0 q d2,l_];cases r1 with|cons J C=>rw[oc,hQ,a1 rv u (CU e0),qM u.isList (aCc a0 ?_),c (fY+1) [fY+1,fY] _ _ a8 (sp c3) (aQx a (fY+1) fY) (v (v ⟨.none,a0⟩ L (a2N _)) ua q)];have c1:fY<=b:=by{rw[en]};exact a_b
theorem ash:vV "zip"=aa (.type "zip"):=cB
noncomputable def Itz(K:PySem.W.Frag)(a b:Addr):It:=gg (∃(O d7:af)(x y:V),N jk aJ7 nr (A d7 y)) (∃T x y,v=al6/\Y T/\L=ad T ZS/\ad O jk nr/\E d7 aJ7 (A d7 y)) (∃O d7:af,jk/\aJ7/\(bx<=i\/oW<=i))
inductive jZ(K:PySem.W.Frag)(R:rP)(vs:af)(a8:Hp):Prop|mk:pc (R (Itz K a b) a8) (jZ K R vs a8)
def aQA(K:PySem.W.Frag)(d6:TA):TI:=qL (jZ K R)
universe L2
section z
namespace Bits
open PySem PyProof.Rows
universe Bits
universe z
section z
namespace TL
open PySem PySem.Builtin PySem.Builtin.Str PySem.StrLaws
universe TL
universe z
namespace L2
open PySem PySem.Spec PyProof.Rows
section z
variable{X:Cx}{pins:bw}{M:St}{H:Hp}{s:Shared}{Q:VK}
universe z
section z
variable{X:Cx}
universe z
section z
variable{X:Cx}{o e:Expr}{C b8:TE}
universe z
universe L2
namespace L2
open PySem PySem.Spec PyProof.Rows
section z
variable{X:Cx}
universe z
universe L2
namespace Att
open PySem PySem.W PySem.Calls PyProof.Rows
section z
variable{prog:Program}{w:World}{A:Around}{E:aU}{s:Shared}{K:Frag}
universe z
universe Att
namespace L2
open PySem PySem.Spec PyProof.Rows
universe L2
namespace L2
open PySem PySem.Spec PyProof.Rows
universe L2
namespace L2
open PySem PySem.Spec PyProof.Rows
abbrev so:mr:=jo cE
abbrev E0:XK:=JR
theorem fu{X:Cx}:a2P so X E0:=iS h Ho
structure K3(K:PySem.W.Frag)(x j:Str)(st:Stmt)(f:Addr)(fd:FuncData):Prop where
 ex:∃(D:Value)(m:nk)(kV p b3:Value)(g:nk)(e3 ct:Value)(z:EA),fd=j3 x j/\Ck fd/\aLF
 kp:aIk
section z
variable{P:Program}{w:World}{K:PySem.W.Frag}{mg:dN}{base:Heap}
theorem K3.ok{x j:Str}{st:Stmt}{f:Addr}{fd:FuncData}{N c5:cW}{k:Nat}{e8:Sp}(F:ju j fd)(r:apD)(len:alp)(l:∀(e3:Value)(A:Around)(outer:kf)(s:Shared)(H:Hp)(vs:af)(Q:VK)(E:XK),fb (ahe j Eh aO f e3) (yF so P w K mg aj N j Eh f e3 A eA s H E).KA (RN st)):f3 so (k+1) fd:=by rw[bi2];refine aO9 lk S r len (fun A eA s H vs Q E a6 C=>?_);rw[aJ t h (l e3 A eA s H vs Q E a6 C)];exact v t h.KA q
theorem K3.binds{x j:Str}{st:Stmt}{f:Addr}{fd:FuncData}{c5:cW}(F:ju j fd)(h:h5 x j):aaA:=by rw[bi2];exact .all (h kV p b3 g e3 ct)
theorem aQB{x j:Str}{st:Stmt}{f:Addr}{D:Value}{m g:nk}{z:EA}{kV p b3 e3 ct:Value}(l:Ck (j3 x j))(c:aLF)(k:aIk):ju j (j3 x j):=⟨a D m kV p b3 g e3 ct (bj z l c),k⟩
universe z
theorem aQC{A:Around}{k:Nat}(a6:JS):J0:=ff (a05 (ax:1<=64) _) wt
section z
variable{X:Cx}
theorem pv(i:Nat){x:Str}{pos:Pos}(hN:ch ye)(d3:ez aor ahC)(hd:mj)(S:a8m):M (gT pos) (hr i):=aNN hN d3 hd S
universe z
theorem bjr{A B:Prop}(h:B):lt ah:=bB
theorem asi{A B:Prop}(h:A):lt ab:=bB
theorem fH{c A B:Prop} [Hy c](a3:c->A)(a9:¬c->B):if c then A else B:=ai
theorem adO{c A B:Prop} [Hy c](b0:c)(h:B):lt (! cv c):=ag
def cY(H L:Hp):Prop:=hy (H b) alw
theorem cY.refl(H:Hp):cY H H:=fun _ _ h=>h
theorem cY.trans{H a8 b7:Hp}(a:cY H a8)(b:cY a8 b7):cY H b7:=fun c o h=>b c o (a c o h)
theorem cY.free{H L:Hp}(e:bP){l:Addr}(h:L l=a2Q):H l=a2Q:=by cases q:H l with|none=>{rfl}|some o=>rw[m7 (e l o q)]
theorem cY.seq{K:PySem.W.Frag}{H L:Hp}{a:Addr}{O:af}(e:bP)(h:jk):fW K L a O:=rc (e _ _ h) (e _ _ h)
section z
variable{c:Type} [wm c]
theorem asj:∀{l:bK c}{k:c},zA->¬k∈l->c8 (l++[k])|[],k,_,_=>aT|a::J,k,h,c3=>cq
universe z
theorem at_of{O:af}{z:Int}{j:Nat}{v:V}(e:z=v j)(h:anq):sz z:=t e (dZ h)
theorem Gb{I:Type}{l:ba}(hN:l.Nodup){i j:Nat}{x:I}(a:xQ)(b:Ew):i=j:=bgW
universe L2
namespace GM
abbrev Ln:=fB
theorem asl{a b x y z:Int}(a3:a+b*x<=0)(a9:a+b*z<=0)(S:gx)(c9:y<=z):a+b*y<=0:=by rcases aCe 0 b with U|U;rw[cc (VH c9 U) (j4 a9),cc (aCd U S) (j4 a3)]
theorem aQD{a b x y z v:Int}(a3:a+b*x<=0)(a9:a+b*z<=0)(e2:a+b*x<0\/a+b*z<0)(S:gx)(d3:y<v)(c9:v<=z):(a+b*y)+(a+b*v)<0:=by have b4:=gP y S (x (eW (a1_ d3 c9)));have b9:=gP v (x (eW (Int.lt_of_le_of_lt S d3))) c9;rw[bs b U U U];{have:b*v<b*y:=aCf d3 U;exact se b4 b4 this};{rw[en]};{have:b*y<b*v:=ahD d3 U;exact se b9 b9 this}
structure Arr where
 n:Nat
 lines:cI
 k:eg
 u:eg
 X:Ln->Int->Int
noncomputable def top2(e f:Ln):Nat:=min e.2 f.2
noncomputable def iG(e f:Ln):Nat:=max e.1 f.1
structure Arr.Ok(R:Arr):Prop where
 lt:kw (Ym/\e.2<R.n)
 nd:R.lines.Nodup
 km:l i j (i<j) (j<R.n) (R.k i<R.k j)
 BM:kw (yI (R.X e x))
 lo:kw (fb e.1=R.u e.1)
 hi:kw (fb e.2=R.u e.2)
 on:kw (pp (fb v) (R.u v))
 nc:kw (∀f∈gH,kH<hb->aK3->fb hb<=m4 hb)
structure mu(R:Arr)(e f:Ln):Prop where
 ov:kH<hb
 b:fb kH<=m4 kH
 t:fb hb<=m4 hb
 s:aK3\/fb hb<m4 hb
theorem Arr.Ok.kle{R:Arr}(Y:R.Ok){i j:Nat}(h:i<=j)(b8:j<R.n):R.k i<=R.k j:=by rw[eT (qU h),l (eW (Y.km i j h b8))];simp[*]
theorem Arr.Ok.diff{R:Arr}(Y:R.Ok){e f:Ln}(a0:lZ)(W:ZO):yI (R.X e x-R.X f x):=by rw[ak b h (Y.BM e a0)];obtain⟨c,d,g⟩:=Y.BM f W;rw[aa (a-c) (b-d) Jj];rw[h,g];grind-abstractProof
theorem mu.le{R:Arr}(Y:R.Ok){e f:Ln}(a0:lZ)(W:ZO)(h:aaK){z:Int}(a3:P2<=z)(a9:z<=P4):R.X e z<=R.X f z:=by rw[ak b g aJK];have b4:=g P2;rw[g2 (g P4)];have e7:=g z;have:=asl (a:=a) (b:=b) (x:=P2) (z:=P4) (y:=z) baG baH a3 a9;exact j4 e7.m
theorem mu.two{R:Arr}(Y:R.Ok){e f:Ln}(a0:lZ)(W:ZO)(h:aaK){y z:Int}(a3:P2<=y)(a9:y<z)(e2:z<=P4):R.X e y+R.X e z<R.X f y+R.X f z:=by have⟨a,b,g⟩:=aJK;have b4:=g P2;rw[g2 (g P4)];have e7:=g y;have g5:=g z;have:=aQD (a:=a) (b:=b) (x:=P2) (z:=P4) (y:=y) (v:=z) baG baH (by have:=h.s;grind) a3 a9 e2;exact se e7.m this g5.m
theorem mu.asymm{R:Arr}{e f:Ln}(h:aaK)(g:mu R f e):cE:=by have a:iG f e=kH:=a2S _ _;have b:o_ f e=hb:=a2R _ _;have e2:=h.s;have g7:=g.b;have g8:=g.t;rw[en]
theorem aQE{R:Arr}(Y:R.Ok){e f:Ln}(a0:lZ)(W:ZO)(h:e.1=f.1)(c6:fb hb<m4 hb):aaK:=by have le:=jh;rw[bT (ed f W)];have U:kH=e.1:=by{delta iG;simp[*]};have b4:=wu e a0;rw[g2 (wu f W)];rw[<-h]at b9;rw[w ?_ ?_ (eW c6) (.inr c6)];{delta iG o_;rw[h,Nat.max_self];exact aCg ⟨h▸le.1,m.1⟩};simp_all
theorem asm{R:Arr}(Y:R.Ok){e f:Ln}(a0:lZ)(W:ZO)(ov:kH<hb)(h:aK3):aaK:=d ov (eW h) (Y.nc e a0 f W ov h) AI
abbrev Row:=aO Ln Nat
noncomputable def di:gQ Row Nat|g,[]=>g|_,(_,g)::J=>di g J
def hs(P:J5):au Nat Row|_,[]=>gD|g,(e,g')::J=>aI9/\hs P g' J
noncomputable def du(g:Nat)(Z:Row):ao:=g::ahE eX
noncomputable def linesOf(Z:Row):cI:=ahE fN
theorem oA:Ij (di g (Z++d5)=di JV d5)|[],d5,g=>rfl|(e,g')::Z,d5,g=>oA Z d5 g'
theorem oB{P:J5}:Ij (hs P g (Z++d5)↔ft P/\hs P JV d5)|[],d5,g=>eN hs di|(e,g')::Z,d5,g=>by simp[hs,di,oB Z d5 g',and_assoc]
theorem hs.mono{P Q:J5}:fZ (∀g e g',(e,g')∈Z->aI9->Q g e g') (ft P) Q|[],_,_,_=>fZ|(e,g')::Z,g,h,⟨a,b⟩=>⟨h g e g' bJ a,b.mono (fun g7 b4 g8 m=>h g7 b4 g8 rB)⟩
theorem hs.adP{P:J5}:jD (ft P) (df pZ (Fk (P g7 e g8)))|[],_,_,e,h=>kq bG|(e,g')::Z,g,⟨a,b⟩,f,h=>by rw[jC bG];rcases h with rfl|⟨q,h⟩;rw[l (a g bJ g' oq a)];{rw[vl (b.adP f (hJ bG (ix q))),j g7 ?_ g8 ?_ h];{rw[O3]};{rw[O3]}}
theorem sr:∀(Z:Row)(g:Nat),JV∈dS Z|[],g=>aGV|(e,g')::Z,g=>by have:=sr Z g';simp[di,du]at this⊢;rw[eT this,co AZ];exact pd bF
theorem hs.swap{P:J5}{Z:Row}{g h:Nat}(q:j e g' aI9 (P h e g'))(c:ft P):hs P h Z:=by cases Z with|nil=>{trivial}|cons a J=>exact⟨q _ _ c.1,c.2⟩
noncomputable def cQ(i:dA):anA|[]=>0|e::J=>i e+dL J
theorem SJ(i:dA){a b:cI}(h:a.Perm b):dL a=dL b:=by induction h with|nil=>{rfl}|cons x _ d6=>{simp[cQ,d6]}|swap x y l=>{simp[cQ];simp+arith [*]}|trans _ _ a b=>exact a.trans b
def Wp(i:dA)(w:eg)(g:Nat)(e:Ln)(g':Nat):Prop:=w g=i e+w g'
theorem adQ{i:dA}{w:eg}:∀{Z:Row}{g:Nat},Zd->w g=dL pZ+w JV|[],g,_=>bx bG cQ di|(e,g')::Z,g,⟨a,b⟩=>by have:=adQ b;delta Wp at a;simp[bG,cQ,di]at this⊢;simp+arith [*]
noncomputable def iH:i cI Nat Nat Row|[],_,_=>[]|[e],_,J=>[(e,J)]|e::f::a7,c,J=>(e,c)::a'y
theorem mv:Iw (bG Q_=N)|[],c,J=>rfl|[e],c,J=>rfl|e::f::a7,c,J=>by have:=mv EN (c+1) J;simp[iH,bG]at this⊢;exact this
theorem asn:DC (N≠[]->di g Q_=J)|[],c,J,g,h=>aIw|[e],c,J,g,_=>rfl|e::f::a7,c,J,g,_=>by simp[iH,di];exact asn EN (c+1) J c Rq
theorem aso:Iw (aL Q_ (x.2=J\/(c<=x.2/\x.2+1<c+iT)))|[],c,J,x,h=>kq iH|[e],c,J,x,h=>by{rw[jC iH];(constructor<;>(subst_vars;rfl))}|e::f::a7,c,J,x,h=>by rw[jC iH,aog];{simp};{rw[eT (aso EN (c+1) J x h),l AZ];grind-abstractProof}
theorem asp{i:dA}{w:eg}{d:Int}:DC (b (w J) d (w g=d+dL N) (ad j (j+1<iT) (w (c+j)=d+dL (N.drop (j+1)))) (N≠[]) (hs (Wp i w) g Q_))|[],c,J,g,_,_,_,h=>aIw|[e],c,J,g,a3,a9,_,_=>by{rw[l6 fZ];delta Wp;rw[a3,a9];simp[cQ];simp+arith [*]}|e::f::a7,c,J,g,a3,a9,e2,_=>by have a:=e2 0 AN;simp at a;rw[l6 (asp EN (c+1) J c a3 a Rr Rq)];{delta Wp;rw[a,a9];simp[cQ];simp+arith [*]};rw[i5 (e2 (j+1) (x (Vn b8)))]
structure Sw where
 row:Row
 cnt:Nat
 aP:cD
 side:amC
noncomputable def merge(aP:cD)(a b:Nat):cD:=ab (v kQ FJ aaj kQ)
noncomputable def mw:i Nat Row Ln (bY fB)|_,[],_=>ae|g,(f,g')::J,e=>aw (e=f) (g,g') (mw g' J e)
structure Step(R:Arr)(v:Nat)(s c1:Sw)where
 A:Row
 E:Row
 B:Row
 N:cI
 row:pa=h1 E
 hA:ib A (fb v<R.u v)
 hE:ib E (e.2=v)
 hB:ib B (R.u v<fb v)
 hN:eM N lZ e.1
 sN:a7_
 bjs:c1.row=h1 a'S
 K4:ahF=ee+(iT-1)
 lab':Hz=pD hl (di hl E)
 adR:M7=o6 hl a'S
def Kept(R:Arr)(i:dA):Prop:=E v (v<R.n) (dL (lP e.2)=dL (lP e.1))
def Sp(s:Sw)(g:Nat)(e:Ln)(g':Nat):Prop:=eL g=eL Y2/\eL g'=eL amo
structure Inv(R:Arr)(t:Nat)(s:Sw):Prop where
 mem:∀e,e∈tQ↔aGf
 dP:eT tQ (mu R)
 pos:0<ee
 gap:∀g∈du 0 pa,g<ee
 bjt:E x (x<ee) (eL x<ee)
 adS:E x (x<ee) (eL x<=x)
 K5:E x (x<ee) (eL (eL x)=eL x)
 last:eL (di 0 pa)=0
 al:hs (Sp s) 0 pa
 aQF:kw (jW->Y2<ee/\amo<ee)
 SK:E x (x<ee) (x=0\/fx gH (jW/\(Y2=x\/amo=x)))
 zero:0<t->(anG)->fx gH (e.1=0/\Y2=0)
universe GM
namespace GM
theorem ht(a b:Row):bG (a++b)=bG a++bG b:=ar bG
theorem asq:qY (e∉pZ) (mw g Z e=ae)|[],_,_,_=>rfl|(f,g')::Z,g,e,h=>by rw[jC bG];simp[mw,h.1];exact asq (hJ bG h.2)
theorem asr:jD (c8 pZ) (ft (fun g7 e g8=>beF))|[],_,_=>fZ|(f,g')::Z,g,h=>by rw[jC bG,v (x cO) (bN (asr (Z:=Z) (g:=g') (hz bG h.2)) (fun g7 e g8 m q=>?_))];have:e≠f:=ah (h.1 g8 (q▸m));simp[mw,this];exact q
theorem ass:qY (e∈pZ) (Fk beF)|[],_,_,h=>kq bG|(f,g')::Z,g,e,h=>by rw[T e f,l (a g bJ g' oq (x kS))];{have:e∈pZ:=by{simp[bG]at h⊢;simp_all};rw[vl (ass (g:=g') this),j g7 ?_ g8 ?_ (bx mw q h)];{rw[O3]};{rw[O3]}}
theorem adT(aP:cD)(a b:Nat):ox a=ox b:=by delta s_;grind-abstractProof
theorem asu{aP:cD}{a b x:Nat}(h:kQ=0):ox x=0:=by delta s_;split<;>simp_all
theorem aQG{aP:cD}{a b x y:Nat}(h:kQ=aP y):ox x=ox y:=by delta s_;rw[h]
theorem SM{R:Arr}:k5 (pb (mu R)) zA:=fun{l}h=>h.imp (fun{a b}q e=>by rw[b_];exact q.asymm q)
theorem oC(g:Nat)(a b:Row):e7 (x∈dS (a++b)↔x∈dS a\/x∈du (di g a) b):=by intro x;simp only[du,fg,hH,hF];have:E y (y=di g a) (y=g\/y∈a.map eX):=fun y h=>by{have:=sr a g;rw[h];rw[o0 du]};constructor;rw[cL];grind-abstractProof
variable{R:Arr}{t:Nat}{s c1:Sw}
theorem Step.asv(r:lx){x y:Nat}(S:x<ee)(b6:y<ee)(h:eL x=eL y):Hz x=Hz y:=by rw[pd];split;rw[l (aQG h),a_]
theorem Step.oD(r:lx):ee<=ahF:=t r.K4 xK
theorem Step.aQH(r:lx){e:Ln}(h:e.1≠t):M7 e=wy e:=by rw[r.adR];have:e∉bG aaG:=by{rw[mv];rw[fT];exact h (x (ta e) q).2};simp[asq this]
theorem Step.asw(r:lx):r.N.Nodup:=SM r.sN
theorem Step.aQI(r:lx)(I:yn):lT<ee:=by refine HA _ ?_;rw[tb,oC];exact al8
theorem Step.aQJ(r:lx)(I:yn):lX<ee:=by refine HA _ ?_;rw[tb,oC,oC];exact .inr al8
theorem Step.adU(r:lx)(I:yn):∀g∈du lT aaG,g<ahF:=by rw[dt g];simp only[du,hH,fK]at h;rw[cn amc,cb amd,cc r.oD];rcases h with rfl|⟨x,S,rfl⟩;rw[l pU];{rw[eT (aso _ _ _ x S),l (ff h.l (fJ b c)),Z r.K4 (cf h.2 (aS r.N.length 1))]}
theorem Step.aQK(r:lx){x:Nat}(h:ee<=x)(S:x<ahF):Hz x=x:=by rw[pd];have:r.N≠[]:=by{rw[fT];have:=r.K4;rw[am q,uu];exact yv h S this.l};rw[tX,a9r]
theorem Step.Gd(r:lx):hs (fun g e g'=>M7 e=(g,g')) lT aaG:=by refine bN (asr (t mv r.asw)) (B6 ?_);rw[r.adR];simp[h]
theorem asx:∀(N:cI)(c J j:Nat),j+1<iT->fx N ((e,c+j)∈Q_)|[],c,J,j,h=>ai|[e],c,J,j,h=>ai|e::f::a7,c,J,j,h=>by cases j with|zero=>{exact v e bJ (x fx)}|succ j=>rw[aJ d3 m (asx EN (c+1) J j (x (a2T h))),ak d3 (x (ck bF))];simp[iH];grind-abstractProof
theorem asy{P:J5}:jD (ft P) (∀{e:Ln}{x:Nat},(e,x)∈Z->∃y,P y e x)|[],_,_,e,x,h=>ai|(f,g')::Z,g,⟨a,b⟩,e,x,h=>by rw[ma];rcases h with⟨rfl,rfl⟩|h;rw[cL,l (asy b h)]
theorem asz(Y:R.Ok)(c6:Qx)(I:yn)(r:lx):Inv R (t+1) c1:=by rw[bh3];have o:bG c1.row=alu++(r.N++alv):=by{rw[HD,ht,ht,mv]};rw[m9 i alu,m9 H AM,m9 j alv,c5 p alu (i e h) (r.hA e h),c5 u alv (j e h) (r.hB e h)];have dP:=M_;rw[n]at dP;rw[qW,qW]at dP;obtain⟨c0,⟨sE,v,K⟩,L⟩:=dP;have al:=I.al;rw[tb,oB,oB]at al;rw[dP M C al];have X:=amc;have i7:=amd;have e9:=r.oD;have b3:=HA;rw[tb]at b3;have w:=baq;have N:=wb (yG AI);rw[a_5];have keep:∀{g:Nat}{e:Ln}{g':Nat},j lZ jW (g<ee) (g'<ee) (Sp s g e g') (Sp c1 g e g'):=by{intro g e g' a0 a3 d8 E⟨d2,q2⟩;have sl:=HC e a0 a3;delta Sp;rw[HB aHg];exact⟨r.asv d8 sl.1 d2,r.asv E sl.2 q2⟩};have A:∀{Z:Row}{g:Nat},i (bk (dS Z) (x<ee)) (V e pZ aGf) (ft (Sp s)) (ft (Sp c1)):=by{intro Z;induction Z with|nil=>{intros;trivial}|cons a J d6=>intro g d8 a0 b0;rw[fW g' a,bT (a0 e bJ),v (eo m.1 Au (d8 g bJ) (d8 g' oq) b0.1) (d6 (aL (d8 x ?_)) (aL (a0 x ?_)) b0.2)];{simp[du]at S⊢;exact .inr bF};{simp[bG]at S⊢;exact .inr S}};rw[Cr baM];{intro e;rw[o];simp only[hF];constructor;{rintro(h|h|h);rw[cx (i e h).1 (wk (aV (i e h))) (p e h)];{rw[cn (x (ta e) h)];have:=ed e a.1;exact v a.1 ag (fL a.2.g eu)};exact v (j e h).1 (wk (aV (j e h))) (u e h)};{rw[aLn,T e.1 t,co (.inl (ae (ta e) ⟨a3,q⟩))];{have:=ae iw (v a3 (cz a9 q) dV);rw[am n,pw hF,A2 this,Fq];{have:=r.hE e h;rw[en]};rw[co (.inr bF)]}}};{rw[o,qW,qW];rw[aa c0 (v r.sN v (fun f W e a0=>?_)) (fun e a0 f W=>?_)];{rw[a_9,cb (j e a0),cc (u e a0)];have d:=ed f a.1;rw[o5 (iG f e) (VI (ey b.2.1))];refine asm Y a.1 b.1 (t U (aCg ⟨a.2▸d.1,c⟩)) ?_;rw[U,<-a.2,wu f a.1,a.2];exact r.hB e a0};{simp only[hF]at W;rcases W with W|W;{rw[a_9,cb (i e a0),cc (p e a0)];have d:=ed f a.1;rw[o5 kH (HE (ey b.2.1))];refine asm Y b.1 a.1 (t U (aCg ⟨c,a.2▸d.1⟩)) ?_;rw[U];have:=wu f a.1;rw[am a.2];rw[this];exact r.hA e a0};rw[a_]}};rw[l (cf e9 X)];{rw[dt g];rw[HD,oC,oC]at h;rw[A2 h,l (fJ (w g h) e9),l (r.adU I g h)];{rw[T r.N []];{rw[aj q];simp only[iH,di,du,hH]at h;rw[eT h,l (ff h.l (fJ X e9)),cc (l g (by simp only[du,hH];exact .inr h)) pU]};{rw[aj RK];have:=l g h;exact cn this e9}}};{intro x S;rw[an7];{rw[fK (M9 x b0)];rw[pd];split;{rw[ep (M9 _ X)];have e2:=M9 _ i7;delta s_;rw[a8o]};rw[EW]};rw[Z aLo S]};{intro x S;rw[an7];{rw[fK (I.adS x b0)];rw[pd];split;{delta s_;rw[a8o]};rw[a_]};rw[Z aLo aY]};{intro x S;rw[an7];{rw[fK (I.K5 x b0)];rw[pd];split;{delta s_;rw[T (eL x) a_d];{rw[aIM,cY (M8 (eL lT) (eL lX))];{rw[qV z,(I.K5 _ X)];rw[am0]};{rw[Dj z,(I.K5 _ i7)];rw[am0]}};rw[a_]};rw[a_]};{have:=aLo;rw[this,this]}};{rw[f5 I.last];rw[tb,oA,oA]at a5;rw[HD,oA,oA];rw[aJ6];{rw[pd,aJ q,q];rw[aot];cases hB:r.B with|nil=>{rw[an4,an8,J adT (asu a5)]}|cons a J=>rw[f4 g a,an4,an8];exact asu a5};{rw[RK,pd,bj q];have:=l _ (sr r.B _);simp[this,a5]}};{rw[HD,oB,oB];rw[ak (A w i B) (r.Gd.mono (B6 ?_))];{delta Sp;rw[h];exact xJ};{have base:=A l j C;rw[T r.N []];{rw[q];rw[aot];refine base.swap (fun e g' h=>l2 h.2);rw[<-h.1,pd,aJ q];exact adT _ _ _};rw[Z RK aj]}};{intro e a0 a3;rw[T e.1 t];{rw[z m (e∈bG aaG) mv a8P,vl (ass (g:=lT) m)];have b4:M7 e=(g7,g8):=by{rw[r.adR];simp[h]};rw[b4];exact⟨r.adU I _ g9,r.adU I _ e1⟩};{rw[HB q];have:=HC e a0 bL;rw[Fm]}};{intro x S;rw[an7];{rcases I.SK x b0 with h|⟨e,a0,a3,a9⟩;rw[l AZ,co (d e a0 Jh (t (HB aHg) a9))]};{rw[aJ e m (asx r.N ee lX (x-ee) (bv r.K4 (Nat.add_lt_of_lt_sub (Nat.sub_lt_left_of_lt_add (zj b0) (this▸S))))),cQ (show ee+(x-ee)=x by simp_all)];obtain⟨y,b6⟩:=asy r.Gd q;rw[cn (x (ta e) m)];exact bj e a.1 ag (.inr (iQ b6))}};{intro _ b1;rw[T t 0];{rw[e_,gA a3 b1];have D:=ae (ta e) ⟨a0,a3⟩;have F:r.A=[]:=by{cases hA:r.A with|nil=>{rfl}|cons a J=>have:=i a.1 (mv hA bG);simp_all};cases hN:r.N with|nil=>{rw[zD hN]}|cons f G=>have k:=x (ta f) ag;rw[b2 f k.1 k.2,cc r.Gd];rw[hN,F]at c;cases G with|nil=>{rw[bgf]}|cons h3 G=>rw[bgf]};{obtain⟨e,a0,a3,a9⟩:=I.zero amr b1;exact d e a0 a3 (t (HB fp) a9)}}
theorem asA(R:Arr):Inv R 0 aLW:=by rw[Cr baM]<;>simp[bG,du,di,hs]
universe GM
namespace GM
variable{R:Arr}
theorem hs.SN{i:dA}{w c5:eg}:fZ (bk (dS Z) (c5 x=w x)) Zd (Wp i c5)|[],_,_,_=>fZ|(e,g')::Z,g,h,⟨a,b⟩=>by rw[l6 (b.SN (aL (h x ?_)))];{delta Wp at a⊢;rw[h g bJ,h g' oq];exact a};{rw[O3]}
theorem hs.and{P Q:J5}:fZ (ft P) (ft Q) (fun a e b=>P a e b/\Q a e b)|[],_,_,_=>fZ|(e,g')::Z,g,⟨a,b⟩,⟨c,d⟩=>⟨⟨a,c⟩,b.and d⟩
structure Run(R:Arr)where
 st:df Sw
 zero:st 0=aLW
 step:E t Qx (aCh R t (st t) (st (t+1)))
theorem Run.inv(J:kg)(Y:R.Ok):x4 (Inv R t (f_ t))|0,_=>t J.zero (asA R)|t+1,h=>asz Y h aIZ (Na t h)
theorem Run.oD(J:kg):∀{t t':Nat},t<=t'->t'<=R.n->E6<=(f_ t').cnt:=by intro t t' h h';induction t' with|zero=>{simp_all}|succ m d6=>rw[T t (m+1),a_,kx (Na m bB).oD]
theorem Step.asB{t:Nat}{s c1:Sw}(r:lx)(Y:R.Ok)(I:yn)(e:Ln):e∈AM↔lZ/\e.2=t:=by rw[bh3];constructor;{rw[eE];have:=x iw ag;exact⟨eu,r.hE e h⟩};{rintro⟨a3,a9⟩;rw[cd (ed e a3)];have:=ae iw (v a3 (bV l.1 a9.l) (x a9.g));rw[am n,pw hF];have hi:=wz e a3;rw[a9]at hi;rw[A2 this,nN (r.hA e h),l h,nN (r.hB e h)]}
theorem Step.asC{t:Nat}{s c1:Sw}(r:lx)(I:yn):eT AM (mu R):=by have dP:=M_;rw[tb,ht,ht,qW,qW]at dP;exact dP.2.1.1
theorem Step.asD{t:Nat}{s c1:Sw}(r:lx)(Y:R.Ok)(I:yn):eQ AM (ahG (an (e.2==t))):=os (HF (SM (r.asC I)) (VJ _)) aLp
theorem Step.aQL{t:Nat}{s c1:Sw}(r:lx)(Y:R.Ok):r.N.Perm (ahG (an (e.1==t))):=os (HF r.asw (VJ _)) (ta e)
structure Flow(R:Arr)(J:kg)(i:dA)(t:Nat)(w:eg):Prop where
 zero:w 0=0
 Ge:f x y am8 (y<E6) (gC x=gC y) (w x=w y)
 Gf:zr (hs (Wp i w) 0 aH1)
 last:zr (w (di 0 aH1)=0)
 side:kw (jW->w ((f_ t).side e).1=i e+w ((f_ t).side e).2)
theorem mm{a b c:Nat}(h:c=max a b\/c=aai):c=a\/c=b:=cb (M8 a b) (cj (mP (.inr (ahH (HE k))) (.inl (ahH (qV k))))) (cj (mP (.inl (ahH (VI k))) (.inr (ahH (Dj k)))))
theorem adV(Y:R.Ok)(J:kg){i:dA}(K:Nb R i):x4 (∃w,a'I)|0,_=>by{rw[r nq rfl (mz rfl) a81 rz (fun e _ h=>ai)];have:t'=0:=ai;rw[gq];rw[J.zero];trivial}|t+1,c6=>by rw[kc F (adV Y J K t dV),eh (pe Y t dV)];have r:=Na t c6;have X:=amc;have i7:=amd;rw[cc (F.Gf t aY)];rw[tb,oB,oB]at c;rw[bK p e6 c];have k:=adQ p;have eq:dL AM=dL r.N:=by{rw[SJ i (r.asD Y I),SJ i (r.aQL Y)];exact K t c6};have b3:=HA;rw[tb]at b3;rw[a_5];let c5:eg:=ed am8 (w x) (w lX+dL (r.N.drop (x-E6+1)));have d:E x am8 (c5 x=w x):=fun x h=>cq;have a7:zr (∀g∈du 0 aH1,c5 g=w g):=fun t' h g m=>by{rw[cn ((pe Y t' (ie (ff h c6))).gap g m),cb (J.oD h dV)];exact d g aKa};have u7:r.N≠[]->hs (Wp i c5) lT (iH r.N E6 lX):=ah (by refine asp (d:=w lX) _ _ _ _ (d _ i7) ?_ Rr q;{simp+arith [*]};grind-abstractProof);rw[dw c5 ?_ Ph,Z (d 0 VL) ahJ];{intro x y S b6 h;rw[T r.N []];{have b0:(f_ (t+1)).cnt=E6:=by{rw[r.K4,q];exact HG _};rw[b0]at S b6;rw[d x S,d y b6];rw[pd,aJ q]at h;rw[q]at eq;have c0:w lT=w lX:=by{rw[k,eq];simp[cQ]};have O:o z (z<E6) (gC z=max (gC lT) (gC lX)\/gC z=min (gC lT) (gC lX)) (w z=w lT):=by{rw[b1 z c9];have:gC z=gC lT\/gC z=gC lX:=mm h;rw[eT this,l (lI c9 X),Z c0 (lI c9 i7)]};rw[a4 s_,eI,cL];{next a3=>rw[eI,cL,l (lI S b6)]}};{rw[pd,bj q]at h;by_cases j0:am8;{have:=M9 x j0;by_cases u:y<E6;{simp only[j0,u,mM]at h;rw[d x j0,d y u];exact lI j0 u};simp_all};{by_cases u:y<E6;rw[nN (M9 y u)];simp_all}}};{rw[dt t',T t' (t+1)];{rw[e_];rw[HD,oB,oB];rw[ak (o.SN (aL (d x ((baq) x S)))) ?_];{rw[T r.N []];{rw[q];trivial};rw[a_]};{have n:=e6.SN (aL (d x (l x S)));rw[T r.N []];{rw[q];rw[aot];refine n.swap (fun e g' h=>?_);rw[q]at eq;delta Wp at h⊢;rw[<-h,d _ X,d _ i7,k,eq];simp[cQ]};rw[Z RK n]}};rw[l ((F.Gf t' fp).SN (aL (a7 t' fp x S)))]};{rw[dt t',T t' (t+1)];{rw[e_,f5 (ahI t aY)];rw[tb,oA,oA]at a5;rw[HD,oA,oA];rw[aJ6];{rw[q];rw[aot];cases hB:r.B with|nil=>{rw[an4,an8];rw[q]at eq;rw[d _ X,k,eq,a5];rfl}|cons a b=>rw[f4 g a,an4,an8];rw[d _ (l _ ?_)]at⊢;rw[cX];{rw[hB];have:=sr ((f,g)::b) lX;rw[o0 di]}};rw[ds RK (d _ (l _ (sr _ _))) a5]};rw[Z (a7 t' fp _ (sr _ _)) (ahI t' fp)]};{intro e a0 a3;rw[T e.1 t];{rw[bT a8P];obtain⟨g7,_,g8,_,a3,a9⟩:=(((u7 cq).and r.Gd).adP e (t mv m));rw[J a9 a3]};{rw[HB q];have:=HC e a0 (cz a3 q);rw[d _ eu,d _ fm];exact F.side e a0 (cz a3 q)}}
def DC(aP:cD):dL nO Nat|c,[],J=>c=J|c,(d,a)::l,J=>c=aP d/\DC aP (aP a) l J
theorem asE{aP:cD}{l m:nO}{c J:Nat}(h:z x (DC aP c l x) (DC aP x m J)):DC aP c (l++m) J:=by rw[dj x h g];induction l generalizing c with|nil=>{rw[sM g]}|cons a l i=>exact⟨h.1,i h.2⟩
theorem asF{aP:cD}:BC (aJc->DC aP J (aCi (ab (x.2,x.1))) c)|[],c,J,h=>x E4|(d,a)::l,c,J,⟨a3,a9⟩=>HY (asE (as (asF a9) rfl a3.symm))
theorem SO{aP:cD}:BC (aJc->E i (i<eb) ((i=0->z x xQ (c=aP x.1))/\ad x xQ ((E y (K l (i+1) y) (aP x.2=aP y.1))/\(i+1=eb->aP x.2=J))))|[],c,J,h,i,hi=>ai|(d,a)::l,c,J,⟨a3,a9⟩,i,hi=>by cases i with|zero=>{rw[yS (as (v (d,a) (x a2U) a3)),P0];subst S;rw[v Q6 Y5];{simp at b6;obtain⟨⟨z,c9,b0⟩,_⟩:=And.intro ((SO a9 0 cq).1 rfl) fZ;rw[c9]at b6;simp_all};{have:l=[]:=ai;rw[gq];exact a9}}|succ i=>rw[yS (c_ bB)];simp at S hi;have:=(SO a9 i hi).2 x S;rw[en]
noncomputable def BN(side:amC)(E N:cI):nO:=(aCj (an ((HH e).2,(HH e).1)))++N.map (an ((HH e).1,(HH e).2))
structure adW(R:Arr)(v:Nat)(s:Sw)(E N:cI):Prop where
 mE:eM E lZ e.2
 sE:E.Pairwise (mu R)
 mN:eM N lZ e.1
 sN:a7_
 dc:∃c,DC eL c aIG c
theorem adX{s:Sw}:jD (ft (Sp s)) (DC eL (eL g) (B pZ wy) (eL JV))|[],g,_=>rfl|(e,g')::Z,g,⟨a,b⟩=>by rw[dI a.1];rw[<-a.2];exact adX b
theorem adY{aP lab':cD}(f:cD):BC (bk l (lab' x.1=f (aP x.1)/\lab' x.2=f (aP x.2))->aJc->DC lab' (f c) l (f J))|[],c,J,_,h=>a8j|(d,a)::l,c,J,q,⟨a3,a9⟩=>by have:=q (d,a) bJ;rw[dI ag,J fm (adY f (aL (q x rB)) a9)]
theorem Step.asG{t:Nat}{s c1:Sw}(r:lx)(I:yn):∃f:cD,E x (x<ee) (Hz x=f (eL x)):=by rw[aJ6];{rw[v (e9 (v y a_d (min (eL lT) (eL lX)) y)) (fun x _=>?_)];rw[pd,aJ q];rfl};{rw[yS (e9 y)];rw[pd,bj q];exact kS}
theorem aQM{t:Nat}{s c1:Sw}(Y:R.Ok)(c6:Qx)(I:yn)(r:lx):adW R t c1 AM r.N:=by rw[j (r.asB Y I) (r.asC I) ta r.sN (aw (Hz lX))];have al:=I.al;rw[tb,oB,oB]at al;rw[f4 W (r.asG I)];have c7:=adY (lab':=Hz) f (aL (by simp only[fK]at S;rw[bC e a0 S,jD aLp,cd Yn];have:=HC e m.1 (bV l.1 m.2.l);simp[*])) (adX al.2.1);rw[<-W _ amc,<-W _ amd]at c7;rw[ep (asF c7)];have b4:(B AM wy).reverse.map (ab (x.2,x.1))=(AM).reverse.map (an ((M7 e).2,(M7 e).1)):=by{rw[<-List.map_reverse,jz];rw[j0 ob,bT (x aLp ai),cd Yn];rw[HB (fZ (yv z.g l.1 m.2.l))];rfl};rw[b4]at a9;refine asE (js a9);rw[T r.N []];{rw[q];rw[pd,aJ q];exact adT _ _ _};{have c:hs (Sp c1) lT aaG:=r.Gd.mono (B6 (sr Sp));have:=adX c;rw[bY mv RK];exact this}
theorem asH(Y:R.Ok)(J:kg):x4 (E v (v<t) (∃E N,adW R v (f_ t) E N))|0,_,v,h=>ai|t+1,c6,v,h=>by have I:=aIZ;have r:=Na t c6;rw[T v t];{rw[e_];exact aw _ (aQM Y c6 I r)};{obtain⟨E,N,C⟩:=asH Y J t dV v (cz h q);rw[db d C.dc,f4 W (r.asG I),e E N VN C.sE VM C.sN (f c) ?_,ak hE E (lZ/\jW) (by rw[am2];have:=Yn;rw[en]),ak hN N (lZ/\jW) (by rw[am3,xr])];have f5:BN (f_ (t+1)).side E N=BN (f_ t).side E N:=by{delta BN;rw[dY,GM (hE e ai),GM (hN e a0)]};rw[f5];refine adY f qr d;unfold BN at S;rw[bes];rcases S with⟨e,a0,rfl⟩|⟨e,a0,rfl⟩;rw[In (hE e a0),In (hN e a0)]}
universe GM
namespace GM
variable{R:Arr}
noncomputable def Gg(i c:dA):anA|[]=>0|e::J=>i e*c e+m8 J
theorem adZ{i c:dA}{w:eg}:KA (j Zd (w JV=0) (bk (dS Z) ak') (hF pZ Yx) a9C (w g*y<=m8 pZ))|[],g,y,_,a5,_,_,_=>by{simp[di]at a5;simp[a5,Gg,bG]}|(e,g')::J,g,y,⟨e5,e6⟩,a5,hw,c2,b6=>by have a3:hF (bG J) Yx/\a'1:=by{rw[be9];grind-abstractProof};rw[dB (adZ (y:=c e) e6 a5 baC a3.1 bat)];delta Wp at e5;rw[baJ,bgn];rw[b9,b4];rw[cZ e7 a'E bfF,bf4];exact se g5 e7.n d6
theorem asI{i c:dA}{w:eg}:KA (c Zd (w JV=0) (bk (dS Z) ak') (hF pZ Yx) (a9C->(∃p∈Z,0<w p.2)->w g*y<m8 pZ))|[],g,y,_,a5,_,_,_,⟨p,c2,_⟩=>ai|(e,g')::J,g,y,⟨e5,e6⟩,a5,hw,c2,b6,⟨p,b3,C⟩=>by have a3:hF (bG J) Yx/\a'1:=by{rw[be9];grind};have a:aL (du g' J) ak':=baC;delta Wp at e5;rw[baJ,bgn];rw[b9,b4];rw[bM e7 a'E bfF,bf4];simp at b3;have O:w g'*c e<m8 (bG J):=by{rw[de b3 b3];{cases J with|nil=>{simp[di]at a5;simp at C;simp_all}|cons q r2=>rw[f4 g8 q,dB (adZ (y:=c f) e6 a5 a a3.1 (fun I t=>by simp[bG]at t;rw[de t t];{simp};{have:=a3.1;rw[jz pf this];grind}))];have:w g'*c e<w g'*c f:=ahD (a3.2 f bJ) C;exact aA3 bF bF};rw[l (asI (y:=c e) e6 a5 a a3.1 bat (v p b3 C))]};exact se g5 e7.n O
noncomputable def qF(R:Arr)(t:Nat)(e:Ln):Int:=fb (t-1)+fb t
noncomputable def BO(R:Arr)(t:Nat):Int:=R.k t-R.k (t-1)
noncomputable def vg(R:Arr)(i:dA)(t:Nat)(e:Ln):Int:=mr (jW/\I1) a9i
noncomputable def js(f:eg):eg|0=>0|n+1=>anm+f n
theorem ad0(f:gQ Ln Int)(l:cI):∀n,js (mR (cQ (f t) l)) n=cu (js (mR (f t e)) n) l|0=>by{simp only[js];induction l with|nil=>{rfl}|cons a J d6=>simp[cQ,<-d6]}|n+1=>by simp only[js,ad0 f l n];induction l with|nil=>{rfl}|cons a J d6=>simp[cQ,<-d6];lia-abstractProof
theorem BP{i a:dA}:dB (V e l (i e=a e)) (dL l) (cQ a l)|[],_=>rfl|e::J,h=>by have:=BP (i:=i) (a:=a) (l:=J) anT;simp[cQ,h e bJ,this]
theorem Gh{i:dA}{p:Ln->cb}:l9 (dL (zB p)=cu (o8 (p e)) l)|[]=>rfl|e::J=>by rw[bC h (p e)];{simp[h,cQ,Gh J]};{simp[h,cQ,Gh J]}
theorem asJ(Y:R.Ok){i:dA}{e:Ln}(a0:lZ):E m (m<=R.n) (js (mR (vg R i t e)) m=if m<=gk then 0 else i e*(fb e.1+fb (nF (m-1)))*(R.k (nF (m-1))-R.k e.1))|0,_=>bH|m+1,h=>by have l:=jh;rw[ak b g (Y.BM e a0)];simp only[js,(asJ (i:=i) Y a0 m dV)];by_cases a3:m+1<=gk;{rw[bM a9 m gk (ey bF),mt e2 (¬(e.1<m/\m<=e.2))];simp[a3,a9,vg,e2]};{by_cases e5:m<=e.2;{have f:e.1<m/\m<=e.2:=by{rw[xq]};rw[aI b3 (nF (m+1-1)) m kS];by_cases a9:m<=gk;{simp only[a3,a9,vg,f,b3,qF,BO,(eO),mM,iV,and_self];grind-abstractProof};{simp only[a3,a9,vg,f,b3,(eO),qF,BO,mM,iV,and_self,g];lia-abstractProof}};{rw[aI b3 (nF (m+1-1)) e.2 (Dv (m+1)),aI k (nF (m-1)) e.2 (Dv m)];simp only[a3,(eO),vg,(eO),b3,k,iV];rw[xr]}}
noncomputable def SQ(R:Arr)(i:dA)(e:Ln):Int:=i e*((R.u e.1+R.u e.2)*(R.k e.2-R.k e.1))
theorem asK(Y:R.Ok)(i:dA):nW i=js (mR aLV) R.n:=by rw[ad0];refine BP ob;rw[cd jh];rw[asJ Y a0 R.n aY];by_cases h:R.n<=gk;rw[Jt];{rw[aI b3 (nF (R.n-1)) e.2 (Dj (cf l.2 (aS R.n 1)))];rw[bj h,b3,wu e a0,wz e a0];delta SQ;grind-abstractProof}
theorem asL{f:eg}:E n bc_ (0<=anm)|0,_=>ar js|n+1,h=>by have:=bbo;have:=aJD;simp only[js];lia-abstractProof
theorem asM{f:eg}:o n bc_ (z t (t<n) (0<f t)) (0<anm)|0,_,⟨t,h,_⟩=>ai|n+1,h,⟨t,a3,a9⟩=>by have a:=bbo;rw[cb aJD];simp only[js];rw[T t n];{rw[fU]};rw[cc (asM n (fj (h t Jh)) (v t (cz a3 q) a9)) (a2V this b)]
theorem asO(Y:R.Ok)(J:kg)(i:dA){t:Nat}(c6:Qx):aLV=Ds aoB:=by have I:=aIZ;have p:eQ aoB (ahG (an (cv (jW/\I1)))):=by{rw[HF (SM M_) (VJ _)];intro e;rw[iw];simp};have a3:l9 (Ds l=cu a9i l):=by{rw[rL];induction l with|nil=>{simp[Gg,cQ]}|cons a b d6=>simp[Gg,cQ,<-d6];grind-abstractProof};rw[a3,SJ _ p,Gh];refine BP aHD;delta vg;simp
theorem ad1(Y:R.Ok){t:Nat}{s:Sw}(I:yn)(c6:Qx)(b1:0<t):hF tQ (qF R t e<qF R t f):=by refine vE M_;rw[vf h,cn (x iw a0),a_8];delta qF;rw[bT (ed f b.1)];refine h.two Y a.1 b.1 (ahM ?_ ?_) (Y.km _ _ (x (aR b1)) c6) (ahM ?_ ?_);{delta iG;exact Nat.max_le.mpr ⟨VF a.2.1,VF b.2.1⟩};rw[l (ff (qS t 1) c6)];{rw[Jg];exact a2W ⟨cU a.2.2,cU b.2.2⟩};{rw[Jg];exact ff (oV ahL ahK) m.2}
theorem aQN(Y:R.Ok)(J:kg){i:dA}{w:eg}(F:mq i)(hw:aKt){t:Nat}(c6:Qx):0<=aLV:=by rw[asO Y J i c6];rw[d9 b1 t];{subst b1;rw[J.zero];simp[bG,Gg]};{rw[eh (pe Y t dV),cc (adZ (c:=qF R t) (y:=(B aoB (qF R t)).head?.getD 0) (F.Gf t dV) (ahI t (ie c6)) (IR t) (ad1 Y I c6 amr) (by rw[f4 (ad1 Y I c6 amr),HF aoB]))];rw[ahJ]at c;exact tc (x (r_ c)) (by delta BO;have:=Y.km (t-1) t fp c6;exact r_ this)}
theorem aQO(Y:R.Ok)(J:kg){i:dA}{w:eg}(F:mq i)(hw:aKt):0<=nW i:=t (asK Y) (asL _ (fj bgL))
theorem Run.aQP(J:kg)(Y:R.Ok){e:Ln}(a0:lZ):((f_ gk).side e).1∈du 0 ZI/\((f_ gk).side e).2∈du 0 ZI:=by have l:=jh;have r:=Na e.1 ZV;rw[vl (r.Gd.adP e (t mv (ae (ta e) (dv a0))))];rw[h,HD];exact⟨yG (.inl g9),yG (.inl e1)⟩
theorem Run.asP(J:kg){e:Ln}:∀{t:Nat},jW->t<=R.n->(f_ t).side e=(f_ gk).side e|0,h,_=>ai|t+1,h,c6=>by rw[T e.1 t];{(subst_vars;rfl)};rw[Z ((Na t c6).aQH q) (J.asP (cz h q) dV)]
theorem aQQ(Y:R.Ok)(J:kg){i:dA}{w:eg}(F:mq i)(hw:aKt)(S:fx gH (0<w ((Ai).side e).1\/0<w ((Ai).side e).2)):0<nW i:=by rw[asK Y];refine asM _ (fj bgL) ?_;rw[gA h S,cd jh,ak gk (fL l.1 l.2),aO c6 gk R.n (ff l.1 l.2),eh (pe Y gk dV)];rw[asO Y J i c6];rw[aj (J.asP dV aY)];have g:=J.aQP Y a0;rw[f4 (ad1 Y I c6 p_),cc (asI (c:=qF R gk) (y:=(B (bG ZI) (qF R gk)).head?.getD 0) (F.Gf gk dV) (ahI gk (ie c6)) (IR gk) d1 (by rw[HF (bG ZI)]) (by have:∃x∈du 0 ZI,0<w x:=cq;rw[ln c2 this];simp only[du,hH,fK]at S;rcases S with rfl|⟨p,m,rfl⟩;rw[nN ahJ];grind-abstractProof))];rw[ahJ]at c;exact hI ai (by delta BO;have:=Y.km (gk-1) gk aT c6;simp_all)
universe GM
namespace GM
variable{R:Arr}
noncomputable def rv(h:Ln):Ln:=(h.2,h.1)
def oG(R:Arr)(h:Ln):Prop:=h∈gH\/hk∈gH
theorem ad2(h:Ln):rv hk=h:=rfl
theorem oG.rv{h:Ln}(H:dF):ct hk:=H.symm
theorem oG.ne(Y:R.Ok){h:Ln}(H:dF):h.1≠h.2:=by rw[Kl,cc (ed _ H) (J (gy z.g eu))];{have:=ed _ H;rw[hH ahN];exact J (gy z.l eu)}
theorem oG.yI(Y:R.Ok){h:Ln}(H:dF):h.1<R.n:=by rw[Kl,cc (ed _ H) (jv eu fm)];{have:=ed _ H;rw[hH ahN];simp[*]}
theorem oG.BQ(Y:R.Ok){h:Ln}(H:dF):h.2<R.n:=H.rv.yI Y
theorem oG.up(Y:R.Ok){h:Ln}(H:dF)(l:h.1<h.2):h∈gH:=by rw[Kl,l H];{have:=ed _ H;rw[hH ahN];lia-abstractProof}
theorem oG.dn(Y:R.Ok){h:Ln}(H:dF)(l:h.2<h.1):ahN h∈gH:=by rw[Kl,kx (ed _ H),l H]
noncomputable def sd(side:amC)(h:Ln):Nat:=if h.1<h.2 then(HH h).1 else(HH hk).2
noncomputable def ind(p:Prop) [Hy p]:Int:=mr p 1
noncomputable def BR(h e:Ln):Int:=Aq-Ar
noncomputable def fl:cI->Ln->Int|[],_=>0|h::l,e=>O4+em l
def Walk:dL cI Nat|a,[],b=>a=b|a,h::l,b=>h.1=a/\td h.2 l b
theorem aQR:∀{l m:cI}{a b:Nat},td a (l++m) b↔z x (td a l x) (td x m b)|[],m,a,b=>ar td|h::l,m,a,b=>by simp only[aht,td,aQR (l:=l)];grind-abstractProof
theorem kr(i a:dA):l9 (cu (i e+a e) l=dL l+cQ a l)|[]=>rfl|e::J=>Do (kr i a J)
theorem BS(i:dA):l9 (cu (-i e) l= -dL l)|[]=>rfl|e::J=>Do (BS i J)
theorem Gi:l9 (cQ nq l=0)|[]=>rfl|e::J=>eN cQ (Gi J)
theorem K6(h:Ln):dB zA (cu Aq l) (ind (h∈l))|[],_=>bH|e::J,nd=>by have n2:=AL;simp only[cQ,(K6 h n2.2)];rw[T h e];{rw[e_];simp[ind,n2.1]};{simp[ind,q]}
theorem ad3(h:Ln){l:cI}(nd:l.Nodup):cu Ar l=ind (hk∈l):=by rw[<-K6 hk nd];refine BP aHD;delta ind rv;grind
theorem aQS(Y:R.Ok){h:Ln}(H:dF)(v:Nat):sK (lP e.2)-sK (lP e.1)=ind (h.2=v)-ind (h.1=v):=by have O:dB zA (cQ (BR h) l) (ind (h∈l)-ind (hk∈l)):=fun{l}nd=>by{rw[a_i];show cu (Aq-Ar) l=_;rw[aLS];rw[this,kr,BS];rfl};rw[O (VJ _),O (VJ _)];rw[u2 (H.ne Y)];{have e1:hk∉gH:=ah (l7 (ed _ q) (gy l eu));simp[ind,(H.up Y l),e1]};{have e1:h∉gH:=ah (bv (ed _ q) (gy l eu));have j5:(h.2,h.1)∈gH:=(H.dn Y l);simp[ind,e1,rv,j5];simp+arith [*]}
theorem asQ(Y:R.Ok)(v:Nat):to (an1->V h l dF->cQ (fl l) (lP e.2)-cQ (fl l) (lP e.1)=ind (b=v)-ind (a=v))|[],a,b,h,_=>by{rw[cH];have:fl []=nq:=bH;rw[this,Gi,Gi];simp}|h::l,a,b,⟨a3,a9⟩,H=>by have d6:=asQ Y v a9 aJ8;have b4:=aQS Y (H h bJ) v;rw[aKQ];rw[this,kr,kr]at⊢;rw[en]
theorem ad4(Y:R.Ok){l:cI}{a:Nat}(W:td a l a)(H:∀h∈l,dF):Nb R (fl l):=fun v _=>bv (asQ Y v W H) (RU this)
theorem asR:k5 zA (∀e,em l=ind (e∈l)-ind (rv e∈l))|[],_,e=>bH|h::l,nd,e=>by have n2:=AL;simp only[fl,(asR n2.2 e),BR];have e0:ind (e∈h::l)=Aq+ind (e∈l):=by{delta ind;grind};have g0:ind (rv e∈h::l)=Ar+ind (rv e∈l):=by{delta ind;grind};rw[e0,g0];simp+arith [*]
noncomputable def Run.lb(J:kg)(h:Ln):Nat:=(Ai).aP alB
structure Mp(R:Arr)(J:kg)(F:Fj):Prop where
 rot:qF (∃a5:ao,a5.Nodup/\(e7 (x∈a5↔ct JL))/\aP i x (fh a5->z y (K a5 (jd%aCk) y) (F (x,v)=(v,y))))
 aP:E h dF (wA (F h)=oh)
variable{J:kg}{F:Fj}
theorem Mp.half(d5:iE)(Y:R.Ok){h:Ln}(H:dF):ct (F h)/\(F h).1=h.2:=by rw[nv h.2 (H.BQ Y),ib (ic h.1 H.rv),ii b9 (nx i h.1 ag)];have e7:F h=(h.2,y):=b9;rw[J e7 (dv (x (mem y) (bM b6)))]
theorem aQU{n i j:Nat}(hi:i<n)(b8:j<n)(h:jd%n=(j+1)%n):i=j:=by rw[N a (i+1) n];{rw[N b (j+1) n,l (aQ2 a b.symm)];{rw[a,ahO,baw]at h;trivial}};{rw[N b (j+1) n];{rw[b,ahO,bd3]at h;trivial};{rw[bd3,baw]at h;simp_all}}
theorem asS{l:ao}(nd:l.Nodup){i j:Nat}{x:Nat}(hi:xQ)(b8:Ew):i=j:=x (x (aCl bz nd) (hi.trans b8.symm))
theorem Mp.inj(d5:iE)(Y:R.Ok){g h:Ln}(G:ct g)(H:dF)(e:F g=F h):g=h:=by have b9:g.2=h.2:=by{rw[<-(VO Y G).2,<-(VO Y H).2,e]};rw[nv h.2 (H.BQ Y),aJ i hi (ig (ic h.1 H.rv)),gH c4 (ig (ic g.1 (bl b9 G.rv))),ii z (nx i h.1 ag)];obtain⟨d7,O,d3⟩:=nx j g.1 ag;rw[cZ h6 (F g) (h.2,d7),b4 h6 e];have c3:=YZ;rw[j_];have:=asS nd b6 O;have:=aQU hi b8 this;rw[gq];have:g.1=h.1:=ai;grind-abstractProof
theorem Mp.turn(d5:iE)(Y:R.Ok){v:Nat}(c:dA)(b0:o h dF (h.1=v) (c (F hk)=c h)){g h:Ln}(G:ct g)(H:dF)(g7:g.1=v)(a3:h.1=v):c g=c h:=by have d3:v<R.n:=by{rw[<-a3];exact H.yI Y};rw[nv v d3];have all:∀(i:Nat)(x:Nat),fh a5->E y (K a5 0 y) (c JL=c (v,y)):=by{intro i;induction i with|zero=>{rw[ZA]}|succ i d6=>intro x S y b6;have m:i+1<aCk:=by{grind};have c9:A a5 (dB a5 dV):=da dV;rw[aO d7 O (nx i _ c9)];rw[es m,S]at O;cases O;have D:ct (v,dB a5 (ie m)):=x (mem _) (te _);have:=b0 _ D rfl;rw[<-d6 _ c9 y b6,<-this];show c JL=c (F (a5[i],v));rw[e]};rw[aJ i hi (ig (ic g.2 bz)),gH c4 (ig (ic h.2 bz))];have c0:K a5 0 (a5[0]'(bV tF hi)):=da bL;have b4:g=(v,g.2):=by{grind};rw[mw h (v,h.2)];rw[b4,b9,(all i g.2 bz _ c0),(all j h.2 bz _ c0)]
def K7(R:Arr):Prop:=∀P:me,P 0->(l a b (ct rR) (P a) (P b))->qF (P v)
def asT(R:Arr)(v:Nat):Prop:=∀P:me,∀s,c (s<R.n) (s≠v) (P s) (∀a b,c (ct rR) (a≠v) (b≠v) (P a) (P b)) (o x (x<R.n) (x≠v) (P x))
noncomputable def cc(side:amC)(w:eg)(l:cI)(h:Ln):Int:=w (sd HH h)-ind (h∈l)
theorem Run.bju(J:kg)(Y:R.Ok){h:Ln}(H:dF):alB<(Ai).cnt:=by have I:=pe Y R.n aY;rw[I_];split;rw[oU (H.up Y l) (HC _ m (b8 l fm)).1,oU (H.dn Y (bv (H.ne Y) (aV (cU (qx l)) this))) (HC _ m Q8).2]
theorem aQV(Y:R.Ok){l:cI}{w:eg}(nd:l.Nodup)(W:mq (fl l)){h:Ln}(H:dF):h1 hk h:=by rw[ak O gH (h1 (rv e) e) (by have lt:=jh;rw[cn (W.side e a0 aLc)];rw[asR nd]at a;delta cc sd;rw[bj (hJ rv (ey lt.1)),aJ lt.1];rw[ad2];simp+arith [*]),Kl,a_,c9 (O _ H) ad2 aCm]
theorem asU(Y:R.Ok)(d5:iE){l:cI}{w:eg}{i:dA}(W:mq i){h:Ln}(H:dF)(c4:h∈l↔F h∈l):h1 (F h) h:=by delta cc;rw[(W.Ge _ _ (Dk Y (sQ H)) (Dk Y H) (d5.aP h H))];simp[*]
theorem aQW(Y:R.Ok)(d5:iE)(C:K7 R){l:cI}{w:eg}(nd:l.Nodup)(W:mq (fl l))(a5:E h dF (h∈l↔F h∈l)){g h:Ln}(G:ct g)(H:dF):h1 g h:=by have d:∀v,∀{g h:Ln},c (ct g) dF (g.1=v) (h.1=v) (h1 g h):=fun v g h G H g7 a3=>a2X Y (cc Aj w l) (fun x X _=>bj (asU Y d5 W ahP (a5 _ ahP)) (pp X)) G H g7 a3;have all:qF beG:=by{refine C (e3 beG) (fun x X e7 y c i8=>d 0 X c e7 i8) (fun a b k d6 x X e7 y c i8=>?_);rw[<-d6 rR k rfl y c i8,<-pp k];exact d b X k.rv e7 rfl};by_cases e:z y (ct y) (y.1=0);{obtain⟨y,c,i8⟩:=e;rw[all g.1 (G.yI Y) g G rfl y c i8,all h.1 (H.yI Y) h H rfl y c i8]};{exfalso;have:qF (v=0):=C (e3 (v=0)) rfl (fun a b k b3=>ai);exact e (v h H (this _ (H.yI Y)))}
universe GM
namespace GM
variable{R:Arr}{J:kg}{F:Fj}
noncomputable def it(F:Fj):gQ Ln Ln|0,h=>h|m+1,h=>F (cE m)
noncomputable def ar(F:Fj):gQ Ln cI|0,_=>[]|m+1,h=>h::ar F m (F h)
theorem Gj:F4 (it F m (F h)=F (cE m))|0,h=>rfl|m+1,h=>eN it (Gj m h)
theorem yJ:Gn (cE (a+b)=it F a (cE b))|0,b,h=>ar it|a+1,b,h=>ok it (yJ a b h)
theorem aQX:∀{m:Nat}{h x:Ln},x∈uK↔z j (j<m) (lj=x)|0,h,x=>ar ar|m+1,h,x=>by simp only[ar,hH,aQX (m:=m)];constructor;{rintro(rfl|⟨j,b8,e⟩);rw[l (bp 0 p_),l (v (j+1) ag (by rw[a6 Gj];exact e))]};{rw[ao5];cases j with|zero=>{rw[m1 CX]}|succ j=>rw[pc (ap j ai Gj e)]}
theorem BU:F4 (t uK=m)|0,h=>rfl|m+1,h=>eN ar (BU m)
theorem Gk:∀(m:Nat)(h:Ln)(j:Nat),j<m->aa (uK) lj|0,h,j,b8=>ai|m+1,h,j,b8=>by cases j with|zero=>{rfl}|succ j=>simp[ar,Gk m (F h) j ai,Gj,it]
theorem aQY(d5:iE)(Y:R.Ok){h:Ln}(H:dF):∀m,ct (cE m)|0=>H|m+1=>sQ (dQ H m)
theorem ad5(d5:iE)(Y:R.Ok):∀(m:Nat){g h:Ln},i (ct g) dF (it F m g=cE m) (g=h)|0,g,h,_,_,e=>e|m+1,g,h,G,H,e=>ad5 d5 Y m G H (ahQ Y (dQ G m) (dQ H m) e)
theorem K8(d5:iE)(Y:R.Ok):∀(m:Nat){h:Ln},dF->td h.1 uK (cE m).1|0,h,_=>rfl|m+1,h,H=>by rw[cn (VO Y H),dB (K8 d5 Y m a.1)];rw[a.2,Gj]at d6;exact bd d6
theorem SR{I:Type} [wm I]:∀{l m:ba},aMC|[],m,_,_=>x cS|a::l,m,nd,h=>by have n2:=AL;rw[dB (SR (m:=a2Z a) n2.2 (aL (ae (a2Y (fun(e:x=a)=>n2.1 (e▸S))) (h x (ck S)))))];rw[aCo (h a fx)]at d6;exact mT d6 (h a fx)
noncomputable def SS(R:Arr):cI:=gH++R.lines.map rv
theorem aQZ{h:Ln}:h∈SS R↔dF:=by delta SS oG;simp only[hF,fK];constructor;{rintro(h|⟨x,S,rfl⟩);rw[l AZ,co S]};{rintro(h|h);rw[l AZ,co (bm h)]}
structure sv(F:Fj)(h:Ln)(m:Nat):Prop where
 pos:0<m
 ret:cE m=h
 min:o j (0<j) (j<m) (lj≠h)
theorem aQ0(d5:iE)(Y:R.Ok){h:Ln}(H:dF):z m Fz (m<=2*aCp):=by have ret:I d (0<d) (d<=2*aCp) (cE d=h):=by{rw[anB];have nd:c8 (ar F (2*aCp+1) h):=by{rw[VQ,ahR];rw[aMT];rw[BU]at hi b8;have a:=aKT;rw[aLM,dd ag a,dd ag b,bdz,cn i (j-i) (cE i) bhz];have:=y1 this;exact f6 (d (j-i) (VP l) (cn alC (HI b8)) this)};have:=SR nd (m:=SS R) (rb (aQZ.mpr am'));rw[am BU,hH SS];exact aF1 this};obtain⟨d,f,c5,c7⟩:=ret;have least:f n d (d<=n) (0<d) (cE d=h) (z m Fz (m<=d)):=by{intro n;induction n with|zero=>{intro d a b;simp_all}|succ n d6=>intro d a b c;by_cases q:I j (0<j) (j<d) (lj=h);{obtain⟨j,u,v,w⟩:=q;rw[bY x y (d6 j (HI (fJ v a)) u w)];exact v m x (cn y (ey v))};rw[cx d (v b c (fun j g k e=>q (d j g k e))) aY]};rw[bY x y (least d d aY f c7)];exact v m x (cn y c5)
theorem sv.inj(d5:iE)(Y:R.Ok){h:Ln}(H:dF){m:Nat}(P:Fz){i j:Nat}(hi:i<m)(b8:j<m)(e:cE i=lj):i=j:=by rw[aMP];{rw[cn i (j-i) (cE i) bhz];exact cy (y1 this) (ahS (j-i) (bn l (aS j i)) (fL alC b8))};rw[l l];{rw[cn j (i-j) lj (l (j+(i-j)) i i j l i j)];exact cy (ad5 d5 Y j alc H this) (ahS (i-j) (bn (aS i j) l) (fL (qS i j) hi))}
theorem sv.nodup(d5:iE)(Y:R.Ok){h:Ln}(H:dF){m:Nat}(P:Fz){d:Nat}(hd:d<=m):c8 (ar F d h):=by rw[VQ,ahR];rw[aMT];rw[BU]at hi b8;rw[cn aKT,aLM,dd ag a,dd ag b,bdz,ia (P.inj d5 Y H (bV hi hd) aKa e) (gy CZ l)]
theorem sv.closed(d5:iE)(Y:R.Ok){h:Ln}(H:dF){m:Nat}(P:Fz){x:Ln}(X:ct x):x∈uK↔F x∈uK:=by constructor;{rw[fT,bC j b8 (Nd q),b2 (j+1) m];{refine Dl (aJ 0 VR);show h=F lj;rw[dR (F lj) (cE (j+1)),e,Nc]};rw[l (Dl (bp (j+1) (iT e)))]};{rw[fT,aO j b8 (Nd q)];cases j with|zero=>{rw[ia (ahQ Y alc X (by rw[xN];show cE (m-1+1)=h;rw[l (m-1+1) m m 1 b8 m 1,Nc])) (Dl (v (m-1) (x (aR b8)) this))]}|succ j=>rw[ia (ahQ Y alc X e) (Dl (v j dV this))]}
theorem sv.shift(d5:iE)(Y:R.Ok){h:Ln}(H:dF){m:Nat}(P:Fz)(i:Nat):sv F (cE i) m:=by rw[cs VR (fun j g k e=>?_)];{rw[<-yJ,VS,yJ,Nc]};{rw[<-yJ,VS,yJ]at e;exact ahS j g k (y1 e)}
theorem asV(d5:iE)(Y:R.Ok){h:Ln}(H:dF){m:Nat}(P:Fz):Nb R (fl uK):=by have W:=K8 d5 Y m H;rw[Nc]at W;exact ad4 Y W (rb am')
theorem ad6(d5:iE)(Y:R.Ok){h:Ln}(H:dF):∀j,wA lj=oh|0=>rfl|j+1=>by show wA (F lj)=_;rw[d5.aP _ am',ad6 d5 Y H j]
theorem SU(d5:iE)(Y:R.Ok)(C:K7 R){g h:Ln}(G:ct g)(H:dF){m:Nat}(P:aHN):h∈yg↔oh=kT:=by constructor;{rw[fT,iH j (Nd q)];exact ad6 d5 Y G j};{intro e;rw[bb1,qV G H];unfold cc at c;have a:g∈yg:=Dl (bp 0 VR);rw[(W.Ge _ _ (Dk Y H) (Dk Y G) e)]at c;have c2:ind (g∈yg)=1:=by{rw[YQ];exact kS};rw[c2]at c;delta ind at c;split at c;rw[a_,Jt]}
theorem aQ4(d5:iE)(Y:R.Ok)(C:qF (asT R v)){h:Ln}(H:dF){m:Nat}(P:Fz):c8 (gZ uK):=by rw[VQ,ahR];rw[aMT];simp only[bA,BU]at hi b8;simp only[Nf]at e;rw[cn aKT,aLM,dd bz a,dd bz b];rw[cZ a,cZ b]at e;have L:=dQ H i;have p:=P.shift d5 Y H i;obtain⟨d,hd⟩:∃d,d=j-i:=ek;have a3:(it F d (cE i)).1=(cE i).1:=by{rw[<-yJ,aS (d+i) j (cf hd.l (aI j i l)) (cf (aS j i) hd.g),<-e]};generalize cE i=g at L p a3;have f:=K8 d5 Y d L;rw[a3]at f;have nd:=p.nodup d5 Y L (d:=d) bdn;rw[C7 (ad4 Y f (rb (dQ L j)))];have e9:o x (ct x) (x.2≠g.1) (x∈I0↔F x∈I0):=by{intro x X f5;have n:=VO Y X;constructor;{rw[fT,aKI,N z (a+1) d];{exfalso;have:F x=ani:=by{rw[<-e,<-z];rfl};lia};rw[l (Dl (v (a+1) (cz b3 z) (by rw[xN];rfl)))]};{rw[fT,aKI];cases a with|zero=>{exfalso;have d3:g=F x:=e;simp_all}|succ a=>rw[ia (ahQ Y (dQ L a) X e) (Dl (v a dV this))]}};have all:=C g.1 (L.yI Y) (e3 (o y (ct y) (y.1=v) (s2 y=s2 (rv g)))) g.2 (L.BQ Y) a_R (fun y c i8=>g8 g.2 a_R L.rv) (fun a b k e0 h2 d6 y c i8=>by rw[<-d6 rR k rfl,<-pp k];exact g8 b h2 k.rv);have r:E y (ct y) (s2 y=s2 (rv g)):=by{intro y c;rw[T y.1 g.1,k1 (pp c) (all y.2 (c.BQ Y) (J (c.ne Y (VT wo))) (rv y) c.rv rfl),l (all y.1 (c.yI Y) q y c rfl)]};have o:=dQ L (d-1);have g9:a8T:=Dl (bp (d-1) (ahT (hd▸VP l) ahU));have b9:F (it F (d-1) g)=ani:=by{show it F (d-1+1) g=_;rw[Mq (hd▸VP l)]};have e1:ani∉I0:=ah (by rw[aKI];have:=p.inj d5 Y L (x (uW b3 hd.l alC b8)) bdn e;simp_all);have e5:=r _ o;have e6:=r _ (sQ o);unfold cc at e5 e6;rw[(W.Ge _ _ (Dk Y (sQ o)) (Dk Y o) (d5.aP _ o)),b9]at e6;have c2:ind a8T=1:=by{rw[YQ];exact kS};have N:ind (ani∈I0)=0:=by{rw[YQ];exact bj bF};rw[fU]
theorem asW(d5:iE)(Y:R.Ok)(C:K7 R)(b1:anG){g:Ln}(G:ct g){m:Nat}(P:aHN):z w (mq (fl yg)) (E x aF_ (w x=ind ((Ai).aP x=kT)-ind (kT=0))):=by rw[bb1,ak w W,eh (pe Y R.n aY),bha];have f3:=ed z D;have e8:sd Aj z=0:=by{delta sd;rw[aJ f3.1,h6]};rw[DF ((Ai).aP 0)];have j7:wA z=0:=by{delta Run.lb;rw[e8,c0]};have a:ct z:= .inl D;have O:E h dF (w alB=ind (oh=kT)-ind (kT=0)):=by{intro h H;rw[qV H a];unfold cc at c;rw[e8,W.zero]at c;have e0:pe yg=ind (oh=kT):=by{delta ind;simp[SU d5 Y C G H P]};have g0:ind (z∈yg)=ind (kT=0):=by{delta ind;have:z∈yg↔kT=0:=by{rw[SU d5 Y C G a P,j7];grind-abstractProof};rw[tX]};rw[en]};rw[Bs];have SK:bfv:=by{rw[bil,cL,bdi,bhu]};rw[bC h H SK];exact O h H
theorem asX(Y:R.Ok)(J:kg)(b1:anG){x:Nat}(S:aF_):bfv:=by have I:=pe Y R.n aY;rw[bha];have f3:=ed z D;rw[bil,cx z (.inl D) (by delta sd;rw[aJ f3.1,h6]),bdi,bhu]
theorem Flow.neg{i:dA}{w:eg}{t:Nat}(W:a'I):ahV R J (an (-i e)) t (ab (-w x)):=by rw[j (ar W.zero) (fun x y S b6 h=>ar (W.Ge x y S b6 h)) a81 (fun t' h=>ar (W.last t' h)) (fun e a0 h=>by have:=W.side e a0 h;simp+arith [*])];have:jD Zd (ft (Wp (an (-i e)) (ab (-w x)))):=by{intro Z;induction Z with|nil=>{intros;trivial}|cons a b d6=>intro g c;exact⟨by have:=c.1;unfold Wp at this⊢;simp+arith [*],d6 c.2⟩};exact this (W.Gf t' h)
theorem aQ5(d5:iE)(Y:R.Ok)(C:K7 R)(b1:anG){g:Ln}(G:ct g){m:Nat}(P:aHN):0<nW (fl yg)↔kT≠0:=by obtain⟨w,W,hw⟩:=asW d5 Y C b1 G P;constructor;{intro h e;have:=aQO Y J W.neg (aL (by have:=hw x S;rw[am e];delta ind at this;grind-abstractProof));have eq:nW (an (-em yg))= -nW (fl yg):=by{rw[<-BS];refine BP aHD;delta SQ;grind-abstractProof};rw[en]};{intro e;have b:w (sd Aj g)=1:=by{rw[hw _ (Dk Y G)];have:(Ai).aP (sd Aj g)=kT:=rfl;simp[ind,this,e]};refine aQQ Y J W qr ?_;{rw[hw x S];rw[YQ];grind-abstractProof};{rcases G with a|a;{have:=ed _ a;rw[aa g a aG0];delta sd at b;simp_all};{have:=ed _ a;rw[aa (rv g) a (.inr ?_)];delta sd at b;have a3:¬g.1<g.2:=by{rw[hH rv];exact sS eu};simp_all}}}
universe GM
namespace GM
open Gla
structure Lay(r:Plan):Prop where
 dP:a21 (nS xP)
 wide:cA dd QB
 BV:a'4
 lt:a'w
 nd:a20
 on:h2 (∀k,i (k<aL) (k≠e.1) (k≠e.2) (wB eF eG (bp k)=ah))
 nc:h2 (∀f∈bX,e≠f->zC eF eG amg amh=ah)
noncomputable def ky(r:Plan)(p:Pt):Int:=Y6*v p.y+p.x
noncomputable def den(r:Plan)(e:Ln):Int:=ci eG-ci eF
noncomputable def K9(r:Plan):anA|[]=>1|e::J=>Kb*K9 r J
noncomputable def cof(r:Plan)(e:Ln):Int:=An/Kb
noncomputable def Gm(r:Plan)(e:Ln)(z:Int):Int:=uR*(amN*(ci eG-z)+amO*(z-ci eF))
noncomputable def arrOf(r:Plan):Arr:=a aL bX (dJ (ci eH)) (dJ (kD eH)) (Gm r)
theorem sx{r:Plan}{i:Nat}(h:g_):eH=dd[i]:=by delta aCq;simp[List.getD,h]
theorem yK{r:Plan}{i:Nat}(h:g_):eH∈dd:=nP (sx h)
theorem mx{r:Plan}{p q:Pt}(c2:QB)(h:xP):ci p<ci q:=by delta ky;rw[jC ih,dq h h a9];{have:Q7*(v p.y+1)<=Q7*q.y:=VH (x (ml h)) (by rw[Fm]);grind-abstractProof};rw[a_]
theorem aQ7{r:Plan}{p q:Pt}(c2:QB)(e0:q.x<=r.w):ci p<ci q↔xP:=by rw[v (c_ aHI) (mx c2),b2 p q,ay];{have:Ng p=ab:=by{simp[ih]at n⊢;by_cases y:q.y<p.y;rw[Fq];{right;have:q.y=p.y:=gE (cU n.1) (cU (qx y));rw[dI this];rcases qU (n.2 aCm)with e2|e2;rw[a_];{exfalso;apply e;cases p;rw[kK];simp at*;simp[*]}}};have:=mx e0 this;exact Kt this h}
theorem asY{r:Plan}:k5 (V e l (0<Kb)) (0<K9 r l)|[],_=>ar K9|e::J,h=>hI (h e bJ) (asY anT)
theorem asZ{r:Plan}:∀{l:cI}{e:Ln},e∈l->Kb∣K9 r l|[],e,h=>ai|f::J,e,h=>by rw[ma,aog,l (Int.dvd_mul_right _ _),l (Int.dvd_mul_of_dvd_right (asZ h))]
variable{r:Plan}
theorem Lay.below(Z:bq){i j:Nat}(h:i<j)(b8:oo):qH (bp j):=DY (Nh Z.dP i j ES b8 h)
theorem Lay.wx(Z:bq){i:Nat}(h:g_):(eH).x<=r.w:=Z.wide _ (yK h)
theorem Lay.km(Z:bq){i j:Nat}(h:i<j)(b8:oo):aK2:=mx (HJ ES) (wC h b8)
theorem Lay.den_pos(Z:bq){e:Ln}(a0:iC):0<Kb:=by rw[cd yi];have:=Dm l.1 l.2;delta den;simp[*]
theorem Lay.as0(Z:bq):0<An:=asY (f8 a7')
theorem Lay.as1(Z:bq){e:Ln}(a0:iC):uR*Kb=An:=Int.ediv_mul_cancel (asZ a0)
theorem Lay.aQ8(Z:bq){e:Ln}(a0:iC):0<uR:=by have a:=Z.as1 a0;rw[cb Z.as0,eT (mR 0 uR),l h];{have:uR*Kb<=0:=VU h (eW a7');grind-abstractProof}
theorem Lay.K_(Z:bq){e:Ln}(a0:iC)(z:Pt):dx z-Zf=uR*(Y6*ke):=by rw[<-Z.as1 a0];delta Gm den ky eV dx dy;grind-abstractProof
theorem Lay.sgn(Z:bq){e:Ln}(a0:iC)(z:Pt):(dx z<Zf↔ke<0)/\(Zf<dx z↔0<ke):=by rw[cn (Z.K_ a0 z)];have w:xC<r.w+1:=by{simp};have p:=hI (Z.aQ8 a0) w;have b4:uR*(Q7*ke)=uR*Q7*ke:=by{grind-abstractProof};rw[b4]at a;generalize ke=t at*;generalize uR*Q7=q at*;constructor;{constructor;{rw[eE,s0 t,Bc,kx (tc (eW p) g)]};{rw[eE];have:=ahW p h;exact j4 a.m}};{constructor;{rw[eE,sZ t,Bc,kx (Ni (eW p) g)]};{rw[eE];have:=hI p h;exact j4 a.n}}
theorem aQ9{p q:Pt}(h:xP):p.y<=q.y:=by rw[jC ih];lia-abstractProof
theorem La{p q z:Pt}(a3:ph z=ab)(a9:VW q=ab)(h:Ke=0):q7 z:=by revert a3 a9 h;revert p q z;refine ap8;rw[co p q z,b1 a3 a9];delta wB;simp only[h,aCr,ahX,ib,Nj,iW];simp[ih]at a3 a9;delta eV dx dy at h;rw[N Q p.y q.y];{rw[ue]};{rw[k3 (D5 z.x) (fM z.y p.y)];have k3:xC<anW:=by{lia};have y:xC<=v z.y-p.y:=by{lia};have e0:v z.y-p.y<=anW:=by{lia};generalize ald=d at*;generalize bm z.y p.y=s at*;rw[aa ?_ (cn aoC (a3.elim ey aHw)) (cn (a9.elim ey aHw) (HK _ _))];rcases M8 p.x q.x with c|c;{have f:xC<=Ft:=by{simp[*]};have h2:=tc f y;have e2:=VH e0 f;have e5:xC<=Fu:=by{rw[s0 Fu];{have:=Dn g k3;rw[fU]};rw[l g]};rw[da Fu Ft Ft Fu];simp_all};{rw[bM f Ft 0 (nE c)];have h2:=VU f y;have e2:=aCd f e0;have e5:Fu<=0:=by{rw[sZ Fu];{have:=hI g k3;rw[fU]};rw[l g]};rw[da Ft Fu Fu Ft,fU]}}
theorem Lay.ok(Z:bq):(gN).Ok:=by rw[ck k (dx eF=kD eF) (by have:=Z.K_ a0 eF;have u:eV eF eG eF=0:=by{rw[ui];grind-abstractProof};rw[am u,uu];exact RU this),ck p (dx eG=kD eG) (by have:=Z.K_ a0 eG;have u:eV eF eG eG=0:=by{rw[ui];simp};rw[am u,uu];exact RU this),ck BM (yI (Gm r e x)) (by rw[aa (uR*(amN*ci eG-amO*ci eF)) (uR*(amO-amN)) Jj];delta Gm;grind-abstractProof),e gb Z.nd (fun i j h b8=>Dm h b8) BM k p ?_ ?_];{intro e a0 v a3 a9 q;rw[cd yi];have c4:dx ef=kD ef:=q;have O:=qX a0 ef;have o:=La (wC a3 (b8 a9 l.2)) (wC a9 l.2) Bl;rw[Z.on e a0 v (b8 a9 l.2) (x (v_ bF)) aHg]at o;cases o};{intro e a0 f W ov h;refine qN (fun n=>?_);have V:=a0;have t:=W;have le:=gb e V;rw[bT (gb f t)];have h':dx rM<hJ rM:=h;have C:am9<amP:=Int.not_le.mp n;rw[ak b d0 (BM e V)];obtain⟨c,d,g7⟩:=BM f t;have h8:hb<aL:=by{rw[Jg];exact ff (wD ahL ahK) le.2};have s:0<b-d:=by{rw[sZ (b-d),Bc];{have:=aCd g (eW (Dm ov h8));rw[en]}};rw[dy low (E i (i<=kH) (dx eH<hJ eH)) (IA ES)];have w:o i (hb<=i) g_ (hJ eH<dx eH):=fun i hi a5=>IA a5;have b4:=Gw e.1;have g4:=Gw f.1;have b9:=w e.2 (cG o_ (wD ahL ahK)) ag;have h3:=w f.2 (cG o_ (oV ahL ahK)) ag;rw[k e V]at b4;rw[k f t]at g4;rw[p e V]at b9;rw[p f t]at h3;have cr:=Z.nc e V f t Ql;unfold Gla.crosses at cr;simp[(Dn ((qX V amg).1.mp g4) ((qX V amh).2.mp h3)),(ahW ((qX t eF).2.mp b4) ((qX t eG).1.mp b9))]at cr}
universe GM
namespace GM
open Gla
abbrev gz:=Int×Int
noncomputable def cr(a b:gz):Int:=bf3
noncomputable def kd(al f:Int)(a:gz):Int:=al*a.1+f*a.2
theorem as2(al f:Int)(a b c:gz):cr a b*cR c+cr b c*cR a+an9*cR b=0:=by delta cr kd;grind
theorem vh(a b:gz):cr b a= -cr a b:=w5 cr
theorem BW{J d:gz}(h:cr J d<0):Zo=0:=by delta tf;have:apr<0:=h;exact kS
theorem qG{J d:gz}(h:0<cr J d):Zo=2:=by delta tf;have a3:0<apr:=h;rw[en]
theorem as3{J d:gz}(h:cr J d=0):Zo=1\/Zo=3:=by delta tf;have a3:apr=0:=h;simp[a3];lia-abstractProof
theorem as4(J:gz):tf J J=3:=by delta tf;rw[bM a3 (J.1*J.2-J.2*J.1) 0];have a9:¬(QF+J.2*J.2<0):=by{rw[fh a QF J.1,bek];exact J (RT z a b)};simp[a3,a9]
theorem aQ_{al f:Int}{J d:gz}(h:cr J d=0)(a6:cR J<0)(hd:0<cR d):Zo=1:=by delta tf;have a3:apr=0:=h;have O:cR J*(J.1*d.1+J.2*d.2)=cR d*(QF+J.2*J.2):=by{delta kd;rw[a4 cr];grind-abstractProof};rw[fh a QF J.1,bek];have pos:0<QF+J.2*J.2:=by{have:J.1≠0\/J.2≠0:=by{refine aHI;delta kd at a6;simp_all};rw[eT this,pn QF (a2V this b),pn (J.2*J.2) (a22 a this)]};have f6:=hI hd pos;have neg:J.1*d.1+J.2*d.2<0:=by{rw[s0 (J.1*d.1+J.2*d.2),Bc,kx (VU (eW a6) g)]};simp[a3,neg]
theorem Lb{J a b:gz}(h:tf J a<tf J b):aKR:=by delta Dq;simp[h]
theorem Lc{J a b:gz}(h:tf J a=tf J b)(c:cr a b<0):aKR:=by delta Dq;have:bf3<0:=c;simp[h,this]
theorem aQ'{J a b:gz}(h:aKR):Dq J b a=ah:=by delta Dq at h⊢;lia-abstractProof
section z
variable{al f:Int}
theorem aRa{J w x:gz}(a6:cR J<0)(hw:cR w<0)(ow:cr J w<0)(S:cr w x<0\/0<cr J x\/x=J\/0<cR x):aKS:=by have b1:=BW ow;by_cases c:cr J x<0;{rw[fK (BW c)];refine Lc (x (ahY bF E4)) ?_;rw[vg S,l h,Jt];{subst h;delta cr at c;grind-abstractProof};{rw[aMd];have e9:=Dn ow h;rw[aKL];have f6:ao9<0:=ahW ag hw;rw[pt (cr w x) J,s0 (cr w x),Bc,i5 (Ni g (eW a6))]}};{refine Lb ?_;rw[k6 (a23 (agP c))];{rw[b1,qG g];simp};{rw[al (as3 g.symm)]<;>simp[*]}}
theorem aRb{J w x:gz}(a6:cR J<0)(hw:0<cR w)(S:(cR x<0/\0<cr J x)\/x=J\/(0<cR x/\cr w x<0)):aKS:=by rcases S with⟨S,c⟩|rfl|⟨S,c⟩;{rw[ep (qG c),bs (cr J w) g g g,l (mW (BW g) a9),l (mW aLr a9)];{refine Lc (bj (qG g) a9) ?_;rw[aMd];have e9:=ahW g S;rw[aKL];have f6:ao9<0:=Dn ag hw;rw[al (mR (cr w x) 0),iB];{have:=Ni q (eW a6);lia}}};{refine Lb ?_;rw[as4];rw[bs (cr x w) g g g,l8 (BW g),l8 aLr,Z (qG g) jX]};{rw[aMd];have e9:=a24 c a6;rw[aKL,bs (cr J w) g g g];{rw[al (mR (cr J x) 0),l (Lc (bj (BW g) (BW q)) c)];{refine Lb ?_;rw[BW g];rw[al (a23 q),l8 (qG q)];{rw[cY (as3 zD)]<;>simp[*]}}};{rw[ae O (cr J w*cR x) 0];have:ao9<0:=bL;have:cr x J<0:=bbF;exact mW aLr (qG ai)};{have f6:=hI g S;have:ao9<0:=x (se id.m e9 f6);have:cr x J<0:=bbF;exact Lc (bj (qG g) (qG ai)) c}}
theorem aRc{J w x:gz}(ow:0<cr J w)(S:x=J\/(0<cr J x/\cr w x<0)):aKS:=by rw[dq S rfl a9,l (Lb (ac as4 (qG ow) jX)),l (Lc (bj (qG ow) (qG a3)) a9)]
universe z
structure Clock(r:df gz)(al f:Int)(Z d:ao):Prop where
 l:ev Z (cR (r a)<0)
 u:ev d (0<cR (r a))
 sl:Z.Pairwise a'd
 su:d.Pairwise a'd
theorem aRd(al f:Int)(a:gz):kd (-al) (-f) a= -cR a:=w5 kd
theorem Clock.flip{r:df gz}{al f:Int}{Z d:ao}(C:aMI):aCs r (-al) (-f) d Z:=d (GF (C.u a h)) (GF (C.l a h)) C.su C.sl
theorem aRe{l:ao}{i x:Nat}(h:xQ):∃a b,l=a++x::b/\mP=i:=by rw[fd hi (i<eb),w (Hd i) (oQ (i+1)) ?_ cq,aj pQ];rw[<-(cZ h)];simp
theorem Clock.low{r:df gz}{al f:Int}{Z d:ao}(C:aMI){i x y:Nat}(hi:i<fL)(S:fh aoS)(b6:K aoS Q9 y):be2:=by revert C hi S b6;revert r al f Z d i x y;refine Kq;generalize aF=r,az=al,aE=f,aD=Z,aB=d,aA=i,aG=x,aH=y;intro C hi S b6;rw[hD hi]at S;obtain⟨A,B,e,d0⟩:=aRe S;have sl:=C.sl;rw[e,qW,pf]at sl;obtain⟨c0,⟨c,v⟩,l⟩:=sl;have k:=C.l x (x (bM bF));intro z c9 ne;have j:ev A (0<cr (r x) (r a)):=fun a b3=>by{have:=l a b3 x bJ;have:=vh (r a) (r x);simp[*]};rw[cb a0 (z∈A\/z=x\/z∈B\/z∈d)];cases B with|cons w n=>{have m:i+1<fL:=by{simp[*]};have:Q9=i+1:=es ag;rw[this,hD m,e,pz (ahl d0.l)]at b6;rw[mu (i+1-ij) 1]at b6;simp at b6;subst b6;refine aRa k (C.l w ag) (c w bJ) ?_;rw[vg a0,a_,a_,ay,co (pd (C.u z h))]}|nil=>rw[ae m (i+1) fL];cases g:d with|cons w o=>{have:Q9=i+1:=es bz;rw[this,pz m.g,g]at b6;rw[show i+1-fL=0 by exact mS (cf (aI (i+1) fL m.g) m.l) aN0]at b6;simp at b6;subst b6;refine aRb k (C.u w bz) ?_;rw[vg a0,dR ⟨C.l z bz,j z h⟩,dX];{rw[cH]};{have su:=C.su;rw[g]at h su;rw[ma,eT h,dX];{rw[pf]at su;exact .inr (e4 (C.u z bz) (su.1 z h))}}}|nil=>subst g;have:jd%t (Z++[])=0:=cz qQ m ahO;rw[this,qQ]at b6;cases A with|nil=>{grind}|cons w b=>rw[e]at b6;simp at b6;subst b6;refine aRc (j w bJ) ?_;rw[vg a0,ay];{rw[xq]};rw[ay,ay]
theorem Clock.next{r:df gz}{al f:Int}{Z d:ao}(C:aMI){i x y:Nat}(S:fh aoS)(b6:K aoS Q9 y):be2:=by rw[fY hi fL,l (C.low hi S b6)];{have p4:i<t (Z++d):=bx S;rw[cj]at p4;have O:K (d++Z) aLq y:=by{rw[T (i+1) (fL+oZ)];{rw[cs a Q9 0];rw[a]at b6;rw[d9 c0 fL,ay];{rw[S b aLq oZ (aS (i-fL+1) oZ (cf (aI i fL (qx hi)) q.l) (cf q.g (aS i fL))) (es fS)];rw[b,pj aY,zE];rwa [hD (VX c0)]at b6}};{have a:Q9=i+1:=es fS;have b:aLq=i-fL+1:=es n_;rw[b,hD bL,aS (i-fL+1) (i+1-fL) (M i fL (qx hi) (i+1) fL) (M (i+1) fL (qx hi) i fL)];rwa [a,pz (ahl (qx hi))]at b6}};intro z c9 ne;exact C.flip.low bL (by rw[hD bL];rwa [pj (j9 hi)]at S) O z (ahZ (bt (Nk c9))) ne}
theorem as5{lt:aHX}{w:Nat}:∀{J:ao}{k:Nat},w∈k::J->bk (k::J) (x≠w->lt w x=ab/\lt x w=ah)->J.foldl (fs (Z (lt b a) b a)) k=w|[],k,h,_=>ai|b::J,k,h,q=>by rw[YT];refine as5 cq (fun x S ne=>?_);rw[P0];grind-abstractProof
variable{r:Plan}
noncomputable def yL(r:Plan)(h:Ln):Ln:=(h.2,r.next h.1 h.2)
theorem vi{v x:Nat}(Z:bq):x∈ik v↔dQ JL:=by delta Plan.near oG;simp only[a25];constructor;{rw[hv l a5,eI];{next e=>rw[cH];left;rw[xN];exact a5};{rw[eI];{next e=>rw[cH];right;rw[xN];exact a5};rw[cX]}};{rintro(h|h);rw[l (v JL h (x cO))];{rw[ak (x,v) h];simp_all}}
theorem ad7(v x:Nat):kd 1 (r.w+1) (d5 x)=ci (bp x)-ci ef:=by delta kd dir dx dy ky;grind
theorem yM(v a b:Nat):eV ef rq (bp b)=aoD:=bg4
theorem as6(v a b:Nat):bbm= -aoD:=bg4
theorem aRf(Z:bq){v a b:Nat}(b3:JN)(U:uG)(h:bbn):O5:=by have Y:=hJ;have h2:iG OB (v,b)=v:=by{delta iG;simp};have s:=h.s;rw[h2]at s;have c5:=(wu _ b3);rw[cc (wu _ U),dR t ((gN).X OB ((gN).k Rk)) ((gN).X (v,b) ((gN).k Rk)),aKY];{have e2:Rk=a:=by{rw[Jg];simp;exact kS};rw[e2]at t;rw[(wz _ b3)]at t;have:=(aKO).mp t;have g5:0<akU:=this;rw[yM,vh]at g5;simp_all};{rw[fK Rk b o_];rw[e2]at t;rw[(wz _ U)]at t;have:=(aKP).mp t;have g5:=this;rw[yM]at g5;exact g5}
theorem aRg(Z:bq){v a b:Nat}(b3:(a,v)∈bX)(U:(b,v)∈bX)(h:mu iv (a,v) (b,v)):cr (d5 b) (d5 a)<0:=by have Y:=hJ;have h2:o_ (a,v) (b,v)=v:=by{delta o_;simp};have s:=h.s;rw[h2]at s;have c5:=wz _ b3;rw[cc (wz _ U),dR t ((gN).X (a,v) ((gN).k aoA)) ((gN).X (b,v) ((gN).k aoA)),aKY];{have e2:aoA=b:=by{delta iG;simp;exact kS};rw[e2]at t;rw[(wu _ U)]at t;have:=(aKP).mp t;have g5:bbm<0:=this;rw[as6]at g5;have:=vh (d5 a) (d5 b);simp only[*]};{rw[fK aoA a iG];rw[e2]at t;rw[(wu _ b3)]at t;have:=(aKO).mp t;have g5:0<eV (bp b) ef rq:=this;rw[as6]at g5;simp_all}
noncomputable def Ld(E N:cI):ao:=aCj fN++N.map eX
theorem as7(Z:bq){v:Nat}{s:Sw}{E N:cI}(d3:v<aL)(C:aps):aCs (dir r v) 1 (r.w+1) (aCj fN) (N.map eX):=by rw[b2 a80 a80 ?_];{simp only[fK,aCu]at h;rw[bC e a0 h,am2,aoX];rw[ad7];have:=Dm (i:=e.1) (j:=v) (bV l.1 m.2.l) d3;exact r_ this};{rw[nC fK,bC e a0 h,am3,aoX];rw[ad7];have:=Dm (i:=v) (j:=e.2) ai l.2;simp[*]};{rw[Nl,List.pairwise_reverse];rw[h8 C.sE,vf h,am2];have f7:=x (VN f) W;rw[eK b4 e,apd,a8_,KF (aRg Z g9 c h)]};{rw[Nl];rw[h8 C.sN,vf h,am3];have f7:=x (VM f) W;rw[eK b4 e,apd,a8_,KF (aRf Z g9 c h)]}
theorem aRh(Z:bq){v:Nat}{s:Sw}{E N:cI}(d3:v<aL)(C:aps):c8 xt:=by have K:=as7 Z d3 C;delta Ld;rw[ah0];rw[ak ?_ ?_,l (K.sl.imp bed),l (K.su.imp bed)];{intro a b3 b U e;rw[b_];have:=K.l a b3;have:=K.u a U;lia}
theorem SV(Z:bq){v:Nat}{s:Sw}{E N:cI}(C:aps)(x:Nat):x∈xt↔dQ JL:=by delta Ld oG;simp only[hF,fK,aCu];constructor;{rintro(⟨e,a0,rfl⟩|⟨e,a0,rfl⟩);{rw[am2];right;rw[<-m.2];exact m.1};{rw[am3];grind-abstractProof}};{rintro(h|h);rw[l (.inr (bp JL (ae (VM _) (dv h)))),dR (bp (x,v) (ae (VN _) (dv h)))]}
theorem as8(Z:bq){v:Nat}{s:Sw}{E N:cI}(d3:v<aL)(C:aps){i x:Nat}(S:fh (xt)):z y (ap xt (jd%Fb) y) (yL r (x,v)=(v,y)):=by rw[fd hi (i<Fb)];have c4:jd%Fb<Fb:=VY _ (bV tF hi);refine js (da c4);have O:=(as7 Z d3 C).next (i:=i) (x:=x) (y:=(xt)[jd%Fb]) S (da c4);generalize b6:(xt)[jd%Fb]=y at O⊢;delta yL;rw[dY];delta aCv;have G:=ae (vi Z) (x (SV Z C y) cq);cases d1:ik v with|nil=>{simp_all}|cons k J=>simp only;rw[d1]at G;refine as5 (lt:=fun b a=>Dq (d5 x) (d5 b) (d5 a)) G (fun z c9 ne=>?_);have:=O z (ae (SV Z C z) (x (vi Z) ag)) ne;exact⟨this,aQ' this⟩
theorem Lay.mp(Z:bq)(J:og):Mp iv J ro:=by have Y:=hJ;rw[v aoa (fun h H=>?_)];{rw[HO v];exact d xt (aRh Z d3 C) (SV Z C) (fun i x S=>as8 Z d3 C S)};{have d3:=H.BQ Y;rw[HO h.2,ib (ae (SV Z C h.1) H.rv),co S (A (xt) h.1),ii b9 (as8 Z d3 C S)];rw[b9];rw[db d C.dc];generalize c0:f_ (gN).n=s at*;have len:t aIG=Fb:=by{delta BN Ld;simp};have a:aP j x (aa (xt) x->∃p:fB,aa (aIG) p/\p.1=sd wy (h.2,x)/\p.2=sd wy (x,h.2)):=by{intro j x b8;delta Ld at b8;delta BN;by_cases q:j<VZ;{rw[hD ag,cz]at b8;rw[hD ag,cz];cases W:E.reverse[j]? with|none=>{simp_all}|some f=>rw[W]at b8;simp at b8;have k:=x (VN f) bz;have fl:=gb f k.1;rw[apd];simp at b8 fl;have b:h3=h.2:=k.2;subst b8;rw[bD _ ?_ ?_,a3 h.2 g4 fl.1 b.l b];{rw[I_];simp_all}};{have c4:=zj q;rw[pj ag,cz]at b8;rw[pj ag,cz];simp only[bA,List.length_reverse]at b8⊢;cases W:N[j-VZ]? with|none=>{simp_all}|some f=>rw[W]at b8;simp at b8;have k:=x (VM f) (bM W);have fl:=gb f k.1;rw[apd];simp at b8 fl;have g:g4=h.2:=k.2;subst b8;rw[bD _ ?_ ?_];{rw[I_];simp_all};rw[a3 h3 h.2 g.g fl.1 g]}};obtain⟨p,c2,e9,f6⟩:=a i h.1 S;obtain⟨u,a3,l,D⟩:=a _ y b6;rw[bT (SO d i ag)];delta Run.lb;rw[c0];rw[<-l,a0 (sd wy h) p.2 f6.symm];rw[T (i+1) Fb];{rw[q,ahO]at a3;have o3:=(SO d 0 (bn len.g q.l)).1 rfl;grind};{rw[es (cz hi q)]at a3;grind}}
universe GM
namespace GM
open Gla
variable{r:Plan}
structure Time(r:Plan)(t:Nat)(z:Pt):Prop where
 le:t<=aL
 lo:E i (i<t) (qH z)
 hi:o i (t<=i) g_ (VW eH=ab)
noncomputable def passes(r:Plan)(z:Pt)(x:Ln):cb:=gB x.1 x.2 (nb (i4 x.1 x.2))||gB x.2 x.1 (mL (i4 x.1 x.2))
noncomputable def spans(r:Plan)(t:Nat)(z:Pt)(e:Ln):cb:=cv (jW/\I1/\0<ke)
theorem aRi(p q z:Pt):eV q p z= -Ke:=by rw[ui];grind
theorem as9(x:Ln)(z:Pt):mr (rv x)=mr x:=by delta HL rv;simp only;rw[aRi (bp x.1) (bp x.2) z,Bool.or_comm];congr 3<;>(rw[decide_eq_decide];lia-abstractProof)
theorem aRj(Z:bq){e:Ln}(a0:iC)(z:Pt):bD (mr e) ((eF).y<=z.y/\z.y<(eG).y/\0<ke):=by have l:=yi;have:=aQ9 aIN;delta HL;simp;intro a b;grind-abstractProof
theorem as_{f:eg}{a:Nat}:∀n,js (e3 (v a v (f v) 0)) n=mr (a<n) (f a)|0=>bH|n+1=>by simp only[js,as_ n];(split<;>lia)
theorem as'{f g:eg}:E n (ad v (v<n) (f v=g v)) (anm=js g n)|0,_=>rfl|n+1,h=>by simp only[js];rw[as' n (lC (h v Jh)),aJD]
theorem aRk{R:Arr}(Y:R.Ok){i:dA}(K:Nb R i)(T:uA):z9 e.1=z9 e.2:=by have a:∀(c5:Ln->Nat),V e gH (c5 e<R.n)->z9 (c5 e)=js (e3 a'G) R.n:=by{intro c5 c2;have b4:(e3 a'G)=e3 (cu (v (c5 e) v (q3 (T v)) 0) gH):=by{funext v;rw[bC q (T v)];{rw[aIM];rw[Gh];simp};{simp only[q];have:(an (v (c5 e) v (Z ah (i e) xC) 0))=nq:=aT;simp;rw[Gi]}};rw[b4,ad0];refine BP ob;rw[as_ (f:=e3 (o8 (T v))) R.n];simp[c2 e a0]};rw[a fN (f8 (bv jh (jv eu fm))),a eX (f8 (by have:=jh;simp[*]))];refine as' _ aoa;rw[K v d3]
theorem ata(h:Qf){e:Ln}(a0:iC):wB eF eG z=ah:=Dn HM
theorem aRl(Z:bq){t:Nat}{z:Pt}(T:ot)(h:Qf){e:Ln}(a0:iC)(a3:jW)(a9:I1):ke≠0:=by rw[fT];have:=La (mU e.1 a3) (mT e.2 a9 (yi).2) q;rw[am (ata h a0),ny]
theorem atb(Z:bq){t:Nat}{z:Pt}(T:ot)(h:Qf){i:dA}(K:Nb iv i):dL JA=dL O8:=by let d:uA:=e3 (cv (il (ef).y amM));have O:h2 (q3 (mr e)+q3 (d e.2)=q3 aMo+q3 (d e.1)):=by{rw[aaf];have l:=yi;rw[ep (aRj Z a0 z)];have e8:bD aMo (jW/\I1/\0<ke):=by{delta V0;simp};rw[fI aIN];have f6:=ata h a0;have c2:jW↔(eF).below z=ab:=by{constructor;rw[l (mU e.1)];{rw[fT,ea e.1 t,Bc,IB (mT e.1 g ZV)]}};have N:I1↔VW eG=ab:=by{constructor;{rw[fT];exact mT e.2 q l.2};{rw[fT,ea e.2 t,IB (mU e.2 g),l g]}};have m:eF≠z:=ah (by rw[ea e.1 t];{have:=mU e.1 g;rw[am q,hH ih]};{have:=mT e.1 g bL;lia});have u:eG≠z:=ah (by rw[ea e.2 t];{have:=mU e.2 g;lia};{have:=mT e.2 g ag;rw[am q,hH ih]});rw[c2,N]at e8;have n:∀{p:Pt},p≠z->p.y=z.y->p.x≠z.x:=fun{p}R b6 S=>R (by cases p;cases z;simp_all);have W:bD (d e.1) (il (eF).y amN):=by{simp[d]};have d8:bD (d e.2) (il (eG).y amO):=by{simp[d]};generalize eF=p at*;generalize eG=q at*;simp[ih]at e8 f;by_cases e5:il p.y p.x;{have ns:¬aMo=ab:=cj ((e8.mp k).1.elim (fu (gF a e5.1)) (fu (a28 e5.2 a.2)));by_cases e6:il q.y q.x;{rw[bj (cj (gF (aV (a9.mp k)) e6.1.symm)),bj ns,aJ (d8.mpr e6),a98]};{have j:z.y<q.y:=e5.1▸f.elim id (cj (cy ⟨k.1.symm.trans e5.1,jv e5.2 k.2⟩ e6));have L:0<Ke:=by{have b4:Ke=k9 p.x z.x:=by{rw[ui];grind};rw[b4,e5.1];exact hI (a27 (U4 j)) (a27 (U4 e5.2))};rw[aJ (a9.mpr (v (qM e5.1) j L)),bj ns,bau,a98];exact Int.add_comm _ _}};{by_cases e6:il q.y q.x;{have Q:p.y<z.y:=by{rw[ea p.y z.y,Bc];{exfalso;have b4:p.y=z.y:=f.elim (cj (cy (e6.1▸k) (a26 g))) (cj (k.1.trans e6.1));have o:p.x<=z.x:=DL b4;have:q7 z:=by{delta wB eV dx dy Nj;simp[b4,e6.1,cn (wD p.x q.x) o,cn (ey e6.2) (HK p.x q.x)]};simp_all}};have L:0<Ke:=by{have b4:Ke=k9 q.x z.x:=by{rw[ui,kb]};rw[b4];exact hI ag ag};simp[*]};rw[bau,bj (cj (e5 (W.mp k))),Bool.eq_iff_iff.mpr (a9.trans (Iff.trans ⟨p2 ((qU a).imp_right (e9 ⟨y,aA5 (DL y) (n m y)⟩)) (.inl b),p2 (a.elim ey aHw) (b.elim id (cj (cy ⟨k.1.symm,k.2⟩ e6)))⟩ e8.symm))]}};have s:=BP O;rw[kr,kr]at s;rw[Gh,Gh];have w:cu (o8 (d e.1)) bX=cu (o8 (d e.2)) bX:=(aRk hJ K d);simp_all
structure Cut(r:Plan)(s:Sw)(z:Pt)(A B:Row):Prop where
 row:pa=A++B
 hA:ib A (ke<0)
 hB:ib B (0<ke)
theorem atc(Z:bq){J:og}{t:Nat}{z:Pt}(T:ot)(h:Qf){A B:Row}(C:Z1){i:dA}(K:Nb iv i){w:eg}(W:ahV iv J i aL w):w hl=dL JA:=by have I:=pe hJ t wF;rw[cc (W.Gf t wF),cd (W.last t wF)];rw[HN,oB]at c;rw[HN,oA]at l;rw[c7 (adQ c.2),a6 l];rw[e,atb Z T h K];simp only[a29];refine SJ i ?_;have dP:=M_;rw[HN,ht,qW]at dP;rw[HF (SM dP.2.1) (V1 _)];intro e;simp only[Nm,V0,iW];constructor;{intro m;rw[cn (x iw (ac HN ht (qP _ bF)))];exact d a.1 a.2.1 a.2.2 (C.hB e m)};{rintro⟨a,b,c,d⟩;have:=ae iw (v a b c);rw[HN,ht,hF]at this;rw[g9 this m,kx (C.hA e m),l m]}
noncomputable def lA(l:ao):cI:=ah1 (oQ 1)
theorem Le(a b:Nat)(l:ao):lA (a::b::l)=(a,b)::lA (b::l):=bH
theorem Lf:Dk (aCw=aa a->ah2=aa b->td a (lA l) b)|[],a,b,h,_=>bB|[x],a,b,h,g=>by{simp at h g;subst h;subst g;rfl}|x::y::l,a,b,h,g=>by rw[ma];subst h;rw[Le];rw[v rfl (Lf rfl ?_)];trivial
theorem ad8:∀{l:ao}{e:Ln},e∈lA l->e.1∈l/\e.2∈l|[],e,h=>kq lA|[x],e,h=>kq lA|x::y::l,e,h=>by rw[aj Le,nC hH,aog];{simp};{have:=ad8 h;simp[*]}
theorem Gn:∀{l:ao}{e:Ln},Jz->e∈lA l->Ym|[],e,_,h=>kq lA|[x],e,_,h=>kq lA|x::y::l,e,p,h=>by rw[aj Le];rw[pf]at p;rw[nC hH,aog,a_,l (Gn p.2 h)]
theorem ad9:to (an1->td b (aCi rv) a)|[],a,b,h=>x E4|h::l,a,b,⟨a3,a9⟩=>HY (ah3 (ce h.2 (ad9 a9) a3))
theorem ad_:∀(a b:cI)(e:Ln),em (a++b)=em a+em b|[],b,e=>ar fl|h::a,b,e=>by simp[fl,ad_ a b e];simp+arith [*]
theorem aRm(h e:Ln):BR hk e= -O4:=by delta BR ind;have a:(hk=e)↔(h=rv e):=⟨ah (by rw[<-q];rfl),ah (dd q)⟩;have b:(hk=rv e)↔(h=e):=⟨ah (bv (gC rv q) this),ah (by rw[q])⟩;simp+arith [*]
theorem atd:∀(l:cI)(e:Ln),em (aCi rv)= -em l|[],e=>bH|h::l,e=>by simp only[a2_,fg,c_,zw,ad_,atd l e,fl,aRm];lia-abstractProof
theorem ate(Y:(gN).Ok){m:cI}(nd:m.Nodup)(c4:df m iC):dB (V h l (h.1<h.2)) (cQ (fl l) m) bb2|[],_=>a9W|h::l,a5=>by rw[aKQ];rw[this,kr,ate Y nd c4 (aL (a5 x rB))];have b4:sK m=pe m:=by{show cu (Aq-Ar) m=_;rw[aLS];rw[this,kr,BS,K6 h nd,ad3 h nd];have c7:=a5 h bJ;have:hk∉m:=ah (l7 (ed _ (c4 _ q)) (gy eu c7));simp[ind,this]};rw[b4];rfl
theorem SW(on:OM):eT OY (· < ·):=cG HP (eh a2' _)
theorem bjv{on:OM}{i:Nat}:i∈OY↔g_/\on eH=ab:=i4 HP
theorem Lg(Z:bq){l:ao}(s:Jz)(h:ah4 r l=ab){e:Ln}(a0:e∈lA l):iC:=by rw[a4 ah4,aj Hw];have:=ZP;rw[a8a,iZ (Gn s a0),bY (qV dV) (HE dV),gj]
theorem Lh{l:ao}{a:Nat}(s:Jz)(b3:a∈l)(h:aL l (a<=x)):aCw=aa a:=by cases l with|nil=>{simp_all}|cons b J=>rw[pf]at s;simp at b3⊢;rw[al b3,l E4,mE (s.1 a q) (h b bJ)]
theorem ad'{l:ao}{a:Nat}(s:Jz)(b3:a∈l)(h:aL l (x<=a)):ah2=aa a:=by cases a5:ah2 with|none=>{simp_all}|some b=>rw[cl d7 (List.getLast?_eq_some_iff.mp a5)];rw[e]at s b3;rw[qW]at s;simp at b3;rw[al b3,mE (s.2.2 a q b bJ) (h b ag)];{rw[q]}
theorem BX(Z:bq){p:Pt}(h:HQ p=ab):bfu:=by rw[cb m (p∈dd),ib m];exact beD
theorem Li(Z:bq){i j:Nat}(hi:g_)(b8:oo)(h:bbD):i<=j:=IC (wC g hi)
theorem atf{t:Nat}{m:cI}:Dk (c Jz (aCw=aa a) (ah2=aa b) (V h (lA l) (h∈m↔h.1<t/\t<=h.2)) ((B (lA l) (c_ (pe m))).foldr (· + ·) 0=ind (t<=b)-ind (t<=a)))|[],a,b,_,h,_,_=>bB|[x],a,b,_,h,g,_=>by{simp at h g;subst h;subst g;simp[lA]}|x::y::l,a,b,p,h,g,q=>by rw[ma];rw[List.getLast?_cons_cons]at g;have f6:=V2 p;rw[dB (atf f6.2 rfl g (fun h c7=>q h (t Le (mE bF))))];rw[Le]at q⊢;rw[kB a3a d6];have j:=f6.1 y bJ;have N:=q (x,y) bJ;simp only at N;rw[YQ];by_cases c:(x,y)∈m;rw[cL];lia-abstractProof
theorem atg{m:cI}:k5 (V h l (h∉m)) (bb2=0)|[],_=>rfl|h::l,q=>by have:=atg (m:=m) (l:=l) (aL (q x rB));rw[kB a3a this];simp[ind,q h bJ]
theorem aRn(Z:bq)(n:Y0){J:og}{t:Nat}{z:Pt}(T:ot)(h:Fx){A B:Row}(C:Z1):iR hl≠0:=by have Y:=hJ;rw[a4 Dr,ma,ab v u D E f];delta V3 at n;rw[wN n];obtain⟨g4,h3,h6,f4,g7,g8,a5,W⟩:=n;rw[ak al s (BX Z g4),bG h7 i2 (BX Z h3)];obtain⟨c,e9,M⟩:=BX Z h6;obtain⟨d,dl,dp⟩:=BX Z f4;rw[fY iI bia (ar ih)];have a4:=sL (gg 0);rw[hz (sL Ze)];have c8:=sL (gl 0);have d9:=sL amX;have b6:=vs (Z.BV _ (yK hi));have S:=vs (HJ hi);have e5:=Lh d9 (m2 h7) (l4 h7 m.1);have e0:=fo d9 dl dl;have K:=ad4 Y (ah3 (v b (Lf (Lh a4 (m2 al) (aL (Hj S))) (fo a4 h7 h7)) (ah3 (v d (Lf e5 e0) (ah3 (v c (ad9 (Lf (Lh b5 (m2 e9) (l4 e9 m.1)) (ad' b5 (m2 dl) (fun x G=>by rw[bT (HR G)];refine Li Z m.1 dl ?_;simp[*])))) (ad9 (Lf (Lh c8 (m2 al) (fun x G=>Hj G)) (fo c8 e9 e9))))))))) (aL (by rw[bes];rcases S with S|S|⟨y,S,rfl⟩|⟨y,S,rfl⟩;rw[dR (Lg Z a4 g7 S),dR (Lg Z d9 W S),co (Lg Z b5 g8 S),co (Lg Z c8 a5 S)]));rw[kc o (adV Y J K aL aY)];have e:=atc Z T f C K o;rw[a6 (atb Z T f K)];have nd:c8 O8:=V1 _;rw[ak sub O8 iC (fe a0)];have c9:fl (jV (gg 0)++(jV amX++(F0 Ze++F0 (gl 0))))=an (em (jV (gg 0))+(em (jV amX)+((-em (jV Ze))+(-em (jV (gl 0)))))):=by{funext e;simp only[ad_,atd]};rw[c9,kr,kr,kr,BS,BS,uZ a4,uZ b5,uZ c8,uZ d9]at e;have j:∀h:Ln,h∈O8↔N (h∈bX) (h.1<t) (t<=h.2) (0<i4 h.1 h.2):=c_ (ar V0);have c3:=ah (by have:=mT b q h7;rw[bY iI i2,uu];omega);have l:t<=d:=by{rw[ea d t,i5 (mU d g),l g]};rw[nn (gg 0) (by have e1:=aJL;have:=mT h.2 (bX aH3) e1.1;rw[am iI];have:=e1.2;rw[uu];lia-abstractProof),nn Ze (by have e1:=aJM;have:=mU h.1 (aV aH3);rw[am iI];grind-abstractProof),nn (gl 0) (by rw[bT aH3];have e1:=aJL;have k:=wC (Gn c8 c7) e1.1;rw[bs iI];have d2:=(aJM).2;have q2:=e1.2;simp at d2 q2;rw[Hn be4];have:0<=bdf:=tc fp (x (Ku z.x));rw[b4]at m;have b9:be4= -(bdf):=by{lia};exact RT m.2.2.2 b9.m this),(atf (t:=t) (m:=O8) d9 e5 e0 (fun h c7=>by rw[j h];have e1:=aJL;have k:=wC (Gn d9 c7) e1.1;rw[bs iI];have d2:=(aJM).2;have q2:=e1.2;simp at d2 q2;rw[Hn (bm alb ala*bm r.w z.x)];exact⟨ah ⟨q.2.1,aS q⟩,ah (d (Lg Z d9 W c7) q.1 q.2 (t b4 (hI fp (w2 u))))⟩))]at e;simp only[ind,c3,l,mM,iV]at e;rw[fT,eh (pe Y aL aY)];have c0:iR 0=0:=by{have:=I.adS 0 VL;lia-abstractProof};have:=o.Ge hl 0 (by rw[cn ((pe Y t wF).gap hl (ac HN oC al8)),cb (J.oD wF aY)];exact cn a b) VL ai;rw[am o.zero];lia-abstractProof
universe GM
namespace GM
open Gla
variable{r:Plan}
noncomputable def yN(l:ao):cI:=a_j
theorem aea(F:Fj):Gn (ar F (a+b) h=ar F a h++ar F b (cE a))|0,b,h=>eN ar it|a+1,b,h=>by rw[dy (a+1+b) ((a+b)+1)];simp[ar,aea F a b (F h),Gj,it]
theorem aRo{F:Fj}{h:Ln}{m j:Nat}(ret:cE m=h)(b8:j<=m):dh uK j++an uK j=ar F m lj:=by have b4:uK=ar F j h++ar F (m-j) lj:=by{rw[<-aea];rw[dY];simp[*]};have b9:ar F m lj=ar F (m-j) lj++ar F j (it F (m-j) lj):=by{rw[<-aea];rw[dY];simp[*]};have e7:it F (m-j) lj=h:=by{rw[<-yJ,mu (m-j+j) m,ret]};rw[b9,e7,b4];rw[cd (BU (F:=F) j h)];simp[*]
theorem ath(Z:bq){J:og}{h:Ln}(H:rQ){m:Nat}(P:sv ro h m):aP n j (j<m->m-j<=n->aCx n h FD=gZ (ar ro (m-j) FD))|0,j,b8,d1=>cq|n+1,j,b8,d1=>by rw[aS (m-j) ((m-(j+1))+1) (M m j b8 m (j+1)) (M m (j+1) b8 m j)];simp only[V4,ar,c_];rw[dY,ab e ((FD).2,r.next (FD).1 (FD).2) (it ro (j+1) h)];rw[e];rw[T (j+1) m];{rw[q,Nc];simp[ar]};{rw[bj (ahS (j+1) p_ Yr),ath Z (J:=J) H P n (j+1) Yr Bl];rfl}
noncomputable def Gp(r:Plan)(h:Ln):ao:=ah5 (aCx alE h h)
theorem ati:Fr (aH2<=a/\aL l (aH2<=x))|[],a=>aT|b::l,a=>by have:=ati l aai;rw[YT];exact⟨cn eu aoC,aL (cb (ic S) (an (t e (cn eu alM))) (this.2 x))⟩
theorem atj:Fr (aH2∈a::l)|[],a=>x fx|b::l,a=>by have:=atj l aai;rw[YT];grind-abstractProof
theorem aRp(Z:bq){J:og}{h:Ln}(H:rQ){m:Nat}(P:sv ro h m)(c4:m<=2*dQ):∃j,j<m/\uP=gZ (gz FD)/\aL (gz h) ((FD).1<=x.1):=by have e:=ath Z (J:=J) H P alE 0 VR ET;rw[kA it ah6];delta Gp;rw[e];have len:=BU (F:=ro) m h;cases d3:gz h with|nil=>{rw[d3]at len;simp at len;have:=VR;simp_all}|cons a l=>simp only[c_,ah5];generalize U:(Eu).foldl min a.1=W;rw[br mm (W∈aon) U (atj _ _)];have g8:=ati (Eu) a.1;rw[U]at g8;generalize b8:(a.1::Eu).idxOf W=j;rw[dE j4 (j<t aon),cb b (j<m),b2 j b ?_];{rw[ae D aon am5];rw[D,<-Dt,<-Ds,<-fg,aRo Nc (ie b)]};{rw[dE u9 (aa (a.1::Eu) W),ae D aon am5];rw[D,cz,Gk (F:=ro) m h j b]at u9;grind}
theorem atk:to (an1->(Eu).zip (dh Eu 1++[b])=l)|[],a,b,_=>bH|[h],a,b,⟨a3,a9⟩=>a8j|h::g::l,a,b,⟨a3,a9⟩=>by rw[dB (atk a9)];have g7:=a9.1;simp at d6⊢;grind-abstractProof
theorem aRq(Z:bq){J:og}{h:Ln}(H:rQ){m:Nat}(c9:0<m)(ret:it ro m h=h):yN (am5)=gz h:=by have W:=K8 (Z.mp J) hJ m H;rw[ret]at W;delta yN;have:an am5 1=[h.1]:=by{cases m with|zero=>{simp_all}|succ m=>rfl};rw[J this (atk W)]
theorem Lay.atl(Z:bq){h:Ln}:h∈ways r↔rQ:=by delta ways oG;simp only[V5,hH,oX,Du];constructor;{rintro⟨l,a5,rfl|rfl⟩;rw[l pX,co a5]};{rintro(a3|a3);rw[l (v h a3 gn),l (v hk a3 EX)]}
structure Net(r:Plan):Prop where
 lay:bq
 frame:Y0
 conn:K7 iv
 aRr:E v (v<aL) (asT iv v)
 start:fx bX (e.1=0)
variable{J:og}
theorem Net.orb(N:ka)(J:og){h:Ln}(H:rQ):∃m g,sv ro g m/\dQ g/\uP=gZ (gz g)/\yN uP=gz g/\kT=oh/\ad x (dQ x) (x∈gz g↔wA x=oh)/\(o x (dQ x) (wA x=oh) (g.1<=x.1)):=by have Y:=Nn;rw[aHL,bY P c4 (aQ0 d5 Y H)];obtain⟨j,b,e,least⟩:=aRp iX (J:=J) H P c4;have G:=am';have PG:=P.shift d5 Y H j;have i5:=ad6 d5 Y H j;rw[b m FD PG G e ?_ i5 (fun x X=>?_) (fun x X q=>?_),Z e (aRq iX (J:=J) G PG.pos PG.ret)];{rw[SU d5 Y ah7 G X PG,i5]};rw[l (least x (ae (SU d5 Y ah7 H X P) q))]
theorem Net.SX(N:ka)(J:og){g h:Ln}(G:dQ g)(H:rQ):Gp r g=uP↔kT=oh:=by rw[lQ A G];obtain⟨n,b,c,B,f7,d1,i5,D,e⟩:=N.orb J H;constructor;{(intros;simp_all only)};{rw[fT,cZ u a.1 b.1,ci i hi (Nd (ae (D a A) (bj F q)))];have o:i=0:=by{have g8:ap (gZ (ar ro n b)) 0 a.1:=by{rw[cz,Gk _ _ _ c.pos,u];rfl};exact asS (aQ4 (a3b J) Nn N.aRr B c) (by rw[cz,Gk _ _ _ hi,d2];rfl) g8};subst o;have f5:b=a:=d2;subst f5;have W:m=n:=by{rw[fj m n,cF d.ret (c.min m d.pos q),iB,cF c.ret (d.min n c.pos q)]};rw[d0,f7,W]}
noncomputable def iJ(g:dA):anA|[]=>0|h::l=>g h+iJ g l
theorem atn(Z:bq){g:dA}(j:∀e,g (rv e)= -g e):dB (V h l rQ) (cu (em l*g e) bX) (iJ g l)|[],_=>by{have:(an (em []*g e))=nq:=by{funext e;simp[fl]};rw[this,Gi];rfl}|h::l,H=>by have b4:(an (em (h::l)*g e))=an ((O4*g e)+(em l*g e)):=by{funext e;simp[fl];grind-abstractProof};rw[b4,kr,atn Z j aJ8];simp only[iJ];rw[dY];have O:∀(e:Ln),O4*g e=bgV:=by{intro e;delta BR ind;rw[T h e,cL];grind-abstractProof};rw[ae b9 (an (O4*g e)) (an bgV)];rw[b9,kr];have i:∀(f:dA)(c:Int)(l:cI),cu (f e*c) l=cQ f l*c:=by{intro f c l;induction l with|nil=>{simp[cQ]}|cons a b d6=>simp[cQ,d6];grind-abstractProof};rw[i,i,K6 h Z.nd,ad3 h Z.nd];have Y:=hJ;have d:=H h bJ;rw[a9u];{have m:h∈bX:=d.up Y q;rw[baS];simp[ind,m,e1]};{have m:hk∈bX:=d.dn Y q;rw[baR];simp[ind,m,e1]}
theorem ato(f g:dA):l9 (iJ (c_ (f h+g h)) l=iJ f l+iJ g l)|[]=>rfl|h::l=>by simp[iJ,ato f g l];simp+arith [*]
theorem atp(f:dA)(c:Int):l9 (iJ (c_ (c*f h)) l=c*iJ f l)|[]=>ar iJ|h::l=>by simp[iJ,atp f c l];grind-abstractProof
theorem atq(p:eg):to (an1->iJ (c_ (p h.2-p h.1)) l=p b-p a)|[],a,b,h=>by{rw[cH];simp[iJ]}|h::l,a,b,⟨a3,a9⟩=>by simp only[iJ,atq p a9,a3];simp+arith [*]
noncomputable def SY(r:Plan)(h:Ln):Int:=v (bp h.1).x*v alb-v (bp h.2).x*v ala
theorem aRs(r:Plan)(l:ao):aCy r l=iJ (SY r) (yN l):=by delta aCy yN;generalize a_j=q;induction q with|nil=>{rfl}|cons a b d6=>exact AB
theorem Net.atr(N:ka)(J:og){h:Ln}(H:rQ):0<aCy r uP↔oh≠0:=by have Y:=Nn;rw[aHL,lQ A H];rw[<-F,<-aQ5 d5 Y ah7 ah8 A d];let G:dA:=an (((gN).u e.1+(gN).u e.2)*((gN).k e.2-(gN).k e.1));have b4:cQ (SQ iv (fl (gz a))) (gN).lines=iJ G (gz a):=atn iX (g:=G) (an (by simp only[G,rv];grind-abstractProof)) (rb (dQ A j));rw[b4,aRs,R];obtain⟨pv,b⟩:∃pv:eg,∀v,pv v=An*(Y6*(amM*(ef).y)+amM*amM):=aW kX;have b9:G=c_ ((An*Y6)*SY r h+(pv h.2-pv h.1)):=by{funext h;simp only[G,tg,SY,ky,b];grind-abstractProof};have W:=K8 d5 Y m A;rw[d.ret]at W;rw[b9,ato,atp,atq pv W];have p:0<An*Y6:=hI N.lay.as0 aT;generalize An*Q7=c at*;generalize iJ (SY r) (gz a)=x at*;constructor;{rw[fT];have:=hI p q;rw[xM]};{rw[fT,sZ x,Bc,i5 (Ni (eW p) g)]}
theorem ats(Z:bq)(z:Pt):dB (V h l rQ) (ks (zB (HL r z))%2) ((cQ (fl l) JA)%2)|[],_=>a9W|h::l,H=>by have d6:=ats Z z (l:=l) aJ8;rw[aKQ];rw[this,kr];have Y:=hJ;have d:=H h bJ;have nd:c8 JA:=V1 _;have b4:sK JA=pe JA-ind (hk∈JA):=by{rw[a_i];show cu (Aq-Ar) _=_;rw[aLS];rw[this,kr,BS];rfl};rw[b4];rw[bC p (mr h)];{rw[z u (mr hk=ab) as9 p];rw[ah9 p,ie];rw[a9u];{have m:h∈bX:=d.up Y q;rw[baS];simp[ind,m,e1,p];lia-abstractProof};{have m:hk∈bX:=d.dn Y q;rw[baR];simp[ind,m,e1,u];lia-abstractProof}};{rw[z u (¬mr hk=ab) as9 p];simp[*]}
theorem aRt(l:ao)(z:Pt):bD (ah_ r l z) (gz (yN l) (HL r z)%2=1):=by delta ah_ yN HL;simp
theorem aRu{z:Pt}(h:Fx):Qf:=Dn Dr
theorem atu(Z:bq){t:Nat}{z:Pt}(T:ot){A B:Row}(C:Z1):hl<ame:=by rw[cn ((pe hJ t wF).gap hl (ac HN oC al8))];have b2:=J.oD wF aY;exact pU
theorem Net.inside(N:ka){t:Nat}{z:Pt}(T:ot)(h:Fx){A B:Row}(C:Z1){g:Ln}(G:dQ g)(e5:kT≠0):bD (ah_ r (Gp r g) z) (iR hl=kT):=by have Y:=Nn;rw[aHL,lQ b G];have c7:aL (gz a) (dQ x):=rb (dQ b j);rw[aRt,R];have M:=ats iX z c7;obtain⟨w,W,hw⟩:=asW d5 Y ah7 ah8 b d;rw[<-(atc iX T (aRu h) C (asV d5 Y b d) W),hw _ (atu iX T C),F]at M;rw[aI O (ind (kT=0)) 0 (bj bF)];rw[O]at M;rw[ab f5 ((f_ (gN).n).aP hl) (iR hl)];rw[f5]at M;delta ind at M;split at M;{rw[kb]};rw[kb]
theorem aeb(N:ka)(J:og){l:ao}:l∈th↔∃h,rQ/\uP=l/\oh≠0:=by delta wG;simp only[Nm,V6,fK,iW];constructor;{rintro⟨⟨h,hw,rfl⟩,a⟩;have H:=N.lay.atl.mp hw;exact ce h H (x (N.atr J H) a)};{rintro⟨h,H,rfl,a⟩;exact⟨bp h (N.lay.atl.mpr H),ae (N.atr J H) a⟩}
theorem aec{I:Type} [BEq I] [aCz I]:∀(n:Nat)(l:ba),eb<=n->l.eraseDups.Nodup|0,l,h=>ai|n+1,[],h=>aT|n+1,a::l,h=>by rw[List.eraseDups_cons];refine a3c (l2 (aec n _ cq));rw[V6];simp
theorem aRv(r:Plan):r.outlines.Nodup:=cG wG (a3d _ (aec _ (B (ways r) bbz) aY))
theorem Net.among(N:ka){t:Nat}{z:Pt}(T:ot)(h:Fx){A B:Row}(C:Z1){g:Ln}(G:dQ g)(d8:kT=iR hl):a_C:=by delta aCA;rw[aJ h];have c6:=HU C;cases W:r.outlines.find? (cs (ah_ r l z))with|none=>{rw[a3f]at W;exact cy (ae (N.inside T h C G ag) d8.symm) (W _ (ae (aeb N J) (ce g G ag)))}|some l=>have p:=List.find?_some W;obtain⟨x,X,rfl,R⟩:=x (aeb N J) (a3e W);have:=x (N.inside T h C X R) p;rw[ae (N.SX J X G) ag]
theorem Net.count(N:ka)(J:og):Np=t (dC ame bfm):=by have Y:=Nn;rw[eh (pe Y aL aY)];have ex:e7 (∃h,aHK->rQ/\aHR=x):=ab (by by_cases q:aHK;{rw[aO h H (asX Y J ah8 (x:=x) q)];exact⟨h,as ⟨H,e⟩⟩};rw[l ⟨(0,0),J (cy z q)⟩]);let d:df Ln:=ab (agQ (ex x));have c0:=fun x q=>aA6 (ex x) q;have g:E x aHK (wA (d x)=iR x):=fun x q=>by{show iR (sd (XQ).side (d x))=_;rw[(c0 x q).2]};have p:r.outlines.Perm (gG (dC ame bfm) (Gp r (d x))):=by{rw[HF (aRv r) ?_]at⊢;{rw[rL];rw[aeb N J];simp only[fK,Nm,aCB,iW];constructor;{rintro⟨h,H,rfl,c6⟩;have f:aHR<ame:=(Dk Y H);have o:=M9 _ f;rw[cc (I.K5 _ f),ab e oh (iR aHR)];rw[<-e]at o c;rw[aa oh (v o c c6) (ae (N.SX J (c0 _ o).1 H) cq)]};grind-abstractProof};{rw[J2,h8 (List.nodup_range.filter _),rk e];simp only[Nm,aCB,iW]at b3 U;have:=x (N.SX J (c0 a b3.1).1 (c0 b U.1).1) e;rw[g a b3.1,g b U.1,b3.2.1,U.2.1]at this;exact ne this}};rw[p.length_eq,bA]
theorem Net.follows(N:ka)(J:og){h:Ln}(H:rQ){i j:Nat}(b:dQ (i,j)):bD (follows uP i j) (wA (i,j)=oh):=by rw[lQ A H];delta Gla.follows;rw[dR ((uP).zip (dh uP 1++an uP 1)) (yN uP),R];simp[*]
universe GM
namespace GM
inductive Gq(par:gs)(a:Nat):me|refl:a1 a a|step{b c:Nat}:par b=aa c->a1 a c->Pq
theorem Gq.trans{par:gs}{a b c:Nat}(h:Pq)(g:a1 b c):a1 a c:=by induction g with|refl=>{exact h}|step e _ d6=>exact .step e d6
structure DInv(a5:mc)(B:ao)(par:gs)(c:cD)(path:ao):Prop where
 nd:B.Nodup
 head:a_B
 yO:par 0=ae
 BY:a'M
 vj:bhd
 bjw:aL dI nB
 chain:aL dI (E t (a3g=aa t) (a1 x t))
 S0:e7 (c x<=Y3)
 seen:aL B (∀(j:Nat)(y:Nat),j<c x->aa (a5 x) y->y∈B)
 S1:E x (x∉B) (c x=0)
 fin:aL B (x∉dI->c x=Y3)
 BZ:beB
 S2:∀(p q:ao),dI=p++q->p≠[]->aL p (E t (p.getLast?=aa t) (a1 x t))
variable{a5:mc}{B:ao}{par:gs}{c:cD}{path:ao}
theorem aRw(a5:mc):ah' a5 [0] uB nq [0]:=by rw[b ax rfl rfl rz ?_ ax ?_ aT (a bL rz ?_ ?_ ?_)];{rw[ZA]};{intro x S t c6;simp at S c6;subst S;subst c6;exact .refl};{(intros;trivial)};{rw[ZA]};{intro p q e c2 x S t c6;cases p with|nil=>{trivial}|cons y p=>simp at e;rw[cl rfl e];have:p=[]:=e.1;rw[gq];simp at S c6;subst S;subst c6;exact .refl}
theorem DInv.pop(D:q4 dI){p:ao}{t:Nat}(e:dI=p++[t])(h:c t=t (a5 t)):q4 p:=by rw[b D.nd V8 D.yO D.BY D.vj (aL (Nq x ag)) ?_ D.S0 (a aia D.S1 ?_ D.BZ ?_)];{intro x S t' c6;exact D.S2 p [t] e cq x S t' c6};{intro x S d1;rw[iS t,l IV,l (V7 x S ag)]};{intro u c4 d3 a3 x S t' c6;exact D.S2 u (c4++[t]) ag a3 x S t' c6}
noncomputable def bump(c:cD)(t:Nat):cD:=ab (v x t (c x+1) (c x))
theorem DInv.old(D:q4 dI){t y:Nat}(L:t∈dI)(h:bbw)(b6:y∈B):ah' a5 B par (Dv c t) dI:=by rw[b D.nd V8 D.yO D.BY D.vj Nq aCC ?_ (a ?_ ?_ ?_ D.BZ D.S2)];{intro x;delta Dv;split;rw[dX,l (D.S0 x)]};{intro x S j z b8 c9;rw[aG_];split at b8;{next q=>rw[N d j (c x),ay,l (u0 (iT d))]};rw[l (u0 b8)]};{rw[Bs,tb (S (q▸Nq t L))];delta Dv;rw[tX];exact D.S1 x S};{intro x S d1;rw[tb (d1 (q▸L))];delta Dv;rw[tX];exact V7 x S d1}
noncomputable def Lj(par:gs)(y t:Nat):gs:=ab (aw (x=y) t (par x))
theorem Gq.keep{y t:Nat}(b6:par y=ae){a b:Nat}(h:Pq):Gq aLs a b:=by induction h with|refl=>{exact .refl}|step e _ d6=>refine .step ?_ d6;delta Lj;split;rw[ay,l e]
theorem DInv.new(D:q4 dI)(sym:apn){t y:Nat}(last:a3g=aa t)(h:bbw)(b6:y∉B):ah' a5 (eM B) aLs (Dv c t) (eM dI):=by have L:=a3h Dx;have C:=Nq t L;have r:=D.BY y b6;have b1:=aib (dd V8);have k3:y≠0:=ah (b6 (q▸b1));have ix:ev B (hm (eM B) a=dw a):=fun a b3=>cq;have i:t≠y:=ah (b6 (q▸C));have g:Gq aLs t y:= .step (x cO) .refl;rw[Cr (a ?_ ?_ ?_ ?_ ?_)];{rw[ah0];rw[aa D.nd aT (fun a b3 b U=>?_)];simp at U;grind-abstractProof};{cases B with|nil=>{simp_all}|cons a J=>simpa using V8};{delta Lj;simp[hx k3];exact D.yO};{intro b U;simp at U;delta Lj;simp[U.2];exact D.BY b U.1};{intro b U n;simp at U;rcases U with U|rfl;{rw[y e v w l (D.vj b U n)];have:b≠y:=ah (b6 (q▸U));rw[aP a (bx Lj this e) (x (vU _ bF)) w];simp[*]};{rw[aP t (x cO) (x (vU _ bF)) (bM h)];grind-abstractProof}};{rw[Bs];simp at S⊢;rw[f5 S S,dR (Nq x S),co bF]};{intro x S t' c6;simp at c6;subst c6;rw[P0,f5 S rfl,bfX,l .refl]};{intro x;delta Dv;split;rw[cL,l (D.S0 x)]};{intro x S j z b8 c9;simp at S⊢;rw[f5 S rfl];{rw[aG_];split at b8;{next q=>rw[N d j (c x),ay,dR (u0 (iT d))]};rw[dR (u0 b8)]};{rw[aG_];simp[hx i]at b8;rw[D.S1 _ b6]at b8;simp_all}};{rw[Bs,P0,tb (S.1 (q▸C))];delta Dv;rw[tX];exact D.S1 x S.1};{intro x S d1;simp at S d1;rw[f5 S S];{rw[tb (d1.1 (q▸L))];delta Dv;rw[tX];exact V7 x S d1.1};grind-abstractProof};{intro a b3 b U l w;simp at b3 U;rcases U with U|rfl;{rw[bav];{rw[ix a b3,ix b U]at l;exact(D.BZ a b3 b U l w).keep r};grind-abstractProof};{rw[bav];{by_cases q:a∈dI;rw[l (L ((aCC a q t Dx).keep r) g)];{exfalso;rw[fI (V7 a b3 q),aO j b8 (ig w)];exact b6 (aia a b3 j b ag ag)}};{rw[Fm]}}};{intro p q e c2 x S t' c6;rw[N d7 q []];{subst d7;simp at e;rw[b_];simp at c6;subst c6;rw[P0,f5 S rfl,bfX,l .refl]};{obtain⟨c4,z,rfl⟩:∃c4 z,q=c4++[z]:=v q.dropLast (q.getLast d7) (bt (List.dropLast_concat_getLast d7));rw[py dv];have:=List.append_inj_left' e rfl;exact(D.S2 p c4 this c2 x S t' c6).keep r}}
universe GM
namespace GM
structure Tree(a5:mc)(B:ao)(par:gs):Prop where
 sym:apn
 nd:B.Nodup
 head:a_B
 yO:par 0=ae
 BY:a'M
 vj:bhd
 Lk:aL B (dw (a5 x) (y∈B))
 BZ:beB
variable{a5:mc}{B:ao}{par:gs}{c:cD}
theorem DInv.tree(D:q4 [])(sym:apn):jm:=a sym D.nd V8 D.yO D.BY D.vj (fun x S y b6=>by rw[fI (V7 x S jN),aO j b8 (ig b6)];exact aia x S j y ag ag) D.BZ
theorem Tree.zero(T:jm):0∈B:=aib (dd T.head)
theorem Tree.reach(T:jm){P:me}(f:P 0)(e9:f a b I5 OH (P a) (P b)):aL B (P x):=by have:l k x nB apj (P x):=by{intro k;induction k with|zero=>{rw[b1 x _];simp_all}|succ k d6=>rw[b1 x S,iS 0,a_];{have⟨a,_,v,w,l⟩:=aJl;grind-abstractProof}};rw[Bs];exact bbS
theorem Tree.aed(T:jm){b c:Nat}(h:par b=aa c):D (b∈B) (b≠0) (c∈B) (b∈a5 c) (dw c<dw b):=by have U:=qN (ah (by rw[aj (T.BY b q),cH]));have b1:b≠0:=ah (by rw[q,T.yO]at h;rw[cH]);have⟨a,e,v,w,l⟩:=T.vj b U b1;rw[a6 h];simp_all
theorem Tree.S3(T:jm){a b:Nat}(h:Pq):dw a<=dw b:=by induction h with|refl=>{exact aY}|step e _ d6=>rw[ia (a2 (aic e)) (ey (ff d6 this))]
theorem Tree.inj(T:jm){a b:Nat}(b3:I5)(U:b∈B)(h:dw a=dw b):a=b:=by rw[g2 (aid (xs:=B) (x:=b) (wH U))];grind-abstractProof
theorem atv{a b x:Nat}(h:a1 a x)(g:a1 b x):Pq\/a1 b a:=by induction h with|refl=>{rw[pc g]}|step e h d6=>cases g with|refl=>{rw[m1 (.step e h)]}|step d3 g'=>simp_all
theorem Tree.root(T:jm):aL B (a1 0 x):=by have:l k x nB apj (a1 0 x):=by{intro k;induction k with|zero=>{rw[b1 x _];simp_all}|succ k d6=>rw[b1 x S,iS 0,Z q .refl];{have⟨a,e,v,w,l⟩:=aJl;exact .step e (d6 a v (bn l h))}};rw[Bs];exact bbS
theorem aee{a c u:Nat}(h:a1 a c)(e:Qm)(ne:a≠c):a1 a u:=by cases h with|refl=>{trivial}|step d3 h'=>simp_all
structure B_(a5:mc)(B:ao)(par:gs)(Z:cD):Prop where
 a:ly (Z v<=nz)
 b:oE (par w≠pJ) (dw w)
 c:oE aHA (Z w)
 d:ly (Z v=nz\/(gD (a5 v) (par w≠pJ/\dw w=Z v))\/(gD (a5 v) (aHA/\Z w=Z v)))
variable{Z:cD}
theorem B_.anc(W:Z7)(T:jm){v x:Nat}(h:a1 v x):Z v<=Z x:=by induction h with|refl=>{exact aY}|step e _ d6=>rw[lG e];have:=W.c _ (aS m) _ (aS m.2) e;exact pU
theorem B_.le(W:Z7)(T:jm){v x w:Nat}(h:a1 v x)(S:nB)(hw:w∈a5 x):Z v<=dw w:=by have a3:=W.anc T h;by_cases q:dO w x;rw[mE (W.a x S) (a2 (aic q)),cc (W.b x S w hw q) pU]
theorem B_.att(W:Z7)(T:jm){v:Nat}(d3:v∈B):bft:=by have:l k v (v∈B) (eC-nz<k) bft:=by{intro k;induction k with|zero=>{rw[b1 v _];simp_all}|succ k d6=>rw[b1 v d3];rcases W.d v d3 with q|⟨w,g,_,e⟩|⟨w,g,C,e⟩;rw[l (d v .refl d3 (.inl q)),l (d v .refl d3 (.inr (v w g e)))];{rw[lG C];have N:=wH m.1;obtain⟨x,a,b,S⟩:=d6 w m.1 (x (uW (aI eC (List.idxOf w B) N) (aS eC (List.idxOf v B)) h (a2 m)));rw[b2 x (L (Gq.step C .refl) a) b];rcases S with S|⟨z,a0,c1⟩;rw[i5 (W.le T (v:=w) (x:=w) (w:=v) .refl m.1 (V9 _ _ g))];grind-abstractProof}};exact this _ v d3 jX
theorem Tree.aRz(T:jm)(W:Z7){u c:Nat}(D:Qm)(h:dw u<=Z c)(f:u≠0):oQ (¬a1 c a) (¬a1 c b):=by intro a b v w d j b0 d1;rw[lG D];have bo:=Nr a v b w;rw[u2 (ah (w8 (V_ v bo q)))];{rcases atv bhj d1 with k9|R;{have le:=W.le T d1 bo (V9 _ _ w);have:=T.S3 (aee k9 D (ah (b0 (q▸.refl))));exact d (V_ v (aS m) (gE EB (cf h le)))};rw[cX]};rw[cc bhk (b0 (d1.trans this))]
theorem Tree.atw(T:jm){c u:Nat}(D:Qm):¬a1 c 0:=by rw[eE];cases h with|refl=>{rw[zD T.yO]}|step e _=>rw[a6 T.yO,dU]
theorem Tree.aRA(T:jm)(W:Z7){u:Nat}(f:u≠0)(h:E c Qm (Z c<dw u)){Q:me}(N:Q 0)(e9:oQ (Q a) (Q b)):aL B (x≠u->Q x):=by rw[Li (z≠u)];have:f k x nB apj (x≠u) (Q x):=by{intro k;induction k with|zero=>{rw[b1 x _];simp_all}|succ k d6=>intro x S c3 o;rw[iS 0,a_];{have⟨p,e,po,A,l⟩:=aJl;rw[N a9 p u];{subst a9;have lo:=h x e;have⟨y,j,I,b6⟩:=W.att T S;rw[fd hw (gD (a5 y) (dw w=Z x))];have⟨w,g,n⟩:=hw;have d:=Nr y I w g;have r:w≠p:=ah cq;have below:C5 (z≠p):=fun z s _ q=>by{have:=T.S3 s;rw[e_];exact gy this l};have i:=e9 w y d (V9 _ _ g) r (tj y j I) (d6 w d (x (uW n.l lo l c3)) r);grind-abstractProof};grind-abstractProof}};intro x S o;exact this _ x S jX o
theorem Tree.aRB(T:jm){c:Nat}(D:Yb):oP (a1 c a) (a1 c b):=by intro a b v w y n R;have bo:=Nr a v b w;rw[b2 (dw a) (dw b)];{have:=V_ v bo e;rw[gq];exact R};{rw[u2 e,l (wI bhj)];{rcases atv bhk R with f|d1;{rw[T b c,ay];{have:=aee f D q;have le:=T.S3 this;have:=V_ bo T.zero (by have z:dw 0=0:=by{cases B with|nil=>{rfl}|cons a J=>have:=T.head;simp_all};simp_all);exact cy this n}};rw[a_]}}
set_option tactic.hygienic true in theorem Tree.child(T:jm){x:Nat}(S:nB)(R:x≠0):z c Yb (a1 c x):=by have h:=T.root x S;have O:o y (a1 0 y) (y≠0) (z c Yb (a1 c y)):=by{rw[dt y];induction h with|refl=>{simp}|step e h' d6=>rename_i b c;intro _;rw[T c 0];{rw[e_];exact v b e .refl};{obtain⟨d,d3,ad⟩:=d6 q;exact v d d3 (.step e ad)}};exact O x h R
theorem Tree.other(T:jm){c d:Nat}(D:Yb)(d3:dO d 0)(ne:c≠d):¬a1 c d:=by rw[eE];have:=aee h d3 ne;have le:=T.S3 this;rw[lG D];exact gy le (a2 m)
theorem Tree.aRC(T:jm){c s:Nat}(one:E d (dO d 0) (d=c))(d8:s∈B)(s0:s≠0){Q:me}(v:Q s)(e9:oP (Q a) (Q b)):aL B (x≠0->Q x):=by have⟨C,g,n⟩:=aCD d8 s0;have:=one C g;rw[Li (z≠0)];have X:=G C s n d8 (fun z j _ q=>by rw[e_];exact T.atw g j) v;have:f k x nB apj (x≠0) (Q x):=by{intro k;induction k with|zero=>{rw[b1 x _];simp_all}|succ k d6=>intro x S c3 R;have⟨p,e,po,A,l⟩:=T.vj x S R;rw[d9 f p,ay];grind-abstractProof};intro x S R;exact this _ x S jX R
universe GM
namespace GM
open Gla
noncomputable def yP(a:EU):Nat:=t (a.filter (· ==ah))
theorem atx:∀{l:EU}{j:Nat},aa l ah->yP (Wa j ab)+1=yP l|[],j,h=>bB|b::l,0,h=>by{rw[ma];subst h;rfl}|b::l,j+1,h=>by rw[ma,dB (atx h)];unfold yP at d6⊢;simp only[List.set_cons_succ];grind-abstractProof
abbrev Bst:=ao×PQ
noncomputable def Ca(a:Bst)(j:Nat):Bst:=bcX
theorem Gr{a:PQ}{j x:Nat}(h:a.getD j ab=ah):am (a.setIfInBounds j ab) x ab=v x j ab (a.getD x ab):=by rw[fd j4 (j<a.size),iS j,ay];{simp only[q,iV];simp only[Wb,Array.size_setIfInBounds];split;{next l=>exact Array.getElem_setIfInBounds_ne l (hx q)};{rfl}}
theorem aty:∀(l:ao)(a:Bst),((ZJ).2.size=a.2.size)/\(e7 (bD ((ZJ).2.getD x ab) (sw x=ab\/x∈l)))/\(e7 (x∈(ZJ).1↔x∈a.1\/(x∈l/\sw x=ah)))/\((ZJ).1.length+yP (ZJ).2.toList=a.1.length+yP a.2.toList)|[],a=>aT|j::l,a=>by rw[YT,vc (aty l (Ca a j))];cases U:sw j with|true=>{have e:Ca a j=a:=by{delta Ca;exact kS};rw[fU]}|false=>have e:Ca a j=a7Y:=by{delta Ca;simp[U]};rw[dE j4 (j<a.2.size)];rw[e]at a3 a9 e2 e5⊢;rw[b2 ag Jj Jj,IK (a9 x),IK (e2 x)];{rw[e5];simp only[ie,Array.toList_setIfInBounds];have:aa a.2.toList ah:=ai;have:=atx this;simp+arith [*]}
structure SInv(a5:mc)(n:Nat)(first:me)(P:me)(i:ao)(seen:PQ):Prop where
 size:seen.size=n
 atz:aL i (P x/\x<n)
 base:E j (zF j) (p1 j)
 sound:o j (j<n) (p1 j) (zF j\/P j)
 Lk:o x (x<n) (p1 x) (zF x\/x∈i\/dw (a5 x) (p1 y))
theorem atA{d:fv ao}{n:Nat}{first P:me}(d1:a9H)(C:Gc (¬zF b)):∀(r:Nat)(i:ao)(seen:PQ),fM zF i Nt->i.length+yP seen.toList<=r->fM zF [] (aif d r i Nt)/\E x (p1 x) (am (aif d r i Nt) x ab=ab)|0,i,seen,I,h=>by{have:i=[]:=a3j ai;rw[gq];exact⟨I,fun _ h=>h⟩}|r+1,[],seen,I,h=>by{simp only[aif];simp_all}|r+1,k::J,seen,I,h=>by simp only[aif];rw[ab e ((Nu k []).foldl (fun(a:bK Nat×fv cb)(j:Nat)=>bcX) (J,Nt)) a9X];rw[e];rw[vc (aty (Nu k []) (J,Nt))];generalize a9X=z at*;simp only at a3 a9 e2 e5;rw[cd (I.atz k bJ),ma];obtain⟨r1,r2⟩:=atA d1 C r z.1 z.2 (by rw[j (t a3 Wc) qr (i8 (ae (a9 j) (.inl (aie j b8)))) (fun j b8 c0=>?_) (fun x S c0=>?_)];{rcases x (e2 x) S with q|⟨q,g⟩;rw[l (I.atz x rB)];{rw[v (C k x l.2 l.1 q (fun f=>?_)) (d1 k x q)];rw[aie x f]at g;rw[ub]}};{rw[al (x (a9 j) c0),l (I.sound j b8 q)];by_cases f:zF j;rw[dR f,co (C k j l.2 l.1 q f)]};{rw[bC q (a3i x ab)];{rcases I.Lk x S q with c|c|c;rw[Fq];{rw[en]};simp_all};simp_all}) (bn e5.l h);simp_all
theorem aRD(l:EU):yP l<=eb:=AW
theorem aRE{d:fv ao}{n i:Nat}{first:PQ}{P:me}(hi:i<n)(c0:first.size=n)(d1:a9H)(C:Gc (¬aCF b ab=ab))(f:P i)(c:aCF i ab=ah):fM (iX (aCF j ab=ab)) [] (aih d n i zF)/\am (aih d n i zF) i ab=ab:=by have:=atA d1 C (n+1) [i] (aCE i ab) (by rw[j (ar c0) qr Rr a9B (fun x S h=>?_),ay];{rw[Gr c];simp[b8]};{rw[aj (Gr c)];lia-abstractProof};{rw[aj (Gr c),en]}) (by have:yP (pB (aCE i ab))<=(aCE i ab).toList.length:=aRD _;rw[en]);rw[v eu (this.2 i ?_),J (Gr c) cO]
variable{r:Plan}
theorem Ll(r:Plan)(x:Nat):r.nears.getD x []=if x<aL then ik x else []:=by delta aCG;simp only[Wb];split;rw[baI,Pp]
theorem Lm(n x:Nat):am (Dy n) x ab=! cv (x<n):=by delta Dy;simp only[Wb];split;rw[baI];simp_all
theorem atB(d1:aI')(b1:0<aL){P:me}(f:P 0)(C:f a b (a<aL) (P a) amD (P b)):let z:=XX;Wd=aL/\g3 0/\(o j oo (g3 j) (P j))/\o x (x<aL) (g3 x) a'l:=by rw[tP,s 0 (Dy aL) b1 (by rw[Ll]at b6;grind) (fun a b b3 u U _=>C a b b3 u (by rw[Ll]at U;simpa[b3]using U)) f (mv Lm b1),w I.1.size I.2 a9B (fun x S h y b6=>?_)];{rw[bfn];{rw[cQ Lm];simp at q;lia};rw[iB]};{rcases I.1.Lk x S h with q|q|q;{rw[cQ Lm];simp at q;omega};rw[ay,l be6]}
theorem atD(d1:aI'){i s:Nat}(hi:g_)(c0:s<aL)(ne:s≠i){P:me}(f:P s)(C:∀a b,c (a<aL) (P a) amD (b≠i) (P b)):let z:=it s ZN;Wd=aL/\g3 s/\(∀j,i oo (j≠i) (g3 j) (P j))/\(e7 (i (x<aL) (x≠i) (g3 x) a'l))/\g3 i:=by rw[tP];have k:E x (x<aL) (am ZN x ab=ar x i):=aL (by rw[Gr (mv Lm hi),Lm];simp[*]);rw[s s ZN c0 (by rw[Ll]at b6;grind-abstractProof) (fun a b b3 u U w=>by have j6:amD:=by{rw[Ll]at U;simpa[b3]using U};grind-abstractProof) f ag,j I.1.size I.2 (fun j b8 d h=>?_) (fun x S c h y b6=>?_) (I.1.base i ag)];{rw[bfn,ay,iB]};{rcases I.1.Lk x S h with q|q|q;rw[ay,ay,l be6]}
theorem atE{z:PQ}{n:Nat}(h:Wd=n):bD (z.contains ah) (z j (j<n) (aii j ab=ah)):=by rw[Array.contains_iff_mem,Array.mem_iff_getElem];constructor;{rw[iM i hi];exact v i (bV hi h.l) (bx Wb hi e)};{rw[ao5,co j4 (j<Wd)];exact v j j4 ai}
universe GM
namespace GM
open Gla
structure UF(f:ao)(cnt:Nat)(aP:cD):Prop where
 len:Dz=cnt
 le:BK (l<=x)
 same:aP x l (alh->aP l=kQ)
 root:BK (l=x↔kQ=x)
variable{f:ao}{cnt:Nat}{aP:cD}
theorem UF.get(d:FG){x:Nat}(h:I4):z l alh (l<=x):=by rw[z S (x<Dz) qY h];exact aw (da S) (Nv x _ (da S))
theorem aRF:UF [0] 1 id:=by rw[b2 rfl ?_ ?_]<;>rw[b1 x l]<;>(cases x<;>rw[ma])<;>subst h<;>simp
theorem atG{l:ao}{x m:Nat}(a5:x<eb)(y k:Nat)(h:ap (Wa x m) y k):(y=x/\k=m)\/(QI/\K l y k):=by rw[b2 y x];{rw[b_,aj (MA a5)];exact .inl (bd (bt (cZ h)))};rw[gR (Ve (hx e)) (.inr (ix e))]
theorem UF.aRG(d:FG){x l m:Nat}(a5:alh)(c4:K f l m)(ne:l≠x):UF (Nw x m) cnt aP:=by have a:=Nv x l a5;have le2:=Nv l m c4;have O:fX (Nw x m) (y=x/\k=m) QI:=atG (bx a5);rw[aMw,D4 pU];{rw[YE];{rw[HS l k c4,HS y l a5]};rw[l aK9]};{rw[YE];{have:=(We y l a5);rw[fU]};rw[l aK_]}
theorem UF.found(d:FG){x:Nat}(h:K f x x):kQ=x:=x (We x x h) rfl
theorem UF.Lo(d:FG):∀{x:Nat},I4->kQ<=x/\K f kQ kQ:=by intro x;induction x using Nat.strongRecOn with|ind x d6=>rw[eE];obtain⟨l,a5,le⟩:=aij h;rw[T l x];{rw[e_];rw[Wf a5];trivial};{have:=d6 l (cz le q) aKv;rw[am (HS x l a5)];lia-abstractProof}
theorem UF.K5(d:FG){x:Nat}(h:I4):aP kQ=kQ:=Wf (d.Lo h).2
theorem UF.link(d:FG){a b:Nat}(b3:a<cnt)(U:b<cnt):UF (Nw FJ aaj) cnt (s_ aP a b):=by have F:=d.Lo b3;have i5:=d.Lo U;rw[mt c (K f FJ FJ),c7 (Wf c)];generalize g:FJ=d5 at*;generalize c4:aaj=m at*;have O:fX (Nw d5 m) (y=d5/\k=m) (y≠d5):=atG (bx c);have mg:∀x,ox x=v kQ d5 m kQ:=ab (by delta s_;rw[g,c4]);rw[aMw];{rw[YE,Jt,l aGL]};{rw[mg,mg];rw[YE];{rw[e,(Wf fp)];simp};{rw[aK9]}};{rw[mg];rw[aMM,a_];{have J:=aK_;lia-abstractProof}}
theorem UF.new(d:FG):UF aas (cnt+1) apb:=by have O:fX aas (y=cnt/\k=cnt) (y<cnt):=by{rw[b1 y k];by_cases q:y<Dz;rw[gR (hD q) (.inr (ix (bl qY q)))];{rw[aj (pj (j9 q))];have:y-Dz=0:=bz;rw[aj this,ma];left;have:=qY;grind}};rw[aMw,D4 aY];{rw[aMM];{rfl};{have:=aGL;rw[aO kl k cnt Rj,i9 q kl];exact aK9}};{rw[aMM];{simp};{rw[aIM];exact aK_}}
variable{r:Plan}
theorem atJ{al f:Int}{a b c:gz}(b3:0<cR a)(U:0<cR b)(b0:0<cR c)(a3:cr a b<0)(a9:cr b c<0):cr a c<0:=by have id:=as2 al f a b c;have e9:=Dn a3 b0;have f6:=Dn a9 b3;rw[f3 (vh a c),pt an9 b];have:0<an9:=by{rw[al (mR 0 an9),l q,i5 (VU q (eW U))]};simp_all
theorem aeg(Z:bq){v a:Nat}(h:JN):0<kd 1 (r.w+1) (d5 a):=by rw[cd (gb _ h)];rw[ad7];have:=Dm l.1 l.2;simp_all
theorem aRH(Z:bq){v a b:Nat}(b3:JN)(U:uG)(ne:AS):aoD≠0:=by rw[fT];have F:=gb _ b3;have i5:=gb _ U;have O:∀{a b:Nat},c JN uG (a<b) (aoD=0) cE:=by{intro a b b3 U l q;have F:=gb _ b3;have o:=La (wC F.1 F.2) (wC l (gb _ U).2) (by rw[yM,vh,q];rfl);rw[Z.on _ U a F.2 bz bz]at o;cases o};rw[u2 ne,ay,l (O U b3 l (by rw[vh,q];rfl))]
theorem aRI(Z:bq){v a b:Nat}(b3:JN)(U:uG)(h:O5):bbn:=by have Y:=hJ;refine aQE Y b3 U rfl ?_;rw[aKY];{have e2:Rk=a:=by{rw[Jg];simp;exact kS};rw[e2];rw[(wz _ b3)];refine(aKO).mpr ?_;show 0<akU;rw[yM,vh];simp[*]};{rw[fK Rk b o_];rw[e2];rw[(wz _ U)];refine(aKP).mpr ?_;rw[J yM h]}
noncomputable def S4(r:Plan)(v:Nat)(row:ao)(a:Nat):ao:=let n:=t (Wh Bo);aik n++a::Wg n
noncomputable def aeh(r:Plan)(v:Nat)(c:ao):ao:=A4 []
theorem aRJ(v:Nat)(row:ao)(a:Nat):eQ aMp (a::row):=by delta S4;simp only;generalize t (Wh Bo)=n;have:(aik n++a::Wg n).Perm (a::(aik n++Wg n)):=aCH;rwa [DA]at this
theorem aRK(Z:bq){v a:Nat}{row:ao}(a6:bG row uG)(b3:JN)(b0:a∉row)(dP:aJN):gV aMp O5:=by delta S4;simp only;have b4:=zG (p:=Bo) (l:=row);generalize hA:(Wh Bo)=A at*;generalize hB:(aio Bo)=B at*;have t:aik ij=A:=by{rw[<-b4];exact ain};have d:Wg ij=B:=by{rw[<-b4];exact aim};rw[t,d];rw[<-b4,qW]at dP;have g:bG A (cr (d5 b) (d5 a)<0):=by{intro b U;rw[<-hA]at U;have:=Wi (a3k (p:=Bo) (l:=row)) b U;rw[uu,am yM];exact this};have h:bG B O5:=by{cases e:B with|nil=>{rw[Yq]}|cons c n=>have u:¬eV ef (bp c) rq<0:=by{have:=ail Bo row;rw[bY hB e,gj]};have k5:c∈row:=by{rw[<-b4,e];exact qP _ fx};rw[fI (aRH Z (a6 c k5) b3 (ah (b0 (q▸k5))))];rw[yM]at u;rw[z k9 (cr (d5 a) (d5 c)<0) vh (Int.neg_neg_of_pos (Int.lt_iff_le_and_ne.mpr ⟨agP u,hx f⟩))];intro b U;simp at U;rw[de U U,a_];{rw[hz dP.2.1];rw[e,pf]at b5;exact atJ (aeg Z b3) (k7 c k5) (k7 b bz) k9 (b5.1 b U)}};grind
theorem aei(Z:bq){v:Nat}:∀(c row:ao),c (V b row uG) (V b c uG) (row++c).Nodup (aJN) (eQ (A4 row) (row++c)/\gV (A4 row) O5)|[],row,_,_,_,s=>ET|a::c,row,a6,c6,nd,s=>by rw[YT];have p:=aRJ (r:=r) v row a;rw[dB (aei Z c aMp (dc cq) (dc (c6 b rB)) cq (aRK Z a6 (c6 a bJ) (ah cq) s))];grind-abstractProof
universe GM
namespace GM
open Gla
variable{r:Plan}
theorem aRL(Z:bq):eV amD (a∈ik b):=fun a b h=>ae (vi Z) (aJs).rv
theorem Lp(Z:bq):aI':=fun x y h=>(aJs).BQ hJ
theorem aej(Z:bq):e7 (dw (ik x) (x<aL)):=fun x y h=>(aJs).yI hJ
variable{B:ao}{par:gs}{lo:cD}
theorem aRM(Z:bq)(b1:0<aL)(T:aCI ik B par){i:Nat}(hi:g_):bD (am XX i ah) (i∈B):=by have s:=atB (r:=r) (Lp Z) b1 (P:=ab nB) T.zero (fun a b _ b3 U=>Nr a b3 b U);rw[P1];generalize XX=z at*;have e:aii i ah=aii i ab:=by{simp[*]};rw[e];constructor;rw[ay];{intro c4;have:=T.reach (P:=ab (x<aL->g3 x)) (as s.2.1) (fun a b _ U b3 _=>s.2.2.2 a (aej Z a b U) (b3 (aej Z a b U)) b U) i c4;exact this hi}
theorem aRN(Z:bq)(a3:1<aL)(T:aCI ik B par)(W:B_ ik B par lo)(all:im (i∈B))(lt:∀i∈B,g_){i:Nat}(hi:g_):bD (Wj Wk aL i) bhv:=by delta Wj;have c0:a9f<aL:=by{(split<;>exact cn tF a3)};have ne:a9f≠i:=by{lia};rw[h7 (ey (as gD) fZ (jo fZ)).1];rw[atE e8];rw[d9 o i];{subst o;rw[cO]at c0 ne e8⊢;constructor;{rw[ao5];refine .inl (bd aHJ);obtain⟨c,D,_⟩:=aCD aoE eO;rw[bea,P1];generalize mz 1 0=z at*;have:=T.aRC (fun d d3=>qN (ah (f6 (a d c d3 D q)))) aoE eO (Q:=ab (g3 x)) s.2.1 biD j (all j b8) Ql;rw[amF,dU]};{rintro(⟨_,c,d,D,d3,R⟩|⟨q,_⟩);{rw[bI l t (aCD aoE eO)];obtain⟨g,pg,k⟩:z g (dO g 0) (f≠g):=bz;have s:=ey (ab (nB/\x≠0/\a1 f x)) (v aoE eO t) (fun a b _ u U n=>v (Nr a u.1 b U) n (T.aRB l a b u.1 U u.2.1 n u.2.2));rw[P1,lG pg,ak g (lt g m.1)];cases e:am (mz 1 0) g ab with|false=>{rfl}|true=>rw[dT (s.2.2.1 g (lt g m.1) Au e).2.2 (T.other l pg k)]};rw[cX]}};{rw[bj o]at c0 ne e8⊢;constructor;{rw[ao5];refine e4 o aHJ;rw[bea,P1];generalize it 0 ZN=z at*;have:=T.aRA W o (fun c D=>ai) (Q:=ab (g3 x)) s.2.1 biD j (all j b8) Ql;rw[amF,dU]};{rintro(⟨q,_⟩|⟨_,c,D,h⟩);rw[cX];{have s:=ey (ab (nB/\x≠i/\¬a1 c x)) (v T.zero (ah (o zD)) (T.atw D)) (fun a b _ u U p=>v (Nr a u.1 b U) p (T.aRz W D h o a b u.1 U u.2.1 p u.2.2));rw[P1,lG D,ak c (lt c m.1)];cases e:am (it 0 ZN) c ab with|false=>{rfl}|true=>refine cy .refl (s.2.2.1 c (lt c m.1) akT e).2.2;simp_all}}}
theorem atL(Z:bq)(n:Y0)(a3:1<aL)(d:alT)(l2:im (am XX i ah=ab))(m:im (Wj Wk aL i=ah)):ka:=by rw[aP Z n (fun P f e9 v d3=>?_) (fun v d3 P s c0 a0 c5 e9 x S f3=>?_)];{have s:=atB (r:=r) (Lp Z) dV (P:=P) f (fun a b _ u U=>e9 a b (x (vi Z) U) u);rw[P1];have g:v<aL:=d3;simp_all};{rw[f3 d3];let b:=cu v 1 0;have a5:b≠v:=by{rw[a9r]};have k:=m v g;unfold cuts at k;have reach:∀{Q:me},Q b->(∀a c,c (dQ (a,c)) (a≠v) (c≠v) (Q a) (Q c))->o y (y<aL) (y≠v) (Q y):=by{intro Q l X y b6 i2;have f9:=atD (r:=r) (Lp Z) g cq a5 (P:=fu (a≠v/\Q a)) ⟨a5,l⟩ (fun a c _ u b0 e=>⟨e,X a c (x (vi Z) b0) u.1 e u.2⟩);simp only at f9;have all:¬(z j oo (am (mz b v) j ab=ah)):=by{rw[<-atE f9.1];simp only[b];rw[k];simp};simp_all};exact reach (bv (reach (Q:=e9 (P y->P b)) (c_ h) (fun a c k9 t e d6 D=>d6 (e9 c a k9.rv e t D)) s c0 a0) (this c5)) e9 x S f3};{cases d1:ik 0 with|nil=>{grind-abstractProof}|cons y J=>rw[co o (y∈ik 0)];have H:=x (vi Z) o;rw[Kl,l (bp (0,y) H)];{have:=gb _ H;rw[hH rv]}}
universe GM
namespace GM
open Gla
variable{r:Plan}
structure Ord(r:Plan):Prop where
 dP:a21 (nS xP)
 wide:cA dd QB
 BV:a'4
 lt:a'w
 ls:r.lines.Pairwise (fs aoh)
theorem iI{p q:Pt}:bia:=ar ih
theorem my(p:Pt):¬ph p=ab:=nP iI
theorem vk{p q J:Pt}(h:xP)(g:Ng J=ab):ph J=ab:=by rw[iI]at*;exact FX h g
theorem S5{p q:Pt}(h:p≠q):ph q=ab\/Ng p=ab:=by rw[iI,iI];rw[N y p.y q.y];{have:p.x≠q.x:=ab (h (by cases p;rw[kK];simp_all));rw[kb]};{rw[kb]}
theorem Cb{a b:Ln}:bD (kD a b) (a.1<b.1\/(a.1=b.1/\a.2<b.2)):=ar kD
theorem Ord.nd(Y:dz):a20:=Y.ls.imp (ws (by rw[b_,aj Cb];simp_all))
theorem Ord.below(Y:dz){i j:Nat}(h:i<j)(b8:oo):qH (bp j):=DY (Nh Y.dP i j (b8 h b8) b8 h)
theorem Ord.inj(Y:dz){i j:Nat}(hi:g_)(b8:oo)(h:eH=bp j):i=j:=by rw[aMP,G4 b8,l l,G4 hi]
theorem Ord.lt_iff(Y:dz){i j:Nat}(hi:g_)(b8:oo):bD ((eH).below (bp j)) (i<j):=by constructor;{rw[eE,aMP,l l];{subst l;exact cy h (my _)};rw[cF (vk h (zH l hi)) (my _)]};{rw[eE];exact zH h b8}
theorem Ord.mx(Y:dz){i j:Nat}(h:i<j)(b8:oo):aK2:=GM.mx (or ES) (zH h b8)
noncomputable def h_(p q J:Pt):cb:=ph J&&(J.below q&&cv (i9 J=0))
theorem Gs{p q J:Pt}(h:xP):bD (h_ p q J) (q7 J/\J≠p/\J≠q):=by revert h;revert p q J;refine ap8;rw[co p q J,eE];delta h_;simp only[ib,iW];constructor;{rw[aLn,aa (La a3 a9 e2) Y5 Y5,sR (my _ a3),sR (my _ a9)]};{rw[aLn];delta wB at a3;simp only[ib,aCK,Nj,iW]at a3;obtain⟨u,⟨e7,f5⟩,i8,d6⟩:=a3;rw[aj iI];have r:p.y<=q.y:=by{lia};rw[qV r]at i8;rw[HE r]at d6;have d:∀{a b:Pt},AS->a.y=b.y->a.x≠b.x:=fun{a b}ne b6 S=>ne (by cases a;cases b;simp_all);delta eV dx dy at u;rw[bM eq (D5 J.x) (fM J.y p.y),bM c (bm J.x q.x*bm q.y p.y) (fM J.y q.y),gT f p.y (by rw[ae z (bm J.y p.y) 0,b4 aCJ eq];rcases aip eq with w|w;rw[l ((d a9) a bL),dX]),gT g q.y (by rw[ae z (bm J.y q.y) 0,b4 aCJ c];rcases aip c with w|w;rw[l ((d e2) a bL)];{lia}),cs ?_ u];{rw[iI];grind};{rw[iI];grind}}
theorem aRO{p q J s:Pt}{k:Pt->Int}(f:Ha (k z))(h:aMm=ab)(a3:k p<k q)(a9:k J<k s):k p<k s:=by refine aHI;rw[ak b c3 f,a4 zC,yx h,y_ h];have id:i9 s*k J-i9 J*k s=aIp*k q-aIq*k p:=by{rw[c3,c3,c3,c3];rw[ui];grind-abstractProof};have sm:i9 s-i9 J=aIp-aIq:=by{rw[ui];grind-abstractProof};generalize i9 s=A at*;generalize i9 J=B at*;generalize aIp=C at*;generalize aIq=D at*;generalize k p=kp at*;generalize k q=c at*;generalize k J=e at*;generalize k s=K at*;have b4:(A-B)*K-A*(K-e)=(C-D)*kp+C*(c-kp):=by{lia-abstractProof};rw[sm]at b4;have b9:aLP+C*(c-kp)+A*(K-e)=0:=by{lia-abstractProof};rw[bs A b3 b3 b3];{have U:0<B:=by{rw[al (mR 0 B),iB,i5 (aiq q (eW b3))]};have W:aLP<=0:=VU (Gv sm.n) ai;have d8:C*(c-kp)<0:=Dn (by rw[al (mR C 0),l q];{rw[b4 d (0<D) (aI4 sm.n q U b3)];have:=tc q (eW d);grind-abstractProof}) ag;have j:A*(K-e)<0:=Dn b3 ag;exact aG4 W b9.n j d8};rw[ay];{have U:B<0:=by{rw[al (mR B 0),iB,kx (tc q (eW b3))]};have W:0<=aLP:=tc (Gv sm.m) (x (r_ (aMt n)));have d8:0<C*(c-kp):=hI (by rw[al (mR 0 C),l q];{rw[b4 d (D<0) (aI4 sm.m q U b3)];have:=aiq q (eW d);lia-abstractProof}) ag;have j:0<A*(K-e):=hI b3 ag;exact aG4 b9.m j d8 W}
theorem aRP(r:Plan):Ha tS:=v (r.w+1) 1 (J (i4 ky))
noncomputable def Lq(r:Plan)(l m:Ln):cb:=(pG).below (bp m.2)&&aMn
theorem S6(Y:dz){l m:Ln}(a5:l∈bX)(c4:m∈bX):Lq r l m=aMn:=by delta Lq;cases h:aMn with|false=>{simp}|true=>have X:=Rm;have G:=ed m c4;have:=aRO (aRP r) h (Y.mx X.1 X.2) (Y.mx G.1 G.2);simp[(x (aQ7 (or ao4) (or G.2)) this)]
theorem atM(Y:dz){l:Ln}(a5:l∈bX):bD ((eK aL).any (cj (k !=l.1&&(k !=l.2&&wB pG rr (bp k))))) (∃p∈dd,h_ pG rr p=ab):=by have X:=Rm;rw[cb (zH X.1 X.2)];rw[tk];constructor;{rw[hv k c3];simp at c3 h;rw[aa (bp k) (yK c3) (ae (Gs b) (v h.2.2 (an (h.1 (Wl c3 ao4 e))) (an (h.2.1 (Wl c3 X.2 e)))))]};{rw[hv p c2,aO k c3 (ig c2),bg8];have:=x (Gs b) h;rw[ak k (ar c3),xr]}
noncomputable def Gu(r:Plan)(i:Nat)(l:Ln):cb:=pa (dh (Wm l.2) (l.1+1)) (aCL i)
theorem S7(Y:dz){i:Nat}{l:Ln}(a5:l∈bX):Gu r i l=alm:=by have X:=Rm;delta Gu DD;rw[dY];{rw[iR,atM Y a5,tk];constructor;rw[cL];{rw[hv p c2,cs p h];have⟨k,c3,e⟩:=ig c2;rw[bg8,a4 h_,nC ib];rw[<-d3]at h;have c0:=x (Y.lt_iff ao4 c3) h.1;have f7:=x (Y.lt_iff c3 X.2) h.2.1;rw[a3l];exact⟨k-(l.1+1),by rw[DB,l (l.1+1+(k-(l.1+1))) k k (l.fst+1) c0 k (l.fst+1),sX f7,da c3,e]⟩}};{rw[iR,tk,tk];constructor;{rw[ao6];exact v m c4 (bl (S6 Y a5 (qZ c4)) h)};{rw[ao6];exact ap m c4 (S6 Y a5 (qZ c4)) h}}
noncomputable def aek(B r:Plan)(i:Nat)(l:Ln):cb:=pa (a3m (bn (! a3n p))) (DW (aCM aJw))
theorem ael{B:Plan}{p q:Pt}:(p,q)∈tl↔fx Wn (B.pt e.1=p/\B.pt e.2=q):=i4 Nx
theorem aRQ{B:Plan}(k5:Lay B)(Y:dz){i:Nat}{l:Ln}(a5:l∈bX)(U:(pG,rr)∈tl)(hi:∀m∈aCL i,m≠l):aek B r i l=alm:=by have X:=Rm;obtain⟨e,a0,b4,b9⟩:=ael.mp U;have le:=k5.lt e a0;delta aek DD;rw[dY];{rw[iR,atM Y a5,tk];constructor;rw[dX];{rw[hv p c2,aa p (U_ (aw c2)) h];cases q:a3n p with|false=>{rfl}|true=>exfalso;obtain⟨k,c3,c1⟩:=BX k5 q;have:=x (Gs (zH X.1 X.2)) h;rw[<-b4,<-b9,<-c1]at this;rw[am (k5.on e a0 k c3 (J ((fm).1 (iQ z))) (J ((fm).2 (iQ z))))];cases eu}};{rw[iR,tk,tk];constructor;{rw[ao6];have Z:=fe c4;exact v m Z (bl (S6 Y a5 (qZ Z)) h)};{rw[ao6];have g8:=qZ c4;rw[aa m (U_ (aw c4)) (t (S6 Y a5 g8) h)];cases q:aCM aJw with|false=>{rfl}|true=>exfalso;obtain⟨f,W,g4,h3⟩:=ael.mp (Ny q);rw[<-b4,<-b9,<-g4,<-h3]at h;rw[aj (k5.nc e a0 f W (J (by rw[rD];have G:=ed m g8;have g9:=Wl (b8 G.1 G.2) ao4 (g4.symm.trans b4);have e1:=Wl G.2 X.2 (h3.symm.trans b9);grind))),cH]}}
universe GM
namespace GM
open Gla
variable{r:Plan}
theorem aRR{I:Type}{p:am6}:∀{l:ba}{k:Nat},(E i (B bcC (wl x.2)=aa i) (k<=i/\(z x (K l (i-k) x) (p i x=ab))/\l j x (j<i-k) Ew a_M))/\(B bcC (wl x.2)=ae->zE a_M)|[],k=>aT|a::l,k=>by rw[kF (zl (k+1))];simp only[a3o];rw[bC q (p k a),a_];{rw[List.find?_cons_of_neg (x q)];rw[v (fun i h=>?_) (fun h=>?_)];{obtain⟨a7,⟨x,S,b⟩,d5⟩:=a3 i h;rw[aa dV (v x ?_ b) (fun j y b8 b6=>?_),Z (aS (i-k) ((i-(k+1))+1) (M i k a7 i (k+1)) (M i (k+1) a7 i k)) S];{cases j with|zero=>{rw[a4 b6 (Wo q)]}|succ j=>have:=d5 j y (br b8 (aI i k a7) (aS i (k+1))) bB;rw[bfD];exact this}};{intro j y b6;cases j with|zero=>{rw[a4 b6 (Wo q)]}|succ j=>rw[J bfD (a9 h j y b6)]}}
theorem S8{I:Type}{p:am6}{l:ba}:QW=ae↔zE (p j x=ah):=by have g:=zl 0;constructor;{intro h j x S;have:=g.2 h j x S;simp_all};{rw[eE];cases e:QW with|none=>{rfl}|some i=>obtain⟨_,⟨x,S,b⟩,_⟩:=g.1 i e;simp_all}
theorem aRS{I:Type}{p:am6}{l:ba}{i:Nat}:QW=aa i↔bc3:=by have a:E i (QW=aa i) bc3:=fun i h=>by{have⟨_,⟨x,S,b⟩,d5⟩:=(zl 0).1 i h;simp_all};constructor;rw[ay];{rintro⟨⟨x,S,b⟩,a9⟩;cases e:QW with|none=>{rw[S8.mp e i x S]at b;cases b}|some j=>have⟨⟨y,b6,r⟩,e2⟩:=a j e;grind-abstractProof}
theorem aem{I:Type}{p q:am6}{l:ba}(h:bk j x (Ew->p j x=q j x)):QW=HU q l:=by cases e:HU q l with|none=>{rw[S8]at e⊢;(intros;simp[*])}|some i=>rw[aRS]at e⊢;obtain⟨⟨x,a,b⟩,c⟩:=e;exact⟨v x a (L (h i x a) b),fun j x k a=>L (h j x a) (c j x k a)⟩
theorem S9{I:Type}{ok:Be}{k:yj}{l:ba}:tm ok k l=ae↔bk l (ok x=ab)/\Ga (k x y=ab):=by delta tm;rw[S8];constructor;{rw[eE,v qr (fun j x y S b6=>?_)];{rw[ib S];have:=h i x ag;lia};rw[nN (h (j+1) y b6)]};grind-abstractProof
theorem S_{I:Type}{R:au I I}(o:∀a b c,R a b->R b c->R a c):k4 (Ga (R x y)) (pb R)|[],_=> .nil|[a],_=>aT|a::b::l,h=>by have d6:=S_ o (l:=b::l) (fun j x y S b6=>h (j+1) x y bB bB);have u:=h 0 a b (x a2U) bH;refine aCN ⟨qr,d6⟩;rw[P0,de S S,a_,l (o _ _ _ u ((V2 d6).1 x S))]
theorem aen(e5:RG=ae)(f:RJ=ae):dz:=by rw[S9]at e5 f;rw[j (S_ (R:=bd9) aGg e5.2) uh uh ob (S_ (R:=fun(a b:Ln)=>aoh) (fun a b c h g=>?_) f.2),ay,ay,cL];{rw[Cb]at*;exact FX h g}
theorem aeo(Y:dz)(b:aH6=ae):bq:=by rw[S8]at b;rw[j Y.dP aCP Y.BV ed (aJ Y.nd (fun e a0 k c3 c0 f7=>?_))];{rw[ci i hi (ig a0)];have:=b i e ag;unfold touches at this;rw[pw aCO];simp_all};{have a:∀p q J s:Pt,aMm=zC J s p q:=fun p q J s=>by{delta zC;rw[Bool.and_comm]};intro e a0 f W ne;rw[ci i hi (ig a0),gH C (ig W)];have O:∀{i j:Nat}{e f:Ln},i (i<j) (A bX e) (aa bX f) (zC amg amh eF eG=ah):=by{intro i j e f l a0 W;have:=b j f W;unfold touches at this;rw[pw aCO];simpa using(List.any_eq_false.mp fm e (sq ag))};rw[co M (aa bX f)];grind-abstractProof}
noncomputable def Ta(r:Plan)(row:ao)(a b:Pt):cb:=cv (row.head?.map bp=aa a)&&(cv (row.getLast?.map bp=aa b)&&eD (row.zip (Wg 1)) (cs (a3p l)))
noncomputable def Lr(r:Plan):cb:=Ta r (HP r (gg 0)) jT (jZ r.w)&&(Ta r (HP r (gl 0)) jT (ht r.h)&&(oM amX (jZ r.w)&&oM Ze (ht r.h)))
theorem aRT{l:ao}(s:Jz):ah4 r l=eD (ah1 (oQ 1)) (cs (a3p l)):=by delta ah4;rw[iR,Hw,Hw];constructor<;>intro h e a0<;>rw[iZ (Gn s a0)]<;>have:=ZP;{rw[a8a];grind-abstractProof};{delta Plan.joined;grind-abstractProof}
theorem atO(Y:dz){p:Pt}:bD (HQ p) bfu:=by rw[Wq];constructor;{rw[eE,ib h];exact beD};{rw[iM i hi,xN];exact yK hi}
theorem Ord.Li(Y:dz){i j:Nat}(hi:g_)(h:bbD):i<=j:=IC (zH g hi)
theorem atQ(Y:dz):Lr r=V3 r:=by have S:=vs (or hi);rw[bd head (¬(eH).below c=ab) a'a least (Lh (SW on) a_k (Ec al)),bd last (¬c.below eH=ab) a'b f (ad' (SW on) a_k (Ec m.1)),dp d a'a (nd OY) (aib eO),dp b a'b (OY).getLast? (a3h e)];rw[iR];delta Lr V3 Ta;simp only[ib,iW];rw[ami,ami,ami,ami];constructor;{rintro⟨⟨e0,g0,d0⟩,⟨h2,e2,i8⟩,⟨e5,e6,c1⟩,c5,c7,a9⟩;exact a (gy e0) (b _ _ g0) (b _ _ e2) (b _ _ e6) d0 a9 i8 c1};{rintro⟨g4,h3,h6,f4,d0,a9,i8,c1⟩;rw[r (pi h3 d0) (pi h6 i8) (v (ml Qd h3) (Dx _ _ Qd ?_ f4) c1) (ml Qd h6) (Dx _ _ Qd ?_ f4) a9]<;>intro i hi on<;>have:=S hi<;>have:=(vs (Y.BV _ (yK hi))) hi<;>simp at on<;>rw[iI]<;>simp<;>rw[ZA]}
universe GM
namespace GM
open Gla
variable{r:Plan}
noncomputable def Ls(r:Plan)(z:Pt)(e:Ln):Int:=ke
noncomputable def yQ(r:Plan)(z:Pt)(row:Row):Row:=Wh aHo
noncomputable def Gv(r:Plan)(z:Pt)(row:Row):Row:=aio aHo
noncomputable def vl(r:Plan)(z:Pt)(row:Row):Row:=(Az).takeWhile (ab Q5)
noncomputable def Cc(r:Plan)(z:Pt)(row:Row):Row:=wX (ab Q5)
noncomputable def Cd(r:Plan)(v:Nat):ao:=cF (iY (an (e.1==v)))
noncomputable def begun(r:Plan)(v:Nat):cI:=B aLt (fu OB)
noncomputable def atR(r:Plan)(v:Nat)(s:Sw):Sw:=let A:=aIY;let E:=aIB;let B:=aKE;let N:=Zh;let l:=hl;let J:=di l E;let d5:=iH N ee J;d (h1 d5) (ee+(iT-1)) (pD l J) (o6 l d5)
theorem Lu(r:Plan)(z:Pt)(row:Row):row=hE row++(vl r z row++aID):=by delta yQ vl Cc Gv;rw[zG,zG]
theorem takeWhile_all{I:Type}{p:Be}{l:ba}{x:I}(h:x∈aCQ p):p x=ab:=Wi a3k x h
theorem aRU{P:au Ln Ln}{z:Pt}{row:Row}(h:B8 (bG row)):V e (bG (hE row)) (fW e<0)/\V e (bG (vl r z row)) (fW e=0)/\V e (bG aID) (0<fW e):=by have inR:ib Az (¬fW e<0):=by{have b4:=wU row;cases hB:Az with|nil=>{rw[aaf];cases a0}|cons c J=>have u:¬fW c.1<0:=by{have:=ail ale row;delta Gv at hB;simp_all};have a:aio ale=c::J:=hB;rw[a]at b4;rw[<-b4,ht]at h;rw[ep (aV (a3q h)),jz pf a9];intro e a0 q;rw[jz hH a0,de a0 a0,cX];grind-abstractProof};rw[ak ob ob,bgp,bgp];{rw[g2 (zG (p:=oT Q5) (l:=Az))];cases hB:aID with|nil=>{rw[aaf];cases a0}|cons c J=>have k5:c.1∈bG Az:=by{rw[<-b9];have:wX (oT Q5)=c::J:=hB;rw[this,ht];exact qP _ Ag};have u:0<fW c.1:=by{have:=ail (oT Q5) Az;delta Cc at hB;grind-abstractProof};have a:wX (oT Q5)=c::J:=hB;have a9:B8 (bG (c::J)):=by{rw[<-(wU row),ht]at h;have e2:=aV (a3q h);rw[ab e7 (aio ale) Az];rw[e7,<-b9,a,ht]at e2;grind-abstractProof};rw[jz pf a9,aaf,jz hH a0,de a0 a0,a_];simp[*]}
theorem atU(Z:bq){t:Nat}{s:Sw}(I:Inv iv t s){z:Pt}(h:df tQ aLh):B8 tQ:=by refine vE M_;rw[vf l,cn (x iw a0),a_8];have b1:dx z<=hJ z:=(l.le hJ a.1 b.1 (z:=tS) (by delta iG;rw[al (M8 e.1 f.1),Z (HE q) (h f W).1,Z (VI q) (ZP).1]) (by delta o_;rw[al (M8 e.2 f.2),Z (qV q) (ZP).2,Z (Dj q) (h f W).2]));have a4:=qX a.1 z;rw[hz (qX b.1 z)];delta Ls;constructor;rw[cL];grind-abstractProof
theorem aep(Z:bq)(v:Nat):(eM Zh iC e.1)/\eT Zh (mu iv):=by rw[cg c6 (bG I8 uG) (by delta Cd at U;rw[h4 U];simp_all)];have s:=qR c6 (aI (by delta Cd;rw[J2,h8 (V1 _),rk q];grind-abstractProof));have a4:eQ aLt I8:=s.1;rw[dI Y5];{delta Nz;rw[fK];constructor;rw[cL];{rintro⟨a0,a3⟩;rw[aa e.2 (a4.mem_iff.mpr ?_) cq];delta Cd;rw[xr]}};{delta Nz;rw[Nl];rw[h8 s.2];rintro a b⟨b3,U,h⟩;exact aRI Z (c6 a (a3r b3)) (c6 b (a3r U)) h}
noncomputable def Tb(Z:bq){v:Nat}(d3:v<aL){s:Sw}(I:Inv iv v s):aCh iv v s (atR r v s):=by have Y:=hJ;rw[cR tQ ((gN).k e.1<=ci ef/\ci ef<=(gN).k e.2) be_ (Gz l.2),cc (zm e8)];have parts:=Lu r ef pa;have f:E e amB iC:=fun e a0=>p3 iw;rw[ak g (bG aIY) amB (by rw[lH,ht];simp[a0]),ak i (bG aIB) amB (BF lH),ak h (bG aKE) amB (BF lH)];have d:=aep Z v;rw[b aIY aIB aKE Zh lH ob ob ob (f d.1 d.2 rfl xJ),l ((qX (f e (g e a0)) ef).1.mpr (c.1 e a0))];{rw[bT (x iw (i e a0)),aoX];have z:=c.2.1 e a0;rw[al (qU m.2.2)];{exfalso;have:=Y.on e m.1 v Au q;apply this;have O:=qX m.1 ef;show dx ef=kD ef;unfold Ls at z;rw[z]at O;rw[cn O.1,cb O.2];simp at a b;exact a2K (r_ b) (r_ a)};rw[l zD]};rw[l ((qX (f e ZP) ef).2.mpr (c.2.2 e a0))]
noncomputable def Ce(r:Plan):df Sw|0=>aLW|t+1=>atR r t (Ce r t)
theorem qH(Z:bq):E t (t<=aL) (Inv iv t (Ce r t))|0,_=>asA _|t+1,h=>asz hJ (show t<(gN).n from h) (qH Z t dV) (Tb Z h (qH Z t dV))
noncomputable def runOf(Z:bq):og:=aP (Ce r) (fj (Tb Z c6 (qH Z t (ey c6))))
theorem aRV(Z:bq){v:Nat}(d3:v<aL):t a8R=w3 (e.2==v):=by rw[bdk];have e:t (bG (Tb Z d3 I).E)=t a8R:=by{delta bG;rw[bA];rfl};exact a2y (wY ((Tb Z d3 I).asD hJ I))
theorem aRW(Z:bq){t:Nat}{z:Pt}(b3:QC)(T:ot)(h:Qf):Cut r (Ce r t) z (hE jc) alA:=by have I:=anH;rw[cc (zm (f8 (by rw[jD iw];exact⟨bbX,bbW⟩))),bfY,aa ?_ c.1 ob,Z f5 (Lu r z _)];{rw[f5,ht,hF]at a0;rcases a0 with a0|a0;{exfalso;rw[bT (x iw (BF (Lu r z jc)))];exact aRl Z T h m.1 Au m.2.2 (c.2.1 e a0)};rw[l (c.2.2 e a0)]}
theorem aRX(Z:bq){t:Nat}{z:Pt}(b3:QC)(T:ot):(z x (nd alA=aa x) (XR=0))↔HM r z=ab:=by have I:=anH;have Y:=hJ;constructor;{rintro⟨x,S,b1⟩;rw[bT (x (aCR x.1) (aB1 (bp x (by have:x∈alA:=aib bB;rw[<-wU jc];exact ahZ (.inr this)))))];have:=La (mU _ Au) (mT _ m.2.2 (ed _ m.1).2) b1;delta HM;rw[J tk (v x.1 m.1 this)]};{rw[eE,anB];unfold onLines at h;rw[aj tk,gA o h,cd yi];have k0:im (z≠eH):=fun i hi q=>by{rw[ea i t,c9 (mU i g) q (my _ this),c9 (mT i g hi) q (my _ this)]};have d:=ae (Gs aIN) (v o (k0 e.1 ZV) (k0 e.2 l.2));unfold h_ at d;rw[yx d];have a3:e.1<t:=by{rw[ea e.1 t,Bc,l (cy (vk d.1 (mT _ g ZV)) (my _))]};have a9:t<=e.2:=by{rw[ea e.2 t,cF (vk d.2.1 (mU _ g)) (my _),l g]};have D:=ae iw (v a0 a3 a9);rw[cR (bG jc) aLh (C3 fp) (C2 l.2)];have c:=zm e8;rw[Lu r z jc,ht,ht,hF,hF]at D;have O:fW e=0:=d.2.2;rcases D with D|D|D;rw[cL];{apply f6;rw[bfY];cases hE:vl r z jc with|nil=>{rw[zD hE]}|cons x J=>rw[aa x ag (c.2.1 x.1 (t hE Ag))]};grind-abstractProof}
universe GM
namespace GM
open Gla
variable{r:Plan}
noncomputable def Gw(r:Plan)(z:Pt):Nat:=t (a3s Qj)
theorem aRY(Y:dz){z:Pt}(h:z∉dd):aCT r Ao z:=by have b4:=zG (p:=mQ (ph z)) (l:=dd);have le:Ao<=aL:=by{delta Gw;grind};rw[aa le an' (fun i a3 a9=>?_)];{rw[sx aKa];have:dd[i]∈a3s Qj:=by{delta Gw at hi;exact sq (by rw[<-hD (l₂:=aCS Qj) hi,b4];exact pN)};exact a3t (p:=mQ (ph z)) this};{rw[sx a9];have m:dd[i]∈aCS Qj:=by{delta Gw at a3;grind};cases hd:aCS Qj with|nil=>{simp_all}|cons c J=>have a:VW c=ab:=by{rw[al (S5 (p:=c) (q:=z) (ah (h (q▸(bz))))),cF q (w8 (ail (mQ (ph z)) dd)),iB]};have dP:=Y.dP;rw[<-b4,hd,qW,pf]at dP;rw[hd]at m;simp at m;rw[al m,l IV,l (vk a (dP.2.1.1 _ q))]}
noncomputable def Cf(r:Plan)(z:Pt):jb:=let row:=Pj;Z (HQ z) ae bhx
noncomputable def Tc(r:Plan):cD:=(Bd).aP
noncomputable def vm(r:Plan)(z:Pt):jb:=B FE (Tc r)
theorem atV(Z:bq)(Y:dz)(d:Bi){z:Pt}(b3:QC):FE=ae↔HM r z=ab:=by delta Cf;simp only;rw[bC c (HQ z)];{rw[aJ c];rw[v (fun _=>?_) kX,aO i hi (BX Z c)];cases d1:ik i with|nil=>{simp_all}|cons y J=>rw[HC (vi Z),fY a (q7 p) (by delta wB Nj;have:i9 p=0:=by{rw[ui];grind-abstractProof};rw[tX];exact v ⟨aoC,Wr _ _⟩ aoC (Wr _ _)),fY b (q7 q) (by delta wB Nj;have:i9 q=0:=by{rw[ui];simp};rw[tX];exact v ⟨alM,HK _ _⟩ alM (HK _ _))];delta HM;rw[tk];rw[Kl,cx (i,y) H ag,cx (y,i) H ag]};{rw[aO c];rw[<-aRX Z b3 bcD];(split<;>simp[*])}
theorem aRZ(Z:bq)(Y:dz)(d:Bi){z:Pt}(h:Fx):∃(A B:Row),aCT r Ao z/\vY (Ce r Ao)/\FE=aa hl:=by have h':=h;unfold clear at h';simp at h';rw[fI (a2 h'),bM b3 z.x r.w (ey h'.2.1)];have b:FE≠ae:=ah (by rw[x (atV Z Y d b3) q]at f;cases f);delta Cf at b⊢;simp only at b⊢;rw[bC c (HQ z),ay];{rw[bj c]at b⊢;have T:=bcD;rw[K _ T (aRW Z b3 T f) ?_,Pp]}
theorem Td(N:ka)(Y:dz)(d:Bi){z:Pt}(h:Fx):I g (dQ g) a_C (vm r z=aa ((OP).lb g)/\(OP).lb g≠0):=by obtain⟨A,B,T,C,e⟩:=aRZ iX Y d h;have a:vY ((OP).st Ao):=C;obtain⟨g,G,O⟩:=asX Nn (NA iX) ah8 (atu iX T a);have i5:(OP).lb g=(aae).aP hl:=by{show(aae).aP (sd (aae).side g)=_;have b:sd (aae).side g=hl:=O;rw[b]};rw[j g G (N.among T h a G i5) ?_ ?_];{delta vm;rw[e,i5];rfl};rw[Z i5 (HU a)]
theorem aR0(N:ka)(Y:dz)(d:Bi){y z:Pt}(b6:Dr r y=ab)(c9:Fx):NB th y=NB th z↔vm r y=vm r z:=by obtain⟨g,G,o,d8,_⟩:=Td N Y d b6;obtain⟨h,H,a,c7,_⟩:=Td N Y d c9;rw[o,a,d8,c7];constructor;{rw[fT];rw[x bcB (cZ q)]};{rw[fT];rw[ae bcB (cZ q)]}
noncomputable def yR:i Nat I9 I9 jb|_,_,[]=>ae|i,c,x::J=>Z (c.contains x) xv (yR (i+1) (x::c) J)
theorem aeq(N:ka)(Y:dz)(d:Bi):∀(d8:qb)(i:Nat)(hd:qb),yR d8->yR hd->wJ r th i (air aHr) d8=yR i (air (bo tT)) (HV (bo tT))|[],i,hd,_,_=>rfl|m::d8,i,hd,h,g=>by simp only[wJ,yR,c_];have k5:=h m bJ;have e:(air aHr).contains (NB th eM)=(air (bo tT)).contains tT:=by{rw[iR,Wq,Wq,fK,fK];constructor;rw[Io (x bgM e),Io (ae bgM e)]};rw[e];split;{rfl};{have:=aeq N Y d d8 (i+1) (m::hd) anT (aL cq);trivial}
theorem aR1(N:ka){f:ao}(d:UF f Bj (Tc r)):Np+1=t (dC Dz a_6):=by rw[cc (N.count (NA iX)),eh (qH iX aL aY),ab f5 aae (Ce r aL)];rw[f5]at c;rw[c,qY];have b4:(dC Bj a_6)=dC Bj (ab (ar ((Bd).aP x) x)):=by{refine Ws qr;rw[cb G (x<Bj)];obtain⟨l,a5,_⟩:=aij G;rw[a5,iR];simp;exact(We x l a5)};rw[b4];rw[DF ((Bd).aP 0)];obtain⟨k,c3⟩:∃k,Bj=k+1:=⟨Bj-1,bv VL (mS (cU (aS Bj 1)) (cU (aI Bj 1 this)))⟩;rw[c3,ahm];simp only[aCV,c0,decide_true,mM,ne_eq,not_true_eq_false,and_false,aCU];simp only[ie];rw[dY,uE,dY];refine Ws qr;simp only[fK]at S;rw[iH y S];simp
theorem aR2(N:ka)(Y:dz)(d:Bi){z:Pt}(h:Fx){i j:Nat}(b:dQ (i,j)):bD (match NB th z with|some l=>follows l i j|none=>ah) (vm r z=aa ((OP).lb (i,j))):=by have⟨g,G,o,d8,_⟩:=Td N Y d h;rw[o,d8];simp only;rw[N.follows (NA iX) G b];rw[xq]
universe GM
namespace GM
open Gla
theorem Te{I:Type}{R:au I I}(j:F8 (a=b)):∀{l m:ba},i (Wt m) (pb R) a8b (l=m)|[],m,p,_,_=>ai|a::l,[],p,_,_=>ai|a::l,b::m,p,sl,sm=>by have f:=V2 sl;rw[cc (V2 sm)];have e:a=b:=by{have a8:a∈b::m:=ais bJ;have h7:b∈a::l:=p.mem_iff.mpr bJ;grind-abstractProof};rw[b_];rw[Te j (List.Perm.cons_inv p) f.2 c.2]
theorem aR3{I:Type}{R:au I I}(Y:F8 cE){l m:ba}(h:gY l m)(sl:pb R)(sm:a8b):l=m:=by rw[cc (fun a q=>Y a a q q)];exact Te (fun a b p q=>i0 (Y a b p q)) (ae (HF (q_ aGU sl) (q_ ai sm)) h) sl sm
theorem aer{I:Type}(k:yj)(x:I):qA (eQ (putIn k x l) (x::l))|[]=>amj|y::J=>by unfold putIn;split;{rfl};rw[l (L ((aer k x J).cons y) (.swap x y J))]
theorem yS{I:Type}(k:yj):qA (eQ (iZ k l) l)|[]=>amj|x::l=>x (L (aer k x _) ((yS k l).cons x))
theorem atW{I:Type}{k:yj}(Y:aKm)(o:aL')(x:I):k4 (pb (fs alj)) (gV (putIn k x l) alj)|[],_=>ar putIn|y::J,s=>by have c1:=V2 s;unfold putIn;split;{next h=>refine aCN ⟨aoc,s⟩;grind-abstractProof};{next h=>refine aCN ⟨aoc,atW Y o x c1.2⟩;have:=(aer k x J).mem_iff.mp c9;grind-abstractProof}
theorem Tf{I:Type}{k:yj}(Y:aKm)(o:aL'):qA (gV (iZ k l) alj)|[]=> .nil|x::l=>atW Y o x (Tf Y o l)
theorem aes{I:Type} [BEq I] [aCz I]{k:yj}(Y:aKm)(o:aL')(cQ:eV AS (k a b=ab\/k b a=ab))(l:ba):gV (iZ k ait) aF6/\gY (iZ k ait) l:=by have p:=yS k ait;rw[v (((Tf Y o ait).and (a3u aok)).imp (y4 ?_)) Jj,cL];{rw[p.mem_iff,V6]}
theorem Lv(a b:Pt)(h:amt):aiu a=ah:=by cases q:aiu a with|false=>{rfl}|true=>rw[dT (vk h q) (my _)]
theorem aet(a b:Ln)(h:aoh):kD b a=ah:=by cases q:kD b a with|false=>{rfl}|true=>rw[Cb]at h q;exact cb (FX h q) (cj (iH k)) (cj (iH k.2))
theorem atX(a b c:Ln)(h:aoh)(g:kD b c=ab):kD a c=ab:=by rw[Cb]at*;exact FX h g
theorem aeu(a b:Ln)(h:AS):kD a b=ab\/kD b a=ab:=by rw[Cb,Cb];rw[ad a.1 b.1 k k k,dR Pa];{rw[fj a.2 b.2,dR (e4 k q),cF (sQ k q) h,co (e4 k.symm q)]};rw[co Pa]
theorem Tg{l m:ej}(h:gY l m)(s:pb (nS xP)):l=iZ ih a3v:=g6 (A5 m) bd9 (Lv a b p)
theorem aev{l m:cI}(h:gY l m)(s:pb (nS (kD p q=ab))):l=iZ kD a3v:=g6 (aes aet atX aeu m) (fun(p q:Ln)=>kD p q=ab) (aet a b p)
theorem atY{l m:qb}(p:Wt m)(s:pb (fs amz)):kA AV=a_K:=by have o:∀a b c:Wu,mV a b=ab->mV b c=ab->mV a c=ab:=fun a b c h g=>vk h g;refine Te (R:=fun(a b:Pt)=>aiu a=ah) aGP (B bbp _) ?_ ?_;{rw[a8x,eT (S5 ne),ay];simp_all};rw[cL,Z Nl (Tf (fun a b h=>Lv _ _ h) o m)]
theorem aR4{l m:qb}(p:Wt m)(s:pb (fs amu)):l=iZ mV m:=by rw[c7 (atY p (s.imp (y4 (Lv _ _ h))))];refine Te (R:=fun(a b:Wu)=>amu) aGP bbp s (by have:gV a_K amt:=cq;grind-abstractProof);rw[cQ (Lv _ _ p),kK]
theorem aR5{I d:Type}(f:Fp)(ok:d->cb)(k:dK d d)(l:ba):tm (ab (ok (f x))) (jM (k (f x) (f y))) l=tm ok k xU:=by delta tm HU;rw[List.zipIdx_map,List.find?_map,Option.map_map];rw[dY,dY];funext x;simp only[Wv,Prod.map,id];(split<;>simp[*])
theorem atZ(r:Plan)(all:AY):∀(d8 ns:qb)(i:Nat)(c:bK (bY ao)),HV AV=wK AV->wJ r all i c d8=wJ r all i c ns|[],[],_,_,_=>rfl|[],b::ns,_,_,h=>bB|a::d8,[],_,_,h=>bB|a::d8,b::ns,i,c,h=>by rw[ma];simp only[wJ,h.1];split;{rfl};rw[l (atZ r all d8 ns _ _ h.2)]
theorem at0(r:Plan)(d8:qb):∀(n:Nat)(s e:fB),V4 AU n s e=V4 r n s e|0,_,_=>rfl|n+1,s,e=>by simp only[V4];rw[dR (aCv AU e.1 e.2) (aCv r e.1 e.2),at0 r d8 n]
theorem aR6(r:Plan)(d8:qb):wG AU=th:=by delta wG;have e:(CZ (ah5 (V4 AU alE e e)))=bbz:=by{funext e;rw[at0]};simp only[e];rfl
theorem aR7(r:Plan)(d8:qb)(h:HV AV=Ww AV):aiv AU=ND:=by revert h;revert r d8;refine Kp;rw[bW r d8,eE,ca len NC fM h];have b4:a'Y=aaI:=by{rw[dl B a'Y (HV AV) d8,dl b2 aaI (Ww AV) dR];rw[B,b2,h]};have b9:wJ AU (wG r) 0 [] d8=BE (wG r):=by{have g:∀(l:qb)(i:Nat)(c:bK (bY ao)),wJ AU (wG r) i c l=wJ r (wG r) i c l:=by{rw[rL];induction l with|nil=>{intros;rfl}|cons a J d6=>intro i c;simp only[wJ];rw[dR (aCA AU (wG r) aiw) (aCA r (wG r) aiw),d6]};rw[g];exact atZ r _ _ _ _ _ h};delta aiv;simp only[b4,aR6,b9];delta Plan.size;rw[len];rfl
theorem Th:aP w n (t aoF=w)|0,_=>rfl|w+1,n=>eN le (Th w)
theorem at1:aP w n (NF aoF=n%Rg)|0,n=>bx le NF Nat.mod_one|w+1,n=>by simp only[le,NF,at1 w];have e:zh n=n%256:=by{simp};rw[e,HW,aix Rg 256,a3w]
theorem aew{A B:Bytes}{w n p:Nat}(c2:ij=p):num (h1 aoF) p w=n%Rg:=b2 num (a3y c2) (a3x (Th w n)) at1
theorem qI{A B:Bytes}{p q w:Nat}(c2:ij=p):num (A++B) (p+q) w=num B q w:=by delta num;rw[<-c2,List.drop_append,aiy xK];simp
theorem aex{B:Bytes}{w n:Nat}:num (aoF++B) 0 w=n%Rg:=nn (aew (A:=[]) (B:=B) (w:=w) (n:=n) (p:=0) rfl)
theorem at3(b:Bytes)(p w:Nat):c5 p w<Rg:=by delta num;have:∀(l:Bytes)(w:Nat),eb<=w->NF l<Rg:=by{rw[rL];induction l with|nil=>{intro w _;exact a3z ax}|cons c J d6=>rw[dt w];cases w with|zero=>{rw[ma]}|succ w=>have k0:=c.toNat_lt;simp only[NF];grind-abstractProof};exact this _ _ Bk
theorem Cg{I:Type}{f:I->HY}{k:Nat}(h:aKq):qA (t (NG f)=k*eb)|[]=>x (HG _)|x::l=>by simp[Cg h l,h x];grind-abstractProof
theorem at4{I:Type}{f:I->HY}{k:Nat}(h:aKq):∀(l:ba)(i:Nat),dh (NG f) (k*i)=gt (oQ i) f|l,0=>bH|[],i+1=>aT|x::l,i+1=>by rw[pq,show k*jd=k+k*i by grind-abstractProof,<-HZ,a3y (h x),at4 h l i];rfl
theorem aey{I:Type}{f:I->HY}{k:Nat}(h:aKq){l:ba}{i:Nat}{x:I}(S:xQ)(B:Bytes)(q w:Nat):eK (num (NG f++B) (k*i+q) w) (f x) w:=by rw[fd X (i<eb)];have e:oQ i=x::oQ (i+1):=by{rw[Wx X];simp_all};rw[dI (gt (oQ (i+1)) f++B)];delta num;have d:(NG f++B).drop (k*i+q)=(f x++(gt (oQ (i+1)) f++B)).drop q:=by{rw[<-HZ,a3A (t (Cg h) (Nat.mul_le_mul_left k dV)),at4 h,e,pq,dv]};rw[d]
noncomputable def sy(p:Pt):HY:=le 4 p.x++le 4 p.y
noncomputable def Gx(l:Ln):HY:=le 2 l.1++le 2 l.2
noncomputable def yT(m:Mark):HY:=le 4 ip++(le 4 il++f8 jA (le 2 kE))
theorem aez(p:Pt):t (sy p)=8:=bH
theorem aeA(l:Ln):t (Gx l)=4:=bH
theorem at5(m:Mark):t (yT m)=12:=bH
noncomputable def Gy(r:Plan):HY:=HA (f8 aL (f8 dQ (f8 fM (le 2 0))))
theorem at6(r:Plan):t (Gy r)=20:=bH
theorem Gz(r:Plan):q_ r=Gy r++(a3C sy++(aCW Gx++a3B yT)):=by delta q_ Gy;simp only[dv];rfl
theorem aeB(r:Plan):t (q_ r)=20+8*aL+4*dQ+12*fM:=by rw[Gz];simp only[cj,at6,Cg aez,Cg aeA,Cg at5];simp+arith [*]
structure Fits(r:Plan):Prop where
 w:bk r.w
 h:bk r.h
 p:b2 aL
 l:b2 dQ
 m:b2 fM
 pts:cA dd O7
 lines:h2 (b2 e.1/\b2 e.2)
 marks:∀m∈dR,uV
theorem aR8{r:Plan}(F:wL r)(B:Bytes):(Gy r++B).take 4=aiz/\ie 4 4=r.w/\ie 8 4=r.h/\ie 12 2=aL/\ie 14 2=dQ/\ie 16 2=fM/\ie 18 2=0:=by rw[ab b0 MAGIC.length 4,cd e0 (Gy r++B) (HA (f8 aL (f8 dQ (f8 fM (f8 0 B)))))];rw[e0];rw[bdX,z8 a,dw (a3x b0) ?_ (aJ ?_ ?_)];{rw[aew b0,b,es F.w]};{rw[dR 8 (4+4),qI b0,A_,b,es F.h]};{rw[ly 12 4,qI b0,Ba,A_,a,es F.p]};{rw[ly 14 (4+2),qI b0,Ba,Ba,A_,a,es F.l]};{rw[ly 16 (4+(2+2)),qI b0,Ba,Ba,Ba,A_,a,es F.m]};{rfl}
theorem at7{I:Type}{l:ba}{g:df I}(h:bk i x (xQ->g i=x)):ch eb g=l:=by refine NH (fun i=>?_);rw[cz];rw[fY k eb,ds (wM k) (da k) (gC aa (h i _ (da k)))];{rw[zI (t aCX (zj k)),zI (zj k)];rfl}
theorem aR9{r:Plan}(F:wL r):lH (q_ r)=r:=by revert F;revert r;refine ap2;rw[u3 r];intro F;rw[f4 be'];rw[<-Gz]at d1;obtain⟨_,n1,n2,u,y,f,_⟩:=d1;rw[bdX,z8 a];delta lH;rw[bgI,f5 (at6 r),hN (Cg aez dd)];rw[FZ (by have b3:=aiA p (bM c2);have g:∀q,eK (qy (jC+(8*i+q))) (sy p) 4:=ah (by rw[Gz,aKh,qI a5];exact aey aez c2 _ q 4);rw[bas];obtain⟨D,a9⟩:=g 4;have b4:qy ane=p.x:=by{rw[show ane=jC+(8*i+0)by rfl,a3];delta sy;rw[dv,aex,b,es b3.1]};have b9:qy (ane+4)=p.y:=by{rw[show ane+4=jC+(8*i+4)by rfl,a9];delta sy;rw[dv,A_,b,es b3.2]};rw[b4,b9]),FZ (by have b3:=aCY p (bM c2);have g:∀q,eK (i7 (gc i q)) (Gx p) 2:=ah (by rw[Gz,aKh,qI a5,qI d5];exact aey aeA c2 _ q 2);rw[bas];obtain⟨D,a9⟩:=g 2;have b4:i7 apc=p.1:=by{rw[dy apc (gc i 0),a3];delta Gx;rw[dv,aex,a,es b3.1]};have b9:i7 (apc+2)=p.2:=by{rw[dy (apc+2) (gc i 2),a9];delta Gx;rw[dv,A_,a,es b3.2]};rw[b4,b9]),(at7 (fun i m c4=>by have b3:=wN m (bM c4);have g:∀q w,eK (num (q_ r) (gc dQ (12*i+q)) w) (yT m) w:=fun q w=>by{rw[Gz,aKh,qI a5,qI d5,qI (Cg aeA bX)];have:=aey at5 c4 [] q w;rw[gj]};rw[db a3 (g 0 4)];obtain⟨d,a9⟩:=g 4 4;rw[fW e2 (g 8 2)];obtain⟨h,e5⟩:=g 10 2;have b4:qy FT=ip:=by{rw[dy FT (gc dQ (12*i+0)),a3];delta yT;rw[dv,aex,b,es b3.1.1]};have b9:qy (FT+4)=il:=by{rw[dy (FT+4) (gc dQ (12*i+4)),a9];delta yT;rw[dv,dv,A_,b,es b3.1.2]};have e7:i7 (FT+8)=jA:=by{rw[dy (FT+8) (gc dQ (12*i+8)),e2];delta yT;rw[dR 8 (4+4),dv,Ba,dv,dv,A_,a,es b3.2.1]};have g5:i7 (FT+10)=kE:=by{rw[dy (FT+10) (gc dQ (12*i+10)),e5];delta yT;rw[ly 10 2,dv,Ba,dv,Ba,dv,A_,a,es b3.2.2]};rw[b4,b9,e7,g5]))]
noncomputable def eQ(r:Plan):hU:=Ky ND
theorem at8{r:Plan}(F:wL r):wO (q_ r)=jw (eQ r) r:=by have d1:=be';rw[<-Gz]at d1;obtain⟨t,n1,n2,u,y,f,a⟩:=d1;have len:=aeB r;delta wO eQ;have a9:¬(i7 18≠0):=by{rw[xM]};have e2:¬(t (q_ r)≠jC+8*i7 12+4*i7 14+12*i7 16):=by{rw[len,u,y,f];simp[jC]};rw[bj Bl,bj hV]at⊢;rw[bgI];rw[u,y,f]at e2;rw[PX,bj e2,aR9 F];split;{rfl};(split<;>lia-abstractProof)
universe GM
namespace GM
open Gla
theorem aR_{p q a b:Pt}(h:xP)(b3:h_ p q a=ab)(U:h_ p q b=ab):Wy p q a<Wy p q b↔amt:=by revert h b3 U;revert p q a b;refine aMY;rw[al p q a b];intro h b3 U;delta h_ at b3 U;simp only[ib,iW]at b3 U;rw[dB b3.2.2];have c3:=U.2.2;rw[iI]at h⊢;delta eV dx dy at d6 c3;delta Wy dx dy;rw[k3 (fM b.y a.y) (k9 b.x a.x),bM i (bbc-bbb) (fM b.x a.x+ald*bm b.y a.y)];generalize bbc=B at*;generalize bbb=A at*;rw[bU X m X (X=Ft),bU c g c (c=anW),bU u hu u (u=v b.x-a.x),bU v d3 v (v=v b.y-a.y)];rw[<-m,<-g,<-hu,<-d3]at e i;rw[dq h h a9];{rw[co f (0<c)];have d:0<X*X+c*c:=by{have:0<=X*X:=by{rw[al (aCe 0 X),l (tc q q),l (aiq q q)]};have:=hI f f;lia};rw[bM O (c*(B-A)) ((X*X+c*c)*v)];constructor;{rw[rL];left;have:0<c*(B-A):=hI f hV;rw[gf v v d];simp_all};{rw[bcF];{have:0<v:=ag;have:=hI d this;rw[gf (B-A) (B-A) f];exact r_ this};{exfalso;rw[ae j v 0];rw[j,aCJ]at e;rw[al (aip CX)]<;>lia}}};{rw[ae f c 0,co k (0<X)];rw[f]at e i;rw[a6 a3D];rw[a3D,a29]at i;have j:v=0:=by{rw[al (aip e),ay,iB]};constructor;{rw[rL];right;have:0<X*u:=x (Ks i.m l);have:0<u:=by{rw[al (mR 0 u),l q];{have:=Ni (eW k) q;grind}};rw[fU]};{rw[bcF];{rw[fU]};{have:0<u:=ag;have:=hI k this;exact j4 i.n}}}
noncomputable def Lw(row:ej)(l:kn):ni:=NI (l.1::(iZ ih aph++[l.2]))
theorem aR'{row:ej}{l:kn}(h:a_G):aiB row l=Lw row l:=by delta aiB Lw;simp only;have c9:(NK (fun(J:Pt)=>J !=l.1&&(J !=l.2&&wB l.1 l.2 J)))=NK (h_ l.1 l.2):=by{refine Ws (fun J _=>?_);rw[iR,Gs h];rw[xq]};rw[c9];congr 2;rw[dY];have d:aL aph (h_ l.1 l.2 x=ab):=aL (vP (NJ S)).2;let al:dK Pt Pt:=fun(a b:Pt)=>bT (Wy l.1 l.2 a) (Wy l.1 l.2 b);have p:=yS al aph;refine Tg Jj ?_;{rw[p.mem_iff,V6]};{rw[h8 ((Tf (k:=al) (fun a b q=>fp) (fun a b c q z=>fp) aph).and (a3u aok))];rintro a b⟨b3,U,a3,ne⟩;rw[al (S5 ne),iB,i5 (ae (aR_ h (d b (ais U)) (d a (ais b3))) q)]}
noncomputable def Ti(l:kn):kn:=aom
theorem aeC{w h:Nat}{pts d:ej}{lines c:ni}{marks:qb}(c2:gY pts d)(a3:∀l∈aiC,l∈c\/Ti l∈c)(a9:∀l∈c,l∈aiC\/Ti l∈aiC):bbK=H0 w h d c tn:=by delta H0;simp only;have H:=A5 pts;rw[(Tg (ab (L (H.2 x) (c2 x))) H.1)];rw[dY];generalize c5:(mQ a'u)=f6;have b9:∀x:Ln,x∈bf6↔x∈DE (bE (f6 l.1) (f6 l.2) (f6 l.1) (f6 l.2)):=by{intro x;simp only[fK];constructor;rw[KH (a3 l a5),KH (a9 l a5)]};have e7:∀p,a'u=f6 p:=bn bz;simp only[e7];have X:=aes aet atX aeu bf6;exact aev (ab (L (X.2 x) (b9 x))) X.1
variable{r:Plan}
theorem aSa(Y:dz){l:kn}(h:l∈H2):a_G:=by rw[a4 Nx,h4 h];have:=jh;exact zH eu fm
theorem at9(Y:dz)(row:ej)(m:Mark):ps r Ro=aa (ct (dd++row) (NI row++aoG) (dR++[m])):=by show aa (ct (dd++row) (aiE (aiB row)++NI row) (dR++[m]))=_;rw[dY];have e:aiE (aiB row)=aoG:=by{rw[a3F,a3F];rw[dY];exact aiD (ff (aR' (aSa Y a5)))};rw[e];refine aeC (as aCZ) (ff aG0) (ff aG0)<;>simp only[hF]at a5⊢<;>exact a3E
universe GM
namespace GM
open Gla
variable{r:Plan}
structure Clean(r:Plan):Prop where
 f4:RG=ae
 f5:RJ=ae
 f6:Y0
 f7:aH6=ae
 f8:(Kg)=ae
 f9:(Kh)=ae
 f10:Rw=ae
 f11:aaI=ae
 f12:BE th=ae
 f13:¬fM<Np
theorem auo(h:ND=ae):kj:=by rw[a4 aiv,eI,cX];{next e5=>rw[eI,cX];{next f=>rw[eI,cX];{next b3=>rw[eI,cX];{next b=>rw[eI,cX];{next k=>rw[ama,eI,cX];{next D=>rw[eI,cX];{next c=>rw[eI,cX];{next a=>rw[eI,cX];{next d=>rw[eI,cX];{next e=>exact a e5 f ag b k D c a d e}}}}}}}}}}
theorem Clean.ord(C:kj):dz:=aen C.f4 C.f5
theorem Clean.lay(C:kj):bq:=aeo NL C.f7
theorem Clean.deg(C:kj):alT:=j6 (by have:=zn C.f8;rw[uu];omega)
theorem Clean.aeE(C:kj):Bi:=fun i hi q=>w8 (C.deg i hi)
theorem Clean.aSd(C:kj):1<aL:=by have f:=C.f6;unfold frameOk at f;rw[wN f,aO i hi (BX DF f.1)];have d:=C.deg i hi;cases d1:ik i with|nil=>{simp_all}|cons y J=>rw[HC (vi DF)];have V:y<aL:=(H.BQ C.lay.ok);have a:i≠y:=(H.ne C.lay.ok);lia-abstractProof
theorem Clean.net(C:kj):ka:=by refine atL DF C.f6 C.aSd C.deg an' an';{have:=zn C.f9;rw[gj]};{have:=zn C.f10;rw[gj]}
theorem Clean.marks(C:kj):yR dR/\r.marks.Pairwise (fs amu):=bv (S9.mp C.f11) ⟨eu,S_ (R:=fun(a b:Wu)=>amu) aGg fm⟩
theorem aup:Go (yR i c l=ae->zA/\aL l (x∉c))|[],_,_,_=>aT|x::l,i,c,h=>by unfold yR at h;rw[eI,cX];{next q=>rw[dB (aup l (i+1) (x::c) h),v (a3c ⟨J (d6.2 x z bJ),d6.1⟩) (fun y b6=>?_)];grind-abstractProof}
theorem Clean.aSe(C:kj):c8 amk:=by have t:=aeq C.net NL C.aeE dR 0 [] H3.1 aT;simp only[zw]at t;rw[C.f12]at t;exact(aup _ _ _ t.symm).1
noncomputable def aeG(r:Plan)(l:Ln):Nat:=Tc r ((Bd).side l).1
noncomputable def aeH(r:Plan)(l:Ln):Nat:=Tc r ((Bd).side l).2
theorem aSf(C:kj){l:Ln}(h:l∈bX):q6 aJv=aeG r l/\q6 aom=aeH r l:=by have lt:=aC0 l h;constructor;{show(Bd).aP (sd (Bd).side aJv)=_;rw[I_];rw[aJ lt.1];rfl};{show(Bd).aP (sd (Bd).side aom)=_;rw[I_,aO fp];rfl}
theorem aeI(C:kj){i a b:Nat}(H:dQ rR):Wz NM a b=aa i↔z m anR (tT=aa (q6 rR)):=by delta Wz;rw[ab c2 NM (Ww aHr)];rw[c2,List.findIdx?_eq_some_iff_getElem];constructor;{rintro⟨hi,p,_⟩;simp only[bA]at hi;rw[ak dR[i] pQ];rw[Nf]at p;exact x (BX (H3.1 _ (te hi))) p};{rintro⟨m,c4,c7⟩;rw[dE hi (i<fM),cs D dR[i] m,cs ag Rr,ds Nf D (ae (BX (H3.1 m (bM c4))) c7)];{intro p;rw[Nf]at p;rw[b4 j4 (j<fM) (jv bF bF)];have M:=x (BX (H3.1 _ (te j4))) p;rw[co b4 (aa (amk) (aa (q6 rR))),co b9 (A (amk) (aa (q6 rR)))];have:=x (aCl ag C.aSe) (a3G a3H);exact gy CZ b8}}
noncomputable def auq(r:Plan)(hi b8:jb)(l:Ln):cb:=cv (a'k=(hi,b8)\/a'k=(b8,hi))
theorem aSg(C:kj){i j:Nat}{c6 e0:Mark}(hi:A dR c6)(b8:aa dR e0){l:Ln}(a5:l∈bX):aFW=aMq:=by have i5:=aSf C a5;have k:∀{i:Nat}{m:Mark},anR->(Wz NM l.1 l.2=aa i↔aa (aeG r l)=tT)/\(Wz NM l.2 l.1=aa i↔aa (aeH r l)=tT):=by{intro i m c4;rw[aeI C pX,aeI C (.inr a5),i5.1,i5.2];constructor;{rw[xq]};rw[xq]};delta aC2 aC1 auq;rw[iR];simp only[ahs,aCK,iW,CI];simp[*]
theorem gone_none(C:kj){i j:Nat}(h:an6){l:Ln}(a5:l∈bX):aFW=ah:=by have a8:dQ aJv:=pX;have b7:dQ aom:= .inr a5;have k:∀{i a b:Nat},dQ rR->fM<=i->Wz NM a b≠xv:=by{intro i a b H le q;obtain⟨m,c4,_⟩:=x (aeI C H) q;simp_all};delta aC2 aC1;rw[aCO];simp only[beq_eq_false_iff_ne,ne_eq,CI,not_and];grind-abstractProof
theorem aur(C:kj){i j:Nat}(h:i=j\/an6):p4 aJO:=by show C8 _=ae;rw[aJ];rw[eT h,Fq];{right;rw[dY];rw[a3I];intro l a5;rw[gone_none C h a5];rfl}
theorem erase_eq(C:kj){i j:Nat}{c6 e0:Mark}(ne:i≠j)(hi:A dR c6)(b8:aa dR e0):ps r aJO=(let a:=iY (k9 aMq);v mP dQ ae (aa (ct (a.flatMap (cs [pG,rr])) (a.map (cs Em)) (a3J j)))):=by show bgw=_;rw[(Ws (ff (iQ (aSg C hi b8 a5))))];simp only[ne,false_or];generalize z:(iY (k9 aMq))=a;have sub:∀l∈a,l∈bX:=fun l a5=>cq;split;{rfl};{rw[dY];refine aeC (fun p=>?_) (ff pX) (ff pX);simp only[fK,Nm,aCB,tk,V5,hH,oX,Du];constructor;{rintro⟨k,⟨c3,l,a5,e⟩,rfl⟩;delta H4 at e;grind-abstractProof};{rintro⟨l,a5,e|e⟩;rw[pr l.1 Q8,pr l.2 ag]}}
universe GM
namespace GM
open Gla
variable{r:Plan}
theorem aSh(Z:bq){e f:Ln}(a0:iC)(W:f∈bX){z:Pt}(c:h_ eF eG z=ab)(d:h_ amg amh z=ab)(b3:QC):e=f:=by have Y:=hJ;have le:=yi;rw[bT (gb f W)];delta h_ at c d;simp only[ib,iW]at c d;have s:=mx (HJ (b8 le.1 le.2)) c.1;have t:=mx b3 c.2.1;have u:=mx (HJ (b8 m.1 m.2)) d.1;have w:=mx b3 d.2.1;have xe:dx z=Zf:=by{have:=Z.K_ a0 z;rw[en]};have x:hJ z=Zf:=by{have:=Z.K_ W z;rw[en]};have p:l i j g_ aK2 (i<j):=fun i j hi h=>by{rw[al (iq i j),l q];{rw[al (qU q),i5 (Dm q hi),ay]}};have l:ci rM<tS:=by{delta iG;grind-abstractProof};have o:tS<amA:=by{rw[Jg];lia-abstractProof};have ov:kH<hb:=p _ _ (Nat.max_lt.mpr ⟨jv le.1 le.2,jv m.1 m.2⟩) (x (Int.lt_trans l o));rw[ak b g aJK];have g7:dx rM-hJ rM=a+b*ci rM:=g _;have g8:dx z-hJ z=a+b*tS:=g _;have a5:amP-am9=a+b*amA:=g _;have n1:dx rM<hJ rM->amP<=am9:=Y.nc e a0 f W ov;have n2:hJ rM<dx rM->am9<=amP:=by{have:=Y.nc f W e a0 (ac bc7 bc8 ov);rw[bY bc7 bc8];exact this};have n:b=0:=by{rw[bs b q q q];{have a3:b*tS<b*ci rM:=aCf l q;have a9:b*amA<b*tS:=aCf o q;grind-abstractProof};rw[iB];{have a3:b*ci rM<b*tS:=ahD l q;have a9:b*tS<b*amA:=ahD o q;lia-abstractProof}};subst n;simp at g7 g8 a5;rw[ck lo (dx eF=kD eF) (wu e a0),ck hi (dx eG=kD eG) (wz e a0)];have on:h2 (pp (dx ef) (kD ef)):=fun e a0 v a3 a9=>Y.on e a0 v a3 a9;exact sQ (by rw[fj e.1 f.1,Ih f.1,iB,Ih e.1]) (by rw[fj e.2 f.2,pz e.2 (qV (cU q)),iB,pz f.2 (Dj (cU q))])
theorem aut{I d:Type}{f:I->nU}:∀{l:ba},i zA (bk l (c8 (f x))) (bk l (dw l (o z (z∈f x) (z∈f y) (x=y)))) (c8 (NG f))|[],_,_,_=>aT|a::l,nd,a3,a9=>by have n2:=AL;rw[pq,ah0];rw[aa (a3 a bJ) (aut n2.2 (aL (a3 x rB)) (fun x S y b6=>a9 x rB y rB)) (fun b U c b0 e=>?_),ii c5 (aC3 b0)];grind-abstractProof
theorem pairs_len{I:Type}(l:ba):t (NI l)=eb-1:=i4 NI
theorem auu{I:Type} [BEq I] [aCz I](l:ba):l.eraseDups.length<=eb:=eA (wm I) (fs (Classical.propDecidable (a=b))) (SR aok (aL (NJ S)))
theorem auv(C:kj)(row:ej)(a6:cA row (h2 (a9Z->QB))):bd (NI row++aoG) (dQ+2*fh):=by have Z:=DF;rw[cj,pairs_len];have b4:t aoG=dQ+t bcE:=by{delta Nx;rw[aC4];generalize r.lines=ls;induction ls with|nil=>{rfl}|cons a J d6=>rw[pq,pq,cj,cj,d6];have:t (Lw row (bp a.1,bp a.2))=(NK (h_ (bp a.1) (bp a.2))).eraseDups.length+1:=by{delta Lw;rw[pairs_len];simp only[ie,cj,MU];rw[aIJ];rfl};rw[od];simp+arith [*]};have nd:c8 bcE:=aut Z.nd (fun x _=>aok) (fun e a0 f W z I c=>by rw[cn (vP (NJ I)),cb (vP (NJ c))];exact aSh Z a0 W a.2 b.2 (a6 z a.1 e a0 a.2));rw[ia (SR nd (m:=row) (sv (by obtain⟨l,_,h⟩:=aC3 c9;exact fe (NJ h)))) (hq (qS fh 1) b4.l this)]
theorem auw(Y:dz){e:Ln}(a0:iC){p:Pt}(h:a9Z):QB:=by have l:=jh;have o:=(x (Gs (zH l.1 l.2)) h).1;unfold isOn at o;simp only[ib,Nj,iW]at o;rw[fK (or (ja (e.1<aL) (jv l.1 l.2))),ep (or l.2)];lia-abstractProof
theorem auy{w h:Nat}{pts:ej}{lines:ni}{marks:qb}(hw:bk w)(c7:bk h)(c2:NN<65535)(a5:b2 lines.length)(c4:b2 aC5)(a8:cA pts O7)(k:∀m∈tn,uV):wL bbK:=by have H:=A5 pts;have b2:t OQ<=NN:=by{rw[J (aGe).length_eq (auu _)]};rw[e hw c7 ?_ ?_ ?_ ?_ ?_ ?_];{show t OQ<_;exact cf b2 c2};{show t (iZ kD _)<_;rw[aIJ];have:=auu bf7;rw[en]};{show t (iZ mV tn)<_;rw[aIJ];exact c4};{intro p a3;exact a8 p (x (H.2 p) a3)};{intro e a0;have V:e∈iZ kD (bf7).eraseDups:=a0;rw[(aGe).mem_iff,V6,fK]at V;grind-abstractProof};{intro m Z;exact k m ((yS mV tn).mem_iff.mp Z)}
universe GM
namespace GM
open Gla
variable{r:Plan}
theorem auz{p:uA}{n m:Nat}:QS=aa m↔m<n/\p m=ab/\E i (i<m) (p i=ah):=by rw[List.find?_eq_some_iff_getElem];rw[xq]
theorem aeJ{p:uA}{n:Nat}:QS=ae↔nR (p i=ah):=aT
noncomputable def aeK(r:Plan)(z:Pt):cb:=cv (0<z.x/\z.x<r.w)&&cv (0<z.y/\z.y<r.h)
theorem aSi(Z:bq)(Y:dz)(d:Bi)(m:Mark):(aeK r eM&&dk tT)=WA r m:=by delta WA Dr aeK;by_cases a3:0<ip/\ip<r.w;{by_cases a9:0<il/\il<r.h;{rw[f3 (atV Z Y d (z:=eM) (ie a3.2))];have e:dk tT=! HM r eM:=by{delta vm;cases q:Cf r eM with|none=>{rw[g.mp q];rfl}|some x=>simp_all};simp[*]};rw[xr]};rw[xr]
noncomputable def vo(r:Plan):hU:=qA (tm baB mV dR) (yR 0 [] amk)
theorem aSj(N:ka)(Y:dz)(d:Bi):vo r=(qA aaI (BE th)):=by delta vo;have e:(baB)=WA r:=by{funext m;exact aSi iX Y d m};rw[e];cases h:aaI with|some i=>{rfl}|none=>have t:=aeq N Y d dR 0 [] (S9.mp h).1 aT;simp only[zw]at t;simp only;rw[t]
noncomputable def Tj(r:Plan)(a:QY):hU:=a1 RG 4 (DG i) (a1 RJ 5 aoH (E (Lr r=ah) 6 jC (a1 anD 7 aoH (a1 Kg 8 (DG i) (a1 Kh 9 (DG i) (a1 Rw 10 (DG i) (vo r)))))))
theorem aSk(a3:1<aL){a:QY}(c6:aML):Tj r a=ND:=by delta Tj aiv;cases e5:RG with|some i=>{rfl}|none=>simp only;cases f:RJ with|some i=>{rfl}|none=>have Y:=aen e5 f;simp only;rw[atQ Y];cases b3:V3 r with|false=>{rfl}|true=>simp only[Bool.true_eq_false,iV];rw[aem (c6 Y)];cases b:aH6 with|some i=>{rfl}|none=>simp only;cases k:Kg with|some i=>{rfl}|none=>simp only;cases D:Kh with|some i=>{rfl}|none=>simp only;cases c:Rw with|some i=>{rfl}|none=>simp only;rw[aSj (c1 b b3 (j6 ai) c) Y (fun i hi q=>cq)];rfl
universe GM
namespace GM
open Gla
variable{r:Plan}
noncomputable def Tn(B r:Plan)(i:Nat)(l:Ln):cb:=Z (aCM Em) (aek B r i l) (Gu r i l)
theorem aeL{B:Plan}(k5:Lay B)(Y:dz){i:Nat}{l:Ln}(h:A bX l):Tn B r i l=alm:=by have a5:=bM h;delta Tn;split;{next q=>refine aRQ k5 Y a5 (Ny q) (fun m c4 e=>?_);rw[b_,gH C (ig c4),dE j4 (j<i),dE M (aa bX m),dE X (i<dQ)];have:=x (aCl (ES:j<dQ) Y.nd) (M.trans agO);simp_all};rw[l (S7 Y a5)]
theorem aSl{x:Gla.Step}(h:p4 x):n5 (.error ae):=by delta H5;rw[h]
theorem aSm{x:Gla.Step}{T:Plan}(h:aaE)(F:wL T){e:Fault}(a0:eQ T=aa e):n5 (.error rH):=bds
theorem aSn{x:Gla.Step}{T:Plan}(h:aaE)(F:wL T)(a0:eQ T=ae):n5 Jy:=bds
structure yU(r:Plan):Prop where
 fits:wL r
 ok:eQ r=ae
theorem Lx{c:Prop} [Hy c]{x:Fault}{y:hU}(h:(aw c x y)=ae):¬c/\y=ae:=by by_cases q:c;rw[yQ (aJ q)];{rw[i2 q];exact⟨q,h⟩}
theorem wi{a b n:Nat}(h:¬mW a b n=ah):a<=n/\n<=b:=hz mW h
theorem yU.GB(C:xX):(16<=r.w/\pt r.w)/\(16<=r.h/\pt r.h)/\N (4<=aL/\aL<=4096) (4<=dQ/\aHW) (1<=fM/\fM<=2048) (ND=ae):=by have h:=C.ok;obtain⟨a,h⟩:=Lx h;rw[i7 b (Lx h),db h (Lx h),i7 d (Lx h),fW h (Lx h)];exact c (wi a) (wi b) (wi c) (wi d) (wi e) h
theorem yU.clean(C:xX):kj:=auo (a2 C.GB.2)
def To:cw CK| .lead row m=>we (fh<=64/\cA row O7)| .move _ p=>O7| .mark _ m=>uV|_=>gD
theorem aSo(r:Plan):r.drawn.length=dQ:=cG Nx (bA _)
theorem Tp(C:xX){x:Gla.Step}(S:To x){T:Plan}(h:aaE):wL T:=by have e8:=C.GB;have F:=C.fits;have K:=C.clean;have sy:=aiA;cases x with|lead row m=>{rw[aj (at9 K.ord),cH];have X:=auv K row (fun p _ e a0 q=>auw K.ord a0 q);rw[an (by simp;have:=S.1.1;exact cf AR this) (bv S.1.1 (RS X iD this this)) (nI qa) uh (fun f7 Z=>?_)];{rw[h_ c2,a_,l (S.1.2 p q)]};{rw[h_ Z,l (wN f7 q),zv S.2]}}|erase i j=>{rw[tA bgw,YG,cX];{cases h';rw[cn (aiG a7H (eK aL)),cb (aiG ak2 bX),cc (v4 (aiF dR j)),an bz (eM b iD) (bn c qa) uh (fun f7 Z=>wN f7 ((aiF dR j).subset Z)),a7 k c3 c2];have:=fe c3;exact a_l}}|move k p=>{rw[tA (bhg),YG];{cases h';rw[an fS (nI iD) (gc qa) a_H wN,a7 i hi e0];split;rw[l S,l a_l]};rw[ay]}|mark i m=>{rw[tA (aME),YG];{cases h';rw[an bL (by rw[aSo];lia) fS sy (fun f7 Z=>?_),al (List.mem_or_eq_of_mem_set Z),l (wN f7 q)];{rw[e_];exact S}};rw[dX]}|drop k=>rw[a4 ps,ama,eI];{rw[cH,cn (aiG (mG (! H4 k l)) bX),cc (v4 (aiF dd k)),an (bn c AR) (eM a iD) bL (gW (sy p ((aiF dd k).subset c2))) wN]};{lia}
universe GM
namespace GM
open Gla
variable{r:Plan}
noncomputable def ks(a b:hU):hU:=dh a rH b
noncomputable def iK(r:Plan):hU:=Ky ae
noncomputable def GC(r:Plan):hU:=dC RG 4 (DG i)
noncomputable def GD(r:Plan):hU:=dC RJ 5 aoH
noncomputable def Ci(r:Plan):hU:=E (Lr r=ah) 6 jC ae
noncomputable def Cj(r:Plan):hU:=cU (iK r) (GC r) (ks (GD r) (Ci r))
noncomputable def Ck(r:Plan)(a:QY):hU:=dC anD 7 aoH
noncomputable def yV(r:Plan):hU:=cU (dC Kg 8 (DG i)) (dC Kh 9 (DG i)) (dC Rw 10 (DG i))
theorem size_eq(r:Plan):eQ r=ks (iK r) ND:=by delta eQ iK ks;split;{rfl};(split<;>lia)
theorem aSp(r:Plan)(a:QY):Tj r a=cU (GC r) (GD r) (cU (Ci r) (Ck r a) (ks (yV r) (vo r))):=by revert r a;refine Kp;rw[bW r a];delta Tj GC GD Ci Ck yV ks;cases RG with|some i=>{rfl}|none=>cases RJ with|some i=>{rfl}|none=>cases Lr r with|false=>{rfl}|true=>cases anD with|some i=>{rfl}|none=>cases Kg with|some i=>{rfl}|none=>cases Kh with|some i=>{rfl}|none=>rw[ls Rw]
theorem auA(a b c:hU):ks (ks a b) c=cU a b c:=sI a
theorem Tq{a b:hU}(h:a=ae):ks a b=b:=dd h
theorem aeM{a:QY}(c6:aML):eQ r=cU (Cj r) (o_ a) (vo r):=by rw[WB];delta Cj;rw[auA];cases h:iK r with|some e=>{rfl}|none=>rw[<-aSk (by delta iK mW at h;rw[eI,cX,eI,cX];grind) c6,aSp];simp only[auA]
theorem auB(h:Cj r=ae):N dz Y0 (1<aL) (iK r=ae):=by rw[a4 Cj,fl b1 (iK r) (iK r),aj (Tq b1),fl e5 (GC r) (GC r),aj (Tq e5),fl f (GD r) (GD r),aj (Tq f)];have Y:=aen (hz GC e5) (hz GD f);rw[w Y ?_ ?_ b1];{rw[a4 Ci];rw[<-atQ Y];grind-abstractProof};{delta iK mW at b1;split at b1;rw[cX];split at b1;rw[cX];grind-abstractProof}
theorem auC(W:Cj r=ae){a:QY}(c6:aML)(d1:o_ a=ae):bcP:=by obtain⟨Y,n,a3,_⟩:=auB W;rw[aO b (Ck r a) (Ck r a) d1 d1];rw[Tq b]at d1;delta Ck at b;have c:anD=ae:=by{simp_all};rw[aem (c6 Y)]at c;delta yV at d1;rw[aO k Kg Kg d1 d1];rw[k]at d1;have j2:=d1;rw[aO D Kh Kh j2 j2];rw[D]at j2;rw[dy d alT ai];exact v (c1 c n d (by cases q:Rw with|some e=>{rw[q]at j2;cases j2}|none=>rfl)) Y d
theorem aSq{B:Plan}(C:aiH B)(c2:dd=pw)(a5:bX=Wn):o_ (DD r)=ae:=by obtain⟨w,h,p,l,m⟩:=r;obtain⟨c5,h',u,i1,f7⟩:=B;cases c2;cases a5;delta Ck yV;have j2:HU (DD apK) l=ae:=C.f7;have j9:ci wQ (oI (s6 (Plan.near apK i)))=ae:=C.f8;have j8:ci wQ (Df (aih (aCG apK) wQ 0 (Dy wQ)))=ae:=C.f9;have e2:ci wQ (Wj (aCG apK) wQ)=ae:=C.f10;simp only[j2,j9,j8,e2];rfl
noncomputable def Tr(r:Plan)(k:bY H6):hU:=cU (Cj r) bg7 (vo r)
theorem aSr{k:bY H6}(U:bcQ):Tr r k=eQ r:=by delta Tr;cases k with|none=>{exact bt (aeM (fun Y i l h=>S7 Y (bM h)))}|some B=>have C:=U B rfl;simp only;split;{next q=>rw[aeM (r:=r) (a:=DD r) (r9 rfl),bcG]};rw[l (bt (aeM (fun Y i l h=>aeL DF Y h)))]
theorem aSs{k:bY H6}(U:bcQ)(W:Cj r=ae)(d1:(bg7)=ae):bcP:=by cases k with|none=>{exact GA (S7 Y (bM h))}|some B=>have C:=U B rfl;simp only at d1;split at d1;{next q=>exact auC W (a:=DD r) (r9 rfl) bcG};rw[l (GA (aeL DF Y h))]
universe GM
namespace GM
open Gla
variable{r:Plan}
theorem auD(Y:dz){i:Nat}(hi:g_):NO eH=i:=by have c4:=yK hi;refine Wl (wH c4) hi ?_;rw[fd e (K dd (NO eH) eH)];delta aCq at e⊢;rw[WC,e];rfl
theorem aSt(Y:dz):iZ ih r.pts.eraseDups=dd:=bt (Tg (as aCZ) Y.dP)
theorem auE(Y:dz)(w h:Nat)(d8:qb):H0 w h dd H2 d8=a w h dd bX (iZ mV d8):=by delta H0;simp only[aSt Y];rw[dY];have e:(r.drawn.map (bE (NO l.1) (NO l.2) (NO l.1) (NO l.2)))=bX:=by{delta Nx;rw[jz];rw[up bX,j0 Yv];have:=Rm;simp only[Wv];rw[auD Y Q8,auD Y ag];grind-abstractProof};rw[J e (bt (aev (as aCZ) Y.ls))]
theorem aSu(Y:dz){i:Nat}(h:i<fM)(m:Mark):ps r Z2=aa (BZ (iZ mV Yg)):=by show(aME)=_;rw[aJ h,auE Y]
theorem mark_none{i:Nat}(h:¬i<fM)(m:Mark):p4 Z2:=by show(aME)=_;rw[aO h]
theorem auF{k:Nat}(h:¬k<aL)(p:Pt):p4 aoI:=by show bo (k<aL) _ ae=ae;rw[aO h]
theorem aSv(Y:dz){k:Nat}(h:k<aL)(p:Pt):ps r aoI=aa (ct Zl (a3K (cs (am Zl l.1 jT,am Zl l.2 jT))) dR):=by rw[dy f (im ((v i k p eH)=am Zl i jT)) (by rw[WC,List.getElem?_set];rw[b2 i k,a_];{rw[c_ e (ah (e zD))];delta aCq;rfl}),gH bhg];rw[aJ h];have b4:(a7P)=Zl:=by{rw[alN];intro i a3 a9;grind-abstractProof};rw[b4];congr 2;rw[j0 Yv];have:=Rm;grind-abstractProof
noncomputable def Ly(r:Plan)(k:Nat):ao:=iI (H4 k) (l.1+l.2-k)
theorem auG{k:Nat}(h:t (Ly r k)≠2):p4 (.drop k):=by rw[a4 Ly];delta ps;grind-abstractProof
set_option tactic.hygienic true in theorem drop_eq{k a b:Nat}(h:Ly r k=[a,b]):ps r (.drop k)=aa (ct (r.pts.eraseIdx k) ((iI (k9 (H4 k l)) Em)++[(rq,bp b)]) dR):=by have c:∀l∈YU,(v l.1 k rr pG)=bp (l.1+l.2-k):=fun l a5=>by{rw[c7 (vP a5).2];unfold endsAt at e;rw[Pp]};rw[a4 Ly];delta ps;simp only;split;rw[ay];{next f6=>obtain⟨x,y,e⟩:∃x y,YU=Jp:=by{cases q:YU with|nil=>{simp_all}|cons x J=>cases J with|nil=>{simp_all}|cons y J=>simp_all};lia}
theorem auH{T:Plan}{c d8:qb}(Z:WD=iZ mV c)(p:aiI c)(s:a3M (fs amz)):eQ am4=eQ T/\(eQ T=ae->am4=T):=by have D:=atY p s;rw[<-Z]at D;rw[v (by delta eQ;simp only[(nn (gC aC6 D)),aR7 T d8 D]) (fun h=>?_)];have C:aiH T:=by{refine auo ?_;rw[aj WB];cases q:iK T with|some e=>{rw[m7 q]}|none=>rw[aj q];exact h};have:d8=WD:=t Z (aR4 p (by have a4:gV (T.marks.map AV) amt:=a3L H3.2;grind-abstractProof));rw[gq];rfl
universe GM
namespace GM
open Gla
def aeN:cw CK| .lead row m=>aMU| .erase i j=>i<65536/\j<65536| .move k p=>b2 k/\bk p.x/\bk p.y| .mark i m=>we (i<65536)| .drop k=>b2 k
def Cm:cw CK| .lead row m=>aMU| .move _ p=>O7| .mark _ m=>uV|_=>gD
theorem Cm.ok:∀{x:Gla.Step},Cm x->To x| .lead _ _,h=>⟨⟨h.1.2.1,h.1.2.2⟩,h.2⟩| .erase _ _,_=>fZ| .move _ _,h=>h| .mark _ _,h=>h| .drop _,_=>fZ
theorem Cm.fit{r:Plan}(C:xX){x:Gla.Step}(h:Cm x){T:Plan}(m:aaE):aeN x:=by rw[h7 C.GB];have K:=C.clean;cases x with|lead row mk=>{exact h}|erase i j=>{have:¬(i=j\/an6):=ah (wx (aur K q));have w:=Hc (cj (this (.inr k)));exact⟨hq (Wr i j) w qa,hq (HK i j) w qa⟩}|move k p=>{rw[gh (k<aL) (auF q) AR]}|mark i mk=>{rw[gh (i<fM) (mark_none q) qa]}|drop k=>rw[cN (qN (ah (wx (auG q))))];unfold Ly at q;rw[cQ bA];obtain⟨l,a5⟩:∃l,l∈YU:=by{cases e:YU with|nil=>{simp_all}|cons a J=>simp};rw[fK (K.ord.lt l (fe a5)),ep (vP a5).2];unfold endsAt at a9;simp at a9;show b2 k;grind-abstractProof
noncomputable def Lz(r:Plan)(x:Gla.Step):a3N hU H6:=match ps r x with|none=> .error ae|some T=>dh (eQ T) (.error rH) Jy
theorem Ts{r:Plan}(C:xX){x:Gla.Step}(h:To x):n5 (Lz r x):=by delta Lz;cases m:ps r x with|none=>{exact aSl m}|some T=>have F:=Tp C h m;simp only;cases e:eQ T with|some d3=>{exact aSm m F e}|none=>exact aSn m F e
theorem aSw{r:Plan}(C:xX){x:Gla.Step}(h:To x){T:Plan}(e:n5 Jy):yU T/\aaE:=by rw[a6 (Ts C h)];delta Lz at e;cases m:ps r x with|none=>{simp_all}|some d=>rw[a6 m];simp only at e;cases f:eQ d with|some d3=>{simp_all}|none=>rw[a6 f,dU];exact dv ⟨Tp C h m,f⟩
structure bT where
 cs:bK H6
 ss:bK CK
 d:Nat
structure ku(R:bT):Prop where
 len:a3O=lI+1
 dl:aIL
 LA:∀r∈pz,xX
 fit:aL mX (aeN x)
 st:∀(i:Nat)x r T,i (fh mX) (A pz r) (K pz (i+1) T) (n5 Jy)
 few:lI<=65536
noncomputable def bT.gr(R:bT):a3P:=v a8c tR YV
noncomputable def bT.cur(R:bT):H6:=R.cs.getD R.d al1
theorem ku.get{R:bT}(Y:hp){i:Nat}(h:i<=lI):z r (A pz r) xX:=by have hi:i<a3O:=by{have:=NP;simp+arith [*]};exact aw pQ (Y.LA _ (te hi))
theorem ku.cur{R:bT}(Y:hp):K pz R.d gc/\yU gc:=by obtain⟨r,h,c⟩:=aiJ wR;have e:gc=r:=by{delta bT.cur;simp[*]};simp[*]
theorem ku.first{R:bT}(Y:hp):K pz 0 tp/\yU tp:=by obtain⟨r,h,c⟩:=aiJ cS;have e:tp=r:=by{delta pA;cases q:pz with|nil=>{grind-abstractProof}|cons a J=>simp_all};simp[*]
theorem auI:∀(l:bK CK)(r T d:Plan)(x:Gla.Step),aiK r l=aa T->H5 T x= .ok d->aiK r (l++[x])=aa d|[],r,T,d,x,h,g=>by{rw[cH];show m4 x []=aa d;delta DH;rw[g];rfl}|y::J,r,T,d,x,h,g=>by rw[tA (m4 y J)];show m4 y (J++[x])=aa d;cases q:DH r y with|none=>{simp_all}|some V=>rw[q]at h';exact auI J V T d x h' g
theorem ku.after{R:bT}(Y:hp):∀(i:Nat),i<=lI->aiK tp (NQ i)=pz[i]?|0,_=>dd aC8.1|i+1,h=>by have d6:=aBF i dV;obtain⟨r,b2,_⟩:=aiJ (i:=i) dV;obtain⟨T,Z,_⟩:=aiJ (i:=i+1) h;have hi:i<lI:=by{trivial};rw[b2]at d6;rw[aC7 hi,Z];exact auI _ _ r T _ d6 (Y.st i _ r T pQ b2 Z)
theorem ku.now{R:bT}(Y:hp):R.gr.now=gc:=by delta Gla.Record.now;have:=aBF R.d wR;rw[am DI.1,q8 (Gla.after tp tR),od];rfl
theorem aeO{r:Plan}(C:xX):ku (kG r):=by rw[dw rfl aY (l2 cS),a_];{simp};(intros;trivial)
noncomputable def bT.add(R:bT)(x:Gla.Step)(T:Plan):bT:=v (P5++[T]) anp jO
theorem ku.add{R:bT}(Y:hp){x:Gla.Step}(S:Cm x){T:Plan}(h:H5 gc x=Jy)(few:b2 R.d):ku ZQ:=by have c:=DI;have t:=aSw c.2 S.ok h;rw[cZ a7 (t P5) jO,bhf,dw (bx NR a7 d5) (eN NR d5) (l2 (by simp[NR,d5];exact HI bF))];{intro r b2;rw[h_ b2,l (Y.LA r (qZ q))];simp_all};{intro y b6;rw[h_ b6,l (aiL y (qZ q)),zv (S.fit c.2 t.2)]};{intro i y r d a3 a9 e2;simp only[NR]at a3 a9 e2;by_cases q:i<R.d;{rw[hD ag,sX q]at a3;rw[hD (b8 q a7.g),sX Jh]at a9;rw[hD ag,sX ag]at e2;exact Y.st i y r d a3 a9 e2};{rw[f5 (bx a3)];rw[cj,d5]at a5;rw[fv (i=R.d) (mS (HI a5) (a3Q q))];rw[pj (qM d5),d5,zE]at a3;rw[hD (t a7 jX),sX jX]at a9;rw[pj (qM a7),a7,zE]at e2;cases a3;cases e2;rw[J (cZ (a9.symm.trans c.1)) h]}}
theorem bT.aSx{R:bT}(Y:hp)(x:Gla.Step)(T:Plan):(ZQ).gr={wU with done:=aiM++[x],undone:=[]}:=by rw[bhf];have b4:an anp jO=anp:=DJ (ar d5);have b9:dh anp jO=[]:=aiy (ar d5);have f5:(P5++[T]).headD al1=a8c:=by{cases q:pz with|nil=>{have:=NP;simp_all}|cons a J=>rfl};delta NR pA;simp only[*]
theorem ku.aeP{R:bT}(Y:hp):R.gr.done.length=R.d:=by show t tR=R.d;rw[eS];have:=wR;exact kS
theorem ku.auJ{R:bT}(Y:hp):R.gr.undone.length=ug:=by show t YV=_;rw[sR]
theorem aSy{R:bT}(Y:hp)(h:R.d=0):R.gr.undo=ae:=by delta a3R;have:aiM=[]:=by{show tR=[];rw[h];rfl};rw[od];rfl
theorem auK{R:bT}(Y:hp)(h:R.d≠0):R.gr.undo=aa (pf tZ)/\ku (iq tZ):=by have dl:=wR;have hi:tZ<lI:=by{lia};have e:tR=a_N:=by{rw[Hv (aC7 hi)]};have b9:aC9 tZ=mX[tZ]::YV:=by{rw[Hv (Wx hi)]};rw[Hk bL];delta a3R;have hd:aiM=a_N:=e;rw[hd];simp only[List.getLast?_append,List.getLast?_singleton,Option.some_or,List.dropLast_concat];delta pA;simp only[b9]
theorem aSz{R:bT}(Y:hp)(h:ug=0):R.gr.redo=ae:=by delta a3S;have:aC_=[]:=by{show YV=[];exact aiy (bn (aS lI R.d) h.l)};rw[od]
theorem auL{R:bT}(Y:hp)(h:ug≠0):R.gr.redo=aa (pf jO)/\ku (iq jO):=by have hi:R.d<lI:=by{lia-abstractProof};have e:NQ jO=tR++[mX[R.d]]:=aC7 hi;have b9:YV=bbj:=Wx hi;rw[Hk bB];delta a3S;have hd:aC_=bbj:=b9;rw[hd];simp only;delta pA;simp only[e]
theorem bT.all(R:bT):aiM++aC_=mX:=DA _ _
noncomputable def GF(b:Bytes)(p:Nat):hU:=match aiN b p with| .error e=>rH| .ok k=>E (cw<p+k) 6 cw ae
noncomputable def LB(b:Bytes)(p:Nat):Nat:=match aiN b p with| .error _=>0| .ok k=>k
theorem Tt{b:Bytes}{p:Nat}{c:UInt8}(h:aKl):c5 p 1=eD:=by delta num;rw[eB c2 p cw];rw[Wx c2];rw[aj (da c2),cH];show NF [b[p]]=b[p].toNat;exact HG _
theorem aSA{b:Bytes}{n:Nat}{r:Plan}{p:Nat}{e:Fault}(h:GF b p=aa e):BD Am:=bbr
theorem aSB{b:Bytes}{n:Nat}{r:Plan}{p:Nat}(h:JF)(t:DH r uS=ae):BD (wR 7):=bbr
theorem aSC{b:Bytes}{n:Nat}{r T:Plan}{p:Nat}(h:JF)(t:DH r uS=aa T):BD (gG (zJ b n T aHv) (uS::x.1,x.2)):=by rw[a4 GF];delta LB;conv=>{lhs;unfold readSteps};rw[xr]
theorem aeQ{b:Bytes}{p:Nat}(h:JF):∃c:UInt8,aKl/\eD<=4/\D3 (aLG/\2<=jH/\jH<=64):=by revert h;revert b p;refine Kp;rw[bW b p,eE];delta GF aiN at h;cases q:b[p]? with|none=>{simp_all}|some c=>rw[ak c rfl,aj q,ama,d9 u c];{subst u;rw[v ax (fun _=>?_)];cases d2:b[p+1]? with|none=>{simp_all}|some n=>rw[aj d2,nC mM,bC w (mW 2 64 jH),l (aP n (by delta mW at w;simpa using w))];simp_all};{rw[l6 (an (cy e (an (u (by apply aC';simpa using e))))),i2 u,N e5 c 1,ay,i2 e5,N e6 c 2,ay,i2 e6,N c1 c 3,ay,i2 c1,N i0 c 4,ay,i2 i0,cH]}
theorem aSD{b:Bytes}{p:Nat}(h:JF):LB b p=(rg (c5 p 1) (c5 (p+1) 1)):=by revert h;revert b p;refine Kp;rw[bW b p,eE,eJ i0 a5 (aeQ h)];rw[Tt b0];delta LB aiN;rw[b0];simp only;have l:∀k:Nat,k<256->(c=aiO k↔eD=k):=fun k c3=>by{rw[<-UInt8.toNat_inj,aDa];rw[ue]};have I:=l 4 ax;have cs:aMS:=by{lia};rw[aMW];{obtain⟨n,d1,n1,n2⟩:=a5 e;have z:c=0:=ae (l 0 ax) e;rw[aJ z,d1,e,Tt d1];have w:mW 2 64 jH=ab:=by{delta mW;simp[n1,n2]};simp+arith [*]};rw[z2 1,z2 2,z2 3,ay]
theorem aeR(b:Bytes)(p:Nat):bk (ptAt b p).x/\bk (ptAt b p).y:=⟨eL p 4 ptAt,eL (p+4) 4 ptAt⟩
theorem auM(b:Bytes)(p:Nat):(bk (apu).at_.x/\bk (apu).at_.y)/\b2 (apu).glass/\b2 (apu).painting:=v (aeR b p) (eL (p+8) 2 aDb) (eL (p+10) 2 aDb)
theorem auN{b:Bytes}{p:Nat}(h:JF):Cm uS:=by have⟨c,b0,i0,a5⟩:=aeQ h;delta a3T;simp only;rw[Tt b0];split;{next e=>have⟨n,d1,n1,n2⟩:=a5 e;rw[Tt d1];rw[v (v ag ag (fun q e0=>?_)) (auM b _),iH i (zy e0)];exact aeR b _};{split;rw[cX];{split;rw[l (aeR b _)];{split;rw[l (auM b _),cX]}}}
structure vp(b:Bytes)(N:Nat)(n:Plan)(f i:Nat)(R:bT)(p:Nat):Prop where
 ok:hp
 d:R.d=i
 l:lI=i
 first:K pz 0 n
 le:i<=N
 eq:u9 (gG (zJ b (N-i) gc p) (mX++x.1,x.2))
theorem aSE{b:Bytes}{N:Nat}{n:Plan}(C:yU n)(f:Nat):ep 0 (kG n) f:=by rw[y (aeO C) rfl rfl (aw cS)];show zJ b N n f=gG (zJ b (N-0) n f) ([]++x.1,x.2);rw[ah6];rw[kw (zJ b N n f) x]
theorem aSF{R:bT}(Y:hp)(x:Gla.Step)(T:Plan):(ZQ).cur=T:=by have a7:t P5=jO:=by{rw[eS];have:=NP;have:=wR;simp[*]};delta bT.cur NR;simp only;simp[*]
theorem vp.step{b:Bytes}{N:Nat}{n:Plan}{f i:Nat}{R:bT}{p:Nat}(I:aJo)(hN:N<=65536)(lt:i<N)(h:JF){T:Plan}(t:H5 gc uS=Jy):ep (i+1) (WE uS T) aHv:=by have d:=I.d;rw[cd I.l,dw (I.ok.add (auN h) t (fL d.l (fJ lt hN))) (by show jO=_;rw[xM]) (aw lt)];{show t (tR++[uS])=_;simp[*]};{show(P5++[T])[0]?=_;have:=I.ok.len;rw[hD ag,sX p_];exact I.first};{rw[c7 I.eq];rw[a72,aSC h (by delta DH;rw[t])]at e;rw[e,aSF Vc];have a7:(WE uS T).ss=mX++[uS]:=by{show tR++[uS]=_;grind-abstractProof};rw[a7];cases zJ b (N-jd) T aHv with|error e=>{rfl}|ok x=>simp[Except.map]}
theorem vp.fail{b:Bytes}{N:Nat}{n:Plan}{f i:Nat}{R:bT}{p:Nat}(I:aJo)(lt:i<N){e:Fault}(h:GF b p=aa e):u9 Am:=Hw (aSA h)
theorem vp.no{b:Bytes}{N:Nat}{n:Plan}{f i:Nat}{R:bT}{p:Nat}(I:aJo)(lt:i<N)(h:JF)(t:∀T,H5 gc uS≠Jy):u9 (wR 7):=Hw (aSB h (by delta DH;rw[Pp]))
theorem vp.done{b:Bytes}{N:Nat}{n:Plan}{f:Nat}{R:bT}{p:Nat}(I:ep N R p):u9 (.ok (mX,p)):=by have q:=I.eq;rw[cQ zE];rw[q];show Except.ok (mX++[],p)=_;rw[qQ]
noncomputable def yW(b:Bytes):hU:=f2 16 SAVED (E (STEPS<aad) 2 8 (E (cw<16+JQ) 3 cw ae))
theorem aSG{b:Bytes}{e:Fault}(h:yW b=aa e):H7 b=Am:=by rw[a4 yW];delta H7;rw[eI,ay,kb]
theorem auO{b:Bytes}(h:yW b=ae):(aad<=65536/\16+JQ<=cw)/\H7 b=(match wO (yA JQ)with| .error e=> .error a92| .ok r=>match zJ b aad r (16+JQ)with| .error e=>Am| .ok (l,p)=>if p<cw then wR 8 else .ok (v r (Hd Av) (oQ Av))):=by rw[a4 yW];delta H7;rw[eI,al4];next d2=>rw[eI,al4];next q2=>rw[eI,al4];next q3=>rw[eI,al4];next i6=>rw[bj d2,bj q2,bj q3,bj i6];exact dv ⟨by delta STEPS at q3;exact(qx q3),j9 i6⟩
theorem vp.got{b:Bytes}{n:Plan}{p:Nat}{R:bT}(I:vp b aad n (16+JQ) aad R p)(h:yW b=ae)(j:wO (yA JQ)= .ok n)(a0:¬p<cw):H7 b= .ok (pf Av)/\ku (iq Av):=by have Y:ku (iq Av):=c I.ok.len (by show Av<=lI;have:=I.l;simp[*]) I.ok.LA I.ok.fit I.ok.st I.ok.few;rw[l6 Y];rw[(auO h).2,j];simp only[I.done];rw[aO a0];have e:(pf Av).first=n:=by{have:=aC8.1;rw[fI I.first];simp_all};rw[dY];delta pA at e⊢;simp only at e⊢;rw[e]
noncomputable def aeS(b:Bytes):hU:=f2 jC aiz (ks (iK rN) (E aJ_ 2 18 (E aMG 3 jC ae)))
theorem aeT(b:Bytes):(rN).pts.length=c5 12 2/\(rN).lines.length=c5 14 2/\(rN).marks.length=c5 16 2:=i4 lH
theorem auP(b:Bytes):wL rN:=by have l:=aeT b;have y:=DV 4;have n2:=DV 2;rw[e (y 4) (y 8) ag ag ag ?_ ?_ ?_,aL4,aL4,aL4]
theorem auQ(b:Bytes):wO b=dh (aeS b) Am (jw (eQ rN) rN):=by rw[cd (aeT b)];delta aeS wO;by_cases a3:cw<jC;rw[a_,c_ a3 a3];by_cases a9:xl≠aiz;rw[a_];rw[PX,PX,WB];delta iK;rw[l.1,l.2.1,l.2.2];rw[ab n (rN).w JQ,ab f (rN).h Av];rw[n,f];split;{rfl};split;{rfl};split;{rfl};split;{rfl};split;{rfl};{show _=dh (aw aJ_ (⟨2,18⟩:a3U) (E aMG 3 jC ae)) (Except.error e) (jw (rN).fault rN);by_cases e2:aJ_;rw[a_,c_ e2 e2];by_cases e5:aMG;rw[a_,c_ e5 e5];rfl}
theorem auR{b:Bytes}{r:Plan}(h:wO b= .ok r):xX:=by rw[aj auQ];cases q:aeS b with|some e=>{simp_all}|none=>rw[aj q,ama];cases J:eQ rN with|some e=>{simp_all}|none=>rw[aj J,cH];exact⟨auP b,J⟩
noncomputable def LC(w h:Nat):ej:=[jT,jZ w,ht h,ix w]
noncomputable def Tu(w h:Nat):ni:=[(jT,jZ w),(jT,ht h),(jZ w,ix w),(ht h,ix w)]
noncomputable def auS(w h:Nat)(m:Mark):H6:=H0 w h (LC w h) (Tu w h) [m]
theorem aSH{w h:Nat}(hw:0<w)(c7:0<h)(m:Mark):qw=rZ:=by have Y:Ord bh1:=by{rw[dw ?_ ?_ ?_];{simp[LC,ih,hw,c7]};rw[bbI,bbI];{intro e a0;simp at a0;rw[k3 a0]<;>simp[LC]};{simp[kD]}};have:=auE Y w h [m];delta auS;rw[ab e (Nx bh1) (Tu w h),am e];exact this
theorem Tv{w h:Nat}(m:Mark):eQ qw=eQ rZ/\(eQ rZ=ae->qw=rZ):=by by_cases q:0<w/\0<h;rw[l8 (aSH q.1 q.2)];{have b4:iK qw=iK rZ/\iK rZ≠ae:=by{delta iK;rw[ab a (qw).w w,ab b (qw).h h,ab c (rZ).w w,ab d (rZ).h h];rw[a,b,c,d];by_cases z:wa w;rw[a_];{rw[c_ z z];have h6:mW aDd aDc h=ah:=by{delta mW aDd aDc at z⊢;grind-abstractProof};simp[*]}};rw[WB,WB,b4.1];cases J:iK rZ with|none=>{rw[dT J b4.2]}|some e=>exact bd (c_ PM)}
theorem auT{w h:Nat}{m:Mark}(hw:bk w)(c7:bk h)(c4:uV):wL rZ:=by rw[e hw c7 AN AN AN ?_ ?_ ?_];{intro p c2;simp[aiP]at c2;rw[k3 c2];{decide};rw[jp hw a8t,jp a8t c7,jp hw c7]};{intro e a0;simp[aiP]at a0;rw[Fm]};{intro f7 Z;simp[aiP]at Z;subst Z;exact c4}
theorem aSI{w h:Nat}{m:Mark}(hw:bk w)(c7:bk h)(c4:uV):wO (q_ rZ)=jw (eQ qw) qw:=by rw[at8 (auT hw c7 c4),(Tv m).1];cases q:eQ rZ with|some e=>{rfl}|none=>rw[(Tv m).2 q]
theorem aSJ{w h:Nat}{m:Mark}(hw:bk w)(c7:bk h)(c4:uV)(e:eQ qw=ae):yU qw:=by have q:=e;rw[cQ (Tv m).1,l6 e];rw[(Tv m).2 q];exact auT hw c7 c4
universe GM
namespace GM
open Gla GlaKeeps
noncomputable def dst(o:PJ)(c:GlaKeeps.Call):GlaKeeps.State×aQ:=((aDh (tq pA) c).1,a3V (aDh (tq pA) c).2)
noncomputable def auU(e:Fault):aQ:=[-5,v e.rule,v aDi]
theorem aSK(o:PJ){b:Bytes}(h:cw<=131072):dst o (.open_ b)=match wO b with| .error e=>aIK| .ok r=>p8 (pA (kG r)):=q2 BYTES (wO b)
theorem aSL(o:PJ){b:Bytes}(h:cw<=67108864):dst o (.read b)=match H7 b with| .error e=>aIK| .ok J=>p8 J:=q2 READ (H7 b)
theorem auV(o:PJ){c:GlaKeeps.Call}(a3:aG'=ab\/M6=ab)(h:aiQ c=ah):dst o c=(tq pA,[-1]):=by rw[Yy];rw[bj (by rintro⟨a,b⟩;rw[al a3,cL,ay]),aJ h];rfl
theorem aSM{c:GlaKeeps.Call}(h:aG'=ah):dst ae c=(ae,[-9]):=by rw[Yy];rw[aJ (dv h)];rfl
theorem aSN(o:PJ){w h:Nat}{m:Mark}(b3:aiQ apf=ab):dst o apf=dh (eQ qw) aIK (p8 (pA (kG qw))):=by have c7:D (bk w) (bk h) aFR (b2 jA) (b2 kE):=by{delta wV zK aDj rd zK at b3;simpa using b3};rw[Yy,C1 hV];delta a3W;simp only[iP,iV];rw[aSI c7.1 c7.2.1 c7.2.2];rw[Ea (eQ qw)]
theorem aeU{R:bT}{c:GlaKeeps.Call}(b3:aiQ c=ab)(U:aG'=ah):dst lV c=((NS wU c).1,a3V (NS wU c).2):=by rw[Yy,c_ aT hV];cases c<;>first|rfl|(cases U)
theorem aSO{R:bT}(Y:hp){c:GlaKeeps.Call}{x:Gla.Step}(b3:aiQ c=ab)(S:stepOf c=aa x)(sa:Cm x):dst lV c=match Lz gc x with| .error none=>lL [-2]| .error (some e)=>lL (auU e)| .ok T=>mq (lL [-3]) (p8 (ZQ).gr):=by rw[aeU b3 (by cases c<;>first|rfl|rw[pV])];have e:NS wU c=stepOn wU x:=by{cases c<;>first|(rw[pV];rfl)|trivial};rw[e];delta stepOn;rw[Y.now,Ts DI.2 sa.ok];cases Lz gc x with|error q=>{cases q with|none=>{rfl}|some f=>rfl}|ok T=>simp only[Y.aeP];delta STEPS;split;{rfl};{rw[bT.aSx Y x T];rfl}
theorem aSP{R:bT}(Y:hp):gC .undo R.d tZ:=gU R.d (aSy Y h) (auK Y h)
theorem aSQ{R:bT}(Y:hp):gC .redo ug jO:=gU ug (aSz Y h) (auL Y h)
theorem aSR{R:bT}(Y:hp){n:Nat}(h:n<=2):dst lV (.count n)=lL [0,ae bfG]:=by rw[aeU (x (dH bF)) rfl];delta NS;simp only[Y.now,Y.aeP,Y.auJ];rfl
noncomputable def bN(b:Bytes):aQ:=wW (gX (v eD))
theorem aSS{R:bT}(Y:hp):dst lV .plan=lL (0::ks (bN (q_ gc))::bN (q_ gc)):=by rw[aGt];delta NS;simp only[Y.now];rfl
theorem aST{R:bT}(Y:hp):dst lV .save=lL (0::ks a_m::a_m):=dd aGt
theorem aSU(o:PJ){c:fC}{x:GlaKeeps.Call}(h:aHS):aiR (tq pA) c=dst o x:=ga aiR h
universe GM
namespace GA
open PySem PySem.Spec PyProof.Rows L2
structure Tw(K:Fg)(mg:dN)(x:Str)(st:Stmt)(c5:cW)where
 f:eh
 fd:U1
 F:ju x fd
 m:jM (mg x) f
 b:aaA
structure mz(K:Fg)(C:Addr)(m j:Str)(st:Stmt)(c5:cW)where
 f:eh
 fd:U1
 F:K3 K m j st f fd
 b:aaA
 h:Meth K C m f
structure vq(K:Fg)(C:Addr)(j:Str)(st:Stmt)(c5:cW)where
 f:eh
 fd:U1
 F:K3 K "__init__" j st f fd
 b:aaA
 h:Mk K C f
section z
variable{P:Program}{w:World}{K:Fg}{mg:dN}{base:Heap}{x m:Str}{C:Addr}{st:Stmt}{N c5:cW}{k:Nat}{e8:Sp}
abbrev Tw.Ok(R:apE)(P:Program)(w:World)(base:Heap)(k:Nat)(e8:Sp):Prop:=aM2
abbrev mz.Ok(R:a9S)(mg:dN)(P:Program)(w:World)(base:Heap)(k:Nat)(e8:Sp):Prop:=aM2
abbrev vq.Ok(R:y6 x)(mg:dN)(P:Program)(w:World)(base:Heap)(k:Nat)(e8:Sp):Prop:=aM2
theorem Tw.go(R:apE)(r:apD)(U:∀(e3:Value)(A:Around)(outer:kf)(s:Shared)(H:Hp)(vs:af)(Q:VK)(E:XK),Cc (yF so P w K mg aj N x Eh R.f e3 A eA s H E))(len:aJx):R.Ok P w aj (k+1) e8:=aLu
theorem mz.go(R:a9S)(r:apD)(U:∀(e3:Value)(A:Around)(outer:kf)(s:Shared)(H:Hp)(vs:af)(Q:VK)(E:XK),Cc (yF so P w K mg aj N x Eh R.f e3 A eA s H E))(len:aJx):bhJ:=aLu
theorem vq.go(R:y6 x)(r:apD)(U:∀(e3:Value)(A:Around)(outer:kf)(s:Shared)(H:Hp)(vs:af)(Q:VK)(E:XK),Cc (yF so P w K mg aj N x Eh R.f e3 A eA s H E))(len:aJx):bhJ:=aLu
universe z
section z
variable{X:Cx}
theorem kc{x:Str}{st:Stmt}{c5:cW}{e8:Sp}{j k:Nat}{e:Expr}{a7:fE}{t:TA}{p pos:Pos}(R:bgN)(G:biI)(a6:Qq)(c3:j<=k)(d8:qo)(b3:FA)(l:mj)(a0:Bv)(b8:JW):a'9:=aO5 (G.mono c3) a6 d8 R.m R.F.kp R.b .nil fu b3 l a0 b8
theorem gi{x:Str}{n:Int}{pos:Pos}(c4:aC t (mJ x) (e0 n))(d8:ch qo)(hd:mj):M (gT pos) (pu n):=by rw[i7 t c4];exact aqN d8 h (dv t) hd
universe z
variable{H L a8 b7:Hp}{K:Fg}
theorem bZ{l:Addr}{o:HO}(h:xj):cY H JT:=ss (Y (eo h) e)
theorem fI{l:Addr}{o:HO}(s:bP)(h:xj):cY H (upd L l o):=ss (Y (eo h) (s b u e))
def vr(H L:Hp):Prop:=j a O (cy tO) (L a=aa tO)
theorem vr.trans(a:vr H a8)(b:vr a8 b7):vr H b7:=fun x O h=>b x O (a x O h)
theorem dj(s:bP):QM:=fun a O h=>bv h
theorem yX{l:Addr}{o:HO}(m:uX (H l)):vr H JT:=fun a O h=>Y (an (by rw[b_];rw[h]at m;exact m)) h
theorem GG{l:Addr}{o:HO}{O:af}(h:am l O):vr H JT:=yX (w7 h)
theorem GH{l:Addr}{o:HO}(h:xj):vr H JT:=dj (bZ h)
abbrev Pt:=Gla.Pt
abbrev Rl(I:Type):=be Hp V I
def lB{I:Type}(R:kk):Prop:=∀(H L:Hp)(v:V)(x:I),QM->R H v x->R L v x
theorem lB.go{I:Type}{R:kk}(s:uw){H L:Hp}{v:V}{x:I}(t:QM)(h:R H v x):R L v x:=s _ _ _ _ t h
noncomputable abbrev vn(n:Nat):V:= .int cK
def oH:Rl Nat:=fun _ v n=>v=jj
inductive LD(l:af)(H:Hp)(v:V):Prop|mk:o a (v=bc) (l7 l) (LD l H v)
abbrev dG:Rl Pt:=fun H v p=>LD [.int p.y,.int p.x] H v
inductive eR(H:Hp)(v:V)(l:kn):Prop|mk:∀a x y,b v bc (cy ZS) (br x l.1) (br y l.2) aoj
abbrev sA:Rl fB:=fun H v e=>LD [.int e.1,.int e.2] H v
abbrev sC:Rl He:=fun H v m=>LD (cg il ip jA kE) H v
def GI:Rl (bY Mr):=fun H v f=>match f with|none=>v= .bC|some e=>z a (v=bc) (cy (he e.rule aDi))
theorem sD:lB oH:=aoR
theorem dk:lB dG:=aLi
theorem gA:lB eR:=sn (by obtain⟨a,x,y,e,h,p,q⟩:=e0;exact a a x y e (bv h) (hK s p) (hK s q))
theorem iL:lB sA:=aLi
theorem jt:lB sC:=aLi
theorem bjy:lB GI:=fun H L v x s h=>by cases x with|none=>{exact h}|some e=>rw[ak q J h];exact v a q (bv J)
theorem Tx{I d:Type}{F G:qs}(h:a'p){l:ba}{m:nU}(q:f1 F):f1 G:=by induction q with|nil=>{rw[kP]}|cons J t i=>rw[cE (h _ _ J) i]
theorem mA{I d:Type}{F:qs}{l:ba}{m:nU}{i:Nat}{b:d}(q:f1 F)(h:aod):z a Zi (F a b):=beT
theorem oI{I d:Type}{F:qs}{l:ba}{m:nU}{i:Nat}{a:I}(q:f1 F)(h:Zi):z b aod (F a b):=beT
theorem oJ{I d:Type}{F:qs}{l i1:ba}{m f7:nU}(h:f1 F)(s:dD F i1 f7):dD F (l++i1) (m++f7):=a'W
theorem sF{I d:Type}{F:qs}(n:Nat):pC (Hd n) (m.take n):=by induction n with|zero=>{intro l m _;exact .nil}|succ n d6=>rw[b1 l m];cases h with|nil=>{rw[kP]}|cons J t=>rw[cE J (d6 t)]
theorem Cn{I d:Type}{F:qs}(n:Nat):pC (oQ n) (m.drop n):=by induction n with|zero=>{rw[b1 l m];exact h}|succ n d6=>rw[b1 l m];cases h with|nil=>{rw[kP]}|cons J t=>exact d6 t
theorem auW(ns:ao):dD (oH H) ji ns:=by rw[wz ns]
theorem vt{vs:af}{ns:ao}(h:dD (oH H) vs ns):vs=ji:=a9I
inductive Co{I:Type}(R:kk)(K:Fg)(H:Hp)(a:Addr)(O:ba):Prop|mk:o7 (mH vs) (@Co I R K H a O)
theorem Co.mono{I:Type}{R:kk}(A:uw){a:Addr}{O:ba}(s:bP)(h:bm R a O):Co R K L a O:=lm (zL q) (dj s)
inductive dB{I:Type}(R:kk)(H:Hp)(a:Addr)(O:ba):Prop|mk:o7 (am a vs) (@dB I R H a O)
theorem dB.mono{I:Type}{R:kk}(A:uw){a:Addr}{O:ba}(s:bP)(h:apm):dB R L a O:=lm (bv q) (dj s)
theorem dB.ls{I:Type}{R:kk}{a:Addr}{O:ba}(h:apm):bm R a O:=nN (au q) p
theorem dB.put{I:Type}{R:kk}(A:uw){a l:Addr}{o:HO}{O:ba}(h:apm)(m:uX (H l))(ne:a≠l):dB R JT a O:=lm (Y ne q) (yX m)
theorem aSV{d0:It}{g:TG}{c3:TS}{D:Ends}{M:L2.St}{H:Hp}(n:Nat)(j:dL H8 Hp)(b1:amT)(go:lD (i<n) Px)(stop:j M H (j n M H) (aDk n H))(c0:∀i M H x L,i (i<n) akV PF (gg M aGm))(hd:ty n):em H8 (W 0 m M H) (X ak5 alI OJ Px (∃N:er H8,(ak_)/\j x L PF (gg M (r7 N)))):=by rw[eW n Qn n,ap6];by_cases Z:i<n;rw[co (d (go i M H Z p) (j (i+1)) ba' (fun x L y=>c0 i M H x L Z p y))];{have e:i=n:=mS hi (zj Z);rw[b_];exact ds (stop M H p) apw}
theorem aeV{I d:Type}{d0:It}{g:TG}{c3:TT}{b8:TE}{vs:ao}{M:L2.St}{a8:Hp}{D:Addr}{k:jf}{R:Rl d}(A:uw)(Y:ba)(r:be Hp V I)(f:aHt)(a7:gE D)(c9:eN<hC)(go:l i H (i<eN) anO Px)(stop:E H anO (aDk eN H))(b6:∀i H x L,i anO (i<eN) PF (bP/\z a ED (r L x a)))(c0:Lf (r L x a))(hd:vq (a3X f)):K0 (k H):=by let j:Y7:=mV (anO/\I d7 (am D d7) (dD (R H) d7 (kC (WG i) f)) (oW<=i));rw[ak (m8 eN (i<=eN)) (a eN bH cS (bZ a7) [] ak .nil aY)];rintro i m H⟨rfl,hi,s,d7,l,c5,le⟩;rw[fY Z eN];{refine i6 (go i H Z s) (fun L u=>kl eN (aS eN i));obtain⟨a4,a,b3,c⟩:=b6 i H x L s Z y;rw[a7T];refine c0 i a x L _ _ b3 (ir a4) c (fun y e4 b n d9 J=>?_) (fun fn d4 c8=>?_);{have d3:=fH (di l);rw[e d7 d3 (br le Z c9) (fI (L (ir a4) d9) a7) (eM d7) ak ?_ ag];rw[g9,aiS];rw[ae t e4 (U e4 D (eM d7)) (GG d3)];refine oJ (dH (NT (hL (gd d9) t)) c5) ?_;simp only[Hj,n,aDl];exact hw (NT t J)};{rw[j (L (ir a4) c8) d7 (dn (di l)) ?_ ET];rw[g9,aiS];simp only[Hj,fn,aDl,qQ];exact dH (NT (dj (gd c8))) c5}};{have e:i=eN:=mS hi (zj bF);rw[b_];rw[H9]at c5;exact ds (stop H s) (hd H d7 s l c5)}
theorem aeW{I d:Type}{g:TG}{c3:TT}{b8:TE}{vs:ao}{M:L2.St}{a8:Hp}{D:Addr}{k:jf}{c:kk}(s0:lB c){R:Rl d}(A:uw){l:Addr}{Y:ba}(a5:wp c)(f:aHt)(a7:gE D)(c9:eN<hC)(c0:Lf (c L x a))(hd:vq (a3X f)):d_ OT OT OT:=by rw[aGO];refine aeV A Y (fun H x a=>c H x a) f a7 c9 aMv (fun H s=>ap O (zL q) wQ aY) aM0 c0 hd;{rw[bcr];exact d O x (zL q) S};{obtain⟨rfl,y⟩:=y;rw[bdg];exact d ei b U (s0.go (dj s) J)}
theorem aSW{I d:Type}{g:TG}{c3:TT}{b8:TE}{vs:ao}{M:L2.St}{a8:Hp}{D:Addr}{k:jf}{c:kk}(s0:lB c){R:Rl d}(A:uw){l:Addr}{Y:ba}(a5:wp c)(f:Nat×I->bY d)(a7:gE D)(c9:eN<hC)(c0:∀(i:Nat)a T x L(h4:VK)(N:jf),c ED ON (L T=aa (eA x)) (c L x a) (wJ (f (i,a))->(f (i,a)=ae->aGN)->be al6 tG L aGC))(hd:vq (kC aKN f)):d_ aJt aJt aJt:=by rw[aGO,aS i0 (t aKN) eN];refine aeV A aKN (fun H v a=>∃T x,v=al6/\bh T (ee (cf a.1) x)/\c H x a.2/\K Y a.1 a.2) f a7 ag aMv (fun H s=>v O (zL q) (ac wQ i0 aY)) aM0 (fun i a x L h4 N b3 s⟨T,b1,e,c6,J,hi⟩a3 a9=>?_) hd;{rw[i0]at hi;rw[bcr];exact d O x (zL q) S};{rw[i0]at hi;obtain⟨T,b1,rfl,Z,rfl,y⟩:=y;rw[bdg,c (bZ Z) (i,b) ?_ T b1 ak (s0.go (dj (ir (bZ Z))) J) U,J aiT ⟨ag,U⟩]};rw[sR (c0 a.1 a.2 T b1 L h4 N hi s c6 J a3 a9)]
universe GA
section z
open PySem PySem.Spec PyProof.Rows L2
instance nR:eJ aDm:=⟨v [] [] 0⟩
instance nC:eJ a3Y:=⟨.undo⟩
universe z
namespace GA
structure yY(a b c:Prop):Prop where mk::
 (A:a)
 (B:b)
 (C:c)
structure vu(a b c d:Prop):Prop where mk::
 (A:a)
 (B:b)
 (C:c)
 (D:d)
structure GJ(a b c d e:Prop):Prop where mk::
 (A:a)
 (B:b)
 (C:c)
 (D:d)
 (E:e)
structure Aa6(a b c d e f:Prop):Prop where mk::
 (A:a)
 (B:b)
 (C:c)
 (D:d)
 (E:e)
 (F:f)
structure Aa7(a b c d e f g:Prop):Prop where mk::
 (A:a)
 (B:b)
 (C:c)
 (D:d)
 (E:e)
 (F:f)
 (G:g)
structure Aa8(a b c d e f g h:Prop):Prop where mk::
 (A:a)
 (B:b)
 (C:c)
 (D:d)
 (E:e)
 (F:f)
 (G:g)
 (H:h)
structure Aa9(a b c d e f g h i:Prop):Prop where mk::
 (A:a)
 (B:b)
 (C:c)
 (D:d)
 (E:e)
 (F:f)
 (G:g)
 (H:h)
 (I:i)
inductive vw{e f:Type}(p:au e f):Prop|mk:eV (p a b) (vw p)
inductive LF{e f g:Type}(p:be e f g):Prop|mk:∀a b c,p a b c->LF p
inductive GK{e f g h:Type}(p:aa e f g h):Prop|mk:z3 (p a b c d->GK p)
universe GA
namespace GA
open PySem PySem.Spec PyProof.Rows L2
section z
variable{X:Cx}{K:Fg}
theorem ixl(g:fD):KX X (So K):=g▸arD
theorem ixt(g:fD):KX X (Sq K):=g▸arE
theorem flK{e:Expr}{f:Str}{pos:Pos}{d6:TE}(g:fD)(a0:M e d6)(U:bgz):zu K:=g▸aOX a0 U
theorem ptK{a7:fE}{k:Nat}{pos:Pos}{t:yz}{n:Nat}(g:fD)(b0:fR)(h:KC X a7 t)(d1:a_Z)(z:a'e):G2 K:=g▸aN8 b0 h d1 z
theorem aS2(g:fD):f1 "len" (KZ K):=g▸arI
theorem aS3(g:fD)(b0:fR):f1 "all" (adx K):=g▸aPQ b0
theorem aS4(g:fD):Kd bby:=g▸aPD
theorem aS5(g:fD):qE (fW K H p d7) (nm d7):=g▸aPE
theorem eqK(g:fD)(hu:uQ):be .Eq (ady K):=g▸aPR hu
theorem neK(g:fD)(hu:uQ):be .NotEq (adz K):=g▸aPS hu
theorem inK(g:fD):be .In (KY K ah):=g▸aPB
theorem aS9(g:fD):be .NotIn (KY K ab):=g▸aPC
theorem aS_(g:fD):KW X (Sr K):=g▸aPy
theorem aS'(g:fD):KW X (ads K):=g▸aPq
theorem aTa{a:Expr}{d6:TE}(g:fD)(b3:fV)(a0:apt):BO K:=g▸aOJ b3 a0
universe z
theorem auY(f:Str)(v:V):∀l:hX,bd (gt l) (eb+1)|[]=>aY|p::J=>by have d6:=auY f v J;rw[n3 p];unfold kq;split;{simp};rw[l (Vn d6)]
theorem vx{f:Str}{v:V}{l:hX}{n:Nat}(h:eb<n):t (gt l)<n+1:=bv (auY f v l) (cf this h)
theorem Tz{b8:TE}{M:L2.St}{H:Hp}{Q:VK}{N:jf}(h:op Q):arS M H (fun b d4=>Z b (b8 M d4 Q) (N d4)):=kI
theorem aTb{I d:Type}(f:Fp):∀l:ba,Ml (an (aa (f e)))=xU|[]=>rfl|a::J=>aT
theorem LG{I:Type}(p:Be):ov e (zB p)|[]=>rfl|a::J=>G8 (LG p J)
theorem aTc:i0 "len" "len":=a3Z
theorem auZ:aKk:=cB
theorem aTe:vV "tuple"=aa rA:=cB
theorem aTf:vV "set"=aa Jw:=cB
theorem aTg:i0 "sorted" "sorted":=cB
theorem aTh:i0 "max" "max":=cB
theorem aTi:a'5:=cB
theorem aTj:i0 "all" "all":=cB
def GL(K:Fg)(mg:dN)(x:Str)(O:af):Prop:=D8 beV
def tKT(K:Fg)(O:af):TE:=l1 (E a uN (Q bc H))
theorem GT{X:Cx}{K:Fg}{x:Str}{O:af}{pos:Pos}(c4:GL K mJ x O)(g:FK)(d8:ch qo)(hd:mj):M (gT pos) (tKT K O):=by rw[ak b3 h c4,nl e0];exact g9 hd Q (e0 a (.inr h))
def au0(K:Fg)(mg:dN)(x:Str)(F:gw):Prop:=D8 (∀(P:Program)(w:World)(h:Heap),ur->apO)
inductive jKD(F:gw)(Q:VK)(y:V)(a8:Hp):Prop|mk:f k v (y=kV k) (uL=aa v) (Q v a8) (jKD F Q y a8)
def tKD(F:gw)(A:TE):TE:=ww (jKD F Q)
theorem aTl{X:Cx}{K:Fg}{x:Str}{F:gw}{i:Expr}{A:TE}{pos p:Pos}(hd:au0 K mJ x F)(hi:yl)(c0:SF i)(g:FK)(d8:ch qo)(l:mj):M (e3 (gT p) i) (tKD F A):=by subst g;rw[ak b3 a7 hd,fz];refine ar6 a30 c0 (ft (g9 l (fun z a8=>z=bc/\tKD F A M a8 Q) (bd h)) (fun u a4⟨z,a8,r,e,c1,d2⟩=>ey hi a7y));obtain⟨y,b7,Y,Z,k,v,c3,d3,q2⟩:=P;subst c1;rw[j_,fv (u=dm a) e,bE d j (a7 eB X.w ag3 Y.Kz),m_ (Dh vs k) (bl d3 (VD k))];exact⟨VE,a2D (BL Z) ahx hw (a v b7 (aiU _) W q2)⟩
noncomputable def au3:gw:=[nV 1,gX 2 6,gX 3 4,gX 4 2,gX 5 3,gX 6 5,gX 7 1,nV 8,nV 9,gX 10 1,nV 11,nV 12,nV 13]
theorem aTm:Y aMV aMV aa2:=bf
theorem aTn:an ["number"] "number" aa3:=uC
theorem aTo:Gj aa4:=bf
theorem aTp:Gj aa5:=bf
theorem aTq:an ["drawing"] "drawing" aa6:=uC
theorem aTr:bV "points" "a" "b" aa7:=bf
theorem aTs:Y ["width","height","points","ends","marks","standing","numbers","number","point","lines","p","q"] (v3 "ends") aa8:=bf
theorem aTt:Y ["a","b"] ["a","b"] aa9:=bf
theorem aTu:Y ["width","height","mark","low_left","low_right","high_left","high_right","points","ends"] ["width","height","mark"] aa_:=bf
theorem TB:Y ["data","place","size","value","byte"] ["data","place","size"] aa':=bf
theorem aTv:D0 aba:=uC
theorem aTw:D0 abb:=jp ai
theorem aTx:t7 abc:=uC
theorem aTy:Y an3 an3 abd:=bf
theorem aTz:k2 ["data","fault","points","lines","marks"] abe:=bf
theorem aTA:Ia abf:=bf
theorem aTB:Ia abg:=bf
theorem au4:nt "spot" abh:=bf
theorem aTC:k2 ["data","lines_begin","marks_begin","points","place","lines","marks"] abi:=bf
theorem aTD:an ["point"] "point" abj:=uC
theorem aTE:an ["line"] "line" abk:=uC
theorem aTF:an ["mark"] "mark" abl:=uC
theorem aTG:an ["cartoon","data","row","point","line","mark"] "cartoon" abm:=bf
theorem aTH:KK abn:=bf
theorem aTI:KK abo:=bf
theorem aTJ:Y apP apP abp:=bf
theorem aTK:Y ["row","spot","low","high","middle","line"] ["row","spot"] abq:=bf
theorem aTL:k2 abr:=uC
theorem aTM:k2 abt:=jp ai
theorem au5:du (oN "number") "number" abu:=bf
theorem aeX:Y ["self","one","other"] ["self","one","other"] abv:=bf
theorem aeY:du (b3 "spot" "at" "line") "spot" abw:=bf
theorem aeZ:Y ["self","left","right","begun","between","number"] (b3 "left" "right" "begun") abx:=bf
theorem aTN:Y ["self","point","ended","tops","at","begun","gaps","number","line"] (b3 "point" "ended" "tops") aby:=bf
theorem ae0:Y ["point","tops","row","top"] ["point","tops"] abz:=bf
theorem aTO:Y ["self","sweep","gaps"] ["self","sweep","gaps"] abA:=bf
theorem au6:ci "mark" "gap" "mark" abB:=bf
theorem au7:ci "line" "gaps" "line" abC:=bf
theorem TC:an (b3 "links" "own" "number") "self" abD:=bf
theorem aTP:iN ["drawing","sweep","tops","point","ended","a","b","gaps","mark","waiting","number","at","spot"] abE:=bf
theorem aTQ:Y ["drawing","i","j","panes","homes","turned","line"] ["drawing","i","j"] abF:=bf
theorem aTR:iN ["drawing","rows","point","a","b"] abG:=bf
theorem ae1:an ["neighbours","number","row"] "neighbours" abH:=bf
theorem aTS:an ["neighbours","came_from","tried","row","path","here","there"] "neighbours" abI:=bf
theorem au8:Y ["neighbours","came_from","number"] ["neighbours","came_from"] abJ:=bf
theorem aTT:oA ["neighbours","came_from","order","rank","row","position","number","earliest","here","there","back"] abK:=bf
theorem aTU:oA ["neighbours","came_from","ranks","rank","earliest","begun_at_first","cuts","number","above"] abL:=bf
theorem TF:k2 ["data","fault","drawing"] abM:=bf
theorem TH:IF abO:=bf
theorem aTV:ga "before" "before" abQ:=bf
theorem ae2:IF abR:=bf
theorem aTW:iN ["drawing","fault"] abS:=bf
theorem aTX:bV "last" "number" "point" abT:=bf
theorem aTY:bV "last" "number" "line" abU:=bf
theorem aTZ:iN ["drawing","width","height","points","edges","number","point","joined","line","row","first","last"] abV:=bf
theorem au9:Y ["points","row","first","last","joined","line"] bgg abW:=bf
theorem aT0:Y ["drawing","before","known_lines","known_points","line","point","new_points","ends","new_ends","number","tangled","numbers"] ["drawing","before"] abX:=bf
theorem aT1:Y ["line","points","rivals","first","second","point","rival"] ["line","points","rivals"] abY:=bf
theorem aT2:bV "neighbours" "number" "came_from" abZ:=bf
theorem aT3:bV "panes" "homes" "number" ab0:=bf
theorem aT4:Y ["drawing","homes","last","number","mark","spot"] ["drawing","homes"] ab1:=bf
theorem TJ:an ["homes","seen","number","home"] "homes" ab2:=bf
theorem aT5:Y ["cartoon","step"] ["cartoon","step"] ab3:=bf
theorem aT6:Y aLe aLe ab4:=bf
theorem aT7:an ["row"] "row" ab5:=uC
theorem ae3:Y ["line","row","inside","point"] ["line","row"] ab6:=bf
theorem ae4:Y ["cartoon","row","mark","ends","line"] ["cartoon","row","mark"] ab7:=bf
theorem aT8:Y ["cartoon","i","j","gone","line","ends","points"] ["cartoon","i","j"] ab8:=bf
theorem aT9:Y ["cartoon","k","point","points","ends","a","b"] ["cartoon","k","point"] ab9:=bf
theorem au_:Y ["cartoon","i","mark","marks"] ["cartoon","i","mark"] ab_:=bf
theorem aT_:Y ["cartoon","k","points","near","a","b","ends"] ["cartoon","k"] ab':=bf
theorem aT':du (oN "first") "first" aca:=bf
theorem aUa:k2 acb:=jp ai
theorem aUb:k2 acd:=Qi
theorem ae5:du (b3 "step" "drawn" "fault") "step" ace:=bf
theorem aUc:k2 acf:=Qi
theorem aUd:k2 acg:=Qi
theorem aUe:k2 ach:=Qi
theorem aUf:an ["fault"] "fault" aci:=uC
theorem aUg:an ["record","first","data","number","step"] "record" acj:=bf
theorem ae6:an ["step","data","point"] "step" ack:=bf
theorem aUh:k2 ["data","fault","steps_place","told","record","number"] acm:=bf
theorem aUi:t7 acn:=jp ai
theorem aUj:t7 aco:=jp ai
theorem TK:Y ["record","data","place","number","fault"] ["record","data","place"] acp:=bf
theorem au':nt "missing" acq:=bf
theorem ae7:nt "size" acr:=bf
theorem ae8:Y ["data","place","kind","number"] ["data","place"] acs:=bf
theorem aUk:Y ["data","place","row_place","mark_place","row","at"] ["data","place"] acu:=bf
theorem aUl:k2 acv:=Qi
theorem aUm:Y bdw (b3 "call" "numbers" "row") acw:=bf
theorem ava:Hp acx:=bf
theorem ae9:du (b3 "numbers" "drawing" "fault") "numbers" acy:=bf
theorem avb:Hp acz:=bf
theorem aUn:du (oN "record") "record" acA:=bf
theorem ae_:an ["lengths","length"] "lengths" acB:=bf
theorem ae':an ["numbers","number"] "numbers" acC:=bf
theorem aUo:KL acD:=bf
theorem aUp:an ["numbers"] "numbers" acE:=uC
theorem afa:an ["row","at"] "row" acF:=bf
theorem aUq:KL acG:=bf
theorem aUr:Y ["record","call","numbers"] ["record","call","numbers"] acH:=bf
theorem aUs:Y ["record","what"] ["record","what"] acI:=bf
theorem aUt:t7 acJ:=Qi
theorem aUu:an ["calls","desk","told","at","call","row_at","numbers","row","answer"] "calls" acK:=bf
universe GA
section z
set_option tactic.hygienic true
namespace GA
open PySem PySem.Spec PyProof.Rows L2
theorem LH{K:Fg}{x q:Str}{st:Stmt}{f:Addr}(e:na f x):ju q (fdOf K f):=by unfold oF oE at e;unfold fdOf;rw[PV];{rename_i D m fd sl l;obtain⟨n,y,u,bo,a,gl,e9,i,kd,dc,b3,g,R,ct,j⟩:=fd;simp only[aiV,CI,FuncData.mk.injEq]at e;obtain⟨⟨rfl,rfl,rfl,rfl,rfl,rfl,rfl,rfl,-,-,-,-,-,-,rfl⟩,c,k⟩:=e;exact aQB l c k};{rw[dU]}
variable{K:Fg}{h:Heap}{mg:dN}{x m q:Str}{st:Stmt}{c5:cW}{C:Addr}
noncomputable def fnF(K:Fg)(x:Str):=(fn x,oF K x (dp x))
noncomputable def aUv(G:Bw)(a:bax)(e:oF K x (dp x)=oE x x st)(b:h5 x x):apE:=a _ _ (LH e) (G _ _ a) aJQ
noncomputable def aUw(a:hR m ZF)(i:p0 (.ref ZF))(e:na ZF m)(b:h5 m q):mz K C m q st c5:=a _ _ (LH e) aJQ a i (LH e).kp
noncomputable def aUx(a:hR "__init__" aHZ)(i:p0 (.ref aHZ))(mk:ams)(y:aIj)(e:na aHZ "__init__")(b:a88):y6 q:=a _ _ (LH e) aJQ mk a i y
theorem GN{P:Fi}(h:P []):∀b1:aM,lD=0->P b1:=fun b1 e=>bt (NU e)▸h
theorem mB{n:Nat}{P:Fi}(h:j a b1 (lD=n) (P (a::b1)))(b1:aM)(e:lD=n+1):P b1:=by cases b1 with|nil=>{contradiction}|cons a b1=>exact h a b1 (aDn e)
theorem GO{P:Fi}(h:∀a,P [a]):of 1:=mB (fu (GN (h a)))
theorem Cp{P:Fi}(h:∀a b,P [a,b]):of 2:=q0 (GN (h a b))
theorem us3{P:Fi}(h:∀a b c,P aaR):of 3:=q0 (mB (gX (GN (h a b c))))
theorem us4{P:Fi}(h:z3 (P [a,b,c,d])):of 4:=q0 (mB (gX (mB (jx (GN (h a b c d))))))
theorem us5{P:Fi}(h:∀a b c d e,P [a,b,c,d,e]):of 5:=q0 (mB (gX (mB (jx (mB (an (GN (h a b c d e))))))))
theorem us6{P:Fi}(h:∀a b c d e f,P [a,b,c,d,e,f]):of 6:=q0 (mB (gX (mB (jx (mB (an (mB (fun f=>GN (h a b c d e f)))))))))
universe GA
universe z
section z
set_option tactic.hygienic true
namespace GA
open PySem PySem.Spec PyProof.Rows L2
theorem afb{K:Fg}{x:Str}(e:yu (fn x)=ab):bax:=by unfold adr;unfold yu at e;rw[PV];{rename_i h;rw[h]};{rw[dU]}
theorem avc{K:Fg}{C:Addr}{x:Str}(e:yu (hB x)=ab):hR x (RO K C x):=by unfold RO;unfold yu at e;rw[PV];{rename_i h;rw[h]};{rw[dU]}
theorem avd{v:Value}{i:Int}(e:vI v=aa i):∃t,v=e0 i:=by unfold vI at e;rw[PV];{rw[dU];exact ek};{rw[dU]}
theorem aUC(P:Program)(w:World):∀{a7:bK VG}{c5:aO Int Int},a7.map nE=aiW nP->I vs (KV (aiW (ah ((.inl q.1:Key),cp q.2))) vs) (Pairs tM a7 vs) (df a7 (z k (z7 e.key) (e.hash=(tM).hash k))):=by intro a7;induction a7 with|nil=>{intro c5 z;cases a31 wo;exact d [] .nil .nil (fun e m=>i0 (oX m))}|cons e a7 d6=>intro c5 z;cases c5 with|nil=>{contradiction}|cons p c5=>injection z with a z;rw[Hh (d6 z),ez h a a,n3 (lJ a),bbf];obtain⟨u,b⟩:=avd b;rw[bI c1 B e,cH];cases a;cases b;rw[w ((.inl p.1,mN p.2)::vs) (.cons (ah u rfl) d2) (.cons (ac0 p.1 t) rfl q2) a8k,g9 (ic m) rfl,l (bp (.inl p.1) (ac0 p.1 t)),l (q3 e m)]
theorem aUD{c:Type}{l:hW}{m:Fv}(h:KV l m):aDo fN=Eu:=by induction h with|nil=>{rfl}|cons J t d6=>rw[c_,c_,d6,J.1]
variable{K:Fg}{h:Heap}{mg:dN}{x m q:Str}{st:Stmt}{c5:cW}{C:Addr}
theorem aUE(G:Bw)(e:aKB=(ab,aMF)):bet:=by rw[eK b4 (lJ e)];unfold nmF at b9;split at b9;{rename_i c d a7 e1 sl l;rw[bcv];obtain⟨rfl,rfl,s,rfl⟩:=b9;rw[fc a9c (fun P w h' a=>?_),Hh (aUC P w s),d vs d2 _ a7 e1 (a _ _ l) tK (aJ (fun d m=>q3 d (aI m)) q2)];rw[aUD d2];decide};{cases b9}
theorem aUF{l:aQ}{b1:aM}(e:aiX vI=kA aa):eC (kA cp):=by induction b1 generalizing l with|nil=>{rw[a4 (a31 CX) .nil]}|cons u b1 d6=>cases l with|nil=>{contradiction}|cons i l=>injection e with a b;rw[bbf,J a (.cons ek (d6 b))]
theorem aUG{l:aQ}(G:Bw)(e:(yu (fn x),RQ K x)=(ab,aa (aGi,kA aa)))(n:eb<=9:=by decide):a'8:=by rw[eK b4 (lJ e)];unfold RQ at b9;split at b9;{rename_i c d ar e1 sl k;rw[bcv,eK rfl b9];have z:=gC aC6 b9;simp only[bA,Vi]at z;exact a _ a9c _ ar _ k rfl rfl ⟨t z (cn n ax),aUF b9⟩};{cases b9}
theorem aUH{i:Int}(G:Bw)(e:RP (fn x)=aa i):ab x i:=by unfold RP at e;rw[PV];{rename_i t a;rw[dU];exact aW (G _ _ a)};{rw[dU]}
universe GA
universe z
section z
set_option tactic.hygienic true
namespace GA
open PySem PySem.Spec PyProof.Rows L2
noncomputable def abP(K:Fg)(x:String):Prop:=fn x=aa ae
noncomputable def itP(K:Fg)(p:gB×Int):Prop:=RP (fn p.1)=aa p.2
noncomputable def tpP(K:Fg)(p:gB×aQ):Prop:=n2 (RQ K p.1)=(ab,a9D)
noncomputable def atP(K:Fg)(p:gB×EV):Prop:=n2 bcd=beX
noncomputable def fnP(K:Fg)(p:gB×aw):Prop:=n2 a'K=(ab,bcf)
noncomputable def meP(K:Fg)(p:bfC):Prop:=lo p.2.1 (aS p)=(ab,bd2)
noncomputable def inP(K:Fg)(p:aLH):Prop:=lo "__init__" p.2.1=(ab,bd1)
variable{K:Fg}{h:Heap}{mg:dN}{x m q:String}{st:Stmt}{c5:cW}{c:String}
noncomputable def avf(G:Bw)(e:fnP K (x,st))(b:h5 x x):apE:=aUv G (afb (lJ e).1) YZ b
noncomputable def aUL(e:meP K (c,m,q,st))(b:h5 m q):mz K (dp c) m q st c5:=DO (aUw (avc z.1) z.2 YZ b)
structure ClP(K:Fg)(C:Addr):Prop where
 c:Zn
 m:ams
 k:aIj
theorem aUM{l:EV}(e:atP K (c,l)):bgT:=by rw[eK b4 (lJ e),ez b9 e7 b9,ez e7 g5 e7,wN b9];obtain⟨⟨⟨⟨a,b⟩,c⟩,d⟩,k⟩:=b9;exact v (afb b4) (v (d a b c e7) d k) (aDp g5)
noncomputable def aUN(Z:ClP K (dp c))(e:inP K (c,q,st))(b:a88):vq K (dp c) q st c5:=DO (aUx (avc z.1) z.2 Z.m Z.k YZ b)
theorem fc{I d c:Type}{f g:Fp}{l:ba}{a b:c}(e:(xU,a)=(kA g,b)):bk l (f x=g x)/\a=b:=⟨aDp (lJ e).1,YZ⟩
theorem avh(e:aaQ):bk abN (abP K x)/\bk itN (itP K x)/\bk tpN (tpP K x)/\aKB=(ab,aMF)/\N (bk atN (atP K x)) (bk fnN (fnP K x)) (bk meN (meP K x)) (aL FV (inP K x)):=by have⟨a,e⟩:=fc e;have⟨b,e⟩:=fc e;have⟨c,e⟩:=fc e;rw[cl d (lJ e)];have⟨f,e⟩:=fc e;have⟨g,e⟩:=fc e;have⟨i,e⟩:=fc e;exact a a b c d f g i (aDp e)
universe GA
universe z
namespace L2
open PySem PySem.Spec PyProof.Rows
open PySem.W(WData Codec OpenSpec Well WellAll ReadsW ReadsAllW)
mutual inductive Dw(K:PySem.W.Frag)(H:Hp):au V aiY|bC:fh .bC .none|bl(b:Bool):fh EZ Ja|int(i:Int):fh hT hT|str(x:Str):fh Jv Jv|iF(b:fv Ms):fh (.iF b) (.bytes b.toList)|lst{a:Addr}{O:af}{c7:pW}:jk->eS O c7->fh bc aGW|tup{a:Addr}{O:af}{c7:pW}:uN->eS O c7->fh bc aG9 inductive afg(K:PySem.W.Frag)(H:Hp):au af pW|nil:eS [] []|cons{v:V}{vs:af}{d:WData}{c7:pW}:fh v d->eS vs c7->eS (v::vs) (d::c7)end
theorem avi{K:PySem.W.Frag}{H:Hp}:∀ns:aQ,eS xO a78|[]=> .nil|n::J=> .cons (.int n) (avi J)
theorem avj{K:PySem.W.Frag}{H:Hp}:∀(ns:aQ)(O:af),eS O a78->O=xO|[],O,h=>aHs|n::J,O,h=>by cases h with|cons a3 a9=>cases a3;rw[avj J _ a9]<;>rfl
section z
variable{P:Program}{w:World}{K:PySem.W.Frag}{H:Hp}{h:Heap}{R:PySem.W.WRecords}{e9:Str->nk}
theorem aUO{a:Addr}{O:af}(dt:lq)(y:ur)(q:jk):IO Ak:=by rcases q with q|⟨o,ar,n,e,b0,_,hd,_,d3⟩;{obtain⟨_,ar,n,d3,e⟩:=dx (hd (.lst O)) (q.ok dt);exact a ar _ n d3 (aP e rfl)};rw[l (a ME o n d3 (y _ _ e) b0 bB)]
theorem aUP{a:Addr}{O:af}(dt:lq)(y:ur)(q:uN):IO rA:=by rcases q with q|⟨o,ar,n,e,b0,hd,_,d3⟩;{obtain⟨_,ar,d3,o,e,b0,n,hd⟩:=dx (hd tO) (q.ok dt);exact a ar o n d3 e b0 hd};rw[l (a ME o n d3 (y _ _ e) b0 bB)]
theorem Dw.reads(dt:lq)(y:ur){d:WData}{v:V}(u:Value)(x:fh v d):jl->∃Y,no h d:=by refine Dw.rec (motive_1:=fun v d _=>E u jl (∃Y,no h d)) (motive_2:=fun vs c7 _=>E b1 Fn (∃Y,ReadsAllW R e9 h b1 c7 Y)) ?_ ?_ ?_ ?_ ?_ ?_ ?_ ?_ ?_ x u;{intro u J;rw[hQ];exact aW ReadsW.none};{intro b u J;rw[hQ];exact aW (ReadsW.bool b)};{intro i u J;rw[El];exact aW (ReadsW.int i t)};{intro s u J;rw[El];exact aW (ReadsW.str s t)};{intro b u J;rw[El];exact aW (ReadsW.bytes _ t)};rw[rv (aUO dt y c0) (ReadsW.list d0 b0 hd a6),rv (aUP dt y c0) (ReadsW.tuple d0 b0 hd a6)];{intro b1 J;rw[hQ];exact aW ReadsAllW.nil};{intro v vs d c7 a3 a9 c2 N b1 J;cases J with|cons r1 r2=>rw[fK d2 (c2 _ r1)];obtain⟨bs,q2⟩:=N _ r2;exact aW (ReadsAllW.cons d2 q2)}
universe z
mutual def qJ:aiY->cb| .none=>ab| .bool _=>ab| .int _=>ab| .str _=>ab| .bytes _=>ab| .list O=>sG O| .tuple O=>sG O|_=>ah def sG:pW->cb|[]=>ab|x::J=>qJ x&&sG J end
theorem avk{I:Type}{f:I->aiY}(h:∀a,qJ (f a)=ab):∀l:ba,sG xU=ab|[]=>rfl|x::J=>by show da (qJ (f x)) (sG (J.map f));rw[h x,avk h J]<;>rfl
theorem Cq:∀(c:Codec)(a:c.denote),qJ (aDq a)=ab| .unit,_=>rfl| .bool,_=>rfl| .int _ _,_=>rfl| .nat _ _,_=>rfl| .u8,_=>rfl| .bytes _ _,_=>rfl| .text _ _ _ _,_=>rfl| .list _ _ c,a=>avk (ab (Cq c x)) a| .pair c d,a=>ox (qJ (d.enc a.2)&&ab) (Cq d a.2)| .triple c d e,a=>by{show da (qJ (aDq a.1)) (qJ (d.enc a.2.1)&&(qJ (e.enc a.2.2)&&ab));rw[Cq c a.1,Cq d a.2.1,Cq e a.2.2]<;>rfl}| .option c,none=>rfl| .option c,some x=>Cq c x
theorem avl:Hs (sG (NV cs a)=ab)|[],_=>rfl|c::cs,a=>ox (sG (NV cs a.2)) (avl cs a.2)
theorem avm:∀{O:pW}{d:WData},d∈O->aDs<=aDr O|[],d,h=>cy h jN|x::J,d,h=>by show aDs<=x.weight+1+aDr J;rw[g9 (ic h) e];{simp+arith [*]};{have z:=avm m;exact cU z}
noncomputable def toV:cR->V| .none=> .bC| .bool b=>EZ| .int i _=>hT| .str x _=>Jv| .bytes b _=> .iF b| .ref a=>bc|_=> .bC
def Cr(A:bg):cw cR| .none=>gD| .bool _=>gD| .int _ _=>gD| .str _ _=>gD| .bytes _ _=>gD| .ref a=>a∈A|_=>cE
theorem Cr.mono{A B:bg}(h:ev A I5):∀{u:Value},Cr A u->Cr B u:=fun{u}x=>by cases u with|ref a=>{exact h a x}|none=>{trivial}|bool b=>{trivial}|int i t=>{trivial}|str s t=>{trivial}|bytes b t=>{trivial}|_=>rw[ZH]
theorem aUQ{A:bg}{u:Value}(x:Cr A u):gS (toV u) u:=by cases u with|ref a=>{rfl}|none=>{rfl}|bool b=>{rfl}|int i t=>{exact dv t}|str s t=>{exact dv t}|bytes b t=>{exact dv t}|_=>rw[ZH]
theorem GP{A:bg}:∀{vs:aM},Pz->iQ OV vs|[],_=> .nil|u::J,h=> .cons (aUQ (h u (fx ..))) (GP (aL (h x (ck S))))
def TM(h:Heap)(A:bg)(a:Addr):Prop:=Fg (bA a EO\/bA a ER)
theorem TM.mono{h:Heap}{A B:bg}{a:Addr}(k:ev A I5)(x:TM h A a):TM h B a:=by rw[He x];exact d vs a3 (m6 (bN (a9 u hu) k)) e2
theorem avn{P:Params}{h:Heap}:∀{vs:aM}{c7:pW},alX->iS=c7.length:=by intro vs;induction vs with|nil=>{rw[dt c7,cH];rfl}|cons v vs d6=>rw[dt c7];cases h with|cons a b=>exact gC (· +1) (d6 b)
theorem avo{P:Params}{h:Heap}{v:Value}{c7:pW}(x:tz aGW):HM (bA a EO):=by cases x with|list d0 g=>exact f _ _ d0 g
theorem avp{P:Params}{h:Heap}{v:Value}{c7:pW}(x:tz aG9):HM (bA a ER):=by cases x with|tuple d0 g=>exact f _ _ d0 g
theorem aUR{P:Params}{h:Heap}{b1:aM}{d:WData}{c7:pW}(x:aiZ P h b1 (d::c7)):∃(v:Value)(vs:aM),b1=v::vs/\tz d/\alX:=by cases x with|cons a b=>exact f _ _ a b
theorem aUS{n:Nat}(h:n<=1048576):a1 n:=cn h ax
section z
variable{P:Params}{h:Heap}
mutual theorem aUT:gV (tz d) aGs (∃A:bg,Cr A v/\Bp)| .none,_,x,_,_=>oD fZ| .bool b,_,x,_,_=>oD fZ| .int i,_,x,_,_=>oD fZ| .str s,_,x,_,_=>oD fZ| .bytes b,_,x,_,_=>oD fZ| .list c7,_,x,p,z=>ri (avo x) (.inl d0)| .tuple c7,_,x,p,z=>ri (avp x) (.inr d0)| .float _,_,_,p,_=>rT| .dict _,_,_,p,_=>rT| .bytearray _,_,_,p,_=>rT| .set _,_,_,p,_=>rT| .frozenset _,_,_,p,_=>rT| .obj _ _,_,_,p,_=>rT theorem afh:gW alX (V d c7 aGs) (∃A:bg,Pz/\Bp)|[],_,x,_,_=>oD (fun u m=>cy m jN)|d::c7,_,x,p,z=>by{rw[bg6,beo];obtain⟨A,e0,g0⟩:=aUT d v e7 q.1 (z d (fx ..));rw[dP h2 e2 (afh c7 vs f5 q.2 (f8 (z e (ck a0)))),cg c (fZ A (A++B)) (ahZ (.inl U)),cg f (fZ B (A++B)) (ahZ (.inr U)),aa (A++B) a_I ua];{rw[g9 (ic hu) e,Z e (e0.mono c),l (bN (h2 u m) f)]};{rw[iO U,l (bN (g0 b m) c),l (bN (e2 b m) f)]}}end
universe z
noncomputable def TN(o:Obj):bY HO:=match gE with| .seq vs _=>Z (we==YM) (aa (.yw o (.lst (a32 toV)))) (aa (.yw o (.tup (a32 toV))))|_=>ae
noncomputable def GQ(K:PySem.W.Frag)(h:Heap)(A:bg):Hp:=il (if b∈A then(Z (sb (vN b)) ((zk b).bind TN) ae)else ae)
def LI(H:Hp):Prop:=∀b,gu\/∃o u,fr alg
theorem avq(vs:aM):TN EO=aa a99:=by show(Z (YM==YM) (aa (ai0 EO a76)) (aa (ai0 EO a77)))=_;rw[aJ (aCr _)]
theorem avr(vs:aM):TN ER=aa a9_:=by show(Z (aGi==YM) (aa (ai0 ER a76)) (aa (ai0 ER a77)))=_;rw[aO ax]
section z
variable{P:Program}{w:World}{K:PySem.W.Frag}{h:Heap}{A:bg}
theorem afi{b:Addr}{o:Obj}(U:b∈A)(c3:amx)(e:mh):anK=TN o:=by delta GQ;rw[aJ U,c3,aJ (g7 (ae:bY Obj).isNone rfl),e]<;>rfl
theorem aUU{b:Addr}{u:HO}(q:eB anK):b∈A/\amx:=by delta GQ at q;by_cases U:b∈A;{simp at*;lia};rw[ay]
theorem aUV(j:Bp){b:Addr}{u:HO}(q:eB anK):amx/\Fg ((bA b EO/\u=a99)\/(bA b ER/\u=a9_)):=by obtain⟨U,c3⟩:=aUU q;rw[He (j b U),aP c3 vs a3 a9,i8 e2 e];{rw[afi U c3 e,avq]at q;exact ds e (bt (cZ q))};{rw[afi U c3 e,avr]at q;exact e4 e (bt (cZ q))}
theorem aUW(j:Bp):LI J3:=il (by cases q:anK with|none=>{exact gn}|some u=>obtain⟨_,vs,_,_,⟨_,e⟩|⟨_,e⟩⟩:=aoJ;rw[a_,a_])
theorem aUX(j:Bp):fs J3 h:=qB (by obtain⟨_,vs,a3,a9,⟨e,rfl⟩|⟨e,rfl⟩⟩:=aoJ;rw[l (c e ag vs _ (GP a9) e),l (a e ai vs (GP a9) _ e rfl _ rfl)])
theorem bjC{c C:Value}{vs b1:aM}(e:(aa {cls:=c,data:= .seq aDv}:bY Obj)=aa {cls:=C,data:= .seq aDu}):c=C/\vs=b1:=cq
theorem aUY(y:ur)(j:Bp){a:Addr}{vs:aM}(b3:a∈A)(e:bA a EO):Pz/\fW K J3 a OV:=re avq (f _ aDu _ c3 rfl rfl bB (aI (GP a9)))
theorem aUZ(y:ur)(j:Bp){a:Addr}{vs:aM}(b3:a∈A)(e:bA a ER):Pz/\va K J3 a OV:=re avr (a _ aDu _ c3 rfl rfl ai (aI (GP a9)))
mutual theorem aU0{c:Params}(y:ur)(j:Bp):gV (Well c h v d) (Cr A v) (Dw K J3 (toV v) d)| .none,_,x,_,_=>p2 .bC| .bool b,_,x,_,_=>p2 EZ| .int i,_,x,_,_=>p2 hT| .str s,_,x,_,_=>p2 (.str s)| .bytes b,_,x,_,_=>by{cases x;have z:=Dw.iF (K:=K) (H:=J3) b.toArray;exact z}| .list c7,_,x,p,hu=>gE (avo x) (aUY y j hu d0) (.lst c0 bge)| .tuple c7,_,x,p,hu=>gE (avp x) (aUZ y j hu d0) (.tup c0 bge)| .float _,_,_,p,_=>rT| .dict _,_,_,p,_=>rT| .bytearray _,_,_,p,_=>rT| .set _,_,_,p,_=>rT| .frozenset _,_,_,p,_=>rT| .obj _ _,_,_,p,_=>rT theorem afj{c:Params}(y:ur)(j:Bp):gW (aiZ c h vs c7) Pz (afg K J3 OV c7)|[],_,x,_,_=>p2 .nil|d::c7,_,x,p,hu=>by{rw[bg6,beo];exact .cons (aU0 y j d v e7 q.1 (hu _ (fx ..))) (afj y j c7 vs f5 q.2 (fun u m=>hu u (ck m)))}end
universe z
theorem aU1{P:Program}{w:World}{K:PySem.W.Frag}{mg D:dN}{T:mr}{k:Nat}{t:Addr}{fd:FuncData}{c5:cW}{e8:Sp}{l:Shared}{I:aM}{c7:pW}{R:PySem.W.WRecords}{e9:Str->nk}{f:WData}(y:vQ DK)(h:aDw CN mg)(U:aDw aA9 D)(S:bgq)(Z:l.heap.NoLimit)(d8:l.gens= #[])(Q:aiZ hv DK I c7)(b8:sG c7=ab)(a0:bcp)(a6:hZ k WH)(F:∀base:iO,vQ aj->alL->vf P w K mg aj T k t fd c5 e8)(a8:a7V)(E:c7.length=kB)(C:∀(H:Hp)(O:af),LI H->eS O c7->e8 O H (fun v L=>Dw K L v f) JR)(W:∀H e c1,T [] H l JR e c1->cE):Hr (jx P w) WH (.call nG (eb I)) (sg (∃u Y,J= .ok (.ret u)/\no mH f/\OldK DK mH/\Vg=l.os/\Hi Vf)) l:=by rw[eq A j (afh c7 I Q b8 a0)];have X:LI aHU:=aUW j;have dt:fs aHU DK:=aUX j;have b2:=afj y j c7 I Q b8 d0;have g:j b u (eB aH') amx:=qB (aoJ).1;have G:∀{b:Addr}{o:Obj}{a7:fv VG}{e1:Nat},be (a33 b)->gE=Pw->aH'=ae:=fun{b o a7 e1}e d=>by{cases q:aH' with|none=>{rfl}|some u=>obtain⟨_,vs,_,_,⟨b9,_⟩|⟨b9,_⟩⟩:=aoJ;rw[cL,cL]};generalize aHU=H at X dt b2 g G;have i:∀{b:Addr}{o:Obj},be (a33 b)->gu->iL (ac3 DK H):=fun e n=>aNE e n;have a:∀{b:Addr}{m:dN},aDw b m->(ac3 DK H).Ns b m:=fun{b m}⟨o,a7,e1,e,d,J⟩=>c o a7 e1 (i e (G e d)) d J;have b0:hy (vN b) gu:=db (by cases q:H b with|none=>{rfl}|some u=>rw[a6 (g b u q),dU]);have p:=db (i (y b o e) (b0 b o e));refine MR ((F _ p (a h)).run WH [] l H (eb I) I (I.map toV) _ _ a6 (a rfl (d p (a h) (v D (a U) S) (let⟨c,a3,a9⟩:=Z;v c (a a3) a9)) (db (aNF e)) (qM (aND _ _)) fZ (dc (Ab U)) dt (.of_eq d8)) (a8 l I (t (avn Q) E)) (GP d0) (C H _ X b2)) (fun J c1 x=>?_);cases J with|error e=>{exact i0 (W H e c1 x)}|ok fl=>cases fl with|next=>{rw[ZH]}|brk=>{rw[ZH]}|cont=>{rw[ZH]}|ret u=>obtain⟨v,L,os,bare,un,M,B,q⟩:=x;have r:=db (by cases q2:H b with|none=>{exact un.keep b o e q2 (by rw[tP];exact Ab z) jN}|some a4=>rcases X b with z|⟨N,b3,z⟩;rw[ay];{obtain⟨b4,_⟩:=dt b _ z;obtain⟨b9,_⟩:=M b _ (un.FZ b N _ z);rw[e]at b4;cases b4;exact b9});rw[fK a5 (Dw.reads (R:=R) (e9:=e9) M (db (r b o (y b o e))) u q B)];exact f u Y a5 (v (OldK.of_keep r) os bare)
theorem aU2{c7:pW}(h:a04 c7=ab):bcp:=fun d hd=>(PySem.W.layableW_iff.mp (Wi h d hd)).2.2
theorem avs:Hs (t (NV cs a)=ai1)|[],_=>rfl|c::cs,a=>by show t (NV cs a.2)+1=ai1+1;rw[avs cs a.2]
theorem aU3{J:OpenSpec}{k:Nat}{q:Program}{j:cW}{m:aHO}{b:au oP iO}{d:DefRec}{K:agK->U0}{T:oP->mr}{c5:cW}{e8:oP->Sp}(n:a8i)(x:a36=[])(E:a35=kB)(a6:hZ k WH)(g:bhZ)(F:rt (T w) (e8 w))(C:∀(w:World)(H:Hp)(O:af)(a:aDy zM),c (LI H) (a34 zM a=ab) a_F (afg (K hv) H O (NV zM a)) (e8 w O H (fun v L=>Dw (K hv) L v aJR) JR))(W:∀(w:World)(H:Hp)(s:Shared)(e:Value)(c1:Shared),T w [] H s JR e c1->cE):biv:=by intro w F0 l mg D G c t o b3 R p Z kV d0 hd S a7 A d8 i I Y N P a5 Q a4;rw[ak b4 b9 (PySem.W.os_pre_some N)];obtain⟨e7,r⟩:=Codec.encAll_of_decAll zM i a b4;subst e7;have y:=g w _ c;obtain⟨fd,U,a0⟩:=F w mg t _ c y G.T.g A;refine PySem.W.enter_call (MR (aU1 (R:=[]) (e9:=classAt F0.heap) (f:=aJR) y G.T.g G.T.b G.T.builtins G.T.nolimit d8 Q (avl _ _) (aU2 P) a6 a0 U (t avs E) (fun H O X b2=>C w H O a X r b9 b2) (fun H e c1=>W w H l e c1)) (fun B c1 e0=>?_));obtain⟨u,M,rfl,a3,a9,e2,e5⟩:=e0;exact d (.inl (m u _ M (d kX a3 (ae (OpenSpec.post_iff n r _ _) rfl) (J (aDx (g7 ah z)))))) a9 e2 e5
theorem aU4{J:OpenSpec}{k:Nat}{q:Program}{j:cW}{m:aHO}{b:au oP iO}{d:DefRec}{K:agK->U0}{T:mr}{c5:cW}{e8:U0->Sp}(n:a8i)(x:a36=[])(E:a35=kB)(a6:hZ k WH)(g:bhZ)(F:rt T (e8 (K hv)))(C:∀(K:PySem.W.Frag)(H:Hp)(O:af)(a:aDy zM),c (LI H) (a34 zM a=ab) a_F (eS O (NV zM a)) (e8 K O H (fun v L=>Dw K L v aJR) JR))(W:∀(H:Hp)(s:Shared)(e:Value)(c1:Shared),T [] H s JR e c1->cE):biv:=aU3 (K:=K) (T:=as T) (e8:=fun w=>e8 (K hv)) n x E a6 g F (fun w H O a a3 a9 e2 e5=>C (K hv) H O a a3 a9 e2 e5) (fun _ H s e c1=>W H s e c1)
universe L2
namespace GA
open PySem PySem.Spec PyProof.Rows L2
section z
variable{X:Cx}{a b c d e f:Expr}{d6 c3 i l b8 g:TE}{pos p E:Pos}{x:Str}
abbrev SE(X:Cx)(e:Expr)(a7:fE):Prop:=MC rp cF=g8 tH a7
theorem d_(h:fV)(s:cv a []):PA X [a] (hZ d6):=ve h Sj s
theorem sH(h:fV)(a9:lr)(s:cv a [b])(b5:cv b []):PA X [a,b] (qB d6 (hZ c3)):=ve h (d_ a9 b5) s
theorem yZ(h:fV)(a9:lr)(e2:aat)(s:cv a [b,c])(b5:cv b [c])(c8:cv c []):nd aaR (hZ i):=ve h (sH a9 e2 b5 c8) s
theorem vy(h:fV)(a9:lr)(e2:aat)(e5:M d l)(s:cv a [b,c,d])(b5:cv b [c,d])(c8:cv c [d])(d9:cv d []):nd [a,b,c,d] (qB i (hZ l)):=ve h (yZ a9 e2 e5 b5 c8 d9) s
theorem GR(h:fV)(a9:lr)(e2:aat)(e5:M d l)(f:rV)(s:cv a [b,c,d,e])(b5:cv b [c,d,e])(c8:cv c [d,e])(d9:cv d [e])(f9:cv e []):nd [a,b,c,d,e] (qB i (qB l (hZ b8))):=ve h (vy a9 e2 e5 f b5 c8 d9 f9) s
theorem bU(i:Nat)(hN:X.N.Nodup)(a0:rV)(hi:ch ye)(S:ez Ka ahC)(c0:baE)(W:Kj):bdY:=aqS hN hi S a0 c0 W
theorem sI(i:Nat)(hN:X.N.Nodup)(hi:ch ye)(S:ez Ka ahC)(W:Kj):a'D:=aNZ hN hi S W
theorem GS(K:Fg){f:Str}(a0:M e d6)(U:ch (ag8 e f cF tH=tH))(g:FK):zu K:=flK g a0 U
theorem aU5(K:Fg)(b3:fV)(U:lr)(c0:a94)(g:FK):DB (So K):=Sn (ixl g) b3 U c0
theorem avt(K:Fg)(b3:fV)(U:lr)(c0:a94)(g:FK):DB (Sq K):=Sn (ixt g) b3 U c0
theorem aU6{st:Stmt}{c5:cW}{e8:Sp}{j k:Nat}{a7:fE}{t:TA}{R:bgN}(G:biI)(a6:Qq)(b3:FA)(c3:ez (j<=k) Vm)(d8:ch qo)(l:mj)(a0:Bv)(b8:JW):a'9:=kc R G a6 c3 d8 b3 l a0 b8
theorem ea{j:CmpOp}{J:R2}(d0:Ru)(b3:fV)(U:lr)(c4:a9k):a9z:=KO d0 b3 U c4
theorem afk{j:CmpOp}{J:R2}(d0:Ru)(b3:fV)(U:lr)(c4:a9k):M alW Yu:=KN d0 b3 U c4
theorem mC{c7 iter:Expr}{a:uj}{wi:TI}{g:TG}{c3:TS}(hi:aaC)(d8:aKz)(U:aI6)(c2:ez aMi aul._auto_1)(b0:ch fR)(c0:anC):bhT:=aOs c2 b0 hi d8 U c0
theorem aU7(K:Fg)(c4:ge "len")(b3:fV)(d8:ch (Gl X "len"))(a0:cv a [])(b8:Zk)(g:FK):M (eA "len" [a]) (KU (KZ K) (hZ d6)):=F9 (aS2 g) d8 c4 aTc (d_ b3 a0) ax ax a0 b8
theorem afl(K:Fg)(b3:fV)(a0:ez apt agZ)(g:FK):BO K:=aTa g b3 a0
theorem Cs(K:Fg){lo hi:PH}{h8 a:TO}{f6:Pos}(a0:rV)(a5:PO X lo h8)(hu:PO X hi a)(g:FK):IH (Sr K):=arw (aS_ g) a0 a5 hu
universe z
structure Zt where
 P:Mi
 w:oP
 K:Fg
 mg:dN
 base:iO
 e:aaQ
 G:Bw
theorem at_{I:Type}{P:cw I}{l:ba}(h:aL l (P x))(i:Nat){a:I}(e:Zi):P a:=h a (bM e)
noncomputable def afm(K:Fg)(mg:dN)(e:aaQ)(G:Bw):bc9:=avf G (at_ (cu (avh e)) 79 rfl) (jo tE)
open PySem.Challenge in def LJ(K:Fg):Sp:=fun O H Q _=>∃a:PySem.W.Codec.denoteAll WI,N (PySem.W.Codec.withinAll WI a=ab) (a37 WI rw_glassrecord_s01_answers.asked a=ab) (eS O (PySem.W.Codec.encAll WI a)) (j v L (Dw K L v (rw_glassrecord_s01_answers.ret.enc (a37 WI rw_glassrecord_s01_answers.f a))) (Q v L))
theorem zne:eJ Zt:=by have w:oP:={draws:=hm 0,params:=bih};obtain⟨s,_,h⟩:=zi (HX.rb w Mm);exact⟨a HX.P w (KT s) (ab (eU (a38 (KT s) CN x) ae)) (o7 Mm) h (fun x v z=>by rw[z]<;>rfl)⟩
noncomputable def Z0:Zt:= @a09 Zt zne (fu (¬aM7))
@[irreducible]noncomputable def P:Mi:=Z0.P
@[irreducible]noncomputable def w:oP:=Z0.w
@[irreducible]noncomputable def K:Fg:=Z0.K
@[irreducible]noncomputable def mg:dN:=Z0.mg
@[irreducible]noncomputable def base:iO:=Z0.base
theorem eZ:aaQ:=yJ Z0.e
theorem gZ:Bw:=yJ Z0.G
theorem zzA(i:Nat){x:String}(h:fh abN):mg x=ae:=gZ _ _ (ms (E8).1)
theorem zzI(i:Nat){x:String}{n:Int}(h:A itN (x,n)):ab x n:=aUH gZ (ms (aV E8))
theorem zzT(i:Nat){x:String}{l:aQ}(h:A tpN (x,l))(n:eb<=9):a'8:=aUG gZ (ms (bX E8)) n
theorem TQ(i:Nat){c:String}{l:EV}(h:aJ3):bgT:=aUM (ms (b1 E8))
theorem LK(i:Nat){c:String}{l:EV}(h:aJ3):f0 c (dp c):=gZ _ _ (TQ i h).1
theorem zzN(i:Nat){c:String}{l:EV}(h:aJ3)(j:Nat){f:String}(e:aa l f):ca (dp c) f:=at_ (TQ i h).2.2 j e
theorem zzF(i:Nat){x:String}{st:Stmt}(h:A fnN (x,st)):fnP K (x,st):=ms (cu E8)
theorem zzM(i:Nat){p:bfC}(h:A meN p):meP K p:=ms (du E8)
theorem zzJ(i:Nat){p:aLH}(h:A FV p):inP K p:=ms (eZ (E8).2)
theorem T.len:gG "len":=gD 0
theorem T.range:gG "range":=gD 1
theorem T.enumerate:gG "enumerate":=gD 2
theorem T.zip:gG "zip":=gD 3
theorem T.reversed:gG "reversed":=gD 4
theorem T.sorted:gG "sorted":=gD 5
theorem T.set:gG "set":=gD 6
theorem T.list:gG "list":=gD 7
theorem T.tuple:gG "tuple":=gD 8
theorem T.max:gG "max":=gD 9
theorem T.min:gG "min":=gD 10
theorem T.all:gG "all":=gD 11
theorem T.bjE:ab "HEADER_BYTES" 20:=ap 0
theorem T.bjF:ab "POINT_BYTES" 8:=ap 1
theorem T.TR:ab "LINE_BYTES" 4:=ap 2
theorem T.afn:ab "MARK_BYTES" 12:=ap 3
theorem T.avu:GL K mg "OPENING" (re 49):=t1 0
theorem T.avv:ab "LEAST_SIDE" 16:=ap 4
theorem T.avw:ab "MOST_SIDE" 1048575:=ap 5
theorem T.aVe:ab "LEAST_POINTS" 4:=ap 6
theorem T.aVf:ab "MOST_POINTS" 4096:=ap 7
theorem T.aVg:ab "LEAST_LINES" 4:=ap 8
theorem T.aVh:ab "MOST_LINES" 8192:=ap 9
theorem T.aVi:ab "LEAST_MARKS" 1:=ap 10
theorem T.aVj:ab "MOST_MARKS" 2048:=ap 11
theorem T.afo:ab "OUTSIDE" 0:=ap 12
theorem T.aVk:ab "FRAME_PLACE" 20:=ap 13
theorem T.bjG:ab "LEAD" 0:=ap 14
theorem T.LL:ab "ERASE" 1:=ap 15
theorem T.LM:ab "MOVE" 2:=ap 16
theorem T.MARK:ab "MARK" 3:=ap 17
theorem T.afp:ab "DROP" 4:=ap 18
theorem T.avx:ab "LEAST_LEAD" 2:=ap 19
theorem T.avy:ab "MOST_LEAD" 64:=ap 20
theorem T.avz:ab "MOST_STEPS" 65536:=ap 21
theorem T.aVl:ab "DONE" 0:=ap 22
theorem T.aVm:ab "NO_SUCH_THING" (-2):=ap 23
theorem T.aVn:ab "TOO_MANY_STEPS" (-3):=ap 24
theorem T.aVo:ab "NOT_TAKEN" (-5):=ap 25
theorem T.avA:GL K mg "RECORD_OPENING" (re 72):=t1 1
theorem T.avB:ab "FIRST_PLACE" 16:=ap 26
theorem T.aVp:GL K mg "STEP_BYTES" [.int 14,.int 5,.int 11,.int 15,.int 3]:=t1 2
theorem T.aVq:ab "CALL_OPEN" 1:=ap 27
theorem T.aVr:ab "CALL_BARE" 2:=ap 28
theorem T.avC:ab "CALL_LEAD" 3:=ap 29
theorem T.aVs:ab "CALL_ERASE" 4:=ap 30
theorem T.avD:ab "CALL_MOVE" 5:=ap 31
theorem T.avE:ab "CALL_MARK" 6:=ap 32
theorem T.aVt:ab "CALL_DROP" 7:=ap 33
theorem T.aVu:ab "CALL_UNDO" 8:=ap 34
theorem T.aVv:ab "CALL_REDO" 9:=ap 35
theorem T.avF:ab "CALL_COUNT" 10:=ap 36
theorem T.aVw:ab "CALL_PLAN" 11:=ap 37
theorem T.aVx:ab "CALL_READ" 13:=ap 38
theorem T.aVy:GL K mg "WITH_ROW" aLd:=t1 3
theorem T.aVz:ab "COUNT_DONE" 0:=ap 39
theorem T.aVA:ab "COUNT_UNDONE" 1:=ap 40
theorem T.aVB:ab "COUNT_PANES" 2:=ap 41
theorem T.aVC:ab "NO_RECORD" (-9):=ap 42
theorem T.avG:ab "OUT_OF_RANGE" (-1):=ap 43
theorem T.aVD:ab "TOO_LONG" (-6):=ap 44
theorem T.aVE:ab "MOST_LENGTH" 4294967295:=ap 45
theorem T.aVF:ab "MOST_KIND" 65535:=ap 46
theorem T.aVG:ab "MOST_CARTOON_BYTES" 131072:=ap 47
theorem T.aVH:ab "MOST_SAVED_BYTES" 67108864:=ap 48
theorem T.aVI:bet:=aUE gZ (cA E8)
noncomputable def T.bjH:eh:=dp "Drawing"
theorem T.bjI:yD K bI:=pC 0
theorem T.aVJ:f0 "Drawing" bI:=LK 0 rfl
theorem T.bjJ:ca bI "width":=cN 0 0
theorem T.bjK:ca bI "height":=cN 0 1
theorem T.bjL:ca bI "points":=cN 0 2
theorem T.bjM:ca bI "lines":=cN 0 3
theorem T.bjN:ca bI "marks":=cN 0 4
noncomputable def T.bjO:eh:=dp "Sweep"
theorem T.bjP:yD K dq:=pC 1
theorem T.aVK:f0 "Sweep" dq:=LK 1 rfl
theorem T.bjQ:ca dq "passed":=cN 1 0
theorem T.bjR:ca dq "gaps":=cN 1 1
theorem T.bjS:ca dq "links":=cN 1 2
theorem T.afq:ca dq "sides":=cN 1 3
noncomputable def T.bjT:eh:=dp "Panes"
theorem T.bjU:yD K lK:=pC 2
theorem T.aVL:f0 "Panes" lK:=LK 2 rfl
theorem T.bjV:ca lK "sweep":=cN 2 0
theorem T.avH:ca lK "mark_gaps":=cN 2 1
noncomputable def T.bjW:eh:=dp "Record"
theorem T.bjX:yD K dJ:=pC 3
theorem T.aVM:f0 "Record" dJ:=LK 3 rfl
theorem T.TU:ca dJ "cartoons":=cN 3 0
theorem T.TV:ca dJ "steps":=cN 3 1
theorem T.bjY:ca dJ "done":=cN 3 2
noncomputable def T.bjZ:eh:=dp "Desk"
theorem T.bj0:yD K hL:=pC 4
theorem T.aVN:f0 "Desk" hL:=LK 4 rfl
theorem T.bj1:ca hL "record":=cN 4 0
@[irreducible]noncomputable def T.TX:vq K bI "Drawing.__init__" aa2 aMV:=d7 0 0 (us6 (jo nh))
@[irreducible]noncomputable def T.avI:X "point_place" aa3 ["number"]:=bi 0
@[irreducible]noncomputable def T.avJ:eh "line_place" aa4 "number":=cz 1
@[irreducible]noncomputable def T.avK:eh "mark_place" aa5 "number":=cz 2
@[irreducible]noncomputable def T.avL:eR "byte_count" aa6:=bi 3
@[irreducible]noncomputable def T.avM:eR "ends_of" aa7:=bi 4
@[irreducible]noncomputable def T.numbered:X "numbered" aa8 (v3 "ends"):=zw 5
@[irreducible]noncomputable def T.avN:X "in_order" aa9 ["a","b"]:=cz 6
@[irreducible]noncomputable def T.avO:X "frame_alone" aa_ ["width","height","mark"]:=fL 7
@[irreducible]noncomputable def T.avP:X "number_at" aa' ["data","place","size"]:=fL 8
@[irreducible]noncomputable def T.avQ:X "two_bytes" aba ["value"]:=bi 9
@[irreducible]noncomputable def T.avR:X "four_bytes" abb ["value"]:=bi 10
@[irreducible]noncomputable def T.avS:f_ "opening_fault" abc:=bi 11
@[irreducible]noncomputable def T.avT:X "size_fault" abd an3:=zw 12
@[irreducible]noncomputable def T.avU:f_ "header_fault" abe:=bi 13
@[irreducible]noncomputable def T.avV:g2 "point_at" abf:=cz 14
@[irreducible]noncomputable def T.avW:g2 "line_at" abg:=cz 15
@[irreducible]noncomputable def T.avX:g2 "mark_at" abh:=cz 16
@[irreducible]noncomputable def T.avY:f_ "drawing_told" abi:=bi 17
@[irreducible]noncomputable def T.avZ:X "point_bytes" abj ["point"]:=bi 18
@[irreducible]noncomputable def T.av0:X "line_bytes" abk ["line"]:=bi 19
@[irreducible]noncomputable def T.av1:X "mark_bytes" abl ["mark"]:=bi 20
@[irreducible]noncomputable def T.av2:X "cartoon_bytes" abm ["cartoon"]:=bi 21
@[irreducible]noncomputable def T.turn:X "turn" abn ["p","q","r"]:=fL 22
@[irreducible]noncomputable def T.afr:X "lies_inside" abo ["p","q","r"]:=fL 23
@[irreducible]noncomputable def T.crosses:X "crosses" abp apP:=g5 24 aal
@[irreducible]noncomputable def T.afs:X "count_left" abq ["row","spot"]:=cz 25
@[irreducible]noncomputable def T.TY:vq K dq "Sweep.__init__" abr XZ:=d7 1 1 tE
@[irreducible]noncomputable def T.TZ:mz K dq "new_region" "Sweep.new_region" abt XZ:=dv 0 tE
@[irreducible]noncomputable def T.av3:P dq "region" "Sweep.region" abu "number":=i6 1
@[irreducible]noncomputable def T.T1:mz K dq "link" "Sweep.link" abv ["self","one","other"]:=dv 2 aFS
@[irreducible]noncomputable def T.T2:P dq "gap_at" "Sweep.gap_at" abw "spot":=i6 3
@[irreducible]noncomputable def T.T3:mz K dq "gaps_above" "Sweep.gaps_above" abx (b3 "left" "right" "begun"):=dv 4 aal
@[irreducible]noncomputable def T.T4:mz K dq "pass_point" "Sweep.pass_point" aby (b3 "point" "ended" "tops"):=dv 5 aal
@[irreducible]noncomputable def T.av4:X "left_to_right" abz ["point","tops"]:=cz 26
@[irreducible]noncomputable def T.T5:vq K lK "Panes.__init__" abA ["self","sweep","gaps"]:=d7 2 2 aFS
@[irreducible]noncomputable def T.GU:P lK "home" "Panes.home" abB "mark":=i6 6
@[irreducible]noncomputable def T.T6:P lK "homes_beside" "Panes.homes_beside" abC "line":=i6 7
@[irreducible]noncomputable def T.T7:mz K lK "how_many" "Panes.how_many" abD XZ:=dv 8 tE
@[irreducible]noncomputable def T.av5:eR "panes_of" abE:=bi 27
@[irreducible]noncomputable def T.av6:X "lines_between" abF ["drawing","i","j"]:=fL 28
@[irreducible]noncomputable def T.av7:eR "neighbours_of" abG:=bi 29
@[irreducible]noncomputable def T.av8:X "first_loose" abH ["neighbours"]:=bi 30
@[irreducible]noncomputable def T.av9:X "walk_deep" abI ["neighbours"]:=bi 31
@[irreducible]noncomputable def T.av_:m1 "first_unreached" abJ:=cz 32
@[irreducible]noncomputable def T.av':m1 "earliest_back" abK:=cz 33
@[irreducible]noncomputable def T.awa:m1 "first_cut" abL:=cz 34
@[irreducible]noncomputable def T.awb:f_ "cartoon_told" abM:=bi 35
@[irreducible]noncomputable def T.judge:k6 "judge" abO:=cz 36
@[irreducible]noncomputable def T.awc:k6 "same_lines" abQ:=cz 37
@[irreducible]noncomputable def T.awd:k6 "net_fault" abR:=cz 38
@[irreducible]noncomputable def T.awe:eR "form_fault" abS:=bi 39
@[irreducible]noncomputable def T.awf:eR "points_fault" abT:=bi 40
@[irreducible]noncomputable def T.awg:eR "lines_fault" abU:=bi 41
@[irreducible]noncomputable def T.awh:eR "frame_fault" abV:=bi 42
@[irreducible]noncomputable def T.awi:X "edge_stands" abW bgg:=zw 43
@[irreducible]noncomputable def T.awj:k6 "tangle_fault" abX:=cz 44
@[irreducible]noncomputable def T.awk:X "is_tangled" abY ["line","points","rivals"]:=fL 45
@[irreducible]noncomputable def T.awl:eR "ways_fault" abZ:=bi 46
@[irreducible]noncomputable def T.awm:eR "marks_fault" ab0:=bi 47
@[irreducible]noncomputable def T.awn:eh "first_misplaced" ab1 "homes":=cz 48
@[irreducible]noncomputable def T.awo:X "first_repeated" ab2 ["homes"]:=bi 49
@[irreducible]noncomputable def T.awp:X "drawing_after" ab3 ["cartoon","step"]:=cz 50
@[irreducible]noncomputable def T.awq:X "redrawn" ab4 aLe:=g5 51 aal
@[irreducible]noncomputable def T.joined:X "joined" ab5 ["row"]:=bi 52
@[irreducible]noncomputable def T.parted:X "parted" ab6 ["line","row"]:=cz 53
@[irreducible]noncomputable def T.awr:b9 "with_lead" ab7 "row" "mark":=fL 54
@[irreducible]noncomputable def T.aws:b9 "with_erased" ab8 "i" "j":=fL 55
@[irreducible]noncomputable def T.awt:b9 "with_moved" ab9 "k" "point":=fL 56
@[irreducible]noncomputable def T.awu:b9 "with_mark" ab_ "i" "mark":=fL 57
@[irreducible]noncomputable def T.awv:X "with_dropped" ab' ["cartoon","k"]:=cz 58
@[irreducible]noncomputable def T.T8:vq K dJ "Record.__init__" aca (oN "first"):=d7 3 3 aFQ
@[irreducible]noncomputable def T.aww:dT "cartoon" "Record.cartoon" acb:=dv 9 tE
@[irreducible]noncomputable def T.awx:dT "undone" "Record.undone" acd:=dv 10 tE
@[irreducible]noncomputable def T.GV:P dJ "take" "Record.take" ace "step":=i6 11
@[irreducible]noncomputable def T.T9:dT "forget_undone" "Record.forget_undone" acf:=dv 12 tE
@[irreducible]noncomputable def T.GW:dT "undo" "Record.undo" acg:=dv 13 tE
@[irreducible]noncomputable def T.T_:dT "redo" "Record.redo" ach:=dv 14 tE
@[irreducible]noncomputable def T.refusal:X "refusal" aci ["fault"]:=bi 59
@[irreducible]noncomputable def T.awy:X "saved_bytes" acj ["record"]:=bi 60
@[irreducible]noncomputable def T.awz:X "step_bytes" ack ["step"]:=bi 61
@[irreducible]noncomputable def T.awA:f_ "record_told" acm:=bi 62
@[irreducible]noncomputable def T.awB:f_ "head_fault" acn:=bi 63
@[irreducible]noncomputable def T.awC:f_ "steps_told" aco:=bi 64
@[irreducible]noncomputable def T.awD:X "steps_fault" acp ["record","data","place"]:=fL 65
@[irreducible]noncomputable def T.awE:g2 "step_fault" acq:=cz 66
@[irreducible]noncomputable def T.step_size:g2 "step_size" acr:=cz 67
@[irreducible]noncomputable def T.step_at:g2 "step_at" acs:=cz 68
@[irreducible]noncomputable def T.awF:g2 "lead_at" acu:=cz 69
@[irreducible]noncomputable def T.Ua:vq K hL "Desk.__init__" acv XZ:=d7 4 4 tE
@[irreducible]noncomputable def T.Ub:mz K hL "answer" "Desk.answer" acw bdw:=dv 15 aal
@[irreducible]noncomputable def T.Uc:P hL "begin_from_cartoon" "Desk.begin_from_cartoon" acx "data":=i6 16
@[irreducible]noncomputable def T.Ud:P hL "begin_bare" "Desk.begin_bare" acy "numbers":=i6 17
@[irreducible]noncomputable def T.Ue:P hL "begin_from_saved" "Desk.begin_from_saved" acz "data":=i6 18
@[irreducible]noncomputable def T.Ug:P hL "begin" "Desk.begin" acA "record":=i6 19
@[irreducible]noncomputable def T.awG:X "lengths_fit" acB ["lengths"]:=bi 70
@[irreducible]noncomputable def T.awH:X "mark_fits" acC ["numbers"]:=bi 71
@[irreducible]noncomputable def T.awI:o9 "in_range" acD:=fL 72
@[irreducible]noncomputable def T.awJ:X "mark_told" acE ["numbers"]:=bi 73
@[irreducible]noncomputable def T.awK:X "row_told" acF ["row"]:=bi 74
@[irreducible]noncomputable def T.awL:o9 "step_told" acG:=fL 75
@[irreducible]noncomputable def T.awM:X "told_of" acH ["record","call","numbers"]:=fL 76
@[irreducible]noncomputable def T.awN:X "counted" acI ["record","what"]:=cz 77
@[irreducible]noncomputable def T.awO:f_ "with_count" acJ:=bi 78
@[irreducible]noncomputable def T.answers:bc9:=afm K mg eZ gZ
universe GA
namespace GA
open PySem PySem.Spec PyProof.Rows L2
def gQ(p:Pt):Prop:=p.x<2^33/\p.y<2^33
def kv(p:Pt):Prop:=p.x<2^30/\p.y<2^30
theorem kv.kx{p:Pt}(h:kv p):gQ p:=⟨t3 h.1,t3 h.2⟩
theorem Uh(p q:Pt):mO ys aKf=ph q:=by delta WJ;simp only[mO];rw[N h p.y q.y];{rw[N k p.x q.x];{simp[h,k]};{simp[h,show¬v p.x=q.x from J (k (aDz z))]}};{simp[h,show¬v p.y=q.y from J (h (aDz z))]}
theorem dO(i j:Int):ar (cp i) (cp j)=ar i j:=aT
theorem oK{K:Fg}{H:Hp}{a:Addr}{p:Pt}(h:cy (he p.y p.x)):mO (hL ys):=cx h
abbrev aVO(H:Hp)(vs:af)(p q J:Pt):Prop:=∃x y z,vs=[x,y,z]/\br x p/\br y q/\br z J
inductive awP(vs:af)(H:Hp)(Q:VK)(E:XK):Prop|mk:rb (m3 aLv) (awP vs H Q E)
inductive awQ(vs:af)(H:Hp)(Q:VK)(E:XK):Prop|mk:rb (dy (DL p q J)) (awQ vs H Q E)
inductive awR(vs:af)(H:Hp)(Q:VK)(E:XK):Prop|mk:∀(x y z u:V)(p q J s:Pt),e [x,y,z,u] (br x p) (br y q) (br z J) (j (br u s) (kv p) (kv q) (kv J) (kv s) (dy aMm) (awR vs H Q E))
theorem awS{p q J:Pt}(c2:kv p)(e0:kv q)(a6:kv J): -(2^64)<aLv/\aLv<2^64:=by obtain⟨e9,f6⟩:=c2;rw[kz d2 q2];obtain⟨r1,r2⟩:=a6;delta NW Gla.dx Gla.dy;have O:∀u v:Int,c (-(2^30)<=u) (u<=2^30) (-(2^30)<=v) (v<=2^30) (-(2^60)<=u*v/\u*v<=2^60):=by{intro u v a b c d;have m:(u*v).natAbs<=2^30*2^30:=by{rw[J Int.natAbs_mul (Nat.mul_le_mul bL bL)]};have e:cf 2^30*2^30=2^60:=by{simp};rw[e]at m;rw[ue]};rw[fK (O Ft (v J.y-q.y) (kF e9 q.x) (kF d2 p.x) (kF q2 J.y) (kF r2 q.y)),ep (O anW (v J.x-q.x) bL bL bL bL)];generalize fM J.y q.y=A at*;generalize k9 J.x q.x=B at*;exact⟨FW a9.2 a3.1,FW a3.2 a9.1⟩
section z
theorem awT:ap 1 T.turn.f T.turn.fd bcb awP:=by refine T.turn.F.ok aTH ap4 FU;{obtain⟨p,q,J,⟨x,y,z,rfl,_⟩,_⟩:=h;rfl};{obtain⟨p,q,J,⟨_,_,_,rfl,⟨a,rfl,c2⟩,⟨b,rfl,e0⟩,⟨c,rfl,hR⟩⟩,e8,d,e,k⟩:=h;rw[ca (cl (ly yA bfA bfA))];have c2:=lF c2;have e0:=lF e0;have hR:=lF hR;rw[f4 m4 e8,kt i d,iK l e,ah b e0 dr (m a _ c2 dr (m c _ hR dg (m b _ e0 dg a9F))),kV f q.x,kV g p.x,ah b e0 dg (m a _ c2 dg (m c _ hR dr (m b _ e0 dr a9F))),kV m4 q.y,kV i p.y];exact k}
theorem awU:ap 2 T.afr.f T.afr.fd bcb awQ:=by refine T.afr.F.ok aTI ap4 FU;{obtain⟨p,q,J,⟨x,y,z,rfl,_⟩,_⟩:=h;rfl};{obtain⟨p,q,J,⟨x,y,z,rfl,l4,f,g⟩,e8,d,e,k⟩:=h;have⟨a,d0,c2⟩:=l4;have⟨b,f7,e0⟩:=f;have⟨c,g7,hR⟩:=g;rw[b _ (cl (BC (KN (ary ai2) bR av (BH _)) (BC (KN (ary ai2) av aq (BH _)) (R4 (KN gP (dE bR aq av) bD (BH _)))))) a c _ _ d0 g7 (m (oK c2) (oK hR) _ ?_)];rw[Uh];rw[d0 DL,a_3];{rw[b c b _ _ g7 f7 (oK hR) (oK e0) Pk];rw[Uh];rw[qz a3];refine fH (fun a9=>?_) (fun a9=>?_);{rw[qz a9,d p q J (cA l4 f g) e8 d e ?_,J dO k]};rw[ay]};rw[ay]}
theorem aVP:ap 2 T.crosses.f T.crosses.fd apP awR:=by refine T.crosses.F.ok aTJ ap4 FU;{obtain⟨x,y,z,u,p,q,J,s,rfl,_⟩:=h;rfl};{obtain⟨x,y,z,u,p,q,J,t,rfl,l4,f,g,a,e8,d,e,ss,k⟩:=h;rw[ca (bo (dm (KO vc (ly F7 (dE bR aq av) (dE bR aq bb)) bD (BH _)) mq) (KN lz (ly F7 (dE av bb bR) (dE av bb aq)) bD (BH _))),b p q J (cA l4 f g) e8.kx d.kx e.kx p (a q t (cA l4 f a) e8.kx d.kx ss.kx _ _ (a2 rfl rfl (.inl (awS e8 d e)))),d0 zC,a_3];{rw[ec ai,ag4]at k;exact k};{rw[qz (dH ai),b J t p (cA g a l4) e.kx ss.kx e8.kx J (a t q (cA g a f) e.kx ss.kx d.kx _ _ (bj rfl (.inl (awS e ss e8)) k))]}}
universe z
inductive awV(K:Fg)(vs:af)(H:Hp)(Q:VK)(E:XK):Prop|mk:∀(l:Addr)(v:V)(ls:ni)(z:Pt)(n:Nat),e [cC,v] (bm eR l ls) (br v z) (gQ z) (c bd8 (n<=wX) (bfK) (m3 n) (awV K vs H Q E))
noncomputable def aVQ:H8->Hp->Nat:=fun M _=>match M with|[_,_,some (.int lo),some (.int hi),_,_]=>apk|_=>0
section z
theorem aft:ap 2 T.afs.f T.afs.fd ["row","spot"] (awV K):=by refine T.afs.F.ok aTK ap4 FU;{obtain⟨l,v,ls,z,n,rfl,_⟩:=h;rfl};{obtain⟨l,v,ls,z,n,rfl,⟨O,S,a5⟩,c9,e8,sl,d6,d1,k⟩:=h;have o:=aCk;rw[cl (ah (ir 2 bD) (ir 3 (F9 arI bH a39 a3Z (ve bR Sj))) (bo (F5 NX (KO lz av bb (BH _)) (ah (ir 4 (eC aq0 (cZ av bb))) (ir 5 (Sn arD bR bQ rz)) (fG (sg (KO lz (dE (mX cJ) (mX cJ) aq) bD (BH _)) (fG (ir 2 (hv bQ))) (fG (ir 3 bQ)))))) av)) (.inl S) (aOw (fun M L=>L=H/\GK (fun(lo hi:Nat)(m i:bY V)=>vu (M=[tV,pJ,aa (.int lo),aa (.int hi),m,i]) (lo<=n) (n<=hi) (hi<=wX))) aVQ (a rfl 0 bx ae ae rfl cS ag (x o.l)) ?_ ?_)];{rintro M L⟨rfl,lo,hi,m,i,rfl,a3,a9,e2⟩;rw[bD Kc];{have lt:lo<hi:=by{rw[fy (By c)]};rw[aW _ rfl a_P,cd D a'r (ae uT),j9 4 (cp a'r)];rw[D];have f:uT<wX:=by{rw[en]};rw[c u d3 a x y c0 b r (gP a5 f)];have sm:=sl _ (te f);rw[ah l S (dZ d3) (as a c0 dg (as a c0 dr (a _ _ z (oJ (v b r c9)) sm.1 sm.2 e8 ?_)))];have c4:=d1 _ _ (da f);refine fH (fun d=>?_) (fun d=>?_);{have d':=c4.mpr ai;rw[dI (f rfl (uT+1) hi _ bB a9 e2)];show zg (ae uT+1)<zg Ji;lia-abstractProof};{have d':¬uT<n:=ah (d ai);rw[dI (f rfl lo uT _ a3 (j9 d') dV)];show(ae uT-Ji).toNat<zg Ji;lia-abstractProof}};{have e:lo=n:=by{exact mS (cU a3) (cf a9 (Bz c))};rw[b_];exact k}};{intro M L g o7 e0 h;unfold vd BG at h;rw[dp b4 h Vh,bl b9 h Vh,R i j rfl h Vh];delta vd BG;exact wY b4 (wY b9 (e0 _ _ h))}}
universe z
noncomputable def vz(w h:Int)(b2 X G:Addr):hX:=aL "marks" G (aL "lines" X (aL "points" b2 (kq "height" (.int h) (kq "width" (.int w) []))))
section z
variable{w h:Int}{b2 X G:Addr}
theorem y_:iu RD "width"=aa (.int w):=by delta vz;rw[dh,pI,dh,pI,dh,pI,dh,pI,dh,cO]
theorem GX:iu RD "height"=aa (.int h):=by delta vz;rw[bgy]
theorem fX:bN RD "points" b2:=by delta vz;rw[bhI]
theorem kz:bN RD "lines" X:=by delta vz;rw[aLf]
theorem ju:bN RD "marks" G:=by delta vz;rw[dh,cO]
universe z
structure LN(C:Addr)(H:Hp)(a:Addr)(D:Gla.Plan)(b2 X G:Addr):Prop where
 at_:∃dx,cy (aI C (vz D.w D.h b2 X G))
 p:fg b2 lL
 l:dB sA H X gX
 m:dB sC H G gW
theorem LN.mono{C:Addr}{H L:Hp}{a:Addr}{D:Gla.Plan}{b2 X G:Addr}(s:bP)(h:Al):g6 L D:=by rw[cw e mY];exact I dx (bv e) (ai3 dk s) (h.l.mono iL s) (aDA jt s)
inductive awW(C:Addr)(vs:af)(H:Hp)(Q:VK)(E:XK):Prop|mk:∀(p dx:Addr)(w h:Int)(b2 X G:Addr),A [fP,.int w,.int h,YJ,.ref X,.ref G] (bh p Zc) (Q .bC (ad p (aI C RD))) (awW C vs H Q E)
inductive afu(vs:af)(H:Hp)(Q:VK)(E:XK):Prop|mk:∀n:Nat,vs=[jj]->kp (ai4 n)->afu vs H Q E
inductive afv(C:Addr)(vs:af)(H:Hp)(Q:VK)(E:XK):Prop|mk:p0 (WK D n) (afv C vs H Q E)
inductive awX(C:Addr)(vs:af)(H:Hp)(Q:VK)(E:XK):Prop|mk:p0 (aDB D n) (awX C vs H Q E)
inductive awY(C:Addr)(vs:af)(H:Hp)(Q:VK)(E:XK):Prop|mk:vG (A [bc] Al (kp aDC) (awY C vs H Q E))
inductive awZ(vs:af)(H:Hp)(Q:VK)(E:XK):Prop|mk:∀i j:Nat,vs=[pK,vn j]->ga (sA L v (min i j,akY))->awZ vs H Q E
inductive aw0(C:Addr)(vs:af)(H:Hp)(Q:VK)(E:XK):Prop|mk:dc (zC (e.1<de)) (lM<hC) (zG D.drawn->aw0 C vs H Q E)
section z
theorem aVR:T.TX.Ok mg P w aj 1 (awW bI):=by refine T.TX.go aTm aK;generalize aF=e3,az=A,aE=outer,aD=s,aB=H,aA=vs,aG=Q,aH=E;rw[aN,M oi,aX];generalize kU=p,kW=dx,kY=w,kZ=h,k_=b2,lg=X,ll=G;rw[ds c2,g _ (ft aq av (ah (hA bb) (hA bQ) (fG (hA cJ)))) p _ dx _ c2 (a dS Ia (ax) p _ dx _ rfl (b ak dS H_ (v6 1) p dx _ (a rfl ak dS gf (nw ax) p _ dx (i ak dS kF (nw (vx ax)) p _ (f dx _ ak (a2 dS jI (nw (vx (vx ax)))))))))];rw[yx,yx,yx,yx];exact k
theorem aw1:T.avI.Ok P w aj 1 afu:=by refine T.avI.go aTn aK;generalize aF=e3,az=A,aE=outer,aD=s,aB=H,aA=vs,aG=Q,aH=E;rw[aN,dj n rfl k,e _ (cl (y0 bR)) _ _ rfl rfl yt ?_];have e:ae (ai4 n)=20+8*cK:=by{rfl};rw[d0 vn,bs e];exact k
theorem aw2:T.avJ.Ok P w aj 2 (afv bI):=by refine T.avJ.go aTo aK;generalize aF=e3,az=A,aE=outer,aD=s,aB=H,aA=vs,aG=Q,aH=E;rw[aN,M P7,aX,n a D b2 X G n,ds h,fF,t6 h.p,eB (cl (cY (a7 aw1 nZ) T.TR aq)) (a hd dS gf fX b2 vs rfl (ce c0) (a iS rfl _ _ rfl rfl yt ?_))];have e:ae (WK D n)=ae (ai4 iS)+4*cK:=by{rw[ai5];delta WK ai4;rfl};rw[d0 vn,bs e];exact k
theorem aw3:T.avK.Ok P w aj 3 (awX bI):=by refine T.avK.go aTp aK;generalize aF=e3,az=A,aE=outer,aD=s,aB=H,aA=vs,aG=Q,aH=E;rw[aN,M P7,aX,n a D b2 X G n,ds h,fF,t6 h.l,a9 (cY (b5 aw2 nZ) T.afn aq) kF kz X (oY (aw yt))];have e:ae (aDB D n)=ae (WK D iS)+12*cK:=by{rw[ai5];delta aDB WK;rfl};rw[d0 vn,bs e];exact k
theorem aVS:T.avL.Ok P w aj 4 (awY bI):=by refine T.avL.go aTq aK;generalize aF=e3,az=A,aE=outer,aD=s,aB=H,aA=vs,aG=Q,aH=E;rw[aN,M iA,aX,Bq,ds h,fF,t6 h.m,a9 (b5 aw3 nZ) jI ju G ?_,J ai5 k]
theorem aVT:T.avN.Ok P w aj 1 awZ:=by refine T.avN.go aTt aK;generalize aF=e3,az=A,aE=outer,aD=s,aB=H,aA=vs,aG=Q,aH=E;rw[aN,a0 i j rfl k,fc (cl (R5 (ea lz bR aq) (as bR aq) (as aq bR))) (Kc)];{have lt:i<j:=by{rw[fy (By c)]};rw[v et (ep cm amH)];rw[ak,qV dV,HE (ie lt)]};{rw[b4 lt (¬i<j) (sS (Bz c)),v et (ep cm amH)];rw[ak,Dj (j9 lt),VI (j9 lt)]}
theorem LO:T.avM.Ok P w aj 1 (aw0 bI):=by refine T.avM.go aTr aK;generalize aF=e3,az=A,aE=outer,aD=s,aB=H,aA=vs,aG=Q,aH=E;rw[aN,M iA,aX,Bq,aw h ix c9 k,fF,t6 h.p,cG hu a5 h.l,qZ (bo (bU 1 ai6 bO) (BK rfl ai6 pP (bk "a" 2 "b" 3) (bC (V 2 ai6 3 ai6)) kO (bC (as (bs aq av) amV)))) ⟨k7 hu,fun Z f=>aeW iL gA h.l.ls (an (aa ru)) f c9 ?_ ?_⟩];{rw[dJ e x a0];have C:=ix e uv;rw[cR g7 r1 (gP c2 C.1),bK g8 r2 (gP c2 C.2),AT (m b2 _ (br c0) (dZ g7) (m b2 _ (br c0) (dZ g8) ⟨(ET),fun t c6=>?_⟩)),bdv];refine GY (aJ ak ?_);rw[Z (wZ C.1) (hK W r1),Z (wZ C.2) (hK W r2)]};{intro L d7 s b6 c5;refine k Z L s f (aJ d7 b6);rw[eV c5];exact c5}
universe z
noncomputable def bV(b:Gla.Bytes):af:=wW (gX (vn eD))
theorem dC(b:Gla.Bytes):t kJ=cw:=cG bV (bA _)
theorem qK(b c:Gla.Bytes):bV (b++c)=kJ++bV c:=i4 bV
theorem afw{b:Gla.Bytes}{i:Nat}{c:UInt8}(h:A b c):A (kJ) (vn eD):=by delta bV;rw[cz,h];rfl
theorem afx(O:af)(p q:Nat):cr O p q=an (Hf p) (q-p):=by delta jq;rw[ai7,ai7];rw[eT (iq p bx)];{rw[qV (ey h)];rw[ea q bx,cL];{rw[Dj g,DJ aT,DJ (t sR (Nat.sub_le_sub_right g p))]}};rw[a_]
theorem afy(b:Gla.Bytes)(p q:Nat):cr kJ p q=bV (an (ai8 p) (q-p)):=by rw[afx];delta bV;rw[Ds,Dt]
theorem le2{n:Nat}(h:b2 n):bV (gI 2 n)=[.int (cK%256),.int (cK/256)]:=by unfold bV Gla.le Gla.le Gla.le;simp;lia-abstractProof
theorem le4{n:Nat}(h:bk n):bV (gI 4 n)=cg (cK%256) (cK/256%256) (cK/65536%256) (cK/16777216):=by unfold bV Gla.le Gla.le Gla.le Gla.le Gla.le;simp;rw[Fm]
noncomputable def accN:bK Ms->Nat|[]=>0|c::J=>eD+256*accN J
theorem aVV(b:Gla.Bytes):accN b=Gla.numLe b:=by induction b with|nil=>{rfl}|cons c J d6=>unfold accN Gla.numLe;rw[d6]
inductive aw4(K:Fg)(vs:af)(H:Hp)(Q:VK)(E:XK):Prop|mk:∀(l:Addr)(b:Gla.Bytes)(p n:Nat),e [cC,jR,jj] tL (n<=8) (x6 (Ib b p n)) (aw4 K vs H Q E)
inductive aw5(vs:af)(H:Hp)(Q:VK)(E:XK):Prop|mk:∀n:Nat,A [jj] (b2 n) (mp (gI 2 n)) (aw5 vs H Q E)
inductive aw6(vs:af)(H:Hp)(Q:VK)(E:XK):Prop|mk:∀n:Nat,A [jj] (bk n) (mp (gI 4 n)) (aw6 vs H Q E)
inductive aw7(K:Fg)(vs:af)(H:Hp)(Q:VK)(E:XK):Prop|mk:lM (ga (dG L v (ai9 b p))) (aw7 K vs H Q E)
inductive aw8(K:Fg)(vs:af)(H:Hp)(Q:VK)(E:XK):Prop|mk:lM (ga (sA L v (hq p,hq (p+2)))) (aw8 K vs H Q E)
inductive aw9(K:Fg)(vs:af)(H:Hp)(Q:VK)(E:XK):Prop|mk:lM (ga (sC L v (aDD b p))) (aw9 K vs H Q E)
inductive PxV(H:Hp)(v:V)(p:Pt):Prop|mk:l a J (v=bc) (l7 (.int p.y:: .int p.x::J)) aLw
theorem dG.px{H:Hp}{v:V}{p:Pt}(h:br v p):aLw:=by rw[ak e h h];exact d a [] e h
inductive aw_(vs:af)(H:Hp)(Q:VK)(E:XK):Prop|mk:∀(v:V)(p:Pt),e [v] aLw (bk p.x/\bk p.y) (mp (rf p)) (aw_ vs H Q E)
inductive aw'(vs:af)(H:Hp)(Q:VK)(E:XK):Prop|mk:∀(v:V)(p:fB),e [v] (sA H v p) (b2 p.1/\b2 p.2) (vK (bV (gI 2 p.1++gI 2 p.2))) (aw' vs H Q E)
inductive axa(vs:af)(H:Hp)(Q:VK)(E:XK):Prop|mk:∀(v:V)(m:Gla.Mark),e [v] (sC H v m) (uV) (mp (Ic m)) (axa vs H Q E)
theorem aVX{I:Type}{O:ba}{i:Nat}{x:I}(hi:i<bx)(h:nX (bx-1-i)):Hf (bx-jd)=x::Hf (bx-i):=by rw[aO lt (bx-1-i) bx (ff (s9 bx) (aI bx 1 hi))];rw[show bx-jd=bx-1-i by lia-abstractProof,Wx lt];rw[aj (da lt),cH];congr 2;rw[Nat.sub_right_comm,Mq (VP hi)]
section z
theorem aVY:T.avP.Ok P w aj 1 (aw4 K):=by refine T.avP.go TB aK;generalize aF=e3,az=A,aE=outer,aD=s,aB=H,aA=vs,aG=Q,aH=E;rw[aN,M oj,aX,al l b p n,aV a5 v3 k,ca (i 3 TB.nd bD (an (asf rfl T.reversed (d_ (ld aq (cZ aq av)))) 4 TB.nd (bU 3 TB.nd (cZ (ly F7 bb bD) bQ))) (de bb))];have g7:jq kJ (gP p) (aa (v p+cK))=bV (an (ai8 p) n):=by{have:=afy b p (p+n);rw[am (hx (p+n-p) n),al_];rfl};rw[dl a5 (fun d hd=>?_)];rw[g7];generalize b0:an (ai8 p) n=c;rw[ar c0 H (bV c) (bV c),bA d c0 (bv (t (bV c)) (fo (L=ap d (bV c)/\∃v,M=[tV,bI p,bI n,bI (accN aJS),v])) (ah ae ?_))];{rw[ah6,List.drop_length];rfl};{rintro i M L hi⟨rfl,v,rfl⟩;exact a hi _ _ (au c0) (da (fL (s9 (t (bV c))) (aI (t (bV c)) 1 hi)))};{rw[bgK];exact aY};{rintro i M L x b7 hi⟨rfl,v,rfl⟩⟨rfl,S⟩;have S:=S _ (au c0);have R:i<gg:=by{rw[dC]at hi;exact hi};rw[dC]at S;rw[aO lt (gg-1-i) gg (ff (s9 gg) (aI gg 1 R))];rw[afw (da lt)]at S;rw[pV,aW _ rfl (a2 (e4 ax ax) rfl (bI (aK8).toNat))];rw[aVX R (da lt)];have e:ae (accN (aK8::aJS))=v (accN aJS)*256+ae (aK8).toNat:=by{conv=>{lhs;unfold accN};simp+arith [*]};delta vn;rw[e];rfl};{rw[bgK];have:=k _ (ac (bV c) hd);unfold Gla.num at this;rw[b0,<-aVV]at this;rw[dC,zE];exact this}
theorem Ui:T.avQ.Ok P w aj 1 aw5:=by refine T.avQ.go aTv aK;generalize aF=e3,az=A,aE=outer,aD=s,aB=H,aA=vs,aG=Q,aH=E;rw[aN,a0 n rfl d1 k,n _ (cl (yE (sH (eC Sf bR) anZ))) (aT) et bdo,c7 (le2 d1),py ai_];rw[ak,e];rfl
theorem LP:T.avR.Ok P w aj 1 aw6:=by refine T.avR.go aTw aK;generalize aF=e3,az=A,aE=outer,aD=s,aB=H,aA=vs,aG=Q,aH=E;rw[aN,a0 n rfl d1 k,fc (cl (yE (vy (eC Sf bR) (eC Sf anZ) (eC Sf anZ) anZ))) (pd (ai) (m rfl (aT) (aT) (eq 4) bdo)),c7 (le4 d1)];rw[<-ai_,<-ai_,<-ai_]at e;rw[ak,e];rfl
theorem Uj:T.avV.Ok P w aj 2 (aw7 K):=by refine T.avV.go aTA aK;generalize aF=e3,az=A,aE=outer,aD=s,aB=H,aA=vs,aG=Q,aH=E;rw[aN,M Ax,aX,RF,ds a5,b _ (cl (as Qr (rm aq))) l b (p+4) 4 ?_ a5 ⟨ax,fun a8 a4=>?_⟩];{congr};rw[aR p 4 jY (zb (m0 (h0 aH7)))]
theorem aVZ:T.avW.Ok P w aj 2 (aw8 K):=by refine T.avW.go aTB aK;generalize aF=e3,az=A,aE=outer,aD=s,aB=H,aA=vs,aG=Q,aH=E;rw[aN,M Ax,aX,RF,ds a5,cr (cl (as (rm aq) Qr)) p 2 (K3 (p+2))];{congr};rw[v et (h0 aH7)]
theorem afz:T.avX.Ok P w aj 3 (aw9 K):=by refine T.avX.go au4 aK;generalize aF=e3,az=A,aE=outer,aD=s,aB=H,aA=vs,aG=Q,aH=E;rw[aN,M Ax,aX,RF,ds a5,e _ (bo (bU 2 au4.nd (b5 Uj aq)) (KS (vy xI xI Qr Qr))) l b p rfl a5 ?_];rintro _ a8 a4⟨a,rfl,b3⟩;rw[bn a b3 (as a b3 dr (K3 (p+8)))];{congr};rw[f1 (p+10) (os eY) (fun d4 c8=>?_)];{congr};rw[v (eq 4) (h0 (bX eY c8 cm))]
theorem Uk:T.avZ.Ok P w aj 2 aw_:=by refine T.avZ.go aTD aK;generalize aF=e3,az=A,aE=outer,aD=s,aB=H,aA=vs,aG=Q,aH=E;rw[aN,M fQ,aX,bW O p];rintro rfl⟨a,m,rfl,b3⟩c2 k;rw[d _ (cl (kd (a7 LP kL) LP)) a _ _ _ rfl (u JB dr p.x c2.1 (rs dg p.y)),bb8];{have c8:=eY;rw[bcg,Ri];rfl}
theorem aV0:T.av0.Ok P w aj 2 aw':=by refine T.av0.go aTE aK;generalize aF=e3,az=A,aE=outer,aD=s,aB=H,aA=vs,aG=Q,aH=E;rw[aN,M fQ,aX,bW O p,bhK,d _ (cl (kd ana Ui)) a _ _ _ rfl (u JB dg p.1 c2.1 (rs dr p.2)),bb8];{have c8:=eY;rw[bcg,Ri]}
universe z
noncomputable abbrev dT(ns:aQ):Df:= .tuple OW
theorem afA{K:Fg}{H:Hp}:∀ns:aQ,Ga K H xO OW|[]=> .nil|n::J=> .cons (.int n) (afA J)
theorem Ul{K:Fg}{H:Hp}{a:Addr}{ns:aQ}(h:mO xO):ct bc (dT ns):= .tup h (afA ns)
theorem afB:∀ns d8:aQ,ai' OW (HV aDE)=ar ns d8|[],[]=>bH|[],m::d8=>bH|n::ns,[]=>bH|n::ns,m::d8=>by simp only[c_,ai',jy,(afB ns d8)];rw[N h n m,a_];{simp[h]}
theorem GY(ns d8:aQ):jy (dT ns) (dT d8)=ar ns d8:=t jy (afB ns d8)
theorem lay_ints:∀ns:aQ,ajd OW=ab/\ajb OW<=1|[]=>a93|n::J=>by rw[dB (aDF J),dI (bx ajd ajc d6.1),kB ajb aja];simp[*]
theorem axb(ns:aQ):ajc (dT ns)=ab/\aja (dT ns)<=2:=by have h:=aDF ns;rw[dI (by delta dT;rw[ajc];exact h.1)];delta dT;rw[aja];exact Vn h.2
theorem aV1(ns:aQ):iJ (dT ns):=by have h:=axb ns;delta aDG;rw[h.1,nc h.2];rfl
theorem axc:∀O:fC,ajd (Hg dT)=ab/\ajb (Hg dT)<=2|[]=>a93|n::J=>by have d6:=axc J;have h:=axb n;rw[dI (by simp only[c_,ajd,h.1,d6.1];rfl)];simp only[c_,ajb];lia-abstractProof
theorem Um(O:fC):iJ (.list (Hg dT)):=Is (axc O)
theorem afC:∀O d7:fC,ai' (Hg dT) (aje dT)=ar O d7|[],[]=>bH|[],m::d8=>bH|n::ns,[]=>bH|n::ns,m::d8=>by simp only[c_,ai',(afC ns d8),GY];rw[N h n m];{simp};{simp}
theorem bj2{a:Addr}{A B:Prop}(h:A):x0 (gV a):=bB
theorem bj3{a:Addr}{A B:Prop}(h:B):xL (gV a):=bB
theorem bj4{A B:Prop}(h:A):xL Hs:=bB
theorem axd{c A B:Prop} [Hy c](n:¬c)(h:B):lt (cv c):=ag
theorem aV2{c A B:Prop} [Hy c](n:¬c)(h:A):lt (! cv c):=ag
theorem bj5{A B:Prop}(h:B):x0 Hs:=adO rfl h
inductive axe(K:Fg)(vs:af)(H:Hp)(Q:VK)(E:XK):Prop|mk:mL (f2 20 Ie ae) (axe K vs H Q E)
noncomputable def LQ(w h p l m:Nat):bY Mr:=w (jJ aDK ajf w=ah) (jJ aDK ajf h=ah) (jJ 4 aDJ p=ah) (jJ 4 aDI l=ah) (jJ 1 aDH m=ah) ae
inductive axf(vs:af)(H:Hp)(Q:VK)(E:XK):Prop|mk:∀w h p l m:Nat,vs=[vn w,vn h,jR,vn l,vn m]->gr (LQ w h p l m)->axf vs H Q E
inductive axg(K:Fg)(vs:af)(H:Hp)(Q:VK)(E:XK):Prop|mk:mL (NY b) (axg K vs H Q E)
theorem aV3{b c:Gla.Bytes}:(wW (ab (v Ig)))=(DE (ab (v Ig)))↔b=c:=by constructor;{rw[eE];exact x (a3_ (f:=fun x:Ms=>v Ig) (fun x y e=>by have:Ig=y.toNat:=cq;exact aC' this)) h};rw[cL]
theorem axh(b:Gla.Bytes):kJ=B (wW (ab (v Ig))) cp:=ga bV jz
theorem aV4{lo hi:Int}{i n:Nat}{M:L2.St}{H:Hp}{Q:AQ}(a:A M (bI n))(h:Q (bi lo cK&&bi cK hi) H):vd (KP aaM aaM (pu lo) (hr i) (pu hi)) M H Q:=by delta vd KP tC;refine wY a (dl Kc);{rw[c,ahX]at h;exact h};rw[gR (Wo c) h]
theorem within_int(a b n:Nat):(bi (v a) cK&&bi cK (v b))=jJ a b n:=by delta jJ;rw[dY]<;>(apply aDL;simp)
theorem axi{b:Bool}(h:b=ab):¬b=ah:=hV
theorem aV5{lo hi i n:Nat}{M:L2.St}{H:Hp}{D:Ends}{t u:L2.TS}(a:A M (bI n))(Z:jJ lo hi n=ah->t D M H)(a0:jJ lo hi n=ab->u D M H):R_ (aqO (vd (KP aaM aaM (pu Ji) (hr i) (pu (v hi))))) t u D M H:=by refine aV4 (i:=i) a ?_;rw[within_int];cases e:jJ lo hi n with|false=>{rw[fy (Z e)]}|true=>rw[fy (a0 e)]
section z
theorem afD:T.av1.Ok P w aj 3 axa:=by refine T.av1.go aTF aK;generalize aF=e3,az=A,aE=outer,aD=s,aB=H,aA=vs,aG=Q,aH=E;rw[aN,M fQ,aX,bW O m,bhK,e _ (cl (c4 (dK Uk) ana ana)) _ eM rfl (ce a _ b3) c2.1 (pr (as a OF rJ (bj jA c2.2.1 (fun d5 b7 b5 n2 b9=>?_)))),cd z1 (t (bV (rf eM))) 8,bho,gQ IZ b9 (by rw[z1,h6];decide)];have c8:=L eY (bs (bV (rf eM)) (bV (gI 2 jA)) u);rw[ah a (cx (dn b3)) (oE 3) (bj kE c2.2.2 (fun e0 e4 d9 y g5=>m l3 e0 (fH ak) g5 ⟨by rw[cj,z1,h6,h6];decide,fun b f=>k _ _ (dP En f) (e1 En f) ?_⟩))];rw[ak,<-qK,<-qK,dv];rfl
theorem aV6:T.avS.Ok P w aj 1 (axe K):=by refine T.avS.go aTx aK;generalize aF=e3,az=A,aE=outer,aD=s,aB=H,aA=vs,aG=Q,aH=E;rw[aN,M fQ,aX,Fy,ds a5,cl (b6 (GJ ajg) (KV (GT T.avu)) cu) pX ?_];rw[dC];rw[ko,beP];{rw[ee n_,bhe,bhc];rw[g7]at a9⊢;intro o d0;rw[baF,Ir aIt];rw[GY];rw[gY aIt Ie Ie,b2 xl Ie];{rw[dH (D.mpr e)];rw[bD (aC b5 (by rw[aO hV];rfl))]};{rw[ec (ah (e (D.mp q)))];rw[kt (ep (fi cm) (t (aJ e) lU))]}}
theorem axj:T.avT.Ok P w aj 1 axf:=by refine T.avT.go aTy aK;generalize aF=e3,az=A,aE=outer,aD=s,aB=H,aA=vs,aG=Q,aH=E;rw[aN];obtain⟨a,b,c,d,e,rfl,k⟩:=h;rw[ca (ah (bx T.avv bR T.avw uf) (bx T.avv aq T.avw uf) (a6 (bx T.aVe av T.aVf uf) (bx T.aVg bb T.aVh uf) (bx T.aVi bQ T.aVj uf) cu))];delta LQ aDK ajf aDJ aDI aDH at k;have fin:∀(J p:Nat)(a8:Hp),cY H a8->gr (aa ⟨J,p⟩)->E t (gE t) (Q nG (upd a8 t (bx J p))):=fun J p a8 a4 B t c6=>B _ _ (gd cm) lU;rw[bY 0 16 1048575 a,ri 4,Z5,P9];rw[BD];rw[bY 1 16 1048575 b,ri 8,Z5,P9];rw[BD];rw[bY 2 4 4096 c,ri 12,Z5,P9];rw[BD];rw[bY 3 4 8192 d,ri 14,Z5,P9];rw[BD];rw[bY 4 1 2048 e,ri 16,Z5];exact aC ei rfl
theorem aV7:T.avU.Ok P w aj 2 (axg K):=by refine T.avU.go aTz aK;generalize aF=e3,az=A,aE=outer,aD=s,aB=H,aA=vs,aG=Q,aH=E;rw[aN,M fQ,aX,Fy,ds a5,ca (L WM (dK aV6) (dS aq aq) (i 2 WM mi (bU 3 WM mi) (i 4 WM mi (bU 1 WM (ec axj (GR mi mi av bb bQ))) (a6 (dS aq aq) (D Sg mi bD uf) (D Sg nL (cY (cY (y0 av) T.TR bb) T.afn bQ) (dP (gi ajg))) cu)))),d0 NY,y l b a5 aIH];by_cases a3:cw<20;{rw[aJ a3]at g4;rw[fY (show cw<NZ from a3),n9 g4,xV];exact bd (p7 g4)};rw[bj a3]at g4;rw[ee (show¬cw<NZ from a3)];by_cases a9:xl≠Ie;{rw[aJ a9]at g4 k;rw[n9 g4,xV];exact bd (p7 g4)};rw[PX]at g4 k;cases g4;rw[c rfl l b 12 2 jY ax a8F];have b5:=gd r2;rw[aR 14 2 (WL a5) (fun d4 m=>?_)];have c8:=fi m;rw[aR 16 2 (c8.seq a5) (fun e4 c9=>?_),aIc,aR 4 4 JC (fun g6 p=>?_)];have f9:=m_ p;rw[aR 8 4 (f9.seq a5) (fun h5 q=>?_),hN (GM.aeT b)];have a7:zN (DM b)=bgO:=by{delta zN LQ;rw[d5.1,d5.2.1,d5.2.2];rfl};rw[K _ _ _ (dl (fun v h9 R f7=>?_))];have R:=L (mZ q) R;rw[bs a7];cases i2:bgO with|some f=>{rw[i2]at f7 k;rw[n9 f7,xV];exact bd (aC R f7)}|none=>rw[i2]at f7 k;cases f7;rw[c rfl l b 18 2 (R.seq a5) ax (fun i3 i=>?_)];have d6:=wI i;have G:=k;rw[bu];rw[dO];rw[d9 e2 (hq 18)];{rw[bj hV]at G;rw[dH (show ae (hq 18)=0 by rw[xM])];rw[d l _ rfl (.inl (d6.seq a5)) _ _ rfl (f yt _ _ rfl yt _ _ (m rfl rfl yt ?_))];rw[dC];rw[i_ (! ar (g0 cw) (cp (20+8*v Ap+4*v I6+12*v Pl)))];rw[dO];rw[N e5 cw (NZ+8*Ap+4*I6+12*Pl)];{rw[bj hV]at G;rw[dH (by delta NZ at e5;exact AB)];exact(G _ _ d6 rfl)};rw[p8 e5 (by delta NZ at e5;lia)]};rw[p8 e2 (show¬ae (hq 18)=0 by simp[*])]
universe z
section z
variable{K:Fg}
theorem axk{d:Type}{g:TG}{c3:TT}{b8:TE}{vs:ao}{M:L2.St}{a8:Hp}{D:Addr}{k:jf}{R:Rl d}(A:uw){lo c:Int}{n:Nat}(f:df (bY d))(a7:gE D)(c9:n<hC)(c0:∀(i:Nat)L(h4:VK)(N:jf),c (i<n) ON (wJ (f i)) (f i=ae->aGN) (be al7 tG L aGC))(hd:vq (i_ n f)):d_ (Z8) (Z8) (Z8):=by refine aeV (d0:=Z8) A (eK n) (fun _ x i=>x=al7/\i<n) f a7 ag aMv (fun H s=>?_) aM0 (fun i a x L h4 N b3 s e a3 a9=>?_) hd;{have:i<n:=ai;exact this};{show n<=_;simp};{rw[dn rfl y];have:i<n:=ai;exact m ei i (wM this) this};rw[ay]
theorem afE{H:Hp}{x dx C:Addr}{G:hX}(nx:Y x)(nd:Y dx)(ne:dx≠x):cY H (eb (ad dx Ei) (aI C G)):=dP xw (Y ne.symm nx)
theorem axl{lo n c:Nat}(b0:bhm):Vl Ji (ae (lo+c*n)) (v c)=n:=by delta Vl;rw[aJ Bk];rw[d9 h n,a_,Jt]
theorem axm{lo n c:Nat}(b0:bhm)(d1:lo+c*n<2^40):RgC Ji (ae (lo+c*n)) (v c) n:=by rw[w fS fS ?_ (axl b0)];delta a2I;rw[axl b0];simp only[Builtin.Range.rangeFitsLong,ib,ahs,iW,aCK];have n1:n<=c*n:=Nat.le_mul_of_pos_left n bL;generalize c*n=m at*;simp;lia
inductive axn(K:Fg)(C:Addr)(vs:af)(H:Hp)(Q:VK)(E:XK):Prop|mk:na (e [cC] tL (NY b=ae) (∀a b2 X G L,j bP (g6 L (DM b)) (Y a) (Y b2) (Y X) (Y G) Pg) (axn K C vs H Q E))
theorem aV8{b:Gla.Bytes}(h:NY b=ae):cw=Aa Pl:=by rw[a4 NY,eI,cX,eI,cX];cases e:zN (DM b)with|some f=>{rw[m7 e]}|none=>rw[aj e];have h':=h;rw[YG,cX,YG,cX];next q=>delta NZ at q;simpa using q
universe z
section z
theorem aV9:T.avY.Ok P w aj 4 (axn K bI):=by refine T.avY.go aTC aK;generalize aF=e3,az=A,aE=outer,aD=s,aB=H,aA=vs,aG=Q,aH=E;rw[aN,M fQ,aX,Fy,aV a5 a0 k];have F:=aji b 12 2;rw[c7 (aji b 14 2),fI (aji b 16 2),z8 b9];rw[b9]at F e f;rw[fa,cr (L ajh (y0 mi) (bU 2 ajh (cY aq T.TR mi)) (a6 (aV 3 (gi ajg) aq WQ Uj) (aV 5 aq av T.TR aVZ) (aV 6 av nL T.afn afz) (aS mi mi bb cJ ew))) 12 2 (a _ _ rfl rfl yt l b 14 (aC 2 jY ax a8F))];have b5:=gd r2;rw[b _ _ rfl rfl yt _ _ _ (as rfl (b3 20 Ap 8 ax) (fun a g=>as Ap dk (aa (ai9 b (20+8*i))) g F)),cd d1 (20+8*i) (os (fi s)) bhn];intro d4 c5 m e7 j0;rw[eV j0];have c8:=fi m;have g9:dB dG d4 a (DM b).pts:=v c5 e7 j0;rw[K _ _ _ (ah (b3 (20+8*Ap) I6 4 (x (.inr gn))) (fun c j=>as I6 iL (aa (hq aKK,hq (aKK+2))) j e)),cd d1 aKK (os (nf s)) (fun v e4 d9 c9=>fy d9 c9)];intro e4 ls c9 g5 e2;rw[eV e2];have d9:=nf c9;have e1:dB sA e4 c (DM b).lines:=v ls g5 e2;rw[n8 JC];rw[dC,(aV8 a0)];rw[K _ _ _ (ah (b3 (20+8*Ap+4*I6) Pl 12 ax) (fun d n=>as Pl jt (aa (aDD b (Aa i))) n f)),cd d1 (Aa i) (os (m_ s)) (fun v g6 f9 p=>fy f9 p)];intro g6 d8 p i2 y;rw[eV y];have f9:=m_ p;have j5:dB sC g6 d (DM b).marks:=v d8 i2 y;rw[aR 4 4 (f9.seq a5) (fun h5 q=>?_)];have h1:=mZ q;rw[aR 8 4 (h1.seq a5) (fun h9 b1=>?_)];have R:=zO b1;rw[mw dx,d x dx _ _ a c d (aP ak ?_)];rw[yx];rw[P d6 h9 (cy h9 dx (aI bI (vz (cf xD) (cf XU) a c d))) Py];refine k x a c d _ (wI d6) (a2 (sF ak) ?_ ?_) (R.free nx) (b5.free g) (WO j) (WN n);rw[l (g9.mono dk (bX (c9.trans p) (VT b1) d6)),l (e1.mono iL (L (aDM (VT b1)) d6)),l (j5.mono jt (L (VT b1) d6))]
universe z
theorem Uo{I:Type}{R:kk}(A:uw){K:Fg}{l d:Addr}{j o:Nat}{b:L2.St}{G H:Hp}{D:Ends}{Y:ba}(f:I->aDN){B:Gla.Bytes}{e8:Sp}(a5:a'')(nd:G d=ae)(s:cY G H)(hd:am d (bV B))(c9:bcV)(b1:b=ajj j ae)(c:bdU)(e:bab)(C:biV)(k:bgY):biO:=Lo (NT (dj a4) J)
inductive axo(C:Addr)(vs:af)(H:Hp)(Q:VK)(E:XK):Prop|mk:dc (DN D) (mp (N0 D)) (axo C vs H Q E)
section z
theorem axp:T.av2.Ok P w aj 4 (axo bI):=by refine T.av2.go aTG aK;generalize aF=e3,az=A,aE=outer,aD=s,aB=H,aA=vs,aG=Q,aH=E;rw[aN,M iA,aX,Bq,aV h F k,fF,Q3,aaX,aKZ,fa];have g4:=F.p;have h3:=F.l;have h6:=F.m;rw[fc (L aDP (c4 (uW (GT T.avu)) (a7 LP bO) (a7 LP bO)) (an (adh (cp bO bO bO)) 2 aDP (eJ aq (a7 Ui (dO av)))) (ah (eJ aq (yE (sH bD bD))) (fw 3 Uk bb) (bZ (fw 4 aV0 bQ) (fw 5 afD cJ) aq))) (Ed (fun c0 c6=>iX (cp c6 hd) (u Ia y_ D.w F.w (fun a7 a8 r1 n1 b4=>?_))))];have a4:=L cm r1;rw[c c0 a7 (re 49) _ rfl (r1 _ _ ak) b4 ⟨?_,fun d5 n2=>?_⟩];{rw[dC,pB];decide};rw[a2 ((lD n2) _ _ hd) (u H_ GX D.h F.h (fun l3 d4 m u e7=>?_))];have c8:=L (lD n2) m;rw[n d5 l3 (m _ _ ak) e7 ⟨?_,fun d c=>?_⟩];{rw[cj,dC,dC,pB,pB];decide};have nd:=WO c;rw[ab m8 (re 49:af) (bV Ie)];rw[m8,<-qK,<-qK];generalize hA:Ie++gI 4 D.w++gI 4 D.h=e;rw[dS C e.length 12,aj d9 bbJ (nf (bZ c)),a2 (fH hd) (ev gf fX (b (fH hd) dS kF kz a dx _ (a _ rfl (fH hd) dS jI ju (eq 3) Zp))),e c3 bbJ t aLQ t aLQ,cN (fq (ak (H:=d4)) h7),bD t (aW (cx c3)) ?_];let b:ao:=[de,lM,rg];refine co (ec b2 (.ref X) G) (fo (vu (∃v,M=[kN,rE,v,ae,ae,ae]) bP (L t=aa aLQ) (oF e 2))) (a2 qn (m_ (bZ h7)) c3) z.3;{rw[bW q,ak];simp};{rintro i x M L S⟨⟨v,rfl⟩,f9,i2,j1⟩;obtain⟨l,n,vs,a5,d1,d3,b0⟩:∃(l:Addr)(n:Nat)(vs:af),x=cC/\am l vs/\iS=n/\b2 n/\A b n:=by{match i,S with|0,S=>{rw[aP b2 c5 a3 rh g4]}|1,S=>{rw[aP X ls a9 N1 h3]}|2,S=>{rw[aP G d8 e2 Ih h6]}|i+3,S=>trivial};subst a5;rw[b (dq j1) l (ce (hF d1)) n (dd d3) b0.1 (fun i1 b7 r2 n2 b9=>?_),F5 b0.2,n d i1 (r2 _ _ j1) b9 (a ?_ ek (go (mZ r2)) ?_ ?_)];{rw[dC,dC,cj,oz 2 2,pB,C,eS];rw[bfN];exact hq this this fy};rw[gU zD (r2 _ _ i2)];{rw[ak,<-qK,dv,g9,zP,ajl]}};rintro M g6⟨⟨v,rfl⟩,f9,i2,j1⟩;have j1:b7 (g6 d) (bV (e++aDO (gI 2))):=j1;generalize hB:e++aDO (gI 2)=f at j1;rw[dS g Dz 18,aa (dq j1) et (fun z k0=>m d z (cp k0 j1) ak Ph)];{rw[dC,g];decide};rw[bN c1 (bV f++[xh,xh]) bbC qK,aj h1 (U bcT d bbC) (go (mZ (bZ k0)))];generalize y:f++gI 2 0=j at h1 c1;have r:j.length=20:=by{rw[<-y,cj,g,pB]};rw[py (D.pts.flatMap rf) de];have q2:t (D.lines.flatMap bc2)=4*lM:=ajk (ab (cz cj pB pB)) _;have q3:t (D.marks.flatMap Ic)=12*rg:=ajk (ab (by delta Ic rf;rfl)) _;rw[c1];generalize I:U bcT d (bV j)=h5 at h1;rw[br j2 (b7 (h5 d) (bV j)) I ak,a2 (iW hd) (u gf fX b2 (dD c5 (iW a3)) (Uo (j:=3) (o:=1) dk rf h.p.ls nd h1 j2 (by rw[cj,d2,r];rw[kb]) rfl kX kX (mM J.px (aiA p c4)) (fun j3 h9 R j2=>iX (R _ _ hd) (u kF kz X (dD ls (R _ _ a9)) (Uo (j:=4) (o:=1) iL bc2 h.l.ls nd R j2 (by rw[cj,cj,d2,q2,r];rw[kb]) rfl kX kX (mM J (aCY p c4)) (fun i9 i3 d6 j9=>iX (ol hd) (u jI ju G (dD d8 (ol e2)) (Uo (j:=5) (o:=1) jt Ic h.m.ls nd d6 j9 (by rw[cj,cj,cj,d2,q2,q3,r];rw[kb]) rfl kX kX (mM J (wN p c4)) bhE))))))))];rw[j8,<-y,<-hB,<-hA];congr 3;delta N0 Ic rf;simp[b,dv]
universe z
universe GA
namespace HT
open PySem PyProof.Rows
noncomputable def lexLe:aKc|[],_=>ab|_::_,[]=>ah|x::O,y::d7=>v x y (zQ O d7) (bi x y)
theorem aV_(x y:Int)(O d7:aQ):zQ (x::O) Q1=v x y (zQ O d7) (bi x y):=rfl
theorem aV':zQ [] []=ab:=rfl
theorem aWa(y:Int)(d7:aQ):zQ [] Q1=ab:=rfl
theorem aWb(x:Int)(O:aQ):zQ (x::O) []=ah:=rfl
theorem aWc(A:Around)(s:Shared)(a:Int)(t:Tok)(c:Int)(u:Tok)(prog:Program)(w:World)(E:aU)(Q:aU)(h:j7 (bi a c)):zx .LtE:=nb (PyProof.Rows.le_int h) .LtE
section z
open PySem.SeqAt
open PySem.AutoSeq1(wpAny_loadPart')
open PySem.MeetsSeq PySem.MeetsSeq2 PySem.MeetsSeq3
theorem aWd(l b:Addr)(f i:dW)(n n2:Nat)(j o:nk)(sl p:EA)(ns d8:aQ)(hi:QV)(b8:Rh):nE (Builtin.«tuple.__le__» aKe) aoK:=Cd (by rw[lH c2 D,aL0];have h3:=aBM;rw[aMz,aMA];wp_delta;wp_delta;rw[bS,aM5,aJq,As,dM,dM,bS,nc (zW (∃(vs ws:aM)(I k:aQ),Ct (zQ I k))) _];(case turn=>rintro⟨y,x⟩m b c1⟨j6,rfl,vs,ws,I,k,c9,v,r,E,hR⟩;cases v with|nil=>{trivial}|cons a t C=>cases r with|nil=>{trivial}|cons c u F=>rw[alf];injection c9 with G H;rw[aLk];subst b6 S;rw[gB aV_,aIe,aM1,C aMN];cases e with|true=>{rw[gB aJz,hj];{rfl};rw[dM];exact Cq aL5}|false=>rw[gB (mQ q zv)];have J:=aWc kC OK a t c u cN w;rw[ez ahf];{rfl};rw[bS,aHm,bS,ez J,aMX]);(case fin=>rintro⟨h2,e2⟩c1⟨j6,rfl,vs,ws,I,k,c9,v,r,E,hR⟩;rw[aG8];subst j6;have d3:zQ I k=bi lF Vu:=by{cases v with|nil=>{cases r with|nil=>{rw[fj MU aV' (nc E.g)]}|cons c u hw=>rw[kr aWa (nc E.g)]}|cons a t d3=>rw[m7 aWb aIv]};rw[gB d3];wp_delta;wp_delta;rw[dM];exact aLL);case h=>rw[aM6])
universe z
section z
variable{prog:Program}{w:World}{A:Around}{E:aU}{s:Shared}
theorem aWe{l b:Addr}{f i:dW}{ns d8:aQ}{Q:aU}(a5:aI7)(U:aKD)(hi:QV)(b8:Rh)(hu:sW<gG)(h:j7 aoK):z0 .LtE:=r .LtE PySem.F.slot_tuple_le PySem.F.entry_tuple_le (PySem.F.args_tuple_le_2 _ _) (aWd l b f i n n2 j o sl p ns d8 hi b8) aoK aoK
universe z
universe HT
namespace L2
open PySem PySem.Spec PyProof.Rows
section z
variable{X:Cx}
def axq(K:PySem.W.Frag):R2:=IP (WR ns d8)
theorem aWf(hu:zx<gG):be .LtE (axq X.K):=CC (HT.aWe e9 f6 (MW r1) (MW r2) hu (eZ (WR ns d8) q))
universe z
universe L2
namespace GA
open PySem PySem.Spec PyProof.Rows L2
theorem leK{X:Cx}{K:Fg}(g:fD)(hu:zx<gG):be .LtE (axq K):=g▸aWf hu
theorem axr(p q:fB):WR aav (dq q.1 q.2)=! DO q p:=by delta DO;simp only[WR];rw[N h (v p.1) q.1,EW,EW]
theorem afF(p q:Pt):WR ys aKf=! Ng p:=axr (p.y,p.x) (q.y,q.x)
theorem ixi{K:Fg}{H:Hp}{a:Addr}{p:fB}(h:cy (he p.1 p.2)):mO (hL aav):=cx h
noncomputable def oL{I:Type}(ok:Be)(k:yj)(l:ba)(i:Nat)(x:I):cb:=! ok x||(nb i&&(match l[i-1]? with|some y=>! k y x|none=>ah))
theorem afG{I:Type}{ok:Be}{k:yj}{l:ba}{i:Nat}{x:I}(h:xQ)(b:oL ok k l i x=ab)(g:aj (j<i) l ok k l):WS ok k l=aa i:=a3' ⟨v x h b,fun j y b8 b6=>g j y b8 b6⟩
theorem axt{I:Type}{ok:Be}{k:yj}{l:ba}(g:aj (j<eb) l ok k l):WS ok k l=ae:=a4a (fun j y b6=>g j y cq b6)
def Ct{I:Type}(R:kk)(H:Hp)(v:V)(l:ba)(i:Nat):Prop:=(i=0/\v= .bC)\/∃j x,i=j+1/\Ew/\R H v x
theorem Ct.mono{I:Type}{R:kk}(A:uw){H L:Hp}{v:V}{l:ba}{i:Nat}(s:bP)(h:Ct R H v l i):Ct R L v l i:=by rcases h with h|⟨j,x,e,g,J⟩;rw[l AI,co (a j x e g (NT (dj s) J))]
inductive axu(C:Addr)(vs:af)(H:Hp)(Q:VK)(E:XK):Prop|mk:mN (ajm D) (axu C vs H Q E)
inductive axv(C:Addr)(vs:af)(H:Hp)(Q:VK)(E:XK):Prop|mk:mN (ajn D) (axv C vs H Q E)
section z
theorem aWh:T.awf.Ok P w aj 2 (axu bI):=by refine T.awf.go aTX aK;generalize aF=e3,az=A,aE=outer,aD=s,aB=H,aA=vs,aG=Q,aH=E;rw[aN,M iA,aX,Bq,ds h,fF,Q3,b ajo (t ajo ajo (ea vb yc bO) (ea vb yc bO) alR alR ajo) gf fX b2 de dG lL lL aGd WJ lL,cl c5 c5 rh (br a3),beN];{refine iA;rw[aJp];rintro hi⟨⟨l,m,p,rfl,a5⟩,s,g⟩⟨t,y,rfl,c6,rfl,b6⟩;rw[aW z c9 e9 (b6 c5 (br a3)),tm hO,mC dk c6,ov (bK b5 J),ba_,beH,aGJ,fn aL3 (afu [pK] b7 (CW 4) E0) (by rw[bD i et (ep (fi cm) ?_)];delta ajm;rw[J (afG c9 U g) lU]),v aL3 lL aGd WJ lL (by rw[Z3];{lia};rw[l (g j d7 (iT e) O)]),da b U (x7 (v Ia y_ Kc)),B0 (¬z.x<=D.w),bn b U (x7 (v H_ GX a_W))];{rw[bD (fin ?_)];have:¬z.y<=D.h:=ai;delta oL;rw[tX]};have ok:da (bi z.x D.w) (bi z.y D.h):=by{simp at c e6;simp;trivial};rw[bu,qL dG lL,Cz B,bh0,u (oK U) (oK b0) afF aL3 (! Ng z) (t f7 c1) (by rw[f7];simpa using c1)]};rw[Lh ajm]
theorem aWi:T.awg.Ok P w aj 3 (axv bI):=by refine T.awg.go aTY aK;generalize aF=e3,az=A,aE=outer,aD=s,aB=H,aA=vs,aG=Q,aH=E;rw[aN,M iA,aX,Bq,ds h,fF,b7 a3 e9 h.l,ci v g7 h.p,b ajp (t ajp ajp (ea vc yc yc) (ea vc yc nZ) (yB av) (yB av) ajp) kF kz X lM sA gX gX (r2 de) DO gX,cl c5 c5 rh (br a3),beN];{refine iA;rw[aJp];rintro hi⟨⟨l,m,p,rfl,a5⟩,s,g⟩⟨t,y,rfl,c6,rfl,b6⟩;rw[aW z c9 e9 (b6 c5 (br a3)),tm hO,mC iL c6,ov (iL.go (dj b5) J),ba_,beH,aGJ,fn aL2 (n2 b7 5) (cw b5 (ep (fi cm) ?_) ajn (afG c9 U g)),v aL2 gX (r2 de) DO gX bz,Dx Kc,B0 (¬z.1<z.2),da b U (x7 (bt gf fX b2 (gS g7)))];rw[d2.length];rw[aJ9,B0 (¬z.2<de),cb ok (da (bT z.1 z.2) (bT z.2 de)),bu,qL sA gX,Cz B,bh0,u (ixi U) (ixi b0) axr aL2 (! DO q z) aIS bz]};rw[Lh ajn]
universe z
universe GA
namespace HT
open PySem PyProof.Rows
noncomputable def vA:aKc|[],_=>ah|_::_,[]=>ab|x::O,y::d7=>v x y (vA O d7) (bT y x)
theorem aWj(x y:Int)(O d7:aQ):vA (x::O) Q1=v x y (vA O d7) (bT y x):=rfl
theorem aWk:vA [] []=ah:=rfl
theorem aWl(y:Int)(d7:aQ):vA [] Q1=ah:=rfl
theorem aWm(x:Int)(O:aQ):vA (x::O) []=ab:=rfl
theorem aWn(A:Around)(s:Shared)(a:Int)(t:Tok)(c:Int)(u:Tok)(prog:Program)(w:World)(E:aU)(Q:aU)(h:j7 (bT c a)):zx .Gt:=nb (PyProof.Rows.gt_int h) .Gt
section z
open PySem.SeqAt
open PySem.AutoSeq1(wpAny_loadPart')
open PySem.MeetsSeq PySem.MeetsSeq2 PySem.MeetsSeq3
theorem aWo(l b:Addr)(f i:dW)(n n2:Nat)(j o:nk)(sl p:EA)(ns d8:aQ)(hi:QV)(b8:Rh):nE (Builtin.«tuple.__gt__» aKe) aoL:=Cd (by rw[lH c2 D,aL0];have h3:=aBM;rw[aMz,aMA];wp_delta;wp_delta;rw[bS,aM5,aJq,As,dM,dM,bS,nc (zW (∃(vs ws:aM)(I k:aQ),Ct (vA I k))) _];(case turn=>rintro⟨y,x⟩m b c1⟨j6,rfl,vs,ws,I,k,c9,v,r,E,hR⟩;cases v with|nil=>{trivial}|cons a t C=>cases r with|nil=>{trivial}|cons c u F=>rw[alf];injection c9 with G H;rw[aLk];subst b6 S;rw[gB aWj,aIe,aM1,C aMN];cases e with|true=>{rw[gB aJz,hj];{rfl};rw[dM];exact Cq aL5}|false=>rw[gB (mQ q zv)];have J:=aWn kC OK a t c u cN w;rw[ez ahf];{rfl};rw[bS,aHm,bS,ez J,aMX]);(case fin=>rintro⟨h2,e2⟩c1⟨j6,rfl,vs,ws,I,k,c9,v,r,E,hR⟩;rw[aG8];subst j6;have d3:vA I k=bT Vu lF:=by{cases v with|nil=>{cases r with|nil=>{rw[fj MU aWk a8M]}|cons c u hw=>rw[kr aWl a8M]}|cons a t d3=>rw[m7 aWm (nc E.l)]};rw[gB d3];wp_delta;wp_delta;rw[dM];exact aLL);case h=>rw[aM6])
universe z
section z
variable{prog:Program}{w:World}{A:Around}{E:aU}{s:Shared}
theorem aWp{l b:Addr}{f i:dW}{ns d8:aQ}{Q:aU}(a5:aI7)(U:aKD)(hi:QV)(b8:Rh)(hu:sW<gG)(h:j7 aoL):z0 .Gt:=r .Gt PySem.F.slot_tuple_gt PySem.F.entry_tuple_gt (PySem.F.args_tuple_gt_2 _ _) (aWo l b f i n n2 j o sl p ns d8 hi b8) aoL aoL
universe z
universe HT
namespace L2
open PySem PySem.Spec PyProof.Rows
section z
variable{X:Cx}
def axw(K:PySem.W.Frag):R2:=IP (WT ns d8)
theorem aWq(hu:zx<gG):be .Gt (axw X.K):=CC (HT.aWp e9 f6 (MW r1) (MW r2) hu (eZ (WT ns d8) q))
universe z
universe L2
namespace L2
open PySem PySem.Spec PyProof.Rows
section z
variable{X:Cx}
inductive axx(x:V)(vs:af)(H:Hp)(Q:VK):Prop|mk:∀(l:Addr)(O:af)(j:Nat)(y:V),eU [I2,y] (j<=bx) (bx<hC->x8 (O.take j++y::Hf j)->axx x vs H Q)
theorem aWr:Ss X "list.insert" axx:=by rw[apF,cs O j y b8,hS];obtain⟨f,u,rfl,⟨t,rfl⟩,m⟩:=rv.two;rw[aa0,bU c b c (c=v j)];have fit:a4e c=ab:=by{rw[wg]at c9;delta a4e;rw[dH ag,dH (x (acU b.m (aC b8) (ml c9)))];rfl};rw[<-b];refine ahk F.slot_list_insert (bm e) F.entry_list_insert (F.args_list_insert_3 _ _ _) (AutoSeq1.list_insert_list_int_val_1 l eT n c t u cq ai) (aw e);rw[aI W (min j Hv) j (qV (cf b8 a5.l)),Q .bC _ (eQ (ar.take j++u::ar.drop j) ?_ ((J.take j).append (.cons m (J.drop j)))) q];{have a3:¬(c<0):=by{lia-abstractProof};have d:eD=j:=by{lia-abstractProof};apply Array.toList_inj.mp;simp[a3,d,W,a4d,a4c,a4b];exact DJ aT};{rw[cj,ie,<-aDQ,<-cj,DA];exact c9}
universe z
universe L2
namespace GA
open PySem PySem.Spec PyProof.Rows L2
theorem gtK{X:Cx}{K:Fg}(g:fD)(hu:zx<gG):be .Gt (axw K):=g▸aWq hu
theorem axy:∀O d7:aQ,WT O d7=mO d7 O|[],[]=>rfl|[],_::_=>rfl|_::_,[]=>rfl|x::O,y::d7=>by simp only[WT,mO,axy O d7,eq_comm (a:=x)]
theorem aWt(p q:Pt):WT ys aKf=Ng p:=L (axy _ _) (Uh q p)
noncomputable def Cu(l m:kn):cb:=l.1.below m.2&&zC l.1 l.2 m.1 m.2
inductive axz(K:Fg)(vs:af)(H:Hp)(Q:VK)(E:XK):Prop|mk:∀(v:V)(b2 c0:Addr)(l:kn)(c5:ej)(f:ni),e [v,YJ,O_] aoj (bm dG b2 c5) (bm eR c0 f) (c (kv l.1/\kv l.2) (V p c5 (kv p)) (V J f (kv J.1/\kv J.2)) (dy (c5.any aam||a8d)) (axz K vs H Q E))
section z
theorem axA:T.awk.Ok P w aj 3 (axz K):=by refine T.awk.go aT1 aK;generalize aF=e3,az=A,aE=outer,aD=s,aB=H,aA=vs,aG=Q,aH=E;rw[aN,M P7,aX,n O b2 c0 l c5 f];rintro rfl⟨a,x,y,rfl,b3,S,b6⟩⟨b1,l8,c2⟩⟨ws,hw,j⟩sl e8 e k;rw[d _ (i 3 ajs kL (bU 4 ajs kL) (bZ (bd aq 5 ajs (dm (u_ (Z awU bb bQ cJ)) mq)) (bd av 6 ajs (dm (gJ (ea (gtK (K:=K) rfl ai2) (dh ew) bb) (u_ (ec aVP (vy bb bQ (dh ew) (dh ew))))) mq)) mq)) a _ _ _ rfl (w JB dg a _ (u JB dr b2 ⟨b1,l8⟩ (aJ b1 (bi (L=H) (∃v,M=Kv ae) (dI (ajr i) aam=ah)) (ah qn rfl) (mS (z.1▸l8)))))];{rw[g3 L v g];have⟨p,a3,J⟩:=oI c2 c9;rw[aL (ajr (i+1)) (ajr i) p a3,e l.1 l.2 p (cA S b6 J) sl.1.kx sl.2.kx (e8 p (bM a3)).kx Kc];{have:c5.any aam=ab:=a4f (v p (bM a3) c);rw[this,aB8]at k;exact k};{refine ah ek ?_;rw[g9,List.any_append,g];simp at c;simp[c]}};rw[fH L v g,dc ai5 g];rw[g,aB7]at k;rw[bD c0 ⟨ws,hw⟩ (aJ ws (fun i M j1=>yY (j1=L) (∃j5,M=Kv j5) (dI (ajq i) (Cu l)=ah)) (ah qn rfl) (fun i M j1 _ z=>z.1▸hw))];{rw[g3 j1 j5 g8,c J I b n a4 U r1 r2 (oI j c9)];have sm:=e J (bM I);rw[aL (ajq (i+1)) (ajq i) J I];have k0:=gX (by have:a8d=ab:=a4f (v J (bM I) c);rw[bs this];exact k);have f6:Cu l J=ah->dI (ajq (i+1)) (Cu l)=ah:=gX ag;have⟨e5,b4,d2⟩:=S;have⟨e6,b9,q2⟩:=r2;subst b4 b9;rw[da b U (m e6 e5 (oK q2) (oK d2) ?_)];rw[aWt];unfold Cu at k0 f6;rw[ko];{rw[Dx (a _ _ _ _ l.1 l.2 J.1 J.2 (a rfl S b6 r1 r2 sl.1 sl.2 sm.1 sm.2 a_V)),l (k0 ag),l (ah ek (f6 ag))]};{refine ah ek (f6 ag)}};rw[fH j1 j5 g8,dc j.length g8,bs g8];exact k
universe z
structure vB(H:Hp)(l:Addr)(Y:bg)(g:AY):Prop where
 lst:am l Ay
 nd:aDR
 len:eN=N2
 at_:HD (I ns (A g ns) (am a ji) (a≠l))
theorem vB.mono{H L:Hp}{l:Addr}{Y:bg}{g:AY}(h:aH4)(s:bP):vB L l Y g:=KU (bv q)
theorem vB.get{H:Hp}{l:Addr}{Y:bg}{g:AY}(h:aH4){i:Nat}{ns:ao}(hi:A g ns):I a ED (am a ji) (a≠l):=by rw[cZ a5 (i<eN) ajt N2];obtain⟨I,e,q,n⟩:=a'2;rw[a6 hi,dU];exact bda
theorem vB.put{H:Hp}{l:Addr}{Y:bg}{g:AY}(h:aH4){i:Nat}{a:Addr}(b3:ED)(ns:ao):vB (ap a ji) l Y (g.set i ns):=by have⟨d,f5,N,c6⟩:=aGF;rw[bgZ,Z3,Ig ak];{have⟨I,b4,d2,n1⟩:=mY j b U;exact d I bz (Y bfj d2) n1}
noncomputable def vC(ls:nO)(i:Nat):ao:=ls.filterMap (mG (aw (l.1=i) l.2 (aw (l.2=i) l.1 ae)))
theorem aWu{ls:nO}{n:Nat}{e:fB}(h:e.1≠e.2)(a3:e.1<n)(a9:e.2<n):(bp (bp (d9 (vC ls)) e.1 (vC ls e.1++[e.2])) e.2 (vC ls e.2++[e.1]))=d9 (vC amQ):=by rw[alN,aGD];simp only[a4g,Nf,WU,M3,bA,aCX];have f9:vC amQ i=vC ls i++(v e.1 i [e.2] (v e.2 i [e.1] [])):=by{delta vC;rw[aiS];rw[dY];simp only[Hj,aDl];rw[N d2 e.1 i,a_,cL]};rw[f9];rw[N q2 e.2 i,ay,cL]
inductive axB(C:Addr)(vs:af)(H:Hp)(Q:VK)(E:XK):Prop|mk:dc (zC Ym) Q4 (QT->(∀l Y L,bP->vB L l Y (ch de DP)->Q cC L)->axB C vs H Q E)
section z
theorem aWv:T.av7.Ok P w aj 1 (axB bI):=by refine T.av7.go aTR aK;generalize aF=e3,az=A,aE=outer,aD=s,aB=H,aA=vs,aG=Q,aH=E;rw[aN,M iA,aX,Bq,cn c1 c9 o,fF,Q3,aaX,fa,eB (b6 (d aju 1 pP (ck "point" 2) (cj 2 aju) kO (bC Bb)) (mC pP (V 3 aju 4 aju) (c8 (dG amV bQ) (dG (bs aq bQ) bb))) aq) (a hd dS gf fX b2 rfl (dD c5 a3) (fun Z f=>g7 (bP/\g2 Z gu (b≠Z)) f a3))];{rintro i x L S⟨s,Y,e,len,nd,al⟩;have hi:=bx S;have p4:=rh;rw[iu ⟨cS,fun b U=>?_⟩];have a5:b≠Z:=J ai;rw[La f,l8 ak,bfi,biJ]};rw[KC a8,bg9,a2 (di hd) (u kF kz X (dD ls (di a9)) (bW ls (bi (vw (fun j8 b1=>M=[kN,ac Z,ae,j8,b1])) bP (vB L Z Y aHG)) (v Kf a4 (by rw[H2 a8Z];have hi:=bx U;rw[a'U];rfl)) a9))];{rintro i x M L S⟨⟨j8,b1,rfl⟩,s,N⟩;rw[B7 (oI f6 S)];have C:=c1 e uv;rw[api,bfI,am g7 aHG e.1 (ln e.1) m9];obtain⟨e5,e0,d2,n1⟩:=N.get g7;have d:∀j,bd (ln j) 8192:=iX (by rw[tj (a4h _ _)];rw[eS];exact cn (oV i lM) o);rw[b b _ rfl (cx (bv U)) rfl Z _ _ (a (gV e5) rfl rfl (au w_) (no e0) (dq d2) e5 _ (f _ rfl d2 (aw (D9 (d e.1))))),aS a7 (bh (ln e.1)++[g0 e.2]) (bh aaH)];rw[a7];rw[cd (N.put e0 aaH),aj n (U L e5 (bh aaH)) (fI s (aV (al e5 (bM e0)))),i L e5 (bh aaH) b7 l n,dE g8 (ap (bp aHG e.1 aaH) e.2 (ln e.2))];obtain⟨e6,g0,q2,n2⟩:=l.get g8;rw[s Z (gV e6) (au l.lst) (no g0) (m (dq q2) e6 q2 (D9 (d e.2)) ?_),aS p (bh (ln e.2)++[g0 e.1]) (bh a'T)];rw[p];rw[ak (bm _) (fI n (aV (al e6 (bM g0)))),f3 (l.put g0 a'T)];rw[aWu (fZ (gy z.g C.1)) m9 C.2]at g;rw[J g9 g]};rintro M L⟨⟨j8,b1,rfl⟩,s,N⟩;rw[dc N1 N];exact(k Z Y L s N)
universe z
inductive rGN(K:Fg)(x y:V)(H:Hp)(Q:VK):Prop|mk:∀(p:Addr)(O:af)(j:Nat)(v:V),b x fP (y=vn j) ZK anq (AO->rGN K x y H Q)
theorem aWw{X:Cx}{K:Fg}(g:fD):aqT X (rGN K):=by subst g;intro aI s M H o i ov c Q I b a h;rw[c p O j v rfl e0 S q h];cases b;rw[ev a,a1 J d5 OG,bl n m (ahd S)];have b8:=bx S;rw[fa];exact wpAny_getItem_list zq aT fp ag (a v H I m q)
def Up:Rl jb:=fun _ v o=>match o with|none=>v= .bC|some n=>v=jj
theorem LR{p:uA}{n i:Nat}(hi:i<n)(h:p i=ab)(g:yZ (p j)):QS=aa i:=GM.auz.mpr (v hi h g)
theorem Uq{p:uA}{n:Nat}(g:E j (j<n) (p j=ah)):QS=ae:=GM.aeJ.mpr g
inductive axD(vs:af)(H:Hp)(Q:VK)(E:XK):Prop|mk:Ks (A [cC] alF (t5 (ci n (dJ (s6 (a5 i))))) (axD vs H Q E))
noncomputable def Cv(par:gs)(x:Nat):V:=match par x with|none=> .bC|some p=>jR
noncomputable def za(B:ao)(par:gs):gw:=ajv (fun(x:Nat)=>((hR x:Key),Cv par x))
theorem GZ(par:gs)(y:Nat):∀B:ao,fb akZ (hR y)=aw (y∈B) aIO ae|[]=>rfl|x::J=>by have d6:=GZ par y J;unfold za at d6⊢;rw[c_];rw[b2 x y];{rw[b_];rw[sj rfl,aJ bJ]};{rw[sk (by rw[fT];exact e cq),d6];by_cases m:y∈J;rw[a_,cL]}
inductive axE(vs:af)(H:Hp)(Q:VK)(E:XK):Prop|mk:∀(l d:Addr)(Y:bg)(n:Nat)(a5:mc)(B:ao)(par:gs),e [cC,nJ] alF (kd n) (bh d Pb) (ad v (Up H v (ci n aKb)) AO->axE vs H Q E)
inductive axF(vs:af)(H:Hp)(Q:VK)(E:XK):Prop|mk:Ks (e [cC] alF (0<n) (kd n) (j (ad x (n<=x) (a5 x=[])) (e7 (dw (a5 x) (y<n))) (e7 (kd Y3)) (apn) (∀d B par L,j bP (Y d) (L d=aa Pb) aLy alS (Q nJ L)) (axF vs H Q E)))
section z
theorem aWx:T.av8.Ok P w aj 1 axD:=by refine T.av8.go ae1 aK;generalize aF=e3,az=A,aE=outer,aD=s,aB=H,aA=vs,aG=Q,aH=E;rw[aN,M oj,aX,al l Y n a5,ds N,apZ,cl (bo (u bR 1 ae1.nd 2 ae1.nd (D lz (dO av) bD aq)) cu) (au w_) (bv n (bi (vw (fun O o=>M=[tV,O,o])) bP (yZ (s6 (a5 j)))) (v Kf ei (i8 AA))),CT (as (gV (dB Y ag)) (br w_) ag),wF (aw (br w_) ag)];{refine iA;rw[aJp];rintro hi⟨⟨O,o,rfl⟩,s,g⟩⟨t,y,rfl,c6,rfl,b6⟩;have b6:=b6 _ (br w_);rw[co gi (A (d9 a5) (a5 i)),eJ X nc (N.get gi)];rw[cz,b0]at b6;cases b6;rw[tm (eA (.ref c)),d t _ rfl (cx ak) rfl c _ (aw (ce (gS X)))];rw[bA];rw[FQ];{rw[bD (aC b5 ?_)];rw[LR hi (aI (n_)) g];rfl};{rw[aa (bm _) b5 Rr,Z3];{rw[fU]};rw[l (g j (iT e))]}};{refine fQ;rw[X4];rintro⟨⟨O,o,rfl⟩,s,g⟩;rw[Jm];rw[Uq g];rfl}
theorem aWy:T.av_.Ok P w aj 1 axE:=by refine T.av_.go au8 aK;generalize aF=e3,az=A,aE=outer,aD=s,aB=H,aA=vs,aG=Q,aH=E;rw[aN,M oi,aX];generalize kU=l,kW=d,kY=Y,kZ=n,k_=a5,lg=B,ll=par;rw[aw N d1 hd k,apZ,b _ (bo (an (oA nL) 2 au8.nd (dm (BB (SH xB av aq)) av)) cu) l _ rfl (ce w_) cK ag (aJ aT (w2 d1))];rw[iU];rw[fG n (bi (L=H) (∃o,M=[tV,rE,o]) (yZ (! cv (j∈B)))) (ah qn (i8 AA))];{rintro i M L hi⟨rfl,⟨o,rfl⟩,g⟩;rw[aLN];rw[d2];rw[tc (jr.k (k:=hy xy) hd)];rw[GZ];by_cases m:i∈B;{rw[aJ m];refine ah ek Rr;rw[Z3,a_,l (g j (iT e))]};{rw[aO m,bD (k _ ?_)];rw[LR hi (ar m) g];rfl}};{rw[fH L o g];refine k _ ?_;rw[Uq g];rfl}
universe z
theorem LS{n j:Nat}(h:j<n):qC n (v j)=aa j:=b2 qC (aJ aT) (aJ (x (ml h))) iU
theorem afH{I:Type}:∀l:ba,kA (as (cf 0))=Vr eb 0|[]=>rfl|a::J=>by rw[c_,afH J];rfl
theorem axG{f g:cD}{x:Nat}(e:g x+1=f x)(o:E y QI (g y=f y)):E n (x<n) ((d9 g).sum+1=(d9 f).sum)|0,h=>rs h|n+1,h=>by rw[ajw,fg,fg,aDS,aDS];simp only[c_,zw,a4i,List.sum_nil];rw[iS n];{rw[e_];have:ch x g=ch x f:=aiD (o2 (o y n_));rw[od];simp+arith [*]};{rw[dB (axG e o n (cz h q))];rw[o n (J (q wo))];simp+arith [*]}
noncomputable def aWz(a5:mc)(n:Nat)(o:ao):Nat:=(d9 (ab (Y3-Yo))).sum
theorem aWA{a5:mc}{n:Nat}{o:ao}{x:Nat}(S:x<n)(i0:aDU=n)(h:Yo<Y3):o3 (aDT x (Yo+1))+1=o3 o:=by refine axG (x:=x) ?_ Q6 n S;{rw[fU]};rw[dX]
theorem aWB{o:ao}{x:Nat}(S:x<aDU):(e9 (am (aDT x (Yo+1)) y 0))=GM.bump (e9 (aDV y 0)) x:=by funext y;delta GM.bump;rw[WC];rw[b2 y x,a_,cL]
theorem aWC{B:ao}{par:gs}{y t:Nat}(h:y∉B):mQ akZ (hR y) (vn t)=za (eM B) (WV par y t):=by rw[aP7 _ (bj GZ (bj h))];delta za;rw[fg];rw[dY];{rw[j0 qr];have:x≠y:=an (h ai);delta Cv WV;rw[aO this]};{simp[Cv,WV]}
section z
theorem aWD:T.av9.Ok P w aj 1 axF:=by refine T.av9.go aTS aK;generalize aF=e3,az=A,aE=outer,aD=s,aB=H,aA=vs,aG=Q,aH=E;rw[aN,M oj,aX,al l Y n a5];rintro rfl N c6 d1 b8 b1 g sym k;rw[apZ,fa,fc (L N3 (aQp (aQn bD cu aQm) rfl rfl Rq ax) (aW N3 2 3 3 N3) (i 4 N3 (ea bD) (F5 NX (afl K bQ) (i 5 N3 (bs bQ (aqY aq1 bD)) (ak gP (i3 cJ) (dO (eS cJ)) (Ch bQ) aNX) (i 6 N3 (bs (eS cJ) (i3 cJ)) (qT av cJ) (fG (sg (BB (SH xB ew aq)) (c8 (d3 aq ew cJ) (dG bQ ew)) BE))))) (de aq))) (s7 (f ak a7n ax ?_))];rw[yx];rw[x3 aJj,e b4 H d aJj d (.dK (za [0] uB)),iG (ad d aJj),biK,a9 l (di w_) (sW (c oH aoR sD a9 (as xu) h7 a'V)),e1 a x b3,bbU];have c3:=vt f6;rw[eV c3,bg3];rw[g9]at c3;rw[j_];have c5:=IZ;have W:=fq b4 h7;rw[v (bB) (fun p a0=>?_),T c8 b7 (U b7 p hg) a0,a e7 b7 p hg p hg,cj I p d,M O p t bL,g4 p hg];have Hp:=e1 eY a0;rw[ak (qO (Lg (m=anU+aDW/\M=bij/\de bP (L d=aa Pb) (aj t (tq vn)) (aj p (path.map vn))))) (a _ [0] uB (Vr n 0) [0] ae ae rfl (a rfl (L eY c8) (dn c5) (dn b9) e7 aBJ ?_ (aL ai) bB aY))];{have:(ab (am (Vr n 0) x 0))=nq:=bz;rw[od];exact GM.aRw a5};rintro m M L⟨B,par,o,path,i1,j5,rfl,rfl,s,a3,j,e1,C,D,lt,lo,b2⟩;rw[ca (.inl (bm (au e1)))];rcases a4k dI with rfl|⟨f,e,rfl⟩;{rw[bD (k d B par L s nd a3 (D.tree sym) lt)]};{have c4:=Nq e aT;have c7:=lt e c4;rw[a4j]at*;have ne:(!(bh Bg).isEmpty)=ab:=by{simp};rw[ne];rw[co c0 (K o e Ej),co r (ap (d9 a5) e (a5 e))];have⟨c,b0,X,nc⟩:=(ajy s).get r;have Z:=(ajy s).lst;rw[b (op (anU+t Bg) (Lg (f7=anU+aDW/\g0=bij/\de (cY H j1) (j1 d=aa Pb) (b7 (j1 t) (tq vn)) (b7 (j1 p) (path.map vn))))) aaT p _ _ (vn e) (b rfl rfl (au e1) (t fg (arA _ _)) t _ (vn Ej) (b rfl rfl (au j) Pc l _ (gV c) (b rfl rfl (au Z) (no b0) c rfl (ce X) gM)))];rw[dO,bA];rw[FQ];{rw[c (dq e1) p _ (vn e) rfl e1 aT (a (anU+Dz) aT B par o f _ j5 (a rfl rfl (fI s Hp) (Y I.symm a3) (Y O.symm j) (nP ak) C (D.pop rfl bz) lt lo (nI b2)))]};{have h8:=D.S0 e;have d3:Ej<t (a5 e):=by{lia};have u:=da d3;generalize(a5 e)[Ej]=y at u;have G:=b1 e y (bM u);rw[s l (gV c) (au Z) EK (E t Ej (au j) EK (E c y (au X) EK (f t _ e (vn Ej) rfl (au j) ai (c2 t e j ai)))),bN a7 (bdm) JJ ajx,t0 (U L t bdm)];rw[a7];rw[aj d9 (U L t JJ) (fI s (gY h7)),z g4 (upd L t (.lst JJ) d=aa Pb) (bW W) a3,a h3 L t JJ t JJ,z h6 (O L t JJ p (bh Bg)) (bW O) e1];generalize U L t JJ=e4 at d9 g4 h3 h6;have F:=aWA (a5:=a5) c7 C d3;rw[bM e0 (t ak0) n,tc (w0 g4)];rw[GZ];by_cases U:y∈B;{rw[aJ U];rw[b (2*o3 ak0+t Bg) bL B par _ Bg _ _ (a rfl rfl d9 g4 h3 h6 e0 ?_ lt lo b2),J bcH (D.old aHf u U)]};{rw[aO U];have R:eC+1<=n:=by{rw[dk (asj D.nd U) (eK n) (aL (by rw[h_ S,a_,ay])),gj]};rw[tc (qE.k (k:=hR y) g4 (n7 za (hq R d1 fy)))];rw[aWC U];rw[z e2 (b7 (upd e4 d (.dK (za (eM B) (WV par y e))) p) (bh Bg)) (bW I) h6,bM d5 (t Bg) n pU,n (dq e2) p e2 (x (RS b2 R d1 fy)) (a (2*o3 ak0+t (eM Bg)) (eM F.l F.l) (eM B) (WV par y e) _ (eM Bg) _ _ (a rfl rfl (fI (go d9) Hp) ?_ ?_ ?_ e0 ?_ ?_ ag ai))];{rw[bW I.symm,ak]};{rw[bW O.symm,bW W.symm];exact h3};{rw[ak,<-List.map_singleton (f:=vn),<-fg]};rw[Z bcH (D.new sym aT u U)];{intro x S;rw[h_ S,a_,ay]}}}}
universe z
def mD(N:bg):Rl CK:=fun H v x=>match x with| .lead row m=>∃a i7 b8,i2 (l7 bcc) (fg i7 row/\Z9/\i7∉N)| .erase i j=>z a (v=bc) (l7 [.int 1,pK,vn j])| .move k p=>∃a pv,v=bc/\l7 [.int 2,vn k,pv]/\br pv p| .mark i m=>∃a b8,v=bc/\l7 [.int 3,pK,b8]/\Z9| .drop k=>z a (v=bc) (cy (ee 4 (vn k)))
def LU(C:Addr)(H L:Hp)(r:Gla.Plan)(b2 X:Addr)(x:Gla.Step)(v:V):Prop:=match ajz r x with|none=>v= .bC|some T=>∃b6 a e7 i I,i2 (LN C L a b6 e7 i I) (DN b6/\zR b6=zR T/\D (zR T=ae->b6=T) (Y a) (Y e7\/e7=b2) (Y i\/i=X) (Y I))
inductive axH(C:Addr)(vs:af)(H:Hp)(Q:VK)(E:XK):Prop|mk:∀(a:Addr)(r:Gla.Plan)(b2 X G:Addr)(a0:V)(x:Gla.Step),e [bc,a0] Qo (mD [] H a0 x) (xb r) (Ii x->nQ x->axH C vs H Q E)
def Ur(C:Addr)(H:Hp)(v:V):cw Et|none=>v= .bC|some B=>∃b b2 X G,v=cV/\LN C H b B b2 X G
inductive axI(C:Addr)(vs:af)(H:Hp)(Q:VK)(E:XK):Prop|mk:lP (DN D) (aLK->gr (zR D)->axI C vs H Q E)
universe GA
namespace GM
noncomputable def sm:cD|0=>0|n+1=>5*sm n+1
noncomputable def fn:gQ Nat Nat|0,x=>x|n+1,x=>5*fn n x+1
theorem LV:aP n x (fn n x=5^n*x+sm n)|0,x=>eN fn sm|n+1,x=>by simp only[fn,LV n x,sm,HW];grind-abstractProof
theorem afI:∀(a b x:Nat),fn (a+b) x=fn a (fn b x)|0,b,x=>ar fn|a+1,b,x=>ok fn (afI a b x)
theorem aWE(a b:Nat):sm (a+b)=5^a*sm b+sm a:=by have h:=afI a b 0;rw[LV,LV,LV]at h;simpa using h
theorem afJ:∀k,∃u,5^(2^k)=1+4*2^k*u|0=>⟨1,ax⟩|k+1=>by rw[i7 u (afJ k),dI (u+2*2^k*u*u)];rw[HW,Nat.pow_mul,h];grind-abstractProof
theorem axJ:∀k,∃v,sm (2^k)=2^k*(2*v+1)|0=>ht ax|k+1=>by have⟨v,h⟩:=axJ k;have⟨u,g⟩:=afJ k;rw[dI (v+2*2^k*u*v+2^k*u+0+(2*v+1)*0)];rw[show uz=2^k+2^k by grind,aWE,h,g];grind
theorem aWF(k x:Nat):∃c,fn (2^k) x=x+2^k+uz*c:=by obtain⟨u,g⟩:=afJ k;rw[i7 v (axJ k),dI (2*u*x+v)];rw[LV,g,h,HW];grind-abstractProof
theorem axK:∀(k i j:Nat),z n (n<2^k) (JY%2^k=j%2^k)|0,i,j=>v 0 ax cq|k+1,i,j=>by rw[bdb,cZ f6 uz (2*2^k)];have p:e7 (x%uz=x%2^k\/x%uz=x%2^k+2^k):=ab (by rw[f6,aix,a3w];rw[al (Nat.mod_two_eq_zero_or_one (x/2^k))];{rw[xq]};simp[*]);rw[T (JY%uz) (j%uz),cL];{rw[ak (2^k+n) (bn f6.g d1)];rw[afI];rw[db h (aWF k JY)];rw[h,Nat.add_mul_mod_self_left];rw[cn (p JY),cb (p j)];rw[e]at a;rw[aS d ((JY+2^k)%uz) ((JY%uz+2^k)%uz)];rw[d];rcases a with a|a;{rw[a];rcases b with b|b;rw[ay];{rw[b,es eO]}};{rw[a];rcases b with b|b;{rw[b,dy (j%2^k+2^k+2^k) (j%2^k+uz),Nat.add_mod_right,es eO]};simp_all}}
theorem aWG{k i a b:Nat}(b3:a<2^k)(U:b<2^k)(h:fn a i%2^k=fn b i%2^k):a=b:=by have O:∀(m:Nat)(f:cD),ad n (n<m) (f n<m)->ad j (j<m) (z n (n<m) (f n=j))->f a b (a<m) (b<m) (f a=f b) (a=b):=by{intro m f W c a b b3 U e;rw[a8x];let l:=(eK m).erase a;rw[cZ G (t xU) (m-1),fd all (∀j∈eK m,j∈xU)];have len:∀{l m:ao},aMC:=by{rw[rL];induction l with|nil=>{intros;exact cS}|cons x l d6=>rw[b1 m nd];have n2:=AL;have N:=GB cq;have a8:=h x bJ;have:=aCo a8;rw[oZ N];exact mT N a8};have:=len WW all;rw[am G,uu];exact gy this (aI m 1 b3)};have V:0<2^k:=a3z ax;exact O (2^k) (ed (JY%2^k)) (fun n _=>VY _ V) (i8 (by rw[bdb];exact v n d1 (bj e (es b8)))) a b b3 U h
universe GM
namespace GM
open PySem PySem.SetTable
noncomputable def Us(t:SetTable)(p:Probe):Ik:={p with j:=FP,more:=kG df FP-FP,i:=FP,perturb:=(tr df p.i Ij).2}
theorem aWH(t:SetTable)(p:Probe)(h:i_=0):zS p=Ye:=by delta aDX Us;simp[h]
theorem aWI(t:SetTable)(p:Probe)(h:0<i_):zS p=bcI:=cG aDX kS
noncomputable def oM(p:Probe):ao:=ch (i_+1) (p.j+ ·)
noncomputable def lC(t:SetTable):gQ Ik Ik|0,p=>p|J+1,p=>lC t J Ye
noncomputable def path(t:SetTable):gQ Ik ao|0,_=>[]|J+1,p=>uy++aIW
theorem aWJ(p:Probe)(h:0<i_):uy=p.j::oM bcI:=by delta oM;simp only;rw[aS (i_+1) ((i_-1+1)+1) (cU (aS i_ 1)) (cU (aI i_ 1 h)),ahm,c_,jz];simp only[HG];rw[dY,a8q];simp only[Wv];simp+arith [*]
theorem aWK(p:Probe)(h:i_=0):uy=[p.j]:=ga oM h
theorem axL(t:SetTable)(p:Probe):∀(J:Nat),aHu=p.j::bo (i_=0) (dI t J (zS p)) (dI t (J+1) (zS p)):=by intro J;rw[d9 h i_];{rw[aJ h,aWH t p h];simp only[dI,aWK p h,List.singleton_append]};{rw[bj h,aWI t p amr];simp only[dI];rw[aWJ p (x (aV aNn h)),aht];rfl}
theorem axM(t:SetTable)(hashAt:eg)(h:Int)(nd:bdt):∀(r J:Nat)(p:Probe),bd hP r->(aJf)->aC m bgQ m|r,0,p,_,⟨j,b8,_⟩=>a74|0,J+1,p,l,_=>ai|r+1,J+1,p,l,⟨j,b8,e⟩=>by rw[axL]at l b8;simp only[aDY];cases c0:zT p.j with|empty=>{exact ek}|dummy=>{simp_all}|live i=>simp only;split;{simp};{rw[wP b8];have M:=b8.resolve_left Ql;rw[T i_ 0,g4 (aJ q) J (x (a2T l)),g4 (bj q) (J+1) ai]}
noncomputable def cands(t:SetTable)(hashAt:eg)(h:Int)(l:ao):Nat:=t (zB (iX (match xm with| .live i=>DQ i==h|_=>ah)))
theorem G0(t:SetTable):AP (hP=(eK J).flatMap aKi)|0,p=>rfl|J+1,p=>by rw[ahm,pq,aC4];simp only[dI,lC,G0 t J]
theorem LW(t:SetTable):∀(a b:Nat)(p:Probe),lC t (a+b) p=lC t b (lC t a p)|0,b,p=>ar lC|a+1,b,p=>by rw[dy (a+1+b) ((a+b)+1)];simp only[lC,LW t a b]
theorem Ut(t:SetTable):AP ((g1 J).perturb=Ij/32^J)|0,p=>ar lC|J+1,p=>by simp only[lC,Ut t J];show(Ij/32)/32^J=_;rw[Nat.div_div_eq_div_mul,HW,aix]
theorem afK(t:SetTable):nm (0<J) ((g1 J).j=(g1 J).i/\s5 (g1 J))|0,p,h=>ai|1,p,_=>by{rw[bu];show kG df _-_<=9;delta kG;rw[Zg]}|J+2,p,_=>Hx (afK t (J+1) _ p_)
theorem Uu(t:SetTable){k:Nat}(c3:anx):∀(n:Nat)(q:Probe),q.perturb=0->q.i<2^k->(alk).i=fn n q.i%2^k/\aHa=0|0,q,b1,hi=>by{simp[lC,fn,es hi,b1]}|n+1,q,b1,hi=>by have d6:=Uu t c3 n q b1 hi;rw[dR (n+1) (n+1),LW t n 1];constructor;{show(tr df (alk).i aHa).1=_;delta tr;simp only[d6.1,d6.2,c3,fn];rw[Nat.zero_div,HG,a4l,a4m,Nat.mod_mod,<-a4m,<-a4l,aix]};{show(tr df (alk).i aHa).2=0;delta tr;simp only[*]}
theorem axN(t:SetTable){k:Nat}(c3:anx):nm (0<J) ((g1 J).i<2^k)|0,p,h=>ai|1,p,_=>by{show(tr df _ _).1<_;delta tr;simp only;rw[c3];omega}|J+2,p,_=>Hx (axN t c3 (J+1) _ p_)
theorem aWL(p:Probe):t uy=i_+1:=ar oM
structure axO(t:SetTable)(k:Nat):Prop where
 mask:anx
 G1:a9j
 fill:ri<=df
theorem afL{t:SetTable}{j i:Nat}(h:xm=Yk):j∈zU:=by rw[a4 aDZ];grind-abstractProof
theorem afM{t:SetTable}{k:Nat}(Y:yo)(j:Nat):xm≠.dummy:=by delta aDZ aD0;rw[Y.G1];rw[xr]
theorem afN{l m:ao}:aMC:=by induction l generalizing m with|nil=>{intros;exact cS}|cons x l d6=>rw[dt nd];have n2:=AL;have:=aCo (h x bJ);rw[cN (GB (ae (a2Y (fun(e:y=x)=>n2.1 (e▸b6))) (h y (ck b6)))),cQ this];exact mT q (h x fx)
theorem aWM{t:SetTable}{k:Nat}(Y:yo):z e (e<=df) (zT e= .empty):=by rw[anB];have all:aL (eK (df+1)) (x∈zU):=by{rw[Bs];cases h:zT x with|empty=>{grind-abstractProof}|dummy=>{rw[dT h (afM Y x)]}|live i=>exact afL h};have:=afN WW all;have:=Y.fill;simp at*;lia-abstractProof
theorem aWN{t:SetTable}{k:Nat}(Y:yo){p:Probe}(c2:Ij<2^64):∃j∈amJ,Jf:=by rw[gA c0 (aWM Y),bd0];have D:e<2^k:=by{have:=N4;exact ff a0 this.l};rw[es D]at a7;rw[cs e c0];rw[G0,V5];rw[ak (13+n) ag,cd (Uu t N4 n _ (by rw[Ut];rw[fU]) (BN N4))];delta oM;rw[fK];rw[ak 0 aT,bgC]
theorem axP{t:SetTable}{p:Probe}(c4:i_<=9):∀(J:Nat),bd hP (10*J):=by intro J;rw[G0];have:∀(l:ao),bd (NG aKi) (10*eb):=by{rw[rL];induction l with|nil=>{exact cS}|cons a b d6=>rw[pq,cj,aWL,ie];have:s5 (g1 a):=by{rw[al (a4n a),Z q c4,l (afK t a p q).2]};exact cf this d6};grind-abstractProof
theorem aWO{t:SetTable}{k:Nat}(Y:yo){p:Probe}(c4:i_<=9):bd amJ (10*Il df):=by have:=axP (t:=t) (p:=p) c4 I7;have:=N4;delta Il;lia-abstractProof
noncomputable def vD(t:SetTable)(j:Nat):cb:=cv (j∈zU)
theorem axQ{I:Type}{p q:Be}:qA (bk l (p x=ab->q x=ab)->bd (zB p) (t (zB q)))|[],_=>aT|x::l,h=>by rw[dB (axQ (p:=p) (q:=q) l aI8)];grind-abstractProof
theorem aWP{t:SetTable}{hashAt:eg}{h:Int}(l:ao):WX t DQ h l<=t (zB (vD t)):=by delta WX;refine axQ l (fun j _ q=>?_);cases c0:xm with|empty=>{simp_all}|dummy=>{simp_all}|live i=>delta vD;simp only[iW];exact afL c0
noncomputable def Cw(f:cD):Nat:=(ch 10 f).sum
theorem aWQ(f g:cD):pE (f o+g o)=Cw f+Cw g:=by delta Cw;generalize eK 10=l;induction l with|nil=>{rfl}|cons a b d6=>simp+arith [*]
theorem aWR{f:cD}{c:Nat}(h:∀o,f o<=c):Cw f<=10*c:=by delta Cw;have:∀l:ao,(xU).sum<=eb*c:=by{rw[rL];induction l with|nil=>{exact cS}|cons a b d6=>rw[kB a4i ie];grind-abstractProof};grind-abstractProof
noncomputable def one(b:Bool):Nat:=Z b 1 0
theorem aWS:∀(m:Nat)(f:uA),m<=10->bd (dC m f) (pE (one (f o))):=by intro m f c4;have a:∀l:ao,t (zB f)=(kA (lm (one (f o)))).sum:=by{rw[rL];induction l with|nil=>{rfl}|cons x J d6=>rw[bC q (f x)];{rw[ah9 q];simp[d6,one,q];simp+arith [*]};{rw[a4p q];simp[d6,one,q]}};rw[a];delta Cw;rw[show eK 10=eK m++ch (10-m) (m+ ·)by rw[<-a4o];rw[dY];simp[*]];rw[fg,aDS];exact xK
theorem axR{t:SetTable}(q:df Ik)(e0:∀n,s5 (q n)):∀(ns:ao),bd (eh (ns.flatMap (ed (oM (q n)))) (vD t)) (pE (t a8e))|[]=>by{rw[ue]}|n::ns=>by have d6:=axR (t:=t) q e0 ns;rw[pq,DR,cj];have e:(lm (gz (n::ns) (ed Jo)))=lm (one Jo+t a8e):=by{funext o;rw[bC h Jo];{rw[ah9 (p:=ed Jo) h];simp[one,h];simp+arith [*]};{rw[a4p (p:=ed Jo) h];simp[one,h]}};rw[e,aWQ];have J:gz (oM (q n)) (vD t)<=pE (one Jo):=by{delta oM;rw[a4q,bA];have:=aWS ((q n).more+1) (vD t∘((q n).j+ ·)) ag;exact this};exact aD1 J d6
theorem aWT{t:SetTable}{k:Nat}(Y:yo){p:Probe}(c2:Ij<2^64)(c4:i_<=9)(hashAt:eg)(h:Int):WX t DQ h amJ<=130+10*ri:=by rw[tj (aWP _)];rw[G0,a0 (eK I7) (eK 13++ch (2^k) (13+ ·)) a4o,zP,DR,cj,aC4];have a:gz ((eK 13).flatMap aKi) (vD t)<=130:=by{rw[tj AW];rw[<-G0];exact axP c4 13};have j4:∀n,(g1 (13+n)).j=fn n (g1 13).i%2^k:=ed (ac (aGI).1 LW (Uu t N4 n _ (by rw[Ut];rw[en]) (BN N4)).1);rw[cb (axR (t:=t) (ed (lC t (13+n) p)) (ed (aGI).2) (eK (2^k)))];have c:(pE (t (dC (2^k) a_')))<=10*ri:=by{refine aWR (fun o=>?_);have nd:c8 (B (dC (2^k) a_') (ed ((g1 (13+n)).j+o))):=by{rw[J2,h8 (a3d _ WW),rk e];have d:=fe b3;have j6:=fe U;simp at d j6;rw[j4,j4]at e;exact ne (aWG d j6 (a06 e))};have:=afN nd (m:=zU) (aL (by rw[a7 n d1 S];have:=(vP d1).2;unfold vD at this;rw[gj]));rw[gj]};exact hq a b c
theorem aWU{t:SetTable}{h:Int}:(N5 h).perturb<2^64/\s5 (N5 h)/\(N5 h).dummy=ae:=by delta SetTable.probeStart;rw[cs ?_ rfl];{delta Im;lia};{show kG df _-_<=9;delta kG;rw[Zg]}
def iM(O:PR):Prop:=O.toList.Pairwise (· < ·)
theorem afO{O:PR}(h:iM O){a b:Nat}(u:a<b){x y:Nat}(S:nX a)(b6:K O b y):x<y:=by rw[<-pC]at S b6;rw[eB F a a4r,eB i5 b a4r,dd F S,dd i5 b6];have:=Nh h a b F i5 u;rw[bY (cZ S) (cZ b6)];exact this
theorem afP{O:PR}(h:iM O)(j:Nat):∀(r lo hi:Nat),j (hi-lo<=r) (lo<=hi) (hi<=iu) (z4 lo) (z5 hi) ((aMO<=iu)/\z4 aMO/\z5 aMO)|0,lo,hi,f,l,s,a,b=>by{have:hi=lo:=gE (cf (aS hi lo) f) (cU l);rw[gq];simp only[aD2];exact v s a b}|r+1,lo,hi,f,l,s,a,b=>by simp only[aD2];by_cases q:lo<hi;{rw[aJ q];have g8:uT<iu:=by{lia-abstractProof};have mg:=lN g8;rw[cs d (O.getD uT j) O[uT]];by_cases c:O.getD uT j<j;{rw[aJ c];rw[d]at c;refine afP h j r _ _ Bl fp s bak b;rw[cY (qU (HI R)),cc (afO h z S mg) (jv bF bF)];simp_all};{rw[aO c];rw[d]at c;refine afP h j r _ _ Bl fp dV a bak;rw[cY (qU R),cc (afO h z mg S) (ey (ff (qx c) this))];simp_all}};grind-abstractProof
theorem LX{O:PR}(h:iM O)(j:Nat):tj O j<=iu/\z4 (tj O j)/\z5 (tj O j):=cG tj (afP h j iu 0 iu aT (x cS) aY (fun i x q=>ai) (fun i x q S=>ai))
theorem afQ{t:SetTable}{k:Nat}(Y:yo)(R:iM lO){j i:Nat}:xm=Yk↔A lO j:=by have b:=LX R j;delta aDZ aD0;simp only[Y.G1];constructor;rw[EW];{rw[eE];have e:fA=i:=by{rw[fj fA i];{rw[eB l fA ri,f3 (lN l)];have e0:=b.2.2 _ _ aY g;have g0:=afO R q g h;lia-abstractProof};rw[iB];grind-abstractProof};rw[e,h];simp}
theorem afR{t:SetTable}{k:Nat}(Y:yo)(R:iM lO){j:Nat}:Jf↔j∉zU:=by constructor;{intro h m;rw[ib m];have:=ae (afQ Y R (j:=j) (i:=i)) (a4s (WY ⟨hi,e⟩));simp_all};{rw[eE];cases c0:xm with|empty=>{rfl}|dummy=>{rw[dT c0 (afM Y j)]}|live i=>rw[dT (afL c0) h]}
theorem afS{I:Type}(O:fv I)(p:Nat)(x:I)(c2:p<=iu):pB (N6 O p x)=O.toList.take p++x::a14 p:=by delta N6;simp[a4d,a4c,a4b];exact DJ aT
theorem aWV{t:SetTable}{k:Nat}(Y:yo)(R:iM lO){j:Nat}(b8:Jf):aGj=fA/\(Jd).mask=df/\(Jd).dummies= #[]/\aHb=aLz/\iM aHb/\(Jd).place.size=ri+1:=by revert Y R b8;revert t k j;refine ap8;rw[co t k j];intro Y R b8;rw[cb (LX R j),f4 (x (afR Y R) b8),ab d5 aHb aLz];have h8:=afS lO fA j b.1;rw[Q rfl rfl ?_ Ph];{delta SetTable.put;simp only[Y.G1];delta aD0;rfl};{delta iM;rw[d5,h8,qW,pf];have C:=R;unfold iM at C;rw[aa (C.sublist (aBK _ _)) ⟨qr,C.sublist (a4v _ _)⟩ (fun x S y b6=>?_)];{rw[ib S,a6 a4u,dE g (K lO (fA+i) x)];grind};{have o:x<j:=by{rw[ib S,a6 List.getElem_take];exact b.2.1 i x bz bz};rw[wP b6,de b6 b6,a_];{rw[ib b6,a6 a4u];have:=b.2.2 _ y (a4t fA i) bz;exact pU}}};{have:(aLz).toList.length=t.place.toList.length+1:=OL;trivial}
theorem axS(t:SetTable)(hashAt:eg)(h:Int)(nd:bdt):∀(r J:Nat)(p:Probe)(m:Met),i (p.dummy=ae) (bgQ=aa m) (aJf) (∃(n j:Nat),aJb/\(aP f7 x (f7<n->ap hP f7 x->z i (zT x=Yk) (DQ i≠h)))/\((m= .empty j ae/\xm= .empty)\/(∃i q,m= .candidate j i q/\xm=Yk/\DQ i=h/\q.dummy=ae/\∃B,dI t B q=aKd)))|r,0,p,m,_,_,⟨j,b8,_⟩=>a74|0,J+1,p,m,_,g,_=>bB|r+1,J+1,p,m,b4,g,⟨j,b8,e⟩=>by simp only[aDY]at g;have c5:=axL t p J;have a:(zS p).dummy=ae:=by{delta aDX;(split<;>trivial)};cases c0:zT p.j with|empty=>{rw[c0]at g;simp at g;rw[b4]at g;rw[po ai (ds g.symm c0)]}|dummy=>{simp_all}|live i=>rw[c0]at g;simp only at g;rw[c5]at b8;rw[wP b8];obtain⟨B,I,a3⟩:z B (j∈dI t B (zS p)) (aHu=p.j::dI t B (zS p)):=cq;split at g;{next c7=>rw[po fp (.inr (a i (zS p) (bt (cZ g)) c0 ai a B cq))]};{next c7=>obtain⟨n,f,d1,U,c4⟩:=axS t DQ h nd r B (zS p) m a g (v j I e);rw[aP (n+1) f ai (fun f7 x q S=>?_)];{rw[a3]at S;cases f7 with|zero=>{rw[a4 S (v i c0 (aI c7))]}|succ f7=>exact U f7 x (Nat.lt_of_succ_lt_succ q) S};simp_all}
noncomputable def vE(mask k:Nat)(h:Int):ao:=dI (rl cA) I7 (ck yr (kG cA yr-yr) yr (Im h))
theorem axT{t t':SetTable}(e:df=WZ):AP (hP=dI t' J p)|0,p=>rfl|J+1,p=>by simp only[dI];have:Ye=Us t' p:=by{delta Us;rw[e]};rw[this,axT e J]
theorem aWW(t:SetTable)(k:Nat)(h:Int):dI t I7 (N5 h)=vE df k h:=ga vE (axT (t:=t) (t':=rl df) rfl)
def Uv(mask k:Nat)(taken:me)(h:Int)(s:Nat):Prop:=z n (ap (vE cA k h) n s) (aP m x (m<n->ap (vE cA k h) m x->DH x))
theorem Uv.mono{mask k:Nat}{A B:me}{h:Int}{s:Nat}(u:E x (A x) (B x))(J:Ac A):Ac B:=by rw[aJ n e J];exact v n e (fun m x a b=>u x (q m x a b))
theorem axU(mask k:Nat)(c3:anz)(g:PU):∀(r J i f:Nat),J<=r->let p:Ik:=ck i (kG cA i-i) i f;let t:SetTable:=rl cA;(∃j∈hP,a_E)->∃n j,aJb/\a_E/\(aP m x (m<n->ap hP m x->aJ2))/\aD3 cA g r i f=aa j|r,0,i,f,_=>by{rw[b1 p t];obtain⟨j,b8,_⟩:=h;simp[dI]at b8}|0,J+1,i,f,l=>ai|r+1,J+1,i,f,l=>by rw[b1 p t];have u:i<=kG cA i:=by{delta kG;rw[Zg]};rw[bN C uy (ch (kG cA i+1-i) (i+ ·)) (Nat.sub_add_comm u),ab N aHu (uy++aIW)];simp only[aD3];cases W:ci (kG cA i+1-i) (cj (sb (DS (i+k) xu)))with|some o=>{simp only;have:=List.find?_eq_some_iff_getElem.mp W;rw[ah po d1 a7 H this];have y:n=o:=by{rw[<-a7,WU]};subst y;have d1:=aCX▸d1;rw[j n (i+n) ?_ po (dv bal)];{rw[N,C,hD (aI d1),cz,wM d1];rfl};{have Z:=jv c4 d1;rw[N,C,hD (aI Z),cz,wM Z]at S;rw[pV];have:=H m c4;rw[gj]}}|none=>simp only;rw[a3f]at W;have s:aL uy aJ2:=by{rw[Bs];rw[C]at S;rw[a7 k c3 S];exact Wo (W k c3)};rw[aO j b8 h];rw[N,hF]at b8;have M:j∈aIW:=by{rcases b8 with b8|b8;{rw[a6 (s j b8),dU]};rw[l b8]};rw[ab b2 Ye (ck aaU (kG cA aaU-aaU) aaU bd6)];rw[b2]at M N;obtain⟨n,v,a,b,c,d⟩:=(axU cA k c3 g r J aaU bd6 ai (v j M e));rw[r (t uy+n) v ?_ b bal d];{rw[N,pz xK,hx (t uy+n-t uy) n];exact a};{by_cases q:m<t uy;{rw[N,hD q]at S;exact s x (bM S)};{rw[N,pz (a3Q bF)]at S;exact c _ x (bn (aR (qx q)) c4) S}}
theorem aWX{t:SetTable}{k:Nat}(c3:anx){p:Probe}(c2:Ij<2^64){e:Nat}(a0:e<=df):e∈amJ:=by rw[bd0,b4 D (e<2^k) (ff a0 W0)];rw[es D]at a7;rw[G0,V5];rw[ak (13+n) ag,cd (Uu t c3 n _ (by rw[Ut];rw[en]) (BN c3))];delta oM;rw[fK];rw[ak 0 aT,bgC]
theorem aWY(h:Int):Im h<2^64:=by delta Im;lia
def LY(g:PU)(x:Nat):Prop:=aJ2
structure aWZ(mask k:Nat)(c0:aQ)(g:PU)(n:Nat):Prop where
 size:N7=cA+1
 le:n<=lP
 val:aP j i (QX->i<n)
 all:nR (∃j:Nat,QX)
 inj:∀(j f i:Nat),QX->K g f xv->j=f
 G2:∀(j i:Nat)h,QX->A c0 h->Uv cA k (LY g) h j
theorem aW0{mask k:Nat}{c0:aQ}{g:PU}{n:Nat}(I:g3 g n)(d1:n<=cA):z j (j<=cA) (aa g ae):=by rw[anB,bv ex (j<=cA) (∃i,QX) (by rw[z j4 (j<N7) Wc (aD4 bF)];cases q:g[j]with|none=>{rw[dT (v j b8 ag) f6]}|some i=>simp[*])];let f:cD:=iX (eU (DS j ae) 0);rw[bv p (j<=cA) (aa g (aa (f j))) (by rw[wt (ex j b8)];have:f j=i:=eN f hi;rw[J this hi])];have nd:c8 (ch (cA+1) f):=by{rw[J2,h8 WW,rk e];simp at b3 U;have t:=p a amq;rw[e]at t;exact ne (I.inj a b _ t (p b amq))};have:=afN nd (m:=eK n) (aL (by rw[a7 j b8 S];simp at b8;have:=W2 j _ (p j amq);rw[gj]));rw[uu];exact gy d1 this
theorem aW1{mask k:Nat}(c3:anz){c0:aQ}{g:PU}{n:Nat}(I:g3 g n)(d1:n<=cA){h:Int}(c7:K c0 n h):z j (aD3 cA g (Il cA) yr (Im h)=aa j) (g3 aIP (n+1)):=by revert c3 I d1 c7;revert mask k c0 g n h;refine aa1;rw[n mask k c0 g n h];intro c3 I d1 c7;rw[gA a7 (aW0 I d1)];obtain⟨m,j,c4,b8,H,W⟩:=(axU cA k c3 g (Il cA) I7 yr (Im h) (cG Il (cU Io)) (v e (aWX (t:=rl cA) c3 (aWY h) a0) (by have h2:e<N7:=(Array.getElem?_eq_some_iff.mp a7).1;rw[lN h2]at a7;simp[Wb,h2,cZ a7])));rw[ak j W,dE j4 (j<N7),cb o (aa g ae)];have get:∀x,(aIP)[x]?=aw (x=j) (aa n) g[x]?:=ab (by rw[Array.getElem?_setIfInBounds];rw[b2 x j];{rw[aJ CX,aJ e,aJ j4]};{rw[c_ (hx e) e]});have d:E x (LY g x) (LY aIP x):=aL (by delta LY at S⊢;rw[iS j,a_,ay]);rw[r (ar Wc) (bz) (fun x i S=>?_) an' (fun x y i S b6=>?_) (fun x i h' S a=>?_)];{rw[get]at S;split at S;rw[ay,cc (W2 x i S) (wk bF)]};{rw[T i n,l ⟨j,cz get cO q⟩,T x S (I.all i (cz hi q)) x (ac get (fg (by rw[b4 o S];cases S)) S)]};{rw[get]at S b6;split at S;{next q=>split at b6;rw[l (ahY bF E4)];{rw[pV];have:=W2 y _ b6;simp_all}};{split at b6;{cases b6;have:=W2 x _ S;simp_all};rw[l (I.inj x y i S b6)]}};{rw[get]at S;split at S;{next q=>rw[pV];rw[c7]at a;cases a;rw[aa m (t q c4) (fun f7 y Z b6=>d y (H f7 y Z b6))]};rw[l (bN (I.G2 x i h' S a) d)]}
theorem aW2{mask k:Nat}(c3:anz){c0:aQ}(a5:lP<=cA):z g (layClean cA aD5=aa g) (g3 g lP):=by have init:g3 (Array.replicate (cA+1) ae) 0:=by{rw[r aT cS (fun j i h=>?_) (j6 ai) (fun j f i h=>?_) (fun j i h q=>?_),cL,cL];grind-abstractProof};have b:∀(m pre:aQ)(g:PU),pre++m=c0->g3 g DT->z a (m.foldl (fun(B:bY (fv (bY Nat)×Nat))(h:Int)=>do{let(g,k)<-B;let j<-layClean.free mask g (turns mask) (bits h%(mask+1)) (bits h);pure (g.setIfInBounds j (some k),k+1)}) (aa (g,DT))=aa (a,lP)) (g3 a lP):=by{intro m;induction m with|nil=>{grind-abstractProof}|cons h J d6=>intro pre g e I;have c7:K c0 DT h:=by{rw[xN];simp};have d5:DT<=cA:=by{grind-abstractProof};rw[gH K (aW1 c3 I d5 c7),ae b9 ((pre++[h])++J) c0];have:=d6 (pre++[h]) (a4w j (aa DT)) b9 (aI K);simp_all};rw[eq g I (b c0 [] _ rfl init),cs g I];delta layClean;rw[List.foldl_toArray];grind-abstractProof
theorem aW3{f:df (bY fB)}(W:bev):∀{l:ao},Jz->eT (gZ (Ml f)) (· < ·)|[],_=>bB|a::l,s=>cq
theorem axV{t:SetTable}:nm (p.j+i_<=df) (aL hP (x<=df))|0,p,_,x,h=>kq dI|J+1,p,c2,x,h=>by simp only[dI,hF]at h;rw[eT h];{rw[a4 oM,en]};{refine axV J _ ?_ x h;show FP+(kG df FP-FP)<=df;have l:FP<df+1:=by{delta tr;exact VY _ p_};delta kG;rw[am0]}
theorem aW4{mask k:Nat}{h:Int}:aL (vE cA k h) (x<=cA):=by delta vE;refine axV (t:=rl cA) _ _ ?_;show yr+(kG cA yr-yr)<=cA;have l:yr<cA+1:=VY _ p_;delta kG;rw[am0]
theorem aW5{mask k:Nat}(c3:anz){c0:aQ}(a5:lP<=cA)(finger moves:Nat)(led plain:Bool):∃t B,laid cA finger moves led plain aD5=aa (t,B)/\yo/\iM lO/\df=cA/\DU=led/\Ip=plain/\ri=lP/\B.size=lP/\a4z (eK lP)/\∀(p s i:Nat)h,i (K lO p s) (K B p i) (A c0 h) (Ac (ab (x∈zU))):=by rw[eq g I (aW2 c3 a5)];have d8:∀j,DS j ae=eU g[j]? ae:=iX aT;let f:df (bY fB):=iX (B (DS j ae) (j,·));let c:=i_ (cA+1) f;have W:bev:=fun j x e=>by{rw[kA f a4y,en]};have mem:∀j i,(j,i)∈c↔QX:=by{intro j i;simp only[c,a25];constructor;{rw[iM b U];have b4:=W b _ e;simp only at b4;rw[kA f a4y];obtain⟨n8,R,b9⟩:=e;grind-abstractProof};{rw[eE,fd j4 (j<N7),ak j (by rw[Wc]at j4;simpa using j4)];grind-abstractProof}};have rise:eT (DE fN) (· < ·):=aW3 W a2';have d:c8 (DE fN):=rise.imp (y4 (gF h));have k2:c.Nodup:=by{rw[VQ]at d⊢;rw[Nl]at d;exact d.imp (ws (h (by rw[e])))};have l:eQ (DE eX) (eK lP):=by{rw[HF (by rw[J2,h8 k2];rintro⟨a,i⟩⟨b,n8⟩⟨b3,U,ne⟩e;simp only at e;rw[b_];exact ne (iQ (I.inj a b i (x (mem a i) b3) (x (mem b i) U)))) WW]at⊢;intro i;rw[fK];constructor;{rintro⟨⟨j,n8⟩,h,rfl⟩;have:=W2 j n8 (x (mem j n8) h);rw[gj]};{rw[eE,iK b8 (I.all i ai)];exact bp (j,i) (ae (mem j i) b8)}};rw[ch len gg lP l.length_eq,c (a cA (hC (DE fN)) #[] finger led moves plain) (hC (DE eX)) ?_ (aP c3 ai) (by delta iM;simpa using rise) rfl rfl (a2 ai ai eO)];{delta laid;rw[d0];rfl};{intro p s i h c2 e0 c7;simp only[a4x]at c2 e0;rw[cz]at c2 e0;cases e:c[p]? with|none=>{simp_all}|some x=>rw[e]at c2 e0;simp at c2 e0;rw[iK n8 x];simp at c2 e0;subst c2;subst e0;obtain⟨n,a7,H⟩:=I.G2 _ _ h (x (mem _ _) (bM e)) c7;rw[aa n a7 (fun f7 x Z G=>?_)];have S:=H f7 x Z G;have o:x<N7:=by{rw[Wc];have:=aW4 x (bM G);exact aD4 bF};unfold LY at S;simp only[fK];rw[Array.getD_eq_getD_getElem?,lN o]at S;cases v:g[x]with|none=>{simp_all}|some N=>exact bp (x,N) (ae (mem x N) ai)}
theorem axW(n:Nat):aP r s (n<2^(s+r)->∃c1,a4A n r (2^s)=2^c1/\s<=c1/\n<2^c1/\(2^c1=2^s\/2^c1<=2*n))|0,s,h=>aC s aY bB gn|r+1,s,h=>by simp only[a4A];by_cases q:2^s<=n;{rw[aJ q,show 2^s*2=2^(s+1)by rw[HW]];obtain⟨c1,e,l,g,b⟩:=axW n r (s+1) cq;grind-abstractProof};grind-abstractProof
theorem aW6{n:Nat}(h:n<2^60):∃s,sizeAbove n=2^s/\3<=s/\n<2^s/\(2^s=8\/2^s<=2*n):=by delta sizeAbove;have:=axW n 64 3 (fJ h ax);exact this
structure TI(t:SetTable)(k:Nat)(a7:cT):Prop where
 ok:yo
 rise:iM lO
 size:ck=ri
 room:ri*5<df*3
 least:7<=df
 G2:db (K lO p s) Yf df (ab (x∈zU))
theorem aW7(finger moves:Nat)(led:Bool):TI (SetTable.fresh finger moves led) 3 #[]:=by rw[y (ii cS) (cG iM .nil) (gJ (0*5<7*3)) ⟨aCb 7,fun p s e h=>bB⟩]
theorem aW8{t:SetTable}{k:Nat}{a7:cT}(T:Km){h:Int}{n j:Nat}(d1:zM h)(b8:Jf)(H:BG (i1 h x)){p:Nat}{e:akN}(a0:Yf)(f:e.1=h):∃m s,m<n/\i1 h s/\zT s= .live p:=by revert T d1 b8 H a0 f;revert t k a7 h n j p e;refine Kq;generalize aF=t,az=k,aE=a7,aD=h,aB=n,aA=j,aG=p,aH=e;intro T d1 b8 H a0 f;have c2:=lN (by rw[al (iq p ck),k1 Iq q];simp_all);rw[bY D i7 (T.G2 p _ e c2 a0)];rw[f]at D i7;have sl:=ae (afQ zV N8) c2;rw[j m _ ?_ D sl,fj m n,iB,ay,cc (i7 n j q d1) (cy this (x (afR zV N8) b8))]
theorem aW9{t:SetTable}{k:Nat}{a7:cT}(T:Km){h:Int}{v:Value}{n j:Nat}(d1:zM h)(b8:Jf)(H:BG (i1 h x)):let t':=Jd;let D:=a9O;WZ=df/\axO t' k/\iM t'.place/\aDC=a4D/\w1 (h,v)/\a4D=ri+1/\(db (K t'.place p s) (K D p e) WZ (ab (x∈aD6))):=by intro t' D;have P:=aWV zV N8 b8;rw[cb (LX N8 j)];have room:=T.room;have b4:D.toList=ajA fA++a9U:=by{show pB a9O=_;rw[P.1];exact afS a7 _ _ (t Iq b.1)};have b9:aD6=a4B fA++j::t.place.toList.drop fA:=by{rw[J (aS P.2) (afS _ _ _ b.1)]};have a:E x (x∈zU) (x∈aD6):=aL (by rw[b9];rw[<-DA fA zU]at S;grind-abstractProof);have e8:aDC=ck+1:=by{have:D.toList.length=a7.toList.length+1:=by{rw[b4,cj,ie,<-aDQ,<-cj,DA]};rw[gj]};rw[j P.2.1 (v (t (a0 WZ df P.2.1) T.ok.mask) (aS P) cq) (cr P) (by rw[e8,Iq];grind-abstractProof) (v ?_ (a2 P.2) (fun p s e c2 a0=>?_))];{rw[b4];have e9:(ajA fA++a9U).Perm ((h,v)::(ajA fA++a4C fA)):=aCH;rw[DA]at e9;exact e9.trans (bt (List.perm_append_singleton _ _))};{rw[a0 WZ df P.2.1];rw[<-pC]at c2 a0;rw[b9]at c2;rw[b4]at a0;rw[ae m9 (t (a4B fA)) fA];have c:t (ajA fA)=fA:=by{simp;have:=Iq;simp[*]};rw[fj p fA];{rw[hD ag,sX q,pC]at c2 a0;exact GE p};{rw[pj ag,m9,q,zE]at c2;rw[pj ag,c,q,zE]at a0;simp at c2 a0;subst c2;subst a0;rw[aa n d1 (fun m x c4 S=>a x (qN (fun f6=>H m x c4 S (ae (afR zV N8) f6))))]};{obtain⟨u,rfl⟩:∃u,p=fA+(u+1):=⟨p-fA-1,bj (Mq (VP q)) (Nat.add_sub_cancel' (ey q))⟩;rw[p5 m9 c2,p5 c a0];simp at c2 a0;exact GE _}}
theorem axX{I d:Type}{f:aHt}{g:Fp}:∀{l:ba},bk l (f x=aa (g x))->Ml f=kA g|[],_=>rfl|x::l,h=>cz (a0V (h x bJ)) c_ (axX aI8)
theorem aW_{t:SetTable}{a7:cT}(c6:0<ck)(n1:ck<=50000):∃d8 B f7,t.relaid (a7.map fN) (ajB ck)=aa (d8,B)/\(QK).size=ck/\TI d8 f7 QK/\(QK).toList.Perm lQ/\d8.led=DU/\d8.plain=Ip/\SetTable.sizeAbove (ajB ck)<=8*ck:=by revert c6 n1;revert t a7;refine Kp;rw[bW t a7];intro c6 n1;have b:ajB ck=ck*4:=by{delta ajB;rw[kb]};obtain⟨s,e,l3,c,M⟩:=aW6 (n:=ck*4) (ff (Nat.mul_le_mul_right 4 n1) ax);have a:8<=2^s:=by{have:cf 2^3<=2^s:=Nat.pow_le_pow_right ax l3;exact this};have c3:(2^s-1)+1=2^s:=Mq (cn ax a);let c0:=Mn fN;have a5:lP<=2^s-1:=by{simp[c0];exact cf c Io};obtain⟨d8,B,a3,Y,R,e1,ld,pn,c5,os,l,G2⟩:=aW5 c3 a5 t.finger (t.movedTo (2^s-1)) DU Ip;rw[bM d aD5 (a7.map fN)];let g:df akN:=dJ (eU a7[i]? (0,CL));rw[dy c4 (∀i∈W3,A a7 (g i)) bz,S k (QK).toList (B.toList.map g) Array.toList_filterMap (axX c4)];have e8:(QK).size=ck:=by{have:(QK).toList.length=ck:=bz;trivial};rw[b d8 B s ?_ e8 (a Y R bz ?_ (aw ?_)) ?_ ld (aw pn)];{delta SetTable.relaid;simp_all};rw[dX,l (hq a Io e1.g)];{intro p q x c2 S;rw[e1];have d5:p<B.size:=by{grind};have xe:x=g B[p]:=by{rw[<-pC,k,cz,pC,(lN d5)]at S;simp_all};have c7:K c0 B[p] x.1:=by{simp only[c0,cz];rw[pC,(c4 B[p] aT),xe];rfl};grind};{rw[k];have e9:=kA g;have b9:ch lP g=lQ:=by{refine NH (fun i=>?_);rw[cz];rw[cY (iq i ck)];{rw[da (hJ c0 z)];simp[g,z]};{rw[zI (hJ c0 z),zI eO];rfl}};rw[b9]at e9;exact e9};{rw[b,e];lia}
theorem aW'{t:SetTable}(h:t.tooFull=ah)(d:a9j):ri*5<df*3:=by delta SetTable.tooFull aD7 at h;simp_all
noncomputable def hashOf(a7:cT)(i:Nat):Int:=eU (a7[i]?.map fN) 0
section z
variable{prog:Program}{w:World}{K:Type} [wm K]{d:ZZ}{A:Around}{E:aU}{s:Shared}
theorem LZ{t:SetTable}{k:Nat}{a7:cT}(T:Km):t.fits ck=ab:=by delta a4E aD7;rw[T.ok.G1];have:=T.ok.fill;simp[Iq];exact this
theorem aXa{t:SetTable}{k:Nat}{a7:cT}(T:Km):t.gaveWay=ah:=by delta SetTable.gaveWay;rw[bT T.ok.mask,cd T.least];cases k with|zero=>{simp at m;simp_all}|succ k=>rw[HW]at m;have:df%2=1:=fp;rw[tX]
def Holds(d:ZZ)(h:Heap)(a7:cT):Prop:=bk p e (Yf->∃O b,e.2=cV/\zW h O b/\e.1=a4F O)
theorem aXb{F:K}{xa:Addr}(S:aKo)(y:aM4):∀(l:aM){Q:nK},V v l (Id cV)->Ya->bl (a4H YK l):=by intro l Q a5 h;delta a4H;rw[md,mp (Id (dm b)) a5];{rw[vm g];obtain⟨O,b,rfl,U⟩:=g v fx;have h8:=m6 (g u (ck hu));rw[T xa b];{rw[e_,i9 aCr aB8];exact cg (ii h8)};{rw[aI c4 (xa==b) ah (bj bF)];simp only[c4,aB7];have e:a4G (dm xa)=ah:=rfl;simp only[e,ag4,Dg,iV];rw[C (d.quiet S ?_),rW,C (d.quiet U ?_),rW,C (y S ?_),uE,C (y U ?_),uE];exact cg (ii h8)}};rw[ap_]
universe z
section z
variable{prog:Program}{w:World}{K:Type} [wm K]{d:ZZ}{A:Around}{E:aU}{s:Shared}
theorem axY{a:Addr}{o:Obj}{a7:cT}{e1:Nat}{t:SetTable}{k:Nat}(d0:gK a)(hd:gE=RE)(T:Km)(hE:Ir d bh a7){F:K}{xa:Addr}(S:aKo)(room:d.room A)(y:aM4){Q:dE SetFound}(L:aP n j (c (zM kM) Jf (BG (i1 kM x)) (bfO) (Q (.free j ah) s)))(a9:KX (Q (.there ae) s)):∀(r J c:Nat)(a6:bY Ik)(p:Probe),b (a6.getD (N5 kM)) p (p.dummy=ae) (hP=dh (vE df k kM) c) (bd hP (10*Il df)) (i (aJf) (z6 hP<r) (II c) (bl (setSearchFrom a YK kM ab r a6)))|0,J,c,a6,p,c0,b4,c2,a5,a0,b0,U=>ai|r+1,J,c,a6,p,c0,b4,c2,a5,a0,b0,U=>by have nd:=afM zV;rw[aKW];dsimp only;rw[aXa T,OC,c0];obtain⟨b1,b5⟩:=axM t (W4 a7) kM nd (10*Il df) J p a5 a0;generalize e0:t.probe _ kM p=q;rw[br eq (q=aa b1) e0 b5];subst eq;dsimp only;obtain⟨n,j,d1,b6,c4⟩:=axS t (W4 a7) kM nd _ J p b1 b4 b5 a0;rw[c2,DB]at d1;have b8:bk i e (A a7 e->W4 a7 i=e.1):=fun i e h=>by{unfold hashOf;rw[h];rfl};have a8:II (c+n):=by{intro m x Z G;rw[al (iq m c),l (U m x q G)];{obtain⟨i,hi,R⟩:=b6 (m-c) x (bn (aR q) Z) (by rw[c2,DB,mu (c+(m-c)) m];exact G);rw[aa i hi (fun e b V f7 c3=>?_),Y b2 g Y c7 (hE i e V)];rw[f7]at g;rw[ub];have:=d.inj c3 Y;rw[gq];rw[b8 i e V,c7]at R;exact R rfl}};rcases c4 with⟨rfl,b7⟩|⟨i,q,rfl,l,b9,k4,B,I⟩;{dsimp only;rw[oe];refine L (c+n) j d1 b7 (fun m x Z G=>?_) (fun u e b V f7 c3=>?_);{rw[bcs];rw[hi];rw[tP];cases z};{rw[Y b2 g Y c7 (hE u e V)];rw[f7]at g;rw[ub];have:=d.inj c3 Y;rw[gq];obtain⟨m,x,Z,G,c6⟩:=aW8 T d1 b7 (fun m x Z G=>by rw[bcs];rw[hi];rw[tP];cases z) V c7;obtain⟨i,hi,c5⟩:=a8 m x Z G;rw[c6]at hi;rw[a4 hi (c5 e b V f7 c3)]}};{have H:=x (afQ zV N8) l;rw[cZ X (i<ck) Iq ri];have P:=lN X;rw[Y b f7 c3 c7 (hE i _ P)];dsimp only;rw[bC led DU];(case' pos=>rw[led,a4I,OC]);(case' neg=>rw[Wo led,ajC,cO];rw[C (aXb S y _ (lC (by rw[a7 e V d3,cb D (e∈lQ),bY Z c8 (ig D)];obtain⟨b3,b2,g,Y,_⟩:=hE m e (by rw[<-pC,da Z,c8]);exact d b3 b2 g Y)) ?_),uE]);all_goals rw[P];dsimp only;rw[f7];rw[C (vZ (d.eqBool room c3 S ?_)),C (iV (LZ T) ?_)];dsimp only;rw[N c1 O F];{subst c1;rw[aJ (g7 (ab&&ar O O) (dH rfl))];exact cg (a9 (c i _ b P f7 c3))};{rw[ec c1,ag7,OC];have sm:t.sameMemory t.moves df=aa ab:=by{unfold SetTable.sameMemory;simp};rw[sm];dsimp only;rw[cO,l];dsimp only;rw[P];dsimp only;rw[f7];rw[C (wpAny_isSame_ref_self ?_),Qe];rw[cO];refine axY d0 hd T hE S room y L a9 r B (c+n+1) (aa q) q rfl k4 ?_ ?_ ?_ ?_ ?_;{rw[I,c2,HZ];rw[dY]};{rw[I];simp;exact cU a5};{rw[I];rw[bI M a3 a0,bY Z D (ig M)];have W:n<m:=by{rw[ad m n z z z];{obtain⟨N,p4,_⟩:=b6 m f z (bj (da Z) D);rw[p4]at a3;cases a3};{rw[rD];have:ap hP m j:=ag;rw[bY (da Z) D,ny];rw[l]at a3;cases a3};rw[l z]};rw[cs f a3];rw[a3l];exact⟨m-(n+1),by rw[DB,l (n+1+(m-(n+1))) m m (n+1) W m (n+1),da Z,D]⟩};{rw[co j2 aJb,aO d6 n (t hP) (bx bF)];have e8:hP=an hP n++j::aKd:=by{have C:(hP)[n]=j:=by{rw[dd d6 j2];exact cZ j2};rw[<-C];simp};have lt:z6 aKd<z6 hP:=by{conv=>{rhs;rw[e8]};delta WX;rw[DR,ah9 (by simp only[l,b9];simp)];simp;exact tF};rw[J I (cf lt b0)]};{intro m x Z G;rw[cY (qU (HI Z)),l (a8 m x z G)];{rw[b4 d1 G];cases G;rw[aa i l (fun e e2 V a4 f5=>?_)];rw[P]at V;cases V;rw[f7]at a4;cases a4;exact c1 (d.inj c3 f5)}}}}
universe z
section z
variable{prog:Program}{w:World}{K:Type} [wm K]{d:ZZ}{A:Around}{E:aU}{s:Shared}
def Uw(d:ZZ)(h:Heap)(a:Addr)(a7:cT):Prop:=∃o e1 t k,pT/\o.ExactSet/\gE=RE/\Km/\aIC/\Ip=ab/\(DU=ab\/Pd)
theorem Holds.perm{h:Heap}{a7 D:cT}(H:aIC)(p:a4J lQ):Ir d h D:=fun i e a0=>by rw[a_Y,gH C (ig m)];exact H j e (a4s (WY ⟨b8,C⟩))
theorem Holds.push{h:Heap}{a7 D:cT}(H:aIC){F:K}{xa:Addr}(S:zW h F xa)(p:w1 ape):Ir d h D:=fun i e a0=>by rw[a_Y,iO m];{have⟨j,b8,C⟩:=ig m;exact H j e bz};{rw[fU]}
theorem axZ{h:Heap}{a:Addr}{o:Obj}{a7:cT}{e1:Nat}{t:SetTable}(d0:pT)(hd:gE=RE)(D:cT)(t':SetTable):dk (h.update a (N9 D t')) a=aa {o with data:= .set D (e1+1) t'}:=l8 (C_ (N9 D t') d0 (dd bcJ)) bcJ
theorem aXc{a:Addr}{a7:cT}{F:K}{xa:Addr}{Q:nK}(b2:Uw d bh a a7)(S:aKo)(room:d.room A)(z:ck<9000)(y:aM4)(X:∀{Q:nK},Y8->bl (aD9 8 YK))(keep:∀{h h':Heap}{O:K}{b:Addr}{o:Obj}{a7:cT}{e1:Nat}{t:SetTable},c (zW h O b) pT (gE=RE) (Hn a h h') (zW h' O b))(b5:KX Ya)(I:(bfO)->∀(h':Heap)(D:cT),i (pg a) (Uw d h' a D) (w1 ape) (Q ab tJ)):bl (a4N a YK kM):=by rw[Le b2];delta a4N;refine EJ;unfold setAddHashedIn;rw[aKW];dsimp only;have a5:byScan YK a7=ah:=rfl;rw[a5];rw[uE];have f:=aWU (t:=t) (h:=kM);have C:=aWW t k kM;delta setSearch;rw[md];refine axY d0 hd T hE S room y ?_ ?_ 100000 I7 0 ae (N5 kM) rfl f.2.2 (dd C) (aWO zV f.2.1) (aWN zV f.1) ?_ (fun m x c4=>ai);{intro n j d1 b8 H f6;dsimp only;rw[aKW];dsimp only;have P:=aW9 T (v:=dm xa) d1 b8 H;simp only at P;have V:(Jd).plain=ab:=d5.1;have d3:(Jd).led=ab\/Pd:=d5.2;obtain⟨g9,l,Y,J,r,b7,Z⟩:=P;rw[ch N (N6 a7 aGj ape).size (ck+1) r.length_eq];generalize c0:aD8 j=L at*;rw[kx e9 L];dsimp only at*;rw[V];rw[cO];rw[C (X ?_)];rw[cO];generalize c1:N6 a7 e9 ape=c at*;rw[z f3 (a1 W5) wg (cf N.l z),C (a4L d0 hd ?_ f3),f3 (axZ d0 hd c W)];have v:=a4K bh a (N9 c W);have j0:zW Yz F xa:=eo S d0 hd v;have R:Ir d Yz c:=by{rw[a1 (Ir d Yz a7) (hE i e a0) d0 hd v];exact b1.push j0 r};cases a4:W.tooFull with|false=>{simp only[ajC,ag7,Dg,iV];rw[oe];refine I f6 _ c v (a _ (e1+1) W k g hex rfl (c l Y J (aW' a4 l.G1) (t g9 T.least) Z) (v R V d3)) r}|true=>rw[i9 ajC Bool.and_self,md];delta setRelay;have a8:W.fits W5=ab:=by{delta a4E aD7;rw[l.G1,J];have:=l.fill;simp;exact this};rw[C (a4M g rfl a8 ?_)];dsimp only;rw[co c6 (0<W5)];obtain⟨d8,B,f7,a6,G,a9,U,b0,b3,M⟩:=aW_ (t:=W) c6 (bn N.l z);rw[aI a3 (ck+1) W5 E4];rw[a3];rw[aO (by rw[wg];lia-abstractProof)];rw[a6];rw[md];change am (do{let D:=B.filterMap (c[·]?);if D.size !=c.size then{unsupported "internal:set-table-lost-an-element"};pure (D,d8)}) _ _ _;dsimp only;have f5:((Ys).size !=W5)=ah:=by{rw[G];simp};rw[f5];rw[uE,oe];dsimp only;refine a4L g rfl ?_ (t G f3);rw[oe];have u:=axZ g rfl Ys d8;rw[cN (a4K Yz a (N9 Ys d8))];have b6:H9 Ys:=by{rw[a1 (H9 c) (R i e a0) g rfl q];exact b1.perm U};exact I f6 _ _ (v.trans q) (a _ _ d8 f7 u hex rfl a9 (ap b6 (t b3 V) b0 d3)) (ajD r)};{rw[eE];dsimp only;exact cg (b5 h)};{have:=aWT zV f.1 f.2.1 (W4 a7) kM;have:=Iq;rw[en]}
universe z
section z
variable{prog:Program}{w:World}{A:Around}{E:aU}{s:Shared}
noncomputable abbrev tupK(prog:Program)(w:World):aD_ cN w aQ:=U9 (aA8 cN w)
theorem items_int{K:aQ}{vs:aM}(q:aB_ (aA8 cN w) K vs)(v:Value)(h:v∈vs):a7L:=by induction q with|nil=>{exact i0 (oX h)}|cons c3 J i=>rw[jJ (ic h) rfl];{rw[cl u (aA7 c3)];exact aw u e};rw[l (i h)]
theorem ax0{h h':Heap}{K:aQ}{b:Addr}(x:n1 h)(keep:E o mh hc):n1 h':=by obtain⟨o,f,n,d0,c,d,i⟩:=x;exact a o f n (eo o d0) c d i
theorem ax1{h h':Heap}{K:aQ}{a b:Addr}{o:Obj}{a7:cT}{e1:Nat}{t:SetTable}(x:n1 h)(d0:pT)(hd:gE=RE)(sb:Hn a h h'):n1 h':=by obtain⟨N,f,n,U,c,d,i⟩:=x;exact a N f n (t (sb.2 b (an ai)) U) c d i
theorem aXd{K:aQ}{b:Addr}{Q:nK}(x:n1 bh)(h:Ya):a7m:=by have⟨o,f,n,d0,c,d,hi⟩:=x;unfold ofAClassStatement;rw[w4 (a4P x)];dsimp only;rw[aJ ax];rw[Qe,rW,bay,md,Jx,bbd];{rw[vm all,bc1,ab f5 (a4O 7 (W6 i u)) (eU ah)];rw[f5];rw[Qe,uE];exact bac};rw[ap_]
theorem aXe{K:aQ}{b:Addr}{Q:nK}(x:n1 bh)(h:Y8):bl (aD9 8 cV):=by have⟨o,f,n,d0,c,d,hi⟩:=x;rw[C (wq (a4P x) aD' ?_),bay,md,Jx,bbd];{rw[vm all,bc1,ab f5 (aD9 7 (W6 i u)) (eU ab)];rw[f5];rw[Qe,rW];exact bac};rw[ap_]
universe z
theorem aXf{I d:Type}{R:qs}{a B:ba}(p:B.Perm a):∀{b:nU},dD R a b->z b2 (dD R B b2) (b2.Perm b):=by induction p with|nil=>{rw[dt b];exact v b h amj}|cons x _ d6=>{rw[dt b];cases h with|cons J t=>rw[aJ b2 h' (d6 t)];exact v (_::b2) (.cons J h') (q.cons _)}|swap x y l=>{rw[dt b];cases h with|cons J t=>cases t with|cons r2 d8=>exact v (_::_::_) (ee r2 J d8) (.swap _ _ _)}|trans _ _ c i=>rw[dt b,ci h2 a3 (i h),df e2 q2 (c a3)];exact v e2 a9 (q2.trans d2)
theorem ax2{I d:Type}{R:qs}:∀{l:ba}{m:nU}{i:Nat}{a:I},f1 R->Zi->z b aod (R a b)|_,_,_,_,.nil,h=>bB|_,_,0,_,.cons J _,h=>ai|_,_,i+1,a,.cons _ t,h=>by rw[bG e f (ax2 (i:=i) t kI)];exact v b bB f
theorem ax3{I d:Type}{R:qs}:∀{l:ba}{m:nU}{i:Nat}{b:d},f1 R->aod->z a Zi (R a b)|_,_,_,_,.nil,h=>bB|_,_,0,_,.cons J _,h=>ai|_,_,i+1,b,.cons _ t,h=>by rw[ak e f (ax3 (i:=i) t kI)];exact v a bB f
theorem aXg{I d:Type}{R:qs}{a:I}{b:d}(J:R a b){l:ba}{m:nU}(h:f1 R):dD R (l++[a]) (m++[b]):=by induction h with|nil=>{exact hw J}|cons q t i=>rw[cE q i]
section z
variable{prog:Program}{w:World}{A:Around}
def afT(prog:Program)(w:World)(h:Heap)(a7:cT)(l:fC):Prop:=hm h lQ l
structure Got(prog:Program)(w:World)(h:Heap)(r:Addr)(K:fC)(a7:cT)(l:fC):Prop where
 set:At h
 keys:BY h
 nd:zA
 mem:gY l K
theorem Uw.qz{h h':Heap}{r:Addr}{a7:cT}(H:At h)(keep:bd a7S mh hc):At h':=by revert H keep;revert prog w h h' r a7;refine aa1;rw[n prog w h h' r a7];intro H eo;rw[Le H,b o e1 t k (eo r o gn d0) hex hd T ⟨fun p e a0=>?_,d5⟩,Y b b4 b9 e7 (hE p e a0)];exact a O b b4 (E1 (.inr (v e (bM (i:=p) ag) b4))) e7
theorem afT.qz{h h':Heap}{a7:cT}{l:fC}(H:BY h)(keep:bd (v9 lQ) mh hc):BY h':=by revert H keep;revert prog w h h' a7 l;refine aa1;rw[n prog w h h' a7 l];intro H eo;delta afT at H⊢;generalize a7.toList=O at*;induction H with|nil=>{rw[kP]}|cons J t d6=>rw[bG b4 b9 J];exact .cons (v b b4 (E1 (aw fx b4))) (d6 (E3 (eo b o (v e (ck a0) q))))
variable{R:Qh}{I:Addr}{a8 d:bg}{G:au (fv Vd) (fv Vd)}{n:Nat}{P:au Nat cR}{St:dE Nat}
theorem aXh(W:WalksS cN w kC I a8 d G n P St)(r:Addr)(g:r∉a8)(K:fC)(ad:df eh)(E:aEb=n)(a5:j i v (P i v) (v= .ref (ad i)))(d1:Cl K)(hu:J0)(V:nR (ad i∉d)):∀(c i:Nat)(s:Shared)(a7:cT)(l:fC),b (n-i) c Qn (St i s) (Got cN w bh r (K.take i) a7 l) (i (ex lQ (j<n) (ad j)) (bb5) (∀c1 D i1,i (Moved (r::d) G s c1) (Got cN w mH r K D i1) (ex D.toList (j<n) (ad j)) (eW .none c1)) (l9 "set.update.loop" (eb [uq,pL]))):=by revert W g E a5 d1 hu V;revert prog w A R I a8 d G n P St r K ad;refine@mn _ _ _ _ _ _ _ _ _ _ _ _ _ _ ?_;generalize qf=prog,qg=w,qh=A,qi=R,qj=I,qk=a8,ql=d,qm=G,qp=n,qq=P,qt=St,qu=r;refine Kp;rw[bW K ad];intro W g E a5 d1 hu V;have d4:=ah (g (W.sub _ q));have wide:fZ d (r::d):=fun b q=>ck q;intro c;induction c with|zero=>{rw[biR];have f5:i=n:=by{exact mS (cU hi) (cf Po b0.l)};subst f5;rw[l3 a4Q,h6 aEd,C (ajG s _ _ z (fun c1 c4=>?_)),bib,jG (hR c1 a7 l (aEe wide) (a2 a8f bcK ajE) a)];intro x;rw[W7 x,<-E,H9]}|succ c d6=>rw[biR,b4 X (i<n) (cf (aR hi) b0.g),l3 a4Q,h6 aEd,C (aEc i s _ _ X z (fun v c1 C T c4=>?_))];have B:=a5 i v C;subst B;rw[bib];have H:=a8f;have Y:=bcK;have c9:∀{j:Nat}{O:aQ},aa K O->j<n:=fun{j O}h=>by{rw[al (iq j aEb),ay,yQ (zI q)]};have a6:=fun j O h=>kv (b9 j O h) (aEa _ o (V j (c9 h)) d0);obtain⟨F,c0⟩:∃F,A K F:=aW (da ag);have S:=a6 i F c0;rw[C EJ];delta setAdd;refine vZ (bE ((hM).pyHash (A:=kC) bcl S ?_));have c6:K.take (i+1)=K.take i++[F]:=by{rw[DV,c0];rfl};refine aXc (d:=ajF cN w) (s:={c1 with toks:=ahr+(hM).draws F}) H S bcl (by have a3:=Mu hG.keys;rw[ep (d1 l ajE (aL (qZ (x (W7 x) S))))];simp at a3;simp[*]) (fun x h=>aXd x h) (c_ (aXe S h)) (fun x d0 hd sb=>ax1 x d0 hd sb) (fun b5=>?_) (fun f6 h' D sb J b3=>?_);{rw[c a7 l (gE (hq (aI n (i+1) X) Po b0.l) (hq b0.g (aI n i hi) (aS n (i+1)))) mH (th e) H Y ajE a a6 (jE e)];rw[W7 x,c6];simp only[hF,N_];constructor;rw[l .inl];{rintro(q|rfl);rw[l q];{obtain⟨p,e,b,a0,f7,U⟩:=b5;rw[IG (t pC a0)];rw[f7]at a4;cases a4;have:=(hM).inj U c5;rw[gq];exact x (W7 _) (bM c3)}}};{have c7:bd (v9 bae) Pf hc:=fun b o U d0=>t (sb.2 b (by rw[fT,e_,biw,aJ e a0 U];have L:∃O,(hM).is mH O b:=by{rcases Nk a0 with a0|a0;{rw[ig Q (ig a0),IG a_1];rw[q]at a4;cases a4;exact⟨O,c5⟩};rw[dX]};obtain⟨O,N,f,m,Z,_,c8,_⟩:=L;rw[u]at Z;cases Z;rw[hd]at c8;cases c8)) d0;have d2:hm h' bae (l++[F]):=by{refine aXg (aP (ad i) (kv S (c7 _ o (bm (qP _ (List.mem_singleton.mpr rfl))) d0))) (Y.qz (E3 (c7 b o (v e (vU _ a0) q))))};obtain⟨i1,d3,d5⟩:=aXf b3 d2;have nx:F∉l:=ah (by rw[ig Q (ig q)];obtain⟨e,a0,b,f7,U⟩:=ax3 Y (i:=p) a_1;exact f6 p e b (bl pC a0) f7 U);rw[c D i1 bL h' (fun b U o e=>?_) J d3 (by refine d5.nodup_iff.mpr ?_;rw[ah0];exact v ajE aT (fun x d7 y b6 e=>ai)) (f8 (by rw[al (Nk (b3.mem_iff.mp a0)),l (a e q),zv (bp i X)])) (fun j O h=>by rw[biw];exact ax1 (a6 j O h) u hd sb) a9G,Z (sb.2 b (fun q:b=r=>g (bl q U))) e];{rw[d5.mem_iff,c6,hF,hF,W7 x]};rw[Z (sb.2 b (fun q:b=r=>U (t q fx))) e]}
universe z
universe GM
namespace PySem
open PySem.SetTable _root_.GM
section z
variable{prog:Program}{w:World}{A:Around}{E:aU}{s:Shared}
noncomputable abbrev ax4(led:Bool):Obj:={cls:=Jw,dict:=ae,data:= .set #[] 0 (.fresh 0 0 led)}
theorem aXi(x:Value){R:aU}(k:R gp (fX (mK (ax4 (! xo))))):Hr XS A (.call (.builtin "set.__new__") (eb [Jw,x])) (wants R E) s:=by revert k;revert prog w A E s x R;refine biE;generalize kU=prog,kW=w,kY=A,kZ=E,k_=s,lg=x,ll=R;intro k;refine a4S (show fe _ kC (do{checkBuiltinCall "set.__new__" ⟨[.type "set",x],[]⟩;again (.builtin "set.__new__" ⟨[.type "set",x],[]⟩)}) _ _ s from ?_);have own:=sub_set_self;rw[C (W8 (F.newCall_set_1 x) (ms a4R (Oa F.entry_set_new (by rw[h6 a4R];delta Builtin.«set.__new__» Builtin.Frozenset.newClass;obtain⟨b1,e5,f,u,j⟩:=s;dsimp only;rw[bS,bS];wp_delta;rw[dM,hj];{rfl};rw[bS,EG,hj];{rfl};rw[dM,bS];wp_delta;rw[bS];wp_delta;rw[bS];refine aEf (cg (by dsimp only;simp only[newObj];exact bE (a2m (mY k))))))))]
theorem aXj{lst:Addr}{ar:dW}{K:fC}{ad:df eh}{Q:aU}(n:om)(c:De lst ar)(f:bk i v (A ar v->v= .ref (ad i)))(same:aEb=MF)(keys:bb5)(few:Cl K)(hu:kB 8)(fin:∀(h':Heap)(D:Nat)a7 N,i bgs a9R a9b (Q gp nD)):bl (Iu Jw [Yi]):=by revert n c f same keys few hu fin;revert prog w A E s lst ar K ad Q;refine@aqC _ _ _ _ _ _ _ _ _ _ _ _ ?_;generalize Y1=prog,aV cP=w,bX cP=A,cA cP=E,b1 cP=s,cu cP=lst,du cP=ar,d7 cP=K,fq cP=ad,ZR=Q;intro n c f same Hx few hu fin;rw[bl a8 b0 F.called_set.mro];have b1:=F.called_set.made;have b2:=F.called_set.sub;refine aBE (a4S ?_);rw[gf (callAny Jw _),jG ⟨Code.quiet_builtin _ cB,Oa F.entry_type_call ?_⟩];rw[Around.under_plain (weight_type_call_type "set" [Yi] []) rfl];have b3:=F.called_set.notType;have b4:=F.called_set.canCreate;have b7:=F.typeCall_set_1 Yi;(wp_delta;rw[hj];{rfl};rw[hj];{rfl};rw[bS,EG,bS,EG,hj];{rfl};rw[bS,EG,bS,dM,bS,aHn,hi (a4T ?_)]);refine MR (aXi Yi (E:=E) (R:=fun obj a4=>∃led:Bool,led=(! xo)/\obj=gp/\a4=fX AJ) (as rfl rfl rfl)) (fun J a4 a6=>?_);cases J with|error e=>{exact a6}|ok fl=>cases fl with|ret obj=>{obtain⟨led,b9,rfl,rfl⟩:=a6;rw[co dl (led=ab\/Pd),ad atS (dk AJ aO) akR gL];have G:Shared.TypeIs (fX AJ) gp "set":=bm atS;have c0:=F.called_set.init.lookup;rw[g5 (F.called_set.init.bind gp)];(rw[bS,hi (PySem.wpAny_isInstance kI kI ?_),hj];{rfl};rw[bS,aHn];wp_delta;rw[bS,hi (PySem.wpAny_specialOf kI kI ?_),aHn,bS,EG,bS,hi (a4T ?_)]);refine MR (codeAny_call_builtin (R:=wants (fun J b5=>J= .none/\∃h' D a7 N,b5=nD/\bgs/\a9R/\a9b) E) F.called_set.init.plain F.entry_set_init (check_set_init_1 G ?_)) (fun r2 b5 g=>?_);{have c2:=c;obtain⟨d8,t,l,d6,z⟩:=c;obtain⟨c5,H,c6,I⟩:=d8;simp only at l z;subst l;rw[rD,ad L (dk AJ lst) (aC Ak H ar d6 I) (bU t)];have c7:=F.sub_list_set;have c9:=F.sub_list_frozenset;rw[cd d1 (YM==Mt "dict") ah];have B:(AJ).IsList lst ar:=f _ L d6 rfl;delta Builtin.«set.__init__» noKeywords Builtin.Frozenset.updateFrom;generalize M:pyIter=PI;rw[bS,ez ahf];{rfl};rw[dM];wp_delta;rw[bS];wp_delta;rw[bS];wp_delta;rw[bS,hi (PySem.wpAny_typeOf kI ?_),hj];{rfl};rw[dM];wp_delta;wp_delta;rw[dM,bS];wp_delta;rw[hj];{rfl};rw[hj];{rfl};rw[hj];{rfl};rw[dM,bS];wp_delta;rw[dM,bS];wp_delta;rw[bS];wp_delta;rw[bS,ez aEi,As,hj];{rfl};rw[dM,dM,hj];{rfl};wp_delta;rw[bS,bS];wp_delta;wp_delta;rw[bS];wp_delta;rw[bS];wp_delta;rw[bS,ez ajH,As,dM,EG];wp_delta;wp_delta;rw[bS];wp_delta;rw[bS,ez ajH,As,dM,EG,hj];{rfl};rw[bS];wp_delta;rw[bS,ez ajH,As,dM,hj];{rfl};rw[bS];subst M;refine aBm B ?_;rw[C (aEh ?_)];have P:lst<aO:=fw t;have R:A.in1.in1.in1.handled=ae:=by{trivial};rw[z S (lst≠f2 AJ) lE (gF (wk P))];have e3:aO∉[f2 AJ,lst]:=by{simp at*;lia};have T:bl O K O (ad j<aO):=fun j O h=>by{obtain⟨o,_,_,d0,_⟩:=Hx j O h;exact PZ};rw[bv V (j<MF) (∃O,aa K O) (aW (da (bV b8 same.g)))];have C:xz bdV:=db (bU xp);refine aXh (aBT R _ lst S ar).toS aO e3 K ad same (fun i v d3=>f i v d3) few ?hu (j6 ?hw) MF 0 _ #[] [] bL cS ⟨Pu,(B.push _)⟩ ?hG (f8 (by cases a0)) (fun j O h=>kv (Hx j O h) (C _ o d0)) ?hR;(case hu=>show _<gG;simp only[Around.in1];exact cU hu);(case hw=>obtain⟨O,c3⟩:=V i hi;have:=T i O c3;rw[fT];simp only[N_]at q;rw[bY q lE];exact iP _ (jv jX this));(case hG=>rw[ad b6 (dk bdV aO) akR (bU atS)];exact d (a akR 0 _ 3 b6 tK rfl (aW7 0 0 led) (aP (fun p e a0=>by simp at a0) dl)) .nil aT (ab bH));case hR=>intro c8 a7 N c4 k a;obtain⟨e2,a5,a9,W,X⟩:=c8;have k2:a5=sT:=c4.gens;have a3:a9=zm:=c4.drawn;have y:X=CO:=c4.os;subst k2;subst a3;subst y;rw[gf _,oe,gf (ret CL),jG (a rfl e2 W a7 N rfl k a a9G)];have d:b≠aO:=gF U;rw[z Y (b≠f2 AJ) lE (gF (wk U))];exact aEa b o (by simp only[hH,N_,oX,Du,aEg];exact⟨d,Y⟩) (C b o e)};{cases r2 with|error e=>{exact g}|ok Z=>cases Z with|ret J=>{rw[c rfl h' D a7 N k a r g];(rw[dM,hj];{rfl};wp_delta;wp_delta;rw[dM]);exact fin _ _ a7 N k a r}|_=>exact g.elim}}|_=>exact a6.elim
universe z
universe PySem
namespace PySem
open PySem.SetTable _root_.GM
namespace F
theorem ax5:Slot "set_iterator" "__next__" "set_iterator.__next__":=KQ "__next__"
theorem aXk:aEk table "set_iterator.__next__"=aa aEj:=entryFor_of_fast nh
theorem aXl:Manifest.owners.lookup (String.ofList "rotareti_tes".toList.reverse)=aa Manifest.sig_set_iterator:=nh
theorem aXm(a:Value):W9 "set_iterator.__next__" (eb [a]):=qx "set_iterator.__next__" "__txen__"
theorem ax6:Slot "set_iterator" "__iter__" "set_iterator.__iter__":=KQ "__iter__"
theorem aXn:aEk table "set_iterator.__iter__"=aa Builtin.«dict_keyiterator.__iter__»:=HW "dict_keyiterator.__iter__"
theorem aXo(a:Value):W9 "set_iterator.__iter__" (eb [a]):=qx "set_iterator.__iter__" "__reti__"
theorem aXp:aEk table "set.__iter__"=aa a4U:=HW "frozenset.__iter__"
universe F
theorem ax7{I:Type}(nx:cD):∀(r k:Nat)(left:ba)(d:fv I),aEn=r->(aEo nx r k Mo d).toList.Perm (a4V++Mo)|0,k,left,d,h=>by{have:Mo=[]:=NU h;rw[gq];simp[aEo]}|r+1,k,left,d,h=>by simp only[aEo];have Z:alZ<aEn:=VY _ ag;rw[da Z];refine L (ax7 nx r (k+1) _ _ (by rw[List.length_eraseIdx_of_lt Z,h];rfl)) ?_;rw[Array.toList_push,dv];refine List.Perm.append_left _ ?_;rw[aS b4 Mo (a8g++Mo[alZ]::left.drop (alZ+1))];rw[aEm];conv=>{rhs;rw[b4]};exact bt (aCH (l₁:=a8g))
noncomputable def Ux(w:World)(r e1:Nat)(a7:cT):cT:=Z xo aMr a7
theorem aXq(w:World)(r e1:Nat)(a7:cT):(Ez).toList.Perm lQ:=by delta Ux;split;{delta a4W;exact L (ax7 _ ck 0 lQ #[] bH) aT};{rfl}
theorem ax8(w:World)(r e1:Nat)(a7:cT):(Ez).size=ck:=nn (wY bfa)
def G3(h:Heap)(it r slot i n e1:Nat):Prop:=∃o,k4 it/\we= .type "set_iterator"/\gE= .fields #[hG jw,hG i,uq,hG n,hG e1]
structure afU(w:World)(h:Heap)(r:Addr)(a7:cT)(e1:Nat)(t:SetTable)(k:Nat):Prop where
 at_:I o (k4 r) o.ExactSet (gE=RE)
 ti:Km
 plain:Ip=ab
 led:DU=ab\/Pd
section z
variable{prog:Program}{w:World}{A:Around}{E:aU}{s:Shared}
theorem afU.keep{h h':Heap}{r:Addr}{a7:cT}{e1:Nat}{t:SetTable}{k:Nat}(x:mT h)(e:lA r r):mT h':=by rw[bK a b ajI];exact d (v o (e _ a) b) x.ti aEp x.led
theorem G3.type{it r slot i n e1:Nat}(x:li bh n):lG nY "set_iterator":=let⟨o,d0,b0,_⟩:=x;anV
theorem G3.keep{h h':Heap}{it r slot i n e1:Nat}(x:li h n)(e:lA it it):li h' n:=aMJ
theorem aXr{r:Addr}{a7:cT}{e1:Nat}{t:SetTable}{k:Nat}{Q:aU}(x:JX)(g:Q gp (fX (l0 "set_iterator" #[hG 0,hG 0,uq,hG ck,hG e1]))):bl (ML uq):=by rw[apW];have Z:lG uq "set":=a8H;have W:=LZ x.ti;refine W_ Z a4Z (qR a4Z Z F.aXp ?_ (F.args_set_iter_1 _));delta a4U;rw[C (W8 (a:=r) bH (bE (show fe _ _ (setEntries r>>=J (eU Wd)) _ _ s from bE (a4Y d0 hd W (fd ?_)))))];delta setDrawn aEq;rw[C (iV W (zf (cg fO))),aO (by show¬(da (! xo) (! Ip&&cv (ck>1)));rw[aEp];simp),C (fd (wpAny_setEpoch_of d0 hd W (bE (M4 (bX "set_iterator" (bm gL) a4X g)))))]
theorem aXs{O:PR}(h:iM O):tj O 0=0:=by rw[cb (LX h 0),cY (a4n (tj O 0)),l z,nN (b.2.1 0 _ z (lN (bV z b.1)))]
theorem aXt{O:PR}(h:iM O){i:Nat}(hi:i<iu):a8y=i+1:=by have b:=LX h (O[i]+1);rw[fj a8y (i+1),kx (b.2.2 i _ amq (lN hi)),iB];{rw[aO l (i+1) iu (cn q b.1),iZ (b.2.1 (i+1) _ q (lN l))];have J:O[i]<O[i+1]:=by{rw[a4 iM];have:=Nh h i (i+1) ag ag (x jX);rw[gj]};lia-abstractProof}
theorem aXu{r slot i e1:Nat}{a7:cT}{t:SetTable}{k:Nat}{Q:dE (bY (cR×Nat))}(x:JX)(c0:a9A)(a3:l e d aGn a9w (Q (aa (e.2,d)) s))(a9:ck<=i->Q ae s):bl (setNext r jw i e1):=by revert x c0 a3 a9;revert prog w A E s r slot i e1 a7 t k Q;refine@mn _ _ _ _ _ _ _ _ _ _ _ _ _ _ ?_;generalize qf=prog,qg=w,qh=A,qi=E,qj=s,qk=r,ql=slot,qm=i,qp=e1,qq=a7,qt=t,qu=k;refine ap2;rw[u3 Q];intro x c0 a3 a9;rw[apW];have W:=LZ x.ti;delta setNext aEq;rw[C (iV W (zf fO)),gf (mt xo),bfz,bC a xo];{rw[aJ a];rw[aO aT];delta setWalk aEq;rw[fJ (iV W (zf fO)),gf (mt xo)];rw[aJ a];rw[C (aEf (cg fO))];have y:Ez=aMr:=by{delta Ux;rw[aJ a]};show Q (B (aMr)[i]? (an (e.2,jw))) s;rw[<-y];cases a0:(Ez)[i]? with|some e=>{exact a3 e jw a0 (.inl a)}|none=>rw[a41]at a0;exact a9 (bV f.g a0)};{rw[aO a,cs U alx i];have a5:DU=ab:=by{rw[cY x.led,l z,cX]};rw[aO (by show¬(da (! Ip) (cv (ck>1)));rw[aEp];rw[Bt])];refine bE (m:=Z (! DU&&! a7.isEmpty) (a40 "set:maker-not-led") (eU ())) ?_;rw[aO ag,jG fO];rw[U];have y:Ez=a7:=by{delta Ux;rw[aO a]};have e8:=x.ti.size;rw[al (iq i ck)];{rw[cb c4 (i<ri)];rw[lN q,lN c4];exact a3 a7[i] (lO[i]+1) ag (.inr (aXt x.ti.rise c4))};rw[ay]}
theorem aXv{it r slot i e1:Nat}{a7:cT}{t:SetTable}{k:Nat}{Q:yb}(L:li bh ck)(x:JX)(c0:a9A)(hi:i<ck)(g:∀e d h',c aGn (G3 h' it r d (i+1) ck e1) a9w aLA (Q (aa e.2) tJ)):ia nY:=by rw[bfW,apW,EY,bfL];delta aEj;rw[C beO];dsimp only;rw[aO aT];rw[iU,iU,iU];rw[H1 (J (cy hi hV)),C (aEs c a p_ ?_),fK (C_ (Obj.mapFields (·.setIfInBounds 0 (wd d))) c (a43 an_)),C (aEs a3 an_ AN (px (cg (g e d _ a0 (as (C_ _ a3 (a43 (aEr an_ _))) ?_ ?_) g0 (fun b u ne U=>?_))))),ds a42 a42 h];{rw[aEr an_];rfl};rw[ds (oR ne) (oR ne) U]
theorem aXw{it r slot e1:Nat}{a7:cT}{t:SetTable}{k:Nat}{Q:yb}(c7:om)(L:G3 bh it r jw ck ck e1)(x:JX)(c0:xo=ab\/alx=ck)(g:u8 aLA):ia nY:=by revert c7 L x c0 g;revert prog w A E s it r slot e1 a7 t k Q;refine@mn _ _ _ _ _ _ _ _ _ _ _ _ _ _ ?_;generalize qf=prog,qg=w,qh=A,qi=E,qj=s,qk=it,ql=r,qm=slot,qp=e1,qq=a7,qt=t,qu=k;refine ap2;rw[u3 Q];intro c7 L x c0 g;rw[bfW,apW,EY,bfL];delta aEj;rw[C beO];dsimp only;rw[aO aT];rw[iU,iU,iU];rw[H1 pH];{rw[bfz];rw[aEt (x f.l)]at a0;cases a0};rw[C (aEs c a AN Yj)];simp only[newExc,newTuple];rw[C (Dc (bE (m:=a44 _ _) (W8 (a:=CL) (by first|rfl|(simp only[a44];rfl)) (Dc ?_))))];simp only[raiseNew];rw[C (wpAny_handled ?_)];rw[show A.in1.handled=ae from c7];rw[C (cg (wpAny_throw ?_)),C (l2 (bm gL) ?_)];exact cg (g _ (fun b u ne U=>bU (bU (t (oR ne) U))))
theorem aXx(c7:om)(I r:Addr)(ne:r≠I)(a7:cT)(e1:Nat)(t:SetTable)(k:Nat):Walks cN w A I [I,r] [I] ck bbu (fun i h=>I slot (G3 h I r jw i ck e1) (Pd\/alx=i) (mT h))where sub:=dc ai;frame:=fun _ _ _⟨jw,a,b,c⟩c3=>d jw (a.keep (eN (c3 I bJ o e))) b (c.keep (eN (c3 r oq o e)));item:=fun i s Q E hi⟨jw,a,b,c⟩g=>by{refine aXv a c b hi (fun e d h' a0 B b2 x=>g e.2 h' dE (bp e a0) (d d B b2 (c.keep (jL (x r o ne z)))) bdM)};done:=fun s Q E⟨jw,a,b,c⟩g=>aXw c7 a c b (fun h' x=>g h' dE bdM);self:=fun _ _ _ _⟨jw,a,b,c⟩g=>by refine W_ a.type F.ax6 (qR F.ax6 a.type F.aXn (bX "set_iterator" a.type a4X g) (F.aXo _))
theorem aXy{J:Addr}{Q:nK}(Z:lG xn "set")(h:Ya):bl (aEv xn):=by revert Z h;revert prog w A E s J Q;refine biE;generalize kU=prog,kW=w,kY=A,kZ=E,k_=s,lg=J,ll=Q;rw[dt Z];delta aEv;rw[C (wq Z PySem.F.slot_set_len.lookup ?_)];generalize a:("set.__len__":gB)=b;wp_delta;rw[show splitId b=aa ("set","__len__")from by subst a;decide+kernel];subst a;rw[C (aEu (T:="set") (b:=ab) Z a7F (a45 (gX (cy c ax)) (as (a45 (as (bE (a46 Z xA))) (gX (cy cB c))))))]
theorem afU.type{r:Addr}{a7:cT}{e1:Nat}{t:SetTable}{k:Nat}(x:JX):lG uq "set":=by have⟨o,d0,hex,hd⟩:=ajI;exact a8H
theorem aXz(r:Addr)(a7:cT)(e1:Nat)(t:SetTable)(k:Nat):W.KdlSrc cN w "set" r r ck bbu (c_ (mT h))where type:=fun s x=>x.type;there:=fun h x=>by{rw[aLl];exact⟨PZ,PZ⟩};keep:=fun h h' x e=>aEw (jL (e r gn o z));notList:=bH;notTuple:=bH;hint:=fun A E s Q x q=>aXy x.type q;iter:=fun A s c7 x=>by rw[aLl,e _ _ (fun E Q q=>aXr x q) (aXx c7 aO r (gF PZ) a7 e1 t k) 0 Pu (.inr (aXs x.ti.rise)) a9p]
theorem aXA{r:Addr}{a7:cT}{e1:Nat}{t:SetTable}{k:Nat}{Q:dE aM}(c7:om)(x:JX)(d1:a1 ck)(g:∀h' D(B:dW),c (aO<Vx) (O1) (B.size=ck) (bl v B v (z e (aa (Ez) e) (v=e.2))) (Q W3 nD)):bl (collect uq):=by rw[aLl,iZ PZ];delta collect;rw[C (aEh (Oa F.entry_proto_collect ?_)),h6 F.plain_proto_collect,C (M4 (ms a47 (Oa F.entry_list_iadd ?_))),h6 a47];refine W.kdl_extend (prog:=cN) (R:=sg (match J with| .ok (.ret v)=>am (match v with| .ref a=>(load a>>=lm (match gE with| .seq O _=>eU O.toList|_=>a8h))|_=>a8h) Q E c1| .ok _=>cE| .error e=>E e c1)) (s:=fX (mK (jw aJJ))) (aXz r a7 e1 t k) c7 a9p aO (v_ lt) (v_ lt) _ 0 gL (fun h' D c C eo H hi=>?_) d1;rw[C (wpAny_load H (cg (g h' D c (fw H) (fun b u U=>eo b u (J (iP _ (z▸fw U))) (bU U)) hi.1 hi.2)))]
universe z
section z
open PyProof.Rows PyProof.Rows.G
def sJ(h:Heap)(v:Value)(K:aQ):Prop:=∃a o O n,i2 pT (we=rA/\gE=jy O/\sY O.toList K/\K≠[])
noncomputable abbrev sL:uA:=as ah
theorem sJ.keep{h h':Heap}{v:Value}{K:aQ}(x:mo h)(k:j b o mh hc):mo h':=by obtain⟨a,o,O,n,e,g,J⟩:=x;exact a a o O n e (k _ _ g) J
theorem ax9:∀{vs:aM}{K:aQ}(i:Nat),sY vs K->tupItems sL i vs=aa (Di hy)|[],[],_,_=>rfl|v::vs,k::K,i,h=>by{cases h with|cons n t b=>simp only[tupItems,ax9 (i+1) b];rfl}|[],_::_,_,h=>PM|_::_,[],_,h=>PM
theorem sJ.key{h:Heap}{v:Value}{K:aQ}(x:mo h):aEx h sL v=aa (Di hy):=by obtain⟨a,o,O,n,rfl,g,c,d,i,_⟩:=x;delta aEx isTupObj tupKey;simp only[g,c,d];rw[aJ ax];exact ax9 0 i
theorem sJ.tup{h:Heap}{v:Value}{K:aQ}(x:mo h):∃f,TupOf h sL v f:=by obtain⟨a,o,O,n,rfl,g,c,d,i,ne⟩:=x;obtain⟨l⟩:=O;cases i with|nil=>{trivial}|cons m t q=>exact f _ a o n g c (bj d (as (bm t)) (J YF))
theorem afV{h:Heap}:∀{vs:aM},V v vs (∃K,mo h)->∃G,TupsOf h sL vs G|[],_=>⟨[],.nil⟩|v::vs,a=>by rw[d7 G (afV (vs:=vs) (m6 (a u (ck hu))))];obtain⟨K,x⟩:=a v fx;rw[f4 y x.tup];exact⟨f::G,.cons y q⟩
def afW(h:Heap)(l:aM):Prop:=∀(i j:Nat)u v K ls,j (i<=j) (A l u) (aa l v) (sJ h u K) (sJ h v ls) ((a48 a49).blt (ls.map hy) (Di hy)=ah)
theorem aXB{h:Heap}{vs:aM}{f:SortSt}(p:eQ (tg f) (aEz vs))(d8:SortedToK (aEy h sL) (tg f) (aEz vs).size):(aIb).toList.Perm vs/\afW h (aIb).toList:=by have eq:∀q∈pB (tg f),q.1=q.2:=fun q e0=>by{have m:=p.toList.mem_iff.mp e0;unfold pairsOf at m;rw[a4']at m;generalize vs.toArray.toList=l at m;induction l with|nil=>{simp_all}|cons a J d6=>rw[cY (ic m)];{rw[z]};rw[l (d6 z)]};rw[h7 p.size_eq,l6 biT];{rw[a4_];refine L (p.toList.map _) ?_;delta aEz;rw[a4'];have:∀l:aM,cF (ah1 l)=l:=cs (by induction l with|nil=>{rfl}|cons a J d6=>exact AB);rw[od]};{rw[a4_,cz,pC]at hu d3;rw[fd j4 (j<(tg f).size)];have:=d8 i j le ai;have B:∀(x:Nat)y zs,cF (tg f)[x]?=aa y->sJ h y zs->KK (aEy h sL) (tg f) x=zs.map hy:=fun x y zs S A=>by{delta KK;cases e0:(tg f)[x]? with|none=>{simp_all}|some q=>rw[e0]at S;have b9:q.2=y:=by{simp_all};rw[q8 ((aEy h sL).keyOf q.1)];rw[(eq q (bM (i:=x) ag)),b9];rw[q8 (aEx h sL y)];rw[A.key];rfl};rw[bY (B i u K hu n) (B j v ls d3 L)];exact this}
variable{prog:Program}{w:World}{A:Around}{E:aU}{s:Shared}
theorem aXC{r:Addr}{a7:cT}{e1:Nat}{t:SetTable}{k:Nat}{Q:aU}(c7:om)(x:JX)(d1:a1 ck)(c6:df lQ (∃K,sJ bh e.2 K))(g:∀(h':Heap)D(p:Addr)(d:dW)c,p7 (Mn eX) (Q fP nD)):bl (Iu (.builtin "sorted") [uq]):=by refine Calls.call_function_entry kind_sorted plain_sorted entry_sorted (args_sorted1 _) ?_;delta Builtin.«sorted»;refine bE (m:=checkCount "sorted" 1 1 _) (fd (aXA c7 x d1 (fun a3 D B C eo e8 it=>?_)));have pv:a4z (Mn eX):=by{have e:W3=(Ez).toList.map eX:=by{refine NH (fun j=>?_);rw[cz,pC,pC];cases b8:B[j]? with|none=>{rw[a41]at b8;rw[aEt (by rw[ax8];simp_all)];rfl}|some v=>rw[bC e a0 (it j v b8)];rw[a0];rfl};rw[e];exact B bfa _};rw[co al (a1 B.toList.length),C (wpAny_newList ?_ al),ad l (dk (aEA apg) a5a) apg gL];have a:xz (aEA apg):=db (bU (eo b o e));have all:∀v∈W3,∃K,mo (aEA apg):=fun v d3=>by{rw[h4 (pv.mem_iff.mp d3),d7 K (c6 e a0)];exact⟨K,q.keep a⟩};obtain⟨G,N⟩:=afV all;rw[C (vZ (qR slot_list_sort (bm l) entry_list_sort (list_sort_tups (shape:=sL) l N aoa al (fun f e0 g0 d0=>dl (cg Pk))) (args_list_sort _)))];{rw[d7 K (all v d3)];exact aW q.key};{rw[a'0,db h (sortedHeap_at (vs:=W3) (out:=cF (tg f)) l)];refine g _ D a5a _ c (g4.trans pv) biT ?_ h (db ((fun b o ne e=>t (sortedHeap_old ne hh) e) b o ?_ (a b o e)));rw[l (g8 i j u v K ls le hu d3 (n.keep a) (L.keep a)),l (ey C),l (J (iP _ (jv C (z▸hh))))]}
universe z
universe PySem
namespace GA
open PySem PySem.Spec PyProof.Rows PyProof.Rows.G L2 _root_.GM
theorem ax_:∀K ls:aQ,bbT=mO K ls|[],[]=>rfl|[],_::_=>rfl|_::_,[]=>rfl|x::K,y::ls=>by rw[gH (aGY||(! bT y x&&bbT))];rw[(ax_ K ls),aEB];rw[b2 x y,a_,EW]
abbrev AK:=eh×aQ
noncomputable def vF(g:qc):af:=rj (mR (gV t.1))
def Uy(H:Hp)(g:qc):Prop:=∀t∈g,aK0
noncomputable def afX(w:World)(r:Addr)(a7:cT):HO:= .ext (c_ (∃e1 t k,mT h))
theorem afY{b1:aM}:∀{g:qc},eC (vF g)->b1=rj ak1|[],h=>aHs|t::g,h=>by cases h with|cons a b=>rw[afY b];cases a;rfl
theorem ax':∀g:qc,iQ (vF g) (rj ak1)|[]=> .nil|t::g=> .cons rfl (ax' g)
theorem afZ{b1:aM}:∀{K:aQ},eC (Di cp)->sY b1 K|[],h=>by{rw[cH];exact .nil}|k::K,h=>by cases h with|cons a b=>rw[ev a];exact .cons _ t (afZ b)
theorem aXD{P:Program}{w:World}{b1:aM}{K:aQ}(q:sY b1 K):aB_ (PySem.intKind P w) K b1:=by induction q with|nil=>{rw[kP]}|cons n t h i=>rw[cE (by show(n==n)=ab;exact dH rfl) i]
section z
variable{X:Cx}{pins:bw}{s:Shared}{M:L2.St}{H:Hp}
theorem aXE(I:aZ){t:AK}(h:aK0)(ne:t.2≠[]):sJ bh (.ref t.1) t.2:=by rw[Cy h];exact f t.1 o eT n d0 b0 hd ⟨afZ J,ne⟩
theorem Uz(I:aZ){t:AK}(h:aK0):(aJT).is bh t.2 t.1:=by rw[Cy h];exact a o eT n d0 b0 hd (aXD (afZ J))
inductive UA(K:Fg)(w:World)(vs:af)(H:Hp)(Q:VK):Prop|mk:∀(a:Addr)(g:qc),e [gV a] (mH (vF g)) (Uy H g) (Cl (rj eX)) ((∀(r:Addr)(a7:cT)(b1:qc),b (Mn eX) P6 (V t b1 (t∈g)) (c8 EL) (∀k,k∈EL↔k∈rj eX) (Y r->Q uq a_T))->UA K w vs H Q)
theorem aXF(b0:fR)(hu:uQ):BF X Jw (UA X.K X.w):=by rw[Zx];obtain⟨a,g,rfl,c0,c6,few,q⟩:=h;rw[aK1];rw[VA J];have d2:=afY rv;rw[ae i0 Hv N2];let d:AK:=(0,[]);refine aXj (K:=rj eX) (ad:=iX aHj) iz ahn (fun i v hi=>?_) (cz bA Ht i0) (fun j O b8=>?_) few (gc hu) (fun h' D a7 N G f eo=>?_);{have R:A ar v:=by{rw[a4x]at hi;exact hi};rw[d2,cz]at R;cases S:g[i]? with|none=>{rw[S]at R;rw[hS]}|some x=>rw[S]at R;have:dm x.1=v:=aI R;rw[<-this,WC,S];rfl};{rw[gA b8];cases S:g[j]? with|none=>{simp_all}|some x=>rw[S]at b8;have e:x.2=O:=by{simpa using b8};have:aHj=x.1:=ag;rw[this,<-e];exact Uz I (c6 x (bM S))};{have kp:=db (eo b o hh e);have O:∀{l:aO Int cR}{m:fC},f1 (fun(e:Int×cR)(O:bK Int)=>z b (e.2=cV) ((aJT).is h' O b))->ex l (j<wj) aHj->∃b1:qc,kA eX=P6/\EL=m/\∀t∈b1,t∈g:=by{intro l m p;induction p with|nil=>{exact as (bj [] rfl (fun t h=>PM))}| @cons e k l m U c5 d6=>intro n;rw[rc (d6 (sv (n z (ck c9)))),bG f7 c U];obtain⟨j,j4,C⟩:=n e fx;rw[cb r (j<N2),ae W (DS j d) g[j]];rw[W]at C;have c4:=te r;have j8:b=g[j].1:=by{rw[f7]at C;exact a5b C};have F:k=g[j].2:=by{rw[j8]at c;exact(aJT).inj c (ax0 (Uz I (c6 _ c4)) (jL (kp _ o z)))};rw[w (g[j]::b1) ?_ ?_ (fun t mt=>?_),ay,a_,cL]};rw[rc (O G.keys f)];obtain⟨o,e1,t,k,d0,hex,hd,T,_,d5,ld⟩:=G.set;rw[Q gp (ad aO (afX X.w aO a7)) (Dd kp aY (v (a e1 t k (d o d0 hex hd) T d5 ld) (nt d0) (fun a3 a9⟨e1,t,k,x⟩z=>d e1 t k (aEw z)))) (q _ a7 b1 b4 e7 (t b9 G.nd) (t b9 G.mem) pY)]}
theorem af0{I d:Type}(f:Fp){l m:nU}(p:Wt m):∀b1:ba,m=aiX f->∃g:ba,g.Perm b1/\l=rj f:=by induction p with|nil=>{rw[dt b1];cases b1 with|nil=>{exact bp [] amj}|cons a J=>trivial}| @cons x l m p d6=>{rw[dt b1];cases b1 with|nil=>{trivial}|cons u b1=>rw[aaz,aO g q (d6 b1 a9)];exact v (u::g) (q.cons u) ag}|swap x y l=>{rw[dt b1];match b1,h with|u::v::b1,h=>rw[aaz];injection a9 with a9 e2;exact v (v::u::b1) (.swap _ _ _) ag}|trans p q c i=>rw[dt b1];obtain⟨n,d2,b4⟩:=i b1 h;obtain⟨a4,q2,b9⟩:=c n b4;exact v a4 (q2.trans d2) b9
theorem aXG{h:Heap}{b1:qc}(o:afW h P6)(c6:∀t∈b1,sJ h (.ref t.1) t.2):a5c aKJ:=by rw[ahR];intro i j hi b8 lt;have:=o i j (.ref b1[i].1) (.ref b1[j].1) b1[i].2 b1[j].2 (ey lt) ag ag (c6 _ (te hi)) (c6 _ (te b8));rw[am ax_];exact this
inductive L0(K:Fg)(w:World)(vs:af)(H:Hp)(Q:VK):Prop|mk:∀(a:Addr)(b1:qc),e [gV a] (Uy H b1) (V t b1 (t.2≠[])) (a1 lD) ((mH (vF b1)\/∃a7:cT,cy (afX w a a7)/\Mn eX=P6)->(∀(p:Addr)(g:qc),i (g.Perm b1) (g.Pairwise aKJ) (Y p) (x2 (vF g)))->L0 K w vs H Q)
theorem aXH(b0:fR):f1 "sorted" (L0 X.K X.w):=by rw[iF vs l];obtain⟨a,b1,rfl,c6,ne,z,c0,q⟩:=h;rw[VA J];have j:=lI (aXE I (c6 t m) (ne t m));have fin:∀(h':Heap)(D:Nat)(p:Addr)(d:dW)(c:Nat),p7 P6 (f3 fP nD):=by{intro h' D p d c po i C at_ eo;rw[df g y (af0 _ po b1 rfl)];rw[y]at i;rw[Q fP (ap p (vF g)) (Dd eo C (a ?_ (rj ak1) c (ax' g) ?_)) (q p g a9 (aXG i (lI (j t (aEC m)))) (zo C))];{show bd (rj _) _;rw[bA,a9.length_eq];exact z};{rw[at_,<-y]}};rcases c0 with c0|⟨a7,a0,F⟩;{rw[aK1];have d2:=afY rv;have al:∀v∈ar,∃K,mo bh:=fun v m=>by{rw[d2]at m;rw[a7 t mt m];exact aW (j t mt)};obtain⟨G,N⟩:=afV al;refine sorted_tups (shape:=sL) ahn N (fun v m=>?_) (ac d2 bA z) (fun f e0 g0 d0=>?_);{obtain⟨K,x⟩:=al v m;exact aW x.key};{rw[a'0];obtain⟨e1,V⟩:=sortedAll_at bh ar aIb;exact fin _ dE _ _ e1 (bl d2 g4) g8 (a1T _) V (hm sortedAll_old)}};{obtain⟨⟨e1,t,k,x⟩,_⟩:=er _ _ a0;rw[ca e8 ck lD F];refine aXC iz x Jc a8k (fun h' D p d c po i C at_ eo=>fin h' D p d c (bl F po) i C at_ eo);rw[br f7 (e.2∈P6) F (Iv m)];obtain⟨t,mt,g9⟩:=zy f7;rw[<-g9];exact aW (j t mt)}
universe z
universe GA
namespace GM
open PySem
abbrev PK:=aQ×aQ
section z
variable{prog:Program}{w:World}{A:Around}{E:aU}{s:Shared}
def IsPair(prog:Program)(w:World)(h:Heap)(k:PK)(a:Addr):Prop:=∃o n x y,pT/\we=rA/\gE=jy #[kR,Aw]/\(hM).is h k.1 x/\(hM).is h k.2 y
theorem IsPair.type{k:PK}{a:Addr}(x:fi bh k):lG bc "tuple":=let⟨o,_,_,_,d0,b0,_⟩:=x;anV
theorem IsPair.inj{h:Heap}{a:Addr}{x y:PK}(S:fi h x)(b6:fi h y):x=y:=by obtain⟨o,n,u,v,d0,_,hd,a3,a9⟩:=S;obtain⟨g,C,F,t,l,_,p,r,V⟩:=b6;rw[fv (o=g) (cZ (d0.symm.trans l))];rw[hd]at p;injection p with e _;have b4:u=F:=by{grind};rw[mw v t,Ju];subst b9;exact sQ ((hM).inj a3 r) ((hM).inj a9 V)
theorem IsPair.keeps{h h':Heap}{k:PK}{a d:Addr}{o:Obj}{a7 e1}(x:fi h k)(d0:k4 d)(hd:gE=Pw)(c0:Hn d h h'):fi h' k:=by obtain⟨g,n,u,v,l,b0,p,a3,a9⟩:=x;exact a g n u v (ac c0 a (J ai) l) b0 p (HX a3) (HX a9)
noncomputable def af1(prog:Program)(w:World)(k:PK):Int:=reduceHash aLB
noncomputable def UB(k:PK):Nat:=a9s+(k.2.length+1)+1
theorem aXI{k:PK}{a:Addr}{Q:dE Int}(hu:kB 8)(c3:fi bh k)(h:Q (af1 cN w k) (oP (dE+UB k))):bl (pyHash bc):=by have Z:=c3.type;obtain⟨o,n,x,y,d0,_,hd,a3,a9⟩:=c3;delta pyHash;(first|delta pyHashByItsType|skip);(first|rw[C (wpAny_cRoomFor_or (.inr (gc hu)) ?_)]|skip);rw[C (wq Z aD' ?_)];show fe _ _ (mt (aa (a5f "tuple.__hash__")==aa CL)) Q E s;rw[aO (t beq_builtin_none zv),C (wq Z aD' ?_)];show fe _ _ (callSpecialIfBoundUnlessNone? bc "__hash__" _>>=_) Q E s;rw[C (wpAny_callSpecialIfBoundUnlessNone?_slot Z a5e (qR a5e Z F.entry_tuple_hash ?_ (F.args_tuple_hash_1 _))),td (a15 bc),C (aED d0 hd ?_),md,Jx,gf (M0 [dm x,dm y] _ _)];have r1:(hM).room kC:=ja J0 (cU hu);rw[qT];rw[GS a3];dsimp only;rw[qT];rw[GS a9];dsimp only;rw[M1];rw[oe,gf (retInt aLB)];refine a5d ?_;delta af1 reduceHash at h;have g9:dE+a9s+(k.2.length+1)+1=dE+UB k:=by{delta UB;simp+arith [*]};generalize aLB=z at h⊢;show fe _ _ (mt bg0) Q E _;rw[bC a6 bg0];{rw[aJ a6];rw[aj (aJ a6),oe];rw[<-g9]at h;exact h};{rw[aO a6,i2 a6,C (Xa fO)];rw[<-g9]at h;exact h}
theorem aXJ{p q:PK}{a b:Addr}{P:dE Fin}(hu:kB 8)(S:fi bh p)(b6:bdy)(h:P (.done (.ret (.bool (ar p q)))) s):im (Builtin.«tuple.__eq__» (eb [bc,cV])) P:=by have⟨e,b0,x,y,c,_,d,a3,a9⟩:=S;have⟨N,a5,b1,d7,Z,_,l,r,V⟩:=b6;have r1:=show sW<gG by{lia};rw[td (isInstance cV rA),zt b6.type,rW,C (aED c d (bE (aED Z l Yj))),gf (M0 [(dm x,dm b1),(dm y,dm d7)] _ _)];rw[qT];rw[fJ ((hM).eqBool r1 a3 r ?_),N b4 p.1 q.1];{rw[dH b4];rw[rW,oe];dsimp only;rw[qT];rw[fJ ((hM).eqBool r1 a9 V ?_),N b9 p.2 q.2];{rw[dH b9];rw[rW,oe];dsimp only;rw[M1];rw[jG fO,aj (dH (sQ b4 b9))];exact h};rw[pf b9 (b9 (iQ z))]};rw[pf b4 (b4 (iQ z))]
theorem aXK{p q:PK}{a b:Addr}{Q:nK}(hu:kB 16)(S:fi bh p)(b6:bdy)(h:Q (ar p q) s):bl (eqBool bc cV):=by delta eqBool;rw[a97];show fe _ _ (mt a_X) Q E s;rw[bC c a_X];{rw[aJ c];have e:a=b:=by{have z:=eq_of_beq c;injection z};rw[b_];obtain rfl:=S.inj b6;exact bE (Xa (cg (aI h)))};rw[Z (bj c) (bE (wpAny_richCompare_same_room (op:= .Eq) S.type b6.type a5g (qR a5g S.type F.entry_tuple_eq (aXJ (ja (_+1+8<gG) (cU hu)) S b6 (as rfl (an (nomatch e)) (vW h))) (F.args_tuple_eq_2 _ _)) (gc hu)))]
theorem aya{K:aQ}{a:Addr}{Q:nK}(c3:(hM).is bh K a)(h:Y8):De 7:=by obtain⟨o,f,n,d0,b0,hd,hi⟩:=c3;have Z:lG bc "tuple":=anV;unfold eqIsQuiet;rw[C (wq Z a5h ?_),zt Z,rW,baz,Jx,mp (a4G v=ab) hi.byValue];{rw[vm g];rw[eqIsQuiet_byValue _ (g v fx)];rw[Qe,rW];exact cg (ii (fun u c8=>g u (ck c8)))};rw[ap_]
theorem aXL{k:PK}{a:Addr}{Q:nK}(c3:fi bh k)(h:Y8):De 8:=by have Z:=c3.type;have⟨o,n,x,y,d0,_,hd,a3,a9⟩:=c3;unfold eqIsQuiet;rw[C (wq Z a5h ?_),zt Z,rW,baz,Jx,o1 (M0 [dm x,dm y] _ _)];rw[qT];rw[fJ (aya a3 ?_),rW,oe];dsimp only;rw[qT];rw[fJ (aya a9 ?_),rW,oe];dsimp only;rw[M1];exact cg xA
universe z
noncomputable def ayb(prog:Program)(w:World):aD_ cN w PK where is:=rk cN w;hash:=af1 cN w;draws:=UB;room:=fun A=>kB 16;inj:=fun S b6=>S.inj b6;keeps:=fun x d0 hd c0=>x.keeps d0 hd c0;pyHash:=fun hu c3 h=>aXI (gc hu) c3 h;eqBool:=fun hu S b6 h=>aXK hu S b6 h;quiet:=fun c3 h=>aXL c3 h
universe GM
namespace GA
open PySem PySem.Spec PyProof.Rows PyProof.Rows.G L2 _root_.GM
def RB:cw V| .ref _=>gD| .bl _=>gD|_=>cE
noncomputable def vv:V->cR| .ref a=>bc| .bl b=>Ja|_=> .none
theorem aXM{v:V}(h:RB v):gS v (vv v):=by cases v<;>first|exact Ho|rfl
theorem aXN{v:V}{u:Value}(h:RB v)(J:jl):u=vv v:=by cases v<;>first|exact Ho|exact J
abbrev PKV:=PK×eh×V
noncomputable def mF(F:uk):aO PK (eh×cR):=M5 (ab (x.1,x.2.1,vv x.2.2))
noncomputable def UC(P:Program)(w:World)(a:Addr)(F:uk):HO:= .ext (c_ (np (q0 (B (mF F) (entryOfKey (ayb P w))) (c8 (gZ (mF F))))))
inductive G4(H:Hp)(b:Addr)(k:PK):Prop|mk:f x y (fr (ge x y)) (iR x (hL k.1)) (iR y (hL k.2)) aH9
theorem G4.go{H L:Hp}{b:Addr}{k:PK}(t:QM)(h:aH9):G4 L b k:=by rw[ab x y a c d];exact a x y (t _ _ a) (t _ _ c) (t _ _ d)
noncomputable def vG(F:uk)(k:PK):jQ:=B (F.find? (ab (ar x.1 k))) (·.2.2)
noncomputable def L1(F:uk)(k:PK)(b:Addr)(v:V):uk:=Z (dk FF) (M5 (ab (v x.1 k (x.1,x.2.1,v) x))) (F++[(k,b,v)])
theorem ayc(F:uk)(k:PK):cF (zz (mF F) k)=B FF vv:=by delta zz mF vG;induction F with|nil=>{rfl}|cons x J d6=>rw[c_,oY,oY];rw[b2 x.1 k];{simp[e]};rw[ay]
theorem af2(F:uk)(k:PK):dk (zz (mF F) k)=dk FF:=nn (gC Option.isSome (ayc F k))
theorem aXP(F:uk)(k:PK)(b:Addr)(v:V):ahu (mF F) k b (vv v)=mF alq:=by delta ahu L1;rw[af2];rw[bC e (dk FF)];{rw[aJ e,aJ e];delta mF;rw[jz,jz];rw[a8q];simp only[Wv,putAt];rw[T x.1 k,a_,a_]};{rw[c_ e e];simp[mF]}
theorem aXQ(F:uk)(k:PK)(b:Addr)(v:V):bd alq (ia+1):=by delta L1;rw[Zg]
theorem aXR(F:uk)(k:PK)(b:Addr)(v:V)(G:PK):vG alq G=aw (G=k) v (vG F G):=by delta L1;rw[bC e (dk FF)];{rw[aJ e];rw[T G k];{rw[e_];rw[cO];delta vG at e⊢;induction F with|nil=>{trivial}|cons x J d6=>rw[c_,oY];rw[a6 oY,N z x.1 G];{simp[z]};rw[Jt]};{rw[aO q];delta vG;clear e;induction F with|nil=>{rfl}|cons x J d6=>rw[c_,oY,oY];rw[N z x.1 k,Jt];{rw[Pp]}}};{rw[aO e];unfold vG at e⊢;rw[List.find?_append];rw[T G k];{rw[e_,kA aB' Option.not_isSome_iff_eq_none];rw[cO,e];simp};{rw[aO q];simp[hx q]}}
inductive oN(P:Program)(w:World)(H:Hp)(a:Addr)(f:aac)(n:Nat):Prop|mk:∀F,c (cy (UC P w a F)) bf' (ia<=n) (∀k,FF=f k) (m9 H)
theorem oN.go{P:Program}{w:World}{H L:Hp}{a:Addr}{f:aac}{n:Nat}(h:m9 H)(t:QM)(e:E o Y4 (be (L a))):m9 L:=by rw[ab F a3 a9 e2 e5];exact a F (e _ a3) (fun x m=>bbe) e2 e5
theorem oN.mono{P:Program}{w:World}{H L:Hp}{a:Addr}{f:aac}{n:Nat}(h:m9 H)(s:bP):m9 L:=h.go (dj s) (s _)
section z
variable{X:Cx}{pins:bw}{s:Shared}{M:L2.St}{H:Hp}{A:Around}{E:aU}
theorem L3(I:aZ){b:Addr}{k:PK}(h:aH9):(aJU).is bh k b:=by rw[ab x y a3 a9 e2,Cy a3];have e:ar=[kR,Aw]:=by{cases J with|cons a q=>cases q with|cons b q=>rw[kK];cases a;cases b;rfl};rw[b_];exact a o n x y d0 b0 hd (Uz (t:=(x,k.1)) I a9) (Uz (t:=(y,k.2)) I e2)
theorem af3(I:aZ){a:Addr}{f:aac}{n:Nat}(h:bhM):I F (cy (UC eB X.w a F)) bf' (D (ia<=n) (∀k,FF=f k) (a1 ia) (li a) (s.heap.DictOfH aJU a (mF F))):=by rw[ab F a3 a9 e2 e5];obtain⟨⟨z,hd,o,a7,e1,g7,g8,a5,W,g6⟩,_⟩:=er _ _ a3;rw[b F a3 a9 e2 e5 z hd o (a a7 e1 g7 g8 a5 W a8l g6)];unfold mF at m;rw[a7 y U m];exact L3 I (a9 y U).1
theorem aXS(I:aZ){a:Addr}{f:aac}{n:Nat}(h:bhM):a8U:=by obtain⟨F,_,_,_,_,_,_,j⟩:=af3 I h;exact VE
inductive jPG(P:Program)(w:World)(Q:VK)(x y:V)(b7:Hp):Prop|mk:∀a b k f n v,fx b7 b7 (f k=aa v->Q v b7->jPG P w Q x y b7)
def aXT(P:Program)(w:World)(l A:TE):TE:=GI (jPG P w Q x)
inductive jPI(P:Program)(w:World)(neg:Bool)(Q:VK)(y x:V)(b7:Hp):Prop|mk:∀a b k f n,fx b7 b7 (Q (.bl (if neg then ! lf k else lf k)) b7->jPI P w neg Q y x b7)
def ayf(P:Program)(w:World)(neg:Bool)(A l:TE):TE:=ww (su (l M a8 (jPI P w neg Q y)))
inductive jPP(P:Program)(w:World)(N:jf)(v x y:V)(d4:Hp):Prop|mk:∀a b k f n,fx d4 d4 (i (RB v) (n<hC) (ad o (oN P w (qE o) a (fun G=>aw (G=k) v (f G)) (n+1)) (N (qE o))) (jPP P w N v x y d4))
def aXU(P:Program)(w:World)(l A L:TE):TS:=Dz (jPP P w (mI M) v x)
theorem room_in(hu:kB 64):(aJU).room kC:=ja (sW+1+16<gG) (cU hu)
variable{o i e B:Expr}{pos E T:Pos}{l A L:TE}
theorem aXV{g:Program}{w:World}(hu:uQ)(d0:Bn)(hi:yl)(c0:SF i)(C:Rv)(hw:Qs):M (e3 o i) (aXT g w l A):=by rw[oc];cases hw;rw[fz];refine bhw;obtain⟨y,b7,Y,Z,a,b,k,f,n,v,ex,c3,d,K,m,q2⟩:=P;rw[l_,j_,Ey,apG,vu Y];have B:=L (e5 k) m;have c4:=ayc F k;rw[B]at c4;rw[ig b0 (zi c4),v VE (a2C (ajJ hu) (L3 Y K) j c2 (a v b7 (aiU _) ?_ q2))];rw[b0];exact aXM (by delta vG at B;rw[aO y b6 (zi B),xN];exact(a9 y (a3e b6)).2)
theorem aXW{g:Program}{w:World}(hu:uQ)(hi:yl)(d0:Bn)(C:Rv)(hw:Qs):PC X .In i o (ayf g w ah A l):=by rw[oc];cases hw;rw[fz];refine ap5;obtain⟨x,b7,Y,R,a,b,k,f,n,ex,c3,d,K,q2⟩:=P;rw[l_,j_,Ey,apG,vu Y];refine a2E (ajJ hu) (L3 Y K) hd j ?_;rw[af2,e5];exact bi (lf k) b7 (aiU _) q2
theorem aXX{g:Program}{w:World}(hu:uQ)(hi:yl)(d0:Bn)(C:Rv)(hw:Qs):F9 g:=by rw[oc];cases hw;rw[fz];refine ap5;obtain⟨x,b7,Y,R,a,b,k,f,n,ex,c3,d,K,q2⟩:=P;rw[l_,j_,Ey,apG,vu Y];refine a2F (ajJ hu) (L3 Y K) hd j ?_;rw[af2,e5];exact bi (! lf k) b7 (aiU _) q2
theorem af4{g:Program}{w:World}(hu:uQ)(d0:Bn)(hi:yl)(d3:aoe)(c0:BA (q5 E))(C:Rv)(hw:Qs):bn [q5 E] B pos (aXU g w l A L):=by rw[oc];cases hw;rw[la];refine bik;obtain⟨y,d4,O,Z,a,b,k,f,n,ex,c3,d,K,rb,a0,q3⟩:=P;rw[l_,j_,Ey,apG];obtain rfl:=aXN rb rv;rw[vu O];refine a2G (hsz:=n7 mF z) (ajJ hu) (L3 O K) j (fun h' p c0=>?_);rw[aXP]at p;obtain⟨q,a7,e1,e0,g8,a5,W,_,g6⟩:=p;have i0:=aXQ F k b v;have a6:cE (qE aJh) a aJh:=v (a (br i0 e2 a0) hd q a7 e1 e0 g8 a5 W g6) alH biZ;rw[w M _ (SD O (jI a3) c0 alH a6) (q3 _ (a _ ak a8l (bn i0 e2) (fun G=>?_)))];{rw[ae t d4 (qE aJh) (nH a3)];unfold L1 at m;split at m;{rw[a7 y U m];have Q:=a9 y U;split;rw[jp (Q.1.go t) rb,jp (Q.1.go t) Q.2]};{rw[iO m,l bbe];{rw[OZ];subst m;exact⟨K.go t,rb⟩}}};{rw[aXR,e5]}
def aXY(P:Program)(w:World):TE:=l1 (l p o (Y p) (oN P w amS p uB 0) (Q fP amS))
theorem af5{g:Program}{w:World}(C:Rv)(hw:Qs):AC (aXY g w):=by rw[oc];cases hw;exact rh (by refine f0 (UC eB X.w aO []) (v (a cS (wQ ahy) _ #[] 0 gL tK rfl (bd aCa)) (aW gL) biZ) (h _ _ pY (a [] ak (fun x m=>nomatch m) aY (cj rfl))))
universe z
universe GA
namespace PySem
section z
variable{prog:Program}{w:World}{A:Around}{E:aU}{s:Shared}
def ayh(h:Heap)(z TI d:Addr)(b:Bool)(TO:Addr):Prop:=Iq (wd d)
theorem aXZ{z TI d TO:Addr}{b:Bool}{j:Obj}{Q:nK}(c9:an0)(b1:aay)(g:oy (fG h' ab) z):bl (Xb pM):=bix
theorem ayi{z TI d TO c2 N a7 d5:Addr}{b:Bool}{c0 f7:Nat}{O d7:dW}{x y:Value}{j:Obj}{Q:yb}(c9:an0)(b1:aay)(f:oB bh)(D:aaP)(a3:apy)(a9:apx)(m:aov)(B:aow)(S:nX c0)(b6:K d7 f7 y)(g:∀h',j (fG h' ab) bd5 bd4 (rk h' aO x y) (bh6) a8E):ia pM:=by rw[aaa,EY,ap0,n0 pM,anj,apH,bcR,uE,md,Jx];rw[qT];rw[fJ EJ,C (Iw aIf aIh S (fun U l sb=>cg fO))];dsimp only;rw[qT];rw[fJ EJ,C (Iw baO baP b6 (fun b0 i a=>cg fO))];dsimp only;rw[M1];rw[oe,bh4,C (aEG (px fO) (hsz:=aIU)),ad h (dk (b0.push (jz #[x,y])) a5i) (jz #[x,y]) gL];rw[e0]at h⊢;refine g _ (bU (Xc _ _ aEF (Ob _ _ aEE k))) ?_ ?_ h (Dt (bU ((Dt (Xc _ _ c1 (Gb e))) c o e5 e6 c1 e)));rw[HZ (l.extBut Xc D.i12),HZ i]
theorem ayj{z TI d TO c2 N a7 d5:Addr}{b:Bool}{c0 f7:Nat}{O d7:dW}{j:Obj}{Q:yb}(c7:om)(c9:an0)(b1:aay)(f:oB bh)(D:aaP)(a3:apy)(a9:apx)(m:aov)(B:aow)(J:bbN)(g:u8 (bh6)):ia pM:=by revert c7 c9 b1 f D a3 a9 m B J g;revert prog w A E s z TI d TO c2 N a7 d5 b c0 f7 O d7 j Q;refine@mn _ _ _ _ _ _ _ _ _ _ _ _ _ _ ?_;generalize qf=prog,qg=w,qh=A,qi=E,qj=s,qk=z,ql=TI,qm=d,qp=TO,qq=c2,qt=N,qu=a7;refine Kq;generalize aF=d5,az=b,aE=c0,aD=f7,aB=O,aA=d7,aG=j,aH=Q;intro c7 c9 b1 f D a3 a9 m B J g;rw[aaa,EY,ap0,n0 pM,anj,apH,bcR,uE,md,Jx];rw[qT];rw[fJ EJ];cases S:O[c0]? with|none=>{rw[C (Xd c7 aIf aIh S (fun U e sb a0=>?_)),beY,H0 (sb c o e6 (Iy _ _ e5 q))]}|some x=>rw[C (Iw aIf aIh S (fun U l sb=>cg fO))];dsimp only;rw[qT];rw[fJ EJ,C (Xd c7 baO baP bz (fun b0 e a a0=>?_)),beY,H0 (a c o c1 (Gb q))]
def ayk(h:Heap)(e it:Addr)(i:Int)(d:Addr)(b:Bool)(u:Value):Prop:=f_ e (.type "enumerate") (.fields #[wd d,Ja,nY,wd i,.none,u])
theorem aX0{e it d:Addr}{i:Int}{b:Bool}{u:Value}{j:Obj}{Q:nK}(c9:ih bh i)(b1:aay)(g:oy (D_ i) e):bl (Xb OU):=bix
theorem aX1{e it l d:Addr}{i:Nat}{b:Bool}{u x:Value}{f:dW}{j:Obj}{Q:yb}(a0:ih bh i)(b1:aay)(c6:d≠e)(n1:d≠it)(L:ajK it l i)(a5:De l f)(S:fh f)(R:e≠it)(g:∀h' t D,c (D_ (v i+1)) (Oc it l (i+1)) (gU aO=aa (jz #[e0 i,x])) (f b o (b≠e) (b≠it) ha hc) a8r):ia OU:=by revert a0 b1 c6 n1 L a5 S R g;revert prog w A E s e it l d i b u x f j Q;refine@mn _ _ _ _ _ _ _ _ _ _ _ _ _ _ ?_;generalize qf=prog,qg=w,qh=A,qi=E,qj=s,qk=e,ql=it,qm=l,qp=d,qq=i,qt=b,qu=u;refine aMY;rw[al x f j Q];intro a0 b1 c6 n1 L a5 S R g;rw[zP a0,EY,bfV,n0 OU,de a0 nY (bE (Iw L a5 S (fun b3 n sa=>?_))),cc (ac sa e R a0),de c (wd i) ?_,de c .none ?_,C (a5j ?_),C (DW c AN (fun U h sb=>?_))];replace h:ih U (v i+1):=h;replace sb:Hn e b3 U:=sb;rw[C (DW h (x xK) (fun b0 k a=>?_))];replace k:ih b0 (v i+1):=k;replace a:Hn e U b0:=a;rw[C (aEG ?_),bh4];have G:f b o (b≠e) (b≠it) ha (be (b0.get? b)):=GW (Xc _ _ e5 (Ob _ _ e5 (Iy _ _ e6 q)));rw[C (aX0 (bU k) (bU (G _ _ c6 n1 b1)) (fun hd p sd=>?_)),uE,jG (dl fO),bT (aEH _ _ (v_ (t e0 (fw a0))) gL)];rw[e0]at m⊢;refine g hd dE _ p ?_ m (GW (aEH _ _ e5 (bU (G b o e5 e6 q))));have⟨o,d0,J⟩:=ca (n.extBut Ob (hx R)) Xc (hx R);exact v o (aEH _ _ (hx R) (bU d0)) J
theorem aX2{e it l d:Addr}{i:Nat}{b:Bool}{u:Value}{f:dW}{Q:yb}(c7:om)(a0:ih bh i)(L:ajK it l i)(a5:De l f)(S:f[i]?=ae)(g:u8 aLA):ia OU:=by rw[zP a0,EY,bfV,n0 OU,de a0 nY (bE (Xd c7 L a5 S (fun h' x V G=>?_)))];have⟨o,d0,b0⟩:=G;rw[C (l2 anV (cg (g _ V)))]
universe z
structure af6(prog:Program)(w:World)(A:Around)(T:String)(I:Addr)(a8:bg)(base n:Nat)(St:QN)(p:dL iO eh):Prop where
 mem:I∈a8
 low:h3 (b<aj)
 type:∀i(s:Shared),i1 i->lG pL T
 item:∀i(s:Shared)(Q:yb)(E:aU),c (i<n) (i1 i) (aj<=aO) (f h' D (p i h' aO) (St (i+1) h') a9a a8r) (ia pL)
 done:∀(s:Shared)(Q:yb)(E:aU),i1 n->(j h' D a9a (Q ae nD))->ia pL
 self:∀i(s:Shared)(Q:aU)(E:aU),i1 i->Q pL s->bl (ML pL)
 keep:∀(r:Addr)i h h',i (aj<=r/\(B_ (k4 r))) (St i h) (l b o (b≠r) mh hc) (St i h')
 af7:∀i h h' a,p i h a->ad o pT (be (gU a))->p i h' a
 tup:∀i h a,p i h a->z o pT (we=rA)
section z
variable{prog:Program}{w:World}{A:Around}{R:Qh}{T:String}{I:Addr}{a8:bg}{base n:Nat}{St:QN}{p:dL iO eh}
theorem aX3(W:Cs kC)(d1:a1 n)(r:Addr)(v:aj<=r)(x:Value){b1:Heap}:∀(k i:Nat)(s:Shared)(Y:bg)(c:Nat),b (n-i) k Qn (i1 i) (c7 r apa) (b eN i (nQ Y bh) (EP ha) (f7 r (EP Pf) (eW x c1)) (l9 "list.extend.loop" (eb [.ref r,pL,x]))):=by rw[f3 (nV r v)];intro k;induction k with|zero=>{rw[bi1];have e:i=n:=by{exact mS (cU hi) (cf Po W0)};rw[b_,l3 a5k,h6 ajM,C (ajG s _ _ st (fun h' D eo=>cg (hR _ Y c rfl rfl rfl (eo _ _ g b2) i0 aKp (DA bg_))))];obtain⟨q,l⟩:=apl;exact⟨fW a q bfU,l⟩}|succ k d6=>rw[bi1,b4 lt (i<n) (cf (aR hi) Io),l3 a5k,h6 ajM];have t:=ey (ff v (fw b2));rw[C (aEc i s _ _ lt st t (fun h' D c2 f eo=>?_))];have H:=eo _ _ g b2;rw[md];have G:bd (b≠r) hc (iL aJV):=fun b o U z=>qK z;have u:(Od dm).toArray.size=i:=by{simp[i0]};have ne:∀{j:Nat}{h:Heap}{a:Addr},p j h a->bA r apa->a≠r:=fun{j h a}q z y=>by{rw[bK a3 a9 (W.tup j h a q)];rw[y,z]at a3;rw[a4 a3 (cy (aEJ a9) ax)]};rw[aS d0 (hC (B (Y++[aO]) dm)) a_q];obtain⟨e6,J⟩:aC e6 (dk aJV r) (hq a_q e6):=aW aKM;rw[<-d0]at J;refine aEI H rfl (ms ajM (d6 (i+1) (dp aJV D) (Y++[aO]) e6 (gE (hq (aI n (i+1) lt) Po W0) (hq Io (aI n i hi) (aS n (i+1)))) lt (ajL r _ _ _ ⟨v,(jL (by rw[H]at z;cases z;rfl))⟩ f G) J (ar i0) aKp (DA (G b o e2 bg_)) (fun c1 M C g7 g8 a5 B E K L=>?_))) (t u pU) (ac Array.size_push u (cf lt d1));{rw[List.getElem?_append]at b3;split at b3;rw[T q l apl (fW a q (G _ _ (ne q b2) bfU)) l];{rw[bM d j i];subst d;rw[show j-eN=0 by simp[*]]at b3;rw[b8 d0 aO a b3,xV];exact⟨fW _ c2 (G _ _ (ne c2 H) z),t⟩}};rw[l (hR c1 M C g7 g8 a5 B E K L)]
theorem aX4{s:Shared}(W:Cs kC)(d6:a85)(i:a86)(h7:biN)(d1:a1 n)(r:Addr)(v:aj<=r)(x:Value)(u:Nat)(st:i1 0)(b2:c7 r (r0 (.seq #[] u)))(hR:f7 r (lc a8 Pf) (eW x c1)):fe (jx cN w) kC (aEK uq pL x) (fun fin c1=>match fin with| .done f=>R (.ok f) c1| .again C=>C.quiet=ab/\Hr XS A C R c1) a7c s:=by have g:r≠I:=an (iP _ (fJ (a5l I W.mem) (e▸v)));delta aEK;rw[w4 aLC,aI a3 (Builtin.List.listSameRef uq pL) ah (bj bF)];simp only[a3,ol "list" bJ,ol "tuple" oq,aBr,Dg,iV];rw[C (W.self 0 _ _ _ st (bE EJ))];delta aEv;rw[C (wq aLC d6 ?_),C (wq aLC i fO),C (Xa Yj),jq b2 ?_];have J:=C_ (v7 CL) b2 rfl;refine aEI (hz:=by seq_fits) J rfl ?_;have h:bd (b≠r) ha (iL ((Vw r (v7 CL)).update r a8A)):=jE (qK (qK e));rw[iT ajM (aX3 W d1 r v x (b1:=bh) n 0 _ [] _ rfl cS (ajL r _ _ _ ⟨v,(jL ai)⟩ st h) (C_ a8A J rfl) rfl (fun j a b3=>bB) (fun b o _ e2 z=>h b o e2 z) (fun c1 M C g7 g8 a5 a b c d=>hR c1 M C g7 g8 a5 a b c d))]
theorem aX5{s:Shared}{E:aU}{Q:aU}(W:Cs A.in1.in1)(d6:a85)(i:a86)(h7:biN)(d1:a1 n)(U:aj=aO)(st:i1 0)(g:f7 aj (l b o (b∉a8) ha Pf) (Q (.ref aj) c1)):bl (Iu Ak [pL]):=by subst U;refine callType_codes (Q₁:=fun obj l=>obj=gp/\l=fX Q2) F.called_list (F.typeCall_list_1 _) F.entry_list_init (code_list_new _ xJ) (fun obj a4 a3=>?_);rw[dn rfl a3,ad b2 (dk Q2 aO) (jw #[]) gL,ak (bm b2) (F.args_list_init_2 _ _)];have h:bd (b≠aO) (iL Q2) (iL ((Q2).update aO a_g)):=jE (qK e);have f:B_ (gK aO):=fun o z=>iH (fw z);have k:St 0 Q2:=ajL aO _ _ _ ⟨aY,f⟩ st (fun b o _ z=>bU z);have m:B_ (be (dk Q2 aO)):=fun o z=>ai;have b4:=ajL aO _ _ _ ⟨aY,m⟩ k h;rw[gf (do{let a7<-Builtin.List.listItems (.ref s.heap.objs.size);Builtin.List.listUpdate (.ref s.heap.objs.size) (fun _=> #[]);letGo a7.toList.reverse;Builtin.List.listExtendWith (.ref s.heap.objs.size) (.ref I) .none}),md];delta bkd;rw[C (gl b2 fO),gf (updateSeq aO (as #[])>>=as (letGo (#[]:dW).toList.reverse>>=as (aEK gp pL .none))),jq b2 ?_];have J:=C_ a_g b2 rfl;rw[C (zX ?_)];refine aX4 W d6 i h7 d1 aO aY .none _ b4 J (fun c1 M C g7 g8 a5 a b c d=>?_);exact bd (g c1 M C g7 g8 a5 a b c (fun x o e7 z=>d x o e7 (gF (fw z)) (h x o (gF (fw z)) (bU z))))
universe z
section z
variable{prog:Program}{w:World}{A:Around}
theorem aX6:hH "zip" "__len__":=YD
theorem aX7:hH "zip" "__length_hint__":=YD
theorem aX8:hH "enumerate" "__len__":=YD
theorem aX9:hH "enumerate" "__length_hint__":=YD
theorem IsListIter.at'{h h':Heap}{it l:Addr}{i:Nat}(x:CT it l i)(e:lA it it):Oc it l i:=aMJ
theorem IsList.at'{h h':Heap}{l:Addr}{O:dW}(x:ajN l O)(e:lA l l):h'.IsList l O:=aMJ
def aX_(base:Nat)(z TI TO c2 N a7 d5:Addr)(O d7:dW)(i:Nat)(h:Heap):Prop:=((i=0/\bgR/\∃a b,rk h TO a b)\/∃d b j,fG h b/\bA d j/\bcW)/\oB h/\N (CT c2 a7 i) (CT N d5 i) (ajN a7 O) (ajN d5 d7)
theorem aX'(c7:om){base z TI TO c2 N a7 d5:Addr}(D:aaP)(h2:z<aj)(e2:TO<aj)(i8:c2<aj)(b3:N<aj)(t:TI<aj)(u:a7<aj)(H:d5<aj)(O d7:dW):af6 cN w A "zip" z [z,TO,c2,N] aj aJH (aX_ aj z TI TO c2 N a7 d5 O d7) (fun i h a=>∃x y,nr/\A d7 y/\rk h a x y)where mem:=bJ;low:=dc Bl;type:=fun i s x=>by{rw[DR x.1,l (bm q),l (bm q)]};item:=K6 (by rw[aMZ];have S:A O O[i]:=lN eO;have b6:A d7 d7[i]:=lN eO;have d1:E c (c∉[z,TO,c2,N]) (N (c≠z) (c≠TO) (c≠c2) (c≠N)):=fun c b0=>ai;rw[Lj rfl];{refine a5q D c9 f n a3 a9 m B S b6 (fun h' z1 h6 k7 l9 v I p=>dj (.inr (a aO ah _ z1 (aP v C))) (p _ _ D.TIz D.TITO D.TIi1 D.TIi2 f) (p _ _ ajR D.l1TO D.l1i1 D.l1i2 e) (p _ _ ajQ D.l2TO ajP D.l2i2 e));rw[bgi];exact p c o e5 e6 c1 i0 e};{refine ayi c9 b1 f D a3 a9 m B S b6 (fun h' z1 k7 l9 v p=>?_);have c6:d≠z/\d≠c2/\d≠N:=v (qY h2) (qY i8) (qY b3);refine dj (.inr (a d ab j z1 (p _ _ c6.1 c6.2.1 c6.2.2 b1) G c0)) (p _ _ D.TIz D.TIi1 D.TIi2 f) (p _ _ ajR D.l1i1 D.l1i2 e) (p _ _ ajQ ajP D.l2i2 e);rw[bgi];exact p c o e5 c1 i0 e});done:=fun s Q E st g=>by{rw[aMZ];have J:O[aJH]?=ae\/d7[aJH]?=ae:=by{rw[xr]};rcases zs with⟨_,c9,a,b,n⟩|⟨d,b,j,c9,b1,G,c0⟩;rw[lO (a5p c7 D c9 f n a3 a9 m B J (tD aGo)) (p c o b0.1 b0.2.1 (aS b0) b0.2.2.2 e),lO (ayj c7 c9 b1 f D a3 a9 m B J (tD aGo)) (p c o b0.1 (aS b0) b0.2.2.2 e)]};self:=IN (by rw[DR st.1,l (aEL q g)];{have Z:lG pM "zip":=bm q;refine W_ Z ajO (qR ajO Z a5o (bX "zip" Z a5n g) (a5m _))});keep:=K_ (by rw[aMZ];have ne:∀{a:Addr},a<aj->a≠r:=bcz;rw[r ?_ (aC (ne t) f) (mX a3 i8) (mX a9 b3) (Iz m (eN (sf u))) (Iz B (eN (sf H))),Lj e,cL,Kr (a d b j bbt (aC pH b1) G c0)]);af7:=fun i h h' a⟨x,y,b4,b9,e7⟩k=>a x y b4 b9 (k _ e7);tup:=fun i h a⟨x,y,b4,b9,e7⟩=>bm e7
def aYa(base:Nat)(e it l:Addr)(O:dW)(i:Nat)(h:Heap):Prop:=((i=0/\It 0)\/∃d b u j,ih h i/\bA d j/\bcW)/\CT it l i/\ajN l O
theorem aYb(c7:om){base e it l:Addr}(R:e≠it)(c1:l≠e)(f:l≠it)(h2:e<aj)(e2:it<aj)(i8:l<aj)(O:dW):af6 cN w A "enumerate" e amW aj iu (aYa aj e it l O) (fun i h a=>∃t x,nr/\bA a (jz #[e0 i,x]))where mem:=bJ;low:=dc Bl;type:=fun i s x=>by{rw[DS x.1,l (bm q),l (bm q)]};item:=K6 (by rw[aMc];have S:=lN hi;rw[cd d2 (ae (i+1)) (v i+1)];have d1:E c (c∉amW) (c≠e/\c≠it):=fun c b0=>ai;rw[nF rfl a0];{refine a2M a0 L a5 S R (fun h' z1 h6 k7 l9 v=>q6 _ (.inr (a aO ah _ _ z1 k7 rfl C)));rw[y_ (d1 c b0)];exact bf8};{have c6:d≠e/\d≠it:=⟨qY h2,qY e2⟩;refine aX1 a0 b1 c6.1 c6.2 L a5 S R (fun h' t D z1 h6 k7 v=>q6 D (.inr (a d ab u j bB (v _ _ c6.1 c6.2 b1) G c0)));rw[y_ (d1 c b0)];exact bf8});done:=fun s Q E st g=>by{rw[aMc];have J:O[iu]?=ae:=aEt aY;rw[nF z a0,lO (a2L c7 (i:=iu) (old:=a7) Bk L a5 J (tD aGp)) (p c o b0.2 q),lO (aX2 c7 a0 L a5 J (tD aGp)) (p c o b0.2 q)]};self:=IN (by rw[DS st.1,l (aCc q g)];{rw[zP q];refine W_ Z a5r (qR a5r Z F.entry_enumerate_iter (bX "enumerate" Z F.slot_enumerate_next.lookup g) (F.args_enumerate_iter_1 _))});keep:=K_ (by rw[aMc];have ne:∀{a:Addr},a<aj->a≠r:=bcz;rw[aa ?_ (mX L e2) (Iz a5 (eN (sf i8))),nF z c9,cL,Kr (a d b u j bbt (aC pH b1) G c0)]);af7:=fun i h h' a⟨t,x,b4,b9⟩k=>d t x b4 (k _ b9);tup:=fun i h a⟨t,x,b4,b9⟩=>bm b9
universe z
universe PySem
namespace GA
open PySem PySem.Spec PyProof.Rows L2
section z
variable{X:Cx}{pins:bw}{s:Shared}{M:L2.St}{H b7:Hp}{h':Heap}
theorem aYc{t':Nat}(I:aZ)(k:ZE)(d:cY H b7)(a6:hy (b7 b) (Pe\/(aO<=b/\cE b7 b o))):aR b7 uJ:=by refine I.un (a (wq Yd) a89 (fun b u q n _=>?_) bdr (xa (gy q)) (yv (gy q)) (fun b c5 q=>o7 (dd (gy q)))) a8z;{cases e:b7 b with|none=>{rfl}|some o=>rcases a6 b o e with z|⟨z,_⟩;rw[ay,l (iH (fJ (fw q) z))]};{rcases a6 b o e with z|⟨_,z⟩;rw[l ((er b o z).qz bd_ (fun c q=>gy q) (zJ (gy q))),l z]}
noncomputable def lay(H:Hp)(l:Addr)(Y:bg)(L:ZY):Hp:=il (aw (b=l) (.lst Ay) (match L b with|some O=>aa tO|none=>H b))
theorem aYd{t':Nat}(I:aZ)(k:ZE){l:Addr}{Y:bg}{c:Nat}{L:ZY}(a5:aO<=l)(at_:gU l=aa apa)(z:a1 eN)(c6:j b O (hI O) (aO<=b/\Jk/\∃ar:aM,EF/\Mv h' b eT)):aR aMs uJ/\cY H aMs:=by rw[aj sm aMs (db (by have lt:=I.dt.lt e;delta lay;rw[aO (hi lt a5)];cases q:L b with|none=>{exact e}|some O=>rw[dT (fJ lt (c6 b O q).1) (iP _)])),v (aYc I k sm a8z) sm];unfold lay at e;rw[T b l];{rw[a6 (aJ q),dU,e_];refine .inr (c a5 ag (Od dm) c ?_ at_);clear at_ z sm;rw[wz Y]};{rw[a6 (bj q)];cases d:L b with|none=>{rw[a6 d];exact YO}|some O=>rw[a6 d,dU,df a3 e2 (c6 b O d)];exact .inr (v a3 a9 e2)}
universe z
theorem aYe{H:Hp}{l:Addr}{Y:bg}{L:ZY}:b7 (lay H l Y L l) Ay:=by delta lay;rw[cO]
theorem aYf{H:Hp}{l b:Addr}{Y:bg}{L:ZY}{O:af}(ne:b≠l)(h:hI O):lay H l Y L b=aa tO:=by delta lay;rw[bj ne,h]
inductive UD(a8 b7:Hp)(l:Addr)(n:Nat)(P:dL V V):Prop|mk:cY a8 b7->gE l->∀Y:bg,i (eN=n) (b7 (b7 l) Ay) (bl a Y a (gE a/\∃x y,P j x y/\b7 a=aa ZS)) (UD a8 b7 l n P)
inductive jLZ(K:Fg)(Q:VK)(vs:af)(a8:Hp):Prop|mk:pc (p1 (min bx oW) baj) (jLZ K Q vs a8)
def aYg(K:Fg)(d6:TA):TE:=le (jLZ K Q)
inductive jLE(K:Fg)(Q:VK)(vs:af)(a8:Hp):Prop|mk:f a O (vs=uo) Yw (p1 bx (BM O)) (jLE K Q vs a8)
def aYh(K:Fg)(d6:TA):TE:=le (jLE K Q)
open Classical in theorem aYi{X:Cx}{pins:bw}{s:Shared}{M:L2.St}{H:Hp}{h':Heap}{t':Nat}(I:aZ)(k:ZE){l:Addr}{Y:bg}{c n:Nat}{P:dL V V}(a5:aO<=l)(at_:gU l=aa apa)(i0:eN=n)(z:a1 n)(c6:bl a Y a (aO<=a/\∃x y u v,N (P j x y) pS Yp (gU a=aa (jz #[u,v])))):z b7 (aR b7 uJ) (UD H b7 l n P):=by have ex:E b (apo) (∃O:af,bhA):=fun b e0=>by{rw[iK b8 e0];obtain⟨_,x,y,u,v,_,r1,r2,e⟩:=c6 j b b8;exact a _ x y u v rfl r1 r2 e};let L:ZY:=il (if q:apo then aa (agQ (ex b q))else ae);have g:j b O (hI O) ((apo)/\bhA):=w6 (by by_cases q:apo;{have:hI (agQ (ex b q)):=dif_pos q;rw[amF,dU];exact⟨q,aA6 (ex b q)⟩};{have:IX:=dif_neg q;rw[amF,dU]});obtain⟨d0,sm⟩:=aYd (t':=t') (L:=L) I k a5 at_ (t i0 z) (w6 (by obtain⟨⟨j,b8⟩,x,y,u,v,ex,r1,r2,d3⟩:=g b O e;rw[g (c6 j b b8).1 ?_ [u,v] ?_ _ d3 _ rfl];{rw[ex];show a1 2;decide};rw[Z ex (h8 r1 r2)]));rw[e _ d0 sm (zo a5) Y i0 aYe aKp];obtain⟨w,x,y,u,v,p,r1,r2,e⟩:=c6 j a b3;have g9:aC O (L a) O:=aW (dif_pos ⟨j,b3⟩);obtain⟨O,g9⟩:=g9;obtain⟨_,b1,d7,F,t,d,h,i,d3⟩:=g a O g9;rw[Zj];injection d3 with d3;injection d3 with _ _ d3 _;injection d3 with d3 _;have f:u=F:=cZ (gC (fun z:dW=>z[0]?) d3);have B:v=t:=cZ (gC (fun z:dW=>z[1]?) d3);rw[rK];subst B;rw[M ne a l bL,aP (zo w) x y p];rw[aYf ne g9,d,RelV.inj r1 h,RelV.inj r2 i]
theorem af8{O:af}{b1:aM}{j:Nat}{u:Value}(q:oa)(h:aa b1 u):z x (aa O x) pS:=mA q h
section z
variable{X:Cx}{e b9:Expr}{d6:TA}{p f6 pos d:Pos}
theorem lt5{n m k:Nat}(h:m=n+5)(c3:k<5):n+k<m:=ag
theorem ayo{n m a:Nat}(h:m=n+5)(l:a<n):a<m:=bn l h.g
theorem le5{n m:Nat}(h:m=n+5):n<=m:=ag
theorem share{s c1:Shared}(g7:Vf=sT)(g8:a5s=zm)(a5:Vg=CO):c1=dp mH ahr:=by cases s;cases c1;simp at*;exact v g7 g8 a5
theorem aYj(b0:fR)(k:amL)(l:amU)(d8:aHy)(c4:aHF)(b3:aHQ)(c0:aKu)(b8:gf d [b9])(i:beg)(A:Zk):FM X.K:=by rw[fz];refine Oe (F2 I k l (bH:aKk) (Vt ?_ i A) ax ax);rw[i];rw[hi ash b8 ax,JU,biB,l_];cases r1 with|cons J C=>cases C with|cons B C=>rw[oc,hQ];cases B;rw[bfs];obtain⟨t,d4,D,h6⟩:=CU c6;have F:=e9.lt;have i5:=D.lt;rw[qN D.isList (aBC ?_)];have a7:min wj a2k=min bx oW:=by{simp[CS,d4.length]};have W:=aX' (prog:=eB) (w:=X.w) (A:=a5u) iz (base:=Vx) (a5t fY a b F i5) aoM aoM (lt5 (k:=0) G ax) aoM aoM (ayo G F) (ayo G i5) eT Vy;rw[a7]at W;rw[dm aX6 aX7 bc' (c (.inl (a rfl c9 _ _ n)) f a3 a9 (zp ajS) (zp D.isList)),a8 baj (by refine bfb;rw[iZ (fw z),Br,k3 m,ao0,ao0,ay,ao0]) (le5 G) bc' (by obtain⟨⟨u,v,hu,d3,c5⟩,w⟩:=apl;rw[dI (cn (le5 G) w),c_ c8 (aa ar u) hu,c_ g (aa t v) d3,ln R (af8 rv c8),ii Z (af8 d4 g)];exact a x y u v ⟨S,b6⟩ R Z c5)];rw[bgA];exact bfl
universe z
universe GA
namespace GA
open PySem PySem.Spec PyProof.Rows L2
section z
variable{X:Cx}{e b9:Expr}{d6:TA}{p f6 pos d:Pos}
theorem ayq{n m k:Nat}(h:m=n+2)(c3:k<2):n+k<m:=ag
theorem aYk{n m a:Nat}(h:m=n+2)(l:a<n):a<m:=bn l h.g
theorem ayr{n m:Nat}(h:m=n+2):n<=m:=ag
theorem aYl(b0:fR)(k:amL)(l:amU)(d8:aHx)(c4:aHE)(b3:QO)(c0:RC)(i:bef)(A:Zk):FB X.K:=by rw[fz];refine Oe (F2 I k l (bH:aKk) (Vt ?_ i A) ax ax);rw[i];rw[hi a2O rfl ax,JU,y O ex b2 q d2,l_];cases r1 with|cons J C=>rw[oc,hQ,bfs];have F:=e9.lt;rw[qM ajS (aBC ?_)];have W:=aYb (prog:=eB) (w:=X.w) (A:=a5u) iz (base:=Vx) (e:=fY+1) (it:=fY) (l:=a) (a2N _) (gF (wk F)) (gF F) (ayq G ax) (ayq (k:=0) G ax) (aYk G F) eT;have a7:wj=bx:=by{simp[CS]};rw[a7]at W;rw[dm aX8 aX9 eO (v (.inl (ah _ a0)) L (zp ajS)),a8 (BM O) (by refine bfb;rw[iZ (fw z),Br,de m rfl,ao0,ay]) (ayr G) eO (by obtain⟨⟨t,v,d3,c5⟩,w⟩:=apl;rw[dI (cn (ayr G) w),cb g (aa ar v),ii Z (af8 rv g)];exact a (.int (cf j)) y (e0 j) v (bd b6) (dv t) Z c5),J bgA bfl]
theorem aYm{P:Program}{w:World}{k:Key}{v:Value}(h:z7 v):gS (kV k) v:=by cases k with|inl n=>{rw[ev (aA7 h)];exact dv t}|inr x=>rw[ev (a0_ h)];exact dv t
theorem aYn{F:gw}{vs:am1}(J:tW)(j:Nat):(F[j]?.map fN)=vs[j]?.map fN:=by induction J generalizing j with|nil=>{rfl}| @cons a b l m h t d6=>cases j with|zero=>{simp[*]}|succ j=>simpa using d6 j
theorem aYo{P:au Nat V}{O:af}{b1:aM}(l:bx=lD)(h:∀(j:Nat)x u,aa O x->aa b1 u->pS):oa:=by induction O generalizing b1 with|nil=>{rw[J (NU l.symm) .nil]}|cons x O i=>cases b1 with|nil=>{exact i0 (a5v _ l)}|cons u b1=>rw[Lc l]
inductive ays(vs:af)(H:Hp)(Q:VK):Prop|mk:∀(d:Addr)(F:gw),A [nJ] (bh d qd) (ad l xj (Q cC (ap l a8W))) (ays vs H Q)
theorem aYp(b0:fR):BF X Ak ays:=by rw[Zx,R d F hd q h];rw[VA J];rw[ae b2 ws i m (er d _ hd)];obtain⟨e1,c2⟩:=m.dictAt;have i0:=Mu i;refine PySem.W.kdl_call (PySem.W.kdl_dict (knd:=aJy) (kvs:=ws) (ep:=e1) b2) iz c2 ai (fun h' D c C c3 a7 a=>m gp (ap aO a8W) (Dd c3 aY (a ai c.toList C (aYo (P:=AF) (by have:=a.1;simp;exact ahY bF E4) (fun j x u S hu=>?_)) eO)) (q _ pY));obtain⟨k,y,b6,b⟩:=a.2 j u ai;rw[g5 (aYn i j)];rw[b6]at c1;rw[gA S];cases c9:F[j]? with|none=>{simp_all}|some w=>rw[c9]at S c1;have b4:kV w.1=x:=by{simp at*;lia-abstractProof};have b9:w.1=k:=by{simp_all};rw[<-b4,b9];exact aYm b
universe z
section z
variable{X:Cx}
inductive af9(K:Fg)(x:V)(y:V)(H:Hp)(Q:VK):Prop|mk:∀p a b c5 c7 dx,b y fP (nm [bc,cV]) AS (ct x dx) (j (ct bc c5) (ct cV c7) (iJ dx) (iJ c5) (iJ c7) (dy (jy c5 dx||jy c7 dx)) (af9 K x y H Q))
theorem aYq(hu:zx+128<gG):be .In (af9 X.K):=by rw[xx];obtain⟨p,a,b,c5,c7,dx,rfl,e0,ne,S,a3,a9,c,a4,b5,q⟩:=h;cases Z;rw[a1 J d5 I3,fK m (MZ I dx x v S R),fW r1 (MZ I c5 _ bc a3 rfl),f4 r2 (MZ I c7 _ cV a9 rfl)];have d2:ar=[bc,cV]:=by{cases J with|cons e7 i8=>cases i8 with|cons f5 d6=>cases d6;cases e7;cases f5;rfl};subst d2;refine a2f (J (v z bc (jy c5 dx) (jy c7 dx))) d5 aGb ZW;{have room:∀{d d':PyData},iJ d->X.A.in1.units+min d.depth d'.depth<gG:=fun{d d'}hd=>SeqAt.room_of_shaped hd fp;rw[de (aI hw) rfl,Z cO (dt c5 r1 a4 a4),Z (fg (ne (bt (a5b z)))) (dt c7 r2 b5 b5)]};rw[EW]
universe z
universe GA
namespace GA
open PySem PySem.Spec PyProof.Rows L2 _root_.GM
section z
variable{prog:Program}{w:World}{A:Around}{E:aU}{s:Shared}
theorem aYr{d:Addr}(hd:li d):MeetsIn cN w (Builtin.«dict.__len__» (eb [nJ])) (fun _ R s=>∃o a7 e1,gK d/\gE=Pw/\eW (.int ck dE) O0):= .of_wp (fun A R s⟨o,a7,e1,d0,a,h⟩=>by rw[td (dictSize d)];delta dictSize;rw[fJ (wpAny_dictEntries d0 a fO),C (wpAny_pendingCount_other hd (a5d ?_)),J HG h])
theorem aYs{d:Addr}{o:Obj}{a7:fv VG}{e1:Nat}{Q:aU}(hd:li d)(d0:gK d)(Z:a8V)(a:gE=Pw)(a9:v ck<2^63)(h:Q a7B (oP (dE+1+1))):im (a5x (eb [nJ])) (fun fin c1=>z J (fin= .done (.ret J)) (Q J c1)):=by delta a5x;refine bE (m:=oneArg "len" _) (cg (bE (m:=callSpecial? nJ a7u) (ce "__len__" Z a5w (call_meetsIn a5w Z F.entry_dict_len (F.args_dict_len_1 _) (aYr hd) (a o a7 e1 d0 (aw a))))));rw[C (vZ (fd (zX ?_))),aO fp,J (bj (fZ (Kt z a9))) (bE (a5j (px h)))]
theorem aYt(m:Nat):(v m !=0)=nb m:=bz
theorem aYu{d:Addr}{o:Obj}{a7:fv VG}{e1:Nat}{Q:nK}(hd:li d)(d0:gK d)(Z:a8V)(a:gE=Pw)(a9:v ck<2^63)(h:Q (nb ck) (oP (dE+1+1))):bl (aBp nJ):=by have R:(v ck !=0)=nb ck:=aYt _;have O:im (runValue (.builtin "len" (eb [nJ]))) baX:=by{refine aEh (Oa entry_len ?_);rw[a5y plain_len _];exact mg (aYs (Q:=baX) hd d0 Z a a9 (bd h)) (fun fin c1 h'=>by obtain⟨J,rfl,e0⟩:=h';exact e0)};delta aBp;(first|rw[C bfc]|rw[C (fd bfc)]);(first|rw[C bfd]|rw[C (fd bfd)]);first|exact bE bgv|exact bE (fd bgv)
universe z
section z
variable{X:Cx}{a:Expr}{d6:TE}
theorem aYv:∀{F:uk},(∀k,FF=ae)->F=[]|[],_=>rfl|x::J,h=>by have:=h x.1;unfold vG at this;rw[am oY,uu]
theorem aYw{g:Program}{w:World}(b3:fV)(a0:apt)(C:Rv)(hw:Qs):CP (∃d f n,x=nJ/\oN g w L d f n/\∀b:cb,(b=ah↔∀k,f k=ae)->Q b L):=by rw[oc];cases hw;rw[fz];refine aBi (lO b3) (a0 _);rw[jF x];obtain⟨d,f,n,rfl,D,q⟩:=d2;cases r1;obtain⟨F,a3,a9,e2,e5,z,hd,o,a7,e1,g7,g8,a5,W,g6⟩:=af3 r D;have e8:ck=ia:=by{rw[it W,o0 mF]};rw[Bx];refine aYu hd g7 (aXS r D) a5 (by rw[e8];lia-abstractProof) (v a8 (r.tok _) (q _ ?_));rw[e8];constructor;{intro e k;have:F=[]:=ai;rw[<-e5 k,this];rfl};{intro e;have:F=[]:=aYv (cj (t e5 (e k)));rw[od];rfl}
universe z
section z
variable{prog:Program}{w:World}{A:Around}{R:Qh}{I:Addr}{a8 d:bg}{n:Nat}{P:au Nat cR}{St:QN}
noncomputable abbrev dfl:Jl:=[(a75,.none)]
theorem aYx(W:bic)(bt:aHX)(p:bhN)(r:Addr)(g:r∉a8):∀(k j:Nat)(s:Shared)(i:Value)(c:Nat),b (n-(j+1)) k (j+1<=n) (i1 (j+1)) (P (IA bt j) i) (c7 r (hq #[i,i] c)->(∀v h' D,bbq->lc d hc->eW v nD)->bgb):=by revert W p g;revert prog w A R I a8 d n P St bt r;refine@mn _ _ _ _ _ _ _ _ _ _ _ _ _ _ ?_;generalize qf=prog,qg=w,qh=A,qi=R,qj=I,qk=a8,ql=d,qm=n,qp=P,qq=St,qt=bt,qu=r;intro W p g;have B:=a_7;rw[aMQ];intro k;induction k with|zero=>{rw[biH];have k8:j+1=n:=by{exact mS (cU b8) (cf (aS n (j+1)) W0)};rw[l3 aEM,h6 Of,aI_,C (ajT (ajG s _ _ (k8▸z) (fun h' D Y=>?_))),jq (Y r _ B b2) (bE (zX (cg (hR i _ D (t (mS (Nat.sub_le_of_le_add (Nat.le_of_sub_eq_zero c3)) (VF b8)) y) (wg aKG)))))]}|succ k d6=>rw[biH,aO Z (j+1) n (cf (aR b8) Io),l3 aEM,h6 Of,aI_,pv (j+1) Z];have H:=Y r _ B b2;rw[Iz (tryCatch (bke [v,v] (a5z .Lt v i>>=_)) _),C (ajT (vZ (bE (p (j+1) (IA bt j) v i _ _ _ C y (bE (vZ (vW (bE (zX fO)))))))))];cases U:bt (j+1) (IA bt j)with|true=>{rw[cO];rw[jq H (bE (zX ?_))];rw[m];rw[z v _ bb3 (by rw[i9 IA U];exact C) aKM bgl,bhb,l (hR t l q u (Ca aKG))]}|false=>rw[uE,C (zX ?_)];rw[m];rw[z i c T (by simp only[IA,U,Dg,iV];exact y) H (fun t l q u x=>hR t l q u (Ca aGh))]
theorem aYy(W:bic)(bt:aHX)(p:bhN)(r:Addr)(g:r∉a8){s:Shared}{c:Nat}(z:i1 0)(b2:c7 r (hq #[] c))(b1:n=0->j h' D (lc d hc) (eW .none nD))(hR:0<n->∀v h' D,bbq->lc d hc->eW v nD):bgb:=by rw[aMQ,l3 aEM,h6 Of,aI_];by_cases d1:0<n;{rw[pv 0 d1];have H:=Y r _ a_7 b2;rw[Iz (updateSeq r (as #[v,v])),jq H ?_];rw[m];rw[iT Of (aYx W bt p r g _ 0 _ v _ rfl d1 bb3 C aKM bgl),bhb,l (hR d1 t l q u (Ca aKG))]};{rw[cs f5 n 0,C (ajT (ajG s _ _ Jc (fun h' D Y=>bE (Xa (cg (b1 f5 h' D (wg aGh)))))))]}
universe z
section z
variable{prog:Program}{w:World}{A:Around}{E:aU}{s:Shared}
theorem aYz(a v:Value):W9 "min" ⟨[a],[(a75,v)]⟩:=by delta W9;kernel_rfl
theorem aYA{l:Addr}{O:fv (Int×Tok)}{Q:aU}(c7:om)(a5:De l (Og O))(b1:iu=0->bbO)(a3:0<iu->∀v h' D,ap (Og O) (IA (oF (bT (ajU O i) (ajU O j))) (iu-1)) v->(O1)->Q v nD):bc5:=by revert c7 a5 b1 a3;revert prog w A E s l O Q;refine Kq;generalize aF=prog,az=w,aE=A,aD=E,aB=s,aA=l,aG=O,aH=Q;intro c7 a5 b1 a3;rw[aMQ];have e8:(Og O).size=iu:=by{simp[Og]};refine kmb_tree F.kind_min F.plain_min F.entry_min (aYz _ _) ?_;rw[C (W8 (dR (Builtin.Builtins.bindParams "min" ["key","default"] 0 ⟨[],dfl⟩) (eU [ae,aa .none])) (bE (fd (iter_intList a5 (fun g e st h a=>?_))))),b_,C (M4 ?_)];rw[m];have W:=aBT (prog:=cN) (w:=w) (A:=kC) c7 _ l a (Og O);have a7:∀{h':Heap},(f b o (b∉[aO]) (b≠f2 aKA) (iL ((aKA).push (jw #[]))) hc)->O1:=fun{h'}c3 b o e=>by{have lt:=hh;refine c3 b o (fun c4=>?_) pH (bU xp);rw[ay];{simp_all;lia}};rw[iT Of (aYy W _ (CmpOf.ints_lt (ajU O) (hm a5A)) _ (fun c4=>iP _ (h _ c4)) (aEN _ _ _ st (x5 xp)) gL (fun z h' D c3=>?_) (fun z v h' D C c3=>?_)),l (b1 (e8.symm.trans z) h' D (a7 c3))];{refine a3 (Nat.lt_of_lt_of_eq z e8) v h' D ?_ (a7 c3);rw[<-e8];exact C}
theorem aYB{l:Addr}{ar:aM}{ns:aQ}{Q:aU}(c7:om)(a5:De l eT)(hi:sY ar ns)(b1:ns=[]->bbO)(h:∀h' D d5 t',i (O1) (d5∈ns) (ad a (a∈ns) (d5<=a)) (Q (.int d5 t') nD)):bc5:=by rw[cl O hi.allInts.items];have d1:numsOf (pB (Og O))=ns:=by{rw[xN];exact hi.numsOf};rw[nums_intItems]at d1;subst d1;rw[e]at a5;refine aYA c7 a5 (fun z h' D c3=>b1 ai h' D c3) (fun G v h' D d3 c3=>?_);rw[ev (a5A d3),kF (argBest_lt (ajU O) (iu-1))];refine h h' D _ t c3 ?_ (fun a b3=>?_);rw[Z numAt_eq (PySem.getD_mem bz)];{rw[bC j b8 (mem_getD b3)];rw[bA,Vi]at b8;rw[<-numAt_eq];exact a9 j (bn b8 (aS iu 1))}
universe z
section z
variable{X:Cx}{e:Expr}{d6:TA}{p pos kp q:Pos}{B:Nat}
def aYC(K:Fg)(d6:TA):TE:=le (fun vs a8=>∃(a:Addr)(ns:aQ),vs=uo/\fW K a8 a xO/\(ns=[]->Q .bC a8)/\o m (m∈ns) (ad y (y∈ns) (m<=y)) (Q (.int m) a8))
theorem aYD(b0:fR)(d8:Gl X "min")(c4:ge "min")(b3:QO)(c0:RC):KD X.K:=by rw[fz];refine Oe (F2 I d8 c4 (bH:a'5) (callWith_kw (r5 (fun b1 a4⟨vs,a8,r,r1,a,ns,ex,e0,N,d2⟩=>?_)) (dd c0) (dd c0) rfl rfl) ax ax);rw[l_];rw[VA r1];refine kws_cons (wpAny_Constant_none (kws_nil ?_));rw[iU a5 (CU e0)];exact aYB (r.ok.hd b0) ahn rv.ints (fun z h' D c3=>m .bC a8 (ag5 c3) (N z)) (fun h' D m t' c3 a3 a9=>a (.int m) a8 (ag5 c3) ek (d2 m a3 a9))
universe z
universe GA
namespace PySem
section z
variable{prog:Program}{w:World}{A:Around}{E:aU}{s:Shared}
theorem aYE{z TI d TO:Addr}{b:Bool}{Q:nK}(c9:an0)(b1:amy)(g:Y8):bl (Xb pM):=by delta Xb;rw[r6 (wd d),a7O];rw[iU];have al:im (a5B d) (fun o c1=>o=ae/\c1=s):=by{delta fe;exact vz (bB:amy/\s=s)};rw[C (mg al (fun o c1 P=>?_)),eK b4 P,Ju];subst b9;simp only[Option.isNone_none,mM];exact cg g
abbrev af'(h:Heap)(z TI TO:Addr)(v:Value)(b:Bool):Prop:=Iq v
theorem aYF{z TI d TO c2 N a7 d5:Addr}{fl:Bool}{c0 f7:Nat}{O d7:dW}{x y a b:Value}{Q:yb}(D:aaP)(c9:fG bh fl)(b1:amy)(f:oB bh)(n:a9Y)(a3:apy)(a9:apx)(m:aov)(B:aow)(S:nX c0)(b6:K d7 f7 y)(g:∀h',c (ayh h' z TI aO ah TO) (tt h') bd5 bd4 (rk h' aO x y->(ap9)->a8E)):ia pM:=by revert D c9 b1 f n a3 a9 m B S b6 g;revert prog w A E s z TI d TO c2 N a7 d5 fl c0 f7 O d7 x y a b Q;refine@mn _ _ _ _ _ _ _ _ _ _ _ _ _ _ ?_;generalize qf=prog,qg=w,qh=A,qi=E,qj=s,qk=z,ql=TI,qm=d,qp=TO,qq=c2,qt=N,qu=a7;refine@aqE _ _ _ _ _ _ _ _ _ _ _ _ _ ?_;generalize(ho).1=d5,aV ho=fl,bX ho=c0,cA ho=f7,b1 ho=O,cu ho=d7,du ho=x,d7 ho=y,fq ho=a,k8 ho=b,a8Y=Q;intro D c9 b1 f n a3 a9 m B S b6 g;rw[aaa,EY,ap0,n0 pM,anj,apH,bcS];rw[cO];rw[C bhL,bgt,md,be8,fJ (aET ?_),C (Iw aIg aIi S (fun g8 f6 b5=>fO))];have d8:=beb;rw[C (gl d8 (bE (aES d8 (fun a5 j c8=>?_))))];replace j:rk a5 TO x b:=j;rw[C (zX a8n),C (Iw beh bei b6 (fun W e2 d9=>fO)),eh (ajV _ _ D.TOi2 j),C (gl I (bE (aES I (fun g6 J f9=>?_))))];replace J:tt g6:=J;rw[C (zX (cg (fd (gl J (bE (aEG ?_))))))];have e8:aER=aO:=by{rw[f9.1,d9.1,c8.1,b5.1,a4.1]};have v:=Oh _ _ a5E (ajV _ _ aEF a'_);have k:=fw v;rw[md];delta Builtin.SmallTypes.ownedTupleHandOut;rw[C (DW (bU v) p_ (fun l p R=>?_))];replace p:af' l z TI TO (wd aER) fl:=p;refine DW p AN (fun i h d6=>?_);replace h:af' i z TI TO (wd aER) ah:=h;have G:l c o (c≠z) (be (g6.get? c)) (be (i.get? c)):=fun c o e5 e=>gt e5 e5 xp;rw[cN (gt (v_ k) (v_ k) gL)];rw[e8]at h q;rw[jG (dl fO)];rw[e8];exact g i h (G _ _ aEQ J) ((ca (ca (f6.extBut IB a5D) ajV D.i12) Oh a5D).at (eN (G _ o aEP e))) ((e2.extBut Oh a5C).at (eN (G _ o aEO e))) q (Dq (G c o e5 ((Dq (Oh _ _ e6 (ajV _ _ i0 (G_ e)))) c o e5 e6 c1 i0 e)))
theorem aYG{z TI d TO c2 N a7 d5:Addr}{fl:Bool}{c0 f7:Nat}{O d7:dW}{a b:Value}{Q:yb}(c7:om)(D:aaP)(c9:fG bh fl)(b1:amy)(f:oB bh)(n:a9Y)(a3:apy)(a9:apx)(m:aov)(B:aow)(J:bbN)(g:u8 (ap9)):ia pM:=by revert c7 D c9 b1 f n a3 a9 m B J g;revert prog w A E s z TI d TO c2 N a7 d5 fl c0 f7 O d7 a b Q;refine@mn _ _ _ _ _ _ _ _ _ _ _ _ _ _ ?_;generalize qf=prog,qg=w,qh=A,qi=E,qj=s,qk=z,ql=TI,qm=d,qp=TO,qq=c2,qt=N,qu=a7;refine@aE9 _ _ _ _ _ _ _ _ _ _ _ ?_;generalize E_=d5,Fc=fl,Fd=c0,Fe=f7,Ff=O,Fh=d7,Fl=a,Fo=b,FC=Q;intro c7 D c9 b1 f n a3 a9 m B J g;rw[aaa,EY,ap0,n0 pM,anj,apH,bcS];rw[cO];rw[C bhL,bgt,md,be8,fJ (aET ?_)];cases S:O[c0]? with|none=>{rw[C (Xd c7 aIg aIi S (fun g8 e b5 a0=>?_)),bfq];have h6:=b5 _ _ aEE z1;refine DW h6 p_ (fun a5 _ c8=>bE (ff (IB _ _ (ab ai) i) a5 (fun c o e5 _ c1 _ x=>IB _ _ e5 (b5 _ _ c1 (IC _ _ e5 x)))))}|some x=>rw[C (Iw aIg aIi S (fun g8 f6 b5=>fO))];have d8:=beb;rw[C (gl d8 (bE (aES d8 (fun a5 j c8=>bE (zX a8n))))),C (Xd c7 beh bei bz (fun W e d9 a0=>?_)),bfq];have l9:=d9 _ _ aEF a'_;refine DW l9 p_ (fun g6 _ f9=>bE (ff (Oh _ _ (ab bz) i) g6 (fun c o e5 e6 c1 i0 x=>Oh _ _ e5 (d9 _ _ i0 (G_ x)))))
universe z
universe PySem
namespace GA
open PySem PySem.Spec PyProof.Rows L2
def ZSt(z TI TO c2 N a b:Addr)(i:Nat)(h:Heap):Prop:=D (bgR\/∃d fl,fG h fl) (oB h) (∃x y,tt h) (CT c2 a i) (CT N b i)
theorem aYH{P:Program}{w:World}{K:Fg}{d1:Str}{T:Pos}{a b z TI TO c2 N:Addr}(D:a5F z TI TO c2 N a b):ahB P w K aJF (Itz K a b) ap1 z (ZSt z TI TO c2 N a b)where mem:=bJ;obj:=fun i h st c b0=>by{obtain⟨c9,f,⟨x,y,n⟩,⟨g4,b4,_,c5⟩,⟨g8,b9,_,c7⟩⟩:=st;rw[KB b0];{rw[q];rw[rg c9,a_,l (aw c9 (fun v q=>nomatch q))]};rw[a_,a_,a_,ay]};keep:=pa (by rw[nC x y,j ?_ (k TI oq _ f) (v x y (k TO Y_ _ n)) (a3.at (lK (k c2 aT o q))) (a9.at (lK (k N aT o q))),rg c9,cL,co (v d fl (k z bJ _ c9))]);item:=by{intro X C hw g b0 i aI s M H E I W st d8;rw[uU,nC R k3];obtain⟨O,d7,x,y,b2,c6,S,b6⟩:=d8;rw[iU p (sV b2),km d4 (sV c6),ZX];obtain⟨a4,l9,a8⟩:=d4.get b6;have fin:∀h':iO,c (∃d fl,fG h' fl) (∃x y,tt h') (Oc c2 a (i+1)) (Oc N b (i+1)) (rk h' aO u a4->(ap9)->z v (aa (dm aO)=aa v) (a2 (MM aJF pM v) (fun _ b5=>∃x L,D (L2.Inv X aI M L b5) t_ (r1 (Itz X.K a b)) (ZSt z TI TO c2 N a b (i+1) ag3) (∀c∈ap1,L c=ae)) E tJ)):=by{intro h' d3 e r V Z c3;rw[ca rfl];delta MM;rw[oe];have a6:cE (ad aO ZS) aO ZS:=a aIU [u,a4] (h8 m a8) _ Z rfl _ rfl;rw[Q gp _ (I.ar_ (t':=dE) (ch:=ap1) bir W aY a6) (v (m _ x y (bj pY (ff (t (I.ac_ a5 b2) S)) (ff (t (I.ac_ a5 c6) b6)))) (a (.inr d3) (c3 _ _ D.TIz D.TITO D.TIi1 D.TIi2 f) e r V) (fun c Y=>?_)),J (bW (gF (by rw[KB Y,Z q (by rcases c9 with c9|⟨_,_,c9⟩<;>exact fw c9),Z q (fw f),Z q (fw n),gz b4 a3 b4,gz b9 a9 b9]))) (W c Y).1]};rw[c_ c8 (A eT u) hu,c_ B (A Vy a4) l9,rg c9,l (a5q D c9 f n a3 a9 qO ID c8 B (fun h' d3 e r V Z G c3=>nA e c3))];{cases f5:Hm d with|some j=>{exact ayi c9 f5 f D a3 a9 qO ID c8 B (fun h' d3 r V Z c3=>nA (c3 _ _ aEQ D.TOi1 D.TOi2 n) bh2)}|none=>exact aYF D c9 f5 f n a3 a9 qO ID c8 B (fun h' d3 e r V Z c3=>nA e c3)}};done:=by{intro X C hw g b0 i aI s M H E I W st d8;rw[uU,nC R k3,Y d7 b2 c6 J d8,iU p (sV b2),km d4 (sV c6)];have a7:=CS;rw[hN d4.length,cb a0 (eT[i]?=ae\/Vy[i]?=ae)];have fin:∀h':iO,(ap9)->(ae:pF)=ae/\L2.Inv X aI M H tJ:=fun h' c3=>bd (I.aQr (t':=dE) (ch:=ap1) bir W);rw[rg c9,l (a5p iz D c9 f n a3 a9 qO ID a0 fin)];{cases f5:Hm d with|some j=>{exact ayj iz c9 f5 f D a3 a9 qO ID a0 (fun h' c3=>fin h' bh2)}|none=>exact aYG iz D c9 f5 f n a3 a9 qO ID a0 fin}};self:=vp (by rw[rg st.1,l (aEL c9 h)];{rw[aaa];refine W_ Z ajO (qR ajO Z a5o ?_ (a5m _));exact bX "zip" Z a5n h})
theorem aYI{d:PySem.W.Frag}{X:Cx}{e b9:Expr}{d6:TA}{p pos T:Pos}{d1:Str}(d8:aHy)(c4:aHF)(b3:aHQ)(c0:aKu)(b8:gf pos [b9])(g:Bh):PI X aJF (eA "zip" XT) (aQA d d6):=by rw[ub,jq R];refine jI ash b8;rw[JU,biB,l_];cases r1 with|cons J C=>cases C with|cons B C=>rw[oc,hQ];cases B;rw[iU e9 (CU b2),km d4 (CU c6),qN ID (aEL c9 ?_),c (fY+4) [fY+4,fY+2,fY+3,fY,fY+1] _ _ a8 (sp c3) (aYH (a5t fY a b e9.lt f6.lt)) (v (a (.inl c9) f (aw _ n) a3 a9) (fun c Y=>?_) q)];have c1:fY<=c:=by{rw[en]};exact a_b
universe GA
namespace GA
open PySem PySem.Spec PyProof.Rows L2
theorem aYJ{k:Nat}{A:Around}(J:JS):kB 128:=aIX
section z
variable{X:Cx}{K:Fg}{w:World}{e b9:Expr}{d6:TA}{p f6 pos d kp q:Pos}{B:Nat}
theorem aYK(g:fD)(b0:fR)(k:amL)(l:amU)(d8:aHy)(c4:aHF)(b3:aHQ)(c0:aKu)(b8:gf d [b9])(i:beg)(A:Zk):FM K:=g▸aYj b0 k l d8 c4 b3 c0 b8 i A
theorem aYL(g:fD)(b0:fR)(k:amL)(l:amU)(d8:aHx)(c4:aHE)(b3:QO)(c0:RC)(i:bef)(A:Zk):FB K:=g▸aYl b0 k l d8 c4 b3 c0 i A
theorem aYM(g:fD)(b0:fR)(d8:Gl X "min")(c4:ge "min")(b3:QO)(c0:RC):KD K:=g▸aYD b0 d8 c4 b3 c0
theorem aYN(g:fD)(hw:X.w=w)(b0:fR):f1 "sorted" (L0 K w):=g▸hw▸aXH b0
theorem aYO(g:fD)(hw:X.w=w)(b0:fR)(hu:uQ):BF X Jw (UA K w):=g▸hw▸aXF b0 hu
theorem aYP(g:fD)(hu:zx+128<gG):be .In (af9 K):=g▸aYq hu
universe z
theorem aga(B:ao)(par:gs):(gG akZ (kV x.1))=lW:=ga za jz
universe GA
namespace GM
variable{a5:mc}{B:ao}{par:gs}{E f:cD}{t h:Nat}
noncomputable def UE(par:gs)(B:ao)(E:cD)(h w:Nat):Nat:=if dO w h then E w else dw w
structure L4(a5:mc)(B:ao)(par:gs)(E:cD)(t:Nat):Prop where
 un:ly (nz<t->E v=nz)
 a:x1 (E v<=nz)
 b:x1 (∀w∈a5 v,E v<=is E v)
 d:x1 (E v=nz\/gD (a5 v) (E v=is E v))
theorem aYQ(h:ly (E v=nz)):y8 eC:=d (fun v d3 _=>h v d3) (zV ag) (zV fp) (zV eO)
theorem L4.low(Z:y8 0):B_ a5 B par E where a:=lC (Z.a v d3 cS);b:=bhs;c:=bhs;d:=lC (by rcases Z.d v d3 cS with z|⟨w,hw,e⟩;rw[l AZ];{delta UE at e;grind-abstractProof})
theorem L4.step(T:jm)(Z:y8 (t+1))(c7:h∈B)(d6:dw h=t)(o:E v (v≠h) (f v=E v))(b4:f h<=t)(b9:∀w∈a5 h,f h<=is E h)(e7:f h=t\/gD (a5 h) (f h=is E h)):L4 a5 B par f t:=by have vv:E v (t<=nz) (∀w,is f v=is E v):=fun v d3 w=>by{delta UE;by_cases c2:aHA;{rw[aJ c2,aJ c2];refine o w pH;have:=a2 (aic c2);rw[am z];exact yv d3 this d6.l};simp[*]};have ne:ly (t<=nz->v≠h->t+1<=nz):=fun v d3 z n=>by{rw[al (iq t nz),l q,cF (V_ d3 c7 (gE (cf q d6.g) (cf d6.l z))) n]};rw[w aKX aKX (fun v d3 z w hw=>?_) aKX,Z (o v Ql) (Z.un v d3 Jh)];{rw[T v h,a_,Z (o v q) (Z.a v d3 aMu)]};{rw[vv v z w];rw[T v h,ay,Z (o v q) (Z.b v d3 aMu w hw)]};{rw[T v h,a_];{rw[o v q];rcases Z.d v d3 aMu with J|⟨w,hw,J⟩;rw[Fq];grind-abstractProof}}
universe GM
namespace GA
open PySem PySem.Spec PyProof.Rows L2
inductive ayu(K:Fg)(vs:af)(H:Hp)(Q:VK)(E:XK):Prop|mk:∀(l d:Addr)(Y:bg)(n:Nat)(a5:mc)(B:ao)(par:gs),Gl (c aLy alS bag (∀(t c0 le:Addr)(lo:cD)L,j bP (L t=aa (ge c0 le)) anS a8N bfe (Q nG L)) (ayu K vs H Q E))
theorem getD_some{l:ao}{x:Nat}(h:x<eb):K l x (l.getD x 0):=ag
theorem aYR{l:ao}{x y v:Nat}(h:QI):am (Wa x v) y 0=l.getD y 0:=cq
theorem aYS{l:ao}{x v:Nat}(h:x<eb):am (Wa x v) x 0=v:=ag
theorem aYT{l:ao}{n:Nat}(h:eb=n):l=d9 (ab (l.getD x 0)):=by apply NH;intro i;rw[cz];rw[cY (iq i n),a_,a_]
section z
theorem aYU:T.av'.Ok P w aj 1 (ayu K):=by refine T.av'.go aTT aK;generalize aF=e3,az=A,aE=outer,aD=s,aB=H,aA=vs,aG=Q,aH=E;rw[aN,M oi,aX];generalize kU=l,kW=d,kY=Y,kZ=n,k_=a5,lg=B,ll=par;rintro rfl N hd d1 r lt al k;rw[apZ,fa,bgu,K (X zY baa (aW zY 3 4 4 zY) (a6 (u av 5 zY 6 zY (d4 cJ bb ew)) (bU 7 zY (uW bb)) (an (asf rfl T.reversed (d_ av)) 8 zY (mC (oy (eS ki)) (sI 9 zY) (c8 (bU 10 zY (R5 (ea gP (SG xB aq xF rz) ki) (bs kh xF) (bs bb xF))) (bm lz E7 (bs kh ki) (d4 E7 kh ki))))) (as bb kh))) d _ (ah hd (fun lo O=>?_))];rw[aga];rw[gW (ap lo lW) O,a b4 H lo lW lo lW,iG (ap lo lW),biK,a9 l (di w_) (fun c0 c1=>c oH aoR sD a9 (as xu) c1 a'V),e1 a x b3,bbU];have c3:=vt f6;rw[eV c3,bg3];rw[g9]at c3;rw[j_];have g8:=eY;have c5:=IZ;have h1:=gY c1;have h3:=fq b4 c1;rw[bA lo c5 (bv eC (fo (vu (Ev (cv ae ae ae ae)) bP (aj lo lW) (∃R:ao,yY (aj c0 (R.map vn)) (R.length=n) (aP j x (j<i->aa B x->K R x j))))) (a Kf g8 c5 _ b9 aBJ a7M))];{rw[bhO];exact as (vn B[i]) (au e) (p5 pQ)};{rintro M L⟨_,s,e,_⟩;exact ce e aT};{rintro i M L x d4 hi⟨⟨i1,j5,rfl⟩,s,e,R,c4,a3,g⟩⟨t,y,rfl,c6,rfl,b6⟩;rw[qX (au e)];have d0:=pQ;rw[dQ B z d0];rw[cz,d0]at b6;cases b6;have a0:=lt z (bM d0);have k1:=eo c6;have c7:=fq c4 c6;rw[b t _ rfl (cx ak) rfl c0 _ _ (a z rfl rfl (Y c7 c4) (yz a3.g) (bm _) (fI (ir cm) h1) (ac (bW h3) (bW k1) e) (d (R.set z i) aGz (t M3 a3) (fun j x b8 S=>?_))),iS z];{rw[e_];have:j=i:=Gb Xf S d0;rw[gq];exact MA (bV a0 a3.g)};{rw[a7C];rw[N q2 j i];{lia};rw[l (g j x (iT q2) S)]}};rintro M d4⟨⟨i1,j5,rfl⟩,c8,e7,R,U,a3,g⟩;have h5:R=d9 dw:=by{apply NH;intro x;rw[cz];rw[cY (iq x n)];{rw[wM z];rw[bT (al x z)];exact g _ x (wH m) (WY ⟨wH m,aid (wH m)⟩)};rw[a_]};subst h5;clear g;rw[aW c0 (ce U) a_J];have d9:=nf (ac Ex j3);rw[z g5 (O d4 le Ex lo lW) (gK e7 j3) e7,z e0 (O d4 le Ex c0 Ex) (gK U j3) U,a e9 d4 le Ex le Ex];generalize U d4 le Ex=e4 at d9 g5 e0 e9;have f5:=WO j3;have a7:=fq e7 j3;have b1:=fq U j3;clear c8 e7 U j3;rw[bA lo g5 (bv eC (fo (GJ (LF (fun i9 e1 j9=>M=cv AE i9 e1 j9)) bP (aj lo lW) anS (∃E:ao,yY (aj le (E.map vn)) (VZ=n) (GM.L4 a5 B par (ab (aEV x 0)) (eC-i))))) (a bdR d9 g5 e0 _ e9 bB ?_))];{refine GM.aYQ aoa;have:=lt v d3;rw[WC,cz,wM this];rfl};{rw[bhO];rw[bA];rw[aP hi _ (vn B[eC-1-i]) (au e)];rw[cz,da eO];rfl};{rintro M L _;show bd lW eC;rw[J bA aY]};{rintro i M L x g6 hi⟨⟨i9,e1,j9,rfl⟩,s,e,c4,E,F,b2,D⟩⟨rfl,b6⟩;rw[qX (au e)];rw[bA]at b6;have d0:K B (eC-1-i) (B[eC-1-i]'(fL (s9 eC) (aI eC 1 hi))):=da eO;generalize B[eC-1-i]'(eO)=z at d0;rw[cz,d0]at b6;cases b6;have C:=bM d0;have a0:=lt z C;have c9:dw z=eC-jd:=by{have:=Gb Xf (WY ⟨wH C,aid (wH C)⟩) d0;rw[kb]};have W:eC-i=eC-jd+1:=by{exact mS (M eC i hi eC (i+1)) (M eC (i+1) hi eC i)};rw[W]at D;rw[am d2 (d9 a5) z (a5 z) a0];have⟨c,b0,X,nc⟩:=N.get d2;rw[s l (gV c) (br w_) (no b0) (a2 c rfl (aW (br X)))];have g0:=D.un z C (x (Vn c9.l));refine aJ (bh (a5 z)) (fun j M L=>GJ (vw (fun e1 j9=>M=cv AE (bI z) e1 j9)) bP (aj lo lW) anS (∃f:ao,Aa6 (aj le (ajW vn)) (Dz=n) (E v (v≠z) (Xe v 0=aEV v 0)) (EE<=dw z) (∀w∈an (a5 z) j,EE<=vh w) (EE=dw z\/gD (a5 z) (EE=vh w)))) (a (bp e1 j9) s e c4 E F b2 rz (qM g0) (fun w hw=>by simp at hw) (.inl g0)) (fun j M L _ z=>au (z.2 _ _ X));{rintro j x M L S⟨⟨e1,j9,rfl⟩,s,e,c4,f,F,u,o,h2,e2,i8⟩;rw[gA S,a3 y b6 S,eh (r.Lk z C y (bM b6))];have G:=lt y I;rw[dd (an (a5 z) (j+1)) (eM (an (a5 z) j)) b6];have p:=bv hd;have d5:jr L d (kV (hR y)) (aa aIO):=by{have:=w0 p;rw[bY GZ (aJ I)];exact this};have ne:le≠lo/\le≠c0:=⟨a7.symm,b1.symm⟩;rw[aW d d5 (aw (by delta Cv;rw[ls (par y)]))];have h6:ar aIO (vn z)=cv (dO y z):=by{delta Cv;cases c2:par y with|none=>{rfl}|some q=>simp only[dO,aiV];rw[iR];simp;rw[ue]};rw[h6];by_cases Z:dO y z;{rw[dH Z];rw[s le (vn (Xe y 0)) (au F) EK ?_];have f7:Xe y 0=vh y:=by{delta aEU;have h8:y≠z:=ah (by have:=a2 (r.aed Z);rw[am q];exact iP _ bF);rw[J (aJ Z) (o y h8)]};generalize Xe y 0=b at f7;rw[bbP];{rw[wE (b<EE),s le z F (yz u.g) ?_,bgX,q8 (br e8.l (By e5) h2) (Gt (x (aQ2 e8 f7)))];rw[e8];rw[g9]at hw;rw[iO hw,cc (e2 w m) (ey (fJ bF bF)),ay]};rw[bi4]};{rw[ec Z];rw[s c0 (vn (dw y)) (au c4) (sB G) ?_];have f7:dw y=vh y:=by{delta aEU;rw[aO Z]};generalize dw y=b at f7;rw[bbP];{rw[wE (b<EE),s le z F (yz u.g) ?_,bgX,q8 (br e8.l e6 h2) (Gt bL)];rw[e8];rw[g9]at hw;rw[iO hw,dX,ay]};rw[bi4]}};{rintro M L⟨⟨e1,j9,rfl⟩,s,e,c4,f,F,u,o,h2,e2,i8⟩;rw[dc bA e2,e (as _ _ rfl) s e c4 f F u (D.step r C c9 o aGU e2 (bl c9 i8))]}};rintro M g6⟨⟨i9,e1,j9,rfl⟩,f9,i2,g4,E,g7,b2,D⟩;rw[zE]at D;rw[v et (sW (k t c0 le _ _ (mZ (bZ h7)) ak (Y (fq g4 h7) g4) (by rw[gK g7 h7,<-aYT b2];exact g7) D.low))]
universe z
theorem agb(O:af)(p:Nat):jq O (gP p) ae=Hf p:=by delta jq;rw[ai7,HT.art];rw[eT (iq p bx)];{rw[qV (ey h),DJ aT]};rw[a_]
theorem zb(O:af)(p:Nat):jq O ae (gP p)=O.take p:=by delta jq;rw[ai7,HT.art,List.drop_zero,ah6];rw[eT (iq p bx)];{simp};{simp}
theorem aYV{I:Type}{l:ba}(nd:l.Nodup)(h:1<eb):∃c d,c∈l/\d∈l/\c≠d:=by match l,nd,h with|c::d::J,nd,_=>rw[j c d bJ oq pH,rD];simp at nd
theorem of_two{I:Type}{l:ba}{c d:I}(b0:c∈l)(hd:d∈l)(ne:c≠d):1<eb:=by match l,b0,hd with|[x],b0,hd=>{simp at b0 hd;exact cy (b0.trans hd.symm) ne}|_::_::_,_,_=>exact tF
def aYW(B:ao)(par:gs)(lo:cD)(i:Nat):Prop:=bhv
inductive ayv(K:Fg)(vs:af)(H:Hp)(Q:VK)(E:XK):Prop|mk:∀(l d:Addr)(Y:bg)(n:Nat)(a5:mc)(B:ao)(par:gs)(p:uA),Gl (j aLy alS bag (ad lo bfe (nR (bD (p i) (aYW B par lo i)))) (t5 QS) (ayv K vs H Q E))
section z
theorem aYX:T.awa.Ok P w aj 2 (ayv K):=by refine T.awa.go aTU aK;generalize aF=e3,az=A,aE=outer,aD=s,aB=H,aA=vs,aG=Q,aH=E;rw[aN,M aK,aX];generalize aF=l,az=d,aE=Y,aD=n,aB=a5,aA=B,aG=par,aH=p;rintro rfl N hd d1 r lt al c2 k;rw[fa,bgu,b _ (X DY (b5 aYU aq) (bU 3 DY xI) (i 4 DY xI (bU 5 DY bD) (i 6 DY Bb (mC (oy (xd baa)) (sI 7 DY) (c8 (bU 8 DY (SG xB aq kh rz)) (sg (ea gP ki bD) (fG (eS 5 DY bD)) (fG (bm vc (bs bQ kh) (bs bb ki) (dG ew ki)))))) (bo (D vb cJ bD bD) (aYM (K:=K) rfl rfl bH T.min (d_ ew)))))) l d Y n a5 B (a par rfl N hd d1 r lt al (fun t c0 le lo a8 a4 c6 d7 c1 r3=>?_))];have c2:=c2 lo r3;rw[bn t c6 (as t c6 dr ⟨cS,fun g b9=>?_⟩),oW (ac [] b9)];have c5:upd a8 g al9 c0=_:=(cp b9 d7);have c7:upd a8 g al9 le=_:=(cp b9 c1);rw[a a0 a8 g [] g (jH ([]:ao))];have ne:=fq c1 b9;rw[bo (U a8 g []) c5 c7 a0,aW d (gS hd) (fun R O=>f R _ (au ak) (fun b2 a=>?_))];rw[aga]at a;rw[aga,a0 (jq lW (gP 1) ae) ak7 (agb _ 1)];have c8:=fi apL;have d0:=(apL) _ _ c5;have d3:=(apL) _ _ c7;have d5:=(apL) _ _ a0;have a7:O (U b7 R lW) b2 ak7 b2 (bh (DX 1)):=by{rw[ak,Dt]};generalize U (U b7 R lW) b2 ak7=d4 at c8 d0 d3 d5 a7;rw[a9 b2 a7 (aJ (bh (DX 1)) (fo (LF (fun(j3 i9:bY V)(C:bK Nat)=>Aa8 (M=[tV,rE,ac t,OS,AE,bI (ul ans),ac g,j3,i9]) bP (aj b2 (bh (DX 1))) anS a8N (aj g (C.map vn)) (C.length<=i) (∀u,u∈C↔∃c∈ans,Qm/\u≠0/\dw u<=lo c)))) (a ae ae [] rfl c8 a7 d0 d3 d5 aY (fun u=>aT)) (fun i M L _ e0=>by obtain⟨_,_,_,_,_,z,_,_,_,_,_⟩:=e0;exact au z))];{rintro i x M L S⟨j3,i9,C,rfl,s,a3,G,F,b,d6,f⟩;rw[gA S,a3 y b6 S,dd (an (DX 1) (i+1)) (eM ans) b6,cb b3 (K B (i+1) y),eh (bM b3)];obtain⟨u,a9,e2,un,e4⟩:=r.vj y I (J (by rw[rD];exact cy (Gb Xf b3 (bl aEW r.head)) bL));have X:=bx b3;rw[aW d (by have:=w0 (bv hd);rw[bY GZ (aJ I)];delta Cv at this;rw[am a9];exact this) gM];rw[dO];rw[FQ];{have z:u=0:=by{simp at z;omega};rw[rD,b _ _ rfl rfl (bI y) (bI 0) C ?_ (a s a3 G F b ET aHl),ay,ay]};{rw[eC z (u≠0) z,cs c9 (ul (an (DX 1) (i+1))) (ul ans),s le (vn (lo y)) (au F) (sB (lt y I)) (E c0 (dw u) (au G) (sB (lt u e2)) (fH (fun q=>?_) (fun q=>?_)))];{rw[n (dq b) g b (t bA (Kr d6 X d8 d1 fy)) (a (bI y) (bI u) (C++[u]) (dd c9) (fI s (gY b9)) (Y (J (by rw[z]at a;rw[gK a0 O,a0]at a;cases a)) a3) (Y (fq d7 b9) G) (Y ne F) (nP ak) (by simp;omega) aHl)];rw[hF,f v,g9];constructor;{rintro(⟨c,b0,J⟩|m);rw[l (v c (vU _ b0) J)];{rw[OZ];subst m;exact a y aHf a9 z (pm q)}};{rw[bgj,iO b0,dR bf9,ay]}};{rw[b (bI y) (bI u) C (dd c9) s a3 G F (v b ET aHl)];rw[f v,g9];constructor;{rintro⟨c,b0,J⟩;exact v c (vU _ b0) J};{rw[bgj,iO b0,l bf9];{rw[OZ];subst m;rw[a9]at d2;cases d2;exact cy q3 (by simp at q;rw[xM])}}}}};rintro M L⟨j3,i9,C,rfl,s,a3,G,F,b,d6,f⟩;rw[dc bA f];rw[bA,H9];rw[br b1 (K B 0 0) aEW r.head];have d9:=lt 0 r.zero;have b4:∀{c u},Qm->c∈DX 1:=fun{c u}D=>by{have:=r.aed D;rw[n4 eu];cases j with|zero=>{simp_all}|succ j=>exact bM (i:=j) (ac DB VS b8)};have e1:1<ul (DX 1)↔a7U:=by{constructor;{rw[fT];obtain⟨c,d,b0,hd,ne⟩:=aYV (eh (a5G (a4v _ _) Xf) _) q;rw[Nm]at b0 hd;exact a c d (aI b0.2) (aI hd.2) ne};{rintro⟨c,d,b0,hd,ne⟩;exact of_two (U_ ⟨b4 b0,aI b0⟩) (U_ ⟨b4 hd,aI hd⟩) ne}};rw[FQ];{rw[Jm];rw[LR d9 (ae (c2 0 d9) (.inl (bd (e1.mp (by simp at z⊢;lia))))) (i8 AA)];rfl};{rw[dy c3 (nR (bD (p i) (i∈C))) (by rw[c2 i hi,f i];constructor;{rintro(⟨_,q⟩|⟨o,c,D,q⟩);rw[l (cy q (ah (z (by have:=e1.mpr q;simp at this⊢;exact(ml this))))),l (a c (b4 D) D o q)]};{rintro⟨c,_,D,o,q⟩;exact bj o c D q}),y g (C.map a__) (au (t jz b)) ⟨Y5,fun m c4 U=>?_⟩];{have e:C=[]:=by{simpa using e};rw[Jm];rw[Uq (i8 (by cases q:p j with|false=>{rfl}|true=>have:=x (c3 j b8) q;rw[am e,ny]))];rfl};{rw[a7 f7 Z c4,eJ D q (x (f f7) Z)];have W:=lt f7 (bX (r.aed D));rw[Jm];rw[LR W (ae (c3 f7 W) Z) (i8 (by cases q:p j with|false=>{rfl}|true=>have:=U j (Iv (x (c3 j ES) q));rw[fU]))];rfl}}
universe z
theorem bj6{n:Int}{A B:Prop}(h:A):x0 (cp n):=bB
theorem aYY{p q:uA}{n:Nat}(h:nR (p i=q i)):QS=ci n q:=by cases e:ci n q with|some m=>{rw[ak b c (GM.auz.mp e)];exact LR a ag (i8 cq)}|none=>exact Uq (i8 ai)
inductive ayw(C:Addr)(vs:af)(H:Hp)(Q:VK)(E:XK):Prop|mk:dc (zZ D) (zC Ym) (c (1<de) Q4 QT (gr (GM.yV D)) (ayw C vs H Q E))
section z
theorem aYZ:T.awl.Ok P w aj 3 (ayw bI):=by refine T.awl.go aT2 aK;generalize aF=e3,az=A,aE=outer,aD=s,aB=H,aA=vs,aG=Q,aH=E;rw[aN,M iA,aX,Bq];rintro rfl h Z c1 n1 k0 j7 k;rw[d _ (L ajX (dK aWv) (bU 2 ajX (km aWx)) (ah (dS av alR) (bU 3 ajX (km aWD)) (qH aWy (qH aYX (de cu))))) a D b2 X G (a h c1 k0 j7 (fun l Y a8 a4 N=>a l Y de DP (ah N (fun v b7 b5 d3=>?_)))),J1,d0 GM.yV,bu];cases j9:ci de (oI (s6 (DP i)))with|some m=>{rw[u6 j9,AK (IE cm)]}|none=>rw[lw j9];have d3:=d3;rw[tN,f3 (ajy b5)];have d6:e7 (bd (DP x) 8192):=ab (cG Gla.Plan.near (cn (a4h _ _) j7));rw[b l Y de DP rfl g dV (gc k0) (a qr (GM.Lp Z) (ab bz) (GM.aRL Z) (fun d B par d4 c8 nd hd r lt=>?_))];{cases q:DP x with|nil=>{rfl}|cons y J=>rw[dT (GM.aej Z x y ag) ag]};have n:=IE c8;rw[cb (g.mono c8),d l d Y de DP B par (d b bL hd (lC gM))];have c:(ci de (Df (Gla.seenFrom a5H de 0 (Gla.noneSeen de))))=ci de aKb:=aYY (j6 (by have:=GM.aRM Z dV r hi;rw[dY];rw[iR,this];simp));rw[bs c];cases j8:ci de aKb with|some m=>{rw[u6 j8,AK (tu cm)]}|none=>rw[lw j8];have d3:=d3;rw[tN];have al:=aL (nn (GM.aeJ.mp j8 x S));rw[b l d Y de DP B par a_r (a rfl b hd bL r lt al (fun lo W i hi=>GM.aRN Z n1 r W al lt hi) bbA)];have U:=tu d9;rw[bu];cases e2:ci de a_r with|some m=>{rw[lw e2,tN,AK (ajD cm)]}|none=>rw[lw e2,tN,bD (aC U rfl)]
universe z
noncomputable def vH(e:fB):tI:=[hR e.1,hR e.2]
theorem aY0{e f:fB}(h:vH e=vH f):e=f:=by rw[a4 vH,aaz,a'B,fK (ajY a3),ep (ajY a9)];exact sQ Bl Bl
inductive Cy(H:Hp)(d:Addr)(ls:nO):Prop|mk:gH wX (∀e:fB,dk (fb F (vH e))=cv (e∈ls)) (Cy H d ls)
theorem Cy.mono{H L:Hp}{d:Addr}{ls:nO}(s:bP)(h:Cy H d ls):Cy L d ls:=biA
noncomputable abbrev ptD(p:Pt):Df:=dT ys
theorem agd(p q:Pt):jy (ptD p) (ptD q)=ar p q:=by rw[GY,iR,IF,IF];rw[n3 p,db d q];simp only[Oj,Oi,Xg];rw[Fm]
theorem dG.dp{K:Fg}{H:Hp}{v:V}{p:Pt}(h:br v p):ct v (ptD p):=by rw[ak rfl h h];exact Ul (ns:=ys) (cx h)
inductive ayx(vs:af)(H:Hp)(Q:VK)(E:XK):Prop|mk:∀(b2 c0 d:Addr)(n i5:V)(D:Gla.Plan)(row:ao)(a b:Pt),e [YJ,O_,n,i5,nJ] (fg b2 lL) (am c0 P_) (V i row (i<de)) (c (br n a) (br i5 b) (Cy H d gX) (ti (aEX D row a b)) (ayx vs H Q E))
section z
theorem aY1:T.awi.Ok P w aj 1 ayx:=by refine T.awi.go au9 aK;generalize aF=e3,az=A,aE=outer,aD=s,aB=H,aA=vs,aG=Q,aH=E;rw[aN,M JD,aX];generalize E_=b2,Fc=c0,Fd=d,Fe=n,Ff=i5,Fh=D,Fl=row,Fo=a,FC=b;rintro rfl⟨c5,a3,e9⟩I c1 W a5 b8 k;rw[K (b6 (dm (aEZ (ac8 (ac9 (afl K aq)) (ac8 (ea al0 (eS AH) av) (aqP (ea al0 (eS (bs aq (aqY aq1 bD))) bb))))) mq) (an (aYI rfl T.zip (sH aq (xd aq))) 5 au9.nd (dm (BB (SH xB cJ bQ)) mq)) mq) _ (.inl (bm (au I))) ?_,d0 aEX];cases row with|nil=>{rw[bD ?_,c_ G (dy ah) XY];exact G}|cons m row=>have f5:(! !(aHq).isEmpty)=ah:=rfl;rw[f5];have o:=c1 m bJ;obtain⟨j,e5,N⟩:=gP e9 o;rw[<-(wZ o)]at N;rw[s c0 (vn m) (au I) dg (f b2 _ _ j rfl (au a3) (dZ e5) (a _ _ N.dp W.dp tY tY ?_))];rw[agd];rw[N R (xc m) a];{rw[dH R];have c:I z ((aF0).getLast?=aa z) (BI aHq (-1)=aa (vn z)) (z<de):=by{rcases a4k (m::row)with q|⟨f,z,q⟩;rw[cX];{rw[cQ a4j,w z ag (ac q fg (arA _ _)) (c1 z ag)]}};obtain⟨z,z1,h6,k7⟩:=c;rw[cR g7 d2 (gP e9 k7)];rw[<-(wZ k7)]at d2;rw[d _ rfl c0 _ _ (vn z) rfl (w (au I) h6 b2 O (a (au a3) (dZ g7) _ _ d2.dp a5.dp tY tY ?_))];rw[agd];rw[bs z1,N d1 (xc z) b];{rw[dH d1];have k:E L bP (Q (.bl (yD Rn)) L):=by{rw[ZA]};rw[bA c0 I (fun ls e1=>?_)];rw[a0 (jq aHq (gP 1) ae) P_ (agb _ 1)];rw[gW (ap ls P_) e1,a e7 H ls P_ ls P_];generalize ap ls P_=a8 at a4 e7;rw[e c0 ls _ _ rfl (au (di I)) (au e7) (bv fh (bi (∃i1,M=[ac b2,OS,aa n,aa i5,rE,i1]) ON (yD (an Rn i)=ab)) (bp qn ei))];{rw[ps s];exact a _ _ (vn (dB aF0 (x (ahl hi)))) (vn row[i]) aJ' (br e7) bz ag};rw[i3 s (a _ _ aJ' (br e7) (.inr aT))];{rintro i M L x b7 hi⟨⟨i1,rfl⟩,s,g⟩⟨t,b1,d7,rfl,c6,rfl,S,b6⟩;have S:=S _ aJ';have b6:=b6 _ (br e7);rw[cz]at S b6;rw[a3 u hu S,a3 v d3 b6];have c9:A (Rn) JM:=List.getElem?_zip_eq_some.mpr ⟨hu,d3⟩;rw[aL (an Rn (i+1)) (an Rn i) JM c9,tm (bx u v),A6 (b8.mono eY)];have d5:jr (lk (bx u v)) d nG (fb F (vH JM)):=jr.t c3 (dd ak);rw[tc d5];have c4:=c4 JM;by_cases mm:JM∈gX;{rw[dH mm]at c4;rw[ch y b6 c4];rw[b6];rw[ak ek b5];rw[g9,aEY,g];simp[mm]};{rw[aHV,fi b6 (fb F (vH JM)) c4];rw[b6];have:=k _ eY;rw[S g5 (yD Rn) ah a5I (v JM (bM c9) hV),am g5];exact this}};{rw[bK L i1 s g];rw[DJ aT]at g;have:=k _ (gd s);rw[am g];exact this}};{rw[ec d1];rw[b7 G (dy ah) d1 XY];exact G}};{rw[ec R];rw[bD ?_,b7 G (dy ah) R XY];exact G}
universe z
theorem UG{c:Type} [wm c](F:hW)(k:c)(v:V):bd Yc (ia+1):=by delta mQ;rw[Zg]
theorem ayy{I d:Type}{F:qs}{l:ba}{m:nU}(e:eb=aE0)(h:∀(j:Nat)a b,aa l a->aa m b->F a b):f1 F:=by induction l generalizing m with|nil=>{rw[J (NU CX) .nil]}|cons x O i=>cases m with|nil=>{exact i0 (a5v _ e)}|cons u b1=>rw[Lc e]
inductive EnV(H:Hp)(v:V)(e:Nat×Pt):Prop|mk:f a y (v=bc) (cy (cR (vn e.1) y)) (br y e.2) (EnV H v e)
theorem UH:lB EnV:=sn (by rw[r a y e h p];exact a a y e (bv h) (hK s p))
theorem aY2{H a8:Hp}{l:Addr}{c5:af}{pts:ej}(e9:dD (dG H) c5 pts)(N:UD H a8 l kB (BM c5)):dB EnV a8 l ((eK NN).zip pts):=by obtain⟨s,d6,Y,i0,e,al⟩:=N;rw[ca e,hN rh];refine ayy ag (fun j v x d3 S=>?_);rw[gA d3,a3 a b3 d3];obtain⟨_,e7,i8,⟨rfl,b6⟩,g9⟩:=al j a b3;rw[aW p c2 e9 b6];have G:x=(j,p):=by{rw[n3 (List.getElem?_zip_eq_some.mp S)];obtain⟨_,c⟩:=Xi a;rw[WU]at c;exact sQ Xh (cZ (b.symm.trans c2))};subst G;exact f a i8 g9 (bK s J)
theorem UI(D:Gla.Plan)(on:OM):kC ((eK de).zip lL) (hr (on e.2) e.1)=IG D on:=by delta IG Gla.Plan.pt;generalize D.pts=pts;have O:∀(pts pre:ej),kC ((Xj DT NN).zip pts) (hr (on e.2) e.1)=eh (Xj DT NN) (dJ (on ((pre++pts).getD i jT))):=by{intro pts;induction pts with|nil=>{intro pre;rfl}|cons p J d6=>intro pre;have:=d6 (pre++[p]);rw[cj,aBS,dv]at this;rw[ie,List.range'_succ,a5J,Hj,aCV];have e:(pre++p::J).getD DT jT=p:=by{simp};rw[e,this];rw[ls (on p)]};have:=O pts [];rw[o0 List.range_eq_range']
abbrev Edg:=ao×Pt×Pt
inductive G5(H:Hp)(v:V)(e:Edg):Prop|mk:∀t c0 n i5,b v nG (iR t [.ref c0,n,i5]) (am c0 (jH e.1)) (br n e.2.1) (br i5 e.2.2->G5 H v e)
theorem G5.mono{H L:Hp}{v:V}{e:Edg}(s:bP)(h:G5 H v e):G5 L v e:=by obtain⟨t,c0,n,i5,a,b,c,d,f⟩:=h;exact a t c0 n i5 a (bv b) (bv c) (bK s d) (bK s f)
noncomputable def zc(D:Gla.Plan):bK Edg:=[baT,baU,ba6,ba5]
theorem ayz(D:Gla.Plan):ajZ D=eD (zc D) (an aL7):=by delta ajZ zc;simp[MY]
theorem aY3(D:Gla.Plan):df (zc D) (∀i∈e.1,i<de):=by intro e a0 i hi;have O:E on (i∈IG D on) (i<de):=fun on h=>by{rw[a4 IG];exact List.mem_range.mp (fe h)};delta zc at a0;simp only[hH,oX,Du]at a0;rw[k3 a0]<;>(simp only at hi;exact O _ hi)
inductive ayA(C:Addr)(vs:af)(H:Hp)(Q:VK)(E:XK):Prop|mk:dc Q4 QT (gr (GM.Ci D)->ayA C vs H Q E)
section z
theorem aY4:T.awh.Ok P w aj 2 (ayA bI):=by refine T.awh.go aTZ aK;generalize aF=e3,az=A,aE=outer,aD=s,aB=H,aA=vs,aG=Q,aH=E;rw[aN,M iA,aX,Bq,aw h k0 j7 k,fF,Q3,aaX,fa,pj (L rl bO (bU 2 rl bO) (i 3 rl (aYL (K:=K) rfl rfl bH aj1 bH a5K (d_ bO)) (bU 4 rl (KS (vy (e3 bD uf (dP aq)) (e3 bD uf (as av bD)) (e3 aq (dP aq) (as av aq)) (e3 av (as av bD) (as av aq))))) (i 7 rl adK (an pP 8 rl (d3 kh ki mq)) (bo (mC (adh bQ) (nH 3 (KH (sI 9 rl) (KH (sI 10 rl) (KH (sI 11 rl) aqQ)))) (fG (go (u_ (ec aY1 (GR bO xF E7 OX kh))) (dP (gi T.aVk))))) cu)))) (f b2 c5 (au a3) (fun Z a8 J=>?_))];have p5:=aY2 e9 J;have s0:=J.1;clear J;rw[cG v l p5,a9 Z v (fun b4 v5=>c oH UH sD apz (vb (gg 0)) v5 anh)];{rintro i e x L h4 N a0 s⟨b,y,rfl,U,c,rfl,b0⟩b6 d1;rw[c b _ rfl pO rfl c _ (un dg)];rw[dO];rw[FQ];{rw[qP e.2.y];exact(ab e.1 (ar d3) ei rfl)};{rw[zA e.2.y];exact anI}};intro r k6 r1 h8 e2;rw[UI D (gg 0)]at e2;have j4:=vt e2;subst j4;clear e2 v5;rw[v (bB) (fun g4 h9=>?_),l e5 r r g4 yh h9,v (ai) (fun a7 e4=>?_)];have e6:=kE Qu e4;rw[v (ym) (fun W k1=>?_),g5 (b4 b4 g4 a7 k1),a u (F (upd r g4 yh) a7 Qu W (bW b4 g4 a7)) (.ref W) baT W b4 g4 a7 h8 (eT g4 e4 k1) a7 k1];generalize F (upd r g4 yh) a7 Qu W (bW b4 g4 a7)=k7 at c1 u;rw[g5 (r1.trans c1)];have a4:=aE' c1;have v:=anl;rw[aoY];clear h9 e4 k1 e5 e6 h8 r1;clear c1;rw[a9 Z v (fun b9 v7=>c oH UH sD apz (vb (gl 0)) v7 anh)];{rintro i e x L h4 N a0 s⟨b,y,rfl,U,c,rfl,b0⟩b6 d1;rw[c b _ rfl pO rfl c _ (un dr)];rw[dO];rw[FQ];{rw[qP e.2.x];exact(ab e.1 (ar d3) ei rfl)};{rw[zA e.2.x];exact anI}};intro Y k8 r2 i1 e7;rw[UI D (gl 0)]at e7;have j5:=vt e7;subst j5;clear e7 v7;rw[v (bB) (fun h3 i2=>?_),l e5 Y Y h3 yh i2,v (ai) (fun d5 f5=>?_)];have e6:=kE Rt f5;rw[v (ym) (fun d8 c7=>?_),g5 (b4 b9 h3 d5 c7),a C (F (upd Y h3 yh) d5 Rt d8 (bW b9 h3 d5)) (.ref d8) baU d8 b9 h3 d5 i1 (eT h3 f5 c7) d5 c7];generalize F (upd Y h3 yh) d5 Rt d8 (bW b9 h3 d5)=k9 at c1 C;rw[g5 (r2.trans c1),oW c1];have v:=anl;rw[aoY];clear i2 f5 c7 e5 e6 i1 r2;have u:=aj0 c1;clear c1;rw[a9 Z v (fun c2 i3=>c oH UH sD apz (vb (gl D.w)) i3 anh)];{rintro i e x L h4 N a0 s⟨b,y,rfl,U,c,rfl,b0⟩b6 d1;rw[c b _ rfl pO rfl c _ (un dr)];rw[dO];rw[FQ];{have d3:e.2.x=D.w:=by{simp at z;lia};exact(ab e.1 (ar d3) ei rfl)};{have d3:¬e.2.x=D.w:=by{simp at z;lia};exact anI}};intro O l0 m i6 f7;rw[UI D (gl D.w)]at f7;have j8:=vt f7;subst j8;clear f7 i3;rw[v (ai) (fun h6 i7=>?_),l e5 O O h6 Qu i7,v (ai) (fun l3 g0=>?_)];have e6:=kE Rx g0;rw[v (ym) (fun j c4=>?_),g5 (b4 c2 h6 l3 c4),a b3 (F (upd O h6 Qu) l3 Rx j (bW c2 h6 l3)) (.ref j) ba6 j c2 h6 l3 i6 (eT h6 g0 c4) l3 c4];generalize F (upd O h6 Qu) l3 Rx j (bW c2 h6 l3)=l1 at c1 b3;rw[g5 (m.trans c1)];have c8:=fi c1;have v:=anl;rw[aoY];clear i7 g0 c4 e5 e6 i6 m;have u:=aj0 c1;have C:=C.mono c1;clear c1;rw[a9 Z v (fun d2 i8=>c oH UH sD apz (vb (gg D.h)) i8 anh)];{rintro i e x L h4 N a0 s⟨b,y,rfl,U,c,rfl,b0⟩b6 d1;rw[c b _ rfl pO rfl c _ (un dg)];rw[dO];rw[FQ];{have d3:e.2.y=D.h:=by{simp at z;lia};exact(ab e.1 (ar d3) ei rfl)};{have d3:¬e.2.y=D.h:=by{simp at z;lia};exact anI}};intro a5 l2 c9 j0 g6;rw[UI D (gg D.h)]at g6;have k2:=vt g6;subst k2;clear g6 i8;rw[v (ai) (fun f4 j1=>?_),l e5 a5 a5 f4 Rt j1,v (ai) (fun e0 g7=>?_)];have e6:=kE Rx g7;rw[v (ym) (fun I d4=>?_)];have c1:=b4 d2 f4 e0 d4;rw[a g8 (F (upd a5 f4 Rt) e0 Rx I (bW d2 f4 e0)) pL ba5 I d2 f4 e0 j0 (eT f4 g7 d4) e0 d4];generalize F (upd a5 f4 Rt) e0 Rx I (bW d2 f4 e0)=j2 at c1 g8;rw[g5 (c9.trans c1)];have d9:=nf c1;have v:=anl;rw[aoY];clear j1 g7 d4 e5 e6 j0 c9;have u:=aj0 c1;have C:=C.mono c1;have b3:=aE_ c1;clear c1;rw[v (ym) (fun b8 k3=>?_)];have i0:=bZ (o:=aJA) k3;have h2:upd j2 b8 aJA b8=_:=ak;rw[m j2 b8 aJA d0 i0 h2];have f9:=m_ i0;have al:dD (G5 d0) (wf (gV W)) (zc D):=ee (aj0 i0) (C.mono i0) (h8 (aE_ i0) (g8.mono i0));clear u C b3 g8 v l i0 d9 c8 b5 a4 s0;refine J4;rw[l h1 d0 d0 d qe nd];have j3:Cy (upd d0 d qe) d []:=F7 bH;rw[m d0 d qe p6 h1 j3,a2 (iW QE) (u kF kz X (dD ls (iW (hF a9))) (bW ls (bi (∃i9,M=he ae ae ae) (cY d0 L) (Cy L d (pD i))) (v qn h1 j3) (hF a9)))];{rintro i x M L S⟨⟨i9,rfl⟩,s,F,c3,lk,mk⟩;rw[B7 (oI f6 S)];have hi:=bx a0;have j6:=bv (hF U);rw[eS]at lk;rw[b d _ rfl (qE.t (k:=vH e) c3 j6 (db lk (oV i lM) j7)) ek (go s) (mQ F (vH e) YS) ak (l2 (fun f=>?_))];{have:=UG F (vH e) YS;rw[eS];exact a2W ⟨hq this lk (wD i lM),uW this lk (wD i lM) hi⟩};{rw[Sy,DV,a0];have h5:=mk f;rw[T f e,ay];{rw[bj (J (q (aY0 z))),h5];simp[q]}}};rw[bK p7 i9 R o,dc N1 o,bD b8 (aW (cx (R _ _ h2))) (co (wf (gV W)) (bi (LF (fun e1 j9 e8=>M=he e1 j9 e8)) (cY p7 L) (eD (an (zc D) i) (an aL7)=ab)) (bp bdR ei) (z.2 _ _ (R _ _ h2)))];{rintro i x M L S⟨⟨e1,j9,e8,rfl⟩,s,g⟩;rw[gA B (oI al S),dB (mZ (wI s))];obtain⟨t,c0,n,i5,rfl,c6,d7,k4,k5⟩:=B.mono (wI s);rw[dd (an (zc D) (i+1)) (an (zc D) i++[e]) a0,b t _ rfl (cx c6) rfl a _ dx (a _ _ rfl (ol hd) dS gf fX b2 (a c0 d n i5 D e.1 e.2.1 e.2.2 (a rfl (ai3 dk d6) d7 (aY3 D e uv) k4 k5 (o.mono s) (fun b7 i4=>?_))))];cases st:aL7 with|true=>{rw[ak (as _ _ rfl) (ir i4)];rw[g9,aEY,g];simp[st]}|false=>rw[v (bB) (sW (aC (dP (xf i4) h7) ?_))];have g5:ajZ D=ah:=by{rw[ayz,a5I];exact v e uv ai};delta GM.Ci;rw[g5];exact lU};{rintro M L⟨⟨e1,j9,e8,rfl⟩,s,g⟩;rw[oO (mZ (wI s)),z g (ajZ D=ab) ayz g];delta GM.Ci;rw[g];rfl}
universe z
noncomputable def L5(p:Pt):tI:=[hR p.y,hR p.x]
theorem ayB{e f:Pt}(h:L5 e=L5 f):e=f:=by rw[a4 L5,aaz,a'B,fK (ajY a3),ep (ajY a9),n3 e,db d f];simp only[Xg];simp only at a3 a9;rw[en]
inductive Cz(H:Hp)(d:Addr)(c5:ej):Prop|mk:gH kB (∀p:Pt,dk (fb F ud)=cv (p∈c5)) (Cz H d c5)
theorem Cz.mono{H L:Hp}{d:Addr}{c5:ej}(s:bP)(h:Cz H d c5):Cz L d c5:=biA
noncomputable def gR(l:kn):GM.PK:=(dq l.1.y l.1.x,dq l.2.y l.2.x)
theorem ayC{l m:kn}(h:gR l=gR m):l=m:=by obtain⟨⟨a,b⟩,c,d⟩:=l;obtain⟨⟨B,b2⟩,C,d'⟩:=m;simp only[gR,CI,Oj,Oi,Xg]at h⊢;lia
theorem eR.pk{H:Hp}{v:V}{l:kn}(h:aoj){b:Addr}(e:v=cV):G4 H b (gR l):=by obtain⟨a,x,y,d3,h,⟨p,rfl,c2⟩,q,rfl,e0⟩:=h;rw[Zj,a4 d3 (a p q h c2 e0)]
inductive CA(P:Program)(w:World)(H:Hp)(d:Addr)(ls:ni):Prop|mk:o f (oN P w H d f wX) (∀l:kn,lf (gR l)=cv (l∈ls)) (yF H)
theorem CA.mono{P:Program}{w:World}{H L:Hp}{d:Addr}{ls:ni}(h:yF H)(s:bP):yF L:=by rw[bI a b h];exact v f (a.mono s) b
noncomputable def CB(a:ni)(b:ej)(r:Gla.Plan)(i:Nat)(l:fB):cb:=Z (a.contains Em) (dI (a3m (bn (! b.contains p))) (DL pG rr)||dI (DW (a.contains aJw)) (GM.Lq r l)) (GM.Gu r i l)
noncomputable def agg(D:Gla.Plan):i Et Nat fB cb|none=>GM.Gu D|some B=>GM.Tn B D
inductive ayD(C:Addr)(vs:af)(H:Hp)(Q:VK)(E:XK):Prop|mk:lP (GM.Ord D) (j (pt D.w) (pt D.h) Q4 QT aLK (gr aJX) (ayD C vs H Q E))
section z
theorem aY5:T.awj.Ok P w aj 4 (ayD bI):=by refine T.awj.go aT0 aK;generalize aF=e3,az=A,aE=outer,aD=s,aB=H,aA=vs,aG=Q,aH=E;rw[aN,M oi,aX];generalize kU=a,kW=D,kY=b2,kZ=X,k_=G,lg=b4,ll=B;rintro rfl h hB Y b3 n4 k0 j7 e6 k;rw[fF,Q3,aaX,Bx,ak c1 gX (e.1<de/\e.2<de) (bv jh bel),cU d5 (cA lL (kv p)) b3 n4,fc (X pE af5 (bU 3 pE adK) (ah (ak KL aq cu (bd (km LO) 4 pE (af4 wt av bQ mq rfl)) (bd (GS K aq) 5 pE (d3 bb cJ mq))) (d pE 6 pP (ck "point" 5) (cj 5 pE) (lp (BB (SH xB cJ bb))) (bC cJ)) (i 7 pE (dK LO) (bU 8 pE Bb) (bo (mC (lv kh) (V 9 pE 4 pE) (c8 (sg (BB (aXW wt bQ av)) (fG (bU 10 pE (Z axA bQ ew ki))) (i 11 pE (f7 xF) (bU 10 pE (Z axA bQ (Cs K bO (oz (hv (dh OX))) (oz (dh OX))) (h0 kh xF))) (fG (dG ki bQ)))) (dm (u_ E7) (yB xF)))) cu)))) (fun dl g4 k2 k3=>?_),gW (ad dl g4) k2];generalize ad dl g4=a8 at k3 a4;refine fun dp m9=>?_;rw[l b5 a8 a8 dp qe m9];have d8:Cz (upd a8 dp qe) dp []:=F7 (ar fb);rw[m a8 dp qe b7 b5 d8];have r:=eY;have f7:CA P w b7 dl []:=aw (k3.mono b5) (cs aT);rw[bu];cases B with|none=>{subst hB;rw[di ae [] [] bH];have n6:o0 Eo (p∈Eo):=bn Wq;rw[K4 Eo];{rw[dJ p x c2,A6 (aFb s),bd'];have c4:=c4 p;by_cases mm:p∈Eo;rw[cX];{rw[aHV];have O:fb F ud=ae:=by{simp at*;lia};rw[O];rw[bD bbG];simp[mm]}};rw[bbZ];rw[LG]at e2;have l1:=aj3 d9;rw[bga];have d0:=aj2 f9;rw[bc4,bhX,bbL,ben,beA];have n7:a5N=lM:=Xk D;have n8:=i9.length;rw[hu [kN,al2,ac dl,ac dp,b1,ae,ac i0,AE,ac n,e1,j9,e8] Zs ba4,beK,ban];{rintro i M L x h5 hi⟨⟨b1,e1,j9,e8,rfl⟩,s,b9,g⟩⟨t,y,rfl,c6,rfl,b6⟩;rw[jA i9 (b6 _ (br e5)),beJ,dQ gX e a0,ID (bt (cZ a5))];subst h2;have ix:=c1 e uv;have j1:=kc ix.1;have k8:=kc ix.2;rw[P st L (lk hO) cm];have rv:=tv (dj (ir st)) J;rw[g2 (aFa gA st),ba9];have R:=ir st;have d:=z_ R;have k9:=bfo;rw[hv Rz ba4 Rz];have o1:=W ru;rw[Gd (aw (ng rv)),api];by_cases j2:ru∈OE;{rw[b4 g0 (apN=ab) (i0 (oX bF))];rw[g0];rw[n i0 n rv bff b9.ls (fe c2) (fun J a6=>bz)];have c7:(j5 (t2 Eo) Zs)=Rz:=by{trivial};rw[mk (t2 Eo) Zs];rw[c7];rw[bM c9 (u1 OE) Zs];cases h6:Rz with|true=>{rw[bdl]}|false=>exact d an2 R bB (l0 h6)};{have g0:apN=ah:=by{trivial};rw[g0];rw[Z c l2 C b0 (mA f6 a0)];have l4:=gy b0;rw[biy,bdW,bh',bhW,i h5 d2 X9 h9 g4 d6,bA le (ol (R _ _ e5)) (fun q2 m5=>?_)];rw[zb a7 i];rw[bhR,bhY,bhS];have d7:=xf i4;rw[biY,Ln Rz];cases h6:Rz with|true=>{rw[rf (ag) ai]}|false=>rw[w an2 c0 (js ak) (l0 h6),ae c9 (u1 OE) ((Zs)++[e])];rw[c9,fg];exact beI}};rw[bi3]}|some B=>rw[bh9];have n0:=e6 B rfl;have m7:=n0.GB;rw[di (aa B) tl pw rfl,c b B i2 h7 i7 (U.mono r) (f8 (by have:=n0.clean.ord.lt e a0;rw[kb])) (iY (aS m7.2).2 (fun i5 d4 c8 n5 k5=>?_))];obtain⟨bs,l8,n1⟩:=k5;have k1:=aj3 c8;have ldn:Xl=B.lines.length:=Xk B;have d8:=aFb c8;have f7:=aFd c8;rw[a9 i5 l8 ?_,M n2 dp dl (by rw[bfg];obtain⟨m8,q2,_,_⟩:=d8;rw[b4 q q2];cases q2)];refine aJ bs (fo (Aa6 (∃b1,M=[kN,ac b,ac dl,ac dp,b1,ae,ae,ae,ae,ae,ae,ae]) bP (aj i5 bs) (dD (eR L) bs tl) (Cz L dp []) (CA P w L dl (B.drawn.take i)))) (c qn k1 l8 n1 d8 ag) (mS (au z.3));{rintro i x M L S⟨⟨b1,rfl⟩,s,l7,m1,d3,f,h3,W⟩;rw[jA m1 S,B9 J,lf Xl a5];rw[eS]at h3;rw[c dl c (gR l) f _ rfl h3 (Ik (x (Kr (wD i Xl) hi ldn.l (aS m7.2).2 fy))),gh k4 h3];obtain⟨m8,q2,q3,i6⟩:=d3;rw[e ek (fI s k2) (Y (J (by rw[bfg,b4 q l8];cases l8)) l7) (cd (nH k4) m1) (d m8 (Y n2 q2) q3 i6) _ (pk (min (i+1) Xl) (min i Xl)) Yl];rw[DV,a5];rw[T m l,a_,bb0]};rintro M d4⟨⟨b1,rfl⟩,k1,l7,m1,d8,f7⟩;rw[dc n1.length f7,bb_,dp e0 n3 U.p,z b j8 (k1 _ _ l9) dS (u gf fX i2 (k7 (k1 _ _ e0)) (bW v (fo (vu (∃i1,M=[kN,ac b,ac dl,ac dp,b1,i1,ae,ae,ae,ae,ae,ae]) bP (CA P w L dl tl) (Cz L dp (B.pts.take i)))) (d qn k1 f7 d8) e0))];{rintro i x M L S⟨⟨i1,rfl⟩,s,⟨f,h3,W⟩,F,c3,lk,mk⟩;rw[Z p c2 c b0 (oI n3 S),lf a5O c2];rw[eS]at lk;rw[b dp _ rfl (qE.t (k:=ud) c3 (bv b0) (x (Kr lk (wD i a5O) hi (aS m7).2 fy))) ek (fI s (gY m9)) (v f (h3.go (nH c3) (eN (Y aFc e))) W) (mQ F ud YS) (v ak ?_ akT)];{have:=UG F ud YS;rw[eS];rw[fU]};{rw[Sy,DV,c2];rw[N z q p,a_];{rw[bj (e9 (z (ayB y))),(mk q)];simp[z]}}};rintro M d4⟨⟨i1,rfl⟩,r,f7,d8⟩;rw[dc n3.length d8];have n6:o0 (pw) (p∈(pw)):=bn Wq;rw[K4 (pw)];{rw[dJ p x c2,A6 (aFb s),bd'];have c4:=c4 p;by_cases mm:p∈(pw);{rw[dH mm]at c4;rw[ch y O c4];rw[O];rw[bD (d1 ?_ _ ei)];simp[mm]};{rw[aHV,fi O (fb F ud) c4];rw[O];rw[bD bbG];simp[mm]}};rw[bbZ];rw[LG]at e2;have l1:=aj3 d9;rw[bga];have d0:=aj2 f9;rw[bc4,bhX,bbL,ben,beA];have n7:a5N=lM:=Xk D;have n8:=i9.length;rw[hu [kN,ac b,ac dl,ac dp,b1,i1,ac i0,AE,ac n,e1,j9,e8] Zu ba3,beK,ban];{rintro i M L x h5 hi⟨⟨b1,e1,j9,e8,rfl⟩,s,b9,g⟩⟨t,y,rfl,c6,rfl,b6⟩;rw[jA i9 (b6 _ (br e5)),beJ,dQ gX e a0,ID (bt (cZ a5))];subst h2;have ix:=c1 e uv;have j1:=kc ix.1;have k8:=kc ix.2;rw[P st L (lk hO) cm];have rv:=tv (dj (ir st)) J;rw[g2 (aFa gA st),ba9];have R:=ir st;have d:=z_ R;have k9:=bfo;rw[hv Ry ba3 Ry];have o1:=W ru;rw[Gd (aw (ng rv)),api];by_cases j2:ru∈(tl);{rw[co g0 (apN=ab)];rw[g0];rw[n i0 n rv bff b9.ls (fe c2) (fun J a6=>by rw[a7 m c4 a6];have:=c1 m (qZ (fe c4));exact⟨kc eu,kc fm⟩)];have c7:(j5 (t2 (pw)) Zu)=Ry:=by{delta CB;rw[aJ (a5M j2),a5L];rfl};rw[mk (t2 (pw)) Zu];rw[c7];rw[ae c9 (u1 (tl)) Zu];cases h6:Ry with|true=>{rw[bdl]}|false=>exact d an2 R bz (l0 h6)};{rw[ae g0 apN ah];rw[g0];rw[Z c l2 C b0 (mA f6 a0)];have l4:=gy b0;rw[biy,bdW,bh',bhW,i h5 d2 X9 h9 g4 d6,bA le (ol (R _ _ e5)) (fun q2 m5=>?_)];rw[zb a7 i];rw[bhR,bhY,bhS];have d7:=xf i4;rw[biY,Ln Ry];cases h6:Ry with|true=>{rw[rf (ym) bz]}|false=>rw[w an2 c0 (js ak) (l0 h6),ae c9 (u1 (tl)) ((Zu)++[e])];rw[c9,fg];exact beI}};rw[bi3]
universe z
theorem bj7{A B:Prop}(h:A):xL Hs:=asi h
inductive ayE(C:Addr)(vs:af)(H:Hp)(Q:VK)(E:XK):Prop|mk:mN (Ol D) (ayE C vs H Q E)
noncomputable def CC(D:Gla.Plan):Et->cb|none=>ah|some B=>cv aK6
inductive ayF(C:Addr)(vs:af)(H:Hp)(Q:VK)(E:XK):Prop|mk:lP (dy anP) (ayF C vs H Q E)
noncomputable def ayG(D:Gla.Plan)(B:Et):bY Mr:=GM.ks aJX (GM.yV D)
inductive ayH(C:Addr)(vs:af)(H:Hp)(Q:VK)(E:XK):Prop|mk:lP (Ol D=ae) (aLK->gr aoN->ayH C vs H Q E)
theorem Ur.mono{C:Addr}{H L:Hp}{v:V}{B:Et}(s:bP)(h:Ur C H v B):Ur C L v B:=by cases B with|none=>{exact h}|some B=>rw[i b x y z e d h (c b x y z e (d.mono s))]
theorem UJ{D:Gla.Plan}(h:zN D=ae):N (D.w<=1048575/\pt D.h) Q4 QT (rg<=2048):=by delta zN jJ ajf aDJ aDI aDH at h;(repeat' rw[eI]);(all_goals first|(rw[cH])|skip);simp_all
theorem ayI{K:Fg}{H:Hp}{l:Addr}{c5:ej}(h:fg l c5):ct cC (sl (aiW (bn ys))):=by rw[bE e p h];refine a_n;clear e;induction p with|nil=>{rw[kP]}|cons J t d6=>rw[cE J.dp d6]
theorem ayJ{K:Fg}{H:Hp}{l:Addr}{c5:nO}(h:dB sA H l c5):ct cC (sl (aiW (bn aav))):=by rw[bE e p h];refine a_n;clear e;induction p with|nil=>{rw[kP]}|cons J t d6=>rw[ak rfl b3 J];exact .cons (wu JB) d6
theorem ayK{I d:Type} [wm I] [wm d]{f:Fp}(W:eV (f a=f b) (a=b))(l m:ba):ar xU (aDo f)=ar l m:=by rw[iR,IF,IF];exact⟨c_ (a3_ W|>.mp h),c_ (iQ h)⟩
theorem aY6(l m:ej):pw (bn ys) (bn ys):=by rw[jy,afC];refine ayK (fun a b h=>?_) l m;rw[bbi,aK7];simp only[Oj,Oi,Xg]at h⊢;lia-abstractProof
theorem aY7(l m:nO):pw (bn aav) (bn aav):=by rw[jy,afC];refine ayK (fun a b h=>?_) l m;rw[bbi,aK7];simp only[Oj,Oi,CI]at h⊢;rw[Fm]
section z
theorem aY8:T.awc.Ok P w aj 1 (ayF bI):=by refine T.awc.go aTV aK;generalize aF=e3,az=A,aE=outer,aD=s,aB=H,aA=vs,aG=Q,aH=E;rw[aN,M oi,aX];generalize kU=a,kW=D,kY=b2,kZ=X,k_=G,lg=b4,ll=B;rw[aV h hB k,fF,y _ (cl (BC (afk KL aq cu) (BC bcL (R4 bcL)))) _ gM];cases B with|none=>{subst hB;exact k}|some B=>rw[bh9,bb_,a2 hd (a kF kz b _ j8 _ _ rfl (b l9 dS kF kz _ (ayJ h.l) (ayJ U.l) (m (Um _) (Um _) _ ?_)))];rw[aY7];rw[T gX Wn];{rw[dH q];rw[a2 hd (a gf fX b _ j8 _ _ rfl (b l9 dS gf fX _ (ayI h.p) (ayI U.p) (aJ (Um _) (Um _))))];rw[aY6];have:CC D (aa B)=ar lL pw:=by{delta CC;rw[iR,IF,IF];exact⟨J z.2.symm,J ⟨zD,wo⟩⟩};rw[al_];exact k};{rw[ec q];have:CC D (aa B)=ah:=cG CC (ec (J (q z.1.symm)));rw[bs this];exact k}
theorem aY9:T.awe.Ok P w aj 4 (ayE bI):=by refine T.awe.go aTW aK;generalize aF=e3,az=A,aE=outer,aD=s,aB=H,aA=vs,aG=Q,aH=E;rw[aN,M iA,aX,Bq,ds h,a'3];have⟨c5,a3,e9⟩:=h.p;have⟨ls,a9,f6⟩:=h.l;have⟨d8,e2,j0⟩:=h.m;rw[pj (L a5P (ec axj (GR bO bO nZ nZ nZ)) (Ae aWh) (bZ (Ae aWi) (Ae aY4) aq)) (b b2 _ rfl (ce a3) a dx _ (i hd dS kF kz X _ (ev rfl (ce a9) (ph e2 (a D.w D.h kB wX (aP NC (fun v a8 a4 p=>?_)))))))];have f5:LQ D.w D.h kB wX NC=zN D:=by{rw[rh,N1,Ih];rfl};rw[f5]at p;rw[bu,d0 Ol];cases N:zN D with|some e=>{rw[N]at p k;rw[he p,rK];refine ii (iU a4)}|none=>rw[N]at p k;rw[QH];subst p;rw[h7 (UJ N),nw ux aH_,J1,bu];cases d2:ajm D with|some e=>{rw[QP,he p,rK];exact bd (iU i9)}|none=>rw[QP,QH];subst p;rw[nw (gh i9) (fun v d4 c8 p=>?_)];have n:=IE c8;rw[bu];cases q2:ajn D with|some e=>{rw[q2]at p k;rw[he p,rK];exact iU n}|none=>rw[q2]at p k;rw[QH];subst p;rw[fd n JI ⟨aS e8,fun v e4 d9 p=>iU (tu d9)⟩]
theorem aY_:T.awd.Ok P w aj 5 (ayH bI):=by refine T.awd.go ae2 aK;generalize aF=e3,az=A,aE=outer,aD=s,aB=H,aA=vs,aG=Q,aH=E;rw[aN,M oi,aX];generalize kU=a,kW=D,kY=b2,kZ=X,k_=G,lg=b4,ll=B;rw[cn hB W e6,Ip W,h7 (UJ N),b _ (X ae2.nd (b5 aY5 aq) (bm yC av cu (bU 2 ae2.nd (dK aYZ))) (de av)) a D b2 X G b4 (a B rfl h hB Y e8.1.1 YL JI (aS e8) e6 a'P),d0 ayG];cases d2:aJX with|some e=>{rw[QP,he p,rK];exact iU a4}|none=>rw[QP,QH];subst p;rw[c a D b2 X G ux (by have q2:a_s=ae:=by{delta Xm at d2;cases z:a_s with|none=>{rfl}|some i=>simp_all};refine GM.aeo Y ?_;rw[<-q2];refine GM.aem a'q;cases B with|none=>{exact bt (GM.S7 Y (bM S))}|some B=>exact bt (GM.aeL (e6 B rfl).clean.lay Y S)) (a ed n1 JI (aS e8) bec)]
universe z
universe GA
namespace GM
open Gla
variable{r:Plan}
theorem agh{I:Type}{p:Be}:k4 (pb (jM (p y=ab->p x=ab))) (bI x xQ (aCQ p) (p x=ab))|[],_,i,x,h=>bB|a::J,q,i,x,h=>by rw[cQ pf];cases u:p a with|true=>{rw[aj5 u,ie];cases i with|zero=>{simp_all}|succ i=>have:=agh q.2 i x bB;rw[al_];simp}|false=>rw[aj4 hV];grind-abstractProof
theorem UF.congr{f:ao}{cnt:Nat}{aP lab':cD}(d:FG)(h:E x I4 (kQ=lab' x)):UF f cnt lab':=by have lt:BK I4:=fun x l e=>l8 (bx e) qY;rw[w qY Nv a84 a84];{have:=Nv x l e;have S:=lt x l e;rw[<-h x S,<-h l aKv];exact HS x l e};rw[k1 (h x (lt x l e)) (We x l e)]
noncomputable def aY'(r:Plan)(e:Ln):kn:=(eF,eG)
theorem ayL{I d:Type}(f:Fp)(p:d->cb):∀l:ba,t ((xU).takeWhile p)=t (aCQ aHp)|[]=>rfl|a::J=>by rw[c_];cases q:p (f a)with|true=>{rw[aj5 q,aj5 (p:=aHp) q,ie,ie,ayL f p J]}|false=>rw[aj4 hV,aj4 (p:=aHp) cq];rfl
theorem ayM(Z:bq){t:Nat}{s:Sw}(I:Inv iv t s){z:Pt}(h:df tQ aLh):bI e (A (tQ) e) (hE pa) (ke<0):=by intro i e a0;have:=agh (p:=an (mL (fW e))) (l:=tQ) ((atU Z I h).imp Ql) i e a0;unfold linesOf at this;rw[am ayL];delta yQ;rw[od];delta Ls;simp
theorem CD(g:Nat)(A X:Row):dS (A++X)=dS A++X.map eX:=i4 du
theorem agi:∀(A:Row)(g:Nat),dS A=an (dS A) ij++[di g A]|[],g=>rfl|(e,g')::A,g=>by rw[ab b4 (dS ((e,g')::A)) (g::du g' A)];rw[b4,ie,List.take_succ_cons,aht];show g::du g' A=g::(_++[di g' A]);rw[<-(agi A g')]
theorem L6(g:Nat)(A:Row):t (dS A)=ij+1:=i4 du
theorem agj(g:Nat)(A X:Row):ap (dS (A++X)) ij (di g A):=by rw[CD,hD (t L6 jX),agi A g,pj Bk,eS,L6];simp
theorem aZa(A E B d5:Row):du 0 (h1 d5)=a8O++(du hl d5++a'H):=by have a3:a8O=an (du 0 A) ij:=by{rw[CD,List.take_append_of_le_length (t L6 xK)]};have a9:a'H=ajv eX:=by{rw[<-dv,CD,a3A (ac L6 cj jX),aiy (ac L6 cj jX),a5Q]};rw[a3,a9,CD];rw[ab e2 (du hl d5) ([hl]++d5.map eX)];rw[e2,dv,<-dv,<-agi,fg]
theorem aZb(A E B d5:Row):bG (h1 d5)=an (bG (h1 E)) ij++(E5++dh (bG (h1 E)) (ij+VZ)):=w5 bG
theorem ayN:∀(N:cI)(l c J:Nat),N≠[]->du l Q_=l::((Xj c (iT-1))++[J])|[],_,_,_,h=>aIw|[e],l,c,J,_=>rfl|e::f::a7,l,c,J,_=>by rw[ab b4 (du l (iH (e::EN) c J)) (l::du c a'y)];rw[b4,(ayN EN c (c+1) J Rq)];rfl
theorem ayO:∀(d5:Row)(g j:Nat)(e:Ln),c8 E5->aa (E5) e->mw g d5 e=aa (am (dS d5) j 0,am (dS d5) (j+1) 0)|[],g,j,e,_,h=>bB|(f,g')::d5,g,j,e,nd,h=>by rw[b7 c (f∉E5/\c8 E5) bG nd];cases j with|zero=>{have:f=e:=hz bG h;rw[gq];exact cO}|succ j=>have h':aa (E5) e:=by{assumption};have:=ayO d5 g' j e c.2 h';unfold mw;rw[bj (fun(z:e=f)=>c.1 (z▸bM h')),this];rfl
theorem ayP:∀(d5:Row)(g:Nat)(e:Ln),e∉E5->mw g d5 e=ae|[],_,_,_=>rfl|(f,g')::d5,g,e,h=>by rw[b7 h' (¬e=f/\e∉E5) bG h];unfold mw;rw[J (bj h'.1) (ayP d5 g' e h'.2)]
theorem aZc(Z:bq){v a:Nat}{row:ao}(a6:bG row uG)(b3:JN)(dP:aJN):bI b (A row b) (Wh Bo) (akU<0):=by intro i b U;have:=agh (p:=Bo) (l:=row) ((a5R dP).imp (fun{x y}q=>by rw[aJ S b6 q];simp only[IF,yM];rw[tP];exact atJ (k7 x S) (k7 y b6) (aeg Z b3) q z)) i b U;rw[od];simp
universe GM
namespace GM
open Gla
variable{r:Plan}
theorem agk(Z:bq)(v:Nat):V b I8 uG/\c8 I8:=by rw[dI ua];{unfold Cd at U;rw[h4 U];simp_all};{delta Cd;rw[J2,h8 (V1 _),rk q];grind-abstractProof}
theorem ayQ(Z:bq)(v:Nat):eQ aLt I8:=by have t:=agk Z v;exact(qR t.1 ag).1
theorem ayR(Z:bq)(v:Nat):c8 Zh:=by delta Nz;rw[J2];exact((ayQ Z v).nodup_iff.mpr (agk Z v).2).imp (fun ne q=>ne (lJ q).2)
noncomputable def CF(r:Plan)(t:Nat):Nat:=w3 (bT e.1 t)
theorem agl(Z:bq)(t:Nat):CF r (t+1)=CF r t+t EC:=by have b4:t EC=w3 (e.1==t):=by{delta Nz;rw[bA,wY (ayQ Z t)];delta Cd;rw[bA]};rw[b4];delta CF;induction bX with|nil=>{rfl}|cons e J d6=>rw[ad e.1 t p p p];{simp[p,wk p,gF p,d6,Nat.add_right_comm]};{subst p;simp[d6,aDQ]};{simp[a28 p,v_ p,show¬e.1<t+1 from a26 p,d6]}
theorem UK(r:Plan)(t:Nat):CF r t<=dQ:=AW
theorem oD(Z:bq):∀t,io t<=1+CF r t|0=>by{show 1<=_;exact xK}|t+1=>by rw[dB (oD Z t)];rw[agl Z];show io t+(t EC-1)<=_;exact cf d6 (qS (t EC) 1)
theorem aZd(Z:bq)(t:Nat):bd EC dQ:=by have:=agl Z t;have:=UK r (t+1);rw[en]
theorem aZe(Z:bq){v:Nat}(d3:v<aL):bI e (A (bG (jr v)) e) (yQ r ef (jr v)) (eV eF eG ef<0):=by have Y:=hJ;rw[bdk];refine ayM Z I ob;rw[jD iw];exact⟨be_,Gz (Yn).2⟩
theorem aZf(Z:bq){t:Nat}{z:Pt}(b3:QC)(T:ot):bbQ:=by rw[eh anH];refine ayM Z I ob;rw[jD iw];exact⟨bbX,bbW⟩
theorem aZg(Z:bq){t:Nat}{e:Ln}(a0:iC)(lt:e.1<t+1):(jW/\(mA (t+1)).side e=(mA t).side e/\e∉EC)\/z j (aa (EC) e) ((mA (t+1)).side e=(am (du aln aLm) j 0,am (du aln aLm) (j+1) 0)):=by have bo:=(aep Z t).1 e;rw[T e.1 t];{right;rw[n4 (bo.mpr ⟨a0,q⟩),ak j b8];have:=ayO aLm aln j e (t mv (ayR Z t)) (t mv b8);rw[q8 (mw _ _ e),od];rfl};{left;rw[f4 (bo (q (bo.mp m).2)),cs (cz lt q) d1,q8 (mw _ _ e)];rw[ayP _ _ _ (t mv d1)];rfl}
universe GM
namespace GA
open PySem PySem.Spec PyProof.Rows L2
def SB(N:bg)(H L:Hp):Prop:=bd Pe (b∉N) alw
theorem SB.of{N:bg}{H L:Hp}(s:bP):uF:=fun b o e _=>s b o e
theorem SB.trans{N:bg}{H a8 b7:Hp}(a:SB N H a8)(b:SB N a8 b7):SB N H b7:=fun c o e n=>b c o (a c o e n) n
theorem SB.put{N:bg}{H L:Hp}{l:Addr}{o:HO}(s:uF)(m:l∈N):SB N H (upd L l o):=fun b u e n=>Y aHk (s b u e n)
def oO(N:bg)(H:Hp):Prop:=ev N (∀O,H a≠aa tO)
theorem SB.ts{N:bg}{H L:Hp}(s:uF)(n:oO N H):QM:=fun a O e=>s a _ e (bo (n a m O e))
theorem dB.sb{I:Type}{R:kk}(A:uw){N:bg}{H L:Hp}{a:Addr}{O:ba}(h:apm)(s:uF)(n:oO N H)(m:a∉N):dB R L a O:=lm (d3 q m) (s.ts n)
theorem aZh{f g:Str}{v u:V}{J:hX}(h:¬g=f):gt ((g,u)::J)=(g,u)::gt J:=by show(v g f _ _)=_;rw[aO h]
theorem UL{f:Str}{v u:V}{J:hX}:gt ((f,u)::J)=(f,v)::J:=by show(v f f _ _)=_;rw[cO]
noncomputable def qL(b2 B X c7:Addr):hX:=aL "sides" c7 (aL "links" X aFT)
section z
variable{b2 B X c7:Addr}
theorem G6:bN uO "passed" b2:=by delta qL;rw[bgy]
theorem L7:bN uO "gaps" B:=by delta qL;rw[bhI]
theorem zd:bN uO "links" X:=by delta qL;rw[aLf]
theorem aZi{f:Str}(a3:tl "sides")(a9:tl "links")(e2:tl "gaps")(e5:tl "passed"):fu uO f=ae:=by delta qL;rw[dh,fg (a3 wo),dh,fg (a9 wo),dh,fg (e2 wo),dh,fg (e5 wo)];rfl
theorem ayS:bN uO "sides" c7:=by delta qL;rw[dh,cO]
universe z
inductive ayT(C:Addr)(H:Hp)(x b2 B X c7:Addr):Prop|mk:E dx (bh x (aI C uO)) (hf H)
inductive vJ(H:Hp)(X:Addr)(cnt:Nat)(aP:cD):Prop|mk:∀f:ao,am X (ajW vn)->GM.UF f cnt aP->g8 H
theorem L8{H:Hp}{X:Addr}{cnt:Nat}{aP:cD}(h:g8 H):oO [X] H:=qT (by rw[f7 f h,OZ];rw[m,q]at e;rw[dU])
theorem aZj{C H x b2 B X c7 cnt aP}(h:hf H)(k:g8 H):x≠X:=by rw[cw e h,f7 f k];exact bI e q
theorem ayT.sb{C H L x b2 B X c7 cnt aP}(h:hf H)(k:g8 H)(s:uM):hf L:=by have⟨dx,e⟩:=h;exact⟨dx,d3 e (aI (aZj h k))⟩
inductive ayU(C:Addr)(P:Program)(w:World)(vs:af)(H:Hp)(Q:VK)(E:XK):Prop|mk:∀(x dx:Addr),A [kR] (bh x Zc) (∀L b2 B X c7,c (fM [x]) (hf L) (Y b2) (Y B) (c (Y X) (Y c7) (aj b2 []) (aj B [vn 0]) (j (vJ L X 1 id) (oN P w L c7 uB 0) (X≠b2) (X≠B) (b2≠B) IY))) (ayU C P w vs H Q E)
inductive ayV(C:Addr)(vs:af)(H:Hp)(Q:VK)(E:XK):Prop|mk:∀(x b2 B X c7:Addr)(cnt:Nat)(aP:cD),e [kR] (hf H) (g8 H) (kd cnt) ((o L uM (vJ L X (cnt+1) apb) (sc cnt))->ayV C vs H Q E)
inductive ayW(C:Addr)(vs:af)(H:Hp)(Q:VK)(E:XK):Prop|mk:∀(x b2 B X c7:Addr)(cnt n:Nat)(aP:cD),e [kR,jj] (hf H) (g8 H) (n<cnt) ((o L uM (g8 L) (sc (aP n)))->ayW C vs H Q E)
inductive ayX(C:Addr)(vs:af)(H:Hp)(Q:VK)(E:XK):Prop|mk:∀(x b2 B X c7:Addr)(cnt a b:Nat)(aP:cD),e [.ref x,vn a,vn b] (hf H) (g8 H) (a<cnt) (b<cnt->(o L uM (vJ L X cnt (aFe aP a b)) IY)->ayX C vs H Q E)
section z
theorem aZk:T.TZ.Ok mg P w aj 1 (ayV dq):=by refine T.TZ.go aTM aK;generalize aF=e3,az=A,aE=outer,aD=s,aB=H,aA=vs,aG=Q,aH=E;rw[aN,M oi,aX];generalize kU=x,kW=b2,kY=B,kZ=X,k_=c7,lg=cnt,ll=aP;rw[KR j,fa,bV (bo (dG bO nZ) (eC yA nZ)) x (a S gJ Aa zd (dq a5) x _ dx (a _ _ rfl S gJ Aa zd X (b _ rfl (ce a5) X _ rfl rfl (aJ a5 (ac bA qY (cf j fy))))))];rw[bA,qY];rw[aS b4 (ajW vn++[g0 cnt]) (bh aas)];rw[b4];rw[iW (Y (bI S a5) S) (bt Aa zd X ak)];have b9:ks (bh aas)-1=v cnt:=by{rw[bA,cj,qY,aBS];simp};show Q (.int (ks (bh aas)-1)) _;rw[b9];exact k _ alJ (aw ak d.new)
theorem ayY:T.av3.Ok mg P w aj 1 (ayW dq):=by refine T.av3.go au5 aK;generalize aF=e3,az=A,aE=outer,aD=s,aB=H,aA=vs,aG=Q,aH=E;rw[aN,M aK,aX];generalize aF=x,az=b2,aE=B,aD=X,aB=c7,aA=cnt,aG=n,aH=aP;rw[KR nc];have ne:=bI S a5;rw[K (bo (F5 NX (ea Sg (f7 aq) aq) (c8 (d4 (f7 (f7 aq)) bO aq) (bU 1 au5.nd (f7 aq)))) aq) (qO (M=[ac x,bI m]/\uM/\g8 L/\m<cnt/\aP m=aP n)) (c n rfl (cG (tw H)) (v f a5 d) nc rfl) ?_];refine Ax;rw[co m M L];rintro⟨rfl,sb,⟨lk,h2,d⟩,c,D⟩;have G:=sb _ _ S ag;obtain⟨l,gl,i⟩:=aij c;rw[fL G (vn l) (a2 (au h2) Pc rfl)];rw[dO];rw[T l m];{rw[e_];refine adO rfl ?_;have:=k L sb (q1 h2);rw[<-D,Wf gl]at this;exact this};{rw[(ec bL)];obtain⟨p,b3,d5⟩:=aij (ja (l<cnt) Rj);rw[d (fun g0 j1=>∃f7,f7<m/\g0=[ac x,bI f7]/\SB [X] H j1/\g8 j1/\f7<cnt/\aP f7=aP n) aaT x _ dx _ _ (b G gJ Aa zd x dx _ (i G gJ Aa zd X _ (a _ (vn l) rfl rfl (au h2) Pc X _ (f _ jR rfl (aJ (au h2) Pc)))))];have g8:=bx gl;rw[fL G m (aJ h2 (LS ag)),aS a7 (bp (lk.map vn) m jR) (bh (lk.set m p))];rw[a7];rw[fL (Y ne G) jR (f (au ak) EK p bL (sb.put bJ) (aw ak (d.aRG gl b3 q)) (br d5 i c) ?_)];rw[HS l p b3,HS m l gl,D]}
theorem aZl:T.T1.Ok mg P w aj 2 (ayX dq):=by refine T.T1.go aeX aK;generalize aF=e3,az=A,aE=outer,aD=s,aB=H,aA=vs,aG=Q,aH=E;rw[aN,M JD,aX];generalize E_=x,Fc=b2,Fd=B,Fe=X,Ff=c7,Fh=cnt,Fl=a,Fo=b,FC=aP;rintro rfl S c3 k9 f k;rw[ca (L aeX.nd (H_ aq) (bU 2 aeX.nd (H_ av)) (fG (d4 (F9 (aOL rfl) bH T.min aTi aGq) bO beE))),x9 S,b x dx ex xS x b2 (a B X c7 cnt a aP rfl S c3 k9 (fun a8 a4 I=>?_))];have j0:=S.sb c3 a4;have⟨h4,c⟩:=j0;rw[b x h4 c xS x b2 (a B X c7 cnt b aP rfl j0 I f a8S)];have⟨W,m1⟩:=(j0.sb I b5);have⟨lk,h2,d⟩:=f5;have F:=d.Lo k9;have i5:=d.Lo f;rw[ra _,k3 (bo (amw<amv) amw amv) (ae aaj),y amw amv amw amv (ae FJ) (iq (aP a) (aP b))];rw[e];rw[io m1 (a Aa zd _ _ gM)];rw[k1];have h5:=qY;rw[s X FJ h2 (LS fS) (k _ ((eY).put bJ) (v (lk.set FJ aaj) aGz (d.link k9 f)))]
universe z
noncomputable def UM(l J cnt b:Nat):ao:=cu b [l] (l::(Xj cnt (b-1)++[J]))
noncomputable def UN(aP:cD)(l J cnt b:Nat):cD:=cu b (aFe aP l J) apb
inductive ayZ(C:Addr)(vs:af)(H:Hp)(Q:VK)(E:XK):Prop|mk:∀(x b2 B X c7:Addr)(cnt l J b:Nat)(aP:cD),e [kR,vn l,vn J,vn b] (hf H) (g8 H) (l<cnt) (i (J<cnt) (kd (cnt+b)) (∀L a,c uM (Y a) (aj a (bh (UM l J cnt b))) (vJ L X (cnt+(b-1)) (UN aP l J cnt b)) Pg) (ayZ C vs H Q E))
noncomputable def UO(ls:ni)(a:ao)(z:Pt)(n:Nat):jb:=match ls[n]? with|some l=>cu (NW l.1 l.2 z) ae a[n]?|none=>a[n]?
inductive ay0(C:Addr)(vs:af)(H:Hp)(Q:VK)(E:XK):Prop|mk:∀(x b2 B X c7:Addr)(v:V)(ls:ni)(a:ao)(z:Pt)(n:Nat),e [kR,v] (hf H) (dB eR H b2 ls) (am B (a.map vn)) (b mP (wX+1) (br v z) (gQ z) bd8 (i (n<=wX) (bfK) (ad u (Up H u (UO ls a z n)) (Q u H)) (ay0 C vs H Q E)))
inductive ay1(vs:af)(H:Hp)(Q:VK)(E:XK):Prop|mk:∀(pv:V)(lt:Addr)(r:Gla.Plan)(v:Nat)(c:ao),e [pv,.ref lt] (br pv ef) (fg lt (DE bp)) (zZ r) (j (V b c uG) c.Nodup (gQ ef) (V b c (gQ (bp b))) (kd gg) (zG (B (GM.aeh r v c) (fu an5))) (ay1 vs H Q E))
section z
theorem aZm:T.TY.Ok mg P w aj 1 (ayU dq P w):=by refine T.TY.go aTL aK;generalize aF=e3,az=A,aE=outer,aD=s,aB=H,aA=vs,aG=Q,aH=E;rw[aN,M fQ,aX,bW x dx,ds S,w _ (ft Bb (is T.afo) (m3 (is T.afo) af5)) cS (fun b2 a0=>cu (fq S a0) S DZ (ax)),cj f b2 x,au a4 [x] (eb aof aaW) (hs (bZ a0) bJ)];have e9:bp aof aaW b2 []:=by{rw[bW f,ak]};rw[e e7 aof x aaW x aaW];generalize eb aof aaW=a8 at a4 e9 e7;rw[kt (fun B b=>cu (fq e7 b) e7 IH (vx ax)),cj i B x,cd (fq e9 b),hz (mY (gd (cG (ac hg b))) Qv)];have f6:bp ao8 Qv b2 []:=by{rw[bW f,bW l];exact e9};have g8:bp ao8 Qv B hg:=by{rw[bW i,ak]};rw[e f5 ao8 x Qv x Qv,bo (eb ao8 Qv) f6 g8 f5,kt (fun X d6=>cu (fq f5 d6) f5 Aa (nw ax)),cj m X x,cn (fq f6 d6)];have n:=fq g8 d6;have c8:=mY (fi (cG (ac hg d6))) FR;have j0:bp Z6 FR b2 []:=by{rw[bW f,bW a];exact f6};have a5:bp Z6 FR B hg:=by{rw[bW i,bW n];exact g8};have l3:bp Z6 FR X hg:=by{rw[bW m,ak]};rw[e d Z6 x FR x FR];generalize eb Z6 FR=d4 at c8 j0 a5 l3 d;refine fun c7 o nd o3=>?_;rw[cj j c7 x,b x _ dx _ rfl (Y aj6 d) gJ T.afq (aw (nw (vx ax))),z c (upd d4 c7 o x=aa FR) (bW aj6) d];refine k _ b2 B X c7 (mY (nf (cG (bZ (o:=o) nd))) (aI dq uO)) (sF ak) a0 (by cases q:H B with|none=>{rfl}|some o=>have:=a4 _ _ q ag;rw[oZ b];cases b) (cb X (b5 _ _ q ag) d6 d6) (cb c7 (c8 _ _ q ai) nd nd) ?_ ?_ ?_ ?_ a.symm n.symm l;{rw[bW f,gK j0 nd];exact j0};{rw[bW i,gK a5 nd];exact a5};rw[cx [0] (ac (bW m) (gK l3 nd) l3) GM.aRF,l (o3.go (nH c) (fun g e=>Y j e))]
theorem aZn:T.T2.Ok mg P w aj 3 (ay0 dq):=by refine T.T2.go aeY aK;generalize aF=e3,az=A,aE=outer,aD=s,aB=H,aA=vs,aG=Q,aH=E;rw[aN,M amm,aX];generalize Y1=x,aV cP=b2,bX cP=B,cA cP=X,b1 cP=c7,cu cP=v,du cP=ls,d7 cP=a,fq cP=z,ZR=n;rintro rfl⟨dx,S⟩c2 d8 gl d3 e8 sl d6 d1 k;rw[tr (id c2),bV (X aeY.nd (bh aft bO aq) (ak lz av nZ (bU 3 aeY.nd (f7 av)) (D gP (Z awT yc yc aq) bD cu)) (de (f7 av))) x (a S gJ DZ G6 b2 v ls z (a n rfl c2.ls d3 e8 sl d6 d1 (G0 (bt DZ G6 b2 hu))))];rw[aj7];have r:K a n a[n]:=da eO;rw[d0 UO,ko];{have C:n<wX:=by{rw[fy (By c)]};have b4:=da C;have sm:=sl _ (te C);rw[bs b4,c u d b e7 f5 U r1 r2 (mA a9 b4),iW S (w DZ G6 b2 _ (w (au hu) (dZ d) b _ (w pO dg b _ (a pO dr _ _ z (cA r1 r2 d3) sm.1 sm.2 (aP e8 ?_)))))];rw[dO];rw[T (NW ls[n].1 ls[n].2 z) 0];{simp only[q,mM]at k;rw[dH q];exact(k _ rfl)};{simp only[q,iV,r]at k;rw[ec q];rw[iW S beU]}};{rw[zI (x (Bz c)),r]at k;exact G0 beU}
theorem aZo:T.T3.Ok mg P w aj 3 (ayZ dq):=by refine T.T3.go aeZ aK;generalize aF=e3,az=A,aE=outer,aD=s,aB=H,aA=vs,aG=Q,aH=E;rw[aN,M amm,aX];generalize Y1=x,aV cP=b2,bX cP=B,cA cP=X,b1 cP=c7,cu cP=cnt,du cP=l,d7 cP=J,fq cP=b,ZR=aP;rintro rfl S c3 g r j k;delta UM UN at k;rw[fa,ra (b6 (sg (ea gP bb bD) (bo (yy (jo bR gJ T.T1.h (eD aZl) a6 T.T1.b .nil fu aGq)) (ea aq)) BE) (d aeZ.nd 4 (oA (eC yA bb)) (ck "number" 5) (cj 5 aeZ.nd) kO (bC (Sk bR gJ T.TZ.h (eD aZk) a6 T.TZ.b .nil fu))) (c4 (ea aq) bQ (ea av)))];rw[dO];rw[d9 n b];{subst n;rw[x9 S,b x dx ex xS x b2 (a B X c7 cnt l J aP rfl (a S c3 g r (fun a8 a4 I=>⟨(ag),fun a b0=>?_⟩))),cG d6 a I b0];rw[cO,cO]at k;refine k _ a (gd (l5 b0)) (by cases q:H a with|none=>{rfl}|some o=>have:=a4 _ _ q fS;rw[oZ b0];cases b0) ak ?_;rw[qR I];exact q1 (Y d6 e)};{rw[(ec ag)];rw[j (ae (b-1)) (gC (J [cp z]) (bt (ahA (VX n)))) aT eO a9q];rw[iU];rw[cG p D c3 m];refine fI (b-1) (yY uM (aj D (v5 i)) (vJ L X (cnt+i) apb)) (aJ (l5 m) (dd ak));{rw[qR c3];exact v lk (Y p e) (d.congr (aL ag))};{rintro i L hi⟨s,f,Y⟩;have G:=S.sb c3 s;rw[x9 G,iu (a x dx _ rfl ex xS x b2 (a B X c7 (cnt+i) _ rfl G Y (br j hi (qS b 1)) a8S)),K (b5 _ _ f fS) fS ?_ Ph,DT ((ir b5) c o g7 nc)];{rw[ak,List.range'_concat];simp};{rw[qR f5,aa lk (Y p e) (d.congr qr)];by_cases q:I4;{simp at*;lia};rw[a_]}};rintro b7⟨s,f,f5⟩;rw[v (ag) (fun e0 n1=>?_),n e0 D ak (cp n1 f) ⟨fS,fun g0 n2=>⟨(ai),fun d0 u=>m g0 d0 (cp u ak) ak ⟨fS,fun R y=>?_⟩⟩⟩];have c0:=bX (L (ac [vn l] n1) a7Q) (ac [vn J] u) (ac (([vn l]++v5 (b-1))++[vn J]) y);rw[bj n,bj n]at k;refine k _ R (ir (cG c0)) (cb R (H5 (d3 q (aI (J (by rw[qR f5];have:=H5 e;rw[b4 this y];cases y))))) y y) (nP ak) ?_;rw[qR f5];exact q1 (c0 _ _ e)}
universe z
section z
theorem aZp:T.av4.Ok P w aj 3 ay1:=by refine T.av4.go ae0 aK;generalize aF=e3,az=A,aE=outer,aD=s,aB=H,aA=vs,aG=Q,aH=E;rw[aN,M iA,aX,L u lt r v c];rintro rfl c2⟨b1,hu,a9⟩Z l nd a0 st q k;rw[fa,w _ (X ae0.nd Bb (bd aq 3 ae0.nd (yy (adv aj8 PySem.F.slot_list_insert PySem.F.type_list_insert aWr av (sH (bh aft av bb) (as bR bb))))) (de av)) cS aJ0,gW (ap c0 []) c1,a9 lt (di hu) (bW b1 (bi (∃j8,M=[aa u,ac lt,OS,j8]) bP (dB eR L c0 (B aab (fu an5)))) (a qn a4 [] ak .nil) hu)];{rintro i x M L S⟨⟨j8,rfl⟩,s,e⟩;rw[aW p a3 a9 S,gA a3,a3 a b3 a3];have a8:=bM b3;rw[aL (Xn (i+1)) (Xn i) a b3];have d8:=GM.aei Z (Xn i) [] a7w (dc (l b (qZ U))) (aI (a5G (aBK _ _) nd)) .nil;rw[cg mem (fZ aab c) (by have:=d8.1.mem_iff.mp U;rw[pw a5Q];exact qZ this)];have len:t aab<=gg:=by{rw[d8.1.length_eq];simp;exact(oV i gg)};rw[cs c9 (CL (Xn (i+1))) (aFf r v aab a)];rw[c9];generalize aab=R at*;rw[bE d3 d (id e)];have i5:=oZ;rw[bA]at i5;have B:bd aLD R.length:=aIy;rw[bT (bK s J),g (dq d3) c0 x (R.map (fu an5)) rq (t aLD) e.ls (a m (st a a8) Q6 ai (aw aI5))];{rw[a7 b U b6];exact⟨a0,st b (mem b U)⟩};{rw[gA b8,a3 b U b8];exact(GM.aZc Z (dc (l b (mem b U))) (l a a8) d8.2) j b U};rw[v (ai) (fun t h7=>?_),T f L aKr h7];have g:=f _ _ d3;have i0:eR aKr nG an5:=m t u x (v ak (bK (ir f) c2) (bK f m));rw[hz (ir f)];have o:=cd (dj f) d;generalize aKr=b7 at g i0 b5 o;generalize d1:t aLD=n at*;have h8:=GG (o:= .lst bdL) g;rw[c c0 vs n nG rfl g ag (a (db i5.l len q) ek (fI b5 c1) bdL (aw ak)),dS d2 (aFf r v R a) (R.take n++a::R.drop n)];rw[d2,fg,c_,Ds,Dt];have j0:=cd h8 o;exact oJ (sF n j0) (.cons (tv h8 i0) (Cn n j0))};rw[bK L j8 s e];have h5:=aj7;rw[bA]at h5;rw[dc h5 e,fy (k c0 L s c1 e)]
universe z
structure sM(C:Addr)(P:Program)(w:World)(r:Gla.Plan)(H:Hp)(x b2 B X c7:Addr)(s:GM.Sw)(t:Nat):Prop where
 at_:hf H
 p:dB eR H b2 (B (tx pa) (jK r))
 g:am B (bh (II 0 pa))
 k:vJ H X ee eL
 d:∃f n,oN P w H c7 f n/\n<=GM.CF r t/\h2 (jW->zU (fr (bx Y2 amo)))
 n1:X≠b2
 n2:X≠B
theorem sM.nt{C P w r H x b2 B X c7 s t}(h:anJ):oO aaJ H:=qT (by rw[cw d2 mY,h9 lk h.k];obtain⟨f,n,⟨F,q3,_,_,_⟩,_⟩:=h.d;rw[Br,apM,ay,ay];{rw[a6 q3,dU]})
theorem sM.mono{C P w r H L x b2 B X c7 s t}(h:anJ)(sm:bP):iO L s:=by rw[cw d2 mY,bbR,y9 q3];exact o (sF (sm _ _ d2)) (ai3 gA sm) (sm _ _ h.g) (q1 (sm _ _ q2)) (D.mono sm) (q3 e a0 lt) (sm _ _ b9)
noncomputable def swL(b2 B X c7:Addr):hX:=[fX "passed" b2,fX "gaps" B,a'A,fX "sides" c7]
theorem L9(b2 B X c7:Addr):uO=swL b2 B X c7:=by delta qL;show aL "sides" c7 (aL "links" X (aL "gaps" B [("passed",YJ)]))=_;rw[rO];rw[rO,rO];show aL "sides" c7 [fX "passed" b2,fX "gaps" B,a'A]=_;rw[rO,rO,rO];rfl
theorem aZq(b2 B X c7 l:Addr):kq "passed" cC uO=qL l B X c7:=by rw[L9,L9];delta swL;rw[UL]
theorem aZr(b2 B X c7 l:Addr):kq "gaps" cC uO=qL b2 l X c7:=by rw[L9,L9];delta swL;rw[rO,UL]
theorem aZs(b2 B X c7:Addr):t uO<1000:=by rw[L9];show 4<1000;decide
inductive ay2(C:Addr)(P:Program)(w:World)(vs:af)(H:Hp)(Q:VK)(E:XK):Prop|mk:∀(x b2 B X c7:Addr)(r:Gla.Plan)(t:Nat)(pv:V)(lt:Addr),e [kR,pv,vn (t aGM),.ref lt] a'J (br pv (bp t)) (fg lt (B anQ bp)) (j (zZ r) (t<aL) (V p dd (gQ p)) aHW (∀L e7 d,c (fM aaJ) (Y e7) (Y d) (sM C P w r L x e7 d X c7 (ng r (t+1)) (t+1)) IY) (ay2 C P w vs H Q E))
theorem ay3{r:Gla.Plan}(Z:zZ r){i j:Nat}(hi:g_)(b8:oo)(h:eH=bp j):i=j:=by have O:∀{a b},a<b->b<aL->rq≠bp b:=fun{a b}lt U z=>by{have:=Nh Z.dP a b ES U lt;rw[<-wZ (b8 lt U),<-wZ U,z]at this;exact GM.my _ this};rw[fj i j,ay,iB,cL]
theorem agn{N d5:bg}{H L:Hp}(s:uF)(h:ev N (a∈d5)):fM d5:=fun c o e n=>s c o e (bo (n (h c m)))
section z
theorem mi2{a b c s:Nat}(h:b+c<=s):aai+c<=s:=cn (a5S (oV ..) _) h
theorem mi3{a b c d e s:Nat}(h:b+c+d<=s):aai+c+(d-e)<=s:=cn (aD1 (a5S (oV ..) _) (qS ..)) h
theorem aZt:T.T4.Ok mg P w aj 4 (ay2 dq P w):=by refine T.T4.go aTN aK;generalize aF=e3,az=A,aE=outer,aD=s,aB=H,aA=vs,aG=Q,aH=E;rw[aN,M JD,aX];generalize E_=x,Fc=b2,Fd=B,Fe=X,Ff=c7,Fh=r,Fl=t,Fo=u,FC=lt;rintro rfl d5 c2 c6 Z l e8 j7 k;rw[Bx,dy sm (im (gQ eH)) (e8 _ (Eb hi)),eh (GM.qH Z t (ey l))];have parts:=GM.Lu r (bp t) akS;have e9:=GM.oD Z t;rw[f4 (GM.UK r t)];have h7:=GM.aZd Z t;have bs:=GM.agl Z t;have r4:=GM.UK r (t+1);have C:=GM.agk Z t;have D:=GM.aZe Z l;have r5:=fun{e:Nat×Nat}(a0:e∈bX)(lt:e.1<t+1)=>GM.aZg Z a0 lt;rw[ab o8 (aHB).row (alV++(aFg Rp (OD).cnt a_t++bcM)),ab r6 (aHB).cnt ((OD).cnt+(t Rp-1)),ab vg (aHB).aP (v Rp [] (aFe (OD).aP (Ea 0 alV) a_t) (ed (x<(OD).cnt) ((OD).aP x) x))];have r7:B (GM.aeh r t anQ) (fu (bp t,rq))=B Rp (jK r):=by{delta a5V;rw[jz];rfl};rw[ak r8 Rp iC (p3 bbH)];have r9:=GM.ayR Z t;generalize ng r (t+1)=a4 at*;generalize alV=c at*;generalize aGM=d at*;generalize bcM=RB at*;generalize ng r t=s0 at*;generalize hN:Rp=N at*;rw[ca (i 4 Xr (bh aft bO aq) (bU 5 Xr (bh aZp aq bb)) (i 6 Xr (jo bR gJ T.T3.h (eD aZo) a6 T.T3.b .nil fu (yZ (f7 bQ) (f7 aIV) (dO cJ))) (u cJ 7 Xr 8 Xr (af4 wt bO ki (as (bs ew kh) (bs ew (hv kh))) rfl)) (m3 (c4 (h0 bO bQ) cJ (sA aIV)) (c4 (h0 bO bQ) ew (sA (hv aIV)))))),cw S Xq,tr d5.p,o8 (t (tx Xp)) aj9];have nA:gg<=t (tx Xp):=by{rw[i7,lH];simp};rw[iW S (a DZ G6 b2 u (B (tx Xp) (jK r)) (bp t) gg rfl (a d5.p.ls c2 (sm t l) Q6 (t bA nA) aI5 ?_))];{rw[h4 b6];have:=gb e (p3 iw);exact⟨sm _ Q8,sm _ fm⟩};{rw[gA b8,a3 e a0 b8];exact D j e a0};have h8:t anQ<=dQ:=by{delta akc;rw[bA];exact AW};rw[c u lt r t anQ c2 c6 (a Z C.1 C.2 (sm t l) (dc (sm b (gb _ (C.1 b U)).2)) (bn h8 j7) (fun i5 a8 d2 n5 k5=>?_))];rw[r7]at k5;have Y:=d5.mono d2;obtain⟨h4,j0⟩:=akb;have gl:IU<=aj9:=by{simp[*]};have g7:ap OA gg (vn Zz):=by{rw[cz,lH,GM.agj];rfl};have g8:ap OA IU (vn (Ea Zz d)):=by{have:=GM.agj 0 (c++d) RB;rw[dv,<-lH,cj,GM.oA]at this;rw[cz,this];rfl};obtain⟨p,o9,p0⟩:=id k5;have s6:Zz<D_:=HA _ (ac lH GM.CD (vU _ (GM.sr c 0)));have s7:Ea Zz d<D_:=HA _ (by rw[lH,<-dv,GM.CD,<-GM.oA];exact vU _ (GM.sr (c++d) 0));generalize s8:Zz=h9 at*;generalize Ea h9 d=b5 at*;have n6:=p0.length;rw[bA]at n6;rw[b x h4 j0 xS x _ (a h4 _ _ rfl j0 gJ IH L7 (E B h9 (au Y.g) (dZ g7) (f x _ h4 _ j0 gJ (w IH L7 B (vn b5) (bt (au Y.g) (dZ (j:=IU) g8) i5 o9)))))];rw[n6];rw[b x b2 B X c7 D_ h9 b5 (a iT s0.aP rfl akb Y.k s6 s7 (x (uW e9 bs.g r4 j7)) (fun b7 k7 q2 x1 k2 f5=>?_))];have s9:UM h9 b5 D_ iT=aJY:=by{delta UM;rw[N z N []];{rw[z];rfl};{rw[bj (ah (z (NU q))),GM.ayN N _ _ _ z]}};have v:UN s0.aP h9 b5 D_ iT=a4.aP:=by{rw[vg];delta UN;rw[N z N []];{simp};{simp}};rw[s9]at k2;rw[v,<-r6]at f5;have p1:t aJY=iT+1:=by{rw[Xo];rw[it (GM.mv N D_ b5)];unfold GM.linesOf at this;rw[am bA,xM]};generalize hG:aJY=G at*;have k1:=L8 Y.k;have m2:=q2.ts k1;have j6:=Y.at_.sb Y.k q2;obtain⟨x2,t2,_⟩:=Y.k;have t4:H X≠ae:=by{rw[gr lk d5.k];rw[e];rw[Bt]};rw[M t5 i5 X (t4 (bl z n5)),cj x3 k7 X];obtain⟨g4,n1,k3,t6,t7⟩:=Y.d;rw[M p2 c7 X (by rw[gh q k3,b4 t2 q,kK]),ac m3 x c7 k3 j0];have i4:oN P w b7 c7 g4 n1:=k3.go m2 (eN (lJ e p2));have c5:=lJ o9 t5;have m4:=cd m2 p0;obtain⟨GO,l8,t8⟩:=Y.p;have l9:=lJ l8 d5.n1.symm;have t9:=cd m2 t8;have p3:=lJ Y.g d5.n2.symm;rw[au o7 aaJ b7 (L (cG d2) (agn q2 ai)),ac p4 k7 c7 i4 k2,ac m7 i5 c7 i4 c5,ac u0 b2 c7 i4 l9,ac u1 B c7 i4 p3];have inj:h2 (∀d3∈bX,gR xE=gR (jK r d3)->e=d3):=fun e a0 d3 V q=>by{have q:=ayC q;unfold GM.aY' at q;rw[cn yi,cb (gb d3 V)];exact qO (lJ q) (lJ q).2};rw[kx m1 j6,bA i5 c5 (bv iT (bi (vw (fun j3 i9=>M=[ac x,aa u,bI oZ,ac lt,bI gg,ac i5,ac k7,j3,i9])) (SB [c7] b7 L) (vw (fun f n=>vu (oN P w L c7 f n) (n<=GM.CF r t+i) (h2 (jW->zU (hI (bx (s0.side e).1 (s0.side e).2)))) (Q e (j<i) N e (zU (hI (bx (IJ j 0) (IJ (j+1) 0)))))))) (a Kf (cG ei) g4 n1 i4 t6 (wc (nR (t7 e a0 lt) (m2 _ _ b9))) (fun j e b8=>AA)))];{rw[ps sb];exact as (dB p ag) (au aKs) pN};rw[i3 sb (ce aKs (x n6.l))];{rintro i M L d7 d4 hi⟨⟨j3,i9,rfl⟩,sb,f,n,h3,a3,d8,f9⟩⟨d6,y,rfl,k4,rfl,b6⟩;rw[qX (au aKs)];have k8:A N N[i]:=pQ;have m8:N[i]∈N:=te hi;generalize N[i]=e at k8 m8;rw[bhD];have m9:=aj' n7;obtain⟨i1,h1,rv⟩:=oI m4 b6;rw[cz,k8]at h1;rw[b8 h1 xE i1 h1];subst h1;rw[T c8 L (kz hO) k4,d5 l5 hO hO];generalize kz hO=d4 at c8 l5;have f6:=aka (cG c8);have p5:=tv (m9.trans (dj c8)) rv;rw[p4 u2 p5];have i2:=f6 _ _ m1 (aI m3);have l6:=f6 _ _ k2 (aI p4);rw[aW d6 (cx l5) gM,bv gi (j<iT+1) (aa (PY) (vn (IJ j 0))) (p5 (getD_some ag)),ah k7 (au l6) (dZ (gi i Jh)) (m k7 _ (au l6) (dZ (j:=i+1) (gi (i+1) ag)) ⟨et,fun c3 u3=>?_⟩),l d9 d4 d4 c3 aK' u3,e p8 d4 c3 aK' c3 (bx (IJ i 0) (IJ (i+1) 0)),m d4 c3 aK' e4 d9 p8];have k9:=f6.trans (cG d9);have n0:=En;rw[io (fH i2) (a T.afq ayS c7 u2 (gR xE) f n rfl (a rfl (h3.mono n0) (ng (tv (dj d9) p5)) CW ⟨by rw[wg];lia,fun o k6=>?_⟩))];have u4:=h3.mono n0;obtain⟨x4,i6,_,_,_⟩:=u4;rw[ae J e4 (upd e4 c7 o) (nH i6)];obtain⟨le,b4⟩:=x bbH (t hN m8);rw[e (bm _) (k9.put bJ) _ _ k6 (x (aD4 bF)) (fun d3 V lt'=>?_) (fun j d3 b8 V=>?_)];{rw[q9 (d8 d3 V lt')];have ne:a'c:=ah (by have:=inj d3 V e le q;rw[this,b4]at lt';exact iP _ lt');exact bfB};{rw[T j i];{rw[e_];rw[k8]at V;rw[b8 V e d3 V];subst V;exact v c3 aT (J _ _ p8)};{rw[q9 (f9 j d3 Yr V)];have u5:=r8 d3 (bM V);have ne:a'c:=J (by have:=inj d3 u5 e le z;rw[gq];exact q (Gb r9 V k8));exact bfB}}};rintro M d4⟨⟨j3,i9,rfl⟩,sb,f,n,h3,a3,d8,f9⟩;rw[bhD];have m9:=aj' n7;have i2:=d4 m1 m3;have p9:=d4 l9 u0;have u6:=d4 c5 m7;have l6:=d4 p3 u1;have q0:=d4 k2 p4;obtain⟨u7,u9,Un⟩:=f5;have n2:=d4 u9 p2.symm;have q1:=cd m9 t9;have v3:=cd m9 m4;have h5:=q1.length;rw[bA,i7]at h5;have x5:aj9<=dQ:=by{have nd:c8 (tx Xp):=I.dP.imp (fun q z=>by rw[rD];exact q.asymm q);rw[dk nd bX (f8 (p3 iw))];simp_all only};rw[au n8 aaJ d4 (o7.trans (agn sb aT)),io i2 (K DZ G6 b2 (au p9) (fun e0 g9=>?_))];rw[zb GO gg];rw[T e5 d4 (U d4 e0 xH) g9,a b4 d4 e0 xH e0 xH,i d4 e0 xH p6 e5 b4,n e0 i5 b4 (e5 _ _ u6) ⟨t eS (mi2 bL),fun g0 e1=>?_⟩];have e6:=a5U (bs xH p e1);rw[a b9 p6 g0 (xH++p) g0 (xH++p),i p6 g0 (xH++p) p7 e6 b9,io (e6 _ _ i2) (K DZ G6 b2 (au (e6 _ _ p9)) (fun d0 j5=>?_)),aa GO (aa (v gg+v oZ)) Jb GO IU];have c1:=ac Jb j5;rw[a e7 p7 d0 Jb d0 Jb,i p7 d0 Jb v8 c1 e7,n g0 d0 (c1 _ _ b9) e7 ⟨by simp only[cj,eS,sR];exact mi3 bL,fun R b0=>?_⟩];have i0:=L (aj_ c1) (bs (xH++p) Jb b0);rw[a g5 v8 R aLU R aLU,i v8 R aLU m5 i0 g5];have n9:=i0 _ _ i2;have o1:R≠x:=bI g5 n9;rw[M q4 R X (mJ (w9 n2) b0),pE n9 DZ];rw[aZq];rw[z v5 (uX (m5 x)) n9 CW,ae J m5 (eb m5 Zv) (yX v5),cp i3 (m5 b) (upd m5 x Zv b) (Y a5 e),e l1 m5 x Zv x Zv];generalize eb m5 Zv=m6 at J i3 l1;have q5:x≠X:=bI i2 n2;have v7:B≠x:=bI l6 i2;have v9:k7≠x:=bI q0 i2;have g6:=ij v7 l6;have w0:=ij v9 q0;rw[io l1 (K IH L7 B (au g6) (fun h2 c0=>?_))];rw[zb _ gg];rw[T o2 m6 (U m6 h2 Bu) c0,a j1 m6 h2 Bu h2 Bu,i m6 h2 Bu q6 o2 j1];have x6:t OA=aj9+1:=by{rw[bA,Xo]};rw[n h2 k7 j1 (o2 _ _ w0) ⟨by rw[eS,bA,bA,p1,Xo];exact mi2 bL,fun e2 f7=>?_⟩];have l0:=o2.trans (bs Bu PY f7);rw[a j2 q6 e2 (Bu++PY) e2 (Bu++PY),i q6 e2 (Bu++PY) q7 l0 j2,io (l0 _ _ l1) (K IH L7 B (au (l0 _ _ g6)) (fun i8 w1=>?_)),aa OA (aa (v gg+v oZ+1)) RA _ (IU+1)];have k0:=ac RA w1;rw[a j9 q7 i8 RA i8 RA,i q7 i8 RA q8 k0 j9,n e2 i8 (k0 _ _ j2) j9 ⟨by simp only[cj,eS,sR,bA,p1,Xo];exact mi3 bL,fun b3 n3=>?_⟩];have w2:Bu++PY++RA=Zb:=by{rw[o8,GM.aZa c d RB (aFg N D_ b5),<-lH,fg,fg,Ds,Dt,dv,s8,hG]};rw[w2];have l2:=L (a5T k0) (ac Zb n3);rw[a j8 q8 b3 Zb b3 Zb,i q8 b3 Zb l4 l2 j8];have o3:=l2 _ _ l1;have o4:b3≠x:=bI j8 o3;have w3:=ij q5.symm n2;rw[M q9 b3 X (mJ (w_ w3) n3),pE o3 IH];rw[aZr];rw[ae r0 l4 (eb l4 aaB) (nH o3),cp n4 (l4 b) (upd l4 x aaB b) (Y a5 e),e r1 l4 x aaB x aaB];generalize eb l4 aaB=o5 at r0 n4 r1;rw[ae l7 d4 o5 (bX (hL i0 J) (dj l2) r0),cp o6 (d4 b) (o5 b) (n4 _ _ a5 (l2 _ _ (ij a5 e)))];have r2:d4 c7≠ae:=by{rw[gh q h3];rw[q];rw[Bt]};rw[d w4 (H R) (H R) w5 R (w9 c4) b0 (w9 (n8 _ _ q (bx o1 q4 w5))) b0,d w6 (H b3) (H b3) w7 b3 (w_ (ij m3.symm c4)) n3 (w_ (ij o4 (n8 _ _ q (bx o4 q9 w7)))) n3];refine k o5 R b3 (fun b o e a5=>?_) w4 w6 (a ⟨W,r1⟩ ?_ (n4 _ _ o4 j8) (v u7 (o6 _ _ q5.symm n2) Un) (a f n (h3.go l7 (eN (o6 _ _ m3.symm e))) ag (fun e a0 lt=>?_)) q4.symm q9.symm);{have w8:b≠x:=J (a5 (ar z));exact o6 _ _ w8 (n8 b o e a5)};{rw[ca (n4 _ _ o1 (l2 _ _ (i3 _ _ o1 g5)))];rw[o8,GM.aZb c d RB,GM.mv,fg,fg,Ds,Dt,<-lH,<-dv];have r3:=cd l7 q1;have w9:=cd l7 v3;exact oJ (oJ (sF _ r3) w9) (Cn _ r3)};{rcases r5 a0 lt with⟨lt',a7,_⟩|⟨j,b8,a7⟩;{rw[q9 (d8 e a0 lt')];exact v b h2 (t a7 (l7 _ _ e2))};{have j4:j<iT:=bx b8;rw[q9 (f9 j e j4 b8),ak b h2];rw[a7];exact l7 _ _ e2}}
universe z
abbrev ze{I:Type}(O:JP):kk:=fun H v a=>LD (B (O a) cp) H v
theorem ay6{I:Type}(O:JP):lB (ze O):=sn (by rw[bG e h e0];exact v b e (bv h))
theorem ay7{I:Type}{O:JP}{H:Hp}{d7:af}{Z:ba}(q:dD (ze O H) d7 Z):∃b1:qc,d7=vF b1/\EL=ahE O/\Uy H b1:=by induction q with|nil=>{exact bj [] rfl (lI (by cases m))}|cons J t i=>rw[bG e h J,rc i,w ((b,O _)::b1) ?_ (gC _ b9) a7x];{rw[e,b4];rfl};{rw[cY (ic m),Z z h,l (e7 t z)]}
theorem ay8{I:Type}{O:JP}{H:Hp}:∀{b1:qc}{W:ba},EL=aFh O->Uy H b1->dD (ze O H) (vF b1) W|[],[],_,_=> .nil|u::b1,a::W,e,h=>by rw[c_,c_]at e;injection e with b4 b9;refine .cons (aP u.1 ?_) (ay8 b9 (lI (h t (ck m))));rw[<-b4];exact h u bJ
theorem ay9{I:Type}{O:JP}{b1:qc}{W:ba}(e:EL=aFh O)(p:a5c aKJ):aLE:=by have e9:eT EL (jM (mO y x=ah)):=a3L p;rw[e]at e9;exact List.pairwise_map.mp e9
theorem ago{I:Type}{O:JP}{K:Fg}{w:World}{H:Hp}{Q:VK}{a:Addr}{Z:ba}(h:baQ)(ne:a_4)(z:a1 fL)(q:∀p o W,c (W.Perm Z) (aLE) (Y p) (dB (ze O) amS p W) (Q fP amS)):L0 K w uo H Q:=by rw[dj d7 c0 c5,rc (ay7 c5),Ju,ca h5 lD fL b9,y a b1 e7 (pm Jc (.inl c0)),KW (Iv m)];{obtain⟨W,C,n⟩:=af0 O aJr Z b9;refine q p _ W C (ay9 n po) a0 (pe (bZ a0) (aEC m))}
theorem agp{I:Type}{O:JP}(inj:j x y (O x=O y) (x=y)){K:Fg}{w:World}{H:Hp}{Q:VK}{a:Addr}{Z:ba}(h:baQ)(ne:a_4)(c:fL<=100000)(z:∃B:ba,eC<9000/\aL Z nB)(q:∀p L W,j (gY W Z) W.Nodup (aLE) bP (Y p) (dB (ze O) L p W) (Q fP L)):UA K w uo H (fun v a8=>L0 K w [v] a8 Q):=by rw[dj d7 c0 c5,rc (ay7 c5),Ju,ca h5 lD fL b9,fa,y a b1 c0 (v e7 (fun m nd c4=>by rw[dP h7 hB z,dk nd (ajv O) (fun k c3=>by have a3:=c4 k c3;rw[b9]at a3;rw[aO x S (zy a3),xN];exact Iv (hB x S)),am bA];exact Rj) (fun r a7 vs F sub nd mem nS=>?_)),gW a_T nS,bM i5 iS lD (a5W (pl eX nd) (lI (sub t m))),y r vs (lI ((dj a4) _ _ (e7 t (sub t m)))) (pm (db i5 h5.l c) (.inr (v a7 ak F))),KW (Iv (sub t m))];{have ex:Ht (Vs eX):=by{have b3:∀l:fC,V k l (k∈ahE O)->Ht l:=by{rw[rL];induction l with|nil=>{rw[Yq]}|cons k J d6=>intro c3;rw[bI e c9 (d6 (fun G m=>c3 G (ck m))),ln ex (zy (c3 k fx))];exact v (x::f) (by rw[c_,ex,<-e]) (fun y U=>by rw[cY (ic U),a_,l (c9 y z)])};exact b3 _ (fun k m=>bl b9 (x (mem k) m))};rw[bI f5 c9 ex];obtain⟨W,C,n⟩:=af0 O aJr f f5;rw[oW (ac (vF g) a0)];refine q p _ W (ab (by constructor;rw[l (bo (c9 x (C.mem_iff.mp m)))];{intro m;have:O x∈Vs eX:=ic _ (t b9 (Iv m));rw[am f5,aO y b6 (zy this)];rw[<-inj _ _ e];exact C.mem_iff.mpr b6})) (by have n1:=(aJr).nodup_iff.mpr nd;rw[n]at n1;exact pl O n1) (ay9 n po) b5 (gY a0) (pe b5 (sub t (aEC m)))}
noncomputable abbrev sO(p:Pt):aQ:=ys
noncomputable abbrev G7(e:fB):aQ:=dq e.1 e.2
noncomputable abbrev L_(m:Gla.Mark):aQ:=[v il,v ip,v jA,v kE]
noncomputable abbrev CG(e:aly):aQ:=[v e.1.y,v e.1.x,v e.2]
universe GA
namespace GM
open Gla
variable{r:Plan}
theorem aZu(Z:bq){t:Nat}{z:Pt}(b3:r.w<z.x)(T:ot){e:Ln}(a0:e∈bG jc):ke<0:=by rw[jD ((anH).mem e),aoX,fK (akd (mU e.1 Au)),ep (akd (mT e.2 m.2.2 l.2))];have e7:=HJ (i:=e.1) ZV;have f5:=HJ (i:=e.2) l.2;generalize eF=p at*;generalize eG=q at*;have b4:Ke= -(bdT)-bfw:=by{rw[ui];grind};rw[b4];have a:0<bdT:=hI bL (F1 e7);have b:0<=bfw:=tc bL (F1 f5);exact Ks a b
theorem aZv(Z:bq){t:Nat}{z:Pt}(T:ot):bbQ:=by by_cases b3:QC;rw[l (aZf Z b3 T)];{rw[ak al (bG jc) (ke<0) (aZu Z (x (aNl b3)) T a0)];intro i e a0;have le:hE jc=jc:=by{delta yQ;have O:∀J:Row,bk J (i4 x.1.1 x.1.2<0)->J.takeWhile aHo=J:=by{intro J;induction J with|nil=>{rw[Yq]}|cons x J d6=>rw[eE];rw[aj5 (sr Ls),d6 aI8]};exact O _ (aL (al x.1 (Iv S)))};rw[le];have X:=bx a0;unfold linesOf at X;rw[bA]at X;exact⟨as (al e uv),as X⟩}
theorem aZw(Z:bq){t:Nat}{z:Pt}(T:ot):Ao=t:=by delta Gw;have e:dd=Wm t++Xs t:=aGk;have a3:cA (Wm t) (ph z=ab):=fun p c2=>by{rw[wt (aFi c2)];have X:i<t:=fJ (bx hi) (List.length_take_le _ _);rw[sX X]at hi;have:=mU i X;rw[f5 (bx hi),am (sx a5),dd a5 hi];cases hi;exact this};rw[e,List.takeWhile_append_of_pos (gW (a3 p c2))];have a9:(Xs t).takeWhile Qj=[]:=by{cases q:Xs t with|nil=>{rfl}|cons p J=>have hi:K dd t p:=by{rw[<-List.head?_drop,q];rfl};have X:=bx hi;have:=mT t aY X;rw[am (sx X),dd X hi];cases hi;rw[aj4];intro d3;rw[cn (akd this),cb (akd d3)];exact cb (FX a b) (iP _) (cj (iP _ k.2))};rw[a9,qQ,eS];have:=wF;exact qV EB
noncomputable def UP(r:Plan)(z:Pt)(row:Row):jb:=bhx
theorem aZx{z:Pt}(h:z∈dd):FE=ae:=sr Cf
theorem ay_(Z:bq){t:Nat}{z:Pt}(T:ot):FE=UP r z jc:=by delta Cf UP;simp only;rw[aZw Z T,bj (c_ (by rw[ib (Ny h),py (sx hi),al (iq i t),c9 (mU i q) e (my _ this),c9 (mT i q hi) e (my _ this)]))];all_goals rfl
theorem aZy(Z:bq){z:Pt}(h:im (qH z)):FE=aa 0:=by rw[ay_ Z (v aY h (fun i a b=>fp))];have e:jr aL=[]:=by{cases q:jr aL with|nil=>{rfl}|cons x J=>have:x.1∈bG (jr aL):=t q Ag;rw[bT (x ((qH Z aL aY).mem x.1) this),cd (gb x.1 m.1)];lia-abstractProof};rw[e];rfl
theorem aZz(Z:bq){z:Pt}{g:Nat}(h:FE=aa g):g<Bj:=by have d:eV cM (io a<=io b):=fun a b le=>by{induction le with|refl=>{exact aY}| @step m _ d6=>rw[tj d6];show io m<=io m+_;exact xK};have h8:Ao<=aL:=by{delta Gw;exact aIy};have O:a8G<io Ao:=by{refine(qH Z _ h8).gap _ ?_;have e:Pj=hE Pj++Gv r z Pj:=by{delta yQ Gv;rw[zG]};have m:a8G∈du 0 (hE Pj):=sr _ 0;rw[e,CD];grind-abstractProof};rw[a4 Cf];grind-abstractProof
universe GM
namespace GA
open PySem PySem.Spec PyProof.Rows L2
noncomputable def nv:jb->V|none=> .bC|some n=>jj
theorem aZA{H:Hp}{v:V}{o:jb}(h:Up H v o):v=nv o:=by cases o<;>exact h
noncomputable def UQ(x I:Addr):hX:=aL "mark_gaps" I (aL "sweep" x [])
section z
variable{x I:Addr}
theorem Ma:bN aan "sweep" x:=by delta UQ;rw[aLf]
theorem aZB:bN aan "mark_gaps" I:=by delta UQ;rw[dh,cO]
theorem aZC{f:Str}(a3:¬f="mark_gaps")(a9:¬f="sweep"):fu aan f=ae:=by delta UQ;rw[dh,bj a3,dh,PX];rfl
universe z
structure Mb(b c:Addr)(P:Program)(w:World)(r:Gla.Plan)(H:Hp)(y x b2 B X c7 I:Addr):Prop where
 at_:∃dx,bh y (aI c aan)
 sw:sM b P w r H x b2 B X c7 (ng r aL) aL
 mg:am I (B (Ww (bo aoO)) nv)
 ne:I≠X
theorem Mb.mono{b c P w r H L y x b2 B X c7 I}(h:ja H)(s:bP):ja L:=by rw[JO];exact dx (bv q) (h.sw.mono s) (bv h.mg)
theorem sM.lk{C P w r H L x b2 B X c7 s t}(h:anJ)(sb:uM)(k:vJ L X ee eL):iO L s:=by have h7:=L8 h.k;rw[f3 (aj' h7),y9 sd];exact o (h.at_.sb h.k sb) (h.p.sb gA sb h7 (aI h.n1.symm)) (d4 h.g h.n2.symm) k (D.go g (eN (d4 e (J (by rw[gh q D,h9 lk h.k,b4 q2 q,kK]))))) (sd e a0 lt) (g _ _ b9)
theorem Mb.lk{b c P w r H L y x b2 B X c7 I}(h:ja H)(sb:uM)(k:vJ L X (ng r aL).cnt (ng r aL).aP):ja L:=by rw[JO];exact dx (d4 q (by rw[h9 lk h.sw.k];exact bI q q2)) (h.sw.lk sb k) (d4 h.mg ake)
inductive ay'(C:Addr)(vs:af)(H:Hp)(Q:VK)(E:XK):Prop|mk:∀(y dx x I:Addr),A (ec y kR I) (bh y Zc) (Q .bC (ad y (aI C aan))) (ay' C vs H Q E)
inductive aza(b c:Addr)(P:Program)(w:World)(vs:af)(H:Hp)(Q:VK)(E:XK):Prop|mk:∀(r:Gla.Plan)(y x b2 B X c7 I:Addr)(i:Nat)(m:Gla.Mark),e [Aw,pK] (ja H) anR (zZ r) ((o L uM (ja L) (Q (nv (IK r eM)) L))->aza b c P w vs H Q E)
inductive azb(b c:Addr)(P:Program)(w:World)(vs:af)(H:Hp)(Q:VK)(E:XK):Prop|mk:∀(r:Gla.Plan)(y x b2 B X c7 I:Addr)(v:V)(e:fB),e [Aw,v] (ja H) (eR H v xE) iC (zZ r->(∀L t,c uM (ja L) (L t=aa (bx (a5Y r e) (a5X r e))) (Y t) (Q nG L))->azb b c P w vs H Q E)
inductive azc(b c:Addr)(P:Program)(w:World)(vs:af)(H:Hp)(Q:VK)(E:XK):Prop|mk:∀(r:Gla.Plan)(y x b2 B X c7 I:Addr),e [Aw] (ja H) (GM.Net r) aHW (x6 Np->azc b c P w vs H Q E)
section z
theorem aZD:T.T5.Ok mg P w aj 1 (ay' lK):=by refine T.T5.go aTO aK;generalize aF=e3,az=A,aE=outer,aD=s,aB=H,aA=vs,aG=Q,aH=E;rw[aN,M oj,aX,al y dx x I,ds b6,g _ (m3 aq av) y _ dx _ b6 (a rm Om (ax) y _ dx _ rfl (a ak rm T.avH (vx ax) ?_)),J yx k]
theorem azd:T.GU.Ok mg P w aj 2 (aza dq lK P w):=by refine T.GU.go au6 aK;generalize aF=e3,az=A,aE=outer,aD=s,aB=H,aA=vs,aG=Q,aH=E;rw[aN,M amm,aX];generalize Y1=r,aV cP=y,bX cP=x,cA cP=b2,b1 cP=B,cu cP=X,du cP=c7,d7 cP=I,fq cP=i,ZR=m;rw[aw d5 c4 Z k,cw b6 Xq,bV (bo (bU 2 au6.nd (f7 aq)) (R5 (ea yC av cu) cu (Cb av))) y (b b6 rm T.avH aZB I _ (nv aoO) (aC rfl (au d5.mg) EK gM)),d0 IK];cases q:aoO with|none=>{rw[bs q];exact(k H (cG (tw H)) d5)}|some g=>rw[bs q,aLj];rw[(ec Z4)];rw[z y dx b6 rm (a Om Ma x m2 _ rfl S xS (b x b2 B X c7 g _ (a rfl aFj Xu (GM.aZz Z q) (fun a8 a4 c0=>k a8 a4 (d5.lk a4 c0)))))]
theorem aZE:T.T6.Ok mg P w aj 2 (azb dq lK P w):=by refine T.T6.go au7 aK;generalize aF=e3,az=A,aE=outer,aD=s,aB=H,aA=vs,aG=Q,aH=E;rw[aN,M amm,aX];generalize Y1=r,aV cP=y,bX cP=x,cA cP=b2,b1 cP=B,cu cP=X,du cP=c7,d7 cP=I,fq cP=v,ZR=e;rintro rfl d5 d3 a0 Z k;rw[cw b6 Xq,aLj,ah f D a3 sd d5.sw.d,iZ yi,q9 (sd e a0 aLc)];have sl:=(GM.qH Z aL aY).aQF e a0 aLc;rw[p4 i5 d3,bV (bo (bU 2 au7.nd (aXV wt (GS K bO) aq rz)) (as (Cb xI) (Cb xI))) y (b b6 rm Om Ma x m2 _ (i S gJ T.afq ayS c7 i5 (f (gR xE) f n cV rfl D (ng d3) (b h2 y _ dx _ rfl b6 (b rm Om Ma x m2 rfl S (bh xS b (cx e2) (a dg x b2 B X c7 _ _ (c _ rfl aFj Xu sl.1 (fun a8 a4 c0=>?_)))))))))];have Y:=d5.lk a4 c0;obtain⟨h4,u⟩:=akb;obtain⟨a,j0⟩:=Y.sw.at_;rw[z y h4 u rm (a Om Ma x a _ rfl j0 xS (as b (a4.ts (L8 Xu) _ _ e2) dr (b x b2 B X c7 _ _ (a rfl Y.sw.at_ Y.sw.k sl.2 (fun b7 b5 f7=>?_)))))];have O:=Y.lk b5 f7;rw[v et (fun t h7=>?_),J1];exact k _ t (IE (l5 h7)) (O.mono (bZ h7)) ak (cb t (i9 _ _ q (aI (J (by rw[f7 lk O.sw.k,b4 q h7];cases h7)))) h7 h7)
theorem aZF:T.T7.Ok mg P w aj 1 (azc dq lK P w):=by refine T.T7.go TC aK;generalize aF=e3,az=A,aE=outer,aD=s,aB=H,aA=vs,aG=Q,aH=E;rw[aN,M aK,aX];generalize aF=r,az=y,aE=x,aD=b2,aB=B,aA=X,aG=c7,aH=I;rw[aw d5 N j7 k,fa,cw b6 Xq,aLj];obtain⟨lk,a5,d⟩:=Xu;rw[cn (GM.aR1 N d)];have e9:=GM.oD iX aL;rw[f4 (GM.UK r aL)];have h5:=qY;rw[bV (L TC.nd (GS K bO) (d TC.nd 2 (oA (dO aq)) (ck "number" 3) (cj 3 TC.nd) (lp (ea gP amV bb)) (bC bb)) (de (eC yA (dO av)))) y (b b6 rm Om Ma x m2 _ (i S gJ Aa zd X _ (a rfl (ce a5) (v lk.length) aT aT bL a9q)))];rw[iU];refine fI lk.length (bP/\∃d7:ao,aj D (aje vn)/\d7=dC i (iX (lk[j]?==aa j))) (d (bZ m) [] ak rfl);{rintro i L hi⟨s,d7,f,c3⟩;rw[aLN];rw[d2];have gi:=pQ;rw[dQ lk l gi];have V:oW<=i:=by{grind};rw[c rfl X _ _ (vn l) rfl (br a5) (aP Pc ?_)];rw[dO];rw[T l i];{rw[e_];rw[dH rfl];rw[K f bz (fI s m) (aJ (d7++[l]) (nP ak))];rw[ajw,DR,<-c3];simp[gi]};{have:ar (v l) xy=ah:=ec bL;rw[od,b2 s d7 f];rw[ajw,DR,<-c3];simp[gi,q]}};rintro a8⟨a4,d7,f,c3⟩;rw[<-c3]at a;rw[aW D (ce f) ?_,mw (ks (aje vn)-1) (v Np)];show Q (.int (ks (aje vn)-1)) _;rw[J b9 (k a8 a4)]
universe z
structure zf(r:Gla.Plan)(H:Hp)(l:Addr)(Y:bg)(c:AY):Prop where
 lst:am l Ay
 nd:aDR
 len:eN=gg
 at_:HD (I g (A c g) (fg a (rj bp)) (a≠l))
theorem zf.mono{r:Gla.Plan}{H L:Hp}{l:Addr}{Y:bg}{c:AY}(h:aJi)(s:bP):zf r L l Y c:=KU (q.mono dk s)
theorem zf.get{r:Gla.Plan}{H:Hp}{l:Addr}{Y:bg}{c:AY}(h:aJi){i:Nat}{ns:ao}(hi:A c ns):I a ED (fg a (wK bp)) (a≠l):=by rw[z a5 (i<eN) ajt (bx hi)];obtain⟨I,e,q,n⟩:=a'2;rw[a6 hi,dU];exact bda
theorem zf.put{r:Gla.Plan}{H:Hp}{l:Addr}{Y:bg}{c:AY}(h:aJi){i:Nat}{a:Addr}(b3:ED){vs:af}{ns:ao}(d3:dD (dG H) vs (wK bp)):zf r (ap a vs) l Y (c.set i ns):=by obtain⟨d,f5,N,c6⟩:=aGF;have h8:uX (H a):=by{rw[f7 b1 N];rw[q];exact CW};rw[bgZ,Z3,Ig (v vs ak (hf (yX h8) d3))];{obtain⟨I,b4,d2,n1⟩:=mY j b U;exact d I bz (d2.put dk h8 bfj) n1}
theorem sM.put{C P w r H x b2 B X c7 s t}(h:anJ){l:Addr}{o:HO}(m:uX (H l))(c6:l≠x)(n1:l≠b2)(n2:l≠B)(u:l≠X)(y:l≠c7):iO JT s:=by rw[cw d2 mY,bbR,y9 q3,ae c3 H JT (yX m)];exact o (sF (Y a50 d2)) (h.p.put gA m n1.symm) (Y aFc h.g) (q1 (Y u.symm q2)) (D.go c3 (eN (Y a5Z e))) (q3 e a0 lt) (c3 _ _ b9)
theorem aZG(r:Gla.Plan)(z:Pt)(row:GM.Row):UO (B (tx row) (jK r)) (II 0 row) z (t FO)=GM.UP r z row:=by have e:row=FO++Kn:=by{delta Xv a51;rw[zG]};have g:ap (II 0 row) (t FO) (Ea 0 FO):=by{have:=GM.agj 0 FO Kn;rw[<-e]at this;exact this};have l:(B (tx row) (jK r))[t FO]?=(Kn).head?.map (ab (jK r x.1)):=by{have h:row[t FO]?=nd Kn:=by{have:=pj (l₁:=FO) (l₂:=Kn) aY;rw[<-e,zE,<-aEW]at this;exact this};delta tx;rw[cz,cz,h];rw[ls (nd Kn)]};delta UO GM.UP;rw[l,g];cases nd Kn with|none=>{rfl}|some x=>rfl
noncomputable def Mc(r:Gla.Plan):aO Pt Nat:=B ((eK fM).zip dR) (an (e.2.at_,e.1))
theorem aze{r:Gla.Plan}{e:aly}:e∈Mc r↔z m (K dR e.2 m) (eM=e.1):=by delta Mc;rw[fK];constructor;{rintro⟨⟨i,m⟩,h,rfl⟩;rw[n4 h];rw[aiT]at b8;have:j=i:=by{obtain⟨_,c⟩:=Xi b8.1;rwa [WU]at c};rw[gq];exact bp m b8.2};{rintro⟨m,h,b4⟩;rw[aa (e.2,m) (bM (i:=e.2) ?_) (sQ b4 rfl),J aiT (ix (wM (bx h)))]}
theorem azf(r:Gla.Plan):t (Mc r)=fM:=i4 Mc
theorem aZH{a b:aly}(h:mO (CG b) (CG a)=ah):b.1.below a.1=ah:=f4 (b.1.below a.1) (GM.iI.mp q) CG
structure PoI(C:Addr)(P:Program)(w:World)(r:Gla.Plan)(d0:Hp)(x X c7 I:Addr)(W:aO Pt Nat)(t k:Nat)(H:Hp):Prop where
 sb:SB aaV d0 H
 sw:∃b2 B,a'J/\I≠b2/\I≠B
 kl:k<=fj
 gl:∃gl:I9,am I (aFk nv)/\a52=fM/\bk i m (anR->A gl (bo aF' aoO xu))
 lo:Gf (E i (i<t) (qH e.1))
theorem PoI.mono{C P w r d0 x X c7 I W t k H L}(h:b0 C r t H)(s:bP):b0 C r t L:=by obtain⟨b2,B,d5,a,b⟩:=h.sw;rw[cF gl e h.gl];exact a (h.sb.trans (cG s)) (a b2 B (d5.mono s) a b) h.kl (v gl (bv e) J) h.lo
theorem aZI{ls:nO}{e:fB}{n:Nat}(h:e.1<n):bp (d9 (e3 (cF (akf Qz)))) e.1 (cF (akf aKw)++[e.2])=d9 (e3 (cF (eh amQ Qz))):=qI fg e.1
theorem aZJ{ls:nO}{e:fB}{n:Nat}(h:e.2<n):bp (d9 (e3 (t (akf OO)))) e.2 (t (akf a7h)+1)=d9 (e3 (gz amQ OO)):=qI cj e.2
inductive azh(C b c:Addr)(P:Program)(w:World)(vs:af)(H:Hp)(Q:VK)(E:XK):Prop|mk:dc (zZ D) Q4 (j QT (rg<=2048) (V p lL (gQ p)) (V m gW (gQ eM)) (∀L y x e7 d i c7 I,c bP (Y i) (Y y) (Mb b c P w D L y x e7 d i c7 I) (Q Aw L)) (azh C b c P w vs H Q E))
section z
theorem azi:T.av5.Ok P w aj 5 (azh bI dq lK P w):=by refine T.av5.go aTP aK;generalize aF=e3,az=A,aE=outer,aD=s,aB=H,aA=vs,aG=Q,aH=E;rw[aN,M iA,aX,L a D dp dl o4];rintro rfl h Z k0 j7 x3 n9 A6 k;rw[Bx,fF,Q3,aaX,aKZ,ca (L ja (arl T.TY.h (bN aZm aY) (aha ax) rfl T.aVK T.TY.b .nil fu) (d ja 2 pP (ck "point" 3) (cj 3 ja) kO (bC Bb)) (ah (d ja 4 pP (ck "point" 3) (cj 3 ja) kO (mz bD)) (mC pP (V 5 ja 6 ja) (c8 (dG (i3 cJ) (f7 ew)) (qT bQ ew))) (ah (d ja 7 pP (ck "mark" 8) (cj 8 ja) kO (bC (gi T.afo))) (bU 9 ja (so (BK rfl ja (lv bO) (bk "number" 10 "mark" 8) (bC (V 10 ja 8 ja)) kO (bC (cp (dh ki) (dh ki) E7))))) (i 11 ja bD (mC (lv bO) (V 10 ja 3 ja) (c8 (F5 NX (gJ (ea lz OX (dO xF)) (mn (Cf aJ5) bb)) (i 12 ja (Cf aJ5) (d4 (R5 (ea a7X (pv 12) bb) cu (jo aq gJ T.T2.h (eD aZn) a6 T.T2.b .nil fu (d_ (pv 12)))) kh (dh aJ5)) (fG (eS 11 ja bD)))) (yy (jo aq gJ T.T4.h (eD aZt) a6 T.T4.b .nil fu (yZ bb (bs bQ E7) (i3 E7)))))) (de (aI T.T5.h aZD T.aVL T.T5.b (sH aq kh))))))),mw m2,aj r4 (eb (ad m2 Ei) (.ins dq m2 [])) Py,y x m2 ak (fun F r5 r6 X c7 x4 v9 A7 A8 p8 x5 FY w0 l7 o3 d2 q2 q3=>gM),aj n F (wr (x4 c o (r4 c o e) (aI (eo nx))))];have x6:Y X:=r4.free p8;have A9:Y c7:=r4.free x5;clear x4 r4 A7 A8 p8 x5;have B0:sM dq P w D F x r5 r6 X c7 (ng D 0) 0:=a v9 (pl FY) w0 l7 (a _ 0 o3 cS (wc (rs lt))) d2 q2;have B1:F x≠ae:=by{rw[cl q v9];rw[e];rw[Bt]};have B2:F X≠ae:=by{rw[gr q l7];rw[e];rw[Bt]};have B3:F c7≠ae:=by{obtain⟨q,e,_,_,_⟩:=o3;rw[e];rw[Bt]};have B4:F r5≠ae:=by{rw[FY];rw[Bt]};have B5:F r6≠ae:=by{rw[w0];rw[Bt]};rw[cg p9 (E b (F b=ae) (D (b≠x) (b≠X) (b≠c7) (b≠r5) (b≠r6))) (a (J (B1 (z▸U))) (J (B2 (z▸U))) (J (B3 (z▸U))) (J (B4 (z▸U))) (J (B5 (z▸U))))];clear v9 FY w0 l7 o3 d2 q2 q3;rw[a2 (n _ _ hd) (u gf fX dp (dD c5 (n _ _ a3)) (fun lt r7=>g7 (cY F L/\g2 lt (F b=ae) (b≠lt)) r7 (n _ _ a3)))];{rintro i y L b6⟨s,Y,e,len,nd,al⟩;rw[lf kB b6];have p4:=rh;rw[iu ⟨cS,fun b U=>?_⟩];have a5:b≠lt:=J ai;rw[La r7,l8 ak,bfi,biJ]};rw[KC p6,bg9];have r8:zf D p6 lt Y (s3 (([]:nO).filter Qz)):=by{rw[H2 (pl a8Z),lf eN U,a'U];rfl};rw[cg x7 (bG Y (F b=ae)) (aV (al b U))];have B6:F lt=ae:=r7;clear b4 al r7;have r9:=tu a4;rw[a2 (r9 _ _ hd) (u gf fX dp (dD c5 (r9 _ _ a3)) (fun le j3=>c oH dk sD (ai3 dk r9).ls (as xu) j3 bL)),e1 p y c2];intro p7 d7 b5 b9 x8;have c3:=vt x8;rw[eV c3];have f5:D.pts.map nq=lM (t (([]:nO).filter OO)):=by{rw[afH];rw[alN,aGD];simp};rw[f5]at c3;rw[j_];clear x8 f5;have B7:=r8.mono b5;have p3:F le=ae:=gY j3;rw[t B8 le lt r8.lst j3 j3,c6 x9 (b≠le) (r8.at_ i b hi) j3];clear r8 j3;have o5:=r9.trans b5;rw[J1,a2 (o5 _ _ hd) (u kF kz dl (dD ls (o5 _ _ a9)) (bW ls (fo (vu (Ev [kN,ac x,ac lt,ae,AE,i1,j5,ae,ae,ae,ae,ae,ae]) (cY F L) (zf D L lt Y (s3 (ju Qz))) (aj le (bh (lM alD))))) (d Kf i9 B7 b9) (n _ _ a9)))];{rintro i y M L b6⟨⟨i1,j5,rfl⟩,s,TP,p5⟩;rw[B7 (oI f6 b6)];have C:=gb e uv;have r:=tu s;rw[api,bfI,am g7 (s3 (ju Qz)) e.1 (cF (ju aKw)) m9];obtain⟨c,b0,⟨vs,d3,pv⟩,nc⟩:=TP.get g7;have u7:=x7 c (bM b0);obtain⟨l4,b3,d1⟩:=gP e9 C.2;rw[<-wZ C.2]at d1;have i5:iS<=lM:=by{rw[pv.length,bA,bA];exact cn AW (t eS (oV i lM))};rw[b b _ rfl (cx (r _ _ U)) rfl lt _ _ (a (gV c) rfl rfl (au TP.lst) (no b0) (dq d3) a _ (nW (r _ _ hd) (f dp _ _ l4 rfl (au (r _ _ a3)) (dZ b3) (m c _ _ (a2 rfl d3 (br i5 j7 fy))))))];have o6:=TP.put (i:=e.1) b0 (vs:=aIT) (ns:=cF (ju aKw)++[e.2]) (t fg (eL pv (bK r d1)));rw[aZI m9]at o6;rw[z s6 (O L c aIT le (bh (lM alD))) (bW (bt (x9 c (bM b0)))) p5,P c1 F (aV L c vs l4) (fI s u7),e L c aIT b7 o6 s6 c1,am u9 (lM alD) e.2 aGl C.2,c le _ e.2 (vn aGl) rfl (au s6) (p5 u9) (c2 le e.2 s6 (by simp;exact C.2))];have a7:baN=bh (lM (gz (pD i++[e]) OO)):=by{rw[<-aZJ C.2,ajx];rfl};rw[t0 (U b7 le baN)];rw[a7];rw[w (bm _) (fI c1 p3) ?_ (t g9 ak)];rw[g9];rw[gZ (b7 le) s6];exact d (Y B8.symm o6.lst) o6.nd o6.len (fun j b2 j6=>let⟨g,d2,q2,q3⟩:=o6.at_ j b2 j6;d g d2 (q2.put dk h8 (x9 b2 (bM j6))) q3)};rintro M v8⟨⟨i1,j5,rfl⟩,c8,q0,s7⟩;rw[N1,H9]at q0 s7;have k1:=tu c8;rw[a2 (k1 _ _ hd) (u jI ju o4 (dD d8 (k1 _ _ e2)) (fun I n0=>c oH jt sD (aDA jt k1).ls (as xu) n0 (gb x3))),e1 p y c2];intro m5 d7 d9 g5 y0;have c3:=vt y0;rw[eV c3,j_];clear y0;have g5:b7 (m5 I) (B (akh (as (xu:jb))) nv):=by{rw[g5,jz,jz];rfl};have y1:=q0.mono d9;have y2:=fH s7;have y3:F I=ae:=WO n0;rw[t B9 I lt q0.lst n0 n0,t C0 I le s7 n0 n0,c6 C1 (b≠I) (q0.at_ i b hi) n0];have l1:=aFm d9;have y4:=En;clear q0 s7 c8 d9 n0;rw[a2 (l1 _ _ hd) (a jI ju o4 d8 (ah (au (l1 _ _ e2)) (fun c0 p8=>aSW (K:=K) (R:=ze CG) jt (ay6 CG) (aDA jt l1).ls (an (aa (e.2.at_,e.1))) p8 bL ?_ ?_)))];{rintro i m d6 y L h4 l8 c4 s k4⟨b,rfl,U⟩b6 j2;refine f d6 _ (cx k4) (ah rfl (Tz (m b _ pO dg (m b _ pO dr (sa (sW (ab (eM,i) rfl (bZ h7) lU)))))))};intro m6 ws f9 i2 n3;rw[eV n3];have n3:dD (ze CG m6) ws (Mc D):=n3;delta sh;refine ago (K:=K) (O:=CG) (v ws (au i2) n3) (fun e _=>akO) (t azf (cf x3 fy)) (fun N o W w1 dP s8 r3=>?_);rw[l h1 m6 m6 N o s8,m m6 N o d0 h1 r3];have o7:=mZ h1;have s9:=aj2 o7;have C2:=y4.trans o7;have TP:=y1.mono o7;have p5:=o7 _ _ y2;have m8:=o7 _ _ g5;rw[M C3 N I (mJ (hF g5) s8)];have C4:F N=ae:=e1 (y4.trans f9) s8;clear y1 y2 g5 f9 h1 o7 i2 n3 s8 p8;have a8:=p9 I y3;have w2:=p9 N C4;have w3:=a8.1;have t2:=a8.2.1;have w4:=aS a8;have q1:fj=rg:=by{rw[w1.length_eq,azf]};rw[hN (B0.mono C2)];have h7:oO aaV d0:=fun b m O e=>by{rw[Br,k3 m,A8 bJ,A8 oq,A8 Y_];{lia}};rw[cG hw y5 r3];have C5:=y5.length;have q4:∀b,c (b≠x) (b≠X) (b≠c7) (b≠I) (b∉aaV):=fun b z1 h6 k7 l9 m=>ai;have C6:∀{b o},Pe->b∉aaV:=fun{b o}e=>q4 b (eo nx) (eo x6) (eo A9) (eo (n.free y3));have t4:∀{L:Hp},SB aaV d0 L->∀{b o},Pe->alw:=fun{L}sb{b o}e=>sb _ _ (s9 _ _ e) (C6 e);rw[a2 (s9 _ _ hd) (a gf fX dp c5 (ah (au (s9 _ _ a3)) (bv de (fun t M L=>GK (fun(k:Nat)(j8 j9 l6:bY V)=>M=n4 j8 j9/\ut L)) (f 0 ae ae ae (cG (tw d0)) (a r5 r6 d5 (aS a8.2) (a2 a8)) cS ⟨as m8 (x (bA _)) (fun i m hi=>by rw[cz,hi];simp),fun j e _ _ i hi=>rs hi⟩))))];{rintro t M L c6⟨G,_,_,_,_,PI⟩;exact as (c5[t]'(ai)) (au aIQ) pN};{rintro M L⟨G,_,_,_,_,PI⟩;exact ce aIQ (bV len.g i0.l)};{rintro t M L k3 b7 l5⟨p2,j8,j9,l6,rfl,PI⟩⟨d6,y,rfl,k4,rfl,b6⟩;rw[qX (au aIQ),ig d1 (oI e9 b6)];have e1:xY=p:=by{rw[wZ l5];rw[dd l5 c2];exact cZ c2};subst e1;rw[T b5 L (kz aaL) k4,d5 w5 aaL aaL];have q5:=PI.mono b5;have w6:dG (kz aaL) y xY:=hK (hL s9 (q5.sb.ts h7)) d1;generalize kz aaL=b7 at w5 q5 w6;rw[aW d6 (cx w5) (a2 rfl (qO (HS (m=fj-k/\M=bb7/\k<=fj/\ut L/\dG L y xY))) (m _ p2 l6 (d rfl q5.kl q5 w6)))];clear q5 w6 w5 b5 PI k4 b6;rintro m M d4⟨k,l6,rfl,rfl,kl,t5,w7⟩;have w8:=t5.sb _ _ hw (au N w2 w2 w2 C3);rw[aW N (ce w8) ?_];rw[C5];have fin:∀e4,i (ut e4) (dG e4 y xY) (Gf ((xY).below e.1=ab)) (I c (K Y t c) (fW K e4 lt Ay) (fW K e4 le (bh (lM (t (akj OO))))/\dB dG e4 c (B (akc D t) xc)/\∃e7 d,sM dq P w D e4 x e7 d X c7 (ng D t) t/\∀g6 n4 n5,c (SB aaJ e4 g6) (e4 n4=ae) (e4 n5=ae) (sM dq P w D g6 x n4 n5 X c7 (ng D (t+1)) (t+1)) (b0 dq D (t+1) g6))):=by{intro e4 f t6 D9;rw[am g7 (s3 (akj Qz)) t (akc D t) l5,eJ q6 nc (TP.get g7)];have k5:=bM b0;have k9:=p9 c (x7 c k5);have w9:=p9 lt B6;have x1:=p9 le p3;rw[lN o1 f.sw,b c b0 (au (f.sb _ _ TP.lst (au lt w9 w9 w9 B9.symm))) (au (f.sb _ _ p5 (au le x1 x1 x1 C0.symm))) (q6.sb dk f.sb h7 (au c k9 k9 k9 (C1 c k5))) e7 d o1 (fun g6 n4 n5 B g4 h3 m7=>?_)];{rw[cF gl k2 f.gl,j (f.sb.trans (agn B aT)) (a n4 n5 m7 pH pH) f.kl (v gl (B _ _ k2 (bx w3 t2 w4)) J) (fun j e b8 a0 i hi=>?_),ay,ay];{rw[al (Nat.lt_succ_iff_lt_or_eq.mp hi),l (f.lo j e b8 a0 i q),dX]}}};refine fH (fun e5=>?_) (fun e5=>?_);{rw[eC t7 (k<fj) e5];have o8:K W k W[k]:=da t7;rw[Z v t8 wb y6 (mA y5 o8)];have y7:=aze.mp (w1.mem_iff.mp (te t7));generalize C7:W[k]=C8 at o8 y6 y7;obtain⟨z,num⟩:=C8;obtain⟨mk,t9,c9⟩:=y7;have c9:mk.at_=z:=c9;rw[ad y8 (d4 wb) (.tup ber) ((t5.sb.ts h7) _ _ y6),mm w8 (f wb _ (cx y8) ⟨?_,fun e8 u0=>?_⟩),A9 3,ab u1 (cr ber 0 2) (hG z.y z.x)];rw[u1];rw[l d9 d4 d4 e8 FL u0,e y9 d4 e8 FL e8 FL,m d4 e8 FL q7 d9 y9];have z0:=t5.mono d9;have u2:=bK d9 w7;obtain⟨m1,C9,D0⟩:=id u2;rw[b e8 m1 _ _ rfl C9 (oK y9) (oK D0) ?_];rw[afF];rw[aJ9];{rw[b8 o9 ((xY).below z) ah e6,ak (op (fj-k) (HS (f7=fj-k/\g0=bb7/\k<=fj/\ut j1/\dG j1 y xY))) aaT];have z2:=fH w8;have z3:=fH y8;rw[mm z2 (f wb _ (cx z3) ⟨?_,fun m4 D1=>?_⟩),A9 3];rw[u1];rw[l f9 q7 q7 m4 FL D1,e z4 q7 m4 FL m4 FL,m q7 m4 FL e4 f9 z4,fI (z0.mono f9)];have t6:=bK f9 u2;have z5:dG e4 (.ref m4) z:=aP m4 z4;have z6:=hF z2;have z7:=hF z3;rw[K _ z5.dp t6.dp (aJ tY tY)];rw[agd];rw[N u3 z xY];{rw[dH u3];have z8:X2=ae:=(t u3 (GM.aZx (Eb l5)));rw[P i4 e4 e4 ei,lN l2 (O6).sw,BT (O6).gl,bfp,bhq];have a7:a9g=B aGx nv:=by{rw[ajx,z8];rfl};rw[t0 (U e4 I a9g)];rw[a7];rw[za l2.at_,gZ (e4 I) k2,Ll (bn (aR (By e5)) (aS fj k))];{rfl};{rw[bfE];rw[g9,fg];rw[T i num,ay,biz]}};{rw[ec u3];have A0:VW xY=ab:=by{rw[al (aFl u3),iB,ay]};have TT:GM.Time D t z:=v (ey l5) (j6 (f.lo k (z,num) aY o8 i hi)) (fun i hi k8=>by rw[al (qU hi),l (GM.vk A0 (wC q k8)),k1 q A0]);obtain⟨q8,q9,m3,v5,v7⟩:=f.sw;obtain⟨r0,r1⟩:=aki;rw[o8 (t (tx amf)) (ng D t).row.length,b x r0 r1 xS x q8 (a q9 X c7 (.ref m4) (B (tx amf) (jK D)) (II 0 amf) z (t (Xv D z amf)) (a rfl aki m3.p m3.g (cz Xo bA i7) z5 (bl c9 (A6 mk (bM t9))) a_H ?_ (fun i q e0=>?_) a_I))];{rw[h4 e0];have:=gb e (p3 ((GM.qH Z t (ey l5)).mem e));exact⟨n9 _ (Eb Q8),n9 _ (Eb fm)⟩};{rw[bA,i7];delta Xv;exact aIy};{rw[gA e0,a3 e a0 e0];exact GM.aZv Z TT i e a0};rw[aZG,<-GM.ay_ Z TT]at hu;have hu:=aZA hu;subst hu;rw[ab z8 X2 X2,P i4 e4 e4 ei,lN l2 (O6).sw,BT (O6).gl,bfp,bhq,aS a7 a9h (B aGx nv),t0 (U e4 I a9h)];rw[a7];rw[za l2.at_,gZ (e4 I) k2,Ll bL];{rfl};{rw[bfE];rw[g9,fg];rw[T i num];{rw[e_];rw[MA u4,aJ aHf];rw[t9]at hi;have:mk=m:=aI hi;rw[<-this,c9]};rw[biz]}}};{rw[c_ o9 ((xY).below z=ab) e6];obtain⟨c,b0,d2,q2,q6,q8,q9,m3,i6⟩:=fin q7 z0 u2 (wB (by rw[al (qU b8)];{have j4:=bx a0;have:=Nh dP k j t7 j4 q;rw[dd j4 a0];have a0:=cZ a0;rw[bY a0 C7];have h2:=aZH this;simp only at h2;rw[N q2 e.1 z,Z q2 o9];{rcases aFl q2 with J|J;{rw[J]at h2;cases h2};rw[l (GM.vk o9 J)]}};{rw[e_];rw[o8]at a0;cases a0;exact o9}));obtain⟨r0,r1⟩:=id aki;rw[Ld u2]}};{rw[eC t7 (fj<=k) e5];obtain⟨c,b0,d2,q2,q6,q8,q9,m3,i6⟩:=fin d4 t5 w7 (wB (cy (bx a0) (fZ (yv z (Bz e5) b8))));obtain⟨r0,r1⟩:=id aki;rw[Ld w7]}};rintro M h9⟨A1,j8,j9,l6,rfl,PI⟩;intro y dy n6 D2 D3;rw[lN A2 PI.sw,BT PI.gl];have D4:gl=akh (bo (akg D eM)):=by{apply NH;intro i;rw[cz];cases hi:gW[i]? with|none=>{have:rg<=i:=by{rw[al (iq i rg)];{rw[dd q hi];cases hi};rw[iB]};rw[zI ag];rfl}|some m=>rw[o2 i m hi];by_cases q:i∈cF (Xw A1);{rw[aJ q];rfl};{rw[aO q];have D5:(eM,i)∈W:=w1.mem_iff.mpr (aze.mpr (bp m hi));rw[n4 D5];show _=aa (akg D eM);rw[GM.aZy Z (z:=eM) (fun n8 R=>PI.lo j _ (by rcases iq j A1 with J|J;rw[l (cy (aB1 (bp (eM,i) (bM (i:=j) (t (sX J) b8)))) q),l J]) b8 n8 R)]}};subst D4;rw[P u5 h9 bg1 (afE n6 D2 D3),aj A3 h9 (db (t4 a53 e)),e i8 (upd h9 dy (.own y)) y aGE y aGE];have r2:Y y:=A3.free n6;rw[t D6 y I k2 n6 n6];generalize bg1=i3 at u5 i8;rw[e y dy x I rfl i8 rfl ?_];have n7:=A2.mono u5;have A4:=n7.at_;obtain⟨A5,A4⟩:=A4;obtain⟨E1,u6,_⟩:=n7.k;obtain⟨f8,v3,⟨E2,p1,_,_,_⟩,_⟩:=n7.d;obtain⟨E3,D7,_⟩:=n7.p;rw[M D8 y x (by rw[cl q A2.at_,b4 e n6];cases n6)];refine k _ y x e7 d X c7 I (fI (A3.trans u5) r2) x6 r2 (I dy ak (n7.put (jI i8) D8 (bI i8 D7) (bI i8 n7.g) (bI i8 u6) (qy i8 p1 Z4)) (Y D6.symm (u5 _ _ k2)) t2)
universe z
noncomputable def vK(D:Gla.Plan)(W:He->jb)(m:Gla.Mark):cb:=alO&&dk (W m)
inductive azj(C:Addr)(vs:af)(H:Hp)(Q:VK)(E:XK):Prop|mk:∀(a p:Addr)(D:Gla.Plan)(b2 X G:Addr)(W:He->jb),e [bc,fP] Al (am p (B (akh W) nv)) (t5 (WS ak8 tA gW)) (azj C vs H Q E)
inductive azk(vs:af)(H:Hp)(Q:VK)(E:XK):Prop|mk:∀(p:Addr)(c0:ao),e [fP] (am p (akk vn)) (kd lP) (t5 (Xx 0 [] (akk aa))) (azk vs H Q E)
theorem azl{I:Type}:Go ((zE (x∉c/\l f y (f<j) (K l f y) QI))->Xx i c l=ae)|[],_,_,_=>rfl|x::J,i,c,h=>by have b1:=h 0 x rfl;unfold GM.yR;rw[aO (J (b1.1 (Ny z)))];refine azl (I:=I) J (i+1) (x::c) aI5;have M:=h (j+1) y bB;rw[v Yl (fun f d7 lt O=>M.2 (f+1) d7 ag bB),cY (ic m),l (M.2 0 x aT rfl wo),ay]
theorem azm:∀(l:I9)(i:Nat)(c:I9)(k:Nat)(x:jb),i (K l k x) (Q y (j<k) l y (y∉c/\l f z (f<j) (K l f z) (z≠y))) (x∈c\/z j (j<k) Ew) (Xx i c l=aa (i+k))|[],_,_,_,_,h,_,_=>bB|y::J,i,c,0,x,h,_,S=>by{have:y=x:=aI h;rw[gq];delta Xx;rcases S with m|⟨j,lt,_⟩;rw[a_,ay]}|y::J,i,c,k+1,x,h,g,S=>by have e5:=g 0 y aT rfl;unfold GM.yR;rw[fg (e5.1 (Ny z)),(azm J (i+1) (y::c) k x kI (fun j z lt c9=>by have a:=g (j+1) z ag kI;rw[v Yl (fun f d3 lt' a0=>a.2 (f+1) d3 ag kI),al (ic m),l (a.2 0 y aT rfl zD),l (a.1 q)]) (by rcases S with m|⟨j,lt,b8⟩;rw[l (.inl (ck m))];{cases j with|zero=>{simp_all}|succ j=>rw[pc (v j ai kI)]}))]at⊢;rw[dY];simp+arith [*]
section z
theorem aZK:T.awo.Ok P w aj 1 azk:=by refine T.awo.go TJ aK;generalize aF=e3,az=A,aE=outer,aD=s,aB=H,aA=vs,aG=Q,aH=E;rw[aN,M fQ,aX,bW p c0,aV c7 c9 k,fa,fc (L TJ.nd aQl (mC (lv bR) (V 2 TJ.nd 3 TJ.nd) (c8 (dm (BB (aQg xB bb aq)) av) (d3 aq bb mq))) (de cu)) J4,x3 xW,e b4 H d xW d xW,iG (ad d xW),bA p (di c7) (bv lP (fo (vu (vw (fun o j8=>M=[ac p,rE,o,j8])) bP (oK qd (∀n:Nat,dk (fb F (hy cK))=cv (n∈Xy i))) (aP j n (j<i->aa c0 n->n∉Xy j)))) (d Kf a4 (d [] b4 aY (ed (ar fb))) (fun j n b8=>AA)))];{rw[ps s];exact as (vn c0[i]) (br c7) ai};rw[i3 s (aw (br c7) aT)];{rintro i M L k3 b7 hi⟨⟨o,j8,rfl⟩,s,⟨F,c1,lk,mk⟩,g⟩⟨d6,y,rfl,k4,rfl,b6⟩;rw[qX (br c7)];have d1:=pQ;rw[dQ c0 n d1];rw[cz,d1]at b6;cases b6;rw[aL (Xy (i+1)) (Xy i) n d1,hz (j6 (eA jj) k4)];have a:upd L d6 (eA jj) d=aa qd:=cp k4 c1;rw[d5 b9 (eA jj) (eA jj)];generalize kz (eA jj)=b7 at b5 a b9;rw[d d6 _ rfl (cx b9) rfl d _ (aw (jr.k (k:=hy cK) a))];have W:=mk n;by_cases m:n∈Xy i;{rw[dH m]at W;rw[ch q e0 W];rw[e0];rw[bD (aC b5 ?_),n4 m,dE j4 (j<i)];rw[sX j4]at b8;rw[azm (akk aa) 0 [] i (aa n) ai (fun j y b8 b6=>by rw[v jN (fun f z lt c9 e=>?_)];rw[cz]at b6 c9;rw[a3 d7 O b6,a3 d3 a0 c9,c7 (cZ e),b_];exact g j d3 b8 O (bM (i:=f) ai)) (.inr (v j j4 ai)),Nat.zero_add]at⊢;rfl};{rw[ec m]at W;rw[fi e0 (fb F (hy cK)) W];rw[e0];rw[aW d (qE.k (k:=hy cK) a (db lk hi c9)) (d (bm _) (go b5) (as ak ?_ (fun C=>?_)) (fun j C b8 j2=>?_)),cc (UG F (hy cK) YS) (cf this lk)];{rw[Sy,g9];have:=mk C;rw[T C n,ay,dX]};{rw[T j i];{lia};rw[l (g j C Yr j2)]}}};{rintro M L⟨⟨o,j8,rfl⟩,s,_,g⟩;rw[Jm];rw[azl (I:=Nat) (akk aa) 0 [] a'q]at⊢;{rfl};{rw[v jN (fun f y lt b6 e=>?_)];rw[cz]at S b6;rw[a3 b1 G S,a3 d7 O b6,c7 (cZ e),b_];exact g j d7 (bx G) G (bM (i:=f) ai)}}
theorem aZL:T.awn.Ok P w aj 1 (azj bI):=by refine T.awn.go aT4 aK;generalize aF=e3,az=A,aE=outer,aD=s,aB=H,aA=vs,aG=Q,aH=E;rw[aN,M oi,aX];generalize kU=a,kW=p,kY=D,kZ=b2,k_=X,lg=G,ll=W;rw[aV h c7 k,fF,aKZ,eB (X XA cu (mC (lv bO) (V 3 XA 4 XA) (i 5 XA (Cf bQ) (go (gJ bgP bgP) bb) (c8 (fe (ea yC amV cu) (gJ (ea KL av cu) (mn cJ av)) bb) (bU 2 XA cJ)))) (de cu)) (a hd dS jI ju G d8 rfl (au e2) (bv rg (bi (GK (fun l j8 b1 i1=>M=[kN,ac p,aa l,j8,b1,i1]/\Ct aMy L l gW i)) bP (aj (j<i) gW ak8 tA gW)) (v (a .bC ae ae ae (bd (.inl xJ))) ei (fun j y b8=>AA)))),cl d8 d8 Ih (br e2),wF (ap d8 (br e2) Ih aY)];{refine iA;rw[L i M L k3 b7];rintro hi⟨⟨l,j8,b1,i1,rfl,a5⟩,s,g⟩⟨d6,y,rfl,k4,rfl,b6⟩;rw[aW m c4 j0 (b6 d8 (br e2))];have e:lB aMy:=fun _ _ _ _ t h=>hK t h;rw[hz (j6 hO k4),mC e k4,d5 b9 hO hO,ov (lR (dj b5) J),bo (kz (eA cV)) B b9 U,d d6 _ rfl (cx b9) rfl b _ (v pO ?_ (fun e8 u0=>?_)),A9 4,ab u1 (cr [cp il,cp ip,cp jA,cp kE] 0 2) (hG il ip)];rw[u1];have c8:=fi a_p;have f:=B.mono e a_p;rw[e e7 b7 e8 aGA e8 (bx il ip)];generalize upd b7 e8 aGA=d4 at c8 f e7;rw[fn apV (Q pK d4) (by rw[oO c8];rw[afG c4 U g];rfl),v apV gW ak8 tA gW bz];have d:vK D W m=ah->apV=ab:=ah (ga oL q);have c3:=dn hd;rw[da e8 e7 (dl a7E)];{rw[a2 c3 (v Ia y_ a_W)];{rw[bn e8 e7 (dl a_U)];{rw[a2 c3 (aJ H_ GX)];by_cases i0:il<D.h;{have st:alO=ab:=by{delta Xz;simp[pm e5,pm e6,pm c1,i0]};refine adO (x (ml i0)) (f p _ _ (nv (W m)) rfl (au (dn c7)) EK gM);cases n:W m with|none=>{rw[bD aIa];delta vK;rw[n];simp}|some Z=>rw[(ec Z4)];have ok:vK D W m=ab:=by{delta vK;rw[st,n];rfl};have yL:Ct aMy d4 (.ref e8) gW (i+1):= .inr (f i m c4 (aP e8 e7));rw[bu,Cz f];{rw[bD (v a8K c8 (MN ?_))];delta oL;rw[ok];subst o;simp};{rw[n e8 c (oK e7) (oK b0) ?_];rw[afF];have f7:apV=! q.at_.below eM:=by{delta oL;subst c0;simp only[ok,a54,e0];simp[tA]};refine fH (fun r=>?_) (fun r=>?_);rw[l (fin aIS),cx a8K c8 (MN bz)]}};{have st:alO=ah:=by{delta Xz;simp[i0]};refine aV2 ag (fin (d ?_));delta vK;rw[st];rfl}};rw[o4 aIa c1]};{rw[b4 o9 (¬ip<D.w) (sS (Bz e6)),bD (fin (d ?_))];delta vK Xz;simp[o9]}};rw[o4 (aIa) e5]};{refine fQ;rw[X4];rintro⟨⟨l,j8,b1,i1,rfl,a5⟩,s,g⟩;rw[Jm];rw[axt g];rfl}
universe z
inductive azn(C:Addr)(vs:af)(H:Hp)(Q:VK)(E:XK):Prop|mk:dc (GM.Net D) (DN D) (zN D=ae->gr (GM.vo D)->azn C vs H Q E)
theorem aZM{D:Gla.Plan}(Z:zZ D)(c0:zN D=ae):cA lL (gQ p):=gW (by rw[h7 (UJ c0)];exact⟨hA (Z.wide p c2) e8.1.1,hA (Z.BV p c2) YL⟩)
theorem aZN{D:Gla.Plan}(F:DN D):∀m∈gW,gQ eM:=fun m c4=>⟨t3 (wN m c4).1.1,t3 (wN m c4).1.2⟩
theorem azo{I:Type}{f:I->jb}:k4 (bk l (dk (f x)=ab)) (∃ns:ao,xU=wK aa)|[],_=>dv []|a::J,h=>by rw[cl ns (azo (l:=J) anT),ch n d1 (h a bJ)];exact rI (n::ns)
theorem aZO(D:Gla.Plan)(B:Et):GM.Tr D B=GM.ks (Ol D) (GM.ks (Z anP ae aoN) (GM.vo D)):=by cases B with|none=>{rfl}|some B=>delta GM.Tr CC;by_cases q:aK6;rw[a_];{simp only[q,iV,aCU,Dg];rfl}
theorem aZP{D:Gla.Plan}{B:Et}(U:E b (B=aa b) (GM.Clean b))(W:Ol D=ae)(d1:(Z anP ae aoN)=ae):GM.Net D:=by refine(GM.aSs U W ?_).1;cases B with|none=>{exact d1}|some B=>delta CC at d1;by_cases q:aK6;rw[cL];{simp only[q,iV,aCU,Dg]at d1⊢;exact d1}
section z
theorem aZQ:T.awm.Ok P w aj 6 (azn bI):=by refine T.awm.go aT3 aK;generalize aF=e3,az=A,aE=outer,aD=s,aB=H,aA=vs,aG=Q,aH=E;rw[aN,M iA,aX,L a D b2 dl G,cn N F c0,fa];have e8:=UJ c0;have Z:=iX;rw[A (L akl (dK azi) (d akl 2 (oA nZ) (ck "number" 3) (cj 3 akl) kO (bC (jo aq rm T.GU.h (sE azd) a6 T.GU.b .nil fu (d_ bb)))) (oN (b5 aZL av) (oN (a7 aZK av) (bo (D lz (dO av) (Sk aq rm T.T7.h (sE aZF) a6 T.T7.b .nil fu) (dP (dK aVS))) cu)))) JI (aS e8) aHe (aZM Z c0) (aZN F)];have k3:=ux;rw[cw hd k3.at_,di e2 j0 k3.m];have g8:=Ih;rw[a2 hd (a jI ju G _ rfl (ce e2) (v NC) rfl (v aT bL (fun p g=>?_)))];rw[iU];have j:X≠p:=by{rw[f7 lk Y.sw.k];exact fq q g};refine fI NC (o3 a8 (aj p (B (B (D.marks.take i) (bo Jn)) nv))) (v (l5 g) (Y.mono (bZ g)) ak);{rintro i L hi⟨sb,d5,e⟩;rw[aLN,j9 3 (cp (0+xy))];rw[d2];have c4:A gW (dB gW ai):=pN;generalize dB gW (bV hi g8.l)=m at c4;rw[a9N,iu (a y dy _ rfl b6 aao D y (gr m d5 c4)),g2 (b5 _ _ e (aI aj6)),K b9 (by simp;exact hq (oV i rg) aHe fy) ?_ Ph];{intro c o g7 nc;rw[cj ch c p,J (bW ch) ((aka b5) c o g7 nc)]};{rw[bbg,gZ (b7 p) b9];have B:=bI b9 a3;obtain⟨R,j6⟩:=O.sw.at_;obtain⟨h3,n2,⟨m8,d7,_,_,_⟩,_⟩:=O.sw.d;rw[M n1 p e7 (by rw[f7 vs Y.sw.p,fw g q,kK]),ar n2 p d Y.sw.g g,ar u p I Y.mg g];exact I b1 (Y B.symm a3) (O.sw.put h8 (bI b9 j6) n1 n2 aj6 (qy b9 d7 Z4)) (Y u.symm O.mg) O.ne};{rw[ak,DV,c4];simp}};rintro b7⟨sb,O,f⟩;rw[dc g8 f,aj b5 b7 (db (sb b o (a4 b o e) (aI (eo b0))))];have i4:=gh b5;rw[d0 GM.vo,d a p D b2 dl G (bo Jn) (v i4 f (fun v d4 c8 d3=>?_))];have n:=fi c8;rw[ab c1 (WS (vK D (bo Jn)) tA gW) ba1];rw[c1]at d3;rw[bu];cases g0:ba1 with|some i=>{rw[u6 g0,fc dl n ⟨(ai),h0 (tu cm)⟩]}|none=>rw[lw g0];have d3:=d3;rw[tN];have e9:=(GM.S9.mp g0).1;obtain⟨ns,a7⟩:=azo (f:=fun m:He=>Jn) (l:=gW) (fun m c4=>ai);rw[cd (dn f)];rw[a7,jz]at l;have d6:zr=rg:=by{rw[it a7];simpa using aCm};have r:=l;rw[y p ns r ⟨bn d6.l aHe,bbA⟩];have U:=tu d9;rw[<-a7]at d3;rw[bu,amb];cases M:Xx 0 [] (akh (bo Jn))with|some i=>{rw[u6 M,fc dl U ⟨(ai),h0 (ajD cm)⟩]}|none=>rw[lw M];have d3:=d3;rw[tN];have o1:=bN (O.mono c8) d9;obtain⟨dy,b6⟩:=o1.at_;have J:=fH r;rw[d p _ rfl (ce J) y dy _ (a b6 aao D y x e7 d X (f c7 I o1 (v N (aS e8) (fun g6 f9=>?_))))];have S:=ajD f9;rw[bA,d6];rw[ko];{have C:rg<a55:=by{rw[fy (By c)]};simp only[C,mM]at k;rw[c a D b2 dl G (gh S) (ai) (h0 (S.trans cm))]};{rw[b4 C (¬rg<a55) (sS (Bz c))];simp only[C,iV]at k;exact aC S rfl}
theorem azp:T.judge.Ok P w aj 7 (axI bI):=by refine T.judge.go TH aK;generalize aF=e3,az=A,aE=outer,aD=s,aB=H,aA=vs,aG=Q,aH=E;rw[aN,M oi,aX];generalize kU=a,kW=D,kY=b2,kZ=X,k_=G,lg=b4,ll=B;rw[cn hB F e6,ca (X TH.nd (dK aY9) (sg (gJ (ea yC av cu) (ac9 (u_ (b5 aY8 aq)))) (fG (bU 2 TH.nd (b5 aY_ aq))) BE) (bo (bm yC av cu (bU 2 TH.nd (dK aZQ))) av))];rw[<-(GM.aSr (r:=D) (k:=B) bdd),aZO]at k;rw[nw h a'P];cases d2:Ol D with|some e=>{rw[QP,he p,rK,bD (bd (iU a4))]}|none=>rw[QP,QH];subst p;rw[d a D b2 X G b4 B (aJ ux (hB.mono a4)),Ip d2];have o:=aZP (D:=D) (B:=B) bdd d2;have k:=k;cases l:anP with|true=>{rw[l,cO]at k o;rw[g rfl a D b2 X G ux (d (o rfl) F N bec)]}|false=>rw[l,OC]at k o;rw[d a D b2 X G b4 B (a ux (hB.mono a4) d2 e6 aH_),J1,bu];cases y:aoN with|some e=>{rw[y]at p k;rw[he p,rK];exact iU i9}|none=>rw[y]at p k o;rw[QH];subst p;rw[fd i9 (o rfl) (v F N (fun v d4 c8 p=>iU (IE c8)))]
universe z
theorem azq{D:Gla.Plan}(C:GM.Clean D){m:Gla.Mark}(c4:m∈gW):aC h Jn h:=by obtain⟨g,_,_,e,_⟩:=GM.Td C.net NL C.aeE (H3.1 m c4);exact aW e
inductive azr(C:Addr)(vs:af)(H:Hp)(Q:VK)(E:XK):Prop|mk:∀(a:Addr)(D:Gla.Plan)(b2 X G:Addr)(i j:Nat)(c6 e0:Gla.Mark),e [bc,pK,vn j] Al (xb D) (A gW c6) (aa gW e0->zG (B (akj (XB D (IK D aFo) (IK D aFn))) (jK D))->azr C vs H Q E)
section z
theorem aZR:T.av6.Ok P w aj 6 (azr bI):=by refine T.av6.go aTQ aK;generalize aF=e3,az=A,aE=outer,aD=s,aB=H,aA=vs,aG=Q,aH=E;rw[aN,M JD,aX];generalize E_=a,Fc=D,Fd=b2,Fe=dl,Ff=G,Fh=i,Fl=j,Fo=c6,FC=e0;rw[cn a9 hi b8,Bx];have C:=aFq;have Z:=DF;rw[h7 Oo];obtain⟨R,c9⟩:=azq C (bM hi);obtain⟨M,d9⟩:=azq C (bM b8);rw[A (i 3 XC (dK azi) (bU 4 XC (as (HL aq) (HL av))) (bo (bU 5 XC (as (dh bQ) (dh bQ))) (BK rfl XC (oy (dK LO)) (ck "line" 6) (cj 6 XC) (lp (KO (aYP (K:=K) rfl (aYJ a6)) (jo bb rm T.T6.h (sE aZE) a6 T.T6.b .nil fu (d_ ew)) (as bQ cJ) bH)) (bC ew)))) ag ag ag (gW ⟨hA (Z.wide p c2) YL,hA (Z.BV p c2) (JI).2⟩) aob];{have:=H3.1 m c4;unfold Gla.clear at this;rw[yx this];exact⟨eM this.2.1 YL,eM (aS fm) (JI).2⟩};obtain⟨f7,u⟩:=akb;rw[b y f7 u aao D y (gr c6 Y hi),bbg,b y b1 a3 aao D y (a x e7 d X c7 I j e0 (a rfl O b8 Z (fun d4 c8 g0=>?_)))];rw[c9,d9];rw[v (ag) (fun W n1=>?_),l i6 d4 d4 W (bx R M) n1,e g5 d4 W a7k W (bx R M)];have o1:C_ aKy:=g0.mono i6;have k9:SB [X] a8 aKy:=L (fi c8) (cG i6);generalize aKy=e4 at g5 o1 k9;rw[da W g5 (as W g5 dg ⟨(ag),fun d8 n2=>?_⟩),l e2 e4 e4 d8 (bx M R) n2,e i2 e4 d8 (bx M R) d8 (bx M R)];have U:=e2 _ _ g5;have m7:=o1.mono e2;have B:=k9.trans (cG e2);generalize upd e4 d8 (bx M R)=g6 at e2 i2 U m7 B;rw[aj d0 g6 (db (B b o (a4 b o e) fS)),c a D b2 dl G (gh d0) (f8 (bv (aC0 e a0) bel)) (iY iD (fun le h5 h1 j3 LE=>?_))];obtain⟨a7,e1,e5⟩:=LE;have N:=m7.mono h1;have f:=z_ h1;rw[a9 le e1 aJ0];have b3:=e5.length;rw[Xk]at b3;obtain⟨i0,g4,_⟩:=N.sw.k;have g8:X≠c0:=fq g4 c1;rw[ar h2 c0 d N.sw.g c1,ar h3 c0 I N.mg c1];refine arV (O:=a7) (fun n L=>o3 h5 (∃d7,yY (aj c0 d7) (oW<=n) (dD (eR L) d7 (B (eh (pD n) a7R) (jK D))))) (c (l5 c1) (ajy (ac [] c1)) [] ak aY .nil) (fun n L _ z=>au (z.1 _ _ e1 (aI (J (eA (g6 X≠ae) (by rw[f7 lk m7.sw.k];rw[q];rw[Bt]) (this (z▸j3))))))) ?_ ?_;{rintro n v L d3⟨sb,d5,d7,c3,V,r⟩;rw[jA e5 d3];delta aFp at a5;rw[gA a5,a3 e a0 a5];have d1:n<akm:=bx d3;rw[f3 (aj' (L8 N.sw.k))];have rv:eR L v (jK D e):=tv g J;rw[dd (pD (n+1)) (pD n++[e]) a0,a9N,b rfl y dy _ rfl b6 aao D (a y x e7 d X c7 I v (a e rfl d5 rv (uv) Z (fun i3 t d6 n7 h4 i1=>?_)))];have c5:=d6.ts (L8 Xu);rw[v (ag) (fun q d2=>?_),l b9 i3 i3 q aoZ d2,e j8 i3 q aoZ q aoZ,m i3 q aoZ i7 b9 j8,g q W d8 (dT (dq R M)) (dT (dq M R)) aL1 (cx j8) (a (fq g5 n2) (wu (cx (b9 _ _ h4))) (HK (iW U)) (HK (iW i2)) tY tY tY ?_)];have k2:(jy (dT (dq R M)) aL1||jy (dT (dq M R)) aL1)=bfh:=by{rw[GY,GY];delta XB;rw[iR];simp only[ahs,iW,Oj,Oi,CI,aiV];rw[ue]};rw[k2];have S:SB [X] h5 i7:=L (aka d6) (cG b9);have l2:=n7.mono b9;have F:=b9 _ _ (d6 _ _ c3 fS);rw[ae e6 L i7 (c5.trans (dj b9))];have e9:=cd e6 r;cases f5:bfh with|true=>{rw[b d7 F (x (Kr V d1 b3.l iD fy)) ?_ ?_ (d7++[v]) ak ag ?_,DT (S c o g7 nc)];{obtain⟨h6,f6⟩:=l2.at_;rw[za l2.sw.at_];obtain⟨f9,i4,⟨i5,h7,_,_,_⟩,_⟩:=l2.sw.d;exact I h6 (Y (bt (bI F f6)) f6) (l2.sw.put (jI F) (bI F x2) (J (by rw[f7 vs N.sw.p,fw c1 q,kK])) h2 g8.symm (qy F h7 Z4)) (Y h3.symm l2.mg) l2.ne};{rw[ae h8 i7 (aV i7 c0 d7 v) (GG F)];rw[g9,DR,fg];rw[GV [e]];rw[b4];exact eL (cd h8 e9) (tv (aj_ h8) rv)}}|false=>rw[j S l2 d7 F (aw ET)];rw[g9,DR];rw[GV []];rw[b4,qQ];exact e9};rintro h9⟨sb,d5,d7,c3,V,r⟩;rw[dc b3 r];rw[c9,d9]at k;exact k c0 h9 (db (sb b o (f b o e) bz)) (f.free c1) (v d7 c3 r)
universe z
inductive NumV(C:Addr)(H L:Hp)(v:V)(T:Gla.Plan)(c:Js):Prop|mk:∀(d8:Js)(a b2 X G:Addr),b v bc (g6 L am4) (aiI c) (a3M (fs amz)) (c (Y a) (Y b2) (Y X) (Y G) aK4)
inductive azs(C:Addr)(K:Fg)(vs:af)(H:Hp)(Q:VK)(E:XK):Prop|mk:∀(w h:Nat)(b2 le G:Addr)(pts:ej)(g:ni)(marks:Js),e [vn w,vn h,YJ,.ref le,.ref G] a9L (bm eR le g) (bm sC G tn) (j bdx (N2<9000) (aC5<9000) bcY (DZ (aFr w h pts g tn)) (azs C K vs H Q E))
theorem aZS{a b:Pt}(h:mO (sO b) (sO a)=ah):aiu a=ah:=by have:=Uh b a;rw[al_];exact h
theorem aZT{a b:fB}(h:mO (G7 b) (G7 a)=ah):DO b a=ah:=f4 (DO b a) (GM.Cb.mp q) G7
theorem aZU{a b:Gla.Mark}(h:mO (L_ b) (L_ a)=ah):amz:=f4 (a56 aiw) (GM.iI.mp q) L_
theorem azt{I:Type}{lt:yj}(cQ:eV AS (lt a b=ab\/lt b a=ab)){l:ba}(nd:l.Nodup)(s:pb (jM (lt y x=ah))):pb (jM (lt x y=ab)):=by refine(List.Pairwise.and nd s).imp (fun{a b}⟨ne,h⟩=>?_);rw[al (cQ a b ne),iB,ay]
theorem azu(x y:Pt)(h:sO x=sO y):x=y:=by rw[n3 x,db d y];simp only[sO,Oj,Oi,Xg]at h⊢;lia-abstractProof
theorem aZV(x y:fB)(h:G7 x=G7 y):x=y:=cq
section z
theorem azv:T.numbered.Ok P w aj 3 (azs bI K):=by refine T.numbered.go aTs aK;generalize aF=e3,az=A,aE=outer,aD=s,aB=H,aA=vs,aG=Q,aH=E;rw[aN,M aK,aX];generalize aF=C,az=c,aE=b2,aD=le,aB=G,aA=pts,aG=g,aH=marks;rintro rfl c2 a0 c4 R I D k8 k;rw[fa,ca (i 5 IL (Cx av) (bU 6 IL adK) (bZ (u cJ 7 IL 8 IL (d3 ew ki kh)) (d IL 9 (oy bb) (bk "p" 10 "q" 11) (bC (V 10 IL 11 IL)) kO (bC (bh aVT (SG xB ew E7 rz) (SG xB ew OX rz)))) (aS bR aq cJ (Cx xF) (so bQ))))];delta sh;refine agp (K:=K) (O:=sO) azu c2 (fun p _=>Rq) R.1 R.2 (fun ls a8 W r O dP a4 e1 c5=>?_);have b4:=bhP;have V:fj<9000:=by{obtain⟨_,B,h7,hB⟩:=R;rw[dk O B (aL (hB x (x (r x) S)))];exact Rj};refine J4;rw[l b5 a8 a8 d qe nd,e b9 a8 d qe d qe,m a8 d qe b7 b5 b9,tr c5,y ls b1 (au (gS hu)) (bv fj (bi (vw (fun j3 i9=>M=[bI C,bI c,ac b2,AE,ac G,ac ls,rE,j3,i9,ae,ae,ae])) ON (oK uc (Q p (j<i) W p (fb F ud=aa (vn j))))) (c Kf b5 [] b9 aY (fun j p b8=>AA)))];{rw[ps s];exact d b1 (dB b1 (t aj7 hi)) (br hu) pN};rw[i3 s (ap b1 (br hu) aj7 aY)];{rintro i M L k3 d4 hi⟨⟨j3,i9,rfl⟩,s,F,c1,lk,mk⟩⟨d6,y,rfl,k4,rfl,b6⟩;rw[aW p a3 a9 (b6 b1 (br hu))];have c8:=j6 hO k4;have a7:upd L d6 hO d=aa uc:=cp k4 c1;rw[d5 l5 hO hO,ov (bK c8 J)];generalize kz (eA cV)=d4 at c8 a7 l5 U;rw[d d6 _ rfl (cx l5) rfl d _ (a (qE.t (k:=ud) a7 U (db lk hi V)) (bm _) (go c8) (mQ F ud pK) ak ?_ (fun j q b8 e0=>?_)),cc (UG F ud pK) (cf this lk)];{rw[Sy];rw[N z j i];{lia};{rw[bj (e9 (z ?_))]at⊢;rw[l (mk j q (iT z) e0)];{have:=ayB y;rw[gq];exact Gb O e0 a3}}}};rintro M d4⟨⟨j3,i9,rfl⟩,c8,F,c1,lk,mk⟩;have k1:=gd c8;have numOf:=gW (by rw[iZ (wH (ae (r p) c2))];exact mk _ p lt (WY ⟨lt,aid lt⟩));rw[bE d3 pv (id a0),bD le (aW (k1.seq d3)) (fun i0 i8=>c sA gA iL (a0.mono gA k1) (cs (aa (min YX YW,max YX YW))) i8 (gb I))];{rintro i l v L h4 N a5 s⟨b,e7,f5,rfl,U,⟨e5,rfl,l2⟩,e6,rfl,m⟩b6 d1;have c4:=k8 l (bM a5);have c7:=bv c1;rw[AT (b d _ rfl (gK l.1 l2 c4.1) d rfl (gK l.2 m c4.2) (ce YX YW (fun v e4 d9 d3=>fy d9 d3)))]};rw[bbV,eV e2];have l1:=aFm d9;rw[bD (agp (K:=K) (O:=G7) aZV (Z:=rj (bE YX YW YX YW)) (v d7 (au g5) e2) aIz (nI I) (aw hV (aL S)) (fun X g6 V d5 e8 e9 f9 b0 Z=>?_))];have d0:=aj2 f9;rw[bD (ago (K:=K) (O:=L_) (aEe jt d0) aIz (gb D) (fun u o d8 b3 c6 Y c0=>?_)),bgr,beQ,fI (z_ h1),mw dx,P sm h5 (cy h5 dx anr) Py,e t (upd h5 dx Ei) x anr x anr];generalize cy h5 dx anr=h9 at sm t;rw[d x dx C c ls X u amH];have n:=f.free nx;rw[gZ (h9 x) t];have c9:=XD dk (bX En f9 (zO sm)) (v b1 hu a9);have d2:=XD iL (zO sm) Z;have c3:=XD jt sm c0;refine aC (fI (aFs sm) n) (a d8 x ls X u rfl (I dx ak ?_ ?_ (c3.put jt h8 (zY c3))) b3 (a a_w n e1 (l1.free b0) (d0.free Y)));rw[c9 (c9.put (o:=bgk) dk h8 (m6 c9 ai)) b4 this];{have:=d2.put (o:=bgk) iL h8 (m6 d2 bL);rw[bY (GM.aev d5 (azt GM.aeu e8 (e9.imp (ah (aZT q))))) b4];exact this}
universe z
inductive azw(K:Fg)(vs:af)(H:Hp)(Q:VK)(E:XK):Prop|mk:∀(l:Addr)(row:ej),A [cC] (bm dG l row) (H6 YY) (azw K vs H Q E)
inductive azx(K:Fg)(vs:af)(H:Hp)(Q:VK)(E:XK):Prop|mk:∀(v:V)(c0:Addr)(l:kn)(row:ej),e [v,O_] aoj (bm dG c0 row) (gQ l.1) (c (gQ l.2) (V p row (gQ p)) (fh<1000) (H6 (IM row l)) (azx K vs H Q E))
inductive azy(C:Addr)(K:Fg)(vs:af)(H:Hp)(Q:VK)(E:XK):Prop|mk:∀(a b c d:Addr)(r:Gla.Plan)(b2 le G:Addr)(pts:ej)(g:ni)(marks:Js),e (cf bc b2 le G) (LN C H a r b c d) a9L (bm eR le g) (j (bm sC G tn) bdx (N2<9000) (aC5<9000) bcY (DZ (aFr r.w r.h pts g tn)) (azy C K vs H Q E))
theorem azz{I:Type}{row:ba}{j:Nat}{e:I×I}(h:aa (YY) e):aa row e.1/\K row (j+1) e.2:=by rw[a4 aFt];rw[aiT,DB,VS 1 j]at h;exact h
section z
theorem azA:T.joined.Ok P w aj 1 (azw K):=by refine T.joined.go aT7 aK;generalize aF=e3,az=A,aE=outer,aD=s,aB=H,aA=vs,aG=Q,aH=E;rw[aN,M fQ,aX,bW l row];rintro rfl⟨vs,d3,d⟩k;rw[cl (cl (aYK (K:=K) rfl rfl bH aj1 bH T.zip (sH bR (xd bR)))) d3 (fun b a5=>?_),aa vs (gP 1) (Oq 1) _ 1,aj a4 (ap b (Oq 1)) xG,a b4 H b (Oq 1) b (Oq 1),iG (ap b (Oq 1)),e l b _ _ rfl (akn d3) (au b4) (fun i1 b7 J=>?_)];obtain⟨b5,d6,Y,F,h2,al⟩:=J;have i9:=eY;refine k i1 b7 i9 (gY d6) (js h2);have i5:=oZ;refine ayy (by rw[bA,F,(GM.pairs_len row),sR];simp[*]) (fun j v e b8 a0=>?_);rw[gA b8,a3 a b3 b8];obtain⟨_,x,y,⟨S,b6⟩,d0⟩:=al j a b3;obtain⟨g7,g8⟩:=azz a0;rw[DB,VS 1 j]at b6;rw[cR d2 r1 (mA d g7),bK q2 r2 (mA d g8)];rw[S]at d2;rw[b6]at q2;cases d2;rw[a4 q2 (bT a d0 (bK i9 r1) (bK i9 r2))]
theorem aZW:T.parted.Ok P w aj 3 (azx K):=by refine T.parted.go ae3 aK;generalize aF=e3,az=A,aE=outer,aD=s,aB=H,aA=vs,aG=Q,aH=E;rw[aN,M oj,aX,al v c0 l row];rintro rfl d3 I j1 d5 u e k;rw[fa,aJ a b3 j0 j6 d3,tr (id I),K (b6 (d ae3.nd 2 (oy aq) (ck "point" 3) (cj 3 ae3.nd) (lp (u_ (Z awU kL kL bb))) (bC bb)) (go (afl K av) (ea bR)) (a7 azA (c4 (ea kL) (Cx av) (ea kL)))) c0 rfl ⟨aW hu,fun m y=>c dG dk dk I (bn (jS (DL l.1 l.2 p) p)) y (gb e)⟩];{rintro i p x L h4 N c2 s S b6 d1;rw[f3 (dj s),c rfl a _ _ _ rfl (cx (bv b3)) (bh dg a (cx (bv b3)) (a dr l.1 l.2 p (cA (hK g j0) (hK g j6) S) j1 d5 (u p (bM c2)) ?_)),gl (DL l.1 l.2 p) (ab p (x kS) ei S) hV]};rw[apU];rw[LG]at e9;rw[ca (.inl (bm (au b4)))];have B:=dj a4;rw[d0 IM];cases f:NK aam with|nil=>{rw[f]at e9 k;cases e9;rw[v (ag) (fun b a5=>?_),jr bc a5];exact k b _ b5 (gY a5) (aw ak (hw (tv (dj b5) d3)))}|cons z zs=>obtain⟨k3,c,rfl⟩:∃k3 c,d7=k3::c:=by{have:=rh;rw[am f];cases d7 with|nil=>{trivial}|cons k3 c=>exact bp k3 c};rw[bn a OF ⟨(ag),fun b a5=>?_⟩,jr e7 a5,a b9 a8 b [e7] b [e7],h M a8 b [e7] m (k3::c) a5 b4];have j:=f2 (ac [e7] a5) e9;rw[bo (U a8 b [e7]) b9 M j];delta sh;refine agp (K:=K) (O:=sO) azu (Z:=NK aam) (ce M j) (fun p _=>Rq) bz (v row (x (fJ e tF)) (aL (fe S))) (fun ls d4 W r O dP c8 e1 c5=>?_);have V:fj<1000:=by{rw[dk O row (aL (fe (x (r x) S)))];exact Rj};obtain⟨ws,hw,C⟩:=c5;have q1:=C.length;rw[n b ls (dn b9) hw ⟨jo q1.l V,fun e5 n=>?_⟩];have d9:=L (fi c8) (bs [e7] ws n);rw[a g5 d4 e5 alK e5 alK];have o:=es sO (bs [e7] ws n) C;rw[e d4 e5 alK e4 d9 g5 o,da a (fH b3) ⟨(ai),fun e6 d=>?_⟩];have f9:=m_ (ac [f5] d);rw[a i2 e4 e6 [f5] e6 [f5]];have U:upd e4 e6 (.lst [f5]) e5=_:=cp d g5;have n3:=es sO (ac [f5] d) o;generalize U e4 e6 [f5]=g6 at f9 i2 U n3;rw[n e5 e6 U i2 ⟨jo q1.l V,fun c1 t=>?_⟩];have h1:=mZ bex;rw[y c1 (l.1::(W++[l.2])) (js (au ak)) (fun i1 h9 R e0 Z=>?_),l (.cons (bK h1 j0) (eL (es sO bex n3) (bK h1 j6)))];{rw[(bhP)]at Z;exact k i1 h9 (zO R) (h1.free e0) Z}
theorem aZX:T.awq.Ok P w aj 4 (azy bI K):=by refine T.awq.go aT6 aK;generalize aF=e3,az=A,aE=outer,aD=s,aB=H,aA=vs,aG=Q,aH=E;rw[aN,M (aqE ?_),aX];generalize(ho).1=a,aV ho=b,bX ho=c,cA ho=d,b1 ho=r,cu ho=b2,du ho=le,d7 ho=G,fq ho=pts,k8 ho=g,a8Y=marks;rintro rfl h c2 a0 c4 R I D k8 k;rw[fF,eB (cl (ec azv (GR bO bO aq av bb))) (b hd dS Ia y_ a dx _ (i hd dS H_ GX r.w r.h (a b2 le G pts g tn rfl c2 (a a0 c4 R I D k8 (fun v a8 a4 nv=>k v a8 a4 nv)))))]
universe z
theorem azB{T:Gla.Plan}{c d8:Js}(F:DN T)(Z:WD=XE tA c)(p:aiI c):DN am4:=by rw[z V (aiI WD) Z (aDM (bt (GM.yS _ _)))];exact a F.w F.h F.p F.l (t V.length_eq F.m) aiA aCY (fun m c4=>wN m (V.mem_iff.mp c4))
theorem aZY{C:Addr}{H L:Hp}{r T:Gla.Plan}{b2 X:Addr}{x:Gla.Step}{v:V}{c:Js}(h6:aK4)(c4:ajz r x=aa T)(Z:WD=XE tA c)(a9:xb r)(ask:Ii x):l1 x v:=by obtain⟨d8,a,e7,i,I,e,d,p,s,n1,n2,u,y⟩:=h6;rw[cb (GM.auH Z p s)];delta LU;rw[c4];exact a _ a e7 i I e d (azB (GM.Tp a9 ask.ok c4) Z p) (c b.1 b.2 n1 (.inl n2) (.inl u) y)
theorem NumV.up{C:Addr}{H a8 L:Hp}{v:V}{T:Gla.Plan}{c:Js}(s:cY H a8)(h:aFu C a8 L v T c):aK4:=by obtain⟨d8,a,e7,i,I,e,d,p,q,n1,n2,u,y⟩:=h;exact a d8 a e7 i I e d p (a q (XF n1) (XF n2) (XF u) (XF y))
theorem Md{C:Addr}{H L:Hp}{r:Gla.Plan}{b2 X:Addr}{x:Gla.Step}(c4:ajz r x=ae):l1 x .bC:=by delta LU;rw[c4]
theorem azC{I:Type}{O:ba}{l:I×I}(h:l∈aFt O):l.1∈O/\l.2∈O:=by rw[n4 h];have:=azz b8;exact⟨bM eu,bM fm⟩
theorem aZZ{row:ej}{d l:kn}(h:l∈IM row d):(l.1=d.1\/l.1=d.2\/l.1∈row)/\(l.2=d.1\/l.2=d.2\/l.2∈row):=by rw[a4 IM];have:=azC h;have O:E p (p∈d.1::(XE WJ (vX (DL d.1 d.2))++[d.2])) (cN d.1 d.2 (p∈row)):=fun p c2=>by{rw[al (ic c2),l AZ];{rw[h_ q,l (pd (fe (NJ ((GM.yS _ _).mem_iff.mp q)))),ay]}};exact⟨O _ eu,O _ fm⟩
inductive azD(C:Addr)(vs:af)(H:Hp)(Q:VK)(E:XK):Prop|mk:∀(a c0:Addr)(b8:V)(r:Gla.Plan)(b2 X G:Addr)(row:ej)(m:Gla.Mark),e [bc,O_,b8] Qo (fg c0 row) Z9 (i (xb r) (Ii Ro) (nQ Ro) (azD C vs H Q E))
inductive azE(C:Addr)(vs:af)(H:Hp)(Q:VK)(E:XK):Prop|mk:∀(a:Addr)(pv:V)(r:Gla.Plan)(b2 X G:Addr)(k:Nat)(p:Pt),e [bc,vn k,pv] Qo (br pv p) (xb r) (Ii aoI->nQ aoI->azE C vs H Q E)
inductive azF(C:Addr)(vs:af)(H:Hp)(Q:VK)(E:XK):Prop|mk:∀(a:Addr)(b8:V)(r:Gla.Plan)(b2 X G:Addr)(i:Nat)(m:Gla.Mark),e [bc,pK,b8] Qo Z9 (xb r) (Ii Z2->nQ Z2->azF C vs H Q E)
theorem UR{I:Type}{l:ba}{k:Nat}(h:k<eb)(x:I):Hd k++[x]++oQ (k+1)=Wa k x:=by rw[List.set_eq_take_append_cons_drop,aJ h,dv];rfl
section z
theorem aZ0:T.awr.Ok P w aj 5 (azD bI):=by refine T.awr.go ae4 aK;generalize aF=e3,az=A,aE=outer,aD=s,aB=H,aA=vs,aG=Q,aH=E;rw[aN,M JD,aX];generalize E_=a,Fc=c0,Fd=b8,Fe=r,Ff=b2,Fh=X,Fl=G,Fo=row,FC=m;rintro rfl h I c4 a9 ask k;rw[fa];have C:=aFq;have Y:=NL;rw[h7 Oo];have j:aMU:=ask;have t:=GM.auv C row (fun p _ e a0 q=>GM.auw Y a0 q);rw[cU n9 (cA dd (gQ p)) YL (JI).2];have e9:∀d∈H2,d.1∈dd/\d.2∈dd:=fun d hd=>by{obtain⟨e,a0,b4,b9⟩:=GM.ael.mp (show(d.1,d.2)∈H2 from hd);have:=jh;exact⟨bl b4 (Eb Q8),bl b9 (Eb fm)⟩};rw[K (i 3 ae4.nd (km azA) (bd (dK LO) 4 ae4.nd (eJ bb (bh aZW bQ aq))) (de (eN (em bO (uW aq)) bb (em bO (ea av))))) c0 row (ah I.ls (fun le a8 a4 j3 LE=>a a r b2 X G rfl ux (f8 (by have:=jh;rw[kb])) (gb iD) (fun ld b7 b5 B f7=>?_)))];obtain⟨c7,d7,c9⟩:=f7;rw[a9 ld d7 (aJ c7 (fo (GJ (∃b1,M=[kN,OS,aa b8,AE,b1]) bP (aj ld c7) (dD (eR L) c7 H2) (dB eR L le (YY++a'z)))) (a qn (eY) d7 c9 (aI (LE.mono gA b5))) (mS (au z.3)))];{rintro i x M L S⟨⟨b1,rfl⟩,s,a3,d3,d0⟩;rw[aW d hd d3 S];have o4:=e9 d (bM hd);obtain⟨a7,F,N⟩:=d0;rw[aL (ako (i+1)) (ako i) d hd];have cQ:t (YY++a'z)+t (IM row d)<=dQ+2*fh:=by{have b4:H2=ako (i+1)++r.drawn.drop (i+1):=aGk;rw[b4,g9,zP,zP]at t;simp only[cj,pq,a57,qQ]at t⊢;lia};rw[c (dq F) x c0 d row J (I.mono dk s).ls (a (n9 _ o4.1) (n9 _ o4.2) (gW ⟨jv (bbl).1 ax,jv (bbl).2 ax⟩) (gc j.1.2.1) (fun i1 d4 c8 e0 D=>?_)),b7 e1 V D];have O:=dn F;have d5:=V.length;have h2:=iT;rw[n le i1 O e1 (aw bL),ae h8 d4 (U d4 le (a7++c5)) (GG O),f3 (hL c8 h8),j ek (fI (ir c8) j3) (Y (J (by rw[gr q LE,b4 e B];cases B)) (dn a3)) (cd g d3) (aJ (a7++c5) ak)];rw[g9,zP,<-dv];simp only[pq,a57,qQ];exact oJ (cd g N) (cd h8 V)};rintro M d4⟨⟨b1,rfl⟩,c8,a3,d3,U⟩;rw[dc d3.length U];have o:=gh c8;rw[cw c3 o.at_,b7 n W o.p,di d1 Z o.m,bI d2 b0 (I.mono dk c8),hN fj];have g8:=fL;have i7:=b0.length;rw[a2 c3 (K gf fX c0 (ce d2) (fun e5 n1=>?_))];have d9:=nf (ac f n1);have i6:=ac f n1;rw[a g5 d4 e5 f e5 f,e d4 e5 f e4 d9 i6 g5,n b2 e5 (i6 _ _ n) g5 ⟨fS,fun e6 n2=>?_⟩];have f9:=m_ (bs c5 f n2);have e2:=i6.trans (bs c5 f n2);rw[a i2 e4 e6 (c5++f) e6 (c5++f),e e4 e6 (c5++f) g6 f9 e2 i2,a2 (e2 _ _ c3) (d jI ju (ag) (fun c1 u=>?_))];have h1:=mZ (ac [b8] u);have c6:=e2.trans (ac [b8] u);rw[a j1 g6 c1 um c1 um,h b3 g6 c1 um e6 (c5++f) u i2];generalize U g6 c1 um=h5 at h1 c6 j1 b3;rw[n G c1 (c6 _ _ d1) j1 ⟨jo g8.l qa,fun i0 y=>?_⟩];have R:=zO (ac Zq y);rw[cc (c6.trans (ac Zq y)),a j2 h5 i0 Zq i0 Zq,h b6 h5 i0 Zq e6 (c5++f) y b3];generalize aV h5 i0 d8 b8=h9 at R c j2 b6;rw[cb (dj c),b a b2 X G r e6 le i0 (a (dd++row) (YY++aiE (IM row)) (dR++[m]) rfl (gh R) (ce b6 (oJ (hf b W) (hf b b0))) (U.mono gA c).ls (ce j2 (eL (dH (lR b) Z) (tp R))) (a (d a'v _ a'v (aL S)) bL (nI qa) Yv bai))];{rw[h_ a5];{have:=azC q;exact⟨qP _ eu,qP _ fm⟩};{rw[aJ d hd (aC3 q)];have o4:=e9 d hd;have:=aZZ q;constructor;rw[dX,dX]}};rw[aw i3 (wI d6) R (GM.at9 Y row m) ask]
theorem aZ1:T.awt.Ok P w aj 5 (azE bI):=by refine T.awt.go aT9 aK;generalize aF=e3,az=A,aE=outer,aD=s,aB=H,aA=vs,aG=Q,aH=E;rw[aN,M aK,aX];generalize aF=a,az=u,aE=r,aD=b2,aB=X,aA=G,aG=B,aH=p;rw[cn c2 a9 ask,fa];have Y:=aFv;have e8:=Oo;rw[fF,b7 a3 a7 h.p,hN akm,eB (ah bbM (H8 akp) (bo (d akp 4 pP (bk "a" 5 "b" 6) (bC (V 5 akp 6 akp)) kO (bC (as (bs bb cJ) (bs bb ew)))) (eN bb bQ bO))) (b hd dS gf fX b2 rfl (ce a3) ?_)];rw[d5];rw[ko,l (aC (tw H) (Md (GM.auF ai p)))];{rw[dR C B aL,a2 hd (K gf fX b2 (au a3) (fun e0 g9=>?_))];rw[zb c5 B];rw[gW (ap e0 lY) g9,a b4 H e0 lY e0 lY,iG (ap e0 lY),v (ag) (fun g0 e1=>?_),jr u e1,a b9 a8 g0 [u] g0 [u],h M a8 g0 [u] e0 lY e1 b4,e a8 g0 [u] b7 b5 b9 M,dk B c5 d5.l AR];have c8:=fi (ac ZT j5);rw[a e7 b7 d0 ZT d0 ZT,g4 d0 ZT,a2 (dn hd) (K gf fX b2 (au (dn a3)) (fun R b0=>?_)),bhp];have d9:=nf (ac mb b0);rw[a g5 d4 R mb R mb,h D d4 R mb d0 ZT b0 e7,e d4 R mb e4 d9 g5 D,q4 a_y AR];rw[UR ag];have f9:=m_ (ac aap F);rw[a i2 e4 y aap y aap,i e4 y aap g6 f9 i2];have d:dD (dG g6) aap X7:=by{have J:=dj f9;have z:=hf J a7;rw[a_h];exact oJ (eL (sF B z) (hK J c2)) (Cn (B+1) z)};rw[bT (gh f9)];obtain⟨ls,q,I⟩:=m.l;rw[a2 QE (u kF kz X (k7 q) (fun le j3=>c eR iL gA m.l.ls (an (aa (tk e.1,tk e.2))) j3 bL))];{rw[dJ e x a0];have ix:=ed e uv;rw[bv g oo (aa (X7) (tk j)) ag,cR g7 r1 (mA d (g e.1 bL)),bK g8 r2 (mA d (g e.2 ix.2)),AT (m y _ (br i2) (dZ g7) (m y _ (br i2) (dZ g8) a'6)),bdv];exact GY (v ak (hK W r1) (hK W r2))};intro h5 d7 h1 j1 i0;rw[eV i0,fI (mZ h1)];have n:=gh f;rw[b (f _ _ hd) y X7 n (ce (iW i2) (f2 h1 d)) (ce j1 i0) n.m.ls fS fS (nI iD) bai];{rw[h4 a5];have ix:=jh;rw[bv g oo (tk j∈X7) ag];exact⟨g e.1 bL,g e.2 ix.2⟩};rw[aw i3 (aFs d6) f (GM.aSv Y C p) ask]}
theorem aZ2:T.awu.Ok P w aj 3 (azF bI):=by refine T.awu.go au_ aK;generalize aF=e3,az=A,aE=outer,aD=s,aB=H,aA=vs,aG=Q,aH=E;rw[aN,M aK,aX];generalize aF=a,az=b8,aE=r,aD=b2,aB=X,aA=G,aG=i,aH=m;rw[cn c4 a9 ask,fa,h7 Oo,fF,di g7 i1 h.m];have g8:=i1.length;rw[eB (b6 bbM (H8 au_.nd) (aS bO bO bO bO (so bb))) (ph g7 ?_)];rw[g8];rw[ko,l (aC (tw H) (Md (GM.mark_none ai m)))];{have C:i<fM:=by{rw[fy (aDf c)]};have j:=GM.aSu aFv C m;rw[a2 hd (K jI ju G (au g7) (fun e0 g9=>?_))];rw[zb d8 i];rw[gW (ap e0 (lS i)) g9,a b4 H e0 (lS i) e0 (lS i),iG (ap e0 (lS i)),v (ai) (fun g0 e1=>?_),jr b8 e1,a b9 a8 g0 um g0 um,h M a8 g0 um e0 (lS i) e1 b4,e a8 g0 um b7 b5 b9 M,dk i d8 g8.l qa];have c8:=fi (ac Zr j5);rw[a e7 b7 d0 Zr d0 Zr,g4 d0 Zr,a2 (dn hd) (K jI ju G (au (dn g7)) (fun R b0=>?_)),aa d8 (oL i) Qb d8 (i+1)];have d9:=nf (ac Qb b0);rw[a g5 d4 R Qb R Qb,h D d4 R Qb d0 Zr b0 e7,e d4 R Qb e4 d9 g5 D,q4 (RV (k:=i) g8.l) qa];rw[UR ag];have f9:=m_ (ac aoP F);rw[a i2 e4 y aoP y aoP,i e4 y aoP g6 f9 i2,a2 QE (ev Ia y_ (b QE dS H_ GX a dx _ (i QE dS gf fX a _ (a dx _ _ rfl QE dS kF kz ?_))))];delta sh;refine ago (K:=K) (O:=L_) (Z:=Yg) (ce i2 (by have J:=dj f9;have z:=dH (lR J) i1;rw[a_h];exact oJ (eL (sF i z) (lR J c4)) (Cn (i+1) z))) aIz fS (fun u o ns b3 c6 Y c0=>?_);rw[bgr,beQ,fI (mZ h1),mw W,P sm h5 (cy h5 W anY) Py,e t (upd h5 W Ei) x anY x anY];generalize cy h5 W anY=h9 at sm t;rw[d x W r.w r.h b2 X u amH];have d:=aFs sm;have n:=f.free nx;rw[gZ (h9 x) t];have g:=gh d;have c3:=XD jt sm c0;rw[ab Z (BZ (XE tA Yg):U5).marks (XE tA Yg),cb (GM.auH Z b3 a_w),cd (azB (GM.Tp a9 (x:=Z2) ask j) Z b3),oO (fI d n)];delta LU;rw[J j (a (BZ ns) x b2 X u rfl (I W ak (g.p.put dk h8 (zY g.p)) (g.l.put iL h8 (zY g.l)) (c3.put jt h8 (m6 c3 ai))) l (c b.1 b.2 n EX EX (f9.free Y)))]}
universe z
inductive azG(C:Addr)(vs:af)(H:Hp)(Q:VK)(E:XK):Prop|mk:∀(a:Addr)(r:Gla.Plan)(b2 X G:Addr)(i j:Nat),e [bc,pK,vn j] Qo (xb r) (nQ aJO) (azG C vs H Q E)
inductive azH(C:Addr)(vs:af)(H:Hp)(Q:VK)(E:XK):Prop|mk:gd r k (e [bc,vn k] Qo (xb r) (nQ (.drop k)) (azH C vs H Q E))
theorem aZ3{r:Gla.Plan}(Z:zZ r){e d3:fB}(a0:iC)(V:d3∈bX)(h:xE=jK r d3):e=d3:=by rw[cn yi,cb (gb d3 V),a4 jK];exact qO (lJ h) (lJ h).2
theorem aZ4{X:Cx}{P:Program}{w:World}{i o:Expr}{l A:TE}(C:eB=P)(hw:X.w=w)(hu:uQ)(hi:yl)(d0:Bn):F9 P:=aXX hu hi d0 C hw
theorem azI(k a b:Nat):BJ (vn k) (hG a b)=Ec k rR:=by delta BJ Ec;simp only[MX,List.any_nil,aBr];have:∀x:Nat,yH (vn x) (vn k)=(x==k):=ab (by show(v x==v k)=_;rw[iR];simp;rw[Fm]);rw[this,this]
section z
theorem aZ5:T.aws.Ok P w aj 7 (azG bI):=by refine T.aws.go aT8 aK;generalize aF=e3,az=A,aE=outer,aD=s,aB=H,aA=vs,aG=Q,aH=E;rw[aN,M oi,aX];generalize kU=a,kW=r,kY=b2,kZ=X,k_=G,lg=i,ll=j;rw[aV h a9 k,Bx];have C:=aFq;have Y:=NL;have Z:=DF;rw[h7 Oo,fF,di g7 i1 h.m];have g8:=i1.length;rw[ra (ah (fe (ea gP aq av) (ea vc beE nZ) cu) (bU 3 IP af5) (ah (bd (Z aZR bR aq av) 4 IP (af4 wt bb bQ mq rfl)) (go (aYw bb kX) cu) (bZ (d IP 5 (oy (dK LO)) (ck "line" 4) (cj 4 IP) (lp (BB (aZ4 (P:=P) (w:=w) rfl rfl wt bQ bb))) (bC bQ)) (bU 6 IP (em bis bis)) (eN ew cJ (em (h0 bO av) (sA (hv av)))))))];rw[dO];rw[N c0 i j,Z (dH (x AB)) (D2 (.inl c0))];{rw[ec bL];rw[ra _,y (v j) xy (v j) xy (ae akY) (iq i j)];rw[k1];rw[a2 hd (bt jI ju G g7)];rw[g8];by_cases g5:an6;{have k2:ao_=ab:=dH (x (aC g5));rw[i_ ao_,J k2 (D2 (.inr g5))]};have k2:ao_=ah:=ec ag;rw[i_ ao_];rw[k2];have hi:A dR (dB dR (ff (Wr i j) (Hc g5))):=pN;have b8:aa dR (dR[j]'(ff (HK i j) (Hc g5))):=pN;generalize dB dR (ff (Wr i j) (Hc g5))=c6 at hi;generalize dR[j]'(ff (HK i j) (Hc g5))=e0 at b8;have c4:=GM.erase_eq C c0 hi b8;simp only at c4;generalize l9:XB r (IK r aFo) (IK r aFn)=b3 at c4;refine fun d g4 nd k3=>?_;rw[x3 g4];generalize ad d g4=a8 at k3 a4;rw[b a r b2 X G i j c6 (a e0 rfl ux a9 hi b8 (fun i5 b7 b5 n5 k5=>?_))];rw[l9]at k5;obtain⟨bs,c5,m4⟩:=k5;have i9:=eY;have i4:=k3.mono b5;rw[ac m2 i5 d i4 c5];have gl:bd (iY b3) dQ:=AW;rw[a9 i5 c5 ?_];have m3:CA P w b7 d (an AD 0):=aw i4 (cs aT);refine aJ bs (fun n M L=>GJ (∃b1,M=[kN,bI i,bI j,rE,b1,ae,ae]) bP (aj i5 bs) (dD (eR L) bs AD) (CA P w L d (an AD n))) (a qn i9 c5 m4 m3) (fun n M L _ z=>au z.3);{rintro n x M L S⟨⟨b1,rfl⟩,s,l7,m1,f,h3,W⟩;rw[jA m1 S,B9 J];have d1:n<t AD:=bx a5;rw[aO j7 n dQ (RR d1 gl)];rw[eS]at h3;rw[c d c (gR l) f _ rfl h3 (Ik (db (wD n (t (List.map (jK r) (a03 b3 bX)))) j7 iD)),gh k4 h3,gZ (L d) k4,ae c3 L (upd L d o) (yX h8),j ek (go s) (Y m2 l7) (cd c3 m1) (aw (pk (min (n+1) (t AD)) (min n (t AD))) Yl)];rw[DV,a5];rw[T m l,a_,bb0]};rintro M d4⟨⟨b1,rfl⟩,c8,l7,m1,f7⟩;rw[dc m1.length f7,bI h3 W (id f7),Q d f _ ⟨h3,fun b U=>?_⟩,ck n8 ((xE∈AD)↔b3 e=ab) (by rw[fK];constructor;{rintro⟨d3,V,q⟩;rw[bT (vP V)];rw[<-aZ3 Z m.1 a0 q];exact m.2};rw[dX])];cases b with|false=>{rw[bD (aC c8 (Md ?_))];have al:=U.mp rfl;rw[ck m5 (b3 e=ah) bz];rw[c4,aJ];rw[dY];rw[a3I];rw[aaf];rw[m5 e a0];rfl}|true=>have k0:¬t (iY XW)=dQ:=ah (by rw[cN (List.filter_eq_self.mp (List.Sublist.eq_of_length List.filter_sublist q))];have:∀B,f B=ae:=by{refine aHJ;have j6:¬(ab=ah↔∀B,f B=ae)->cE:=J (z U);rw[ck a3 (b3 e=ah) ai];have D:(iY b3)=[]:=List.filter_eq_nil_iff.mpr (f8 ag);rw[D]at h3;obtain⟨F,d2,q2,q3,i6⟩:=h3;have:F=[]:=NU ai;refine f6 (fun B=>?_);rw[<-i6,this];rfl};exact cy (U.mpr this) ax);rw[bj k0]at c4;rw[ck e9 (e.1<aL/\e.2<aL) (by have:=jh;rw[fU]),c a r b2 X G (gh c8) e9 (iY iD (fun m6 e4 d9 n9 LE=>?_))];obtain⟨o1,l0,m7⟩:=LE;rw[a9 m6 l0 a_J];have m8:=aFd d9;refine c eR gA gA (ce l0 m7) (cs (jS (! cv amY) l)) j3 (t Xk (cf iD fy));{rintro n l x L h4 N a5 s rv b6 d1;rw[B9 rv];obtain⟨I,k6,t⟩:=m8.mono s;rw[d rfl d c (gR l) I _ rfl (aJ k6 (ng rv)),ae b4 (Z ab (! dk (I (gR l))) (dk (I (gR l)))) (! cv amY)];rw[b4];rw[gl (! cv amY) (ab l (x kS) ei rv) ag]};intro g6 d7 f9 i2 y;rw[LG]at y;have c9:r.drawn.filter (k9 (cv amY))=Pr:=by{delta aFp;rw[a4q];rw[dY];refine Ws ob;rw[co O (∀x:kn,x=xE->(! cv (x∈AD))=! b3 e)];exact O _ rfl};rw[c9]at y;have d0:=L En f9;have j0:bd (iY XW) dQ:=AW;have k7:dB eR g6 le Pr:=v d7 i2 y;rw[a9 le i2 (fun a7 n1=>c dG gA dk k7.ls (cs (aa l.1)) n1 (jo j0 iD))];{rintro n l x L h4 N a5 s⟨c,e7,f5,rfl,b0,r1,r2⟩b6 d1;rw[iu (as c b0 dg (fy ei r1))]};intro h5 i8 h1 j1 i0;rw[eV i0];have l1:=k7.mono gA h1;obtain⟨o2,m9,_⟩:=id l1;rw[a9 le m9 (fun d5 n2=>c dG gA dk l1.ls (cs (aa l.2)) n2 (jo j0 iD))];{rintro n l x L h4 N a5 s⟨c,e7,f5,rfl,b0,r1,r2⟩b6 d1;rw[iu (as c b0 dr (fy ei r2))]};intro h9 d6 R j2 k8;rw[eV k8];have n0:=i0.length;have n3:=k8.length;rw[bA,bA]at n0 n3;rw[gQ (R _ _ j1) j2 n_];have h2:=bs i8 d6 u;rw[a j9 h9 l3 (i8++d6) l3 (i8++d6),i h9 l3 (i8++d6) i3 h2 j9];have l2:=L (zO R) h2;have c7:=z_ l2;have p1:=c7 _ _ hd;have l4:=c7 _ _ g7;rw[bD (iX p1 (K jI ju G (au l4) (fun e5 g9=>?_)))];rw[zb d8 j];rw[g2 (ac (lS j) g9),a j8 i3 e5 (lS j) e5 (lS j),i i3 e5 (lS j) i7 b9 j8,a2 (b9 _ _ p1) (K jI ju G (au (b9 _ _ l4)) (fun e6 e1=>?_)),aa d8 (oL j) xZ d8 (j+1)];have l5:=b9.trans (ac xZ e1);rw[a e2 i7 e6 xZ e6 xZ,h l6 i7 e6 xZ e5 (lS j) e1 j8,e i7 e6 xZ h7 l5 e2 l6,c_ l6 e2 (RV (k:=j) g8.l) qa];have j4:=l5.trans (bs (lS j) xZ j5);rw[a g0 h7 c1 (lS j++xZ) c1 (lS j++xZ),i h7 c1 (lS j++xZ) o3 j4 g0];have k9:=c7.trans j4;have tB:=dj j4;rw[(aEm _ _)]at c4;have l8:=dH (lR tB) (dH (lR (dj c7)) i1);have o4:∀(g:kn->Pt),B Pr g=iI XW (g Em):=fun g=>aT;have n4:Ge (gt (iY XW) (cs [pG,rr]))=Ge (gZ Pr++cF Pr):=by{refine GM.aeC (fun p=>?_) (ff pX) (ff pX);simp only[V5,hF,fK,hH,oX,Du];constructor;{rintro⟨e,a0,q|q⟩;rw[dX,dX]};{rintro(⟨_,⟨e,a0,rfl⟩,q⟩|⟨_,⟨e,a0,rfl⟩,q⟩);rw[dX,dX]}};rw[n4]at c4;rw[b a b2 X G r l3 le c1 (a _ _ a7W rfl (gh k9) (ce (j4 _ _ j9) (hf tB (oJ (f2 h2 (f2 R i0)) (f2 h2 k8)))) ((k7.mono gA l2).mono gA j4).ls (ce g0 (oJ (sF j l8) (Cn (j+1) l8))) (a (d (x (RS j0 iD j0 iD)) dd n_ uh) (eM j0 iD) (fv dR j qa) Yv (fun v n6 n7 h6=>?_)))];{rw[h_ c2,KE (a_x).1,KE (a_x).2]};rw[dX,aw n6 (k9.trans n7) k9 c4 fZ]}
universe z
theorem agq{I d:Type}(p:Be)(f:Fp):ov (f e) (B (zB p) f)|[]=>rfl|a::J=>G8 (agq p f J)
theorem US{r:Gla.Plan}{i k:Nat}(hi:g_)(ne:i≠k):eH∈Wm k++Xs (k+1):=by rw[wZ hi];rw[al (aFw ne),l (vU _ (sq ag))];{refine qP _ (bM (i:=i-(k+1)) ?_);rw[DB,l (k+1+(i-(k+1))) i i (k+1) q i (k+1),pQ]}
section z
theorem aZ6:T.awv.Ok P w aj 5 (azH bI):=by refine T.awv.go aT_ aK;generalize aF=e3,az=A,aE=outer,aD=s,aB=H,aA=vs,aG=Q,aH=E;rw[aN,M P7,aX,n a r b2 X G B,aV h a9 k,Bx];have Y:=aFv;have e8:=Oo;rw[fF,b7 a3 a7 h.p];obtain⟨ls,d9,e0⟩:=h.l;rw[hN akm,qZ (X akq bO (g1 3 a_z (ly yA (cZ bQ cJ) aq)) (a6 (D Sg (dO bb) bD cu) (g1 6 (aS9 (K:=K) rfl) (as (i3 bQ) (i3 cJ))) (dG ew (as (i3 (bs bb bD)) (i3 (bs bb bD)))) (eN (em (h0 av aq) (Cs K av (oz rC) Sm)) ew bO))) ⟨k7 d9,fun i0 i8=>c oH iL sD h.l.ls (hr ano aLT) i8 (gb iD)⟩];{rw[dJ e x a0,aW b pO (bj rfl (ag) Zp),T b5 L aLb h7,bfP,i_ bcx];rw[azI];cases q:a'L with|true=>{refine asi ?_;have c4:=q;unfold Gla.endsAt at c4;simp at c4;refine ab aLT (x kS) b5 ?_;show cp (v e.1+v e.2-v B)=vn aLT;exact gC cp n_}|false=>rw[fy (d1 (by rw[aO (show¬ano=ab from hV)]) _ b5)]};rw[apU];rw[agq]at e9;have c3:=vt e9;rw[j_];have b4:b7 (a8 i0) (bh aaq):=b4;rw[aW i0 (ce b4) gM];rw[dO,bA];rw[N p (t aaq) 2];{rw[(dH (x AB))];obtain⟨x,y,M⟩:∃x y,aaq=Jp:=by{match aaq,p with|[x,y],_=>exact bp x y};have b1:=GM.drop_eq M;have b9:∀z∈aaq,z<aL/\z≠B:=fun z c9=>by{delta a58 at c9;rw[h4 c9,a8'];delta Ec at e1;simp at e1;have:=ed e g9;omega};have C:=b9 x ag;have F:=b9 y ag;have k3:=ux;obtain⟨e2,m,f5⟩:=k3.l;rw[a2 (di hd) (m kF kz X ⟨k7 m,fun le j3=>?_⟩)];have b3:∀{j:Nat},oo->z v (aa c5 v) (br v (bp j)):=fun{j}b8=>by{rw[cF v g (gP a7 b8)];exact v v g (t (wZ b8) J)};refine c eR iL gA k3.l.ls (hr (! ano) (eF,eG)) j3 bL;{rw[dJ e v a0];have ix:=ed e uv;rw[cR g7 r1 (b3 (j:=e.1) (b8 ix.1 ix.2)),bK g8 r2 (b3 ix.2),aW b pO (bj rfl (ym) Zp),T b5 L aLb h7,bfP,i_ (! bcx)];rw[azI];have o5:=L (gd s) b5;have b0:=o5 _ _ a3;generalize aLb=b7 at b5 o5 b0;cases q:! a'L with|true=>{rw[ah b2 (au b0) (dZ g7) (m b2 _ (au b0) (dZ g8) ⟨(ag),fun t' c0=>?_⟩)];have k1:=o5.trans a_o;exact ab _ (by rw[aJ q]) (fi a_o) (m t' O o (v ak (bK k1 r1) (bK k1 r2)))}|false=>rw[fy (d1 (by rw[aO (show¬(! ano)=ab from ag)]) _ b5)]};intro d4 zs c8 e7 j0;rw[agq]at j0;have k1:=gd c8;have I:=dn b4;rw[M]at I;have n:=k1 _ _ a3;obtain⟨d,W,R⟩:=b3 C.1;rw[bI u Z (b3 F.1)];have c2:=Ih;have fl:bd (iY (k9 (Ec B l))) dQ:=AW;rw[bA]at c2;rw[c (dq e7) i0 _ _ (vn x) rfl (au I) (f dg b2 _ d rfl (au n) (f (dZ W) i0 _ (vn y) rfl (au I) (f dr b2 _ f rfl (au n) (v (dZ u) (ym) Zp)))),l i6 d4 d4 t aoQ h7,e g5 d4 t aoQ t aoQ];have D:=i6 _ _ e7;generalize upd d4 t aoQ=e4 at i6 g5 D;rw[e le _ _ rfl rfl D (db c2.l fl iD) ?_,aj d0 aL9 (fI (aFm i6) (gY j3)),ae h8 e4 aL9 (GG D)];have LE:dB eR aL9 le ((iI (k9 (Ec B l)) Em)++[(bp x,bp y)]):=by{rw[fc ak (eL (cd (hL i6 h8) j0) (m t d f (v (h8 _ _ g5) (bK d0 R) (bK d0 Z))))]};rw[i e4 le (zs++[nG]) g6 d0 LE];have d2:=d0 _ _ a3;rw[bA b2 d2 (fun e5 g9=>?_)];rw[zb c5 B];have c6:=ac lY g9;rw[a j1 g6 e5 lY e5 lY,i g6 e5 lY h5 c6 j1,bA b2 (c6 _ _ d2) (fun e6 e1=>?_),bhp,cc (c6.trans (ac mb e1)),a j2 h5 e6 mb e6 mb,h d3 h5 e6 mb e5 lY e1 j1,e h5 e6 mb h9 c j2 d3,c_ d3 j2 a_y AR];have h2:=c.trans (bs lY mb j5);rw[a j9 h9 c1 (lY++mb) c1 (lY++mb),i h9 c1 (lY++mb) i3 h2 j9];have c7:=z_ h2;rw[dB (f2 h2 (f2 d0 a7))];have d8:=gh c7;rw[(aEm _ _)]at b1;rw[b (h2 _ _ (d0 _ _ hd)) c1 (Wm B++Xs (B+1)) d8 (ce j9 (oJ (sF B d6) (Cn (B+1) d6))) (LE.mono gA h2).ls d8.m.ls (fv dd B AR) (fv dd B AR) (eM fl iD) (fun v i7 i4 h6=>?_)];{rw[h_ a5];{rw[h4 q,a8'];delta Ec at e1;simp at e1;have:=ed e g9;exact⟨US bL e1.1,US fm e1.2⟩};{rw[cQ N_,e_];exact⟨US C.1 C.2,US F.1 F.2⟩}};rw[aw i7 (c7.trans i4) c7 b1 fZ]};rw[Z (ec bL) (p7 (Md (GM.auG p)))]
theorem aZ7:T.awp.Ok P w aj 8 (axH bI):=by refine T.awp.go aT5 aK;generalize aF=e3,az=A,aE=outer,aD=s,aB=H,aA=vs,aG=Q,aH=E;rw[aN,M oi,aX];generalize kU=a,kW=r,kY=b2,kZ=X,k_=G,lg=a0,ll=x;rw[cn c0 a9 ask,al (lw IQ aZ0) (lw T.LL aZ5) (lw T.LM aZ1) (lw XG aZ2) (b5 aZ6 (dh aq))];cases x with|lead row m=>{rw[qU b U,cc (lF U),sD (bh dr b c (a rJ a i7 b8 r b2 X G (a row m rfl h I c4 a9 ask aaN)))]}|erase i j=>{rw[ov c0,cc (lF U),sD (w dg rfl b _ (w c dr b _ (a c rJ a r b2 X G i (aC j h a9 aaN))))]}|move B p=>{rw[gI u c2 (b rfl c dr b _ _ rfl (a rfl c rJ a u r b2 X (a G B p rfl h c2 a9 ask aaN)))]}|mark i m=>{rw[gI b8 c4 (If (b rfl rfl c dr b _ _ (a rfl rfl c rJ a b8 r b2 (f X G i m h c4 a9 ⟨ask,aaN⟩))))]}|drop B=>rw[ov c0,cc (lF U),sD (w dg rfl b _ (b c dg rfl b _ _ rfl (If (a rfl rfl c dr a r b2 X (N G B h a9 aaN)))))]
universe z
def zg(C:Addr)(N:bg):Rl U5:=fun H v D=>∃a b2 X G,i2 Al (N (a∉N) (b2∉N) (X∉N) (G∉N))
theorem zg.sb{C:Addr}{N:bg}{H L:Hp}{v:V}{D:Gla.Plan}(h:zg C N H v D)(s:uF)(n:oO N H):zg C N L v D:=by rw[CB h,cw q d.at_];exact Db (I dx (d3 q c9) (d.p.sb dk s n g9) (d.l.sb iL s n e1) (d.m.sb jt s n j5))
theorem mD.sb{N:bg}{H L:Hp}{v:V}{x:Gla.Step}(h:mD N H v x)(s:uF)(n:oO N H):mD N L v x:=by have t:=s.ts n;cases x with|lead row m=>{rw[dq yk (l.sb dk s n a3) (lR t k) a3]}|erase i j=>{rw[ip h yk]}|move k p=>{rw[y pv e q J h];exact a a pv e yk (hK t J)}|mark i m=>{rw[y b8 e q J h];exact a a b8 e yk (lR t J)}|drop k=>rw[ip h yk]
theorem mD.nil{N:bg}{H:Hp}{v:V}{x:Gla.Step}(h:mD N H v x):mD [] H v x:=by cases x with|lead row m=>{rw[dq q l k jN]}|erase i j=>{exact h}|move k p=>{exact h}|mark i m=>{exact h}|drop k=>exact h
noncomputable def rcF(g ls:Addr)(d:Int):hX:=[fX "cartoons" g,fX "steps" ls,("done",YN)]
theorem Me(g ls:Addr)(d:Int):kq "done" YN bfx=g4 d:=by show kq "done" YN (aL "steps" ls [("cartoons",.ref g)])=_;rw[rO];show kq "done" YN [("cartoons",.ref g),("steps",.ref ls)]=_;rw[rO,rO];rfl
theorem agr(g ls:Addr)(d e:Int):kq "done" (.int e) (g4 d)=g4 e:=b2 rcF rO rO UL
section z
variable{g ls:Addr}{d:Int}
theorem ags:bN (g4 d) "cartoons" g:=by rw[<-Me,dh,pI,dh,pI,dh,cO]
theorem agt:bN (g4 d) "steps" ls:=by rw[<-Me,dh,pI,dh,cO]
theorem zh:iu (g4 d) "done"=aa YN:=by rw[<-Me,dh,cO]
theorem aZ8{m:Str}(a3:¬m="done")(a9:¬m="steps")(e2:¬m="cartoons"):fu (g4 d) m=ae:=by rw[<-Me,dh,bj a3,dh,PX,dh,bj e2];rfl
universe z
structure RecAt(u CR:Addr)(H:Hp)(J:Addr)(R:GM.bT)(g ls:Addr):Prop where
 at_:∃dx,bh J (aI CR (g4 R.d))
 c:z vs (am g vs) (G1 pz)
 s:z vs (am ls vs) (dD (mD gm H) vs mX)
 ne:g≠ls
theorem RecAt.nt{u CR:Addr}{H:Hp}{J:Addr}{R:GM.bT}{g ls:Addr}(h:nu):oO gm H:=qT (by rw[JO,ku vs h.c,h9 b1 h.s,Br,apM,ay,ay,cL])
theorem RecAt.mono{u CR:Addr}{H L:Hp}{J:Addr}{R:GM.bT}{g ls:Addr}(h:nu)(s:bP):Bf:=by have n:=Ot;have sb:AG:=cG s;rw[JO,Ra,J6];exact dx (bv q) (v vs (bv d2) (o4 e9)) (v b1 (bv q2) (o4 f6))
theorem RecAt.nrc{u CR:Addr}{H:Hp}{J:Addr}{R:GM.bT}{g ls:Addr}(h:nu):J≠g/\J≠ls:=by rw[JO,Ra,J6];exact⟨bI q d2,qy q q2 ai⟩
theorem RecAt.azK{u CR:Addr}{H:Hp}{J:Addr}{R:GM.bT}{g ls dx:Addr}(h:nu)(e:Nat):dJ a_S (iq e):=by have n:=Ot;rw[au sb gm a_S alJ,Ra,J6];have G:=h.nrc;exact dx ak (v vs (Y G.1.symm d2) (o4 e9)) (y5 G.2.symm)
inductive azL(vs:af)(H:Hp)(Q:VK)(E:XK):Prop|mk:∀(v:V)(e:Gla.Fault),A [v] (GI H v rH) (vK (B (IS e) cp)) (azL vs H Q E)
inductive azM(u CR:Addr)(vs:af)(H:Hp)(Q:VK)(E:XK):Prop|mk:dH x_ (ad v (zg u gm H v gc) AO) (azM u CR vs H Q E)
inductive azN(u CR:Addr)(vs:af)(H:Hp)(Q:VK)(E:XK):Prop|mk:dH aIL (kp ug) (azN u CR vs H Q E)
inductive azO(u CR:Addr)(vs:af)(H:Hp)(Q:VK)(E:XK):Prop|mk:dH (R.d=0->kp 0) (R.d≠0->Gk tZ) (azO u CR vs H Q E)
inductive azP(u CR:Addr)(vs:af)(H:Hp)(Q:VK)(E:XK):Prop|mk:dH aIL (ug=0->kp 0) ((ug≠0->Gk jO)->azP u CR vs H Q E)
inductive azQ(u CR:Addr)(vs:af)(H:Hp)(Q:VK)(E:XK):Prop|mk:∀(J dx:Addr)(v:V)(D:Gla.Plan),e [xn,v] (bh J (aI CR [])) (zg u [] H v D) (∀L g ls,c (fM [J]) (Y g) (Y ls) (dJ L (kG D)) IY) (azQ u CR vs H Q E)
section z
theorem azR:T.refusal.Ok P w aj 1 azL:=by refine T.refusal.go aUf aK;generalize aF=e3,az=A,aE=outer,aD=s,aB=H,aA=vs,aG=Q,aH=E;rw[aN,M fQ,aX,bW O e];rintro rfl⟨a,rfl,b3⟩k;rw[d _ (cl (yE (yZ (gi T.aVo) kL kL))) a _ _ _ rfl (w JB dg a _ (d JB dr (eq 3) (ff (k l _ xG a5 ak))))]
theorem aZ9:T.aww.Ok mg P w aj 1 (azM bI dJ):=by refine T.aww.go aUa aK;generalize aF=e3,az=A,aE=outer,aD=s,aB=H,aA=vs,aG=Q,aH=E;rw[aN,M oj,aX,RH,aV h Y k,fF,bE q p h.c,dp o2 rv (mA p DI.1),bV (cl (f7 bO)) J (b hd gK T.TU ags J dx _ (i hd gK Ed zh g _ (f _ v rfl (v (au q) (dZ o2) (k v rv)))))]
theorem aZ_:T.awx.Ok mg P w aj 1 (azN bI dJ):=by refine T.awx.go aUb aK;generalize aF=e3,az=A,aE=outer,aD=s,aB=H,aA=vs,aG=Q,aH=E;rw[aN,M oj,aX,RH,aV h dl k,fF,bE q p h.s,bV (cl (ly yA nZ bO)) J (b hd gK T.TV agt ls rfl (ce q) (GZ (aJ Ed zh)))];rw[wQ];rw[k3 (ae ug) (v lI-v R.d),d0 vn,bs e];exact k
theorem azS:T.GW.Ok mg P w aj 1 (azO bI dJ):=by refine T.GW.go aUd aK;generalize aF=e3,az=A,aE=outer,aD=s,aB=H,aA=vs,aG=Q,aH=E;rw[aN,M oj,aX,RH,aV h c0 f7,fF,bV (b6 (D gP bO bD bD) (adn bR bD aOZ) bD) J (a hd gK Ed zh gM)];rw[dO];rw[ko,l (c0 ai)];{rw[cb k0 (R.d≠0),beS];rw[agr];have e:v R.d-1=ae tZ:=bt (ahA (VX k0));rw[J e (o2 k0 tZ)]}
theorem aZ':T.T_.Ok mg P w aj 2 (azP bI dJ):=by refine T.T_.go aUe aK;generalize aF=e3,az=A,aE=outer,aD=s,aB=H,aA=vs,aG=Q,aH=E;rw[aN,M oj,aX,RH,aw h dl c0 f7,fF,c _ (b6 (D gP apI bD bD) (adn bR bD arh) bD) J dx _ hd tU (f J R g ls h dl rfl ?_)];rw[dO];rw[ko,l (c0 ai)];{rw[beS];rw[agr];rw[bbx];rw[e];exact o2 ai jO}
theorem a0a:T.T8.Ok mg P w aj 1 (azQ bI dJ):=by refine T.T8.go aT' aK;generalize aF=e3,az=A,aE=outer,aD=s,aB=H,aA=vs,aG=Q,aH=E;rw[aN,M oj,aX,al J dx v D,aV q d3 k,w _ (ft (ea aq) Bb (fG (hA bD))) (eq 1) (fun g nc=>?_),cc (fq q nc),b J _ dx _ rfl (Y c q) gK T.TU (v (ax) cS (fun ls ns=>?_)),M d J ls (by rw[fw ak ns];cases ns),M r g ls (by rw[<-z,bW Xh,ak]at ns;cases ns),b J _ dx _ rfl (wv d) gK T.TV (a (vx ax) J _ dx _ rfl ak gK (aJ Ed (nw ax)))];rw[Me];have e1:H ls=ae:=by{rw[aG6,bW r.symm]at ns;exact ns};rw[au sb [J] (F (U (upd (ap g [v]) J (aI dJ (aL "cartoons" g []))) ls []) J (aI dJ bfx) J (aI dJ (g4 0))) (fun b o e m=>by rw[cb f7 (b≠J)];rw[bW f7,bW f7,bW (eo e1),bW f7,bW (eo nc)];exact e)];obtain⟨a,b2,X,G,rfl,j,_⟩:=d3;have l:oO [J] H:=fun b m O e=>ai;refine k _ g ls sb nc e1 (I dx ak (v uo ?_ (hw (a a b2 X G gM))) (pl ?_) r);{rw[bW Xh,bW Xh,bW r,bW Xh,ak]};{obtain⟨t,M⟩:=j.at_;rw[ku c5 j.p,h9 d8 j.l];obtain⟨b1,q3,_⟩:=j.m;have u:=qy M q (by rw[tP];injection z with _ _ z;rw[yY "width",am y_,ny]);have x:=bI d2 q;rw[g5 (bI q2 q)];have y:=bI q3 q;have k3:zg bI [J] H bc D:=f a b2 X G j ai ai ⟨ai,ai⟩;obtain⟨B,e7,i,I,d0,p,_⟩:=k3.sb sb l;cases d0;have f:∀{b:Addr}{o:HO},Pe->b≠J->b∉gm:=fun{b o}e n=>by{simp only[hH,oX,Du,aEg];exact v n (eo nc) (eo e1)};exact a (I t (sb _ _ M ag) (j.p.sb dk sb l ai) (j.l.sb iL sb l ai) (j.m.sb jt sb l ai)) (f M u) (f d2 x) (f q2 c1) (f q3 y)};{rw[aG6,aG6,ak]}
universe z
universe GA
namespace GA
open PySem PySem.Spec PyProof.Rows L2
variable{u CR:Addr}{H L:Hp}{J g ls:Addr}{R:GM.bT}
theorem RecAt.azT(h:nu){vs:af}{cs:bK U5}(p:G1 cs):dJ (ap g vs) (v cs mX R.d):=by have n:=Ot;rw[au sb gm (ap g vs) (hs (tw H) oq),JO,J6];have G:=h.nrc;exact dx (Y G.1 q) baV (y5 h.ne.symm)
theorem RecAt.sets(h:nu){vs:af}{ss:bK CK}(p:dD (mD gm H) vs ss):dJ (ap ls vs) (v pz ss R.d):=by have n:=Ot;rw[au sb gm (ap ls vs) (hs (tw H) Y_),JO,cG q2 f6 h.c];have G:=h.nrc;exact dx (Y G.2 q) (y5 ake) baV
theorem RecAt.live(h:nu){l:Addr}(m:l∈gm):H l≠ae:=an (by have⟨dx,q⟩:=mY;have⟨vs,d2,_⟩:=h.c;rw[bey,Br,apM,ay,dX,dX])
inductive azU(u CR:Addr)(vs:af)(H:Hp)(Q:VK)(E:XK):Prop|mk:dH x_ (o L AG (dJ L (v P5 tR R.d)) IY) (azU u CR vs H Q E)
def agv(u CR:Addr)(H L:Hp)(J:Addr)(R:GM.bT)(g ls:Addr)(x:Gla.Step)(b9:aQ):Prop:=match XH gc x with| .error none=>b9=[-2]/\Bf| .error (some e)=>b9=IS e/\Bf| .ok T=>mq (b9=[-3]/\Bf) (b9=[0]/\dJ L ZQ)
inductive azV(u CR:Addr)(vs:af)(H:Hp)(Q:VK)(E:XK):Prop|mk:∀(J:Addr)(R:GM.bT)(g ls:Addr)(a0:V)(x:Gla.Step),e [xn,a0] nu x_ (mD gm H a0 x) (Ii x->(KY (agv u CR H L J R g ls x b9))->azV u CR vs H Q E)
section z
theorem a0b:T.T9.Ok mg P w aj 2 (azU bI dJ):=by refine T.T9.go aUc aK;generalize aF=e3,az=A,aE=outer,aD=s,aB=H,aA=vs,aG=Q,aH=E;rw[aN,M oj,aX,RH,aV h Y k];have d8:=NP;rw[K (fG (F5 NX (ea vb apI bD) (c8 (Ch bO) (Ch bO)))) (qO (∃j,m=j-R.d/\R.d<=j/\j<=lI/\M=[ac J]/\AG/\oC (v (aFy (j+1)) (NQ j) R.d))) (f _ lI wR (a2 aY rfl (cG ei))) ?_,ds (DJ (x d8.l)) H9 h];rintro m M L⟨j,rfl,a3,a9,rfl,s,h'⟩;rw[cw hd h'.at_,bE d2 e9 h'.c,cG q2 f6 h'.s,ae a7 (t (NQ j)) j,ae d5 (t (aFy (j+1))) (j+1)];have O:=rh;rw[l5 _ (f g ls h' (aw ag))];rw[a7];rw[ko];{have C:R.d<j:=by{grind};rw[ca aaT];have b:K vs (iS-1) (vs[iS-1]'(ag)):=pN;rw[z J dx hd gK (KO b)];have b4:vs.dropLast=akr j:=by{rw[a59,O,d5];rfl};rw[b4];have V:=h'.azT (Eq (sF j e9));rw[au b5 gm (U L g (akr j)) (s.put oq),i L g (akr j) b7 V b5,kx d7 V.at_];obtain⟨Cp,q3,j0⟩:=V.s;rw[S a aFx j Ih a7];have d:K Cp (aFx-1) (Cp[aFx-1]'(ahT (a▸ff cS C) ahU)):=pN;rw[z J W d7 gK (cY q3 Cp q3 d)];have b9:Cp.dropLast=Cp.take (j-1):=by{rw[a59,a]};rw[b9];rw[b (j-1-R.d) (Nat.sub_lt_sub_right (VF C) (ahT (ff cS C) ahU)) (j-1) rfl (bn C (aS j 1)) (bV (qS j 1) a9) rfl (b5.put Y_) ?_];rw[l (j-1+1) j j 1 C j 1];exact(V.sets (Eq (sF (j-1) j0)))};rw[dX]
theorem azW:T.GV.Ok mg P w aj 11 (azV bI dJ):=by refine T.GV.go ae5 aK;generalize aF=e3,az=A,aE=outer,aD=s,aB=H,aA=vs,aG=Q,aH=E;rw[aN,M P7,aX,n J R g ls a0 x,cn Y c0 sa,a'3];have FV:∀{b:Addr},gu->b∉gm:=fun{b}e m=>by{have⟨vs,d2,_⟩:=h.c;rw[bey,Br,apM,ay,dX,dX]};rw[c _ (X ae5.nd (bh aZ7 apJ aq) (D yC av cu (is T.aVm)) (go ae5.nd apJ (ah (aj vc bO T.avz (is T.aVn)) (yy (dK T.T9.h a0b T.T9.b)) (a6 (dG bO av) (dG bO aq) (adn bR bD arh) am_)))) J dx _ hd tU (a J R g ls rfl h Y ?_)];rintro _⟨a,b2,X,G,rfl,j,c6,n1,n2,u⟩;rw[d a gc b2 X G a0 x (a j c0.nil DI.2 sa (fun v a8 a4 b8=>?_)),fK ux];unfold LU at b8;have c1:KY (match XH gc x with| .error none=>b9=[-2]/\oC R| .error (some e)=>b9=IS e/\oC R| .ok b6=>mq (b9=[-3]/\oC R) (b9=[0]/\oC (WE x b6))):=k;delta XH at c1;cases D:ajz gc x with|none=>{rw[D]at b8 c1;subst b8;refine ah (ax) (ff (c1 l _ [-2] (cG (gd xG)) (gY a5) ak (bd (akt xG))))}|some d=>rw[D]at b8 c1;simp only at c1;obtain⟨b6,B,e7,i,I,rfl,d',N,c9,g9,F,g4,h3,h6⟩:=b8;rw[bu];have⟨h4,Z⟩:=a3.at_;rw[b J h4 Z tU J R (f g ls a3 (aw Y))];rintro _⟨b,i2,h7,i7,rfl,M,_⟩;rw[d B b6 e7 i I _ (aa gc) (a d' (a b i2 h7 i7 (bd M)) N (sT (by cases z;exact DI.2)) aH_)];rw[c9]at p;rw[J1,ep (akt b5)];cases a7:zR d with|some e=>{rw[a7]at p c1;have⟨t,b0,d1⟩:=p;subst b0;rw[Q rfl _ e ⟨p,fun l d4 c8 d6 h2=>c1 l _ (IS e) (cG (IE c8)) (aFz d6) h2 (bd (XI c8))⟩]}|none=>rw[a7]at p c1;subst p;have c2:=g9 a7;subst c2;rw[bu];have⟨W,d7⟩:=a9.at_;rw[z J W d7 gK (v Ed zh Kc)];{rw[kt (ff (c1 l _ [-3] (cG (IE xG)) (aFz a5) ak ?_))];simp only;rw[J (aJ n_) ⟨fZ,XI xG⟩]};{rw[b J W d7 tU J R (N g ls a9 Y (fun d4 c8 e2=>?_))];have n:=L (cG i9) c8;have b4:zg bI gm b7 (.ref B) b6:=f B e7 i I (d'.mono b5) (FV F) bz ⟨bz,FV h6⟩;have⟨c4,c3⟩:=e2.at_;have⟨vs,d2,e9⟩:=e2.c;have i5:iS<=65537:=by{rw[rh];rw[eS];have:=NP;have:=aks;grind};rw[fa,z J c4 c3 gK (KO (gb i5))];have e5:=e2.azT (eL e9 (b4.sb c8 a9.nt));have k9:SB gm d4 (aV d4 g vs (.ref B)):=hs (tw d4) oq;have r:=(c0.sb n Ot).sb k9 e2.nt;have U:=tu k9;rw[e d4 g (vs++[.ref B]) e4 e5 r U];have⟨c5,c7⟩:=e5.at_;have⟨b1,q2,f6⟩:=e5.s;have d0:lD<=65536:=by{rw[N1];rw[eS];have:=aks;grind};rw[z J c5 c7 gK (cY q2 b1 q2 (gb d0))];have f:=e5.sets (eL f6 r);rw[au S gm (aV e4 ls b1 a0) (U.put Y_),i e4 ls (b1++[a0]) g6 f S];have⟨q,y⟩:=f.at_;rw[z J q y gK (n3 q y)];rw[agr];rw[bbx];show KR _ _ _ _;rw[e];have b3:=f.azK (dx:=q) jO;rw[au C gm (upd g6 J (.ins dJ q (g4 (ae jO)))) (S.put bJ),kt (ff (c1 l _ [0] (C.trans (cG xG)) ?_ ak ?_))];{cases O:H l with|none=>{rfl}|some o=>by_cases m:l∈gm;rw[cF a5 (b3.live m)];{rw[C l o O m]at a5;cases a5}};{simp only;rw[aO bL];exact⟨fZ,aE_ xG⟩}}
universe z
universe GA
namespace GA
open PySem PySem.Spec PyProof.Rows L2
noncomputable def UT(b:Gla.Bytes)(p:Nat):Nat:=rg (Ib b p 1) (Ib b (p+1) 1)
theorem azX{c:UInt8}{k:Nat}(c3:k<256)(e:eD=k):c=aiO k:=by apply aC';rw[e,aDa];exact bt (es c3)
theorem azY(b:Gla.Bytes)(p:Nat):aku b p=match b[p]? with|none=>aKn|some c=>E (4<eD) 5 p (cu eD (match b[p+1]? with|none=>aKn|some n=>E (QQ=ah) 5 (p+1) (E (cw<p+AX) 6 cw ae)) a9P):=by delta aku Gla.stepSize;cases b0:b[p]? with|none=>{rfl}|some c=>simp only;by_cases e5:4<eD;{rw[aJ e5];rw[fg ai,fg ai,fg ai,fg ai,fg ai]};{rw[aO e5];have cs:aMS:=by{rw[en]};delta UT;rw[(Ou b0)];rw[aMW];{have z:c=0:=azX ax e;rw[aJ z,aJ e,e];cases d1:b[p+1]? with|none=>{rfl}|some n=>simp only;cases hw:QQ with|false=>{rfl}|true=>rw[cO];simp only;rw[(Ou d1)];have b9:2+8*jH+12=14+8*jH:=by{simp+arith [*]};rw[b9];rfl};rw[ao3,ao3,ao3,ao3]}
inductive azZ(K:Fg)(vs:af)(H:Hp)(Q:VK)(E:XK):Prop|mk:na (A [cC] tL (x6 J9) (azZ K vs H Q E))
inductive az0(K:Fg)(vs:af)(H:Hp)(Q:VK)(E:XK):Prop|mk:mL (GM.yW b) (az0 K vs H Q E)
inductive a0c(b:Gla.Bytes)(p:Nat):Prop|mk:∀c:Ms,i aKl (eD<=4) (D3 aLG) alP
inductive agw(K:Fg)(vs:af)(H:Hp)(Q:VK)(E:XK):Prop|mk:oH (kp AX) (agw K vs H Q E)
inductive az1(K:Fg)(vs:af)(H:Hp)(Q:VK)(E:XK):Prop|mk:lM (gr (aku b p)) (az1 K vs H Q E)
inductive az2(K:Fg)(vs:af)(H:Hp)(Q:VK)(E:XK):Prop|mk:∀(l:Addr)(b:Gla.Bytes)(p:Nat)(n:UInt8),e [cC,jR] tL aLG (p<2^30) ((∀a i7 b8 L,j bP (L a=aa (.tup bcc)) (Y i7) (dB dG L i7 baf) (sC L b8 (aDD b (p+2+8*jH))) Pg)->az2 K vs H Q E)
def StF(H L:Hp)(v:V)(x:Gla.Step):Prop:=∀N:bg,V b N (H b≠ae)->mD N L v x
inductive az4(K:Fg)(vs:af)(H:Hp)(Q:VK)(E:XK):Prop|mk:oH (p<2^30) (ga (StF H L v alQ)->az4 K vs H Q E)
section z
theorem az5:T.awC.Ok P w aj 2 (azZ K):=by refine T.awC.go aUj aK;generalize aF=e3,az=A,aE=outer,aD=s,aB=H,aA=vs,aG=Q,aH=E;rw[aN,M fQ,aX,Fy,ds a5,cr (cl (cZ mi mi)) 8 4 (a l b 12 4 rfl jY ax (zb (k b7 eY)))]
theorem a0d:T.awB.Ok P w aj 3 (az0 K):=by refine T.awB.go aUi aK;generalize aF=e3,az=A,aE=outer,aD=s,aB=H,aA=vs,aG=Q,aH=E;rw[aN,M fQ,aX,Fy,ds a5,al (GJ T.avB) (KV (GT T.avA)) (aj vb (dK az5) T.avz uf) (D vb (cZ aml mi) nL (dP nL)) cu,d0 GM.yW,dl pX ?_];rw[dC];rw[ko,beP];{rw[ee n_,bhe,bhc];rw[g7]at a9⊢;intro o d0;rw[baF,Ir aIu];rw[GY];rw[gY aIu Ab Ab];generalize a70=b7 at b5;rw[b2 xl Ab];{rw[dH (D.mpr e)];rw[ee hV,y l b (WL a5) (fun d4 m=>?_)];have c8:=fi m;rw[bD a_U,e7 bdB (ax) (h0 (nf cm))];{rw[ee bdB,aR 4 4 (c8.seq a5) (fun e4 c9=>?_),aIc,n8 JC];rw[dC];refine fH (fun i0=>?_) (fun i0=>?_);{rw[fY n_,dl (.inl JC) aGG,J dC (aC (m_ cm) lU)]};{rw[ee n_];exact aC d9 rfl}}};{rw[ec (ah (e (D.mp q)))];rw[fY e,kt (h0 (fi cm))]}}
theorem az6:T.step_size.Ok P w aj 1 (agw K):=by refine T.step_size.go ae7 aK;generalize aF=e3,az=A,aE=outer,aD=s,aB=H,aA=vs,aG=Q,aH=E;rw[aN,M Ax,aX,RF];rintro rfl a5⟨c,b0,i0,d1⟩k;have nc:=Ou b0;rw[ca (X ae7.nd (avt K (GT T.aVp) Qt) (bm gP Qt (gi IQ) (eS 2 ae7.nd (ly F7 (gi WQ) (eS rC)))) (de av))];intro o d0;have g:∃z:Nat,K ([cp 14,cp 5,cp 11,cp 15,cp 3]:af) eD (vn z)/\(eD=0->z=14)/\(eD≠0->z=AX):=by{delta UT;rw[nc];have cs:aMS:=by{lia};rw[aMW]<;>rw[e];{simp};{simp};{simp};{simp};{simp}};obtain⟨z,d2,O,z1⟩:=g;rw[s l (vn eD) a5 aoz (E o z d0 (dZ d2) (E l eD a5 aoz gM))];rw[dO];rw[aoV];{rw[qP eD,bb9,s l (vn jH) a5 ?_ (pd yt gM),l (A7 j2)];{rw[d0 UT];rw[nc,d3,Ou j2]at k;rw[g5 (O d3)];subst c1;exact k}};rw[Z (z1 ai) k]
universe z
section z
theorem a0e:T.awE.Ok P w aj 2 (az1 K):=by refine T.awE.go au' aK;generalize aF=e3,az=A,aE=outer,aD=s,aB=H,aA=vs,aG=Q,aH=E;rw[aN,M Ax,aX,RF,ds a5,ca (X au'.nd (dP nL) (D vc aq nL av) (a6 (aj vb Qt T.afp (dP aq)) (ak gP Qt (gi IQ) (D vc rC nL av) (bx T.avx (eS rC) T.avy (dP rC))) (D vb (cZ aq (b5 az6 aq)) nL av) cu)),bs azY,dl pX aGG];rw[dC];rw[aj a4 (ad t ao2) cm,e b4 H t ao2 t ao2,iG (ad t ao2)];have a:GI a8 nG aKn:=aP t b4;rw[n8 jY];rw[dC];rw[ko];{rw[bs (zI (x (aDe c)))];exact p7 a};have lt:p<cw:=by{rw[fy (aDf c)]};have b0:=da lt;generalize b[p]=C at b0;rw[bs b0,amb,bT aoz,ah l jY m a_V,e7 n_ et (m6 bcZ)];have d':¬4<aFA:=by{rw[fU]};rw[ee d'];have last:alP->gr a9P->∀M:H8,i (K M 0 tV) (K M 1 (bI p)) (K M 2 (ac t)) (R_ (vd (BG a9E (BG (p9 (i+j)) (hr 1) (F8 (agw K) [] E0 (qB (hr 0) (hZ (hr 1))))) (KU (KZ K) (hZ (hr 0))))) (R9 (hr 2)) ac' {nx:=R9 (tC .bC) a7e,rt:=Q} M a8):=fun c3 B M b1 a3 a9=>by{delta R_ vd BG F8 KU qB sh;refine wY a3 (wY b1 (wY a3 (m l b p (v jY c3 (wY b1 (f l _ (.inl jY) ?_))))));rw[dC];rw[aoV];{have d3:cw<p+AX:=by{rw[fU]};rw[aJ d3]at B;delta R9;exact wY a9 (B _ _ a4 a)};{have d3:¬cw<p+AX:=by{rw[fU]};rw[bj d3]at B;exact B _ _ a4 rfl}};rw[ah l jY m gM];rw[dO];rw[aoV];{rw[qP aFA,fY d3,n8 jY];rw[dC];rw[a_2];{have I:cw<=p+1:=by{rw[fU]};rw[bs (zI I)];exact p7 a};have I:p+1<cw:=by{rw[fU]};have d1:=da I;generalize b[p+1]=n at d1;rw[bs d1,amb,ad r (BI kJ (v p+1)) (vn jH) (A7 d1),ah l jY r Pk];have o:QQ=ah->E u (gE u) (Q (.ref u) (upd a8 u (he 5 (v p+1)))):=fun z u hu=>by{rw[fY z];exact bcZ};rw[aoW];{rw[i_ (! bi (v jH) 64)];refine fH (fun g8=>?_) (fun g8=>?_);{have z:QQ=ah:=by{delta jJ;simp at g g8⊢;lia};exact⟨et,bdI⟩};{have z:QQ=ab:=by{delta jJ;simp at g g8⊢;rw[ue]};rw[ee (axi z),P9];rw[BD];refine Dx (d C b0 ag (as ⟨n,d1⟩)) k _ ?_ ?_ ?_<;>rfl}};{have z:QQ=ah:=by{delta jJ;simp at g⊢;grind};exact⟨et,bdI⟩}};{rw[zA aFA,ee d3,P9];rw[BD];refine Dx (d C b0 (j9 d') (J (cy z d3))) k _ ?_ ?_ ?_<;>rfl}
theorem a0f:T.awF.Ok P w aj 4 (az2 K):=by refine T.awF.go aUk aK;generalize aF=e3,az=A,aE=outer,aD=s,aB=H,aA=vs,aG=Q,aH=E;rw[aN,M oj,aX,al l b p n,aw a5 d1 c2 k];have v3:=n.toNat_lt;rw[fa,fc (X akv rC (bU 3 akv (cY av WQ (eS rC))) (bo (d akv 4 (e8 av bb (gi WQ)) (ck "at" 5) (cj 5 akv) kO (bC (b5 Uj cJ))) (cp (gi IQ) bQ (b5 afz bb)))) (E l jH a5 (A7 d1) (b _ _ rfl rfl yt _ _ (as rfl (b3 (p+2) jH 8 aT) (fun Z f=>axk (n:=jH) dk (dJ (aa (ai9 b (p+2+8*i)))) f (eM v3 fy) ?_ ?_)))),cd j2 (p+2+8*i) (zL a5) bhn];intro a8 c5 a4 b4 e9;rw[eV e9,nf (p+2+8*jH) (fun b8 b7 b5 r2=>?_)];{rfl};rw[v (ym) (fun a b3=>?_)];have g9:dB dG a8 Z baf:=v c5 b4 e9;exact k a Z b8 _ (dP eY b3) ak f (g9.mono dk (fi (bZ b3))) a_v
theorem a0g:T.step_at.Ok P w aj 5 (az4 K):=by refine T.step_at.go ae8 aK;generalize aF=e3,az=A,aE=outer,aD=s,aB=H,aA=vs,aG=Q,aH=E;rw[aN,M Ax,aX,RF];rintro rfl a5⟨c,b0,i0,d1⟩c2 k;rw[d _ (X ae8.nd Qt (aj gP av IQ (b5 a0f aq)) (i 3 ae8.nd Qr (fq T.LL T.LL Qr) (bZ (fq T.LM T.LM (b5 Uj rC)) (fq XG XG (b5 afz rC)) (as (gi T.afp) bb)))) l _ _ (vn eD) rfl (aJ a5 aoz),d0 a5_,amb,bs (Ou b0),bu];rw[dO];rw[aoV];{rw[qP eD,bb9];rw[aJ d3,Ou j2]at k;rw[b l b p n rfl a5 j2 c2 (fun a i7 b8 L s d0 c4 D c1=>k _ L s (mW (m a i7 b8 (d d0 D c1 (bo (hN i7 m c4))))))]};rw[ee ai,f1 (p+1) a5 aJZ];{rfl};rw[bu];rw[dO];rw[a_2];{rw[fY bz,f1 (p+3) jY (fun b7 b5=>?_)];{rfl};exact zQ (aP a ak)};rw[ee bz,bu];rw[dO];rw[aoW];{rw[fY bz,nf (p+3) a8B];{rfl};exact zQ (f a v ak (hK (GH b3) r2))};rw[ee bz,bu];rw[dO];rw[aoW];{rw[fY bz,nf (p+3) a8B,dX];exact zQ (f a v ak a_v)};rw[ee bz];exact m0 (fun a b3=>aC (lD b3) (mW (aP a ak)))
universe z
inductive agx(C:Addr)(H L:Hp)(v:V)(r:Gla.Plan):Prop|mk:∀a b2 X G,b v bc (g6 L r) (Y a) (Y b2) (Y X->Y G->agx C H L v r)
inductive az7(K:Fg)(C:Addr)(vs:af)(H:Hp)(Q:VK)(E:XK):Prop|mk:na (e [cC] tL (Kz (akw b)) (∀r a y L,b (akw b) (.ok r) bP (L a=aa (cR .bC y)) (agx C H L y r) Pg) (az7 K C vs H Q E))
theorem fW.sb{K:Fg}{N:bg}{H L:Hp}{l:Addr}{O:af}(h:ij O)(s:uF)(m:l∉N):fW K L l O:=rc (d3 h m) (d3 h m)
theorem az8{K:Fg}{H:Hp}{a:Addr}{ns:aQ}(h:mH xO):ct bc aGX:= .lst h (afA ns)
theorem a0h(ns d8:aQ):jy aGX (.list (HV aDE))=ar ns d8:=t jy (afB ns d8)
theorem az9(ns:aQ):iJ aGX:=Is (aDF ns)
noncomputable def Mf(b:Gla.Bytes)(r:Gla.Plan)(p:Nat):bY Mr:=match a5' b J9 r p with| .error e=>rH| .ok (_,q)=>E (q<cw) 8 q ae
inductive az_(K:Fg)(u CR:Addr)(vs:af)(H:Hp)(Q:VK)(E:XK):Prop|mk:∀(J l:Addr)(b:Gla.Bytes)(p:Nat)(r:Gla.Plan)(g ls:Addr),e [.ref J,cC,jR] (dJ H (kG r)) (xb r) tL (c (l∉gm) aHH (p<100000) (J9<=65536) ((∀e v L,i (Mf b r p=aa e) AG (GI L v rH) (Q v L))->(∀R q L,c (GM.vp b J9 r p J9 R q) (¬q<cw) AG Bf IY)->az_ K u CR vs H Q E))
section z
theorem az':T.awb.Ok P w aj 10 (az7 K bI):=by refine T.awb.go TF aK;generalize aF=e3,az=A,aE=outer,aD=s,aB=H,aA=vs,aG=Q,aH=E;rw[aN,M fQ,aX,Fy,aV a5 c0 f7,ca (L TF.nd (dK aV7) aIA (i 2 TF.nd (dK aV9) (bU 1 TF.nd (bh azp av cu)) (bo aIA (as cu av))))];rw[GM.auQ]at c0 f7;rw[y l b a5 aIH];cases b4:NY b with|some e=>{rw[b4]at g4 c0;rw[n9 g4,xV,eZ rfl (gd cm) g4]}|none=>rw[b4]at g4 c0 f7;simp only at c0 f7;subst g4;rw[Q rfl l b (v jY b4 (fun a b2 X G b7 b5 c7 b0 a0 d6 d1=>b a (DM b) b2 X G ae rfl (aC c7 (GM.auP b) (sT (YF)) (fun v d4 c8 h6=>?_))))];have n:=L eY c8;cases e7:zR (DM b)with|some e=>{rw[e7]at h6 c0;have⟨u,d0,b3⟩:=h6;rw[xV,eZ rfl (tu cm) h6]}|none=>rw[e7]at h6 f7;subst h6;refine ah et (fj (f7 _ t _ _ rfl (tu cm) ak (f a b2 X G (bN (c7.mono c8) cm) (gY b0) (gY a0) ⟨gY d6,gY d1⟩)))
theorem a0i:T.awD.Ok P w aj 12 (az_ K bI dJ):=by refine T.awD.go TK aK;generalize aF=e3,az=A,aE=outer,aD=s,aB=H,aA=vs,aG=Q,aH=E;rw[aN,M oi,aX];generalize kU=J,kW=l,kY=b,kZ=f,k_=r,lg=g,ll=ls;rintro rfl h C a5 d6 U j a7 c0 f7;rw[ca (b6 (mC (oA (km az5)) (sI 3 TK.nd) (i 4 TK.nd (bh a0e aq av) (dS bQ bQ) (c8 (D al0 (jo bR gK T.GV.h (eD azW) a6 T.GV.b .nil fu (d_ (bh a0g aq av))) am_ (dP av)) (eS 2 TK.nd (bh az6 aq av))))) (D lz av (dO aq) (dP av)) cu)];generalize hN:J9=N at*;rw[y l b a5 aJZ];rw[hN];rw[aP (v N) rfl aT (x (nE a7))];rw[iU];rw[fG N (fo (GK (fun(p:Nat)(R:aDm)(j8 b1:bY V)=>GJ (M=[ac J,tV,bI p,j8,b1]) AG (oC R) (GM.vp b N r f i R p) (p<100000)))) (f f _ ae ae (cG a4) ux (GM.aSE C f) j)];{refine Ax;rw[co i M L];rintro hi⟨p,R,j8,b1,rfl,s,hR,I,c2⟩;have h1:=zq s;rw[Q l b p ⟨h1,fun v b7 b5 h3=>?_⟩,cN (ir (cG b5))];have X:=akx b5;cases c9:aku b p with|some e=>{rw[c9]at h3;rw[n9 h3,xV,v rfl (c0 e _ _ ?_ q h3)];delta Mf;rw[hN,I.fail hi c9]}|none=>rw[c9]at h3;subst h3;rw[bu];have⟨c,b0,i0,k⟩:=GM.aeQ c9;have kd:alP:=d c b0 i0 (J (let⟨n,d1,_⟩:=k z;⟨n,d1⟩));have⟨W,d7⟩:=X.at_;rw[b J W d7 tU l b (c p rfl (WL h1) kd (x (fJ c2 tF)) (fun a0 d4 c8 d2=>?_))];have sa:=GM.auN c9;rw[g J R g ls a0 alQ (X.mono c8) (d Vc (d2 _ (fun x m=>X.live m)) sa (fun F e4 b9 d9 O Z D=>?_)),v (eq 1) (fun j7 k0=>?_),T f9 e4 (U e4 j7 hg) k0];have B:=bX (VT (cG c8)) d9 (cG f9);rw[a c1 e4 j7 hg j7 hg];have d:=hF Z;generalize U e4 j7 hg=g6 at f9 B c1 d;rw[K _ (az8 (au d)) (az8 (ns:=[0]) (au c1)) (aJ (az9 _) (az9 _))];rw[a0h];have b8:=GM.Ts I.ok.cur.2 sa.ok;have f6:(bdu)->E t (g6 t=ae) (Q nG (upd g6 t (ee 7 jR))):=fun c5 t c6=>by{refine oZ 7 (B.trans (cG cm));delta Mf;rw[hN,I.no hi c9 c5]};unfold agv at D;cases g9:XH gc alQ with|error y=>{have c5:bdu:=fun b6 z=>ai;rw[ec (by cases y with|none=>{rw[g9]at D;rw[D.1];decide}|some e=>rw[g9]at D;rw[D.1];delta IS;rw[tP];cases z)];exact m0 (fj (f6 c5 t c6))}|ok b6=>rw[g9]at D;simp only at D;rw[z BO (b2 R.d) I.d pU];rw[bj ag]at D;obtain⟨rfl,o⟩:=D;rw[dH rfl];have Y:=My a7 hi c9 (T:=b6) aIS;rw[b l b p rfl (zq B) kd _ _ (ii ?_),bN a3 (GM.LB b p) AX (GM.aSD c9)];rw[a3]at Y;rw[b (p+AX) _ (aa (cp (0+xy))) al2 rfl B (o.mono f9) Y ?_];{have:p+AX<=cw:=by{have z:=c9;rw[azY,b0]at z;simp only at z;rw[bj ag]at z;rw[d9 u eD];{rw[fU]};rw[ay]};exact Rj}};{refine fQ;rw[X4];rintro⟨p,R,j8,b1,rfl,s,hR,I,c2⟩;rw[n8 (zq s)];rw[dC];rw[ko];{rw[v et (fj (oZ 8 (ir (cG cm))))];delta Mf;rw[hN,I.done];simp only;rw[aJ (x (By c))]};rw[l (f7 R p L I (fZ (gy z (Bz c))) s hR)]}
universe z
theorem a0j{I:Type}{R:kk}{K:Fg}{l d:Addr}{j o:Nat}{b:L2.St}{G H:Hp}(A:∀L v a,cY G L->R G v a->R L v a){D:Ends}{Y:ba}(f:I->aDN){B:Gla.Bytes}{e8:Sp}(a5:a'')(nd:G d=ae)(s:cY G H)(hd:am d (bV B))(c9:bcV)(b1:b=ajj j ae)(c:bdU)(e:bab)(C:biV)(k:bgY):biO:=Lo (A _ _ _ a4 J)
inductive aAa(vs:af)(H:Hp)(Q:VK)(E:XK):Prop|mk:∀(v:V)(x:Gla.Step),e [v] (mD [] H v x) (GM.aeN x) (mp (aky x)) (aAa vs H Q E)
theorem bj8(c:UInt8)(b:Gla.Bytes):bV (c::b)=vn eD::kJ:=rfl
section z
theorem a0k:T.awz.Ok P w aj 4 aAa:=by refine T.awz.go ae6 aK;generalize aF=e3,az=A,aE=outer,aD=s,aB=H,aA=vs,aG=Q,aH=E;rw[aN,M fQ,aX,bW v x,aV c0 W k,Bx,bho];have R:∀p,t (bV (rf p))=8:=bn bH;have D:∀m,t (bV (Ic m))=12:=bo bH;rw[ca (L ae6.nd (ea kL) (sg (ea gP kL (gi IQ)) (bZ (dG aq (dO kL)) (bd kL 2 ae6.nd (eJ aq (a7 Uk av))) (kd aq afD)) BE) (ah (eJ aq ana) (m0 T.LL Ui) (bZ (m0 T.LM Uk) (m0 XG afD) aq)))];cases x with|lead row m=>{rw[qU a b3,b7 a3 a7 I];obtain⟨⟨r2,c,d1⟩,h5⟩:=W;rw[aaZ,aj a4 (ap d hg) xw,ar b4 H hg hg,iG (ap d hg),CN (a (cx OF) dr i7 _ rfl (ce (di a3)) d _ (f _ rfl b4 (aw (bB))))];have f5:(anf++[g0 kB])=aaw:=by{rw[akm];show [cp 0,g0 fh]=hG 0 (zh fh);have:zh fh=fh:=by{simp[*];exact cU c};rw[od];rfl};rw[f5];rw[aj b5 (U a8 d aaw) (go a4),ar b9 a8 aaw aaw,i a8 d aaw b7 b5 b9,py (aFB rf) fh,ab N (bb').length 2,da a (gS b3) (bj i7 (dD c5 (gS a3)) (Uo (j:=2) (o:=1) dk rf (a6a (v c5 a3 a7)) nd b5 b9 n_ rfl kX kX (fun x p L h4 Z O J B=>N x p J.px (d1 p Z) B) (fun j8 d4 c8 e7=>as a (dn b3) rJ (N b8 m (tp c8) h5 (vy (by rw[dC,cj,d2,N,D];rw[kb])))))),Ri,cd F (bb'++aFB rf++Ic m) (aky Ro)];rw[F]}|erase i j=>{rw[ak rfl b3 c0,aaZ,tf 1,lF 1 1,s4 1,ve W.1,lB 1 (dC 1)];rw[f5];rw[va (dC 1),ar e7 b7 (dC 1) (dC 1),g4 d (dC 1),CS (f rJ j W.2 (vy bz)),Ri];rfl}|move i p=>{rw[y u rfl b3 c2 c0,aaZ,tf 2,lF 2 2,s4 2,ve W.1,lB 2 (dC 2)];rw[f5];rw[va (dC 2),ar e7 b7 (dC 2) (dC 2),g4 d (dC 2),A0 (a X5 rJ u p rfl (bK c8 c2).px W.2 (vy bz)),Ri];rfl}|mark i m=>{rw[y b8 rfl b3 c4 c0,aaZ,tf 3,lF 3 3,s4 3,ve W.1,lB 3 (dC 3)];rw[f5];rw[va (dC 3),ar e7 b7 (dC 3) (dC 3),g4 d (dC 3),A0 (b X5 dg rfl a _ _ rfl (a rfl X5 rJ b8 m rfl (tp c8) W.2 (vy bz))),Ri];rfl}|drop i=>rw[ak rfl b3 c0,aaZ,tf 4,lF 4 4,s4 4,ve W,lB 4 (dC 4)];rw[f5];rw[va (dC 4),ar e7 b7 (dC 4) (dC 4),g4 d (dC 4),A0 (ce X5 dg (k d _ c8 nd e7))]
universe z
inductive aAb(u CR:Addr)(vs:af)(H:Hp)(Q:VK)(E:XK):Prop|mk:dH x_ (a1 (t Qc)) (mp Qc->aAb u CR vs H Q E)
section z
theorem a0l:T.awy.Ok P w aj 5 (aAb bI dJ):=by refine T.awy.go aUg aK;generalize aF=e3,az=A,aE=outer,aD=s,aB=H,aA=vs,aG=Q,aH=E;rw[aN,M oj,aX,RH,aw h Y c9 k,fa,fF,Ra,J6,c7 aC8];obtain⟨j,e5,y,b2,X,G,l,f,_⟩:=mA e9 e.1;subst l;have e8:=e.2.GB;have q1:=GM.aeB tp;have dl:=wR;have few:=aks;rw[bV (L akz (a7 axp (f7 bD)) (bU 2 akz (uW (GT T.avA))) (a6 (an (adh (cp (dO aq) bO apI)) 3 akz (eJ av (a7 LP bb))) (eJ av aq) (an pP 4 akz (eJ av (a7 a0k bQ))) av)) J (b hd gK T.TU ags g _ Aw (a rfl rfl (au d2) (dZ (j:=0) e5) y tp b2 X (aC G f e.2.fits (pr (Ed (fun d c=>?_))))))];have nd:=gY c;rw[ab m8 (re 72:af) P8];rw[m8];rw[aj b5 (U a8 d P8) (lD c),ar b9 a8 P8 P8];have c5:=bZ (o:= .lst P8) c _ _ b4;rw[cj k2 d a7,e a8 d P8 b7 b5 b9 c5];have a9:=gh b5;rw[kx d7 a9.at_,b a7 _ rfl (ce c5) J _ W _ (i d7 gK Ed zh J W (i d7 tU J R g ls (a rfl a9 dl (ym) Zp)))];rw[dC];let b:ao:=[t (N0 tp),R.d,ug];rw[e c3 b7 t aG5 t aG5];have q:=fq b9 h7;rw[bD t (aW (cx c3)) (co (wW vn) (fo (GJ (∃v,M=[ac J,ac a7,rE,v,ae]) bP (L t=aa aG5) (aj a7 (bV (N0 tp))) (oF Ab 4))) (a qn (fi (bZ h7)) c3 (cp h7 c5) ?_) z.3)];{rw[bW q];simpa using b9};{rintro i x M L S⟨⟨v,rfl⟩,f9,i2,j1,j2⟩;obtain⟨n,rfl,b0,d1⟩:∃n:Nat,x=jj/\A b n/\bk n:=by{rw[gA S,a3 n b0 S,bD n b0 ?_];have:=bM b0;rw[hH b];lia};rw[y (dq j2) n d1 (fun i1 d4 m u e7=>?_),F5 b0,n d i1 (m _ _ j2) e7 (a ?_ ek (go (mZ m)) ?_ (aw ?_))];{rw[dC,dC,cj,oz 4 4,pB,eS];rw[bfN];have:Gla.SAVED.length=4:=rfl;lia};rw[gU zD (m _ _ i2),gU k2.symm (m _ _ j1)];{rw[ak,<-qK,dv,g9,zP,ajl]}};rintro M g6⟨⟨v,rfl⟩,f9,i2,j1,j2⟩;have j2:b7 (g6 d) (bV (Ab++ak6)):=j2;rw[cd r (t (Ab++ak6)) 16,c (dq j2) d a7 _ _ rfl j2 (aJ j1 (by rw[dC,dC,r,q1];lia))];rw[<-qK];rw[aj h1 (U g6 d ao1) (go f9),ar j9 g6 ao1 ao1,i g6 d ao1 h5 h1 j9];have D:Ab++ak6++N0 tp++R.ss.flatMap aky=Qc:=by{delta a6c;rw[R.all,Y.aeP,Y.auJ];simp[b,dv]};obtain⟨F,I⟩:=(gh h1).at_;rw[z J F I gK (u T.TV agt ls (dD b1 (iW q2)) (a0j (R:=mD gm) (j:=4) (o:=2) (G:=H) (fun L v a s z=>a6b (cG s) Ot) aky (v b1 (au q2) f6) nd h1 j9 aGU rfl kX kX (fun x p L h4 Z O C B=>N x p C.nil (aiL p Z) B) bhE))];rw[j8,D]
universe z
inductive aAc(u CR:Addr)(vs:af)(H:Hp)(Q:VK)(E:XK):Prop|mk:na (e [cC] (am l kJ) aHH (Kz (akA b)) ((∀R a J g ls L,b (akA b) (.ok wU) x_ bP (L a=aa (cR .bC (.ref J))) (c Bf (Y J) (Y g) (Y ls) Pg))->aAc u CR vs H Q E))
section z
theorem a0m:T.awA.Ok P w aj 13 (aAc bI dJ):=by refine T.awA.go aUh aK;generalize aF=e3,az=A,aE=outer,aD=s,aB=H,aA=vs,aG=Q,aH=E;rw[aN,M fQ,aX,Fy,aw Z U c0 f7];have a5:tL:=au Z;rw[K (L Ov (dK a0d) aIA (i 2 Ov (cZ aml mi) (bU 3 Ov (a7 az' (ld aml av))) (ah (dS yc (as (dP (cZ aml (dh yc))) cu)) (bU 4 Ov (Co yc)) (i 1 Ov (Z a0i bQ bR av) (dS aq (as aq cu)) (bo (an (oA mi) 5 Ov (yy (Sk bQ gK T.GW.h (eD azS) a6 T.GW.b .nil fu))) (as cu bQ)))))) l b (ah a5 aIH)];cases b4:GM.yW b with|some e=>{rw[b4]at g4;rw[n9 g4,xV,eZ (GM.aSG b4) (gd cm) g4]}|none=>rw[b4]at g4;subst g4;rw[bu];have⟨⟨a7,a9⟩,C⟩:=GM.auO b4;rw[aR 4 4 jY (fun b7 r2=>?_),oW r2,cd b8 aKU (ae (16+xD)),dl (WL a5) J4,aj c8 (U b7 d (jq kJ (gP 16) (aa aKU))) (fi xw),y d (yA xD) (au (vM (by rw[b8];have:=afy b 16 (16+xD);rw[am (hx (16+xD-16) xD)];exact this))) ⟨fun e a x e4 m c9 d0 n=>?_,fun r a y e4 m c9 d0 J=>?_⟩];{rw[he n,rK,wC (bh dg u (cx hu) (v dr et (fun W k1=>⟨et,fun d8 c7=>c0 a92 d8 _ _ ag (dP (dP (nf c9) k1) c7) ak (aP W ?_)⟩)))];rw[bW (J (by rw[fw ak c7];cases c7)),ak];rfl};{rw[aIc,wC (aw dr),mw dx,aM8,P sm e4 (cy e4 dx (aI dJ [])) Py,ct dx r (j.mono sm) bh7];have S:=m_ (FW fS);have c1:=sm.free b9;have c3:=sm.free e1;have d4:=fH Z;rw[b x l b (16+xD) r g ls ?_ (a b6 (GM.auR m) (au (S _ _ Z)) ?_ U aKv a7 (fun e v h5 p O f6=>?_) (fun R q h5 I d2 O hR=>?_)),ay];{rw[kb]};{rw[bhB,he f6,rK,eZ ?_ (zO cm) f6];rw[C,m];unfold Mf at p;simp only;cases c4:a5' b J9 r (16+xD)with|error d3=>{simp_all}|ok z=>have⟨z1,h6⟩:=z;rw[c4]at p;simp only at p⊢;split at p;rw[ay,cX]};{rw[bhB,c rfl l b 12 4 (h1.seq a5) ax (fun h9 b1=>?_)];have⟨N,Y⟩:=I.got b4 m d2;have Id:=I.d;rw[hN I.l];have F:=aji b 12 4;rw[show cf 256^4=4294967296 by decide]at F;rw[aP (ae akW) rfl aT (w2 F)];rw[iU];rw[fG akW (bi (∃i1,M=[tV,al2,aa (cp aKU),kN,ac x,i1]) (SB [x,g,ls] h9 L) (aFC bI dJ L x (iq (R.d-i)) g ls)) (v qn (cG ei) (akx b1))];{rintro i M i3 hi⟨⟨i1,rfl⟩,d6,k⟩;have⟨A5,p1⟩:=k.at_;rw[b x A5 p1 tU x _ (N g ls k pH (fun _ i7 i4 D=>?_)),dX];{rw[ak ek (xf i4)];have:R.d-jd=R.d-i-1:=bH;rw[J this D]}};{rw[bK i3 i1 d6 k,ae a3 (R.d-akW) XU,bs a3,gc c5 i3 (d6 c o ((zO b1) c o z) fS),v et (fj (f7 (iq XU) t x g ls _ N Y (c5.trans cm) ak (k.mono cm) (WN nx) (WN c1) (WN c3)))]}}}
universe z
def BlV:Rl cb:=fun _ v b=>v=EZ
theorem a0n:lB BlV:=aoR
theorem aAe{H:Hp}{vs:af}{bs:EU}(h:dD (BlV H) vs bs):vs=Vz CV:=a9I
theorem UU(ns:ao)(p q:Nat):cr ji p q=bh (an (ns.drop p) (q-p)):=cz afx Ds Dt
theorem all_map(f:uA)(ns:ao):eD (wK f) id=ns.all f:=aT
inductive aAf(K:Fg)(vs:af)(H:Hp)(Q:VK)(E:XK):Prop|mk:∀(l:Addr)(ns:ao),e [cC] (ij ji) (zr<hC) (ti (ns.all Za)) (aAf K vs H Q E)
inductive aAg(K:Fg)(vs:af)(H:Hp)(Q:VK)(E:XK):Prop|mk:ra (ti (bap&&(nA g&&nA q))) (aAg K vs H Q E)
inductive aAh(K:Fg)(vs:af)(H:Hp)(Q:VK)(E:XK):Prop|mk:ra (ga (sC L v (v ⟨x,y⟩ g q))) (aAh K vs H Q E)
noncomputable def agy(row:ej):ao:=a_A
theorem agz(row:ej):t JE=2*fh:=by induction row with|nil=>{rfl}|cons a J d6=>unfold agy at d6⊢;rw[pq,cj,d6];simp;simp+arith [*]
theorem aAi:∀(row:ej)(i:Nat)(p:Pt),A row p->ap JE (2*i) p.x/\ap JE (2*i+1) p.y|[],i,p,h=>bB|a::J,0,p,h=>by{rw[cH];exact xJ}|a::J,i+1,p,h=>x (aAi J i p bB)
theorem aAj{I:Type}(l:ba):∀k,i_ k (dJ l[i]?)=Hd k|0=>rfl|k+1=>by rw[ajw,aiS,aAj l k,DV];rw[dY]
inductive aAk(K:Fg)(vs:af)(H:Hp)(Q:VK)(E:XK):Prop|mk:∀(l:Addr)(row:ej),e [cC] (ij (bh JE)) (fh<100000) (bA d (Y d) (dB dG L d row) nJ) (aAk K vs H Q E)
inductive aAl(K:Fg)(vs:af)(H:Hp)(Q:VK)(E:XK):Prop|mk:na (e [cC] (am l kJ) (cw<hC) (bA d (Y d) (aj d (B (ks (Ow b)::Ow b) cp)) nJ) (aAl K vs H Q E))
inductive aAm(u CR:Addr)(vs:af)(H:Hp)(Q:VK)(E:XK):Prop|mk:∀(J:Addr)(R:GM.bT)(g ls:Addr)(n:Nat),e [xn,jj] nu x_ (kp bfG) (aAm u CR vs H Q E)
section z
theorem UW:T.awG.Ok P w aj 1 (aAf K):=by refine T.awG.go ae_ aK;generalize aF=e3,az=A,aE=outer,aD=s,aB=H,aA=vs,aG=Q,aH=E;rw[aN,M fQ,aX,bW l ns,aV a5 c9 k,K (cl (a7 ae_.nd bR "length" ae_.nd T.aVE)) l rfl ⟨aW a5,fun Z f=>gJ (aw a5 (auW ns)) (mP n) c9⟩,Lk x,apU,eV e9];have c3:=aAe e9;rw[j_,bA Z b4 ?_,J all_map (k a8 a4)]
theorem agA:T.awH.Ok P w aj 2 (aAg K):=by refine T.awH.go ae' aK;generalize aF=e3,az=A,aE=outer,aD=s,aB=H,aA=vs,aG=Q,aH=E;rw[aN,M iA,aX,L l x y g q,ds a5,cl (cl (BC (a7 UW (r3 bR)) (R4 (a7 ae'.nd (r3 bR) "number" ae'.nd T.aVF)))) a5 J4,y d Jp (dL PB 0 2) ⟨aJ4,fun b7 r2=>Pk⟩,hz (IL PB),aS f5 ((Jp).all Za) bap];rw[f5];rw[ko];{rw[qz c,a9y];have e7:O b7 c7 (lb PB 4) c7 (jH [g,q]):=vM (UU PB 2 4);rw[a9 c7 e7 (fun Z f=>gJ (ce e7 (auW [g,q])) (nA n) aJ4),Lk z,bbV,eV e2];have c3:=aAe e2;rw[j_,bA Z g5 ?_];rw[all_map];rw[aS i2 ([g,q].all (ed (nA n))) (nA g&&nA q),J i2 (k e4 (L (fi (ac (lb PB 4) Y)) d9))]};rw[ay]
theorem agB:T.awJ.Ok P w aj 1 (aAh K):=by refine T.awJ.go aUp aK;generalize aF=e3,az=A,aE=outer,aD=s,aB=H,aA=vs,aG=Q,aH=E;rw[aN,M iA,aX,L l x y g q,ds a5,d _ (cl (KS (vy (eS bD) (eS bD) (eS bD) (eS bD)))) l _ _ _ rfl (w a5 dr l _ (w a5 dg l _ (w a5 rJ l _ (d a5 (oE 3) (eq 4) (h0 cm)))))]
theorem a0o:T.awK.Ok P w aj 1 (aAk K):=by refine T.awK.go afa aK;generalize aF=e3,az=A,aE=outer,aD=s,aB=H,aA=vs,aG=Q,aH=E;rw[aN,M fQ,aX,bW l row,aV a5 c9 k,fa,cl (cl (BK rfl afa.nd (e8 bD nL bD) (ck "at" 1) (cj 1 afa.nd) kO (bC (as (eS rC) Qt)))) pX ?_];rw[bA,agz];rw[K _ _ _ (v ?_ (axm (lo:=0) (n:=fh) (c:=2) aT (eM c9 c9)) (fun Z f=>?_))];{simp};refine as fh dk row[i]? f c9;{intro i L h4 N hi s b6 j2;have c2:=pQ;rw[f3 (aAi row i _ c2),iu (E l row[i].y (zL a5) ?_ (E l row[i].x (zL a5) ?_ a'6)),l (aFD (j:=2*i+1) OL ag),l (aFD (j:=2*i) OL ag),l (ab _ c2 cm lU)]};rw[apU];refine k Z a8 a4 f (aJ d7 b4);have c4:i_ fh (dJ row[i]?)=row:=by{rw[aAj,H9]};rw[c4]at e9;exact e9
theorem aAn:T.awO.Ok P w aj 1 (aAl K):=by refine T.awO.go aUt aK;generalize aF=e3,az=A,aE=outer,aD=s,aB=H,aA=vs,aG=Q,aH=E;rw[aN,M fQ,aX,Fy,aV a5 c9 k,e _ (cl (em (ea nL) bR)) l _ rfl (ce a5) (ET) (fun t c6=>?_)];have a4:=ac [g0 (t kJ)] c6;rw[n t l ak (di a5) ⟨by rw[dC];show a1 (1+cw);exact cU c9,fun d nd=>k d _ (gd xw) (gY nd) ?_⟩];rw[ak,dC];have:t (Ow b)=cw:=cG Ow (bA _);rw[this,axh];rfl
theorem a0p:T.awN.Ok P w aj 2 (aAm bI dJ):=by refine T.awN.go aUs aK;generalize aF=e3,az=A,aE=outer,aD=s,aB=H,aA=vs,aG=Q,aH=E;rw[aN,M iA,aX,L J R g ls n,aV h Y k,fF,ra (b6 (fe T.aVz bO) (fe T.aVA apI) (dO (GS K apJ)))];rw[dO];rw[ko];{rw[fY (show n=0 by simp at c;omega)];exact GZ (v Ed zh k)};rw[ee (show¬n=0 by simp at c;omega),bu];rw[dO];rw[aJ9];{rw[fY (show n=1 by simp at e6;lia)];exact a J dx _ rfl hd tU J R (N g ls h wR k)};rw[ee (show¬n=1 by simp at e6;lia),y2 (aw Y),bht];obtain⟨b,d⟩:=j.at_;rw[di c4 b3 j.m,z a b d dS (bt jI ju G c4)];rw[b3.length];exact k
universe z
def aAo(c:GlaKeeps.Call)(p:Nat)(ns d:ao):Prop:=match c with| .open_ b=>a9d| .bare w h m=>dt 2 aKC| .lead row m=>H3 JE| .erase i j=>dt 4 [i,j]| .move k q=>a'j| .mark i m=>dt 6 aGS| .drop k=>dt 7 [k]| .undo=>kC 8| .redo=>kC 9| .count n=>dt 10 [n]| .plan=>kC 11| .save=>kC 12| .read b=>a9e
theorem a0q(row:ej):(eD JE Za)=XJ rd:=by induction row with|nil=>{rfl}|cons a J d6=>unfold agy at d6⊢;rw[pq,aEY,d6,MY];delta rd zK;simp
inductive aAp(K:Fg)(vs:af)(H:Hp)(Q:VK)(E:XK):Prop|mk:∀(c:GlaKeeps.Call)(p:Nat)(ns d:ao)(l c0:Addr),g0 (aFE c=ah) (ti (wV c)) (aAp K vs H Q E)
inductive aAq(K:Fg)(vs:af)(H:Hp)(Q:VK)(E:XK):Prop|mk:∀(c:GlaKeeps.Call)(x:Gla.Step)(p:Nat)(ns d:ao)(l c0:Addr),g0 (aFF c=aa x) (ga (StF H L v x)) (aAq K vs H Q E)
section z
theorem a0r:T.awI.Ok P w aj 3 (aAp K):=by refine T.awI.go aUo aK;generalize aF=e3,az=A,aE=outer,aD=s,aB=H,aA=vs,aG=Q,aH=E;rw[aN,M P7,aX,n c p ns W l c0];rintro rfl b0 U a5 I c9 k;rw[fa,al (hC T.avC (BC (km agA) (BC (aq8 yB yB (gi T.avx) (eC aq0 (dO av)) (gi T.avy)) (R4 (a7 UW av))))) (hC T.avD (n7 UW)) (hC T.avE (n7 agA)) (hC T.avF (afk yB AH (gi T.aVB))) mq];cases c with|open_ b=>{contradiction}|bare w h m=>{contradiction}|read b=>{contradiction}|lead row m=>{rw[jg,bu,mf];have d0:wV Ro=(ya&&(Zm&&XJ rd)):=by{show(Zm&&(XJ rd&&ya))=_;cases Zm<;>cases XJ rd<;>cases ya<;>rfl};rw[bs d0,e l _ _ _ _ rfl a5 (fun a8 a4=>Pk),i_ ya,ko];{rw[qz c,d c0 _ rfl (.inl (akn I)) _ _ rfl a_P];rw[bA,agz];rw[aS b9 (ae (2*fh)/2) (v fh),ca rfl];rw[b9];have hw:Zm=(bi (v 2) (v fh)&&bi (v fh) 64):=bt (within_int 2 64 fh);rw[bs hw,aoW];{refine dl (fH (fun g8=>?_) (fun g8=>?_));{rw[y c0 JE (akn I) ⟨gb c9,fun d4 c8=>?_⟩];rw[a0q];rw[g,g8]at k;exact k d4 (gd c8)};rw[ay]};rw[ay]};rw[ay]}|move i q=>{rw[jg,bu,fk,bu,mf,dl a5 (s7 (f d [q.x,q.y] (dL [i,q.x,q.y] 1 3) ⟨ag,fun b7 b5=>?_⟩))];have f5:([q.x,q.y].all Za)=wV (.move i q):=by{show _=rd q;simp[rd,zK]};rw[f5];exact a9o}|mark i m=>{rw[jg,bu,fk,bu,fk,bu,mf,dl a5 (s7 (KJ (zb a9o)))]}|count n=>{rw[jg,bu,fk,bu,fk,bu,fk,bu,mf,s l jj a5 dg ?_];have f5:bi cK 2=wV (.count n):=by{apply aDL;rw[ue]};show dy (bi cK 2);rw[J f5 XY]}|erase i j=>{rw[RL]}|drop i=>{rw[RL]}|undo=>{rw[RL]}|redo=>{rw[RL]}|plan=>{rw[RL]}|save=>rw[RL]
theorem a0s:T.awL.Ok P w aj 2 (aAq K):=by refine T.awL.go aUq aK;generalize aF=e3,az=A,aE=outer,aD=s,aB=H,aA=vs,aG=Q,aH=E;rw[aN,M oi,aX];generalize kU=c,kW=x,kY=p,kZ=ns,k_=W,lg=l,ll=c0;rintro rfl b0 S a5 I c9 k;rw[al (hC T.avC (cp (gi IQ) (a7 a0o av) (km agB))) (fr T.aVs T.LL AH) (fr T.avD T.LM (as AH AH)) (fr T.avE XG (n7 agB)) (as (gi T.afp) AH)];cases c with|lead row m=>{rw[jg,pV,bu,mf,y c0 row I ⟨by rw[agz]at c9;exact cU c9,fun d a8 a4 nd a3=>a l _ _ _ _ rfl jY (pq aH7 (m t d v (d ak (akt dk (fi cm)) a_u (J (hN d z nd)))))⟩]}|erase i j=>{rw[jg,pV,bu,yd,bu,mf,tn (E l j a5 dr (sa a82))]}|move i q=>{rw[jg,pV,bu,yd,bu,fk,bu,mf,tn (E l q.y a5 rJ (E l q.x a5 dr (m0 (fj ⟨eq 3,fun d8 a=>aC (dP cm a) (mW (f d8 _ ak (hK (GH a) lU)))⟩))))]}|mark i m=>{rw[jg,pV,bu,yd,bu,fk,bu,yd,bu,mf,tn (f l _ a5 (s7 (KJ (pq (bX xw b5 cm) (f t v ak a_u)))))]}|drop i=>{rw[jg,pV,bu,yd,bu,fk,bu,yd,bu,yd,tn (m0 a82)]}|_=>rw[pV]
universe z
noncomputable def a0t:a3Y->cb| .undo=>ab| .redo=>ab| .count n=>bi n 2| .plan=>ab| .save=>ab|_=>ah
theorem agC{N:bg}{H L:Hp}{l:Addr}(s:uF)(a:bG N (L b≠ae))(h:L l=ae):xj:=by cases q:H l with|none=>{rfl}|some o=>by_cases m:l∈N;rw[ay,yQ (s l o q m)]
inductive aAr(K:Fg)(u CR:Addr)(vs:af)(H:Hp)(Q:VK)(E:XK):Prop|mk:∀(J:Addr)(R:GM.bT)(g ls:Addr)(c:GlaKeeps.Call)(p:Nat)(ns d:ao)(l:Addr),e [.ref J,jR,cC] nu x_ (a0t c=ab) (c aGv (ij ji) ((Ac lV c).2.length<=10000000) (∀F L h8 C,j AG (Y F) (aj F (akB cp)) (dJ L C) (a6d C) (Ac lV c=(aa C.gr,0::h8)) JH) (aAr K u CR vs H Q E))
section z
theorem a0u:T.awM.Ok P w aj 6 (aAr K bI dJ):=by refine T.awM.go aUr aK;generalize aF=e3,az=A,aE=outer,aD=s,aB=H,aA=vs,aG=Q,aH=E;rw[aN,M JD,aX];generalize E_=J,Fc=R,Fd=g,Fe=ls,Ff=c,Fh=p,Fl=ns,Fo=W,FC=l;rintro rfl h Y i b0 a5 c9 k;rw[fa,fF,al (fe T.aVu (ea (dK T.GW.h azS T.GW.b))) (fe T.aVv (ea (dK T.T_.h aZ' T.T_.b))) (fe T.avF (ea (b5 a0p (i3 bD)))) (fe T.aVw (a7 aAn (a7 axp apJ))) (a7 aAn (dK a0l))];cases c with|undo=>{rw[jg,bs (GM.aSP Y),bu,mf,l5 R (N g ls h pH bew),biu,K2 (GM.auK Y z)]}|redo=>{rw[jg,bs (GM.aSQ Y),bu,fk,bu,mf,y2 (v wR pH bew),biu,K2 (GM.auL Y z)]}|count n=>{rw[jg,bs (GM.aSR Y (CJ i)),bu,fk,bu,fk,bu,mf,s l jj a5 dg (a J R g ls n rfl h Y (ag) (fj (k t _ [_] R (cG cm) c6 ak (gh cm) Y rfl)))]}|plan=>{rw[jg,bs (GM.aSS Y),bu,fk,bu,fk,bu,fk,bu,mf,y2 (aw Y),bht];have F:=DI.2.fits;rw[c a gc b2 X G j F (pr (f a7 _ b4 ⟨by rw[(GM.aeB gc)];have:=F.p;have:=F.l;have:=F.m;lia,fun d b7 b5 nd b9=>biM⟩))]}|save=>{rw[jg];rw[GM.aST Y]at k c9;have a0:t Qc<=10000000:=by{have:t (Ow Qc)=t Qc:=cG Ow (bA _);simp only[ie]at c9;exact cf CZ c9};rw[bu,fk,bu,fk,bu,fk,bu,fk,b J R g ls rfl h Y (gb a0) (pr (f a7 _ b4 (iY a0 (fun d b7 b5 nd b9=>biM))))]}|_=>cases i
universe z
noncomputable def sP(v:V):hX:=[("record",v)]
theorem aAs(v:V):kq "record" v []=sP v:=rfl
theorem a0v(v u:V):kq "record" u (sP v)=sP u:=UL
theorem Mg{v:V}:iu (sP v) "record"=aa v:=by rw[<-aAs,dh,cO]
theorem a0w{v:V}{m:Str}(h:¬m="record"):fu (sP v) m=ae:=by rw[<-aAs,dh,bj h];rfl
theorem RecAt.agD{u CR A:Addr}{H L:Hp}{J:Addr}{R:GM.bT}{g ls k dx:Addr}{v:V}(h:nu)(c3:lQ v)(s:fM [k]):Bf:=by rw[d7 c4 mY,Ra,J6];have h7:oO [k] H:=qT ai;have d6:∀{l:Addr}{O:af},am l O->l∉[k]:=fun{l O}e=>Bk;exact a2 (d3 q (aI (qy q c3 (by rw[tP];injection z with _ _ z;rw[yY "done",bY zh EM,ny])))) (d6 d2) (Tx (fun x D z=>by rw[CB z,bbh];obtain⟨c5,h2,_⟩:=d.p;obtain⟨d8,e2,_⟩:=d.l;obtain⟨K,i8,_⟩:=d.m;exact dc (d3 M (mZ (a≠k) (qy M c3 (by rw[tP];injection z with _ _ z;rw[yY "width",bY y_ EM,ny])))) (d6 h2) (d6 e2) (d6 i8)) e9) (d6 q2) (Tx (fun x y z=>by have t:=s.ts h7;cases y with|lead row m=>{rw[K1 B,b7 h2 e2 l];exact a a i7 b8 e yk (dB.sb dk (v c5 h2 e2) s h7 (d6 h2)) (lR t B) a3}|erase i j=>{rw[ip z yk]}|move B p=>{rw[y pv e q C z];exact a a pv e yk (hK t C)}|mark i m=>{rw[y b8 e q C z];exact a a b8 e yk (lR t C)}|drop B=>rw[ip z yk]) f6)
inductive aAt(A:Addr)(vs:af)(H:Hp)(Q:VK)(E:XK):Prop|mk:∀(k dx:Addr),A [Yh] (bh k (aI A [])) (Q .bC (ad k (aI A (sP .bC)))) (aAt A vs H Q E)
inductive aAu(A:Addr)(vs:af)(H:Hp)(Q:VK)(E:XK):Prop|mk:∀(k dx J:Addr)(v:V),A [Yh,xn] (lQ v) (∀F L,c (fM [k]) (Y F) (aj F hg) a'n JH) (aAu A vs H Q E)
def aAv(u CR A:Addr)(H:Hp)(k dx:Addr)(f:aJP)(Q:VK):Prop:=(∀e F L,b f Am bP (Y F) (aj F (B (IS e) cp)) JH)/\(∀R F J g ls L,b f (.ok wU) x_ (fM [k]) (Y F) (j (aj F hg) a'n Bf (Y J) (Y g) (Y ls) JH))
inductive aAw(K:Fg)(u CR A:Addr)(vs:af)(H:Hp)(Q:VK)(E:XK):Prop|mk:ds tL (cw<=131072) (B (akw b) (fun r=>v r [] [])) (aAw K u CR A vs H Q E)
inductive aAx(u CR A:Addr)(vs:af)(H:Hp)(Q:VK)(E:XK):Prop|mk:ds (am l kJ) aHH (akA b) (aAx u CR A vs H Q E)
section z
theorem a0x:T.Ua.Ok mg P w aj 1 (aAt hL):=by refine T.Ua.go aUl FU;rw[R k dx c3 q h,g _ (fG (hA cu)) k _ dx _ c3 (d Ee Ox (ax) q)]
theorem a0y:T.Ug.Ok mg P w aj 1 (aAu hL):=by refine T.Ug.go aUn FU;obtain⟨k,dx,J,v,rfl,c3,q⟩:=h;rw[g _ (bo (hA aq) am_) k _ dx _ c3 (a2 Ee Ox (v6 1))];rw[a0v];rw[v (ax) (fun F a=>?_),au sb [k] (ad k aHY) alJ,e c1 H k aHY k aHY];exact q F _ (aka (l5 a)) (agC sb (lb ai) a) ak (cp a c1)
theorem a0z:T.Ue.Ok mg P w aj 14 (aAx bI dJ hL):=by refine T.Ue.go avb FU;obtain⟨k,dx,l,v,b,rfl,c3,a5,U,d2,q2⟩:=h;rw[cl (c9 T.aVH avb.nd a0m (BI xI)) (ce a5) ?_];rw[dC];refine axd (fZ (acW z (ml U))) (f l b a5 (v U bb6 (fun R a J g ls a8 m Y a4 d0 hR G nc ns=>?_)));{rw[he n,rK,qG m Z]};{rw[bn a d0 gM,eh (di c3),b k dx I EM a _ (a _ _ rfl rfl (cx d0) dr k dx (f J v I (fun F b7 b5 O Z c1=>q2 R F J g ls b7 m Y (L (cG a4) b5) (gY O) Z c1 (hR.agD I b5) G nc ns)))]}
theorem a0A:T.Uc.Ok mg P w aj 11 (aAw K bI dJ hL):=by refine T.Uc.go ava FU;obtain⟨k,dx,l,v,b,rfl,c3,a5,U,d2,q2⟩:=h;rw[cl (c9 T.aVG ava.nd az' (BI (Co xI))) pX ?_];rw[dC];refine axd (fZ (acW z (aC U))) (N l b a5 bb6 (fun r a y a8 m a4 d0 J=>?_));{rw[he n,rK,qG (dd m) Z]};{rw[bn a d0 gM,eh (di c3),b k dx I EM a _ (oY (aJ (cx d0) dr)),mw W,aM8,or a8 a8,ct W r (j.mono sm) bh7];have f9:=FW Bk;have d:=hF I;have S:=gd f9;rw[j k dx x v (ah d (fun F h5 h1 O Z c1=>q2 (kG r) F x g ls h5 (dd m) (GM.aeO (GM.auR m)) (L (cG S) h1) (S.free O) Z c1 (b6.agD d h1) (gY nx) (e1 (gd sm) b9) (e1 (gd sm) e1)))]}
universe z
inductive aAy(C:Addr)(vs:af)(H:Hp)(Q:VK)(E:XK):Prop|mk:∀(w h:Nat)(b8:V)(m:Gla.Mark),A [vn w,vn h,b8] Z9 (ga (agx C H L v ao7)) (aAy C vs H Q E)
theorem a0B{I:Type}{l:ba}{m:I}(h:Wt [m]):l=[m]:=List.perm_singleton.mp h
section z
theorem a0C:T.avO.Ok P w aj 8 (aAy bI):=by refine T.avO.go aTu aK;generalize aF=e3,az=A,aE=outer,aD=s,aB=H,aA=vs,aG=Q,aH=E;rw[aN,M oj,aX,al C c b8 m,ds c4,w _ (i 3 Oy uf (bU 4 Oy (dP bR)) (i 5 Oy (as aq bD) (bU 6 Oy (as aq bR)) (i 7 Oy (yE (vy bb bQ cJ ew)) (bU 8 Oy (yE (vy (as bb bQ) (as bb cJ) (as bQ ew) (as cJ ew)))) (de (ec azv (GR bR aq kh ki (ea av))))))) et (fun y c6=>?_)];have s0:=bZ (o:=yh) c6;rw[e f5 H y yh y yh];generalize ad y yh=i at s0 f5;rw[v et (fun e0 n1=>?_)];have a4:=bZ (o:=amR) n1;rw[e b4 i e0 amR e0 amR];have F:=di f5;generalize upd i e0 amR=a8 at a4 b4 F;rw[v et (fun g0 n2=>?_)];have b5:=bZ (o:=aoU) n2;rw[e b9 a8 g0 aoU g0 aoU];have e5:=gS F;have g7:=IZ;rw[bo (upd a8 g0 aoU) b9 e5 g7,v et (fun d0 u=>?_)];have c8:=bZ (o:=bx c C) u;rw[e e7 b7 d0 (bx c C) d0 (bx c C)];have o:=dn e5;have c2:=dn g7;have N:=dn b9;generalize upd b7 d0 (bx c C)=d4 at c8 e7 o c2 N;rw[v (eq 4) (fun b2 a0=>?_)];have d9:=ac apX a0;rw[a g5 d4 b2 apX b2 apX,i d4 b2 apX e4 d9 g5,v et (fun n c9=>?_)];have f9:=bZ (o:=ant) c9;rw[e i2 e4 n ant n ant,m e4 n ant g6 f9 i2,v et (fun h2 g9=>?_)];have h1:=bZ (o:=anu) g9;rw[e j1 g6 h2 anu h2 anu,m g6 h2 anu h5 h1 j1,v et (fun e2 e1=>?_)];have R:=bZ (o:=anv) e1;rw[e j2 h5 e2 anv e2 anv,m h5 e2 anv h9 R j2,v et (fun i8 j5=>?_)];have d6:=bZ (o:=anw) j5;rw[e j9 h9 i8 anw i8 anw,m h9 i8 anw i3 d6 j9,v (eq 4) (fun le ne=>?_)];have i4:=ac apY ne;rw[a j8 i3 le apY le apY,i i3 le apY i7 i4 j8,v (eq 1) (fun G d1=>?_)];have c0:=ac [b8] d1;rw[a d i7 G um G um,i i7 G um h7 c0 d,cN (i4.trans c0),cb (xf q),c7 (wI b)];have J:=zO e;rw[eh (mZ J)];have j:=m_ I;have r:=bX (L (aE' a4) b5) c8 j;have f:dG h7 Aw jT:=lv y o;have e9:dG h7 (.ref e0) (jZ C):=lv e0 c2;have f6:dG h7 (.ref g0) (ht c):=lv g0 N;have j0:dG h7 (.ref d0) ⟨C,c⟩:=lv d0 e7;rw[b C c b2 le G (akD C c) (GM.Tu C c) [m] (a rfl (ce (I _ _ g5) (ee f e9 (h8 f6 j0))) (ce (c0 _ _ j8) (ee (bT n (J _ _ i2) f e9) (bT h2 (e _ _ j1) f f6) (h8 (bT e2 (b _ _ j2) e9 j0) (bT i8 (q _ _ j9) f6 j0)))) (ce d (hw (tp r))) (d (gJ (4<=100000)) (akD C c) (gJ (4<9000)) (fun x h=>h)) (gJ (4<9000)) aT ?_ (fun v L c1 nv=>?_))];{intro l a5;simp[GM.Tu]at a5;rw[k3 a5]<;>simp[akD]};{obtain⟨d8,a,g,O,p,rfl,D,b3,_,b0,t,z,B⟩:=nv;have:=a0B b3;rw[gq];exact aC (aj3 c1) (f a g O p D (akC b0) (akC t) ⟨akC z,akC B⟩)}
universe z
theorem a0D{w h:Nat}{m:Gla.Mark}(hw:bk w)(c7:bk h)(c4:uV):DN ao7:=by refine GM.auy hw c7 (gJ (4<65535)) (gJ (b2 4)) aT ?_ ?_;{intro p c2;simp[akD]at c2;rw[k3 c2]<;>simp[hw,c7]};{rw[xM]}
noncomputable def agE(w h:Nat)(m:Gla.Mark):aJP:=jw (zR ao7) (v ao7 [] [])
inductive aAz(K:Fg)(u CR A:Addr)(vs:af)(H:Hp)(Q:VK)(E:XK):Prop|mk:∀(k dx l:Addr)(v:V)(w h:Nat)(m:Gla.Mark),e [Yh,cC] (lQ v) (ij (jH aKC)) (wV apf=ah->f F L bP (Y F) (aj F (mM (-1))) JH) ((wV apf=ab->C9 (agE w h m))->aAz K u CR A vs H Q E)
section z
theorem a0E:T.Ud.Ok mg P w aj 10 (aAz K bI dJ hL):=by refine T.Ud.go ae9 aK;generalize aF=e3,az=A,aE=outer,aD=s,aB=H,aA=vs,aG=Q,aH=E;rw[aN,M oi,aX];generalize kU=k,kW=dx,kY=l,kZ=v,k_=c5,lg=h',ll=m;rw[aw c3 a5 N d2];have d0:wV (.bare c5 h' m)=(aK5&&ya):=by{show(zK c5&&(zK h'&&ya))=_;delta zK;rw[Bool.and_assoc]};rw[d0]at N d2;rw[cl (ah (go (gJ (u_ (n7 UW)) (u_ (n7 agA))) (is T.avG)) (bU 2 ae9.nd (Z a0C AH AH (n7 agB))) (go ae9.nd cu (de (BI (Co av))))) a5 J4,y d [c5,h'] (dL YC 0 2) ⟨aJ4,fun b7 r2=>?_⟩];have b5:=IL YC;rw[aS f5 ([c5,h'].all Za) aK5];rw[f5];rw[ko];{rw[c,ahX]at N d2;rw[a9y,qy c7 (fun e4 c9=>?_)];have d9:=L (fi (ac (lb YC 6) Y)) c9;rw[i_ (! ya)];cases D:ya with|false=>{rw[kt (fun F a=>N D F _ (m_ (bZ a)) (WN a) ak)]}|true=>have⟨h2,e2⟩:=d2 D;have t:bk c5/\bk h':=by{rw[xq]};have c4:uV:=by{rw[A3 D];simpa using D};rw[s l (vn c5) JC dg (E l h' JC dr (f l _ JC (fun a9 L=>?_))),qy a9 (fun b8 h5 q M=>?_),j c5 h' b8 m (ah M (fun r h9 b1 J=>?_)),aM8,d c2 aaD b2 X G _ ae (aC j (a0D t.1 t.2 c4) (sT (YF)) (fun p i3 i b=>?_)),dB (bX (L (m_ (ac (lb YC 6) L)) q) b1 i)];delta agE at h2 e2;cases a7:zR aaD with|some e=>{rw[a7]at b h2;rw[he b,rK,Q rfl _ e ⟨b,fun F i7 R O Z=>h2 e F i7 rfl (xf R) (d6.free O) Z⟩]}|none=>rw[a7]at b e2;subst b;rw[bu];have u6:=ol c3;rw[Q k dx _ (aJ u6 EM),mw W,or i3 i3,ct W aaD (bN (j.mono i) sm) (fun i7 g ls S b9 e1 b6=>gM)];have i4:=wr (S c o (sm c o e) fS);have y:=i4 _ _ u6;have B:=xf i4;rw[j k dx x v (ah y (fun F h7 I O Z c1=>e2 (kG aaD) F x g ls h7 rfl (GM.aeO (GM.aSJ t.1 t.2 c4 a7)) (L (cG B) I) (B.free O) Z c1 (b6.agD y I) (d6.free nx) (e1 (xf sm) b9) (e1 (xf sm) e1)))]};{rw[ae C aK5 ah,kt (fun F a=>N ag F _ (fi (bZ a)) (b5.free a) ak)]}
universe z
def G8(u CR A:Addr)(H:Hp)(k:Addr)(o:PL)(N:bg):Prop:=match o with|none=>N=[k]/\∃dx,lQ .bC|some R=>∃J g ls dx,N=aMf/\lQ xn/\nu/\x_
theorem G8.k{u CR A:Addr}{H:Hp}{k:Addr}{o:PL}{N:bg}(h:ow H):k∈N/\∃dx v,lQ v:=by cases o with|none=>{rw[aLa];exact d bJ dx _ e}|some R=>obtain⟨J,g,ls,dx,rfl,e,_⟩:=h;exact d bJ dx _ e
theorem G8.mono{u CR A:Addr}{H L:Hp}{k:Addr}{o:PL}{N:bg}(h:ow H)(s:bP):ow L:=by cases o with|none=>{rw[aLa];exact ah dx (bv e)}|some R=>rw[nx dx e];exact mB (bv e) (akx s)
theorem SB.wide{N d5:bg}{H L:Hp}(s:uF)(h:fZ N d5):fM d5:=fun b o e n=>s b o e (bo (n (h b m)))
theorem aAA(b:Gla.Bytes):kJ=bh (wW akE):=ga bV jz
theorem a0F{c:GlaKeeps.Call}{x:Gla.Step}(h:aFF c=aa x)(a:wV c=ab):Ii x:=by cases c with|lead row m=>{rw[cH];have B:da Zm (XJ rd&&ya):=a;simp only[ib,Hw]at B;obtain⟨e0,g0,d0⟩:=B;delta jJ at e0;rw[A3 d0,v (v ai ai uh) ai];have:=g0 p c2;unfold GlaKeeps.ptOk GlaKeeps.long at this;rw[gj]}|erase i j=>{rw[cH];trivial}|move i q=>{rw[cH];have B:rd q=ab:=a;delta rd zK at B;show bk q.x/\bk q.y;simpa using B}|mark i m=>{rw[cH];have B:ya=ab:=a;rw[A3 B];show uV;simpa using B}|drop i=>{rw[cH];trivial}|_=>rw[cH]
inductive aAB(u CR A:Addr)(vs:af)(H:Hp)(Q:VK)(E:XK):Prop|mk:∀(k:Addr)(o:PL)(N:bg)(c:GlaKeeps.Call)(p:Nat)(ns d:ao)(l c0:Addr),e [Yh,jR,cC,O_] (ow H) aGv (am l ji) (c (am c0 (aBZ vn)) (oZ<100000) ((Ac o c).2.length<=10000000) (∀F L g l8,j uF (Y F) (aj F (hL (Ac o c).2)) (G8 u CR A L k g l8) (rj akF=(Ac o c).1) (V b l8 (b∈N\/gu)) JH) (aAB u CR A vs H Q E))
section z
theorem a0G:T.Ub.Ok mg P w aj 15 (aAB bI dJ hL):=by refine T.Ub.go aUm aK;generalize aF=e3,az=A,aE=outer,aD=s,aB=H,aA=vs,aG=Q,aH=E;rw[aN,M JD,aX];generalize E_=k,Fc=o,Fd=N,Fe=c,Ff=p,Fh=ns,Fl=W,Fo=l,FC=c0;rintro rfl h b0 a5 d7 c9 d1 B;obtain⟨f7,dx,v,c3⟩:=h.k;rw[ca (ah (fe T.aVq (jo bR Ee T.Uc.h (eD a0A) a6 T.Uc.b .nil fu (d_ bb))) (fe T.aVr (jo bR Ee T.Ud.h (eD a0E) a6 T.Ud.b .nil fu (d_ av))) (ah (fe T.aVx (jo bR Ee T.Ue.h (eD a0z) a6 T.Ue.b .nil fu (d_ bb))) (D yC bO cu (is T.aVC)) (bZ (go (u_ (Z a0r aq av bb)) (is T.avG)) (aj yB aq T.aVt (jo bO gK T.GV.h (eD azW) a6 T.GV.b .nil fu (d_ (Z a0s aq av bb)))) (em am_ (Z a0u bO aq av)))))];have c2:∀f:aJP,(Ac o c=match f with| .error e=>(tq akF,IS e)| .ok J=>p8 J)->aAv bI dJ hL H k dx f Q:=fun f a3=>by{rw[v (fun e F L z s O Z=>?_) (fun R F J g ls L z Y s O Z c1 hR G nc I=>?_)];{rw[rD];rw[a3]at B;exact bip};{rw[rD];rw[a3]at B;refine B F L lV aMf (s.wide (lb ai)) O Z (mB c1 hR) rfl (fun b m=>?_);rw[Br,k3 m,Fq,co bF,co bF,co bF]}};rw[bC U (aFE c)];{cases c with|open_ b=>{rw[jg,dR i5 cw 100000,bu,mf,qK (au (bj d7 aAA)) (gc i5)];rw[GM.aSK o bL];rw[kw (akw b) r]}|bare c5 h' m=>{rw[jg,bu,fk,bu,mf,b k dx c3 EM k dx (a l v c5 h' m rfl c3 (au a5) (fun b3 F L s O Z=>?_) (fun b3=>c2 _ ?_))];{rw[GM.auV o gn b3]at B;exact bip};{rw[GM.aSN o b3];delta agE;rw[Ea (zR aaD)]}}|read b=>{rw[jg,dR i5 cw 100000,bu,fk,bu,fk,bu,mf,qK (bj d7 aAA) i5];rw[GM.aSL o (gc i5)];all_goals(rw[kw (akA b) r])}|_=>cases U};{rw[ae j6 (aFE c) ah];have pn:p≠1/\p≠2/\p≠13:=by{cases c<;>first|contradiction|(rw[aF7];decide)};rw[bu,yd,bu,yd,bu,yd];cases o with|none=>{rw[dj rfl u f5,lK f5 (f Ox Mg (eq 1) (fun F a=>?_))];rw[GM.aSM j6]at B;exact B F _ ae [k] (l5 a) a ak (ah u (cp a f5)) rfl X1}|some R=>rw[nx u f5,lK f5 (a Ox Mg rfl c p ns W l (a c0 rfl b0 j6 (au a5) (au d7) c9 aJZ))];have b4:=di f5;rw[ep (akx a4)];have b8:fZ gm aMf:=fun b m=>ck m;have j2:k∉gm:=bo (by obtain⟨c4,c7⟩:=hR.at_;rw[ku b1 hR.c,h9 ws hR.s,Br];rcases m with z|z|z;{rw[b4 c7 f5,aJW];injection f5 with _ _ f5;have:=gC (Mj ("record":Str)) f5;rw[bY Mg tU,ny]};rw[ay,ay]);cases b3:wV c with|false=>{rw[v (eq 1) (fun F a=>?_)];rw[GM.auV lV EX b3]at B;exact B F _ lV _ (cG (lD a)) (gY a) ak (a J g ls u rfl (cp a b4) (XI (bZ a)) Y) rfl X1}|true=>rw[bD (fH (fun M=>?_) (fun M=>?_))];{obtain⟨x,S⟩:aC x (aFF c) x:=by{have b2:p<=7:=by{simp at M;lia};cases c<;>first|exact ek|trivial|(rw[aF7];trivial)};have sa:=a0F S b3;obtain⟨c4,c7⟩:=a9.at_;rw[lK b4 (a Ox Mg J c4 _ rfl c7 tU (a c x p ns W l c0 rfl (c b0 S (au (di a5)) (au (di d7)) c9 (fun a0 b7 b5 st=>?_)))),g J R g ls a0 x (XI b5) (d Y (st _ (lb (a9.live m))) sa (fun F d4 b9 c8 O Z D=>?_)),J1];have f6:=L (cG i9) c8;have a7:=ba2;rw[GM.aSO Y b3 S sa]at B;delta agv at D;cases g9:XH gc x with|error y=>{rw[g9]at D B;cases y with|none=>{exact A1 aGT}|some e=>exact A1 ai}|ok b6=>rw[g9]at D B;simp only at D B;by_cases d0:65536<=R.d;{rw[aJ d0]at D B;exact A1 aGT};{rw[bj d0]at D B;exact f8 (aa (WE x b6)) aGT (a J g ls u rfl a7 D.2 (Y.add sa (bj (GM.Ts DI.2 sa.ok) g9) (x (aNl d0))))}};{have b2:¬p<=7:=by{simp at M;lia};rw[v (eq 1) (fun t c6=>?_),jr (cp 0) c6,a g9 a8 t anf t anf];have X:=XI (ac [cp 0] c6);rw[e a8 t anf b7 b5 g9 X,lK (gS f5) (a Ox Mg J R g ls c p (a ns W l rfl X Y (by cases c with|count n=>{trivial}|undo=>{rfl}|redo=>{rfl}|plan=>{rfl}|save=>{rfl}|open_ b=>{trivial}|bare c5 h' m=>{trivial}|read b=>{trivial}|lead row m=>{rw[aaY]}|erase i j=>{rw[aaY]}|move i q=>{rw[aaY]}|mark i m=>{rw[aaY]}|drop i=>rw[aaY]) b0 (au (gS a5)) d1 (fun F d4 h8 C c8 O Z d3 d5 a3=>?_)))];have f6:=L (cG b5) c8;rw[fa,n t F (c8 _ _ g9 (bo (a9.live m c6))) Z ⟨?_,fun d nd=>?_⟩];{simp_all;exact cU d1};{rw[a3]at B;exact B d _ (aa C) _ (L (a6e b8) (cG xw)) (agC f6 (lb (d3.live m)) nd) (dd ak) (a J g ls u rfl (cp nd ba2) (d3.mono xw) d5) rfl X1}}}
universe z
universe GA
namespace GM
open Gla GlaKeeps
noncomputable def agF(row:ej):ao:=a_A
def Mh(c:GlaKeeps.Call)(p:Int)(ns d:ao):Prop:=match c with| .open_ b=>a9d| .bare w h m=>dt 2 aKC| .lead row m=>H3 (agF row)| .erase i j=>dt 4 [i,j]| .move k q=>a'j| .mark i m=>dt 6 aGS| .drop k=>dt 7 [k]| .undo=>kC 8| .redo=>kC 9| .count n=>dt 10 [n]| .plan=>kC 11| .save=>kC 12| .read b=>a9e
noncomputable def zs(ns:ao):aQ:=wK a__
theorem CH{z:Int}(h:0<=z):xg z=aa akG/\v akG=z:=by delta xg;rw[kb]
theorem G9{z:Int}{n:Nat}(h:xg z=aa n):cK=z:=by rw[a4 xg,fU]
theorem agG{x y g p:Int}{m:Mark}(h:a6f x y g p=aa m):v ip=x/\v il=y/\v jA=g/\v kE=p:=by revert h;revert x y g p m;refine@aE5 _ _ _ _ _ _ _ ?_;rw[L x y g p m,eE,a4 a6f];cases S:xg x with|none=>{simp_all}|some a=>cases b6:xg y with|none=>{simp_all}|some b=>cases d8:xg g with|none=>{simp_all}|some c=>cases c2:xg p with|none=>{simp_all}|some d=>rw[S,b6,d8,c2]at h;rw[cH];exact d (G9 S) (G9 b6) (G9 d8) (G9 c2)
theorem aAC:∀{J:aQ}{row:ej},a6g J=aa row->zs (agF row)=J|[],row,h=>aHs|[x],row,h=>bB|x::y::J,row,h=>by unfold KeepNeutral.points at h;cases a6:a6g J with|none=>{simp_all}|some l=>cases S:xg x with|none=>{simp_all}|some a=>cases b6:xg y with|none=>{simp_all}|some b=>rw[a6,S,b6]at h;rw[cH,dB (aAC a6)];unfold zs agF at d6⊢;rw[pq,fg,d6];simp[G9 S,G9 b6]
theorem aAD{J:aQ}(h:J.all (J (KeepNeutral.natural z 8))=ab):z b (a6i J=aa b) (zs (wW akE)=J):=by have h':=sv (by have:=Wi h z c9;unfold KeepNeutral.natural at this;rw[gj]);rw[ak (J.map (J (aiO akG))) ?_];{delta a6i;rw[aJ];delta NeutralIO.bytes;rw[Hw];intro z c9;grind-abstractProof};{delta zs;rw[jz,jz];rw[up J,j0 aoc];have:=h' z c9;simp only[Wv,id];rw[aDa,es (ae (Int.toNat_lt eu) fm),a6h eu]}
inductive iN:cw fC|a J:iN [[1],J]|b w h x y g q:iN [[2,w,h,x,y,g,q]]|c x y g q J:iN [[3,x,y,g,q],J]|d i j:iN [[4,i,j]]|e k x y:iN [[5,k,x,y]]|f i x y g q:iN [[6,i,x,y,g,q]]|g k:iN [[7,k]]|h:iN [[8]]|i:iN [[9]]|j n:iN [[10,n]]|k:iN [[11]]|l:iN [[12]]|m J:iN [[13],J]
theorem ifC{c:Prop} [Hy c]{I:Type}{x y z:I}(h:(if c then x else y)=z):c/\x=z\/y=z:=by rw[eI,l (ds bF h),co h]
theorem a0I{I:Type}{n:Nat}{a:ba}(h:n+1=mP):∃x b,a=x::b/\n=cw:=by cases a with|nil=>{rw[cH]}|cons x b=>exact ce x b (aDn h)
theorem vL{I:Type}{a:ba}(h:0=mP):a=[]:=a3j agO
theorem aAE{a:aQ}(h:1=mP):∃u,a=[u]:=bdH
theorem aAF{a:aQ}(h:2=mP):∃u v,a=[u,v]:=by rw[PD];obtain⟨v,d3⟩:=aAE k;exact v u v ZL
theorem aAG{a:aQ}(h:3=mP):∃u v w,a=[u,v,w]:=by rw[PD,dp w d3 (aAF k)];exact d u v w ZL
theorem aAH{a:aQ}(h:4=mP):∃u v w x,a=[u,v,w,x]:=by rw[PD];obtain⟨v,w,x,d3⟩:=aAG k;exact a u v w x ZL
theorem aAI{a:aQ}(h:5=mP):∃u v w x y,a=[u,v,w,x,y]:=by rw[PD];obtain⟨v,w,x,y,d3⟩:=aAH k;exact c u v w x y ZL
theorem a0J{a:aQ}(h:6=mP):∃u v w x y z,a=[u,v,w,x,y,z]:=by rw[PD];obtain⟨v,w,x,y,z,d3⟩:=aAI k;exact a u v w x y z ZL
theorem aAJ{a:fC}(h:1=mP):∃u,a=[u]:=bdH
theorem callC{c:fC}(o:aFG Ef c):iN c:=by rw[Z p a O h o,a4 Ef,qv,bdJ,qv];{rw[Er,Es];obtain⟨_,_,_,_,_,_,e⟩:=a0J h;rw[e];rw[vL k];constructor};rw[qv];{rw[Er,Es];obtain⟨_,_,_,_,e⟩:=aAH h;rw[e];rw[se (aAJ k)];rw[e];constructor};rw[qv];{rw[Er,Es];obtain⟨_,_,e⟩:=aAF h;rw[e];rw[vL k];constructor};rw[qv];{rw[Er,Es];obtain⟨_,_,_,e⟩:=aAG h;rw[e];rw[vL k];constructor};rw[qv];{rw[Er,Es];obtain⟨_,_,_,_,_,e⟩:=aAI h;rw[e];rw[vL k];constructor};rw[qv,a8L,qv,ap3,qv,ap3,qv,a8L,qv,ap3,qv,ap3,qv,bdJ,cH]
set_option tactic.hygienic true in theorem call_of{c:fC}(o:iN c)(h:aFH c=ab):z x aHS ((∃p l,c=[p::l]/\z ns (Mh x p ns []) (zs ns=l))\/∃p l J,c=[p::l,J]/\∃ns d,Mh x p ns d/\zs ns=l/\zs d=J):=by cases o;{next J=>rw[bG b4 b9 (aAD h),cs (.open_ b) (.inr (b 1 [] J rfl [] tK rfl b9)),gH (do{some (GlaKeeps.Call.open_ (<-KeepNeutral.bytes J))})];rw[b4];rfl};{next w c7 x y g q=>have h:=Ad h;obtain⟨h,e2⟩:=h;rw[kF (Ad h),id (0<=w) a3];have a9:0<=c7:=CJ a9;rw[ch m c4 e2];have e:=agG c4;rw[cs (.bare w.toNat c7.toNat m) (j1 2 (aw tK))];{rw[gH (do{some (GlaKeeps.Call.bare (<-KeepNeutral.nat w) (<-KeepNeutral.nat c7) (<-KeepNeutral.mark x y g q))})];rw[QR,(CH a9).1,c4];rfl};{simp[zs,(CH a3).2,(CH a9).2,e]}};{next x y g q J=>rw[anL];obtain⟨a3,e2⟩:=h;rw[ch row a6 a3,ch m c4 e2,c7 (agG c4),cs Ro (.inr (b 3 _ J rfl _ tK ?_ (aAC a6)))];{rw[gH (do{some (GlaKeeps.Call.lead (<-KeepNeutral.points J) (<-KeepNeutral.mark x y g q))})];rw[a6,c4];rfl};{simp[zs,e]}};{next i j=>rw[anL,id (0<=i) h.1];have a9:0<=j:=CJ h.2;rw[eD (.erase Vv aBn) 4 (by simp[zs];rw[ue]),gH (do{some (GlaKeeps.Call.erase (<-KeepNeutral.nat i) (<-KeepNeutral.nat j))})];rw[QR,(CH a9).1];rfl};{next k x y=>rw[anL,id (0<=k) (Ad h.1).1];have a9:0<=x:=CJ (Ad h.1).2;have e2:0<=y:=CJ h.2;rw[eD (.move aBQ ⟨Ig,y.toNat⟩) 5 (by simp[zs];grind),gH (do{some (GlaKeeps.Call.move (<-KeepNeutral.nat k) ⟨<-KeepNeutral.nat x,<-KeepNeutral.nat y⟩)})];rw[QR,(CH a9).1,(CH e2).1];rfl};{next i x y g q=>rw[anL,id (0<=i) h.1,ch m c4 h.2,c7 (agG c4),cs (.mark Vv m) (j1 6 (aw tK))];{rw[gH (do{some (GlaKeeps.Call.mark (<-KeepNeutral.nat i) (<-KeepNeutral.mark x y g q))})];rw[QR,c4];rfl};{simp[zs,e];lia}};{next k=>rw[id (0<=k) h,eD (.drop aBQ) 7 (by simp[zs];lia),gH (do{some (GlaKeeps.Call.drop (<-KeepNeutral.nat k))})];rw[QR];rfl};rw[ls .undo 8,ls .redo 9];{next n=>rw[id (0<=n) h,eD (.count jH) 10 (by simp[zs];lia),gH (do{some (GlaKeeps.Call.count (<-KeepNeutral.nat n))})];rw[QR];rfl};rw[ls .plan 11,ls .save 12];{next J=>rw[bG b4 b9 (aAD h),cs (.read b) (.inr (b 13 [] J rfl [] tK rfl b9)),gH (do{some (GlaKeeps.Call.read (<-KeepNeutral.bytes J))})];rw[b4];rfl}
theorem aAK:∀{A B:ao},zs A=zs B->A=B|[],[],_=>rfl|[],b::B,h=>bB|a::A,[],h=>bB|a::A,b::B,h=>by rw[aaz];rw[aAK a9,aDz a3]
theorem a0K(A B:ao):zs (A++B)=zs A++zs B:=fg
theorem UX(A:ao):t (zs A)=ij:=bA _
theorem aAL{Z A:ao}{t:aQ}(h:zs Z=zs A++t):z B (Z=A++B) (zs B=t):=by have a3:=gC (List.drop ij) h;rw[ep (gC (List.take ij) h),c7 (bt (UX A))];rw[e]at a3 a9;rw[aim]at a3;rw[ain,<-e]at a9;have V:Z.take ij=A:=aAK (by delta zs at a9⊢;rw[Ds];exact a9);exact v (Z.drop ij) (by rw[<-V,eS];conv=>{lhs;rw[<-DA ij Z]};congr 2;grind-abstractProof) (by delta zs at a3⊢;rw[Dt,<-a3,bA])
theorem a0L{c:fC}(o:iN c):a6j c=c:=sI o
theorem a0M{l:aQ}(h:aFI l=ab):∃cs,l=E9/\V c cs aKH/\XM l=u5 a6l/\bd (XM l) 10000000:=by rw[a4 aFI];cases q:a6k l with|none=>{simp_all}|some cs=>rw[aj q];have h:=h;have e:XM l=u5 a6l:=by{delta XM;rw[q]};delta a6k at q;cases c4:PyFlat.calls Ef eb l with|none=>{simp_all}|some c7=>rw[cQ c4];have q:=cZ q;obtain⟨e9,f6⟩:=PyFlat.put_calls _ _ _ c4;have:c7.map a6j=c7:=by{rw[up c7];exact aiD (fun c m=>a0L (callC (f6 c m)))};rw[cQ this,e_,nC ib];obtain⟨⟨a3,a9⟩,e2⟩:=h;delta KeepNeutral.asked at a9;simp only[ib,Hw]at a9;delta PyFlat.short at e2;exact a c7 e9 (fun c m=>⟨f6 c m,a9.2.1 c m⟩) e ai
theorem a0N{cs:bK fC}(h:∀c∈cs,aKH)(e:E9=[]):cs=[]:=by cases cs with|nil=>{rfl}|cons c cs=>obtain⟨⟨p,a,O,rfl,_⟩,_⟩:=h c (fx ..);rw[dU]
theorem a0O{c:fC}(o:iN c):∃(p:Int)(a:aQ)(O:fC),c=(p::a)::O/\0<=p:=by cases o<;>exact oJ ax
theorem a0P{c:fC}{cs:bK fC}{Z:ao}(ok:aFG Ef c)(b3:aFH c=ab)(e:zs Z=a6m (c::cs)):∃(x:GlaKeeps.Call)(p:Nat)(ns d:ao)(b:Bool)(n:ao),D aHS (Mh x p ns d) (Ef (v p)=aa (zr,Z b 1 0)) (b=ah->d=[]) (Z=(p::(ns++(Z b (oZ::d) [])))++n/\zs n=E9):=by revert ok b3 e;revert c cs Z;refine ap8;rw[co c cs Z];intro ok b3 e;rw[ln w (call_of (callC ok) b3)];obtain⟨f,_,_,f5,c6⟩:=a0O (callC ok);obtain⟨u,a,O,g7,c0⟩:=ok;have pn:∀{ns d:ao},Mh x u ns d->∃p:Nat,u=v p:=fun{ns d}z=>⟨f.toNat,by rw[g7]at f5;rw[aJW,aJW];rw[f5,a6h c6]⟩;rcases w with⟨q,l,b4,ns,z,a7⟩|⟨q,l,J,b4,ns,W,z,a7,c4⟩;{rw[g7]at b4;rw[bci,bck];subst g5 i2 e7;rw[dn p (pn z)];subst g7;have E:zs Z=zs (p::ns)++E9:=by{rw[e];show(v p::a)++[]++E9=_;rw[qQ,<-a7];rfl};rw[dP h g (aAL E),g5 [] ah kX,bde,a_]};{rw[g7]at b4;rw[bci,bck];subst g5 i2 e7;rw[dn p (pn z)];subst g7;have E:zs Z=zs (p::(ns++fj::W))++E9:=by{rw[e];show(v p::a)++((v vX::J)++[])++E9=_;rw[qQ,<-a7,<-c4,UX];show _=zs ((p::ns)++fj::W)++_;rw[a0K];rfl};rw[dP h g (aAL E),g5 W ab (J (YF)),bde,cX]}
universe GM
namespace GA
open PySem PySem.Spec PyProof.Rows L2
theorem aAM{I d:Type}{F G:qs}{l:ba}{m:nU}(h:l a b (b∈m) (F a b) (G a b))(q:f1 F):f1 G:=by induction q with|nil=>{rw[kP]}|cons J t i=>rw[cE (h _ _ Ag J) (i (fun a b m=>h a b (mE m)))]
theorem RecAt.told{u CR:Addr}{H L:Hp}{J:Addr}{R:GM.bT}{g ls t:Addr}{zs:aQ}(h:nu)(Y:x_)(c6:a_0)(n1:t≠g)(n2:t≠ls)(s:fM [t]):Bf:=by rw[d7 c4 mY,Ra,J6];have h7:oO [t] H:=qT ai;have d6:∀{I:Type}{c:kk}(_:j v x (c H v x) (∃a,v=bc)){l:Addr}{O:ba},dB c H l O->O≠[]->l∉[t]:=fun{I c}hR{l O}⟨d7,e,C⟩ne=>mZ (l≠t) (J (by rw[rD,a6 c6];injection e with e;injection e with e;rw[b_];cases O with|nil=>{exact ne rfl}|cons x O=>cases zs with|nil=>{rw[oc]}|cons z zs=>cases C with|cons a b=>obtain⟨B,d0⟩:=hR _ _ a;cases d0));rw[KP (mZ (b≠t) (qy e c6 (n _)))];exact a2 (sm q aT) (aI n1.symm) (aAM (fun x D mem z=>by rw[CB z,bbh];obtain⟨_,_,z1,h6,k7,_⟩:=(Y.LA D mem).GB;exact dc (sm M aT) (fy d.p z1 z1) (fy d.l h6 h6) (fy d.m k7 k7)) e9) (aI aFc) (aAM (fun x y mem z=>by have F:=aiL y mem;have c3:=s.ts h7;cases y with|lead row m=>{rw[K1 k];exact a a i7 b8 e ZG (l.sb dk s h7 (nT l (by have:=F.1.1;rw[am z,uu]))) (lR c3 k) a3}|erase i j=>{rw[ip z ZG]}|move k p=>{rw[y pv e q J z];exact a a pv e ZG (hK c3 J)}|mark i m=>{rw[y b8 e q J z];exact a a b8 e ZG (lR c3 J)}|drop k=>rw[ip z ZG]) f6)
theorem G8.told{u CR A:Addr}{H L:Hp}{k t:Addr}{o:PL}{N:bg}{zs:aQ}(h:ow H)(c6:a_0)(n:t∉N)(s:fM [t]):ow L:=by rw[KP cq];cases o with|none=>{rw[aLa];exact ah dx (sm e cq)}|some R=>rw[nx dx e];exact mB (sm e aT) (hR.told Y c6 aHk aHk s)
theorem a0Q{x:GlaKeeps.Call}{p:Nat}{ns d:ao}(h:GM.Mh x p ns d):aAo x p ns d:=by cases x<;>rw[aa (Int.ofNat_inj.mp h.1) h.2.1 h.2.2]
theorem a0R{p a b:Nat}(h:Ef (v p)=aa rR):fb au3 (.inl (v p))=aa (vn a)/\BJ jR aLd=ar b 1:=by have O:biQ:=by{rw[a4 Ef];by_cases z:biQ;rw[l z];{(repeat rw[i2 (by(intro;lia))]);rw[cH]}};rcases O with rfl|rfl|rfl|rfl|rfl|rfl|rfl|rfl|rfl|rfl|rfl|rfl|rfl<;>(rw[sM xJ])
inductive agH(K:Fg)(vs:af)(H:Hp)(Q:VK)(E:XK):Prop|mk:∀(l:Addr)(a3:ao),e [cC] (ij aHc) (Ae<=30000) (aFI (akH a3)=ab) ((j F L (aj F (B amn cp)) JH)->agH K vs H Q E)
section z
theorem aAN:a6o P w aj 16 (agH K):=by refine T.answers.go aUu aK;generalize aF=e3,az=A,aE=outer,aD=s,aB=H,aA=vs,aG=Q,aH=E;rw[aN,M fQ,aX,bW l a3,aw a5 c9 b3 B,Bx];obtain⟨cs,r,X,D,f6⟩:=GM.a0M b3;rw[ca (L tD (arl T.Ua.h (bN a0x aY) (aha ax) rfl T.aVN T.Ua.b .nil fu) (bU 2 tD Bb) (i 3 tD bD (F5 NX (ea lz bb nL) (i 4 tD (eS bb) (bU 5 tD (cZ (hv bb) (aTl T.aVI bQ rz))) (i 6 tD (ld (hv bb) cJ) (bU 7 tD Bb) (i 3 tD cJ (ak a_z bQ (GT T.aVy) (bU 3 tD (cZ (hv cJ) (eS cJ))) (bU 7 tD (ld (hv cJ) bb))) (i 8 tD (jo aq Ee T.Ub.h (eD a0G) a6 T.Ub.b .nil fu (yZ bQ ew kh)) (dG av (dO ki)) (fG (eJ av ki))))))) (de av)))];intro k dx e1 k6 g4;rw[y k dx ak gM,aj s0 (upd ZU k QZ) (afE e1 k6 g4)];have f5:F ZU k (aI hL []) k QZ=upd ZU k QZ:=yx;rw[e l7 ZU k QZ k QZ];rw[f5];rw[m ZU k QZ i s0 l7,v (by show a1 0;simp) (fun t h7=>?_)];have a4:=aE' (ac [] h7);have I:=bZ (o:=al9) h7 _ _ l7;rw[a d5 i t [] t []];have g8:Y t:=s0.free h7;rw[cj g9 t k,e i t [] a8 a4 I d5,ak (qO (∃(f:Nat)(cs:bK fC)(o:PL)(N:bg)(h8:aQ)(b1 i1 j5 j3 i9:jQ),m=ai1/\M=[tV,ac k,ac t,bI f,b1,i1,j5,j3,i9]/\f<=Ae/\akH (Af f)=E9/\D (V c cs aKH) bP (G8 bI dJ hL L k o N) (V b N gu) (aj t (akB cp)/\t∉N/\amn=h8++u5 (tq akF)))) (a _ 0 cs ae [k] [] ae ae (f ae ae ae rfl cS r X (c a4 (ah dx I) (lb (t (show b=k by simpa using m) e1)) d5 (aI g9) D)))];clear r X D I d5 a4 l7 s0 f5 cs;rintro m M L⟨f,cs,o,N,h8,b1,i1,j5,j3,i9,rfl,rfl,c2,r,X,J,a7,hN,c6,e6,D⟩;rw[n8 aHd,ko];{rw[eC C (f<Ae) c,ca aaT];cases cs with|nil=>{exfalso;rw[it r,bY GM.UX sR];have:Ae-f=0:=this;exact yv this.l C (aS Ae f)}|cons cc cs=>obtain⟨h1,ask⟩:=X cc (fx ..);obtain⟨x,p,ns,W,b,n,S,a0,h2,U,v,h3⟩:=GM.a0P h1 ask r;obtain⟨f9,sw⟩:=a0R h2;rw[cE e5 f p v,s l jR aHd (dZ (j:=f) (p5 e5)) ?_,y (.inl (v p)) (vn zr) f9 ?_];have dl:Af f=p::(ns++aJm++n):=by{trivial};have c5:Af (f+1)=ns++(aJm++n):=by{rw[<-HZ,dl];exact dv _ _ _};have c7:Af nj=aJm++n:=by{rw[<-HZ,c5,aim]};have b4:v f+1+v zr=Qk:=by{rfl};have b9:v f+1=ae (f+1):=by{rfl};delta F6;dsimp only;rw[b4];rw[dl aHd J4];have h4:jq aHc (oL f) (aa Qk)=ji:=by{rw[b9,UU,c5,a0 (nj-(f+1)) zr (a6n ..),ain]};rw[h4];rw[T a4 L (U L d ji) nd,ar d2 L ji ji,i L d ji b7 a4 d2,v (by show a1 0;exact cS) (fun c4 Y=>?_),P b5 L (U b7 c4 []) (lD Y),a q2 b7 c4 [] c4 [],h d6 b7 c4 [] d ji Y d2,e b7 c4 [] d4 b5 q2 d6];intro j k4;refine f j _ (.inr k4) (ah rfl ?_);rw[i_ (BJ jR aLd)];rw[sw];refine fH (fun d1=>?r1) (fun d1=>?r2);(case' r1=>have h5:b=ab:=by{cases b with|true=>{rfl}|false=>simp at d1};subst h5;have c7:Af nj=fj::(W++n):=c7;rw[cE g7 nj fj c7];have a9:Af (nj+1)=W++n:=by{rw[<-HZ,c7];rfl};have b8:Af aau=n:=by{rw[<-HZ,a9,aim]};rw[cF h6 fj a9 (cf CZ (qS Ae (nj+1))),s l (vn fj) (os (akI b5)) (dZ (j:=nj) (p5 g7)) ?_];have e7:Qk+1+v fj=ae aau:=by{lia};have g5:Qk+1=ae (nj+1):=by{lia};rw[j9 3 (cp (Qk+1+v fj))];rw[e7];rw[dl (os (akI b5)) aJ0];have h9:jq aHc (aa (Qk+1)) (aa (ae aau))=Qa:=by{rw[g5,UU,a9,a0 (aau-(nj+1)) fj (a6n ..),ain]};rw[h9];rw[P d9 L (U d4 c0 Qa) (fi (bZ c1)),a i6 d4 c0 Qa c0 Qa,h e2 d4 c0 Qa d ji c1 d6,e d4 c0 Qa e4 d9 i6 e2,Gp aau];rw[<-Z]at b8;rw[<-Z];have d7:b6<=Ae:=by rw[iZ (bx g7),it a9,bY sR cj];exact hq Z.l (aR lt) CZ);(case' r2=>have d0:b=ah:=by{cases b with|false=>{rfl}|true=>simp at d1};rw[xV];have q:W=[]:=U rfl;rw[e_];have b8:Af nj=n:=c7;have h6:([]:ao).length<=Ae:=cS;rw[cF d7 nj c5 (RR (aR C) CZ)];obtain⟨e4,d9,i6,e2,b0⟩:I z (cY L z) (b7 (z c4) (jH ([]:ao))) (b7 (z d) ji/\z=d4):=a d4 b5 q2 d6 rfl;rw[<-b0];obtain⟨c0,G⟩:∃z,z=c4:=ek;rw[<-G]at i6;rw[<-G];rw[Gp nj];rw[<-Z]at b8 d7;rw[<-Z]);all_goals obtain⟨f7,i0,i5,c3⟩:=(a7.mono d9).k;have d3:=a7.mono d9;have i2:aiR (tq akF) cc=Ac o x:=GM.aSU o S;have e8:amn=h8++((v aGZ::O2)++u5 (Ac o x).1):=by{rw[D,<-i2];rfl};have d8:h8.length+(1+aGZ)<=10000000:=by{rw[it e8];rw[cj,cj,ie]at this;exact cf CZ f6};rw[b k i0 c3 EM k o (a N x p ns _ d c0 rfl (a d3 (a0Q a0) e2 i6 bL (gc d8) (fun F g6 g l8 sb O a i3 y k8=>?_)))];have c8:=fH c6;have e0:=sb _ _ c8 e6;rw[t i4 t F O c8 c8];have e9:t∉l8:=bo (cb (k8 t m) e6 (J (by rw[c8]at z;cases z)));rw[b (dq e0) F (ce a) t _ _ (aC rfl e0 (t bA (cf d8 fy)) ?_),c (dq ak) t F _ _ rfl ak (aJ (Y i4.symm a) (by rw[cj,bA,bA];show h8.length+1+_<=_;exact cf d8 fy))];have R:SB [t] g6 (U (aV g6 t (akB cp) (g0 (t (hL O2)))) t (akB cp++[g0 (t (hL O2))]++hL O2)):=(hs ei aT).put aT;rw[b ai1 jX b6 cs g l8 (h8++(v aGZ::O2)) _ (m _ _ d7 (t b8 h3) (a (fun c m=>X c (ck m)) ?_ (i3.told e0 e9 R) ?_ ?_ e9 ?_))];{intro b2 u e;have n1:b2∉N:=bo (C0 (hN b2 m));have n2:b2∉[t]:=by{have:b2≠t:=J (by rw[b4 g8 e,dU]);rw[gj]};exact R _ _ (sb _ _ ((akI d9) _ _ e) n1) n2};{intro b2 m;rw[cY (k8 b2 m),l (hN b2 z),l (e1 (akI d9) z)]};rw[l8 ak];{rw[e8,y,dv]}};{have C:Af f=[]:=by{simp at c;simpa using c};rw[C]at r;have:=GM.a0N X r.symm;rw[gq,S D amn h8 D (qQ _)];rw[<-D]at c6;exact(B t L c6)}
universe z
universe GA
section z
set_option tactic.hygienic true
namespace GA
open PySem PySem.Spec PyProof.Rows L2
theorem aAO{K:Fg}{O:af}{H:Hp}{Q:VK}{E:XK}(h:LJ K O H Q E):agH K O H Q E:=by rw[y r b S c2 h];cases S with|cons a3 a9=>cases a9;cases a3 with|lst c0 b3=>rw[c7 (L2.avj a.1 _ b3),b_];have q:da (PySem.W.Codec.inLen 0 30000 a.1&&a.1.all (PySem.W.Codec.inInt 0 8589934591)) ab:=r;rw[ib,ib]at q;have k0:akH aJu=a.1:=by{unfold GM.zs;rw[jz];rw[up a.1,j0 aoc];have:=Wi q.1.2 z c9;have:=(PySem.W.Codec.inInt_iff.mp this).1;show ae akG=z;omega};have c:hL a.1=bh aJu:=by{conv=>{lhs;rw[<-k0]};unfold GM.zs;rw[jz];rfl};rw[c]at c0;rw[y _ aJu c0 (v (t bA (PySem.W.Codec.inNat_iff.mp q.1.1).2) (t k0 b) (fun F L z=>c2 _ _ ?_))];rw[k0]at z;exact .lst (L2.fW.of z) (L2.avi _)
theorem a0S(a:Zt):aM7:=by apply qN;intro n;have z:= @a08 Zt (fu (¬aM7)) ⟨a,n⟩;have o:a6o P w aj 16 (LJ K):=⟨fun vs H Q E h=>aAN.len vs H Q E (aAO h),fun A eA s H i b1 vs Q E a6 U J S h=>aAN.run A eA s H i b1 vs Q E a6 U J S (aAO h)⟩;exact z (yJ o)
theorem fin{P:Program}{w:World}{K:Fg}{mg:dN}{t:Addr}(e:aaQ)(G:Bw)(A:f0 "answers" t):∃fd:FuncData,(nS (lD=(al3:cW).length) ((al3:cW).zip b1))/\∀base:iO,vQ aj->alL->ap 16 t fd al3 (LJ K):=by rw[cN (A.symm.trans (aMB).m)];injection q with q;injection q with q;rw[e_];obtain⟨D,m,kV,p,b3,g,e3,ct,z,c9,_⟩:=(aMB).F.ex;rw[aa (aMB).fd (fun s b1 hu=>?_) (fun aj _ _=>a0S (a P w K mg aj e G))];rw[c9];revert b1;exact GO (as (.of_eq rfl))
universe GA
universe z
section z
set_option tactic.hygienic true
open PySem PySem.W PyProof.Rows
theorem HX.walk{q:Program}{j:cW}{m:aHO}{J:OpenSpec}{d:DefRec}{a:mC aFJ}{run:cR->aM->X0}{G:cw Frag}(h:E K (G K) (K8 ur)):K8 (∃K:Frag,ur/\G K):=fun w s0 a4 mg D g⟨K,i,e⟩=>h K e w s0 a4 mg D g i
theorem HX.bj9:PySem.Challenge.rw_glassrecord_s01_answers.Holds:=by refine holds_os (XP:=XL HX.q3 []) (YP:=fun _ h=>HX.YH h) HX.lft (sU (of_eq_true e)) (fun _ _ _⟨K,i,e⟩k=>v K (Frag.In.keeps i k) e) (fun s e=>xl_of s (Ad e).1) XL.keeps bH bH bH (fun s e=>recFacts_of (Ad e).2) os_shapes HX.ws HX.co HX.br HX.xa ?_;refine HX.walk (fun K e=>L2.aU4 (k:=16) (T:=L2.so) (c5:=al3) (e8:=GA.LJ) (K:=as K) HX.ws rfl rfl (ah ax ax) (fun w h c=>c) (fun w mg t h c X G m=>GA.fin e (fun x v a=>match v with|some _=>mg_of X G a|none=>mg_none_of X G a) m) (fun K H O a _ i k x=>a a i k x (vJ z)) (fun _ _ _ _ z=>z))
universe z
end
theorem PySem.Challenge.cw_glassrecord_s01_answers_holds : PySem.Challenge.rw_glassrecord_s01_answers.Holds := by
 exact HX.bj9
