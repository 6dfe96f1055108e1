import PyProof.Rows.All
import KE.OsHead
import KE.OsGo
import Open.SpecLaws
import PyProof.SetKind
import Wide.All
import OpenK.AllK
import Wide.FinOn
import PyProof.EqAt
import PyProof.EqKinds
import PyProof.TupleCall
import KE.BitLaws
import KE.KSortTupG
import PySem.SetTable
import PySem.Sem
import PyProof.DictKeyH
import PyProof.TupleKey
import PyProof.IsRules
import PyProof.DictKinds
import PyProof.Rows.SetFrom
import PyProof.CollectIter
import KE.KDictList
import KE.KItemsList
import PyProof.ZipIter
import PyProof.EnumIter
import PyProof.ListNew
import PyProof.P3Eq
import PyProof.Rows.CallKwBuiltin
import PyProof.DictTruth
import KE.KMinBuiltin
import PyFlatLaws
import PySem.Challenge.RW_glassrecord_s01_answers
set_option compiler.extract_closed false
set_option Elab.async false
set_option linter.all false
set_option maxRecDepth 100000
set_option maxHeartbeats 0
set_option tactic.hygienic false
set_option genInjectivity false
set_option genSizeOf false
@[elab_as_elim] theorem rwE{α:Sort u}{b:α}{p:α→Prop}{a:α}(h:a=b)(e:p b):p a:=h▸e
@[elab_as_elim] theorem rwF{α:Sort u}{a:α}{p:α→Prop}{b:α}(h:a=b)(e:p a):p b:=h▸e
theorem aua(h:True:=by as_aux_lemma=>simp +arith only):True:=h
theorem aub(h:True:=by as_aux_lemma=>simp +arith):True:=h
theorem auc(h:True:=by decide):True:=h
theorem aud(h:True:=by first|exact .inl rfl|exact .inr rfl|exact .inr (.inl rfl)|exact .inr (.inr rfl)|assumption):True:=h
theorem aue(h:True:=by rfl):True:=h
theorem auf(h:True:=by first|exact(rfl:_=K)|exact(rfl:_=w)|exact(rfl:_=P)):True:=h
theorem aug(h:True:=by intro _;rfl):True:=h
theorem auh(h:True:=by with_unfolding_all rfl):True:=h
theorem aui(h:True:=by intros;rfl):True:=h
theorem auk(h:True:=by first|exact nobehind _ (by decide) (by decide)|rfl):True:=h
theorem aul(h:True:=by exact PassesOwn.never):True:=h
theorem aum(h:True:=by first|{exact nomark _}|rfl):True:=h
theorem aun(h:True:=by intro _ _;rfl):True:=h
theorem aus(h:True:=by(intro _ _ _ _ h;cases h;refine Eq.trans (congrArg List.length (by assumption)) ?_;rfl)):True:=h
open Lean in
local macro_rules|`(mutual $cs* end)=>do
  let c:=cs.map (·.raw)
  if !c[0]![1].isOfKind `Lean.Parser.Command.example then Macro.throwUnsupported
  let L:=c[1]![1][2][1][1][0][0][0][3]
  let rec ex(T:NameMap Syntax):Nat→Syntax→Syntax
    |n+1,.node _ k a=>
      match if k==`Lean.Parser.Term.app then T.find? (.num a[0]!.getId a[1]!.getNumArgs) else none with
      |some f=>ex ((f[0].getArgs.zip a[1]!.getArgs).foldl (fun m p=>m.insert (.num p.1.getId 0) (ex T n p.2)) {}) n f[2][2]
      |_=>
        let s:=Syntax.node .none k (a.map (ex T n))
        let l:=s[1].getArgs.back?.getD s
        let tm(x:Name)(y:Syntax):Syntax:=((T.find? (.num x 1)).map fun f=>(ex (({}:NameMap Syntax).insert (.num `a 0) y) n f[2][2])[1]).getD s
        let l:=if l.isOfKind `Lean.Parser.Term.paren then l[1] else l
        if k==`Lean.Parser.Tactic.rwSeq&&(s[2][1][0][1].isOfKind `Lean.Parser.Term.byTactic) then mkNullNode (s[2][1].getSepArgs.map (·[1][1]))
        else if k==`Lean.Parser.Tactic.rwSeq&&s[3].getNumArgs==0 then .node .none `Lean.Parser.Tactic.first #[s,mkNullNode #[mkNullNode #[s,mkNullNode ((s[2][1].getSepArgs.map fun r=>tm (if r[0].getNumArgs==0 then `zzA else `zzB) r[1]).push (tm `zzC s))],mkNullNode #[s,s.setArg 3 L]]]
        else if k==`Lean.Parser.Tactic.cases&&s[1].getNumArgs==1&&s[1][0][1].isIdent&&s[3].getNumArgs==0 then tm `zzD s[1][0][1]
        else if k==`Lean.Parser.Term.anonymousCtor&&l.isOfKind k then s.setArg 1 (mkNullNode (s[1].getArgs.pop++l[1].getArgs))
        else if k==`Lean.Parser.Command.universe then .node .none `Lean.Parser.Command.end #[.atom .none "end",mkNullNode #[s[1][0],mkNullNode]]
        else s
    |_,s=>(T.find? (.num s.getId 0)).getD (s.setInfo .none)
  let T:=c[0]![1][2][1][2][0].getSepArgs.foldl (fun m f=>m.insert (.num f[0][0].getId f[1][0].getNumArgs) (let b:=ex m 9999 f[1];if b[0].getNumArgs==0 then b[2][2] else b)) {}
  return mkNullNode ((c.extract 2 c.size).map (ex T 9999))
mutual
example:={
zzA a:=by first|refine rwE (a ..) ?_|rewrite[a]at ⊢
zzB a:=by first|refine rwF (a ..) ?_|rewrite[<-a]at ⊢
zzC a:=by try with_reducible rfl
zzD a:=by first|subst a|(injection a;done)|(injection a with zzE;subst zzE)|(injection a with zzE zzF;subst zzE;subst zzF)|cases (a)
aa:=some
ab:=true
ae:=none
ah:=false
aj:=base
au:=pins
av:=fW.of
ax:=Stmt
aJ:=r.pts.length
aK:=if_pos
aO:=s.heap.objs.size
bh:=s.heap
bj:=if_neg
bp:=r.pt
bx:=O.length
bA:=List.length_map
bF:=wpAny_bind
bH:=linesOf
bJ:=T.bjM
bL:=List
bO:=List.mem_of_getElem?
bY:=r.lines
bZ:=Option
cf:=Bool
cj:=wpAny_pure
ck:=List.length_append
cm:=a7.size
cp:=Nat.le_trans
cq:=V.int
cw:=decide
cx:=b.length
cy:=va.of
cz:=absurd
cA:=List.getElem?_map
cB:=mask
cF:=False
cG:=X.env
cH:=SB.of
cO:=prog
cS:=Value
c_:=Option.some.inj
da:=List.map_cons
dd:=List.getElem?_eq_getElem
de:=r.pts
df:=D.pts.length
dg:=t.mask
dq:=Value.ref
dr:=T.bjT
dw:=List.append_assoc
dz:=B.idxOf
dE:=Paired
dF:=s.toks
dI:=decide_eq_true
dJ:=path
dM:=T.bj1
dR:=r.lines.length
dS:=r.marks
dU:=T.bjN
ec:=l.length
ed:=decide_eq_false
ee:=Y.lt
ef:=s.cnt
ei:=Addr
er:=keep
es:=I.du
et:=Nat.mod_eq_of_lt
ez:=Nat.le_of_lt
eA:=autoParam
eB:=outer
eC:=X.prog
eD:=B.length
eE:=c.toNat
eK:=Nonempty
eL:=List.range
eM:=s.aP
eN:=m.at_
eO:=Y.length
eT:=List.length_take
eU:=ar.toArray
eV:=pure
eW:=turn
eX:=Int.le_of_lt
ff:=wpAny
fg:=Nat.lt_of_le_of_lt
fh:=List.map_append
fi:=row.length
fj:=b5.trans
fk:=W.length
fv:=Array
fw:=Heap.lt_size
fx:=List.mem_cons_self
fy:=f3.g
fJ:=Nat.lt_of_lt_of_le
fK:=List.mem_map
fL:=Z.length
fM:=r.marks.length
fY:=a4.heap.objs.size
fZ:=trivial
f_:=Z.lt
gb:=R.cur
gc:=a4.trans
gd:=T.bjQ
gf:=c.length
gg:=h.mono
gA:=String
gB:=congrArg
gC:=True
gD:=o.data
gE:=Nat.ne_of_lt
gF:=cLine
gG:=R.lines
gH:=Gla.le
gI:=T.bjU
gJ:=T.bj2
gR:=RelV
gS:=h'.get?
gU:=V.ref
gV:=D.marks
gW:=D.lines
gX:=a4.free
ht:=w.params
hv:=Ne.symm
hx:=Sum.inl
hy:=sizeLine
hC:=List.getElem?_append_left
hD:=List.mem_append
hF:=List.mem_cons
hH:=Int.mul_pos
hI:=Z.ok
hJ:=dm.go
hK:=T.bj4
h_:=F.length
ia:=Bool.and_eq_true
ib:=List.mem_cons.mp
ic:=List.length_cons
ie:=List.getElem_of_mem
ig:=Pt.below
ih:=A.length
ij:=r.near
ik:=m.at_.y
il:=m.at_.x
ip:=Nat.lt_or_ge
iq:=s.trans
ir:=O.size
iN:=Heap
iO:=Nat.lt_irrefl
iP:=Vals
iQ:=Bool.eq_iff_iff
iR:=vs.length
iS:=N.length
iT:=Int.toNat_natCast
iU:=if_false
iV:=decide_eq_true_eq
iW:=N.lay
iX:=r.lines.filter
iY:=inOrder
iZ:=p.more
i_:=aTT.nd
ju:=Nat.lt_trans
jv:=slot
jw:=model
jx:=PyData.eqv
jy:=List.map_map
jz:=m.glass
jA:=HEAD
jC:=n.toNat
jH:=T.bjS
jI:=Gla.within
jJ:=GM.aZd
kz:=l.map
kA:=c5.length
kB:=A.in1
kC:=lineBelow
kD:=m.painting
kE:=T.bjR
kF:=runEnd
lC:=b1.length
lD:=Heap.size_push
lE:=f.size
lF:=s.TypeIs
lG:=parts
lH:=R.ss.length
lI:=Prod.mk.inj
lJ:=T.bjY
lK:=D.pts
lL:=D.lines.length
lM:=Array.getElem?_eq_getElem
lN:=t.place
lO:=c0.length
lP:=a7.toList
lQ:=js.go
lR:=d8.take
mF:=h.objs.size
mG:=c1.heap
mH:=D.nx
mI:=X.mg
mJ:=s.heap.push
mK:=d.names
mL:=if_true
mM:=HT.lexLt
mO:=a.length
mP:=putK
mQ:=Int.lt_or_le
mR:=Nat.le_antisymm
mS:=T.hi
mT:=T.lo
mU:=markBelow
mV:=within
mW:=R.ss
mX:=h.at_
mY:=f9.trans
mZ:=d9.trans
m_:=c8.trans
nf:=GM.Ce
oO:=World
oP:=l.drop
oQ:=X.env.locals
oR:=X.stack
oS:=X.xe
oT:=PySem.mem_of_lookup
oU:=Nat.min_le_right
oV:=d7.length
oW:=List.not_mem_nil
oX:=List.find?_cons
oY:=d.length
oZ:=top2
o_:=s.row
pa:=l.Pairwise
pb:=r.lab'
pd:=J.inv
pe:=List.pairwise_cons
pf:=p.below
ph:=List.getElem?_append_right
pj:=List.flatMap_cons
pq:=made
ps:=B.pts
pw:=R.cs
pz:=bU.gr
pA:=GM.Tj
pB:=Array.getElem?_toList
pC:=D.lines.take
pD:=aT4.nd
qL:=Nat.le_of_eq
qM:=Classical.byContradiction
qN:=p.isList
qO:=List.mem_append_right
qP:=List.append_nil
qQ:=wpAny_call_entry
qR:=Nat.sub_le
qS:=List.forIn_cons
qT:=Nat.lt_or_eq_of_le
qU:=Nat.min_eq_left
qV:=List.pairwise_append
qW:=Z.sgn
qX:=d.len
qY:=List.mem_of_mem_take
qZ:=writePlan
q_:=GlaKeeps.ptOk
rd:=Gla.ptBytes
rf:=D.marks.length
rg:=e9.length
rh:=t.place.size
ri:=g.map
rj:=IsPair
rk:=aT3.nd
rl:=T.bjZ
sQ:=Prod.ext
sR:=List.length_drop
sS:=X.base
sT:=s.gens
sU:=I.ok.kind
sV:=I.list
sW:=A.units
sX:=List.getElem?_take_of_lt
sY:=IntsAre
sZ:=c8.heap.objs.size
s_:=merge
ta:=r.hN
tb:=r.row
tc:=Int.mul_nonneg
td:=Walk
te:=List.getElem_mem
tf:=half
tg:=arrOf
th:=r.outlines
tj:=below
tk:=List.any_eq_true
tl:=B.drawn
tm:=firstBad
tn:=marks
tp:=R.gr.first
tq:=o.map
tr:=leap
tu:=n.trans
tv:=gz.go
tw:=cZ.refl
tx:=GM.linesOf
tA:=Gla.markBelow
tD:=aUy.nd
vM:=Shared
vN:=K.lookup
vO:=Value.bool
vP:=List.mem_filter.mp
vQ:=K.In
vR:=a.names.lookup
vS:=X.fs
vT:=I.loc
vU:=List.mem_append_left
vV:=bootBuiltins
vW:=wpAny_truthy_bool
vX:=J.length
vY:=I.KA
vZ:=wpAny_holding
v_:=Nat.ne_of_gt
wd:=rawInt
we:=o.cls
wg:=sizeLine_eq
wh:=wpAny_mono
wj:=ar.toArray.size
wk:=Nat.lt_succ_of_lt
wm:=DecidableEq
wo:=z.symm
wq:=wpAny_specialOf
wt:=a6.units
wu:=Y.lo
wy:=s.side
wz:=Y.hi
wA:=J.lb
wB:=isOn
wC:=Z.below
wD:=Nat.min_le_left
wF:=T.le
wG:=Plan.outlines
wH:=List.idxOf_lt_length_of_mem
wI:=R.trans
wJ:=twice
wK:=ns.map
wL:=Fits
wM:=List.getElem?_range
wN:=F.marks
wO:=judgePlan
wQ:=p.length
wR:=Y.dl
wU:=R.gr
wV:=GlaKeeps.asked
wW:=b.map
wX:=ls.length
wY:=hq.mk
wZ:=GM.sx
w_:=N.lst
xb:=GM.yU
xc:=D.pt
xf:=d6.trans
xg:=KeepNeutral.nat
zi:=Option.map_eq_some_iff.mp
zj:=Nat.le_of_not_lt
zk:=h.get?
zl:=I.bare
zm:=s.drawn
zo:=I.du.fresh
zp:=getItem
zq:=d5.isList
zr:=ns.length
zt:=cellsFrom
zu:=lexLt
zv:=Bool.false_ne_true
zw:=List.map_nil
zx:=X.A.units
zy:=List.mem_map.mp
zz:=atKey
zA:=l.Nodup
zB:=l.filter
zC:=Gla.crosses
zD:=q.symm
zE:=Nat.sub_self
zF:=first
zG:=List.takeWhile_append_dropWhile
zH:=Y.below
zI:=List.getElem?_eq_none
zJ:=readSteps
zK:=GlaKeeps.long
zL:=s.seq
zM:=J.args
zN:=GM.iJ
zO:=h1.trans
zP:=List.flatMap_append
zQ:=lexLe
zR:=GM.eR
zS:=t.advance
zT:=t.slot
zU:=t.place.toList
zV:=T.ok
zW:=d.is
zX:=wpAny_letGo
zY:=aTX.nd
zZ:=GM.Lay
z_:=d0.trans
Aa:=T.bjX
Ab:=Gla.SAVED
Ac:=GM.dst
Ad:=Bool.and_eq_true_iff.mp
Ae:=a3.length
Af:=a3.drop
CI:=Prod.mk.injEq
CJ:=of_decide_eq_true
CK:=Gla.Step
CL:=Value.none
CM:=X.ex
CN:=mainGlobals
CO:=s.os
CP:=I.cell
CQ:=I.tuple
CS:=rv.length
CT:=h.IsListIter
CU:=r.list
CV:=V.bl
CW:=True.intro
CX:=e.symm
CY:=kindOf
CZ:=this.g
C_:=Heap.get?_update_self
Dc:=HT.yG
Dd:=I.laid
De:=s.heap.IsList
Df:=PyData
Dg:=Bool.false_eq_true
Dh:=valueAt
Di:=K.map
Dj:=Nat.min_eq_right
Dk:=J.bjz
Dl:=aQ4.mpr
Dm:=Z.km
Dn:=Int.mul_neg_of_neg_of_pos
Dq:=sooner
Dr:=clear
Ds:=List.map_take
Dt:=List.map_drop
Du:=or_false
Dv:=bump
Dx:=last
Dy:=noneSeen
Dz:=f.length
DA:=List.take_append_drop
DB:=List.getElem?_drop
DD:=touches
DE:=c.map
DF:=C.lay
DG:=ptPlace
DH:=taken
DI:=Y.cur
DJ:=List.take_of_length_le
DK:=l.heap
DL:=GM.hZ
DM:=Gla.parts
DN:=GM.Fits
DO:=Gla.lineBelow
DP:=D.near
DQ:=hashAt
DR:=List.filter_append
DS:=g.getD
DT:=pre.length
DU:=t.led
DV:=List.take_succ
DW:=wpAny_setField_rec
DX:=B.drop
DY:=aTY.nd
DZ:=T.bjV
D_:=s0.cnt
Ea:=GM.dj
Eb:=GM.yK
Ec:=Gla.endsAt
Ed:=T.bj3
Ee:=T.bj5
Ef:=PyYqglha.shape
Ha:=SharedT
Hb:=s.abs
Hc:=Str.ofString
Hd:=Nat.lt_of_not_le
He:=l.take
Hf:=Gla.Mark
Hg:=O.drop
Hh:=O.map
Hi:=X.F1.heap.objs.size
Hj:=AllBare
Hk:=List.filterMap_cons
Hl:=I.free
Hm:=I.len
Hn:=s.heap.get?
Ho:=Heap.SameBut
Hq:=h.elim
Hr:=iter
Hs:=codeAny
Ht:=V.bC
Hu:=List.size_toArray
Hv:=Obj.mapSeq
Hw:=ar.length
Hx:=List.all_eq_true
Hy:=keys
Hz:=Decidable
HA:=c1.aP
HB:=I.gap
HC:=r.aQL
HD:=I.aQJ
HE:=r.bjx
HF:=Nat.max_eq_right
HG:=List.perm_ext_iff_of_nodup
HH:=Nat.add_zero
HI:=side
HJ:=Nat.le_of_lt_succ
HK:=Z.wx
HL:=Nat.le_max_right
HM:=passes
HN:=onLines
HP:=C.row
HQ:=edgePts
HR:=r.pts.contains
HS:=bjA.mp
HU:=d.same
HV:=firstAt
HW:=d8.map
HY:=Nat.pow_succ
HZ:=Bytes
H0:=List.drop_drop
H2:=numbered
H3:=r.drawn
H4:=C.marks
H5:=endsAt
H6:=take
H7:=Plan
H8:=readRecord
H9:=L2.St
H_:=List.take_length
Ia:=T.bjP
Ib:=T.bjO
Ic:=Gla.num
Ie:=Gla.markBytes
Ig:=Gla.MAGIC
Ih:=x.toNat
Ii:=j0.length
Ij:=GM.Cm
Ik:=p.perturb
Il:=Probe
Im:=turns
Io:=bits
Ip:=c3.g
Iq:=t.plain
Ir:=T.size
Iu:=Holds
Iv:=call
Iw:=List.mem_map_of_mem
Iy:=wpAny_nextOf_list_item
Iz:=sa.extBut
IA:=IsList.at'
IB:=argBest
IC:=c8.extBut
ID:=a4.extBut
IE:=f6.isList
IF:=i9.trans
IG:=decide_eq_true_iff
IH:=Gla.edgePts
II:=T.bjW
IJ:=GM.dv
IK:=G.getD
IL:=GM.vm
IM:=aTw.nd
IP:=GM.Lx
IQ:=aUa.nd
IS:=T.bjL
IT:=GM.auY
Mj:=Program
Ml:=List.lookup
Mm:=l.filterMap
Mn:=default
Mo:=a7.toList.map
Mq:=left
Mr:=Nat.sub_add_cancel
Ms:=Gla.Fault
Mt:=UInt8
Mu:=Value.type
Mv:=Paired.length
Mw:=IsTup
Mx:=X.outer
My:=I.ok.above
Mz:=I.step
MA:=I.pin
MB:=List.getElem?_set_self
MC:=I.bjm
MD:=starEach
ME:=compareOp
MF:=ar.toList
MG:=ar.size
MH:=its'
MI:=swapsWith
MJ:=pos.line
MK:=I.kept
ML:=X.env.scope.names.lookup
MM:=pyIter
MN:=letOwnedTupleGo
MO:=step
MP:=PySem.W.emptyDict
MQ:=c5.zip
MR:=False.elim
MS:=codeAny_mono
MT:=start
MU:=d.names.lookup
MV:=List.length_nil
MW:=IsPart
MX:=intsAre_of
MY:=List.any_cons
MZ:=List.all_cons
M0:=Dp.reads
M1:=forIn
M3:=List.forIn_nil
M4:=List.length_set
M5:=wpAny_newObj_type
M6:=F.map
M7:=o.isSome
M8:=c1.side
M9:=Nat.le_total
M_:=I.bjy
Na:=I.dQ
Nb:=J.step
Nc:=Kept
Nd:=P.ret
Nf:=aQ4.mp
Ng:=List.getElem_map
Nh:=q.below
Ni:=List.pairwise_iff_getElem.mp
Nj:=Int.mul_nonpos_of_nonneg_of_nonpos
Nk:=between
Nl:=List.mem_append.mp
Nm:=List.pairwise_map
Nn:=List.mem_filter
Np:=N.lay.ok
Nq:=r.outlines.length
Nr:=D.bjB
Nt:=T.Ll
Nu:=seen
Nv:=d.getD
Nw:=d.le
Nx:=f.set
Ny:=Plan.drawn
Nz:=List.contains_iff_mem.mp
NA:=begun
NB:=runOf
NC:=r.among
ND:=d8.length
NF:=r.fault
NG:=numLe
NH:=l.flatMap
NI:=List.ext_getElem?
NJ:=pairs
NK:=List.mem_eraseDups.mp
NL:=row.filter
NM:=C.ord
NN:=r.panes
NO:=pts.length
NP:=r.pts.idxOf
NQ:=Y.len
NR:=R.ss.take
NS:=bU.add
NT:=onRecord
NU:=A.go
NV:=List.eq_nil_of_length_eq_zero
NW:=Codec.encAll
NX:=Gla.turn
NY:=PassesOwn.never
NZ:=GM.aeU
N0:=Gla.HEAD
N1:=Gla.writePlan
N2:=f6.length
N3:=g.length
N4:=aTW.nd
N5:=Y.mask
N6:=t.probeStart
N7:=insertAt
N8:=g.size
N9:=T.rise
N_:=Obj.putSet
Oa:=List.mem_singleton
Ob:=codeAny_builtin
Oc:=sb.extBut
Od:=h'.IsListIter
Oe:=Y.map
Of:=wpAny_Call_Name_kw
Og:=F.plain_min_loop
Oh:=intItems
Oi:=f9.extBut
Oj:=and_true
Ol:=List.cons.injEq
Om:=GM.Cj
Oo:=T.bj0
Oq:=a9.GC
Ot:=vs.drop
Ou:=h.nt
Ov:=GM.Tv
Ow:=aUl.nd
Ox:=GM.bN
Oy:=T.bj6
Oz:=aTy.nd
U0:=Array.mk
U1:=importedModules
U2:=PySem.W.Frag
U3:=FuncData
U4:=PySem.W.keepIn
U5:=R.prog
U6:=Int.ofNat_lt.mpr
U7:=Gla.Plan
U8:=Sum.inr
U9:=PySem.W.instObj
U_:=G.length
Va:=tupleKind
Vb:=List.mem_filter.mpr
Vc:=X.env.cells.lookup
Vd:=M.length
Ve:=I.ok
Vf:=GenState
Vg:=List.getElem?_set_ne
Vh:=c1.gens
Vi:=c1.os
Vj:=h.out
Vk:=Array.length_toList
Vl:=X.R8
Vm:=assign
Vn:=Builtin.Range.rangeSize
Vo:=auc._auto_1
Vp:=Nat.succ_le_succ
Vq:=G.lookup
Vr:=I.write
Vs:=J.append
Vt:=List.replicate
Vu:=vs.map
Vv:=i.size
Vw:=i.toNat
Vx:=s.heap.update
Vy:=h'.objs.size
Vz:=t.toArray
VA:=bs.map
VB:=Vals.bju
VC:=NameKind.free
VD:=F.any
VE:=d.val
VF:=j.typeIs
VG:=Nat.le_sub_one_of_lt
VH:=DictEntry
VI:=Int.mul_le_mul_of_nonneg_left
VJ:=Nat.max_eq_left
VL:=J.st
VM:=Y.nd.filter
VN:=I.pos
VO:=C.mN
VP:=C.mE
VQ:=d5.half
VR:=Nat.sub_pos_of_lt
VS:=List.nodup_iff_pairwise_ne
VT:=P.pos
VU:=Nat.add_comm
VW:=q.trans
VX:=Int.mul_nonpos_of_nonpos_of_nonneg
VY:=z.below
VZ:=Nat.pos_of_ne_zero
V0:=Nat.mod_lt
V1:=E.length
V2:=spans
V3:=Z.nd.filter
V4:=List.pairwise_cons.mp
V5:=frameOk
V6:=Plan.round
V7:=List.mem_flatMap
V8:=List.mem_eraseDups
V9:=D.fin
V_:=D.head
Wa:=T.sym
Wb:=T.inj
Wc:=l.set
Wd:=Array.getD
We:=I.size
Wf:=z.size
Wg:=d.root
Wh:=d.found
Wi:=row.drop
Wj:=row.takeWhile
Wk:=List.all_eq_true.mp
Wl:=cuts
Wm:=r.nears
Wn:=Y.inj
Wo:=r.pts.take
Wq:=B.lines
Wr:=Bool.eq_false_iff.mpr
Ws:=List.contains_iff_mem
Wt:=Nat.le_max_left
Wu:=List.filter_congr
Wv:=l.Perm
Ww:=Mark
Wx:=Function.comp
Wy:=r.marks.map
Wz:=List.drop_eq_getElem_cons
WA:=alongLine
WB:=leftOf
WC:=markOk
WD:=size_eq
WE:=List.getD_eq_getElem?_getD
WG:=T.marks
WH:=R.add
WI:=Y.take
WJ:=callerA
WK:=rw_glassrecord_s01_answers.args
WL:=Gla.Pt.below
WM:=Gla.linePlace
WN:=b5.seq
WO:=aTD.nd
WQ:=d9.free
WR:=c8.free
WS:=T.bjK
WT:=HT.lexLe
WU:=Gla.firstBad
WV:=HT.vA
WW:=List.getElem_range
WX:=GM.Lk
WY:=List.nodup_range
WZ:=cands
W0:=List.getElem?_eq_some_iff.mpr
W2:=t'.mask
W3:=c3.l
W4:=I.val
W5:=B.toList
W6:=hashOf
W7:=c.size
W8:=Value.int
W9:=hG.mem
W_:=wpAny_of_eq
Xa:=argsOk
Xb:=wpAny_pyIter_slot
Xc:=wpAny_rule
Xd:=Builtin.SmallTypes.ownedTupleIsFree
Xe:=a.extBut
Xf:=wpAny_nextOf_list_end
Xg:=f.getD
Xh:=r.nd
Xi:=Gla.Pt.mk.injEq
Xj:=c.symm
Xk:=List.getElem?_eq_some_iff.mp
Xl:=List.range'
Xm:=GM.aSs
Xn:=B.drawn.length
Xo:=GM.Ck
Xp:=c.take
Xq:=GM.L7
Xr:=s0.row
Xs:=d5.at_
Xu:=aTR.nd
Xv:=r.pts.drop
Xw:=d5.sw.k
Xx:=GM.yQ
Xy:=W.take
Xz:=GM.yR
XA:=c0.take
XB:=GM.aeM
XC:=aT8.nd
XD:=GM.auv
XE:=aTU.nd
XF:=dC.mono
XG:=Gla.inOrder
XH:=s.free
XI:=T.MARK
XJ:=GM.LA
XM:=a9.mono
XN:=row.all
XO:=PyYqglha.answers
XQ:=b5.extBut
agK:=Thread
agL:=s.abs.heap
agM:=Params
agN:=List.lookup_cons
agO:=GA.aNi
agP:=R.prog.main.body
agQ:=h.symm
agR:=Int.not_lt.mp
agS:=Classical.choose
agT:=h.Ns1
agU:=Un.kept
agV:=env.kindOf
agW:=I.base.free
agX:=s.heap.FunFrames
agY:=I.ok.R4
agZ:=I.os
ag0:=isTrue
ag1:=aug._auto_1
ag2:=wpAny_execs_nil
ag3:=assignEach
ag4:=D.lp
ag5:=b5.heap
ag6:=Bool.false_and
ag7:=r.kept
ag8:=T.keep
ag9:=Bool.and_false
ag_:=attributeBase
ag':=A.depth
aha:=J.un
ahb:=A.deeper
ahc:=a6.mono
ahd:=bindL
ahe:=bindC
ahf:=J.get
ahg:=envOfC
ahh:=PyProof.Rows.callWith_type1
ahi:=PySem.wpAny_ite_true
ahj:=Builtin.Slice.slicePlaces
ahk:=c6.typeIs
ahl:=subscripted
ahm:=r.du.fresh
ahn:=call_meets
aho:=Nat.le_succ_of_le
ahp:=List.range_succ_eq_map
ahq:=a5.isList
ahr:=X.env.scope
ahs:=wipe
aht:=pyNext
ahu:=c1.toks
ahv:=Bool.or_eq_true
ahw:=List.cons_append
ahx:=storedH
ahy:=sysModules
ahz:=tupleKind_room_in1
ahA:=j.mapOf
ahB:=I.big
ahC:=a4.toks
ahD:=Int.ofNat_sub
ahE:=Turn
ahF:=aud._auto_1
ahG:=Int.mul_lt_mul_of_pos_left
ahH:=Z.map
ahI:=c1.cnt
ahJ:=R.lines.filter
ahK:=h.trans
ahL:=F.last
ahM:=F.zero
ahN:=f.snd
ahO:=e.snd
ahP:=Y.kle
ahQ:=GM.rv
ahR:=Nat.mod_self
ahS:=X.rv
ahT:=d5.inj
ahU:=List.pairwise_iff_getElem
ahV:=P.min
ahW:=Nat.sub_lt
ahX:=Nat.one_pos
ahY:=Flow
ahZ:=Int.mul_neg_of_pos_of_neg
ah0:=Bool.true_and
ah1:=Eq.trans
ah2:=List.mem_append.mpr
ah3:=List.nodup_append
ah4:=l.zip
ah5:=l.getLast?
ah6:=aQV.mpr
ah7:=chained
ah8:=fromLeast
ah9:=Nat.sub_zero
ah_:=N.conn
ah':=N.start
aia:=List.filter_cons_of_pos
aib:=insideOf
aic:=DInv
aid:=D.seen
aie:=List.mem_of_mem_head?
aif:=T.aef
aih:=List.getElem_idxOf
aii:=I.base
aij:=spread
aik:=seenFrom
ail:=z.getD
aim:=d.get
ain:=row.take
aio:=List.head?_dropWhile_not
aip:=List.drop_left
aiq:=List.take_left
air:=row.dropWhile
ais:=Int.mul_eq_zero.mp
ait:=Int.mul_nonneg_of_nonpos_of_nonpos
aiu:=hd.map
aiv:=p.mem_iff.mp
aiw:=l.eraseDups
aix:=b.below
aiy:=Plan.fault
aiz:=a.at_
aiA:=Nat.mul_comm
aiB:=List.drop_eq_nil_of_le
aiC:=MAGIC
aiD:=F.pts
aiE:=partedAt
aiF:=lines
aiG:=List.map_congr_left
aiH:=r.drawn.flatMap
aiI:=List.eraseIdx_sublist
aiJ:=List.length_filter_le
aiK:=Clean
aiL:=d8.Perm
aiM:=Y.get
aiN:=after
aiO:=Y.fit
aiP:=R.gr.done
aiQ:=stepSize
aiR:=UInt8.ofNat
aiS:=Gla.bare
aiT:=asked
aiU:=KeepNeutral.step
aiV:=List.filterMap_append
aiW:=List.getElem?_zip_eq_some
aiX:=Y.tok
aiY:=Option.some.injEq
aiZ:=c5.map
ai0:=b1.map
ai1:=WData
ai2:=WellAll
ai3:=HO.yw
ai4:=cs.length
ai5:=a6.bjq
ai6:=h.p.mono
ai7:=Gla.ptPlace
ai8:=c2.length
ai9:=aTv.nd
ai_:=HT.bjr
ai':=b.drop
aja:=Gla.ptAt
ajb:=bitAnd_m8
ajc:=PyData.eqvAll
ajd:=PyData.depth
aje:=PyData.depthAll
ajf:=PyData.canLay0
ajg:=PyData.canLayAll0
ajh:=d7.map
aji:=Gla.LARGEST
ajj:=T.bjJ
ajk:=aTG.nd
ajl:=GM.at7
ajm:=b.set
ajn:=GM.Cg
ajo:=List.flatMap_singleton
ajp:=GM.GD
ajq:=GM.GF
ajr:=aT1.nd
ajs:=aT2.nd
ajt:=f.take
aju:=c5.take
ajv:=aT5.nd
ajw:=h.len
ajx:=aTV.nd
ajy:=B.map
ajz:=List.range_succ
ajA:=List.map_set
ajB:=N.mono
ajC:=Gla.made
ajD:=a7.toList.take
ajE:=SetTable.grown
ajF:=Bool.not_false
ajG:=U.trans
ajH:=hG.nd
ajI:=tupK
ajJ:=W.done
ajK:=PySem.wpAny_loadPart'
ajL:=x.at_
ajM:=room_in
ajN:=s.heap.IsListIter
ajO:=W.keep
ajP:=F.plain_extend_loop
ajQ:=h.IsList
ajR:=F.slot_zip_iter
ajS:=D.l2i1
ajT:=D.l2z
ajU:=D.l1z
ajV:=e9.isList
ajW:=wpAny_tryCatch
ajX:=numAt
ajY:=d9.extBut
ajZ:=f.map
aj0:=aT6.nd
aj1:=Sum.inl.inj
aj2:=GM.Ls
aj3:=u.mono
aj4:=T.list
aj5:=l1.trans
aj6:=r.trans
aj7:=List.takeWhile_cons_of_neg
aj8:=List.takeWhile_cons_of_pos
aj9:=j.symm
aj_:=a9.length
aj':=PySem.F.plainAttrs_list
aka:=s0.row.length
akb:=e6.trans
akc:=sb.ts
akd:=sb.trans
ake:=Y.at_
akf:=GM.Cd
akg:=iH.mp
akh:=h.ne
aki:=ls.filter
akj:=GM.Cf
akk:=D.marks.map
akl:=m3.at_
akm:=D.lines.filter
akn:=c0.map
ako:=aT7.nd
akp:=a7.length
akq:=a4.seq
akr:=r.drawn.take
aks:=aUb.nd
akt:=aUc.nd
aku:=vs.take
akv:=Y.few
akw:=a3.mono
akx:=GM.GG
aky:=aUo.nd
akz:=Gla.judgePlan
akA:=hR.mono
akB:=Gla.stepBytes
akC:=aUk.nd
akD:=Gla.readRecord
akE:=h8.map
akF:=r.free
akG:=GM.LD
akH:=UInt8.toNat
akI:=GM.bU.gr
akJ:=z.toNat
akK:=GM.zs
akL:=J.trans
akM:=aua._auto_1
akN:=b.take
akO:=a7.take
aAT:=stepT
aAU:=denote
aAV:=stepOk
aAW:=through
aAX:=boot_toks
aAY:=boot_drawn
aAZ:=laidKept
aA0:=gensDone
aA1:=namesBound
aA2:=staticsOk
aA3:=PySem.W.fnOf
aA4:=PySem.W.plainOver
aA5:=P.main.body
aA6:=e.trans
aA7:=Int.le_trans
aA8:=Int.ofNat_le.mpr
aA9:=Nat.lt_of_le_of_ne
aA_:=Classical.choose_spec
aA':=Value.isInt_shape
aBa:=intKind
aBb:=builtinsNs
aBc:=env.cells.lookup
aBd:=X.F1.heap.get?
aBe:=X.fn
aBf:=X.env.kindOf
aBg:=X.env.scope.kind
aBh:=I.ok.aNM
aBi:=I.ok.mod
aBj:=I.ok.has
aBk:=backTo
aBl:=wpAny_Name
aBm:=isTrue_plain
aBn:=inplaceOp
aBo:=M.set
aBp:=wpAny_standAt
aBq:=wpAny_pyIter_list
aBr:=j.toNat
aBs:=wpAny_passesOwn
aBt:=T.obj
aBu:=truthy
aBv:=i.toList
aBw:=Bool.or_false
aBx:=O.isEmpty
aBy:=PySem.W.lookIn
aBz:=PySem.W.plainGet_of
aBA:=getAttr
aBB:=PySem.W.takerIn
aBC:=beq_eq_false_iff_ne.mpr
aBD:=G.map
aBE:=Heap.get?_push_size
aBF:=Code.isFrame
aBG:=Around.under
aBH:=Calls.spliced_nil
aBI:=BindsTo
aBJ:=wpAny_call
aBK:=Y.after
aBL:=Keyword
aBM:=a.names
aBN:=P.zip
aBO:=List.length_replicate
aBP:=List.take_sublist
aBQ:=SeqAt.EqAt
aBR:=AutoSeq1.sub_tuple_tuple
aBS:=typeLookup
aBT:=Subscript_
aBU:=operate
aBV:=k.toNat
aBW:=Heap.get?_update_other
aBX:=List.length_singleton
aBY:=Walks.list
aBZ:=Dp.readsAll
aB0:=NameKind
aB1:=mem_lookup
aB2:=Nat.le_of_succ_le
aB3:=pushCells
aB4:=d.map
aB5:=own.map
aB6:=List.mem_map.mpr
aB7:=ok.uniq
aB8:=g.cells.lookup
aB9:=g.kindOf
aB_:=ok.kind
aB':=compEnvC
aCa:=Bool.false_or
aCb:=Bool.true_or
aCc:=Option.map_some
aCd:=ItemsAre
aCe:=Option.isSome_map
aCf:=List.nodup_nil
aCg:=Nat.le_refl
aCh:=wpAny_pyIter_enum
aCi:=Int.mul_le_mul_of_nonpos_left
aCj:=Int.le_total
aCk:=Int.mul_lt_mul_of_neg_left
aCl:=Nat.lt_min.mpr
aCm:=Step
aCo:=l.reverse.map
aCp:=E.reverse.map
aCq:=a5.length
aCr:=List.getElem?_inj
aCs:=this.symm
aCu:=List.length_erase_of_mem
aCv:=R.lines.length
aCw:=Plan.pt
aCx:=beq_self_eq_true
aCy:=Clock
aCz:=List.mem_reverse
aCA:=Plan.next
aCB:=l.head?
aCC:=r.round
aCD:=twiceArea
aCE:=LawfulBEq
aCF:=Plan.among
aCG:=List.mem_range
aCH:=D.chain
aCI:=T.child
aCJ:=first.setIfInBounds
aCK:=first.getD
aCL:=Plan.nears
aCM:=List.perm_middle
aCN:=Tree
aCO:=Int.mul_zero
aCP:=beq_iff_eq
aCQ:=r.lines.take
aCR:=B.drawn.contains
aCS:=List.pairwise_cons.mpr
aCT:=Bool.or_eq_false_iff
aCU:=Y.wide
aCV:=l.takeWhile
aCW:=I.mem
aCX:=r.pts.dropWhile
aCY:=Time
aCZ:=decide_false
aC0:=List.filter_cons
aC1:=r.lines.flatMap
aC2:=List.length_range
aC3:=F.lines
aC4:=Iff.rfl
aC5:=C.ord.lt
aC6:=sidesOf
aC7:=partsTwo
aC8:=List.mem_flatMap.mp
aC9:=List.flatMap_map
aC_:=marks.length
aC':=List.length
aDa:=List.take_succ_eq_append_getElem
aDb:=Y.first
aDc:=R.ss.drop
aDd:=R.gr.undone
aDh:=UInt8.toNat_inj.mp
aDi:=UInt8.toNat_ofNat'
aDj:=markAt
aDk:=LARGEST
aDl:=SMALLEST
aDm:=GlaKeeps.step
aDn:=e.place
aDo:=GlaKeeps.markOk
aDp:=d0.stop
aDq:=List.filterMap_nil
aDr:=GM.bU
aDs:=Nat.succ.inj
aDu:=m.map
aDv:=List.map_inj_left.mp
aDw:=c.enc
aDx:=WData.weightAll
aDy:=d.weight
aDz:=b1.toArray
aDA:=vs.toArray
aDB:=l.heap.Ns
aDC:=Bool.noConfusion
aDD:=Codec.denoteAll
aDE:=Int.ofNat.inj
aDF:=h.m.mono
aDG:=Gla.markPlace
aDH:=D.size
aDI:=Gla.markAt
aDJ:=PyData.int
aDK:=lay_ints
aDL:=SeqAt.shaped
aDM:=Gla.MARKS
aDN:=Gla.LINES
aDO:=Gla.POINTS
aDP:=Gla.SMALLEST
aDQ:=decide_eq_decide.mpr
aDR:=p.trans
aDS:=Gla.Bytes
aDT:=b.flatMap
aDU:=aTK.nd
aDV:=Nat.add_assoc
aDW:=Y.Nodup
aDX:=List.sum_append
aDY:=o.set
aDZ:=o.length
aD0:=o.getD
aD1:=path.length
aD2:=SetTable.advance
aD3:=probe.go
aD4:=SetTable.slot
aD5:=SetTable.has
aD6:=Nat.add_le_add
aD7:=below.go
aD8:=layClean.free
aD9:=Nat.lt_succ_of_le
aD_:=c0.toArray
aD':=t'.place.toList
aEa:=SetTable.fill
aEb:=t.put
aEc:=hashByValue
aEd:=HeapKind
aEe:=F.slot_tuple_hash.lookup
aEf:=c4.heap
aEg:=K.length
aEh:=W.item
aEi:=PyProof.Rows.F.plain_set_update_loop
aEj:=c4.mono
aEk:=wpAny_askSetting
aEm:=not_or
aEn:=wpAny_runValue
aEo:=PySem.wpAny_load'
aEp:=Builtin.«set_iterator.__next__»
aEq:=entryFor
aEr:=List.eraseIdx_eq_take_drop_succ
aEs:=left.length
aEt:=pickOrder.go
aEu:=x.plain
aEv:=setsByText
aEw:=Obj.data_mapFields
aEx:=wpAny_setField
aEy:=Array.getElem?_eq_none
aEz:=wpAny_isInstance
aEA:=Builtin.List.listLengthHint
aEB:=x.keep
aEC:=tupKeyC
aED:=tupKindC
aEE:=pairsOf
aEF:=a3.push
aEG:=HT.aPc
aEH:=a9.mem_iff.mp
aEI:=wpAny_tupleItemsOf
aEJ:=D.i1z.symm
aEK:=D.i2z.symm
aEL:=wpAny_newTuple
aEM:=sd.extBut
aEN:=wpAny_updateSeq
aEO:=Value.type.inj
aEP:=Builtin.List.listExtendWith
aEQ:=wpAny_pyIter_zip
aER:=F.entry_min_loop
aES:=W.frame
aET:=D.i2z
aEU:=D.i1z
aEV:=D.TOz
aEW:=g6.objs.size
aEX:=wpAny_updateSeq_pair
aEY:=wpAny_onRaise
aEZ:=GM.UH
aE0:=E.getD
aE_:=List.head?_eq_getElem?
aE':=GM.Tc
aFa:=List.all_append
aFb:=PW.pt
aFc:=m.length
aFd:=b3.mono
aFe:=s0.trans
aFf:=b9.mono
aFg:=d8.mono
aFh:=n2.symm
aFi:=f7.mono
aFj:=GM.merge
aFk:=GM.S6
aFl:=GM.iG
aFm:=W.map
aFn:=List.getElem?_of_mem
aFo:=d5.sw.at_
aFp:=gl.map
aFq:=GM.S7
aFr:=k1.trans
aFs:=e0.at_
aFt:=c6.at_
aFu:=Gla.Plan.drawn
aFv:=a9.clean
aFw:=Gla.numbered
aFx:=f.trans
aFy:=Gla.pairs
aFz:=NumV
aFA:=a9.clean.ord
aFB:=Nat.lt_or_gt_of_ne
aFC:=Cp.length
aFD:=R.cs.take
aFE:=i9.free
aFF:=C.toNat
aFG:=row.flatMap
aFH:=RecAt
aFI:=at_of
aFJ:=GlaKeeps.begins
aFK:=GlaKeeps.stepOf
aFL:=PyFlat.okCall
aFM:=KeepNeutral.asked1
aFN:=PyYqglha.answers_asked
aFO:=Expr
aFP:=wpAny_field
aFQ:=wpAny_seqItems
aFR:=auf._auto_1
aFS:=h.nd
aFT:=treeTable
aFU:=d.trans
a0X:=openGood
a0Y:=p.main.body
a0Z:=List.filterMap_cons_some
a00:=PySem.W.codeIn
a01:=PySem.W.makesIn
a02:=PySem.W.hasDictIn
a03:=PySem.W.plainGet
a04:=PySem.W.isFn
a05:=GA.facts
a06:=openSeen
a07:=List.filter
a08:=WData.layableAll
a09:=Nat.add_le_add_left
a0_:=Nat.add_right_cancel
a0':=Int.le_of_eq
a1a:=Classical.epsilon_spec
a1b:=Classical.epsilon
a1c:=Value.isStrOf_shape
a1d:=SeqAt.EqAt.str_int
a1e:=SeqAt.EqAt.int_str
a1f:=Value.float
a1g:=Value.bytes
a1h:=List.take_nil
a1i:=u.slots
a1j:=List.mem_range.mpr
a1k:=base.Ns
a1l:=X.F1.heap.FunFrames
a1m:=X.env.globals
a1n:=s.heap.IsCell
a1o:=X.base.get?
a1p:=I.base.keep
a1q:=I.base.slot
a1r:=I.base.Ky
a1s:=I.base.F0
a1t:=I.base.Kx
a1u:=wpAny_loadName_cell
a1v:=wpAny_loadName_local
a1w:=Calls.Name_function_global
a1x:=wpAny_isTrue_Compare1
a1y:=wpAny_execs_cons
a1z:=interactive
a1A:=setItem
a1B:=wpAny_assign_Name
a1C:=storeName
a1D:=wpAny_pyIter_rangeiter
a1E:=wpAny_pyNext_range_end
a1F:=Int.mul_one
a1G:=IsRangeIter
a1H:=wpAny_pyIter_range
a1I:=IsRange.new
a1J:=intBits_le_64
a1K:=PyProof.noPylong_small
a1L:=PySem.W.handedIn
a1M:=beq_iff_eq.mp
a1N:=getMethod
a1O:=PySem.Within
a1P:=sf.some_of
a1Q:=recursionLimit
a1R:=Code.frames
a1S:=Calls.spliced_cons
a1T:=I.ok.frames
a1U:=PySem.W.callWith_K
a1V:=I.ok.mod.kin
a1W:=PySem.W.callWith_K0
a1X:=Nat.le_succ
a1Y:=a.kind
a1Z:=Option.isSome_iff_exists.mp
a10:=PySem.W.cellsFrom_some
a11:=f5.du.fresh
a12:=List.of_mem_zip
a13:=SeqAt.EqAt.int_int
a14:=v.toNat
a15:=Builtin.Slice.sliceAdjust
a16:=slicePart_none
a17:=Builtin.Slice.sliceApplied
a18:=O.toList.drop
a19:=Builtin.Tuple.tupleItemsOf
a1_:=PyProof.Rows.slot_tuple_getitem
a1':=f.toList.drop
a2a:=evalPart_none
a2b:=c8.heap.push
a2c:=Int.lt_of_lt_of_le
a2d:=seqIndex_neg
a2e:=seqIndex_of
a2f:=subscriptTail
a2g:=subscriptTail_builtinR
a2h:=slot_list_getitem.lookup
a2i:=d5.isList.typeIs
a2j:=SeqAt.in_tupleAt
a2k:=o.ExactDict
a2l:=Calls.callWith_builtin
a2m:=its'.toArray
a2n:=Builtin.List.listTooLong
a2o:=t.toArray.size
a2p:=pushCells_keeps
a2q:=wpAny_alloc
a2r:=Option.isSome_some
a2s:=newFunctionEnv
a2t:=NameKind.cell
a2u:=I.ok.hd
a2v:=I.ok.glob
a2w:=X.env.cells
a2x:=ForInStep.yield
a2y:=b5.heap.push
a2z:=compPost
a2A:=Unit
a2B:=d.names.all
a2C:=e.symm.trans
a2D:=a3.symm.trans
a2E:=Paired.snoc
a2F:=I.mod.glob.keeps
a2G:=wpAny_getItem_heap
a2H:=wpAny_getItem_of
a2I:=wpAny_in_heap
a2J:=wpAny_notIn_heap
a2K:=wpAny_setItem_heap
a2L:=keys.length
a2M:=Builtin.Range.small
a2N:=wpAny_pyIter_revIter
a2O:=Int.le_antisymm
a2P:=wpAny_pyNext_enum_end
a2Q:=wpAny_pyNext_enum_item
a2R:=Nat.succ_ne_self
a2S:=boot_enumerate
a2T:=Passes
a2U:=Option.none
a2V:=Nat.min_comm
a2W:=Nat.max_comm
a2X:=Nat.le_of_succ_le_succ
a2Y:=List.getElem?_cons_zero
a2Z:=Int.add_lt_add_of_lt_of_le
a20:=Nat.le_min.mpr
a21:=d5.turn
a22:=List.mem_erase_of_ne
a23:=m.erase
a24:=r.lines.Nodup
a25:=r.pts.Pairwise
a26:=Int.add_le_add
a27:=Int.lt_or_eq_of_le
a28:=Int.mul_pos_of_neg_of_neg
a29:=List.mem_filterMap
a2_:=Nat.not_lt.mpr
a2':=Int.sub_pos.mpr
a3a:=Nat.lt_asymm
a3b:=Int.add_zero
a3c:=List.reverse_cons
a3d:=List.pairwise_lt_range
a3e:=List.foldr_cons
a3f:=N.lay.mp
a3g:=List.nodup_cons.mpr
a3h:=List.Pairwise.filter
a3i:=List.mem_of_find?_eq_some
a3j:=List.find?_eq_none
a3k:=path.getLast?
a3l:=List.mem_of_getLast?
a3m:=seen.getD
a3n:=List.length_eq_zero_iff.mp
a3o:=List.all_takeWhile
a3p:=List.mem_iff_getElem?
a3q:=r.pts.filter
a3r:=B.pts.contains
a3s:=List.zipIdx_cons
a3t:=r.lines.contains
a3u:=List.pairwise_append.mp
a3v:=a4.mem_iff.mp
a3w:=r.pts.takeWhile
a3x:=takeWhile_all
a3y:=p.nodup_iff.mpr
a3z:=m.eraseDups
a3A:=Nat.mod_mul
a3B:=List.take_left'
a3C:=List.drop_left'
a3D:=Nat.pow_pos
a3E:=List.drop_append_of_le_length
a3F:=r.marks.flatMap
a3G:=r.pts.flatMap
a3H:=Int.zero_mul
a3I:=a5.symm
a3J:=List.flatMap_def
a3K:=b4.trans
a3L:=b9.symm
a3M:=List.filter_eq_self
a3N:=r.marks.eraseIdx
a3O:=r.lines.map
a3P:=List.pairwise_map.mpr
a3Q:=d8.Pairwise
a3R:=Except
a3S:=R.cs.length
a3T:=Gla.Record
a3U:=Nat.not_lt.mp
a3V:=Gla.Record.undo
a3W:=Gla.Record.redo
a3X:=stepAt
a3Y:=Fault
a3Z:=KeepNeutral.told
a30:=GlaKeeps.begun
a31:=Y.filterMap
a32:=GlaKeeps.Call
a33:=PySem.boot_len
a34:=PySem.F.slot_dict_getitem.lookup
a35:=List.map_eq_nil_iff.mp
a36:=vs.toList.map
a37:=l.heap.get?
a38:=Codec.withinAll
a39:=J.args.length
a3_:=d.params.defaults
a3':=PySem.W.Codec.app
a4a:=PySem.W.nsIn
a4b:=T.len
a4c:=List.map_inj_right
a4d:=GM.aRW.mpr
a4e:=GM.S_.mpr
a4f:=List.extract
a4g:=Array.toList_extract
a4h:=Array.toList_append
a4i:=Builtin.List.listFitsIndex
a4j:=List.any_eq_true.mpr
a4k:=List.getElem_set
a4l:=List.length_filterMap_le
a4m:=List.sum_cons
a4n:=List.concat_eq_append
a4o:=List.eq_nil_or_concat
a4p:=Nat.add_mod
a4q:=Nat.mul_mod
a4r:=Nat.eq_zero_or_pos
a4s:=List.range_add
a4t:=List.filter_cons_of_neg
a4u:=List.filter_map
a4v:=O.toList.length
a4w:=Array.getElem?_toList.symm.trans
a4x:=Nat.le_add_right
a4y:=List.getElem_drop
a4z:=List.drop_sublist
a4A:=g.setIfInBounds
a4B:=List.getElem?_toArray
a4C:=Option.map_eq_some_iff
a4D:=B.toList.Perm
a4E:=sizeAbove.go
a4F:=t.place.toList.take
a4G:=a7.toList.drop
a4H:=t'.place.size
a4I:=SetTable.fits
a4J:=d.hash
a4K:=carriedByValue
a4L:=searchCouldBeSeen
a4M:=Bool.not_true
a4N:=D.toList.Perm
a4O:=Heap.SameBut.update
a4P:=wpAny_storeSet_of
a4Q:=wpAny_setState_of
a4R:=setAddHashed
a4S:=ofAClassStatement
a4T:=IsTupleKey.typeIs
a4U:=PyProof.Rows.F.entry_set_update_loop
a4V:=F.plain_set_new
a4W:=codeAny_of_tree
a4X:=PySem.wpAny_call
a4Y:=Builtin.«frozenset.__iter__»
a4Z:=d.toList
a40:=pickOrder
a41:=F.ax9.lookup
a42:=wpAny_setEntries_of
a43:=F.slot_set_iter
a44:=unsupported
a45:=Array.getElem?_eq_none_iff
a46:=Obj.cls_mapFields
a47:=Obj.isFreed_of_fields
a48:=firstArgMember
a49:=wpAny_ite_split
a4_:=wpAny_typeOf
a4':=F.plain_list_iadd
a5a:=listOrd
a5b:=itemOrd
a5c:=Array.toList_map
a5d:=Array.toList_zip
a5e:=a3.objs.size
a5f:=Value.ref.inj
a5g:=b1.Pairwise
a5h:=wpAny_ret_mkInt
a5i:=F.slot_tuple_hash
a5j:=Value.builtin
a5k:=F.slot_tuple_eq
a5l:=F.slot_tuple_eq.lookup
a5m:=b0.objs.size
a5n:=wpAny_mkInt
a5o:=F.entry_extend_loop
a5p:=W.low
a5q:=F.args_zip_iter_1
a5r:=F.slot_zip_next.lookup
a5s:=F.entry_zip_iter
a5t:=wpAny_pyNext_zip_end
a5u:=wpAny_pyNext_zip_item
a5v:=F.slot_enumerate_iter
a5w:=c1.drawn
a5x:=PySem.W.ktu_apart
a5y:=X.A.in1.in1
a5z:=Nat.succ_ne_zero
a5A:=F.slot_dict_len
a5B:=Builtin.«len»
a5C:=Around.under_plainId
a5D:=richCompare
a5E:=intItems_at
a5F:=loadIfAlive
a5G:=D.TOi2.symm
a5H:=D.TOi1.symm
a5I:=D.TOz.symm
a5J:=ZipApart
a5K:=List.Nodup.sublist
a5L:=D.nears
a5M:=List.all_eq_false
a5N:=List.zip_cons_cons
a5O:=T.enumerate
a5P:=List.any_map
a5Q:=List.contains_iff_mem.mpr
a5R:=D.drawn.length
a5S:=B.pts.length
a5T:=aT0.nd
a5U:=List.nil_append
a5V:=List.Pairwise.and_mem.mp
a5W:=Nat.add_le_add_right
a5X:=l0.trans
a5Y:=e5.trans
a5Z:=GM.begun
a50:=List.Nodup.length_le_of_subset
a51:=GM.aeJ
a52:=GM.aeI
a53:=y.symm
a54:=c6.symm
a55:=GM.Gw
a56:=gl.length
a57:=PI.sb
a58:=Nat.add_sub_cancel
a59:=D.outlines.length
a5_:=b.at_.below
a5':=List.flatMap_nil
a6a:=GM.Lz
a6b:=List.dropLast_eq_take
a6c:=Gla.stepAt
a6d:=Gla.readSteps
a6e:=dC.ls
a6f:=z.sb
a6g:=Gla.saveRecord
a6h:=GM.ks
a6i:=f6.wide
a6j:=KeepNeutral.mark
a6k:=KeepNeutral.points
a6l:=Int.toNat_of_nonneg
a6m:=KeepNeutral.bytes
a6n:=PyYqglha.whole
a6o:=PyYqglha.calls
a6p:=KeepNeutral.start
a6q:=PyFlat.put
a6r:=Nat.add_sub_cancel_left
a6s:=T.answers.Ok
a6t:=eval
a6u:=c5.drop
a6v:=d8.drop
a6w:=X.blk
a6x:=I.turned
a6y:=bjA.mpr
a6z:=r.pts.set
a6A:=c1.heap.get?
a6B:=plainId_quiet
a6C:=Binds
a6D:=B.filterMap
a6E:=f.toList
a6F:=Or.inl
a6G:=T.range
a6H:=W.idxOf
a6I:=l.foldl
a6J:=set_list
a6K:=GM.auW
a6L:=I.bjt
a6M:=seqObj
a6N:=F.slot_zip_next
a6O:=wpAny_forIn_list
a6P:=a3.extBut
a6Q:=m.extBut
a6R:=Codec.app
a6S:=sliceBounds
a6T:=T.av7.b
a6U:=T.av7.h
a6V:=toString
a6W:=vs.toArray.toList.map
a6X:=D.i12.symm
a6Y:=a9.extBut
a6Z:=B.extBut
a60:=y.length
a61:=y.size
a62:=ok.free
a63:=Y.flatMap
a64:=L.type
a65:=F.slot_enumerate_next
a66:=lines.map
a67:=Fast.te6613529449190102663
a68:=Fast.te14364793385576792824
a69:=Fast.te11892475500146522536
a6_:=Fast.te10156331382660048174
a6':=h.lst
a7a:=markPlace
a7b:=ar.any
a7c:=ar.toArray.any
a7d:=SeqAt.canLay_of_shaped
bkg:=backToKw
bkh:=keywordEach
bki:=Builtin.List.listItems
bkj:=holding
bkk:=aue._auto_1
bkl:=h.casesOn
bkm:=PySem.wpAny_bind
bkn:=Heap.get?_push_of_some
bko:=Nat.zero_le
bkp:=PySem.wpAny_pure
bkq:=Nat.le_add_left
bkr:=List.mem_cons_of_mem
bks:=PySem.wpAny_ite_false
bkt:=inClass
bku:=X.calm
bkv:=I.tok
bkw:=Nat.lt_succ_self
bkx:=aub._auto_1
bky:=w.params.followText
bkz:=PySem.W.findIn
bkA:=Nat.lt_trichotomy
bkB:=Nat.not_lt_zero
bkC:=Nat.succ_pos
bkD:=A.handled
bkE:=GP.take
bkF:=PySem.F.type_list_extend
bkG:=PySem.F.slot_list_extend
bkH:=PySem.F.type_list_append
bkI:=PySem.F.slot_list_append
bkJ:=boot_heap
bkK:=List.nodup_cons.mp
bkL:=wpAny_callSpecial?_slot
bkM:=pts.eraseDups
bkN:=PySem.wpAny_of_eq
bkO:=GP.drop
bkP:=ak.trans
bkQ:=HO.lst
bkR:=Eq.symm
bkS:=binaryOp
bkT:=f.mono
bkU:=wpAny_attempt
bkV:=bindArgs
bkW:=Array.forIn_toList
bkX:=d9.seq
bkY:=eS.pk
bkZ:=d0.go
bk0:=r.marks.set
bk1:=d0.yld
bk2:=row.map
bk3:=Result
bk4:=field
bk5:=Int.lt_trichotomy
bk6:=List.cons_ne_nil
bk7:=behindInMarks
bk8:=X.pn
bk9:=isSubtype_stop
bk_:=aTO.nd
bk':=builtinLookup_eq_fast
bla:=typeLookup_type
blb:=notedBy
blc:=T.turn
bld:=T.sorted
blf:=List.foldl_cons
blg:=a4.row
blh:=rv.get
bli:=List.ext_getElem
blj:=C.net.lay
bll:=c5.set
blm:=k.map
bln:=s.life
blo:=facts
blp:=A.under
blq:=foldedSetIterable
blr:=Call_
blu:=a.below
blv:=a.at_.below
blw:=b.at_
blx:=GA.KT
bly:=Value.str
blz:=bs.getD
blA:=linePlace
blB:=D.pts.filter
blC:=gl.set
blD:=d8.set
blE:=UJ.go
blF:=D.pts.take
blG:=List.map_id
blH:=B.toList.toArray
blI:=s.tree.list
blJ:=I.ok.bs
blK:=Builtin.Tuple.tupleExact
blL:=GM.vl
blM:=PyFlat.told
blN:=PyFlat.played
blO:=h6.up
blP:=T.awB.b
blQ:=T.awB.h
blR:=T.awA.b
blS:=T.awA.h
blT:=h.DictOf
blU:=I.base.there
blV:=N.len
blW:=F.args_zip_next_1
blX:=F.entry_zip_next
blY:=bjD.go
blZ:=PySem.wpAny_rule
bl0:=PySem.wpAny_holding
bl1:=KeepNeutral.callOf
bl2:=a5.mono
bl3:=a.lookup
bl4:=o.slots
bl5:=List.takeWhile_sublist
bl6:=D.lines.contains
bl7:=Int.toNat
bl8:=aus._auto_1
bl9:=d7.size
bl_:=List.length_pos_of_mem
bl':=row.Pairwise
bma:=List.find?_eq_none.mp
bmb:=J.ret.enc
bmc:=h'.update
bmd:=IsListIter.at'
bme:=List.mem_singleton_self
bmf:=isSubtype_tuple_tuple
bmg:=isSubtype_type
bmh:=r.marks.drop
bmi:=r.marks.take
bmj:=c.foldl
bmk:=GM.Tree
bml:=Heap.ExtBut
bmm:=Builtin.Tuple.tupleHashOf
bmn:=R.takeWhile
bmo:=W.Pairwise
bmp:=Builtin.Tuple.tupleCompareSizes
bmq:=I.ok.cab
bmr:=PassesOwn
bms:=s.heap.IsSliceOf
bmt:=w.params.setOrder
bmu:=hi.length
bmv:=b8.length
bmw:=wpAny_Dict_empty
bmx:=PySem.F.type_list_pop
bmy:=PySem.F.slot_list_pop
bmz:=m.Nodup
bmA:=k.length
bmB:=I.length
bmC:=richCompare_meets_room
bmD:=Value.notImplemented
bmE:=Gla.firstAt
bmF:=d.eraseDups
bmG:=List.take_take
bmH:=s.heap.IsTuple
bmI:=A.in1.units
bmJ:=I.ok.uZ.mem
bmK:=wpAny_fieldsOf
bmL:=List.zipIdx_nil
bmM:=entryFor_alias
bmN:=wpAny_callSpecial?_none
bmO:=noBool_dict
bmP:=F.slot_dict_len.lookup
bmQ:=List.Pairwise.of_map
bmR:=Int.lt_or_gt_of_ne
bmS:=R.cur.marks.length
bmT:=F.args_enumerate_next_1
bmU:=F.entry_enumerate_next
bmV:=Expr.ListComp
bmW:=b3.symm.trans
bmX:=Int.mul_lt_mul_of_pos_right
bmY:=List.getElem_inj
bmZ:=Int.not_lt.mpr
bm0:=d.toList.Perm
bm1:=signature?_of
bm2:=fencedOpening
bm3:=Fast.te4187177175401517315
bm4:=call_enumerate_list
bm5:=call_list_seq
bm6:=List.length_take_le'
bm7:=wpAny_Assign_Subscript
bm8:=Option.ne_none_iff_exists'.mp
bm9:=List.Pairwise.imp
bm_:=PySem.W.WalkOS
bm':=Heap.SameBut.refl
bna:=Option.isNone_some
bnb:=W.kdx_alive
bnc:=Option.getD_none
bnd:=PySem.W.length_le_weightAllW
bnf:=Moved.trans
bng:=SeqAt.eqAt_reads
bnh:=List.mem_of_mem_drop
bni:=List.drop_take
bnj:=Walks.range
bnk:=List.set_set
bnl:=PySem.W.methodCall_KW
v a b c:=⟨a,b,c⟩
a a b c d e:=v a b (v c d e)
a2 a:=(a).2.2.2.2
a b c d e f g h i j:=a b c d e (a f g h i j)
Eg:=xE8 _ _
x a:=by exact a
cp a:=(a2 a).1
v a:=(a:Int)
aS a:=(a).2.2.1
cC:=by decide+kernel
l a:=by {exact a}
d a b c d:=v a b ⟨c,d⟩
c a b c d e:=a->b->c->d->e
K a b c:=a[b]?=aa c
b b c d e f g h i j:=by refine a b c d e f g h i j
bS:=pv 0
B a b:=(a).map b
bG:=‹_›
aO a b:=bL (a×b)
f b c d e:=a b c rfl d e
ay:=by decide
au a b:=a->b->Prop
t a:=(a).length
af:=bL V
ag:=by simp[*]
J a:=fun z=>a
aq:=pv 1
v a b:=by refine⟨a,b⟩
ah a b:=v rfl a b
ai:=by simp_all
t a b:=by rw[a];exact b
ah a b c:=R9 a (R9 b c)
b5 a b:=a=aa (.lst b)
E a b c:=∀a,b->c
c c d e f g h i j:=by rw[b c d e f g rfl h i j]
C a:=by refine bF a
be a:=a=aa o
f_ a:=cp (a).2.2
i a b c d:=a->b->c->d
U a b c:=upd a b (.lst c)
df a:=fG (aN8 a)
av a b:=v _ a b
cO a b:=.tup [a,b]
ao:=bL Nat
eZ a:=a2 (a).2.2
ec a b:=aU_ a a6 b
N a b c:=by by_cases a:b=c
dg a:=Nat->a
A a b:=K a i b
cf a:=(a:Nat)
rm:=aqJ _ _
z a b c:=∃a,b/\c
M a b:=PE X a b
ac a:=aa (.ref a)
aV a:=(a).2.1
aw:=pv 2
bI:=by rfl
L a b:=(a).trans b
j b c d e f:=by refine a b c d e f
dF a:=au a vM
hm a:=by (with_reducible refine a)
aR a b:=Inv X au M a b
as a:=fun _=>a
oD a:=d_ (j:=a) rfl
aY:=aCg _
hp a:=fun _ _=>a
aM:=bL cS
aQ:=bL Int
bc:=.ref a
j a b c d:=∀a b,c->d
a1 a:=a<=hy
b a b d e f g:=c (a=b) d e f g
Y a:=H a=ae
bQ:=cZ H L
ng:=by kernel_rfl
du a:=by intro a h
dJ a:=by rw[v a ?_]
J a b:=by rw[a];exact b
bW a:=aS (a)
bP:=GU K bS
az:=by {simp_all}
Ag:=.head _
IU:=xE7 _ _
aW a:=⟨_,a⟩
aA:=(Eg).2.1
Z a b c:=if a=ab then b else c
bb:=pv 3
aB:=cp (Eg).2
aD:=cp (Eg)
aE:=aS (Eg).2
aF:=aS (Eg)
aG:=(Eg).1
aH:=f_ (Eg)
aI:=eZ (Eg).2
jo a:=fun _ _ _ _ _ _=>a
cA a:=(VL a)
Y a b c:=adt a b (aqf c)
aT:=by simp
V a b c:=(∀a∈b,c)
m b c d e:=a b c d rfl e
aa a b:=K a j b
aZ:=aR H s
jp b:=f rfl rfl b (ah cC cC)
aa a b c:=by refine v a b c
x a b:=(a).mp b
aL:=aE8 ?_
ax a b:=k _ _ a b
cI:=by cases h
dm a b:=sg a (df b) BE
my a:=fun _ _ _ _ _=>a
XR:=xE5 _ _
ab a:=fun x=>a
bh a b:=H a=aa b
ba:=bL I
l a b c d e:=∀a b,c->d->e
aU:=dF cS
bk a:=a<2^32
aN:=by rw[du a6]
bg:=bL ei
bu:=by rw[dJ rfl]
an a:=fun e=>a
cB a:=aS (a).2
bB:=by trivial
a_:=by {simp[*]}
cg a:=eA a bkk
M a:=by refine bkl a
aX:=by clear h
ed a b:=cO (.int a) b
au a:=⟨a,?_⟩
iu:=tg r
i b c d e f g h:=a b c d _ e rfl f g h
gJ a:=by show a;decide
X a b c:=Tz K mg a b c
dn a b:=by obtain⟨a,rfl⟩:=b
bK:=x Ag
ax a:=by simpa using a
aP a b:=v a rfl b
bf:=jp cC
bz:=by grind
bh a:=B a vn
N a b c d e:=b5 (upd a b (.lst c) d) e
aj a:=by rw[a]at h
cD:=.ref l
ch a:=ky r a
di a:=avx K a bE
bn a:=fun p=>a
aC a b:=.ins a dx b
g3 a b:=avj gZ (zzF a rfl) (jo b)
mz a:=(Ce r a)
bC a b c:=by obtain⟨a,b,rfl⟩:=c
bs a b:=aU9 K a b
dh:=oD 0
e a d e f g:=b vs a d e f g
bw:=aO ei Obj
fj a b:={cls:= .type a,data:=b}
bT:=by rw[hm (bkm ?_)]
bM:=by lia
e0 a:=.int a t
bq:=Lay r
ac a b:=b_ (o:= .lst a) b
a7 a b:=ec a (ea b)
cr a:=fun l=>a
ax a b c:=∃a,b=aa c
as a b:=KU (sH a b)
eY:=(·.2)
ae a:=v (cf a)
D a b c d:=dm (eb a b c) d
i a b c d e:=ah (bW a b c) d e
bs a:=by rw[a]at k
ah a:=fun q=>a
bY a:=cp (a)
bC a:=my (a)
Ah:=xE9 _ _
pE:=bZ cS
ar a:=by simp[a]
ad a b:=upd H a b
Y a b:=t (bX a) b
T a b:=by rw[N q a b]
bv a:=s _ _ a
cW:=.ref b
w a b c e:=by refine d a b c e
akP:=xE4 _ _
al a:=by rcases a with q|q
bo a:=fun m=>a
er a:=(gJ (a1 a))
am a:=by rw[a]at this
cJ:=bL Ln
au a b c:=Kd a (Kd b c)
bR:=pv 4
fN:=(·.1)
OA:=xE6 _ _
eF:=by intro h
bN a b:=(a).mono b
bm a b:=(v a-b)
cf a b:=B (eL a) b
y d e f g h:=by rw[c d _ e _ _ f g h]
a a b c d e f:=by have a:N b c d e f:=ak
xh:=.int 0
cb:=by subst e
Z a b:=by {rw[a];exact b}
aj a b:=b5 (L a) b
av a b c:=if a then aa b else c
cs a:=oD R a
cn:=b_ c6
b1 a:=a<65536
aK a b c:=ko a (.ref b) c
bd a:=⟨rfl,a⟩
eg:=bp v
a b c e f g h i j:=a b c e f (d g h i j)
aJ a:=fun x S=>a
jq a:=by intro au s M H a I h
df a b:=∀e∈a,b
ct a:=cp (a).2
f a b c d e f:=∀a b,i c d e f
bJ a:=by have m:=a
b b c d e f g h i:=a b c d e f _ g h i
cv a:=a->Prop
aO a:=by rw[bj a]
an a b:=(a).take b
a b c d e f g h:=a b c d e (v f g h)
aW b c d:=by refine f b _ c d
ej:=tw _
d c d e f g h i j:=by rw[b c d e f g h i rfl j]
es a:=au a Hp
bl a:=ff (jw cO w) A a Q E s
ja:=bZ Nat
ae a b:=(a).mpr b
fi a:=A a x
dH a b:=TB (hp a) b
mB a:=aO Str a
ap a b:=U H a b
bi a b:=cw (a<=b)
ev a:=by rw[dn t a]
gO a:=be (Hn a)
ab a b:=ax t (mg a) (e0 b)
bU a b:=cw (a<b)
bk a b c:=∀(a:Nat)b,c
bU a:=bkn _ a
eG:=bp e.1
eH:=bp e.2
cK:=pv 5
cS a b:=lx aOG a b
eA a:=by (with_reducible apply a)
m b c d e f:=i b c _ rfl d e f
cQ:=aqF _ _
cu:=by grind-abstractProof
P a b c d:=by have a:cZ b c:=d
ar a b:=cw (a=b)
a0 a b c:=show a=b from c
cT:=bko _
ap a:=zzI a rfl
bn a b:=x (cg a b)
cL:=v n
be a b c:=i a b c Prop
cP:=aK rfl
a4 a:=by delta a at h
e1 a:=a6t a cG
dN:=by rw[hm (bkp ?_)]
dt:=oD 1
dP a:=aU' K a4b a
ah d e f g:=by rw[c d _ _ _ rfl e f g]
o a b c d:=∀a,b->c->d
jr a:=(mz a).row
bm a:=av a rfl
ig a:=x (ez a)
cE:=dg Nat
an a b c:=Y a [b] c
ak a b:=by rw[aa a b ?_]
eu:=er 2
fm:=by rw[dP,ed ay]
tE:=GP (as ng)
cw a b:=by obtain⟨dx,a⟩:=b
ek:=bL Pt
ef a b:=(a).filter b
v a b c d:=if a=b then c else d
bH a c:=∀b∈a,c
dI a b:=(a).any b
mE a:=.tail _ a
e_:=gc b5
js a:=av a ?_
akQ:=Int×cS
cM:=by {grind-abstractProof}
c5 a c:=num b a c
e b c e f g h i k:=by rw[j b c e f (d g h i k)]
eB a:=ed (cf i) a
cN:=a<=b
a6 a:=by rw[a]at e
fO:=cj ?_
bt a:=(a).symm
a4 a b:=by cases a;exact b
am a b:=b5 (H a) b
gY:=i<aJ
el:=aW rfl
fW a:=SB a H L
fk a:=fun t c6=>a
gR a:=aa (v a)
bj a b:=by rw[a,b]
gh:=by simpa using this
aj a b c:=by have a:cZ H b:=c
aC a b c:=aR (x:=a) (y:=b) (cV c)
c b c d e f g:=a b c d e ⟨f,g⟩
f b c d e f g h i:=a b c d e rfl f g h i
b7 a b:=x (ju a b)
cX:=bL Str
cU:=fv akQ
eC a:=a=aa u
jt a:=a2 (a).2
ap a b c:=K (a) b c
ab a b c:=by have a:b=c:=rfl
Ai:=cA R.n
e a b c d e f:=by have a:upd b c d e=aa f:=ak
cY:=by {trivial}
ew:=this.1
bD a:=by refine(a)
eI:=bp i
a1 a b:=Gr par a b
bv a b:=by have:=a;exact b
cF a:=it F a h
dA:=Ord r
ch a b:=(eL a).find? b
dv a:=f_ (a)
bh a b c:=ec a (sH b c)
dO:=Str->pE
dV:=by cases e
dp a b:={s with heap:=a,toks:=b}
aJ a b:=v a b ?_
k4 a:=be (zk a)
Z a b c d:=ec a (yZ b c d)
hr a:=Ic b a 2
M a b c d:=by have a:b≠c:=J d
hs a:=fun M H Q=>a
kG:=iF e f
fX a:=Lu r z a
dJ a b:=aFH u CR a J b g ls
ak b c d:=by obtain⟨a,b,c⟩:=d
eD a:=iP a b1
br a:=av (bv a)
dQ a:=as bE a
E a b c d:=av a ⟨b,c⟩ d
g_:=gO b
dW:=ig bG
bx a b:=cO (vn a) (vn b)
ha:=oZ e f
d5 a:=dir r v a
dj a:=a4 _ _ a
ad a b c:=(E a b c)
dX:=fv cS
fp:=this.2
aK a b:=∀x∈a,b
am a b c:=(a).getD b c
i a b c d e f:=by generalize U a b c=d at e f
ac a b c:=by rw[a,b];exact c
d7 a:=f_ (a).2
bi a:=g3 a tE
aj a b c d:=D a b (gi c) d
dG:=cs h
fz:=by rw[jq Q]
dB:=Ln->Int
ga a:=(l v L bQ a (Q v L))
dw a:=⟨a,rfl⟩
en:=bZ Int
kH:=by assumption
dY:=by {grind}
dl a:=(a).isSome
gj:=e.1+1
bV a b:=x (cp a b)
bx a:=(Xk a).1
j a b d e f g:=c a b d e (f->g)
bk a b:=V x a b
lS:=dj 0 r.A
bW a b:=by generalize(xE2 _ _).1=a,(xE2 _ _).2=b
bE a:=aa (vn a)
hL:=(ajI cO w)
cd a:=by have l:=a
dZ:=by congr 1
b a b c d e f g:=by obtain⟨a,b,c,d,e⟩:=f;exact g
gk:=[J,g,ls]
aFV:=Cp (hp ng)
ht a:=⟨0,a⟩
dK a:=fun i=>a
gm:=.inl rfl
ce a:=.inl (av a)
rn:=yL r
ey:=pv 6
kI:=bV b
jK:=x oW
as a b c:=d _ a b c
aa a b d e:=c a b d e Prop
cG a:=B a eY
cx b:=bh a b
eo:=by (simp_all;lia-abstractProof)
T a b c d:=by rw[P a b c (b_ d)]
jb:=jr t
lT:=aP t ak
tF:=bkq _ _
a2 d e:=by rw[y a dx d dU e]
aO a b c:=by obtain⟨a,b,e⟩:=c
eJ:=by split at h
xi:=.ref C
b2 a:=by refine js a
pF:=bp l.1
bo a b:=R9 a (df b)
dK a b:=a->b->cf
dm a:=av rfl a
eh:=dg Int
d9 a:=cf n a
ro:=e::a7
ih a:=aOJ I q a
hu a:=A×B×C×D×a
ci a:=fun k=>a
cO a:=by have q:=a
fP:=.ref p
I a b c d:=∃a,b/\c/\d
fY a:={s with heap:=a}
rp:=bp a
rq:=bp l.2
A a b c d:=i (vs=a) b c d
eE a:=bN a ay
be a b:=KL X (ME a) b
n d e f g h:=by rw[c d e _ _ rfl f g h]
fn a:=a4a K CN a
dn a:=c8 _ _ a
rr:=(xc e.1,xc e.2)
g4 b c:=LO C b a c b2 X G
jc:=(i+1)
da a:=fun h=>a
ca a:=by have b:=a
dp a:=adr K a
dg a b:=(a).drop b
eb a:=yE (ea a)
bp a b:=v a b rfl
z a b c d:=by have a:b:=by rw[J c d]
cx a b:=x (aW (cV a) b)
hb:=be (gS b)
fA:=tj lN j
a1 a b c:=by obtain⟨ar,a,b,c9⟩:=c
fo a:=fun i M L=>a
u b c d e f:=a b c d _ _ e rfl rfl f
di a b:=ff (jw eC X.w) X.A a b oS s
ec a:=⟨a,[]⟩
cc a:=by have c:=a
gn:=.ref aO
fa:=by subst q
E a b c d e:=upd (upd a b c) d e
Aj:=(Ai).side
dR a:=oD iu a
ei a b:=lx aPR a b
ii a:=ah rfl a
K b c d e:=by rw[j _ b c d e]
a7 a b c:=by rw[bC a b (zy c)]
tG:=ahs M vs
db a:=fun b o e=>a
fB:=Nat×Nat
nh:=aO Pt Pt
dr a:=.inl (ah _ (av a))
dq a b:=[v a,v b]
co a b:=b_ a _ _ b
akR:=by(rw[eF,cI])
eP:=by omega
cR a:=by rw[a]at q
hc:=[xh]
ck a:=bkr _ a
fQ:=aE2 ?_
ae a b c:=by have a:b=c:=by simp[*]
dc a:=fun b U=>a
bD a b c:=by rw[w a rfl b c]
tH:=e1 e
eQ:=c<=d
gK:=aBE _ rfl
kJ:=by cases q
tI:=bL Key
fC:=bL aQ
bd a b:=t a<=b
hg:=fw e
jH a b:=by rcases a with b|h
bl a b:=by rw[<-a];exact b
dS a:=by rw[l (.inl a)]
pG:=J ?_
b1 a b:=by rw[N e a b]
gL:=au rfl
ik a:=fW K H l a
hw a:=cS a bE
hh:=by rw[eA bks]
bn d e f:=by rw[ah d (cy e) dh f]
c c d e f g h i:=by rw[b c d _ rfl e f g h i]
r d e f g h:=by rw[c d _ _ e rfl f g h]
fb:=by have f3:=wg
k6 a:=by rcases a with g|g
cS a:=kd al f a
ab a b c d:=b6 _ _ a b c d
fq:=by lia-abstractProof
cl a:=(df a)
gM:=(iu)
cm b:=by have a:=b
y b c d e:=by refine f b c d e
aP a b c:=∀(a b:Nat),c
br a b:=dH H a b
bA a b:=zk a=aa b
fr a:=cp (a2 (a))
co a:=by rw[l (.inr a)]
kK:=di bS
jd:=mB ei
hM:=eB y
fD:=X.K=K
hO:=dJ t J p
mF a:=fun(l:Nat×Nat)=>a
akS:=(xc m.1,xc m.2)
ec a b c:=p=a/\ns=b/\d=c
hP:=by cases J
hQ:=by cases R
fE:=bL aFO
ee a:=fun n=>a
e3 a:=fun v=>a
bX a b:=bkt (top a) b
b2 a b:=by rw[z,a]at b
hy a:=.cons a .nil
fR:=bku=ab
s b c d e f:=m b c d ⟨e,f⟩
dL a b:=be Nat a b
em a b:=fk (ax a b)
fS:=by(simp[*];lia)
fF:=by rw[cw hd mX]
cZ a:=by rcases a with z|z
lU:=aa R
hS:=.int i
e7 a:=∀x,a
gp:=by subst this
Ak:=.type "list"
fT:=by intro q
bE a b:=a=ab↔b
lV:=ajy vn
jN:=R.d+1
aS a b c:=by have a:b=c:=by simp
gq:=dg ja
gs:=Y b
fs a:=bh b a
cz a:=g3 a aFV
vB a:=fun _ _ _=>a
mG b:=fW K H a b
fU:=by (simp_all;lia)
je:=cv Hp
gb a b:=cg (MD a cG=b)
b4 a b:=bh a bS b
ft c:=fun a b=>c
fV:=M a d6
gu:=aqJ o p
gT a:=b5 _ _ a
jO:=bZ V
il a:=fun b=>a
bE a b c:=by obtain⟨vs,a,b⟩:=c
c7 a:=by have e:=a
mK a:=cw (a<0)
c8 a:=(a).Nodup
bC a b:=by by_cases a:b=ab
dk a b:=(a).get? b
cA a b:=∀p∈a,b
bJ a b:=qx a b akR
c7 a b:=Hn a=aa b
eN a:=a++[y]
ac a b c d:=L ((a).2 b c) d
xj:=Y l
k7 a:=aW (av a)
ru:=z.2.1
gv:=aO Key V
de a:=by rw[a];rfl
xk:=by rw[ev R]
jv a:=ef (pC i) a
dx a:=Gn r e (ch a)
gw:=x<=y
bU c e f:=by rw[d _ c e _ dx _ _ f]
fk a b:=BA P w a b
ni:=f+1+zr
rt a:=Z aV2 bS a bE
nE a b:=ptK (K:=K) (n:=a) rfl rfl b
jf:=by rw[bC rfl rfl b0]
nj:=bZ ei
bY a b:=by rw[a,b]at this
be a b c d:=g a b c (fun h b7=>d)
fr a b:=(a).lookup b
b8 a b:=Sk K a b
bZ a b:=by intro a b h
eS a b:=(a).Pairwise b
iv:=aCW e
hj:=rv h
jQ:=vn p
bL a b:=hJ (dk a) b
kL:=a4J F
jI a b:=a=aa (.ref b)
iw:=aO+1
N a b c d:=a/\b/\c/\d
a2 a b c:=d a b c ?_
g c d e f g h i j:=by rw[b c d e f g h rfl i j]
ef a:=by rw[bs (bj a)]
ci a b:=bC (sI a b)
hk:=dj 0 A
eO a:=fun o e=>a
jR:=ht 0
ck a b:=ar1 (own:=[(a,b)]) bI
gN:=l<=J
gc a b:=cO (.ref a) (.ref b)
hl:=aqH o p
hn:=aqH _ _
V a b c d:=nE 2 (KI (sI a b) (KI (sI c d) aqU))
cl a b:=by obtain⟨a,e⟩:=b
jM a b:=!(a).contains b
bF a c d:=by obtain⟨b,a,c⟩:=d
bl a b c:=by obtain⟨u,a,b⟩:=c
aJ a b c:=by obtain⟨a,b,q⟩:=c
hz a:=by have b5:=a
dr a b:=.inl ⟨a,b⟩
g5 a b:=show a=ab from b
rx:=bkv _
fs a b:=by obtain rfl:a:=b
ho:=ks R
dM a b:=par a=aa b
kM:=ac a
ry:=hp rfl
kN:=my aP5
eT a:=bs bS a
dL a:=a7 a bS
fZ a:=by rw[bs (aK a)]
dy a:=Q (.bl a) H
oE a:=fun i j=>a
dl b c:=by rw[aW l b c]
jT:=e.1<t
jw a:=fj "list" (.seq a)
im a:=E i gY a
jg:=ee e a0
Al:=g4 H D
ak a b c d:=by have a:df b c:=fun e a0=>d
akT:=by rw[dn t' Z]
de a b c:=by have g9:a=b:=by rw[DV,c];rfl
ds a:=by rintro rfl a k
hT:=bZ a3Y
cB a b:=by exact .cons a b
e9 a:=fun y=>a
dC a:=by have d6:=a
pH:=bj cC
iy:=a2u b0
jW:=bkw _
Am:=.error e
dU a:=dv g a
dM a:=cR i a
c8 a b:=R9 a (fG b)
jX:=akq a5
a b c d e f g h i j k l:=a b c d e f g h i (v j k l)
ca a b:=by have a:b:=by simp_all
f0 a:=x (J a)
cc a b:=by {have:=a;exact b}
dP a b:=L a (b_ b)
nk:=as 0
hU:=ax bG
hV:=aO c V
hW:=aO Str V
nq:=fi O
cd a b:=dH (tv a) b
gb a:=bn a fy
ep a b:=eA (a<=b) akM
es a b:=eA (a<=b) bkx
dD a:=bV (a::gH 2 i)
ds a b:=ec a b []
an a b c d:=mB a (sI b c) (fG d)
An:=K_ r bY
fu a:=hr a g Z
IV:=gf+oY
hX:=aqF o p
lW:=dj lS r.E
du a b:=aUP (zzM a rfl) (jo b)
e a b c d e f g:=aP8 rfl a (i:=b) rfl rfl (aP9 rfl rfl rfl rfl) c d e f g
K a b c d e:=by generalize(XR).1=a,aV XR=b,bW XR=c,cB XR=d,a2 (XR)=e
pI:=aa v
kO:=by exact .nil
fy b:=fun a=>b
cG a b c:=by obtain⟨a,b,J⟩:=c
ei a:=by have I:=a
Eh:=aqf st
jY:=by subst c3
rz:=.type "tuple"
w b c d e f:=by obtain⟨a,b,c,d,e⟩:=f
et b c:=∀a∈b,c
jh:=wK vn
kP:=aP x
io a:=(mz a).cnt
em a:=fl a e
fu a b:=by rw[<-z,a]at b
xl:=akN 4
ji:=vn n
iz:=aE5 ?_
aV a b c:=by rintro rfl a b c
lX:=aju B
xm:=zT j
oF a:=a2 (eZ a)
gd a:=x (cV a)
k8 a:=cp (jt a)
iA:=by rw[l q]
F a b c e f:=d ⟨a,b⟩ c e f
ge a:=mI a=ae
ce a b:=av (av a) b
bi b c d e:=m (.bl b) c d e
cq a b:=by rw[aa a ?_ b]
lY:=e∈gG
iB:=e∈bY
L a b c d:=(i 1 a b c d)
c_ a b:=by rw[bj a,bj b]
rA:=x (mE bG)
P a b c d e:=bk j a (b->aa c d->e)
iC:=(aS e8.2).2
nr:=dJ H R
eU a:=by rw[jH a h]
gf a:=by show ff _ _ a _ _ _
OB:=bh (IJ 0 Xr)
ed a b c:=[.ref a,b,.ref c]
jj:=mG O
cs a b:=Dp K H a b
dQ a b:=aQ5 d5 Y a b
iD:=Mp R J F
nu:=by cases this
jx a:=fun d=>a
mL a:=[.int a]
xn:=.ref J
kQ:=.ref x
lZ:=by subst ex
jy a:=.seq a n
Ei:=.own x
ep a:=ft e a
l_:=by simp at h
dw a b:=∀y∈a,b
d0 a:=by delta a at k
ct a b:=cR (an a) b
j_:=Net r
pJ:=vn i
cF a b:=by rw[l (cz a b)]
Q b c d e:=by rw[j b c d rfl e]
OC:=(v,a)
jk:=gR v u
dR a b:=a0 a b rfl
XS:=fX x.1
ka:=by (simp[*];lia)
gl a:=bn (p.y==a)
tJ:=fY h'
rB:=hw aq
oH a:=fun(i:Nat)=>a
Ej:=aD0 e 0
bd a c d:=l b o a c d
jl:=aCN a5 B par
jm:=xE9 o p
hA a:=aO2 bS a rfl
g6 a b:=(ah,a)::MD b cG
kb:=eW eG eH z
d a b c d e f g:=aeY (K:=K) (R:=a) b c d e f g ?_ ?_
fH a:=by exact(a)
ke:=bL Env
bo a b c:=(if a then b else c)
dx a b:=(show a from b)
eq a:=by have a9:=a
pK:=.ref I
pL:=.ref z
mM a:=.int a u
rC:=by subst z
kR:=aK bG
OD:=bj zv
g7 a b:=by rcases a with b|m
bp a b c:=(a).set b c
kf:=Run R
kg:=pv 7
kh:=pv 8
ny:=dz v
ki:=aiK r
kj:=Rl I
xo:=bky "set-order"
a b c d e f g h i j k:=a b c d e f g h i ⟨j,k⟩
cm a b:=by have a:b:=by simp[*]
z a b c d e:=a/\b/\c/\d/\e
df a b c:=by rw[C (aFP a rfl (x:=b) rfl c)]
rD:=ac d
a3 a b c:=by rw[bC a b (zi c)]
k9 a:=cr (! a)
nz:=x∈B
aS a b c d:=show a=b by exact mR c d
xp:=bU e
xq:=by (constructor<;>simp_all)
jz a:=fj "tuple" (.seq a)
xr:=by (simp[*];lia-abstractProof)
go a:=bn (p.x==a)
l a b c d e f:=by rw[T a b (upd c d e) f]
nB:=dp h' D
tK:=ii rfl
tL:=ik kI
mN b:=va K H a b
I b c d e f:=a b c d _ (ah e f)
fd a:=R.X e (R.k a)
OE:=(nf r t)
bh b c d e:=i b c _ _ rfl d e
tM:=R1 P w
dS a b:=D KN a cv b
kk:=Pt×Pt
hB a:=bkz K xi a
xt:=Le E N
ir a b:=aik Wm aJ a b
fI a:=d9 _ _ a
kn:=by refine fH (fun c=>?_) (fun c=>?_)
ev a b:=.Call (.Name a p) b [] pos
CI a:=eA ((x==(a:Str))=ah) Vo
aFW:=(bk il/\bk ik)
gd a b:=cg (dI (aBk a (MD b cG)) fN=ah)
is a b:=by obtain⟨a,a8,r,r1,d2⟩:=b
al a b c d:=by generalize(akP).1=a,aV akP=b,bW akP=c,(akP).2.2.2=d
xu:=aa 0
xv:=aa i
eW a:=by rw[aTg]at a
cH a b c:=by obtain⟨b1,a,b⟩:=c
b7 a b c:=by obtain⟨c5,a,b⟩:=c
ad a b c d:=by have a:b=aa c:=d
nD:=.ref t
nG:=.ref d
mO a:=cw (bk a)
ip a:=eK (hu a)
tN:=by subst d3
fe a:=cj (bF a)
pM:=dd _
hD a:=(a).toArray
eT a b:=(a).getD b
kS:=wA g
f a b c d e f g:=by generalize U a b c=d at e f g
xw:=b_ nd
gr a:=fI a nd
pN:=cy U
pO:=ox bP
m a b c d e f:=by generalize upd a b c=d at e f
ma:=a6u (B+1)
jA a:=by rw[akT];exact a
br a b c:=x (hp a b c)
da a b:=(a&&b)=ab
Ek:=aS z.2
ff a:=(vP a).1
kT:=(IU).1
mb:=dg ao
kU:=aV IU
nJ:=dF cf
kW:=as rfl
kX:=bW IU
kY:=cB IU
cv a b:=cg (SE X a b)
kZ:=bY IU
lb a:=fun b m=>a
k_:=by rw[jq D]
la:=ct IU
lg:=gR y u
nK:=dP bS
OF:=([]:nh)
lh:=cF j
lj:=eZ (IU)
gt a:=ga (GJ L v a)
bi a b c:=fo (yY a b c)
a9 a b c:=by rw[bD a (k7 b) c]
gx a:=ko f v a
ll:=fk H h
fg a:=fun l a5=>a
nL:=aO Nat Nat
lq:=M b c3
lr:=xE8 o p
gy a:=d _ _ a
aFX:=us3 (vB ng)
lu:=aCm R t s c1
bA a b c d:=(f a L bQ b c (Q d L))
xx:=by intro au s M H x y v u Q I R Z h
co a b c:=by generalize(RZ _ _).1=a,aV (RZ _ _)=b,(RZ _ _).2.2=c
lc a:=c A B C D a
db a b:=by obtain⟨c,a⟩:=b
nO:=bL d
fJ a:=by have f:=a
dc a b:=by rw[a,H_]at b
nU:=.ref it
fh a:=bj (J a)
tO:=.tup O
bV a b c:=.tup (ed a (.ref b) c)
tP:=by intro z
gV a:=.Name x a
pP:=dd hi
au a b c d e:={cls:=a,dict:=b,data:= .seq c d,slots:=e}
ac a b c d e:=by rcases bkA a b with c|d|e
tQ:=bH o_
fv a b:=∃e∈a,b
jC a:=by simp[a]at h
tR:=NR R.d
cp a b c:=KU (yZ a b c)
b_ a b c:=(a).extBut b c
cG a b:=by delta a;exact b
xy:=v i
bj a b c:=d a rfl b c
mc:=by rw[C ?_]
fK a:=by rw[C (bF a)]
md:=dg Prop
bX a b c:=L (L a b) c
tS:=ch z
me:=by rw[dP,dI bI]
jD a:=by rw[bJ (x a a0)]
dy a b:=show a=b by simp+arith [*]
pQ:=es St
El:=by rw[ev J]
pR:=gR x u
nY:=dP bP
nZ:=by(simp_all;lia)
pS:=k4 a
mf:=k4 b
n_:=eD O
gW a:=fun p c2=>a
hE a:=yQ r z a
tT:=vm r eN
jE a:=fun b o U e=>a
dz a b:=a[i]'(b)
mh:=rt bE
it a b:=fr a (b:Str)
bm a b c:=Co a K H b c
oa:=fun e a0=>?_
eU c d:=j a b c d
mP a:=fun(p:Pt)=>a
D b c d e g:=f b _ _ (vn c) rfl d e g
V a b c d e:=a->(b/\c)\/(d/\e)
ge a b:=be x a L b
XT:=jw cO w
gz a:=ar rn m a
vE a:=z f7 (f7<m) a
mi:=CI "__debug__"
ir a:=v pw mW a
Em:=(pF,rq)
pT:=cp bG bG
IW:=bG▸bG
rI a:=cz a (bkB _)
Ao:=Gx r z
cH a b:=zzN a rfl b rfl
hF a:=f9 _ _ a
tU:=a0a cC cC cC
aFY:=aK "gaps" B (aK "passed" b2 [])
r0 a:=b3 au s M H a I h
ob:=by cases C
pU:=by cases S
dd a b:=by rw[dd a]at b
oc:=by rw[this]
dT a b:=by exact cz a b
pV:=bL ai1
mQ a:=fun t=>a
gZ a:=fun c=>a
bY a b c:=by obtain⟨m,a,b⟩:=c
ae a b c d:=by have a:vr b c:=d
fL a:=by have a3:=a
rE:=.ref f
jF a:=by refine cj a
od:=by refine fO
pW:=.inl a5
de a b:=by rcases a with rfl|b
pX:=zo aY
xA:=cj h
pY:=bH Z
oe:=Run iu
og:=wA h
oh:=aE7 ?_
oi:=aE4 ?_
En:=m_ d9
xB:=aQG a6
ap a b c d:=v a b (t c d)
ld a:=a=aa .local
pZ:=x (bkC _)
oj:=bkD=ae
g0 a:=B a fN
bZ a b c:=ah a b (df c)
tV:=ac l
g8 a b:=ed a (.int b)
om:=j<aJ
fM a:=g3 a aFX
bs a b c:=ac (a++b) c
b2 a b c:=by rw[w a b c ?_]
g9 a b:=dH (hJ a) b
Eo:=([]:ek)
X a b c d:=(i 2 a b c d)
oo:=x (mE Ag)
Ap:=hr 12
le a:=hs (d6 M H a)
OG:=dj b3
j b c d e f g h:=a _ rfl b c d e f g h
Aq:=ind (h=e)
Ar:=ind (h=rv e)
ez c e:=by rw[bU c a e]
oI b:=m _ _ _ b
L a b c d e:=cg (aC a b c) (aS d e)
Ep:=W b U
oq:=aCY r t z
tW:=KV F vs
dU a b:=s _ _ a b
jP a b:=Z a (aa b) ae
f1 a:=fun D M H=>a
p_:=(cp e8).2
ot:=xE7 o p
f2 a:=dE a l m
aJ a b c d:=aOx (O:=a) b c d ?_ ?_
vG a:=bo (jM a akS)
ar b c e f:=by rw[a b c d e d f]
rF:=yG lE 0 lo
IX:=EP X au M Q
bv a b c:=aSZ a b c ?_ ?_ ?_ ?_
rG:=aa e
oK a:=aa (v a+1)
qa:=bL Ww
qb:=bL AK
f3 a:=(a).objs.size
dC a b:=(eL a).filter b
jG a:=(a).map vn
f4 a:=by have g:=a
f5 a:=by have d1:=a
f7 a:=by have a5:=a
As:=by {heap_get}
oM a:=["self",a]
oN a:=by refine ax a ?_
hG a:=.int a 0
X a b c d e:=by obtain⟨z,a,b,c,d⟩:=e
tX:=by simp[this]
OH:=sV e0
g1 a:=cq (v a)
qc:=.dK F
qd:=.dT []
hH a:=by simp[a]at this
eB a b:=lx a b bE
tY:=aV5 _
akU:=ax8 led
gf a b:=by obtain⟨F,a,_,_,_⟩:=b
hI a:=L b=aa a
xC:=v 0
qe:=(rm).1
jH a:=t a CW
aV a b c d:=U a b (c++[d])
qf:=aV rm
rH:=oD 2
jI a:=fun x a8=>a
qg:=bW rm
Au:=m.2.1
tZ:=R.d-1
qh:=cB rm
f8 a:=bs bP a
qi:=bY rm
qj:=ct rm
jL a:=fun o z=>a
qk:=dv rm
ql:=d7 rm
hK a:=Gn r f (ch a)
qm:=dw ae
lf a:=dl (f a)
xD:=Ic b 4 4
f9 a:=fun e a0=>a
is a:=eb (gi a)
li a:=(a==ahy)=ah
qn:=Gl X x
qo:=fr rm
Av:=c5 8 4
lk a:=upd L t a
cq a b c:=jo a (gR b) (gR c)
aK a b c d:=by rw[de a (b++[c]) d]
t_:=gR x v
g2 a:=(lB t a p)
it a:=by have:=gB aC' a
qp:=k8 rm
xE:=jJ r e
qq:=fun x S=>?_
qr:=au I d
d3 a b:=sb _ _ a (ax b)
XU:=[e,b9]
eV a b:=R (.ok (.ret a)) b
qs:=cp (eZ (rm))
ua:=fun b U=>?_
ix a:=by rw[v rfl (TC a)]
qt:=oF (rm).2
mR a:=fun i M L _ z=>a
iE a b:=by intro au s M H a b Q I J h
OI:=b∈a5 a
Er:=by injection h with h
cO a b c:=p=a\/p=b\/c
eW b c:=bi b H I c
Es:=by injection h with h k
qu:=by rcases ifC h with⟨rfl,h⟩|h
qv:=auW w h m
nF a c:=ahs h vs=tG/\c3 h b7 (fun b d4=>Z b (b8 h d4 a) c)
r1 a:=by obtain⟨F,g4,h3,h6,f4,f5⟩:=a
iE a:=⟨a,h⟩
dD a b:=⟨a,av b⟩
r2 a:=⟨a,ag⟩
bx a b c:=by simp[a,b,c]
ub:=by cases g
gA a:=by rw[cA]at a
gB a:=by rw[a]at hR
d4 a b:=by obtain⟨a,q⟩:=b
lm a:=fun o=>a
hN a:=(a).map cq
bH a b c:=by obtain⟨f,a,b⟩:=c
cS a b c:=by obtain⟨O,a,b⟩:=c
hR a:=by have d5:=a
g3 a:=by have b9:=a
Aw:=.ref y
eC a b:=(a).all b
hY a:=hx (v a)
rJ:=by subst f
rK:=by intro l
he a b:=gE (fJ a b)
oO a:={s with toks:=a}
hZ a:=qA a sh
uc:=.dT F
gC a:=(cA t).aP a
akV:=(OE).row
rL:=bp kG
xF:=pv 9
rM:=lG b
xG:=b_ a5
gD a:=zzA a rfl
Ax:=aE3 ?_
eX a b:=(a).free b
Ay:=Oe gU
ln a:=vC (pC i) a
gg a b:=aFQ a rfl b
ud:=L6 p
rN:=aZl cC
xH:=bkE gf
ax b c d e:=a b rfl c d e
dE a b:=by have a:b:=by grind
OJ:=cp z.2
g4 a:=ail a ab=ab
cr a b c:=by have a:b=c:=by simp_all
gF a:=a8 a=ae
gG a:=mg a=ae
IY:=L b=ae
M b c d e g:=f b c d ⟨e,g⟩
akW:=fun q=>?_
d7 a b:=by rw[N a b 0]
IZ:=Q .bC L
jM a:=fun x y=>a
gl a b:=dm (ac' a) b
xI:=di aw
iF a:=fun _ _ q=>a
xJ:=bd rfl
bA b c d:=by rw[aW b (av c) d]
rO:=es It
gI a:=by show(a)=_
ue:=by (constructor<;>lia)
jS a:=hs (t M H a)
uf:=dQ bE
XW:=Ic b 8 4
rP:=dR h
as b c d e:=m b _ (cy c) d e
d9 a b:=by rw[k6 (ip a b)]
h0 a:=em a lT
I0:=gT b4
aW a b c d:=by rw[cG a b (oH c d)]
Az:=Gw r z row
OK:=mH M H
rQ:=(a,b)
aFZ:=Vc x=aa c
AA:=rI b8
rR:=r0 _
rS:=z<=w
AB:=gB _ bG
ug:=lH-R.d
rT:=aDC (g5 ah p)
uh:=fun p c2=>?_
rV:=M e b8
jU a:=∃t,u=a
I1:=ar F d g
vJ a:=(a5V a).imp ?_
iG a:=by generalize a=a8 at a4 b4
aF0:=e8 vs H Q E
akX:=eW eg (bp b) rp
ui:=by delta eW dx dy
rW:=by rw[a4M,OD]
rX:=g i j
rY:=xE6 o p
xK:=a4x _ _
cs a b c:=H2 r.w r.h a b c
g5 a:=rcF g ls a
h1 a:=A++(a++B)
jS a b:=.Call (.Name a f6) b [] d
AD:=B (iX b3) (jJ r)
am a b c d:=ff (jw cO w) A a b c d
rZ:=aiS w h m
eD a b:=yy (adx aj' bkG bkF aPP a (ea b))
dF a b:=yy (adx aj' bkI bkH aPO a (ea b))
OL:=a c2 g d D os
CK a:=b3 a au s M H _ I h
mS a:=afW w a r a7 e1 t k
Et:=bZ U7
OM:=by simp+arith [*]
eE a b:=by obtain⟨a,b9⟩:=b
uj:=bL ax
uk:=bL PKV
um:=[b8]
uo:=[bc]
xM:=by simpa using bG
bJ a b c:=by obtain⟨o,a,b⟩:=c
au a b c d:=by have a:SB b H c:=d
g7 a:=by have c1:=a
uq:=.ref r
b3 a b c:=["self",a,b,c]
Eu:=kz fN
ur:=vQ h
bj a b c e:=.inr (d a b c e)
ct a b c:=if a=0 then b else c
eb a b:=upd a x b
Q a b c d e:=by obtain⟨a,b,rfl,c,d⟩:=e
c a b c d e f g h i:=by obtain⟨a,b,c,d,e,rfl,f,g,h⟩:=i
a0 a b c d:=by obtain⟨a,b,c,d⟩:=h
iH a:=cz a (iO _)
uu:=by simp at this
go a b:=by obtain⟨a,e,_⟩:=b
ca a b c:=(a).elim b c
xN:=by rw[<-e]
eZ a b:=.Subscript a b pos
uv:=bO a0
xO:=wK cq
lP a b:=(a).setIfInBounds b ab
iG a b:=by obtain⟨a,_,rfl⟩:=b
jV a:=lz (HQ r a)
hf a b:=(a).idxOf b
uw:=lA R
eK a b:=oI a (hy b)
av a b c d:=by rintro rfl a b c d
ux:=gg a4
uy:=oL p
iI a:=a=aa .free
eL a b:=x (RT a b)
iK a:=aDL a=ab
xP:=pf q=ab
cd a b c:=by have a:b=c:=by rfl
bL a b c:=by have a:b=c:=by grind
l a b d e f g h:=c a b d e (f->g->h)
uz:=2^(k+1)
uA:=dg cf
AE:=ac le
uB:=as ae
AF:=hp gC
uC:=jp bB
r3 a:=fj "list" a
uD:=aO tI V
lp a:=bC (aP6 a)
h2 a:=df bY a
uE:=by rw[aO zv]
xQ:=fi l
h3 a:=bH a8 a
uF:=fW N
AG:=fW gk
uG:=(v,b)∈bY
uH:=ih bI
uI:=ih kH
uJ:=dp h' t'
ls a:=by cases a<;>rfl
I2:=t<=e.2
iH a b:=B (iX a) (cr b)
uK:=ar F m h
uL:=fe F k
ON:=Pt->cf
bN a b c:=jI (it a b) c
akY:=j i M H
AH:=bs aq bE
uM:=fW [X]
Ew:=aa l x
xR:=ax gm e
XX:=k9 (b3 l)
uN:=mN O
uO:=qK b2 B X c7
uP:=Gq r h
fw a b:=ab _ rfl a b
g8 a:=RY o (J a)
cv a b c:=B a (fun s=>b)=aa c
Ex:=bh (d9 dz)
uQ:=zx+64<gF
XY:=ir 0 (Dy aJ)
Ey:=by rw[fs (u=dq a) R]
oQ a:=aBW _ _ (hv a)
i a b c d e f g h:=by have a:N b c d e f:=co g h
iN a:=be (dk a b)
h4 a:=by rw[a7 e a0 a]
hd a:=vJ a X cnt aP
iP a:=by rw[g7 (Nl a) m]
dK a b c:=Sm bS gJ a (eE b) a6 c .nil fu
fx a b:=ayl a z TI d b TO
bO a b c:=aE1 (p:=fun z:a=>b) y c
uR:=cof r e
uS:=a3X b p
lt a:=Z a A B
he b:=ow P w H h a b
uT:=(lo+hi)/2
hf a:=by have⟨u,f,hu⟩:=a
hi a b:=au Ak ae a b #[]
uU:=by subst C hw g
aF6:=aC7 i j (aC6 NN l)
lv a:=aQD rfl a5O (ea a)
uV:=aFW/\b1 jz/\b1 kD
r4 a:=(a).yld i H x L
Ez:=Uz w r e1 a7
xS:=aZm cC cC cC cC
r5 a:=mF (bU l.1 l.2&&bU l.2 a)
hi a:=ayX C a x b2 B X c7
n a b c d e f:=by generalize(OA).1=a,aV OA=b,bW OA=c,cB OA=d,bY OA=e,jt OA=f
vK b:=∀(a:Addr)(D:Gla.Plan)(b2 X G:Addr),b
jZ a:=⟨a,0⟩
iQ a:=by rw[a]
eM a b:=by simp[a,b]
iJ a b:=by obtain⟨j,a⟩:=b
fy a b:=by obtain⟨Y,a⟩:=b
h6 a:=by rw[a5C a _]
xT:=bkJ ht
EA:=fv pE
dg a b c:=by obtain⟨a,a9,b⟩:=c
h7 a:=by have e8:=a
xU:=kz f
j0 a:=by refine aiG a
h8 a:=by refine vJ a
I3:=.int j
AI:=.inl h
e1 a b:=.inr ⟨a,b⟩
xV:=by subst d0
I4:=CQ e0
AJ:=mJ akU
EB:=cV this
xW:=.dK []
AL:=bkK nd
ce a b c d:=bkL (name:=Hc a) b c d
j4 a:=Kt a this
AM:=bH r.E
eN a b:=(a).Perm b
iR a:=(cA aJ).aP a
gr a b:=(a).flatMap b
xX:=yU r
cV a b c:=kr a (kr b c)
xY:=xc t
xZ:=a6v (j+1)
x_:=a6h R
ya:=aDo m
j5 a:=a=aa .cell
b4 a b c:=by have a:b:=by exact c
fG a b:=x (fg a b)
AN:=x tF
aC a b c d:=by have a:b=c:=by exact d
R a b c d e:=by have a:b=c:=by rw[J d e]
ce a b c:=d a b rfl c
gt a b:=t (ef a b)
yb:=dF pE
hm a b:=an (jP a b)
yc:=di bb
I5:=x<cnt
iS a:=by rw[T x a]
vM a:=fun _ _ z=>a
AO:=Q v H
h_ a:=by rw[al (Nl a)]
mU a:=fun i H=>a
j6 a:=fun i hi=>a
yd:=by rw[dP,ed bM]
AQ:=es cf
ia a:=bl (aht a)
ye:=fi X.N
yf:=mB aB0
aO a b c d:=by have a:b<c:=by exact d
I6:=a∈B
j7 a:=Q (.bool a) s
eO a b:=X a b ["drawing"]
I7:=hr 14
akZ:=Ic b 12 4
AR:=(aS e8).2
bk a b c d:=ar1 (own:=[(a,b),(c,d)]) bI
iT a:=cx b8 a
j9 a:=x (qw a)
di a b c:=match a with|some e=>b|none=>c
b6 a b c:=(ah a b (df c))
lw a:=by rw[a]at d3 k
S a b c d e:=by {obtain⟨a,b⟩:=c;exact⟨d,e⟩}
AS:=a≠b
yg:=ar F m g
OO:=cZ a8 L
I8:=13+2^k
yh:=ed 0 xh
iU a:=(ax a p)
yi:=f_ e a0
lx a:=∀v∈B,a
OP:=cr (l.2==v)
OQ:=(NB iW)
oR a:=F7 (oE (.bl a))
EC:=NA r t
OR:=iY ig bkM
ED:=A Y a
AU:={r with marks:=d8}
EE:=Xg z 0
hp a b:=(cH a).put b
cf a c d:=by have a:c:=fun b U=>d
oS a:=fun(x:Ln×Nat)=>a
yj:=dK I I
EF:=iP O ar
bl a b c d:=bk j a (aa b c->d)
r6 a:=Cs K a (oy bE) (oy bE)
yk:=t _ _ q
hq a b:=PI X c7 a b
cw a b c:=aZ->a->di b c
yl:=M i A
ym:=bV tF fy
fK a b:=bm q.x p.x*bm a b
yn:=Inv R t s
ak0:=CK pos
eR a b:=afi K H a b
yo:=axS t k
yp:=by rw[r1 (W it bK)]
iV a:=adh X au a b
ak1:=si a2w mK []
AV:=(·.at_)
mV a:=fun N hN=>a
j0 b c:=.inl (f b _ _ c)
yq:=xE5 o p
ak2:=max i j
yr:=Io h%(cB+1)
XZ:=k H ej
AW:=aiJ _ _
I9:=Cd r v
iW a:=h1 _ _ a
ak3:=za B par
kc a:=d5 _ (Eb a)
AX:=UW b p
EG:=by rw[hm (bkN kH ?_)]
r7 a:=j x c aFZ a
ys:=dq p.y p.x
a1 a b c d:=match a with|some i=>aa ⟨b,c⟩|none=>d
yt:=dr ay ay
EH:=Dc bx 0 lo
ic a:=by rw[aO i hi (ie a)]
ak4:=aDY e (Ej+1)
OS:=a+c+x
mW a:=Sq arI a bE ry
a2 a b c d:=ff (jw eC X.w) X.A a b c d
j1 a b:=a6w s H d (aB' d a b cG) a8
j2 a b:=aA3 a b (aqe st) (RP st) Eh .none kV p b3 g e3 ct
fL a b:=by obtain⟨e,a⟩:=b
ch a b c:=by obtain⟨a,b⟩:=a1Z c
AY:=bL ao
I_:=bL ja
iY a:=fun j=>a
X0:=["self"]
ci a b c:=by obtain⟨a,b,d2⟩:=c
ly a:=run a os
iZ a:=by have lt:=a
fM a b:=(a,.ref b)
EI:=.ref D
e3 a b:=by refine av a b
kd a:=a<1000000
AZ:=.inl bG
Ja:=by delta sd
ad a b c d e:=by obtain⟨a,n,b,c,d⟩:=e
fW a b:=by by_cases a:i<b
X1:=Sem cS
Jb:=.bool b
iK a b:=.BoolOp a b pos
EJ:=vZ ?_
mX a:=cj (cj a)
i0 a:=(a).elim
j3 a b:=.Attribute o a b
kl a:=min a n
EK:=d_ ai
iL a b:=by rintro⟨a,b,e⟩
hr a b:=by rintro⟨a,b,h⟩
A_:=aey (Tj _ _)
Ba:=qH (Tj _ _)
EL:=ai0 eY
Bb:=yE Sl
i1 a:=St a bh
Jc:=bkO IV
EM:=a0A cC
e4 a b:=by have a:b:=by grind-abstractProof
Jd:=x IW
Je:=(aEb j).1
Bc:=by rw[l g]
cx a b c:=by rw[l (v a b c)]
OT:=ac c0
aP b c d e:=by rw[j b c d e ?_]
i2 a:=by rw[aj (bj a)]
Bd:=mz aJ
i3 a:=bs aw a
km a:=a7 a aq
ko a:=Q (vn a) H
i4 a:=by delta a;simp
hs a b:=show a=b by simp
cZ a b c:=cS a (lx F8 (gi b) c)
iM a b:=an a "drawing" b
fX a c:=bH a (b∈c)
i5 a:=by {have:=a;grind-abstractProof}
EN:=f::a7
Jf:=b∉ch
cj a b c:=by rw[M a b c ai]
Be:=I->cf
Bf:=dJ L R
fc a b:=aj gO aq a b
lB a:=fun v d3=>a
O a b c d e:=my K a b c d (oM e)
fY a b:=jI (mg a) b
Bg:=f++[e]
oV a:=by rw[hz (gc a)]
Bh:=eA (X.K=d) aFR
ht a c:=j b o (be a) c
EO:=jw aDA
Bi:=im (ij i≠[])
ck a b c:=by rw[ak a bY b c]
i6 a:=du a aFV
Bj:=io aJ
fd a b:=dC dH H a b
Bk:=by(simp[*];lia-abstractProof)
Bl:=by(simp_all;lia-abstractProof)
lR a b:=mJ (fj a (.fields b))
fZ a b:=BF X (.builtin a) b
ER:=jz aDA
X2:=lb (.inl m)
OU:=(Se K l)
i7 a:=num (qZ r) a 2
aF7:=U a8 D []
ak5:=mQ (dq t.1)
Bm:=aR L c1
oX b:=f _ _ rfl b
f0 a b:=g9 (dk a) b
cf a b c d:=[a,.ref b,.ref c,.ref d]
ff a b:=Dw K H a b
Bn:=M o l
r8 a:=by rw[df c9 a ?_]
Bo:=il (mK akX)
Bp:=et A (TQ h A a)
cl b c d:=by rw[K b l _ (ah c d)]
vS a:=bA l xj (aj l a) cD
Jg:=xm= .empty
X4:=akj D z
cm a b c:=by rintro rfl h a b c k
fh b c:=rj cO w b c a
ak6:=mF (! aF6)
aF8:=fun y k h=>?_
aR c f g h:=by rw[e l b c f rfl g ay h]
Bq:=by rw[K a D b2 X G]
Br:=by simp only[hF,oW,Du]at m
gy a b:=by obtain⟨e,a0,a⟩:=b
i8 a:=fun j b8=>a
Bs:=by intro x S
i9 a:=eW p q a
vT a:=bkP (gB (J (aa (bkQ z))) a)
Bt:=by (rw[eF,cI])
Bu:=an OB gf
ES:=b7 bG bG
X5:=by rw[bW M L]
cy a b c:=E a b Ei x c
Bv:=gb ro (g6 tH a7)
r9 a:=c3 (ag4 a) h b7
i_ a:=by show(Z a _ _)
n a b c d e f g:=by rcases aNz a with⟨b,c,rfl,d⟩|⟨e,f,rfl,g⟩
Bw:=j x v (fn x=aa v) (mg x=v)
fi a b:=by rw[ac a b q q q]
nH a c:=nF (fun y e4=>I B (b5 (e4 D) B) (eD<hy) a) c
iN a b:=sM C P w r a x b2 B X c7 b t
f1 a b:=EP X au M Q a b
Bx:=by have f3:hy=16777216:=wg
ET:=a0 au s M H _ I h
jn a:=Mc b c P w r a y x b2 B X c7 I
vU a:=a6x (t':=dF) a F g4 h6 f4 f5
vX a:=∀(s:Shared)(H:Hp)(C:Addr)(e9:jd)(a8:bg),a
m0 a:=⟨eu,a⟩
cz a b c:=by rw[a,b,c]
hv a b:=by simpa[a]using b
EU:=by rw[xq]
kp a:=by rw[jC a]
oY a:=by rw[this]at a
f2 a b:=by obtain⟨f,a⟩:=b
m1 a:=by exact .inl a
EV:=bL cf
EW:=bL gA
dj a b c:=by obtain⟨d8,a,b⟩:=c
cA a b c:=by obtain⟨a,b,c⟩:=h
EX:=by {rw[xr]}
OV:=.ref e
EY:=.inr rfl
Jh:=by delta oZ
EZ:=by delta aht
Y a b c d e:=by obtain⟨a,b,c,rfl,d⟩:=e
f3 a b:=by rcases S with a|b
f4 a b:=by obtain⟨a,q,_⟩:=b
kq a:=a6t a env
E4:=.bl b
gz a b:=(a+b).toNat
OW:=Vu toV
oZ a:=by simpa[a]using this
OX:=wK aDJ
E5:=bkR bG
E6:=bH d5
gA a b:=∃w∈a,b
E7:=(cA t).cnt
m2 a:=a6y (r2 a)
E8:=pv 10
OY:=pv 11
lC a:=gc (b_ a)
E9:=avl eZ
X6:=cy (dn b3)
lE a:=cy (K:=K) a
E_:=a6q cs
sa a:=by rw[xk];exact a
gC a b:=x (mR a b)
Ji:=x (wk bG)
Jj:=v lo
kr a:=v (t a)
Fb:=(Ah).1
c4 a b c:=by have a:b=c:=by grind-abstractProof
gD a b:=B a (ab b)
Fc:=t xt
kt a:=by rw[v (ay) a]
a6 a b c d:=ah a b (bo c d)
Jk:=fun x=>?_
Fd:=aV Ah
Jl:=a1 bx
Fe:=bW Ah
ee a b c:=ab (if a then b else c)
iQ a b:=bh a (.tup b)
Ff:=cB Ah
f5 a b:=(le 2 a++b)
Fh:=bY Ah
X7:=b≠oQ
m3 a:=Q (.int a) H
kv a:=df gG a
Fi:=ct Ah
lF a:=by rw[bJ (aif a)]
Fj:=cv aM
lH a:=fun t m=>a
lJ a:=fun o q=>a
Jm:=mB cS
Fl:=Ln->Ln
kw a:=by {have:=a;lia-abstractProof}
f7 a b:=KL X (bkS a) b
hx a b:=bv a (RT this b)
Fm:=dv Ah
Fn:=by (constructor<;>lia-abstractProof)
f8 a b:=X a b ["data"]
Fo:=eD vs
Fp:=d7 Ah
Fq:=I->d
kx a:=hu (E×F×G×H×a)
c9 a b c:=ei (ei a b) c
hy a b:=aj gO bS a b
Fs:=by rw[dS bG]
o0 a:=by show ff _ _ a _ _ s
o1 a:=fun y b6=>a
m4 a:=R.X f (R.k a)
Ft:=by subst_vars;rfl
ky a:=upd L d6 a
OZ:=HQ r on
kA a:=sW+a<gF
lK a:=bD a (fun v a4 P=>?_)
hz a b:=eS a (fun e f=>b)
kB a:=ds a []
bd a b c d:=an (ox a) b c d
O0:=by rw[Oa]at m
m6 a:=fun u hu=>a
lL a:=(aa wU,a)
kC a:=An*(a).x
kD a:=ip (E×F×G×H×a)
lN a:=cf df (e3 a)
Fu:=v q.x-p.x
Fv:=v z.x-p.x
Fw:=aO c cS
c_ a b c:=by {have:=a;rw[am b];exact c}
bm a b c d:=sg (eb a b c) (fG d) BE
cB b c d:=oI (v b c d)
Fx:=aa V V Hp VK
Jn:=by rw[oN s]
X8:=a6z B p
f9 a b:=by delta a;rw[b];rfl
O1:=oO (dF+1)
ak7:=ajm j v
Fy:=Dr r z=ab
Fz:=by rw[bW l b]
FA:=sv F h m
kE a:=by obtain⟨a3,a9⟩:=a
lO a:=ahJ (an (a==v))
FC:=PA X ro t
O2:=j b o g_ hb
sb a:=fun _ _ _ _=>a
m7 a:=by rw[aj a,cI]
ak8:=fun c4=>U (ar c4)
gF a b:=by obtain⟨j,b8,a⟩:=b
m8 a:=Gh i c a
Jo:=IL D eN
FD:=a2 (a2 (Ah))
O3:=(Ac o x).2
m9 b:=oM P w b a f n
cF a b c:=ow eC X.w a h' b c
FE:=it rn j h
Jp:=vD t ((q n).j+o)
Jq:=[x,y]
hA a b:=[vn a,vn b]
O4:=by constructor<;>assumption
O5:=BR h e
FF:=Cf r z
FG:=vG F k
lP a:=bh k (aC A (sP a))
O6:=cr (d5 a) (d5 b)<0
hD a b:=aBS (.type a) b=eV ae
FH:=UF f cnt aP
kF a:=v [a] [] 0
aF9:=Inv X au g0 L c1
T a b c d e:=au (a).1 (aV b) (au (bW c) (cB d) e)
O7:=(bkT i4)
FI:=aD6 h i
FJ:=xE4 o p
k1 b:=Rd H a b
FK:=max (aP a) (aP b)
gG a b:=aFb (aNV a (aNU b))
o2 a:=aWD a5 n a
e4 a b c:=by rw[C (bkU (ce "__next__" a b c))]
l1 a:=fun _ H Q=>a
FL:=cg (X.K=K)
FN:=bx z.y z.x
Jr:=yG lE lE hi
k2 a:=an ["self"] "self" a
aF_:=(m::row)
FO:=jx (ar d.1 k)
X9:=mJ (fj "dict" (.dict #[]))
m a b c d e f g:=aS a b (cV (aC c d e)) (cV (aS f g))
FP:=Xx r z row
na a:=∀(l:Addr)(b:Gla.Bytes),a
O8:=bk p.x/\bk p.y
ga a b:=jA+(8*aJ+(4*a+b))
CL a:=j g0 L (N g0 L) a
FQ:=(tr dg p.i Ik).1
FR:=by refine fH pG pG
vY a:=.ListComp t a d pos
o3 a:=TB (vM (a6f sb n)) a
X_:=jo c5 (oK e.1) (gR e.2)
Js:=a6w c8 d4 d a a8
ae a b c d e:=P y a b y (oK c d e j y=ah)
FT:=aC dr (aK "links" X aFY)
FU:=jA+8*aJ+4*dR+12*i
CM a:=lC=kA->bkV a (ec b1)=eV (MQ b1)
iR a b:=fun _ _ _ _ _ _ _ a=>b
k3 a:=by rcases a with rfl|rfl|rfl|rfl
O9:=iX (V2 r t z)
o4 a:=lc (c E F G H a)
j4 a b:=dI a (DL (xc e.1) (xc e.2))||dI (B b (bo akS)) (Cu rr)
l0 a b:=LV C H L r b2 X a b
FV:=fun e3 A eB s H vs Q E a6 h=>?_
o6 a:=⟨#[],a⟩
l2 a:=⟨?_,a⟩
sc a:=⟨er 3,a⟩
O_:=bL Obj
Jt:=bL Hf
Ju:=by {lia-abstractProof}
Pa:=.ref c0
l3 a:=by refine Ob a ?_
nb a:=cw (0<a)
nc a:=dI (gd a)
Pb:=.inl k
Jv:=by subst b4
ef a b c:=.cons a (.cons b c)
Jw:=.str x
Jx:=.type "set"
Z a b c d e:=by obtain⟨O,a,b,c,d⟩:=e
gI a b:=bX (ft a b)
dk a b c:=by have:=a50 a (l₂:=b) c
Jy:=by rw[<-bkW]
Pc:=.dK ak3
Ya:=.builtin id
Jz:=.ok T
Pd:=d_ ag
JA:=pa (· < ·)
JB:=iX (HM r z)
nd a:=(a).head?
v0 a:=(NL a).eraseDups
j5 a b:=iq (b_ (o:=a) b)
gJ a b:=mz a (dd b)
sd a:=(a).isNone
JC:=cy b3
JD:=bkX a5
JE:=aE9 ?_
nf a:=bkY a rfl
l5 a:=cH (b_ a)
JF:=agA row
gO a b:=Nat->a->b
da a b c:=by have a:b:=by simpa using c
Pe:=xo=ab
hF a b:=by simp[a];exact b
JG:=GG b p=ae
gP a b:=by {rw[aj a];exact b}
dl a b c:=by {rw[aK a,aK b];exact c}
l6 a:=by rw[v ?_ a]
Pf:=be (H b)
Pg:=be (a6A b)
hG a b:=L (dk a) b
o b c d e f g:=by rw[j b c d e ⟨f,g⟩]
JH:=hp cF
se a:=Q (vn a) L
Ph:=Q bc L
JI:=Q (.ref F) L
JJ:=e8.2.1
Pj:=au ?_
JK:=bh ak4
j6 a b:=ae (yG n a b)
nl a:=by intro au s M H Q I a
gQ a b:=by rw[Z (bX a) b]
JL:=mB Nat
JM:=(v,x)
Pk:=jr Ao
Pl:=js rfl
Yb:=Q ah s
Pm:=hr 16
JN:=(u,v)
JO:=OC∈bY
JP:=by rw[cw q mX]
JQ:=I->aQ
db d e f:=by rw[ah d (cy e) dt f]
l7 b:=cx (.tup b)
Pn:=db xp
nm a:=va K H p a
e7 a b c:=by {rw[fZ a];exact⟨b,c⟩}
nn a:=by have:=a;rw[gh]
JR:=c5 4 4
ei a b c:=X a b ["drawing",c]
JS:=vB cF
JT:=hY k A
gS c d:=eS c (ft d)
JU:=ad l o
bn a b c d:=PS X (.Assign a b c) d
Po:=t M H Q
l8 a:=by {rw[a];simp}
gU a b:=by rw[aj a4 a (b_ b)]
Pp:=by rw[is x P]
JV:=by rw[is vs P]
iS a b:=by rw[jF ⟨a6B a _,b⟩]
l9 a:=∀(l:cJ),a
Pq:=aS n i
JW:=dj g Z
Pr:=by (split<;>simp_all)
JX:=gd pos a7
gV a b:=(.inl a,.int b)
Pu:=a1 a b
Yc:=dM c 0
no a:=d_ (by rw[cA,a];rfl)
hI a b:=hB a=aa (ac b)
ml a:=be a Hp VK
hK a b:=Cs K a So (oy b)
JY:=mS bh
JZ:=fn n i
dc a b c:=x (uW a b c fy)
J0:=r3 (jy eU)
J1:=sW+1<gF
ak9:=W i m M H
J2:=by have i9:=e_
J3:=by rw[VS,Nm]
iT a b:=by obtain⟨ar,rv,a,_⟩:=b
gW a b:=e7 (x∈a↔x∈b)
Yd:=mP F k v
aF':=k a b=ab
Ye:=k b u q
J4:=GR K h A
sf a:=r7 (c≠a)
ak_:=aDT (gH 4)
mn a:=sJ a v K
J5:=fun d nd=>?_
o7 a:=Z a (i e) 0
ak':=dg lV 1
J6:=dL Ln Nat
mo a:=vS (bV a)
Pw:=iH XX Em
mp a:=ahY R J a R.n w
J7:=by rw[cH q2 f6 h.s]
dL a b c:=av (vT (UX a b c))
bo a b c d:=by generalize a=b7 at b5 b c d
Yf:=Uu t p
ala:=vK D W
o8 a:=by have e:b=a:=by simp_all
Yg:=K a7 p e
aa a b c d e:=by rw[a0 (jo a b ae) c (agd d e)]
np b:=a1 h_/\li a/\b
Px:=as gK rfl rfl
J8:=ahg j d aO f R
J9:=aO tI (ei×cS)
gX a b:=by rw[z h8 (uX a) b CW]
hR a b:=cc Aj w l a=cc Aj w l b
J_:=XW+akZ
Ka:=iP b c7
Py:=.dict a7 e1
aGa:=by obtain⟨rfl,_⟩:=b0
Kb:=Loc ahr x
alb:=jw eC X.w
Pz:=bkZ i H
Kc:=den r e
mq a:=HM r z a
Yh:=bk0 i m
o9 a:=kr (Ck r a) (yV r)
ms a:=at_ a i h
iU a b:=a4Q d0 hd a b
mt a:=Z a _ _
mu a:=ff (jw eC X.w) A a Q E s
Ke:=fH (fun c=>?_) (fun c=>?_)
iV d e:=by rw[y x dx d gI e]
Kf:=eW p q z
Kg:=bp ae ae
gZ a b:=X a b ["data","place"]
bC a b c d:=ep (l+(a+b)) (J+(c+d))
bD a b c d:=es (l+(a+b)) (J+(c+d))
Kh:=ch aJ (oH (bU (t (ij i)) 2))
Ki:=ch aJ (oH (!(am XY i ah)))
Kj:=a6C X.K fd c5 c7
iW b c:=i a _ dx _ b dU c
dd d f g:=vK (e [bc] Al d f g)
Kk:=eA (aBe x=ab\/ld (ML x)) ahF
a7e:=nH (w (U e4 D (eN B))) (w d4)
Kl:=a2T T X E
PB:=afG nx k6 l0
PD:=V u vs (Cr A u)
a7f:=fun e c1=>R Am c1
dM a c d:=b a b7 Y c q2 e0 d
PF:=[x,y,g,q]
v1 a:=Cut r a z A B
Km:=by rcases H with H|H
nI a b:=ahh (bD a (fun b1 a4 P=>?_)) c0 b
g1 a b:=aW3 cB k c0 a b
Kn:=TI t k a7
Ko:=a55 r z row
ns a:=ff (jw eC X.w) X.A a Q E s
em a b d:=∃W:aa Nat Nat a Hp,(∃m,b)/\∀i m M H,d
o_ a:=fun i h h' st k=>a
mv a:=by intro x a nx k6 l0
a7g:=E L (w L) (vE (W (i+1) f7 L))
g2 a b:=by rw[i b7 a b d4 c8 e7]
CN a:=∃W:dL Nat Hp,(∃m,W 0 m aF7)/\∀i m H,a
PH:=by obtain⟨u,b,e,k⟩:=a0M h
alc:=CL (vE (W (i+1) f7 g0 L))
j7 a b:=by show KH a b _ _ _
cg a b c d:=[.int a,.int b,.int c,.int d]
PJ:=bk1 i H x L
bE a b c d:=fun(l:Pt×Pt)=>(min a b,max c d)
av a b c d e:=aO_ a (bN b aY) (ahc ay) rfl c d .nil fu e
pb a:=U au a4 M a8 a r d2
Kp:=vf eC X.w X.K mI sS T k f fd c5 e8
Kq:=@aE2 _ _ _ _ ?_
bZ a b c d:=PoI a P w b d0 x X c7 I W c k d
Kr:=@aE8 _ _ _ _ _ _ _ _ _ _ ?_
h0 a b:=∀(kV p b3:Value)(g:nj)(e3 ct:Value)(b1:aM),CM (j2 a b)
nt a:=⟨o,a⟩
iX a b:=⟨gb a,b⟩
PL:=bZ aFO
PM:=bZ bU
PN:=bZ aDr
PQ:=by rw[cI]
j9 a b:=by obtain⟨w,a⟩:=b
pc a:=by exact .inr a
nw a:=(vx (vx a))
PR:=(Sf lo n)
dm a b c:=("Sweep",a,b,c)
dn a b c:=("Record",a,b,c)
PU:=fv cf
PV:=fv Nat
PX:=fv ja
dp a b c:=by obtain⟨v,a,b⟩:=c
PY:=by split at e
Yi:=.ref k
Yj:=.ref lst
nA a:=cw (b1 a)
pd a:=.inr (.inr a)
h1 a b:=.cons a (hy b)
PZ:=bj a9
P0:=aBD vn
P1:=fw d0
sg a:=by obtain⟨_,e⟩:=a
dq a b c:=by rcases a with b|⟨a3,c⟩
P2:=by simp at S
h5 a b:=by obtain⟨a,q2,_⟩:=b
nC a:=by simp only[a]at h
Yk:=bF ?_
nE a:=aqm (aC a)
P4:=by simp only at s
nF a:=min a e.2
P5:=R.k kG
P6:=R.k ha
pe a:=ind (h∈a)
P7:=aFD jN
pg a:=pz (ir a)
nH a:=yX (jH a)
P8:=ai0 ak5
P9:=aE6 ?_
P_:=bV Ab
Qa:=by dsimp only[adb]
Yl:=.live i
Qb:=bk2 vn
Qc:=aFm vn
Qd:=a6v (i+1)
Qe:=a6g wU
j a b c d e f g h:=by obtain⟨a,b,c,d,e,f⟩:=g;exact h
h8 a b:=by have:=a;exact b
nI a:=x (aNq a)
Qf:=x (dI rfl)
aGb:=cp (a2 z)
nM a:=by rw[fz];exact a
dr a b c:=by {rw[a,b];exact c}
Qg:=by rw[C fO]
Qh:=HN r z=ah
Ym:=fun m=>?_
Qi:=dF a2A
Qj:=dF bk3
Qk:=jp bz
bp a b c d:=b5 (upd a x b c) d
Ql:=bn (pf z)
Qm:=ae ni
Qn:=ah ai
h9 a b:=df (bH a) b
h_ a b:=ae (mem a) b
nN a:=by {have:=a;simp_all}
Qo:=eC (par c)
Yn:=e.1<e.2
nP a:=by rw[a];simp
nQ a:=ga (l0 a v)
nR a:=E i (i<n) a
ds a b c:=Y a ["self",b] c
Yo:=ee e m.1
kc a b:=ei a (a7 b kK)
Qp:=i<=n
Qq:=g4 H r
nS a:=fun p q=>a
nT a:=bX 138 a
ald:=0<=w x
Yp:=aD0 x 0
Qr:=by rw[El];rfl
Qs:=hY k X.A
Qt:=rt rB
br a b c d:=by have a:b:=by rw[<-c];exact d
Qu:=eA (X.w=w) aFR
Qv:=eT aq
Yq:=gR y v
Qw:=ed 0 (.int D.w)
Qx:=aC dr aFY
Qy:=ad a o
Yr:=by intros;simp_all
Qz:=t<R.n
sh a:=ax (ne a) e
Ys:=cx b8 q
QA:=i<=bx
QB:=cr (l.1==v)
ale:=(bp h.1).y
alf:=(bp h.2).y
QC:=(Se K a)
QD:=p.x<=r.w
QE:=z.x<=r.w
iZ a b:=vV a=aa (.builtin b)
QF:=U b7 D []
QG:=hF hd
si a:=fun J c1=>a
QH:=J.1*J.1
QI:=aa V af Hp VK
QJ:=by have p:=p
nV a:=(.inl a,xh)
dv b c d:=by rw[j b c ?_ ?_ d]
alg:=dQ H _
QK:=y≠x
ch a b c d:=by have a:b=c:=by have:=d;rw[gh]
QL:=Y (ft q d1) q
alh:=bm q.y p.y
Yt:=(a6D (c[·]?))
QM:=(a6D (a7[·]?))
QN:=W8 i t
QO:=vr H L
QP:=au Nat iN
QQ:=PA X [e] d6
QR:=by rw[d2]at p k
aGc:=zW bh F b
ab a b c d e:=by rw[M a b c (by rw[gf q d,fu e q,kJ])]
QS:=jI 2 64 jC
ia a b:=by have a3:a:=CJ b
QT:=(CH a3).1
QU:=ch n p
dx a b c:=F dx a b c akh
Yu:=V b a8 IY
ali:=oS (mK XS)
QV:=lL<=8192
QW:=h b U
pi a:=Ho a bh h'
QX:=sY a6E ns
nW a:=cR (SS R a) gG
QY:=HV p l
ib a b:=num (Gz r++B) a b
nX a:=K O a x
QZ:=aa g xv
dy a b c:=by have a:b:=fun i hi=>c
Q0:=dK Nat Ln
Q1:=aC hK (sP .bC)
n0 a:=by rw[gf (bk4 a 2>>=_)]
n1 a:=(hL).is a K b
i0 a b:=ap (vE dg k a) m b
n2 a:=(yu (fn p.1),a)
Q2:=k b o b0 e
alj:=by rw[a5N]at c9
n3 c:=by obtain⟨a,b⟩:=c
ic a b:=by obtain⟨p,c2,a⟩:=b
Q3:=y::d7
alk:=.yw o u
Q4:=mJ (jw #[])
bF a b d e:=c aZ a b d (di e IX)
sl a:=ac sb b U a
n4 a:=by rw[iJ b8 (aFn a)]
Q5:=by rw[b7 a3 e9 h.p]
bH a b c d:=bk i a (b->(i<t c↔d))
n5 a:=H6 r x=a
pj a:=ff d5 A a Q E s
Yv:=BG J d6 c3
n6 b:=a (.int b) H rx el q
id a c:=ayo a e it c d b u
ie a b:=by obtain⟨y,b6,a⟩:=b
Q6:=df<=4096
Q7:=cw (XS=0)
Yw:=fun l a5=>?_
Q8:=fun y b6=>?_
i1 b c:=v=bc/\b/\c
n7 a:=a7 a (r6 aq)
Q9:=(v r.w+1)
v2 a:=fun O H Q=>a
Q_:=b7 ew fp
n8 b:=by rw[dl (.inl b) ?_]
Ra:=jc%t (Z++d)
alm:=K f x l
pk a:=M (ev x ro) a
dz a b c:=∀{l:cJ},a->b=c
Rb:=iG N c J
Yx:=fW K a8 a O
n9 b:=by have⟨a,d0,b3⟩:=b
v3 a:=Hs XT A a R s
ig a b:=i3 _ _ a (i0 _ _ b)
Rc:=by rw[bE d2 e9 h.c]
sn a:=fun b o _ _ b0 e _=>a
of a:=∀b1:aM,lC=a->P b1
kd b c:=f (b-jc) (bn (aR Z) c) Z u
Rf:=vY [d c7 Hr G 0]
aln:=(aB5 eY)
so a:=.list (B a dT)
Rg:=a26 h i
Yy:=c e<c f
Rh:=RZ o p
ih a b:=BA eC X.w a b
ol a:=d6 _ _ a
op a:=b8 M H a
Ri:=256^w
kl a b:=by obtain⟨t,a,f6,_⟩:=b
Rj:=sY aBv d8
Yz:=by delta dst aDm
Rk:=by rw[ak,<-qJ]
YA:=Vx a (N_ c W)
bs a b c d:=by rcases bk5 a 0 with b|c|d
Rm:=fg bG bG
Rn:=oZ OC (v,b)
Ro:=ee l a5
Rp:=(aF_).zip row
or a:=aCU _ (yK a)
Rq:=.lead row m
os a:=(a).seq a5
bJ a b c d:=by rintro M a⟨⟨b,rfl⟩,c,d⟩
Rr:=a5Z r t
pl a:=v [] a .nil
Rt:=x (bk6 _ _)
Ru:=fun j b8=>?_
dC a b c:=B a (dK ⟨b,c⟩)
i2 a b:=by {rintro M L⟨_,a,_⟩;exact b}
YB:=bk7 j b=ah
alo:=k b a=ah
sp a:=fun _ _ _ _ s e0=>a
Rv:=ed D.h xh
dP a b c:=.Call (j3 a i) b [] c
i3 a b:=eW (bp a) (bp b) z
Rw:=be j J
v4 a:=cA (bk8++au) a
ou a:=by rw[bF rfl U a]
Rx:=eA (eC=g) aFR
Ry:=ch aJ (Wl Wm aJ)
alp:=(lB t n q)
i4 a b:=E c1 a (Q b c1)
bt b c d e:=I b c d (ce e) ?_
km a c:=ac c0 b (he hg a) c
Rz:=g8 D.h D.w
ii a b:=a=z.y/\z.x<b
RA:=CB tl ps D i e
RC:=CB OF Eo D i e
YC:=KT H F O
RD:=dg OB (IV+1)
YD:=[c5,h',il,ik,jz,kD]
ij a b:=ff (jw cO w) A a b E s
ik d e:=by rw[y x W d gI e]
pm a:=(by simp at a;omega)
a7h:={nx:=fun _ L=>IZ,rt:=Q}
l1 a c:=aEz (T:="StopIteration") (b:=ab) a bk9 c
RE:=gb [e] [(ah,tH)]
po a:=fun i h st b U=>a
il b c:=by rw[ak e q b];exact v a e c
v5 a:=["width","height","points",a,"marks"]
ep a c d:=vp b N n f a c d
RF:=vz w h b2 X G
ov a:=G9 u CR A a k o N
ow c:=s_ aP a b c
pp a:=aQZ Y nd W a
alq:=DD r i l
im a b:=aqW (i:=a) bk_ rfl (a6F rfl) b
oz a:=aOs rfl a6G (ea a)
RG:=.set a7 e1 t
oA a:=rj a TI (.ref c2) (.ref N)
io a b:=UH par B a b w
bv a b c d:=by have a:E j b c:=fun j b8=>d
alr:=dj 0 (yQ r (bp t) jb)
als:=a+c+x+z
l2 a b:=by rw[ak a (d b bI cT b1)]
oB a:=aFH bJ dM L J a g ls
oC b:=by cases x;exact v [] b (fun a m=>cz m jK)
RH:=by rw[co l b p]
YE:=by rw[bla,bk'];kernel_rfl
i5 a b:=bj a (j (i+1)) b (fun x L y=>?_)
pq a:=∃g0 L,aF9/\a
CO a:=(a).foldl (aFk r v) []
ko a b:=by simp only[MV,ic]at E;rw[a];exact bt b
RI:=tm (mP (bi p.x r.w&&bi p.y r.h)) ig de
pr a:=fun a7 a8 a4 n1 b4=>a
RJ:=by rw[al J R g ls]
alu:=∀vs H Q E,aF0->iR=kA
iq a b:=h au s M H a b hw
a7i:=#[e0 lo,mM hi,.int 1 v]
ax a b c d e:=by obtain⟨a,e7,f5,rfl,b,c,d⟩:=id e
RK:=blb XT A env a7f
YF:=by rcases O y k h with⟨rfl,rfl⟩|⟨_,h⟩
RL:=tm (r5 aJ) kC bY
alv:=L3 F k b v
ps a:=by rintro i M L hi⟨_,a,_⟩
aGd:=hi au s M H _ I h
bx a b c d:=gl (arb yB yB (gi a) b (gi c)) d
YG:=d0 au s M H _ I h
a7j:=d0 au a4 M a8 _ r d2
RM:=asr _ _ _ _ q
CP a:=∀(l:Addr)(b:Gla.Bytes)(p:Nat),a
alw:=fun b o e n U S=>?_
dD a b c:=kc blc awX a6 ay rfl (ve a (ve b (ve c Sl)))
sq a:=F_ (aYR (K:=K) (w:=w) rfl rfl rfl) bI bld aTk (ea a)
dF a d f:=∀(J:Addr)(R:GM.bU)(g ls:Addr),e [xn] nr a d f
RN:=by rw[jf,bu,fm,bu,fm,bu,fm,bu,fm,bD XZ]
dI a c d:=by rintro i a c L h4 N d s⟨b,rfl,U⟩b6 d1
YI:=by cases z
kq a b:=by obtain⟨g,a⟩:=b
i6 a b:=by obtain⟨a,h⟩:=b
dQ a b c:=by obtain⟨B,a,b⟩:=c
eq a b c:=by obtain⟨a,d0,b⟩:=c
YJ:=by split at h'
YK:=by rename_i c3
YL:=.ref b2
YM:=.ref xa
YN:=e8.1.2
YO:=Mu "list"
pt a:=by refine aBs c2 a
YQ:=.int d
pu a:=a<=1048575
YR:=.inl e
YS:=by delta ind
alx:=.tup d7
YT:=.own a
i7 a b:=by rcases a with e|b
ks a b:=by obtain⟨a,d2,_⟩:=b
pw a:=tC (.int a)
YU:=.bl ab
px a:=by simp only[a]at this
py a:=cj (dm a)
sr a:=ag7 (t':=ahC) a
pA a:=by rw[<-a]at e
i8 a b:=by simp only[a,b,mL]
i9 a b:=(eL a).filterMap b
i_ a b:=show a by exact b
YV:=by simp only[blf]
aly:=bH r.A
alz:=bH r.B
pB a:=ph (x a)
YW:=iX (H5 k)
pD a:=(a).toList
ss a:=bO (i:=i) a
v6 a:=(a).length_le
YX:=aDc R.d
p0 a:=(aV (TU a rfl)).c
dR a b c:=by generalize a[i]=b at c
p1 a:=Cw (lm a)
kt a b:=ax4 a (fun o d0=>b)
YY:=a6H l.2
YZ:=a6H l.1
Y0:=aFy row
Y1:=(lI e).2
jn a b:=x (aqi a b fy)
Y2:=V5 r=ab
p2 a:=a04 K a=ab
p3 a:=a3m a ab=ab
p4 a:=by cases x;exact a
Y3:=(cQ).1
p5 a:=(x a a0).1
Y4:=(wy e).1
jo a b:=by rw[l ⟨a,b⟩]
p6 a:=pq r a=ae
Y5:=t (a5 x)
jp a b:=by rw[C (aEN a rfl b)]
alA:=be (L b)
Y6:=be (H a)
Y7:=fun e=>?_
v7 a:=bh (Xl cnt a)
Y8:=(r.w+1)
v8 a:=(gJ (a<1000))
su a:=by delta a;simp[*]
b0 a b c d:=by delta a;rw[b,c,d]
p7 a:=by rw[cA,a];rfl
Y9:=es Nat
dS a b c:=by have a:b<c:=by simp_all
bL a b c d:=by have a:b<=c:=by exact d
bN a b c d:=by have a:b=c:=by rw[d];rfl
dT a b c:=by have a:b=c:=by subst_vars;rfl
sv a:=fun b u e=>a
Y_:=Q ab s
Za:=b∉ex
Zb:=x (mE (mE Ag))
p8 a:=fun y b7=>a
alB:=tj lN jv
alC:=Pt×Nat
alD:=x (aMl b1)
Zc:=ee (mO n)
sw a:=fun y a8=>a
Zd:=bh (IJ 0 blg)
Ze:=aC C []
bO b c d e:=m b _ _ (v c d e)
Zf:=fu (Wp i w)
p9 a:=(ax a4 a)
qx a:=(aa a,[0])
Zg:=gl r.h
alE:=Gw r z jb
a7k:=x≠"__name__"
Zh:=An*z.x
Zi:=by split<;>simp
qy a:=F7 (oE (.int a))
Zj:=NA r v
qz a:=num (qZ r) a 4
Zk:=A l a
ah a b c d e:=sg (eb a b c) (c8 d e) BE
Zl:=by rw[e]at d3
qA a:=by rw[a,ah0]at k
qB a:=∀(l:ba),a
qD a:=fun b u q=>a
qE a:=le (jI a)
Zm:=gd pos []
Zn:=a6z k p
aGe:=x<(Ai).cnt
aGf:=i∈cG (Xy k)
Zo:=jI 2 64 fi
sz a:=fun z c9=>a
Zp:=yD K C
alF:=sd Aj h
Zq:=tf J d
Zr:=fun t h7=>?_
Zs:=d8++[b8]
Zu:=lR i++[b8]
Zv:=jv (vG OF)
Zw:=jv (vG (tl))
Zx:=.ins dr W (qK R B X c7)
Zy:=by rw[iE O b1]
Zz:=by rw[iE vs b1]
ZA:=by have E:=eD
qG b:=upd d4 a b
bU a b c d:=by obtain⟨a,b⟩:∃c:Int,d:=el
alG:=qR j i
ZC:=Ea 0 c
alH:=t (jv OP)
ZD:=by (intros;simp_all)
qJ a:=E v (v<R.n) a
bV a b c d:=iM ["drawing",a,b,c] d
jq a b:=by rw[oV (ac [a] b)]
ZE:=PT X a g
ZF:=by rw[a1 rv p OH]
ZG:=j b u (eC (Hn b)) (eC (gS b))
ZH:=RQ K C m
ZI:=c3 _ _ q
ZJ:=by exact MR x
aGg:=ag3 a7 cG
ZK:=(cA gj).row
ZL:=a6I Ca a
alI:=2*dR+1
qK a:=(eI).below a=ab
qN a:=L (oQ U) a
ZM:=fW K H p O
ZN:=bj e d3
ZO:=by rw[b1 p.1 k]
ZP:=lP (Dy aJ) i
alJ:=vB H l Y (d9 a5)
alK:=zt (sZ+1) mK ak1
alL:=⟨q,e0⟩
ZQ:=f∈gG
ZR:=h e a0
alM:=aDp i H
ZS:=WH x T
ZT:=a2 (jt cQ)
ZU:=cO x y
ZV:=lX++[u]
ZW:=ad dx (.own k)
qO a:=fun M H R=>d6 M H a
ZX:=b7 l.1 l.2
r a b c d e f:=by rw[M a b c (by rw[b2 d e];cases f)]
aj a b c d e:=by rw[b2 (ah a b (bZ c d e))]
dU a b c:=my K dM a b c X0
qQ a:=fun m M L=>a
ZY:=eW _ ?_
qS a:=by rw[cr d3 a 0]
a7l:=cr (l.2==e.2)
ZZ:=by rw[bl hu m (blh S)]
alN:=hp (tw H) bK
bW a b c d:=aJ a b c (mR (av (z.2 _ _ d)))
js a c:=bD a (fun v a4 e0=>b x a8 r r1 d2 e0 c)
Z1:=ei->bZ af
ak a b c d e:=by have a:ap b c d:=by rw[cA,wM e];rfl
v9 a:=(Hv (·.push a))
Z2:=aEd cO w K
qV a:=by have⟨lk,e,d⟩:=a
qW b:=fun a m O e=>b
Z3:=v1 (VL t)
jt a b:=K4 K x a st f b
qX a:=fun _ _ _ H _ I h=>a
q0 a:=by have b6:=b6 _ a
alO:=[e7]++ws
d3 a b c:=by cases a with|true=>{exact b}|false=>exact c
q1 a:=v_ (fJ a c0)
sA b:=a.2.getD b ab
Z4:=.mark i m
q3 c:=mA (fy (mA (il c)))
q4 a:=v lk a d
aGh:=fun w hw=>?_
q5 a:=(Z a (i e) 0)
sB a:=BI O a=aa v
Z5:=by rw[b1 j i]
Z6:=by rw[tP];cases z
Z7:=by rw[ef (axm q)]
Z8:=U b7 X hc
ku a b:=by cases a with|error e=>{rfl}|ok b=>rfl
jv a b:=di a Am (.ok b)
Z9:=B_ a5 B par Z
Z_:=Itc lo c n
aaa:=sC H b8 m
aab:=cS->cS->X1
sC a:=Cs K bP (oy a) So
aac:=by have Z:lF pL "zip":=bm c9
q6 a:=aic a5 B par c a
aad:=CO (Xp i)
l3 a b:=fun x G=>by rw[bJ (HS G)];refine Lj Z a b ?_;simp_all
aae:=PK->jO
aaf:=Av+c5 12 4
aag:=((OQ).st aJ)
wa a:=by rcases a with k|k
alP:=a1k CN mg
aah:=by intro e a0
q7 a:=.Subscript o i a
aai:=Itt K a
aaj:=yD X.K C
alQ:=oU _ _
alR:=by apply bli aT
aak:=min a b
aal:=min (aP a) (aP b)
aam:=h6 b U
jy a b:=by simp only[bH,da,a]at b
q8 a:=(NB blj).lb a
aan:=us4 (sb ng)
aao:=DL l.1 l.2
d4 a b c:=aQl xB a b c rfl
d5 a b c:=aOd a (aOc b c a6J)
aap:=US x I
alS:=XB D eN
aaq:=aZG cC cC
aar:=bll B u
aas:=a6a r B
alT:=a0g b p
alU:=a6c b p
q9 a:=wB p q a=ab
aat:=aO TE TE
aau:=f++[cnt]
aav:=M c i
aGi:=fj "dict" (.dict #[])
et a b c:=dH ((ay_ a).go (dk b)) c
ra a:=by show eT a _=_
aaw:=ni+1+fk
alV:=dQ (a7 aw5 aw)
alW:=bk B (x<n)
aax:=dq p.1 p.2
aay:=bV (0::gH 1 fi)
aaz:=fs (.tup (blm kV))
aaA:=c7 d j
rb a:=by rw[bF h2 e2 a]
alX:=im (2<=t (ij i))
aaB:=by injection h with a3 a9
alY:=Dc bx bx hi
wb a:=fv a (e.2=dq b)
rc a:=by rw[b2 _ a rfl]
alZ:=Xx r (bp t) akV
sD a:=d_ (by rw[cA,cA,wM a];rfl)
wc a:=mV aDl aDk a=ah
jz a b:=by rw[aW l a5 a b]
aaC:=a6C K fd c5 []
aGj:=mP (bi p.x D.w&&bi p.y D.h)
aaD:=.ins dr W (qK R b3 X c7)
aaE:=hq Hr wi
aaF:=a6K c5 h' m
aaG:=pq r x=aa T
d7 a b c:=by rw[e a L d6 b d6 c]
aaH:=lR "range" a7i
we a:=fun g h=>b3 g a
aGk:=(yS _ _)
aaI:=iG r.N ef lW
aaJ:=ln e.1++[e.2]
re a:=aJ (by rw[iG j (Nf S)];exact a)
aaK:=tm (WC r) mU dS
al0:=.Compare a [j] [b] pos
ev b c d:=a b c a _ dx _ _ rfl d
wf a:=fun e a0 lt=>a
aaL:=[x,X,c7]
aaM:=mr R e f
aaN:=ed (cf t) y
CR d:=by rw[bn a OG (u rfl (dr b4) a _ d)]
sE a:=fun x y H Q=>a
aaO:=oR (bi i j)
aaP:=fun v a8 a4 d5=>k v a8 a4 d5
al1:=ai2 P h vs c7
sF d:=by rw[ah b c dh (bh rfl b c d)]
aaQ:=fun h' f7=>bd (vU (jE (f7 b o U e)))
aaR:=a5J z TI TO c2 N a7 d5
al2:=⟨⟨l⟩,bln⟩
aaS:=blo K=aNi
aaT:=[a,b,c]
al a b c d e:=by refine auC F.w F.h a b c d e
bX b c d e:=cj (a _ rfl b _ c d e)
CS b:=blp (.builtin "type.__call__" ⟨b,a⟩)
aaU:=jo O lo hi
al3:=nx k%aEs
d_ a b c:=aUR (aV (TU a rfl)) (zzJ b rfl) (jo c)
al4:=neK (K:=K) rfl wt
e8 a b c:=aQy rfl a6G (yZ a b c)
aGl:=lY/\jT/\I2
sH a:=bN a (ay:_<=5)
nM a b:=by rw[bE q p h];exact v vs a b
wg a:=N a aFW (b1 jz) (b1 kD)
aaV:=fun g0 j1 z=>z
ex a b c:=V e a (z j b (e.2= .ref c))
aaW:=(tr cB i f).1
wh a:=[a,.ref d8,.ref j,pK]
aaX:=[x,X,c7,I]
aaY:=aC dr (aK "passed" b2 [])
wj c:=fun b o a f e=>c
aaZ:=by rw[dg ls f6 h.l]
jA a b:=Un G ex H a h b
aGm:=fun _ _ _ a b=>vk a b
rf a:=by obtain⟨b1,b4,b9,e7⟩:=a
aa0:=by rw[aGa];exact cz ay b2
rg a:=cg 71 76 65 a
jB a b:=(a==b&&a1Y== .function&&vR n==aa .cell)
aa1:=by rw[bn a b3 ⟨(bB),fun d nd=>?_⟩]
jC a b:=∀{Z:Row}{g:Nat},a->b
jD a b:=ahE P w K c7 a [it] it (fun i h=>b)
ez a b c:=atJ (r:=r) (Lq Z) hi c0 ne (P:=a) b c
wl a:=∀(w:World)(os:OsState),a
bY a b c d:=by refine aV9 (i:=a) (lo:=b) (hi:=c) (n:=d) rfl akW akW
rh a:=by rcases a with c9|⟨d,fl,c9⟩
aGn:=Y b o a e
a7m:=∀x,blq Hr cG x=eV x
a7n:=hi au a4 M a8 _ r d2
l4 d e:=by rw[c J dx hd tU J d e]
rj a:=fun au s M H Q I h=>a
al5:=a 0 0 [] [] []
rk a:=by rw[e7 q (ay) (fin 2 a H ej k)]
jF a b:=blr (F3 I d8 c4 a (nI ak0 b))
rl c:=by rintro a b⟨b3,U,ne⟩c
fc a b c:=hY k (ahb a)->aF0->z t (qz b c t) (t a7h (MT N vs) H)
am a b c d e:=vf P w K mg aj so a b c d e
rs a:={mask:=a,place:= #[],dummies:= #[],finger:=0,led:=ab,moves:=0,plain:=ab}
fd c d e:=by rw[g a D b2 c G i (gg d) e]
aa2:=by obtain⟨z,ar,n,J,a5,e⟩:=a6L a
ea a c d:=CN (V (W i m H) ((a).stop i H) (k H) ((c).go i H) (∃w:je,(a7g)/\j x L (r4 d) (ge tG a7e)))
aa3:=@aE6 _ _ _ _ _ _ _ _ ?_
sI a:=⟨dx,a⟩
al6:=aa .bC
sJ a:=a= .function
sK a:=by rw[ls a]
kv a b:=by obtain⟨W,a⟩:=b
eA a b c:=by obtain⟨a,b⟩:=lI c
kw a b:=by obtain⟨a,b⟩:=e0
al7:=["calls"]
al8:=by {contradiction}
al9:=.ref sl
al_:=.ref T
aGo:=Mu "tuple"
al':=.int (lo+cf i*c)
ama:=.inl (sr _ _)
amb:=.lst []
amc:=by rw[<-this]
amd:=Sem cf
sL a:=aOE (iR q a)
ame:=by simp only at h
amf:=by simp only at k
kx a b:=by simp only[a,b]at e
kz a b:=by simp only[da,a,b]
kA a b:=(a).filterMap b
sM a:=cR (BR h) a
amg:=r.aQM I
amh:=r.aQN I
ami:=(cA aJ).cnt
amj:=(nf D t).row
amk:=bp f.1
aml:=bp f.2
sN a:=SY (r:=r) a
amm:=aRX (SY _)
amn:=.refl _
amo:=Wy (bo tT)
amq:=gi T.avF
b2 a b d e:=axq (lo:=a) (n:=b) (c:=d) e bM
kB a b:=a5Y (b_ (o:=a) b)
b3 a b c d:=akb (b_ (o:=bV a b c) d)
amr:=aqG ?_
ams:=XO (akK a3)
sQ a:=by rw[cI];exact a
aGp:=(aEb j).2
amt:=(wy e).2
b4 a b c d:=by have a:b:=by simpa[c]using d
kD a b:=x (FX (mj a) (Kv b))
amu:=x (HJ bG)
amv:=x (VZ bG)
sR a:=a03 K C a=ab
amw:=a01 K C=ab
amx:=blu b=ab
amy:=blv blw=ab
eB a b c:=by have:a:=b;exact c
amz:=v (aP a)
amA:=v (aP b)
sS a:=(VQ Y a).1
b7 a b c d:=by have a:b=c:=by simpa using d
kE a b:=by rw[l (FX (mj a) (Kv b))]
amB:=vN b=ae
amC:=Hn d=ae
kV a b:=by {rw[<-a];exact b}
sT a:=by {rw[cb];exact a}
sU a:=J (gx z a)
amD:=a5_ aiz=ah
sW a:=fun _ z=>a
amE:=ch (bp ha)
l5 a b:=fj a (.fields b)
sY a:=fun _ _ e=>a
amF:=e∈tQ
sZ a:=fun t h7=>a
eC a b c:=by have a:b<c:=by grind-abstractProof
amG:=Ln->fB
amH:=b∈ij a
amI:=Str->bZ aB0
k1 a b:=an a "data" b
wn a:=cg (a=eV ah)
amJ:=by rw[a6 this]
aGq:=bt (DA _ _)
k2 a b:=by have e:a=b:=by grind
amK:=b∉vS
amL:=aP t ?_
amM:=cx (aC C G)
amN:=dJ t I8 p
s0 a:=ih (gB not a)
amO:=M o d6
amP:=Gl X "list"
l6 a b:=by have:=a;rw[hH rv];exact b
s1 a:=by rw[k6 (mQ 0 a)]
s2 a:=by rw[k6 (mQ a 0)]
s3 a:=fun b o b0 e=>a
amQ:=(eg).x
amR:=(eG).x
amS:=(eH).x
wo a:=bD a (fun u a4 P=>?_)
amT:=dx (bp ha)
amU:=ls++[e]
amV:=ed 0 (vn C)
amW:=ad p o
amX:=j 0 M H
amY:=ge "list"
amZ:=bs aq bb
s4 a:=cc Aj w I1 a
am0:=[e,it]
am1:=go r.w
am2:=l∈AD
s5 a:=cf df (e3 (cG a))
am3:=Vc y=aa c
am4:=by split<;>lia-abstractProof
am5:=aO Key cS
am6:=by rw[jD (VP e)]
am7:=by rw[jD (VO e)]
am8:={T with marks:=d8}
am9:=g0 (gz h)
b8 a b c d:=X a b ["cartoon",c,d]
wp a:=fun(x:I×Nat)=>a
am_:=dK Nat I
am':=M o C
ana:=x<(cA t).cnt
anb:=hK (bp ha)
ane:=is T.aVp
anf:=dQ H j
s6 a:=by rw[iG (ap d (mL a))]
s7 a:=(a).more<=9
ang:=a7 Uk kK
s8 a:=bU (t a) 2
anh:=zx+1<gF
an a b c d e:=by rw[M a b c (by rw[cO d,fu e q,kJ])]
s9 a:=fun d nd=>a
s_ a:=z m (m<n) a
ani:=jA+8*i
k3 a b:=∀{l:ba},a->b
k4 a b:=∀{l:cJ},a->b
anj:=[cq 0]
tb a:=qR (a-1) i
ank:=zz O k
anl:=by simp;lia
aGr:=t (jv a7l)
anm:=it F d g
tc a:=ht (a1o b) a
CT b:=PT X a (le (fun x L=>b))
ano:=by rw[r8 (.bool ah)]
anp:=j b u (eC (zk b)) (eC (gS b))
anq:=c1 _ _ v
aGs:=r9 (j (i+1))
td a:=by have:x≠t:=ah a
anr:=jr f n
ans:=Ec B e
ant:=tR++[x]
anu:=aa O v
anv:=aC bJ []
eD a b c:=by have a:b:=by simp at c;omega
anw:=an (DX 1) i
tf b:=by rw[aW d b ?_]
th a:=by rw[o0 (a>>=_)]
anx:=gc y e0
anz:=gc y g0
anA:=gc e0 d0
anB:=gc g0 d0
ti a:=by rw[aj a4 (ap d (mL a)) xw]
aGt:=A (Ez) e
anC:=dg+1=2^k
anD:=cB+1=2^k
wq a:=by rw[X hd O d j a]
wr a:=by rw[X hd vs d j a]
aGu:=fun c o b0 e=>?_
aGv:=fun c o b0 q=>?_
anE:=cJ->Int
anF:=by refine qM (fun f6=>?_)
anG:=eA a7m ag1
anH:=HV a bY
anI:=A M pI
l7 a b:=by have:=a;rw[am b];exact this
k5 a b:=ei a b "before"
anJ:=b8 C f
anK:=fv gG (e.1=0)
anL:=qG Z t wF
anM:=d1 (ar d3) _ ej
tj a:=fun b U o e=>a
anN:=iN H s
tk a:=ad L bQ (Q (.bl a) L)
anO:=GR K h A b
anP:=by have h:=Ad h
tl a:=by refine cp a ?_
anQ:=ac5 h H
anR:=aB3 X9 mK
anS:=cZ a8 H
k6 a b:=aei Z (a6 a b)
aGw:=sH aq aw
anT:=CC D B
anU:=akf r t
anV:=A dS m
b9 a b c d:=by have a:b=c:=by rw[it d,gh]
anW:=aj c0 Ex
anY:=aJ (h x rA)
ws a:=bD a (fun c c8 P=>?_)
tm a:=am X8 a jR
anZ:=2*o2 o
an0:=v o d0 b0
an1:=v q.y-p.y
tn a:=¬(a:Str)=f
k7 a b:=bm q.y p.y*bm a b
to a:=by rw[hz (j5 a c6)]
eE b c d:=by rw[cq b (j0 c ⟨tK,d⟩)]
an2:=.ins bJ W []
an3:=eB aOH bS
k9 a b:=cq (jG a) 2 b
an4:=fx bh b
an5:=td a l b
tp d:=by rw[r l pJ a5 dh d]
fe d e f:=by rw[c a D b2 X G (gg d) e f]
l8 a b:=v3 (.builtin a b)
lb a c:=(f b o (b∉a) (b≠r) g_ c)
wt a:=Co a K a8 l Y
tr c:=∀{l:cJ}{a b:Nat},c
an6:=a _ _ _ _ rfl
an7:=v5 "lines"
wu a:=fun b u q _ _ _=>a
an8:=by rw[hB]at a5
an9:=(eg,rp)
an_:=fM<=ak2
aGx:=aDy<=1048576
an':=by by_cases b0:x<ef
aoa:=by simp only[dj]at a5⊢
aob:=cr c a
aGy:=aeW rfl rfl
aoc:=aEw a _
ts a:=lQ (dk a) c4
aod:=fun i hi=>?_
aoe:=fun v d3=>?_
aof:=fun m c4=>?_
aog:=fun z c9=>?_
aoh:=A m b
aoi:=M B L
ff a b c:=dm (aFb (ac_ a (aqT b))) c
aoj:=ap b2 []
aok:=by rw[jH h rfl]
tt a:=by rw[cH hu a9 a]
wv a:=fun c o e=>a
ty a:=be St Hp (a)
lc a b:=Cs K bS (oy a) (oy b)
aol:=kC a b=ab
tz a:=rj a TO x y
aom:=by rw[bY d1 a5 vT]
aGz:=CP x c e
CW a:=l M a8 (fun x b7=>a)
ww c:=fun{a b}h e=>c
ld a b:=by have hi:i<a:=bx b
aon:=eS H v l
ca a b c d:=by cases q:H a with|none=>{rfl}|some o=>have:=b;rw[oY c];cases d
lf a b:=G4 a it r jv i b e1
tA a:=j M H (j a M H) OK
fg a c d:=l1 (v h a P) (cj (g c d))
aoo:=aee _ _ aY
tD a:=Well P h v a
t0 a:=by rw[ad h' a T h]
t1 a:=fun h' p=>g h' dF a
aop:=CS (xi::b1)
ap a b c d e:=axo (n:=a) b (dK c) d (gb e) ?_ ?_
aGA:=aAs c p ns d
li a b:=nM a (dH (NU b) p)
a7o:=aa (dj 0 (hE row))
wx a:=by obtain⟨i,hi⟩:=a
lm a b:=by obtain⟨x,S,a⟩:=b
t2 a:=by show(fun h5=>_) a
aoq:=(l.2,l.1)
ln a b:=mtF K (dp p.1) a b
aor:=a.1::Eu
aGB:=a05 (blx s)
aos:=.int (lo+i)
aot:=xE2 o p
aou:=bly x t
eK a b d:=by obtain⟨c,b0,a,b⟩:=d
aov:=Vis ahr x
aow:=h3 b U
lo a b:=rI a (oE (.int b))
aox:=by simp only[iG,dj]
aoy:=zu ns d8
aoz:=De a7 O
aoA:=De d5 d7
aoB:=blz i ah
aoC:=ar8 es f7
aoD:=d_ (afy b0)
aoE:=iF (a,v) (b,v)
aoF:=bH (cA t).row
aoG:=wD _ _
aoH:=cr (d5 a) (d5 b)
aoI:=all 1 a3
aoJ:=le w n
aoK:=aiH (Lx row)
aoL:=blA r i
aoM:=.move k p
aoN:=aUZ j q
t3 a:=zzT a rfl ay
wz a:=Uo (ns:=[_,_]) a
aoO:=zQ ns d8
aoP:=vA ns d8
aoQ:=lt5 G ay
t5 a:=blB (bn (jM a p))
aoR:=ayK D B
aoS:=akj r eN
aGC:=blC num X4
aoT:=blD i b8
lp b c:=by rw[l (aP b (j0 c (dw tK)))]
aoU:=cO d f
a7p:=cO (nv lU) (nv (aa M))
aGD:=fun _ q=>q
aoV:=fun _ _ _ _ _ h=>h
ls a b:=aP a (j _ _ b)
aoW:=(Z++d)
a7q:=(sf b)/\v4 (p.1≠b)
a7r:=bl (a4S 8 cW)
eL a b c:=∃C,a=num (b++C) q c
aoX:=bj h i
aGE:=bj ak ajA
wB a:=bj (bX a) ak
aoY:=cO (vn c) xh
a7s:=[(hx 0,.bC)]
aoZ:=by refine fH (fun e=>?_) (fun e=>?_)
ao0:=by refine fH (fun g=>?_) (fun g=>?_)
t6 a:=bv a (fJ this tF)
wC a:=hs (A M H a)
aGF:=bx ik il
t7 a:=ga (Ur L v a)
ao1:=by rw[cd (f_ e m.1)]
ao2:=by rw[cd (dH (blE (dk c1)) l)]
a7t:=dg (blF e.2) gj
lv a b:=aj gO (di aq) a (Z b bS (di aq) (di aq))
t8 a:=fun j O h=>a
t a b c d e f:=mB (lv a) (V b c d e) (fG f)
eM a c d:=by have:=at7 b a c;rw[oZ d]
t9 a:=by rw[bE c0 c2 a]
wD a:=by rw[a]at m;cases m
ul a:=an ["data"] "data" a
ao3:=gc W d8
ao4:=by rw[cF lt aT]
lw a b:=dR a (4+(4+b))
aGG:=(ab,a0X q3 l3)
l9 a b:=wh a b (fun _ _ e=>e)
lx a b:=wh a b (fun _ _ x=>x)
ao5:=bV (Ab++ak_++N1 tp)
un a:=by rw[cl t (dx (jU a) J),dV];rfl
up a:=by rw[dT (g5 ah a) zv]
ao6:=g8 6 (v cx)
ao7:=by {have z:=az1 ay e;rw[rC];rfl}
wE b:=by induction b with|nil=>{rw[kO]}|cons a J d6=>rw[cB rfl d6]
aGH:=nF h4 (N d4)
aGI:=by intro i g7 g8
us a:=gt a (gZ (par c==xu))
ao8:=b7 X.1 X.2
ci a b c d:=Y ["self",a,b] ["self",c] d
wF a:=fun j e b8 a0=>a
ao9:=by rw[iL j b8]
ao_:=by rw[hr m c4]
ao':=a6K w h m
apa:=U a8 B hc
ut b:=oX (a2 (cy b0) b rfl)
a7u:=[jS "enumerate" [e]]
a7v:=[jS "zip" XU]
nN a b:=(IH D a,b,⟨D.w,D.h⟩)
apb:=cr x J*cS w
ly a b:=E o (k4 a) (be (gS b))
apc:=bi (v fM) (ae ak2)
lz a b:=by rw[ab f5 ([cq a]++bV (gH 2 i)) b]
uW a:=by conv=>rhs;rw[<-blG a]
wJ d:=by rw[bn a d0 (bh rfl a (cy d0) d)]
CX d:=by rw[bn a (dn b3) (bh rfl a X6 d)]
aGJ:=.ins lJ dy []
apd:=j6 0 lo
ape:=hi (hD (Oe dq)) c
apf:=ee I5 kP x
apg:=jA+8*aJ+4*i
mg a b:=by rw[j7 10 (CV (j4 a b))]
aph:=by obtain⟨g4,h3⟩:=f
api:=(kL,dq xa)
apj:=.bare w h m
aGK:=mX i a b3
apk:=a6M "list" blH 0
uZ a:=J ((a).2.1 rfl)
lA a b:=bD a (fun v a4⟨x,a8,r,r1,d2⟩=>b)
apl:=v0 (hZ l.1 l.2)
u0 a:=bZ dr D t a
apm:=by rw[de (pC (i+1)) (pC i++[e]) a0]
u1 a:=Sn (aS8 (K:=K) rfl) bI aj4 au3 (ea a)
nP b c:=bl a b a (p j c a/\aj<=a)
apn:=dz x<k
eN a b c:=∀e,e∈a↔b/\c=v
apo:=(hi-lo).toNat
apq:=it j a b3
eO a b c:=ec aZ1 (vy bS a b c)
aGL:=⟨eu,fun t c6=>?_⟩
lB a c:=l b u a (eC c) (eC (gS b))
apr:=dC R H a O
aps:=eU OI (a∈a5 b)
apt:=∃j:Nat,aa Y b
aGM:=by cases(a0 u (dq b) Z)
aGN:=afM t (13+n) p OM
aGO:=by rw[aW t (cy Z) gL]
lC a b:=∀i M H,a->akY->b
lE b c:=by rw[ar b4 H (mL b) (mL c)]
apu:=arV X.N ahr d own
u2 a:=ati Y nd sub (fun h c7=>Gp a c7)
apv:=J.1*d.2-J.2*d.1
u3 a:=aid x S j z a c9
apw:=adY iu v s E N
apx:=∀c,ag0 a cG c=(do{let v<-c;standAt a.pos;holding [v] (truthy v)})
apy:=(aDj b p)
u4 a:=(ef (pC (i+1)) (vG a))
wN a:=fo (blI s.n) (lk a s)
aGP:=by rcases e0 with e0|e0
u5 a:=by rcases aFB a with l|l
apz:=blJ b o e
apA:=hd M H p
a7w:=.Attribute e f pos
u6 a:=by generalize(RY _ _)=a
u8 a:=bF (m:=blK _) (M5 a d)
eR b c d:=I.aPL (its':=b) a e c d ?_
lG a b:=F.Gf _ _ a b h
aGQ:=Nw y k h
mj a b:=head _ _ a ?_ b
apB:=ajN N d5 f7
apC:=ajN c2 a7 c0
eT a b c:=aOf (i:=a) b rfl (a6F rfl) c aqY
apD:=a6e (v b1 v l)
aGR:=blL r (bp t) akV
lH a b:=q2 _ _ a (ax b)
ar a b c d e:=q4 a (b).1 (c).2.1 (aS d) e
u9 a:=blM (blN aiU a cs)
as a b c d e:=by rw[l (k v a b (aZ2 (blO c) d rfl a9 e))]
va a:=by rw[lw a];have d3:=d3;rw[tN]
apE:=I×d0×K
apF:=A×B×C
apG:=E×F×G
aGS:=E d4 (cZ L d4) (N d4)
apH:=Y N c5 st
apI:=X x st c5
eU a b c:=aP a ((dP (b_ b) c) _ _ ak)
wP a:=by have e6:a:=by simp at e5⊢;omega
lI d e:=by rw[y k u d Ee e]
apJ:=by intro au s M H x vs v b1 Q I R rv h
vb a:=E h' a (Q ae tJ)
apK:=by rw[fs (c=dq b) Z]
eV a d e:=b x cD (vs=a) (am l O) d e
wQ a:=by {refine fQ;rw[X5];rintro⟨_,s,_⟩;exact a}
CZ a:=by {refine Ax;rw[co i M L];rintro hi⟨_,s,_⟩;exact a}
a7x:=an (a6u gj) (e.2-(e.1+1))
apL:=by rw[df c9 (.ref TI) (bF (gg f ?_))]
aGT:=by rw[cS q p a5]
mk d e:=by rw[r N (.ref wb) (av d) (d_ t8) e]
apM:=dK blQ a0c blP
apN:=dK blS a0b blR
vc a:=zJ b N n f=a
ve a:=by rw[aj c8 (U b7 d a) (gr e_)]
lJ a b:=by rw[a4 a,eJ,l b,l Hq]
apO:=a w h p l m
apP:=L (ac lV O) (ac ak' a)
vf a:=hm (((a):ON) e.2) e.1
lK a c:=CP (A [cD,jQ] tL a c)
lL a b:=by obtain⟨e7,d,a,n1,n2⟩:=b
vg a:=by obtain⟨a3,a9,e2,e5⟩:=a
apQ:=by rcases m with rfl|rfl|rfl
aGU:=fun a b p q=>?_
apR:=(Z ah (! lf (gQ rr)) (lf (gQ rr)))
C0 a:=fun u d4=>KS .tup Q [.int a,u] d4
f8 a c d:=B F d4 a _ (a6i b8) (aFE O) c d rfl X2
apS:=z vs tW (blT tM a vs)
vh e:=by rw[CR (s (cy OG) dt i e (fun d5 b7 b5 n2 b9=>m d d5 I0 b9 (au ag)))]
apT:=["p","q","r","s"]
apU:=r b o e S
aGV:=blU b o e S
aGW:=TP X au M Q
vj a:=by rintro e f⟨a0,W,a⟩
vk a:=by rcases a with h|h|h|h
ml a b:=eb (leK (K:=K) rfl ai5) a b
vl a:=aEZ par B (ab (aE0 x 0)) z a
nQ a c:=let⟨b,b4,b9⟩:=a;v b b4 c
apV:=I×d0×K×Z
apW:=A×B×C×D
apX:=E×F×G×H
apY:=by intro a8 d7 a4 b4 e9
a7y:=aV i3 n j4 cW
apZ:=oK ala tA gV i m
fh a b c:=by have a:0<=b:=by rw[eU (aCj 0 c),l (tc h h),l (ait h h)]
ap0:=by obtain⟨o,d0,hex,hd⟩:=ajL
ap1:=cf Aw e0 g0 d0
ap2:=cf (.ref n) h2 e2 i8
o c d f h i j k:=by rw[g cW c d rr _ _ f (a h i ⟨j1,k8⟩ (gW (d5 p j)) (au k))]
cd d e f g:=by {intro i L h4 N hi s b6 d;rw[ix (c l b e ?_ f g)];simp[vn];simp+arith [*]}
ap3:=by rw[ch i0 eO n blV]
vm a:=by rw[n a i t rfl x t rfl]
ap4:=by rw[e4 Z a6N (qQ a6N Z blX ?_ (blW _))]
eX a b c:=by rw[l2 (fun i m M H=>m=a-i/\b/\akY) c]
C1 a:=a4d ⟨v e a0 bB,fun j x b8 S=>a⟩
eZ a b c:=by refine ah eu (fk (c0 e t _ _ a b ak (blY (GI c6) c)))
aGX:=[i,il,ik,jz,kD]
ap5:=[z,TI,TO,c2,N]
vp a:=by obtain⟨g7,g9,g8,e1,h⟩:=a
ap6:=@aE1 _ _ _ ?_
ap7:=by {rw[Er,Es];rw[vL h];rw[vL k];constructor}
e1 a b c:=by {intro i a b L h4 l8 c s S b6 j2;exact bd (TC (ab 0 rfl ej rfl))}
ap8:=fun vs H Q E h=>?_
ap9:=bD aGd (fun c a4⟨y,a8,r,Z,d2⟩=>bD a7j (fun u b5 P=>?_))
nR a b:=∀(s:Shared)(b1:aM),a->aBI s fd (ec b1) b
vq a:=by rintro v m J c1⟨a6,rfl,a⟩
lM a b:=by {refine a;simp only[hF,oW,Du,aEm]at b0;exact b}
vr a:=fun A i s Q E st h=>a
vs a:=f L d7 OO (aj D d7) (dE (R L) d7 a) (k L)
lN d f:=∀(a:Addr)(D:Gla.Plan)(b2 X G:Addr)(b4:V)(B:Et),e [bc,b4] Al (Ut C H b4 B) d f
a b c d e g h i j k l m n:=by have b:G6 c d e:=f g h (.ref i) (.ref j) ak (c1 _ _ k) l (aP m (co n ak))
nS b c:=d6 (fun v x z=>let⟨a,e,_⟩:=z;⟨a,e⟩) b (J c)
ap_:=by rintro i m M H⟨rfl,hi,p⟩
ap':=fun w hw=>aPE R n J G w ai
vu a:=adq P w K mg aj a eB s H
aqa:=@aE3 _ _ _ _ _ ?_
vy a:=fun{i:Nat}(hi:i<aJ)=>a
e3 a b c:=cp (BK rfl rk (ox bb) (bk "number" 5 "point" 6) (bC (V 5 rk 6 rk)) (lp (eb gO (di ey) a)) (bC cK)) b c
aqb:=∀c o,j (c≠z) (c≠TO) (c≠c2) (c≠N) (gO c) (be (gS c))
wR a:=(∀y e4 b,i (a=aa b) (cZ L e4) (R e4 y b) (h4 y e4))
aqc:=by {rintro⟨r1,r2⟩c1⟨a6,rfl,_⟩;simp only at a6;subst a6;exact xA}
lO b c:=by obtain⟨m,a,d,b,d0,R,F,f,k⟩:=N.orb J c
vz a:=by obtain⟨F,a3,a9,e2,e5,z,hd,j⟩:=af5 a d
vA c:=fun e0 e4 d9 y g5=>m d e0 (fI e7) g5 ⟨c,fun b f=>k b _ (dP En f) (eX En f) ?_⟩
mm a b:=by refine a6O _ (fun m J c1=>J.1=ae/\c1=s/\∀v∈m,a) _ ?_ ?_ _ _ (ii b)
aGY:=by simp only[*]
aGZ:=by simp_all only
aG0:=by rw[O4]
a7z:=Hc "__len__"
aG5:=.list c7
aG6:=.list OX
aG7:=cw (x<y)
aG8:=(O3).length
aG9:=.inl ?_
mn a b:=if 65536<=R.d then a else b
mo a b:=if a then b else 0
aG_:=.tup (wW vn)
aG':=bX d.symm
aHa:=uX (H x)
wS a:=by simp only[ia]at a
wT a:=by simp only[hF]at a
mp a b:=cj ⟨a6B a _,b⟩
wU a:=aBC (hv (gE a))
aHb:=by simp only at j6
aHc:=.tuple c7
wX a:=.error ⟨a,p⟩
wY a:=sj (p:=a) e
w0 a:=sk (p:=a) e
aHd:=by unfold bump at b8
w1 a:=zG (p:=ali) (l:=a)
w2 a:=(Az).dropWhile a
w3 a:=(a).length_eq
aHe:=begins c
w4 a:=jq.k (k:=hY y) a
aHf:=(alp).perturb
aHg:=(Je).place
cj a b c d:={j:=a,more:=b,i:=c,perturb:=d,dummy:=ae}
w5 a:=a4N (lP++[a])
aHh:=a3.map vn
aHi:=J.seq a5
aHj:=e8.2.2.2
mq a b:=by have a:b:=by lia-abstractProof
aHk:=x (qO _ Ag)
aHl:=x (gE bG)
w6 a:=x (aqm (mj a))
aHm:=a02 K C=ab
aHn:=O.all Ga=ab
aC a b c d e:=by obtain⟨a,b,c⟩:=d;exact e
aHo:=(DS j d).1
w7 a:=t (iX (an a))
aHp:=J (n ag)
w8 a:=by rw[C (a4_ a ?_)]
aHq:=fun v=>?_
aHr:=by rw[hm (blZ ?_)]
aHs:=by rw[hm (bl0 ?_)]
a7A:=as (aa (ae:pE))
aHt:=ab (mK XS)
aHu:=ab (p (f x))
aHv:=bh (m::row)
aHw:=bo (NC th eN)
w9 a:=by delta a;grind-abstractProof
aHx:=by rw[cI];rfl
mr a b:=show a=b by simp[*]
w_ a:=fun b O e=>a
xa a:=by rw[a];trivial
ms a b:=by rw[a];simp[b]
aHy:=I->bZ d
aHz:=dJ t (J+1) p
aHA:=p+LC b p
aHB:=ci (qL k.1)
aHC:=Gl X "enumerate"
aHD:=Gl X "zip"
C2 a:=fun(e:Nat×Nat)=>a
aHE:=Vq f=aa v
aHF:=par w=aa v
a7B:=dc (by cases U)
xd a:=by have:=a;simp_all
aHG:=(nf r (t+1))
aHH:=eA a7k Vo
aHI:=fun e _=>?_
aHJ:=ge "enumerate"
aHK:=ge "zip"
xe a:=(akb c1) _ _ a
xs a:=(a5X k0) _ _ a
mt a b:=by have b9:a=b:=by grind
mu a b:=ir a (lP (Dy aJ) b)
aHL:=cf df (vC (pC i))
aHM:=cx<100000
xz a:=fun b O q=>a
aHN:=qM (fun n=>?_)
aHO:=qM (fun f6=>?_)
fi a b c:=by have a:b=ae:=by simpa using c
aHP:=x<(cA aJ).cnt
xL a:=Cs K a (oy bE) So
x0 a:=di (Iv a b1) IX
aHQ:=by rw[hR (a3f J)]
x1 a:=jS (fun vs a8=>a)
aHR:=dL St Hp
aHS:=sv F g m
aHT:=au (dO) iN
aHU:=PA X a7 t
aHV:=PA X XU d6
x2 a:=j b o g_ (iN a)
x3 a:=lt (ar a Ht)
x4 a:=lt (! ar a Ht)
aHW:=sd (cA aJ).side h
aHX:=bl1 c=aa x
a7C:=fun t m=>?_
x5 a:=lx (t<=ny->a)
aHY:=mP F k y
aHZ:=GR K DK A
aH0:=by rw[ed mm]at c4
aH1:=dR<=8192
aH2:=dK Nat Nat
fj a b c:=by simp only[a]at E;rw[b];exact bt c
aH3:=aC hK (sP xn)
aH4:=RQ K C "__init__"
aH5:=k b o (J (b0 (ar z))) e
x6 a:=Q fP (ap p a)
aH6:=(cA t').row
aH7:=a6I min a
aH8:=x (j h) q
x7 a:=by rw[aj a4 (ad d a) xw]
aH9:=vB H l Y g
aH_:=zt iw mK ak1
a7D:=vU (jE (sl e))
aH':=HV (DD r) bY
x8 a:=E t (t<=R.n) a
aIa:=L e_ cn
aIb:=fun b u e=>?_
x9 a:=fun b _ o e=>a
mv b c:=a J g ls dx rfl b c Y
aIc:=G5 H b k
yv a:=ad L bQ (se a)
aIe:=fun v b7 b5 p=>?_
yw b:=iW (gT hd) b
aIf:=GR K DK A b
aIg:=(fin (d ?_))
aIh:=(cG (tg f))
my a b:=by have B:=bl2 a (b_ (o:=hM) b)
aIi:=by have d9:=m_ c9
yx a:=Q .bC (ap l a)
aIj:=by simp only[ic]at E
aIk:=a6P Iz aEU
aIl:=a6P ID aEU
aIm:=a6Q Iz ajU
aIn:=a6Q ID ajU
aIo:=U4 K xi=ab
aIp:=U4 K rE=ab
yz a:=by have⟨dx,ex⟩:=a
mA a b:=by {have:=a;have:=b;lia-abstractProof}
aIq:=fun y c e=>?_
aIr:=eT (bl3 n) 0
aIs:=by rw[a1 B d5 OH]
aIt:=by rw[a1 B d5 I4]
aJ a b c d f:=by have a:b=ae:=by cases q:c with|some e=>{rw[q]at d;cases f}|none=>rfl
fk a b c:=by have a:b=ae:=by cases q:c with|some e=>{rw[m7 q]}|none=>rfl
yA a:=fun b u O q=>a
mB a b:=PW X (iK .And a) b
mD a b:=PW X (iK .Or a) b
aIu:=eW J s p
aIv:=eW J s q
aIw:=Int->Int->Int
aIx:=Int->Int->V
yB a:=sn ⟨bl4,a⟩
aIy:=[71,76,65,49]
aIz:=[71,76,65,72]
aIA:=ed (f0 (gx z E.l))
aIB:=cz rfl h
aIC:=hY (k+1) X.A
yC a:=by simp only[ia,iV]at a
aID:=v6 (bl5 _)
yD a:=LU (t bA (cp a0 a))
a7E:=fun i _=>n<=i
yF a:=an (ai' 16) a
yG a:=dQ (b4 aw6 a)
aIE:=fun p _=>akR
yH a:=dw mK (y.2= .free->a)
aIF:=dS aq (as aq cv)
aIG:=vl r eg o_
yI a:=eC a (cr (bl6 l))
aIH:=Iu d h a7
aII:=Cc r z row
yJ a:=CA P w a d ls
yM a:=ac oB oB (.inr a)
aIJ:=by exact mR (cV hi) (cV (qw Z))
aIK:=jq H a y o
yO a:=by rw[cI,hP];exact aW a
mE a d:=c M H (fun b a8=>Z b a d)
aIL:=BN wy E N
aIM:=fun v a8 a4 g4=>?_
fl a b c:=by have fin:a=ab->b:=fun U=>c
yQ c:=∃a b:Int,∀x,c=a+b*x
aIN:=by obtain⟨o,e,c,d⟩:=id f
yR a:=by with_unfolding_all exact a
aIO:=by rw[(aGk).length_eq]
aIP:=(tq pz,auY e)
aIQ:=R.d<=lH
yS a:=Q (.int a dF) O1
aIR:=by simp only[q,mL]
aIS:=wC l.1 l.2
fn a b c:=aeb a (m2 b) (l3 m.1 c)
aIT:=Cv par y
aIU:=a4A j (aa n)
aIV:=t4 a57 a3
aIW:=a8 a=aa (aC C G)
aIX:=x (ah1 bG bG)
C3 a:=by rw[a6 a,dV]
yY a:=by rw[l (O _ e7 a)]
yZ a:=by {rw[aj a,cI]}
aIY:=vs++[l4]
y0 a:=V m a (Dr r eN=ab)
aIZ:=gJ (a1 2)
y1 a:=by rw[v a (fun x S=>?_)]
aI5:=cS bR aw
aK b c e f g:=by rw[a4 S (m b _ c (d e f g rfl))]
aI6:=dJ t J Yf
aI7:=bv aha EB
fo a b c:=aj gO aw a (cp (gi b) bb c)
aI8:=yQ r eg o_
y2 a:=by have:=gB (Ml (a:Str)) z
mF a b:=by have:=a;rw[fu b this,nu]
aI9:=pd Y t dW
aI_:=fun j y b8=>?_
mG a b:=jS (fun c a8=>Z c a b)
y3 a:=E j (j<i) (a=ah)
aI':=qz X a c3
y4 a:=cZ (gi ajj) WS a
aJa:=Mw bh l f
fr a b c:=hy a (cp (gi b) AH c)
aJb:=o1 (h y rA)
mI a c:=na (A [cD] tL (gt a) c)
aJc:=P g e g'
aJd:=by rw[C (gg b2 ?_)]
aJe:=e7 (dw (ij x) (y<aJ))
aJf:=M6 (jx (v d.1 k (d.1,y) d))
aJg:=ap hO n j
aJh:=DC aP c l J
aJi:=MC x c e
aJj:=si a d B
aJk:=∃j∈hO,Jg
aJl:=KR bh x dx C j
aJm:=UE eC X.w a alv
aJn:=zf r H l Y c
y5 a:=ad7 d5 Y i alg H a
y6 d:=by rw[l4 R (f g ls h d)]
mJ b c:=fun x p L h4 c4 O J B=>M x p b c B
aJo:=.dK (K3 [] a7s)
y7 a:=Meth X.K C m a
aJp:=Mk X.K C f
y8 c:=fun{a b}h=>c
aJq:=T.vj x S q
aJr:=(Z b (fk::W) [])
y9 a:=v b1 (Y a q2) (o3 f6)
mK b c:=vK (A [bc] Al (gt b) c)
aJs:=d M H I h
y_ a:=vq K C a st c5
aJt:=ep i R p
za a:=a2p _ _ _ _ a
zb a:=L5 a5 B par E a
zd a:=by rw[ad f D a3 a h.d]
aJu:=by rw[K i M L x b7]
aJv:=by rw[dN,dN,bT];wp_delta;rw[bT];wp_delta;rw[bT,eA aEo]
fs a b c:=match a with|true=>b|false=>c
zf a:=by obtain⟨e5,e6⟩:=a
zg a:=by obtain⟨z9,x2⟩:=a
aJw:=(a9.map eY)
aJx:=(x (vi Z) h)
aJy:=(Ite K l)
aJz:=a.1.map bl7
aJA:=(l.1,l.2)
aJB:=(bp m.1,bp m.2)
zh a:=fun b7 b5=>a
aJC:=eA alu bl8
mL a b:=Hq (da a) (da b)
a7F:=.int cm (dF+1)
aJD:=R1 eC X.w
aJE:=aK (B.mp rfl)
mN a b:=bj (ah (cz (B.mpr a) b))
aJF:=.tup (wh (.ref W))
aJG:=sf (Vq f) (j f)
aJH:=by delta KV at J
zl a:=ib (I.aNP b a)
aJI:=h n (x jW)
a7G:=Vg (e9 (q a53))
aJJ:=.Name y r
aJK:=.Name d1 T
zm a:=bF (bF (aEk a))
aJL:=f (e0 i) (mM j)
a7H:=r.Sd aY (ahm aY)
zn a:=(bm hi a).toNat
zp a:=(aiR (a%256)).toNat
aJM:=min ir bl9
aJN:=MW i5 lo
aJO:=([]:aM).toArray
mO a b:=fg a (ahW (bl_ b) ahX)
aJP:=Y.diff a0 W
mP a b:=Lc (by rw[a,b];simp)
aJQ:=HS (ad_ c7).2
aJR:=HS (ad_ c7).1
aJS:=bl' (ft O6)
zq a:=aRV (p:=p) (l:=l) (k:=a)
zr a:=aRY (P:=AF) (atY Z I a)
zt a:=bma a i (ar hi)
aJT:=.erase i j
aJU:=a3R Ms a3T
aJV:=(LI e).binds b
aJW:=bmb (a6R zM J.f a)
aJX:=c.drop (gf-i)
aJY:=ajI eC X.w
aJZ:=ayf eC X.w
aJ0:=bmc r (v9 gn)
zu a:=IA a (jL (c3 _ _ z))
mS a b:=bmd a (eO (sh b))
aJ1:=by injection f5 with f5
aJ2:=Xo D (agi D B)
mV a b:=(a).put (o:=b) (bme x)
aJ3:=IJ h9 (aFl N D_ b5)
zv a:=fW.sb a5 a d6
mW a b:=by have:a:=b;rw[gh]
aJ4:=fun a8 a4=>?_
aJ5:=fun c0 c1=>?_
aJ6:=J (U (ar z))
zw a:=E t' (t'<=t) a
zx a:=by rw[C (aEz a bmf ?_)]
aJ7:=sd (DS x xu)=ah
aJ8:=A atN (c,l)
zz a:=M a7w (aOY a d6 f)
zA a:=by {rw[cR Oa,fa];exact a}
aJ9:=gJ (2<hy)
zC a:=g3 a (us5 (my ng))
aJ_:=bs xF OY
aJ':=by rw[T r.N []]
nT a b:=bo (iO _ (fJ (a5p a m) b))
aKa:=fW K H b d7
aKb:=aJ (H x rA)
a7I:=fH (fun e5=>?_) (fun e5=>?_)
zD b:=bl (a5D b (e0 a) (mM c))
aKc:=by refine fH (fun e6=>?_) (fun e6=>?_)
aKd:=c5 18 2≠0
aKe:=br (dj I)
a7J:=by rw[bmg];kernel_rfl
aKf:=bV bG bG
aKg:=dK (! cw (i∈B))
aKh:=dK aQ aQ
aKi:=dg hO (n+1)
aKj:=ec [cD,cW]
aKk:=dq q.y q.x
mX a b:=aj gO kK a (kc aq b)
aKl:=by rw[jH (ib h) e]
a7K:=va K H b (HW cq)
ft a b c:=(ah (hA a) (hA b) c)
f_ a b c:=bA a {cls:=b,dict:=ae,data:=c,slots:= #[]}
a7L:=fun(k:Nat)=>dI (iX ak6) (H5 k)
mY a b:=X a b ["neighbours","came_from"]
mZ c d:=aFP a b (x:=c) rfl d
m0 a b:=c8 (hA a) (hA b)
zE a:=by rw[ca d3 (¬a=0)]
fu a b c:=PS X (.AugAssign a j b pos) c
C4 a:=by rw[c_ (da (aDC (show ab=ah from h.1))) a]
a7M:=qO _ (qO _ (aOu U e))
aKm:=dR jA 20
aKn:=fun s=>oL (lB t s p)
zG a:=V e gW (a/\e.2<df)
aKo:=mP F p.1 p.2
zH a:=by rw[a]at D;cases D
aKp:=vV "list"=aa Ak
aKq:=K b p c
aKr:=eU aF' alo
aKs:=aa ⟨6,cx⟩
aKt:=zW bh F xa
a7N:=fun b N q=>bU q
aKu:=fun j a b3=>?_
aKv:=∀x,t (f x)=k
zJ a:=bk j x (Ew->a)
aKw:=lk (cO u x)
aKx:=d3 c5 m7
aKy:=E x aGe ald
aKz:=gb XU (g6 tH [b9])
zM a:=bA l xj (dC eS L l a) cD
a7O:=∃i u,v=W8 i u
a7P:=fun j x b8=>AA
zP a:=fun h' p c0=>a
aKA:=fG bG bG
aKB:=cr (l.1==e.1)
a7Q:=bD a7n (fun c b5 P=>?_)
a7R:=v o e (fun v z=>ai)
zQ a:=fun c O q=>a
aKC:=by injection e with b4 _
aKD:=upd d4 W a7p
aKE:=PG X c7 g
a7S:=by rw[gf (a5F (v d).toNat>>=_)]
aKF:=lR "list_iterator" #[cD,hG 0]
zU a:=ap (vE dg k a) n j
zV a:=by have Z:lF OV "enumerate":=bm a
aKG:=(yu (fn "NUMBERS"),nmF K)
aKH:=[w,h,il,ik,jz,kD]
aKI:=Mw bh b i
aKJ:=Cc r eg o_
aKK:=fun h' f sb=>?_
aKL:=L (oQ f) aGn
ga a b c:=Y ["drawing",a] ["drawing",b] c
zW b:=sc (fun a b3=>ax (dP e_ b3) (mV b))
aKM:=aFL Ef c/\aFM c=ab
zY a:=z b (f (gQ xE)=aa cW) a
aKN:=by rw[ak b3 e (Nf q)]
z0 a:=fun v d3 z=>cz (wH d3) a
aKO:=jM (mM y.2 x.2=ah)
z2 c:=b.1=ae/\c1=OL/\c
aKP:=20+8*Ap+4*i
aKQ:=by have e0:=vh J x
m1 a b:=(DH r a).bind (fun T=>aiN T b)
aKR:=C_ _ H rfl
C5 a:=eX (mw b3 (mS e.2 m.2.2 a))
C7 a:=eX (mw (HK a) (mT e.1 Au))
aKS:=(eL eO).zip Y
aKT:=(qW U rp).2
m2 a b:=by rw[go q a];exact qx e t b
z3 a:=by rw[go q a];exact bJ e t
aKU:=(qW b3 (bp b)).1
z4 a:=bl (ME a cD cW)
z5 a:=by {rw[ae (l a ay) e];rfl}
aKV:=by have:fl (h::l)=an (O5+em l):=bI
z6 e:=∀a b c d,e
m3 a b:=by cases r with|nil=>{rw[ko a b]}|cons c u hw=>rw[alj];cases c9
aKW:=Dq J a b=ab
aKX:=Dq J w x=ab
aKY:=Gm (F:=F) _ h i hi
z7 a:=(l i x (i<a) nq (x<j))
z8 a:=(l i x (a<=i) nq (j<=x))
aKZ:=v 16+ae xD
z9 a:=WZ t (W6 a7) kL a
aK0:=v O q aY
Aa a:=(tM).is k a=ab
C8 a:=by rw[fz];refine Of (aqQ I d8 c4 a l)
fv a b c:=t ck (cg (RX (l:=a) (k:=b) aY) c)
aK1:=by rw[C (iU (L0 T) ?_)]
aK2:=fun v d3 z=>?_
aK3:=by rw[al (M9 a b)]
a7T:=cf aJ (dK (v i k p eI))
m4 a b:=fun i m H=>m=a-i/\b/\j i H
C9 a:=o z (a1 x z) (z∈B) a
m6 a b:=by have a:df b aGl:=fun e h=>x iv ag
Ab a:=by rw[aS a (cf 256^2) 65536]
fw a b c:=an pO a aDU (eD aq (a7 b c))
Ac a:=ct (o7 (T a)) gG
Ae a:=20+8*Ap+4*I7+12*a
At a:=cz (show b∈([]:bg)from a) jK
a7U:=bs [vn l] (v7 (b-1)) n2
aK4:=by rw[dj e2 j0 h.m]
aK5:=iQ t.1 (hN t.2)
aK6:=by rw[iT a5 (sV c0)]
aK7:=ch eI<ch (bp j)
aK8:=fd kG<m4 kG
AC a:=Ux cB k a h s
aK9:=aFz C H L v T c
aK_:=(mO c5&&mO h')
aK':=Wq=gW/\ps=lK
AK a:=bm yC aq cv (bW 1 a5T (dL a))
aLa:=by obtain⟨h2,e2⟩:=b
aLb:=c[gf-1-i]
aLc:=HU y k h
aLd:=Wg y k h
AP a:=Uy (ajI cO w) a r a7
a7V:=XD D lU (aa M)
AT a:=M (.Dict [] [] pos) a
aLe:=bx (IK i 0) (IK (i+1) 0)
aLf:=by rw[aO rfl dx h]
A0 a:=by rw[bD m eu (h0 a)]
A1 a:=∀(J:Nat)(p:Probe),a
m7 a b:=by rw[b7 hw W (a1P (v:=v) (o:=a) b)]
a7W:=(b=r\/wb lP)
aLg:=lk (bx e.1 e.2)
cv c d e f:=by rw[fd X c (m0 d)];delta e;rw[J f lT]
aLh:=b7 lt.1 lt.2
aLi:=[.int 1,.int 3,.int 13]
fx d e g:=b x bc (y=cW) (m9 d) (G5 e b k) g
A2 c:=by refine f b _ pN (ah rfl (TC c))
C_ a:=by rw[j9 W (adX Y J a R.n aY)]
m8 a b:=oF K q a=oE b q st
aLj:=["cartoon","points","ends","marks"]
aLk:=by rw[di,pH,di,cP]
m9 a b:=by obtain⟨c2,g,d,D,a⟩:=b
aLl:=bd (fun d7 b6=>t (I.ada b6 e0) S)
a7X:=by rw[aK (WI (i+1)) (WI i) a b3]
aLm:=(gM).k e.1<=tS/\tS<=(gM).k e.2
A3 d:=by rw[CX (u dh rfl a _ d)]
aLn:=sp (by rw[ak e h e0];exact v a e (bv h))
nV b c:=a dx _ _ rfl b dU gd fX c
a7Y:=∃c d,Yc/\dM d 0/\c≠d
ck a b c e:=by rw[CZ (d a (dz b (t c hi)) e pM)]
A4 c:=f8 lU c (a J g ls u rfl a7 D.2 Y)
a7Z:=nR (lC=kA) (MQ b1)
fy b c d:=nS b (by rw[z]at c;simp at d)
aLo:=by obtain⟨m2,S⟩:=aFo
m_ b d:=(b:bl (ME d (e0 a) (mM c)))
fG a b c:=by refine aOz (n:=a) b c ?_ ?_
aLp:=by injection G with b6 S
a70:=bmi j++bmh (j+1)
aLq:=by obtain⟨o,d0,_⟩:=ajL
A5 a:=by rcases a with h|h|h
aLr:=iG EC (io t) (dj alr (vl r (bp t) jb))
aLs:=by rintro⟨a3,a9,e2⟩
aLt:=r.aQO (j9 b0) S
aLu:=r.asF Y I e
aLv:=(i-fL+1)%t (d++Z)
A6 a:=by delta aDo q_ zK at a
aLw:=aRc g a6 hw
aLy:=Lk par y t
A7 a:=bmj (S6 r v) a
aLz:=aej r v I9
A8 c:=aeu Lw aGm (fun _ _ h=>S7 h) c
aLA:=R.F.ok r len U
aLB:=NX p q J
aLC:=PxV H v p
fH a b c:=by rintro M a⟨rfl,⟨b,rfl⟩,c⟩
aLD:=bmk a5 B par
aLE:=N7 lN fA j
aLF:=bml it bh h'
aLG:=bmm [(hL).hash k.1,(hL).hash k.2]
aLH:=W.type 0 _ st
A9 a:=by obtain⟨F,c3,_,c4⟩:=a
a71:=eqK (K:=K) rfl wt
fI a b c:=aP_ (n:=a) (fun i L=>b) c ?_ ?_
aLI:=bmn (il (mK (NX eg (bp b) rp)))
aLJ:=bmo (jM (mM (O y) (O x)=ah))
BA a:=aFI (j:=p+1) aT (afy a)
aLK:=a00 K e3 j=ab
BC a:=by rw[l (d5.nt b a O e)]
aLL:=K b (p+1) n
BD a:=by {rintro⟨_,q⟩;exact cz (a0 (cf 2) a q) ay}
aLM:=gA×gA×ax
aLN:=by rw[N c3 k f]
aLO:=e=x\/bh e Ei
cl a b c d:=by have:it F a (cF b)=c:=by rw[<-yJ,d,e]
na a c:=by rw[eA (a6O _ (fun m b c1=>a) c)]
aLP:=ad b (B=aa b) (xb b)
aLQ:=dm (hv bmp hR)
aLR:=by rw[ca (Gm (F:=F) _ h j b8)]
nb a b:=PA X a (qA d6 (qA c3 b))
aLS:=by rw[aS d2 (xC+xy) xy]
fJ a b c:=by rw[bl J l (a5 i x v a b c)]
aLT:=by rw[bl rfl R (vals1 J)]
nc a b:=b3 au a4 M a8 a r b
BE a:=MI B (aa a) MJ cG=eV ah
Da a:=bo (i=j\/t (iX ak6)=dR) ae a
nW c d:=by have a:j b u (fs u) c:=fun b u e z=>d
aLU:=(C-D)*(kp-K)
aLV:=bV b2 X G
fK a b c:=by have e2:a=b:=by delta c;simp;simp[*]
nd c d:=by rw[j l b c ?_ ⟨jX,d⟩]
aLW:=by rw[cS e0 S d8]
aLX:=by have:(an (Aq-Ar))=an (Aq+(-Ar)):=bI
aLY:=e.1+e.2-B
aLZ:=xH++p++Jc
aL0:=cR (vg R i t) gG
aL1:=d [] 1 id (as (0,0))
BF a:=∀{l:nL}{c J:Nat},a
aL2:=vX (PE (j1 e9 C) t b8)
aL3:=vX (PG (j1 e9 C) c7 g)
aL4:=vX (PTs (j1 e9 C) G c3)
nl a b:=∀(J:Nat)(p:Probe),a->b
BG a:=zJ b (n+1) r p=a
BI a:=wJ r a 0 [] dS
aL5:=dT (dq (a52 D e) (a51 D e))
BJ a:=by rw[a,hs,hs];simp[a0]
BK a:=aP m x (m<n->a->zT x≠.empty)
fL d e f:=by rw[iV d (u Aa zd X e f)]
aL6:=oK (r5 df) DO gW i z
aL7:=oK aGj WL lK i z
BM a:=jn bS Ee T.Ui.h (eE a0C) a6 T.Ui.b .nil fu (ea a)
aL8:=by {intro p c2;rw[iG i (zy c2)];simp[*]}
aL9:=v F (x (aQ1 E)) hR
BN a:=by rw[rC];rw[a]at h8;exact h8
BO a:=aP x l (alm->a)
BQ a:=fun j x y=>x= .int (cf j)/\aa a y
aL_:=agW b o e n S
Db a:=bD (pb _) (fun u b5⟨y,b7,Y,r2,q2⟩=>a)
a72:=(j::a.1,lP a.2 j)
BS a:=axR t a 13 p ay
aL':=aE' D e.1 e.2.1 e.2.2
aMa:=ax u (gS e) u
aMb:=aV e4 le zs nD
BT b:=CT (z k (arc b x L k) (Q k L))
aMc:=j b O (fs tO) (hI tO)
gb a b c:=by induction a generalizing i with|nil=>{trivial}|cons J t j=>cases i with|zero=>{exact dm (b▸J)}|succ i=>exact c
aMd:=∀a b c,aF'->k b c=ab->k a c=ab
nX a d:=(es b u e).qy (fun c v b0 q=>k c v ?_ q) a d
aMe:=c V en en Hp (cv VK)
Dc a:=aAz u CR A H k dx a Q
aMf:=CE eB P w H s Q u c1
nm a b:=(atk (m:=O9) (l:=jV a) (fun h c7 q=>b))
BV a:=xlAt a [] s&&recOk [] s
aMg:=by obtain⟨zs,L,a5⟩:=st
aMh:=by have id:=as6 al f J w x
aMi:=.Pass (d 0 0 0 0)
aMj:=[k,J,g,ls]
BX a:=∃(ar:aM)(n:Nat),a
BY a:=by obtain⟨gl,k2,p0,o2⟩:=a
aMk:=c4 b _ q (J z)
aMm:=bmq x c r b0
aMn:=bmr alb X.A cG oS
BZ a:=aBt _ _ a b U
aMo:=bms sl i5 c .none
aMp:=a6S lo hi ae n
aMq:=zC p q J s
aMr:=zC pF rq (bp m.1) (bp m.2)
aMs:=V2 r t z e
fM a b c:=SInv (ab (Nv x [])) n a P b c
aMu:=S6 r v row a
B0 a:=aR6 C.net NM C.aeG a H
aMv:=auv r (vm r aFt) (vm r aFs) l
nn a b:=ReadsW R e9 a u b Y
n0 b c:=afx bJ [bc,pJ] b (C0 c) E0
cm a b c d:=aOy (O:=a) b c (mR (cy d)) ?_ ?_
B6 a:=afV cO w a a7 l
aMw:=a40 (bmt r e1) a7
fW a b c:=W.af9 j _ _ a b (jL c)
aMx:=lay H l Y L
aMy:=ne v d3 z q
B7 b:=a r.w r.h de bY b
B8 a:=by {rw[bD (fin ?_)];have:a:=ai;delta oK;rw[tX]}
B9 a:=fun g e g' _ h=>a
aMz:=fun i H hi s=>?_
aMA:=by rw[w (ar qX) aF8 aF8 aF8]
n1 b c:=m Ed zh b _ (aJ c (v8 3))
gc a b d:=by rw[aj a b (fun c o z=>by have l9:=d9 c o z;exact d)]
v a b c d e f:=E a 2 4 (E b 2 8 (E c 2 12 (E d 2 14 (E e 2 16 f))))
fX a b c:=aP y k (ap a y k->b\/(c/\K f y k))
a73:=eO (k it bK o e)
aMB:=dR (gx ((k,x)::J)) (v k f ((k,v)::J) ((k,x)::gx J))
aMC:=fun H v(m:Hf)=>br v eN
co a c d f:=by have a:bd (b≠x) (be c) (be d):=fun b o a5 e=>f
no a b:=Y ["data","place",a] ["data","place"] b
B_ a:=by rw[Y e a0 b U a]
Ca a:=hz a ((fX f<0->fX e<0)/\(0<fX e->0<fX f))
fY a b c:=by have a:∀p q:Pt,b:=fun p q=>c
aMD:=by have z1:lE=zr:=by rw[<-bmu];rfl
aME:=by have h6:Vv=ND:=by rw[<-bmv];rfl
aMF:=(afo K mg e G)
aMG:=zA->bk l (x∈m)->ec<=aFc
Cb a:=by rw[ax c b0 r1 r2 a]
Cc a:=∀(o:Obj),a->we=Ak
aMH:=bH ch ((b∈CM\/Hi<=b)/\X7/\a7q)
aMI:=av (i<fM) (cs de H3 Yh) ae
a74:=d3 au s M H _ I h
Cd c:=wj (x b o a f c)
a75:=d0 au b5 M b7 x y v u _ Y r1 r2 q2
aMJ:=aa (Mu "dict",(ae:nj),nmN.map nP,(#[]:EA))
aMK:=cx≠jA+8*c5 12 2+4*c5 14 2+12*c5 16 2
a76:=upd (ap e5 (bV xl)) e6 (.tup (bV xl))
aML:=by obtain⟨O,x,e0,S⟩:=d8
aMM:=aCy r al f Z d
aMN:=let⟨o,d0,J⟩:=x;v o (e _ d0) J
Cf a:=jn bP gI a6U (eE ay2) a6 a6T .nil fu (ea a)
fZ a b c:=∀{Z:Row}{g:Nat},a->b->fu c
aO b c d e f:=by rw[fz];refine b;obtain⟨c,b7,Y,d,a,e,ex,g,q2⟩:=P;rw[lZ,Ey];exact f
aMO:=a1p b o e n U S
r c d g h i j k:=a c d g h (a f n i a3 (wf (nQ j k))) h.n1 h.n2
Ch a:=fc (ahg x Eh aO R.f e3) (a).KC (RP st)
n2 b c:=[kM,ac x,ac lt,b,AE,i1,j5,ac I,ae,ac N,c,bE k,l6]
aMP:=dA->bk i l (A bY l->a i l=alq)
np a b:=by obtain⟨a5,nd,mem,nx⟩:=d5.rot a b
aMQ:=by rcases O y k h with⟨rfl,rfl⟩|⟨q,h⟩
Ck a:=.of_wp (fun cO w A R s h=>a)
aMR:=a0 cO w _ _ ?_
f0 b c d:=bmw (m gn _ (Dd (a:=aO) (o:=b) (t':=dF) (iF (bU q)) aY c) d)
Cl a:=arA (aTe (K:=K) rfl) a (oy bE) (oy bE)
Cn a:=yy (aPK aj' bmy bmx aPQ a)
aMS:=aD7 O j r lo hi
Co a:=vN f=aa (d D m (.func a) z)
f1 c f g:=by rw[e l b c 2 ?_ f ay g]
cp c d e f:=by rw[g _ c l b d e a5 ⟨ay,fun a8 a4=>f⟩]
aMT:=by rw[ac i j l l l]
Dd a:=Mc dr lJ P w D a y x e7 d X c7 I
aMU:=by rw[cd m (a6V "min"++a6V ".loop":gA) "min.loop"]
Cq a:=∀m:fC,bmz->bk m (x∈a)->aFc<9000
aMV:=by rw[ad e ne w d (MA p c2)]
nt b c:=by rw[e a D b2 X G rfl b c]
Cr a:=fun _ _ _ _ _ st h=>a
aP a b c d e:=av T.TZ.h aVV T.aVN T.TZ.b (GS a b c d e)
Cs a:=av T.T_.h a0e T.aVQ T.T_.b (ea a)
aMW:=eE=0\/eE=1\/eE=2\/eE=3\/eE=4
De a:=aP u (aq0 (s:=tJ) e c d ay a)
aMX:=by intro i j hi b8 l e
nv a b:=by obtain⟨J,g,ls,a,rfl,b,hR,Y⟩:=h
n3 b c:=∃(o:Obj)(ar:dX)(n:Nat),be (vN a)/\we=b/\c
u a b c d e f:=by have step:a=ah->ae (j<i+1) b c d e:=fun U j d7 b8 O=>f
aMY:=wg (2<=fi/\fi<=64/\cA row O8)
a77:=a1q b o e n U S
aMZ:=["self","width","height","points","lines","marks"]
nw a b:=fin h' (av _ d3) (av _ a) r V Z b
aM0:=by rcases cs with e|e|e|e|e
nx a b:=by obtain⟨c9,f,⟨a,b,n⟩,a3,a9⟩:=st
f2 a b c:=E (cx<a) 1 cx (E (xl≠b) 1 0 c)
f3 a b c:=vf P w K mg aj a b f c c5 e8
aM1:=by rw[bT];wp_delta;rw[dN,dN,dN];exact dm (ax hR)
f4 a b c:=by cases q:a with|false=>{rfl}|true=>rw[cO b,a4 c,aj aEG];rcases q with q|⟨d2,q2⟩;{rw[eo]};{rw[aK (x AB),aEG,bj (f0 (acY z.n (mj q2)))]at h;rw[l_];lia-abstractProof}
cq b c d e:=by obtain⟨l,b,c,d,rfl,rfl,a,e,c9,q⟩:=h
cr b c g h:=by rw[e x b _ c rfl ak (f c2 b2 X G g jK jK ⟨jK,jK⟩) h]
Ct b:=a rfl rfl _ _ _ _ H C b
Cv c:=by rw[b ?_ ?_ ?_ ?_ ?_ ?_ ?_ ?_ c]
Cx a:=af8 cO w a T I a8 aj n St p
aM2:=by obtain⟨zs,f,a3,a9,m,B⟩:=st
cs b c d e:=a x _ dx _ rfl (Y b c) gI d (au e)
aM3:=fun i H x L s hi y=>?_
Cy b:=m=vs.zip ws/\sY vs I/\sY ws k/\bmB+Vv=bmA+lE/\eV (.bool b) OL
aM4:=by rw[gy B (aPg kB OL a t c u)]
aR a b c d f:=e ajk a (e8 b c (gi d)) (ck "place" 4) (ci 4 ajk) kN (bC (b4 f bR))
nA a c:=Meets a (fun _ R s=>c7 l {cls:=rz,dict:=j,data:=jy f,slots:=sl}/\c7 b (au rz o i n2 p)/\eV (.bool c) s)
ct a b c e:=[tV,rD,ac lo,OT,ae,i1,j5,a,b,c,e]
Cz b:=by {obtain⟨o,a7,e1,d0,J⟩:=c4;exact a o a7 e1 (k _ o b d0) J}
f5 a b d:=em St (W 0 m M H) (V ak9 ((a).stop i H) OK ((b).go i H) (∃N:pQ,(alc)/\j x L (r4 d) (ge M (r9 N))))
aM5:=@aE4 _ _ _ _ _ _ ?_
gd b c d:=∀(a:Addr)(b:Gla.Plan)(b2 X G:Addr)(c:Nat),d
aM6:=vf P w K mg aj so k R.f R.fd c5 e8
f7 d e f:=∀(c1:Shared)(M:bg)(C:Nat),b Vh sT (a5w=zm) (Vi=CO) (a6A d=aa (hi (hD (M.map dq)) C)) (i (Vd=n) (nP M mG) e f)
aM7:=by rw[a0 g0 L I q];exact d g0 L I.F4 q
Df b:=a a b2 X G e b c9 g9 e1 j5
CA a:=sq (Sn (aYS (K:=K) (w:=w) rfl rfl rfl wt) bI T.set aTj (ea a))
aM8:=∀{Q:nJ}{O:K}{b:Addr},zW bh O b->Yb->a7r
aM9:=by wp_delta;rw[hh];{rfl};rw[hh];{rfl};rw[dN,bT];wp_delta;rw[bT];wp_delta;rw[bT,eA ajK,As,dN,EG,hh];{rfl};rw[bT];wp_delta;rw[bT];wp_delta;rw[bT,eA aEo,As]
CB a:=by obtain⟨z,ar,J,o,d0,b0,n,hd⟩:=es _ _ a
CC a:=by rcases a with⟨o,rfl⟩|⟨j,q,c0,e0,c,rfl,b0⟩
aM_:=by exact a rfl rfl a6E aBv ns d8 rfl hi b8 OM h
Dg a:=aOD b3 U I h (fun v u b5 x y b7 Y R Z q=>a)
CD b:=by obtain⟨a,b2,X,G,e,d,c9,g9,e1,j5⟩:=b
aM':=(afo a.K a.mg a.e a.G).Ok a.P a.w a.base 16 (LK a.K)
nC a c:=by rcases zs with⟨a,a7,a0⟩|⟨d,b,u,j,c,b1,G,c0⟩
aNa:=by obtain⟨c2,b2,X,G,rfl,j,b0,a0,e0,d1⟩:=J
CE d:=by rw[xx,c a b ns d8 rfl b3 U q h,hQ];cases Z;obtain⟨ar,r1,e9,_⟩:=CQ b3;rw[kl r2 (CQ U)];exact d
CF a:=∀(i j:Int)(t u:Tok)(s:Shared)(Q:aU)(E:aU),a
a78:=aS (N-i) ((N-jc)+1) (L N i lt N (i+1)) (L N (i+1) lt N i)
a79:=by rcases g with⟨F,k,e,c3,l⟩|⟨F,k,b,e,c3,f7,l⟩
s b d e f g i k:=by obtain⟨⟨y,j,a,sl⟩,d0,b0,n,hd⟩:=id a5;obtain⟨⟨c,o,data2,p⟩,u,m,n2,d7⟩:=id U;simp only at b0 hd m d7;subst b0 hd m d7;exact bmC (op:=b) (bm d0) (bm u) d e f g (v d0 u (show vO i≠bmD/\j7 k from iE (ab (nomatch x)))) hu
a7_:=by simp[dJ]at b8
n4 a b:=byRow2 "special-get-raises" a b
a7':=Hc "default"
a8a:=.lst (a6W toV)
a8b:=.tup (a6W toV)
Dh a:=M5 a (by size_fits)
a8c:=wK WData.int
a8d:=PlainAttrs T
a8e:=N.Pairwise (mr R)
a8f:=Z.den_pos a0
a8g:=by unfold Plan.joined at this
a8h:=m.Pairwise R
a8i:=R.cs.headD al5
a8j:=f.any (Cu l)
a8k:=ns.filter (ee Jp)
a8l:=hG.set.qy kp
a8m:=left.take al3
a8n:=a44 "internal:collect"
a8o:=J.wellSaid=ab
ge a b c:=by obtain⟨_,a,_⟩:=b;exact c
Dk a:=by rw[bY d0 a5 I.look];exact a
a8p:=by subst_vars;rfl
Dm b:=bl (eqIsQuiet b bc)
a8q:=fun e m=>?_
a8r:=fun x m=>?_
Dn a:=oH (!(am a i ah))
a8s:=CI "__classdict__"
a8t:=fe (bF (aEY ?_))
a8u:=by split<;>grind-abstractProof
a8v:=cp (eZ (gu))
n5 a b:=by delta a;rw[bA];exact b
a8w:=by rw[j0 (fun x _=>?_)]
a8x:=Q (ac aO) nB
a8y:=v o e ex.2.1
a8z:=(ay:bk (cf 0))
Do a:=seqIndex? i a=aa j
a8A:=ad a (.dK Yd)
a8B:=ad a (.dT Yd)
a8C:=o4 (au I d0)
a8D:=by refine qM (fun ne=>?_)
a8E:=tj O (O[i]+1)
a8F:=fun b o e=>?_
a8G:=(Hv (·.pop))
a8H:=fun v b7 b5 r2=>?_
a8I:=ns (e1 (gV pos))
a8J:=o_ (st.at a73)
Dp a:=fun _ _ M H _ I h=>a
a8K:=Q (ac aO) tJ
a8L:=fun b7 r2=>?_
n6 a b:=by rw[cl t (dx (jU a) J),cb];exact b
a8M:=dj 0 (hE Pk)
a8N:=v o d0 hex.1
a8O:=fun y b6 e=>?_
a8P:=ax c (aBc y.1) c
Dq c:=∀{l:ao}{a b:Nat},c
a8Q:=a _ _ _ _ (bd yL)
a8R:=by {rw[Er,Es,sg (aAI h)];rw[e];rw[vL k];constructor}
Ds a:=fun b N q _ _ _=>a
a8S:=ed (f0 (gx z E.g))
Dt a:=by rw[a4 a];simp_all
Du a:=by simp[cR,a];simp+arith [*]
a8T:=aj le (bh (d9 lo))
a8U:=an (dv 0 (h1 E)) ih
a8V:=ae (ta e) ⟨a0,q⟩
a8W:=vl r eg (jr v)
a8X:=fun b7 b5 f5=>?_
Dv a:=by rw[cI,El];exact aW a
Dw a:=fun c o e5 e6 c1 i0 e=>a
a8Y:=it F (d-1) g∈I1
a8Z:=lF bc "dict"
a80:=lF nG "dict"
a81:=M6 (ab (kV x.1))
a82:=a2 (eZ (hl))
a83:=a2 (eZ (hn))
a84:=(al b (bO U)).1
a85:=fun a h=>?_
a86:=fun t' h=>?_
a87:=em cn (mV lT)
a88:=fun x c e=>?_
a89:=fun x l e=>?_
gf a b c:=by have:0<a:=by rw[al (mQ 0 b),l q];{have:=Nj (eX c) q;lia}
a8_:=hD T "__len__"
a8':=hD T "__length_hint__"
a9a:=hI "__init__" f
a9b:=h0 "__init__" q
gg a c d:=bD a (fun b1 b5 e0=>dM c r2 d)
a9c:=wu ⟨a1i,Ye⟩
a9d:=by obtain⟨g9,e1⟩:=m
a9e:=by obtain⟨g9,e1⟩:=vP a0
gi a b c:=v (mU a) (fun i H v L=>b) (mU c)
a9f:=(l b o (b∉a8) g_ hb)
a9g:=(l b o (b<aO) g_ hb)
a9h:=G _ _ (afd b4)
a9i:=ec 1 [] (wW akH)
a9j:=ec 13 [] (wW akH)
a9k:=bo (i=0) 1 0
a9l:=bp (aFp nv) num Ht
a9m:=bp (aFp nv) num (nv X4)
Dx a:=Gh i (qE R t) a*BO R t
a9n:=i e*qE R t e*BO R t
n7 c d:=by rw[dy (a+1+b) ((a+b)+1)];simp[c,d]
Dz a:=fun c o e5 e6 c1 e=>a
cw a c d e:=by rw[akT];cases x with|bC=>{rw[a4 R a]}|bl b=>{rw[a4 R c]}|int b=>{rw[sa d]}|str b=>{rw[sa e]}|_=>trivial
cx a c d e:=by cases Z;cases x with|bC=>{rw[a4 R a]}|bl b=>{rw[a4 R c]}|int b=>{rw[sa d]}|str b=>{rw[sa e]}|_=>trivial
cy a b c d:=by rw[hQ];cases y with|bC=>{rw[a4 Z a]}|bl j=>{rw[a4 Z b]}|int j=>{rw[jA c]}|str j=>{rw[jA d]}|_=>trivial
cz a b c d:=by rw[xk];cases y with|bC=>{rw[a4 Z a]}|bl j=>{rw[a4 Z b]}|int j=>{rw[jA c]}|str j=>{rw[jA d]}|_=>trivial
a9o:=t.dummies= #[]
n8 a b:=(aBC (J (h7 a b (aEO z))))
a9p:=eA YB aum._auto_1
a9q:=ed (ah (nomatch q))
a9r:=a1O j (aBD fN)
a9s:={c8 with heap:=aB3 (a2b aGi) mK}
DA a:=Iv (.builtin "list.append") a
DB a:=Dj (cg (aNl e5) (aS a 1))
a9t:=k b7 (L xw b5)
a9u:=aEB (jL (bU z))
a9v:=fun D m=>?_
a9w:=by (intro;lia-abstractProof)
a9x:=(k.1.length+1)
a9y:=fun b z=>cz z (G b)
a9z:=by rw[al (aFB (d.ne Y))]
a9A:=fun b c5 e=>o6 bB
a9B:=(Pe\/tj lN d=i+1)
a9C:=(O_->I)->I
a9D:=by rw[dl (WN a5) (fun c7 Y=>?_)]
a9E:=PT X al0 (vd Yv)
a9F:=xo=ab\/alB=i
a9G:=fun j b8 h=>?_
a9H:=V e pY (y<=c e)
a9I:=aa (aGo,p.2.map aa)
a9J:=oR (cw (j<i))
a9K:=oX (au (.inl Pj))
a9L:=fun b o U e=>?_
a9M:=e7 (dw (Nv x []) (y<n))
a9N:=by induction h with|nil=>{rfl}|cons J t i=>rw[i];rw[hP];rfl
a9O:=z u (b1=[u]) pR
of a b:=fun g0 j1=>z f7 (f7<a) b
a9P:=va X.K H a O
a9Q:=bm dH b2 pts
ok a b:=by rw[P sm a (cy b W (.ins dM W [])) PB]
a9R:=fW X.K H a O
a9S:=by obtain⟨dy,b6⟩:=Xs
a9T:=N7 a7 aGp (h,v)
ol a b:=by rw[a];intro e;rw[b];simp
a9U:=E (cx<p+AX) 6 cx ae
a9V:=(x,c)∈zt mF d B
on a b:=∀l:ba,Mm (hm (p e) a)=b
a9W:=ex lP (j<MG) (ad j)
op b d:=by show da (qI (aDw a.1)) b;rw[Cq c a.1,d]<;>rfl
a9X:=my K C m x st c5
a9Y:=ld (vR x)\/j5 (vR x)
DC a:=wi M H (fun d0 a8=>a)
a9Z:=(h,v)::a4G fA
or a b:=o h' a (pi b) (Q ah tJ)
DF d:=by rw[bn b U (m b _ pN dt d)]
a90:=an (J.drop EH) (alY-EH)
DI a:=f1 (L M H (fun v a8=>CW (A M b7 a)))
a91:=by have:fl []=nk:=bI;rw[this,Gj];rfl
DK a:=fun b o h2 e2 z=>a
a92:=(Nv k []).foldl Ca (J,Nu)
a93:=rj bh TO a b
a94:=hZ eG eH p=ab
DL c:=M (eZ a b) (BG c d6 c3)
DO a:=∀(N:cJ)(c J g:Nat),a
a95:=ap H rx (aOL J) q
DR a:=by have c0:a=0:=by have:=I.adU 0 VN;simp_all
a96:=fun j y t b4 b9 e7=>?_
DS a:=fun au s M H Q I hw=>a
a97:=⟨4,16+aDn⟩
a98:=⟨bI,x cT⟩
DT a:={P with main:={P.main with body:=a}}
a99:=eA (arF b) aun._auto_1
DU a:=zj (ci (e5 ⟨a,k⟩))
a9_:=cw (v a<=b)
a9':=e (a3.trans z)
a_a:=by (try with_reducible refine EJ)
a_b:=aK (W.mpr e5)
a_c:=.yw EO (.lst OW)
a_d:=.yw ER (.tup OW)
a_e:=s.heap.Ns oQ m
a_f:=cw (y.1∈aB5 fN)||cw (y.1∉N)
a_g:=r.Sd c1 (ahm c1)
a_h:=r.pin (b,o) a7M
a_i:=max (eM lS) (eM lW)
a_j:=IsTup.new _ _
a_k:=O.any (e9 (yH y x))
a_l:=Hv (as (#[]:dX))
a_m:=by rw[<-UT ag,<-UT C]
a_n:=by rw[<-K7 h nd,<-ad5 h nd]
a_o:=ah4 (oP 1++He 1)
a_p:=a6y ⟨al,Jd⟩
a_q:=sy _ (yK ai)
a_r:=bN (saveRecord wU)
DV a:=have z:=Ad (lI e).1;a
a_s:=.lst (av e) ?_
a_t:=b_ (o:=cO O o) c0
a_u:=b_ (o:=aGF) u0
os a b:=ajn (k:=a) (ab (pA b x))
a_v:=(Oe dq).toArray.push gn
DW a:=by rcases a with⟨_,q,_⟩|⟨_,_,_,q,_⟩
DY a:=by rcases a with⟨_,_,q⟩|⟨_,_,_,_,q,_⟩
a_w:=Gla.cuts a5L df
a_x:=bmE (agi D B) gW
a_y:=Ea (Ea 0 alZ) aGR
a_z:=lQ (GI c6) b8
a_A:=lQ (GI b3) r2
a_B:=c6.imp (ah (aZY q))
a_C:=e9 e (ff a0)
a_D:=RX (k:=B) d5.l
a_E:=inK (K:=K) rfl
a_F:=aFG (bn [p.x,p.y])
a_G:=B.head?=aa 0
a_H:=NC th z=aa (Gq r g)
a_I:=MU y.1=aa y.2
gl a b c:=by have:a:=qM (ah (wD b));exact iE (bn this c)
a_J:=sd (DS j xu)=ab
a_K:=a6R zM J.asked a=ab
a_L:=l.1.below l.2=ab
a_M:=fun q e0=>?_
a_N:=fun u hu=>?_
a_O:=fun le j3=>?_
a_P:=B (iY mU m) AV
a_Q:=t a2v (a2F I.bk)
a_R:=p (k+j) x=ah
a_S:=NR tZ++[mW[tZ]]
DZ a:=by {intro c o g7 nc;rw[bX (J ai)];exact a}
D0 a:=by rw[zw]at J;rw[hP];exact a
a_T:=fun _ _ _ _ n=>n
a_U:=au ⟨ay,ay⟩
D1 a:=bn (nn (at7 b p a))
a_V:=fj "cell" (.cell ae)
a_W:=ah (L.ne Y zD)
a_X:=ad J (aC CR (g5 e))
a_Y:=ad r (afZ w r a7)
a_Z:=fH (fun c1=>?_) (fun c1=>?_)
a_0:=fH (fun d=>?_) (fun d=>?_)
a_1:=fH (fun e6=>?_) (fun e6=>?_)
a_2:=(dq a==dq b)
a_3:=by rw[bJ (aiv (ss (t pB a0)))]
D2 a:=ef (aCQ i) (bo (! a))
a_4:=cg (t aGg=n)
a_5:=am t (zs.map cq)
a_6:=bj (dd c2) Q
a_7:=by refine fH (fun f=>?_) (fun f=>?_)
a_8:=by refine fH (fun a3=>?_) (fun a3=>?_)
a_9:=aK Z (O x≠[])
D3 a:=ac (sx ES) (sx b8) a
D4 a:=ga (aFz C H L v a tn)
a__:=by rw[cd (we (ac oB oB (pd h)))]
ov a b:=Y a ["neighbours","came_from"] b
a_':=dK (f[i]?==xv)
a'a:=da (g (W.sub _ h))
a'b:=by rw[ca (x (aCW f) W)]
a'c:=by rw[cm (x (ta f) W)]
a'd:=fun(n:Nat)=>cL
a'e:=ee (vD t ((g2 (13+n)).j+o))
a'f:=(OZ).head?.map bp=aa c
a'g:=(OZ).getLast?.map bp=aa c
a'h:=¬gQ (jJ r d3)=gQ xE
a'i:=ft (cr (r a) (r b)<0)
D5 a:=an ["value"] "value" a
a'j:=cg ((aGg).findIdx? fN=ae)
a'k:=ep (l+b) (J+a)
a'l:=ep (b+d+1) (a+c)
a'm:=es (l+b) (J+a)
a'n:=es (b+d+1) (a+c)
a'o:=ds 5 [k,q.x,q.y]
D6 b:=fy (B b (lm (a,o)))
D7 a:=(ax (tw H) (Me (GM.auw C a)))
a'p:=(aa (aeI r l),aa (aeJ r l))
a'q:=dw (ij x) (g4 y)
a'r:=typeOf Ya=eV (.type "method_descriptor")
a's:=L k=aa (aC A (sP xn))
ow a b:=wh a b (fun _ _ z=>MR z)
a't:=eU (F a b) (G a b)
D8 a:=(eE=0->∃n:UInt8,a)
a'u:=fun j x S=>?_
D9 a:=by {rw[YF,l a,l aGQ]}
a'v:=(Jj+v hi)/2
a'w:=aB' d alK sZ cG
a'x:=hB "__setattr__"=aa (aa (.builtin "object.__setattr__"))
D_ a:=bm a p.x*bm q.y p.y
ox a b:=ca (Nl c2) (J (MA p a)) b
a'y:=hf (iY ig bmF) p
a'z:=eL AR j.1.2.1
a'A:=h2 (Yn/\e.2<aJ)
Ea a:=h3 (z o a (∀v,gD≠.cell v))
a'B:=fun _ _ _ e=>e
a'C:=iG EN (c+1) J
a'D:=gr (akr i) (IP row)
Ec a:=z m a (∀c,aBy c m=aa (j c))
oy a b:=lx (∀w∈a5 v,a->Z v<=b)
a'E:=fM "links" X
a'F:=by injection a9 with a9 _
a'G:=by injection d' with c5 _
a'H:=PG X (gV pos) (KH i)
a'I:=(w g-w g')*c e
a'J:=Z (T v) (dM (lO (c5 e))) 0
a'K:=dg (dv 0 (h1 E)) (ih+V1+1)
a'L:=ahY R J i t w
a'M:=iN H (nf r t)
a'N:=oF K p.1 (dp p.1)
a'O:=Ec B (e.1,e.2)
a'P:=E b (b∉B) (par b=ae)
Ed b:=z a (mg x=aa bc) b
Ee a:=by rw[bA];have:=a;exact cg this fy
a'Q:=ff d5 A t h4 E s
a'R:=fun v a8 a4 p=>gL
a'S:=a (.int oV) H rx (r2 (dF+1)) q
Eq a:=ayo h' e it a d ab u
a'T:=.ins C aO []
a'U:=iG N ef (dj hk E)
Ev a:=by cases a with|some e=>{rfl}|none=>rfl
a'V:=ln e.2++[e.1]
EP a:=aJ (by rw[bJ (HS S)];exact Y.Lj a ag)
EQ b:=fun o d0=>f o _ (.inr d0) b
E0 a:=fun M H R=>h8 M H a
E1 a:=by have:=a;rw[bY bmG (qU aT)];exact this
a'W:=by rw[cA,wM (bV hi i0.l)]
a'X:=br i0.l d1 fy
a'Y:=by induction h with|nil=>{exact s}|cons J t i=>rw[cB J i]
a'Z:=fun w hw=>h w (ck hw)
a'0:=tm (WC AU) mU d8
E2 a:=vw (fun i1 j5=>M=a)
a'1:=.Compare a [j,f] [b,c] pos
a'2:=by obtain⟨g4,g8⟩:=aXF e0 g0
a'3:=∀f∈bH J,Yy
a'4:=mX i _ (dd a5)
cA a b c d:=by have a:K a3 b c:=by have:=gB (J z[0]?) d;rw[gh]
a'5:=by have⟨dx,hd⟩:=mX
a'6:=cA de (p.y<=r.h)
a'7:=iZ "min" "min"
a'8:=⟨(ag),fun t c6=>?_⟩
a'9:=pj (a1C cG x u)
a'_:=GN K mg x (kz cq)
oz a b:=aj d (bV (a++gr (akN i) (gH b)))
a'':=pk (F9 e8 [] E0 t)
E3 a:=(f b o (b∉a8) (b≠r) (be (b1.get? b)) a)
baa:=IC _ _ a5I (XQ _ _ aEJ z1)
bab:=Co R K G l Y
Fa a:=i4 (aR H c1) (.bool a)
bac:=Sn (aYt rfl) bI aj4 au3 (ea aq)
oA a d:=CP (e [cD,jQ] tL alT a d)
Fg a:=by refine K1 a (fun J h1 e0=>?_)
oB a b:=∃F,yY (L d=aa a) (h_<=i) b
bae:=∀v,aa (ajm j pI) pI
baf:=cj (ii (sz (all z (ck c9))))
Fk a:=kt b9 (er b o a d0)
Fr a:=i aZ t_ (J x H Q) a
go a b c:=i aZ a (t b M H Q) (di c (fun _ c1=>pq (Q g0 L)))
bag:=lP++[((hL).hash F,dq (ad i))]
FB a:=fun b o e0=>by rw[aJ e a0 e0];exact a
bah:=cf jC (dK (aja b (p+2+8*i)))
bai:=ad x (x<n) nz
baj:=va X.K H p d7
bak:=fun v i3 d6 h6=>?_
bal:=fun j x y=>aa O x/\aa d7 y
bam:=fun i x R S=>?_
ban:=fun m x c4 S=>?_
bao:=a [] H I .nil h
bap:=by rw[i2 s (av (br e5) ag)]
baq:=fW X.K H p d7
bas:=(mO x&&mO y)
bat:=we (t oB AI)
oE a b:=by {refine i5 Z a;rw[fL y y];subst e y;exact b}
bau:=by obtain⟨C,a3⟩:=g 0
FM a:=∃ar:aM,EF/\a/\Jl
FS a:=∃vs:aM,a1 iR/\PD/\a
bav:=fun f W=>eX (a3.2 f W)
baw:=bj (ci (e6 (d8.mp k)))
bax:=by rcases b3 with b3|rfl
FX a:=∃g7∈dU Z,∃g8∈dU Z,a
bay:=et (iT b:j+1<n)
baz:=fn x=aa (ac (dp x))
baA:=by rw[C (aFQ d0 d ?_)]
baB:=by rw[C (aFQ d0 hd Yk)]
baC:=ax sl (gS b) {o with slots:=sl}
baD:=bo (aeM r eN&&dl tT)
baE:=aJ (hw x (by simp[dv]at S⊢;exact .inr bG))
baF:=by rw[v (v o e ex.1) (fun a b9=>?_)]
baG:=wn (MI e (aa (gV E)) MJ cG)
baH:=by rw[aj b5 a76 (dP (b_ a3) a9)]
baI:=bv h.b (j4 b4.n)
baJ:=bv h.t (j4 b9.n)
baK:=by {next h=>rw[l_];simp[h]}
baL:=by rw[ae b4 (i e) (w g-w g')]
baM:=(n,.free)∈d
baN:=(x,.cell)∈d
baO:=a2 ?_ ?_ ?_
FY b:=∀(l:ao)(a:Nat),b
baP:=bp (bh (lN alH)) e.2 (g1 (cf aGr+1))
baQ:=b_ (a6Y Iz aET) Oc a6X
baR:=b_ (a6Z Iz ajT) Oc ajS
baS:=bm (ze O) a Z
FZ a:=M (ev "list" a7u) (aYl a d6)
F0 a:=M (ev "list" a7v) (aYk a d6)
baT:=by have e1:h∉bY:=J (bv (f_ _ z) (gx ew q))
baU:=by have e1:hj∉bY:=J (l6 (f_ _ z) (gx ew q))
baV:=(IH D (gl 0),jR,jZ D.w)
baW:=(IH D (go 0),jR,ht D.h)
baX:=v vs ak (o3 p)
cB a b c d:=by have a:b<=Ae:=by rw[it c,bY sR ck];exact d
baY:=si (J=w/\f1 J c1)
baZ:=si (J=a7F/\Q (nb cm) c1)
oF a d:=bD a7n (fun c b5 e0=>dM a r2 d)
gr a b c:=by cases q:a with|true=>{rw[fH b]}|false=>rw[fH (d1 (by rw[aO c]) _ ej)]
F1 b:=fun c8 O=>bi b b7 O q2
ba0:=x (acW f (aC c9) (aC d1))
ba1:=x (acW e5 (aC c9) (mj d1))
F2 a:=wv (B c o (sm c o e) a)
F3 a:=∀(pins:bw)(s:Shared)(M:St)(H:Hp)(Q:AQ),cw Po a aGW
ba2:=wl (cv (ly w) aGB agO)
oG a b:=Tc r (HQ r a) b ⟨r.w,r.h⟩
ba3:=WU (bo (alS&&dl Jo)) tA gV
ba4:=f6 _ _ f5 j2
ba5:=CB tl ps D j x
ba6:=CB OF Eo D j x
F4 a:=Un (uY oR) ch H L bh a
ba7:=nN (gl D.h) (ht D.h)
ba8:=nN (go D.w) (jZ D.w)
oJ a b:=i 3 ako a (dS bb (dQ (b4 aw7 bb))) b
gt a b c:=i 3 a (bh azt aw b) (dS bb (a7 azV bb)) c
ba9:=a1 a60/\k=(v a60 !=0)
ba_:=a1 a61/\k=(v a61 !=0)
ba':=by rw[e Z L t hM t hM]
bba:=by rw[e Z L t (eB cW) t (eB cW)]
bbb:=fun g0 L u=>kd n Pq
bbc:=fun g0 L u=>kd bx (aS bx i)
oK d e:=∀a b,j I6 OI (a≠0) (b≠0) d e
oL d e:=∀a b,j I6 OI (a≠u) (b≠u) d e
bbd:=(fK a.x p.x+alh*bm a.y p.y)
bbe:=(fK b.x p.x+alh*bm b.y p.y)
bbf:=by rw[mm a7O (items_int hi)]
bbg:=⟨(a9 x m).1.go t,(a9 x m).2⟩
bbh:=by obtain⟨t,a⟩:=avh a
bbi:=by obtain⟨b1,a3⟩:=O.at_
bbj:=by obtain⟨c2,M⟩:=d.at_
bbk:=by obtain⟨e0,g0⟩:=a
F5 a:=(auo (fun i p c2=>a))
bbl:=mW[R.d]::aDc jN
bbm:=show bmH a eU from p
bbn:=j.1.2.2 p c2
bbo:=eW rp eg (bp b)
bbp:=mr iu OC (v,b)
F6 a:=(jV a).reverse.map rv
bbq:=asQ n (fk (h t Ji))
bbr:=aDR (bt (yS mU m))
bbs:=P (IB bt (n-1)) v
F8 a:=x (FX (aC a) (mj b3))
bbt:=by rw[a4 GG];unfold readSteps;rw[Pr]
F9 a:=E H (j a H) (k H)
oM a b:=M (.Constant a j pos) (tC b)
bbu:=a1 (bx+zs.length)
bbv:=ax (ne h2) c9
oO a b:=by {rw[tN,a1 J d5 a];have E:=vX;exact b}
bbw:=fun i v=>z e aGt (v=e.2)
bbx:=by rw[a4 r1 (vW (v a8 r q))]
bby:=ap (a5 t) (c t) y
bbz:=by have e:v R.d+1=ae jN:=by rfl
oP a b:=by {next l=>rw[bJ a];have:=ee _ m;exact b}
bbA:=(fW K H p d7\/nm d7)
bbB:=C2 (ah8 (aCC alI e e))
bbC:=fun v e4 d9 d3=>?_
cF a b c d:=by have a:X≠b:=by have⟨lk,e,_⟩:=c;exact ep d
bbD:=bo (v<0) (gz v cL) (kl a14)
F_ a:=∀(m:Nat)(h:Ln),a
bbE:=bV (f++gH 2 0)
Gb a:=by rw[aK (akN (i+1)) (akN i) n a]
bbF:=¬(bp j).below eI=ab
bbG:=r3 (.seq a2m C)
bbH:=by rw[al (mQ (cr x J) 0),l q];{have:=tc q (eX hw);grind}
Gc a:=d [] ak aY (an a)
bbI:=ab p ?_ ej (aP b U)
bbJ:=(GM.aer Z t).1 e
bbK:=by {intro p c2;simp[LD]at c2;grind}
bbL:=U d4 d (bV e)
Gd c:=l a b (R a b) (R b a) c
bbM:=H2 w h pts aiF tn
Ge a:=PC X .NotIn i o (ayj a w ab A l)
bbN:=by obtain⟨a7,e5,i9⟩:=LE
bbO:=D vc aq nY cv
Gf a:=∀(j:Nat)x y,Ew->K l (j+1) y->a
bbP:=O[c0]?=ae\/d7[f7]?=ae
Gg a:=Oc _ _ e6 (Iz _ _ e5 a)
bbQ:=j h' D (O2) (Q .none nB)
bbR:=by rw[r le (vn EE) (av F) EK a7I]
bbS:=bH e (A (bH jb) e) (hE jb) (kb<0)
Gh d:=∀a b,c (a<n) (P a) (b∈Nv a []) d (P b)
Gk d:=by rw[c dl b (gQ rr) f _ rfl h3 d]
bbT:=by obtain⟨lk,q2,d⟩:=h.k
bbU:=this _ x S jW
bbV:=(a5a a5b).blt (Di hx) (ls.map hx)
Gl a:=aFw r.w r.h a Pw a70
oQ b c:=b->Gb K H O c7->cs bc c
Gm a:=P e (k<=j) W e a
Go a:=fun b c5 q=>o6 (by rw[bX a,q];rfl)
bbW:=by intro b7 d7 b5 b9 f6
bbX:=by intro e4 d7 d9 g5 e2
oR a b:=by have a:((Expr.Name y r).pos.line==b)=ab:=a5
Gp a:=ga "number" "number" a
Gq a:=o L AG (dJ L (ir a)) (se 1)
Gr a:=e [cD,nG] alJ (bh d Pc) (kd n) a
bbY:=C5 (Z.ok.lt e m.1).2
bbZ:=C7 (bv wF (cp Au this))
bb0:=po (by rw[o8 it,cb];obtain⟨o,e,c,d⟩:=st;exact a7R)
Gt c:=∀(a b:Nat)(h:Ln),c
Gw a:=∀(l:I_)(i:Nat)(c:I_),a
bb1:=by intro e4 ns d9 g5 e2
Gx a:=by obtain⟨b6,Z⟩:∃z,z=a:=el
bb2:=by {rw[bj (J (q (ayG z))),W m];simp[q]}
bb3:=by rw[C_ (asZ d5 Y G P)]
oT a b:=fun(n,k)=>if a then(n,b)else(n,k)
oV a b:=c0 ⟨a,p⟩ _ _ ?_ b lT
bb4:=(kz (da (pe m))).foldr (· + ·) 0
bb5:=aES _ _ _ T (fun b d0 o e=>?_)
bb6:=by rw[nW Jf (C3 (W b z).1)]
bb7:=bl O K O ((hL).is bh O (ad j))
bb8:=fun e a x a8 m a4 d0 n=>?_
bb9:=Db (bD a75 (fun d c8 P=>?_))
aS a b c d f:=e a b (ox bS) (ck "row" c) (ci d f) kN (my bE)
bb_:=n2 (aa y) (bE t)
GA a:=opI (fun i j _ _ _ _ _ b0 q=>a)
gy b c e:=a x e7 d X c7 I i b (a rfl c e Z (fun b7 b5 O=>?_))
bb':=by {rw[dD,dD,pA,pA];decide}
bca:=by obtain⟨n,j2⟩:=d1 d3
bcb:=by obtain⟨j8,l9⟩:=U.at_
bcc:=(0::gH 1 fi:aDS)
oW a b:=∀p:Pt,bE ((a).contains p) b
bcd:=iI (MU y)/\(j5 (aB9 y)\/iI (aB9 y))
bcf:=["p","q","r"]
bcg:=[xh,.ref i7,b8]
bch:=clF K (dp p.1) p.2
bci:=oE p.1 p.1 p.2
bck:=by refine k _ _ (m_ xG) (WR a5) ?_
GB a:=.inr (v y (bO b6) a)
bcl:=p z.1 ru z.2.2
bcm:=by injection b4 with b9 e7
bcn:=by injection b9 with g5 i2
bco:=show bmI<gF from hu
bcp:=by rcases c3 with c3|c3
bcq:=by rcases b6 with b6|b6
bcr:=Mod X.K mI sS
bcs:=∀d∈c7,aGx
bct:=by obtain⟨_,o,d0,_⟩:=bmJ U
oX a b:=c0 a (by delta uY;rw[Hk,W];exact b)
bcu:=by obtain⟨x,S,_⟩:=mz p pP
bcv:=by obtain⟨i,hi,_⟩:=a8 m x Z G
bcw:=z.sameBut c0 (f y c e)
bcx:=.Tuple c B T
oY a b:=f7 a _ alN (h.azO (dx:=dx) b)
cG b c d e:=Dd (a:=aO) (o:=b) (h':=c) (t':=dF) d aY e
bcy:=by simp only[aiY,CI]at b9
bcz:=max (v+cL) 0
bcA:=BJ (vn B) (hA e.1 e.2)
bcB:=a62 _ (oT j.1) rfl
bcC:=fun{a}l=>he l b2
bcD:=by rcases mem e with⟨a3,_⟩|⟨a3,_⟩
GC a:=eX (x (se a U b3))
GE a:=low a (by delta iF;lia-abstractProof)
bcE:=N.S0 (NB iW) G H
bcF:=(l.zipIdx k).find? (wp (p x.2 x.1))
GG a:=ahP (i:=v) (j:=e.2) m.2.2 a
bcG:=aR2 Y (ah (c (a5Q q)))
bcH:=aC1 (cr (v0 (hZ pF rq)))
bcI:=by rintro(l|⟨a7,d5⟩)
bcJ:=aSu C q.2.symm q.1.symm
GJ a:=auG W (fun Y i l h=>a) d1
o0 a b:=yY (SB [X] a L) (Dd L) b
bcK:=aWF (bV c7 C.g)
GK a:=d6 (m:=a23 x) n2.2 (o1 a)
bcL:={p with j:=p.j+1,more:=iZ-1}
bcM:=putSet_of D t' hd
bcN:=hG.keys.qy (fun b o U=>kp b o (.inr U))
gz a b c:=d6.extBut _ _ a (R.extBut _ _ b c)
bcO:=afm a71 bP (GU K aq)
bcP:=GM.Cc r (bp t) akV
bcQ:=v z.1 (c6 _ _ ru) z.2.2
bcR:=by obtain⟨k,h9,r,h8⟩:=c;exact again r h8
o1 a b:=by {rw[bD a];delta vK XB;simp[pm b]}
bcS:=j_/\dA/\alX
o2 b c:=by have U:b=t:=by delta iF;rw[a.2];exact c
cH a b c d:=by {have a:b=j:=by{rw[a2e b1 c]at a3;exact c_ a3};exact d}
bcT:=E B (k=aa B) (aiK B)
bcU:=by rw[C (aX3 c9 b1 (fun b3 k sa=>?_))]
bcV:=by rw[C (aYI c9 b1 ?_)]
bcW:=U g6 z [xh,xh]
bcX:=Inv X au (aBo i pI) H c1
gA a b c:=by {rw[q];obtain⟨_,a,_⟩:=b;exact fw c}
bcY:=a1 (t (B++a63 f))
bcZ:=j.cls=rz/\aj<=d
bc0:=Z (sA j) a a72
bc1:=V l g (l.1∈pts/\l.2∈pts)
bc2:=ax (lC hu) (aP u ak)
o3 a b:=an (eT (mv a b e) (wy e))
bc3:=cg ((i.endLine==a.line)=ab)
bc4:=by rw[bC i u (all v fx)]
bc5:=cr (gH 2 l.1++gH 2 l.2)
GM b:=bN (T.G3 b s e c2 a0) a
bc6:=(z x xQ (p i x=ab))/\P x (j<i) l x (p j x=ah)
bc7:=by rw[v cT (fun n k7=>?_)]
bc8:=bl (Iv (.builtin "min") [cD] dfl)
bc9:=(p,w)::aBN vs
bc_:=a0 (iF f e) kG (a2W _ _)
bc':=a0 (oZ f e) ha (a2V _ _)
o4 a b:=o vs a (dE (R H) vs O) b
GN b:=fun a h=>by have:=b;rw[aRh];simp[*]
bda:=X "answers" acM ["calls"]
GR a:=hs (l M H (jI (A M a8 a)))
bdb:=ad t (t<n) (0<=f t)
GS a:=aj ly nK a (dQ nK)
bdc:=bV (wD bx oV) z1
bdd:=as (dd a5) q n
bde:=by rw[aO n d1 (axO k i j)]
bdf:=fY ((mJ MP).push (U9 C aO))
bdg:=dc (e6 b U).clean
bdh:=by {rw[c0,<-a7,UZ];rfl}
GU a:=by rw[dn t' (dx (∃t',v=W8 j t') a)]
bdi:=bm alf ale*z.x
GV a:=by {rw[j0 oa];have:=a;rw[HC (f0 (gx z.g fp))]}
o5 a b:=by have i7:a=b:=by delta tx;exact bA _
bdj:=by rw[bF U J (oH p (y O (zL q)))]
bdk:=aC C (ko f y G)
cO a b c d:=by rw[ak e8 a b (by rw[jD iv,cd Yo];exact⟨c,d⟩)]
bdl:=by rw[cc jg (v e (.inl a0) (su sd))]
bdm:=j a s (Q a s) (h4 a s)
bdn:=by rw[ei (qG Z v (ez d3))]
bdo:=by rw[fH (fin h6 _ ej)]
bdp:=bp (tq vn) e (g1 (cf Ej+1))
GW a:=ow P w H (h.push aGi) mF a
bdq:=br hd.l alG b8
GX a:=da ((a).isNs CN) ((U0 []:fv Vf).size==0)
bdr:=fg (k _ _ xG a5 ?_)
bds:=lc (be E F G)
GY a:=by rw[fK ((hL).pyHash r1 a fO)]
GZ a:=gW (cz (show p∈a from c2) jK)
bdt:=by intro au s M H x v Q I R h
G0 a:=by have b4:[e].filter a7V=a:=by simp[f5]
o6 a b:=X a b ["call","numbers","row"]
bdu:=fun b u q _=>⟨u,Ye⟩
bdv:=by delta H6;rw[h];simp only[aup F,a0]
G1 a:=fun b o e5 e6 q=>a
bdw:=∀j,xm≠.dummy
bdx:=∀b6,Gla.take gb alU≠.ok b6
bdy:=by have W:=L (dk s) (GI (o:=cO O o) c6)
bdz:=b3 "call" "numbers" "row"
G2 c:=∃i L,N (Inv Js [] (ahs M aln) L c1) (l i mG) Yu c
bdA:=(NO<=100000/\∃B:ek,eD<9000/\aK pts nz)
G3 b:=fw cn (m t O o b)
G4 b:=i J _ dx _ hd gJ b
G5 b:=i x _ dx _ S gI b
o7 a b:=dI a (hZ pF rq)||dI b (Lr r l)
bdB:=rj cO w bh q b
bdC:=by rw[(c_ a),(c_ b)]at e
bdD:=by obtain⟨_,_,_,_,o,_,_,e,_⟩:=x;exact hg
G7 a:=dE (zg u gk H) vs a
G9 a:=PG X (.Tuple a7 k pos) (aqV a n t)
bdE:=by delta Gla.STEPS;simp at c1;lia
bdF:=lB ((AL).1 (a12 d3).1)
Ha a:=fun b o _ U _ e n=>a
bdG:=∀i x M H,nq->akY->be x M H aGs
bdH:=nH (j (i+1) (U e4 D (eN B))) (j (i+1) d4)
bdI:=dq iw::(b1++c7)
bdJ:=k b u (U b n) q
bdK:=by rw[PH];exact⟨u,bj e (vL k)⟩
bdL:=m6 (o z u hu)
Hb a:=by rw[c_ (zH l a) h (cz this (mx _))]
Hf a:=l1 (E p (Y p) (Q fP a))
bdM:=by {rw[Er,Es];rw[vL h];rw[sg (aAN k)];rw[e];constructor}
bdN:=o4 (be I d0 K)
bdO:=aku n++gU t::Ot n
Hi b:=by rw[Hk,aC0,b];rw[ls (p a)]
gB a b c:=(bi (bp a).y z.y&&(bU z.y (bp b).y&&c))
bdP:=fun b o U z=>x b o (e9 (U (ar y))) z
gC a b c:=dst lU a=ct b (lL [0,0]) (aa (pg c),[0,1])
bdQ:=np (z O YC (h.DictOfH (Va tM) a O))
bdR:=o_ (k it bK _ st)
bdS:=eA (l+b=J+a) akM
bdT:=M6 (jx (kV d.1,d.2))
bdU:=d ae ae ae rfl
o8 a b:=by rw[El];cases(a0 T a A);exact⟨b,fun _ e=>nomatch e⟩
bdV:=j b c5 (fs (.Kw c5)) (ax a (L b) (.Kw (c5++a)))
bdW:=bm q.y z.y*bm z.x p.x
o9 d f:=∀a b O d7,e [bc,cW] Yx (fW K a8 b d7) d f
o_ c d:=b _ _ rfl rfl c _ rfl d
Hk a:=IC _ _ e6 (XQ _ _ c1 (ID _ _ e5 a))
bdX:=∀v,ap ak7 o rD
bdY:=(AJ).push (l5 "list_iterator" #[Yj,hG 0])
pa a b:=av ak (et O a (aza n (lH (e7 t b))))
bdZ:=by have g7:X_=a7x:=afz c5 gj e.2
bd0:=by rw[aS b (cf 256^4) (2^32)]
bd1:=bn [gV E] e pos (adg b8 (KH i))
Hl c:=∃a b:Int,∀z,c=a*z.y+b*z.x
bd2:=by obtain⟨w,n,W⟩:=ahf a9
bd3:=by obtain⟨n,d1,a7⟩:=axO k (g2 13).i e
bd4:=oE "__init__" p.2.1 p.2.2
bd5:=oE p.2.1 (aS p) p.2.2.2
gD b c d:=∀a,i (x=bc) (∃O,b) (R c a8) d
Hm a:=by obtain⟨vs,a3,a9,e2⟩:=a
Ho a:=by obtain⟨vs,d2,q2,q3⟩:=a
bd6:=et (cx hi a:i+1<n)
bd7:=Od N d5 (f7+1)
bd8:=Od c2 a7 (c0+1)
bd9:=(tr cB i f).2
Hp a:=by refine Lj Z al (HS a).1 ?_;simp[*]
bd_:=by {rw[c_ b8 b8];exact el}
Hq b:=by rw[j ?_ NQ b Y.LB (v aiO Y.st akv)]
gE b c d:=by rw[w vs rfl d0 g b];obtain⟨a9,c0⟩:=c;exact d
pb a b:=by {rw[ed a];rw[ajF,cP];rw[aj (ed (J b))];exact bF (mX (cj xA))}
gF a c d:=f x dx a c (dx≠x) (e8 (kQ::(vs++b)) d (fun v b7=>v= .bC/\Q kQ b7) E)
bd':=bk ls (gP x.1/\gP x.2)
bea:=fun(p q:Pt)=>xP
beb:=fun c v _ q=>k c v q
bec:=by rw[Q rfl dp _ (au (jq.t (k:=ud) c3 U))]
Hr a:=∃i j,x=hS/\y=I3/\a
bed:=by have s:=ez (as gC) fZ (jo fZ)
Hs a:=by have b4:i3 h.1 h.2=a:=by rw[ui];rw[d2,q2];grind-abstractProof
cR a b c d:=by have a:b:=fun p c2=>⟨hx (aCU p c2) c,hx (Y.BV p c2) d⟩
bee:=XQ _ _ D.TOi1 (ID _ _ aEV n)
gG b c d:=a Ve agZ zl aii b CP Hl MC c es d
bef:=fun v b7 b5 p=>iU e_
beg:=ww (by rw[cb,a4 cr];grind)
cS c d e f:=b T.TY agv (dr c) ls d rfl rfl (aJ e f)
beh:=wl (cv (ly w) (wN w) aGG)
Ht a:=C M H (fun o a8=>ti M a8 (fun i b7=>a))
Hu a:=ci "data" "told" "data" a
Hw a:=by rw[S g b4 aGV g (km a b4)]
Hx a:=by rw[S sl b4 a77 sl (km a b4)]
bei:=gb a7u (g6 (e1 (jS "enumerate" [e])) [])
bej:=gb a7v (g6 (e1 (jS "zip" XU)) [])
bek:=b_ (b_ (a6Y ID aET) XQ a6X) IC a5G
bel:=b_ (b_ (a6Z ID ajT) XQ ajS) IC D.l2TO
bem:=by rw[fh b (J.2*J.2) J.2]
ben:=⟨cg ew fp,cV fp⟩
beo:=by exact fw (show bA a _ from x)
Hy b:=∀(cs:bL Codec)(a:aDD cs),b
bep:=by obtain⟨I,m2,m3⟩:=(XF dm f9 (v ns g5 e2))
ber:=by have q:qI d=ab/\sG c7=ab:=Ad p
bes:=fun n k c=>rfl
bet:=[vn z.y,vn z.x,vn num]
HB a:=∃f:ba,a=ajZ O/\aK f (x∈Z)
gH a b c:=∀F,i (bh d uc) (h_<=a) (b) c
beu:=by simp only[hD,fK,aCz]at S
bev:=au4 K mg "NUMBERS" au7
bew:=by obtain⟨_,_,_,q⟩:=c0;exact MR q
HD a:=by have:=a;rw[am (Mr (VZ h))];exact this
HE a:=by rw[cO I.eq];rw[a78,a]at q;exact q
bex:=j j x (f j=aa x) (x.1=j)
bey:=fun z a8 a4 a3=>?_
bez:=ac (alO++[f5]) t
pc a b:=by rw[xk];obtain⟨b6,d3⟩:a:=e;rw[tN];exact b
beA:=by have⟨b1,q2,_⟩:=h.s
HG a:=ac (dy (J+2) (1+(J+1))) LX a
HL a:=aiC++(le 4 r.w++(le 4 r.h++a))
beB:=db (f5.bs b o e).1
beC:=by rw[y le a7 (av (iW e5)) ?_]
beD:=et B (bH B (dz a<dz b->OI->Pu))
beE:=hD (an (a1' rF) (Jr-rF))
cV a b c d:=by have a:b:=by rw[c];rw[cZ (ip i d),l z,az]
beF:=ap i hi (sx hi) e
beG:=F_ (aOO rfl) bI T.max aTl aGw
HM a:=by have H:=x a (show y∈ij i by rw[J d1 Ag])
HN b:=∀(i:Nat)(a:Addr),ED->b
beH:=mv g Z e=aa (g7,g8)
beI:=o x (cs x) (x.1=v) (o y (cs y) (y.1=0) (hR x y))
beJ:=by rw[bo (lk (eB cW)) B U Z]
HO c:=by cases q:c with|nil=>{rw[Yr]}|cons a b=>rw[q]at d1;simp only[pe]at d1;grind-abstractProof
beK:=eK (cd l6 l5) (tv (hG d7 l6) rv)
beL:=by have a0:A gW gW[i]:=pP
beM:=by {rw[ps s];exact as (dz a7 ag) (br e5) pM}
beN:=bF t_ n_ (J x O H Q) (Iv Ya (v::b1))
pd c d:=b hd dU jH jt G rfl (ce c) d
HP a:=wz (cy (b9 _ _ (c5 _ _ (g _ _ a))))
beO:=by rw[c p O i z rfl e0 a0 q h]
HQ a:=jn bb rl T.GV.h (sH azh) a6 T.GV.b .nil fu (ea a)
beP:=by rw[wQ (ap c5 (br a3) rg aY)]
HT b:=∃(a:Addr)(vs:aM),i1 b al1
beQ:=W_ (a:=(dq it,[])) bI (bF (bmK c a (bF (a42 d0 hd (L0 x.ti) ?_))))
pe a b:=v (mj bI g4) (Dx _ _ bI ?_ a) b
HU a:=fun b u q n _=>Y a n
beR:=by {rw[dl pW aGL,fZ nZ,J dD (ax cn lT)]}
beS:=by rw[m g6 u o h5 h1 c0]
beT:=fun h' D k=>a _ H (MK k) ?_ q
gI d e f:=by rw[Q b d U e c0,cc (lE U),sF (u dh rfl b _ (b c dh rfl b _ _ rfl f))]
gJ a b c:=aeY sD a0r a (ee (aa b)) f c ?_ ?_
beU:=by rw[y J dx hd gJ (n1 dx hd)]
HV a:=by obtain⟨E,N,C⟩:=asL Y J _ aY a d3
beV:=gb q (c_ h) (j h)
beW:=u II L8 B (vn a[n]) (v (av d8) Pd (k _ rfl))
pf c e:=by rw[ez c (b hd dU Ib y_ a dx _ (j hd dU Ia GY a _ (nV hd e)))]
HX g:=De (a x H (a7D) m g f (dc (Ep).1))
beX:=n3 rz (gD=jy ar/\a1 MG/\iP O MF)
beY:=bZ (U3×cf×cf)
pg a b:=(ac eT (show a=b+1 by grind) k6)
gO a b c:=(l7 (jq.t (k:=L6 a) c7 b) (numOf _ c))
beZ:=(ab,ab,aa (aa (a5j "object.__setattr__")),p.2.map a7A)
be0:=by obtain⟨h,i,P⟩:=a0
be1:=eA (lastMarks [j,f] [b,c]=ah) auh._auto_1
be2:=p z.1 ru (aS z) z.2.2.2
HY a:=∃(k:Nat)(l6:jO),a
HZ a:=by obtain⟨W,⟨c9,b2⟩,turn⟩:=a
be3:=by rcases I.ok.stk with e|⟨e,W⟩
be4:=∀z∈Z++d,z≠y->Dq (r x) (r y) (r z)=ab
be5:=ez (x.above y c (oT h))
be6:=-bm alf ale*z.x
be7:=by obtain⟨j,Y,J,_,_,_⟩:=arf es e
be8:=q y (ac Lm (aK S) b6)
be9:=a15 lo hi 1 cL
be_:=by simp only[a3s,bmL,qS,M3]
gP c d e:=asp (a:=a) (b:=b) a3 a9 (y:=c) d e
be':=by simp only[bH,da,pe]at c2⊢
H0 a:=aRr iW N.frame T h a
bfa:=ahP (i:=e.1) (j:=v) (ig Au) d3
bfb:=aSa F (a3G sy++(aC1 Gy++a3F yT))
cZ a b c d:=atR (aeq Y a) b a3 c (j6 ai) (j6 (aeL.mp d i hi))
H1 a:=bmM (id':=a) ng rfl cC ng
bfc:=aXu w r e1 a7
H2 a:=(hL).keeps a d0 hd c0
bfd:=kp b u Ym (c3 b u z)
bfe:=bmN (name:=Hc "__bool__") Z bmO ?_
bff:=wq (name:=a7z) Z bmP ?_
bfg:=GM.B_ a5 B par lo
bfh:=Co.mono dm R (v I (av m2) m3)
bfi:=by obtain⟨f,⟨F,q,_,_,_⟩,_⟩:=f7
ph c d:=bmQ c (fun a b h z=>h (iQ z)) d
bfj:=XD D lU (aa M) e
H3 a:=by simp only[a3c,fh,da,zw];exact a
bfk:=by rw[l (aso nd (bo (by rw[(al b m).1]at U;cases U)))]
pi a b:=d a7C a b (fun p g a9 po a0=>?_)
H4 a:=by {rw[cG o d0 a];exact v o (bU d0) J}
pj a b:=by {have:0<a:=by{rw[k6 (bmR h),l (a28 g g),l (hH g g)]};exact b}
bfl:=J (e (Gd aFS U Jd))
H6 a:=by rw[C (fg i _ (fun c o e5 e6 c1 q=>a))]
H7 a:=by rw[C (aXy x c0 (fun e d a0 g0=>?_) a)]
pk b c:=by rw[j 0 p.j ag (fun f7 x q=>b) c]
bfm:=p.1=q.1/\iQ q.2.1 (p.1.map kV)/\gR p.2 q.2.2
bfn:=m (.ref Vy) b7 d0 (q _ _ N)
bfo:=ab (cw (iR x=x/\x≠0))
H9 a:=by rw[w b4 nd (ar i0) (fun i b U=>d [] ?_ a (al b (bO U)).2.2)]
bfp:=by rw[al (I.1.sound j b8 h)]
bfq:=bN (bN (aFi d9) f9) R
bfr:=by have u4:num<a56:=by rw[J p0 (bx t9)]
pl a b:=o v (e.1<v) (v<e.2) (a≠b)
bfs:=by have⟨h,i,P⟩:=a0
bft:=bv (ar4 F k v) pT
bfu:=by obtain⟨ar,rv,e9,z1⟩:=CU b2
bfv:=I x (a1 v x) nz (Z v=ny\/gA (a5 x) (dz w=Z v))
bfw:=z i gY (eI=p)
bfx:=z h dG (alF=x)
H_ a:=ec 3 [il,ik,jz,kD] a
pm a b:=fun v b7 b5 b8=>sc (em a (mV b))
bfy:=bm z.y p.y*bm z.x q.x
pn a b:=by rw[cc (aC5 l (sub l a5)) (v a (d b l a5 (ar H5)) CX)]
aV a b c e f:=F c4 a (v vs (dU d2 b) c) (v b1 (dU q2 e) f) akh
Ia a:=(bX (ac [vn l] n1) a7U (ac [vn J] u)) _ _ a
bfz:=aK "steps" ls (aK "cartoons" g [])
gQ d e f:=by rw[n a7 d5 d e ⟨f,fun l3 u=>?_⟩]
Ib a:=bA i1 (Y i1) (dC eS L i1 a) (.ref i1)
bfA:=lc (aa E F G H)
bfB:=by rw[fJ (aya w r e1 a7)]
bfC:=lx F8 (lx yA (mW aq) (mW bS)) (lx yA (mW aw) (mW aq))
bfD:=v b (t (bj ne) h2) (J _ _ (n0 _ _ e2))
gR c d f:=by rw[nl e0];refine c;rw[Q (.ref fY) d (r.laid (t':=ahC) (sv xp) aY f) (q _ (ahm aY))]
bfE:=gA×gA×gA×ax
bfF:=dy (k+(j+1)) (k+1+j)
bfG:=by rw[aK (Xy (k+1)) (Xy k) (z,num) o8]
bfH:=w g*c e-w g'*c e
po a b:=by have:0<a*cS b:=x (se id.n f6 e9)
Ic a:=bW 3 a (c9 (hK bP aq) (eb aw) (sC rB))
gS a b c:=by have a:b=j:=by rw[a2d alD c]at a3;rw[Hu,<-a5];exact c_ a3
bfI:=ct n R.d (v n 1 ug bmS)
bfJ:=by obtain⟨os,a,e,b⟩:=id c0
Id b:=Iu d ((YA).update a (N_ Yt d8)) b
bfK:=by rw[aO m9 e.1 df (ju C.1 C.2)]
pp a b:=fZ a (v2 (∃i j,O=[hS,I3]/\m3 (if b then j else i)))
If a:=jn bS gI a6U (eE ay2) a6 a6T .nil fu (ea a)
Ig a:=Y ["data","place"] ["data","place"] a
c1 c d e f:=b _ _ rfl rfl c _ d (ax rfl e (LU f) ?_)
bfL:=bk i x (fi ls->(i<n↔NX x.1 x.2 z<0))
Ih a:=∀(pins:bw)(s:Shared)(M:St)(H:Hp)(D:Ends),cw (t D M H) a (SP X au D)
bfM:=by rw[e4 a64 F.ax9 (qQ F.ax9 a64 F.aXo ?_ (F.aXq _))]
bfN:=o4 (aa I d0 K Z)
bfO:=by have:min i cx<=3:=alQ
bfP:=∀(p:Nat)e b,Yg->e.2=cW->¬aGc
bfQ:=by refine f t (hA e.1 e.2) (.inr (cy ak)) (ah rfl ?_)
bfR:=bC (b+d) y (a+c) x
bfS:=bC (b+d+y) w OS z
bfT:=bD (b+d) y (a+c) x
bfU:=bD (b+d+y) w OS z
bfV:=er _ _ (nT a l) z
bfW:=by rw[e4 Z a65 (qQ a65 Z bmU ?_ (bmT _))]
Ii a:=∃O b,v=a/\zW bh O b
bfX:=by obtain⟨j,c,h,a⟩:=id L
Ik a:=by rw[fz];refine Of (F3 I d8 c4 d3 a d1 l)
bfY:=by rw[l (L ((aCH x S t Dx).keep r) g)]
pr a b:=by rw[C (ajW (aEh a s _ _ b z (fun v h' D C T Y=>?_)))]
bfZ:=by have f5:alE=vl r z jb++Cc r z jb:=by delta vl Cc;rw[zG]
c2 d f g i:=by have d:df f (t<e.2):=fun e h=>by rw[ak b c g];rcases qT c with c|c;rw[l c];{have:=wz e a;have:=i;simp_all}
bf0:=ep (b+d+y+1) OS
bf1:=ep (b+d+y+w+1) als
bf2:=es (b+d+y+1) OS
bf3:=es (b+d+y+w+1) als
bf4:=a.1*b.2-a.2*b.1
ps a b:=jx (so (kz a)) (so (aDu b))=ar l m
Il d:=b rfl c dh rfl b _ _ d
c5 a c d e:=by have a:bH Y c:=fun b U z=>by rw[wx (aFn U)];obtain⟨g,_,⟨vs,q,_⟩,_⟩:=d;rw[b2 e q,kJ]
bf5:=by have g5:=VI (b6 e bK) (hw g bK)
bf6:=(bmV t a d pos).pos.line
bf7:=a66 (bE (f6 l.1) (f6 l.2) (f6 l.1) (f6 l.2))
bf8:=a66 (bE (hf OR l.1) (hf OR l.2) (hf OR l.1) (hf OR l.2))
bf9:=v c o e5 e6 q
bf_:=a c m d2 q2 q3
bf':=by unfold run;rw[a6_,a69,a68,a67];kernel_rfl
In c:=by {rw[cb];have:a=b:=c_ (bmW U);rw[gp];exact d ns (MB (bx f5)) c c6}
gT c d e:=by have c:J.y=d->p.y<q.y->cF:=fun a b=>e
bga:=bk F (G5 H x.2.1 x.1/\RB x.2.2)
c6 a b c d:=(ah (aj vb (dP aq) a (is T.aVH)) (bW 2 b (km c)) (bo (dS xI (a7 azV xI)) d))
c9 d e f g:=by rw[n e5 e6 d e ⟨br f g fy,fun c1 j5=>?_⟩]
pt c d:=by rw[Q gn _ (Dd (t':=dF) (o:=c) a7N aY d) (q _ pX)]
c_ a b c d:=by have e6:a<=b:=by rw[k6 (mQ c d)];{have:=bmX g k3;omega};rw[l g]
bgb:=by rw[fe l1 c1 (iX j7 (fun le g6 f9 j3 LE=>?_))]
bgc:=l8 "min.loop" ⟨ed I .none r,dfl⟩
bgd:=b0 au c8 M d4 _ O q3
pu a b:=by have d2:t a=8*b:=ajn (ab (b0 rd ck pA pA)) _
Ip a:=by {exfalso;have k:kG=a:=by{delta iF;grind-abstractProof};rw[k]at g7 ov;grind-abstractProof}
pv a b:=by {exfalso;have k:ha=a:=by{rw[Jh];exact b};rw[k]at a5 ov;grind-abstractProof}
bge:=eA (l+(b+d)=J+(a+c)) akM
bgf:=eA (l+(b+d+y)=J+(a+c+x)) akM
bgg:=afl y j c7 _ g p a9
bgh:=by simp only[iG,dj]at c;rw[c.1]
bgi:=["points","row","first","last","joined"]
bgj:=by obtain⟨v,o,d0,hd⟩:=aGz
bgk:=by obtain⟨e5,e6,c1,i0⟩:=d1 c b0
Iq a:=∀(Z d5:Row)(g:Nat),a
bgl:=by rintro⟨c,b0,d2,q2,q3⟩
aW a b c d e:=by {rw[Ja];have:¬a<b:=f0 (yv z c d);simp[this,rv,e]}
Ir a:=d (nf J) CW a (fun o k6=>?_)
bgm:=aC bJ (vz C c ls X u)
bgn:=fun t l q u x=>?_
bgo:=cg (ag_ o c cG (e1 o)=e1 o)
bgp:=by rw[ab b9 (m8 (bH ((e,g')::J))) (i e*c e+m8 (bH J))]
bgq:=dc (d (cB Ep) (aV Ep) (bY Ep) (jt Ep))
pw a c:=fun v l=>a2 (e1 b) (fun u g=>a2 a c oS g) oS l
Is a:=by {rw[bJ a];have:=HD e m.1 m.2;simp[*]}
bgr:=by {rw[a7 x S a0];have:=a3x S;rw[gh]}
It a:=by {rw[iL x S];exact v x S a}
px a b:=∀{l:ba}{m:nO},f2 F->dE F a b
bgs:=∀x:Str,a7k->D x=vV x
Iu a:=by have⟨Y,n,n1,N⟩:=GM.auF a
bgt:=by rw[l h1 g6 g6 u o Y]
bgu:=Got cO w h' aO K a7 N
bgv:=by replace z1:agb g7 z TI TO .ellipsis fl:=z1
bgw:=ar_ a34 c0 (bD YG (fun u a4⟨x,a8,r,R,d2⟩=>a7Q))
da a b c d:=∀(p s:Nat)e,a->b->Ux c k d e.1 s
py a b:=v N [] (s_ eM a b) (ee (x<ef) (eM x) x)
Iv a:=f_ z (.type "zip") (.fields #[a,Jb,.bool ah,.ref TI,.ref TO])
bgx:=by have d8:eD<=n:=by rw[dk Xh (eL n) (aJ (a1j (lt x S))),gh]
Ix b:=by rw[K _ (Uo (bl axl (cy ak))) (Uo (ns:=b) d0) (aJ tY tY)]
bgy:=l9 O (fun J c1 h'=>by obtain⟨rfl,e0⟩:=h';exact cj (R▸e0))
w a b c d e f:=RO aAW (aAV a ((b).nsMap CN "__annotations__")) (aAT (aAU aFT) c w) d e (topStub f)
bgz:=Da (aa (cs (B (dC aJ a7L) bp) (B (iX ak6) (mF Em)) (a3N j)))
pz c d:=by rw[b x _ W _ rfl c gI d (au (aZw _ _ _ _))]
Iy a:=by have h:=a;delta aDL;rw[ajf,h.1,ajd,nc h.2];rfl
bgA:=let⟨q,_,_,e0,_⟩:=p;alL
bgB:=by rw[di,pH,di,pH,di,pH,di,cP]
pB b c:=gd D n (A [bc,ji] Al (ko b) c)
db b c f g:=Df (F c2 b (d.p.sb dm s h7 c) (d.l.sb iK s h7 f) (d.m.sb js s h7 g))
bgC:=Dg (d0 au b5 M b7 x y v u Q Y R Z q)
bgD:=ag_ e f cG tH=tH
bgE:=(share (s:=a4) g7 g8 a5)
pC a b:=(j l b7 (UG a8 b7 l a b) (Q cD b7))
pD d e:=fun⟨a,b,c⟩=>v d e c
bgF:=topFrom aFT p w N (a (i ht) (U0 []) d k os)
bgG:=by rw[HH,(aGN).1,LX,l.1,a7]
Iz a:=∃a7,IsEnum h e it a a7
bgH:=cp (aPt O lo hi) c9
p0 a d:=∀p O i v,b x fP (y=hS) a (sB i) (AO->d)
bgI:=p z.1 ru (aS z) Ek (a2 z)
IA b:=∃(O:af)(x:V),jj/\b
bgJ:=Inv (Vl E) au M H s
bgK:=PIE X au M c7 R
bgL:=a5 i M H hi p
bgM:=by simp only[n1,n2,u,y,f]
p1 a b:=by obtain⟨a,z1,h6,rfl,c9,_⟩:=id b
bgN:=by obtain⟨⟨a7,a0⟩,L,R⟩:=st
IB a:=∀(N:cJ)(c J:Nat),a
p2 a b:=by rw[ph ag,a,hs (fA+(u+1)-fA) (u+1)]at b
bgO:=by rintro M L⟨rfl,v,rfl⟩
bgP:=aQR Y J F hw c6
bgQ:=aR4 N Y d (g x S) k5
bgR:=Tz X.K mI x st c5
bgS:=LR xD XW Ap I7 Pm
bgT:=arb ly ly bE (di cK) bP
bgU:=aD3 t DQ h r p
bgV:=Xc (bF (aFP c9 rfl (x:= .ref TO) rfl (bF (DW c9 pZ (fun g7 z1 a4=>?_)))))
bgW:=IsZip h z TI TO .none
bgX:=a al2 sT zm dF CO
bgY:=fn c=aa (ac (dp c))/\ClP K (dp c)/\∀f∈l,b8 (dp c) f
IC a:=by rw[xx,d4 rfl h];cases Z;refine a;cases x<;>first|(rw[hQ];rfl)|(rw[xk];rfl)
bgZ:=by {obtain⟨_,_,_,_,o,_,_,e,ex,_⟩:=es p _ c3;exact v o e ex}
bg0:=Aq*g h+Ar*g h
bg1:=by obtain⟨a3,b4⟩:=Xk a;rw[eE a9 (Xk b)];exact x (bmY hN) (a3K a3L)
bg2:=by have e8:am (Nx z b) z 0=b:=aYW (bV a0 u.g)
bg3:=l v L (cZ G L) (aj d (bV (B++a63 f))) (mH ak7 L)
ID c:=i fY [fY] _ a8 (sr Pn) c (v Px ua q)
bg4:=by rw[w (Y a54 a6') aFS (t M4 ajw) (fun j b U=>?_)]
bg5:=(bi (-v 2^63) z&&cw (z<2^63))
p3 a b:=f i j (x=hS) (y=I3) (m3 a) b
x a b c d e f:=by have k1:bo (a>b) c d=e:=by rw[wa f];{rw[aK (U6 k),HF (ez k)]};{rw[bj (bmZ (aA8 k)),VJ k]}
p4 a e:=j (bm0 a) (afY bh a4Z) (aO<=p) (gS p=aa (a6M "list" d c)) (O2) e
IE a:=by show ff _ kB (a>>=_) _ _ _
bg6:=E h9 dy (.own y) y aGJ
bg7:=fun(m:Nat)=>O[(xy+v m*1).toNat]?
IG a:=by have:=VI (by rw[k6 (qT hi),l (eX (Dm g a))];simp[*]) (eX s);grind-abstractProof
bg8:=by have g9:Oe nk=Vt n 0:=by rw[<-i0];exact afJ Y
t a b c e f g h:=by rw[ei (aRI (d:=Wm) (n:=aJ) (i:=a) (first:=b) (P:=P) c (ar Dy) (fun x y b6=>e) f g h)]
bg9:=by delta eW cr dir dx dy;grind-abstractProof
IH a:=by {have:=a;simp[ig]at this q;exact ca (FY this q) (ci (iH k)) (ci (iH k.2))}
bg_:=aR L {s with heap:=h',gens:=g',drawn:=d',toks:=t'}
p5 a b:=by {rw[aK a]at G;rw[ed b];exact⟨eu,fk (G _ _ (xf cn) lT)⟩}
II a:=by rw[d9 j i,l (cz a h),l g]
p6 a b:=by delta Xa;rw[bm1 (id:=a) (n:=(b).toList) (o:="rotareti_tes".toList) ng aXp];kernel_rfl
IJ a:=by have h2:l=rr:=by delta aFu at a5;rw[cA,a0]at a5;exact a
bg':=by rw[Q v vs e7 f5 (aUV x)]
a1 a b c d e:=cv (bm2 aFT a w b) (bh,sT,zm,dF) (c,U0 [],d,e)
bha:=match k with|none=>o9 (Gv r)|some B=>if Wq=bY/\ps=de then ae else o9 (Tp B r)
bhb:=by rw[R d3 (bp k) p (sx c3) e]
bhc:=by rw[R i0 eO df len rg]
IK a:=Y ["drawing","before","fault"] ["drawing","before"] a
IL b:=M (eZ e (.Slice lo hi ae f6)) (tSl b b8 h8 a)
IM a:=by rw[Z c3 e2 a4 c5 (ax6 Y (i:=p) a)]
gU a b c:=by rw[aGy];delta NT;rw[d7 h a];{rw[aK h,b];rfl};{rw[bj h,(c).1];rfl}
p7 b c:=by rw[e b il ik jz kD rfl (dL YD 2 6) c]
IN a:=aP m x (m<a->i0 kL x->z i (zT x=Yl) (l e b (A a7 e) (e.2=cW) (¬aGc)))
IO a:=v (fun i _=>i<n) (fun i H x L=>L=H/\x=a) a7E
IQ a:=by {rw[a];simp only[Gs U,hF];rw[iS j,a_];{simp[q]}}
IR a:=L (ac (cq (jG a) 0 2) nd) r2
p8 a d:=∀b o,j X7 a Jf g_ gs d
qw a b:=a1 a 11 (a7a r i) (a1 b 12 (a7a r i) (E (fM<Nq) 13 r.size ae))
bhd:=er _ _ h2 (kp b o h2 e2 z)
bhe:=by rw[n d3 j u rfl y u rfl]
gV a b c:=∀(d:WData)(v:Value),i a (qI d=ab) b c
gW a b c:=∀(c7:pV)(vs:aM),i a (sG c7=ab) b c
IS a:=fun i s Q E st g=>a
bhf:=by obtain⟨z,D,z1,h6⟩:=I.zero (by obtain⟨e,a0,_⟩:=b1;have:=jg;exact cp tF fp) b1
bhg:=by rw[l (L (aBW _ _ (fun h:r=b=>g ag)) e)]
bhh:=by have g7:cq kI 0 4=bV xl:=afA b 0 4
bhi:=bH B (b≠0->I a (dM b a) I6 (OI/\dz a<dz b))
bhj:=by rw[dl a5 (fun e5 a3=>ce e5 _ (.inl ⟨av ak,fun e6 a9=>?_⟩))]
bhk:=by have d5:t tR=R.d:=by rw[eT];have:=wR;exact kR
bhl:=av (k<aJ) (cs a7T (a3O (mF ((v l.1 k p pF),(v l.2 k p rq)))) dS) ae
Kd b:=∃(ar:aM)(o:Obj)(n:Nat),EF/\pS/\we=b/\gD=jy eU
Ks c:=sE (∃a b ns d8,x=bc/\y=cW/\mN xO/\a7K/\dy c)
Kt a:=by rw[xk];cases y with|iE j=>{rw[jA a]}|_=>trivial
bhm:=∀b o u,fs alk->hI alk
bhn:=by rintro i m H⟨rfl,hi,p⟩
bho:=T.BZ a v b bo l w
bhp:=T.BZ b bo a v l (Wa _ _ w)
bhq:=by unfold run lk;rw[a6_,a69,a68,a67,bm3];kernel_rfl
bhr:=c=2\/c=4\/c=8\/c=12
Ku a:=aJ (hw x (by have:=HB x S;have:=J.oC (t:=a) (t':=R.n) dW aY;exact pT))
bhs:=fun v d4 c8 m=>fw c8 m
Kw a:=BF X Ak (v2 (∃p d7,O=[fP]/\a/\E l xj (Q cD (ap l d7))))
qx a b:=BF X rz (v2 (∃p d7,O=[fP]/\((a/\E l xj (Q cD (ad l alx)))\/(b/\Q fP H))))
bht:=by have h6:∀n,t (bV (gH 2 n))=2:=ee bI
bhu:=by rw[aa c5 (oK B) ma c5 (B+1)]
Kx a:=by {refine .inr a;rw[z]at b1;have:=b0 _ b1;rw[am G];exact cz (aEO this) ay}
gX a b c:=v (mU (∃O x,a/\nq)) (fun i H x L=>b) (mU (z O c (bx<=i)))
Ky a:=∀(l:Addr)(Y:bg)(n:Nat)(a5:mb),a
qy d f:=by rw[wJ (m dh _ e ⟨n,fun F b7 b5 O Z=>d2 e F b7 d e_ (gX O) f⟩)]
bhv:=by rw[mk (i4 _ _ z6) (D wb num (cy (i4 _ _ z7)) rH (f I _ _ num rfl k2 (LU (t bA u4)) ?_))]
bhw:=a06 q lo (U1 a0Y) Xt ab Hb
g0 a b d:=by have D:(gD xl (v Ih))=a↔xl=b:=aV7 (c:=d)
bhx:=fun v d3 w hw c2=>by have:=Z.b v d3 cT w hw;unfold UH at this;simp_all
Kz a:=fun b u q n _ _=>a
KA b:=[kM,ac b2,OT,aa x,aa y,v,b]
bhy:=by rintro _⟨a,b2,X,G,rfl,j,_⟩
bhz:=by {have:=jg;rw[ak (rv e) (.inr a0),Ja];rw[bj (hF rv (ez ew)),ad4,b9]}
bhA:=(i=0/\a7Y)\/(i≠0/\z c (dM c i) (dz i<=lo c))
g1 a f g:=e [jQ,cD,Pa] aGA a (ik jh) (i (fW K H c0 (aB4 vn)) (oY<100000) f g)
qz a b:=i 2 aj0 (bh a aq bb) (dS aw alV) b
qD a b:=by rw[alR,aGI];simp only[a4k,Ng,WW,DR,a];rw[T b i,a_,a_]
u a b c d e f g:=mB (lv bP) (V 2 a 3 b) (ah (ff c d e) (dm (gG (eb KN aq cv) (ml bb aq)) f) (fG (bW 1 g bb)))
KB b:=wC (sw (CW (∃a o,x=bc/\jq b7 a y o/\Q (.bl b) b7)))
bhB:=match nd Az with|some x=>ct XS ae a7o|none=>a7o
bhC:=fun y b6 e=>by rw[wa (a62 y b6 e),l (aBj _ Pb),l (aBj _ (.inr k))]
KC b:=match b with|some (some (.ref a))=>a|_=>0
qF a b:=match vN f with|some ⟨_,_,.func fd,_⟩=>a|_=>b
bhD:=m (i+(j-i)) j j i l j i
qG e f:=by rw[c k dx c3 EM k dx (m c0 v b (d c3 e f (c2 _ ?_)))]
qH c d:=by have yL:Ct c b7 cW d (i+1):= .inr (f i z c9 (aP b U))
bhE:=∃x y u v,O=Jq/\pR/\Yq/\gS b=aa (jz #[u,v])
g2 a b c:=e akt a pO (bk "a" 4 "b" 5) (bC (V 4 akt 5 akt)) (lp (eb b aq (as bR cK))) (bC c)
bhF:=by rw[gc h1 h5 (O c o (S c o z) fS)]
KD a:=v (wc r.w) (wc r.h) (mV 4 POINTS aJ=ah) (mV 4 LINES dR=ah) (mV 1 MARKS fM=ah) a
KE d:=(∀e a x L,b d Am bQ (L a=aa (cO x .bC)) (GJ L x rG) Ph)
bhG:=(tLc wi g c3 b8 aln)
bhH:=by have n7:oN [c7] b7:=fun a m O q=>by rw[gf c4 i4,O0];rw[m,c4]at q;rw[kJ]
bhI:=fun e1 i7 i4 j8=>(k d i7 i4 nd ?_)
g3 a c d:=∃Y:bg,vu (aj a Ay) (eO=i) aDW (bH Y (aj b []/\c/\d))
qI a b:=by refine bm4 a (fun h' a0 L G c3=>b)
qJ a b:=by refine call_zip_2 ajV a (fun h' c9 f n a3 a9 G c3=>b)
qK c d:=sQ (ay7 Z (b7 a.1 a.2) (b7 b.1 b.2) (c).1) (ay7 Z a.2 b.2 d)
bhJ:=p z.1 ru (aS z) Ek (cp z) (a2 z.2)
qL a b:=ahE eC X.w X.K c7 d0 a b l
bhK:=c0 i x M _ (y O q) p
dc a b c d:=bm5 p a d0 b0 hd (fun h' C kp e=>fin ar B c9 h' C b c) d
KF a:=∀{Z:Row}{g:Nat}{y:Int},a
bhL:=by rcases Sy c4 with c4|⟨a3,a9,e2⟩
qM a b:=aek Z (v:=v) I9 [] aT a b .nil
bhM:=by rw[di,pH,di,pH,di,cP]
KG a:=by rcases(ax a)with q|q|q|q|q
bhN:=R.Ok mg P w aj (k+1) e8
bhO:=by rintro rfl⟨a,rfl,b3⟩c2 k
g4 a b c:=by rintro i z M a c9⟨rfl,⟨b,rfl⟩,c⟩
KI a:=by rintro a⟨a4,Y,b4,len,nd,al⟩
qN a b:=aOh a b (aWA (K:=K) rfl) bE aqY a6J
qP a b:=by obtain⟨a,i7,b8,rfl,b,I,c4,_⟩:=c0
bhP:=oM eC X.w H a f n
bhQ:=CmpOf cO w kB .Lt P bt
bhR:=by rintro i M L hi⟨_,s,e,_⟩
bhS:=GM.Ti r (azx (fun a b ne=>aFq ne) O (dQ.imp (ah (aZW q))))
g5 a b c:=by {rw[a]at M l;exact axQ t DQ h nd r b _ c (v j M e)}
bhT:=J ((h c z).2.2.1 x c e rfl)
KJ a:=M (.Call (.Name "min" p) [e] [v (aa "default") (.Constant .none B q) kp] pos) (aYG a d6)
KK a:=by {rw[a7 l a5 q,h4 a5];exact Eb a}
bhU:=by rw[a g8 h9 q2 (akO i) q2 (akO i)]
bhV:=by rw[i h9 q2 (akO i) i3 g8 i4]
qQ a b:=by rw[cc (aQ0 Y d5 C (P.nodup d5 Y G aY) W (fun x X=>P.closed d5 Y G X) a b)]
KL a:=by rw[db b f7];simp at e1 b;subst e1;subst b;exact a
bhW:=bD (b0 au s M H _ I h) (fun d a4 P=>?_)
bhX:=PS X (.For c7 Hr a [] pos) (aOt wi g c3)
bhY:=z (c7 p.1 p.2) (Y p.1) (p.1≠oQ) (p.1∉vS) (∀v,p.2.data≠.cell v)
dd a b c d:=z a b c d (aDZ=n/\GM.DInv a5 B par (ab Yp) dJ/\alW/\eD<=n/\aD1<=eD)
KM a:=by {rintro⟨l,a5,rfl⟩;rw[al a,dY,l (v (Tn l) q (by simp only[Tn];grind))]}
qS a b:=∀d e,j (cs x d) (cs y e) (iK d) (iK e) a b
bhZ:=aA3 c j h a d Z kV p b3 g e3 ct
de a c d e:=(∃F k,a/\y=kV k/\c)\/∃F k b,d/\y=cW/\e
bh0:=by rw[T d6 h5 (U h5 d2 X_) m4]
bh1:=by rw[T h1 g6 (U g6 n []) k7]
bh2:=by rw[T i4 h9 (U h9 q2 (akO i)) m5]
df a b c d:=by have TE:∀i l,agi D a i l=CB b c D i l:=fun i l=>d
bh3:=∀(w:World)(h:Heap),b w h->(K ht).In h
a2 a b c d e:=F_ (aS7 (K:=K) rfl rfl) bI T.all aTn (ea (BK rfl a (ox b) (ck c 1) (ci 1 d) kN (bC (ara yB yB bE aq (gi e)))))
KN b:=∀{a:Jm}{m:dO},(∀v,(x,v)∉a)->b=m x
bh4:=by {rw[bD (v (oI yL) b5 (MO ?_))];delta oK;simp only[ok];subst o;rfl}
KO b:=a d il ik jz kD rfl (dL aGX 1 5) b
KP a:=Y ["p","q","r"] ["p","q","r"] a
KQ a:=Y ["call","numbers","row"] ["call","numbers","row"] a
bh5:=a w h (LD w h) [(0,1),(0,2),(1,3),(2,3)] [m]
qT a b:=∀{Z:Row}{g:Nat}{e:Ln},a->b
KR b:=a b agZ zl aii vT CP Hl MC MA es Hm
a3 c d e f g:=by rw[eq b7 N (aYm (t':=ahu) (P:=c) r (fun b u z=>d) e at_ i0 f (fun j a b3=>g))]
KS b:=by obtain⟨l,O,y,rfl,rfl,a,b,q⟩:=h
bh6:=fun c o e5 e6 c1 i0 q=>c3 c o e5 c1 i0 q
qU c e:=by rw[ez c (b hd dU gd fX a dx _ (j hd dU kE kx X rfl e))]
qV b c:=∃o a7 e1,pS/\a2k/\gD=Py/\lP=b/\c
dg b d f h:=g h' dF (a _ _ S b6 v) (c b d k7 l9 (IA m (eO f)) (IA B (eO h))) aGu
bh7:=by have n:tQ=aly++(AM++alz):=by rw[tb,hs,hs]
bh8:=by have e0:a5m=aO:=by rw[a.1,sb.1,sa.1]
g6 c e f:=by rw[b x p ns c e B S z (d ?_ f ?_ g)]
bh9:=by {refine nX aGD (iF q);rw[cZ b0,a_,a_]}
qX a c:=M (dP m a pos) (aO8 C m e8 b E d6 c)
dj d e f g:=by rw[n e0 g0 M b9 ⟨x (RU (bm6 d e) f g fy),fun d0 j5=>?_⟩]
bh_:=∀c o,c (c≠z) (c≠c2) (c≠N) (gO c) (be (gS c))
KV c:=b T.TX agu (dr d2) g vs rfl rfl (aJ d2 c)
bh':=fun g6 g ls B b9 e1 b6=>gL
qY a b:=by refine a1S (Of (F3 I d8 c4 a (nI (CK d) b) ay ay))
bia:=by obtain⟨j,a3,a9,e2,e5,f⟩:=aPv a0
bib:=by obtain⟨b,i2,h7,i7,rfl,U⟩:=hB
bic:=by rcases l with⟨c3,c4⟩|⟨c3,c,b0,a⟩
bid:=by have g4:N h5 d2 X_ d2 a7x:=by rw[ak,g7]
dk a b c d:=by have a:b=tm (Dr r) ig (c):=(aR9 (fun(m:Ww)=>eN) (Dr r) ig d)
qZ a b:=by rw[Yz,C4 akR];delta a30;have e2:¬(a<cx):=by{rw[xM]};simp only[bj e2];rw[ku b r]
bie:=bE (pf q) (p.y<q.y\/(p.y=q.y/\p.x<q.x))
q0 d e:=by rw[n d0 R D g5 ⟨t ck (aqi d e fy),fun y F=>?_⟩]
a4 c d f g h:=by have b1:c:=fun i e a0=>b O b b4 b9 e7 d (a O b b4 (er b9 f g h) e7)
bih:=by have kp:bd a7W g_ Pg:=fun b o U d0=>by refine aEf b o ?_ d0;rcases U with rfl|⟨e,a0,q⟩;{omega};{rw[gF q2 (a e a0)];rw[q]at q2;cases q2;exact V j b8}
bii:=Walks cO w kB I a8 d n P St
KW a:=by have sm:∀{b:Addr}{o:HO},Pf->(∀d7,o≠.lst d7)->alA:=fun{b o}e n=>dU e a
bij:=LeftO P q3 l3 X3 (fun s=>YH bh) (as gC) 10068
k a b c d e f g h:=(abN.map a,itN.map (bn b),tpN.map c,d,atN.map e,fnN.map f,meN.map g,FW.map h)
dl a b d e:=by refine aX9 (s:={a4 with heap:=h'}) W a b ay d rfl e (fun c1 Y c g7 g8 a5 at_ i0 it kp=>?_)
bik:=p z.1 ru (aS z) Ek (cp z) OJ (eZ z)
bil:={strHash:=nk,shareClass:=nk,mergeTok:=id,idOf:=nk,idOfShared:=hp 0,followText:=as ab,idOfImm:=nk}
bim:=by obtain⟨x,a8,r,r1,A,d2⟩:=P
q1 a d:=∀(X:Cx),b eC P (X.w=w) fD fR (∀(i:Nat)(pins:bw)(s:Shared)(M:St)(H:Hp)(E:aU),c aZ (V b a8 (iV H)) (l i bh) a (ff (jw P w) X.A (aht nU) (fun J a4=>d) E s))
bio:=[tV,rD,ac t,ae,ac p,i1,j5]
bip:=bm7 (bD a74 (fun J a4⟨v,a8,r,rv,d2⟩=>bD a7j (fun u b5⟨x,b7,Y,R,q2⟩=>ws (hi au b5 M b7 _ Y q2)))) c0
biq:=by rcases I.SN x S with rfl|⟨e,a0,_,b4|b9⟩
KX a:=Slot.of (n:=a) (owner:="set_iterator") YE cC cC cC (by first|rw[pc bz]|rw[m1 cC]) a7J
KY a:=by rintro rfl⟨dx,S⟩⟨f,a5,d⟩a k
KZ b:=d (bv a6') aFS ajw (fun i a b3=>let⟨ns,e,q,n⟩:=aGK;d ns e b n)
K1 a:=D al4 (Sn (aS9 (K:=K) rfl) bI T.tuple aTi (ea (r6 bS))) a uf
K2 a:=by {have:t.2∈EL:=a;rw[am b9,aO x S (zy this),xN];exact ne x S}
K3 a:=(∃(p:Nat)(e:akQ)(b:Addr),Yg/\e.2=cW/\aGc)->a
d a b c d e f h i j:=by have a:b=ae:=by cases q:c with|none=>{rfl}|some o=>rw[M d e c7 (by rw[kq c4 (bm8 r2)];have:=f;rw[fu h this,nu])];have:=i;rw[am j,nu]
K4 a:=∀l L b9,c AG xj (aj l (b9.map cq)) a (Q cD L)
bir:=B F L o N (cH s) O Z (gg s) rfl X2
bis:=by obtain⟨h6,t,n2,r2,B,b9⟩:=a6L hB
K5 a:=CN (V (W i m H) alM a Pz (∃w:je,(a7g)/\j x L PJ (ge tG a7e)))
biu:=fun c o U q=>c3 c o ak8 ak8 ak8 ak8 q
K6 b:=by obtain⟨a,i7,b8,e,q,l,b,a3⟩:=z
q2 a b:=g h' a (as _ S k7) (v b h6 (IA a5 (lJ (v _ _ c1 f q)))) aGv
biv:=BK rfl IQ (ox cK) (ck "line" 4) (ci 4 IQ) kN (bC (di bR))
q4 a b:=∀{P:cX}{vs:aM}{i:Nat}{m:dO},c P.Nodup (fi P) (A vs v) a (b=aa v)
q5 c d:=by rw[b (bm _) (fI s f5) (Y a7 e) (Y b1 c4) (Nx z b) aGE (t M4 u) (lB (t (aYV d3) (o v d3))) (v c aGh d)]
biw:=by {rw[v (ay) (fun t c6=>?_),fZ z];exact k t _ [0] R (cH cn) c6 ak (gg cn) Y rfl}
K7 a:=by {rw[v (ay) (fun t c6=>?_),ef z];exact k t _ [1] _ (gc (cH cn)) (agE a4 (lb (a3.live m)) c6) ak (akw cn) (a).2 rfl}
K9 c:=a l b c 2 ?_ jX ay (fun b7 b5=>?_)
g7 c d e:=by have i:=c;refine aR7 (R:=d) aGU (ab (L (h x) (bt (i.2 x)))) s i.1;rw[cR e,kJ]
K_ e:=by rw[a2 (r _ _ hd) (s gd fX b2 (k7 (r _ _ a3)) (fun i0 i8=>d dH dm dm (gg r).p.ls (bn (jP (jM e p) p)) i8 bM))]
b c e f g h k n o q r s t:=by rw[ez (L c cv e (df cv)) (a hd dU f g h c5 rfl (av a3) (bv k (bi (LG (fun l m p=>M=[kM,aa l,m,p]/\Ct n L l o i)) bQ (ae (j<i) q r s t)) (v (m .bC ae ae (.inl xJ)) ej (fun j y b8=>AA))))]
La a:=by rw[xx,Q i j rfl q Vj,xk,akT];exact rule i j t t' s _ _ a
a7 c e f g i:=by rw[ez (cl c) (a hd dU e f g vs rfl (ce c0) (a a D b2 X G iR rfl h i))]
v d e f g h i j:=by {rw[n b c d e ?_];rw[f];have f7:g=h:=by{delta oK;subst c0;simp only[ok,a58,e0];rfl};refine fH (fun c1=>?_) (fun c1=>?_);rw[l (fin i),cx (oI yL) b5 (MO j)]}
g8 c d e:=arZ (O:=c5) (fun i L=>c) (s (b_ d) [] ak aCf a7B) (fun i L _ z=>av (z.1 _ _ e)) ?_ ?_
Lb a:=fun i s Q E hi st C g=>a
bix:=U d au a4 M a8 Q r d2
dm a b c d:=Hs a b c (a2z alb X.A oS a3 d5 EI sZ) d
g9 a b e:=a21 Y (cc Aj w I1) (v:=a) (fun x X e7=>bj (asY Y d5 W ahS (e9 _ ahS (by show x.1≠g.1;rw[e7];exact b))) (pp X)) c e i8 rfl
q6 d f:=bm9 (S:=ft AS) (fun{a b}q(e:a=b)=>c a d) f
biy:=bm_ q j m b J d [] (fun f vs=>PySem.call f vs)
biz:=by obtain⟨g8,e1,t,k,u,hex,hd,_⟩:=H
q7 a b:=∀(l:Addr)(x y g q:Nat),A [cD] (ik (jG PF)) a b
Ld b:=WalkOS q j m (fun _ h=>b) J d a run
dn a b d f:=by have a:∀(on:ON)(c:Pt),b->HR c=ab:=by rw[bZ on c];cases e:d with|none=>{simp_all}|some i=>rw[aj e];exact ae (atV Y) (v i (HS f).1 (c_ h))
biA:=by delta Xd;rw[r8 (wd d),a7S];rw[iT];rw[C (bnb b1 ?_)];simp only[bna,Dg,iU];rw[r8 Jb];cases b with|true=>{rw[J (bj (show¬((vO ab !=vO ab)=ab)from zv)) (cj (g _ c9 (bm' _ _)))]}|false=>rw[aK (g5 (vO ah !=vO ab) rfl)];rw[C (DW c9 AN (fun e2 e7 c8=>cj (g e2 e7 c8)))]
a8 b d e f g:=by have b:∀(on:ON)(c:Pt),i (on c=ab) (o i gY (on eI=ab) d) (HR c=ab) e:=by intro on c D f b0;rw[ak al s (x (atV Y) b0),J g AB]
biB:=by rw[a2 (gy hd) (u kE kx X xi (ev (av (gy a9)) (d_ l2) (b (gy hd) dU gd fX C _ _ (b rfl rfl (cy l4) dh C _ _ (b rfl rfl (cy l4) dt b2 rfl (av (gy a3)) (fun d2 m4=>?_))))))]
b e f g h j k m n o p q:=by rw[a2 e (a jH jt a b2 X G r f (i le G g dS h j (a k m (d n _ o (aJ S)) p (gd p_) Yw q)))]
biC:=by {rw[a7G,o2 i m hi];have:(i∈cG (Xy k)++[((z,num):alC)].map eY)↔aGf:=ar q;by_cases q2:aGf;{rw[aK q2,aK (this.mpr q2)]};{rw[c_ q2 (e9 (q2 (this.mp y)))]}}
he b c e:=[kM,bE D.w,bE D.h,ac Z,ac b8,ae,ae,rD,i9,b,c,e]
biD:=by rw[a0 F a b c];exact d F (bv a) b c
Le a:=by rw[xx];obtain⟨d,e,hd,a0,sd,p,q⟩:=h;rw[fy r1 (M0 I d x v hd R)];obtain⟨bs,r2⟩:=M0 I e y u a0 Z;exact a
hf a b c:=by rw[xk];cases y with|bC=>{rw[a4 Z a]}|int j=>{rw[jA b]}|str j=>{rw[jA c]}|_=>trivial
biE:=by obtain⟨a,b,O,d7,ex,b2,c6,q⟩:=d2
y a b c d e f:=by rw[iS Og (d6 (j+1) _ a b (gC (hp (aC n (j+1+1) Z) (aS n (j+1)) W3) (hp Ip (aC n (j+1) b8) (aS n (j+1+1)))) Z c d e f)]
a9 c d f g h:=a Ve agZ zl (a alw alw agW (fun b o e S=>?_) a1t a1s a1r) c d Hl MC uh (K (v f g h) c0) (ax Hm)
q8 a b:=∀p q J,j (aVS H vs p q J) (gP p) (gP q) (gP J) a b
Lf a:=fun r i h h'⟨b2,b0⟩st k=>a
biF:=p z.1 ru (aS z) Ek (cp z) OJ (f_ z) (eZ z.2)
hi a c d:=dE (fun(e:Int×cS)(O:bL Int)=>z b (e.2=cW) ((hL).is a O b)) c d
dp b c f g:=by obtain⟨a,i7,b8,e,q,l,k,a3⟩:=h;exact a a i7 b8 e b c f g
Lg c:=by rw[b Ay (Y a3I e) (by rw[bA];rw[ka]) (fI (iq (b_ U)) c) (Y++[b]) ?_ (ar len) ?_ ?_]
q9 a b:=by rcases h with(h|⟨o,h⟩)|h;rw[dS (.inl a),dS (e1 o b),co h]
biG:=fun a b v w y n M=>s.2.2.2.1 a (lt a v) y M b w
q_ a c:=C8 (a1U (h₀:=sS) a1V a (bD ak0 (fun b1 a4 e0=>b vs a8 r J q e0 ⟨r.KA,c⟩)) a0 b8)
hm a b c:=by rw[hQ];cases y with|bC=>{rw[a4 Z a]}|bl j=>{rw[a4 Z b]}|str j=>{rw[jA c]}|_=>trivial
biH:=["enumerate","zip","dict_itemiterator","dict_reverseitemiterator","odict_iterator","itertools.zip_longest","itertools.pairwise"].contains n
biI:=p z.1 ru (aS z) Ek (cp z) OJ (f_ z) (f_ z.2) (a2 (a2 z))
hq b c d:=aqR (v:=bc) d8 b3 rfl b au s M H c I d
dq a d f g:=∀(k dx l:Addr)(v:V)(b:Gla.Bytes),e [Yi,cD] (lP v) a d (Dc f->g)
ra a c:=by rw[a79];{rw[jY,wr (SD es e)];refine a;rw[<-(VE k).adK,<-l];exact h _ rx};{rw[jY,aGM,wq (SF es e)];refine c;rw[cO (VE k).adK,cR aCe];rw[<-q,<-l];exact h _ rx}
rb b c:=by obtain⟨b1,a3,a9,e2⟩:=j a b3;rw[c4 hu b1 vs];subst hu;rw[dJ a9];cases c3:vN a with|none=>{rw[m1 (.inr (aW (bj (afk b3 c3 e) b)))]}|some o=>rw[g3 (y a o c3)];rw[e]at b9;obtain rfl:=c_ b9;exact .inr c
Lh c:=by rw[cB (h 0 x u rfl rfl) (i (aDs c) (fun j y v a b=>h (j+1) y v a b))]
biJ:=by intro j s i c c3 b8 z y b2 hR
biK:=vf eC X.w X.K mI sS so j R.f R.fd c5 e8
biL:=by {intro c b0;rw[iP b0];{rw[cO (al c m)];exact v (ac (bX q.2.2) (bX (J (by rw[cR z];rw[q.1]at U;cases U))) q.1) q.2.1 q.2.2};{rw[O0];subst m;exact v (wB a5) (XH U) a5}}
biM:=by have a9:wt (fun _ v(b:ei)=>v=cW):=v Ay (av (dj w_)) (by clear N i0;rw[wE Y])
rc b c:=by rw[bD (a a D b2 X G i rfl (gg (z_ c0)) b (em (L (z_ c0) cn) ?_))];delta Xo;rw[J (C1 c) lT]
biN:=by simp only[a6S,Dc,bnc,show v 1>0 by decide,mL];rw[fW h 0,dl h h (sl1 h)];{rw[c_ h h];exact sl0 h}
biO:=k d b7 _ R (cH e_) (gX nd) b9 (gg e_) Y rfl
biP:=∀t∈["list","tuple","set","frozenset","dict","dict_keys","dict_values","dict_items"],T≠t
rd a b:=match a with|0=>14+8*b|1=>5|2=>11|3=>15|_=>3
biQ:=em H9 (W 0 m b H) (V ak9 ((OU).stop i H) OK ((OU).go i H) (∃N:es H9,(alc)/\j x L (r4 OU) (KH j x M L (fun h b7=>R_ (tBM K "list" ady (hq o) (hZ (F9 e8 [] E0 (hZ (hq j))))) (ag4 N) h b7))))
Li e:=by rw[c x r0 r1 xS le _ (a _ (vn (t (akm (cr (l.2==t))))) rfl rfl q2 (sD l5) lt _ (a _ (.ref c) rfl rfl d2 (no b0) x q8 (a q9 X c7 D t y c (de (GM.aRZ Z l5)) (a m3 e q6 Z l5 n9 j7 (fun g6 n4 n5 B g4 h3 m7=>a k _ _ l6 (bd (i6 g6 n4 n5 B g4 h3 m7)))))))]
biR:=p z.1 ru (aS z) Ek (cp z) OJ (f_ z) (f_ z.2) aGb (a2 (a2 z.2))
Lj a:=by obtain⟨o,e1,t,k,d0,hex,hd,T,hE,d5⟩:=a
Lk d:=∀(i:Nat)a x L(h4:VK)(N:je),j ED OO d (wR (f a)) (f a=ae->aGS) (ge tG aGH)
Ll a:=∃(B:ao)(par:gq)(o path:ao)(i1 j5:jO),a
hs b d f:=by obtain⟨z,y,b,J,N,a7,e1,e,c⟩:=x;exact a z y d f N a7 e1 xR c
re a b:=by rw[xx];obtain⟨p,O,rfl,e0,n,G,q⟩:=h;cases Z;rw[aGP];{rw[a1 J d5 OH];refine a;rw[hs (a7c (qC x)) (a7b (qC x)),arL J G];exact q};{rw[a1 J d5 I4];refine b;rw[hs (a7c (qC x)) (a7b (qC x)),arL J G];exact q}
rf c f:=by rw[w vs rfl d0 g c];have h6:aDx c7<=1048576:=z;obtain⟨A,a3,a9⟩:=afj c7 _ g p (fun d hd=>cp (avq hd) h6);rw[cf k (fX A (a::A)) (ck U),aa (a::A) (fx ..) ua,g7 (ib U) e,Z e (d vs (aUW (t (avr g) (cp (bnd c7) h6))) (m6 (bN (a3 u hu) k)) f),l (bN (a9 b m) k)]
rg c d:=dm (aq0 (s:=nB) (n:="range_iterator") f rfl rfl ay (a c H (a6x (jE (B b o ag e)) F g4 h6 f4 f5) d xJ f (dc (Ep).1)))
biS:=cO 1 2 (cO 3 4 (cO 5 6 (cO 7 8 (cO 9 10 (cO 11 12 (p=13))))))
biT:=bD ak0 (fun b1 a4 e0=>b vs a8 r r1 d2 e0 (b0 au a4 M a8 vs b1 Q r r1 d2))
biU:=by intro i s a7 l b0 hi z hG a b9 hR
biV:=fun f7 c4=>by obtain⟨g,D,Q,l,B⟩:=c4;rw[d0]at l;rw[a4 l (a _ D Q f B)]
rh a b:=by obtain⟨m,⟨o,a7,e1,d0,J⟩,_⟩:=id vT;obtain⟨sl,f⟩:=u.any d0 Hl a;exact b
biW:=fun i j u v K ls le hu d3 n L=>?_
c a b c e f g h j k l m:=by rw[iS aEi (d6 (i+1) _ a b c X (aES _ c1 e _ T xK f) (d g h j Jk) k l (fun M b1 b2 b4 b7=>hR M b1 b2 (bnf W.gtrans ((aEj wide).then_heap xK m) b4) b7))]
Lm a:=by {refine fQ;rw[X5];rintro⟨⟨l,m,p,rfl,a5⟩,s,g⟩;rw[Jn];delta a;rw[axx g];rfl}
Ln a:=by have G:∀x y,c (a1 x y) (y∈B) (C9 a) (Q y) (Q x):=by rw[bZ x y];induction h with|refl=>{intros;assumption}|step e h' d6=>intro I t i;rw[lF e];refine d6 (aS m) t (e9 _ _ I (Wa _ _ (aS m.2)) (t _ (.step e h') I) (t _ h' (aS m)) i)
biX:=p z.1 ru (aS z) Ek (cp z) OJ (f_ z) (f_ z.2) aGb (cp (a2 z.2)) (oF z)
biY:=∀x a L(h4:VK),c (a∈Y) (cZ G L) (R L x a) (f i1 j1 (cZ L j1) (L i1=ae) (b5 (j1 i1) (bV (f a))) (h4 (.ref i1) j1)) (e8 [x] L h4 E0)
biZ:=@aE7 _ _ _ _ _ _ _ _ _ ?_
dr a b d e:=bng a dx _ s _ _ _ _ b m (a7d d) (a7d c) (room e)
bi0:=a ok.mod aB_ ok.glob ok.blt ok.above ok.inj ok.has ok.cab (a ok.hd ok.frames ok.stk ok.exf ok.bs ok.R4 ok.aNM ok.R5 ok.uZ ok.F2)
bi1:=by obtain⟨j,d4,O,u⟩:=q3;obtain⟨f7,c4,w⟩:=hN j d4 u;exact c f7 c4 j d4 O w
bi2:=by rw[o d2 q2 (tv (dk d7) rv) (by rw[b2 (av (i4 _ _ g4))];have:=f0 (aFU d7) (sF (e.2-(e.1+1)) (Cn gj e9));rw[J bni this]) (by have:=cd (dk (wI d7)) (sF i i9);unfold Gla.Plan.drawn at this;rw[<-Ds]at this;exact ce g8 this) (qY (bnh c2)) (fun J a6=>?_)]
ri c d:=by rw[ub,jq R];refine lK (a5 au s M H _ I h);rw[Pp];obtain⟨a,e,⟨O,e0⟩,q⟩:=d2;rw[cb];cases r1;rw[a1 rv p c];refine d;rw[o8 fY,cb];exact a7H
rk b c:=pr (as a OG b (bj c c2.2 (fun d5 b7 b5 n2 b9=>m a7 d5 I0 b9 ⟨?_,fun l a5=>?_⟩)))
rl a d:=∀(w:World)(mg:dO)(t:Addr)(h:Heap),c (b w h) ((K ht).In h) (h.Ns CN mg) (fY d.name t) (∃fd:FuncData,(a7Z)/\∀base:iN,(K ht).In aj->alP->vf J.prog w (K ht) mg aj a k t fd c5 d)
bi3:=fun e7 f5⟨i8,d6,o,a7,e1,e,N⟩er=>a i8 d6 o a7 e1 (er _ e) N
bi4:=p z.1 ru (aS z) Ek (cp z) OJ (f_ z) (f_ z.2) aGb (cp (a2 z.2)) (cp (eZ z)) (oF z.2)
Lo a:=l au d9 M e4 y d3 u c5 a a5 r2 c9 i6
Lp c:=by rcases zs with⟨c,c9,a,b,n⟩|⟨d,b,j,c9,b1,G,c0⟩
bi5:=by intro i s Y c c3 hi st b2 i0 it kp hR
Lr a:=by {intro i n a L h4 N d1 s S b6 c5;rw[pU,ix Pl];rw[dI (show xC<=cL by simp)];rw[bD (fw ej ?_)];show CV _=CV _;rw[dZ];apply aDQ;rw[ue]}
rs b c:=by {intro a O c7 c0 b3 d6 u J;rw[hP];obtain⟨ar,o,n,rv,d0,b0,hd⟩:=b;rw[fy a6 (d6 ar rv)];exact aW c}
Lt c:=by rw[b _ _ rfl rfl (fk-(k+1)) c (k+1) _ (ax ?_ bB (a (((O7).sb).put aT) (a e7 d (l2.put h8 w3 n1 n2 t2 w4) n1 n2) bB (d aGC ak (t M4 p0) (fun i m hi=>?_)) (wF ((O7).lo j e dW a0))) (hJ (yX h8) (bL i4 t6)))]
Lu a:=by refine(bnj (prog:=eC) (w:=X.w) iy it lo a n).item i s _ _ d8 st (fun v h' D d3 f B=>?_)
ht b c e:=by refine bv lL (fo (vu (GL (fun b1 e1 j9 e8=>M=b)) (cZ g6 L) (dC eS L n (B c (bo akS))) (P x (j<i) gW x (e=ah)))) (d (a _ ae ae ae rfl) h1 (pl ak) a7P)
z c e f g i j:=by rw[d _ c a D b2 dl G (a h Z e f g i j (fun a8 y x e7 d X c7 I a4 b0 n6 Y=>?_))]
bi6:=by obtain⟨D,m,kV,p,b3,g,e3,ct,z,rfl,lk,S⟩:=F.ex
Lv d:=by ({rw[a7 m c4 a6];have:=c1 m (qY c4);exact⟨kc ew,kc fp⟩});have c7:(j4 a7t (pC i))=d:=by{delta CB;rw[bj (J (j2 (Nz z))),a5P];rfl};rw[mg a7t (pC i)];rw[c7];obtain⟨j4,j5,l5⟩:=aFf gz d7;have m6:j4.length<=lL:=by{rw[l5.length,bA];exact cp AW bz};rw[ae l6 i3 a7y (GH j5),n (dr j5) n j5 (br m6 j7 fy) ?_,P c0 g6 a7y (fI (wI d7) k7)]
Lw b:=by rw[aGT];refine aJ O (bi (∃v,M=ak7) (cZ G L) (aj d (bV (B++gr (WI i) f)))) (v ⟨ae,b1⟩ s cu) (mR (z.2.seq q));{rintro i x M L S⟨⟨v,rfl⟩,a4,b4⟩;rw[ak b3 J (oH p S),a7X];show R_ _ _ (bp ak7 j (aa x)) L;rw[(bnk ..)];delta R_ tBM qA F9 sh;refine wY (c _) ⟨dr b4,wY (e _) (C x a L _ (bO b3) a4 b (fun i1 b7 b5 n2 b9=>m d i1 I0 b9 (a2 ?_ el (gr e_))))⟩;{rw[<-ck,<-qJ,dD];refine cp ?_ c9;rw[dw,<-ajo f a,<-zP,<-g9];have:Y=WI (i+1)++Y.drop (i+1):=aGq;conv=>{rhs;rw[this,zP]};simp};{rw[ak,<-qJ,dw,<-ajo f a,<-zP,<-g9]}};{rw[bJ L v a4 b4,dc wQ b4];exact k v L a4 b4}
bi7:=by {rintro M L⟨⟨b1,e1,j9,e8,rfl⟩,s,b9,g⟩;rw[oN (z_ s)];delta Xo;rw[a4e (fun j x S=>bz)];rfl}
bi8:=bD (h pos au s M H _ I e0) (fun b1 a4⟨O,a8,r,J,z,q⟩=>au (bl vX z))
Lz b:=by rw[fz];refine bnl (pl:=d5) (wo ET) c6;obtain⟨x,a8,r,R,a,dx,G,ex,d0,l,q⟩:=P;rw[lZ,Ey];refine aOW r d0 c c4 l b
bi9:=by {rw[wP (¬b<EE),b (bm _) s e c4 f F u o (v h2 aGh i8)];rw[g9]at hw;rw[iP hw,l (e2 w m),az]}
hu c h o:=by have h8:upd L t hM n=L n:=bX (J (by rw[ks q b9,b2 Z d2];cases d2));generalize lk hM=h5 at rv b9 Z R d k9;rw[ax b U j0 j6 rv];have n9:∀m:fB,GM.Lr D e m=Cu rr akS:=bo rfl;have l0:c=ah->P x (j<i+1) gW x (h=ah):=fun W j x b8 S=>by{rw[T j i,dY,l (g j x Ys S)]};have fin:o=ab->E i3 (cZ h5 i3) (n0 i3 7):=fun W i3 d6=>cv (aFU d6) (em (L (aFU d6) cn) ?_) Xo (C1 ag);rw[aGO,bH h3 W k9]
}
example:=by rw[a]at ⊢
section z
set_option tactic.hygienic true
open PySem PySem.W PyProof.Rows
namespace HX
noncomputable abbrev P:=PySem.Challenge.rw_glassrecord_s01_answers.prog
noncomputable def RO(a ok:agK->cf)(b:Ha->agK->bZ (Ha×agK)):i Nat Ha agK (bZ Ha)|0,_,_=>ae|n+1,s,t=>fs (a t) (aa s) (match ok t with|false=>ae|true=>match b s t with|some (c1,t')=>RO a ok b n c1 t'|none=>ae)
theorem aqd{c3:gA->bZ Builtin}{p:Program}{w:World}{d:Nat}{e:pE}:∀{n:Nat}{s J:SharedT}{t:Thread},RO aAW (aAV d e) (aAT (aAU c3) p w) n s t=aa J->topRun c3 p w d e n Hb t=aa J.abs|0,_,_,_,h=>PQ|n+1,s,J,t,h=>by unfold RO at h;unfold topRun;cases a:aAW t with|true=>{rw[aj a,cI];rfl}|false=>rw[aj a];cases b:aAV d e t with|false=>{rw[m7 b]}|true=>rw[aj b];cases c:aAT (aAU c3) p w s t with|none=>{rw[m7 c]}|some x=>obtain⟨b5,d8⟩:=x;rw[aj c,J (stepT_spec c) (aqd h)]
noncomputable def bt:i Nat O_ BT BT|_,[],t=>t|n,o::J,t=>bt (n+1) J (t.ins n o)
noncomputable def s0(w:World)(os:OsState):Ha:=a (bt 0 (xT).objs.toList .nil) (f3 xT) (xT).life #[] aAY aAX os
theorem aNb(w:World)(os:OsState):(s0 w os).abs=a xT #[] aAY aAX os:=ng
noncomputable abbrev q:Mj:=view P (dC 149 (dK (jM ([0,14,38,43,50,57,74,91,99,113]:ao) i)))
abbrev lo:cX:=["NUMBERS"]
noncomputable abbrev Xt(s:Shared):cf:=BV q
theorem left{p q:Program}{lo:cX}{Xt:vM->cf}{I:Type}{b:vM->I}{c:oO->I}{i:agM->iN}{f:Drawn}{p2 N:Nat}{n:oO->OsState->Ha}(j:∀w:oO,a1 p N (i ht) f p2)(u:∀w os,(n w os).abs=a (i ht) (U0 []) f p2 os)(z1:∀w:oO,GX (i ht))(run:wl (cv (w (f3 (i ht)) (i ht) p N (n w os) p) (aA2 (U1 a0Y) (i ht) agL&&aA1 p agL&&aA0 Hb&&aAZ (i ht) agL,bhw,b Hb) (ab,a0X q lo,c w))):LeftO p q lo Xt b c N:=fun w=>by obtain⟨⟨h,a,d,k,os⟩,e,d3⟩:=zi (j w);obtain⟨rfl,rfl,rfl,rfl⟩:h=i ht/\a=U0 []/\d=f/\k=p2:=ax d3;obtain⟨s,J,l⟩:=zi (ly w);obtain⟨a7,d5,l3⟩:_/\_/\_:=by{simpa only[CI]using l};have t:bgF=aa Hb:=by{have J:=aqd J;rw[u]at J;unfold topFrom;dsimp only;rw[z1,J];rw[gI (fs (aA2 _ _ _&&aA1 p _&&aA0 Hb&&aAZ _ _) _ _)];rw[a7]};unfold openEnds;rw[e];show B bgF _=_;rw[t];show aa (bhw,b Hb)=_;rw[d5,l3]
theorem bo(w:World):a1 P 10068 xT aAY aAX:=boot_open (p:=P) (N:=10068) ng ay (fun s=>bI) w
theorem z1(w:World):GX (xT):=ng
universe HX
universe z
section z
set_option tactic.hygienic true
namespace L2
open PySem
noncomputable def inClass(s:Stmt)(j:Nat):ax:=match s with| .ClassDef _ _ _ a _ _ _ _ _ _ _=>a.getD j aMi|_=>aMi
noncomputable def aqe(s:Stmt):Arguments:=match s with| .FunctionDef _ a _ _ _ _ _ _ _ _=>a|_=>{posonlyargs:=[],args:=[],vararg:=ae,kwonlyargs:=[],kw_defaults:=[],kwarg:=ae,defaults:=[]}
noncomputable def RP(s:Stmt):uj:=match s with| .FunctionDef _ _ b _ _ _ _ _ _ _=>b|_=>[]
noncomputable def aqf(s:Stmt):Scope:=match s with| .FunctionDef _ _ _ _ _ _ a _ _ _=>a|_=>{kind:= .function,names:=[],isGenerator:=ah,isCoroutine:=ah}
universe L2
namespace GA
open PySem PySem.Spec PyProof.Rows L2
abbrev Fg:=U2
noncomputable def top(i:Nat):ax:=PySem.Challenge.pw_glassrecord_s01_answers.main.body.getD i aMi
noncomputable abbrev aa4:ax:=bX 5 0
noncomputable abbrev aa5:ax:=top 6
noncomputable abbrev aa6:ax:=top 7
noncomputable abbrev aa7:ax:=top 8
noncomputable abbrev aa8:ax:=top 9
noncomputable abbrev aa9:ax:=top 10
noncomputable abbrev aa_:ax:=top 11
noncomputable abbrev aa':ax:=top 12
noncomputable abbrev aba:ax:=top 13
noncomputable abbrev abb:ax:=top 24
noncomputable abbrev abc:ax:=top 25
noncomputable abbrev abd:ax:=top 26
noncomputable abbrev abe:ax:=top 27
noncomputable abbrev abf:ax:=top 28
noncomputable abbrev abg:ax:=top 29
noncomputable abbrev abh:ax:=top 30
noncomputable abbrev abi:ax:=top 31
noncomputable abbrev abj:ax:=top 32
noncomputable abbrev abk:ax:=top 33
noncomputable abbrev abl:ax:=top 34
noncomputable abbrev abm:ax:=top 35
noncomputable abbrev abn:ax:=top 36
noncomputable abbrev abo:ax:=top 37
noncomputable abbrev abp:ax:=top 39
noncomputable abbrev abq:ax:=top 40
noncomputable abbrev abr:ax:=top 41
noncomputable abbrev abt:ax:=top 42
noncomputable abbrev abu:ax:=bX 45 0
noncomputable abbrev abv:ax:=bX 45 1
noncomputable abbrev abw:ax:=bX 45 2
noncomputable abbrev abx:ax:=bX 45 3
noncomputable abbrev aby:ax:=bX 45 4
noncomputable abbrev abz:ax:=bX 45 5
noncomputable abbrev abA:ax:=bX 45 6
noncomputable abbrev abB:ax:=top 46
noncomputable abbrev abC:ax:=bX 47 0
noncomputable abbrev abD:ax:=bX 47 1
noncomputable abbrev abE:ax:=bX 47 2
noncomputable abbrev abF:ax:=bX 47 3
noncomputable abbrev abG:ax:=top 48
noncomputable abbrev abH:ax:=top 49
noncomputable abbrev abI:ax:=top 51
noncomputable abbrev abJ:ax:=top 52
noncomputable abbrev abK:ax:=top 53
noncomputable abbrev abL:ax:=top 54
noncomputable abbrev abM:ax:=top 55
noncomputable abbrev abO:ax:=top 56
noncomputable abbrev abQ:ax:=top 59
noncomputable abbrev abR:ax:=top 60
noncomputable abbrev abS:ax:=top 61
noncomputable abbrev abT:ax:=top 62
noncomputable abbrev abU:ax:=top 63
noncomputable abbrev abV:ax:=top 64
noncomputable abbrev abW:ax:=top 65
noncomputable abbrev abX:ax:=top 66
noncomputable abbrev abY:ax:=top 67
noncomputable abbrev abZ:ax:=top 68
noncomputable abbrev ab0:ax:=top 69
noncomputable abbrev ab1:ax:=top 70
noncomputable abbrev ab2:ax:=top 71
noncomputable abbrev ab3:ax:=top 72
noncomputable abbrev ab4:ax:=top 73
noncomputable abbrev ab5:ax:=top 82
noncomputable abbrev ab6:ax:=top 83
noncomputable abbrev ab7:ax:=top 84
noncomputable abbrev ab8:ax:=top 85
noncomputable abbrev ab9:ax:=top 86
noncomputable abbrev ab_:ax:=top 87
noncomputable abbrev ab':ax:=top 88
noncomputable abbrev aca:ax:=top 89
noncomputable abbrev acb:ax:=top 90
noncomputable abbrev acd:ax:=bX 97 0
noncomputable abbrev ace:ax:=bX 97 1
noncomputable abbrev acf:ax:=bX 97 2
noncomputable abbrev acg:ax:=bX 97 3
noncomputable abbrev ach:ax:=bX 97 4
noncomputable abbrev aci:ax:=bX 97 5
noncomputable abbrev acj:ax:=bX 97 6
noncomputable abbrev ack:ax:=top 98
noncomputable abbrev acm:ax:=top 103
noncomputable abbrev acn:ax:=top 104
noncomputable abbrev aco:ax:=top 105
noncomputable abbrev acp:ax:=top 106
noncomputable abbrev acq:ax:=top 107
noncomputable abbrev acr:ax:=top 108
noncomputable abbrev acs:ax:=top 109
noncomputable abbrev acu:ax:=top 110
noncomputable abbrev acv:ax:=top 111
noncomputable abbrev acw:ax:=top 112
noncomputable abbrev acx:ax:=nT 0
noncomputable abbrev acy:ax:=nT 1
noncomputable abbrev acz:ax:=nT 2
noncomputable abbrev acA:ax:=nT 3
noncomputable abbrev acB:ax:=nT 4
noncomputable abbrev acC:ax:=nT 5
noncomputable abbrev acD:ax:=top 139
noncomputable abbrev acE:ax:=top 140
noncomputable abbrev acF:ax:=top 141
noncomputable abbrev acG:ax:=top 142
noncomputable abbrev acH:ax:=top 143
noncomputable abbrev acI:ax:=top 144
noncomputable abbrev acJ:ax:=top 145
noncomputable abbrev acK:ax:=top 146
noncomputable abbrev acL:ax:=top 147
noncomputable abbrev acM:ax:=top 148
noncomputable def gT(s:PySem.W.SharedT)(a:Addr):bZ Obj:=fs (Nat.blt a s.n) ((s.tree.get a).bind PySem.W.alive) ae
theorem aNc{s:PySem.W.SharedT}{a:Addr}{o:Obj}(e:be (gT s a)):be (s.abs.heap.get? a):=by unfold gT at e;rw[PY];{rename_i l;rw[aO u g (Option.bind_eq_some_iff.mp e)];exact L (PySem.W.abs_get (Nat.blt_eq.mp l) g) e};{rw[dV]}
theorem acN{g:ei->bZ Obj}{a:Addr}{o:Obj}:∀{l:bg},be (Ml a (Mm (D6 (g a))))->be (g a)|[],e=>by{rw[dV]}|b::l,e=>by cases q:g b with|none=>{rw[a6 (List.filterMap_cons_none (de q))];exact acN e}|some u=>rw[a0Z (b:=(b,u)) (de q),agN]at e;cases J:a==b with|true=>{rw[a6 J,dV,J (eq_of_beq J) q]}|false=>rw[a6 J];exact acN e
noncomputable def asN:bg:=[3,27,28,30,31,41,42,48,49,55,56,62,63,67,68,72,73,79,80,86,87,88,94,95,101,102,108,109,115,116,122,123,129,130,136,137,143,144,150,151,155,156,162,163,169,170,176,177,183,184,190,191,197,198,204,205,211,212,225,226,232,233,239,240,246,247,253,254,258,259,265,266,268,269,279,280,293,294,300,301,307,308,312,313,315,316,324,325,329,330,334,335,341,342,346,347,353,354,358,359,365,366,372,373,379,380,386,387,393,394,400,401,407,408,414,415,419,420,426,427,431,432,438,439,445,446,450,451,457,458,464,465,471,472,478,479,485,486,490,491,497,498,502,503,507,508,514,515,519,520,533,534,540,541,547,548,554,555,561,562,568,569,575,576,578,579,589,590,591,592,598,599,605,606,612,613,619,620,626,627,633,634,640,641,647,648,654,655,659,660,661,662,675,676,682,683,689,690,696,697,703,704,710,711,713,714,722,723,727,728,734,735,741,742,746,747,753,754,760,761,767,768,774,775,781,782]
noncomputable def KT(s:PySem.W.SharedT):Fg:=(asN.filterMap (D6 (gT s a)))
theorem aNe(s:PySem.W.SharedT):(KT s).In agL:=sY (aNc (acN e))
noncomputable def adr(K:Fg)(x:Str):ei:=KC (fn x)
noncomputable def RQ(K:Fg)(C:Addr)(x:Str):ei:=KC (hB x)
noncomputable def fdOf(K:Fg)(f:Addr):U3:=qF fd Mn
noncomputable def oF(K:Fg)(q:Str)(f:Addr):beY:=qF (aa ({fd with kwdefaults:= .none,doc:= .none,pyModule:= .none,annotations:=ae,code:= .none,closureTuple:= .none},a00 K fd.code q,U4 K rE)) ae
noncomputable def oE(x q:Str)(st:Stmt):beY:=aa (aA3 x q (aqe st) (RP st) Eh .none .none .none .none ae .none .none,ab,ab)
noncomputable def abN:EW:=["len","range","enumerate","zip","reversed","sorted","set","list","tuple","max","min","all"]
noncomputable def itN:aO gA Int:=[("HEADER_BYTES",20),("POINT_BYTES",8),("LINE_BYTES",4),("MARK_BYTES",12),("LEAST_SIDE",16),("MOST_SIDE",1048575),("LEAST_POINTS",4),("MOST_POINTS",4096),("LEAST_LINES",4),("MOST_LINES",8192),("LEAST_MARKS",1),("MOST_MARKS",2048),("OUTSIDE",0),("FRAME_PLACE",20),("LEAD",0),("ERASE",1),("MOVE",2),("MARK",3),("DROP",4),("LEAST_LEAD",2),("MOST_LEAD",64),("MOST_STEPS",65536),("DONE",0),("NO_SUCH_THING",-2),("TOO_MANY_STEPS",-3),("NOT_TAKEN",-5),("FIRST_PLACE",16),("CALL_OPEN",1),("CALL_BARE",2),("CALL_LEAD",3),("CALL_ERASE",4),("CALL_MOVE",5),("CALL_MARK",6),("CALL_DROP",7),("CALL_UNDO",8),("CALL_REDO",9),("CALL_COUNT",10),("CALL_PLAN",11),("CALL_READ",13),("COUNT_DONE",0),("COUNT_UNDONE",1),("COUNT_PANES",2),("NO_RECORD",-9),("OUT_OF_RANGE",-1),("TOO_LONG",-6),("MOST_LENGTH",4294967295),("MOST_KIND",65535),("MOST_CARTOON_BYTES",131072),("MOST_SAVED_BYTES",67108864)]
noncomputable def tpN:aO gA aQ:=[("OPENING",aIy),("RECORD_OPENING",aIz),("STEP_BYTES",[14,5,11,15,3]),("WITH_ROW",[1,3,13])]
noncomputable def fnN:aO gA ax:=[("point_place",aa5),("line_place",aa6),("mark_place",aa7),("byte_count",aa8),("ends_of",aa9),("numbered",aa_),("in_order",aa'),("frame_alone",aba),("number_at",abb),("two_bytes",abc),("four_bytes",abd),("opening_fault",abe),("size_fault",abf),("header_fault",abg),("point_at",abh),("line_at",abi),("mark_at",abj),("drawing_told",abk),("point_bytes",abl),("line_bytes",abm),("mark_bytes",abn),("cartoon_bytes",abo),("turn",abp),("lies_inside",abq),("crosses",abr),("count_left",abt),("left_to_right",abB),("panes_of",abG),("lines_between",abH),("neighbours_of",abI),("first_loose",abJ),("walk_deep",abK),("first_unreached",abL),("earliest_back",abM),("first_cut",abO),("cartoon_told",abQ),("judge",abR),("same_lines",abS),("net_fault",abT),("form_fault",abU),("points_fault",abV),("lines_fault",abW),("frame_fault",abX),("edge_stands",abY),("tangle_fault",abZ),("is_tangled",ab0),("ways_fault",ab1),("marks_fault",ab2),("first_misplaced",ab3),("first_repeated",ab4),("drawing_after",ab5),("redrawn",ab6),("joined",ab7),("parted",ab8),("with_lead",ab9),("with_erased",ab_),("with_moved",ab'),("with_mark",aca),("with_dropped",acb),("refusal",ack),("saved_bytes",acm),("step_bytes",acn),("record_told",aco),("head_fault",acp),("steps_told",acq),("steps_fault",acr),("step_fault",acs),("step_size",acu),("step_at",acv),("lead_at",acw),("lengths_fit",acD),("mark_fits",acE),("in_range",acF),("mark_told",acG),("row_told",acH),("step_told",acI),("told_of",acJ),("counted",acK),("with_count",acL),("answers",acM)]
noncomputable def atN:aO gA EW:=[("Drawing",an7),("Sweep",["passed","gaps","links","sides"]),("Panes",["sweep","mark_gaps"]),("Record",["cartoons","steps","done"]),("Desk",["record"])]
noncomputable def meN:aO gA aLM:=[dm "new_region" "Sweep.new_region" abv,dm "region" "Sweep.region" abw,dm "link" "Sweep.link" abx,dm "gap_at" "Sweep.gap_at" aby,dm "gaps_above" "Sweep.gaps_above" abz,dm "pass_point" "Sweep.pass_point" abA,("Panes","home","Panes.home",abD),("Panes","homes_beside","Panes.homes_beside",abE),("Panes","how_many","Panes.how_many",abF),dn "cartoon" "Record.cartoon" ace,dn "undone" "Record.undone" acf,dn "take" "Record.take" acg,dn "forget_undone" "Record.forget_undone" ach,dn "undo" "Record.undo" aci,dn "redo" "Record.redo" acj,("Desk","answer","Desk.answer",acy),("Desk","begin_from_cartoon","Desk.begin_from_cartoon",acz),("Desk","begin_bare","Desk.begin_bare",acA),("Desk","begin_from_saved","Desk.begin_from_saved",acB),("Desk","begin","Desk.begin",acC)]
noncomputable def FW:aO gA (gA×ax):=[("Drawing","Drawing.__init__",aa4),("Sweep","Sweep.__init__",abu),("Panes","Panes.__init__",abC),("Record","Record.__init__",acd),("Desk","Desk.__init__",acx)]
noncomputable def yu:bZ pE->cf|some (some (.ref _))=>ab|_=>ah
noncomputable def RR:bZ pE->en|some (some (.int i _))=>xv|_=>ae
noncomputable def vI:cS->en| .int i _=>xv|_=>ae
noncomputable def RS(K:Fg)(x:Str):bZ (cS×bL en):=match vN (dp x)with|some ⟨c,_,.seq ar _,_⟩=>aa (c,ar.toList.map vI)|_=>ae
noncomputable def nE(e:DictEntry):Int×en×en:=(e.hash,vI e.key,vI e.val)
noncomputable def nP(p:Int×Int):Int×en×en:=(hashInt p.1,aa p.1,aa p.2)
noncomputable def nmN:aO Int Int:=[(1,0),(2,6),(3,4),(4,2),(5,3),(6,5),(7,1),(8,0),(9,0),(10,1),(11,0),(12,0),(13,0)]
noncomputable def nmF(K:Fg):bZ (cS×nj×aO Int (en×en)×EA):=match vN (dp "NUMBERS")with|some ⟨c,d,.dict a7 _,sl⟩=>aa (c,d,Mo nE,sl)|_=>ae
noncomputable def clF(K:Fg)(C:Addr)(l:EW):=(a03 K C Str.empty&&a02 K C&&aA4 K C&&a01 K C&&U4 K xi,hB "__setattr__",kz (fun f:gA=>hB f))
noncomputable def mtF(K:Fg)(C:Addr)(m q:Str):=(yu (hB m)&&a04 K (.ref ZH),oF K q ZH)
noncomputable def facts(K:Fg):=k (fun x:gA=>fn x) (RR (fn p.1)) (bn (n2 (RS K p.1))) aKG (bn (n2 bch)) (bn (n2 a'N)) (bn (ln p.2.1 (aS p))) (bn (ln "__init__" p.2.1))
noncomputable def aNi:=k a7A (aa p.2) (bn (ab,a9I)) (ab,aMJ) (bn beZ) (bn (ab,bci)) (bn (ab,bd5)) (bn (ab,bd4))
universe GA
universe z
section z
set_option tactic.hygienic true
open PySem PySem.W PyProof.Rows
namespace HX
noncomputable def fo{I:Type}(l:O_):a9C:= @List.rec Obj (as a9C) (ci (k [])) (fun o _ d6 k=> @Obj.rec (as I) (fun a b c d=>d6 (fun J=>k (d a b c d::J))) o) l
theorem aqh{I:Type}:∀(l:O_)(k:O_->I),fo l k=k l|[],_=>rfl|⟨_,_,_,_⟩::l,k=>aqh l _
noncomputable def kp:ao->uj->uj|[],J=>J|0::l,_::J=>kp l J|(n+1)::l,a::J=>a::kp (n::l) J|_,[]=>[]
noncomputable def q2:Mj:=DT (kp [0,13,23,4,6,6,16,16,7,13] aA5)
noncomputable abbrev Xt2(s:Shared):cf:=BV q2
universe HX
universe z
section z
set_option tactic.hygienic true
open PySem PySem.W PyProof.Rows
namespace HX
noncomputable def q3:Mj:=DT (P.main.body.drop 148)
noncomputable def l3:cX:=P.main.scope.names.map fN
noncomputable abbrev X3(s:Shared):cf:=BV q3
universe HX
universe z
section z
set_option tactic.hygienic true
section z
namespace HX
open PySem PySem.W PyProof.Rows
noncomputable abbrev run(w:World)(os:OsState):bZ Ha:=w (f3 xT) (xT) P 10068 (s0 w os) P
noncomputable def YH(h:Heap):Prop:=∃K:Frag,ur/\a05 K=agO
noncomputable abbrev lk(w:World)(s:SharedT)(l:O_):=(aA2 (U1 aA5) xT al2&&aA1 P al2&&aA0 bgX&&aAZ xT al2,a06 q3 l3 (U1 aA5) X3 ab bgX)
theorem aNj(a:beh)(b:ba2):bij:=by refine Mq bo aNb z1 (fun w os=>?_);obtain⟨s,J,l⟩:=zi (a w os);obtain⟨c1,B,i1⟩:=zi (b w os);cases J.symm.trans B;rw[aqh]at l;rw[eA a7 d5 l];refine Option.map_eq_some_iff.mpr (aJ s J);exact sQ a7 (sQ d5 (eq_true (av (GA.aNe s) i1)))
universe HX
universe z
universe z
section z
set_option tactic.hygienic true
namespace HX
open PySem PySem.W PyProof.Rows
noncomputable abbrev ou(b:Bool)(w:World):=w.withFollow "special-get-raises" b
theorem ra0(w:World)(os):cv (ly (ou ah w)) (wN (ou ah w)) aGG:=bhq
theorem ra1(w:World)(os):cv (ly (ou ab w)) (wN (ou ab w)) aGG:=bhq
theorem rb0(w:World)(os):cv (ly (ou ah w)) aGB agO:=bf'
theorem rb1(w:World)(os):cv (ly (ou ab w)) aGB agO:=bf'
theorem ra:beh:=n4 ra0 ra1
theorem rb:ba2:=n4 rb0 rb1
theorem lft:bij:=aNj ra rb
abbrev R:=PySem.Challenge.rw_glassrecord_s01_answers
theorem wa:namesResolve U5=ab:=cC
theorem wb:noRoadLSs {strict:=! eC (U1 agP) cThrough.contains,foot:=ae,bare:=a07 (readsOut U5 agP) [Hc "vars",Hc "dir",Hc "locals"]} agP=ab:=cC
theorem wc:namesMeet U5 agP (fun _ n=>attrL n)=ab:=cC
theorem ws:R.wellSaid=ab:=by have g:∀{a b:Bool},a=ab->b=ab->da a b:=jM (Bool.and_eq_true_iff.mpr ⟨x,y⟩);have e:looksOpen U5=ab:=g (g (g (g (g cC cC) wa) cC) wb) wc;exact g (g (g (g (g e cC) cC) cC) cC) cC
theorem co:da (chainsOk q3) (opensWell U5):=cC
theorem br:R.prog.bare:=f rfl rfl rfl (bd cC)
theorem xa:z i (R.pre i=ab) (a08 i=ab):=v [.list (mL 8)] cC cC
universe HX
universe z
theorem cV{a b l J:Nat}(h:cN)(e:a'k):gN:=Nat.le_of_add_le_add_right (cp e (a09 h J))
theorem aNq{a b l J:Nat}(h:cN)(e:a'm):gN:=cV h e
theorem cg{a b c d l J:Nat}(h:cN)(i:eQ)(e:bC b d a c):gN:=cV FI e
theorem RT{a b c d l J:Nat}(h:cN)(i:eQ)(e:bD b d a c):gN:=cg h i e
theorem hp{a b c d x y l J:Nat}(h:cN)(i:eQ)(j:gw)(e:bfR):gN:=cg FI j e
theorem aqi{a b c d x y l J:Nat}(h:cN)(i:eQ)(j:gw)(e:bfT):gN:=hp h i j e
theorem uW{a b c d x y z w l J:Nat}(h:cN)(i:eQ)(j:gw)(k:rS)(e:bfS):gN:=hp FI j k e
theorem RU{a b c d x y z w l J:Nat}(h:cN)(i:eQ)(j:gw)(k:rS)(e:bfU):gN:=uW h i j k e
theorem Ks{a b c d x y z w u v l J:Nat}(h:cN)(i:eQ)(j:gw)(k:rS)(m:u<=v)(e:bC (b+d+y+w) v als u):gN:=uW FI j k m e
theorem bi'{a b c d x y z w u v l J:Nat}(h:cN)(i:eQ)(j:gw)(k:rS)(m:u<=v)(e:bD (b+d+y+w) v als u):gN:=Ks h i j k m e
theorem aN0{l J:Nat}(e:ep l J):gN:=e
theorem aNr{l J:Nat}(e:es l J):gN:=aN0 e
theorem aF1{a b:Nat}(h:cN)(e:ep (b+1) a):cF:=iO _ (cp e h)
theorem bja{a b:Nat}(h:cN)(e:es (b+1) a):cF:=aF1 h e
theorem gx{a b c d:Nat}(h:cN)(i:eQ)(e:a'l):cF:=aF1 FI e
theorem bjb{a b c d:Nat}(h:cN)(i:eQ)(e:a'n):cF:=gx h i e
theorem yv{a b c d x y:Nat}(h:cN)(i:eQ)(j:gw)(e:bf0):cF:=gx FI j e
theorem bjc{a b c d x y:Nat}(h:cN)(i:eQ)(j:gw)(e:bf2):cF:=yv h i j e
theorem aF4{a b c d x y z w:Nat}(h:cN)(i:eQ)(j:gw)(k:rS)(e:bf1):cF:=yv FI j k e
theorem bjd{a b c d x y z w:Nat}(h:cN)(i:eQ)(j:gw)(k:rS)(e:bf3):cF:=aF4 h i j k e
theorem aF5{a b c d x y z w u v:Nat}(h:cN)(i:eQ)(j:gw)(k:rS)(m:u<=v)(e:ep (b+d+y+w+v+1) (OS+z+u)):cF:=aF4 FI j k m e
theorem bje{a b c d x y z w u v:Nat}(h:cN)(i:eQ)(j:gw)(k:rS)(m:u<=v)(e:es (b+d+y+w+v+1) (OS+z+u)):cF:=aF5 h i j k m e
theorem aQ1{a b l J:Nat}(h:a=b)(e:bdS):l=J:=a0_ (aA6 (gB _ h))
theorem aQ2{a b c d l J:Nat}(h:a=b)(i:c=d)(e:bge):l=J:=aQ1 aoX e
theorem aQ3{a b c d x y l J:Nat}(h:a=b)(i:c=d)(j:x=y)(e:bgf):l=J:=aQ2 (a:=a+c) aoX j e
theorem r_{a b l J:Int}(h:cN)(e:a'k):gN:=Int.le_of_add_le_add_right (aA7 e (Int.add_le_add_left h J))
theorem aqm{a b l J:Int}(h:cN)(e:a'm):gN:=r_ h e
theorem Kt{a b c d l J:Int}(h:cN)(i:eQ)(e:bC b d a c):gN:=r_ Rg e
theorem FX{a b c d l J:Int}(h:cN)(i:eQ)(e:bD b d a c):gN:=Kt h i e
theorem se{a b c d x y l J:Int}(h:cN)(i:eQ)(j:gw)(e:bfR):gN:=Kt Rg j e
theorem acW{a b c d x y l J:Int}(h:cN)(i:eQ)(j:gw)(e:bfT):gN:=se h i j e
theorem aI4{a b c d x y z w l J:Int}(h:cN)(i:eQ)(j:gw)(k:rS)(e:bfS):gN:=se Rg j k e
theorem bjg{a b c d x y z w l J:Int}(h:cN)(i:eQ)(j:gw)(k:rS)(e:bfU):gN:=aI4 h i j k e
theorem aI0{l J:Int}(e:ep l J):gN:=e
theorem bjh{l J:Int}(e:es l J):gN:=aI0 e
theorem aG1{a b:Int}(h:cN)(e:ep (b+1) a):cF:=Int.lt_irrefl _ (aA7 e h)
theorem bji{a b:Int}(h:cN)(e:es (b+1) a):cF:=aG1 h e
theorem Ku{a b c d:Int}(h:cN)(i:eQ)(e:a'l):cF:=aG1 Rg e
theorem acY{a b c d:Int}(h:cN)(i:eQ)(e:a'n):cF:=Ku h i e
theorem RV{a b c d x y:Int}(h:cN)(i:eQ)(j:gw)(e:bf0):cF:=Ku Rg j e
theorem bjj{a b c d x y:Int}(h:cN)(i:eQ)(j:gw)(e:bf2):cF:=RV h i j e
theorem aG4{a b c d x y z w:Int}(h:cN)(i:eQ)(j:gw)(k:rS)(e:bf1):cF:=RV Rg j k e
theorem bjk{a b c d x y z w:Int}(h:cN)(i:eQ)(j:gw)(k:rS)(e:bf3):cF:=aG4 h i j k e
theorem RW{a b l J:Int}(h:a=b)(e:bdS):l=J:=eP
theorem aP2{a b c d l J:Int}(h:a=b)(i:c=d)(e:bge):l=J:=RW aoX e
theorem aP3{a b c d x y l J:Int}(h:a=b)(i:c=d)(j:x=y)(e:bgf):l=J:=aP2 (a:=a+c) aoX j e
theorem Eq.l{a b:Nat}(h:a=b):cN:=qL h
theorem Eq.g{a b:Nat}(h:a=b):b<=a:=qL agQ
theorem Eq.m{a b:Int}(h:a=b):cN:=a0' h
theorem Eq.n{a b:Int}(h:a=b):b<=a:=a0' agQ
theorem aNl{a b:Nat}(h:¬cN):b+1<=a:=Hd h
theorem qw{a b:Nat}(h:¬a<b):b<=a:=zj h
theorem aMl{a b:Int}(h:¬cN):b+1<=a:=Int.lt_of_not_ge h
theorem aMt{a b:Int}(h:¬a<b):b<=a:=agR h
theorem aDe{a b:Nat}(h:a9_=ab):cN:=Int.ofNat_le.mp (CJ h)
theorem By{a b:Nat}(h:bU (v a) b=ab):a<b:=Int.ofNat_lt.mp (CJ h)
theorem aDf{a b:Nat}(h:¬a9_=ab):b<a:=Hd (J (h (dI (aA8 z))))
theorem Bz{a b:Nat}(h:¬bU (v a) b=ab):b<=a:=zj (J (h (dI (U6 z))))
theorem aS(x y:Nat):x<=x-y+y:=Nat.sub_le_iff_le_add.mp aY
theorem aR{x y:Nat}(h:y<=x):x-y+y<=x:=qL (Mr h)
theorem aC{x y:Nat}(h:gw):v x<=y:=aA8 h
theorem Kv(x:Nat):xC<=x:=Int.natCast_nonneg x
theorem mj{x y:Nat}(h:x<y):v x+1<=y:=U6 h
theorem aW{a b:Nat}(h:cN)(n:¬a=b):a<b:=aA9 h n
theorem aV{a b:Nat}(h:cN)(n:¬b=a):a<b:=aA9 h (hv n)
theorem RX{I:Type}{l:ba}{k n:Nat}(h:ec<=n):t (He k)+t (oP (k+1))<=n:=by rw[eT,sR];lia
theorem FY{a b c d e f:Nat}(h:a<b\/a=b/\d<e)(g:b<c\/b=c/\e<f):a<c\/a=c/\d<f:=mL (.inl (g.elim (ju h) (fun g=>g.1▸h))) (g.elim (fun g=> .inl (h.1▸g)) (fun g=>e1 (h.1.trans g.1) (ju h.2 g.2)))
section z
theorem FZ:∃e:(∀{I:Type} [eK I],(cv I)->I),∀{I:Type} [eK I](p:cv I),p (e p)->∀z,p z:=⟨bn (a1b (J (¬p z))),fun p h z=>qM (ee (a1a (p:=J (¬p z)) ⟨z,n⟩ h))⟩
noncomputable def RY{I:Type}(_:eK I)(p:cv I):I:=agS FZ p
def Kd{I:Type}(_:I)(q:Prop):Prop:=q
theorem aE1{I:Type} [o:eK I]{p:cv I}(h:Kd (RY o p) (p (RY o p))):∀z,p z:=aA_ FZ p h
variable{A B C D E F G H I d0 K Z:Type}
noncomputable def xE2(o:eK (A×B))(p:au A B):A×B:=g8 (p z.1 z.2)
theorem aE2 [o:eK (A×B)]{p:au A B}(y:au (aot).1 (aot).2 (p (aot).1 (aot).2)):∀a b,p a b:=ft (bO (A×B) (p z.1 z.2) rQ)
noncomputable def RZ(o:eK apF)(p:be A B C):apF:=g8 bcl
theorem aE3 [o:eK apF]{p:be A B C}(y:au (Rh).1 (aV Rh) (Kd (Rh).2.2 (p (Rh).1 (aV Rh) (Rh).2.2))):∀a b c,p a b c:=fun a b c=>bO apF bcl (a,b,c)
noncomputable def xE4(o:eK apW)(p:aa A B C D):apW:=g8 be2
theorem aE4 [o:eK apW]{p:aa A B C D}(y:au (FJ).1 (aV FJ) (au (bW FJ) (FJ).2.2.2 (p (FJ).1 (aV FJ) (bW FJ) (FJ).2.2.2))):z6 (p a b c d):=fun a b c d=>bO apW be2 (a,b,c,d)
noncomputable def xE5(o:ip E)(p:lc (cv E)):hu E:=g8 bgI
theorem aE5 [o:ip E]{p:lc (cv E)}(y:T yq yq yq yq (Kd (a2 (yq)) (p (yq).1 (aV yq) (bW yq) (cB yq) (a2 (yq))))):∀a b c d e,p a b c d e:=fun a b c d e=>bO (hu E) bgI (a,b,c,d,e)
noncomputable def xE6(o:ip (E×F))(p:lc (au E F)):hu (E×F):=g8 bhJ
theorem aE6 [o:ip (E×F)]{p:lc (au E F)}(y:T rY rY rY rY (au (bY rY) (jt rY) (p (rY).1 (aV rY) (bW rY) (cB rY) (bY rY) (jt rY)))):∀a b c d e f,p a b c d e f:=fun a b c d e f=>bO (hu (E×F)) bhJ (a,b,c,d,e,f)
noncomputable def xE7(o:ip apG)(p:bds):hu apG:=g8 bik
theorem aE7 [o:ip apG]{p:bds}(y:T ot ot ot ot (au (bY ot) (ct ot) (Kd (eZ (ot)) (p (ot).1 (aV ot) (bW ot) (cB ot) (bY ot) (ct ot) (eZ (ot)))))):∀a b c d e f g,p a b c d e f g:=fun a b c d e f g=>bO (hu apG) bik (a,b,c,d,e,f,g)
noncomputable def xE8(o:ip apX)(p:bfA):hu apX:=g8 biF
theorem aE8 [o:ip apX]{p:bfA}(y:T lr lr lr lr (au (bY lr) (ct lr) (au (dv lr) (eZ (lr).2) (p (lr).1 (aV lr) (bW lr) (cB lr) (bY lr) (ct lr) (dv lr) (eZ (lr).2))))):∀a b c d e f g h,p a b c d e f g h:=fun a b c d e f g h=>bO (hu apX) biF (a,b,c,d,e,f,g,h)
noncomputable def xE9(o:kD I)(p:o4 (cv I)):kx I:=g8 biI
theorem aE9 [o:kD I]{p:o4 (cv I)}(y:T jm jm jm jm (au (bY jm) (ct jm) (au (dv jm) (d7 jm) (Kd (a2 (a2 (jm))) (p (jm).1 (aV jm) (bW jm) (cB jm) (bY jm) (ct jm) (dv jm) (d7 jm) (a2 (a2 (jm)))))))):∀a b c d e f g h i,p a b c d e f g h i:=fun a b c d e f g h i=>bO (kx I) biI (a,b,c,d,e,f,g,h,i)
noncomputable def aqF(o:kD (I×d0))(p:a8C):kx (I×d0):=g8 biR
theorem aqG [o:kD (I×d0)]{p:a8C}(y:T hX hX hX hX (au (bY hX) (ct hX) (au (dv hX) (d7 hX) (au (fr hX) (a2 (jt hX)) (p (hX).1 (aV hX) (bW hX) (cB hX) (bY hX) (ct hX) (dv hX) (d7 hX) (fr hX) (a2 (jt hX))))))):∀a b c d e f g h i j,p a b c d e f g h i j:=fun a b c d e f g h i j=>bO (kx (I×d0)) biR (a,b,c,d,e,f,g,h,i,j)
noncomputable def aqH(o:kD apE)(p:bdN):kx apE:=g8 biX
theorem aqI [o:kD apE]{p:bdN}(y:T hl hl hl hl (au (bY hl) (ct hl) (au (dv hl) (d7 hl) (au (fr hl) (k8 hl) (Kd a82 (p (hl).1 (aV hl) (bW hl) (cB hl) (bY hl) (ct hl) (dv hl) (d7 hl) (fr hl) (k8 hl) a82)))))):∀a b c d e f g h i j k,p a b c d e f g h i j k:=fun a b c d e f g h i j k=>bO (kx apE) biX (a,b,c,d,e,f,g,h,i,j,k)
noncomputable def aqJ(o:kD apV)(p:bfN):kx apV:=g8 bi4
theorem ml [o:kD apV]{p:bfN}(y:T gu gu gu gu (au (bY gu) (ct gu) (au (dv gu) (d7 gu) (au (fr gu) (k8 gu) (au a8v (oF (gu).2) (p (gu).1 (aV gu) (bW gu) (cB gu) (bY gu) (ct gu) (dv gu) (d7 gu) (fr gu) (k8 gu) a8v (oF (gu).2))))))):∀a b c d e f g h i j k l,p a b c d e f g h i j k l:=fun a b c d e f g h i j k l=>bO (kx apV) bi4 (a,b,c,d,e,f,g,h,i,j,k,l)
universe z
section z
open PySem
instance nA:eK Around:=⟨{}⟩
instance nS:eK vM:=⟨{}⟩
instance nQ:eK agM:=⟨bil⟩
instance nW:eK oO:=nQ.elim (bn ⟨⟨hp 0,p⟩⟩)
instance nP:eK U7:=⟨al5⟩
instance nT:eK Gla.Pt:=⟨jR⟩
instance nM:eK Hf:=⟨v jR 0 0⟩
instance nF:eK Ms:=⟨jR⟩
instance nE:eK CK:=⟨.drop 0⟩
universe z
namespace L2
open PySem PySem.Spec PyProof.Rows
abbrev Key:=Sum Int Str
noncomputable def R0:dK Key cS| .inl k,v=>Value.isInt k v| .inr x,v=>Value.isStrOf x v
noncomputable def aNy(w:World):Key->Int| .inl k=>hashInt k| .inr x=>hashStr w x
theorem aNz:∀{k:Key}{v:Value},R0 k v=ab->(∃i t,k=hx i/\v=QN)\/(∃x t,k=U8 x/\v=aou)| .inl i,v,h=>by{rw[cl t (aA' (k:=i) (v:=v) h)];exact .inl (ce i t e)}| .inr x,v,h=>by rw[cl t (a1c (x:=x) (v:=v) h)];exact bj x t rfl e
theorem ac2(i:Int)(t:Tok):R0 (.inl i) (e0 i)=ab:=Qf
theorem aNA(x:Str)(t:Tok):R0 (.inr x) (.str x t)=ab:=Qf
theorem aNB(a b:Int):ar (hx a:Key) (hx b)=(a==b):=Bk
theorem aNC(a b:Str):ar (U8 a:Key) (U8 b)=ar a b:=aT
theorem aND(a:Int)(b:Str):ar (hx a:Key) (U8 b)=ah:=a9q
theorem aNE(a:Str)(b:Int):ar (U8 a:Key) (hx b)=ah:=a9q
noncomputable def R1(prog:Program)(w:World):PySem.KeyKind cO w Key where is:=R0;hash:=aNy w;inj:=fun v a b b3 U=>by{rw[vm b3];{rw[n U j u e y u e];{rw[aKC];rw[b4]};rw[cY]};{rw[n U j u e y u e,cY];{rw[aKC];rw[b4]}}};byValue:=fun k v h=>by{rw[vm h]<;>rfl};pyHash:=fun d3 h=>by{rw[vm d3,l (wpAny_pyHash_int h),l (wpAny_pyHash_str h)]};eqBool:=fun hu d3 h=>by{rw[vm hu];{rw[bhe,gP aNB (wpAny_eqBool_int h),gP aND (a1e i t y u _ _ _ _ h)]};{rw[bhe,gP aNE (a1d x t j u _ _ _ _ h),gP aNC (wpAny_eqBool_str h)]}};«strs»:=fun k x t v h=>by rw[n h i u e y u e,cY];{rw[aKC,Jv,ls v]}
theorem aNF(prog:Program)(w:World)(i:Int)(t:Tok):(R1 cO w).is (.inl i) (e0 i)=ab:=ac2 i t
theorem aNG(prog:Program)(w:World)(x:Str)(t:Tok):(R1 cO w).is (.inr x) (.str x t)=ab:=aNA x t
universe L2
namespace L2
open PySem PySem.Spec PyProof.Rows
set_option genInjectivity true in inductive V where|bC|bl(b:Bool)|int(i:Int)|str(x:Str)|iE(b:fv Mt)|R3(b:UInt64)|ref(a:Addr)|ty(n:String)deriving DecidableEq
instance nV:eK V:=⟨.bC⟩
def RelV:au V cS| .bC,u=>u=CL| .bl b,u=>u=vO b| .int i,u=>jU QN| .str x,u=>jU aou| .iE b,u=>jU (a1g b t)| .R3 b,u=>jU (a1f b t)| .ref a,u=>u=dq a| .ty n,u=>u=Mu n
abbrev Vals:au af aM:=dE gR
theorem Vals.length{O:af}{b1:aM}(J:n_):bx=lC:=Mv J
theorem Vals.get{O:af}{b1:aM}{i:Nat}{x:V}(h:n_)(e:nq):z u (A b1 u) pR:=gb h (c_ e) (j e)
theorem Vals.set{x:V}{u:Value}(J:pR){O:af}{b1:aM}(i:Nat)(h:n_):iP (O.set i x) (b1.set i u):=by induction h generalizing i with|nil=>{rw[kO]}|cons q t j=>cases i with|zero=>{rw[cB J t]}|succ i=>rw[cB q (j i)]
theorem Vals.append{O d7:af}{b1 ws:aM}(h:n_)(s:iP d7 ws):iP (O++d7) (b1++ws):=a'Y
theorem Vals.take{O:af}{b1:aM}(n:Nat)(h:n_):iP (O.take n) (b1.take n):=by induction h generalizing n with|nil=>{rw[a1h,a1h];exact .nil}|cons J t j=>cases n with|zero=>{rw[kO]}|succ n=>rw[cB J (j n)]
theorem Vals.drop:∀{O:af}{b1:aM}(n:Nat),n_->iP (Hg n) (b1.drop n)|_,_,0,J=>J|_,_,_+1,.nil=> .nil|_,_,n+1,.cons _ t=>Vals.drop n t
def sf:au jO pE|some v,some u=>jk|none,none=>gC|_,_=>cF
def KV{c:Type}:au hV Fw:=dE (fun(p:c×V)(q:c×cS)=>p.1=q.1/\gR p.2 q.2)
noncomputable def kV:Key->V| .inl i=>hS| .inr x=>Jw
set_option genInjectivity true in inductive HO where|lst(O:af)|tup(O:af)|dK(F:gv)|dT(F:uD)|set(r:Int->cf)(n:Nat)|ins(C dx:Addr)(G:hW)|own(x:Addr)|xd(G:hW)|met(f x:Addr)|rng(lo hi:Int)|yw(o:Obj)(u:HO)|Kw(c5:dX)|ext(i:cv iN)
instance nH:eK HO:=⟨amb⟩
abbrev Hp:=ei->bZ HO
noncomputable def upd(H:Hp)(a:Addr)(o:HO):Hp:=il (av (b=a) o (H b))
theorem ak{H:Hp}{a:Addr}{o:HO}:be (upd H a o a):=by delta upd;rw[cP]
theorem bX{H:Hp}{a b:Addr}{o:HO}(h:b≠a):upd H a o b=H b:=by delta upd;rw[aO h]
theorem yx{H:Hp}{a:Addr}{o u:HO}:upd Qy a u=ad a u:=by funext b;delta upd;split<;>rfl
theorem qx{H:Hp}{a b:Addr}{o u:HO}(h:Y6)(h':fs u)(d:o≠u):AS:=fq
theorem ft{H:Hp}{a b:Addr}{o:HO}(h:Y6)(h':gs):AS:=fq
section z
variable(P:Program)(w:World)
def ow(H:Hp)(h:Heap)(a:Addr):cv HO| .lst O=>Jl/\BX (EF/\bA a J0)| .tup O=>Jl/\∃ar:aM,EF/\Mw h a eU| .dK F=>np apS| .dT F=>np (∃O:J9,dE (fun(p:bL Key×V)(q:bL Key×ei×cS)=>bfm) F O/\qV (Hh (entryOfKey (Va tM))) (c8 (Hh fN)))| .set r n=>h.SetOf (aBa P w) a r n| .ins C dx G=>z (bh dx YT) (U_<=1000) (dx≠a) (bA a (U9 C dx)) (I j (agT dx j) (∀f,aJG) a9r)| .own _=>∃o,pS| .xd G=>z j (agT a j) (∀f,aJG)| .rng lo hi=>∃t u v,bA a (l5 "range" a7i)| .yw o u=>pS/\ow H h a u| .Kw c5=>bA a {cls:= .none,data:= .fields c5}| .met f x=>bA a (PySem.W.methodObj rE kQ)| .ext i=>i h/\(∃o,pS)/\∀a3 a9:iN,i a3->ad o (be (a3.get? a)) (be (a9.get? a))->i a9
def BA(H:Hp)(h:Heap):Prop:=j a o Y6 (he o)
universe z
section z
variable{P:Program}{w:World}{H L:Hp}{h h':Heap}{a:Addr}{o:HO}
theorem ow.lt(x:he o):a<mF:=by revert x;revert P w H h a o;refine aa3;rw[n P w H h a o];intro x;cases o with|lst O=>{obtain⟨_,_,_,_,e⟩:=x;exact hg}|tup O=>{obtain⟨_,_,_,p⟩:=x;exact p.lt}|dK F=>{rw[bdD]}|dT F=>{rw[bdD]}|set r n=>{obtain⟨o,_,_,_,e,_⟩:=x;exact hg}|ins C dx G=>{obtain⟨_,_,_,e,_⟩:=x;exact hg}|own y=>{rw[sg x];exact hg}|xd G=>{obtain⟨_,⟨_,_,_,e,_⟩,_⟩:=x;exact hg}|rng lo hi=>{obtain⟨_,_,_,e⟩:=x;exact hg}|yw N u=>{obtain⟨e,_⟩:=x;exact hg}|Kw c5=>{rw[beo]}|met f y=>{rw[beo]}|ext i=>obtain⟨_,⟨_,e⟩,_⟩:=x;exact hg
theorem Paired.aqK{I d:Type}{F G:qr}{c:ba}{e:nO}(h:dE F c e)(f:a't):dE G c e:=by induction h with|nil=>{rw[kO]}|cons J t i=>rw[cB (f _ _ J) i]
theorem ow.qy(x:he o)(k:lB (b=a\/fs YT) (zk b))(d0:E b (fs YT) (hI YT))(c6:aMc):ow P w L h' a o:=by induction o with|lst O=>{rw[X ar n J e x];exact a z ar n J xR}|tup O=>{rw[j z ar J N e c x (c z ar J N xR c)]}|dK F=>{rw[hs vs vs J]}|dT F=>{rw[hs O O (Paired.aqK J (fun p q z=>bcQ))]}|set r n=>{rw[j N a7 e1 t e c x (c N a7 e1 t xR c)]}|ins C dx G=>{obtain⟨d,z,ne,e,j,⟨m,a7,e1,b9,c⟩,J⟩:=x;exact a (d0 _ d) z ne xR j (a m a7 e1 (ax (.inr d) b9) c) J}|own y=>{rw[cl N x];exact⟨N,xR⟩}|xd G=>{obtain⟨j,⟨m,a7,e1,e,c⟩,J⟩:=x;exact v j (a m a7 e1 xR c) J}|rng lo hi=>{obtain⟨t,u,v,e⟩:=x;exact d t u v xR}|yw N u d6=>{rw[d4 e x];exact⟨xR,d6 q⟩}|Kw c5=>{exact k a _ gm x}|met f y=>{exact k a _ gm x}|ext i=>obtain⟨p,⟨o,e⟩,st⟩:=x;exact v (st _ _ p (lJ (ax gm q))) (nt xR) st
theorem BA.lt(x:ll)(e:Y6):a<mF:=(x a o e).lt
theorem BA.fresh(x:ll)(e:mF<=a):Y a:=by cases q:H a with|none=>{rfl}|some u=>rw[dT (fJ (x.lt q) e) (iO _)]
theorem BA.kept(x:ll)(k:anp):fk H h':=fun a o e=>(x a o e).qy (fun b u _ q=>Ye) aGD (iF q)
theorem BA.laid(x:ll)(k:anp)(c2:mF<=a)(a6:ow P w Qy h' a o):fk Qy h':=sv (by have d1:=x.fresh c2;rw[N U b a];{subst U;rw[a6 ak,dV];exact a6};{rw[a6 (bX U)];exact(x b u e).qy beb (fun c q=>QL) (zQ QL)})
universe z
def Rd(H:Hp)(a:Addr)(u:HO):Prop:=cx u\/∃o,cx alk
theorem Rd.ok{P:Program}{w:World}{H:Hp}{h:Heap}{a:Addr}{u:HO}(J:k1 u)(x:ll):he u:=by rcases J with J|⟨o,J⟩;rw[l (x a u J)];{obtain⟨_,q⟩:=x a _ J;exact q}
def uX:cv (bZ HO)|some (.lst _)=>gC|some (.dK _)=>gC|some (.dT _)=>gC|some (.set _ _)=>gC|some (.ins _ _ _)=>gC|some (.ext _)=>gC|_=>cF
section z
variable{P:Program}{w:World}{H:Hp}{h h':Heap}{x e:Addr}{g:HO}
theorem BA.write(ok:ll)(h8:aHa)(a0:aLO)(k:lB (b≠e) (zk b))(a:aMa)(a6:ow P w (ad x g) h' x g):fk (ad x g) h':=qD (by have d:j c y (bh c (.own y)) (c≠x):=fun c y J z=>BN J;rw[N U b x];{subst U;rw[cR ak,kJ];exact a6};{rw[cR (bX U),N f b e];{rw[mq c4 (fs Ei)];rw[q]at c4;cases c4;obtain⟨v,d3⟩:=a;exact r2 v};{refine(ok b u q).qy (fun c v b0 J=>k c v ?_ J) (fun c J=>Y (d c b J) J) (fun c O J=>Y ((fun c O J z=>BN J) c O J) J);rw[de b0 b0,cY,cM]}})
universe z
structure Un(G ex:bg)(H L:Hp)(h h':Heap):Prop where
 keep:∀b o,c mf gs (b∉G) Za hb
 slot:∀b o,c mf gs (b∈G) Za baC
 free:f b o mf gs Za IY
 there:bd mf Za (ax g (gS b) g)
 Kx:aMc
 F0:bhm
 Ky:bdV
section z
variable{G b ex d:bg}{H a8 b7:Hp}{h a3 a9 h':Heap}{a x e:Addr}{o:HO}
theorem Un.any(u:jA a8 a3){b:Addr}{N:Obj}(q:bA b N)(n:gs)(S:Za):ax sl (a3.get? b) {N with slots:=sl}:=by by_cases U:b∈G;rw[l (u.slot b N q n U S),l ⟨N.slots,u.keep b N q n U S⟩]
theorem Un.kept(k:anp):jA H h':=a (Ds (k b N q)) (Ds ⟨N.slots,k b N q⟩) (fun _ _ _ n _=>n) (fun b N q _=>⟨N,k b N q⟩) (iF q) (fun _ _ _ q=>q) (fun _ c5 q=>o6 bB)
theorem Un.refl:jA H h:=agU (iF q)
theorem Un.laid(k:anp)(c2:mF<=a)(d1:Y a):jA Qy h' where keep:=wu Ye;slot:=a9c;free:=HU (he (fw q) c2);there:=bdu;Kx:=xz QL;F0:=yA QL;Ky:=Go (ft q d1)
theorem Un.write(h8:aHa)(a0:aLO)(k:lB (b≠e) (zk b))(a:aMa):jA (ad x o) h':=by have S:E b gs (b≠x):=fun b n z=>BN n;have U:E b gs (b≠e):=fun b n z=>ai;have c4:l b u (fs u) (¬uX (aa u)) (b≠x):=fun b u q d1 z=>ai;rw[j (Kz bdJ) (Kz ⟨a1i,bdJ⟩) (HU (S b n)) (fun b u q _=>?_) (v (xz (Y aMk q)) (yA (Y aMk q)) (Go aMk)),N f b e,l IW,a_]
universe z
noncomputable def trk(h:Heap)(H:Hp):bg:=dC mF (fy (dl (H a)))
noncomputable def ac5(h:Heap)(H:Hp):iN:=PySem.W.hideAll h (trk h H)
theorem aNH(h:Heap)(H:Hp):f3 anQ=mF:=PySem.W.hideAll_size _ _
theorem aNI{h:Heap}{H:Hp}{b:Addr}{o:Obj}(e:mf)(n:gs):iN anQ:=PySem.W.hideAll_get _ e (fun c4=>by rw[cO (vP c4).2,cR n];simp at q)
theorem aNJ{h:Heap}{H:Hp}{b:Addr}{o:Obj}(e:iN anQ):mf/\gs:=by have d3:=PySem.W.of_hideAll (trk h H) e;rw[dJ d3];cases q:H b with|none=>{rfl}|some x=>have z:dk anQ b=ae:=PySem.W.hideAll_none (trk h H) (Vb ⟨a1j (fw d3),x AB⟩);rw[a6 z,dV]
universe L2
namespace L2
open PySem PySem.Spec PyProof.Rows
structure Mod(K:PySem.W.Frag)(mg:dO)(base:Heap):Prop where
 kin:vQ aj
 glob:alP
 blt:z D (a1k aBb D) bgs
 nolimit:base.NoLimit
structure Cx where
 prog:Mj
 w:oO
 K:U2
 mg:dO
 base:iN
 A:Around
 N:cX
 F1:vM
 Kz:Hp
 env:Env
 outer:ke
 stack:ke
 ex:bg
 fn:Str->cf
 calm:cf
 pn:bw
 xe:aU
instance nX:eK Cx:=⟨a Mn Classical.ofNonempty [] uB Mn {} [] {} (a uB Mn [] [] [] (as ab) ab [] AF)⟩
noncomputable def uY(l:ke):bg:=Mm (·.frame)
noncomputable abbrev Cx.fs(X:Cx):bg:=uY Mx
def Vis(a:Scope)(x:Str):Prop:=ld (vR x)\/j5 (vR x)\/iI (vR x)
def Loc(a:Scope)(x:Str):Prop:=a9Y
def Look(env:Env)(h:Heap)(m:dO)(x:Str)(u:Value):Prop:=(ld (agV x)/\eC (m x))\/((j5 (agV x)\/iI (agV x))/\z c (aBc x=aa c) (h.IsCell c (aa u)))
structure Cx.Ok(X:Cx):Prop where
 mod:bcr
 kind:sJ aBg
 glob:a1m=CN
 blt:X.env.builtins=aBb
 above:Hi<=oQ
 inj:∀x y c,aFZ->am3->x=y
 has:E x (j5 (aBf x)\/iI (aBf x)) (ax c (Vc x) c)
 cab:l x c (aBe x=ab) aFZ (Hi<=c)
 hd:fR->X.A.handled=ae
 frames:X.A.frames=aa oR
 stk:oR=Mx\/(oR=cG::Mx/\X.env.frame=aa oQ)
 exf:bH CM (X7/\sf b)
 bs:tc (be (aBd b)/\X.Kz b=ae)
 R4:X.base.objs.size<=Hi
 aNM:tc (b∉CM)
 R5:bH CM amK
 uZ:a1l sS Mx
 F2:bH vS (X.Kz b=ae)
structure Inv(X:Cx)(pins:bw)(M:bL jO)(H:Hp)(s:Shared):Prop where
 ok:X.Ok
 os:CO=X.F1.os
 bare:Hj sT
 base:Un vS CM X.Kz H X.F1.heap bh
 loc:z m a_e (∀(i:Nat)(x:Str)(v:V),i ye anI aov (z u jk (Look cG bh m x u)))
 cell:r7 (∃v,a1n c v)
 free:Y oQ
 bjm:r7 (Y c)
 pin:v4 bhY
 du:ih H bh
 len:Vd=X.N.length
section z
variable{X:Cx}{pins:bw}{M:bL jO}{H L:Hp}{s:Shared}{h':Heap}
theorem Cx.Ok.aNN(ok:X.Ok){b:Addr}{o:Obj}(e:be (a1o b)):amK:=fun U=>by have:=(ok.uZ.mem U).1;rw[am e,nu]
theorem Inv.bs(I:aZ):tc (g_/\gs):=db ⟨a1p b o (apz).1 (apz).2 (I.ok.aNN e) (aBh b o e),agW b o (apz).1 (apz).2 (aBh b o e)⟩
theorem Inv.bk(I:aZ):tc g_:=db (I.bs b o e).1
theorem Inv.mod(I:aZ):bcr:=aBi
theorem Inv.KA(I:aZ):X.K.In bh:=I.ok.mod.kin.keeps I.bk
theorem Inv.lt(I:aZ):oQ<aO:=let⟨_,d1,_⟩:=vT;d1.lt
theorem Inv.sz(I:aZ):Hi<=aO:=cp My (ez I.lt)
theorem Inv.aNO(I:aZ){a:Addr}(h:aO<=a):a∉vS:=fun U=>by rw[bct];exact iH (fJ P1 (cp I.sz h))
theorem Inv.cne(I:aZ):sf oQ:=fun x c e z=>by rw[bgj];obtain⟨m,⟨g,a7,e1,l,p,_⟩,_⟩:=vT;rw[b2 l d0];cases d0;rw[p]at hd;cases hd
theorem Inv.uZ(I:aZ):agX sS Mx:=by have all:∀(l:ke),V b (uY l) (b∈vS)->a1l sS l->agX sS l:=by{rw[rK];induction l with|nil=>{intro _ _;trivial}|cons env J d6=>intro c0 a5;obtain⟨c3,⟨Z,o,W,d1,d0,hd⟩,a6⟩:=a5;rw[fJ (oX Z fx),cl sl (a1q Z o d0 (I.ok.F2 Z f) f (J (I.ok.R5 Z z f)))];exact v c3 (c Z _ W d1 e hd) (d6 (dc (oX b (ck U))) a6)};exact all Mx (fun _ U=>U) I.ok.uZ
theorem Inv.stack(I:aZ):agX sS oR:=by rw[be3,Z e I.uZ];{rw[e];obtain⟨m,d1,_⟩:=vT;refine .cons (by rw[sU];decide) W d1 (Heap.get?_none_of_le (cp agY My)) I.uZ}
theorem Inv.aNP(I:aZ):fX (uY oR) (oQ::vS):=dc (by rw[be3,az];{rw[e]at U;delta uY at U;rw[Hk,W]at U;exact U})
theorem Inv.aqN(I:aZ):bH (uY oR) gs:=dc (by rw[i7 (zl U) U,Z e Hl];{rw[bct];exact agW b o d0 (I.ok.F2 b U) (J (I.ok.R5 b z U))})
theorem Inv.step{g':fv Vf}{t':Nat}{d':Drawn}{ch:bg}(I:aZ)(h:aMH)(keep:p8 amK hb)(slot:p8 (b∈vS) baC)(free:f b o Jf g_ gs IY)(there:bd Jf g_ (ax g (gS b) g))(Kx:aMc)(F0:bhm)(Ky:bdV)(ns:E m a_e (h'.Ns oQ m))(du:ih L h')(d8:Hj g'):bg_:=by have p3:ht (aBd b) X7:=db (he hg My);have r:bd (be (aBd b)) (b∉CM) Jf:=fun b o e S U=>by{rw[cZ (QW).1,cY,cF (fJ hg z) (iO _)]};have t:r7 (E v (a1n c v) (h'.IsCell c v)):=fun x c e v e0=>by{rw[bJ d0 hd e0];have j:=bhT;by_cases b0:c∈vS;{rw[d4 sl (jv c o (I.cne x c e) b0 j d0 aJi)];exact av q hd};rw[l (v o (er c o (I.cne x c e) b0 j d0 aJi) hd)]};rw[b Ve agZ d8 (a alw alw (fun b o e n S=>?_) (fun b o e S=>?_) (w_ (Kx b O (a1t b O e))) (fun b o O e=>F0 b o O (a1s b o O e)) (fun b c5 e=>?_)) ?_ a88 ?_ a88 (v uh du Hm),l (er b o (p3 b o e) U apU aMO aL_)];{obtain⟨sl,b4⟩:=a77;rw[eE f (jv b _ (p3 b o e) U apU b4 aL_)];exact⟨f,b9⟩};{rw[kq b4 aGV];exact free b g apU b4 aL_};{rw[kq b4 aGV];exact there b g apU b4};{obtain⟨g9,b4⟩:=a1r b c5 e;rw[eE e1 (Ky b _ b4)];exact⟨g9++e1,ag⟩};{rw[aom,aa m (ns m d1) (fun i x v b4 b9 e7=>?_),fJ b4 b9 e7,ak u J];rcases l with l|⟨k,c,e,z⟩;rw[dS l,co (d k c e (t x c e _ z))]};rw[S v z aGz v (t x c e v z)];{obtain⟨m,⟨o,_,_,d0,_⟩,_⟩:=vT;exact free _ o (uZ (h _ z)) d0 Hl};{rw[bgj];exact free c o bhT d0 aJi};{rw[aMV];have j:=J ((h p.1 z).2.2.2 p c2 rfl);exact a (er p.1 p.2 ne w j e n) (free p.1 p.2 j e n) ne w d}
theorem Inv.un{t':Nat}(I:aZ)(u:Un vS [] H L bh h')(du:ih L h'):aR L uJ:=rh jK (Mz (g':=sT) (d':=zm) (ch:=[]) (sW (nomatch z)) (Ha (u.keep b o e n U bB)) (Ha (u.slot b o e n U bB)) (fun b o _ e n=>u.free b o e n bB) (fun b o _ e=>u.there b o e bB) u.Kx u.F0 u.Ky biV du zl)
theorem Inv.call{g':fv Vf}{t':Nat}{d':Drawn}{ch:bg}(I:aZ)(u:F4 h')(du:ih L h')(d8:Hj g')(h:aMH):bg_:=rh (uZ (h _ z)) (Mz (ch:=ch) h (fun b o f U b0 e n=>u.keep b o e n (J (ca (zl z) f U)) b0) (fun b o _ _ b0 e n=>u.any e n b0) (fun b o b0 e n=>u.free b o e n b0) (s3 (u.there b o e b0)) u.Kx u.F0 u.Ky biV du d8)
theorem Inv.turned{t':Nat}{it:Addr}(I:aZ)(k:bd (b≠it) g_ hb)(d1:Y it)(f:it≠oQ)(a3:it∈CM\/Hi<=it)(a9:sf it)(e2:v4 (p.1≠it)):aR H uJ:=by rw[nW (b≠it) ai];refine Mz (g':=sT) (d':=zm) (ch:=[it]) ua (sn aH5) (yB aH5) a_T (s3 (nt aH5)) (sY e) a'B a9A aof aIb zl;{rw[eo]};rw[Cz (hv f),bh9]
theorem Inv.tok(I:aZ)(t:Nat):aR H (oO t):=I.un (h':=bh) (t':=t) Un.refl es
theorem Inv.kept{t':Nat}(I:aZ)(k:ZG):aR H uJ:=I.un (agU k) (I.du.kept k)
theorem Inv.laid{a:Addr}{o:HO}{t':Nat}(I:aZ)(k:ZG)(c2:aO<=a)(a6:cF Qy a o):aR Qy uJ:=I.un (Un.laid k c2 (zo c2)) (I.du.laid k c2 a6)
theorem Inv.write{x e:Addr}{o:HO}{t':Nat}(I:aZ)(h8:aHa)(a0:aLO)(k:lB (b≠e) (Hn b))(a:aMa)(a6:cF (ad x o) x o):aR (ad x o) uJ:=I.un (Un.write h8 a0 k a) (I.du.write h8 a0 k a a6)
theorem Inv.weak{g0:bL jO}(I:aZ)(a5:g0.length=Vd)(w:bk i v (A g0 pI->anI)):Inv X au g0 H s:=gG (let⟨m,d1,h1⟩:=vT;v m d1 (fun i x v b4 b9 e7=>h1 i x v b4 (w i v b9) e7)) MA (a5.trans Hm)
theorem Inv.aqO{a:bw}(I:aZ)(h:cA a bhY):Inv X a M H s:=gG vT (gW (ox (vU _ z) (h p))) Hm
theorem ac8{N:cX}(hN:N.Nodup){i j:Nat}{x:Str}(a:fi N)(b:aa N x):i=j:=bg1
theorem aqP{d5:Model}{A:Around}{E:aU}{i:Nat}{x:Str}{v:V}{u:Value}{Q:Qi}(I:aZ)(hN:X.N.Nodup)(hi:ye)(S:Kb)(J:jk)(h:o c1 bcX (z a (Ho a bh mG) (a=oQ\/Vc x=aa a)) (Q () c1))(W:Kk):a'9:=by rw[bY d1 a5 (id vT),bN Y (aBg== .class||(aBg== .module&&oQ !=a1m)) ah sU,z G (i<Vd) Hm (bx hi),fJ I.cne];have K:∀{a:Addr}{h':Heap},(z o (gO a) (Y a))->pi a->ih H h':=fun{a h'}b3 c0 b N e=>by{obtain⟨_,_,L⟩:=b3;refine(es b N e).qy (fun c c5 b0 q=>ac c0 c ?_ q) aGD (iF q);rintro rfl;rw[de b0 b0,az,az]};rw[f3 c3 c3];{refine wpAny_storeName_local c3 d1 (fun h' j2 c0=>?_) Y;obtain⟨Z,_,_,l,_⟩:=id d1;refine h _ (a9 (av j2 a96) aIq Z l Hl) (av c0 gm);rw[l (km My aMO),Hx My,Hw My];{rw[N b8 j i];{subst b8;rw[hi]at b4;cases b4;rw[MB G]at b9;rw[a4 b9 (v u J (dr c3 (x cP)))]};{rw[Vg (hv b8)]at b9;rw[aJ F B (a5 j y t b4 b9 e7),ak F B];rcases q with⟨k,e⟩|⟨k,c,e,z⟩;{refine .inl (au k);have:QK:=an (b8 (ac8 hN b4 (e▸hi)));simp[this,e]};rw[co (d k c e bcw)]}};rw[S c5 z (CP y c e) c5 bcw];{rw[aMV];exact a (ac c0 p.1 ne e) n ne w d}};{rw[ca r (aBe x=ab),db b0 (aBj x (.inl c3))];obtain⟨c5,z⟩:=CP x c b0;refine wpAny_storeName_cell sU c3 b0 z (fun h' O c0=>?_);obtain⟨D,P,a0⟩:=id z;refine h tJ (a9 (v m (d1.sameBut c0 (hv (f x c b0))) a96) (fun y C e=>?_) D P (MC x c b0)) (v c c0 (.inr b0));rw[l (km aMm aMO),Hx aMm,Hw aMm];{rw[N b8 j i];{subst b8;rw[hi]at b4;cases b4;rw[MB G]at b9;rw[a4 b9 (v u J (bj (.inl c3) c b0 O))]};{rw[Vg (hv b8)]at b9;rw[aJ F B (a5 j y t b4 b9 e7),ak F B];rcases q with q|⟨k,C,e,d3⟩;rw[dS q];{refine bj k C e (d3.sameBut c0 ?_);rintro rfl;exact b8 (ac8 hN b4 (I.ok.inj _ _ _ e b0▸hi))}}};{rw[N R C c];{subst R;exact aW O};rw[S T h6 (CP y C e) T (h6.sameBut c0 R)]};{rw[aMV,j (ac c0 p.1 ?_ e) n ne w d,fT];rw[q,P]at e;have c4:D=p.2:=c_ e;exact d c5 (bl c4 a0)}}
theorem ac9{d5:Model}{A:Around}{E:aU}{i:Nat}{x:Str}{v:V}{u:Value}{Q:Qi}(I:aZ)(hN:X.N.Nodup)(hi:ye)(S:Kb)(J:jk)(h:i4 bcX ())(W:Kk):a'9:=aqP I hN hi S J (fun c1 K _=>h c1 K) W
theorem Inv.aNQ{c1:Shared}{ch:bg}(I:aZ)(d0:Vi=CO)(u:F4 mG)(du:ih L mG)(d8:Hj Vh)(h:aMH):Bm:=by obtain⟨h',g',d',t',g⟩:=c1;rw[xV];exact I.call (g':=g') (t':=t') (d':=d') u du d8 h
universe z
abbrev XK:=be cS nj Hp
abbrev St:=bL jO
abbrev VK:=es V
abbrev TE:=ml St
abbrev TT:=ty AQ
abbrev TA:=ty (es af)
structure Ends where
 nx:pQ
 rt:VK
 bk:pQ:=JH
 ct:pQ:=JH
instance nN:eK Ends:=⟨d AF AF AF AF⟩
abbrev TS:=be Ends St Hp
noncomputable abbrev Ends.sq(D:Ends)(u:TS):Ends:=d (u D) D.rt D.bk D.ct
noncomputable abbrev Ends.lp(D:Ends)(N:pQ):Ends:=d N D.rt mH N
inductive EP(X:Cx)(pins:bw)(M:St)(Q:VK)(u:Value)(c1:Shared):Prop|mk:f v L Bm jk (Q v L) (f1 u c1)
def TP(X:Cx)(pins:bw)(M:St)(Q:AQ)(b:Bool)(c1:Shared):Prop:=z L Bm (Q b L)
inductive AP(X:Cx)(pins:bw)(M:St)(Q:es af)(b1:aM)(c1:Shared):Prop|mk:f vs L Bm Fo (Q vs L) (AP X au M Q b1 c1)
def SP(X:Cx)(pins:bw)(D:Ends)(f:Flow)(c1:Shared):Prop:=match f with| .next=>pq (mH g0 L)| .brk=>pq (D.bk g0 L)| .cont=>pq (D.ct g0 L)| .ret u=>∃v g0 L,aF9/\jk/\D.rt v L
def PE(X:Cx)(e:Expr)(t:TE):Prop:=∀(pins:bw)(s:Shared)(M:St)(H:Hp)(Q:VK),aZ->Po->di tH IX
def PT(X:Cx)(e:Expr)(t:TT):Prop:=F3 (ag0 e cG tH)
def PW(X:Cx)(e:Expr)(t:TT):Prop:=∀(c:X1)(pins:bw)(s:Shared)(M:St)(H:Hp)(Q:AQ),cw Po (ag0 e cG c) aGW
theorem PW.pt{X:Cx}{e:Expr}{t:TT}(h:PW X e t):PT X e t:=h _
def PA(X:Cx)(a7:fE)(t:TA):Prop:=∀(pos:Pos)(pins:bw)(s:Shared)(M:St)(H:Hp)(Q:es af),cw Po (spliced (aBk pos (MD a7 cG))) (AP X au M Q)
def PS(X:Cx)(st:Stmt)(t:TS):Prop:=Ih (exec st cG)
def qz(X:Cx)(st:uj)(t:TS):Prop:=Ih (execs st cG)
theorem bD{I:Type}{t:Sem I}{Q h4:dF I}{d5:Model}{A:Around}{E:aU}{s:Shared}(h:pj t)(g:bdm):a'Q:=lx h g
universe L2
namespace L2
open PySem PySem.Spec PyProof.Rows
section z
variable{X:Cx}
def hq(i:Nat):TE:=hs (match M[i]? with|some (some v)=>AO|_=>cF)
theorem hq.out{i:Nat}{M:St}{H:Hp}{Q:VK}(h:hq i M H Q):z v anI AO:=lJ hq (av bG h)
theorem hq.mk{i:Nat}{M:St}{H:Hp}{Q:VK}{v:V}(e:anI)(h:AO):hq i M H Q:=by delta hq;rw[e];exact h
def tC(v:V):TE:=l1 AO
theorem aNR{i:Nat}{x:Str}{pos:Pos}(hN:ye)(d3:aov)(hd:mi)(S:a8s):M (gV pos) (hq i):=by rw[fz,dp e h Vj,aom,fJ hN e d3];have fin:f1 u s:=a v H I J h;rw[bic,l (aBl (a1v sU c3 d1 c4 fin) hd)];{rw[bcp,l (aBl (a1u sU c3 b0 a fin) hd),l (aBl (wpAny_loadName_free sU c3 b0 a fin S) hd)]}
theorem bE{i j pos}:oM hS hS:=qX (wpAny_Constant_int (a hS H rx el h))
theorem mn{b j pos}:oM Jb E4:=qX (Constant_bool (eW b h))
theorem cv{j pos}:M (.Constant .none j pos) (tC .bC):=qX (Constant_none (m .bC H I h))
def Gl(X:Cx)(x:Str):Prop:=aBf x=aa .globalImplicit
theorem aqQ{E:aU}{pins:bw}{s:Shared}{M:St}{H:Hp}{x:Str}{u:Value}{pos:Pos}{Q:aU}(I:aZ)(d8:qn)(c4:eC (mI x))(h:Q u s)(hd:mi):a8I:=a1w sU d8 (Calls.loadGlobal_global a_Q c4 h) hd
theorem F3{E:aU}{pins:bw}{s:Shared}{M:St}{H:Hp}{x:Str}{u:Value}{pos:Pos}{Q:aU}(I:aZ)(d8:qn)(c4:ge x)(d3:eC (vV x))(h:Q u s)(d1:aHH)(hd:mi):a8I:=aC D a3 a9 I.mod.blt (a1w sU d8 (Calls.loadGlobal_builtin a_Q c4 (t I.ok.blt (a3.keeps I.bk)) (L (a9 x d1) d3) h) hd)
theorem aqR{x:Str}{v:V}{u:Value}{pos:Pos}(d8:qn)(c4:eC (mI x))(J:jk)(hd:mi):M (gV pos) (tC v):=qX (aqQ I d8 c4 (a v H I J h) hd)
variable{a b:Expr}{d6 c3:TE}{pos:Pos}
def PC(X:Cx)(j:CmpOp)(a b:Expr)(t:TE):Prop:=∀(pins:bw)(s:Shared)(M:St)(H:Hp)(Q:VK),cw Po (e1 a) (pw (ME j v u) IX)
def jB(Q:AQ)(x:V)(H:Hp):Prop:=match x with| .bl c=>Q c H|_=>cF
theorem jB.out{Q:AQ}{x:V}{H:Hp}(h:jB Q x H):z c (x= .bl c) (Q c H):=lJ jB (dm h)
def tB(t:TE):TT:=jS (jB Q)
theorem BB{j:CmpOp}{t:TE}(h:PC X j a b t)(a3:eA YB auk._auto_1):PT X al0 (tB t):=by rw[nl hw];refine a1x (bD (iq _ I) (fun v a4 a3=>bD a3 (fun u b5 a9=>ws a9))) a3;rw[Pp,aJ d rfl d2.out,bbx]
theorem u_{e:Expr}{t:TE}(h:M e t)(a0:eA (∀c,ag0 e cG c=(do{let v<-c;standAt e.pos;holding [v] (truthy v)})) ag1):PT X e (tB t):=by rw[nl hw];refine aBm (bD (iq _ I) (fun v a4 e0=>?_)) (a0 _);rw[is x e0,aJ d rfl d2.out,bbx]
variable{g e:TT}{m:fE}
def aNS(t u:TT):TT:=mG (u M a8 Q) (Q ah a8)
def tOr(t u:TT):TT:=mG (Q ab a8) (u M a8 Q)
def aqS(t:TT):TT:=jS (fun c a8=>Q (! c) a8)
theorem aNU(b3:ZE):mB [a] g:=by intro d au s M H Q I h;refine isTrue_and (bD (r0 Q) (fun c a4 e=>?_));rw[d3 c (isTrue_and_nil e) e]
theorem aqT(b3:ZE):mD [a] g:=by intro d au s M H Q I h;refine isTrue_or (bD (r0 Q) (fun c a4 e=>?_));cases c with|false=>{exact isTrue_or_nil e}|true=>exact e
theorem aNV(b3:ZE)(U:mB (b::m) e):mB (a::b::m) (aNS g e):=by intro d au s M H Q I h;refine isTrue_and (bD rR (fun c a4 P=>?_));rw[ci a8 r P,d3 c bix (v a8 r d2)]
theorem ac_(b3:ZE)(U:mD (b::m) e):mD (a::b::m) (tOr g e):=by intro d au s M H Q I h;refine isTrue_or (bD rR (fun c a4⟨a8,r,d2⟩=>?_));cases c with|true=>{trivial}|false=>exact bix
theorem ac'(b3:ZE):PT X (.UnaryOp .Not a pos) (aqS g):=nM (isTrue_not (r0 (fun c a8=>Q (! c) a8)))
def aNW(d6 c3:TE):TE:=qE (z c (x= .bl c) (Z c (c3 M a8 Q) (Q (.bl ah) a8)))
theorem R6{j}{t:TE}(h:M a t):M (iK j [a]) t:=DS (BoolOp_one (iq Q I))
theorem BC(b3:fV)(U:M (iK .And (b::m)) c3):M (iK .And (a::b::m)) (aNW d6 c3):=by rw[fz];refine BoolOp_and (lK rR);rw[Pp,ci c rfl d2];cases r1;refine vW ?_;rw[d3 c (pb Q) (bi ah a8 r d2)]
def tIf(t:TT)(d6 c3:TE):TE:=mG (d6 M a8 Q) (c3 M a8 Q)
theorem R7{c:Expr}(b0:PT X c g)(b3:fV)(U:lq):M (.IfExp c a b pos) (tIf g d6 c3):=by rw[fz];refine wpAny_IfExp bhW;rw[ci a8 r P,d3 d (nc Q d2) (pb Q)]
universe z
universe L2
namespace L2
open PySem PySem.Spec PyProof.Rows
def fW(K:PySem.W.Frag)(H:Hp)(a:Addr)(O:af):Prop:=k1 (.lst O)\/n3 Ak (o.dict=ae/\gD=jy ar/\a1 MG/\iP O MF)
def va(K:PySem.W.Frag)(H:Hp)(a:Addr)(O:af):Prop:=k1 tO\/beX
noncomputable def aNY:cS->jO| .none=>al6| .bool b=>aa E4| .int i _=>aa hS| .str x _=>aa Jw| .bytes b _=>aa (.iE b)| .float b _=>aa (.R3 b)| .ref a=>kM| .type n=>aa (.ty n)|_=>ae
theorem RelV.abs{x:V}{u:Value}(J:pR):aNY u=aa x:=by cases x with|bC=>{rw[Ft]}|bl _=>{rw[Ft]}|int _=>{rw[Qr]}|str _=>{rw[Qr]}|iE _=>{rw[Qr]}|R3 _=>{rw[Qr]}|ref _=>{rw[Ft]}|ty _=>rw[hP];rfl
theorem RelV.inj{x y:V}{u:Value}(J:pR)(q:lg):x=y:=c_ (J.abs.symm.trans q.abs)
theorem Vals.inj{O d7:af}{b1:aM}(h:n_)(k:eD d7):O=d7:=by induction h generalizing d7 with|nil=>{cases k;rfl}|cons J t d6=>cases k with|cons B t'=>rw[J.inj B,d6 t']
section z
variable{X:Cx}{pins:bw}{M:St}{H:Hp}{s:Shared}{a:Addr}{O d7:af}
theorem fW.of{K:PySem.W.Frag}(h:am a O):jj:= .inl AI
theorem va.of{K:PySem.W.Frag}(h:cx tO):uN:= .inl AI
theorem Inv.list(I:aZ)(h:a9R):FM (PlainL bh a eU):=by rcases h with h|⟨o,ar,n,c3,b0,hd,c0,c9,J⟩;{rw[X ar n J e (h.ok es)];exact d ar J (m _ n e xJ) z};{rw[b2 MF J (c o n (vY a o c3) b0 hd eP),c7 vX];simp only[Vk]at e;exact IW}
theorem Inv.tuple(I:aZ)(h:a9P):FM (Mw bh a eU):=by rcases h with h|⟨o,ar,n,c3,b0,c0,c9,J⟩;{obtain⟨z,ar,J,p⟩:=h.ok es;exact d ar J p z};{rw[b2 MF J (a o (vY a o c3) b0 n eP),c7 vX];simp only[Vk]at e;exact IW}
theorem Inv.ada(I:aZ)(h:a9R)(h':fW X.K H a d7):O=d7:=by obtain⟨ar,J,⟨o,n,e,_,_,d⟩,_⟩:=sV h;obtain⟨its',B,⟨g,C,d3,_,_,d'⟩,_⟩:=sV h';rw[Zl];cases d3;rw[d]at d';rw[a'G];have:ar=MH:=ai;rw[gp];exact J.inj B
theorem Inv.aNZ(I:aZ)(h:a9P)(h':va X.K H a d7):O=d7:=by obtain⟨ar,J,⟨o,e,_,n,d⟩,_⟩:=CQ h;obtain⟨its',B,⟨g,d3,_,C,d'⟩,_⟩:=CQ h';rw[Zl];cases d3;rw[d]at d';rw[a'G];have:ar=MH:=ai;rw[gp];exact J.inj B
universe z
noncomputable abbrev Cx.R8(X:Cx)(E:aU):Cx:={X with xe:=E}
noncomputable abbrev Cx.KC(X:Cx):Cx:=Vl JH
theorem Cx.Ok.R8{X:Cx}(ok:X.Ok)(E:aU):(Vl E).Ok:=bi0
theorem Cx.Ok.F4{X:Cx}{E:aU}(ok:(Vl E).Ok):X.Ok:=bi0
section z
variable{X:Cx}{pins:bw}{M:St}{H:Hp}{s:Shared}{E:aU}
theorem Inv.R8(I:aZ)(E:aU):bgJ:=KR (I.ok.R8 E)
theorem Inv.F4(I:bgJ):aZ:=KR I.ok.F4
theorem SP.F4{D:Ends}{f:Flow}{c1:Shared}(h:SP (Vl E) au D f c1):SP X au D f c1:=by cases f with|next=>{rw[aM7]}|brk=>{rw[aM7]}|cont=>{rw[aM7]}|ret u=>rw[j v g0 L I J q h (c v g0 L I.F4 J q)]
theorem qz.KC{st:uj}{t:TS}(h:qz X.KC st t):qz X st t:=fun au s M H D I hw=>ow (iq D (I.R8 _)) (iF q.F4)
universe z
section z
variable{X:Cx}{st:Stmt}{m:uj}{t u:TS}{e:Expr}{b8:TE}{pos:Pos}
def adb:TS:=f1 OK
def BD(t u:TS):TS:=f1 (t (D.sq u) M H)
theorem BE:qz X [] adb:=Dp (ag2 aJs)
theorem R9(a3:PS X st t)(a9:qz X m u):qz X (st::m) (BD t u):=by rw[k_];refine a1y (bD (a3 au s M H (D.sq u) I h) (fun f a4 q=>?_));cases f with|next=>{obtain⟨g0,L,K,q⟩:=q;exact a9 au a4 g0 L D K q}|ret v=>{exact q}|brk=>{exact q}|cont=>exact q
theorem fG(a3:PS X st t):qz X [st] t:=by rw[k_];refine a1y (bD (a3 au s M H D I h) (fun f a4 q=>?_));cases f with|next=>{exact ag2 q}|ret v=>{exact q}|brk=>{exact q}|cont=>exact q
def aN6:TS:=f1 (D.ct M H)
theorem aN7:PS X (.Continue pos) aN6:=Dp (wpAny_Continue aJs)
theorem Inv.quiet{pins:bw}{M:St}{H:Hp}{s:Shared}(I:aZ):a1z cG=ah:=eM a1z sU
def R_(b8:TE):TS:=f1 (op (fun _ a8=>mH M a8))
theorem yy(a0:rV)(c0:wn (MI e ae MJ cG)):PS X (.Expr e pos) (R_ b8):=by rw[k_];exact wpAny_Expr_any (js ET (d M a8 r d2)) I.quiet c0
def Sa(b8:TE):TS:=f1 (op D.rt)
theorem aN8(a0:rV):PS X (.Return rG pos) (Sa b8):=by rw[k_];exact wpAny_Return_some (js ET (c x M a8 r r1 d2))
def Sb(c:TT)(t u:TS):TS:=f1 (mE (t D M a8) (u D M a8))
theorem sg{c:Expr}{a b:uj}{i:TT}(b0:PT X c i)(b3:qz X a t)(U:qz X b u):PS X (.If c a b pos) (Sb i t u):=by rw[k_];refine wpAny_If bhW;rw[ci a8 r P,d3 d (nc D d2) (pb D)]
universe z
abbrev TG:=aa V St Hp (pQ)
abbrev yz:=aa af St Hp (pQ)
def PG(X:Cx)(a:Expr)(t:TG):Prop:=∀(pins:bw)(s:Shared)(M:St)(H:Hp)(v:V)(u:Value)(Q:pQ),go jk v (Vm a cG u)
def KD(X:Cx)(g:fE)(t:yz):Prop:=∀(pins:bw)(s:Shared)(M:St)(H:Hp)(vs:af)(b1:aM)(Q:pQ),go Fo vs (assignInOrder (cG (ag3 g cG)) b1)
abbrev KG:=c V V V Hp (cv (je))
def ade(X:Cx)(t:KG):Prop:=∀(pins:bw)(s:Shared)(M:St)(H:Hp)(o i v:V)(ov c u:Value)(Q:je),j aZ (gR o ov) (gR i c) jk (t o i v H Q) (di (a1A ov c u) (fun _ c1=>z L Bm (Q L)))
abbrev F5:=Fx
def PIp(X:Cx)(j:Operator)(t:F5):Prop:=∀(pins:bw)(s:Shared)(M:St)(H:Hp)(x y:V)(v u:Value)(Q:VK),bF t_ lg (t x y H Q) (aBn j v u)
section z
variable{X:Cx}{pos:Pos}
def KH(i:Nat):TG:=fun v M H Q=>Q (aBo i pI) H
theorem aN9{i:Nat}{x:Str}(hN:X.N.Nodup)(hi:ye)(S:Kb)(W:Kk):a'H:=by rw[iE v u];exact a1B (ac9 I hN hi S J (fun c1 K=>as H K h) W)
def aN_:yz:=fun vs M H Q=>match vs with|[]=>Q M H|_=>cF
def aN'(t:TG)(u:yz):yz:=fun vs M H Q=>match vs with|v::J=>t v M H (fun g0 L=>u J g0 L Q)|[]=>cF
theorem aqU:KD X [] aN_:=by rw[Zz];cases J with|nil=>{exact assignInOrder_nil aJs}|cons=>exact Hq
theorem KI{e:Expr}{a7:fE}{t:TG}{u:yz}(a3:PG X e t)(a9:KD X a7 u)(c0:cg (cG (ag3 ro cG)=Vm e cG::cG aGg)):KD X ro (aN' t u):=by rw[Zz];cases J with|nil=>{exact Hq}|cons J C=>rw[c0];refine assignInOrder_cons (bD (a3 au s M H _ _ _ I J h) (fun _ a4 e0=>by obtain⟨d,a8,r,d2⟩:=e0;exact a9 au a4 d a8 _ _ Q r C d2))
inductive aqV(K:PySem.W.Frag)(n:Nat)(t:yz)(v:V)(M:St)(H:Hp)(Q:pQ):Prop|mk:∀a O,b v bc uN (bx=n) (t O M H Q) (aqV K n t v M H Q)
theorem aOa{a7:fE}{k:Nat}{t:yz}{n:Nat}(b0:fR)(h:KD X a7 t)(d1:a_4)(z:a'j):G9 X.K:=by intro au s M H v u Q I J hw;obtain⟨a,O,b4,e0,a5,hw⟩:=hw;rw[Jv,hP,a1 rv c6 I4];refine assign_Tuple_tuple iy c6 (by simp[d1,<-a5,CS]) z (fun h' S=>?_);exact h au _ M H O _ Q (MK (t':=dF) (db (S b o (gE hg) e))) ag hw
def aOb(C ti:TE)(t:KG):TG:=fun v M H Q=>Ht (t o i v b7 (fun d4=>Q M d4))
theorem aOc{o i:Expr}{C ti:TE}{t:KG}(d0:am')(hi:M i ti)(c0:ade X t)(b3:eA (∀v,Vm (eZ o i) cG v=(do{let ov<-holding [v] (eval o X.env);let c<-holding [v,ov] (eval i X.env);standAt pos;holding [v,ov,c] (setItem ov c v);release [v,ov,c] []})) ag1):PG X (eZ o i) (aOb C ti t):=by rw[iE v u];rw[b3];rw[C (vZ (bD YG (fun ov a4 e0=>b x a8 r r1 d2 e0 (bF (vZ (oF y (bF (aBp (bF (vZ (bD (c0 au b5 M b7 x y v ov c u _ Y r1 r2 J q2) (fun _ c8 e0=>aC d4 O q3 e0 (wpAny_release (d M d4 O q3))))))))))))))]
def adg(b8:TE)(g:TG):TS:=f1 (op (jI (g x M a8 mH)))
theorem aOd{c7 e:Expr}{b8:TE}{g:TG}(a0:rV)(d8:aKE)(c0:wn (swapsWithSole [c7] e MJ cG))(hw:cg (swappedStores [c7] e cG=eV ae))(a3:cg (cG (ag3 [c7] cG)=[Vm c7 cG])):bn [c7] e pos (adg b8 g):=by rw[k_];refine wpAny_Assign_stores (lK ET) c0 hw;rw[Pp];rw[a3];exact bD (d8 au a4 M a8 x v _ r r1 d2) (fun _ b5 q=>q)
theorem aqW{i:Nat}{x:Str}{e:Expr}{b8:TE}{E:Pos}(hN:X.N.Nodup)(hi:ye)(S:Kb)(a0:rV)(c0:baG)(W:Kk):bd1:=by rw[k_];refine wpAny_Assign_Name (lK ET) c0;rw[is y P];exact ac9 r hN hi S r1 (fun b5 Y=>as a8 Y d2) W
def aOe(i:Nat)(b8:TE)(ti:F5)(D:Ends)(M:St)(H:Hp):Prop:=hq i M H (fun x _=>op (sw (ti x y a8 (fun z b7=>mH (aBo i (aa z)) b7))))
theorem aOf{i:Nat}{x:Str}{e:Expr}{b8:TE}{j:Operator}{ti:F5}{E:Pos}(hN:X.N.Nodup)(hi:ye)(S:Kb)(a0:rV)(d0:PIp X j ti)(W:Kk):fu (gV E) e (aOe i b8 ti):=by rw[k_,dp b4 h (hq.out h),aom];have d:aov:=by{rw[f3 k k,m1 k];exact .inr Pb};rw[fJ hi b4 d];refine wpAny_AugAssign_Name ?_;have go:di tH (fun w g=>a2 (aBn j u w) (fun J b=>a2 (a1C cG x J) (as (SP X au D .next)) oS b) oS g):=by{refine bD ET (fun w a4 e0=>?_);rw[is y e0];refine bD (d0 au a4 M a8 v y u w _ r J r1 d2) (fun z b5 P=>?_);obtain⟨f,b7,Y,r2,q2⟩:=P;exact ac9 Y hN hi S r2 (fun c8 O=>as b7 O q2) W};rw[bic,l (a1v sU c3 d1 c4 go)];{rw[bcp,l (a1u sU c3 b0 a go)];{rw[f3 k k];{have:iI (ML x):=c3;rw[am k,nu]};{have:iI (ML x):=c3;rw[am k,nu]}}}
def aOg(C ti b8:TE)(a:Fx)(b:F5)(f:KG):TS:=f1 (Ht (a o i b7 (fun x d4=>b8 M d4 (fun y e4=>b x y e4 (fun z g6=>f o i z g6 (fun h5=>mH M h5))))))
def aqX(X:Cx)(t:Fx):Prop:=∀(pins:bw)(s:Shared)(M:St)(H:Hp)(o i:V)(ov c:Value)(Q:VK),bF (gR o ov) (gR i c) (t o i H Q) (zp ov c)
theorem aOh{o i e:Expr}{C ti b8:TE}{a:Fx}{b:F5}{f:KG}{j:Operator}{T:Pos}(d0:am')(hi:M i ti)(d8:aqX X a)(a0:rV)(c2:PIp X j b)(c0:ade X f)(b3:eA (∀ov c a6,augStore i ov c a6=(do{holding [a6,ov,c] (setItem ov c a6);release [a6,ov,c] [];pure .next})) aui._auto_1):fu (q7 T) e (aOg C ti b8 a b f):=by rw[k_];refine wpAny_AugAssign_SubscriptAny (bD YG (fun ov a4 e0=>b e7 a8 r r1 d2 e0 (oF f5 (bD (d8 au b5 M b7 e7 f5 ov c _ Y r1 r2 q2) (fun a7 c8 e0=>b d d4 O m q3 e0 (bD (a0 au c8 M d4 _ O q3) (fun v d9 e0=>b g e4 a5 c9 i6 e0 (bD (c2 au d9 M e4 d g a7 v _ a5 m c9 i6) (fun a6 f9 e0=>b l1 g6 A p e2 e0 (bD (c0 au f9 M g6 e7 f5 l1 ov c a6 _ A r1 r2 p e2) (fun _ h1 e0=>aC h5 F c6 e0 (d M h5 F c6)))))))))))) b3
def ipI(f:aIw):F5:=sE (Hr (m3 (f i j)))
theorem aqY:PIp X .Add (ipI (oE (i+j))):=by intro au s M H x y v u Q I r1 r2 h;obtain⟨i,j,b4,b9,q⟩:=h;rw[Jv];subst b9;rw[ev r1,dn t' r2];exact iadd_int (n6 _)
universe z
section z
variable{X:Cx}{pos:Pos}
def aqZ(c:TT)(c3:TS):TS:=f1 (∃W:dL St Hp,(∃m,W m M H)/\∀m M H,W m M H->mE (∃N:pQ,(CL (vE (W f7 g0 L)))/\c3 (ag4 N) M a8) (mH M a8))
theorem F6{c:Expr}{a:uj}{i:TT}{c3:TS}(c2:aMn)(b0:PT X c i)(U:aI'):PS X (.While c a [] pos) (aqZ i c3):=by rw[k_,HZ h];refine wpAny_While (codeAny_whileLoop (fun n c1=>pq (W n g0 L)) ?_ c9 (d M H I b2));rintro n a4⟨d,a8,r,e⟩;rw[pt (bD (b0 au a4 d a8 _ r (eW n d a8 e)) (fun b b5 P=>?_))];obtain⟨b7,Y,q2⟩:=P;cases b with|true=>{obtain⟨N,hN,q2⟩:=q2;rw[cP];rw[pt (bD (U au b5 d b7 _ Y q2) (fun f c8 q3=>?_))];cases f with|next=>{rw[bi1]}|cont=>{rw[bi1]}|brk=>{exact q3}|ret v=>exact q3}|false=>rw[J OD (ag2 (d d b7 Y q2))]
universe z
structure It where
 go:Y9
 yld:aa Nat Hp V Hp
 stop:Y9
instance nI:eK It:=⟨v AF (sb gC) AF⟩
def adh(X:Cx)(pins:bw)(H:Hp)(b:Addr):Prop:=z gs X7 amK (b∈CM\/Hi<=b) a7q
theorem Inv.Sd{X:Cx}{pins:bw}{M:St}{H L:Hp}{s:Shared}{b:Addr}(I:aZ)(U:aO<=b)(d1:IY):iV L:=by rw[o d1 (v_ (fJ I.lt U)) (I.aNO U) (.inr (cp I.sz U)) (fun x c e z=>?_) (fun p c2 z=>?_)];{rw[d4 v aGz];exact iH (fJ q.lt ag)};rw[cF (fJ (fw (MA p c2).1) ag) (iO _)]
structure Turn(P:Program)(w:World)(K:PySem.W.Frag)(c7:Expr)(d0:It)(a8:bg)(it:Addr)(l:QP):Prop where
 mem:it∈a8
 obj:j i h (l i h) (Ea mf)
 keep:∀i h h',l i h->V b a8 (E o mf hb)->l i h'
 item:q1 Pz (z u (eC J) (ff (jw P w) X.A (MN c7 nU u) (fun _ b5=>∃x L,z (aR L b5) pR PJ (l (i+1) ag5) (h3 IY)) E a4))
 done:q1 alM (J=ae/\aR H a4)
 self:∀(A:Around)(i:Nat)(s:Shared)(Q:aU)(E:aU),l i bh->Q nU s->ff (jw P w) A (MM nU) Q E s
abbrev TI:=ty rO
inductive PIE(X:Cx)(pins:bw)(M:St)(c7:Expr)(R:rO)(e1:Value)(b5:Shared):Prop|mk:∀(it:Addr)(a8:bg)(l:QP)(d0:It)(L:Hp),b e1 nU (aR L b5) (qL a8 it) (l 0 ag5) (V b a8 (iV L)->R d0 L->PIE X au M c7 R e1 b5)
def PI(X:Cx)(c7 iter:Expr)(wi:TI):Prop:=∀(pins:bw)(s:Shared)(M:St)(H:Hp)(R:rO),cw (wi M H R) (e1 Hr) (fun v a4=>a2 (MM v) bgK oS a4)
theorem aq0{d5:Model}{A:Around}{E:aU}{s:Shared}{c7:Expr}{it:Addr}{u:Value}{o:Obj}{n:String}{vs:dX}{Q:Qi}(d0:gO it)(b0:we= .type n)(hd:gD= .fields vs)(d1:biH=ah)(g:Q () s):pj (MN c7 nU u):=by delta MN;cases c7<;>first|exact cj g|(cases u<;>first|exact cj g|(rw[C (wpAny_load d0 ?_)];rw[b0,hd];show pj (mt (biH&&vs[0]?==aa (wd _)));rw[aO (by rw[eF];rw[d1,ag6]at h;rw[cI])];exact cj g))
noncomputable def Se(K:PySem.W.Frag)(a:Addr):It:=gX jj (L=H/\E O jj nq) jj
noncomputable def Itt(K:PySem.W.Frag)(a:Addr):It:=gX uN (L=H/\E O uN nq) uN
noncomputable def Sf(lo:Int)(n:Nat):It:=IO aos
theorem aOl{P:Program}{w:World}{K:PySem.W.Frag}{c7:Expr}(a it:Addr):jD (Se K a) (CT it a i)where mem:=bK;obj:=bb0;keep:=a8J;item:=by{intro X C hw g b0 i au s M H E I W st d8;rw[uU,aML,ZF,ZZ,yp];refine wpAny_pyNext_list_item st qN (x:=u) ag aKK;rw[aIN];exact HX aLl};done:=by{intro X C hw g b0 i au s M H E I W st d8;rw[uU,aLW,ZF,yp,f7 CS];exact wpAny_pyNext_list_end iy st qN ai aaQ};self:=Cr (wpAny_pyIter_listiter st h)
theorem aOm{P:Program}{w:World}{K:PySem.W.Frag}{c7:Expr}(a it:Addr):jD aai (h.IsTupleIter it a i)where mem:=bK;obj:=bb0;keep:=a8J;item:=by{intro X C hw g b0 i au s M H E I W st d8;rw[uU,aML,a1 rv p I4,ZZ,yp];refine wpAny_pyNext_tuple_item st bbm (x:=u) ag aKK;rw[aIN];exact HX (bd (fun d7 b6=>t (I.aNZ b6 e0) S))};done:=by{intro X C hw g b0 i au s M H E I W st d8;rw[uU,aLW,a1 rv p I4,yp,f7 CS];exact wpAny_pyNext_tuple_end iy st bbm ai aaQ};self:=Cr (wpAny_pyIter_tupleiter st h)
theorem aOn{P:Program}{w:World}{K:PySem.W.Frag}{c7:Expr}(it:Addr)(lo:Int)(n:Nat):jD (Sf lo n) (a1G h it (lo+cf i*1) (cL-cf i) 1)where mem:=bK;obj:=po (by rw[o8 it,cb];exact av st (fun v z=>YI));keep:=bdR;item:=by{intro X C hw g b0 i au s M H E I W st d8;rw[uU,yp,Lu 1,ev d3];refine rg aos (au t);rw[a1F]};done:=by{intro X C hw g b0 i au s M H E I W st d8;rw[yp];exact a1E iy st (eB (n<=i) d8 (nE this)) aaQ};self:=Cr (a1D st h)
universe L2
namespace L2
open PySem PySem.Spec PyProof.Rows
section z
variable{X:Cx}{c7:Expr}
inductive jL(K:PySem.W.Frag)(R:rO)(x:V)(a8:Hp):Prop|mk:gD Yx (Se K a) (jL K R x a8)
def aOo(K:PySem.W.Frag)(h8:TE):TI:=E0 (jL K R)
inductive jU(K:PySem.W.Frag)(R:rO)(x:V)(a8:Hp):Prop|mk:gD (va K a8 a O) aai (jU K R x a8)
def aOp(K:PySem.W.Frag)(h8:TE):TI:=E0 (jU K R)
theorem ox{d:PySem.W.Frag}{l:Expr}{h8:TE}(a5:M l h8)(g:Bh):hq l (aOo d h8):=ri (CU e0) (aBq qN (ID (aOl a _)))
theorem adj{d:PySem.W.Frag}{l:Expr}{h8:TE}(a5:M l h8)(g:Bh):hq l (aOp d h8):=ri (r.tuple e0) (wpAny_pyIter_tuple (show a4.heap.IsTuple a eU from p) (ID (aOm a _)))
theorem aOq{pins:bw}{M:St}{H:Hp}{s:Shared}{R:rO}{E:aU}{lo hi:Int}{t u v:Tok}{D:Nat}(I:aZ)(a3: -(2^62)<=lo)(a9:lo<2^62)(e2: -(2^62)<=hi)(e5:hi<2^62)(q:R (Sf lo apo) H):a2 (MM gn) bgK E (dp aaH D):=by refine a1H (a1I ..) (small_one a3 a9 e2 e5) ?_;have r:aR H (dp aaH D):=MK Pn;rw[c (f3 aaH) [f3 aaH] _ _ H (ag7 (t':=D) Pn) (aOn _ lo apo) (v ?_ ua q)];{rw[aS b4 (lo+ae 0*1) lo];have b9:ae apo-ae 0=Vn lo hi 1:=by{rw[rangeSize_one];split<;>grind};rw[b4,b9];exact gK};{rw[o8 (f3 aaH),cb];exact a7H}
inductive jR1(R:rO)(vs:af)(a8:Hp):Prop|mk:∀j:Int,e [I3] (-(2^62)<=j) (j<2^62) (R (Sf 0 aBr) a8) (jR1 R vs a8)
def aOr(d6:TA):TI:=qO (jR1 R)
theorem aOs{a:Expr}{d6:TA}{p pos:Pos}(d8:Gl X "range")(c4:ge "range")(b3:PA X [a] d6)(c0:gb [a] [(ah,e1 a)]):hq (ev "range" [a]) (aOr d6):=by rw[jq R];refine jF boot_range rfl;rw[JV];obtain⟨j,e,d2,q2,q⟩:=d2;rw[cb];cases r1 with|cons J C=>rw[ob,El];exact call_range_1 (aOq r aT aT d2 q2 ag)
def aOt(wi:TI)(g:TG)(c3:TS):TS:=f1 (DC (em St (W 0 m M a8) (V ak9 alM OK Pz (∃N:pQ,(alc)/\j x L PJ (ge M (r9 N))))))
noncomputable def KJ(a8:bg)(h:Heap):bw:=a8.filterMap (il (B (zk b) (lm (b,o))))
theorem aOu{a8:bg}{h:Heap}{b:Addr}{o:Obj}(U:b∈a8)(e:mf):(b,o)∈KJ a8 h:=List.mem_filterMap.mpr (v b U (x AB))
theorem aOv{a8:bg}{h:Heap}{p:ei×Obj}(c2:p∈KJ a8 h):p.1∈a8/\bA p.1 p.2:=by rw[aO b U (List.mem_filterMap.mp c2)];cases q:zk b with|none=>{simp_all}|some o=>rw[a6 q];have d3:=c_ e;rw[tN];exact⟨U,q⟩
theorem Inv.pinned{pins:bw}{M:St}{H:Hp}{s:Shared}{a8:bg}(I:aZ)(W:h3 (iV H))(d0:Ea g_):Inv X (au++KJ a8 bh) M H s:=I.aqO (gW (ox (qO _ z) (J (by rw[cl U (aOv z)];obtain⟨F,g4,h3,_⟩:=W p.1 U;rw[bJ d3 d (d0 p.1 U),Zl,a4 d3 (a e F g4 h3 d)]))))
theorem Inv.Sg{pins d5:bw}{M:St}{H:Hp}{s:Shared}(I:Inv X (au++d5) M H s):aZ:=I.aqO (gW (MA p (qO _ (vU _ c2))))
theorem aOw{iter:Expr}{a:uj}{wi:TI}{g:TG}{c3:TS}{pos:Pos}(c2:aMn)(b0:fR)(hi:aaE)(d8:aKE)(U:aI')(c0:anG):bhX:=by revert c2 b0 hi d8 U c0;revert X c7 iter a wi g c3 pos;refine Kr;generalize aG=X,aA=c7,aF=iter,aE=a,aD=wi,aB=g,aH=c3,aI=pos;intro c2 b0 hi d8 U c0;rw[k_];refine wpAny_For (bD aGd (fun v a4 a3=>bD a3 (fun e1 b5 a9=>?_))) c0;obtain⟨it,a8,l,d0,b7,e,Y,T,b4,h3,W,⟨c9,b2⟩,turn⟩:=a9;rw[cb];have V:∀{L:Hp},Yu->h3 (iV L):=fun d1 b U=>⟨d1 b U,(aow).2⟩;refine codeAny_forLoop_any (fun n c1=>∃i g0 L,N aF9 (l i mG) Yu (W i n g0 L)) ?_ c9 (a 0 M b7 Y b4 (dc (aow).1) b2);rintro n c8⟨i,j,d4,O,d2,q,w⟩;rcases eW i n j d4 w with⟨stop,y⟩|⟨go,N,hN,step⟩;{refine aBs c2 (bD (T.done X rfl rfl rfl b0 i au c8 j d4 oS O (V q) d2 stop) (fun J d9 e0=>?_));rw[kw a6 a5];subst a6;exact ag2 (d j d4 a5 y)};{rw[pt (bD (T.item X rfl rfl rfl b0 i au c8 j d4 oS O (V q) d2 go) (fun J d9 e0=>?_)),bl a6 e5 e0];subst a6;rw[pt (bD e5 (fun _ f9 e0=>?_))];obtain⟨x,g6,A,p,z,d3,B⟩:=e0;rw[pt (bD (d8 _ f9 j g6 x u _ (A.pinned (V B) (aBt _ _ d3)) p (MO x g6 z)) (fun _ h1⟨C,h5,F,c6⟩=>aBs c2 (bD (U _ h1 C h5 _ F c6) (fun f R c=>?_))))];have again:∀{k:St}{h9:Hp},Inv X (au++KJ a8 f9.heap) k h9 R->N k h9->s_ (∃i g0 L,N (Inv X au g0 L R) (l i R.heap) Yu (W i m g0 L)):=fun{k h9}r h8=>by{obtain⟨f7,c4,E⟩:=hN k h9 h8;rw[b f7 c4 (i+1) k h9 r.Sg (ag8 _ _ _ d3 (tj (a_h).1)) ua E,bJ e d (BZ d3)];exact aV a_h};cases f with|next=>{rw[bcR]}|cont=>{rw[bcR]}|brk=>{obtain⟨k,h9,r,c⟩:=c;exact d k h9 r.Sg c}|ret v=>rw[j t k h9 r b1 c c (c t k h9 r.Sg b1 c)]}
universe z
theorem aOx{K:PySem.W.Frag}{a:Addr}{O:af}{g:TG}{c3:TS}{D:Ends}{M:St}{H:Hp}(j:aHR)(b1:amX)(a5:lC QA jj)(c0:bdG)(hd:tA bx):f5 QC QC QC:=by rw[eX bx QA bx,ap_,cO bgL,fW Z bx];{refine i5 (d O O[i] q (x pM)) bbc;rw[fL y y,cb];exact bhK};{have e:i=bx:=by{rw[aIJ]};rw[cb];exact dr aK0 apA}
theorem aOy{K:PySem.W.Frag}{a:Addr}{O:af}{g:TG}{c3:TS}{D:Ends}{M:St}{H:Hp}(j:aHR)(b1:amX)(a5:lC QA uN)(c0:bdG)(hd:tA bx):f5 (aai) (aai) (aai):=by rw[eX bx QA bx,ap_,cO bgL,fW Z bx];{refine i5 (d O O[i] q (x pM)) bbc;rw[fL y y,cb];exact bhK};{have e:i=bx:=by{rw[eo]};rw[cb];exact dr aK0 apA}
theorem aOz{lo:Int}{n:Nat}{g:TG}{c3:TS}{D:Ends}{M:St}{H:Hp}(j:aHR)(b1:amX)(c0:lC (i<n) (be aos M H aGs))(hd:tA n):f5 PR PR PR:=by rw[eX n Qp n,ap_];by_cases Z:i<n;rw[oE bbb (c0 i M _ Z p)];{have e:i=n:=by{rw[aIJ]};rw[cb];exact dr aY apA}
theorem aOA{c:TT}{c3:TS}{D:Ends}{M:St}{H:Hp}(j:pQ)(a:St->Hp->Nat)(b1:j M H)(c0:j M H (j M H) (mE (c3 (ag4 (fun g0 L=>j g0 L/\a g0 L<a M H)) M a8) (mH M a8)))(d:∀M H Q h4,(j b a8 (Q b a8) (h4 b a8))->c M H Q->c M H h4):aqZ c c3 D M H:=by rw[ak (fun m M H=>m=a M H/\j M H) (dm b1)];rintro m M H⟨rfl,p⟩;refine d M H _ _ (fun b a8 q=>?_) (c0 M H p);cases b with|true=>{exact av (fun g0 L e0=>by rw[kw u l];exact as l rfl u) q}|false=>exact q
universe L2
namespace L2
open PySem PySem.Spec PyProof.Rows
abbrev R2:=Fx
def KL(X:Cx)(f:aab)(J:R2):Prop:=∀(pins:bw)(s:Shared)(M:St)(H:Hp)(x y:V)(v u:Value)(Q:VK),bF t_ lg (J x y H Q) (f v u)
def UnR(X:Cx)(f:cS->X1)(J:ml V):Prop:=∀(pins:bw)(s:Shared)(M:St)(H:Hp)(x:V)(v:Value)(Q:VK),Fr (di (f v) IX)
def BF(X:Cx)(f:Value)(J:ml af):Prop:=∀(pins:bw)(s:Shared)(M:St)(H:Hp)(O:af)(b1:aM)(Q:VK),i aZ n_ (J O H Q) (x0 f)
def aOB(X:Cx)(J:be V Hp (AQ)):Prop:=∀(pins:bw)(s:Shared)(M:St)(H:Hp)(x:V)(v:Value)(Q:AQ),Fr (di (aBu v) aGW)
def BG(J:R2)(d6 c3:TE):TE:=qE (c3 M a8 (p8 (J x y b7 Q)))
def tUn(J:ml V)(d6:TE):TE:=qE (J x a8 Q)
inductive rI(C:au Int Int)(g:aIx)(x:V)(y:V)(H:Hp)(Q:VK):Prop|mk:∀i j,b x hS (y=I3) (C i j) (Q rX H) (rI C g x y H Q)
def F7(g:aIx)(x:V)(y:V)(H:Hp)(Q:VK):Prop:=match x,y with| .int i,.int j=>Q rX H|_,_=>cF
theorem F7.out{g:aIx}{x y:V}{H:Hp}{Q:VK}(h:F7 g x y H Q):Hr (Q rX H):=lJ F7 (oX h)
inductive rU(g:Int->V)(x:V)(H:Hp)(Q:VK):Prop|mk:o i (x=hS) (Q (g i) H) (rU g x H Q)
section z
variable{X:Cx}{a b c:Expr}{d6 c3 i:TE}{pos:Pos}
theorem aOD(b3:fV)(U:lq){pins:bw}{s:Shared}{M:St}{H:Hp}{R:be V V Hp}(I:aZ)(h:d6 M H (jI (c3 M a8 (p8 (R x y b7))))){Q:aU}{f:aab}(W:∀v u b5 x y b7,c (aR b7 b5) t_ lg (R x y b7) (a2 (f v u) Q oS b5)):di (e1 a) (pw (f v u) Q):=by refine js rR (bD (pb _) (fun u b5 e0=>dM y r2 (W v u b5 x y b7 Y r1 r2 q2)))
theorem lx{j:Operator}{J:R2}(d0:f7 j J)(b3:fV)(U:lq):M (.BinOp a j b pos) Yv:=nM (wpAny_BinOp bgC)
theorem aq2{j:UnaryOp}{J:ml V}(d0:UnR X (unaryOp j) J)(b3:fV):M (.UnaryOp j a pos) (tUn J d6):=nM (UnaryOp_ (js rR (d0 au a4 M a8 x v Q r r1 d2)))
theorem opI{f:aab}{C:au Int Int}{g:aIw}(rule:CF (C i j->yS rX->ns aJL)):KL X f (lo C rX):=by rw[xx];obtain⟨i,j,rfl,rfl,b0,q⟩:=h;rw[xk,akT];exact rule i j t t' s _ _ b0 (n6 rX)
theorem adl{f:aab}{g:aIw}(rule:CF (yS rX->ns aJL)):KL X f (qy rX):=La (n6 rX)
theorem aOE{f:aab}{g:dK Int Int}(rule:CF (j7 rX->ns aJL)):KL X f (oR rX):=La (eW rX q)
def aOF(i j:Int):Prop:=0<j/\j<1073741824
def adm(i j:Int):Prop:=(-(2^64)<i/\i<2^64)\/(-(2^64)<j/\j<2^64)
theorem adm.ok{i j:Int}(h:adm i j):IntMulOk i j:=by rcases h with⟨a3,a9⟩|⟨a3,a9⟩;rw[l (.of_left (a1J a3 a9)),l (.of_right (a1J a3 a9))]
theorem bjp(k:Nat):xC<=2^k:=by rw[ue]
theorem aOG:f7 .Add (qy (i+j)):=adl (iR q (add_int q))
theorem yA:f7 .Sub (qy (i-j)):=adl (iR q (sub_int q))
theorem F8:f7 .Mult (lo adm (i*j)):=opI (fun _ _ _ _ _ _ _ b0 q=>mul_int q b0.ok)
theorem aq4:f7 .FloorDiv (lo aOF (i/j)):=GA (by rw[fL b0.1,eq b0.2];exact floordiv_int (f0 (Ku z.m a3)) bz (.inl (a1K eP)))
theorem aOH:f7 .RShift (lo (fun _ j=>0<=j) (i/2^aBr)):=GA (rshift_int b0 bz)
theorem Sh:f7 .BitAnd (qy (Builtin.bitAnd i j)):=adl (iR q (and_int q))
theorem unI{f:cS->X1}{g:Int->Int}(rule:∀(i:Int)(t:Tok)(s:Shared)(Q:aU)(E:aU),yS (g i)->ns (f (e0 i))):UnR X f (rU (dK (.int (g i)))):=by rw[bdt,aJ i rfl h,xk];exact rule i t s _ _ (n6 (g i))
theorem aq5:UnR X (unaryOp .USub) (rU (dK (.int (-i)))):=unI (fun _ _ _ _ _ q=>neg_int q)
universe z
noncomputable def aq6:dK V V| .bC,.bC=>ab| .bC,.int _=>ab| .int _,.bC=>ab| .bC,.bl _=>ab| .bl _,.bC=>ab| .bC,.str _=>ab| .str _,.bC=>ab| .int _,.int _=>ab| .bl _,.bl _=>ab| .str _,.str _=>ab| .iE _,.iE _=>ab| .int _,.str _=>ab| .str _,.int _=>ab| .bl _,.str _=>ab| .str _,.bl _=>ab|_,_=>ah
inductive rEq(x y:V)(H:Hp)(Q:VK):Prop|mk:aq6 x y=ab->dy (ar x y)->rEq x y H Q
inductive rNe(x y:V)(H:Hp)(Q:VK):Prop|mk:aq6 x y=ab->dy (! ar x y)->rNe x y H Q
theorem dP{i j:Int}:ar (cq i) (cq j)=(i==j):=fS
theorem aq9{i j:Bool}:ar (CV i) (CV j)=(i==j):=Bk
theorem aq_{i j:Str}:ar (V.str i) (V.str j)=(i==j):=Bk
theorem aq'{i j:fv Mt}:ar (V.iE i) (V.iE j)=(aBv==j.toList):=by rw[iQ];cases i;cases j;simp
section z
variable{X:Cx}{a b c:Expr}{d6 c3 i:TE}{pos:Pos}
theorem aOJ{pins:bw}{M:St}{H:Hp}{s:Shared}{Q:VK}{k G:Bool}(I:aZ)(q:dy k)(e:k=G):f1 (.bool G) s:=by rw[cb];exact eW k q
theorem gO:be .Eq rEq:=by rw[xx,d4 c0 h];cases x with|bC=>{rw[cy (PySem.EqNone.eq_none_none uI) (PySem.EqNone.eq_none_bool uH) (PySem.EqNone.eq_none_int uH) (PySem.EqNone.eq_none_str uH)]}|bl i=>{rw[hm (PySem.EqNone.eq_bool_none uH) (eq_bool (ih aq9)) (PySem.EqMixed.eq_bool_str uH)]}|int i=>{rw[hf (PySem.EqNone.eq_int_none uH) (eq_int (ih dP)) (PySem.EqMixed.eq_int_str uH)]}|str i=>{rw[cz (PySem.EqNone.eq_str_none uH) (PySem.EqMixed.eq_str_bool uH) (PySem.EqMixed.eq_str_int uH) (eq_str (ih aq_))]}|iE i=>{rw[Kt (PySem.W.eq_bytes (ih aq'))]}|_=>cases y<;>rw[up c0]
theorem Si:be .NotEq rNe:=by rw[xx,d4 c0 h];cases x with|bC=>{rw[cy (PySem.EqNone.ne_none_none uH) (PySem.EqNone.ne_none_bool uI) (PySem.EqNone.ne_none_int uI) (PySem.EqNone.ne_none_str uI)]}|bl i=>{rw[hm (PySem.EqNone.ne_bool_none uI) (ne_bool (s0 aq9)) (PySem.EqMixed.ne_bool_str uI)]}|int i=>{rw[hf (PySem.EqNone.ne_int_none uI) (ne_int (s0 dP)) (PySem.EqMixed.ne_int_str uI)]}|str i=>{rw[cz (PySem.EqNone.ne_str_none uI) (PySem.EqMixed.ne_str_bool uI) (PySem.EqMixed.ne_str_int uI) (ne_str (s0 aq_))]}|iE i=>{rw[Kt (PySem.W.ne_bytes (s0 aq'))]}|_=>cases y<;>rw[up c0]
theorem ly:be .Lt (oR (cw (i<j))):=sL (lt_int q)
theorem yB:be .LtE aaO:=sL (le_int q)
theorem vb:be .Gt a9J:=sL (gt_int q)
theorem vc:be .GtE (oR (bi j i)):=sL (ge_int q)
theorem yC:be .Is (sE (y= .bC/\dy (ar x .bC))):=IC (is_none_gen (ih ?_))
theorem KN:be .IsNot (sE (y= .bC/\dy (! ar x .bC))):=IC (isnot_none_gen (ih ?_))
theorem BH(b:Expr){j:CmpOp}(h:eA (j≠.In) Vo)(a9:eA (j≠.NotIn) Vo):YB:=by have b4:(j==CmpOp.In)=ah:=by{rw[xM]};have b9:(j==CmpOp.NotIn)=ah:=by{rw[xM]};cases b<;>first|rfl|(show(_&&(j==_||j==_)&&_)=ah;rw[b4,b9,aBw,ag9,ag6])
theorem KO{j:CmpOp}{J:R2}(d0:Rw)(b3:fV)(U:lq)(c4:YB):M al0 Yv:=nM (wpAny_Compare1 bgC c4)
def vd(t:TE):TT:=jS (jB Q)
theorem KP{j:CmpOp}{J:R2}(d0:Rw)(b3:fV)(U:lq)(c4:YB):a9E:=by rw[fz];refine a1x (lA rR (Db (bD a75 (fun c c8 e0=>?_)))) c4;rw[X d4 O m q3 e0];obtain⟨k,e,q3⟩:=q3.out;rw[cb];cases m;exact vW (v d4 O q3)
def KQ(J B:R2)(d6 c3 i:TE):TE:=qE (c3 M a8 (p8 (J x y b7 (fun z d4=>z k (z= .bl k) (Z k (i M d4 (fun c5 e4=>B y c5 e4 Q)) (Q (.bl ah) d4))))))
theorem ara{j f:CmpOp}{J B:R2}(d0:Rw)(l:be f B)(b3:fV)(U:lq)(b0:aav)(c4:be1):M a'1 (KQ J B d6 c3 i):=by rw[fz];refine Compare_chain (lA rR (chain_link bb9)) c4;obtain⟨z,d4,O,m,k,e,q3⟩:=P;rw[cb];cases m;refine vW ?_;cases k with|false=>{exact ite_ff (bi ah d4 O q3)}|true=>exact ite_tt (chain_last (bD bgd (fun c5 d9 e0=>b d3 e4 a5 c9 i6 e0 (Lo Q))))
theorem arb{j f:CmpOp}{J B:R2}(d0:Rw)(l:be f B)(b3:fV)(U:lq)(b0:aav)(c4:be1):PT X a'1 (vd (KQ J B d6 c3 i)):=by rw[fz];refine isTrue_chain (lA rR (test_link bb9)) c4;obtain⟨z,d4,O,m,k,e,q3⟩:=P;rw[cb];cases m;refine vW ?_;cases k with|false=>{exact ite_ff (v d4 O q3)}|true=>refine ite_tt (test_last (bD bgd (fun c5 d9⟨d3,e4,a5,c9,i6⟩=>bD (Lo _) (fun d' f9 e0=>?_))));obtain⟨h6,g6,A,p,e2⟩:=e0;obtain⟨f7,b9,e2⟩:=e2.out;subst b9;rw[a4 p (vW (v g6 A e2))]
def arc(K:PySem.W.Frag)(x:V)(H:Hp)(k:Bool):Prop:=match x with| .bC=>k=ah| .bl b=>k=b| .int i=>k=(i !=0)| .str y=>ba9| .iE y=>ba_| .ref p=>(z O ZM (k=! aBx))\/(z O (nm O) (k=! aBx))\/z F (bh p qc) (k=! F.isEmpty)|_=>cF
theorem aOK{c:Type}{F:hV}{vs:Fw}(J:tW):(! vs.isEmpty)=! F.isEmpty:=sK J
theorem aOL{O:af}{ar:aM}(J:EF):(! ar.toArray.isEmpty)=! aBx:=sK J
theorem Sj:cf hy<2^63:=by rw[wg];decide
theorem aOM:aOB X (fun x H Q=>z k (arc X.K x H k) (Q k H)):=by rw[bdt,aJ k e h];have c0:=wg;cases x with|bC=>{rw[hQ,cb];exact truthy_none (v H I q)}|bl b=>{rw[hQ,cb];exact vW (v H I q)}|int i=>{rw[xk,cb];exact PySem.P.truthy_int (v H I q)}|str y=>{rw[pc ba9 (PySem.P.truthy_str bM (v H rx q))]}|iE y=>{rw[pc ba_ (PySem.W.truthy_bytes (bn b6 c0.l) (v H rx q))]}|ref p=>{rw[hQ];have d3:=e;rcases d3 with⟨O,S,d3⟩|⟨O,S,d3⟩|⟨F,S,d3⟩;rw[oO (sV S) (wpAny_truthy_list zq bz a95),oO (CQ S) (truthy_tuple d5 bz a95)];{rw[tN];obtain⟨c9,b2,vs,J,m⟩:a1 h_/\li p/\z vs tW (s.heap.DictOf aJD p vs):=es p _ S;have E:=Mv J;exact wpAny_truthy_dict b2 m bM (ap H rx (aOK J) q)}}|_=>exact(dx cF e).elim
theorem aON(b3:fV)(a0:apx):BT X.K:=nM (aBm (js rR (aOM au a4 M a8 x v Q r r1 d2)) (a0 _))
theorem vals1{x:V}{b1:aM}(J:eD [x]):a9O:=by cases J with|cons r1 r2=>rw[a4 r2 (dm r1)]
theorem vals2{x y:V}{b1:aM}(J:eD Jq):∃u c5,b1=[u,c5]/\pR/\gR y c5:=by cases J with|cons r1 r2=>cases r2 with|cons m c9=>rw[a4 c9 (f _ _ r1 m)]
theorem aOO(b0:fR):pp "max" (j>i):=by rw[Zy,a0 i j rfl q];obtain⟨u,c5,rfl,⟨t,rfl⟩,⟨t',rfl⟩⟩:=vals2 J;refine max_two_ints iy beT;by_cases b8:j>i;rw[dl b8 b8 el,bd_]
theorem aOP(b0:fR):pp "min" (j<i):=by rw[Zy,a0 i j rfl q];obtain⟨u,c5,rfl,⟨t,rfl⟩,⟨t',rfl⟩⟩:=vals2 J;refine min_two_ints iy beT;by_cases b8:j<i;rw[dl b8 b8 el,bd_]
universe z
universe L2
namespace L2
open PySem PySem.Spec PyProof.Rows
structure KR(h:Heap)(x dx C:Addr)(j:dO):Prop where
 obj:bA x (U9 C dx)
 ns:agT dx j
 ne:dx≠x
set_option tactic.hygienic true in theorem aOQ{h:Heap}{dx:Addr}{j:dO}(n:agT dx j):Ec (bA dx m):=by obtain⟨o,a7,e1,d0,hd,c3,_,c4⟩:=n;rw[aa o d0 (fun c=>?_),c7 (c4 c)];unfold nsFind findBy at e;rw[pA Array.find?_toList];delta aBy;rw[hd];dsimp only;split;rw[az];{rename_i q;rw[a6 q];have a:a7.toList.any (·.refKey)=ah:=by{rw[List.any_eq_false];intro y b6;obtain⟨z,t,b⟩:=c3 y (Array.mem_toList_iff.mp b6);simp[DictEntry.refKey,b]};rw[aO ag];exact gB aa e}
theorem KR.look{h:Heap}{x dx C:Addr}{j:dO}(I:KR h x dx C j):Ec (PySem.W.InstAt h x (U9 C dx) C (aa m)):=let⟨m,d0,a5⟩:=aOQ I.ns;v m (bj I.obj rfl d0) a5
section z
variable{prog:Program}{w:World}{A:Around}{E:aU}{s:Shared}{K:PySem.W.Frag}{x dx C f:Addr}{j:dO}{c:Str}{v:Value}
theorem get_map{a:Bool}{Q:aU}(X:vQ bh)(I:aJl)(d8:sR c)(c7:aHm)(b3:hB c=aa ae)(d3:j c=aa v)(g:a1L v=ab)(h:Q v O1):bl (aBA kQ c a):=Dk (PySem.W.get_value X d0 (aBz d8).1 (PySem.W.findObj_own c7 b3 rfl ag) g h)
theorem aOR{d5:amd}{Q:dF (cS×aM)}(X:vQ bh)(I:aJl)(d8:sR c)(W:hI c f)(c6:p2 rE)(d3:j c=ae)(h:Q (rE,[kQ]) s):bl (a1N kQ c d5):=Dk (PySem.W.method_fn X d0 (aBz d8).1 (aBz d8).2 W (a1M c6) (by show B (aBy c m) (·.isSome)=aa ah;rw[a5,d3];rfl) h)
theorem aOS{ns:cX}{Q:Qi}(X:vQ bh)(I:aJl)(c0:a'x)(c2:aA4 K C=ab)(c6:aBB K C c=aa ae)(c7:aHm)(hw:a1O j ns)(G:a1 zr)(h:o h' (KR h' x dx C (e9 (av (y=c) v (j y)))) (pi dx) (Q () (dp h' (dF+2)))):bl (setAttr kQ c v):=by rw[bY d0 a5 I.look];refine PySem.W.set_plain X d0 c0 (PySem.W.osa_open (s:=O1) (r:=ae) X d0 c2 c6 (fun b=>?_));obtain⟨R,b0,p⟩:=PySem.W.any_some c7;rw[C (fe (bF (wpAny_loadPart I.obj (bF (PySem.W.Looks.here (s:=O1) (PySem.W.looks_clsIn X b0) ?_)))))];rw[p];refine cj (a:=aa dx) (bF (fe (wpAny_nsSet1 (s:=O1) I.ns (fun h' j7 a=>?_))));obtain⟨g,i,k,d,e,f⟩:=j7.count (PySem.Within.cons c v hw);rw[C (wpAny_lookBehind d (t e (pastItsLine_dict (cp f (x (Vp G))))) (cj (h _ (v (ac a _ (hv I.ne) I.obj) j7 I.ne) a)))]
theorem aOT{R:Qj}{vs:aM}{a:Jm}(X:vQ bh)(c4:amw)(hi:a9a)(W:PySem.W.typeIn K rE=aa (.type "function"))(h:Hs XT (CS (xi::vs)) (.call rE ⟨.ref iw::vs,a⟩) (PySem.W.InitBack iw R) bdf):v3 (.call xi ⟨vs,a⟩):=b c7 g d t os s (PySem.W.make_core (PySem.W.makes_of X c4) (PySem.W.looks_findIn X hi) (fun self=>PySem.W.bind_fn X self W) gm h)
universe z
noncomputable def ko(f:Str)(v:V):hW->hW|[]=>[(f,v)]|(g,x)::J=>v g f ((g,v)::J) ((g,x)::gx J)
theorem di(f g:Str)(v:V):∀G:hW,fr (gx G) g=av (g=f) v (Vq g)|[]=>by{show Ml g [(f,v)]=_;rw[N h g f,a_,a_]}|(k,x)::J=>by rw[aMB];rw[aLN,cM];{rw[aO c3,N h g k,a_];{simp only[Ml,(aBC h)];exact(di f g v J)}}
theorem adn(f:Str)(v:V):∀G:hW,f∈g0 (gx G)/\E g (g∈aBD fN) (g∈g0 (gx G))|[]=>⟨bK,fun g h=>ai⟩|(k,x)::J=>by obtain⟨c2,N⟩:=adn f v J;rw[aMB];rw[aLN,a_,cM]
theorem ard(f:Str)(v:V):∀G:hW,bd (gx G) (U_+1)|[]=>aG0|(k,x)::J=>by have d6:=ard f v J;rw[aMB];rw[aLN,a_,a_]
theorem sf.some_of{v:V}{o:pE}(J:sf pI o):z u (eC o) jk:=by cases o with|none=>{trivial}|some u=>exact aP u J
theorem sf.none_of{o:pE}(J:sf ae o):o=ae:=by cases o with|none=>{rfl}|some u=>exact(dx cF J).elim
theorem aOU{v:V}{u:Value}(J:jk):a1L u=ab:=by cases v with|bC=>{rw[Ft]}|bl b=>{rw[Ft]}|int i=>{rw[un QN]}|str x=>{rw[un aou]}|iE b=>{rw[un (a1g b t)]}|R3 b=>{rw[un (a1f b t)]}|ref a=>{rw[Ft]}|ty n=>cases(a0 u (Mu n) J);rfl
section z
variable{P:Program}{w:World}{H L:Hp}{h h':Heap}{a C dx:Addr}{G b:hW}
theorem arf(du:ll)(e:amM):I j (KR h a dx C j) (∀f,aJG) (a9r/\U_<=1000/\bh dx YT):=by obtain⟨d,z,ne,N,j,n,J,q⟩:=dx (he (aC C G)) (du a _ e);exact c j (v N n ne) J q z d
universe z
structure yD(K:PySem.W.Frag)(C:Addr):Prop where
 pg:sR Str.empty
 hd:aHm
 po:aA4 K C=ab
 sa:a'x
theorem yD.get{K:PySem.W.Frag}{C:Addr}(c:Zp)(f:Str):sR f:=c.pg
def Sk(K:PySem.W.Frag)(C:Addr)(f:Str):Prop:=hB f=aa ae
theorem Sk.aOV{K:PySem.W.Frag}{C:Addr}{f:Str}(n:anJ):aBB K C f=aa ae:=f9 aBB (show hB f=aa ae from n)
structure Meth(K:PySem.W.Frag)(C:Addr)(m:Str)(f:Addr):Prop where
 at_:hI m f
 fn:p2 rE
 kp:aIp
section z
variable{X:Cx}{pins:bw}{M:St}{H:Hp}{s:Shared}{a C dx:Addr}{G:hW}{f:Str}{v:V}{A:Around}{E:aU}
theorem arh{b:Bool}{Q:aU}(I:aZ)(e:amM)(c:aaj)(n:Sk X.K C f)(l:aHE)(h:l u c1 (aR H c1) jk (Q u c1)):mu (aBA bc f b):=by rw[be7,bl hu m (a1P (v:=v) (o:=j f) cu)];exact get_map vY Y (c.get f) c.hd n hu (aOU m) (h u _ rx m)
theorem aOW{m:Str}{g:Addr}{d5:amd}{Q:dF (cS×aM)}(I:aZ)(e:amM)(c:aaj)(k:y7 g)(l:Vq m=ae)(h:Q (.ref g,uo) s):mu (a1N bc m d5):=by rw[be7];exact aOR vY Y (c.get m) k.at_ k.fn (sf.none_of cu) h
theorem ari{y:V}{u:Value}{Q:Qi}(I:aZ)(e:amM)(c:aaj)(n:Sk X.K C f)(a5:U_<1000)(Z:lg)(h:i4 (aR (ad a bdk) c1) ()):mu (setAttr bc f u):=by obtain⟨j,Y,J,wi,_,d0⟩:=arf es e;refine aOS vY Y c.sa c.po n.aOV c.hd wi (ac bA wg (cV a5)) (fun h' d sb=>h _ ?_);refine Vr (x:=a) (e:=dx) (jH e) (.inr d0) (fun b q U z=>sl z) (let⟨o,_,_,d3,_⟩:=d.ns;nt d3) (a (Y Y.ne d0) ?_ Y.ne d.obj _ d.ns (fun g=>?_) (fun g d8=>?_));rw[cc (ard f y G) pT];{rw[di];rw[T g f,dl q q Z,a_]};{rw[T g f,Z q (adn f y G).1];{refine(adn f y G).2 g (wi g (J (d8 ?_)));show(av (g=f) u (j g))=ae;rw[J (bj q) z]}}
theorem Inv.made(I:aZ):aR (upd (ad aO (.own iw)) iw a'T) bdf:=by rw[ad b4 (dk (mJ MP) aO) MP (aBE bh rfl)];refine(cG (.own iw) (mJ MP) (qD (bU q)) (aW b4)).laid (a:=iw) (o:=a'T) (t':=dF) (qD (bU q)) (qL (lD _ _)) ?_;have ne:aO≠iw:=gE jW;rw[e (wB ne) cT ne (by have:=aBE (mJ MP) (o:=U9 C aO) rfl;rwa [lD]at this) uB ((Heap.Ns1.of_empty (a MP #[] _ b4 (ah (f9 (cz a0 ai)) kW))).at (lJ (bU q))) (as CW) (o1 (cz rfl b6))]
theorem aOX{prog:Program}{w:World}{env:Env}{e:Expr}{f:Str}{pos:Pos}{s:Shared}{Q:aU}(U:ag_ e f env (kq e)=kq e)(h:ij (kq e) (fun o l=>am (aBA o f ab) Q E l)):bl (kq a7w):=Attribute_any_ h (bj arm_eval_Attribute U)
universe z
inductive jF(K:PySem.W.Frag)(f:Str)(Q:VK)(x:V)(a8:Hp):Prop|mk:∀a C dx G v,b x bc aIW Zp anJ (aHE->Q v a8->jF K f Q x a8)
def aOY(K:PySem.W.Frag)(d6:TE)(f:Str):TE:=le (jF K f Q)
inductive jS(K:PySem.W.Frag)(f:Str)(N:je)(y x:V)(b7:Hp):Prop|mk:∀a C dx G,b x bc (b7 a=aa (aC C G)) Zp anJ (U_<1000->N (upd b7 a bdk)->jS K f N y x b7)
def aOZ(K:PySem.W.Frag)(d6 L:TE)(f:Str):TS:=f1 (L M H (sw (d6 M a8 (jS K f (mH M) y))))
def ado(X:Cx)(j:Operator)(F:Fx):Prop:=∀(pins:bw)(s:Shared)(M:St)(H:Hp)(x y:V)(u v:Value)(Q:VK),bF pR Yq (F x y H Q) (aBn j u v)
def aO0(K:PySem.W.Frag)(d6 L:TE)(F:Fx)(f:Str):TS:=f1 (d6 M H (jI (∃a C dx G v,x=bc/\aIW/\N Zp anJ aHE (L M a8 (p8 (F v y b7 (fun z d4=>∃t b,d4 a=aa (.ins C t b)/\cx<1000/\mH M (qG (.ins C t (ko f z b))))))))))
section z
variable{X:Cx}{o e B:Expr}{f:Str}{pos E T:Pos}{d6 L:TE}
theorem aO1(a0:M e d6)(U:bgD):zz X.K:=by rw[fz];refine aOX U (wo ET);obtain⟨x,a8,r,R,a,C,dx,G,v,ex,d0,c,n,l,q⟩:=P;rw[lZ,Ey];exact arh r d0 c n l (fun F b5 Y m=>a v a8 Y m q)
theorem aO2{d:PySem.W.Frag}(b3:amO)(d3:aoi)(c0:BE (j3 f E))(g:Bh):bn [j3 f E] B pos (aOZ d d6 L f):=by rw[ub,k_];refine plainObj_wpAny_Assign_Attribute (bD a74 (fun u a4⟨y,a8,r,Z,q⟩=>bD (nc _ q) (fun ov b5 P=>?_))) c0;obtain⟨x,b7,Y,R,a,C,dx,G,ex,d0,c,n,l,q2⟩:=P;rw[lZ,fs (ov=dq a) R];exact ari Y d0 c n l Z (fun c8 O=>d M _ O q2)
theorem adp{d:PySem.W.Frag}{j:Operator}{F:Fx}(b3:amO)(d3:aoi)(i:ado X j F)(g:Bh):fu (j3 f T) B (aO0 d d6 L F f):=by rw[ub,k_];refine wpAny_AugAssign_AttributeAny (bD rR (fun ov a4 P=>?_));obtain⟨x,a8,r,R,a,C,dx,G,v,ex,d0,c,n,l,q⟩:=P;rw[lZ,fs (ov=dq a) R];refine arh r d0 c n l (fun u b5 Y m=>bD (d3 au b5 M a8 _ Y q) (fun w c8 e0=>b y b7 O Z q3 e0 (bD (i au c8 M b7 v y u w _ O m Z q3) (fun p d9 e0=>by obtain⟨z,d4,a5,e,t,b,k,i1,i6⟩:=e0;exact ari a5 k c n i1 e (fun f9 A=>d M _ A i6)))))
inductive arj(x:V)(y:V)(H:Hp)(Q:VK):Prop|mk:p3 (i+j) (arj x y H Q)
inductive ark(x:V)(y:V)(H:Hp)(Q:VK):Prop|mk:p3 (i-j) (ark x y H Q)
theorem arl:ado X .Add arj:=by rintro pins s M H x y u v Q I R Z⟨i,j,rfl,rfl,q⟩;rw[ev (dx (jU QN) R),GU Z];exact PyProof.Rows.iadd_int (n6 (i+j))
theorem aO3:ado X .Sub ark:=by rintro pins s M H x y u v Q I R Z⟨i,j,rfl,rfl,q⟩;rw[ev (dx (jU QN) R),GU Z];exact PyProof.Rows.isub_int (n6 (i-j))
universe z
section z
variable{X:Cx}{pins:bw}{M:St}{H:Hp}{s:Shared}{A:Around}{E:aU}{Q:aU}{c:Value}{b:Bool}
universe z
universe L2
namespace L2
open PySem PySem.Spec PyProof.Rows
structure hY(k:Nat)(A:Around):Prop where
 hd:oj
 dp:ag'+3*k+5<a1Q
 un:sW+16*k+200<gF
theorem hY.mono{j k:Nat}{A:Around}(J:JT)(h:j<=k):hY j A:=v J.hd (bv J.dp (uW this h h h)) (by have:=aha;lia-abstractProof)
theorem hY.deeper{k:Nat}{A:Around}(J:hY (k+1) A)(env:Env):hY k (ahb env):=v J.hd (by have:=J.dp;show ag'+1+3*k+5<_;exact EB) (by have:=aha;show sW+3+16*k+200<_;exact EB)
theorem aO4{A:Around}{C:Addr}{b1:aM}{a:Jm}:(aop).depth=ag'+1:=by first|rfl|simp[aBG,Code.weight,Code.isCreation,Code.isGuard,Code.isCaller,a1R,aBF,guardIds]
theorem aO5{A:Around}{C:Addr}{b1:aM}{a:Jm}:(aop).units=sW+1:=by first|rfl|simp[aBG,Code.cUnits,a1R,aBF]
theorem hY.make{k:Nat}{A:Around}(J:hY (k+1) A)(C:Addr)(b1:aM)(a:Jm):hY k aop:=v J.hd (by have:=J.dp;rw[aO4];exact EB) (by have:=aha;rw[aO5];exact EB)
theorem hY.depth{k:Nat}{A:Around}(J:JT):ag'<a1Q:=bv J.dp EB
theorem hY.units{k:Nat}{A:Around}(J:JT):kA 64:=aI7
theorem hY.bjq{k:Nat}{A:Around}(J:JT):sW<gF:=aI7
def sh:TA:=l1 (Q [] H)
def qA(d6:TE)(o:TA):TA:=qE (o M a8 (fun O b7=>Q (x::O) b7))
section z
variable{X:Cx}{e:Expr}{a7:fE}{b8:TE}{t:TA}{pos:Pos}
theorem Sl:PA X [] sh:=fun _ _ _ _ H Q I h=>aBH bao
theorem ve(b3:rV)(a6:aHU)(c0:Bv):PA X ro (qA b8 t):=by intro pos au s M H Q I h;rw[c0];refine a1S (bD rR (fun u a4 e0=>b x a8 r r1 d2 e0 (gg (a6 pos au a4 M a8 _ r d2) O (a (x::O) b7 Y (.cons r1 r2) q2))))
inductive KS(o:af->HO)(Q:VK)(O:af)(a8:Hp):Prop|mk:Jl->ad p (gF p) (Q fP (upd a8 p (o O)))->KS o Q O a8
def aO6(t:TA):TE:=jS (KS .tup Q)
def aO7(t:TA):TE:=jS (KS .lst Q)
theorem KU{e7}(h:aHU):M (.Tuple a7 e7 pos) (aO6 t):=gR (wpAny_Tuple_spliced bi8) (upd a8 fY tO) (a z b1 J _ gK rfl _ rfl)
theorem yE(h:aHU):M (.List a7 pos) (aO7 t):=gR (wpAny_List_spliced bi8) (U a8 fY O) (a z b1 0 J gK)
universe z
abbrev Sp:=aa af Hp VK XK
abbrev mq:=c ke Hp vM XK aU
structure adq(P:Program)(w:World)(K:PySem.W.Frag)(mg:dO)(base:Heap)(A:Around)(outer:ke)(s:Shared)(H:Hp):Prop where
 frames:A.frames=aa eB
 mod:Mod K mg aj
 bs:ht (base.get? b) (g_/\gs)
 R4:base.objs.size<=aO
 uZ:agX aj eB
 F2:bH (uY eB) gs
 du:fk H bh
 bare:Hj sT
inductive CE(outer:ke)(P:Program)(w:World)(H:Hp)(s:Shared)(Q:VK)(u:Value)(c1:Shared):Prop|mk:∀v L,b Vi CO (Hj Vh) (Un (uY eB) [] H L bh mG) (fk L mG) (jk->Q v L->aMf)
def CR(T:mq)(outer:ke)(P:Program)(w:World)(H:Hp)(s:Shared)(Q:VK)(E:XK)(J:Result)(c1:Shared):Prop:=match J with| .ok (.ret u)=>aMf| .ok _=>cF| .error e=>T eB H s E e c1
structure vf(P:Program)(w:World)(K:PySem.W.Frag)(mg:dO)(base:Heap)(T:mq)(k:Nat)(f:Addr)(fd:FuncData)(c5:cX)(e8:Sp):Prop where
 len:alu
 run:∀(A:Around)(outer:ke)(s:Shared)(H:Hp)(i:Args)(b1:aM)(vs:af)(Q:VK)(E:XK),j JT (vu A) (aBI s fd i (MQ b1)) Fo aF0 (Hs (jw P w) A (.call rE i) (CR T eB P w H s Q E) s)
theorem vf.mono{P:Program}{w:World}{K:PySem.W.Frag}{mg:dO}{base:Heap}{T:mq}{j k:Nat}{f:Addr}{fd:FuncData}{c5:cX}{e8:Sp}(F:f3 T j fd)(h:j<=k):vf P w K mg aj T k f fd c5 e8:=⟨F.len,fun A eB s H i b1 vs Q E a6=>F.run A eB s H i b1 vs Q E (ahc h)⟩
theorem adq.make{P:Program}{w:World}{K:PySem.W.Frag}{mg:dO}{base:Heap}{A:Around}{outer:ke}{s:Shared}{H:Hp}(e:vu A)(C:Addr)(b1:aM)(a:Jm):vu aop:=a (by first|exact e.frames|(simpa[aBG,Code.envs,aBF,pushEnvs]using e.frames)) e.mod e.bs e.R4 e.uZ e.F2 e.du e.bare
section z
variable{X:Cx}{pins:bw}{M:St}{H:Hp}{s c1:Shared}
theorem Inv.arn(I:aZ):adq eC X.w X.K mI sS X.A oR s H:=a a1T aBi I.bs (cp agY I.sz) I.stack I.aqN es zl
theorem Inv.after{Q:VK}{u:Value}(I:aZ)(h:CE oR eC X.w H s Q u c1):f1 u c1:=by obtain⟨v,L,os,bare,un,du,J,q⟩:=h;obtain⟨c7,g,d,t,a⟩:=c1;rw[fs (a=CO) os];exact a v L (I.call (h':=c7) (g':=g) (d':=d) (t':=t) (ch:=[]) un du bare (fun b z=>cz z jK)) J q
universe z
def F9(e8:Sp)(b:af)(E:XK)(t:TA):TE:=x1 (e8 (vs++b) a8 Q E)
inductive jM(C:Addr)(m:Str)(e8:Sp)(b:af)(E:XK)(t:TA)(M:St)(Q:VK)(x:V)(a8:Hp):Prop|mk:∀a dx G,b x bc aIW (Vq m=ae) (t M a8 (fun vs b7=>e8 (x::(vs++b)) b7 Q E)) (jM C m e8 b E t M Q x a8)
def aO8(C:Addr)(m:Str)(e8:Sp)(b:af)(E:XK)(d6:TE)(t:TA):TE:=le (jM C m e8 b E t M Q)
def aro(C:Addr)(e8:Sp)(b:af)(E:XK)(t:TA):TE:=x1 (gF (gF x) (gF dx) (cy a8 dx Ze))
def Binds(K:PySem.W.Frag)(fd:FuncData)(c5:cX)(c7:aM):Prop:=∀(s:Shared)(b1:aM),vQ bh->t (b1++c7)=kA->aBI s fd (ec b1) (MQ (b1++c7))
theorem Binds.all{K:PySem.W.Frag}{fd:FuncData}{c5:cX}(h:∀b1:aM,CM fd):aaC:=fun s b1 _ a5=>by rw[qP]at a5⊢;exact .of_eq (h b1 a5)
def Passes(T:mq)(X:Cx)(E:XK):Prop:=∀(pins:bw)(M:St)(H:Hp)(s:Shared)(e:Value)(c1:Shared),aZ->T oR H s E e c1->oS e c1
section z
variable{X:Cx}{T:mq}{k:Nat}{f C:Addr}{fd:FuncData}{c5:cX}{e8:Sp}{b:af}{c7:aM}{E:XK}{x m:Str}{p pos i:Pos}{e o:Expr}{a7:fE}{d6:TE}{t:TA}
theorem ads{pins:bw}{M:St}{H:Hp}{s:Shared}{Q:VK}{b1:aM}{vs:af}(F:Kp)(a6:Qs)(U:Kj)(hd:Ka)(S:Kl)(I:aZ)(J:Fo)(h:e8 (vs++b) H Q E):x0 rE:=by have r2:=Vs hd;refine aBJ (MS (F.run X.A oR s H (ec b1) (b1++c7) (vs++b) Q E a6 I.arn (U s b1 vY (bl r2.length (F.len _ _ _ _ h))) r2 h) (fun J c1 e0=>?_));cases J with|error e=>{exact S au M H s e c1 I e0}|ok fl=>cases fl with|ret u=>{exact I.after e0}|next=>{assumption}|brk=>{assumption}|cont=>exact MR e0
theorem aO9(F:Kp)(a6:Qs)(d8:qn)(c4:jI (mI x) f)(c3:U4 X.K rE=ab)(U:Kj)(hd:Ka)(S:Kl)(b3:FC)(l:mi)(a0:Bv)(b8:JX):pk (F9 e8 b E t):=q_ c3 (ads F a6 U hd S r J q)
theorem jn{d5:amd}(a0:amO)(c:aaj)(c4:y7 f)(F:Kp)(a6:Qs)(U:Kj)(hd:Ka)(S:Kl)(b3:FC)(z:Bv)(b8:JX)(c6:cg (e1 (dP m ro pos)=(do{let ov<-eval o X.env;standAt i.atName;let(f,first)<-holding [ov] (getMethod ov m d5);callWith pos f first (backTo pos (starEach (e::a7) X.env)) (backToKw pos (keywordEach [] X.env))}))):qX ro t:=Lz (a1U (first:=uo) (h₀:=sS) a1V c4.kp (bD (b3 pos au a4 M a8 _ r q) (fun b1 b5 e0=>dM vs J ⟨Y.KA,ads (b1:=bc::b1) (vs:=bc::vs) F a6 U hd S Y (.cons rfl J) q2⟩)) z b8)
theorem Sm{d5:amd}(a0:amO)(c:aaj)(c4:y7 f)(F:Kp)(a6:Qs)(U:Kj)(hd:Ka)(S:Kl)(c6:cg (e1 (dP m [] pos)=(do{let ov<-eval o X.env;standAt i.atName;let(f,first)<-holding [ov] (getMethod ov m d5);callWith pos f first (backTo pos (starEach [] X.env)) (backToKw pos (keywordEach [] X.env))}))):qX [] sh:=Lz (a1W (first:=uo) r.KA c4.kp (ads (b1:=uo) (vs:=uo) F a6 U hd S r (hy rfl) q))
structure Mk(K:PySem.W.Frag)(C f:Addr):Prop where
 makes:amw
 init:a9a
 fn:p2 rE
 kp:aIo
theorem arp{pins:bw}{M:St}{H:Hp}{s:Shared}{Q:VK}{b1:aM}{vs:af}(d5:aJp)(F:Kp)(a6:aIC)(U:Kj)(hd:Ka)(S:Kl)(I:aZ)(J:Fo)(h:gF (Y x) (Y dx) (eb (ad dx Ei) Ze)):x0 xi:=by have e0:=h iw aO (zo (a1X _)) pX (gE jW);have Y:=Inv.made (C:=C) I;have r2:iP (gU iw::(vs++b)) bdI:= .cons rfl (Vs hd);refine aBJ (aOT (f:=f) vY d5.makes d5.init (a1M d5.fn) (MS (F.run _ oR _ _ (ec (dq iw::b1)) bdI _ _ E (a6.make C b1 []) (Y.arn.make C b1 []) (U _ (dq iw::b1) Y.KA (by rw[c7 r2.length,a6 (F.len _ _ _ _ e0)];exact CX)) r2 e0) (fun J c1 a=>?_)));cases J with|error e=>{exact S au M _ _ e c1 Y a}|ok fl=>cases fl with|ret u=>{obtain⟨v,L,O,rv,B,q3⟩:=aBK a;subst B;exact a rv (gU iw) L O (bd q3)}|next=>{assumption}|brk=>{assumption}|cont=>exact MR a
theorem aO_(d5:aJp)(F:Kp)(a6:aIC)(d8:qn)(c4:mI x=aa xi)(U:Kj)(hd:Ka)(S:Kl)(b3:FC)(l:mi)(a0:Bv)(b8:JX):pk (aro C e8 b E t):=q_ d5.kp (arp d5 F a6 U hd S r J q)
theorem arq(d5:aJp)(F:Kp)(a6:aIC)(d8:qn)(c4:mI x=aa xi)(U:Kj)(hd:Ka)(S:Kl)(l:mi):M (ev x []) (aro C e8 b E sh):=C8 (a1W vY d5.kp (arp (b1:=[]) d5 F a6 U hd S I .nil h))
universe z
section z
variable{X:Cx}{T:mq}{k:Nat}{f C:Addr}{fd:FuncData}{c5 K:cX}{e8:Sp}{E:XK}{x m:Str}{p pos i a:Pos}{e o:Expr}{a7:fE}{b:bL aBL}{b8 d6:TE}{t D:TA}{d1:bZ Str}
variable{g:aM->aM->aM}{a:af->af->af}
universe z
structure adt(N P:cX)(a:Scope):Prop where
 kind:sJ a1Y
 co:a.isCoroutine=ah
 gen:a.isGenerator=ah
 nd:N.Nodup
 pre:N.take P.length=P
 par:aK P a9Y
 aO':dw aBM (y.2≠.free)
theorem ars{kindOf:amI}{x:Str}:KN (ahd CY a m x)|[],_,_=>rfl|(n,v)::J,m,h=>by unfold bindL;rw[ars a'Z];split;rw[cM];{rfl}
theorem art{kindOf:amI}{x:Str}:KN (ahe CY a m x)|[],_,_=>rfl|(n,v)::J,m,h=>by unfold bindC;rw[art a'Z];split;{rfl};rw[dY]
theorem aru{kindOf:amI}{x:Str}{v:Value}:q4 (ld (CY x)) (ahd CY (aBN vs) m x)|[],_,_,_,_,h,_,_=>bB|_::_,[],_,_,_,_,h,_=>bB|p::P,w::vs,0,m,nd,a3,a9,c3=>by{simp at a3 a9;subst a3;subst a9;show ahd CY bc9 m p=_;unfold bindL;rw[ars bdF,aK c3];exact cP}|p::P,w::vs,i+1,m,nd,a3,a9,c3=>by unfold bindL;exact aru (i:=i) (AL).2 bB bB c3
theorem arv{kindOf:amI}{x:Str}{v:Value}:q4 (CY x≠aa .local) (ahe CY (aBN vs) m x)|[],_,_,_,_,h,_,_=>bB|_::_,[],_,_,_,_,h,_=>bB|p::P,w::vs,0,m,nd,a3,a9,c3=>by{simp at a3 a9;subst a3;subst a9;show ahe CY bc9 m p=_;unfold bindC;rw[art bdF,bj c3];exact cP}|p::P,w::vs,i+1,m,nd,a3,a9,c3=>by unfold bindC;exact arv (i:=i) (AL).2 bB bB c3
noncomputable def start(N:cX)(vs:af):St:=Vu aa++Vt (iS-iR) ae
noncomputable def yF(T:mq)(P:Program)(w:World)(K:PySem.W.Frag)(mg:dO)(base:Heap)(N:cX)(j:Str)(d:Scope)(f:Addr)(R:Value)(A:Around)(outer:ke)(s:Shared)(H:Hp)(E:XK):Cx where prog:=P;w:=w;K:=K;mg:=mg;base:=aj;A:=ahb J8;N:=N;F1:=s;Kz:=H;env:=J8;outer:=eB;stack:=J8::eB;ex:=[];calm:=ab;fn:=as ab;pn:=[];xe:=fun e c1=>ff (jw P w) (ahb J8) (leaving J8 e) (fun _ M=>T eB H s E e M) (fun d3 M=>T eB H s E d3 M) c1
theorem arw{a:Scope}{n:Nat}{x:Str}(h:j5 (vR x)):ax c (fr (zt n aBM []) x) c:=x (a1Z (a10 aBM n [] AI))
theorem aPa{T:mq}{P:Program}{w:World}{K:PySem.W.Frag}{mg:dO}{base:Heap}{N c5:cX}{j:Str}{d:Scope}{f:Addr}{R:Value}{A:Around}{outer:ke}{s a4:Shared}{H:Hp}{E:XK}{b1:aM}{vs:af}(r:adt N c5 d)(hd:oj)(f5:vu A)(a5:iR=kA)(J:Fo)(x:InCallC s aO (ahd (J8).kindOf (MQ b1) uB) (zt iw mK []) (ahe (J8).kindOf (MQ b1) uB) a4):Inv (yF T P w K mg aj N j d f R A eB s H E) [] (MT N vs) H a4:=by have b8:kA<=iS:=by{rw[it r.pre,am eT];exact cp CZ (oU kA iS)};obtain⟨a3,D,rfl,c3⟩:=x.done;have G:∀b:ei,b∉(yF T P w K mg aj N j d f R A eB s H E).ex:=fun b z=>At z;rw[b (a f5.mod r.kind rfl rfl aY (fun y z c a3 a9=>?_) Q8 (fun y c _ h=>?_) (a (as hd) (Around.frames_deeper f5.frames) (.inr xJ) a9y f5.bs f5.R4 (fun b _ _=>G b) a9y f5.uZ f5.F2)) rfl f5.bare (agU c3) (av x.toInCall.ns (fun i y v a3 a9 e2=>?_)) (fun y c h=>aW (x.cell y c h)) (a11 aY) (fun y c h=>?_) (aJ (GZ ([]:bw)) (f5.du.kept c3)),l (name_of_addr x.apart (oT a3) (oT a9))];{have b6:=b6;rw[bcq,l (arw b6),cF rfl (r.aO' _ (oT b6))]};rw[l be5];{have hi:i<iR:=by{delta MT at a9;rw[fW hi iR,l hi,dY]};have b3:A vs v:=by{delta MT at a9;rw[hC hU,cA]at a9;cases e:vs[i]? with|none=>{simp_all}|some a=>simp_all};rw[bl hu rv (ahf b3)];have c2:A c5 y:=by{rw[<-r.pre,sX ai];exact a3};rw[br g c5.Nodup r.pre (r.nd.sublist (aBP _ _)),ak u rv,wa (r.par y (bO c2)),dS ⟨k,aru g c2 hu k⟩];{rw[cl c (arw (n:=iw) k)];refine .inr (a2 Pb c e);rw[cO (x.cell y c e),cR (arv g c2 hu (by show MU y≠_;rw[k];decide))];exact q}};rw[l (a11 be5)];{delta MT;show _=iS;rw[ck,bA,aBO];simp[*]}
theorem aPb{T:mq}{P:Program}{w:World}{K:PySem.W.Frag}{mg:dO}{base:Heap}{k:Nat}{f:Addr}{c j:Str}{h:Arguments}{a:uj}{d:Scope}{Z kV p b3 e3 ct D:Value}{g m:nj}{z:EA}{N c5:cX}{e8:Sp}(lk:Co bhZ)(S:aLK)(r:adt N c5 d)(len:alu)(l:∀(A:Around)(outer:ke)(s:Shared)(H:Hp)(vs:af)(Q:VK)(E:XK),fc (ahg j d aO f e3) (yF T P w K mg aj N j d f e3 A eB s H E) a):f3 T (k+1) bhZ:=by rw[v len (fun A eB s H i b1 vs Q E a6 f5 U J C=>?_)];have y:=f5.mod.kin.keeps beB;refine codeAny_call_function a6.depth (y _ _ lk) rfl r.co r.gen rfl (PySem.W.codeRec_of y S) (U _ _ _ _ (wpAny_newFunctionEnv_cells r.kind (fun⟨n,v⟩b6=>by rw[al (r.par n (a12 b6).1),l AZ,co ⟨q,a10 _ _ _ (.inl q)⟩]) (fun env a0 a4 x=>?_)));subst a0;rw[v ((f5.mod.nolimit.keeps beB).keeps x.toInCall.keep) (codeAny_func ?_)];obtain⟨t,c6,e0⟩:=l A eB s H vs Q E (a6.deeper _) C;refine wh (c6 [] a4 (MT N vs) H _ (aPa r a6.hd f5 (len _ _ _ _ C) J x) e0) (fun fl c1 c0=>?_) (fun e c1 c0=>c0);have fin:∀{g0:St}{L:Hp}{v:V}{u:Value},i (Inv (yF T P w K mg aj N j d f e3 A eB s H E) [] g0 L c1) jk (Q v L) aMf:=fun{g0 L v u}d0 rv q=>a v L d0.os d0.bare d0.base d0.du rv q;cases fl with|ret u=>{rw[j v g0 L d0 rv q c0 (fin d0 rv q)]}|next=>{obtain⟨g0,L,d0,q⟩:=c0;exact fin (v:=Ht) (u:=CL) d0 rfl q}|brk=>{rw[bew]}|cont=>rw[bew]
universe L2
namespace L2
open PySem PySem.Spec PyProof.Rows
section z
variable{X:Cx}{x:Str}{p pos:Pos}{e:Expr}{a7:fE}{t:TA}{id T:String}{J:ml af}
def KW(J:ml af)(t:TA):TE:=x1 (J vs a8 Q)
theorem F_(b0:fZ id J)(d8:qn)(c4:ge x)(d3:vV x=aa Ya)(b3:FC)(d1:aHH)(l:mi)(a0:Bv)(b8:JX):pk (KW J t):=Ik (PyProof.Rows.callWith_builtin1 biT a0 b8)
theorem Sn(b0:BF X (.type T) J)(d8:qn)(c4:ge x)(d3:vV x=aa (.type T))(b3:FC)(d1:aHH)(l:mi)(a0:Bv)(b8:JX):pk (KW J t):=Ik (ahh biT a0 b8)
universe z
universe L2
namespace HT
open PySem PyProof.Rows
noncomputable def lexLt:aKh|[],[]=>ah|[],_::_=>ab|_::_,[]=>ah|x::O,y::d7=>v x y (zu O d7) aG7
theorem aPc(x y:Int)(O d7:aQ):zu (x::O) Q3=v x y (zu O d7) aG7:=rfl
theorem aPd:zu [] []=ah:=rfl
theorem aPe(y:Int)(d7:aQ):zu [] Q3=ab:=rfl
theorem aPf(x:Int)(O:aQ):zu (x::O) []=ah:=rfl
theorem aPg(A:Around)(s:Shared)(a:Int)(t:Tok)(c:Int)(u:Tok):z e (aBQ A s (e0 a) (mM c) e) (bE e (a=c)):=v (a==c) (a13 a t c u) aT
theorem aPh(A:Around)(s:Shared)(a:Int)(t:Tok)(c:Int)(u:Tok)(prog:Program)(w:World)(E:aU)(Q:aU)(h:j7 (bU a c)):zD .Lt:=m_ (PyProof.Rows.lt_int h) .Lt
section z
open PySem.SeqAt
open PySem.AutoSeq1(wpAny_loadPart')
open PySem.MeetsSeq PySem.MeetsSeq2 PySem.MeetsSeq3
theorem aPi(l b:Addr)(f i:dX)(n n2:Nat)(j o:nj)(sl p:EA)(ns d8:aQ)(hi:QX)(b8:Rj):nA (Builtin.«tuple.__lt__» aKj) aoy:=Ck (by rw[m9 os s,cA a5 U h];have h3:=aBR;rw[aMD,aME];wp_delta;wp_delta;rw[bT,aM9,aJv,As,dN,dN,bT,na (z2 (∃(vs ws:aM)(I k:aQ),Cy (zu I k))) _];(case turn=>rintro⟨y,x⟩m b c1⟨j6,rfl,vs,ws,I,k,c9,v,r,E,hR⟩;cases v with|nil=>{trivial}|cons a t C=>cases r with|nil=>{trivial}|cons c u F=>rw[alj];injection c9 with G H;rw[aLp];subst b6 S;rw[gB aPc,aIj,aM4,C aMR];cases e with|true=>{rw[gB aJE,hh];{rfl};rw[dN];exact Ct aL9}|false=>rw[gB (mN q zv)];have J:=aPh kB OL a t c u cO w;rw[eA ahi];{rfl};rw[bT,aHr,bT,eA J,aM1]);(case fin=>rintro⟨h2,e2⟩c1⟨j6,rfl,vs,ws,I,k,c9,v,r,E,hR⟩;rw[aHb];subst j6;have d3:zu I k=bU lE Vv:=by{cases v with|nil=>{cases r with|nil=>{rw[fj MV aPd aIA]}|cons c u hw=>rw[ko aPe (nc E.g)]}|cons a t d3=>rw[m3 aPf aIA]};rw[gB d3];wp_delta;wp_delta;rw[dN];exact aLQ);case h=>rw[aM_])
universe z
section z
variable{prog:Program}{w:World}{A:Around}{E:aU}{s:Shared}
theorem aPj{l b:Addr}{f i:dX}{ns d8:aQ}{Q:aU}(a5:aJa)(U:aKI)(hi:QX)(b8:Rj)(hu:sW<gF)(h:j7 aoy):z4 .Lt:=s .Lt PySem.F.slot_tuple_lt PySem.F.entry_tuple_lt (PySem.F.args_tuple_lt_2 _ _) (aPi l b f i n n2 j o sl p ns d8 hi b8) aoy aoy
noncomputable def yG(n d:Nat):en->Nat|none=>d|some v=>if v<0 then gz v cL else kl a14
theorem arx(n d:Nat):yG n d ae=d:=rfl
theorem bjr(n d k:Nat):yG n d (gR k)=kl k:=by show(if v k<0 then gz (v k) cL else kl (v k).toNat)=kl k;rw[bj aT,iT]
theorem aPk(n d:Nat)(hd:d<=n)(o:en):yG n d o<=n:=by cases o with|none=>{exact hd}|some v=>show bbD<=n;by_cases d3:v<0;rw[EX,EX]
theorem ary(v:Int)(n d:Nat):(if v<0 then bcz else min v cL)=j6 d pI:=by show bo (v<0) bcz (min v cL)=ae bbD;by_cases d3:v<0;rw[a_,cM]
theorem aPl(lo hi:en)(n:Nat):be9=(apd,j6 n hi):=by have a3:¬(v 1<0):=by{decide};delta a15;simp only[a3,iU];refine sQ ?_ ?_;{cases lo with|none=>{rfl}|some v=>exact ary v n 0};{cases hi with|none=>{rfl}|some v=>exact ary v n n}
theorem aPm(i j:Nat):ahj xy (v j) 1=j-i:=by delta ahj;have a3:v 1>0:=by{decide};simp only[a3,mL,Int.ediv_one];split<;>simp_all
theorem arz{v:Value}{o:en}{Q:dF en}(p:MW v o)(h:Q o s):bl (Builtin.Slice.slicePartIndex v):=by cases p with|none=>{exact a16 h}|int i t=>exact slicePart_int h
theorem aPn{sl:Addr}{i5 c:Value}{lo hi:en}{n:Nat}{Q:dF (Int×Int×Nat)}(c0:aMo)(d5:aJN)(a9:MW c hi)(h:Q (apd,1,yG n n hi-yG n 0 lo) s):bl (a17 al9 (eV cL)):=by rw[bfJ];delta a17 Builtin.Slice.sliceFields;rw[fK (mZ i5 (bF (mZ c (bF (mZ .none (fe (a16 ?_))))))),aO ay,C (arz d5 (bF (arz a9 (bF fO)))),o0 (match be9 with|(lo,hi)=>eV (lo,v 1,ahj lo hi 1))];rw[aPl lo hi n];rw[o0 (eV (apd,v 1,ahj apd (j6 n hi) 1)),J aPm xA]
theorem aPo(O:dX)(i k:Nat):hD (i9 k bg7)=hD (an (a18 i) k):=by have e:(bg7)=bo O[i+m]?:=funext (bo (by rw[a1F,<-Int.natCast_add,iT]));rw[e];have:=pick_run O i k;rw[am List.filterMap_map,ab b9 ((ab O[x]?)∘ab (i+x)) (bo O[i+m]?),am b9,oc]
theorem aPp{t sl:Addr}{f:dX}{i5 c:Value}{lo hi:en}{Q:aU}(c6:Mw bh t f)(c0:aMo)(d5:aJN)(a9:MW c hi)(hw:¬(rF=0/\Jr=lE))(h:Q gn (fY (mJ (jz beE))))(G:a1 lE):bl (zp nD al9):=by revert c6 c0 d5 a9 hw h G;revert prog w A E s t sl f i5 c lo hi Q;refine@ml _ _ _ _ _ _ _ _ _ _ _ _ _ _ ?_;generalize qe=prog,qf=w,qg=A,qh=E,qi=s,qj=t,qk=sl,ql=f,qo=i5,qp=c,qs=lo,qt=hi;refine ap6;rw[u6 Q];intro c6 c0 d5 a9 hw h G;have d:sizeOk (.seq beE):=by{show a1 (an (a1' rF) (Jr-rF)).toArray.size;rw[Hu,eT,sR,Vk];exact cp (oU (Jr-rF) (lE-rF)) (cp (qR lE rF) G)};have b8:Jr<=lE:=aPk _ _ aY hi;rw[bfJ];have g:lF al9 "slice":=v os a e;delta zp;rw[a_a];(first|rw[Qg]|skip);rw[C (wpAny_sequenceKey ahk ay ?_),C (ce "__getitem__" ahk a1_ (qQ a1_ ahk entry_tuple_getitem ?_ (args_tuple_getitem _ _))),th (a19 nD),C (tupleItemsOf_ c6 ?_),w8 g];rw[aK ay];rw[C (aPn c0 d5 a9 ?_),ca c5 (¬(da (ae rF==0&&v 1==1) ((Jr-rF)==lE))),o0 (mt (ae rF==0&&v 1==1&&(Jr-rF)==lE))];rw[bj c5,aPo];first|exact u8 (py xA)|exact u8 (bF (mX (dm xA)))|exact bF (u8 (mX (dm xA)))|exact bF (u8 (py xA))
universe z
universe HT
namespace L2
open PySem PySem.Spec PyProof.Rows
abbrev TO:=ty (es en)
def PO(X:Cx)(e:PL)(t:TO):Prop:=∀(pins:bw)(s:Shared)(M:St)(H:Hp)(Q:es en),cw Po (evalPart e cG) (fun u c1=>∃o L,Bm/\MW u o/\Q o L)
def aPq:TO:=l1 (Q ae H)
def jP(Q:es en)(x:V)(H:Hp):Prop:=match x with| .int i=>Q xv H|_=>cF
theorem jP.out{Q:es en}{x:V}{H:Hp}(h:jP Q x H):z i (x=hS) (Q xv H):=lJ jP (dm h)
def aPr(t:TE):TO:=jS (jP Q)
theorem intsAre_of{ns:aQ}:∀{b1:aM},eD xO->sY b1 ns:=by induction ns with|nil=>{intro b1 J;rw[zw]at J;rw[hP];exact .nil}|cons n ns d6=>intro b1 J;rw[da]at J;cases J with|cons r1 r2=>rw[cl t r1,cb];exact .cons n t (d6 r2)
section z
variable{X:Cx}{e:Expr}{b8:TE}{lo hi:PL}{h8 a:TO}{pos f6:Pos}
theorem So:PO X ae aPq:=by rw[fz];rw[a2a];exact cj (a ae H I .none h)
theorem oy(h:rV):PO X rG (aPr b8):=by rw[nl hw];rw[evalPart_some];refine wo (iq _ I);rw[Pp,aJ i rfl d2.out,ev r1];exact a xv a8 r (e0 i) q
def KX(X:Cx)(J:aMe):Prop:=∀(pins:bw)(s:Shared)(M:St)(H:Hp)(x:V)(v i5 c:Value)(lo hi:en)(sl:Addr)(Q:VK),l aZ t_ aMo aJN (MW c hi) (J x lo hi H Q) (∃T id,aBS (.type T) "__getitem__"=eV (aa Ya)/\lF v T/\di (zp v al9) IX)
def tSl(J:aMe)(b8:TE)(h8 a:TO):TE:=hs (op (jI (h8 M a8 (fun l b7=>a M b7 (fun u d4=>J x l u d4 Q)))))
theorem arA{J:aMe}(a6:KX X J)(a0:rV)(a5:PO X lo h8)(hu:PO X hi a):IL J:=by rw[fz];refine aBT (lA ET (wpAny_Slice (bD (a5 au a4 M a8 _ r d2) (fun i5 b5⟨l,b7,Y,d5,q2⟩=>ws (hu au b5 M b7 _ Y q2)))));obtain⟨u,d4,O,a9,q3⟩:=P;rw[a2a];rw[od];obtain⟨T,id,Z,c6,d8⟩:=a6 au {c8 with heap:=a2b (l5 "slice" #[i5,c,.none])} M d4 x v i5 c l u sZ Q (O.kept (t':=c8.toks) a7N) r1 (Heap.IsSliceOf.new ..) d5 a9 q3;exact tail_any (ops:=[.ref sZ,v]) c6 Z d8 (by with_unfolding_all rfl)
noncomputable def jo(O:af)(lo hi:en):af:=an (Hg EH) (alY-EH)
theorem aPt(O:af)(lo hi:en):bd aaU bx:=by delta jo;rw[eT,sR];exact cp (oU (alY-EH) (bx-EH)) (qR bx EH)
inductive adu(K:PySem.W.Frag)(x:V)(lo:en)(hi:en)(H:Hp)(Q:VK):Prop|mk:∀a O,b x bc uN (¬(EH=0/\alY=bx)) (ad p (Y p) (Q fP (ad p (.tup aaU)))) (adu K x lo hi H Q)
theorem aPu:KX X (adu X.K):=by intro au s M H x v i5 c lo hi sl Q I R c0 d5 a9 h;obtain⟨a,O,rfl,S,hw,q⟩:=h;rw[hQ,a1 J c6 (CQ S),R E wj bx Hu J.length.symm,j "tuple" _ PyProof.Rows.slot_tuple_getitem.lookup ahk (HT.aPp c6 c0 d5 a9 Jd ?_ Jd)];rw[E];rw[pt (.tup aaU) (d bgH _ a90 a_j)]
inductive arB(K:PySem.W.Frag)(x:V)(y:V)(H:Hp)(Q:VK):Prop|mk:∀a b ns d8,b x bc (y=cW) (mN xO) a7K (dy (mM ns d8)->arB K x y H Q)
theorem arC(hu:zx<gF):be .Lt (arB X.K):=CE (HT.aPj e9 f6 (MX r1) (MX r2) hu (eW (mM ns d8) q))
universe z
universe L2
namespace L2
open PySem PySem.Spec PyProof.Rows
noncomputable def qB(n:Nat)(i:Int):ja:=if 0<=i then(av (i<n) Vw ae)else av (-cL<=i) (gz i n) ae
noncomputable def BI{I:Type}(O:ba)(i:Int):bZ I:=(qB bx i).bind (iY O[j]?)
theorem arD{n:Nat}{i:Int}{j:Nat}(h:qB n i=aa j):N (Do n) (j<n) (-cL<=i) (i<n):=by rw[a4 qB];by_cases b1:0<=i;{rw[aj (aK b1)];by_cases a3:i<n;{rw[aj (aK a3),c7 (c_ h)];exact d (bj (a2e b1 a3) e) fq (x (FX (Kv n) b1)) a3};rw[az]};{rw[i2 b1];by_cases a3: -cL<=i;{rw[aj (aK a3),c7 (c_ h)];exact d (bj (a2d alD a3) e) fq a3 (x (a2c (aMl b1) (Kv n)))};rw[az]}
theorem aPv{I:Type}{O:ba}{i:Int}{v:I}(h:sB i):I j (Do bx) anu (j<bx/\ -v bx<=i/\i<bx):=by rw[a4 BI];cases e:qB bx i with|none=>{simp_all}|some j=>rw[aj e,vg (arD e)];exact c j a3 h a9 e2 e5
theorem d_{I:Type}{O:ba}{j:Nat}{v:I}(h:anu):sB (v j):=by have b8:=bx h;have e:qB bx (v j)=aa j:=by{delta qB;rw[aK aT,aK (x (mj b8))];simp};delta BI;rw[e];exact h
theorem arE{I:Type}(O:ba)(v:I):BI (O++[v]) (-1)=aa v:=by rw[aC a5 (t (O++[v])) (bx+1) ck];have e:qB (t (O++[v])) (-1)=aa bx:=by{delta qB;rw[a5,bj ay,aK OM];rw[dZ];simp+arith [*]};delta BI;rw[e];simp
def arF(b:Expr):Prop:=∀o i,ahl b ah o i=aBU [o,i] (zp o i)
def KY(X:Cx)(J:R2):Prop:=∀(B a:Expr)(pins:bw)(s:Shared)(M:St)(H:Hp)(x y:V)(v u:Value)(Q:VK),j aZ t_ lg (J x y H Q) (ahl a ah v u=aBU [v,u] (zp v u)) (di (a2f B a v u) IX)
def MtR(X:Cx)(id:String)(J:QI):Prop:=∀(pins:bw)(s:Shared)(M:St)(H:Hp)(x:V)(O:af)(v:Value)(b1:aM)(Q:VK),beN
section z
variable{X:Cx}{a b:Expr}{d6 c3:TE}{pos:Pos}
theorem Sq{J:R2}(a6:KY X J)(b3:fV)(U:lq)(c0:arF b):M (eZ a b) Yv:=nM (aBT (Dg (a6 a b au b5 M b7 x y v u Q Y R Z q (c0 _ _))))
inductive Sr(K:PySem.W.Frag)(x:V)(y:V)(H:Hp)(Q:VK):Prop|mk:p0 ZM (Sr K x y H Q)
inductive Ss(K:PySem.W.Frag)(x:V)(y:V)(H:Hp)(Q:VK):Prop|mk:p0 (nm O) (Ss K x y H Q)
theorem arH:KY X (Sr X.K):=by intro B a au s M H x y v u Q I R Z h c0;rw[beO,hQ,ev Z,a1 J d5 OH,bia,bd2,f7 vX,f5 Sj];have fin:f1 w s:=a z H I W q;by_cases b1:0<=i;rw[cH b8 Vw f (item_listR zq b1 ba0 ag fin c0)];{rw[gS b8 (gz i (v wj)) e5];exact a2g (x:=w) a2i a2h (wpAny_getItem_list_neg (Q:=baY) zq alD ai ba1 cu (bd fin)) c0}
theorem arI:KY X (Ss X.K):=by intro B a au s M H x y v u Q I R Z h c0;rw[beO,hQ,ev Z,a1 J d5 I4,bia,bd2,f5 Sj];exact a2g (x:=w) d5.typeIs slot_tuple_getitem.lookup (getItem_tuple (j:=j) (Q:=baY) d5 ba1 ba0 (by rw[Hu,<-vX];exact a3) ag (c rfl z H I W q)) c0
theorem aPw(ar:aM)(n j:Nat)(u:Value):Hv (·.setIfInBounds j u) J0=r3 (jy (hD (ar.set j u))):=ar Hv
theorem Inv.lst{pins:bw}{M:St}{H:Hp}{s:Shared}{p:Addr}{O:af}(I:aZ)(h:am p O):BX (EF/\c7 p J0/\Jl):=b z ar n J e (es p _ h) (a ar n J e z)
theorem Inv.aPx{pins:bw}{M:St}{H:Hp}{s:Shared}{p:Addr}{O d7:af}{ar its':aM}{n C:Nat}{f:Obj->Obj}(I:aZ)(h:am p O)(d0:c7 p J0)(W:f J0=bbG)(J:iP d7 MH)(c9:a1 oV)(t:Nat):aR (ap p d7) (dp (Vx p f) t):=by have e:dk (Vx p f) p=aa bbG:=by{rw[C_ f d0 (by rw[W]<;>rfl),W]};refine Vr (x:=p) (e:=p) (xa h) gm (fun b u U q=>qN q) (aW e) (a c9 MH C J e)
inductive arJ(o:V)(i:V)(v:V)(H:Hp)(Q:je):Prop|mk:∀p O k j,b o fP (i= .int k) (am p O) (qB bx k=aa j) (Q (ap p (O.set j v))->arJ o i v H Q)
theorem set_list:ade X arJ:=by intro au s M H o i v ov c u Q I b a rv h;rw[c p O k j rfl c2 b8 q h];cases b;rw[ev a,ad ar J d0 c9 (I.lst c2),vg (arD b8),f7 vX,f5 Sj];have K:=I.aPx c2 d0 (aPw ar n j u) (J.set rv j) hU dF;by_cases b1:0<=k;rw[cH c3 aBV e5 (PySem.W.ki_setAt d0 b1 bM ai bz)];{rw[gS c3 (gz k (v wj)) e2];exact PySem.W.ki_setBack d0 alD ai bM bz}
theorem sl1{i:Int}{n:Nat}(h:i<0):max 0 (kl (i+n))=ae (gz i n):=cz Int.toNat_eq_max (Int.min_eq_left (r_ h)) Int.max_comm
theorem sl0{i:Int}{n:Nat}(h:¬i<0):max 0 (kl i)=ae (kl Vw):=by rw[dn k (Int.eq_ofNat_of_zero_le (agR h))];rw[iT];lia
theorem aPA(lo hi:en)(n:Nat):(aMp).1=ae (Dc n 0 lo)/\aV aMp=ae (Dc n n hi)/\(aMp).2.2=1:=by rw[cq ?_ rfl];{cases lo with|none=>{rfl}|some i=>rw[biN]};{cases hi with|none=>{rfl}|some i=>rw[biN]}
theorem aPB(ar:aM)(lo hi:en):slicePick eU lo hi ae=hD (an (ar.drop (Dc Hw 0 lo)) (Dc Hw Hw hi-Dc Hw 0 lo)):=by rw[dg a3 e2 (aPA lo hi wj)];delta slicePick;rw[a3,a9,e2];simp only[sliceRange_one,pick_run,Hu]<;>rfl
inductive Su(K:PySem.W.Frag)(x:V)(lo:en)(hi:en)(H:Hp)(Q:VK):Prop|mk:f a O (x=bc) jj (ad p (Y p) (x6 aaU)) (Su K x lo hi H Q)
theorem aPC:KX X (Su X.K):=by intro au s M H x v i5 c lo hi sl Q I R c0 d5 a9 h;rw[w O rfl S q h,hQ,a1 J c6 (sV S)];have E:=vX;rw[j "list" _ a2h c6.isList.typeIs (wpAny_getItem_list_slice c6.isList c0 d5 a9 .none ay ?_ ai)];rw[aPB,<-E];rw[pt (.lst aaU) (a bgH _ 0 a90 gK)]
noncomputable def Ga:V->cf| .bC=>ab| .bl _=>ab| .int _=>ab| .str _=>ab|_=>ah
noncomputable def yH:dK V V| .bC,.bC=>ab| .bl a,.bl b=>a==b| .bl a,.int b=>bo a 1 0==b| .int a,.bl b=>a==bo b 1 0| .int a,.int b=>a==b| .str a,.str b=>a==b|_,_=>ah
theorem aPD{A:Around}{s:Shared}{y x:V}{u v:Value}(Z:lg)(R:t_)(r2:Ga y=ab)(n:Ga x=ab):aBQ A s u v (yH y x):=by cases y with|bC=>{rw[cx (SeqAt.EqAt.same _) (SeqAt.EqAt.none_bool b) (SeqAt.EqAt.none_int b t) (SeqAt.EqAt.none_str b t)]}|bl a=>{rw[cx (SeqAt.EqAt.bool_none a) (SeqAt.EqAt.bool_bool a b) (SeqAt.EqAt.bool_int a b t) (SeqAt.EqAt.bool_str a b t)]}|int a=>{rw[cw (SeqAt.EqAt.int_none a t') (SeqAt.EqAt.int_bool a t' b) (a13 a t' b t) (a1e a t' b t)]}|str a=>{rw[cw (SeqAt.EqAt.str_none a t') (SeqAt.EqAt.str_bool a t' b) (a1d a t' b t) (SeqAt.EqAt.str_str a t' b t)]}|_=>rw[up r2]
noncomputable def qC(x:V)(u:Value):cf:=match u with| .none=>yH .bC x| .bool b=>yH E4 x| .int i _=>yH hS x| .str z _=>yH (.str z) x|_=>ah
theorem arK{x y:V}{u:Value}(J:lg)(f:Ga y=ab):qC x u=yH y x:=by cases y with|bC=>{rw[Ft]}|bl b=>{rw[Ft]}|int i=>{rw[Qr]}|str z=>{rw[Qr]}|_=>rw[up f]
theorem arL{x:V}{O:af}{b1:aM}(h:n_)(f:aHn):b1.any (qC x)=a_k:=by induction h with|nil=>{rfl}|cons J t i=>rw[MZ,ia]at f;rw[MY,MY,arK J f.1,i f.2]
theorem aPE{A:Around}{s:Shared}{x:V}{v:Value}(R:t_)(n:Ga x=ab){O:af}{b1:aM}(h:n_)(f:aHn)(u:Value)(hu:u∈b1):aBQ A s u v (qC x u):=by induction h with|nil=>{exact i0 (oW hu)}|cons J t i=>rw[MZ,ia]at f;rw[de (ib hu) hu,Z (arK J f.1) (aPD J R f.1 n),l (i f.2 hu)]
noncomputable def BJ(x:V)(O:af):cf:=a_k
inductive KZ(K:PySem.W.Frag)(neg:Bool)(x:V)(y:V)(H:Hp)(Q:VK):Prop|mk:∀p O,b y fP (ZM\/nm O) (Ga x=ab) aHn (dy (if neg then ! BJ x O else BJ x O)->KZ K neg x y H Q)
theorem aPF:be .In (KZ X.K ah):=re (SeqAt.in_listAt (qC x) zq ap' ZY) (a2j (qC x) d5 ap' ZY)
theorem aPG:be .NotIn (KZ X.K ab):=re (SeqAt.notIn_listAt (qC x) zq ap' ZY) (SeqAt.notIn_tupleAt (qC x) d5 ap' ZY)
inductive K0(K:PySem.W.Frag)(O:af)(H:Hp)(Q:VK):Prop|mk:f p d7 (O=[fP]) bbA (m3 oV) (K0 K O H Q)
theorem arM:fZ "len" (K0 X.K):=by rw[Zy,Q p d7 e0 q h,aLT,hQ,f5 Sj,aGP];{rw[aIs,ZA];exact Calls.call_len_list zq cu a'S};{rw[aIt,ZA];exact len_tuple d5 cu a'S}
theorem aPH:Kw (baq\/baj):=by rw[Zy,Q p d7 e0 q h,aLT,hQ];have fin:∀(ar:aM),iP d7 ar->a1 oV->∀(h':Heap)(C:Nat),(j b g (c7 b g) (gS b=aa g))->gS aO=aa (hi eU C)->f1 gn tJ:=fun ar B c9 h' C kp e=>m gn _ (Dd (t':=dF) kp aY (show cF _ _ (.lst d7)from a c9 ar C B e)) (q _ pX);rw[aGP];{rw[aIs,ZA];obtain⟨o,d0,b0,n,hd⟩:=zq;exact dc gm kp e ai};{rw[aIt,ZA];obtain⟨o,d0,b0,n,hd⟩:=d5;exact dc EY kp e ai}
theorem aPI:qx baq baj:=by rw[Zy,a0 p d7 rfl h,aLT,hQ];rcases h with⟨e0,q⟩|⟨e0,q⟩;{rw[aIs,ZA];refine call_tuple_list zq (fun h' kp=>?_) ai;have r:=MK (t':=dF) kp;exact m (.ref Vy) _ (r.laid (t':=dF) Pn aY (show ow eC X.w _ _ _ alx from d c9 ar B a_j)) (q _ (ahm aY))};{rw[aIt];exact call_tuple_same d5 (m fP H I q)}
def tyV(K:PySem.W.Frag)(T:String)(x:V)(H:Hp):Prop:=match x with| .str _=>T="str"| .int _=>T="int"| .ref p=>(T="list"/\∃O,ZM)\/(T="tuple"/\∃o,be (vN p)/\we=rz/\o.dict=ae)\/(T="dict"/\((∃F,bh p qc)\/∃F,bh p uc))\/(T="set"/\∃r n,bh p (.set r n))|_=>cF
theorem arN{pins:bw}{M:St}{H:Hp}{s:Shared}{T:String}{x:V}{v:Value}(I:aZ)(J:t_)(A:tyV X.K T x H):lF v T/\E a (v=bc) (z N (c7 a N) (N.dict=ae)):=by cases x with|str z=>{rw[o8 "str" (typeIs_str s z t)]}|int i=>{rw[o8 "int" (typeIs_int s i t)]}|ref p=>{rw[hP];rcases A with⟨rfl,O,e0⟩|⟨rfl,o,c3,b0,hd⟩|⟨rfl,c3⟩|⟨rfl,r,n,c3⟩;{obtain⟨ar,_,d5,_⟩:=OH;rw[v a2i (fun a e=>?_),dV];obtain⟨o,n,e,c,hd,_⟩:=d5;exact v o e hd};{rw[v (v o (vY p o c3) b0) (fun a e=>?_),dV];exact v o (vY _ o c3) hd};{have z:z o (gO p) a2k:=by{rcases c3 with⟨F,c3⟩|⟨F,c3⟩;rw[bgZ,bgZ]};rw[bJ e ex z,baF];cases b9;exact a8y};{obtain⟨o,_,_,_,e,ex,_⟩:=es p _ c3;rw[baF];cases b9;exact a8y}}|_=>exact MR A
def aPJ(K:PySem.W.Frag)(T:String)(J:QI)(C:TE):TE:=hs (C M H (jI (tyV K T x a8/\J x [] a8 Q)))
inductive jBM(K:PySem.W.Frag)(T:String)(J:QI)(t:TA)(M:St)(Q:VK)(x:V)(a8:Hp):Prop|mk:tyV K T x a8->t M a8 (fun O b7=>J x O b7 Q)->jBM K T J t M Q x a8
def tBM(K:PySem.W.Frag)(T:String)(J:QI)(C:TE)(t:TA):TE:=hs (C M H (jBM K T J t M Q))
variable{o e:Expr}{a7:fE}{C:TE}{t:TA}{c:Str}{i a:Pos}{T id:String}{J:QI}
theorem aPK{d:PySem.W.Frag}(u:a8d)(slot:Slot T c id)(b:a'r)(c4:MtR X id J)(d0:am')(f:bgo)(j:bc3)(g:Bh):M (dP c [] a) (aPJ d T J C):=by rw[ub,fz];refine wpAny_Call_method0_late f j (lK YG);rw[bim,kE (arN r r1 A)];exact a T id u jv b a3 a9 (a2l rfl (PySem.evalArgs_none (c4 au a4 M a8 x [] v [] Q r r1 .nil d2)))
theorem adx{d:PySem.W.Frag}(u:a8d)(slot:Slot T c id)(b:a'r)(c4:MtR X id J)(d0:am')(b3:FC)(f:bgo)(k:cg (da (eC (aBk a (MD ro cG)) (ab (! x.1))&&eC (bkg a (bkh [] cG)) (ab x.1.isSome)) (bU (t ro+([]:bL aBL).length+bo ([]:bL aBL).isEmpty 0 1) 30)))(j:bc3)(c0:Bv)(l:gd a a7)(g:Bh):M (dP c ro a) (tBM d T J C t):=by rw[ub,fz];refine wpAny_Call_method_late f k j rfl (lK YG);rw[bim,kE (arN r r1 A),e T id u jv b a3 a9 ?_];have hA:=b3 a au a4 M a8 _ r d2;rw[c0]at hA⊢;refine a2l bB (Calls.evalArgs_plain (gg hA vs (c4 au b5 M b7 x vs v b1 Q Y r1 r2 q2)))
universe z
universe L2
namespace L2
open PySem PySem.Spec PyProof.Rows
def Sv(X:Cx)(id:String)(J:QI):Prop:=∀(pins:bw)(s:Shared)(M:St)(H:Hp)(x:V)(O:af)(v:Value)(b1:aM)(Q:VK),beN
theorem Vals.one{x:V}{b1:aM}(h:eD [x]):a9O:=by cases h with|cons J h=>rw[sQ (dm J)]
theorem Vals.two{x y:V}{b1:aM}(h:eD Jq):∃u v,b1=[u,v]/\pR/\Yq:=by cases h with|cons J h=>cases h with|cons q h=>rw[sQ (f _ _ J q)]
theorem Vals.zero:∀{b1:aM},eD []->b1=[]|_,.nil=>rfl
theorem Vals.dropLast{O:af}{b1:aM}(h:n_):iP O.dropLast b1.dropLast:=by induction h with|nil=>{rw[kO]}|cons J t d6=>cases t with|nil=>{rw[kO]}|cons q t'=>rw[cB J d6]
theorem bjs{I:Type}(l:ba):l.eraseIdx (ec-1)=l.dropLast:=aT
section z
variable{X:Cx}{pins:bw}{M:St}{H:Hp}{s:Shared}{l b:Addr}{O d7 zs:af}
theorem Inv.aPL{ar its':aM}{n:Nat}{f:dX->dX}{t':Nat}(I:aZ)(a:am l O)(e:c7 l J0)(W:f eU=a2m)(d3:iP d7 MH)(c9:a1 oV):aR (ap l d7) (dp (Vx l (Hv f)) t'):=by rw[cO (PySem.IsL.update e f),cR W];refine Vr (x:=l) (e:=l) (t a fZ) gm (fun b2 u U hu=>L (aBW bh (Hv f) (hv U)) hu) (aW q) (a c9 MH _ d3 q)
theorem Inv.aPM{ar:aM}{t':Nat}(I:aZ)(d3:iP d7 ar)(c9:a1 oV):aR (ap aO d7) (dp (mJ (jw eU)) t'):=Dd (iF (bU q)) aY (a c9 ar 0 d3 gK)
theorem Inv.fresh(I:aZ):Y aO:=pX
theorem Inv.bjt(I:aZ)(a:am l O):Jl/\BX (EF/\bx=Hw/\c7 l J0):=b z ar n J e (es l _ a) (c z ar n J vX e)
theorem aPN{n:Nat}(h:a1 n):a2n n=ah:=cG a2n (ed ag)
universe z
section z
variable{X:Cx}
inductive arP(x:V)(vs:af)(H:Hp)(Q:VK):Prop|mk:∀l O y,eV [y] (bx<hy) (yx (eN O)->arP x vs H Q)
theorem aPO:Sv X "list.append" arP:=by rw[apJ,KS c9,hQ,bl rfl m rv.one,aa2];refine ahn F.slot_list_append (bm e) F.entry_list_append (F.args_list_append_2 _ _) (PySem.list_append l eU n u ai) (a e .bC _ (eR (ar++[u]) aT (Vs (hy m))) (bd q));rw[ck,aBX];trivial
inductive ady(x:V)(vs:af)(H:Hp)(Q:VK):Prop|mk:∀l b O zs,eV [cW] (am b zs) (bbu->yx (O++zs)->ady x vs H Q)
theorem aPP:Sv X "list.extend" ady:=by rw[apJ,cq b O zs hB,hQ,bl rfl m rv.one];cases m;rw[aa2,bis,ca G (a1 (wj+a2o))];refine ahn F.slot_list_extend (bm e) F.entry_list_extend (F.args_list_extend_2 _ _) (AutoSeq1.list_extend_list_list_0 l eU n b Vz n2 (ac (aPN G) ag9 zv) ai (by(constructor<;>trivial))) (a e b9 .bC _ (aP (eR (ar++t) aT (Vs r2)) q));rw[ck];omega
inductive arQ(x:V)(vs:af)(H:Hp)(Q:VK):Prop|mk:∀l O y,eV [] (K O (bx-1) y) (Q y (ap l O.dropLast)->arQ x vs H Q)
theorem aPQ:Sv X "list.pop" arQ:=by rw[apJ,KS b6,hQ,ca rv.zero];subst b;rw[aa2,bl hu m (ahf b6)];refine ahn F.slot_list_pop (bm e) F.entry_list_pop (F.args_list_pop_1 _) (MeetsSeq.list_pop_last l eU n u ai ai) (c e y _ (eR ar.dropLast ?_ J.dropLast) m q);{simp};{simp at*;exact aho z}
inductive arR(x:V)(y:V)(H:Hp)(Q:VK):Prop|mk:∀l b O zs,b x cD (y=cW) (am l O) (am b zs) (bbu->ad p (Y p) (x6 (O++zs))->arR x y H Q)
theorem aPR:f7 .Add arR:=by rw[xx,cq b O zs hB,hQ];cases Z;rw[aa2,bis];refine PySem.P.add_list e b9 ?_ ai;rw[aS d0 (eU++Vz) (ar++t).toArray,J d0 (m (.ref _) _ (I.aPM (t':=dF) (Vs r2) hU) (q _ I.fresh))]
universe z
section z
variable{X:Cx}
universe z
universe L2
namespace L2
open PySem PySem.Spec PyProof.Rows
theorem Vals.ints:∀{ns:aQ}{b1:aM},eD xO->sY b1 ns|[],b1,h=>by{rw[aj zw,cI];exact IntsAre.nil}|n::ns,b1,h=>by rw[aj da];cases h with|cons J t=>rw[dn k J];exact IntsAre.cons n k (Vals.ints t)
theorem Vals.bls:∀{bs:EV}{b1:aM},eD (VA CV)->b1=VA vO|[],b1,h=>by{rw[aj zw,cI];rfl}|b::bs,b1,h=>by rw[aj da];cases h with|cons J t=>rw[hP];rw[Vals.bls t,da]
theorem Vals.bju{a:Addr}{b1:aM}(J:eD [gU a]):b1=[dq a]:=by cases J with|cons J t=>cases t;rw[hP];rfl
section z
variable{prog:Program}{w:World}{A:Around}{E:aU}{s:Shared}{l:Addr}{ar:aM}{ns:aQ}{Q:aU}
universe z
section z
variable{X:Cx}
universe z
section z
variable{X:Cx}
universe z
section z
variable{X:Cx}
universe z
theorem aPS{prog:Program}{w:World}{A:Around}{E:aU}{s:Shared}{l:Addr}{f:dX}{Q:aU}(a5:De l f)(h:∀g:vM,i (g=fY aKF) (g.heap.IsListIter aO l 0/\g.heap.IsList l f) (l≠aO) (Q gn g)):bl (MM cD):=x (aBq a5 (h _ rfl ⟨Px,a5.push _⟩ (gE (ge e a5 hg))))
theorem aPT{prog:Program}{w:World}{A:Around}{bs:EV}{ar:aM}(e:ar=VA vO):TruthOf cO w A (fun i v=>A eU v) (dK aoB):=fun i v s Q E d3 e0=>by rw[dE g (A ar v)];rw[e,cA]at g;rw[a3 b U g,ae d8 aoB b];have a:Q aoB s:=e0;rw[d8]at a;exact vW a
theorem all_range:∀bs:EV,(eL bs.length).all (dK aoB)=bs.all id|[]=>rfl|b::bs=>by rw[ic,ahp,MZ,List.all_map,MZ,<-all_range bs];all_goals rfl
section z
variable{X:Cx}
inductive adz(K:PySem.W.Frag)(vs:af)(H:Hp)(Q:VK):Prop|mk:∀(a:Addr)(bs:EV),A [gU a] (mG (VA CV)) (dy (bs.all id)) (adz K vs H Q)
theorem aPU(b0:fR):fZ "all" (adz X.K):=by rw[Zz,w bs rfl c0 q h,aK6];rw[VB J];have U:=rv.bls;refine call_all_walk (aPS ahq (fun g b9 st R=>?_));subst b9;rw[d _ _ _ _ _ _ _ (d (aBY (A:=X.A.in1) iy _ a R eU) st (aPT U) (fun h' D c3=>a (.bl _) H (MK (fun b o y=>c3 b o (fun c=>?_) (bU y))) ?_ q))];{rcases ib c with b4|c;rw[l (iH (b4▸fw y)),az]};{show vO _=vO _;rw[<-all_range,U,Hu,bA]}
universe z
mutual inductive Dp(K:PySem.W.Frag)(H:Hp):au V Df|bC:cs .bC .none|bl(b:Bool):cs E4 Jb|int(i:Int):cs hS hS|str(x:Str):cs Jw Jw|lst{a:Addr}{O:af}{c7:bL Df}:oQ jj aG5|tup{a:Addr}{O:af}{c7:bL Df}:oQ uN aHc inductive Gb(K:PySem.W.Frag)(H:Hp):au af (bL Df)|nil:Gb K H [] []|cons{v:V}{vs:af}{d:PyData}{c7:bL Df}:cs v d->Gb K H vs c7->Gb K H (v::vs) (d::c7)end
section z
variable{X:Cx}{pins:bw}{M:St}{H:Hp}{s:Shared}
mutual theorem Dp.reads(I:aZ):∀(d:PyData)(v:V)(u:Value),Dp X.K H v d->jk->∃Y,Reads bh u d Y| .none,_,_,h,J=>yO Reads.none| .bool b,_,_,h,J=>yO (Reads.bool b)| .int i,_,_,h,J=>Dv (Reads.int i t)| .str x,_,_,h,J=>Dv (Reads.str x t)| .list c7,_,_,h,J=>by{cases h with|lst c0 b3=>rw[hP];obtain⟨ar,rv,⟨o,n,d0,b0,_,hd⟩,_⟩:=sV c0;rw[fy a6 (aBZ I c7 _ ar b3 rv)];exact aW (Reads.list d0 b0 hd a6)}| .tuple c7,_,_,h,J=>by{cases h with|tup c0 b3=>rw[hP];obtain⟨ar,rv,⟨o,d0,b0,n,hd⟩,_⟩:=CQ c0;rw[fy a6 (aBZ I c7 _ ar b3 rv)];exact aW (Reads.tuple d0 b0 hd a6)}| .dict _,_,_,h,_=>PQ theorem Dp.readsAll(I:aZ):∀(c7:bL Df)(vs:af)(b1:aM),Gb X.K H vs c7->Fo->∃Y,ReadsAll bh b1 c7 Y|[],_,_,h,J=>yO ReadsAll.nil|d::c7,_,_,h,J=>by{cases h with|cons a3 a9=>cases J with|cons r1 r2=>rw[fy d2 (M0 I d _ _ a3 r1)];obtain⟨bs,q2⟩:=aBZ I c7 _ _ a9 r2;exact aW (ReadsAll.cons d2 q2)}end
universe z
section z
variable{X:Cx}
inductive adA(K:PySem.W.Frag)(x:V)(y:V)(H:Hp)(Q:VK):Prop|mk:qS (dy (jx d e)) (adA K x y H Q)
inductive adB(K:PySem.W.Frag)(x:V)(y:V)(H:Hp)(Q:VK):Prop|mk:qS (dy (! jx d e)) (adB K x y H Q)
theorem aPV(hu:uQ):be .Eq (adA X.K):=Le (SeqAt.compareEq_shaped r1 r2 sd p hu (eW _ q))
theorem aPW(hu:uQ):be .NotEq (adB X.K):=Le (SeqAt.compareNe_shaped r1 r2 sd p hu (eW _ q))
universe z
universe L2
namespace L2
open PySem PySem.Spec PyProof.Rows
abbrev arT(h:Heap)(c:Addr)(v:pE):Prop:=h.IsCell c v
noncomputable def aPX(d a:Scope):Scope:={d with names:=d.names.map (oT (jB k .free) .cell)}
noncomputable def si(a:jd):yf->jd->jd|[],B=>B|(n,k)::J,B=>if k== .free then si a J ((n,aIr)::B)else si a J B
theorem arU(env:Env)(f:Str×aB0->jd->Sem (ForInStep jd))(W:∀n k c,f (n,k) c=if k== .free then(do{let a<-cellOf env n;pure (.yield ((n,a)::c))})else eV (.yield c)):∀(d:yf)(B:jd),V y d (y.2= .free->a8P)->M1 d B f=eV (si env.cells d B)|[],B,_=>bI|(n,k)::J,B,h=>by rw[qS,W];rw[dC (fun B=>arU env f W J B (o1 (h y (ck b6))))];unfold si;rw[bC c3 (k==VC)];{rw[aK c3,aK c3];rw[db b0 (h (n,k) fx ai)];have e:cellOf env n=eV c:=by{unfold cellOf;rw[b0]};rw[e];rw[ae b9 (eT (aBc n) 0) c];rw[b9];exact d6 _};rw[a_]
theorem aPY{d:Scope}{env:Env}(h:yH a8P):closureFor d env=eV (si env.cells mK []):=by simp only[closureFor];rw[arU env _ bes mK [] h];rfl
theorem mem_lookup{I:Type}:∀{l:mB I}{n:Str}{c:I},(n,c)∈l->ax C (l.lookup n) C|(k,v)::J,n,c,h=>by rw[agN];cases U:n==k with|true=>{exact el}|false=>rw[aKl,az,l (aB1 h)]
set_option tactic.hygienic true in theorem Sx{a:jd}:∀{d:yf}{B:jd}{n:Str}{c:Addr},(n,c)∈aJj->(n,c)∈B\/(baM/\c=aIr)|[],_,_,_,h=>AI|(m,k)::J,B,n,c,h=>by unfold si at h;rw[eJ];{rw[YK,dq (Sx h) h a9,cM,a_]};{rw[dq (Sx h) h a9,l AZ,a_]}
theorem adC{a:jd}:∀{d:yf}{B:jd}{p:Str×ei},p∈B->p∈aJj|[],_,_,h=>h|(m,k)::J,B,p,h=>by unfold si;split;rw[l (adC (ck h)),l (adC h)]
theorem adD{a:jd}:∀{d:yf}{B:jd}{n:Str},baM->(n,aIr)∈aJj|(m,k)::J,B,n,h=>by unfold si;rw[aKl];{cases(e);exact adC fx};{split;rw[l (adD h),l (adD h)]}
set_option tactic.hygienic true in theorem Sy:∀{d:yf}{h:Heap}{B:jd}{x:Str}{c:Addr},a9V->(x,c)∈B\/(baN/\mF<=c/\arT (aB3 h d) c ae)|[],_,_,_,_,h=>AI|(n,k)::J,h,B,x,c,c4=>by unfold cellsFrom at c4;unfold pushCells;split at c4;{rw[YK];rw[aK c3];rw[<-lD h a_V]at c4;rw[bhL];{rw[i7 (ib c4) c4];{cases(e);exact .inr (a ((ax c3)▸fx) aY _ (a2p J _ _ _ gK) rfl)};rw[Fs]};{rw[lD]at a9;exact .inr (v (ck a3) (aB2 a9) e2)}};{rw[YK,aO c3,bhL,Fs,a_]}
theorem Sz:∀{d:yf}{n:Nat}{B:jd}{p:Str×ei},p∈B->p∈zt n d B|[],_,_,_,h=>h|(m,k)::J,n,B,p,h=>by unfold cellsFrom;split;rw[l (Sz (ck h)),l (Sz h)]
theorem adE:∀{d:yf}{n:Nat}{B:jd}{x:Str},baN->∃c,(x,c)∈zt n d B|(m,k)::J,n,B,x,h=>by unfold cellsFrom;rw[aKl];{cases(e);exact⟨n,Sz fx⟩};{split;rw[l (adE h),l (adE h)]}
set_option tactic.hygienic true in theorem adF:∀{d:yf}{h:Heap}{B:jd}{x y:Str}{c:Addr},c (V p B (p.2<mF)) (∀x y c,(x,c)∈B->(y,c)∈B->x=y) a9V ((y,c)∈zt mF d B) (x=y)|[],_,_,_,_,_,_,hi,a3,a9=>hi _ _ _ a3 a9|(n,k)::J,h,B,x,y,c,a5,hi,a3,a9=>by unfold cellsFrom at a3 a9;split at a3;{rw[YK];rw[aK c3]at a9;rw[<-lD h a_V]at a3 a9;refine adF (h:=h.push _) uh (fun x y c a b=>?_) a3 a9;{rw[lD];rw[de (ib c2) c2];{simp};rw[cM]};rw[cM]};{rw[YK];rw[bj c3]at a9;exact adF a5 hi a3 a9}
theorem aPZ{d5:Model}{A:Around}{E:aU}{s:Shared}{d:Scope}{globals:Addr}{a:jd}{j:Str}{b:nj}{code:Value}{e:Env}{f:Addr}{Q:dF Env}(h:Q (newEnv d aO globals (zt iw mK a) j b code rG f) (fY anR)):pj (a2s d globals a [] j b code rG f):=by rw[i8 a2s a2r,C (a2q (bF (wpAny_layCells _ bes mK a _ _ ?_)))];rw[a0 (fY X9:vM).heap.objs.size iw (lD ..)];rw[M3];exact bF (cj xA)
theorem adG{a:Scope}:∀{d:yf}{x:Str}{k:NameKind},fr (aB4 (oT (jB k VC) a2t)) x=aa k->z G (d.lookup x=aa G) (k=G\/(G= .free/\k= .cell))|[],_,_,h=>bB|(n,b)::J,x,k,h=>by rw[dC (@adG a J x k),ad h' (Ml x ((Z (jB b VC) (n,a2t) (n,b))::(J.map _))) k h];cases S:x==n with|true=>{simp only[agN,S];rw[bC b0 (jB b VC),az,az]}|false=>simp only[agN,S];rw[bC b0 (jB b VC),cM,cM]
structure arV(N:cX)(a d:Scope)(own:JL):Prop where
 kind:sJ d.kind
 uniq:dw mK a_I
 ix:cA own (K N p.2 p.1)
 free:yH (j5 (vR y.1)\/iI (vR y.1))
 own:dw mK (y.2= .local\/y.2= .cell->y.1∈aB5 fN\/y.1∉N)
noncomputable def wipe(M:St):ao->St|[]=>M|v::vs=>bp tG v ae
theorem adH(M:St):∀vs:ao,t tG=Vd|[]=>rfl|v::vs=>by unfold wipe;rw[M4,adH M vs]
theorem adI{M:St}{i:Nat}{x:V}:∀{vs:ao},A (tG) (aa x)->A M (aa x)/\i∉vs|[],h=>⟨h,jK⟩|v::vs,h=>by unfold wipe at h;rw[N hi v i,dY];{rw[aj (Vg hi),kE (adI h)];exact⟨a3,fS⟩}
noncomputable abbrev Cx.blk(X:Cx)(s:Shared)(H:Hp)(d:Scope)(g:Env)(a8:bg):Cx:={X with F1:=s,Kz:=H,env:=g,outer:=oR,ex:=a8,fn:=ab (MU x==aa .cell),pn:=[],xe:=JH}
section z
variable{X:Cx}{pins:bw}{M:St}{H:Hp}{s:Shared}
theorem aP0{d:Scope}{own:JL}{a8:bg}(I:aZ)(ok:apu)(hN:X.N.Nodup)(h:h3 (iV H/\b<aO)):Inv (j1 aH_ aO) [] (ahs M aln) H (fY anR):=by revert I ok hN h;revert X pins M H s d own a8;refine Kr;generalize aG=X,aA=pins,aF=M,aE=H,aD=s,aB=d,aH=own,aI=a8;intro I ok hN h;have L:yH (ax c (Vc y.1) c):=bhC;generalize n:aB' d aH_ aO cG=g;have kp:x2 anR:=db (za xp);rw[dT f g.locals aO,dT l g.cells aH_];have r:g.scope=aPX d ahr:=by{rw[<-n];rfl};rw[<-lD bh aGi]at l;have k5:∀{y c},(y,c)∈ak1->am3/\c<aO:=fun{y c}c4=>by{rw[dq (Sx c4) c4 rfl,az];{rw[db b0 (L _ a3 rfl)];rw[b0];rw[j9 z (CP _ _ b0)];exact bd z.lt}};have mem:∀{y c},V (aB8 y=aa c) am3 (c<aO) (iw<=c) (arT anR c ae):=fun{y c}e=>by{rw[a6 l];rcases Sy (oT e)with c4|⟨_,a9,e2⟩;rw[dS (k5 c4)];{rw[lD]at a9;exact e1 a9 e2}};have u:∀{y},iI (MU y)->z c (aB8 y=aa c) am3:=fun{y}a5=>by{obtain⟨C,d3⟩:=aB1 (Sz (d:=mK) (n:=f3 X9) (adD (a:=a2w) (B:=[]) (oT a5)));rw[<-l]at d3;rw[ak C d3];rw[l]at d3;rcases Sy (oT d3)with c4|⟨a3,_,_⟩;rw[l (k5 c4).1];{have:=aB7 _ a3;rw[am a5,nu]}};rw[b (by rw[b aBi (t r aB_) (bl n a2v) (bl n I.ok.blt) (t f aY) (fun y z c b4 b9=>?_) Q8 (fun y c z e=>?_) (a a2u a1T gm (dc (l2 (fun y c e z=>?_))) I.bs (cp agY I.sz) (fun b o e U=>?_) (fun b U z=>?_) I.stack I.aqN)];{have b4:=b4;rw[g3 b9];rw[l]at b4 b9;refine adF uh (fun y z c a b=>I.ok.inj y z c (k5 a).1 (k5 b).1) (oT b4) (oT b9);rw[J lD (wk (k5 (y:=p.1) (c:=p.2) c2).2)]};{have O:o k (aB9 y=aa k) (k= .cell\/k= .free) (ax c (aB8 y) c):=fun k c3 Y=>by{delta Env.kindOf at c3;rw[r]at c3;rw[cG G e (adG c3)];have:G= .cell\/G= .free:=bz;rw[de this rfl];{rw[db c4 (adE (n:=f3 X9) (B:=ak1) (oT e))];obtain⟨C,d3⟩:=aB1 c4;exact⟨C,t l d3⟩};{obtain⟨c,a3,_⟩:=u e;exact⟨c,a3⟩}};rw[bcq,l (O _ b6 gm),l (O _ b6 EY)]};{have z:=z;rw[da z (j5 (MU y)) z,c7 e,a6 l];rcases Sy (oT e)with c4|⟨_,a9,_⟩;{rcases Sx c4 with c4|⟨a3,_⟩;rw[az];{rw[cO (aB7 _ a3),cR z,kJ]}};{rw[lD]at a9;exact aB2 a9}};rw[Z f (gE (QW).2)];{rw[bcD,l ((a2 (QW).1).1 y c a3 z),dY]};{rw[cZ (aS (QW).1.2),l (aBh b o e z),cF (fJ hg (cp agY z)) (iO _)]};{rw[cZ (zl z),l ((QW).1.2.1 z),l ((QW).1.2.2.1 z)]}) rfl zl (agU kp) (v uB ?_ (fun i y t b4 b9 e7=>?_)) aIq ?_ aIq (ap uh (I.du.kept kp) adH Hm),Z f (Heap.Ns.keeps (Heap.Ns.new ..) (db (za e)))];{obtain⟨b9,R⟩:=adI b9;have j:bcd:=by{have O:o k (g.scope.names.lookup y=aa k) (k= .local\/k= .cell\/k= .free) bcd:=fun k c3 Y=>by{have l7:=c3;rw[r]at c3;rw[cG G e (adG c3)];have f6:¬(G= .local\/G= .cell):=fun c7=>by{rcases ok.own _ (oT e) c7 with d3|d3;{rw[ic v (zy d3)];have e7:=ok.ix p c2;have:p.1=y:=v;rw[oY e7];exact R (aB6 (v p c2 (ac8 hN e7 b4)))};rw[l (d3 (bO b4))]};rcases J with rfl|⟨rfl,rfl⟩;{rcases Y with rfl|rfl|rfl;rw[cF gm f6,cF EY f6,l ⟨e,.inr l7⟩]};rw[l ⟨e,.inl l7⟩]};have e7:=e7;rcases e7 with e7|e7|e7;rw[yY gm,yY (.inr gm),yY (.inr EY)]};rw[aom,aJ w J (a5 i y t b4 b9 (ca bcB (ci (.inr Pb)) (ci (pd k)))),aa w J (.inr (au j.2))];obtain⟨c,a3,a9⟩:=u j.1;rcases q with⟨k,_⟩|⟨_,C,d3,z⟩;{rw[ad k (ML y) .local k];rcases bcB with G|G<;>rw[bs (a0 (ML y) _ G)]<;>cases k};{rw[a9]at d3;cases d3;exact v c a3 (z.keeps kp)}};{rcases mem e with⟨a3,_⟩|⟨_,z⟩;rw[S w z (CP y c a3) w (z.keeps kp),l (aW z)]};rw[Z f pX];{rw[bcD,l (MC y c a3),l (zo (aB2 a3))]};rw[az]
theorem aP4{E:aU}{D:Addr}{O:af}{y:V}{v:Value}{Q:aU}(I:aZ)(a7:am D O)(c9:bx<hy)(J:Yq)(h:i4 (aR (ap D (eN O)) c1) .none):ns (DA [EI,v]):=by obtain⟨a0,ar,n,a,e⟩:=es D _ a7;rw[f7 mO];refine append_at (hsz:=ai) e (fun h' sb l=>h tJ (Vr (t':=dF) (xa a7) gm (fun b u U q=>sl q) (aW l) (a hU (ar++[v]) (n+1) (a.append (hy J)) ?_)));rw[l];simp
def PTs(X:Cx)(G:fE)(t:TT):Prop:=F3 (M1 G ab (fun c J=>Z J (do{let ok<-isTrue c X.env (eval c X.env);pure (ForInStep.yield ok)}) (eV (a2x J))))
def arW:TT:=l1 (Q ab H)
theorem aP5:PTs X [] arW:=qX (wpAny_tests_nil (v H I h))
theorem aP6{c:Expr}{t:TT}(h:PT X c t):PTs X [c] t:=DS (wpAny_tests_one (iq Q I))
universe z
theorem K1{I:Type}{t:Sem I}{Q h4:dF I}{d5:Model}{A:Around}{E:aU}{s:Shared}(h:ff d5 A t Q JH s)(g:bdm):a'Q:=ow h g
theorem aP7{prog:Program}{w:World}{A:Around}{R:Qj}{s:Shared}{t a iter:Expr}{G:fE}{d:Scope}{pos:Pos}{it B:Value}{env:Env}(I:dF Nat)(turn:j n s (I n s) (ff (jw cO w) A (aht it) (fun J l=>match J with|none=>R (.ok .next) l|some v=>am (MN a it v) (fun _ i=>am (Vm a env v) (fun _ g=>am (M1 G ab (fun c J=>Z J (do{let ok<-isTrue c env (eval c env);pure (ForInStep.yield ok)}) (eV (a2x J)))) (fun ok b=>Z ok (am (kq t) (fun x o=>am (DA [B,x]) (fun _ p=>s_ (I m p)) RK o) RK b) (s_ (I m b))) RK g) RK i) RK l) RK s))(n:Nat)(h:I n s):v3 (.compLoop (vY [d a Hr G 0]) 0 it B env):=by revert turn h;revert prog w A R s t a iter G d pos it B env I n;refine@ml _ _ _ _ _ _ _ _ _ _ _ _ _ _ ?_;generalize qe=prog,qf=w,qg=A,qh=R,qi=s,qj=t,qk=a,ql=iter,qo=G,qp=d,qs=pos,qt=it;refine aM5;rw[al B env I n,du eW];refine codeAny_loop rfl I (fun n s q=>?_) n h;refine wpAny_noted ?_;rw[compTurn_list];rw[C (aBp (bF (wh (eW n s q) (fun J l j=>?_) (fun _ _ h'=>h'))))];cases J with|none=>{exact cj j}|some v=>rw[C (wh j (fun _ i r=>bF (wh r (fun _ g f=>bF (wh f (fun ok b k=>?_) (fun _ _ h'=>h'))) (fun _ _ h'=>h'))) (fun _ _ h'=>h'))];cases ok with|false=>{exact cj (bd k)}|true=>exact bF (bF (wh k (fun x o u=>bF (wh u (fun _ p y=>mX (bd y)) (fun _ _ h'=>h'))) (fun _ _ h'=>h')))
section z
variable{X:Cx}
def tLc(wi:TI)(g:TG)(c3:TT)(b8:TE)(vs:ao):TE:=hs (DC (E D (gF D) (K5 (Q EI H))))
theorem arY{pins:bw}{s:Shared}{M:St}{H:Hp}{Q:VK}{t c7 iter:Expr}{G:fE}{d:Scope}{own:JL}{pos E:Pos}{wi:TI}{g:TG}{c3:TT}{b8:TE}{a3:bZ (cS->Sem a2A)}{d5:aU}(b0:fR)(hN:X.N.Nodup)(I:aZ)(hi:aaE)(ok:apu)(d8:aL3)(c6:aL4)(a0:aL2)(c0:a7m)(h:tLc wi g c3 b8 aln M H Q)(e4:∀D C c1 m L,c Bm (Q EI L) (c1.heap.Ns C m) (adh X au L C) (a2z alb X.A oS a3 d5 EI C (.ok .next) c1)):di (comprehension Rf d cG E (newList []) ah (e1 Hr) a3) d5:=by revert b0 hN I hi ok d8 c6 a0 c0 h e4;revert X pins s M H Q t c7 iter G d own pos E wi g c3 b8 a3 d5;refine@ml _ _ _ _ _ _ _ _ _ _ _ _ _ _ ?_;generalize qe=X,qf=pins,qg=s,qh=M,qi=H,qj=Q,qk=t,ql=c7,qo=iter,qp=G,qs=d,qt=own;refine Kr;generalize aG=pos,aA=E,aF=wi,aE=g,aD=c3,aB=b8,aH=a3,aI=d5;intro b0 hN I hi ok d8 c6 a0 c0 h e4;refine wpAny_comprehension_free (use:=a3) rfl c0 (aPY bhC) aB_ (fun y b6 e=>bj (aB7 y b6) e) (bD aGd (fun f3 a4 S=>bD S (fun e1 b5 a9=>?_)));obtain⟨it,a8,l,d0,b7,e,Y,T,b4,h3,q⟩:=a9;rw[cb];refine M5 (aPZ ?_) (gJ (a1 0));generalize a7:b5.heap.objs.size=D;rw[HZ (q D (Y.du.fresh (qL a7)))];generalize g9:({b5 with heap:=a2y (jw aJO)}:vM)=c8;have O:aR QF c8:=by{rw[<-g9];refine Y.laid (t':=b5.toks) Pn (qL a7) (a cT [] 0 .nil ?_);rw[<-a7];exact gK};rw[bL e2 c8.heap (a2y (jw aJO)),cf e8 (h3 (b<b5.heap.objs.size)) (by rw[go o (BZ b4)];exact hg),cf h6 (h3 (iV QF/\b<sZ)) (by have Z:=e8 b U;rw[v (l2 (aow).2) (ac e2 lD (wk Z)),J (bX bz) (aow).1])];have d2:l 0 c8.heap:=ag8 _ _ _ b4 (x9 (t e2 xp));rw[f7 (aP0 O ok hN h6)];have pg:=d8 c8 QF sZ alK a8;have e5:=c6 c8 QF sZ alK a8;have N:=a0 c8 QF sZ alK a8;show dm _ _ (.compStart Rf 0 nU EI a'w) a9s;have e3:=dc (aam).1.1;generalize P:a'w=a at a5 pg e5 N⊢;have f5:a.locals=sZ:=by{subst P;rfl};generalize j1:QF=d4 at O a5 pg e5 N b2 e3 h6;generalize h4:(a9s:vM)=d9 at a5⊢;have f6:l 0 d9.heap:=ag8 _ _ _ d2 (x9 (bl h4 (za xp)));have V:∀{g0:St}{L:Hp}{c1:Shared},Inv Js [] g0 L c1->Yu->h3 (adh Js [] L b):=fun{g0 L c1}K d1 b U=>c (d1 b U) (K.ok.exf b U).1 (K.ok.R5 b U) (.inl U) (fun x c e=>(K.ok.exf b U).2 x c e) (GZ (([]:bw)++[]));have g4:dm alb X.A (.compLoop Rf 0 nU EI a) d9:=by{refine aP7 (fun n c1=>G2 (W i n L)) ?_ c9 (c 0 d4 a5 f6 e3 b2);rintro n f9⟨i,g6,A,d3,f,h5⟩;rcases eW i n g6 h5 with⟨stop,d7⟩|⟨go,w,h7,step⟩;{rw[Fg (T.done Js rfl rfl rfl b0 i [] f9 _ g6 JH A (V A f) d3 stop),kw a6 F];subst a6;obtain⟨m,d1,_⟩:=F.loc;rw[f5 d1];rw[f5]at d1;exact e4 D sZ h1 m g6 (O.aNQ (ch:=a8) F.os F.base F.du F.bare (dc (d (aS (aam).1.2) (aam).1.2.1 (cp (aam).1) (a2 (aam).1.2)))) d7 d1 (O.Sd aY (by have z:=F.free;rw[f5]at z;exact z))};{rw[Fg (T.item Js rfl rfl rfl b0 i [] f9 _ g6 JH A (V A f) d3 go),bl a6 b3 e0];subst a6;refine K1 b3 (fun _ R e0=>?_);obtain⟨x,h9,r,b1,i0,e6,h8⟩:=e0;refine K1 (pg _ R _ h9 x u _ (r.pinned (V r h8) (aBt _ _ e6)) b1 (MO x h9 i0)) (fun _ d6⟨e7,i3,i1,g5,h2⟩=>K1 (e5 _ d6 e7 i3 _ i1 h2) (fun b i4 e0=>?_));obtain⟨i7,g7,b9⟩:=e0;have fin:∀{c1:Shared}{L:Hp},Inv Js ([]++KJ a8 R.heap) e7 L c1->w L->s_ (G2 (W i m L)):=fun{c1 L}K nx=>by{obtain⟨f7,c4,c5⟩:=h7 L nx;have g8:h3 (E o (be (R.heap.get? b)) (Pg/\IY)):=tj (let z:=K.pin (b,o) a7M;⟨z.1,ru⟩);rw[e f7 c4 (i+1) L ((K.Sg (pins:=[])).weak (by rw[<-g5,adH]) (fun j v e=>?_)) (ag8 _ _ _ e6 (tj (g8 b U o e).1)) ua c5];{rw[pA g5];exact(adI e).1};{rw[go o (BZ e6)];exact(g8 b U o e).2}};cases b with|false=>{simp only[Dg,iU]at b9⊢;exact fin g7 b9}|true=>simp only[mL]at b9⊢;refine K1 (N _ i4 e7 i7 _ g7 b9) (fun z j2 e0=>by obtain⟨i2,j3,i5,i6,B,i8,i9,nx⟩:=e0;exact aP4 (X:=Js) i5 i8 i9 i6 (fun j4 j0=>fin j0 nx))}};exact codeAny_compStart_list g4 (T.self X.A 0 _ _ _ f6 g4)
theorem BK{t c7 iter:Expr}{G:fE}{d:Scope}{own:JL}{pos:Pos}{wi:TI}{g:TG}{c3:TT}{b8:TE}(b0:fR)(hN:X.N.Nodup)(hi:aaE)(ok:apu)(d8:aL3)(c6:aL4)(a0:aL2)(c0:anG):M Rf bhG:=by rw[fz];rw[eval_ListComp];refine arY b0 hN I hi ok d8 c6 a0 c0 h (fun D C c1 m L K q d1 f=>v m d1 (fun l sb=>?_));rw[r1 f];exact m EI L (K.turned (t':=ahu) (jE (sl e)) F g4 h6 f4 f5) q
theorem aP8{i:Nat}{y:Str}{r:Pos}{t c7 iter:Expr}{G:fE}{d:Scope}{own:JL}{pos c:Pos}{wi:TI}{g:TG}{c3:TT}{b8:TE}(b0:fR)(hN:X.N.Nodup)(b6:A X.N y)(j:ld (ML y))(k:MI Rf (aa aJJ) c.line cG=eV ab)(hi:aaE)(ok:apu)(d8:aL3)(c6:aL4)(a0:aL2)(c0:anG):bn [aJJ] Rf c (adg bhG (KH i)):=by rw[k_];rw[exec_Assign_Name_used _ _ _ _ k];rw[C (aBp Yk),C (bD (arY (d5:=fun _ c1=>SP X au D .next c1) b0 hN I hi ok d8 c6 a0 c0 h (fun Z C c1 m L K q d1 f=>?_)) (fun _ c1 e0=>mX e0))];refine a1B (aqP (v:=gU Z) K hN b6 (.inl j) rfl (fun b5 Y P=>?_) (.inr j));rw[ak sb b3 P,r1 f,aa m (d1.sameBut sb cu) (fun e2 f6=>as L (Y.turned (t':=b5.toks) (jE (ac f6 b U e)) F g4 h6 f4 f5) q)]
theorem aP9{t:Expr}{a:bL Comprehension}{d:Scope}{pos r:Pos}{y:Str}{l:Nat}{env:Env}(c3:sJ env.scope.kind)(b6:ld (env.scope.names.lookup y))(a5:(r.line==MJ)=ab)(b3:(d.names.any (fun(n,k)=>n==y&&(k== .local||k== .cell)))=ah):MI (vY a) (aa aJJ) l env=eV ab:=by rw[ad ky (agV y) .local b6];have U:env.blockKind= .function:=by{delta Env.blockKind;rw[c3];rfl};rw[oR b1 MJ];have a3:(r.line==bf6)=ab:=a5;rw[oR a9 bf6];delta MI;simp only[U,ky,b3,a5,b1,a3,a9];rfl
universe z
theorem aP_{lo:Int}{n:Nat}{g:TG}{c3:TT}{b8:TE}{vs:ao}{M:St}{a8:Hp}{D:Addr}{k:je}(j:Y9)(b1:j 0 aF7)(c0:l i H (i<n) (j i H) (be aos tG H bdH))(hd:F9 n):ea PR PR PR:=by rw[l2 (m4 n Qp) n,bhn];by_cases Z:i<n;rw[oE (fun L u=>kd n Pq) (c0 i _ Z p)];{have e:i=n:=by{rw[eo]};rw[cb];exact dr aY (hd H p)}
theorem arZ{K:PySem.W.Frag}{a:Addr}{O:af}{g:TG}{c3:TT}{b8:TE}{vs:ao}{M:St}{a8:Hp}{D:Addr}{k:je}(j:Y9)(b1:j 0 aF7)(a5:l i H QA (j i H) jj)(c0:∀i x H,nq->j i H->be x tG H bdH)(hd:F9 bx):ea QC QC QC:=by rw[l2 (m4 bx QA) bx,bhn,cO (a5 i H hi p),fW Z bx];{refine i5 (d O O[i] q ai) (fun L u=>f (bx-jc) bz Z u);rw[fL y y,cb];exact c0 i x _ (y O q) p};{have e:i=bx:=by{rw[aIJ]};rw[cb];exact dr aK0 (hd H p)}
noncomputable def ar0(N:cX)(a d:Scope)(own:JL):cf:=(match d.kind with| .function=>ab|_=>ah)&&(a2B (e9 (cw a_I)))&&(own.all (bn (cw (K N p.2 p.1))))&&(a2B (e9 (match y.2 with| .free=>(match vR y.1 with|some .cell=>ab|some .free=>ab|_=>ah)| .local=>a_f| .cell=>a_f|_=>ab)))
theorem ar1{N:cX}{a d:Scope}{own:JL}(h:ar0 N a d own=ab):arV N a d own:=by rw[a4 ar0];simp only[ia,Hx,iV]at h;obtain⟨⟨⟨a3,a9⟩,e2⟩,e5⟩:=h;rw[j ?_ a9 e2 a8O a8O];{split at a3;{assumption};rw[cY]};{rw[cO (e5 y b6)];simp only[e]at q;split at q<;>first|rw[m1 kH]|rw[pc kH]|(rw[kJ])};{rw[cO (e5 y b6)];rw[i7 e e]<;>(simp only[e,ahv,iV]at q;exact q)}
universe L2
namespace L2
open PySem PySem.Spec PyProof.Rows
section z
variable{prog:Program}{w:World}{A:Around}{R:Qj}{s:Shared}{t u o W c2:Expr}{a b:fE}{d:Scope}{pos:Pos}{it B:Value}{env:Env}
universe z
section z
variable{X:Cx}
universe z
universe L2
namespace L2
open PySem PySem.Spec PyProof.Rows
section z
variable{c:Type} [wm c]
noncomputable def fe(F:hV)(k:c):jO:=cG (F.find? FO)
noncomputable def putK(F:hV)(k:c)(v:V):hV:=Z (VD FO) (M6 (jx (v d.1 k (d.1,v) d))) (F++[(k,v)])
theorem sj{p:c×V}{J:hV}{k:c}(e:p.1=k):fe (p::J) k=aa p.2:=bx fe oX e
theorem sk{p:c×V}{J:hV}{k:c}(e:¬p.1=k):fe (p::J) k=fe J k:=bx fe oX e
theorem K2(k:c):∀F:hV,(VD FO)=dl uL|[]=>rfl|p::J=>by rw[MY];rw[ZO];{simp only[sj e,dI e,aCb,a2r]};{rw[sk e,ed e,aCa];exact K2 k J}
theorem ar2(k j:c)(y:V):∀F:hV,fe aJf j=gD (fe F j) (v j k y x)|[]=>rfl|p::J=>by have d6:=ar2 k j y J;rw[da];rw[N h p.1 k];{rw[aK h];rw[b1 p.1 j];{rw[wY (p.1,y),sj e,aCc,aK (a2C h)]};{rw[w0 (p.1,y),sk e,d6]}};{rw[aO h,b1 p.1 j];{rw[wY p,sj e,aCc,fh (h (aA6 z))]};{rw[w0 p,sk e,d6]}}
theorem ar3(k j:c)(y:V):∀F:hV,uL=ae->fe (F++[(k,y)]) j=av (j=k) y (fe F j)|[],_=>by{rw[b1 k j,Z (aK CX) (wY (k,y)),Z (fh (e wo)) (w0 (k,y))]}|p::J,d1=>by rw[ahw];have c3:¬p.1=k:=J (by rw[sj z]at d1;cases d1);rw[sk c3]at d1;rw[b1 p.1 j];{rw[sj e,sj e,fh (c3 (aA6 z))]};{rw[sk e,sk e,(ar3 k j y J d1)]}
theorem SA(F:hV)(k j:c)(y:V):fe aHY j=av (j=k) y (fe F j):=by delta mP;rw[bC a (VD FO)];{rw[aK a,ar2];rw[K2]at a;rw[b1 j k];{rw[ch x S a];rw[aK e,e,S,aCc,cP]};rw[az]};{rw[aO a];refine ar3 k j y F ?_;rw[K2]at a;cases q:uL with|none=>{rfl}|some x=>rw[q]at a;exact i0 (a rfl)}
theorem ar4(F:hV)(k:c)(v:V):bd Yd (h_+1):=by delta mP;split;{simp};{simp}
theorem aP'{F:hV}{k:c}(v:V)(h:uL=ae):Yd=F++[(k,v)]:=by delta mP;rw[K2,h];exact bj ay
theorem sf.adK{o:jO}{u:pE}(J:sf o u):M7=u.isSome:=by cases o with|none=>{cases u with|none=>{rfl}|some _=>trivial}|some _=>cases u with|none=>{trivial}|some _=>rfl
theorem KV.val{F:hV}{vs:Fw}(J:tW)(k:c):sf uL (Dh vs k):=by rw[aJH];induction J with|nil=>{trivial}| @cons p q c5 v h t d6=>rw[kE h,ZO];{have b:Dh (q::v) k=aa q.2:=by{simp[Dh,oX,(a2D e)]};rw[sj e,b];exact a9};{have d3:¬q.1=k:=J a9';have b:Dh (q::v) k=Dh v k:=by{simp[Dh,oX,d3]};rw[sk e,b];exact d6}
theorem KV.any{F:hV}{vs:Fw}(J:tW)(k:c):(VD FO)=vs.any FO:=by rw[aJH];induction J with|nil=>{rfl}|cons h t d6=>rw[MY,MY,d6,h.1]
theorem KV.adL{F:hV}{vs:Fw}(J:tW)(k:c){y:V}{u:Value}(Z:lg):KV aJf (Vu (jx (v d.1 k (d.1,u) d))):=by delta KV at J⊢;induction J with|nil=>{rw[kO]}| @cons p q c5 v h t d6=>rw[da,da];refine .cons ?_ d6;rw[kE h,ZO,az,az]
theorem KV.put{F:hV}{vs:Fw}(J:tW)(k:c){y:V}{u:Value}(Z:lg):KV aHY (stored vs k u):=by delta mP stored;rw[J.any k];rw[bC e (vs.any FO),dl e e (J.adL k Z)];{rw[c_ e e];exact a2E J (bd Z)}
theorem KV.length{F:hV}{vs:Fw}(J:tW):h_=iR:=Mv J
universe z
theorem BL{P:Program}{w:World}{k:Key}{u:Value}(J:gR (kV k) u):Aa u:=by cases k with|inl i=>{rw[n6 QN (aNF P w i t)]}|inr x=>rw[n6 aou (aNG P w x t)]
theorem ar5{P:Program}{w:World}:∀{K:tI}{b1:aM},eD (Di kV)->aCd tM K b1|[],_,J=>D0 .nil|k::K,_,J=>by rw[da]at J;cases J with|cons h t=>rw[cB (BL h) (ar5 t)]
abbrev KT(H:Hp):au uD J9:=dE (nS bfm)
theorem KT.val{H:Hp}{F:uD}{O:J9}(J:YC)(k:tI):sf uL (cG ank):=by induction J with|nil=>{trivial}| @cons p q c5 v h t d6=>obtain⟨a3,_,a9⟩:=h;rw[ZO];{have b:zz (q::v) k=aa q.2:=by{simp[zz,oX,(a2D e)]};rw[sj e,b];exact a9};{have d3:¬q.1=k:=J a9';have b:zz (q::v) k=zz v k:=by{simp[zz,oX,d3]};rw[sk e,b];exact d6}
theorem KT.adL{H:Hp}{F:uD}{O:J9}(J:YC)(k:tI){y:V}{u:Value}(Z:lg):KT H aJf (Hh (putAt k u)):=by induction J with|nil=>{rw[kO]}| @cons p q c5 v h t d6=>rw[da,da];refine .cons ?_ d6;rw[dg a3 e2 h];delta putAt;rw[ZO,az,az]
theorem KT.put{H:Hp}{F:uD}{O:J9}(J:YC)(k:tI){b:Addr}{y:V}{u:Value}(U:aaz)(Z:lg):KT H aHY (ahx O k b u):=by have e:(VD FO)=dl ank:=by{rw[K2,(J.val k).adK,aCe]};delta mP ahx;rw[e];rw[bC q (dl ank),dl q q (J.adL k Z)];{rw[c_ q q];exact a2E J (ah U Z)}
theorem KT.keeps{H L:Hp}{F:uD}{O:J9}(J:YC)(c6:j b d7 (fs alx) (hI alx)):KT L F O:=Paired.aqK J (vM bcQ)
section z
variable{P:Program}{w:World}{H:Hp}{h:Heap}{a:Addr}
theorem ar6{u:HO}(ok:ll)(e:k1 u):he u:=e.ok ok
theorem SD{F:gv}(ok:ll)(e:k1 qc):np apS:=show he qc from ar6 ok e
theorem ar7{F:gv}(ok:ll)(e:cx qc):np apS:=SD ok YR
theorem ar8{K:tI}(ok:ll)(e:l7 (Di kV)):(Va tM).is h K a:=by obtain⟨_,ar,J,o,a3,a9,n,e2⟩:=dx (he (.tup (Di kV))) (ok a _ e);exact a o eU n a3 a9 e2 (ax (ar5 J))
theorem SF{F:uD}(ok:ll)(e:k1 uc):bdQ:=by revert ok e;revert P w H h a F;refine aa3;rw[n P w H h a F];intro ok e;obtain⟨z,y,O,J,o,a7,e1,a3,a9,e2,e5,f⟩:=dx (he uc) (ar6 ok e);rw[b z y O J o a7 e1 a3 (a a9 e2 e5 qq f)];have all:∀{l:uD}{m:J9},KT H l m->aK m ((Va tM).is h x.1 x.2.1):=by{intro l m q;induction q with|nil=>{rw[Yr]}| @cons p q c5 v e0 t d6=>rw[Bs,i7 (ib S) S,sT (ar8 ok ag),a_]};exact all J x S
theorem aQa{F:uD}(ok:ll)(e:cx uc):bdQ:=SF ok YR
universe z
def jq(H:Hp)(a:Addr)(y:V)(J:jO):Prop:=de (k1 qc) (J=uL) (k1 uc) (aaz/\J=uL)
def qD(H:Hp)(a:Addr)(y v:V)(L:Hp):Prop:=de (cx qc) (h_<hy/\L=a8A) (cx uc) (aaz/\h_<hy/\L=a8B)
theorem jq.k{H:Hp}{a:Addr}{F:gv}{k:Key}(e:cx qc):jq H a (kV k) uL:= .inl (m F k YR rfl)
theorem jq.t{H:Hp}{a b:Addr}{F:uD}{k:tI}(e:cx uc)(f7:aaz):jq H a cW uL:= .inr (a F k b YR (ah f7 rfl))
theorem qD.k{H:Hp}{a:Addr}{F:gv}{k:Key}{v:V}(e:cx qc)(a5:h_<hy):qD H a (kV k) v a8A:= .inl (m F k e (dw a5))
theorem qD.t{H:Hp}{a b:Addr}{F:uD}{k:tI}{v:V}(e:cx uc)(f7:aaz)(a5:h_<hy):qD H a cW v a8B:= .inr (a F k b e rfl f7 a5 rfl)
section z
variable{X:Cx}{pins:bw}{M:St}{H:Hp}{s:Shared}{a:Addr}{y v:V}{u J:Value}{o:jO}{A:Around}{E:aU}
theorem Inv.big(I:aZ):ahy<aO:=b7 ay (a2F I.bk).lt
theorem aQb{Q:aU}(hu:J1)(I:aZ)(g:jq H a y pI)(Z:lg)(h:l c5 c1 (aR H c1) (gR v c5) (Q c5 c1)):mu (zp bc u):=by revert hu I g Z h;revert X pins M H s a y v u A E Q;refine@ml _ _ _ _ _ _ _ _ _ _ _ _ _ _ ?_;generalize qe=X,qf=pins,qg=M,qh=H,qi=s,qj=a,qk=y,ql=v,qo=u,qp=A,qs=E,qt=Q;intro hu I g Z h;rw[a79];{rw[jY,wr (SD es e),m7 (Dh vs k) (t l (VE k))];exact a2H (BL Z) ahA hw (h c5 _ rx W)};{rw[jY,aGM,wq (SF es e),m7 (cG ank) (t l (VE k)),ic b0 (zi hw)];refine a2G (ahz hu) aoC j c2 ?_;rw[J b0 (h c5 _ rx W)]}
theorem aQc{Q:aU}(hu:J1)(I:aZ)(g:aIK)(Z:lg)(h:Fa M7):mu (ME .In u bc):=ra (wpAny_in_of (BL Z) hd ahA ?_) (a2I (ahz hu) aoC hd j ?_)
theorem aQd{Q:aU}(hu:J1)(I:aZ)(g:aIK)(Z:lg)(h:Fa (! M7)):mu (ME .NotIn u bc):=ra (wpAny_notIn_of (BL Z) hd ahA ?_) (a2J (ahz hu) aoC hd j ?_)
theorem SG{h':Heap}{t':Nat}{N:HO}(I:aZ)(h8:uX (H a))(c0:pi a)(a0:ax q (gS a) q)(a6:cF (ad a N) a N):aR (ad a N) uJ:=Vr (x:=a) (e:=a) h8 gm (fun b q U z=>ac c0 b U z) a0 a6
theorem ar9{P:Program}{w:World}{L:Hp}{h':Heap}{F:gv}{vs:am5}(z:a1 h_)(hd:li a)(d:tW)(j:h'.DictOf tM a vs):ow P w L h' a qc:=a z hd vs d j
theorem aQe{L:Hp}{Q:Qi}(hu:J1)(I:aZ)(g:qD H a y v L)(Z:lg)(rv:gR v J)(h:i4 Bm ()):mu (a1A bc u J):=by revert hu I g Z rv h;revert X pins M H s a y v u J A E L Q;refine@ml _ _ _ _ _ _ _ _ _ _ _ _ _ _ ?_;generalize qe=X,qf=pins,qg=M,qh=H,qi=s,qj=a,qk=y,ql=v,qo=u,qp=J,qs=A,qt=E;refine Kq;rw[bW L Q];intro hu I g Z rv h;rcases g with⟨F,k,e,c3,l,b0⟩|⟨F,k,b,e,c3,f7,l,b0⟩;{subst c3 b0;rw[wr (ar7 es e)];refine wpAny_setItem_pairs (hsz:=bl oY z) (BL Z) j (zP (h _ ?_));exact SG I (jH e) c0 bgA (ar9 bft hd (d.put k rv) p)};{subst c3 b0;rw[aGM,wq (aQa es e)];refine a2K (hsz:=bl (Mv d) z) (ahz hu) aoC j (zP (h _ ?_));obtain⟨q,a7,e1,e0,a9,e2,e5,_,f⟩:=p;refine SG I (jH e) c0 alL (a (bft) hd _ ((d.put k f7 rv).keeps (fun c d7 g7=>?_)) q a7 e1 e0 (d a9 e2 e5 f));rw[J (bX (qx g7 e (J (nomatch z)))) g7]}
universe z
section z
variable{X:Cx}{pins:bw}{M:St}{H:Hp}{s:Shared}{a:Addr}{F:gv}{k:Key}{u:Value}{A:Around}{E:aU}
universe z
def SH(i:Expr):Prop:=∀ov c,ahl i ah ov c=aBU [ov,c] (zp ov c)
theorem ar_{prog:Program}{w:World}{A:Around}{E:aU}{s:Shared}{env:Env}{B a:Expr}{pos:Pos}{T id:String}{Q:aU}(a5:aBS (.type T) "__getitem__"=eV (aa Ya))(c0:SH a)(h:ij (kq B) (fun o l=>am (kq a) (fun i g=>g.TypeIs o T/\am (zp o i) Q E g) E l)):bl (kq (eZ B a)):=by refine aBT (lx h (fun o l j=>lx j (fun i g f=>?_)));obtain⟨Z,f⟩:=f;delta a2f;rw[mc];rw[getitemInPython_of_ne Z.not_modules];rw[C (wq Z a5 ?_),z fin (am (ahl a ah o i) (fun J b=>am (letTemporaryGo B o J>>=as (eV J)) Q E b) E g) (c0 o i) (wpAny_operating (lx f (fun J b k=>bF (wpAny_letTemporaryGo (cj k)))))];first|exact fe fin|exact bF (fe fin)|exact bF fin
theorem aQf{X:Cx}{pins:bw}{M:St}{H:Hp}{s:Shared}{a:Addr}{y:V}{o:jO}(I:aZ)(g:aIK):a8Z:=by rcases g with⟨F,k,e,_,_⟩|⟨F,k,b,e,_,_,_⟩;{obtain⟨_,_,vs,_,j⟩:=SD es e;exact VF};{obtain⟨_,_,O,_,j⟩:=SF es e;exact VF}
inductive jG(Q:VK)(x y:V)(H:Hp):Prop|mk:f a v (x=bc) (jq H a y pI) AO (jG Q x y H)
def aQg(l A:TE):TE:=GR (jG Q x)
def aQh(A l:TE):TE:=KB M7
def aQi(A l:TE):TE:=KB (! M7)
inductive jD(N:je)(v x y:V)(d4:Hp):Prop|mk:f a e4 (x=bc) (qD d4 a y v e4) (N e4) (jD N v x y d4)
def aQj(l A L:TE):TS:=DI (jD (mH M) v x)
section z
variable{X:Cx}{o i e B:Expr}{pos E T:Pos}{l A L:TE}
theorem SI(hu:anh)(d0:Bn)(hi:yl)(c0:SH i):M (eZ o i) (aQg l A):=aO bgw y Z v ⟨aQf Y g,aQb hu Y g Z (fun c5 c8 O W=>a v b7 O W q2)⟩
theorem aQk(hu:anh)(hi:yl)(d0:Bn):PC X .In i o (aQh A l):=aO ap9 x R ov (aQc hu Y g Z (F1 ov.isSome))
theorem SJ(hu:anh)(hi:yl)(d0:Bn):PC X .NotIn i o (aQi A l):=aO ap9 x R ov (aQd hu Y g Z (F1 (! ov.isSome)))
theorem aQl(hu:anh)(d0:Bn)(hi:yl)(d3:aoi)(c0:BE (q7 E)):bn [q7 E] B pos (aQj l A L):=by rw[k_];refine bip;obtain⟨y,d4,O,Z,a,e4,ex,g,q3⟩:=P;rw[lZ,Ey];exact aQe hu O g Z rv (fun d9 a5=>d M e4 a5 q3)
universe z
theorem ar'{P:Program}{w:World}{H:Hp}(h:Heap)(U:ahy<mF):GW xW:=a cT (wU U) [] .nil (Heap.DictOf.new h)
theorem aQm{P:Program}{w:World}{H:Hp}(h:Heap)(U:ahy<mF):GW qd:=a cT (wU U) [] .nil _ #[] 0 gK (bj tK rfl aCf)
def aQn:TE:=Hf (ad p xW)
def aQo:TE:=Hf (ad p qd)
section z
variable{X:Cx}{pos:Pos}
theorem aQp:AT aQn:=rj (f0 xW (ar' bh ahB) (h _ pX))
theorem adM:AT aQo:=rj (f0 qd (aQm bh ahB) (h _ pX))
universe z
def adN:aa aat St Hp (es (aO V V))|[],_,H,Q=>Q [] H|(D,L)::J,M,H,Q=>D M H (jI (L M a8 (p8 (adN J M b7 (fun c5 d4=>Q ((x,y)::c5) d4)))))
abbrev VV:au (aO V V) (aO cS cS):=dE (nS (gR p.1 q.1/\gR p.2 q.2))
def SK(X:Cx)(pos:Pos)(keys:bL PL)(b:fE)(a:aat):Prop:=∀(pins:bw)(s:Shared)(M:St)(H:Hp)(Q:es (aO V V)),cw (adN a M H Q) (evalPairs (pairTrees Hy b cG pos)) (fun vs c1=>∃c5 L,Bm/\VV c5 vs/\Q c5 L)
theorem aQq{X:Cx}{pos:Pos}:SK X pos [] [] []:=rj (pairTrees_nil_walk bao)
theorem aQr{X:Cx}{pos:Pos}{k v:Expr}{K:bL PL}{vs:fE}{D L:TE}{a:aat}(c3:M k D)(d3:M v L)(a6:SK X pos K vs a):SK X pos (aa k::K) (v::vs) ((D,L)::a):=rj (pairTrees_cons_walk (bD (c3 au s M H _ I h) (fun u a4 e0=>b x a8 r R d2 e0 (bD (d3 au a4 M a8 _ r d2) (fun T b5 e0=>dM y Z (bD (a6 au b5 M b7 _ Y q2) (fun ws c8 e0=>b c5 d4 O d q3 e0 (a ((x,y)::c5) d4 O (.cons ⟨R,Z⟩ d) q3))))))))
noncomputable def K3(F a:gv):gv:=a.foldl (fun B d=>mP B d.1 d.2) F
theorem KV.merge:∀{a:gv}{f:am5}{F:gv}{vs:am5},KV a f->tW->KV (K3 F a) (merged vs f):=by intro a f F vs J;rw[aJH];induction J generalizing F vs with|nil=>{rw[fT];exact q}| @cons p q c5 v h t d6=>intro m;have e:KV aKo (stored vs q.1 q.2):=by{have:=m.put p.1 h.2;rw[<-h.1];exact this};exact d6 e
theorem asa:∀(a F:gv),bd (K3 F a) (h_+mO)|[],F=>aG0|p::J,F=>by have a3:=asa J aKo;rw[eq (ar4 F p.1 p.2)];show bd (K3 aKo J) _;rw[ic];exact cg a3 a9
theorem asb{P:Program}{w:World}:∀{F:gv}{ws:aO cS cS},VV bdT ws->z f (Carries tM ws f) (KV F f)|[],_,J=>D0 (pl CW)|p::F,_,J=>by rw[da]at J;cases J with| @cons a b Y bs h t=>rw[aJ f c (asb (P:=P) (w:=w) t),aLa];exact v ((p.1,e2)::f) (aP (BL h.1) c) (.cons (bd h.2) q)
def aQs(a:aat):TE:=hs (E p (Y p) (adN a M (ad p xW) (fun c5 b7=>b7 p=aa xW/\∃F:gv,c5=bdT/\h_<=15/\Q fP (upd b7 p (.dK (K3 [] F))))))
theorem aQt{X:Cx}{pos:Pos}{keys:bL PL}{b:fE}{a:aat}(h:SK X pos Hy b a)(g:keys.all (·.isSome)=ab)(a5:a2L=cx)(b1:Hy≠[])(k:a2L<=15):M (.Dict Hy b pos) (aQs a):=by rw[nl q];refine wpAny_Dict_walk (knd:=aJD) g a5 b1 k (bD (h au _ M _ _ (cG xW X9 (iF (bU q)) (ar' bh ahB)) (q _ (zo (aCg aO)))) (fun ws b5⟨c5,b7,Y,d,e,F,e1,lk,q2⟩=>?_));subst e1;rw[bH c i (asb (P:=eC) (w:=X.w) d),X hd l m j (ar7 Y.du e)];cases m;rw[w f c j (zP (m gn _ ?_ q2))];exact SG Y (jH e) c0 bgA (ar9 (by rw[fL (asa F [])];rw[MV]at a3;rw[J wg (cg a3 lk)]) hd (i.merge .nil) p)
section z
variable{X:Cx}{pins:bw}{M:St}{H:Hp}{s:Shared}{a:Addr}{y d:V}{u J:Value}{o:jO}{A:Around}{E:aU}
universe z
section z
variable{X:Cx}{o e f:Expr}{i a:Pos}{l A b:TE}
universe z
section z
variable{X:Cx}{pins:bw}{M:St}{H:Hp}{s:Shared}{a:Addr}{F:gv}{A:Around}{E:aU}
universe z
section z
variable{X:Cx}{pins:bw}{M:St}{H:Hp}{s:Shared}{a:Addr}{y:V}{u:Value}{A:Around}{E:aU}
universe z
universe L2
namespace L2
open PySem PySem.Spec PyProof.Rows
section z
variable{prog:Program}{w:World}{A:Around}{E:aU}
universe z
section z
variable{X:Cx}
universe z
universe L2
namespace L2
open PySem PySem.Spec PyProof.Rows
theorem aQu:vV "reversed"=aa (.type "reversed"):=cC
section z
variable{X:Cx}{pins:bw}{M:St}{H:Hp}{s:Shared}{h':Heap}
theorem Inv.aQv{t':Nat}{ch:bg}(I:aZ)(k:bd Jf g_ hb)(W:bH ch (iV H)):aR H uJ:=by rw[bb6];refine Mz (g':=sT) (d':=zm) (ch:=ch) bgq (sn Q2) (yB Q2) a_T (s3 (nt Q2)) (sY e) a'B a9A aof aIb zl;rw[Cz (uZ (W _ z)),bh9]
theorem Inv.asd{t':Nat}{ch:bg}{T:Addr}{N:HO}(I:aZ)(k:bd Jf g_ hb)(W:bH ch (iV H))(Z:aO<=T)(a6:cF (ad T N) T N):aR (ad T N) uJ:=by rw[f5 (zo Z),bb6];refine Mz (g':=sT) (d':=zm) (ch:=ch) bgq (sn Q2) (yB Q2) (fun b o _ e n=>?_) (s3 (nt Q2)) (fun b O e=>?_) (fun b o u e=>?_) (fun b c5 e=>au #[]) aof aIb zl;rw[gQ (he hg Z) n,gQ (ep d1) e,gQ (ep d1) e];{rw[bX (ep d1),e];rfl};rw[Cz (uZ (W _ z))];{rw[N U b T];{subst U;rw[a6 ak,dV];exact a6};{rw[a6 (bX U)];refine nX (fun c q=>QL) (zQ QL);rw[cZ b0,a_,a_]}}
universe z
section z
variable{X:Cx}
theorem ase{c7:Expr}{pins:bw}{M:St}{H:Hp}{s:Shared}{R:rO}{d0:It}{l:QP}{D:Nat}(I:aZ)(o:Obj)(T:qL [aO] aO)(st:l 0 (mJ o))(q:R d0 H):PIE X au M c7 R gn (dp (mJ o) D):=by rw[c aO [aO] l d0 H (MK (fun b N e=>xp)) T (v st ua q),o8 aO,cb];exact I.Sd aY pX
universe z
noncomputable def Itc(lo c:Int)(n:Nat):It:=IO al'
theorem aQw{P:Program}{w:World}{K:PySem.W.Frag}{c7:Expr}(it:Addr)(lo c:Int)(n:Nat):jD Z_ (a1G h it (lo+cf i*c) (cL-cf i) c)where mem:=bK;obj:=po ai;keep:=bdR;item:=by{intro X C hw g b0 i au s M H E I W st d8;rw[uU,yp,Lu c,ev d3];exact rg al' (dw t)};done:=by{intro X C hw g b0 i au s M H E I W st d8;rw[yp];exact a1E iy st (eB (n<=i) d8 (nE this)) aaQ};self:=vr (a1D st h)
def RgC(i j c:Int)(n:Nat):Prop:=c≠0/\c.natAbs<1073741824/\a2M i j c=ab/\Vn i j c=n
inductive jR3(R:rO)(vs:af)(a8:Hp):Prop|mk:∀(i j c:Int)(n:Nat),A [hS,I3,.int c] (RgC i j c n) (R (Itc i c n) a8) (jR3 R vs a8)
def aQx(d6:TA):TI:=qO (jR3 R)
section z
variable{X:Cx}{c7:Expr}
theorem aQy{a b c:Expr}{d6:TA}{p pos:Pos}(d8:Gl X "range")(c4:ge "range")(b3:PA X aaT d6)(c0:gb aaT (g6 (e1 a) [b,c]))(b8:gd pos [b,c]):hq (ev "range" aaT) (aQx d6):=by rw[jq R];refine jF boot_range b8;rw[JV];obtain⟨i,j,k,n,e,⟨u,e5,e6,c1⟩,q⟩:=d2;rw[cb];cases r1 with|cons J C=>cases C with|cons B C=>cases C with|cons d C=>rw[ob,El,dn t' B,dn f d];refine call_range_3 u (a1H (a1I ..) e6 ?_) (.inl (a1K e5));refine ase (D:=ahC) (sr Pn) _ (aQw _ i k n) ?_ q;rw[aS b4 (i+ae 0*k) i];have b9:cL-ae 0=Vn i j k:=by{exact E5};rw[b4,b9];exact gK
universe z
noncomputable def Itv(K:PySem.W.Frag)(a:Addr)(n:Nat):It:=v (mU (i<n/\IA (nX (n-1-i)))) (fun i H x L=>L=H/\E O jj (nX (n-1-i))) a7E
theorem aQz{P:Program}{w:World}{K:PySem.W.Frag}{c7:Expr}(a it:Addr)(n:Nat):jD (Itv K a n) (Qp/\h.IsRevIter it a (cL-1-cf i))where mem:=bK;obj:=po (by have e:b=it:=by{grind};rw[cb];obtain⟨_,o,e,c,d⟩:=st;exact a7R);keep:=o_ ⟨st.1,st.2.at a73⟩;item:=by{intro X C hw g b0 i au s M H E I W st d8;rw[uU];obtain⟨k8,O,x,e0,S⟩:=d8;rw[ZF,ZZ,yp];obtain⟨_,L⟩:=st;have b4:cL-1-ae i=ae (n-1-i):=by{rw[ahD (VG k8),ahD (fg cT k8)];rfl};rw[b4]at L;refine wpAny_pyNext_rev_item L qN (x:=u) ag aKK;have b9:ae (n-1-i)-1=cL-1-ae (i+1):=by{rw[fU]};rw[b9]at f;rw[aIN];exact De (a x H (a7D) m aLl ⟨k8,f⟩ (dc (Ep).1))};done:=by{intro X C hw g b0 i au s M H E I W st d8;rw[yp];obtain⟨k8,L⟩:=st;have j:n<=i:=d8;have b4:cL-1-ae i= -1:=by{exact a2O (nE j) (nE k8)};rw[b4]at L;exact wpAny_pyNext_rev_end iy L aaQ};self:=vr (a2N st.2 h)
inductive jV(K:PySem.W.Frag)(R:rO)(vs:af)(a8:Hp):Prop|mk:∀(a:Addr)(O:af),A [bc] Yx (R (Itv K a bx) a8) (jV K R vs a8)
def aQA(K:PySem.W.Frag)(d6:TA):TI:=qO (jV K R)
section z
variable{X:Cx}{c7:Expr}
theorem asl{d:PySem.W.Frag}{e:Expr}{d6:TA}{p pos:Pos}(d8:Gl X "reversed")(c4:ge "reversed")(b3:QQ)(c0:RE)(g:Bh):hq (ev "reversed" [e]) (aQA d d6):=by rw[ub,jq R];refine jF aQu rfl;rw[JV,w O e e0 q d2,cb];cases r1 with|cons J C=>rw[ob,hP,a1 rv u (CU e0),f7 CS,ae b4 (ae wj-1) (v bx-1-ae 0)];refine call_reversed_list u.isList (a2N (l:=a) (i:=ae wj-1) Px (ase (D:=ahC) r _ (aQz a _ bx) (au cT) q));rw[<-b4];exact Px
universe z
section z
variable{prog:Program}{w:World}{A:Around}{E:aU}{s:Shared}
universe z
section z
variable{X:Cx}{pins:bw}{M:St}{H:Hp}{s:Shared}{d:Addr}{o:Obj}
universe z
section z
variable{P:Program}{w:World}{K:PySem.W.Frag}{c7:Expr}{d:Addr}{o:Obj}{a7:fv VH}{e1:Nat}
universe z
section z
variable{X:Cx}{c7 e:Expr}{l:TE}{i a:Pos}
universe z
noncomputable def Ite(K:PySem.W.Frag)(a:Addr):It:=gi (IA nq) (∃T x,v=al_/\Y T/\L=ad T (eB x)/\E O jj nq) (∃O:af,jj/\bx<=i)
theorem aQB{P:Program}{w:World}{K:PySem.W.Frag}{c:fE}{B:Nat}{T:Pos}(a e it:Addr):ahE P w K bcx (Ite K a) am0 e (fun i h=>(Iz (ae i))/\CT it a i/\e≠it)where mem:=bK;obj:=po (by obtain⟨⟨a7,a0⟩,⟨o,d0,b0,hd⟩,_⟩:=st;rw[cZ (ax U),a_,a_]);keep:=o_ (let⟨⟨a7,a0⟩,hi,R⟩:=st;v ⟨a7,k e bK _ a0⟩ (hi.at (lJ (k it oo o q))) R);item:=by{intro X C hw g b0 i au s M H E I W st d8;rw[uU,bgN,aML,ZF,ZZ];have d:=fw a0;refine a2Q a0 L qN (x:=u) ai R (fun h' d0 f Z G c3=>dm (wpAny_letOwnedTupleGo_enum (s:=dp h' (dF+1)) d0 (fun l V sb=>?_)));have a6:ow eC X.w (ad aO (eB x)) l aO (eB x):=a aIZ [.int i dF,u] (h1 el m) _ (ac sb _ (v_ d) Z) rfl _ rfl;rw[Q gn _ (I.asd (ch:=am0) (fun b N U q=>ac sb b aJ6 (c3 b N aJ6 aJ6 q)) W aY a6) (v (f _ x pX aLl) (v (au u) (f.at (lJ (ac sb it (hv R) q))) R) ua),cY,gQ (gE (by rw[cZ (ax U),l IW,Z z (ge q L (fw q))])) (Ep).1]};done:=by{intro X C hw g b0 i au s M H E I W st d8;rw[uU,bgN,aLW,ZF,r1 (W it oo),f7 CS];exact a2P iy a0 L qN ai (fun h' f7=>bd (vU (fun b o U q=>f7 b o U q)))};self:=vr (let⟨⟨_,a0⟩,_⟩:=st;aCh a0 h)
inductive jE(K:PySem.W.Frag)(R:rO)(vs:af)(a8:Hp):Prop|mk:f a O (vs=uo) Yx (R (Ite K a) a8) (jE K R vs a8)
def aQC(K:PySem.W.Frag)(d6:TA):TI:=qO (jE K R)
theorem aQD{d:PySem.W.Frag}{X:Cx}{e:Expr}{d6:TA}{p pos T:Pos}{c:fE}{B:Nat}(d8:aHC)(c4:aHJ)(b3:QQ)(c0:RE)(g:Bh):PI X bcx (ev "enumerate" [e]) (aQC d d6):=by rw[ub,jq R];refine jF a2S rfl;rw[JV,w O ex e0 q d2,lZ];cases r1 with|cons J C=>rw[ob,hP,a1 rv u (CU e0),qI u.isList (aCh a0 ?_),c (fY+1) [fY+1,fY] _ _ a8 (sr c3) (aQB a (fY+1) fY) (v (v ⟨.none,a0⟩ L (a2R _)) ua q)];have c1:fY<=b:=by{rw[eo]};exact a_g
theorem asm:vV "zip"=aa (.type "zip"):=cC
noncomputable def Itz(K:PySem.W.Frag)(a b:Addr):It:=gi (∃(O d7:af)(x y:V),N jj aKa nq (A d7 y)) (∃T x y,v=al_/\Y T/\L=ad T ZU/\ad O jj nq/\E d7 aKa (A d7 y)) (∃O d7:af,jj/\aKa/\(bx<=i\/oV<=i))
inductive jZ(K:PySem.W.Frag)(R:rO)(vs:af)(a8:Hp):Prop|mk:o9 (R (Itz K a b) a8) (jZ K R vs a8)
def aQE(K:PySem.W.Frag)(d6:TA):TI:=qO (jZ K R)
universe L2
section z
namespace Bits
open PySem PyProof.Rows
universe Bits
universe z
section z
namespace TL
open PySem PySem.Builtin PySem.Builtin.Str PySem.StrLaws
universe TL
universe z
namespace L2
open PySem PySem.Spec PyProof.Rows
section z
variable{X:Cx}{pins:bw}{M:St}{H:Hp}{s:Shared}{Q:VK}
universe z
section z
variable{X:Cx}
universe z
section z
variable{X:Cx}{o e:Expr}{C b8:TE}
universe z
universe L2
namespace L2
open PySem PySem.Spec PyProof.Rows
section z
variable{X:Cx}
universe z
universe L2
namespace Att
open PySem PySem.W PySem.Calls PyProof.Rows
section z
variable{prog:Program}{w:World}{A:Around}{E:aU}{s:Shared}{K:Frag}
universe z
universe Att
namespace L2
open PySem PySem.Spec PyProof.Rows
universe L2
namespace L2
open PySem PySem.Spec PyProof.Rows
universe L2
namespace L2
open PySem PySem.Spec PyProof.Rows
abbrev so:mq:=jo cF
abbrev E0:XK:=JS
theorem fu{X:Cx}:a2T so X E0:=iR h Hq
structure K4(K:PySem.W.Frag)(x j:Str)(st:Stmt)(f:Addr)(fd:FuncData):Prop where
 ex:∃(D:Value)(m:nj)(kV p b3:Value)(g:nj)(e3 ct:Value)(z:EA),fd=j2 x j/\Co fd/\aLK
 kp:aIp
section z
variable{P:Program}{w:World}{K:PySem.W.Frag}{mg:dO}{base:Heap}
theorem K4.ok{x j:Str}{st:Stmt}{f:Addr}{fd:FuncData}{N c5:cX}{k:Nat}{e8:Sp}(F:jt j fd)(r:apH)(len:alu)(l:∀(e3:Value)(A:Around)(outer:ke)(s:Shared)(H:Hp)(vs:af)(Q:VK)(E:XK),fc (ahg j Eh aO f e3) (yF so P w K mg aj N j Eh f e3 A eB s H E).KC (RP st)):f3 so (k+1) fd:=by rw[bi6];refine aPb lk S r len (fun A eB s H vs Q E a6 C=>?_);rw[aJ t h (l e3 A eB s H vs Q E a6 C)];exact v t h.KC q
theorem K4.binds{x j:Str}{st:Stmt}{f:Addr}{fd:FuncData}{c5:cX}(F:jt j fd)(h:h0 x j):aaC:=by rw[bi6];exact .all (h kV p b3 g e3 ct)
theorem aQF{x j:Str}{st:Stmt}{f:Addr}{D:Value}{m g:nj}{z:EA}{kV p b3 e3 ct:Value}(l:Co (j2 x j))(c:aLK)(k:aIp):jt j (j2 x j):=⟨a D m kV p b3 g e3 ct (bj z l c),k⟩
universe z
theorem aQG{A:Around}{k:Nat}(a6:JT):J1:=fg (a09 (ay:1<=64) _) wt
section z
variable{X:Cx}
theorem pv(i:Nat){x:Str}{pos:Pos}(hN:cg ye)(d3:eA aov ahF)(hd:mi)(S:a8s):M (gV pos) (hq i):=aNR hN d3 hd S
universe z
theorem bjw{A B:Prop}(h:B):lt ah:=bB
theorem asn{A B:Prop}(h:A):lt ab:=bB
theorem fH{c A B:Prop} [Hz c](a3:c->A)(a9:¬c->B):if c then A else B:=ai
theorem adQ{c A B:Prop} [Hz c](b0:c)(h:B):lt (! cw c):=ag
def cZ(H L:Hp):Prop:=ht (H b) alA
theorem cZ.refl(H:Hp):cZ H H:=fun _ _ h=>h
theorem cZ.trans{H a8 b7:Hp}(a:cZ H a8)(b:cZ a8 b7):cZ H b7:=fun c o h=>b c o (a c o h)
theorem cZ.free{H L:Hp}(e:bQ){l:Addr}(h:L l=a2U):H l=a2U:=by cases q:H l with|none=>{rfl}|some o=>rw[m7 (e l o q)]
theorem cZ.seq{K:PySem.W.Frag}{H L:Hp}{a:Addr}{O:af}(e:bQ)(h:jj):fW K L a O:=q9 (e _ _ h) (e _ _ h)
section z
variable{c:Type} [wm c]
theorem aso:∀{l:bL c}{k:c},zA->¬k∈l->c8 (l++[k])|[],k,_,_=>aT|a::J,k,h,c3=>cu
universe z
theorem at_of{O:af}{z:Int}{j:Nat}{v:V}(e:z=v j)(h:anu):sB z:=t e (d_ h)
theorem Gd{I:Type}{l:ba}(hN:l.Nodup){i j:Nat}{x:I}(a:xQ)(b:Ew):i=j:=bg1
universe L2
namespace GM
abbrev Ln:=fB
theorem asp{a b x y z:Int}(a3:a+b*x<=0)(a9:a+b*z<=0)(S:gw)(c9:y<=z):a+b*y<=0:=by rcases aCj 0 b with U|U;rw[cc (VI c9 U) (j4 a9),cc (aCi U S) (j4 a3)]
theorem aQH{a b x y z v:Int}(a3:a+b*x<=0)(a9:a+b*z<=0)(e2:a+b*x<0\/a+b*z<0)(S:gw)(d3:y<v)(c9:v<=z):(a+b*y)+(a+b*v)<0:=by have b4:=gP y S (x (eX (a2c d3 c9)));have b9:=gP v (x (eX (Int.lt_of_le_of_lt S d3))) c9;rw[bs b U U U];{have:b*v<b*y:=aCk d3 U;exact se b4 b4 this};{rw[eo]};{have:b*y<b*v:=ahG d3 U;exact se b9 b9 this}
structure Arr where
 n:Nat
 lines:cJ
 k:eh
 u:eh
 X:Ln->Int->Int
noncomputable def top2(e f:Ln):Nat:=min e.2 f.2
noncomputable def iF(e f:Ln):Nat:=max e.1 f.1
structure Arr.Ok(R:Arr):Prop where
 lt:kv (Yn/\e.2<R.n)
 nd:R.lines.Nodup
 km:l i j (i<j) (j<R.n) (R.k i<R.k j)
 BM:kv (yQ (R.X e x))
 lo:kv (fd e.1=R.u e.1)
 hi:kv (fd e.2=R.u e.2)
 on:kv (pl (fd v) (R.u v))
 nc:kv (∀f∈gG,kG<ha->aK8->fd ha<=m4 ha)
structure mr(R:Arr)(e f:Ln):Prop where
 ov:kG<ha
 b:fd kG<=m4 kG
 t:fd ha<=m4 ha
 s:aK8\/fd ha<m4 ha
theorem Arr.Ok.kle{R:Arr}(Y:R.Ok){i j:Nat}(h:i<=j)(b8:j<R.n):R.k i<=R.k j:=by rw[eU (qT h),l (eX (Y.km i j h b8))];simp[*]
theorem Arr.Ok.diff{R:Arr}(Y:R.Ok){e f:Ln}(a0:lY)(W:ZQ):yQ (R.X e x-R.X f x):=by rw[ak b h (Y.BM e a0)];obtain⟨c,d,g⟩:=Y.BM f W;rw[aa (a-c) (b-d) Jk];rw[h,g];grind-abstractProof
theorem mr.le{R:Arr}(Y:R.Ok){e f:Ln}(a0:lY)(W:ZQ)(h:aaM){z:Int}(a3:P5<=z)(a9:z<=P6):R.X e z<=R.X f z:=by rw[ak b g aJP];have b4:=g P5;rw[g3 (g P6)];have e7:=g z;have:=asp (a:=a) (b:=b) (x:=P5) (z:=P6) (y:=z) baI baJ a3 a9;exact j4 e7.m
theorem mr.two{R:Arr}(Y:R.Ok){e f:Ln}(a0:lY)(W:ZQ)(h:aaM){y z:Int}(a3:P5<=y)(a9:y<z)(e2:z<=P6):R.X e y+R.X e z<R.X f y+R.X f z:=by have⟨a,b,g⟩:=aJP;have b4:=g P5;rw[g3 (g P6)];have e7:=g y;have g5:=g z;have:=aQH (a:=a) (b:=b) (x:=P5) (z:=P6) (y:=y) (v:=z) baI baJ (by have:=h.s;grind) a3 a9 e2;exact se e7.m this g5.m
theorem mr.asymm{R:Arr}{e f:Ln}(h:aaM)(g:mr R f e):cF:=by have a:iF f e=kG:=a2W _ _;have b:oZ f e=ha:=a2V _ _;have e2:=h.s;have g7:=g.b;have g8:=g.t;rw[eo]
theorem aQI{R:Arr}(Y:R.Ok){e f:Ln}(a0:lY)(W:ZQ)(h:e.1=f.1)(c6:fd ha<m4 ha):aaM:=by have le:=jg;rw[bJ (ee f W)];have U:kG=e.1:=by{delta iF;simp[*]};have b4:=wu e a0;rw[g3 (wu f W)];rw[<-h]at b9;rw[w ?_ ?_ (eX c6) (.inr c6)];{delta iF oZ;rw[h,Nat.max_self];exact aCl ⟨h▸le.1,m.1⟩};simp_all
theorem asq{R:Arr}(Y:R.Ok){e f:Ln}(a0:lY)(W:ZQ)(ov:kG<ha)(h:aK8):aaM:=d ov (eX h) (Y.nc e a0 f W ov h) AI
abbrev Row:=aO Ln Nat
noncomputable def dj:gO Row Nat|g,[]=>g|_,(_,g)::J=>dj g J
def hr(P:J6):au Nat Row|_,[]=>gC|g,(e,g')::J=>aJc/\hr P g' J
noncomputable def dv(g:Nat)(Z:Row):ao:=g::ahH eY
noncomputable def linesOf(Z:Row):cJ:=ahH fN
theorem oz:Iq (dj g (Z++d5)=dj JW d5)|[],d5,g=>rfl|(e,g')::Z,d5,g=>oz Z d5 g'
theorem oA{P:J6}:Iq (hr P g (Z++d5)↔fu P/\hr P JW d5)|[],d5,g=>eM hr dj|(e,g')::Z,d5,g=>by simp[hr,dj,oA Z d5 g',and_assoc]
theorem hr.mono{P Q:J6}:fZ (∀g e g',(e,g')∈Z->aJc->Q g e g') (fu P) Q|[],_,_,_=>fZ|(e,g')::Z,g,h,⟨a,b⟩=>⟨h g e g' bK a,b.mono (fun g7 b4 g8 m=>h g7 b4 g8 rA)⟩
theorem hr.adR{P:J6}:jC (fu P) (df pY (FX (P g7 e g8)))|[],_,_,e,h=>kp bH|(e,g')::Z,g,⟨a,b⟩,f,h=>by rw[jC bH];rcases h with rfl|⟨q,h⟩;rw[l (a g bK g' oo a)];{rw[vp (b.adR f (hF bH (iE q))),j g7 ?_ g8 ?_ h];{rw[O4]};{rw[O4]}}
theorem sr:∀(Z:Row)(g:Nat),JW∈dU Z|[],g=>aG0|(e,g')::Z,g=>by have:=sr Z g';simp[dj,dv]at this⊢;rw[eU this,co AZ];exact pd bG
theorem hr.swap{P:J6}{Z:Row}{g h:Nat}(q:j e g' aJc (P h e g'))(c:fu P):hr P h Z:=by cases Z with|nil=>{trivial}|cons a J=>exact⟨q _ _ c.1,c.2⟩
noncomputable def cR(i:dB):anE|[]=>0|e::J=>i e+dM J
theorem SM(i:dB){a b:cJ}(h:a.Perm b):dM a=dM b:=by induction h with|nil=>{rfl}|cons x _ d6=>{simp[cR,d6]}|swap x y l=>{simp[cR];simp+arith [*]}|trans _ _ a b=>exact a.trans b
def Wp(i:dB)(w:eh)(g:Nat)(e:Ln)(g':Nat):Prop:=w g=i e+w g'
theorem adS{i:dB}{w:eh}:∀{Z:Row}{g:Nat},Zf->w g=dM pY+w JW|[],g,_=>bx bH cR dj|(e,g')::Z,g,⟨a,b⟩=>by have:=adS b;delta Wp at a;simp[bH,cR,dj]at this⊢;simp+arith [*]
noncomputable def iG:i cJ Nat Nat Row|[],_,_=>[]|[e],_,J=>[(e,J)]|e::f::a7,c,J=>(e,c)::a'C
theorem mu:IB (bH Rb=N)|[],c,J=>rfl|[e],c,J=>rfl|e::f::a7,c,J=>by have:=mu EN (c+1) J;simp[iG,bH]at this⊢;exact this
theorem asr:DO (N≠[]->dj g Rb=J)|[],c,J,g,h=>aIB|[e],c,J,g,_=>rfl|e::f::a7,c,J,g,_=>by simp[iG,dj];exact asr EN (c+1) J c Rt
theorem ass:IB (aK Rb (x.2=J\/(c<=x.2/\x.2+1<c+iS)))|[],c,J,x,h=>kp iG|[e],c,J,x,h=>by{rw[jC iG];(constructor<;>(subst_vars;rfl))}|e::f::a7,c,J,x,h=>by rw[jC iG,aok];{simp};{rw[eU (ass EN (c+1) J x h),l AZ];grind-abstractProof}
theorem asu{i:dB}{w:eh}{d:Int}:DO (b (w J) d (w g=d+dM N) (ad j (j+1<iS) (w (c+j)=d+dM (N.drop (j+1)))) (N≠[]) (hr (Wp i w) g Rb))|[],c,J,g,_,_,_,h=>aIB|[e],c,J,g,a3,a9,_,_=>by{rw[l6 fZ];delta Wp;rw[a3,a9];simp[cR];simp+arith [*]}|e::f::a7,c,J,g,a3,a9,e2,_=>by have a:=e2 0 AN;simp at a;rw[l6 (asu EN (c+1) J c a3 a Ru Rt)];{delta Wp;rw[a,a9];simp[cR];simp+arith [*]};rw[i5 (e2 (j+1) (x (Vp b8)))]
structure Sw where
 row:Row
 cnt:Nat
 aP:cE
 side:amG
noncomputable def merge(aP:cE)(a b:Nat):cE:=ab (v kP FK aal kP)
noncomputable def mv:i Nat Row Ln (bZ fB)|_,[],_=>ae|g,(f,g')::J,e=>av (e=f) (g,g') (mv g' J e)
structure Step(R:Arr)(v:Nat)(s c1:Sw)where
 A:Row
 E:Row
 B:Row
 N:cJ
 row:o_=h1 E
 hA:h9 A (fd v<R.u v)
 hE:h9 E (e.2=v)
 hB:h9 B (R.u v<fd v)
 hN:eN N lY e.1
 sN:a8e
 bjx:c1.row=h1 a'U
 K5:ahI=ef+(iS-1)
 lab':HA=py hk (dj hk E)
 adT:M8=o3 hk a'U
def Kept(R:Arr)(i:dB):Prop:=E v (v<R.n) (dM (lO e.2)=dM (lO e.1))
def Sp(s:Sw)(g:Nat)(e:Ln)(g':Nat):Prop:=eM g=eM Y4/\eM g'=eM amt
structure Inv(R:Arr)(t:Nat)(s:Sw):Prop where
 mem:∀e,e∈tQ↔aGl
 dQ:eS tQ (mr R)
 pos:0<ef
 gap:∀g∈dv 0 o_,g<ef
 bjy:E x (x<ef) (eM x<ef)
 adU:E x (x<ef) (eM x<=x)
 K6:E x (x<ef) (eM (eM x)=eM x)
 last:eM (dj 0 o_)=0
 al:hr (Sp s) 0 o_
 aQJ:kv (jT->Y4<ef/\amt<ef)
 SN:E x (x<ef) (x=0\/fv gG (jT/\(Y4=x\/amt=x)))
 zero:0<t->(anK)->fv gG (e.1=0/\Y4=0)
universe GM
namespace GM
theorem hs(a b:Row):bH (a++b)=bH a++bH b:=ar bH
theorem asv:qT (e∉pY) (mv g Z e=ae)|[],_,_,_=>rfl|(f,g')::Z,g,e,h=>by rw[jC bH];simp[mv,h.1];exact asv (hF bH h.2)
theorem asw:jC (c8 pY) (fu (fun g7 e g8=>beH))|[],_,_=>fZ|(f,g')::Z,g,h=>by rw[jC bH,v (x cP) (bN (asw (Z:=Z) (g:=g') (hv bH h.2)) (fun g7 e g8 m q=>?_))];have:e≠f:=ah (h.1 g8 (q▸m));simp[mv,this];exact q
theorem asx:qT (e∈pY) (FX beH)|[],_,_,h=>kp bH|(f,g')::Z,g,e,h=>by rw[T e f,l (a g bK g' oo (x kR))];{have:e∈pY:=by{simp[bH]at h⊢;simp_all};rw[vp (asx (g:=g') this),j g7 ?_ g8 ?_ (bx mv q h)];{rw[O4]};{rw[O4]}}
theorem adV(aP:cE)(a b:Nat):ow a=ow b:=by delta s_;grind-abstractProof
theorem asy{aP:cE}{a b x:Nat}(h:kP=0):ow x=0:=by delta s_;split<;>simp_all
theorem aQK{aP:cE}{a b x y:Nat}(h:kP=aP y):ow x=ow y:=by delta s_;rw[h]
theorem SO{R:Arr}:k4 (pa (mr R)) zA:=fun{l}h=>h.imp (fun{a b}q e=>by rw[cb];exact q.asymm q)
theorem oB(g:Nat)(a b:Row):e7 (x∈dU (a++b)↔x∈dU a\/x∈dv (dj g a) b):=by intro x;simp only[dv,fh,hF,hD];have:E y (y=dj g a) (y=g\/y∈a.map eY):=fun y h=>by{have:=sr a g;rw[h];rw[oZ dv]};constructor;rw[cM];grind-abstractProof
variable{R:Arr}{t:Nat}{s c1:Sw}
theorem Step.asz(r:lu){x y:Nat}(S:x<ef)(b6:y<ef)(h:eM x=eM y):HA x=HA y:=by rw[pb];split;rw[l (aQK h),a_]
theorem Step.oC(r:lu):ef<=ahI:=t r.K5 xK
theorem Step.aQL(r:lu){e:Ln}(h:e.1≠t):M8 e=wy e:=by rw[r.adT];have:e∉bH aaI:=by{rw[mu];rw[fT];exact h (x (ta e) q).2};simp[asv this]
theorem Step.asA(r:lu):r.N.Nodup:=SO r.sN
theorem Step.aQM(r:lu)(I:yn):lS<ef:=by refine HB _ ?_;rw[tb,oB];exact ama
theorem Step.aQN(r:lu)(I:yn):lW<ef:=by refine HB _ ?_;rw[tb,oB,oB];exact .inr ama
theorem Step.adW(r:lu)(I:yn):∀g∈dv lS aaI,g<ahI:=by rw[du g];simp only[dv,hF,fK]at h;rw[cm amg,ca amh,cc r.oC];rcases h with rfl|⟨x,S,rfl⟩;rw[l pT];{rw[eU (ass _ _ _ x S),l (fg h.l (fJ b c)),Z r.K5 (cg h.2 (aS r.N.length 1))]}
theorem Step.aQO(r:lu){x:Nat}(h:ef<=x)(S:x<ahI):HA x=x:=by rw[pb];have:r.N≠[]:=by{rw[fT];have:=r.K5;rw[am q,uu];exact yv h S this.l};rw[tX,a9w]
theorem Step.Ge(r:lu):hr (fun g e g'=>M8 e=(g,g')) lS aaI:=by refine bN (asw (t mu r.asA)) (B9 ?_);rw[r.adT];simp[h]
theorem asB:∀(N:cJ)(c J j:Nat),j+1<iS->fv N ((e,c+j)∈Rb)|[],c,J,j,h=>ai|[e],c,J,j,h=>ai|e::f::a7,c,J,j,h=>by cases j with|zero=>{exact v e bK (x fx)}|succ j=>rw[aJ d3 m (asB EN (c+1) J j (x (a2X h))),ak d3 (x (ck bG))];simp[iG];grind-abstractProof
theorem asC{P:J6}:jC (fu P) (∀{e:Ln}{x:Nat},(e,x)∈Z->∃y,P y e x)|[],_,_,e,x,h=>ai|(f,g')::Z,g,⟨a,b⟩,e,x,h=>by rw[l_];rcases h with⟨rfl,rfl⟩|h;rw[cM,l (asC b h)]
theorem asD(Y:R.Ok)(c6:Qz)(I:yn)(r:lu):Inv R (t+1) c1:=by rw[bh7];have o:bH c1.row=aly++(r.N++alz):=by{rw[HE,hs,hs,mu]};rw[m6 i aly,m6 H AM,m6 j alz,c2 p aly (i e h) (r.hA e h),c2 u alz (j e h) (r.hB e h)];have dQ:=Na;rw[n]at dQ;rw[qV,qV]at dQ;obtain⟨c0,⟨sE,v,K⟩,L⟩:=dQ;have al:=I.al;rw[tb,oA,oA]at al;rw[dQ M C al];have X:=amg;have i7:=amh;have e9:=r.oC;have b3:=HB;rw[tb]at b3;have w:=bat;have N:=we (yM AI);rw[a__];have keep:∀{g:Nat}{e:Ln}{g':Nat},j lY jT (g<ef) (g'<ef) (Sp s g e g') (Sp c1 g e g'):=by{intro g e g' a0 a3 d8 E⟨d2,q2⟩;have sl:=HD e a0 a3;delta Sp;rw[HC aHl];exact⟨r.asz d8 sl.1 d2,r.asz E sl.2 q2⟩};have A:∀{Z:Row}{g:Nat},i (bk (dU Z) (x<ef)) (V e pY aGl) (fu (Sp s)) (fu (Sp c1)):=by{intro Z;induction Z with|nil=>{intros;trivial}|cons a J d6=>intro g d8 a0 b0;rw[fL g' a,bJ (a0 e bK),v (er m.1 Au (d8 g bK) (d8 g' oo) b0.1) (d6 (aJ (d8 x ?_)) (aJ (a0 x ?_)) b0.2)];{simp[dv]at S⊢;exact .inr bG};{simp[bH]at S⊢;exact .inr S}};rw[Cv baO];{intro e;rw[o];simp only[hD];constructor;{rintro(h|h|h);rw[cx (i e h).1 (wk (aV (i e h))) (p e h)];{rw[cm (x (ta e) h)];have:=ee e a.1;exact v a.1 ag (fG a.2.g ew)};exact v (j e h).1 (wk (aV (j e h))) (u e h)};{rw[aLs,T e.1 t,co (.inl (ae (ta e) ⟨a3,q⟩))];{have:=ae iv (v a3 (cx a9 q) dW);rw[am n,px hD,A5 this,Fs];{have:=r.hE e h;rw[eo]};rw[co (.inr bG)]}}};{rw[o,qV,qV];rw[aa c0 (v r.sN v (fun f W e a0=>?_)) (fun e a0 f W=>?_)];{rw[a'c,ca (j e a0),cc (u e a0)];have d:=ee f a.1;rw[o2 (iF f e) (VJ (ez b.2.1))];refine asq Y a.1 b.1 (t U (aCl ⟨a.2▸d.1,c⟩)) ?_;rw[U,<-a.2,wu f a.1,a.2];exact r.hB e a0};{simp only[hD]at W;rcases W with W|W;{rw[a'c,ca (i e a0),cc (p e a0)];have d:=ee f a.1;rw[o2 kG (HF (ez b.2.1))];refine asq Y b.1 a.1 (t U (aCl ⟨c,a.2▸d.1⟩)) ?_;rw[U];have:=wu f a.1;rw[am a.2];rw[this];exact r.hA e a0};rw[a_]}};rw[l (cg e9 X)];{rw[du g];rw[HE,oB,oB]at h;rw[A5 h,l (fJ (w g h) e9),l (r.adW I g h)];{rw[T r.N []];{rw[aj q];simp only[iG,dj,dv,hF]at h;rw[eU h,l (fg h.l (fJ X e9)),cc (l g (by simp only[dv,hF];exact .inr h)) pT]};{rw[aj RM];have:=l g h;exact cp this e9}}};{intro x S;rw[an'];{rw[fL (M_ x b0)];rw[pb];split;{rw[eq (M_ _ X)];have e2:=M_ _ i7;delta s_;rw[a8u]};rw[EX]};rw[Z aLt S]};{intro x S;rw[an'];{rw[fL (I.adU x b0)];rw[pb];split;{delta s_;rw[a8u]};rw[a_]};rw[Z aLt aY]};{intro x S;rw[an'];{rw[fL (I.K6 x b0)];rw[pb];split;{delta s_;rw[T (eM x) a_i];{rw[aIR,cZ (M9 (eM lS) (eM lW))];{rw[qU z,(I.K6 _ X)];rw[am4]};{rw[Dj z,(I.K6 _ i7)];rw[am4]}};rw[a_]};rw[a_]};{have:=aLt;rw[this,this]}};{rw[f7 I.last];rw[tb,oz,oz]at a5;rw[HE,oz,oz];rw[aJ'];{rw[pb,aK q,q];rw[aox];cases hB:r.B with|nil=>{rw[an8,aoa,J adV (asy a5)]}|cons a J=>rw[f2 g a,an8,aoa];exact asy a5};{rw[RM,pb,bj q];have:=l _ (sr r.B _);simp[this,a5]}};{rw[HE,oA,oA];rw[ak (A w i B) (r.Ge.mono (B9 ?_))];{delta Sp;rw[h];exact xJ};{have base:=A l j C;rw[T r.N []];{rw[q];rw[aox];refine base.swap (fun e g' h=>l2 h.2);rw[<-h.1,pb,aK q];exact adV _ _ _};rw[Z RM aj]}};{intro e a0 a3;rw[T e.1 t];{rw[z m (e∈bH aaI) mu a8V,vp (asx (g:=lS) m)];have b4:M8 e=(g7,g8):=by{rw[r.adT];simp[h]};rw[b4];exact⟨r.adW I _ g9,r.adW I _ e1⟩};{rw[HC q];have:=HD e a0 bM;rw[Fn]}};{intro x S;rw[an'];{rcases I.SN x b0 with h|⟨e,a0,a3,a9⟩;rw[l AZ,co (d e a0 Ji (t (HC aHl) a9))]};{rw[aJ e m (asB r.N ef lW (x-ef) (bv r.K5 (Nat.add_lt_of_lt_sub (Nat.sub_lt_left_of_lt_add (zj b0) (this▸S))))),cR (show ef+(x-ef)=x by simp_all)];obtain⟨y,b6⟩:=asC r.Ge q;rw[cm (x (ta e) m)];exact bj e a.1 ag (.inr (iQ b6))}};{intro _ b1;rw[T t 0];{rw[fa,gy a3 b1];have D:=ae (ta e) ⟨a0,a3⟩;have F:r.A=[]:=by{cases hA:r.A with|nil=>{rfl}|cons a J=>have:=i a.1 (ms hA bH);simp_all};cases hN:r.N with|nil=>{rw[zH hN]}|cons f G=>have k:=x (ta f) ag;rw[b2 f k.1 k.2,cc r.Ge];rw[hN,F]at c;cases G with|nil=>{rw[bgh]}|cons h3 G=>rw[bgh]};{obtain⟨e,a0,a3,a9⟩:=I.zero amv b1;exact d e a0 a3 (t (HC fq) a9)}}
theorem asE(R:Arr):Inv R 0 aL1:=by rw[Cv baO]<;>simp[bH,dv,dj,hr]
universe GM
namespace GM
variable{R:Arr}
theorem hr.SQ{i:dB}{w c5:eh}:fZ (bk (dU Z) (c5 x=w x)) Zf (Wp i c5)|[],_,_,_=>fZ|(e,g')::Z,g,h,⟨a,b⟩=>by rw[l6 (b.SQ (aJ (h x ?_)))];{delta Wp at a⊢;rw[h g bK,h g' oo];exact a};{rw[O4]}
theorem hr.and{P Q:J6}:fZ (fu P) (fu Q) (fun a e b=>P a e b/\Q a e b)|[],_,_,_=>fZ|(e,g')::Z,g,⟨a,b⟩,⟨c,d⟩=>⟨⟨a,c⟩,b.and d⟩
structure Run(R:Arr)where
 st:dg Sw
 zero:st 0=aL1
 step:E t Qz (aCm R t (st t) (st (t+1)))
theorem Run.inv(J:kf)(Y:R.Ok):x8 (Inv R t (VL t))|0,_=>t J.zero (asE R)|t+1,h=>asD Y h aI9 (Nb t h)
theorem Run.oC(J:kf):∀{t t':Nat},t<=t'->t'<=R.n->E7<=(cA t').cnt:=by intro t t' h h';induction t' with|zero=>{simp_all}|succ m d6=>rw[T t (m+1),a_,kw (Nb m bB).oC]
theorem Step.asF{t:Nat}{s c1:Sw}(r:lu)(Y:R.Ok)(I:yn)(e:Ln):e∈AM↔lY/\e.2=t:=by rw[bh7];constructor;{rw[eF];have:=x iv ag;exact⟨ew,r.hE e h⟩};{rintro⟨a3,a9⟩;rw[cd (ee e a3)];have:=ae iv (v a3 (bV l.1 a9.l) (x a9.g));rw[am n,px hD];have hi:=wz e a3;rw[a9]at hi;rw[A5 this,nN (r.hA e h),l h,nN (r.hB e h)]}
theorem Step.asG{t:Nat}{s c1:Sw}(r:lu)(I:yn):eS AM (mr R):=by have dQ:=Na;rw[tb,hs,hs,qV,qV]at dQ;exact dQ.2.1.1
theorem Step.asH{t:Nat}{s c1:Sw}(r:lu)(Y:R.Ok)(I:yn):eN AM (ahJ (an (e.2==t))):=ol (HG (SO (r.asG I)) (VM _)) aLu
theorem Step.aQP{t:Nat}{s c1:Sw}(r:lu)(Y:R.Ok):r.N.Perm (ahJ (an (e.1==t))):=ol (HG r.asA (VM _)) (ta e)
structure Flow(R:Arr)(J:kf)(i:dB)(t:Nat)(w:eh):Prop where
 zero:w 0=0
 Gf:f x y ana (y<E7) (gC x=gC y) (w x=w y)
 Gg:zw (hr (Wp i w) 0 aH6)
 last:zw (w (dj 0 aH6)=0)
 side:kv (jT->w ((cA t).side e).1=i e+w ((cA t).side e).2)
theorem mm{a b c:Nat}(h:c=max a b\/c=aak):c=a\/c=b:=ca (M9 a b) (ci (mL (.inr (ahK (HF k))) (.inl (ahK (qU k))))) (ci (mL (.inl (ahK (VJ k))) (.inr (ahK (Dj k)))))
theorem adX(Y:R.Ok)(J:kf){i:dB}(K:Nc R i):x8 (∃w,a'L)|0,_=>by{rw[o nk rfl (my rfl) a86 ry (fun e _ h=>ai)];have:t'=0:=ai;rw[gp];rw[J.zero];trivial}|t+1,c6=>by rw[j9 F (adX Y J K t dW),ei (pd Y t dW)];have r:=Nb t c6;have X:=amg;have i7:=amh;rw[cc (F.Gg t aY)];rw[tb,oA,oA]at c;rw[bJ p e6 c];have k:=adS p;have eq:dM AM=dM r.N:=by{rw[SM i (r.asH Y I),SM i (r.aQP Y)];exact K t c6};have b3:=HB;rw[tb]at b3;rw[a__];let c5:eh:=ee ana (w x) (w lW+dM (r.N.drop (x-E7+1)));have d:E x ana (c5 x=w x):=fun x h=>cu;have a7:zw (∀g∈dv 0 aH6,c5 g=w g):=fun t' h g m=>by{rw[cm ((pd Y t' (ig (fg h c6))).gap g m),ca (J.oC h dW)];exact d g aKf};have u7:r.N≠[]->hr (Wp i c5) lS (iG r.N E7 lW):=ah (by refine asu (d:=w lW) _ _ _ _ (d _ i7) ?_ Ru q;{simp+arith [*]};grind-abstractProof);rw[dv c5 ?_ Pj,Z (d 0 VN) ahM];{intro x y S b6 h;rw[T r.N []];{have b0:(cA (t+1)).cnt=E7:=by{rw[r.K5,q];exact HH _};rw[b0]at S b6;rw[d x S,d y b6];rw[pb,aK q]at h;rw[q]at eq;have c0:w lS=w lW:=by{rw[k,eq];simp[cR]};have O:o z (z<E7) (gC z=max (gC lS) (gC lW)\/gC z=min (gC lS) (gC lW)) (w z=w lS):=by{rw[bZ z c9];have:gC z=gC lS\/gC z=gC lW:=mm h;rw[eU this,l (lG c9 X),Z c0 (lG c9 i7)]};rw[a4 s_,eJ,cM];{next a3=>rw[eJ,cM,l (lG S b6)]}};{rw[pb,bj q]at h;by_cases j0:ana;{have:=M_ x j0;by_cases u:y<E7;{simp only[j0,u,mL]at h;rw[d x j0,d y u];exact lG j0 u};simp_all};{by_cases u:y<E7;rw[nN (M_ y u)];simp_all}}};{rw[du t',T t' (t+1)];{rw[fa];rw[HE,oA,oA];rw[ak (o.SQ (aJ (d x ((bat) x S)))) ?_];{rw[T r.N []];{rw[q];trivial};rw[a_]};{have n:=e6.SQ (aJ (d x (l x S)));rw[T r.N []];{rw[q];rw[aox];refine n.swap (fun e g' h=>?_);rw[q]at eq;delta Wp at h⊢;rw[<-h,d _ X,d _ i7,k,eq];simp[cR]};rw[Z RM n]}};rw[l ((F.Gg t' fq).SQ (aJ (a7 t' fq x S)))]};{rw[du t',T t' (t+1)];{rw[fa,f7 (ahL t aY)];rw[tb,oz,oz]at a5;rw[HE,oz,oz];rw[aJ'];{rw[q];rw[aox];cases hB:r.B with|nil=>{rw[an8,aoa];rw[q]at eq;rw[d _ X,k,eq,a5];rfl}|cons a b=>rw[f2 g a,an8,aoa];rw[d _ (l _ ?_)]at⊢;rw[cY];{rw[hB];have:=sr ((f,g)::b) lW;rw[oZ dj]}};rw[dr RM (d _ (l _ (sr _ _))) a5]};rw[Z (a7 t' fq _ (sr _ _)) (ahL t' fq)]};{intro e a0 a3;rw[T e.1 t];{rw[bJ a8V];obtain⟨g7,_,g8,_,a3,a9⟩:=(((u7 cu).and r.Ge).adR e (t mu m));rw[J a9 a3]};{rw[HC q];have:=HD e a0 (cx a3 q);rw[d _ ew,d _ fp];exact F.side e a0 (cx a3 q)}}
def DC(aP:cE):dL nL Nat|c,[],J=>c=J|c,(d,a)::l,J=>c=aP d/\DC aP (aP a) l J
theorem asI{aP:cE}{l m:nL}{c J:Nat}(h:z x (DC aP c l x) (DC aP x m J)):DC aP c (l++m) J:=by rw[cA x h g];induction l generalizing c with|nil=>{rw[sQ g]}|cons a l i=>exact⟨h.1,i h.2⟩
theorem asJ{aP:cE}:BF (aJh->DC aP J (aCo (ab (x.2,x.1))) c)|[],c,J,h=>x E5|(d,a)::l,c,J,⟨a3,a9⟩=>H3 (asI (as (asJ a9) rfl a3.symm))
theorem SR{aP:cE}:BF (aJh->E i (i<ec) ((i=0->z x xQ (c=aP x.1))/\ad x xQ ((E y (K l (i+1) y) (aP x.2=aP y.1))/\(i+1=ec->aP x.2=J))))|[],c,J,h,i,hi=>ai|(d,a)::l,c,J,⟨a3,a9⟩,i,hi=>by cases i with|zero=>{rw[y1 (as (v (d,a) (x a2Y) a3)),P2];subst S;rw[v Q8 Y7];{simp at b6;obtain⟨⟨z,c9,b0⟩,_⟩:=And.intro ((SR a9 0 cu).1 rfl) fZ;rw[c9]at b6;simp_all};{have:l=[]:=ai;rw[gp];exact a9}}|succ i=>rw[y1 (da bB)];simp at S hi;have:=(SR a9 i hi).2 x S;rw[eo]
noncomputable def BN(side:amG)(E N:cJ):nL:=(aCp (an ((HI e).2,(HI e).1)))++N.map (an ((HI e).1,(HI e).2))
structure adY(R:Arr)(v:Nat)(s:Sw)(E N:cJ):Prop where
 mE:eN E lY e.2
 sE:E.Pairwise (mr R)
 mN:eN N lY e.1
 sN:a8e
 dc:∃c,DC eM c aIL c
theorem adZ{s:Sw}:jC (fu (Sp s)) (DC eM (eM g) (B pY wy) (eM JW))|[],g,_=>rfl|(e,g')::Z,g,⟨a,b⟩=>by rw[dJ a.1];rw[<-a.2];exact adZ b
theorem ad0{aP lab':cE}(f:cE):BF (bk l (lab' x.1=f (aP x.1)/\lab' x.2=f (aP x.2))->aJh->DC lab' (f c) l (f J))|[],c,J,_,h=>a8p|(d,a)::l,c,J,q,⟨a3,a9⟩=>by have:=q (d,a) bK;rw[dJ ag,J fp (ad0 f (aJ (q x rA)) a9)]
theorem Step.asK{t:Nat}{s c1:Sw}(r:lu)(I:yn):∃f:cE,E x (x<ef) (HA x=f (eM x)):=by rw[aJ'];{rw[v (e9 (v y a_i (min (eM lS) (eM lW)) y)) (fun x _=>?_)];rw[pb,aK q];rfl};{rw[y1 (e9 y)];rw[pb,bj q];exact kR}
theorem aQQ{t:Nat}{s c1:Sw}(Y:R.Ok)(c6:Qz)(I:yn)(r:lu):adY R t c1 AM r.N:=by rw[j (r.asF Y I) (r.asG I) ta r.sN (au (HA lW))];have al:=I.al;rw[tb,oA,oA]at al;rw[f2 W (r.asK I)];have c7:=ad0 (lab':=HA) f (aJ (by simp only[fK]at S;rw[bC e a0 S,jD aLu,cd Yo];have:=HD e m.1 (bV l.1 m.2.l);simp[*])) (adZ al.2.1);rw[<-W _ amg,<-W _ amh]at c7;rw[eq (asJ c7)];have b4:(B AM wy).reverse.map (ab (x.2,x.1))=(AM).reverse.map (an ((M8 e).2,(M8 e).1)):=by{rw[<-List.map_reverse,jy];rw[j0 oa,bJ (x aLu ai),cd Yo];rw[HC (f0 (yv z.g l.1 m.2.l))];rfl};rw[b4]at a9;refine asI (js a9);rw[T r.N []];{rw[q];rw[pb,aK q];exact adV _ _ _};{have c:hr (Sp c1) lS aaI:=r.Ge.mono (B9 (su Sp));have:=adZ c;rw[bY mu RM];exact this}
theorem asL(Y:R.Ok)(J:kf):x8 (E v (v<t) (∃E N,adY R v (VL t) E N))|0,_,v,h=>ai|t+1,c6,v,h=>by have I:=aI9;have r:=Nb t c6;rw[T v t];{rw[fa];exact av _ (aQQ Y c6 I r)};{obtain⟨E,N,C⟩:=asL Y J t dW v (cx h q);rw[db d C.dc,f2 W (r.asK I),e E N VP C.sE VO C.sN (f c) ?_,ak hE E (lY/\jT) (by rw[am6];have:=Yo;rw[eo]),ak hN N (lY/\jT) (by rw[am7,xr])];have f5:BN (cA (t+1)).side E N=BN (cA t).side E N:=by{delta BN;rw[dZ,GV (hE e ai),GV (hN e a0)]};rw[f5];refine ad0 f qq d;unfold BN at S;rw[beu];rcases S with⟨e,a0,rfl⟩|⟨e,a0,rfl⟩;rw[Is (hE e a0),Is (hN e a0)]}
universe GM
namespace GM
variable{R:Arr}
noncomputable def Gh(i c:dB):anE|[]=>0|e::J=>i e*c e+m8 J
theorem ad1{i c:dB}{w:eh}:KF (j Zf (w JW=0) (bk (dU Z) ald) (hz pY Yy) a9H (w g*y<=m8 pY))|[],g,y,_,a5,_,_,_=>by{simp[dj]at a5;simp[a5,Gh,bH]}|(e,g')::J,g,y,⟨e5,e6⟩,a5,hw,c2,b6=>by have a3:hz (bH J) Yy/\a'3:=by{rw[be'];grind-abstractProof};rw[dC (ad1 (y:=c e) e6 a5 baE a3.1 bav)];delta Wp at e5;rw[baL,bgp];rw[b9,b4];rw[c4 e7 a'I bfH,bf5];exact se g5 e7.n d6
theorem asM{i c:dB}{w:eh}:KF (c Zf (w JW=0) (bk (dU Z) ald) (hz pY Yy) (a9H->(∃p∈Z,0<w p.2)->w g*y<m8 pY))|[],g,y,_,a5,_,_,_,⟨p,c2,_⟩=>ai|(e,g')::J,g,y,⟨e5,e6⟩,a5,hw,c2,b6,⟨p,b3,C⟩=>by have a3:hz (bH J) Yy/\a'3:=by{rw[be'];grind};have a:aK (dv g' J) ald:=baE;delta Wp at e5;rw[baL,bgp];rw[b9,b4];rw[bL e7 a'I bfH,bf5];simp at b3;have O:w g'*c e<m8 (bH J):=by{rw[de b3 b3];{cases J with|nil=>{simp[dj]at a5;simp at C;simp_all}|cons q r2=>rw[f2 g8 q,dC (ad1 (y:=c f) e6 a5 a a3.1 (fun I t=>by simp[bH]at t;rw[de t t];{simp};{have:=a3.1;rw[jy pe this];grind}))];have:w g'*c e<w g'*c f:=ahG (a3.2 f bK) C;exact aA7 bG bG};rw[l (asM (y:=c e) e6 a5 a a3.1 bav (v p b3 C))]};exact se g5 e7.n O
noncomputable def qE(R:Arr)(t:Nat)(e:Ln):Int:=fd (t-1)+fd t
noncomputable def BO(R:Arr)(t:Nat):Int:=R.k t-R.k (t-1)
noncomputable def vg(R:Arr)(i:dB)(t:Nat)(e:Ln):Int:=mo (jT/\I2) a9n
noncomputable def jr(f:eh):eh|0=>0|n+1=>anr+f n
theorem ad2(f:gO Ln Int)(l:cJ):∀n,jr (mQ (cR (f t) l)) n=ct (jr (mQ (f t e)) n) l|0=>by{simp only[jr];induction l with|nil=>{rfl}|cons a J d6=>simp[cR,<-d6]}|n+1=>by simp only[jr,ad2 f l n];induction l with|nil=>{rfl}|cons a J d6=>simp[cR,<-d6];lia-abstractProof
theorem BP{i a:dB}:dz (V e l (i e=a e)) (dM l) (cR a l)|[],_=>rfl|e::J,h=>by have:=BP (i:=i) (a:=a) (l:=J) anY;simp[cR,h e bK,this]
theorem Gi{i:dB}{p:Ln->cf}:l9 (dM (zB p)=ct (o7 (p e)) l)|[]=>rfl|e::J=>by rw[bC h (p e)];{simp[h,cR,Gi J]};{simp[h,cR,Gi J]}
theorem asO(Y:R.Ok){i:dB}{e:Ln}(a0:lY):E m (m<=R.n) (jr (mQ (vg R i t e)) m=if m<=gj then 0 else i e*(fd e.1+fd (nF (m-1)))*(R.k (nF (m-1))-R.k e.1))|0,_=>bI|m+1,h=>by have l:=jg;rw[ak b g (Y.BM e a0)];simp only[jr,(asO (i:=i) Y a0 m dW)];by_cases a3:m+1<=gj;{rw[bL a9 m gj (ez bG),mq e2 (¬(e.1<m/\m<=e.2))];simp[a3,a9,vg,e2]};{by_cases e5:m<=e.2;{have f:e.1<m/\m<=e.2:=by{rw[xq]};rw[aC b3 (nF (m+1-1)) m kR];by_cases a9:m<=gj;{simp only[a3,a9,vg,f,b3,qE,BO,(eP),mL,iU,and_self];grind-abstractProof};{simp only[a3,a9,vg,f,b3,(eP),qE,BO,mL,iU,and_self,g];lia-abstractProof}};{rw[aC b3 (nF (m+1-1)) e.2 (DB (m+1)),aC k (nF (m-1)) e.2 (DB m)];simp only[a3,(eP),vg,(eP),b3,k,iU];rw[xr]}}
noncomputable def SS(R:Arr)(i:dB)(e:Ln):Int:=i e*((R.u e.1+R.u e.2)*(R.k e.2-R.k e.1))
theorem asP(Y:R.Ok)(i:dB):nW i=jr (mQ aL0) R.n:=by rw[ad2];refine BP oa;rw[cd jg];rw[asO Y a0 R.n aY];by_cases h:R.n<=gj;rw[Ju];{rw[aC b3 (nF (R.n-1)) e.2 (Dj (cg l.2 (aS R.n 1)))];rw[bj h,b3,wu e a0,wz e a0];delta SS;grind-abstractProof}
theorem asQ{f:eh}:E n bdb (0<=anr)|0,_=>ar jr|n+1,h=>by have:=bbq;have:=aJI;simp only[jr];lia-abstractProof
theorem asR{f:eh}:o n bdb (z t (t<n) (0<f t)) (0<anr)|0,_,⟨t,h,_⟩=>ai|n+1,h,⟨t,a3,a9⟩=>by have a:=bbq;rw[ca aJI];simp only[jr];rw[T t n];{rw[fU]};rw[cc (asR n (fk (h t Ji)) (v t (cx a3 q) a9)) (a2Z this b)]
theorem asS(Y:R.Ok)(J:kf)(i:dB){t:Nat}(c6:Qz):aL0=Dx aoF:=by have I:=aI9;have p:eN aoF (ahJ (an (cw (jT/\I2)))):=by{rw[HG (SO Na) (VM _)];intro e;rw[iv];simp};have a3:l9 (Dx l=ct a9n l):=by{rw[rK];induction l with|nil=>{simp[Gh,cR]}|cons a b d6=>simp[Gh,cR,<-d6];grind-abstractProof};rw[a3,SM _ p,Gi];refine BP aHI;delta vg;simp
theorem ad3(Y:R.Ok){t:Nat}{s:Sw}(I:yn)(c6:Qz)(b1:0<t):hz tQ (qE R t e<qE R t f):=by refine vJ Na;rw[vj h,cm (x iv a0),a'b];delta qE;rw[bJ (ee f b.1)];refine h.two Y a.1 b.1 (ahP ?_ ?_) (Y.km _ _ (x (aR b1)) c6) (ahP ?_ ?_);{delta iF;exact Nat.max_le.mpr ⟨VG a.2.1,VG b.2.1⟩};rw[l (fg (qR t 1) c6)];{rw[Jh];exact a20 ⟨cV a.2.2,cV b.2.2⟩};{rw[Jh];exact fg (oU ahO ahN) m.2}
theorem aQR(Y:R.Ok)(J:kf){i:dB}{w:eh}(F:mp i)(hw:aKy){t:Nat}(c6:Qz):0<=aL0:=by rw[asS Y J i c6];rw[d7 b1 t];{subst b1;rw[J.zero];simp[bH,Gh]};{rw[ei (pd Y t dW),cc (ad1 (c:=qE R t) (y:=(B aoF (qE R t)).head?.getD 0) (F.Gg t dW) (ahL t (ig c6)) (Ku t) (ad3 Y I c6 amv) (by rw[f5 (ad3 Y I c6 amv),HO aoF]))];rw[ahM]at c;exact tc (x (r_ c)) (by delta BO;have:=Y.km (t-1) t fq c6;exact r_ this)}
theorem aQS(Y:R.Ok)(J:kf){i:dB}{w:eh}(F:mp i)(hw:aKy):0<=nW i:=t (asP Y) (asQ _ (fk bgP))
theorem Run.aQT(J:kf)(Y:R.Ok){e:Ln}(a0:lY):((cA gj).side e).1∈dv 0 ZK/\((cA gj).side e).2∈dv 0 ZK:=by have l:=jg;have r:=Nb e.1 ZX;rw[vp (r.Ge.adR e (t mu (ae (ta e) (dw a0))))];rw[h,HE];exact⟨yM (.inl g9),yM (.inl e1)⟩
theorem Run.asT(J:kf){e:Ln}:∀{t:Nat},jT->t<=R.n->(cA t).side e=(cA gj).side e|0,h,_=>ai|t+1,h,c6=>by rw[T e.1 t];{(subst_vars;rfl)};rw[Z ((Nb t c6).aQL q) (J.asT (cx h q) dW)]
theorem aQU(Y:R.Ok)(J:kf){i:dB}{w:eh}(F:mp i)(hw:aKy)(S:fv gG (0<w ((Ai).side e).1\/0<w ((Ai).side e).2)):0<nW i:=by rw[asP Y];refine asR _ (fk bgP) ?_;rw[gy h S,cd jg,ak gj (fG l.1 l.2),aO c6 gj R.n (fg l.1 l.2),ei (pd Y gj dW)];rw[asS Y J i c6];rw[aj (J.asT dW aY)];have g:=J.aQT Y a0;rw[f5 (ad3 Y I c6 pZ),cc (asM (c:=qE R gj) (y:=(B (bH ZK) (qE R gj)).head?.getD 0) (F.Gg gj dW) (ahL gj (ig c6)) (Ku gj) d1 (by rw[HO (bH ZK)]) (by have:∃x∈dv 0 ZK,0<w x:=cu;rw[lm c2 this];simp only[dv,hF,fK]at S;rcases S with rfl|⟨p,m,rfl⟩;rw[nN ahM];grind-abstractProof))];rw[ahM]at c;exact hH ai (by delta BO;have:=Y.km (gj-1) gj aT c6;simp_all)
universe GM
namespace GM
variable{R:Arr}
noncomputable def rv(h:Ln):Ln:=(h.2,h.1)
def oD(R:Arr)(h:Ln):Prop:=h∈gG\/hj∈gG
theorem ad4(h:Ln):rv hj=h:=rfl
theorem oD.rv{h:Ln}(H:dG):cs hj:=H.symm
theorem oD.ne(Y:R.Ok){h:Ln}(H:dG):h.1≠h.2:=by rw[Km,cc (ee _ H) (J (gx z.g ew))];{have:=ee _ H;rw[hH ahQ];exact J (gx z.l ew)}
theorem oD.yI(Y:R.Ok){h:Ln}(H:dG):h.1<R.n:=by rw[Km,cc (ee _ H) (ju ew fp)];{have:=ee _ H;rw[hH ahQ];simp[*]}
theorem oD.BQ(Y:R.Ok){h:Ln}(H:dG):h.2<R.n:=H.rv.yI Y
theorem oD.up(Y:R.Ok){h:Ln}(H:dG)(l:h.1<h.2):h∈gG:=by rw[Km,l H];{have:=ee _ H;rw[hH ahQ];lia-abstractProof}
theorem oD.dn(Y:R.Ok){h:Ln}(H:dG)(l:h.2<h.1):ahQ h∈gG:=by rw[Km,kw (ee _ H),l H]
noncomputable def sd(side:amG)(h:Ln):Nat:=if h.1<h.2 then(HI h).1 else(HI hj).2
noncomputable def ind(p:Prop) [Hz p]:Int:=mo p 1
noncomputable def BR(h e:Ln):Int:=Aq-Ar
noncomputable def fl:cJ->Ln->Int|[],_=>0|h::l,e=>O5+em l
def Walk:dL cJ Nat|a,[],b=>a=b|a,h::l,b=>h.1=a/\td h.2 l b
theorem aQV:∀{l m:cJ}{a b:Nat},td a (l++m) b↔z x (td a l x) (td x m b)|[],m,a,b=>ar td|h::l,m,a,b=>by simp only[ahw,td,aQV (l:=l)];grind-abstractProof
theorem kq(i a:dB):l9 (ct (i e+a e) l=dM l+cR a l)|[]=>rfl|e::J=>Du (kq i a J)
theorem BS(i:dB):l9 (ct (-i e) l= -dM l)|[]=>rfl|e::J=>Du (BS i J)
theorem Gj:l9 (cR nk l=0)|[]=>rfl|e::J=>eM cR (Gj J)
theorem K7(h:Ln):dz zA (ct Aq l) (ind (h∈l))|[],_=>bI|e::J,nd=>by have n2:=AL;simp only[cR,(K7 h n2.2)];rw[T h e];{rw[fa];simp[ind,n2.1]};{simp[ind,q]}
theorem ad5(h:Ln){l:cJ}(nd:l.Nodup):ct Ar l=ind (hj∈l):=by rw[<-K7 hj nd];refine BP aHI;delta ind rv;grind
theorem aQW(Y:R.Ok){h:Ln}(H:dG)(v:Nat):sM (lO e.2)-sM (lO e.1)=ind (h.2=v)-ind (h.1=v):=by have O:dz zA (cR (BR h) l) (ind (h∈l)-ind (hj∈l)):=fun{l}nd=>by{rw[a_n];show ct (Aq-Ar) l=_;rw[aLX];rw[this,kq,BS];rfl};rw[O (VM _),O (VM _)];rw[u5 (H.ne Y)];{have e1:hj∉gG:=ah (l6 (ee _ q) (gx l ew));simp[ind,(H.up Y l),e1]};{have e1:h∉gG:=ah (bv (ee _ q) (gx l ew));have j5:(h.2,h.1)∈gG:=(H.dn Y l);simp[ind,e1,rv,j5];simp+arith [*]}
theorem asU(Y:R.Ok)(v:Nat):tr (an5->V h l dG->cR (fl l) (lO e.2)-cR (fl l) (lO e.1)=ind (b=v)-ind (a=v))|[],a,b,h,_=>by{rw[cI];have:fl []=nk:=bI;rw[this,Gj,Gj];simp}|h::l,a,b,⟨a3,a9⟩,H=>by have d6:=asU Y v a9 aKb;have b4:=aQW Y (H h bK) v;rw[aKV];rw[this,kq,kq]at⊢;rw[eo]
theorem ad6(Y:R.Ok){l:cJ}{a:Nat}(W:td a l a)(H:∀h∈l,dG):Nc R (fl l):=fun v _=>bv (asU Y v W H) (RW this)
theorem asV:k4 zA (∀e,em l=ind (e∈l)-ind (rv e∈l))|[],_,e=>bI|h::l,nd,e=>by have n2:=AL;simp only[fl,(asV n2.2 e),BR];have e0:ind (e∈h::l)=Aq+ind (e∈l):=by{delta ind;grind};have g0:ind (rv e∈h::l)=Ar+ind (rv e∈l):=by{delta ind;grind};rw[e0,g0];simp+arith [*]
noncomputable def Run.lb(J:kf)(h:Ln):Nat:=(Ai).aP alF
structure Mp(R:Arr)(J:kf)(F:Fl):Prop where
 rot:qJ (∃a5:ao,a5.Nodup/\(e7 (x∈a5↔cs JM))/\aP i x (fi a5->z y (K a5 (jc%aCq) y) (F (x,v)=(v,y))))
 aP:E h dG (wA (F h)=og)
variable{J:kf}{F:Fl}
theorem Mp.half(d5:iD)(Y:R.Ok){h:Ln}(H:dG):cs (F h)/\(F h).1=h.2:=by rw[np h.2 (H.BQ Y),ic (h_ h.1 H.rv),ie b9 (nx i h.1 ag)];have e7:F h=(h.2,y):=b9;rw[J e7 (dw (x (mem y) (bO b6)))]
theorem aQY{n i j:Nat}(hi:i<n)(b8:j<n)(h:jc%n=(j+1)%n):i=j:=by rw[N a (i+1) n];{rw[N b (j+1) n,l (aQ2 a b.symm)];{rw[a,ahR,bay]at h;trivial}};{rw[N b (j+1) n];{rw[b,ahR,bd6]at h;trivial};{rw[bd6,bay]at h;simp_all}}
theorem asW{l:ao}(nd:l.Nodup){i j:Nat}{x:Nat}(hi:xQ)(b8:Ew):i=j:=x (x (aCr bz nd) (hi.trans b8.symm))
theorem Mp.inj(d5:iD)(Y:R.Ok){g h:Ln}(G:cs g)(H:dG)(e:F g=F h):g=h:=by have b9:g.2=h.2:=by{rw[<-(VQ Y G).2,<-(VQ Y H).2,e]};rw[np h.2 (H.BQ Y),aJ i hi (ie (h_ h.1 H.rv)),gF c4 (ie (h_ g.1 (bl b9 G.rv))),ie z (nx i h.1 ag)];obtain⟨d7,O,d3⟩:=nx j g.1 ag;rw[c4 h6 (F g) (h.2,d7),b2 h6 e];have c3:=Y1;rw[jY];have:=asW nd b6 O;have:=aQY hi b8 this;rw[gp];have:g.1=h.1:=ai;grind-abstractProof
theorem Mp.turn(d5:iD)(Y:R.Ok){v:Nat}(c:dB)(b0:o h dG (h.1=v) (c (F hj)=c h)){g h:Ln}(G:cs g)(H:dG)(g7:g.1=v)(a3:h.1=v):c g=c h:=by have d3:v<R.n:=by{rw[<-a3];exact H.yI Y};rw[np v d3];have all:∀(i:Nat)(x:Nat),fi a5->E y (K a5 0 y) (c JM=c (v,y)):=by{intro i;induction i with|zero=>{rw[ZD]}|succ i d6=>intro x S y b6;have m:i+1<aCq:=by{grind};have c9:A a5 (dz a5 dW):=dd dW;rw[aO d7 O (nx i _ c9)];rw[et m,S]at O;cases O;have D:cs (v,dz a5 (ig m)):=x (mem _) (te _);have:=b0 _ D rfl;rw[<-d6 _ c9 y b6,<-this];show c JM=c (F (a5[i],v));rw[e]};rw[aJ i hi (ie (h_ g.2 bz)),gF c4 (ie (h_ h.2 bz))];have c0:K a5 0 (a5[0]'(bV tF hi)):=dd bM;have b4:g=(v,g.2):=by{grind};rw[mt h (v,h.2)];rw[b4,b9,(all i g.2 bz _ c0),(all j h.2 bz _ c0)]
def K8(R:Arr):Prop:=∀P:md,P 0->(l a b (cs rQ) (P a) (P b))->qJ (P v)
def asX(R:Arr)(v:Nat):Prop:=∀P:md,∀s,c (s<R.n) (s≠v) (P s) (∀a b,c (cs rQ) (a≠v) (b≠v) (P a) (P b)) (o x (x<R.n) (x≠v) (P x))
noncomputable def cc(side:amG)(w:eh)(l:cJ)(h:Ln):Int:=w (sd HI h)-ind (h∈l)
theorem Run.bjz(J:kf)(Y:R.Ok){h:Ln}(H:dG):alF<(Ai).cnt:=by have I:=pd Y R.n aY;rw[Ja];split;rw[oP (H.up Y l) (HD _ m (b7 l fp)).1,oP (H.dn Y (bv (H.ne Y) (aV (cV (qw l)) this))) (HD _ m Q_).2]
theorem aQZ(Y:R.Ok){l:cJ}{w:eh}(nd:l.Nodup)(W:mp (fl l)){h:Ln}(H:dG):hR hj h:=by rw[ak O gG (hR (rv e) e) (by have lt:=jg;rw[cm (W.side e a0 aLh)];rw[asV nd]at a;delta cc sd;rw[bj (hF rv (ez lt.1)),aK lt.1];rw[ad4];simp+arith [*]),Km,a_,c_ (O _ H) ad4 aCs]
theorem asY(Y:R.Ok)(d5:iD){l:cJ}{w:eh}{i:dB}(W:mp i){h:Ln}(H:dG)(c4:h∈l↔F h∈l):hR (F h) h:=by delta cc;rw[(W.Gf _ _ (Dk Y (sS H)) (Dk Y H) (d5.aP h H))];simp[*]
theorem aQ0(Y:R.Ok)(d5:iD)(C:K8 R){l:cJ}{w:eh}(nd:l.Nodup)(W:mp (fl l))(a5:E h dG (h∈l↔F h∈l)){g h:Ln}(G:cs g)(H:dG):hR g h:=by have d:∀v,∀{g h:Ln},c (cs g) dG (g.1=v) (h.1=v) (hR g h):=fun v g h G H g7 a3=>a21 Y (cc Aj w l) (fun x X _=>bj (asY Y d5 W ahS (a5 _ ahS)) (pp X)) G H g7 a3;have all:qJ beI:=by{refine C (e3 beI) (fun x X e7 y c i8=>d 0 X c e7 i8) (fun a b k d6 x X e7 y c i8=>?_);rw[<-d6 rQ k rfl y c i8,<-pp k];exact d b X k.rv e7 rfl};by_cases e:z y (cs y) (y.1=0);{obtain⟨y,c,i8⟩:=e;rw[all g.1 (G.yI Y) g G rfl y c i8,all h.1 (H.yI Y) h H rfl y c i8]};{exfalso;have:qJ (v=0):=C (e3 (v=0)) rfl (fun a b k b3=>ai);exact e (v h H (this _ (H.yI Y)))}
universe GM
namespace GM
variable{R:Arr}{J:kf}{F:Fl}
noncomputable def it(F:Fl):gO Ln Ln|0,h=>h|m+1,h=>F (cF m)
noncomputable def ar(F:Fl):gO Ln cJ|0,_=>[]|m+1,h=>h::ar F m (F h)
theorem Gk:F_ (it F m (F h)=F (cF m))|0,h=>rfl|m+1,h=>eM it (Gk m h)
theorem yJ:Gt (cF (a+b)=it F a (cF b))|0,b,h=>ar it|a+1,b,h=>n7 it (yJ a b h)
theorem aQ4:∀{m:Nat}{h x:Ln},x∈uK↔z j (j<m) (lh=x)|0,h,x=>ar ar|m+1,h,x=>by simp only[ar,hF,aQ4 (m:=m)];constructor;{rintro(rfl|⟨j,b8,e⟩);rw[l (bp 0 pZ),l (v (j+1) ag (by rw[a6 Gk];exact e))]};{rw[ao9];cases j with|zero=>{rw[m1 CX]}|succ j=>rw[pc (ap j ai Gk e)]}
theorem BU:F_ (t uK=m)|0,h=>rfl|m+1,h=>eM ar (BU m)
theorem Gm:∀(m:Nat)(h:Ln)(j:Nat),j<m->aa (uK) lh|0,h,j,b8=>ai|m+1,h,j,b8=>by cases j with|zero=>{rfl}|succ j=>simp[ar,Gm m (F h) j ai,Gk,it]
theorem aQ5(d5:iD)(Y:R.Ok){h:Ln}(H:dG):∀m,cs (cF m)|0=>H|m+1=>sS (dQ H m)
theorem ad7(d5:iD)(Y:R.Ok):∀(m:Nat){g h:Ln},i (cs g) dG (it F m g=cF m) (g=h)|0,g,h,_,_,e=>e|m+1,g,h,G,H,e=>ad7 d5 Y m G H (ahT Y (dQ G m) (dQ H m) e)
theorem K9(d5:iD)(Y:R.Ok):∀(m:Nat){h:Ln},dG->td h.1 uK (cF m).1|0,h,_=>rfl|m+1,h,H=>by rw[cm (VQ Y H),dC (K9 d5 Y m a.1)];rw[a.2,Gk]at d6;exact bd d6
theorem SU{I:Type} [wm I]:∀{l m:ba},aMG|[],m,_,_=>x cT|a::l,m,nd,h=>by have n2:=AL;rw[dC (SU (m:=a23 a) n2.2 (aJ (ae (a22 (fun(e:x=a)=>n2.1 (e▸S))) (h x (ck S)))))];rw[aCu (h a fx)]at d6;exact mO d6 (h a fx)
noncomputable def SV(R:Arr):cJ:=gG++R.lines.map rv
theorem aQ6{h:Ln}:h∈SV R↔dG:=by delta SV oD;simp only[hD,fK];constructor;{rintro(h|⟨x,S,rfl⟩);rw[l AZ,co S]};{rintro(h|h);rw[l AZ,co (bm h)]}
structure sv(F:Fl)(h:Ln)(m:Nat):Prop where
 pos:0<m
 ret:cF m=h
 min:o j (0<j) (j<m) (lh≠h)
theorem aQ7(d5:iD)(Y:R.Ok){h:Ln}(H:dG):z m FA (m<=2*aCv):=by have ret:I d (0<d) (d<=2*aCv) (cF d=h):=by{rw[anF];have nd:c8 (ar F (2*aCv+1) h):=by{rw[VS,ahU];rw[aMX];rw[BU]at hi b8;have a:=aKY;rw[aLR,dd ag a,dd ag b,bdC,cl i (j-i) (cF i) bhD];have:=y5 this;exact f6 (d (j-i) (VR l) (cp alG (HJ b8)) this)};have:=SU nd (m:=SV R) (re (aQ6.mpr anf));rw[am BU,hH SV];exact aF1 this};obtain⟨d,f,c5,c7⟩:=ret;have least:f n d (d<=n) (0<d) (cF d=h) (z m FA (m<=d)):=by{intro n;induction n with|zero=>{intro d a b;simp_all}|succ n d6=>intro d a b c;by_cases q:I j (0<j) (j<d) (lh=h);{obtain⟨j,u,v,w⟩:=q;rw[bY x y (d6 j (HJ (fJ v a)) u w)];exact v m x (cp y (ez v))};rw[cx d (v b c (fun j g k e=>q (d j g k e))) aY]};rw[bY x y (least d d aY f c7)];exact v m x (cp y c5)
theorem sv.inj(d5:iD)(Y:R.Ok){h:Ln}(H:dG){m:Nat}(P:FA){i j:Nat}(hi:i<m)(b8:j<m)(e:cF i=lh):i=j:=by rw[aMT];{rw[cl i (j-i) (cF i) bhD];exact cz (y5 this) (ahV (j-i) (bn l (aS j i)) (fG alG b8))};rw[l l];{rw[cl j (i-j) lh (m (j+(i-j)) i i j l i j)];exact cz (ad7 d5 Y j alg H this) (ahV (i-j) (bn (aS i j) l) (fG (qR i j) hi))}
theorem sv.nodup(d5:iD)(Y:R.Ok){h:Ln}(H:dG){m:Nat}(P:FA){d:Nat}(hd:d<=m):c8 (ar F d h):=by rw[VS,ahU];rw[aMX];rw[BU]at hi b8;rw[cm aKY,aLR,dd ag a,dd ag b,bdC,h8 (P.inj d5 Y H (bV hi hd) aKf e) (gx CZ l)]
theorem sv.closed(d5:iD)(Y:R.Ok){h:Ln}(H:dG){m:Nat}(P:FA){x:Ln}(X:cs x):x∈uK↔F x∈uK:=by constructor;{rw[fT,bC j b8 (Nf q),b1 (j+1) m];{refine Dl (aJ 0 VT);show h=F lh;rw[dR (F lh) (cF (j+1)),e,Nd]};rw[l (Dl (bp (j+1) (iT e)))]};{rw[fT,aO j b8 (Nf q)];cases j with|zero=>{rw[h8 (ahT Y alg X (by rw[xN];show cF (m-1+1)=h;rw[m (m-1+1) m m 1 b8 m 1,Nd])) (Dl (v (m-1) (x (aR b8)) this))]}|succ j=>rw[h8 (ahT Y alg X e) (Dl (v j dW this))]}
theorem sv.shift(d5:iD)(Y:R.Ok){h:Ln}(H:dG){m:Nat}(P:FA)(i:Nat):sv F (cF i) m:=by rw[cq VT (fun j g k e=>?_)];{rw[<-yJ,VU,yJ,Nd]};{rw[<-yJ,VU,yJ]at e;exact ahV j g k (y5 e)}
theorem asZ(d5:iD)(Y:R.Ok){h:Ln}(H:dG){m:Nat}(P:FA):Nc R (fl uK):=by have W:=K9 d5 Y m H;rw[Nd]at W;exact ad6 Y W (re anf)
theorem ad8(d5:iD)(Y:R.Ok){h:Ln}(H:dG):∀j,wA lh=og|0=>rfl|j+1=>by show wA (F lh)=_;rw[d5.aP _ anf,ad8 d5 Y H j]
theorem SW(d5:iD)(Y:R.Ok)(C:K8 R){g h:Ln}(G:cs g)(H:dG){m:Nat}(P:aHS):h∈yg↔og=kS:=by constructor;{rw[fT,iG j (Nf q)];exact ad8 d5 Y G j};{intro e;rw[bb3,qQ G H];unfold cc at c;have a:g∈yg:=Dl (bp 0 VT);rw[(W.Gf _ _ (Dk Y H) (Dk Y G) e)]at c;have c2:ind (g∈yg)=1:=by{rw[YS];exact kR};rw[c2]at c;delta ind at c;split at c;rw[a_,Ju]}
theorem aQ8(d5:iD)(Y:R.Ok)(C:qJ (asX R v)){h:Ln}(H:dG){m:Nat}(P:FA):c8 (g0 uK):=by rw[VS,ahU];rw[aMX];simp only[bA,BU]at hi b8;simp only[Ng]at e;rw[cm aKY,aLR,dd bz a,dd bz b];rw[c_ a,c_ b]at e;have L:=dQ H i;have p:=P.shift d5 Y H i;obtain⟨d,hd⟩:∃d,d=j-i:=el;have a3:(it F d (cF i)).1=(cF i).1:=by{rw[<-yJ,aS (d+i) j (cg hd.l (aC j i l)) (cg (aS j i) hd.g),<-e]};generalize cF i=g at L p a3;have f:=K9 d5 Y d L;rw[a3]at f;have nd:=p.nodup d5 Y L (d:=d) bdq;rw[C_ (ad6 Y f (re (dQ L j)))];have e9:o x (cs x) (x.2≠g.1) (x∈I1↔F x∈I1):=by{intro x X f5;have n:=VQ Y X;constructor;{rw[fT,aKN,N z (a+1) d];{exfalso;have:F x=anm:=by{rw[<-e,<-z];rfl};lia};rw[l (Dl (v (a+1) (cx b3 z) (by rw[xN];rfl)))]};{rw[fT,aKN];cases a with|zero=>{exfalso;have d3:g=F x:=e;simp_all}|succ a=>rw[h8 (ahT Y (dQ L a) X e) (Dl (v a dW this))]}};have all:=C g.1 (L.yI Y) (e3 (o y (cs y) (y.1=v) (s4 y=s4 (rv g)))) g.2 (L.BQ Y) a_W (fun y c i8=>g9 g.2 a_W L.rv) (fun a b k e0 h2 d6 y c i8=>by rw[<-d6 rQ k rfl,<-pp k];exact g9 b h2 k.rv);have r:E y (cs y) (s4 y=s4 (rv g)):=by{intro y c;rw[T y.1 g.1,kV (pp c) (all y.2 (c.BQ Y) (J (c.ne Y (VW wo))) (rv y) c.rv rfl),l (all y.1 (c.yI Y) q y c rfl)]};have o:=dQ L (d-1);have g9:a8Y:=Dl (bp (d-1) (ahW (hd▸VR l) ahX));have b9:F (it F (d-1) g)=anm:=by{show it F (d-1+1) g=_;rw[Mr (hd▸VR l)]};have e1:anm∉I1:=ah (by rw[aKN];have:=p.inj d5 Y L (x (uW b3 hd.l alG b8)) bdq e;simp_all);have e5:=r _ o;have e6:=r _ (sS o);unfold cc at e5 e6;rw[(W.Gf _ _ (Dk Y (sS o)) (Dk Y o) (d5.aP _ o)),b9]at e6;have c2:ind a8Y=1:=by{rw[YS];exact kR};have N:ind (anm∈I1)=0:=by{rw[YS];exact bj bG};rw[fU]
theorem as0(d5:iD)(Y:R.Ok)(C:K8 R)(b1:anK){g:Ln}(G:cs g){m:Nat}(P:aHS):z w (mp (fl yg)) (E x aGe (w x=ind ((Ai).aP x=kS)-ind (kS=0))):=by rw[bb3,ak w W,ei (pd Y R.n aY),bhf];have f3:=ee z D;have e8:sd Aj z=0:=by{delta sd;rw[aK f3.1,h6]};rw[DR ((Ai).aP 0)];have j7:wA z=0:=by{delta Run.lb;rw[e8,c0]};have a:cs z:= .inl D;have O:E h dG (w alF=ind (og=kS)-ind (kS=0)):=by{intro h H;rw[qQ H a];unfold cc at c;rw[e8,W.zero]at c;have e0:pe yg=ind (og=kS):=by{delta ind;simp[SW d5 Y C G H P]};have g0:ind (z∈yg)=ind (kS=0):=by{delta ind;have:z∈yg↔kS=0:=by{rw[SW d5 Y C G a P,j7];grind-abstractProof};rw[tX]};rw[eo]};rw[Bs];have SN:bfx:=by{rw[biq,cM,bdl,bhz]};rw[bC h H SN];exact O h H
theorem as1(Y:R.Ok)(J:kf)(b1:anK){x:Nat}(S:aGe):bfx:=by have I:=pd Y R.n aY;rw[bhf];have f3:=ee z D;rw[biq,cx z (.inl D) (by delta sd;rw[aK f3.1,h6]),bdl,bhz]
theorem Flow.neg{i:dB}{w:eh}{t:Nat}(W:a'L):ahY R J (an (-i e)) t (ab (-w x)):=by rw[j (ar W.zero) (fun x y S b6 h=>ar (W.Gf x y S b6 h)) a86 (fun t' h=>ar (W.last t' h)) (fun e a0 h=>by have:=W.side e a0 h;simp+arith [*])];have:jC Zf (fu (Wp (an (-i e)) (ab (-w x)))):=by{intro Z;induction Z with|nil=>{intros;trivial}|cons a b d6=>intro g c;exact⟨by have:=c.1;unfold Wp at this⊢;simp+arith [*],d6 c.2⟩};exact this (W.Gg t' h)
theorem aQ9(d5:iD)(Y:R.Ok)(C:K8 R)(b1:anK){g:Ln}(G:cs g){m:Nat}(P:aHS):0<nW (fl yg)↔kS≠0:=by obtain⟨w,W,hw⟩:=as0 d5 Y C b1 G P;constructor;{intro h e;have:=aQS Y J W.neg (aJ (by have:=hw x S;rw[am e];delta ind at this;grind-abstractProof));have eq:nW (an (-em yg))= -nW (fl yg):=by{rw[<-BS];refine BP aHI;delta SS;grind-abstractProof};rw[eo]};{intro e;have b:w (sd Aj g)=1:=by{rw[hw _ (Dk Y G)];have:(Ai).aP (sd Aj g)=kS:=rfl;simp[ind,this,e]};refine aQU Y J W qq ?_;{rw[hw x S];rw[YS];grind-abstractProof};{rcases G with a|a;{have:=ee _ a;rw[aa g a aG9];delta sd at b;simp_all};{have:=ee _ a;rw[aa (rv g) a (.inr ?_)];delta sd at b;have a3:¬g.1<g.2:=by{rw[hH rv];exact sU ew};simp_all}}}
universe GM
namespace GM
open Gla
structure Lay(r:Plan):Prop where
 dQ:a25 (nS xP)
 wide:cA de QD
 BV:a'6
 lt:a'A
 nd:a24
 on:h2 (∀k,i (k<aJ) (k≠e.1) (k≠e.2) (wB eG eH (bp k)=ah))
 nc:h2 (∀f∈bY,e≠f->zC eG eH amk aml=ah)
noncomputable def ky(r:Plan)(p:Pt):Int:=Y8*v p.y+p.x
noncomputable def den(r:Plan)(e:Ln):Int:=ch eH-ch eG
noncomputable def K_(r:Plan):anE|[]=>1|e::J=>Kc*K_ r J
noncomputable def cof(r:Plan)(e:Ln):Int:=An/Kc
noncomputable def Gn(r:Plan)(e:Ln)(z:Int):Int:=uR*(amR*(ch eH-z)+amS*(z-ch eG))
noncomputable def arrOf(r:Plan):Arr:=a aJ bY (dK (ch eI)) (dK (kC eI)) (Gn r)
theorem sx{r:Plan}{i:Nat}(h:gY):eI=de[i]:=by delta aCw;simp[List.getD,h]
theorem yK{r:Plan}{i:Nat}(h:gY):eI∈de:=nP (sx h)
theorem mw{r:Plan}{p q:Pt}(c2:QD)(h:xP):ch p<ch q:=by delta ky;rw[jC ig,dq h h a9];{have:Q9*(v p.y+1)<=Q9*q.y:=VI (x (mj h)) (by rw[Fn]);grind-abstractProof};rw[a_]
theorem aQ'{r:Plan}{p q:Pt}(c2:QD)(e0:q.x<=r.w):ch p<ch q↔xP:=by rw[v (da aHN) (mw c2),b1 p q,az];{have:Nh p=ab:=by{simp[ig]at n⊢;by_cases y:q.y<p.y;rw[Fs];{right;have:q.y=p.y:=gC (cV n.1) (cV (qw y));rw[dJ this];rcases qT (n.2 aCs)with e2|e2;rw[a_];{exfalso;apply e;cases p;rw[kJ];simp at*;simp[*]}}};have:=mw e0 this;exact Ku this h}
theorem as2{r:Plan}:k4 (V e l (0<Kc)) (0<K_ r l)|[],_=>ar K_|e::J,h=>hH (h e bK) (as2 anY)
theorem as3{r:Plan}:∀{l:cJ}{e:Ln},e∈l->Kc∣K_ r l|[],e,h=>ai|f::J,e,h=>by rw[l_,aok,l (Int.dvd_mul_right _ _),l (Int.dvd_mul_of_dvd_right (as3 h))]
variable{r:Plan}
theorem Lay.below(Z:bq){i j:Nat}(h:i<j)(b8:om):qK (bp j):=D3 (Ni Z.dQ i j ES b8 h)
theorem Lay.wx(Z:bq){i:Nat}(h:gY):(eI).x<=r.w:=Z.wide _ (yK h)
theorem Lay.km(Z:bq){i j:Nat}(h:i<j)(b8:om):aK7:=mw (HK ES) (wC h b8)
theorem Lay.den_pos(Z:bq){e:Ln}(a0:iB):0<Kc:=by rw[cd yi];have:=Dm l.1 l.2;delta den;simp[*]
theorem Lay.as4(Z:bq):0<An:=as2 (f9 a8f)
theorem Lay.as5(Z:bq){e:Ln}(a0:iB):uR*Kc=An:=Int.ediv_mul_cancel (as3 a0)
theorem Lay.aRa(Z:bq){e:Ln}(a0:iB):0<uR:=by have a:=Z.as5 a0;rw[ca Z.as4,eU (mQ 0 uR),l h];{have:uR*Kc<=0:=VX h (eX a8f);grind-abstractProof}
theorem Lay.La(Z:bq){e:Ln}(a0:iB)(z:Pt):dx z-Zh=uR*(Y8*kb):=by rw[<-Z.as5 a0];delta Gn den ky eW dx dy;grind-abstractProof
theorem Lay.sgn(Z:bq){e:Ln}(a0:iB)(z:Pt):(dx z<Zh↔kb<0)/\(Zh<dx z↔0<kb):=by rw[cm (Z.La a0 z)];have w:xC<r.w+1:=by{simp};have p:=hH (Z.aRa a0) w;have b4:uR*(Q9*kb)=uR*Q9*kb:=by{grind-abstractProof};rw[b4]at a;generalize kb=t at*;generalize uR*Q9=q at*;constructor;{constructor;{rw[eF,s2 t,Bc,kw (tc (eX p) g)]};{rw[eF];have:=ahZ p h;exact j4 a.m}};{constructor;{rw[eF,s1 t,Bc,kw (Nj (eX p) g)]};{rw[eF];have:=hH p h;exact j4 a.n}}
theorem aRb{p q:Pt}(h:xP):p.y<=q.y:=by rw[jC ig];lia-abstractProof
theorem Lb{p q z:Pt}(a3:pf z=ab)(a9:VY q=ab)(h:Kf=0):q9 z:=by revert a3 a9 h;revert p q z;refine aqa;rw[co p q z,bZ a3 a9];delta wB;simp only[h,aCx,ah0,ia,Nk,iV];simp[ig]at a3 a9;delta eW dx dy at h;rw[N Q p.y q.y];{rw[ue]};{rw[k2 (D_ z.x) (fK z.y p.y)];have k3:xC<an1:=by{lia};have y:xC<=v z.y-p.y:=by{lia};have e0:v z.y-p.y<=an1:=by{lia};generalize alh=d at*;generalize bm z.y p.y=s at*;rw[aa ?_ (cp aoG (a3.elim ez aHB)) (cp (a9.elim ez aHB) (HL _ _))];rcases M9 p.x q.x with c|c;{have f:xC<=Fu:=by{simp[*]};have h2:=tc f y;have e2:=VI e0 f;have e5:xC<=Fv:=by{rw[s2 Fv];{have:=Dn g k3;rw[fU]};rw[l g]};rw[c_ Fv Fu Fu Fv];simp_all};{rw[bL f Fu 0 (nE c)];have h2:=VX f y;have e2:=aCi f e0;have e5:Fv<=0:=by{rw[s1 Fv];{have:=hH g k3;rw[fU]};rw[l g]};rw[c_ Fu Fv Fv Fu,fU]}}
theorem Lay.ok(Z:bq):(gM).Ok:=by rw[ck k (dx eG=kC eG) (by have:=Z.La a0 eG;have u:eW eG eH eG=0:=by{rw[ui];grind-abstractProof};rw[am u,uu];exact RW this),ck p (dx eH=kC eH) (by have:=Z.La a0 eH;have u:eW eG eH eH=0:=by{rw[ui];simp};rw[am u,uu];exact RW this),ck BM (yQ (Gn r e x)) (by rw[aa (uR*(amR*ch eH-amS*ch eG)) (uR*(amS-amR)) Jk];delta Gn;grind-abstractProof),e f_ Z.nd (fun i j h b8=>Dm h b8) BM k p ?_ ?_];{intro e a0 v a3 a9 q;rw[cd yi];have c4:dx eg=kC eg:=q;have O:=qW a0 eg;have o:=Lb (wC a3 (b7 a9 l.2)) (wC a9 l.2) Bl;rw[Z.on e a0 v (b7 a9 l.2) (x (v_ bG)) aHl]at o;cases o};{intro e a0 f W ov h;refine qM (fun n=>?_);have V:=a0;have t:=W;have le:=f_ e V;rw[bJ (f_ f t)];have h':dx rL<hK rL:=h;have C:anb<amT:=Int.not_le.mp n;rw[ak b d0 (BM e V)];obtain⟨c,d,g7⟩:=BM f t;have h8:ha<aJ:=by{rw[Jh];exact fg (wD ahO ahN) le.2};have s:0<b-d:=by{rw[s1 (b-d),Bc];{have:=aCi g (eX (Dm ov h8));rw[eo]}};rw[dy low (E i (i<=kG) (dx eI<hK eI)) (IG ES)];have w:o i (ha<=i) gY (hK eI<dx eI):=fun i hi a5=>IG a5;have b4:=GE e.1;have g4:=GE f.1;have b9:=w e.2 (cG oZ (wD ahO ahN)) ag;have h3:=w f.2 (cG oZ (oU ahO ahN)) ag;rw[k e V]at b4;rw[k f t]at g4;rw[p e V]at b9;rw[p f t]at h3;have cr:=Z.nc e V f t Qn;unfold Gla.crosses at cr;simp[(Dn ((qW V amk).1.mp g4) ((qW V aml).2.mp h3)),(ahZ ((qW t eG).2.mp b4) ((qW t eH).1.mp b9))]at cr}
universe GM
namespace GM
open Gla
abbrev gy:=Int×Int
noncomputable def cr(a b:gy):Int:=bf4
noncomputable def kd(al f:Int)(a:gy):Int:=al*a.1+f*a.2
theorem as6(al f:Int)(a b c:gy):cr a b*cS c+cr b c*cS a+aob*cS b=0:=by delta cr kd;grind
theorem vh(a b:gy):cr b a= -cr a b:=w9 cr
theorem BW{J d:gy}(h:cr J d<0):Zq=0:=by delta tf;have:apv<0:=h;exact kR
theorem qF{J d:gy}(h:0<cr J d):Zq=2:=by delta tf;have a3:0<apv:=h;rw[eo]
theorem as7{J d:gy}(h:cr J d=0):Zq=1\/Zq=3:=by delta tf;have a3:apv=0:=h;simp[a3];lia-abstractProof
theorem as8(J:gy):tf J J=3:=by delta tf;rw[bL a3 (J.1*J.2-J.2*J.1) 0];have a9:¬(QH+J.2*J.2<0):=by{rw[fh a QH J.1,bem];exact J (RV z a b)};simp[a3,a9]
theorem aRc{al f:Int}{J d:gy}(h:cr J d=0)(a6:cS J<0)(hd:0<cS d):Zq=1:=by delta tf;have a3:apv=0:=h;have O:cS J*(J.1*d.1+J.2*d.2)=cS d*(QH+J.2*J.2):=by{delta kd;rw[a4 cr];grind-abstractProof};rw[fh a QH J.1,bem];have pos:0<QH+J.2*J.2:=by{have:J.1≠0\/J.2≠0:=by{refine aHN;delta kd at a6;simp_all};rw[eU this,pj QH (a2Z this b),pj (J.2*J.2) (a26 a this)]};have f6:=hH hd pos;have neg:J.1*d.1+J.2*d.2<0:=by{rw[s2 (J.1*d.1+J.2*d.2),Bc,kw (VX (eX a6) g)]};simp[a3,neg]
theorem Lc{J a b:gy}(h:tf J a<tf J b):aKW:=by delta Dq;simp[h]
theorem Ld{J a b:gy}(h:tf J a=tf J b)(c:cr a b<0):aKW:=by delta Dq;have:bf4<0:=c;simp[h,this]
theorem aRd{J a b:gy}(h:aKW):Dq J b a=ah:=by delta Dq at h⊢;lia-abstractProof
section z
variable{al f:Int}
theorem aRe{J w x:gy}(a6:cS J<0)(hw:cS w<0)(ou:cr J w<0)(S:cr w x<0\/0<cr J x\/x=J\/0<cS x):aKX:=by have b1:=BW ou;by_cases c:cr J x<0;{rw[fL (BW c)];refine Ld (x (ah1 bG E5)) ?_;rw[vk S,l h,Ju];{subst h;delta cr at c;grind-abstractProof};{rw[aMh];have e9:=Dn ou h;rw[aKQ];have f6:apb<0:=ahZ ag hw;rw[po (cr w x) J,s2 (cr w x),Bc,i5 (Nj g (eX a6))]}};{refine Lc ?_;rw[k6 (a27 (agR c))];{rw[b1,qF g];simp};{rw[al (as7 g.symm)]<;>simp[*]}}
theorem aRf{J w x:gy}(a6:cS J<0)(hw:0<cS w)(S:(cS x<0/\0<cr J x)\/x=J\/(0<cS x/\cr w x<0)):aKX:=by rcases S with⟨S,c⟩|rfl|⟨S,c⟩;{rw[eq (qF c),bs (cr J w) g g g,l (mP (BW g) a9),l (mP aLw a9)];{refine Ld (bj (qF g) a9) ?_;rw[aMh];have e9:=ahZ g S;rw[aKQ];have f6:apb<0:=Dn ag hw;rw[al (mQ (cr w x) 0),iA];{have:=Nj q (eX a6);lia}}};{refine Lc ?_;rw[as8];rw[bs (cr x w) g g g,l8 (BW g),l8 aLw,Z (qF g) jW]};{rw[aMh];have e9:=a28 c a6;rw[aKQ,bs (cr J w) g g g];{rw[al (mQ (cr J x) 0),l (Ld (bj (BW g) (BW q)) c)];{refine Lc ?_;rw[BW g];rw[al (a27 q),l8 (qF q)];{rw[cZ (as7 zD)]<;>simp[*]}}};{rw[ae O (cr J w*cS x) 0];have:apb<0:=bM;have:cr x J<0:=bbH;exact mP aLw (qF ai)};{have f6:=hH g S;have:apb<0:=x (se id.m e9 f6);have:cr x J<0:=bbH;exact Ld (bj (qF g) (qF ai)) c}}
theorem aRg{J w x:gy}(ou:0<cr J w)(S:x=J\/(0<cr J x/\cr w x<0)):aKX:=by rw[dq S rfl a9,l (Lc (ac as8 (qF ou) jW)),l (Ld (bj (qF ou) (qF a3)) a9)]
universe z
structure Clock(r:dg gy)(al f:Int)(Z d:ao):Prop where
 l:et Z (cS (r a)<0)
 u:et d (0<cS (r a))
 sl:Z.Pairwise a'i
 su:d.Pairwise a'i
theorem aRh(al f:Int)(a:gy):kd (-al) (-f) a= -cS a:=w9 kd
theorem Clock.flip{r:dg gy}{al f:Int}{Z d:ao}(C:aMM):aCy r (-al) (-f) d Z:=d (GN (C.u a h)) (GN (C.l a h)) C.su C.sl
theorem aRi{l:ao}{i x:Nat}(h:xQ):∃a b,l=a++x::b/\mO=i:=by rw[e4 hi (i<ec),w (He i) (oP (i+1)) ?_ cu,aj pP];rw[<-(c_ h)];simp
theorem Clock.low{r:dg gy}{al f:Int}{Z d:ao}(C:aMM){i x y:Nat}(hi:i<fL)(S:fi aoW)(b6:K aoW Ra y):be4:=by revert C hi S b6;revert r al f Z d i x y;refine Kr;generalize aG=r,aA=al,aF=f,aE=Z,aD=d,aB=i,aH=x,aI=y;intro C hi S b6;rw[hC hi]at S;obtain⟨A,B,e,d0⟩:=aRi S;have sl:=C.sl;rw[e,qV,pe]at sl;obtain⟨c0,⟨c,v⟩,l⟩:=sl;have k:=C.l x (x (bO bG));intro z c9 ne;have j:et A (0<cr (r x) (r a)):=fun a b3=>by{have:=l a b3 x bK;have:=vh (r a) (r x);simp[*]};rw[ca a0 (z∈A\/z=x\/z∈B\/z∈d)];cases B with|cons w n=>{have m:i+1<fL:=by{simp[*]};have:Ra=i+1:=et ag;rw[this,hC m,e,pB (aho d0.l)]at b6;rw[mr (i+1-ih) 1]at b6;simp at b6;subst b6;refine aRe k (C.l w ag) (c w bK) ?_;rw[vk a0,a_,a_,az,co (pd (C.u z h))]}|nil=>rw[ae m (i+1) fL];cases g:d with|cons w o=>{have:Ra=i+1:=et bz;rw[this,pB m.g,g]at b6;rw[show i+1-fL=0 by exact mR (cg (aC (i+1) fL m.g) m.l) aN0]at b6;simp at b6;subst b6;refine aRf k (C.u w bz) ?_;rw[vk a0,dS ⟨C.l z bz,j z h⟩,dY];{rw[cI]};{have su:=C.su;rw[g]at h su;rw[l_,eU h,dY];{rw[pe]at su;exact .inr (e1 (C.u z bz) (su.1 z h))}}}|nil=>subst g;have:jc%t (Z++[])=0:=cz qP m ahR;rw[this,qP]at b6;cases A with|nil=>{grind}|cons w b=>rw[e]at b6;simp at b6;subst b6;refine aRg (j w bK) ?_;rw[vk a0,az];{rw[xq]};rw[az,az]
theorem Clock.next{r:dg gy}{al f:Int}{Z d:ao}(C:aMM){i x y:Nat}(S:fi aoW)(b6:K aoW Ra y):be4:=by rw[fW hi fL,l (C.low hi S b6)];{have p4:i<t (Z++d):=bx S;rw[ck]at p4;have O:K (d++Z) aLv y:=by{rw[T (i+1) (fL+oY)];{rw[cr a Ra 0];rw[a]at b6;rw[d7 c0 fL,az];{rw[R b aLv oY (aS (i-fL+1) oY (cg (aC i fL (qw hi)) q.l) (cg q.g (aS i fL))) (et fS)];rw[b,ph aY,zE];rwa [hC (VZ c0)]at b6}};{have a:Ra=i+1:=et fS;have b:aLv=i-fL+1:=et nZ;rw[b,hC bM,aS (i-fL+1) (i+1-fL) (L i fL (qw hi) (i+1) fL) (L (i+1) fL (qw hi) i fL)];rwa [a,pB (aho (qw hi))]at b6}};intro z c9 ne;exact C.flip.low bM (by rw[hC bM];rwa [ph (j9 hi)]at S) O z (ah2 (bt (Nl c9))) ne}
theorem as9{lt:aH2}{w:Nat}:∀{J:ao}{k:Nat},w∈k::J->bk (k::J) (x≠w->lt w x=ab/\lt x w=ah)->J.foldl (ft (Z (lt b a) b a)) k=w|[],k,h,_=>ai|b::J,k,h,q=>by rw[YV];refine as9 cu (fun x S ne=>?_);rw[P2];grind-abstractProof
variable{r:Plan}
noncomputable def yL(r:Plan)(h:Ln):Ln:=(h.2,r.next h.1 h.2)
theorem vi{v x:Nat}(Z:bq):x∈ij v↔dR JM:=by delta Plan.near oD;simp only[a29];constructor;{rw[hr l a5,eJ];{next e=>rw[cI];left;rw[xN];exact a5};{rw[eJ];{next e=>rw[cI];right;rw[xN];exact a5};rw[cY]}};{rintro(h|h);rw[l (v JM h (x cP))];{rw[ak (x,v) h];simp_all}}
theorem ad9(v x:Nat):kd 1 (r.w+1) (d5 x)=ch (bp x)-ch eg:=by delta kd dir dx dy ky;grind
theorem yM(v a b:Nat):eW eg rp (bp b)=aoH:=bg9
theorem as_(v a b:Nat):bbo= -aoH:=bg9
theorem aRj(Z:bq){v a b:Nat}(b3:JO)(U:uG)(h:bbp):O6:=by have Y:=hI;have h2:iF OC (v,b)=v:=by{delta iF;simp};have s:=h.s;rw[h2]at s;have c5:=(wu _ b3);rw[cc (wu _ U),dS t ((gM).X OC ((gM).k Rn)) ((gM).X (v,b) ((gM).k Rn)),aK3];{have e2:Rn=a:=by{rw[Jh];simp;exact kR};rw[e2]at t;rw[(wz _ b3)]at t;have:=(aKT).mp t;have g5:0<akX:=this;rw[yM,vh]at g5;simp_all};{rw[fK Rn b oZ];rw[e2]at t;rw[(wz _ U)]at t;have:=(aKU).mp t;have g5:=this;rw[yM]at g5;exact g5}
theorem aRk(Z:bq){v a b:Nat}(b3:(a,v)∈bY)(U:(b,v)∈bY)(h:mr iu (a,v) (b,v)):cr (d5 b) (d5 a)<0:=by have Y:=hI;have h2:oZ (a,v) (b,v)=v:=by{delta oZ;simp};have s:=h.s;rw[h2]at s;have c5:=wz _ b3;rw[cc (wz _ U),dS t ((gM).X (a,v) ((gM).k aoE)) ((gM).X (b,v) ((gM).k aoE)),aK3];{have e2:aoE=b:=by{delta iF;simp;exact kR};rw[e2]at t;rw[(wu _ U)]at t;have:=(aKU).mp t;have g5:bbo<0:=this;rw[as_]at g5;have:=vh (d5 a) (d5 b);simp only[*]};{rw[fK aoE a iF];rw[e2]at t;rw[(wu _ b3)]at t;have:=(aKT).mp t;have g5:0<eW (bp b) eg rp:=this;rw[as_]at g5;simp_all}
noncomputable def Le(E N:cJ):ao:=aCp fN++N.map eY
theorem as'(Z:bq){v:Nat}{s:Sw}{E N:cJ}(d3:v<aJ)(C:apw):aCy (dir r v) 1 (r.w+1) (aCp fN) (N.map eY):=by rw[b2 a85 a85 ?_];{simp only[fK,aCz]at h;rw[bC e a0 h,am6,ao1];rw[ad9];have:=Dm (i:=e.1) (j:=v) (bV l.1 m.2.l) d3;exact r_ this};{rw[nC fK,bC e a0 h,am7,ao1];rw[ad9];have:=Dm (i:=v) (j:=e.2) ai l.2;simp[*]};{rw[Nm,List.pairwise_reverse];rw[h8 C.sE,vj h,am6];have f7:=x (VP f) W;rw[eE b4 e,aph,a9d,KL (aRk Z g9 c h)]};{rw[Nm];rw[h8 C.sN,vj h,am7];have f7:=x (VO f) W;rw[eE b4 e,aph,a9d,KL (aRj Z g9 c h)]}
theorem aRl(Z:bq){v:Nat}{s:Sw}{E N:cJ}(d3:v<aJ)(C:apw):c8 xt:=by have K:=as' Z d3 C;delta Le;rw[ah3];rw[ak ?_ ?_,l (K.sl.imp beg),l (K.su.imp beg)];{intro a b3 b U e;rw[cb];have:=K.l a b3;have:=K.u a U;lia}
theorem SX(Z:bq){v:Nat}{s:Sw}{E N:cJ}(C:apw)(x:Nat):x∈xt↔dR JM:=by delta Le oD;simp only[hD,fK,aCz];constructor;{rintro(⟨e,a0,rfl⟩|⟨e,a0,rfl⟩);{rw[am6];right;rw[<-m.2];exact m.1};{rw[am7];grind-abstractProof}};{rintro(h|h);rw[l (.inr (bp JM (ae (VO _) (dw h)))),dS (bp (x,v) (ae (VP _) (dw h)))]}
theorem ata(Z:bq){v:Nat}{s:Sw}{E N:cJ}(d3:v<aJ)(C:apw){i x:Nat}(S:fi (xt)):z y (ap xt (jc%Fc) y) (yL r (x,v)=(v,y)):=by rw[e4 hi (i<Fc)];have c4:jc%Fc<Fc:=V0 _ (bV tF hi);refine js (dd c4);have O:=(as' Z d3 C).next (i:=i) (x:=x) (y:=(xt)[jc%Fc]) S (dd c4);generalize b6:(xt)[jc%Fc]=y at O⊢;delta yL;rw[dZ];delta aCA;have G:=ae (vi Z) (x (SX Z C y) cu);cases d1:ij v with|nil=>{simp_all}|cons k J=>simp only;rw[d1]at G;refine as9 (lt:=fun b a=>Dq (d5 x) (d5 b) (d5 a)) G (fun z c9 ne=>?_);have:=O z (ae (SX Z C z) (x (vi Z) ag)) ne;exact⟨this,aRd this⟩
theorem Lay.mp(Z:bq)(J:oe):Mp iu J rn:=by have Y:=hI;rw[v aoe (fun h H=>?_)];{rw[HV v];exact d xt (aRl Z d3 C) (SX Z C) (fun i x S=>ata Z d3 C S)};{have d3:=H.BQ Y;rw[HV h.2,ic (ae (SX Z C h.1) H.rv),cm S (A (xt) h.1),ie b9 (ata Z d3 C S)];rw[b9];rw[db d C.dc];generalize c0:VL (gM).n=s at*;have len:t aIL=Fc:=by{delta BN Le;simp};have a:aP j x (aa (xt) x->∃p:fB,aa (aIL) p/\p.1=sd wy (h.2,x)/\p.2=sd wy (x,h.2)):=by{intro j x b8;delta Le at b8;delta BN;by_cases q:j<V1;{rw[hC ag,cA]at b8;rw[hC ag,cA];cases W:E.reverse[j]? with|none=>{simp_all}|some f=>rw[W]at b8;simp at b8;have k:=x (VP f) bz;have fl:=f_ f k.1;rw[aph];simp at b8 fl;have b:h3=h.2:=k.2;subst b8;rw[bD _ ?_ ?_,aW h.2 g4 fl.1 b.l b];{rw[Ja];simp_all}};{have c4:=zj q;rw[ph ag,cA]at b8;rw[ph ag,cA];simp only[bA,List.length_reverse]at b8⊢;cases W:N[j-V1]? with|none=>{simp_all}|some f=>rw[W]at b8;simp at b8;have k:=x (VO f) (bO W);have fl:=f_ f k.1;rw[aph];simp at b8 fl;have g:g4=h.2:=k.2;subst b8;rw[bD _ ?_ ?_];{rw[Ja];simp_all};rw[aW h3 h.2 g.g fl.1 g]}};obtain⟨p,c2,e9,f6⟩:=a i h.1 S;obtain⟨u,a3,l,D⟩:=a _ y b6;rw[bJ (SR d i ag)];delta Run.lb;rw[c0];rw[<-l,a0 (sd wy h) p.2 f6.symm];rw[T (i+1) Fc];{rw[q,ahR]at a3;have o3:=(SR d 0 (bn len.g q.l)).1 rfl;grind};{rw[et (cx hi q)]at a3;grind}}
universe GM
namespace GM
open Gla
variable{r:Plan}
structure Time(r:Plan)(t:Nat)(z:Pt):Prop where
 le:t<=aJ
 lo:E i (i<t) (qK z)
 hi:o i (t<=i) gY (VY eI=ab)
noncomputable def passes(r:Plan)(z:Pt)(x:Ln):cf:=gB x.1 x.2 (nb (i3 x.1 x.2))||gB x.2 x.1 (mK (i3 x.1 x.2))
noncomputable def spans(r:Plan)(t:Nat)(z:Pt)(e:Ln):cf:=cw (jT/\I2/\0<kb)
theorem aRm(p q z:Pt):eW q p z= -Kf:=by rw[ui];grind
theorem atb(x:Ln)(z:Pt):mq (rv x)=mq x:=by delta HM rv;simp only;rw[aRm (bp x.1) (bp x.2) z,Bool.or_comm];congr 3<;>(rw[decide_eq_decide];lia-abstractProof)
theorem aRn(Z:bq){e:Ln}(a0:iB)(z:Pt):bE (mq e) ((eG).y<=z.y/\z.y<(eH).y/\0<kb):=by have l:=yi;have:=aRb aIS;delta HM;simp;intro a b;grind-abstractProof
theorem atc{f:eh}{a:Nat}:∀n,jr (e3 (v a v (f v) 0)) n=mo (a<n) (f a)|0=>bI|n+1=>by simp only[jr,atc n];(split<;>lia)
theorem atd{f g:eh}:E n (ad v (v<n) (f v=g v)) (anr=jr g n)|0,_=>rfl|n+1,h=>by simp only[jr];rw[atd n (lB (h v Ji)),aJI]
theorem aRo{R:Arr}(Y:R.Ok){i:dB}(K:Nc R i)(T:uA):Ac e.1=Ac e.2:=by have a:∀(c5:Ln->Nat),V e gG (c5 e<R.n)->Ac (c5 e)=jr (e3 a'J) R.n:=by{intro c5 c2;have b4:(e3 a'J)=e3 (ct (v (c5 e) v (q5 (T v)) 0) gG):=by{funext v;rw[bC q (T v)];{rw[aIR];rw[Gi];simp};{simp only[q];have:(an (v (c5 e) v (Z ah (i e) xC) 0))=nk:=aT;simp;rw[Gj]}};rw[b4,ad2];refine BP oa;rw[atc (f:=e3 (o7 (T v))) R.n];simp[c2 e a0]};rw[a fN (f9 (bv jg (ju ew fp))),a eY (f9 (by have:=jg;simp[*]))];refine atd _ aoe;rw[K v d3]
theorem ate(h:Qh){e:Ln}(a0:iB):wB eG eH z=ah:=Dt HN
theorem aRp(Z:bq){t:Nat}{z:Pt}(T:oq)(h:Qh){e:Ln}(a0:iB)(a3:jT)(a9:I2):kb≠0:=by rw[fT];have:=Lb (mT e.1 a3) (mS e.2 a9 (yi).2) q;rw[am (ate h a0),nu]
theorem atf(Z:bq){t:Nat}{z:Pt}(T:oq)(h:Qh){i:dB}(K:Nc iu i):dM JB=dM O9:=by let d:uA:=e3 (cw (ii (eg).y amQ));have O:h2 (q5 (mq e)+q5 (d e.2)=q5 aMs+q5 (d e.1)):=by{rw[aah];have l:=yi;rw[eq (aRn Z a0 z)];have e8:bE aMs (jT/\I2/\0<kb):=by{delta V2;simp};rw[fJ aIS];have f6:=ate h a0;have c2:jT↔(eG).below z=ab:=by{constructor;rw[l (mT e.1)];{rw[fT,d9 e.1 t,Bc,IH (mS e.1 g ZX)]}};have N:I2↔VY eH=ab:=by{constructor;{rw[fT];exact mS e.2 q l.2};{rw[fT,d9 e.2 t,IH (mT e.2 g),l g]}};have m:eG≠z:=ah (by rw[d9 e.1 t];{have:=mT e.1 g;rw[am q,hH ig]};{have:=mS e.1 g bM;lia});have u:eH≠z:=ah (by rw[d9 e.2 t];{have:=mT e.2 g;lia};{have:=mS e.2 g ag;rw[am q,hH ig]});rw[c2,N]at e8;have n:∀{p:Pt},p≠z->p.y=z.y->p.x≠z.x:=fun{p}R b6 S=>R (by cases p;cases z;simp_all);have W:bE (d e.1) (ii (eG).y amR):=by{simp[d]};have d8:bE (d e.2) (ii (eH).y amS):=by{simp[d]};generalize eG=p at*;generalize eH=q at*;simp[ig]at e8 f;by_cases e5:ii p.y p.x;{have ns:¬aMs=ab:=ci ((e8.mp k).1.elim (fy (gE a e5.1)) (fy (a3a e5.2 a.2)));by_cases e6:ii q.y q.x;{rw[bj (ci (gE (aV (a9.mp k)) e6.1.symm)),bj ns,aK (d8.mpr e6),a_b]};{have j:z.y<q.y:=e5.1▸f.elim id (ci (cz ⟨k.1.symm.trans e5.1,ju e5.2 k.2⟩ e6));have L:0<Kf:=by{have b4:Kf=k7 p.x z.x:=by{rw[ui];grind};rw[b4,e5.1];exact hH (a2' (U6 j)) (a2' (U6 e5.2))};rw[aK (a9.mpr (v (qL e5.1) j L)),bj ns,baw,a_b];exact Int.add_comm _ _}};{by_cases e6:ii q.y q.x;{have Q:p.y<z.y:=by{rw[d9 p.y z.y,Bc];{exfalso;have b4:p.y=z.y:=f.elim (ci (cz (e6.1▸k) (a2_ g))) (ci (k.1.trans e6.1));have o:p.x<=z.x:=DU b4;have:q9 z:=by{delta wB eW dx dy Nk;simp[b4,e6.1,cp (wD p.x q.x) o,cp (ez e6.2) (HL p.x q.x)]};simp_all}};have L:0<Kf:=by{have b4:Kf=k7 q.x z.x:=by{rw[ui,ka]};rw[b4];exact hH ag ag};simp[*]};rw[baw,bj (ci (e5 (W.mp k))),Bool.eq_iff_iff.mpr (a9.trans (Iff.trans ⟨pD ((qT a).imp_right (e9 ⟨y,aA9 (DU y) (n m y)⟩)) (.inl b),pD (a.elim ez aHB) (b.elim id (ci (cz ⟨k.1.symm,k.2⟩ e6)))⟩ e8.symm))]}};have s:=BP O;rw[kq,kq]at s;rw[Gi,Gi];have w:ct (o7 (d e.1)) bY=ct (o7 (d e.2)) bY:=(aRo hI K d);simp_all
structure Cut(r:Plan)(s:Sw)(z:Pt)(A B:Row):Prop where
 row:o_=A++B
 hA:h9 A (kb<0)
 hB:h9 B (0<kb)
theorem atg(Z:bq){J:oe}{t:Nat}{z:Pt}(T:oq)(h:Qh){A B:Row}(C:Z3){i:dB}(K:Nc iu i){w:eh}(W:ahY iu J i aJ w):w hk=dM JB:=by have I:=pd hI t wF;rw[cc (W.Gg t wF),cd (W.last t wF)];rw[HP,oA]at c;rw[HP,oz]at l;rw[c7 (adS c.2),a6 l];rw[e,atf Z T h K];simp only[a3b];refine SM i ?_;have dQ:=Na;rw[HP,hs,qV]at dQ;rw[HG (SO dQ.2.1) (V3 _)];intro e;simp only[Nn,V2,iV];constructor;{intro m;rw[cm (x iv (ac HP hs (qO _ bG)))];exact d a.1 a.2.1 a.2.2 (C.hB e m)};{rintro⟨a,b,c,d⟩;have:=ae iv (v a b c);rw[HP,hs,hD]at this;rw[g7 this m,kw (C.hA e m),l m]}
noncomputable def lz(l:ao):cJ:=ah4 (oP 1)
theorem Lf(a b:Nat)(l:ao):lz (a::b::l)=(a,b)::lz (b::l):=bI
theorem Lg:Dq (aCB=aa a->ah5=aa b->td a (lz l) b)|[],a,b,h,_=>bB|[x],a,b,h,g=>by{simp at h g;subst h;subst g;rfl}|x::y::l,a,b,h,g=>by rw[l_];subst h;rw[Lf];rw[v rfl (Lg rfl ?_)];trivial
theorem ad_:∀{l:ao}{e:Ln},e∈lz l->e.1∈l/\e.2∈l|[],e,h=>kp lz|[x],e,h=>kp lz|x::y::l,e,h=>by rw[aj Lf,nC hF,aok];{simp};{have:=ad_ h;simp[*]}
theorem Gp:∀{l:ao}{e:Ln},JA->e∈lz l->Yn|[],e,_,h=>kp lz|[x],e,_,h=>kp lz|x::y::l,e,p,h=>by rw[aj Lf];rw[pe]at p;rw[nC hF,aok,a_,l (Gp p.2 h)]
theorem ad':tr (an5->td b (aCo rv) a)|[],a,b,h=>x E5|h::l,a,b,⟨a3,a9⟩=>H3 (ah6 (ce h.2 (ad' a9) a3))
theorem aea:∀(a b:cJ)(e:Ln),em (a++b)=em a+em b|[],b,e=>ar fl|h::a,b,e=>by simp[fl,aea a b e];simp+arith [*]
theorem aRq(h e:Ln):BR hj e= -O5:=by delta BR ind;have a:(hj=e)↔(h=rv e):=⟨ah (by rw[<-q];rfl),ah (de q)⟩;have b:(hj=rv e)↔(h=e):=⟨ah (bv (gB rv q) this),ah (by rw[q])⟩;simp+arith [*]
theorem ath:∀(l:cJ)(e:Ln),em (aCo rv)= -em l|[],e=>bI|h::l,e=>by simp only[a3c,fh,da,zw,aea,ath l e,fl,aRq];lia-abstractProof
theorem ati(Y:(gM).Ok){m:cJ}(nd:m.Nodup)(c4:df m iB):dz (V h l (h.1<h.2)) (cR (fl l) m) bb4|[],_=>a91|h::l,a5=>by rw[aKV];rw[this,kq,ati Y nd c4 (aJ (a5 x rA))];have b4:sM m=pe m:=by{show ct (Aq-Ar) m=_;rw[aLX];rw[this,kq,BS,K7 h nd,ad5 h nd];have c7:=a5 h bK;have:hj∉m:=ah (l6 (ee _ (c4 _ q)) (gx ew c7));simp[ind,this]};rw[b4];rfl
theorem SY(on:ON):eS OZ (· < ·):=cG HQ (ef a3d _)
theorem bjA{on:ON}{i:Nat}:i∈OZ↔gY/\on eI=ab:=i4 HQ
theorem Lh(Z:bq){l:ao}(s:JA)(h:ah7 r l=ab){e:Ln}(a0:e∈lz l):iB:=by rw[a4 ah7,aj Hx];have:=ZR;rw[a8g,iZ (Gp s a0),bY (qU dW) (HF dW),gh]
theorem Li{l:ao}{a:Nat}(s:JA)(b3:a∈l)(h:aK l (a<=x)):aCB=aa a:=by cases l with|nil=>{simp_all}|cons b J=>rw[pe]at s;simp at b3⊢;rw[al b3,l E5,mA (s.1 a q) (h b bK)]
theorem aeb{l:ao}{a:Nat}(s:JA)(b3:a∈l)(h:aK l (x<=a)):ah5=aa a:=by cases a5:ah5 with|none=>{simp_all}|some b=>rw[cl d7 (List.getLast?_eq_some_iff.mp a5)];rw[e]at s b3;rw[qV]at s;simp at b3;rw[al b3,mA (s.2.2 a q b bK) (h b ag)];{rw[q]}
theorem BX(Z:bq){p:Pt}(h:HR p=ab):bfw:=by rw[ca m (p∈de),ic m];exact beF
theorem Lj(Z:bq){i j:Nat}(hi:gY)(b8:om)(h:bbF):i<=j:=II (wC g hi)
theorem atj{t:Nat}{m:cJ}:Dq (c JA (aCB=aa a) (ah5=aa b) (V h (lz l) (h∈m↔h.1<t/\t<=h.2)) ((B (lz l) (da (pe m))).foldr (· + ·) 0=ind (t<=b)-ind (t<=a)))|[],a,b,_,h,_,_=>bB|[x],a,b,_,h,g,_=>by{simp at h g;subst h;subst g;simp[lz]}|x::y::l,a,b,p,h,g,q=>by rw[l_];rw[List.getLast?_cons_cons]at g;have f6:=V4 p;rw[dC (atj f6.2 rfl g (fun h c7=>q h (t Lf (mE bG))))];rw[Lf]at q⊢;rw[kz a3e d6];have j:=f6.1 y bK;have N:=q (x,y) bK;simp only at N;rw[YS];by_cases c:(x,y)∈m;rw[cM];lia-abstractProof
theorem atk{m:cJ}:k4 (V h l (h∉m)) (bb4=0)|[],_=>rfl|h::l,q=>by have:=atk (m:=m) (l:=l) (aJ (q x rA));rw[kz a3e this];simp[ind,q h bK]
theorem aRr(Z:bq)(n:Y2){J:oe}{t:Nat}{z:Pt}(T:oq)(h:Fy){A B:Row}(C:Z3):iR hk≠0:=by have Y:=hI;rw[a4 Dr,l_];obtain⟨v,u,D,E,f⟩:=h;delta V5 at n;rw[wS n];obtain⟨g4,h3,h6,f4,g7,g8,a5,W⟩:=n;rw[ak al s (BX Z g4),bF h7 i2 (BX Z h3)];obtain⟨c,e9,M⟩:=BX Z h6;obtain⟨d,dl,dp⟩:=BX Z f4;rw[fY iH bie (ar ig)];have a4:=sN (gl 0);rw[hz (sN Zg)];have c8:=sN (go 0);have d9:=sN am1;have b6:=vy (Z.BV _ (yK hi));have S:=vy (HK hi);have e5:=Li d9 (m2 h7) (l3 h7 m.1);have e0:=fn d9 dl dl;have K:=ad6 Y (ah6 (v b (Lg (Li a4 (m2 al) (aJ (Hp S))) (fn a4 h7 h7)) (ah6 (v d (Lg e5 e0) (ah6 (v c (ad' (Lg (Li b5 (m2 e9) (l3 e9 m.1)) (aeb b5 (m2 dl) (fun x G=>by rw[bJ (HS G)];refine Lj Z m.1 dl ?_;simp[*])))) (ad' (Lg (Li c8 (m2 al) (fun x G=>Hp G)) (fn c8 e9 e9))))))))) (aJ (by rw[beu];rcases S with S|S|⟨y,S,rfl⟩|⟨y,S,rfl⟩;rw[dS (Lh Z a4 g7 S),dS (Lh Z d9 W S),co (Lh Z b5 g8 S),co (Lh Z c8 a5 S)]));rw[j9 o (adX Y J K aJ aY)];have e:=atg Z T f C K o;rw[a6 (atf Z T f K)];have nd:c8 O9:=V3 _;rw[ak sub O9 iB (ff a0)];have c9:fl (jV (gl 0)++(jV am1++(F6 Zg++F6 (go 0))))=an (em (jV (gl 0))+(em (jV am1)+((-em (jV Zg))+(-em (jV (go 0)))))):=by{funext e;simp only[aea,ath]};rw[c9,kq,kq,kq,BS,BS,u2 a4,u2 b5,u2 c8,u2 d9]at e;have j:∀h:Ln,h∈O9↔N (h∈bY) (h.1<t) (t<=h.2) (0<i3 h.1 h.2):=da (ar V2);have c3:=ah (by have:=mS b q h7;rw[bY iH i2,uu];omega);have l:t<=d:=by{rw[d9 d t,i5 (mT d g),l g]};rw[nm (gl 0) (by have e1:=aJQ;have:=mS h.2 (bW aH8) e1.1;rw[am iH];have:=e1.2;rw[uu];lia-abstractProof),nm Zg (by have e1:=aJR;have:=mT h.1 (aV aH8);rw[am iH];grind-abstractProof),nm (go 0) (by rw[bJ aH8];have e1:=aJQ;have k:=wC (Gp c8 c7) e1.1;rw[bs iH];have d2:=(aJR).2;have q2:=e1.2;simp at d2 q2;rw[Hs be6];have:0<=bdi:=tc fq (x (Kv z.x));rw[b4]at m;have b9:be6= -(bdi):=by{lia};exact RV m.2.2.2 b9.m this),(atj (t:=t) (m:=O9) d9 e5 e0 (fun h c7=>by rw[j h];have e1:=aJQ;have k:=wC (Gp d9 c7) e1.1;rw[bs iH];have d2:=(aJR).2;have q2:=e1.2;simp at d2 q2;rw[Hs (bm alf ale*bm r.w z.x)];exact⟨ah ⟨q.2.1,aS q⟩,ah (d (Lh Z d9 W c7) q.1 q.2 (t b4 (hH fq (w6 u))))⟩))]at e;simp only[ind,c3,l,mL,iU]at e;rw[fT,ei (pd Y aJ aY)];have c0:iR 0=0:=by{have:=I.adU 0 VN;lia-abstractProof};have:=o.Gf hk 0 (by rw[cm ((pd Y t wF).gap hk (ac HP oB ama)),ca (J.oC wF aY)];exact cp a b) VN ai;rw[am o.zero];lia-abstractProof
universe GM
namespace GM
open Gla
variable{r:Plan}
noncomputable def yN(l:ao):cJ:=a_o
theorem aec(F:Fl):Gt (ar F (a+b) h=ar F a h++ar F b (cF a))|0,b,h=>eM ar it|a+1,b,h=>by rw[dy (a+1+b) ((a+b)+1)];simp[ar,aec F a b (F h),Gk,it]
theorem aRs{F:Fl}{h:Ln}{m j:Nat}(ret:cF m=h)(b8:j<=m):dg uK j++an uK j=ar F m lh:=by have b4:uK=ar F j h++ar F (m-j) lh:=by{rw[<-aec];rw[dZ];simp[*]};have b9:ar F m lh=ar F (m-j) lh++ar F j (it F (m-j) lh):=by{rw[<-aec];rw[dZ];simp[*]};have e7:it F (m-j) lh=h:=by{rw[<-yJ,mr (m-j+j) m,ret]};rw[b9,e7,b4];rw[cd (BU (F:=F) j h)];simp[*]
theorem atl(Z:bq){J:oe}{h:Ln}(H:rP){m:Nat}(P:sv rn h m):aP n j (j<m->m-j<=n->aCC n h FE=g0 (ar rn (m-j) FE))|0,j,b8,d1=>cu|n+1,j,b8,d1=>by rw[aS (m-j) ((m-(j+1))+1) (L m j b8 m (j+1)) (L m (j+1) b8 m j)];simp only[V6,ar,da];rw[dZ,ab e ((FE).2,r.next (FE).1 (FE).2) (it rn (j+1) h)];rw[e];rw[T (j+1) m];{rw[q,Nd];simp[ar]};{rw[bj (ahV (j+1) pZ Ys),atl Z (J:=J) H P n (j+1) Ys Bl];rfl}
noncomputable def Gq(r:Plan)(h:Ln):ao:=ah8 (aCC alI h h)
theorem atm:FY (aH7<=a/\aK l (aH7<=x))|[],a=>aT|b::l,a=>by have:=atm l aak;rw[YV];exact⟨cp ew aoG,aJ (ca (ib S) (an (t e (cp ew alQ))) (this.2 x))⟩
theorem atn:FY (aH7∈a::l)|[],a=>x fx|b::l,a=>by have:=atn l aak;rw[YV];grind-abstractProof
theorem aRt(Z:bq){J:oe}{h:Ln}(H:rP){m:Nat}(P:sv rn h m)(c4:m<=2*dR):∃j,j<m/\uP=g0 (gz FE)/\aK (gz h) ((FE).1<=x.1):=by have e:=atl Z (J:=J) H P alI 0 VT EU;rw[kx it ah9];delta Gq;rw[e];have len:=BU (F:=rn) m h;cases d3:gz h with|nil=>{rw[d3]at len;simp at len;have:=VT;simp_all}|cons a l=>simp only[da,ah8];generalize U:(Eu).foldl min a.1=W;rw[br mm (W∈aor) U (atn _ _)];have g8:=atm (Eu) a.1;rw[U]at g8;generalize b8:(a.1::Eu).idxOf W=j;rw[dE j4 (j<t aor),ca b (j<m),b2 j b ?_];{rw[ae D aor am9];rw[D,<-Dt,<-Ds,<-fh,aRs Nd (ig b)]};{rw[dE u9 (aa (a.1::Eu) W),ae D aor am9];rw[D,cA,Gm (F:=rn) m h j b]at u9;grind}
theorem ato:tr (an5->(Eu).zip (dg Eu 1++[b])=l)|[],a,b,_=>bI|[h],a,b,⟨a3,a9⟩=>a8p|h::g::l,a,b,⟨a3,a9⟩=>by rw[dC (ato a9)];have g7:=a9.1;simp at d6⊢;grind-abstractProof
theorem aRu(Z:bq){J:oe}{h:Ln}(H:rP){m:Nat}(c9:0<m)(ret:it rn m h=h):yN (am9)=gz h:=by have W:=K9 (Z.mp J) hI m H;rw[ret]at W;delta yN;have:an am9 1=[h.1]:=by{cases m with|zero=>{simp_all}|succ m=>rfl};rw[J this (ato W)]
theorem Lay.atp(Z:bq){h:Ln}:h∈ways r↔rP:=by delta ways oD;simp only[V7,hF,oW,Du];constructor;{rintro⟨l,a5,rfl|rfl⟩;rw[l pW,co a5]};{rintro(a3|a3);rw[l (v h a3 gm),l (v hj a3 EY)]}
structure Net(r:Plan):Prop where
 lay:bq
 frame:Y2
 conn:K8 iu
 aRv:E v (v<aJ) (asX iu v)
 start:fv bY (e.1=0)
variable{J:oe}
theorem Net.orb(N:j_)(J:oe){h:Ln}(H:rP):∃m g,sv rn g m/\dR g/\uP=g0 (gz g)/\yN uP=gz g/\kS=og/\ad x (dR x) (x∈gz g↔wA x=og)/\(o x (dR x) (wA x=og) (g.1<=x.1)):=by have Y:=Np;rw[aHQ,bY P c4 (aQ7 d5 Y H)];obtain⟨j,b,e,least⟩:=aRt iW (J:=J) H P c4;have G:=anf;have PG:=P.shift d5 Y H j;have i5:=ad8 d5 Y H j;rw[b m FE PG G e ?_ i5 (fun x X=>?_) (fun x X q=>?_),Z e (aRu iW (J:=J) G PG.pos PG.ret)];{rw[SW d5 Y ah_ G X PG,i5]};rw[l (least x (ae (SW d5 Y ah_ H X P) q))]
theorem Net.S0(N:j_)(J:oe){g h:Ln}(G:dR g)(H:rP):Gq r g=uP↔kS=og:=by rw[lO A G];obtain⟨n,b,c,B,f7,d1,i5,D,e⟩:=N.orb J H;constructor;{(intros;simp_all only)};{rw[fT,c4 u a.1 b.1,ci i hi (Nf (ae (D a A) (bj F q)))];have o:i=0:=by{have g8:ap (g0 (ar rn n b)) 0 a.1:=by{rw[cA,Gm _ _ _ c.pos,u];rfl};exact asW (aQ8 (a3f J) Np N.aRv B c) (by rw[cA,Gm _ _ _ hi,d2];rfl) g8};subst o;have f5:b=a:=d2;subst f5;have W:m=n:=by{rw[fi m n,cF d.ret (c.min m d.pos q),iA,cF c.ret (d.min n c.pos q)]};rw[d0,f7,W]}
noncomputable def iI(g:dB):anE|[]=>0|h::l=>g h+iI g l
theorem atr(Z:bq){g:dB}(j:∀e,g (rv e)= -g e):dz (V h l rP) (ct (em l*g e) bY) (iI g l)|[],_=>by{have:(an (em []*g e))=nk:=by{funext e;simp[fl]};rw[this,Gj];rfl}|h::l,H=>by have b4:(an (em (h::l)*g e))=an ((O5*g e)+(em l*g e)):=by{funext e;simp[fl];grind-abstractProof};rw[b4,kq,atr Z j aKb];simp only[iI];rw[dZ];have O:∀(e:Ln),O5*g e=bg0:=by{intro e;delta BR ind;rw[T h e,cM];grind-abstractProof};rw[ae b9 (an (O5*g e)) (an bg0)];rw[b9,kq];have i:∀(f:dB)(c:Int)(l:cJ),ct (f e*c) l=cR f l*c:=by{intro f c l;induction l with|nil=>{simp[cR]}|cons a b d6=>simp[cR,d6];grind-abstractProof};rw[i,i,K7 h Z.nd,ad5 h Z.nd];have Y:=hI;have d:=H h bK;rw[a9z];{have m:h∈bY:=d.up Y q;rw[baU];simp[ind,m,e1]};{have m:hj∈bY:=d.dn Y q;rw[baT];simp[ind,m,e1]}
theorem ats(f g:dB):l9 (iI (da (f h+g h)) l=iI f l+iI g l)|[]=>rfl|h::l=>by simp[iI,ats f g l];simp+arith [*]
theorem atu(f:dB)(c:Int):l9 (iI (da (c*f h)) l=c*iI f l)|[]=>ar iI|h::l=>by simp[iI,atu f c l];grind-abstractProof
theorem atv(p:eh):tr (an5->iI (da (p h.2-p h.1)) l=p b-p a)|[],a,b,h=>by{rw[cI];simp[iI]}|h::l,a,b,⟨a3,a9⟩=>by simp only[iI,atv p a9,a3];simp+arith [*]
noncomputable def S1(r:Plan)(h:Ln):Int:=v (bp h.1).x*v alf-v (bp h.2).x*v ale
theorem aRw(r:Plan)(l:ao):aCD r l=iI (S1 r) (yN l):=by delta aCD yN;generalize a_o=q;induction q with|nil=>{rfl}|cons a b d6=>exact AB
theorem Net.atw(N:j_)(J:oe){h:Ln}(H:rP):0<aCD r uP↔og≠0:=by have Y:=Np;rw[aHQ,lO A H];rw[<-F,<-aQ9 d5 Y ah_ ah' A d];let G:dB:=an (((gM).u e.1+(gM).u e.2)*((gM).k e.2-(gM).k e.1));have b4:cR (SS iu (fl (gz a))) (gM).lines=iI G (gz a):=atr iW (g:=G) (an (by simp only[G,rv];grind-abstractProof)) (re (dQ A j));rw[b4,aRw,R];obtain⟨pv,b⟩:∃pv:eh,∀v,pv v=An*(Y8*(amQ*(eg).y)+amQ*amQ):=aW kW;have b9:G=da ((An*Y8)*S1 r h+(pv h.2-pv h.1)):=by{funext h;simp only[G,tg,S1,ky,b];grind-abstractProof};have W:=K9 d5 Y m A;rw[d.ret]at W;rw[b9,ats,atu,atv pv W];have p:0<An*Y8:=hH N.lay.as4 aT;generalize An*Q9=c at*;generalize iI (S1 r) (gz a)=x at*;constructor;{rw[fT];have:=hH p q;rw[xM]};{rw[fT,s1 x,Bc,i5 (Nj (eX p) g)]}
theorem atx(Z:bq)(z:Pt):dz (V h l rP) (kr (zB (HM r z))%2) ((cR (fl l) JB)%2)|[],_=>a91|h::l,H=>by have d6:=atx Z z (l:=l) aKb;rw[aKV];rw[this,kq];have Y:=hI;have d:=H h bK;have nd:c8 JB:=V3 _;have b4:sM JB=pe JB-ind (hj∈JB):=by{rw[a_n];show ct (Aq-Ar) _=_;rw[aLX];rw[this,kq,BS];rfl};rw[b4];rw[bC p (mq h)];{rw[z u (mq hj=ab) atb p];rw[aia p,ic];rw[a9z];{have m:h∈bY:=d.up Y q;rw[baU];simp[ind,m,e1,p];lia-abstractProof};{have m:hj∈bY:=d.dn Y q;rw[baT];simp[ind,m,e1,u];lia-abstractProof}};{rw[z u (¬mq hj=ab) atb p];simp[*]}
theorem aRx(l:ao)(z:Pt):bE (aib r l z) (gt (yN l) (HM r z)%2=1):=by delta aib yN HM;simp
theorem aRy{z:Pt}(h:Fy):Qh:=Dt Dr
theorem aty(Z:bq){t:Nat}{z:Pt}(T:oq){A B:Row}(C:Z3):hk<ami:=by rw[cm ((pd hI t wF).gap hk (ac HP oB ama))];have b2:=J.oC wF aY;exact pT
theorem Net.inside(N:j_){t:Nat}{z:Pt}(T:oq)(h:Fy){A B:Row}(C:Z3){g:Ln}(G:dR g)(e5:kS≠0):bE (aib r (Gq r g) z) (iR hk=kS):=by have Y:=Np;rw[aHQ,lO b G];have c7:aK (gz a) (dR x):=re (dQ b j);rw[aRx,R];have M:=atx iW z c7;obtain⟨w,W,hw⟩:=as0 d5 Y ah_ ah' b d;rw[<-(atg iW T (aRy h) C (asZ d5 Y b d) W),hw _ (aty iW T C),F]at M;rw[aC O (ind (kS=0)) 0 (bj bG)];rw[O]at M;rw[ab f5 ((cA (gM).n).aP hk) (iR hk)];rw[f5]at M;delta ind at M;split at M;{rw[ka]};rw[ka]
theorem aed(N:j_)(J:oe){l:ao}:l∈th↔∃h,rP/\uP=l/\og≠0:=by delta wG;simp only[Nn,V8,fK,iV];constructor;{rintro⟨⟨h,hw,rfl⟩,a⟩;have H:=N.lay.atp.mp hw;exact ce h H (x (N.atw J H) a)};{rintro⟨h,H,rfl,a⟩;exact⟨bp h (N.lay.atp.mpr H),ae (N.atw J H) a⟩}
theorem aee{I:Type} [BEq I] [aCE I]:∀(n:Nat)(l:ba),ec<=n->l.eraseDups.Nodup|0,l,h=>ai|n+1,[],h=>aT|n+1,a::l,h=>by rw[List.eraseDups_cons];refine a3g (l2 (aee n _ cu));rw[V8];simp
theorem aRz(r:Plan):r.outlines.Nodup:=cG wG (a3h _ (aee _ (B (ways r) bbB) aY))
theorem Net.among(N:j_){t:Nat}{z:Pt}(T:oq)(h:Fy){A B:Row}(C:Z3){g:Ln}(G:dR g)(d8:kS=iR hk):a_H:=by delta aCF;rw[aK h];have c6:=H0 C;cases W:r.outlines.find? (cr (aib r l z))with|none=>{rw[a3j]at W;exact cz (ae (N.inside T h C G ag) d8.symm) (W _ (ae (aed N J) (ce g G ag)))}|some l=>have p:=List.find?_some W;obtain⟨x,X,rfl,R⟩:=x (aed N J) (a3i W);have:=x (N.inside T h C X R) p;rw[ae (N.S0 J X G) ag]
theorem Net.count(N:j_)(J:oe):Nq=t (dC ami bfo):=by have Y:=Np;rw[ei (pd Y aJ aY)];have ex:e7 (∃h,aHP->rP/\aHW=x):=ab (by by_cases q:aHP;{rw[aO h H (as1 Y J ah' (x:=x) q)];exact⟨h,as ⟨H,e⟩⟩};rw[l ⟨(0,0),J (cz z q)⟩]);let d:dg Ln:=ab (agS (ex x));have c0:=fun x q=>aA_ (ex x) q;have g:E x aHP (wA (d x)=iR x):=fun x q=>by{show iR (sd (cA aJ).side (d x))=_;rw[(c0 x q).2]};have p:r.outlines.Perm (gD (dC ami bfo) (Gq r (d x))):=by{rw[HG (aRz r) ?_]at⊢;{rw[rK];rw[aed N J];simp only[fK,Nn,aCG,iV];constructor;{rintro⟨h,H,rfl,c6⟩;have f:aHW<ami:=(Dk Y H);have o:=M_ _ f;rw[cc (I.K6 _ f),ab e og (iR aHW)];rw[<-e]at o c;rw[aa og (v o c c6) (ae (N.S0 J (c0 _ o).1 H) cu)]};grind-abstractProof};{rw[J3,h8 (List.nodup_range.filter _),rl e];simp only[Nn,aCG,iV]at b3 U;have:=x (N.S0 J (c0 a b3.1).1 (c0 b U.1).1) e;rw[g a b3.1,g b U.1,b3.2.1,U.2.1]at this;exact ne this}};rw[p.length_eq,bA]
theorem Net.follows(N:j_)(J:oe){h:Ln}(H:rP){i j:Nat}(b:dR (i,j)):bE (follows uP i j) (wA (i,j)=og):=by rw[lO A H];delta Gla.follows;rw[dR ((uP).zip (dg uP 1++an uP 1)) (yN uP),R];simp[*]
universe GM
namespace GM
inductive Gr(par:gq)(a:Nat):md|refl:a1 a a|step{b c:Nat}:par b=aa c->a1 a c->Pu
theorem Gr.trans{par:gq}{a b c:Nat}(h:Pu)(g:a1 b c):a1 a c:=by induction g with|refl=>{exact h}|step e _ d6=>exact .step e d6
structure DInv(a5:mb)(B:ao)(par:gq)(c:cE)(path:ao):Prop where
 nd:B.Nodup
 head:a_G
 yO:par 0=ae
 BY:a'P
 vj:bhi
 bjB:aK dJ nz
 chain:aK dJ (E t (a3k=aa t) (a1 x t))
 S2:e7 (c x<=Y5)
 seen:aK B (∀(j:Nat)(y:Nat),j<c x->aa (a5 x) y->y∈B)
 S3:E x (x∉B) (c x=0)
 fin:aK B (x∉dJ->c x=Y5)
 BZ:beD
 S4:∀(p q:ao),dJ=p++q->p≠[]->aK p (E t (p.getLast?=aa t) (a1 x t))
variable{a5:mb}{B:ao}{par:gq}{c:cE}{path:ao}
theorem aRA(a5:mb):aic a5 [0] uB nk [0]:=by rw[b ay rfl rfl ry ?_ ay ?_ aT (a bM ry ?_ ?_ ?_)];{rw[ZD]};{intro x S t c6;simp at S c6;subst S;subst c6;exact .refl};{(intros;trivial)};{rw[ZD]};{intro p q e c2 x S t c6;cases p with|nil=>{trivial}|cons y p=>simp at e;rw[cl rfl e];have:p=[]:=e.1;rw[gp];simp at S c6;subst S;subst c6;exact .refl}
theorem DInv.pop(D:q6 dJ){p:ao}{t:Nat}(e:dJ=p++[t])(h:c t=t (a5 t)):q6 p:=by rw[b D.nd V_ D.yO D.BY D.vj (aJ (Nr x ag)) ?_ D.S2 (a aid D.S3 ?_ D.BZ ?_)];{intro x S t' c6;exact D.S4 p [t] e cu x S t' c6};{intro x S d1;rw[iS t,l IW,l (V9 x S ag)]};{intro u c4 d3 a3 x S t' c6;exact D.S4 u (c4++[t]) ag a3 x S t' c6}
noncomputable def bump(c:cE)(t:Nat):cE:=ab (v x t (c x+1) (c x))
theorem DInv.old(D:q6 dJ){t y:Nat}(L:t∈dJ)(h:bby)(b6:y∈B):aic a5 B par (Dv c t) dJ:=by rw[b D.nd V_ D.yO D.BY D.vj Nr aCH ?_ (a ?_ ?_ ?_ D.BZ D.S4)];{intro x;delta Dv;split;rw[dY,l (D.S2 x)]};{intro x S j z b8 c9;rw[aHd];split at b8;{next q=>rw[N d j (c x),az,l (u3 (iT d))]};rw[l (u3 b8)]};{rw[Bs,td (S (q▸Nr t L))];delta Dv;rw[tX];exact D.S3 x S};{intro x S d1;rw[td (d1 (q▸L))];delta Dv;rw[tX];exact V9 x S d1}
noncomputable def Lk(par:gq)(y t:Nat):gq:=ab (av (x=y) t (par x))
theorem Gr.keep{y t:Nat}(b6:par y=ae){a b:Nat}(h:Pu):Gr aLy a b:=by induction h with|refl=>{exact .refl}|step e _ d6=>refine .step ?_ d6;delta Lk;split;rw[az,l e]
theorem DInv.new(D:q6 dJ)(sym:aps){t y:Nat}(last:a3k=aa t)(h:bby)(b6:y∉B):aic a5 (eN B) aLy (Dv c t) (eN dJ):=by have L:=a3l Dx;have C:=Nr t L;have r:=D.BY y b6;have b1:=aie (de V_);have k3:y≠0:=ah (b6 (q▸b1));have ix:et B (hf (eN B) a=dz a):=fun a b3=>cu;have i:t≠y:=ah (b6 (q▸C));have g:Gr aLy t y:= .step (x cP) .refl;rw[Cv (a ?_ ?_ ?_ ?_ ?_)];{rw[ah3];rw[aa D.nd aT (fun a b3 b U=>?_)];simp at U;grind-abstractProof};{cases B with|nil=>{simp_all}|cons a J=>simpa using V_};{delta Lk;simp[hv k3];exact D.yO};{intro b U;simp at U;delta Lk;simp[U.2];exact D.BY b U.1};{intro b U n;simp at U;rcases U with U|rfl;{rw[w e v w l (D.vj b U n)];have:b≠y:=ah (b6 (q▸U));rw[aP a (bx Lk this e) (x (vU _ bG)) w];simp[*]};{rw[aP t (x cP) (x (vU _ bG)) (bO h)];grind-abstractProof}};{rw[Bs];simp at S⊢;rw[f3 S S,dS (Nr x S),co bG]};{intro x S t' c6;simp at c6;subst c6;rw[P2,f3 S rfl,bfY,l .refl]};{intro x;delta Dv;split;rw[cM,l (D.S2 x)]};{intro x S j z b8 c9;simp at S⊢;rw[f3 S rfl];{rw[aHd];split at b8;{next q=>rw[N d j (c x),az,dS (u3 (iT d))]};rw[dS (u3 b8)]};{rw[aHd];simp[hv i]at b8;rw[D.S3 _ b6]at b8;simp_all}};{rw[Bs,P2,td (S.1 (q▸C))];delta Dv;rw[tX];exact D.S3 x S.1};{intro x S d1;simp at S d1;rw[f3 S S];{rw[td (d1.1 (q▸L))];delta Dv;rw[tX];exact V9 x S d1.1};grind-abstractProof};{intro a b3 b U l w;simp at b3 U;rcases U with U|rfl;{rw[bax];{rw[ix a b3,ix b U]at l;exact(D.BZ a b3 b U l w).keep r};grind-abstractProof};{rw[bax];{by_cases q:a∈dJ;rw[l (L ((aCH a q t Dx).keep r) g)];{exfalso;rw[fJ (V9 a b3 q),aO j b8 (ie w)];exact b6 (aid a b3 j b ag ag)}};{rw[Fn]}}};{intro p q e c2 x S t' c6;rw[N d7 q []];{subst d7;simp at e;rw[cb];simp at c6;subst c6;rw[P2,f3 S rfl,bfY,l .refl]};{obtain⟨c4,z,rfl⟩:∃c4 z,q=c4++[z]:=v q.dropLast (q.getLast d7) (bt (List.dropLast_concat_getLast d7));rw[pA dw];have:=List.append_inj_left' e rfl;exact(D.S4 p c4 this c2 x S t' c6).keep r}}
universe GM
namespace GM
structure Tree(a5:mb)(B:ao)(par:gq):Prop where
 sym:aps
 nd:B.Nodup
 head:a_G
 yO:par 0=ae
 BY:a'P
 vj:bhi
 Ll:aK B (dw (a5 x) (y∈B))
 BZ:beD
variable{a5:mb}{B:ao}{par:gq}{c:cE}
theorem DInv.tree(D:q6 [])(sym:aps):jl:=a sym D.nd V_ D.yO D.BY D.vj (fun x S y b6=>by rw[fJ (V9 x S jK),aO j b8 (ie b6)];exact aid x S j y ag ag) D.BZ
theorem Tree.zero(T:jl):0∈B:=aie (de T.head)
theorem Tree.reach(T:jl){P:md}(f:P 0)(e9:f a b I6 OI (P a) (P b)):aK B (P x):=by have:l k x nz apn (P x):=by{intro k;induction k with|zero=>{rw[bZ x _];simp_all}|succ k d6=>rw[bZ x S,iS 0,a_];{have⟨a,_,v,w,l⟩:=aJq;grind-abstractProof}};rw[Bs];exact bbU
theorem Tree.aef(T:jl){b c:Nat}(h:par b=aa c):z (b∈B) (b≠0) (c∈B) (b∈a5 c) (dz c<dz b):=by have U:=qM (ah (by rw[aj (T.BY b q),cI]));have b1:b≠0:=ah (by rw[q,T.yO]at h;rw[cI]);have⟨a,e,v,w,l⟩:=T.vj b U b1;rw[a6 h];simp_all
theorem Tree.S5(T:jl){a b:Nat}(h:Pu):dz a<=dz b:=by induction h with|refl=>{exact aY}|step e _ d6=>rw[h8 (a2 (aif e)) (ez (fg d6 this))]
theorem Tree.inj(T:jl){a b:Nat}(b3:I6)(U:b∈B)(h:dz a=dz b):a=b:=by rw[g3 (aih (xs:=B) (x:=b) (wH U))];grind-abstractProof
theorem atz{a b x:Nat}(h:a1 a x)(g:a1 b x):Pu\/a1 b a:=by induction h with|refl=>{rw[pc g]}|step e h d6=>cases g with|refl=>{rw[m1 (.step e h)]}|step d3 g'=>simp_all
theorem Tree.root(T:jl):aK B (a1 0 x):=by have:l k x nz apn (a1 0 x):=by{intro k;induction k with|zero=>{rw[bZ x _];simp_all}|succ k d6=>rw[bZ x S,iS 0,Z q .refl];{have⟨a,e,v,w,l⟩:=aJq;exact .step e (d6 a v (bn l h))}};rw[Bs];exact bbU
theorem aeg{a c u:Nat}(h:a1 a c)(e:Qo)(ne:a≠c):a1 a u:=by cases h with|refl=>{trivial}|step d3 h'=>simp_all
structure B_(a5:mb)(B:ao)(par:gq)(Z:cE):Prop where
 a:lx (Z v<=ny)
 b:oy (par w≠pI) (dz w)
 c:oy aHF (Z w)
 d:lx (Z v=ny\/(gA (a5 v) (par w≠pI/\dz w=Z v))\/(gA (a5 v) (aHF/\Z w=Z v)))
variable{Z:cE}
theorem B_.anc(W:Z9)(T:jl){v x:Nat}(h:a1 v x):Z v<=Z x:=by induction h with|refl=>{exact aY}|step e _ d6=>rw[lF e];have:=W.c _ (aS m) _ (aS m.2) e;exact pT
theorem B_.le(W:Z9)(T:jl){v x w:Nat}(h:a1 v x)(S:nz)(hw:w∈a5 x):Z v<=dz w:=by have a3:=W.anc T h;by_cases q:dM w x;rw[mA (W.a x S) (a2 (aif q)),cc (W.b x S w hw q) pT]
theorem B_.att(W:Z9)(T:jl){v:Nat}(d3:v∈B):bfv:=by have:l k v (v∈B) (eD-ny<k) bfv:=by{intro k;induction k with|zero=>{rw[bZ v _];simp_all}|succ k d6=>rw[bZ v d3];rcases W.d v d3 with q|⟨w,g,_,e⟩|⟨w,g,C,e⟩;rw[l (d v .refl d3 (.inl q)),l (d v .refl d3 (.inr (v w g e)))];{rw[lF C];have N:=wH m.1;obtain⟨x,a,b,S⟩:=d6 w m.1 (x (uW (aC eD (List.idxOf w B) N) (aS eD (List.idxOf v B)) h (a2 m)));rw[b2 x (L (Gr.step C .refl) a) b];rcases S with S|⟨z,a0,c1⟩;rw[i5 (W.le T (v:=w) (x:=w) (w:=v) .refl m.1 (Wa _ _ g))];grind-abstractProof}};exact this _ v d3 jW
theorem Tree.aRD(T:jl)(W:Z9){u c:Nat}(D:Qo)(h:dz u<=Z c)(f:u≠0):oL (¬a1 c a) (¬a1 c b):=by intro a b v w d j b0 d1;rw[lF D];have bo:=Nt a v b w;rw[u5 (ah (xd (Wb v bo q)))];{rcases atz bho d1 with k9|R;{have le:=W.le T d1 bo (Wa _ _ w);have:=T.S5 (aeg k9 D (ah (b0 (q▸.refl))));exact d (Wb v (aS m) (gC EB (cg h le)))};rw[cY]};rw[cc bhp (b0 (d1.trans this))]
theorem Tree.atA(T:jl){c u:Nat}(D:Qo):¬a1 c 0:=by rw[eF];cases h with|refl=>{rw[zH T.yO]}|step e _=>rw[a6 T.yO,dV]
theorem Tree.aRE(T:jl)(W:Z9){u:Nat}(f:u≠0)(h:E c Qo (Z c<dz u)){Q:md}(N:Q 0)(e9:oL (Q a) (Q b)):aK B (x≠u->Q x):=by rw[Ln (z≠u)];have:f k x nz apn (x≠u) (Q x):=by{intro k;induction k with|zero=>{rw[bZ x _];simp_all}|succ k d6=>intro x S c3 o;rw[iS 0,a_];{have⟨p,e,po,A,l⟩:=aJq;rw[N a9 p u];{subst a9;have lo:=h x e;have⟨y,j,I,b6⟩:=W.att T S;rw[e4 hw (gA (a5 y) (dz w=Z x))];have⟨w,g,n⟩:=hw;have d:=Nt y I w g;have r:w≠p:=ah cu;have below:C9 (z≠p):=fun z s _ q=>by{have:=T.S5 s;rw[fa];exact gx this l};have i:=e9 w y d (Wa _ _ g) r (tj y j I) (d6 w d (x (uW n.l lo l c3)) r);grind-abstractProof};grind-abstractProof}};intro x S o;exact this _ x S jW o
theorem Tree.aRF(T:jl){c:Nat}(D:Yc):oK (a1 c a) (a1 c b):=by intro a b v w y n R;have bo:=Nt a v b w;rw[b1 (dz a) (dz b)];{have:=Wb v bo e;rw[gp];exact R};{rw[u5 e,l (wI bho)];{rcases atz bhp R with f|d1;{rw[T b c,az];{have:=aeg f D q;have le:=T.S5 this;have:=Wb bo T.zero (by have z:dz 0=0:=by{cases B with|nil=>{rfl}|cons a J=>have:=T.head;simp_all};simp_all);exact cz this n}};rw[a_]}}
set_option tactic.hygienic true in theorem Tree.child(T:jl){x:Nat}(S:nz)(R:x≠0):z c Yc (a1 c x):=by have h:=T.root x S;have O:o y (a1 0 y) (y≠0) (z c Yc (a1 c y)):=by{rw[du y];induction h with|refl=>{simp}|step e h' d6=>rename_i b c;intro _;rw[T c 0];{rw[fa];exact v b e .refl};{obtain⟨d,d3,ad⟩:=d6 q;exact v d d3 (.step e ad)}};exact O x h R
theorem Tree.other(T:jl){c d:Nat}(D:Yc)(d3:dM d 0)(ne:c≠d):¬a1 c d:=by rw[eF];have:=aeg h d3 ne;have le:=T.S5 this;rw[lF D];exact gx le (a2 m)
theorem Tree.aRG(T:jl){c s:Nat}(one:E d (dM d 0) (d=c))(d8:s∈B)(s0:s≠0){Q:md}(v:Q s)(e9:oK (Q a) (Q b)):aK B (x≠0->Q x):=by have⟨C,g,n⟩:=aCI d8 s0;have:=one C g;rw[Ln (z≠0)];have X:=G C s n d8 (fun z j _ q=>by rw[fa];exact T.atA g j) v;have:f k x nz apn (x≠0) (Q x):=by{intro k;induction k with|zero=>{rw[bZ x _];simp_all}|succ k d6=>intro x S c3 R;have⟨p,e,po,A,l⟩:=T.vj x S R;rw[d7 f p,az];grind-abstractProof};intro x S R;exact this _ x S jW R
universe GM
namespace GM
open Gla
noncomputable def yP(a:EV):Nat:=t (a.filter (· ==ah))
theorem atB:∀{l:EV}{j:Nat},aa l ah->yP (Wc j ab)+1=yP l|[],j,h=>bB|b::l,0,h=>by{rw[l_];subst h;rfl}|b::l,j+1,h=>by rw[l_,dC (atB h)];unfold yP at d6⊢;simp only[List.set_cons_succ];grind-abstractProof
abbrev Bst:=ao×PU
noncomputable def Ca(a:Bst)(j:Nat):Bst:=bc0
theorem Gs{a:PU}{j x:Nat}(h:a.getD j ab=ah):am (a.setIfInBounds j ab) x ab=v x j ab (a.getD x ab):=by rw[e4 j4 (j<a.size),iS j,az];{simp only[q,iU];simp only[Wd,Array.size_setIfInBounds];split;{next l=>exact Array.getElem_setIfInBounds_ne l (hv q)};{rfl}}
theorem atD:∀(l:ao)(a:Bst),((ZL).2.size=a.2.size)/\(e7 (bE ((ZL).2.getD x ab) (sA x=ab\/x∈l)))/\(e7 (x∈(ZL).1↔x∈a.1\/(x∈l/\sA x=ah)))/\((ZL).1.length+yP (ZL).2.toList=a.1.length+yP a.2.toList)|[],a=>aT|j::l,a=>by rw[YV,vg (atD l (Ca a j))];cases U:sA j with|true=>{have e:Ca a j=a:=by{delta Ca;exact kR};rw[fU]}|false=>have e:Ca a j=a72:=by{delta Ca;simp[U]};rw[dE j4 (j<a.2.size)];rw[e]at a3 a9 e2 e5⊢;rw[b2 ag Jk Jk,IQ (a9 x),IQ (e2 x)];{rw[e5];simp only[ic,Array.toList_setIfInBounds];have:aa a.2.toList ah:=ai;have:=atB this;simp+arith [*]}
structure SInv(a5:mb)(n:Nat)(first:md)(P:md)(i:ao)(seen:PU):Prop where
 size:seen.size=n
 atE:aK i (P x/\x<n)
 base:E j (zF j) (p3 j)
 sound:o j (j<n) (p3 j) (zF j\/P j)
 Ll:o x (x<n) (p3 x) (zF x\/x∈i\/dw (a5 x) (p3 y))
theorem atG{d:fv ao}{n:Nat}{first P:md}(d1:a9M)(C:Gh (¬zF b)):∀(r:Nat)(i:ao)(seen:PU),fM zF i Nu->i.length+yP seen.toList<=r->fM zF [] (aij d r i Nu)/\E x (p3 x) (am (aij d r i Nu) x ab=ab)|0,i,seen,I,h=>by{have:i=[]:=a3n ai;rw[gp];exact⟨I,fun _ h=>h⟩}|r+1,[],seen,I,h=>by{simp only[aij];simp_all}|r+1,k::J,seen,I,h=>by simp only[aij];rw[ab e ((Nv k []).foldl (fun(a:bL Nat×fv cf)(j:Nat)=>bc0) (J,Nu)) a92];rw[e];rw[vg (atD (Nv k []) (J,Nu))];generalize a92=z at*;simp only at a3 a9 e2 e5;rw[cd (I.atE k bK),l_];obtain⟨r1,r2⟩:=atG d1 C r z.1 z.2 (by rw[j (t a3 We) qq (i8 (ae (a9 j) (.inl (aii j b8)))) (fun j b8 c0=>?_) (fun x S c0=>?_)];{rcases x (e2 x) S with q|⟨q,g⟩;rw[l (I.atE x rA)];{rw[v (C k x l.2 l.1 q (fun f=>?_)) (d1 k x q)];rw[aii x f]at g;rw[ub]}};{rw[al (x (a9 j) c0),l (I.sound j b8 q)];by_cases f:zF j;rw[dS f,co (C k j l.2 l.1 q f)]};{rw[bC q (a3m x ab)];{rcases I.Ll x S q with c|c|c;rw[Fs];{rw[eo]};simp_all};simp_all}) (bn e5.l h);simp_all
theorem aRH(l:EV):yP l<=ec:=AW
theorem aRI{d:fv ao}{n i:Nat}{first:PU}{P:md}(hi:i<n)(c0:first.size=n)(d1:a9M)(C:Gh (¬aCK b ab=ab))(f:P i)(c:aCK i ab=ah):fM (iY (aCK j ab=ab)) [] (aik d n i zF)/\am (aik d n i zF) i ab=ab:=by have:=atG d1 C (n+1) [i] (aCJ i ab) (by rw[j (ar c0) qq Ru a9G (fun x S h=>?_),az];{rw[Gs c];simp[b8]};{rw[aj (Gs c)];lia-abstractProof};{rw[aj (Gs c),eo]}) (by have:yP (pD (aCJ i ab))<=(aCJ i ab).toList.length:=aRH _;rw[eo]);rw[v ew (this.2 i ?_),J (Gs c) cP]
variable{r:Plan}
theorem Lm(r:Plan)(x:Nat):r.nears.getD x []=if x<aJ then ij x else []:=by delta aCL;simp only[Wd];split;rw[baK,Pr]
theorem Lo(n x:Nat):am (Dy n) x ab=! cw (x<n):=by delta Dy;simp only[Wd];split;rw[baK];simp_all
theorem atH(d1:aJe)(b1:0<aJ){P:md}(f:P 0)(C:f a b (a<aJ) (P a) amH (P b)):let z:=XY;Wf=aJ/\g4 0/\(o j om (g4 j) (P j))/\o x (x<aJ) (g4 x) a'q:=by rw[tP,t 0 (Dy aJ) b1 (by rw[Lm]at b6;grind) (fun a b b3 u U _=>C a b b3 u (by rw[Lm]at U;simpa[b3]using U)) f (ms Lo b1),w I.1.size I.2 a9G (fun x S h y b6=>?_)];{rw[bfp];{rw[cR Lo];simp at q;lia};rw[iA]};{rcases I.1.Ll x S h with q|q|q;{rw[cR Lo];simp at q;omega};rw[az,l be8]}
theorem atJ(d1:aJe){i s:Nat}(hi:gY)(c0:s<aJ)(ne:s≠i){P:md}(f:P s)(C:∀a b,c (a<aJ) (P a) amH (b≠i) (P b)):let z:=ir s ZP;Wf=aJ/\g4 s/\(∀j,i om (j≠i) (g4 j) (P j))/\(e7 (i (x<aJ) (x≠i) (g4 x) a'q))/\g4 i:=by rw[tP];have k:E x (x<aJ) (am ZP x ab=ar x i):=aJ (by rw[Gs (ms Lo hi),Lo];simp[*]);rw[t s ZP c0 (by rw[Lm]at b6;grind-abstractProof) (fun a b b3 u U w=>by have j6:amH:=by{rw[Lm]at U;simpa[b3]using U};grind-abstractProof) f ag,j I.1.size I.2 (fun j b8 d h=>?_) (fun x S c h y b6=>?_) (I.1.base i ag)];{rw[bfp,az,iA]};{rcases I.1.Ll x S h with q|q|q;rw[az,az,l be8]}
theorem atL{z:PU}{n:Nat}(h:Wf=n):bE (z.contains ah) (z j (j<n) (ail j ab=ah)):=by rw[Array.contains_iff_mem,Array.mem_iff_getElem];constructor;{rw[iL i hi];exact v i (bV hi h.l) (bx Wd hi e)};{rw[ao9,cm j4 (j<Wf)];exact v j j4 ai}
universe GM
namespace GM
open Gla
structure UF(f:ao)(cnt:Nat)(aP:cE):Prop where
 len:Dz=cnt
 le:BO (l<=x)
 same:aP x l (alm->aP l=kP)
 root:BO (l=x↔kP=x)
variable{f:ao}{cnt:Nat}{aP:cE}
theorem UF.get(d:FH){x:Nat}(h:I5):z l alm (l<=x):=by rw[z S (x<Dz) qX h];exact av (dd S) (Nw x _ (dd S))
theorem aRJ:UF [0] 1 id:=by rw[b2 rfl ?_ ?_]<;>rw[bZ x l]<;>(cases x<;>rw[l_])<;>subst h<;>simp
theorem atM{l:ao}{x m:Nat}(a5:x<ec)(y k:Nat)(h:ap (Wc x m) y k):(y=x/\k=m)\/(QK/\K l y k):=by rw[b1 y x];{rw[cb,aj (MB a5)];exact .inl (bd (bt (c_ h)))};rw[gP (Vg (hv e)) (.inr (iE e))]
theorem UF.aRK(d:FH){x l m:Nat}(a5:alm)(c4:K f l m)(ne:l≠x):UF (Nx x m) cnt aP:=by have a:=Nw x l a5;have le2:=Nw l m c4;have O:fX (Nx x m) (y=x/\k=m) QK:=atM (bx a5);rw[aMA,D9 pT];{rw[YF];{rw[HU l k c4,HU y l a5]};rw[l aLc]};{rw[YF];{have:=(Wg y l a5);rw[fU]};rw[l aLd]}
theorem UF.found(d:FH){x:Nat}(h:K f x x):kP=x:=x (Wg x x h) rfl
theorem UF.Lp(d:FH):∀{x:Nat},I5->kP<=x/\K f kP kP:=by intro x;induction x using Nat.strongRecOn with|ind x d6=>rw[eF];obtain⟨l,a5,le⟩:=aim h;rw[T l x];{rw[fa];rw[Wh a5];trivial};{have:=d6 l (cx le q) aKA;rw[am (HU x l a5)];lia-abstractProof}
theorem UF.K6(d:FH){x:Nat}(h:I5):aP kP=kP:=Wh (d.Lp h).2
theorem UF.link(d:FH){a b:Nat}(b3:a<cnt)(U:b<cnt):UF (Nx FK aal) cnt (s_ aP a b):=by have F:=d.Lp b3;have i5:=d.Lp U;rw[mq c (K f FK FK),c7 (Wh c)];generalize g:FK=d5 at*;generalize c4:aal=m at*;have O:fX (Nx d5 m) (y=d5/\k=m) (y≠d5):=atM (bx c);have mg:∀x,ow x=v kP d5 m kP:=ab (by delta s_;rw[g,c4]);rw[aMA];{rw[YF,Ju,l aGQ]};{rw[mg,mg];rw[YF];{rw[e,(Wh fq)];simp};{rw[aLc]}};{rw[mg];rw[aMQ,a_];{have J:=aLd;lia-abstractProof}}
theorem UF.new(d:FH):UF aau (cnt+1) apf:=by have O:fX aau (y=cnt/\k=cnt) (y<cnt):=by{rw[bZ y k];by_cases q:y<Dz;rw[gP (hC q) (.inr (iE (bl qX q)))];{rw[aj (ph (j9 q))];have:y-Dz=0:=bz;rw[aj this,l_];left;have:=qX;grind}};rw[aMA,D9 aY];{rw[aMQ];{rfl};{have:=aGQ;rw[aO kl k cnt Rm,i8 q kl];exact aLc}};{rw[aMQ];{simp};{rw[aIR];exact aLd}}
variable{r:Plan}
theorem atQ{al f:Int}{a b c:gy}(b3:0<cS a)(U:0<cS b)(b0:0<cS c)(a3:cr a b<0)(a9:cr b c<0):cr a c<0:=by have id:=as6 al f a b c;have e9:=Dn a3 b0;have f6:=Dn a9 b3;rw[f4 (vh a c),po aob b];have:0<aob:=by{rw[al (mQ 0 aob),l q,i5 (VX q (eX U))]};simp_all
theorem aei(Z:bq){v a:Nat}(h:JO):0<kd 1 (r.w+1) (d5 a):=by rw[cd (f_ _ h)];rw[ad9];have:=Dm l.1 l.2;simp_all
theorem aRL(Z:bq){v a b:Nat}(b3:JO)(U:uG)(ne:AS):aoH≠0:=by rw[fT];have F:=f_ _ b3;have i5:=f_ _ U;have O:∀{a b:Nat},c JO uG (a<b) (aoH=0) cF:=by{intro a b b3 U l q;have F:=f_ _ b3;have o:=Lb (wC F.1 F.2) (wC l (f_ _ U).2) (by rw[yM,vh,q];rfl);rw[Z.on _ U a F.2 bz bz]at o;cases o};rw[u5 ne,az,l (O U b3 l (by rw[vh,q];rfl))]
theorem aRM(Z:bq){v a b:Nat}(b3:JO)(U:uG)(h:O6):bbp:=by have Y:=hI;refine aQI Y b3 U rfl ?_;rw[aK3];{have e2:Rn=a:=by{rw[Jh];simp;exact kR};rw[e2];rw[(wz _ b3)];refine(aKT).mpr ?_;show 0<akX;rw[yM,vh];simp[*]};{rw[fK Rn b oZ];rw[e2];rw[(wz _ U)];refine(aKU).mpr ?_;rw[J yM h]}
noncomputable def S6(r:Plan)(v:Nat)(row:ao)(a:Nat):ao:=let n:=t (Wj Bo);ain n++a::Wi n
noncomputable def aej(r:Plan)(v:Nat)(c:ao):ao:=A7 []
theorem aRN(v:Nat)(row:ao)(a:Nat):eN aMu (a::row):=by delta S6;simp only;generalize t (Wj Bo)=n;have:(ain n++a::Wi n).Perm (a::(ain n++Wi n)):=aCM;rwa [DA]at this
theorem aRO(Z:bq){v a:Nat}{row:ao}(a6:bH row uG)(b3:JO)(b0:a∉row)(dQ:aJS):gS aMu O6:=by delta S6;simp only;have b4:=zG (p:=Bo) (l:=row);generalize hA:(Wj Bo)=A at*;generalize hB:(air Bo)=B at*;have t:ain ih=A:=by{rw[<-b4];exact aiq};have d:Wi ih=B:=by{rw[<-b4];exact aip};rw[t,d];rw[<-b4,qV]at dQ;have g:bH A (cr (d5 b) (d5 a)<0):=by{intro b U;rw[<-hA]at U;have:=Wk (a3o (p:=Bo) (l:=row)) b U;rw[uu,am yM];exact this};have h:bH B O6:=by{cases e:B with|nil=>{rw[Yr]}|cons c n=>have u:¬eW eg (bp c) rp<0:=by{have:=aio Bo row;rw[bY hB e,gh]};have k5:c∈row:=by{rw[<-b4,e];exact qO _ fx};rw[fJ (aRL Z (a6 c k5) b3 (ah (b0 (q▸k5))))];rw[yM]at u;rw[z k9 (cr (d5 a) (d5 c)<0) vh (Int.neg_neg_of_pos (Int.lt_iff_le_and_ne.mpr ⟨agR u,hv f⟩))];intro b U;simp at U;rw[de U U,a_];{rw[hz dQ.2.1];rw[e,pe]at b5;exact atQ (aei Z b3) (k6 c k5) (k6 b bz) k9 (b5.1 b U)}};grind
theorem aek(Z:bq){v:Nat}:∀(c row:ao),c (V b row uG) (V b c uG) (row++c).Nodup (aJS) (eN (A7 row) (row++c)/\gS (A7 row) O6)|[],row,_,_,_,s=>EU|a::c,row,a6,c6,nd,s=>by rw[YV];have p:=aRN (r:=r) v row a;rw[dC (aek Z c aMu (dc cu) (dc (c6 b rA)) cu (aRO Z a6 (c6 a bK) (ah cu) s))];grind-abstractProof
universe GM
namespace GM
open Gla
variable{r:Plan}
theorem aRP(Z:bq):eU amH (a∈ij b):=fun a b h=>ae (vi Z) (aJx).rv
theorem Lq(Z:bq):aJe:=fun x y h=>(aJx).BQ hI
theorem ael(Z:bq):e7 (dw (ij x) (x<aJ)):=fun x y h=>(aJx).yI hI
variable{B:ao}{par:gq}{lo:cE}
theorem aRQ(Z:bq)(b1:0<aJ)(T:aCN ij B par){i:Nat}(hi:gY):bE (am XY i ah) (i∈B):=by have s:=atH (r:=r) (Lq Z) b1 (P:=ab nz) T.zero (fun a b _ b3 U=>Nt a b3 b U);rw[P4];generalize XY=z at*;have e:ail i ah=ail i ab:=by{simp[*]};rw[e];constructor;rw[az];{intro c4;have:=T.reach (P:=ab (x<aJ->g4 x)) (as s.2.1) (fun a b _ U b3 _=>s.2.2.2 a (ael Z a b U) (b3 (ael Z a b U)) b U) i c4;exact this hi}
theorem aRR(Z:bq)(a3:1<aJ)(T:aCN ij B par)(W:B_ ij B par lo)(all:im (i∈B))(lt:∀i∈B,gY){i:Nat}(hi:gY):bE (Wl Wm aJ i) bhA:=by delta Wl;have c0:a9k<aJ:=by{(split<;>exact cp tF a3)};have ne:a9k≠i:=by{lia};rw[h7 (ez (as gC) fZ (jo fZ)).1];rw[atL e8];rw[d7 o i];{subst o;rw[cP]at c0 ne e8⊢;constructor;{rw[ao9];refine .inl (bd aHO);obtain⟨c,D,_⟩:=aCI aoI eP;rw[bed,P4];generalize mu 1 0=z at*;have:=T.aRG (fun d d3=>qM (ah (f6 (a d c d3 D q)))) aoI eP (Q:=ab (g4 x)) s.2.1 biG j (all j b8) Qn;rw[amJ,dV]};{rintro(⟨_,c,d,D,d3,R⟩|⟨q,_⟩);{rw[bH l t (aCI aoI eP)];obtain⟨g,pg,k⟩:z g (dM g 0) (f≠g):=bz;have s:=ez (ab (nz/\x≠0/\a1 f x)) (v aoI eP t) (fun a b _ u U n=>v (Nt a u.1 b U) n (T.aRF l a b u.1 U u.2.1 n u.2.2));rw[P4,lF pg,ak g (lt g m.1)];cases e:am (mu 1 0) g ab with|false=>{rfl}|true=>rw[dT (s.2.2.1 g (lt g m.1) Au e).2.2 (T.other l pg k)]};rw[cY]}};{rw[bj o]at c0 ne e8⊢;constructor;{rw[ao9];refine e1 o aHO;rw[bed,P4];generalize ir 0 ZP=z at*;have:=T.aRE W o (fun c D=>ai) (Q:=ab (g4 x)) s.2.1 biG j (all j b8) Qn;rw[amJ,dV]};{rintro(⟨q,_⟩|⟨_,c,D,h⟩);rw[cY];{have s:=ez (ab (nz/\x≠i/\¬a1 c x)) (v T.zero (ah (o zD)) (T.atA D)) (fun a b _ u U p=>v (Nt a u.1 b U) p (T.aRD W D h o a b u.1 U u.2.1 p u.2.2));rw[P4,lF D,ak c (lt c m.1)];cases e:am (ir 0 ZP) c ab with|false=>{rfl}|true=>refine cz .refl (s.2.2.1 c (lt c m.1) akW e).2.2;simp_all}}}
theorem atR(Z:bq)(n:Y2)(a3:1<aJ)(d:alX)(l2:im (am XY i ah=ab))(m:im (Wl Wm aJ i=ah)):j_:=by rw[aP Z n (fun P f e9 v d3=>?_) (fun v d3 P s c0 a0 c5 e9 x S f3=>?_)];{have s:=atH (r:=r) (Lq Z) dW (P:=P) f (fun a b _ u U=>e9 a b (x (vi Z) U) u);rw[P4];have g:v<aJ:=d3;simp_all};{rw[f4 d3];let b:=ct v 1 0;have a5:b≠v:=by{rw[a9w]};have k:=m v g;unfold cuts at k;have reach:∀{Q:md},Q b->(∀a c,c (dR (a,c)) (a≠v) (c≠v) (Q a) (Q c))->o y (y<aJ) (y≠v) (Q y):=by{intro Q l X y b6 i2;have f9:=atJ (r:=r) (Lq Z) g cu a5 (P:=fy (a≠v/\Q a)) ⟨a5,l⟩ (fun a c _ u b0 e=>⟨e,X a c (x (vi Z) b0) u.1 e u.2⟩);simp only at f9;have all:¬(z j om (am (mu b v) j ab=ah)):=by{rw[<-atL f9.1];simp only[b];rw[k];simp};simp_all};exact reach (bv (reach (Q:=e9 (P y->P b)) (da h) (fun a c k9 t e d6 D=>d6 (e9 c a k9.rv e t D)) s c0 a0) (this c5)) e9 x S f3};{cases d1:ij 0 with|nil=>{grind-abstractProof}|cons y J=>rw[cm o (y∈ij 0)];have H:=x (vi Z) o;rw[Km,l (bp (0,y) H)];{have:=f_ _ H;rw[hH rv]}}
universe GM
namespace GM
open Gla
variable{r:Plan}
structure Ord(r:Plan):Prop where
 dQ:a25 (nS xP)
 wide:cA de QD
 BV:a'6
 lt:a'A
 ls:r.lines.Pairwise (ft aol)
theorem iH{p q:Pt}:bie:=ar ig
theorem mx(p:Pt):¬pf p=ab:=nP iH
theorem vk{p q J:Pt}(h:xP)(g:Nh J=ab):pf J=ab:=by rw[iH]at*;exact FY h g
theorem S7{p q:Pt}(h:p≠q):pf q=ab\/Nh p=ab:=by rw[iH,iH];rw[N y p.y q.y];{have:p.x≠q.x:=ab (h (by cases p;rw[kJ];simp_all));rw[ka]};{rw[ka]}
theorem Cb{a b:Ln}:bE (kC a b) (a.1<b.1\/(a.1=b.1/\a.2<b.2)):=ar kC
theorem Ord.nd(Y:dA):a24:=Y.ls.imp (ww (by rw[cb,aj Cb];simp_all))
theorem Ord.below(Y:dA){i j:Nat}(h:i<j)(b8:om):qK (bp j):=D3 (Ni Y.dQ i j (b7 h b8) b8 h)
theorem Ord.inj(Y:dA){i j:Nat}(hi:gY)(b8:om)(h:eI=bp j):i=j:=by rw[aMT,Hb b8,l l,Hb hi]
theorem Ord.lt_iff(Y:dA){i j:Nat}(hi:gY)(b8:om):bE ((eI).below (bp j)) (i<j):=by constructor;{rw[eF,aMT,l l];{subst l;exact cz h (mx _)};rw[cF (vk h (zH l hi)) (mx _)]};{rw[eF];exact zH h b8}
theorem Ord.mw(Y:dA){i j:Nat}(h:i<j)(b8:om):aK7:=GM.mw (or ES) (zH h b8)
noncomputable def hZ(p q J:Pt):cf:=pf J&&(J.below q&&cw (i9 J=0))
theorem Gu{p q J:Pt}(h:xP):bE (hZ p q J) (q9 J/\J≠p/\J≠q):=by revert h;revert p q J;refine aqa;rw[co p q J,eF];delta hZ;simp only[ia,iV];constructor;{rw[aLs,aa (Lb a3 a9 e2) Y7 Y7,sT (mx _ a3),sT (mx _ a9)]};{rw[aLs];delta wB at a3;simp only[ia,aCP,Nk,iV]at a3;obtain⟨u,⟨e7,f5⟩,i8,d6⟩:=a3;rw[aj iH];have r:p.y<=q.y:=by{lia};rw[qU r]at i8;rw[HF r]at d6;have d:∀{a b:Pt},AS->a.y=b.y->a.x≠b.x:=fun{a b}ne b6 S=>ne (by cases a;cases b;simp_all);delta eW dx dy at u;rw[bL eq (D_ J.x) (fK J.y p.y),bL c (bm J.x q.x*bm q.y p.y) (fK J.y q.y),gT f p.y (by rw[ae z (bm J.y p.y) 0,b2 aCO eq];rcases ais eq with w|w;rw[l ((d a9) a bM),dY]),gT g q.y (by rw[ae z (bm J.y q.y) 0,b2 aCO c];rcases ais c with w|w;rw[l ((d e2) a bM)];{lia}),cq ?_ u];{rw[iH];grind};{rw[iH];grind}}
theorem aRS{p q J s:Pt}{k:Pt->Int}(f:Hl (k z))(h:aMq=ab)(a3:k p<k q)(a9:k J<k s):k p<k s:=by refine aHN;rw[ak b c3 f,a4 zC,yC h,zf h];have id:i9 s*k J-i9 J*k s=aIu*k q-aIv*k p:=by{rw[c3,c3,c3,c3];rw[ui];grind-abstractProof};have sm:i9 s-i9 J=aIu-aIv:=by{rw[ui];grind-abstractProof};generalize i9 s=A at*;generalize i9 J=B at*;generalize aIu=C at*;generalize aIv=D at*;generalize k p=kp at*;generalize k q=c at*;generalize k J=e at*;generalize k s=K at*;have b4:(A-B)*K-A*(K-e)=(C-D)*kp+C*(c-kp):=by{lia-abstractProof};rw[sm]at b4;have b9:aLU+C*(c-kp)+A*(K-e)=0:=by{lia-abstractProof};rw[bs A b3 b3 b3];{have U:0<B:=by{rw[al (mQ 0 B),iA,i5 (ait q (eX b3))]};have W:aLU<=0:=VX (GC sm.n) ai;have d8:C*(c-kp)<0:=Dn (by rw[al (mQ C 0),l q];{rw[b4 d (0<D) (aI4 sm.n q U b3)];have:=tc q (eX d);grind-abstractProof}) ag;have j:A*(K-e)<0:=Dn b3 ag;exact aG4 W b9.n j d8};rw[az];{have U:B<0:=by{rw[al (mQ B 0),iA,kw (tc q (eX b3))]};have W:0<=aLU:=tc (GC sm.m) (x (r_ (aMt n)));have d8:0<C*(c-kp):=hH (by rw[al (mQ 0 C),l q];{rw[b4 d (D<0) (aI4 sm.m q U b3)];have:=ait q (eX d);lia-abstractProof}) ag;have j:0<A*(K-e):=hH b3 ag;exact aG4 b9.m j d8 W}
theorem aRT(r:Plan):Hl tS:=v (r.w+1) 1 (J (i4 ky))
noncomputable def Lr(r:Plan)(l m:Ln):cf:=(pF).below (bp m.2)&&aMr
theorem S8(Y:dA){l m:Ln}(a5:l∈bY)(c4:m∈bY):Lr r l m=aMr:=by delta Lr;cases h:aMr with|false=>{simp}|true=>have X:=Ro;have G:=ee m c4;have:=aRS (aRT r) h (Y.mw X.1 X.2) (Y.mw G.1 G.2);simp[(x (aQ' (or ao8) (or G.2)) this)]
theorem atU(Y:dA){l:Ln}(a5:l∈bY):bE ((eL aJ).any (ci (k !=l.1&&(k !=l.2&&wB pF rq (bp k))))) (∃p∈de,hZ pF rq p=ab):=by have X:=Ro;rw[ca (zH X.1 X.2)];rw[tk];constructor;{rw[hr k c3];simp at c3 h;rw[aa (bp k) (yK c3) (ae (Gu b) (v h.2.2 (an (h.1 (Wn c3 ao8 e))) (an (h.2.1 (Wn c3 X.2 e)))))]};{rw[hr p c2,aO k c3 (ie c2),bhb];have:=x (Gu b) h;rw[ak k (ar c3),xr]}
noncomputable def Gv(r:Plan)(i:Nat)(l:Ln):cf:=o7 (dg (Wo l.2) (l.1+1)) (aCQ i)
theorem S9(Y:dA){i:Nat}{l:Ln}(a5:l∈bY):Gv r i l=alq:=by have X:=Ro;delta Gv DD;rw[dZ];{rw[iQ,atU Y a5,tk];constructor;rw[cM];{rw[hr p c2,cq p h];have⟨k,c3,e⟩:=ie c2;rw[bhb,a4 hZ,nC ia];rw[<-d3]at h;have c0:=x (Y.lt_iff ao8 c3) h.1;have f7:=x (Y.lt_iff c3 X.2) h.2.1;rw[a3p];exact⟨k-(l.1+1),by rw[DB,m (l.1+1+(k-(l.1+1))) k k (l.fst+1) c0 k (l.fst+1),sX f7,dd c3,e]⟩}};{rw[iQ,tk,tk];constructor;{rw[ao_];exact v m c4 (bl (S8 Y a5 (qY c4)) h)};{rw[ao_];exact ap m c4 (S8 Y a5 (qY c4)) h}}
noncomputable def aem(B r:Plan)(i:Nat)(l:Ln):cf:=o7 (a3q (bn (! a3r p))) (D2 (aCR aJB))
theorem aen{B:Plan}{p q:Pt}:(p,q)∈tl↔fv Wq (B.pt e.1=p/\B.pt e.2=q):=i4 Ny
theorem aRU{B:Plan}(k5:Lay B)(Y:dA){i:Nat}{l:Ln}(a5:l∈bY)(U:(pF,rq)∈tl)(hi:∀m∈aCQ i,m≠l):aem B r i l=alq:=by have X:=Ro;obtain⟨e,a0,b4,b9⟩:=aen.mp U;have le:=k5.lt e a0;delta aem DD;rw[dZ];{rw[iQ,atU Y a5,tk];constructor;rw[dY];{rw[hr p c2,aa p (Vb (au c2)) h];cases q:a3r p with|false=>{rfl}|true=>exfalso;obtain⟨k,c3,c1⟩:=BX k5 q;have:=x (Gu (zH X.1 X.2)) h;rw[<-b4,<-b9,<-c1]at this;rw[am (k5.on e a0 k c3 (J ((fp).1 (iQ z))) (J ((fp).2 (iQ z))))];cases ew}};{rw[iQ,tk,tk];constructor;{rw[ao_];have Z:=ff c4;exact v m Z (bl (S8 Y a5 (qY Z)) h)};{rw[ao_];have g8:=qY c4;rw[aa m (Vb (au c4)) (t (S8 Y a5 g8) h)];cases q:aCR aJB with|false=>{rfl}|true=>exfalso;obtain⟨f,W,g4,h3⟩:=aen.mp (Nz q);rw[<-b4,<-b9,<-g4,<-h3]at h;rw[aj (k5.nc e a0 f W (J (by rw[rC];have G:=ee m g8;have g9:=Wn (b7 G.1 G.2) ao8 (g4.symm.trans b4);have e1:=Wn G.2 X.2 (h3.symm.trans b9);grind))),cI]}}
universe GM
namespace GM
open Gla
variable{r:Plan}
theorem aRV{I:Type}{p:am_}:∀{l:ba}{k:Nat},(E i (B bcF (wp x.2)=aa i) (k<=i/\(z x (K l (i-k) x) (p i x=ab))/\l j x (j<i-k) Ew a_R))/\(B bcF (wp x.2)=ae->zJ a_R)|[],k=>aT|a::l,k=>by rw[kE (zq (k+1))];simp only[a3s];rw[bC q (p k a),a_];{rw[List.find?_cons_of_neg (x q)];rw[v (fun i h=>?_) (fun h=>?_)];{obtain⟨a7,⟨x,S,b⟩,d5⟩:=a3 i h;rw[aa dW (v x ?_ b) (fun j y b8 b6=>?_),Z (aS (i-k) ((i-(k+1))+1) (L i k a7 i (k+1)) (L i (k+1) a7 i k)) S];{cases j with|zero=>{rw[a4 b6 (Wr q)]}|succ j=>have:=d5 j y (br b8 (aC i k a7) (aS i (k+1))) bB;rw[bfF];exact this}};{intro j y b6;cases j with|zero=>{rw[a4 b6 (Wr q)]}|succ j=>rw[J bfF (a9 h j y b6)]}}
theorem S_{I:Type}{p:am_}{l:ba}:QY=ae↔zJ (p j x=ah):=by have g:=zq 0;constructor;{intro h j x S;have:=g.2 h j x S;simp_all};{rw[eF];cases e:QY with|none=>{rfl}|some i=>obtain⟨_,⟨x,S,b⟩,_⟩:=g.1 i e;simp_all}
theorem aRW{I:Type}{p:am_}{l:ba}{i:Nat}:QY=aa i↔bc6:=by have a:E i (QY=aa i) bc6:=fun i h=>by{have⟨_,⟨x,S,b⟩,d5⟩:=(zq 0).1 i h;simp_all};constructor;rw[az];{rintro⟨⟨x,S,b⟩,a9⟩;cases e:QY with|none=>{rw[S_.mp e i x S]at b;cases b}|some j=>have⟨⟨y,b6,r⟩,e2⟩:=a j e;grind-abstractProof}
theorem aeo{I:Type}{p q:am_}{l:ba}(h:bk j x (Ew->p j x=q j x)):QY=HV q l:=by cases e:HV q l with|none=>{rw[S_]at e⊢;(intros;simp[*])}|some i=>rw[aRW]at e⊢;obtain⟨⟨x,a,b⟩,c⟩:=e;exact⟨v x a (L (h i x a) b),fun j x k a=>L (h j x a) (c j x k a)⟩
theorem Ta{I:Type}{ok:Be}{k:yj}{l:ba}:tm ok k l=ae↔bk l (ok x=ab)/\Gf (k x y=ab):=by delta tm;rw[S_];constructor;{rw[eF,v qq (fun j x y S b6=>?_)];{rw[ic S];have:=h i x ag;lia};rw[nN (h (j+1) y b6)]};grind-abstractProof
theorem Tb{I:Type}{R:au I I}(o:∀a b c,R a b->R b c->R a c):k3 (Gf (R x y)) (pa R)|[],_=> .nil|[a],_=>aT|a::b::l,h=>by have d6:=Tb o (l:=b::l) (fun j x y S b6=>h (j+1) x y bB bB);have u:=h 0 a b (x a2Y) bI;refine aCS ⟨qq,d6⟩;rw[P2,de S S,a_,l (o _ _ _ u ((V4 d6).1 x S))]
theorem aep(e5:RI=ae)(f:RL=ae):dA:=by rw[Ta]at e5 f;rw[j (Tb (R:=bea) aGm e5.2) uh uh oa (Tb (R:=fun(a b:Ln)=>aol) (fun a b c h g=>?_) f.2),az,az,cM];{rw[Cb]at*;exact FY h g}
theorem aeq(Y:dA)(b:aH'=ae):bq:=by rw[S_]at b;rw[j Y.dQ aCU Y.BV ee (aJ Y.nd (fun e a0 k c3 c0 f7=>?_))];{rw[ci i hi (ie a0)];have:=b i e ag;unfold touches at this;rw[px aCT];simp_all};{have a:∀p q J s:Pt,aMq=zC J s p q:=fun p q J s=>by{delta zC;rw[Bool.and_comm]};intro e a0 f W ne;rw[ci i hi (ie a0),gF C (ie W)];have O:∀{i j:Nat}{e f:Ln},i (i<j) (A bY e) (aa bY f) (zC amk aml eG eH=ah):=by{intro i j e f l a0 W;have:=b j f W;unfold touches at this;rw[px aCT];simpa using(List.any_eq_false.mp fp e (ss ag))};rw[cm M (aa bY f)];grind-abstractProof}
noncomputable def Tc(r:Plan)(row:ao)(a b:Pt):cf:=cw (row.head?.map bp=aa a)&&(cw (row.getLast?.map bp=aa b)&&eC (row.zip (Wi 1)) (cr (a3t l)))
noncomputable def Ls(r:Plan):cf:=Tc r (HQ r (gl 0)) jR (jZ r.w)&&(Tc r (HQ r (go 0)) jR (ht r.h)&&(oG am1 (jZ r.w)&&oG Zg (ht r.h)))
theorem aRX{l:ao}(s:JA):ah7 r l=eC (ah4 (oP 1)) (cr (a3t l)):=by delta ah7;rw[iQ,Hx,Hx];constructor<;>intro h e a0<;>rw[iZ (Gp s a0)]<;>have:=ZR;{rw[a8g];grind-abstractProof};{delta Plan.joined;grind-abstractProof}
theorem atV(Y:dA){p:Pt}:bE (HR p) bfw:=by rw[Ws];constructor;{rw[eF,ic h];exact beF};{rw[iL i hi,xN];exact yK hi}
theorem Ord.Lj(Y:dA){i j:Nat}(hi:gY)(h:bbF):i<=j:=II (zH g hi)
theorem atW(Y:dA):Ls r=V5 r:=by have S:=vy (or hi);rw[a8 head (¬(eI).below c=ab) a'f least (Li (SY on) a_p (EP al)),a8 last (¬c.below eI=ab) a'g f (aeb (SY on) a_p (EP m.1)),dn d a'f (nd OZ) (aie eP),dn b a'g (OZ).getLast? (a3l e)];rw[iQ];delta Ls V5 Tc;simp only[ia,iV];rw[amm,amm,amm,amm];constructor;{rintro⟨⟨e0,g0,d0⟩,⟨h2,e2,i8⟩,⟨e5,e6,c1⟩,c5,c7,a9⟩;exact a (gy e0) (b _ _ g0) (b _ _ e2) (b _ _ e6) d0 a9 i8 c1};{rintro⟨g4,h3,h6,f4,d0,a9,i8,c1⟩;rw[o (pe h3 d0) (pe h6 i8) (v (mj Qf h3) (Dx _ _ Qf ?_ f4) c1) (mj Qf h6) (Dx _ _ Qf ?_ f4) a9]<;>intro i hi on<;>have:=S hi<;>have:=(vy (Y.BV _ (yK hi))) hi<;>simp at on<;>rw[iH]<;>simp<;>rw[ZD]}
universe GM
namespace GM
open Gla
variable{r:Plan}
noncomputable def Lu(r:Plan)(z:Pt)(e:Ln):Int:=kb
noncomputable def yQ(r:Plan)(z:Pt)(row:Row):Row:=Wj aHt
noncomputable def Gw(r:Plan)(z:Pt)(row:Row):Row:=air aHt
noncomputable def vl(r:Plan)(z:Pt)(row:Row):Row:=(Az).takeWhile (ab Q7)
noncomputable def Cc(r:Plan)(z:Pt)(row:Row):Row:=w2 (ab Q7)
noncomputable def Cd(r:Plan)(v:Nat):ao:=cG (iX (an (e.1==v)))
noncomputable def begun(r:Plan)(v:Nat):cJ:=B aLz (fy OC)
noncomputable def atX(r:Plan)(v:Nat)(s:Sw):Sw:=let A:=aI8;let E:=aIG;let B:=aKJ;let N:=Zj;let l:=hk;let J:=dj l E;let d5:=iG N ef J;d (h1 d5) (ef+(iS-1)) (py l J) (o3 l d5)
theorem Lv(r:Plan)(z:Pt)(row:Row):row=hE row++(vl r z row++aII):=by delta yQ vl Cc Gw;rw[zG,zG]
theorem takeWhile_all{I:Type}{p:Be}{l:ba}{x:I}(h:x∈aCV p):p x=ab:=Wk a3o x h
theorem aRY{P:au Ln Ln}{z:Pt}{row:Row}(h:Ca (bH row)):V e (bH (hE row)) (fX e<0)/\V e (bH (vl r z row)) (fX e=0)/\V e (bH aII) (0<fX e):=by have inR:h9 Az (¬fX e<0):=by{have b4:=w1 row;cases hB:Az with|nil=>{rw[aah];cases a0}|cons c J=>have u:¬fX c.1<0:=by{have:=aio ali row;delta Gw at hB;simp_all};have a:air ali=c::J:=hB;rw[a]at b4;rw[<-b4,hs]at h;rw[eq (aV (a3u h)),jy pe a9];intro e a0 q;rw[jy hF a0,de a0 a0,cY];grind-abstractProof};rw[ak oa oa,bgr,bgr];{rw[g3 (zG (p:=oS Q7) (l:=Az))];cases hB:aII with|nil=>{rw[aah];cases a0}|cons c J=>have k5:c.1∈bH Az:=by{rw[<-b9];have:w2 (oS Q7)=c::J:=hB;rw[this,hs];exact qO _ Ag};have u:0<fX c.1:=by{have:=aio (oS Q7) Az;delta Cc at hB;grind-abstractProof};have a:w2 (oS Q7)=c::J:=hB;have a9:Ca (bH (c::J)):=by{rw[<-(w1 row),hs]at h;have e2:=aV (a3u h);rw[ab e7 (air ali) Az];rw[e7,<-b9,a,hs]at e2;grind-abstractProof};rw[jy pe a9,aah,jy hF a0,de a0 a0,a_];simp[*]}
theorem atY(Z:bq){t:Nat}{s:Sw}(I:Inv iu t s){z:Pt}(h:df tQ aLm):Ca tQ:=by refine vJ Na;rw[vj l,cm (x iv a0),a'b];have b1:dx z<=hK z:=(l.le hI a.1 b.1 (z:=tS) (by delta iF;rw[al (M9 e.1 f.1),Z (HF q) (h f W).1,Z (VJ q) (ZR).1]) (by delta oZ;rw[al (M9 e.2 f.2),Z (qU q) (ZR).2,Z (Dj q) (h f W).2]));have a4:=qW a.1 z;rw[hz (qW b.1 z)];delta Lu;constructor;rw[cM];grind-abstractProof
theorem aer(Z:bq)(v:Nat):(eN Zj iB e.1)/\eS Zj (mr iu):=by rw[cf c6 (bH I9 uG) (by delta Cd at U;rw[h4 U];simp_all)];have s:=qM c6 (ax (by delta Cd;rw[J3,h8 (V3 _),rl q];grind-abstractProof));have a4:eN aLz I9:=s.1;rw[dJ Y7];{delta NA;rw[fK];constructor;rw[cM];{rintro⟨a0,a3⟩;rw[aa e.2 (a4.mem_iff.mpr ?_) cu];delta Cd;rw[xr]}};{delta NA;rw[Nm];rw[h8 s.2];rintro a b⟨b3,U,h⟩;exact aRM Z (c6 a (a3v b3)) (c6 b (a3v U)) h}
noncomputable def Td(Z:bq){v:Nat}(d3:v<aJ){s:Sw}(I:Inv iu v s):aCm iu v s (atX r v s):=by have Y:=hI;rw[cO tQ ((gM).k e.1<=ch eg/\ch eg<=(gM).k e.2) bfa (GG l.2),cc (zr e8)];have parts:=Lv r eg o_;have f:E e amF iB:=fun e a0=>p5 iv;rw[ak g (bH aI8) amF (by rw[lG,hs];simp[a0]),ak i (bH aIG) amF (BJ lG),ak h (bH aKJ) amF (BJ lG)];have d:=aer Z v;rw[b aI8 aIG aKJ Zj lG oa oa oa (f d.1 d.2 rfl xJ),l ((qW (f e (g e a0)) eg).1.mpr (c.1 e a0))];{rw[bJ (x iv (i e a0)),ao1];have z:=c.2.1 e a0;rw[al (qT m.2.2)];{exfalso;have:=Y.on e m.1 v Au q;apply this;have O:=qW m.1 eg;show dx eg=kC eg;unfold Lu at z;rw[z]at O;rw[cm O.1,ca O.2];simp at a b;exact a2O (r_ b) (r_ a)};rw[l zD]};rw[l ((qW (f e ZR) eg).2.mpr (c.2.2 e a0))]
noncomputable def Ce(r:Plan):dg Sw|0=>aL1|t+1=>atX r t (Ce r t)
theorem qG(Z:bq):E t (t<=aJ) (Inv iu t (Ce r t))|0,_=>asE _|t+1,h=>asD hI (show t<(gM).n from h) (qG Z t dW) (Td Z h (qG Z t dW))
noncomputable def runOf(Z:bq):oe:=aP (Ce r) (fk (Td Z c6 (qG Z t (ez c6))))
theorem aRZ(Z:bq){v:Nat}(d3:v<aJ):t a8W=w7 (e.2==v):=by rw[bdn];have e:t (bH (Td Z d3 I).E)=t a8W:=by{delta bH;rw[bA];rfl};exact a2C (w3 ((Td Z d3 I).asH hI I))
theorem aR0(Z:bq){t:Nat}{z:Pt}(b3:QE)(T:oq)(h:Qh):Cut r (Ce r t) z (hE jb) alE:=by have I:=anL;rw[cc (zr (f9 (by rw[jD iv];exact⟨bbZ,bbY⟩))),bfZ,aa ?_ c.1 oa,Z f5 (Lv r z _)];{rw[f5,hs,hD]at a0;rcases a0 with a0|a0;{exfalso;rw[bJ (x iv (BJ (Lv r z jb)))];exact aRp Z T h m.1 Au m.2.2 (c.2.1 e a0)};rw[l (c.2.2 e a0)]}
theorem aR1(Z:bq){t:Nat}{z:Pt}(b3:QE)(T:oq):(z x (nd alE=aa x) (XS=0))↔HN r z=ab:=by have I:=anL;have Y:=hI;constructor;{rintro⟨x,S,b1⟩;rw[bJ (x (aCW x.1) (aB6 (bp x (by have:x∈alE:=aie bB;rw[<-w1 jb];exact ah2 (.inr this)))))];have:=Lb (mT _ Au) (mS _ m.2.2 (ee _ m.1).2) b1;delta HN;rw[J tk (v x.1 m.1 this)]};{rw[eF,anF];unfold onLines at h;rw[aj tk,gy o h,cd yi];have k0:im (z≠eI):=fun i hi q=>by{rw[d9 i t,c_ (mT i g) q (mx _ this),c_ (mS i g hi) q (mx _ this)]};have d:=ae (Gu aIS) (v o (k0 e.1 ZX) (k0 e.2 l.2));unfold hZ at d;rw[yC d];have a3:e.1<t:=by{rw[d9 e.1 t,Bc,l (cz (vk d.1 (mS _ g ZX)) (mx _))]};have a9:t<=e.2:=by{rw[d9 e.2 t,cF (vk d.2.1 (mT _ g)) (mx _),l g]};have D:=ae iv (v a0 a3 a9);rw[cO (bH jb) aLm (C7 fq) (C5 l.2)];have c:=zr e8;rw[Lv r z jb,hs,hs,hD,hD]at D;have O:fX e=0:=d.2.2;rcases D with D|D|D;rw[cM];{apply f6;rw[bfZ];cases hE:vl r z jb with|nil=>{rw[zH hE]}|cons x J=>rw[aa x ag (c.2.1 x.1 (t hE Ag))]};grind-abstractProof}
universe GM
namespace GM
open Gla
variable{r:Plan}
noncomputable def Gx(r:Plan)(z:Pt):Nat:=t (a3w Ql)
theorem aR2(Y:dA){z:Pt}(h:z∉de):aCY r Ao z:=by have b4:=zG (p:=mP (pf z)) (l:=de);have le:Ao<=aJ:=by{delta Gx;grind};rw[aa le aod (fun i a3 a9=>?_)];{rw[sx aKf];have:de[i]∈a3w Ql:=by{delta Gx at hi;exact ss (by rw[<-hC (l₂:=aCX Ql) hi,b4];exact pM)};exact a3x (p:=mP (pf z)) this};{rw[sx a9];have m:de[i]∈aCX Ql:=by{delta Gx at a3;grind};cases hd:aCX Ql with|nil=>{simp_all}|cons c J=>have a:VY c=ab:=by{rw[al (S7 (p:=c) (q:=z) (ah (h (q▸(bz))))),cF q (xd (aio (mP (pf z)) de)),iA]};have dQ:=Y.dQ;rw[<-b4,hd,qV,pe]at dQ;rw[hd]at m;simp at m;rw[al m,l IW,l (vk a (dQ.2.1.1 _ q))]}
noncomputable def Cf(r:Plan)(z:Pt):ja:=let row:=Pk;Z (HR z) ae bhB
noncomputable def Te(r:Plan):cE:=(Bd).aP
noncomputable def vm(r:Plan)(z:Pt):ja:=B FF (Te r)
theorem atZ(Z:bq)(Y:dA)(d:Bi){z:Pt}(b3:QE):FF=ae↔HN r z=ab:=by delta Cf;simp only;rw[bC c (HR z)];{rw[aK c];rw[v (fun _=>?_) kW,aO i hi (BX Z c)];cases d1:ij i with|nil=>{simp_all}|cons y J=>rw[HM (vi Z),fY a (q9 p) (by delta wB Nk;have:i9 p=0:=by{rw[ui];grind-abstractProof};rw[tX];exact v ⟨aoG,Wt _ _⟩ aoG (Wt _ _)),fY b (q9 q) (by delta wB Nk;have:i9 q=0:=by{rw[ui];simp};rw[tX];exact v ⟨alQ,HL _ _⟩ alQ (HL _ _))];delta HN;rw[tk];rw[Km,cx (i,y) H ag,cx (y,i) H ag]};{rw[aO c];rw[<-aR1 Z b3 bcG];(split<;>simp[*])}
theorem aR3(Z:bq)(Y:dA)(d:Bi){z:Pt}(h:Fy):∃(A B:Row),aCY r Ao z/\v1 (Ce r Ao)/\FF=aa hk:=by have h':=h;unfold clear at h';simp at h';rw[fJ (a2 h'),bL b3 z.x r.w (ez h'.2.1)];have b:FF≠ae:=ah (by rw[x (atZ Z Y d b3) q]at f;cases f);delta Cf at b⊢;simp only at b⊢;rw[bC c (HR z),az];{rw[bj c]at b⊢;have T:=bcG;rw[K _ T (aR0 Z b3 T f) ?_,Pr]}
theorem Tf(N:j_)(Y:dA)(d:Bi){z:Pt}(h:Fy):I g (dR g) a_H (vm r z=aa ((OQ).lb g)/\(OQ).lb g≠0):=by obtain⟨A,B,T,C,e⟩:=aR3 iW Y d h;have a:v1 ((OQ).st Ao):=C;obtain⟨g,G,O⟩:=as1 Np (NB iW) ah' (aty iW T a);have i5:(OQ).lb g=(aag).aP hk:=by{show(aag).aP (sd (aag).side g)=_;have b:sd (aag).side g=hk:=O;rw[b]};rw[j g G (N.among T h a G i5) ?_ ?_];{delta vm;rw[e,i5];rfl};rw[Z i5 (H0 a)]
theorem aR4(N:j_)(Y:dA)(d:Bi){y z:Pt}(b6:Dr r y=ab)(c9:Fy):NC th y=NC th z↔vm r y=vm r z:=by obtain⟨g,G,o,d8,_⟩:=Tf N Y d b6;obtain⟨h,H,a,c7,_⟩:=Tf N Y d c9;rw[o,a,d8,c7];constructor;{rw[fT];rw[x bcE (c_ q)]};{rw[fT];rw[ae bcE (c_ q)]}
noncomputable def yR:i Nat I_ I_ ja|_,_,[]=>ae|i,c,x::J=>Z (c.contains x) xv (yR (i+1) (x::c) J)
theorem aes(N:j_)(Y:dA)(d:Bi):∀(d8:qa)(i:Nat)(hd:qa),y0 d8->y0 hd->wJ r th i (aiu aHw) d8=yR i (aiu (bo tT)) (HW (bo tT))|[],i,hd,_,_=>rfl|m::d8,i,hd,h,g=>by simp only[wJ,yR,da];have k5:=h m bK;have e:(aiu aHw).contains (NC th eN)=(aiu (bo tT)).contains tT:=by{rw[iQ,Ws,Ws,fK,fK];constructor;rw[It (x bgQ e),It (ae bgQ e)]};rw[e];split;{rfl};{have:=aes N Y d d8 (i+1) (m::hd) anY (aJ cu);trivial}
theorem aR5(N:j_){f:ao}(d:UF f Bj (Te r)):Nq+1=t (dC Dz a_'):=by rw[cc (N.count (NB iW)),ei (qG iW aJ aY),ab f5 aag (Ce r aJ)];rw[f5]at c;rw[c,qX];have b4:(dC Bj a_')=dC Bj (ab (ar ((Bd).aP x) x)):=by{refine Wu qq;rw[ca G (x<Bj)];obtain⟨l,a5,_⟩:=aim G;rw[a5,iQ];simp;exact(Wg x l a5)};rw[b4];rw[DR ((Bd).aP 0)];obtain⟨k,c3⟩:∃k,Bj=k+1:=⟨Bj-1,bv VN (mR (cV (aS Bj 1)) (cV (aC Bj 1 this)))⟩;rw[c3,ahp];simp only[aC0,c0,decide_true,mL,ne_eq,not_true_eq_false,and_false,aCZ];simp only[ic];rw[dZ,uE,dZ];refine Wu qq;simp only[fK]at S;rw[iG y S];simp
theorem aR6(N:j_)(Y:dA)(d:Bi){z:Pt}(h:Fy){i j:Nat}(b:dR (i,j)):bE (match NC th z with|some l=>follows l i j|none=>ah) (vm r z=aa ((OQ).lb (i,j))):=by have⟨g,G,o,d8,_⟩:=Tf N Y d h;rw[o,d8];simp only;rw[N.follows (NB iW) G b];rw[xq]
universe GM
namespace GM
open Gla
theorem Tg{I:Type}{R:au I I}(j:Gd (a=b)):∀{l m:ba},i (Wv m) (pa R) a8h (l=m)|[],m,p,_,_=>ai|a::l,[],p,_,_=>ai|a::l,b::m,p,sl,sm=>by have f:=V4 sl;rw[cc (V4 sm)];have e:a=b:=by{have a8:a∈b::m:=aiv bK;have h7:b∈a::l:=p.mem_iff.mpr bK;grind-abstractProof};rw[cb];rw[Tg j (List.Perm.cons_inv p) f.2 c.2]
theorem aR7{I:Type}{R:au I I}(Y:Gd cF){l m:ba}(h:gW l m)(sl:pa R)(sm:a8h):l=m:=by rw[cc (fun a q=>Y a a q q)];exact Tg (fun a b p q=>i0 (Y a b p q)) (ae (HG (q6 aGZ sl) (q6 ai sm)) h) sl sm
theorem aet{I:Type}(k:yj)(x:I):qB (eN (putIn k x l) (x::l))|[]=>amn|y::J=>by unfold putIn;split;{rfl};rw[l (L ((aet k x J).cons y) (.swap x y J))]
theorem yS{I:Type}(k:yj):qB (eN (iY k l) l)|[]=>amn|x::l=>x (L (aet k x _) ((yS k l).cons x))
theorem at0{I:Type}{k:yj}(Y:aKr)(o:aMd)(x:I):k3 (pa (ft alo)) (gS (putIn k x l) alo)|[],_=>ar putIn|y::J,s=>by have c1:=V4 s;unfold putIn;split;{next h=>refine aCS ⟨aog,s⟩;grind-abstractProof};{next h=>refine aCS ⟨aog,at0 Y o x c1.2⟩;have:=(aet k x J).mem_iff.mp c9;grind-abstractProof}
theorem Th{I:Type}{k:yj}(Y:aKr)(o:aMd):qB (gS (iY k l) alo)|[]=> .nil|x::l=>at0 Y o x (Th Y o l)
theorem aeu{I:Type} [BEq I] [aCE I]{k:yj}(Y:aKr)(o:aMd)(cR:eU AS (k a b=ab\/k b a=ab))(l:ba):gS (iY k aiw) aF'/\gW (iY k aiw) l:=by have p:=yS k aiw;rw[v (((Th Y o aiw).and (a3y aoo)).imp (y8 ?_)) Jk,cM];{rw[p.mem_iff,V8]}
theorem Lw(a b:Pt)(h:amx):aix a=ah:=by cases q:aix a with|false=>{rfl}|true=>rw[dT (vk h q) (mx _)]
theorem aev(a b:Ln)(h:aol):kC b a=ah:=by cases q:kC b a with|false=>{rfl}|true=>rw[Cb]at h q;exact ca (FY h q) (ci (iH k)) (ci (iH k.2))
theorem at1(a b c:Ln)(h:aol)(g:kC b c=ab):kC a c=ab:=by rw[Cb]at*;exact FY h g
theorem aew(a b:Ln)(h:AS):kC a b=ab\/kC b a=ab:=by rw[Cb,Cb];rw[ac a.1 b.1 k k k,dS Pb];{rw[fi a.2 b.2,dS (e1 k q),cF (sQ k q) h,co (e1 k.symm q)]};rw[co Pb]
theorem Ti{l m:ek}(h:gW l m)(s:pa (nS xP)):l=iY ig a3z:=g7 (A8 m) bea (Lw a b p)
theorem aex{l m:cJ}(h:gW l m)(s:pa (nS (kC p q=ab))):l=iY kC a3z:=g7 (aeu aev at1 aew m) (fun(p q:Ln)=>kC p q=ab) (aev a b p)
theorem at3{l m:qa}(p:Wv m)(s:pa (ft amD)):kz AV=a_P:=by have o:∀a b c:Ww,mU a b=ab->mU b c=ab->mU a c=ab:=fun a b c h g=>vk h g;refine Tg (R:=fun(a b:Pt)=>aix a=ah) aGU (B bbr _) ?_ ?_;{rw[a8D,eU (S7 ne),az];simp_all};rw[cM,Z Nm (Th (fun a b h=>Lw _ _ h) o m)]
theorem aR8{l m:qa}(p:Wv m)(s:pa (ft amy)):l=iY mU m:=by rw[c7 (at3 p (s.imp (y8 (Lw _ _ h))))];refine Tg (R:=fun(a b:Ww)=>amy) aGU bbr s (by have:gS a_P amx:=cu;grind-abstractProof);rw[cR (Lw _ _ p),kJ]
theorem aR9{I d:Type}(f:Fq)(ok:d->cf)(k:dK d d)(l:ba):tm (ab (ok (f x))) (jM (k (f x) (f y))) l=tm ok k xU:=by delta tm HV;rw[List.zipIdx_map,List.find?_map,Option.map_map];rw[dZ,dZ];funext x;simp only[Wx,Prod.map,id];(split<;>simp[*])
theorem at4(r:Plan)(all:AY):∀(d8 ns:qa)(i:Nat)(c:bL (bZ ao)),HW AV=wK AV->wJ r all i c d8=wJ r all i c ns|[],[],_,_,_=>rfl|[],b::ns,_,_,h=>bB|a::d8,[],_,_,h=>bB|a::d8,b::ns,i,c,h=>by rw[l_];simp only[wJ,h.1];split;{rfl};rw[l (at4 r all d8 ns _ _ h.2)]
theorem at5(r:Plan)(d8:qa):∀(n:Nat)(s e:fB),V6 AU n s e=V6 r n s e|0,_,_=>rfl|n+1,s,e=>by simp only[V6];rw[dR (aCA AU e.1 e.2) (aCA r e.1 e.2),at5 r d8 n]
theorem aR_(r:Plan)(d8:qa):wG AU=th:=by delta wG;have e:(C2 (ah8 (V6 AU alI e e)))=bbB:=by{funext e;rw[at5]};simp only[e];rfl
theorem aR'(r:Plan)(d8:qa)(h:HW AV=Wy AV):aiy AU=NF:=by revert h;revert r d8;refine Kq;rw[bW r d8,eF,b9 len ND fM h];have b4:a'0=aaK:=by{rw[dk B a'0 (HW AV) d8,dk b2 aaK (Wy AV) dS];rw[B,b2,h]};have b9:wJ AU (wG r) 0 [] d8=BI (wG r):=by{have g:∀(l:qa)(i:Nat)(c:bL (bZ ao)),wJ AU (wG r) i c l=wJ r (wG r) i c l:=by{rw[rK];induction l with|nil=>{intros;rfl}|cons a J d6=>intro i c;simp only[wJ];rw[dR (aCF AU (wG r) aiz) (aCF r (wG r) aiz),d6]};rw[g];exact at4 r _ _ _ _ _ h};delta aiy;simp only[b4,aR_,b9];delta Plan.size;rw[len];rfl
theorem Tj:aP w n (t aoJ=w)|0,_=>rfl|w+1,n=>eM le (Tj w)
theorem at6:aP w n (NG aoJ=n%Ri)|0,n=>bx le NG Nat.mod_one|w+1,n=>by simp only[le,NG,at6 w];have e:zp n=n%256:=by{simp};rw[e,HY,aiA Ri 256,a3A]
theorem aey{A B:Bytes}{w n p:Nat}(c2:ih=p):num (h1 aoJ) p w=n%Ri:=b0 num (a3C c2) (a3B (Tj w n)) at6
theorem qH{A B:Bytes}{p q w:Nat}(c2:ih=p):num (A++B) (p+q) w=num B q w:=by delta num;rw[<-c2,List.drop_append,aiB xK];simp
theorem aez{B:Bytes}{w n:Nat}:num (aoJ++B) 0 w=n%Ri:=nn (aey (A:=[]) (B:=B) (w:=w) (n:=n) (p:=0) rfl)
theorem at7(b:Bytes)(p w:Nat):c5 p w<Ri:=by delta num;have:∀(l:Bytes)(w:Nat),ec<=w->NG l<Ri:=by{rw[rK];induction l with|nil=>{intro w _;exact a3D ay}|cons c J d6=>rw[du w];cases w with|zero=>{rw[l_]}|succ w=>have k0:=c.toNat_lt;simp only[NG];grind-abstractProof};exact this _ _ Bk
theorem Cg{I:Type}{f:I->HZ}{k:Nat}(h:aKv):qB (t (NH f)=k*ec)|[]=>x (HH _)|x::l=>by simp[Cg h l,h x];grind-abstractProof
theorem at8{I:Type}{f:I->HZ}{k:Nat}(h:aKv):∀(l:ba)(i:Nat),dg (NH f) (k*i)=gr (oP i) f|l,0=>bI|[],i+1=>aT|x::l,i+1=>by rw[pj,show k*jc=k+k*i by grind-abstractProof,<-H0,a3C (h x),at8 h l i];rfl
theorem aeA{I:Type}{f:I->HZ}{k:Nat}(h:aKv){l:ba}{i:Nat}{x:I}(S:xQ)(B:Bytes)(q w:Nat):eL (num (NH f++B) (k*i+q) w) (f x) w:=by rw[e4 X (i<ec)];have e:oP i=x::oP (i+1):=by{rw[Wz X];simp_all};rw[dJ (gr (oP (i+1)) f++B)];delta num;have d:(NH f++B).drop (k*i+q)=(f x++(gr (oP (i+1)) f++B)).drop q:=by{rw[<-H0,a3E (t (Cg h) (Nat.mul_le_mul_left k dW)),at8 h,e,pj,dw]};rw[d]
noncomputable def sy(p:Pt):HZ:=le 4 p.x++le 4 p.y
noncomputable def Gy(l:Ln):HZ:=le 2 l.1++le 2 l.2
noncomputable def yT(m:Mark):HZ:=le 4 il++(le 4 ik++f5 jz (le 2 kD))
theorem aeB(p:Pt):t (sy p)=8:=bI
theorem aeC(l:Ln):t (Gy l)=4:=bI
theorem at9(m:Mark):t (yT m)=12:=bI
noncomputable def Gz(r:Plan):HZ:=HL (f5 aJ (f5 dR (f5 fM (le 2 0))))
theorem auj(r:Plan):t (Gz r)=20:=bI
theorem GB(r:Plan):qZ r=Gz r++(a3G sy++(aC1 Gy++a3F yT)):=by delta qZ Gz;simp only[dw];rfl
theorem aeD(r:Plan):t (qZ r)=20+8*aJ+4*dR+12*fM:=by rw[GB];simp only[ck,auj,Cg aeB,Cg aeC,Cg at9];simp+arith [*]
structure Fits(r:Plan):Prop where
 w:bk r.w
 h:bk r.h
 p:b1 aJ
 l:b1 dR
 m:b1 fM
 pts:cA de O8
 lines:h2 (b1 e.1/\b1 e.2)
 marks:∀m∈dS,uV
theorem aSa{r:Plan}(F:wL r)(B:Bytes):(Gz r++B).take 4=aiC/\ib 4 4=r.w/\ib 8 4=r.h/\ib 12 2=aJ/\ib 14 2=dR/\ib 16 2=fM/\ib 18 2=0:=by rw[ab b0 MAGIC.length 4,cd e0 (Gz r++B) (HL (f5 aJ (f5 dR (f5 fM (f5 0 B)))))];rw[e0];rw[bd0,Ab a,dv (a3B b0) ?_ (aJ ?_ ?_)];{rw[aey b0,b,et F.w]};{rw[dR 8 (4+4),qH b0,A_,b,et F.h]};{rw[lw 12 4,qH b0,Ba,A_,a,et F.p]};{rw[lw 14 (4+2),qH b0,Ba,Ba,A_,a,et F.l]};{rw[lw 16 (4+(2+2)),qH b0,Ba,Ba,Ba,A_,a,et F.m]};{rfl}
theorem auo{I:Type}{l:ba}{g:dg I}(h:bk i x (xQ->g i=x)):cf ec g=l:=by refine NI (fun i=>?_);rw[cA];rw[fW k ec,dr (wM k) (dd k) (gB aa (h i _ (dd k)))];{rw[zI (t aC2 (zj k)),zI (zj k)];rfl}
theorem aSb{r:Plan}(F:wL r):lG (qZ r)=r:=by revert F;revert r;refine ap6;rw[u6 r];intro F;rw[f5 bfb];rw[<-GB]at d1;obtain⟨_,n1,n2,u,y,f,_⟩:=d1;rw[bd0,Ab a];delta lG;rw[bgM,f7 (auj r),hR (Cg aeB de)];rw[F5 (by have b3:=aiD p (bO c2);have g:∀q,eL (qz (jA+(8*i+q))) (sy p) 4:=ah (by rw[GB,aKm,qH a5];exact aeA aeB c2 _ q 4);rw[bau];obtain⟨D,a9⟩:=g 4;have b4:qz ani=p.x:=by{rw[show ani=jA+(8*i+0)by rfl,a3];delta sy;rw[dw,aez,b,et b3.1]};have b9:qz (ani+4)=p.y:=by{rw[show ani+4=jA+(8*i+4)by rfl,a9];delta sy;rw[dw,A_,b,et b3.2]};rw[b4,b9]),F5 (by have b3:=aC3 p (bO c2);have g:∀q,eL (i7 (ga i q)) (Gy p) 2:=ah (by rw[GB,aKm,qH a5,qH d5];exact aeA aeC c2 _ q 2);rw[bau];obtain⟨D,a9⟩:=g 2;have b4:i7 apg=p.1:=by{rw[dy apg (ga i 0),a3];delta Gy;rw[dw,aez,a,et b3.1]};have b9:i7 (apg+2)=p.2:=by{rw[dy (apg+2) (ga i 2),a9];delta Gy;rw[dw,A_,a,et b3.2]};rw[b4,b9]),(auo (fun i m c4=>by have b3:=wN m (bO c4);have g:∀q w,eL (num (qZ r) (ga dR (12*i+q)) w) (yT m) w:=fun q w=>by{rw[GB,aKm,qH a5,qH d5,qH (Cg aeC bY)];have:=aeA at9 c4 [] q w;rw[gh]};rw[db a3 (g 0 4)];obtain⟨d,a9⟩:=g 4 4;rw[fL e2 (g 8 2)];obtain⟨h,e5⟩:=g 10 2;have b4:qz FU=il:=by{rw[dy FU (ga dR (12*i+0)),a3];delta yT;rw[dw,aez,b,et b3.1.1]};have b9:qz (FU+4)=ik:=by{rw[dy (FU+4) (ga dR (12*i+4)),a9];delta yT;rw[dw,dw,A_,b,et b3.1.2]};have e7:i7 (FU+8)=jz:=by{rw[dy (FU+8) (ga dR (12*i+8)),e2];delta yT;rw[dR 8 (4+4),dw,Ba,dw,dw,A_,a,et b3.2.1]};have g5:i7 (FU+10)=kD:=by{rw[dy (FU+10) (ga dR (12*i+10)),e5];delta yT;rw[lw 10 2,dw,Ba,dw,Ba,dw,A_,a,et b3.2.2]};rw[b4,b9,e7,g5]))]
noncomputable def eR(r:Plan):hT:=KD NF
theorem aup{r:Plan}(F:wL r):wO (qZ r)=jv (eR r) r:=by have d1:=bfb;rw[<-GB]at d1;obtain⟨t,n1,n2,u,y,f,a⟩:=d1;have len:=aeD r;delta wO eR;have a9:¬(i7 18≠0):=by{rw[xM]};have e2:¬(t (qZ r)≠jA+8*i7 12+4*i7 14+12*i7 16):=by{rw[len,u,y,f];simp[jA]};rw[bj Bl,bj hU]at⊢;rw[bgM];rw[u,y,f]at e2;rw[PZ,bj e2,aSb F];split;{rfl};(split<;>lia-abstractProof)
universe GM
namespace GM
open Gla
theorem aSc{p q a b:Pt}(h:xP)(b3:hZ p q a=ab)(U:hZ p q b=ab):WA p q a<WA p q b↔amx:=by revert h b3 U;revert p q a b;refine aM5;rw[al p q a b];intro h b3 U;delta hZ at b3 U;simp only[ia,iV]at b3 U;rw[dC b3.2.2];have c3:=U.2.2;rw[iH]at h⊢;delta eW dx dy at d6 c3;delta WA dx dy;rw[k2 (fK b.y a.y) (k7 b.x a.x),bL i (bbe-bbd) (fK b.x a.x+alh*bm b.y a.y)];generalize bbe=B at*;generalize bbd=A at*;rw[bU X m X (X=Fu),bU c g c (c=an1),bU u hu u (u=v b.x-a.x),bU v d3 v (v=v b.y-a.y)];rw[<-m,<-g,<-hu,<-d3]at e i;rw[dq h h a9];{rw[cm f (0<c)];have d:0<X*X+c*c:=by{have:0<=X*X:=by{rw[al (aCj 0 X),l (tc q q),l (ait q q)]};have:=hH f f;lia};rw[bL O (c*(B-A)) ((X*X+c*c)*v)];constructor;{rw[rK];left;have:0<c*(B-A):=hH f hU;rw[gf v v d];simp_all};{rw[bcI];{have:0<v:=ag;have:=hH d this;rw[gf (B-A) (B-A) f];exact r_ this};{exfalso;rw[ae j v 0];rw[j,aCO]at e;rw[al (ais CX)]<;>lia}}};{rw[ae f c 0,cm k (0<X)];rw[f]at e i;rw[a6 a3H];rw[a3H,a3b]at i;have j:v=0:=by{rw[al (ais e),az,iA]};constructor;{rw[rK];right;have:0<X*u:=x (Kt i.m l);have:0<u:=by{rw[al (mQ 0 u),l q];{have:=Nj (eX k) q;grind}};rw[fU]};{rw[bcI];{rw[fU]};{have:0<u:=ag;have:=hH k this;exact j4 i.n}}}
noncomputable def Lx(row:ek)(l:kk):nh:=NJ (l.1::(iY ig apl++[l.2]))
theorem aSd{row:ek}{l:kk}(h:a_L):aiE row l=Lx row l:=by delta aiE Lx;simp only;have c9:(NL (fun(J:Pt)=>J !=l.1&&(J !=l.2&&wB l.1 l.2 J)))=NL (hZ l.1 l.2):=by{refine Wu (fun J _=>?_);rw[iQ,Gu h];rw[xq]};rw[c9];congr 2;rw[dZ];have d:aK apl (hZ l.1 l.2 x=ab):=aJ (vP (NK S)).2;let al:dK Pt Pt:=fun(a b:Pt)=>bU (WA l.1 l.2 a) (WA l.1 l.2 b);have p:=yS al apl;refine Ti Jk ?_;{rw[p.mem_iff,V8]};{rw[h8 ((Th (k:=al) (fun a b q=>fq) (fun a b c q z=>fq) apl).and (a3y aoo))];rintro a b⟨b3,U,a3,ne⟩;rw[al (S7 ne),iA,i5 (ae (aSc h (d b (aiv U)) (d a (aiv b3))) q)]}
noncomputable def Tn(l:kk):kk:=aoq
theorem aeE{w h:Nat}{pts d:ek}{lines c:nh}{marks:qa}(c2:gW pts d)(a3:∀l∈aiF,l∈c\/Tn l∈c)(a9:∀l∈c,l∈aiF\/Tn l∈aiF):bbM=H2 w h d c tn:=by delta H2;simp only;have H:=A8 pts;rw[(Ti (ab (L (H.2 x) (c2 x))) H.1)];rw[dZ];generalize c5:(mP a'y)=f6;have b9:∀x:Ln,x∈bf7↔x∈DE (bE (f6 l.1) (f6 l.2) (f6 l.1) (f6 l.2)):=by{intro x;simp only[fK];constructor;rw[KM (a3 l a5),KM (a9 l a5)]};have e7:∀p,a'y=f6 p:=bn bz;simp only[e7];have X:=aeu aev at1 aew bf7;exact aex (ab (L (X.2 x) (b9 x))) X.1
variable{r:Plan}
theorem aSe(Y:dA){l:kk}(h:l∈H3):a_L:=by rw[a4 Ny,h4 h];have:=jg;exact zH ew fp
theorem auq(Y:dA)(row:ek)(m:Mark):pq r Rq=aa (cs (de++row) (NJ row++aoK) (dS++[m])):=by show aa (cs (de++row) (aiH (aiE row)++NJ row) (dS++[m]))=_;rw[dZ];have e:aiH (aiE row)=aoK:=by{rw[a3J,a3J];rw[dZ];exact aiG (fg (aSd (aSe Y a5)))};rw[e];refine aeE (as aC4) (fg aG9) (fg aG9)<;>simp only[hD]at a5⊢<;>exact a3I
universe GM
namespace GM
open Gla
variable{r:Plan}
structure Clean(r:Plan):Prop where
 f4:RI=ae
 f5:RL=ae
 f6:Y2
 f7:aH'=ae
 f8:(Kh)=ae
 f9:(Ki)=ae
 f10:Ry=ae
 f11:aaK=ae
 f12:BI th=ae
 f13:¬fM<Nq
theorem aut(h:NF=ae):ki:=by rw[a4 aiy,eJ,cY];{next e5=>rw[eJ,cY];{next f=>rw[eJ,cY];{next b3=>rw[eJ,cY];{next b=>rw[eJ,cY];{next k=>rw[ame,eJ,cY];{next D=>rw[eJ,cY];{next c=>rw[eJ,cY];{next a=>rw[eJ,cY];{next d=>rw[eJ,cY];{next e=>exact a e5 f ag b k D c a d e}}}}}}}}}}
theorem Clean.ord(C:ki):dA:=aep C.f4 C.f5
theorem Clean.lay(C:ki):bq:=aeq NM C.f7
theorem Clean.deg(C:ki):alX:=j6 (by have:=zt C.f8;rw[uu];omega)
theorem Clean.aeG(C:ki):Bi:=fun i hi q=>xd (C.deg i hi)
theorem Clean.aSh(C:ki):1<aJ:=by have f:=C.f6;unfold frameOk at f;rw[wS f,aO i hi (BX DF f.1)];have d:=C.deg i hi;cases d1:ij i with|nil=>{simp_all}|cons y J=>rw[HM (vi DF)];have V:y<aJ:=(H.BQ C.lay.ok);have a:i≠y:=(H.ne C.lay.ok);lia-abstractProof
theorem Clean.net(C:ki):j_:=by refine atR DF C.f6 C.aSh C.deg aod aod;{have:=zt C.f9;rw[gh]};{have:=zt C.f10;rw[gh]}
theorem Clean.marks(C:ki):y0 dS/\r.marks.Pairwise (ft amy):=bv (Ta.mp C.f11) ⟨ew,Tb (R:=fun(a b:Ww)=>amy) aGm fp⟩
theorem auu:Gw (yR i c l=ae->zA/\aK l (x∉c))|[],_,_,_=>aT|x::l,i,c,h=>by unfold yR at h;rw[eJ,cY];{next q=>rw[dC (auu l (i+1) (x::c) h),v (a3g ⟨J (d6.2 x z bK),d6.1⟩) (fun y b6=>?_)];grind-abstractProof}
theorem Clean.aSi(C:ki):c8 amo:=by have t:=aes C.net NM C.aeG dS 0 [] H4.1 aT;simp only[zw]at t;rw[C.f12]at t;exact(auu _ _ _ t.symm).1
noncomputable def aeI(r:Plan)(l:Ln):Nat:=Te r ((Bd).side l).1
noncomputable def aeJ(r:Plan)(l:Ln):Nat:=Te r ((Bd).side l).2
theorem aSj(C:ki){l:Ln}(h:l∈bY):q8 aJA=aeI r l/\q8 aoq=aeJ r l:=by have lt:=aC5 l h;constructor;{show(Bd).aP (sd (Bd).side aJA)=_;rw[Ja];rw[aK lt.1];rfl};{show(Bd).aP (sd (Bd).side aoq)=_;rw[Ja,aO fq];rfl}
theorem aeK(C:ki){i a b:Nat}(H:dR rQ):WB NN a b=aa i↔z m anV (tT=aa (q8 rQ)):=by delta WB;rw[ab c2 NN (Wy aHw)];rw[c2,List.findIdx?_eq_some_iff_getElem];constructor;{rintro⟨hi,p,_⟩;simp only[bA]at hi;rw[ak dS[i] pP];rw[Ng]at p;exact x (B0 (H4.1 _ (te hi))) p};{rintro⟨m,c4,c7⟩;rw[dE hi (i<fM),cr D dS[i] m,cq ag Ru,dr Ng D (ae (B0 (H4.1 m (bO c4))) c7)];{intro p;rw[Ng]at p;rw[b4 j4 (j<fM) (ju bG bG)];have M:=x (B0 (H4.1 _ (te j4))) p;rw[cm b4 (aa (amo) (aa (q8 rQ))),cm b9 (A (amo) (aa (q8 rQ)))];have:=x (aCr ag C.aSi) (a3K a3L);exact gx CZ b8}}
noncomputable def auv(r:Plan)(hi b8:ja)(l:Ln):cf:=cw (a'p=(hi,b8)\/a'p=(b8,hi))
theorem aSk(C:ki){i j:Nat}{c6 e0:Mark}(hi:A dS c6)(b8:aa dS e0){l:Ln}(a5:l∈bY):aF6=aMv:=by have i5:=aSj C a5;have k:∀{i:Nat}{m:Mark},anV->(WB NN l.1 l.2=aa i↔aa (aeI r l)=tT)/\(WB NN l.2 l.1=aa i↔aa (aeJ r l)=tT):=by{intro i m c4;rw[aeK C pW,aeK C (.inr a5),i5.1,i5.2];constructor;{rw[xq]};rw[xq]};delta aC7 aC6 auv;rw[iQ];simp only[ahv,aCP,iV,CI];simp[*]
theorem gone_none(C:ki){i j:Nat}(h:an_){l:Ln}(a5:l∈bY):aF6=ah:=by have a8:dR aJA:=pW;have b7:dR aoq:= .inr a5;have k:∀{i a b:Nat},dR rQ->fM<=i->WB NN a b≠xv:=by{intro i a b H le q;obtain⟨m,c4,_⟩:=x (aeK C H) q;simp_all};delta aC7 aC6;rw[aCT];simp only[beq_eq_false_iff_ne,ne_eq,CI,not_and];grind-abstractProof
theorem auw(C:ki){i j:Nat}(h:i=j\/an_):p6 aJT:=by show Da _=ae;rw[aK];rw[eU h,Fs];{right;rw[dZ];rw[a3M];intro l a5;rw[gone_none C h a5];rfl}
theorem erase_eq(C:ki){i j:Nat}{c6 e0:Mark}(ne:i≠j)(hi:A dS c6)(b8:aa dS e0):pq r aJT=(let a:=iX (k9 aMv);v mO dR ae (aa (cs (a.flatMap (cr [pF,rq])) (a.map (cr Em)) (a3N j)))):=by show bgz=_;rw[(Wu (fg (iQ (aSk C hi b8 a5))))];simp only[ne,false_or];generalize z:(iX (k9 aMv))=a;have sub:∀l∈a,l∈bY:=fun l a5=>cu;split;{rfl};{rw[dZ];refine aeE (fun p=>?_) (fg pW) (fg pW);simp only[fK,Nn,aCG,tk,V7,hF,oW,Du];constructor;{rintro⟨k,⟨c3,l,a5,e⟩,rfl⟩;delta H5 at e;grind-abstractProof};{rintro⟨l,a5,e|e⟩;rw[pn l.1 Q_,pn l.2 ag]}}
universe GM
namespace GM
open Gla
variable{r:Plan}
theorem aSl(Z:bq){e f:Ln}(a0:iB)(W:f∈bY){z:Pt}(c:hZ eG eH z=ab)(d:hZ amk aml z=ab)(b3:QE):e=f:=by have Y:=hI;have le:=yi;rw[bJ (f_ f W)];delta hZ at c d;simp only[ia,iV]at c d;have s:=mw (HK (b7 le.1 le.2)) c.1;have t:=mw b3 c.2.1;have u:=mw (HK (b7 m.1 m.2)) d.1;have w:=mw b3 d.2.1;have xe:dx z=Zh:=by{have:=Z.La a0 z;rw[eo]};have x:hK z=Zh:=by{have:=Z.La W z;rw[eo]};have p:l i j gY aK7 (i<j):=fun i j hi h=>by{rw[al (ip i j),l q];{rw[al (qT q),i5 (Dm q hi),az]}};have l:ch rL<tS:=by{delta iF;grind-abstractProof};have o:tS<amE:=by{rw[Jh];lia-abstractProof};have ov:kG<ha:=p _ _ (Nat.max_lt.mpr ⟨ju le.1 le.2,ju m.1 m.2⟩) (x (Int.lt_trans l o));rw[ak b g aJP];have g7:dx rL-hK rL=a+b*ch rL:=g _;have g8:dx z-hK z=a+b*tS:=g _;have a5:amT-anb=a+b*amE:=g _;have n1:dx rL<hK rL->amT<=anb:=Y.nc e a0 f W ov;have n2:hK rL<dx rL->anb<=amT:=by{have:=Y.nc f W e a0 (ac bc_ bc' ov);rw[bY bc_ bc'];exact this};have n:b=0:=by{rw[bs b q q q];{have a3:b*tS<b*ch rL:=aCk l q;have a9:b*amE<b*tS:=aCk o q;grind-abstractProof};rw[iA];{have a3:b*ch rL<b*tS:=ahG l q;have a9:b*tS<b*amE:=ahG o q;lia-abstractProof}};subst n;simp at g7 g8 a5;rw[ck lo (dx eG=kC eG) (wu e a0),ck hi (dx eH=kC eH) (wz e a0)];have on:h2 (pl (dx eg) (kC eg)):=fun e a0 v a3 a9=>Y.on e a0 v a3 a9;exact sQ (by rw[fi e.1 f.1,Ip f.1,iA,Ip e.1]) (by rw[fi e.2 f.2,pv e.2 (qU (cV q)),iA,pv f.2 (Dj (cV q))])
theorem auy{I d:Type}{f:I->nO}:∀{l:ba},i zA (bk l (c8 (f x))) (bk l (dw l (o z (z∈f x) (z∈f y) (x=y)))) (c8 (NH f))|[],_,_,_=>aT|a::l,nd,a3,a9=>by have n2:=AL;rw[pj,ah3];rw[aa (a3 a bK) (auy n2.2 (aJ (a3 x rA)) (fun x S y b6=>a9 x rA y rA)) (fun b U c b0 e=>?_),ie c5 (aC8 b0)];grind-abstractProof
theorem pairs_len{I:Type}(l:ba):t (NJ l)=ec-1:=i4 NJ
theorem auz{I:Type} [BEq I] [aCE I](l:ba):l.eraseDups.length<=ec:=eB (wm I) (ft (Classical.propDecidable (a=b))) (SU aoo (aJ (NK S)))
theorem auA(C:ki)(row:ek)(a6:cA row (h2 (a94->QD))):bd (NJ row++aoK) (dR+2*fi):=by have Z:=DF;rw[ck,pairs_len];have b4:t aoK=dR+t bcH:=by{delta Ny;rw[aC9];generalize r.lines=ls;induction ls with|nil=>{rfl}|cons a J d6=>rw[pj,pj,ck,ck,d6];have:t (Lx row (bp a.1,bp a.2))=(NL (hZ (bp a.1) (bp a.2))).eraseDups.length+1:=by{delta Lx;rw[pairs_len];simp only[ic,ck,MV];rw[aIO];rfl};rw[oc];simp+arith [*]};have nd:c8 bcH:=auy Z.nd (fun x _=>aoo) (fun e a0 f W z I c=>by rw[cm (vP (NK I)),ca (vP (NK c))];exact aSl Z a0 W a.2 b.2 (a6 z a.1 e a0 a.2));rw[h8 (SU nd (m:=row) (sz (by obtain⟨l,_,h⟩:=aC8 c9;exact ff (NK h)))) (hp (qR fi 1) b4.l this)]
theorem auB(Y:dA){e:Ln}(a0:iB){p:Pt}(h:a94):QD:=by have l:=jg;have o:=(x (Gu (zH l.1 l.2)) h).1;unfold isOn at o;simp only[ia,Nk,iV]at o;rw[fL (or (i_ (e.1<aJ) (ju l.1 l.2))),eq (or l.2)];lia-abstractProof
theorem auC{w h:Nat}{pts:ek}{lines:nh}{marks:qa}(hw:bk w)(c7:bk h)(c2:NO<65535)(a5:b1 lines.length)(c4:b1 aC_)(a8:cA pts O8)(k:∀m∈tn,uV):wL bbM:=by have H:=A8 pts;have b2:t OR<=NO:=by{rw[J (aGk).length_eq (auz _)]};rw[e hw c7 ?_ ?_ ?_ ?_ ?_ ?_];{show t OR<_;exact cg b2 c2};{show t (iY kC _)<_;rw[aIO];have:=auz bf8;rw[eo]};{show t (iY mU tn)<_;rw[aIO];exact c4};{intro p a3;exact a8 p (x (H.2 p) a3)};{intro e a0;have V:e∈iY kC (bf8).eraseDups:=a0;rw[(aGk).mem_iff,V8,fK]at V;grind-abstractProof};{intro m Z;exact k m ((yS mU tn).mem_iff.mp Z)}
universe GM
namespace GM
open Gla
variable{r:Plan}
theorem auD{p:uA}{n m:Nat}:QU=aa m↔m<n/\p m=ab/\E i (i<m) (p i=ah):=by rw[List.find?_eq_some_iff_getElem];rw[xq]
theorem aeL{p:uA}{n:Nat}:QU=ae↔nR (p i=ah):=aT
noncomputable def aeM(r:Plan)(z:Pt):cf:=cw (0<z.x/\z.x<r.w)&&cw (0<z.y/\z.y<r.h)
theorem aSm(Z:bq)(Y:dA)(d:Bi)(m:Mark):(aeM r eN&&dl tT)=WC r m:=by delta WC Dr aeM;by_cases a3:0<il/\il<r.w;{by_cases a9:0<ik/\ik<r.h;{rw[f4 (atZ Z Y d (z:=eN) (ig a3.2))];have e:dl tT=! HN r eN:=by{delta vm;cases q:Cf r eN with|none=>{rw[g.mp q];rfl}|some x=>simp_all};simp[*]};rw[xr]};rw[xr]
noncomputable def vo(r:Plan):hT:=qw (tm baD mU dS) (yR 0 [] amo)
theorem aSn(N:j_)(Y:dA)(d:Bi):vo r=(qw aaK (BI th)):=by delta vo;have e:(baD)=WC r:=by{funext m;exact aSm iW Y d m};rw[e];cases h:aaK with|some i=>{rfl}|none=>have t:=aes N Y d dS 0 [] (Ta.mp h).1 aT;simp only[zw]at t;simp only;rw[t]
noncomputable def To(r:Plan)(a:Q0):hT:=a1 RI 4 (DG i) (a1 RL 5 aoL (E (Ls r=ah) 6 jA (a1 anH 7 aoL (a1 Kh 8 (DG i) (a1 Ki 9 (DG i) (a1 Ry 10 (DG i) (vo r)))))))
theorem aSo(a3:1<aJ){a:Q0}(c6:aMP):To r a=NF:=by delta To aiy;cases e5:RI with|some i=>{rfl}|none=>simp only;cases f:RL with|some i=>{rfl}|none=>have Y:=aep e5 f;simp only;rw[atW Y];cases b3:V5 r with|false=>{rfl}|true=>simp only[Bool.true_eq_false,iU];rw[aeo (c6 Y)];cases b:aH' with|some i=>{rfl}|none=>simp only;cases k:Kh with|some i=>{rfl}|none=>simp only;cases D:Ki with|some i=>{rfl}|none=>simp only;cases c:Ry with|some i=>{rfl}|none=>simp only;rw[aSn (cZ b b3 (j6 ai) c) Y (fun i hi q=>cu)];rfl
universe GM
namespace GM
open Gla
variable{r:Plan}
noncomputable def Tp(B r:Plan)(i:Nat)(l:Ln):cf:=Z (aCR Em) (aem B r i l) (Gv r i l)
theorem aeN{B:Plan}(k5:Lay B)(Y:dA){i:Nat}{l:Ln}(h:A bY l):Tp B r i l=alq:=by have a5:=bO h;delta Tp;split;{next q=>refine aRU k5 Y a5 (Nz q) (fun m c4 e=>?_);rw[cb,gF C (ie c4),dE j4 (j<i),dE M (aa bY m),dE X (i<dR)];have:=x (aCr (ES:j<dR) Y.nd) (M.trans agQ);simp_all};rw[l (S9 Y a5)]
theorem aSp{x:Gla.Step}(h:p6 x):n5 (.error ae):=by delta H6;rw[h]
theorem aSq{x:Gla.Step}{T:Plan}(h:aaG)(F:wL T){e:Fault}(a0:eR T=aa e):n5 (.error rG):=bdv
theorem aSr{x:Gla.Step}{T:Plan}(h:aaG)(F:wL T)(a0:eR T=ae):n5 Jz:=bdv
structure yU(r:Plan):Prop where
 fits:wL r
 ok:eR r=ae
theorem Ly{c:Prop} [Hz c]{x:Fault}{y:hT}(h:(av c x y)=ae):¬c/\y=ae:=by by_cases q:c;rw[yZ (aK q)];{rw[i2 q];exact⟨q,h⟩}
theorem wi{a b n:Nat}(h:¬mV a b n=ah):a<=n/\n<=b:=hv mV h
theorem yU.GC(C:xX):(16<=r.w/\pu r.w)/\(16<=r.h/\pu r.h)/\N (4<=aJ/\aJ<=4096) (4<=dR/\aH1) (1<=fM/\fM<=2048) (NF=ae):=by have h:=C.ok;obtain⟨a,h⟩:=Ly h;rw[i6 b (Ly h),db h (Ly h),i6 d (Ly h),fL h (Ly h)];exact c (wi a) (wi b) (wi c) (wi d) (wi e) h
theorem yU.clean(C:xX):ki:=aut (a2 C.GC.2)
def Tq:cv CK| .lead row m=>wg (fi<=64/\cA row O8)| .move _ p=>O8| .mark _ m=>uV|_=>gC
theorem aSs(r:Plan):r.drawn.length=dR:=cG Ny (bA _)
theorem Tr(C:xX){x:Gla.Step}(S:Tq x){T:Plan}(h:aaG):wL T:=by have e8:=C.GC;have F:=C.fits;have K:=C.clean;have sy:=aiD;cases x with|lead row m=>{rw[aj (auq K.ord),cI];have X:=auA K row (fun p _ e a0 q=>auB K.ord a0 q);rw[al (by simp;have:=S.1.1;exact cg AR this) (bv S.1.1 (RU X iC this this)) (nI p_) uh (fun f7 Z=>?_)];{rw[h_ c2,a_,l (S.1.2 p q)]};{rw[h_ Z,l (wN f7 q),zA S.2]}}|erase i j=>{rw[t0 bgz,YJ,cY];{cases h';rw[cm (aiJ a7L (eL aJ)),ca (aiJ ak6 bY),cc (v6 (aiI dS j)),al bz (eL b iC) (bn c p_) uh (fun f7 Z=>wN f7 ((aiI dS j).subset Z)),a7 k c3 c2];have:=ff c3;exact a_q}}|move k p=>{rw[t0 (bhl),YJ];{cases h';rw[al fS (nI iC) (gd p_) a_M wN,a7 i hi e0];split;rw[l S,l a_q]};rw[az]}|mark i m=>{rw[t0 (aMI),YJ];{cases h';rw[al bM (by rw[aSs];lia) fS sy (fun f7 Z=>?_),al (List.mem_or_eq_of_mem_set Z),l (wN f7 q)];{rw[fa];exact S}};rw[dY]}|drop k=>rw[a4 pq,ame,eJ];{rw[cI,cm (aiJ (mF (! H5 k l)) bY),cc (v6 (aiI de k)),al (bn c AR) (eL a iC) bM (gW (sy p ((aiI de k).subset c2))) wN]};{lia}
universe GM
namespace GM
open Gla
variable{r:Plan}
noncomputable def kr(a b:hT):hT:=di a rG b
noncomputable def iJ(r:Plan):hT:=KD ae
noncomputable def GD(r:Plan):hT:=dC RI 4 (DG i)
noncomputable def GF(r:Plan):hT:=dC RL 5 aoL
noncomputable def Ci(r:Plan):hT:=E (Ls r=ah) 6 jA ae
noncomputable def Cj(r:Plan):hT:=cV (iJ r) (GD r) (kr (GF r) (Ci r))
noncomputable def Ck(r:Plan)(a:Q0):hT:=dC anH 7 aoL
noncomputable def yV(r:Plan):hT:=cV (dC Kh 8 (DG i)) (dC Ki 9 (DG i)) (dC Ry 10 (DG i))
theorem size_eq(r:Plan):eR r=kr (iJ r) NF:=by delta eR iJ kr;split;{rfl};(split<;>lia)
theorem aSt(r:Plan)(a:Q0):To r a=cV (GD r) (GF r) (cV (Ci r) (Ck r a) (kr (yV r) (vo r))):=by revert r a;refine Kq;rw[bW r a];delta To GD GF Ci Ck yV kr;cases RI with|some i=>{rfl}|none=>cases RL with|some i=>{rfl}|none=>cases Ls r with|false=>{rfl}|true=>cases anH with|some i=>{rfl}|none=>cases Kh with|some i=>{rfl}|none=>cases Ki with|some i=>{rfl}|none=>rw[ls Ry]
theorem auE(a b c:hT):kr (kr a b) c=cV a b c:=sK a
theorem Ts{a b:hT}(h:a=ae):kr a b=b:=de h
theorem aeO{a:Q0}(c6:aMP):eR r=cV (Cj r) (o9 a) (vo r):=by rw[WD];delta Cj;rw[auE];cases h:iJ r with|some e=>{rfl}|none=>rw[<-aSo (by delta iJ mV at h;rw[eJ,cY,eJ,cY];grind) c6,aSt];simp only[auE]
theorem auF(h:Cj r=ae):N dA Y2 (1<aJ) (iJ r=ae):=by rw[a4 Cj,fk b1 (iJ r) (iJ r),aj (Ts b1),fk e5 (GD r) (GD r),aj (Ts e5),fk f (GF r) (GF r),aj (Ts f)];have Y:=aep (hv GD e5) (hv GF f);rw[w Y ?_ ?_ b1];{rw[a4 Ci];rw[<-atW Y];grind-abstractProof};{delta iJ mV at b1;split at b1;rw[cY];split at b1;rw[cY];grind-abstractProof}
theorem auG(W:Cj r=ae){a:Q0}(c6:aMP)(d1:o9 a=ae):bcS:=by obtain⟨Y,n,a3,_⟩:=auF W;rw[aJ b (Ck r a) (Ck r a) d1 d1];rw[Ts b]at d1;delta Ck at b;have c:anH=ae:=by{simp_all};rw[aeo (c6 Y)]at c;delta yV at d1;rw[aJ k Kh Kh d1 d1];rw[k]at d1;have j2:=d1;rw[aJ D Ki Ki j2 j2];rw[D]at j2;rw[dy d alX ai];exact v (cZ c n d (by cases q:Ry with|some e=>{rw[q]at j2;cases j2}|none=>rfl)) Y d
theorem aSu{B:Plan}(C:aiK B)(c2:de=ps)(a5:bY=Wq):o9 (DD r)=ae:=by obtain⟨w,h,p,l,m⟩:=r;obtain⟨c5,h',u,i1,f7⟩:=B;cases c2;cases a5;delta Ck yV;have j2:HV (DD apO) l=ae:=C.f7;have j9:ch wQ (oH (s8 (Plan.near apO i)))=ae:=C.f8;have j8:ch wQ (Dn (aik (aCL apO) wQ 0 (Dy wQ)))=ae:=C.f9;have e2:ch wQ (Wl (aCL apO) wQ)=ae:=C.f10;simp only[j2,j9,j8,e2];rfl
noncomputable def Tt(r:Plan)(k:bZ H7):hT:=cV (Cj r) bha (vo r)
theorem aSv{k:bZ H7}(U:bcT):Tt r k=eR r:=by delta Tt;cases k with|none=>{exact bt (aeO (fun Y i l h=>S9 Y (bO h)))}|some B=>have C:=U B rfl;simp only;split;{next q=>rw[aeO (r:=r) (a:=DD r) (sb rfl),bcJ]};rw[l (bt (aeO (fun Y i l h=>aeN DF Y h)))]
theorem aSw{k:bZ H7}(U:bcT)(W:Cj r=ae)(d1:(bha)=ae):bcS:=by cases k with|none=>{exact GJ (S9 Y (bO h))}|some B=>have C:=U B rfl;simp only at d1;split at d1;{next q=>exact auG W (a:=DD r) (sb rfl) bcJ};rw[l (GJ (aeN DF Y h))]
universe GM
namespace GM
open Gla
variable{r:Plan}
theorem auH(Y:dA){i:Nat}(hi:gY):NP eI=i:=by have c4:=yK hi;refine Wn (wH c4) hi ?_;rw[e4 e (K de (NP eI) eI)];delta aCw at e⊢;rw[WE,e];rfl
theorem aSx(Y:dA):iY ig r.pts.eraseDups=de:=bt (Ti (as aC4) Y.dQ)
theorem auI(Y:dA)(w h:Nat)(d8:qa):H2 w h de H3 d8=a w h de bY (iY mU d8):=by delta H2;simp only[aSx Y];rw[dZ];have e:(r.drawn.map (bE (NP l.1) (NP l.2) (NP l.1) (NP l.2)))=bY:=by{delta Ny;rw[jy];rw[uW bY,j0 Yw];have:=Ro;simp only[Wx];rw[auH Y Q_,auH Y ag];grind-abstractProof};rw[J e (bt (aex (as aC4) Y.ls))]
theorem aSy(Y:dA){i:Nat}(h:i<fM)(m:Mark):pq r Z4=aa (B7 (iY mU Yh)):=by show(aMI)=_;rw[aK h,auI Y]
theorem mark_none{i:Nat}(h:¬i<fM)(m:Mark):p6 Z4:=by show(aMI)=_;rw[aO h]
theorem auJ{k:Nat}(h:¬k<aJ)(p:Pt):p6 aoM:=by show bo (k<aJ) _ ae=ae;rw[aO h]
theorem aSz(Y:dA){k:Nat}(h:k<aJ)(p:Pt):pq r aoM=aa (cs Zn (a3O (cr (am Zn l.1 jR,am Zn l.2 jR))) dS):=by rw[dy f (im ((v i k p eI)=am Zn i jR)) (by rw[WE,List.getElem?_set];rw[b1 i k,a_];{rw[c_ e (ah (e zD))];delta aCw;rfl}),gI bhl];rw[aK h];have b4:(a7T)=Zn:=by{rw[alR];intro i a3 a9;grind-abstractProof};rw[b4];congr 2;rw[j0 Yw];have:=Ro;grind-abstractProof
noncomputable def Lz(r:Plan)(k:Nat):ao:=iH (H5 k) (l.1+l.2-k)
theorem auK{k:Nat}(h:t (Lz r k)≠2):p6 (.drop k):=by rw[a4 Lz];delta pq;grind-abstractProof
set_option tactic.hygienic true in theorem drop_eq{k a b:Nat}(h:Lz r k=[a,b]):pq r (.drop k)=aa (cs (r.pts.eraseIdx k) ((iH (k9 (H5 k l)) Em)++[(rp,bp b)]) dS):=by have c:∀l∈YW,(v l.1 k rq pF)=bp (l.1+l.2-k):=fun l a5=>by{rw[c7 (vP a5).2];unfold endsAt at e;rw[Pr]};rw[a4 Lz];delta pq;simp only;split;rw[az];{next f6=>obtain⟨x,y,e⟩:∃x y,YW=Jq:=by{cases q:YW with|nil=>{simp_all}|cons x J=>cases J with|nil=>{simp_all}|cons y J=>simp_all};lia}
theorem auL{T:Plan}{c d8:qa}(Z:WG=iY mU c)(p:aiL c)(s:a3Q (ft amD)):eR am8=eR T/\(eR T=ae->am8=T):=by have D:=at3 p s;rw[<-Z]at D;rw[v (by delta eR;simp only[(nn (gB aC' D)),aR' T d8 D]) (fun h=>?_)];have C:aiK T:=by{refine aut ?_;rw[aj WD];cases q:iJ T with|some e=>{rw[m7 q]}|none=>rw[aj q];exact h};have:d8=WG:=t Z (aR8 p (by have a4:gS (T.marks.map AV) amx:=a3P H4.2;grind-abstractProof));rw[gp];rfl
universe GM
namespace GM
open Gla
def aeP:cv CK| .lead row m=>aMY| .erase i j=>i<65536/\j<65536| .move k p=>b1 k/\bk p.x/\bk p.y| .mark i m=>wg (i<65536)| .drop k=>b1 k
def Cm:cv CK| .lead row m=>aMY| .move _ p=>O8| .mark _ m=>uV|_=>gC
theorem Cm.ok:∀{x:Gla.Step},Cm x->Tq x| .lead _ _,h=>⟨⟨h.1.2.1,h.1.2.2⟩,h.2⟩| .erase _ _,_=>fZ| .move _ _,h=>h| .mark _ _,h=>h| .drop _,_=>fZ
theorem Cm.fit{r:Plan}(C:xX){x:Gla.Step}(h:Cm x){T:Plan}(m:aaG):aeP x:=by rw[h7 C.GC];have K:=C.clean;cases x with|lead row mk=>{exact h}|erase i j=>{have:¬(i=j\/an_):=ah (wD (auw K q));have w:=Hd (ci (this (.inr k)));exact⟨hp (Wt i j) w p_,hp (HL i j) w p_⟩}|move k p=>{rw[gl (k<aJ) (auJ q) AR]}|mark i mk=>{rw[gl (i<fM) (mark_none q) p_]}|drop k=>rw[cO (qM (ah (wD (auK q))))];unfold Lz at q;rw[cR bA];obtain⟨l,a5⟩:∃l,l∈YW:=by{cases e:YW with|nil=>{simp_all}|cons a J=>simp};rw[fL (K.ord.lt l (ff a5)),eq (vP a5).2];unfold endsAt at a9;simp at a9;show b1 k;grind-abstractProof
noncomputable def LA(r:Plan)(x:Gla.Step):a3R hT H7:=match pq r x with|none=> .error ae|some T=>di (eR T) (.error rG) Jz
theorem Tu{r:Plan}(C:xX){x:Gla.Step}(h:Tq x):n5 (LA r x):=by delta LA;cases m:pq r x with|none=>{exact aSp m}|some T=>have F:=Tr C h m;simp only;cases e:eR T with|some d3=>{exact aSq m F e}|none=>exact aSr m F e
theorem aSA{r:Plan}(C:xX){x:Gla.Step}(h:Tq x){T:Plan}(e:n5 Jz):yU T/\aaG:=by rw[a6 (Tu C h)];delta LA at e;cases m:pq r x with|none=>{simp_all}|some d=>rw[a6 m];simp only at e;cases f:eR d with|some d3=>{simp_all}|none=>rw[a6 f,dV];exact dw ⟨Tr C h m,f⟩
structure bU where
 cs:bL H7
 ss:bL CK
 d:Nat
structure ks(R:bU):Prop where
 len:a3S=lH+1
 dl:aIQ
 LB:∀r∈pw,xX
 fit:aK mW (aeP x)
 st:∀(i:Nat)x r T,i (fi mW) (A pw r) (K pw (i+1) T) (n5 Jz)
 few:lH<=65536
noncomputable def bU.gr(R:bU):a3T:=v a8i tR YX
noncomputable def bU.cur(R:bU):H7:=R.cs.getD R.d al5
theorem ks.get{R:bU}(Y:ho){i:Nat}(h:i<=lH):z r (A pw r) xX:=by have hi:i<a3S:=by{have:=NQ;simp+arith [*]};exact av pP (Y.LB _ (te hi))
theorem ks.cur{R:bU}(Y:ho):K pw R.d gb/\yU gb:=by obtain⟨r,h,c⟩:=aiM wR;have e:gb=r:=by{delta bU.cur;simp[*]};simp[*]
theorem ks.first{R:bU}(Y:ho):K pw 0 tp/\yU tp:=by obtain⟨r,h,c⟩:=aiM cT;have e:tp=r:=by{delta pz;cases q:pw with|nil=>{grind-abstractProof}|cons a J=>simp_all};simp[*]
theorem auM:∀(l:bL CK)(r T d:Plan)(x:Gla.Step),aiN r l=aa T->H6 T x= .ok d->aiN r (l++[x])=aa d|[],r,T,d,x,h,g=>by{rw[cI];show m1 x []=aa d;delta DH;rw[g];rfl}|y::J,r,T,d,x,h,g=>by rw[t0 (m1 y J)];show m1 y (J++[x])=aa d;cases q:DH r y with|none=>{simp_all}|some V=>rw[q]at h';exact auM J V T d x h' g
theorem ks.after{R:bU}(Y:ho):∀(i:Nat),i<=lH->aiN tp (NR i)=pw[i]?|0,_=>de aDb.1|i+1,h=>by have d6:=aBK i dW;obtain⟨r,b2,_⟩:=aiM (i:=i) dW;obtain⟨T,Z,_⟩:=aiM (i:=i+1) h;have hi:i<lH:=by{trivial};rw[b2]at d6;rw[aDa hi,Z];exact auM _ _ r T _ d6 (Y.st i _ r T pP b2 Z)
theorem ks.now{R:bU}(Y:ho):R.gr.now=gb:=by delta Gla.Record.now;have:=aBK R.d wR;rw[am DI.1,ra (Gla.after tp tR),oc];rfl
theorem aeQ{r:Plan}(C:xX):ks (kF r):=by rw[dv rfl aY (l2 cT),a_];{simp};(intros;trivial)
noncomputable def bU.add(R:bU)(x:Gla.Step)(T:Plan):bU:=v (P7++[T]) ant jN
theorem ks.add{R:bU}(Y:ho){x:Gla.Step}(S:Cm x){T:Plan}(h:H6 gb x=Jz)(few:b1 R.d):ks ZS:=by have c:=DI;have t:=aSA c.2 S.ok h;rw[c4 a7 (t P7) jN,bhk,dv (bx NS a7 d5) (eM NS d5) (l2 (by simp[NS,d5];exact HJ bG))];{intro r b2;rw[h_ b2,l (Y.LB r (qY q))];simp_all};{intro y b6;rw[h_ b6,l (aiO y (qY q)),zA (S.fit c.2 t.2)]};{intro i y r d a3 a9 e2;simp only[NS]at a3 a9 e2;by_cases q:i<R.d;{rw[hC ag,sX q]at a3;rw[hC (b7 q a7.g),sX Ji]at a9;rw[hC ag,sX ag]at e2;exact Y.st i y r d a3 a9 e2};{rw[f7 (bx a3)];rw[ck,d5]at a5;rw[fs (i=R.d) (mR (HJ a5) (a3U q))];rw[ph (qL d5),d5,zE]at a3;rw[hC (t a7 jW),sX jW]at a9;rw[ph (qL a7),a7,zE]at e2;cases a3;cases e2;rw[J (c_ (a9.symm.trans c.1)) h]}}
theorem bU.aSB{R:bU}(Y:ho)(x:Gla.Step)(T:Plan):(ZS).gr={wU with done:=aiP++[x],undone:=[]}:=by rw[bhk];have b4:an ant jN=ant:=DJ (ar d5);have b9:dg ant jN=[]:=aiB (ar d5);have f5:(P7++[T]).headD al5=a8i:=by{cases q:pw with|nil=>{have:=NQ;simp_all}|cons a J=>rfl};delta NS pz;simp only[*]
theorem ks.aeR{R:bU}(Y:ho):R.gr.done.length=R.d:=by show t tR=R.d;rw[eT];have:=wR;exact kR
theorem ks.auN{R:bU}(Y:ho):R.gr.undone.length=ug:=by show t YX=_;rw[sR]
theorem aSC{R:bU}(Y:ho)(h:R.d=0):R.gr.undo=ae:=by delta a3V;have:aiP=[]:=by{show tR=[];rw[h];rfl};rw[oc];rfl
theorem auO{R:bU}(Y:ho)(h:R.d≠0):R.gr.undo=aa (pg tZ)/\ks (ir tZ):=by have dl:=wR;have hi:tZ<lH:=by{lia};have e:tR=a_S:=by{rw[HD (aDa hi)]};have b9:aDc tZ=mW[tZ]::YX:=by{rw[HD (Wz hi)]};rw[Hq bM];delta a3V;have hd:aiP=a_S:=e;rw[hd];simp only[List.getLast?_append,List.getLast?_singleton,Option.some_or,List.dropLast_concat];delta pz;simp only[b9]
theorem aSD{R:bU}(Y:ho)(h:ug=0):R.gr.redo=ae:=by delta a3W;have:aDd=[]:=by{show YX=[];exact aiB (bn (aS lH R.d) h.l)};rw[oc]
theorem auP{R:bU}(Y:ho)(h:ug≠0):R.gr.redo=aa (pg jN)/\ks (ir jN):=by have hi:R.d<lH:=by{lia-abstractProof};have e:NR jN=tR++[mW[R.d]]:=aDa hi;have b9:YX=bbl:=Wz hi;rw[Hq bB];delta a3W;have hd:aDd=bbl:=b9;rw[hd];simp only;delta pz;simp only[e]
theorem bU.all(R:bU):aiP++aDd=mW:=DA _ _
noncomputable def GG(b:Bytes)(p:Nat):hT:=match aiQ b p with| .error e=>rG| .ok k=>E (cx<p+k) 6 cx ae
noncomputable def LC(b:Bytes)(p:Nat):Nat:=match aiQ b p with| .error _=>0| .ok k=>k
theorem Tv{b:Bytes}{p:Nat}{c:UInt8}(h:aKq):c5 p 1=eE:=by delta num;rw[eC c2 p cx];rw[Wz c2];rw[aj (dd c2),cI];show NG [b[p]]=b[p].toNat;exact HH _
theorem aSE{b:Bytes}{n:Nat}{r:Plan}{p:Nat}{e:Fault}(h:GG b p=aa e):BG Am:=bbt
theorem aSF{b:Bytes}{n:Nat}{r:Plan}{p:Nat}(h:JG)(t:DH r uS=ae):BG (wX 7):=bbt
theorem aSG{b:Bytes}{n:Nat}{r T:Plan}{p:Nat}(h:JG)(t:DH r uS=aa T):BG (gD (zJ b n T aHA) (uS::x.1,x.2)):=by rw[a4 GG];delta LC;conv=>{lhs;unfold readSteps};rw[xr]
theorem aeS{b:Bytes}{p:Nat}(h:JG):∃c:UInt8,aKq/\eE<=4/\D8 (aLL/\2<=jC/\jC<=64):=by revert h;revert b p;refine Kq;rw[bW b p,eF];delta GG aiQ at h;cases q:b[p]? with|none=>{simp_all}|some c=>rw[ak c rfl,aj q,ame,d7 u c];{subst u;rw[v ay (fun _=>?_)];cases d2:b[p+1]? with|none=>{simp_all}|some n=>rw[aj d2,nC mL,bC w (mV 2 64 jC),l (aP n (by delta mV at w;simpa using w))];simp_all};{rw[l6 (an (cz e (an (u (by apply aDh;simpa using e))))),i2 u,N e5 c 1,az,i2 e5,N e6 c 2,az,i2 e6,N c1 c 3,az,i2 c1,N i0 c 4,az,i2 i0,cI]}
theorem aSH{b:Bytes}{p:Nat}(h:JG):LC b p=(rd (c5 p 1) (c5 (p+1) 1)):=by revert h;revert b p;refine Kq;rw[bW b p,eF,eK i0 a5 (aeS h)];rw[Tv b0];delta LC aiQ;rw[b0];simp only;have l:∀k:Nat,k<256->(c=aiR k↔eE=k):=fun k c3=>by{rw[<-UInt8.toNat_inj,aDi];rw[ue]};have I:=l 4 ay;have cs:aMW:=by{lia};rw[aM0];{obtain⟨n,d1,n1,n2⟩:=a5 e;have z:c=0:=ae (l 0 ay) e;rw[aK z,d1,e,Tv d1];have w:mV 2 64 jC=ab:=by{delta mV;simp[n1,n2]};simp+arith [*]};rw[z5 1,z5 2,z5 3,az]
theorem aeT(b:Bytes)(p:Nat):bk (ptAt b p).x/\bk (ptAt b p).y:=⟨eM p 4 ptAt,eM (p+4) 4 ptAt⟩
theorem auQ(b:Bytes)(p:Nat):(bk (apy).at_.x/\bk (apy).at_.y)/\b1 (apy).glass/\b1 (apy).painting:=v (aeT b p) (eM (p+8) 2 aDj) (eM (p+10) 2 aDj)
theorem auR{b:Bytes}{p:Nat}(h:JG):Cm uS:=by have⟨c,b0,i0,a5⟩:=aeS h;delta a3X;simp only;rw[Tv b0];split;{next e=>have⟨n,d1,n1,n2⟩:=a5 e;rw[Tv d1];rw[v (v ag ag (fun q e0=>?_)) (auQ b _),iG i (zy e0)];exact aeT b _};{split;rw[cY];{split;rw[l (aeT b _)];{split;rw[l (auQ b _),cY]}}}
structure vp(b:Bytes)(N:Nat)(n:Plan)(f i:Nat)(R:bU)(p:Nat):Prop where
 ok:ho
 d:R.d=i
 l:lH=i
 first:K pw 0 n
 le:i<=N
 eq:vc (gD (zJ b (N-i) gb p) (mW++x.1,x.2))
theorem aSI{b:Bytes}{N:Nat}{n:Plan}(C:yU n)(f:Nat):ep 0 (kF n) f:=by rw[y (aeQ C) rfl rfl (au cT)];show zJ b N n f=gD (zJ b (N-0) n f) ([]++x.1,x.2);rw[ah9];rw[ku (zJ b N n f) x]
theorem aSJ{R:bU}(Y:ho)(x:Gla.Step)(T:Plan):(ZS).cur=T:=by have a7:t P7=jN:=by{rw[eT];have:=NQ;have:=wR;simp[*]};delta bU.cur NS;simp only;simp[*]
theorem vp.step{b:Bytes}{N:Nat}{n:Plan}{f i:Nat}{R:bU}{p:Nat}(I:aJt)(hN:N<=65536)(lt:i<N)(h:JG){T:Plan}(t:H6 gb uS=Jz):ep (i+1) (WH uS T) aHA:=by have d:=I.d;rw[cd I.l,dv (I.ok.add (auR h) t (fG d.l (fJ lt hN))) (by show jN=_;rw[xM]) (au lt)];{show t (tR++[uS])=_;simp[*]};{show(P7++[T])[0]?=_;have:=I.ok.len;rw[hC ag,sX pZ];exact I.first};{rw[c7 I.eq];rw[a78,aSG h (by delta DH;rw[t])]at e;rw[e,aSJ Ve];have a7:(WH uS T).ss=mW++[uS]:=by{show tR++[uS]=_;grind-abstractProof};rw[a7];cases zJ b (N-jc) T aHA with|error e=>{rfl}|ok x=>simp[Except.map]}
theorem vp.fail{b:Bytes}{N:Nat}{n:Plan}{f i:Nat}{R:bU}{p:Nat}(I:aJt)(lt:i<N){e:Fault}(h:GG b p=aa e):vc Am:=HE (aSE h)
theorem vp.no{b:Bytes}{N:Nat}{n:Plan}{f i:Nat}{R:bU}{p:Nat}(I:aJt)(lt:i<N)(h:JG)(t:∀T,H6 gb uS≠Jz):vc (wX 7):=HE (aSF h (by delta DH;rw[Pr]))
theorem vp.done{b:Bytes}{N:Nat}{n:Plan}{f:Nat}{R:bU}{p:Nat}(I:ep N R p):vc (.ok (mW,p)):=by have q:=I.eq;rw[cR zE];rw[q];show Except.ok (mW++[],p)=_;rw[qP]
noncomputable def yW(b:Bytes):hT:=f2 16 SAVED (E (STEPS<aaf) 2 8 (E (cx<16+JR) 3 cx ae))
theorem aSK{b:Bytes}{e:Fault}(h:yW b=aa e):H8 b=Am:=by rw[a4 yW];delta H8;rw[eJ,az,ka]
theorem auS{b:Bytes}(h:yW b=ae):(aaf<=65536/\16+JR<=cx)/\H8 b=(match wO (yF JR)with| .error e=> .error a97| .ok r=>match zJ b aaf r (16+JR)with| .error e=>Am| .ok (l,p)=>if p<cx then wX 8 else .ok (v r (He Av) (oP Av))):=by rw[a4 yW];delta H8;rw[eJ,al8];next d2=>rw[eJ,al8];next q2=>rw[eJ,al8];next q3=>rw[eJ,al8];next i6=>rw[bj d2,bj q2,bj q3,bj i6];exact dw ⟨by delta STEPS at q3;exact(qw q3),j9 i6⟩
theorem vp.got{b:Bytes}{n:Plan}{p:Nat}{R:bU}(I:vp b aaf n (16+JR) aaf R p)(h:yW b=ae)(j:wO (yF JR)= .ok n)(a0:¬p<cx):H8 b= .ok (pg Av)/\ks (ir Av):=by have Y:ks (ir Av):=c I.ok.len (by show Av<=lH;have:=I.l;simp[*]) I.ok.LB I.ok.fit I.ok.st I.ok.few;rw[l6 Y];rw[(auS h).2,j];simp only[I.done];rw[aO a0];have e:(pg Av).first=n:=by{have:=aDb.1;rw[fJ I.first];simp_all};rw[dZ];delta pz at e⊢;simp only at e⊢;rw[e]
noncomputable def aeU(b:Bytes):hT:=f2 jA aiC (kr (iJ rM) (E aKd 2 18 (E aMK 3 jA ae)))
theorem aeV(b:Bytes):(rM).pts.length=c5 12 2/\(rM).lines.length=c5 14 2/\(rM).marks.length=c5 16 2:=i4 lG
theorem auT(b:Bytes):wL rM:=by have l:=aeV b;have y:=D1 4;have n2:=D1 2;rw[e (y 4) (y 8) ag ag ag ?_ ?_ ?_,aL8,aL8,aL8]
theorem auU(b:Bytes):wO b=di (aeU b) Am (jv (eR rM) rM):=by rw[cd (aeV b)];delta aeU wO;by_cases a3:cx<jA;rw[a_,c_ a3 a3];by_cases a9:xl≠aiC;rw[a_];rw[PZ,PZ,WD];delta iJ;rw[l.1,l.2.1,l.2.2];rw[ab n (rM).w JR,ab f (rM).h Av];rw[n,f];split;{rfl};split;{rfl};split;{rfl};split;{rfl};split;{rfl};{show _=di (av aKd (⟨2,18⟩:a3Y) (E aMK 3 jA ae)) (Except.error e) (jv (rM).fault rM);by_cases e2:aKd;rw[a_,c_ e2 e2];by_cases e5:aMK;rw[a_,c_ e5 e5];rfl}
theorem auV{b:Bytes}{r:Plan}(h:wO b= .ok r):xX:=by rw[aj auU];cases q:aeU b with|some e=>{simp_all}|none=>rw[aj q,ame];cases J:eR rM with|some e=>{simp_all}|none=>rw[aj J,cI];exact⟨auT b,J⟩
noncomputable def LD(w h:Nat):ek:=[jR,jZ w,ht h,iE w]
noncomputable def Tw(w h:Nat):nh:=[(jR,jZ w),(jR,ht h),(jZ w,iE w),(ht h,iE w)]
noncomputable def auW(w h:Nat)(m:Mark):H7:=H2 w h (LD w h) (Tw w h) [m]
theorem aSL{w h:Nat}(hw:0<w)(c7:0<h)(m:Mark):qv=rZ:=by have Y:Ord bh5:=by{rw[dv ?_ ?_ ?_];{simp[LD,ig,hw,c7]};rw[bbK,bbK];{intro e a0;simp at a0;rw[k3 a0]<;>simp[LD]};{simp[kC]}};have:=auI Y w h [m];delta auW;rw[ab e (Ny bh5) (Tw w h),am e];exact this
theorem Tx{w h:Nat}(m:Mark):eR qv=eR rZ/\(eR rZ=ae->qv=rZ):=by by_cases q:0<w/\0<h;rw[l8 (aSL q.1 q.2)];{have b4:iJ qv=iJ rZ/\iJ rZ≠ae:=by{delta iJ;rw[ab a (qv).w w,ab b (qv).h h,ab c (rZ).w w,ab d (rZ).h h];rw[a,b,c,d];by_cases z:wc w;rw[a_];{rw[c_ z z];have h6:mV aDl aDk h=ah:=by{delta mV aDl aDk at z⊢;grind-abstractProof};simp[*]}};rw[WD,WD,b4.1];cases J:iJ rZ with|none=>{rw[dT J b4.2]}|some e=>exact bd (da PQ)}
theorem auX{w h:Nat}{m:Mark}(hw:bk w)(c7:bk h)(c4:uV):wL rZ:=by rw[e hw c7 AN AN AN ?_ ?_ ?_];{intro p c2;simp[aiS]at c2;rw[k3 c2];{decide};rw[jo hw a8z,jo a8z c7,jo hw c7]};{intro e a0;simp[aiS]at a0;rw[Fn]};{intro f7 Z;simp[aiS]at Z;subst Z;exact c4}
theorem aSM{w h:Nat}{m:Mark}(hw:bk w)(c7:bk h)(c4:uV):wO (qZ rZ)=jv (eR qv) qv:=by rw[aup (auX hw c7 c4),(Tx m).1];cases q:eR rZ with|some e=>{rfl}|none=>rw[(Tx m).2 q]
theorem aSN{w h:Nat}{m:Mark}(hw:bk w)(c7:bk h)(c4:uV)(e:eR qv=ae):yU qv:=by have q:=e;rw[cR (Tx m).1,l6 e];rw[(Tx m).2 q];exact auX hw c7 c4
universe GM
namespace GM
open Gla GlaKeeps
noncomputable def dst(o:PM)(c:GlaKeeps.Call):GlaKeeps.State×aQ:=((aDm (tq pz) c).1,a3Z (aDm (tq pz) c).2)
noncomputable def auY(e:Fault):aQ:=[-5,v e.rule,v aDn]
theorem aSO(o:PM){b:Bytes}(h:cx<=131072):dst o (.open_ b)=match wO b with| .error e=>aIP| .ok r=>qx (pz (kF r)):=qZ BYTES (wO b)
theorem aSP(o:PM){b:Bytes}(h:cx<=67108864):dst o (.read b)=match H8 b with| .error e=>aIP| .ok J=>qx J:=qZ READ (H8 b)
theorem auZ(o:PM){c:GlaKeeps.Call}(a3:aHe=ab\/M7=ab)(h:aiT c=ah):dst o c=(tq pz,[-1]):=by rw[Yz];rw[bj (by rintro⟨a,b⟩;rw[al a3,cM,az]),aK h];rfl
theorem aSQ{c:GlaKeeps.Call}(h:aHe=ah):dst ae c=(ae,[-9]):=by rw[Yz];rw[aK (dw h)];rfl
theorem aSR(o:PM){w h:Nat}{m:Mark}(b3:aiT apj=ab):dst o apj=di (eR qv) aIP (qx (pz (kF qv))):=by have c7:z (bk w) (bk h) aFW (b1 jz) (b1 kD):=by{delta wV zK aDo q_ zK at b3;simpa using b3};rw[Yz,C4 hU];delta a30;simp only[iO,iU];rw[aSM c7.1 c7.2.1 c7.2.2];rw[Ev (eR qv)]
theorem aeW{R:bU}{c:GlaKeeps.Call}(b3:aiT c=ab)(U:aHe=ah):dst lU c=((NT wU c).1,a3Z (NT wU c).2):=by rw[Yz,c_ aT hU];cases c<;>first|rfl|(cases U)
theorem aSS{R:bU}(Y:ho){c:GlaKeeps.Call}{x:Gla.Step}(b3:aiT c=ab)(S:stepOf c=aa x)(sa:Cm x):dst lU c=match LA gb x with| .error none=>lL [-2]| .error (some e)=>lL (auY e)| .ok T=>mn (lL [-3]) (qx (ZS).gr):=by rw[aeW b3 (by cases c<;>first|rfl|rw[pU])];have e:NT wU c=stepOn wU x:=by{cases c<;>first|(rw[pU];rfl)|trivial};rw[e];delta stepOn;rw[Y.now,Tu DI.2 sa.ok];cases LA gb x with|error q=>{cases q with|none=>{rfl}|some f=>rfl}|ok T=>simp only[Y.aeR];delta STEPS;split;{rfl};{rw[bU.aSB Y x T];rfl}
theorem aST{R:bU}(Y:ho):gC .undo R.d tZ:=gU R.d (aSC Y h) (auO Y h)
theorem aSU{R:bU}(Y:ho):gC .redo ug jN:=gU ug (aSD Y h) (auP Y h)
theorem aSV{R:bU}(Y:ho){n:Nat}(h:n<=2):dst lU (.count n)=lL [0,ae bfI]:=by rw[aeW (x (dI bG)) rfl];delta NT;simp only[Y.now,Y.aeR,Y.auN];rfl
noncomputable def bN(b:Bytes):aQ:=wW (gZ (v eE))
theorem aSW{R:bU}(Y:ho):dst lU .plan=lL (0::kr (bN (qZ gb))::bN (qZ gb)):=by rw[aGy];delta NT;simp only[Y.now];rfl
theorem aSX{R:bU}(Y:ho):dst lU .save=lL (0::kr a_r::a_r):=de aGy
theorem aSY(o:PM){c:fC}{x:GlaKeeps.Call}(h:aHX):aiU (tq pz) c=dst o x:=f9 aiU h
universe GM
namespace GA
open PySem PySem.Spec PyProof.Rows L2
structure Tz(K:Fg)(mg:dO)(x:Str)(st:Stmt)(c5:cX)where
 f:ei
 fd:U3
 F:jt x fd
 m:jI (mg x) f
 b:aaC
structure my(K:Fg)(C:Addr)(m j:Str)(st:Stmt)(c5:cX)where
 f:ei
 fd:U3
 F:K4 K m j st f fd
 b:aaC
 h:Meth K C m f
structure vq(K:Fg)(C:Addr)(j:Str)(st:Stmt)(c5:cX)where
 f:ei
 fd:U3
 F:K4 K "__init__" j st f fd
 b:aaC
 h:Mk K C f
section z
variable{P:Program}{w:World}{K:Fg}{mg:dO}{base:Heap}{x m:Str}{C:Addr}{st:Stmt}{N c5:cX}{k:Nat}{e8:Sp}
abbrev Tz.Ok(R:apI)(P:Program)(w:World)(base:Heap)(k:Nat)(e8:Sp):Prop:=aM6
abbrev my.Ok(R:a9X)(mg:dO)(P:Program)(w:World)(base:Heap)(k:Nat)(e8:Sp):Prop:=aM6
abbrev vq.Ok(R:y_ x)(mg:dO)(P:Program)(w:World)(base:Heap)(k:Nat)(e8:Sp):Prop:=aM6
theorem Tz.go(R:apI)(r:apH)(U:∀(e3:Value)(A:Around)(outer:ke)(s:Shared)(H:Hp)(vs:af)(Q:VK)(E:XK),Ch (yF so P w K mg aj N x Eh R.f e3 A eB s H E))(len:aJC):R.Ok P w aj (k+1) e8:=aLA
theorem my.go(R:a9X)(r:apH)(U:∀(e3:Value)(A:Around)(outer:ke)(s:Shared)(H:Hp)(vs:af)(Q:VK)(E:XK),Ch (yF so P w K mg aj N x Eh R.f e3 A eB s H E))(len:aJC):bhN:=aLA
theorem vq.go(R:y_ x)(r:apH)(U:∀(e3:Value)(A:Around)(outer:ke)(s:Shared)(H:Hp)(vs:af)(Q:VK)(E:XK),Ch (yF so P w K mg aj N x Eh R.f e3 A eB s H E))(len:aJC):bhN:=aLA
universe z
section z
variable{X:Cx}
theorem kc{x:Str}{st:Stmt}{c5:cX}{e8:Sp}{j k:Nat}{e:Expr}{a7:fE}{t:TA}{p pos:Pos}(R:bgR)(G:biK)(a6:Qs)(c3:j<=k)(d8:qn)(b3:FC)(l:mi)(a0:Bv)(b8:JX):a'':=aO9 (G.mono c3) a6 d8 R.m R.F.kp R.b .nil fu b3 l a0 b8
theorem gi{x:Str}{n:Int}{pos:Pos}(c4:ax t (mI x) (e0 n))(d8:cg qn)(hd:mi):M (gV pos) (pw n):=by rw[i6 t c4];exact aqR d8 h (dw t) hd
universe z
variable{H L a8 b7:Hp}{K:Fg}
theorem b_{l:Addr}{o:HO}(h:xj):cZ H JU:=sv (Y (ep h) e)
theorem fI{l:Addr}{o:HO}(s:bQ)(h:xj):cZ H (upd L l o):=sv (Y (ep h) (s b u e))
def vr(H L:Hp):Prop:=j a O (cx tO) (L a=aa tO)
theorem vr.trans(a:vr H a8)(b:vr a8 b7):vr H b7:=fun x O h=>b x O (a x O h)
theorem dk(s:bQ):QO:=fun a O h=>bv h
theorem yX{l:Addr}{o:HO}(m:uX (H l)):vr H JU:=fun a O h=>Y (an (by rw[cb];rw[h]at m;exact m)) h
theorem GH{l:Addr}{o:HO}{O:af}(h:am l O):vr H JU:=yX (xa h)
theorem GI{l:Addr}{o:HO}(h:xj):vr H JU:=dk (b_ h)
abbrev Pt:=Gla.Pt
abbrev Rl(I:Type):=be Hp V I
def lA{I:Type}(R:kj):Prop:=∀(H L:Hp)(v:V)(x:I),QO->R H v x->R L v x
theorem lA.go{I:Type}{R:kj}(s:uw){H L:Hp}{v:V}{x:I}(t:QO)(h:R H v x):R L v x:=s _ _ _ _ t h
noncomputable abbrev vn(n:Nat):V:= .int cL
def oG:Rl Nat:=fun _ v n=>v=ji
inductive LF(l:af)(H:Hp)(v:V):Prop|mk:o a (v=bc) (l7 l) (LF l H v)
abbrev dH:Rl Pt:=fun H v p=>LF [.int p.y,.int p.x] H v
inductive eS(H:Hp)(v:V)(l:kk):Prop|mk:∀a x y,b v bc (cx ZU) (br x l.1) (br y l.2) aon
abbrev sA:Rl fB:=fun H v e=>LF [.int e.1,.int e.2] H v
abbrev sC:Rl Hf:=fun H v m=>LF (cg ik il jz kD) H v
def GJ:Rl (bZ Ms):=fun H v f=>match f with|none=>v= .bC|some e=>z a (v=bc) (cx (g8 e.rule aDn))
theorem sD:lA oG:=aoV
theorem dm:lA dH:=aLn
theorem gz:lA eS:=sp (by obtain⟨a,x,y,e,h,p,q⟩:=e0;exact a a x y e (bv h) (hJ s p) (hJ s q))
theorem iK:lA sA:=aLn
theorem js:lA sC:=aLn
theorem bjD:lA GJ:=fun H L v x s h=>by cases x with|none=>{exact h}|some e=>rw[ak q J h];exact v a q (bv J)
theorem TB{I d:Type}{F G:qr}(h:a't){l:ba}{m:nO}(q:f2 F):f2 G:=by induction q with|nil=>{rw[kO]}|cons J t i=>rw[cB (h _ _ J) i]
theorem mz{I d:Type}{F:qr}{l:ba}{m:nO}{i:Nat}{b:d}(q:f2 F)(h:aoh):z a Zk (F a b):=beV
theorem oH{I d:Type}{F:qr}{l:ba}{m:nO}{i:Nat}{a:I}(q:f2 F)(h:Zk):z b aoh (F a b):=beV
theorem oI{I d:Type}{F:qr}{l i1:ba}{m f7:nO}(h:f2 F)(s:dE F i1 f7):dE F (l++i1) (m++f7):=a'Y
theorem sF{I d:Type}{F:qr}(n:Nat):px (He n) (m.take n):=by induction n with|zero=>{intro l m _;exact .nil}|succ n d6=>rw[bZ l m];cases h with|nil=>{rw[kO]}|cons J t=>rw[cB J (d6 t)]
theorem Cn{I d:Type}{F:qr}(n:Nat):px (oP n) (m.drop n):=by induction n with|zero=>{rw[bZ l m];exact h}|succ n d6=>rw[bZ l m];cases h with|nil=>{rw[kO]}|cons J t=>exact d6 t
theorem au0(ns:ao):dE (oG H) jh ns:=by rw[wE ns]
theorem vt{vs:af}{ns:ao}(h:dE (oG H) vs ns):vs=jh:=a9N
inductive Co{I:Type}(R:kj)(K:Fg)(H:Hp)(a:Addr)(O:ba):Prop|mk:o4 (mG vs) (@Co I R K H a O)
theorem Co.mono{I:Type}{R:kj}(A:uw){a:Addr}{O:ba}(s:bQ)(h:bm R a O):Co R K L a O:=li (zL q) (dk s)
inductive dC{I:Type}(R:kj)(H:Hp)(a:Addr)(O:ba):Prop|mk:o4 (am a vs) (@dC I R H a O)
theorem dC.mono{I:Type}{R:kj}(A:uw){a:Addr}{O:ba}(s:bQ)(h:apr):dC R L a O:=li (bv q) (dk s)
theorem dC.ls{I:Type}{R:kj}{a:Addr}{O:ba}(h:apr):bm R a O:=nM (av q) p
theorem dC.put{I:Type}{R:kj}(A:uw){a l:Addr}{o:HO}{O:ba}(h:apr)(m:uX (H l))(ne:a≠l):dC R JU a O:=li (Y ne q) (yX m)
theorem aSZ{d0:It}{g:TG}{c3:TS}{D:Ends}{M:L2.St}{H:Hp}(n:Nat)(j:dL H9 Hp)(b1:amX)(go:lC (i<n) Pz)(stop:j M H (j n M H) (aDp n H))(c0:∀i M H x L,i (i<n) akY PJ (ge M aGs))(hd:tA n):em H9 (W 0 m M H) (V ak9 alM OK Pz (∃N:es H9,(alc)/\j x L PJ (ge M (r9 N)))):=by rw[eX n Qp n,ap_];by_cases Z:i<n;rw[co (d (go i M H Z p) (j (i+1)) bbb (fun x L y=>c0 i M H x L Z p y))];{have e:i=n:=mR hi (zj Z);rw[cb];exact dr (stop M H p) apA}
theorem aeX{I d:Type}{d0:It}{g:TG}{c3:TT}{b8:TE}{vs:ao}{M:L2.St}{a8:Hp}{D:Addr}{k:je}{R:Rl d}(A:uw)(Y:ba)(r:be Hp V I)(f:aHy)(a7:gF D)(c9:eO<hy)(go:l i H (i<eO) anS Pz)(stop:E H anS (aDp eO H))(b6:∀i H x L,i anS (i<eO) PJ (bQ/\z a ED (r L x a)))(c0:Lk (r L x a))(hd:vs (a31 f)):K5 (k H):=by let j:Y9:=mU (anS/\I d7 (am D d7) (dE (R H) d7 (kA (WI i) f)) (oV<=i));rw[ak (m4 eO (i<=eO)) (a eO bI cT (b_ a7) [] ak .nil aY)];rintro i m H⟨rfl,hi,s,d7,l,c5,le⟩;rw[fW Z eO];{refine i5 (go i H Z s) (fun L u=>kd eO (aS eO i));obtain⟨a4,a,b3,c⟩:=b6 i H x L s Z y;rw[a7X];refine c0 i a x L _ _ b3 (iq a4) c (fun y e4 b n d9 J=>?_) (fun fn d4 c8=>?_);{have d3:=fI (dj l);rw[e d7 d3 (br le Z c9) (fI (L (iq a4) d9) a7) (eN d7) ak ?_ ag];rw[g9,aiV];rw[ae t e4 (U e4 D (eN d7)) (GH d3)];refine oI (dH (NU (hG (gc d9) t)) c5) ?_;simp only[Hk,n,aDq];exact hy (NU t J)};{rw[j (L (iq a4) c8) d7 (dn (dj l)) ?_ EU];rw[g9,aiV];simp only[Hk,fn,aDq,qP];exact dH (NU (dk (gc c8))) c5}};{have e:i=eO:=mR hi (zj bG);rw[cb];rw[H_]at c5;exact dr (stop H s) (hd H d7 s l c5)}
theorem aeY{I d:Type}{g:TG}{c3:TT}{b8:TE}{vs:ao}{M:L2.St}{a8:Hp}{D:Addr}{k:je}{c:kj}(s0:lA c){R:Rl d}(A:uw){l:Addr}{Y:ba}(a5:wt c)(f:aHy)(a7:gF D)(c9:eO<hy)(c0:Lk (c L x a))(hd:vs (a31 f)):ea OU OU OU:=by rw[aGT];refine aeX A Y (fun H x a=>c H x a) f a7 c9 aMz (fun H s=>ap O (zL q) wQ aY) aM3 c0 hd;{rw[bcu];exact d O x (zL q) S};{obtain⟨rfl,y⟩:=y;rw[bdj];exact d ej b U (s0.go (dk s) J)}
theorem aS0{I d:Type}{g:TG}{c3:TT}{b8:TE}{vs:ao}{M:L2.St}{a8:Hp}{D:Addr}{k:je}{c:kj}(s0:lA c){R:Rl d}(A:uw){l:Addr}{Y:ba}(a5:wt c)(f:Nat×I->bZ d)(a7:gF D)(c9:eO<hy)(c0:∀(i:Nat)a T x L(h4:VK)(N:je),c ED OO (L T=aa (eB x)) (c L x a) (wR (f (i,a))->(f (i,a)=ae->aGS)->be al_ tG L aGH))(hd:vs (kA aKS f)):ea aJy aJy aJy:=by rw[aGT,aS i0 (t aKS) eO];refine aeX A aKS (fun H v a=>∃T x,v=al_/\bh T (ed (cf a.1) x)/\c H x a.2/\K Y a.1 a.2) f a7 ag aMz (fun H s=>v O (zL q) (ac wQ i0 aY)) aM3 (fun i a x L h4 N b3 s⟨T,b1,e,c6,J,hi⟩a3 a9=>?_) hd;{rw[i0]at hi;rw[bcu];exact d O x (zL q) S};{rw[i0]at hi;obtain⟨T,b1,rfl,Z,rfl,y⟩:=y;rw[bdj,c (b_ Z) (i,b) ?_ T b1 ak (s0.go (dk (iq (b_ Z))) J) U,J aiW ⟨ag,U⟩]};rw[sT (c0 a.1 a.2 T b1 L h4 N hi s c6 J a3 a9)]
universe GA
section z
open PySem PySem.Spec PyProof.Rows L2
instance nR:eK aDr:=⟨v [] [] 0⟩
instance nC:eK a32:=⟨.undo⟩
universe z
namespace GA
structure yY(a b c:Prop):Prop where mk::
 (A:a)
 (B:b)
 (C:c)
structure vu(a b c d:Prop):Prop where mk::
 (A:a)
 (B:b)
 (C:c)
 (D:d)
structure GK(a b c d e:Prop):Prop where mk::
 (A:a)
 (B:b)
 (C:c)
 (D:d)
 (E:e)
structure Aa6(a b c d e f:Prop):Prop where mk::
 (A:a)
 (B:b)
 (C:c)
 (D:d)
 (E:e)
 (F:f)
structure Aa7(a b c d e f g:Prop):Prop where mk::
 (A:a)
 (B:b)
 (C:c)
 (D:d)
 (E:e)
 (F:f)
 (G:g)
structure Aa8(a b c d e f g h:Prop):Prop where mk::
 (A:a)
 (B:b)
 (C:c)
 (D:d)
 (E:e)
 (F:f)
 (G:g)
 (H:h)
structure Aa9(a b c d e f g h i:Prop):Prop where mk::
 (A:a)
 (B:b)
 (C:c)
 (D:d)
 (E:e)
 (F:f)
 (G:g)
 (H:h)
 (I:i)
inductive vw{e f:Type}(p:au e f):Prop|mk:eU (p a b) (vw p)
inductive LG{e f g:Type}(p:be e f g):Prop|mk:∀a b c,p a b c->LG p
inductive GL{e f g h:Type}(p:aa e f g h):Prop|mk:z6 (p a b c d->GL p)
universe GA
namespace GA
open PySem PySem.Spec PyProof.Rows L2
section z
variable{X:Cx}{K:Fg}
theorem ixl(g:fD):KY X (Sr K):=g▸arH
theorem ixt(g:fD):KY X (Ss K):=g▸arI
theorem flK{e:Expr}{f:Str}{pos:Pos}{d6:TE}(g:fD)(a0:M e d6)(U:bgD):zz K:=g▸aO1 a0 U
theorem ptK{a7:fE}{k:Nat}{pos:Pos}{t:yz}{n:Nat}(g:fD)(b0:fR)(h:KD X a7 t)(d1:a_4)(z:a'j):G9 K:=g▸aOa b0 h d1 z
theorem aS6(g:fD):fZ "len" (K0 K):=g▸arM
theorem aS7(g:fD)(b0:fR):fZ "all" (adz K):=g▸aPU b0
theorem aS8(g:fD):Kw bbA:=g▸aPH
theorem aS9(g:fD):qx (fW K H p d7) (nm d7):=g▸aPI
theorem eqK(g:fD)(hu:uQ):be .Eq (adA K):=g▸aPV hu
theorem neK(g:fD)(hu:uQ):be .NotEq (adB K):=g▸aPW hu
theorem inK(g:fD):be .In (KZ K ah):=g▸aPF
theorem aTb(g:fD):be .NotIn (KZ K ab):=g▸aPG
theorem aTc(g:fD):KX X (Su K):=g▸aPC
theorem aTe(g:fD):KX X (adu K):=g▸aPu
theorem aTf{a:Expr}{d6:TE}(g:fD)(b3:fV)(a0:apx):BT K:=g▸aON b3 a0
universe z
theorem au2(f:Str)(v:V):∀l:hW,bd (gx l) (ec+1)|[]=>aY|p::J=>by have d6:=au2 f v J;rw[n3 p];unfold ko;split;{simp};rw[l (Vp d6)]
theorem vx{f:Str}{v:V}{l:hW}{n:Nat}(h:ec<n):t (gx l)<n+1:=bv (au2 f v l) (cg this h)
theorem TC{b8:TE}{M:L2.St}{H:Hp}{Q:VK}{N:je}(h:op Q):arW M H (fun b d4=>Z b (b8 M d4 Q) (N d4)):=kH
theorem aTg{I d:Type}(f:Fq):∀l:ba,Mm (an (aa (f e)))=xU|[]=>rfl|a::J=>aT
theorem LH{I:Type}(p:Be):on e (zB p)|[]=>rfl|a::J=>Hi (LH p J)
theorem aTh:iZ "len" "len":=a33
theorem au3:aKp:=cC
theorem aTi:vV "tuple"=aa rz:=cC
theorem aTj:vV "set"=aa Jx:=cC
theorem aTk:iZ "sorted" "sorted":=cC
theorem aTl:iZ "max" "max":=cC
theorem aTm:a'7:=cC
theorem aTn:iZ "all" "all":=cC
def GN(K:Fg)(mg:dO)(x:Str)(O:af):Prop:=Ed beX
def tKT(K:Fg)(O:af):TE:=l1 (E a uN (Q bc H))
theorem GT{X:Cx}{K:Fg}{x:Str}{O:af}{pos:Pos}(c4:GN K mI x O)(g:FL)(d8:cg qn)(hd:mi):M (gV pos) (tKT K O):=by rw[ak b3 h c4,nl e0];exact hq hd Q (e0 a (.inr h))
def au4(K:Fg)(mg:dO)(x:Str)(F:gv):Prop:=Ed (∀(P:Program)(w:World)(h:Heap),ur->apS)
inductive jKD(F:gv)(Q:VK)(y:V)(a8:Hp):Prop|mk:f k v (y=kV k) (uL=aa v) (Q v a8) (jKD F Q y a8)
def tKD(F:gv)(A:TE):TE:=wC (jKD F Q)
theorem aTp{X:Cx}{K:Fg}{x:Str}{F:gv}{i:Expr}{A:TE}{pos p:Pos}(hd:au4 K mI x F)(hi:yl)(c0:SH i)(g:FL)(d8:cg qn)(l:mi):M (eZ (gV p) i) (tKD F A):=by subst g;rw[ak b3 a7 hd,fz];refine ar_ a34 c0 (bD (hq l (fun z a8=>z=bc/\tKD F A M a8 Q) (bd h)) (fun u a4⟨z,a8,r,e,c1,d2⟩=>a7Q));obtain⟨y,b7,Y,Z,k,v,c3,d3,q2⟩:=P;subst c1;rw[jY,fs (u=dq a) e,bE d j (a7 eC X.w ag5 Y.KA),m7 (Dh vs k) (bl d3 (VE k))];exact⟨VF,a2H (BL Z) ahA hw (a v b7 (aiX _) W q2)⟩
noncomputable def au7:gv:=[nV 1,gV 2 6,gV 3 4,gV 4 2,gV 5 3,gV 6 5,gV 7 1,nV 8,nV 9,gV 10 1,nV 11,nV 12,nV 13]
theorem aTq:Y aMZ aMZ aa4:=bf
theorem aTr:an ["number"] "number" aa5:=uC
theorem aTs:Gp aa6:=bf
theorem aTt:Gp aa7:=bf
theorem aTu:an ["drawing"] "drawing" aa8:=uC
theorem aTv:bV "points" "a" "b" aa9:=bf
theorem aTw:Y ["width","height","points","ends","marks","standing","numbers","number","point","lines","p","q"] (v5 "ends") aa_:=bf
theorem aTx:Y ["a","b"] ["a","b"] aa':=bf
theorem aTy:Y ["width","height","mark","low_left","low_right","high_left","high_right","points","ends"] ["width","height","mark"] aba:=bf
theorem TF:Y ["data","place","size","value","byte"] ["data","place","size"] abb:=bf
theorem aTz:D5 abc:=uC
theorem aTA:D5 abd:=jp ai
theorem aTB:ul abe:=uC
theorem aTC:Y an7 an7 abf:=bf
theorem aTD:k1 ["data","fault","points","lines","marks"] abg:=bf
theorem aTE:Ig abh:=bf
theorem aTF:Ig abi:=bf
theorem au8:no "spot" abj:=bf
theorem aTG:k1 ["data","lines_begin","marks_begin","points","place","lines","marks"] abk:=bf
theorem aTH:an ["point"] "point" abl:=uC
theorem aTI:an ["line"] "line" abm:=uC
theorem aTJ:an ["mark"] "mark" abn:=uC
theorem aTK:an ["cartoon","data","row","point","line","mark"] "cartoon" abo:=bf
theorem aTL:KP abp:=bf
theorem aTM:KP abq:=bf
theorem aTN:Y apT apT abr:=bf
theorem aTO:Y ["row","spot","low","high","middle","line"] ["row","spot"] abt:=bf
theorem aTP:k2 abu:=uC
theorem aTQ:k2 abv:=jp ai
theorem au9:ds (oM "number") "number" abw:=bf
theorem aeZ:Y ["self","one","other"] ["self","one","other"] abx:=bf
theorem ae0:ds (b3 "spot" "at" "line") "spot" aby:=bf
theorem ae1:Y ["self","left","right","begun","between","number"] (b3 "left" "right" "begun") abz:=bf
theorem aTR:Y ["self","point","ended","tops","at","begun","gaps","number","line"] (b3 "point" "ended" "tops") abA:=bf
theorem ae2:Y ["point","tops","row","top"] ["point","tops"] abB:=bf
theorem aTS:Y ["self","sweep","gaps"] ["self","sweep","gaps"] abC:=bf
theorem au_:ci "mark" "gap" "mark" abD:=bf
theorem au':ci "line" "gaps" "line" abE:=bf
theorem TH:an (b3 "links" "own" "number") "self" abF:=bf
theorem aTT:iM ["drawing","sweep","tops","point","ended","a","b","gaps","mark","waiting","number","at","spot"] abG:=bf
theorem aTU:Y ["drawing","i","j","panes","homes","turned","line"] ["drawing","i","j"] abH:=bf
theorem aTV:iM ["drawing","rows","point","a","b"] abI:=bf
theorem ae3:an ["neighbours","number","row"] "neighbours" abJ:=bf
theorem aTW:an ["neighbours","came_from","tried","row","path","here","there"] "neighbours" abK:=bf
theorem ava:Y ["neighbours","came_from","number"] ["neighbours","came_from"] abL:=bf
theorem aTX:ov ["neighbours","came_from","order","rank","row","position","number","earliest","here","there","back"] abM:=bf
theorem aTY:ov ["neighbours","came_from","ranks","rank","earliest","begun_at_first","cuts","number","above"] abO:=bf
theorem TJ:k1 ["data","fault","drawing"] abQ:=bf
theorem TK:IK abR:=bf
theorem aTZ:ga "before" "before" abS:=bf
theorem ae4:IK abT:=bf
theorem aT0:iM ["drawing","fault"] abU:=bf
theorem aT1:bV "last" "number" "point" abV:=bf
theorem aT2:bV "last" "number" "line" abW:=bf
theorem aT3:iM ["drawing","width","height","points","edges","number","point","joined","line","row","first","last"] abX:=bf
theorem avb:Y ["points","row","first","last","joined","line"] bgi abY:=bf
theorem aT4:Y ["drawing","before","known_lines","known_points","line","point","new_points","ends","new_ends","number","tangled","numbers"] ["drawing","before"] abZ:=bf
theorem aT5:Y ["line","points","rivals","first","second","point","rival"] ["line","points","rivals"] ab0:=bf
theorem aT6:bV "neighbours" "number" "came_from" ab1:=bf
theorem aT7:bV "panes" "homes" "number" ab2:=bf
theorem aT8:Y ["drawing","homes","last","number","mark","spot"] ["drawing","homes"] ab3:=bf
theorem TM:an ["homes","seen","number","home"] "homes" ab4:=bf
theorem aT9:Y ["cartoon","step"] ["cartoon","step"] ab5:=bf
theorem aT_:Y aLj aLj ab6:=bf
theorem aT':an ["row"] "row" ab7:=uC
theorem ae5:Y ["line","row","inside","point"] ["line","row"] ab8:=bf
theorem ae6:Y ["cartoon","row","mark","ends","line"] ["cartoon","row","mark"] ab9:=bf
theorem aUa:Y ["cartoon","i","j","gone","line","ends","points"] ["cartoon","i","j"] ab_:=bf
theorem aUb:Y ["cartoon","k","point","points","ends","a","b"] ["cartoon","k","point"] ab':=bf
theorem avc:Y ["cartoon","i","mark","marks"] ["cartoon","i","mark"] aca:=bf
theorem aUc:Y ["cartoon","k","points","near","a","b","ends"] ["cartoon","k"] acb:=bf
theorem aUd:ds (oM "first") "first" acd:=bf
theorem aUe:k2 ace:=jp ai
theorem aUf:k2 acf:=Qk
theorem ae7:ds (b3 "step" "drawn" "fault") "step" acg:=bf
theorem aUg:k2 ach:=Qk
theorem aUh:k2 aci:=Qk
theorem aUi:k2 acj:=Qk
theorem aUj:an ["fault"] "fault" ack:=uC
theorem aUk:an ["record","first","data","number","step"] "record" acm:=bf
theorem ae8:an ["step","data","point"] "step" acn:=bf
theorem aUl:k1 ["data","fault","steps_place","told","record","number"] aco:=bf
theorem aUm:ul acp:=jp ai
theorem aUn:ul acq:=jp ai
theorem TN:Y ["record","data","place","number","fault"] ["record","data","place"] acr:=bf
theorem avd:no "missing" acs:=bf
theorem ae9:no "size" acu:=bf
theorem ae_:Y ["data","place","kind","number"] ["data","place"] acv:=bf
theorem aUo:Y ["data","place","row_place","mark_place","row","at"] ["data","place"] acw:=bf
theorem aUp:k2 acx:=Qk
theorem aUq:Y bdz (b3 "call" "numbers" "row") acy:=bf
theorem ave:Hu acz:=bf
theorem ae':ds (b3 "numbers" "drawing" "fault") "numbers" acA:=bf
theorem avf:Hu acB:=bf
theorem aUr:ds (oM "record") "record" acC:=bf
theorem afa:an ["lengths","length"] "lengths" acD:=bf
theorem afb:an ["numbers","number"] "numbers" acE:=bf
theorem aUs:KQ acF:=bf
theorem aUt:an ["numbers"] "numbers" acG:=uC
theorem afc:an ["row","at"] "row" acH:=bf
theorem aUu:KQ acI:=bf
theorem aUv:Y ["record","call","numbers"] ["record","call","numbers"] acJ:=bf
theorem aUw:Y ["record","what"] ["record","what"] acK:=bf
theorem aUx:ul acL:=Qk
theorem aUy:an ["calls","desk","told","at","call","row_at","numbers","row","answer"] "calls" acM:=bf
universe GA
section z
set_option tactic.hygienic true
namespace GA
open PySem PySem.Spec PyProof.Rows L2
theorem LI{K:Fg}{x q:Str}{st:Stmt}{f:Addr}(e:m8 f x):jt q (fdOf K f):=by unfold oF oE at e;unfold fdOf;rw[PY];{rename_i D m fd sl l;obtain⟨n,y,u,bo,a,gl,e9,i,kd,dc,b3,g,R,ct,j⟩:=fd;simp only[aiY,CI,FuncData.mk.injEq]at e;obtain⟨⟨rfl,rfl,rfl,rfl,rfl,rfl,rfl,rfl,-,-,-,-,-,-,rfl⟩,c,k⟩:=e;exact aQF l c k};{rw[dV]}
variable{K:Fg}{h:Heap}{mg:dO}{x m q:Str}{st:Stmt}{c5:cX}{C:Addr}
noncomputable def fnF(K:Fg)(x:Str):=(fn x,oF K x (dp x))
noncomputable def aUz(G:Bw)(a:baz)(e:oF K x (dp x)=oE x x st)(b:h0 x x):apI:=a _ _ (LI e) (G _ _ a) aJV
noncomputable def aUA(a:hI m ZH)(i:p2 (.ref ZH))(e:m8 ZH m)(b:h0 m q):my K C m q st c5:=a _ _ (LI e) aJV a i (LI e).kp
noncomputable def aUB(a:hI "__init__" aH4)(i:p2 (.ref aH4))(mk:amw)(y:aIo)(e:m8 aH4 "__init__")(b:a9b):y_ q:=a _ _ (LI e) aJV mk a i y
theorem GO{P:Fj}(h:P []):∀b1:aM,lC=0->P b1:=fun b1 e=>bt (NV e)▸h
theorem mA{n:Nat}{P:Fj}(h:j a b1 (lC=n) (P (a::b1)))(b1:aM)(e:lC=n+1):P b1:=by cases b1 with|nil=>{contradiction}|cons a b1=>exact h a b1 (aDs e)
theorem GP{P:Fj}(h:∀a,P [a]):of 1:=mA (fy (GO (h a)))
theorem Cp{P:Fj}(h:∀a b,P [a,b]):of 2:=q3 (GO (h a b))
theorem us3{P:Fj}(h:∀a b c,P aaT):of 3:=q3 (mA (gZ (GO (h a b c))))
theorem us4{P:Fj}(h:z6 (P [a,b,c,d])):of 4:=q3 (mA (gZ (mA (jx (GO (h a b c d))))))
theorem us5{P:Fj}(h:∀a b c d e,P [a,b,c,d,e]):of 5:=q3 (mA (gZ (mA (jx (mA (an (GO (h a b c d e))))))))
theorem us6{P:Fj}(h:∀a b c d e f,P [a,b,c,d,e,f]):of 6:=q3 (mA (gZ (mA (jx (mA (an (mA (fun f=>GO (h a b c d e f)))))))))
universe GA
universe z
section z
set_option tactic.hygienic true
namespace GA
open PySem PySem.Spec PyProof.Rows L2
theorem afd{K:Fg}{x:Str}(e:yu (fn x)=ab):baz:=by unfold adr;unfold yu at e;rw[PY];{rename_i h;rw[h]};{rw[dV]}
theorem avg{K:Fg}{C:Addr}{x:Str}(e:yu (hB x)=ab):hI x (RQ K C x):=by unfold RQ;unfold yu at e;rw[PY];{rename_i h;rw[h]};{rw[dV]}
theorem avh{v:Value}{i:Int}(e:vI v=aa i):∃t,v=e0 i:=by unfold vI at e;rw[PY];{rw[dV];exact el};{rw[dV]}
theorem aUG(P:Program)(w:World):∀{a7:bL VH}{c5:aO Int Int},a7.map nE=aiZ nP->I vs (KV (aiZ (ah ((.inl q.1:Key),cq q.2))) vs) (Pairs tM a7 vs) (df a7 (z k (Aa e.key) (e.hash=(tM).hash k))):=by intro a7;induction a7 with|nil=>{intro c5 z;cases a35 wo;exact d [] .nil .nil (fun e m=>i0 (oW m))}|cons e a7 d6=>intro c5 z;cases c5 with|nil=>{contradiction}|cons p c5=>injection z with a z;rw[Ho (d6 z),eA h a a,n3 (lI a),bbh];obtain⟨u,b⟩:=avh b;rw[bH c1 B e,cI];cases a;cases b;rw[w ((.inl p.1,mM p.2)::vs) (.cons (ah u rfl) d2) (.cons (ac2 p.1 t) rfl q2) a8q,g7 (ib m) rfl,l (bp (.inl p.1) (ac2 p.1 t)),l (q3 e m)]
theorem aUH{c:Type}{l:hV}{m:Fw}(h:KV l m):aDu fN=Eu:=by induction h with|nil=>{rfl}|cons J t d6=>rw[da,da,d6,J.1]
variable{K:Fg}{h:Heap}{mg:dO}{x m q:Str}{st:Stmt}{c5:cX}{C:Addr}
theorem aUI(G:Bw)(e:aKG=(ab,aMJ)):bev:=by rw[eE b4 (lI e)];unfold nmF at b9;split at b9;{rename_i c d a7 e1 sl l;rw[bcy];obtain⟨rfl,rfl,s,rfl⟩:=b9;rw[e3 a9h (fun P w h' a=>?_),Ho (aUG P w s),d vs d2 _ a7 e1 (a _ _ l) tK (aJ (fun d m=>q3 d (ax m)) q2)];rw[aUH d2];decide};{cases b9}
theorem aUJ{l:aQ}{b1:aM}(e:ai0 vI=kz aa):eD (kz cq):=by induction b1 generalizing l with|nil=>{rw[a4 (a35 CX) .nil]}|cons u b1 d6=>cases l with|nil=>{contradiction}|cons i l=>injection e with a b;rw[bbh,J a (.cons el (d6 b))]
theorem aUK{l:aQ}(G:Bw)(e:(yu (fn x),RS K x)=(ab,aa (aGo,kz aa)))(n:ec<=9:=by decide):a'_:=by rw[eE b4 (lI e)];unfold RS at b9;split at b9;{rename_i c d ar e1 sl k;rw[bcy,eE rfl b9];have z:=gB aC' b9;simp only[bA,Vk]at z;exact a _ a9h _ ar _ k rfl rfl ⟨t z (cp n ay),aUJ b9⟩};{cases b9}
theorem aUL{i:Int}(G:Bw)(e:RR (fn x)=aa i):ab x i:=by unfold RR at e;rw[PY];{rename_i t a;rw[dV];exact aW (G _ _ a)};{rw[dV]}
universe GA
universe z
section z
set_option tactic.hygienic true
namespace GA
open PySem PySem.Spec PyProof.Rows L2
noncomputable def abP(K:Fg)(x:String):Prop:=fn x=aa ae
noncomputable def itP(K:Fg)(p:gA×Int):Prop:=RR (fn p.1)=aa p.2
noncomputable def tpP(K:Fg)(p:gA×aQ):Prop:=n2 (RS K p.1)=(ab,a9I)
noncomputable def atP(K:Fg)(p:gA×EW):Prop:=n2 bch=beZ
noncomputable def fnP(K:Fg)(p:gA×ax):Prop:=n2 a'N=(ab,bci)
noncomputable def meP(K:Fg)(p:bfE):Prop:=ln p.2.1 (aS p)=(ab,bd5)
noncomputable def inP(K:Fg)(p:aLM):Prop:=ln "__init__" p.2.1=(ab,bd4)
variable{K:Fg}{h:Heap}{mg:dO}{x m q:String}{st:Stmt}{c5:cX}{c:String}
noncomputable def avj(G:Bw)(e:fnP K (x,st))(b:h0 x x):apI:=aUz G (afd (lI e).1) Y1 b
noncomputable def aUP(e:meP K (c,m,q,st))(b:h0 m q):my K (dp c) m q st c5:=DV (aUA (avg z.1) z.2 Y1 b)
structure ClP(K:Fg)(C:Addr):Prop where
 c:Zp
 m:amw
 k:aIo
theorem aUQ{l:EW}(e:atP K (c,l)):bgY:=by rw[eE b4 (lI e),eA b9 e7 b9,eA e7 g5 e7,wS b9];obtain⟨⟨⟨⟨a,b⟩,c⟩,d⟩,k⟩:=b9;exact v (afd b4) (v (d a b c e7) d k) (aDv g5)
noncomputable def aUR(Z:ClP K (dp c))(e:inP K (c,q,st))(b:a9b):vq K (dp c) q st c5:=DV (aUB (avg z.1) z.2 Z.m Z.k Y1 b)
theorem fc{I d c:Type}{f g:Fq}{l:ba}{a b:c}(e:(xU,a)=(kz g,b)):bk l (f x=g x)/\a=b:=⟨aDv (lI e).1,Y1⟩
theorem avl(e:aaS):bk abN (abP K x)/\bk itN (itP K x)/\bk tpN (tpP K x)/\aKG=(ab,aMJ)/\N (bk atN (atP K x)) (bk fnN (fnP K x)) (bk meN (meP K x)) (aK FW (inP K x)):=by have⟨a,e⟩:=fc e;have⟨b,e⟩:=fc e;have⟨c,e⟩:=fc e;rw[cl d (lI e)];have⟨f,e⟩:=fc e;have⟨g,e⟩:=fc e;have⟨i,e⟩:=fc e;exact a a b c d f g i (aDv e)
universe GA
universe z
namespace L2
open PySem PySem.Spec PyProof.Rows
open PySem.W(WData Codec OpenSpec Well WellAll ReadsW ReadsAllW)
mutual inductive Dw(K:PySem.W.Frag)(H:Hp):au V ai1|bC:ff .bC .none|bl(b:Bool):ff E4 Jb|int(i:Int):ff hS hS|str(x:Str):ff Jw Jw|iE(b:fv Mt):ff (.iE b) (.bytes b.toList)|lst{a:Addr}{O:af}{c7:pV}:jj->eR O c7->ff bc aG5|tup{a:Addr}{O:af}{c7:pV}:uN->eR O c7->ff bc aHc inductive afi(K:PySem.W.Frag)(H:Hp):au af pV|nil:eR [] []|cons{v:V}{vs:af}{d:WData}{c7:pV}:ff v d->eR vs c7->eR (v::vs) (d::c7)end
theorem avm{K:PySem.W.Frag}{H:Hp}:∀ns:aQ,eR xO a8c|[]=> .nil|n::J=> .cons (.int n) (avm J)
theorem avn{K:PySem.W.Frag}{H:Hp}:∀(ns:aQ)(O:af),eR O a8c->O=xO|[],O,h=>aHx|n::J,O,h=>by cases h with|cons a3 a9=>cases a3;rw[avn J _ a9]<;>rfl
section z
variable{P:Program}{w:World}{K:PySem.W.Frag}{H:Hp}{h:Heap}{R:PySem.W.WRecords}{e9:Str->nj}
theorem aUS{a:Addr}{O:af}(du:ll)(y:ur)(q:jj):Kd Ak:=by rcases q with q|⟨o,ar,n,e,b0,_,hd,_,d3⟩;{obtain⟨_,ar,n,d3,e⟩:=dx (he (.lst O)) (q.ok du);exact a ar _ n d3 (aP e rfl)};rw[l (a MF o n d3 (y _ _ e) b0 bB)]
theorem aUT{a:Addr}{O:af}(du:ll)(y:ur)(q:uN):Kd rz:=by rcases q with q|⟨o,ar,n,e,b0,hd,_,d3⟩;{obtain⟨_,ar,d3,o,e,b0,n,hd⟩:=dx (he tO) (q.ok du);exact a ar o n d3 e b0 hd};rw[l (a MF o n d3 (y _ _ e) b0 bB)]
theorem Dw.reads(du:ll)(y:ur){d:WData}{v:V}(u:Value)(x:ff v d):jk->∃Y,nn h d:=by refine Dw.rec (motive_1:=fun v d _=>E u jk (∃Y,nn h d)) (motive_2:=fun vs c7 _=>E b1 Fo (∃Y,ReadsAllW R e9 h b1 c7 Y)) ?_ ?_ ?_ ?_ ?_ ?_ ?_ ?_ ?_ x u;{intro u J;rw[hP];exact aW ReadsW.none};{intro b u J;rw[hP];exact aW (ReadsW.bool b)};{intro i u J;rw[El];exact aW (ReadsW.int i t)};{intro s u J;rw[El];exact aW (ReadsW.str s t)};{intro b u J;rw[El];exact aW (ReadsW.bytes _ t)};rw[rs (aUS du y c0) (ReadsW.list d0 b0 hd a6),rs (aUT du y c0) (ReadsW.tuple d0 b0 hd a6)];{intro b1 J;rw[hP];exact aW ReadsAllW.nil};{intro v vs d c7 a3 a9 c2 N b1 J;cases J with|cons r1 r2=>rw[fy d2 (c2 _ r1)];obtain⟨bs,q2⟩:=N _ r2;exact aW (ReadsAllW.cons d2 q2)}
universe z
mutual def qI:ai1->cf| .none=>ab| .bool _=>ab| .int _=>ab| .str _=>ab| .bytes _=>ab| .list O=>sG O| .tuple O=>sG O|_=>ah def sG:pV->cf|[]=>ab|x::J=>qI x&&sG J end
theorem avo{I:Type}{f:I->ai1}(h:∀a,qI (f a)=ab):∀l:ba,sG xU=ab|[]=>rfl|x::J=>by show da (qI (f x)) (sG (J.map f));rw[h x,avo h J]<;>rfl
theorem Cq:∀(c:Codec)(a:c.denote),qI (aDw a)=ab| .unit,_=>rfl| .bool,_=>rfl| .int _ _,_=>rfl| .nat _ _,_=>rfl| .u8,_=>rfl| .bytes _ _,_=>rfl| .text _ _ _ _,_=>rfl| .list _ _ c,a=>avo (ab (Cq c x)) a| .pair c d,a=>op (qI (d.enc a.2)&&ab) (Cq d a.2)| .triple c d e,a=>by{show da (qI (aDw a.1)) (qI (d.enc a.2.1)&&(qI (e.enc a.2.2)&&ab));rw[Cq c a.1,Cq d a.2.1,Cq e a.2.2]<;>rfl}| .option c,none=>rfl| .option c,some x=>Cq c x
theorem avp:Hy (sG (NW cs a)=ab)|[],_=>rfl|c::cs,a=>op (sG (NW cs a.2)) (avp cs a.2)
theorem avq:∀{O:pV}{d:WData},d∈O->aDy<=aDx O|[],d,h=>cz h jK|x::J,d,h=>by show aDy<=x.weight+1+aDx J;rw[g7 (ib h) e];{simp+arith [*]};{have z:=avq m;exact cV z}
noncomputable def toV:cS->V| .none=> .bC| .bool b=>E4| .int i _=>hS| .str x _=>Jw| .bytes b _=> .iE b| .ref a=>bc|_=> .bC
def Cr(A:bg):cv cS| .none=>gC| .bool _=>gC| .int _ _=>gC| .str _ _=>gC| .bytes _ _=>gC| .ref a=>a∈A|_=>cF
theorem Cr.mono{A B:bg}(h:et A I6):∀{u:Value},Cr A u->Cr B u:=fun{u}x=>by cases u with|ref a=>{exact h a x}|none=>{trivial}|bool b=>{trivial}|int i t=>{trivial}|str s t=>{trivial}|bytes b t=>{trivial}|_=>rw[ZJ]
theorem aUU{A:bg}{u:Value}(x:Cr A u):gR (toV u) u:=by cases u with|ref a=>{rfl}|none=>{rfl}|bool b=>{rfl}|int i t=>{exact dw t}|str s t=>{exact dw t}|bytes b t=>{exact dw t}|_=>rw[ZJ]
theorem GQ{A:bg}:∀{vs:aM},PD->iP OW vs|[],_=> .nil|u::J,h=> .cons (aUU (h u (fx ..))) (GQ (aJ (h x (ck S))))
def TQ(h:Heap)(A:bg)(a:Addr):Prop:=FS (bA a EO\/bA a ER)
theorem TQ.mono{h:Heap}{A B:bg}{a:Addr}(k:et A I6)(x:TQ h A a):TQ h B a:=by rw[Hm x];exact d vs a3 (m6 (bN (a9 u hu) k)) e2
theorem avr{P:Params}{h:Heap}:∀{vs:aM}{c7:pV},al1->iR=c7.length:=by intro vs;induction vs with|nil=>{rw[du c7,cI];rfl}|cons v vs d6=>rw[du c7];cases h with|cons a b=>exact gB (· +1) (d6 b)
theorem avs{P:Params}{h:Heap}{v:Value}{c7:pV}(x:tD aG5):HT (bA a EO):=by cases x with|list d0 g=>exact f _ _ d0 g
theorem avt{P:Params}{h:Heap}{v:Value}{c7:pV}(x:tD aHc):HT (bA a ER):=by cases x with|tuple d0 g=>exact f _ _ d0 g
theorem aUV{P:Params}{h:Heap}{b1:aM}{d:WData}{c7:pV}(x:ai2 P h b1 (d::c7)):∃(v:Value)(vs:aM),b1=v::vs/\tD d/\al1:=by cases x with|cons a b=>exact f _ _ a b
theorem aUW{n:Nat}(h:n<=1048576):a1 n:=cp h ay
section z
variable{P:Params}{h:Heap}
mutual theorem aUX:gV (tD d) aGx (∃A:bg,Cr A v/\Bp)| .none,_,x,_,_=>oC fZ| .bool b,_,x,_,_=>oC fZ| .int i,_,x,_,_=>oC fZ| .str s,_,x,_,_=>oC fZ| .bytes b,_,x,_,_=>oC fZ| .list c7,_,x,p,z=>rf (avs x) (.inl d0)| .tuple c7,_,x,p,z=>rf (avt x) (.inr d0)| .float _,_,_,p,_=>rT| .dict _,_,_,p,_=>rT| .bytearray _,_,_,p,_=>rT| .set _,_,_,p,_=>rT| .frozenset _,_,_,p,_=>rT| .obj _ _,_,_,p,_=>rT theorem afj:gW al1 (V d c7 aGx) (∃A:bg,PD/\Bp)|[],_,x,_,_=>oC (fun u m=>cz m jK)|d::c7,_,x,p,z=>by{rw[bg',ber];obtain⟨A,e0,g0⟩:=aUX d v e7 q.1 (z d (fx ..));rw[dQ h2 e2 (afj c7 vs f5 q.2 (f9 (z e (ck a0)))),cf c (fX A (A++B)) (ah2 (.inl U)),cf f (fX B (A++B)) (ah2 (.inr U)),aa (A++B) a_N ua];{rw[g7 (ib hu) e,Z e (e0.mono c),l (bN (h2 u m) f)]};{rw[iP U,l (bN (g0 b m) c),l (bN (e2 b m) f)]}}end
universe z
noncomputable def TR(o:Obj):bZ HO:=match gD with| .seq vs _=>Z (we==YO) (aa (.yw o (.lst (a36 toV)))) (aa (.yw o (.tup (a36 toV))))|_=>ae
noncomputable def GR(K:PySem.W.Frag)(h:Heap)(A:bg):Hp:=il (if b∈A then(Z (sd (vN b)) ((zk b).bind TR) ae)else ae)
def LJ(H:Hp):Prop:=∀b,gs\/∃o u,fs alk
theorem avu(vs:aM):TR EO=aa a_c:=by show(Z (YO==YO) (aa (ai3 EO a8a)) (aa (ai3 EO a8b)))=_;rw[aK (aCx _)]
theorem avv(vs:aM):TR ER=aa a_d:=by show(Z (aGo==YO) (aa (ai3 ER a8a)) (aa (ai3 ER a8b)))=_;rw[aO ay]
section z
variable{P:Program}{w:World}{K:PySem.W.Frag}{h:Heap}{A:bg}
theorem afk{b:Addr}{o:Obj}(U:b∈A)(c3:amB)(e:mf):anO=TR o:=by delta GR;rw[aK U,c3,aK (g5 (ae:bZ Obj).isNone rfl),e]<;>rfl
theorem aUY{b:Addr}{u:HO}(q:eC anO):b∈A/\amB:=by delta GR at q;by_cases U:b∈A;{simp at*;lia};rw[az]
theorem aUZ(j:Bp){b:Addr}{u:HO}(q:eC anO):amB/\FS ((bA b EO/\u=a_c)\/(bA b ER/\u=a_d)):=by obtain⟨U,c3⟩:=aUY q;rw[Hm (j b U),aP c3 vs a3 a9,i7 e2 e];{rw[afk U c3 e,avu]at q;exact dr e (bt (c_ q))};{rw[afk U c3 e,avv]at q;exact e1 e (bt (c_ q))}
theorem aU0(j:Bp):LJ J4:=il (by cases q:anO with|none=>{exact gm}|some u=>obtain⟨_,vs,_,_,⟨_,e⟩|⟨_,e⟩⟩:=aoN;rw[a_,a_])
theorem aU1(j:Bp):fk J4 h:=qD (by obtain⟨_,vs,a3,a9,⟨e,rfl⟩|⟨e,rfl⟩⟩:=aoN;rw[l (c e ag vs _ (GQ a9) e),l (a e ai vs (GQ a9) _ e rfl _ rfl)])
theorem bjH{c C:Value}{vs b1:aM}(e:(aa {cls:=c,data:= .seq aDA}:bZ Obj)=aa {cls:=C,data:= .seq aDz}):c=C/\vs=b1:=cu
theorem aU2(y:ur)(j:Bp){a:Addr}{vs:aM}(b3:a∈A)(e:bA a EO):PD/\fW K J4 a OW:=rb avu (f _ aDz _ c3 rfl rfl bB (ax (GQ a9)))
theorem aU3(y:ur)(j:Bp){a:Addr}{vs:aM}(b3:a∈A)(e:bA a ER):PD/\va K J4 a OW:=rb avv (a _ aDz _ c3 rfl rfl ai (ax (GQ a9)))
mutual theorem aU4{c:Params}(y:ur)(j:Bp):gV (Well c h v d) (Cr A v) (Dw K J4 (toV v) d)| .none,_,x,_,_=>p4 .bC| .bool b,_,x,_,_=>p4 E4| .int i,_,x,_,_=>p4 hS| .str s,_,x,_,_=>p4 (.str s)| .bytes b,_,x,_,_=>by{cases x;have z:=Dw.iE (K:=K) (H:=J4) b.toArray;exact z}| .list c7,_,x,p,hu=>gE (avs x) (aU2 y j hu d0) (.lst c0 bgg)| .tuple c7,_,x,p,hu=>gE (avt x) (aU3 y j hu d0) (.tup c0 bgg)| .float _,_,_,p,_=>rT| .dict _,_,_,p,_=>rT| .bytearray _,_,_,p,_=>rT| .set _,_,_,p,_=>rT| .frozenset _,_,_,p,_=>rT| .obj _ _,_,_,p,_=>rT theorem afl{c:Params}(y:ur)(j:Bp):gW (ai2 c h vs c7) PD (afi K J4 OW c7)|[],_,x,_,_=>p4 .nil|d::c7,_,x,p,hu=>by{rw[bg',ber];exact .cons (aU4 y j d v e7 q.1 (hu _ (fx ..))) (afl y j c7 vs f5 q.2 (fun u m=>hu u (ck m)))}end
universe z
theorem aU5{P:Program}{w:World}{K:PySem.W.Frag}{mg D:dO}{T:mq}{k:Nat}{t:Addr}{fd:FuncData}{c5:cX}{e8:Sp}{l:Shared}{I:aM}{c7:pV}{R:PySem.W.WRecords}{e9:Str->nj}{f:WData}(y:vQ DK)(h:aDB CN mg)(U:aDB aBb D)(S:bgs)(Z:l.heap.NoLimit)(d8:l.gens= #[])(Q:ai2 ht DK I c7)(b8:sG c7=ab)(a0:bcs)(a6:hY k WJ)(F:∀base:iN,vQ aj->alP->vf P w K mg aj T k t fd c5 e8)(a8:a7Z)(E:c7.length=kA)(C:∀(H:Hp)(O:af),LJ H->eR O c7->e8 O H (fun v L=>Dw K L v f) JS)(W:∀H e c1,T [] H l JS e c1->cF):Hs (jw P w) WJ (.call nD (ec I)) (si (∃u Y,J= .ok (.ret u)/\nn mG f/\OldK DK mG/\Vi=l.os/\Hj Vh)) l:=by rw[eq A j (afj c7 I Q b8 a0)];have X:LJ aHZ:=aU0 j;have du:fk aHZ DK:=aU1 j;have b2:=afl y j c7 I Q b8 d0;have g:j b u (eC aIf) amB:=qD (aoN).1;have G:∀{b:Addr}{o:Obj}{a7:fv VH}{e1:Nat},be (a37 b)->gD=Py->aIf=ae:=fun{b o a7 e1}e d=>by{cases q:aIf with|none=>{rfl}|some u=>obtain⟨_,vs,_,_,⟨b9,_⟩|⟨b9,_⟩⟩:=aoN;rw[cM,cM]};generalize aHZ=H at X du b2 g G;have i:∀{b:Addr}{o:Obj},be (a37 b)->gs->iN (ac5 DK H):=fun e n=>aNI e n;have a:∀{b:Addr}{m:dO},aDB b m->(ac5 DK H).Ns b m:=fun{b m}⟨o,a7,e1,e,d,J⟩=>c o a7 e1 (i e (G e d)) d J;have b0:ht (vN b) gs:=db (by cases q:H b with|none=>{rfl}|some u=>rw[a6 (g b u q),dV]);have p:=db (i (y b o e) (b0 b o e));refine MS ((F _ p (a h)).run WJ [] l H (ec I) I (I.map toV) _ _ a6 (a rfl (d p (a h) (v D (a U) S) (let⟨c,a3,a9⟩:=Z;v c (a a3) a9)) (db (aNJ e)) (qL (aNH _ _)) fZ (dc (At U)) du (.of_eq d8)) (a8 l I (t (avr Q) E)) (GQ d0) (C H _ X b2)) (fun J c1 x=>?_);cases J with|error e=>{exact i0 (W H e c1 x)}|ok fl=>cases fl with|next=>{rw[ZJ]}|brk=>{rw[ZJ]}|cont=>{rw[ZJ]}|ret u=>obtain⟨v,L,os,bare,un,M,B,q⟩:=x;have r:=db (by cases q2:H b with|none=>{exact un.keep b o e q2 (by rw[tP];exact At z) jK}|some a4=>rcases X b with z|⟨N,b3,z⟩;rw[az];{obtain⟨b4,_⟩:=du b _ z;obtain⟨b9,_⟩:=M b _ (un.F0 b N _ z);rw[e]at b4;cases b4;exact b9});rw[fy a5 (Dw.reads (R:=R) (e9:=e9) M (db (r b o (y b o e))) u q B)];exact f u Y a5 (v (OldK.of_keep r) os bare)
theorem aU6{c7:pV}(h:a08 c7=ab):bcs:=fun d hd=>(PySem.W.layableW_iff.mp (Wk h d hd)).2.2
theorem avw:Hy (t (NW cs a)=ai4)|[],_=>rfl|c::cs,a=>by show t (NW cs a.2)+1=ai4+1;rw[avw cs a.2]
theorem aU7{J:OpenSpec}{k:Nat}{q:Program}{j:cX}{m:aHT}{b:au oO iN}{d:DefRec}{K:agM->U2}{T:oO->mq}{c5:cX}{e8:oO->Sp}(n:a8o)(x:a3_=[])(E:a39=kA)(a6:hY k WJ)(g:bh3)(F:rl (T w) (e8 w))(C:∀(w:World)(H:Hp)(O:af)(a:aDD zM),c (LJ H) (a38 zM a=ab) a_K (afi (K ht) H O (NW zM a)) (e8 w O H (fun v L=>Dw (K ht) L v aJW) JS))(W:∀(w:World)(H:Hp)(s:Shared)(e:Value)(c1:Shared),T w [] H s JS e c1->cF):biy:=by intro w F1 l mg D G c t o b3 R p Z kV d0 hd S a7 A d8 i I Y N P a5 Q a4;rw[ak b4 b9 (PySem.W.os_pre_some N)];obtain⟨e7,r⟩:=Codec.encAll_of_decAll zM i a b4;subst e7;have y:=g w _ c;obtain⟨fd,U,a0⟩:=F w mg t _ c y G.T.g A;refine PySem.W.enter_call (MS (aU5 (R:=[]) (e9:=classAt F1.heap) (f:=aJW) y G.T.g G.T.b G.T.builtins G.T.nolimit d8 Q (avp _ _) (aU6 P) a6 a0 U (t avw E) (fun H O X b2=>C w H O a X r b9 b2) (fun H e c1=>W w H l e c1)) (fun B c1 e0=>?_));obtain⟨u,M,rfl,a3,a9,e2,e5⟩:=e0;exact d (.inl (m u _ M (d kW a3 (ae (OpenSpec.post_iff n r _ _) rfl) (J (aDC (g5 ah z)))))) a9 e2 e5
theorem aU8{J:OpenSpec}{k:Nat}{q:Program}{j:cX}{m:aHT}{b:au oO iN}{d:DefRec}{K:agM->U2}{T:mq}{c5:cX}{e8:U2->Sp}(n:a8o)(x:a3_=[])(E:a39=kA)(a6:hY k WJ)(g:bh3)(F:rl T (e8 (K ht)))(C:∀(K:PySem.W.Frag)(H:Hp)(O:af)(a:aDD zM),c (LJ H) (a38 zM a=ab) a_K (eR O (NW zM a)) (e8 K O H (fun v L=>Dw K L v aJW) JS))(W:∀(H:Hp)(s:Shared)(e:Value)(c1:Shared),T [] H s JS e c1->cF):biy:=aU7 (K:=K) (T:=as T) (e8:=fun w=>e8 (K ht)) n x E a6 g F (fun w H O a a3 a9 e2 e5=>C (K ht) H O a a3 a9 e2 e5) (fun _ H s e c1=>W H s e c1)
universe L2
namespace GA
open PySem PySem.Spec PyProof.Rows L2
section z
variable{X:Cx}{a b c d e f:Expr}{d6 c3 i l b8 g:TE}{pos p E:Pos}{x:Str}
abbrev SE(X:Cx)(e:Expr)(a7:fE):Prop:=MD ro cG=g6 tH a7
theorem ea(h:fV)(s:cv a []):PA X [a] (hZ d6):=ve h Sl s
theorem sH(h:fV)(a9:lq)(s:cv a [b])(b5:cv b []):PA X [a,b] (qA d6 (hZ c3)):=ve h (ea a9 b5) s
theorem yZ(h:fV)(a9:lq)(e2:aav)(s:cv a [b,c])(b5:cv b [c])(c8:cv c []):nb aaT (hZ i):=ve h (sH a9 e2 b5 c8) s
theorem vy(h:fV)(a9:lq)(e2:aav)(e5:M d l)(s:cv a [b,c,d])(b5:cv b [c,d])(c8:cv c [d])(d9:cv d []):nb [a,b,c,d] (qA i (hZ l)):=ve h (yZ a9 e2 e5 b5 c8 d9) s
theorem GS(h:fV)(a9:lq)(e2:aav)(e5:M d l)(f:rV)(s:cv a [b,c,d,e])(b5:cv b [c,d,e])(c8:cv c [d,e])(d9:cv d [e])(f9:cv e []):nb [a,b,c,d,e] (qA i (qA l (hZ b8))):=ve h (vy a9 e2 e5 f b5 c8 d9 f9) s
theorem bW(i:Nat)(hN:X.N.Nodup)(a0:rV)(hi:cg ye)(S:eA Kb ahF)(c0:baG)(W:Kk):bd1:=aqW hN hi S a0 c0 W
theorem sI(i:Nat)(hN:X.N.Nodup)(hi:cg ye)(S:eA Kb ahF)(W:Kk):a'H:=aN9 hN hi S W
theorem GU(K:Fg){f:Str}(a0:M e d6)(U:cg (ag_ e f cG tH=tH))(g:FL):zz K:=flK g a0 U
theorem aU9(K:Fg)(b3:fV)(U:lq)(c0:a99)(g:FL):DL (Sr K):=Sq (ixl g) b3 U c0
theorem avx(K:Fg)(b3:fV)(U:lq)(c0:a99)(g:FL):DL (Ss K):=Sq (ixt g) b3 U c0
theorem aU_{st:Stmt}{c5:cX}{e8:Sp}{j k:Nat}{a7:fE}{t:TA}{R:bgR}(G:biK)(a6:Qs)(b3:FC)(c3:eA (j<=k) Vo)(d8:cg qn)(l:mi)(a0:Bv)(b8:JX):a'':=kc R G a6 c3 d8 b3 l a0 b8
theorem eb{j:CmpOp}{J:R2}(d0:Rw)(b3:fV)(U:lq)(c4:a9p):a9E:=KP d0 b3 U c4
theorem afm{j:CmpOp}{J:R2}(d0:Rw)(b3:fV)(U:lq)(c4:a9p):M al0 Yv:=KO d0 b3 U c4
theorem mB{c7 iter:Expr}{a:uj}{wi:TI}{g:TG}{c3:TS}(hi:aaE)(d8:aKE)(U:aI')(c2:eA aMn aul._auto_1)(b0:cg fR)(c0:anG):bhX:=aOw c2 b0 hi d8 U c0
theorem aU'(K:Fg)(c4:ge "len")(b3:fV)(d8:cg (Gl X "len"))(a0:cv a [])(b8:Zm)(g:FL):M (ev "len" [a]) (KW (K0 K) (hZ d6)):=F_ (aS6 g) d8 c4 aTh (ea b3 a0) ay ay a0 b8
theorem afn(K:Fg)(b3:fV)(a0:eA apx ag1)(g:FL):BT K:=aTf g b3 a0
theorem Cs(K:Fg){lo hi:PL}{h8 a:TO}{f6:Pos}(a0:rV)(a5:PO X lo h8)(hu:PO X hi a)(g:FL):IL (Su K):=arA (aTc g) a0 a5 hu
universe z
structure Zt where
 P:Mj
 w:oO
 K:Fg
 mg:dO
 base:iN
 e:aaS
 G:Bw
theorem at_{I:Type}{P:cv I}{l:ba}(h:aK l (P x))(i:Nat){a:I}(e:Zk):P a:=h a (bO e)
noncomputable def afo(K:Fg)(mg:dO)(e:aaS)(G:Bw):bda:=avj G (at_ (ct (avl e)) 79 rfl) (jo tE)
open PySem.Challenge in def LK(K:Fg):Sp:=fun O H Q _=>∃a:PySem.W.Codec.denoteAll WK,N (PySem.W.Codec.withinAll WK a=ab) (a3' WK rw_glassrecord_s01_answers.asked a=ab) (eR O (PySem.W.Codec.encAll WK a)) (j v L (Dw K L v (rw_glassrecord_s01_answers.ret.enc (a3' WK rw_glassrecord_s01_answers.f a))) (Q v L))
theorem zne:eK Zt:=by have w:oO:={draws:=hp 0,params:=bil};obtain⟨s,_,h⟩:=zi (HX.rb w Mn);exact⟨a HX.P w (KT s) (ab (eT (a4a (KT s) CN x) ae)) (o6 Mn) h (fun x v z=>by rw[z]<;>rfl)⟩
noncomputable def Z0:Zt:= @a1b Zt zne (fy (¬aM'))
@[irreducible]noncomputable def P:Mj:=Z0.P
@[irreducible]noncomputable def w:oO:=Z0.w
@[irreducible]noncomputable def K:Fg:=Z0.K
@[irreducible]noncomputable def mg:dO:=Z0.mg
@[irreducible]noncomputable def base:iN:=Z0.base
theorem eZ:aaS:=yR Z0.e
theorem gZ:Bw:=yR Z0.G
theorem zzA(i:Nat){x:String}(h:fi abN):mg x=ae:=gZ _ _ (ms (E9).1)
theorem zzI(i:Nat){x:String}{n:Int}(h:A itN (x,n)):ab x n:=aUL gZ (ms (aV E9))
theorem zzT(i:Nat){x:String}{l:aQ}(h:A tpN (x,l))(n:ec<=9):a'_:=aUK gZ (ms (bW E9)) n
theorem TU(i:Nat){c:String}{l:EW}(h:aJ8):bgY:=aUQ (ms (bY E9))
theorem LL(i:Nat){c:String}{l:EW}(h:aJ8):fY c (dp c):=gZ _ _ (TU i h).1
theorem zzN(i:Nat){c:String}{l:EW}(h:aJ8)(j:Nat){f:String}(e:aa l f):b8 (dp c) f:=at_ (TU i h).2.2 j e
theorem zzF(i:Nat){x:String}{st:Stmt}(h:A fnN (x,st)):fnP K (x,st):=ms (ct E9)
theorem zzM(i:Nat){p:bfE}(h:A meN p):meP K p:=ms (dv E9)
theorem zzJ(i:Nat){p:aLM}(h:A FW p):inP K p:=ms (eZ (E9).2)
theorem T.len:gG "len":=gD 0
theorem T.range:gG "range":=gD 1
theorem T.enumerate:gG "enumerate":=gD 2
theorem T.zip:gG "zip":=gD 3
theorem T.reversed:gG "reversed":=gD 4
theorem T.sorted:gG "sorted":=gD 5
theorem T.set:gG "set":=gD 6
theorem T.list:gG "list":=gD 7
theorem T.tuple:gG "tuple":=gD 8
theorem T.max:gG "max":=gD 9
theorem T.min:gG "min":=gD 10
theorem T.all:gG "all":=gD 11
theorem T.bjJ:ab "HEADER_BYTES" 20:=ap 0
theorem T.bjK:ab "POINT_BYTES" 8:=ap 1
theorem T.TV:ab "LINE_BYTES" 4:=ap 2
theorem T.afp:ab "MARK_BYTES" 12:=ap 3
theorem T.avy:GN K mg "OPENING" (rg 49):=t3 0
theorem T.avz:ab "LEAST_SIDE" 16:=ap 4
theorem T.avA:ab "MOST_SIDE" 1048575:=ap 5
theorem T.aVi:ab "LEAST_POINTS" 4:=ap 6
theorem T.aVj:ab "MOST_POINTS" 4096:=ap 7
theorem T.aVk:ab "LEAST_LINES" 4:=ap 8
theorem T.aVl:ab "MOST_LINES" 8192:=ap 9
theorem T.aVm:ab "LEAST_MARKS" 1:=ap 10
theorem T.aVn:ab "MOST_MARKS" 2048:=ap 11
theorem T.afq:ab "OUTSIDE" 0:=ap 12
theorem T.aVo:ab "FRAME_PLACE" 20:=ap 13
theorem T.bjL:ab "LEAD" 0:=ap 14
theorem T.LM:ab "ERASE" 1:=ap 15
theorem T.LN:ab "MOVE" 2:=ap 16
theorem T.MARK:ab "MARK" 3:=ap 17
theorem T.afr:ab "DROP" 4:=ap 18
theorem T.avB:ab "LEAST_LEAD" 2:=ap 19
theorem T.avC:ab "MOST_LEAD" 64:=ap 20
theorem T.avD:ab "MOST_STEPS" 65536:=ap 21
theorem T.aVp:ab "DONE" 0:=ap 22
theorem T.aVq:ab "NO_SUCH_THING" (-2):=ap 23
theorem T.aVr:ab "TOO_MANY_STEPS" (-3):=ap 24
theorem T.aVs:ab "NOT_TAKEN" (-5):=ap 25
theorem T.avE:GN K mg "RECORD_OPENING" (rg 72):=t3 1
theorem T.avF:ab "FIRST_PLACE" 16:=ap 26
theorem T.aVt:GN K mg "STEP_BYTES" [.int 14,.int 5,.int 11,.int 15,.int 3]:=t3 2
theorem T.aVu:ab "CALL_OPEN" 1:=ap 27
theorem T.aVv:ab "CALL_BARE" 2:=ap 28
theorem T.avG:ab "CALL_LEAD" 3:=ap 29
theorem T.aVw:ab "CALL_ERASE" 4:=ap 30
theorem T.avH:ab "CALL_MOVE" 5:=ap 31
theorem T.avI:ab "CALL_MARK" 6:=ap 32
theorem T.aVx:ab "CALL_DROP" 7:=ap 33
theorem T.aVy:ab "CALL_UNDO" 8:=ap 34
theorem T.aVz:ab "CALL_REDO" 9:=ap 35
theorem T.avJ:ab "CALL_COUNT" 10:=ap 36
theorem T.aVA:ab "CALL_PLAN" 11:=ap 37
theorem T.aVB:ab "CALL_READ" 13:=ap 38
theorem T.aVC:GN K mg "WITH_ROW" aLi:=t3 3
theorem T.aVD:ab "COUNT_DONE" 0:=ap 39
theorem T.aVE:ab "COUNT_UNDONE" 1:=ap 40
theorem T.aVF:ab "COUNT_PANES" 2:=ap 41
theorem T.aVG:ab "NO_RECORD" (-9):=ap 42
theorem T.avK:ab "OUT_OF_RANGE" (-1):=ap 43
theorem T.aVH:ab "TOO_LONG" (-6):=ap 44
theorem T.aVI:ab "MOST_LENGTH" 4294967295:=ap 45
theorem T.aVJ:ab "MOST_KIND" 65535:=ap 46
theorem T.aVK:ab "MOST_CARTOON_BYTES" 131072:=ap 47
theorem T.aVL:ab "MOST_SAVED_BYTES" 67108864:=ap 48
theorem T.aVM:bev:=aUI gZ (cB E9)
noncomputable def T.bjM:ei:=dp "Drawing"
theorem T.bjN:yD K bJ:=p0 0
theorem T.aVN:fY "Drawing" bJ:=LL 0 rfl
theorem T.bjO:b8 bJ "width":=cH 0 0
theorem T.bjP:b8 bJ "height":=cH 0 1
theorem T.bjQ:b8 bJ "points":=cH 0 2
theorem T.bjR:b8 bJ "lines":=cH 0 3
theorem T.bjS:b8 bJ "marks":=cH 0 4
noncomputable def T.bjT:ei:=dp "Sweep"
theorem T.bjU:yD K dr:=p0 1
theorem T.aVO:fY "Sweep" dr:=LL 1 rfl
theorem T.bjV:b8 dr "passed":=cH 1 0
theorem T.bjW:b8 dr "gaps":=cH 1 1
theorem T.bjX:b8 dr "links":=cH 1 2
theorem T.afs:b8 dr "sides":=cH 1 3
noncomputable def T.bjY:ei:=dp "Panes"
theorem T.bjZ:yD K lJ:=p0 2
theorem T.aVP:fY "Panes" lJ:=LL 2 rfl
theorem T.bj0:b8 lJ "sweep":=cH 2 0
theorem T.avL:b8 lJ "mark_gaps":=cH 2 1
noncomputable def T.bj1:ei:=dp "Record"
theorem T.bj2:yD K dM:=p0 3
theorem T.aVQ:fY "Record" dM:=LL 3 rfl
theorem T.TX:b8 dM "cartoons":=cH 3 0
theorem T.TY:b8 dM "steps":=cH 3 1
theorem T.bj3:b8 dM "done":=cH 3 2
noncomputable def T.bj4:ei:=dp "Desk"
theorem T.bj5:yD K hK:=p0 4
theorem T.aVR:fY "Desk" hK:=LL 4 rfl
theorem T.bj6:b8 hK "record":=cH 4 0
@[irreducible]noncomputable def T.TZ:vq K bJ "Drawing.__init__" aa4 aMZ:=d_ 0 0 (us6 (jo ng))
@[irreducible]noncomputable def T.avM:X "point_place" aa5 ["number"]:=bi 0
@[irreducible]noncomputable def T.avN:ei "line_place" aa6 "number":=cz 1
@[irreducible]noncomputable def T.avO:ei "mark_place" aa7 "number":=cz 2
@[irreducible]noncomputable def T.avP:eO "byte_count" aa8:=bi 3
@[irreducible]noncomputable def T.avQ:eO "ends_of" aa9:=bi 4
@[irreducible]noncomputable def T.numbered:X "numbered" aa_ (v5 "ends"):=zC 5
@[irreducible]noncomputable def T.avR:X "in_order" aa' ["a","b"]:=cz 6
@[irreducible]noncomputable def T.avS:X "frame_alone" aba ["width","height","mark"]:=fM 7
@[irreducible]noncomputable def T.avT:X "number_at" abb ["data","place","size"]:=fM 8
@[irreducible]noncomputable def T.avU:X "two_bytes" abc ["value"]:=bi 9
@[irreducible]noncomputable def T.avV:X "four_bytes" abd ["value"]:=bi 10
@[irreducible]noncomputable def T.avW:f8 "opening_fault" abe:=bi 11
@[irreducible]noncomputable def T.avX:X "size_fault" abf an7:=zC 12
@[irreducible]noncomputable def T.avY:f8 "header_fault" abg:=bi 13
@[irreducible]noncomputable def T.avZ:gZ "point_at" abh:=cz 14
@[irreducible]noncomputable def T.av0:gZ "line_at" abi:=cz 15
@[irreducible]noncomputable def T.av1:gZ "mark_at" abj:=cz 16
@[irreducible]noncomputable def T.av2:f8 "drawing_told" abk:=bi 17
@[irreducible]noncomputable def T.av3:X "point_bytes" abl ["point"]:=bi 18
@[irreducible]noncomputable def T.av4:X "line_bytes" abm ["line"]:=bi 19
@[irreducible]noncomputable def T.av5:X "mark_bytes" abn ["mark"]:=bi 20
@[irreducible]noncomputable def T.av6:X "cartoon_bytes" abo ["cartoon"]:=bi 21
@[irreducible]noncomputable def T.turn:X "turn" abp ["p","q","r"]:=fM 22
@[irreducible]noncomputable def T.aft:X "lies_inside" abq ["p","q","r"]:=fM 23
@[irreducible]noncomputable def T.crosses:X "crosses" abr apT:=g3 24 aan
@[irreducible]noncomputable def T.afu:X "count_left" abt ["row","spot"]:=cz 25
@[irreducible]noncomputable def T.T1:vq K dr "Sweep.__init__" abu X0:=d_ 1 1 tE
@[irreducible]noncomputable def T.T2:my K dr "new_region" "Sweep.new_region" abv X0:=du 0 tE
@[irreducible]noncomputable def T.av7:O dr "region" "Sweep.region" abw "number":=i6 1
@[irreducible]noncomputable def T.T3:my K dr "link" "Sweep.link" abx ["self","one","other"]:=du 2 aFX
@[irreducible]noncomputable def T.T4:O dr "gap_at" "Sweep.gap_at" aby "spot":=i6 3
@[irreducible]noncomputable def T.T5:my K dr "gaps_above" "Sweep.gaps_above" abz (b3 "left" "right" "begun"):=du 4 aan
@[irreducible]noncomputable def T.T6:my K dr "pass_point" "Sweep.pass_point" abA (b3 "point" "ended" "tops"):=du 5 aan
@[irreducible]noncomputable def T.av8:X "left_to_right" abB ["point","tops"]:=cz 26
@[irreducible]noncomputable def T.T7:vq K lJ "Panes.__init__" abC ["self","sweep","gaps"]:=d_ 2 2 aFX
@[irreducible]noncomputable def T.GV:O lJ "home" "Panes.home" abD "mark":=i6 6
@[irreducible]noncomputable def T.T8:O lJ "homes_beside" "Panes.homes_beside" abE "line":=i6 7
@[irreducible]noncomputable def T.T9:my K lJ "how_many" "Panes.how_many" abF X0:=du 8 tE
@[irreducible]noncomputable def T.av9:eO "panes_of" abG:=bi 27
@[irreducible]noncomputable def T.av_:X "lines_between" abH ["drawing","i","j"]:=fM 28
@[irreducible]noncomputable def T.av':eO "neighbours_of" abI:=bi 29
@[irreducible]noncomputable def T.awa:X "first_loose" abJ ["neighbours"]:=bi 30
@[irreducible]noncomputable def T.awb:X "walk_deep" abK ["neighbours"]:=bi 31
@[irreducible]noncomputable def T.awc:mY "first_unreached" abL:=cz 32
@[irreducible]noncomputable def T.awd:mY "earliest_back" abM:=cz 33
@[irreducible]noncomputable def T.awe:mY "first_cut" abO:=cz 34
@[irreducible]noncomputable def T.awf:f8 "cartoon_told" abQ:=bi 35
@[irreducible]noncomputable def T.judge:k5 "judge" abR:=cz 36
@[irreducible]noncomputable def T.awg:k5 "same_lines" abS:=cz 37
@[irreducible]noncomputable def T.awh:k5 "net_fault" abT:=cz 38
@[irreducible]noncomputable def T.awi:eO "form_fault" abU:=bi 39
@[irreducible]noncomputable def T.awj:eO "points_fault" abV:=bi 40
@[irreducible]noncomputable def T.awk:eO "lines_fault" abW:=bi 41
@[irreducible]noncomputable def T.awl:eO "frame_fault" abX:=bi 42
@[irreducible]noncomputable def T.awm:X "edge_stands" abY bgi:=zC 43
@[irreducible]noncomputable def T.awn:k5 "tangle_fault" abZ:=cz 44
@[irreducible]noncomputable def T.awo:X "is_tangled" ab0 ["line","points","rivals"]:=fM 45
@[irreducible]noncomputable def T.awp:eO "ways_fault" ab1:=bi 46
@[irreducible]noncomputable def T.awq:eO "marks_fault" ab2:=bi 47
@[irreducible]noncomputable def T.awr:ei "first_misplaced" ab3 "homes":=cz 48
@[irreducible]noncomputable def T.aws:X "first_repeated" ab4 ["homes"]:=bi 49
@[irreducible]noncomputable def T.awt:X "drawing_after" ab5 ["cartoon","step"]:=cz 50
@[irreducible]noncomputable def T.awu:X "redrawn" ab6 aLj:=g3 51 aan
@[irreducible]noncomputable def T.joined:X "joined" ab7 ["row"]:=bi 52
@[irreducible]noncomputable def T.parted:X "parted" ab8 ["line","row"]:=cz 53
@[irreducible]noncomputable def T.awv:b8 "with_lead" ab9 "row" "mark":=fM 54
@[irreducible]noncomputable def T.aww:b8 "with_erased" ab_ "i" "j":=fM 55
@[irreducible]noncomputable def T.awx:b8 "with_moved" ab' "k" "point":=fM 56
@[irreducible]noncomputable def T.awy:b8 "with_mark" aca "i" "mark":=fM 57
@[irreducible]noncomputable def T.awz:X "with_dropped" acb ["cartoon","k"]:=cz 58
@[irreducible]noncomputable def T.T_:vq K dM "Record.__init__" acd (oM "first"):=d_ 3 3 aFV
@[irreducible]noncomputable def T.awA:dU "cartoon" "Record.cartoon" ace:=du 9 tE
@[irreducible]noncomputable def T.awB:dU "undone" "Record.undone" acf:=du 10 tE
@[irreducible]noncomputable def T.GW:O dM "take" "Record.take" acg "step":=i6 11
@[irreducible]noncomputable def T.Ua:dU "forget_undone" "Record.forget_undone" ach:=du 12 tE
@[irreducible]noncomputable def T.GX:dU "undo" "Record.undo" aci:=du 13 tE
@[irreducible]noncomputable def T.Ub:dU "redo" "Record.redo" acj:=du 14 tE
@[irreducible]noncomputable def T.refusal:X "refusal" ack ["fault"]:=bi 59
@[irreducible]noncomputable def T.awC:X "saved_bytes" acm ["record"]:=bi 60
@[irreducible]noncomputable def T.awD:X "step_bytes" acn ["step"]:=bi 61
@[irreducible]noncomputable def T.awE:f8 "record_told" aco:=bi 62
@[irreducible]noncomputable def T.awF:f8 "head_fault" acp:=bi 63
@[irreducible]noncomputable def T.awG:f8 "steps_told" acq:=bi 64
@[irreducible]noncomputable def T.awH:X "steps_fault" acr ["record","data","place"]:=fM 65
@[irreducible]noncomputable def T.awI:gZ "step_fault" acs:=cz 66
@[irreducible]noncomputable def T.step_size:gZ "step_size" acu:=cz 67
@[irreducible]noncomputable def T.step_at:gZ "step_at" acv:=cz 68
@[irreducible]noncomputable def T.awJ:gZ "lead_at" acw:=cz 69
@[irreducible]noncomputable def T.Uc:vq K hK "Desk.__init__" acx X0:=d_ 4 4 tE
@[irreducible]noncomputable def T.Ud:my K hK "answer" "Desk.answer" acy bdz:=du 15 aan
@[irreducible]noncomputable def T.Ue:O hK "begin_from_cartoon" "Desk.begin_from_cartoon" acz "data":=i6 16
@[irreducible]noncomputable def T.Ug:O hK "begin_bare" "Desk.begin_bare" acA "numbers":=i6 17
@[irreducible]noncomputable def T.Uh:O hK "begin_from_saved" "Desk.begin_from_saved" acB "data":=i6 18
@[irreducible]noncomputable def T.Ui:O hK "begin" "Desk.begin" acC "record":=i6 19
@[irreducible]noncomputable def T.awK:X "lengths_fit" acD ["lengths"]:=bi 70
@[irreducible]noncomputable def T.awL:X "mark_fits" acE ["numbers"]:=bi 71
@[irreducible]noncomputable def T.awM:o6 "in_range" acF:=fM 72
@[irreducible]noncomputable def T.awN:X "mark_told" acG ["numbers"]:=bi 73
@[irreducible]noncomputable def T.awO:X "row_told" acH ["row"]:=bi 74
@[irreducible]noncomputable def T.awP:o6 "step_told" acI:=fM 75
@[irreducible]noncomputable def T.awQ:X "told_of" acJ ["record","call","numbers"]:=fM 76
@[irreducible]noncomputable def T.awR:X "counted" acK ["record","what"]:=cz 77
@[irreducible]noncomputable def T.awS:f8 "with_count" acL:=bi 78
@[irreducible]noncomputable def T.answers:bda:=afo K mg eZ gZ
universe GA
namespace GA
open PySem PySem.Spec PyProof.Rows L2
def gP(p:Pt):Prop:=p.x<2^33/\p.y<2^33
def ku(p:Pt):Prop:=p.x<2^30/\p.y<2^30
theorem ku.kv{p:Pt}(h:ku p):gP p:=⟨t6 h.1,t6 h.2⟩
theorem Uj(p q:Pt):mM ys aKk=pf q:=by delta WL;simp only[mM];rw[N h p.y q.y];{rw[N k p.x q.x];{simp[h,k]};{simp[h,show¬v p.x=q.x from J (k (aDE z))]}};{simp[h,show¬v p.y=q.y from J (h (aDE z))]}
theorem dP(i j:Int):ar (cq i) (cq j)=ar i j:=aT
theorem oJ{K:Fg}{H:Hp}{a:Addr}{p:Pt}(h:cx (g8 p.y p.x)):mN (hN ys):=cy h
abbrev aVS(H:Hp)(vs:af)(p q J:Pt):Prop:=∃x y z,vs=[x,y,z]/\br x p/\br y q/\br z J
inductive awT(vs:af)(H:Hp)(Q:VK)(E:XK):Prop|mk:q8 (m3 aLB) (awT vs H Q E)
inductive awU(vs:af)(H:Hp)(Q:VK)(E:XK):Prop|mk:q8 (dy (DL p q J)) (awU vs H Q E)
inductive awV(vs:af)(H:Hp)(Q:VK)(E:XK):Prop|mk:∀(x y z u:V)(p q J s:Pt),e [x,y,z,u] (br x p) (br y q) (br z J) (l (br u s) (ku p) (ku q) (ku J) (ku s) (dy aMq) (awV vs H Q E))
theorem awW{p q J:Pt}(c2:ku p)(e0:ku q)(a6:ku J): -(2^64)<aLB/\aLB<2^64:=by obtain⟨e9,f6⟩:=c2;rw[kw d2 q2];obtain⟨r1,r2⟩:=a6;delta NX Gla.dx Gla.dy;have O:∀u v:Int,c (-(2^30)<=u) (u<=2^30) (-(2^30)<=v) (v<=2^30) (-(2^60)<=u*v/\u*v<=2^60):=by{intro u v a b c d;have m:(u*v).natAbs<=2^30*2^30:=by{rw[J Int.natAbs_mul (Nat.mul_le_mul bM bM)]};have e:cf 2^30*2^30=2^60:=by{simp};rw[e]at m;rw[ue]};rw[fL (O Fu (v J.y-q.y) (kD e9 q.x) (kD d2 p.x) (kD q2 J.y) (kD r2 q.y)),eq (O an1 (v J.x-q.x) bM bM bM bM)];generalize fK J.y q.y=A at*;generalize k7 J.x q.x=B at*;exact⟨FX a9.2 a3.1,FX a3.2 a9.1⟩
section z
theorem awX:am 1 T.turn.f T.turn.fd bcf awT:=by refine T.turn.F.ok aTL ap8 FV;{obtain⟨p,q,J,⟨x,y,z,rfl,_⟩,_⟩:=h;rfl};{obtain⟨p,q,J,⟨_,_,_,rfl,⟨a,rfl,c2⟩,⟨b,rfl,e0⟩,⟨c,rfl,hR⟩⟩,e8,d,e,k⟩:=h;rw[b2 (cl (lx yA bfC bfC))];have c2:=lE c2;have e0:=lE e0;have hR:=lE hR;rw[f2 m4 e8,kq i d,iJ l e,ah b e0 dt (m a _ c2 dt (m c _ hR dh (m b _ e0 dh a9K))),kE f q.x,kE g p.x,ah b e0 dh (m a _ c2 dh (m c _ hR dt (m b _ e0 dt a9K))),kE m4 q.y,kE i p.y];exact k}
theorem awY:am 2 T.aft.f T.aft.fd bcf awU:=by refine T.aft.F.ok aTM ap8 FV;{obtain⟨p,q,J,⟨x,y,z,rfl,_⟩,_⟩:=h;rfl};{obtain⟨p,q,J,⟨x,y,z,rfl,l4,f,g⟩,e8,d,e,k⟩:=h;have⟨a,d0,c2⟩:=l4;have⟨b,f7,e0⟩:=f;have⟨c,g7,hR⟩:=g;rw[b _ (cl (BC (KO (arC ai5) bS aw (BH _)) (BC (KO (arC ai5) aw aq (BH _)) (R6 (KO gO (dD bS aq aw) bE (BH _)))))) a c _ _ d0 g7 (m (oJ c2) (oJ hR) _ ?_)];rw[Uj];rw[d0 DL,a_8];{rw[b c b _ _ g7 f7 (oJ hR) (oJ e0) Pl];rw[Uj];rw[qA a3];refine fH (fun a9=>?_) (fun a9=>?_);{rw[qA a9,d p q J (cB l4 f g) e8 d e ?_,J dP k]};rw[az]};rw[az]}
theorem aVT:am 2 T.crosses.f T.crosses.fd apT awV:=by refine T.crosses.F.ok aTN ap8 FV;{obtain⟨x,y,z,u,p,q,J,s,rfl,_⟩:=h;rfl};{obtain⟨x,y,z,u,p,q,J,t,rfl,l4,f,g,a,e8,d,e,ss,k⟩:=h;rw[b2 (bo (dm (KP vc (lx F8 (dD bS aq aw) (dD bS aq bb)) bE (BH _)) mn) (KO ly (lx F8 (dD aw bb bS) (dD aw bb aq)) bE (BH _))),b p q J (cB l4 f g) e8.kv d.kv e.kv p (a q t (cB l4 f a) e8.kv d.kv ss.kv _ _ (a2 rfl rfl (.inl (awW e8 d e)))),d0 zC,a_8];{rw[ed ai,ag6]at k;exact k};{rw[qA (dI ai),b J t p (cB g a l4) e.kv ss.kv e8.kv J (a t q (cB g a f) e.kv ss.kv d.kv _ _ (bj rfl (.inl (awW e ss e8)) k))]}}
universe z
inductive awZ(K:Fg)(vs:af)(H:Hp)(Q:VK)(E:XK):Prop|mk:∀(l:Addr)(v:V)(ls:nh)(z:Pt)(n:Nat),e [cD,v] (bm eS l ls) (br v z) (gP z) (c bd' (n<=wX) (bfL) (m3 n) (awZ K vs H Q E))
noncomputable def aVU:H9->Hp->Nat:=fun M _=>match M with|[_,_,some (.int lo),some (.int hi),_,_]=>apo|_=>0
section z
theorem afv:am 2 T.afu.f T.afu.fd ["row","spot"] (awZ K):=by refine T.afu.F.ok aTO ap8 FV;{obtain⟨l,v,ls,z,n,rfl,_⟩:=h;rfl};{obtain⟨l,v,ls,z,n,rfl,⟨O,S,a5⟩,c9,e8,sl,d6,d1,k⟩:=h;have o:=aCq;rw[cl (ah (im 2 bE) (im 3 (F_ arM bI a4b a33 (ve bS Sl))) (bo (F6 NY (KP ly aw bb (BH _)) (ah (im 4 (eB aq4 (cS aw bb))) (im 5 (Sq arH bS bR ry)) (fG (sg (KP ly (dD (mW cK) (mW cK) aq) bE (BH _)) (fG (im 2 (hw bR))) (fG (im 3 bR)))))) aw)) (.inl S) (aOA (fun M L=>L=H/\GL (fun(lo hi:Nat)(m i:bZ V)=>vu (M=[tV,pI,aa (.int lo),aa (.int hi),m,i]) (lo<=n) (n<=hi) (hi<=wX))) aVU (a rfl 0 bx ae ae rfl cT ag (x o.l)) ?_ ?_)];{rintro M L⟨rfl,lo,hi,m,i,rfl,a3,a9,e2⟩;rw[bD Ke];{have lt:lo<hi:=by{rw[fH (By c)]};rw[aW _ rfl a_U,cd D a'v (ae uT),j7 4 (cq a'v)];rw[D];have f:uT<wX:=by{rw[eo]};rw[c u d3 a x y c0 b r (gJ a5 f)];have sm:=sl _ (te f);rw[ah l S (d_ d3) (as a c0 dh (as a c0 dt (a _ _ z (oI (v b r c9)) sm.1 sm.2 e8 ?_)))];have c4:=d1 _ _ (dd f);refine fH (fun d=>?_) (fun d=>?_);{have d':=c4.mpr ai;rw[dJ (i rfl (uT+1) hi _ bB a9 e2)];show zn (ae uT+1)<zn Jj;lia-abstractProof};{have d':¬uT<n:=ah (d ai);rw[dJ (i rfl lo uT _ a3 (j9 d') dW)];show(ae uT-Jj).toNat<zn Jj;lia-abstractProof}};{have e:lo=n:=by{exact mR (cV a3) (cg a9 (Bz c))};rw[cb];exact k}};{intro M L g o7 e0 h;unfold vd BG at h;rw[dp b4 h Vj,bl b9 h Vj,Q i j rfl h Vj];delta vd BG;exact wY b4 (wY b9 (e0 _ _ h))}}
universe z
noncomputable def vz(w h:Int)(b2 X G:Addr):hW:=aK "marks" G (aK "lines" X (aK "points" b2 (ko "height" (.int h) (ko "width" (.int w) []))))
section z
variable{w h:Int}{b2 X G:Addr}
theorem y_:it RF "width"=aa (.int w):=by delta vz;rw[di,pH,di,pH,di,pH,di,pH,di,cP]
theorem GY:it RF "height"=aa (.int h):=by delta vz;rw[bgB]
theorem fX:bN RF "points" b2:=by delta vz;rw[bhM]
theorem kx:bN RF "lines" X:=by delta vz;rw[aLk]
theorem jt:bN RF "marks" G:=by delta vz;rw[di,cP]
universe z
structure LO(C:Addr)(H:Hp)(a:Addr)(D:Gla.Plan)(b2 X G:Addr):Prop where
 at_:∃dx,cx (aC C (vz D.w D.h b2 X G))
 p:fd b2 lK
 l:dC sA H X gW
 m:dC sC H G gV
theorem LO.mono{C:Addr}{H L:Hp}{a:Addr}{D:Gla.Plan}{b2 X G:Addr}(s:bQ)(h:Al):g4 L D:=by rw[cw e mX];exact F dx (bv e) (ai6 dm s) (h.l.mono iK s) (aDF js s)
inductive aw0(C:Addr)(vs:af)(H:Hp)(Q:VK)(E:XK):Prop|mk:∀(p dx:Addr)(w h:Int)(b2 X G:Addr),A [fP,.int w,.int h,YL,.ref X,.ref G] (bh p Ze) (Q .bC (ad p (aC C RF))) (aw0 C vs H Q E)
inductive afw(vs:af)(H:Hp)(Q:VK)(E:XK):Prop|mk:∀n:Nat,vs=[ji]->ko (ai7 n)->afw vs H Q E
inductive afx(C:Addr)(vs:af)(H:Hp)(Q:VK)(E:XK):Prop|mk:pB (WM D n) (afx C vs H Q E)
inductive aw1(C:Addr)(vs:af)(H:Hp)(Q:VK)(E:XK):Prop|mk:pB (aDG D n) (aw1 C vs H Q E)
inductive aw2(C:Addr)(vs:af)(H:Hp)(Q:VK)(E:XK):Prop|mk:vK (A [bc] Al (ko aDH) (aw2 C vs H Q E))
inductive aw3(vs:af)(H:Hp)(Q:VK)(E:XK):Prop|mk:∀i j:Nat,vs=[pJ,vn j]->ga (sA L v (min i j,ak2))->aw3 vs H Q E
inductive aw4(C:Addr)(vs:af)(H:Hp)(Q:VK)(E:XK):Prop|mk:dd (zG (e.1<df)) (lL<hy) (zM D.drawn->aw4 C vs H Q E)
section z
theorem aVV:T.TZ.Ok mg P w aj 1 (aw0 bJ):=by refine T.TZ.go aTq aL;generalize aG=e3,aA=A,aF=outer,aE=s,aD=H,aB=vs,aH=Q,aI=E;rw[aN,M oh,aX];generalize kT=p,kU=dx,kX=w,kY=h,kZ=b2,la=X,lj=G;rw[ds c2,g _ (ft aq aw (ah (hA bb) (hA bR) (fG (hA cK)))) p _ dx _ c2 (a dU Ib (ay) p _ dx _ rfl (b ak dU Ia (v8 1) p dx _ (a rfl ak dU gd (nw ay) p _ dx (j ak dU kE (nw (vx ay)) p _ (f dx _ ak (a2 dU jH (nw (vx (vx ay)))))))))];rw[yx,yx,yx,yx];exact k
theorem aw5:T.avM.Ok P w aj 1 afw:=by refine T.avM.go aTr aL;generalize aG=e3,aA=A,aF=outer,aE=s,aD=H,aB=vs,aH=Q,aI=E;rw[aN,cA n rfl k,e _ (cl (y4 bS)) _ _ rfl rfl yt ?_];have e:ae (ai7 n)=20+8*cL:=by{rfl};rw[d0 vn,bs e];exact k
theorem aw6:T.avN.Ok P w aj 2 (afx bJ):=by refine T.avN.go aTs aL;generalize aG=e3,aA=A,aF=outer,aE=s,aD=H,aB=vs,aH=Q,aI=E;rw[aN,M P9,aX,n a D b2 X G n,ds h,fF,t9 h.p,ez (cl (cZ (a7 aw5 nY) T.TV aq)) (a hd dU gd fX b2 vs rfl (ce c0) (a iR rfl _ _ rfl rfl yt ?_))];have e:ae (WM D n)=ae (ai7 iR)+4*cL:=by{rw[ai8];delta WM ai7;rfl};rw[d0 vn,bs e];exact k
theorem aw7:T.avO.Ok P w aj 3 (aw1 bJ):=by refine T.avO.go aTt aL;generalize aG=e3,aA=A,aF=outer,aE=s,aD=H,aB=vs,aH=Q,aI=E;rw[aN,M P9,aX,n a D b2 X G n,ds h,fF,t9 h.l,a7 (cZ (b4 aw6 nY) T.afp aq) kE kx X (oX (au yt))];have e:ae (aDG D n)=ae (WM D iR)+12*cL:=by{rw[ai8];delta aDG WM;rfl};rw[d0 vn,bs e];exact k
theorem aVW:T.avP.Ok P w aj 4 (aw2 bJ):=by refine T.avP.go aTu aL;generalize aG=e3,aA=A,aF=outer,aE=s,aD=H,aB=vs,aH=Q,aI=E;rw[aN,M iz,aX,Bq,ds h,fF,t9 h.m,a7 (b4 aw7 nY) jH jt G ?_,J ai8 k]
theorem aVX:T.avR.Ok P w aj 1 aw3:=by refine T.avR.go aTx aL;generalize aG=e3,aA=A,aF=outer,aE=s,aD=H,aB=vs,aH=Q,aI=E;rw[aN,a0 i j rfl k,e3 (cl (R7 (eb ly bS aq) (as bS aq) (as aq bS))) (Ke)];{have lt:i<j:=by{rw[fH (By c)]};rw[v eu (em cn amL)];rw[ak,qU dW,HF (ig lt)]};{rw[b4 lt (¬i<j) (sU (Bz c)),v eu (em cn amL)];rw[ak,Dj (j9 lt),VJ (j9 lt)]}
theorem LP:T.avQ.Ok P w aj 1 (aw4 bJ):=by refine T.avQ.go aTv aL;generalize aG=e3,aA=A,aF=outer,aE=s,aD=H,aB=vs,aH=Q,aI=E;rw[aN,M iz,aX,Bq,av h ix c9 k,fF,t9 h.p,cH hu a5 h.l,qU (bo (bW 1 ai9 bP) (BK rfl ai9 pO (bk "a" 2 "b" 3) (bC (V 2 ai9 3 ai9)) kN (bC (as (bs aq aw) amZ)))) ⟨k7 hu,fun Z f=>aeY iK gz h.l.ls (an (aa rr)) f c9 ?_ ?_⟩];{rw[dI e x a0];have C:=ix e uv;rw[cS g7 r1 (gJ c2 C.1),bJ g8 r2 (gJ c2 C.2),A2 (m b2 _ (br c0) (d_ g7) (m b2 _ (br c0) (d_ g8) ⟨(EU),fun t c6=>?_⟩)),bdy];refine G3 (aJ ak ?_);rw[Z (wZ C.1) (hJ W r1),Z (wZ C.2) (hJ W r2)]};{intro L d7 s b6 c5;refine k Z L s f (aJ d7 b6);rw[eW c5];exact c5}
universe z
noncomputable def bV(b:Gla.Bytes):af:=wW (gZ (vn eE))
theorem dD(b:Gla.Bytes):t kI=cx:=cG bV (bA _)
theorem qJ(b c:Gla.Bytes):bV (b++c)=kI++bV c:=i4 bV
theorem afy{b:Gla.Bytes}{i:Nat}{c:UInt8}(h:A b c):A (kI) (vn eE):=by delta bV;rw[cA,h];rfl
theorem afz(O:af)(p q:Nat):cq O p q=an (Hg p) (q-p):=by delta jo;rw[ai_,ai_];rw[eU (ip p bx)];{rw[qU (ez h)];rw[d9 q bx,cM];{rw[Dj g,DJ aT,DJ (t sR (Nat.sub_le_sub_right g p))]}};rw[a_]
theorem afA(b:Gla.Bytes)(p q:Nat):cq kI p q=bV (an (ai' p) (q-p)):=by rw[afz];delta bV;rw[Ds,Dt]
theorem le2{n:Nat}(h:b1 n):bV (gH 2 n)=[.int (cL%256),.int (cL/256)]:=by unfold bV Gla.le Gla.le Gla.le;simp;lia-abstractProof
theorem le4{n:Nat}(h:bk n):bV (gH 4 n)=cg (cL%256) (cL/256%256) (cL/65536%256) (cL/16777216):=by unfold bV Gla.le Gla.le Gla.le Gla.le Gla.le;simp;rw[Fn]
noncomputable def accN:bL Mt->Nat|[]=>0|c::J=>eE+256*accN J
theorem aVZ(b:Gla.Bytes):accN b=Gla.numLe b:=by induction b with|nil=>{rfl}|cons c J d6=>unfold accN Gla.numLe;rw[d6]
inductive aw8(K:Fg)(vs:af)(H:Hp)(Q:VK)(E:XK):Prop|mk:∀(l:Addr)(b:Gla.Bytes)(p n:Nat),e [cD,jQ,ji] tL (n<=8) (yv (Ic b p n)) (aw8 K vs H Q E)
inductive aw9(vs:af)(H:Hp)(Q:VK)(E:XK):Prop|mk:∀n:Nat,A [ji] (b1 n) (mo (gH 2 n)) (aw9 vs H Q E)
inductive aw_(vs:af)(H:Hp)(Q:VK)(E:XK):Prop|mk:∀n:Nat,A [ji] (bk n) (mo (gH 4 n)) (aw_ vs H Q E)
inductive aw'(K:Fg)(vs:af)(H:Hp)(Q:VK)(E:XK):Prop|mk:lK (ga (dH L v (aja b p))) (aw' K vs H Q E)
inductive axa(K:Fg)(vs:af)(H:Hp)(Q:VK)(E:XK):Prop|mk:lK (ga (sA L v (hr p,hr (p+2)))) (axa K vs H Q E)
inductive axb(K:Fg)(vs:af)(H:Hp)(Q:VK)(E:XK):Prop|mk:lK (ga (sC L v (aDI b p))) (axb K vs H Q E)
inductive PxV(H:Hp)(v:V)(p:Pt):Prop|mk:l a J (v=bc) (l7 (.int p.y:: .int p.x::J)) aLC
theorem dH.px{H:Hp}{v:V}{p:Pt}(h:br v p):aLC:=by rw[ak e h h];exact d a [] e h
inductive axc(vs:af)(H:Hp)(Q:VK)(E:XK):Prop|mk:∀(v:V)(p:Pt),e [v] aLC (bk p.x/\bk p.y) (mo (rd p)) (axc vs H Q E)
inductive axd(vs:af)(H:Hp)(Q:VK)(E:XK):Prop|mk:∀(v:V)(p:fB),e [v] (sA H v p) (b1 p.1/\b1 p.2) (vS (bV (gH 2 p.1++gH 2 p.2))) (axd vs H Q E)
inductive axe(vs:af)(H:Hp)(Q:VK)(E:XK):Prop|mk:∀(v:V)(m:Gla.Mark),e [v] (sC H v m) (uV) (mo (Ie m)) (axe vs H Q E)
theorem aV1{I:Type}{O:ba}{i:Nat}{x:I}(hi:i<bx)(h:nX (bx-1-i)):Hg (bx-jc)=x::Hg (bx-i):=by rw[aO lt (bx-1-i) bx (fg (tb bx) (aC bx 1 hi))];rw[show bx-jc=bx-1-i by lia-abstractProof,Wz lt];rw[aj (dd lt),cI];congr 2;rw[Nat.sub_right_comm,Mr (VR hi)]
section z
theorem aV2:T.avT.Ok P w aj 1 (aw8 K):=by refine T.avT.go TF aL;generalize aG=e3,aA=A,aF=outer,aE=s,aD=H,aB=vs,aH=Q,aI=E;rw[aN,M oi,aX,al l b p n,aV a5 v3 k,b2 (i 3 TF.nd bE (an (asl rfl T.reversed (ea (lc aq (cS aq aw)))) 4 TF.nd (bW 3 TF.nd (cS (lx F8 bb bE) bR))) (df bb))];have g7:jo kI (gR p) (aa (v p+cL))=bV (an (ai' p) n):=by{have:=afA b p (p+n);rw[am (hs (p+n-p) n),amc];rfl};rw[dl a5 (fun d hd=>?_)];rw[g7];generalize b0:an (ai' p) n=c;rw[ar c0 H (bV c) (bV c),bA d c0 (bv (t (bV c)) (fo (L=ap d (bV c)/\∃v,M=[tV,bE p,bE n,bE (accN aJX),v])) (ah ae ?_))];{rw[ah9,List.drop_length];rfl};{rintro i M L hi⟨rfl,v,rfl⟩;exact a hi _ _ (av c0) (dd (fG (tb (t (bV c))) (aC (t (bV c)) 1 hi)))};{rw[bgO];exact aY};{rintro i M L x b7 hi⟨rfl,v,rfl⟩⟨rfl,S⟩;have S:=S _ (av c0);have R:i<gf:=by{rw[dD]at hi;exact hi};rw[dD]at S;rw[aO lt (gf-1-i) gf (fg (tb gf) (aC gf 1 R))];rw[afy (dd lt)]at S;rw[pU,aW _ rfl (a2 (e1 ay ay) rfl (bE (aLb).toNat))];rw[aV1 R (dd lt)];have e:ae (accN (aLb::aJX))=v (accN aJX)*256+ae (aLb).toNat:=by{conv=>{lhs;unfold accN};simp+arith [*]};delta vn;rw[e];rfl};{rw[bgO];have:=k _ (ac (bV c) hd);unfold Gla.num at this;rw[b0,<-aVZ]at this;rw[dD,zE];exact this}
theorem Uk:T.avU.Ok P w aj 1 aw9:=by refine T.avU.go aTz aL;generalize aG=e3,aA=A,aF=outer,aE=s,aD=H,aB=vs,aH=Q,aI=E;rw[aN,a0 n rfl d1 k,n _ (cl (yE (sH (eB Sh bS) an3))) (aT) eu bdr,c7 (le2 d1),pA ajb];rw[ak,e];rfl
theorem LQ:T.avV.Ok P w aj 1 aw_:=by refine T.avV.go aTA aL;generalize aG=e3,aA=A,aF=outer,aE=s,aD=H,aB=vs,aH=Q,aI=E;rw[aN,a0 n rfl d1 k,e3 (cl (yE (vy (eB Sh bS) (eB Sh an3) (eB Sh an3) an3))) (o_ (ai) (m rfl (aT) (aT) (er 4) bdr)),c7 (le4 d1)];rw[<-ajb,<-ajb,<-ajb]at e;rw[ak,e];rfl
theorem Ul:T.avZ.Ok P w aj 2 (aw' K):=by refine T.avZ.go aTE aL;generalize aG=e3,aA=A,aF=outer,aE=s,aD=H,aB=vs,aH=Q,aI=E;rw[aN,M Ax,aX,RH,ds a5,b _ (cl (as Qt (rt aq))) l b (p+4) 4 ?_ a5 ⟨ay,fun a8 a4=>?_⟩];{congr};rw[aR p 4 jX (zh (m0 (h0 aIa)))]
theorem aV3:T.av0.Ok P w aj 2 (axa K):=by refine T.av0.go aTF aL;generalize aG=e3,aA=A,aF=outer,aE=s,aD=H,aB=vs,aH=Q,aI=E;rw[aN,M Ax,aX,RH,ds a5,cp (cl (as (rt aq) Qt)) p 2 (K9 (p+2))];{congr};rw[v eu (h0 aIa)]
theorem afB:T.av1.Ok P w aj 3 (axb K):=by refine T.av1.go au8 aL;generalize aG=e3,aA=A,aF=outer,aE=s,aD=H,aB=vs,aH=Q,aI=E;rw[aN,M Ax,aX,RH,ds a5,e _ (bo (bW 2 au8.nd (b4 Ul aq)) (KU (vy xI xI Qt Qt))) l b p rfl a5 ?_];rintro _ a8 a4⟨a,rfl,b3⟩;rw[bn a b3 (as a b3 dt (K9 (p+8)))];{congr};rw[f1 (p+10) (os e_) (fun d4 c8=>?_)];{congr};rw[v (er 4) (h0 (bX e_ c8 cn))]
theorem Um:T.av3.Ok P w aj 2 axc:=by refine T.av3.go aTH aL;generalize aG=e3,aA=A,aF=outer,aE=s,aD=H,aB=vs,aH=Q,aI=E;rw[aN,M fQ,aX,bW O p];rintro rfl⟨a,m,rfl,b3⟩c2 k;rw[d _ (cl (kc (a7 LQ kK) LQ)) a _ _ _ rfl (s JC dt p.x c2.1 (rk dh p.y)),bb'];{have c8:=e_;rw[bck,Rk];rfl}
theorem aV4:T.av4.Ok P w aj 2 axd:=by refine T.av4.go aTI aL;generalize aG=e3,aA=A,aF=outer,aE=s,aD=H,aB=vs,aH=Q,aI=E;rw[aN,M fQ,aX,bW O p,bhO,d _ (cl (kc ang Uk)) a _ _ _ rfl (s JC dh p.1 c2.1 (rk dt p.2)),bb'];{have c8:=e_;rw[bck,Rk]}
universe z
noncomputable abbrev dT(ns:aQ):Df:= .tuple OX
theorem afC{K:Fg}{H:Hp}:∀ns:aQ,Gb K H xO OX|[]=> .nil|n::J=> .cons (.int n) (afC J)
theorem Uo{K:Fg}{H:Hp}{a:Addr}{ns:aQ}(h:mN xO):cs bc (dT ns):= .tup h (afC ns)
theorem afD:∀ns d8:aQ,ajc OX (HW aDJ)=ar ns d8|[],[]=>bI|[],m::d8=>bI|n::ns,[]=>bI|n::ns,m::d8=>by simp only[da,ajc,jx,(afD ns d8)];rw[N h n m,a_];{simp[h]}
theorem GZ(ns d8:aQ):jx (dT ns) (dT d8)=ar ns d8:=t jx (afD ns d8)
theorem lay_ints:∀ns:aQ,ajg OX=ab/\aje OX<=1|[]=>a98|n::J=>by rw[dC (aDK J),dJ (bx ajg ajf d6.1),kz aje ajd];simp[*]
theorem axf(ns:aQ):ajf (dT ns)=ab/\ajd (dT ns)<=2:=by have h:=aDK ns;rw[dJ (by delta dT;rw[ajf];exact h.1)];delta dT;rw[ajd];exact Vp h.2
theorem aV5(ns:aQ):iK (dT ns):=by have h:=axf ns;delta aDL;rw[h.1,nc h.2];rfl
theorem axg:∀O:fC,ajg (Hh dT)=ab/\aje (Hh dT)<=2|[]=>a98|n::J=>by have d6:=axg J;have h:=axf n;rw[dJ (by simp only[da,ajg,h.1,d6.1];rfl)];simp only[da,aje];lia-abstractProof
theorem Up(O:fC):iK (.list (Hh dT)):=Iy (axg O)
theorem afE:∀O d7:fC,ajc (Hh dT) (ajh dT)=ar O d7|[],[]=>bI|[],m::d8=>bI|n::ns,[]=>bI|n::ns,m::d8=>by simp only[da,ajc,(afE ns d8),GZ];rw[N h n m];{simp};{simp}
theorem bj7{a:Addr}{A B:Prop}(h:A):x4 (gU a):=bB
theorem bj8{a:Addr}{A B:Prop}(h:B):x3 (gU a):=bB
theorem bj9{A B:Prop}(h:A):x3 Ht:=bB
theorem axh{c A B:Prop} [Hz c](n:¬c)(h:B):lt (cw c):=ag
theorem aV6{c A B:Prop} [Hz c](n:¬c)(h:A):lt (! cw c):=ag
theorem bj_{A B:Prop}(h:B):x4 Ht:=adQ rfl h
inductive axi(K:Fg)(vs:af)(H:Hp)(Q:VK)(E:XK):Prop|mk:mI (f2 20 Ig ae) (axi K vs H Q E)
noncomputable def LR(w h p l m:Nat):bZ Ms:=v (jI aDP aji w=ah) (jI aDP aji h=ah) (jI 4 aDO p=ah) (jI 4 aDN l=ah) (jI 1 aDM m=ah) ae
inductive axj(vs:af)(H:Hp)(Q:VK)(E:XK):Prop|mk:∀w h p l m:Nat,vs=[vn w,vn h,jQ,vn l,vn m]->gt (LR w h p l m)->axj vs H Q E
inductive axk(K:Fg)(vs:af)(H:Hp)(Q:VK)(E:XK):Prop|mk:mI (NZ b) (axk K vs H Q E)
theorem aV7{b c:Gla.Bytes}:(wW (ab (v Ih)))=(DE (ab (v Ih)))↔b=c:=by constructor;{rw[eF];exact x (a4c (f:=fun x:Mt=>v Ih) (fun x y e=>by have:Ih=y.toNat:=cu;exact aDh this)) h};rw[cM]
theorem axl(b:Gla.Bytes):kI=B (wW (ab (v Ih))) cq:=f9 bV jy
theorem aV8{lo hi:Int}{i n:Nat}{M:L2.St}{H:Hp}{Q:AQ}(a:A M (bE n))(h:Q (bi lo cL&&bi cL hi) H):vd (KQ aaO aaO (pw lo) (hq i) (pw hi)) M H Q:=by delta vd KQ tC;refine wY a (dm Ke);{rw[c,ah0]at h;exact h};rw[gP (Wr c) h]
theorem within_int(a b n:Nat):(bi (v a) cL&&bi cL (v b))=jI a b n:=by delta jI;rw[dZ]<;>(apply aDQ;simp)
theorem axm{b:Bool}(h:b=ab):¬b=ah:=hU
theorem aV9{lo hi i n:Nat}{M:L2.St}{H:Hp}{D:Ends}{t u:L2.TS}(a:A M (bE n))(Z:jI lo hi n=ah->t D M H)(a0:jI lo hi n=ab->u D M H):Sb (aqS (vd (KQ aaO aaO (pw Jj) (hq i) (pw (v hi))))) t u D M H:=by refine aV8 (i:=i) a ?_;rw[within_int];cases e:jI lo hi n with|false=>{rw[fH (Z e)]}|true=>rw[fH (a0 e)]
section z
theorem afF:T.av5.Ok P w aj 3 axe:=by refine T.av5.go aTJ aL;generalize aG=e3,aA=A,aF=outer,aE=s,aD=H,aB=vs,aH=Q,aI=E;rw[aN,M fQ,aX,bW O m,bhO,e _ (cl (c9 (dL Um) ang ang)) _ eN rfl (ce a _ b3) c2.1 (pr (as a OG rH (bj jz c2.2.1 (fun d5 b7 b5 n2 b9=>?_)))),cd z1 (t (bV (rd eN))) 8,bht,gQ I0 b9 (by rw[z1,h6];decide)];have c8:=L e_ (bs (bV (rd eN)) (bV (gH 2 jz)) u);rw[ah a (cy (dn b3)) (oD 3) (bj kD c2.2.2 (fun e0 e4 d9 y g5=>m l3 e0 (fI ak) g5 ⟨by rw[ck,z1,h6,h6];decide,fun b f=>k _ _ (dP En f) (eX En f) ?_⟩))];rw[ak,<-qJ,<-qJ,dw];rfl
theorem aV_:T.avW.Ok P w aj 1 (axi K):=by refine T.avW.go aTB aL;generalize aG=e3,aA=A,aF=outer,aE=s,aD=H,aB=vs,aH=Q,aI=E;rw[aN,M fQ,aX,Fz,ds a5,cl (b6 (GS ajj) (K1 (GT T.avy)) cv) pW ?_];rw[dD];rw[kn,beR];{rw[ef nZ,bhj,bhh];rw[g7]at a9⊢;intro o d0;rw[baH,Ix aIy];rw[GZ];rw[g0 aIy Ig Ig,b1 xl Ig];{rw[dI (D.mpr e)];rw[bD (ax b5 (by rw[aO hU];rfl))]};{rw[ed (ah (e (D.mp q)))];rw[kt (em (fj cn) (t (aK e) lT))]}}
theorem axn:T.avX.Ok P w aj 1 axj:=by refine T.avX.go aTC aL;generalize aG=e3,aA=A,aF=outer,aE=s,aD=H,aB=vs,aH=Q,aI=E;rw[aN];obtain⟨a,b,c,d,e,rfl,k⟩:=h;rw[b2 (ah (bx T.avz bS T.avA uf) (bx T.avz aq T.avA uf) (a6 (bx T.aVi aw T.aVj uf) (bx T.aVk bb T.aVl uf) (bx T.aVm bR T.aVn uf) cv))];delta LR aDP aji aDO aDN aDM at k;have fin:∀(J p:Nat)(a8:Hp),cZ H a8->gt (aa ⟨J,p⟩)->E t (gF t) (Q nD (upd a8 t (bx J p))):=fun J p a8 a4 B t c6=>B _ _ (gc cn) lT;rw[bY 0 16 1048575 a,rk 4,Z7,Qa];rw[BD];rw[bY 1 16 1048575 b,rk 8,Z7,Qa];rw[BD];rw[bY 2 4 4096 c,rk 12,Z7,Qa];rw[BD];rw[bY 3 4 8192 d,rk 14,Z7,Qa];rw[BD];rw[bY 4 1 2048 e,rk 16,Z7];exact ax ej rfl
theorem aV':T.avY.Ok P w aj 2 (axk K):=by refine T.avY.go aTD aL;generalize aG=e3,aA=A,aF=outer,aE=s,aD=H,aB=vs,aH=Q,aI=E;rw[aN,M fQ,aX,Fz,ds a5,b2 (L WO (dL aV_) (dS aq aq) (i 2 WO mh (bW 3 WO mh) (i 4 WO mh (bW 1 WO (ec axn (GS mh mh aw bb bR))) (a6 (dS aq aq) (D Si mh bE uf) (D Si nK (cZ (cZ (y4 aw) T.TV bb) T.afp bR) (dQ (gi ajj))) cv)))),d0 NZ,y l b a5 aIM];by_cases a3:cx<20;{rw[aK a3]at g4;rw[fZ (show cx<N0 from a3),n9 g4,xV];exact bd (p9 g4)};rw[bj a3]at g4;rw[ef (show¬cx<N0 from a3)];by_cases a9:xl≠Ig;{rw[aK a9]at g4 k;rw[n9 g4,xV];exact bd (p9 g4)};rw[PZ]at g4 k;cases g4;rw[c rfl l b 12 2 jX ay a8L];have b5:=gc r2;rw[aR 14 2 (WN a5) (fun d4 m=>?_)];have c8:=fj m;rw[aR 16 2 (c8.seq a5) (fun e4 c9=>?_),aIi,aR 4 4 JD (fun g6 p=>?_)];have f9:=mZ p;rw[aR 8 4 (f9.seq a5) (fun h5 q=>?_),hR (GM.aeV b)];have a7:zN (DM b)=bgS:=by{delta zN LR;rw[d5.1,d5.2.1,d5.2.2];rfl};rw[K _ _ _ (dm (fun v h9 R f7=>?_))];have R:=L (mY q) R;rw[bs a7];cases i2:bgS with|some f=>{rw[i2]at f7 k;rw[n9 f7,xV];exact bd (ax R f7)}|none=>rw[i2]at f7 k;cases f7;rw[c rfl l b 18 2 (R.seq a5) ay (fun i3 i=>?_)];have d6:=wI i;have G:=k;rw[bu];rw[dP];rw[d7 e2 (hr 18)];{rw[bj hU]at G;rw[dI (show ae (hr 18)=0 by rw[xM])];rw[d l _ rfl (.inl (d6.seq a5)) _ _ rfl (f yt _ _ rfl yt _ _ (m rfl rfl yt ?_))];rw[dD];rw[i_ (! ar (g1 cx) (cq (20+8*v Ap+4*v I7+12*v Pm)))];rw[dP];rw[N e5 cx (N0+8*Ap+4*I7+12*Pm)];{rw[bj hU]at G;rw[dI (by delta N0 at e5;exact AB)];exact(G _ _ d6 rfl)};rw[p5 e5 (by delta N0 at e5;lia)]};rw[p5 e2 (show¬ae (hr 18)=0 by simp[*])]
universe z
section z
variable{K:Fg}
theorem axo{d:Type}{g:TG}{c3:TT}{b8:TE}{vs:ao}{M:L2.St}{a8:Hp}{D:Addr}{k:je}{R:Rl d}(A:uw){lo c:Int}{n:Nat}(f:dg (bZ d))(a7:gF D)(c9:n<hy)(c0:∀(i:Nat)L(h4:VK)(N:je),c (i<n) OO (wR (f i)) (f i=ae->aGS) (be al' tG L aGH))(hd:vs (i9 n f)):ea (Z_) (Z_) (Z_):=by refine aeX (d0:=Z_) A (eL n) (fun _ x i=>x=al'/\i<n) f a7 ag aMz (fun H s=>?_) aM3 (fun i a x L h4 N b3 s e a3 a9=>?_) hd;{have:i<n:=ai;exact this};{show n<=_;simp};{rw[dn rfl y];have:i<n:=ai;exact m ej i (wM this) this};rw[az]
theorem afG{H:Hp}{x dx C:Addr}{G:hW}(nx:Y x)(nd:Y dx)(ne:dx≠x):cZ H (eb (ad dx Ei) (aC C G)):=dP xw (Y ne.symm nx)
theorem axp{lo n c:Nat}(b0:bhr):Vn Jj (ae (lo+c*n)) (v c)=n:=by delta Vn;rw[aK Bk];rw[d7 h n,a_,Ju]
theorem axq{lo n c:Nat}(b0:bhr)(d1:lo+c*n<2^40):RgC Jj (ae (lo+c*n)) (v c) n:=by rw[w fS fS ?_ (axp b0)];delta a2M;rw[axp b0];simp only[Builtin.Range.rangeFitsLong,ia,ahv,iV,aCP];have n1:n<=c*n:=Nat.le_mul_of_pos_left n bM;generalize c*n=m at*;simp;lia
inductive axr(K:Fg)(C:Addr)(vs:af)(H:Hp)(Q:VK)(E:XK):Prop|mk:na (e [cD] tL (NZ b=ae) (∀a b2 X G L,l bQ (g4 L (DM b)) (Y a) (Y b2) (Y X) (Y G) Ph) (axr K C vs H Q E))
theorem aWa{b:Gla.Bytes}(h:NZ b=ae):cx=Ae Pm:=by rw[a4 NZ,eJ,cY,eJ,cY];cases e:zN (DM b)with|some f=>{rw[m7 e]}|none=>rw[aj e];have h':=h;rw[YJ,cY,YJ,cY];next q=>delta N0 at q;simpa using q
universe z
section z
theorem aWb:T.av2.Ok P w aj 4 (axr K bJ):=by refine T.av2.go aTG aL;generalize aG=e3,aA=A,aF=outer,aE=s,aD=H,aB=vs,aH=Q,aI=E;rw[aN,M fQ,aX,Fz,aV a5 a0 k];have F:=ajl b 12 2;rw[c7 (ajl b 14 2),fJ (ajl b 16 2),Ab b9];rw[b9]at F e f;rw[fb,cp (L ajk (y4 mh) (bW 2 ajk (cZ aq T.TV mh)) (a6 (aR 3 (gi ajj) aq WS Ul) (aR 5 aq aw T.TV aV3) (aR 6 aw nK T.afp afB) (aP mh mh bb cK ey))) 12 2 (a _ _ rfl rfl yt l b 14 (ax 2 jX ay a8L))];have b5:=gc r2;rw[b _ _ rfl rfl yt _ _ _ (as rfl (b2 20 Ap 8 ay) (fun a g=>ap Ap dm (aa (aja b (20+8*i))) g F)),cd d1 (20+8*i) (os (fj s)) bhs];intro d4 c5 m e7 j0;rw[eW j0];have c8:=fj m;have g9:dC dH d4 a (DM b).pts:=v c5 e7 j0;rw[K _ _ _ (ah (b2 (20+8*Ap) I7 4 (x (.inr gm))) (fun c j=>ap I7 iK (aa (hr aKP,hr (aKP+2))) j e)),cd d1 aKP (os (m_ s)) (fun v e4 d9 c9=>fw d9 c9)];intro e4 ls c9 g5 e2;rw[eW e2];have d9:=m_ c9;have e1:dC sA e4 c (DM b).lines:=v ls g5 e2;rw[n8 JD];rw[dD,(aWa a0)];rw[K _ _ _ (ah (b2 (20+8*Ap+4*I7) Pm 12 ay) (fun d n=>ap Pm js (aa (aDI b (Ae i))) n f)),cd d1 (Ae i) (os (mZ s)) (fun v g6 f9 p=>fw f9 p)];intro g6 d8 p i2 y;rw[eW y];have f9:=mZ p;have j5:dC sC g6 d (DM b).marks:=v d8 i2 y;rw[aR 4 4 (f9.seq a5) (fun h5 q=>?_)];have h1:=mY q;rw[aR 8 4 (h1.seq a5) (fun h9 b1=>?_)];have R:=zO b1;rw[mv dx,d x dx _ _ a c d (aP ak ?_)];rw[yx];rw[P d6 h9 (cy h9 dx (aC bJ (vz (cf xD) (cf XW) a c d))) PB];refine k x a c d _ (wI d6) (a2 (sI ak) ?_ ?_) (R.free nx) (b5.free g) (WR j) (WQ n);rw[l (g9.mono dm (bX (c9.trans p) (VW b1) d6)),l (e1.mono iK (L (aDR (VW b1)) d6)),l (j5.mono js (L (VW b1) d6))]
universe z
theorem Uq{I:Type}{R:kj}(A:uw){K:Fg}{l d:Addr}{j o:Nat}{b:L2.St}{G H:Hp}{D:Ends}{Y:ba}(f:I->aDS){B:Gla.Bytes}{e8:Sp}(a5:bab)(nd:G d=ae)(s:cZ G H)(hd:am d (bV B))(c9:bcY)(b1:b=ajm j ae)(c:bdX)(e:bae)(C:biY)(k:bg3):biQ:=Lw (NU (dk a4) J)
inductive axs(C:Addr)(vs:af)(H:Hp)(Q:VK)(E:XK):Prop|mk:dd (DN D) (mo (N1 D)) (axs C vs H Q E)
section z
theorem axt:T.av6.Ok P w aj 4 (axs bJ):=by refine T.av6.go aTK aL;generalize aG=e3,aA=A,aF=outer,aE=s,aD=H,aB=vs,aH=Q,aI=E;rw[aN,M iz,aX,Bq,aV h F k,fF,Q5,aaZ,aK4,fb];have g4:=F.p;have h3:=F.l;have h6:=F.m;rw[e3 (L aDU (c9 (u1 (GT T.avy)) (a7 LQ bP) (a7 LQ bP)) (an (adj (cp bP bP bP)) 2 aDU (eD aq (a7 Uk (dP aw)))) (ah (eD aq (yE (sH bE bE))) (fw 3 Um bb) (bZ (fw 4 aV4 bR) (fw 5 afF cK) aq))) (EQ (fun c0 c6=>iW (co c6 hd) (s Ib y_ D.w F.w (fun a7 a8 r1 n1 b4=>?_))))];have a4:=L cn r1;rw[c c0 a7 (rg 49) _ rfl (r1 _ _ ak) b4 ⟨?_,fun d5 n2=>?_⟩];{rw[dD,pA];decide};rw[a2 ((lC n2) _ _ hd) (s Ia GY D.h F.h (fun l3 d4 m u e7=>?_))];have c8:=L (lC n2) m;rw[n d5 l3 (m _ _ ak) e7 ⟨?_,fun d c=>?_⟩];{rw[ck,dD,dD,pA,pA];decide};have nd:=WR c;rw[ab m8 (rg 49:af) (bV Ig)];rw[m8,<-qJ,<-qJ];generalize hA:Ig++gH 4 D.w++gH 4 D.h=e;rw[dT C e.length 12,aj d9 bbL (m_ (b_ c)),a2 (fI hd) (ev gd fX (b (fI hd) dU kE kx a dx _ (a _ rfl (fI hd) dU jH jt (er 3) Zr))),e c3 bbL t aLV t aLV,cO (ft (ak (H:=d4)) h7),bD t (aW (cy c3)) ?_];let b:ao:=[df,lL,rf];refine cm (ed b2 (.ref X) G) (fo (vu (∃v,M=[kM,rD,v,ae,ae,ae]) bQ (L t=aa aLV) (oz e 2))) (a2 qm (mZ (b_ h7)) c3) z.3;{rw[bX q,ak];simp};{rintro i x M L S⟨⟨v,rfl⟩,f9,i2,j1⟩;obtain⟨l,n,vs,a5,d1,d3,b0⟩:∃(l:Addr)(n:Nat)(vs:af),x=cD/\am l vs/\iR=n/\b1 n/\A b n:=by{match i,S with|0,S=>{rw[aK b2 c5 a3 rg g4]}|1,S=>{rw[aK X ls a9 N2 h3]}|2,S=>{rw[aK G d8 e2 Ii h6]}|i+3,S=>trivial};subst a5;rw[c (dr j1) l (ce (hF d1)) n (de d3) b0.1 (fun i1 b7 r2 n2 b9=>?_),Gb b0.2,n d i1 (r2 _ _ j1) b9 (a ?_ el (gr (mY r2)) ?_ ?_)];{rw[dD,dD,ck,os 2 2,pA,C,eT];rw[bfO];exact hp this this fy};rw[gQ zD (r2 _ _ i2)];{rw[ak,<-qJ,dw,g9,zP,ajo]}};rintro M g6⟨⟨v,rfl⟩,f9,i2,j1⟩;have j1:b5 (g6 d) (bV (e++aDT (gH 2))):=j1;generalize hB:e++aDT (gH 2)=f at j1;rw[dT g Dz 18,aa (dr j1) eu (fun z k0=>m d z (co k0 j1) ak Pj)];{rw[dD,g];decide};rw[bN c1 (bV f++[xh,xh]) bbE qJ,aj h1 (U bcW d bbE) (gr (mY (b_ k0)))];generalize y:f++gH 2 0=j at h1 c1;have r:j.length=20:=by{rw[<-y,ck,g,pA]};rw[pu (D.pts.flatMap rd) df];have q2:t (D.lines.flatMap bc5)=4*lL:=ajn (ab (cz ck pA pA)) _;have q3:t (D.marks.flatMap Ie)=12*rf:=ajn (ab (by delta Ie rd;rfl)) _;rw[c1];generalize I:U bcW d (bV j)=h5 at h1;rw[br j2 (b5 (h5 d) (bV j)) I ak,a2 (iW hd) (s gd fX b2 (dD c5 (iW a3)) (Uq (j:=3) (o:=1) dm rd h.p.ls nd h1 j2 (by rw[ck,d2,r];rw[ka]) rfl kW kW (mJ J.px (aiD p c4)) (fun j3 h9 R j2=>iW (R _ _ hd) (s kE kx X (dD ls (R _ _ a9)) (Uq (j:=4) (o:=1) iK bc5 h.l.ls nd R j2 (by rw[ck,ck,d2,q2,r];rw[ka]) rfl kW kW (mJ J (aC3 p c4)) (fun i9 i3 d6 j9=>iW (ol hd) (s jH jt G (dD d8 (ol e2)) (Uq (j:=5) (o:=1) js Ie h.m.ls nd d6 j9 (by rw[ck,ck,ck,d2,q2,q3,r];rw[ka]) rfl kW kW (mJ J (wN p c4)) bhI))))))))];rw[j8,<-y,<-hB,<-hA];congr 3;delta N1 Ie rd;simp[b,dw]
universe z
universe GA
namespace HT
open PySem PyProof.Rows
noncomputable def lexLe:aKh|[],_=>ab|_::_,[]=>ah|x::O,y::d7=>v x y (zQ O d7) (bi x y)
theorem aWc(x y:Int)(O d7:aQ):zQ (x::O) Q3=v x y (zQ O d7) (bi x y):=rfl
theorem aWd:zQ [] []=ab:=rfl
theorem aWe(y:Int)(d7:aQ):zQ [] Q3=ab:=rfl
theorem aWf(x:Int)(O:aQ):zQ (x::O) []=ah:=rfl
theorem aWg(A:Around)(s:Shared)(a:Int)(t:Tok)(c:Int)(u:Tok)(prog:Program)(w:World)(E:aU)(Q:aU)(h:j7 (bi a c)):zD .LtE:=m_ (PyProof.Rows.le_int h) .LtE
section z
open PySem.SeqAt
open PySem.AutoSeq1(wpAny_loadPart')
open PySem.MeetsSeq PySem.MeetsSeq2 PySem.MeetsSeq3
theorem aWh(l b:Addr)(f i:dX)(n n2:Nat)(j o:nj)(sl p:EA)(ns d8:aQ)(hi:QX)(b8:Rj):nA (Builtin.«tuple.__le__» aKj) aoO:=Ck (by rw[m9 os s,cA a5 U h];have h3:=aBR;rw[aMD,aME];wp_delta;wp_delta;rw[bT,aM9,aJv,As,dN,dN,bT,na (z2 (∃(vs ws:aM)(I k:aQ),Cy (zQ I k))) _];(case turn=>rintro⟨y,x⟩m b c1⟨j6,rfl,vs,ws,I,k,c9,v,r,E,hR⟩;cases v with|nil=>{trivial}|cons a t C=>cases r with|nil=>{trivial}|cons c u F=>rw[alj];injection c9 with G H;rw[aLp];subst b6 S;rw[gB aWc,aIj,aM4,C aMR];cases e with|true=>{rw[gB aJE,hh];{rfl};rw[dN];exact Ct aL9}|false=>rw[gB (mN q zv)];have J:=aWg kB OL a t c u cO w;rw[eA ahi];{rfl};rw[bT,aHr,bT,eA J,aM1]);(case fin=>rintro⟨h2,e2⟩c1⟨j6,rfl,vs,ws,I,k,c9,v,r,E,hR⟩;rw[aHb];subst j6;have d3:zQ I k=bi lE Vv:=by{cases v with|nil=>{cases r with|nil=>{rw[fj MV aWd (nc E.g)]}|cons c u hw=>rw[ko aWe (nc E.g)]}|cons a t d3=>rw[m3 aWf aIA]};rw[gB d3];wp_delta;wp_delta;rw[dN];exact aLQ);case h=>rw[aM_])
universe z
section z
variable{prog:Program}{w:World}{A:Around}{E:aU}{s:Shared}
theorem aWi{l b:Addr}{f i:dX}{ns d8:aQ}{Q:aU}(a5:aJa)(U:aKI)(hi:QX)(b8:Rj)(hu:sW<gF)(h:j7 aoO):z4 .LtE:=s .LtE PySem.F.slot_tuple_le PySem.F.entry_tuple_le (PySem.F.args_tuple_le_2 _ _) (aWh l b f i n n2 j o sl p ns d8 hi b8) aoO aoO
universe z
universe HT
namespace L2
open PySem PySem.Spec PyProof.Rows
section z
variable{X:Cx}
def axu(K:PySem.W.Frag):R2:=Ks (WT ns d8)
theorem aWj(hu:zx<gF):be .LtE (axu X.K):=CE (HT.aWi e9 f6 (MX r1) (MX r2) hu (eW (WT ns d8) q))
universe z
universe L2
namespace GA
open PySem PySem.Spec PyProof.Rows L2
theorem leK{X:Cx}{K:Fg}(g:fD)(hu:zx<gF):be .LtE (axu K):=g▸aWj hu
theorem axv(p q:fB):WT aax (dq q.1 q.2)=! DO q p:=by delta DO;simp only[WT];rw[N h (v p.1) q.1,EX,EX]
theorem afH(p q:Pt):WT ys aKk=! Nh p:=axv (p.y,p.x) (q.y,q.x)
theorem ixi{K:Fg}{H:Hp}{a:Addr}{p:fB}(h:cx (g8 p.1 p.2)):mN (hN aax):=cy h
noncomputable def oK{I:Type}(ok:Be)(k:yj)(l:ba)(i:Nat)(x:I):cf:=! ok x||(nb i&&(match l[i-1]? with|some y=>! k y x|none=>ah))
theorem afI{I:Type}{ok:Be}{k:yj}{l:ba}{i:Nat}{x:I}(h:xQ)(b:oK ok k l i x=ab)(g:ae (j<i) l ok k l):WU ok k l=aa i:=a4d ⟨v x h b,fun j y b8 b6=>g j y b8 b6⟩
theorem axx{I:Type}{ok:Be}{k:yj}{l:ba}(g:ae (j<ec) l ok k l):WU ok k l=ae:=a4e (fun j y b6=>g j y cu b6)
def Ct{I:Type}(R:kj)(H:Hp)(v:V)(l:ba)(i:Nat):Prop:=(i=0/\v= .bC)\/∃j x,i=j+1/\Ew/\R H v x
theorem Ct.mono{I:Type}{R:kj}(A:uw){H L:Hp}{v:V}{l:ba}{i:Nat}(s:bQ)(h:Ct R H v l i):Ct R L v l i:=by rcases h with h|⟨j,x,e,g,J⟩;rw[l AI,co (a j x e g (NU (dk s) J))]
inductive axy(C:Addr)(vs:af)(H:Hp)(Q:VK)(E:XK):Prop|mk:mK (ajp D) (axy C vs H Q E)
inductive axz(C:Addr)(vs:af)(H:Hp)(Q:VK)(E:XK):Prop|mk:mK (ajq D) (axz C vs H Q E)
section z
theorem aWl:T.awj.Ok P w aj 2 (axy bJ):=by refine T.awj.go aT1 aL;generalize aG=e3,aA=A,aF=outer,aE=s,aD=H,aB=vs,aH=Q,aI=E;rw[aN,M iz,aX,Bq,ds h,fF,Q5,b ajr (u ajr ajr (eb vb yc bP) (eb vb yc bP) alV alV ajr) gd fX b2 df dH lK lK aGj WL lK,ck c5 c5 rg (br a3),beP];{refine iz;rw[aJu];rintro hi⟨⟨l,m,p,rfl,a5⟩,s,g⟩⟨t,y,rfl,c6,rfl,b6⟩;rw[aW z c9 e9 (b6 c5 (br a3)),to hM,my dm c6,ou (bL b5 J),bba,beJ,aGO,fl aL7 (afw [pJ] b7 (C0 4) E0) (by rw[bD i eu (em (fj cn) ?_)];delta ajp;rw[J (afI c9 U g) lT]),u aL7 lK aGj WL lK (by rw[Z5];{lia};rw[l (g j d7 (iT e) O)]),db b U (yw (v Ib y_ Ke)),B8 (¬z.x<=D.w),bn b U (yw (v Ia GY a_1))];{rw[bD (fin ?_)];have:¬z.y<=D.h:=ai;delta oK;rw[tX]};have ok:da (bi z.x D.w) (bi z.y D.h):=by{simp at c e6;simp;trivial};rw[bu,qH dH lK,CC B,bh4,v (oJ U) (oJ b0) afH aL7 (! Nh z) (t f7 c1) (by rw[f7];simpa using c1)]};rw[Lm ajp]
theorem aWm:T.awk.Ok P w aj 3 (axz bJ):=by refine T.awk.go aT2 aL;generalize aG=e3,aA=A,aF=outer,aE=s,aD=H,aB=vs,aH=Q,aI=E;rw[aN,M iz,aX,Bq,ds h,fF,b7 a3 e9 h.l,ci v g7 h.p,b ajs (u ajs ajs (eb vc yc yc) (eb vc yc nY) (yG aw) (yG aw) ajs) kE kx X lL sA gW gW (r5 df) DO gW,ck c5 c5 rg (br a3),beP];{refine iz;rw[aJu];rintro hi⟨⟨l,m,p,rfl,a5⟩,s,g⟩⟨t,y,rfl,c6,rfl,b6⟩;rw[aW z c9 e9 (b6 c5 (br a3)),to hM,my iK c6,ou (iK.go (dk b5) J),bba,beJ,aGO,fl aL6 (n0 b7 5) (cv b5 (em (fj cn) ?_) ajq (afI c9 U g)),u aL6 gW (r5 df) DO gW bz,DF Ke,B8 (¬z.1<z.2),db b U (yw (bt gd fX b2 (gT g7)))];rw[d2.length];rw[aKc,B8 (¬z.2<df),ca ok (da (bU z.1 z.2) (bU z.2 df)),bu,qH sA gW,CC B,bh4,v (ixi U) (ixi b0) axv aL6 (! DO q z) aIX bz]};rw[Lm ajq]
universe z
universe GA
namespace HT
open PySem PyProof.Rows
noncomputable def vA:aKh|[],_=>ah|_::_,[]=>ab|x::O,y::d7=>v x y (vA O d7) (bU y x)
theorem aWn(x y:Int)(O d7:aQ):vA (x::O) Q3=v x y (vA O d7) (bU y x):=rfl
theorem aWo:vA [] []=ah:=rfl
theorem aWp(y:Int)(d7:aQ):vA [] Q3=ah:=rfl
theorem aWq(x:Int)(O:aQ):vA (x::O) []=ab:=rfl
theorem aWr(A:Around)(s:Shared)(a:Int)(t:Tok)(c:Int)(u:Tok)(prog:Program)(w:World)(E:aU)(Q:aU)(h:j7 (bU c a)):zD .Gt:=m_ (PyProof.Rows.gt_int h) .Gt
section z
open PySem.SeqAt
open PySem.AutoSeq1(wpAny_loadPart')
open PySem.MeetsSeq PySem.MeetsSeq2 PySem.MeetsSeq3
theorem aWs(l b:Addr)(f i:dX)(n n2:Nat)(j o:nj)(sl p:EA)(ns d8:aQ)(hi:QX)(b8:Rj):nA (Builtin.«tuple.__gt__» aKj) aoP:=Ck (by rw[m9 os s,cA a5 U h];have h3:=aBR;rw[aMD,aME];wp_delta;wp_delta;rw[bT,aM9,aJv,As,dN,dN,bT,na (z2 (∃(vs ws:aM)(I k:aQ),Cy (vA I k))) _];(case turn=>rintro⟨y,x⟩m b c1⟨j6,rfl,vs,ws,I,k,c9,v,r,E,hR⟩;cases v with|nil=>{trivial}|cons a t C=>cases r with|nil=>{trivial}|cons c u F=>rw[alj];injection c9 with G H;rw[aLp];subst b6 S;rw[gB aWn,aIj,aM4,C aMR];cases e with|true=>{rw[gB aJE,hh];{rfl};rw[dN];exact Ct aL9}|false=>rw[gB (mN q zv)];have J:=aWr kB OL a t c u cO w;rw[eA ahi];{rfl};rw[bT,aHr,bT,eA J,aM1]);(case fin=>rintro⟨h2,e2⟩c1⟨j6,rfl,vs,ws,I,k,c9,v,r,E,hR⟩;rw[aHb];subst j6;have d3:vA I k=bU Vv lE:=by{cases v with|nil=>{cases r with|nil=>{rw[fj MV aWo a8S]}|cons c u hw=>rw[ko aWp a8S]}|cons a t d3=>rw[m3 aWq (nc E.l)]};rw[gB d3];wp_delta;wp_delta;rw[dN];exact aLQ);case h=>rw[aM_])
universe z
section z
variable{prog:Program}{w:World}{A:Around}{E:aU}{s:Shared}
theorem aWt{l b:Addr}{f i:dX}{ns d8:aQ}{Q:aU}(a5:aJa)(U:aKI)(hi:QX)(b8:Rj)(hu:sW<gF)(h:j7 aoP):z4 .Gt:=s .Gt PySem.F.slot_tuple_gt PySem.F.entry_tuple_gt (PySem.F.args_tuple_gt_2 _ _) (aWs l b f i n n2 j o sl p ns d8 hi b8) aoP aoP
universe z
universe HT
namespace L2
open PySem PySem.Spec PyProof.Rows
section z
variable{X:Cx}
def axA(K:PySem.W.Frag):R2:=Ks (WV ns d8)
theorem aWu(hu:zx<gF):be .Gt (axA X.K):=CE (HT.aWt e9 f6 (MX r1) (MX r2) hu (eW (WV ns d8) q))
universe z
universe L2
namespace L2
open PySem PySem.Spec PyProof.Rows
section z
variable{X:Cx}
inductive axB(x:V)(vs:af)(H:Hp)(Q:VK):Prop|mk:∀(l:Addr)(O:af)(j:Nat)(y:V),eV [I3,y] (j<=bx) (bx<hy->yx (O.take j++y::Hg j)->axB x vs H Q)
theorem aWv:Sv X "list.insert" axB:=by rw[apJ,cq O j y b8,hQ];obtain⟨f,u,rfl,⟨t,rfl⟩,m⟩:=rv.two;rw[aa2,bU c b c (c=v j)];have fit:a4i c=ab:=by{rw[wg]at c9;delta a4i;rw[dI ag,dI (x (acW b.m (aC b8) (mj c9)))];rfl};rw[<-b];refine ahn F.slot_list_insert (bm e) F.entry_list_insert (F.args_list_insert_3 _ _ _) (AutoSeq1.list_insert_list_int_val_1 l eU n c t u cu ai) (au e);rw[aC W (min j Hw) j (qU (cg b8 a5.l)),Q .bC _ (eR (ar.take j++u::ar.drop j) ?_ ((J.take j).append (.cons m (J.drop j)))) q];{have a3:¬(c<0):=by{lia-abstractProof};have d:eE=j:=by{lia-abstractProof};apply Array.toList_inj.mp;simp[a3,d,W,a4h,a4g,a4f];exact DJ aT};{rw[ck,ic,<-aDV,<-ck,DA];exact c9}
universe z
universe L2
namespace GA
open PySem PySem.Spec PyProof.Rows L2
theorem gtK{X:Cx}{K:Fg}(g:fD)(hu:zx<gF):be .Gt (axA K):=g▸aWu hu
theorem axC:∀O d7:aQ,WV O d7=mM d7 O|[],[]=>rfl|[],_::_=>rfl|_::_,[]=>rfl|x::O,y::d7=>by simp only[WV,mM,axC O d7,eq_comm (a:=x)]
theorem aWx(p q:Pt):WV ys aKk=Nh p:=L (axC _ _) (Uj q p)
noncomputable def Cu(l m:kk):cf:=l.1.below m.2&&zC l.1 l.2 m.1 m.2
inductive axD(K:Fg)(vs:af)(H:Hp)(Q:VK)(E:XK):Prop|mk:∀(v:V)(b2 c0:Addr)(l:kk)(c5:ek)(f:nh),e [v,YL,Pa] aon (bm dH b2 c5) (bm eS c0 f) (c (ku l.1/\ku l.2) (V p c5 (ku p)) (V J f (ku J.1/\ku J.2)) (dy (c5.any aao||a8j)) (axD K vs H Q E))
section z
theorem axE:T.awo.Ok P w aj 3 (axD K):=by refine T.awo.go aT5 aL;generalize aG=e3,aA=A,aF=outer,aE=s,aD=H,aB=vs,aH=Q,aI=E;rw[aN,M P9,aX,n O b2 c0 l c5 f];rintro rfl⟨a,x,y,rfl,b3,S,b6⟩⟨b1,l8,c2⟩⟨ws,hw,j⟩sl e8 e k;rw[d _ (i 3 ajv kK (bW 4 ajv kK) (bZ (bd aq 5 ajv (dm (u_ (Z awY bb bR cK)) mn)) (bd aw 6 ajv (dm (gG (eb (gtK (K:=K) rfl ai5) (di ey) bb) (u_ (ec aVT (vy bb bR (di ey) (di ey))))) mn)) mn)) a _ _ _ rfl (u JC dh a _ (s JC dt b2 ⟨b1,l8⟩ (aJ b1 (bi (L=H) (∃v,M=KA ae) (dI (aju i) aao=ah)) (ah qm rfl) (mR (z.1▸l8)))))];{rw[g4 L v g];have⟨p,a3,J⟩:=oH c2 c9;rw[aK (aju (i+1)) (aju i) p a3,e l.1 l.2 p (cB S b6 J) sl.1.kv sl.2.kv (e8 p (bO a3)).kv Ke];{have:c5.any aao=ab:=a4j (v p (bO a3) c);rw[this,aCb]at k;exact k};{refine ah el ?_;rw[g9,List.any_append,g];simp at c;simp[c]}};rw[fH L v g,dc ai8 g];rw[g,aCa]at k;rw[bD c0 ⟨ws,hw⟩ (aJ ws (fun i M j1=>yY (j1=L) (∃j5,M=KA j5) (dI (ajt i) (Cu l)=ah)) (ah qm rfl) (fun i M j1 _ z=>z.1▸hw))];{rw[g4 j1 j5 g8,c J I b n a4 U r1 r2 (oH j c9)];have sm:=e J (bO I);rw[aK (ajt (i+1)) (ajt i) J I];have k0:=gZ (by have:a8j=ab:=a4j (v J (bO I) c);rw[bs this];exact k);have f6:Cu l J=ah->dI (ajt (i+1)) (Cu l)=ah:=gZ ag;have⟨e5,b4,d2⟩:=S;have⟨e6,b9,q2⟩:=r2;subst b4 b9;rw[db b U (m e6 e5 (oJ q2) (oJ d2) ?_)];rw[aWx];unfold Cu at k0 f6;rw[kn];{rw[DF (a _ _ _ _ l.1 l.2 J.1 J.2 (a rfl S b6 r1 r2 sl.1 sl.2 sm.1 sm.2 a_0)),l (k0 ag),l (ah el (f6 ag))]};{refine ah el (f6 ag)}};rw[fH j1 j5 g8,dc j.length g8,bs g8];exact k
universe z
structure vB(H:Hp)(l:Addr)(Y:bg)(g:AY):Prop where
 lst:am l Ay
 nd:aDW
 len:eO=N3
 at_:HN (I ns (A g ns) (am a jh) (a≠l))
theorem vB.mono{H L:Hp}{l:Addr}{Y:bg}{g:AY}(h:aH9)(s:bQ):vB L l Y g:=KZ (bv q)
theorem vB.get{H:Hp}{l:Addr}{Y:bg}{g:AY}(h:aH9){i:Nat}{ns:ao}(hi:A g ns):I a ED (am a jh) (a≠l):=by rw[cV a5 (i<eO) ajw N3];obtain⟨I,e,q,n⟩:=a'4;rw[a6 hi,dV];exact bdd
theorem vB.put{H:Hp}{l:Addr}{Y:bg}{g:AY}(h:aH9){i:Nat}{a:Addr}(b3:ED)(ns:ao):vB (ap a jh) l Y (g.set i ns):=by have⟨d,f5,N,c6⟩:=aGK;rw[bg4,Z5,In ak];{have⟨I,b4,d2,n1⟩:=mX j b U;exact d I bz (Y bfl d2) n1}
noncomputable def vC(ls:nL)(i:Nat):ao:=ls.filterMap (mF (av (l.1=i) l.2 (av (l.2=i) l.1 ae)))
theorem aWy{ls:nL}{n:Nat}{e:fB}(h:e.1≠e.2)(a3:e.1<n)(a9:e.2<n):(bp (bp (d9 (vC ls)) e.1 (vC ls e.1++[e.2])) e.2 (vC ls e.2++[e.1]))=d9 (vC amU):=by rw[alR,aGI];simp only[a4k,Ng,WW,M4,bA,aC2];have f9:vC amU i=vC ls i++(v e.1 i [e.2] (v e.2 i [e.1] [])):=by{delta vC;rw[aiV];rw[dZ];simp only[Hk,aDq];rw[N d2 e.1 i,a_,cM]};rw[f9];rw[N q2 e.2 i,az,cM]
inductive axF(C:Addr)(vs:af)(H:Hp)(Q:VK)(E:XK):Prop|mk:dd (zG Yn) Q6 (QV->(∀l Y L,bQ->vB L l Y (cf df DP)->Q cD L)->axF C vs H Q E)
section z
theorem aWz:T.av'.Ok P w aj 1 (axF bJ):=by refine T.av'.go aTV aL;generalize aG=e3,aA=A,aF=outer,aE=s,aD=H,aB=vs,aH=Q,aI=E;rw[aN,M iz,aX,Bq,cm c1 c9 o,fF,Q5,aaZ,fb,ez (b6 (e ajx 1 pO (ck "point" 2) (ci 2 ajx) kN (bC Bb)) (mB pO (V 3 ajx 4 ajx) (c8 (dF amZ bR) (dF (bs aq bR) bb))) aq) (a hd dU gd fX b2 rfl (dD c5 a3) (fun Z f=>g8 (bQ/\g3 Z gs (b≠Z)) f a3))];{rintro i x L S⟨s,Y,e,len,nd,al⟩;have hi:=bx S;have p4:=rg;rw[ix ⟨cT,fun b U=>?_⟩];have a5:b≠Z:=J ai;rw[Lg f,l8 ak,bfk,biL]};rw[KI a8,bhc,a2 (dj hd) (s kE kx X (dD ls (dj a9)) (bW ls (bi (vw (fun j8 b1=>M=[kM,ac Z,ae,j8,b1])) bQ (vB L Z Y aHL)) (v Kg a4 (by rw[H9 a84];have hi:=bx U;rw[a'W];rfl)) a9))];{rintro i x M L S⟨⟨j8,b1,rfl⟩,s,N⟩;rw[B_ (oH f6 S)];have C:=c1 e uv;rw[apm,bfK,ak g7 aHL e.1 (ln e.1) m9];obtain⟨e5,e0,d2,n1⟩:=N.get g7;have d:∀j,bd (ln j) 8192:=iY (by rw[tl (a4l _ _)];rw[eT];exact cp (oU i lL) o);rw[b b _ rfl (cy (bv U)) rfl Z _ _ (a (gU e5) rfl rfl (av w_) (no e0) (dr d2) e5 _ (f _ rfl d2 (au (Ee (d e.1))))),aS a7 (bh (ln e.1)++[g1 e.2]) (bh aaJ)];rw[a7];rw[cd (N.put e0 aaJ),aj n (U L e5 (bh aaJ)) (fI s (aV (al e5 (bO e0)))),i L e5 (bh aaJ) b7 l n,dE g8 (ap (bp aHL e.1 aaJ) e.2 (ln e.2))];obtain⟨e6,g0,q2,n2⟩:=l.get g8;rw[r Z (gU e6) (av l.lst) (no g0) (m (dr q2) e6 q2 (Ee (d e.2)) ?_),aS p (bh (ln e.2)++[g1 e.1]) (bh a'V)];rw[p];rw[ak (bm _) (fI n (aV (al e6 (bO g0)))),f4 (l.put g0 a'V)];rw[aWy (f0 (gx z.g C.1)) m9 C.2]at g;rw[J g9 g]};rintro M L⟨⟨j8,b1,rfl⟩,s,N⟩;rw[dc N2 N];exact(k Z Y L s N)
universe z
inductive rGN(K:Fg)(x y:V)(H:Hp)(Q:VK):Prop|mk:∀(p:Addr)(O:af)(j:Nat)(v:V),b x fP (y=vn j) ZM anu (AO->rGN K x y H Q)
theorem aWA{X:Cx}{K:Fg}(g:fD):aqX X (rGN K):=by subst g;intro au s M H o i ov c Q I b a h;rw[c p O j v rfl e0 S q h];cases b;rw[ev a,a1 J d5 OH,bl n m (ahf S)];have b8:=bx S;rw[fb];exact wpAny_getItem_list zq aT fq ag (a v H I m q)
def Ur:Rl ja:=fun _ v o=>match o with|none=>v= .bC|some n=>v=ji
theorem LS{p:uA}{n i:Nat}(hi:i<n)(h:p i=ab)(g:y3 (p j)):QU=aa i:=GM.auD.mpr (v hi h g)
theorem Us{p:uA}{n:Nat}(g:E j (j<n) (p j=ah)):QU=ae:=GM.aeL.mpr g
inductive axH(vs:af)(H:Hp)(Q:VK)(E:XK):Prop|mk:Ky (A [cD] alJ (t7 (ch n (dK (s8 (a5 i))))) (axH vs H Q E))
noncomputable def Cv(par:gq)(x:Nat):V:=match par x with|none=> .bC|some p=>jQ
noncomputable def za(B:ao)(par:gq):gv:=ajy (fun(x:Nat)=>((hY x:Key),Cv par x))
theorem G0(par:gq)(y:Nat):∀B:ao,fe ak3 (hY y)=av (y∈B) aIT ae|[]=>rfl|x::J=>by have d6:=G0 par y J;unfold za at d6⊢;rw[da];rw[b1 x y];{rw[cb];rw[sj rfl,aK bK]};{rw[sk (by rw[fT];exact e cu),d6];by_cases m:y∈J;rw[a_,cM]}
inductive axI(vs:af)(H:Hp)(Q:VK)(E:XK):Prop|mk:∀(l d:Addr)(Y:bg)(n:Nat)(a5:mb)(B:ao)(par:gq),e [cD,nG] alJ (kd n) (bh d Pc) (ad v (Ur H v (ch n aKg)) AO->axI vs H Q E)
inductive axJ(vs:af)(H:Hp)(Q:VK)(E:XK):Prop|mk:Ky (e [cD] alJ (0<n) (kd n) (j (ad x (n<=x) (a5 x=[])) (e7 (dw (a5 x) (y<n))) (e7 (kd Y5)) (aps) (∀d B par L,j bQ (Y d) (L d=aa Pc) aLD alW (Q nG L)) (axJ vs H Q E)))
section z
theorem aWB:T.awa.Ok P w aj 1 axH:=by refine T.awa.go ae3 aL;generalize aG=e3,aA=A,aF=outer,aE=s,aD=H,aB=vs,aH=Q,aI=E;rw[aN,M oi,aX,al l Y n a5,ds N,ap3,cl (bo (t bS 1 ae3.nd 2 ae3.nd (D ly (dP aw) bE aq)) cv) (av w_) (bv n (bi (vw (fun O o=>M=[tV,O,o])) bQ (y3 (s8 (a5 j)))) (v Kg ej (i8 AA))),CZ (as (gU (dz Y ag)) (br w_) ag),wQ (av (br w_) ag)];{refine iz;rw[aJu];rintro hi⟨⟨O,o,rfl⟩,s,g⟩⟨t,y,rfl,c6,rfl,b6⟩;have b6:=b6 _ (br w_);rw[cm gi (A (d9 a5) (a5 i)),eK X nc (N.get gi)];rw[cA,b0]at b6;cases b6;rw[to (eB (.ref c)),d t _ rfl (cy ak) rfl c _ (au (ce (gT X)))];rw[bA];rw[FR];{rw[bD (ax b5 ?_)];rw[LS hi (ax (nZ)) g];rfl};{rw[aa (bm _) b5 Ru,Z5];{rw[fU]};rw[l (g j (iT e))]}};{refine fQ;rw[X5];rintro⟨⟨O,o,rfl⟩,s,g⟩;rw[Jn];rw[Us g];rfl}
theorem aWC:T.awc.Ok P w aj 1 axI:=by refine T.awc.go ava aL;generalize aG=e3,aA=A,aF=outer,aE=s,aD=H,aB=vs,aH=Q,aI=E;rw[aN,M oh,aX];generalize kT=l,kU=d,kX=Y,kY=n,kZ=a5,la=B,lj=par;rw[av N d1 hd k,ap3,b _ (bo (an (oz nK) 2 ava.nd (dm (BB (SJ xB aw aq)) aw)) cv) l _ rfl (ce w_) cL ag (aJ aT (w6 d1))];rw[iT];rw[fG n (bi (L=H) (∃o,M=[tV,rD,o]) (y3 (! cw (j∈B)))) (ah qm (i8 AA))];{rintro i M L hi⟨rfl,⟨o,rfl⟩,g⟩;rw[aLS];rw[d2];rw[tf (jq.k (k:=hx xy) hd)];rw[G0];by_cases m:i∈B;{rw[aK m];refine ah el Ru;rw[Z5,a_,l (g j (iT e))]};{rw[aO m,bD (k _ ?_)];rw[LS hi (ar m) g];rfl}};{rw[fH L o g];refine k _ ?_;rw[Us g];rfl}
universe z
theorem LU{n j:Nat}(h:j<n):qB n (v j)=aa j:=b0 qB (aK aT) (aK (x (mj h))) iT
theorem afJ{I:Type}:∀l:ba,kz (as (cf 0))=Vt ec 0|[]=>rfl|a::J=>by rw[da,afJ J];rfl
theorem axK{f g:cE}{x:Nat}(e:g x+1=f x)(o:E y QK (g y=f y)):E n (x<n) ((d9 g).sum+1=(d9 f).sum)|0,h=>rI h|n+1,h=>by rw[ajz,fh,fh,aDX,aDX];simp only[da,zw,a4m,List.sum_nil];rw[iS n];{rw[fa];have:cf x g=cf x f:=aiG (o1 (o y nZ));rw[oc];simp+arith [*]};{rw[dC (axK e o n (cx h q))];rw[o n (J (q wo))];simp+arith [*]}
noncomputable def aWD(a5:mb)(n:Nat)(o:ao):Nat:=(d9 (ab (Y5-Yp))).sum
theorem aWE{a5:mb}{n:Nat}{o:ao}{x:Nat}(S:x<n)(i0:aDZ=n)(h:Yp<Y5):o2 (aDY x (Yp+1))+1=o2 o:=by refine axK (x:=x) ?_ Q8 n S;{rw[fU]};rw[dY]
theorem aWF{o:ao}{x:Nat}(S:x<aDZ):(e9 (am (aDY x (Yp+1)) y 0))=GM.bump (e9 (aD0 y 0)) x:=by funext y;delta GM.bump;rw[WE];rw[b1 y x,a_,cM]
theorem aWG{B:ao}{par:gq}{y t:Nat}(h:y∉B):mP ak3 (hY y) (vn t)=za (eN B) (WX par y t):=by rw[aP' _ (bj G0 (bj h))];delta za;rw[fh];rw[dZ];{rw[j0 qq];have:x≠y:=an (h ai);delta Cv WX;rw[aO this]};{simp[Cv,WX]}
section z
theorem aWH:T.awb.Ok P w aj 1 axJ:=by refine T.awb.go aTW aL;generalize aG=e3,aA=A,aF=outer,aE=s,aD=H,aB=vs,aH=Q,aI=E;rw[aN,M oi,aX,al l Y n a5];rintro rfl N c6 d1 b8 b1 g sym k;rw[ap3,fb,e3 (L N4 (aQt (aQr bE cv aQq) rfl rfl Rt ay) (aS N4 2 3 3 N4) (i 4 N4 (eb bE) (F6 NY (afn K bR) (i 5 N4 (bs bR (aq2 aq5 bE)) (ah gO (i3 cK) (dP (eT cK)) (Cn bR) aN7) (i 6 N4 (bs (eT cK) (i3 cK)) (qN aw cK) (fG (sg (BB (SJ xB ey aq)) (c8 (d4 aq ey cK) (dF bR ey)) BE))))) (df aq))) (s9 (f ak a7s ay ?_))];rw[yx];rw[x7 aJo,e b4 H d aJo d (.dK (za [0] uB)),iG (ad d aJo),biM,a9 l (dj w_) (sZ (d oG aoV sD a9 (as xu) h7 a'X)),e1 a x b3,bbW];have c3:=vt f6;rw[eW c3,bg8];rw[g9]at c3;rw[jY];have c5:=I0;have W:=ft b4 h7;rw[v (bB) (fun p a0=>?_),T c8 b7 (U b7 p hc) a0,a e7 b7 p hc p hc,cj I p d,M O p t bM,g2 p hc];have Hp:=eX e_ a0;rw[ak (qQ (Ll (m=anZ+aD1/\M=bio/\dd bQ (L d=aa Pc) (aj t (tq vn)) (aj p (path.map vn))))) (a _ [0] uB (Vt n 0) [0] ae ae rfl (a rfl (L e_ c8) (dn c5) (dn b9) e7 aBO ?_ (aJ ai) bB aY))];{have:(ab (am (Vt n 0) x 0))=nk:=bz;rw[oc];exact GM.aRA a5};rintro m M L⟨B,par,o,path,i1,j5,rfl,rfl,s,a3,j,e1,C,D,lt,lo,b2⟩;rw[b2 (.inl (bm (av e1)))];rcases a4o dJ with rfl|⟨f,e,rfl⟩;{rw[bD (k d B par L s nd a3 (D.tree sym) lt)]};{have c4:=Nr e aT;have c7:=lt e c4;rw[a4n]at*;have ne:(!(bh Bg).isEmpty)=ab:=by{simp};rw[ne];rw[cm c0 (K o e Ej),cm r (ap (d9 a5) e (a5 e))];have⟨c,b0,X,nc⟩:=(ajB s).get r;have Z:=(ajB s).lst;rw[c (of (anZ+t Bg) (Ll (f7=anZ+aD1/\g0=bio/\dd (cZ H j1) (j1 d=aa Pc) (b5 (j1 t) (tq vn)) (b5 (j1 p) (path.map vn))))) aaV p _ _ (vn e) (b rfl rfl (av e1) (t fh (arE _ _)) t _ (vn Ej) (b rfl rfl (av j) Pd l _ (gU c) (b rfl rfl (av Z) (no b0) c rfl (ce X) gL)))];rw[dP,bA];rw[FR];{rw[c (dr e1) p _ (vn e) rfl e1 aT (a (anZ+Dz) aT B par o f _ j5 (a rfl rfl (fI s Hp) (Y I.symm a3) (Y O.symm j) (nP ak) C (D.pop rfl bz) lt lo (nI b2)))]};{have h8:=D.S2 e;have d3:Ej<t (a5 e):=by{lia};have u:=dd d3;generalize(a5 e)[Ej]=y at u;have G:=b1 e y (bO u);rw[r l (gU c) (av Z) EK (D t Ej (av j) EK (D c y (av X) EK (f t _ e (vn Ej) rfl (av j) ai (c1 t e j ai)))),bN a7 (bdp) JK ajA,t2 (U L t bdp)];rw[a7];rw[aj d9 (U L t JK) (fI s (gX h7)),z g4 (upd L t (.lst JK) d=aa Pc) (bX W) a3,a h3 L t JK t JK,z h6 (N L t JK p (bh Bg)) (bX O) e1];generalize U L t JK=e4 at d9 g4 h3 h6;have F:=aWE (a5:=a5) c7 C d3;rw[bL e0 (t ak4) n,tf (w4 g4)];rw[G0];by_cases U:y∈B;{rw[aK U];rw[b (2*o2 ak4+t Bg) bM B par _ Bg _ _ (a rfl rfl d9 g4 h3 h6 e0 ?_ lt lo b2),J bcK (D.old aHk u U)]};{rw[aO U];have R:eD+1<=n:=by{rw[dk (aso D.nd U) (eL n) (aJ (by rw[h_ S,a_,az])),gh]};rw[tf (qD.k (k:=hY y) g4 (n5 za (hp R d1 fy)))];rw[aWG U];rw[z e2 (b5 (upd e4 d (.dK (za (eN B) (WX par y e))) p) (bh Bg)) (bX I) h6,bL d5 (t Bg) n pT,n (dr e2) p e2 (x (RU b2 R d1 fy)) (a (2*o2 ak4+t (eN Bg)) (eL F.l F.l) (eN B) (WX par y e) _ (eN Bg) _ _ (a rfl rfl (fI (gr d9) Hp) ?_ ?_ ?_ e0 ?_ ?_ ag ai))];{rw[bX I.symm,ak]};{rw[bX O.symm,bX W.symm];exact h3};{rw[ak,<-List.map_singleton (f:=vn),<-fh]};rw[Z bcK (D.new sym aT u U)];{intro x S;rw[h_ S,a_,az]}}}}
universe z
def mC(N:bg):Rl CK:=fun H v x=>match x with| .lead row m=>∃a i7 b8,i1 (l7 bcg) (fd i7 row/\aaa/\i7∉N)| .erase i j=>z a (v=bc) (l7 [.int 1,pJ,vn j])| .move k p=>∃a pv,v=bc/\l7 [.int 2,vn k,pv]/\br pv p| .mark i m=>∃a b8,v=bc/\l7 [.int 3,pJ,b8]/\aaa| .drop k=>z a (v=bc) (cx (ed 4 (vn k)))
def LV(C:Addr)(H L:Hp)(r:Gla.Plan)(b2 X:Addr)(x:Gla.Step)(v:V):Prop:=match ajC r x with|none=>v= .bC|some T=>∃b6 a e7 i I,i1 (LO C L a b6 e7 i I) (DN b6/\zR b6=zR T/\z (zR T=ae->b6=T) (Y a) (Y e7\/e7=b2) (Y i\/i=X) (Y I))
inductive axL(C:Addr)(vs:af)(H:Hp)(Q:VK)(E:XK):Prop|mk:∀(a:Addr)(r:Gla.Plan)(b2 X G:Addr)(a0:V)(x:Gla.Step),e [bc,a0] Qq (mC [] H a0 x) (xb r) (Ij x->nQ x->axL C vs H Q E)
def Ut(C:Addr)(H:Hp)(v:V):cv Et|none=>v= .bC|some B=>∃b b2 X G,v=cW/\LO C H b B b2 X G
inductive axM(C:Addr)(vs:af)(H:Hp)(Q:VK)(E:XK):Prop|mk:lN (DN D) (aLP->gt (zR D)->axM C vs H Q E)
universe GA
namespace GM
noncomputable def sm:cE|0=>0|n+1=>5*sm n+1
noncomputable def fn:gO Nat Nat|0,x=>x|n+1,x=>5*fn n x+1
theorem LW:aP n x (fn n x=5^n*x+sm n)|0,x=>eM fn sm|n+1,x=>by simp only[fn,LW n x,sm,HY];grind-abstractProof
theorem afK:∀(a b x:Nat),fn (a+b) x=fn a (fn b x)|0,b,x=>ar fn|a+1,b,x=>n7 fn (afK a b x)
theorem aWI(a b:Nat):sm (a+b)=5^a*sm b+sm a:=by have h:=afK a b 0;rw[LW,LW,LW]at h;simpa using h
theorem afL:∀k,∃u,5^(2^k)=1+4*2^k*u|0=>⟨1,ay⟩|k+1=>by rw[i6 u (afL k),dJ (u+2*2^k*u*u)];rw[HY,Nat.pow_mul,h];grind-abstractProof
theorem axN:∀k,∃v,sm (2^k)=2^k*(2*v+1)|0=>ht ay|k+1=>by have⟨v,h⟩:=axN k;have⟨u,g⟩:=afL k;rw[dJ (v+2*2^k*u*v+2^k*u+0+(2*v+1)*0)];rw[show uz=2^k+2^k by grind,aWI,h,g];grind
theorem aWJ(k x:Nat):∃c,fn (2^k) x=x+2^k+uz*c:=by obtain⟨u,g⟩:=afL k;rw[i6 v (axN k),dJ (2*u*x+v)];rw[LW,g,h,HY];grind-abstractProof
theorem axO:∀(k i j:Nat),z n (n<2^k) (JZ%2^k=j%2^k)|0,i,j=>v 0 ay cu|k+1,i,j=>by rw[bde,c4 f6 uz (2*2^k)];have p:e7 (x%uz=x%2^k\/x%uz=x%2^k+2^k):=ab (by rw[f6,aiA,a3A];rw[al (Nat.mod_two_eq_zero_or_one (x/2^k))];{rw[xq]};simp[*]);rw[T (JZ%uz) (j%uz),cM];{rw[ak (2^k+n) (bn f6.g d1)];rw[afK];rw[db h (aWJ k JZ)];rw[h,Nat.add_mul_mod_self_left];rw[cm (p JZ),ca (p j)];rw[e]at a;rw[aS d ((JZ+2^k)%uz) ((JZ%uz+2^k)%uz)];rw[d];rcases a with a|a;{rw[a];rcases b with b|b;rw[az];{rw[b,et eP]}};{rw[a];rcases b with b|b;{rw[b,dy (j%2^k+2^k+2^k) (j%2^k+uz),Nat.add_mod_right,et eP]};simp_all}}
theorem aWK{k i a b:Nat}(b3:a<2^k)(U:b<2^k)(h:fn a i%2^k=fn b i%2^k):a=b:=by have O:∀(m:Nat)(f:cE),ad n (n<m) (f n<m)->ad j (j<m) (z n (n<m) (f n=j))->f a b (a<m) (b<m) (f a=f b) (a=b):=by{intro m f W c a b b3 U e;rw[a8D];let l:=(eL m).erase a;rw[c4 G (t xU) (m-1),e4 all (∀j∈eL m,j∈xU)];have len:∀{l m:ao},aMG:=by{rw[rK];induction l with|nil=>{intros;exact cT}|cons x l d6=>rw[bZ m nd];have n2:=AL;have N:=GK cu;have a8:=h x bK;have:=aCu a8;rw[oY N];exact mO N a8};have:=len WY all;rw[am G,uu];exact gx this (aC m 1 b3)};have V:0<2^k:=a3D ay;exact O (2^k) (ee (JZ%2^k)) (fun n _=>V0 _ V) (i8 (by rw[bde];exact v n d1 (bj e (et b8)))) a b b3 U h
universe GM
namespace GM
open PySem PySem.SetTable
noncomputable def Uu(t:SetTable)(p:Probe):Il:={p with j:=FQ,more:=kF dg FQ-FQ,i:=FQ,perturb:=(tr dg p.i Ik).2}
theorem aWL(t:SetTable)(p:Probe)(h:iZ=0):zS p=Yf:=by delta aD2 Uu;simp[h]
theorem aWM(t:SetTable)(p:Probe)(h:0<iZ):zS p=bcL:=cG aD2 kR
noncomputable def oL(p:Probe):ao:=cf (iZ+1) (p.j+ ·)
noncomputable def lB(t:SetTable):gO Il Il|0,p=>p|J+1,p=>lB t J Yf
noncomputable def path(t:SetTable):gO Il ao|0,_=>[]|J+1,p=>uy++aI6
theorem aWN(p:Probe)(h:0<iZ):uy=p.j::oL bcL:=by delta oL;simp only;rw[aS (iZ+1) ((iZ-1+1)+1) (cV (aS iZ 1)) (cV (aC iZ 1 h)),ahp,da,jy];simp only[HH];rw[dZ,a8w];simp only[Wx];simp+arith [*]
theorem aWO(p:Probe)(h:iZ=0):uy=[p.j]:=f9 oL h
theorem axP(t:SetTable)(p:Probe):∀(J:Nat),aHz=p.j::bo (iZ=0) (dJ t J (zS p)) (dJ t (J+1) (zS p)):=by intro J;rw[d7 h iZ];{rw[aK h,aWL t p h];simp only[dJ,aWO p h,List.singleton_append]};{rw[bj h,aWM t p amv];simp only[dJ];rw[aWN p (x (aV aNr h)),ahw];rfl}
theorem axQ(t:SetTable)(hashAt:eh)(h:Int)(nd:bdw):∀(r J:Nat)(p:Probe),bd hO r->(aJk)->ax m bgU m|r,0,p,_,⟨j,b8,_⟩=>a7_|0,J+1,p,l,_=>ai|r+1,J+1,p,l,⟨j,b8,e⟩=>by rw[axP]at l b8;simp only[aD3];cases c0:zT p.j with|empty=>{exact el}|dummy=>{simp_all}|live i=>simp only;split;{simp};{rw[wT b8];have M:=b8.resolve_left Qn;rw[T iZ 0,g5 (aK q) J (x (a2X l)),g5 (bj q) (J+1) ai]}
noncomputable def cands(t:SetTable)(hashAt:eh)(h:Int)(l:ao):Nat:=t (zB (iY (match xm with| .live i=>DQ i==h|_=>ah)))
theorem G1(t:SetTable):A1 (hO=(eL J).flatMap aKn)|0,p=>rfl|J+1,p=>by rw[ahp,pj,aC9];simp only[dJ,lB,G1 t J]
theorem LX(t:SetTable):∀(a b:Nat)(p:Probe),lB t (a+b) p=lB t b (lB t a p)|0,b,p=>ar lB|a+1,b,p=>by rw[dy (a+1+b) ((a+b)+1)];simp only[lB,LX t a b]
theorem Uv(t:SetTable):A1 ((g2 J).perturb=Ik/32^J)|0,p=>ar lB|J+1,p=>by simp only[lB,Uv t J];show(Ik/32)/32^J=_;rw[Nat.div_div_eq_div_mul,HY,aiA]
theorem afM(t:SetTable):nl (0<J) ((g2 J).j=(g2 J).i/\s7 (g2 J))|0,p,h=>ai|1,p,_=>by{rw[bu];show kF dg _-_<=9;delta kF;rw[Zi]}|J+2,p,_=>HG (afM t (J+1) _ pZ)
theorem Uw(t:SetTable){k:Nat}(c3:anC):∀(n:Nat)(q:Probe),q.perturb=0->q.i<2^k->(alp).i=fn n q.i%2^k/\aHf=0|0,q,b1,hi=>by{simp[lB,fn,et hi,b1]}|n+1,q,b1,hi=>by have d6:=Uw t c3 n q b1 hi;rw[dR (n+1) (n+1),LX t n 1];constructor;{show(tr dg (alp).i aHf).1=_;delta tr;simp only[d6.1,d6.2,c3,fn];rw[Nat.zero_div,HH,a4p,a4q,Nat.mod_mod,<-a4q,<-a4p,aiA]};{show(tr dg (alp).i aHf).2=0;delta tr;simp only[*]}
theorem axR(t:SetTable){k:Nat}(c3:anC):nl (0<J) ((g2 J).i<2^k)|0,p,h=>ai|1,p,_=>by{show(tr dg _ _).1<_;delta tr;simp only;rw[c3];omega}|J+2,p,_=>HG (axR t c3 (J+1) _ pZ)
theorem aWP(p:Probe):t uy=iZ+1:=ar oL
structure axS(t:SetTable)(k:Nat):Prop where
 mask:anC
 G2:a9o
 fill:rh<=dg
theorem afN{t:SetTable}{j i:Nat}(h:xm=Yl):j∈zU:=by rw[a4 aD4];grind-abstractProof
theorem afO{t:SetTable}{k:Nat}(Y:yo)(j:Nat):xm≠.dummy:=by delta aD4 aD5;rw[Y.G2];rw[xr]
theorem afP{l m:ao}:aMG:=by induction l generalizing m with|nil=>{intros;exact cT}|cons x l d6=>rw[du nd];have n2:=AL;have:=aCu (h x bK);rw[cO (GK (ae (a22 (fun(e:y=x)=>n2.1 (e▸b6))) (h y (ck b6)))),cR this];exact mO q (h x fx)
theorem aWQ{t:SetTable}{k:Nat}(Y:yo):z e (e<=dg) (zT e= .empty):=by rw[anF];have all:aK (eL (dg+1)) (x∈zU):=by{rw[Bs];cases h:zT x with|empty=>{grind-abstractProof}|dummy=>{rw[dT h (afO Y x)]}|live i=>exact afN h};have:=afP WY all;have:=Y.fill;simp at*;lia-abstractProof
theorem aWR{t:SetTable}{k:Nat}(Y:yo){p:Probe}(c2:Ik<2^64):∃j∈amN,Jg:=by rw[gy c0 (aWQ Y),bd3];have D:e<2^k:=by{have:=N5;exact fg a0 this.l};rw[et D]at a7;rw[cq e c0];rw[G1,V7];rw[ak (13+n) ag,cd (Uw t N5 n _ (by rw[Uv];rw[fU]) (BS N5))];delta oL;rw[fK];rw[ak 0 aT,bgG]
theorem axT{t:SetTable}{p:Probe}(c4:iZ<=9):∀(J:Nat),bd hO (10*J):=by intro J;rw[G1];have:∀(l:ao),bd (NH aKn) (10*ec):=by{rw[rK];induction l with|nil=>{exact cT}|cons a b d6=>rw[pj,ck,aWP,ic];have:s7 (g2 a):=by{rw[al (a4r a),Z q c4,l (afM t a p q).2]};exact cg this d6};grind-abstractProof
theorem aWS{t:SetTable}{k:Nat}(Y:yo){p:Probe}(c4:iZ<=9):bd amN (10*Im dg):=by have:=axT (t:=t) (p:=p) c4 I8;have:=N5;delta Im;lia-abstractProof
noncomputable def vD(t:SetTable)(j:Nat):cf:=cw (j∈zU)
theorem axU{I:Type}{p q:Be}:qB (bk l (p x=ab->q x=ab)->bd (zB p) (t (zB q)))|[],_=>aT|x::l,h=>by rw[dC (axU (p:=p) (q:=q) l aJb)];grind-abstractProof
theorem aWT{t:SetTable}{hashAt:eh}{h:Int}(l:ao):WZ t DQ h l<=t (zB (vD t)):=by delta WZ;refine axU l (fun j _ q=>?_);cases c0:xm with|empty=>{simp_all}|dummy=>{simp_all}|live i=>delta vD;simp only[iV];exact afN c0
noncomputable def Cw(f:cE):Nat:=(cf 10 f).sum
theorem aWU(f g:cE):p1 (f o+g o)=Cw f+Cw g:=by delta Cw;generalize eL 10=l;induction l with|nil=>{rfl}|cons a b d6=>simp+arith [*]
theorem aWV{f:cE}{c:Nat}(h:∀o,f o<=c):Cw f<=10*c:=by delta Cw;have:∀l:ao,(xU).sum<=ec*c:=by{rw[rK];induction l with|nil=>{exact cT}|cons a b d6=>rw[kz a4m ic];grind-abstractProof};grind-abstractProof
noncomputable def one(b:Bool):Nat:=Z b 1 0
theorem aWW:∀(m:Nat)(f:uA),m<=10->bd (dC m f) (p1 (one (f o))):=by intro m f c4;have a:∀l:ao,t (zB f)=(kz (lm (one (f o)))).sum:=by{rw[rK];induction l with|nil=>{rfl}|cons x J d6=>rw[bC q (f x)];{rw[aia q];simp[d6,one,q];simp+arith [*]};{rw[a4t q];simp[d6,one,q]}};rw[a];delta Cw;rw[show eL 10=eL m++cf (10-m) (m+ ·)by rw[<-a4s];rw[dZ];simp[*]];rw[fh,aDX];exact xK
theorem axV{t:SetTable}(q:dg Il)(e0:∀n,s7 (q n)):∀(ns:ao),bd (ef (ns.flatMap (ee (oL (q n)))) (vD t)) (p1 (t a8k))|[]=>by{rw[ue]}|n::ns=>by have d6:=axV (t:=t) q e0 ns;rw[pj,DR,ck];have e:(lm (gt (n::ns) (ee Jp)))=lm (one Jp+t a8k):=by{funext o;rw[bC h Jp];{rw[aia (p:=ee Jp) h];simp[one,h];simp+arith [*]};{rw[a4t (p:=ee Jp) h];simp[one,h]}};rw[e,aWU];have J:gt (oL (q n)) (vD t)<=p1 (one Jp):=by{delta oL;rw[a4u,bA];have:=aWW ((q n).more+1) (vD t∘((q n).j+ ·)) ag;exact this};exact aD6 J d6
theorem aWX{t:SetTable}{k:Nat}(Y:yo){p:Probe}(c2:Ik<2^64)(c4:iZ<=9)(hashAt:eh)(h:Int):WZ t DQ h amN<=130+10*rh:=by rw[tl (aWT _)];rw[G1,a0 (eL I8) (eL 13++cf (2^k) (13+ ·)) a4s,zP,DR,ck,aC9];have a:gt ((eL 13).flatMap aKn) (vD t)<=130:=by{rw[tl AW];rw[<-G1];exact axT c4 13};have j4:∀n,(g2 (13+n)).j=fn n (g2 13).i%2^k:=ee (ac (aGN).1 LX (Uw t N5 n _ (by rw[Uv];rw[eo]) (BS N5)).1);rw[ca (axV (t:=t) (ee (lB t (13+n) p)) (ee (aGN).2) (eL (2^k)))];have c:(p1 (t (dC (2^k) a'e)))<=10*rh:=by{refine aWV (fun o=>?_);have nd:c8 (B (dC (2^k) a'e) (ee ((g2 (13+n)).j+o))):=by{rw[J3,h8 (a3h _ WY),rl e];have d:=ff b3;have j6:=ff U;simp at d j6;rw[j4,j4]at e;exact ne (aWK d j6 (a0_ e))};have:=afP nd (m:=zU) (aJ (by rw[a7 n d1 S];have:=(vP d1).2;unfold vD at this;rw[gh]));rw[gh]};exact hp a b c
theorem aWY{t:SetTable}{h:Int}:(N6 h).perturb<2^64/\s7 (N6 h)/\(N6 h).dummy=ae:=by delta SetTable.probeStart;rw[cq ?_ rfl];{delta Io;lia};{show kF dg _-_<=9;delta kF;rw[Zi]}
def iL(O:PV):Prop:=O.toList.Pairwise (· < ·)
theorem afQ{O:PV}(h:iL O){a b:Nat}(u:a<b){x y:Nat}(S:nX a)(b6:K O b y):x<y:=by rw[<-pB]at S b6;rw[eC F a a4v,eC i5 b a4v,dd F S,dd i5 b6];have:=Ni h a b F i5 u;rw[bY (c_ S) (c_ b6)];exact this
theorem afR{O:PV}(h:iL O)(j:Nat):∀(r lo hi:Nat),j (hi-lo<=r) (lo<=hi) (hi<=ir) (z7 lo) (z8 hi) ((aMS<=ir)/\z7 aMS/\z8 aMS)|0,lo,hi,f,l,s,a,b=>by{have:hi=lo:=gC (cg (aS hi lo) f) (cV l);rw[gp];simp only[aD7];exact v s a b}|r+1,lo,hi,f,l,s,a,b=>by simp only[aD7];by_cases q:lo<hi;{rw[aK q];have g8:uT<ir:=by{lia-abstractProof};have mg:=lM g8;rw[cr d (O.getD uT j) O[uT]];by_cases c:O.getD uT j<j;{rw[aK c];rw[d]at c;refine afR h j r _ _ Bl fq s bam b;rw[cZ (qT (HJ R)),cc (afQ h z S mg) (ju bG bG)];simp_all};{rw[aO c];rw[d]at c;refine afR h j r _ _ Bl fq dW a bam;rw[cZ (qT R),cc (afQ h z mg S) (ez (fg (qw c) this))];simp_all}};grind-abstractProof
theorem LY{O:PV}(h:iL O)(j:Nat):tj O j<=ir/\z7 (tj O j)/\z8 (tj O j):=cG tj (afR h j ir 0 ir aT (x cT) aY (fun i x q=>ai) (fun i x q S=>ai))
theorem afS{t:SetTable}{k:Nat}(Y:yo)(R:iL lN){j i:Nat}:xm=Yl↔A lN j:=by have b:=LY R j;delta aD4 aD5;simp only[Y.G2];constructor;rw[EX];{rw[eF];have e:fA=i:=by{rw[fi fA i];{rw[eC l fA rh,f4 (lM l)];have e0:=b.2.2 _ _ aY g;have g0:=afQ R q g h;lia-abstractProof};rw[iA];grind-abstractProof};rw[e,h];simp}
theorem afT{t:SetTable}{k:Nat}(Y:yo)(R:iL lN){j:Nat}:Jg↔j∉zU:=by constructor;{intro h m;rw[ic m];have:=ae (afS Y R (j:=j) (i:=i)) (a4w (W0 ⟨hi,e⟩));simp_all};{rw[eF];cases c0:xm with|empty=>{rfl}|dummy=>{rw[dT c0 (afO Y j)]}|live i=>rw[dT (afN c0) h]}
theorem afU{I:Type}(O:fv I)(p:Nat)(x:I)(c2:p<=ir):pD (N7 O p x)=O.toList.take p++x::a18 p:=by delta N7;simp[a4h,a4g,a4f];exact DJ aT
theorem aWZ{t:SetTable}{k:Nat}(Y:yo)(R:iL lN){j:Nat}(b8:Jg):aGp=fA/\(Je).mask=dg/\(Je).dummies= #[]/\aHg=aLE/\iL aHg/\(Je).place.size=rh+1:=by revert Y R b8;revert t k j;refine aqa;rw[co t k j];intro Y R b8;rw[ca (LY R j),f5 (x (afT Y R) b8),ab d5 aHg aLE];have h8:=afU lN fA j b.1;rw[Q rfl rfl ?_ Pj];{delta SetTable.put;simp only[Y.G2];delta aD5;rfl};{delta iL;rw[d5,h8,qV,pe];have C:=R;unfold iL at C;rw[aa (C.sublist (aBP _ _)) ⟨qq,C.sublist (a4z _ _)⟩ (fun x S y b6=>?_)];{rw[ic S,a6 a4y,dE g (K lN (fA+i) x)];grind};{have o:x<j:=by{rw[ic S,a6 List.getElem_take];exact b.2.1 i x bz bz};rw[wT b6,de b6 b6,a_];{rw[ic b6,a6 a4y];have:=b.2.2 _ y (a4x fA i) bz;exact pT}}};{have:(aLE).toList.length=t.place.toList.length+1:=OM;trivial}
theorem axW(t:SetTable)(hashAt:eh)(h:Int)(nd:bdw):∀(r J:Nat)(p:Probe)(m:Met),i (p.dummy=ae) (bgU=aa m) (aJk) (∃(n j:Nat),aJg/\(aP f7 x (f7<n->ap hO f7 x->z i (zT x=Yl) (DQ i≠h)))/\((m= .empty j ae/\xm= .empty)\/(∃i q,m= .candidate j i q/\xm=Yl/\DQ i=h/\q.dummy=ae/\∃B,dJ t B q=aKi)))|r,0,p,m,_,_,⟨j,b8,_⟩=>a7_|0,J+1,p,m,_,g,_=>bB|r+1,J+1,p,m,b4,g,⟨j,b8,e⟩=>by simp only[aD3]at g;have c5:=axP t p J;have a:(zS p).dummy=ae:=by{delta aD2;(split<;>trivial)};cases c0:zT p.j with|empty=>{rw[c0]at g;simp at g;rw[b4]at g;rw[pk ai (dr g.symm c0)]}|dummy=>{simp_all}|live i=>rw[c0]at g;simp only at g;rw[c5]at b8;rw[wT b8];obtain⟨B,I,a3⟩:z B (j∈dJ t B (zS p)) (aHz=p.j::dJ t B (zS p)):=cu;split at g;{next c7=>rw[pk fq (.inr (a i (zS p) (bt (c_ g)) c0 ai a B cu))]};{next c7=>obtain⟨n,f,d1,U,c4⟩:=axW t DQ h nd r B (zS p) m a g (v j I e);rw[aP (n+1) f ai (fun f7 x q S=>?_)];{rw[a3]at S;cases f7 with|zero=>{rw[a4 S (v i c0 (ax c7))]}|succ f7=>exact U f7 x (Nat.lt_of_succ_lt_succ q) S};simp_all}
noncomputable def vE(mask k:Nat)(h:Int):ao:=dJ (rs cB) I8 (cj yr (kF cB yr-yr) yr (Io h))
theorem axX{t t':SetTable}(e:dg=W2):A1 (hO=dJ t' J p)|0,p=>rfl|J+1,p=>by simp only[dJ];have:Yf=Uu t' p:=by{delta Uu;rw[e]};rw[this,axX e J]
theorem aW0(t:SetTable)(k:Nat)(h:Int):dJ t I8 (N6 h)=vE dg k h:=f9 vE (axX (t:=t) (t':=rs dg) rfl)
def Ux(mask k:Nat)(taken:md)(h:Int)(s:Nat):Prop:=z n (ap (vE cB k h) n s) (aP m x (m<n->ap (vE cB k h) m x->DH x))
theorem Ux.mono{mask k:Nat}{A B:md}{h:Int}{s:Nat}(u:E x (A x) (B x))(J:AC A):AC B:=by rw[aJ n e J];exact v n e (fun m x a b=>u x (q m x a b))
theorem axY(mask k:Nat)(c3:anD)(g:PX):∀(r J i f:Nat),J<=r->let p:Il:=cj i (kF cB i-i) i f;let t:SetTable:=rs cB;(∃j∈hO,a_J)->∃n j,aJg/\a_J/\(aP m x (m<n->ap hO m x->aJ7))/\aD8 cB g r i f=aa j|r,0,i,f,_=>by{rw[bZ p t];obtain⟨j,b8,_⟩:=h;simp[dJ]at b8}|0,J+1,i,f,l=>ai|r+1,J+1,i,f,l=>by rw[bZ p t];have u:i<=kF cB i:=by{delta kF;rw[Zi]};rw[bN C uy (cf (kF cB i+1-i) (i+ ·)) (Nat.sub_add_comm u),ab N aHz (uy++aI6)];simp only[aD8];cases W:ch (kF cB i+1-i) (ci (sd (DS (i+k) xu)))with|some o=>{simp only;have:=List.find?_eq_some_iff_getElem.mp W;rw[ad po d1 a7 H this];have y:n=o:=by{rw[<-a7,WW]};subst y;have d1:=aC2▸d1;rw[j n (i+n) ?_ po (dw ban)];{rw[N,C,hC (ax d1),cA,wM d1];rfl};{have Z:=ju c4 d1;rw[N,C,hC (ax Z),cA,wM Z]at S;rw[pU];have:=H m c4;rw[gh]}}|none=>simp only;rw[a3j]at W;have s:aK uy aJ7:=by{rw[Bs];rw[C]at S;rw[a7 k c3 S];exact Wr (W k c3)};rw[aO j b8 h];rw[N,hD]at b8;have M:j∈aI6:=by{rcases b8 with b8|b8;{rw[a6 (s j b8),dV]};rw[l b8]};rw[ab b2 Yf (cj aaW (kF cB aaW-aaW) aaW bd9)];rw[b2]at M N;obtain⟨n,v,a,b,c,d⟩:=(axY cB k c3 g r J aaW bd9 ai (v j M e));rw[o (t uy+n) v ?_ b ban d];{rw[N,pB xK,hs (t uy+n-t uy) n];exact a};{by_cases q:m<t uy;{rw[N,hC q]at S;exact s x (bO S)};{rw[N,pB (a3U bG)]at S;exact c _ x (bn (aR (qw q)) c4) S}}
theorem aW1{t:SetTable}{k:Nat}(c3:anC){p:Probe}(c2:Ik<2^64){e:Nat}(a0:e<=dg):e∈amN:=by rw[bd3,b4 D (e<2^k) (fg a0 W3)];rw[et D]at a7;rw[G1,V7];rw[ak (13+n) ag,cd (Uw t c3 n _ (by rw[Uv];rw[eo]) (BS c3))];delta oL;rw[fK];rw[ak 0 aT,bgG]
theorem aW2(h:Int):Io h<2^64:=by delta Io;lia
def LZ(g:PX)(x:Nat):Prop:=aJ7
structure aW3(mask k:Nat)(c0:aQ)(g:PX)(n:Nat):Prop where
 size:N8=cB+1
 le:n<=lO
 val:aP j i (QZ->i<n)
 all:nR (∃j:Nat,QZ)
 inj:∀(j f i:Nat),QZ->K g f xv->j=f
 G3:∀(j i:Nat)h,QZ->A c0 h->Ux cB k (LZ g) h j
theorem aW4{mask k:Nat}{c0:aQ}{g:PX}{n:Nat}(I:g1 g n)(d1:n<=cB):z j (j<=cB) (aa g ae):=by rw[anF,bv ex (j<=cB) (∃i,QZ) (by rw[z j4 (j<N8) We (aD9 bG)];cases q:g[j]with|none=>{rw[dT (v j b8 ag) f6]}|some i=>simp[*])];let f:cE:=iY (eT (DS j ae) 0);rw[bv p (j<=cB) (aa g (aa (f j))) (by rw[wx (ex j b8)];have:f j=i:=eM f hi;rw[J this hi])];have nd:c8 (cf (cB+1) f):=by{rw[J3,h8 WY,rl e];simp at b3 U;have t:=p a amu;rw[e]at t;exact ne (I.inj a b _ t (p b amu))};have:=afP nd (m:=eL n) (aJ (by rw[a7 j b8 S];simp at b8;have:=W4 j _ (p j amu);rw[gh]));rw[uu];exact gx d1 this
theorem aW5{mask k:Nat}(c3:anD){c0:aQ}{g:PX}{n:Nat}(I:g1 g n)(d1:n<=cB){h:Int}(c7:K c0 n h):z j (aD8 cB g (Im cB) yr (Io h)=aa j) (g1 aIU (n+1)):=by revert c3 I d1 c7;revert mask k c0 g n h;refine aa3;rw[n mask k c0 g n h];intro c3 I d1 c7;rw[gy a7 (aW4 I d1)];obtain⟨m,j,c4,b8,H,W⟩:=(axY cB k c3 g (Im cB) I8 yr (Io h) (cG Im (cV Ip)) (v e (aW1 (t:=rs cB) c3 (aW2 h) a0) (by have h2:e<N8:=(Array.getElem?_eq_some_iff.mp a7).1;rw[lM h2]at a7;simp[Wd,h2,c_ a7])));rw[ak j W,dE j4 (j<N8),ca o (aa g ae)];have get:∀x,(aIU)[x]?=av (x=j) (aa n) g[x]?:=ab (by rw[Array.getElem?_setIfInBounds];rw[b1 x j];{rw[aK CX,aK e,aK j4]};{rw[c_ (hv e) e]});have d:E x (LZ g x) (LZ aIU x):=aJ (by delta LZ at S⊢;rw[iS j,a_,az]);rw[o (ar We) (bz) (fun x i S=>?_) aod (fun x y i S b6=>?_) (fun x i h' S a=>?_)];{rw[get]at S;split at S;rw[az,cc (W4 x i S) (wk bG)]};{rw[T i n,l ⟨j,cz get cP q⟩,S x S (I.all i (cx hi q)) x (ac get (fh (by rw[b2 o S];cases S)) S)]};{rw[get]at S b6;split at S;{next q=>split at b6;rw[l (ah1 bG E5)];{rw[pU];have:=W4 y _ b6;simp_all}};{split at b6;{cases b6;have:=W4 x _ S;simp_all};rw[l (I.inj x y i S b6)]}};{rw[get]at S;split at S;{next q=>rw[pU];rw[c7]at a;cases a;rw[aa m (t q c4) (fun f7 y Z b6=>d y (H f7 y Z b6))]};rw[l (bN (I.G3 x i h' S a) d)]}
theorem aW6{mask k:Nat}(c3:anD){c0:aQ}(a5:lO<=cB):z g (layClean cB aD_=aa g) (g1 g lO):=by have init:g1 (Array.replicate (cB+1) ae) 0:=by{rw[o aT cT (fun j i h=>?_) (j6 ai) (fun j f i h=>?_) (fun j i h q=>?_),cM,cM];grind-abstractProof};have b:∀(m pre:aQ)(g:PX),pre++m=c0->g1 g DT->z a (m.foldl (fun(B:bZ (fv (bZ Nat)×Nat))(h:Int)=>do{let(g,k)<-B;let j<-layClean.free mask g (turns mask) (bits h%(mask+1)) (bits h);pure (g.setIfInBounds j (some k),k+1)}) (aa (g,DT))=aa (a,lO)) (g1 a lO):=by{intro m;induction m with|nil=>{grind-abstractProof}|cons h J d6=>intro pre g e I;have c7:K c0 DT h:=by{rw[xN];simp};have d5:DT<=cB:=by{grind-abstractProof};rw[gF K (aW5 c3 I d5 c7),ae b9 ((pre++[h])++J) c0];have:=d6 (pre++[h]) (a4A j (aa DT)) b9 (ax K);simp_all};rw[eq g I (b c0 [] _ rfl init),cq g I];delta layClean;rw[List.foldl_toArray];grind-abstractProof
theorem aW7{f:dg (bZ fB)}(W:bex):∀{l:ao},JA->eS (g0 (Mm f)) (· < ·)|[],_=>bB|a::l,s=>cu
theorem axZ{t:SetTable}:nl (p.j+iZ<=dg) (aK hO (x<=dg))|0,p,_,x,h=>kp dJ|J+1,p,c2,x,h=>by simp only[dJ,hD]at h;rw[eU h];{rw[a4 oL,eo]};{refine axZ J _ ?_ x h;show FQ+(kF dg FQ-FQ)<=dg;have l:FQ<dg+1:=by{delta tr;exact V0 _ pZ};delta kF;rw[am4]}
theorem aW8{mask k:Nat}{h:Int}:aK (vE cB k h) (x<=cB):=by delta vE;refine axZ (t:=rs cB) _ _ ?_;show yr+(kF cB yr-yr)<=cB;have l:yr<cB+1:=V0 _ pZ;delta kF;rw[am4]
theorem aW9{mask k:Nat}(c3:anD){c0:aQ}(a5:lO<=cB)(finger moves:Nat)(led plain:Bool):∃t B,laid cB finger moves led plain aD_=aa (t,B)/\yo/\iL lN/\dg=cB/\DU=led/\Iq=plain/\rh=lO/\B.size=lO/\a4D (eL lO)/\∀(p s i:Nat)h,i (K lN p s) (K B p i) (A c0 h) (AC (ab (x∈zU))):=by rw[eq g I (aW6 c3 a5)];have d8:∀j,DS j ae=eT g[j]? ae:=iY aT;let f:dg (bZ fB):=iY (B (DS j ae) (j,·));let c:=i9 (cB+1) f;have W:bex:=fun j x e=>by{rw[kx f a4C,eo]};have mem:∀j i,(j,i)∈c↔QZ:=by{intro j i;simp only[c,a29];constructor;{rw[iL b U];have b4:=W b _ e;simp only at b4;rw[kx f a4C];obtain⟨n8,R,b9⟩:=e;grind-abstractProof};{rw[eF,e4 j4 (j<N8),ak j (by rw[We]at j4;simpa using j4)];grind-abstractProof}};have rise:eS (DE fN) (· < ·):=aW7 W a3d;have d:c8 (DE fN):=rise.imp (y8 (gE h));have k2:c.Nodup:=by{rw[VS]at d⊢;rw[Nm]at d;exact d.imp (ww (h (by rw[e])))};have l:eN (DE eY) (eL lO):=by{rw[HG (by rw[J3,h8 k2];rintro⟨a,i⟩⟨b,n8⟩⟨b3,U,ne⟩e;simp only at e;rw[cb];exact ne (iQ (I.inj a b i (x (mem a i) b3) (x (mem b i) U)))) WY]at⊢;intro i;rw[fK];constructor;{rintro⟨⟨j,n8⟩,h,rfl⟩;have:=W4 j n8 (x (mem j n8) h);rw[gh]};{rw[eF,iJ b8 (I.all i ai)];exact bp (j,i) (ae (mem j i) b8)}};rw[ch len gf lO l.length_eq,c (a cB (hD (DE fN)) #[] finger led moves plain) (hD (DE eY)) ?_ (aP c3 ai) (by delta iL;simpa using rise) rfl rfl (a2 ai ai eP)];{delta laid;rw[d0];rfl};{intro p s i h c2 e0 c7;simp only[a4B]at c2 e0;rw[cA]at c2 e0;cases e:c[p]? with|none=>{simp_all}|some x=>rw[e]at c2 e0;simp at c2 e0;rw[iJ n8 x];simp at c2 e0;subst c2;subst e0;obtain⟨n,a7,H⟩:=I.G3 _ _ h (x (mem _ _) (bO e)) c7;rw[aa n a7 (fun f7 x Z G=>?_)];have S:=H f7 x Z G;have o:x<N8:=by{rw[We];have:=aW8 x (bO G);exact aD9 bG};unfold LZ at S;simp only[fK];rw[Array.getD_eq_getD_getElem?,lM o]at S;cases v:g[x]with|none=>{simp_all}|some N=>exact bp (x,N) (ae (mem x N) ai)}
theorem ax0(n:Nat):aP r s (n<2^(s+r)->∃c1,a4E n r (2^s)=2^c1/\s<=c1/\n<2^c1/\(2^c1=2^s\/2^c1<=2*n))|0,s,h=>ax s aY bB gm|r+1,s,h=>by simp only[a4E];by_cases q:2^s<=n;{rw[aK q,show 2^s*2=2^(s+1)by rw[HY]];obtain⟨c1,e,l,g,b⟩:=ax0 n r (s+1) cu;grind-abstractProof};grind-abstractProof
theorem aW_{n:Nat}(h:n<2^60):∃s,sizeAbove n=2^s/\3<=s/\n<2^s/\(2^s=8\/2^s<=2*n):=by delta sizeAbove;have:=ax0 n 64 3 (fJ h ay);exact this
structure TI(t:SetTable)(k:Nat)(a7:cU):Prop where
 ok:yo
 rise:iL lN
 size:cm=rh
 room:rh*5<dg*3
 least:7<=dg
 G3:da (K lN p s) Yg dg (ab (x∈zU))
theorem aW'(finger moves:Nat)(led:Bool):TI (SetTable.fresh finger moves led) 3 #[]:=by rw[y (ii cT) (cG iL .nil) (gJ (0*5<7*3)) ⟨aCg 7,fun p s e h=>bB⟩]
theorem aXa{t:SetTable}{k:Nat}{a7:cU}(T:Kn){h:Int}{n j:Nat}(d1:zU h)(b8:Jg)(H:BK (i0 h x)){p:Nat}{e:akQ}(a0:Yg)(f:e.1=h):∃m s,m<n/\i0 h s/\zT s= .live p:=by revert T d1 b8 H a0 f;revert t k a7 h n j p e;refine Kr;generalize aG=t,aA=k,aF=a7,aE=h,aD=n,aB=j,aH=p,aI=e;intro T d1 b8 H a0 f;have c2:=lM (by rw[al (ip p cm),kV Ir q];simp_all);rw[bY D i7 (T.G3 p _ e c2 a0)];rw[f]at D i7;have sl:=ae (afS zV N9) c2;rw[j m _ ?_ D sl,fi m n,iA,az,cc (i7 n j q d1) (cz this (x (afT zV N9) b8))]
theorem aXb{t:SetTable}{k:Nat}{a7:cU}(T:Kn){h:Int}{v:Value}{n j:Nat}(d1:zU h)(b8:Jg)(H:BK (i0 h x)):let t':=Je;let D:=a9T;W2=dg/\axS t' k/\iL t'.place/\aDH=a4H/\w5 (h,v)/\a4H=rh+1/\(da (K t'.place p s) (K D p e) W2 (ab (x∈aD'))):=by intro t' D;have P:=aWZ zV N9 b8;rw[ca (LY N9 j)];have room:=T.room;have b4:D.toList=ajD fA++a9Z:=by{show pD a9T=_;rw[P.1];exact afU a7 _ _ (t Ir b.1)};have b9:aD'=a4F fA++j::t.place.toList.drop fA:=by{rw[J (aS P.2) (afU _ _ _ b.1)]};have a:E x (x∈zU) (x∈aD'):=aJ (by rw[b9];rw[<-DA fA zU]at S;grind-abstractProof);have e8:aDH=cm+1:=by{have:D.toList.length=a7.toList.length+1:=by{rw[b4,ck,ic,<-aDV,<-ck,DA]};rw[gh]};rw[j P.2.1 (v (t (a0 W2 dg P.2.1) T.ok.mask) (aS P) cu) (cp P) (by rw[e8,Ir];grind-abstractProof) (v ?_ (a2 P.2) (fun p s e c2 a0=>?_))];{rw[b4];have e9:(ajD fA++a9Z).Perm ((h,v)::(ajD fA++a4G fA)):=aCM;rw[DA]at e9;exact e9.trans (bt (List.perm_append_singleton _ _))};{rw[a0 W2 dg P.2.1];rw[<-pB]at c2 a0;rw[b9]at c2;rw[b4]at a0;rw[ae m9 (t (a4F fA)) fA];have c:t (ajD fA)=fA:=by{simp;have:=Ir;simp[*]};rw[fi p fA];{rw[hC ag,sX q,pB]at c2 a0;exact GM p};{rw[ph ag,m9,q,zE]at c2;rw[ph ag,c,q,zE]at a0;simp at c2 a0;subst c2;subst a0;rw[aa n d1 (fun m x c4 S=>a x (qM (fun f6=>H m x c4 S (ae (afT zV N9) f6))))]};{obtain⟨u,rfl⟩:∃u,p=fA+(u+1):=⟨p-fA-1,bj (Mr (VR q)) (Nat.add_sub_cancel' (ez q))⟩;rw[p2 m9 c2,p2 c a0];simp at c2 a0;exact GM _}}
theorem ax1{I d:Type}{f:aHy}{g:Fq}:∀{l:ba},bk l (f x=aa (g x))->Mm f=kz g|[],_=>rfl|x::l,h=>cz (a0Z (h x bK)) da (ax1 aJb)
theorem aXc{t:SetTable}{a7:cU}(c6:0<cm)(n1:cm<=50000):∃d8 B f7,t.relaid (a7.map fN) (ajE cm)=aa (d8,B)/\(QM).size=cm/\TI d8 f7 QM/\(QM).toList.Perm lP/\d8.led=DU/\d8.plain=Iq/\SetTable.sizeAbove (ajE cm)<=8*cm:=by revert c6 n1;revert t a7;refine Kq;rw[bW t a7];intro c6 n1;have b:ajE cm=cm*4:=by{delta ajE;rw[ka]};obtain⟨s,e,l3,c,M⟩:=aW_ (n:=cm*4) (fg (Nat.mul_le_mul_right 4 n1) ay);have a:8<=2^s:=by{have:cf 2^3<=2^s:=Nat.pow_le_pow_right ay l3;exact this};have c3:(2^s-1)+1=2^s:=Mr (cp ay a);let c0:=Mo fN;have a5:lO<=2^s-1:=by{simp[c0];exact cg c Ip};obtain⟨d8,B,a3,Y,R,e1,ld,pn,c5,os,l,G3⟩:=aW9 c3 a5 t.finger (t.movedTo (2^s-1)) DU Iq;rw[bL d aD_ (a7.map fN)];let g:dg akQ:=dK (eT a7[i]? (0,CL));rw[dy c4 (∀i∈W5,A a7 (g i)) bz,R k (QM).toList (B.toList.map g) Array.toList_filterMap (ax1 c4)];have e8:(QM).size=cm:=by{have:(QM).toList.length=cm:=bz;trivial};rw[b d8 B s ?_ e8 (a Y R bz ?_ (au ?_)) ?_ ld (au pn)];{delta SetTable.relaid;simp_all};rw[dY,l (hp a Ip e1.g)];{intro p q x c2 S;rw[e1];have d5:p<B.size:=by{grind};have xe:x=g B[p]:=by{rw[<-pB,k,cA,pB,(lM d5)]at S;simp_all};have c7:K c0 B[p] x.1:=by{simp only[c0,cA];rw[pB,(c4 B[p] aT),xe];rfl};grind};{rw[k];have e9:=kz g;have b9:cf lO g=lP:=by{refine NI (fun i=>?_);rw[cA];rw[cZ (ip i cm)];{rw[dd (hF c0 z)];simp[g,z]};{rw[zI (hF c0 z),zI eP];rfl}};rw[b9]at e9;exact e9};{rw[b,e];lia}
theorem aXd{t:SetTable}(h:t.tooFull=ah)(d:a9o):rh*5<dg*3:=by delta SetTable.tooFull aEa at h;simp_all
noncomputable def hashOf(a7:cU)(i:Nat):Int:=eT (a7[i]?.map fN) 0
section z
variable{prog:Program}{w:World}{K:Type} [wm K]{d:Z2}{A:Around}{E:aU}{s:Shared}
theorem L0{t:SetTable}{k:Nat}{a7:cU}(T:Kn):t.fits cm=ab:=by delta a4I aEa;rw[T.ok.G2];have:=T.ok.fill;simp[Ir];exact this
theorem aXe{t:SetTable}{k:Nat}{a7:cU}(T:Kn):t.gaveWay=ah:=by delta SetTable.gaveWay;rw[bJ T.ok.mask,cd T.least];cases k with|zero=>{simp at m;simp_all}|succ k=>rw[HY]at m;have:dg%2=1:=fq;rw[tX]
def Holds(d:Z2)(h:Heap)(a7:cU):Prop:=bk p e (Yg->∃O b,e.2=cW/\zW h O b/\e.1=a4J O)
theorem aXf{F:K}{xa:Addr}(S:aKt)(y:aM8):∀(l:aM){Q:nJ},V v l (Ii cW)->Yb->bl (a4L YM l):=by intro l Q a5 h;delta a4L;rw[mc,mm (Ii (dq b)) a5];{rw[vq g];obtain⟨O,b,rfl,U⟩:=g v fx;have h8:=m6 (g u (ck hu));rw[T xa b];{rw[fa,i8 aCx aCb];exact cj (ii h8)};{rw[aC c4 (xa==b) ah (bj bG)];simp only[c4,aCa];have e:a4K (dq xa)=ah:=rfl;simp only[e,ag6,Dg,iU];rw[C (d.quiet S ?_),rW,C (d.quiet U ?_),rW,C (y S ?_),uE,C (y U ?_),uE];exact cj (ii h8)}};rw[aqc]
universe z
section z
variable{prog:Program}{w:World}{K:Type} [wm K]{d:Z2}{A:Around}{E:aU}{s:Shared}
theorem ax2{a:Addr}{o:Obj}{a7:cU}{e1:Nat}{t:SetTable}{k:Nat}(d0:gO a)(hd:gD=RG)(T:Kn)(hE:Iu d bh a7){F:K}{xa:Addr}(S:aKt)(room:d.room A)(y:aM8){Q:dF SetFound}(L:aP n j (c (zU kL) Jg (BK (i0 kL x)) (bfP) (Q (.free j ah) s)))(a9:K3 (Q (.there ae) s)):∀(r J c:Nat)(a6:bZ Il)(p:Probe),b (a6.getD (N6 kL)) p (p.dummy=ae) (hO=dg (vE dg k kL) c) (bd hO (10*Im dg)) (i (aJk) (z9 hO<r) (IN c) (bl (setSearchFrom a YM kL ab r a6)))|0,J,c,a6,p,c0,b4,c2,a5,a0,b0,U=>ai|r+1,J,c,a6,p,c0,b4,c2,a5,a0,b0,U=>by have nd:=afO zV;rw[aK1];dsimp only;rw[aXe T,OD,c0];obtain⟨b1,b5⟩:=axQ t (W6 a7) kL nd (10*Im dg) J p a5 a0;generalize e0:t.probe _ kL p=q;rw[br eq (q=aa b1) e0 b5];subst eq;dsimp only;obtain⟨n,j,d1,b6,c4⟩:=axW t (W6 a7) kL nd _ J p b1 b4 b5 a0;rw[c2,DB]at d1;have b8:bk i e (A a7 e->W6 a7 i=e.1):=fun i e h=>by{unfold hashOf;rw[h];rfl};have a8:IN (c+n):=by{intro m x Z G;rw[al (ip m c),l (U m x q G)];{obtain⟨i,hi,R⟩:=b6 (m-c) x (bn (aR q) Z) (by rw[c2,DB,mr (c+(m-c)) m];exact G);rw[aa i hi (fun e b V f7 c3=>?_),Z b2 g Y c7 (hE i e V)];rw[f7]at g;rw[ub];have:=d.inj c3 Y;rw[gp];rw[b8 i e V,c7]at R;exact R rfl}};rcases c4 with⟨rfl,b7⟩|⟨i,q,rfl,l,b9,k4,B,I⟩;{dsimp only;rw[od];refine L (c+n) j d1 b7 (fun m x Z G=>?_) (fun u e b V f7 c3=>?_);{rw[bcv];rw[hi];rw[tP];cases z};{rw[Z b2 g Y c7 (hE u e V)];rw[f7]at g;rw[ub];have:=d.inj c3 Y;rw[gp];obtain⟨m,x,Z,G,c6⟩:=aXa T d1 b7 (fun m x Z G=>by rw[bcv];rw[hi];rw[tP];cases z) V c7;obtain⟨i,hi,c5⟩:=a8 m x Z G;rw[c6]at hi;rw[a4 hi (c5 e b V f7 c3)]}};{have H:=x (afS zV N9) l;rw[cV X (i<cm) Ir rh];have P:=lM X;rw[Z b f7 c3 c7 (hE i _ P)];dsimp only;rw[bC led DU];(case' pos=>rw[led,a4M,OD]);(case' neg=>rw[Wr led,ajF,cP];rw[C (aXf S y _ (lB (by rw[a7 e V d3,ca D (e∈lP),bY Z c8 (ie D)];obtain⟨b3,b2,g,Y,_⟩:=hE m e (by rw[<-pB,dd Z,c8]);exact d b3 b2 g Y)) ?_),uE]);all_goals rw[P];dsimp only;rw[f7];rw[C (vZ (d.eqBool room c3 S ?_)),C (iU (L0 T) ?_)];dsimp only;rw[N c1 O F];{subst c1;rw[aK (g5 (ab&&ar O O) (dI rfl))];exact cj (a9 (c i _ b P f7 c3))};{rw[ed c1,ag9,OD];have sm:t.sameMemory t.moves dg=aa ab:=by{unfold SetTable.sameMemory;simp};rw[sm];dsimp only;rw[cP,l];dsimp only;rw[P];dsimp only;rw[f7];rw[C (wpAny_isSame_ref_self ?_),Qg];rw[cP];refine ax2 d0 hd T hE S room y L a9 r B (c+n+1) (aa q) q rfl k4 ?_ ?_ ?_ ?_ ?_;{rw[I,c2,H0];rw[dZ]};{rw[I];simp;exact cV a5};{rw[I];rw[bH M a3 a0,bY Z D (ie M)];have W:n<m:=by{rw[ac m n z z z];{obtain⟨N,p4,_⟩:=b6 m f z (bj (dd Z) D);rw[p4]at a3;cases a3};{rw[rC];have:ap hO m j:=ag;rw[bY (dd Z) D,nu];rw[l]at a3;cases a3};rw[l z]};rw[cq f a3];rw[a3p];exact⟨m-(n+1),by rw[DB,m (n+1+(m-(n+1))) m m (n+1) W m (n+1),dd Z,D]⟩};{rw[cm j2 aJg,aO d6 n (t hO) (bx bG)];have e8:hO=an hO n++j::aKi:=by{have C:(hO)[n]=j:=by{rw[dd d6 j2];exact c_ j2};rw[<-C];simp};have lt:z9 aKi<z9 hO:=by{conv=>{rhs;rw[e8]};delta WZ;rw[DR,aia (by simp only[l,b9];simp)];simp;exact tF};rw[J I (cg lt b0)]};{intro m x Z G;rw[cZ (qT (HJ Z)),l (a8 m x z G)];{rw[b2 d1 G];cases G;rw[aa i l (fun e e2 V a4 f5=>?_)];rw[P]at V;cases V;rw[f7]at a4;cases a4;exact c1 (d.inj c3 f5)}}}}
universe z
section z
variable{prog:Program}{w:World}{K:Type} [wm K]{d:Z2}{A:Around}{E:aU}{s:Shared}
def Uy(d:Z2)(h:Heap)(a:Addr)(a7:cU):Prop:=∃o e1 t k,pS/\o.ExactSet/\gD=RG/\Kn/\aIH/\Iq=ab/\(DU=ab\/Pe)
theorem Holds.perm{h:Heap}{a7 D:cU}(H:aIH)(p:a4N lP):Iu d h D:=fun i e a0=>by rw[a_3,gF C (ie m)];exact H j e (a4w (W0 ⟨b8,C⟩))
theorem Holds.push{h:Heap}{a7 D:cU}(H:aIH){F:K}{xa:Addr}(S:zW h F xa)(p:w5 api):Iu d h D:=fun i e a0=>by rw[a_3,iP m];{have⟨j,b8,C⟩:=ie m;exact H j e bz};{rw[fU]}
theorem ax3{h:Heap}{a:Addr}{o:Obj}{a7:cU}{e1:Nat}{t:SetTable}(d0:pS)(hd:gD=RG)(D:cU)(t':SetTable):dk (h.update a (N_ D t')) a=aa {o with data:= .set D (e1+1) t'}:=l7 (C_ (N_ D t') d0 (de bcM)) bcM
theorem aXg{a:Addr}{a7:cU}{F:K}{xa:Addr}{Q:nJ}(b2:Uy d bh a a7)(S:aKt)(room:d.room A)(z:cm<9000)(y:aM8)(X:∀{Q:nJ},Y_->bl (aEc 8 YM))(keep:∀{h h':Heap}{O:K}{b:Addr}{o:Obj}{a7:cU}{e1:Nat}{t:SetTable},c (zW h O b) pS (gD=RG) (Ho a h h') (zW h' O b))(b5:K3 Yb)(I:(bfP)->∀(h':Heap)(D:cU),i (pi a) (Uy d h' a D) (w5 api) (Q ab tJ)):bl (a4R a YM kL):=by rw[Lj b2];delta a4R;refine EJ;unfold setAddHashedIn;rw[aK1];dsimp only;have a5:byScan YM a7=ah:=rfl;rw[a5];rw[uE];have f:=aWY (t:=t) (h:=kL);have C:=aW0 t k kL;delta setSearch;rw[mc];refine ax2 d0 hd T hE S room y ?_ ?_ 100000 I8 0 ae (N6 kL) rfl f.2.2 (de C) (aWS zV f.2.1) (aWR zV f.1) ?_ (fun m x c4=>ai);{intro n j d1 b8 H f6;dsimp only;rw[aK1];dsimp only;have P:=aXb T (v:=dq xa) d1 b8 H;simp only at P;have V:(Je).plain=ab:=d5.1;have d3:(Je).led=ab\/Pe:=d5.2;obtain⟨g9,l,Y,J,r,b7,Z⟩:=P;rw[ch N (N7 a7 aGp api).size (cm+1) r.length_eq];generalize c0:aEb j=L at*;rw[kv e9 L];dsimp only at*;rw[V];rw[cP];rw[C (X ?_)];rw[cP];generalize c1:N7 a7 e9 api=c at*;rw[z f3 (a1 W7) wg (cg N.l z),C (a4P d0 hd ?_ f3),f4 (ax3 d0 hd c W)];have v:=a4O bh a (N_ c W);have j0:zW YA F xa:=er S d0 hd v;have R:Iu d YA c:=by{rw[a4 (Iu d YA a7) (hE i e a0) d0 hd v];exact b1.push j0 r};cases a4:W.tooFull with|false=>{simp only[ajF,ag9,Dg,iU];rw[od];refine I f6 _ c v (a _ (e1+1) W k g hex rfl (c l Y J (aXd a4 l.G2) (t g9 T.least) Z) (v R V d3)) r}|true=>rw[i8 ajF Bool.and_self,mc];delta setRelay;have a8:W.fits W7=ab:=by{delta a4I aEa;rw[l.G2,J];have:=l.fill;simp;exact this};rw[C (a4Q g rfl a8 ?_)];dsimp only;rw[cm c6 (0<W7)];obtain⟨d8,B,f7,a6,G,a9,U,b0,b3,M⟩:=aXc (t:=W) c6 (bn N.l z);rw[aC a3 (cm+1) W7 E5];rw[a3];rw[aO (by rw[wg];lia-abstractProof)];rw[a6];rw[mc];change am (do{let D:=B.filterMap (c[·]?);if D.size !=c.size then{unsupported "internal:set-table-lost-an-element"};pure (D,d8)}) _ _ _;dsimp only;have f5:((Yt).size !=W7)=ah:=by{rw[G];simp};rw[f5];rw[uE,od];dsimp only;refine a4P g rfl ?_ (t G f3);rw[od];have u:=ax3 g rfl Yt d8;rw[cO (a4O YA a (N_ Yt d8))];have b6:Id Yt:=by{rw[a4 (Id c) (R i e a0) g rfl q];exact b1.perm U};exact I f6 _ _ (v.trans q) (a _ _ d8 f7 u hex rfl a9 (ap b6 (t b3 V) b0 d3)) (ajG r)};{rw[eF];dsimp only;exact cj (b5 h)};{have:=aWX zV f.1 f.2.1 (W6 a7) kL;have:=Ir;rw[eo]}
universe z
section z
variable{prog:Program}{w:World}{A:Around}{E:aU}{s:Shared}
noncomputable abbrev tupK(prog:Program)(w:World):aEd cO w aQ:=Va (aBa cO w)
theorem items_int{K:aQ}{vs:aM}(q:aCd (aBa cO w) K vs)(v:Value)(h:v∈vs):a7O:=by induction q with|nil=>{exact i0 (oW h)}|cons c3 J i=>rw[jH (ib h) rfl];{rw[cl u (aA' c3)];exact av u e};rw[l (i h)]
theorem ax4{h h':Heap}{K:aQ}{b:Addr}(x:n1 h)(keep:E o mf hb):n1 h':=by obtain⟨o,f,n,d0,c,d,i⟩:=x;exact a o f n (er o d0) c d i
theorem ax5{h h':Heap}{K:aQ}{a b:Addr}{o:Obj}{a7:cU}{e1:Nat}{t:SetTable}(x:n1 h)(d0:pS)(hd:gD=RG)(sb:Ho a h h'):n1 h':=by obtain⟨N,f,n,U,c,d,i⟩:=x;exact a N f n (t (sb.2 b (an ai)) U) c d i
theorem aXh{K:aQ}{b:Addr}{Q:nJ}(x:n1 bh)(h:Yb):a7r:=by have⟨o,f,n,d0,c,d,hi⟩:=x;unfold ofAClassStatement;rw[w8 (a4T x)];dsimp only;rw[aK ay];rw[Qg,rW,baA,mc,Jy,bbf];{rw[vq all,bc4,ab f5 (a4S 7 (W8 i u)) (eV ah)];rw[f5];rw[Qg,uE];exact baf};rw[aqc]
theorem aXi{K:aQ}{b:Addr}{Q:nJ}(x:n1 bh)(h:Y_):bl (aEc 8 cW):=by have⟨o,f,n,d0,c,d,hi⟩:=x;rw[C (wq (a4T x) aEe ?_),baA,mc,Jy,bbf];{rw[vq all,bc4,ab f5 (aEc 7 (W8 i u)) (eV ab)];rw[f5];rw[Qg,rW];exact baf};rw[aqc]
universe z
theorem aXj{I d:Type}{R:qr}{a B:ba}(p:B.Perm a):∀{b:nO},dE R a b->z b2 (dE R B b2) (b2.Perm b):=by induction p with|nil=>{rw[du b];exact v b h amn}|cons x _ d6=>{rw[du b];cases h with|cons J t=>rw[aJ b2 h' (d6 t)];exact v (_::b2) (.cons J h') (q.cons _)}|swap x y l=>{rw[du b];cases h with|cons J t=>cases t with|cons r2 d8=>exact v (_::_::_) (ef r2 J d8) (.swap _ _ _)}|trans _ _ c i=>rw[du b,ci h2 a3 (i h),dg e2 q2 (c a3)];exact v e2 a9 (q2.trans d2)
theorem ax6{I d:Type}{R:qr}:∀{l:ba}{m:nO}{i:Nat}{a:I},f2 R->Zk->z b aoh (R a b)|_,_,_,_,.nil,h=>bB|_,_,0,_,.cons J _,h=>ai|_,_,i+1,a,.cons _ t,h=>by rw[bF e f (ax6 (i:=i) t kH)];exact v b bB f
theorem ax7{I d:Type}{R:qr}:∀{l:ba}{m:nO}{i:Nat}{b:d},f2 R->aoh->z a Zk (R a b)|_,_,_,_,.nil,h=>bB|_,_,0,_,.cons J _,h=>ai|_,_,i+1,b,.cons _ t,h=>by rw[ak e f (ax7 (i:=i) t kH)];exact v a bB f
theorem aXk{I d:Type}{R:qr}{a:I}{b:d}(J:R a b){l:ba}{m:nO}(h:f2 R):dE R (l++[a]) (m++[b]):=by induction h with|nil=>{exact hy J}|cons q t i=>rw[cB q i]
section z
variable{prog:Program}{w:World}{A:Around}
def afV(prog:Program)(w:World)(h:Heap)(a7:cU)(l:fC):Prop:=hi h lP l
structure Got(prog:Program)(w:World)(h:Heap)(r:Addr)(K:fC)(a7:cU)(l:fC):Prop where
 set:AP h
 keys:B6 h
 nd:zA
 mem:gW l K
theorem Uy.qy{h h':Heap}{r:Addr}{a7:cU}(H:AP h)(keep:bd a7W mf hb):AP h':=by revert H keep;revert prog w h h' r a7;refine aa3;rw[n prog w h h' r a7];intro H er;rw[Lj H,b o e1 t k (er r o gm d0) hex hd T ⟨fun p e a0=>?_,d5⟩,Z b b4 b9 e7 (hE p e a0)];exact a O b b4 (Fk (.inr (v e (bO (i:=p) ag) b4))) e7
theorem afV.qy{h h':Heap}{a7:cU}{l:fC}(H:B6 h)(keep:bd (wb lP) mf hb):B6 h':=by revert H keep;revert prog w h h' a7 l;refine aa3;rw[n prog w h h' a7 l];intro H er;delta afV at H⊢;generalize a7.toList=O at*;induction H with|nil=>{rw[kO]}|cons J t d6=>rw[bF b4 b9 J];exact .cons (v b b4 (Fk (av fx b4))) (d6 (FB (er b o (v e (ck a0) q))))
variable{R:Qj}{I:Addr}{a8 d:bg}{G:au (fv Vf) (fv Vf)}{n:Nat}{P:au Nat cS}{St:dF Nat}
theorem aXl(W:WalksS cO w kB I a8 d G n P St)(r:Addr)(g:r∉a8)(K:fC)(ad:dg ei)(E:aEg=n)(a5:j i v (P i v) (v= .ref (ad i)))(d1:Cq K)(hu:J1)(V:nR (ad i∉d)):∀(c i:Nat)(s:Shared)(a7:cU)(l:fC),b (n-i) c Qp (St i s) (Got cO w bh r (K.take i) a7 l) (i (ex lP (j<n) (ad j)) (bb7) (∀c1 D i1,i (Moved (r::d) G s c1) (Got cO w mG r K D i1) (ex D.toList (j<n) (ad j)) (eV .none c1)) (l8 "set.update.loop" (ec [uq,pK]))):=by revert W g E a5 d1 hu V;revert prog w A R I a8 d G n P St r K ad;refine@ml _ _ _ _ _ _ _ _ _ _ _ _ _ _ ?_;generalize qe=prog,qf=w,qg=A,qh=R,qi=I,qj=a8,qk=d,ql=G,qo=n,qp=P,qs=St,qt=r;refine Kq;rw[bW K ad];intro W g E a5 d1 hu V;have d4:=ah (g (W.sub _ q));have wide:fX d (r::d):=fun b q=>ck q;intro c;induction c with|zero=>{rw[biU];have f5:i=n:=by{exact mR (cV hi) (cg Pq b0.l)};subst f5;rw[l3 a4U,h6 aEi,C (ajJ s _ _ z (fun c1 c4=>?_)),bih,jF (hR c1 a7 l (aEj wide) (a2 a8l bcN ajH) a)];intro x;rw[W9 x,<-E,H_]}|succ c d6=>rw[biU,b4 X (i<n) (cg (aR hi) b0.g),l3 a4U,h6 aEi,C (aEh i s _ _ X z (fun v c1 C T c4=>?_))];have B:=a5 i v C;subst B;rw[bih];have H:=a8l;have Y:=bcN;have c9:∀{j:Nat}{O:aQ},aa K O->j<n:=fun{j O}h=>by{rw[al (ip j aEg),az,yZ (zI q)]};have a6:=t8 (kt (b9 j O h) (aEf _ o (V j (c9 h)) d0));obtain⟨F,c0⟩:∃F,A K F:=aW (dd ag);have S:=a6 i F c0;rw[C EJ];delta setAdd;refine vZ (bF ((hL).pyHash (A:=kB) bco S ?_));have c6:K.take (i+1)=K.take i++[F]:=by{rw[DV,c0];rfl};refine aXg (d:=ajI cO w) (s:={c1 with toks:=ahu+(hL).draws F}) H S bco (by have a3:=Mv hG.keys;rw[eq (d1 l ajH (aJ (qY (x (W9 x) S))))];simp at a3;simp[*]) (fun x h=>aXh x h) (da (aXi S h)) (fun x d0 hd sb=>ax5 x d0 hd sb) (fun b5=>?_) (fun f6 h' D sb J b3=>?_);{rw[c a7 l (gC (hp (aC n (i+1) X) Pq b0.l) (hp b0.g (aC n i hi) (aS n (i+1)))) mG (tj e) H Y ajH a a6 (jE e)];rw[W9 x,c6];simp only[hD,Oa];constructor;rw[l .inl];{rintro(q|rfl);rw[l q];{obtain⟨p,e,b,a0,f7,U⟩:=b5;rw[IM (t pB a0)];rw[f7]at a4;cases a4;have:=(hL).inj U c5;rw[gp];exact x (W9 _) (bO c3)}}};{have c7:bd (wb bag) Pg hb:=fun b o U d0=>t (sb.2 b (by rw[fT,fa,biz,aJ e a0 U];have L:∃O,(hL).is mG O b:=by{rcases Nl a0 with a0|a0;{rw[ic Q (ie a0),IM a_6];rw[q]at a4;cases a4;exact⟨O,c5⟩};rw[dY]};obtain⟨O,N,f,m,Z,_,c8,_⟩:=L;rw[u]at Z;cases Z;rw[hd]at c8;cases c8)) d0;have d2:hi h' bag (l++[F]):=by{refine aXk (aP (ad i) (kt S (c7 _ o (bm (qO _ (List.mem_singleton.mpr rfl))) d0))) (Y.qy (FB (c7 b o (v e (vU _ a0) q))))};obtain⟨i1,d3,d5⟩:=aXj b3 d2;have nx:F∉l:=ah (by rw[ic Q (ie q)];obtain⟨e,a0,b,f7,U⟩:=ax7 Y (i:=p) a_6;exact f6 p e b (bl pB a0) f7 U);rw[c D i1 bM h' (fun b U o e=>?_) J d3 (by refine d5.nodup_iff.mpr ?_;rw[ah3];exact v ajH aT (fun x d7 y b6 e=>ai)) (f9 (by rw[al (Nl (b3.mem_iff.mp a0)),l (a e q),zA (bp i X)])) (t8 (by rw[biz];exact ax5 (a6 j O h) u hd sb)) a9L,Z (sb.2 b (fun q:b=r=>g (bl q U))) e];{rw[d5.mem_iff,c6,hD,hD,W9 x]};rw[Z (sb.2 b (fun q:b=r=>U (t q fx))) e]}
universe z
universe GM
namespace PySem
open PySem.SetTable _root_.GM
section z
variable{prog:Program}{w:World}{A:Around}{E:aU}{s:Shared}
noncomputable abbrev ax8(led:Bool):Obj:={cls:=Jx,dict:=ae,data:= .set #[] 0 (.fresh 0 0 led)}
theorem aXm(x:Value){R:aU}(k:R gn (fY (mJ (ax8 (! xo))))):Hs XT A (.call (.builtin "set.__new__") (ec [Jx,x])) (wants R E) s:=by revert k;revert prog w A E s x R;refine biZ;generalize kT=prog,kU=w,kX=A,kY=E,kZ=s,la=x,lj=R;intro k;refine a4W (show ff _ kB (do{checkBuiltinCall "set.__new__" ⟨[.type "set",x],[]⟩;again (.builtin "set.__new__" ⟨[.type "set",x],[]⟩)}) _ _ s from ?_);have own:=sub_set_self;rw[C (W_ (F.newCall_set_1 x) (mp a4V (Ob F.entry_set_new (by rw[h6 a4V];delta Builtin.«set.__new__» Builtin.Frozenset.newClass;obtain⟨b1,e5,f,u,j⟩:=s;dsimp only;rw[bT,bT];wp_delta;rw[dN,hh];{rfl};rw[bT,EG,hh];{rfl};rw[dN,bT];wp_delta;rw[bT];wp_delta;rw[bT];refine aEk (cj (by dsimp only;simp only[newObj];exact bF (a2q (mX k))))))))]
theorem aXn{lst:Addr}{ar:dX}{K:fC}{ad:dg ei}{Q:aU}(n:oj)(c:De lst ar)(f:bk i v (A ar v->v= .ref (ad i)))(same:aEg=MG)(keys:bb7)(few:Cq K)(hu:kA 8)(fin:∀(h':Heap)(D:Nat)a7 N,i bgu a9W a9g (Q gn nB)):bl (Iv Jx [Yj]):=by revert n c f same keys few hu fin;revert prog w A E s lst ar K ad Q;refine@aqG _ _ _ _ _ _ _ _ _ _ _ _ ?_;generalize Y3=prog,aV cQ=w,bW cQ=A,cB cQ=E,bY cQ=s,ct cQ=lst,dv cQ=ar,d7 cQ=K,fr cQ=ad,ZT=Q;intro n c f same Hy few hu fin;rw[bl a8 b0 F.called_set.mro];have b1:=F.called_set.made;have b2:=F.called_set.sub;refine aBJ (a4W ?_);rw[gf (callAny Jx _),jF ⟨Code.quiet_builtin _ cC,Ob F.entry_type_call ?_⟩];rw[Around.under_plain (weight_type_call_type "set" [Yj] []) rfl];have b3:=F.called_set.notType;have b4:=F.called_set.canCreate;have b7:=F.typeCall_set_1 Yj;(wp_delta;rw[hh];{rfl};rw[hh];{rfl};rw[bT,EG,bT,EG,hh];{rfl};rw[bT,EG,bT,dN,bT,aHs,hm (a4X ?_)]);refine MS (aXm Yj (E:=E) (R:=fun obj a4=>∃led:Bool,led=(! xo)/\obj=gn/\a4=fY AJ) (as rfl rfl rfl)) (fun J a4 a6=>?_);cases J with|error e=>{exact a6}|ok fl=>cases fl with|ret obj=>{obtain⟨led,b9,rfl,rfl⟩:=a6;rw[cm dl (led=ab\/Pe),ad atS (dk AJ aO) akU gK];have G:Shared.TypeIs (fY AJ) gn "set":=bm atS;have c0:=F.called_set.init.lookup;rw[g7 (F.called_set.init.bind gn)];(rw[bT,hm (PySem.wpAny_isInstance kH kH ?_),hh];{rfl};rw[bT,aHs];wp_delta;rw[bT,hm (PySem.wpAny_specialOf kH kH ?_),aHs,bT,EG,bT,hm (a4X ?_)]);refine MS (codeAny_call_builtin (R:=wants (fun J b5=>J= .none/\∃h' D a7 N,b5=nB/\bgu/\a9W/\a9g) E) F.called_set.init.plain F.entry_set_init (check_set_init_1 G ?_)) (fun r2 b5 g=>?_);{have c2:=c;obtain⟨d8,t,l,d6,z⟩:=c;obtain⟨c5,H,c6,I⟩:=d8;simp only at l z;subst l;rw[rC,ad L (dk AJ lst) (au Ak H ar d6 I) (bU t)];have c7:=F.sub_list_set;have c9:=F.sub_list_frozenset;rw[cd d1 (YO==Mu "dict") ah];have B:(AJ).IsList lst ar:=f _ L d6 rfl;delta Builtin.«set.__init__» noKeywords Builtin.Frozenset.updateFrom;generalize M:pyIter=PI;rw[bT,eA ahi];{rfl};rw[dN];wp_delta;rw[bT];wp_delta;rw[bT];wp_delta;rw[bT,hm (PySem.wpAny_typeOf kH ?_),hh];{rfl};rw[dN];wp_delta;wp_delta;rw[dN,bT];wp_delta;rw[hh];{rfl};rw[hh];{rfl};rw[hh];{rfl};rw[dN,bT];wp_delta;rw[dN,bT];wp_delta;rw[bT];wp_delta;rw[bT,eA aEo,As,hh];{rfl};rw[dN,dN,hh];{rfl};wp_delta;rw[bT,bT];wp_delta;wp_delta;rw[bT];wp_delta;rw[bT];wp_delta;rw[bT,eA ajK,As,dN,EG];wp_delta;wp_delta;rw[bT];wp_delta;rw[bT,eA ajK,As,dN,EG,hh];{rfl};rw[bT];wp_delta;rw[bT,eA ajK,As,dN,hh];{rfl};rw[bT];subst M;refine aBq B ?_;rw[C (aEn ?_)];have P:lst<aO:=fw t;have R:A.in1.in1.in1.handled=ae:=by{trivial};rw[z S (lst≠f3 AJ) lD (gE (wk P))];have e3:aO∉[f3 AJ,lst]:=by{simp at*;lia};have T:bl O K O (ad j<aO):=t8 (by obtain⟨o,_,_,d0,_⟩:=Hy j O h;exact P1);rw[bv V (j<MG) (∃O,aa K O) (aW (dd (bV b8 same.g)))];have C:x2 bdY:=db (bU xp);refine aXl (aBY R _ lst S ar).toS aO e3 K ad same (fun i v d3=>f i v d3) few ?hu (j6 ?hw) MG 0 _ #[] [] bM cT ⟨Px,(B.push _)⟩ ?hG (f9 (by cases a0)) (t8 (kt (Hy j O h) (C _ o d0))) ?hR;(case hu=>show _<gF;simp only[Around.in1];exact cV hu);(case hw=>obtain⟨O,c3⟩:=V i hi;have:=T i O c3;rw[fT];simp only[Oa]at q;rw[bY q lD];exact iO _ (ju jW this));(case hG=>rw[ad b6 (dk bdY aO) akU (bU atS)];exact d (a akU 0 _ 3 b6 tK rfl (aW' 0 0 led) (aP (fun p e a0=>by simp at a0) dl)) .nil aT (ab bI));case hR=>intro c8 a7 N c4 k a;obtain⟨e2,a5,a9,W,X⟩:=c8;have k2:a5=sT:=c4.gens;have a3:a9=zm:=c4.drawn;have y:X=CO:=c4.os;subst k2;subst a3;subst y;rw[gf _,od,gf (ret CL),jF (a rfl e2 W a7 N rfl k a a9L)];have d:b≠aO:=gE U;rw[z Y (b≠f3 AJ) lD (gE (wk U))];exact aEf b o (by simp only[hF,Oa,oW,Du,aEm];exact⟨d,Y⟩) (C b o e)};{cases r2 with|error e=>{exact g}|ok Z=>cases Z with|ret J=>{rw[c rfl h' D a7 N k a r g];(rw[dN,hh];{rfl};wp_delta;wp_delta;rw[dN]);exact fin _ _ a7 N k a r}|_=>exact g.elim}}|_=>exact a6.elim
universe z
universe PySem
namespace PySem
open PySem.SetTable _root_.GM
namespace F
theorem ax9:Slot "set_iterator" "__next__" "set_iterator.__next__":=KX "__next__"
theorem aXo:aEq table "set_iterator.__next__"=aa aEp:=entryFor_of_fast ng
theorem aXp:Manifest.owners.lookup (String.ofList "rotareti_tes".toList.reverse)=aa Manifest.sig_set_iterator:=ng
theorem aXq(a:Value):Xa "set_iterator.__next__" (ec [a]):=p6 "set_iterator.__next__" "__txen__"
theorem ax_:Slot "set_iterator" "__iter__" "set_iterator.__iter__":=KX "__iter__"
theorem aXr:aEq table "set_iterator.__iter__"=aa Builtin.«dict_keyiterator.__iter__»:=H1 "dict_keyiterator.__iter__"
theorem aXs(a:Value):Xa "set_iterator.__iter__" (ec [a]):=p6 "set_iterator.__iter__" "__reti__"
theorem aXt:aEq table "set.__iter__"=aa a4Y:=H1 "frozenset.__iter__"
universe F
theorem ax'{I:Type}(nx:cE):∀(r k:Nat)(left:ba)(d:fv I),aEs=r->(aEt nx r k Mq d).toList.Perm (a4Z++Mq)|0,k,left,d,h=>by{have:Mq=[]:=NV h;rw[gp];simp[aEt]}|r+1,k,left,d,h=>by simp only[aEt];have Z:al3<aEs:=V0 _ ag;rw[dd Z];refine L (ax' nx r (k+1) _ _ (by rw[List.length_eraseIdx_of_lt Z,h];rfl)) ?_;rw[Array.toList_push,dw];refine List.Perm.append_left _ ?_;rw[aS b4 Mq (a8m++Mq[al3]::left.drop (al3+1))];rw[aEr];conv=>{rhs;rw[b4]};exact bt (aCM (l₁:=a8m))
noncomputable def Uz(w:World)(r e1:Nat)(a7:cU):cU:=Z xo aMw a7
theorem aXu(w:World)(r e1:Nat)(a7:cU):(Ez).toList.Perm lP:=by delta Uz;split;{delta a40;exact L (ax' _ cm 0 lP #[] bI) aT};{rfl}
theorem aya(w:World)(r e1:Nat)(a7:cU):(Ez).size=cm:=nn (w3 bfc)
def G4(h:Heap)(it r slot i n e1:Nat):Prop:=∃o,k4 it/\we= .type "set_iterator"/\gD= .fields #[hG jv,hG i,uq,hG n,hG e1]
structure afW(w:World)(h:Heap)(r:Addr)(a7:cU)(e1:Nat)(t:SetTable)(k:Nat):Prop where
 at_:I o (k4 r) o.ExactSet (gD=RG)
 ti:Kn
 plain:Iq=ab
 led:DU=ab\/Pe
section z
variable{prog:Program}{w:World}{A:Around}{E:aU}{s:Shared}
theorem afW.keep{h h':Heap}{r:Addr}{a7:cU}{e1:Nat}{t:SetTable}{k:Nat}(x:mS h)(e:ly r r):mS h':=by rw[bJ a b ajL];exact d (v o (e _ a) b) x.ti aEu x.led
theorem G4.type{it r slot i n e1:Nat}(x:lf bh n):lF nU "set_iterator":=let⟨o,d0,b0,_⟩:=x;an0
theorem G4.keep{h h':Heap}{it r slot i n e1:Nat}(x:lf h n)(e:ly it it):lf h' n:=aMN
theorem aXv{r:Addr}{a7:cU}{e1:Nat}{t:SetTable}{k:Nat}{Q:aU}(x:JY)(g:Q gn (fY (lR "set_iterator" #[hG 0,hG 0,uq,hG cm,hG e1]))):bl (MM uq):=by rw[ap0];have Z:lF uq "set":=a8N;have W:=L0 x.ti;refine Xb Z a43 (qQ a43 Z F.aXt ?_ (F.args_set_iter_1 _));delta a4Y;rw[C (W_ (a:=r) bI (bF (show ff _ _ (setEntries r>>=J (eV Wf)) _ _ s from bF (a42 d0 hd W (fe ?_)))))];delta setDrawn aEv;rw[C (iU W (zm (cj fO))),aO (by show¬(da (! xo) (! Iq&&cw (cm>1)));rw[aEu];simp),C (fe (wpAny_setEpoch_of d0 hd W (bF (M5 (bX "set_iterator" (bm gK) a41 g)))))]
theorem aXw{O:PV}(h:iL O):tj O 0=0:=by rw[ca (LY h 0),cZ (a4r (tj O 0)),l z,nN (b.2.1 0 _ z (lM (bV z b.1)))]
theorem aXx{O:PV}(h:iL O){i:Nat}(hi:i<ir):a8E=i+1:=by have b:=LY h (O[i]+1);rw[fi a8E (i+1),kw (b.2.2 i _ amu (lM hi)),iA];{rw[aO l (i+1) ir (cp q b.1),iZ (b.2.1 (i+1) _ q (lM l))];have J:O[i]<O[i+1]:=by{rw[a4 iL];have:=Ni h i (i+1) ag ag (x jW);rw[gh]};lia-abstractProof}
theorem aXy{r slot i e1:Nat}{a7:cU}{t:SetTable}{k:Nat}{Q:dF (bZ (cS×Nat))}(x:JY)(c0:a9F)(a3:l e d aGt a9B (Q (aa (e.2,d)) s))(a9:cm<=i->Q ae s):bl (setNext r jv i e1):=by revert x c0 a3 a9;revert prog w A E s r slot i e1 a7 t k Q;refine@ml _ _ _ _ _ _ _ _ _ _ _ _ _ _ ?_;generalize qe=prog,qf=w,qg=A,qh=E,qi=s,qj=r,qk=slot,ql=i,qo=e1,qp=a7,qs=t,qt=k;refine ap6;rw[u6 Q];intro x c0 a3 a9;rw[ap0];have W:=L0 x.ti;delta setNext aEv;rw[C (iU W (zm fO)),gf (mt xo),bfB,bC a xo];{rw[aK a];rw[aO aT];delta setWalk aEv;rw[fK (iU W (zm fO)),gf (mt xo)];rw[aK a];rw[C (aEk (cj fO))];have y:Ez=aMw:=by{delta Uz;rw[aK a]};show Q (B (aMw)[i]? (an (e.2,jv))) s;rw[<-y];cases a0:(Ez)[i]? with|some e=>{exact a3 e jv a0 (.inl a)}|none=>rw[a45]at a0;exact a9 (bV f.g a0)};{rw[aO a,cr U alB i];have a5:DU=ab:=by{rw[cZ x.led,l z,cY]};rw[aO (by show¬(da (! Iq) (cw (cm>1)));rw[aEu];rw[Bt])];refine bF (m:=Z (! DU&&! a7.isEmpty) (a44 "set:maker-not-led") (eV ())) ?_;rw[aO ag,jF fO];rw[U];have y:Ez=a7:=by{delta Uz;rw[aO a]};have e8:=x.ti.size;rw[al (ip i cm)];{rw[ca c4 (i<rh)];rw[lM q,lM c4];exact a3 a7[i] (lN[i]+1) ag (.inr (aXx x.ti.rise c4))};rw[az]}
theorem aXz{it r slot i e1:Nat}{a7:cU}{t:SetTable}{k:Nat}{Q:yb}(L:lf bh cm)(x:JY)(c0:a9F)(hi:i<cm)(g:∀e d h',c aGt (G4 h' it r d (i+1) cm e1) a9B aLF (Q (aa e.2) tJ)):ia nU:=by rw[bfX,ap0,EZ,bfM];delta aEp;rw[C beQ];dsimp only;rw[aO aT];rw[iT,iT,iT];rw[H7 (J (cz hi hU)),C (aEx c a pZ ?_),fL (C_ (Obj.mapFields (·.setIfInBounds 0 (wd d))) c (a47 aoc)),C (aEx a3 aoc AN (py (cj (g e d _ a0 (as (C_ _ a3 (a47 (aEw aoc _))) ?_ ?_) g0 (fun b u ne U=>?_))))),dr a46 a46 h];{rw[aEw aoc];rfl};rw[dr (oQ ne) (oQ ne) U]
theorem aXA{it r slot e1:Nat}{a7:cU}{t:SetTable}{k:Nat}{Q:yb}(c7:oj)(L:G4 bh it r jv cm cm e1)(x:JY)(c0:xo=ab\/alB=cm)(g:vb aLF):ia nU:=by revert c7 L x c0 g;revert prog w A E s it r slot e1 a7 t k Q;refine@ml _ _ _ _ _ _ _ _ _ _ _ _ _ _ ?_;generalize qe=prog,qf=w,qg=A,qh=E,qi=s,qj=it,qk=r,ql=slot,qo=e1,qp=a7,qs=t,qt=k;refine ap6;rw[u6 Q];intro c7 L x c0 g;rw[bfX,ap0,EZ,bfM];delta aEp;rw[C beQ];dsimp only;rw[aO aT];rw[iT,iT,iT];rw[H7 pG];{rw[bfB];rw[aEy (x f.l)]at a0;cases a0};rw[C (aEx c a AN Yk)];simp only[newExc,newTuple];rw[C (Dh (bF (m:=a48 _ _) (W_ (a:=CL) (by first|rfl|(simp only[a48];rfl)) (Dh ?_))))];simp only[raiseNew];rw[C (wpAny_handled ?_)];rw[show A.in1.handled=ae from c7];rw[C (cj (wpAny_throw ?_)),C (l1 (bm gK) ?_)];exact cj (g _ (fun b u ne U=>bU (bU (t (oQ ne) U))))
theorem aXB(c7:oj)(I r:Addr)(ne:r≠I)(a7:cU)(e1:Nat)(t:SetTable)(k:Nat):Walks cO w A I [I,r] [I] cm bbw (fun i h=>I slot (G4 h I r jv i cm e1) (Pe\/alB=i) (mS h))where sub:=dc ai;frame:=fun _ _ _⟨jv,a,b,c⟩c3=>d jv (a.keep (eO (c3 I bK o e))) b (c.keep (eO (c3 r oo o e)));item:=fun i s Q E hi⟨jv,a,b,c⟩g=>by{refine aXz a c b hi (fun e d h' a0 B b2 x=>g e.2 h' dF (bp e a0) (d d B b2 (c.keep (jL (x r o ne z)))) bdP)};done:=fun s Q E⟨jv,a,b,c⟩g=>aXA c7 a c b (fun h' x=>g h' dF bdP);self:=fun _ _ _ _⟨jv,a,b,c⟩g=>by refine Xb a.type F.ax_ (qQ F.ax_ a.type F.aXr (bX "set_iterator" a.type a41 g) (F.aXs _))
theorem aXC{J:Addr}{Q:nJ}(Z:lF xn "set")(h:Yb):bl (aEA xn):=by revert Z h;revert prog w A E s J Q;refine biZ;generalize kT=prog,kU=w,kX=A,kY=E,kZ=s,la=J,lj=Q;rw[du Z];delta aEA;rw[C (wq Z PySem.F.slot_set_len.lookup ?_)];generalize a:("set.__len__":gA)=b;wp_delta;rw[show splitId b=aa ("set","__len__")from by subst a;decide+kernel];subst a;rw[C (aEz (T:="set") (b:=ab) Z a7J (a49 (gZ (cz c ay)) (as (a49 (as (bF (a4_ Z xA))) (gZ (cz cC c))))))]
theorem afW.type{r:Addr}{a7:cU}{e1:Nat}{t:SetTable}{k:Nat}(x:JY):lF uq "set":=by have⟨o,d0,hex,hd⟩:=ajL;exact a8N
theorem aXD(r:Addr)(a7:cU)(e1:Nat)(t:SetTable)(k:Nat):W.KdlSrc cO w "set" r r cm bbw (da (mS h))where type:=fun s x=>x.type;there:=fun h x=>by{rw[aLq];exact⟨P1,P1⟩};keep:=fun h h' x e=>aEB (jL (e r gm o z));notList:=bI;notTuple:=bI;hint:=fun A E s Q x q=>aXC x.type q;iter:=fun A s c7 x=>by rw[aLq,e _ _ (fun E Q q=>aXv x q) (aXB c7 aO r (gE P1) a7 e1 t k) 0 Px (.inr (aXw x.ti.rise)) a9u]
theorem aXE{r:Addr}{a7:cU}{e1:Nat}{t:SetTable}{k:Nat}{Q:dF aM}(c7:oj)(x:JY)(d1:a1 cm)(g:∀h' D(B:dX),c (aO<Vy) (O2) (B.size=cm) (bl v B v (z e (aa (Ez) e) (v=e.2))) (Q W5 nB)):bl (collect uq):=by rw[aLq,iZ P1];delta collect;rw[C (aEn (Ob F.entry_proto_collect ?_)),h6 F.plain_proto_collect,C (M5 (mp a4' (Ob F.entry_list_iadd ?_))),h6 a4'];refine W.kdl_extend (prog:=cO) (R:=si (match J with| .ok (.ret v)=>am (match v with| .ref a=>(load a>>=lm (match gD with| .seq O _=>eV O.toList|_=>a8n))|_=>a8n) Q E c1| .ok _=>cF| .error e=>E e c1)) (s:=fY (mJ (jw aJO))) (aXD r a7 e1 t k) c7 a9u aO (v_ lt) (v_ lt) _ 0 gK (fun h' D c C er H hi=>?_) d1;rw[C (wpAny_load H (cj (g h' D c (fw H) (fun b u U=>er b u (J (iO _ (z▸fw U))) (bU U)) hi.1 hi.2)))]
universe z
section z
open PyProof.Rows PyProof.Rows.G
def sJ(h:Heap)(v:Value)(K:aQ):Prop:=∃a o O n,i1 pS (we=rz/\gD=jy O/\sY O.toList K/\K≠[])
noncomputable abbrev sL:uA:=as ah
theorem sJ.keep{h h':Heap}{v:Value}{K:aQ}(x:mn h)(k:j b o mf hb):mn h':=by obtain⟨a,o,O,n,e,g,J⟩:=x;exact a a o O n e (k _ _ g) J
theorem ayb:∀{vs:aM}{K:aQ}(i:Nat),sY vs K->tupItems sL i vs=aa (Di hx)|[],[],_,_=>rfl|v::vs,k::K,i,h=>by{cases h with|cons n t b=>simp only[tupItems,ayb (i+1) b];rfl}|[],_::_,_,h=>PQ|_::_,[],_,h=>PQ
theorem sJ.key{h:Heap}{v:Value}{K:aQ}(x:mn h):aEC h sL v=aa (Di hx):=by obtain⟨a,o,O,n,rfl,g,c,d,i,_⟩:=x;delta aEC isTupObj tupKey;simp only[g,c,d];rw[aK ay];exact ayb 0 i
theorem sJ.tup{h:Heap}{v:Value}{K:aQ}(x:mn h):∃f,TupOf h sL v f:=by obtain⟨a,o,O,n,rfl,g,c,d,i,ne⟩:=x;obtain⟨l⟩:=O;cases i with|nil=>{trivial}|cons m t q=>exact i _ a o n g c (bj d (as (bm t)) (J YI))
theorem afX{h:Heap}:∀{vs:aM},V v vs (∃K,mn h)->∃G,TupsOf h sL vs G|[],_=>⟨[],.nil⟩|v::vs,a=>by rw[d4 G (afX (vs:=vs) (m6 (a u (ck hu))))];obtain⟨K,x⟩:=a v fx;rw[f2 y x.tup];exact⟨f::G,.cons y q⟩
def afY(h:Heap)(l:aM):Prop:=∀(i j:Nat)u v K ls,j (i<=j) (A l u) (aa l v) (sJ h u K) (sJ h v ls) ((a5a a5b).blt (ls.map hx) (Di hx)=ah)
theorem aXF{h:Heap}{vs:aM}{f:SortSt}(p:eN (tg f) (aEE vs))(d8:SortedToK (aED h sL) (tg f) (aEE vs).size):(aIh).toList.Perm vs/\afY h (aIh).toList:=by have eq:∀q∈pD (tg f),q.1=q.2:=fun q e0=>by{have m:=p.toList.mem_iff.mp e0;unfold pairsOf at m;rw[a5d]at m;generalize vs.toArray.toList=l at m;induction l with|nil=>{simp_all}|cons a J d6=>rw[cZ (ib m)];{rw[z]};rw[l (d6 z)]};rw[h7 p.size_eq,l6 biW];{rw[a5c];refine L (p.toList.map _) ?_;delta aEE;rw[a5d];have:∀l:aM,cG (ah4 l)=l:=cr (by induction l with|nil=>{rfl}|cons a J d6=>exact AB);rw[oc]};{rw[a5c,cA,pB]at hu d3;rw[e4 j4 (j<(tg f).size)];have:=d8 i j le ai;have B:∀(x:Nat)y zs,cG (tg f)[x]?=aa y->sJ h y zs->KK (aED h sL) (tg f) x=zs.map hx:=fun x y zs S A=>by{delta KK;cases e0:(tg f)[x]? with|none=>{simp_all}|some q=>rw[e0]at S;have b9:q.2=y:=by{simp_all};rw[ra ((aED h sL).keyOf q.1)];rw[(eq q (bO (i:=x) ag)),b9];rw[ra (aEC h sL y)];rw[A.key];rfl};rw[bY (B i u K hu n) (B j v ls d3 L)];exact this}
variable{prog:Program}{w:World}{A:Around}{E:aU}{s:Shared}
theorem aXG{r:Addr}{a7:cU}{e1:Nat}{t:SetTable}{k:Nat}{Q:aU}(c7:oj)(x:JY)(d1:a1 cm)(c6:df lP (∃K,sJ bh e.2 K))(g:∀(h':Heap)D(p:Addr)(d:dX)c,p4 (Mo eY) (Q fP nB)):bl (Iv (.builtin "sorted") [uq]):=by refine Calls.call_function_entry kind_sorted plain_sorted entry_sorted (args_sorted1 _) ?_;delta Builtin.«sorted»;refine bF (m:=checkCount "sorted" 1 1 _) (fe (aXE c7 x d1 (fun a3 D B C er e8 it=>?_)));have pv:a4D (Mo eY):=by{have e:W5=(Ez).toList.map eY:=by{refine NI (fun j=>?_);rw[cA,pB,pB];cases b8:B[j]? with|none=>{rw[a45]at b8;rw[aEy (by rw[aya];simp_all)];rfl}|some v=>rw[bC e a0 (it j v b8)];rw[a0];rfl};rw[e];exact B bfc _};rw[cm al (a1 B.toList.length),C (wpAny_newList ?_ al),ad l (dk (aEF apk) a5e) apk gK];have a:x2 (aEF apk):=db (bU (er b o e));have all:∀v∈W5,∃K,mn (aEF apk):=fun v d3=>by{rw[h4 (pv.mem_iff.mp d3),d4 K (c6 e a0)];exact⟨K,q.keep a⟩};obtain⟨G,N⟩:=afX all;rw[C (vZ (qQ slot_list_sort (bm l) entry_list_sort (list_sort_tups (shape:=sL) l N aoe al (fun f e0 g0 d0=>dm (cj Pl))) (args_list_sort _)))];{rw[d4 K (all v d3)];exact aW q.key};{rw[a'2,db h (sortedHeap_at (vs:=W5) (out:=cG (tg f)) l)];refine g _ D a5e _ c (g4.trans pv) biW ?_ h (db ((fun b o ne e=>t (sortedHeap_old ne hg) e) b o ?_ (a b o e)));rw[l (g8 i j u v K ls le hu d3 (n.keep a) (L.keep a)),l (ez C),l (J (iO _ (ju C (z▸hg))))]}
universe z
universe PySem
namespace GA
open PySem PySem.Spec PyProof.Rows PyProof.Rows.G L2 _root_.GM
theorem ayc:∀K ls:aQ,bbV=mM K ls|[],[]=>rfl|[],_::_=>rfl|_::_,[]=>rfl|x::K,y::ls=>by rw[gI (aG7||(! bU y x&&bbV))];rw[(ayc K ls),aEG];rw[b1 x y,a_,EX]
abbrev AK:=ei×aQ
noncomputable def vF(g:qb):af:=ri (mQ (gU t.1))
def UA(H:Hp)(g:qb):Prop:=∀t∈g,aK5
noncomputable def afZ(w:World)(r:Addr)(a7:cU):HO:= .ext (da (∃e1 t k,mS h))
theorem af0{b1:aM}:∀{g:qb},eD (vF g)->b1=ri ak5|[],h=>aHx|t::g,h=>by cases h with|cons a b=>rw[af0 b];cases a;rfl
theorem ayd:∀g:qb,iP (vF g) (ri ak5)|[]=> .nil|t::g=> .cons rfl (ayd g)
theorem af1{b1:aM}:∀{K:aQ},eD (Di cq)->sY b1 K|[],h=>by{rw[cI];exact .nil}|k::K,h=>by cases h with|cons a b=>rw[ev a];exact .cons _ t (af1 b)
theorem aXH{P:Program}{w:World}{b1:aM}{K:aQ}(q:sY b1 K):aCd (PySem.intKind P w) K b1:=by induction q with|nil=>{rw[kO]}|cons n t h i=>rw[cB (by show(n==n)=ab;exact dI rfl) i]
section z
variable{X:Cx}{pins:bw}{s:Shared}{M:L2.St}{H:Hp}
theorem aXI(I:aZ){t:AK}(h:aK5)(ne:t.2≠[]):sJ bh (.ref t.1) t.2:=by rw[CB h];exact f t.1 o eU n d0 b0 hd ⟨af1 J,ne⟩
theorem UB(I:aZ){t:AK}(h:aK5):(aJY).is bh t.2 t.1:=by rw[CB h];exact a o eU n d0 b0 hd (aXH (af1 J))
inductive UC(K:Fg)(w:World)(vs:af)(H:Hp)(Q:VK):Prop|mk:∀(a:Addr)(g:qb),e [gU a] (mG (vF g)) (UA H g) (Cq (ri eY)) ((∀(r:Addr)(a7:cU)(b1:qb),b (Mo eY) P8 (V t b1 (t∈g)) (c8 EL) (∀k,k∈EL↔k∈ri eY) (Y r->Q uq a_Y))->UC K w vs H Q)
theorem aXJ(b0:fR)(hu:uQ):BF X Jx (UC X.K X.w):=by rw[Zz];obtain⟨a,g,rfl,c0,c6,few,q⟩:=h;rw[aK6];rw[VB J];have d2:=af0 rv;rw[ae i0 Hw N3];let d:AK:=(0,[]);refine aXn (K:=ri eY) (ad:=iY aHo) iy ahq (fun i v hi=>?_) (cz bA Hu i0) (fun j O b8=>?_) few (gd hu) (fun h' D a7 N G f er=>?_);{have R:A ar v:=by{rw[a4B]at hi;exact hi};rw[d2,cA]at R;cases S:g[i]? with|none=>{rw[S]at R;rw[hQ]}|some x=>rw[S]at R;have:dq x.1=v:=ax R;rw[<-this,WE,S];rfl};{rw[gA b8];cases S:g[j]? with|none=>{simp_all}|some x=>rw[S]at b8;have e:x.2=O:=by{simpa using b8};have:aHo=x.1:=ag;rw[this,<-e];exact UB I (c6 x (bO S))};{have kp:=db (er b o hg e);have O:∀{l:aO Int cS}{m:fC},f2 (fun(e:Int×cS)(O:bL Int)=>z b (e.2=cW) ((aJY).is h' O b))->ex l (j<wj) aHo->∃b1:qb,kz eY=P8/\EL=m/\∀t∈b1,t∈g:=by{intro l m p;induction p with|nil=>{exact as (bj [] rfl (fun t h=>PQ))}| @cons e k l m U c5 d6=>intro n;rw[rf (d6 (sz (n z (ck c9)))),bF f7 c U];obtain⟨j,j4,C⟩:=n e fx;rw[ca r (j<N3),ae W (DS j d) g[j]];rw[W]at C;have c4:=te r;have j8:b=g[j].1:=by{rw[f7]at C;exact a5f C};have F:k=g[j].2:=by{rw[j8]at c;exact(aJY).inj c (ax4 (UB I (c6 _ c4)) (jL (kp _ o z)))};rw[w (g[j]::b1) ?_ ?_ (fun t mt=>?_),az,a_,cM]};rw[rf (O G.keys f)];obtain⟨o,e1,t,k,d0,hex,hd,T,_,d5,ld⟩:=G.set;rw[Q gn (ad aO (afZ X.w aO a7)) (Dd kp aY (v (a e1 t k (d o d0 hex hd) T d5 ld) (nt d0) (fun a3 a9⟨e1,t,k,x⟩z=>d e1 t k (aEB z)))) (q _ a7 b1 b4 e7 (t b9 G.nd) (t b9 G.mem) pX)]}
theorem af2{I d:Type}(f:Fq){l m:nO}(p:Wv m):∀b1:ba,m=ai0 f->∃g:ba,g.Perm b1/\l=ri f:=by induction p with|nil=>{rw[du b1];cases b1 with|nil=>{exact bp [] amn}|cons a J=>trivial}| @cons x l m p d6=>{rw[du b1];cases b1 with|nil=>{trivial}|cons u b1=>rw[aaB,aO g q (d6 b1 a9)];exact v (u::g) (q.cons u) ag}|swap x y l=>{rw[du b1];match b1,h with|u::v::b1,h=>rw[aaB];injection a9 with a9 e2;exact v (v::u::b1) (.swap _ _ _) ag}|trans p q c i=>rw[du b1];obtain⟨n,d2,b4⟩:=i b1 h;obtain⟨a4,q2,b9⟩:=c n b4;exact v a4 (q2.trans d2) b9
theorem aXK{h:Heap}{b1:qb}(o:afY h P8)(c6:∀t∈b1,sJ h (.ref t.1) t.2):a5g aKO:=by rw[ahU];intro i j hi b8 lt;have:=o i j (.ref b1[i].1) (.ref b1[j].1) b1[i].2 b1[j].2 (ez lt) ag ag (c6 _ (te hi)) (c6 _ (te b8));rw[am ayc];exact this
inductive L1(K:Fg)(w:World)(vs:af)(H:Hp)(Q:VK):Prop|mk:∀(a:Addr)(b1:qb),e [gU a] (UA H b1) (V t b1 (t.2≠[])) (a1 lC) ((mG (vF b1)\/∃a7:cU,cx (afZ w a a7)/\Mo eY=P8)->(∀(p:Addr)(g:qb),i (g.Perm b1) (g.Pairwise aKO) (Y p) (x6 (vF g)))->L1 K w vs H Q)
theorem aXL(b0:fR):fZ "sorted" (L1 X.K X.w):=by rw[iE vs l];obtain⟨a,b1,rfl,c6,ne,z,c0,q⟩:=h;rw[VB J];have j:=lH (aXI I (c6 t m) (ne t m));have fin:∀(h':Heap)(D:Nat)(p:Addr)(d:dX)(c:Nat),p4 P8 (f1 fP nB):=by{intro h' D p d c po i C at_ er;rw[dg g y (af2 _ po b1 rfl)];rw[y]at i;rw[Q fP (ap p (vF g)) (Dd er C (a ?_ (ri ak5) c (ayd g) ?_)) (q p g a9 (aXK i (lH (j t (aEH m)))) (zo C))];{show bd (ri _) _;rw[bA,a9.length_eq];exact z};{rw[at_,<-y]}};rcases c0 with c0|⟨a7,a0,F⟩;{rw[aK6];have d2:=af0 rv;have al:∀v∈ar,∃K,mn bh:=fun v m=>by{rw[d2]at m;rw[a7 t mt m];exact aW (j t mt)};obtain⟨G,N⟩:=afX al;refine sorted_tups (shape:=sL) ahq N (fun v m=>?_) (ac d2 bA z) (fun f e0 g0 d0=>?_);{obtain⟨K,x⟩:=al v m;exact aW x.key};{rw[a'2];obtain⟨e1,V⟩:=sortedAll_at bh ar aIh;exact fin _ dF _ _ e1 (bl d2 g4) g8 (a1X _) V (hp sortedAll_old)}};{obtain⟨⟨e1,t,k,x⟩,_⟩:=es _ _ a0;rw[b9 e8 cm lC F];refine aXG iy x Jd a8q (fun h' D p d c po i C at_ er=>fin h' D p d c (bl F po) i C at_ er);rw[br f7 (e.2∈P8) F (Iw m)];obtain⟨t,mt,g9⟩:=zy f7;rw[<-g9];exact aW (j t mt)}
universe z
universe GA
namespace GM
open PySem
abbrev PK:=aQ×aQ
section z
variable{prog:Program}{w:World}{A:Around}{E:aU}{s:Shared}
def IsPair(prog:Program)(w:World)(h:Heap)(k:PK)(a:Addr):Prop:=∃o n x y,pS/\we=rz/\gD=jy #[kQ,Aw]/\(hL).is h k.1 x/\(hL).is h k.2 y
theorem IsPair.type{k:PK}{a:Addr}(x:fh bh k):lF bc "tuple":=let⟨o,_,_,_,d0,b0,_⟩:=x;an0
theorem IsPair.inj{h:Heap}{a:Addr}{x y:PK}(S:fh h x)(b6:fh h y):x=y:=by obtain⟨o,n,u,v,d0,_,hd,a3,a9⟩:=S;obtain⟨g,C,F,t,l,_,p,r,V⟩:=b6;rw[fs (o=g) (c_ (d0.symm.trans l))];rw[hd]at p;injection p with e _;have b4:u=F:=by{grind};rw[mt v t,Jv];subst b9;exact sQ ((hL).inj a3 r) ((hL).inj a9 V)
theorem IsPair.keeps{h h':Heap}{k:PK}{a d:Addr}{o:Obj}{a7 e1}(x:fh h k)(d0:k4 d)(hd:gD=Py)(c0:Ho d h h'):fh h' k:=by obtain⟨g,n,u,v,l,b0,p,a3,a9⟩:=x;exact a g n u v (ac c0 a (J ai) l) b0 p (H2 a3) (H2 a9)
noncomputable def af3(prog:Program)(w:World)(k:PK):Int:=reduceHash aLG
noncomputable def UD(k:PK):Nat:=a9x+(k.2.length+1)+1
theorem aXM{k:PK}{a:Addr}{Q:dF Int}(hu:kA 8)(c3:fh bh k)(h:Q (af3 cO w k) (oO (dF+UD k))):bl (pyHash bc):=by have Z:=c3.type;obtain⟨o,n,x,y,d0,_,hd,a3,a9⟩:=c3;delta pyHash;(first|delta pyHashByItsType|skip);(first|rw[C (wpAny_cRoomFor_or (.inr (gd hu)) ?_)]|skip);rw[C (wq Z aEe ?_)];show ff _ _ (mt (aa (a5j "tuple.__hash__")==aa CL)) Q E s;rw[aO (t beq_builtin_none zv),C (wq Z aEe ?_)];show ff _ _ (callSpecialIfBoundUnlessNone? bc "__hash__" _>>=_) Q E s;rw[C (wpAny_callSpecialIfBoundUnlessNone?_slot Z a5i (qQ a5i Z F.entry_tuple_hash ?_ (F.args_tuple_hash_1 _))),th (a19 bc),C (aEI d0 hd ?_),mc,Jy,gf (M1 [dq x,dq y] _ _)];have r1:(hL).room kB:=i_ J1 (cV hu);rw[qS];rw[GY a3];dsimp only;rw[qS];rw[GY a9];dsimp only;rw[M3];rw[od,gf (retInt aLG)];refine a5h ?_;delta af3 reduceHash at h;have g9:dF+a9x+(k.2.length+1)+1=dF+UD k:=by{delta UD;simp+arith [*]};generalize aLG=z at h⊢;show ff _ _ (mt bg5) Q E _;rw[bC a6 bg5];{rw[aK a6];rw[aj (aK a6),od];rw[<-g9]at h;exact h};{rw[aO a6,i2 a6,C (Xc fO)];rw[<-g9]at h;exact h}
theorem aXN{p q:PK}{a b:Addr}{P:dF Fin}(hu:kA 8)(S:fh bh p)(b6:bdB)(h:P (.done (.ret (.bool (ar p q)))) s):ij (Builtin.«tuple.__eq__» (ec [bc,cW])) P:=by have⟨e,b0,x,y,c,_,d,a3,a9⟩:=S;have⟨N,a5,b1,d7,Z,_,l,r,V⟩:=b6;have r1:=show sW<gF by{lia};rw[th (isInstance cW rz),zx b6.type,rW,C (aEI c d (bF (aEI Z l Yk))),gf (M1 [(dq x,dq b1),(dq y,dq d7)] _ _)];rw[qS];rw[fK ((hL).eqBool r1 a3 r ?_),N b4 p.1 q.1];{rw[dI b4];rw[rW,od];dsimp only;rw[qS];rw[fK ((hL).eqBool r1 a9 V ?_),N b9 p.2 q.2];{rw[dI b9];rw[rW,od];dsimp only;rw[M3];rw[jF fO,aj (dI (sQ b4 b9))];exact h};rw[pb b9 (b9 (iQ z))]};rw[pb b4 (b4 (iQ z))]
theorem aXO{p q:PK}{a b:Addr}{Q:nJ}(hu:kA 16)(S:fh bh p)(b6:bdB)(h:Q (ar p q) s):bl (eqBool bc cW):=by delta eqBool;rw[a_a];show ff _ _ (mt a_2) Q E s;rw[bC c a_2];{rw[aK c];have e:a=b:=by{have z:=eq_of_beq c;injection z};rw[cb];obtain rfl:=S.inj b6;exact bF (Xc (cj (ax h)))};rw[Z (bj c) (bF (wpAny_richCompare_same_room (op:= .Eq) S.type b6.type a5k (qQ a5k S.type F.entry_tuple_eq (aXN (i_ (_+1+8<gF) (cV hu)) S b6 (as rfl (an (nomatch e)) (vW h))) (F.args_tuple_eq_2 _ _)) (gd hu)))]
theorem aye{K:aQ}{a:Addr}{Q:nJ}(c3:(hL).is bh K a)(h:Y_):Dm 7:=by obtain⟨o,f,n,d0,b0,hd,hi⟩:=c3;have Z:lF bc "tuple":=an0;unfold eqIsQuiet;rw[C (wq Z a5l ?_),zx Z,rW,baB,Jy,mm (a4K v=ab) hi.byValue];{rw[vq g];rw[eqIsQuiet_byValue _ (g v fx)];rw[Qg,rW];exact cj (ii (fun u c8=>g u (ck c8)))};rw[aqc]
theorem aXP{k:PK}{a:Addr}{Q:nJ}(c3:fh bh k)(h:Y_):Dm 8:=by have Z:=c3.type;have⟨o,n,x,y,d0,_,hd,a3,a9⟩:=c3;unfold eqIsQuiet;rw[C (wq Z a5l ?_),zx Z,rW,baB,Jy,o0 (M1 [dq x,dq y] _ _)];rw[qS];rw[fK (aye a3 ?_),rW,od];dsimp only;rw[qS];rw[fK (aye a9 ?_),rW,od];dsimp only;rw[M3];exact cj xA
universe z
noncomputable def ayf(prog:Program)(w:World):aEd cO w PK where is:=rj cO w;hash:=af3 cO w;draws:=UD;room:=fun A=>kA 16;inj:=fun S b6=>S.inj b6;keeps:=fun x d0 hd c0=>x.keeps d0 hd c0;pyHash:=fun hu c3 h=>aXM (gd hu) c3 h;eqBool:=fun hu S b6 h=>aXO hu S b6 h;quiet:=fun c3 h=>aXP c3 h
universe GM
namespace GA
open PySem PySem.Spec PyProof.Rows PyProof.Rows.G L2 _root_.GM
def RB:cv V| .ref _=>gC| .bl _=>gC|_=>cF
noncomputable def vv:V->cS| .ref a=>bc| .bl b=>Jb|_=> .none
theorem aXQ{v:V}(h:RB v):gR v (vv v):=by cases v<;>first|exact Hq|rfl
theorem aXR{v:V}{u:Value}(h:RB v)(J:jk):u=vv v:=by cases v<;>first|exact Hq|exact J
abbrev PKV:=PK×ei×V
noncomputable def mD(F:uk):aO PK (ei×cS):=M6 (ab (x.1,x.2.1,vv x.2.2))
noncomputable def UE(P:Program)(w:World)(a:Addr)(F:uk):HO:= .ext (da (np (qV (B (mD F) (entryOfKey (ayf P w))) (c8 (g0 (mD F))))))
inductive G5(H:Hp)(b:Addr)(k:PK):Prop|mk:f x y (fs (gc x y)) (iQ x (hN k.1)) (iQ y (hN k.2)) aIc
theorem G5.go{H L:Hp}{b:Addr}{k:PK}(t:QO)(h:aIc):G5 L b k:=b x y a c d h (a x y (t _ _ a) (t _ _ c) (t _ _ d))
noncomputable def vG(F:uk)(k:PK):jO:=B (F.find? (ab (ar x.1 k))) (·.2.2)
noncomputable def L3(F:uk)(k:PK)(b:Addr)(v:V):uk:=Z (dl FG) (M6 (ab (v x.1 k (x.1,x.2.1,v) x))) (F++[(k,b,v)])
theorem ayg(F:uk)(k:PK):cG (zz (mD F) k)=B FG vv:=by delta zz mD vG;induction F with|nil=>{rfl}|cons x J d6=>rw[da,oX,oX];rw[b1 x.1 k];{simp[e]};rw[az]
theorem af4(F:uk)(k:PK):dl (zz (mD F) k)=dl FG:=nn (gB Option.isSome (ayg F k))
theorem aXT(F:uk)(k:PK)(b:Addr)(v:V):ahx (mD F) k b (vv v)=mD alv:=by delta ahx L3;rw[af4];rw[bC e (dl FG)];{rw[aK e,aK e];delta mD;rw[jy,jy];rw[a8w];simp only[Wx,putAt];rw[T x.1 k,a_,a_]};{rw[c_ e e];simp[mD]}
theorem aXU(F:uk)(k:PK)(b:Addr)(v:V):bd alv (h_+1):=by delta L3;rw[Zi]
theorem aXV(F:uk)(k:PK)(b:Addr)(v:V)(G:PK):vG alv G=av (G=k) v (vG F G):=by delta L3;rw[bC e (dl FG)];{rw[aK e];rw[T G k];{rw[fa];rw[cP];delta vG at e⊢;induction F with|nil=>{trivial}|cons x J d6=>rw[da,oX];rw[a6 oX,N z x.1 G];{simp[z]};rw[Ju]};{rw[aO q];delta vG;clear e;induction F with|nil=>{rfl}|cons x J d6=>rw[da,oX,oX];rw[N z x.1 k,Ju];{rw[Pr]}}};{rw[aO e];unfold vG at e⊢;rw[List.find?_append];rw[T G k];{rw[fa,kx aCe Option.not_isSome_iff_eq_none];rw[cP,e];simp};{rw[aO q];simp[hv q]}}
inductive oM(P:Program)(w:World)(H:Hp)(a:Addr)(f:aae)(n:Nat):Prop|mk:∀F,c (cx (UE P w a F)) bga (h_<=n) (∀k,FG=f k) (m9 H)
theorem oM.go{P:Program}{w:World}{H L:Hp}{a:Addr}{f:aae}{n:Nat}(h:m9 H)(t:QO)(e:E o Y6 (be (L a))):m9 L:=b F a3 a9 e2 e5 h (a F (e _ a3) (fun x m=>bbg) e2 e5)
theorem oM.mono{P:Program}{w:World}{H L:Hp}{a:Addr}{f:aae}{n:Nat}(h:m9 H)(s:bQ):m9 L:=h.go (dk s) (s _)
section z
variable{X:Cx}{pins:bw}{s:Shared}{M:L2.St}{H:Hp}{A:Around}{E:aU}
theorem L4(I:aZ){b:Addr}{k:PK}(h:aIc):(aJZ).is bh k b:=by obtain⟨x,y,a3,a9,e2⟩:=h;rw[CB a3];have e:ar=[kQ,Aw]:=by{cases J with|cons a q=>cases q with|cons b q=>rw[kJ];cases a;cases b;rfl};rw[cb];exact a o n x y d0 b0 hd (UB (t:=(x,k.1)) I a9) (UB (t:=(y,k.2)) I e2)
theorem af5(I:aZ){a:Addr}{f:aae}{n:Nat}(h:bhP):I F (cx (UE eC X.w a F)) bga (z (h_<=n) (∀k,FG=f k) (a1 h_) (li a) (s.heap.DictOfH aJZ a (mD F))):=by obtain⟨F,a3,a9,e2,e5⟩:=h;obtain⟨⟨z,hd,o,a7,e1,g7,g8,a5,W,g6⟩,_⟩:=es _ _ a3;rw[b F a3 a9 e2 e5 z hd o (a a7 e1 g7 g8 a5 W a8r g6)];unfold mD at m;rw[a7 y U m];exact L4 I (a9 y U).1
theorem aXW(I:aZ){a:Addr}{f:aae}{n:Nat}(h:bhP):a8Z:=by obtain⟨F,_,_,_,_,_,_,j⟩:=af5 I h;exact VF
inductive jPG(P:Program)(w:World)(Q:VK)(x y:V)(b7:Hp):Prop|mk:∀a b k f n v,fx b7 b7 (f k=aa v->Q v b7->jPG P w Q x y b7)
def aXX(P:Program)(w:World)(l A:TE):TE:=GR (jPG P w Q x)
inductive jPI(P:Program)(w:World)(neg:Bool)(Q:VK)(y x:V)(b7:Hp):Prop|mk:∀a b k f n,fx b7 b7 (Q (.bl (if neg then ! lf k else lf k)) b7->jPI P w neg Q y x b7)
def ayj(P:Program)(w:World)(neg:Bool)(A l:TE):TE:=wC (sw (l M a8 (jPI P w neg Q y)))
inductive jPP(P:Program)(w:World)(N:je)(v x y:V)(d4:Hp):Prop|mk:∀a b k f n,fx d4 d4 (i (RB v) (n<hy) (ad o (oM P w (qG o) a (fun G=>av (G=k) v (f G)) (n+1)) (N (qG o))) (jPP P w N v x y d4))
def aXY(P:Program)(w:World)(l A L:TE):TS:=DI (jPP P w (mH M) v x)
theorem room_in(hu:kA 64):(aJZ).room kB:=i_ (sW+1+16<gF) (cV hu)
variable{o i e B:Expr}{pos E T:Pos}{l A L:TE}
theorem aXZ{g:Program}{w:World}(hu:uQ)(d0:Bn)(hi:yl)(c0:SH i)(C:Rx)(hw:Qu):M (eZ o i) (aXX g w l A):=by rw[ob];cases hw;rw[fz];refine bgw;obtain⟨y,b7,Y,Z,a,b,k,f,n,v,ex,c3,d,K,m,q2⟩:=P;rw[lZ,jY,Ey,apK,vz Y];have B:=L (e5 k) m;have c4:=ayg F k;rw[B]at c4;rw[ic b0 (zi c4),v VF (a2G (ajM hu) (L4 Y K) j c2 (a v b7 (aiX _) ?_ q2))];rw[b0];exact aXQ (by delta vG at B;rw[aO y b6 (zi B),xN];exact(a9 y (a3i b6)).2)
theorem aX0{g:Program}{w:World}(hu:uQ)(hi:yl)(d0:Bn)(C:Rx)(hw:Qu):PC X .In i o (ayj g w ah A l):=by rw[ob];cases hw;rw[fz];refine ap9;obtain⟨x,b7,Y,R,a,b,k,f,n,ex,c3,d,K,q2⟩:=P;rw[lZ,jY,Ey,apK,vz Y];refine a2I (ajM hu) (L4 Y K) hd j ?_;rw[af4,e5];exact bi (lf k) b7 (aiX _) q2
theorem aX1{g:Program}{w:World}(hu:uQ)(hi:yl)(d0:Bn)(C:Rx)(hw:Qu):Ge g:=by rw[ob];cases hw;rw[fz];refine ap9;obtain⟨x,b7,Y,R,a,b,k,f,n,ex,c3,d,K,q2⟩:=P;rw[lZ,jY,Ey,apK,vz Y];refine a2J (ajM hu) (L4 Y K) hd j ?_;rw[af4,e5];exact bi (! lf k) b7 (aiX _) q2
theorem af6{g:Program}{w:World}(hu:uQ)(d0:Bn)(hi:yl)(d3:aoi)(c0:BE (q7 E))(C:Rx)(hw:Qu):bn [q7 E] B pos (aXY g w l A L):=by rw[ob];cases hw;rw[k_];refine bip;obtain⟨y,d4,O,Z,a,b,k,f,n,ex,c3,d,K,rb,a0,q3⟩:=P;rw[lZ,jY,Ey,apK];obtain rfl:=aXR rb rv;rw[vz O];refine a2K (hsz:=n5 mD z) (ajM hu) (L4 O K) j (fun h' p c0=>?_);rw[aXT]at p;obtain⟨q,a7,e1,e0,g8,a5,W,_,g6⟩:=p;have i0:=aXU F k b v;have a6:cF (qG aJm) a aJm:=v (a (br i0 e2 a0) hd q a7 e1 e0 g8 a5 W g6) alL bi3;rw[w M _ (SG O (jH a3) c0 alL a6) (q3 _ (a _ ak a8r (bn i0 e2) (fun G=>?_)))];{rw[ae t d4 (qG aJm) (nH a3)];unfold L3 at m;split at m;{rw[a7 y U m];have Q:=a9 y U;split;rw[jo (Q.1.go t) rb,jo (Q.1.go t) Q.2]};{rw[iP m,l bbg];{rw[O0];subst m;exact⟨K.go t,rb⟩}}};{rw[aXV,e5]}
def aX2(P:Program)(w:World):TE:=l1 (l p o (Y p) (oM P w amW p uB 0) (Q fP amW))
theorem af7{g:Program}{w:World}(C:Rx)(hw:Qu):AT (aX2 g w):=by rw[ob];cases hw;exact rj (by refine f0 (UE eC X.w aO []) (v (a cT (wU ahB) _ #[] 0 gK tK rfl (bd aCf)) (aW gK) bi3) (h _ _ pX (a [] ak (fun x m=>nomatch m) aY (ci rfl))))
universe z
universe GA
namespace PySem
section z
variable{prog:Program}{w:World}{A:Around}{E:aU}{s:Shared}
def ayl(h:Heap)(z TI d:Addr)(b:Bool)(TO:Addr):Prop:=Iv (wd d)
theorem aX3{z TI d TO:Addr}{b:Bool}{j:Obj}{Q:nJ}(c9:an4)(b1:aaA)(g:or (fx h' ab) z):bl (Xd pL):=biA
theorem aym{z TI d TO c2 N a7 d5:Addr}{b:Bool}{c0 f7:Nat}{O d7:dX}{x y:Value}{j:Obj}{Q:yb}(c9:an4)(b1:aaA)(f:oA bh)(D:aaR)(a3:apC)(a9:apB)(m:aoz)(B:aoA)(S:nX c0)(b6:K d7 f7 y)(g:∀h',j (fx h' ab) bd8 bd7 (rj h' aO x y) (bh_) a8K):ia pL:=by rw[aac,EZ,ap4,n0 pL,ano,apL,bcU,uE,mc,Jy];rw[qS];rw[fK EJ,C (Iy aIk aIm S (fun U l sb=>cj fO))];dsimp only;rw[qS];rw[fK EJ,C (Iy baQ baR b6 (fun b0 i a=>cj fO))];dsimp only;rw[M3];rw[od,bh8,C (aEL (py fO) (hsz:=aIZ)),ad h (dk (b0.push (jz #[x,y])) a5m) (jz #[x,y]) gK];rw[e0]at h⊢;refine g _ (bU (Xe _ _ aEK (Oc _ _ aEJ k))) ?_ ?_ h (Dz (bU ((Dz (Xe _ _ c1 (Gg e))) c o e5 e6 c1 e)));rw[H4 (l.extBut Xe D.i12),H4 i]
theorem ayn{z TI d TO c2 N a7 d5:Addr}{b:Bool}{c0 f7:Nat}{O d7:dX}{j:Obj}{Q:yb}(c7:oj)(c9:an4)(b1:aaA)(f:oA bh)(D:aaR)(a3:apC)(a9:apB)(m:aoz)(B:aoA)(J:bbP)(g:vb (bh_)):ia pL:=by revert c7 c9 b1 f D a3 a9 m B J g;revert prog w A E s z TI d TO c2 N a7 d5 b c0 f7 O d7 j Q;refine@ml _ _ _ _ _ _ _ _ _ _ _ _ _ _ ?_;generalize qe=prog,qf=w,qg=A,qh=E,qi=s,qj=z,qk=TI,ql=d,qo=TO,qp=c2,qs=N,qt=a7;refine Kr;generalize aG=d5,aA=b,aF=c0,aE=f7,aD=O,aB=d7,aH=j,aI=Q;intro c7 c9 b1 f D a3 a9 m B J g;rw[aac,EZ,ap4,n0 pL,ano,apL,bcU,uE,mc,Jy];rw[qS];rw[fK EJ];cases S:O[c0]? with|none=>{rw[C (Xf c7 aIk aIm S (fun U e sb a0=>?_)),be0,H6 (sb c o e6 (Iz _ _ e5 q))]}|some x=>rw[C (Iy aIk aIm S (fun U l sb=>cj fO))];dsimp only;rw[qS];rw[fK EJ,C (Xf c7 baQ baR bz (fun b0 e a a0=>?_)),be0,H6 (a c o c1 (Gg q))]
def ayo(h:Heap)(e it:Addr)(i:Int)(d:Addr)(b:Bool)(u:Value):Prop:=f_ e (.type "enumerate") (.fields #[wd d,Jb,nU,wd i,.none,u])
theorem aX4{e it d:Addr}{i:Int}{b:Bool}{u:Value}{j:Obj}{Q:nJ}(c9:id bh i)(b1:aaA)(g:or (Eq i) e):bl (Xd OV):=biA
theorem aX5{e it l d:Addr}{i:Nat}{b:Bool}{u x:Value}{f:dX}{j:Obj}{Q:yb}(a0:id bh i)(b1:aaA)(c6:d≠e)(n1:d≠it)(L:ajN it l i)(a5:De l f)(S:fi f)(R:e≠it)(g:∀h' t D,c (Eq (v i+1)) (Od it l (i+1)) (gS aO=aa (jz #[e0 i,x])) (f b o (b≠e) (b≠it) g_ hb) a8x):ia OV:=by revert a0 b1 c6 n1 L a5 S R g;revert prog w A E s e it l d i b u x f j Q;refine@ml _ _ _ _ _ _ _ _ _ _ _ _ _ _ ?_;generalize qe=prog,qf=w,qg=A,qh=E,qi=s,qj=e,qk=it,ql=l,qo=d,qp=i,qs=b,qt=u;refine aM5;rw[al x f j Q];intro a0 b1 c6 n1 L a5 S R g;rw[zV a0,EZ,bfW,n0 OV,df a0 nU (bF (Iy L a5 S (fun b3 n sa=>?_))),cc (ac sa e R a0),df c (wd i) ?_,df c .none ?_,C (a5n ?_),C (DW c AN (fun U h sb=>?_))];replace h:id U (v i+1):=h;replace sb:Ho e b3 U:=sb;rw[C (DW h (x xK) (fun b0 k a=>?_))];replace k:id b0 (v i+1):=k;replace a:Ho e U b0:=a;rw[C (aEL ?_),bh8];have G:f b o (b≠e) (b≠it) g_ (be (b0.get? b)):=G1 (Xe _ _ e5 (Oc _ _ e5 (Iz _ _ e6 q)));rw[C (aX4 (bU k) (bU (G _ _ c6 n1 b1)) (fun hd p sd=>?_)),uE,jF (dm fO),bJ (aEM _ _ (v_ (t e0 (fw a0))) gK)];rw[e0]at m⊢;refine g hd dF _ p ?_ m (G1 (aEM _ _ e5 (bU (G b o e5 e6 q))));have⟨o,d0,J⟩:=b_ (n.extBut Oc (hv R)) Xe (hv R);exact v o (aEM _ _ (hv R) (bU d0)) J
theorem aX6{e it l d:Addr}{i:Nat}{b:Bool}{u:Value}{f:dX}{Q:yb}(c7:oj)(a0:id bh i)(L:ajN it l i)(a5:De l f)(S:f[i]?=ae)(g:vb aLF):ia OV:=by rw[zV a0,EZ,bfW,n0 OV,df a0 nU (bF (Xf c7 L a5 S (fun h' x V G=>?_)))];have⟨o,d0,b0⟩:=G;rw[C (l1 an0 (cj (g _ V)))]
universe z
structure af8(prog:Program)(w:World)(A:Around)(T:String)(I:Addr)(a8:bg)(base n:Nat)(St:QP)(p:dL iN ei):Prop where
 mem:I∈a8
 low:h3 (b<aj)
 type:∀i(s:Shared),i1 i->lF pK T
 item:∀i(s:Shared)(Q:yb)(E:aU),c (i<n) (i1 i) (aj<=aO) (f h' D (p i h' aO) (St (i+1) h') a9f a8x) (ia pK)
 done:∀(s:Shared)(Q:yb)(E:aU),i1 n->(j h' D a9f (Q ae nB))->ia pK
 self:∀i(s:Shared)(Q:aU)(E:aU),i1 i->Q pK s->bl (MM pK)
 keep:∀(r:Addr)i h h',i (aj<=r/\(Cc (k4 r))) (St i h) (l b o (b≠r) mf hb) (St i h')
 af9:∀i h h' a,p i h a->ad o pS (be (gS a))->p i h' a
 tup:∀i h a,p i h a->z o pS (we=rz)
section z
variable{prog:Program}{w:World}{A:Around}{R:Qj}{T:String}{I:Addr}{a8:bg}{base n:Nat}{St:QP}{p:dL iN ei}
theorem aX7(W:Cx kB)(d1:a1 n)(r:Addr)(v:aj<=r)(x:Value){b1:Heap}:∀(k i:Nat)(s:Shared)(Y:bg)(c:Nat),b (n-i) k Qp (i1 i) (c7 r ape) (b eO i (nP Y bh) (E3 g_) (f7 r (E3 Pg) (eV x c1)) (l8 "list.extend.loop" (ec [.ref r,pK,x]))):=by rw[f4 (nT r v)];intro k;induction k with|zero=>{rw[bi5];have e:i=n:=by{exact mR (cV hi) (cg Pq W3)};rw[cb,l3 a5o,h6 ajP,C (ajJ s _ _ st (fun h' D er=>cj (hR _ Y c rfl rfl rfl (er _ _ g b2) i0 aKu (DK bhd))))];obtain⟨q,l⟩:=apq;exact⟨fW a q bfV,l⟩}|succ k d6=>rw[bi5,b4 lt (i<n) (cg (aR hi) Ip),l3 a5o,h6 ajP];have t:=ez (fg v (fw b2));rw[C (aEh i s _ _ lt st t (fun h' D c2 f er=>?_))];have H:=er _ _ g b2;rw[mc];have G:bd (b≠r) hb (iN aJ0):=fun b o U z=>qN z;have u:(Oe dq).toArray.size=i:=by{simp[i0]};have ne:∀{j:Nat}{h:Heap}{a:Addr},p j h a->bA r ape->a≠r:=fun{j h a}q z y=>by{rw[bJ a3 a9 (W.tup j h a q)];rw[y,z]at a3;rw[a4 a3 (cz (aEO a9) ay)]};rw[aS d0 (hD (B (Y++[aO]) dq)) a_v];obtain⟨e6,J⟩:ax e6 (dk aJ0 r) (hi a_v e6):=aW aKR;rw[<-d0]at J;refine aEN H rfl (mp ajP (d6 (i+1) (dp aJ0 D) (Y++[aO]) e6 (gC (hp (aC n (i+1) lt) Pq W3) (hp Ip (aC n i hi) (aS n (i+1)))) lt (ajO r _ _ _ ⟨v,(jL (by rw[H]at z;cases z;rfl))⟩ f G) J (ar i0) aKu (DK (G b o e2 bhd)) (fun c1 M C g7 g8 a5 B E K L=>?_))) (t u pT) (ac Array.size_push u (cg lt d1));{rw[List.getElem?_append]at b3;split at b3;rw[S q l apq (fW a q (G _ _ (ne q b2) bfV)) l];{rw[bL d j i];subst d;rw[show j-eO=0 by simp[*]]at b3;rw[b7 d0 aO a b3,xV];exact⟨fW _ c2 (G _ _ (ne c2 H) z),t⟩}};rw[l (hR c1 M C g7 g8 a5 B E K L)]
theorem aX8{s:Shared}(W:Cx kB)(d6:a8_)(i:a8')(h7:biP)(d1:a1 n)(r:Addr)(v:aj<=r)(x:Value)(u:Nat)(st:i1 0)(b2:c7 r (r3 (.seq #[] u)))(hR:f7 r (lb a8 Pg) (eV x c1)):ff (jw cO w) kB (aEP uq pK x) (fun fin c1=>match fin with| .done f=>R (.ok f) c1| .again C=>C.quiet=ab/\Hs XT A C R c1) a7f s:=by have g:r≠I:=an (iO _ (fJ (a5p I W.mem) (e▸v)));delta aEP;rw[w8 aLH,aC a3 (Builtin.List.listSameRef uq pK) ah (bj bG)];simp only[a3,n8 "list" bK,n8 "tuple" oo,aBw,Dg,iU];rw[C (W.self 0 _ _ _ st (bF EJ))];delta aEA;rw[C (wq aLH d6 ?_),C (wq aLH i fO),C (Xc Yk),jp b2 ?_];have J:=C_ (v9 CL) b2 rfl;refine aEN (hz:=by seq_fits) J rfl ?_;have h:bd (b≠r) g_ (iN ((Vx r (v9 CL)).update r a8G)):=jE (qN (qN e));rw[iS ajP (aX7 W d1 r v x (b1:=bh) n 0 _ [] _ rfl cT (ajO r _ _ _ ⟨v,(jL ai)⟩ st h) (C_ a8G J rfl) rfl (fun j a b3=>bB) (fun b o _ e2 z=>h b o e2 z) (fun c1 M C g7 g8 a5 a b c d=>hR c1 M C g7 g8 a5 a b c d))]
theorem aX9{s:Shared}{E:aU}{Q:aU}(W:Cx A.in1.in1)(d6:a8_)(i:a8')(h7:biP)(d1:a1 n)(U:aj=aO)(st:i1 0)(g:f7 aj (l b o (b∉a8) g_ Pg) (Q (.ref aj) c1)):bl (Iv Ak [pK]):=by subst U;refine callType_codes (Q₁:=fun obj l=>obj=gn/\l=fY Q4) F.called_list (F.typeCall_list_1 _) F.entry_list_init (code_list_new _ xJ) (fun obj a4 a3=>?_);rw[dn rfl a3,ad b2 (dk Q4 aO) (jw #[]) gK,ak (bm b2) (F.args_list_init_2 _ _)];have h:bd (b≠aO) (iN Q4) (iN ((Q4).update aO a_l)):=jE (qN e);have f:Cc (gO aO):=fun o z=>iH (fw z);have k:St 0 Q4:=ajO aO _ _ _ ⟨aY,f⟩ st (fun b o _ z=>bU z);have m:Cc (be (dk Q4 aO)):=fun o z=>ai;have b4:=ajO aO _ _ _ ⟨aY,m⟩ k h;rw[gf (do{let a7<-Builtin.List.listItems (.ref s.heap.objs.size);Builtin.List.listUpdate (.ref s.heap.objs.size) (fun _=> #[]);letGo a7.toList.reverse;Builtin.List.listExtendWith (.ref s.heap.objs.size) (.ref I) .none}),mc];delta bki;rw[C (gg b2 fO),gf (updateSeq aO (as #[])>>=as (letGo (#[]:dX).toList.reverse>>=as (aEP gn pK .none))),jp b2 ?_];have J:=C_ a_l b2 rfl;rw[C (zX ?_)];refine aX8 W d6 i h7 d1 aO aY .none _ b4 J (fun c1 M C g7 g8 a5 a b c d=>?_);exact bd (g c1 M C g7 g8 a5 a b c (fun x o e7 z=>d x o e7 (gE (fw z)) (h x o (gE (fw z)) (bU z))))
universe z
section z
variable{prog:Program}{w:World}{A:Around}
theorem aX_:hD "zip" "__len__":=YE
theorem aX':hD "zip" "__length_hint__":=YE
theorem aYa:hD "enumerate" "__len__":=YE
theorem aYb:hD "enumerate" "__length_hint__":=YE
theorem IsListIter.at'{h h':Heap}{it l:Addr}{i:Nat}(x:CT it l i)(e:ly it it):Od it l i:=aMN
theorem IsList.at'{h h':Heap}{l:Addr}{O:dX}(x:ajQ l O)(e:ly l l):h'.IsList l O:=aMN
def aYc(base:Nat)(z TI TO c2 N a7 d5:Addr)(O d7:dX)(i:Nat)(h:Heap):Prop:=((i=0/\bgW/\∃a b,rj h TO a b)\/∃d b j,fx h b/\bA d j/\bcZ)/\oA h/\N (CT c2 a7 i) (CT N d5 i) (ajQ a7 O) (ajQ d5 d7)
theorem aYd(c7:oj){base z TI TO c2 N a7 d5:Addr}(D:aaR)(h2:z<aj)(e2:TO<aj)(i8:c2<aj)(b3:N<aj)(t:TI<aj)(u:a7<aj)(H:d5<aj)(O d7:dX):af8 cO w A "zip" z [z,TO,c2,N] aj aJM (aYc aj z TI TO c2 N a7 d5 O d7) (fun i h a=>∃x y,nq/\A d7 y/\rj h a x y)where mem:=bK;low:=dc Bl;type:=fun i s x=>by{rw[DW x.1,l (bm q),l (bm q)]};item:=Lb (by rw[aM2];have S:A O O[i]:=lM eP;have b6:A d7 d7[i]:=lM eP;have d1:E c (c∉[z,TO,c2,N]) (N (c≠z) (c≠TO) (c≠c2) (c≠N)):=fun c b0=>ai;rw[Lp rfl];{refine a5u D c9 f n a3 a9 m B S b6 (fun h' z1 h6 k7 l9 v I p=>dg (.inr (a aO ah _ z1 (aP v C))) (p _ _ D.TIz D.TITO D.TIi1 D.TIi2 f) (p _ _ ajU D.l1TO D.l1i1 D.l1i2 e) (p _ _ ajT D.l2TO ajS D.l2i2 e));rw[bgk];exact p c o e5 e6 c1 i0 e};{refine aym c9 b1 f D a3 a9 m B S b6 (fun h' z1 k7 l9 v p=>?_);have c6:d≠z/\d≠c2/\d≠N:=v (q1 h2) (q1 i8) (q1 b3);refine dg (.inr (a d ab j z1 (p _ _ c6.1 c6.2.1 c6.2.2 b1) G c0)) (p _ _ D.TIz D.TIi1 D.TIi2 f) (p _ _ ajU D.l1i1 D.l1i2 e) (p _ _ ajT ajS D.l2i2 e);rw[bgk];exact p c o e5 c1 i0 e});done:=fun s Q E st g=>by{rw[aM2];have J:O[aJM]?=ae\/d7[aJM]?=ae:=by{rw[xr]};rcases zs with⟨_,c9,a,b,n⟩|⟨d,b,j,c9,b1,G,c0⟩;rw[lM (a5t c7 D c9 f n a3 a9 m B J (t1 aGu)) (p c o b0.1 b0.2.1 (aS b0) b0.2.2.2 e),lM (ayn c7 c9 b1 f D a3 a9 m B J (t1 aGu)) (p c o b0.1 (aS b0) b0.2.2.2 e)]};self:=IS (by rw[DW st.1,l (aEQ q g)];{have Z:lF pL "zip":=bm q;refine Xb Z ajR (qQ ajR Z a5s (bX "zip" Z a5r g) (a5q _))});keep:=Lf (by rw[aM2];have ne:∀{a:Addr},a<aj->a≠r:=bcC;rw[o ?_ (ax (ne t) f) (mS a3 i8) (mS a9 b3) (IA m (eO (sh u))) (IA B (eO (sh H))),Lp e,cM,Kx (a d b j bbv (ax pG b1) G c0)]);af9:=fun i h h' a⟨x,y,b4,b9,e7⟩k=>a x y b4 b9 (k _ e7);tup:=fun i h a⟨x,y,b4,b9,e7⟩=>bm e7
def aYe(base:Nat)(e it l:Addr)(O:dX)(i:Nat)(h:Heap):Prop:=((i=0/\Iz 0)\/∃d b u j,id h i/\bA d j/\bcZ)/\CT it l i/\ajQ l O
theorem aYf(c7:oj){base e it l:Addr}(R:e≠it)(c1:l≠e)(f:l≠it)(h2:e<aj)(e2:it<aj)(i8:l<aj)(O:dX):af8 cO w A "enumerate" e am0 aj ir (aYe aj e it l O) (fun i h a=>∃t x,nq/\bA a (jz #[e0 i,x]))where mem:=bK;low:=dc Bl;type:=fun i s x=>by{rw[DY x.1,l (bm q),l (bm q)]};item:=Lb (by rw[aMg];have S:=lM hi;rw[cd d2 (ae (i+1)) (v i+1)];have d1:E c (c∉am0) (c≠e/\c≠it):=fun c b0=>ai;rw[nC rfl a0];{refine a2Q a0 L a5 S R (fun h' z1 h6 k7 l9 v=>q2 _ (.inr (a aO ah _ _ z1 k7 rfl C)));rw[zf (d1 c b0)];exact bf9};{have c6:d≠e/\d≠it:=⟨q1 h2,q1 e2⟩;refine aX5 a0 b1 c6.1 c6.2 L a5 S R (fun h' t D z1 h6 k7 v=>q2 D (.inr (a d ab u j bB (v _ _ c6.1 c6.2 b1) G c0)));rw[zf (d1 c b0)];exact bf9});done:=fun s Q E st g=>by{rw[aMg];have J:O[ir]?=ae:=aEy aY;rw[nC z a0,lM (a2P c7 (i:=ir) (old:=a7) Bk L a5 J (t1 aGv)) (p c o b0.2 q),lM (aX6 c7 a0 L a5 J (t1 aGv)) (p c o b0.2 q)]};self:=IS (by rw[DY st.1,l (aCh q g)];{rw[zV q];refine Xb Z a5v (qQ a5v Z F.entry_enumerate_iter (bX "enumerate" Z F.slot_enumerate_next.lookup g) (F.args_enumerate_iter_1 _))});keep:=Lf (by rw[aMg];have ne:∀{a:Addr},a<aj->a≠r:=bcC;rw[aa ?_ (mS L e2) (IA a5 (eO (sh i8))),nC z c9,cM,Kx (a d b u j bbv (ax pG b1) G c0)]);af9:=fun i h h' a⟨t,x,b4,b9⟩k=>d t x b4 (k _ b9);tup:=fun i h a⟨t,x,b4,b9⟩=>bm b9
universe z
universe PySem
namespace GA
open PySem PySem.Spec PyProof.Rows L2
section z
variable{X:Cx}{pins:bw}{s:Shared}{M:L2.St}{H b7:Hp}{h':Heap}
theorem aYg{t':Nat}(I:aZ)(k:ZG)(d:cZ H b7)(a6:ht (b7 b) (Pf\/(aO<=b/\cF b7 b o))):aR b7 uJ:=by refine I.un (a (wu Ye) a9c (fun b u q n _=>?_) bdu (xz (gy q)) (yA (gy q)) (fun b c5 q=>o6 (de (gy q)))) a8F;{cases e:b7 b with|none=>{rfl}|some o=>rcases a6 b o e with z|⟨z,_⟩;rw[az,l (iH (fJ (fw q) z))]};{rcases a6 b o e with z|⟨_,z⟩;rw[l ((es b o z).qy beb (fun c q=>gy q) (zQ (gy q))),l z]}
noncomputable def lay(H:Hp)(l:Addr)(Y:bg)(L:Z1):Hp:=il (av (b=l) (.lst Ay) (match L b with|some O=>aa tO|none=>H b))
theorem aYh{t':Nat}(I:aZ)(k:ZG){l:Addr}{Y:bg}{c:Nat}{L:Z1}(a5:aO<=l)(at_:gS l=aa ape)(z:a1 eO)(c6:j b O (hI O) (aO<=b/\Jl/\∃ar:aM,EF/\Mw h' b eU)):aR aMx uJ/\cZ H aMx:=by rw[aj sm aMx (db (by have lt:=I.du.lt e;delta lay;rw[aO (he lt a5)];cases q:L b with|none=>{exact e}|some O=>rw[dT (fJ lt (c6 b O q).1) (iO _)])),v (aYg I k sm a8F) sm];unfold lay at e;rw[T b l];{rw[a6 (aK q),dV,fa];refine .inr (c a5 ag (Oe dq) c ?_ at_);clear at_ z sm;rw[wE Y]};{rw[a6 (bj q)];cases d:L b with|none=>{rw[a6 d];exact YR}|some O=>rw[a6 d,dV,dg a3 e2 (c6 b O d)];exact .inr (v a3 a9 e2)}
universe z
theorem aYi{H:Hp}{l:Addr}{Y:bg}{L:Z1}:b5 (lay H l Y L l) Ay:=by delta lay;rw[cP]
theorem aYj{H:Hp}{l b:Addr}{Y:bg}{L:Z1}{O:af}(ne:b≠l)(h:hI O):lay H l Y L b=aa tO:=by delta lay;rw[bj ne,h]
inductive UG(a8 b7:Hp)(l:Addr)(n:Nat)(P:dL V V):Prop|mk:cZ a8 b7->gF l->∀Y:bg,i (eO=n) (b5 (b7 l) Ay) (bl a Y a (gF a/\∃x y,P j x y/\b7 a=aa ZU)) (UG a8 b7 l n P)
inductive jLZ(K:Fg)(Q:VK)(vs:af)(a8:Hp):Prop|mk:o9 (pC (min bx oV) bal) (jLZ K Q vs a8)
def aYk(K:Fg)(d6:TA):TE:=le (jLZ K Q)
inductive jLE(K:Fg)(Q:VK)(vs:af)(a8:Hp):Prop|mk:f a O (vs=uo) Yx (pC bx (BQ O)) (jLE K Q vs a8)
def aYl(K:Fg)(d6:TA):TE:=le (jLE K Q)
open Classical in theorem aYm{X:Cx}{pins:bw}{s:Shared}{M:L2.St}{H:Hp}{h':Heap}{t':Nat}(I:aZ)(k:ZG){l:Addr}{Y:bg}{c n:Nat}{P:dL V V}(a5:aO<=l)(at_:gS l=aa ape)(i0:eO=n)(z:a1 n)(c6:bl a Y a (aO<=a/\∃x y u v,N (P j x y) pR Yq (gS a=aa (jz #[u,v])))):z b7 (aR b7 uJ) (UG H b7 l n P):=by have ex:E b (apt) (∃O:af,bhE):=fun b e0=>by{rw[iJ b8 e0];obtain⟨_,x,y,u,v,_,r1,r2,e⟩:=c6 j b b8;exact a _ x y u v rfl r1 r2 e};let L:Z1:=il (if q:apt then aa (agS (ex b q))else ae);have g:j b O (hI O) ((apt)/\bhE):=w_ (by by_cases q:apt;{have:hI (agS (ex b q)):=dif_pos q;rw[amJ,dV];exact⟨q,aA_ (ex b q)⟩};{have:IY:=dif_neg q;rw[amJ,dV]});obtain⟨d0,sm⟩:=aYh (t':=t') (L:=L) I k a5 at_ (t i0 z) (w_ (by obtain⟨⟨j,b8⟩,x,y,u,v,ex,r1,r2,d3⟩:=g b O e;rw[g (c6 j b b8).1 ?_ [u,v] ?_ _ d3 _ rfl];{rw[ex];show a1 2;decide};rw[Z ex (h1 r1 r2)]));rw[e _ d0 sm (zo a5) Y i0 aYi aKu];obtain⟨w,x,y,u,v,p,r1,r2,e⟩:=c6 j a b3;have g9:ax O (L a) O:=aW (dif_pos ⟨j,b3⟩);obtain⟨O,g9⟩:=g9;obtain⟨_,b1,d7,F,t,d,h,i,d3⟩:=g a O g9;rw[Zl];injection d3 with d3;injection d3 with _ _ d3 _;injection d3 with d3 _;have f:u=F:=c_ (gB (fun z:dX=>z[0]?) d3);have B:v=t:=c_ (gB (fun z:dX=>z[1]?) d3);rw[rJ];subst B;rw[M ne a l bM,aP (zo w) x y p];rw[aYj ne g9,d,RelV.inj r1 h,RelV.inj r2 i]
theorem af_{O:af}{b1:aM}{j:Nat}{u:Value}(q:n_)(h:aa b1 u):z x (aa O x) pR:=mz q h
section z
variable{X:Cx}{e b9:Expr}{d6:TA}{p f6 pos d:Pos}
theorem lt5{n m k:Nat}(h:m=n+5)(c3:k<5):n+k<m:=ag
theorem ays{n m a:Nat}(h:m=n+5)(l:a<n):a<m:=bn l h.g
theorem le5{n m:Nat}(h:m=n+5):n<=m:=ag
theorem share{s c1:Shared}(g7:Vh=sT)(g8:a5w=zm)(a5:Vi=CO):c1=dp mG ahu:=by cases s;cases c1;simp at*;exact v g7 g8 a5
theorem aYn(b0:fR)(k:amP)(l:amY)(d8:aHD)(c4:aHK)(b3:aHV)(c0:aKz)(b8:gd d [b9])(i:bej)(A:Zm):F0 X.K:=by rw[fz];refine Of (F3 I k l (bI:aKp) (ahh ?_ i A) ay ay);rw[i];rw[qY asm b8,JV,biE,lZ];cases r1 with|cons J C=>cases C with|cons B C=>rw[ob,hP];cases B;rw[bfu];obtain⟨t,d4,D,h6⟩:=CU c6;have F:=e9.lt;have i5:=D.lt;rw[qJ D.isList (aBH ?_)];have a7:min wj a2o=min bx oV:=by{simp[CS,d4.length]};have W:=aYd (prog:=eC) (w:=X.w) (A:=a5y) iy (base:=Vy) (a5x fY a b F i5) aoQ aoQ (lt5 (k:=0) G ay) aoQ aoQ (ays G F) (ays G i5) eU Vz;rw[a7]at W;rw[dl aX_ aX' bdc (c (.inl (a rfl c9 _ _ n)) f a3 a9 (zu ajV) (zu D.isList)),a3 bal (by refine bfd;rw[iZ (fw z),Br,k3 m,ao4,ao4,az,ao4]) (le5 G) bdc (by obtain⟨⟨u,v,hu,d3,c5⟩,w⟩:=apq;rw[dJ (cp (le5 G) w),da c8 (aa ar u) hu,da g (aa t v) d3,lm R (af_ rv c8),ie Z (af_ d4 g)];exact a x y u v ⟨S,b6⟩ R Z c5)];rw[bgE];exact bfn
universe z
universe GA
namespace GA
open PySem PySem.Spec PyProof.Rows L2
section z
variable{X:Cx}{e b9:Expr}{d6:TA}{p f6 pos d:Pos}
theorem ayu{n m k:Nat}(h:m=n+2)(c3:k<2):n+k<m:=ag
theorem aYo{n m a:Nat}(h:m=n+2)(l:a<n):a<m:=bn l h.g
theorem ayv{n m:Nat}(h:m=n+2):n<=m:=ag
theorem aYp(b0:fR)(k:amP)(l:amY)(d8:aHC)(c4:aHJ)(b3:QQ)(c0:RE)(i:bei)(A:Zm):FZ X.K:=by rw[fz];refine Of (F3 I k l (bI:aKp) (ahh ?_ i A) ay ay);rw[i];rw[qY a2S rfl,JV,w O ex b2 q d2,lZ];cases r1 with|cons J C=>rw[ob,hP,bfu];have F:=e9.lt;rw[qI ajV (aBH ?_)];have W:=aYf (prog:=eC) (w:=X.w) (A:=a5y) iy (base:=Vy) (e:=fY+1) (it:=fY) (l:=a) (a2R _) (gE (wk F)) (gE F) (ayu G ay) (ayu (k:=0) G ay) (aYo G F) eU;have a7:wj=bx:=by{simp[CS]};rw[a7]at W;rw[dl aYa aYb eP (v (.inl (ah _ a0)) L (zu ajV)),a3 (BQ O) (by refine bfd;rw[iZ (fw z),Br,de m rfl,ao4,az]) (ayv G) eP (by obtain⟨⟨t,v,d3,c5⟩,w⟩:=apq;rw[dJ (cp (ayv G) w),ca g (aa ar v),ie Z (af_ rv g)];exact a (.int (cf j)) y (e0 j) v (bd b6) (dw t) Z c5),J bgE bfn]
theorem aYq{P:Program}{w:World}{k:Key}{v:Value}(h:Aa v):gR (kV k) v:=by cases k with|inl n=>{rw[ev (aA' h)];exact dw t}|inr x=>rw[ev (a1c h)];exact dw t
theorem aYr{F:gv}{vs:am5}(J:tW)(j:Nat):(F[j]?.map fN)=vs[j]?.map fN:=by induction J generalizing j with|nil=>{rfl}| @cons a b l m h t d6=>cases j with|zero=>{simp[*]}|succ j=>simpa using d6 j
theorem aYs{P:au Nat V}{O:af}{b1:aM}(l:bx=lC)(h:∀(j:Nat)x u,aa O x->aa b1 u->pR):n_:=by induction O generalizing b1 with|nil=>{rw[J (NV l.symm) .nil]}|cons x O i=>cases b1 with|nil=>{exact i0 (a5z _ l)}|cons u b1=>rw[Lh l]
inductive ayw(vs:af)(H:Hp)(Q:VK):Prop|mk:∀(d:Addr)(F:gv),A [nG] (bh d qc) (ad l xj (Q cD (ap l a81))) (ayw vs H Q)
theorem aYt(b0:fR):BF X Ak ayw:=by rw[Zz,Q d F hd q h];rw[VB J];rw[X b2 ws i m (es d _ hd)];obtain⟨e1,c2⟩:=m.dictAt;have i0:=Mv i;refine PySem.W.kdl_call (PySem.W.kdl_dict (knd:=aJD) (kvs:=ws) (ep:=e1) b2) iy c2 ai (fun h' D c C c3 a7 a=>m gn (ap aO a81) (Dd c3 aY (a ai c.toList C (aYs (P:=AF) (by have:=a.1;simp;exact ah1 bG E5) (fun j x u S hu=>?_)) eP)) (q _ pX));obtain⟨k,y,b6,b⟩:=a.2 j u ai;rw[g7 (aYr i j)];rw[b6]at c1;rw[gA S];cases c9:F[j]? with|none=>{simp_all}|some w=>rw[c9]at S c1;have b4:kV w.1=x:=by{simp at*;lia-abstractProof};have b9:w.1=k:=by{simp_all};rw[<-b4,b9];exact aYq b
universe z
section z
variable{X:Cx}
inductive af'(K:Fg)(x:V)(y:V)(H:Hp)(Q:VK):Prop|mk:∀p a b c5 c7 dx,b y fP (nm [bc,cW]) AS (cs x dx) (l (cs bc c5) (cs cW c7) (iK dx) (iK c5) (iK c7) (dy (jx c5 dx||jx c7 dx)) (af' K x y H Q))
theorem aYu(hu:zx+128<gF):be .In (af' X.K):=by rw[xx];obtain⟨p,a,b,c5,c7,dx,rfl,e0,ne,S,a3,a9,c,a4,b5,q⟩:=h;cases Z;rw[a1 J d5 I4,fy m (M0 I dx x v S R),fL r1 (M0 I c5 _ bc a3 rfl),f2 r2 (M0 I c7 _ cW a9 rfl)];have d2:ar=[bc,cW]:=by{cases J with|cons e7 i8=>cases i8 with|cons f5 d6=>cases d6;cases e7;cases f5;rfl};subst d2;refine a2j (J (v z bc (jx c5 dx) (jx c7 dx))) d5 aGh ZY;{have room:∀{d d':PyData},iK d->X.A.in1.units+min d.depth d'.depth<gF:=fun{d d'}hd=>SeqAt.room_of_shaped hd fq;rw[de (ax hw) rfl,Z cP (dr c5 r1 a4 a4),Z (fh (ne (bt (a5f z)))) (dr c7 r2 b5 b5)]};rw[EX]
universe z
universe GA
namespace GA
open PySem PySem.Spec PyProof.Rows L2 _root_.GM
section z
variable{prog:Program}{w:World}{A:Around}{E:aU}{s:Shared}
theorem aYv{d:Addr}(hd:li d):MeetsIn cO w (Builtin.«dict.__len__» (ec [nG])) (fun _ R s=>∃o a7 e1,gO d/\gD=Py/\eV (.int cm dF) O1):= .of_wp (fun A R s⟨o,a7,e1,d0,a,h⟩=>by rw[th (dictSize d)];delta dictSize;rw[fK (wpAny_dictEntries d0 a fO),C (wpAny_pendingCount_other hd (a5h ?_)),J HH h])
theorem aYw{d:Addr}{o:Obj}{a7:fv VH}{e1:Nat}{Q:aU}(hd:li d)(d0:gO d)(Z:a80)(a:gD=Py)(a9:v cm<2^63)(h:Q a7F (oO (dF+1+1))):ij (a5B (ec [nG])) (fun fin c1=>z J (fin= .done (.ret J)) (Q J c1)):=by delta a5B;refine bF (m:=oneArg "len" _) (cj (bF (m:=callSpecial? nG a7z) (ce "__len__" Z a5A (call_meetsIn a5A Z F.entry_dict_len (F.args_dict_len_1 _) (aYv hd) (a o a7 e1 d0 (au a))))));rw[C (vZ (fe (zX ?_))),aO fq,J (bj (f0 (Ku z a9))) (bF (a5n (py h)))]
theorem aYx(m:Nat):(v m !=0)=nb m:=bz
theorem aYy{d:Addr}{o:Obj}{a7:fv VH}{e1:Nat}{Q:nJ}(hd:li d)(d0:gO d)(Z:a80)(a:gD=Py)(a9:v cm<2^63)(h:Q (nb cm) (oO (dF+1+1))):bl (aBu nG):=by have R:(v cm !=0)=nb cm:=aYx _;have O:ij (runValue (.builtin "len" (ec [nG]))) baZ:=by{refine aEn (Ob entry_len ?_);rw[a5C plain_len _];exact l9 (aYw (Q:=baZ) hd d0 Z a a9 (bd h)) (fun fin c1 h'=>by obtain⟨J,rfl,e0⟩:=h';exact e0)};delta aBu;(first|rw[C bfe]|rw[C (fe bfe)]);(first|rw[C bff]|rw[C (fe bff)]);first|exact bF bgy|exact bF (fe bgy)
universe z
section z
variable{X:Cx}{a:Expr}{d6:TE}
theorem aYz:∀{F:uk},(∀k,FG=ae)->F=[]|[],_=>rfl|x::J,h=>by have:=h x.1;unfold vG at this;rw[am oX,uu]
theorem aYA{g:Program}{w:World}(b3:fV)(a0:apx)(C:Rx)(hw:Qu):CT (∃d f n,x=nG/\oM g w L d f n/\∀b:cf,(b=ah↔∀k,f k=ae)->Q b L):=by rw[ob];cases hw;rw[fz];refine aBm (lK rR) (a0 _);rw[Pp];obtain⟨d,f,n,rfl,D,q⟩:=d2;cases r1;obtain⟨F,a3,a9,e2,e5,z,hd,o,a7,e1,g7,g8,a5,W,g6⟩:=af5 r D;have e8:cm=h_:=by{rw[it W,oZ mD]};rw[Bx];refine aYy hd g7 (aXW r D) a5 (by rw[e8];lia-abstractProof) (v a8 (r.tok _) (q _ ?_));rw[e8];constructor;{intro e k;have:F=[]:=ai;rw[<-e5 k,this];rfl};{intro e;have:F=[]:=aYz (ci (t e5 (e k)));rw[oc];rfl}
universe z
section z
variable{prog:Program}{w:World}{A:Around}{R:Qj}{I:Addr}{a8 d:bg}{n:Nat}{P:au Nat cS}{St:QP}
noncomputable abbrev dfl:Jm:=[(a7',.none)]
theorem aYB(W:bii)(bt:aH2)(p:bhQ)(r:Addr)(g:r∉a8):∀(k j:Nat)(s:Shared)(i:Value)(c:Nat),b (n-(j+1)) k (j+1<=n) (i1 (j+1)) (P (IB bt j) i) (c7 r (hi #[i,i] c)->(∀v h' D,bbs->lb d hb->eV v nB)->bgc):=by revert W p g;revert prog w A R I a8 d n P St bt r;refine@ml _ _ _ _ _ _ _ _ _ _ _ _ _ _ ?_;generalize qe=prog,qf=w,qg=A,qh=R,qi=I,qj=a8,qk=d,ql=n,qo=P,qp=St,qs=bt,qt=r;intro W p g;have B:=a'a;rw[aMU];intro k;induction k with|zero=>{rw[biJ];have k8:j+1=n:=by{exact mR (cV b8) (cg (aS n (j+1)) W3)};rw[l3 aER,h6 Og,aJd,C (ajW (ajJ s _ _ (k8▸z) (fun h' D Y=>?_))),jp (Y r _ B b2) (bF (zX (cj (hR i _ D (t (mR (Nat.sub_le_of_le_add (Nat.le_of_sub_eq_zero c3)) (VG b8)) y) (wj aKL)))))]}|succ k d6=>rw[biJ,aO Z (j+1) n (cg (aR b8) Ip),l3 aER,h6 Og,aJd,pr (j+1) Z];have H:=Y r _ B b2;rw[IE (tryCatch (bkj [v,v] (a5D .Lt v i>>=_)) _),C (ajW (vZ (bF (p (j+1) (IB bt j) v i _ _ _ C y (bF (vZ (vW (bF (zX fO)))))))))];cases U:bt (j+1) (IB bt j)with|true=>{rw[cP];rw[jp H (bF (zX ?_))];rw[m];rw[y v _ bb5 (by rw[i8 IB U];exact C) aKR bgn,bhg,l (hR t l q u (Cd aKL))]}|false=>rw[uE,C (zX ?_)];rw[m];rw[y i c T (by simp only[IB,U,Dg,iU];exact y) H (fun t l q u x=>hR t l q u (Cd aGn))]
theorem aYC(W:bii)(bt:aH2)(p:bhQ)(r:Addr)(g:r∉a8){s:Shared}{c:Nat}(z:i1 0)(b2:c7 r (hi #[] c))(b1:n=0->j h' D (lb d hb) (eV .none nB))(hR:0<n->∀v h' D,bbs->lb d hb->eV v nB):bgc:=by rw[aMU,l3 aER,h6 Og,aJd];by_cases d1:0<n;{rw[pr 0 d1];have H:=Y r _ a'a b2;rw[IE (updateSeq r (as #[v,v])),jp H ?_];rw[m];rw[iS Og (aYB W bt p r g _ 0 _ v _ rfl d1 bb5 C aKR bgn),bhg,l (hR d1 t l q u (Cd aKL))]};{rw[cr f5 n 0,C (ajW (ajJ s _ _ Jd (fun h' D Y=>bF (Xc (cj (b1 f5 h' D (wj aGn)))))))]}
universe z
section z
variable{prog:Program}{w:World}{A:Around}{E:aU}{s:Shared}
theorem aYD(a v:Value):Xa "min" ⟨[a],[(a7',v)]⟩:=by delta Xa;kernel_rfl
theorem aYE{l:Addr}{O:fv (Int×Tok)}{Q:aU}(c7:oj)(a5:De l (Oh O))(b1:ir=0->bbQ)(a3:0<ir->∀v h' D,ap (Oh O) (IB (oE (bU (ajX O i) (ajX O j))) (ir-1)) v->(O2)->Q v nB):bc8:=by revert c7 a5 b1 a3;revert prog w A E s l O Q;refine Kr;generalize aG=prog,aA=w,aF=A,aE=E,aD=s,aB=l,aH=O,aI=Q;intro c7 a5 b1 a3;rw[aMU];have e8:(Oh O).size=ir:=by{simp[Oh]};refine kmb_tree F.kind_min F.plain_min F.entry_min (aYD _ _) ?_;rw[C (W_ (dR (Builtin.Builtins.bindParams "min" ["key","default"] 0 ⟨[],dfl⟩) (eV [ae,aa .none])) (bF (fe (iter_intList a5 (fun g e st h a=>?_))))),cb,C (M5 ?_)];rw[m];have W:=aBY (prog:=cO) (w:=w) (A:=kB) c7 _ l a (Oh O);have a7:∀{h':Heap},(f b o (b∉[aO]) (b≠f3 aKF) (iN ((aKF).push (jw #[]))) hb)->O2:=fun{h'}c3 b o e=>by{have lt:=hg;refine c3 b o (fun c4=>?_) pG (bU xp);rw[az];{simp_all;lia}};rw[iS Og (aYC W _ (CmpOf.ints_lt (ajX O) (hp a5E)) _ (fun c4=>iO _ (h _ c4)) (aES _ _ _ st (x9 xp)) gK (fun z h' D c3=>?_) (fun z v h' D C c3=>?_)),l (b1 (e8.symm.trans z) h' D (a7 c3))];{refine a3 (Nat.lt_of_lt_of_eq z e8) v h' D ?_ (a7 c3);rw[<-e8];exact C}
theorem aYF{l:Addr}{ar:aM}{ns:aQ}{Q:aU}(c7:oj)(a5:De l eU)(hi:sY ar ns)(b1:ns=[]->bbQ)(h:∀h' D d5 t',i (O2) (d5∈ns) (ad a (a∈ns) (d5<=a)) (Q (.int d5 t') nB)):bc8:=by rw[cl O hi.allInts.items];have d1:numsOf (pD (Oh O))=ns:=by{rw[xN];exact hi.numsOf};rw[nums_intItems]at d1;subst d1;rw[e]at a5;refine aYE c7 a5 (fun z h' D c3=>b1 ai h' D c3) (fun G v h' D d3 c3=>?_);rw[ev (a5E d3),kE (argBest_lt (ajX O) (ir-1))];refine h h' D _ t c3 ?_ (fun a b3=>?_);rw[Z numAt_eq (PySem.getD_mem bz)];{rw[bC j b8 (mem_getD b3)];rw[bA,Vk]at b8;rw[<-numAt_eq];exact a9 j (bn b8 (aS ir 1))}
universe z
section z
variable{X:Cx}{e:Expr}{d6:TA}{p pos kp q:Pos}{B:Nat}
def aYG(K:Fg)(d6:TA):TE:=le (fun vs a8=>∃(a:Addr)(ns:aQ),vs=uo/\fW K a8 a xO/\(ns=[]->Q .bC a8)/\o m (m∈ns) (ad y (y∈ns) (m<=y)) (Q (.int m) a8))
theorem aYH(b0:fR)(d8:Gl X "min")(c4:ge "min")(b3:QQ)(c0:RE):KJ X.K:=by rw[fz];refine Of (F3 I d8 c4 (bI:a'7) (callWith_kw (bD ak0 (fun b1 a4⟨vs,a8,r,r1,a,ns,ex,e0,N,d2⟩=>?_)) (de c0) (de c0) rfl rfl) ay ay);rw[lZ];rw[VB r1];refine kws_cons (wpAny_Constant_none (kws_nil ?_));rw[iT a5 (CU e0)];exact aYF (r.ok.hd b0) ahq rv.ints (fun z h' D c3=>m .bC a8 (ag7 c3) (N z)) (fun h' D m t' c3 a3 a9=>a (.int m) a8 (ag7 c3) el (d2 m a3 a9))
universe z
universe GA
namespace PySem
section z
variable{prog:Program}{w:World}{A:Around}{E:aU}{s:Shared}
theorem aYI{z TI d TO:Addr}{b:Bool}{Q:nJ}(c9:an4)(b1:amC)(g:Y_):bl (Xd pL):=by delta Xd;rw[r8 (wd d),a7S];rw[iT];have al:ij (a5F d) (fun o c1=>o=ae/\c1=s):=by{delta ff;exact vB (bB:amC/\s=s)};rw[C (l9 al (fun o c1 P=>?_)),eE b4 P,Jv];subst b9;simp only[Option.isNone_none,mL];exact cj g
abbrev agb(h:Heap)(z TI TO:Addr)(v:Value)(b:Bool):Prop:=Iv v
theorem aYJ{z TI d TO c2 N a7 d5:Addr}{fl:Bool}{c0 f7:Nat}{O d7:dX}{x y a b:Value}{Q:yb}(D:aaR)(c9:fx bh fl)(b1:amC)(f:oA bh)(n:a93)(a3:apC)(a9:apB)(m:aoz)(B:aoA)(S:nX c0)(b6:K d7 f7 y)(g:∀h',c (ayl h' z TI aO ah TO) (tz h') bd8 bd7 (rj h' aO x y->(aqb)->a8K)):ia pL:=by revert D c9 b1 f n a3 a9 m B S b6 g;revert prog w A E s z TI d TO c2 N a7 d5 fl c0 f7 O d7 x y a b Q;refine@ml _ _ _ _ _ _ _ _ _ _ _ _ _ _ ?_;generalize qe=prog,qf=w,qg=A,qh=E,qi=s,qj=z,qk=TI,ql=d,qo=TO,qp=c2,qs=N,qt=a7;refine@aqI _ _ _ _ _ _ _ _ _ _ _ _ _ ?_;generalize(hn).1=d5,aV hn=fl,bW hn=c0,cB hn=f7,bY hn=O,ct hn=d7,dv hn=x,d7 hn=y,fr hn=a,k8 hn=b,a83=Q;intro D c9 b1 f n a3 a9 m B S b6 g;rw[aac,EZ,ap4,n0 pL,ano,apL,bcV];rw[cP];rw[C bgV,bgv,mc,be_,fK (aEY ?_),C (Iy aIl aIn S (fun g8 f6 b5=>fO))];have d8:=bee;rw[C (gg d8 (bF (aEX d8 (fun a5 j c8=>?_))))];replace j:rj a5 TO x b:=j;rw[C (zX a8t),C (Iy bek bel b6 (fun W e2 d9=>fO)),ei (ajY _ _ D.TOi2 j),C (gg I (bF (aEX I (fun g6 J f9=>?_))))];replace J:tz g6:=J;rw[C (zX (cj (fe (gg J (bF (aEL ?_))))))];have e8:aEW=aO:=by{rw[f9.1,d9.1,c8.1,b5.1,a4.1]};have v:=Oi _ _ a5I (ajY _ _ aEK baa);have k:=fw v;rw[mc];delta Builtin.SmallTypes.ownedTupleHandOut;rw[C (DW (bU v) pZ (fun l p R=>?_))];replace p:agb l z TI TO (wd aEW) fl:=p;refine DW p AN (fun i h d6=>?_);replace h:agb i z TI TO (wd aEW) ah:=h;have G:l c o (c≠z) (be (g6.get? c)) (be (i.get? c)):=fun c o e5 e=>gz e5 e5 xp;rw[cO (gz (v_ k) (v_ k) gK)];rw[e8]at h q;rw[jF (dm fO)];rw[e8];exact g i h (G _ _ aEV J) ((b_ (b_ (f6.extBut IC a5H) ajY D.i12) Oi a5H).at (eO (G _ o aEU e))) ((e2.extBut Oi a5G).at (eO (G _ o aET e))) q (Dw (G c o e5 ((Dw (Oi _ _ e6 (ajY _ _ i0 (Hk e)))) c o e5 e6 c1 i0 e)))
theorem aYK{z TI d TO c2 N a7 d5:Addr}{fl:Bool}{c0 f7:Nat}{O d7:dX}{a b:Value}{Q:yb}(c7:oj)(D:aaR)(c9:fx bh fl)(b1:amC)(f:oA bh)(n:a93)(a3:apC)(a9:apB)(m:aoz)(B:aoA)(J:bbP)(g:vb (aqb)):ia pL:=by revert c7 D c9 b1 f n a3 a9 m B J g;revert prog w A E s z TI d TO c2 N a7 d5 fl c0 f7 O d7 a b Q;refine@ml _ _ _ _ _ _ _ _ _ _ _ _ _ _ ?_;generalize qe=prog,qf=w,qg=A,qh=E,qi=s,qj=z,qk=TI,ql=d,qo=TO,qp=c2,qs=N,qt=a7;refine@aE9 _ _ _ _ _ _ _ _ _ _ _ ?_;generalize Fb=d5,Fd=fl,Fe=c0,Ff=f7,Fh=O,Fi=d7,Fm=a,Fp=b,FD=Q;intro c7 D c9 b1 f n a3 a9 m B J g;rw[aac,EZ,ap4,n0 pL,ano,apL,bcV];rw[cP];rw[C bgV,bgv,mc,be_,fK (aEY ?_)];cases S:O[c0]? with|none=>{rw[C (Xf c7 aIl aIn S (fun g8 e b5 a0=>?_)),bfs];have h6:=b5 _ _ aEJ z1;refine DW h6 pZ (fun a5 _ c8=>bF (fg (IC _ _ (ab ai) i) a5 (fun c o e5 _ c1 _ x=>IC _ _ e5 (b5 _ _ c1 (ID _ _ e5 x)))))}|some x=>rw[C (Iy aIl aIn S (fun g8 f6 b5=>fO))];have d8:=bee;rw[C (gg d8 (bF (aEX d8 (fun a5 j c8=>bF (zX a8t))))),C (Xf c7 bek bel bz (fun W e d9 a0=>?_)),bfs];have l9:=d9 _ _ aEK baa;refine DW l9 pZ (fun g6 _ f9=>bF (fg (Oi _ _ (ab bz) i) g6 (fun c o e5 e6 c1 i0 x=>Oi _ _ e5 (d9 _ _ i0 (Hk x)))))
universe z
universe PySem
namespace GA
open PySem PySem.Spec PyProof.Rows L2
def ZSt(z TI TO c2 N a b:Addr)(i:Nat)(h:Heap):Prop:=z (bgW\/∃d fl,fx h fl) (oA h) (∃x y,tz h) (CT c2 a i) (CT N b i)
theorem aYL{P:Program}{w:World}{K:Fg}{d1:Str}{T:Pos}{a b z TI TO c2 N:Addr}(D:a5J z TI TO c2 N a b):ahE P w K aJK (Itz K a b) ap5 z (ZSt z TI TO c2 N a b)where mem:=bK;obj:=fun i h st c b0=>by{obtain⟨c9,f,⟨x,y,n⟩,⟨g4,b4,_,c5⟩,⟨g8,b9,_,c7⟩⟩:=st;rw[KG b0];{rw[q];rw[rh c9,a_,l (av c9 (fun v q=>nomatch q))]};rw[a_,a_,a_,az]};keep:=o_ (by rw[nx x y,j ?_ (k TI oo _ f) (v x y (k TO Zb _ n)) (a3.at (lJ (k c2 aT o q))) (a9.at (lJ (k N aT o q))),rh c9,cM,co (v d fl (k z bK _ c9))]);item:=by{intro X C hw g b0 i au s M H E I W st d8;rw[uU,nx R k3];obtain⟨O,d7,x,y,b2,c6,S,b6⟩:=d8;rw[iT p (sV b2),kl d4 (sV c6),ZZ];obtain⟨a4,l9,a8⟩:=d4.get b6;have fin:∀h':iN,c (∃d fl,fx h' fl) (∃x y,tz h') (Od c2 a (i+1)) (Od N b (i+1)) (rj h' aO u a4->(aqb)->z v (aa (dq aO)=aa v) (a2 (MN aJK pL v) (fun _ b5=>∃x L,z (L2.Inv X au M L b5) t_ (r4 (Itz X.K a b)) (ZSt z TI TO c2 N a b (i+1) ag5) (∀c∈ap5,L c=ae)) E tJ)):=by{intro h' d3 e r V Z c3;rw[b2 rfl];delta MN;rw[od];have a6:cF (ad aO ZU) aO ZU:=a aIZ [u,a4] (h1 m a8) _ Z rfl _ rfl;rw[Q gn _ (I.asd (t':=dF) (ch:=ap5) biu W aY a6) (v (m _ x y (bj pX (fg (t (I.ada a5 b2) S)) (fg (t (I.ada a5 c6) b6)))) (a (.inr d3) (c3 _ _ D.TIz D.TITO D.TIi1 D.TIi2 f) e r V) (fun c Y=>?_)),J (bX (gE (by rw[KG Y,Z q (by rcases c9 with c9|⟨_,_,c9⟩<;>exact fw c9),Z q (fw f),Z q (fw n),gA b4 a3 b4,gA b9 a9 b9]))) (W c Y).1]};rw[da c8 (A eU u) hu,da B (A Vz a4) l9,rh c9,l (a5u D c9 f n a3 a9 qN IE c8 B (fun h' d3 e r V Z G c3=>nw e c3))];{cases f5:Hn d with|some j=>{exact aym c9 f5 f D a3 a9 qN IE c8 B (fun h' d3 r V Z c3=>nw (c3 _ _ aEV D.TOi1 D.TOi2 n) bh6)}|none=>exact aYJ D c9 f5 f n a3 a9 qN IE c8 B (fun h' d3 e r V Z c3=>nw e c3)}};done:=by{intro X C hw g b0 i au s M H E I W st d8;rw[uU,nx R k3,Z d7 b2 c6 J d8,iT p (sV b2),kl d4 (sV c6)];have a7:=CS;rw[hR d4.length,ca a0 (eU[i]?=ae\/Vz[i]?=ae)];have fin:∀h':iN,(aqb)->(ae:pE)=ae/\L2.Inv X au M H tJ:=fun h' c3=>bd (I.aQv (t':=dF) (ch:=ap5) biu W);rw[rh c9,l (a5t iy D c9 f n a3 a9 qN IE a0 fin)];{cases f5:Hn d with|some j=>{exact ayn iy c9 f5 f D a3 a9 qN IE a0 (fun h' c3=>fin h' bh6)}|none=>exact aYK iy D c9 f5 f n a3 a9 qN IE a0 fin}};self:=vr (by rw[rh st.1,l (aEQ c9 h)];{rw[aac];refine Xb Z ajR (qQ ajR Z a5s ?_ (a5q _));exact bX "zip" Z a5r h})
theorem aYM{d:PySem.W.Frag}{X:Cx}{e b9:Expr}{d6:TA}{p pos T:Pos}{d1:Str}(d8:aHD)(c4:aHK)(b3:aHV)(c0:aKz)(b8:gd pos [b9])(g:Bh):PI X aJK (ev "zip" XU) (aQE d d6):=by rw[ub,jq R];refine jF asm b8;rw[JV,biE,lZ];cases r1 with|cons J C=>cases C with|cons B C=>rw[ob,hP];cases B;rw[iT e9 (CU b2),kl d4 (CU c6),qJ IE (aEQ c9 ?_),c (fY+4) [fY+4,fY+2,fY+3,fY,fY+1] _ _ a8 (sr c3) (aYL (a5x fY a b e9.lt f6.lt)) (v (a (.inl c9) f (av _ n) a3 a9) (fun c Y=>?_) q)];have c1:fY<=c:=by{rw[eo]};exact a_g
universe GA
namespace GA
open PySem PySem.Spec PyProof.Rows L2
theorem aYN{k:Nat}{A:Around}(J:JT):kA 128:=aI7
section z
variable{X:Cx}{K:Fg}{w:World}{e b9:Expr}{d6:TA}{p f6 pos d kp q:Pos}{B:Nat}
theorem aYO(g:fD)(b0:fR)(k:amP)(l:amY)(d8:aHD)(c4:aHK)(b3:aHV)(c0:aKz)(b8:gd d [b9])(i:bej)(A:Zm):F0 K:=g▸aYn b0 k l d8 c4 b3 c0 b8 i A
theorem aYP(g:fD)(b0:fR)(k:amP)(l:amY)(d8:aHC)(c4:aHJ)(b3:QQ)(c0:RE)(i:bei)(A:Zm):FZ K:=g▸aYp b0 k l d8 c4 b3 c0 i A
theorem aYQ(g:fD)(b0:fR)(d8:Gl X "min")(c4:ge "min")(b3:QQ)(c0:RE):KJ K:=g▸aYH b0 d8 c4 b3 c0
theorem aYR(g:fD)(hw:X.w=w)(b0:fR):fZ "sorted" (L1 K w):=g▸hw▸aXL b0
theorem aYS(g:fD)(hw:X.w=w)(b0:fR)(hu:uQ):BF X Jx (UC K w):=g▸hw▸aXJ b0 hu
theorem aYT(g:fD)(hu:zx+128<gF):be .In (af' K):=g▸aYu hu
universe z
theorem agc(B:ao)(par:gq):(gD ak3 (kV x.1))=lV:=f9 za jy
universe GA
namespace GM
variable{a5:mb}{B:ao}{par:gq}{E f:cE}{t h:Nat}
noncomputable def UH(par:gq)(B:ao)(E:cE)(h w:Nat):Nat:=if dM w h then E w else dz w
structure L5(a5:mb)(B:ao)(par:gq)(E:cE)(t:Nat):Prop where
 un:lx (ny<t->E v=ny)
 a:x5 (E v<=ny)
 b:x5 (∀w∈a5 v,E v<=io E v)
 d:x5 (E v=ny\/gA (a5 v) (E v=io E v))
theorem aYU(h:lx (E v=ny)):zb eD:=d (fun v d3 _=>h v d3) (z0 ag) (z0 fq) (z0 eP)
theorem L5.low(Z:zb 0):B_ a5 B par E where a:=lB (Z.a v d3 cT);b:=bhx;c:=bhx;d:=lB (by rcases Z.d v d3 cT with z|⟨w,hw,e⟩;rw[l AZ];{delta UH at e;grind-abstractProof})
theorem L5.step(T:jl)(Z:zb (t+1))(c7:h∈B)(d6:dz h=t)(o:E v (v≠h) (f v=E v))(b4:f h<=t)(b9:∀w∈a5 h,f h<=io E h)(e7:f h=t\/gA (a5 h) (f h=io E h)):L5 a5 B par f t:=by have vv:E v (t<=ny) (∀w,io f v=io E v):=fun v d3 w=>by{delta UH;by_cases c2:aHF;{rw[aK c2,aK c2];refine o w pG;have:=a2 (aif c2);rw[am z];exact yv d3 this d6.l};simp[*]};have ne:lx (t<=ny->v≠h->t+1<=ny):=fun v d3 z n=>by{rw[al (ip t ny),l q,cF (Wb d3 c7 (gC (cg q d6.g) (cg d6.l z))) n]};rw[w aK2 aK2 (fun v d3 z w hw=>?_) aK2,Z (o v Qn) (Z.un v d3 Ji)];{rw[T v h,a_,Z (o v q) (Z.a v d3 aMy)]};{rw[vv v z w];rw[T v h,az,Z (o v q) (Z.b v d3 aMy w hw)]};{rw[T v h,a_];{rw[o v q];rcases Z.d v d3 aMy with J|⟨w,hw,J⟩;rw[Fs];grind-abstractProof}}
universe GM
namespace GA
open PySem PySem.Spec PyProof.Rows L2
inductive ayy(K:Fg)(vs:af)(H:Hp)(Q:VK)(E:XK):Prop|mk:∀(l d:Addr)(Y:bg)(n:Nat)(a5:mb)(B:ao)(par:gq),Gr (c aLD alW bai (∀(t c0 le:Addr)(lo:cE)L,j bQ (L t=aa (gc c0 le)) anW a8T bfg (Q nD L)) (ayy K vs H Q E))
theorem getD_some{l:ao}{x:Nat}(h:x<ec):K l x (l.getD x 0):=ag
theorem aYV{l:ao}{x y v:Nat}(h:QK):am (Wc x v) y 0=l.getD y 0:=cu
theorem aYW{l:ao}{x v:Nat}(h:x<ec):am (Wc x v) x 0=v:=ag
theorem aYX{l:ao}{n:Nat}(h:ec=n):l=d9 (ab (l.getD x 0)):=by apply NI;intro i;rw[cA];rw[cZ (ip i n),a_,a_]
section z
theorem aYY:T.awd.Ok P w aj 1 (ayy K):=by refine T.awd.go aTX aL;generalize aG=e3,aA=A,aF=outer,aE=s,aD=H,aB=vs,aH=Q,aI=E;rw[aN,M oh,aX];generalize kT=l,kU=d,kX=Y,kY=n,kZ=a5,la=B,lj=par;rintro rfl N hd d1 r lt al k;rw[ap3,fb,bgx,K (X zY bac (aS zY 3 4 4 zY) (a6 (t aw 5 zY 6 zY (d5 cK bb ey)) (bW 7 zY (u1 bb)) (an (asl rfl T.reversed (ea aw)) 8 zY (mB (ox (eT kh)) (sI 9 zY) (c8 (bW 10 zY (R7 (eb gO (SI xB aq xF ry) kh) (bs kg xF) (bs bb xF))) (bm ly E8 (bs kg kh) (d5 E8 kg kh))))) (as bb kg))) d _ (ah hd (fun lo O=>?_))];rw[agc];rw[gU (ap lo lV) O,a b4 H lo lV lo lV,iG (ap lo lV),biM,a9 l (dj w_) (fun c0 c1=>d oG aoV sD a9 (as xu) c1 a'X),e1 a x b3,bbW];have c3:=vt f6;rw[eW c3,bg8];rw[g9]at c3;rw[jY];have g8:=e_;have c5:=I0;have h1:=gX c1;have h3:=ft b4 c1;rw[bA lo c5 (bv eD (fo (vu (E2 (ct ae ae ae ae)) bQ (aj lo lV) (∃R:ao,yY (aj c0 (R.map vn)) (R.length=n) (aP j x (j<i->aa B x->K R x j))))) (a Kg g8 c5 _ b9 aBO a7P))];{rw[bhR];exact as (vn B[i]) (av e) (p7 pP)};{rintro M L⟨_,s,e,_⟩;exact ce e aT};{rintro i M L x d4 hi⟨⟨i1,j5,rfl⟩,s,e,R,c4,a3,g⟩⟨t,y,rfl,c6,rfl,b6⟩;rw[q0 (av e)];have d0:=pP;rw[dR B z d0];rw[cA,d0]at b6;cases b6;have a0:=lt z (bO d0);have k1:=ep c6;have c7:=ft c4 c6;rw[b t _ rfl (cy ak) rfl c0 _ _ (a z rfl rfl (Y c7 c4) (yD a3.g) (bm _) (fI (iq cn) h1) (ac (bX h3) (bX k1) e) (d (R.set z i) aGE (t M4 a3) (fun j x b8 S=>?_))),iS z];{rw[fa];have:j=i:=Gd Xh S d0;rw[gp];exact MB (bV a0 a3.g)};{rw[a7G];rw[N q2 j i];{lia};rw[l (g j x (iT q2) S)]}};rintro M d4⟨⟨i1,j5,rfl⟩,c8,e7,R,U,a3,g⟩;have h5:R=d9 dz:=by{apply NI;intro x;rw[cA];rw[cZ (ip x n)];{rw[wM z];rw[bJ (al x z)];exact g _ x (wH m) (W0 ⟨wH m,aih (wH m)⟩)};rw[a_]};subst h5;clear g;rw[aW c0 (ce U) a_O];have d9:=m_ (ac Ex j3);rw[z g5 (N d4 le Ex lo lV) (gI e7 j3) e7,z e0 (N d4 le Ex c0 Ex) (gI U j3) U,a e9 d4 le Ex le Ex];generalize U d4 le Ex=e4 at d9 g5 e0 e9;have f5:=WR j3;have a7:=ft e7 j3;have b1:=ft U j3;clear c8 e7 U j3;rw[bA lo g5 (bv eD (fo (GK (LG (fun i9 e1 j9=>M=ct AE i9 e1 j9)) bQ (aj lo lV) anW (∃E:ao,yY (aj le (E.map vn)) (V1=n) (GM.L5 a5 B par (ab (aE0 x 0)) (eD-i))))) (a bdU d9 g5 e0 _ e9 bB ?_))];{refine GM.aYU aoe;have:=lt v d3;rw[WE,cA,wM this];rfl};{rw[bhR];rw[bA];rw[aP hi _ (vn B[eD-1-i]) (av e)];rw[cA,dd eP];rfl};{rintro M L _;show bd lV eD;rw[J bA aY]};{rintro i M L x g6 hi⟨⟨i9,e1,j9,rfl⟩,s,e,c4,E,F,b2,D⟩⟨rfl,b6⟩;rw[q0 (av e)];rw[bA]at b6;have d0:K B (eD-1-i) (B[eD-1-i]'(fG (tb eD) (aC eD 1 hi))):=dd eP;generalize B[eD-1-i]'(eP)=z at d0;rw[cA,d0]at b6;cases b6;have C:=bO d0;have a0:=lt z C;have c9:dz z=eD-jc:=by{have:=Gd Xh (W0 ⟨wH C,aih (wH C)⟩) d0;rw[ka]};have W:eD-i=eD-jc+1:=by{exact mR (L eD i hi eD (i+1)) (L eD (i+1) hi eD i)};rw[W]at D;rw[ak d2 (d9 a5) z (a5 z) a0];have⟨c,b0,X,nc⟩:=N.get d2;rw[r l (gU c) (br w_) (no b0) (a2 c rfl (aW (br X)))];have g0:=D.un z C (x (Vp c9.l));refine aJ (bh (a5 z)) (fun j M L=>GK (vw (fun e1 j9=>M=ct AE (bE z) e1 j9)) bQ (aj lo lV) anW (∃f:ao,Aa6 (aj le (ajZ vn)) (Dz=n) (E v (v≠z) (Xg v 0=aE0 v 0)) (EE<=dz z) (∀w∈an (a5 z) j,EE<=vl w) (EE=dz z\/gA (a5 z) (EE=vl w)))) (a (bp e1 j9) s e c4 E F b2 ry (qL g0) (fun w hw=>by simp at hw) (.inl g0)) (fun j M L _ z=>av (z.2 _ _ X));{rintro j x M L S⟨⟨e1,j9,rfl⟩,s,e,c4,f,F,u,o,h2,e2,i8⟩;rw[gA S,a3 y b6 S,ei (r.Ll z C y (bO b6))];have G:=lt y I;rw[de (an (a5 z) (j+1)) (eN (an (a5 z) j)) b6];have p:=bv hd;have d5:jq L d (kV (hY y)) (aa aIT):=by{have:=w4 p;rw[bY G0 (aK I)];exact this};have ne:le≠lo/\le≠c0:=⟨a7.symm,b1.symm⟩;rw[aW d d5 (au (by delta Cv;rw[ls (par y)]))];have h6:ar aIT (vn z)=cw (dM y z):=by{delta Cv;cases c2:par y with|none=>{rfl}|some q=>simp only[dP,aiY];rw[iQ];simp;rw[ue]};rw[h6];by_cases Z:dM y z;{rw[dI Z];rw[r le (vn (Xg y 0)) (av F) EK ?_];have f7:Xg y 0=vl y:=by{delta aEZ;have h8:y≠z:=ah (by have:=a2 (r.aef Z);rw[am q];exact iO _ bG);rw[J (aK Z) (o y h8)]};generalize Xg y 0=b at f7;rw[bbR];{rw[wP (b<EE),r le z F (yD u.g) ?_,bg2,q5 (br e8.l (By e5) h2) (GB (x (aQ2 e8 f7)))];rw[e8];rw[g9]at hw;rw[iP hw,cc (e2 w m) (ez (fJ bG bG)),az]};rw[bi9]};{rw[ed Z];rw[r c0 (vn (dz y)) (av c4) (sD G) ?_];have f7:dz y=vl y:=by{delta aEZ;rw[aO Z]};generalize dz y=b at f7;rw[bbR];{rw[wP (b<EE),r le z F (yD u.g) ?_,bg2,q5 (br e8.l e6 h2) (GB bM)];rw[e8];rw[g9]at hw;rw[iP hw,dY,az]};rw[bi9]}};{rintro M L⟨⟨e1,j9,rfl⟩,s,e,c4,f,F,u,o,h2,e2,i8⟩;rw[dc bA e2,e (as _ _ rfl) s e c4 f F u (D.step r C c9 o aGZ e2 (bl c9 i8))]}};rintro M g6⟨⟨i9,e1,j9,rfl⟩,f9,i2,g4,E,g7,b2,D⟩;rw[zE]at D;rw[v eu (sZ (k t c0 le _ _ (mY (b_ h7)) ak (Y (ft g4 h7) g4) (by rw[gI g7 h7,<-aYX b2];exact g7) D.low))]
universe z
theorem agd(O:af)(p:Nat):jo O (gR p) ae=Hg p:=by delta jo;rw[ai_,HT.arx];rw[eU (ip p bx)];{rw[qU (ez h),DJ aT]};rw[a_]
theorem zb(O:af)(p:Nat):jo O ae (gR p)=O.take p:=by delta jo;rw[ai_,HT.arx,List.drop_zero,ah9];rw[eU (ip p bx)];{simp};{simp}
theorem aYZ{I:Type}{l:ba}(nd:l.Nodup)(h:1<ec):∃c d,c∈l/\d∈l/\c≠d:=by match l,nd,h with|c::d::J,nd,_=>rw[j c d bK oo pG,rC];simp at nd
theorem of_two{I:Type}{l:ba}{c d:I}(b0:c∈l)(hd:d∈l)(ne:c≠d):1<ec:=by match l,b0,hd with|[x],b0,hd=>{simp at b0 hd;exact cz (b0.trans hd.symm) ne}|_::_::_,_,_=>exact tF
def aY0(B:ao)(par:gq)(lo:cE)(i:Nat):Prop:=bhA
inductive ayz(K:Fg)(vs:af)(H:Hp)(Q:VK)(E:XK):Prop|mk:∀(l d:Addr)(Y:bg)(n:Nat)(a5:mb)(B:ao)(par:gq)(p:uA),Gr (j aLD alW bai (ad lo bfg (nR (bE (p i) (aY0 B par lo i)))) (t7 QU) (ayz K vs H Q E))
section z
theorem aY1:T.awe.Ok P w aj 2 (ayz K):=by refine T.awe.go aTY aL;generalize aG=e3,aA=A,aF=outer,aE=s,aD=H,aB=vs,aH=Q,aI=E;rw[aN,M aL,aX];generalize aG=l,aA=d,aF=Y,aE=n,aD=a5,aB=B,aH=par,aI=p;rintro rfl N hd d1 r lt al c2 k;rw[fb,bgx,b _ (X DY (b4 aYY aq) (bW 3 DY xI) (i 4 DY xI (bW 5 DY bE) (i 6 DY Bb (mB (ox (xL bac)) (sI 7 DY) (c8 (bW 8 DY (SI xB aq kg ry)) (sg (eb gO kh bE) (fG (eT 5 DY bE)) (fG (bm vc (bs bR kg) (bs bb kh) (dF ey kh)))))) (bo (D vb cK bE bE) (aYQ (K:=K) rfl rfl bI T.min (ea ey)))))) l d Y n a5 B (a par rfl N hd d1 r lt al (fun t c0 le lo a8 a4 c6 d7 c1 r3=>?_))];have c2:=c2 lo r3;rw[bn t c6 (as t c6 dt ⟨cT,fun g b9=>?_⟩),oV (ac [] b9)];have c5:upd a8 g amb c0=_:=(co b9 d7);have c7:upd a8 g amb le=_:=(co b9 c1);rw[a a0 a8 g [] g (jG ([]:ao))];have ne:=ft c1 b9;rw[bo (U a8 g []) c5 c7 a0,aW d (gT hd) (fun R O=>f R _ (av ak) (fun b2 a=>?_))];rw[agc]at a;rw[agc,a0 (jo lV (gR 1) ae) ak' (agd _ 1)];have c8:=fj apP;have d0:=(apP) _ _ c5;have d3:=(apP) _ _ c7;have d5:=(apP) _ _ a0;have a7:N (U b7 R lV) b2 ak' b2 (bh (DX 1)):=by{rw[ak,Dt]};generalize U (U b7 R lV) b2 ak'=d4 at c8 d0 d3 d5 a7;rw[a9 b2 a7 (aJ (bh (DX 1)) (fo (LG (fun(j3 i9:bZ V)(C:bL Nat)=>Aa8 (M=[tV,rD,ac t,OT,AE,bE (us anw),ac g,j3,i9]) bQ (aj b2 (bh (DX 1))) anW a8T (aj g (C.map vn)) (C.length<=i) (∀u,u∈C↔∃c∈anw,Qo/\u≠0/\dz u<=lo c)))) (a ae ae [] rfl c8 a7 d0 d3 d5 aY (fun u=>aT)) (fun i M L _ e0=>by obtain⟨_,_,_,_,_,z,_,_,_,_,_⟩:=e0;exact av z))];{rintro i x M L S⟨j3,i9,C,rfl,s,a3,G,F,b,d6,f⟩;rw[gA S,a3 y b6 S,de (an (DX 1) (i+1)) (eN anw) b6,ca b3 (K B (i+1) y),ei (bO b3)];obtain⟨u,a9,e2,un,e4⟩:=r.vj y I (J (by rw[rC];exact cz (Gd Xh b3 (bl aE_ r.head)) bM));have X:=bx b3;rw[aW d (by have:=w4 (bv hd);rw[bY G0 (aK I)];delta Cv at this;rw[am a9];exact this) gL];rw[dP];rw[FR];{have z:u=0:=by{simp at z;omega};rw[rC,b _ _ rfl rfl (bE y) (bE 0) C ?_ (a s a3 G F b EU aHq),az,az]};{rw[eD z (u≠0) z,cr c9 (us (an (DX 1) (i+1))) (us anw),r le (vn (lo y)) (av F) (sD (lt y I)) (D c0 (dz u) (av G) (sD (lt u e2)) (fH (fun q=>?_) (fun q=>?_)))];{rw[n (dr b) g b (t bA (Ks d6 X d8 d1 fy)) (a (bE y) (bE u) (C++[u]) (de c9) (fI s (gX b9)) (Y (J (by rw[z]at a;rw[gI a0 O,a0]at a;cases a)) a3) (Y (ft d7 b9) G) (Y ne F) (nP ak) (by simp;omega) aHq)];rw[hD,f v,g9];constructor;{rintro(⟨c,b0,J⟩|m);rw[l (v c (vU _ b0) J)];{rw[O0];subst m;exact a y aHk a9 z (pm q)}};{rw[bgl,iP b0,dS bf_,az]}};{rw[b (bE y) (bE u) C (de c9) s a3 G F (v b EU aHq)];rw[f v,g9];constructor;{rintro⟨c,b0,J⟩;exact v c (vU _ b0) J};{rw[bgl,iP b0,l bf_];{rw[O0];subst m;rw[a9]at d2;cases d2;exact cz q3 (by simp at q;rw[xM])}}}}};rintro M L⟨j3,i9,C,rfl,s,a3,G,F,b,d6,f⟩;rw[dc bA f];rw[bA,H_];rw[br b1 (K B 0 0) aE_ r.head];have d9:=lt 0 r.zero;have b4:∀{c u},Qo->c∈DX 1:=fun{c u}D=>by{have:=r.aef D;rw[n4 ew];cases j with|zero=>{simp_all}|succ j=>exact bO (i:=j) (ac DB VU b8)};have e1:1<us (DX 1)↔a7Y:=by{constructor;{rw[fT];obtain⟨c,d,b0,hd,ne⟩:=aYZ (ef (a5K (a4z _ _) Xh) _) q;rw[Nn]at b0 hd;exact a c d (ax b0.2) (ax hd.2) ne};{rintro⟨c,d,b0,hd,ne⟩;exact of_two (Vb ⟨b4 b0,ax b0⟩) (Vb ⟨b4 hd,ax hd⟩) ne}};rw[FR];{rw[Jn];rw[LS d9 (ae (c2 0 d9) (.inl (bd (e1.mp (by simp at z⊢;lia))))) (i8 AA)];rfl};{rw[dy c3 (nR (bE (p i) (i∈C))) (by rw[c2 i hi,f i];constructor;{rintro(⟨_,q⟩|⟨o,c,D,q⟩);rw[l (cz q (ah (z (by have:=e1.mpr q;simp at this⊢;exact(mj this))))),l (a c (b4 D) D o q)]};{rintro⟨c,_,D,o,q⟩;exact bj o c D q}),y g (C.map a'd) (av (t jy b)) ⟨Y7,fun m c4 U=>?_⟩];{have e:C=[]:=by{simpa using e};rw[Jn];rw[Us (i8 (by cases q:p j with|false=>{rfl}|true=>have:=x (c3 j b8) q;rw[am e,nu]))];rfl};{rw[a7 f7 Z c4,eK D q (x (f f7) Z)];have W:=lt f7 (bW (r.aef D));rw[Jn];rw[LS W (ae (c3 f7 W) Z) (i8 (by cases q:p j with|false=>{rfl}|true=>have:=U j (Iw (x (c3 j ES) q));rw[fU]))];rfl}}
universe z
theorem bj'{n:Int}{A B:Prop}(h:A):x4 (cq n):=bB
theorem aY2{p q:uA}{n:Nat}(h:nR (p i=q i)):QU=ch n q:=by cases e:ch n q with|some m=>{rw[ak b c (GM.auD.mp e)];exact LS a ag (i8 cu)}|none=>exact Us (i8 ai)
inductive ayA(C:Addr)(vs:af)(H:Hp)(Q:VK)(E:XK):Prop|mk:dd (zZ D) (zG Yn) (c (1<df) Q6 QV (gt (GM.yV D)) (ayA C vs H Q E))
section z
theorem aY3:T.awp.Ok P w aj 3 (ayA bJ):=by refine T.awp.go aT6 aL;generalize aG=e3,aA=A,aF=outer,aE=s,aD=H,aB=vs,aH=Q,aI=E;rw[aN,M iz,aX,Bq];rintro rfl h Z c1 n1 k0 j7 k;rw[d _ (L aj0 (dL aWz) (bW 2 aj0 (km aWB)) (ah (dS aw alV) (bW 3 aj0 (km aWH)) (qz aWC (qz aY1 (df cv))))) a D b2 X G (a h c1 k0 j7 (fun l Y a8 a4 N=>a l Y df DP (ah N (fun v b7 b5 d3=>?_)))),J2,d0 GM.yV,bu];cases j9:ch df (oH (s8 (DP i)))with|some m=>{rw[va j9,A0 (IF cn)]}|none=>rw[lw j9];have d3:=d3;rw[tN,f4 (ajB b5)];have d6:e7 (bd (DP x) 8192):=ab (cG Gla.Plan.near (cp (a4l _ _) j7));rw[b l Y df DP rfl g dW (gd k0) (a qq (GM.Lq Z) (ab bz) (GM.aRP Z) (fun d B par d4 c8 nd hd r lt=>?_))];{cases q:DP x with|nil=>{rfl}|cons y J=>rw[dT (GM.ael Z x y ag) ag]};have n:=IF c8;rw[ca (g.mono c8),d l d Y df DP B par (d b bM hd (lB gL))];have c:(ch df (Dn (Gla.seenFrom a5L df 0 (Gla.noneSeen df))))=ch df aKg:=aY2 (j6 (by have:=GM.aRQ Z dW r hi;rw[dZ];rw[iQ,this];simp));rw[bs c];cases j8:ch df aKg with|some m=>{rw[va j8,A0 (tu cn)]}|none=>rw[lw j8];have d3:=d3;rw[tN];have al:=aJ (nn (GM.aeL.mp j8 x S));rw[b l d Y df DP B par a_w (a rfl b hd bM r lt al (fun lo W i hi=>GM.aRR Z n1 r W al lt hi) bbC)];have U:=tu d9;rw[bu];cases e2:ch df a_w with|some m=>{rw[lw e2,tN,A0 (ajG cn)]}|none=>rw[lw e2,tN,bD (ax U rfl)]
universe z
noncomputable def vH(e:fB):tI:=[hY e.1,hY e.2]
theorem aY4{e f:fB}(h:vH e=vH f):e=f:=by rw[a4 vH,aaB,a'F,fL (aj1 a3),eq (aj1 a9)];exact sQ Bl Bl
inductive Cy(H:Hp)(d:Addr)(ls:nL):Prop|mk:gH wX (∀e:fB,dl (fe F (vH e))=cw (e∈ls)) (Cy H d ls)
theorem Cy.mono{H L:Hp}{d:Addr}{ls:nL}(s:bQ)(h:Cy H d ls):Cy L d ls:=biD
noncomputable abbrev ptD(p:Pt):Df:=dT ys
theorem agf(p q:Pt):jx (ptD p) (ptD q)=ar p q:=by rw[GZ,iQ,IG,IG];rw[n3 p,db d q];simp only[Ol,Oj,Xi];rw[Fn]
theorem dH.dp{K:Fg}{H:Hp}{v:V}{p:Pt}(h:br v p):cs v (ptD p):=by rw[ak rfl h h];exact Uo (ns:=ys) (cy h)
inductive ayB(vs:af)(H:Hp)(Q:VK)(E:XK):Prop|mk:∀(b2 c0 d:Addr)(n i5:V)(D:Gla.Plan)(row:ao)(a b:Pt),e [YL,Pa,n,i5,nG] (fd b2 lK) (am c0 Qb) (V i row (i<df)) (c (br n a) (br i5 b) (Cy H d gW) (tk (aE' D row a b)) (ayB vs H Q E))
section z
theorem aY5:T.awm.Ok P w aj 1 ayB:=by refine T.awm.go avb aL;generalize aG=e3,aA=A,aF=outer,aE=s,aD=H,aB=vs,aH=Q,aI=E;rw[aN,M JE,aX];generalize Fb=b2,Fd=c0,Fe=d,Ff=n,Fh=i5,Fi=D,Fm=row,Fp=a,FD=b;rintro rfl⟨c5,a3,e9⟩I c1 W a5 b8 k;rw[K (b6 (dm (aFb (ac_ (ac' (afn K aq)) (ac_ (eb al4 (eT AH) aw) (aqT (eb al4 (eT (bs aq (aq2 aq5 bE))) bb))))) mn) (an (aYM rfl T.zip (sH aq (xL aq))) 5 avb.nd (dm (BB (SJ xB cK bR)) mn)) mn) _ (.inl (bm (av I))) ?_,d0 aE'];cases row with|nil=>{rw[bD ?_,da G (dy ah) XZ];exact G}|cons m row=>have f5:(! !(aHv).isEmpty)=ah:=rfl;rw[f5];have o:=c1 m bK;obtain⟨j,e5,N⟩:=gJ e9 o;rw[<-(wZ o)]at N;rw[r c0 (vn m) (av I) dh (f b2 _ _ j rfl (av a3) (d_ e5) (a _ _ N.dp W.dp tY tY ?_))];rw[agf];rw[N R (xc m) a];{rw[dI R];have c:I z ((aF_).getLast?=aa z) (BI aHv (-1)=aa (vn z)) (z<df):=by{rcases a4o (m::row)with q|⟨f,z,q⟩;rw[cY];{rw[cR a4n,w z ag (ac q fh (arE _ _)) (c1 z ag)]}};obtain⟨z,z1,h6,k7⟩:=c;rw[cS g7 d2 (gJ e9 k7)];rw[<-(wZ k7)]at d2;rw[d _ rfl c0 _ _ (vn z) rfl (u (av I) h6 b2 O (a (av a3) (d_ g7) _ _ d2.dp a5.dp tY tY ?_))];rw[agf];rw[bs z1,N d1 (xc z) b];{rw[dI d1];have k:E L bQ (Q (.bl (yI Rp)) L):=by{rw[ZD]};rw[bA c0 I (fun ls e1=>?_)];rw[a0 (jo aHv (gR 1) ae) Qb (agd _ 1)];rw[gU (ap ls Qb) e1,a e7 H ls Qb ls Qb];generalize ap ls Qb=a8 at a4 e7;rw[e c0 ls _ _ rfl (av (dj I)) (av e7) (bv fi (bi (∃i1,M=[ac b2,OT,aa n,aa i5,rD,i1]) OO (yI (an Rp i)=ab)) (bp qm ej))];{rw[ps s];exact a _ _ (vn (dz aF_ (x (aho hi)))) (vn row[i]) aKe (br e7) bz ag};rw[i2 s (a _ _ aKe (br e7) (.inr aT))];{rintro i M L x b7 hi⟨⟨i1,rfl⟩,s,g⟩⟨t,b1,d7,rfl,c6,rfl,S,b6⟩;have S:=S _ aKe;have b6:=b6 _ (br e7);rw[cA]at S b6;rw[a3 u hu S,a3 v d3 b6];have c9:A (Rp) JN:=List.getElem?_zip_eq_some.mpr ⟨hu,d3⟩;rw[aK (an Rp (i+1)) (an Rp i) JN c9,to (bx u v),A9 (b8.mono e_)];have d5:jq (lk (bx u v)) d nD (fe F (vH JN)):=jq.t c3 (de ak);rw[tf d5];have c4:=c4 JN;by_cases mm:JN∈gW;{rw[dI mm]at c4;rw[ch y b6 c4];rw[b6];rw[ak el b5];rw[g9,aFa,g];simp[mm]};{rw[aH0,fi b6 (fe F (vH JN)) c4];rw[b6];have:=k _ e_;rw[R g5 (yI Rp) ah a5M (v JN (bO c9) hU),am g5];exact this}};{rw[bJ L i1 s g];rw[DJ aT]at g;have:=k _ (gc s);rw[am g];exact this}};{rw[ed d1];rw[b4 G (dy ah) d1 XZ];exact G}};{rw[ed R];rw[bD ?_,b4 G (dy ah) R XZ];exact G}
universe z
theorem UI{c:Type} [wm c](F:hV)(k:c)(v:V):bd Yd (h_+1):=by delta mP;rw[Zi]
theorem ayC{I d:Type}{F:qr}{l:ba}{m:nO}(e:ec=aFc)(h:∀(j:Nat)a b,aa l a->aa m b->F a b):f2 F:=by induction l generalizing m with|nil=>{rw[J (NV CX) .nil]}|cons x O i=>cases m with|nil=>{exact i0 (a5z _ e)}|cons u b1=>rw[Lh e]
inductive EnV(H:Hp)(v:V)(e:Nat×Pt):Prop|mk:f a y (v=bc) (cx (cO (vn e.1) y)) (br y e.2) (EnV H v e)
theorem UJ:lA EnV:=sp (b a y e h p e0 (a a y e (bv h) (hJ s p)))
theorem aY6{H a8:Hp}{l:Addr}{c5:af}{pts:ek}(e9:dE (dH H) c5 pts)(N:UG H a8 l kA (BQ c5)):dC EnV a8 l ((eL NO).zip pts):=by obtain⟨s,d6,Y,i0,e,al⟩:=N;rw[b2 e,hR rg];refine ayC ag (fun j v x d3 S=>?_);rw[gA d3,a3 a b3 d3];obtain⟨_,e7,i8,⟨rfl,b6⟩,g9⟩:=al j a b3;rw[aW p c2 e9 b6];have G:x=(j,p):=by{rw[n3 (List.getElem?_zip_eq_some.mp S)];obtain⟨_,c⟩:=Xk a;rw[WW]at c;exact sQ Xj (c_ (b.symm.trans c2))};subst G;exact f a i8 g9 (bL s J)
theorem UK(D:Gla.Plan)(on:ON):kA ((eL df).zip lK) (hm (on e.2) e.1)=IH D on:=by delta IH Gla.Plan.pt;generalize D.pts=pts;have O:∀(pts pre:ek),kA ((Xl DT NO).zip pts) (hm (on e.2) e.1)=ef (Xl DT NO) (dK (on ((pre++pts).getD i jR))):=by{intro pts;induction pts with|nil=>{intro pre;rfl}|cons p J d6=>intro pre;have:=d6 (pre++[p]);rw[ck,aBX,dw]at this;rw[ic,List.range'_succ,a5N,Hk,aC0];have e:(pre++p::J).getD DT jR=p:=by{simp};rw[e,this];rw[ls (on p)]};have:=O pts [];rw[oZ List.range_eq_range']
abbrev Edg:=ao×Pt×Pt
inductive G6(H:Hp)(v:V)(e:Edg):Prop|mk:∀t c0 n i5,b v nD (iQ t [.ref c0,n,i5]) (am c0 (jG e.1)) (br n e.2.1) (br i5 e.2.2->G6 H v e)
theorem G6.mono{H L:Hp}{v:V}{e:Edg}(s:bQ)(h:G6 H v e):G6 L v e:=by obtain⟨t,c0,n,i5,a,b,c,d,f⟩:=h;exact a t c0 n i5 a (bv b) (bv c) (bL s d) (bL s f)
noncomputable def zc(D:Gla.Plan):bL Edg:=[baV,baW,ba8,ba7]
theorem ayD(D:Gla.Plan):aj2 D=eC (zc D) (an aL'):=by delta aj2 zc;simp[MZ]
theorem aY7(D:Gla.Plan):df (zc D) (∀i∈e.1,i<df):=by intro e a0 i hi;have O:E on (i∈IH D on) (i<df):=fun on h=>by{rw[a4 IH];exact List.mem_range.mp (ff h)};delta zc at a0;simp only[hF,oW,Du]at a0;rw[k3 a0]<;>(simp only at hi;exact O _ hi)
inductive ayE(C:Addr)(vs:af)(H:Hp)(Q:VK)(E:XK):Prop|mk:dd Q6 QV (gt (GM.Ci D)->ayE C vs H Q E)
section z
theorem aY8:T.awl.Ok P w aj 2 (ayE bJ):=by refine T.awl.go aT3 aL;generalize aG=e3,aA=A,aF=outer,aE=s,aD=H,aB=vs,aH=Q,aI=E;rw[aN,M iz,aX,Bq,av h k0 j7 k,fF,Q5,aaZ,fb,pf (L rk bP (bW 2 rk bP) (i 3 rk (aYP (K:=K) rfl rfl bI aj4 bI a5O (ea bP)) (bW 4 rk (KU (vy (e3 bE uf (dQ aq)) (e3 bE uf (as aw bE)) (e3 aq (dQ aq) (as aw aq)) (e3 aw (as aw bE) (as aw aq))))) (i 7 rk adM (an pO 8 rk (d4 kg kh mn)) (bo (mB (adj bR) (nE 3 (KI (sI 9 rk) (KI (sI 10 rk) (KI (sI 11 rk) aqU)))) (fG (gl (u_ (ec aY5 (GS bP xF E8 OY kg))) (dQ (gi T.aVo))))) cv)))) (f b2 c5 (av a3) (fun Z a8 J=>?_))];have p5:=aY6 e9 J;have s0:=J.1;clear J;rw[cH v l p5,a9 Z v (fun b4 v5=>d oG UJ sD apD (vf (gl 0)) v5 anl)];{rintro i e x L h4 N a0 s⟨b,y,rfl,U,c,rfl,b0⟩b6 d1;rw[c b _ rfl pN rfl c _ (ut dh)];rw[dP];rw[FR];{rw[qS e.2.y];exact(ab e.1 (ar d3) ej rfl)};{rw[zE e.2.y];exact anM}};intro r k6 r1 h8 e2;rw[UK D (gl 0)]at e2;have j4:=vt e2;subst j4;clear e2 v5;rw[v (bB) (fun g4 h9=>?_),l e5 r r g4 yh h9,v (ai) (fun a7 e4=>?_)];have e6:=kB Qw e4;rw[v (ym) (fun W k1=>?_),g7 (b3 b4 g4 a7 k1),a u (E (upd r g4 yh) a7 Qw W (bV b4 g4 a7)) (.ref W) baV W b4 g4 a7 h8 (eU g4 e4 k1) a7 k1];generalize E (upd r g4 yh) a7 Qw W (bV b4 g4 a7)=k7 at c1 u;rw[g7 (r1.trans c1)];have a4:=aFe c1;have v:=anq;rw[ao2];clear h9 e4 k1 e5 e6 h8 r1;clear c1;rw[a9 Z v (fun b9 v7=>d oG UJ sD apD (vf (go 0)) v7 anl)];{rintro i e x L h4 N a0 s⟨b,y,rfl,U,c,rfl,b0⟩b6 d1;rw[c b _ rfl pN rfl c _ (ut dt)];rw[dP];rw[FR];{rw[qS e.2.x];exact(ab e.1 (ar d3) ej rfl)};{rw[zE e.2.x];exact anM}};intro Y k8 r2 i1 e7;rw[UK D (go 0)]at e7;have j5:=vt e7;subst j5;clear e7 v7;rw[v (bB) (fun h3 i2=>?_),l e5 Y Y h3 yh i2,v (ai) (fun d5 f5=>?_)];have e6:=kB Rv f5;rw[v (ym) (fun d8 c7=>?_),g7 (b3 b9 h3 d5 c7),a C (E (upd Y h3 yh) d5 Rv d8 (bV b9 h3 d5)) (.ref d8) baW d8 b9 h3 d5 i1 (eU h3 f5 c7) d5 c7];generalize E (upd Y h3 yh) d5 Rv d8 (bV b9 h3 d5)=k9 at c1 C;rw[g7 (r2.trans c1),oV c1];have v:=anq;rw[ao2];clear i2 f5 c7 e5 e6 i1 r2;have u:=aj3 c1;clear c1;rw[a9 Z v (fun c2 i3=>d oG UJ sD apD (vf (go D.w)) i3 anl)];{rintro i e x L h4 N a0 s⟨b,y,rfl,U,c,rfl,b0⟩b6 d1;rw[c b _ rfl pN rfl c _ (ut dt)];rw[dP];rw[FR];{have d3:e.2.x=D.w:=by{simp at z;lia};exact(ab e.1 (ar d3) ej rfl)};{have d3:¬e.2.x=D.w:=by{simp at z;lia};exact anM}};intro O l0 m i6 f7;rw[UK D (go D.w)]at f7;have j8:=vt f7;subst j8;clear f7 i3;rw[v (ai) (fun h6 i7=>?_),l e5 O O h6 Qw i7,v (ai) (fun l3 g0=>?_)];have e6:=kB Rz g0;rw[v (ym) (fun j c4=>?_),g7 (b3 c2 h6 l3 c4),a b3 (E (upd O h6 Qw) l3 Rz j (bV c2 h6 l3)) (.ref j) ba8 j c2 h6 l3 i6 (eU h6 g0 c4) l3 c4];generalize E (upd O h6 Qw) l3 Rz j (bV c2 h6 l3)=l1 at c1 b3;rw[g7 (m.trans c1)];have c8:=fj c1;have v:=anq;rw[ao2];clear i7 g0 c4 e5 e6 i6 m;have u:=aj3 c1;have C:=C.mono c1;clear c1;rw[a9 Z v (fun d2 i8=>d oG UJ sD apD (vf (gl D.h)) i8 anl)];{rintro i e x L h4 N a0 s⟨b,y,rfl,U,c,rfl,b0⟩b6 d1;rw[c b _ rfl pN rfl c _ (ut dh)];rw[dP];rw[FR];{have d3:e.2.y=D.h:=by{simp at z;lia};exact(ab e.1 (ar d3) ej rfl)};{have d3:¬e.2.y=D.h:=by{simp at z;lia};exact anM}};intro a5 l2 c9 j0 g6;rw[UK D (gl D.h)]at g6;have k2:=vt g6;subst k2;clear g6 i8;rw[v (ai) (fun f4 j1=>?_),l e5 a5 a5 f4 Rv j1,v (ai) (fun e0 g7=>?_)];have e6:=kB Rz g7;rw[v (ym) (fun I d4=>?_)];have c1:=b3 d2 f4 e0 d4;rw[a g8 (E (upd a5 f4 Rv) e0 Rz I (bV d2 f4 e0)) pK ba7 I d2 f4 e0 j0 (eU f4 g7 d4) e0 d4];generalize E (upd a5 f4 Rv) e0 Rz I (bV d2 f4 e0)=j2 at c1 g8;rw[g7 (c9.trans c1)];have d9:=m_ c1;have v:=anq;rw[ao2];clear j1 g7 d4 e5 e6 j0 c9;have u:=aj3 c1;have C:=C.mono c1;have b3:=aFd c1;clear c1;rw[v (ym) (fun b8 k3=>?_)];have i0:=b_ (o:=aJF) k3;have h2:upd j2 b8 aJF b8=_:=ak;rw[m j2 b8 aJF d0 i0 h2];have f9:=mZ i0;have al:dE (G6 d0) (wh (gU W)) (zc D):=ef (aj3 i0) (C.mono i0) (h1 (aFd i0) (g8.mono i0));clear u C b3 g8 v l i0 d9 c8 b5 a4 s0;refine J5;rw[l h1 d0 d0 d qd nd];have j3:Cy (upd d0 d qd) d []:=Gc bI;rw[m d0 d qd p6 h1 j3,a2 (iW QG) (s kE kx X (dD ls (iW (hF a9))) (bW ls (bi (∃i9,M=he ae ae ae) (cZ d0 L) (Cy L d (pC i))) (v qm h1 j3) (hF a9)))];{rintro i x M L S⟨⟨i9,rfl⟩,s,F,c3,lk,mk⟩;rw[B_ (oH f6 S)];have hi:=bx a0;have j6:=bv (hF U);rw[eT]at lk;rw[b d _ rfl (qD.t (k:=vH e) c3 j6 (dc lk (oU i lL) j7)) el (gr s) (mP F (vH e) YU) ak (l2 (fun f=>?_))];{have:=UI F (vH e) YU;rw[eT];exact a20 ⟨hp this lk (wD i lL),uW this lk (wD i lL) hi⟩};{rw[SA,DV,a0];have h5:=mk f;rw[T f e,az];{rw[bj (J (q (aY4 z))),h5];simp[q]}}};rw[bJ p7 i9 R o,dc N2 o,bD b8 (aW (cy (R _ _ h2))) (cm (wh (gU W)) (bi (LG (fun e1 j9 e8=>M=he e1 j9 e8)) (cZ p7 L) (eC (an (zc D) i) (an aL')=ab)) (bp bdU ej) (z.2 _ _ (R _ _ h2)))];{rintro i x M L S⟨⟨e1,j9,e8,rfl⟩,s,g⟩;rw[gy B (oH al S),dC (mY (wI s))];obtain⟨t,c0,n,i5,rfl,c6,d7,k4,k5⟩:=B.mono (wI s);rw[de (an (zc D) (i+1)) (an (zc D) i++[e]) a0,b t _ rfl (cy c6) rfl a _ dx (a _ _ rfl (ol hd) dU gd fX b2 (a c0 d n i5 D e.1 e.2.1 e.2.2 (a rfl (ai6 dm d6) d7 (aY7 D e uv) k4 k5 (o.mono s) (fun b7 i4=>?_))))];cases st:aL' with|true=>{rw[ak (as _ _ rfl) (iq i4)];rw[g9,aFa,g];simp[st]}|false=>rw[v (bB) (sZ (ax (dP (xf i4) h7) ?_))];have g5:aj2 D=ah:=by{rw[ayD,a5M];exact v e uv ai};delta GM.Ci;rw[g5];exact lT};{rintro M L⟨⟨e1,j9,e8,rfl⟩,s,g⟩;rw[oN (mY (wI s)),z g (aj2 D=ab) ayD g];delta GM.Ci;rw[g];rfl}
universe z
noncomputable def L6(p:Pt):tI:=[hY p.y,hY p.x]
theorem ayF{e f:Pt}(h:L6 e=L6 f):e=f:=by rw[a4 L6,aaB,a'F,fL (aj1 a3),eq (aj1 a9),n3 e,db d f];simp only[Xi];simp only at a3 a9;rw[eo]
inductive Cz(H:Hp)(d:Addr)(c5:ek):Prop|mk:gH kA (∀p:Pt,dl (fe F ud)=cw (p∈c5)) (Cz H d c5)
theorem Cz.mono{H L:Hp}{d:Addr}{c5:ek}(s:bQ)(h:Cz H d c5):Cz L d c5:=biD
noncomputable def gQ(l:kk):GM.PK:=(dq l.1.y l.1.x,dq l.2.y l.2.x)
theorem ayG{l m:kk}(h:gQ l=gQ m):l=m:=by obtain⟨⟨a,b⟩,c,d⟩:=l;obtain⟨⟨B,b2⟩,C,d'⟩:=m;simp only[gQ,CI,Ol,Oj,Xi]at h⊢;lia
theorem eS.pk{H:Hp}{v:V}{l:kk}(h:aon){b:Addr}(e:v=cW):G5 H b (gQ l):=by obtain⟨a,x,y,d3,h,⟨p,rfl,c2⟩,q,rfl,e0⟩:=h;rw[Zl,a4 d3 (a p q h c2 e0)]
inductive CA(P:Program)(w:World)(H:Hp)(d:Addr)(ls:nh):Prop|mk:o f (oM P w H d f wX) (∀l:kk,lf (gQ l)=cw (l∈ls)) (yJ H)
theorem CA.mono{P:Program}{w:World}{H L:Hp}{d:Addr}{ls:nh}(h:yJ H)(s:bQ):yJ L:=by rw[bH a b h];exact v f (a.mono s) b
noncomputable def CB(a:nh)(b:ek)(r:Gla.Plan)(i:Nat)(l:fB):cf:=Z (a.contains Em) (dI (a3q (bn (! b.contains p))) (DL pF rq)||dI (D2 (a.contains aJB)) (GM.Lr r l)) (GM.Gv r i l)
noncomputable def agi(D:Gla.Plan):i Et Nat fB cf|none=>GM.Gv D|some B=>GM.Tp B D
inductive ayH(C:Addr)(vs:af)(H:Hp)(Q:VK)(E:XK):Prop|mk:lN (GM.Ord D) (l (pu D.w) (pu D.h) Q6 QV aLP (gt aJ2) (ayH C vs H Q E))
section z
theorem aY9:T.awn.Ok P w aj 4 (ayH bJ):=by refine T.awn.go aT4 aL;generalize aG=e3,aA=A,aF=outer,aE=s,aD=H,aB=vs,aH=Q,aI=E;rw[aN,M oh,aX];generalize kT=a,kU=D,kX=b2,kY=X,kZ=G,la=b4,lj=B;rintro rfl h hB Y b3 n4 k0 j7 e6 k;rw[fF,Q5,aaZ,Bx,ak c1 gW (e.1<df/\e.2<df) (bv jg ben),cR d5 (cA lK (ku p)) b3 n4,e3 (X pD af7 (bW 3 pD adM) (ah (ah KN aq cv (bd (km LP) 4 pD (af6 wt aw bR mn rfl)) (bd (GU K aq) 5 pD (d4 bb cK mn))) (e pD 6 pO (ck "point" 5) (ci 5 pD) (lp (BB (SJ xB cK bb))) (bC cK)) (i 7 pD (dL LP) (bW 8 pD Bb) (bo (mB (lv kg) (V 9 pD 4 pD) (c8 (sg (BB (aX0 wt bR aw)) (fG (bW 10 pD (Z axE bR ey kh))) (i 11 pD (f8 xF) (bW 10 pD (Z axE bR (Cs K bP (oy (hw (di OY))) (oy (di OY))) (hK kg xF))) (fG (dF kh bR)))) (dm (u_ E8) (yG xF)))) cv)))) (fun dl g4 k2 k3=>?_),gU (ad dl g4) k2];generalize ad dl g4=a8 at k3 a4;refine fun dp m9=>?_;rw[l b5 a8 a8 dp qd m9];have d8:Cz (upd a8 dp qd) dp []:=Gc (ar fe);rw[m a8 dp qd b7 b5 d8];have r:=e_;have f7:CA P w b7 dl []:=av (k3.mono b5) (cr aT);rw[bu];cases B with|none=>{subst hB;rw[df ae [] [] bI];have n6:oW Eo (p∈Eo):=bn Ws;rw[K_ Eo];{rw[dI p x c2,A9 (aFg s),bec];have c4:=c4 p;by_cases mm:p∈Eo;rw[cY];{rw[aH0];have O:fe F ud=ae:=by{simp at*;lia};rw[O];rw[bD bbI];simp[mm]}};rw[bb1];rw[LH]at e2;have l1:=aj6 d9;rw[bgb];have d0:=aj5 f9;rw[bc7,bh1,bbN,bep,beC];have n7:a5R=lL:=Xm D;have n8:=i9.length;rw[ht [kM,al6,ac dl,ac dp,b1,ae,ac i0,AE,ac n,e1,j9,e8] Zv ba6,beM,bap];{rintro i M L x h5 hi⟨⟨b1,e1,j9,e8,rfl⟩,s,b9,g⟩⟨t,y,rfl,c6,rfl,b6⟩;rw[jz i9 (b6 _ (br e5)),beL,dR gW e a0,IJ (bt (c_ a5))];subst h2;have ix:=c1 e uv;have j1:=kc ix.1;have k8:=kc ix.2;rw[P st L (lk hM) cn];have rv:=tv (dk (iq st)) J;rw[g3 (aFf gz st),ba'];have R:=iq st;have d:=z_ R;have k9:=bfq;rw[hu RC ba6 RC];have o1:=W rr;rw[Gk (au (nf rv)),apm];by_cases j2:rr∈OF;{rw[b4 g0 (apR=ab) (i0 (oW bG))];rw[g0];rw[o i0 n rv bfh b9.ls (ff c2) (fun J a6=>bz)];have c7:(j4 (t5 Eo) Zv)=RC:=by{trivial};rw[mg (t5 Eo) Zv];rw[c7];rw[bL c9 (u4 OF) Zv];cases h6:RC with|true=>{rw[bdo]}|false=>exact d an6 R bB (l0 h6)};{have g0:apR=ah:=by{trivial};rw[g0];rw[Y c l2 C b0 (mz f6 a0)];have l4:=gy b0;rw[biB,bdZ,bid,bh0,i h5 d2 X_ h9 g4 d6,bA le (ol (R _ _ e5)) (fun q2 m5=>?_)];rw[zb a7 i];rw[bhU,bh2,bhV];have d7:=xf i4;rw[bi2,Lv RC];cases h6:RC with|true=>{rw[rc (ag) ai]}|false=>rw[w an6 c0 (js ak) (l0 h6),ae c9 (u4 OF) ((Zv)++[e])];rw[c9,fh];exact beK}};rw[bi7]}|some B=>rw[bib];have n0:=e6 B rfl;have m7:=n0.GC;rw[df (aa B) tl ps rfl,c b B i2 h7 i7 (U.mono r) (f9 (by have:=n0.clean.ord.lt e a0;rw[ka])) (iX (aS m7.2).2 (fun i5 d4 c8 n5 k5=>?_))];obtain⟨bs,l8,n1⟩:=k5;have k1:=aj6 c8;have ldn:Xn=B.lines.length:=Xm B;have d8:=aFg c8;have f7:=aFi c8;rw[a9 i5 l8 ?_,M n2 dp dl (by rw[bfi];obtain⟨m8,q2,_,_⟩:=d8;rw[b2 q q2];cases q2)];refine aJ bs (fo (Aa6 (∃b1,M=[kM,ac b,ac dl,ac dp,b1,ae,ae,ae,ae,ae,ae,ae]) bQ (aj i5 bs) (dE (eS L) bs tl) (Cz L dp []) (CA P w L dl (B.drawn.take i)))) (c qm k1 l8 n1 d8 ag) (mR (av z.3));{rintro i x M L S⟨⟨b1,rfl⟩,s,l7,m1,d3,f,h3,W⟩;rw[jz m1 S,Cb J,ld Xn a5];rw[eT]at h3;rw[c dl c (gQ l) f _ rfl h3 (Ir (x (Ks (wD i Xn) hi ldn.l (aS m7.2).2 fy))),gf k4 h3];obtain⟨m8,q2,q3,i6⟩:=d3;rw[e el (fI s k2) (Y (J (by rw[bfi,b2 q l8];cases l8)) l7) (cd (nH k4) m1) (d m8 (Y n2 q2) q3 i6) _ (pg (min (i+1) Xn) (min i Xn)) Ym];rw[DV,a5];rw[T m l,a_,bb2]};rintro M d4⟨⟨b1,rfl⟩,k1,l7,m1,d8,f7⟩;rw[dc n1.length f7,bcb,dp e0 n3 U.p,y b j8 (k1 _ _ l9) dU (s gd fX i2 (k7 (k1 _ _ e0)) (bW v (fo (vu (∃i1,M=[kM,ac b,ac dl,ac dp,b1,i1,ae,ae,ae,ae,ae,ae]) bQ (CA P w L dl tl) (Cz L dp (B.pts.take i)))) (d qm k1 f7 d8) e0))];{rintro i x M L S⟨⟨i1,rfl⟩,s,⟨f,h3,W⟩,F,c3,lk,mk⟩;rw[Y p c2 c b0 (oH n3 S),ld a5S c2];rw[eT]at lk;rw[b dp _ rfl (qD.t (k:=ud) c3 (bv b0) (x (Ks lk (wD i a5S) hi (aS m7).2 fy))) el (fI s (gX m9)) (v f (h3.go (nH c3) (eO (Y aFh e))) W) (mP F ud YU) (v ak ?_ akW)];{have:=UI F ud YU;rw[eT];rw[fU]};{rw[SA,DV,c2];rw[N z q p,a_];{rw[bj (e9 (z (ayF y))),(mk q)];simp[z]}}};rintro M d4⟨⟨i1,rfl⟩,r,f7,d8⟩;rw[dc n3.length d8];have n6:oW (ps) (p∈(ps)):=bn Ws;rw[K_ (ps)];{rw[dI p x c2,A9 (aFg s),bec];have c4:=c4 p;by_cases mm:p∈(ps);{rw[dI mm]at c4;rw[ch y O c4];rw[O];rw[bD (d1 ?_ _ ej)];simp[mm]};{rw[aH0,fi O (fe F ud) c4];rw[O];rw[bD bbI];simp[mm]}};rw[bb1];rw[LH]at e2;have l1:=aj6 d9;rw[bgb];have d0:=aj5 f9;rw[bc7,bh1,bbN,bep,beC];have n7:a5R=lL:=Xm D;have n8:=i9.length;rw[ht [kM,ac b,ac dl,ac dp,b1,i1,ac i0,AE,ac n,e1,j9,e8] Zw ba5,beM,bap];{rintro i M L x h5 hi⟨⟨b1,e1,j9,e8,rfl⟩,s,b9,g⟩⟨t,y,rfl,c6,rfl,b6⟩;rw[jz i9 (b6 _ (br e5)),beL,dR gW e a0,IJ (bt (c_ a5))];subst h2;have ix:=c1 e uv;have j1:=kc ix.1;have k8:=kc ix.2;rw[P st L (lk hM) cn];have rv:=tv (dk (iq st)) J;rw[g3 (aFf gz st),ba'];have R:=iq st;have d:=z_ R;have k9:=bfq;rw[hu RA ba5 RA];have o1:=W rr;rw[Gk (au (nf rv)),apm];by_cases j2:rr∈(tl);{rw[cm g0 (apR=ab)];rw[g0];rw[o i0 n rv bfh b9.ls (ff c2) (fun J a6=>by rw[a7 m c4 a6];have:=c1 m (qY (ff c4));exact⟨kc ew,kc fp⟩)];have c7:(j4 (t5 (ps)) Zw)=RA:=by{delta CB;rw[aK (a5Q j2),a5P];rfl};rw[mg (t5 (ps)) Zw];rw[c7];rw[ae c9 (u4 (tl)) Zw];cases h6:RA with|true=>{rw[bdo]}|false=>exact d an6 R bz (l0 h6)};{rw[ae g0 apR ah];rw[g0];rw[Y c l2 C b0 (mz f6 a0)];have l4:=gy b0;rw[biB,bdZ,bid,bh0,i h5 d2 X_ h9 g4 d6,bA le (ol (R _ _ e5)) (fun q2 m5=>?_)];rw[zb a7 i];rw[bhU,bh2,bhV];have d7:=xf i4;rw[bi2,Lv RA];cases h6:RA with|true=>{rw[rc (ym) bz]}|false=>rw[w an6 c0 (js ak) (l0 h6),ae c9 (u4 (tl)) ((Zw)++[e])];rw[c9,fh];exact beK}};rw[bi7]
universe z
theorem bka{A B:Prop}(h:A):x3 Ht:=asn h
inductive ayI(C:Addr)(vs:af)(H:Hp)(Q:VK)(E:XK):Prop|mk:mK (Om D) (ayI C vs H Q E)
noncomputable def CC(D:Gla.Plan):Et->cf|none=>ah|some B=>cw aK'
inductive ayJ(C:Addr)(vs:af)(H:Hp)(Q:VK)(E:XK):Prop|mk:lN (dy anT) (ayJ C vs H Q E)
noncomputable def ayK(D:Gla.Plan)(B:Et):bZ Ms:=GM.kr aJ2 (GM.yV D)
inductive ayL(C:Addr)(vs:af)(H:Hp)(Q:VK)(E:XK):Prop|mk:lN (Om D=ae) (aLP->gt aoR->ayL C vs H Q E)
theorem Ut.mono{C:Addr}{H L:Hp}{v:V}{B:Et}(s:bQ)(h:Ut C H v B):Ut C L v B:=by cases B with|none=>{exact h}|some B=>rw[j b x y z e d h (c b x y z e (d.mono s))]
theorem UL{D:Gla.Plan}(h:zN D=ae):N (D.w<=1048575/\pu D.h) Q6 QV (rf<=2048):=by delta zN jI aji aDO aDN aDM at h;(repeat' rw[eJ]);(all_goals first|(rw[cI])|skip);simp_all
theorem ayM{K:Fg}{H:Hp}{l:Addr}{c5:ek}(h:fd l c5):cs cD (so (aiZ (bn ys))):=by rw[bE e p h];refine a_s;clear e;induction p with|nil=>{rw[kO]}|cons J t d6=>rw[cB J.dp d6]
theorem ayN{K:Fg}{H:Hp}{l:Addr}{c5:nL}(h:dC sA H l c5):cs cD (so (aiZ (bn aax))):=by rw[bE e p h];refine a_s;clear e;induction p with|nil=>{rw[kO]}|cons J t d6=>rw[ak rfl b3 J];exact .cons (wz JC) d6
theorem ayO{I d:Type} [wm I] [wm d]{f:Fq}(W:eU (f a=f b) (a=b))(l m:ba):ar xU (aDu f)=ar l m:=by rw[iQ,IG,IG];exact⟨da (a4c W|>.mp h),da (iQ h)⟩
theorem aY_(l m:ek):ps (bn ys) (bn ys):=by rw[jx,afE];refine ayO (fun a b h=>?_) l m;rw[bbk,aLa];simp only[Ol,Oj,Xi]at h⊢;lia-abstractProof
theorem aY'(l m:nL):ps (bn aax) (bn aax):=by rw[jx,afE];refine ayO (fun a b h=>?_) l m;rw[bbk,aLa];simp only[Ol,Oj,CI]at h⊢;rw[Fn]
section z
theorem aZa:T.awg.Ok P w aj 1 (ayJ bJ):=by refine T.awg.go aTZ aL;generalize aG=e3,aA=A,aF=outer,aE=s,aD=H,aB=vs,aH=Q,aI=E;rw[aN,M oh,aX];generalize kT=a,kU=D,kX=b2,kY=X,kZ=G,la=b4,lj=B;rw[aV h hB k,fF,y _ (cl (BC (afm KN aq cv) (BC bcO (R6 bcO)))) _ gL];cases B with|none=>{subst hB;exact k}|some B=>rw[bib,bcb,a2 hd (a kE kx b _ j8 _ _ rfl (b l9 dU kE kx _ (ayN h.l) (ayN U.l) (m (Up _) (Up _) _ ?_)))];rw[aY'];rw[T gW Wq];{rw[dI q];rw[a2 hd (a gd fX b _ j8 _ _ rfl (b l9 dU gd fX _ (ayM h.p) (ayM U.p) (aJ (Up _) (Up _))))];rw[aY_];have:CC D (aa B)=ar lK ps:=by{delta CC;rw[iQ,IG,IG];exact⟨J z.2.symm,J ⟨zD,wo⟩⟩};rw[amc];exact k};{rw[ed q];have:CC D (aa B)=ah:=cG CC (ed (J (q z.1.symm)));rw[bs this];exact k}
theorem aZb:T.awi.Ok P w aj 4 (ayI bJ):=by refine T.awi.go aT0 aL;generalize aG=e3,aA=A,aF=outer,aE=s,aD=H,aB=vs,aH=Q,aI=E;rw[aN,M iz,aX,Bq,ds h,a'5];have⟨c5,a3,e9⟩:=h.p;have⟨ls,a9,f6⟩:=h.l;have⟨d8,e2,j0⟩:=h.m;rw[pf (L a5T (ec axn (GS bP bP nY nY nY)) (AK aWl) (bZ (AK aWm) (AK aY8) aq)) (b b2 _ rfl (ce a3) a dx _ (j hd dU kE kx X _ (ev rfl (ce a9) (pd e2 (a D.w D.h kA wX (aP ND (fun v a8 a4 p=>?_)))))))];have f5:LR D.w D.h kA wX ND=zN D:=by{rw[rg,N2,Ii];rfl};rw[f5]at p;rw[bu,d0 Om];cases N:zN D with|some e=>{rw[N]at p k;rw[hf p,rJ];refine ii (iU a4)}|none=>rw[N]at p k;rw[QJ];subst p;rw[h7 (UL N),nt ux aIe,J2,bu];cases d2:ajp D with|some e=>{rw[QR,hf p,rJ];exact bd (iU i9)}|none=>rw[QR,QJ];subst p;rw[nt (gg i9) (fun v d4 c8 p=>?_)];have n:=IF c8;rw[bu];cases q2:ajq D with|some e=>{rw[q2]at p k;rw[hf p,rJ];exact iU n}|none=>rw[q2]at p k;rw[QJ];subst p;rw[fe n JJ ⟨aS e8,fun v e4 d9 p=>iU (tu d9)⟩]
theorem aZc:T.awh.Ok P w aj 5 (ayL bJ):=by refine T.awh.go ae4 aL;generalize aG=e3,aA=A,aF=outer,aE=s,aD=H,aB=vs,aH=Q,aI=E;rw[aN,M oh,aX];generalize kT=a,kU=D,kX=b2,kY=X,kZ=G,la=b4,lj=B;rw[cm hB W e6,Iu W,h7 (UL N),b _ (X ae4.nd (b4 aY9 aq) (bm yC aw cv (bW 2 ae4.nd (dL aY3))) (df aw)) a D b2 X G b4 (a B rfl h hB Y e8.1.1 YN JJ (aS e8) e6 a'R),d0 ayK];cases d2:aJ2 with|some e=>{rw[QR,hf p,rJ];exact iU a4}|none=>rw[QR,QJ];subst p;rw[c a D b2 X G ux (by have q2:a_x=ae:=by{delta Xo at d2;cases z:a_x with|none=>{rfl}|some i=>simp_all};refine GM.aeq Y ?_;rw[<-q2];refine GM.aeo a'u;cases B with|none=>{exact bt (GM.S9 Y (bO S))}|some B=>exact bt (GM.aeN (e6 B rfl).clean.lay Y S)) (a ee n1 JJ (aS e8) bef)]
universe z
universe GA
namespace GM
open Gla
variable{r:Plan}
theorem agj{I:Type}{p:Be}:k3 (pa (jM (p y=ab->p x=ab))) (bH x xQ (aCV p) (p x=ab))|[],_,i,x,h=>bB|a::J,q,i,x,h=>by rw[cR pe];cases u:p a with|true=>{rw[aj8 u,ic];cases i with|zero=>{simp_all}|succ i=>have:=agj q.2 i x bB;rw[amc];simp}|false=>rw[aj7 hU];grind-abstractProof
theorem UF.congr{f:ao}{cnt:Nat}{aP lab':cE}(d:FH)(h:E x I5 (kP=lab' x)):UF f cnt lab':=by have lt:BO I5:=fun x l e=>l7 (bx e) qX;rw[w qX Nw a89 a89];{have:=Nw x l e;have S:=lt x l e;rw[<-h x S,<-h l aKA];exact HU x l e};rw[kV (h x (lt x l e)) (Wg x l e)]
noncomputable def aZd(r:Plan)(e:Ln):kk:=(eG,eH)
theorem ayP{I d:Type}(f:Fq)(p:d->cf):∀l:ba,t ((xU).takeWhile p)=t (aCV aHu)|[]=>rfl|a::J=>by rw[da];cases q:p (f a)with|true=>{rw[aj8 q,aj8 (p:=aHu) q,ic,ic,ayP f p J]}|false=>rw[aj7 hU,aj7 (p:=aHu) cu];rfl
theorem ayQ(Z:bq){t:Nat}{s:Sw}(I:Inv iu t s){z:Pt}(h:df tQ aLm):bH e (A (tQ) e) (hE o_) (kb<0):=by intro i e a0;have:=agj (p:=an (mK (fX e))) (l:=tQ) ((atY Z I h).imp Qn) i e a0;unfold linesOf at this;rw[am ayP];delta yQ;rw[oc];delta Lu;simp
theorem CD(g:Nat)(A X:Row):dU (A++X)=dU A++X.map eY:=i4 dv
theorem agk:∀(A:Row)(g:Nat),dU A=an (dU A) ih++[dj g A]|[],g=>rfl|(e,g')::A,g=>by rw[ab b4 (dU ((e,g')::A)) (g::dv g' A)];rw[b4,ic,List.take_succ_cons,ahw];show g::dv g' A=g::(_++[dj g' A]);rw[<-(agk A g')]
theorem L7(g:Nat)(A:Row):t (dU A)=ih+1:=i4 dv
theorem agl(g:Nat)(A X:Row):ap (dU (A++X)) ih (dj g A):=by rw[CD,hC (t L7 jW),agk A g,ph Bk,eT,L7];simp
theorem aZe(A E B d5:Row):dv 0 (h1 d5)=a8U++(dv hk d5++a'K):=by have a3:a8U=an (dv 0 A) ih:=by{rw[CD,List.take_append_of_le_length (t L7 xK)]};have a9:a'K=ajy eY:=by{rw[<-dw,CD,a3E (ac L7 ck jW),aiB (ac L7 ck jW),a5U]};rw[a3,a9,CD];rw[ab e2 (dv hk d5) ([hk]++d5.map eY)];rw[e2,dw,<-dw,<-agk,fh]
theorem aZf(A E B d5:Row):bH (h1 d5)=an (bH (h1 E)) ih++(E6++dg (bH (h1 E)) (ih+V1)):=w9 bH
theorem ayR:∀(N:cJ)(l c J:Nat),N≠[]->dv l Rb=l::((Xl c (iS-1))++[J])|[],_,_,_,h=>aIB|[e],l,c,J,_=>rfl|e::f::a7,l,c,J,_=>by rw[ab b4 (dv l (iG (e::EN) c J)) (l::dv c a'C)];rw[b4,(ayR EN c (c+1) J Rt)];rfl
theorem ayS:∀(d5:Row)(g j:Nat)(e:Ln),c8 E6->aa (E6) e->mv g d5 e=aa (am (dU d5) j 0,am (dU d5) (j+1) 0)|[],g,j,e,_,h=>bB|(f,g')::d5,g,j,e,nd,h=>by rw[b4 c (f∉E6/\c8 E6) bH nd];cases j with|zero=>{have:f=e:=hv bH h;rw[gp];exact cP}|succ j=>have h':aa (E6) e:=by{assumption};have:=ayS d5 g' j e c.2 h';unfold mv;rw[bj (fun(z:e=f)=>c.1 (z▸bO h')),this];rfl
theorem ayT:∀(d5:Row)(g:Nat)(e:Ln),e∉E6->mv g d5 e=ae|[],_,_,_=>rfl|(f,g')::d5,g,e,h=>by rw[b4 h' (¬e=f/\e∉E6) bH h];unfold mv;rw[J (bj h'.1) (ayT d5 g' e h'.2)]
theorem aZg(Z:bq){v a:Nat}{row:ao}(a6:bH row uG)(b3:JO)(dQ:aJS):bH b (A row b) (Wj Bo) (akX<0):=by intro i b U;have:=agj (p:=Bo) (l:=row) ((a5V dQ).imp (fun{x y}q=>by rw[aJ S b6 q];simp only[IG,yM];rw[tP];exact atQ (k6 x S) (k6 y b6) (aei Z b3) q z)) i b U;rw[oc];simp
universe GM
namespace GM
open Gla
variable{r:Plan}
theorem agm(Z:bq)(v:Nat):V b I9 uG/\c8 I9:=by rw[dJ ua];{unfold Cd at U;rw[h4 U];simp_all};{delta Cd;rw[J3,h8 (V3 _),rl q];grind-abstractProof}
theorem ayU(Z:bq)(v:Nat):eN aLz I9:=by have t:=agm Z v;exact(qM t.1 ag).1
theorem ayV(Z:bq)(v:Nat):c8 Zj:=by delta NA;rw[J3];exact((ayU Z v).nodup_iff.mpr (agm Z v).2).imp (fun ne q=>ne (lI q).2)
noncomputable def CF(r:Plan)(t:Nat):Nat:=w7 (bU e.1 t)
theorem agn(Z:bq)(t:Nat):CF r (t+1)=CF r t+t EC:=by have b4:t EC=w7 (e.1==t):=by{delta NA;rw[bA,w3 (ayU Z t)];delta Cd;rw[bA]};rw[b4];delta CF;induction bY with|nil=>{rfl}|cons e J d6=>rw[ac e.1 t p p p];{simp[p,wk p,gE p,d6,Nat.add_right_comm]};{subst p;simp[d6,aDV]};{simp[a3a p,v_ p,show¬e.1<t+1 from a2_ p,d6]}
theorem UM(r:Plan)(t:Nat):CF r t<=dR:=AW
theorem oC(Z:bq):∀t,io t<=1+CF r t|0=>by{show 1<=_;exact xK}|t+1=>by rw[dC (oC Z t)];rw[agn Z];show io t+(t EC-1)<=_;exact cg d6 (qR (t EC) 1)
theorem aZh(Z:bq)(t:Nat):bd EC dR:=by have:=agn Z t;have:=UM r (t+1);rw[eo]
theorem aZi(Z:bq){v:Nat}(d3:v<aJ):bH e (A (bH (jr v)) e) (yQ r eg (jr v)) (eW eG eH eg<0):=by have Y:=hI;rw[bdn];refine ayQ Z I oa;rw[jD iv];exact⟨bfa,GG (Yo).2⟩
theorem aZj(Z:bq){t:Nat}{z:Pt}(b3:QE)(T:oq):bbS:=by rw[ei anL];refine ayQ Z I oa;rw[jD iv];exact⟨bbZ,bbY⟩
theorem aZk(Z:bq){t:Nat}{e:Ln}(a0:iB)(lt:e.1<t+1):(jT/\(mz (t+1)).side e=(mz t).side e/\e∉EC)\/z j (aa (EC) e) ((mz (t+1)).side e=(am (dv alr aLr) j 0,am (dv alr aLr) (j+1) 0)):=by have bo:=(aer Z t).1 e;rw[T e.1 t];{right;rw[n4 (bo.mpr ⟨a0,q⟩),ak j b8];have:=ayS aLr alr j e (t mu (ayV Z t)) (t mu b8);rw[ra (mv _ _ e),oc];rfl};{left;rw[f5 (bo (q (bo.mp m).2)),cq (cx lt q) d1,ra (mv _ _ e)];rw[ayT _ _ _ (t mu d1)];rfl}
universe GM
namespace GA
open PySem PySem.Spec PyProof.Rows L2
def SB(N:bg)(H L:Hp):Prop:=bd Pf (b∉N) alA
theorem SB.of{N:bg}{H L:Hp}(s:bQ):uF:=fun b o e _=>s b o e
theorem SB.trans{N:bg}{H a8 b7:Hp}(a:SB N H a8)(b:SB N a8 b7):SB N H b7:=fun c o e n=>b c o (a c o e n) n
theorem SB.put{N:bg}{H L:Hp}{l:Addr}{o:HO}(s:uF)(m:l∈N):SB N H (upd L l o):=fun b u e n=>Y aHp (s b u e n)
def oN(N:bg)(H:Hp):Prop:=et N (∀O,H a≠aa tO)
theorem SB.ts{N:bg}{H L:Hp}(s:uF)(n:oN N H):QO:=fun a O e=>s a _ e (bo (n a m O e))
theorem dC.sb{I:Type}{R:kj}(A:uw){N:bg}{H L:Hp}{a:Addr}{O:ba}(h:apr)(s:uF)(n:oN N H)(m:a∉N):dC R L a O:=li (dU q m) (s.ts n)
theorem aZl{f g:Str}{v u:V}{J:hW}(h:¬g=f):gx ((g,u)::J)=(g,u)::gx J:=by show(v g f _ _)=_;rw[aO h]
theorem UN{f:Str}{v u:V}{J:hW}:gx ((f,u)::J)=(f,v)::J:=by show(v f f _ _)=_;rw[cP]
noncomputable def qK(b2 B X c7:Addr):hW:=aK "sides" c7 (aK "links" X aFY)
section z
variable{b2 B X c7:Addr}
theorem G7:bN uO "passed" b2:=by delta qK;rw[bgB]
theorem L8:bN uO "gaps" B:=by delta qK;rw[bhM]
theorem zd:bN uO "links" X:=by delta qK;rw[aLk]
theorem aZm{f:Str}(a3:tn "sides")(a9:tn "links")(e2:tn "gaps")(e5:tn "passed"):fr uO f=ae:=by delta qK;rw[di,fh (a3 wo),di,fh (a9 wo),di,fh (e2 wo),di,fh (e5 wo)];rfl
theorem ayW:bN uO "sides" c7:=by delta qK;rw[di,cP]
universe z
inductive ayX(C:Addr)(H:Hp)(x b2 B X c7:Addr):Prop|mk:E dx (bh x (aC C uO)) (hi H)
inductive vJ(H:Hp)(X:Addr)(cnt:Nat)(aP:cE):Prop|mk:∀f:ao,am X (ajZ vn)->GM.UF f cnt aP->hd H
theorem L9{H:Hp}{X:Addr}{cnt:Nat}{aP:cE}(h:hd H):oN [X] H:=qW (by rw[f4 f h,O0];rw[m,q]at e;rw[dV])
theorem aZn{C H x b2 B X c7 cnt aP}(h:hi H)(k:hd H):x≠X:=by rw[cw e h,f4 f k];exact bJ e q
theorem ayX.sb{C H L x b2 B X c7 cnt aP}(h:hi H)(k:hd H)(s:uM):hi L:=by have⟨dx,e⟩:=h;exact⟨dx,dU e (ax (aZn h k))⟩
inductive ayY(C:Addr)(P:Program)(w:World)(vs:af)(H:Hp)(Q:VK)(E:XK):Prop|mk:∀(x dx:Addr),A [kQ] (bh x Ze) (∀L b2 B X c7,c (fW [x]) (hi L) (Y b2) (Y B) (c (Y X) (Y c7) (aj b2 []) (aj B [vn 0]) (j (vJ L X 1 id) (oM P w L c7 uB 0) (X≠b2) (X≠B) (b2≠B) IZ))) (ayY C P w vs H Q E)
inductive ayZ(C:Addr)(vs:af)(H:Hp)(Q:VK)(E:XK):Prop|mk:∀(x b2 B X c7:Addr)(cnt:Nat)(aP:cE),e [kQ] (hi H) (hd H) (kd cnt) ((o L uM (vJ L X (cnt+1) apf) (se cnt))->ayZ C vs H Q E)
inductive ay0(C:Addr)(vs:af)(H:Hp)(Q:VK)(E:XK):Prop|mk:∀(x b2 B X c7:Addr)(cnt n:Nat)(aP:cE),e [kQ,ji] (hi H) (hd H) (n<cnt) ((o L uM (hd L) (se (aP n)))->ay0 C vs H Q E)
inductive ay1(C:Addr)(vs:af)(H:Hp)(Q:VK)(E:XK):Prop|mk:∀(x b2 B X c7:Addr)(cnt a b:Nat)(aP:cE),e [.ref x,vn a,vn b] (hi H) (hd H) (a<cnt) (b<cnt->(o L uM (vJ L X cnt (aFj aP a b)) IZ)->ay1 C vs H Q E)
section z
theorem aZo:T.T2.Ok mg P w aj 1 (ayZ dr):=by refine T.T2.go aTQ aL;generalize aG=e3,aA=A,aF=outer,aE=s,aD=H,aB=vs,aH=Q,aI=E;rw[aN,M oh,aX];generalize kT=x,kU=b2,kX=B,kY=X,kZ=c7,la=cnt,lj=aP;rw[KY j,fb,bU (bo (dF bP nY) (eB yA nY)) x (a S gI Aa zd (dr a5) x _ dx (a _ _ rfl S gI Aa zd X (b _ rfl (ce a5) X _ rfl rfl (aJ a5 (ac bA qX (cg j fy))))))];rw[bA,qX];rw[aS b4 (ajZ vn++[g1 cnt]) (bh aau)];rw[b4];rw[iV (Y (bJ S a5) S) (bt Aa zd X ak)];have b9:kr (bh aau)-1=v cnt:=by{rw[bA,ck,qX,aBX];simp};show Q (.int (kr (bh aau)-1)) _;rw[b9];exact k _ alN (av ak d.new)
theorem ay2:T.av7.Ok mg P w aj 1 (ay0 dr):=by refine T.av7.go au9 aL;generalize aG=e3,aA=A,aF=outer,aE=s,aD=H,aB=vs,aH=Q,aI=E;rw[aN,M aL,aX];generalize aG=x,aA=b2,aF=B,aE=X,aD=c7,aB=cnt,aH=n,aI=aP;rw[KY nc];have ne:=bJ S a5;rw[K (bo (F6 NY (eb Si (f8 aq) aq) (c8 (d5 (f8 (f8 aq)) bP aq) (bW 1 au9.nd (f8 aq)))) aq) (qQ (M=[ac x,bE m]/\uM/\hd L/\m<cnt/\aP m=aP n)) (c n rfl (cH (tw H)) (v f a5 d) nc rfl) ?_];refine Ax;rw[co m M L];rintro⟨rfl,sb,⟨lk,h2,d⟩,c,D⟩;have G:=sb _ _ S ag;obtain⟨l,gl,i⟩:=aim c;rw[fL G (vn l) (a2 (av h2) Pd rfl)];rw[dP];rw[T l m];{rw[fa];refine adQ rfl ?_;have:=k L sb (q4 h2);rw[<-D,Wh gl]at this;exact this};{rw[(ed bM)];obtain⟨p,b3,d5⟩:=aim (i_ (l<cnt) Rm);rw[d (fun g0 j1=>∃f7,f7<m/\g0=[ac x,bE f7]/\SB [X] H j1/\hd j1/\f7<cnt/\aP f7=aP n) aaV x _ dx _ _ (b G gI Aa zd x dx _ (j G gI Aa zd X _ (a _ (vn l) rfl rfl (av h2) Pd X _ (f _ jQ rfl (aJ (av h2) Pd)))))];have g8:=bx gl;rw[fL G m (aJ h2 (LU ag)),aS a7 (bp (lk.map vn) m jQ) (bh (lk.set m p))];rw[a7];rw[fL (Y ne G) jQ (f (av ak) EK p bM (sb.put bK) (av ak (d.aRK gl b3 q)) (br d5 i c) ?_)];rw[HU l p b3,HU m l gl,D]}
theorem aZp:T.T3.Ok mg P w aj 2 (ay1 dr):=by refine T.T3.go aeZ aL;generalize aG=e3,aA=A,aF=outer,aE=s,aD=H,aB=vs,aH=Q,aI=E;rw[aN,M JE,aX];generalize Fb=x,Fd=b2,Fe=B,Ff=X,Fh=c7,Fi=cnt,Fm=a,Fp=b,FD=aP;rintro rfl S c3 k9 f k;rw[b2 (L aeZ.nd (If aq) (bW 2 aeZ.nd (If aw)) (fG (d5 (F_ (aOP rfl) bI T.min aTm aGw) bP beG))),yz S,c x dx ex xS x b2 (a B X c7 cnt a aP rfl S c3 k9 (fun a8 a4 I=>?_))];have j0:=S.sb c3 a4;have⟨h4,c⟩:=j0;rw[c x h4 c xS x b2 (a B X c7 cnt b aP rfl j0 I f a8X)];have⟨W,m1⟩:=(j0.sb I b5);have⟨lk,h2,d⟩:=f5;have F:=d.Lp k9;have i5:=d.Lp f;rw[rc _,k2 (bo (amA<amz) amA amz) (ae aal),x amA amz amA amz (ae FK) (ip (aP a) (aP b))];rw[e];rw[ik m1 (a Aa zd _ _ gL)];rw[k1];have h5:=qX;rw[r X FK h2 (LU fS) (k _ ((e_).put bK) (v (lk.set FK aal) aGE (d.link k9 f)))]
universe z
noncomputable def UO(l J cnt b:Nat):ao:=ct b [l] (l::(Xl cnt (b-1)++[J]))
noncomputable def UP(aP:cE)(l J cnt b:Nat):cE:=ct b (aFj aP l J) apf
inductive ay3(C:Addr)(vs:af)(H:Hp)(Q:VK)(E:XK):Prop|mk:∀(x b2 B X c7:Addr)(cnt l J b:Nat)(aP:cE),e [kQ,vn l,vn J,vn b] (hi H) (hd H) (l<cnt) (i (J<cnt) (kd (cnt+b)) (∀L a,c uM (Y a) (aj a (bh (UO l J cnt b))) (vJ L X (cnt+(b-1)) (UP aP l J cnt b)) Ph) (ay3 C vs H Q E))
noncomputable def UQ(ls:nh)(a:ao)(z:Pt)(n:Nat):ja:=match ls[n]? with|some l=>ct (NX l.1 l.2 z) ae a[n]?|none=>a[n]?
inductive ay4(C:Addr)(vs:af)(H:Hp)(Q:VK)(E:XK):Prop|mk:∀(x b2 B X c7:Addr)(v:V)(ls:nh)(a:ao)(z:Pt)(n:Nat),e [kQ,v] (hi H) (dC eS H b2 ls) (am B (a.map vn)) (b mO (wX+1) (br v z) (gP z) bd' (i (n<=wX) (bfL) (ad u (Ur H u (UQ ls a z n)) (Q u H)) (ay4 C vs H Q E)))
inductive ay5(vs:af)(H:Hp)(Q:VK)(E:XK):Prop|mk:∀(pv:V)(lt:Addr)(r:Gla.Plan)(v:Nat)(c:ao),e [pv,.ref lt] (br pv eg) (fd lt (DE bp)) (zZ r) (l (V b c uG) c.Nodup (gP eg) (V b c (gP (bp b))) (kd gf) (zM (B (GM.aej r v c) (fy an9))) (ay5 vs H Q E))
section z
theorem aZq:T.T1.Ok mg P w aj 1 (ayY dr P w):=by refine T.T1.go aTP aL;generalize aG=e3,aA=A,aF=outer,aE=s,aD=H,aB=vs,aH=Q,aI=E;rw[aN,M fQ,aX,bW x dx,ds S,w _ (ft Bb (is T.afq) (m0 (is T.afq) af7)) cT (fun b2 a0=>cs (ft S a0) S DZ (ay)),cj f b2 x,au a4 [x] (eb aoj aaY) (hp (b_ a0) bK)];have e9:bp aoj aaY b2 []:=by{rw[bX f,ak]};rw[e e7 aoj x aaY x aaY];generalize eb aoj aaY=a8 at a4 e9 e7;rw[kt (fun B b=>cs (ft e7 b) e7 II (vx ay)),cj i B x,cd (ft e9 b),hz (mV (gc (cH (ac hc b))) Qx)];have f6:bp apa Qx b2 []:=by{rw[bX f,bX l];exact e9};have g8:bp apa Qx B hc:=by{rw[bX i,ak]};rw[e f5 apa x Qx x Qx,bo (eb apa Qx) f6 g8 f5,kt (fun X d6=>cs (ft f5 d6) f5 Aa (nw ay)),cj m X x,cm (ft f6 d6)];have n:=ft g8 d6;have c8:=mV (fj (cH (ac hc d6))) FT;have j0:bp Z8 FT b2 []:=by{rw[bX f,bX a];exact f6};have a5:bp Z8 FT B hc:=by{rw[bX i,bX n];exact g8};have l3:bp Z8 FT X hc:=by{rw[bX m,ak]};rw[e d Z8 x FT x FT];generalize eb Z8 FT=d4 at c8 j0 a5 l3 d;refine fun c7 o nd o3=>?_;rw[cj j c7 x,b x _ dx _ rfl (Y aj9 d) gI T.afs (au (nw (vx ay))),z c (upd d4 c7 o x=aa FT) (bX aj9) d];refine k _ b2 B X c7 (mV (m_ (cH (b_ (o:=o) nd))) (aC dr uO)) (sI ak) a0 (by cases q:H B with|none=>{rfl}|some o=>have:=a4 _ _ q ag;rw[oY b];cases b) (ca X (b5 _ _ q ag) d6 d6) (ca c7 (c8 _ _ q ai) nd nd) ?_ ?_ ?_ ?_ a.symm n.symm l;{rw[bX f,gI j0 nd];exact j0};{rw[bX i,gI a5 nd];exact a5};rw[cx [0] (ac (bX m) (gI l3 nd) l3) GM.aRJ,l (o3.go (nH c) (fun g e=>Y j e))]
theorem aZr:T.T4.Ok mg P w aj 3 (ay4 dr):=by refine T.T4.go ae0 aL;generalize aG=e3,aA=A,aF=outer,aE=s,aD=H,aB=vs,aH=Q,aI=E;rw[aN,M amr,aX];generalize Y3=x,aV cQ=b2,bW cQ=B,cB cQ=X,bY cQ=c7,ct cQ=v,dv cQ=ls,d7 cQ=a,fr cQ=z,ZT=n;rintro rfl⟨dx,S⟩c2 d8 gl d3 e8 sl d6 d1 k;rw[tt (id c2),bU (X ae0.nd (bh afv bP aq) (ah ly aw nY (bW 3 ae0.nd (f8 aw)) (D gO (Z awX yc yc aq) bE cv)) (df (f8 aw))) x (a S gI DZ G7 b2 v ls z (a n rfl c2.ls d3 e8 sl d6 d1 (G5 (bt DZ G7 b2 hu))))];rw[aj_];have r:K a n a[n]:=dd eP;rw[d0 UQ,kn];{have C:n<wX:=by{rw[fH (By c)]};have b4:=dd C;have sm:=sl _ (te C);rw[bs b4,c u d b e7 f5 U r1 r2 (mz a9 b4),iV S (u DZ G7 b2 _ (u (av hu) (d_ d) b _ (u pN dh b _ (a pN dt _ _ z (cB r1 r2 d3) sm.1 sm.2 (aP e8 ?_)))))];rw[dP];rw[T (NX ls[n].1 ls[n].2 z) 0];{simp only[q,mL]at k;rw[dI q];exact(k _ rfl)};{simp only[q,iU,r]at k;rw[ed q];rw[iV S beW]}};{rw[zI (x (Bz c)),r]at k;exact G5 beW}
theorem aZs:T.T5.Ok mg P w aj 3 (ay3 dr):=by refine T.T5.go ae1 aL;generalize aG=e3,aA=A,aF=outer,aE=s,aD=H,aB=vs,aH=Q,aI=E;rw[aN,M amr,aX];generalize Y3=x,aV cQ=b2,bW cQ=B,cB cQ=X,bY cQ=c7,ct cQ=cnt,dv cQ=l,d7 cQ=J,fr cQ=b,ZT=aP;rintro rfl S c3 g r j k;delta UO UP at k;rw[fb,rc (b6 (sg (eb gO bb bE) (bo (yy (jn bS gI T.T3.h (eE aZp) a6 T.T3.b .nil fu aGw)) (eb aq)) BE) (e ae1.nd 4 (oz (eB yA bb)) (ck "number" 5) (ci 5 ae1.nd) kN (bC (Sm bS gI T.T2.h (eE aZo) a6 T.T2.b .nil fu))) (c9 (eb aq) bR (eb aw)))];rw[dP];rw[d7 n b];{subst n;rw[yz S,c x dx ex xS x b2 (a B X c7 cnt l J aP rfl (a S c3 g r (fun a8 a4 I=>⟨(ag),fun a b0=>?_⟩))),cF d6 a I b0];rw[cP,cP]at k;refine k _ a (gc (l5 b0)) (by cases q:H a with|none=>{rfl}|some o=>have:=a4 _ _ q fS;rw[oY b0];cases b0) ak ?_;rw[qV I];exact q4 (Y d6 e)};{rw[(ed ag)];rw[j (ae (b-1)) (gB (J [cq z]) (bt (ahD (VZ n)))) aT eP a9v];rw[iT];rw[cF p D c3 m];refine fI (b-1) (yY uM (aj D (v7 i)) (vJ L X (cnt+i) apf)) (aJ (l5 m) (de ak));{rw[qV c3];exact v lk (Y p e) (d.congr (aJ ag))};{rintro i L hi⟨s,f,Y⟩;have G:=S.sb c3 s;rw[yz G,ix (a x dx _ rfl ex xS x b2 (a B X c7 (cnt+i) _ rfl G Y (br j hi (qR b 1)) a8X)),K (b5 _ _ f fS) fS ?_ Pj,DZ ((iq b5) c o g7 nc)];{rw[ak,List.range'_concat];simp};{rw[qV f5,aa lk (Y p e) (d.congr qq)];by_cases q:I5;{simp at*;lia};rw[a_]}};rintro b7⟨s,f,f5⟩;rw[v (ag) (fun e0 n1=>?_),n e0 D ak (co n1 f) ⟨fS,fun g0 n2=>⟨(ai),fun d0 u=>m g0 d0 (co u ak) ak ⟨fS,fun R y=>?_⟩⟩⟩];have c0:=bX (L (ac [vn l] n1) a7U) (ac [vn J] u) (ac (([vn l]++v7 (b-1))++[vn J]) y);rw[bj n,bj n]at k;refine k _ R (iq (cH c0)) (ca R (Ia (dU q (ax (J (by rw[qV f5];have:=Ia e;rw[b2 this y];cases y))))) y y) (nP ak) ?_;rw[qV f5];exact q4 (c0 _ _ e)}
universe z
section z
theorem aZt:T.av8.Ok P w aj 3 ay5:=by refine T.av8.go ae2 aL;generalize aG=e3,aA=A,aF=outer,aE=s,aD=H,aB=vs,aH=Q,aI=E;rw[aN,M iz,aX,K u lt r v c];rintro rfl c2⟨b1,hu,a9⟩Z l nd a0 st q k;rw[fb,w _ (X ae2.nd Bb (bd aq 3 ae2.nd (yy (adx aj' PySem.F.slot_list_insert PySem.F.type_list_insert aWv aw (sH (bh afv aw bb) (as bS bb))))) (df aw)) cT aJ5,gU (ap c0 []) c1,a9 lt (dj hu) (bW b1 (bi (∃j8,M=[aa u,ac lt,OT,j8]) bQ (dC eS L c0 (B aad (fy an9)))) (a qm a4 [] ak .nil) hu)];{rintro i x M L S⟨⟨j8,rfl⟩,s,e⟩;rw[aW p a3 a9 S,gA a3,a3 a b3 a3];have a8:=bO b3;rw[aK (Xp (i+1)) (Xp i) a b3];have d8:=GM.aek Z (Xp i) [] a7B (dc (l b (qY U))) (ax (a5K (aBP _ _) nd)) .nil;rw[cf mem (fX aad c) (by have:=d8.1.mem_iff.mp U;rw[px a5U];exact qY this)];have len:t aad<=gf:=by{rw[d8.1.length_eq];simp;exact(oU i gf)};rw[cr c9 (CO (Xp (i+1))) (aFk r v aad a)];rw[c9];generalize aad=R at*;rw[bE d3 d (id e)];have i5:=oY;rw[bA]at i5;have B:bd aLI R.length:=aID;rw[bJ (bL s J),g (dr d3) c0 x (R.map (fy an9)) rp (t aLI) e.ls (a m (st a a8) Q8 ai (au aI_))];{rw[a7 b U b6];exact⟨a0,st b (mem b U)⟩};{rw[gA b8,a3 b U b8];exact(GM.aZg Z (dc (l b (mem b U))) (l a a8) d8.2) j b U};rw[v (ai) (fun t h7=>?_),T f L aKw h7];have g:=f _ _ d3;have i0:eS aKw nD an9:=m t u x (v ak (bL (iq f) c2) (bL f m));rw[hz (iq f)];have o:=cd (dk f) d;generalize aKw=b7 at g i0 b5 o;generalize d1:t aLI=n at*;have h8:=GH (o:= .lst bdO) g;rw[c c0 vs n nD rfl g ag (a (dc i5.l len q) el (fI b5 c1) bdO (au ak)),dT d2 (aFk r v R a) (R.take n++a::R.drop n)];rw[d2,fh,da,Ds,Dt];have j0:=cd h8 o;exact oI (sF n j0) (.cons (tv h8 i0) (Cn n j0))};rw[bJ L j8 s e];have h5:=aj_;rw[bA]at h5;rw[dc h5 e,fH (k c0 L s c1 e)]
universe z
structure sM(C:Addr)(P:Program)(w:World)(r:Gla.Plan)(H:Hp)(x b2 B X c7:Addr)(s:GM.Sw)(t:Nat):Prop where
 at_:hi H
 p:dC eS H b2 (B (tx o_) (jJ r))
 g:am B (bh (IJ 0 o_))
 k:vJ H X ef eM
 d:∃f n,oM P w H c7 f n/\n<=GM.CF r t/\h2 (jT->zY (fs (bx Y4 amt)))
 n1:X≠b2
 n2:X≠B
theorem sM.nt{C P w r H x b2 B X c7 s t}(h:anN):oN aaL H:=qW (by rw[cw d2 mX,h5 lk h.k];obtain⟨f,n,⟨F,q3,_,_,_⟩,_⟩:=h.d;rw[Br,apQ,az,az];{rw[a6 q3,dV]})
theorem sM.mono{C P w r H L x b2 B X c7 s t}(h:anN)(sm:bQ):iN L s:=by rw[cw d2 mX,bbT,zd q3];exact r (sI (sm _ _ d2)) (ai6 gz sm) (sm _ _ h.g) (q4 (sm _ _ q2)) (D.mono sm) (q3 e a0 lt) (sm _ _ b9)
noncomputable def swL(b2 B X c7:Addr):hW:=[fM "passed" b2,fM "gaps" B,a'E,fM "sides" c7]
theorem L_(b2 B X c7:Addr):uO=swL b2 B X c7:=by delta qK;show aK "sides" c7 (aK "links" X (aK "gaps" B [("passed",YL)]))=_;rw[rN];rw[rN,rN];show aK "sides" c7 [fM "passed" b2,fM "gaps" B,a'E]=_;rw[rN,rN,rN];rfl
theorem aZu(b2 B X c7 l:Addr):ko "passed" cD uO=qK l B X c7:=by rw[L_,L_];delta swL;rw[UN]
theorem aZv(b2 B X c7 l:Addr):ko "gaps" cD uO=qK b2 l X c7:=by rw[L_,L_];delta swL;rw[rN,UN]
theorem aZw(b2 B X c7:Addr):t uO<1000:=by rw[L_];show 4<1000;decide
inductive ay6(C:Addr)(P:Program)(w:World)(vs:af)(H:Hp)(Q:VK)(E:XK):Prop|mk:∀(x b2 B X c7:Addr)(r:Gla.Plan)(t:Nat)(pv:V)(lt:Addr),e [kQ,pv,vn (t aGR),.ref lt] a'M (br pv (bp t)) (fd lt (B anU bp)) (j (zZ r) (t<aJ) (V p de (gP p)) aH1 (∀L e7 d,c (fW aaL) (Y e7) (Y d) (sM C P w r L x e7 d X c7 (nf r (t+1)) (t+1)) IZ) (ay6 C P w vs H Q E))
theorem ay7{r:Gla.Plan}(Z:zZ r){i j:Nat}(hi:gY)(b8:om)(h:eI=bp j):i=j:=by have O:∀{a b},a<b->b<aJ->rp≠bp b:=fun{a b}lt U z=>by{have:=Ni Z.dQ a b ES U lt;rw[<-wZ (b7 lt U),<-wZ U,z]at this;exact GM.mx _ this};rw[fi i j,az,iA,cM]
theorem agp{N d5:bg}{H L:Hp}(s:uF)(h:et N (a∈d5)):fW d5:=fun c o e n=>s c o e (bo (n (h c m)))
section z
theorem mi2{a b c s:Nat}(h:b+c<=s):aak+c<=s:=cp (a5W (oU ..) _) h
theorem mi3{a b c d e s:Nat}(h:b+c+d<=s):aak+c+(d-e)<=s:=cp (aD6 (a5W (oU ..) _) (qR ..)) h
theorem aZx:T.T6.Ok mg P w aj 4 (ay6 dr P w):=by refine T.T6.go aTR aL;generalize aG=e3,aA=A,aF=outer,aE=s,aD=H,aB=vs,aH=Q,aI=E;rw[aN,M JE,aX];generalize Fb=x,Fd=b2,Fe=B,Ff=X,Fh=c7,Fi=r,Fm=t,Fp=u,FD=lt;rintro rfl d5 c2 c6 Z l e8 j7 k;rw[Bx,dy sm (im (gP eI)) (e8 _ (Eb hi)),ei (GM.qG Z t (ez l))];have parts:=GM.Lv r (bp t) akV;have e9:=GM.oC Z t;rw[f5 (GM.UM r t)];have h7:=GM.aZh Z t;have bs:=GM.agn Z t;have r4:=GM.UM r (t+1);have C:=GM.agm Z t;have D:=GM.aZi Z l;have r5:=fun{e:Nat×Nat}(a0:e∈bY)(lt:e.1<t+1)=>GM.aZk Z a0 lt;rw[ab o8 (aHG).row (alZ++(aFl Rr (OE).cnt a_y++bcP)),ab r6 (aHG).cnt ((OE).cnt+(t Rr-1)),ab vg (aHG).aP (v Rr [] (aFj (OE).aP (Ea 0 alZ) a_y) (ee (x<(OE).cnt) ((OE).aP x) x))];have r7:B (GM.aej r t anU) (fy (bp t,rp))=B Rr (jJ r):=by{delta a5Z;rw[jy];rfl};rw[ak r8 Rr iB (p5 bbJ)];have r9:=GM.ayV Z t;generalize nf r (t+1)=a4 at*;generalize alZ=c at*;generalize aGR=d at*;generalize bcP=RB at*;generalize nf r t=s0 at*;generalize hN:Rr=N at*;rw[b2 (i 4 Xu (bh afv bP aq) (bW 5 Xu (bh aZt aq bb)) (i 6 Xu (jn bS gI T.T5.h (eE aZs) a6 T.T5.b .nil fu (yZ (f8 bR) (f8 aI5) (dP cK))) (t cK 7 Xu 8 Xu (af6 wt bP kh (as (bs ey kg) (bs ey (hw kg))) rfl)) (m0 (c9 (hK bP bR) cK (sC aI5)) (c9 (hK bP bR) ey (sC (hw aI5)))))),cw S Xs,tt d5.p,o5 (t (tx Xr)) aka];have nA:gf<=t (tx Xr):=by{rw[i7,lG];simp};rw[iV S (a DZ G7 b2 u (B (tx Xr) (jJ r)) (bp t) gf rfl (a d5.p.ls c2 (sm t l) Q8 (t bA nA) aI_ ?_))];{rw[h4 b6];have:=f_ e (p5 iv);exact⟨sm _ Q_,sm _ fp⟩};{rw[gA b8,a3 e a0 b8];exact D j e a0};have h8:t anU<=dR:=by{delta akf;rw[bA];exact AW};rw[c u lt r t anU c2 c6 (a Z C.1 C.2 (sm t l) (dc (sm b (f_ _ (C.1 b U)).2)) (bn h8 j7) (fun i5 a8 d2 n5 k5=>?_))];rw[r7]at k5;have Y:=d5.mono d2;obtain⟨h4,j0⟩:=ake;have gl:IV<=aka:=by{simp[*]};have g7:ap OB gf (vn ZC):=by{rw[cA,lG,GM.agl];rfl};have g8:ap OB IV (vn (Ea ZC d)):=by{have:=GM.agl 0 (c++d) RB;rw[dw,<-lG,ck,GM.oz]at this;rw[cA,this];rfl};obtain⟨p,o9,p0⟩:=id k5;have s6:ZC<D_:=HB _ (ac lG GM.CD (vU _ (GM.sr c 0)));have s7:Ea ZC d<D_:=HB _ (by rw[lG,<-dw,GM.CD,<-GM.oz];exact vU _ (GM.sr (c++d) 0));generalize s8:ZC=h9 at*;generalize Ea h9 d=b5 at*;have n6:=p0.length;rw[bA]at n6;rw[c x h4 j0 xS x _ (a h4 _ _ rfl j0 gI II L8 (D B h9 (av Y.g) (d_ g7) (i x _ h4 _ j0 gI (u II L8 B (vn b5) (bt (av Y.g) (d_ (j:=IV) g8) i5 o9)))))];rw[n6];rw[b x b2 B X c7 D_ h9 b5 (a iS s0.aP rfl ake Y.k s6 s7 (x (uW e9 bs.g r4 j7)) (fun b7 k7 q2 x1 k2 f5=>?_))];have s9:UO h9 b5 D_ iS=aJ3:=by{delta UO;rw[N z N []];{rw[z];rfl};{rw[bj (ah (z (NV q))),GM.ayR N _ _ _ z]}};have v:UP s0.aP h9 b5 D_ iS=a4.aP:=by{rw[vg];delta UP;rw[N z N []];{simp};{simp}};rw[s9]at k2;rw[v,<-r6]at f5;have p1:t aJ3=iS+1:=by{rw[Xq];rw[it (GM.mu N D_ b5)];unfold GM.linesOf at this;rw[am bA,xM]};generalize hG:aJ3=G at*;have k1:=L9 Y.k;have m2:=q2.ts k1;have j6:=Y.at_.sb Y.k q2;obtain⟨x2,t2,_⟩:=Y.k;have t4:H X≠ae:=by{rw[go lk d5.k];rw[e];rw[Bt]};rw[M t5 i5 X (t4 (bl z n5)),cj x3 k7 X];obtain⟨g4,n1,k3,t6,t7⟩:=Y.d;rw[M p2 c7 X (by rw[gf q k3,b2 t2 q,kJ]),ab m3 x c7 k3 j0];have i4:oM P w b7 c7 g4 n1:=k3.go m2 (eO (lH e p2));have c5:=lH o9 t5;have m4:=cd m2 p0;obtain⟨GP,l8,t8⟩:=Y.p;have l9:=lH l8 d5.n1.symm;have t9:=cd m2 t8;have p3:=lH Y.g d5.n2.symm;rw[au o7 aaL b7 (L (cH d2) (agp q2 ai)),ab p4 k7 c7 i4 k2,ab m7 i5 c7 i4 c5,ab u0 b2 c7 i4 l9,ab u1 B c7 i4 p3];have inj:h2 (∀d3∈bY,gQ xE=gQ (jJ r d3)->e=d3):=fun e a0 d3 V q=>by{have q:=ayG q;unfold GM.aZd at q;rw[cm yi,ca (f_ d3 V)];exact qK (lI q) (lI q).2};rw[kv m1 j6,bA i5 c5 (bv iS (bi (vw (fun j3 i9=>M=[ac x,aa u,bE oY,ac lt,bE gf,ac i5,ac k7,j3,i9])) (SB [c7] b7 L) (vw (fun f n=>vu (oM P w L c7 f n) (n<=GM.CF r t+i) (h2 (jT->zY (hI (bx (s0.side e).1 (s0.side e).2)))) (P e (j<i) N e (zY (hI (bx (IK j 0) (IK (j+1) 0)))))))) (a Kg (cH ej) g4 n1 i4 t6 (wf (nQ (t7 e a0 lt) (m2 _ _ b9))) (fun j e b8=>AA)))];{rw[ps sb];exact as (dz p ag) (av aKx) pM};rw[i2 sb (ce aKx (x n6.l))];{rintro i M L d7 d4 hi⟨⟨j3,i9,rfl⟩,sb,f,n,h3,a3,d8,f9⟩⟨d6,y,rfl,k4,rfl,b6⟩;rw[q0 (av aKx)];have k8:A N N[i]:=pP;have m8:N[i]∈N:=te hi;generalize N[i]=e at k8 m8;rw[bhH];have m9:=akc n7;obtain⟨i1,h1,rv⟩:=oH m4 b6;rw[cA,k8]at h1;rw[b7 h1 xE i1 h1];subst h1;rw[T c8 L (ky hM) k4,d7 l5 hM hM];generalize ky hM=d4 at c8 l5;have f6:=akd (cH c8);have p5:=tv (m9.trans (dk c8)) rv;rw[p1 u2 p5];have i2:=f6 _ _ m1 (ax m3);have l6:=f6 _ _ k2 (ax p4);rw[aW d6 (cy l5) gL,bv gi (j<iS+1) (aa (P0) (vn (IK j 0))) (p7 (getD_some ag)),ah k7 (av l6) (d_ (gi i Ji)) (m k7 _ (av l6) (d_ (j:=i+1) (gi (i+1) ag)) ⟨eu,fun c3 u3=>?_⟩),l d9 d4 d4 c3 aLe u3,e p8 d4 c3 aLe c3 (bx (IK i 0) (IK (i+1) 0)),m d4 c3 aLe e4 d9 p8];have k9:=f6.trans (cH d9);have n0:=En;rw[ik (fI i2) (a T.afs ayW c7 u2 (gQ xE) f n rfl (a rfl (h3.mono n0) (nf (tv (dk d9) p5)) CW ⟨by rw[wg];lia,fun o k6=>?_⟩))];have u4:=h3.mono n0;obtain⟨x4,i6,_,_,_⟩:=u4;rw[ae J e4 (upd e4 c7 o) (nH i6)];obtain⟨le,b4⟩:=x bbJ (t hN m8);rw[e (bm _) (k9.put bK) _ _ k6 (x (aD9 bG)) (fun d3 V lt'=>?_) (fun j d3 b8 V=>?_)];{rw[rb (d8 d3 V lt')];have ne:a'h:=ah (by have:=inj d3 V e le q;rw[this,b4]at lt';exact iO _ lt');exact bfD};{rw[T j i];{rw[fa];rw[k8]at V;rw[b7 V e d3 V];subst V;exact v c3 aT (J _ _ p8)};{rw[rb (f9 j d3 Ys V)];have u5:=r8 d3 (bO V);have ne:a'h:=J (by have:=inj d3 u5 e le z;rw[gp];exact q (Gd r9 V k8));exact bfD}}};rintro M d4⟨⟨j3,i9,rfl⟩,sb,f,n,h3,a3,d8,f9⟩;rw[bhH];have m9:=akc n7;have i2:=d3 m1 m3;have p9:=d3 l9 u0;have u6:=d3 c5 m7;have l6:=d3 p3 u1;have q0:=d3 k2 p4;obtain⟨u7,u9,Un⟩:=f5;have n2:=d3 u9 p2.symm;have q1:=cd m9 t9;have v3:=cd m9 m4;have h5:=q1.length;rw[bA,i7]at h5;have x5:aka<=dR:=by{have nd:c8 (tx Xr):=I.dQ.imp (fun q z=>by rw[rC];exact q.asymm q);rw[dk nd bY (f9 (p5 iv))];simp_all only};rw[au n8 aaL d4 (o7.trans (agp sb aT)),ik i2 (I DZ G7 b2 (av p9) (fun e0 g9=>?_))];rw[zb GP gf];rw[T e5 d4 (U d4 e0 xH) g9,a b4 d4 e0 xH e0 xH,i d4 e0 xH p6 e5 b4,n e0 i5 b4 (e5 _ _ u6) ⟨t eT (mi2 bM),fun g0 e1=>?_⟩];have e6:=a5Y (bs xH p e1);rw[a b9 p6 g0 (xH++p) g0 (xH++p),i p6 g0 (xH++p) p7 e6 b9,ik (e6 _ _ i2) (I DZ G7 b2 (av (e6 _ _ p9)) (fun d0 j5=>?_)),aa GP (aa (v gf+v oY)) Jc GP IV];have c1:=ac Jc j5;rw[a e7 p7 d0 Jc d0 Jc,i p7 d0 Jc v8 c1 e7,n g0 d0 (c1 _ _ b9) e7 ⟨by simp only[ck,eT,sR];exact mi3 bM,fun R b0=>?_⟩];have i0:=L (akb c1) (bs (xH++p) Jc b0);rw[a g5 v8 R aLZ R aLZ,i v8 R aLZ m5 i0 g5];have n9:=i0 _ _ i2;have o1:R≠x:=bJ g5 n9;rw[M q4 R X (mF (xe n2) b0),pz n9 DZ];rw[aZu];rw[z v5 (uX (m5 x)) n9 CW,ae J m5 (eb m5 Zx) (yX v5),co i3 (m5 b) (upd m5 x Zx b) (Y a5 e),e l1 m5 x Zx x Zx];generalize eb m5 Zx=m6 at J i3 l1;have q5:x≠X:=bJ i2 n2;have v7:B≠x:=bJ l6 i2;have v9:k7≠x:=bJ q0 i2;have g6:=ig v7 l6;have w0:=ig v9 q0;rw[ik l1 (I II L8 B (av g6) (fun h2 c0=>?_))];rw[zb _ gf];rw[T o2 m6 (U m6 h2 Bu) c0,a j1 m6 h2 Bu h2 Bu,i m6 h2 Bu q6 o2 j1];have x6:t OB=aka+1:=by{rw[bA,Xq]};rw[n h2 k7 j1 (o2 _ _ w0) ⟨by rw[eT,bA,bA,p1,Xq];exact mi2 bM,fun e2 f7=>?_⟩];have l0:=o2.trans (bs Bu P0 f7);rw[a j2 q6 e2 (Bu++P0) e2 (Bu++P0),i q6 e2 (Bu++P0) q7 l0 j2,ik (l0 _ _ l1) (I II L8 B (av (l0 _ _ g6)) (fun i8 w1=>?_)),aa OB (aa (v gf+v oY+1)) RD _ (IV+1)];have k0:=ac RD w1;rw[a j9 q7 i8 RD i8 RD,i q7 i8 RD q8 k0 j9,n e2 i8 (k0 _ _ j2) j9 ⟨by simp only[ck,eT,sR,bA,p1,Xq];exact mi3 bM,fun b3 n3=>?_⟩];have w2:Bu++P0++RD=Zd:=by{rw[o8,GM.aZe c d RB (aFl N D_ b5),<-lG,fh,fh,Ds,Dt,dw,s8,hG]};rw[w2];have l2:=L (a5X k0) (ac Zd n3);rw[a j8 q8 b3 Zd b3 Zd,i q8 b3 Zd l4 l2 j8];have o3:=l2 _ _ l1;have o4:b3≠x:=bJ j8 o3;have w3:=ig q5.symm n2;rw[M q9 b3 X (mF (xs w3) n3),pz o3 II];rw[aZv];rw[ae r0 l4 (eb l4 aaD) (nH o3),co n4 (l4 b) (upd l4 x aaD b) (Y a5 e),e r1 l4 x aaD x aaD];generalize eb l4 aaD=o5 at r0 n4 r1;rw[ae l7 d4 o5 (bX (hG i0 J) (dk l2) r0),co o6 (d4 b) (o5 b) (n4 _ _ a5 (l2 _ _ (ig a5 e)))];have r2:d4 c7≠ae:=by{rw[gf q h3];rw[q];rw[Bt]};rw[d w4 (H R) (H R) w5 R (xe c4) b0 (xe (n8 _ _ q (bx o1 q4 w5))) b0,d w6 (H b3) (H b3) w7 b3 (xs (ig m3.symm c4)) n3 (xs (ig o4 (n8 _ _ q (bx o4 q9 w7)))) n3];refine k o5 R b3 (fun b o e a5=>?_) w4 w6 (a ⟨W,r1⟩ ?_ (n4 _ _ o4 j8) (v u7 (o6 _ _ q5.symm n2) Un) (a f n (h3.go l7 (eO (o6 _ _ m3.symm e))) ag (fun e a0 lt=>?_)) q4.symm q9.symm);{have w8:b≠x:=J (a5 (ar z));exact o6 _ _ w8 (n8 b o e a5)};{rw[b2 (n4 _ _ o1 (l2 _ _ (i3 _ _ o1 g5)))];rw[o8,GM.aZf c d RB,GM.mu,fh,fh,Ds,Dt,<-lG,<-dw];have r3:=cd l7 q1;have w9:=cd l7 v3;exact oI (oI (sF _ r3) w9) (Cn _ r3)};{rcases r5 a0 lt with⟨lt',a7,_⟩|⟨j,b8,a7⟩;{rw[rb (d8 e a0 lt')];exact v b h2 (t a7 (l7 _ _ e2))};{have j4:j<iS:=bx b8;rw[rb (f9 j e j4 b8),ak b h2];rw[a7];exact l7 _ _ e2}}
universe z
abbrev ze{I:Type}(O:JQ):kj:=fun H v a=>LF (B (O a) cq) H v
theorem ay_{I:Type}(O:JQ):lA (ze O):=sp (by rw[bF e h e0];exact v b e (bv h))
theorem ay'{I:Type}{O:JQ}{H:Hp}{d7:af}{Z:ba}(q:dE (ze O H) d7 Z):∃b1:qb,d7=vF b1/\EL=ahH O/\UA H b1:=by induction q with|nil=>{exact bj [] rfl (lH (by cases m))}|cons J t i=>rw[bF e h J,rf i,w ((b,O _)::b1) ?_ (gB _ b9) a7C];{rw[e,b4];rfl};{rw[cZ (ib m),Z z h,l (e7 t z)]}
theorem aza{I:Type}{O:JQ}{H:Hp}:∀{b1:qb}{W:ba},EL=aFm O->UA H b1->dE (ze O H) (vF b1) W|[],[],_,_=> .nil|u::b1,a::W,e,h=>by rw[da,da]at e;injection e with b4 b9;refine .cons (aP u.1 ?_) (aza b9 (lH (h t (ck m))));rw[<-b4];exact h u bK
theorem azb{I:Type}{O:JQ}{b1:qb}{W:ba}(e:EL=aFm O)(p:a5g aKO):aLJ:=by have e9:eS EL (jM (mM y x=ah)):=a3P p;rw[e]at e9;exact List.pairwise_map.mp e9
theorem agq{I:Type}{O:JQ}{K:Fg}{w:World}{H:Hp}{Q:VK}{a:Addr}{Z:ba}(h:baS)(ne:a_9)(z:a1 fL)(q:∀p o W,c (W.Perm Z) (aLJ) (Y p) (dC (ze O) amW p W) (Q fP amW)):L1 K w uo H Q:=by rw[cA d7 c0 c5,rf (ay' c5),Jv,b9 h5 lC fL b9,y a b1 e7 (pi Jd (.inl c0)),K2 (Iw m)];{obtain⟨W,C,n⟩:=af2 O aJw Z b9;refine q p _ W C (azb n po) a0 (pa (b_ a0) (aEH m))}
theorem agr{I:Type}{O:JQ}(inj:j x y (O x=O y) (x=y)){K:Fg}{w:World}{H:Hp}{Q:VK}{a:Addr}{Z:ba}(h:baS)(ne:a_9)(c:fL<=100000)(z:∃B:ba,eD<9000/\aK Z nz)(q:∀p L W,l (gW W Z) W.Nodup (aLJ) bQ (Y p) (dC (ze O) L p W) (Q fP L)):UC K w uo H (fun v a8=>L1 K w [v] a8 Q):=by rw[cA d7 c0 c5,rf (ay' c5),Jv,b9 h5 lC fL b9,fb,y a b1 c0 (v e7 (fun m nd c4=>by rw[dQ h7 hB z,dk nd (ajy O) (fun k c3=>by have a3:=c4 k c3;rw[b9]at a3;rw[aO x S (zy a3),xN];exact Iw (hB x S)),am bA];exact Rm) (fun r a7 vs F sub nd mem nS=>?_)),gU a_Y nS,bL i5 iR lC (a50 (ph eY nd) (lH (sub t m))),y r vs (lH ((dk a4) _ _ (e7 t (sub t m)))) (pi (dc i5 h5.l c) (.inr (v a7 ak F))),K2 (Iw (sub t m))];{have ex:HB (Vu eY):=by{have b3:∀l:fC,V k l (k∈ahH O)->HB l:=by{rw[rK];induction l with|nil=>{rw[Yr]}|cons k J d6=>intro c3;rw[bH e c9 (d6 (fun G m=>c3 G (ck m))),lm ex (zy (c3 k fx))];exact v (x::f) (by rw[da,ex,<-e]) (fun y U=>by rw[cZ (ib U),a_,l (c9 y z)])};exact b3 _ (fun k m=>bl b9 (x (mem k) m))};rw[bH f5 c9 ex];obtain⟨W,C,n⟩:=af2 O aJw f f5;rw[oV (ac (vF g) a0)];refine q p _ W (ab (by constructor;rw[l (bo (c9 x (C.mem_iff.mp m)))];{intro m;have:O x∈Vu eY:=h_ _ (t b9 (Iw m));rw[am f5,aO y b6 (zy this)];rw[<-inj _ _ e];exact C.mem_iff.mpr b6})) (by have n1:=(aJw).nodup_iff.mpr nd;rw[n]at n1;exact ph O n1) (azb n po) b5 (gX a0) (pa b5 (sub t (aEH m)))}
noncomputable abbrev sO(p:Pt):aQ:=ys
noncomputable abbrev G8(e:fB):aQ:=dq e.1 e.2
noncomputable abbrev Ma(m:Gla.Mark):aQ:=[v ik,v il,v jz,v kD]
noncomputable abbrev CG(e:alC):aQ:=[v e.1.y,v e.1.x,v e.2]
universe GA
namespace GM
open Gla
variable{r:Plan}
theorem aZy(Z:bq){t:Nat}{z:Pt}(b3:r.w<z.x)(T:oq){e:Ln}(a0:e∈bH jb):kb<0:=by rw[jD ((anL).mem e),ao1,fL (akg (mT e.1 Au)),eq (akg (mS e.2 m.2.2 l.2))];have e7:=HK (i:=e.1) ZX;have f5:=HK (i:=e.2) l.2;generalize eG=p at*;generalize eH=q at*;have b4:Kf= -(bdW)-bfy:=by{rw[ui];grind};rw[b4];have a:0<bdW:=hH bM (F8 e7);have b:0<=bfy:=tc bM (F8 f5);exact Kt a b
theorem aZz(Z:bq){t:Nat}{z:Pt}(T:oq):bbS:=by by_cases b3:QE;rw[l (aZj Z b3 T)];{rw[ak al (bH jb) (kb<0) (aZy Z (x (aNl b3)) T a0)];intro i e a0;have le:hE jb=jb:=by{delta yQ;have O:∀J:Row,bk J (i3 x.1.1 x.1.2<0)->J.takeWhile aHt=J:=by{intro J;induction J with|nil=>{rw[Yr]}|cons x J d6=>rw[eF];rw[aj8 (su Lu),d6 aJb]};exact O _ (aJ (al x.1 (Iw S)))};rw[le];have X:=bx a0;unfold linesOf at X;rw[bA]at X;exact⟨as (al e uv),as X⟩}
theorem aZA(Z:bq){t:Nat}{z:Pt}(T:oq):Ao=t:=by delta Gx;have e:de=Wo t++Xv t:=aGq;have a3:cA (Wo t) (pf z=ab):=fun p c2=>by{rw[wx (aFn c2)];have X:i<t:=fJ (bx hi) (List.length_take_le _ _);rw[sX X]at hi;have:=mT i X;rw[f7 (bx hi),am (sx a5),dd a5 hi];cases hi;exact this};rw[e,List.takeWhile_append_of_pos (gW (a3 p c2))];have a9:(Xv t).takeWhile Ql=[]:=by{cases q:Xv t with|nil=>{rfl}|cons p J=>have hi:K de t p:=by{rw[<-List.head?_drop,q];rfl};have X:=bx hi;have:=mS t aY X;rw[am (sx X),dd X hi];cases hi;rw[aj7];intro d3;rw[cm (akg this),ca (akg d3)];exact ca (FY a b) (iO _) (ci (iO _ k.2))};rw[a9,qP,eT];have:=wF;exact qU EB
noncomputable def UR(r:Plan)(z:Pt)(row:Row):ja:=bhB
theorem aZB{z:Pt}(h:z∈de):FF=ae:=su Cf
theorem azc(Z:bq){t:Nat}{z:Pt}(T:oq):FF=UR r z jb:=by delta Cf UR;simp only;rw[aZA Z T,bj (da (by rw[ic (Nz h),pA (sx hi),al (ip i t),c_ (mT i q) e (mx _ this),c_ (mS i q hi) e (mx _ this)]))];all_goals rfl
theorem aZC(Z:bq){z:Pt}(h:im (qK z)):FF=aa 0:=by rw[azc Z (v aY h (fun i a b=>fq))];have e:jr aJ=[]:=by{cases q:jr aJ with|nil=>{rfl}|cons x J=>have:x.1∈bH (jr aJ):=t q Ag;rw[bJ (x ((qG Z aJ aY).mem x.1) this),cd (f_ x.1 m.1)];lia-abstractProof};rw[e];rfl
theorem aZD(Z:bq){z:Pt}{g:Nat}(h:FF=aa g):g<Bj:=by have d:eU cN (io a<=io b):=fun a b le=>by{induction le with|refl=>{exact aY}| @step m _ d6=>rw[tl d6];show io m<=io m+_;exact xK};have h8:Ao<=aJ:=by{delta Gx;exact aID};have O:a8M<io Ao:=by{refine(qG Z _ h8).gap _ ?_;have e:Pk=hE Pk++Gw r z Pk:=by{delta yQ Gw;rw[zG]};have m:a8M∈dv 0 (hE Pk):=sr _ 0;rw[e,CD];grind-abstractProof};rw[a4 Cf];grind-abstractProof
universe GM
namespace GA
open PySem PySem.Spec PyProof.Rows L2
noncomputable def nv:ja->V|none=> .bC|some n=>ji
theorem aZE{H:Hp}{v:V}{o:ja}(h:Ur H v o):v=nv o:=by cases o<;>exact h
noncomputable def US(x I:Addr):hW:=aK "mark_gaps" I (aK "sweep" x [])
section z
variable{x I:Addr}
theorem Mb:bN aap "sweep" x:=by delta US;rw[aLk]
theorem aZF:bN aap "mark_gaps" I:=by delta US;rw[di,cP]
theorem aZG{f:Str}(a3:¬f="mark_gaps")(a9:¬f="sweep"):fr aap f=ae:=by delta US;rw[di,bj a3,di,PZ];rfl
universe z
structure Mc(b c:Addr)(P:Program)(w:World)(r:Gla.Plan)(H:Hp)(y x b2 B X c7 I:Addr):Prop where
 at_:∃dx,bh y (aC c aap)
 sw:sM b P w r H x b2 B X c7 (nf r aJ) aJ
 mg:am I (B (Wy (bo aoS)) nv)
 ne:I≠X
theorem Mc.mono{b c P w r H L y x b2 B X c7 I}(h:jn H)(s:bQ):jn L:=by rw[JP];exact dx (bv q) (h.sw.mono s) (bv h.mg)
theorem sM.lk{C P w r H L x b2 B X c7 s t}(h:anN)(sb:uM)(k:vJ L X ef eM):iN L s:=by have h7:=L9 h.k;rw[f4 (akc h7),zd sd];exact r (h.at_.sb h.k sb) (h.p.sb gz sb h7 (ax h.n1.symm)) (d3 h.g h.n2.symm) k (D.go g (eO (d3 e (J (by rw[gf q D,h5 lk h.k,b2 q2 q,kJ]))))) (sd e a0 lt) (g _ _ b9)
theorem Mc.lk{b c P w r H L y x b2 B X c7 I}(h:jn H)(sb:uM)(k:vJ L X (nf r aJ).cnt (nf r aJ).aP):jn L:=by rw[JP];exact dx (d3 q (by rw[h5 lk h.sw.k];exact bJ q q2)) (h.sw.lk sb k) (d3 h.mg akh)
inductive azd(C:Addr)(vs:af)(H:Hp)(Q:VK)(E:XK):Prop|mk:∀(y dx x I:Addr),A (ed y kQ I) (bh y Ze) (Q .bC (ad y (aC C aap))) (azd C vs H Q E)
inductive aze(b c:Addr)(P:Program)(w:World)(vs:af)(H:Hp)(Q:VK)(E:XK):Prop|mk:∀(r:Gla.Plan)(y x b2 B X c7 I:Addr)(i:Nat)(m:Gla.Mark),e [Aw,pJ] (jn H) anV (zZ r) ((o L uM (jn L) (Q (nv (IL r eN)) L))->aze b c P w vs H Q E)
inductive azf(b c:Addr)(P:Program)(w:World)(vs:af)(H:Hp)(Q:VK)(E:XK):Prop|mk:∀(r:Gla.Plan)(y x b2 B X c7 I:Addr)(v:V)(e:fB),e [Aw,v] (jn H) (eS H v xE) iB (zZ r->(∀L t,c uM (jn L) (L t=aa (bx (a52 r e) (a51 r e))) (Y t) (Q nD L))->azf b c P w vs H Q E)
inductive azg(b c:Addr)(P:Program)(w:World)(vs:af)(H:Hp)(Q:VK)(E:XK):Prop|mk:∀(r:Gla.Plan)(y x b2 B X c7 I:Addr),e [Aw] (jn H) (GM.Net r) aH1 (yv Nq->azg b c P w vs H Q E)
section z
theorem aZH:T.T7.Ok mg P w aj 1 (azd lJ):=by refine T.T7.go aTS aL;generalize aG=e3,aA=A,aF=outer,aE=s,aD=H,aB=vs,aH=Q,aI=E;rw[aN,M oi,aX,al y dx x I,ds b6,g _ (m0 aq aw) y _ dx _ b6 (a rl Oo (ay) y _ dx _ rfl (a ak rl T.avL (vx ay) ?_)),J yx k]
theorem azh:T.GV.Ok mg P w aj 2 (aze dr lJ P w):=by refine T.GV.go au_ aL;generalize aG=e3,aA=A,aF=outer,aE=s,aD=H,aB=vs,aH=Q,aI=E;rw[aN,M amr,aX];generalize Y3=r,aV cQ=y,bW cQ=x,cB cQ=b2,bY cQ=B,ct cQ=X,dv cQ=c7,d7 cQ=I,fr cQ=i,ZT=m;rw[av d5 c4 Z k,cw b6 Xs,bU (bo (bW 2 au_.nd (f8 aq)) (R7 (eb yC aw cv) cv (Cf aw))) y (b b6 rl T.avL aZF I _ (nv aoS) (ax rfl (av d5.mg) EK gL)),d0 IL];cases q:aoS with|none=>{rw[bs q];exact(k H (cH (tw H)) d5)}|some g=>rw[bs q,aLo];rw[(ed Z6)];rw[y y dx b6 rl (a Oo Mb x m2 _ rfl S xS (b x b2 B X c7 g _ (a rfl aFo Xw (GM.aZD Z q) (fun a8 a4 c0=>k a8 a4 (d5.lk a4 c0)))))]
theorem aZI:T.T8.Ok mg P w aj 2 (azf dr lJ P w):=by refine T.T8.go au' aL;generalize aG=e3,aA=A,aF=outer,aE=s,aD=H,aB=vs,aH=Q,aI=E;rw[aN,M amr,aX];generalize Y3=r,aV cQ=y,bW cQ=x,cB cQ=b2,bY cQ=B,ct cQ=X,dv cQ=c7,d7 cQ=I,fr cQ=v,ZT=e;rintro rfl d5 d3 a0 Z k;rw[cw b6 Xs,aLo,ad f D a3 sd d5.sw.d,iZ yi,rb (sd e a0 aLh)];have sl:=(GM.qG Z aJ aY).aQJ e a0 aLh;rw[p1 i5 d3,bU (bo (bW 2 au'.nd (aXZ wt (GU K bP) aq ry)) (as (Cf xI) (Cf xI))) y (b b6 rl Oo Mb x m2 _ (j S gI T.afs ayW c7 i5 (f (gQ xE) f n cW rfl D (nf d3) (b h2 y _ dx _ rfl b6 (b rl Oo Mb x m2 rfl S (bh xS b (cy e2) (a dh x b2 B X c7 _ _ (c _ rfl aFo Xw sl.1 (fun a8 a4 c0=>?_)))))))))];have Y:=d5.lk a4 c0;obtain⟨h4,u⟩:=ake;obtain⟨a,j0⟩:=Y.sw.at_;rw[y y h4 u rl (a Oo Mb x a _ rfl j0 xS (as b (a4.ts (L9 Xw) _ _ e2) dt (b x b2 B X c7 _ _ (a rfl Y.sw.at_ Y.sw.k sl.2 (fun b7 b5 f7=>?_)))))];have O:=Y.lk b5 f7;rw[v eu (fun t h7=>?_),J2];exact k _ t (IF (l5 h7)) (O.mono (b_ h7)) ak (ca t (i9 _ _ q (ax (J (by rw[f4 lk O.sw.k,b2 q h7];cases h7)))) h7 h7)
theorem aZJ:T.T9.Ok mg P w aj 1 (azg dr lJ P w):=by refine T.T9.go TH aL;generalize aG=e3,aA=A,aF=outer,aE=s,aD=H,aB=vs,aH=Q,aI=E;rw[aN,M aL,aX];generalize aG=r,aA=y,aF=x,aE=b2,aD=B,aB=X,aH=c7,aI=I;rw[av d5 N j7 k,fb,cw b6 Xs,aLo];obtain⟨lk,a5,d⟩:=Xw;rw[cm (GM.aR5 N d)];have e9:=GM.oC iW aJ;rw[f5 (GM.UM r aJ)];have h5:=qX;rw[bU (L TH.nd (GU K bP) (e TH.nd 2 (oz (dP aq)) (ck "number" 3) (ci 3 TH.nd) (lp (eb gO amZ bb)) (bC bb)) (df (eB yA (dP aw)))) y (b b6 rl Oo Mb x m2 _ (j S gI Aa zd X _ (a rfl (ce a5) (v lk.length) aT aT bM a9v)))];rw[iT];refine fI lk.length (bQ/\∃d7:ao,aj D (ajh vn)/\d7=dC i (iY (lk[j]?==aa j))) (d (b_ m) [] ak rfl);{rintro i L hi⟨s,d7,f,c3⟩;rw[aLS];rw[d2];have gi:=pP;rw[dR lk l gi];have V:oV<=i:=by{grind};rw[c rfl X _ _ (vn l) rfl (br a5) (aP Pd ?_)];rw[dP];rw[T l i];{rw[fa];rw[dI rfl];rw[K f bz (fI s m) (aJ (d7++[l]) (nP ak))];rw[ajz,DR,<-c3];simp[gi]};{have:ar (v l) xy=ah:=ed bM;rw[oc,b2 s d7 f];rw[ajz,DR,<-c3];simp[gi,q]}};rintro a8⟨a4,d7,f,c3⟩;rw[<-c3]at a;rw[aW D (ce f) ?_,mt (kr (ajh vn)-1) (v Nq)];show Q (.int (kr (ajh vn)-1)) _;rw[J b9 (k a8 a4)]
universe z
structure zf(r:Gla.Plan)(H:Hp)(l:Addr)(Y:bg)(c:AY):Prop where
 lst:am l Ay
 nd:aDW
 len:eO=gf
 at_:HN (I g (A c g) (fd a (ri bp)) (a≠l))
theorem zf.mono{r:Gla.Plan}{H L:Hp}{l:Addr}{Y:bg}{c:AY}(h:aJn)(s:bQ):zf r L l Y c:=KZ (q.mono dm s)
theorem zf.get{r:Gla.Plan}{H:Hp}{l:Addr}{Y:bg}{c:AY}(h:aJn){i:Nat}{ns:ao}(hi:A c ns):I a ED (fd a (wK bp)) (a≠l):=by rw[z a5 (i<eO) ajw (bx hi)];obtain⟨I,e,q,n⟩:=a'4;rw[a6 hi,dV];exact bdd
theorem zf.put{r:Gla.Plan}{H:Hp}{l:Addr}{Y:bg}{c:AY}(h:aJn){i:Nat}{a:Addr}(b3:ED){vs:af}{ns:ao}(d3:dE (dH H) vs (wK bp)):zf r (ap a vs) l Y (c.set i ns):=by obtain⟨d,f5,N,c6⟩:=aGK;have h8:uX (H a):=by{rw[f4 b1 N];rw[q];exact CW};rw[bg4,Z5,In (v vs ak (g9 (yX h8) d3))];{obtain⟨I,b4,d2,n1⟩:=mX j b U;exact d I bz (d2.put dm h8 bfl) n1}
theorem sM.put{C P w r H x b2 B X c7 s t}(h:anN){l:Addr}{o:HO}(m:uX (H l))(c6:l≠x)(n1:l≠b2)(n2:l≠B)(u:l≠X)(y:l≠c7):iN JU s:=by rw[cw d2 mX,bbT,zd q3,ae c3 H JU (yX m)];exact r (sI (Y a54 d2)) (h.p.put gz m n1.symm) (Y aFh h.g) (q4 (Y u.symm q2)) (D.go c3 (eO (Y a53 e))) (q3 e a0 lt) (c3 _ _ b9)
theorem aZK(r:Gla.Plan)(z:Pt)(row:GM.Row):UQ (B (tx row) (jJ r)) (IJ 0 row) z (t FP)=GM.UR r z row:=by have e:row=FP++Ko:=by{delta Xx a55;rw[zG]};have g:ap (IJ 0 row) (t FP) (Ea 0 FP):=by{have:=GM.agl 0 FP Ko;rw[<-e]at this;exact this};have l:(B (tx row) (jJ r))[t FP]?=(Ko).head?.map (ab (jJ r x.1)):=by{have h:row[t FP]?=nd Ko:=by{have:=ph (l₁:=FP) (l₂:=Ko) aY;rw[<-e,zE,<-aE_]at this;exact this};delta tx;rw[cA,cA,h];rw[ls (nd Ko)]};delta UQ GM.UR;rw[l,g];cases nd Ko with|none=>{rfl}|some x=>rfl
noncomputable def Md(r:Gla.Plan):aO Pt Nat:=B ((eL fM).zip dS) (an (e.2.at_,e.1))
theorem azi{r:Gla.Plan}{e:alC}:e∈Md r↔z m (K dS e.2 m) (eN=e.1):=by delta Md;rw[fK];constructor;{rintro⟨⟨i,m⟩,h,rfl⟩;rw[n4 h];rw[aiW]at b8;have:j=i:=by{obtain⟨_,c⟩:=Xk b8.1;rwa [WW]at c};rw[gp];exact bp m b8.2};{rintro⟨m,h,b4⟩;rw[aa (e.2,m) (bO (i:=e.2) ?_) (sQ b4 rfl),J aiW (iE (wM (bx h)))]}
theorem azj(r:Gla.Plan):t (Md r)=fM:=i4 Md
theorem aZL{a b:alC}(h:mM (CG b) (CG a)=ah):b.1.below a.1=ah:=f4 (b.1.below a.1) (GM.iH.mp q) CG
structure PoI(C:Addr)(P:Program)(w:World)(r:Gla.Plan)(d0:Hp)(x X c7 I:Addr)(W:aO Pt Nat)(t k:Nat)(H:Hp):Prop where
 sb:SB aaX d0 H
 sw:∃b2 B,a'M/\I≠b2/\I≠B
 kl:k<=fk
 gl:∃gl:I_,am I (aFp nv)/\a56=fM/\bk i m (anV->A gl (bo aGf aoS xu))
 lo:Gm (E i (i<t) (qK e.1))
theorem PoI.mono{C P w r d0 x X c7 I W t k H L}(h:bZ C r t H)(s:bQ):bZ C r t L:=by obtain⟨b2,B,d5,a,b⟩:=h.sw;rw[cG gl e h.gl];exact a (h.sb.trans (cH s)) (a b2 B (d5.mono s) a b) h.kl (v gl (bv e) J) h.lo
theorem aZM{ls:nL}{e:fB}{n:Nat}(h:e.1<n):bp (d9 (e3 (cG (aki QB)))) e.1 (cG (aki aKB)++[e.2])=d9 (e3 (cG (ef amU QB))):=qD fh e.1
theorem aZN{ls:nL}{e:fB}{n:Nat}(h:e.2<n):bp (d9 (e3 (t (aki OP)))) e.2 (t (aki a7l)+1)=d9 (e3 (gt amU OP)):=qD ck e.2
inductive azl(C b c:Addr)(P:Program)(w:World)(vs:af)(H:Hp)(Q:VK)(E:XK):Prop|mk:dd (zZ D) Q6 (j QV (rf<=2048) (V p lK (gP p)) (V m gV (gP eN)) (∀L y x e7 d i c7 I,c bQ (Y i) (Y y) (Mc b c P w D L y x e7 d i c7 I) (Q Aw L)) (azl C b c P w vs H Q E))
section z
theorem azm:T.av9.Ok P w aj 5 (azl bJ dr lJ P w):=by refine T.av9.go aTT aL;generalize aG=e3,aA=A,aF=outer,aE=s,aD=H,aB=vs,aH=Q,aI=E;rw[aN,M iz,aX,K a D dp dl o4];rintro rfl h Z k0 j7 x3 n9 A6 k;rw[Bx,fF,Q5,aaZ,aK4,b2 (L i_ (arq T.T1.h (bN aZq aY) (ahc ay) rfl T.aVO T.T1.b .nil fu) (e i_ 2 pO (ck "point" 3) (ci 3 i_) kN (bC Bb)) (ah (e i_ 4 pO (ck "point" 3) (ci 3 i_) kN (my bE)) (mB pO (V 5 i_ 6 i_) (c8 (dF (i3 cK) (f8 ey)) (qN bR ey))) (ah (e i_ 7 pO (ck "mark" 8) (ci 8 i_) kN (bC (gi T.afq))) (bW 9 i_ (sq (BK rfl i_ (lv bP) (bk "number" 10 "mark" 8) (bC (V 10 i_ 8 i_)) kN (bC (cp (di kh) (di kh) E8))))) (i 11 i_ bE (mB (lv bP) (V 10 i_ 3 i_) (c8 (F6 NY (gG (eb ly OY (dP xF)) (ml (Cl aJ_) bb)) (i 12 i_ (Cl aJ_) (d5 (R7 (eb a71 (pv 12) bb) cv (jn aq gI T.T4.h (eE aZr) a6 T.T4.b .nil fu (ea (pv 12)))) kg (di aJ_)) (fG (eT 11 i_ bE)))) (yy (jn aq gI T.T6.h (eE aZx) a6 T.T6.b .nil fu (yZ bb (bs bR E8) (i3 E8)))))) (df (av T.T7.h aZH T.aVP T.T7.b (sH aq kg))))))),mv m2,aj r4 (eb (ad m2 Ei) (.ins dr m2 [])) PB,y x m2 ak (fun F r5 r6 X c7 x4 v9 A7 A8 p8 x5 FZ w0 l7 o3 d2 q2 q3=>gL),aj n F (wv (x4 c o (r4 c o e) (ax (ep nx))))];have x6:Y X:=r4.free p8;have A9:Y c7:=r4.free x5;clear x4 r4 A7 A8 p8 x5;have B0:sM dr P w D F x r5 r6 X c7 (nf D 0) 0:=a v9 (pl FZ) w0 l7 (a _ 0 o3 cT (wf (rI lt))) d2 q2;have B1:F x≠ae:=by{rw[cl q v9];rw[e];rw[Bt]};have B2:F X≠ae:=by{rw[go q l7];rw[e];rw[Bt]};have B3:F c7≠ae:=by{obtain⟨q,e,_,_,_⟩:=o3;rw[e];rw[Bt]};have B4:F r5≠ae:=by{rw[FZ];rw[Bt]};have B5:F r6≠ae:=by{rw[w0];rw[Bt]};rw[cf p9 (E b (F b=ae) (z (b≠x) (b≠X) (b≠c7) (b≠r5) (b≠r6))) (a (J (B1 (z▸U))) (J (B2 (z▸U))) (J (B3 (z▸U))) (J (B4 (z▸U))) (J (B5 (z▸U))))];clear v9 FZ w0 l7 o3 d2 q2 q3;rw[a2 (n _ _ hd) (s gd fX dp (dD c5 (n _ _ a3)) (fun lt r7=>g8 (cZ F L/\g3 lt (F b=ae) (b≠lt)) r7 (n _ _ a3)))];{rintro i y L b6⟨s,Y,e,len,nd,al⟩;rw[ld kA b6];have p4:=rg;rw[ix ⟨cT,fun b U=>?_⟩];have a5:b≠lt:=J ai;rw[Lg r7,l8 ak,bfk,biL]};rw[KI p6,bhc];have r8:zf D p6 lt Y (s5 (([]:nL).filter QB)):=by{rw[H9 (pl a84),ld eO U,a'W];rfl};rw[cf x7 (bH Y (F b=ae)) (aV (al b U))];have B6:F lt=ae:=r7;clear b4 al r7;have r9:=tu a4;rw[a2 (r9 _ _ hd) (s gd fX dp (dD c5 (r9 _ _ a3)) (fun le j3=>d oG dm sD (ai6 dm r9).ls (as xu) j3 bM)),e1 p y c2];intro p7 d7 b5 b9 x8;have c3:=vt x8;rw[eW c3];have f5:D.pts.map nk=lN (t (([]:nL).filter OP)):=by{rw[afJ];rw[alR,aGI];simp};rw[f5]at c3;rw[jY];clear x8 f5;have B7:=r8.mono b5;have p3:F le=ae:=gX j3;rw[r B8 le lt r8.lst j3 j3,c5 x9 (b≠le) (r8.at_ i b hi) j3];clear r8 j3;have o5:=r9.trans b5;rw[J2,a2 (o5 _ _ hd) (s kE kx dl (dD ls (o5 _ _ a9)) (bW ls (fo (vu (E2 [kM,ac x,ac lt,ae,AE,i1,j5,ae,ae,ae,ae,ae,ae]) (cZ F L) (zf D L lt Y (s5 (jv QB))) (aj le (bh (lN alH))))) (d Kg i9 B7 b9) (n _ _ a9)))];{rintro i y M L b6⟨⟨i1,j5,rfl⟩,s,TP,p5⟩;rw[B_ (oH f6 b6)];have C:=f_ e uv;have r:=tu s;rw[apm,bfK,ak g7 (s5 (jv QB)) e.1 (cG (jv aKB)) m9];obtain⟨c,b0,⟨vs,d3,pv⟩,nc⟩:=TP.get g7;have u7:=x7 c (bO b0);obtain⟨l4,b3,d1⟩:=gJ e9 C.2;rw[<-wZ C.2]at d1;have i5:iR<=lL:=by{rw[pv.length,bA,bA];exact cp AW (t eT (oU i lL))};rw[b b _ rfl (cy (r _ _ U)) rfl lt _ _ (a (gU c) rfl rfl (av TP.lst) (no b0) (dr d3) a _ (nV (r _ _ hd) (f dp _ _ l4 rfl (av (r _ _ a3)) (d_ b3) (m c _ _ (a2 rfl d3 (br i5 j7 fy))))))];have o6:=TP.put (i:=e.1) b0 (vs:=aIY) (ns:=cG (jv aKB)++[e.2]) (t fh (eK pv (bL r d1)));rw[aZM m9]at o6;rw[z s6 (N L c aIY le (bh (lN alH))) (bX (bt (x9 c (bO b0)))) p5,P c1 F (aV L c vs l4) (fI s u7),f L c aIY b7 o6 s6 c1,ak u9 (lN alH) e.2 aGr C.2,c le _ e.2 (vn aGr) rfl (av s6) (p7 u9) (c1 le e.2 s6 (by simp;exact C.2))];have a7:baP=bh (lN (gt (pC i++[e]) OP)):=by{rw[<-aZN C.2,ajA];rfl};rw[t2 (U b7 le baP)];rw[a7];rw[w (bm _) (fI c1 p3) ?_ (t g9 ak)];rw[g9];rw[gX (b7 le) s6];exact d (Y B8.symm o6.lst) o6.nd o6.len (fun j b2 j6=>let⟨g,d2,q2,q3⟩:=o6.at_ j b2 j6;d g d2 (q2.put dm h8 (x9 b2 (bO j6))) q3)};rintro M v8⟨⟨i1,j5,rfl⟩,c8,q0,s7⟩;rw[N2,H_]at q0 s7;have k1:=tu c8;rw[a2 (k1 _ _ hd) (s jH jt o4 (dD d8 (k1 _ _ e2)) (fun I n0=>d oG js sD (aDF js k1).ls (as xu) n0 (gb x3))),e1 p y c2];intro m5 d7 d9 g5 y0;have c3:=vt y0;rw[eW c3,jY];clear y0;have g5:b5 (m5 I) (B (akk (as (xu:ja))) nv):=by{rw[g5,jy,jy];rfl};have y1:=q0.mono d9;have y2:=fI s7;have y3:F I=ae:=WR n0;rw[r B9 I lt q0.lst n0 n0,r C0 I le s7 n0 n0,c5 C1 (b≠I) (q0.at_ i b hi) n0];have l1:=aFr d9;have y4:=En;clear q0 s7 c8 d9 n0;rw[a2 (l1 _ _ hd) (a jH jt o4 d8 (ah (av (l1 _ _ e2)) (fun c0 p8=>aS0 (K:=K) (R:=ze CG) js (ay_ CG) (aDF js l1).ls (an (aa (e.2.at_,e.1))) p8 bM ?_ ?_)))];{rintro i m d6 y L h4 l8 c4 s k4⟨b,rfl,U⟩b6 j2;refine f d6 _ (cy k4) (ah rfl (TC (m b _ pN dh (m b _ pN dt (sc (sZ (ab (eN,i) rfl (b_ h7) lT)))))))};intro m6 ws f9 i2 n3;rw[eW n3];have n3:dE (ze CG m6) ws (Md D):=n3;delta sh;refine agq (K:=K) (O:=CG) (v ws (av i2) n3) (fun e _=>akR) (t azj (cg x3 fy)) (fun N o W w1 dQ s8 r3=>?_);rw[l h1 m6 m6 N o s8,m m6 N o d0 h1 r3];have o7:=mY h1;have s9:=aj5 o7;have C2:=y4.trans o7;have TP:=y1.mono o7;have p5:=o7 _ _ y2;have m8:=o7 _ _ g5;rw[M C3 N I (mF (hF g5) s8)];have C4:F N=ae:=eX (y4.trans f9) s8;clear y1 y2 g5 f9 h1 o7 i2 n3 s8 p8;have a8:=p9 I y3;have w2:=p9 N C4;have w3:=a8.1;have t2:=a8.2.1;have w4:=aS a8;have q1:fk=rf:=by{rw[w1.length_eq,azj]};rw[hR (B0.mono C2)];have h7:oN aaX d0:=fun b m O e=>by{rw[Br,k3 m,BC bK,BC oo,BC Zb];{lia}};rw[cH hw y5 r3];have C5:=y5.length;have q4:∀b,c (b≠x) (b≠X) (b≠c7) (b≠I) (b∉aaX):=fun b z1 h6 k7 l9 m=>ai;have C6:∀{b o},Pf->b∉aaX:=fun{b o}e=>q4 b (ep nx) (ep x6) (ep A9) (ep (n.free y3));have t4:∀{L:Hp},SB aaX d0 L->∀{b o},Pf->alA:=fun{L}sb{b o}e=>sb _ _ (s9 _ _ e) (C6 e);rw[a2 (s9 _ _ hd) (a gd fX dp c5 (ah (av (s9 _ _ a3)) (bv df (fun t M L=>GL (fun(k:Nat)(j8 j9 l6:bZ V)=>M=n2 j8 j9/\u0 L)) (f 0 ae ae ae (cH (tw d0)) (a r5 r6 d5 (aS a8.2) (a2 a8)) cT ⟨as m8 (x (bA _)) (fun i m hi=>by rw[cA,hi];simp),fun j e _ _ i hi=>rI hi⟩))))];{rintro t M L c6⟨G,_,_,_,_,PI⟩;exact as (c5[t]'(ai)) (av aIV) pM};{rintro M L⟨G,_,_,_,_,PI⟩;exact ce aIV (bV len.g i0.l)};{rintro t M L k3 b7 l5⟨p2,j8,j9,l6,rfl,PI⟩⟨d6,y,rfl,k4,rfl,b6⟩;rw[q0 (av aIV),ic d1 (oH e9 b6)];have e1:xY=p:=by{rw[wZ l5];rw[dd l5 c2];exact c_ c2};subst e1;rw[T b5 L (ky aaN) k4,d7 w5 aaN aaN];have q5:=PI.mono b5;have w6:dH (ky aaN) y xY:=hJ (hG s9 (q5.sb.ts h7)) d1;generalize ky aaN=b7 at w5 q5 w6;rw[aW d6 (cy w5) (a2 rfl (qQ (HY (m=fk-k/\M=bb_/\k<=fk/\u0 L/\dH L y xY))) (m _ p2 l6 (d rfl q5.kl q5 w6)))];clear q5 w6 w5 b5 PI k4 b6;rintro m M d4⟨k,l6,rfl,rfl,kl,t5,w7⟩;have w8:=t5.sb _ _ hw (ar N w2 w2 w2 C3);rw[aW N (ce w8) ?_];rw[C5];have fin:∀e4,i (u0 e4) (dH e4 y xY) (Gm ((xY).below e.1=ab)) (I c (K Y t c) (fW K e4 lt Ay) (fW K e4 le (bh (lN (t (akm OP))))/\dC dH e4 c (B (akf D t) xc)/\∃e7 d,sM dr P w D e4 x e7 d X c7 (nf D t) t/\∀g6 n4 n5,c (SB aaL e4 g6) (e4 n4=ae) (e4 n5=ae) (sM dr P w D g6 x n4 n5 X c7 (nf D (t+1)) (t+1)) (bZ dr D (t+1) g6))):=by{intro e4 f t6 D9;rw[ak g7 (s5 (akm QB)) t (akf D t) l5,eK q6 nc (TP.get g7)];have k5:=bO b0;have k9:=p9 c (x7 c k5);have w9:=p9 lt B6;have x1:=p9 le p3;rw[lL o1 f.sw,b c b0 (av (f.sb _ _ TP.lst (ar lt w9 w9 w9 B9.symm))) (av (f.sb _ _ p5 (ar le x1 x1 x1 C0.symm))) (q6.sb dm f.sb h7 (ar c k9 k9 k9 (C1 c k5))) e7 d o1 (fun g6 n4 n5 B g4 h3 m7=>?_)];{rw[cG gl k2 f.gl,j (f.sb.trans (agp B aT)) (a n4 n5 m7 pG pG) f.kl (v gl (B _ _ k2 (bx w3 t2 w4)) J) (fun j e b8 a0 i hi=>?_),az,az];{rw[al (Nat.lt_succ_iff_lt_or_eq.mp hi),l (f.lo j e b8 a0 i q),dY]}}};refine fH (fun e5=>?_) (fun e5=>?_);{rw[eD t7 (k<fk) e5];have o8:K W k W[k]:=dd t7;rw[Y v t8 wb y6 (mz y5 o8)];have y7:=azi.mp (w1.mem_iff.mp (te t7));generalize C7:W[k]=C8 at o8 y6 y7;obtain⟨z,num⟩:=C8;obtain⟨mk,t9,c9⟩:=y7;have c9:mk.at_=z:=c9;rw[ad y8 (d4 wb) (.tup bet) ((t5.sb.ts h7) _ _ y6),mk w8 (f wb _ (cy y8) ⟨?_,fun e8 u0=>?_⟩),BD 3,ab u1 (cq bet 0 2) (hA z.y z.x)];rw[u1];rw[l d9 d4 d4 e8 FN u0,e y9 d4 e8 FN e8 FN,m d4 e8 FN q7 d9 y9];have z0:=t5.mono d9;have u2:=bL d9 w7;obtain⟨m1,C9,D0⟩:=id u2;rw[b e8 m1 _ _ rfl C9 (oJ y9) (oJ D0) ?_];rw[afH];rw[aKc];{rw[b7 o9 ((xY).below z) ah e6,ak (of (fk-k) (HY (f7=fk-k/\g0=bb_/\k<=fk/\u0 j1/\dH j1 y xY))) aaV];have z2:=fI w8;have z3:=fI y8;rw[mk z2 (f wb _ (cy z3) ⟨?_,fun m4 D1=>?_⟩),BD 3];rw[u1];rw[l f9 q7 q7 m4 FN D1,e z4 q7 m4 FN m4 FN,m q7 m4 FN e4 f9 z4,fJ (z0.mono f9)];have t6:=bL f9 u2;have z5:dH e4 (.ref m4) z:=aP m4 z4;have z6:=hF z2;have z7:=hF z3;rw[K _ z5.dp t6.dp (aJ tY tY)];rw[agf];rw[N u3 z xY];{rw[dI u3];have z8:X4=ae:=(t u3 (GM.aZB (Eb l5)));rw[P i4 e4 e4 ej,lL l2 (O7).sw,BY (O7).gl,bfr,bhv];have a7:a9l=B aGC nv:=by{rw[ajA,z8];rfl};rw[t2 (U e4 I a9l)];rw[a7];rw[zg l2.at_,gX (e4 I) k2,Lt (bn (aR (By e5)) (aS fk k))];{rfl};{rw[bfG];rw[g9,fh];rw[T i num,az,biC]}};{rw[ed u3];have A0:VY xY=ab:=by{rw[al (aFq u3),iA,az]};have TT:GM.Time D t z:=v (ez l5) (j6 (f.lo k (z,num) aY o8 i hi)) (fun i hi k8=>by rw[al (qT hi),l (GM.vk A0 (wC q k8)),kV q A0]);obtain⟨q8,q9,m3,v5,v7⟩:=f.sw;obtain⟨r0,r1⟩:=akl;rw[o5 (t (tx amj)) (nf D t).row.length,c x r0 r1 xS x q8 (a q9 X c7 (.ref m4) (B (tx amj) (jJ D)) (IJ 0 amj) z (t (Xx D z amj)) (a rfl akl m3.p m3.g (cz Xq bA i7) z5 (bl c9 (A6 mk (bO t9))) a_M ?_ (fun i q e0=>?_) a_N))];{rw[h4 e0];have:=f_ e (p5 ((GM.qG Z t (ez l5)).mem e));exact⟨n9 _ (Eb Q_),n9 _ (Eb fp)⟩};{rw[bA,i7];delta Xx;exact aID};{rw[gA e0,a3 e a0 e0];exact GM.aZz Z TT i e a0};rw[aZK,<-GM.azc Z TT]at hu;have hu:=aZE hu;subst hu;rw[ab z8 X4 X4,P i4 e4 e4 ej,lL l2 (O7).sw,BY (O7).gl,bfr,bhv,aS a7 a9m (B aGC nv),t2 (U e4 I a9m)];rw[a7];rw[zg l2.at_,gX (e4 I) k2,Lt bM];{rfl};{rw[bfG];rw[g9,fh];rw[T i num];{rw[fa];rw[MB u4,aK aHk];rw[t9]at hi;have:mk=m:=ax hi;rw[<-this,c9]};rw[biC]}}};{rw[da o9 ((xY).below z=ab) e6];obtain⟨c,b0,d2,q2,q6,q8,q9,m3,i6⟩:=fin q7 z0 u2 (wF (by rw[al (qT b8)];{have j4:=bx a0;have:=Ni dQ k j t7 j4 q;rw[dd j4 a0];have a0:=c_ a0;rw[bY a0 C7];have h2:=aZL this;simp only at h2;rw[N q2 e.1 z,Z q2 o9];{rcases aFq q2 with J|J;{rw[J]at h2;cases h2};rw[l (GM.vk o9 J)]}};{rw[fa];rw[o8]at a0;cases a0;exact o9}));obtain⟨r0,r1⟩:=id akl;rw[Li u2]}};{rw[eD t7 (fk<=k) e5];obtain⟨c,b0,d2,q2,q6,q8,q9,m3,i6⟩:=fin d4 t5 w7 (wF (cz (bx a0) (f0 (yv z (Bz e5) b8))));obtain⟨r0,r1⟩:=id akl;rw[Li w7]}};rintro M h9⟨A1,j8,j9,l6,rfl,PI⟩;intro y dy n6 D2 D3;rw[lL A2 PI.sw,BY PI.gl];have D4:gl=akk (bo (akj D eN)):=by{apply NI;intro i;rw[cA];cases hi:gV[i]? with|none=>{have:rf<=i:=by{rw[al (ip i rf)];{rw[dd q hi];cases hi};rw[iA]};rw[zI ag];rfl}|some m=>rw[o2 i m hi];by_cases q:i∈cG (Xy A1);{rw[aK q];rfl};{rw[aO q];have D5:(eN,i)∈W:=w1.mem_iff.mpr (azi.mpr (bp m hi));rw[n4 D5];show _=aa (akj D eN);rw[GM.aZC Z (z:=eN) (fun n8 R=>PI.lo j _ (by rcases ip j A1 with J|J;rw[l (cz (aB6 (bp (eN,i) (bO (i:=j) (t (sX J) b8)))) q),l J]) b8 n8 R)]}};subst D4;rw[P u5 h9 bg6 (afG n6 D2 D3),aj A3 h9 (db (t4 a57 e)),e i8 (upd h9 dy (.own y)) y aGJ y aGJ];have r2:Y y:=A3.free n6;rw[r D6 y I k2 n6 n6];generalize bg6=i3 at u5 i8;rw[e y dy x I rfl i8 rfl ?_];have n7:=A2.mono u5;have A4:=n7.at_;obtain⟨A5,A4⟩:=A4;obtain⟨E1,u6,_⟩:=n7.k;obtain⟨f8,v3,⟨E2,p1,_,_,_⟩,_⟩:=n7.d;obtain⟨E3,D7,_⟩:=n7.p;rw[M D8 y x (by rw[cl q A2.at_,b2 e n6];cases n6)];refine k _ y x e7 d X c7 I (fI (A3.trans u5) r2) x6 r2 (F dy ak (n7.put (jH i8) D8 (bJ i8 D7) (bJ i8 n7.g) (bJ i8 u6) (qx i8 p1 Z6)) (Y D6.symm (u5 _ _ k2)) t2)
universe z
noncomputable def vK(D:Gla.Plan)(W:Hf->ja)(m:Gla.Mark):cf:=alS&&dl (W m)
inductive azn(C:Addr)(vs:af)(H:Hp)(Q:VK)(E:XK):Prop|mk:∀(a p:Addr)(D:Gla.Plan)(b2 X G:Addr)(W:Hf->ja),e [bc,fP] Al (am p (B (akk W) nv)) (t7 (WU ala tA gV)) (azn C vs H Q E)
inductive azo(vs:af)(H:Hp)(Q:VK)(E:XK):Prop|mk:∀(p:Addr)(c0:ao),e [fP] (am p (akn vn)) (kd lO) (t7 (Xz 0 [] (akn aa))) (azo vs H Q E)
theorem azp{I:Type}:Gw ((zJ (x∉c/\l f y (f<j) (K l f y) QK))->Xz i c l=ae)|[],_,_,_=>rfl|x::J,i,c,h=>by have b1:=h 0 x rfl;unfold GM.yR;rw[aO (J (b1.1 (Nz z)))];refine azp (I:=I) J (i+1) (x::c) aI_;have M:=h (j+1) y bB;rw[v Ym (fun f d7 lt O=>M.2 (f+1) d7 ag bB),cZ (ib m),l (M.2 0 x aT rfl wo),az]
theorem azq:∀(l:I_)(i:Nat)(c:I_)(k:Nat)(x:ja),i (K l k x) (P y (j<k) l y (y∉c/\l f z (f<j) (K l f z) (z≠y))) (x∈c\/z j (j<k) Ew) (Xz i c l=aa (i+k))|[],_,_,_,_,h,_,_=>bB|y::J,i,c,0,x,h,_,S=>by{have:y=x:=ax h;rw[gp];delta Xz;rcases S with m|⟨j,lt,_⟩;rw[a_,az]}|y::J,i,c,k+1,x,h,g,S=>by have e5:=g 0 y aT rfl;unfold GM.yR;rw[fh (e5.1 (Nz z)),(azq J (i+1) (y::c) k x kH (fun j z lt c9=>by have a:=g (j+1) z ag kH;rw[v Ym (fun f d3 lt' a0=>a.2 (f+1) d3 ag kH),al (ib m),l (a.2 0 y aT rfl zD),l (a.1 q)]) (by rcases S with m|⟨j,lt,b8⟩;rw[l (.inl (ck m))];{cases j with|zero=>{simp_all}|succ j=>rw[pc (v j ai kH)]}))]at⊢;rw[dZ];simp+arith [*]
section z
theorem aZO:T.aws.Ok P w aj 1 azo:=by refine T.aws.go TM aL;generalize aG=e3,aA=A,aF=outer,aE=s,aD=H,aB=vs,aH=Q,aI=E;rw[aN,M fQ,aX,bW p c0,aV c7 c9 k,fb,e3 (L TM.nd aQp (mB (lv bS) (V 2 TM.nd 3 TM.nd) (c8 (dm (BB (aQk xB bb aq)) aw) (d4 aq bb mn))) (df cv)) J5,x7 xW,e b4 H d xW d xW,iG (ad d xW),bA p (dj c7) (bv lO (fo (vu (vw (fun o j8=>M=[ac p,rD,o,j8])) bQ (oB qc (∀n:Nat,dl (fe F (hx cL))=cw (n∈XA i))) (aP j n (j<i->aa c0 n->n∉XA j)))) (d Kg a4 (d [] b4 aY (ee (ar fe))) (fun j n b8=>AA)))];{rw[ps s];exact as (vn c0[i]) (br c7) ai};rw[i2 s (av (br c7) aT)];{rintro i M L k3 b7 hi⟨⟨o,j8,rfl⟩,s,⟨F,c1,lk,mk⟩,g⟩⟨d6,y,rfl,k4,rfl,b6⟩;rw[q0 (br c7)];have d1:=pP;rw[dR c0 n d1];rw[cA,d1]at b6;cases b6;rw[aK (XA (i+1)) (XA i) n d1,hz (j5 (eB ji) k4)];have a:upd L d6 (eB ji) d=aa qc:=co k4 c1;rw[d7 b9 (eB ji) (eB ji)];generalize ky (eB ji)=b7 at b5 a b9;rw[d d6 _ rfl (cy b9) rfl d _ (au (jq.k (k:=hx cL) a))];have W:=mk n;by_cases m:n∈XA i;{rw[dI m]at W;rw[ch q e0 W];rw[e0];rw[bD (ax b5 ?_),n4 m,dE j4 (j<i)];rw[sX j4]at b8;rw[azq (akn aa) 0 [] i (aa n) ai (fun j y b8 b6=>by rw[v jK (fun f z lt c9 e=>?_)];rw[cA]at b6 c9;rw[a3 d7 O b6,a3 d3 a0 c9,c7 (c_ e),cb];exact g j d3 b8 O (bO (i:=f) ai)) (.inr (v j j4 ai)),Nat.zero_add]at⊢;rfl};{rw[ed m]at W;rw[fi e0 (fe F (hx cL)) W];rw[e0];rw[aW d (qD.k (k:=hx cL) a (dc lk hi c9)) (d (bm _) (gr b5) (as ak ?_ (fun C=>?_)) (fun j C b8 j2=>?_)),cc (UI F (hx cL) YU) (cg this lk)];{rw[SA,g9];have:=mk C;rw[T C n,az,dY]};{rw[T j i];{lia};rw[l (g j C Ys j2)]}}};{rintro M L⟨⟨o,j8,rfl⟩,s,_,g⟩;rw[Jn];rw[azp (I:=Nat) (akn aa) 0 [] a'u]at⊢;{rfl};{rw[v jK (fun f y lt b6 e=>?_)];rw[cA]at S b6;rw[a3 b1 G S,a3 d7 O b6,c7 (c_ e),cb];exact g j d7 (bx G) G (bO (i:=f) ai)}}
theorem aZP:T.awr.Ok P w aj 1 (azn bJ):=by refine T.awr.go aT8 aL;generalize aG=e3,aA=A,aF=outer,aE=s,aD=H,aB=vs,aH=Q,aI=E;rw[aN,M oh,aX];generalize kT=a,kU=p,kX=D,kY=b2,kZ=X,la=G,lj=W;rw[aV h c7 k,fF,aK4,ez (X XC cv (mB (lv bP) (V 3 XC 4 XC) (i 5 XC (Cl bR) (gl (gG bgT bgT) bb) (c8 (ff (eb yC amZ cv) (gG (eb KN aw cv) (ml cK aw)) bb) (bW 2 XC cK)))) (df cv)) (a hd dU jH jt G d8 rfl (av e2) (bv rf (bi (GL (fun l j8 b1 i1=>M=[kM,ac p,aa l,j8,b1,i1]/\Ct aMC L l gV i)) bQ (ae (j<i) gV ala tA gV)) (v (a .bC ae ae ae (bd (.inl xJ))) ej (fun j y b8=>AA)))),ck d8 d8 Ii (br e2),wQ (ap d8 (br e2) Ii aY)];{refine iz;rw[K i M L k3 b7];rintro hi⟨⟨l,j8,b1,i1,rfl,a5⟩,s,g⟩⟨d6,y,rfl,k4,rfl,b6⟩;rw[aW m c4 j0 (b6 d8 (br e2))];have e:lA aMC:=fun _ _ _ _ t h=>hJ t h;rw[hz (j5 hM k4),my e k4,d7 b9 hM hM,ou (lQ (dk b5) J),bo (ky (eB cW)) B b9 U,d d6 _ rfl (cy b9) rfl b _ (v pN ?_ (fun e8 u0=>?_)),BD 4,ab u1 (cq [cq ik,cq il,cq jz,cq kD] 0 2) (hA ik il)];rw[u1];have c8:=fj a_u;have f:=B.mono e a_u;rw[e e7 b7 e8 aGF e8 (bx ik il)];generalize upd b7 e8 aGF=d4 at c8 f e7;rw[fl apZ (Q pJ d4) (by rw[oN c8];rw[afI c4 U g];rfl),u apZ gV ala tA gV bz];have d:vK D W m=ah->apZ=ab:=ah (f9 oK q);have c3:=dn hd;rw[db e8 e7 (dm a7I)];{rw[a2 c3 (v Ib y_ a_1)];{rw[bn e8 e7 (dm a_Z)];{rw[a2 c3 (aJ Ia GY)];by_cases i0:ik<D.h;{have st:alS=ab:=by{delta XB;simp[pm e5,pm e6,pm c1,i0]};refine adQ (x (mj i0)) (f p _ _ (nv (W m)) rfl (av (dn c7)) EK gL);cases n:W m with|none=>{rw[bD aIg];delta vK;rw[n];simp}|some Z=>rw[(ed Z6)];have ok:vK D W m=ab:=by{delta vK;rw[st,n];rfl};have yL:Ct aMC d4 (.ref e8) gV (i+1):= .inr (f i m c4 (aP e8 e7));rw[bu,CC f];{rw[bD (v a8Q c8 (MO ?_))];delta oK;rw[ok];subst o;simp};{rw[n e8 c (oJ e7) (oJ b0) ?_];rw[afH];have f7:apZ=! q.at_.below eN:=by{delta oK;subst c0;simp only[ok,a58,e0];simp[tA]};refine fH (fun r=>?_) (fun r=>?_);rw[l (fin aIX),cx a8Q c8 (MO bz)]}};{have st:alS=ah:=by{delta XB;simp[i0]};refine aV6 ag (fin (d ?_));delta vK;rw[st];rfl}};rw[o1 aIg c1]};{rw[b4 o9 (¬il<D.w) (sU (Bz e6)),bD (fin (d ?_))];delta vK XB;simp[o9]}};rw[o1 (aIg) e5]};{refine fQ;rw[X5];rintro⟨⟨l,j8,b1,i1,rfl,a5⟩,s,g⟩;rw[Jn];rw[axx g];rfl}
universe z
inductive azr(C:Addr)(vs:af)(H:Hp)(Q:VK)(E:XK):Prop|mk:dd (GM.Net D) (DN D) (zN D=ae->gt (GM.vo D)->azr C vs H Q E)
theorem aZQ{D:Gla.Plan}(Z:zZ D)(c0:zN D=ae):cA lK (gP p):=gW (by rw[h7 (UL c0)];exact⟨hx (Z.wide p c2) e8.1.1,hx (Z.BV p c2) YN⟩)
theorem aZR{D:Gla.Plan}(F:DN D):∀m∈gV,gP eN:=fun m c4=>⟨t6 (wN m c4).1.1,t6 (wN m c4).1.2⟩
theorem azs{I:Type}{f:I->ja}:k3 (bk l (dl (f x)=ab)) (∃ns:ao,xU=wK aa)|[],_=>dw []|a::J,h=>by rw[cl ns (azs (l:=J) anY),ch n d1 (h a bK)];exact r2 (n::ns)
theorem aZS(D:Gla.Plan)(B:Et):GM.Tt D B=GM.kr (Om D) (GM.kr (Z anT ae aoR) (GM.vo D)):=by cases B with|none=>{rfl}|some B=>delta GM.Tt CC;by_cases q:aK';rw[a_];{simp only[q,iU,aCZ,Dg];rfl}
theorem aZT{D:Gla.Plan}{B:Et}(U:E b (B=aa b) (GM.Clean b))(W:Om D=ae)(d1:(Z anT ae aoR)=ae):GM.Net D:=by refine(GM.aSw U W ?_).1;cases B with|none=>{exact d1}|some B=>delta CC at d1;by_cases q:aK';rw[cM];{simp only[q,iU,aCZ,Dg]at d1⊢;exact d1}
section z
theorem aZU:T.awq.Ok P w aj 6 (azr bJ):=by refine T.awq.go aT7 aL;generalize aG=e3,aA=A,aF=outer,aE=s,aD=H,aB=vs,aH=Q,aI=E;rw[aN,M iz,aX,K a D b2 dl G,cm N F c0,fb];have e8:=UL c0;have Z:=iW;rw[z (L ako (dL azm) (e ako 2 (oz nY) (ck "number" 3) (ci 3 ako) kN (bC (jn aq rl T.GV.h (sH azh) a6 T.GV.b .nil fu (ea bb)))) (oJ (b4 aZP aw) (oJ (a7 aZO aw) (bo (D ly (dP aw) (Sm aq rl T.T9.h (sH aZJ) a6 T.T9.b .nil fu) (dQ (dL aVW))) cv)))) JJ (aS e8) aHj (aZQ Z c0) (aZR F)];have k3:=ux;rw[cw hd k3.at_,dj e2 j0 k3.m];have g8:=Ii;rw[a2 hd (a jH jt G _ rfl (ce e2) (v ND) rfl (v aT bM (fun p g=>?_)))];rw[iT];have j:X≠p:=by{rw[f4 lk Y.sw.k];exact ft q g};refine fI ND (o0 a8 (aj p (B (B (D.marks.take i) (bo Jo)) nv))) (v (l5 g) (Y.mono (b_ g)) ak);{rintro i L hi⟨sb,d5,e⟩;rw[aLS,j7 3 (cq (0+xy))];rw[d2];have c4:A gV (dz gV ai):=pM;generalize dz gV (bV hi g8.l)=m at c4;rw[a9S,ix (a y dy _ rfl b6 aaq D y (gy m d5 c4)),g3 (b5 _ _ e (ax aj9)),K b9 (by simp;exact hp (oU i rf) aHj fy) ?_ Pj];{intro c o g7 nc;rw[cj ch c p,J (bX ch) ((akd b5) c o g7 nc)]};{rw[bbi,gX (b7 p) b9];have B:=bJ b9 a3;obtain⟨R,j6⟩:=O.sw.at_;obtain⟨h3,n2,⟨m8,d7,_,_,_⟩,_⟩:=O.sw.d;rw[M n1 p e7 (by rw[f4 vs Y.sw.p,fu g q,kJ]),an n2 p d Y.sw.g g,an u p I Y.mg g];exact F b1 (Y B.symm a3) (O.sw.put h8 (bJ b9 j6) n1 n2 aj9 (qx b9 d7 Z6)) (Y u.symm O.mg) O.ne};{rw[ak,DV,c4];simp}};rintro b7⟨sb,O,f⟩;rw[dc g8 f,aj b5 b7 (db (sb b o (a4 b o e) (ax (ep b0))))];have i4:=gg b5;rw[d0 GM.vo,d a p D b2 dl G (bo Jo) (v i4 f (fun v d4 c8 d3=>?_))];have n:=fj c8;rw[ab c1 (WU (vK D (bo Jo)) tA gV) ba3];rw[c1]at d3;rw[bu];cases g0:ba3 with|some i=>{rw[va g0,fd dl n ⟨(ai),h0 (tu cn)⟩]}|none=>rw[lw g0];have d3:=d3;rw[tN];have e9:=(GM.Ta.mp g0).1;obtain⟨ns,a7⟩:=azs (f:=fun m:Hf=>Jo) (l:=gV) (fun m c4=>ai);rw[cd (dn f)];rw[a7,jy]at l;have d6:zr=rf:=by{rw[it a7];simpa using aCs};have r:=l;rw[y p ns r ⟨bn d6.l aHj,bbC⟩];have U:=tu d9;rw[<-a7]at d3;rw[bu,amf];cases M:Xz 0 [] (akk (bo Jo))with|some i=>{rw[va M,fd dl U ⟨(ai),h0 (ajG cn)⟩]}|none=>rw[lw M];have d3:=d3;rw[tN];have o1:=bN (O.mono c8) d9;obtain⟨dy,b6⟩:=o1.at_;have J:=fI r;rw[d p _ rfl (ce J) y dy _ (a b6 aaq D y x e7 d X (f c7 I o1 (v N (aS e8) (fun g6 f9=>?_))))];have S:=ajG f9;rw[bA,d6];rw[kn];{have C:rf<a59:=by{rw[fH (By c)]};simp only[C,mL]at k;rw[c a D b2 dl G (gg S) (ai) (h0 (S.trans cn))]};{rw[b4 C (¬rf<a59) (sU (Bz c))];simp only[C,iU]at k;exact ax S rfl}
theorem azt:T.judge.Ok P w aj 7 (axM bJ):=by refine T.judge.go TK aL;generalize aG=e3,aA=A,aF=outer,aE=s,aD=H,aB=vs,aH=Q,aI=E;rw[aN,M oh,aX];generalize kT=a,kU=D,kX=b2,kY=X,kZ=G,la=b4,lj=B;rw[cm hB F e6,b2 (X TK.nd (dL aZb) (sg (gG (eb yC aw cv) (ac' (u_ (b4 aZa aq)))) (fG (bW 2 TK.nd (b4 aZc aq))) BE) (bo (bm yC aw cv (bW 2 TK.nd (dL aZU))) aw))];rw[<-(GM.aSv (r:=D) (k:=B) bdg),aZS]at k;rw[nt h a'R];cases d2:Om D with|some e=>{rw[QR,hf p,rJ,bD (bd (iU a4))]}|none=>rw[QR,QJ];subst p;rw[d a D b2 X G b4 B (aJ ux (hB.mono a4)),Iu d2];have o:=aZT (D:=D) (B:=B) bdg d2;have k:=k;cases l:anT with|true=>{rw[l,cP]at k o;rw[g rfl a D b2 X G ux (d (o rfl) F N bef)]}|false=>rw[l,OD]at k o;rw[d a D b2 X G b4 B (a ux (hB.mono a4) d2 e6 aIe),J2,bu];cases y:aoR with|some e=>{rw[y]at p k;rw[hf p,rJ];exact iU i9}|none=>rw[y]at p k o;rw[QJ];subst p;rw[fe i9 (o rfl) (v F N (fun v d4 c8 p=>iU (IF c8)))]
universe z
theorem azu{D:Gla.Plan}(C:GM.Clean D){m:Gla.Mark}(c4:m∈gV):ax h Jo h:=by obtain⟨g,_,_,e,_⟩:=GM.Tf C.net NM C.aeG (H4.1 m c4);exact aW e
inductive azv(C:Addr)(vs:af)(H:Hp)(Q:VK)(E:XK):Prop|mk:∀(a:Addr)(D:Gla.Plan)(b2 X G:Addr)(i j:Nat)(c6 e0:Gla.Mark),e [bc,pJ,vn j] Al (xb D) (A gV c6) (aa gV e0->zM (B (akm (XD D (IL D aFt) (IL D aFs))) (jJ D))->azv C vs H Q E)
section z
theorem aZV:T.av_.Ok P w aj 6 (azv bJ):=by refine T.av_.go aTU aL;generalize aG=e3,aA=A,aF=outer,aE=s,aD=H,aB=vs,aH=Q,aI=E;rw[aN,M JE,aX];generalize Fb=a,Fd=D,Fe=b2,Ff=dl,Fh=G,Fi=i,Fm=j,Fp=c6,FD=e0;rw[cm a9 hi b8,Bx];have C:=aFv;have Z:=DF;rw[h7 Oq];obtain⟨R,c9⟩:=azu C (bO hi);obtain⟨M,d9⟩:=azu C (bO b8);rw[z (i 3 XE (dL azm) (bW 4 XE (as (HQ aq) (HQ aw))) (bo (bW 5 XE (as (di bR) (di bR))) (BK rfl XE (ox (dL LP)) (ck "line" 6) (ci 6 XE) (lp (KP (aYT (K:=K) rfl (aYN a6)) (jn bb rl T.T8.h (sH aZI) a6 T.T8.b .nil fu (ea ey)) (as bR cK) bI)) (bC ey)))) ag ag ag (gW ⟨hx (Z.wide p c2) YN,hx (Z.BV p c2) (JJ).2⟩) aof];{have:=H4.1 m c4;unfold Gla.clear at this;rw[yC this];exact⟨eL this.2.1 YN,eL (aS fp) (JJ).2⟩};obtain⟨f7,u⟩:=ake;rw[c y f7 u aaq D y (gy c6 Y hi),bbi,c y b1 a3 aaq D y (a x e7 d X c7 I j e0 (a rfl O b8 Z (fun d4 c8 g0=>?_)))];rw[c9,d9];rw[v (ag) (fun W n1=>?_),l i6 d4 d4 W (bx R M) n1,e g5 d4 W a7p W (bx R M)];have o1:Dd aKD:=g0.mono i6;have k9:SB [X] a8 aKD:=L (fj c8) (cH i6);generalize aKD=e4 at g5 o1 k9;rw[db W g5 (as W g5 dh ⟨(ag),fun d8 n2=>?_⟩),l e2 e4 e4 d8 (bx M R) n2,e i2 e4 d8 (bx M R) d8 (bx M R)];have U:=e2 _ _ g5;have m7:=o1.mono e2;have B:=k9.trans (cH e2);generalize upd e4 d8 (bx M R)=g6 at e2 i2 U m7 B;rw[aj d0 g6 (db (B b o (a4 b o e) fS)),c a D b2 dl G (gg d0) (f9 (bv (aC5 e a0) ben)) (iX iC (fun le h5 h1 j3 LE=>?_))];obtain⟨a7,e1,e5⟩:=LE;have N:=m7.mono h1;have f:=z_ h1;rw[a9 le e1 aJ5];have b3:=e5.length;rw[Xm]at b3;obtain⟨i0,g4,_⟩:=N.sw.k;have g8:X≠c0:=ft g4 c1;rw[an h2 c0 d N.sw.g c1,an h3 c0 I N.mg c1];refine arZ (O:=a7) (fun n L=>o0 h5 (∃d7,yY (aj c0 d7) (oV<=n) (dE (eS L) d7 (B (ef (pC n) a7V) (jJ D))))) (c (l5 c1) (ajB (ac [] c1)) [] ak aY .nil) (fun n L _ z=>av (z.1 _ _ e1 (ax (J (eB (g6 X≠ae) (by rw[f4 lk m7.sw.k];rw[q];rw[Bt]) (this (z▸j3))))))) ?_ ?_;{rintro n v L d3⟨sb,d5,d7,c3,V,r⟩;rw[jz e5 d3];delta aFu at a5;rw[gA a5,a3 e a0 a5];have d1:n<akp:=bx d3;rw[f4 (akc (L9 N.sw.k))];have rv:eS L v (jJ D e):=tv g J;rw[de (pC (n+1)) (pC n++[e]) a0,a9S,b rfl y dy _ rfl b6 aaq D (a y x e7 d X c7 I v (a e rfl d5 rv (uv) Z (fun i3 t d6 n7 h4 i1=>?_)))];have c5:=d6.ts (L9 Xw);rw[v (ag) (fun q d2=>?_),l b9 i3 i3 q ao3 d2,e j8 i3 q ao3 q ao3,m i3 q ao3 i7 b9 j8,g q W d8 (dT (dq R M)) (dT (dq M R)) aL5 (cy j8) (a (ft g5 n2) (wz (cy (b9 _ _ h4))) (HP (iW U)) (HP (iW i2)) tY tY tY ?_)];have k2:(jx (dT (dq R M)) aL5||jx (dT (dq M R)) aL5)=bfj:=by{rw[GZ,GZ];delta XD;rw[iQ];simp only[ahv,iV,Ol,Oj,CI,aiY];rw[ue]};rw[k2];have S:SB [X] h5 i7:=L (akd d6) (cH b9);have l2:=n7.mono b9;have F:=b9 _ _ (d6 _ _ c3 fS);rw[ae e6 L i7 (c5.trans (dk b9))];have e9:=cd e6 r;cases f5:bfj with|true=>{rw[b d7 F (x (Ks V d1 b3.l iC fy)) ?_ ?_ (d7++[v]) ak ag ?_,DZ (S c o g7 nc)];{obtain⟨h6,f6⟩:=l2.at_;rw[zg l2.sw.at_];obtain⟨f9,i4,⟨i5,h7,_,_,_⟩,_⟩:=l2.sw.d;exact F h6 (Y (bt (bJ F f6)) f6) (l2.sw.put (jH F) (bJ F x2) (J (by rw[f4 vs N.sw.p,fu c1 q,kJ])) h2 g8.symm (qx F h7 Z6)) (Y h3.symm l2.mg) l2.ne};{rw[ae h8 i7 (aV i7 c0 d7 v) (GH F)];rw[g9,DR,fh];rw[G0 [e]];rw[b4];exact eK (cd h8 e9) (tv (akb h8) rv)}}|false=>rw[j S l2 d7 F (au EU)];rw[g9,DR];rw[G0 []];rw[b4,qP];exact e9};rintro h9⟨sb,d5,d7,c3,V,r⟩;rw[dc b3 r];rw[c9,d9]at k;exact k c0 h9 (db (sb b o (f b o e) bz)) (f.free c1) (v d7 c3 r)
universe z
inductive NumV(C:Addr)(H L:Hp)(v:V)(T:Gla.Plan)(c:Jt):Prop|mk:∀(d8:Jt)(a b2 X G:Addr),b v bc (g4 L am8) (aiL c) (a3Q (ft amD)) (c (Y a) (Y b2) (Y X) (Y G) aK9)
inductive azw(C:Addr)(K:Fg)(vs:af)(H:Hp)(Q:VK)(E:XK):Prop|mk:∀(w h:Nat)(b2 le G:Addr)(pts:ek)(g:nh)(marks:Jt),e [vn w,vn h,YL,.ref le,.ref G] a9Q (bm eS le g) (bm sC G tn) (j bdA (N3<9000) (aC_<9000) bc1 (D4 (aFw w h pts g tn)) (azw C K vs H Q E))
theorem aZW{a b:Pt}(h:mM (sO b) (sO a)=ah):aix a=ah:=by have:=Uj b a;rw[amc];exact h
theorem aZX{a b:fB}(h:mM (G8 b) (G8 a)=ah):DO b a=ah:=f4 (DO b a) (GM.Cb.mp q) G8
theorem aZY{a b:Gla.Mark}(h:mM (Ma b) (Ma a)=ah):amD:=f4 (a5_ aiz) (GM.iH.mp q) Ma
theorem azx{I:Type}{lt:yj}(cR:eU AS (lt a b=ab\/lt b a=ab)){l:ba}(nd:l.Nodup)(s:pa (jM (lt y x=ah))):pa (jM (lt x y=ab)):=by refine(List.Pairwise.and nd s).imp (fun{a b}⟨ne,h⟩=>?_);rw[al (cR a b ne),iA,az]
theorem azy(x y:Pt)(h:sO x=sO y):x=y:=by rw[n3 x,db d y];simp only[sO,Ol,Oj,Xi]at h⊢;lia-abstractProof
theorem aZZ(x y:fB)(h:G8 x=G8 y):x=y:=cu
section z
theorem azz:T.numbered.Ok P w aj 3 (azw bJ K):=by refine T.numbered.go aTw aL;generalize aG=e3,aA=A,aF=outer,aE=s,aD=H,aB=vs,aH=Q,aI=E;rw[aN,M aL,aX];generalize aG=C,aA=c,aF=b2,aE=le,aD=G,aB=pts,aH=g,aI=marks;rintro rfl c2 a0 c4 R I D k8 k;rw[fb,b2 (i 5 IM (CA aw) (bW 6 IM adM) (bZ (t cK 7 IM 8 IM (d4 ey kh kg)) (e IM 9 (ox bb) (bk "p" 10 "q" 11) (bC (V 10 IM 11 IM)) kN (bC (bh aVX (SI xB ey E8 ry) (SI xB ey OY ry)))) (aP bS aq cK (CA xF) (sq bR))))];delta sh;refine agr (K:=K) (O:=sO) azy c2 (fun p _=>Rt) R.1 R.2 (fun ls a8 W r O dQ a4 e1 c5=>?_);have b4:=bhS;have V:fk<9000:=by{obtain⟨_,B,h7,hB⟩:=R;rw[dk O B (aJ (hB x (x (r x) S)))];exact Rm};refine J5;rw[l b5 a8 a8 d qd nd,e b9 a8 d qd d qd,m a8 d qd b7 b5 b9,tt c5,y ls b1 (av (gT hu)) (bv fk (bi (vw (fun j3 i9=>M=[bE C,bE c,ac b2,AE,ac G,ac ls,rD,j3,i9,ae,ae,ae])) OO (oB uc (P p (j<i) W p (fe F ud=aa (vn j))))) (c Kg b5 [] b9 aY (fun j p b8=>AA)))];{rw[ps s];exact d b1 (dz b1 (t aj_ hi)) (br hu) pM};rw[i2 s (ap b1 (br hu) aj_ aY)];{rintro i M L k3 d4 hi⟨⟨j3,i9,rfl⟩,s,F,c1,lk,mk⟩⟨d6,y,rfl,k4,rfl,b6⟩;rw[aW p a3 a9 (b6 b1 (br hu))];have c8:=j5 hM k4;have a7:upd L d6 hM d=aa uc:=co k4 c1;rw[d7 l5 hM hM,ou (bL c8 J)];generalize ky (eB cW)=d4 at c8 a7 l5 U;rw[d d6 _ rfl (cy l5) rfl d _ (a (qD.t (k:=ud) a7 U (dc lk hi V)) (bm _) (gr c8) (mP F ud pJ) ak ?_ (fun j q b8 e0=>?_)),cc (UI F ud pJ) (cg this lk)];{rw[SA];rw[N z j i];{lia};{rw[bj (e9 (z ?_))]at⊢;rw[l (mk j q (iT z) e0)];{have:=ayF y;rw[gp];exact Gd O e0 a3}}}};rintro M d4⟨⟨j3,i9,rfl⟩,c8,F,c1,lk,mk⟩;have k1:=gc c8;have numOf:=gW (by rw[iZ (wH (ae (r p) c2))];exact mk _ p lt (W0 ⟨lt,aih lt⟩));rw[bE d3 pv (id a0),bD le (aW (k1.seq d3)) (fun i0 i8=>d sA gz iK (a0.mono gz k1) (cr (aa (min YZ YY,max YZ YY))) i8 (gb I))];{rintro i l v L h4 N a5 s⟨b,e7,f5,rfl,U,⟨e5,rfl,l2⟩,e6,rfl,m⟩b6 d1;have c4:=k8 l (bO a5);have c7:=bv c1;rw[A2 (b d _ rfl (gO l.1 l2 c4.1) d rfl (gO l.2 m c4.2) (ce YZ YY (fun v e4 d9 d3=>fw d9 d3)))]};rw[bbX,eW e2];have l1:=aFr d9;rw[bD (agr (K:=K) (O:=G8) aZZ (Z:=ri (bE YZ YY YZ YY)) (v d7 (av g5) e2) aIE (nI I) (av hU (aJ S)) (fun X g6 V d5 e8 e9 f9 b0 Z=>?_))];have d0:=aj5 f9;rw[bD (agq (K:=K) (O:=Ma) (aEj js d0) aIE (gb D) (fun u o d8 b3 c6 Y c0=>?_)),bgt,beS,fJ (z_ h1),mv dx,P sm h5 (cy h5 dx anv) PB,e t (upd h5 dx Ei) x anv x anv];generalize cy h5 dx anv=h9 at sm t;rw[d x dx C c ls X u amL];have n:=f.free nx;rw[gX (h9 x) t];have c9:=XF dm (bX En f9 (zO sm)) (v b1 hu a9);have d2:=XF iK (zO sm) Z;have c3:=XF js sm c0;refine ax (fI (aFx sm) n) (a d8 x ls X u rfl (F dx ak ?_ ?_ (c3.put js h8 (z3 c3))) b3 (a a_B n e1 (l1.free b0) (d0.free Y)));rw[c_ (c9.put (o:=bgm) dm h8 (m2 c9 ai)) b4 this];{have:=d2.put (o:=bgm) iK h8 (m2 d2 bM);rw[bY (GM.aex d5 (azx GM.aew e8 (e9.imp (ah (aZX q))))) b4];exact this}
universe z
inductive azA(K:Fg)(vs:af)(H:Hp)(Q:VK)(E:XK):Prop|mk:∀(l:Addr)(row:ek),A [cD] (bm dH l row) (Ib Y0) (azA K vs H Q E)
inductive azB(K:Fg)(vs:af)(H:Hp)(Q:VK)(E:XK):Prop|mk:∀(v:V)(c0:Addr)(l:kk)(row:ek),e [v,Pa] aon (bm dH c0 row) (gP l.1) (c (gP l.2) (V p row (gP p)) (fi<1000) (Ib (IP row l)) (azB K vs H Q E))
inductive azC(C:Addr)(K:Fg)(vs:af)(H:Hp)(Q:VK)(E:XK):Prop|mk:∀(a b c d:Addr)(r:Gla.Plan)(b2 le G:Addr)(pts:ek)(g:nh)(marks:Jt),e (cf bc b2 le G) (LO C H a r b c d) a9Q (bm eS le g) (l (bm sC G tn) bdA (N3<9000) (aC_<9000) bc1 (D4 (aFw r.w r.h pts g tn)) (azC C K vs H Q E))
theorem azD{I:Type}{row:ba}{j:Nat}{e:I×I}(h:aa (Y0) e):aa row e.1/\K row (j+1) e.2:=by rw[a4 aFy];rw[aiW,DB,VU 1 j]at h;exact h
section z
theorem azE:T.joined.Ok P w aj 1 (azA K):=by refine T.joined.go aT' aL;generalize aG=e3,aA=A,aF=outer,aE=s,aD=H,aB=vs,aH=Q,aI=E;rw[aN,M fQ,aX,bW l row];rintro rfl⟨vs,d3,d⟩k;rw[cl (cl (aYO (K:=K) rfl rfl bI aj4 bI T.zip (sH bS (xL bS)))) d3 (fun b a5=>?_),aa vs (gR 1) (Ot 1) _ 1,aj a4 (ap b (Ot 1)) xG,a b4 H b (Ot 1) b (Ot 1),iG (ap b (Ot 1)),e l b _ _ rfl (akq d3) (av b4) (fun i1 b7 J=>?_)];obtain⟨b5,d6,Y,F,h2,al⟩:=J;have i9:=e_;refine k i1 b7 i9 (gX d6) (js h2);have i5:=oY;refine ayC (by rw[bA,F,(GM.pairs_len row),sR];simp[*]) (fun j v e b8 a0=>?_);rw[gA b8,a3 a b3 b8];obtain⟨_,x,y,⟨S,b6⟩,d0⟩:=al j a b3;obtain⟨g7,g8⟩:=azD a0;rw[DB,VU 1 j]at b6;rw[cS d2 r1 (mz d g7),bJ q2 r2 (mz d g8)];rw[S]at d2;rw[b6]at q2;cases d2;rw[a4 q2 (bO a d0 (bL i9 r1) (bL i9 r2))]
theorem aZ0:T.parted.Ok P w aj 3 (azB K):=by refine T.parted.go ae5 aL;generalize aG=e3,aA=A,aF=outer,aE=s,aD=H,aB=vs,aH=Q,aI=E;rw[aN,M oi,aX,al v c0 l row];rintro rfl d3 I j1 d5 u e k;rw[fb,ax a b3 j0 j6 d3,tt (id I),K (b6 (e ae5.nd 2 (ox aq) (ck "point" 3) (ci 3 ae5.nd) (lp (u_ (Z awY kK kK bb))) (bC bb)) (gl (afn K aw) (eb bS)) (a7 azE (c9 (eb kK) (CA aw) (eb kK)))) c0 rfl ⟨aW hu,fun m y=>d dH dm dm I (bn (jP (DL l.1 l.2 p) p)) y (gb e)⟩];{rintro i p x L h4 N c2 s S b6 d1;rw[f4 (dk s),c rfl a _ _ _ rfl (cy (bv b3)) (bh dh a (cy (bv b3)) (a dt l.1 l.2 p (cB (hJ g j0) (hJ g j6) S) j1 d5 (u p (bO c2)) ?_)),gr (DL l.1 l.2 p) (ab p (x kR) ej S) hU]};rw[apY];rw[LH]at e9;rw[b2 (.inl (bm (av b4)))];have B:=dk a4;rw[d0 IP];cases f:NL aao with|nil=>{rw[f]at e9 k;cases e9;rw[v (ag) (fun b a5=>?_),jq bc a5];exact k b _ b5 (gX a5) (av ak (hy (tv (dk b5) d3)))}|cons z zs=>obtain⟨k3,c,rfl⟩:∃k3 c,d7=k3::c:=by{have:=rg;rw[am f];cases d7 with|nil=>{trivial}|cons k3 c=>exact bp k3 c};rw[bn a OG ⟨(ag),fun b a5=>?_⟩,jq e7 a5,a b9 a8 b [e7] b [e7],i M a8 b [e7] m (k3::c) a5 b4];have j:=f0 (ac [e7] a5) e9;rw[bo (U a8 b [e7]) b9 M j];delta sh;refine agr (K:=K) (O:=sO) azy (Z:=NL aao) (ce M j) (fun p _=>Rt) bz (v row (x (fJ e tF)) (aJ (ff S))) (fun ls d4 W r O dQ c8 e1 c5=>?_);have V:fk<1000:=by{rw[dk O row (aJ (ff (x (r x) S)))];exact Rm};obtain⟨ws,hw,C⟩:=c5;have q1:=C.length;rw[n b ls (dn b9) hw ⟨jn q1.l V,fun e5 n=>?_⟩];have d9:=L (fj c8) (bs [e7] ws n);rw[a g5 d4 e5 alO e5 alO];have o:=et sO (bs [e7] ws n) C;rw[f d4 e5 alO e4 d9 g5 o,db a (fI b3) ⟨(ai),fun e6 d=>?_⟩];have f9:=mZ (ac [f5] d);rw[a i2 e4 e6 [f5] e6 [f5]];have U:upd e4 e6 (.lst [f5]) e5=_:=co d g5;have n3:=et sO (ac [f5] d) o;generalize U e4 e6 [f5]=g6 at f9 i2 U n3;rw[n e5 e6 U i2 ⟨jn q1.l V,fun c1 t=>?_⟩];have h1:=mY bez;rw[y c1 (l.1::(W++[l.2])) (js (av ak)) (fun i1 h9 R e0 Z=>?_),l (.cons (bL h1 j0) (eK (et sO bez n3) (bL h1 j6)))];{rw[(bhS)]at Z;exact k i1 h9 (zO R) (h1.free e0) Z}
theorem aZ1:T.awu.Ok P w aj 4 (azC bJ K):=by refine T.awu.go aT_ aL;generalize aG=e3,aA=A,aF=outer,aE=s,aD=H,aB=vs,aH=Q,aI=E;rw[aN,M (aqI ?_),aX];generalize(hn).1=a,aV hn=b,bW hn=c,cB hn=d,bY hn=r,ct hn=b2,dv hn=le,d7 hn=G,fr hn=pts,k8 hn=g,a83=marks;rintro rfl h c2 a0 c4 R I D k8 k;rw[fF,ez (cl (ec azz (GS bP bP aq aw bb))) (b hd dU Ib y_ a dx _ (j hd dU Ia GY r.w r.h (a b2 le G pts g tn rfl c2 (a a0 c4 R I D k8 (fun v a8 a4 nv=>k v a8 a4 nv)))))]
universe z
theorem azF{T:Gla.Plan}{c d8:Jt}(F:DN T)(Z:WG=XG tA c)(p:aiL c):DN am8:=by rw[z V (aiL WG) Z (aDR (bt (GM.yS _ _)))];exact a F.w F.h F.p F.l (t V.length_eq F.m) aiD aC3 (fun m c4=>wN m (V.mem_iff.mp c4))
theorem aZ2{C:Addr}{H L:Hp}{r T:Gla.Plan}{b2 X:Addr}{x:Gla.Step}{v:V}{c:Jt}(h6:aK9)(c4:ajC r x=aa T)(Z:WG=XG tA c)(a9:xb r)(ask:Ij x):l0 x v:=by obtain⟨d8,a,e7,i,I,e,d,p,s,n1,n2,u,y⟩:=h6;rw[ca (GM.auL Z p s)];delta LV;rw[c4];exact a _ a e7 i I e d (azF (GM.Tr a9 ask.ok c4) Z p) (c b.1 b.2 n1 (.inl n2) (.inl u) y)
theorem NumV.up{C:Addr}{H a8 L:Hp}{v:V}{T:Gla.Plan}{c:Jt}(s:cZ H a8)(h:aFz C a8 L v T c):aK9:=by obtain⟨d8,a,e7,i,I,e,d,p,q,n1,n2,u,y⟩:=h;exact a d8 a e7 i I e d p (a q (XH n1) (XH n2) (XH u) (XH y))
theorem Me{C:Addr}{H L:Hp}{r:Gla.Plan}{b2 X:Addr}{x:Gla.Step}(c4:ajC r x=ae):l0 x .bC:=by delta LV;rw[c4]
theorem azG{I:Type}{O:ba}{l:I×I}(h:l∈aFy O):l.1∈O/\l.2∈O:=by rw[n4 h];have:=azD b8;exact⟨bO ew,bO fp⟩
theorem aZ3{row:ek}{d l:kk}(h:l∈IP row d):(l.1=d.1\/l.1=d.2\/l.1∈row)/\(l.2=d.1\/l.2=d.2\/l.2∈row):=by rw[a4 IP];have:=azG h;have O:E p (p∈d.1::(XG WL (v0 (DL d.1 d.2))++[d.2])) (cO d.1 d.2 (p∈row)):=fun p c2=>by{rw[al (ib c2),l AZ];{rw[h_ q,l (pd (ff (NK ((GM.yS _ _).mem_iff.mp q)))),az]}};exact⟨O _ ew,O _ fp⟩
inductive azH(C:Addr)(vs:af)(H:Hp)(Q:VK)(E:XK):Prop|mk:∀(a c0:Addr)(b8:V)(r:Gla.Plan)(b2 X G:Addr)(row:ek)(m:Gla.Mark),e [bc,Pa,b8] Qq (fd c0 row) aaa (i (xb r) (Ij Rq) (nQ Rq) (azH C vs H Q E))
inductive azI(C:Addr)(vs:af)(H:Hp)(Q:VK)(E:XK):Prop|mk:∀(a:Addr)(pv:V)(r:Gla.Plan)(b2 X G:Addr)(k:Nat)(p:Pt),e [bc,vn k,pv] Qq (br pv p) (xb r) (Ij aoM->nQ aoM->azI C vs H Q E)
inductive azJ(C:Addr)(vs:af)(H:Hp)(Q:VK)(E:XK):Prop|mk:∀(a:Addr)(b8:V)(r:Gla.Plan)(b2 X G:Addr)(i:Nat)(m:Gla.Mark),e [bc,pJ,b8] Qq aaa (xb r) (Ij Z4->nQ Z4->azJ C vs H Q E)
theorem UT{I:Type}{l:ba}{k:Nat}(h:k<ec)(x:I):He k++[x]++oP (k+1)=Wc k x:=by rw[List.set_eq_take_append_cons_drop,aK h,dw];rfl
section z
theorem aZ4:T.awv.Ok P w aj 5 (azH bJ):=by refine T.awv.go ae6 aL;generalize aG=e3,aA=A,aF=outer,aE=s,aD=H,aB=vs,aH=Q,aI=E;rw[aN,M JE,aX];generalize Fb=a,Fd=c0,Fe=b8,Ff=r,Fh=b2,Fi=X,Fm=G,Fp=row,FD=m;rintro rfl h I c4 a9 ask k;rw[fb];have C:=aFv;have Y:=NM;rw[h7 Oq];have j:aMY:=ask;have t:=GM.auA C row (fun p _ e a0 q=>GM.auB Y a0 q);rw[cR n9 (cA de (gP p)) YN (JJ).2];have e9:∀d∈H3,d.1∈de/\d.2∈de:=fun d hd=>by{obtain⟨e,a0,b4,b9⟩:=GM.aen.mp (show(d.1,d.2)∈H3 from hd);have:=jg;exact⟨bl b4 (Eb Q_),bl b9 (Eb fp)⟩};rw[K (i 3 ae6.nd (km azE) (bd (dL LP) 4 ae6.nd (eD bb (bh aZ0 bR aq))) (df (eO (ei bP (u1 aq)) bb (ei bP (eb aw))))) c0 row (ah I.ls (fun le a8 a4 j3 LE=>a a r b2 X G rfl ux (f9 (by have:=jg;rw[ka])) (gb iC) (fun ld b7 b5 B f7=>?_)))];obtain⟨c7,d7,c9⟩:=f7;rw[a9 ld d7 (aJ c7 (fo (GK (∃b1,M=[kM,OT,aa b8,AE,b1]) bQ (aj ld c7) (dE (eS L) c7 H3) (dC eS L le (Y0++a'D)))) (a qm (e_) d7 c9 (ax (LE.mono gz b5))) (mR (av z.3)))];{rintro i x M L S⟨⟨b1,rfl⟩,s,a3,d3,d0⟩;rw[aW d hd d3 S];have o4:=e9 d (bO hd);obtain⟨a7,F,N⟩:=d0;rw[aK (akr (i+1)) (akr i) d hd];have cR:t (Y0++a'D)+t (IP row d)<=dR+2*fi:=by{have b4:H3=akr (i+1)++r.drawn.drop (i+1):=aGq;rw[b4,g9,zP,zP]at t;simp only[ck,pj,a5',qP]at t⊢;lia};rw[c (dr F) x c0 d row J (I.mono dm s).ls (a (n9 _ o4.1) (n9 _ o4.2) (gW ⟨ju (bbn).1 ay,ju (bbn).2 ay⟩) (gd j.1.2.1) (fun i1 d4 c8 e0 D=>?_)),b7 e1 V D];have O:=dn F;have d5:=V.length;have h2:=iS;rw[n le i1 O e1 (au bM),ae h8 d4 (U d4 le (a7++c5)) (GH O),f4 (hG c8 h8),j el (fI (iq c8) j3) (Y (J (by rw[go q LE,b2 e B];cases B)) (dn a3)) (cd g d3) (aJ (a7++c5) ak)];rw[g9,zP,<-dw];simp only[pj,a5',qP];exact oI (cd g N) (cd h8 V)};rintro M d4⟨⟨b1,rfl⟩,c8,a3,d3,U⟩;rw[dc d3.length U];have o:=gg c8;rw[cw c3 o.at_,b7 n W o.p,dj d1 Z o.m,bH d2 b0 (I.mono dm c8),hR fk];have g8:=fL;have i7:=b0.length;rw[a2 c3 (I gd fX c0 (ce d2) (fun e5 n1=>?_))];have d9:=m_ (ac f n1);have i6:=ac f n1;rw[a g5 d4 e5 f e5 f,f d4 e5 f e4 d9 i6 g5,n b2 e5 (i6 _ _ n) g5 ⟨fS,fun e6 n2=>?_⟩];have f9:=mZ (bs c5 f n2);have e2:=i6.trans (bs c5 f n2);rw[a i2 e4 e6 (c5++f) e6 (c5++f),f e4 e6 (c5++f) g6 f9 e2 i2,a2 (e2 _ _ c3) (d jH jt (ag) (fun c1 u=>?_))];have h1:=mY (ac [b8] u);have c6:=e2.trans (ac [b8] u);rw[a j1 g6 c1 um c1 um,i b3 g6 c1 um e6 (c5++f) u i2];generalize U g6 c1 um=h5 at h1 c6 j1 b3;rw[n G c1 (c6 _ _ d1) j1 ⟨jn g8.l p_,fun i0 y=>?_⟩];have R:=zO (ac Zs y);rw[cc (c6.trans (ac Zs y)),a j2 h5 i0 Zs i0 Zs,i b6 h5 i0 Zs e6 (c5++f) y b3];generalize aV h5 i0 d8 b8=h9 at R c j2 b6;rw[ca (dk c),b a b2 X G r e6 le i0 (a (de++row) (Y0++aiH (IP row)) (dS++[m]) rfl (gg R) (ce b6 (oI (g9 b W) (g9 b b0))) (U.mono gz c).ls (ce j2 (eK (dH (lQ b) Z) (ts R))) (a (d a'z _ a'z (aJ S)) bM (nI p_) Yw bak))];{rw[h_ a5];{have:=azG q;exact⟨qO _ ew,qO _ fp⟩};{rw[aJ d hd (aC8 q)];have o4:=e9 d hd;have:=aZ3 q;constructor;rw[dY,dY]}};rw[as i3 (wI d6) R (GM.auq Y row m) ask]
theorem aZ5:T.awx.Ok P w aj 5 (azI bJ):=by refine T.awx.go aUb aL;generalize aG=e3,aA=A,aF=outer,aE=s,aD=H,aB=vs,aH=Q,aI=E;rw[aN,M aL,aX];generalize aG=a,aA=u,aF=r,aE=b2,aD=X,aB=G,aH=B,aI=p;rw[cm c2 a9 ask,fb];have Y:=aFA;have e8:=Oq;rw[fF,b7 a3 a7 h.p,hR akp,ez (ah bbO (Ic aks) (bo (e aks 4 pO (bk "a" 5 "b" 6) (bC (V 5 aks 6 aks)) kN (bC (as (bs bb cK) (bs bb ey)))) (eO bb bR bP))) (b hd dU gd fX b2 rfl (ce a3) ?_)];rw[d5];rw[kn,l (ax (tw H) (Me (GM.auJ ai p)))];{rw[dS C B aJ,a2 hd (I gd fX b2 (av a3) (fun e0 g9=>?_))];rw[zb c5 B];rw[gU (ap e0 lX) g9,a b4 H e0 lX e0 lX,iG (ap e0 lX),v (ag) (fun g0 e1=>?_),jq u e1,a b9 a8 g0 [u] g0 [u],i M a8 g0 [u] e0 lX e1 b4,f a8 g0 [u] b7 b5 b9 M,dj B c5 d5.l AR];have c8:=fj (ac ZV j5);rw[a e7 b7 d0 ZV d0 ZV,g2 d0 ZV,a2 (dn hd) (I gd fX b2 (av (dn a3)) (fun R b0=>?_)),bhu];have d9:=m_ (ac ma b0);rw[a g5 d4 R ma R ma,i D d4 R ma d0 ZV b0 e7,f d4 R ma e4 d9 g5 D,q0 a_D AR];rw[UT ag];have f9:=mZ (ac aar F);rw[a i2 e4 y aar y aar,i e4 y aar g6 f9 i2];have d:dE (dH g6) aar X8:=by{have J:=dk f9;have z:=g9 J a7;rw[a_m];exact oI (eK (sF B z) (hJ J c2)) (Cn (B+1) z)};rw[bJ (gg f9)];obtain⟨ls,q,I⟩:=m.l;rw[a2 QG (s kE kx X (k7 q) (fun le j3=>d eS iK gz m.l.ls (an (aa (tm e.1,tm e.2))) j3 bM))];{rw[dI e x a0];have ix:=ee e uv;rw[bv g om (aa (X8) (tm j)) ag,cS g7 r1 (mz d (g e.1 bM)),bJ g8 r2 (mz d (g e.2 ix.2)),A2 (m y _ (br i2) (d_ g7) (m y _ (br i2) (d_ g8) a'8)),bdy];exact G3 (v ak (hJ W r1) (hJ W r2))};intro h5 d7 h1 j1 i0;rw[eW i0,fJ (mY h1)];have n:=gg f;rw[b (f _ _ hd) y X8 n (ce (iW i2) (f0 h1 d)) (ce j1 i0) n.m.ls fS fS (nI iC) bak];{rw[h4 a5];have ix:=jg;rw[bv g om (tm j∈X8) ag];exact⟨g e.1 bM,g e.2 ix.2⟩};rw[as i3 (aFx d6) f (GM.aSz Y C p) ask]}
theorem aZ6:T.awy.Ok P w aj 3 (azJ bJ):=by refine T.awy.go avc aL;generalize aG=e3,aA=A,aF=outer,aE=s,aD=H,aB=vs,aH=Q,aI=E;rw[aN,M aL,aX];generalize aG=a,aA=b8,aF=r,aE=b2,aD=X,aB=G,aH=i,aI=m;rw[cm c4 a9 ask,fb,h7 Oq,fF,dj g7 i1 h.m];have g8:=i1.length;rw[ez (b6 bbO (Ic avc.nd) (aP bP bP bP bP (sq bb))) (pd g7 ?_)];rw[g8];rw[kn,l (ax (tw H) (Me (GM.mark_none ai m)))];{have C:i<fM:=by{rw[fH (aDf c)]};have j:=GM.aSy aFA C m;rw[a2 hd (I jH jt G (av g7) (fun e0 g9=>?_))];rw[zb d8 i];rw[gU (ap e0 (lR i)) g9,a b4 H e0 (lR i) e0 (lR i),iG (ap e0 (lR i)),v (ai) (fun g0 e1=>?_),jq b8 e1,a b9 a8 g0 um g0 um,i M a8 g0 um e0 (lR i) e1 b4,f a8 g0 um b7 b5 b9 M,dj i d8 g8.l p_];have c8:=fj (ac Zu j5);rw[a e7 b7 d0 Zu d0 Zu,g2 d0 Zu,a2 (dn hd) (I jH jt G (av (dn g7)) (fun R b0=>?_)),aa d8 (oK i) Qd d8 (i+1)];have d9:=m_ (ac Qd b0);rw[a g5 d4 R Qd R Qd,i D d4 R Qd d0 Zu b0 e7,f d4 R Qd e4 d9 g5 D,q0 (RX (k:=i) g8.l) p_];rw[UT ag];have f9:=mZ (ac aoT F);rw[a i2 e4 y aoT y aoT,i e4 y aoT g6 f9 i2,a2 QG (ev Ib y_ (b QG dU Ia GY a dx _ (j QG dU gd fX a _ (a dx _ _ rfl QG dU kE kx ?_))))];delta sh;refine agq (K:=K) (O:=Ma) (Z:=Yh) (ce i2 (by have J:=dk f9;have z:=dH (lQ J) i1;rw[a_m];exact oI (eK (sF i z) (lQ J c4)) (Cn (i+1) z))) aIE fS (fun u o ns b3 c6 Y c0=>?_);rw[bgt,beS,fJ (mY h1),mv W,P sm h5 (cy h5 W an2) PB,e t (upd h5 W Ei) x an2 x an2];generalize cy h5 W an2=h9 at sm t;rw[d x W r.w r.h b2 X u amL];have d:=aFx sm;have n:=f.free nx;rw[gX (h9 x) t];have g:=gg d;have c3:=XF js sm c0;rw[ab Z (B7 (XG tA Yh):U7).marks (XG tA Yh),ca (GM.auL Z b3 a_B),cd (azF (GM.Tr a9 (x:=Z4) ask j) Z b3),oN (fI d n)];delta LV;rw[J j (a (B7 ns) x b2 X u rfl (F W ak (g.p.put dm h8 (z3 g.p)) (g.l.put iK h8 (z3 g.l)) (c3.put js h8 (m2 c3 ai))) l (c b.1 b.2 n EY EY (f9.free Y)))]}
universe z
inductive azK(C:Addr)(vs:af)(H:Hp)(Q:VK)(E:XK):Prop|mk:∀(a:Addr)(r:Gla.Plan)(b2 X G:Addr)(i j:Nat),e [bc,pJ,vn j] Qq (xb r) (nQ aJT) (azK C vs H Q E)
inductive azL(C:Addr)(vs:af)(H:Hp)(Q:VK)(E:XK):Prop|mk:gd r k (e [bc,vn k] Qq (xb r) (nQ (.drop k)) (azL C vs H Q E))
theorem aZ7{r:Gla.Plan}(Z:zZ r){e d3:fB}(a0:iB)(V:d3∈bY)(h:xE=jJ r d3):e=d3:=by rw[cm yi,ca (f_ d3 V),a4 jJ];exact qK (lI h) (lI h).2
theorem aZ8{X:Cx}{P:Program}{w:World}{i o:Expr}{l A:TE}(C:eC=P)(hw:X.w=w)(hu:uQ)(hi:yl)(d0:Bn):Ge P:=aX1 hu hi d0 C hw
theorem azM(k a b:Nat):BJ (vn k) (hA a b)=Ec k rQ:=by delta BJ Ec;simp only[MY,List.any_nil,aBw];have:∀x:Nat,yH (vn x) (vn k)=(x==k):=ab (by show(v x==v k)=_;rw[iQ];simp;rw[Fn]);rw[this,this]
section z
theorem aZ9:T.aww.Ok P w aj 7 (azK bJ):=by refine T.aww.go aUa aL;generalize aG=e3,aA=A,aF=outer,aE=s,aD=H,aB=vs,aH=Q,aI=E;rw[aN,M oh,aX];generalize kT=a,kU=r,kX=b2,kY=X,kZ=G,la=i,lj=j;rw[aV h a9 k,Bx];have C:=aFv;have Y:=NM;have Z:=DF;rw[h7 Oq,fF,dj g7 i1 h.m];have g8:=i1.length;rw[rc (ah (ff (eb gO aq aw) (eb vc beG nY) cv) (bW 3 IQ af7) (ah (bd (Z aZV bS aq aw) 4 IQ (af6 wt bb bR mn rfl)) (gl (aYA bb kW) cv) (bZ (e IQ 5 (ox (dL LP)) (ck "line" 4) (ci 4 IQ) (lp (BB (aZ8 (P:=P) (w:=w) rfl rfl wt bR bb))) (bC bR)) (bW 6 IQ (ei biv biv)) (eO ey cK (ei (hK bP aw) (sC (hw aw)))))))];rw[dP];rw[N c0 i j,Z (dI (x AB)) (D7 (.inl c0))];{rw[ed bM];rw[rc _,x (v j) xy (v j) xy (ae ak2) (ip i j)];rw[k1];rw[a2 hd (bt jH jt G g7)];rw[g8];by_cases g5:an_;{have k2:apc=ab:=dI (x (aC g5));rw[i_ apc,J k2 (D7 (.inr g5))]};have k2:apc=ah:=ed ag;rw[i_ apc];rw[k2];have hi:A dS (dz dS (fg (Wt i j) (Hd g5))):=pM;have b8:aa dS (dS[j]'(fg (HL i j) (Hd g5))):=pM;generalize dz dS (fg (Wt i j) (Hd g5))=c6 at hi;generalize dS[j]'(fg (HL i j) (Hd g5))=e0 at b8;have c4:=GM.erase_eq C c0 hi b8;simp only at c4;generalize l9:XD r (IL r aFt) (IL r aFs)=b3 at c4;refine fun d g4 nd k3=>?_;rw[x7 g4];generalize ad d g4=a8 at k3 a4;rw[b a r b2 X G i j c6 (a e0 rfl ux a9 hi b8 (fun i5 b7 b5 n5 k5=>?_))];rw[l9]at k5;obtain⟨bs,c5,m4⟩:=k5;have i9:=e_;have i4:=k3.mono b5;rw[ab m2 i5 d i4 c5];have gl:bd (iX b3) dR:=AW;rw[a9 i5 c5 ?_];have m3:CA P w b7 d (an AD 0):=av i4 (cr aT);refine aJ bs (fun n M L=>GK (∃b1,M=[kM,bE i,bE j,rD,b1,ae,ae]) bQ (aj i5 bs) (dE (eS L) bs AD) (CA P w L d (an AD n))) (a qm i9 c5 m4 m3) (fun n M L _ z=>av z.3);{rintro n x M L S⟨⟨b1,rfl⟩,s,l7,m1,f,h3,W⟩;rw[jz m1 S,Cb J];have d1:n<t AD:=bx a5;rw[aO j7 n dR (RT d1 gl)];rw[eT]at h3;rw[c d c (gQ l) f _ rfl h3 (Ir (dc (wD n (t (List.map (jJ r) (a07 b3 bY)))) j7 iC)),gf k4 h3,gX (L d) k4,ae c3 L (upd L d o) (yX h8),j el (gr s) (Y m2 l7) (cd c3 m1) (av (pg (min (n+1) (t AD)) (min n (t AD))) Ym)];rw[DV,a5];rw[T m l,a_,bb2]};rintro M d4⟨⟨b1,rfl⟩,c8,l7,m1,f7⟩;rw[dc m1.length f7,bH h3 W (id f7),Q d f _ ⟨h3,fun b U=>?_⟩,ck n8 ((xE∈AD)↔b3 e=ab) (by rw[fK];constructor;{rintro⟨d3,V,q⟩;rw[bJ (vP V)];rw[<-aZ7 Z m.1 a0 q];exact m.2};rw[dY])];cases b with|false=>{rw[bD (ax c8 (Me ?_))];have al:=U.mp rfl;rw[ck m5 (b3 e=ah) bz];rw[c4,aK];rw[dZ];rw[a3M];rw[aah];rw[m5 e a0];rfl}|true=>have k0:¬t (iX XX)=dR:=ah (by rw[cO (List.filter_eq_self.mp (List.Sublist.eq_of_length List.filter_sublist q))];have:∀B,f B=ae:=by{refine aHO;have j6:¬(ab=ah↔∀B,f B=ae)->cF:=J (z U);rw[ck a3 (b3 e=ah) ai];have D:(iX b3)=[]:=List.filter_eq_nil_iff.mpr (f9 ag);rw[D]at h3;obtain⟨F,d2,q2,q3,i6⟩:=h3;have:F=[]:=NV ai;refine f6 (fun B=>?_);rw[<-i6,this];rfl};exact cz (U.mpr this) ay);rw[bj k0]at c4;rw[ck e9 (e.1<aJ/\e.2<aJ) (by have:=jg;rw[fU]),c a r b2 X G (gg c8) e9 (iX iC (fun m6 e4 d9 n9 LE=>?_))];obtain⟨o1,l0,m7⟩:=LE;rw[a9 m6 l0 a_O];have m8:=aFi d9;refine d eS gz gz (ce l0 m7) (cr (jP (! cw am2) l)) j3 (t Xm (cg iC fy));{rintro n l x L h4 N a5 s rv b6 d1;rw[Cb rv];obtain⟨I,k6,t⟩:=m8.mono s;rw[d rfl d c (gQ l) I _ rfl (aJ k6 (nf rv)),ae b4 (Z ab (! dl (I (gQ l))) (dl (I (gQ l)))) (! cw am2)];rw[b4];rw[gr (! cw am2) (ab l (x kR) ej rv) ag]};intro g6 d7 f9 i2 y;rw[LH]at y;have c9:r.drawn.filter (k9 (cw am2))=Pw:=by{delta aFu;rw[a4u];rw[dZ];refine Wu oa;rw[cm O (∀x:kk,x=xE->(! cw (x∈AD))=! b3 e)];exact O _ rfl};rw[c9]at y;have d0:=L En f9;have j0:bd (iX XX) dR:=AW;have k7:dC eS g6 le Pw:=v d7 i2 y;rw[a9 le i2 (fun a7 n1=>d dH gz dm k7.ls (cr (aa l.1)) n1 (jn j0 iC))];{rintro n l x L h4 N a5 s⟨c,e7,f5,rfl,b0,r1,r2⟩b6 d1;rw[ix (as c b0 dh (fw ej r1))]};intro h5 i8 h1 j1 i0;rw[eW i0];have l1:=k7.mono gz h1;obtain⟨o2,m9,_⟩:=id l1;rw[a9 le m9 (fun d5 n2=>d dH gz dm l1.ls (cr (aa l.2)) n2 (jn j0 iC))];{rintro n l x L h4 N a5 s⟨c,e7,f5,rfl,b0,r1,r2⟩b6 d1;rw[ix (as c b0 dt (fw ej r2))]};intro h9 d6 R j2 k8;rw[eW k8];have n0:=i0.length;have n3:=k8.length;rw[bA,bA]at n0 n3;rw[gQ (R _ _ j1) j2 nZ];have h2:=bs i8 d6 u;rw[a j9 h9 l3 (i8++d6) l3 (i8++d6),i h9 l3 (i8++d6) i3 h2 j9];have l2:=L (zO R) h2;have c7:=z_ l2;have p1:=c7 _ _ hd;have l4:=c7 _ _ g7;rw[bD (iW p1 (I jH jt G (av l4) (fun e5 g9=>?_)))];rw[zb d8 j];rw[g3 (ac (lR j) g9),a j8 i3 e5 (lR j) e5 (lR j),i i3 e5 (lR j) i7 b9 j8,a2 (b9 _ _ p1) (I jH jt G (av (b9 _ _ l4)) (fun e6 e1=>?_)),aa d8 (oK j) xZ d8 (j+1)];have l5:=b9.trans (ac xZ e1);rw[a e2 i7 e6 xZ e6 xZ,i l6 i7 e6 xZ e5 (lR j) e1 j8,f i7 e6 xZ h7 l5 e2 l6,c9 l6 e2 (RX (k:=j) g8.l) p_];have j4:=l5.trans (bs (lR j) xZ j5);rw[a g0 h7 c1 (lR j++xZ) c1 (lR j++xZ),i h7 c1 (lR j++xZ) o3 j4 g0];have k9:=c7.trans j4;have tB:=dk j4;rw[(aEr _ _)]at c4;have l8:=dH (lQ tB) (dH (lQ (dk c7)) i1);have o4:∀(g:kk->Pt),B Pw g=iH XX (g Em):=fun g=>aT;have n4:Gl (gr (iX XX) (cr [pF,rq]))=Gl (g0 Pw++cG Pw):=by{refine GM.aeE (fun p=>?_) (fg pW) (fg pW);simp only[V7,hD,fK,hF,oW,Du];constructor;{rintro⟨e,a0,q|q⟩;rw[dY,dY]};{rintro(⟨_,⟨e,a0,rfl⟩,q⟩|⟨_,⟨e,a0,rfl⟩,q⟩);rw[dY,dY]}};rw[n4]at c4;rw[b a b2 X G r l3 le c1 (a _ _ a70 rfl (gg k9) (ce (j4 _ _ j9) (g9 tB (oI (f0 h2 (f0 R i0)) (f0 h2 k8)))) ((k7.mono gz l2).mono gz j4).ls (ce g0 (oI (sF j l8) (Cn (j+1) l8))) (a (d (x (RU j0 iC j0 iC)) de nZ uh) (eL j0 iC) (fv dS j p_) Yw (fun v n6 n7 h6=>?_)))];{rw[h_ c2,KK (a_C).1,KK (a_C).2]};rw[dY,as n6 (k9.trans n7) k9 c4 fZ]}
universe z
theorem ags{I d:Type}(p:Be)(f:Fq):on (f e) (B (zB p) f)|[]=>rfl|a::J=>Hi (ags p f J)
theorem UU{r:Gla.Plan}{i k:Nat}(hi:gY)(ne:i≠k):eI∈Wo k++Xv (k+1):=by rw[wZ hi];rw[al (aFB ne),l (vU _ (ss ag))];{refine qO _ (bO (i:=i-(k+1)) ?_);rw[DB,m (k+1+(i-(k+1))) i i (k+1) q i (k+1),pP]}
section z
theorem aZ_:T.awz.Ok P w aj 5 (azL bJ):=by refine T.awz.go aUc aL;generalize aG=e3,aA=A,aF=outer,aE=s,aD=H,aB=vs,aH=Q,aI=E;rw[aN,M P9,aX,n a r b2 X G B,aV h a9 k,Bx];have Y:=aFA;have e8:=Oq;rw[fF,b7 a3 a7 h.p];obtain⟨ls,d9,e0⟩:=h.l;rw[hR akp,qU (X akt bP (g2 3 a_E (lx yA (cS bR cK) aq)) (a6 (D Si (dP bb) bE cv) (g2 6 (aTb (K:=K) rfl) (as (i3 bR) (i3 cK))) (dF ey (as (i3 (bs bb bE)) (i3 (bs bb bE)))) (eO (ei (hK aw aq) (Cs K aw (oy rB) So)) ey bP))) ⟨k7 d9,fun i0 i8=>d oG iK sD h.l.ls (hm ans aLY) i8 (gb iC)⟩];{rw[dI e x a0,aW b pN (bj rfl (ag) Zr),T b5 L aLg h7,bfQ,i_ bcA];rw[azM];cases q:a'O with|true=>{refine asn ?_;have c4:=q;unfold Gla.endsAt at c4;simp at c4;refine ab aLY (x kR) b5 ?_;show cq (v e.1+v e.2-v B)=vn aLY;exact gB cq nZ}|false=>rw[fH (d1 (by rw[aO (show¬ans=ab from hU)]) _ b5)]};rw[apY];rw[ags]at e9;have c3:=vt e9;rw[jY];have b4:b5 (a8 i0) (bh aas):=b4;rw[aW i0 (ce b4) gL];rw[dP,bA];rw[N p (t aas) 2];{rw[(dI (x AB))];obtain⟨x,y,M⟩:∃x y,aas=Jq:=by{match aas,p with|[x,y],_=>exact bp x y};have b1:=GM.drop_eq M;have b9:∀z∈aas,z<aJ/\z≠B:=fun z c9=>by{delta a6a at c9;rw[h4 c9,a9e];delta Ec at e1;simp at e1;have:=ee e g9;omega};have C:=b9 x ag;have F:=b9 y ag;have k3:=ux;obtain⟨e2,m,f5⟩:=k3.l;rw[a2 (dj hd) (m kE kx X ⟨k7 m,fun le j3=>?_⟩)];have b3:∀{j:Nat},om->z v (aa c5 v) (br v (bp j)):=fun{j}b8=>by{rw[cG v g (gJ a7 b8)];exact v v g (t (wZ b8) J)};refine d eS iK gz k3.l.ls (hm (! ans) (eG,eH)) j3 bM;{rw[dI e v a0];have ix:=ee e uv;rw[cS g7 r1 (b3 (j:=e.1) (b7 ix.1 ix.2)),bJ g8 r2 (b3 ix.2),aW b pN (bj rfl (ym) Zr),T b5 L aLg h7,bfQ,i_ (! bcA)];rw[azM];have o5:=L (gc s) b5;have b0:=o5 _ _ a3;generalize aLg=b7 at b5 o5 b0;cases q:! a'O with|true=>{rw[ah b2 (av b0) (d_ g7) (m b2 _ (av b0) (d_ g8) ⟨(ag),fun t' c0=>?_⟩)];have k1:=o5.trans a_t;exact ab _ (by rw[aK q]) (fj a_t) (m t' O o (v ak (bL k1 r1) (bL k1 r2)))}|false=>rw[fH (d1 (by rw[aO (show¬(! ans)=ab from ag)]) _ b5)]};intro d4 zs c8 e7 j0;rw[ags]at j0;have k1:=gc c8;have I:=dn b4;rw[M]at I;have n:=k1 _ _ a3;obtain⟨d,W,R⟩:=b3 C.1;rw[bH u Z (b3 F.1)];have c2:=Ii;have fl:bd (iX (k9 (Ec B l))) dR:=AW;rw[bA]at c2;rw[c (dr e7) i0 _ _ (vn x) rfl (av I) (i dh b2 _ d rfl (av n) (i (d_ W) i0 _ (vn y) rfl (av I) (i dt b2 _ f rfl (av n) (v (d_ u) (ym) Zr)))),l i6 d4 d4 t aoU h7,e g5 d4 t aoU t aoU];have D:=i6 _ _ e7;generalize upd d4 t aoU=e4 at i6 g5 D;rw[e le _ _ rfl rfl D (dc c2.l fl iC) ?_,aj d0 aMb (fI (aFr i6) (gX j3)),ae h8 e4 aMb (GH D)];have LE:dC eS aMb le ((iH (k9 (Ec B l)) Em)++[(bp x,bp y)]):=by{rw[e3 ak (eK (cd (hG i6 h8) j0) (m t d f (v (h8 _ _ g5) (bL d0 R) (bL d0 Z))))]};rw[i e4 le (zs++[nD]) g6 d0 LE];have d2:=d0 _ _ a3;rw[bA b2 d2 (fun e5 g9=>?_)];rw[zb c5 B];have c6:=ac lX g9;rw[a j1 g6 e5 lX e5 lX,i g6 e5 lX h5 c6 j1,bA b2 (c6 _ _ d2) (fun e6 e1=>?_),bhu,cc (c6.trans (ac ma e1)),a j2 h5 e6 ma e6 ma,i d3 h5 e6 ma e5 lX e1 j1,f h5 e6 ma h9 c j2 d3,c9 d3 j2 a_D AR];have h2:=c.trans (bs lX ma j5);rw[a j9 h9 c1 (lX++ma) c1 (lX++ma),i h9 c1 (lX++ma) i3 h2 j9];have c7:=z_ h2;rw[dC (f0 h2 (f0 d0 a7))];have d8:=gg c7;rw[(aEr _ _)]at b1;rw[b (h2 _ _ (d0 _ _ hd)) c1 (Wo B++Xv (B+1)) d8 (ce j9 (oI (sF B d6) (Cn (B+1) d6))) (LE.mono gz h2).ls d8.m.ls (fv de B AR) (fv de B AR) (eL fl iC) (fun v i7 i4 h6=>?_)];{rw[h_ a5];{rw[h4 q,a9e];delta Ec at e1;simp at e1;have:=ee e g9;exact⟨UU bM e1.1,UU fp e1.2⟩};{rw[cR Oa,fa];exact⟨UU C.1 C.2,UU F.1 F.2⟩}};rw[as i7 (c7.trans i4) c7 b1 fZ]};rw[Z (ed bM) (p9 (Me (GM.auK p)))]
theorem aZ':T.awt.Ok P w aj 8 (axL bJ):=by refine T.awt.go aT9 aL;generalize aG=e3,aA=A,aF=outer,aE=s,aD=H,aB=vs,aH=Q,aI=E;rw[aN,M oh,aX];generalize kT=a,kU=r,kX=b2,kY=X,kZ=G,la=a0,lj=x;rw[cm c0 a9 ask,aj (lv IS aZ4) (lv T.LM aZ9) (lv T.LN aZ5) (lv XI aZ6) (b4 aZ_ (di aq))];cases x with|lead row m=>{rw[qP b U,cc (lE U),sF (bh dt b c (a rH a i7 b8 r b2 X G (a row m rfl h I c4 a9 ask aaP)))]}|erase i j=>{rw[ou c0,cc (lE U),sF (u dh rfl b _ (u c dt b _ (a c rH a r b2 X G i (ax j h a9 aaP))))]}|move B p=>{rw[gI u c2 (b rfl c dt b _ _ rfl (a rfl c rH a u r b2 X (a G B p rfl h c2 a9 ask aaP)))]}|mark i m=>{rw[gI b8 c4 (Il (b rfl rfl c dt b _ _ (a rfl rfl c rH a b8 r b2 (f X G i m h c4 a9 ⟨ask,aaP⟩))))]}|drop B=>rw[ou c0,cc (lE U),sF (u dh rfl b _ (b c dh rfl b _ _ rfl (Il (a rfl rfl c dt a r b2 X (M G B h a9 aaP)))))]
universe z
def zg(C:Addr)(N:bg):Rl U7:=fun H v D=>∃a b2 X G,i1 Al (N (a∉N) (b2∉N) (X∉N) (G∉N))
theorem zg.sb{C:Addr}{N:bg}{H L:Hp}{v:V}{D:Gla.Plan}(h:zg C N H v D)(s:uF)(n:oN N H):zg C N L v D:=by rw[CD h,cw q d.at_];exact Df (F dx (dU q c9) (d.p.sb dm s n g9) (d.l.sb iK s n e1) (d.m.sb js s n j5))
theorem mC.sb{N:bg}{H L:Hp}{v:V}{x:Gla.Step}(h:mC N H v x)(s:uF)(n:oN N H):mC N L v x:=by have t:=s.ts n;cases x with|lead row m=>{rw[dp yk (l.sb dm s n a3) (lQ t k) a3]}|erase i j=>{rw[il h yk]}|move k p=>{rw[w pv e q J h];exact a a pv e yk (hJ t J)}|mark i m=>{rw[w b8 e q J h];exact a a b8 e yk (lQ t J)}|drop k=>rw[il h yk]
theorem mC.nil{N:bg}{H:Hp}{v:V}{x:Gla.Step}(h:mC N H v x):mC [] H v x:=by cases x with|lead row m=>{rw[dp q l k jK]}|erase i j=>{exact h}|move k p=>{exact h}|mark i m=>{exact h}|drop k=>exact h
noncomputable def rcF(g ls:Addr)(d:Int):hW:=[fM "cartoons" g,fM "steps" ls,("done",YQ)]
theorem Mf(g ls:Addr)(d:Int):ko "done" YQ bfz=g5 d:=by show ko "done" YQ (aK "steps" ls [("cartoons",.ref g)])=_;rw[rN];show ko "done" YQ [("cartoons",.ref g),("steps",.ref ls)]=_;rw[rN,rN];rfl
theorem agt(g ls:Addr)(d e:Int):ko "done" (.int e) (g5 d)=g5 e:=b0 rcF rN rN UN
section z
variable{g ls:Addr}{d:Int}
theorem agu:bN (g5 d) "cartoons" g:=by rw[<-Mf,di,pH,di,pH,di,cP]
theorem agv:bN (g5 d) "steps" ls:=by rw[<-Mf,di,pH,di,cP]
theorem zh:it (g5 d) "done"=aa YQ:=by rw[<-Mf,di,cP]
theorem a0a{m:Str}(a3:¬m="done")(a9:¬m="steps")(e2:¬m="cartoons"):fr (g5 d) m=ae:=by rw[<-Mf,di,bj a3,di,PZ,di,bj e2];rfl
universe z
structure RecAt(u CR:Addr)(H:Hp)(J:Addr)(R:GM.bU)(g ls:Addr):Prop where
 at_:∃dx,bh J (aC CR (g5 R.d))
 c:z vs (am g vs) (G7 pw)
 s:z vs (am ls vs) (dE (mC gk H) vs mW)
 ne:g≠ls
theorem RecAt.nt{u CR:Addr}{H:Hp}{J:Addr}{R:GM.bU}{g ls:Addr}(h:nr):oN gk H:=qW (by rw[JP,ks vs h.c,h5 b1 h.s,Br,apQ,az,az,cM])
theorem RecAt.mono{u CR:Addr}{H L:Hp}{J:Addr}{R:GM.bU}{g ls:Addr}(h:nr)(s:bQ):Bf:=by have n:=Ou;have sb:AG:=cH s;rw[JP,Rc,J7];exact dx (bv q) (v vs (bv d2) (o3 e9)) (v b1 (bv q2) (o3 f6))
theorem RecAt.nrc{u CR:Addr}{H:Hp}{J:Addr}{R:GM.bU}{g ls:Addr}(h:nr):J≠g/\J≠ls:=by rw[JP,Rc,J7];exact⟨bJ q d2,qx q q2 ai⟩
theorem RecAt.azO{u CR:Addr}{H:Hp}{J:Addr}{R:GM.bU}{g ls dx:Addr}(h:nr)(e:Nat):dJ a_X (ir e):=by have n:=Ou;rw[au sb gk a_X alN,Rc,J7];have G:=h.nrc;exact dx ak (v vs (Y G.1.symm d2) (o3 e9)) (y9 G.2.symm)
inductive azP(vs:af)(H:Hp)(Q:VK)(E:XK):Prop|mk:∀(v:V)(e:Gla.Fault),A [v] (GJ H v rG) (vS (B (IT e) cq)) (azP vs H Q E)
inductive azQ(u CR:Addr)(vs:af)(H:Hp)(Q:VK)(E:XK):Prop|mk:dF x_ (ad v (zg u gk H v gb) AO) (azQ u CR vs H Q E)
inductive azR(u CR:Addr)(vs:af)(H:Hp)(Q:VK)(E:XK):Prop|mk:dF aIQ (ko ug) (azR u CR vs H Q E)
inductive azS(u CR:Addr)(vs:af)(H:Hp)(Q:VK)(E:XK):Prop|mk:dF (R.d=0->ko 0) (R.d≠0->Gq tZ) (azS u CR vs H Q E)
inductive azT(u CR:Addr)(vs:af)(H:Hp)(Q:VK)(E:XK):Prop|mk:dF aIQ (ug=0->ko 0) ((ug≠0->Gq jN)->azT u CR vs H Q E)
inductive azU(u CR:Addr)(vs:af)(H:Hp)(Q:VK)(E:XK):Prop|mk:∀(J dx:Addr)(v:V)(D:Gla.Plan),e [xn,v] (bh J (aC CR [])) (zg u [] H v D) (∀L g ls,c (fW [J]) (Y g) (Y ls) (dJ L (kF D)) IZ) (azU u CR vs H Q E)
section z
theorem azV:T.refusal.Ok P w aj 1 azP:=by refine T.refusal.go aUj aL;generalize aG=e3,aA=A,aF=outer,aE=s,aD=H,aB=vs,aH=Q,aI=E;rw[aN,M fQ,aX,bW O e];rintro rfl⟨a,rfl,b3⟩k;rw[d _ (cl (yE (yZ (gi T.aVs) kK kK))) a _ _ _ rfl (u JC dh a _ (d JC dt (er 3) (fg (k l _ xG a5 ak))))]
theorem a0b:T.awA.Ok mg P w aj 1 (azQ bJ dM):=by refine T.awA.go aUe aL;generalize aG=e3,aA=A,aF=outer,aE=s,aD=H,aB=vs,aH=Q,aI=E;rw[aN,M oi,aX,RJ,aV h Y k,fF,bE q p h.c,dp o2 rv (mz p DI.1),bU (cl (f8 bP)) J (b hd gJ T.TX agu J dx _ (j hd gJ Ed zh g _ (f _ v rfl (v (av q) (d_ o2) (k v rv)))))]
theorem a0c:T.awB.Ok mg P w aj 1 (azR bJ dM):=by refine T.awB.go aUf aL;generalize aG=e3,aA=A,aF=outer,aE=s,aD=H,aB=vs,aH=Q,aI=E;rw[aN,M oi,aX,RJ,aV h dl k,fF,bE q p h.s,bU (cl (lx yA nY bP)) J (b hd gJ T.TY agv ls rfl (ce q) (G4 (aJ Ed zh)))];rw[wQ];rw[k2 (ae ug) (v lH-v R.d),d0 vn,bs e];exact k
theorem azW:T.GX.Ok mg P w aj 1 (azS bJ dM):=by refine T.GX.go aUh aL;generalize aG=e3,aA=A,aF=outer,aE=s,aD=H,aB=vs,aH=Q,aI=E;rw[aN,M oi,aX,RJ,aV h c0 f7,fF,bU (b6 (D gO bP bE bE) (adp bS bE aO3) bE) J (a hd gJ Ed zh gL)];rw[dP];rw[kn,l (c0 ai)];{rw[ca k0 (R.d≠0),beU];rw[agt];have e:v R.d-1=ae tZ:=bt (ahD (VZ k0));rw[J e (oY k0 tZ)]}
theorem a0d:T.Ub.Ok mg P w aj 2 (azT bJ dM):=by refine T.Ub.go aUi aL;generalize aG=e3,aA=A,aF=outer,aE=s,aD=H,aB=vs,aH=Q,aI=E;rw[aN,M oi,aX,RJ,av h dl c0 f7,fF,c _ (b6 (D gO apM bE bE) (adp bS bE arl) bE) J dx _ hd tU (f J R g ls h dl rfl ?_)];rw[dP];rw[kn,l (c0 ai)];{rw[beU];rw[agt];rw[bbz];rw[e];exact oY ai jN}
theorem a0e:T.T_.Ok mg P w aj 1 (azU bJ dM):=by refine T.T_.go aUd aL;generalize aG=e3,aA=A,aF=outer,aE=s,aD=H,aB=vs,aH=Q,aI=E;rw[aN,M oi,aX,al J dx v D,aV q d3 k,w _ (ft (eb aq) Bb (fG (hA bE))) (er 1) (fun g nc=>?_),cc (ft q nc),b J _ dx _ rfl (Y c q) gJ T.TX (v (ay) cT (fun ls ns=>?_)),M d J ls (by rw[fu ak ns];cases ns),M r g ls (by rw[<-z,bX Xj,ak]at ns;cases ns),b J _ dx _ rfl (wB d) gJ T.TY (a (vx ay) J _ dx _ rfl ak gJ (aJ Ed (nw ay)))];rw[Mf];have e1:H ls=ae:=by{rw[aG',bX r.symm]at ns;exact ns};rw[au sb [J] (E (U (upd (ap g [v]) J (aC dM (aK "cartoons" g []))) ls []) J (aC dM bfz) J (aC dM (g5 0))) (fun b o e m=>by rw[ca f7 (b≠J)];rw[bX f7,bX f7,bX (ep e1),bX f7,bX (ep nc)];exact e)];obtain⟨a,b2,X,G,rfl,j,_⟩:=d3;have l:oN [J] H:=fun b m O e=>ai;refine k _ g ls sb nc e1 (F dx ak (v uo ?_ (hy (a a b2 X G gL))) (pl ?_) r);{rw[bX Xj,bX Xj,bX r,bX Xj,ak]};{obtain⟨t,M⟩:=j.at_;rw[ks c5 j.p,h5 d8 j.l];obtain⟨b1,q3,_⟩:=j.m;have u:=qx M q (by rw[tP];injection z with _ _ z;rw[y2 "width",am y_,nu]);have x:=bJ d2 q;rw[g7 (bJ q2 q)];have y:=bJ q3 q;have k3:zg bJ [J] H bc D:=f a b2 X G j ai ai ⟨ai,ai⟩;obtain⟨B,e7,i,I,d0,p,_⟩:=k3.sb sb l;cases d0;have f:∀{b:Addr}{o:HO},Pf->b≠J->b∉gk:=fun{b o}e n=>by{simp only[hF,oW,Du,aEm];exact v n (ep nc) (ep e1)};exact a (F t (sb _ _ M ag) (j.p.sb dm sb l ai) (j.l.sb iK sb l ai) (j.m.sb js sb l ai)) (f M u) (f d2 x) (f q2 c1) (f q3 y)};{rw[aG',aG',ak]}
universe z
universe GA
namespace GA
open PySem PySem.Spec PyProof.Rows L2
variable{u CR:Addr}{H L:Hp}{J g ls:Addr}{R:GM.bU}
theorem RecAt.azX(h:nr){vs:af}{cs:bL U7}(p:G7 cs):dJ (ap g vs) (v cs mW R.d):=by have n:=Ou;rw[au sb gk (ap g vs) (hp (tw H) oo),JP,J7];have G:=h.nrc;exact dx (Y G.1 q) baX (y9 h.ne.symm)
theorem RecAt.sets(h:nr){vs:af}{ss:bL CK}(p:dE (mC gk H) vs ss):dJ (ap ls vs) (v pw ss R.d):=by have n:=Ou;rw[au sb gk (ap ls vs) (hp (tw H) Zb),JP,cH q2 f6 h.c];have G:=h.nrc;exact dx (Y G.2 q) (y9 akh) baX
theorem RecAt.live(h:nr){l:Addr}(m:l∈gk):H l≠ae:=an (by have⟨dx,q⟩:=mX;have⟨vs,d2,_⟩:=h.c;rw[beA,Br,apQ,az,dY,dY])
inductive azY(u CR:Addr)(vs:af)(H:Hp)(Q:VK)(E:XK):Prop|mk:dF x_ (o L AG (dJ L (v P7 tR R.d)) IZ) (azY u CR vs H Q E)
def agx(u CR:Addr)(H L:Hp)(J:Addr)(R:GM.bU)(g ls:Addr)(x:Gla.Step)(b9:aQ):Prop:=match XJ gb x with| .error none=>b9=[-2]/\Bf| .error (some e)=>b9=IT e/\Bf| .ok T=>mn (b9=[-3]/\Bf) (b9=[0]/\dJ L ZS)
inductive azZ(u CR:Addr)(vs:af)(H:Hp)(Q:VK)(E:XK):Prop|mk:∀(J:Addr)(R:GM.bU)(g ls:Addr)(a0:V)(x:Gla.Step),e [xn,a0] nr x_ (mC gk H a0 x) (Ij x->(K4 (agx u CR H L J R g ls x b9))->azZ u CR vs H Q E)
section z
theorem a0f:T.Ua.Ok mg P w aj 2 (azY bJ dM):=by refine T.Ua.go aUg aL;generalize aG=e3,aA=A,aF=outer,aE=s,aD=H,aB=vs,aH=Q,aI=E;rw[aN,M oi,aX,RJ,aV h Y k];have d8:=NQ;rw[K (fG (F6 NY (eb vb apM bE) (c8 (Cn bP) (Cn bP)))) (qQ (∃j,m=j-R.d/\R.d<=j/\j<=lH/\M=[ac J]/\AG/\oB (v (aFD (j+1)) (NR j) R.d))) (f _ lH wR (a2 aY rfl (cH ej))) ?_,dr (DJ (x d8.l)) H_ h];rintro m M L⟨j,rfl,a3,a9,rfl,s,h'⟩;rw[cw hd h'.at_,bE d2 e9 h'.c,cH q2 f6 h'.s,ae a7 (t (NR j)) j,ae d5 (t (aFD (j+1))) (j+1)];have O:=rg;rw[l4 _ (f g ls h' (au ag))];rw[a7];rw[kn];{have C:R.d<j:=by{grind};rw[b2 aaV];have b:K vs (iR-1) (vs[iR-1]'(ag)):=pM;rw[y J dx hd gJ (KV b)];have b4:vs.dropLast=aku j:=by{rw[a6b,O,d5];rfl};rw[b4];have V:=h'.azX (E1 (sF j e9));rw[au b5 gk (U L g (aku j)) (s.put oo),i L g (aku j) b7 V b5,kv d7 V.at_];obtain⟨Cp,q3,j0⟩:=V.s;rw[R a aFC j Ii a7];have d:K Cp (aFC-1) (Cp[aFC-1]'(ahW (a▸fg cT C) ahX)):=pM;rw[y J W d7 gJ (cS q3 Cp q3 d)];have b9:Cp.dropLast=Cp.take (j-1):=by{rw[a6b,a]};rw[b9];rw[b (j-1-R.d) (Nat.sub_lt_sub_right (VG C) (ahW (fg cT C) ahX)) (j-1) rfl (bn C (aS j 1)) (bV (qR j 1) a9) rfl (b5.put Zb) ?_];rw[m (j-1+1) j j 1 C j 1];exact(V.sets (E1 (sF (j-1) j0)))};rw[dY]
theorem az0:T.GW.Ok mg P w aj 11 (azZ bJ dM):=by refine T.GW.go ae7 aL;generalize aG=e3,aA=A,aF=outer,aE=s,aD=H,aB=vs,aH=Q,aI=E;rw[aN,M P9,aX,n J R g ls a0 x,cm Y c0 sa,a'5];have FW:∀{b:Addr},gs->b∉gk:=fun{b}e m=>by{have⟨vs,d2,_⟩:=h.c;rw[beA,Br,apQ,az,dY,dY]};rw[c _ (X ae7.nd (bh aZ' apN aq) (D yC aw cv (is T.aVq)) (gt ae7.nd apN (ah (aj vc bP T.avD (is T.aVr)) (yy (dK T.Ua.h a0f T.Ua.b)) (a6 (dF bP aw) (dF bP aq) (adp bS bE arl) ane)))) J dx _ hd tU (a J R g ls rfl h Y ?_)];rintro _⟨a,b2,X,G,rfl,j,c6,n1,n2,u⟩;rw[d a gb b2 X G a0 x (a j c0.nil DI.2 sa (fun v a8 a4 b8=>?_)),fL ux];unfold LV at b8;have c1:K4 (match XJ gb x with| .error none=>b9=[-2]/\oB R| .error (some e)=>b9=IT e/\oB R| .ok b6=>mn (b9=[-3]/\oB R) (b9=[0]/\oB (WH x b6))):=k;delta XJ at c1;cases D:ajC gb x with|none=>{rw[D]at b8 c1;subst b8;refine ah (ay) (fg (c1 l _ [-2] (cH (gc xG)) (gX a5) ak (bd (akw xG))))}|some d=>rw[D]at b8 c1;simp only at c1;obtain⟨b6,B,e7,i,I,rfl,d',N,c9,g9,F,g4,h3,h6⟩:=b8;rw[bu];have⟨h4,Z⟩:=a3.at_;rw[c J h4 Z tU J R (f g ls a3 (au Y))];rintro _⟨b,i2,h7,i7,rfl,M,_⟩;rw[d B b6 e7 i I _ (aa gb) (a d' (a b i2 h7 i7 (bd M)) N (sW (by cases z;exact DI.2)) aIe)];rw[c9]at p;rw[J2,eq (akw b5)];cases a7:zR d with|some e=>{rw[a7]at p c1;have⟨t,b0,d1⟩:=p;subst b0;rw[Q rfl _ e ⟨p,fun l d4 c8 d6 h2=>c1 l _ (IT e) (cH (IF c8)) (aFE d6) h2 (bd (XM c8))⟩]}|none=>rw[a7]at p c1;subst p;have c2:=g9 a7;subst c2;rw[bu];have⟨W,d7⟩:=a9.at_;rw[y J W d7 gJ (v Ed zh Ke)];{rw[kt (fg (c1 l _ [-3] (cH (IF xG)) (aFE a5) ak ?_))];simp only;rw[J (aK nZ) ⟨fZ,XM xG⟩]};{rw[c J W d7 tU J R (M g ls a9 Y (fun d4 c8 e2=>?_))];have n:=L (cH i9) c8;have b4:zg bJ gk b7 (.ref B) b6:=f B e7 i I (d'.mono b5) (FW F) bz ⟨bz,FW h6⟩;have⟨c4,c3⟩:=e2.at_;have⟨vs,d2,e9⟩:=e2.c;have i5:iR<=65537:=by{rw[rg];rw[eT];have:=NQ;have:=akv;grind};rw[fb,y J c4 c3 gJ (KV (gb i5))];have e5:=e2.azX (eK e9 (b4.sb c8 a9.nt));have k9:SB gk d4 (aV d4 g vs (.ref B)):=hp (tw d4) oo;have r:=(c0.sb n Ou).sb k9 e2.nt;have U:=tu k9;rw[f d4 g (vs++[.ref B]) e4 e5 r U];have⟨c5,c7⟩:=e5.at_;have⟨b1,q2,f6⟩:=e5.s;have d0:lC<=65536:=by{rw[N2];rw[eT];have:=akv;grind};rw[y J c5 c7 gJ (cS q2 b1 q2 (gb d0))];have f:=e5.sets (eK f6 r);rw[au S gk (aV e4 ls b1 a0) (U.put Zb),i e4 ls (b1++[a0]) g6 f S];have⟨q,y⟩:=f.at_;rw[y J q y gJ (n1 q y)];rw[agt];rw[bbz];show KS _ _ _ _;rw[e];have b3:=f.azO (dx:=q) jN;rw[au C gk (upd g6 J (.ins dM q (g5 (ae jN)))) (S.put bK),kt (fg (c1 l _ [0] (C.trans (cH xG)) ?_ ak ?_))];{cases O:H l with|none=>{rfl}|some o=>by_cases m:l∈gk;rw[cF a5 (b3.live m)];{rw[C l o O m]at a5;cases a5}};{simp only;rw[aO bM];exact⟨fZ,aFd xG⟩}}
universe z
universe GA
namespace GA
open PySem PySem.Spec PyProof.Rows L2
noncomputable def UW(b:Gla.Bytes)(p:Nat):Nat:=rd (Ic b p 1) (Ic b (p+1) 1)
theorem az1{c:UInt8}{k:Nat}(c3:k<256)(e:eE=k):c=aiR k:=by apply aDh;rw[e,aDi];exact bt (et c3)
theorem az2(b:Gla.Bytes)(p:Nat):akx b p=match b[p]? with|none=>aKs|some c=>E (4<eE) 5 p (ct eE (match b[p+1]? with|none=>aKs|some n=>E (QS=ah) 5 (p+1) (E (cx<p+AX) 6 cx ae)) a9U):=by delta akx Gla.stepSize;cases b0:b[p]? with|none=>{rfl}|some c=>simp only;by_cases e5:4<eE;{rw[aK e5];rw[fh ai,fh ai,fh ai,fh ai,fh ai]};{rw[aO e5];have cs:aMW:=by{rw[eo]};delta UW;rw[(Ov b0)];rw[aM0];{have z:c=0:=az1 ay e;rw[aK z,aK e,e];cases d1:b[p+1]? with|none=>{rfl}|some n=>simp only;cases hw:QS with|false=>{rfl}|true=>rw[cP];simp only;rw[(Ov d1)];have b9:2+8*jC+12=14+8*jC:=by{simp+arith [*]};rw[b9];rfl};rw[ao7,ao7,ao7,ao7]}
inductive az3(K:Fg)(vs:af)(H:Hp)(Q:VK)(E:XK):Prop|mk:na (A [cD] tL (yv J_) (az3 K vs H Q E))
inductive az4(K:Fg)(vs:af)(H:Hp)(Q:VK)(E:XK):Prop|mk:mI (GM.yW b) (az4 K vs H Q E)
inductive a0g(b:Gla.Bytes)(p:Nat):Prop|mk:∀c:Mt,i aKq (eE<=4) (D8 aLL) alT
inductive agy(K:Fg)(vs:af)(H:Hp)(Q:VK)(E:XK):Prop|mk:oA (ko AX) (agy K vs H Q E)
inductive az5(K:Fg)(vs:af)(H:Hp)(Q:VK)(E:XK):Prop|mk:lK (gt (akx b p)) (az5 K vs H Q E)
inductive az6(K:Fg)(vs:af)(H:Hp)(Q:VK)(E:XK):Prop|mk:∀(l:Addr)(b:Gla.Bytes)(p:Nat)(n:UInt8),e [cD,jQ] tL aLL (p<2^30) ((∀a i7 b8 L,j bQ (L a=aa (.tup bcg)) (Y i7) (dC dH L i7 bah) (sC L b8 (aDI b (p+2+8*jC))) Ph)->az6 K vs H Q E)
def StF(H L:Hp)(v:V)(x:Gla.Step):Prop:=∀N:bg,V b N (H b≠ae)->mC N L v x
inductive az8(K:Fg)(vs:af)(H:Hp)(Q:VK)(E:XK):Prop|mk:oA (p<2^30) (ga (StF H L v alU)->az8 K vs H Q E)
section z
theorem az9:T.awG.Ok P w aj 2 (az3 K):=by refine T.awG.go aUn aL;generalize aG=e3,aA=A,aF=outer,aE=s,aD=H,aB=vs,aH=Q,aI=E;rw[aN,M fQ,aX,Fz,ds a5,cp (cl (cS mh mh)) 8 4 (a l b 12 4 rfl jX ay (zh (k b7 e_)))]
theorem a0h:T.awF.Ok P w aj 3 (az4 K):=by refine T.awF.go aUm aL;generalize aG=e3,aA=A,aF=outer,aE=s,aD=H,aB=vs,aH=Q,aI=E;rw[aN,M fQ,aX,Fz,ds a5,aj (GS T.avF) (K1 (GT T.avE)) (aj vb (dL az9) T.avD uf) (D vb (cS amq mh) nK (dQ nK)) cv,d0 GM.yW,dl pW ?_];rw[dD];rw[kn,beR];{rw[ef nZ,bhj,bhh];rw[g7]at a9⊢;intro o d0;rw[baH,Ix aIz];rw[GZ];rw[g0 aIz Ab Ab];generalize a76=b7 at b5;rw[b1 xl Ab];{rw[dI (D.mpr e)];rw[ef hU,y l b (WN a5) (fun d4 m=>?_)];have c8:=fj m;rw[bD a_Z,e7 bdE (ay) (h0 (m_ cn))];{rw[ef bdE,aR 4 4 (c8.seq a5) (fun e4 c9=>?_),aIi,n8 JD];rw[dD];refine fH (fun i0=>?_) (fun i0=>?_);{rw[fZ nZ,dl (.inl JD) aGL,J dD (ax (mZ cn) lT)]};{rw[ef nZ];exact ax d9 rfl}}};{rw[ed (ah (e (D.mp q)))];rw[fZ e,kt (h0 (fj cn))]}}
theorem az_:T.step_size.Ok P w aj 1 (agy K):=by refine T.step_size.go ae9 aL;generalize aG=e3,aA=A,aF=outer,aE=s,aD=H,aB=vs,aH=Q,aI=E;rw[aN,M Ax,aX,RH];rintro rfl a5⟨c,b0,i0,d1⟩k;have nc:=Ov b0;rw[b2 (X ae9.nd (avx K (GT T.aVt) Qv) (bm gO Qv (gi IS) (eT 2 ae9.nd (lx F8 (gi WS) (eT rB)))) (df aw))];intro o d0;have g:∃z:Nat,K ([cq 14,cq 5,cq 11,cq 15,cq 3]:af) eE (vn z)/\(eE=0->z=14)/\(eE≠0->z=AX):=by{delta UW;rw[nc];have cs:aMW:=by{lia};rw[aM0]<;>rw[e];{simp};{simp};{simp};{simp};{simp}};obtain⟨z,d2,O,z1⟩:=g;rw[r l (vn eE) a5 aoD (D o z d0 (d_ d2) (D l eE a5 aoD gL))];rw[dP];rw[aoZ];{rw[qS eE,bca,r l (vn jC) a5 ?_ (o_ yt gL),l (BA j2)];{rw[d0 UW];rw[nc,d3,Ov j2]at k;rw[g7 (O d3)];subst c1;exact k}};rw[Z (z1 ai) k]
universe z
section z
theorem a0i:T.awI.Ok P w aj 2 (az5 K):=by refine T.awI.go avd aL;generalize aG=e3,aA=A,aF=outer,aE=s,aD=H,aB=vs,aH=Q,aI=E;rw[aN,M Ax,aX,RH,ds a5,b2 (X avd.nd (dQ nK) (D vc aq nK aw) (a6 (aj vb Qv T.afr (dQ aq)) (ah gO Qv (gi IS) (D vc rB nK aw) (bx T.avB (eT rB) T.avC (dQ rB))) (D vb (cS aq (b4 az_ aq)) nK aw) cv)),bs az2,dl pW aGL];rw[dD];rw[aj a4 (ad t ao6) cn,e b4 H t ao6 t ao6,iG (ad t ao6)];have a:GJ a8 nD aKs:=aP t b4;rw[n8 jX];rw[dD];rw[kn];{rw[bs (zI (x (aDe c)))];exact p9 a};have lt:p<cx:=by{rw[fH (aDf c)]};have b0:=dd lt;generalize b[p]=C at b0;rw[bs b0,amf,bJ aoD,ah l jX m a_0,e7 nZ eu (m6 bc2)];have d':¬4<aFF:=by{rw[fU]};rw[ef d'];have last:alT->gt a9U->∀M:H9,i (K M 0 tV) (K M 1 (bE p)) (K M 2 (ac t)) (Sb (vd (BG a9J (BG (qy (i+j)) (hq 1) (F9 (agy K) [] E0 (qA (hq 0) (hZ (hq 1))))) (KW (K0 K) (hZ (hq 0))))) (Sa (hq 2)) adb {nx:=Sa (tC .bC) a7h,rt:=Q} M a8):=fun c3 B M b1 a3 a9=>by{delta Sb vd BG F9 KW qA sh;refine wY a3 (wY b1 (wY a3 (m l b p (v jX c3 (wY b1 (f l _ (.inl jX) ?_))))));rw[dD];rw[aoZ];{have d3:cx<p+AX:=by{rw[fU]};rw[aK d3]at B;delta Sa;exact wY a9 (B _ _ a4 a)};{have d3:¬cx<p+AX:=by{rw[fU]};rw[bj d3]at B;exact B _ _ a4 rfl}};rw[ah l jX m gL];rw[dP];rw[aoZ];{rw[qS aFF,fZ d3,n8 jX];rw[dD];rw[a_7];{have I:cx<=p+1:=by{rw[fU]};rw[bs (zI I)];exact p9 a};have I:p+1<cx:=by{rw[fU]};have d1:=dd I;generalize b[p+1]=n at d1;rw[bs d1,amf,ad r (BI kI (v p+1)) (vn jC) (BA d1),ah l jX r Pl];have o:QS=ah->E u (gF u) (Q (.ref u) (upd a8 u (g8 5 (v p+1)))):=fun z u hu=>by{rw[fZ z];exact bc2};rw[ao0];{rw[i_ (! bi (v jC) 64)];refine fH (fun g8=>?_) (fun g8=>?_);{have z:QS=ah:=by{delta jI;simp at g g8⊢;lia};exact⟨eu,bdL⟩};{have z:QS=ab:=by{delta jI;simp at g g8⊢;rw[ue]};rw[ef (axm z),Qa];rw[BD];refine Dx (d C b0 ag (as ⟨n,d1⟩)) k _ ?_ ?_ ?_<;>rfl}};{have z:QS=ah:=by{delta jI;simp at g⊢;grind};exact⟨eu,bdL⟩}};{rw[zE aFF,ef d3,Qa];rw[BD];refine Dx (d C b0 (j9 d') (J (cz z d3))) k _ ?_ ?_ ?_<;>rfl}
theorem a0j:T.awJ.Ok P w aj 4 (az6 K):=by refine T.awJ.go aUo aL;generalize aG=e3,aA=A,aF=outer,aE=s,aD=H,aB=vs,aH=Q,aI=E;rw[aN,M oi,aX,al l b p n,av a5 d1 c2 k];have v3:=n.toNat_lt;rw[fb,e3 (X aky rB (bW 3 aky (cZ aw WS (eT rB))) (bo (e aky 4 (e8 aw bb (gi WS)) (ck "at" 5) (ci 5 aky) kN (bC (b4 Ul cK))) (cp (gi IS) bR (b4 afB bb)))) (D l jC a5 (BA d1) (b _ _ rfl rfl yt _ _ (as rfl (b2 (p+2) jC 8 aT) (fun Z f=>axo (n:=jC) dm (dK (aa (aja b (p+2+8*i)))) f (eL v3 fy) ?_ ?_)))),cd j2 (p+2+8*i) (zL a5) bhs];intro a8 c5 a4 b4 e9;rw[eW e9,nd (p+2+8*jC) (fun b8 b7 b5 r2=>?_)];{rfl};rw[v (ym) (fun a b3=>?_)];have g9:dC dH a8 Z bah:=v c5 b4 e9;exact k a Z b8 _ (dP e_ b3) ak f (g9.mono dm (fj (b_ b3))) a_A
theorem a0k:T.step_at.Ok P w aj 5 (az8 K):=by refine T.step_at.go ae_ aL;generalize aG=e3,aA=A,aF=outer,aE=s,aD=H,aB=vs,aH=Q,aI=E;rw[aN,M Ax,aX,RH];rintro rfl a5⟨c,b0,i0,d1⟩c2 k;rw[d _ (X ae_.nd Qv (aj gO aw IS (b4 a0j aq)) (i 3 ae_.nd Qt (fo T.LM T.LM Qt) (bZ (fo T.LN T.LN (b4 Ul rB)) (fo XI XI (b4 afB rB)) (as (gi T.afr) bb)))) l _ _ (vn eE) rfl (aJ a5 aoD),d0 a6c,amf,bs (Ov b0),bu];rw[dP];rw[aoZ];{rw[qS eE,bca];rw[aK d3,Ov j2]at k;rw[b l b p n rfl a5 j2 c2 (fun a i7 b8 L s d0 c4 D c1=>k _ L s (mV (m a i7 b8 (d d0 D c1 (bo (hN i7 m c4))))))]};rw[ef ai,f1 (p+1) a5 aJ4];{rfl};rw[bu];rw[dP];rw[a_7];{rw[fZ bz,f1 (p+3) jX (fun b7 b5=>?_)];{rfl};exact zW (aP a ak)};rw[ef bz,bu];rw[dP];rw[ao0];{rw[fZ bz,nd (p+3) a8H];{rfl};exact zW (f a v ak (hJ (GI b3) r2))};rw[ef bz,bu];rw[dP];rw[ao0];{rw[fZ bz,nd (p+3) a8H,dY];exact zW (f a v ak a_A)};rw[ef bz];exact m0 (fun a b3=>ax (lC b3) (mV (aP a ak)))
universe z
inductive agz(C:Addr)(H L:Hp)(v:V)(r:Gla.Plan):Prop|mk:∀a b2 X G,b v bc (g4 L r) (Y a) (Y b2) (Y X->Y G->agz C H L v r)
inductive az'(K:Fg)(C:Addr)(vs:af)(H:Hp)(Q:VK)(E:XK):Prop|mk:na (e [cD] tL (KE (akz b)) (∀r a y L,b (akz b) (.ok r) bQ (L a=aa (cO .bC y)) (agz C H L y r) Ph) (az' K C vs H Q E))
theorem fW.sb{K:Fg}{N:bg}{H L:Hp}{l:Addr}{O:af}(h:ik O)(s:uF)(m:l∉N):fW K L l O:=q9 (dU h m) (dU h m)
theorem aAa{K:Fg}{H:Hp}{a:Addr}{ns:aQ}(h:mG xO):cs bc aG6:= .lst h (afC ns)
theorem a0l(ns d8:aQ):jx aG6 (.list (HW aDJ))=ar ns d8:=t jx (afD ns d8)
theorem aAb(ns:aQ):iK aG6:=Iy (aDK ns)
noncomputable def Mg(b:Gla.Bytes)(r:Gla.Plan)(p:Nat):bZ Ms:=match a6d b J_ r p with| .error e=>rG| .ok (_,q)=>E (q<cx) 8 q ae
inductive aAc(K:Fg)(u CR:Addr)(vs:af)(H:Hp)(Q:VK)(E:XK):Prop|mk:∀(J l:Addr)(b:Gla.Bytes)(p:Nat)(r:Gla.Plan)(g ls:Addr),e [.ref J,cD,jQ] (dJ H (kF r)) (xb r) tL (c (l∉gk) aHM (p<100000) (J_<=65536) ((∀e v L,i (Mg b r p=aa e) AG (GJ L v rG) (Q v L))->(∀R q L,c (GM.vp b J_ r p J_ R q) (¬q<cx) AG Bf IZ)->aAc K u CR vs H Q E))
section z
theorem aAd:T.awf.Ok P w aj 10 (az' K bJ):=by refine T.awf.go TJ aL;generalize aG=e3,aA=A,aF=outer,aE=s,aD=H,aB=vs,aH=Q,aI=E;rw[aN,M fQ,aX,Fz,aV a5 c0 f7,b2 (L TJ.nd (dL aV') aIF (i 2 TJ.nd (dL aWb) (bW 1 TJ.nd (bh azt aw cv)) (bo aIF (as cv aw))))];rw[GM.auU]at c0 f7;rw[y l b a5 aIM];cases b4:NZ b with|some e=>{rw[b4]at g4 c0;rw[n9 g4,xV,eZ rfl (gc cn) g4]}|none=>rw[b4]at g4 c0 f7;simp only at c0 f7;subst g4;rw[Q rfl l b (v jX b4 (fun a b2 X G b7 b5 c7 b0 a0 d6 d1=>b a (DM b) b2 X G ae rfl (ax c7 (GM.auT b) (sW (YI)) (fun v d4 c8 h6=>?_))))];have n:=L e_ c8;cases e7:zR (DM b)with|some e=>{rw[e7]at h6 c0;have⟨u,d0,b3⟩:=h6;rw[xV,eZ rfl (tu cn) h6]}|none=>rw[e7]at h6 f7;subst h6;refine ah eu (fk (f7 _ t _ _ rfl (tu cn) ak (f a b2 X G (bN (c7.mono c8) cn) (gX b0) (gX a0) ⟨gX d6,gX d1⟩)))
theorem a0m:T.awH.Ok P w aj 12 (aAc K bJ dM):=by refine T.awH.go TN aL;generalize aG=e3,aA=A,aF=outer,aE=s,aD=H,aB=vs,aH=Q,aI=E;rw[aN,M oh,aX];generalize kT=J,kU=l,kX=b,kY=f,kZ=r,la=g,lj=ls;rintro rfl h C a5 d6 U j a7 c0 f7;rw[b2 (b6 (mB (oz (km az9)) (sI 3 TN.nd) (i 4 TN.nd (bh a0i aq aw) (dS bR bR) (c8 (D al4 (jn bS gJ T.GW.h (eE az0) a6 T.GW.b .nil fu (ea (bh a0k aq aw))) ane (dQ aw)) (eT 2 TN.nd (bh az_ aq aw))))) (D ly aw (dP aq) (dQ aw)) cv)];generalize hN:J_=N at*;rw[y l b a5 aJ4];rw[hN];rw[aP (v N) rfl aT (x (nE a7))];rw[iT];rw[fG N (fo (GL (fun(p:Nat)(R:aDr)(j8 b1:bZ V)=>GK (M=[ac J,tV,bE p,j8,b1]) AG (oB R) (GM.vp b N r f i R p) (p<100000)))) (f f _ ae ae (cH a4) ux (GM.aSI C f) j)];{refine Ax;rw[co i M L];rintro hi⟨p,R,j8,b1,rfl,s,hR,I,c2⟩;have h1:=zv s;rw[Q l b p ⟨h1,fun v b7 b5 h3=>?_⟩,cO (iq (cH b5))];have X:=akA b5;cases c9:akx b p with|some e=>{rw[c9]at h3;rw[n9 h3,xV,v rfl (c0 e _ _ ?_ q h3)];delta Mg;rw[hN,I.fail hi c9]}|none=>rw[c9]at h3;subst h3;rw[bu];have⟨c,b0,i0,k⟩:=GM.aeS c9;have kd:alT:=d c b0 i0 (J (let⟨n,d1,_⟩:=k z;⟨n,d1⟩));have⟨W,d7⟩:=X.at_;rw[c J W d7 tU l b (c p rfl (WN h1) kd (x (fJ c2 tF)) (fun a0 d4 c8 d2=>?_))];have sa:=GM.auR c9;rw[g J R g ls a0 alU (X.mono c8) (d Ve (d2 _ (fun x m=>X.live m)) sa (fun F e4 b9 d9 O Z D=>?_)),v (er 1) (fun j7 k0=>?_),T f9 e4 (U e4 j7 hc) k0];have B:=bX (VW (cH c8)) d9 (cH f9);rw[a c1 e4 j7 hc j7 hc];have d:=hF Z;generalize U e4 j7 hc=g6 at f9 B c1 d;rw[K _ (aAa (av d)) (aAa (ns:=[0]) (av c1)) (aJ (aAb _) (aAb _))];rw[a0l];have b8:=GM.Tu I.ok.cur.2 sa.ok;have f6:(bdx)->E t (g6 t=ae) (Q nD (upd g6 t (ed 7 jQ))):=fun c5 t c6=>by{refine oV 7 (B.trans (cH cn));delta Mg;rw[hN,I.no hi c9 c5]};unfold agx at D;cases g9:XJ gb alU with|error y=>{have c5:bdx:=fun b6 z=>ai;rw[ed (by cases y with|none=>{rw[g9]at D;rw[D.1];decide}|some e=>rw[g9]at D;rw[D.1];delta IT;rw[tP];cases z)];exact m0 (fk (f6 c5 t c6))}|ok b6=>rw[g9]at D;simp only at D;rw[z BO (b1 R.d) I.d pT];rw[bj ag]at D;obtain⟨rfl,o⟩:=D;rw[dI rfl];have Y:=Mz a7 hi c9 (T:=b6) aIX;rw[b l b p rfl (zv B) kd _ _ (ii ?_),bN a3 (GM.LC b p) AX (GM.aSH c9)];rw[a3]at Y;rw[b (p+AX) _ (aa (cq (0+xy))) al6 rfl B (o.mono f9) Y ?_];{have:p+AX<=cx:=by{have z:=c9;rw[az2,b0]at z;simp only at z;rw[bj ag]at z;rw[d7 u eE];{rw[fU]};rw[az]};exact Rm}};{refine fQ;rw[X5];rintro⟨p,R,j8,b1,rfl,s,hR,I,c2⟩;rw[n8 (zv s)];rw[dD];rw[kn];{rw[v eu (fk (oV 8 (iq (cH cn))))];delta Mg;rw[hN,I.done];simp only;rw[aK (x (By c))]};rw[l (f7 R p L I (f0 (gx z (Bz c))) s hR)]}
universe z
theorem a0n{I:Type}{R:kj}{K:Fg}{l d:Addr}{j o:Nat}{b:L2.St}{G H:Hp}(A:∀L v a,cZ G L->R G v a->R L v a){D:Ends}{Y:ba}(f:I->aDS){B:Gla.Bytes}{e8:Sp}(a5:bab)(nd:G d=ae)(s:cZ G H)(hd:am d (bV B))(c9:bcY)(b1:b=ajm j ae)(c:bdX)(e:bae)(C:biY)(k:bg3):biQ:=Lw (A _ _ _ a4 J)
inductive aAe(vs:af)(H:Hp)(Q:VK)(E:XK):Prop|mk:∀(v:V)(x:Gla.Step),e [v] (mC [] H v x) (GM.aeP x) (mo (akB x)) (aAe vs H Q E)
theorem bkb(c:UInt8)(b:Gla.Bytes):bV (c::b)=vn eE::kI:=rfl
section z
theorem a0o:T.awD.Ok P w aj 4 aAe:=by refine T.awD.go ae8 aL;generalize aG=e3,aA=A,aF=outer,aE=s,aD=H,aB=vs,aH=Q,aI=E;rw[aN,M fQ,aX,bW v x,aV c0 W k,Bx,bht];have R:∀p,t (bV (rd p))=8:=bn bI;have D:∀m,t (bV (Ie m))=12:=bo bI;rw[b2 (L ae8.nd (eb kK) (sg (eb gO kK (gi IS)) (bZ (dF aq (dP kK)) (bd kK 2 ae8.nd (eD aq (a7 Um aw))) (kc aq afF)) BE) (ah (eD aq ang) (mX T.LM Uk) (bZ (mX T.LN Um) (mX XI afF) aq)))];cases x with|lead row m=>{rw[qP a b3,b7 a3 a7 I];obtain⟨⟨r2,c,d1⟩,h5⟩:=W;rw[aa1,aj a4 (ap d hc) xw,ar b4 H hc hc,iG (ap d hc),CR (a (cy OG) dt i7 _ rfl (ce (dj a3)) d _ (f _ rfl b4 (au (bB))))];have f5:(anj++[g1 kA])=aay:=by{rw[akp];show [cq 0,g1 fi]=hA 0 (zp fi);have:zp fi=fi:=by{simp[*];exact cV c};rw[oc];rfl};rw[f5];rw[aj b5 (U a8 d aay) (gr a4),ar b9 a8 aay aay,i a8 d aay b7 b5 b9,pu (aFG rd) fi,ab N (bcc).length 2,db a (gT b3) (bj i7 (dD c5 (gT a3)) (Uq (j:=2) (o:=1) dm rd (a6e (v c5 a3 a7)) nd b5 b9 nZ rfl kW kW (fun x p L h4 Z O J B=>M x p J.px (d1 p Z) B) (fun j8 d4 c8 e7=>as a (dn b3) rH (M b8 m (ts c8) h5 (vA (by rw[dD,ck,d2,N,D];rw[ka])))))),Rk,cd F (bcc++aFG rd++Ie m) (akB Rq)];rw[F]}|erase i j=>{rw[ak rfl b3 c0,aa1,ti 1,lE 1 1,s6 1,vh W.1,lz 1 (dD 1)];rw[f5];rw[ve (dD 1),ar e7 b7 (dD 1) (dD 1),g2 d (dD 1),CX (f rH j W.2 (vA bz)),Rk];rfl}|move i p=>{rw[w u rfl b3 c2 c0,aa1,ti 2,lE 2 2,s6 2,vh W.1,lz 2 (dD 2)];rw[f5];rw[ve (dD 2),ar e7 b7 (dD 2) (dD 2),g2 d (dD 2),A3 (a X6 rH u p rfl (bL c8 c2).px W.2 (vA bz)),Rk];rfl}|mark i m=>{rw[w b8 rfl b3 c4 c0,aa1,ti 3,lE 3 3,s6 3,vh W.1,lz 3 (dD 3)];rw[f5];rw[ve (dD 3),ar e7 b7 (dD 3) (dD 3),g2 d (dD 3),A3 (b X6 dh rfl a _ _ rfl (a rfl X6 rH b8 m rfl (ts c8) W.2 (vA bz))),Rk];rfl}|drop i=>rw[ak rfl b3 c0,aa1,ti 4,lE 4 4,s6 4,vh W,lz 4 (dD 4)];rw[f5];rw[ve (dD 4),ar e7 b7 (dD 4) (dD 4),g2 d (dD 4),A3 (ce X6 dh (k d _ c8 nd e7))]
universe z
inductive aAf(u CR:Addr)(vs:af)(H:Hp)(Q:VK)(E:XK):Prop|mk:dF x_ (a1 (t Qe)) (mo Qe->aAf u CR vs H Q E)
section z
theorem a0p:T.awC.Ok P w aj 5 (aAf bJ dM):=by refine T.awC.go aUk aL;generalize aG=e3,aA=A,aF=outer,aE=s,aD=H,aB=vs,aH=Q,aI=E;rw[aN,M oi,aX,RJ,av h Y c9 k,fb,fF,Rc,J7,c7 aDb];obtain⟨j,e5,y,b2,X,G,l,f,_⟩:=mz e9 e.1;subst l;have e8:=e.2.GC;have q1:=GM.aeD tp;have dl:=wR;have few:=akv;rw[bU (L akC (a7 axt (f8 bE)) (bW 2 akC (u1 (GT T.avE))) (a6 (an (adj (cp (dP aq) bP apM)) 3 akC (eD aw (a7 LQ bb))) (eD aw aq) (an pO 4 akC (eD aw (a7 a0o bR))) aw)) J (b hd gJ T.TX agu g _ Aw (a rfl rfl (av d2) (d_ (j:=0) e5) y tp b2 X (ax G f e.2.fits (pr (EQ (fun d c=>?_))))))];have nd:=gX c;rw[ab m8 (rg 72:af) P_];rw[m8];rw[aj b5 (U a8 d P_) (lC c),ar b9 a8 P_ P_];have c5:=b_ (o:= .lst P_) c _ _ b4;rw[cj k2 d a7,f a8 d P_ b7 b5 b9 c5];have a9:=gg b5;rw[kv d7 a9.at_,b a7 _ rfl (ce c5) J _ W _ (j d7 gJ Ed zh J W (j d7 tU J R g ls (a rfl a9 dl (ym) Zr)))];rw[dD];let b:ao:=[t (N1 tp),R.d,ug];rw[e c3 b7 t aG_ t aG_];have q:=ft b9 h7;rw[bD t (aW (cy c3)) (cm (wW vn) (fo (GK (∃v,M=[ac J,ac a7,rD,v,ae]) bQ (L t=aa aG_) (aj a7 (bV (N1 tp))) (oz Ab 4))) (a qm (fj (b_ h7)) c3 (co h7 c5) ?_) z.3)];{rw[bX q];simpa using b9};{rintro i x M L S⟨⟨v,rfl⟩,f9,i2,j1,j2⟩;obtain⟨n,rfl,b0,d1⟩:∃n:Nat,x=ji/\A b n/\bk n:=by{rw[gA S,a3 n b0 S,bD n b0 ?_];have:=bO b0;rw[hH b];lia};rw[y (dr j2) n d1 (fun i1 d4 m u e7=>?_),Gb b0,n d i1 (m _ _ j2) e7 (a ?_ el (gr (mY m)) ?_ (au ?_))];{rw[dD,dD,ck,os 4 4,pA,eT];rw[bfO];have:Gla.SAVED.length=4:=rfl;lia};rw[gQ zD (m _ _ i2),gQ k2.symm (m _ _ j1)];{rw[ak,<-qJ,dw,g9,zP,ajo]}};rintro M g6⟨⟨v,rfl⟩,f9,i2,j1,j2⟩;have j2:b5 (g6 d) (bV (Ab++ak_)):=j2;rw[cd r (t (Ab++ak_)) 16,c (dr j2) d a7 _ _ rfl j2 (aJ j1 (by rw[dD,dD,r,q1];lia))];rw[<-qJ];rw[aj h1 (U g6 d ao5) (gr f9),ar j9 g6 ao5 ao5,i g6 d ao5 h5 h1 j9];have D:Ab++ak_++N1 tp++R.ss.flatMap akB=Qe:=by{delta a6g;rw[R.all,Y.aeR,Y.auN];simp[b,dw]};obtain⟨F,I⟩:=(gg h1).at_;rw[y J F I gJ (s T.TY agv ls (dD b1 (iW q2)) (a0n (R:=mC gk) (j:=4) (o:=2) (G:=H) (fun L v a s z=>a6f (cH s) Ou) akB (v b1 (av q2) f6) nd h1 j9 aGZ rfl kW kW (fun x p L h4 Z O C B=>M x p C.nil (aiO p Z) B) bhI))];rw[j8,D]
universe z
inductive aAg(u CR:Addr)(vs:af)(H:Hp)(Q:VK)(E:XK):Prop|mk:na (e [cD] (am l kI) aHM (KE (akD b)) ((∀R a J g ls L,b (akD b) (.ok wU) x_ bQ (L a=aa (cO .bC (.ref J))) (c Bf (Y J) (Y g) (Y ls) Ph))->aAg u CR vs H Q E))
section z
theorem a0q:T.awE.Ok P w aj 13 (aAg bJ dM):=by refine T.awE.go aUl aL;generalize aG=e3,aA=A,aF=outer,aE=s,aD=H,aB=vs,aH=Q,aI=E;rw[aN,M fQ,aX,Fz,av Z U c0 f7];have a5:tL:=av Z;rw[K (L Ow (dL a0h) aIF (i 2 Ow (cS amq mh) (bW 3 Ow (a7 aAd (lc amq aw))) (ah (dS yc (as (dQ (cS amq (di yc))) cv)) (bW 4 Ow (Cs yc)) (i 1 Ow (Z a0m bR bS aw) (dS aq (as aq cv)) (bo (an (oz mh) 5 Ow (yy (Sm bR gJ T.GX.h (eE azW) a6 T.GX.b .nil fu))) (as cv bR)))))) l b (ah a5 aIM)];cases b4:GM.yW b with|some e=>{rw[b4]at g4;rw[n9 g4,xV,eZ (GM.aSK b4) (gc cn) g4]}|none=>rw[b4]at g4;subst g4;rw[bu];have⟨⟨a7,a9⟩,C⟩:=GM.auS b4;rw[aR 4 4 jX (fun b7 r2=>?_),oV r2,cd b8 aKZ (ae (16+xD)),dl (WN a5) J5,aj c8 (U b7 d (jo kI (gR 16) (aa aKZ))) (fj xw),y d (yF xD) (av (vT (by rw[b8];have:=afA b 16 (16+xD);rw[am (hs (16+xD-16) xD)];exact this))) ⟨fun e a x e4 m c9 d0 n=>?_,fun r a y e4 m c9 d0 J=>?_⟩];{rw[hf n,rJ,wJ (bh dh u (cy hu) (v dt eu (fun W k1=>⟨eu,fun d8 c7=>c0 a97 d8 _ _ ag (dP (dP (m_ c9) k1) c7) ak (aP W ?_)⟩)))];rw[bX (J (by rw[fu ak c7];cases c7)),ak];rfl};{rw[aIi,wJ (au dt),mv dx,aNa,P sm e4 (cy e4 dx (aC dM [])) PB,cr dx r (j.mono sm) bh'];have S:=mZ (F2 fS);have c1:=sm.free b9;have c3:=sm.free e1;have d4:=fI Z;rw[b x l b (16+xD) r g ls ?_ (a b6 (GM.auV m) (av (S _ _ Z)) ?_ U aKA a7 (fun e v h5 p O f6=>?_) (fun R q h5 I d2 O hR=>?_)),az];{rw[ka]};{rw[bhF,hf f6,rJ,eZ ?_ (zO cn) f6];rw[C,m];unfold Mg at p;simp only;cases c4:a6d b J_ r (16+xD)with|error d3=>{simp_all}|ok z=>have⟨z1,h6⟩:=z;rw[c4]at p;simp only at p⊢;split at p;rw[az,cY]};{rw[bhF,c rfl l b 12 4 (h1.seq a5) ay (fun h9 b1=>?_)];have⟨N,Y⟩:=I.got b4 m d2;have Id:=I.d;rw[hR I.l];have F:=ajl b 12 4;rw[show cf 256^4=4294967296 by decide]at F;rw[aP (ae akZ) rfl aT (w6 F)];rw[iT];rw[fG akZ (bi (∃i1,M=[tV,al6,aa (cq aKZ),kM,ac x,i1]) (SB [x,g,ls] h9 L) (aFH bJ dM L x (ir (R.d-i)) g ls)) (v qm (cH ej) (akA b1))];{rintro i M i3 hi⟨⟨i1,rfl⟩,d6,k⟩;have⟨A5,p1⟩:=k.at_;rw[c x A5 p1 tU x _ (M g ls k pG (fun _ i7 i4 D=>?_)),dY];{rw[ak el (xf i4)];have:R.d-jc=R.d-i-1:=bI;rw[J this D]}};{rw[bJ i3 i1 d6 k,ae a3 (R.d-akZ) XW,bs a3,gc c5 i3 (d6 c o ((zO b1) c o z) fS),v eu (fk (f7 (ir XW) t x g ls _ N Y (c5.trans cn) ak (k.mono cn) (WQ nx) (WQ c1) (WQ c3)))]}}}
universe z
def BlV:Rl cf:=fun _ v b=>v=E4
theorem a0r:lA BlV:=aoV
theorem aAi{H:Hp}{vs:af}{bs:EV}(h:dE (BlV H) vs bs):vs=VA CV:=a9N
theorem UX(ns:ao)(p q:Nat):cq jh p q=bh (an (ns.drop p) (q-p)):=cz afz Ds Dt
theorem all_map(f:uA)(ns:ao):eC (wK f) id=ns.all f:=aT
inductive aAj(K:Fg)(vs:af)(H:Hp)(Q:VK)(E:XK):Prop|mk:∀(l:Addr)(ns:ao),e [cD] (ik jh) (zr<hy) (tk (ns.all Zc)) (aAj K vs H Q E)
inductive aAk(K:Fg)(vs:af)(H:Hp)(Q:VK)(E:XK):Prop|mk:q7 (tk (bas&&(nA g&&nA q))) (aAk K vs H Q E)
inductive aAl(K:Fg)(vs:af)(H:Hp)(Q:VK)(E:XK):Prop|mk:q7 (ga (sC L v (v ⟨x,y⟩ g q))) (aAl K vs H Q E)
noncomputable def agA(row:ek):ao:=a_F
theorem agB(row:ek):t JF=2*fi:=by induction row with|nil=>{rfl}|cons a J d6=>unfold agA at d6⊢;rw[pj,ck,d6];simp;simp+arith [*]
theorem aAm:∀(row:ek)(i:Nat)(p:Pt),A row p->ap JF (2*i) p.x/\ap JF (2*i+1) p.y|[],i,p,h=>bB|a::J,0,p,h=>by{rw[cI];exact xJ}|a::J,i+1,p,h=>x (aAm J i p bB)
theorem aAn{I:Type}(l:ba):∀k,i9 k (dK l[i]?)=He k|0=>rfl|k+1=>by rw[ajz,aiV,aAn l k,DV];rw[dZ]
inductive aAo(K:Fg)(vs:af)(H:Hp)(Q:VK)(E:XK):Prop|mk:∀(l:Addr)(row:ek),e [cD] (ik (bh JF)) (fi<100000) (bA d (Y d) (dC dH L d row) nG) (aAo K vs H Q E)
inductive aAp(K:Fg)(vs:af)(H:Hp)(Q:VK)(E:XK):Prop|mk:na (e [cD] (am l kI) (cx<hy) (bA d (Y d) (aj d (B (kr (Ox b)::Ox b) cq)) nG) (aAp K vs H Q E))
inductive aAq(u CR:Addr)(vs:af)(H:Hp)(Q:VK)(E:XK):Prop|mk:∀(J:Addr)(R:GM.bU)(g ls:Addr)(n:Nat),e [xn,ji] nr x_ (ko bfI) (aAq u CR vs H Q E)
section z
theorem UY:T.awK.Ok P w aj 1 (aAj K):=by refine T.awK.go afa aL;generalize aG=e3,aA=A,aF=outer,aE=s,aD=H,aB=vs,aH=Q,aI=E;rw[aN,M fQ,aX,bW l ns,aV a5 c9 k,K (cl (a2 afa.nd bS "length" afa.nd T.aVI)) l rfl ⟨aW a5,fun Z f=>gJ (av a5 (au0 ns)) (mO n) c9⟩,Lr x,apY,eW e9];have c3:=aAi e9;rw[jY,bA Z b4 ?_,J all_map (k a8 a4)]
theorem agC:T.awL.Ok P w aj 2 (aAk K):=by refine T.awL.go afb aL;generalize aG=e3,aA=A,aF=outer,aE=s,aD=H,aB=vs,aH=Q,aI=E;rw[aN,M iz,aX,K l x y g q,ds a5,cl (cl (BC (a7 UY (r6 bS)) (R6 (a2 afb.nd (r6 bS) "number" afb.nd T.aVJ)))) a5 J5,y d Jq (dL PF 0 2) ⟨aJ9,fun b7 r2=>Pl⟩,hz (IR PF),aS f5 ((Jq).all Zc) bas];rw[f5];rw[kn];{rw[qA c,a9D];have e7:N b7 c7 (k9 PF 4) c7 (jG [g,q]):=vT (UX PF 2 4);rw[a9 c7 e7 (fun Z f=>gJ (ce e7 (au0 [g,q])) (nA n) aJ9),Lr z,bbX,eW e2];have c3:=aAi e2;rw[jY,bA Z g5 ?_];rw[all_map];rw[aS i2 ([g,q].all (ee (nA n))) (nA g&&nA q),J i2 (k e4 (L (fj (ac (k9 PF 4) Y)) d9))]};rw[az]
theorem agD:T.awN.Ok P w aj 1 (aAl K):=by refine T.awN.go aUt aL;generalize aG=e3,aA=A,aF=outer,aE=s,aD=H,aB=vs,aH=Q,aI=E;rw[aN,M iz,aX,K l x y g q,ds a5,d _ (cl (KU (vy (eT bE) (eT bE) (eT bE) (eT bE)))) l _ _ _ rfl (u a5 dt l _ (u a5 dh l _ (u a5 rH l _ (d a5 (oD 3) (er 4) (h0 cn)))))]
theorem a0s:T.awO.Ok P w aj 1 (aAo K):=by refine T.awO.go afc aL;generalize aG=e3,aA=A,aF=outer,aE=s,aD=H,aB=vs,aH=Q,aI=E;rw[aN,M fQ,aX,bW l row,aV a5 c9 k,fb,cl (cl (BK rfl afc.nd (e8 bE nK bE) (ck "at" 1) (ci 1 afc.nd) kN (bC (as (eT rB) Qv)))) pW ?_];rw[bA,agB];rw[K _ _ _ (v ?_ (axq (lo:=0) (n:=fi) (c:=2) aT (eL c9 c9)) (fun Z f=>?_))];{simp};refine ap fi dm row[i]? f c9;{intro i L h4 N hi s b6 j2;have c2:=pP;rw[f4 (aAm row i _ c2),ix (D l row[i].y (zL a5) ?_ (D l row[i].x (zL a5) ?_ a'8)),l (aFI (j:=2*i+1) OM ag),l (aFI (j:=2*i) OM ag),l (ab _ c2 cn lT)]};rw[apY];refine k Z a8 a4 f (aJ d7 b4);have c4:i9 fi (dK row[i]?)=row:=by{rw[aAn,H_]};rw[c4]at e9;exact e9
theorem aAr:T.awS.Ok P w aj 1 (aAp K):=by refine T.awS.go aUx aL;generalize aG=e3,aA=A,aF=outer,aE=s,aD=H,aB=vs,aH=Q,aI=E;rw[aN,M fQ,aX,Fz,aV a5 c9 k,e _ (cl (ei (eb nK) bS)) l _ rfl (ce a5) (EU) (fun t c6=>?_)];have a4:=ac [g1 (t kI)] c6;rw[n t l ak (dj a5) ⟨by rw[dD];show a1 (1+cx);exact cV c9,fun d nd=>k d _ (gc xw) (gX nd) ?_⟩];rw[ak,dD];have:t (Ox b)=cx:=cG Ox (bA _);rw[this,axl];rfl
theorem a0t:T.awR.Ok P w aj 2 (aAq bJ dM):=by refine T.awR.go aUw aL;generalize aG=e3,aA=A,aF=outer,aE=s,aD=H,aB=vs,aH=Q,aI=E;rw[aN,M iz,aX,K J R g ls n,aV h Y k,fF,rc (b6 (fc T.aVD bP) (fc T.aVE apM) (dP (GU K apN)))];rw[dP];rw[kn];{rw[fZ (show n=0 by simp at c;omega)];exact G4 (v Ed zh k)};rw[ef (show¬n=0 by simp at c;omega),bu];rw[dP];rw[aKc];{rw[fZ (show n=1 by simp at e6;lia)];exact a J dx _ rfl hd tU J R (M g ls h wR k)};rw[ef (show¬n=1 by simp at e6;lia),y6 (au Y),bhy];obtain⟨b,d⟩:=j.at_;rw[dj c4 b3 j.m,y a b d dU (bt jH jt G c4)];rw[b3.length];exact k
universe z
def aAs(c:GlaKeeps.Call)(p:Nat)(ns d:ao):Prop:=match c with| .open_ b=>a9i| .bare w h m=>ds 2 aKH| .lead row m=>H_ JF| .erase i j=>ds 4 [i,j]| .move k q=>a'o| .mark i m=>ds 6 aGX| .drop k=>ds 7 [k]| .undo=>kB 8| .redo=>kB 9| .count n=>ds 10 [n]| .plan=>kB 11| .save=>kB 12| .read b=>a9j
theorem a0u(row:ek):(eC JF Zc)=XN q_:=by induction row with|nil=>{rfl}|cons a J d6=>unfold agA at d6⊢;rw[pj,aFa,d6,MZ];delta q_ zK;simp
inductive aAt(K:Fg)(vs:af)(H:Hp)(Q:VK)(E:XK):Prop|mk:∀(c:GlaKeeps.Call)(p:Nat)(ns d:ao)(l c0:Addr),g1 (aFJ c=ah) (tk (wV c)) (aAt K vs H Q E)
inductive aAu(K:Fg)(vs:af)(H:Hp)(Q:VK)(E:XK):Prop|mk:∀(c:GlaKeeps.Call)(x:Gla.Step)(p:Nat)(ns d:ao)(l c0:Addr),g1 (aFK c=aa x) (ga (StF H L v x)) (aAu K vs H Q E)
section z
theorem a0v:T.awM.Ok P w aj 3 (aAt K):=by refine T.awM.go aUs aL;generalize aG=e3,aA=A,aF=outer,aE=s,aD=H,aB=vs,aH=Q,aI=E;rw[aN,M P9,aX,n c p ns W l c0];rintro rfl b0 U a5 I c9 k;rw[fb,aj (hy T.avG (BC (km agC) (BC (ara yB yB (gi T.avB) (eB aq4 (dP aw)) (gi T.avC)) (R6 (a7 UY aw))))) (hy T.avH (n7 UY)) (hy T.avI (n7 agC)) (hy T.avJ (afm yB AH (gi T.aVF))) mn];cases c with|open_ b=>{contradiction}|bare w h m=>{contradiction}|read b=>{contradiction}|lead row m=>{rw[jf,bu,me];have d0:wV Rq=(ya&&(Zo&&XN q_)):=by{show(Zo&&(XN q_&&ya))=_;cases Zo<;>cases XN q_<;>cases ya<;>rfl};rw[bs d0,e l _ _ _ _ rfl a5 (fun a8 a4=>Pl),i_ ya,kn];{rw[qA c,d c0 _ rfl (.inl (akq I)) _ _ rfl a_U];rw[bA,agB];rw[aS b9 (ae (2*fi)/2) (v fi),b2 rfl];rw[b9];have hw:Zo=(bi (v 2) (v fi)&&bi (v fi) 64):=bt (within_int 2 64 fi);rw[bs hw,ao0];{refine dm (fH (fun g8=>?_) (fun g8=>?_));{rw[y c0 JF (akq I) ⟨gb c9,fun d4 c8=>?_⟩];rw[a0u];rw[g,g8]at k;exact k d4 (gc c8)};rw[az]};rw[az]};rw[az]}|move i q=>{rw[jf,bu,fm,bu,me,dl a5 (s9 (f d [q.x,q.y] (dL [i,q.x,q.y] 1 3) ⟨ag,fun b7 b5=>?_⟩))];have f5:([q.x,q.y].all Zc)=wV (.move i q):=by{show _=q_ q;simp[q_,zK]};rw[f5];exact a9t}|mark i m=>{rw[jf,bu,fm,bu,fm,bu,me,dl a5 (s9 (KO (zh a9t)))]}|count n=>{rw[jf,bu,fm,bu,fm,bu,fm,bu,me,r l ji a5 dh ?_];have f5:bi cL 2=wV (.count n):=by{apply aDQ;rw[ue]};show dy (bi cL 2);rw[J f5 XZ]}|erase i j=>{rw[RN]}|drop i=>{rw[RN]}|undo=>{rw[RN]}|redo=>{rw[RN]}|plan=>{rw[RN]}|save=>rw[RN]
theorem a0w:T.awP.Ok P w aj 2 (aAu K):=by refine T.awP.go aUu aL;generalize aG=e3,aA=A,aF=outer,aE=s,aD=H,aB=vs,aH=Q,aI=E;rw[aN,M oh,aX];generalize kT=c,kU=x,kX=p,kY=ns,kZ=W,la=l,lj=c0;rintro rfl b0 S a5 I c9 k;rw[aj (hy T.avG (cp (gi IS) (a7 a0s aw) (km agD))) (fr T.aVw T.LM AH) (fr T.avH T.LN (as AH AH)) (fr T.avI XI (n7 agD)) (as (gi T.afr) AH)];cases c with|lead row m=>{rw[jf,pU,bu,me,y c0 row I ⟨by rw[agB]at c9;exact cV c9,fun d a8 a4 nd a3=>a l _ _ _ _ rfl jX (pm aIa (m t d v (d ak (akw dm (fj cn)) a_z (J (hN d z nd)))))⟩]}|erase i j=>{rw[jf,pU,bu,yd,bu,me,tp (D l j a5 dt (sc a87))]}|move i q=>{rw[jf,pU,bu,yd,bu,fm,bu,me,tp (D l q.y a5 rH (D l q.x a5 dt (m0 (fk ⟨er 3,fun d8 a=>ax (dP cn a) (mV (f d8 _ ak (hJ (GI a) lT)))⟩))))]}|mark i m=>{rw[jf,pU,bu,yd,bu,fm,bu,yd,bu,me,tp (f l _ a5 (s9 (KO (pm (bX xw b5 cn) (f t v ak a_z)))))]}|drop i=>{rw[jf,pU,bu,yd,bu,fm,bu,yd,bu,yd,tp (m0 a87)]}|_=>rw[pU]
universe z
noncomputable def a0x:a32->cf| .undo=>ab| .redo=>ab| .count n=>bi n 2| .plan=>ab| .save=>ab|_=>ah
theorem agE{N:bg}{H L:Hp}{l:Addr}(s:uF)(a:bH N (L b≠ae))(h:L l=ae):xj:=by cases q:H l with|none=>{rfl}|some o=>by_cases m:l∈N;rw[az,yZ (s l o q m)]
inductive aAv(K:Fg)(u CR:Addr)(vs:af)(H:Hp)(Q:VK)(E:XK):Prop|mk:∀(J:Addr)(R:GM.bU)(g ls:Addr)(c:GlaKeeps.Call)(p:Nat)(ns d:ao)(l:Addr),e [.ref J,jQ,cD] nr x_ (a0x c=ab) (c aGA (ik jh) ((Ac lU c).2.length<=10000000) (∀F L h8 C,l AG (Y F) (aj F (akE cq)) (dJ L C) (a6h C) (Ac lU c=(aa C.gr,0::h8)) JI) (aAv K u CR vs H Q E))
section z
theorem a0y:T.awQ.Ok P w aj 6 (aAv K bJ dM):=by refine T.awQ.go aUv aL;generalize aG=e3,aA=A,aF=outer,aE=s,aD=H,aB=vs,aH=Q,aI=E;rw[aN,M JE,aX];generalize Fb=J,Fd=R,Fe=g,Ff=ls,Fh=c,Fi=p,Fm=ns,Fp=W,FD=l;rintro rfl h Y i b0 a5 c9 k;rw[fb,fF,aj (fc T.aVy (eb (dK T.GX.h azW T.GX.b))) (fc T.aVz (eb (dK T.Ub.h a0d T.Ub.b))) (fc T.avJ (eb (b4 a0t (i3 bE)))) (fc T.aVA (a7 aAr (a7 axt apN))) (a7 aAr (dL a0p))];cases c with|undo=>{rw[jf,bs (GM.aST Y),bu,me,l4 R (M g ls h pG bey),biw,K7 (GM.auO Y z)]}|redo=>{rw[jf,bs (GM.aSU Y),bu,fm,bu,me,y6 (v wR pG bey),biw,K7 (GM.auP Y z)]}|count n=>{rw[jf,bs (GM.aSV Y (CJ i)),bu,fm,bu,fm,bu,me,r l ji a5 dh (a J R g ls n rfl h Y (ag) (fk (k t _ [_] R (cH cn) c6 ak (gg cn) Y rfl)))]}|plan=>{rw[jf,bs (GM.aSW Y),bu,fm,bu,fm,bu,fm,bu,me,y6 (au Y),bhy];have F:=DI.2.fits;rw[c a gb b2 X G j F (pr (f a7 _ b4 ⟨by rw[(GM.aeD gb)];have:=F.p;have:=F.l;have:=F.m;lia,fun d b7 b5 nd b9=>biO⟩))]}|save=>{rw[jf];rw[GM.aSX Y]at k c9;have a0:t Qe<=10000000:=by{have:t (Ox Qe)=t Qe:=cG Ox (bA _);simp only[ic]at c9;exact cg CZ c9};rw[bu,fm,bu,fm,bu,fm,bu,fm,b J R g ls rfl h Y (gb a0) (pr (f a7 _ b4 (iX a0 (fun d b7 b5 nd b9=>biO))))]}|_=>cases i
universe z
noncomputable def sP(v:V):hW:=[("record",v)]
theorem aAw(v:V):ko "record" v []=sP v:=rfl
theorem a0z(v u:V):ko "record" u (sP v)=sP u:=UN
theorem Mh{v:V}:it (sP v) "record"=aa v:=by rw[<-aAw,di,cP]
theorem a0A{v:V}{m:Str}(h:¬m="record"):fr (sP v) m=ae:=by rw[<-aAw,di,bj h];rfl
theorem RecAt.agF{u CR A:Addr}{H L:Hp}{J:Addr}{R:GM.bU}{g ls k dx:Addr}{v:V}(h:nr)(c3:lP v)(s:fW [k]):Bf:=by rw[d4 c4 mX,Rc,J7];have h7:oN [k] H:=qW ai;have d6:∀{l:Addr}{O:af},am l O->l∉[k]:=fun{l O}e=>Bk;exact aV (dU q (ax (qx q c3 (by rw[tP];injection z with _ _ z;rw[y2 "done",bY zh EM,nu])))) (d6 d2) (TB (fun x D z=>by rw[CD z,bbj];obtain⟨c5,h2,_⟩:=d.p;obtain⟨d8,e2,_⟩:=d.l;obtain⟨K,i8,_⟩:=d.m;exact db (dU M (mW (a≠k) (qx M c3 (by rw[tP];injection z with _ _ z;rw[y2 "width",bY y_ EM,nu])))) (d6 h2) (d6 e2) (d6 i8)) e9) (d6 q2) (TB (fun x y z=>by have t:=s.ts h7;cases y with|lead row m=>{rw[K6 B,b7 h2 e2 l];exact a a i7 b8 e yk (dC.sb dm (v c5 h2 e2) s h7 (d6 h2)) (lQ t B) a3}|erase i j=>{rw[il z yk]}|move B p=>{rw[w pv e q C z];exact a a pv e yk (hJ t C)}|mark i m=>{rw[w b8 e q C z];exact a a b8 e yk (lQ t C)}|drop B=>rw[il z yk]) f6)
inductive aAx(A:Addr)(vs:af)(H:Hp)(Q:VK)(E:XK):Prop|mk:∀(k dx:Addr),A [Yi] (bh k (aC A [])) (Q .bC (ad k (aC A (sP .bC)))) (aAx A vs H Q E)
inductive aAy(A:Addr)(vs:af)(H:Hp)(Q:VK)(E:XK):Prop|mk:∀(k dx J:Addr)(v:V),A [Yi,xn] (lP v) (∀F L,c (fW [k]) (Y F) (aj F hc) a's JI) (aAy A vs H Q E)
def aAz(u CR A:Addr)(H:Hp)(k dx:Addr)(f:aJU)(Q:VK):Prop:=(∀e F L,b f Am bQ (Y F) (aj F (B (IT e) cq)) JI)/\(∀R F J g ls L,b f (.ok wU) x_ (fW [k]) (Y F) (l (aj F hc) a's Bf (Y J) (Y g) (Y ls) JI))
inductive aAA(K:Fg)(u CR A:Addr)(vs:af)(H:Hp)(Q:VK)(E:XK):Prop|mk:dq tL (cx<=131072) (B (akz b) (fun r=>v r [] [])) (aAA K u CR A vs H Q E)
inductive aAB(u CR A:Addr)(vs:af)(H:Hp)(Q:VK)(E:XK):Prop|mk:dq (am l kI) aHM (akD b) (aAB u CR A vs H Q E)
section z
theorem a0B:T.Uc.Ok mg P w aj 1 (aAx hK):=by refine T.Uc.go aUp FV;rw[Q k dx c3 q h,g _ (fG (hA cv)) k _ dx _ c3 (d Ee Oy (ay) q)]
theorem a0C:T.Ui.Ok mg P w aj 1 (aAy hK):=by refine T.Ui.go aUr FV;obtain⟨k,dx,J,v,rfl,c3,q⟩:=h;rw[g _ (bo (hA aq) ane) k _ dx _ c3 (a2 Ee Oy (v8 1))];rw[a0z];rw[v (ay) (fun F a=>?_),au sb [k] (ad k aH3) alN,e c1 H k aH3 k aH3];exact q F _ (akd (l5 a)) (agE sb (lb ai) a) ak (co a c1)
theorem a0D:T.Uh.Ok mg P w aj 14 (aAB bJ dM hK):=by refine T.Uh.go avf FV;obtain⟨k,dx,l,v,b,rfl,c3,a5,U,d2,q2⟩:=h;rw[cl (c6 T.aVL avf.nd a0q (BM xI)) (ce a5) ?_];rw[dD];refine axh (f0 (acY z (mj U))) (f l b a5 (v U bb8 (fun R a J g ls a8 m Y a4 d0 hR G nc ns=>?_)));{rw[hf n,rJ,qy m Z]};{rw[bn a d0 gL,ei (dj c3),c k dx I EM a _ (a _ _ rfl rfl (cy d0) dt k dx (f J v I (fun F b7 b5 O Z c1=>q2 R F J g ls b7 m Y (L (cH a4) b5) (gX O) Z c1 (hR.agF I b5) G nc ns)))]}
theorem a0E:T.Ue.Ok mg P w aj 11 (aAA K bJ dM hK):=by refine T.Ue.go ave FV;obtain⟨k,dx,l,v,b,rfl,c3,a5,U,d2,q2⟩:=h;rw[cl (c6 T.aVK ave.nd aAd (BM (Cs xI))) pW ?_];rw[dD];refine axh (f0 (acY z (aC U))) (M l b a5 bb8 (fun r a y a8 m a4 d0 J=>?_));{rw[hf n,rJ,qy (de m) Z]};{rw[bn a d0 gL,ei (dj c3),c k dx I EM a _ (oX (aJ (cy d0) dt)),mv W,aNa,ok a8 a8,cr W r (j.mono sm) bh'];have f9:=F2 Bk;have d:=hF I;have S:=gc f9;rw[j k dx x v (ah d (fun F h5 h1 O Z c1=>q2 (kF r) F x g ls h5 (de m) (GM.aeQ (GM.auV m)) (L (cH S) h1) (S.free O) Z c1 (b6.agF d h1) (gX nx) (eX (gc sm) b9) (eX (gc sm) e1)))]}
universe z
inductive aAC(C:Addr)(vs:af)(H:Hp)(Q:VK)(E:XK):Prop|mk:∀(w h:Nat)(b8:V)(m:Gla.Mark),A [vn w,vn h,b8] aaa (ga (agz C H L v ao')) (aAC C vs H Q E)
theorem a0F{I:Type}{l:ba}{m:I}(h:Wv [m]):l=[m]:=List.perm_singleton.mp h
section z
theorem a0G:T.avS.Ok P w aj 8 (aAC bJ):=by refine T.avS.go aTy aL;generalize aG=e3,aA=A,aF=outer,aE=s,aD=H,aB=vs,aH=Q,aI=E;rw[aN,M oi,aX,al C c b8 m,ds c4,w _ (i 3 Oz uf (bW 4 Oz (dQ bS)) (i 5 Oz (as aq bE) (bW 6 Oz (as aq bS)) (i 7 Oz (yE (vy bb bR cK ey)) (bW 8 Oz (yE (vy (as bb bR) (as bb cK) (as bR ey) (as cK ey)))) (df (ec azz (GS bS aq kg kh (eb aw))))))) eu (fun y c6=>?_)];have s0:=b_ (o:=yh) c6;rw[e f5 H y yh y yh];generalize ad y yh=i at s0 f5;rw[v eu (fun e0 n1=>?_)];have a4:=b_ (o:=amV) n1;rw[e b4 i e0 amV e0 amV];have F:=dj f5;generalize upd i e0 amV=a8 at a4 b4 F;rw[v eu (fun g0 n2=>?_)];have b5:=b_ (o:=aoY) n2;rw[e b9 a8 g0 aoY g0 aoY];have e5:=gT F;have g7:=I0;rw[bo (upd a8 g0 aoY) b9 e5 g7,v eu (fun d0 u=>?_)];have c8:=b_ (o:=bx c C) u;rw[e e7 b7 d0 (bx c C) d0 (bx c C)];have o:=dn e5;have c2:=dn g7;have N:=dn b9;generalize upd b7 d0 (bx c C)=d4 at c8 e7 o c2 N;rw[v (er 4) (fun b2 a0=>?_)];have d9:=ac ap1 a0;rw[a g5 d4 b2 ap1 b2 ap1,i d4 b2 ap1 e4 d9 g5,v eu (fun n c9=>?_)];have f9:=b_ (o:=anx) c9;rw[e i2 e4 n anx n anx,m e4 n anx g6 f9 i2,v eu (fun h2 g9=>?_)];have h1:=b_ (o:=anz) g9;rw[e j1 g6 h2 anz h2 anz,m g6 h2 anz h5 h1 j1,v eu (fun e2 e1=>?_)];have R:=b_ (o:=anA) e1;rw[e j2 h5 e2 anA e2 anA,m h5 e2 anA h9 R j2,v eu (fun i8 j5=>?_)];have d6:=b_ (o:=anB) j5;rw[e j9 h9 i8 anB i8 anB,m h9 i8 anB i3 d6 j9,v (er 4) (fun le ne=>?_)];have i4:=ac ap2 ne;rw[a j8 i3 le ap2 le ap2,i i3 le ap2 i7 i4 j8,v (er 1) (fun G d1=>?_)];have c0:=ac [b8] d1;rw[a d i7 G um G um,i i7 G um h7 c0 d,cO (i4.trans c0),ca (xf q),c7 (wI b)];have J:=zO e;rw[ei (mY J)];have j:=mZ I;have r:=bX (L (aFe a4) b5) c8 j;have f:dH h7 Aw jR:=ls y o;have e9:dH h7 (.ref e0) (jZ C):=ls e0 c2;have f6:dH h7 (.ref g0) (ht c):=ls g0 N;have j0:dH h7 (.ref d0) ⟨C,c⟩:=ls d0 e7;rw[b C c b2 le G (akG C c) (GM.Tw C c) [m] (a rfl (ce (I _ _ g5) (ef f e9 (h1 f6 j0))) (ce (c0 _ _ j8) (ef (bO n (J _ _ i2) f e9) (bO h2 (e _ _ j1) f f6) (h1 (bO e2 (b _ _ j2) e9 j0) (bO i8 (q _ _ j9) f6 j0)))) (ce d (hy (ts r))) (d (gJ (4<=100000)) (akG C c) (gJ (4<9000)) (fun x h=>h)) (gJ (4<9000)) aT ?_ (fun v L c1 nv=>?_))];{intro l a5;simp[GM.Tw]at a5;rw[k3 a5]<;>simp[akG]};{obtain⟨d8,a,g,O,p,rfl,D,b3,_,b0,t,z,B⟩:=nv;have:=a0F b3;rw[gp];exact ax (aj6 c1) (f a g O p D (akF b0) (akF t) ⟨akF z,akF B⟩)}
universe z
theorem a0H{w h:Nat}{m:Gla.Mark}(hw:bk w)(c7:bk h)(c4:uV):DN ao':=by refine GM.auC hw c7 (gJ (4<65535)) (gJ (b1 4)) aT ?_ ?_;{intro p c2;simp[akG]at c2;rw[k3 c2]<;>simp[hw,c7]};{rw[xM]}
noncomputable def agG(w h:Nat)(m:Gla.Mark):aJU:=jv (zR ao') (v ao' [] [])
inductive aAD(K:Fg)(u CR A:Addr)(vs:af)(H:Hp)(Q:VK)(E:XK):Prop|mk:∀(k dx l:Addr)(v:V)(w h:Nat)(m:Gla.Mark),e [Yi,cD] (lP v) (ik (jG aKH)) (wV apj=ah->f F L bQ (Y F) (aj F (mL (-1))) JI) ((wV apj=ab->Dc (agG w h m))->aAD K u CR A vs H Q E)
section z
theorem a0I:T.Ug.Ok mg P w aj 10 (aAD K bJ dM hK):=by refine T.Ug.go ae' aL;generalize aG=e3,aA=A,aF=outer,aE=s,aD=H,aB=vs,aH=Q,aI=E;rw[aN,M oh,aX];generalize kT=k,kU=dx,kX=l,kY=v,kZ=c5,la=h',lj=m;rw[av c3 a5 N d2];have d0:wV (.bare c5 h' m)=(aK_&&ya):=by{show(zK c5&&(zK h'&&ya))=_;delta zK;rw[Bool.and_assoc]};rw[d0]at N d2;rw[cl (ah (gl (gG (u_ (n7 UY)) (u_ (n7 agC))) (is T.avK)) (bW 2 ae'.nd (Z a0G AH AH (n7 agD))) (gt ae'.nd cv (df (BM (Cs aw))))) a5 J5,y d [c5,h'] (dL YD 0 2) ⟨aJ9,fun b7 r2=>?_⟩];have b5:=IR YD;rw[aS f5 ([c5,h'].all Zc) aK_];rw[f5];rw[kn];{rw[c,ah0]at N d2;rw[a9D,p7 c7 (fun e4 c9=>?_)];have d9:=L (fj (ac (k9 YD 6) Y)) c9;rw[i_ (! ya)];cases D:ya with|false=>{rw[kt (fun F a=>N D F _ (mZ (b_ a)) (WQ a) ak)]}|true=>have⟨h2,e2⟩:=d2 D;have t:bk c5/\bk h':=by{rw[xq]};have c4:uV:=by{rw[A6 D];simpa using D};rw[r l (vn c5) JD dh (D l h' JD dt (f l _ JD (fun a9 L=>?_))),p7 a9 (fun b8 h5 q M=>?_),j c5 h' b8 m (ah M (fun r h9 b1 J=>?_)),aNa,d c2 aaF b2 X G _ ae (ax j (a0H t.1 t.2 c4) (sW (YI)) (fun p i3 i b=>?_)),dC (bX (L (mZ (ac (k9 YD 6) L)) q) b1 i)];delta agG at h2 e2;cases a7:zR aaF with|some e=>{rw[a7]at b h2;rw[hf b,rJ,Q rfl _ e ⟨b,fun F i7 R O Z=>h2 e F i7 rfl (xf R) (d6.free O) Z⟩]}|none=>rw[a7]at b e2;subst b;rw[bu];have u6:=ol c3;rw[Q k dx _ (aJ u6 EM),mv W,ok i3 i3,cr W aaF (bN (j.mono i) sm) (fun i7 g ls S b9 e1 b6=>gL)];have i4:=wv (S c o (sm c o e) fS);have y:=i4 _ _ u6;have B:=xf i4;rw[j k dx x v (ah y (fun F h7 I O Z c1=>e2 (kF aaF) F x g ls h7 rfl (GM.aeQ (GM.aSN t.1 t.2 c4 a7)) (L (cH B) I) (B.free O) Z c1 (b6.agF y I) (d6.free nx) (eX (xf sm) b9) (eX (xf sm) e1)))]};{rw[ae C aK_ ah,kt (fun F a=>N ag F _ (fj (b_ a)) (b5.free a) ak)]}
universe z
def G9(u CR A:Addr)(H:Hp)(k:Addr)(o:PN)(N:bg):Prop:=match o with|none=>N=[k]/\∃dx,lP .bC|some R=>∃J g ls dx,N=aMj/\lP xn/\nr/\x_
theorem G9.k{u CR A:Addr}{H:Hp}{k:Addr}{o:PN}{N:bg}(h:ov H):k∈N/\∃dx v,lP v:=by cases o with|none=>{rw[aLf];exact d bK dx _ e}|some R=>obtain⟨J,g,ls,dx,rfl,e,_⟩:=h;exact d bK dx _ e
theorem G9.mono{u CR A:Addr}{H L:Hp}{k:Addr}{o:PN}{N:bg}(h:ov H)(s:bQ):ov L:=by cases o with|none=>{rw[aLf];exact ah dx (bv e)}|some R=>rw[nv dx e];exact mv (bv e) (akA s)
theorem SB.wide{N d5:bg}{H L:Hp}(s:uF)(h:fX N d5):fW d5:=fun b o e n=>s b o e (bo (n (h b m)))
theorem aAE(b:Gla.Bytes):kI=bh (wW akH):=f9 bV jy
theorem a0J{c:GlaKeeps.Call}{x:Gla.Step}(h:aFK c=aa x)(a:wV c=ab):Ij x:=by cases c with|lead row m=>{rw[cI];have B:da Zo (XN q_&&ya):=a;simp only[ia,Hx]at B;obtain⟨e0,g0,d0⟩:=B;delta jI at e0;rw[A6 d0,v (v ai ai uh) ai];have:=g0 p c2;unfold GlaKeeps.ptOk GlaKeeps.long at this;rw[gh]}|erase i j=>{rw[cI];trivial}|move i q=>{rw[cI];have B:q_ q=ab:=a;delta q_ zK at B;show bk q.x/\bk q.y;simpa using B}|mark i m=>{rw[cI];have B:ya=ab:=a;rw[A6 B];show uV;simpa using B}|drop i=>{rw[cI];trivial}|_=>rw[cI]
inductive aAF(u CR A:Addr)(vs:af)(H:Hp)(Q:VK)(E:XK):Prop|mk:∀(k:Addr)(o:PN)(N:bg)(c:GlaKeeps.Call)(p:Nat)(ns d:ao)(l c0:Addr),e [Yi,jQ,cD,Pa] (ov H) aGA (am l jh) (c (am c0 (aB4 vn)) (oY<100000) ((Ac o c).2.length<=10000000) (∀F L g l8,l uF (Y F) (aj F (hN (Ac o c).2)) (G9 u CR A L k g l8) (ri akI=(Ac o c).1) (V b l8 (b∈N\/gs)) JI) (aAF u CR A vs H Q E))
section z
theorem a0K:T.Ud.Ok mg P w aj 15 (aAF bJ dM hK):=by refine T.Ud.go aUq aL;generalize aG=e3,aA=A,aF=outer,aE=s,aD=H,aB=vs,aH=Q,aI=E;rw[aN,M JE,aX];generalize Fb=k,Fd=o,Fe=N,Ff=c,Fh=p,Fi=ns,Fm=W,Fp=l,FD=c0;rintro rfl h b0 a5 d7 c9 d1 B;obtain⟨f7,dx,v,c3⟩:=h.k;rw[b2 (ah (fc T.aVu (jn bS Ee T.Ue.h (eE a0E) a6 T.Ue.b .nil fu (ea bb))) (fc T.aVv (jn bS Ee T.Ug.h (eE a0I) a6 T.Ug.b .nil fu (ea aw))) (ah (fc T.aVB (jn bS Ee T.Uh.h (eE a0D) a6 T.Uh.b .nil fu (ea bb))) (D yC bP cv (is T.aVG)) (bZ (gl (u_ (Z a0v aq aw bb)) (is T.avK)) (aj yB aq T.aVx (jn bP gJ T.GW.h (eE az0) a6 T.GW.b .nil fu (ea (Z a0w aq aw bb)))) (ei ane (Z a0y bP aq aw)))))];have c2:∀f:aJU,(Ac o c=match f with| .error e=>(tq akI,IT e)| .ok J=>qx J)->aAz bJ dM hK H k dx f Q:=fun f a3=>by{rw[v (fun e F L z s O Z=>?_) (fun R F J g ls L z Y s O Z c1 hR G nc I=>?_)];{rw[rC];rw[a3]at B;exact bir};{rw[rC];rw[a3]at B;refine B F L lU aMj (s.wide (lb ai)) O Z (mv c1 hR) rfl (fun b m=>?_);rw[Br,k3 m,Fs,co bG,co bG,co bG]}};rw[bC U (aFJ c)];{cases c with|open_ b=>{rw[jf,dS i5 cx 100000,bu,me,qG (av (bj d7 aAE)) (gd i5)];rw[GM.aSO o bM];rw[ku (akz b) r]}|bare c5 h' m=>{rw[jf,bu,fm,bu,me,c k dx c3 EM k dx (a l v c5 h' m rfl c3 (av a5) (fun b3 F L s O Z=>?_) (fun b3=>c2 _ ?_))];{rw[GM.auZ o gm b3]at B;exact bir};{rw[GM.aSR o b3];delta agG;rw[Ev (zR aaF)]}}|read b=>{rw[jf,dS i5 cx 100000,bu,fm,bu,fm,bu,me,qG (bj d7 aAE) i5];rw[GM.aSP o (gd i5)];all_goals(rw[ku (akD b) r])}|_=>cases U};{rw[ae j6 (aFJ c) ah];have pn:p≠1/\p≠2/\p≠13:=by{cases c<;>first|contradiction|(rw[aGa];decide)};rw[bu,yd,bu,yd,bu,yd];cases o with|none=>{rw[cA rfl u f5,lI f5 (f Oy Mh (er 1) (fun F a=>?_))];rw[GM.aSQ j6]at B;exact B F _ ae [k] (l5 a) a ak (ah u (co a f5)) rfl X2}|some R=>rw[nv u f5,lI f5 (a Oy Mh rfl c p ns W l (a c0 rfl b0 j6 (av a5) (av d7) c9 aJ4))];have b4:=dj f5;rw[eq (akA a4)];have b8:fX gk aMj:=fun b m=>ck m;have j2:k∉gk:=bo (by obtain⟨c4,c7⟩:=hR.at_;rw[ks b1 hR.c,h5 ws hR.s,Br];rcases m with z|z|z;{rw[b2 c7 f5,aJ1];injection f5 with _ _ f5;have:=gB (Ml ("record":Str)) f5;rw[bY Mh tU,nu]};rw[az,az]);cases b3:wV c with|false=>{rw[v (er 1) (fun F a=>?_)];rw[GM.auZ lU EY b3]at B;exact B F _ lU _ (cH (lC a)) (gX a) ak (a J g ls u rfl (co a b4) (XM (b_ a)) Y) rfl X2}|true=>rw[bD (fH (fun M=>?_) (fun M=>?_))];{obtain⟨x,S⟩:ax x (aFK c) x:=by{have b2:p<=7:=by{simp at M;lia};cases c<;>first|exact el|trivial|(rw[aGa];trivial)};have sa:=a0J S b3;obtain⟨c4,c7⟩:=a9.at_;rw[lI b4 (a Oy Mh J c4 _ rfl c7 tU (a c x p ns W l c0 rfl (c b0 S (av (dj a5)) (av (dj d7)) c9 (fun a0 b7 b5 st=>?_)))),g J R g ls a0 x (XM b5) (d Y (st _ (lb (a9.live m))) sa (fun F d4 b9 c8 O Z D=>?_)),J2];have f6:=L (cH i9) c8;have a7:=ba4;rw[GM.aSS Y b3 S sa]at B;delta agx at D;cases g9:XJ gb x with|error y=>{rw[g9]at D B;cases y with|none=>{exact A4 aGY}|some e=>exact A4 ai}|ok b6=>rw[g9]at D B;simp only at D B;by_cases d0:65536<=R.d;{rw[aK d0]at D B;exact A4 aGY};{rw[bj d0]at D B;exact f8 (aa (WH x b6)) aGY (a J g ls u rfl a7 D.2 (Y.add sa (bj (GM.Tu DI.2 sa.ok) g9) (x (aNl d0))))}};{have b2:¬p<=7:=by{simp at M;lia};rw[v (er 1) (fun t c6=>?_),jq (cq 0) c6,a g9 a8 t anj t anj];have X:=XM (ac [cq 0] c6);rw[f a8 t anj b7 b5 g9 X,lI (gT f5) (a Oy Mh J R g ls c p (a ns W l rfl X Y (by cases c with|count n=>{trivial}|undo=>{rfl}|redo=>{rfl}|plan=>{rfl}|save=>{rfl}|open_ b=>{trivial}|bare c5 h' m=>{trivial}|read b=>{trivial}|lead row m=>{rw[aa0]}|erase i j=>{rw[aa0]}|move i q=>{rw[aa0]}|mark i m=>{rw[aa0]}|drop i=>rw[aa0]) b0 (av (gT a5)) d1 (fun F d4 h8 C c8 O Z d3 d5 a3=>?_)))];have f6:=L (cH b5) c8;rw[fb,n t F (c8 _ _ g9 (bo (a9.live m c6))) Z ⟨?_,fun d nd=>?_⟩];{simp_all;exact cV d1};{rw[a3]at B;exact B d _ (aa C) _ (L (a6i b8) (cH xw)) (agE f6 (lb (d3.live m)) nd) (de ak) (a J g ls u rfl (co nd ba4) (d3.mono xw) d5) rfl X2}}}
universe z
universe GA
namespace GM
open Gla GlaKeeps
noncomputable def agH(row:ek):ao:=a_F
def Mi(c:GlaKeeps.Call)(p:Int)(ns d:ao):Prop:=match c with| .open_ b=>a9i| .bare w h m=>ds 2 aKH| .lead row m=>H_ (agH row)| .erase i j=>ds 4 [i,j]| .move k q=>a'o| .mark i m=>ds 6 aGX| .drop k=>ds 7 [k]| .undo=>kB 8| .redo=>kB 9| .count n=>ds 10 [n]| .plan=>kB 11| .save=>kB 12| .read b=>a9j
noncomputable def zs(ns:ao):aQ:=wK a'd
theorem CH{z:Int}(h:0<=z):xg z=aa akJ/\v akJ=z:=by delta xg;rw[ka]
theorem G_{z:Int}{n:Nat}(h:xg z=aa n):cL=z:=by rw[a4 xg,fU]
theorem agI{x y g p:Int}{m:Mark}(h:a6j x y g p=aa m):v il=x/\v ik=y/\v jz=g/\v kD=p:=by revert h;revert x y g p m;refine@aE5 _ _ _ _ _ _ _ ?_;rw[K x y g p m,eF,a4 a6j];cases S:xg x with|none=>{simp_all}|some a=>cases b6:xg y with|none=>{simp_all}|some b=>cases d8:xg g with|none=>{simp_all}|some c=>cases c2:xg p with|none=>{simp_all}|some d=>rw[S,b6,d8,c2]at h;rw[cI];exact d (G_ S) (G_ b6) (G_ d8) (G_ c2)
theorem aAG:∀{J:aQ}{row:ek},a6k J=aa row->zs (agH row)=J|[],row,h=>aHx|[x],row,h=>bB|x::y::J,row,h=>by unfold KeepNeutral.points at h;cases a6:a6k J with|none=>{simp_all}|some l=>cases S:xg x with|none=>{simp_all}|some a=>cases b6:xg y with|none=>{simp_all}|some b=>rw[a6,S,b6]at h;rw[cI,dC (aAG a6)];unfold zs agH at d6⊢;rw[pj,fh,d6];simp[G_ S,G_ b6]
theorem aAH{J:aQ}(h:J.all (J (KeepNeutral.natural z 8))=ab):z b (a6m J=aa b) (zs (wW akH)=J):=by have h':=sz (by have:=Wk h z c9;unfold KeepNeutral.natural at this;rw[gh]);rw[ak (J.map (J (aiR akJ))) ?_];{delta a6m;rw[aK];delta NeutralIO.bytes;rw[Hx];intro z c9;grind-abstractProof};{delta zs;rw[jy,jy];rw[uW J,j0 aog];have:=h' z c9;simp only[Wx,id];rw[aDi,et (ae (Int.toNat_lt ew) fp),a6l ew]}
inductive iM:cv fC|a J:iM [[1],J]|b w h x y g q:iM [[2,w,h,x,y,g,q]]|c x y g q J:iM [[3,x,y,g,q],J]|d i j:iM [[4,i,j]]|e k x y:iM [[5,k,x,y]]|f i x y g q:iM [[6,i,x,y,g,q]]|g k:iM [[7,k]]|h:iM [[8]]|i:iM [[9]]|j n:iM [[10,n]]|k:iM [[11]]|l:iM [[12]]|m J:iM [[13],J]
theorem ifC{c:Prop} [Hz c]{I:Type}{x y z:I}(h:(if c then x else y)=z):c/\x=z\/y=z:=by rw[eJ,l (dr bG h),co h]
theorem a0M{I:Type}{n:Nat}{a:ba}(h:n+1=mO):∃x b,a=x::b/\n=cx:=by cases a with|nil=>{rw[cI]}|cons x b=>exact ce x b (aDs h)
theorem vL{I:Type}{a:ba}(h:0=mO):a=[]:=a3n agQ
theorem aAI{a:aQ}(h:1=mO):∃u,a=[u]:=bdK
theorem aAJ{a:aQ}(h:2=mO):∃u v,a=[u,v]:=by rw[PH];obtain⟨v,d3⟩:=aAI k;exact v u v ZN
theorem aAK{a:aQ}(h:3=mO):∃u v w,a=[u,v,w]:=by rw[PH,dp w d3 (aAJ k)];exact d u v w ZN
theorem aAL{a:aQ}(h:4=mO):∃u v w x,a=[u,v,w,x]:=by rw[PH];obtain⟨v,w,x,d3⟩:=aAK k;exact a u v w x ZN
theorem aAM{a:aQ}(h:5=mO):∃u v w x y,a=[u,v,w,x,y]:=by rw[PH];obtain⟨v,w,x,y,d3⟩:=aAL k;exact c u v w x y ZN
theorem a0N{a:aQ}(h:6=mO):∃u v w x y z,a=[u,v,w,x,y,z]:=by rw[PH];obtain⟨v,w,x,y,z,d3⟩:=aAM k;exact a u v w x y z ZN
theorem aAN{a:fC}(h:1=mO):∃u,a=[u]:=bdK
theorem callC{c:fC}(o:aFL Ef c):iM c:=by rw[Y p a O h o,a4 Ef,qu,bdM,qu];{rw[Er,Es];obtain⟨_,_,_,_,_,_,e⟩:=a0N h;rw[e];rw[vL k];constructor};rw[qu];{rw[Er,Es];obtain⟨_,_,_,_,e⟩:=aAL h;rw[e];rw[sg (aAN k)];rw[e];constructor};rw[qu];{rw[Er,Es];obtain⟨_,_,e⟩:=aAJ h;rw[e];rw[vL k];constructor};rw[qu];{rw[Er,Es];obtain⟨_,_,_,e⟩:=aAK h;rw[e];rw[vL k];constructor};rw[qu];{rw[Er,Es];obtain⟨_,_,_,_,_,e⟩:=aAM h;rw[e];rw[vL k];constructor};rw[qu,a8R,qu,ap7,qu,ap7,qu,a8R,qu,ap7,qu,ap7,qu,bdM,cI]
set_option tactic.hygienic true in theorem call_of{c:fC}(o:iM c)(h:aFM c=ab):z x aHX ((∃p l,c=[p::l]/\z ns (Mi x p ns []) (zs ns=l))\/∃p l J,c=[p::l,J]/\∃ns d,Mi x p ns d/\zs ns=l/\zs d=J):=by cases o;{next J=>rw[bF b4 b9 (aAH h),cq (.open_ b) (.inr (b 1 [] J rfl [] tK rfl b9)),gI (do{some (GlaKeeps.Call.open_ (<-KeepNeutral.bytes J))})];rw[b4];rfl};{next w c7 x y g q=>have h:=Ad h;obtain⟨h,e2⟩:=h;rw[kE (Ad h),ia (0<=w) a3];have a9:0<=c7:=CJ a9;rw[ch m c4 e2];have e:=agI c4;rw[cq (.bare w.toNat c7.toNat m) (j0 2 (au tK))];{rw[gI (do{some (GlaKeeps.Call.bare (<-KeepNeutral.nat w) (<-KeepNeutral.nat c7) (<-KeepNeutral.mark x y g q))})];rw[QT,(CH a9).1,c4];rfl};{simp[zs,(CH a3).2,(CH a9).2,e]}};{next x y g q J=>rw[anP];obtain⟨a3,e2⟩:=h;rw[ch row a6 a3,ch m c4 e2,c7 (agI c4),cq Rq (.inr (b 3 _ J rfl _ tK ?_ (aAG a6)))];{rw[gI (do{some (GlaKeeps.Call.lead (<-KeepNeutral.points J) (<-KeepNeutral.mark x y g q))})];rw[a6,c4];rfl};{simp[zs,e]}};{next i j=>rw[anP,ia (0<=i) h.1];have a9:0<=j:=CJ h.2;rw[eE (.erase Vw aBr) 4 (by simp[zs];rw[ue]),gI (do{some (GlaKeeps.Call.erase (<-KeepNeutral.nat i) (<-KeepNeutral.nat j))})];rw[QT,(CH a9).1];rfl};{next k x y=>rw[anP,ia (0<=k) (Ad h.1).1];have a9:0<=x:=CJ (Ad h.1).2;have e2:0<=y:=CJ h.2;rw[eE (.move aBV ⟨Ih,y.toNat⟩) 5 (by simp[zs];grind),gI (do{some (GlaKeeps.Call.move (<-KeepNeutral.nat k) ⟨<-KeepNeutral.nat x,<-KeepNeutral.nat y⟩)})];rw[QT,(CH a9).1,(CH e2).1];rfl};{next i x y g q=>rw[anP,ia (0<=i) h.1,ch m c4 h.2,c7 (agI c4),cq (.mark Vw m) (j0 6 (au tK))];{rw[gI (do{some (GlaKeeps.Call.mark (<-KeepNeutral.nat i) (<-KeepNeutral.mark x y g q))})];rw[QT,c4];rfl};{simp[zs,e];lia}};{next k=>rw[ia (0<=k) h,eE (.drop aBV) 7 (by simp[zs];lia),gI (do{some (GlaKeeps.Call.drop (<-KeepNeutral.nat k))})];rw[QT];rfl};rw[lp .undo 8,lp .redo 9];{next n=>rw[ia (0<=n) h,eE (.count jC) 10 (by simp[zs];lia),gI (do{some (GlaKeeps.Call.count (<-KeepNeutral.nat n))})];rw[QT];rfl};rw[lp .plan 11,lp .save 12];{next J=>rw[bF b4 b9 (aAH h),cq (.read b) (.inr (b 13 [] J rfl [] tK rfl b9)),gI (do{some (GlaKeeps.Call.read (<-KeepNeutral.bytes J))})];rw[b4];rfl}
theorem aAO:∀{A B:ao},zs A=zs B->A=B|[],[],_=>rfl|[],b::B,h=>bB|a::A,[],h=>bB|a::A,b::B,h=>by rw[aaB];rw[aAO a9,aDE a3]
theorem a0O(A B:ao):zs (A++B)=zs A++zs B:=fh
theorem UZ(A:ao):t (zs A)=ih:=bA _
theorem aAP{Z A:ao}{t:aQ}(h:zs Z=zs A++t):z B (Z=A++B) (zs B=t):=by have a3:=gB (List.drop ih) h;rw[eq (gB (List.take ih) h),c7 (bt (UZ A))];rw[e]at a3 a9;rw[aip]at a3;rw[aiq,<-e]at a9;have V:Z.take ih=A:=aAO (by delta zs at a9⊢;rw[Ds];exact a9);exact v (Z.drop ih) (by rw[<-V,eT];conv=>{lhs;rw[<-DA ih Z]};congr 2;grind-abstractProof) (by delta zs at a3⊢;rw[Dt,<-a3,bA])
theorem a0P{c:fC}(o:iM c):a6n c=c:=sK o
theorem a0Q{l:aQ}(h:aFN l=ab):∃cs,l=E_/\V c cs aKM/\XO l=u9 a6p/\bd (XO l) 10000000:=by rw[a4 aFN];cases q:a6o l with|none=>{simp_all}|some cs=>rw[aj q];have h:=h;have e:XO l=u9 a6p:=by{delta XO;rw[q]};delta a6o at q;cases c4:PyFlat.calls Ef ec l with|none=>{simp_all}|some c7=>rw[cR c4];have q:=c_ q;obtain⟨e9,f6⟩:=PyFlat.put_calls _ _ _ c4;have:c7.map a6n=c7:=by{rw[uW c7];exact aiG (fun c m=>a0P (callC (f6 c m)))};rw[cR this,fa,nC ia];obtain⟨⟨a3,a9⟩,e2⟩:=h;delta KeepNeutral.asked at a9;simp only[ia,Hx]at a9;delta PyFlat.short at e2;exact a c7 e9 (fun c m=>⟨f6 c m,a9.2.1 c m⟩) e ai
theorem a0R{cs:bL fC}(h:∀c∈cs,aKM)(e:E_=[]):cs=[]:=by cases cs with|nil=>{rfl}|cons c cs=>obtain⟨⟨p,a,O,rfl,_⟩,_⟩:=h c (fx ..);rw[dV]
theorem a0S{c:fC}(o:iM c):∃(p:Int)(a:aQ)(O:fC),c=(p::a)::O/\0<=p:=by cases o<;>exact oI ay
theorem a0T{c:fC}{cs:bL fC}{Z:ao}(ok:aFL Ef c)(b3:aFM c=ab)(e:zs Z=a6q (c::cs)):∃(x:GlaKeeps.Call)(p:Nat)(ns d:ao)(b:Bool)(n:ao),z aHX (Mi x p ns d) (Ef (v p)=aa (zr,Z b 1 0)) (b=ah->d=[]) (Z=(p::(ns++(Z b (oY::d) [])))++n/\zs n=E_):=by revert ok b3 e;revert c cs Z;refine aqa;rw[co c cs Z];intro ok b3 e;rw[lm w (call_of (callC ok) b3)];obtain⟨f,_,_,f5,c6⟩:=a0S (callC ok);obtain⟨u,a,O,g7,c0⟩:=ok;have pn:∀{ns d:ao},Mi x u ns d->∃p:Nat,u=v p:=fun{ns d}z=>⟨f.toNat,by rw[g7]at f5;rw[aJ1,aJ1];rw[f5,a6l c6]⟩;rcases w with⟨q,l,b4,ns,z,a7⟩|⟨q,l,J,b4,ns,W,z,a7,c4⟩;{rw[g7]at b4;rw[bcm,bcn];subst g5 i2 e7;rw[dn p (pn z)];subst g7;have E:zs Z=zs (p::ns)++E_:=by{rw[e];show(v p::a)++[]++E_=_;rw[qP,<-a7];rfl};rw[dQ h g (aAP E),g6 [] ah kW,bdh,a_]};{rw[g7]at b4;rw[bcm,bcn];subst g5 i2 e7;rw[dn p (pn z)];subst g7;have E:zs Z=zs (p::(ns++fk::W))++E_:=by{rw[e];show(v p::a)++((v vX::J)++[])++E_=_;rw[qP,<-a7,<-c4,UZ];show _=zs ((p::ns)++fk::W)++_;rw[a0O];rfl};rw[dQ h g (aAP E),g6 W ab (J (YI)),bdh,cY]}
universe GM
namespace GA
open PySem PySem.Spec PyProof.Rows L2
theorem aAQ{I d:Type}{F G:qr}{l:ba}{m:nO}(h:l a b (b∈m) (F a b) (G a b))(q:f2 F):f2 G:=by induction q with|nil=>{rw[kO]}|cons J t i=>rw[cB (h _ _ Ag J) (i (fun a b m=>h a b (mE m)))]
theorem RecAt.told{u CR:Addr}{H L:Hp}{J:Addr}{R:GM.bU}{g ls t:Addr}{zs:aQ}(h:nr)(Y:x_)(c6:a_5)(n1:t≠g)(n2:t≠ls)(s:fW [t]):Bf:=by rw[d4 c4 mX,Rc,J7];have h7:oN [t] H:=qW ai;have d6:∀{I:Type}{c:kj}(_:j v x (c H v x) (∃a,v=bc)){l:Addr}{O:ba},dC c H l O->O≠[]->l∉[t]:=fun{I c}hR{l O}⟨d7,e,C⟩ne=>mW (l≠t) (J (by rw[rC,a6 c6];injection e with e;injection e with e;rw[cb];cases O with|nil=>{exact ne rfl}|cons x O=>cases zs with|nil=>{rw[ob]}|cons z zs=>cases C with|cons a b=>obtain⟨B,d0⟩:=hR _ _ a;cases d0));rw[KW (mW (b≠t) (qx e c6 (n _)))];exact aV (sm q aT) (ax n1.symm) (aAQ (fun x D mem z=>by rw[CD z,bbj];obtain⟨_,_,z1,h6,k7,_⟩:=(Y.LB D mem).GC;exact db (sm M aT) (fy d.p z1 z1) (fy d.l h6 h6) (fy d.m k7 k7)) e9) (ax aFh) (aAQ (fun x y mem z=>by have F:=aiO y mem;have c3:=s.ts h7;cases y with|lead row m=>{rw[K6 k];exact a a i7 b8 e ZI (l.sb dm s h7 (nS l (by have:=F.1.1;rw[am z,uu]))) (lQ c3 k) a3}|erase i j=>{rw[il z ZI]}|move k p=>{rw[w pv e q J z];exact a a pv e ZI (hJ c3 J)}|mark i m=>{rw[w b8 e q J z];exact a a b8 e ZI (lQ c3 J)}|drop k=>rw[il z ZI]) f6)
theorem G9.told{u CR A:Addr}{H L:Hp}{k t:Addr}{o:PN}{N:bg}{zs:aQ}(h:ov H)(c6:a_5)(n:t∉N)(s:fW [t]):ov L:=by rw[KW cu];cases o with|none=>{rw[aLf];exact ah dx (sm e cu)}|some R=>rw[nv dx e];exact mv (sm e aT) (hR.told Y c6 aHp aHp s)
theorem a0U{x:GlaKeeps.Call}{p:Nat}{ns d:ao}(h:GM.Mi x p ns d):aAs x p ns d:=by cases x<;>rw[aa (Int.ofNat_inj.mp h.1) h.2.1 h.2.2]
theorem a0V{p a b:Nat}(h:Ef (v p)=aa rQ):fe au7 (.inl (v p))=aa (vn a)/\BJ jQ aLi=ar b 1:=by have O:biS:=by{rw[a4 Ef];by_cases z:biS;rw[l z];{(repeat rw[i2 (by(intro;lia))]);rw[cI]}};rcases O with rfl|rfl|rfl|rfl|rfl|rfl|rfl|rfl|rfl|rfl|rfl|rfl|rfl<;>(rw[sQ xJ])
inductive agJ(K:Fg)(vs:af)(H:Hp)(Q:VK)(E:XK):Prop|mk:∀(l:Addr)(a3:ao),e [cD] (ik aHh) (Ae<=30000) (aFN (akK a3)=ab) ((j F L (aj F (B ams cq)) JI)->agJ K vs H Q E)
section z
theorem aAR:a6s P w aj 16 (agJ K):=by refine T.answers.go aUy aL;generalize aG=e3,aA=A,aF=outer,aE=s,aD=H,aB=vs,aH=Q,aI=E;rw[aN,M fQ,aX,bW l a3,av a5 c9 b3 B,Bx];obtain⟨cs,r,X,D,f6⟩:=GM.a0Q b3;rw[b2 (L tD (arq T.Uc.h (bN a0B aY) (ahc ay) rfl T.aVR T.Uc.b .nil fu) (bW 2 tD Bb) (i 3 tD bE (F6 NY (eb ly bb nK) (i 4 tD (eT bb) (bW 5 tD (cS (hw bb) (aTp T.aVM bR ry))) (i 6 tD (lc (hw bb) cK) (bW 7 tD Bb) (i 3 tD cK (ah a_E bR (GT T.aVC) (bW 3 tD (cS (hw cK) (eT cK))) (bW 7 tD (lc (hw cK) bb))) (i 8 tD (jn aq Ee T.Ud.h (eE a0K) a6 T.Ud.b .nil fu (yZ bR ey kg)) (dF aw (dP kh)) (fG (eD aw kh))))))) (df aw)))];intro k dx e1 k6 g4;rw[y k dx ak gL,aj s0 (upd ZW k Q1) (afG e1 k6 g4)];have f5:E ZW k (aC hK []) k Q1=upd ZW k Q1:=yx;rw[e l7 ZW k Q1 k Q1];rw[f5];rw[m ZW k Q1 i s0 l7,v (by show a1 0;simp) (fun t h7=>?_)];have a4:=aFe (ac [] h7);have I:=b_ (o:=amb) h7 _ _ l7;rw[a d5 i t [] t []];have g8:Y t:=s0.free h7;rw[cj g9 t k,f i t [] a8 a4 I d5,ak (qQ (∃(f:Nat)(cs:bL fC)(o:PN)(N:bg)(h8:aQ)(b1 i1 j5 j3 i9:jO),m=ai4/\M=[tV,ac k,ac t,bE f,b1,i1,j5,j3,i9]/\f<=Ae/\akK (Af f)=E_/\z (V c cs aKM) bQ (G9 bJ dM hK L k o N) (V b N gs) (aj t (akE cq)/\t∉N/\ams=h8++u9 (tq akI)))) (a _ 0 cs ae [k] [] ae ae (f ae ae ae rfl cT r X (c a4 (ah dx I) (lb (t (show b=k by simpa using m) e1)) d5 (ax g9) D)))];clear r X D I d5 a4 l7 s0 f5 cs;rintro m M L⟨f,cs,o,N,h8,b1,i1,j5,j3,i9,rfl,rfl,c2,r,X,J,a7,hN,c6,e6,D⟩;rw[n8 aHi,kn];{rw[eD C (f<Ae) c,b2 aaV];cases cs with|nil=>{exfalso;rw[it r,bY GM.UZ sR];have:Ae-f=0:=this;exact yv this.l C (aS Ae f)}|cons cc cs=>obtain⟨h1,ask⟩:=X cc (fx ..);obtain⟨x,p,ns,W,b,n,S,a0,h2,U,v,h3⟩:=GM.a0T h1 ask r;obtain⟨f9,sw⟩:=a0V h2;rw[cA e5 f p v,r l jQ aHi (d_ (j:=f) (p7 e5)) ?_,y (.inl (v p)) (vn zr) f9 ?_];have dl:Af f=p::(ns++aJr++n):=by{trivial};have c5:Af (f+1)=ns++(aJr++n):=by{rw[<-H0,dl];exact dw _ _ _};have c7:Af ni=aJr++n:=by{rw[<-H0,c5,aip]};have b4:v f+1+v zr=Qm:=by{rfl};have b9:v f+1=ae (f+1):=by{rfl};delta F7;dsimp only;rw[b4];rw[dl aHi J5];have h4:jo aHh (oK f) (aa Qm)=jh:=by{rw[b9,UX,c5,a0 (ni-(f+1)) zr (a6r ..),aiq]};rw[h4];rw[T a4 L (U L d jh) nd,ar d2 L jh jh,i L d jh b7 a4 d2,v (by show a1 0;exact cT) (fun c4 Y=>?_),P b5 L (U b7 c4 []) (lC Y),a q2 b7 c4 [] c4 [],i d6 b7 c4 [] d jh Y d2,f b7 c4 [] d4 b5 q2 d6];intro j k4;refine f j _ (.inr k4) (ah rfl ?_);rw[i_ (BJ jQ aLi)];rw[sw];refine fH (fun d1=>?r1) (fun d1=>?r2);(case' r1=>have h5:b=ab:=by{cases b with|true=>{rfl}|false=>simp at d1};subst h5;have c7:Af ni=fk::(W++n):=c7;rw[cA g7 ni fk c7];have a9:Af (ni+1)=W++n:=by{rw[<-H0,c7];rfl};have b8:Af aaw=n:=by{rw[<-H0,a9,aip]};rw[cB h6 fk a9 (cg CZ (qR Ae (ni+1))),r l (vn fk) (os (akL b5)) (d_ (j:=ni) (p7 g7)) ?_];have e7:Qm+1+v fk=ae aaw:=by{lia};have g5:Qm+1=ae (ni+1):=by{lia};rw[j7 3 (cq (Qm+1+v fk))];rw[e7];rw[dl (os (akL b5)) aJ5];have h9:jo aHh (aa (Qm+1)) (aa (ae aaw))=Qc:=by{rw[g5,UX,a9,a0 (aaw-(ni+1)) fk (a6r ..),aiq]};rw[h9];rw[P d9 L (U d4 c0 Qc) (fj (b_ c1)),a i6 d4 c0 Qc c0 Qc,i e2 d4 c0 Qc d jh c1 d6,f d4 c0 Qc e4 d9 i6 e2,Gx aaw];rw[<-Z]at b8;rw[<-Z];have d7:b6<=Ae:=by rw[iZ (bx g7),it a9,bY sR ck];exact hp Z.l (aR lt) CZ);(case' r2=>have d0:b=ah:=by{cases b with|false=>{rfl}|true=>simp at d1};rw[xV];have q:W=[]:=U rfl;rw[fa];have b8:Af ni=n:=c7;have h6:([]:ao).length<=Ae:=cT;rw[cB d7 ni c5 (RT (aR C) CZ)];obtain⟨e4,d9,i6,e2,b0⟩:I z (cZ L z) (b5 (z c4) (jG ([]:ao))) (b5 (z d) jh/\z=d4):=a d4 b5 q2 d6 rfl;rw[<-b0];obtain⟨c0,G⟩:∃z,z=c4:=el;rw[<-G]at i6;rw[<-G];rw[Gx ni];rw[<-Z]at b8 d7;rw[<-Z]);all_goals obtain⟨f7,i0,i5,c3⟩:=(a7.mono d9).k;have d3:=a7.mono d9;have i2:aiU (tq akI) cc=Ac o x:=GM.aSY o S;have e8:ams=h8++((v aG8::O3)++u9 (Ac o x).1):=by{rw[D,<-i2];rfl};have d8:h8.length+(1+aG8)<=10000000:=by{rw[it e8];rw[ck,ck,ic]at this;exact cg CZ f6};rw[c k i0 c3 EM k o (a N x p ns _ d c0 rfl (a d3 (a0U a0) e2 i6 bM (gd d8) (fun F g6 g l8 sb O a i3 y k8=>?_)))];have c8:=fI c6;have e0:=sb _ _ c8 e6;rw[r i4 t F O c8 c8];have e9:t∉l8:=bo (ca (k8 t m) e6 (J (by rw[c8]at z;cases z)));rw[c (dr e0) F (ce a) t _ _ (ax rfl e0 (t bA (cg d8 fy)) ?_),c (dr ak) t F _ _ rfl ak (aJ (Y i4.symm a) (by rw[ck,bA,bA];show h8.length+1+_<=_;exact cg d8 fy))];have R:SB [t] g6 (U (aV g6 t (akE cq) (g1 (t (hN O3)))) t (akE cq++[g1 (t (hN O3))]++hN O3)):=(hp ej aT).put aT;rw[b ai4 jW b6 cs g l8 (h8++(v aG8::O3)) _ (m _ _ d7 (t b8 h3) (a (fun c m=>X c (ck m)) ?_ (i3.told e0 e9 R) ?_ ?_ e9 ?_))];{intro b2 u e;have n1:b2∉N:=bo (C3 (hN b2 m));have n2:b2∉[t]:=by{have:b2≠t:=J (by rw[b2 g8 e,dV]);rw[gh]};exact R _ _ (sb _ _ ((akL d9) _ _ e) n1) n2};{intro b2 m;rw[cZ (k8 b2 m),l (hN b2 z),l (eX (akL d9) z)]};rw[l8 ak];{rw[e8,y,dw]}};{have C:Af f=[]:=by{simp at c;simpa using c};rw[C]at r;have:=GM.a0R X r.symm;rw[gp,R D ams h8 D (qP _)];rw[<-D]at c6;exact(B t L c6)}
universe z
universe GA
section z
set_option tactic.hygienic true
namespace GA
open PySem PySem.Spec PyProof.Rows L2
theorem aAS{K:Fg}{O:af}{H:Hp}{Q:VK}{E:XK}(h:LK K O H Q E):agJ K O H Q E:=by rw[w r b S c2 h];cases S with|cons a3 a9=>cases a9;cases a3 with|lst c0 b3=>rw[c7 (L2.avn a.1 _ b3),cb];have q:da (PySem.W.Codec.inLen 0 30000 a.1&&a.1.all (PySem.W.Codec.inInt 0 8589934591)) ab:=r;rw[ia,ia]at q;have k0:akK aJz=a.1:=by{unfold GM.zs;rw[jy];rw[uW a.1,j0 aog];have:=Wk q.1.2 z c9;have:=(PySem.W.Codec.inInt_iff.mp this).1;show ae akJ=z;omega};have c:hN a.1=bh aJz:=by{conv=>{lhs;rw[<-k0]};unfold GM.zs;rw[jy];rfl};rw[c]at c0;rw[y _ aJz c0 (v (t bA (PySem.W.Codec.inNat_iff.mp q.1.1).2) (t k0 b) (fun F L z=>c2 _ _ ?_))];rw[k0]at z;exact .lst (L2.fW.of z) (L2.avm _)
theorem a0W(a:Zt):aM':=by apply qM;intro n;have z:= @a1a Zt (fy (¬aM')) ⟨a,n⟩;have o:a6s P w aj 16 (LK K):=⟨fun vs H Q E h=>aAR.len vs H Q E (aAS h),fun A eB s H i b1 vs Q E a6 U J S h=>aAR.run A eB s H i b1 vs Q E a6 U J S (aAS h)⟩;exact z (yR o)
theorem fin{P:Program}{w:World}{K:Fg}{mg:dO}{t:Addr}(e:aaS)(G:Bw)(A:fY "answers" t):∃fd:FuncData,(nR (lC=(al7:cX).length) ((al7:cX).zip b1))/\∀base:iN,vQ aj->alP->am 16 t fd al7 (LK K):=by rw[cO (A.symm.trans (aMF).m)];injection q with q;injection q with q;rw[fa];obtain⟨D,m,kV,p,b3,g,e3,ct,z,c9,_⟩:=(aMF).F.ex;rw[aa (aMF).fd (fun s b1 hu=>?_) (fun aj _ _=>a0W (a P w K mg aj e G))];rw[c9];revert b1;exact GP (as (.of_eq rfl))
universe GA
universe z
section z
set_option tactic.hygienic true
open PySem PySem.W PyProof.Rows
theorem HX.walk{q:Program}{j:cX}{m:aHT}{J:OpenSpec}{d:DefRec}{a:mB aFO}{run:cS->aM->X1}{G:cv Frag}(h:E K (G K) (Ld ur)):Ld (∃K:Frag,ur/\G K):=fun w s0 a4 mg D g⟨K,i,e⟩=>h K e w s0 a4 mg D g i
theorem HX.bkc:PySem.Challenge.rw_glassrecord_s01_answers.Holds:=by refine holds_os (XP:=XL HX.q3 []) (YP:=fun _ h=>HX.YH h) HX.lft (sY (of_eq_true e)) (fun _ _ _⟨K,i,e⟩k=>v K (Frag.In.keeps i k) e) (fun s e=>xl_of s (Ad e).1) XL.keeps bI bI bI (fun s e=>recFacts_of (Ad e).2) os_shapes HX.ws HX.co HX.br HX.xa ?_;refine HX.walk (fun K e=>L2.aU8 (k:=16) (T:=L2.so) (c5:=al7) (e8:=GA.LK) (K:=as K) HX.ws rfl rfl (ah ay ay) (fun w h c=>c) (fun w mg t h c X G m=>GA.fin e (fun x v a=>match v with|some _=>mg_of X G a|none=>mg_none_of X G a) m) (fun K H O a _ i k x=>a a i k x (vM z)) (fun _ _ _ _ z=>z))
universe z
end
theorem PySem.Challenge.cw_glassrecord_s01_answers_holds : PySem.Challenge.rw_glassrecord_s01_answers.Holds := by
 exact HX.bkc
