import PyProof.Rows.All
import Wide.All
import OpenK.AllK
import Wide.FinOn
import PyProof.EqAt
import PyProof.EqKinds
import PyProof.TupleCall
import KE.BitLaws
import KE.KItemsList
import Open.SpecLaws
import KE.OsHead
import KE.OsGo
import PySem.Challenge.RW_droughtshares_s01_answers
set_option Elab.async false
set_option linter.all false
set_option maxRecDepth 100000
set_option maxHeartbeats 4000000
set_option exponentiation.threshold 5000
universe u v
abbrev vA:=@Nat.le_trans
abbrev vB:=@List.length_map
abbrev vC:=@List.getElem?_eq_getElem
abbrev vD:=@List.mem_of_getElem?
abbrev vE:=@Option.some.inj
theorem vF{α:Type u}{l:List α}{i:Nat}{a:α}(h:l[i]?=some a):∃h:i<l.length,l[i]=a:=List.getElem?_eq_some_iff.mp h
abbrev vG:=@of_decide_eq_true
abbrev vH:=@of_decide_eq_false
abbrev vI:=@List.length_append
theorem vJ{α:Type u}{a b:α}{l:List α}(h:a∈b::l):a=b∨a∈l:=List.mem_cons.mp h
abbrev vK:=@List.length_cons
theorem vL{α:Type u}{β:Type v}{f:α->β}{b:β}{l:List α}(h:b∈l.map f):∃a,a∈l/\f a=b:=List.mem_map.mp h
abbrev vM:=@Int.toNat_natCast
abbrev vN:=@Nat.pow_le_pow_right
abbrev vO:=@Nat.lt_of_le_of_lt
abbrev vP:=@Nat.lt_of_lt_of_le
abbrev vQ:=@Int.natAbs_natCast
abbrev vR:=@List.getElem?_map
abbrev vS:=@List.getD_eq_getElem?_getD
abbrev vT:=@Bool.false_ne_true
abbrev vU:=@List.length_take
abbrev vV:=@List.map_cons
abbrev vW:=@Nat.zero_le
abbrev vX:=@List.map_map
abbrev vY:=@List.map_congr_left
abbrev vZ:=@List.length_drop
theorem v4{α:Type u}{p:α->Bool}{l:List α}(h:l.all p=true):∀x,x∈l->p x=true:=List.all_eq_true.mp h
abbrev v5:=@List.eq_nil_of_length_eq_zero
abbrev v6:=@List.take_length
theorem v7{α:Type u}{a:α}{s t:List α}(h:a∈s++t):a∈s∨a∈t:=List.mem_append.mp h
abbrev v8:=@List.length_range
abbrev v9:=@Rat.intCast_natCast
namespace Dr
open Vbirad (Q Party Kind House Bytes text partsOf wordsOf linesOf numberIn isName isDigit isSmall find findAll weightIn lineOf readFrom readSharing RULES KEYS free distinct CLAIM WEIGHT MEMBERS PARTIES whole_ Call WATER byChance byParts claimOf claimsIn digits evenly fact halves inOrder isGroup isMember isParty isPerson leastFor levelFrom losses membersOf nums onSharing partyAt printParty printSharing proofOf qRow risen ruleOf setClaim setRule shareBy shareFrom shareOf spaced subsets sumQ weightsIn)
theorem N6{a:Int}{b:Nat}(h:0 < b):0 < Int.gcd a b:=Int.gcd_pos_of_ne_zero_right _ (by omega)
theorem bB{a:Int}{b:Nat}(h:0 < b):Int.gcd a b<=b:=by
 have:=Int.gcd_le_natAbs_right a (b:=(b:Int)) (by omega);simpa using this
theorem eN(x y:Int):Int.gcd y (x % y)=Int.gcd x y:=by
 have e:x=x % y + y * (x / y):=(Int.emod_add_mul_ediv x y).symm
 conv=>rhs;rw[e]
 rw[Int.gcd_add_mul_left_left,Int.gcd_comm]
theorem U1{a:Int}{b:Nat}(h:0 < b):Vbirad.mk a b= ⟨a / (Int.gcd a b:Int),b / Int.gcd a b⟩ :=by
 unfold Vbirad.mk;dsimp only;rw[if_neg (by omega)];rfl
structure Red(q:Q):Prop where
 pos:0 < q.d
 co:Int.gcd q.n q.d=1
theorem Aw(n:Int):Red (Vbirad.whole n):= ⟨by show 0 < 1;decide,by show Int.gcd n ((1:Nat):Int)=1;simp⟩
theorem Fs(a:Int){b:Nat}(h:0 < b):Red (Vbirad.mk a b):=by
 rw[U1 h];have g:=N6 (a:=a) h;refine⟨Nat.div_pos (bB h) g,?_⟩;show Int.gcd (a / (Int.gcd a b:Int)) ((b / Int.gcd a b:Nat):Int)=1;rw[Int.natCast_ediv,Int.gcd_ediv (Int.gcd_dvd_left ..) (Int.gcd_dvd_right ..)];simp;exact Nat.div_self g
theorem bQ(a:Int){b:Nat}(h:0 < b):(Vbirad.mk a b).n * (b:Int)=a * ((Vbirad.mk a b).d:Int):=by
 rw[U1 h];have g:=N6 (a:=a) h;show a / (Int.gcd a b:Int) * (b:Int)=a * ((b / Int.gcd a b:Nat):Int);rw[Int.natCast_ediv];obtain⟨x,hx⟩ :=Int.gcd_dvd_left a (b:Int);obtain⟨y,hy⟩ :=Int.gcd_dvd_right a (b:Int);generalize Int.gcd a b=e at *;have e0:(e:Int)≠0:=by omega
 rw[hy];rw[Int.mul_ediv_cancel_left _ e0]
 conv=>lhs;rw[hx]
 rw[Int.mul_ediv_cancel_left _ e0]
 conv=>rhs;rw[hx]
 grind
theorem Wr{n d m:Int}(h:Int.gcd n d=1)(k:d∣n * m):d∣m:=by
 have:=Int.dvd_gcd_mul_iff_dvd_mul.mpr k;rw[Int.gcd_comm,h]at this;simpa using this
theorem iH{p q:Q}(hp:Red p)(hq:Red q)(h:p.n * (q.d:Int)=q.n * (p.d:Int)):p=q:=by
 have p0:=hp.pos;have q0:=hq.pos;have c1:p.d∣q.d:=by
  have d1:(p.d:Int)∣p.n * q.d:= ⟨q.n,by rw[h];grind⟩;have d2:(p.d:Int)∣(q.d:Int):=Wr hp.co d1;exact Int.natCast_dvd_natCast.mp d2
 have c2:q.d∣p.d:=by
  have d1:(q.d:Int)∣q.n * p.d:= ⟨p.n,by rw[<-h];grind⟩;have d2:(q.d:Int)∣(p.d:Int):=Wr hq.co d1;exact Int.natCast_dvd_natCast.mp d2
 have e:=Nat.dvd_antisymm c1 c2;rw[e]at h;have e2:p.n=q.n:=Int.eq_of_mul_eq_mul_right (by omega) h;cases p;cases q;simp at e e2;rw[e,e2]
theorem hJ(a:Int){b:Nat}(h:0 < b):(Vbirad.mk a b).d∣b:=by
 rw[U1 h];exact Nat.div_dvd_of_dvd (by simpa using Int.gcd_dvd_natAbs_right a (b:Int))
def val(q:Q):Rat:=(q.n:Rat) / (q.d:Rat)
theorem B5{d:Nat}(h:0 < d):(d:Rat)≠0:=by
 intro e;have:(d:Rat)=((0:Nat):Rat):=by simpa using e
 have:=Rat.natCast_inj.mp this;omega
theorem Ez{d:Nat}(h:0 < d):(0:Rat) < (d:Rat):=by
 have:((0:Nat):Rat) < (d:Rat):=Rat.natCast_lt_natCast.mpr h;simpa using this
theorem Ke(a:Int){b:Nat}(h:0 < b):val (Vbirad.mk a b)=(a:Rat) / (b:Rat):=by
 have e:=bQ a h;have r:=Fs a h;unfold val;generalize Vbirad.mk a b=p at *;have h1:=B5 h;have h2:=B5 r.pos;have e':(p.n:Rat) * (b:Rat)=(a:Rat) * (p.d:Rat):=by
  have:((p.n * (b:Int):Int):Rat)=((a * (p.d:Int):Int):Rat):=by rw[e]
  simpa [Rat.intCast_mul,Rat.intCast_natCast]using this
 grind
theorem Of{p q:Q}(hp:Red p)(hq:Red q)(h:val p=val q):p=q:=by
 refine iH hp hq ?_;unfold val at h;have h1:=B5 hp.pos;have h2:=B5 hq.pos;have e:(p.n:Rat) * (q.d:Rat)=(q.n:Rat) * (p.d:Rat):=by grind
 have e2:((p.n * (q.d:Int):Int):Rat)=((q.n * (p.d:Int):Int):Rat):=by
  simpa [Rat.intCast_mul,Rat.intCast_natCast]using e
 exact Rat.intCast_inj.mp e2
theorem Cd(n:Int):val (Vbirad.whole n)=(n:Rat):=by
 unfold val Vbirad.whole;simp[Rat.div_def];grind
theorem Oe{a b:Q}(ha:0 < a.d)(hb:0 < b.d):val (Vbirad.add a b)=val a + val b:=by
 unfold Vbirad.add;rw[Ke _ (Nat.mul_pos ha hb)];unfold val;have h1:=B5 ha;have h2:=B5 hb;simp only [Rat.intCast_add,Rat.intCast_mul,Rat.intCast_natCast,Rat.natCast_mul];grind
theorem fV(a:Q):val (Vbirad.neg a)= - val a:=by
 unfold val Vbirad.neg;simp only [Rat.intCast_neg];grind
theorem Jn{a b:Q}(ha:0 < a.d)(hb:0 < b.d):val (Vbirad.sub a b)=val a - val b:=by
 unfold Vbirad.sub;rw[Oe ha (by show 0 < b.d;exact hb),fV];grind
theorem Og{a b:Q}(ha:0 < a.d)(hb:0 < b.d):val (Vbirad.mul a b)=val a * val b:=by
 unfold Vbirad.mul;rw[Ke _ (Nat.mul_pos ha hb)];unfold val;have h1:=B5 ha;have h2:=B5 hb;simp only [Rat.intCast_mul,Rat.natCast_mul];grind
theorem Fr{a b:Q}(ha:0 < a.d)(hb:0 < b.d):Vbirad.le a b=true↔val a<=val b:=by
 unfold Vbirad.le;rw[decide_eq_true_iff];unfold val;have h1:=Ez ha;have h2:=Ez hb;have k:((a.n:Rat) / (a.d:Rat)<=(b.n:Rat) / (b.d:Rat))↔(a.n:Rat) * (b.d:Rat)<=(b.n:Rat) * (a.d:Rat):=by
  rw[<-Rat.not_lt,Rat.div_lt_iff h2];have e:(a.n:Rat) / (a.d:Rat) * (b.d:Rat)=((a.n:Rat) * (b.d:Rat)) / (a.d:Rat):=by grind
  rw[e,Rat.lt_div_iff h1,Rat.not_lt]
 rw[k];have e1:(a.n:Rat) * (b.d:Rat)=((a.n * (b.d:Int):Int):Rat):=by simp[Rat.intCast_mul,Rat.intCast_natCast]
 have e2:(b.n:Rat) * (a.d:Rat)=((b.n * (a.d:Int):Int):Rat):=by simp[Rat.intCast_mul,Rat.intCast_natCast]
 rw[e1,e2];exact Rat.intCast_le_intCast.symm
structure Sz(k:Nat)(q:Q):Prop where
 pos:0 < q.d
 dle:q.d<=2^k
 nle:q.n.natAbs<=2^(k + 1000)
theorem Sz.mono{j k:Nat}{q:Q}(h:Sz j q)(l:j<=k):Sz k q:=
 ⟨h.pos,vA h.dle (vN (by decide) l),vA h.nle (vN (by decide) (by omega))⟩
theorem Sz.whole{k:Nat}{n:Int}(h:n.natAbs<=2^(k + 1000)):Sz k (Vbirad.whole n):= ⟨by show 0 < 1;decide,Nat.one_le_two_pow,h⟩
theorem eV(a:Int){b:Nat}(h:0 < b):(Vbirad.mk a b).n.natAbs<=a.natAbs:=by
 rw[U1 h];show(a / (Int.gcd a b:Int)).natAbs<=a.natAbs;obtain⟨x,hx⟩ :=Int.gcd_dvd_left a (b:Int);have g:=N6 (a:=a) h;generalize Int.gcd a b=e at *;have e0:(e:Int)≠0:=by omega
 subst hx;rw[Int.mul_ediv_cancel_left _ e0,Int.natAbs_mul];exact Nat.le_mul_of_pos_left _ (by omega)
theorem Sz.ofMk{k:Nat}{a:Int}{b:Nat}(h:0 < b)(hd:b<=2^k)(hn:a.natAbs<=2^(k + 1000)):Sz k (Vbirad.mk a b):=
 ⟨(Fs a h).pos,vA (Nat.le_of_dvd h (hJ a h)) hd,vA (eV a h) hn⟩
theorem Sz.add{j k:Nat}{a b:Q}(ha:Sz j a)(hb:Sz k b):Sz (j + k + 1) (Vbirad.add a b):=by
 unfold Vbirad.add;refine Sz.ofMk (Nat.mul_pos ha.pos hb.pos) ?_ ?_
 ·refine vA (Nat.mul_le_mul ha.dle hb.dle) ?_;rw[<-Nat.pow_add];exact vN (by decide) (by omega)
 ·refine vA (Int.natAbs_add_le _ _) ?_;rw[Int.natAbs_mul,Int.natAbs_mul,vQ,vQ];have h1:=Nat.mul_le_mul ha.nle hb.dle;have h2:=Nat.mul_le_mul hb.nle ha.dle;rw[<-Nat.pow_add]at h1 h2;have e1:j + 1000 + k=j + k + 1000:=by omega
  have e2:k + 1000 + j=j + k + 1000:=by omega
  rw[e1]at h1;rw[e2]at h2;have e3:(2:Nat)^(j + k + 1 + 1000)=2^(j + k + 1000) + 2^(j + k + 1000):=by
   rw[show j + k + 1 + 1000=(j + k + 1000) + 1 by omega,Nat.pow_succ];omega
  rw[e3];exact Nat.add_le_add h1 h2
theorem Sz.neg{k:Nat}{a:Q}(h:Sz k a):Sz k (Vbirad.neg a):= ⟨h.pos,h.dle,by show(-a.n).natAbs<=_;rw[Int.natAbs_neg];exact h.nle⟩
theorem Sz.sub{j k:Nat}{a b:Q}(ha:Sz j a)(hb:Sz k b):Sz (j + k + 1) (Vbirad.sub a b):=ha.add hb.neg
theorem Sz.least{k:Nat}{a b:Q}(ha:Sz k a)(hb:Sz k b):Sz k (Vbirad.least a b):=by
 unfold Vbirad.least;split
 ·exact ha
 ·exact hb
theorem Sz.most{k:Nat}{a b:Q}(ha:Sz k a)(hb:Sz k b):Sz k (Vbirad.most a b):=by
 unfold Vbirad.most;split
 ·exact hb
 ·exact ha
theorem Sz.mulN{i a:Nat}{e:Q}(se:Sz i e)(ha:a<=2^100):Sz (i + 100) (Vbirad.mul e (Vbirad.whole (a:Int))):=by
 unfold Vbirad.mul Vbirad.whole;dsimp only;rw[Nat.mul_one];refine Sz.ofMk se.pos (Nat.le_trans se.dle (Nat.pow_le_pow_right (by decide) (by omega))) ?_;rw[Int.natAbs_mul,Int.natAbs_natCast,show i + 100 + 1000=(i + 1000) + 100 by omega,Nat.pow_add];exact Nat.mul_le_mul se.nle ha
theorem Sz.overN{i a:Nat}{e:Q}(se:Sz i e)(h0:0 < a)(ha:a<=2^100):Sz (i + 100) (Vbirad.over e (Vbirad.whole (a:Int))):=by
 unfold Vbirad.over Vbirad.whole;dsimp only;rw[if_neg (by omega),if_pos (by omega)];simp only [Int.toNat_natCast];refine Sz.ofMk (Nat.mul_pos se.pos h0) ?_ ?_
 ·rw[Nat.pow_add];exact Nat.mul_le_mul se.dle ha
 ·have e1:(e.n * ((1:Nat):Int))=e.n:=by omega
  rw[e1];exact vA se.nle (vN (by decide) (by omega))
structure Bd(D V:Nat)(q:Q):Prop where
 red:Red q
 int:∃m:Int,val q * (D:Rat)=(m:Rat)
 lo: -(V:Rat)<=val q
 hi:val q<=(V:Rat)
theorem K3{a b:Q}(ha:0 < a.d)(hb:0 < b.d):Red (Vbirad.add a b):=Fs _ (Nat.mul_pos ha hb)
theorem Ea{a b:Q}(ha:0 < a.d)(hb:0 < b.d):Red (Vbirad.sub a b):=K3 ha hb
theorem Tu{a b:Q}(ha:0 < a.d)(hb:0 < b.d):Red (Vbirad.mul a b):=Fs _ (Nat.mul_pos ha hb)
theorem Rz{a b:Q}(ha:Red a)(hb:Red b):Red (Vbirad.least a b):=by unfold Vbirad.least;split<;>assumption
theorem Vu{a b:Q}(ha:Red a)(hb:Red b):Red (Vbirad.most a b):=by unfold Vbirad.most;split<;>assumption
theorem Kw{a:Q}{n:Nat}(h:0 < n):Vbirad.over a (Vbirad.whole n)=Vbirad.mk a.n (a.d * n):=by
 unfold Vbirad.over Vbirad.whole;dsimp only;rw[if_neg (by omega),if_pos (by omega)];simp
theorem cP{a:Q}{n:Nat}(ha:0 < a.d)(h:0 < n):Red (Vbirad.over a (Vbirad.whole n)):=by
 rw[Kw h];exact Fs _ (Nat.mul_pos ha h)
theorem Wf{a:Q}{n:Nat}(ha:0 < a.d)(h:0 < n):val (Vbirad.over a (Vbirad.whole n))=val a / (n:Rat):=by
 rw[Kw h,Ke _ (Nat.mul_pos ha h)];unfold val;have h1:=B5 ha;have h2:=B5 h;simp only [Rat.natCast_mul];grind
theorem By(n:Nat):val (Vbirad.whole (n:Int))=(n:Rat):=by rw[Cd];simp[Rat.intCast_natCast]
theorem Ay(n:Nat):(0:Rat)<=(n:Rat):=by
 have:((0:Nat):Rat)<=(n:Rat):=Rat.natCast_le_natCast.mpr (Nat.zero_le n);simpa using this
theorem Bd.mono{D D' V V':Nat}{q:Q}(h:Bd D V q)(hD:D∣D')(hV:V<=V'):Bd D' V' q:=by
 obtain⟨k,rfl⟩ :=hD;obtain⟨m,hm⟩ :=h.int;have hv:(V:Rat)<=(V':Rat):=Rat.natCast_le_natCast.mpr hV;refine⟨h.red,⟨m * k,?_⟩,?_,?_⟩
 ·simp only [Rat.natCast_mul,Rat.intCast_mul,Rat.intCast_natCast];grind
 ·have:=h.lo;grind
 ·have:=h.hi;grind
theorem Bd.whole{n:Int}{V:Nat}(h:n.natAbs<=V):Bd 1 V (Vbirad.whole n):=by
 have h1:(n:Rat)<=((V:Int):Rat):=Rat.intCast_le_intCast.mpr (by omega);have h2:((-(V:Int):Int):Rat)<=(n:Rat):=Rat.intCast_le_intCast.mpr (by omega);simp only [Rat.intCast_neg,Rat.intCast_natCast]at h1 h2;refine⟨Aw n,⟨n,?_⟩,?_,?_⟩
 ·rw[Cd];simp
 ·rw[Cd];exact h2
 ·rw[Cd];exact h1
theorem Bd.add{D V W:Nat}{a b:Q}(ha:Bd D V a)(hb:Bd D W b):Bd D (V + W) (Vbirad.add a b):=by
 obtain⟨m,hm⟩ :=ha.int;obtain⟨n,hn⟩ :=hb.int;have e:=Oe ha.red.pos hb.red.pos;have:=ha.lo;have:=ha.hi;have:=hb.lo;have:=hb.hi;refine⟨K3 ha.red.pos hb.red.pos,⟨m + n,?_⟩,?_,?_⟩
 ·rw[e];simp only [Rat.intCast_add];grind
 ·rw[e];simp only [Rat.natCast_add];grind
 ·rw[e];simp only [Rat.natCast_add];grind
theorem Bd.sub{D V W:Nat}{a b:Q}(ha:Bd D V a)(hb:Bd D W b):Bd D (V + W) (Vbirad.sub a b):=by
 obtain⟨m,hm⟩ :=ha.int;obtain⟨n,hn⟩ :=hb.int;have e:=Jn ha.red.pos hb.red.pos;have:=ha.lo;have:=ha.hi;have:=hb.lo;have:=hb.hi;refine⟨Ea ha.red.pos hb.red.pos,⟨m - n,?_⟩,?_,?_⟩
 ·rw[e];simp only [Rat.intCast_sub];grind
 ·rw[e];simp only [Rat.natCast_add];grind
 ·rw[e];simp only [Rat.natCast_add];grind
theorem Bd.mulN{D V:Nat}{a:Q}(n:Nat)(ha:Bd D V a):Bd D (V * n) (Vbirad.mul a (Vbirad.whole n)):=by
 obtain⟨m,hm⟩ :=ha.int;have e:=Og (b:=Vbirad.whole n) ha.red.pos (Aw n).pos;rw[By]at e;have h0:=Ay n;have l1:=Rat.mul_le_mul_of_nonneg_right ha.lo h0;have l2:=Rat.mul_le_mul_of_nonneg_right ha.hi h0;refine⟨Tu ha.red.pos (Aw n).pos,⟨m * n,?_⟩,?_,?_⟩
 ·rw[e];simp only [Rat.intCast_mul,Rat.intCast_natCast];grind
 ·rw[e];simp only [Rat.natCast_mul];grind
 ·rw[e];simp only [Rat.natCast_mul];grind
theorem Bd.overN{D V n:Nat}{a:Q}(hn:0 < n)(ha:Bd D V a):Bd (D * n) V (Vbirad.over a (Vbirad.whole n)):=by
 obtain⟨m,hm⟩ :=ha.int;have e:=Wf ha.red.pos hn;have h0:=Ez hn;have h1:(1:Rat)<=(n:Rat):=by
  have:((1:Nat):Rat)<=(n:Rat):=Rat.natCast_le_natCast.mpr hn;simpa using this
 have hV:=Ay V;have l3:=Rat.mul_le_mul_of_nonneg_left h1 hV;refine⟨cP ha.red.pos hn,⟨m,?_⟩,?_,?_⟩
 ·rw[e];simp only [Rat.natCast_mul];grind
 ·rw[e];have:=ha.lo;rw[<-Rat.not_lt,Rat.div_lt_iff h0,Rat.not_lt];grind
 ·rw[e];have:=ha.hi;rw[<-Rat.not_lt,Rat.lt_div_iff h0,Rat.not_lt];grind
theorem Bd.fold{D V:Nat}:∀(l:List Q) (a:Q) (W:Nat),Bd D W a->(∀q∈l,Bd D V q)->Bd D (W + V * l.length) (l.foldl Vbirad.add a)
 | [],a,W,h,_=>by simpa using h
 |q::l,a,W,h,k=>by
  have:=Bd.fold (D:=D) (V:=V) l (Vbirad.add a q) (W + V) (h.add (k q (by simp))) (fun x hx=>k x (by simp[hx]));rw[List.foldl_cons,List.length_cons];refine this.mono (Nat.dvd_refl _) ?_;rw[Nat.mul_add];omega
theorem Bd.sumQ{D V:Nat}{l:List Q}(h:∀q∈l,Bd D V q):Bd D (V * l.length) (sumQ l):=by
 have:=Bd.fold (D:=D) (V:=V) l (Vbirad.whole 0) 0 ((Bd.whole (n:=0) (V:=0) (by decide)).mono (Nat.one_dvd _) (Nat.le_refl _)) h
 rwa [Nat.zero_add]at this
theorem Bd.dvd{D V:Nat}{q:Q}(h:Bd D V q):q.d∣D:=by
 obtain⟨m,hm⟩ :=h.int;have h0:=B5 h.red.pos;have e:(q.n:Rat) * (D:Rat)=(m:Rat) * (q.d:Rat):=by
  unfold val at hm;grind
 have e2:((q.n * (D:Int):Int):Rat)=((m * (q.d:Int):Int):Rat):=by simpa [Rat.intCast_mul,Rat.intCast_natCast]using e
 have e3:=Rat.intCast_inj.mp e2;have d1:(q.d:Int)∣q.n * D:= ⟨m,by rw[e3];grind⟩;exact Int.natCast_dvd_natCast.mp (Wr h.red.co d1)
theorem Bd.nle{D V:Nat}{q:Q}(h:Bd D V q):q.n.natAbs<=V * q.d:=by
 have h0:=Ez h.red.pos;have h1:=h.lo;have h2:=h.hi;unfold val at h1 h2;have l1:(q.n:Rat)<=(V:Rat) * (q.d:Rat):=by
  rw[<-Rat.not_lt,Rat.lt_div_iff h0,Rat.not_lt]at h2;exact h2
 have l2: -((V:Rat) * (q.d:Rat))<=(q.n:Rat):=by
  rw[<-Rat.not_lt,Rat.div_lt_iff h0,Rat.not_lt]at h1;grind
 have l3:(q.n:Rat)<=((V * q.d:Nat):Rat):=by rw[Rat.natCast_mul];exact l1
 have l4:((-((V * q.d:Nat):Int):Int):Rat)<=(q.n:Rat):=by rw[Rat.intCast_neg,v9,Rat.natCast_mul];exact l2
 rw[<-v9]at l3;have l5:=Rat.intCast_le_intCast.mp l3;have l6:=Rat.intCast_le_intCast.mp l4;omega
theorem Bd.sz{D V k:Nat}{q:Q}(h:Bd D V q)(h0:0 < D)(hD:D<=2^k)(hV:V<=2^1000):Sz k q:=by
 have hd:=vA (Nat.le_of_dvd h0 h.dvd) hD;refine⟨h.red.pos,hd,vA h.nle ?_⟩;rw[Nat.pow_add,Nat.mul_comm];exact Nat.mul_le_mul hd hV
theorem Y5(a b:Int):Vbirad.add (Vbirad.whole a) (Vbirad.whole b)=Vbirad.whole (a + b):=by
 refine Of (K3 (Aw a).pos (Aw b).pos) (Aw _) ?_;rw[Oe (Aw a).pos (Aw b).pos,Cd,Cd,Cd,Rat.intCast_add]
theorem Ox:∀(l:List Int) (a:Int),(l.map Vbirad.whole).foldl Vbirad.add (Vbirad.whole a)=Vbirad.whole (a + l.sum)
 | [],a=>by simp
 |x::l,a=>by
  rw[vV,List.foldl_cons,Y5,Ox l,List.sum_cons,Int.add_assoc]
theorem R9(l:List Int):sumQ (l.map Vbirad.whole)=Vbirad.whole l.sum:=by
 unfold sumQ;rw[Ox,Int.zero_add]
theorem mul_comm(a b:Q):Vbirad.mul a b=Vbirad.mul b a:=by
 unfold Vbirad.mul;rw[Int.mul_comm,Nat.mul_comm]
def fillB(k:Q)(x:Q×Nat):Bool:=Vbirad.le x.1 (Vbirad.mul k (Vbirad.whole (x.2:Int)))
abbrev wsum(l:List (Q×Nat)):Nat:=(l.map fun x=>x.2).sum
def hiQ(l:List (Q×Nat)):Q:=(l.map fun x=>Vbirad.over x.1 (Vbirad.whole (x.2:Int))).foldl Vbirad.most (Vbirad.whole 0)
def comQ(e:Q)(l:List (Q×Nat)):Q:=Vbirad.over e (Vbirad.whole ((wsum l:Nat):Int))
def fillQ(k:Q)(l:List (Q×Nat)):List (Q×Nat):=l.filter fun x=>fillB k x == true
def restQ(k:Q)(l:List (Q×Nat)):List (Q×Nat):=l.filter fun x=>fillB k x == false
theorem Lv:∀(l:List Nat) (a:Nat),l.foldl (fun(a b:Nat)=>a + b) a=a + l.sum
 | [],a=>by simp
 |x::l,a=>by rw[List.foldl_cons,Lv l,List.sum_cons];omega
theorem O5{f:Nat}{l:List (Q×Nat)}{e:Q}(hw:0 < wsum l):
  levelFrom (f + 1) l e=if fillQ (comQ e l) l= []then comQ e l else if (fillQ (comQ e l) l).length=l.length then hiQ l
   else levelFrom f (restQ (comQ e l) l) (Vbirad.sub e (sumQ ((fillQ (comQ e l) l).map fun x=>x.1))):=by
 have e1:(l.map fun x=>x.2).foldl (fun(a b:Nat)=>a + b) 0=wsum l:=by rw[Lv];simp[wsum]
 have e2:∀k:Q,(l.filter fun x=>Vbirad.le x.1 (Vbirad.mul k (Vbirad.whole (x.2:Int))))=fillQ k l:=fun k=>by
  unfold fillQ fillB;congr 1;funext x;simp
 have e3:∀k:Q,(l.filter fun x=>!Vbirad.le x.1 (Vbirad.mul k (Vbirad.whole (x.2:Int))))=restQ k l:=fun k=>by
  unfold restQ fillB;congr 1;funext x;cases Vbirad.le x.1 (Vbirad.mul k (Vbirad.whole (x.2:Int)))<;>rfl
 show(let w:=(l.map fun x=>x.2).foldl (fun(a b:Nat)=>a + b) 0
  if w=0 then Vbirad.whole 0 else
  let k:=Vbirad.over e (Vbirad.whole (w:Int))
  let full:=l.filter fun x=>Vbirad.le x.1 (Vbirad.mul k (Vbirad.whole (x.2:Int)))
  if full.isEmpty=true then k else if full.length=l.length then(l.map fun x=>Vbirad.over x.1 (Vbirad.whole (x.2:Int))).foldl Vbirad.most (Vbirad.whole 0)else levelFrom f (l.filter fun x=>!Vbirad.le x.1 (Vbirad.mul k (Vbirad.whole (x.2:Int)))) (Vbirad.sub e (sumQ (full.map fun x=>x.1))))=_
 dsimp only;rw[e1,if_neg (by omega),e2,e3];unfold comQ hiQ;simp only [List.isEmpty_iff]
theorem Vv{k:Q}{l:List (Q×Nat)}(h:fillQ k l≠[]):(restQ k l).length < l.length:=by
 have h1:∃x∈l,fillB k x=true:=by
  obtain⟨x,hx⟩ :=List.exists_mem_of_ne_nil _ h;obtain⟨a,b⟩ :=List.mem_filter.mp hx;exact⟨x,a,by simpa using b⟩
 obtain⟨x,hx,hb⟩ :=h1;unfold restQ;refine Nat.lt_of_le_of_ne (List.length_filter_le _ _) fun e=>?_;have:=List.length_filter_eq_length_iff.mp e x hx;rw[hb]at this;simp at this
theorem fL{k:Q}{l:List (Q×Nat)}(h:(fillQ k l).length≠l.length):restQ k l≠[]:=by
 intro e;apply h;unfold fillQ;refine List.length_filter_eq_length_iff.mpr fun x hx=>?_;unfold restQ at e;have:=List.filter_eq_nil_iff.mp e x hx;cases hb:fillB k x with
 |true=>rfl
 |false=>rw[hb]at this;simp at this
abbrev cQ(cs:List Nat):List Q:=cs.map fun(c:Nat)=>Vbirad.whole (c:Int)
theorem El:∀cs:List Nat,(cs.map (fun(n:Nat)=>(n:Int))).sum=((cs.sum:Nat):Int)
 | []=>rfl
 |c::cs=>by rw[vV,List.sum_cons,List.sum_cons,El cs];omega
theorem I0(cs:List Nat):sumQ (cQ cs)=Vbirad.whole (cs.sum:Nat):=by
 have:cQ cs=(cs.map fun(n:Nat)=>(n:Int)).map Vbirad.whole:=by simp[cQ,List.map_map]
 rw[this,R9,El]
theorem R7(l:List Q)(q:Q):sumQ (l++[q])=Vbirad.add (sumQ l) q:=by
 unfold sumQ;rw[List.foldl_append];rfl
theorem Lk:∀(l:List Q) (a:Q),0 < a.d->(∀q∈l,0 < q.d)->val (l.foldl Vbirad.add a)=val a + (l.map val).sum/\0 < (l.foldl Vbirad.add a).d
 | [],a,h,_=>by simp[h];grind
 |q::l,a,h,k=>by
  have hq:=k q (by simp);obtain⟨e1,e2⟩ :=Lk l (Vbirad.add a q) (K3 h hq).pos (fun x hx=>k x (by simp[hx]));rw[List.foldl_cons,List.map_cons,List.sum_cons];refine⟨?_,e2⟩;rw[e1,Oe h hq];grind
theorem Wg{l:List Q}(h:∀q∈l,0 < q.d):val (sumQ l)=(l.map val).sum:=by
 unfold sumQ;rw[(Lk l _ (by decide) h).1,Cd];simp;grind
def limQ(r:Nat)(cs:List Nat):List Q:=if r=3 then cs.map (fun(c:Nat)=>Vbirad.mk (c:Int) 2)else cQ cs
def kindQ(r:Nat)(e:Q)(cs:List Nat):Nat:=if r=1 then 0 else if r=3/\Vbirad.le (Vbirad.mul e (Vbirad.whole 2)) (Vbirad.whole ((cs.sum:Nat):Int))=true then 0 else 1
def sprQ(r:Nat)(e:Q)(cs:List Nat):Q:=if kindQ r e cs=1 then Vbirad.sub (Vbirad.whole ((cs.sum:Nat):Int)) e else e
def lvlQ(r:Nat)(e:Q)(cs ws:List Nat):Q:=Vbirad.level (limQ r cs) ws (sprQ r e cs)
def gotQ(r:Nat)(e:Q)(cs ws:List Nat):List Q:=((limQ r cs).zip ws).map fun x=>Vbirad.least x.1 (Vbirad.mul (lvlQ r e cs ws) (Vbirad.whole (x.2:Int)))
def byLevQ(r:Nat)(e:Q)(cs ws:List Nat):List Q:=if kindQ r e cs=0 then gotQ r e cs ws else(cs.zip (gotQ r e cs ws)).map fun x=>Vbirad.sub (Vbirad.whole (x.1:Int)) x.2
theorem Yl(cs:List Nat):(cQ cs).map (fun x=>Vbirad.over x (Vbirad.whole 2))=limQ 3 cs:=by
 unfold limQ;rw[if_pos rfl,cQ,List.map_map];refine List.map_congr_left fun c _=>?_;show Vbirad.over (Vbirad.whole (c:Int)) (Vbirad.whole ((2:Nat):Int))=_;rw[Kw (by decide)];rfl
theorem F6:∀cs:List Nat,((cs.map (fun(c:Nat)=>Vbirad.mk (c:Int) 2)).map val).sum=((cs.sum:Nat):Rat) / 2
 | []=>by simp;grind
 |c::cs=>by
  rw[List.map_cons,List.map_cons,List.sum_cons,F6 cs,List.sum_cons,Ke _ (by decide)];simp only [Rat.natCast_add,Rat.intCast_natCast];grind
theorem eT{r:Nat}{cs:List Nat}:∀q∈limQ r cs,Red q:=by
 intro q hq;unfold limQ at hq;split at hq
 ·obtain⟨c,_,rfl⟩ :=vL hq;exact Fs _ (by decide)
 ·obtain⟨c,_,rfl⟩ :=vL hq;exact Aw _
theorem Uo{e:Q}(cs:List Nat)(he:0 < e.d):Vbirad.le e (sumQ (limQ 3 cs))=Vbirad.le (Vbirad.mul e (Vbirad.whole 2)) (Vbirad.whole ((cs.sum:Nat):Int)):=by
 have hp:∀q∈limQ 3 cs,0 < q.d:=fun q hq=>(eT q hq).pos;have hs:0 < (sumQ (limQ 3 cs)).d:=(Lk _ _ (by decide) hp).2;have hm:=Tu (b:=Vbirad.whole 2) he (by decide);have e1:=Fr he hs;have e2:=Fr (b:=Vbirad.whole ((cs.sum:Nat):Int)) hm.pos (Aw _).pos;rw[Wg hp]at e1;have e3:((limQ 3 cs).map val).sum=((cs.sum:Nat):Rat) / 2:=F6 cs;rw[e3]at e1;rw[Og he (by decide),Cd,By]at e2;have e4:(val e<=((cs.sum:Nat):Rat) / 2)↔val e * ((2:Int):Rat)<=((cs.sum:Nat):Rat):=by
  constructor
  ·intro h;have:((2:Int):Rat)=2:=rfl;grind
  ·intro h;have:((2:Int):Rat)=2:=rfl;grind
 rw[Bool.eq_iff_iff,e1,e2,e4]
theorem Uy(cs:List Nat)(l:List Q):Vbirad.minus (cQ cs) l=(cs.zip l).map fun x=>Vbirad.sub (Vbirad.whole (x.1:Int)) x.2:=by
 unfold Vbirad.minus cQ;rw[List.zip_map_left,List.map_map];rfl
theorem Oj(e:Q)(cs ws:List Nat):byLevQ 1 e cs ws=evenly (cQ cs) ws e:=by
 unfold byLevQ gotQ lvlQ sprQ kindQ limQ evenly;simp
theorem Kk(e:Q)(cs ws:List Nat):byLevQ 2 e cs ws=losses (cQ cs) ws e:=by
 unfold losses;rw[Uy,I0];unfold byLevQ gotQ lvlQ sprQ kindQ limQ evenly;simp
theorem Kj{e:Q}(cs ws:List Nat)(he:0 < e.d):byLevQ 3 e cs ws=halves (cQ cs) ws e:=by
 unfold halves;dsimp only;rw[Uy,Yl,Uo cs he,I0];unfold byLevQ gotQ lvlQ sprQ kindQ evenly;cases hb:Vbirad.le (Vbirad.mul e (Vbirad.whole 2)) (Vbirad.whole ((cs.sum:Nat):Int))with
 |true=>simp
 |false=>simp
def ssum(F:Nat->Nat->Rat):List Nat->Rat
 | []=>F 0 0
 |x::l=>ssum F l + ssum (fun a b=>F (a + 1) (b + x)) l
theorem Kd:∀(l:List Nat) (F G:Nat->Nat->Rat),(∀a b,a<=l.length->b<=l.sum->F a b=G a b)->ssum F l=ssum G l
 | [],F,G,h=>h 0 0 (Nat.le_refl _) (vW _)
 |x::l,F,G,h=>by
  show ssum F l + ssum (fun a b=>F (a + 1) (b + x)) l=ssum G l + ssum (fun a b=>G (a + 1) (b + x)) l;rw[Kd l F G fun a b h1 h2=>h a b (by simp;omega) (by simp;omega),Kd l _ (fun a b=>G (a + 1) (b + x)) fun a b h1 h2=>h (a + 1) (b + x) (by simp;omega) (by simp;omega)]
def setsQ(l:List Nat)(S:List (Nat×Nat)):List (Nat×Nat):=l.foldl (fun S x=>S++S.map fun p=>(p.1 + 1,p.2 + x)) S
theorem Y1(a b:List Rat):(a++b).sum=a.sum + b.sum:=by
 induction a with
 |nil=>simp;grind
 |cons x a ih=>rw[List.cons_append,List.sum_cons,List.sum_cons,ih];grind
theorem Na{α:Type}(f g:α->Rat):∀l:List α,(l.map f).sum + (l.map g).sum=(l.map fun x=>f x + g x).sum
 | []=>by simp;grind
 |x::l=>by rw[vV,vV,vV,List.sum_cons,List.sum_cons,List.sum_cons,<-Na f g l];grind
theorem V3(F:Nat->Nat->Rat):∀(l:List Nat) (S:List (Nat×Nat)),((setsQ l S).map fun p=>F p.1 p.2).sum=(S.map fun p=>ssum (fun a b=>F (a + p.1) (b + p.2)) l).sum
 | [],S=>by
  show(S.map fun p=>F p.1 p.2).sum=_;refine congrArg List.sum (vY fun p _=>?_);show F p.1 p.2=F (0 + p.1) (0 + p.2);rw[Nat.zero_add,Nat.zero_add]
 |x::l,S=>by
  show((setsQ l (S++S.map fun p=>(p.1 + 1,p.2 + x))).map fun p=>F p.1 p.2).sum=_;rw[V3 F l,List.map_append,Y1,vX,Na];refine congrArg List.sum (vY fun p _=>?_);show ssum (fun a b=>F (a + p.1) (b + p.2)) l + ssum (fun a b=>F (a + (p.1 + 1)) (b + (p.2 + x))) l=ssum (fun a b=>F (a + p.1) (b + p.2)) l + ssum (fun a b=>F (a + 1 + p.1) (b + x + p.2)) l;congr 2;funext a b;congr 1<;>omega
theorem Qa(c:Nat->Nat)(F:Nat->Nat->Rat):∀(l:List Nat),((subsets l).map fun s=>F s.length ((s.map c).sum)).sum=ssum F (l.map c)
 | []=>by show F 0 0 + 0=F 0 0;grind
 |x::l=>by
  show((subsets l++(subsets l).map fun s=>x::s).map fun s=>F s.length ((s.map c).sum)).sum=_;rw[List.map_append,Y1,Qa c F l,vX,vV];show _=ssum F (l.map c) + ssum (fun a b=>F (a + 1) (b + c x)) (l.map c);rw[<-Qa c (fun a b=>F (a + 1) (b + c x)) l];congr 2;refine vY fun s _=>?_;show F ((x::s).length) (((x::s).map c).sum)=F (s.length + 1) ((s.map c).sum + c x);rw[vV,List.sum_cons,vK,Nat.add_comm (c x)]
theorem Vt:∀(l:List Q) (a:Q),Red a->(∀q∈l,0 < q.d)->Red (l.foldl Vbirad.add a)
 | [],a,h,_=>h
 |q::l,a,h,k=>Vt l _ (K3 h.pos (k q (by simp))) fun x hx=>k x (by simp[hx])
theorem cR{l:List Q}(h:∀q∈l,0 < q.d):Red (sumQ l):=Vt l _ (Aw 0) h
theorem Eg:∀n,0 < fact n
 |0=>by decide
 |n + 1=>by show 0 < (n + 1) * fact n;exact Nat.mul_pos (by omega) (Eg n)
def takR(e:Rat)(c b:Nat):Rat:=if e - (b:Rat)<=0 then 0 else if (c:Rat)<=e - (b:Rat)then(c:Rat)else e - (b:Rat)
theorem dP{e:Q}{c b:Nat}(he:0 < e.d):val (Vbirad.most (Vbirad.whole 0) (Vbirad.least (Vbirad.whole (c:Int)) (Vbirad.sub e (Vbirad.whole (b:Int)))))=takR (val e) c b:=by
 have h1:0 < (Vbirad.sub e (Vbirad.whole (b:Int))).d:=(Ea he (Aw _).pos).pos;have e1:=Jn (b:=Vbirad.whole (b:Int)) he (Aw _).pos;rw[By]at e1;have hc:=Ay c;have e0:val (Vbirad.whole 0)=0:=by rw[Cd];rfl
 have l1:=Fr (a:=Vbirad.whole (c:Int)) (b:=Vbirad.sub e (Vbirad.whole (b:Int))) (Aw _).pos h1;rw[By,e1]at l1;unfold Vbirad.least;unfold takR;by_cases hl:(c:Rat)<=val e - (b:Rat)
 ·rw[if_pos (l1.mpr hl)];have l2:=Fr (a:=Vbirad.whole 0) (b:=Vbirad.whole (c:Int)) (Aw _).pos (Aw _).pos;rw[e0,By]at l2;unfold Vbirad.most;rw[if_pos (l2.mpr hc),By];by_cases h0:val e - (b:Rat)<=0
  ·rw[if_pos h0];grind
  ·rw[if_neg h0,if_pos hl]
 ·rw[if_neg (fun z=>hl (l1.mp z))];have l2:=Fr (a:=Vbirad.whole 0) (b:=Vbirad.sub e (Vbirad.whole (b:Int))) (Aw _).pos h1;rw[e0,e1]at l2;unfold Vbirad.most;by_cases h0:0<=val e - (b:Rat)
  ·rw[if_pos (l2.mpr h0),e1];by_cases h2:val e - (b:Rat)<=0
   ·rw[if_pos h2];grind
   ·rw[if_neg h2,if_neg hl]
  ·rw[if_neg (fun z=>h0 (l2.mp z)),e0,if_pos (by grind)]
def takI(p q:Int)(c b:Nat):Int:=let left:=if p - (b:Int) * q > 0 then p - (b:Int) * q else 0
 if left < (c:Int) * q then left else(c:Int) * q
theorem dF{e:Q}{c b:Nat}(he:0 < e.d):((takI e.n e.d c b:Int):Rat)=takR (val e) c b * (e.d:Rat):=by
 have hd:=Ez he;have hd':=B5 he;have ev:val e * (e.d:Rat)=(e.n:Rat):=by unfold val;grind
 have hc:=Ay c;have hcd:(0:Rat)<=(c:Rat) * (e.d:Rat):=Rat.mul_nonneg hc (by grind);have e1:((e.n - (b:Int) * (e.d:Int):Int):Rat)=(val e - (b:Rat)) * (e.d:Rat):=by
  simp only [Rat.intCast_sub,Rat.intCast_mul,Rat.intCast_natCast];grind
 have e2:(((c:Int) * (e.d:Int):Int):Rat)=(c:Rat) * (e.d:Rat):=by simp only [Rat.intCast_mul,Rat.intCast_natCast]
 have k1:(e.n - (b:Int) * (e.d:Int) > 0)↔0 < val e - (b:Rat):=by
  have:((0:Int) < e.n - (b:Int) * (e.d:Int))↔(((0:Int):Rat) < ((e.n - (b:Int) * (e.d:Int):Int):Rat)):=Rat.intCast_lt_intCast.symm;show(0:Int) < _↔_;rw[this,e1];have z:((0:Int):Rat)=0 * (e.d:Rat):=by simp
  rw[z];exact Rat.mul_lt_mul_right hd
 unfold takI takR;dsimp only;by_cases h0:0 < val e - (b:Rat)
 ·rw[if_pos (k1.mpr h0),if_neg (show¬(val e - (b:Rat)<=0)by grind)];have k2:(e.n - (b:Int) * (e.d:Int) < (c:Int) * (e.d:Int))↔val e - (b:Rat) < (c:Rat):=by
   rw[<-Rat.intCast_lt_intCast,e1,e2];exact Rat.mul_lt_mul_right hd
  by_cases h1:val e - (b:Rat) < (c:Rat)
  ·rw[if_pos (k2.mpr h1),e1,if_neg (show¬((c:Rat)<=val e - (b:Rat))by grind)]
  ·rw[if_neg (fun z=>h1 (k2.mp z)),e2,if_pos (show(c:Rat)<=val e - (b:Rat)by grind)]
 ·rw[if_neg (fun z=>h0 (k1.mp z)),if_pos (show val e - (b:Rat)<=0 by grind)];by_cases h1:(0:Int) < (c:Int) * (e.d:Int)
  ·rw[if_pos h1];simp
  ·have:(c:Int) * (e.d:Int)=0:=by
    have:(0:Int)<=(c:Int) * (e.d:Int):=Int.mul_nonneg (by omega) (by omega);omega
   rw[if_neg h1,this];simp
def meanI(e:Q)(c:Nat)(os:List Nat):Int:=((setsQ os [(0,0)]).map fun p=>((fact p.1 * fact (os.length - p.1):Nat):Int) * takI e.n e.d c p.2).sum
def meanQ(e:Q)(c:Nat)(os:List Nat):Q:=Vbirad.mk (meanI e c os) (e.d * fact (os.length + 1))
theorem M9:∀l:List Int,((l.sum:Int):Rat)=(l.map fun(i:Int)=>(i:Rat)).sum
 | []=>rfl
 |x::l=>by rw[List.sum_cons,vV,List.sum_cons,Rat.intCast_add,M9 l]
theorem Yv(a:Rat):∀l:List Rat,(l.map fun x=>x * a).sum=l.sum * a
 | []=>by simp
 |x::l=>by rw[vV,List.sum_cons,List.sum_cons,Yv a l];grind
theorem We{e:Q}(he:0 < e.d)(c:Nat)(os:List Nat):val (meanQ e c os)=ssum (fun a b=>((fact a * fact (os.length - a):Nat):Rat) / ((fact (os.length + 1):Nat):Rat) * takR (val e) c b) os:=by
 have hf:=Eg (os.length + 1);have hd:=B5 he;have hf':=B5 hf;unfold meanQ;rw[Ke _ (Nat.mul_pos he hf)];unfold meanI;rw[M9,List.map_map];have e1:((setsQ os [(0,0)]).map ((fun(i:Int)=>(i:Rat)) ∘ fun p=>((fact p.1 * fact (os.length - p.1):Nat):Int) * takI e.n e.d c p.2))
   =((setsQ os [(0,0)]).map fun p=>((fact p.1 * fact (os.length - p.1):Nat):Rat) / ((fact (os.length + 1):Nat):Rat) * takR (val e) c p.2).map fun x=>x * ((e.d:Rat) * ((fact (os.length + 1):Nat):Rat)):=by
  rw[vX];refine vY fun p _=>?_;show(((((fact p.1 * fact (os.length - p.1):Nat):Int) * takI e.n e.d c p.2:Int)):Rat)=_;rw[Rat.intCast_mul,dF he,v9];show _=((fact p.1 * fact (os.length - p.1):Nat):Rat) / ((fact (os.length + 1):Nat):Rat) * takR (val e) c p.2 * ((e.d:Rat) * ((fact (os.length + 1):Nat):Rat));grind
 have e2:=V3 (fun a b=>((fact a * fact (os.length - a):Nat):Rat) / ((fact (os.length + 1):Nat):Rat) * takR (val e) c b) os [(0,0)];rw[e1,Yv,e2];simp only [List.map_cons,List.map_nil,List.sum_cons,List.sum_nil,Nat.add_zero,Rat.natCast_mul (e.d)];generalize ssum (fun a b=>((fact a * fact (os.length - a):Nat):Rat) / ((fact (os.length + 1):Nat):Rat) * takR (val e) c b) os=z;grind
theorem N7(cs:List Nat)(i:Nat):(cQ cs).getD i (Vbirad.whole 0)=Vbirad.whole ((cs.getD i 0:Nat):Int):=by
 unfold cQ;rw[List.getD_eq_getElem?_getD,List.getD_eq_getElem?_getD,List.getElem?_map];cases cs[i]?<;>rfl
theorem Tr(cs:List Nat)(s:List Nat):Vbirad.pick (cQ cs) s=Vbirad.whole (((s.map fun j=>cs.getD j 0).sum:Nat):Int):=by
 unfold Vbirad.pick;have:(s.map fun i=>(cQ cs).getD i (Vbirad.whole 0))=cQ (s.map fun j=>cs.getD j 0):=by
  unfold cQ;rw[List.map_map];exact List.map_congr_left fun j _=>N7 cs j
 rw[this,I0]
theorem Rt(cs:List Nat){i:Nat}(hi:i < cs.length):(((List.range cs.length).filter fun j=>j !=i).map fun j=>cs.getD j 0)=cs.take i++cs.drop (i + 1):=by
 have e1:List.range cs.length=List.range i++(i::(List.range (cs.length - i - 1)).map fun k=>i + 1 + k):=by
  refine List.ext_getElem (by simp;omega) fun k h1 h2=>?_;simp only [List.length_range]at h1;rw[List.getElem_range];by_cases hk:k < i
  ·rw[List.getElem_append_left (by simpa using hk)];simp
  ·rw[List.getElem_append_right (by simpa using hk)];simp only [List.length_range];by_cases hk2:k=i
   ·subst hk2;simp
   ·rw[List.getElem_cons];rw[dif_neg (by omega)];simp;omega
 rw[e1,List.filter_append,List.filter_cons,if_neg (by simp),List.map_append];have f1:(List.range i).filter (fun j=>j !=i)=List.range i:=by
  rw[List.filter_eq_self];intro a ha;have:=List.mem_range.mp ha;simp;omega
 have f2:((List.range (cs.length - i - 1)).map fun k=>i + 1 + k).filter (fun j=>j !=i)=(List.range (cs.length - i - 1)).map fun k=>i + 1 + k:=by
  rw[List.filter_eq_self];intro a ha;obtain⟨k,_,rfl⟩ :=List.mem_map.mp ha;simp;omega
 rw[f1,f2];congr 1
 ·refine List.ext_getElem (by simp;omega) fun k h1 h2=>?_;simp at h1 h2;have:k < cs.length:=by omega
  simp[this]
 ·refine List.ext_getElem (by simp;omega) fun k h1 h2=>?_;simp at h1 h2;simp;have:i + 1 + k < cs.length:=by omega
  simp[this]
theorem T6:∀(l:List Nat) (s:List Nat),s∈subsets l->s.length<=l.length
 | [],s,h=>by
  have:s= []:=by simpa [subsets]using h
  subst this;exact Nat.le_refl _
 |x::l,s,h=>by
  rcases v7 (show s∈subsets l++(subsets l).map fun s=>x::s from h)with h|h
  ·have:=T6 l s h;rw[vK];omega
  ·obtain⟨t,ht,rfl⟩ :=vL h;have:=T6 l t ht;rw[vK,vK];omega
theorem Rk{e:Q}(he:0 < e.d)(cs:List Nat):byChance (cQ cs) e=(List.range cs.length).map fun i=>meanQ e (cs.getD i 0) (cs.take i++cs.drop (i + 1)):=by
 unfold byChance;have el:(cQ cs).length=cs.length:=by simp[cQ]
 rw[el];dsimp only;refine List.map_congr_left fun i hi=>?_;have hi:=List.mem_range.mp hi;have hol:(((List.range cs.length).filter fun j=>j !=i)).length=cs.length - 1:=by
  have:=congrArg List.length (Rt cs hi);rw[vB,vI,vU,vZ]at this;omega
 have hos:(cs.take i++cs.drop (i + 1)).length=cs.length - 1:=by
  rw[vI,vU,vZ];omega
 have tp:∀q∈((subsets ((List.range cs.length).filter fun j=>j !=i)).map fun s=>Vbirad.mul (Vbirad.mk ((fact s.length * fact (cs.length - s.length - 1):Nat):Int) (fact cs.length)) (Vbirad.most (Vbirad.whole 0) (Vbirad.least ((cQ cs).getD i (Vbirad.whole 0)) (Vbirad.sub e (Vbirad.pick (cQ cs) s))))),0 < q.d:=by
  intro q hq;obtain⟨s,_,rfl⟩ :=vL hq;refine(Tu (Fs _ (Eg _)).pos ?_).pos;rw[N7,Tr];exact(Vu (Aw _) (Rz (Aw _) (Ea he (Aw _).pos))).pos
 refine Of ⟨(Lk _ _ (by decide) tp).2,?_⟩ (Fs _ (Nat.mul_pos he (Eg _))) ?_
 ·exact(cR tp).co
 ·rw[Wg tp,We he,vX];rw[<-Rt cs hi,<-Qa];refine congrArg List.sum (vY fun s hs=>?_);have hsl:=T6 _ _ hs;rw[hol]at hsl;show val (Vbirad.mul _ _)=_;rw[Og (Fs _ (Eg _)).pos (by rw[N7,Tr];exact(Vu (Aw _) (Rz (Aw _) (Ea he (Aw _).pos))).pos),N7,Tr,dP he,Ke _ (Eg _),vB,hol];have e3:cs.length - s.length - 1=cs.length - 1 - s.length:=by omega
  have e4:cs.length - 1 + 1=cs.length:=by omega
  rw[e3,e4,v9]
def mem(p:Party):List Nat:=match p.kind with
 |.group _ ms=>ms
 |.person _=>[]
def own(p:Party):Nat:=match p.kind with
 |.person c=>c
 |.group _ _=>0
def rul(p:Party):Nat:=match p.kind with
 |.group r _=>r
 |.person _=>0
structure PWf(ps:List Party):Prop where
 len:ps.length<=30
 wt:∀p∈ps,1<=p.weight/\p.weight<=100
 person:∀p∈ps,own p<=1000000
 rule:∀p∈ps,rul p<=5
 some_:∀p∈ps,∀r ms,p.kind=.group r ms->ms≠[]
 few:∀p∈ps,(mem p).length<=8
 nd:∀p∈ps,(mem p).Nodup
 low:∀(i:Nat) p,ps[i]? =some p->∀m∈mem p,m < i
 once:∀(i j:Nat) p q,ps[i]? =some p->ps[j]? =some q->∀m,m∈mem p->m∈mem q->i=j
 nml:∀p∈ps,p.name.length<=8
theorem Zg:∀(l:List Nat) (a:Nat),l.foldl (fun a b=>a + b) a=a + l.sum:=Lv
theorem Sj{ps:List Party}(h:PWf ps):∀(i f g:Nat),i < f->i < g->claimOf ps f i=claimOf ps g i:=by
 intro i
 induction i using Nat.strongRecOn with
 |_ i ih=>
  intro f g hf hg;obtain⟨f,rfl⟩ :∃n,f=n + 1:= ⟨f - 1,by omega⟩;obtain⟨g,rfl⟩ :∃n,g=n + 1:= ⟨g - 1,by omega⟩;show(match ps[i]? with
   |none=>0
   |some p=>match p.kind with
    |.person c=>c
    |.group _ l=>(l.map (claimOf ps f)).foldl (fun a b=>a + b) 0)=(match ps[i]? with
   |none=>0
   |some p=>match p.kind with
    |.person c=>c
    |.group _ l=>(l.map (claimOf ps g)).foldl (fun a b=>a + b) 0)
  cases hp:ps[i]? with
  |none=>rfl
  |some p=>
   dsimp only;cases hk:p.kind with
   |person c=>rfl
   |group r ms=>
    dsimp only;have hm:∀m∈ms,m < i:=fun m hm=>h.low i p hp m (by unfold mem;rw[hk];exact hm);have:ms.map (claimOf ps f)=ms.map (claimOf ps g):=List.map_congr_left fun m hmm=>ih m (hm m hmm) f g (by have:=hm m hmm;omega) (by have:=hm m hmm;omega);rw[this]
theorem Dh{ps:List Party}(h:PWf ps){i:Nat}{p:Party}(hp:ps[i]? =some p):Vbirad.claim ps i=own p + ((mem p).map (Vbirad.claim ps)).sum:=by
 have hi:i < ps.length:=(List.getElem?_eq_some_iff.mp hp).1;unfold Vbirad.claim;show(match ps[i]? with
   |none=>0
   |some p=>match p.kind with
    |.person c=>c
    |.group _ l=>(l.map (claimOf ps ps.length)).foldl (fun a b=>a + b) 0)=_
 rw[hp];unfold own mem;dsimp only;cases hk:p.kind with
 |person c=>simp
 |group r ms=>
  dsimp only;rw[Zg,Nat.zero_add,Nat.zero_add];refine congrArg List.sum (List.map_congr_left fun m hm=>?_);have:=h.low i p hp m (by unfold mem;rw[hk];exact hm);exact Sj h m _ _ (by omega) (by omega)
theorem Lq{ps:List Party}{i:Nat}(hi:ps[i]? =none):Vbirad.claim ps i=0:=by
 unfold Vbirad.claim;show(match ps[i]? with
   |none=>0
   |some p=>match p.kind with
    |.person c=>c
    |.group _ l=>(l.map (claimOf ps ps.length)).foldl (fun a b=>a + b) 0)=_
 rw[hi]
def inK(ps:List Party)(k j:Nat):Bool:=(ps.take k).any fun p=>(mem p).contains j
theorem Sw{ps:List Party}{k j:Nat}:inK ps k j=true↔∃(i:Nat) (p:Party),i < k/\ps[i]? =some p/\j∈mem p:=by
 unfold inK;rw[List.any_eq_true];constructor
 ·rintro ⟨p,hp,hj⟩;obtain⟨i,hi⟩ :=List.mem_iff_getElem?.mp hp;rw[List.getElem?_take]at hi;split at hi
  ·exact⟨i,p,by assumption,hi,by simpa using hj⟩
  ·cases hi
 ·rintro ⟨i,p,h1,h2,h3⟩;refine⟨p,List.mem_of_getElem? (i:=i) ?_,by simpa using h3⟩;rw[List.getElem?_take,if_pos h1];exact h2
def freeK(ps:List Party)(k:Nat):List Nat:=(List.range k).filter fun j=>!inK ps k j
def ownS(ps:List Party)(k:Nat):Nat:=((ps.take k).map own).sum
theorem Qb(f:Nat->Nat)(p:Nat->Bool):∀l:List Nat,((l.filter p).map f).sum + ((l.filter fun x=>!p x).map f).sum=(l.map f).sum
 | []=>rfl
 |x::l=>by
  have ih:=Qb f p l;cases hp:p x with
  |true=>simp[List.filter_cons,hp];omega
  |false=>simp[List.filter_cons,hp];omega
theorem dB{a b:List Nat}(h:a.Perm b):a.sum=b.sum:=by
 induction h with
 |nil=>rfl
 |cons x _ ih=>simp[ih]
 |swap x y l=>simp;omega
 |trans _ _ ih1 ih2=>exact ih1.trans ih2
theorem Ul{ps:List Party}(h:PWf ps):∀k,k<=ps.length->((freeK ps k).map (Vbirad.claim ps)).sum=ownS ps k
 |0,_=>rfl
 |k + 1,hk=>by
  have ih:=Ul h k (by omega);obtain⟨p,hp⟩ :∃p,ps[k]? =some p:= ⟨_,vC (by omega)⟩;have hlow:=h.low k p hp;have hpm:p∈ps:=vD hp;have inS:∀j,inK ps (k + 1) j=(inK ps k j || (mem p).contains j):=fun j=>by
   unfold inK;rw[List.take_succ,hp];simp[List.any_append]
  have e1:freeK ps (k + 1)=((freeK ps k).filter fun j=>!(mem p).contains j)++[k]:=by
   unfold freeK;rw[List.range_succ,List.filter_append,List.filter_filter];congr 1
   ·refine List.filter_congr fun j hj=>?_;rw[inS];cases inK ps k j<;>cases (mem p).contains j<;>rfl
   ·have:inK ps (k + 1) k=false:=by
     cases hq:inK ps (k + 1) k with
     |false=>rfl
     |true=>
      obtain⟨i,q,h1,h2,h3⟩ :=Sw.mp hq;have:=h.low i q h2 k h3;omega
    simp[this]
  have e2:((freeK ps k).filter fun j=>(mem p).contains j).Perm (mem p):=by
   refine(List.perm_ext_iff_of_nodup ?_ (h.nd p hpm)).mpr fun j=>?_
   ·exact(List.nodup_range.filter _).filter _
   ·constructor
    ·intro hj;simpa using (List.mem_filter.mp hj).2
    ·intro hj;refine List.mem_filter.mpr ⟨List.mem_filter.mpr ⟨List.mem_range.mpr (hlow j hj),?_⟩,by simpa using hj⟩;cases hq:inK ps k j with
     |false=>rfl
     |true=>
      obtain⟨i,q,h1,h2,h3⟩ :=Sw.mp hq;have:=h.once i k q p h2 hp j h3 hj;omega
  have e3:=Qb (Vbirad.claim ps) (fun j=>(mem p).contains j) (freeK ps k);have e4:=dB (e2.map (Vbirad.claim ps));have e5:ownS ps (k + 1)=ownS ps k + own p:=by
   unfold ownS;rw[List.take_succ,hp];simp
  rw[e1,List.map_append,List.sum_append,e5];show _ + (Vbirad.claim ps k + 0)=_;rw[Dh h hp,<-ih];omega
theorem O7{l:List Nat}{x:Nat}(h:x∈l):x<=l.sum:=by
 induction l with
 |nil=>cases h
 |cons a l ih=>
  rw[List.sum_cons];rcases vJ h with rfl|h
  ·omega
  ·have:=ih h;omega
theorem fD{ps:List Party}(h:PWf ps)(k:Nat):ownS ps k<=30000000:=by
 have:∀l:List Party,(∀p∈l,own p<=1000000)->(l.map own).sum<=l.length * 1000000:=by
  intro l
  induction l with
  |nil=>intro _;simp
  |cons p l ih=>
   intro hl;have:=ih fun q hq=>hl q (by simp[hq]);have:=hl p (by simp);rw[List.map_cons,List.sum_cons,List.length_cons,Nat.add_mul];omega
 have h1:=this (ps.take k) fun p hp=>h.person p (List.mem_of_mem_take hp);have h2:=h.len;unfold ownS;have h3:(ps.take k).length<=30:=by rw[List.length_take];omega
 have:(ps.take k).length * 1000000<=30 * 1000000:=Nat.mul_le_mul_right _ h3;omega
theorem Ee{ps:List Party}(h:PWf ps)(i:Nat):Vbirad.claim ps i<=30000000:=by
 cases hp:ps[i]? with
 |none=>rw[Lq hp];omega
 |some p=>
  have hi:i < ps.length:=(vF hp).1;have hf:i∈freeK ps (i + 1):=by
   refine List.mem_filter.mpr ⟨List.mem_range.mpr (by omega),?_⟩;cases hq:inK ps (i + 1) i with
   |false=>rfl
   |true=>
    obtain⟨j,q,h1,h2,h3⟩ :=Sw.mp hq;have:=h.low j q h2 i h3;omega
  have:=O7 (List.mem_map.mpr ⟨i,hf,rfl⟩ :Vbirad.claim ps i∈(freeK ps (i + 1)).map (Vbirad.claim ps));rw[Ul h (i + 1) (by omega)]at this;have:=fD h (i + 1);omega
structure ShB(k:Nat)(q:Q):Prop where
 ex:∃D V,Bd D V q/\0 < D/\D<=2^(25 * k)/\V<=2^(100 + 10 * k)
theorem ShB.mono{j k:Nat}{q:Q}(h:ShB j q)(l:j<=k):ShB k q:=by
 obtain⟨D,V,b,d0,d1,v1⟩ :=h.ex;exact⟨D,V,b,d0,vA d1 (vN (by decide) (by omega)),vA v1 (vN (by decide) (by omega))⟩
theorem ShB.whole{k:Nat}{n:Int}(h:n.natAbs<=2^100):ShB k (Vbirad.whole n):=
 ⟨1,2^100,Bd.whole h,by decide,Nat.one_le_two_pow,vN (by decide) (by omega)⟩
theorem ShB.of{k D V:Nat}{q:Q}(b:Bd D V q)(d0:0 < D)(d1:D<=2^(25 * k))(v1:V<=2^(100 + 10 * k)):ShB k q:= ⟨D,V,b,d0,d1,v1⟩
theorem roomD{k D M:Nat}(d1:D<=2^(25 * k))(m:M<=2^25):D * M<=2^(25 * (k + 1)):=by
 rw[show 25 * (k + 1)=25 * k + 25 by omega,Nat.pow_add];exact Nat.mul_le_mul d1 m
theorem roomV{k V:Nat}(v1:V<=2^(100 + 10 * k)):(V + 2^40) * 100 + 2^40<=2^(100 + 10 * (k + 1)):=by
 have e:(2:Nat)^(100 + 10 * (k + 1))=2^(100 + 10 * k) * 1024:=by
  rw[show 100 + 10 * (k + 1)=100 + 10 * k + 10 by omega,Nat.pow_add]
 have h:(2:Nat)^100<=2^(100 + 10 * k):=vN (by decide) (by omega);rw[e];have h2:1099511627776000<=(2:Nat)^100:=by decide
 have h3:(2:Nat)^40=1099511627776:=by decide
 rw[h3,Nat.add_mul];generalize (2:Nat)^(100 + 10 * k)=X at *;generalize (2:Nat)^100=Y at *;omega
theorem ar1(V:Nat):(V + 2^25 + 2^35) * 100 + 2^31<=(V + 2^36) * 100:=by
 rw[Nat.add_mul,Nat.add_mul,Nat.add_mul,Nat.add_assoc,Nat.add_assoc];exact Nat.add_le_add_left (by decide) _
theorem ar2(V:Nat):(V + 2^36) * 100<=(V + 2^40) * 100 + 2^40:=by
 rw[Nat.add_mul,Nat.add_mul,Nat.add_assoc];exact Nat.add_le_add_left (by decide) _
theorem ar3(V:Nat):2^30 + (V + 2^36) * 100<=(V + 2^40) * 100 + 2^40:=by
 rw[Nat.add_mul,Nat.add_mul,Nat.add_comm,Nat.add_assoc,Nat.add_assoc];exact Nat.add_le_add_left (by decide) _
theorem roomW{k V:Nat}(v1:V<=2^90):V<=2^(100 + 10 * (k + 1)):=vA v1 (vN (by decide) (by omega))
theorem cE{k:Nat}{e:Q}{cs:List Nat}(h:ShB k e)(hs:cs.sum<=2^25):∀x∈byParts (cQ cs) e,ShB (k + 1) x:=by
 obtain⟨D,V,b,d0,d1,v1⟩ :=h.ex;intro x hx;unfold byParts at hx;rw[I0]at hx;dsimp only at hx;rw[cQ,List.map_map]at hx;obtain⟨c,hc,rfl⟩ :=List.mem_map.mp hx;show ShB (k + 1) (if ((cs.sum:Nat):Int)=0 then Vbirad.whole 0 else Vbirad.over (Vbirad.mul (Vbirad.whole (c:Int)) e) (Vbirad.whole ((cs.sum:Nat):Int)));split
 ·exact ShB.whole (vW _)
 ·rename_i h0
  have hC:0 < cs.sum:=by omega
  have hcC:=O7 hc;rw[mul_comm];have b1:=b.mulN c;have b2:=b1.overN hC;refine ShB.of (D:=D * cs.sum) (V:=V) ⟨b2.red,b2.int,?_,?_⟩ (Nat.mul_pos d0 hC) (roomD d1 hs) (vA v1 (vN (by decide) (by omega)))
  all_goals
   rw[Wf b1.red.pos hC,Og b.red.pos (Aw _).pos,By];have p0:=Ez hC;have q0:=Ay c;have q1:=Ay V;have q2:(c:Rat)<=(cs.sum:Rat):=Rat.natCast_le_natCast.mpr hcC;have l1:=Rat.mul_le_mul_of_nonneg_right b.lo q0;have l2:=Rat.mul_le_mul_of_nonneg_right b.hi q0;have l3:=Rat.mul_le_mul_of_nonneg_left q2 q1
  ·rw[<-Rat.not_lt,Rat.div_lt_iff p0,Rat.not_lt];grind
  ·rw[<-Rat.not_lt,Rat.lt_div_iff p0,Rat.not_lt];grind
structure Lm(x:Q×Nat):Prop where
 lim:Bd 2 (2^31) x.1
 w0:0 < x.2
 w1:x.2<=100
theorem fZ:∀(l:List (Q×Nat)) (q:Q),(∀x∈l,Lm x)->(∃D,Bd D (2^31) q/\0 < D/\D<=200)->∃D,Bd D (2^31) ((l.map fun x=>Vbirad.over x.1 (Vbirad.whole (x.2:Int))).foldl Vbirad.most q)/\0 < D/\D<=200
 | [],q,_,h=>h
 |x::l,q,hl,h=>by
  refine fZ l _ (fun y hy=>hl y (by simp[hy])) ?_;have hx:=hl x (by simp);unfold Vbirad.most;split
  ·exact⟨2 * x.2,hx.lim.overN hx.w0,by have:=hx.w0;omega,by have:=hx.w1;omega⟩
  ·exact h
theorem fW{l:List (Q×Nat)}(h:∀x∈l,Lm x):wsum l<=l.length * 100:=by
 unfold wsum
 induction l with
 |nil=>simp
 |cons x l ih=>
  have:=ih fun y hy=>h y (by simp[hy]);have:=(h x (by simp)).w1;rw[List.map_cons,List.sum_cons,List.length_cons,Nat.add_mul];omega
theorem aH{l:List (Q×Nat)}(h:∀x∈l,Lm x)(hn:l≠[]):0 < wsum l:=by
 cases l with
 |nil=>exact absurd rfl hn
 |cons x l=>
  have:=(h x (by simp)).w0;show 0 < ((x::l).map fun x=>x.2).sum;rw[List.map_cons,List.sum_cons];omega
theorem bL{D:Nat}(d0:0 < D):∀(f:Nat) (l:List (Q×Nat)) (e:Q) (V:Nat),l.length<=9->(∀x∈l,Lm x)->Bd (2 * D) V e->∃D' V',Bd D' V' (levelFrom f l e)/\0 < D'/\D'<=D * 2048/\V'<=V + 2^31 * l.length + 2^31
 |0,l,e,V,_,_,_=> ⟨1,0,Bd.whole (by decide),by decide,by omega,vW _⟩
 |f + 1,l,e,V,hl,hx,b=>by
  by_cases hn:l= []
  ·subst hn;exact⟨1,0,Bd.whole (by decide),by decide,by omega,vW _⟩
  ·have w0:=aH hx hn;have w1:=fW hx;rw[O5 w0];split
   ·refine⟨2 * D * wsum l,V,b.overN w0,Nat.mul_pos (by omega) w0,?_,by omega⟩;rw[Nat.mul_comm 2 D,Nat.mul_assoc];exact Nat.mul_le_mul_left _ (by omega)
   ·split
    ·obtain⟨D',b',p',q'⟩ :=fZ l (Vbirad.whole 0) hx ⟨1,Bd.whole (by decide),by decide,by decide⟩;refine⟨D',2^31,b',p',by omega,?_⟩;exact Nat.le_add_left _ _
    ·rename_i c1 c2
     have hf:∀x∈fillQ (comQ e l) l,Lm x:=fun x h=>hx x (List.mem_filter.mp h).1;have hr:∀x∈restQ (comQ e l) l,Lm x:=fun x h=>hx x (List.mem_filter.mp h).1;have bs:Bd 2 (2^31 * ((fillQ (comQ e l) l).map fun x=>x.1).length) (sumQ ((fillQ (comQ e l) l).map fun x=>x.1)):=Bd.sumQ fun q hq=>by
      obtain⟨x,h1,rfl⟩ :=vL hq;exact(hf x h1).lim
     have lr:=Vv c1;have fl:(fillQ (comQ e l) l).length + (restQ (comQ e l) l).length=l.length:=by
      unfold fillQ restQ;generalize comQ e l=k;clear hl hx b w0 w1 hn c1 c2 hf hr bs lr
      induction l with
      |nil=>rfl
      |cons x l ih=>
       rw[List.filter_cons,List.filter_cons];cases hb:fillB k x with
       |true=>simp at ih⊢;omega
       |false=>simp at ih⊢;omega
     obtain⟨D',V',b',p',q',r'⟩ :=bL d0 f _ _ (V + 2^31 * ((fillQ (comQ e l) l).map fun x=>x.1).length) (by omega) hr (b.sub (bs.mono (Nat.dvd_mul_right 2 D) (Nat.le_refl _)));refine⟨D',V',b',p',q',vA r' ?_⟩;rw[vB];have:2^31 * (fillQ (comQ e l) l).length + 2^31 * (restQ (comQ e l) l).length=2^31 * l.length:=by rw[<-Nat.mul_add,fl]
     omega
theorem Zf{D V:Nat}{e:Q}{ls:List Q}{ws:List Nat}(d0:0 < D)(b:Bd D V e)(hl:(ls.zip ws).length<=9)(hx:∀x∈ls.zip ws,Lm x):∀q∈evenly ls ws e,∃D' V',Bd D' V' q/\0 < D'/\D'<=D * 2048/\V'<=(V + 2^35) * 100 + 2^31:=by
 intro q hq;unfold evenly at hq;obtain⟨x,hm,rfl⟩ :=List.mem_map.mp hq;have hxl:=hx x hm;obtain⟨D',V',b',p',q',r'⟩ :=bL d0 (ls.length + 1) (ls.zip ws) e V hl hx (b.mono (Nat.dvd_mul_left D 2) (Nat.le_refl _));unfold Vbirad.least;split
 ·exact⟨2,2^31,hxl.lim,by decide,by omega,Nat.le_add_left _ _⟩
 ·refine⟨D',V' * x.2,b'.mulN x.2,p',q',?_⟩;have h1:V' * x.2<=(V + 2^35) * 100:=by
   refine Nat.mul_le_mul (vA r' ?_) hxl.w1;have:2^31 * (ls.zip ws).length<=2^31 * 9:=Nat.mul_le_mul_left _ hl;omega
  exact vA h1 (Nat.le_add_right _ _)
structure Cm(cs ws:List Nat):Prop where
 len:cs.length<=9
 each:∀c∈cs,c<=2^30
 sum:cs.sum<=2^25
 wlen:ws.length=cs.length
 w:∀w∈ws,0 < w/\w<=100
theorem bdh{c:Nat}(h:c<=2^30):Bd 2 (2^31) (Vbirad.mk (c:Int) 2):=by
 have b:Bd 1 (2^30) (Vbirad.whole (c:Int)):=Bd.whole (by rw[vQ];exact h);have b2:=Bd.overN (n:=2) (by decide) b;have e:Vbirad.over (Vbirad.whole (c:Int)) (Vbirad.whole ((2:Nat):Int))=Vbirad.mk (c:Int) 2:=Kw (by decide);rw[e]at b2;exact b2.mono (by decide) (by decide)
theorem bdc{c:Nat}(h:c<=2^30):Bd 1 (2^30) (Vbirad.whole (c:Int)):=Bd.whole (by rw[vQ];exact h)
theorem iQ{r:Nat}{cs ws:List Nat}(h:Cm cs ws):(((limQ r cs).zip ws).length<=9)/\∀x∈(limQ r cs).zip ws,Lm x:=by
 have hl:(limQ r cs).length=cs.length:=by unfold limQ;split<;>simp
 refine⟨by rw[List.length_zip,hl];have:=h.len;omega,fun x hx=>?_⟩;obtain⟨h1,h2⟩ :=List.of_mem_zip (a:=x.1) (b:=x.2) hx;refine⟨?_,(h.w _ h2).1,(h.w _ h2).2⟩;unfold limQ at h1;split at h1
 ·obtain⟨c,hc,e⟩ :=vL h1;rw[<-e];exact bdh (h.each c hc)
 ·obtain⟨c,hc,e⟩ :=vL h1;rw[<-e];exact(bdc (h.each c hc)).mono (by decide) (by decide)
theorem Oi{k r:Nat}{e:Q}{cs ws:List Nat}(h:ShB k e)(hc:Cm cs ws):∀x∈byLevQ r e cs ws,ShB (k + 1) x:=by
 obtain⟨D,V,b,d0,d1,v1⟩ :=h.ex;obtain⟨l1,l2⟩ :=iQ (r:=r) hc;have bs:Bd D (V + 2^25) (sprQ r e cs):=by
  unfold sprQ;split
  ·have bw:Bd 1 (2^25) (Vbirad.whole ((cs.sum:Nat):Int)):=Bd.whole (by rw[vQ];exact hc.sum);exact((bw.mono (Nat.one_dvd D) (Nat.le_refl _)).sub b).mono (Nat.dvd_refl _) (by omega)
  ·exact b.mono (Nat.dvd_refl _) (by omega)
 have rv:=roomV v1;have got:∀q∈gotQ r e cs ws,∃D' V',Bd D' V' q/\0 < D'/\D'<=D * 2048/\V'<=(V + 2^36) * 100:=by
  intro q hq;have hq':q∈evenly (limQ r cs) ws (sprQ r e cs):=hq;obtain⟨D',V',b',p',q',r'⟩ :=Zf d0 bs l1 l2 q hq';refine⟨D',V',b',p',q',vA r' ?_⟩;exact ar1 V
 have d2:D * 2048<=2^(25 * (k + 1)):=roomD d1 (by decide);intro x hx;unfold byLevQ at hx;split at hx
 ·obtain⟨D',V',b',p',q',r'⟩ :=got x hx;refine ShB.of b' p' (vA q' d2) (vA r' (vA (ar2 V) rv))
 ·obtain⟨y,hy,rfl⟩ :=vL hx;obtain⟨m1,m2⟩ :=List.of_mem_zip (a:=y.1) (b:=y.2) hy;obtain⟨D',V',b',p',q',r'⟩ :=got y.2 m2;have bw:=(bdc (hc.each y.1 m1)).mono (Nat.one_dvd D') (Nat.le_refl (2^30));refine ShB.of (bw.sub b') p' (vA q' d2) (vA (Nat.add_le_add_left r' _) (vA (ar3 V) rv))
theorem Vf{k:Nat}:∀(cs:List Nat) (e:Q),(∀c∈cs,c<=2^30)->ShB k e->∀x∈inOrder (cQ cs) e,ShB k x
 | [],e,_,_,x,hx=>by cases hx
 |c::cs,e,hc,h,x,hx=>by
  have hx:x=Vbirad.least (Vbirad.whole (c:Int)) e∨x∈inOrder (cQ cs) (Vbirad.sub e (Vbirad.least (Vbirad.whole (c:Int)) e)):=List.mem_cons.mp hx;have hcc:=hc c (by simp);rcases hx with rfl|hx
  ·unfold Vbirad.least;split
   ·exact ShB.whole (by rw[vQ];exact vA hcc (by decide))
   ·exact h
  ·refine Vf cs _ (fun y hy=>hc y (by simp[hy])) ?_ x hx;obtain⟨D,V,b,d0,d1,v1⟩ :=h.ex;refine ShB.of (V:=V) ?_ d0 d1 v1;have q0:=Ay c;have qV:=Ay V;have l:=Fr (a:=Vbirad.whole (c:Int)) (b:=e) (Aw _).pos b.red.pos;rw[By]at l;unfold Vbirad.least;split
   ·rename_i hle
    have hle:=l.mp hle;have e1:=Jn (a:=e) (b:=Vbirad.whole (c:Int)) b.red.pos (Aw _).pos;rw[By]at e1;obtain⟨m,hm⟩ :=b.int;have:=b.hi;refine⟨Ea b.red.pos (Aw _).pos,⟨m - (c:Int) * D,?_⟩,?_,?_⟩
    ·rw[e1];simp only [Rat.intCast_sub,Rat.intCast_mul,Rat.intCast_natCast];grind
    ·rw[e1];grind
    ·rw[e1];grind
   ·have e1:=Jn (a:=e) (b:=e) b.red.pos b.red.pos;refine⟨Ea b.red.pos b.red.pos,⟨0,?_⟩,?_,?_⟩
    ·rw[e1];simp;grind
    ·rw[e1];grind
    ·rw[e1];grind
theorem fU{e:Rat}{c b:Nat}:0<=takR e c b/\takR e c b<=(c:Rat):=by
 have:=Ay c;unfold takR;split
 ·constructor<;>grind
 ·split<;>constructor<;>grind
theorem T5(F:Nat->Nat->Rat)(B:Rat)(hB:0<=B):∀(l:List Nat) (F:Nat->Nat->Rat),(∀a b,0<=F a b/\F a b<=B)->0<=ssum F l/\ssum F l<=B * ((2^l.length:Nat):Rat)
 | [],F,h=>by
  have:=h 0 0;show 0<=F 0 0/\F 0 0<=B * ((1:Nat):Rat);have e:((1:Nat):Rat)=1:=rfl;rw[e];constructor<;>grind
 |x::l,F,h=>by
  have h1:=T5 F B hB l F h;have h2:=T5 F B hB l (fun a b=>F (a + 1) (b + x)) (fun a b=>h _ _);show 0<=ssum F l + ssum (fun a b=>F (a + 1) (b + x)) l/\ssum F l + ssum (fun a b=>F (a + 1) (b + x)) l<=B * ((2^(l.length + 1):Nat):Rat);rw[Nat.pow_succ,Rat.natCast_mul];have e:((2:Nat):Rat)=2:=rfl;rw[e];constructor<;>grind
theorem Ot:∀{n:Nat},n<=9->fact n<=2^20:=by
 intro n h
 match n,h with
 |0,_=>decide
 |1,_=>decide
 |2,_=>decide
 |3,_=>decide
 |4,_=>decide
 |5,_=>decide
 |6,_=>decide
 |7,_=>decide
 |8,_=>decide
 |9,_=>decide
theorem eU{k:Nat}{e:Q}{c:Nat}{os:List Nat}(h:ShB k e)(hc:c<=2^30)(ho:os.length<=8):ShB (k + 1) (meanQ e c os):=by
 obtain⟨D,V,b,d0,d1,v1⟩ :=h.ex;have hv:=We b.red.pos c os;have hf:=Eg (os.length + 1);have hf9:=Ot (n:=os.length + 1) (by omega);have hf':=B5 hf;have hfp:=Ez hf;have hd':=B5 b.red.pos;have red:Red (meanQ e c os):=Fs _ (Nat.mul_pos b.red.pos hf);have hq0:=Ay c;have f1:(1:Rat)<=((fact (os.length + 1):Nat):Rat):=by
  have:((1:Nat):Rat)<=((fact (os.length + 1):Nat):Rat):=Rat.natCast_le_natCast.mpr hf;simpa using this
 have key:∀n:Nat,(n:Rat) / ((fact (os.length + 1):Nat):Rat)<=(n:Rat):=fun n=>by
  rw[<-Rat.not_lt,Rat.lt_div_iff hfp,Rat.not_lt];have:=Rat.mul_le_mul_of_nonneg_left f1 (Ay n);grind
 have key0:∀n:Nat,0<=(n:Rat) / ((fact (os.length + 1):Nat):Rat):=fun n=>by
  rw[<-Rat.not_lt,Rat.div_lt_iff hfp,Rat.not_lt];have:=Ay n;grind
 have hterm:∀a d,0<=(fun a d=>if a<=os.length then((fact a * fact (os.length - a):Nat):Rat) / ((fact (os.length + 1):Nat):Rat) * takR (val e) c d else 0) a d/\(fun a d=>if a<=os.length then((fact a * fact (os.length - a):Nat):Rat) / ((fact (os.length + 1):Nat):Rat) * takR (val e) c d else 0) a d<=((2^40 * c:Nat):Rat):=fun a d=>by
  have B0:=Ay (2^40 * c);by_cases ha:a<=os.length
  ·have hn:fact a * fact (os.length - a)<=2^40:=Nat.le_trans (Nat.mul_le_mul (Ot (by omega)) (Ot (by omega))) (by decide);have hnR:((fact a * fact (os.length - a):Nat):Rat)<=((2^40:Nat):Rat):=Rat.natCast_le_natCast.mpr hn;have k1:=key (fact a * fact (os.length - a));have k0:=key0 (fact a * fact (os.length - a));obtain⟨t0,t1⟩ :=fU (e:=val e) (c:=c) (b:=d);dsimp only;rw[if_pos ha,Rat.natCast_mul (2^40)];generalize ((fact a * fact (os.length - a):Nat):Rat) / ((fact (os.length + 1):Nat):Rat)=z at *;have m1:=Rat.mul_nonneg k0 t0;have m2:=Rat.mul_le_mul_of_nonneg_left t1 k0;have m3:=Rat.mul_le_mul_of_nonneg_right (show z<=((2^40:Nat):Rat)by grind) hq0;exact⟨m1,by grind⟩
  ·dsimp only;rw[if_neg ha];exact⟨by grind,B0⟩
 have es:val (meanQ e c os)=ssum (fun a d=>if a<=os.length then((fact a * fact (os.length - a):Nat):Rat) / ((fact (os.length + 1):Nat):Rat) * takR (val e) c d else 0) os:=by
  rw[hv];exact Kd os _ _ fun a d ha _=>by rw[if_pos ha]
 have bound:=T5 (fun _ _=>0) ((2^40 * c:Nat):Rat) (Ay _) os _ hterm;rw[<-es,<-Rat.natCast_mul]at bound;have hW:2^40 * c * 2^os.length<=2^90:=by
  have h1:2^40 * c * 2^os.length<=2^40 * 2^30 * 2^8:=Nat.mul_le_mul (Nat.mul_le_mul_left _ hc) (vN (by decide) ho);exact vA h1 (by decide)
 refine ShB.of (D:=D * fact (os.length + 1)) (V:=2^90) ⟨red,?_,?_,?_⟩ (Nat.mul_pos d0 hf) (roomD d1 (vA hf9 (by decide))) (roomW (Nat.le_refl _))
 ·
  obtain⟨m,hm⟩ :=b.dvd;refine⟨meanI e c os * m,?_⟩;unfold meanQ;rw[Ke _ (Nat.mul_pos b.red.pos hf),hm];simp only [Rat.natCast_mul,Rat.intCast_mul,Rat.intCast_natCast];grind
 ·have:=bound.1;have:=Ay (2^90);grind
 ·have h1:=bound.2;have h2:((2^40 * c * 2^os.length:Nat):Rat)<=((2^90:Nat):Rat):=Rat.natCast_le_natCast.mpr hW;exact Rat.le_trans h1 h2
theorem Zb{k:Nat}{e:Q}{cs:List Nat}(h:ShB k e)(hl:cs.length<=9)(hc:∀c∈cs,c<=2^30):∀x∈byChance (cQ cs) e,ShB (k + 1) x:=by
 obtain⟨D,V,b,_⟩ :=h.ex;rw[Rk b.red.pos];intro x hx;obtain⟨i,hi,rfl⟩ :=vL hx;have hi:=List.mem_range.mp hi;refine eU h ?_ ?_
 ·rw[vS,vC hi];exact hc _ (List.getElem_mem hi)
 ·rw[vI,vU,vZ];omega
theorem P4{k r:Nat}{e:Q}{cs ws:List Nat}(h:ShB k e)(hc:Cm cs ws):∀x∈shareBy r (cQ cs) ws e,ShB (k + 1) x:=by
 obtain⟨D,V,b,_⟩ :=h.ex;unfold shareBy;split
 ·exact cE h hc.sum
 ·split
  ·rw[<-Oj];exact Oi h hc
  ·split
   ·rw[<-Kk];exact Oi h hc
   ·split
    ·rw[<-Kj cs ws b.red.pos];exact Oi h hc
    ·split
     ·exact Zb h hc.len hc.each
     ·exact fun x hx=>(Vf cs e hc.each h x hx).mono (by omega)
theorem Ps{c:Nat}:∀{w:Bytes},c∉w->partsOf c w= [w]
 | [],_=>rfl
 |x::w,h=>by
  have hx:x≠c:=fun e=>h (e▸List.mem_cons_self);have ih:=Ps (c:=c) (w:=w) fun m=>h (List.mem_cons_of_mem _ m);show(if x=c then []::partsOf c w else match partsOf c w with
   | []=>[[x]]
   |v::r=>(x::v)::r)=_
  rw[if_neg hx,ih]
theorem Pr{c:Nat}(rest:Bytes):∀{w:Bytes},c∉w->partsOf c (w++c::rest)=w::partsOf c rest
 | [],_=>by
  show(if c=c then []::partsOf c rest else _)=_;rw[if_pos rfl]
 |x::w,h=>by
  have hx:x≠c:=fun e=>h (e▸List.mem_cons_self);have ih:=Pr (c:=c) rest (w:=w) fun m=>h (List.mem_cons_of_mem _ m);show(if x=c then []::partsOf c (w++c::rest)else match partsOf c (w++c::rest)with
   | []=>[[x]]
   |v::r=>(x::v)::r)=_
  rw[if_neg hx,ih]
def joinB(c:Nat):List Bytes->Bytes
 | []=>[]
 | [w]=>w
 |w::v::r=>w++c::joinB c (v::r)
theorem Pt{c:Nat}:∀(l:List Bytes),l≠[]->(∀w∈l,c∉w)->partsOf c (joinB c l)=l
 | [],h,_=>absurd rfl h
 | [w],_,h=>Ps (h w (by simp))
 |w::v::r,_,h=>by
  show partsOf c (w++c::joinB c (v::r))=_;rw[Pr _ (h w (by simp)),Pt (v::r) (by simp) fun x hx=>h x (List.mem_cons_of_mem _ hx)]
def okB(b:Nat):Bool:=isSmall b || isDigit b || b == 32 || b == 10
def nrm(b:Nat):Nat:=if okB b=true then b else 63
theorem iA{b:Nat}(h:okB b=true):nrm b=b:=by unfold nrm;rw[if_pos h]
theorem bX:okB 63=false:=by decide
theorem Xd{b c:Nat}(hc:okB c=true):nrm b=c↔b=c:=by
 unfold nrm;split
 ·exact Iff.rfl
 ·rename_i h
  constructor
  ·intro e;rw[<-e,bX]at hc;cases hc
  ·intro e;rw[e]at h;exact absurd hc h
theorem L9{c:Nat}(hc:okB c=true):∀t:Bytes,partsOf c (t.map nrm)=(partsOf c t).map (List.map nrm)
 | []=>rfl
 |x::t=>by
  have ih:=L9 hc t;show(if nrm x=c then []::partsOf c (t.map nrm)else match partsOf c (t.map nrm)with
   | []=>[[nrm x]]
   |v::r=>(nrm x::v)::r)=(if x=c then []::partsOf c t else match partsOf c t with
   | []=>[[x]]
   |v::r=>(x::v)::r).map (List.map nrm)
  rw[ih];by_cases hx:x=c
  ·rw[if_pos hx,if_pos ((Xd hc).mpr hx)];rfl
  ·rw[if_neg hx,if_neg (fun e=>hx ((Xd hc).mp e))];cases partsOf c t with
   |nil=>rfl
   |cons v r=>rfl
theorem aG(l:Bytes):wordsOf (l.map nrm)=(wordsOf l).map (List.map nrm):=by
 unfold wordsOf;rw[L9 (by decide),List.filter_map];congr 1;refine List.filter_congr fun w _=>?_;simp
theorem Zn(t:Bytes):linesOf (t.map nrm)=(linesOf t).map (List.map nrm):=by
 unfold linesOf;dsimp only;rw[L9 (by decide),List.getLast?_map];cases h:(partsOf 10 t).getLast? with
 |none=>rfl
 |some w=>
  cases w with
  |nil=>
   show(if some (List.map nrm [])=some []then _ else _)=(if some []=some []then _ else _:List Bytes).map _;rw[if_pos (show some (List.map nrm [])=some [] from rfl),if_pos rfl,List.map_dropLast]
  |cons a w=>
   show(if some (List.map nrm (a::w))=some []then _ else _)=(if some (a::w)=some []then _ else _:List Bytes).map _;rw[if_neg (by simp),if_neg (by simp)]
def plain(w:Bytes):Prop:=∀b∈w,okB b=true
theorem Dz{w k:Bytes}(hk:plain k):w.map nrm=k↔w=k:=by
 constructor
 ·intro e
  induction w generalizing k with
  |nil=>exact e
  |cons a w ih=>
   cases k with
   |nil=>simp at e
   |cons b k=>
    rw[vV]at e;injection e with e1 e2
    rw[(Xd (hk b (by simp))).mp e1,ih (fun x hx=>hk x (by simp[hx])) e2]
 ·intro e;subst e
  conv=>rhs;rw[<-List.map_id w]
  exact vY fun b hb=>iA (hk b hb)
theorem Yw(p:Nat->Bool)(hp:∀b,p b=true->okB b=true)(b:Nat):p (nrm b)=p b:=by
 unfold nrm;split
 ·rfl
 ·rename_i h
  have h1:p b=false:=by cases hq:p b with
   |false=>rfl
   |true=>exact absurd (hp b hq) h
  have h2:p 63=false:=by cases hq:p 63 with
   |false=>rfl
   |true=>exact absurd (hp 63 hq) (by rw[bX];exact vT)
  rw[h1,h2]
theorem Z5(b:Nat):isSmall (nrm b)=isSmall b:=Yw isSmall (fun b h=>by unfold okB;rw[h];rfl) b
theorem Zd(b:Nat):isDigit (nrm b)=isDigit b:=Yw isDigit (fun b h=>by unfold okB;rw[h];simp) b
theorem Yb(p:Nat->Bool)(hp:∀b,p (nrm b)=p b)(w:Bytes):(w.map nrm).all p=w.all p:=by
 rw[List.all_map];congr 1;funext b;exact hp b
theorem Gj{p:Nat->Bool}(hp:∀b,p b=true->okB b=true){w:Bytes}(h:w.all p=true):plain w:=fun b hb=>hp b (v4 h b hb)
theorem Lz{w:Bytes}(h:plain w):w.map nrm=w:=(Dz h).mpr rfl
theorem V5{b:Nat}(h:isSmall b=true):okB b=true:=by unfold okB;rw[h];rfl
theorem aR{b:Nat}(h:isDigit b=true):okB b=true:=by unfold okB;rw[h];simp
theorem Pc(lo hi:Nat)(w:Bytes):numberIn lo hi (w.map nrm)=numberIn lo hi w:=by
 by_cases hd:w.all isDigit=true
 ·rw[Lz (Gj (fun b h=>aR h) hd)]
 ·have h1:w.all isDigit=false:=by simpa using hd
  unfold numberIn;rw[if_pos (.inr (.inl ((Yb isDigit Zd w).trans h1))),if_pos (.inr (.inl h1))]
theorem bW(w:Bytes):isName (w.map nrm)=isName w:=by
 by_cases hs:w.all isSmall=true
 ·rw[Lz (Gj (fun b h=>V5 h) hs)]
 ·have h1:w.all isSmall=false:=by simpa using hs
  unfold isName;rw[Yb isSmall Z5,h1];simp
def Nm(ps:List Party):Prop:=∀p∈ps,plain p.name
theorem Uj{ps:List Party}(h:Nm ps)(w:Bytes):find ps (w.map nrm)=find ps w:=by
 unfold find
 induction ps with
 |nil=>rfl
 |cons p ps ih=>
  have ih:=ih fun q hq=>h q (by simp[hq]);have hp:=h p (by simp);have e:(p.name == w.map nrm)=(p.name == w):=by
   rw[Bool.eq_iff_iff,beq_iff_eq,beq_iff_eq];constructor
   ·intro z;exact((Dz hp).mp z.symm).symm
   ·intro z;exact((Dz hp).mpr z.symm).symm
  rw[List.findIdx?_cons,List.findIdx?_cons,e,ih]
theorem Ml{ps:List Party}(h:Nm ps):∀l:List Bytes,findAll ps (l.map (List.map nrm))=findAll ps l
 | []=>rfl
 |w::l=>by
  show(find ps (w.map nrm)).bind _=(find ps w).bind _;rw[Uj h,Ml h l]
theorem Xs{s:String}(h:(text s).all (fun b=>okB b)=true):plain (text s):=fun b hb=>v4 h b hb
theorem Gd{w:Bytes}{s:String}(h:(text s).all (fun b=>okB b)=true):(w.map nrm=text s)=(w=text s):=propext (Dz (Xs h))
theorem Ql:∀l:List Bytes,weightIn (l.map (List.map nrm))=weightIn l
 | []=>rfl
 | [a]=>rfl
 | [a,w]=>by
  show(if a.map nrm=text "weighs" then numberIn 1 WEIGHT (w.map nrm)else none)=(if a=text "weighs" then numberIn 1 WEIGHT w else none);rw[Pc];exact ite_congr (Gd (by decide)) (fun _=>rfl) fun _=>rfl
 |_::_::_::_=>rfl
theorem cU(x:Bytes):(RULES.findIdx? fun y=>y == x.map nrm)=RULES.findIdx? fun y=>y == x:=by
 have h:∀y∈RULES,plain y:=by
  have:RULES.all (fun y=>y.all fun b=>okB b)=true:=by decide
  intro y hy b hb;exact v4 (v4 this y hy) b hb
 revert h;generalize RULES=R;intro h
 induction R with
 |nil=>rfl
 |cons y R ih=>
  have e:(y == x.map nrm)=(y == x):=by
   rw[Bool.eq_iff_iff,beq_iff_eq,beq_iff_eq];constructor
   ·intro z;exact((Dz (h y (by simp))).mp z.symm).symm
   ·intro z;exact((Dz (h y (by simp))).mpr z.symm).symm
  rw[List.findIdx?_cons,List.findIdx?_cons,e,ih fun z hz=>h z (by simp[hz])]
def numOf(w:Bytes):Int:=if (w.isEmpty=true∨w.all isDigit=false)∨8 < w.length then -1 else if 1 < w.length/\w.head? =some 48 then -1 else(Vbirad.value w:Int)
theorem Hy(lo hi:Nat)(w:Bytes):numberIn lo hi w=if (lo:Int)<=numOf w/\numOf w<=(hi:Int)then some (numOf w).toNat else none:=by
 unfold numberIn numOf;dsimp only;by_cases h1:w.isEmpty=true∨w.all isDigit=false∨8 < w.length∨(1 < w.length/\w.head? =some 48)
 ·rw[if_pos h1];have:(if (w.isEmpty=true∨w.all isDigit=false)∨8 < w.length then(-1:Int)else if 1 < w.length/\w.head? =some 48 then -1 else(Vbirad.value w:Int))= -1:=by
   by_cases h2:(w.isEmpty=true∨w.all isDigit=false)∨8 < w.length
   ·rw[if_pos h2]
   ·rw[if_neg h2];have h3:1 < w.length/\w.head? =some 48:=by
     rcases h1 with a|a|a|a
     ·exact absurd (.inl (.inl a)) h2
     ·exact absurd (.inl (.inr a)) h2
     ·exact absurd (.inr a) h2
     ·exact a
    rw[if_pos h3]
  rw[this,if_neg (by omega)]
 ·rw[if_neg h1];have:(if (w.isEmpty=true∨w.all isDigit=false)∨8 < w.length then(-1:Int)else if 1 < w.length/\w.head? =some 48 then -1 else(Vbirad.value w:Int))=(Vbirad.value w:Int):=by
   rw[if_neg (fun h=>h1 (h.elim (fun h=>h.elim .inl fun a=>.inr (.inl a)) fun a=>.inr (.inr (.inl a)))),if_neg (fun h=>h1 (.inr (.inr (.inr h))))]
  rw[this];exact ite_congr (propext ⟨fun⟨a,b⟩ => ⟨by omega,by omega⟩,fun⟨a,b⟩ => ⟨by omega,by omega⟩⟩) (fun _=>by rw[vM]) fun _=>rfl
def nameB(w:Bytes):Bool:=if 8 < w.length∨KEYS.contains w=true then false else w.all isSmall
theorem S8{w:Bytes}(h:w≠[]):isName w=nameB w:=by
 unfold isName nameB;have:1<=w.length:=List.length_pos_iff.mpr h;by_cases h1:w.length<=8<;>by_cases h2:KEYS.contains w=true
 ·rw[if_pos (.inr h2),h2];simp
 ·rw[if_neg (by rintro (a|a);omega;exact h2 a)];have:KEYS.contains w=false:=by simpa using h2
  rw[this];simp[*]
 ·rw[if_pos (.inr h2),h2];simp
 ·rw[if_pos (.inl (by omega))];simp[h1]
def memsOf(p:Party):List Nat:=match p.kind with
 |.group _ l=>l
 |.person _=>[]
def taken(ps:List Party):List Nat:=ps.flatMap memsOf
theorem Ht{ps:List Party}{i:Nat}(h:i < ps.length):((free ps).contains i=true)↔i∉taken ps:=by
 unfold free taken;rw[List.contains_iff_mem,List.mem_filter,List.mem_range];constructor
 ·rintro ⟨_,h2⟩ hm;rw[List.mem_flatMap]at hm;obtain⟨p,hp,hi⟩ :=hm;have:(ps.any fun p=>match p.kind with
   |.group _ l=>l.contains i
   |.person _=>false)=true:=List.any_eq_true.mpr ⟨p,hp,by
    unfold memsOf at hi;cases hk:p.kind with
    |person c=>rw[hk]at hi;simp at hi
    |group r l=>rw[hk]at hi;exact List.contains_iff_mem.mpr hi⟩
  rw[Bool.not_eq_true']at h2;exact vT (h2.symm.trans this)
 ·intro hn;refine⟨h,?_⟩;rw[Bool.not_eq_true',List.any_eq_false];intro p hp hm;apply hn;rw[List.mem_flatMap];refine⟨p,hp,?_⟩;unfold memsOf;cases hk:p.kind with
  |person c=>rw[hk]at hm;simp at hm
  |group r l=>rw[hk]at hm;exact List.contains_iff_mem.mp hm
def mems(ps:List Party):List Bytes->List Nat->Option (List Nat)
 | [],acc=>some acc
 |w::l,acc=>match find ps w with
  |none=>none
  |some m=>if m∈taken ps∨m∈acc then none else mems ps l (acc++[m])
theorem Yj{ps:List Party}{w:Bytes}{m:Nat}(h:find ps w=some m):m < ps.length:=by
 unfold find at h;rw[List.findIdx?_eq_some_iff_getElem]at h;exact h.1
theorem Et:∀l:List Nat,distinct l=true↔l.Nodup
 | []=>by simp[distinct]
 |x::l=>by
  have ih:=Et l;unfold distinct;rw[List.nodup_cons,Bool.and_eq_true,ih];simp
theorem Ys{ps:List Party}:∀(ws:List Bytes) (acc:List Nat),mems ps ws acc=(findAll ps ws).bind fun is=>if distinct is=true/\(is.all (fun i=>(free ps).contains i)=true)/\∀i∈is,i∉acc then some (acc++is)else none
 | [],acc=>by
  show some acc=Option.bind (some []) _;rw[Option.bind_some,if_pos ⟨rfl,rfl,by simp⟩,List.append_nil]
 |w::l,acc=>by
  show(match find ps w with
   |none=>none
   |some m=>if m∈taken ps∨m∈acc then none else mems ps l (acc++[m]))=((find ps w).bind fun i=>(findAll ps l).map fun r=>i::r).bind _
  cases hf:find ps w with
  |none=>rfl
  |some m=>
   have hm:=Yj hf;have ih:=Ys (ps:=ps) l (acc++[m]);dsimp only;rw[ih,Option.bind_some];cases hl:findAll ps l with
   |none=>simp
   |some r=>
    simp only [Option.map_some,Option.bind_some];by_cases h1:m∈taken ps∨m∈acc
    ·rw[if_pos h1,if_neg];rintro ⟨h2,h3,h4⟩;rcases h1 with a|a
     ·have:=List.all_eq_true.mp h3 m (by simp);exact(Ht hm).mp this a
     ·exact h4 m (by simp) a
    ·rw[if_neg h1];have e:(distinct r=true/\(r.all (fun i=>(free ps).contains i)=true)/\∀i∈r,i∉acc++[m])↔(distinct (m::r)=true/\((m::r).all (fun i=>(free ps).contains i)=true)/\∀i∈m::r,i∉acc):=by
      rw[Et,Et,List.nodup_cons,List.all_cons,Bool.and_eq_true,Ht hm];constructor
      ·rintro ⟨a,b,c⟩;refine⟨⟨fun x=>c m x (by simp),a⟩,⟨fun x=>h1 (.inl x),b⟩,?_⟩;intro i hi;rcases List.mem_cons.mp hi with z|z
       ·rw[z];exact fun x=>h1 (.inr x)
       ·exact fun x=>c i z (by simp[x])
      ·rintro ⟨⟨a,b⟩,⟨c,d⟩,e⟩;refine⟨b,d,?_⟩;intro i hi hx;rcases v7 hx with z|z
       ·exact e i (by simp[hi]) z
       ·rw[List.mem_singleton.mp z]at hi;exact a hi
     by_cases h2:distinct r=true/\(r.all (fun i=>(free ps).contains i)=true)/\∀i∈r,i∉acc++[m]
     ·rw[if_pos h2,if_pos (e.mp h2)];simp
     ·rw[if_neg h2,if_neg (fun x=>h2 (e.mpr x))]
theorem Mj{ps:List Party}:∀{ws:List Bytes} {is:List Nat},findAll ps ws=some is->is.length=ws.length
 | [],is,h=>by
  have:some []=some is:=h;injection this with h
  rw[<-h];rfl
 |w::l,is,h=>by
  have h:(find ps w).bind (fun i=>(findAll ps l).map fun r=>i::r)=some is:=h;cases hf:find ps w with
  |none=>rw[hf]at h;cases h
  |some m=>
   rw[hf,Option.bind_some]at h;cases hl:findAll ps l with
   |none=>rw[hl]at h;cases h
   |some r=>
    rw[hl]at h;have:some (m::r)=some is:=h;injection this with h
    rw[<-h,vK,vK,Mj hl]
def readM(ps:List Party)(ws:List Bytes):Option (List Nat):=if 1<=ws.length/\ws.length<=8 then mems ps ws []else none
theorem Ib{ps:List Party}(ws:List Bytes):readM ps ws=(findAll ps ws).bind fun is=>if 1<=is.length/\is.length<=MEMBERS/\distinct is=true/\is.all (fun i=>(free ps).contains i)=true then some is else none:=by
 unfold readM;rw[Ys];cases h:findAll ps ws with
 |none=>simp
 |some is=>
  have hl:=Mj h;simp only [Option.bind_some,List.nil_append];rw[<-hl];by_cases h1:1<=is.length/\is.length<=8
  ·rw[if_pos h1];refine ite_congr (propext ⟨fun⟨a,b,_⟩ => ⟨h1.1,h1.2,a,b⟩,fun⟨_,_,a,b⟩ => ⟨a,b,by simp⟩⟩) (fun _=>rfl) fun _=>rfl
  ·rw[if_neg h1,if_neg fun⟨a,b,_⟩ =>h1 ⟨a,b⟩]
def readP(ws:List Bytes)(wt:Nat):Option Party:=if ws.length≠4∨ws.getD 2 []≠text "claims" then none else
 if 0<=numOf (ws.getD 3 [])/\numOf (ws.getD 3 [])<=1000000 then some {name:=ws.getD 1 [],weight:=wt,kind:=.person (numOf (ws.getD 3 [])).toNat}else none
def readG(ps:List Party)(ws:List Bytes)(wt:Nat):Option Party:=if ws.length < 6∨ws.getD 2 []≠text "by"∨ws.getD 4 []≠text "of" then none else
 match RULES.findIdx? fun y=>y == ws.getD 3 []with
 |none=>none
 |some r=>(readM ps (ws.drop 5)).map fun is=>{name:=ws.getD 1 [],weight:=wt,kind:=.group r is}
def weighs(ws:List Bytes):Prop:=2 < ws.length/\ws.getD (ws.length - 2) []=text "weighs"
instance (ws:List Bytes):Decidable (weighs ws):=inferInstanceAs (Decidable (_/\_))
def wtOf(ws:List Bytes):Int:=if weighs ws then numOf (ws.getD (ws.length - 1) [])else 1
def bare(ws:List Bytes):List Bytes:=if weighs ws then ws.take (ws.length - 2)else ws
def readParty(ps:List Party)(ws:List Bytes):Option Party:=
 if¬(1<=wtOf ws/\wtOf ws<=100)∨ps.length=30 then none else
 if (bare ws).length < 2∨nameB ((bare ws).getD 1 [])=false∨(find ps ((bare ws).getD 1 [])).isSome=true then none else
 if (bare ws).getD 0 []=text "person" then readP (bare ws) (wtOf ws).toNat else
 if (bare ws).getD 0 []=text "group" then readG ps (bare ws) (wtOf ws).toNat else none
theorem Vr{k n a x:Bytes}{r:List Bytes}{wt:Nat}:readP (k::n::a::x::r) wt=if r= []/\a=text "claims" then(numberIn 0 CLAIM x).map (fun c=>{name:=n,weight:=wt,kind:=.person c})else none:=by
 unfold readP;cases r with
 |cons y r=>rw[if_pos (.inl (by simp only [List.length_cons];omega)),if_neg (by simp)]
 |nil=>
  by_cases h:a=text "claims"
  ·rw[if_neg (by rintro (z|z);exact z rfl;exact z h),if_pos (show([]:List Bytes)= []/\a=text "claims" from⟨rfl,h⟩),Hy];show(if 0<=numOf x/\numOf x<=1000000 then some _ else none)=Option.map _ (if ((0:Nat):Int)<=numOf x/\numOf x<=((1000000:Nat):Int)then some _ else none);by_cases h2:0<=numOf x/\numOf x<=1000000
   ·rw[if_pos h2,if_pos ⟨h2.1,h2.2⟩];rfl
   ·rw[if_neg h2,if_neg (fun z=>h2 ⟨z.1,z.2⟩)];rfl
  ·rw[if_pos (.inr h),if_neg (fun z=>h z.2)]
theorem Vs{ws:List Bytes}{wt:Nat}(h:ws.length < 4):readP ws wt=none:=by
 unfold readP;rw[if_pos (.inl (by omega))]
theorem Z0{ps:List Party}:readM ps []=none:=by
 unfold readM;rw[if_neg (by simp)]
theorem Vq{ps:List Party}{k n a x o:Bytes}{ms:List Bytes}{wt:Nat}:readG ps (k::n::a::x::o::ms) wt=if a=text "by"/\o=text "of" then((RULES.findIdx? fun y=>y == x).bind fun r=>(readM ps ms).map fun is=>{name:=n,weight:=wt,kind:=.group r is})else none:=by
 unfold readG;cases ms with
 |nil=>
  rw[if_pos (.inl (by simp)),Z0];split
  ·cases RULES.findIdx? fun y=>y == x<;>rfl
  ·rfl
 |cons m ms=>
  by_cases h:a=text "by"/\o=text "of"
  ·rw[if_neg (by rintro (z|z|z);(simp only [List.length_cons]at z;omega);exact z h.1;exact z h.2),if_pos h];show(match RULES.findIdx? fun y=>y == x with
    |none=>none
    |some r=>_)=_
   cases RULES.findIdx? fun y=>y == x<;>rfl
  ·rw[if_pos,if_neg h];rw[Classical.not_and_iff_not_or_not]at h;exact h.elim (fun z=>.inr (.inl z)) fun z=>.inr (.inr z)
theorem Ia{ps:List Party}{ws:List Bytes}{wt:Nat}(h:ws.length < 6):readG ps ws wt=none:=by
 unfold readG;rw[if_pos (.inl h)]
theorem Ic{ps:List Party}{ws r:List Bytes}{k n:Bytes}(hb:bare ws=k::n::r)(hn:n≠[])(hl:ps.length<=30)
  (h:isName n=false∨(find ps n).isSome=true∨PARTIES<=ps.length):readParty ps ws=none:=by
 unfold readParty;rw[hb];by_cases h1:¬(1<=wtOf ws/\wtOf ws<=100)∨ps.length=30
 ·rw[if_pos h1]
 ·rw[if_neg h1,if_pos];rw[S8 hn]at h;rcases h with z|z|z
  ·exact .inr (.inl z)
  ·exact .inr (.inr z)
  ·have z:30<=ps.length:=z;exact absurd (.inr (by omega)) h1
theorem K2{ps:List Party}{ws r:List Bytes}{k n:Bytes}(hb:bare ws=k::n::r)(hn:n≠[])
  (h:¬(isName n=false∨(find ps n).isSome=true∨PARTIES<=ps.length)):readParty ps ws=if 1<=wtOf ws/\wtOf ws<=100 then
   (if k=text "person" then readP (k::n::r) (wtOf ws).toNat else if k=text "group" then readG ps (k::n::r) (wtOf ws).toNat else none)else none:=by
 unfold readParty;rw[hb];by_cases h1:1<=wtOf ws/\wtOf ws<=100
 ·rw[if_neg (by rintro (z|z);exact z h1;exact h (.inr (.inr (show 30<=ps.length by omega)))),if_pos h1,if_neg]
  ·rfl
  ·rw[S8 hn]at h;rintro (z|z|z)
   ·simp only [List.length_cons]at z;omega
   ·exact h (.inl z)
   ·exact h (.inr (.inl z))
 ·rw[if_pos (.inl h1),if_neg h1]
theorem Kz:text "person"≠text "group":=by decide
theorem Db{ps:List Party}{k n a x:Bytes}{r:List Bytes}(h:isName n=false∨(find ps n).isSome=true∨PARTIES<=ps.length):lineOf ps (k::n::a::x::r)=none:=by
 unfold lineOf;dsimp only;rw[if_pos h]
theorem Ck{ps:List Party}{k n a x:Bytes}{r:List Bytes}(h:¬(isName n=false∨(find ps n).isSome=true∨PARTIES<=ps.length))(hk:k=text "person"):lineOf ps (k::n::a::x::r) =
  if a=text "claims" then(numberIn 0 CLAIM x).bind fun c=>(weightIn r).map fun w=>ps++[{name:=n,weight:=w,kind:=.person c}]else none:=by
 unfold lineOf;dsimp only;rw[if_neg h];by_cases ha:a=text "claims"
 ·rw[if_pos ⟨hk,ha⟩,if_pos ha]
 ·rw[if_neg (fun z=>ha z.2),if_neg (fun z=>Kz (hk.symm.trans z.1)),if_neg ha]
def grp(ps:List Party)(n x:Bytes)(r:List Bytes):Option (List Party):=match RULES.findIdx? fun y=>y == x,r with
   |some rule,o::ms=>if o=text "of" then
     (let own:=ms.takeWhile fun w=>w !=text "weighs"
     match findAll ps own,weightIn (ms.drop own.length)with
     |some is,some w=>if 1<=is.length/\is.length<=MEMBERS/\distinct is=true/\is.all (fun i=>(free ps).contains i)=true then some (ps++[{name:=n,weight:=w,kind:=.group rule is}])else none
     |_,_=>none)else none
   |_,_=>none
theorem Cy{ps:List Party}{k n a x:Bytes}{r:List Bytes}(h:¬(isName n=false∨(find ps n).isSome=true∨PARTIES<=ps.length))(hk:k=text "group"):lineOf ps (k::n::a::x::r) =
  if a=text "by" then grp ps n x r else none:=by
 unfold lineOf;dsimp only;rw[if_neg h,if_neg (fun z=>Kz (z.1.symm.trans hk))];by_cases ha:a=text "by"
 ·rw[if_pos ⟨hk,ha⟩,if_pos ha];rfl
 ·rw[if_neg (fun z=>ha z.2),if_neg ha]
theorem Cz{ps:List Party}{k n a x:Bytes}{r:List Bytes}(h:¬(isName n=false∨(find ps n).isSome=true∨PARTIES<=ps.length))(h1:k≠text "person")(h2:k≠text "group"):lineOf ps (k::n::a::x::r)=none:=by
 unfold lineOf;dsimp only;rw[if_neg h,if_neg (fun z=>h1 z.1),if_neg (fun z=>h2 z.1)]
theorem Fw{ps:List Party}{n x:Bytes}{r:List Bytes}(h:(RULES.findIdx? fun y=>y == x)=none):grp ps n x r=none:=by
 unfold grp;rw[h]
theorem Hu{ps:List Party}{n x o:Bytes}{ms:List Bytes}{rule:Nat}(h:(RULES.findIdx? fun y=>y == x)=some rule):grp ps n x (o::ms)=if o=text "of" then
  ((weightIn (ms.drop (ms.takeWhile fun w=>w !=text "weighs").length)).bind fun w=>(readM ps (ms.takeWhile fun w=>w !=text "weighs")).map fun is=>ps++[{name:=n,weight:=w,kind:=.group rule is}])else none:=by
 unfold grp;rw[h];dsimp only;by_cases ho:o=text "of"
 ·rw[if_pos ho,if_pos ho,Ib];cases hf:findAll ps (ms.takeWhile fun w=>w !=text "weighs")with
  |none=>
   cases weightIn (ms.drop (ms.takeWhile fun w=>w !=text "weighs").length)<;>rfl
  |some is=>
   cases weightIn (ms.drop (ms.takeWhile fun w=>w !=text "weighs").length)with
   |none=>rfl
   |some w=>
    show(if _ then _ else _)=((if 1<=is.length/\is.length<=MEMBERS/\distinct is=true/\is.all (fun i=>(free ps).contains i)=true then some is else none).map _);split<;>rfl
 ·rw[if_neg ho,if_neg ho]
theorem Sv{ps:List Party}{n x:Bytes}:grp ps n x []=none:=by
 unfold grp;cases RULES.findIdx? fun y=>y == x<;>rfl
theorem Qh(ms:List Bytes):(text "weighs"∉ms/\(ms.takeWhile fun w=>w !=text "weighs")=ms)∨
  ∃own rest,text "weighs"∉own/\ms=own++text "weighs" ::rest/\(ms.takeWhile fun w=>w !=text "weighs")=own:=by
 induction ms with
 |nil=>exact .inl ⟨by simp,rfl⟩
 |cons m ms ih=>
  by_cases h:m=text "weighs"
  ·refine .inr ⟨[],ms,by simp,by rw[h];rfl,?_⟩;rw[List.takeWhile_cons,h];simp
  ·have e:(m !=text "weighs")=true:=by simpa using h
   rcases ih with⟨a,b⟩ | ⟨own,rest,a,b,c⟩
   ·refine .inl ⟨fun z=>?_,by rw[List.takeWhile_cons,if_pos e,b]⟩;rcases vJ z with z|z
    ·exact h z.symm
    ·exact a z
   ·refine .inr ⟨m::own,rest,fun z=>?_,by rw[b];rfl,by rw[List.takeWhile_cons,if_pos e,c]⟩;rcases vJ z with z|z
    ·exact h z.symm
    ·exact a z
def Nw(ps:List Party):Prop:=∀p∈ps,p.name≠text "weighs"
theorem Uk{ps:List Party}(h:Nw ps):find ps (text "weighs")=none:=by
 unfold find;rw[List.findIdx?_eq_none_iff];intro p hp;simpa using h p hp
theorem Ko{ps:List Party}(h:Nw ps):∀{ws:List Bytes},text "weighs"∈ws->findAll ps ws=none
 | [],m=>by simp at m
 |w::l,m=>by
  show(find ps w).bind _=none;rcases vJ m with z|z
  ·rw[<-z,Uk h];rfl
  ·rw[Ko h z];cases find ps w<;>rfl
theorem Pz{ps:List Party}(h:Nw ps){ws:List Bytes}(m:text "weighs"∈ws):readM ps ws=none:=by
 rw[Ib,Ko h m];rfl
theorem Nb{l:List Bytes}{W:Bytes}:weightIn [text "weighs",W]=numberIn 1 WEIGHT W:=by
 show(if text "weighs"=text "weighs" then numberIn 1 WEIGHT W else none)=_;rw[if_pos rfl]
theorem Ed{l:List Bytes}(h:3<=l.length):weightIn l=none:=by
 match l,h with
 |_::_::_::_,_=>rfl
theorem aL{vs:List Bytes}{a W:Bytes}(h:1<=vs.length)(ha:a=text "weighs"):bare (vs++[a,W])=vs/\wtOf (vs++[a,W])=numOf W:=by
 have hw:weighs (vs++[a,W]):=by
  refine⟨by simp;omega,?_⟩;rw[show(vs++[a,W]).length - 2=vs.length by simp,List.getD_eq_getElem?_getD,List.getElem?_append_right (Nat.le_refl _),Nat.sub_self];exact ha
 unfold bare wtOf;rw[if_pos hw,if_pos hw,show(vs++[a,W]).length - 2=vs.length by simp,show(vs++[a,W]).length - 1=vs.length + 1 by simp,List.take_left,List.getD_eq_getElem?_getD,
  List.getElem?_append_right (Nat.le_succ _),Nat.succ_eq_add_one,Nat.add_sub_cancel_left]
 exact⟨rfl,rfl⟩
theorem X8{ws:List Bytes}(h:weighs ws):∃vs W,ws=vs++[text "weighs",W]/\1<=vs.length:=by
 obtain⟨h1,h2⟩ :=h;refine⟨ws.take (ws.length - 2),ws.getD (ws.length - 1) [],?_,by rw[vU];omega⟩
 conv=>lhs;rw[<-List.take_append_drop (ws.length - 2) ws]
 congr 1;rw[<-h2];refine List.ext_getElem? fun i=>?_;rw[List.getElem?_drop]
 match i with
 |0=>
  rw[vS,Nat.add_zero];rw[vC (by omega)];rfl
 |1=>
  rw[show ws.length - 2 + 1=ws.length - 1 by omega,List.getD_eq_getElem?_getD (i:=ws.length - 1)];rw[List.getElem?_eq_getElem (i:=ws.length - 1) (by omega)];rfl
 |i + 2=>
  rw[List.getElem?_eq_none (by omega)];rfl
theorem Pb{ws:List Bytes}(h:¬weighs ws):bare ws=ws/\wtOf ws=1:=by
 unfold bare wtOf;rw[if_neg h,if_neg h];exact⟨rfl,rfl⟩
theorem Vx:(RULES.findIdx? fun y=>y == text "weighs")=none:=by decide
theorem Xe(lo hi:Nat):numberIn lo hi (text "weighs")=none:=by
 unfold numberIn;rw[if_pos (.inr (.inl (by decide)))]
theorem dU{W:Bytes}:numberIn 1 WEIGHT W=if 1<=numOf W/\numOf W<=100 then some (numOf W).toNat else none:=Hy 1 100 W
theorem Gf{ps:List Party}:∀{ws:List Bytes},ws.length < 4->lineOf ps ws=none
 | [],_=>rfl
 | [_],_=>rfl
 | [_,_],_=>rfl
 | [_,_,_],_=>rfl
theorem Eo{ps:List Party}{ws:List Bytes}(h:(bare ws).length < 4):readParty ps ws=none:=by
 unfold readParty;rw[Vs h,Ia (by omega)];split
 ·rfl
 split
 ·rfl
 split
 ·rfl
 split<;>rfl
theorem Ro{ps:List Party}{ws:List Bytes}(hN:Nw ps)(hl:ps.length<=30)(hw:∀w∈ws,w≠[]):lineOf ps ws=(readParty ps ws).map fun p=>ps++[p]:=by
 by_cases hs:ws.length < 4
 ·rw[Gf hs,Eo]
  ·rfl
  ·unfold bare;split
   ·rw[vU];omega
   ·exact hs
 obtain⟨k,n,a,x,r,rfl⟩ :∃k n a x r,ws=k::n::a::x::r:=by
  match ws,hs with
  |k::n::a::x::r,_=>exact⟨_,_,_,_,_,rfl⟩
  | [],h=>simp at h
  | [_],h=>simp at h
  | [_,_],h=>simp at h
  | [_,_,_],h=>simp at h
 have hn:n≠[]:=hw n (by simp);by_cases hww:weighs (k::n::a::x::r)
 ·obtain⟨vs,W,e,hv⟩ :=X8 hww;have⟨hb,ht⟩ :=aL (W:=W) hv rfl;rw[<-e]at hb ht
  match vs,e with
  | [],_=>simp at hv
  | [_],e=>simp at e
  | [k',n'],e=>
   injection e with e1 e;injection e with e2 e;injection e with e3 e;injection e with e4 e5
   have hz:readParty ps (k::n::a::x::r)=none:=Eo (by rw[hb];simp);rw[hz];by_cases hA:isName n=false∨(find ps n).isSome=true∨PARTIES<=ps.length
   ·rw[Db hA];rfl
   by_cases h1:k=text "person"
   ·rw[Ck hA h1,if_neg (by rw[e3];decide)];rfl
   by_cases h2:k=text "group"
   ·rw[Cy hA h2,if_neg (by rw[e3];decide)];rfl
   rw[Cz hA h1 h2];rfl
  | [k',n',a'],e=>
   injection e with e1 e;injection e with e2 e;injection e with e3 e;injection e with e4 e5
   have hz:readParty ps (k::n::a::x::r)=none:=Eo (by rw[hb];simp);rw[hz];by_cases hA:isName n=false∨(find ps n).isSome=true∨PARTIES<=ps.length
   ·rw[Db hA];rfl
   by_cases h1:k=text "person"
   ·rw[Ck hA h1,e4,Xe];split<;>rfl
   by_cases h2:k=text "group"
   ·rw[Cy hA h2,e4,Fw Vx];split<;>rfl
   rw[Cz hA h1 h2];rfl
  |k'::n'::a'::x'::r',e=>
   injection e with e1 e;injection e with e2 e;injection e with e3 e;injection e with e4 e5
   subst e1 e2 e3 e4;have e5:r=r'++[text "weighs",W]:=e5;by_cases hA:isName n=false∨(find ps n).isSome=true∨PARTIES<=ps.length
   ·rw[Db hA,Ic hb hn hl hA];rfl
   rw[K2 hb hn hA,ht];by_cases h1:k=text "person"
   ·rw[Ck hA h1,if_pos h1,Vr,e5];by_cases h3:a=text "claims"
    ·rw[if_pos h3];cases r' with
     |nil=>
      rw[if_pos (show([]:List Bytes)= []/\a=text "claims" from⟨rfl,h3⟩)];show(numberIn 0 CLAIM x).bind (fun c=>(weightIn [text "weighs",W]).map _)=_;rw[Nb (l:=[]),dU];cases numberIn 0 CLAIM x with
      |none=>split<;>rfl
      |some c=>split<;>rfl
     |cons y r'=>
      rw[if_neg (show¬(y::r'= []/\a=text "claims") from by simp),Ed (by simp)];cases numberIn 0 CLAIM x<;>split<;>rfl
    ·rw[if_neg h3,if_neg (show¬(r'= []/\a=text "claims") from fun z=>h3 z.2)];split<;>rfl
   by_cases h2:k=text "group"
   ·rw[Cy hA h2,if_neg h1,if_pos h2,e5];cases r' with
    |nil=>
     rw[Ia (by simp)];have:grp ps n x ([]++[text "weighs",W])=none:=by
      cases hr:RULES.findIdx? fun y=>y == x with
      |none=>exact Fw hr
      |some rule=>
       show grp ps n x (text "weighs" ::[W])=none;rw[Hu hr,if_neg (by decide)]
     rw[this];split<;>split<;>rfl
    |cons o ms=>
     rw[Vq];show(if a=text "by" then grp ps n x (o::(ms++[text "weighs",W]))else none)=_;by_cases h3:a=text "by"
     ·rw[if_pos h3];cases hr:RULES.findIdx? fun y=>y == x with
      |none=>
       rw[Fw hr];split
       ·split<;>rfl
       ·rfl
      |some rule=>
       rw[Hu hr];by_cases h4:o=text "of"
       ·rw[if_pos h4,if_pos (show a=text "by"/\o=text "of" from⟨h3,h4⟩)];rcases Qh ms with⟨q1,q2⟩ | ⟨own,rest,q1,q2,q3⟩
        ·have q3:((ms++[text "weighs",W]).takeWhile fun w=>w !=text "weighs")=ms:=by
          rw[List.takeWhile_append,q2,if_pos rfl,List.takeWhile_cons,if_neg (by simp),List.append_nil]
         rw[q3,List.drop_left,Nb (l:=[]),dU];show _=Option.map _ (if _ then(readM ps ms).map _ else none);split
         ·cases readM ps ms<;>rfl
         ·rfl
        ·have hm:text "weighs"∈ms:=by rw[q2];simp
         rw[Pz hN hm];have q4:((ms++[text "weighs",W]).takeWhile fun w=>w !=text "weighs")=own:=by
          rw[q2,List.append_assoc,List.takeWhile_append_of_pos]
          ·rw[List.cons_append,List.takeWhile_cons,if_neg (by simp),List.append_nil]
          ·intro w hw;simp only [bne_iff_ne,ne_eq];exact fun z=>q1 (z▸hw)
         rw[q4,q2,List.append_assoc,List.drop_left,Ed (by simp)];show none=Option.map _ (if _ then none else none);split<;>rfl
       ·rw[if_neg h4,if_neg (show¬(a=text "by"/\o=text "of") from fun z=>h4 z.2)];split<;>rfl
     ·rw[if_neg h3,if_neg (show¬(a=text "by"/\o=text "of") from fun z=>h3 z.1)];split<;>rfl
   rw[Cz hA h1 h2,if_neg h1,if_neg h2];split<;>rfl
 ·have⟨hb,ht⟩ :=Pb hww;by_cases hA:isName n=false∨(find ps n).isSome=true∨PARTIES<=ps.length
  ·rw[Db hA,Ic hb hn hl hA];rfl
  rw[K2 hb hn hA,ht,if_pos ⟨by decide,by decide⟩];by_cases h1:k=text "person"
  ·rw[Ck hA h1,if_pos h1,Vr];by_cases h3:a=text "claims"
   ·rw[if_pos h3]
    match r with
    | []=>
     rw[if_pos ⟨rfl,h3⟩];cases numberIn 0 CLAIM x<;>rfl
    | [y]=>
     rw[if_neg (by simp)];cases numberIn 0 CLAIM x<;>rfl
    | [y,z]=>
     rw[if_neg (by simp)];have:weightIn [y,z]=none:=by
      show(if y=text "weighs" then _ else _)=_;rw[if_neg];intro q;exact hww ⟨by simp,q⟩
     rw[this];cases numberIn 0 CLAIM x<;>rfl
    |y::z::u::r=>
     rw[if_neg (by simp),Ed (by simp)];cases numberIn 0 CLAIM x<;>rfl
   ·rw[if_neg h3,if_neg (fun z=>h3 z.2)];rfl
  by_cases h2:k=text "group"
  ·rw[Cy hA h2,if_neg h1,if_pos h2];cases r with
   |nil=>
    rw[Ia (by simp),Sv];split<;>rfl
   |cons o ms=>
    rw[Vq];by_cases h3:a=text "by"
    ·rw[if_pos h3];cases hr:RULES.findIdx? fun y=>y == x with
     |none=>
      rw[Fw hr];split<;>rfl
     |some rule=>
      rw[Hu hr];by_cases h4:o=text "of"
      ·rw[if_pos h4,if_pos ⟨h3,h4⟩];rcases Qh ms with⟨q1,q2⟩ | ⟨own,rest,q1,q2,q3⟩
       ·rw[q2,List.drop_length];show _=Option.map _ ((readM ps ms).map _);show((readM ps ms).map _)=_;cases readM ps ms<;>rfl
       ·have hm:text "weighs"∈ms:=by rw[q2];simp
        rw[Pz hN hm,q3];have:weightIn (ms.drop own.length)=none:=by
         rw[q2,List.drop_left]
         match rest,q2 with
         | [],_=>rfl
         | [W],q2=>
          exfalso;apply hww;refine⟨by simp,?_⟩;rw[q2,show(k::n::a::x::o::(own++[text "weighs",W]))=(k::n::a::x::o::own)++[text "weighs",W] from rfl,List.length_append];rw[show(k::n::a::x::o::own).length + [text "weighs",W].length - 2=(k::n::a::x::o::own).length from by simp,List.getD_eq_getElem?_getD,
           List.getElem?_append_right (Nat.le_refl _),Nat.sub_self]
          rfl
         |_::_::_,_=>exact Ed (by simp)
        rw[this];rfl
      ·rw[if_neg h4,if_neg (fun z=>h4 z.2)];rfl
    ·rw[if_neg h3,if_neg (fun z=>h3 z.1)];rfl
  rw[Cz hA h1 h2,if_neg h1,if_neg h2];rfl
theorem O9{n:Bytes}(h:isName n=true):plain n:=by
 unfold isName at h;simp only [Bool.and_eq_true]at h;exact Gj (fun b h=>V5 h) h.2.2.1
theorem eX{n:Bytes}(h:isName n=true):n≠text "weighs":=by
 intro e;rw[e]at h;revert h;decide
theorem V7:∀ms:List Bytes,((ms.map (List.map nrm)).takeWhile fun w=>w !=text "weighs")=(ms.takeWhile fun w=>w !=text "weighs").map (List.map nrm)
 | []=>rfl
 |m::ms=>by
  have e:(m.map nrm !=text "weighs")=(m !=text "weighs"):=by
   rw[Bool.eq_iff_iff,bne_iff_ne,bne_iff_ne];exact not_congr (by rw[Gd (by decide)])
  rw[vV,List.takeWhile_cons,List.takeWhile_cons,e,V7 ms];split<;>rfl
theorem Z1{ps:List Party}(h:Nm ps)(ws:List Bytes):readM ps (ws.map (List.map nrm))=readM ps ws:=by
 rw[Ib,Ib,Ml h]
theorem eP{ps:List Party}(h:Nm ps)(n x:Bytes)(r:List Bytes):grp ps n (x.map nrm) (r.map (List.map nrm))=grp ps n x r:=by
 have hr:=cU x;cases hx:RULES.findIdx? fun y=>y == x with
 |none=>rw[Fw hx,Fw (hr.trans hx)]
 |some rule=>
  cases r with
  |nil=>rw[List.map_nil,Sv,Sv]
  |cons o ms=>
   rw[vV,Hu hx,Hu (hr.trans hx),V7,vB,<-List.map_drop,Ql,Z1 h];exact ite_congr (Gd (by decide)) (fun _=>rfl) fun _=>rfl
theorem W6{ps:List Party}(h:Nm ps)(ws:List Bytes):lineOf ps (ws.map (List.map nrm))=lineOf ps ws:=by
 by_cases hs:ws.length < 4
 ·rw[Gf hs,Gf (by rw[vB];exact hs)]
 obtain⟨k,n,a,x,r,rfl⟩ :∃k n a x r,ws=k::n::a::x::r:=by
  match ws,hs with
  |k::n::a::x::r,_=>exact⟨_,_,_,_,_,rfl⟩
  | [],h=>simp at h
  | [_],h=>simp at h
  | [_,_],h=>simp at h
  | [_,_,_],h=>simp at h
 rw[vV,vV,vV,vV];by_cases hA:isName n=false∨(find ps n).isSome=true∨PARTIES<=ps.length
 ·rw[Db hA,Db (by rw[bW,Uj h];exact hA)]
 have hn:n.map nrm=n:=Lz (O9 (by
  cases hq:isName n with
  |true=>rfl
  |false=>exact absurd (.inl hq) hA))
 rw[hn];have kp:(k.map nrm=text "person")=(k=text "person"):=Gd (by decide);have kg:(k.map nrm=text "group")=(k=text "group"):=Gd (by decide);by_cases h1:k=text "person"
 ·rw[Ck hA h1,Ck hA (by rw[kp];exact h1),Pc,Ql];exact ite_congr (Gd (by decide)) (fun _=>rfl) fun _=>rfl
 by_cases h2:k=text "group"
 ·rw[Cy hA h2,Cy hA (by rw[kg];exact h2),eP h];exact ite_congr (Gd (by decide)) (fun _=>rfl) fun _=>rfl
 rw[Cz hA h1 h2,Cz hA (fun z=>h1 (kp.mp z)) (fun z=>h2 (kg.mp z))]
theorem Xw{ws:List Bytes}{wt:Nat}{p:Party}(h:readP ws wt=some p):p.name=ws.getD 1 []/\p.weight=wt/\∃c,c<=1000000/\p.kind=.person c:=by
 unfold readP at h;split at h
 ·cases h
 ·split at h
  ·rename_i h2
   injection h with h
   rw[<-h];exact⟨rfl,rfl,_,by omega,rfl⟩
  ·cases h
theorem cW{x:Bytes}{r:Nat}(h:(RULES.findIdx? fun y=>y == x)=some r):r < 6:=by
 rw[List.findIdx?_eq_some_iff_getElem]at h;exact h.1
theorem Ou{ps:List Party}:∀{ws:List Bytes} {is:List Nat},findAll ps ws=some is->∀i∈is,i < ps.length
 | [],is,h=>by
  have:some []=some is:=h;injection this with h
  rw[<-h];simp
 |w::l,is,h=>by
  have h:(find ps w).bind (fun i=>(findAll ps l).map fun r=>i::r)=some is:=h;cases hf:find ps w with
  |none=>rw[hf]at h;cases h
  |some m=>
   rw[hf,Option.bind_some]at h;cases hl:findAll ps l with
   |none=>rw[hl]at h;cases h
   |some r=>
    rw[hl]at h;have:some (m::r)=some is:=h;injection this with h
    rw[<-h];intro i hi;rcases vJ hi with z|z
    ·rw[z];exact Yj hf
    ·exact Ou hl i z
theorem P0{ps:List Party}{ws:List Bytes}{is:List Nat}(h:readM ps ws=some is):is≠[]/\is.length<=8/\is.Nodup/\(∀i∈is,i < ps.length)/\∀i∈is,i∉taken ps:=by
 rw[Ib]at h;cases hf:findAll ps ws with
 |none=>rw[hf]at h;cases h
 |some js=>
  rw[hf,Option.bind_some]at h;split at h
  ·rename_i h2
   obtain⟨a,b,c,d⟩ :=h2;injection h with h
   subst h;have hl:=Ou hf;refine⟨fun z=>by rw[z]at a;simp at a,b,(Et _).mp c,hl,fun i hi=>(Ht (hl i hi)).mp (List.all_eq_true.mp d i hi)⟩
  ·cases h
theorem Xv{ps:List Party}{ws:List Bytes}{wt:Nat}{p:Party}(h:readG ps ws wt=some p):p.name=ws.getD 1 []/\p.weight=wt/\∃r is,r < 6/\p.kind=.group r is/\readM ps (ws.drop 5)=some is:=by
 unfold readG at h;split at h
 ·cases h
 ·split at h
  ·cases h
  ·rename_i r hr
   cases hm:readM ps (ws.drop 5)with
   |none=>rw[hm]at h;cases h
   |some is=>
    rw[hm]at h;have h:some _=some p:=h;injection h with h
    rw[<-h];exact⟨rfl,rfl,r,is,cW hr,rfl,rfl⟩
structure Good(ps:List Party):Prop where
 wf:PWf ps
 nm:∀p∈ps,isName p.name=true
theorem Good.nw{ps:List Party}(h:Good ps):Nw ps:=fun p hp=>eX (h.nm p hp)
theorem Good.pl{ps:List Party}(h:Good ps):Nm ps:=fun p hp=>O9 (h.nm p hp)
theorem O0:Good []:= ⟨⟨by decide,by simp,by simp,by simp,by simp,by simp,by simp,by simp,by simp,by simp⟩,by simp⟩
theorem Rr{ps:List Party}{i:Nat}{p:Party}{m:Nat}(hp:ps[i]? =some p)(hm:m∈mem p):m∈taken ps:=List.mem_flatMap.mpr ⟨p,vD hp,hm⟩
theorem PWf.snoc{ps:List Party}{p:Party}(h:PWf ps)(hl:ps.length < 30)(hw:1<=p.weight/\p.weight<=100)(ho:own p<=1000000)(hr:rul p<=5)(hs:∀r ms,p.kind=.group r ms->ms≠[])
  (hf:(mem p).length<=8) (hn:(mem p).Nodup) (hlt:∀m∈mem p,m < ps.length) (ht:∀m∈mem p,m∉taken ps) (hnl:p.name.length<=8):PWf (ps++[p]):=by
 have sp:∀{C:Party->Prop},(∀q∈ps,C q)->C p->∀q∈ps++[p],C q:=fun a b q hq=>by
  rcases v7 hq with z|z
  ·exact a q z
  ·rw[List.mem_singleton.mp z];exact b
 have gt:∀{i:Nat} {q:Party},(ps++[p])[i]? =some q->ps[i]? =some q∨(i=ps.length/\q=p):=fun{i q} e=>by
  by_cases hi:i < ps.length
  ·rw[List.getElem?_append_left hi]at e;exact .inl e
  ·rw[List.getElem?_append_right (by omega)]at e;have:i - ps.length=0:=by
    cases hz:i - ps.length with
    |zero=>rfl
    |succ z=>rw[hz]at e;simp at e
   rw[this]at e;injection e with e
   exact .inr ⟨by omega,e.symm⟩
 refine⟨by rw[vI,List.length_singleton];omega,sp h.wt hw,sp h.person ho,sp h.rule hr,sp h.some_ hs,sp h.few hf,sp h.nd hn,?_,?_,sp h.nml hnl⟩
 ·intro i q e m hm;rcases gt e with z| ⟨z1,z2⟩
  ·exact h.low i q z m hm
  ·rw[z1];rw[z2]at hm;exact hlt m hm
 ·intro i j q r e1 e2 m m1 m2;rcases gt e1 with z| ⟨z1,z2⟩ <;>rcases gt e2 with y| ⟨y1,y2⟩
  ·exact h.once i j q r z y m m1 m2
  ·rw[y2]at m2;exact absurd (Rr z m1) (ht m m2)
  ·rw[z2]at m1;exact absurd (Rr y m2) (ht m m1)
  ·omega
theorem Pu{ps:List Party}{ws:List Bytes}{p:Party}(g:Good ps)(hw:∀w∈ws,w≠[])(h:readParty ps ws=some p):Good (ps++[p])/\ps.length < 30:=by
 unfold readParty at h;split at h
 ·cases h
 rename_i h1
 split at h
 ·cases h
 rename_i h2
 have hwt:1<=wtOf ws/\wtOf ws<=100:=Classical.byContradiction fun z=>h1 (.inl z);have hl:ps.length < 30:=Nat.lt_of_le_of_ne g.wf.len fun z=>h1 (.inr z);have hb:2<=(bare ws).length:=Nat.not_lt.mp fun z=>h2 (.inl z);have hnm:nameB ((bare ws).getD 1 [])=true:=by
  cases hq:nameB ((bare ws).getD 1 [])with
  |true=>rfl
  |false=>exact absurd (.inr (.inl hq)) h2
 have hne:(bare ws).getD 1 []≠[]:=by
  rw[List.getD_eq_getElem?_getD,List.getElem?_eq_getElem (by omega)];apply hw;have:(bare ws)[1]∈bare ws:=List.getElem_mem _;revert this;unfold bare;split
  ·exact fun z=>List.mem_of_mem_take z
  ·exact id
 rw[<-S8 hne]at hnm;have hn8:((bare ws).getD 1 []).length<=8:=by
  unfold isName at hnm;rw[Bool.and_eq_true,Bool.and_eq_true]at hnm;exact of_decide_eq_true hnm.2.1
 refine⟨?_,hl⟩;have key:p.name=(bare ws).getD 1 []->PWf (ps++[p])->Good (ps++[p]):=fun e w=> ⟨w,fun q hq=>by
  rcases v7 hq with z|z
  ·exact g.nm q z
  ·rw[List.mem_singleton.mp z,e];exact hnm⟩
 split at h
 ·obtain⟨a,b,c,d,e⟩ :=Xw h;have hm:mem p= []:=by unfold mem;rw[e]
  refine key a (g.wf.snoc hl (by rw[b];omega) (by unfold own;rw[e];exact d) (by unfold rul;rw[e];exact Nat.zero_le _) (by rw[e];intro r ms z;cases z) (by rw[hm];decide) (by rw[hm];exact .nil) (by rw[hm];simp) (by rw[hm];simp) (by rw[a];exact hn8))
 ·split at h
  ·obtain⟨a,b,r,is,c,d,e⟩ :=Xv h;have hm:mem p=is:=by unfold mem;rw[d]
   obtain⟨i1,i2,i3,i4,i5⟩ :=P0 e;refine key a (g.wf.snoc hl (by rw[b];omega) (by unfold own;rw[d];exact Nat.zero_le _) (by unfold rul;rw[d];show r<=5;omega) (by rw[d];intro r ms z;injection z with _ z;rw[<-z];exact i1) (by rw[hm];exact i2) (by rw[hm];exact i3) (by rw[hm];exact i4) (by rw[hm];exact i5) (by rw[a];exact hn8))
  ·cases h
theorem Ll(l:Bytes):∀w∈wordsOf l,w≠[]:=fun w hw=>by
 unfold wordsOf at hw;have:=(List.mem_filter.mp hw).2;intro e;rw[e]at this;exact absurd this (by decide)
theorem Gk:∀(ls:List Bytes) (i:Nat) (ps:List Party),Good ps->readFrom i ps (ls.map (List.map nrm))=readFrom i ps ls
 | [],_,_,_=>rfl
 |l::ls,i,ps,g=>by
  show(if (wordsOf (l.map nrm)).isEmpty=true then readFrom (i + 1) ps (ls.map (List.map nrm))else match lineOf ps (wordsOf (l.map nrm))with
   |some x=>readFrom (i + 1) x (ls.map (List.map nrm))
   |none=>.error i)=(if (wordsOf l).isEmpty=true then readFrom (i + 1) ps ls else match lineOf ps (wordsOf l)with
   |some x=>readFrom (i + 1) x ls
   |none=>.error i)
  rw[aG,W6 g.pl,Gk ls (i + 1) ps g,List.isEmpty_map];split
  ·rfl
  ·have e:=Ro g.nw g.wf.len (Ll l);cases hp:readParty ps (wordsOf l)with
   |none=>rw[hp]at e;rw[e];rfl
   |some p=>
    rw[hp]at e;have e:lineOf ps (wordsOf l)=some (ps++[p]):=e;rw[e];exact Gk ls (i + 1) _ (Pu g (Ll l) hp).1
theorem Nv(t:Bytes):readSharing (t.map nrm)=readSharing t:=by
 unfold readSharing;rw[Zn];exact Gk _ _ _ O0
def hasRoot(ps:List Party):Bool:=if ps.length=0 then false else(List.range (ps.length - 1)).all fun n=>decide (n∈taken ps)
theorem fM{ps:List Party}(h:PWf ps):whole_ ps=hasRoot ps:=by
 unfold whole_ hasRoot;cases ps with
 |nil=>rfl
 |cons q qs=>
  rw[if_neg (by simp)];generalize hps:q::qs=ps at *;have hlen:ps.length=(ps.length - 1) + 1:=by rw[<-hps];simp
  have he:ps.isEmpty=false:=by rw[<-hps];rfl
  rw[he,Bool.not_false,Bool.and_true];have hroot:ps.length - 1∉taken ps:=by
   intro hm;obtain⟨p,hp,hi⟩ :=List.mem_flatMap.mp hm;obtain⟨i,e⟩ :=List.mem_iff_getElem?.mp hp;have:=h.low i p e _ hi;have h2:i < ps.length:=by
    rcases Nat.lt_or_ge i ps.length with z|z
    ·exact z
    ·rw[List.getElem?_eq_none z]at e;cases e
   omega
  have hfree:∀i,i∈free ps↔i < ps.length/\i∉taken ps:=fun i=>by
   constructor
   ·intro m;have hi:i < ps.length:=by unfold free at m;exact List.mem_range.mp (List.mem_filter.mp m).1
    exact⟨hi,(Ht hi).mp (List.contains_iff_mem.mpr m)⟩
   ·rintro ⟨a,b⟩;exact List.contains_iff_mem.mp ((Ht a).mpr b)
  rw[Bool.eq_iff_iff,beq_iff_eq,List.all_eq_true];constructor
  ·intro e n hn;rw[List.mem_range]at hn;apply decide_eq_true;refine Classical.byContradiction fun z=>?_;have:=(hfree n).mpr ⟨by omega,z⟩;rw[e,List.mem_singleton]at this;omega
  ·intro a;have hall:∀i∈free ps,i=ps.length - 1:=fun i m=>by
    obtain⟨x,y⟩ :=(hfree i).mp m;refine Classical.byContradiction fun z=>y ?_;exact vG (a i (List.mem_range.mpr (by omega)))
   have hm:ps.length - 1∈free ps:=(hfree _).mpr ⟨by omega,hroot⟩;have hnd:(free ps).Nodup:=by unfold free;exact List.Pairwise.sublist List.filter_sublist List.nodup_range
   revert hall hm hnd;generalize free ps=l;intro hall hm hnd
   match l with
   | []=>simp at hm
   | [x]=>rw[hall x (by simp)]
   |x::y::l=>
    rw[List.nodup_cons]at hnd;exact absurd (by rw[hall x (by simp),hall y (by simp)];simp) hnd.1
open PyVbirad (shape)
theorem dR(c:List (List Int)):PyVbirad.whole c=c:=by
 rcases c with _| ⟨_| ⟨x|x,r⟩,t⟩
 iterate 2 rfl
 ·iterate 18
   rcases x with _|x
   ·rcases t with _| ⟨b,_|_⟩ <;>rcases r with _| ⟨_,_| ⟨_,_| ⟨_,_|_⟩⟩⟩ <;>rfl
  rfl
 ·rfl
theorem Sf(cs:List (List (List Int))):cs.map PyVbirad.whole=cs:=by
 conv=>rhs;rw[<-List.map_id cs]
 exact vY fun c _=>dR c
def numsOf:List Nat:=[0,1,2,2,0,1,0,1,1,1,2,3,2,2,1,2,0,0]
def rowsOf(p:Nat):Nat:=if p=0∨p=8 then 1 else 0
theorem X1{p:Int}{n k:Nat}(h:shape p=some (n,k)):∃q:Nat,p=(q:Int)/\q < 18/\numsOf[q]? =some n/\k=rowsOf q:=by
 have hp:0<=p/\p<=17:=by
  refine Classical.byContradiction fun z=>?_;have:shape p=none:=by
   unfold PyVbirad.shape
   iterate 18 rw[if_neg (by omega)]
  rw[this]at h;cases h
 obtain⟨q,rfl⟩ :∃q:Nat,p=(q:Int):= ⟨p.toNat,by omega⟩;have hq:q < 18:=by omega
 refine⟨q,rfl,hq,?_⟩;have:∀q:Nat,q < 18->∀x,shape (q:Int)=some x->numsOf[q]? =some x.1/\x.2=rowsOf q:=by
  intro q hq x hx;have tab:∀q:Fin 18,shape ((q.1:Nat):Int)=some (numsOf.getD q.1 0,rowsOf q.1)/\numsOf[q.1]? =some (numsOf.getD q.1 0):=by decide +kernel
  obtain⟨t1,t2⟩ :=tab ⟨q,hq⟩;have t1:shape (q:Int)=some (numsOf.getD q 0,rowsOf q):=t1;rw[t1]at hx;injection hx with hx
  rw[<-hx];exact⟨t2,rfl⟩
 exact this q hq _ h
inductive Head(q n:Nat)(r:List Int):List (List Int)->List Int->Prop
 |bare:rowsOf q=0->n<=r.length->Head q n r [(q:Int)::r.take n] (r.drop n)
 |row (m:Nat) (s:List Int):rowsOf q=1->n<=r.length->r.drop n=(m:Int)::s->m<=s.length->Head q n r [(q:Int)::r.take n,s.take m] (s.drop m)
theorem Wp{f:Nat}{p:Int}{r:List Int}{cs:List (List (List Int))}(h:PyFlat.calls shape f (p::r)=some cs):
  ∃q n c t cs' f',p=((q:Nat):Int)/\q < 18/\numsOf[q]? =some n/\cs=c::cs'/\PyFlat.calls shape f' t=some cs'/\Head q n r c t:=by
 cases f with
 |zero=>cases h
 |succ f=>
  have h:(match PyFlat.call shape (p::r)with
   |none=>none
   |some (c,t)=>match PyFlat.calls shape f t with
    |none=>none
    |some cs=>some (c::cs))=some cs:=h
  cases hc:PyFlat.call shape (p::r)with
  |none=>rw[hc]at h;cases h
  |some ct=>
   obtain⟨c,t⟩ :=ct;rw[hc]at h;cases hcs:PyFlat.calls shape f t with
   |none=>
    have h:(match PyFlat.calls shape f t with
     |none=>none
     |some cs=>some (c::cs))=some cs:=h
    rw[hcs]at h;cases h
   |some cs'=>
    have h:(match PyFlat.calls shape f t with
     |none=>none
     |some cs=>some (c::cs))=some cs:=h
    rw[hcs]at h;have hcons:c::cs'=cs:=vE h;have hc:(match shape p with
     |none=>none
     |some (n,k)=>if r.length < n then none else match PyFlat.rows k (r.drop n)with
      |none=>none
      |some (xs,t)=>some ((p::r.take n)::xs,t))=some (c,t):=hc
    cases hs:shape p with
    |none=>rw[hs]at hc;cases hc
    |some nk=>
     obtain⟨n,k⟩ :=nk;rw[hs]at hc;obtain⟨q,rfl,hq,hn,hk⟩ :=X1 hs;have hc:(if r.length < n then none else match PyFlat.rows k (r.drop n)with
      |none=>none
      |some (xs,t)=>some (((q:Int)::r.take n)::xs,t))=some (c,t):=hc
     by_cases hl:r.length < n
     ·rw[if_pos hl]at hc;cases hc
     rw[if_neg hl]at hc;refine⟨q,n,c,t,cs',f,rfl,hq,hn,hcons.symm,hcs,?_⟩;have hk01:k=0∨k=1:=by rw[hk];unfold rowsOf;split<;>simp
     rcases hk01 with k0|k1
     ·rw[k0]at hc hk;have hc:some (((q:Int)::r.take n)::[],r.drop n)=some (c,t):=hc;injection hc with hc
      injection hc with h1 h2
      rw[<-h1,<-h2];exact .bare hk.symm (by omega)
     ·rw[k1]at hc hk;cases hd:r.drop n with
      |nil=>rw[hd]at hc;cases hc
      |cons m s=>
       rw[hd]at hc;have hc:(match (match PyFlat.row (m::s)with
        |none=>none
        |some (x,s)=>(match PyFlat.rows 0 s with
         |none=>none
         |some (xs,t)=>some (x::xs,t)):Option (List (List Int)×List Int))with
        |none=>none
        |some (xs,t)=>some (((q:Int)::r.take n)::xs,t))=some (c,t):=hc
       by_cases hm:0<=m/\m.toNat<=s.length
       ·have hrow:PyFlat.row (m::s)=some (s.take m.toNat,s.drop m.toNat):=by
         show(if 0<=m/\m.toNat<=s.length then some (s.take m.toNat,s.drop m.toNat)else none)=_;rw[if_pos hm]
        rw[hrow]at hc;have hc:some (((q:Int)::r.take n)::[s.take m.toNat],s.drop m.toNat)=some (c,t):=hc;injection hc with hc
        injection hc with h1 h2
        rw[<-h1,<-h2];refine .row m.toNat s hk.symm (by omega) ?_ hm.2;rw[hd,Int.toNat_of_nonneg hm.1]
       ·have hrow:PyFlat.row (m::s)=none:=by
         show(if 0<=m/\m.toNat<=s.length then some (s.take m.toNat,s.drop m.toNat)else none)=_;rw[if_neg hm]
        rw[hrow]at hc;cases hc
theorem Za{f:Nat}{cs:List (List (List Int))}(h:PyFlat.calls shape f []=some cs):cs= []:=by
 cases f<;>exact(vE h).symm
theorem Wo{l:List Int}{cs:List (List (List Int))}(h:PyFlat.calls shape l.length l=some cs):PyVbirad.answers l=PyFlat.told (PyFlat.played VbiradNeutral.step VbiradNeutral.start cs):=by
 unfold PyVbirad.answers PyVbirad.calls;rw[h];show PyFlat.told (PyFlat.played _ _ (cs.map PyVbirad.whole))=_;rw[Sf]
def mkCall(q:Nat)(ns row:List Int):Call:=match q with
 |0=>.sharing (row.map Int.toNat)
 |1=>.water (ns.getD 0 0)
 |2=>.claim (ns.getD 0 0) (ns.getD 1 0)
 |3=>.rule (ns.getD 0 0) (ns.getD 1 0)
 |4=>.shares
 |5=>.share (ns.getD 0 0)
 |6=>.claims
 |7=>.proof (ns.getD 0 0)
 |8=>.sure (ns.getD 0 0) row
 |9=>.core (ns.getD 0 0)
 |10=>.leave (ns.getD 0 0) (ns.getD 1 0)
 |11=>.split (ns.getD 0 0) (ns.getD 1 0) (ns.getD 2 0)
 |12=>.ifWater (ns.getD 0 0) (ns.getD 1 0)
 |13=>.ifClaim (ns.getD 0 0) (ns.getD 1 0)
 |14=>.rules (ns.getD 0 0)
 |15=>.least (ns.getD 0 0) (ns.getD 1 0)
 |16=>.print
 |_=>.counts
theorem Z7{h:House}(hp:h.parties= []){q:Nat}(h0:q≠0)(ns row:List Int):Vbirad.step h (mkCall q ns row)=(h,[-9]):=by
 have key:∀f,onSharing h f=(h,[-9]):=fun f=>by
  unfold onSharing;rw[if_pos (by rw[hp];rfl)];rfl
 have all:∀c:Call,(∀t,c≠.sharing t)->Vbirad.step h c=(h,[-9]):=fun c hc=>by
  cases c with
  |sharing t=>exact absurd rfl (hc t)
  |_=>simp only [Vbirad.step];exact key _
 refine all _ fun t e=>?_
 match q,h0 with
 |1,_=>cases e
 |2,_=>cases e
 |3,_=>cases e
 |4,_=>cases e
 |5,_=>cases e
 |6,_=>cases e
 |7,_=>cases e
 |8,_=>cases e
 |9,_=>cases e
 |10,_=>cases e
 |11,_=>cases e
 |12,_=>cases e
 |13,_=>cases e
 |14,_=>cases e
 |15,_=>cases e
 |16,_=>cases e
 |q + 17,_=>cases e
theorem list0{l:List Int}(h:l.length=0):l= []:=v5 h
theorem list1{l:List Int}(h:l.length=1):∃a,l= [a]:=match l,h with| [a],_=> ⟨a,rfl⟩
theorem list2{l:List Int}(h:l.length=2):∃a b,l= [a,b]:=match l,h with| [a,b],_=> ⟨a,b,rfl⟩
theorem list3{l:List Int}(h:l.length=3):∃a b c,l= [a,b,c]:=match l,h with| [a,b,c],_=> ⟨a,b,c,rfl⟩
theorem Y8{q:Nat}(hq:q < 18){ns row:List Int}(hn:numsOf[q]? =some ns.length):VbiradNeutral.callOf (if rowsOf q=1 then [(q:Int)::ns,row]else [(q:Int)::ns])=mkCall q ns row:=by
 match q,hq with
 |0,_=>obtain rfl:=list0 (vE hn).symm;rfl
 |1,_=>obtain⟨a,rfl⟩ :=list1 (vE hn).symm;rfl
 |2,_=>obtain⟨a,b,rfl⟩ :=list2 (vE hn).symm;rfl
 |3,_=>obtain⟨a,b,rfl⟩ :=list2 (vE hn).symm;rfl
 |4,_=>obtain rfl:=list0 (vE hn).symm;rfl
 |5,_=>obtain⟨a,rfl⟩ :=list1 (vE hn).symm;rfl
 |6,_=>obtain rfl:=list0 (vE hn).symm;rfl
 |7,_=>obtain⟨a,rfl⟩ :=list1 (vE hn).symm;rfl
 |8,_=>obtain⟨a,rfl⟩ :=list1 (vE hn).symm;rfl
 |9,_=>obtain⟨a,rfl⟩ :=list1 (vE hn).symm;rfl
 |10,_=>obtain⟨a,b,rfl⟩ :=list2 (vE hn).symm;rfl
 |11,_=>obtain⟨a,b,c,rfl⟩ :=list3 (vE hn).symm;rfl
 |12,_=>obtain⟨a,b,rfl⟩ :=list2 (vE hn).symm;rfl
 |13,_=>obtain⟨a,b,rfl⟩ :=list2 (vE hn).symm;rfl
 |14,_=>obtain⟨a,rfl⟩ :=list1 (vE hn).symm;rfl
 |15,_=>obtain⟨a,b,rfl⟩ :=list2 (vE hn).symm;rfl
 |16,_=>obtain rfl:=list0 (vE hn).symm;rfl
 |17,_=>obtain rfl:=list0 (vE hn).symm;rfl
theorem Y7{q:Nat}{ns row:List Int}(h:VbiradNeutral.asked1 [(q:Int)::ns,row]=true):(q=0->row.length<=2000/\∀n∈row,0<=n/\n<=255)/\(q=8->row.length<=8):=by
 unfold VbiradNeutral.asked1 VbiradNeutral.place at h;rw[Bool.and_eq_true]at h;have h2:=h.2;constructor
 ·rintro rfl;have h2:(ns.length + 1 == 1&&(((0:Int)::ns).all VbiradNeutral.whole60&&VbiradNeutral.textOk 2000 row))=true:=h2;rw[Bool.and_eq_true,Bool.and_eq_true]at h2;have h3:=h2.2.2;unfold VbiradNeutral.textOk NeutralIO.bytes at h3;rw[Bool.and_eq_true]at h3;refine⟨of_decide_eq_true h3.1,fun n hn=>?_⟩;have:=List.all_eq_true.mp h3.2 n hn;rw[Bool.and_eq_true]at this;exact⟨of_decide_eq_true this.1,of_decide_eq_true this.2⟩
 ·rintro rfl;have h2:(ns.length + 1 == 2&&(((8:Int)::ns).all VbiradNeutral.whole60&&(true&&VbiradNeutral.listOk 8 row)))=true:=h2;rw[Bool.and_eq_true,Bool.and_eq_true,Bool.and_eq_true]at h2;have h3:=h2.2.2.2;unfold VbiradNeutral.listOk at h3;rw[Bool.and_eq_true]at h3;exact of_decide_eq_true h3.1
end Dr
set_option Elab.async false
set_option linter.all false
set_option maxRecDepth 100000
namespace L2
open PySem PySem.Spec PyProof.Rows
abbrev Key:=Sum Int Str
def keyIs:Key->Value->Bool
 |.inl k,v=>Value.isInt k v
 |.inr x,v=>Value.isStrOf x v
def keyH(w:World):Key->Int
 |.inl k=>hashInt k
 |.inr x=>hashStr w x
theorem B2:∀{k:Key} {v:Value},keyIs k v=true->(∃i t,k=Sum.inl i/\v=Value.int i t)∨(∃x t,k=Sum.inr x/\v=Value.str x t)
 |.inl i,v,h=>by
  obtain⟨t,e⟩ :=Value.isInt_shape (k:=i) (v:=v) h;exact .inl ⟨i,t,rfl,e⟩
 |.inr x,v,h=>by
  obtain⟨t,e⟩ :=Value.isStrOf_shape (x:=x) (v:=v) h;exact .inr ⟨x,t,rfl,e⟩
theorem Zk(i:Int)(t:Tok):keyIs (.inl i) (.int i t)=true:=by simp[keyIs,Value.isInt]
theorem Zl(x:Str)(t:Tok):keyIs (.inr x) (.str x t)=true:=by simp[keyIs,Value.isStrOf]
theorem gS(a b:Int):decide ((Sum.inl a:Key)=Sum.inl b)=(a == b):=by
 by_cases e:a=b
 ·subst e;simp
 ·have h:¬(Sum.inl a:Key)=Sum.inl b:=fun q=>e (Sum.inl.inj q);rw[decide_eq_false h];exact(beq_eq_false_iff_ne.mpr e).symm
theorem gV(a b:Str):decide ((Sum.inr a:Key)=Sum.inr b)=decide (a=b):=by
 by_cases e:a=b
 ·subst e;simp
 ·have h:¬(Sum.inr a:Key)=Sum.inr b:=fun q=>e (Sum.inr.inj q);rw[decide_eq_false h,decide_eq_false e]
theorem gT(a:Int)(b:Str):decide ((Sum.inl a:Key)=Sum.inr b)=false:=decide_eq_false (fun q=>nomatch q)
theorem gU(a:Str)(b:Int):decide ((Sum.inr a:Key)=Sum.inl b)=false:=decide_eq_false (fun q=>nomatch q)
def mixKind(prog:Program)(w:World):PySem.KeyKind prog w Key where
 is:=keyIs
 hash:=keyH w
 inj:=fun v a b ha hb=>by
  rcases B2 ha with⟨i,t,rfl,rfl⟩ | ⟨x,t,rfl,rfl⟩
  ·rcases B2 hb with⟨j,u,rfl,e⟩ | ⟨y,u,rfl,e⟩
   ·injection e with e1 _;rw[e1]
   ·exact nomatch e
  ·rcases B2 hb with⟨j,u,rfl,e⟩ | ⟨y,u,rfl,e⟩
   ·exact nomatch e
   ·injection e with e1 _;rw[e1]
 byValue:=fun k v h=>by
  rcases B2 h with⟨i,t,rfl,rfl⟩ | ⟨x,t,rfl,rfl⟩ <;>rfl
 pyHash:=fun hv h=>by
  rcases B2 hv with⟨i,t,rfl,rfl⟩ | ⟨x,t,rfl,rfl⟩
  ·exact wpAny_pyHash_int h
  ·exact wpAny_pyHash_str h
 eqBool:=fun hu hv h=>by
  rcases B2 hu with⟨i,t,rfl,rfl⟩ | ⟨x,t,rfl,rfl⟩
  ·rcases B2 hv with⟨j,u,rfl,rfl⟩ | ⟨y,u,rfl,rfl⟩
   ·rw[gS]at h;exact wpAny_eqBool_int h
   ·rw[gT]at h;exact SeqAt.EqAt.int_str i t y u _ _ _ _ h
  ·rcases B2 hv with⟨j,u,rfl,rfl⟩ | ⟨y,u,rfl,rfl⟩
   ·rw[gU]at h;exact SeqAt.EqAt.str_int x t j u _ _ _ _ h
   ·rw[gV]at h;exact wpAny_eqBool_str h
 «strs»:=fun k x t v h=>by
  rcases B2 h with⟨i,u,rfl,e⟩ | ⟨y,u,rfl,e⟩
  ·exact nomatch e
  ·injection e with e1 _
   subst e1;cases v<;>rfl
theorem Uz(prog:Program)(w:World)(i:Int)(t:Tok):(mixKind prog w).is (.inl i) (.int i t)=true:=Zk i t
theorem U0(prog:Program)(w:World)(x:Str)(t:Tok):(mixKind prog w).is (.inr x) (.str x t)=true:=Zl x t
end L2
namespace L2
open PySem PySem.Spec PyProof.Rows
inductive V where
 |non|bl (b:Bool)|int (i:Int)|str (x:Str)|byt (b:Array UInt8)|flt (b:UInt64)|ref (a:Addr)|ty (n:String)
 deriving DecidableEq
def RelV:V->Value->Prop
 |.non,u=>u=Value.none
 |.bl b,u=>u=Value.bool b
 |.int i,u=>∃t,u=Value.int i t
 |.str x,u=>∃t,u=Value.str x t
 |.byt b,u=>∃t,u=Value.bytes b t
 |.flt b,u=>∃t,u=Value.float b t
 |.ref a,u=>u=Value.ref a
 |.ty n,u=>u=Value.type n
abbrev Vals:List V->List Value->Prop:=Paired RelV
theorem Vals.length{xs:List V}{us:List Value}(r:Vals xs us):xs.length=us.length:=Paired.length r
theorem Vals.get:∀{xs:List V} {us:List Value} {i:Nat} {x:V},Vals xs us->xs[i]? =some x->∃u,us[i]? =some u/\RelV x u
 |_,_,_,_,.nil,e=>by simp at e
 |_,_,0,_,.cons r _,e=>by simp at e;subst e;exact⟨_,rfl,r⟩
 |_,_,i + 1,x,.cons _ t,e=>by
  obtain⟨u,h1,h2⟩ :=Vals.get (i:=i) (x:=x) t (by simpa using e);exact⟨u,by simpa using h1,h2⟩
theorem Vals.set{x:V}{u:Value}(r:RelV x u):∀{xs:List V} {us:List Value} (i:Nat),Vals xs us->Vals (xs.set i x) (us.set i u)
 |_,_,_,.nil=>.nil
 |_,_,0,.cons _ t=>.cons r t
 |_,_,i + 1,.cons q t=>.cons q (Vals.set r i t)
theorem Vals.append:∀{xs ys:List V} {us ws:List Value},Vals xs us->Vals ys ws->Vals (xs++ys) (us++ws)
 |_,_,_,_,.nil,s=>s
 |_,_,_,_,.cons r t,s=>.cons r (Vals.append t s)
theorem Vals.take:∀{xs:List V} {us:List Value} (n:Nat),Vals xs us->Vals (xs.take n) (us.take n)
 |_,_,0,_=>.nil
 |_,_,_ + 1,.nil=>.nil
 |_,_,n + 1,.cons r t=>.cons r (Vals.take n t)
theorem Vals.drop:∀{xs:List V} {us:List Value} (n:Nat),Vals xs us->Vals (xs.drop n) (us.drop n)
 |_,_,0,r=>r
 |_,_,_ + 1,.nil=>.nil
 |_,_,n + 1,.cons _ t=>Vals.drop n t
def RelO:Option V->Option Value->Prop
 |some v,some u=>RelV v u
 |none,none=>True
 |_,_=>False
def KV{κ:Type}:List (κ×V)->List (κ×Value)->Prop:=Paired fun(p:κ×V) (q:κ×Value)=>p.1=q.1/\RelV p.2 q.2
def kV:Key->V
 |.inl i=>.int i
 |.inr x=>.str x
inductive HO where
 |lst (xs:List V)
 |tup (xs:List V)
 |dK (kvs:List (Key×V))|dT (kvs:List (List Key×V))
 |set (S:Int->Bool) (n:Nat)
 |ins (C dx:Addr) (fs:List (Str×V))
 |own (x:Addr)
 |xd (fs:List (Str×V))
 |met (f x:Addr)
 |rng (lo hi:Int)
 |frz (o:Obj) (u:HO)
 |tbl (ps:Array Value)
 |ext (φ:Heap->Prop)
abbrev Hp:=Addr->Option HO
def upd(H:Hp)(a:Addr)(o:HO):Hp:=fun b=>if b=a then some o else H b
theorem Ae{H:Hp}{a:Addr}{o:HO}:upd H a o a=some o:=by unfold upd;rw[if_pos rfl]
theorem Ak{H:Hp}{a b:Addr}{o:HO}(h:b≠a):upd H a o b=H b:=by unfold upd;rw[if_neg h]
theorem T8{H:Hp}{a:Addr}{o u:HO}:upd (upd H a o) a u=upd H a u:=by
 funext b;unfold upd;split<;>rfl
theorem iR{H:Hp}{a b:Addr}{o u:HO}(h:H a=some o)(h':H b=some u)(d:o≠u):a≠b:=by
 intro e;subst e;rw[h]at h';exact d (Option.some.inj h')
theorem Al{H:Hp}{a b:Addr}{o:HO}(h:H a=some o)(h':H b=none):a≠b:=by
 intro e;subst e;rw[h]at h';cases h'
section
variable (P:Program)(w:World)
def ObjOk(H:Hp)(h:Heap)(a:Addr):HO->Prop
 |.lst xs=>xs.length<=sizeLine/\∃(its:List Value) (n:Nat),Vals xs its/\h.get? a=some {cls:=.type "list",data:=.seq its.toArray n}
 |.tup xs=>xs.length<=sizeLine/\∃its:List Value,Vals xs its/\IsTup h a its.toArray
 |.dK kvs=>kvs.length<=sizeLine/\(a == sysModules)=false/\∃vs,KV kvs vs/\h.DictOf (mixKind P w) a vs
 |.dT kvs=>kvs.length<=sizeLine/\(a == sysModules)=false/\∃xs:List (List Key×Addr×Value),
   Paired (fun(p:List Key×V) (q:List Key×Addr×Value)=>p.1=q.1/\H q.2.1=some (.tup (p.1.map kV))/\RelV p.2 q.2.2) kvs xs/\
   ∃o es ep,h.get? a=some o/\o.ExactDict/\o.data=.dict es ep/\es.toList=xs.map (entryOfKey (tupleKind (mixKind P w)))/\(xs.map (·.1)).Nodup
 |.set S n=>h.SetOf (intKind P w) a S n
 |.ins C dx fs=>H dx=some (.own a)/\fs.length<=1000/\dx≠a/\h.get? a=some (PySem.W.instObj C dx)/\
   ∃mA,h.Ns1 dx mA/\(∀f,RelO (fs.lookup f) (mA f))/\PySem.Within mA (fs.map (·.1))
 |.own _=>∃o,h.get? a=some o
 |.xd fs=>∃mA,h.Ns1 a mA/\∀f,RelO (fs.lookup f) (mA f)
 |.rng lo hi=>∃t u v,h.get? a=some {cls:=.type "range",data:=.fields #[.int lo t,.int hi u,.int 1 v]}
 |.frz o u=>h.get? a=some o/\ObjOk H h a u
 |.tbl ps=>h.get? a=some {cls:=.none,data:=.fields ps}
 |.met f x=>h.get? a=some (PySem.W.methodObj (.ref f) (.ref x))
 |.ext φ=>φ h/\(∃o,h.get? a=some o)/\∀h1 h2:Heap,φ h1->(∀o,h1.get? a=some o->h2.get? a=some o)->φ h2
def HOk(H:Hp)(h:Heap):Prop:=∀a o,H a=some o->ObjOk P w H h a o
end
section
variable {P:Program}{w:World}{H H':Hp}{h h':Heap}{a:Addr}{o:HO}
theorem ObjOk.lt(x:ObjOk P w H h a o):a < h.objs.size:=by
 cases o with
 |lst xs=>obtain⟨_,_,_,_,e⟩ :=x;exact Heap.lt_size e
 |tup xs=>obtain⟨_,_,_,p⟩ :=x;exact p.lt
 |dK kvs=>obtain⟨_,_,_,_,o,_,_,e,_⟩ :=x;exact Heap.lt_size e
 |dT kvs=>obtain⟨_,_,_,_,o,_,_,e,_⟩ :=x;exact Heap.lt_size e
 |set S n=>obtain⟨o,_,_,_,e,_⟩ :=x;exact Heap.lt_size e
 |ins C dx fs=>obtain⟨_,_,_,e,_⟩ :=x;exact Heap.lt_size e
 |own y=>obtain⟨_,e⟩ :=x;exact Heap.lt_size e
 |xd fs=>obtain⟨_,⟨_,_,_,e,_⟩,_⟩ :=x;exact Heap.lt_size e
 |rng lo hi=>obtain⟨_,_,_,e⟩ :=x;exact Heap.lt_size e
 |frz ob u=>obtain⟨e,_⟩ :=x;exact Heap.lt_size e
 |tbl ps=>exact Heap.lt_size (show h.get? a=some _ from x)
 |met f y=>exact Heap.lt_size (show h.get? a=some _ from x)
 |ext φ=>obtain⟨_,⟨_,e⟩,_⟩ :=x;exact Heap.lt_size e
theorem Paired.mapP{α β:Type}{F G:α->β->Prop}:∀{l₁:List α} {l₂:List β},Paired F l₁ l₂->(∀a b,F a b->G a b)->Paired G l₁ l₂
 |_,_,.nil,_=>.nil
 |_,_,.cons r t,f=>.cons (f _ _ r) (Paired.mapP t f)
theorem ObjOk.stay(x:ObjOk P w H h a o)(k:∀b u,(b=a∨H b=some (.own a))->h.get? b=some u->h'.get? b=some u)
  (ho:∀b,H b=some (.own a)->H' b=some (.own a)) (ht:∀b xs,H b=some (.tup xs)->H' b=some (.tup xs)):ObjOk P w H' h' a o:=by
 induction o with
 |lst xs=>obtain⟨z,its,n,r,e⟩ :=x;exact⟨z,its,n,r,k _ _ (.inl rfl) e⟩
 |tup xs=>obtain⟨z,its,r,ob,e,c⟩ :=x;exact⟨z,its,r,ob,k _ _ (.inl rfl) e,c⟩
 |dK kvs=>obtain⟨z,y,vs,r,ob,es,ep,e,c⟩ :=x;exact⟨z,y,vs,r,ob,es,ep,k _ _ (.inl rfl) e,c⟩
 |dT kvs=>
  obtain⟨z,y,xs,r,ob,es,ep,e,c⟩ :=x;exact⟨z,y,xs,Paired.mapP r fun p q z=> ⟨z.1,ht _ _ z.2.1,z.2.2⟩,ob,es,ep,k _ _ (.inl rfl) e,c⟩
 |set S n=>obtain⟨ob,es,ep,t,e,c⟩ :=x;exact⟨ob,es,ep,t,k _ _ (.inl rfl) e,c⟩
 |ins C dx fs=>
  obtain⟨d,z,ne,e,mA,⟨od,es,ep,e2,c⟩,r⟩ :=x;exact⟨ho _ d,z,ne,k _ _ (.inl rfl) e,mA,⟨od,es,ep,k _ _ (.inr d) e2,c⟩,r⟩
 |own y=>obtain⟨ob,e⟩ :=x;exact⟨ob,k _ _ (.inl rfl) e⟩
 |xd fs=>obtain⟨mA,⟨od,es,ep,e,c⟩,r⟩ :=x;exact⟨mA,⟨od,es,ep,k _ _ (.inl rfl) e,c⟩,r⟩
 |rng lo hi=>obtain⟨t,u,v,e⟩ :=x;exact⟨t,u,v,k _ _ (.inl rfl) e⟩
 |frz ob u ih=>obtain⟨e,q⟩ :=x;exact⟨k _ _ (.inl rfl) e,ih q⟩
 |tbl ps=>
  have e:h.get? a=some {cls:=.none,data:=.fields ps}:=x;show h'.get? a=some {cls:=.none,data:=.fields ps};exact k a _ (.inl rfl) e
 |met f y=>
  have e:h.get? a=some (PySem.W.methodObj (.ref f) (.ref y)):=x;show h'.get? a=some (PySem.W.methodObj (.ref f) (.ref y));exact k a _ (.inl rfl) e
 |ext φ=>obtain⟨p,⟨o,e⟩,st⟩ :=x;exact⟨st _ _ p fun o q=>k _ _ (.inl rfl) q,⟨o,k _ _ (.inl rfl) e⟩,st⟩
theorem HOk.lt(x:HOk P w H h)(e:H a=some o):a < h.objs.size:=(x a o e).lt
theorem HOk.fresh(x:HOk P w H h)(e:h.objs.size<=a):H a=none:=by
 cases q:H a with
 |none=>rfl
 |some u=>exact absurd (Nat.lt_of_lt_of_le (x.lt q) e) (Nat.lt_irrefl _)
theorem HOk.kept(x:HOk P w H h)(k:∀b u,h.get? b=some u->h'.get? b=some u):HOk P w H h':=fun a o e=>
 (x a o e).stay (fun b u _ q=>k b u q) (fun _ q=>q) fun _ _ q=>q
theorem HOk.laid(x:HOk P w H h)(k:∀b u,h.get? b=some u->h'.get? b=some u)(hp:h.objs.size<=a)(new:ObjOk P w (upd H a o) h' a o):HOk P w (upd H a o) h':=fun b u e=>by
 have hn:=x.fresh hp;by_cases hb:b=a
 ·subst hb;rw[Ae]at e;cases e;exact new
 ·rw[Ak hb]at e;exact(x b u e).stay (fun c v _ q=>k c v q) (fun c q=>by rw[Ak (Al q hn)];exact q) fun c xs q=>by rw[Ak (Al q hn)];exact q
end
def Rd(H:Hp)(a:Addr)(u:HO):Prop:=H a=some u∨∃o,H a=some (.frz o u)
theorem Rd.ok{P:Program}{w:World}{H:Hp}{h:Heap}{a:Addr}{u:HO}(r:Rd H a u)(x:HOk P w H h):ObjOk P w H h a u:=by
 rcases r with r| ⟨o,r⟩
 ·exact x a u r
 ·obtain⟨_,q⟩ :=x a _ r;exact q
def Mut:Option HO->Prop
 |some (.lst _)=>True
 |some (.dK _)=>True
 |some (.dT _)=>True
 |some (.set _ _)=>True
 |some (.ins _ _ _)=>True
 |some (.ext _)=>True
 |_=>False
section
variable {P:Program}{w:World}{H:Hp}{h h':Heap}{x e:Addr}{o':HO}
theorem HOk.write(ok:HOk P w H h)(mu:Mut (H x))(he:e=x∨H e=some (.own x))(k:∀b u,b≠e->h.get? b=some u->h'.get? b=some u)(heo:∃u,h'.get? e=some u)
  (new:ObjOk P w (upd H x o') h' x o'):HOk P w (upd H x o') h':=fun b u q=>by
 have nown:∀c y,H c=some (.own y)->c≠x:=fun c y r z=>by subst z;rw[r]at mu;exact mu
 have ntup:∀c xs,H c=some (.tup xs)->c≠x:=fun c xs r z=>by subst z;rw[r]at mu;exact mu
 by_cases hb:b=x
 ·subst hb;rw[Ae]at q;cases q;exact new
 ·rw[Ak hb]at q;by_cases hbe:b=e
  ·have q':H b=some (.own x):=by
    rcases he with z|z
    ·exact absurd (hbe.trans z) hb
    ·rw[hbe];exact z
   rw[q]at q';cases q';obtain⟨v,hv⟩ :=heo;exact⟨v,by rw[hbe];exact hv⟩
  ·refine(ok b u q).stay (fun c v hc r=>k c v ?_ r) (fun c r=>by rw[Ak (nown c b r)];exact r) fun c xs r=>by rw[Ak (ntup c xs r)];exact r
   rcases hc with rfl|hc
   ·exact hbe
   ·rintro rfl;rcases he with z|z
    ·exact nown c b hc z
    ·rw[hc]at z;cases z;exact hb rfl
end
structure Un(fs ex:List Addr)(H H':Hp)(h h':Heap):Prop where
 keep:∀b o,h.get? b=some o->H b=none->b∉fs->b∉ex->h'.get? b=some o
 slot:∀b o,h.get? b=some o->H b=none->b∈fs->b∉ex->∃sl,h'.get? b=some {o with slots:=sl}
 free:∀b o,h.get? b=some o->H b=none->b∉ex->H' b=none
 there:∀b o,h.get? b=some o->b∉ex->∃o',h'.get? b=some o'
 tups:∀b xs,H b=some (.tup xs)->H' b=some (.tup xs)
 frzs:∀b o u,H b=some (.frz o u)->H' b=some (.frz o u)
 tbls:∀b ps,H b=some (.tbl ps)->∃more,H' b=some (.tbl (ps++more))
section
variable {fs fs' ex ex':List Addr}{H H1 H2:Hp}{h h1 h2 h':Heap}{a x e:Addr}{o:HO}
theorem Un.any(u:Un fs ex H H1 h h1){b:Addr}{ob:Obj}(q:h.get? b=some ob)(n:H b=none)(hx:b∉ex):∃sl,h1.get? b=some {ob with slots:=sl}:=by
 by_cases hb:b∈fs
 ·exact u.slot b ob q n hb hx
 ·exact⟨ob.slots,u.keep b ob q n hb hx⟩
theorem Un.kept(k:∀b u,h.get? b=some u->h'.get? b=some u):Un fs ex H H h h':=
 ⟨fun b ob q _ _ _=>k b ob q,fun b ob q _ _ _=> ⟨ob.slots,k b ob q⟩,fun _ _ _ n _=>n,fun b ob q _=> ⟨ob,k b ob q⟩,fun _ _ q=>q,fun _ _ _ q=>q,fun _ ps q=> ⟨#[],by rw[q];simp⟩⟩
theorem Un.refl:Un fs ex H H h h:=Un.kept fun _ _ q=>q
theorem Un.laid(k:∀b u,h.get? b=some u->h'.get? b=some u)(hp:h.objs.size<=a)(hn:H a=none):Un fs ex H (upd H a o) h h' where
 keep:=fun b u q _ _ _=>k b u q
 slot:=fun b u q _ _ _=> ⟨u.slots,k b u q⟩
 free:=fun b u q n _=>by rw[Ak (Nat.ne_of_lt (Nat.lt_of_lt_of_le (Heap.lt_size q) hp))];exact n
 there:=fun b u q _=> ⟨u,k b u q⟩
 tups:=fun b xs q=>by rw[Ak (Al q hn)];exact q
 frzs:=fun b u xs q=>by rw[Ak (Al q hn)];exact q
 tbls:=fun b ps q=> ⟨#[],by rw[Ak (Al q hn),q];simp⟩
theorem Un.write(mu:Mut (H x))(he:e=x∨H e=some (.own x))(k:∀b u,b≠e->h.get? b=some u->h'.get? b=some u)(heo:∃u,h'.get? e=some u):Un fs ex H (upd H x o) h h':=by
 have hx:∀b,H b=none->b≠x:=fun b n z=>by subst z;rw[n]at mu;exact mu
 have hb:∀b,H b=none->b≠e:=fun b n z=>by
  subst z;rcases he with r|r
  ·exact hx b n r
  ·rw[n]at r;cases r
 have hm:∀b u,H b=some u->¬Mut (some u)->b≠x:=fun b u q nm z=>by subst z;rw[q]at mu;exact nm mu
 refine⟨fun b u q n _ _=>k b u (hb b n) q,fun b u q n _ _=> ⟨u.slots,k b u (hb b n) q⟩,fun b u q n _=>by rw[Ak (hx b n)];exact n,fun b u q _=>?_,
  fun b xs q=>by rw[Ak (hm b _ q fun z=>z)];exact q,fun b u xs q=>by rw[Ak (hm b _ q fun z=>z)];exact q,fun b ps q=> ⟨#[],by rw[Ak (hm b _ q fun z=>z),q];simp⟩⟩
 by_cases hbe:b=e
 ·subst hbe;exact heo
 ·exact⟨u,k b u hbe q⟩
end
def trk(h:Heap)(H:Hp):List Addr:=(List.range h.objs.size).filter fun a=>(H a).isSome
def hidT(h:Heap)(H:Hp):Heap:=PySem.W.hideAll h (trk h H)
theorem Zi(h:Heap)(H:Hp):(hidT h H).objs.size=h.objs.size:=PySem.W.hideAll_size _ _
theorem bE{h:Heap}{H:Hp}{b:Addr}{o:Obj}(e:h.get? b=some o)(n:H b=none):(hidT h H).get? b=some o:=
 PySem.W.hideAll_get _ e fun hm=>by
  have q:(H b).isSome=true:=(List.mem_filter.mp hm).2;rw[n]at q;simp at q
theorem eZ{h:Heap}{H:Hp}{b:Addr}{o:Obj}(e:(hidT h H).get? b=some o):h.get? b=some o/\H b=none:=by
 have e':h.get? b=some o:=PySem.W.of_hideAll (trk h H) e;refine⟨e',?_⟩;cases q:H b with
 |none=>rfl
 |some x=>
  have hm:b∈trk h H:=List.mem_filter.mpr ⟨List.mem_range.mpr (Heap.lt_size e'),by simp[q]⟩;have z:(hidT h H).get? b=none:=PySem.W.hideAll_none (trk h H) hm;rw[z]at e;cases e
end L2
namespace L2
open PySem PySem.Spec PyProof.Rows
structure Mod(K:PySem.W.Frag)(mg:Str->Option Value)(base:Heap):Prop where
 kin:K.In base
 glob:base.Ns mainGlobals mg
 blt:∃mb,base.Ns builtinsNs mb/\∀x:Str,x≠"__name__"->mb x=bootBuiltins x
 nolimit:base.NoLimit
structure Cx where
 prog:Program
 w:World
 K:PySem.W.Frag
 mg:Str->Option Value
 base:Heap
 A:Around
 N:List Str
 s_0:Shared
 H_0:Hp
 env:Env
 outer:List Env
 stack:List Env
 ex:List Addr
 fn:Str->Bool
 calm:Bool
 pn:List (Addr×Obj)
 xe:Value->Shared->Prop
def frs(l:List Env):List Addr:=l.filterMap (·.frame)
abbrev Cx.fs(X:Cx):List Addr:=frs X.outer
def Vis(sc:Scope)(x:Str):Prop:=sc.names.lookup x=some .local∨sc.names.lookup x=some .cell∨sc.names.lookup x=some .free
def Loc(sc:Scope)(x:Str):Prop:=sc.names.lookup x=some .local∨sc.names.lookup x=some .cell
def Look(env:Env)(h:Heap)(m:Str->Option Value)(x:Str)(u:Value):Prop:=
 (env.kindOf x=some .local/\m x=some u)∨((env.kindOf x=some .cell∨env.kindOf x=some .free)/\∃c,env.cells.lookup x=some c/\h.IsCell c (some u))
structure Cx.Ok(X:Cx):Prop where
 mod:Mod X.K X.mg X.base
 kind:X.env.scope.kind=.function
 glob:X.env.globals=mainGlobals
 blt:X.env.builtins=builtinsNs
 above:X.s_0.heap.objs.size<=X.env.locals
 inj:∀x y c,X.env.cells.lookup x=some c->X.env.cells.lookup y=some c->x=y
 has:∀x,(X.env.kindOf x=some .cell∨X.env.kindOf x=some .free)->∃c,X.env.cells.lookup x=some c
 cab:∀x c,X.fn x=true->X.env.cells.lookup x=some c->X.s_0.heap.objs.size<=c
 hd:X.calm=true->X.A.handled=none
 frames:X.A.frames=some X.stack
 stk:X.stack=X.outer∨(X.stack=X.env::X.outer/\X.env.frame=some X.env.locals)
 exf:∀b∈X.ex,b≠X.env.locals/\∀x c,X.env.cells.lookup x=some c->c≠b
 bs:∀b o,X.base.get? b=some o->X.s_0.heap.get? b=some o/\X.H_0 b=none
 bsz:X.base.objs.size<=X.s_0.heap.objs.size
 noex:∀b o,X.base.get? b=some o->b∉X.ex
 exfs:∀b∈X.ex,b∉X.fs
 funs:X.s_0.heap.FunFrames X.base X.outer
 frf:∀b∈X.fs,X.H_0 b=none
structure Inv(X:Cx)(pins:List (Addr×Obj))(σ:List (Option V))(H:Hp)(s:Shared):Prop where
 ok:X.Ok
 os:s.os=X.s_0.os
 bare:AllBare s.gens
 base:Un X.fs X.ex X.H_0 H X.s_0.heap s.heap
 loc:∃m,s.heap.Ns X.env.locals m/\∀(i:Nat) (x:Str) (v:V),X.N[i]? =some x->σ[i]? =some (some v)->Vis X.env.scope x->∃u,RelV v u/\Look X.env s.heap m x u
 cell:∀x c,X.env.cells.lookup x=some c->∃v,s.heap.IsCell c v
 free:H X.env.locals=none
 freeC:∀x c,X.env.cells.lookup x=some c->H c=none
 pin:∀p∈X.pn++pins,s.heap.get? p.1=some p.2/\H p.1=none/\p.1≠X.env.locals/\p.1∉X.fs/\∀v,p.2.data≠.cell v
 hok:HOk X.prog X.w H s.heap
 len:σ.length=X.N.length
section
variable {X:Cx}{pins:List (Addr×Obj)}{σ:List (Option V)}{H H':Hp}{s:Shared}{h':Heap}
theorem Cx.Ok.nofr(ok:X.Ok){b:Addr}{o:Obj}(e:X.base.get? b=some o):b∉X.fs:=fun hb=>by
 have:=(ok.funs.mem hb).1;rw[e]at this;cases this
theorem Inv.bs(I:Inv X pins σ H s):∀b o,X.base.get? b=some o->s.heap.get? b=some o/\H b=none:=fun b o e=>
 ⟨I.base.keep b o (I.ok.bs b o e).1 (I.ok.bs b o e).2 (I.ok.nofr e) (I.ok.noex b o e),I.base.free b o (I.ok.bs b o e).1 (I.ok.bs b o e).2 (I.ok.noex b o e)⟩
theorem Inv.bk(I:Inv X pins σ H s):∀b o,X.base.get? b=some o->s.heap.get? b=some o:=fun b o e=>(I.bs b o e).1
theorem Inv.mod(I:Inv X pins σ H s):Mod X.K X.mg X.base:=I.ok.mod
theorem Inv.kIn(I:Inv X pins σ H s):X.K.In s.heap:=I.ok.mod.kin.keeps I.bk
theorem Inv.lt(I:Inv X pins σ H s):X.env.locals < s.heap.objs.size:=let⟨_,hn,_⟩ :=I.loc;hn.lt
theorem Inv.sz(I:Inv X pins σ H s):X.s_0.heap.objs.size<=s.heap.objs.size:=Nat.le_trans I.ok.above (Nat.le_of_lt I.lt)
theorem Inv.nofs(I:Inv X pins σ H s){a:Addr}(h:s.heap.objs.size<=a):a∉X.fs:=fun hb=>by
 obtain⟨_,o,ho,_⟩ :=I.ok.funs.mem hb;exact absurd (Nat.lt_of_lt_of_le (Heap.lt_size ho) (Nat.le_trans I.sz h)) (Nat.lt_irrefl _)
theorem Inv.cne(I:Inv X pins σ H s):∀x c,X.env.cells.lookup x=some c->c≠X.env.locals:=fun x c e z=>by
 obtain⟨v,o,ho,hd⟩ :=I.cell x c e;obtain⟨m,⟨o',es,ep,ho',hd',_⟩,_⟩ :=I.loc;rw[z,ho']at ho;cases ho;rw[hd']at hd;cases hd
theorem Inv.funs(I:Inv X pins σ H s):s.heap.FunFrames X.base X.outer:=by
 have all:∀(l:List Env),(∀b∈frs l,b∈X.fs)->X.s_0.heap.FunFrames X.base l->s.heap.FunFrames X.base l:=by
  intro l
  induction l with
  |nil=>intro _ _;trivial
  |cons env r ih=>
   intro hs hl;obtain⟨hk,⟨L,o,hf,hn,ho,hd⟩,hr⟩ :=hl;have hL:L∈X.fs:=hs L (by unfold frs;rw[List.filterMap_cons,hf];exact List.mem_cons_self);obtain⟨sl,e⟩ :=I.base.slot L o ho (I.ok.frf L hL) hL fun z=>I.ok.exfs L z hL;exact⟨hk,⟨L,_,hf,hn,e,hd⟩,ih (fun b hb=>hs b (by unfold frs;rw[List.filterMap_cons,hf];exact List.mem_cons_of_mem _ hb)) hr⟩
 exact all X.outer (fun _ hb=>hb) I.ok.funs
theorem Inv.stack(I:Inv X pins σ H s):s.heap.FunFrames X.base X.stack:=by
 rcases I.ok.stk with e| ⟨e,hf⟩
 ·rw[e];exact I.funs
 ·rw[e];obtain⟨m,hn,_⟩ :=I.loc;refine .cons (by rw[I.ok.kind];decide) hf hn ?_ I.funs;exact Heap.get?_none_of_le (Nat.le_trans I.ok.bsz I.ok.above)
theorem Inv.stkSub(I:Inv X pins σ H s):∀b∈frs X.stack,b∈X.env.locals::X.fs:=fun b hb=>by
 rcases I.ok.stk with e| ⟨e,hf⟩
 ·rw[e]at hb;exact List.mem_cons_of_mem _ hb
 ·rw[e]at hb;unfold frs at hb;rw[List.filterMap_cons,hf]at hb;exact hb
theorem Inv.stkFree(I:Inv X pins σ H s):∀b∈frs X.stack,H b=none:=fun b hb=>by
 rcases List.mem_cons.mp (I.stkSub b hb)with e|hb
 ·rw[e];exact I.free
 ·obtain⟨_,o,ho,_⟩ :=I.ok.funs.mem hb;exact I.base.free b o ho (I.ok.frf b hb) fun z=>I.ok.exfs b z hb
theorem Inv.step{g':Array GenState}{t':Nat}{d':Drawn}{ch:List Addr}(I:Inv X pins σ H s)
  (hch:∀b∈ch,(b∈X.ex∨X.s_0.heap.objs.size<=b)/\b≠X.env.locals/\(∀x c,X.env.cells.lookup x=some c->c≠b)/\∀p∈X.pn++pins,p.1≠b)
  (keep:∀b o,b≠X.env.locals->b∉X.fs->b∉ch->s.heap.get? b=some o->H b=none->h'.get? b=some o)
  (slot:∀b o,b≠X.env.locals->b∈X.fs->b∉ch->s.heap.get? b=some o->H b=none->∃sl,h'.get? b=some {o with slots:=sl}) (free:∀b o,b∉ch->s.heap.get? b=some o->H b=none->H' b=none)
  (there:∀b o,b∉ch->s.heap.get? b=some o->∃o',h'.get? b=some o')
  (tups:∀b xs,H b=some (.tup xs)->H' b=some (.tup xs)) (frzs:∀b o u,H b=some (.frz o u)->H' b=some (.frz o u)) (tbls:∀b ps,H b=some (.tbl ps)->∃more,H' b=some (.tbl (ps++more)))
  (ns:∀m,s.heap.Ns X.env.locals m->h'.Ns X.env.locals m) (hok:HOk X.prog X.w H' h') (hg:AllBare g'):
  Inv X pins σ H' {s with heap:=h',gens:=g',drawn:=d',toks:=t'}:=by
 have neL:∀b o,X.s_0.heap.get? b=some o->b≠X.env.locals:=fun b o e=>Nat.ne_of_lt (Nat.lt_of_lt_of_le (Heap.lt_size e) I.ok.above);have neC:∀b o,X.s_0.heap.get? b=some o->b∉X.ex->b∉ch:=fun b o e hx hb=>by
  rcases (hch b hb).1 with z|z
  ·exact hx z
  ·exact absurd (Nat.lt_of_lt_of_le (Heap.lt_size e) z) (Nat.lt_irrefl _)
 have cellK:∀x c,X.env.cells.lookup x=some c->∀v,s.heap.IsCell c v->h'.IsCell c v:=fun x c e v ⟨o,ho,hd⟩ =>by
  have nch:c∉ch:=fun z=>(hch c z).2.2.1 x c e rfl;by_cases hc:c∈X.fs
  ·obtain⟨sl,q⟩ :=slot c o (I.cne x c e) hc nch ho (I.freeC x c e);exact⟨_,q,hd⟩
  ·exact⟨o,keep c o (I.cne x c e) hc nch ho (I.freeC x c e),hd⟩
 refine⟨I.ok,I.os,hg,⟨fun b o e n hb hx=>?_,fun b o e n hb hx=>?_,fun b o e n hx=>?_,fun b o e hx=>?_,fun b xs e=>tups b xs (I.base.tups b xs e),fun b o xs e=>frzs b o xs (I.base.frzs b o xs e),fun b ps e=>?_⟩,?_,fun x c e=>?_,?_,fun x c e=>?_,fun p hp=>?_,hok,I.len⟩
 ·exact keep b o (neL b o e) hb (neC b o e hx) (I.base.keep b o e n hb hx) (I.base.free b o e n hx)
 ·obtain⟨sl,e1⟩ :=I.base.slot b o e n hb hx;obtain⟨sl',e2⟩ :=slot b _ (neL b o e) hb (neC b o e hx) e1 (I.base.free b o e n hx);exact⟨sl',e2⟩
 ·obtain⟨o',e1⟩ :=I.base.there b o e hx;exact free b o' (neC b o e hx) e1 (I.base.free b o e n hx)
 ·obtain⟨o',e1⟩ :=I.base.there b o e hx;exact there b o' (neC b o e hx) e1
 ·obtain⟨m1,e1⟩ :=I.base.tbls b ps e;obtain⟨m2,e2⟩ :=tbls b _ e1;exact⟨m1++m2,by rw[e2,Array.append_assoc]⟩
 ·obtain⟨m,hn,hl⟩ :=I.loc;refine⟨m,ns m hn,fun i x v e1 e2 e3=>?_⟩;obtain⟨u,r,l⟩ :=hl i x v e1 e2 e3;refine⟨u,r,?_⟩;rcases l with l| ⟨k,c,e,z⟩
  ·exact .inl l
  ·exact .inr ⟨k,c,e,cellK x c e _ z⟩
 ·obtain⟨v,z⟩ :=I.cell x c e;exact⟨v,cellK x c e v z⟩
 ·obtain⟨m,⟨o,_,_,ho,_⟩,_⟩ :=I.loc;exact free _ o (fun z=>(hch _ z).2.1 rfl) ho I.free
 ·obtain⟨v,o,ho,hd⟩ :=I.cell x c e;exact free c o (fun z=>(hch c z).2.2.1 x c e rfl) ho (I.freeC x c e)
 ·obtain⟨e,n,ne,nf,d⟩ :=I.pin p hp;have nch:p.1∉ch:=fun z=>(hch p.1 z).2.2.2 p hp rfl;exact⟨keep p.1 p.2 ne nf nch e n,free p.1 p.2 nch e n,ne,nf,d⟩
theorem Inv.un{t':Nat}(I:Inv X pins σ H s)(u:Un X.fs [] H H' s.heap h')(hok:HOk X.prog X.w H' h'):Inv X pins σ H' {s with heap:=h',toks:=t'}:=by
 obtain⟨m,⟨o,es,ep,ho,r⟩,_⟩ :=id I.loc;obtain⟨sl,hL⟩ :=u.any ho I.free (by simp);exact I.step (g':=s.gens) (d':=s.drawn) (ch:=[]) (fun _ z=>nomatch z) (fun b o _ hb _ e n=>u.keep b o e n hb (by simp)) (fun b o _ hb _ e n=>u.slot b o e n hb (by simp)) (fun b o _ e n=>u.free b o e n (by simp)) (fun b o _ e=>u.there b o e (by simp)) u.tups u.frzs u.tbls (fun m' hm=>by
  obtain⟨o',es',ep',ho',r'⟩ :=hm;rw[ho]at ho';cases ho';exact⟨_,es',ep',hL,r'⟩) hok I.bare
theorem Inv.call{g':Array GenState}{t':Nat}{d':Drawn}{ch:List Addr}(I:Inv X pins σ H s)(u:Un (frs X.stack) ch H H' s.heap h')(hok:HOk X.prog X.w H' h')(hg:AllBare g')
  (hch:∀b∈ch,(b∈X.ex∨X.s_0.heap.objs.size<=b)/\b≠X.env.locals/\(∀x c,X.env.cells.lookup x=some c->c≠b)/\∀p∈X.pn++pins,p.1≠b):
  Inv X pins σ H' {s with heap:=h',gens:=g',drawn:=d',toks:=t'}:=by
 obtain⟨m,⟨o,es,ep,ho,r⟩,_⟩ :=id I.loc;obtain⟨sl,hL⟩ :=u.any ho I.free fun z=>(hch _ z).2.1 rfl;exact I.step (ch:=ch) hch (fun b o hL hb hc e n=>u.keep b o e n (fun z=>(List.mem_cons.mp (I.stkSub b z)).elim hL hb) hc) (fun b o _ _ hc e n=>u.any e n hc) (fun b o hc e n=>u.free b o e n hc) (fun b o hc e=>u.there b o e hc) u.tups u.frzs u.tbls (fun m' hm=>by
  obtain⟨o',es',ep',ho',r'⟩ :=hm;rw[ho]at ho';cases ho';exact⟨_,es',ep',hL,r'⟩) hok hg
theorem Inv.turned{t':Nat}{it:Addr}(I:Inv X pins σ H s)(k:∀b o,b≠it->s.heap.get? b=some o->h'.get? b=some o)(hn:H it=none)(hL:it≠X.env.locals)
  (h1:it∈X.ex∨X.s_0.heap.objs.size<=it) (h2:∀x c,X.env.cells.lookup x=some c->c≠it) (h3:∀p∈X.pn++pins,p.1≠it):Inv X pins σ H {s with heap:=h',toks:=t'}:=by
 have nit:∀b u,H b=some u->b≠it:=fun b u e z=>by rw[z,hn]at e;cases e
 refine I.step (g':=s.gens) (d':=s.drawn) (ch:=[it]) (fun b hb=>?_) (fun b o _ _ hc e _=>k b o (fun z=>hc (by simp[z])) e) (fun b o _ _ hc e _=> ⟨o.slots,k b o (fun z=>hc (by simp[z])) e⟩) (fun _ _ _ _ n=>n)
  (fun b o hc e=> ⟨o,k b o (fun z=>hc (by simp[z])) e⟩) (fun _ _ e=>e) (fun _ _ _ e=>e) (fun b ps e=> ⟨#[],by rw[e];simp⟩) (fun m hm=>?_) (fun b u e=>?_) I.bare
 ·have e:b=it:=by simpa using hb
  subst e;exact⟨h1,hL,h2,h3⟩
 ·obtain⟨o,es,ep,ho,r⟩ :=hm;exact⟨o,es,ep,k _ o (Ne.symm hL) ho,r⟩
 ·refine(I.hok b u e).stay (fun c v hc q=>k c v ?_ q) (fun _ q=>q) fun _ _ q=>q;rcases hc with z|z
  ·rw[z];exact nit b u e
  ·exact nit c _ z
theorem Inv.tok(I:Inv X pins σ H s)(t:Nat):Inv X pins σ H {s with toks:=t}:=I.un (h':=s.heap) (t':=t) Un.refl I.hok
theorem Inv.kept{t':Nat}(I:Inv X pins σ H s)(k:∀b u,s.heap.get? b=some u->h'.get? b=some u):Inv X pins σ H {s with heap:=h',toks:=t'}:=I.un (Un.kept k) (I.hok.kept k)
theorem Inv.laid{a:Addr}{o:HO}{t':Nat}(I:Inv X pins σ H s)(k:∀b u,s.heap.get? b=some u->h'.get? b=some u)(hp:s.heap.objs.size<=a)(new:ObjOk X.prog X.w (upd H a o) h' a o):
  Inv X pins σ (upd H a o) {s with heap:=h',toks:=t'}:=I.un (Un.laid k hp (I.hok.fresh hp)) (I.hok.laid k hp new)
theorem Inv.write{x e:Addr}{o:HO}{t':Nat}(I:Inv X pins σ H s)(mu:Mut (H x))(he:e=x∨H e=some (.own x))(k:∀b u,b≠e->s.heap.get? b=some u->h'.get? b=some u)(heo:∃u,h'.get? e=some u)
  (new:ObjOk X.prog X.w (upd H x o) h' x o):Inv X pins σ (upd H x o) {s with heap:=h',toks:=t'}:=I.un (Un.write mu he k heo) (I.hok.write mu he k heo new)
theorem Inv.weak{σ':List (Option V)}(I:Inv X pins σ H s)(hl:σ'.length=σ.length)(w:∀(i:Nat) v,σ'[i]? =some (some v)->σ[i]? =some (some v)):Inv X pins σ' H s:=
 ⟨I.ok,I.os,I.bare,I.base,let⟨m,hn,hl'⟩ :=I.loc;⟨m,hn,fun i x v e1 e2 e3=>hl' i x v e1 (w i v e2) e3⟩,I.cell,I.free,I.freeC,I.pin,I.hok,hl.trans I.len⟩
theorem Inv.pins_of{pins':List (Addr×Obj)}(I:Inv X pins σ H s)(h:∀p∈pins',s.heap.get? p.1=some p.2/\H p.1=none/\p.1≠X.env.locals/\p.1∉X.fs/\∀v,p.2.data≠.cell v):Inv X pins' σ H s:=
 ⟨I.ok,I.os,I.bare,I.base,I.loc,I.cell,I.free,I.freeC,fun p hp=>(List.mem_append.mp hp).elim (fun z=>I.pin p (List.mem_append_left _ z)) (h p),I.hok,I.len⟩
theorem Pa{N:List Str}(hN:N.Nodup){i j:Nat}{x:Str}(a:N[i]? =some x)(b:N[j]? =some x):i=j:=by
 obtain⟨h1,e1⟩ :=List.getElem?_eq_some_iff.mp a;obtain⟨h2,e2⟩ :=List.getElem?_eq_some_iff.mp b;exact(List.getElem_inj hN).mp (e1.trans e2.symm)
theorem R6{M:Model}{A:Around}{E:Value->Shared->Prop}{i:Nat}{x:Str}{v:V}{u:Value}{Q:Unit->Shared->Prop}(I:Inv X pins σ H s)(hN:X.N.Nodup)(hi:X.N[i]? =some x)(hx:Loc X.env.scope x)(r:RelV v u)
  (h:∀s',Inv X pins (σ.set i (some v)) H s'->(∃a,Heap.SameBut a s.heap s'.heap/\(a=X.env.locals∨X.env.cells.lookup x=some a))->Q () s') (hf:X.fn x=true∨X.env.scope.names.lookup x=some .local:=by first|exact .inl rfl|exact .inr rfl|assumption):wpAny M A (storeName X.env x u) Q E s:=by
 obtain⟨m,hn,hl⟩ :=id I.loc;have hcls:(X.env.scope.kind == .class || (X.env.scope.kind == .module&&X.env.locals !=X.env.globals))=false:=by rw[I.ok.kind];rfl
 have hiσ:i < σ.length:=by rw[I.len];exact(List.getElem?_eq_some_iff.mp hi).1
 have cne:=I.cne;have tracked:∀{a:Addr} {h':Heap},(∃o,s.heap.get? a=some o/\H a=none)->Heap.SameBut a s.heap h'->HOk X.prog X.w H h':=fun{a h'} ha hs b ob e=>by
  obtain⟨_,_,hfree⟩ :=ha;refine(I.hok b ob e).stay (fun c w' hc q=>(hs.2 c ?_).trans q) (fun _ q=>q) fun _ _ q=>q;rintro rfl;rcases hc with rfl|hc
  ·rw[hfree]at e;cases e
  ·rw[hfree]at hc;cases hc
 rcases hx with hk|hk
 ·refine wpAny_storeName_local hk hn (fun h' hn' hs=>?_) hcls;obtain⟨oL,_,_,hoL,_⟩ :=id hn;refine h _ ⟨I.ok,I.os,I.bare,⟨fun b o e n hb hx=>?_,fun b o e n hb hx=>?_,I.base.free,fun b o e hx=>?_,I.base.tups,I.base.frzs,I.base.tbls⟩,⟨_,hn',fun j y v' e1 e2 e3=>?_⟩,fun y c e=>?_,I.free,I.freeC,fun p hp=>?_,tracked ⟨oL,hoL,I.free⟩ hs,by simpa using I.len⟩ ⟨_,hs,.inl rfl⟩
  ·exact(hs.2 b (Nat.ne_of_lt (Nat.lt_of_lt_of_le (Heap.lt_size e) I.ok.above))).trans (I.base.keep b o e n hb hx)
  ·obtain⟨sl,e1⟩ :=I.base.slot b o e n hb hx;exact⟨sl,(hs.2 b (Nat.ne_of_lt (Nat.lt_of_lt_of_le (Heap.lt_size e) I.ok.above))).trans e1⟩
  ·obtain⟨o',e1⟩ :=I.base.there b o e hx;exact⟨o',(hs.2 b (Nat.ne_of_lt (Nat.lt_of_lt_of_le (Heap.lt_size e) I.ok.above))).trans e1⟩
  ·by_cases hj:j=i
   ·subst hj;rw[hi]at e1;cases e1;rw[List.getElem?_set_self hiσ]at e2;cases e2;exact⟨u,r,.inl ⟨hk,by simp⟩⟩
   ·rw[List.getElem?_set_ne (Ne.symm hj)]at e2;obtain⟨u',r',q⟩ :=hl j y v' e1 e2 e3;refine⟨u',r',?_⟩;rcases q with⟨k,e⟩ | ⟨k,c,e,z⟩
    ·refine .inl ⟨k,?_⟩;have:y≠x:=fun e=>hj (Pa hN e1 (e▸hi));simp[this,e]
    ·exact .inr ⟨k,c,e,z.sameBut hs (cne y c e)⟩
  ·obtain⟨w',z⟩ :=I.cell y c e;exact⟨w',z.sameBut hs (cne y c e)⟩
  ·obtain⟨e,n,ne,nf,d⟩ :=I.pin p hp;exact⟨(hs.2 p.1 ne).trans e,n,ne,nf,d⟩
 ·have hfn:X.fn x=true:=by
   rcases hf with z|z
   ·exact z
   ·rw[z]at hk;cases hk
  obtain⟨c,hc⟩ :=I.ok.has x (.inl hk);obtain⟨w',z⟩ :=I.cell x c hc;refine wpAny_storeName_cell I.ok.kind hk hc z (fun h' hc' hs=>?_);obtain⟨oc,hoc,hocd⟩ :=id z;refine h {s with heap:=h'} ⟨I.ok,I.os,I.bare,⟨fun b o e n hb hx=>?_,fun b o e n hb hx=>?_,I.base.free,fun b o e hx=>?_,I.base.tups,I.base.frzs,I.base.tbls⟩,⟨m,hn.sameBut hs (Ne.symm (cne x c hc)),fun j y v' e1 e2 e3=>?_⟩,fun y c' e=>?_,I.free,I.freeC,fun p hp=>?_,tracked ⟨oc,hoc,I.freeC x c hc⟩ hs,by simpa using I.len⟩ ⟨c,hs,.inr hc⟩
  ·exact(hs.2 b (Nat.ne_of_lt (Nat.lt_of_lt_of_le (Heap.lt_size e) (I.ok.cab x c hfn hc)))).trans (I.base.keep b o e n hb hx)
  ·obtain⟨sl,e1⟩ :=I.base.slot b o e n hb hx;exact⟨sl,(hs.2 b (Nat.ne_of_lt (Nat.lt_of_lt_of_le (Heap.lt_size e) (I.ok.cab x c hfn hc)))).trans e1⟩
  ·obtain⟨o',e1⟩ :=I.base.there b o e hx;exact⟨o',(hs.2 b (Nat.ne_of_lt (Nat.lt_of_lt_of_le (Heap.lt_size e) (I.ok.cab x c hfn hc)))).trans e1⟩
  ·by_cases hj:j=i
   ·subst hj;rw[hi]at e1;cases e1;rw[List.getElem?_set_self hiσ]at e2;cases e2;exact⟨u,r,.inr ⟨.inl hk,c,hc,hc'⟩⟩
   ·rw[List.getElem?_set_ne (Ne.symm hj)]at e2;obtain⟨u',r',q⟩ :=hl j y v' e1 e2 e3;refine⟨u',r',?_⟩;rcases q with q| ⟨k,c',e,z'⟩
    ·exact .inl q
    ·refine .inr ⟨k,c',e,z'.sameBut hs ?_⟩;rintro rfl;exact hj (Pa hN e1 (I.ok.inj _ _ _ e hc▸hi))
  ·by_cases hcc:c'=c
   ·subst hcc;exact⟨_,hc'⟩
   ·obtain⟨w2,z2⟩ :=I.cell y c' e;exact⟨w2,z2.sameBut hs hcc⟩
  ·obtain⟨e,n,ne,nf,d⟩ :=I.pin p hp;refine⟨(hs.2 p.1 ?_).trans e,n,ne,nf,d⟩;intro q;rw[q,hoc]at e;have q':oc=p.2:=Option.some.inj e;exact d w' (by rw[<-q'];exact hocd)
theorem V6{M:Model}{A:Around}{E:Value->Shared->Prop}{i:Nat}{x:Str}{v:V}{u:Value}{Q:Unit->Shared->Prop}(I:Inv X pins σ H s)(hN:X.N.Nodup)(hi:X.N[i]? =some x)(hx:Loc X.env.scope x)(r:RelV v u)
  (h:∀s',Inv X pins (σ.set i (some v)) H s'->Q () s') (hf:X.fn x=true∨X.env.scope.names.lookup x=some .local:=by first|exact .inl rfl|exact .inr rfl|assumption):wpAny M A (storeName X.env x u) Q E s:=
 R6 I hN hi hx r (fun s' I' _=>h s' I') hf
theorem Inv.call'{s':Shared}{ch:List Addr}(I:Inv X pins σ H s)(ho:s'.os=s.os)(u:Un (frs X.stack) ch H H' s.heap s'.heap)(hok:HOk X.prog X.w H' s'.heap)(hg:AllBare s'.gens)
  (hch:∀b∈ch,(b∈X.ex∨X.s_0.heap.objs.size<=b)/\b≠X.env.locals/\(∀x c,X.env.cells.lookup x=some c->c≠b)/\∀p∈X.pn++pins,p.1≠b):Inv X pins σ H' s':=by
 obtain⟨h',g',d',t',o'⟩ :=s';have e:o'=s.os:=ho;subst e;exact I.call (g':=g') (t':=t') (d':=d') u hok hg hch
end
abbrev XK:=Value->Option Addr->Hp->Prop
abbrev St:=List (Option V)
abbrev VK:=V->Hp->Prop
abbrev TE:=St->Hp->VK->Prop
abbrev TT:=St->Hp->(Bool->Hp->Prop)->Prop
abbrev TA:=St->Hp->(List V->Hp->Prop)->Prop
structure Ends where
 nx:St->Hp->Prop
 rt:VK
 bk:St->Hp->Prop:=fun _ _=>False
 ct:St->Hp->Prop:=fun _ _=>False
abbrev TS:=Ends->St->Hp->Prop
inductive EP(X:Cx)(pins:List (Addr×Obj))(σ:St)(Q:VK)(u:Value)(s':Shared):Prop|m:∀v H',Inv X pins σ H' s'->RelV v u->Q v H'->EP X pins σ Q u s'
def TP(X:Cx)(pins:List (Addr×Obj))(σ:St)(Q:Bool->Hp->Prop)(b:Bool)(s':Shared):Prop:=∃H',Inv X pins σ H' s'/\Q b H'
inductive AP(X:Cx)(pins:List (Addr×Obj))(σ:St)(Q:List V->Hp->Prop)(us:List Value)(s':Shared):Prop|m:∀vs H',Inv X pins σ H' s'->Vals vs us->Q vs H'->AP X pins σ Q us s'
def SP(X:Cx)(pins:List (Addr×Obj))(D:Ends)(f:Flow)(s':Shared):Prop:=
 match f with
 |.next=>∃σ' H',Inv X pins σ' H' s'/\D.nx σ' H'
 |.brk=>∃σ' H',Inv X pins σ' H' s'/\D.bk σ' H'
 |.cont=>∃σ' H',Inv X pins σ' H' s'/\D.ct σ' H'
 |.ret u=>∃v σ' H',Inv X pins σ' H' s'/\RelV v u/\D.rt v H'
def PE(X:Cx)(e:Expr)(t:TE):Prop:=
 ∀(pins:List (Addr×Obj)) (s:Shared) (σ:St) (H:Hp) (Q:VK),Inv X pins σ H s->t σ H Q->wpAny (model X.prog X.w) X.A (eval e X.env) (EP X pins σ Q) X.xe s
def PT(X:Cx)(e:Expr)(t:TT):Prop:=
 ∀(pins:List (Addr×Obj)) (s:Shared) (σ:St) (H:Hp) (Q:Bool->Hp->Prop),Inv X pins σ H s->t σ H Q->wpAny (model X.prog X.w) X.A (isTrue e X.env (eval e X.env)) (TP X pins σ Q) X.xe s
def PW(X:Cx)(e:Expr)(t:TT):Prop:=
 ∀(whole:Sem Value) (pins:List (Addr×Obj)) (s:Shared) (σ:St) (H:Hp) (Q:Bool->Hp->Prop),Inv X pins σ H s->t σ H Q->wpAny (model X.prog X.w) X.A (isTrue e X.env whole) (TP X pins σ Q) X.xe s
theorem PW.pt{X:Cx}{e:Expr}{t:TT}(h:PW X e t):PT X e t:=h _
def PA(X:Cx)(es:List Expr)(t:TA):Prop:=
 ∀(pos:Pos) (pins:List (Addr×Obj)) (s:Shared) (σ:St) (H:Hp) (Q:List V->Hp->Prop),Inv X pins σ H s->t σ H Q->wpAny (model X.prog X.w) X.A (spliced (backTo pos (starEach es X.env))) (AP X pins σ Q) X.xe s
def PS(X:Cx)(st:Stmt)(t:TS):Prop:=
 ∀(pins:List (Addr×Obj)) (s:Shared) (σ:St) (H:Hp) (D:Ends),Inv X pins σ H s->t D σ H->wpAny (model X.prog X.w) X.A (exec st X.env) (SP X pins D) X.xe s
def PSs(X:Cx)(st:List Stmt)(t:TS):Prop:=
 ∀(pins:List (Addr×Obj)) (s:Shared) (σ:St) (H:Hp) (D:Ends),Inv X pins σ H s->t D σ H->wpAny (model X.prog X.w) X.A (execs st X.env) (SP X pins D) X.xe s
theorem thn{α:Type}{t:Sem α}{Q Q':α->Shared->Prop}{M:Model}{A:Around}{E:Value->Shared->Prop}{s:Shared}(h:wpAny M A t Q E s)(hQ:∀a s,Q a s->Q' a s):wpAny M A t Q' E s:=wpAny_mono h hQ fun _ _ x=>x
end L2
namespace L2
open PySem PySem.Spec PyProof.Rows
section
variable {X:Cx}
inductive tVar(i:Nat)(σ:St)(H:Hp)(Q:VK):Prop|m:∀v,σ[i]? =some (some v)->Q v H->tVar i σ H Q
def tC(v:V):TE:=fun _ H Q=>Q v H
theorem iG{i:Nat}{x:Str}{pos:Pos}(hN:X.N[i]? =some x)(hv:Vis X.env.scope x)(hd:(x == ("__debug__":Str))=false:=by decide)(hcd:(x == ("__classdict__":Str))=false:=by decide):PE X (.Name x pos) (tVar i):=by
 intro pins s σ H Q I h;obtain⟨v,e,h⟩ :=h;obtain⟨m,hn,hl⟩ :=I.loc;obtain⟨u,r,l⟩ :=hl i x v hN e hv;have fin:EP X pins σ Q u s:= ⟨v,H,I,r,h⟩;rcases l with⟨hk,hm⟩ | ⟨hk,c,hc,hcell⟩
 ·exact wpAny_Name (wpAny_loadName_local I.ok.kind hk hn hm fin) hd
 ·rcases hk with hk|hk
  ·exact wpAny_Name (wpAny_loadName_cell I.ok.kind hk hc hcell fin) hd
  ·exact wpAny_Name (wpAny_loadName_free I.ok.kind hk hc hcell fin hcd) hd
theorem Af{i j pos}:PE X (.Constant (.int i) j pos) (tC (.int i)):=fun _ _ _ H _ I h=>wpAny_Constant_int ⟨.int i,H,I.tok _,⟨_,rfl⟩,h⟩
theorem gC{b j pos}:PE X (.Constant (.bool b) j pos) (tC (.bl b)):=fun _ _ _ H _ I h=>Constant_bool ⟨.bl b,H,I,rfl,h⟩
theorem D5{j pos}:PE X (.Constant .none j pos) (tC .non):=fun _ _ _ H _ I h=>Constant_none ⟨.non,H,I,rfl,h⟩
theorem Bz{x j pos}:PE X (.Constant (.str x) j pos) (tC (.str x)):=fun _ _ _ H _ I h=>Calls.Constant_str ⟨.str x,H,I.tok _,⟨_,rfl⟩,h⟩
def Gl(X:Cx)(x:Str):Prop:=X.env.kindOf x=some .globalImplicit
theorem N9{E:Value->Shared->Prop}{pins:List (Addr×Obj)}{s:Shared}{σ:St}{H:Hp}{x:Str}{u:Value}{pos:Pos}{Q:Value->Shared->Prop}(I:Inv X pins σ H s)(hg:Gl X x)(hm:X.mg x=some u)(h:Q u s)
  (hd:(x == ("__debug__":Str))=false:=by decide):wpAny (model X.prog X.w) X.A (eval (.Name x pos) X.env) Q E s:=
 Calls.Name_function_global I.ok.kind hg (Calls.loadGlobal_global (by rw[I.ok.glob];exact I.mod.glob.keeps I.bk) hm h) hd
theorem Fq{E:Value->Shared->Prop}{pins:List (Addr×Obj)}{s:Shared}{σ:St}{H:Hp}{x:Str}{u:Value}{pos:Pos}{Q:Value->Shared->Prop}(I:Inv X pins σ H s)(hg:Gl X x)(hm:X.mg x=none)(hv:bootBuiltins x=some u)(h:Q u s)
  (hn:x≠"__name__":=by decide) (hd:(x == ("__debug__":Str))=false:=by decide):wpAny (model X.prog X.w) X.A (eval (.Name x pos) X.env) Q E s:=by
 obtain⟨mb,h1,h2⟩ :=I.mod.blt;exact Calls.Name_function_global I.ok.kind hg (Calls.loadGlobal_builtin (by rw[I.ok.glob];exact I.mod.glob.keeps I.bk) hm (by rw[I.ok.blt];exact h1.keeps I.bk) ((h2 x hn).trans hv) h) hd
theorem Tn{x:Str}{v:V}{u:Value}{pos:Pos}(hg:Gl X x)(hm:X.mg x=some u)(r:RelV v u)(hd:(x == ("__debug__":Str))=false:=by decide):PE X (.Name x pos) (tC v):=
 fun _ _ _ H _ I h=>N9 I hg hm ⟨v,H,I,r,h⟩ hd
variable {a b:Expr}{ta tb:TE}{pos:Pos}
inductive BlI(Q:Bool->Hp->Prop)(x:V)(H:Hp):Prop|m:∀k,x=.bl k->Q k H->BlI Q x H
def tB(t:TE):TT:=fun σ H Q=>t σ H (BlI Q)
theorem Bk{e:Expr}{t:TE}(h:PE X e t)(he:∀whole,isTrue e X.env whole=(do let v<-whole;standAt e.pos;holding [v] (truthy v)):=by intro _;rfl):PT X e (tB t):=by
 intro pins s σ H Q I hw;refine isTrue_plain (thn (h pins s σ H _ I hw) fun v s1 ⟨x,H1,I1,r1,q1⟩ =>?_) (he _);obtain⟨d,rfl,q⟩ :=q1;cases r1;exact wpAny_truthy_bool ⟨H1,I1,q⟩
variable {tA tB':TT}{rest:List Expr}
def tAnd(t u:TT):TT:=fun σ H Q=>t σ H fun c H1=>if c=true then u σ H1 Q else Q false H1
def tOr(t u:TT):TT:=fun σ H Q=>t σ H fun c H1=>if c=true then Q true H1 else u σ H1 Q
def tNot(t:TT):TT:=fun σ H Q=>t σ H fun c H1=>Q (!c) H1
theorem Ob(ha:PT X a tA):PW X (.BoolOp .And [a] pos) tA:=by
 intro wh pins s σ H Q I h;refine isTrue_and (thn (ha pins s σ H Q I h) fun c s1 e=>?_);cases c with
 |true=>exact isTrue_and_nil e
 |false=>exact e
theorem C8(ha:PT X a tA):PW X (.BoolOp .Or [a] pos) tA:=by
 intro wh pins s σ H Q I h;refine isTrue_or (thn (ha pins s σ H Q I h) fun c s1 e=>?_);cases c with
 |false=>exact isTrue_or_nil e
 |true=>exact e
theorem Tt(ha:PT X a tA)(hb:PW X (.BoolOp .And (b::rest) pos) tB'):PW X (.BoolOp .And (a::b::rest) pos) (tAnd tA tB'):=by
 intro wh pins s σ H Q I h;refine isTrue_and (thn (ha pins s σ H _ I h) fun c s1 ⟨H1,I1,q1⟩ =>?_);cases c with
 |true=>exact hb wh pins s1 σ H1 Q I1 q1
 |false=>exact⟨H1,I1,q1⟩
theorem Dv(ha:PT X a tA)(hb:PW X (.BoolOp .Or (b::rest) pos) tB'):PW X (.BoolOp .Or (a::b::rest) pos) (tOr tA tB'):=by
 intro wh pins s σ H Q I h;refine isTrue_or (thn (ha pins s σ H _ I h) fun c s1 ⟨H1,I1,q1⟩ =>?_);cases c with
 |true=>exact⟨H1,I1,q1⟩
 |false=>exact hb wh pins s1 σ H1 Q I1 q1
theorem Bf(ha:PT X a tA):PT X (.UnaryOp .Not a pos) (tNot tA):=by
 intro pins s σ H Q I h;exact isTrue_not (ha pins s σ H (fun c H1=>Q (!c) H1) I h)
def tAndV(ta tb:TE):TE:=fun σ H Q=>ta σ H fun x H1=>∃c,x=.bl c/\if c=true then tb σ H1 Q else Q (.bl false) H1
def tOrV(ta tb:TE):TE:=fun σ H Q=>ta σ H fun x H1=>∃c,x=.bl c/\if c=true then Q (.bl true) H1 else tb σ H1 Q
def tNotV(ta:TE):TE:=fun σ H Q=>ta σ H fun x H1=>∃c,x=.bl c/\Q (.bl (!c)) H1
theorem Tp{op}{t:TE}(h:PE X a t):PE X (.BoolOp op [a] pos) t:=fun pins s σ H Q I hw=>BoolOp_one (h pins s σ H Q I hw)
theorem Xo(ha:PE X a ta)(hb:PE X (.BoolOp .And (b::rest) pos) tb):PE X (.BoolOp .And (a::b::rest) pos) (tAndV ta tb):=by
 intro pins s σ H Q I h;refine BoolOp_and (thn (ha pins s σ H _ I h) fun v s1 ⟨x,H1,I1,r1,q1⟩ =>?_);obtain⟨c,rfl,q1⟩ :=q1;cases r1;refine wpAny_truthy_bool ?_;cases c with
 |true=>exact hb pins s1 σ H1 Q I1 q1
 |false=>exact⟨.bl false,H1,I1,rfl,q1⟩
theorem gE(ha:PE X a ta)(hb:PE X (.BoolOp .Or (b::rest) pos) tb):PE X (.BoolOp .Or (a::b::rest) pos) (tOrV ta tb):=by
 intro pins s σ H Q I h;refine BoolOp_or (thn (ha pins s σ H _ I h) fun v s1 ⟨x,H1,I1,r1,q1⟩ =>?_);obtain⟨c,rfl,q1⟩ :=q1;cases r1;refine wpAny_truthy_bool ?_;cases c with
 |false=>exact hb pins s1 σ H1 Q I1 q1
 |true=>exact⟨.bl true,H1,I1,rfl,q1⟩
theorem iF(ha:PE X a ta):PE X (.UnaryOp .Not a pos) (tNotV ta):=by
 intro pins s σ H Q I h;refine UnaryOp_ (thn (ha pins s σ H _ I h) fun v s1 ⟨x,H1,I1,r1,q1⟩ =>?_);obtain⟨c,rfl,q1⟩ :=q1;cases r1;exact not_of (wpAny_truthy_bool ⟨.bl (!c),H1,I1,rfl,q1⟩)
def tIf(t:TT)(ta tb:TE):TE:=fun σ H Q=>t σ H fun c H1=>if c=true then ta σ H1 Q else tb σ H1 Q
theorem Vi{c:Expr}(hc:PT X c tA)(ha:PE X a ta)(hb:PE X b tb):PE X (.IfExp c a b pos) (tIf tA ta tb):=by
 intro pins s σ H Q I h;refine wpAny_IfExp (thn (hc pins s σ H _ I h) fun d s1 ⟨H1,I1,q1⟩ =>?_);cases d with
 |true=>exact ha pins s1 σ H1 Q I1 q1
 |false=>exact hb pins s1 σ H1 Q I1 q1
end
end L2
namespace L2
open PySem PySem.Spec PyProof.Rows
def SqL(K:PySem.W.Frag)(H:Hp)(a:Addr)(xs:List V):Prop:=
 Rd H a (.lst xs)∨
  ∃(o:Obj) (its:Array Value) (n:Nat),K.lookup a=some o/\o.cls=.type "list"/\o.dict=none/\o.data=.seq its n/\its.size<=sizeLine/\Vals xs its.toList
def SqT(K:PySem.W.Frag)(H:Hp)(a:Addr)(xs:List V):Prop:=
 Rd H a (.tup xs)∨
  ∃(o:Obj) (its:Array Value) (n:Nat),K.lookup a=some o/\o.cls=.type "tuple"/\o.data=.seq its n/\its.size<=sizeLine/\Vals xs its.toList
def absV:Value->Option V
 |.none=>some .non
 |.bool b=>some (.bl b)
 |.int i _=>some (.int i)
 |.str x _=>some (.str x)
 |.bytes b _=>some (.byt b)
 |.float b _=>some (.flt b)
 |.ref a=>some (.ref a)
 |.type n=>some (.ty n)
 |_=>none
theorem RelV.abs{x:V}{u:Value}(r:RelV x u):absV u=some x:=by
 cases x with
 |non=>cases r;rfl
 |bl _=>cases r;rfl
 |int _=>obtain⟨t,rfl⟩ :=r;rfl
 |str _=>obtain⟨t,rfl⟩ :=r;rfl
 |byt _=>obtain⟨t,rfl⟩ :=r;rfl
 |flt _=>obtain⟨t,rfl⟩ :=r;rfl
 |ref _=>cases r;rfl
 |ty _=>cases r;rfl
theorem RelV.inj{x y:V}{u:Value}(r:RelV x u)(q:RelV y u):x=y:=Option.some.inj (r.abs.symm.trans q.abs)
theorem Vals.inj:∀{xs ys:List V} {us:List Value},Vals xs us->Vals ys us->xs=ys
 |_,_,_,.nil,.nil=>rfl
 |_,_,_,.cons r t,.cons r' t'=>by rw[r.inj r',Vals.inj t t']
section
variable {X:Cx}{pins:List (Addr×Obj)}{σ:St}{H:Hp}{s:Shared}{a:Addr}{xs ys:List V}
theorem SqL.of{K:PySem.W.Frag}(h:H a=some (.lst xs)):SqL K H a xs:=.inl (.inl h)
theorem SqT.of{K:PySem.W.Frag}(h:H a=some (.tup xs)):SqT K H a xs:=.inl (.inl h)
theorem Inv.list(I:Inv X pins σ H s)(h:SqL X.K H a xs):∃its:List Value,Vals xs its/\PlainL s.heap a its.toArray/\xs.length<=sizeLine:=by
 rcases h with h| ⟨o,its,n,hk,hc,hd,hs,hz,r⟩
 ·obtain⟨z,its,n,r,e⟩ :=h.ok I.hok;exact⟨its,r,⟨_,n,e,rfl,rfl,rfl⟩,z⟩
 ·refine⟨its.toList,r,⟨o,n,I.kIn a o hk,hc,hd,by simpa using hs⟩,?_⟩;have e:=r.length;simp only [Array.length_toList]at e;omega
theorem Inv.tuple(I:Inv X pins σ H s)(h:SqT X.K H a xs):∃its:List Value,Vals xs its/\IsTup s.heap a its.toArray/\xs.length<=sizeLine:=by
 rcases h with h| ⟨o,its,n,hk,hc,hs,hz,r⟩
 ·obtain⟨z,its,r,p⟩ :=h.ok I.hok;exact⟨its,r,p,z⟩
 ·refine⟨its.toList,r,⟨o,I.kIn a o hk,hc,n,by simpa using hs⟩,?_⟩;have e:=r.length;simp only [Array.length_toList]at e;omega
theorem Inv.list_inj(I:Inv X pins σ H s)(h:SqL X.K H a xs)(h':SqL X.K H a ys):xs=ys:=by
 obtain⟨its,r,⟨o,n,e,_,_,d⟩,_⟩ :=I.list h;obtain⟨its',r',⟨o',n',e',_,_,d'⟩,_⟩ :=I.list h';rw[e]at e';cases e';rw[d]at d';injection d' with d1 _
 have:its=its':=by simpa using congrArg Array.toList d1
 subst this;exact r.inj r'
end
abbrev Cx.wish(X:Cx)(E:Value->Shared->Prop):Cx:={X with xe:=E}
abbrev Cx.nox(X:Cx):Cx:=X.wish fun _ _=>False
theorem Cx.Ok.wish{X:Cx}(ok:X.Ok)(E:Value->Shared->Prop):(X.wish E).Ok:=
 ⟨ok.mod,ok.kind,ok.glob,ok.blt,ok.above,ok.inj,ok.has,ok.cab,ok.hd,ok.frames,ok.stk,ok.exf,ok.bs,ok.bsz,ok.noex,ok.exfs,ok.funs,ok.frf⟩
theorem Cx.Ok.unwish{X:Cx}{E:Value->Shared->Prop}(ok:(X.wish E).Ok):X.Ok:=
 ⟨ok.mod,ok.kind,ok.glob,ok.blt,ok.above,ok.inj,ok.has,ok.cab,ok.hd,ok.frames,ok.stk,ok.exf,ok.bs,ok.bsz,ok.noex,ok.exfs,ok.funs,ok.frf⟩
section
variable {X:Cx}{pins:List (Addr×Obj)}{σ:St}{H:Hp}{s:Shared}{E:Value->Shared->Prop}
theorem Inv.wish(I:Inv X pins σ H s)(E:Value->Shared->Prop):Inv (X.wish E) pins σ H s:= ⟨I.ok.wish E,I.os,I.bare,I.base,I.loc,I.cell,I.free,I.freeC,I.pin,I.hok,I.len⟩
theorem Inv.unwish(I:Inv (X.wish E) pins σ H s):Inv X pins σ H s:= ⟨I.ok.unwish,I.os,I.bare,I.base,I.loc,I.cell,I.free,I.freeC,I.pin,I.hok,I.len⟩
theorem SP.unwish{D:Ends}{f:Flow}{s':Shared}(h:SP (X.wish E) pins D f s'):SP X pins D f s':=by
 cases f with
 |next=>obtain⟨σ',H',I,q⟩ :=h;exact⟨σ',H',I.unwish,q⟩
 |brk=>obtain⟨σ',H',I,q⟩ :=h;exact⟨σ',H',I.unwish,q⟩
 |cont=>obtain⟨σ',H',I,q⟩ :=h;exact⟨σ',H',I.unwish,q⟩
 |ret u=>obtain⟨v,σ',H',I,r,q⟩ :=h;exact⟨v,σ',H',I.unwish,r,q⟩
theorem PSs.nox{st:List Stmt}{t:TS}(h:PSs X.nox st t):PSs X st t:=fun pins s σ H D I hw=>
 wpAny_mono (h pins s σ H D (I.wish _) hw) (fun _ _ q=>q.unwish) fun _ _ z=>False.elim z
end
section
variable {X:Cx}{st:Stmt}{rest:List Stmt}{t u:TS}{e:Expr}{te:TE}{pos:Pos}
def tNext:TS:=fun D σ H=>D.nx σ H
def tSeq(t u:TS):TS:=fun D σ H=>t {D with nx:=u D} σ H
theorem Aq:PSs X [] tNext:=fun _ _ σ H _ I h=>wpAny_execs_nil ⟨σ,H,I,h⟩
theorem Ac(h1:PS X st t)(h2:PSs X rest u):PSs X (st::rest) (tSeq t u):=by
 intro pins s σ H D I h;refine wpAny_execs_cons (thn (h1 pins s σ H {D with nx:=u D} I h) fun f s1 q=>?_);cases f with
 |next=>
  obtain⟨σ',H',I',q⟩ :=q;exact h2 pins s1 σ' H' D I' q
 |ret v=>exact q
 |brk=>exact q
 |cont=>exact q
theorem Ad(h1:PS X st t):PSs X [st] t:=by
 intro pins s σ H D I h;refine wpAny_execs_cons (thn (h1 pins s σ H D I h) fun f s1 q=>?_);cases f with
 |next=>exact wpAny_execs_nil q
 |ret v=>exact q
 |brk=>exact q
 |cont=>exact q
theorem Inv.quiet{pins:List (Addr×Obj)}{σ:St}{H:Hp}{s:Shared}(I:Inv X pins σ H s):interactive X.env=false:=by simp[interactive,I.ok.kind]
def tDrop(te:TE):TS:=fun D σ H=>te σ H fun _ H1=>D.nx σ H1
theorem Cg(he:PE X e te)(hs:swapsWith e none pos.line X.env=pure false:=by rfl):PS X (.Expr e pos) (tDrop te):=by
 intro pins s σ H D I h;exact wpAny_Expr_any (thn (he pins s σ H _ I h) fun v s1 ⟨x,H1,I1,r1,q1⟩ => ⟨σ,H1,I1,q1⟩) I.quiet hs
def tRet(te:TE):TS:=fun D σ H=>te σ H D.rt
theorem Ah(he:PE X e te):PS X (.Return (some e) pos) (tRet te):=by
 intro pins s σ H D I h;exact wpAny_Return_some (thn (he pins s σ H _ I h) fun v s1 ⟨x,H1,I1,r1,q1⟩ => ⟨x,σ,H1,I1,r1,q1⟩)
def tIfS(c:TT)(t u:TS):TS:=fun D σ H=>c σ H fun b H1=>if b=true then t D σ H1 else u D σ H1
theorem A1{c:Expr}{a b:List Stmt}{tc:TT}(hc:PT X c tc)(ha:PSs X a t)(hb:PSs X b u):PS X (.If c a b pos) (tIfS tc t u):=by
 intro pins s σ H D I h;refine wpAny_If (thn (hc pins s σ H _ I h) fun d s1 ⟨H1,I1,q1⟩ =>?_);cases d with
 |true=>exact ha pins s1 σ H1 D I1 q1
 |false=>exact hb pins s1 σ H1 D I1 q1
end
abbrev TG:=V->St->Hp->(St->Hp->Prop)->Prop
abbrev TGs:=List V->St->Hp->(St->Hp->Prop)->Prop
def PG(X:Cx)(target:Expr)(t:TG):Prop:=
 ∀(pins:List (Addr×Obj)) (s:Shared) (σ:St) (H:Hp) (v:V) (u:Value) (Q:St->Hp->Prop),Inv X pins σ H s->RelV v u->t v σ H Q->
  wpAny (model X.prog X.w) X.A (assign target X.env u) (fun _ s'=>∃σ' H',Inv X pins σ' H' s'/\Q σ' H') X.xe s
def PGs(X:Cx)(ts:List Expr)(t:TGs):Prop:=
 ∀(pins:List (Addr×Obj)) (s:Shared) (σ:St) (H:Hp) (vs:List V) (us:List Value) (Q:St->Hp->Prop),Inv X pins σ H s->Vals vs us->t vs σ H Q->
  wpAny (model X.prog X.w) X.A (assignInOrder ((assignEach ts X.env).map (·.2)) us) (fun _ s'=>∃σ' H',Inv X pins σ' H' s'/\Q σ' H') X.xe s
abbrev TSet:=V->V->V->Hp->(Hp->Prop)->Prop
def PSet(X:Cx)(t:TSet):Prop:=
 ∀(pins:List (Addr×Obj)) (s:Shared) (σ:St) (H:Hp) (o i v:V) (ov iv u:Value) (Q:Hp->Prop),Inv X pins σ H s->RelV o ov->RelV i iv->RelV v u->t o i v H Q->
  wpAny (model X.prog X.w) X.A (setItem ov iv u) (fun _ s'=>∃H',Inv X pins σ H' s'/\Q H') X.xe s
section
variable {X:Cx}{pos:Pos}
def gName(i:Nat):TG:=fun v σ H Q=>Q (σ.set i (some v)) H
theorem Am{i:Nat}{x:Str}(hN:X.N.Nodup)(hi:X.N[i]? =some x)(hx:Loc X.env.scope x)(hf:X.fn x=true∨X.env.scope.names.lookup x=some .local:=by first|exact .inl rfl|exact .inr rfl|assumption):PG X (.Name x pos) (gName i):=by
 intro pins s σ H v u Q I r h;exact wpAny_assign_Name (V6 I hN hi hx r (fun s' I'=> ⟨_,H,I',h⟩) hf)
def gNil:TGs:=fun vs σ H Q=>vs= []/\Q σ H
inductive gCons(t:TG)(u:TGs)(vs:List V)(σ:St)(H:Hp)(Q:St->Hp->Prop):Prop|m:∀v r,vs=v::r->(t v σ H fun σ' H'=>u r σ' H' Q)->gCons t u vs σ H Q
theorem C6:PGs X [] gNil:=by
 intro pins s σ H vs us Q I r h;obtain⟨e,h⟩ :=h;subst e;cases r;exact assignInOrder_nil ⟨σ,H,I,h⟩
theorem A5{e:Expr}{es:List Expr}{t:TG}{u:TGs}(h1:PG X e t)(h2:PGs X es u)
  (hs:(assignEach (e::es) X.env).map (·.2)=assign e X.env::(assignEach es X.env).map (·.2):=by rfl):PGs X (e::es) (gCons t u):=by
 intro pins s σ H vs us Q I r h;obtain⟨v,vr,e1,h⟩ :=h;subst e1;cases r with
 |cons r rr=>
  rw[hs];refine assignInOrder_cons (thn (h1 pins s σ H _ _ _ I r h) fun _ s1 ⟨σ1,H1,I1,q1⟩ =>?_);exact h2 pins s1 σ1 H1 _ _ Q I1 rr q1
inductive gTup(K:PySem.W.Frag)(n:Nat)(t:TGs)(v:V)(σ:St)(H:Hp)(Q:St->Hp->Prop):Prop|m:∀a xs,v=.ref a->SqT K H a xs->xs.length=n->t xs σ H Q->gTup K n t v σ H Q
theorem J9{es:List Expr}{k:Nat}{t:TGs}{n:Nat}(hc:X.calm=true)(h:PGs X es t)
  (hn:(assignEach es X.env).length=n:=by rfl) (hst:(assignEach es X.env).findIdx? (·.1)=none:=by rfl):PG X (.Tuple es k pos) (gTup X.K n t):=by
 intro pins s σ H v u Q I r hw;obtain⟨a,xs,e1,hq,hl,hw⟩ :=hw;subst e1;cases r;obtain⟨its,rv,ht,hz⟩ :=I.tuple hq;refine assign_Tuple_tuple (I.ok.hd hc) ht (by simp[hn,<-hl,rv.length]) hst fun h' hx=>?_;have I1:Inv X pins σ H {s with heap:=h'}:=I.kept (t':=s.toks) fun b o e=>hx b o (Nat.ne_of_lt (Heap.lt_size e)) e;exact h pins _ σ H xs _ Q I1 (by simpa using rv) hw
def gSub(to ti:TE)(t:TSet):TG:=fun v σ H Q=>to σ H fun o H1=>ti σ H1 fun i H2=>t o i v H2 fun H3=>Q σ H3
theorem Xp{o i:Expr}{to ti:TE}{t:TSet}(ho:PE X o to)(hi:PE X i ti)(hs:PSet X t)
  (ha:∀v,assign (.Subscript o i pos) X.env v=(do
   let ov<-holding [v] (eval o X.env)
   let iv<-holding [v,ov] (eval i X.env)
   standAt pos
   holding [v,ov,iv] (setItem ov iv v)
   release [v,ov,iv] []):=by intro _;rfl):PG X (.Subscript o i pos) (gSub to ti t):=by
 intro pins s σ H v u Q I r h;rw[ha];refine wpAny_bind (wpAny_holding (thn (ho pins s σ H _ I h) fun ov s1 ⟨x,H1,I1,r1,q1⟩ =>?_));refine wpAny_bind (wpAny_holding (thn (hi pins s1 σ H1 _ I1 q1) fun iv s2 ⟨y,H2,I2,r2,q2⟩ =>?_));refine wpAny_bind (wpAny_standAt (wpAny_bind (wpAny_holding (thn (hs pins s2 σ H2 x y v ov iv u _ I2 r1 r2 r q2) fun _ s3 ⟨H3,I3,q3⟩ =>?_))));exact wpAny_release ⟨σ,H3,I3,q3⟩
def tAsg(te:TE)(g:TG):TS:=fun D σ H=>te σ H fun x H1=>g x σ H1 D.nx
theorem Xu{tg e:Expr}{te:TE}{g:TG}(he:PE X e te)(hg:PG X tg g)(hs:swapsWithSole [tg] e pos.line X.env=pure false:=by rfl)(hw:swappedStores [tg] e X.env=pure none:=by rfl)
  (h1:(assignEach [tg] X.env).map (·.2)= [assign tg X.env]:=by rfl):PS X (.Assign [tg] e pos) (tAsg te g):=by
 intro pins s σ H D I h;refine wpAny_Assign_stores (thn (he pins s σ H _ I h) fun v s1 ⟨x,H1,I1,r1,q1⟩ =>?_) hs hw;rw[h1];exact thn (hg pins s1 σ H1 x v _ I1 r1 q1) fun _ s2 q=>q
theorem Aj{i:Nat}{x:Str}{e:Expr}{te:TE}{pos':Pos}(hN:X.N.Nodup)(hi:X.N[i]? =some x)(hx:Loc X.env.scope x)(he:PE X e te)(hs:swapsWith e (some (.Name x pos')) pos.line X.env=pure false:=by rfl)(hf:X.fn x=true∨X.env.scope.names.lookup x=some .local:=by first|exact .inl rfl|exact .inr rfl|assumption):
  PS X (.Assign [.Name x pos'] e pos) (tAsg te (gName i)):=by
 intro pins s σ H D I h;refine wpAny_Assign_Name (thn (he pins s σ H _ I h) fun v s1 ⟨y,H1,I1,r1,q1⟩ =>?_) hs;exact V6 I1 hN hi hx r1 (fun s2 I2=> ⟨_,H1,I2,q1⟩) hf
inductive tWhile(c:TT)(tb:TS)(D:Ends)(σ:St)(H:Hp):Prop|m:∀(W:Nat->St->Hp->Prop),(∃m,W m σ H)->(∀m σ H,W m σ H->c σ H fun b H1=>if b=true then∃N:St->Hp->Prop,(∀σ' H',N σ' H'->∃m',m' < m/\W m' σ' H')/\tb {D with nx:=N,ct:=N,bk:=D.nx} σ H1 else D.nx σ H1)->tWhile c tb D σ H
theorem K1{c:Expr}{body:List Stmt}{tc:TT}{tb:TS}(hp:PassesOwn (model X.prog X.w) X.A X.env X.xe)(hc:PT X c tc)(hb:PSs X body tb):PS X (.While c body [] pos) (tWhile tc tb):=by
 intro pins s σ H D I h;obtain⟨W,⟨m0,w0⟩,turn⟩ :=h;refine wpAny_While (codeAny_whileLoop (fun n s'=>∃σ' H',Inv X pins σ' H' s'/\W n σ' H') ?_ m0 ⟨σ,H,I,w0⟩);rintro n s1 ⟨σ1,H1,I1,w1⟩;refine wpAny_passesOwn hp (thn (hc pins s1 σ1 H1 _ I1 (turn n σ1 H1 w1)) fun b s2 ⟨H2,I2,q2⟩ =>?_);cases b with
 |true=>
  obtain⟨N,hN,q2⟩ :=q2;rw[if_pos rfl];refine wpAny_passesOwn hp (thn (hb pins s2 σ1 H2 _ I2 q2) fun f s3 q3=>?_);cases f with
  |next=>
   obtain⟨σ3,H3,I3,n3⟩ :=q3;obtain⟨m',hm,w3⟩ :=hN σ3 H3 n3;exact⟨m',hm,σ3,H3,I3,w3⟩
  |cont=>
   obtain⟨σ3,H3,I3,n3⟩ :=q3;obtain⟨m',hm,w3⟩ :=hN σ3 H3 n3;exact⟨m',hm,σ3,H3,I3,w3⟩
  |brk=>exact q3
  |ret v=>exact q3
 |false=>
  rw[if_neg Bool.false_ne_true];exact wpAny_execs_nil ⟨σ1,H2,I2,q2⟩
end
structure It where
 go:Nat->Hp->Prop
 yld:Nat->Hp->V->Hp->Prop
 stop:Nat->Hp->Prop
def FpOk(X:Cx)(pins:List (Addr×Obj))(H:Hp)(b:Addr):Prop:=
 H b=none/\b≠X.env.locals/\b∉X.fs/\(b∈X.ex∨X.s_0.heap.objs.size<=b)/\(∀x c,X.env.cells.lookup x=some c->c≠b)/\∀p∈X.pn++pins,p.1≠b
theorem Inv.fpOk{X:Cx}{pins:List (Addr×Obj)}{σ:St}{H H':Hp}{s:Shared}{b:Addr}(I:Inv X pins σ H s)(hb:s.heap.objs.size<=b)(hn:H' b=none):FpOk X pins H' b:=by
 refine⟨hn,Nat.ne_of_gt (Nat.lt_of_lt_of_le I.lt hb),I.nofs hb,.inr (Nat.le_trans I.sz hb),fun x c e z=>?_,fun p hp z=>?_⟩
 ·obtain⟨v,q⟩ :=I.cell x c e;exact absurd (Nat.lt_of_lt_of_le q.lt (by rw[z];exact hb)) (Nat.lt_irrefl _)
 ·exact absurd (Nat.lt_of_lt_of_le (Heap.lt_size (I.pin p hp).1) (by rw[z];exact hb)) (Nat.lt_irrefl _)
structure Turn(P:Program)(w:World)(K:PySem.W.Frag)(tg:Expr)(J:It)(fp:List Addr)(it:Addr)(tn:Nat->Heap->Prop):Prop where
 mem:it∈fp
 obj:∀i h,tn i h->∀b∈fp,∃o,h.get? b=some o/\∀v,o.data≠.cell v
 keep:∀i h h',tn i h->(∀b∈fp,∀o,h.get? b=some o->h'.get? b=some o)->tn i h'
 item:∀(X:Cx),X.prog=P->X.w=w->X.K=K->X.calm=true->∀(i:Nat) (pins:List (Addr×Obj)) (s:Shared) (σ:St) (H:Hp) (E:Value->Shared->Prop),Inv X pins σ H s->(∀b∈fp,FpOk X pins H b)->tn i s.heap->J.go i H->
  wpAny (model P w) X.A (pyNext (.ref it)) (fun r s1=>∃u,r=some u/\
   wpAny (model P w) X.A (letOwnedTupleGo tg (.ref it) u) (fun _ s2=>∃x H',Inv X pins σ H' s2/\RelV x u/\J.yld i H x H'/\tn (i + 1) s2.heap/\∀b∈fp,H' b=none) E s1) E s
 done:∀(X:Cx),X.prog=P->X.w=w->X.K=K->X.calm=true->∀(i:Nat) (pins:List (Addr×Obj)) (s:Shared) (σ:St) (H:Hp) (E:Value->Shared->Prop),Inv X pins σ H s->(∀b∈fp,FpOk X pins H b)->tn i s.heap->J.stop i H->
  wpAny (model P w) X.A (pyNext (.ref it)) (fun r s1=>r=none/\Inv X pins σ H s1) E s
 self:∀(A:Around) (i:Nat) (s:Shared) (Q:Value->Shared->Prop) (E:Value->Shared->Prop),tn i s.heap->Q (.ref it) s->wpAny (model P w) A (pyIter (.ref it)) Q E s
abbrev TI:=St->Hp->(It->Hp->Prop)->Prop
inductive PIE(X:Cx)(pins:List (Addr×Obj))(σ:St)(tg:Expr)(R:It->Hp->Prop)(itv:Value)(s2:Shared):Prop|m:∀(it:Addr) (fp:List Addr) (tn:Nat->Heap->Prop) (J:It) (H':Hp),itv=.ref it->Inv X pins σ H' s2->Turn X.prog X.w X.K tg J fp it tn->tn 0 s2.heap->(∀b∈fp,FpOk X pins H' b)->R J H'->PIE X pins σ tg R itv s2
def PI(X:Cx)(tg iter:Expr)(wi:TI):Prop:=
 ∀(pins:List (Addr×Obj)) (s:Shared) (σ:St) (H:Hp) (R:It->Hp->Prop),Inv X pins σ H s->wi σ H R->
  wpAny (model X.prog X.w) X.A (eval iter X.env) (fun v s1=>wpAny (model X.prog X.w) X.A (pyIter v) (PIE X pins σ tg R) X.xe s1) X.xe s
theorem Yk{M:Model}{A:Around}{E:Value->Shared->Prop}{s:Shared}{tg:Expr}{it:Addr}{u:Value}{o:Obj}{n:String}{vs:Array Value}{Q:Unit->Shared->Prop}(ho:s.heap.get? it=some o)(hc:o.cls=.type n)(hd:o.data=.fields vs)
  (hn:["enumerate","zip","dict_itemiterator","dict_reverseitemiterator","odict_iterator","itertools.zip_longest","itertools.pairwise"].contains n=false) (hQ:Q () s):wpAny M A (letOwnedTupleGo tg (.ref it) u) Q E s:=by
 unfold letOwnedTupleGo;cases tg<;>first
  |exact wpAny_pure hQ
  |(cases u<;>first
    |exact wpAny_pure hQ
    |(refine wpAny_bind (wpAny_load ho ?_)
      rw[hc,hd];show wpAny M A (if (["enumerate","zip","dict_itemiterator","dict_reverseitemiterator","odict_iterator","itertools.zip_longest","itertools.pairwise"].contains n&&vs[0]? == some (rawInt _))=true then _ else _) Q E s;rw[if_neg (by intro h;rw[hn,Bool.false_and]at h;cases h)];exact wpAny_pure hQ))
def Itl(K:PySem.W.Frag)(a:Addr):It:=
 ⟨fun i H=>∃xs x,SqL K H a xs/\xs[i]? =some x,fun i H x H'=>H'=H/\∀xs,SqL K H a xs->xs[i]? =some x,fun i H=>∃xs,SqL K H a xs/\xs.length<=i⟩
def Itr(lo:Int)(n:Nat):It:= ⟨fun i _=>i < n,fun i H x H'=>H'=H/\x=.int (lo + i),fun i _=>n<=i⟩
theorem aE{P:Program}{w:World}{K:PySem.W.Frag}{tg:Expr}(a it:Addr):Turn P w K tg (Itl K a) [it] it (fun i h=>h.IsListIter it a i) where
 mem:=by simp
 obj:=fun i h st b hb=>by
  have e:b=it:=by simpa using hb
  subst e;obtain⟨o,e,c,d⟩ :=st;exact⟨o,e,fun v z=>by rw[d]at z;cases z⟩
 keep:=fun i h h' st k=>st.at fun o e=>k it (by simp) o e
 item:=by
  intro X hP hw hK hc i pins s σ H E I hf st hg;subst hP hw hK;obtain⟨xs,x,hq,hx⟩ :=hg;obtain⟨its,rv,p,hz⟩ :=I.list hq;obtain⟨u,hu,ru⟩ :=rv.get hx;obtain⟨f0,f1,f2,f3,f4,f5⟩ :=hf it (by simp);refine wpAny_pyNext_list_item st p.isList (x:=u) (by simpa using hu) fun h' st' sb=>?_;have I1:Inv X pins σ H {s with heap:=h'}:=I.turned (t':=s.toks) (fun b o hb e=>(sb.2 b hb).trans e) f0 f1 f3 f4 f5;obtain⟨o,e,c,d⟩ :=id st';exact⟨u,rfl,Yk (s:={s with heap:=h'}) e c d (by decide) ⟨x,H,I1,ru,⟨rfl,fun ys hy=>by rw[I.list_inj hy hq];exact hx⟩,st',fun b hb=>(hf b hb).1⟩⟩
 done:=by
  intro X hP hw hK hc i pins s σ H E I hf st hg;subst hP hw hK;obtain⟨xs,hq,hx⟩ :=hg;obtain⟨its,rv,p,hz⟩ :=I.list hq;obtain⟨f0,f1,f2,f3,f4,f5⟩ :=hf it (by simp);have hl:=rv.length;exact wpAny_pyNext_list_end (I.ok.hd hc) st p.isList (by simp;omega) fun h' eb=> ⟨rfl,I.turned (t':=s.toks) (fun b o hb e=>eb b o hb e) f0 f1 f3 f4 f5⟩
 self:=fun _ _ _ _ _ st h=>wpAny_pyIter_listiter st h
theorem X6{P:Program}{w:World}{K:PySem.W.Frag}{tg:Expr}(it:Addr)(lo:Int)(n:Nat):Turn P w K tg (Itr lo n) [it] it (fun i h=>IsRangeIter h it (lo + (i:Nat) * 1) ((n:Int) - (i:Nat)) 1) where
 mem:=by simp
 obj:=fun i h st b hb=>by
  have e:b=it:=by simpa using hb
  subst e;exact⟨_,st,fun v z=>by
   have z':Data.fields _=Data.cell v:=z;cases z'⟩
 keep:=fun i h h' st k=>k it (by simp) _ st
 item:=by
  intro X hP hw hK hc i pins s σ H E I hf st hg;subst hP hw hK;obtain⟨f0,f1,f2,f3,f4,f5⟩ :=hf it (by simp);have W:=Walks.range (prog:=X.prog) (w:=X.w) (I.ok.hd hc) it lo 1 n;refine W.item i s _ _ hg st fun v h' tk hv st' kk=>?_;obtain⟨t,rfl⟩ :=hv;have I1:Inv X pins σ H {s with heap:=h',toks:=tk}:=I.turned (fun b o hb e=>kk b o (by simpa using hb) e) f0 f1 f3 f4 f5;refine⟨_,rfl,Yk (s:={s with heap:=h',toks:=tk}) (n:="range_iterator") st' rfl rfl (by decide) ⟨.int (lo + i),H,I1,⟨t,?_⟩,⟨rfl,rfl⟩,st',fun b hb=>(hf b hb).1⟩⟩;rw[Int.mul_one]
 done:=by
  intro X hP hw hK hc i pins s σ H E I hf st hg;subst hP hw hK;obtain⟨f0,f1,f2,f3,f4,f5⟩ :=hf it (by simp);exact wpAny_pyNext_range_end (I.ok.hd hc) st (by have:n<=i:=hg;omega) fun h' eb=> ⟨rfl,I.turned (t':=s.toks) (fun b o hb e=>eb b o hb e) f0 f1 f3 f4 f5⟩
 self:=fun _ _ _ _ _ st h=>wpAny_pyIter_rangeiter st h
end L2
namespace L2
open PySem PySem.Spec PyProof.Rows
section
variable {X:Cx}{tg:Expr}
inductive ILi(K:PySem.W.Frag)(R:It->Hp->Prop)(x:V)(H:Hp):Prop|m:∀a,x=.ref a->(∃xs,SqL K H a xs)->R (Itl K a) H->ILi K R x H
def iList(K:PySem.W.Frag)(tl:TE):TI:=fun σ H R=>tl σ H (ILi K R)
theorem A0{l:Expr}{tl:TE}(hl:PE X l tl):PI X tg l (iList X.K tl):=by
 intro pins s σ H R I h;refine thn (hl pins s σ H _ I h) fun v s1 ⟨x,H1,I1,r1,q1⟩ =>?_;obtain⟨a,e,⟨xs,hq⟩,q⟩ :=q1;subst e;cases r1;obtain⟨its,rv,p,hz⟩ :=I1.list hq;refine wpAny_pyIter_list p.isList ?_;refine⟨s1.heap.objs.size,[s1.heap.objs.size],_,_,H1,rfl,I1.kept (t':=s1.toks) fun b o e=>Heap.get?_push_of_some _ e,aE a _,⟨_,Heap.get?_push_size _ rfl,rfl,rfl⟩,fun b hb=>?_,q⟩;have e:b=s1.heap.objs.size:=by simpa using hb
 subst e;exact I1.fpOk (Nat.le_refl _) (I1.hok.fresh (Nat.le_refl _))
theorem Vo{pins:List (Addr×Obj)}{σ:St}{H:Hp}{s:Shared}{R:It->Hp->Prop}{E:Value->Shared->Prop}{lo hi:Int}{t u v:Tok}{tk:Nat}(I:Inv X pins σ H s)(h1: -(2^62)<=lo)(h2:lo < 2^62)(h3: -(2^62)<=hi)(h4:hi < 2^62)
  (q:R (Itr lo (hi - lo).toNat) H):wpAny (model X.prog X.w) X.A (pyIter (.ref s.heap.objs.size)) (PIE X pins σ tg R) E {s with heap:=s.heap.push {cls:=.type "range",data:=.fields #[.int lo t,.int hi u,.int 1 v]},toks:=tk}:=by
 refine wpAny_pyIter_range (IsRange.new ..) (small_one h1 h2 h3 h4) ?_;have I1:Inv X pins σ H {s with heap:=s.heap.push {cls:=.type "range",data:=.fields #[.int lo t,.int hi u,.int 1 v]},toks:=tk}:=I.kept fun b o e=>Heap.get?_push_of_some _ e;refine⟨(s.heap.push {cls:=.type "range",data:=.fields #[.int lo t,.int hi u,.int 1 v]}).objs.size,[(s.heap.push {cls:=.type "range",data:=.fields #[.int lo t,.int hi u,.int 1 v]}).objs.size],_,_,H,rfl,
  I1.kept (t':=tk) fun b o e=>Heap.get?_push_of_some _ e,X6 _ lo (hi - lo).toNat,?_,fun b hb=>?_,q⟩
 ·have e1:lo + ((0:Nat):Int) * 1=lo:=by simp
  have e2:(((hi - lo).toNat:Nat):Int) - ((0:Nat):Int)=Builtin.Range.rangeSize lo hi 1:=by rw[rangeSize_one];split<;>omega
  show IsRangeIter _ _ (lo + ((0:Nat):Int) * 1) ((((hi - lo).toNat:Nat):Int) - ((0:Nat):Int)) 1;rw[e1,e2];exact Heap.get?_push_size _ rfl
 ·have e:b=(s.heap.push {cls:=.type "range",data:=.fields #[.int lo t,.int hi u,.int 1 v]}).objs.size:=by simpa using hb
  subst e;exact I1.fpOk (Nat.le_refl _) (I1.hok.fresh (Nat.le_refl _))
def iRng1(ta:TA):TI:=fun σ H R=>ta σ H fun vs H1=>∃j:Int,vs= [.int j]/\-(2^62)<=j/\j < 2^62/\R (Itr 0 j.toNat) H1
def iRng2(ta:TA):TI:=fun σ H R=>ta σ H fun vs H1=>∃i j:Int,vs= [.int i,.int j]/\(-(2^62)<=i/\i < 2^62/\-(2^62)<=j/\j < 2^62)/\R (Itr i (j - i).toNat) H1
theorem Ma{a:Expr}{ta:TA}{p pos:Pos}(hg:Gl X "range")(hm:X.mg "range"=none)(ha:PA X [a] ta)(hs:starEach [a] X.env= [(false,eval a X.env)]:=by rfl):PI X tg (.Call (.Name "range" p) [a] [] pos) (iRng1 ta):=by
 intro pins s σ H R I h;refine Call_ (Fq I hg hm boot_range (PyProof.Rows.callWith_type1 (thn (ha pos pins s σ H _ I h) fun us s1 ⟨vs,H1,I1,r1,q1⟩ =>?_) hs rfl));obtain⟨j,e,q1,q2,q⟩ :=q1;subst e;cases r1 with
 |cons r rr=>
  cases rr;obtain⟨t,rfl⟩ :=r;exact call_range_1 (Vo I1 (by omega) (by omega) q1 q2 (by simpa using q))
theorem Zx{a b:Expr}{ta:TA}{p pos:Pos}(hg:Gl X "range")(hm:X.mg "range"=none)(ha:PA X [a,b] ta)(hs:starEach [a,b] X.env= [(false,eval a X.env),(false,eval b X.env)]:=by rfl)(hs2:starEach [b] X.env= [(false,eval b X.env)]:=by rfl):
  PI X tg (.Call (.Name "range" p) [a,b] [] pos) (iRng2 ta):=by
 intro pins s σ H R I h;refine Call_ (Fq I hg hm boot_range (PyProof.Rows.callWith_type1 (thn (ha pos pins s σ H _ I h) fun us s1 ⟨vs,H1,I1,r1,q1⟩ =>?_) (by rw[hs,hs2]) (by rw[hs2];rfl)));obtain⟨i,j,e,⟨q1,q2,q3,q4⟩,q⟩ :=q1;subst e;cases r1 with
 |cons r rr=>
  cases rr with
  |cons r' rr=>
   cases rr;obtain⟨t,rfl⟩ :=r;obtain⟨t',rfl⟩ :=r';exact call_range_2 (Vo I1 q1 q2 q3 q4 q)
def tFor(wi:TI)(g:TG)(tb:TS):TS:=fun D σ H=>wi σ H fun J H1=>∃W:Nat->Nat->St->Hp->Prop,(∃m,W 0 m σ H1)/\∀i m σ H,W i m σ H->
 (J.stop i H/\D.nx σ H)∨(J.go i H/\∃N:St->Hp->Prop,(∀σ' H',N σ' H'->∃m',m' < m/\W (i + 1) m' σ' H')/\∀x H',J.yld i H x H'->g x σ H' fun σ2 H2=>tb {D with nx:=N,ct:=N,bk:=D.nx} σ2 H2)
def pinsAt(fp:List Addr)(h:Heap):List (Addr×Obj):=fp.filterMap fun b=>(h.get? b).map fun o=>(b,o)
theorem J3{fp:List Addr}{h:Heap}{b:Addr}{o:Obj}(hb:b∈fp)(e:h.get? b=some o):(b,o)∈pinsAt fp h:=List.mem_filterMap.mpr ⟨b,hb,by rw[e];rfl⟩
theorem Zt{fp:List Addr}{h:Heap}{p:Addr×Obj}(hp:p∈pinsAt fp h):p.1∈fp/\h.get? p.1=some p.2:=by
 obtain⟨b,hb,e⟩ :=List.mem_filterMap.mp hp;cases q:h.get? b with
 |none=>rw[q]at e;cases e
 |some o=>
  rw[q]at e;have e':(b,o)=p:=Option.some.inj e;subst e';exact⟨hb,q⟩
theorem Inv.pinned{pins:List (Addr×Obj)}{σ:St}{H:Hp}{s:Shared}{fp:List Addr}(I:Inv X pins σ H s)(hf:∀b∈fp,FpOk X pins H b)(ho:∀b∈fp,∃o,s.heap.get? b=some o/\∀v,o.data≠.cell v):Inv X (pins++pinsAt fp s.heap) σ H s:=
 I.pins_of fun p hp=>(List.mem_append.mp hp).elim (fun z=>I.pin p (List.mem_append_right _ z)) fun z=>by
  obtain⟨hb,e⟩ :=Zt z;obtain⟨f0,f1,f2,_⟩ :=hf p.1 hb;obtain⟨o,e',d⟩ :=ho p.1 hb;rw[e]at e';cases e';exact⟨e,f0,f1,f2,d⟩
theorem Inv.unpinned{pins pl:List (Addr×Obj)}{σ:St}{H:Hp}{s:Shared}(I:Inv X (pins++pl) σ H s):Inv X pins σ H s:=I.pins_of fun p hp=>I.pin p (List.mem_append_right _ (List.mem_append_left _ hp))
theorem Ch{iter:Expr}{body:List Stmt}{wi:TI}{g:TG}{tb:TS}{pos:Pos}(hp:PassesOwn (model X.prog X.w) X.A X.env X.xe)(hc:X.calm=true)(hi:PI X tg iter wi)(hg:PG X tg g)(hb:PSs X body tb)
  (hs:∀x,foldedSetIterable iter X.env x=pure x:=by intro _;rfl):PS X (.For tg iter body [] pos) (tFor wi g tb):=by
 intro pins s σ H D I h;refine wpAny_For (thn (hi pins s σ H _ I h) fun v s1 h1=>thn h1 fun itv s2 h2=>?_) hs;obtain⟨it,fp,tn,J,H2,e,I2,T,st2,f2,W,⟨m0,w0⟩,turn⟩ :=h2;subst e;have stat:∀{H':Hp},(∀b∈fp,H' b=none)->∀b∈fp,FpOk X pins H' b:=fun hn b hb=> ⟨hn b hb,(f2 b hb).2⟩;refine codeAny_forLoop_any (fun n s'=>∃i σ' H',Inv X pins σ' H' s'/\tn i s'.heap/\(∀b∈fp,H' b=none)/\W i n σ' H') ?_ m0 ⟨0,σ,H2,I2,st2,fun b hb=>(f2 b hb).1,w0⟩;rintro n s3 ⟨i,σ3,H3,I3,st3,fr3,w3⟩;rcases turn i n σ3 H3 w3 with⟨stop,qn⟩ | ⟨go,N,hN,step⟩
 ·refine wpAny_passesOwn hp (thn (T.done X rfl rfl rfl hc i pins s3 σ3 H3 X.xe I3 (stat fr3) st3 stop) fun r s4 ⟨hr,I4⟩ =>?_);subst hr;exact wpAny_execs_nil ⟨σ3,H3,I4,qn⟩
 ·refine wpAny_passesOwn hp (thn (T.item X rfl rfl rfl hc i pins s3 σ3 H3 X.xe I3 (stat fr3) st3 go) fun r s4 ⟨u,hr,h4⟩ =>?_);subst hr;refine wpAny_passesOwn hp (thn h4 fun _ s5 ⟨x,H5,I5,r5,y5,st5,fr5⟩ =>?_);have I5':=I5.pinned (stat fr5) (T.obj _ _ st5);refine wpAny_passesOwn hp (thn (hg _ s5 σ3 H5 x u _ I5' r5 (step x H5 y5)) fun _ s6 ⟨σ6,H6,I6,q6⟩ =>?_);refine wpAny_passesOwn hp (thn (hb _ s6 σ6 H6 _ I6 q6) fun f s7 q7=>?_);have again:∀{σ7:St} {H7:Hp},Inv X (pins++pinsAt fp s5.heap) σ7 H7 s7->N σ7 H7->∃m,m < n/\∃i σ' H',Inv X pins σ' H' s7/\tn i s7.heap/\(∀b∈fp,H' b=none)/\W i m σ' H':=fun{σ7 H7} I7 n7=>by
   obtain⟨m',hm,w7⟩ :=hN σ7 H7 n7;refine⟨m',hm,i + 1,σ7,H7,I7.unpinned,T.keep _ _ _ st5 fun b hb o e=>(I7.pin (b,o) (List.mem_append_right _ (List.mem_append_right _ (J3 hb e)))).1,fun b hb=>?_,w7⟩;obtain⟨o,e,d⟩ :=T.obj _ _ st5 b hb;exact(I7.pin (b,o) (List.mem_append_right _ (List.mem_append_right _ (J3 hb e)))).2.1
  cases f with
  |next=>obtain⟨σ7,H7,I7,n7⟩ :=q7;exact again I7 n7
  |cont=>obtain⟨σ7,H7,I7,n7⟩ :=q7;exact again I7 n7
  |brk=>obtain⟨σ7,H7,I7,q7⟩ :=q7;exact⟨σ7,H7,I7.unpinned,q7⟩
  |ret v=>obtain⟨x7,σ7,H7,I7,r7,q7⟩ :=q7;exact⟨x7,σ7,H7,I7.unpinned,r7,q7⟩
end
theorem Qn{c:TT}{tb:TS}{D:Ends}{σ:St}{H:Hp}(Pv:St->Hp->Prop)(μ:St->Hp->Nat)(h0:Pv σ H)
  (hs:∀σ H,Pv σ H->c σ H fun b H1=>if b=true then tb {D with nx:=fun σ' H'=>Pv σ' H'/\μ σ' H' < μ σ H,ct:=fun σ' H'=>Pv σ' H'/\μ σ' H' < μ σ H,bk:=D.nx} σ H1 else D.nx σ H1)
  (mono:∀σ H Q Q',(∀b H1,Q b H1->Q' b H1)->c σ H Q->c σ H Q'):tWhile c tb D σ H:=by
 refine⟨fun m σ H=>m=μ σ H/\Pv σ H,⟨_,rfl,h0⟩,?_⟩;rintro m σ H ⟨rfl,p⟩;refine mono σ H _ _ (fun b H1 q=>?_) (hs σ H p);cases b with
 |true=>exact⟨_,fun σ' H' ⟨p',l⟩ => ⟨_,l,rfl,p'⟩,q⟩
 |false=>exact q
end L2
namespace L2
open PySem PySem.Spec PyProof.Rows
abbrev R2:=V->V->Hp->VK->Prop
def OpR(X:Cx)(f:Value->Value->Sem Value)(r:R2):Prop:=
 ∀(pins:List (Addr×Obj)) (s:Shared) (σ:St) (H:Hp) (x y:V) (v u:Value) (Q:VK),Inv X pins σ H s->RelV x v->RelV y u->r x y H Q->
  wpAny (model X.prog X.w) X.A (f v u) (EP X pins σ Q) X.xe s
def UnR(X:Cx)(f:Value->Sem Value)(r:V->Hp->VK->Prop):Prop:=
 ∀(pins:List (Addr×Obj)) (s:Shared) (σ:St) (H:Hp) (x:V) (v:Value) (Q:VK),Inv X pins σ H s->RelV x v->r x H Q->
  wpAny (model X.prog X.w) X.A (f v) (EP X pins σ Q) X.xe s
def CallR(X:Cx)(f:Value)(r:List V->Hp->VK->Prop):Prop:=
 ∀(pins:List (Addr×Obj)) (s:Shared) (σ:St) (H:Hp) (xs:List V) (us:List Value) (Q:VK),Inv X pins σ H s->Vals xs us->r xs H Q->
  wpAny (model X.prog X.w) X.A (call f us) (EP X pins σ Q) X.xe s
def tOp(r:R2)(ta tb:TE):TE:=fun σ H Q=>ta σ H fun x H1=>tb σ H1 fun y H2=>r x y H2 Q
def tUn(r:V->Hp->VK->Prop)(ta:TE):TE:=fun σ H Q=>ta σ H fun x H1=>r x H1 Q
inductive rI(C:Int->Int->Prop)(g:Int->Int->V)(x:V)(y:V)(H:Hp)(Q:VK):Prop|m:∀i j,x=.int i->y=.int j->C i j->Q (g i j) H->rI C g x y H Q
inductive rI0(g:Int->Int->V)(x:V)(y:V)(H:Hp)(Q:VK):Prop|m:∀i j,x=.int i->y=.int j->Q (g i j) H->rI0 g x y H Q
inductive rU(g:Int->V)(x:V)(H:Hp)(Q:VK):Prop|m:∀i,x=.int i->Q (g i) H->rU g x H Q
section
variable {X:Cx}{a b c:Expr}{ta tb tc:TE}{pos:Pos}
theorem binT(ha:PE X a ta)(hb:PE X b tb){pins:List (Addr×Obj)}{s:Shared}{σ:St}{H:Hp}{R:V->V->Hp->Prop}(I:Inv X pins σ H s)
  (h:ta σ H fun x H1=>tb σ H1 fun y H2=>R x y H2) {Q:Value->Shared->Prop} {f:Value->Value->Sem Value}
  (hf:∀v u s2 x y H2,Inv X pins σ H2 s2->RelV x v->RelV y u->R x y H2->wpAny (model X.prog X.w) X.A (f v u) Q X.xe s2):
  wpAny (model X.prog X.w) X.A (eval a X.env) (fun v s₁=>wpAny (model X.prog X.w) X.A (eval b X.env) (fun u s₂=>wpAny (model X.prog X.w) X.A (f v u) Q X.xe s₂) X.xe s₁) X.xe s:=by
 refine thn (ha pins s σ H _ I h) fun v s1 ⟨x,H1,I1,r1,q1⟩ =>?_;refine thn (hb pins s1 σ H1 _ I1 q1) fun u s2 ⟨y,H2,I2,r2,q2⟩ =>?_;exact hf v u s2 x y H2 I2 r1 r2 q2
theorem Az{op:Operator}{r:R2}(ho:OpR X (binaryOp op) r)(ha:PE X a ta)(hb:PE X b tb):PE X (.BinOp a op b pos) (tOp r ta tb):=by
 intro pins s σ H Q I h;exact wpAny_BinOp (binT ha hb I h fun v u s2 x y H2 I2 rx ry q=>ho pins s2 σ H2 x y v u Q I2 rx ry q)
theorem Ky{op:UnaryOp}{r:V->Hp->VK->Prop}(ho:UnR X (unaryOp op) r)(ha:PE X a ta):PE X (.UnaryOp op a pos) (tUn r ta):=by
 intro pins s σ H Q I h;exact UnaryOp_ (thn (ha pins s σ H _ I h) fun v s1 ⟨x,H1,I1,r1,q1⟩ =>ho pins s1 σ H1 x v Q I1 r1 q1)
theorem opI{f:Value->Value->Sem Value}{C:Int->Int->Prop}{g:Int->Int->Int}
  (rule:∀(i j:Int) (t u:Tok) (s:Shared) (Q:Value->Shared->Prop) (E:Value->Shared->Prop),C i j->Q (.int (g i j) s.toks) {s with toks:=s.toks + 1}->wpAny (model X.prog X.w) X.A (f (.int i t) (.int j u)) Q E s):
  OpR X f (rI C fun i j=>.int (g i j)):=by
 intro pins s σ H x y v u Q I rx ry h;obtain⟨i,j,rfl,rfl,hc,q⟩ :=h;obtain⟨t,rfl⟩ :=rx;obtain⟨t',rfl⟩ :=ry;exact rule i j t t' s _ _ hc ⟨.int (g i j),H,I.tok _,⟨_,rfl⟩,q⟩
theorem opI0{f:Value->Value->Sem Value}{g:Int->Int->Int}
  (rule:∀(i j:Int) (t u:Tok) (s:Shared) (Q:Value->Shared->Prop) (E:Value->Shared->Prop),Q (.int (g i j) s.toks) {s with toks:=s.toks + 1}->wpAny (model X.prog X.w) X.A (f (.int i t) (.int j u)) Q E s):
  OpR X f (rI0 fun i j=>.int (g i j)):=by
 intro pins s σ H x y v u Q I rx ry h;obtain⟨i,j,rfl,rfl,q⟩ :=h;obtain⟨t,rfl⟩ :=rx;obtain⟨t',rfl⟩ :=ry;exact rule i j t t' s _ _ ⟨.int (g i j),H,I.tok _,⟨_,rfl⟩,q⟩
theorem opB0{f:Value->Value->Sem Value}{g:Int->Int->Bool}
  (rule:∀(i j:Int) (t u:Tok) (s:Shared) (Q:Value->Shared->Prop) (E:Value->Shared->Prop),Q (.bool (g i j)) s->wpAny (model X.prog X.w) X.A (f (.int i t) (.int j u)) Q E s):
  OpR X f (rI0 fun i j=>.bl (g i j)):=by
 intro pins s σ H x y v u Q I rx ry h;obtain⟨i,j,rfl,rfl,q⟩ :=h;obtain⟨t,rfl⟩ :=rx;obtain⟨t',rfl⟩ :=ry;exact rule i j t t' s _ _ ⟨.bl (g i j),H,I,rfl,q⟩
theorem B7:OpR X (binaryOp .Add) (rI0 fun i j=>.int (i + j)):=opI0 fun _ _ _ _ _ _ _ q=>add_int q
theorem J8:OpR X (binaryOp .Sub) (rI0 fun i j=>.int (i - j)):=opI0 fun _ _ _ _ _ _ _ q=>sub_int q
theorem iD:OpR X (binaryOp .Mod) (rI (fun _ j=>0 < j) fun i j=>.int (i % j)):=opI fun i j _ _ _ _ _ hc q=>by
 have h1:(0:Int) < j:=hc;exact mod_int' (by omega) (by rw[Int.fmod_eq_emod_of_nonneg i (by omega)];exact q)
theorem unI{f:Value->Sem Value}{g:Int->Int}
  (rule:∀(i:Int) (t:Tok) (s:Shared) (Q:Value->Shared->Prop) (E:Value->Shared->Prop),Q (.int (g i) s.toks) {s with toks:=s.toks + 1}->wpAny (model X.prog X.w) X.A (f (.int i t)) Q E s):
  UnR X f (rU fun i=>.int (g i)):=by
 intro pins s σ H x v Q I rx h;obtain⟨i,rfl,q⟩ :=h;obtain⟨t,rfl⟩ :=rx;exact rule i t s _ _ ⟨.int (g i),H,I.tok _,⟨_,rfl⟩,q⟩
theorem Gu:UnR X (unaryOp .USub) (rU fun i=>.int (-i)):=unI fun _ _ _ _ _ q=>neg_int q
end
def scal:V->V->Bool
 |.non,.non=>true|.non,.int _=>true|.int _,.non=>true|.non,.bl _=>true|.bl _,.non=>true|.non,.str _=>true|.str _,.non=>true
 |.int _,.int _=>true|.bl _,.bl _=>true|.str _,.str _=>true|.byt _,.byt _=>true
 |.int _,.str _=>true|.str _,.int _=>true|.bl _,.str _=>true|.str _,.bl _=>true
 |_,_=>false
def rEq:R2:=fun x y H Q=>scal x y=true/\Q (.bl (decide (x=y))) H
def rNe:R2:=fun x y H Q=>scal x y=true/\Q (.bl (!decide (x=y))) H
theorem Sm{i j:Int}:decide (V.int i=V.int j)=(i == j):=by
 rw[Bool.eq_iff_iff];simp
theorem aP{i j:Bool}:decide (V.bl i=V.bl j)=(i == j):=by
 rw[Bool.eq_iff_iff];simp
theorem Yh{i j:Str}:decide (V.str i=V.str j)=(i == j):=by
 rw[Bool.eq_iff_iff];simp
theorem Yg{i j:Array UInt8}:decide (V.byt i=V.byt j)=(i.toList == j.toList):=by
 rw[Bool.eq_iff_iff];cases i;cases j;simp
section
variable {X:Cx}{a b c:Expr}{ta tb tc:TE}{pos:Pos}
theorem Bb{pins:List (Addr×Obj)}{σ:St}{H:Hp}{s:Shared}{Q:VK}{k k':Bool}(I:Inv X pins σ H s)(q:Q (.bl k) H)(e:k=k'):EP X pins σ Q (.bool k') s:=by
 subst e;exact⟨.bl k,H,I,rfl,q⟩
theorem Cn:OpR X (compareOp .Eq) rEq:=by
 intro pins s σ H x y v u Q I rx ry h;obtain⟨hs,q⟩ :=h;cases x with
 |non=>
  cases rx;cases y with
  |non=>cases ry;exact PySem.EqNone.eq_none_none (Bb I q (by simp))
  |bl j=>cases ry;exact PySem.EqNone.eq_none_bool (Bb I q (by simp))
  |int j=>obtain⟨t',rfl⟩ :=ry;exact PySem.EqNone.eq_none_int (Bb I q (by simp))
  |str j=>obtain⟨t',rfl⟩ :=ry;exact PySem.EqNone.eq_none_str (Bb I q (by simp))
  |_=>exact absurd (show false=true from hs) Bool.false_ne_true
 |bl i=>
  cases rx;cases y with
  |non=>cases ry;exact PySem.EqNone.eq_bool_none (Bb I q (by simp))
  |bl j=>cases ry;exact eq_bool (Bb I q aP)
  |str j=>obtain⟨t',rfl⟩ :=ry;exact PySem.EqMixed.eq_bool_str (Bb I q (by simp))
  |_=>exact absurd (show false=true from hs) Bool.false_ne_true
 |int i=>
  obtain⟨t,rfl⟩ :=rx;cases y with
  |non=>cases ry;exact PySem.EqNone.eq_int_none (Bb I q (by simp))
  |int j=>obtain⟨t',rfl⟩ :=ry;exact eq_int (Bb I q Sm)
  |str j=>obtain⟨t',rfl⟩ :=ry;exact PySem.EqMixed.eq_int_str (Bb I q (by simp))
  |_=>exact absurd (show false=true from hs) Bool.false_ne_true
 |str i=>
  obtain⟨t,rfl⟩ :=rx;cases y with
  |non=>cases ry;exact PySem.EqNone.eq_str_none (Bb I q (by simp))
  |bl j=>cases ry;exact PySem.EqMixed.eq_str_bool (Bb I q (by simp))
  |int j=>obtain⟨t',rfl⟩ :=ry;exact PySem.EqMixed.eq_str_int (Bb I q (by simp))
  |str j=>obtain⟨t',rfl⟩ :=ry;exact eq_str (Bb I q Yh)
  |_=>exact absurd (show false=true from hs) Bool.false_ne_true
 |byt i=>
  obtain⟨t,rfl⟩ :=rx;cases y with
  |byt j=>obtain⟨t',rfl⟩ :=ry;exact PySem.W.eq_bytes (Bb I q Yg)
  |_=>exact absurd (show false=true from hs) Bool.false_ne_true
 |_=>cases y<;>exact absurd (show false=true from hs) Bool.false_ne_true
theorem Kv:OpR X (compareOp .NotEq) rNe:=by
 intro pins s σ H x y v u Q I rx ry h;obtain⟨hs,q⟩ :=h;cases x with
 |non=>
  cases rx;cases y with
  |non=>cases ry;exact PySem.EqNone.ne_none_none (Bb I q (by simp))
  |bl j=>cases ry;exact PySem.EqNone.ne_none_bool (Bb I q (by simp))
  |int j=>obtain⟨t',rfl⟩ :=ry;exact PySem.EqNone.ne_none_int (Bb I q (by simp))
  |str j=>obtain⟨t',rfl⟩ :=ry;exact PySem.EqNone.ne_none_str (Bb I q (by simp))
  |_=>exact absurd (show false=true from hs) Bool.false_ne_true
 |bl i=>
  cases rx;cases y with
  |non=>cases ry;exact PySem.EqNone.ne_bool_none (Bb I q (by simp))
  |bl j=>cases ry;exact ne_bool (Bb I q (congrArg not aP))
  |str j=>obtain⟨t',rfl⟩ :=ry;exact PySem.EqMixed.ne_bool_str (Bb I q (by simp))
  |_=>exact absurd (show false=true from hs) Bool.false_ne_true
 |int i=>
  obtain⟨t,rfl⟩ :=rx;cases y with
  |non=>cases ry;exact PySem.EqNone.ne_int_none (Bb I q (by simp))
  |int j=>obtain⟨t',rfl⟩ :=ry;exact ne_int (Bb I q (congrArg not Sm))
  |str j=>obtain⟨t',rfl⟩ :=ry;exact PySem.EqMixed.ne_int_str (Bb I q (by simp))
  |_=>exact absurd (show false=true from hs) Bool.false_ne_true
 |str i=>
  obtain⟨t,rfl⟩ :=rx;cases y with
  |non=>cases ry;exact PySem.EqNone.ne_str_none (Bb I q (by simp))
  |bl j=>cases ry;exact PySem.EqMixed.ne_str_bool (Bb I q (by simp))
  |int j=>obtain⟨t',rfl⟩ :=ry;exact PySem.EqMixed.ne_str_int (Bb I q (by simp))
  |str j=>obtain⟨t',rfl⟩ :=ry;exact ne_str (Bb I q (congrArg not Yh))
  |_=>exact absurd (show false=true from hs) Bool.false_ne_true
 |byt i=>
  obtain⟨t,rfl⟩ :=rx;cases y with
  |byt j=>obtain⟨t',rfl⟩ :=ry;exact PySem.W.ne_bytes (Bb I q (congrArg not Yg))
  |_=>exact absurd (show false=true from hs) Bool.false_ne_true
 |_=>cases y<;>exact absurd (show false=true from hs) Bool.false_ne_true
theorem Ku:OpR X (compareOp .Lt) (rI0 fun i j=>.bl (decide (i < j))):=opB0 fun _ _ _ _ _ _ _ q=>lt_int q
theorem C4:OpR X (compareOp .LtE) (rI0 fun i j=>.bl (decide (i<=j))):=opB0 fun _ _ _ _ _ _ _ q=>le_int q
theorem Po:OpR X (compareOp .Gt) (rI0 fun i j=>.bl (decide (j < i))):=opB0 fun _ _ _ _ _ _ _ q=>gt_int q
theorem cD:OpR X (compareOp .Is) (fun x y H Q=>y=.non/\Q (.bl (decide (x=.non))) H):=by
 intro pins s σ H x y v u Q I rx ry h;obtain⟨rfl,q⟩ :=h;cases ry;refine is_none_gen (Bb I q ?_);cases x<;>first
  |(cases rx;rfl)
  |(obtain⟨t,rfl⟩ :=rx;rfl)
theorem nomark(b:Expr){op:CmpOp}(h:op≠.In:=by decide)(h2:op≠.NotIn:=by decide):behindInMarks op b=false:=by
 have e1:(op == CmpOp.In)=false:=by cases op<;>first|rfl|exact absurd rfl h
 have e2:(op == CmpOp.NotIn)=false:=by cases op<;>first|rfl|exact absurd rfl h2
 cases b<;>simp[behindInMarks,e1,e2]
theorem D9{op:CmpOp}{r:R2}(ho:OpR X (compareOp op) r)(ha:PE X a ta)(hb:PE X b tb)(hm:behindInMarks op b=false):PE X (.Compare a [op] [b] pos) (tOp r ta tb):=by
 intro pins s σ H Q I h;exact wpAny_Compare1 (binT ha hb I h fun v u s2 x y H2 I2 rx ry q=>ho pins s2 σ H2 x y v u Q I2 rx ry q) hm
def tTest(t:TE):TT:=fun σ H Q=>t σ H (BlI Q)
theorem At{op:CmpOp}{r:R2}(ho:OpR X (compareOp op) r)(ha:PE X a ta)(hb:PE X b tb)(hm:behindInMarks op b=false):PT X (.Compare a [op] [b] pos) (tTest (tOp r ta tb)):=by
 intro pins s σ H Q I h;refine wpAny_isTrue_Compare1 (thn (ha pins s σ H _ I h) fun v s1 ⟨x,H1,I1,r1,q1⟩ =>thn (hb pins s1 σ H1 _ I1 q1) fun u s2 ⟨y,H2,I2,r2,q2⟩ =>
  thn (ho pins s2 σ H2 x y v u _ I2 r1 r2 q2) fun c s3 ⟨z,H3,I3,r3,k,e,q3⟩ =>?_) hm
 subst e;cases r3;exact wpAny_truthy_bool ⟨H3,I3,q3⟩
def tChain(r r':R2)(ta tb tc:TE):TE:=fun σ H Q=>ta σ H fun x H1=>tb σ H1 fun y H2=>r x y H2 fun z H3=>∃k,z=.bl k/\
 (if k=true then tc σ H3 fun w' H4=>r' y w' H4 Q else Q (.bl false) H3)
theorem cF{op op':CmpOp}{r r':R2}(ho:OpR X (compareOp op) r)(ho':OpR X (compareOp op') r')(ha:PE X a ta)(hb:PE X b tb)(hc:PE X c tc)
  (hm:lastMarks [op,op'] [b,c]=false:=by with_unfolding_all rfl):PE X (.Compare a [op,op'] [b,c] pos) (tChain r r' ta tb tc):=by
 intro pins s σ H Q I h;refine Compare_chain (thn (ha pins s σ H _ I h) fun v s1 ⟨x,H1,I1,r1,q1⟩ =>chain_link (thn (hb pins s1 σ H1 _ I1 q1) fun u s2 ⟨y,H2,I2,r2,q2⟩ =>
  thn (ho pins s2 σ H2 x y v u _ I2 r1 r2 q2) fun d s3 ⟨z,H3,I3,r3,k,e,q3⟩ =>?_)) hm
 subst e;cases r3;refine wpAny_truthy_bool ?_;cases k with
 |false=>exact ite_ff ⟨.bl false,H3,I3,rfl,q3⟩
 |true=>exact ite_tt (chain_last (thn (hc pins s3 σ H3 _ I3 q3) fun w' s4 ⟨z',H4,I4,r4,q4⟩ =>ho' pins s4 σ H4 y z' u w' Q I4 r2 r4 q4))
theorem Ct{op op':CmpOp}{r r':R2}(ho:OpR X (compareOp op) r)(ho':OpR X (compareOp op') r')(ha:PE X a ta)(hb:PE X b tb)(hc:PE X c tc)
  (hm:lastMarks [op,op'] [b,c]=false:=by with_unfolding_all rfl):PT X (.Compare a [op,op'] [b,c] pos) (tTest (tChain r r' ta tb tc)):=by
 intro pins s σ H Q I h;refine isTrue_chain (thn (ha pins s σ H _ I h) fun v s1 ⟨x,H1,I1,r1,q1⟩ =>test_link (thn (hb pins s1 σ H1 _ I1 q1) fun u s2 ⟨y,H2,I2,r2,q2⟩ =>
  thn (ho pins s2 σ H2 x y v u _ I2 r1 r2 q2) fun d s3 ⟨z,H3,I3,r3,k,e,q3⟩ =>?_)) hm
 subst e;cases r3;refine wpAny_truthy_bool ?_;cases k with
 |false=>
  obtain⟨k',e',q'⟩ :=q3;cases e';exact ite_ff ⟨H3,I3,q'⟩
 |true=>
  refine ite_tt (test_last (thn (hc pins s3 σ H3 _ I3 q3) fun w' s4 ⟨z',H4,I4,r4,q4⟩ =>thn (ho' pins s4 σ H4 y z' u w' _ I4 r2 r4 q4) fun d' s5 ⟨z2,H5,I5,r5,k2,e2,q5⟩ =>?_));subst e2;cases r5;exact wpAny_truthy_bool ⟨H5,I5,q5⟩
theorem line63:(sizeLine:Nat) < 2^63:=by rw[sizeLine_eq];decide
theorem J7:OpR X (binaryOp .Add) (fun x y H Q=>∃i j,x=.str i/\y=.str j/\i.length + j.length<=sizeLine/\Q (.str (i++j)) H):=by
 intro pins s σ H x y v u Q I rx ry h;obtain⟨i,j,rfl,rfl,hz,q⟩ :=h;obtain⟨t,rfl⟩ :=rx;obtain⟨t',rfl⟩ :=ry;exact add_str (fun t' tk=> ⟨.str (i++j),H,I.tok _,⟨_,rfl⟩,q⟩) hz
theorem vals1{x:V}{us:List Value}(r:Vals [x] us):∃u,us= [u]/\RelV x u:=by
 cases r with
 |cons r1 r2=>cases r2;exact⟨_,rfl,r1⟩
theorem vals2{x y:V}{us:List Value}(r:Vals [x,y] us):∃u w',us= [u,w']/\RelV x u/\RelV y w':=by
 cases r with
 |cons r1 r2=>
  cases r2 with
  |cons r3 r4=>cases r4;exact⟨_,_,rfl,r1,r3⟩
theorem Y9(hc:X.calm=true):CallR X (.builtin "max") (fun xs H Q=>∃i j,xs= [.int i,.int j]/\Q (.int (if j > i then j else i)) H):=by
 intro pins s σ H xs us Q I r h;obtain⟨i,j,rfl,q⟩ :=h;obtain⟨u,w',rfl,⟨t,rfl⟩,⟨t',rfl⟩⟩ :=vals2 r;refine max_two_ints (I.ok.hd hc) fun h' tk k=> ⟨_,H,I.kept k,?_,q⟩;by_cases hj:j > i
 ·rw[if_pos hj,if_pos hj];exact⟨_,rfl⟩
 ·rw[if_neg hj,if_neg hj];exact⟨_,rfl⟩
theorem Rj(hc:X.calm=true):CallR X (.builtin "min") (fun xs H Q=>∃i j,xs= [.int i,.int j]/\Q (.int (if j < i then j else i)) H):=by
 intro pins s σ H xs us Q I r h;obtain⟨i,j,rfl,q⟩ :=h;obtain⟨u,w',rfl,⟨t,rfl⟩,⟨t',rfl⟩⟩ :=vals2 r;refine min_two_ints (I.ok.hd hc) fun h' tk k=> ⟨_,H,I.kept k,?_,q⟩;by_cases hj:j < i
 ·rw[if_pos hj,if_pos hj];exact⟨_,rfl⟩
 ·rw[if_neg hj,if_neg hj];exact⟨_,rfl⟩
theorem Kl:CallR X (.type "str") (fun xs H Q=>∃i,xs= [.int i]/\i.natAbs.log2 < 1920/\Q (.str (toString i)) H):=by
 intro pins s σ H xs us Q I r h;obtain⟨i,rfl,hz,q⟩ :=h;obtain⟨u,rfl,t,rfl⟩ :=vals1 r;exact PySem.P.str_of_int hz ⟨.str _,H,I.tok _,⟨_,rfl⟩,q⟩
theorem Ud:CallR X (.builtin "ord") (fun xs H Q=>∃x,xs= [.str x]/\x.length=1/\Q (.int (x.cps.getD 0 0:Nat)) H):=by
 intro pins s σ H xs us Q I r h;obtain⟨x,rfl,hz,q⟩ :=h;obtain⟨u,rfl,t,rfl⟩ :=vals1 r;exact ord_of_one hz ⟨.int _,H,I.tok _,⟨_,rfl⟩,q⟩
end
end L2
namespace L2
open PySem PySem.Spec PyProof.Rows
structure ObjM(h:Heap)(x dx C:Addr)(mA:Str->Option Value):Prop where
 obj:h.get? x=some (PySem.W.instObj C dx)
 ns:h.Ns1 dx mA
 ne:dx≠x
theorem Zo{h:Heap}{dx:Addr}{mA:Str->Option Value}(n:h.Ns1 dx mA):∃od,h.get? dx=some od/\∀name,PySem.W.lookIn name od=some (mA name):=by
 obtain⟨o,es,ep,ho,hd,hk,_,hm⟩ :=n;refine⟨o,ho,fun name=>?_⟩;have e:=hm name;unfold nsFind findBy at e;rw[<-Array.find?_toList]at e;unfold PySem.W.lookIn;rw[hd];dsimp only;split
 ·rename_i y q
  rw[q]at e;exact congrArg some e
 ·rename_i q
  rw[q]at e;have a:es.toList.any (·.refKey)=false:=by
   rw[List.any_eq_false];intro y hy;obtain⟨z,t,hkey⟩ :=hk y (Array.mem_toList_iff.mp hy);simp[DictEntry.refKey,hkey]
  have a':¬es.toList.any (·.refKey)=true:=by rw[a];exact Bool.false_ne_true
  rw[if_neg a'];exact congrArg some e
theorem ObjM.look{h:Heap}{x dx C:Addr}{mA:Str->Option Value}(I:ObjM h x dx C mA):∃od,PySem.W.InstAt h x (PySem.W.instObj C dx) C (some od)/\∀name,PySem.W.lookIn name od=some (mA name):=
 let⟨od,ho,hl⟩ :=Zo I.ns
 ⟨od,⟨I.obj,rfl,rfl,ho⟩,hl⟩
section
variable {prog:Program}{w:World}{A:Around}{E:Value->Shared->Prop}{s:Shared}{K:PySem.W.Frag}{x dx C f:Addr}{mA:Str->Option Value}{name:Str}{v:Value}
theorem eO{expr:Bool}{Q:Value->Shared->Prop}(X:K.In s.heap)(I:ObjM s.heap x dx C mA)(hg:PySem.W.plainGet K C name=true)(hh:PySem.W.hasDictIn K C=true)
  (ha:PySem.W.findIn K (.ref C) name=some none) (hv:mA name=some v) (hv':PySem.W.handedIn v=true) (h:Q v {s with toks:=s.toks + 1}):
  wpAny (model prog w) A (getAttr (.ref x) name expr) Q E s:=by
 obtain⟨od,J,hl⟩ :=I.look;exact PySem.W.get_value X J (PySem.W.plainGet_of hg).1 (PySem.W.findObj_own hh ha rfl (by rw[hl,hv])) hv' h
theorem bC{pl:Sem Bool}{Q:Value×List Value->Shared->Prop}(X:K.In s.heap)(I:ObjM s.heap x dx C mA)(hg:PySem.W.plainGet K C name=true)
  (hf:PySem.W.findIn K (.ref C) name=some (some (.ref f))) (ht:PySem.W.isFn K (.ref f)=true) (hv:mA name=none) (h:Q (.ref f,[.ref x]) s):
  wpAny (model prog w) A (getMethod (.ref x) name pl) Q E s:=by
 obtain⟨od,J,hl⟩ :=I.look;exact PySem.W.method_fn X J (PySem.W.plainGet_of hg).1 (PySem.W.plainGet_of hg).2 hf (beq_iff_eq.mp ht) (by show(PySem.W.lookIn name od).map (·.isSome)=some false;rw[hl,hv];rfl) h
theorem fP{ns:List Str}{Q:Unit->Shared->Prop}(X:K.In s.heap)(I:ObjM s.heap x dx C mA)
  (hs:PySem.W.findIn K (.ref C) "__setattr__"=some (some (.builtin "object.__setattr__"))) (hp:PySem.W.plainOver K C=true) (ht:PySem.W.takerIn K C name=some none) (hh:PySem.W.hasDictIn K C=true)
  (hw:PySem.Within mA ns) (hsz:ns.length<=sizeLine)
  (h:∀h',ObjM h' x dx C (fun y=>if y=name then some v else mA y)->Heap.SameBut dx s.heap h'->Q () {s with heap:=h',toks:=s.toks + 2}):
  wpAny (model prog w) A (setAttr (.ref x) name v) Q E s:=by
 obtain⟨od,J,hl⟩ :=I.look;refine PySem.W.set_plain X J hs (PySem.W.osa_open (s:={s with toks:=s.toks + 1}) (r:=none) X J hp ht fun b=>?_);obtain⟨cd,hc,hd'⟩ :=PySem.W.any_some hh;have hx:s.heap.get? x=some ⟨.ref C,some dx,.plain,#[]⟩ :=I.obj;refine wpAny_bind (wpAny_pure (wpAny_bind (wpAny_bind (wpAny_loadPart hx (wpAny_bind (PySem.W.Looks.here (s:={s with toks:=s.toks + 1}) (PySem.W.looks_clsIn X hc) ?_))))));rw[hd'];refine wpAny_pure (a:=some dx) (wpAny_bind (wpAny_pure (wpAny_bind ?_)));refine wpAny_nsSet1 (s:={s with toks:=s.toks + 1}) I.ns fun h' hn2 hs2=>?_;obtain⟨oD,esD,epD,hoD,hdD,hcD⟩ :=hn2.count (PySem.Within.cons name v hw);refine wpAny_bind (wpAny_lookBehind hoD (by rw[hdD];exact pastItsLine_dict (Nat.le_trans hcD (by rw[List.length_cons];omega))) ?_);exact wpAny_pure (h _ ⟨(hs2.2 _ (Ne.symm I.ne)).trans I.obj,hn2,I.ne⟩ hs2)
theorem bO{R:Result->Shared->Prop}{vs:List Value}{kw:List (Str×Value)}(X:K.In s.heap)(hm:PySem.W.makesIn K C=true)
  (hi:PySem.W.findIn K (.ref C) "__init__"=some (some (.ref f))) (hf:PySem.W.typeIn K (.ref f)=some (.type "function"))
  (h:codeAny (model prog w) (A.under (.builtin "type.__call__" ⟨.ref C::vs,kw⟩)) (.call (.ref f) ⟨.ref (s.heap.objs.size + 1)::vs,kw⟩) (PySem.W.InitBack (s.heap.objs.size + 1) R)
   {s with heap:=(s.heap.push PySem.W.emptyDict).push (PySem.W.instObj C s.heap.objs.size)}):
  codeAny (model prog w) A (.call (.ref C) ⟨vs,kw⟩) R s:=by
 obtain⟨hh,g,d,t,os⟩ :=s;exact PySem.W.make_core (PySem.W.makes_of X hm) (PySem.W.looks_findIn X hi) (fun self=>PySem.W.bind_fn X self hf) (.inl rfl) h
end
def putF(f:Str)(v:V):List (Str×V)->List (Str×V)
 | []=>[(f,v)]
 |(g,x)::r=>if g=f then(g,v)::r else(g,x)::putF f v r
theorem Ms(f g:Str)(v:V):∀fs:List (Str×V),(putF f v fs).lookup g=if g=f then some v else fs.lookup g
 | []=>by
  show List.lookup g [(f,v)]=_;by_cases h:g=f
  ·have hb:(g == f)=true:=beq_iff_eq.mpr h;simp only [List.lookup,hb,if_pos h]
  ·have hb:(g == f)=false:=beq_eq_false_iff_ne.mpr h;simp only [List.lookup,hb,if_neg h]
 |(k,x)::r=>by
  have ih:=Ms f g v r;rw[show putF f v ((k,x)::r)=(if k=f then(k,v)::r else(k,x)::putF f v r) from rfl];by_cases hk:k=f
  ·rw[if_pos hk];by_cases h:g=k
   ·have hb:(g == k)=true:=beq_iff_eq.mpr h;simp only [List.lookup,hb,if_pos (h.trans hk)]
   ·have hb:(g == k)=false:=beq_eq_false_iff_ne.mpr h;simp only [List.lookup,hb,if_neg (fun e:g=f=>h (e.trans hk.symm))]
  ·rw[if_neg hk];by_cases h:g=k
   ·have hb:(g == k)=true:=beq_iff_eq.mpr h;simp only [List.lookup,hb,if_neg (fun e:g=f=>hk (h.symm.trans e))]
   ·have hb:(g == k)=false:=beq_eq_false_iff_ne.mpr h;simp only [List.lookup,hb];exact ih
theorem Lx(f:Str)(v:V):∀fs:List (Str×V),f∈(putF f v fs).map (·.1)/\∀g,g∈fs.map (·.1)->g∈(putF f v fs).map (·.1)
 | []=> ⟨by simp[putF],fun g h=>by simp at h⟩
 |(k,x)::r=>by
  obtain⟨i1,i2⟩ :=Lx f v r;rw[show putF f v ((k,x)::r)=(if k=f then(k,v)::r else(k,x)::putF f v r) from rfl];by_cases hk:k=f
  ·rw[if_pos hk];subst hk;exact⟨by simp,fun g h=>by simpa using h⟩
  ·rw[if_neg hk];refine⟨?_,fun g h=>?_⟩
   ·rw[List.map_cons];exact List.mem_cons_of_mem _ i1
   ·rw[List.map_cons]at h⊢;rcases List.mem_cons.mp h with e|e
    ·exact List.mem_cons.mpr (.inl e)
    ·exact List.mem_cons_of_mem _ (i2 g e)
theorem Mq(f:Str)(v:V):∀fs:List (Str×V),(putF f v fs).length<=fs.length + 1
 | []=>by simp[putF]
 |(k,x)::r=>by
  have ih:=Mq f v r;rw[show putF f v ((k,x)::r)=(if k=f then(k,v)::r else(k,x)::putF f v r) from rfl];by_cases hk:k=f
  ·rw[if_pos hk,List.length_cons,List.length_cons];omega
  ·rw[if_neg hk,List.length_cons,List.length_cons];omega
theorem RelO.some_of{v:V}{o:Option Value}(r:RelO (some v) o):∃u,o=some u/\RelV v u:=by
 cases o with
 |none=>exact(show False from r).elim
 |some u=>exact⟨u,rfl,r⟩
theorem RelO.none_of{o:Option Value}(r:RelO none o):o=none:=by
 cases o with
 |none=>rfl
 |some u=>exact(show False from r).elim
theorem Zh{v:V}{u:Value}(r:RelV v u):PySem.W.handedIn u=true:=by
 cases v with
 |non=>cases (show u=Value.none from r);rfl
 |bl b=>cases (show u=Value.bool b from r);rfl
 |int i=>obtain⟨t,e⟩ :=(show∃t,u=Value.int i t from r);cases e;rfl
 |str x=>obtain⟨t,e⟩ :=(show∃t,u=Value.str x t from r);cases e;rfl
 |byt b=>obtain⟨t,e⟩ :=(show∃t,u=Value.bytes b t from r);cases e;rfl
 |flt b=>obtain⟨t,e⟩ :=(show∃t,u=Value.float b t from r);cases e;rfl
 |ref a=>cases (show u=Value.ref a from r);rfl
 |ty n=>cases (show u=Value.type n from r);rfl
section
variable {P:Program}{w:World}{H H':Hp}{h h':Heap}{a C dx:Addr}{fs fs':List (Str×V)}
theorem Sx(hok:HOk P w H h)(e:H a=some (.ins C dx fs)):∃mA,ObjM h a dx C mA/\(∀f,RelO (fs.lookup f) (mA f))/\PySem.Within mA (fs.map (·.1))/\fs.length<=1000/\H dx=some (.own a):=by
 obtain⟨d,z,ne,ob,mA,n,r,q⟩ :=(show ObjOk P w H h a (.ins C dx fs) from hok a _ e);exact⟨mA,⟨ob,n,ne⟩,r,q,z,d⟩
end
structure Cls(K:PySem.W.Frag)(C:Addr):Prop where
 pg:PySem.W.plainGet K C Str.empty=true
 hd:PySem.W.hasDictIn K C=true
 po:PySem.W.plainOver K C=true
 sa:PySem.W.findIn K (.ref C) "__setattr__"=some (some (.builtin "object.__setattr__"))
theorem Cls.get{K:PySem.W.Frag}{C:Addr}(c:Cls K C)(f:Str):PySem.W.plainGet K C f=true:=c.pg
def NoAttr(K:PySem.W.Frag)(C:Addr)(f:Str):Prop:=PySem.W.findIn K (.ref C) f=some none
theorem NoAttr.taker{K:PySem.W.Frag}{C:Addr}{f:Str}(n:NoAttr K C f):PySem.W.takerIn K C f=some none:=by
 unfold PySem.W.takerIn;rw[show PySem.W.findIn K (.ref C) f=some none from n];rfl
structure Meth(K:PySem.W.Frag)(C:Addr)(m:Str)(f:Addr):Prop where
 at_:PySem.W.findIn K (.ref C) m=some (some (.ref f))
 fn:PySem.W.isFn K (.ref f)=true
 kp:PySem.W.keepIn K (.ref f)=true
section
variable {X:Cx}{pins:List (Addr×Obj)}{σ:St}{H:Hp}{s:Shared}{a C dx:Addr}{fs:List (Str×V)}{f:Str}{v:V}{A:Around}{E:Value->Shared->Prop}
theorem W2{b:Bool}{Q:Value->Shared->Prop}(I:Inv X pins σ H s)(e:H a=some (.ins C dx fs))(c:Cls X.K C)(n:NoAttr X.K C f)(l:fs.lookup f=some v)
  (h:∀u s',Inv X pins σ H s'->RelV v u->Q u s'):wpAny (model X.prog X.w) A (getAttr (.ref a) f b) Q E s:=by
 obtain⟨mA,O,r,_,_,_⟩ :=Sx I.hok e;obtain⟨u,hu,ru⟩ :=RelO.some_of (v:=v) (o:=mA f) (by rw[<-l];exact r f);exact eO I.kIn O (c.get f) c.hd n hu (Zh ru) (h u _ (I.tok _) ru)
theorem Oz{m:Str}{g:Addr}{pl:Sem Bool}{Q:Value×List Value->Shared->Prop}(I:Inv X pins σ H s)(e:H a=some (.ins C dx fs))(c:Cls X.K C)(k:Meth X.K C m g)(l:fs.lookup m=none)
  (h:Q (.ref g,[.ref a]) s):wpAny (model X.prog X.w) A (getMethod (.ref a) m pl) Q E s:=by
 obtain⟨mA,O,r,_,_,_⟩ :=Sx I.hok e;have hn:mA m=none:=RelO.none_of (by rw[<-l];exact r m);exact bC I.kIn O (c.get m) k.at_ k.fn hn h
theorem Xz{y:V}{u:Value}{Q:Unit->Shared->Prop}(I:Inv X pins σ H s)(e:H a=some (.ins C dx fs))(c:Cls X.K C)(n:NoAttr X.K C f)(hl:fs.length < 1000)(ry:RelV y u)
  (h:∀s',Inv X pins σ (upd H a (.ins C dx (putF f y fs))) s'->Q () s'):wpAny (model X.prog X.w) A (setAttr (.ref a) f u) Q E s:=by
 obtain⟨mA,O,r,wi,_,ho⟩ :=Sx I.hok e;have hz:(fs.map (·.1)).length<=sizeLine:=by rw[List.length_map,sizeLine_eq];omega
 refine fP I.kIn O c.sa c.po n.taker c.hd wi hz fun h' O' sb=>h _ ?_;have hd:∃o,h'.get? dx=some o:=let⟨o,_,_,e',_⟩ :=O'.ns;⟨o,e'⟩;refine I.write (x:=a) (e:=dx) (by rw[e];exact True.intro) (.inr ho) (fun b q hb z=>(sb.2 b hb).trans z) hd ?_;refine⟨by rw[Ak O.ne];exact ho,?_,O.ne,O'.obj,_,O'.ns,fun g=>?_,fun g hg=>?_⟩
 ·have:=Mq f y fs;omega
 ·show RelO ((putF f y fs).lookup g) (if g=f then some u else mA g);rw[Ms];by_cases q:g=f
  ·rw[if_pos q,if_pos q];exact ry
  ·rw[if_neg q,if_neg q];exact r g
 ·by_cases q:g=f
  ·rw[q];exact(Lx f y fs).1
  ·refine(Lx f y fs).2 g (wi g fun z=>hg ?_);show(if g=f then some u else mA g)=none;rw[if_neg q];exact z
theorem Inv.made(I:Inv X pins σ H s):Inv X pins σ (upd (upd H s.heap.objs.size (.own (s.heap.objs.size + 1))) (s.heap.objs.size + 1) (.ins C s.heap.objs.size []))
  {s with heap:=(s.heap.push PySem.W.emptyDict).push (PySem.W.instObj C s.heap.objs.size)}:=by
 have e1:(s.heap.push PySem.W.emptyDict).get? s.heap.objs.size=some PySem.W.emptyDict:=Heap.get?_push_size s.heap rfl;have e2:((s.heap.push PySem.W.emptyDict).push (PySem.W.instObj C s.heap.objs.size)).get? (s.heap.objs.size + 1)=some (PySem.W.instObj C s.heap.objs.size):=by
  have:=Heap.get?_push_size (s.heap.push PySem.W.emptyDict) (o:=PySem.W.instObj C s.heap.objs.size) rfl
  rwa [Heap.size_push]at this
 have e3:(s.heap.push PySem.W.emptyDict).Ns s.heap.objs.size (fun _=>none):= ⟨PySem.W.emptyDict,#[],_,e1,rfl,(fun e he=>absurd he (by simp)),fun _=>rfl⟩;have I1:=I.laid (a:=s.heap.objs.size) (o:=.own (s.heap.objs.size + 1)) (h':=s.heap.push PySem.W.emptyDict) (t':=s.toks) (fun b u q=>Heap.get?_push_of_some _ q) (Nat.le_refl _) ⟨_,e1⟩;refine I1.laid (a:=s.heap.objs.size + 1) (o:=.ins C s.heap.objs.size []) (t':=s.toks) (fun b u q=>Heap.get?_push_of_some _ q) (Nat.le_of_eq (Heap.size_push _ _)) ?_;have ne:s.heap.objs.size≠s.heap.objs.size + 1:=Nat.ne_of_lt (Nat.lt_succ_self _);refine⟨by rw[Ak ne,Ae],Nat.zero_le _,ne,e2,fun _=>none,(Heap.Ns1.of_empty e3).at fun o q=>Heap.get?_push_of_some _ q,fun _=>True.intro,fun y hy=>absurd rfl hy⟩
theorem eC{prog:Program}{w:World}{env:Env}{e:Expr}{f:Str}{pos:Pos}{s:Shared}{Q:Value->Shared->Prop}(hb:attributeBase e f env (eval e env)=eval e env)
  (h:wpAny (model prog w) A (eval e env) (fun o s₁=>wpAny (model prog w) A (getAttr o f true) Q E s₁) E s):wpAny (model prog w) A (eval (.Attribute e f pos) env) Q E s:=
 Attribute_any_ h (by rw[arm_eval_Attribute,hb])
end
inductive FldI(K:PySem.W.Frag)(f:Str)(Q:VK)(x:V)(H:Hp):Prop|m:∀a C dx fs v,x=.ref a->H a=some (.ins C dx fs)->Cls K C->NoAttr K C f->fs.lookup f=some v->Q v H->FldI K f Q x H
def tFld(K:PySem.W.Frag)(ta:TE)(f:Str):TE:=fun σ H Q=>ta σ H (FldI K f Q)
inductive SFlI(K:PySem.W.Frag)(f:Str)(y:V)(R:Hp->Prop)(x:V)(H:Hp):Prop|m:∀a C dx fs,x=.ref a->H a=some (.ins C dx fs)->Cls K C->NoAttr K C f->fs.length < 1000->R (upd H a (.ins C dx (putF f y fs)))->SFlI K f y R x H
def sFld(K:PySem.W.Frag)(ta tv:TE)(f:Str):TS:=fun D σ H=>tv σ H fun y H1=>ta σ H1 (SFlI K f y (D.nx σ))
section
variable {X:Cx}{o e value:Expr}{f:Str}{pos pos' tpos:Pos}{ta tv:TE}
theorem Ap(he:PE X e ta)(hb:attributeBase e f X.env (eval e X.env)=eval e X.env):PE X (.Attribute e f pos) (tFld X.K ta f):=by
 intro pins s σ H Q I h;refine eC hb (thn (he pins s σ H _ I h) fun u s1 ⟨x,H1,I1,rx,a,C,dx,fs,v,ex,ea,c,n,l,q⟩ =>?_);subst ex;obtain rfl:u=Value.ref a:=rx;exact W2 I1 ea c n l fun u' s2 I2 ru=> ⟨v,H1,I2,ru,q⟩
theorem En(ha:PE X o ta)(hv:PE X value tv)(hs:swapsWith value (some (.Attribute o f pos')) pos.line X.env=pure false):PS X (.Assign [.Attribute o f pos'] value pos) (sFld X.K ta tv f):=by
 intro pins s σ H D I h;refine plainObj_wpAny_Assign_Attribute (thn (hv pins s σ H _ I h) fun u s1 ⟨y,H1,I1,ry,q⟩ =>thn (ha pins s1 σ H1 _ I1 q) fun ov s2 ⟨x,H2,I2,rx,a,C,dx,fs,ex,ea,c,n,l,q2⟩ =>?_) hs;subst ex;obtain rfl:ov=Value.ref a:=rx;exact Xz I2 ea c n l ry fun s3 I3=> ⟨σ,_,I3,q2⟩
end
end L2
namespace L2
open PySem PySem.Spec PyProof.Rows
structure Room(k:Nat)(A:Around):Prop where
 hd:A.handled=none
 dp:A.depth + 3 * k + 5 < recursionLimit
 un:A.units + 16 * k + 200 < cLine
theorem Room.mono{j k:Nat}{A:Around}(r:Room k A)(h:j<=k):Room j A:= ⟨r.hd,by have:=r.dp;omega,by have:=r.un;omega⟩
theorem Room.deeper{k:Nat}{A:Around}(r:Room (k + 1) A)(env:Env):Room k (A.deeper env):=
 ⟨r.hd,by have:=r.dp;show A.depth + 1 + 3 * k + 5 < _;omega,by have:=r.un;show A.units + 3 + 16 * k + 200 < _;omega⟩
theorem W8{A:Around}{C:Addr}{us:List Value}{kw:List (Str×Value)}:(A.under (.builtin "type.__call__" ⟨.ref C::us,kw⟩)).depth=A.depth + 1:=by
 first|rfl|simp[Around.under,Code.weight,Code.isCreation,Code.isGuard,Code.isCaller,Code.frames,Code.isFrame,guardIds]
theorem W9{A:Around}{C:Addr}{us:List Value}{kw:List (Str×Value)}:(A.under (.builtin "type.__call__" ⟨.ref C::us,kw⟩)).units=A.units + 1:=by
 first|rfl|simp[Around.under,Code.cUnits,Code.frames,Code.isFrame]
theorem Room.make{k:Nat}{A:Around}(r:Room (k + 1) A)(C:Addr)(us:List Value)(kw:List (Str×Value)):Room k (A.under (.builtin "type.__call__" ⟨.ref C::us,kw⟩)):=
 ⟨r.hd,by have:=r.dp;rw[W8];omega,by have:=r.un;rw[W9];omega⟩
theorem Room.depth{k:Nat}{A:Around}(r:Room k A):A.depth < recursionLimit:=by have:=r.dp;omega
theorem Room.units{k:Nat}{A:Around}(r:Room k A):A.units + 64 < cLine:=by have:=r.un;omega
def tNil:TA:=fun _ H Q=>Q [] H
def tCons(ta:TE)(tr:TA):TA:=fun σ H Q=>ta σ H fun x H1=>tr σ H1 fun xs H2=>Q (x::xs) H2
section
variable {X:Cx}{e:Expr}{es:List Expr}{te:TE}{t:TA}{pos:Pos}
theorem Ab:PA X [] tNil:=fun _ _ _ _ H Q I h=>Calls.spliced_nil ⟨[],H,I,.nil,h⟩
theorem Aa(ha:PE X e te)(hr:PA X es t)(hs:starEach (e::es) X.env=(false,eval e X.env)::starEach es X.env:=by rfl):PA X (e::es) (tCons te t):=by
 intro pos pins s σ H Q I h;rw[hs];show wpAny _ _ (spliced ((false,eval e X.env)::backTo pos (starEach es X.env))) _ _ s;refine Calls.spliced_cons (thn (ha pins s σ H _ I h) fun u s1 ⟨x,H1,I1,r1,q1⟩ =>?_);exact thn (hr pos pins s1 σ H1 _ I1 q1) fun us s2 ⟨xs,H2,I2,r2,q2⟩ => ⟨x::xs,H2,I2,.cons r1 r2,q2⟩
def tTup(t:TA):TE:=fun σ H Q=>t σ H fun xs H1=>xs.length<=sizeLine/\∀p,H1 p=none->Q (.ref p) (upd H1 p (.tup xs))
def tLst(t:TA):TE:=fun σ H Q=>t σ H fun xs H1=>xs.length<=sizeLine/\∀p,H1 p=none->Q (.ref p) (upd H1 p (.lst xs))
theorem Ft{x1}(h:PA X es t):PE X (.Tuple es x1 pos) (tTup t):=by
 intro pins s σ H Q I hq;refine wpAny_Tuple_spliced (thn (h pos pins s σ H _ I hq) fun us s1 ⟨xs,H1,I1,r,z,q⟩ => ⟨by rw[<-r.length];exact z,?_⟩);have hf:H1 s1.heap.objs.size=none:=I1.hok.fresh (Nat.le_refl _);refine⟨.ref s1.heap.objs.size,upd H1 s1.heap.objs.size (.tup xs),I1.laid (t':=s1.toks) (fun b u e=>Heap.get?_push_of_some _ e) (Nat.le_refl _) ?_,rfl,q _ hf⟩;exact⟨z,us,r,⟨_,Heap.get?_push_size _ rfl,rfl,_,rfl⟩⟩
theorem Av(h:PA X es t):PE X (.List es pos) (tLst t):=by
 intro pins s σ H Q I hq;refine wpAny_List_spliced (thn (h pos pins s σ H _ I hq) fun us s1 ⟨xs,H1,I1,r,z,q⟩ => ⟨by rw[<-r.length];exact z,?_⟩);have hf:H1 s1.heap.objs.size=none:=I1.hok.fresh (Nat.le_refl _);refine⟨.ref s1.heap.objs.size,upd H1 s1.heap.objs.size (.lst xs),I1.laid (t':=s1.toks) (fun b u e=>Heap.get?_push_of_some _ e) (Nat.le_refl _) ?_,rfl,q _ hf⟩;exact⟨z,us,0,r,Heap.get?_push_size _ rfl⟩
end
abbrev Sp:=List V->Hp->VK->XK->Prop
abbrev CXT:=List Env->Hp->Shared->XK->Value->Shared->Prop
structure Env0(P:Program)(w:World)(K:PySem.W.Frag)(mg:Str->Option Value)(base:Heap)(A:Around)(outer:List Env)(s:Shared)(H:Hp):Prop where
 frames:A.frames=some outer
 mod:Mod K mg base
 bs:∀b o,base.get? b=some o->s.heap.get? b=some o/\H b=none
 bsz:base.objs.size<=s.heap.objs.size
 funs:s.heap.FunFrames base outer
 frf:∀b∈frs outer,H b=none
 hok:HOk P w H s.heap
 bare:AllBare s.gens
def CE(outer:List Env)(P:Program)(w:World)(H:Hp)(s:Shared)(Q:VK)(u:Value)(s':Shared):Prop:=
 ∃v H',s'.os=s.os/\AllBare s'.gens/\Un (frs outer) [] H H' s.heap s'.heap/\HOk P w H' s'.heap/\RelV v u/\Q v H'
def CR(CX:CXT)(outer:List Env)(P:Program)(w:World)(H:Hp)(s:Shared)(Q:VK)(E:XK)(r:Result)(s':Shared):Prop:=
 match r with
 |.ok (.ret u)=>CE outer P w H s Q u s'
 |.ok _=>False
 |.error e=>CX outer H s E e s'
structure FnOk(P:Program)(w:World)(K:PySem.W.Frag)(mg:Str->Option Value)(base:Heap)(CX:CXT)(k:Nat)(f:Addr)(fd:FuncData)(ps:List Str)(sp:Sp):Prop where
 len:∀vs H Q E,sp vs H Q E->vs.length=ps.length
 run:∀(A:Around) (outer:List Env) (s:Shared) (H:Hp) (args:Args) (us:List Value) (vs:List V) (Q:VK) (E:XK),Room k A->Env0 P w K mg base A outer s H->BindsTo s fd args (ps.zip us)->Vals vs us->sp vs H Q E->
  codeAny (model P w) A (.call (.ref f) args) (CR CX outer P w H s Q E) s
theorem FnOk.mono{P:Program}{w:World}{K:PySem.W.Frag}{mg:Str->Option Value}{base:Heap}{CX:CXT}{j k:Nat}{f:Addr}{fd:FuncData}{ps:List Str}{sp:Sp}(F:FnOk P w K mg base CX j f fd ps sp)(h:j<=k):
  FnOk P w K mg base CX k f fd ps sp:= ⟨F.len,fun A outer s H args us vs Q E hr=>F.run A outer s H args us vs Q E (hr.mono h)⟩
theorem Env0.make{P:Program}{w:World}{K:PySem.W.Frag}{mg:Str->Option Value}{base:Heap}{A:Around}{outer:List Env}{s:Shared}{H:Hp}(e:Env0 P w K mg base A outer s H)(C:Addr)(us:List Value)(kw:List (Str×Value)):
  Env0 P w K mg base (A.under (.builtin "type.__call__" ⟨.ref C::us,kw⟩)) outer s H:= ⟨by first|exact e.frames|(simpa [Around.under,Code.envs,Code.isFrame,pushEnvs]using e.frames),e.mod,e.bs,e.bsz,e.funs,e.frf,e.hok,e.bare⟩
section
variable {X:Cx}{pins:List (Addr×Obj)}{σ:St}{H:Hp}{s s':Shared}
theorem Inv.env0(I:Inv X pins σ H s):Env0 X.prog X.w X.K X.mg X.base X.A X.stack s H:=
 ⟨I.ok.frames,I.ok.mod,I.bs,Nat.le_trans I.ok.bsz I.sz,I.stack,I.stkFree,I.hok,I.bare⟩
theorem Inv.after{Q:VK}{u:Value}(I:Inv X pins σ H s)(h:CE X.stack X.prog X.w H s Q u s'):EP X pins σ Q u s':=by
 obtain⟨v,H',os,bare,un,hok,r,q⟩ :=h;obtain⟨hh,g,d,t,os'⟩ :=s';obtain rfl:os'=s.os:=os;exact⟨v,H',I.call (h':=hh) (g':=g) (d':=d) (t':=t) (ch:=[]) un hok bare (fun b z=>absurd z (by simp)),r,q⟩
end
def tCall(sp:Sp)(dvs:List V)(E:XK)(t:TA):TE:=fun σ H Q=>t σ H fun vs H1=>sp (vs++dvs) H1 Q E
inductive MetI(C:Addr)(m:Str)(R:V->Hp->Prop)(x:V)(H:Hp):Prop|m:∀a dx fs,x=.ref a->H a=some (.ins C dx fs)->fs.lookup m=none->R x H->MetI C m R x H
def tMeth(C:Addr)(m:Str)(sp:Sp)(dvs:List V)(E:XK)(ta:TE)(t:TA):TE:=fun σ H Q=>ta σ H (MetI C m fun x H1=>t σ H1 fun vs H2=>sp (x::(vs++dvs)) H2 Q E)
def tMake(C:Addr)(sp:Sp)(dvs:List V)(E:XK)(t:TA):TE:=fun σ H Q=>t σ H fun vs H1=>∀x dx,H1 x=none->H1 dx=none->dx≠x->
 sp (.ref x::(vs++dvs)) (upd (upd H1 dx (.own x)) x (.ins C dx [])) (fun v H2=>v=.non/\Q (.ref x) H2) E
def Binds(K:PySem.W.Frag)(fd:FuncData)(ps:List Str)(ds:List Value):Prop:=
 ∀(s:Shared) (us:List Value),K.In s.heap->(us++ds).length=ps.length->BindsTo s fd ⟨us,[]⟩ (ps.zip (us++ds))
theorem Binds.all{K:PySem.W.Frag}{fd:FuncData}{ps:List Str}(h:∀us:List Value,us.length=ps.length->bindArgs fd ⟨us,[]⟩ =pure (ps.zip us)):Binds K fd ps []:=fun s us _ hl=>by
 rw[List.append_nil]at hl⊢;exact .of_eq (h us hl)
def Passes(CX:CXT)(X:Cx)(E:XK):Prop:=∀(pins:List (Addr×Obj)) (σ:St) (H:Hp) (s:Shared) (e:Value) (s':Shared),Inv X pins σ H s->CX X.stack H s E e s'->X.xe e s'
section
variable {X:Cx}{CX:CXT}{k:Nat}{f C:Addr}{fd:FuncData}{ps:List Str}{sp:Sp}{dvs:List V}{ds:List Value}{E:XK}{x m:Str}{p pos apos:Pos}{e o:Expr}{es:List Expr}{ta:TE}{t:TA}
theorem Tv{pins:List (Addr×Obj)}{σ:St}{H:Hp}{s:Shared}{Q:VK}{us:List Value}{vs:List V}(F:FnOk X.prog X.w X.K X.mg X.base CX k f fd ps sp)(hr:Room k X.A)(hb:Binds X.K fd ps ds)(hd:Vals dvs ds)(hx:Passes CX X E)
  (I:Inv X pins σ H s) (r:Vals vs us) (h:sp (vs++dvs) H Q E):wpAny (model X.prog X.w) X.A (call (.ref f) us) (EP X pins σ Q) X.xe s:=by
 have r2:Vals (vs++dvs) (us++ds):=r.append hd;have hl:(us++ds).length=ps.length:=by rw[<-r2.length];exact F.len _ _ _ _ h
 refine wpAny_call (codeAny_mono (F.run X.A X.stack s H ⟨us,[]⟩ (us++ds) (vs++dvs) Q E hr I.env0 (hb s us I.kIn hl) r2 h) fun r s' hq=>?_);cases r with
 |error e=>exact hx pins σ H s e s' I hq
 |ok fl=>
  cases fl with
  |ret u=>exact I.after hq
  |next=>exact False.elim hq
  |brk=>exact False.elim hq
  |cont=>exact False.elim hq
theorem fE(F:FnOk X.prog X.w X.K X.mg X.base CX k f fd ps sp)(hr:Room k X.A)(hg:Gl X x)(hm:X.mg x=some (.ref f))(hk:PySem.W.keepIn X.K (.ref f)=true)(hb:Binds X.K fd ps ds)(hd:Vals dvs ds)(hx:Passes CX X E)
  (ha:PA X (e::es) t) (hdb:(x == ("__debug__":Str))=false:=by decide) (he:starEach (e::es) X.env=(false,eval e X.env)::starEach es X.env:=by rfl) (hpl:(backTo pos (starEach es X.env)).any (·.1)=false:=by rfl):
  PE X (.Call (.Name x p) (e::es) [] pos) (tCall sp dvs E t):=by
 intro pins s σ H Q I h;refine wpAny_Call_Name_kw (N9 I hg hm ?_ hdb);refine PySem.W.callWith_K (h₀:=X.base) I.ok.mod.kin hk (thn (ha pos pins s σ H _ I h) fun us s1 ⟨vs,H1,I1,r,q⟩ => ⟨I1.kIn,?_⟩) he hpl;exact Tv F hr hb hd hx I1 r q
theorem fH{pl:Sem Bool}(he:PE X o ta)(c:Cls X.K C)(hm:Meth X.K C m f)(F:FnOk X.prog X.w X.K X.mg X.base CX k f fd ps sp)(hr:Room k X.A)(hb:Binds X.K fd ps ds)(hd:Vals dvs ds)(hx:Passes CX X E)(ha:PA X (e::es) t)
  (hst:starEach (e::es) X.env=(false,eval e X.env)::starEach es X.env:=by rfl) (hpl:(backTo pos (starEach es X.env)).any (·.1)=false:=by rfl)
  (ht:eval (.Call (.Attribute o m apos) (e::es) [] pos) X.env=(do
   let ov<-eval o X.env
   standAt apos.atName
   let(f,first)<-holding [ov] (getMethod ov m pl)
   callWith pos f first (backTo pos (starEach (e::es) X.env)) (backToKw pos (keywordEach [] X.env))):=by rfl):
  PE X (.Call (.Attribute o m apos) (e::es) [] pos) (tMeth C m sp dvs E ta t):=by
 intro pins s σ H Q I h;refine PySem.W.methodCall_KW (pl:=pl) (thn (he pins s σ H _ I h) fun u s1 ⟨x,H1,I1,rx,a,dx,fs,ex,ea,l,q⟩ =>?_) ht;subst ex;obtain rfl:u=Value.ref a:=rx;refine Oz I1 ea c hm l ?_;refine PySem.W.callWith_K (first:=[.ref a]) (h₀:=X.base) I.ok.mod.kin hm.kp (thn (ha pos pins s1 σ H1 _ I1 q) fun us s2 ⟨vs,H2,I2,r,q2⟩ => ⟨I2.kIn,?_⟩) hst hpl;exact Tv (us:=.ref a::us) (vs:=.ref a::vs) F hr hb hd hx I2 (.cons rfl r) q2
theorem cK{pl:Sem Bool}(he:PE X o ta)(c:Cls X.K C)(hm:Meth X.K C m f)(F:FnOk X.prog X.w X.K X.mg X.base CX k f fd ps sp)(hr:Room k X.A)(hb:Binds X.K fd ps ds)(hd:Vals dvs ds)(hx:Passes CX X E)
  (ht:eval (.Call (.Attribute o m apos) [] [] pos) X.env=(do
   let ov<-eval o X.env
   standAt apos.atName
   let(f,first)<-holding [ov] (getMethod ov m pl)
   callWith pos f first (backTo pos (starEach [] X.env)) (backToKw pos (keywordEach [] X.env))):=by rfl):
  PE X (.Call (.Attribute o m apos) [] [] pos) (tMeth C m sp dvs E ta tNil):=by
 intro pins s σ H Q I h;refine PySem.W.methodCall_KW (pl:=pl) (thn (he pins s σ H _ I h) fun u s1 ⟨x,H1,I1,rx,a,dx,fs,ex,ea,l,q⟩ =>?_) ht;subst ex;obtain rfl:u=Value.ref a:=rx;refine Oz I1 ea c hm l ?_;exact PySem.W.callWith_K0 (first:=[.ref a]) I1.kIn hm.kp (Tv (us:=[.ref a]) (vs:=[.ref a]) F hr hb hd hx I1 (.cons rfl .nil) q)
structure Mk(K:PySem.W.Frag)(C f:Addr):Prop where
 makes:PySem.W.makesIn K C=true
 init:PySem.W.findIn K (.ref C) "__init__"=some (some (.ref f))
 fn:PySem.W.isFn K (.ref f)=true
 kp:PySem.W.keepIn K (.ref C)=true
theorem Vy{pins:List (Addr×Obj)}{σ:St}{H:Hp}{s:Shared}{Q:VK}{us:List Value}{vs:List V}(M:Mk X.K C f)(F:FnOk X.prog X.w X.K X.mg X.base CX k f fd ps sp)(hr:Room (k + 1) X.A)(hb:Binds X.K fd ps ds)(hd:Vals dvs ds)
  (hx:Passes CX X E) (I:Inv X pins σ H s) (r:Vals vs us)
  (h:∀x dx,H x=none->H dx=none->dx≠x->sp (.ref x::(vs++dvs)) (upd (upd H dx (.own x)) x (.ins C dx [])) (fun v H2=>v=.non/\Q (.ref x) H2) E):
  wpAny (model X.prog X.w) X.A (call (.ref C) us) (EP X pins σ Q) X.xe s:=by
 have hq:=h (s.heap.objs.size + 1) s.heap.objs.size (I.hok.fresh (Nat.le_succ _)) (I.hok.fresh (Nat.le_refl _)) (Nat.ne_of_lt (Nat.lt_succ_self _));have I2:=Inv.made (C:=C) I;have r2:Vals (V.ref (s.heap.objs.size + 1)::(vs++dvs)) (Value.ref (s.heap.objs.size + 1)::(us++ds)):=.cons rfl (r.append hd);have hl:(Value.ref (s.heap.objs.size + 1)::us++ds).length=ps.length:=by
  have e:=r2.length;rw[F.len _ _ _ _ hq]at e;exact e.symm
 refine wpAny_call (bO (f:=f) I.kIn M.makes M.init (beq_iff_eq.mp M.fn) (codeAny_mono (F.run _ X.stack _ _ ⟨Value.ref (s.heap.objs.size + 1)::us,[]⟩ (Value.ref (s.heap.objs.size + 1)::(us++ds)) _ _ E (hr.make C us [])
  (I2.env0.make C us []) (hb _ (Value.ref (s.heap.objs.size + 1)::us) I2.kIn hl) r2 hq) fun r s' hq'=>?_))
 cases r with
 |error e=>exact hx pins σ _ _ e s' I2 hq'
 |ok fl=>
  cases fl with
  |ret u=>
   obtain⟨v,H',I3,rv,ev,q3⟩ :=I2.after hq';subst ev;exact⟨rv,⟨V.ref (s.heap.objs.size + 1),H',I3,rfl,q3⟩⟩
  |next=>exact False.elim hq'
  |brk=>exact False.elim hq'
  |cont=>exact False.elim hq'
theorem fG(M:Mk X.K C f)(F:FnOk X.prog X.w X.K X.mg X.base CX k f fd ps sp)(hr:Room (k + 1) X.A)(hg:Gl X x)(hm:X.mg x=some (.ref C))(hb:Binds X.K fd ps ds)(hd:Vals dvs ds)(hx:Passes CX X E)
  (ha:PA X (e::es) t) (hdb:(x == ("__debug__":Str))=false:=by decide) (he:starEach (e::es) X.env=(false,eval e X.env)::starEach es X.env:=by rfl) (hpl:(backTo pos (starEach es X.env)).any (·.1)=false:=by rfl):
  PE X (.Call (.Name x p) (e::es) [] pos) (tMake C sp dvs E t):=by
 intro pins s σ H Q I h;refine wpAny_Call_Name_kw (N9 I hg hm ?_ hdb);refine PySem.W.callWith_K (h₀:=X.base) I.ok.mod.kin M.kp (thn (ha pos pins s σ H _ I h) fun us s1 ⟨vs,H1,I1,r,q⟩ => ⟨I1.kIn,?_⟩) he hpl;exact Vy M F hr hb hd hx I1 r q
theorem cJ(M:Mk X.K C f)(F:FnOk X.prog X.w X.K X.mg X.base CX k f fd ps sp)(hr:Room (k + 1) X.A)(hg:Gl X x)(hm:X.mg x=some (.ref C))(hb:Binds X.K fd ps ds)(hd:Vals dvs ds)(hx:Passes CX X E)
  (hdb:(x == ("__debug__":Str))=false:=by decide):PE X (.Call (.Name x p) [] [] pos) (tMake C sp dvs E tNil):=by
 intro pins s σ H Q I h;refine wpAny_Call_Name_kw (N9 I hg hm ?_ hdb);exact PySem.W.callWith_K0 I.kIn M.kp (Vy (us:=[]) M F hr hb hd hx I .nil h)
end
structure FnScope(N P:List Str)(sc:Scope):Prop where
 kind:sc.kind=.function
 co:sc.isCoroutine=false
 gen:sc.isGenerator=false
 nd:N.Nodup
 pre:N.take P.length=P
 par:∀x∈P,sc.names.lookup x=some .local∨sc.names.lookup x=some .cell
 nofree:∀y∈sc.names,y.2≠.free
theorem fS{N ps:List Str}{sc:Scope}(a:sc.kind=.function:=by rfl)(b:sc.isCoroutine=false:=by rfl)(c:sc.isGenerator=false:=by rfl)(d:N.Nodup:=by decide +kernel)(e:N.take ps.length=ps:=by rfl)(f:∀x∈ps,sc.names.lookup x=some .local∨sc.names.lookup x=some .cell:=by decide +kernel)(g:∀y∈sc.names,y.2≠.free:=by decide +kernel):FnScope N ps sc:= ⟨a,b,c,d,e,f,g⟩
theorem Rh{kindOf:Str->Option NameKind}{x:Str}:∀{binds:List (Str×Value)} {m:Str->Option Value},(∀v,(x,v)∉binds)->bindL kindOf binds m x=m x
 | [],_,_=>rfl
 |(n,v)::r,m,h=>by
  unfold bindL;rw[Rh fun w hw=>h w (List.mem_cons_of_mem _ hw)];split
  ·have:x≠n:=by rintro rfl;exact h v List.mem_cons_self
   simp[this]
  ·rfl
theorem Rf{kindOf:Str->Option NameKind}{x:Str}:∀{binds:List (Str×Value)} {m:Str->Option Value},(∀v,(x,v)∉binds)->bindC kindOf binds m x=m x
 | [],_,_=>rfl
 |(n,v)::r,m,h=>by
  unfold bindC;rw[Rf fun w hw=>h w (List.mem_cons_of_mem _ hw)];split
  ·rfl
  ·have:x≠n:=by rintro rfl;exact h v List.mem_cons_self
   simp[this]
theorem Rg{kindOf:Str->Option NameKind}{x:Str}{v:Value}:∀{P:List Str} {vs:List Value} {i:Nat} {m:Str->Option Value},P.Nodup->P[i]? =some x->vs[i]? =some v->kindOf x=some .local->
  bindL kindOf (P.zip vs) m x=some v
 | [],_,_,_,_,h,_,_=>by simp at h
 |_::_,[],_,_,_,_,h,_=>by simp at h
 |p::P,w::vs,0,m,nd,h1,h2,hk=>by
  simp at h1 h2;subst h1;subst h2;show bindL kindOf ((p,w)::P.zip vs) m p=_;unfold bindL;rw[Rh fun v hv=>(List.nodup_cons.mp nd).1 (List.of_mem_zip hv).1,if_pos hk];simp
 |p::P,w::vs,i + 1,m,nd,h1,h2,hk=>by
  show bindL kindOf ((p,w)::P.zip vs) m x=_;unfold bindL;exact Rg (i:=i) (List.nodup_cons.mp nd).2 (by simpa using h1) (by simpa using h2) hk
theorem Re{kindOf:Str->Option NameKind}{x:Str}{v:Value}:∀{P:List Str} {vs:List Value} {i:Nat} {m:Str->Option Value},P.Nodup->P[i]? =some x->vs[i]? =some v->kindOf x≠some .local->
  bindC kindOf (P.zip vs) m x=some v
 | [],_,_,_,_,h,_,_=>by simp at h
 |_::_,[],_,_,_,_,h,_=>by simp at h
 |p::P,w::vs,0,m,nd,h1,h2,hk=>by
  simp at h1 h2;subst h1;subst h2;show bindC kindOf ((p,w)::P.zip vs) m p=_;unfold bindC;rw[Rf fun v hv=>(List.nodup_cons.mp nd).1 (List.of_mem_zip hv).1,if_neg hk];simp
 |p::P,w::vs,i + 1,m,nd,h1,h2,hk=>by
  show bindC kindOf ((p,w)::P.zip vs) m x=_;unfold bindC;exact Re (i:=i) (List.nodup_cons.mp nd).2 (by simpa using h1) (by simpa using h2) hk
def start(N:List Str)(vs:List V):St:=vs.map some++List.replicate (N.length - vs.length) none
def cxOf(CX:CXT)(P:Program)(w:World)(K:PySem.W.Frag)(mg:Str->Option Value)(base:Heap)(N:List Str)(qual:Str)(scope:Scope)(f:Addr)(cd:Value)(A:Around)(outer:List Env)(s:Shared)(H:Hp)(E:XK):Cx where
 prog:=P
 w:=w
 K:=K
 mg:=mg
 base:=base
 A:=A.deeper (envOfC qual scope s.heap.objs.size f cd)
 N:=N
 s_0:=s
 H_0:=H
 env:=envOfC qual scope s.heap.objs.size f cd
 outer:=outer
 stack:=envOfC qual scope s.heap.objs.size f cd::outer
 ex:=[]
 calm:=true
 fn:=fun _=>true
 pn:=[]
 xe:=fun e s'=>wpAny (model P w) (A.deeper (envOfC qual scope s.heap.objs.size f cd)) (leaving (envOfC qual scope s.heap.objs.size f cd) e) (fun _ s''=>CX outer H s E e s'') (fun e' s''=>CX outer H s E e' s'') s'
theorem Ue{sc:Scope}{n:Nat}{x:Str}(h:sc.names.lookup x=some .cell):∃c,(cellsFrom n sc.names []).lookup x=some c:=by
 have q:=PySem.W.cellsFrom_some sc.names n [] (.inl h);exact Option.isSome_iff_exists.mp q
theorem Zj{CX:CXT}{P:Program}{w:World}{K:PySem.W.Frag}{mg:Str->Option Value}{base:Heap}{N ps:List Str}{qual:Str}{scope:Scope}{f:Addr}{cd:Value}{A:Around}{outer:List Env}{s s1:Shared}{H:Hp}{E:XK}{us:List Value}{vs:List V}
  (S:FnScope N ps scope) (hd:A.handled=none) (e0:Env0 P w K mg base A outer s H) (hl:vs.length=ps.length) (r:Vals vs us)
  (x:InCallC s s.heap.objs.size (bindL (envOfC qual scope s.heap.objs.size f cd).kindOf (ps.zip us) fun _=>none) (cellsFrom (s.heap.objs.size + 1) scope.names []) (bindC (envOfC qual scope s.heap.objs.size f cd).kindOf (ps.zip us) fun _=>none) s1):
  Inv (cxOf CX P w K mg base N qual scope f cd A outer s H E) [] (start N vs) H s1:=by
 have hpl:ps.length<=N.length:=by have:=congrArg List.length S.pre;rw[List.length_take]at this;omega
 obtain⟨h1,tk,rfl,hk⟩ :=x.done;have noA:∀b:Addr,b∉(cxOf CX P w K mg base N qual scope f cd A outer s H E).ex:=fun b z=>absurd (show b∈([]:List Addr) from z) (by simp);refine⟨⟨e0.mod,S.kind,rfl,rfl,Nat.le_refl _,fun y z c h1 h2=>?_,fun y hy=>?_,fun y c _ h=>?_,fun _=>hd,Around.frames_deeper e0.frames,.inr ⟨rfl,rfl⟩,fun b z=>absurd z (noA b),e0.bs,e0.bsz,fun b _ _=>noA b,fun b z=>absurd z (noA b),e0.funs,e0.frf⟩,
  rfl,e0.bare,Un.kept hk,⟨_,x.toInCall.ns,fun i y v h1 h2 h3=>?_⟩,fun y c h=> ⟨_,x.cell y c h⟩,e0.hok.fresh (Nat.le_refl _),fun y c h=>?_,fun p hp=>absurd (show p∈([]:List (Addr×Obj)) from hp) (by simp),e0.hok.kept hk,?_⟩
 ·exact name_of_addr x.apart (PySem.mem_of_lookup h1) (PySem.mem_of_lookup h2)
 ·have hy:scope.names.lookup y=some .cell∨scope.names.lookup y=some .free:=hy;rcases hy with hy|hy
  ·exact Ue hy
  ·exact absurd rfl (S.nofree _ (PySem.mem_of_lookup hy))
 ·exact Nat.le_of_lt (x.above y c (PySem.mem_of_lookup h))
 ·have hi:i < vs.length:=by
   unfold start at h2;by_cases hi:i < vs.length
   ·exact hi
   ·rw[List.getElem?_append_right (by simpa using hi)]at h2;rw[List.getElem?_replicate]at h2;split at h2<;>cases h2
  have ha:vs[i]? =some v:=by
   unfold start at h2;rw[List.getElem?_append_left (by simpa using hi),List.getElem?_map]at h2;cases e:vs[i]? with
   |none=>rw[e]at h2;cases h2
   |some a=>rw[e]at h2;cases h2;rfl
  obtain⟨u,hu,rv⟩ :=r.get ha;have hp:ps[i]? =some y:=by
   rw[<-S.pre,List.getElem?_take_of_lt (by omega)];exact h1
  have ndP:ps.Nodup:=by rw[<-S.pre];exact S.nd.sublist (List.take_sublist _ _)
  refine⟨u,rv,?_⟩;rcases S.par y (List.mem_of_getElem? hp)with k|k
  ·exact .inl ⟨k,Rg ndP hp hu k⟩
  ·obtain⟨c,e⟩ :=Ue (n:=s.heap.objs.size + 1) k;refine .inr ⟨.inl k,c,e,?_⟩;have q:=x.cell y c e;rw[Re ndP hp hu (by show scope.names.lookup y≠_;rw[k];decide)]at q;exact q
 ·exact e0.hok.fresh (Nat.le_of_lt (x.above y c (PySem.mem_of_lookup h)))
 ·unfold start;show _=N.length;rw[List.length_append,List.length_map,List.length_replicate];omega
theorem iO{CX:CXT}{P:Program}{w:World}{K:PySem.W.Frag}{mg:Str->Option Value}{base:Heap}{k:Nat}{f:Addr}{name qual:Str}{params:Arguments}{body:List Stmt}{scope:Scope}{dV kV doc pm cdv ct oc:Value}{an od:Option Addr}
  {osl:Array (Option Value)} {N ps:List Str} {sp:Sp} (lk:K.lookup f=some ⟨oc,od,.func (PySem.W.fnOf name qual params body scope dV kV doc pm an cdv ct),osl⟩) (hcd:PySem.W.codeIn K cdv qual=true) (S:FnScope N ps scope)
  (len:∀vs H Q E,sp vs H Q E->vs.length=ps.length)
  (hbody:∀(A:Around) (outer:List Env) (s:Shared) (H:Hp) (vs:List V) (Q:VK) (E:XK),Room k (A.deeper (envOfC qual scope s.heap.objs.size f cdv))->sp vs H Q E->
   ∃t,PSs (cxOf CX P w K mg base N qual scope f cdv A outer s H E) body t/\t {nx:=fun _ H'=>Q .non H',rt:=Q} (start N vs) H):
  FnOk P w K mg base CX (k + 1) f (PySem.W.fnOf name qual params body scope dV kV doc pm an cdv ct) ps sp:=by
 refine⟨len,fun A outer s H args us vs Q E hr e0 hb r hsp=>?_⟩;have hl:=len _ _ _ _ hsp;have KX:K.In s.heap:=e0.mod.kin.keeps fun b o e=>(e0.bs b o e).1;have lim:s.heap.NoLimit:=e0.mod.nolimit.keeps fun b o e=>(e0.bs b o e).1;have hkind:∀y∈ps.zip us,scope.names.lookup y.1=some .local∨(scope.names.lookup y.1=some .cell/\((cellsFrom (s.heap.objs.size + 1) scope.names []).lookup y.1).isSome=true):=fun⟨n,v⟩ hy=>by
  rcases S.par n (List.of_mem_zip hy).1 with q|q
  ·exact .inl q
  ·exact .inr ⟨q,PySem.W.cellsFrom_some _ _ _ (.inl q)⟩
 refine codeAny_call_function hr.depth (KX _ _ lk) rfl S.co S.gen rfl (PySem.W.codeRec_of KX hcd) (hb _ _ _ _ ?_);refine wpAny_newFunctionEnv_cells S.kind hkind fun env he s1 x=>?_;subst he;refine⟨lim.keeps x.toInCall.keep,codeAny_func ?_⟩;obtain⟨t,ht,hq⟩ :=hbody A outer s H vs Q E (hr.deeper _) hsp;have I:Inv (cxOf CX P w K mg base N qual scope f cdv A outer s H E) [] (start N vs) H s1:=Zj S hr.hd e0 hl r x;refine wpAny_mono (ht [] s1 (start N vs) H _ I hq) (fun fl s' hs=>?_) fun e s' hs=>hs;have fin:∀{σ':St} {H':Hp} {v:V} {u:Value},Inv (cxOf CX P w K mg base N qual scope f cdv A outer s H E) [] σ' H' s'->RelV v u->Q v H'->CE outer P w H s Q u s':=
  fun{σ' H' v u} J rv q=> ⟨v,H',J.os,J.bare,J.base,J.hok,rv,q⟩
 cases fl with
 |ret u=>
  obtain⟨v,σ',H',J,rv,q⟩ :=hs;exact fin J rv q
 |next=>
  obtain⟨σ',H',J,q⟩ :=hs;exact fin (v:=V.non) (u:=Value.none) J rfl q
 |brk=>
  obtain⟨_,_,_,q⟩ :=hs;exact False.elim q
 |cont=>
  obtain⟨_,_,_,q⟩ :=hs;exact False.elim q
end L2
namespace L2
open PySem PySem.Spec PyProof.Rows
section
variable {X:Cx}{x:Str}{p pos:Pos}{e:Expr}{es:List Expr}{t:TA}{id T:String}{r:List V->Hp->VK->Prop}
def tCB(r:List V->Hp->VK->Prop)(t:TA):TE:=fun σ H Q=>t σ H fun vs H1=>r vs H1 Q
theorem Ao(hc:CallR X (.builtin id) r)(hg:Gl X x)(hm:X.mg x=none)(hv:bootBuiltins x=some (.builtin id))(ha:PA X (e::es) t)(hn:x≠"__name__":=by decide)(hdb:(x == ("__debug__":Str))=false:=by decide)
  (he:starEach (e::es) X.env=(false,eval e X.env)::starEach es X.env:=by rfl) (hpl:(backTo pos (starEach es X.env)).any (·.1)=false:=by rfl):PE X (.Call (.Name x p) (e::es) [] pos) (tCB r t):=by
 intro pins s σ H Q I h;refine wpAny_Call_Name_kw (Fq I hg hm hv ?_ hn hdb);exact PyProof.Rows.callWith_builtin1 (thn (ha pos pins s σ H _ I h) fun us s1 ⟨vs,H1,I1,r1,q1⟩ =>hc pins s1 σ H1 vs us Q I1 r1 q1) he hpl
theorem Cl(hc:CallR X (.type T) r)(hg:Gl X x)(hm:X.mg x=none)(hv:bootBuiltins x=some (.type T))(ha:PA X (e::es) t)(hn:x≠"__name__":=by decide)(hdb:(x == ("__debug__":Str))=false:=by decide)
  (he:starEach (e::es) X.env=(false,eval e X.env)::starEach es X.env:=by rfl) (hpl:(backTo pos (starEach es X.env)).any (·.1)=false:=by rfl):PE X (.Call (.Name x p) (e::es) [] pos) (tCB r t):=by
 intro pins s σ H Q I h;refine wpAny_Call_Name_kw (Fq I hg hm hv ?_ hn hdb);exact PyProof.Rows.callWith_type1 (thn (ha pos pins s σ H _ I h) fun us s1 ⟨vs,H1,I1,r1,q1⟩ =>hc pins s1 σ H1 vs us Q I1 r1 q1) he hpl
end
end L2
namespace HT
open PySem PyProof.Rows
section
variable {prog:Program}{w:World}{A:Around}{E:Value->Shared->Prop}{s:Shared}
def sIx(n d:Nat):Option Int->Nat
 |none=>d
 |some v=>if v < 0 then(v + (n:Int)).toNat else min v.toNat n
theorem sIx_none(n d:Nat):sIx n d none=d:=rfl
theorem sIx_nat(n d k:Nat):sIx n d (some (k:Int))=min k n:=by
 show(if (k:Int) < 0 then((k:Int) + (n:Int)).toNat else min (k:Int).toNat n)=min k n;rw[if_neg (by omega),Int.toNat_natCast]
end
end HT
namespace L2
open PySem PySem.Spec PyProof.Rows
abbrev TO:=St->Hp->(Option Int->Hp->Prop)->Prop
def PO(X:Cx)(e:Option Expr)(t:TO):Prop:=
 ∀(pins:List (Addr×Obj)) (s:Shared) (σ:St) (H:Hp) (Q:Option Int->Hp->Prop),Inv X pins σ H s->t σ H Q->
  wpAny (model X.prog X.w) X.A (evalPart e X.env) (fun u s'=>∃o H',Inv X pins σ H' s'/\IsPart u o/\Q o H') X.xe s
def tNoPart:TO:=fun _ H Q=>Q none H
def tPart(t:TE):TO:=fun σ H Q=>t σ H fun x H1=>∃i,x=.int i/\Q (some i) H1
section
variable {X:Cx}{e:Expr}{te:TE}{lo hi:Option Expr}{tl th:TO}{pos p2:Pos}
theorem Eu:PO X none tNoPart:=by
 intro pins s σ H Q I h;rw[evalPart_none];exact wpAny_pure ⟨none,H,I,.none,h⟩
theorem C0(h:PE X e te):PO X (some e) (tPart te):=by
 intro pins s σ H Q I hw;rw[evalPart_some];refine thn (h pins s σ H _ I hw) fun u s1 ⟨x,H1,I1,r1,q1⟩ =>?_;obtain⟨i,rfl,q⟩ :=q1;obtain⟨t,rfl⟩ :=r1;exact⟨some i,H1,I1,.int i t,q⟩
def SlR(X:Cx)(r:V->Option Int->Option Int->Hp->VK->Prop):Prop:=
 ∀(pins:List (Addr×Obj)) (s:Shared) (σ:St) (H:Hp) (x:V) (v vl vu:Value) (lo hi:Option Int) (sl:Addr) (Q:VK),Inv X pins σ H s->RelV x v->s.heap.IsSliceOf sl vl vu .none->IsPart vl lo->IsPart vu hi->r x lo hi H Q->
  ∃T id,typeLookup (.type T) "__getitem__"=pure (some (.builtin id))/\s.TypeIs v T/\wpAny (model X.prog X.w) X.A (getItem v (.ref sl)) (EP X pins σ Q) X.xe s
def tSl(r:V->Option Int->Option Int->Hp->VK->Prop)(te:TE)(tl th:TO):TE:=fun σ H Q=>te σ H fun x H1=>tl σ H1 fun l H2=>th σ H2 fun u H3=>r x l u H3 Q
theorem Cr{r:V->Option Int->Option Int->Hp->VK->Prop}(hr:SlR X r)(he:PE X e te)(hl:PO X lo tl)(hu:PO X hi th):PE X (.Subscript e (.Slice lo hi none p2) pos) (tSl r te tl th):=by
 intro pins s σ H Q I h;refine Subscript_ (thn (he pins s σ H _ I h) fun v s1 ⟨x,H1,I1,r1,q1⟩ =>?_);refine wpAny_Slice (thn (hl pins s1 σ H1 _ I1 q1) fun vl s2 ⟨l,H2,I2,pl,q2⟩ =>thn (hu pins s2 σ H2 _ I2 q2) fun vu s3 ⟨u,H3,I3,pu,q3⟩ =>?_);rw[evalPart_none];refine wpAny_pure ?_;have I4:Inv X pins σ H3 {s3 with heap:=s3.heap.push {cls:=.type "slice",data:=.fields #[vl,vu,.none]}}:=I3.kept (t':=s3.toks) fun b ob q=>Heap.get?_push_of_some _ q;obtain⟨T,id,hT,ht,hg⟩ :=hr pins {s3 with heap:=s3.heap.push {cls:=.type "slice",data:=.fields #[vl,vu,.none]}} σ H3 x v vl vu l u s3.heap.objs.size Q I4 r1 (Heap.IsSliceOf.new ..) pl pu q3;show wpAny (model X.prog X.w) X.A (subscriptTail e (.Slice lo hi none p2) v (.ref s3.heap.objs.size)) (EP X pins σ Q) X.xe {s3 with heap:=s3.heap.push {cls:=.type "slice",data:=.fields #[vl,vu,.none]}};exact tail_any (ops:=[.ref s3.heap.objs.size,v]) ht hT hg (by with_unfolding_all rfl)
def cutV(xs:List V)(lo hi:Option Int):List V:=(xs.drop (HT.sIx xs.length 0 lo)).take (HT.sIx xs.length xs.length hi - HT.sIx xs.length 0 lo)
theorem Ug(xs:List V)(lo hi:Option Int):(cutV xs lo hi).length<=xs.length:=by
 unfold cutV;rw[List.length_take,List.length_drop];omega
end
end L2
namespace L2
open PySem PySem.Spec PyProof.Rows
def ixN(n:Nat)(i:Int):Option Nat:=if 0<=i then(if i < n then some i.toNat else none)else if -(n:Int)<=i then some (i + n).toNat else none
def atI{α:Type}(xs:List α)(i:Int):Option α:=(ixN xs.length i).bind fun j=>xs[j]?
theorem Yo{n:Nat}{i:Int}{j:Nat}(h:ixN n i=some j):seqIndex? i n=some j/\j < n/\-(n:Int)<=i/\i < n:=by
 unfold ixN at h;by_cases h0:0<=i
 ·rw[if_pos h0]at h;by_cases h1:i < n
  ·rw[if_pos h1]at h;have e:i.toNat=j:=Option.some.inj h;exact⟨by rw[seqIndex_of h0 h1,e],by omega,by omega,h1⟩
  ·rw[if_neg h1]at h;cases h
 ·rw[if_neg h0]at h;by_cases h1: -(n:Int)<=i
  ·rw[if_pos h1]at h;have e:(i + n).toNat=j:=Option.some.inj h;exact⟨by rw[seqIndex_neg (by omega) h1,e],by omega,h1,by omega⟩
  ·rw[if_neg h1]at h;cases h
theorem Sg{α:Type}{xs:List α}{i:Int}{v:α}(h:atI xs i=some v):∃j,seqIndex? i xs.length=some j/\xs[j]? =some v/\j < xs.length/\-(xs.length:Int)<=i/\i < xs.length:=by
 unfold atI at h;cases e:ixN xs.length i with
 |none=>rw[e]at h;cases h
 |some j=>
  rw[e]at h;obtain⟨h1,h2,h3,h4⟩ :=Yo e;exact⟨j,h1,h,h2,h3,h4⟩
theorem A4{α:Type}{xs:List α}{j:Nat}{v:α}(h:xs[j]? =some v):atI xs (j:Int)=some v:=by
 have hj:j < xs.length:=(List.getElem?_eq_some_iff.mp h).1;have e:ixN xs.length (j:Int)=some j:=by
  unfold ixN;rw[if_pos (by omega),if_pos (by omega)];simp
 unfold atI;rw[e];exact h
theorem aJ{α:Type}(xs:List α)(v:α):atI (xs++[v]) (-1)=some v:=by
 have hl:(xs++[v]).length=xs.length + 1:=by simp
 have e:ixN (xs++[v]).length (-1)=some xs.length:=by
  unfold ixN;rw[hl,if_neg (by decide),if_pos (by omega)];congr 1;omega
 unfold atI;rw[e];show(xs++[v])[xs.length]? =some v;simp
def PlainIx(b:Expr):Prop:=∀o i,subscripted b false o i=operate [o,i] (getItem o i)
def IxR(X:Cx)(r:R2):Prop:=
 ∀(value slice:Expr) (pins:List (Addr×Obj)) (s:Shared) (σ:St) (H:Hp) (x y:V) (v u:Value) (Q:VK),Inv X pins σ H s->RelV x v->RelV y u->r x y H Q->
  subscripted slice false v u=operate [v,u] (getItem v u)->wpAny (model X.prog X.w) X.A (subscriptTail value slice v u) (EP X pins σ Q) X.xe s
def MtR(X:Cx)(id:String)(r:V->List V->Hp->VK->Prop):Prop:=
 ∀(pins:List (Addr×Obj)) (s:Shared) (σ:St) (H:Hp) (x:V) (xs:List V) (v:Value) (us:List Value) (Q:VK),Inv X pins σ H s->RelV x v->Vals xs us->r x xs H Q->
  wpAny (model X.prog X.w) X.A (call (.builtin id) (v::us)) (EP X pins σ Q) X.xe s
section
variable {X:Cx}{a b:Expr}{ta tb:TE}{pos:Pos}
theorem Ai{r:R2}(hr:IxR X r)(ha:PE X a ta)(hb:PE X b tb)(hs:PlainIx b:=by exact fun _ _=>rfl):PE X (.Subscript a b pos) (tOp r ta tb):=by
 intro pins s σ H Q I h;exact Subscript_ (binT ha hb I h fun v u s2 x y H2 I2 rx ry q=>hr a b pins s2 σ H2 x y v u Q I2 rx ry q (hs _ _))
inductive rIxL(K:PySem.W.Frag)(x:V)(y:V)(H:Hp)(Q:VK):Prop|m:∀p xs i v,x=.ref p->y=.int i->SqL K H p xs->atI xs i=some v->Q v H->rIxL K x y H Q
inductive rIxT(K:PySem.W.Frag)(x:V)(y:V)(H:Hp)(Q:VK):Prop|m:∀p xs i v,x=.ref p->y=.int i->SqT K H p xs->atI xs i=some v->Q v H->rIxT K x y H Q
inductive rIxS(x:V)(y:V)(H:Hp)(Q:VK):Prop|m:∀z i c,x=.str z->y=.int i->z.length<=sizeLine->atI z.cps.toList i=some c->Q (.str ⟨#[c]⟩) H->rIxS x y H Q
theorem Ag:IxR X (rIxL X.K):=by
 intro value slice pins s σ H x y v u Q I rx ry h hs;obtain⟨p,xs,i,z,rfl,rfl,hq,he,q⟩ :=h;cases rx;obtain⟨t,rfl⟩ :=ry;obtain⟨its,r,pl,hz⟩ :=I.list hq;obtain⟨j,h1,h2,h3,h4,h5⟩ :=Sg he;obtain⟨w,ew,rw'⟩ :=r.get h2;have hl:=r.length;have hn:=line63;have fin:EP X pins σ Q w s:= ⟨z,H,I,rw',q⟩;by_cases h0:0<=i
 ·have hj:i.toNat=j:=by
   rw[seqIndex_of h0 h5]at h1;exact Option.some.inj h1
  exact item_listR pl.isList h0 (by omega) (by rw[hj];simpa using ew) fin hs
 ·have hj:(i + (its.toArray.size:Int)).toNat=j:=by
   rw[seqIndex_neg (by omega) h4]at h1;rw[List.size_toArray,<-hl];exact Option.some.inj h1
  exact subscriptTail_builtinR (x:=w) pl.isList.typeIs slot_list_getitem.lookup
   (wpAny_getItem_list_neg (Q:=fun r s'=>r=w/\EP X pins σ Q r s') pl.isList (by omega) (by rw[List.size_toArray]<;>omega) (by omega) (by rw[hj];simpa using ew) ⟨rfl,fin⟩) hs
theorem Bc:IxR X (rIxT X.K):=by
 intro value slice pins s σ H x y v u Q I rx ry h hs;obtain⟨p,xs,i,z,rfl,rfl,hq,he,q⟩ :=h;cases rx;obtain⟨t,rfl⟩ :=ry;obtain⟨its,r,pl,hz⟩ :=I.tuple hq;obtain⟨j,h1,h2,h3,h4,h5⟩ :=Sg he;obtain⟨w,ew,rw'⟩ :=r.get h2;have hl:=r.length;have hn:=line63;have fin:EP X pins σ Q w s:= ⟨z,H,I,rw',q⟩;exact subscriptTail_builtinR (x:=w) pl.typeIs slot_tuple_getitem.lookup
  (getItem_tuple (j:=j) (Q:=fun r s'=>r=w/\EP X pins σ Q r s') pl (by omega) (by omega) (by rw[List.size_toArray,<-hl];exact h1) (by simpa using ew) ⟨rfl,fin⟩) hs
theorem gR:IxR X rIxS:=by
 intro value slice pins s σ H x y v u Q I rx ry h hs;obtain⟨z,i,c,rfl,rfl,hz,he,q⟩ :=h;obtain⟨t,rfl⟩ :=rx;obtain⟨t',rfl⟩ :=ry;obtain⟨j,h1,h2,h3,h4,h5⟩ :=Sg he;have hl:z.cps.toList.length=z.length:=by simp[Str.length]
 rw[hl]at h1 h4 h5;have hn:=line63;exact tail_any (typeIs_str s z t) slot_str_getitem.lookup (getItem_str (c:=c) (by
  have e1:decide (i < -(2^63:Int))=false:=decide_eq_false (by omega);have e2:decide (i≥2^63)=false:=decide_eq_false (by omega);rw[e1,e2,Bool.or_false]) (by rw[h1];simpa using h2) ⟨.str ⟨#[c]⟩,H,I.tok _,⟨_,rfl⟩,q⟩) hs
theorem Xa(its:List Value)(n j:Nat)(u:Value):Obj.mapSeq (·.setIfInBounds j u) {cls:=.type "list",data:=.seq its.toArray n}= {cls:=.type "list",data:=.seq (its.set j u).toArray n}:=by
 simp[Obj.mapSeq]
theorem Inv.lst{pins:List (Addr×Obj)}{σ:St}{H:Hp}{s:Shared}{p:Addr}{xs:List V}(I:Inv X pins σ H s)(h:H p=some (.lst xs)):
  ∃(its:List Value) (n:Nat),Vals xs its/\s.heap.get? p=some {cls:=.type "list",data:=.seq its.toArray n}/\xs.length<=sizeLine:=by
 obtain⟨z,its,n,r,e⟩ :=I.hok p _ h;exact⟨its,n,r,e,z⟩
theorem Inv.lstUpd{pins:List (Addr×Obj)}{σ:St}{H:Hp}{s:Shared}{p:Addr}{xs ys:List V}{its its':List Value}{n n':Nat}{f:Obj->Obj}(I:Inv X pins σ H s)(h:H p=some (.lst xs))
  (ho:s.heap.get? p=some {cls:=.type "list",data:=.seq its.toArray n}) (hf:f {cls:=.type "list",data:=.seq its.toArray n}= {cls:=.type "list",data:=.seq its'.toArray n'}) (r:Vals ys its') (hz:ys.length<=sizeLine) (t:Nat):
  Inv X pins σ (upd H p (.lst ys)) {s with heap:=s.heap.update p f,toks:=t}:=by
 have e:(s.heap.update p f).get? p=some {cls:=.type "list",data:=.seq its'.toArray n'}:=by
  rw[Heap.get?_update_self f ho (by rw[hf]<;>rfl),hf]
 refine I.write (x:=p) (e:=p) (by rw[h];trivial) (.inl rfl) (fun b u hb q=>(Heap.get?_update_other _ _ (Ne.symm hb)).trans q) ⟨_,e⟩ ?_;exact⟨hz,its',n',r,e⟩
inductive rSetL(o:V)(i:V)(v:V)(H:Hp)(Q:(Hp->Prop)):Prop|m:∀p xs k j,o=.ref p->i=.int k->H p=some (.lst xs)->ixN xs.length k=some j->Q (upd H p (.lst (xs.set j v)))->rSetL o i v H Q
theorem P3:PSet X rSetL:=by
 intro pins s σ H o i v ov iv u Q I ro ri rv h;obtain⟨p,xs,k,j,rfl,rfl,hp,hj,q⟩ :=h;cases ro;obtain⟨t,rfl⟩ :=ri;obtain⟨its,n,r,ho,hz⟩ :=I.lst hp;obtain⟨h1,h2,h3,h4⟩ :=Yo hj;have hl:=r.length;have hn:=line63;have I':Inv X pins σ (upd H p (.lst (xs.set j v))) {s with heap:=s.heap.update p (Obj.mapSeq (·.setIfInBounds j u))}:=
  I.lstUpd hp ho (Xa its n j u) (r.set rv j) (by rw[List.length_set];exact hz) s.toks
 by_cases h0:0<=k
 ·have hk:k.toNat=j:=by
   rw[seqIndex_of h0 h4]at h1;exact Option.some.inj h1
  exact PySem.W.ki_setAt ho h0 (by omega) (by rw[List.size_toArray,<-hl];exact h4) (by rw[hk];exact⟨_,I',q⟩)
 ·have hk:(k + (its.toArray.size:Int)).toNat=j:=by
   rw[seqIndex_neg (by omega) h3]at h1;rw[List.size_toArray,<-hl];exact Option.some.inj h1
  exact PySem.W.ki_setBack ho (by omega) (by rw[List.size_toArray,<-hl];exact h3) (by omega) (by rw[hk];exact⟨_,I',q⟩)
theorem T4(lo hi:Option Int)(n:Nat):(sliceBounds lo hi none n).1=((HT.sIx n 0 lo:Nat):Int)/\(sliceBounds lo hi none n).2.1=((HT.sIx n n hi:Nat):Int)/\(sliceBounds lo hi none n).2.2=1:=by
 refine⟨?_,?_,rfl⟩
 ·cases lo with
  |none=>simp[sliceBounds,HT.sIx]
  |some i=>
   simp only [sliceBounds,HT.sIx,Option.getD_none,show(1:Int) > 0 by decide,if_true];by_cases h:i < 0
   ·simp only [h,if_true]<;>omega
   ·simp only [h,if_false]<;>omega
 ·cases hi with
  |none=>simp[sliceBounds,HT.sIx]
  |some i=>
   simp only [sliceBounds,HT.sIx,Option.getD_none,show(1:Int) > 0 by decide,if_true];by_cases h:i < 0
   ·simp only [h,if_true]<;>omega
   ·simp only [h,if_false]<;>omega
theorem Q9(its:List Value)(lo hi:Option Int):slicePick its.toArray lo hi none=((its.drop (HT.sIx its.length 0 lo)).take (HT.sIx its.length its.length hi - HT.sIx its.length 0 lo)).toArray:=by
 obtain⟨h1,h2,h3⟩ :=T4 lo hi its.toArray.size;unfold slicePick;rw[h1,h2,h3];simp only [sliceRange_one,pick_run,List.size_toArray]<;>rfl
inductive rSlL(K:PySem.W.Frag)(x:V)(lo:Option Int)(hi:Option Int)(H:Hp)(Q:VK):Prop|m:∀a xs,x=.ref a->SqL K H a xs->(∀p,H p=none->Q (.ref p) (upd H p (.lst (cutV xs lo hi))))->rSlL K x lo hi H Q
theorem Ds:SlR X (rSlL X.K):=by
 intro pins s σ H x v vl vu lo hi sl Q I rx hs pl pu h;obtain⟨a,xs,rfl,hx,q⟩ :=h;cases rx;obtain⟨its,r,ht,hz⟩ :=I.list hx;have hlen:=r.length;refine⟨"list",_,slot_list_getitem.lookup,ht.isList.typeIs,?_⟩;refine wpAny_getItem_list_slice ht.isList hs pl pu .none (by simp) ?_ (by rw[List.size_toArray]<;>omega);rw[Q9,<-hlen];refine⟨.ref s.heap.objs.size,_,I.laid (t':=s.toks) (o:=.lst (cutV xs lo hi)) (fun b ob q=>Heap.get?_push_of_some _ q) (Nat.le_refl _) ?_,rfl,q _ (I.hok.fresh (Nat.le_refl _))⟩;exact⟨Nat.le_trans (Ug xs lo hi) hz,_,0,(r.drop (HT.sIx xs.length 0 lo)).take (HT.sIx xs.length xs.length hi - HT.sIx xs.length 0 lo),Heap.get?_push_size _ rfl⟩
def flatV:V->Bool
 |.non=>true
 |.bl _=>true
 |.int _=>true
 |.str _=>true
 |_=>false
def eqV:V->V->Bool
 |.non,.non=>true
 |.bl a,.bl b=>a == b
 |.bl a,.int b=>(if a then 1 else 0) == b
 |.int a,.bl b=>a == (if b then 1 else 0)
 |.int a,.int b=>a == b
 |.str a,.str b=>a == b
 |_,_=>false
theorem gM{A:Around}{s:Shared}{y x:V}{u v:Value}(ry:RelV y u)(rx:RelV x v)(fy:flatV y=true)(fx:flatV x=true):SeqAt.EqAt A s u v (eqV y x):=by
 cases y with
 |non=>
  cases ry;cases x with
  |non=>cases rx;exact SeqAt.EqAt.same _
  |bl b=>cases rx;exact SeqAt.EqAt.none_bool b
  |int b=>obtain⟨t,rfl⟩ :=rx;exact SeqAt.EqAt.none_int b t
  |str b=>obtain⟨t,rfl⟩ :=rx;exact SeqAt.EqAt.none_str b t
  |_=>exact absurd (show false=true from fx) Bool.false_ne_true
 |bl a=>
  cases ry;cases x with
  |non=>cases rx;exact SeqAt.EqAt.bool_none a
  |bl b=>cases rx;exact SeqAt.EqAt.bool_bool a b
  |int b=>obtain⟨t,rfl⟩ :=rx;exact SeqAt.EqAt.bool_int a b t
  |str b=>obtain⟨t,rfl⟩ :=rx;exact SeqAt.EqAt.bool_str a b t
  |_=>exact absurd (show false=true from fx) Bool.false_ne_true
 |int a=>
  obtain⟨t',rfl⟩ :=ry;cases x with
  |non=>cases rx;exact SeqAt.EqAt.int_none a t'
  |bl b=>cases rx;exact SeqAt.EqAt.int_bool a t' b
  |int b=>obtain⟨t,rfl⟩ :=rx;exact SeqAt.EqAt.int_int a t' b t
  |str b=>obtain⟨t,rfl⟩ :=rx;exact SeqAt.EqAt.int_str a t' b t
  |_=>exact absurd (show false=true from fx) Bool.false_ne_true
 |str a=>
  obtain⟨t',rfl⟩ :=ry;cases x with
  |non=>cases rx;exact SeqAt.EqAt.str_none a t'
  |bl b=>cases rx;exact SeqAt.EqAt.str_bool a t' b
  |int b=>obtain⟨t,rfl⟩ :=rx;exact SeqAt.EqAt.str_int a t' b t
  |str b=>obtain⟨t,rfl⟩ :=rx;exact SeqAt.EqAt.str_str a t' b t
  |_=>exact absurd (show false=true from fx) Bool.false_ne_true
 |_=>exact absurd (show false=true from fy) Bool.false_ne_true
def eqU(x:V)(u:Value):Bool:=match u with
 |.none=>eqV .non x
 |.bool b=>eqV (.bl b) x
 |.int i _=>eqV (.int i) x
 |.str z _=>eqV (.str z) x
 |_=>false
theorem Lu{x y:V}{u:Value}(r:RelV y u)(f:flatV y=true):eqU x u=eqV y x:=by
 cases y with
 |non=>cases r;rfl
 |bl b=>cases r;rfl
 |int i=>obtain⟨t,rfl⟩ :=r;rfl
 |str z=>obtain⟨t,rfl⟩ :=r;rfl
 |_=>exact absurd (show false=true from f) Bool.false_ne_true
theorem Kh{x:V}:∀{xs:List V} {us:List Value},Vals xs us->xs.all flatV=true->us.any (eqU x)=xs.any fun y=>eqV y x
 |_,_,.nil,_=>rfl
 |y::xs,u::us,.cons r t,f=>by
  rw[List.all_cons,Bool.and_eq_true]at f;rw[List.any_cons,List.any_cons,Lu r f.1,Kh t f.2]
theorem E3{A:Around}{s:Shared}{x:V}{v:Value}(rx:RelV x v)(fx:flatV x=true):∀{xs:List V} {us:List Value},Vals xs us->xs.all flatV=true->∀u∈us,SeqAt.EqAt A s u v (eqU x u)
 |_,_,.nil,_=>fun u hu=>by cases hu
 |y::xs,u::us,.cons r t,f=>fun u' hu=>by
  rw[List.all_cons,Bool.and_eq_true]at f;rcases List.mem_cons.mp hu with rfl|hu
  ·rw[Lu r f.1];exact gM r rx f.1 fx
  ·exact E3 rx fx t f.2 u' hu
def inV(x:V)(xs:List V):Bool:=xs.any fun y=>eqV y x
inductive rIn(K:PySem.W.Frag)(neg:Bool)(x:V)(y:V)(H:Hp)(Q:VK):Prop|m:∀p xs,y=.ref p->(SqL K H p xs∨SqT K H p xs)->flatV x=true->xs.all flatV=true->Q (.bl (if neg then !inV x xs else inV x xs)) H->rIn K neg x y H Q
theorem D4:OpR X (compareOp .In) (rIn X.K false):=by
 intro pins s σ H x y v u Q I rx ry h;obtain⟨p,xs,rfl,hq,fx,fs,q⟩ :=h;cases ry;rcases hq with hq|hq
 ·obtain⟨its,r,pl,hz⟩ :=I.list hq;refine SeqAt.in_listAt (eqU x) pl.isList (fun w hw=>E3 rx fx r fs w (by simpa using hw)) ⟨.bl _,H,I,rfl,?_⟩;rw[show its.toArray.any (eqU x)=its.any (eqU x)by simp,Kh r fs];exact q
 ·obtain⟨its,r,pl,hz⟩ :=I.tuple hq;refine SeqAt.in_tupleAt (eqU x) pl (fun w hw=>E3 rx fx r fs w (by simpa using hw)) ⟨.bl _,H,I,rfl,?_⟩;rw[show its.toArray.any (eqU x)=its.any (eqU x)by simp,Kh r fs];exact q
theorem Gi:OpR X (compareOp .NotIn) (rIn X.K true):=by
 intro pins s σ H x y v u Q I rx ry h;obtain⟨p,xs,rfl,hq,fx,fs,q⟩ :=h;cases ry;rcases hq with hq|hq
 ·obtain⟨its,r,pl,hz⟩ :=I.list hq;refine SeqAt.notIn_listAt (eqU x) pl.isList (fun w hw=>E3 rx fx r fs w (by simpa using hw)) ⟨.bl _,H,I,rfl,?_⟩;rw[show its.toArray.any (eqU x)=its.any (eqU x)by simp,Kh r fs];exact q
 ·obtain⟨its,r,pl,hz⟩ :=I.tuple hq;refine SeqAt.notIn_tupleAt (eqU x) pl (fun w hw=>E3 rx fx r fs w (by simpa using hw)) ⟨.bl _,H,I,rfl,?_⟩;rw[show its.toArray.any (eqU x)=its.any (eqU x)by simp,Kh r fs];exact q
theorem An:CallR X (.builtin "len") (fun xs H Q=>∃p ys,xs= [.ref p]/\(SqL X.K H p ys∨SqT X.K H p ys)/\Q (.int ys.length) H):=by
 intro pins s σ H xs us Q I r h;obtain⟨p,ys,rfl,hq,q⟩ :=h;obtain⟨u,rfl,rx⟩ :=vals1 r;cases rx;have hn:=line63;rcases hq with hq|hq
 ·obtain⟨its,r',pl,hz⟩ :=I.list hq;have hlen:=r'.length;exact Calls.call_len_list pl.isList (by simp only [List.size_toArray]<;>omega) ⟨.int ys.length,H,I.tok _,⟨s.toks + 1,by rw[List.size_toArray,hlen]⟩,q⟩
 ·obtain⟨its,r',pl,hz⟩ :=I.tuple hq;have hlen:=r'.length;exact len_tuple pl (by simp only [List.size_toArray]<;>omega) ⟨.int ys.length,H,I.tok _,⟨s.toks + 1,by rw[List.size_toArray,hlen]⟩,q⟩
theorem F9:CallR X (.builtin "len") (fun xs H Q=>∃z,xs= [.str z]/\z.length<=sizeLine/\Q (.int z.length) H):=by
 intro pins s σ H xs us Q I r h;obtain⟨z,rfl,hz,q⟩ :=h;obtain⟨u,rfl,t,rfl⟩ :=vals1 r;have hn:=line63;exact len_str (by omega) ⟨.int z.length,H,I.tok _,⟨_,rfl⟩,q⟩
theorem Ce:CallR X (.type "list") (fun xs H Q=>∃p ys,xs= [.ref p]/\(SqL X.K H p ys∨SqT X.K H p ys)/\∀l,H l=none->Q (.ref l) (upd H l (.lst ys))):=by
 intro pins s σ H xs us Q I r h;obtain⟨p,ys,rfl,hq,q⟩ :=h;obtain⟨u,rfl,rx⟩ :=vals1 r;cases rx;have fin:∀(its:List Value),Vals ys its->ys.length<=sizeLine->∀(h':Heap) (c':Nat),(∀b o',s.heap.get? b=some o'->h'.get? b=some o')->
   h'.get? s.heap.objs.size=some {cls:=.type "list",dict:=none,data:=.seq its.toArray c',slots:=#[]}->EP X pins σ Q (.ref s.heap.objs.size) {s with heap:=h'}:=fun its r' hz h' c' kp e=>
  ⟨.ref s.heap.objs.size,_,I.laid (t':=s.toks) kp (Nat.le_refl _) (show ObjOk X.prog X.w _ h' _ (.lst ys) from⟨hz,its,c',r',e⟩),rfl,q _ (I.hok.fresh (Nat.le_refl _))⟩
 rcases hq with hq|hq
 ·obtain⟨its,r',pl,hz⟩ :=I.list hq;have hlen:=r'.length;obtain⟨o,ho,hc,n,hd⟩ :=pl.isList;exact call_list_seq p (.inl rfl) ho hc hd (fun h' c' kp e=>fin its r' hz h' c' kp e) (by simp only [List.size_toArray]<;>omega)
 ·obtain⟨its,r',pl,hz⟩ :=I.tuple hq;have hlen:=r'.length;obtain⟨o,ho,hc,n,hd⟩ :=pl;exact call_list_seq p (.inr rfl) ho hc hd (fun h' c' kp e=>fin its r' hz h' c' kp e) (by simp only [List.size_toArray]<;>omega)
def tyV(K:PySem.W.Frag)(T:String)(x:V)(H:Hp):Prop:=match x with
 |.str _=>T="str"
 |.int _=>T="int"
 |.ref p=>(T="list"/\∃xs,SqL K H p xs)∨(T="tuple"/\∃o,K.lookup p=some o/\o.cls=.type "tuple"/\o.dict=none)∨
   (T="dict"/\((∃kvs,H p=some (.dK kvs))∨∃kvs,H p=some (.dT kvs)))∨(T="set"/\∃S n,H p=some (.set S n))
 |_=>False
theorem dN{pins:List (Addr×Obj)}{σ:St}{H:Hp}{s:Shared}{T:String}{x:V}{v:Value}(I:Inv X pins σ H s)(r:RelV x v)(ty:tyV X.K T x H):
  s.TypeIs v T/\∀a,v=.ref a->∃ob,s.heap.get? a=some ob/\ob.dict=none:=by
 cases x with
 |str z=>
  obtain⟨t,rfl⟩ :=r;cases (show T="str" from ty);exact⟨typeIs_str s z t,fun _ e=>nomatch e⟩
 |int i=>
  obtain⟨t,rfl⟩ :=r;cases (show T="int" from ty);exact⟨typeIs_int s i t,fun _ e=>nomatch e⟩
 |ref p=>
  cases r;rcases ty with⟨rfl,xs,hq⟩ | ⟨rfl,o,hk,hc,hd⟩ | ⟨rfl,hk⟩ | ⟨rfl,S,n,hk⟩
  ·obtain⟨its,_,pl,_⟩ :=I.list hq;refine⟨pl.isList.typeIs,fun a e=>?_⟩;cases e;obtain⟨o,n,e,c,hd,_⟩ :=pl;exact⟨o,e,hd⟩
  ·refine⟨⟨o,I.kIn p o hk,hc⟩,fun a e=>?_⟩;cases e;exact⟨o,I.kIn _ o hk,hd⟩
  ·have z:∃o,s.heap.get? p=some o/\o.ExactDict:=by
    rcases hk with⟨kvs,hk⟩ | ⟨kvs,hk⟩
    ·obtain⟨_,_,_,_,o,_,_,e,ex,_⟩ :=I.hok p _ hk;exact⟨o,e,ex⟩
    ·obtain⟨_,_,_,_,o,_,_,e,ex,_⟩ :=I.hok p _ hk;exact⟨o,e,ex⟩
   obtain⟨o,e,ex⟩ :=z;refine⟨⟨o,e,ex.1⟩,fun a e2=>?_⟩;cases e2;exact⟨o,e,ex.2.1⟩
  ·obtain⟨o,_,_,_,e,ex,_⟩ :=I.hok p _ hk;refine⟨⟨o,e,ex.1⟩,fun a e2=>?_⟩;cases e2;exact⟨o,e,ex.2.1⟩
 |_=>exact False.elim ty
def tBM0(K:PySem.W.Frag)(T:String)(r:V->List V->Hp->VK->Prop)(to:TE):TE:=fun σ H Q=>to σ H fun x H1=>tyV K T x H1/\r x [] H1 Q
def tBM(K:PySem.W.Frag)(T:String)(r:V->List V->Hp->VK->Prop)(to:TE)(t:TA):TE:=fun σ H Q=>to σ H fun x H1=>tyV K T x H1/\t σ H1 fun xs H2=>r x xs H2 Q
variable {o e:Expr}{es:List Expr}{to:TE}{t:TA}{name:Str}{apos cpos:Pos}{T id:String}{r:V->List V->Hp->VK->Prop}
theorem iE(pa:PlainAttrs T)(slot:Slot T name id)(hty:typeOf (.builtin id)=pure (.type "method_descriptor"))(hm:MtR X id r)(ho:PE X o to)
  (hbase:attributeBase o name X.env (eval o X.env)=eval o X.env:=by rfl) (hline:(apos.endLine == cpos.line)=true:=by rfl):PE X (.Call (.Attribute o name apos) [] [] cpos) (tBM0 X.K T r to):=by
 intro pins s σ H Q I h;refine wpAny_Call_method0_late hbase hline (thn (ho pins s σ H _ I h) fun v s1 ⟨x,H1,I1,r1,ty,q1⟩ =>?_);obtain⟨h1,h2⟩ :=dN I1 r1 ty;exact⟨T,id,pa,slot,hty,h1,h2,Calls.callWith_builtin rfl (PySem.evalArgs_none (hm pins s1 σ H1 x [] v [] Q I1 r1 .nil q1))⟩
theorem Eh(pa:PlainAttrs T)(slot:Slot T name id)(hty:typeOf (.builtin id)=pure (.type "method_descriptor"))(hm:MtR X id r)(ho:PE X o to)(ha:PA X (e::es) t)
  (hbase:attributeBase o name X.env (eval o X.env)=eval o X.env:=by rfl)
  (hfew:((backTo cpos (starEach (e::es) X.env)).all (fun x=>!x.1)&&(backToKw cpos (keywordEach [] X.env)).all (fun x=>x.1.isSome)
   &&decide ((e::es).length + ([]:List Keyword).length + (if ([]:List Keyword).isEmpty then 0 else 1) < 30))=true:=by rfl)
  (hline:(apos.endLine == cpos.line)=true:=by rfl) (hs:starEach (e::es) X.env=(false,eval e X.env)::starEach es X.env:=by rfl) (hplain:(backTo cpos (starEach es X.env)).any (·.1)=false:=by rfl):
  PE X (.Call (.Attribute o name apos) (e::es) [] cpos) (tBM X.K T r to t):=by
 intro pins s σ H Q I h;refine wpAny_Call_method_late hbase hfew hline rfl (thn (ho pins s σ H _ I h) fun v s1 ⟨x,H1,I1,r1,ty,q1⟩ =>?_);obtain⟨h1,h2⟩ :=dN I1 r1 ty;refine⟨T,id,pa,slot,hty,h1,h2,?_⟩;have hA:=ha cpos pins s1 σ H1 _ I1 q1;rw[hs]at hA⊢;refine Calls.callWith_builtin (by show(false || (backTo cpos (starEach es X.env)).any (·.1))=false;rw[hplain]<;>rfl) (Calls.evalArgs_plain ?_);exact thn hA fun us s2 ⟨vs,H2,I2,r2,q2⟩ =>hm pins s2 σ H2 x vs v us Q I2 r1 r2 q2
end
end L2
namespace L2
open PySem PySem.Spec PyProof.Rows
def MtM(X:Cx)(id:String)(r:V->List V->Hp->VK->Prop):Prop:=
 ∀(pins:List (Addr×Obj)) (s:Shared) (σ:St) (H:Hp) (x:V) (xs:List V) (v:Value) (us:List Value) (Q:VK),Inv X pins σ H s->RelV x v->Vals xs us->r x xs H Q->
  wpAny (model X.prog X.w) X.A (call (.builtin id) (v::us)) (EP X pins σ Q) X.xe s
theorem Vals.one:∀{x:V} {us:List Value},Vals [x] us->∃u,us= [u]/\RelV x u
 |_,_,.cons r .nil=> ⟨_,rfl,r⟩
theorem Vals.zero:∀{us:List Value},Vals [] us->us= []
 |_,.nil=>rfl
theorem Vals.dropLast{xs:List V}{us:List Value}(h:Vals xs us):Vals xs.dropLast us.dropLast:=by
 induction h with
 |nil=>exact .nil
 |cons r t ih=>
  cases t with
  |nil=>exact .nil
  |cons q t'=>exact .cons r ih
theorem Ww{α:Type}(l:List α):l.eraseIdx (l.length - 1)=l.dropLast:=by
 induction l with
 |nil=>rfl
 |cons a r ih=>
  cases r with
  |nil=>rfl
  |cons b r=>
   have e:(a::b::r).length - 1=((b::r).length - 1) + 1:=by
    have h1:(a::b::r).length=r.length + 2:=rfl;have h2:(b::r).length=r.length + 1:=rfl;omega
   rw[e,List.eraseIdx_cons_succ,ih]
   all_goals rfl
section
variable {X:Cx}{pins:List (Addr×Obj)}{σ:St}{H:Hp}{s:Shared}{l b:Addr}{xs ys zs:List V}
theorem Inv.lset{its its':List Value}{n:Nat}{f:Array Value->Array Value}{t':Nat}(I:Inv X pins σ H s)(hH:H l=some (.lst xs))
  (e:s.heap.get? l=some {cls:=.type "list",data:=.seq its.toArray n}) (hf:f its.toArray=its'.toArray) (hv:Vals ys its') (hz:ys.length<=sizeLine):
  Inv X pins σ (upd H l (.lst ys)) {s with heap:=s.heap.update l (Obj.mapSeq f),toks:=t'}:=by
 have q:=PySem.IsL.update e f;rw[hf]at q;refine I.write (x:=l) (e:=l) (by rw[hH];exact trivial) (.inl rfl) (fun b' u hb hu=>(Heap.get?_update_other s.heap (Obj.mapSeq f) (Ne.symm hb)).trans hu) ⟨_,q⟩ ?_;exact⟨hz,its',_,hv,q⟩
theorem Inv.lnew{its:List Value}{t':Nat}(I:Inv X pins σ H s)(hv:Vals ys its)(hz:ys.length<=sizeLine):
  Inv X pins σ (upd H s.heap.objs.size (.lst ys)) {s with heap:=s.heap.push {cls:=.type "list",data:=.seq its.toArray},toks:=t'}:=
 I.laid (fun _ _ q=>Heap.get?_push_of_some _ q) (Nat.le_refl _) ⟨hz,its,0,hv,Heap.get?_push_size _ rfl⟩
theorem Inv.fresh(I:Inv X pins σ H s):H s.heap.objs.size=none:=I.hok.fresh (Nat.le_refl _)
theorem Inv.lstM(I:Inv X pins σ H s)(hH:H l=some (.lst xs)):xs.length<=sizeLine/\∃(its:List Value) (n:Nat),Vals xs its/\xs.length=its.length/\s.heap.get? l=some {cls:=.type "list",data:=.seq its.toArray n}:=by
 obtain⟨z,its,n,r,e⟩ :=I.hok l _ hH;exact⟨z,its,n,r,r.length,e⟩
theorem notLongL{n:Nat}(h:n<=sizeLine):Builtin.List.listTooLong n=false:=by
 unfold Builtin.List.listTooLong;exact decide_eq_false (by omega)
end
section
variable {X:Cx}
inductive rAppend(x:V)(vs:List V)(H:Hp)(Q:VK):Prop|m:∀l xs y,x=.ref l->vs= [y]->H l=some (.lst xs)->xs.length < sizeLine->Q .non (upd H l (.lst (xs++[y])))->rAppend x vs H Q
theorem Dc:MtM X "list.append" rAppend:=by
 intro pins s σ H x vs v us Q I rx rv h;obtain⟨l,xs,y,rfl,rfl,hH,hz,q⟩ :=h;cases rx;obtain⟨u,rfl,ru⟩ :=rv.one;obtain⟨z,its,n,r,hl,e⟩ :=I.lstM hH;refine call_meets F.slot_list_append ⟨_,e,rfl⟩ F.entry_list_append (F.args_list_append_2 _ _) (PySem.list_append l its.toArray n u (by rw[List.size_toArray];omega)) ⟨e,?_⟩;refine⟨.non,_,I.lset (its':=its++[u]) hH e (by simp) (r.append (.cons ru .nil)) ?_,rfl,q⟩;rw[List.length_append,List.length_singleton];omega
inductive rExtend(x:V)(vs:List V)(H:Hp)(Q:VK):Prop|m:∀l b xs zs,x=.ref l->vs= [.ref b]->H l=some (.lst xs)->H b=some (.lst zs)->xs.length + zs.length<=sizeLine->Q .non (upd H l (.lst (xs++zs)))->rExtend x vs H Q
theorem Jg:MtM X "list.extend" rExtend:=by
 intro pins s σ H x vs v us Q I rx rv h;obtain⟨l,b,xs,zs,rfl,rfl,hH,hB,hz,q⟩ :=h;cases rx;obtain⟨u,rfl,ru⟩ :=rv.one;cases ru;obtain⟨z,its,n,r,hl,e⟩ :=I.lstM hH;obtain⟨z2,its2,n2,r2,hl2,e2⟩ :=I.lstM hB;have hsz:its.toArray.size + its2.toArray.size<=sizeLine:=by rw[List.size_toArray,List.size_toArray];omega
 have hlong:¬(!its.toArray.isEmpty&&Builtin.List.listTooLong (its.toArray.size + its2.toArray.size))=true:=by
  rw[notLongL hsz,Bool.and_false];exact Bool.false_ne_true
 refine call_meets F.slot_list_extend ⟨_,e,rfl⟩ F.entry_list_extend (F.args_list_extend_2 _ _)
  (AutoSeq1.list_extend_list_list_0 l its.toArray n b its2.toArray n2 hlong (by rw[List.size_toArray];omega) (by omega)) ⟨e,e2,?_⟩
 refine⟨.non,_,I.lset (its':=its++its2) hH e (by simp) (r.append r2) ?_,rfl,q⟩;rw[List.length_append];omega
inductive rPop(x:V)(vs:List V)(H:Hp)(Q:VK):Prop|m:∀l xs y,x=.ref l->vs= []->H l=some (.lst xs)->xs[xs.length - 1]? =some y->Q y (upd H l (.lst xs.dropLast))->rPop x vs H Q
theorem hU:MtM X "list.pop" rPop:=by
 intro pins s σ H x vs v us Q I rx rv h;obtain⟨l,xs,y,rfl,rfl,hH,hy,q⟩ :=h;cases rx;have hus:=rv.zero;subst hus;obtain⟨z,its,n,r,hl,e⟩ :=I.lstM hH;obtain⟨u,hu,ru⟩ :=r.get hy;have hy':its.toArray[its.toArray.size - 1]? =some u:=by
  show its.toArray[its.length - 1]? =some u;rw[<-Array.getElem?_toList,<-hl];exact hu
 refine call_meets F.slot_list_pop ⟨_,e,rfl⟩ F.entry_list_pop (F.args_list_pop_1 _) (MeetsSeq.list_pop_last l its.toArray n u hy' (by rw[List.size_toArray];omega)) ⟨e,?_⟩;refine⟨y,_,I.lset (its':=its.dropLast) hH e ?_ r.dropLast ?_,ru,q⟩
 ·show its.toArray.eraseIdxIfInBounds (its.toArray.size - 1)=its.dropLast.toArray;rw[List.size_toArray,List.eraseIdxIfInBounds_toArray,Ww]
 ·rw[List.length_dropLast];omega
inductive rCat(x:V)(y:V)(H:Hp)(Q:VK):Prop|m:∀l b xs zs,x=.ref l->y=.ref b->H l=some (.lst xs)->H b=some (.lst zs)->xs.length + zs.length<=sizeLine->(∀p,H p=none->Q (.ref p) (upd H p (.lst (xs++zs))))->rCat x y H Q
theorem Cf:OpR X (binaryOp .Add) rCat:=by
 intro pins s σ H x y v u Q I rx ry h;obtain⟨l,b,xs,zs,rfl,rfl,hH,hB,hz,q⟩ :=h;cases rx;cases ry;obtain⟨z,its,n,r,hl,e⟩ :=I.lstM hH;obtain⟨z2,its2,n2,r2,hl2,e2⟩ :=I.lstM hB;refine PySem.P.add_list e e2 ?_ (by rw[List.size_toArray,List.size_toArray];omega);have ea:its.toArray++its2.toArray=(its++its2).toArray:=by simp
 rw[ea];exact⟨.ref _,_,I.lnew (t':=s.toks) (r.append r2) (by rw[List.length_append];omega),rfl,q _ I.fresh⟩
end
end L2
namespace L2
open PySem PySem.Spec PyProof.Rows
theorem Vals.ints:∀{ns:List Int} {us:List Value},Vals (ns.map V.int) us->IntsAre us ns
 | [],us,h=>by
  rw[List.map_nil]at h;cases h;exact IntsAre.nil
 |n::ns,us,h=>by
  rw[List.map_cons]at h;cases h with
  |cons r t=>
   obtain⟨k,rfl⟩ :=r;exact IntsAre.cons n k (Vals.ints t)
theorem Vals.bls:∀{bs:List Bool} {us:List Value},Vals (bs.map V.bl) us->us=bs.map Value.bool
 | [],us,h=>by
  rw[List.map_nil]at h;cases h;rfl
 |b::bs,us,h=>by
  rw[List.map_cons]at h;cases h with
  |cons r t=>
   cases r;rw[Vals.bls t,List.map_cons]
theorem Vals.ref1{a:Addr}{us:List Value}(r:Vals [V.ref a] us):us= [Value.ref a]:=by
 cases r with
 |cons r t=>
  cases t;cases r;rfl
section
variable {prog:Program}{w:World}{A:Around}{E:Value->Shared->Prop}{s:Shared}{l:Addr}{its:List Value}{ns:List Int}{Q:Value->Shared->Prop}
theorem fR(hh:A.handled=none)(hl:s.heap.IsList l its.toArray)(hi:IntsAre its ns)
  (h:∀h' tk t',(∀b o,s.heap.get? b=some o->h'.get? b=some o)->Q (.int ns.sum t') {s with heap:=h',toks:=tk}):wpAny (model prog w) A (call (.builtin "sum") [.ref l]) Q E s:=by
 obtain⟨xs,e⟩ :=hi.allInts.items;have hn:numsOf (intItems xs).toList=ns:=by rw[<-e];exact hi.numsOf
 rw[nums_intItems]at hn;rw[e]at hl;refine PySem.sum_intListG hh hl fun h' tk t' hk=>?_;have:=h h' tk t' hk;rw[preSum_eq,List.take_of_length_le (by simp),hn];exact this
end
section
variable {X:Cx}
inductive rSum(K:PySem.W.Frag)(vs:List V)(H:Hp)(Q:VK):Prop|m:∀(a:Addr) (ns:List Int),vs= [V.ref a]->SqL K H a (ns.map V.int)->Q (.int ns.sum) H->rSum K vs H Q
theorem Lr(hc:X.calm=true):CallR X (.builtin "sum") (rSum X.K):=by
 intro pins s σ H vs us Q I r h;obtain⟨a,ns,rfl,hs,q⟩ :=h;obtain⟨its,rv,hl,_⟩ :=I.list hs;rw[Vals.ref1 r];exact fR (I.ok.hd hc) hl.isList rv.ints fun h' tk t' hk=> ⟨.int _,H,I.kept hk,⟨_,rfl⟩,q⟩
inductive rIndex(K:PySem.W.Frag)(x:V)(xs:List V)(H:Hp)(Q:VK):Prop|m:∀(a:Addr) (ys:List V) (y:V) (j:Nat) (z:V),x=V.ref a->xs= [y]->SqL K H a ys->flatV y=true->ys.all flatV=true->ys[j]? =some z->eqV z y=true->(∀(m:Nat) (z':V),m < j->ys[m]? =some z'->eqV z' y=false)->Q (.int (j:Nat)) H->rIndex K x xs H Q
theorem N5{ys:List V}(f:ys.all flatV=true){j:Nat}{z:V}(h:ys[j]? =some z):flatV z=true:=List.all_eq_true.mp f z (List.mem_of_getElem? h)
theorem U2:MtR X "list.index" (rIndex X.K):=by
 intro pins s σ H x xs v us Q I rx rxs h;obtain⟨a,ys,y,j,z,rfl,rfl,hs,fy,fys,hz,hzj,hno,q⟩ :=h;cases rx;cases rxs with
 |cons ry rt=>
  rename_i uy ut
  cases rt;obtain⟨its,rv,⟨⟨cls,dd,data,sl⟩,n,ho,hc,hdn,hd⟩,hlen⟩ :=I.list hs;simp only at hc hd;subst hc hd;obtain⟨u,hu,ru⟩ :=rv.get hz;obtain⟨hjl,hje⟩ :=List.getElem?_eq_some_iff.mp hu;have hvl:=rv.length;have hj:j < its.toArray.size:=by simpa using hjl
  have hsl:=sizeLine_eq;refine call_meets PySem.F.slot_list_index ⟨_,ho,rfl⟩ PySem.F.entry_list_index (PySem.F.args_list_index_2 _ _)
   (SeqAt.list_indexAt a its.toArray n dd sl uy (eqU y) j hj (by omega) ?_ ?_) ⟨ho,fun u' hu'=>E3 ry fy rv fys u' (by simpa using hu'),?_⟩
  ·have e1:its.toArray[j]=u:=by simpa using hje
   rw[e1,Lu ru (N5 fys hz)];exact hzj
  ·intro m hm hmj;have hml:m < its.length:=by simpa using hm
   have hmy:m < ys.length:=by omega
   have hy':ys[m]? =some ys[m]:=List.getElem?_eq_getElem hmy;obtain⟨u2,hu2,ru2⟩ :=rv.get hy';obtain⟨_,hme⟩ :=List.getElem?_eq_some_iff.mp hu2;have e1:its.toArray[m]=u2:=by simpa using hme
   rw[e1,Lu ru2 (N5 fys hy')];exact hno m _ hmj hy'
  ·exact⟨.int (j:Nat),H,I.tok _,⟨_,rfl⟩,q⟩
end
theorem bJ{prog:Program}{w:World}{A:Around}{E:Value->Shared->Prop}{s:Shared}{l:Addr}{items:Array Value}{Q:Value->Shared->Prop}(hl:s.heap.IsList l items)
  (h:∀s₂:Shared,s₂= {s with heap:=s.heap.push {cls:=.type "list_iterator",data:=.fields #[.ref l,.int 0 0]}}->
   (s₂.heap.IsListIter s.heap.objs.size l 0/\s₂.heap.IsList l items)->l≠s.heap.objs.size->Q (.ref s.heap.objs.size) s₂):wpAny (model prog w) A (pyIter (.ref l)) Q E s:=by
 have hlt:l < s.heap.objs.size:=by obtain⟨_,e,_⟩ :=hl;exact Heap.lt_size e
 exact wpAny_pyIter_list hl (h _ rfl ⟨⟨_,Heap.get?_push_size _ rfl,rfl,rfl⟩,hl.push _⟩ (Nat.ne_of_lt hlt))
theorem V9{prog:Program}{w:World}{A:Around}{bs:List Bool}{its:List Value}(e:its=bs.map Value.bool):
  TruthOf prog w A (fun i v=>its.toArray[i]? =some v) (fun i=>bs.getD i false):=fun i v s Q E hv hq=>by
 have hv':its[i]? =some v:=by simpa using hv
 rw[e,List.getElem?_map]at hv';obtain⟨b,hb,rfl⟩ :=Option.map_eq_some_iff.mp hv';have hg:bs.getD i false=b:=by rw[List.getD_eq_getElem?_getD,hb]<;>rfl
 have hq':Q (bs.getD i false) s:=hq;rw[hg]at hq';exact wpAny_truthy_bool hq'
theorem Rb:∀bs:List Bool,(List.range bs.length).all (fun i=>bs.getD i false)=bs.all id
 | []=>rfl
 |b::bs=>by
  rw[List.length_cons,List.range_succ_eq_map,List.all_cons,List.all_map,List.all_cons,<-Rb bs]
  all_goals rfl
section
variable {X:Cx}
inductive rAll(K:PySem.W.Frag)(vs:List V)(H:Hp)(Q:VK):Prop|m:∀(a:Addr) (bs:List Bool),vs= [V.ref a]->SqL K H a (bs.map V.bl)->Q (.bl (bs.all id)) H->rAll K vs H Q
theorem Sl(hc:X.calm=true):CallR X (.builtin "all") (rAll X.K):=by
 intro pins s σ H vs us Q I r h;obtain⟨a,bs,rfl,hs,q⟩ :=h;obtain⟨its,rv,hl,_⟩ :=I.list hs;rw[Vals.ref1 r];have hb:=rv.bls;refine call_all_walk (bJ hl.isList fun s₂ e2 st hne=>?_);subst e2;refine⟨_,_,_,_,_,_,_,rfl,Walks.list (A:=X.A.in1) (I.ok.hd hc) _ a hne its.toArray,st,V9 hb,fun h' tk hk=>?_⟩;refine⟨.bl _,H,I.kept fun b o eo=>hk b o (fun hmem=>?_) (Heap.get?_push_of_some _ eo),?_,q⟩
 ·rcases List.mem_cons.mp hmem with e1|hmem
  ·exact absurd (e1▸Heap.lt_size eo) (Nat.lt_irrefl _)
  ·cases hmem
 ·show Value.bool _=Value.bool _;rw[<-Rb,hb,List.size_toArray,List.length_map]
end
end L2
namespace L2
open PySem PySem.Spec PyProof.Rows
abbrev CellAt(h:Heap)(c:Addr)(v:Option Value):Prop:=h.IsCell c v
def relS(scope sc:Scope):Scope:=
 {scope with names:=scope.names.map fun(n,k)=>if (k == .free&&sc.kind == .function&&sc.names.lookup n == some .cell)then(n,.cell)else(n,k)}
def cloFrom(cells:List (Str×Addr)):List (Str×NameKind)->List (Str×Addr)->List (Str×Addr)
 | [],acc=>acc
 |(n,k)::r,acc=>if k == .free then cloFrom cells r ((n,(cells.lookup n).getD 0)::acc)else cloFrom cells r acc
theorem Km(env:Env)(f:Str×NameKind->List (Str×Addr)->Sem (ForInStep (List (Str×Addr))))
  (hf:∀n k c,f (n,k) c=if k == .free then(do let a<-cellOf env n;pure (.yield ((n,a)::c)))else pure (.yield c)):
  ∀(names:List (Str×NameKind)) (acc:List (Str×Addr)),(∀y∈names,y.2=.free->∃c,env.cells.lookup y.1=some c)->forIn names acc f=pure (cloFrom env.cells names acc)
 | [],acc,_=>by rw[List.forIn_nil];rfl
 |(n,k)::r,acc,h=>by
  rw[List.forIn_cons,hf];have ih:=fun acc=>Km env f hf r acc fun y hy=>h y (List.mem_cons_of_mem _ hy);unfold cloFrom;by_cases hk:(k == NameKind.free)=true
  ·rw[if_pos hk,if_pos hk];obtain⟨c,hc⟩ :=h (n,k) List.mem_cons_self (by simpa using hk);have e:cellOf env n=pure c:=by unfold cellOf;rw[hc]
   rw[e];have e2:(env.cells.lookup n).getD 0=c:=by rw[hc];rfl
   rw[e2];exact ih _
  ·rw[if_neg hk,if_neg hk];exact ih _
theorem Wq{scope:Scope}{env:Env}(h:∀y∈scope.names,y.2=.free->∃c,env.cells.lookup y.1=some c):closureFor scope env=pure (cloFrom env.cells scope.names []):=by
 simp only [closureFor];rw[Km env _ (fun n k c=>rfl) scope.names [] h];rfl
theorem J2{α:Type}:∀{l:List (Str×α)} {n:Str} {c:α},(n,c)∈l->∃c',l.lookup n=some c'
 |(k,v)::r,n,c,h=>by
  rw[List.lookup_cons];cases hb:n == k with
  |true=>exact⟨_,rfl⟩
  |false=>
   rcases List.mem_cons.mp h with e|h
   ·cases e;simp at hb
   ·exact J2 h
theorem Fc{cells:List (Str×Addr)}:∀{names:List (Str×NameKind)} {acc:List (Str×Addr)} {n:Str} {c:Addr},(n,c)∈cloFrom cells names acc->(n,c)∈acc∨((n,.free)∈names/\c=(cells.lookup n).getD 0)
 | [],_,_,_,h=>.inl h
 |(m,k)::r,acc,n,c,h=>by
  unfold cloFrom at h;split at h
  ·rename_i hk
   have hk:k=.free:=by simpa using hk
   rcases Fc h with h| ⟨h1,h2⟩
   ·rcases List.mem_cons.mp h with e|h
    ·cases e;exact .inr ⟨hk▸List.mem_cons_self,rfl⟩
    ·exact .inl h
   ·exact .inr ⟨List.mem_cons_of_mem _ h1,h2⟩
  ·rcases Fc h with h| ⟨h1,h2⟩
   ·exact .inl h
   ·exact .inr ⟨List.mem_cons_of_mem _ h1,h2⟩
theorem Hq{cells:List (Str×Addr)}:∀{names:List (Str×NameKind)} {acc:List (Str×Addr)} {p:Str×Addr},p∈acc->p∈cloFrom cells names acc
 | [],_,_,h=>h
 |(m,k)::r,acc,p,h=>by
  unfold cloFrom;split
  ·exact Hq (List.mem_cons_of_mem _ h)
  ·exact Hq h
theorem Hr{cells:List (Str×Addr)}:∀{names:List (Str×NameKind)} {acc:List (Str×Addr)} {n:Str},(n,.free)∈names->(n,(cells.lookup n).getD 0)∈cloFrom cells names acc
 |(m,k)::r,acc,n,h=>by
  unfold cloFrom;rcases List.mem_cons.mp h with e|h
  ·cases e;exact Hq List.mem_cons_self
  ·split
   ·exact Hr h
   ·exact Hr h
theorem Fv:∀{names:List (Str×NameKind)} {h:Heap} {acc:List (Str×Addr)} {x:Str} {c:Addr},(x,c)∈cellsFrom h.objs.size names acc->
  (x,c)∈acc∨((x,.cell)∈names/\h.objs.size<=c/\CellAt (pushCells h names) c none)
 | [],_,_,_,_,h=>.inl h
 |(n,k)::r,h,acc,x,c,hm=>by
  unfold cellsFrom at hm;unfold pushCells;split at hm
  ·rename_i hk
   rw[if_pos hk];have hk:k=.cell:=by simpa using hk
   rw[<-Heap.size_push h {cls:=.type "cell",data:=.cell none}]at hm;rcases Fv hm with hm| ⟨h1,h2,h3⟩
   ·rcases List.mem_cons.mp hm with e|hm
    ·cases e;exact .inr ⟨hk▸List.mem_cons_self,Nat.le_refl _,_,pushCells_keeps r _ _ _ (Heap.get?_push_size _ rfl),rfl⟩
    ·exact .inl hm
   ·rw[Heap.size_push]at h2;exact .inr ⟨List.mem_cons_of_mem _ h1,Nat.le_of_succ_le h2,h3⟩
  ·rename_i hk
   rw[if_neg hk];rcases Fv hm with hm| ⟨h1,h2,h3⟩
   ·exact .inl hm
   ·exact .inr ⟨List.mem_cons_of_mem _ h1,h2,h3⟩
theorem Jb:∀{names:List (Str×NameKind)} {n:Nat} {acc:List (Str×Addr)} {p:Str×Addr},p∈acc->p∈cellsFrom n names acc
 | [],_,_,_,h=>h
 |(m,k)::r,n,acc,p,h=>by
  unfold cellsFrom;split
  ·exact Jb (List.mem_cons_of_mem _ h)
  ·exact Jb h
theorem Lo:∀{names:List (Str×NameKind)} {n:Nat} {acc:List (Str×Addr)} {x:Str},(x,.cell)∈names->∃c,(x,c)∈cellsFrom n names acc
 |(m,k)::r,n,acc,x,h=>by
  unfold cellsFrom;rcases List.mem_cons.mp h with e|h
  ·cases e;exact⟨n,Jb List.mem_cons_self⟩
  ·split
   ·exact Lo h
   ·exact Lo h
theorem Lp:∀{names:List (Str×NameKind)} {h:Heap} {acc:List (Str×Addr)} {x y:Str} {c:Addr},(∀p∈acc,p.2 < h.objs.size)->(∀x y c,(x,c)∈acc->(y,c)∈acc->x=y)->
  (x,c)∈cellsFrom h.objs.size names acc->(y,c)∈cellsFrom h.objs.size names acc->x=y
 | [],_,_,_,_,_,_,hi,h1,h2=>hi _ _ _ h1 h2
 |(n,k)::r,h,acc,x,y,c,hl,hi,h1,h2=>by
  unfold cellsFrom at h1 h2;split at h1
  ·rename_i hk
   rw[if_pos hk]at h2;rw[<-Heap.size_push h {cls:=.type "cell",data:=.cell none}]at h1 h2;refine Lp (h:=h.push _) (fun p hp=>?_) (fun x y c a b=>?_) h1 h2
   ·rw[Heap.size_push];rcases List.mem_cons.mp hp with rfl|hp
    ·exact Nat.lt_succ_self _
    ·exact Nat.lt_succ_of_lt (hl p hp)
   ·rcases List.mem_cons.mp a with e|a<;>rcases List.mem_cons.mp b with e'|b
    ·cases e;cases e';rfl
    ·cases e;exact absurd (hl _ b) (Nat.lt_irrefl _)
    ·cases e';exact absurd (hl _ a) (Nat.lt_irrefl _)
    ·exact hi _ _ _ a b
  ·rename_i hk
   rw[if_neg hk]at h2;exact Lp hl hi h1 h2
theorem U3{M:Model}{A:Around}{E:Value->Shared->Prop}{s:Shared}{scope:Scope}{globals:Addr}{closure:List (Str×Addr)}{qual:Str}{func:Option Addr}{code:Value}{around:Env}{builtins:Addr}{Q:Env->Shared->Prop}
  (h:Q (newEnv scope s.heap.objs.size globals (cellsFrom (s.heap.objs.size + 1) scope.names closure) qual func code (some around) builtins)
   {s with heap:=pushCells (s.heap.push {cls:=.type "dict",data:=.dict #[]}) scope.names}):
  wpAny M A (newFunctionEnv scope globals closure [] qual func code (some around) builtins) Q E s:=by
 simp only [newFunctionEnv,Option.isSome_some,if_true];refine wpAny_bind (wpAny_alloc ?_);refine wpAny_bind (wpAny_layCells _ (fun n k c=>rfl) scope.names closure _ _ ?_);rw[show({s with heap:=s.heap.push {cls:=.type "dict",data:=.dict #[]}}:Shared).heap.objs.size=s.heap.objs.size + 1 from Heap.size_push ..];rw[List.forIn_nil];exact wpAny_bind (wpAny_pure (wpAny_pure h))
theorem Hw{sc:Scope}:∀{names:List (Str×NameKind)} {x:Str} {k:NameKind},
  (names.map fun(n,k)=>if (k == NameKind.free&&sc.kind == .function&&sc.names.lookup n == some .cell)then(n,NameKind.cell)else(n,k)).lookup x=some k->
  ∃k',names.lookup x=some k'/\(k=k'∨(k'=.free/\k=.cell))
 | [],_,_,h=>by simp at h
 |(n,k₀)::r,x,k,h=>by
  have ih:=@Hw sc r x k;have h':List.lookup x ((if (k₀ == NameKind.free&&sc.kind == .function&&sc.names.lookup n == some .cell)=true then(n,NameKind.cell)else(n,k₀))::(r.map _))=some k:=h;cases hx:x == n with
  |true=>
   simp only [List.lookup_cons,hx];by_cases hc:(k₀ == NameKind.free&&sc.kind == .function&&sc.names.lookup n == some .cell)=true
   ·rw[if_pos hc]at h';simp only [List.lookup_cons,hx]at h';cases h';simp only [Bool.and_eq_true,beq_iff_eq]at hc;exact⟨k₀,rfl,.inr ⟨hc.1.1,rfl⟩⟩
   ·rw[if_neg hc]at h';simp only [List.lookup_cons,hx]at h';cases h';exact⟨_,rfl,.inl rfl⟩
  |false=>
   simp only [List.lookup_cons,hx];by_cases hc:(k₀ == NameKind.free&&sc.kind == .function&&sc.names.lookup n == some .cell)=true
   ·rw[if_pos hc]at h';simp only [List.lookup_cons,hx]at h';exact ih h'
   ·rw[if_neg hc]at h';simp only [List.lookup_cons,hx]at h';exact ih h'
structure BlkOk(N:List Str)(sc scope:Scope)(own:List (Str×Nat)):Prop where
 kind:scope.kind=.function
 uniq:∀y∈scope.names,scope.names.lookup y.1=some y.2
 ix:∀p∈own,N[p.2]? =some p.1
 free:∀y∈scope.names,y.2=.free->sc.names.lookup y.1=some .cell∨sc.names.lookup y.1=some .free
 own:∀y∈scope.names,y.2=.local∨y.2=.cell->y.1∈own.map (·.1)∨y.1∉N
def wipe(σ:St):List Nat->St
 | []=>σ
 |v::vs=>(wipe σ vs).set v none
theorem Ja(σ:St):∀vs:List Nat,(wipe σ vs).length=σ.length
 | []=>rfl
 |v::vs=>by unfold wipe;rw[List.length_set,Ja σ vs]
theorem Mh{σ:St}{i:Nat}{x:V}:∀{vs:List Nat},(wipe σ vs)[i]? =some (some x)->σ[i]? =some (some x)/\i∉vs
 | [],h=> ⟨h,by simp⟩
 |v::vs,h=>by
  unfold wipe at h;by_cases hi:v=i
  ·subst hi;by_cases hv:v < (wipe σ vs).length
   ·rw[List.getElem?_set_self hv]at h;cases h
   ·rw[List.getElem?_eq_none (by simpa using hv)]at h;cases h
  ·rw[List.getElem?_set_ne hi]at h;obtain⟨h1,h2⟩ :=Mh h;exact⟨h1,by simp only [List.mem_cons,not_or];exact⟨fun e=>hi e.symm,h2⟩⟩
abbrev Cx.blk(X:Cx)(s:Shared)(H:Hp)(scope:Scope)(cenv:Env)(fp:List Addr):Cx:={X with s_0:=s,H_0:=H,env:=cenv,outer:=X.stack,ex:=fp,fn:=fun x=>scope.names.lookup x == some .cell,pn:=[],xe:=fun _ _=>False}
section
variable {X:Cx}{pins:List (Addr×Obj)}{σ:St}{H:Hp}{s:Shared}
theorem Uc{scope:Scope}{own:List (Str×Nat)}{fp:List Addr}(I:Inv X pins σ H s)(ok:BlkOk X.N X.env.scope scope own)(hN:X.N.Nodup)(hfp:∀b∈fp,FpOk X pins H b/\b < s.heap.objs.size):
  Inv (X.blk s H scope (compEnvC scope (cellsFrom (s.heap.objs.size + 1) scope.names (cloFrom X.env.cells scope.names [])) s.heap.objs.size X.env) fp) [] (wipe σ (own.map (·.2))) H {s with heap:=pushCells (s.heap.push {cls:=.type "dict",data:=.dict #[]}) scope.names}:=by
 have hfree:∀y∈scope.names,y.2=.free->∃c,X.env.cells.lookup y.1=some c:=fun y hy e=>by
  rcases ok.free y hy e with k|k
  ·exact I.ok.has _ (.inl k)
  ·exact I.ok.has _ (.inr k)
 generalize hcenv:compEnvC scope (cellsFrom (s.heap.objs.size + 1) scope.names (cloFrom X.env.cells scope.names [])) s.heap.objs.size X.env=cenv;have kp:∀b o,s.heap.get? b=some o->(pushCells (s.heap.push {cls:=.type "dict",data:=.dict #[]}) scope.names).get? b=some o:=fun b o e=>pushCells_keeps _ _ _ _ (Heap.get?_push_of_some _ e);have hL:cenv.locals=s.heap.objs.size:=by rw[<-hcenv];rfl
 have hcl:cenv.cells=cellsFrom (s.heap.objs.size + 1) scope.names (cloFrom X.env.cells scope.names []):=by rw[<-hcenv];rfl
 have hsc:cenv.scope=relS scope X.env.scope:=by rw[<-hcenv];rfl
 rw[<-Heap.size_push s.heap {cls:=.type "dict",data:=.dict #[]}]at hcl;have cm:∀{y c},(y,c)∈cloFrom X.env.cells scope.names []->X.env.cells.lookup y=some c/\c < s.heap.objs.size:=fun{y c} hm=>by
  rcases Fc hm with hm| ⟨h1,rfl⟩
  ·cases hm
  ·obtain⟨c,hc⟩ :=hfree _ h1 rfl;rw[hc];obtain⟨w,z⟩ :=I.cell _ _ hc;exact⟨rfl,z.lt⟩
 have mem:∀{y c},cenv.cells.lookup y=some c->(X.env.cells.lookup y=some c/\c < s.heap.objs.size)∨(s.heap.objs.size + 1<=c/\CellAt (pushCells (s.heap.push {cls:=.type "dict",data:=.dict #[]}) scope.names) c none):=fun{y c} e=>by
  rw[hcl]at e;rcases Fv (PySem.mem_of_lookup e)with hm| ⟨_,h2,h3⟩
  ·exact .inl (cm hm)
  ·rw[Heap.size_push]at h2;exact .inr ⟨h2,h3⟩
 have look:∀{y},scope.names.lookup y=some .free->∃c,cenv.cells.lookup y=some c/\X.env.cells.lookup y=some c:=fun{y} hl=>by
  have hy:(y,NameKind.free)∈scope.names:=PySem.mem_of_lookup hl;obtain⟨c',e'⟩ :=J2 (Jb (names:=scope.names) (n:=(s.heap.push {cls:=.type "dict",data:=.dict #[]}).objs.size) (Hr (cells:=X.env.cells) (acc:=[]) hy));rw[<-hcl]at e';refine⟨c',e',?_⟩;rw[hcl]at e';rcases Fv (PySem.mem_of_lookup e')with hm| ⟨h1,_,_⟩
  ·exact(cm hm).1
  ·have:=ok.uniq _ h1;rw[hl]at this;cases this
 have okB:(X.blk s H scope cenv fp).Ok:=by
  refine⟨I.ok.mod,by show cenv.scope.kind=_;rw[hsc];exact ok.kind,by show cenv.globals=_;rw[<-hcenv];exact I.ok.glob,by show cenv.builtins=_;rw[<-hcenv];exact I.ok.blt,by show s.heap.objs.size<=cenv.locals;rw[hL];exact Nat.le_refl _,
   fun y z c e1 e2=>?_,fun y hy=>?_,fun y c z e=>?_,I.ok.hd,I.ok.frames,.inl rfl,fun b hb=> ⟨?_,fun y c e z=>?_⟩,I.bs,Nat.le_trans I.ok.bsz I.sz,fun b o e hb=>?_,fun b hb z=>?_,I.stack,I.stkFree⟩
  ·have e1:cenv.cells.lookup y=some c:=e1;have e2:cenv.cells.lookup z=some c:=e2;rw[hcl]at e1 e2;refine Lp (fun p hp=>?_) (fun y z c a b=>I.ok.inj y z c (cm a).1 (cm b).1) (PySem.mem_of_lookup e1) (PySem.mem_of_lookup e2);rw[Heap.size_push];exact Nat.lt_succ_of_lt (cm (y:=p.1) (c:=p.2) hp).2
  ·show∃c,cenv.cells.lookup y=some c;have key:∀k,cenv.kindOf y=some k->(k=.cell∨k=.free)->∃c,cenv.cells.lookup y=some c:=fun k hk hk'=>by
    unfold Env.kindOf at hk;rw[hsc]at hk;obtain⟨k',e,r⟩ :=Hw hk;have:k'=.cell∨k'=.free:=by
     rcases r with rfl| ⟨rfl,_⟩
     ·exact hk'
     ·exact .inr rfl
    rcases this with rfl|rfl
    ·obtain⟨c,hm⟩ :=Lo (n:=(s.heap.push {cls:=.type "dict",data:=.dict #[]}).objs.size) (acc:=cloFrom X.env.cells scope.names []) (PySem.mem_of_lookup e);obtain⟨c',e'⟩ :=J2 hm;exact⟨c',by rw[hcl];exact e'⟩
    ·obtain⟨c,h1,_⟩ :=look e;exact⟨c,h1⟩
   rcases hy with hy|hy
   ·exact key _ hy (.inl rfl)
   ·exact key _ hy (.inr rfl)
  ·have z:(scope.names.lookup y == some NameKind.cell)=true:=z;have z:scope.names.lookup y=some .cell:=by simpa using z
   have e:cenv.cells.lookup y=some c:=e;rw[hcl]at e;rcases Fv (PySem.mem_of_lookup e)with hm| ⟨_,h2,_⟩
   ·rcases Fc hm with hm| ⟨h1,_⟩
    ·cases hm
    ·have q:=ok.uniq _ h1;rw[z]at q;cases q
   ·rw[Heap.size_push]at h2;exact Nat.le_of_succ_le h2
  ·show b≠cenv.locals;rw[hL];exact Nat.ne_of_lt (hfp b hb).2
  ·have e:cenv.cells.lookup y=some c:=e;rcases mem e with⟨h1,_⟩ | ⟨h1,_⟩
   ·exact(hfp b hb).1.2.2.2.2.1 y c h1 z
   ·have h2:s.heap.objs.size + 1<=b:=by rw[<-z];exact h1
    exact absurd (Nat.lt_of_lt_of_le (hfp b hb).2 (Nat.le_of_succ_le h2)) (Nat.lt_irrefl _)
  ·rcases (hfp b hb).1.2.2.2.1 with z|z
   ·exact I.ok.noex b o e z
   ·exact absurd (Nat.lt_of_lt_of_le (Heap.lt_size e) (Nat.le_trans I.ok.bsz z)) (Nat.lt_irrefl _)
  ·rcases List.mem_cons.mp (I.stkSub b z)with z|z
   ·exact(hfp b hb).1.2.1 z
   ·exact(hfp b hb).1.2.2.1 z
 refine⟨okB,rfl,I.bare,Un.kept kp,⟨fun _=>none,?_,fun i y av e1 e2 e3=>?_⟩,fun y c e=>?_,?_,fun y c e=>?_,fun p hp=>?_,I.hok.kept kp,by rw[Ja];exact I.len⟩
 ·show Heap.Ns _ cenv.locals _;rw[hL];exact Heap.Ns.keeps (Heap.Ns.new ..) fun b o e=>pushCells_keeps _ _ _ _ e
 ·obtain⟨e2,hne⟩ :=Mh e2;have hfr:scope.names.lookup y=some .free/\(cenv.kindOf y=some .cell∨cenv.kindOf y=some .free):=by
   have key:∀k,cenv.scope.names.lookup y=some k->k=.local∨k=.cell∨k=.free->scope.names.lookup y=some .free/\(cenv.kindOf y=some .cell∨cenv.kindOf y=some .free):=fun k hk hk'=>by
    have hk0:=hk;rw[hsc]at hk;obtain⟨k',e,r⟩ :=Hw hk;have no:¬(k'=.local∨k'=.cell):=fun hh=>by
     rcases ok.own _ (PySem.mem_of_lookup e) hh with e'|e'
     ·obtain⟨p,hp,hpy⟩ :=List.mem_map.mp e';have e3:=ok.ix p hp;have:p.1=y:=hpy;rw[this]at e3;exact hne (List.mem_map.mpr ⟨p,hp,Pa hN e3 e1⟩)
     ·exact e' (List.mem_of_getElem? e1)
    rcases r with rfl| ⟨rfl,rfl⟩
    ·rcases hk' with rfl|rfl|rfl
     ·exact absurd (.inl rfl) no
     ·exact absurd (.inr rfl) no
     ·exact⟨e,.inr hk0⟩
    ·exact⟨e,.inl hk0⟩
   have e3:Vis cenv.scope y:=e3;rcases e3 with e3|e3|e3
   ·exact key _ e3 (.inl rfl)
   ·exact key _ e3 (.inr (.inl rfl))
   ·exact key _ e3 (.inr (.inr rfl))
  obtain⟨m,hn,hl⟩ :=I.loc;have hvis:Vis X.env.scope y:=(ok.free _ (PySem.mem_of_lookup hfr.1) rfl).elim (fun k=>.inr (.inl k)) (fun k=>.inr (.inr k));obtain⟨w,r,q⟩ :=hl i y av e1 e2 hvis;refine⟨w,r,.inr ⟨hfr.2,?_⟩⟩;obtain⟨c,h1,h2⟩ :=look hfr.1;rcases q with⟨k,_⟩ | ⟨_,c',e',z⟩
  ·have k:X.env.scope.names.lookup y=some .local:=k;rcases ok.free _ (PySem.mem_of_lookup hfr.1) rfl with k'|k'<;>rw[show X.env.scope.names.lookup y=_ from k']at k<;>cases k
  ·rw[h2]at e';cases e';exact⟨c,h1,z.keeps kp⟩
 ·have e:cenv.cells.lookup y=some c:=e;rcases mem e with⟨h1,_⟩ | ⟨_,z⟩
  ·obtain⟨w,z⟩ :=I.cell y c h1;exact⟨w,z.keeps kp⟩
  ·exact⟨_,z⟩
 ·show H cenv.locals=none;rw[hL];exact I.hok.fresh (Nat.le_refl _)
 ·have e:cenv.cells.lookup y=some c:=e;rcases mem e with⟨h1,_⟩ | ⟨h1,_⟩
  ·exact I.freeC y c h1
  ·exact I.hok.fresh (Nat.le_of_succ_le h1)
 ·exact absurd (show p∈([]:List (Addr×Obj))++[] from hp) (by simp)
theorem gH{E:Value->Shared->Prop}{D:Addr}{xs:List V}{y:V}{v:Value}{Q:Value->Shared->Prop}(I:Inv X pins σ H s)(hD:H D=some (.lst xs))(hz:xs.length < sizeLine)(r:RelV y v)
  (h:∀s',Inv X pins σ (upd H D (.lst (xs++[y]))) s'->Q .none s'):wpAny (model X.prog X.w) X.A (call (.builtin "list.append") [.ref D,v]) Q E s:=by
 obtain⟨hz',its,n,ri,e⟩ :=I.hok D _ hD;have hl:=ri.length;refine append_at (hsz:=by rw[List.size_toArray];omega) e fun h' sb ho'=>?_;refine h {s with heap:=h'} (I.write (t':=s.toks) (by rw[hD];trivial) (.inl rfl) (fun b u hb q=>(sb.2 b hb).trans q) ⟨_,ho'⟩ ⟨by rw[List.length_append];exact hz,its++[v],n + 1,ri.append (.cons r .nil),?_⟩);rw[ho'];simp
def PTs(X:Cx)(ifs:List Expr)(t:TT):Prop:=
 ∀(pins:List (Addr×Obj)) (s:Shared) (σ:St) (H:Hp) (Q:Bool->Hp->Prop),Inv X pins σ H s->t σ H Q->
  wpAny (model X.prog X.w) X.A (forIn ifs true fun c r=>if r=true then do let ok<-isTrue c X.env (eval c X.env);pure (ForInStep.yield ok)else pure (ForInStep.yield r)) (TP X pins σ Q) X.xe s
def tYes:TT:=fun _ H Q=>Q true H
theorem A6:PTs X [] tYes:=fun _ _ _ H _ I h=>wpAny_tests_nil ⟨H,I,h⟩
theorem Jk{c:Expr}{t:TT}(h:PT X c t):PTs X [c] t:=fun pins s σ H Q I hw=>wpAny_tests_one (h pins s σ H Q I hw)
end
theorem thnF{α:Type}{t:Sem α}{Q Q':α->Shared->Prop}{M:Model}{A:Around}{E:Value->Shared->Prop}{s:Shared}(h:wpAny M A t Q (fun _ _=>False) s)(hQ:∀a s,Q a s->Q' a s):wpAny M A t Q' E s:=wpAny_mono h hQ fun _ _ z=>False.elim z
theorem Sk{prog:Program}{w:World}{A:Around}{R:Result->Shared->Prop}{s:Shared}{elt target iter:Expr}{ifs:List Expr}{scope:Scope}{pos:Pos}{it acc:Value}{env:Env}(I:Nat->Shared->Prop)
  (turn:∀n s,I n s->wpAny (model prog w) A (pyNext it) (fun r s₁=>match r with
   |none=>R (.ok .next) s₁
   |some v=>wpAny (model prog w) A (letOwnedTupleGo target it v) (fun _ s₁'=>wpAny (model prog w) A (assign target env v) (fun _ s₂=>
     wpAny (model prog w) A (forIn ifs true fun c r=>if r=true then do let ok<-isTrue c env (eval c env);pure (ForInStep.yield ok)else pure (ForInStep.yield r)) (fun ok s₃=>
      if ok=true then wpAny (model prog w) A (eval elt env) (fun x s₄=>
       wpAny (model prog w) A (call (.builtin "list.append") [acc,x]) (fun _ s₅=>∃m,m < n/\I m s₅) (notedBy (model prog w) A env fun e s'=>R (.error e) s') s₄) (notedBy (model prog w) A env fun e s'=>R (.error e) s') s₃
      else∃m,m < n/\I m s₃) (notedBy (model prog w) A env fun e s'=>R (.error e) s') s₂) (notedBy (model prog w) A env fun e s'=>R (.error e) s') s₁') (notedBy (model prog w) A env fun e s'=>R (.error e) s') s₁) (notedBy (model prog w) A env fun e s'=>R (.error e) s') s)
  (n:Nat) (h:I n s):
  codeAny (model prog w) A (.compLoop (.ListComp elt [⟨target,iter,ifs,0⟩] scope pos) 0 it acc env) R s:=by
 refine codeAny_loop rfl I (fun n s hI=>?_) n h;show wpAny _ A ((compTurn (.ListComp elt [⟨target,iter,ifs,0⟩] scope pos) 0 it acc env).onRaise (fun x=>do noteFrame x env;theTreesLotGoes x)) _ _ s;refine wpAny_noted ?_;rw[compTurn_list];refine wpAny_bind (wpAny_standAt (wpAny_bind (wpAny_mono (turn n s hI) (fun r s₁ h₁=>?_) fun _ _ h'=>h')));cases r with
 |none=>exact wpAny_pure h₁
 |some v=>
  refine wpAny_bind (wpAny_mono h₁ (fun _ s₁' h₁'=>?_) fun _ _ h'=>h');refine wpAny_bind (wpAny_mono h₁' (fun _ s₂ h₂=>wpAny_bind (wpAny_mono h₂ (fun ok s₃ h₃=>?_) fun _ _ h'=>h')) fun _ _ h'=>h');cases ok with
  |false=>exact wpAny_pure ⟨rfl,h₃⟩
  |true=>
   exact wpAny_bind (wpAny_bind (wpAny_mono h₃ (fun x s₄ h₄=>wpAny_bind (wpAny_mono h₄ (fun _ s₅ h₅=>wpAny_pure (wpAny_pure ⟨rfl,h₅⟩)) fun _ _ h'=>h')) fun _ _ h'=>h'))
section
variable {X:Cx}
def tLc(wi:TI)(g:TG)(tt:TT)(te:TE)(vs:List Nat):TE:=fun σ H Q=>wi σ H fun J H1=>∀D,H1 D=none->∃W:Nat->Nat->Hp->Prop,(∃m,W 0 m (upd H1 D (.lst [])))/\∀i m H,W i m H->
 (J.stop i H/\Q (.ref D) H)∨(J.go i H/\∃Nx:Hp->Prop,(∀H',Nx H'->∃m',m' < m/\W (i + 1) m' H')/\∀x H',J.yld i H x H'->g x (wipe σ vs) H' fun σ2 H2=>wipe σ2 vs=wipe σ vs/\tt σ2 H2 fun b H3=>
  if b=true then te σ2 H3 fun y H4=>∃acc,H4 D=some (.lst acc)/\acc.length < sizeLine/\Nx (upd H4 D (.lst (acc++[y])))else Nx H3)
theorem Yp{pins:List (Addr×Obj)}{s:Shared}{σ:St}{H:Hp}{Q:VK}{elt tg iter:Expr}{ifs:List Expr}{scope:Scope}{own:List (Str×Nat)}{pos pos':Pos}{wi:TI}{g:TG}{tt:TT}{te:TE}{use:Option (Value->Sem Unit)}{Qf:Value->Shared->Prop}
  (hc:X.calm=true) (hN:X.N.Nodup) (I:Inv X pins σ H s) (hi:PI X tg iter wi) (ok:BlkOk X.N X.env.scope scope own)
  (hg:∀(s:Shared) (H:Hp) (C:Addr) (cl:List (Str×Addr)) (fp:List Addr),PG (X.blk s H scope (compEnvC scope cl C X.env) fp) tg g) (ht:∀(s:Shared) (H:Hp) (C:Addr) (cl:List (Str×Addr)) (fp:List Addr),PTs (X.blk s H scope (compEnvC scope cl C X.env) fp) ifs tt)
  (he:∀(s:Shared) (H:Hp) (C:Addr) (cl:List (Str×Addr)) (fp:List Addr),PE (X.blk s H scope (compEnvC scope cl C X.env) fp) elt te) (hs:∀x,foldedSetIterable iter X.env x=pure x)
  (h:tLc wi g tt te (own.map (·.2)) σ H Q)
  (hRR:∀D C s' m H',Inv X pins σ H' s'->Q (.ref D) H'->s'.heap.Ns C m->FpOk X pins H' C->compPost (model X.prog X.w) X.A X.xe use Qf (.ref D) C (.ok .next) s'):
  wpAny (model X.prog X.w) X.A (comprehension (.ListComp elt [⟨tg,iter,ifs,0⟩] scope pos) scope X.env pos' (newList []) false (eval iter X.env) use) Qf X.xe s:=by
 have hfree:∀y∈scope.names,y.2=.free->∃c,X.env.cells.lookup y.1=some c:=fun y hy e=>by
  rcases ok.free y hy e with k|k
  ·exact I.ok.has _ (.inl k)
  ·exact I.ok.has _ (.inr k)
 refine wpAny_comprehension_free (use:=use) rfl hs (Wq hfree) ok.kind (fun y hy e=>by rw[ok.uniq y hy,e])
  (thn (hi pins s σ H _ I h) fun xv s1 hx=>thn hx fun itv s2 h2=>?_)
 obtain⟨it,fp,tn,J,H2,e,I2,T,st2,f2,q⟩ :=h2;subst e;refine wpAny_newObj_type (U3 ?_) (by show 0<=sizeLine;decide);generalize hD:s2.heap.objs.size=D;have hDn:H2 D=none:=I2.hok.fresh (Nat.le_of_eq hD);obtain⟨W,⟨m0,w0⟩,turn⟩ :=q D hDn;generalize hs3:({s2 with heap:=s2.heap.push {cls:=.type "list",data:=.seq ([]:List Value).toArray}}:Shared)=s3;have I3:Inv X pins σ (upd H2 D (.lst [])) s3:=by
  rw[<-hs3];refine I2.laid (t':=s2.toks) (fun b o e=>Heap.get?_push_of_some _ e) (Nat.le_of_eq hD) ⟨Nat.zero_le _,[],0,.nil,?_⟩;rw[<-hD];exact Heap.get?_push_size _ rfl
 have h3:s3.heap=s2.heap.push {cls:=.type "list",data:=.seq ([]:List Value).toArray}:=by rw[<-hs3]
 have sz:∀b∈fp,b < s2.heap.objs.size:=fun b hb=>by
  obtain⟨o,e,_⟩ :=T.obj _ _ st2 b hb;exact Heap.lt_size e
 have f3:∀b∈fp,FpOk X pins (upd H2 D (.lst [])) b/\b < s3.heap.objs.size:=fun b hb=>by
  have hlt:=sz b hb;refine⟨⟨?_,(f2 b hb).2⟩,by rw[h3,Heap.size_push];exact Nat.lt_succ_of_lt hlt⟩;rw[Ak (by rw[<-hD];exact Nat.ne_of_lt hlt)];exact(f2 b hb).1
 have st3:tn 0 s3.heap:=T.keep _ _ _ st2 fun b _ o e=>by rw[h3];exact Heap.get?_push_of_some _ e
 have I4:=Uc I3 ok hN f3;have pg:=hg s3 (upd H2 D (.lst [])) s3.heap.objs.size (cellsFrom (s3.heap.objs.size + 1) scope.names (cloFrom X.env.cells scope.names [])) fp;have pt:=ht s3 (upd H2 D (.lst [])) s3.heap.objs.size (cellsFrom (s3.heap.objs.size + 1) scope.names (cloFrom X.env.cells scope.names [])) fp;have pe:=he s3 (upd H2 D (.lst [])) s3.heap.objs.size (cellsFrom (s3.heap.objs.size + 1) scope.names (cloFrom X.env.cells scope.names [])) fp;show codeAny _ _ (.compStart (.ListComp elt [⟨tg,iter,ifs,0⟩] scope pos) 0 (.ref it) (.ref D) (compEnvC scope (cellsFrom (s3.heap.objs.size + 1) scope.names (cloFrom X.env.cells scope.names [])) s3.heap.objs.size X.env)) (compPost (model X.prog X.w) X.A X.xe use Qf (.ref D) s3.heap.objs.size) {s3 with heap:=pushCells (s3.heap.push {cls:=.type "dict",data:=.dict #[]}) scope.names};have nfp:∀b∈fp,(upd H2 D (.lst [])) b=none:=fun b hb=>(f3 b hb).1.1;generalize hce:compEnvC scope (cellsFrom (s3.heap.objs.size + 1) scope.names (cloFrom X.env.cells scope.names [])) s3.heap.objs.size X.env=ce at I4 pg pt pe⊢;have cL:ce.locals=s3.heap.objs.size:=by subst hce;rfl
 generalize hH3:upd H2 D (.lst [])=H3 at I3 I4 pg pt pe w0 nfp f3;generalize hs4:({s3 with heap:=pushCells (s3.heap.push {cls:=.type "dict",data:=.dict #[]}) scope.names}:Shared)=s4 at I4⊢;have st4:tn 0 s4.heap:=T.keep _ _ _ st3 fun b _ o e=>by rw[<-hs4];exact pushCells_keeps _ _ _ _ (Heap.get?_push_of_some _ e)
 have stat:∀{σ':St} {H':Hp} {s':Shared},Inv (X.blk s3 H3 scope ce fp) [] σ' H' s'->(∀b∈fp,H' b=none)->∀b∈fp,FpOk (X.blk s3 H3 scope ce fp) [] H' b:=fun{σ' H' s'} I' hn b hb=>
  ⟨hn b hb,(I'.ok.exf b hb).1,I'.ok.exfs b hb,.inl hb,fun x c e=>(I'.ok.exf b hb).2 x c e,fun p hp=>absurd (show p∈([]:List (Addr×Obj))++[] from hp) (by simp)⟩
 have loop:codeAny (model X.prog X.w) X.A (.compLoop (.ListComp elt [⟨tg,iter,ifs,0⟩] scope pos) 0 (.ref it) (.ref D) ce) (compPost (model X.prog X.w) X.A X.xe use Qf (.ref D) s3.heap.objs.size) s4:=by
  refine Sk (fun n s'=>∃i H',Inv (X.blk s3 H3 scope ce fp) [] (wipe σ (own.map (·.2))) H' s'/\tn i s'.heap/\(∀b∈fp,H' b=none)/\W i n H') ?_ m0 ⟨0,H3,I4,st4,nfp,w0⟩;rintro n s5 ⟨i,H5,I5,st5,n5,w5⟩;rcases turn i n H5 w5 with⟨stop,qq⟩ | ⟨go,Nx,hNx,step⟩
  ·have td:=T.done (X.blk s3 H3 scope ce fp) rfl rfl rfl hc i [] s5 _ H5 (fun _ _=>False) I5 (stat I5 n5) st5 stop;refine thnF td fun r s6 ⟨hr,I6⟩ =>?_;subst hr;have I7:Inv X pins σ H5 s6:=I3.call' (ch:=fp) I6.os I6.base I6.hok I6.bare fun b hb=> ⟨(f3 b hb).1.2.2.2.1,(f3 b hb).1.2.1,(f3 b hb).1.2.2.2.2.1,(f3 b hb).1.2.2.2.2.2⟩;have nC:H5 s3.heap.objs.size=none:=by
    have z:H5 ce.locals=none:=I6.free;rw[cL]at z;exact z
   obtain⟨m,hn,_⟩ :=I6.loc;have hn:s6.heap.Ns ce.locals m:=hn;rw[cL]at hn;exact hRR D s3.heap.objs.size s6 m H5 I7 qq hn (I3.fpOk (Nat.le_refl _) nC)
  ·have ti:=T.item (X.blk s3 H3 scope ce fp) rfl rfl rfl hc i [] s5 _ H5 (fun _ _=>False) I5 (stat I5 n5) st5 go;refine thnF ti fun r s6 ⟨u,hr,h6⟩ =>?_;subst hr;refine thnF h6 fun _ s7 ⟨x,H7,I7,r7,y7,st7,n7⟩ =>?_;have I7':=I7.pinned (stat I7 n7) (T.obj _ _ st7);refine thnF (pg _ s7 _ H7 x u _ I7' r7 (step x H7 y7)) fun _ s8 ⟨σ8,H8,I8,hw8,q8⟩ =>?_;refine thnF (pt _ s8 σ8 H8 _ I8 q8) fun b s9 ⟨H9,I9,q9⟩ =>?_;have fin:∀{s':Shared} {H':Hp},Inv (X.blk s3 H3 scope ce fp) ([]++pinsAt fp s7.heap) σ8 H' s'->Nx H'->∃m,m < n/\∃i H',Inv (X.blk s3 H3 scope ce fp) [] (wipe σ (own.map (·.2))) H' s'/\tn i s'.heap/\(∀b∈fp,H' b=none)/\W i m H':=fun{s' H'} I' nx=>by
    obtain⟨m',hm,w'⟩ :=hNx H' nx;have pin':∀b∈fp,∀o,s7.heap.get? b=some o->s'.heap.get? b=some o/\H' b=none:=fun b hb o e=>
     let z:=I'.pin (b,o) (List.mem_append_right _ (List.mem_append_right _ (J3 hb e)))
     ⟨z.1,z.2.1⟩
    have hl:(wipe σ (own.map (·.2))).length=σ8.length:=by rw[<-hw8,Ja]
    refine⟨m',hm,i + 1,H',(I'.unpinned (pins:=[])).weak hl (fun j v e=>?_),T.keep _ _ _ st7 fun b hb o e=>(pin' b hb o e).1,fun b hb=>?_,w'⟩
    ·rw[<-hw8]at e;exact(Mh e).1
    ·obtain⟨o,e,_⟩ :=T.obj _ _ st7 b hb;exact(pin' b hb o e).2
   cases b with
   |false=>
    simp only [Bool.false_eq_true,if_false]at q9⊢;exact fin I9 q9
   |true=>
    simp only [if_true]at q9⊢;refine thnF (pe _ s9 σ8 H9 _ I9 q9) fun z s10 ⟨yv,H10,I10,r10,acc,hD10,hz10,nx⟩ =>?_;exact gH (X:=X.blk s3 H3 scope ce fp) I10 hD10 hz10 r10 fun s11 I11=>fin I11 nx
 exact codeAny_compStart_list loop (T.self X.A 0 _ _ _ st4 loop)
theorem Co{elt tg iter:Expr}{ifs:List Expr}{scope:Scope}{own:List (Str×Nat)}{pos:Pos}{wi:TI}{g:TG}{tt:TT}{te:TE}(hc:X.calm=true)(hN:X.N.Nodup)(hi:PI X tg iter wi)(ok:BlkOk X.N X.env.scope scope own)
  (hg:∀(s:Shared) (H:Hp) (C:Addr) (cl:List (Str×Addr)) (fp:List Addr),PG (X.blk s H scope (compEnvC scope cl C X.env) fp) tg g) (ht:∀(s:Shared) (H:Hp) (C:Addr) (cl:List (Str×Addr)) (fp:List Addr),PTs (X.blk s H scope (compEnvC scope cl C X.env) fp) ifs tt)
  (he:∀(s:Shared) (H:Hp) (C:Addr) (cl:List (Str×Addr)) (fp:List Addr),PE (X.blk s H scope (compEnvC scope cl C X.env) fp) elt te) (hs:∀x,foldedSetIterable iter X.env x=pure x:=by intro _;rfl):
  PE X (.ListComp elt [⟨tg,iter,ifs,0⟩] scope pos) (tLc wi g tt te (own.map (·.2))):=by
 intro pins s σ H Q I h;rw[eval_ListComp];refine Yp hc hN I hi ok hg ht he hs h fun D C s' m H' I' q hn f=> ⟨m,hn,fun h'' sb=>?_⟩;obtain⟨f0,f1,f2,f3,f4,f5⟩ :=f;exact⟨.ref D,H',I'.turned (t':=s'.toks) (fun b o hb e=>(sb.2 b hb).trans e) f0 f1 f3 f4 f5,rfl,q⟩
theorem Cs{i:Nat}{y:Str}{py:Pos}{elt tg iter:Expr}{ifs:List Expr}{scope:Scope}{own:List (Str×Nat)}{pos spos:Pos}{wi:TI}{g:TG}{tt:TT}{te:TE}(hc:X.calm=true)(hN:X.N.Nodup)(hy:X.N[i]? =some y)(hyl:X.env.scope.names.lookup y=some .local)
  (hsw:swapsWith (.ListComp elt [⟨tg,iter,ifs,0⟩] scope pos) (some (.Name y py)) spos.line X.env=pure true) (hi:PI X tg iter wi) (ok:BlkOk X.N X.env.scope scope own)
  (hg:∀(s:Shared) (H:Hp) (C:Addr) (cl:List (Str×Addr)) (fp:List Addr),PG (X.blk s H scope (compEnvC scope cl C X.env) fp) tg g) (ht:∀(s:Shared) (H:Hp) (C:Addr) (cl:List (Str×Addr)) (fp:List Addr),PTs (X.blk s H scope (compEnvC scope cl C X.env) fp) ifs tt)
  (he:∀(s:Shared) (H:Hp) (C:Addr) (cl:List (Str×Addr)) (fp:List Addr),PE (X.blk s H scope (compEnvC scope cl C X.env) fp) elt te) (hs:∀x,foldedSetIterable iter X.env x=pure x:=by intro _;rfl):
  PS X (.Assign [.Name y py] (.ListComp elt [⟨tg,iter,ifs,0⟩] scope pos) spos) (tAsg (tLc wi g tt te (own.map (·.2))) (gName i)):=by
 intro pins s σ H D I h;rw[exec_Assign_Name_used _ _ _ _ hsw];refine wpAny_bind (wpAny_standAt (wpAny_bind ?_));show wpAny _ X.A (do let _<-comprehension (.ListComp elt [⟨tg,iter,ifs,0⟩] scope pos) scope X.env (firstIterPos [⟨tg,iter,ifs,0⟩] pos) (newList []) false (eval iter X.env) (some (assign (.Name y py) X.env))) _ _ s;have h:tLc wi g tt te (own.map (·.2)) σ H (fun x H1=>gName i x σ H1 D.nx):=h;refine wpAny_bind (thn (Yp (Qf:=fun _ s'=>SP X pins D .next s') hc hN I hi ok hg ht he hs h fun L C s' m H' I' q hn f=>?_) fun _ s' hq=>wpAny_pure (wpAny_pure hq));show wpAny _ _ (assign (.Name y py) X.env (.ref L)) _ _ _;refine wpAny_assign_Name (R6 (v:=V.ref L) I' hN hy (.inl hyl) rfl (fun s2 I2 ⟨a,sb,ha⟩ =>?_) (.inr hyl));obtain⟨f0,f1,f2,f3,f4,f5⟩ :=f;have haC:C≠a:=by
  rcases ha with z|z
  ·rw[z];exact f1
  ·exact fun e=>f4 y a z e.symm
 refine⟨m,hn.sameBut sb haC,fun h3 sb3=>?_⟩;exact⟨_,H',I2.turned (t':=s2.toks) (fun b o hb e=>(sb3.2 b hb).trans e) f0 f1 f3 f4 f5,q⟩
theorem Du{elt:Expr}{gs:List Comprehension}{scope:Scope}{pos py:Pos}{y:Str}{l:Nat}{env:Env}(hk:env.scope.kind=.function)(hy:env.scope.names.lookup y=some .local)(hl:(py.line == pos.line)=true)
  (ha:(scope.names.any fun(n,k)=>n == y&&(k == .local || k == .cell))=false):swapsWith (.ListComp elt gs scope pos) (some (.Name y py)) l env=pure true:=by
 have ky:env.kindOf y=some .local:=hy;have hb:env.blockKind=.function:=by unfold Env.blockKind;rw[hk];rfl
 unfold swapsWith;simp only [hb,ky,ha,Expr.pos,hl];rfl
end
def blkC(N:List Str)(sc scope:Scope)(own:List (Str×Nat)):Bool:=
 (match scope.kind with|.function=>true|_=>false)&&(scope.names.all fun y=>decide (scope.names.lookup y.1=some y.2))&&(own.all fun p=>decide (N[p.2]? =some p.1))&&
  (scope.names.all fun y=>match y.2 with
   |.free=>(match sc.names.lookup y.1 with|some .cell=>true|some .free=>true|_=>false)
   |.local=>decide (y.1∈own.map (·.1)) || decide (y.1∉N)
   |.cell=>decide (y.1∈own.map (·.1)) || decide (y.1∉N)
   |_=>true)
theorem Ax{N:List Str}{sc scope:Scope}{own:List (Str×Nat)}(h:blkC N sc scope own=true):BlkOk N sc scope own:=by
 unfold blkC at h;simp only [Bool.and_eq_true,List.all_eq_true,decide_eq_true_eq]at h;obtain⟨⟨⟨h1,h2⟩,h3⟩,h4⟩ :=h;refine⟨?_,h2,h3,fun y hy e=>?_,fun y hy e=>?_⟩
 ·split at h1
  ·assumption
  ·cases h1
 ·have q:=h4 y hy;simp only [e]at q;split at q<;>first|exact .inl (by assumption)|exact .inr (by assumption)|cases q
 ·have q:=h4 y hy;rcases e with e|e<;>(simp only [e,Bool.or_eq_true,decide_eq_true_eq]at q;exact q)
end L2
namespace L2
open PySem PySem.Spec PyProof.Rows
section
variable {κ:Type}[DecidableEq κ]
def valV(kvs:List (κ×V))(k:κ):Option V:=(kvs.find? fun kv=>decide (kv.1=k)).map (·.2)
def putK(kvs:List (κ×V))(k:κ)(v:V):List (κ×V):=
 if (kvs.any fun kv=>decide (kv.1=k))=true then kvs.map (fun kv=>if kv.1=k then(kv.1,v)else kv)else kvs++[(k,v)]
theorem Cw{p:κ×V}{r:List (κ×V)}{k:κ}(e:p.1=k):valV (p::r) k=some p.2:=by simp[valV,List.find?_cons,e]
theorem Cv{p:κ×V}{r:List (κ×V)}{k:κ}(e:¬p.1=k):valV (p::r) k=valV r k:=by simp[valV,List.find?_cons,e]
theorem Lj(k:κ):∀kvs:List (κ×V),(kvs.any fun kv=>decide (kv.1=k))=(valV kvs k).isSome
 | []=>rfl
 |p::r=>by
  rw[List.any_cons];by_cases e:p.1=k
  ·simp only [Cw e,decide_eq_true e,Bool.true_or,Option.isSome_some]
  ·rw[Cv e,decide_eq_false e,Bool.false_or];exact Lj k r
theorem Wc(k j:κ)(y:V):∀kvs:List (κ×V),valV (kvs.map fun kv=>if kv.1=k then(kv.1,y)else kv) j=(valV kvs j).map fun x=>if j=k then y else x
 | []=>rfl
 |p::r=>by
  have ih:=Wc k j y r;rw[List.map_cons];by_cases h:p.1=k
  ·rw[if_pos h];by_cases e:p.1=j
   ·rw[Cw (p:=(p.1,y)) e,Cw e,Option.map_some,if_pos (e.symm.trans h)]
   ·rw[Cv (p:=(p.1,y)) e,Cv e,ih]
  ·rw[if_neg h];by_cases e:p.1=j
   ·rw[Cw (p:=p) e,Cw e,Option.map_some,if_neg (fun z=>h (e.trans z))]
   ·rw[Cv (p:=p) e,Cv e,ih]
theorem Sa(k j:κ)(y:V):∀kvs:List (κ×V),valV kvs k=none->valV (kvs++[(k,y)]) j=if j=k then some y else valV kvs j
 | [],_=>by
  by_cases e:k=j
  ·rw[if_pos e.symm];exact Cw (p:=(k,y)) e
  ·rw[if_neg (fun z=>e z.symm)];exact Cv (p:=(k,y)) e
 |p::r,hn=>by
  rw[List.cons_append];have hk:¬p.1=k:=fun z=>by rw[Cw z]at hn;cases hn
  rw[Cv hk]at hn;have ih:=Sa k j y r hn;by_cases e:p.1=j
  ·rw[Cw e,Cw e,if_neg (fun z=>hk (e.trans z))]
  ·rw[Cv e,Cv e,ih]
theorem dO(kvs:List (κ×V))(k j:κ)(y:V):valV (putK kvs k y) j=if j=k then some y else valV kvs j:=by
 unfold putK;by_cases a:(kvs.any fun kv=>decide (kv.1=k))=true
 ·rw[if_pos a,Wc];rw[Lj]at a;by_cases e:j=k
  ·obtain⟨x,hx⟩ :=Option.isSome_iff_exists.mp a;rw[if_pos e,e,hx,Option.map_some,if_pos rfl]
  ·rw[if_neg e];cases valV kvs j with
   |none=>rfl
   |some x=>rw[Option.map_some,if_neg e]
 ·rw[if_neg a];refine Sa k j y kvs ?_;rw[Lj]at a;cases q:valV kvs k with
  |none=>rfl
  |some x=>rw[q]at a;exact(a rfl).elim
theorem Mr(kvs:List (κ×V))(k:κ)(v:V):(putK kvs k v).length<=kvs.length + 1:=by
 unfold putK;split
 ·rw[List.length_map];omega
 ·rw[List.length_append,List.length_cons,List.length_nil];omega
theorem RelO.isSome_eq{o:Option V}{u:Option Value}(r:RelO o u):o.isSome=u.isSome:=by
 cases o with
 |none=>cases u with
  |none=>rfl
  |some _=>exact(show False from r).elim
 |some _=>cases u with
  |none=>exact(show False from r).elim
  |some _=>rfl
theorem RelO.getD{o:Option V}{u:Option Value}{d:V}{d':Value}(r:RelO o u)(rd:RelV d d'):RelV (o.getD d) (u.getD d'):=by
 cases o with
 |none=>cases u with
  |none=>exact rd
  |some _=>exact(show False from r).elim
 |some _=>cases u with
  |none=>exact(show False from r).elim
  |some _=>exact r
theorem KV.val{kvs:List (κ×V)}{vs:List (κ×Value)}(r:KV kvs vs)(k:κ):RelO (valV kvs k) (valueAt vs k):=by
 unfold KV at r
 induction r with
 |nil=>exact True.intro
 |@cons p q ps qs h t ih=>
  obtain⟨h1,h2⟩ :=h;by_cases e:p.1=k
  ·have e':q.1=k:=h1.symm.trans e;have b:valueAt (q::qs) k=some q.2:=by simp[valueAt,List.find?_cons,e']
   rw[Cw e,b];exact h2
  ·have e':¬q.1=k:=fun z=>e (h1.trans z);have b:valueAt (q::qs) k=valueAt qs k:=by simp[valueAt,List.find?_cons,e']
   rw[Cv e,b];exact ih
theorem KV.any{kvs:List (κ×V)}{vs:List (κ×Value)}(r:KV kvs vs)(k:κ):(kvs.any fun kv=>decide (kv.1=k))=vs.any fun kv=>decide (kv.1=k):=by
 unfold KV at r
 induction r with
 |nil=>rfl
 |cons h t ih=>rw[List.any_cons,List.any_cons,ih,h.1]
theorem KV.repl{kvs:List (κ×V)}{vs:List (κ×Value)}(r:KV kvs vs)(k:κ){y:V}{u:Value}(ry:RelV y u):
  KV (kvs.map fun kv=>if kv.1=k then(kv.1,y)else kv) (vs.map fun kv=>if kv.1=k then(kv.1,u)else kv):=by
 unfold KV at r⊢
 induction r with
 |nil=>exact .nil
 |@cons p q ps qs h t ih=>
  rw[List.map_cons,List.map_cons];refine .cons ?_ ih;obtain⟨h1,h2⟩ :=h;by_cases e:p.1=k
  ·rw[if_pos e,if_pos (h1.symm.trans e)];exact⟨h1,ry⟩
  ·rw[if_neg e,if_neg (fun z=>e (h1.trans z))];exact⟨h1,h2⟩
theorem KV.put{kvs:List (κ×V)}{vs:List (κ×Value)}(r:KV kvs vs)(k:κ){y:V}{u:Value}(ry:RelV y u):KV (putK kvs k y) (stored vs k u):=by
 unfold putK stored;rw[r.any k];by_cases e:(vs.any fun kv=>decide (kv.1=k))=true
 ·rw[if_pos e,if_pos e];exact r.repl k ry
 ·rw[if_neg e,if_neg e];exact Paired.snoc r ⟨rfl,ry⟩
theorem KV.length{kvs:List (κ×V)}{vs:List (κ×Value)}(r:KV kvs vs):kvs.length=vs.length:=Paired.length r
end
theorem bK{P:Program}{w:World}{k:Key}{u:Value}(r:RelV (kV k) u):(mixKind P w).is k u=true:=by
 cases k with
 |inl i=>obtain⟨t,e⟩ :=(show∃t,u=Value.int i t from r);subst e;exact Uz P w i t
 |inr x=>obtain⟨t,e⟩ :=(show∃t,u=Value.str x t from r);subst e;exact U0 P w x t
theorem Rn{P:Program}{w:World}:∀{ks:List Key} {us:List Value},Vals (ks.map kV) us->ItemsAre (mixKind P w) ks us
 | [],_,r=>by rw[List.map_nil]at r;cases r;exact .nil
 |k::ks,_,r=>by
  rw[List.map_cons]at r;cases r with
  |cons h t=>exact .cons (bK h) (Rn t)
abbrev KT(H:Hp):List (List Key×V)->List (List Key×Addr×Value)->Prop:=Paired fun p q=>p.1=q.1/\H q.2.1=some (.tup (p.1.map kV))/\RelV p.2 q.2.2
theorem KT.val{H:Hp}{kvs:List (List Key×V)}{xs:List (List Key×Addr×Value)}(r:KT H kvs xs)(k:List Key):RelO (valV kvs k) ((atKey xs k).map (·.2)):=by
 induction r with
 |nil=>exact True.intro
 |@cons p q ps qs h t ih=>
  obtain⟨h1,_,h2⟩ :=h;by_cases e:p.1=k
  ·have e':q.1=k:=h1.symm.trans e;have b:atKey (q::qs) k=some q.2:=by simp[atKey,List.find?_cons,e']
   rw[Cw e,b];exact h2
  ·have e':¬q.1=k:=fun z=>e (h1.trans z);have b:atKey (q::qs) k=atKey qs k:=by simp[atKey,List.find?_cons,e']
   rw[Cv e,b];exact ih
theorem KT.repl{H:Hp}{kvs:List (List Key×V)}{xs:List (List Key×Addr×Value)}(r:KT H kvs xs)(k:List Key){y:V}{u:Value}(ry:RelV y u):
  KT H (kvs.map fun kv=>if kv.1=k then(kv.1,y)else kv) (xs.map (putAt k u)):=by
 induction r with
 |nil=>exact .nil
 |@cons p q ps qs h t ih=>
  rw[List.map_cons,List.map_cons];refine .cons ?_ ih;obtain⟨h1,h2,h3⟩ :=h;unfold putAt;by_cases e:p.1=k
  ·rw[if_pos e,if_pos (h1.symm.trans e)];exact⟨h1,h2,ry⟩
  ·rw[if_neg e,if_neg (fun z=>e (h1.trans z))];exact⟨h1,h2,h3⟩
theorem KT.put{H:Hp}{kvs:List (List Key×V)}{xs:List (List Key×Addr×Value)}(r:KT H kvs xs)(k:List Key){b:Addr}{y:V}{u:Value}(hb:H b=some (.tup (k.map kV)))(ry:RelV y u):
  KT H (putK kvs k y) (storedH xs k b u):=by
 have e:(kvs.any fun kv=>decide (kv.1=k))=(atKey xs k).isSome:=by
  rw[Lj,(r.val k).isSome_eq,Option.isSome_map]
 unfold putK storedH;rw[e];by_cases q:(atKey xs k).isSome=true
 ·rw[if_pos q,if_pos q];exact r.repl k ry
 ·rw[if_neg q,if_neg q];exact Paired.snoc r ⟨rfl,hb,ry⟩
theorem KT.keeps{H H':Hp}{kvs:List (List Key×V)}{xs:List (List Key×Addr×Value)}(r:KT H kvs xs)(ht:∀b ys,H b=some (.tup ys)->H' b=some (.tup ys)):KT H' kvs xs:=
 Paired.mapP r fun _ _ z=> ⟨z.1,ht _ _ z.2.1,z.2.2⟩
section
variable {P:Program}{w:World}{H:Hp}{h:Heap}{a:Addr}
theorem gF{u:HO}(ok:HOk P w H h)(e:Rd H a u):ObjOk P w H h a u:=e.ok ok
theorem aT{kvs:List (Key×V)}(ok:HOk P w H h)(e:Rd H a (.dK kvs)):kvs.length<=sizeLine/\(a == sysModules)=false/\∃vs,KV kvs vs/\h.DictOf (mixKind P w) a vs:=
 show ObjOk P w H h a (.dK kvs) from gF ok e
theorem iM{kvs:List (Key×V)}(ok:HOk P w H h)(e:H a=some (.dK kvs)):kvs.length<=sizeLine/\(a == sysModules)=false/\∃vs,KV kvs vs/\h.DictOf (mixKind P w) a vs:=aT ok (.inl e)
theorem W4{ks:List Key}(ok:HOk P w H h)(e:H a=some (.tup (ks.map kV))):(tupleKind (mixKind P w)).is h ks a:=by
 obtain⟨_,its,r,o,h1,h2,n,h3⟩ :=(show ObjOk P w H h a (.tup (ks.map kV)) from ok a _ e);exact⟨o,its.toArray,n,h1,h2,h3,by simpa using Rn r⟩
theorem aV{kvs:List (List Key×V)}(ok:HOk P w H h)(e:Rd H a (.dT kvs)):kvs.length<=sizeLine/\(a == sysModules)=false/\
  ∃xs,KT H kvs xs/\h.DictOfH (tupleKind (mixKind P w)) a xs:=by
 obtain⟨z,y,xs,r,o,es,ep,h1,h2,h3,h4,h5⟩ :=(show ObjOk P w H h a (.dT kvs) from gF ok e);refine⟨z,y,xs,r,o,es,ep,h1,h2,h3,h4,fun x hx=>?_,h5⟩;have all:∀{l:List (List Key×V)} {m:List (List Key×Addr×Value)},KT H l m->∀x∈m,(tupleKind (mixKind P w)).is h x.1 x.2.1:=by
  intro l m q
  induction q with
  |nil=>intro x hx;exact nomatch hx
  |@cons p q ps qs hq t ih=>
   intro x hx;rcases List.mem_cons.mp hx with e|hx
   ·subst e;exact W4 ok (by rw[<-hq.1];exact hq.2.1)
   ·exact ih x hx
 exact all r x hx
theorem iN{kvs:List (List Key×V)}(ok:HOk P w H h)(e:H a=some (.dT kvs)):kvs.length<=sizeLine/\(a == sysModules)=false/\
  ∃xs,KT H kvs xs/\h.DictOfH (tupleKind (mixKind P w)) a xs:=aV ok (.inl e)
end
def DGet(H:Hp)(a:Addr)(y:V)(r:Option V):Prop:=
 (∃kvs k,Rd H a (.dK kvs)/\y=kV k/\r=valV kvs k)∨∃kvs k b,Rd H a (.dT kvs)/\y=.ref b/\H b=some (.tup (k.map kV))/\r=valV kvs k
def DPut(H:Hp)(a:Addr)(y v:V)(H':Hp):Prop:=
 (∃kvs k,H a=some (.dK kvs)/\y=kV k/\kvs.length < sizeLine/\H'=upd H a (.dK (putK kvs k v)))∨
 ∃kvs k b,H a=some (.dT kvs)/\y=.ref b/\H b=some (.tup (k.map kV))/\kvs.length < sizeLine/\H'=upd H a (.dT (putK kvs k v))
theorem DGet.k{H:Hp}{a:Addr}{kvs:List (Key×V)}{k:Key}(e:H a=some (.dK kvs)):DGet H a (kV k) (valV kvs k):=.inl ⟨kvs,k,.inl e,rfl,rfl⟩
theorem DPut.k{H:Hp}{a:Addr}{kvs:List (Key×V)}{k:Key}{v:V}(e:H a=some (.dK kvs))(hl:kvs.length < sizeLine):DPut H a (kV k) v (upd H a (.dK (putK kvs k v))):=.inl ⟨kvs,k,e,rfl,hl,rfl⟩
section
variable {X:Cx}{pins:List (Addr×Obj)}{σ:St}{H:Hp}{s:Shared}{a:Addr}{y v:V}{u r:Value}{o:Option V}{A:Around}{E:Value->Shared->Prop}
theorem Inv.big(I:Inv X pins σ H s):sysModules < s.heap.objs.size:=by
 have h:mainGlobals < s.heap.objs.size:=(I.mod.glob.keeps I.bk).lt;exact Nat.lt_trans (by decide) h
theorem Yf{h':Heap}{t':Nat}{ob:HO}(I:Inv X pins σ H s)(mu:Mut (H a))(hs:Heap.SameBut a s.heap h')(he:∃q,h'.get? a=some q)(new:ObjOk X.prog X.w (upd H a ob) h' a ob):
  Inv X pins σ (upd H a ob) {s with heap:=h',toks:=t'}:=
 I.write (x:=a) (e:=a) mu (.inl rfl) (fun b q hb z=>(hs.2 b hb).trans z) he new
theorem gK{P:Program}{w:World}{H':Hp}{h':Heap}{kvs:List (Key×V)}{vs:List (Key×Value)}(z:kvs.length<=sizeLine)(hd:(a == sysModules)=false)(rel:KV kvs vs)(dd:h'.DictOf (mixKind P w) a vs):
  ObjOk P w H' h' a (.dK kvs):= ⟨z,hd,vs,rel,dd⟩
theorem Zc{H':Hp}{Q:Unit->Shared->Prop}(hu:A.units + 1 < cLine)(I:Inv X pins σ H s)(g:DPut H a y v H')(ry:RelV y u)(rv:RelV v r)(h:∀s',Inv X pins σ H' s'->Q () s'):
  wpAny (model X.prog X.w) A (setItem (.ref a) u r) Q E s:=by
 rcases g with⟨kvs,k,e,ey,l,eH⟩ | ⟨kvs,k,b,e,ey,eb,l,eH⟩
 ·subst ey eH;obtain⟨z,hd,vs,rel,dd⟩ :=iM I.hok e;have hz:vs.length<=sizeLine:=by rw[<-rel.length];exact z
  have hl:(putK kvs k v).length<=sizeLine:=by have:=Mr kvs k v;omega
  refine wpAny_setItem_pairs (hsz:=hz) (bK ry) dd fun h' dd' hs=>h _ ?_;have he:∃q,h'.get? a=some q:=let⟨q,_,_,hq,_⟩ :=dd';⟨q,hq⟩;exact Yf I (by rw[e];exact True.intro) hs he (gK hl hd (rel.put k rv) dd')
 ·subst ey eH;cases (show u=Value.ref b from ry);obtain⟨z,hd,xs,rel,dd⟩ :=iN I.hok e;have hz:xs.length<=sizeLine:=by rw[<-Paired.length rel];exact z
  have hl:(putK kvs k v).length<=sizeLine:=by have:=Mr kvs k v;omega
  refine wpAny_setItem_heap (hsz:=hz) (tupleKind_room_in1 hu) (W4 I.hok eb) dd fun h' dd' hs=>h _ ?_;obtain⟨q,es,ep,hq,h2,h3,h4,_,h5⟩ :=dd';refine Yf I (by rw[e];exact True.intro) hs ⟨q,hq⟩ ⟨hl,hd,_,(rel.put k eb rv).keeps fun c ys ec=>?_,q,es,ep,hq,h2,h3,h4,h5⟩;rw[Ak (iR ec e (fun z=>nomatch z))];exact ec
end
def sDPut(td ty tv:TE):TS:=fun D σ H=>tv σ H fun v H1=>td σ H1 fun x H2=>ty σ H2 fun y H3=>∃a H4,x=.ref a/\DPut H3 a y v H4/\D.nx σ H4
section
variable {X:Cx}{o i e value:Expr}{pos pos' tpos:Pos}{td ty tv:TE}
theorem fK(hu:X.A.units + 1 < cLine)(ho:PE X o td)(hi:PE X i ty)(hv:PE X value tv)(hs:swapsWith value (some (.Subscript o i pos')) pos.line X.env=pure false):
  PS X (.Assign [.Subscript o i pos'] value pos) (sDPut td ty tv):=by
 intro pins s σ H D I h;refine wpAny_Assign_Subscript (thn (hv pins s σ H _ I h) fun r s1 ⟨v,H1,I1,rv,q1⟩ =>thn (ho pins s1 σ H1 _ I1 q1) fun u s2 ⟨x,H2,I2,rx,q2⟩ =>thn (hi pins s2 σ H2 _ I2 q2) fun iv s3 ⟨y,H3,I3,ry,a,H4,ex,g,q3⟩ =>?_) hs;subst ex;obtain rfl:u=Value.ref a:=rx;exact Zc hu I3 g ry rv fun s4 I4=> ⟨σ,H4,I4,q3⟩
end
theorem aS{P:Program}{w:World}{H:Hp}(h:Heap)(hb:sysModules < h.objs.size):ObjOk P w H (h.push {cls:=.type "dict",data:=.dict #[]}) h.objs.size (.dK []):=
 ⟨Nat.zero_le _,beq_eq_false_iff_ne.mpr (Ne.symm (Nat.ne_of_lt hb)),[],.nil,Heap.DictOf.new h⟩
def tDNewK:TE:=fun _ H Q=>∀p,H p=none->Q (.ref p) (upd H p (.dK []))
section
variable {X:Cx}{pos:Pos}
theorem cH:PE X (.Dict [] [] pos) tDNewK:=fun pins s σ H Q I h=>
 wpAny_Dict_empty ⟨.ref s.heap.objs.size,_,I.laid (a:=s.heap.objs.size) (o:=.dK []) (t':=s.toks) (fun _ _ q=>Heap.get?_push_of_some _ q) (Nat.le_refl _) (aS s.heap I.big),rfl,h _ (I.hok.fresh (Nat.le_refl _))⟩
end
structure M2(X:Cx)(o:Expr)(m:Str)(apos:Pos)(e f:Expr)(cpos:Pos):Prop where
 base:attributeBase o m X.env (eval o X.env)=eval o X.env
 few:((backTo cpos (starEach [e,f] X.env)).all (fun x=>!x.1)&&(backToKw cpos (keywordEach [] X.env)).all (fun x=>x.1.isSome)
  &&decide (([e,f]:List Expr).length + ([]:List Keyword).length + (if ([]:List Keyword).isEmpty then 0 else 1) < 30))=true
 line:(apos.endLine == cpos.line)=true
 trees:backTo cpos (starEach [e,f] X.env)= [(false,eval e X.env),(false,eval f X.env)]
def IsD(H:Hp)(a:Addr):Prop:=(∃kvs,Rd H a (.dK kvs))∨∃kvs,Rd H a (.dT kvs)
theorem gQ{X:Cx}{pins:List (Addr×Obj)}{σ:St}{H:Hp}{s:Shared}{a:Addr}(I:Inv X pins σ H s)(d:IsD H a):
  s.TypeIs (.ref a) "dict"/\(∀b,Value.ref a=.ref b->∃ob,s.heap.get? b=some ob/\ob.dict=none)/\(a == sysModules)=false:=by
 rcases d with⟨kvs,e⟩ | ⟨kvs,e⟩
 ·obtain⟨_,hd,vs,_,dd⟩ :=aT I.hok e;refine⟨dd.typeIs,fun b q=>?_,hd⟩;cases q;obtain⟨ob,_,_,h1,h2,_⟩ :=dd;exact⟨ob,h1,h2.2.1⟩
 ·obtain⟨_,hd,xs,_,dd⟩ :=aV I.hok e;refine⟨dd.typeIs,fun b q=>?_,hd⟩;cases q;obtain⟨ob,_,_,h1,h2,_⟩ :=dd;exact⟨ob,h1,h2.2.1⟩
section
variable {X:Cx}{pins:List (Addr×Obj)}{σ:St}{H:Hp}{s:Shared}{a:Addr}{y d:V}{u r:Value}{o:Option V}{A:Around}{E:Value->Shared->Prop}
theorem gJ{Q:Value->Shared->Prop}(hu:A.units + 1 < cLine)(I:Inv X pins σ H s)(g:DGet H a y o)(ry:RelV y u)(rd:RelV d r)(h:∀w' s',Inv X pins σ H s'->RelV (o.getD d) w'->Q w' s'):
  wpAny (model X.prog X.w) A (call (.builtin "dict.get") [.ref a,u,r]) Q E s:=by
 rcases g with⟨kvs,k,e,ey,l⟩ | ⟨kvs,k,b,e,ey,eb,l⟩
 ·subst ey;obtain⟨z,hd,vs,rel,dd⟩ :=aT I.hok e;refine call_meetsIn PySem.F.slot_dict_get dd.typeIs PySem.F.entry_dict_get (PySem.F.args_dict_get_3 _ _ _) (meets_dict_get_default (mixKind X.prog X.w) a (bK ry) hd r) ⟨_,dd.mapOf,h _ _ (I.tok _) ?_⟩;rw[l];exact(rel.val k).getD rd
 ·subst ey;cases (show u=Value.ref b from ry);obtain⟨z,hd,xs,rel,dd⟩ :=aV I.hok e;refine call_meetsIn PySem.F.slot_dict_get dd.typeIs PySem.F.entry_dict_get (PySem.F.args_dict_get_3 _ _ _) (meetsH_dict_get_default (tupleKind (mixKind X.prog X.w)) a b hd r) ⟨tupleKind_room_in1 hu,k,xs,W4 I.hok eb,dd,h _ _ (I.tok _) ?_⟩;rw[l];exact(rel.val k).getD rd
end
def tDGet2(td ty tx:TE):TE:=fun σ H Q=>td σ H fun x H1=>∃a,x=.ref a/\IsD H1 a/\ty σ H1 fun y H2=>tx σ H2 fun z H3=>∃o,DGet H3 a y o/\Q (o.getD z) H3
section
variable {X:Cx}{o e f:Expr}{apos cpos:Pos}{td ty tx:TE}
theorem cG(hu:X.A.units + 1 < cLine)(ho:PE X o td)(he:PE X e ty)(hf:PE X f tx)(m:M2 X o "get" apos e f cpos):PE X (.Call (.Attribute o "get" apos) [e,f] [] cpos) (tDGet2 td ty tx):=by
 intro pins s σ H Q I h;refine wpAny_Call_method m.base m.few m.line PySem.F.plainAttrs_dict PySem.F.slot_dict_get PySem.F.type_dict_get (thn (ho pins s σ H _ I h) fun u s1 ⟨x,H1,I1,rx,a,ex,d,q1⟩ =>?_);subst ex;obtain rfl:u=Value.ref a:=rx;obtain⟨t1,t2,_⟩ :=gQ I1 d;refine⟨t1,t2,?_⟩;rw[m.trees];refine Calls.callWith_builtin rfl (Calls.evalArgs_plain (Calls.spliced_cons (thn (he pins s1 σ H1 _ I1 q1) fun iv s2 ⟨y,H2,I2,ry,q2⟩ =>
  Calls.spliced_cons (thn (hf pins s2 σ H2 _ I2 q2) fun fv s3 ⟨z,H3,I3,rz,ov,g,q3⟩ =>Calls.spliced_nil ?_))))
 exact gJ hu I3 g ry rz fun w' s4 I4 rw'=> ⟨_,H3,I4,rw',q3⟩
end
end L2
namespace L2
open PySem PySem.Spec PyProof.Rows
section
variable {X:Cx}{pins:List (Addr×Obj)}{σ:St}{H:Hp}{s:Shared}{h':Heap}
theorem Inv.turnedL{t':Nat}{ch:List Addr}(I:Inv X pins σ H s)(k:∀b o,b∉ch->s.heap.get? b=some o->h'.get? b=some o)(hf:∀b∈ch,FpOk X pins H b):Inv X pins σ H {s with heap:=h',toks:=t'}:=by
 have nit:∀b u,H b=some u->b∉ch:=fun b u e z=>by
  have q:=(hf b z).1;rw[q]at e;cases e
 refine I.step (g':=s.gens) (d':=s.drawn) (ch:=ch) (fun b hb=> ⟨(hf b hb).2.2.2.1,(hf b hb).2.1,(hf b hb).2.2.2.2.1,(hf b hb).2.2.2.2.2⟩) (fun b o _ _ hc e _=>k b o hc e) (fun b o _ _ hc e _=> ⟨o.slots,k b o hc e⟩)
  (fun _ _ _ _ n=>n) (fun b o hc e=> ⟨o,k b o hc e⟩) (fun _ _ e=>e) (fun _ _ _ e=>e) (fun b ps e=> ⟨#[],by rw[e];simp⟩) (fun m hm=>?_) (fun b u e=>?_) I.bare
 ·obtain⟨o,es,ep,ho,r⟩ :=hm;exact⟨o,es,ep,k _ o (fun z=>(hf _ z).2.1 rfl) ho,r⟩
 ·refine(I.hok b u e).stay (fun c v hc q=>k c v ?_ q) (fun _ q=>q) fun _ _ q=>q;rcases hc with z|z
  ·rw[z];exact nit b u e
  ·exact nit c _ z
theorem Inv.turnedNew{t':Nat}{ch:List Addr}{T:Addr}{ob:HO}(I:Inv X pins σ H s)(k:∀b o,b∉ch->s.heap.get? b=some o->h'.get? b=some o)(hf:∀b∈ch,FpOk X pins H b)(hT:s.heap.objs.size<=T)
  (new:ObjOk X.prog X.w (upd H T ob) h' T ob):Inv X pins σ (upd H T ob) {s with heap:=h',toks:=t'}:=by
 have hn:H T=none:=I.hok.fresh hT;have nit:∀b u,H b=some u->b∉ch:=fun b u e z=>by
  have q:=(hf b z).1;rw[q]at e;cases e
 refine I.step (g':=s.gens) (d':=s.drawn) (ch:=ch) (fun b hb=> ⟨(hf b hb).2.2.2.1,(hf b hb).2.1,(hf b hb).2.2.2.2.1,(hf b hb).2.2.2.2.2⟩) (fun b o _ _ hc e _=>k b o hc e) (fun b o _ _ hc e _=> ⟨o.slots,k b o hc e⟩)
  (fun b o _ e n=>?_) (fun b o hc e=> ⟨o,k b o hc e⟩) (fun b xs e=>?_) (fun b o u e=>?_) (fun b ps e=> ⟨#[],?_⟩) (fun m hm=>?_) (fun b u e=>?_) I.bare
 ·rw[Ak (Nat.ne_of_lt (Nat.lt_of_lt_of_le (Heap.lt_size e) hT))];exact n
 ·rw[Ak (Al e hn)];exact e
 ·rw[Ak (Al e hn)];exact e
 ·rw[Ak (Al e hn),e];simp
 ·obtain⟨o,es,ep,ho,r⟩ :=hm;exact⟨o,es,ep,k _ o (fun z=>(hf _ z).2.1 rfl) ho,r⟩
 ·by_cases hb:b=T
  ·subst hb;rw[Ae]at e;cases e;exact new
  ·rw[Ak hb]at e;refine(I.hok b u e).stay (fun c v hc q=>k c v ?_ q) (fun c q=>by rw[Ak (Al q hn)];exact q) fun c xs q=>by rw[Ak (Al q hn)];exact q
   rcases hc with z|z
   ·rw[z];exact nit b u e
   ·exact nit c _ z
theorem Inv.lock{d:Addr}{u:HO}(I:Inv X pins σ H s)(h:H d=some u)(mu:Mut (some u)):∃od,Inv X pins σ (upd H d (.frz od u)) s:=by
 have x:=I.hok d u h;have ex:∃od,s.heap.get? d=some od:=by
  cases u with
  |lst xs=>obtain⟨_,_,_,_,e⟩ :=x;exact⟨_,e⟩
  |dK kvs=>obtain⟨_,_,_,_,o,_,_,e,_⟩ :=x;exact⟨o,e⟩
  |dT kvs=>obtain⟨_,_,_,_,o,_,_,e,_⟩ :=x;exact⟨o,e⟩
  |set S n=>obtain⟨o,_,_,_,e,_⟩ :=x;exact⟨o,e⟩
  |ins C dx fs=>obtain⟨_,_,_,e,_⟩ :=x;exact⟨_,e⟩
  |ext φ=>obtain⟨_,⟨_,e⟩,_⟩ :=x;exact⟨_,e⟩
  |_=>exact False.elim mu
 obtain⟨od,e⟩ :=ex;have new:ObjOk X.prog X.w (upd H d (.frz od u)) s.heap d (.frz od u):=by
  refine⟨e,x.stay (fun b v _ q=>q) (fun b q=>?_) fun b xs q=>?_⟩
  ·rw[Ak (fun z=>by rw[z,h]at q;cases q;exact mu)];exact q
  ·rw[Ak (fun z=>by rw[z,h]at q;cases q;exact mu)];exact q
 exact⟨od,I.write (x:=d) (e:=d) (t':=s.toks) (h':=s.heap) (by rw[h];exact mu) (.inl rfl) (fun b v _ q=>q) ⟨od,e⟩ new⟩
theorem Inv.nofrz{d:Addr}{u:HO}(I:Inv X pins σ H s)(h:H d=some u)(mu:Mut (some u)):∀o' u',X.H_0 d≠some (.frz o' u'):=fun o' u' e=>by
 have q:=I.base.frzs d o' u' e;rw[h]at q;cases q;exact mu
theorem Inv.unlock{d:Addr}{od:Obj}{u:HO}(I:Inv X pins σ H s)(h:H d=some (.frz od u))(hn:∀o' u',X.H_0 d≠some (.frz o' u')):Inv X pins σ (upd H d u) s:=by
 have neH:∀b o,H b=some o->(∀o' u',o≠.frz o' u')->b≠d:=fun b o e hne z=>by
  rw[z,h]at e;cases e;exact hne _ _ rfl
 have neN:∀b,H b=none->b≠d:=fun b e z=>by rw[z,h]at e;cases e
 refine⟨I.ok,I.os,I.bare,⟨I.base.keep,I.base.slot,fun b o e n hx=>?_,I.base.there,fun b xs e=>?_,fun b o x e=>?_,fun b ps e=>?_⟩,I.loc,I.cell,?_,fun x c e=>?_,fun p hp=>?_,fun b o e=>?_,I.len⟩
 ·rw[Ak (neN b (I.base.free b o e n hx))];exact I.base.free b o e n hx
 ·have q:=I.base.tups b xs e;rw[Ak (neH b _ q (fun _ _ z=>nomatch z))];exact q
 ·have q:=I.base.frzs b o x e;rw[Ak (fun z=>by rw[z]at e;exact hn _ _ e)];exact q
 ·obtain⟨m,q⟩ :=I.base.tbls b ps e;exact⟨m,by rw[Ak (neH b _ q (fun _ _ z=>nomatch z))];exact q⟩
 ·rw[Ak (neN _ I.free)];exact I.free
 ·rw[Ak (neN c (I.freeC x c e))];exact I.freeC x c e
 ·obtain⟨e,n,r⟩ :=I.pin p hp;exact⟨e,by rw[Ak (neN _ n)];exact n,r⟩
 ·by_cases hb:b=d
  ·rw[hb,Ae]at e;cases e;rw[hb];obtain⟨_,x⟩ :=I.hok d _ h;exact x.stay (fun c v _ q=>q) (fun c q=>by rw[Ak (neH c _ q (fun _ _ z=>nomatch z))];exact q) fun c xs q=>by rw[Ak (neH c _ q (fun _ _ z=>nomatch z))];exact q
  ·rw[Ak hb]at e;exact(I.hok b o e).stay (fun c v _ q=>q) (fun c q=>by rw[Ak (neH c _ q (fun _ _ z=>nomatch z))];exact q) fun c xs q=>by rw[Ak (neH c _ q (fun _ _ z=>nomatch z))];exact q
end
section
variable {X:Cx}
theorem Xq{tg:Expr}{pins:List (Addr×Obj)}{σ:St}{H:Hp}{s:Shared}{R:It->Hp->Prop}{J:It}{tn:Nat->Heap->Prop}{tk:Nat}(I:Inv X pins σ H s)(o:Obj)
  (T:Turn X.prog X.w X.K tg J [s.heap.objs.size] s.heap.objs.size tn) (st:tn 0 (s.heap.push o)) (q:R J H):PIE X pins σ tg R (.ref s.heap.objs.size) {s with heap:=s.heap.push o,toks:=tk}:=by
 refine⟨s.heap.objs.size,[s.heap.objs.size],tn,J,H,rfl,I.kept fun b ob e=>Heap.get?_push_of_some _ e,T,st,fun b hb=>?_,q⟩;have e:b=s.heap.objs.size:=by simpa using hb
 subst e;exact I.fpOk (Nat.le_refl _) (I.hok.fresh (Nat.le_refl _))
end
def Itc(lo c:Int)(n:Nat):It:= ⟨fun i _=>i < n,fun i H x H'=>H'=H/\x=.int (lo + (i:Nat) * c),fun i _=>n<=i⟩
theorem Wa{P:Program}{w:World}{K:PySem.W.Frag}{tg:Expr}(it:Addr)(lo c:Int)(n:Nat):Turn P w K tg (Itc lo c n) [it] it (fun i h=>IsRangeIter h it (lo + (i:Nat) * c) ((n:Int) - (i:Nat)) c) where
 mem:=by simp
 obj:=fun i h st b hb=>by
  have e:b=it:=by simpa using hb
  subst e;exact⟨_,st,fun v z=>nomatch z⟩
 keep:=fun i h h' st k=>k it (by simp) _ st
 item:=by
  intro X hP hw hK hc i pins s σ H E I hf st hg;subst hP hw hK;obtain⟨f0,f1,f2,f3,f4,f5⟩ :=hf it (by simp);have W:=Walks.range (prog:=X.prog) (w:=X.w) (I.ok.hd hc) it lo c n;refine W.item i s _ _ hg st fun v h' tk hv st' kk=>?_;obtain⟨t,rfl⟩ :=hv;have I1:Inv X pins σ H {s with heap:=h',toks:=tk}:=I.turned (fun b o hb e=>kk b o (by simpa using hb) e) f0 f1 f3 f4 f5;exact⟨_,rfl,Yk (s:={s with heap:=h',toks:=tk}) (n:="range_iterator") st' rfl rfl (by decide) ⟨.int (lo + (i:Nat) * c),H,I1,⟨t,rfl⟩,⟨rfl,rfl⟩,st',fun b hb=>(hf b hb).1⟩⟩
 done:=by
  intro X hP hw hK hc i pins s σ H E I hf st hg;subst hP hw hK;obtain⟨f0,f1,f2,f3,f4,f5⟩ :=hf it (by simp);exact wpAny_pyNext_range_end (I.ok.hd hc) st (by have:n<=i:=hg;omega) fun h' eb=> ⟨rfl,I.turned (t':=s.toks) (fun b o hb e=>eb b o hb e) f0 f1 f3 f4 f5⟩
 self:=fun A i s Q E st h=>wpAny_pyIter_rangeiter st h
def RgC(i j c:Int)(n:Nat):Prop:=c≠0/\c.natAbs < 1073741824/\Builtin.Range.small i j c=true/\Builtin.Range.rangeSize i j c=n
theorem RgC.neg{i j:Int}(ha: -(2^62)<=i)(ha':i < 2^62)(hb: -(2^62)<=j)(hb':j < 2^62):RgC i j (-1) (i - j).toNat:=
 ⟨by decide,by decide,PySem.W.small_down ha ha' hb hb',PySem.W.rangeSize_downNat i j⟩
def iRng3(ta:TA):TI:=fun σ H R=>ta σ H fun vs H1=>∃(i j c:Int) (n:Nat),vs= [.int i,.int j,.int c]/\RgC i j c n/\R (Itc i c n) H1
section
variable {X:Cx}{tg:Expr}
theorem Zy{a b c:Expr}{ta:TA}{p pos:Pos}(hg:Gl X "range")(hm:X.mg "range"=none)(ha:PA X [a,b,c] ta)
  (hs:starEach [a,b,c] X.env=(false,eval a X.env)::starEach [b,c] X.env:=by rfl) (hpl:(backTo pos (starEach [b,c] X.env)).any (·.1)=false:=by rfl):
  PI X tg (.Call (.Name "range" p) [a,b,c] [] pos) (iRng3 ta):=by
 intro pins s σ H R I h;refine Call_ (Fq I hg hm boot_range (PyProof.Rows.callWith_type1 (thn (ha pos pins s σ H _ I h) fun us s1 ⟨vs,H1,I1,r1,q1⟩ =>?_) hs hpl));obtain⟨i,j,k,n,e,⟨c0,c1,c2,c3⟩,q⟩ :=q1;subst e;cases r1 with
 |cons r rr=>
  cases rr with
  |cons r' rr=>
   cases rr with
   |cons r'' rr=>
    cases rr;obtain⟨t,rfl⟩ :=r;obtain⟨t',rfl⟩ :=r';obtain⟨t'',rfl⟩ :=r'';refine call_range_3 c0 ?_ (.inl (PyProof.noPylong_small c1));refine wpAny_pyIter_range (IsRange.new ..) c2 ?_;have I2:Inv X pins σ H1 {s1 with heap:=s1.heap.push {cls:=.type "range",data:=.fields #[.int i t,.int j t',.int k t'']}}:=I1.kept (t':=s1.toks) fun b o e=>Heap.get?_push_of_some _ e;refine Xq (tk:=s1.toks) I2 _ (Wa _ i k n) ?_ q;have e1:i + ((0:Nat):Int) * k=i:=by simp
    have e2:(n:Int) - ((0:Nat):Int)=Builtin.Range.rangeSize i j k:=by rw[c3];simp
    show IsRangeIter _ _ (i + ((0:Nat):Int) * k) ((n:Int) - ((0:Nat):Int)) k;rw[e1,e2];exact Heap.get?_push_size _ rfl
end
def Its(x:Str):It:= ⟨fun i _=>i < x.cps.size,fun i H v H'=>H'=H/\∃c,x.cps[i]? =some c/\v=.str ⟨#[c]⟩,fun i _=>x.cps.size<=i⟩
theorem Wb{P:Program}{w:World}{K:PySem.W.Frag}{tg:Expr}(it:Addr)(x:Str)(t:Tok)(ty:String)(hty:ty="str_ascii_iterator"∨ty="str_iterator"):
  Turn P w K tg (Its x) [it] it (fun i h=>h.IsStrIter it ty x t i) where
 mem:=by simp
 obj:=fun i h st b hb=>by
  have e:b=it:=by simpa using hb
  subst e;obtain⟨o,e,c,d⟩ :=st;exact⟨o,e,fun v z=>by rw[d]at z;cases z⟩
 keep:=fun i h h' st k=>let⟨o,ho,r⟩ :=st;⟨o,k it (by simp) o ho,r⟩
 item:=by
  intro X hP hw hK hc i pins s σ H E I hf st hg;subst hP hw hK;obtain⟨f0,f1,f2,f3,f4,f5⟩ :=hf it (by simp);have W:Walks X.prog X.w X.A it [it] [it] x.cps.size (SignAt x) (fun i h=>h.IsStrIter it ty x t i):=by
   rcases hty with e|e
   ·rw[e];exact Walks.strAscii (I.ok.hd hc) it x t
   ·rw[e];exact Walks.strWide (I.ok.hd hc) it x t
  have hno:["enumerate","zip","dict_itemiterator","dict_reverseitemiterator","odict_iterator","itertools.zip_longest","itertools.pairwise"].contains ty=false:=by
   rcases hty with e|e
   ·rw[e];decide
   ·rw[e];decide
  refine W.item i s _ _ hg st fun v h' tk hv st' kk=>?_;obtain⟨c,u,hcx,rfl⟩ :=hv;have I1:Inv X pins σ H {s with heap:=h',toks:=tk}:=I.turned (fun b o hb e=>kk b o (by simpa using hb) e) f0 f1 f3 f4 f5;obtain⟨oi,e,cc,dd⟩ :=id st';exact⟨_,rfl,Yk (s:={s with heap:=h',toks:=tk}) e cc dd hno ⟨.str ⟨#[c]⟩,H,I1,⟨u,rfl⟩,⟨rfl,c,hcx,rfl⟩,st',fun b hb=>(hf b hb).1⟩⟩
 done:=by
  intro X hP hw hK hc i pins s σ H E I hf st hg;subst hP hw hK;obtain⟨f0,f1,f2,f3,f4,f5⟩ :=hf it (by simp);have hx:x.cps[i]? =none:=Array.getElem?_eq_none hg;rcases hty with e|e
  ·rw[e]at st;exact wpAny_pyNext_ascii_end (I.ok.hd hc) st hx fun h' eb=> ⟨rfl,I.turned (t':=s.toks) (fun b o hb e=>eb b o hb e) f0 f1 f3 f4 f5⟩
  ·rw[e]at st;exact wpAny_pyNext_wide_end (I.ok.hd hc) st hx fun h' eb=> ⟨rfl,I.turned (t':=s.toks) (fun b o hb e=>eb b o hb e) f0 f1 f3 f4 f5⟩
 self:=fun A i s Q E st h=>by
  rcases hty with e|e
  ·rw[e]at st;exact wpAny_pyIter_striter_ascii st h
  ·rw[e]at st;exact wpAny_pyIter_striter_wide st h
def iStr(te:TE):TI:=fun σ H R=>te σ H fun v H1=>∃x,v=.str x/\R (Its x) H1
theorem Xr{X:Cx}{tg e:Expr}{te:TE}(he:PE X e te):PI X tg e (iStr te):=by
 intro pins s σ H R I h;refine thn (he pins s σ H _ I h) fun v s1 ⟨y,H1,I1,r1,x,ex,q⟩ =>?_;subst ex;obtain⟨t,rfl⟩ :=r1;cases ha:x.cps.all (· < 128)
 ·exact wpAny_pyIter_wide ha (Xq (tk:=s1.toks) I1 _ (Wb _ x t "str_iterator" (.inr rfl)) ⟨_,Heap.get?_push_size _ rfl,rfl,rfl⟩ q)
 ·exact wpAny_pyIter_ascii ha (Xq (tk:=s1.toks) I1 _ (Wb _ x t "str_ascii_iterator" (.inl rfl)) ⟨_,Heap.get?_push_size _ rfl,rfl,rfl⟩ q)
def Ite(K:PySem.W.Frag)(a:Addr):It:=
 ⟨fun i H=>∃(xs:List V) (x:V),SqL K H a xs/\xs[i]? =some x,fun i H v H'=>∃T x,v=.ref T/\H T=none/\H'=upd H T (.tup [.int (i:Nat),x])/\∀xs,SqL K H a xs->xs[i]? =some x,fun i H=>∃xs:List V,SqL K H a xs/\xs.length<=i⟩
theorem aB{P:Program}{w:World}{K:PySem.W.Frag}{elts:List Expr}{kk:Nat}{tpos:Pos}(a e it:Addr):
  Turn P w K (.Tuple elts kk tpos) (Ite K a) [e,it] e (fun i h=>(∃old,IsEnum h e it ((i:Nat):Int) old)/\h.IsListIter it a i/\e≠it) where
 mem:=by simp
 obj:=fun i h st b hb=>by
  obtain⟨⟨old,he⟩,⟨o,ho,hc,hd⟩,_⟩ :=st;have e':b=e∨b=it:=by simpa using hb
  rcases e' with z|z
  ·rw[z];exact⟨_,he,fun v q=>nomatch q⟩
  ·rw[z];exact⟨o,ho,fun v q=>by rw[hd]at q;cases q⟩
 keep:=fun i h h' st k=>let⟨⟨old,he⟩,hi,hne⟩ :=st;⟨⟨old,k e (by simp) _ he⟩,hi.at fun o q=>k it (by simp) o q,hne⟩
 item:=by
  intro X hP hw hK hc i pins s σ H E I hf st hg;subst hP hw hK;obtain⟨⟨old,he⟩,hit,hne⟩ :=st;obtain⟨xs,x,hq,hx⟩ :=hg;obtain⟨its,rv,p,hz⟩ :=I.list hq;obtain⟨u,hu,ru⟩ :=rv.get hx;have hel:e < s.heap.objs.size:=Heap.lt_size he;have hil:it < s.heap.objs.size:=by obtain⟨_,q,_⟩ :=hit;exact Heap.lt_size q
  refine wpAny_pyNext_enum_item he hit p.isList (x:=u) (by simpa using hu) hne fun h' ho hit' hT hsz hk=>?_;refine⟨_,rfl,wpAny_letOwnedTupleGo_enum (s:={s with heap:=h',toks:=s.toks + 1}) ho fun h'' he' sb=>?_⟩;have hT2:h''.get? s.heap.objs.size=some {cls:=.type "tuple",data:=.seq #[.int i s.toks,u]}:=(sb.2 _ (Nat.ne_of_gt hel)).trans hT;have new:ObjOk X.prog X.w (upd H s.heap.objs.size (.tup [.int (i:Nat),x])) h'' s.heap.objs.size (.tup [.int (i:Nat),x]):=
   ⟨by show 2<=sizeLine;decide,[.int i s.toks,u],.cons ⟨_,rfl⟩ (.cons ru .nil),⟨_,hT2,rfl,_,rfl⟩⟩
  have I1:Inv X pins σ (upd H s.heap.objs.size (.tup [.int (i:Nat),x])) {s with heap:=h'',toks:=s.toks + 1}:=
   I.turnedNew (ch:=[e,it]) (fun b ob hb q=>(sb.2 b (fun z=>hb (by simp[z]))).trans (hk b ob (fun z=>hb (by simp[z])) (fun z=>hb (by simp[z])) q)) hf (Nat.le_refl _) new
  refine⟨.ref s.heap.objs.size,_,I1,rfl,⟨_,x,rfl,I.hok.fresh (Nat.le_refl _),rfl,fun ys hy=>by rw[I.list_inj hy hq];exact hx⟩,⟨⟨u,?_⟩,hit'.at fun o q=>(sb.2 it (Ne.symm hne)).trans q,hne⟩,fun b hb=>?_⟩
  ·have e1:((i + 1:Nat):Int)=(i:Int) + 1:=by omega
   rw[e1];exact he'
  ·have hb':b < s.heap.objs.size:=by
    have e':b=e∨b=it:=by simpa using hb
    rcases e' with z|z
    ·rw[z];exact hel
    ·rw[z];exact hil
   rw[Ak (Nat.ne_of_lt hb')];exact(hf b hb).1
 done:=by
  intro X hP hw hK hc i pins s σ H E I hf st hg;subst hP hw hK;obtain⟨⟨old,he⟩,hit,hne⟩ :=st;obtain⟨xs,hq,hx⟩ :=hg;obtain⟨its,rv,p,hz⟩ :=I.list hq;obtain⟨f0,f1,f2,f3,f4,f5⟩ :=hf it (by simp);have hl:=rv.length;exact wpAny_pyNext_enum_end (I.ok.hd hc) he hit p.isList (by simp;omega) fun h' eb=> ⟨rfl,I.turned (t':=s.toks) (fun b o hb q=>eb b o hb q) f0 f1 f3 f4 f5⟩
 self:=fun A i s Q E st h=>let⟨⟨_,he⟩,_⟩ :=st;wpAny_pyIter_enum he h
def iEnum(K:PySem.W.Frag)(ta:TA):TI:=fun σ H R=>ta σ H fun vs H1=>∃a xs,vs= [.ref a]/\SqL K H1 a xs/\R (Ite K a) H1
theorem fJ{X:Cx}{e:Expr}{ta:TA}{p pos tpos:Pos}{elts:List Expr}{kk:Nat}(hg:Gl X "enumerate")(hm:X.mg "enumerate"=none)(ha:PA X [e] ta)(hs:starEach [e] X.env= [(false,eval e X.env)]:=by rfl):
  PI X (.Tuple elts kk tpos) (.Call (.Name "enumerate" p) [e] [] pos) (iEnum X.K ta):=by
 intro pins s σ H R I h;refine Call_ (Fq I hg hm boot_enumerate (PyProof.Rows.callWith_type1 (thn (ha pos pins s σ H _ I h) fun us s1 ⟨vs,H1,I1,r1,q1⟩ =>?_) hs rfl));obtain⟨a,xs,ex,hq,q⟩ :=q1;subst ex;cases r1 with
 |cons r rr=>
  cases rr;cases r;obtain⟨its,rv,p',hz⟩ :=I1.list hq;refine call_enumerate_list p'.isList fun h' he hit hsz hk=>wpAny_pyIter_enum he ?_;have I2:Inv X pins σ H1 {s1 with heap:=h'}:=I1.kept (t':=s1.toks) hk;refine⟨s1.heap.objs.size + 1,[s1.heap.objs.size + 1,s1.heap.objs.size],_,_,H1,rfl,I2,aB a (s1.heap.objs.size + 1) s1.heap.objs.size,⟨⟨.none,he⟩,hit,Nat.succ_ne_self _⟩,fun b hb=>?_,q⟩;have e':b=s1.heap.objs.size + 1∨b=s1.heap.objs.size:=by simpa using hb
  have hle:s1.heap.objs.size<=b:=by
   rcases e' with z|z
   ·rw[z];exact Nat.le_add_right _ _
   ·rw[z];exact Nat.le_refl _
  exact I1.fpOk hle (I1.hok.fresh hle)
theorem Ri:bootBuiltins "zip"=some (.type "zip"):=by decide +kernel
def Itz(K:PySem.W.Frag)(a b:Addr):It:=
 ⟨fun i H=>∃(xs ys:List V) (x y:V),SqL K H a xs/\SqL K H b ys/\xs[i]? =some x/\ys[i]? =some y,
  fun i H v H'=>∃T x y,v=.ref T/\H T=none/\H'=upd H T (.tup [x,y])/\(∀xs,SqL K H a xs->xs[i]? =some x)/\∀ys,SqL K H b ys->ys[i]? =some y,
  fun i H=>∃xs ys:List V,SqL K H a xs/\SqL K H b ys/\(xs.length<=i∨ys.length<=i)⟩
theorem dL{P:Program}{w:World}{K:PySem.W.Frag}{elts:List Expr}{kk:Nat}{tpos:Pos}{a b z TI TO i1 i2:Addr}(D:ZipApart z TI TO i1 i2 a b):
  Turn P w K (.Tuple elts kk tpos) (Itz K a b) [z,TI,TO,i1,i2] z (fun i h=>IsZip h z TI TO .none/\IsPair h TI (.ref i1) (.ref i2)/\(∃x y,IsPair h TO x y)/\h.IsListIter i1 a i/\h.IsListIter i2 b i) where
 mem:=by simp
 obj:=fun i h st c hc=>by
  obtain⟨hz,hTI,⟨x,y,hTO⟩,⟨o1,e1,_,d1⟩,⟨o2,e2,_,d2⟩⟩ :=st;have e':c=z∨c=TI∨c=TO∨c=i1∨c=i2:=by simpa using hc
  rcases e' with q|q|q|q|q
  ·rw[q];exact⟨_,hz,fun v q=>nomatch q⟩
  ·rw[q];exact⟨_,hTI,fun v q=>nomatch q⟩
  ·rw[q];exact⟨_,hTO,fun v q=>nomatch q⟩
  ·rw[q];exact⟨o1,e1,fun v q=>by rw[d1]at q;cases q⟩
  ·rw[q];exact⟨o2,e2,fun v q=>by rw[d2]at q;cases q⟩
 keep:=fun i h h' st k=>by
  obtain⟨hz,hTI,⟨x,y,hTO⟩,h1,h2⟩ :=st;exact⟨k z (by simp) _ hz,k TI (by simp) _ hTI,⟨x,y,k TO (by simp) _ hTO⟩,h1.at fun o q=>k i1 (by simp) o q,h2.at fun o q=>k i2 (by simp) o q⟩
 item:=by
  intro X hP hw hK hc i pins s σ H E I hf st hg;subst hP hw hK;obtain⟨hz,hTI,⟨x0,y0,hTO⟩,h1,h2⟩ :=st;obtain⟨xs,ys,x,y,hqx,hqy,hx,hy⟩ :=hg;obtain⟨its,rv,p,_⟩ :=I.list hqx;obtain⟨its2,rv2,p2,_⟩ :=I.list hqy;obtain⟨u,hu,ru⟩ :=rv.get hx;obtain⟨u2,hu2,ru2⟩ :=rv2.get hy;have hzl:z < s.heap.objs.size:=Heap.lt_size hz;refine wpAny_pyNext_zip_item D hz hTI hTO h1 h2 p.isList p2.isList (x:=u) (y:=u2) (by simpa using hu) (by simpa using hu2) fun h' z' TO' h1' h2' hT hsz hk=>?_;refine⟨_,rfl,wpAny_letOwnedTupleGo_zip (s:={s with heap:=h'}) z' fun h'' z'' sb=>?_⟩;have hT2:h''.get? s.heap.objs.size=some {cls:=.type "tuple",data:=.seq #[u,u2]}:=(sb.2 _ (Nat.ne_of_gt hzl)).trans hT;have new:ObjOk X.prog X.w (upd H s.heap.objs.size (.tup [x,y])) h'' s.heap.objs.size (.tup [x,y]):=
   ⟨by show 2<=sizeLine;decide,[u,u2],.cons ru (.cons ru2 .nil),⟨_,hT2,rfl,_,rfl⟩⟩
  have I1:Inv X pins σ (upd H s.heap.objs.size (.tup [x,y])) {s with heap:=h''}:=
   I.turnedNew (t':=s.toks) (ch:=[z,TI,TO,i1,i2]) (fun c o hb q=>(sb.2 c (fun q'=>hb (by simp[q']))).trans (hk c o (fun q'=>hb (by simp[q'])) (fun q'=>hb (by simp[q'])) (fun q'=>hb (by simp[q'])) (fun q'=>hb (by simp[q'])) q)) hf (Nat.le_refl _) new
  refine⟨.ref s.heap.objs.size,_,I1,rfl,⟨_,x,y,rfl,I.hok.fresh (Nat.le_refl _),rfl,fun l hl=>by rw[I.list_inj hl hqx];exact hx,fun l hl=>by rw[I.list_inj hl hqy];exact hy⟩,⟨z'',?_,⟨u,u2,?_⟩,?_,?_⟩,fun c hcm=>?_⟩
  ·exact(sb.2 _ D.TIz).trans (hk _ _ D.TIz D.TITO D.TIi1 D.TIi2 hTI)
  ·exact(sb.2 _ D.TOz).trans TO'
  ·exact h1'.at fun o q=>(sb.2 _ D.i1z).trans q
  ·exact h2'.at fun o q=>(sb.2 _ D.i2z).trans q
  ·have hlt:c < s.heap.objs.size:=by
    have e':c=z∨c=TI∨c=TO∨c=i1∨c=i2:=by simpa using hcm
    rcases e' with q|q|q|q|q
    ·rw[q];exact hzl
    ·rw[q];exact Heap.lt_size hTI
    ·rw[q];exact Heap.lt_size hTO
    ·rw[q];obtain⟨_,e1,_⟩ :=h1;exact Heap.lt_size e1
    ·rw[q];obtain⟨_,e2,_⟩ :=h2;exact Heap.lt_size e2
   rw[Ak (Nat.ne_of_lt hlt)];exact(hf c hcm).1
 done:=by
  intro X hP hw hK hc i pins s σ H E I hf st hg;subst hP hw hK;obtain⟨hz,hTI,⟨x0,y0,hTO⟩,h1,h2⟩ :=st;obtain⟨xs,ys,hqx,hqy,hend⟩ :=hg;obtain⟨its,rv,p,_⟩ :=I.list hqx;obtain⟨its2,rv2,p2,_⟩ :=I.list hqy;have l1:=rv.length;have l2:=rv2.length;have he:its.toArray[i]? =none∨its2.toArray[i]? =none:=by
   rcases hend with q|q
   ·exact .inl (by simp;omega)
   ·exact .inr (by simp;omega)
  exact wpAny_pyNext_zip_end (I.ok.hd hc) D hz hTI hTO h1 h2 p.isList p2.isList he fun h' hk=> ⟨rfl,I.turnedL (t':=s.toks) (ch:=[z,TI,TO,i1,i2]) (fun c o hb q=>
   hk c o (fun q'=>hb (by simp[q'])) (fun q'=>hb (by simp[q'])) (fun q'=>hb (by simp[q'])) (fun q'=>hb (by simp[q'])) q) hf⟩
 self:=fun A i s Q E st h=>wpAny_pyIter_zip st.1 h
def iZip(K:PySem.W.Frag)(ta:TA):TI:=fun σ H R=>ta σ H fun vs H1=>∃a b xs ys,vs= [.ref a,.ref b]/\SqL K H1 a xs/\SqL K H1 b ys/\R (Itz K a b) H1
theorem Tq{X:Cx}{e e2:Expr}{ta:TA}{p pos tpos:Pos}{elts:List Expr}{kk:Nat}(hg:Gl X "zip")(hm:X.mg "zip"=none)(ha:PA X [e,e2] ta)
  (hs:starEach [e,e2] X.env=(false,eval e X.env)::starEach [e2] X.env:=by rfl) (hpl:(backTo pos (starEach [e2] X.env)).any (·.1)=false:=by rfl):
  PI X (.Tuple elts kk tpos) (.Call (.Name "zip" p) [e,e2] [] pos) (iZip X.K ta):=by
 intro pins s σ H R I h;refine Call_ (Fq I hg hm Ri (PyProof.Rows.callWith_type1 (thn (ha pos pins s σ H _ I h) fun us s1 ⟨vs,H1,I1,r1,q1⟩ =>?_) hs hpl));obtain⟨a,b,xs,ys,ex,hqx,hqy,q⟩ :=q1;subst ex;cases r1 with
 |cons r rr=>
  cases rr with
  |cons r' rr=>
   cases rr;cases r;cases r';obtain⟨its,rv,p1,_⟩ :=I1.list hqx;obtain⟨its2,rv2,p2,_⟩ :=I1.list hqy;have la:a < s1.heap.objs.size:=p1.lt;have lb:b < s1.heap.objs.size:=p2.lt;refine call_zip_2 p1.isList p2.isList fun h' hz hTI hTO h1 h2 hsz hk=>wpAny_pyIter_zip hz ?_;have I2:Inv X pins σ H1 {s1 with heap:=h'}:=I1.kept (t':=s1.toks) hk;refine⟨s1.heap.objs.size + 4,[s1.heap.objs.size + 4,s1.heap.objs.size + 2,s1.heap.objs.size + 3,s1.heap.objs.size,s1.heap.objs.size + 1],_,_,H1,rfl,I2,dL (PySem.W.ktu_apart s1.heap.objs.size a b la lb),⟨hz,hTI,⟨_,_,hTO⟩,h1,h2⟩,fun c hcm=>?_,q⟩;have e':c=s1.heap.objs.size + 4∨c=s1.heap.objs.size + 2∨c=s1.heap.objs.size + 3∨c=s1.heap.objs.size∨c=s1.heap.objs.size + 1:=by simpa using hcm
   have hle:s1.heap.objs.size<=c:=by
    rcases e' with z|z|z|z|z
    ·rw[z];exact Nat.le_add_right _ _
    ·rw[z];exact Nat.le_add_right _ _
    ·rw[z];exact Nat.le_add_right _ _
    ·rw[z];exact Nat.le_refl _
    ·rw[z];exact Nat.le_add_right _ _
   exact I1.fpOk hle (I1.hok.fresh hle)
end L2
section
end
section
end
namespace L2
open PySem PySem.Spec PyProof.Rows
theorem Sc:∀l:List (Str×Tok),Vals ((l.map (·.1)).map V.str) (strValues l)
 | []=>.nil
 |p::r=>.cons ⟨p.2,rfl⟩ (Sc r)
theorem Gs:∀{ys:List Str} {us:List Value},Vals (ys.map V.str) us->StrsAre us ys
 | [],_,.nil=>.nil
 |y::ys,_,.cons r t=>by
  obtain⟨k,rfl⟩ :=r;exact .cons y k (Gs t)
def rNewStrs(ys:List Str):Hp->VK->Prop:=fun H Q=>∀p,H p=none->Q (.ref p) (upd H p (.lst (ys.map V.str)))
section
variable {X:Cx}{pins:List (Addr×Obj)}{σ:St}{H:Hp}{s:Shared}{Q:VK}
theorem Ly{l:List (Str×Tok)}{ys:List Str}{k:Nat}(I:Inv X pins σ H s)(e:l.map (·.1)=ys)(hz:ys.length<=sizeLine)(h:rNewStrs ys H Q):
  EP X pins σ Q (.ref s.heap.objs.size) {s with toks:=k,heap:=s.heap.push {cls:=.type "list",data:=.seq (strValues l).toArray}}:=by
 have hp:=I.hok.fresh (Nat.le_refl _);refine⟨.ref s.heap.objs.size,upd H s.heap.objs.size (.lst (ys.map V.str)),I.laid (fun b u q=>Heap.get?_push_of_some _ q) (Nat.le_refl _) ⟨by rw[List.length_map];exact hz,strValues l,_,?_,Heap.get?_push_size _ rfl⟩,rfl,h _ hp⟩;rw[<-e];exact Sc l
end
section
variable {X:Cx}
theorem bT:MtR X "str.split" (fun x xs H Q=>∃a b,x=.str a/\xs= [.str b]/\(b.length == 0)=false/\a.length + 2<=sizeLine/\rNewStrs (Txt.split a b) H Q):=by
 intro pins s σ H x xs v us Q I rx rs h;obtain⟨a,b,rfl,rfl,hb,hz,h⟩ :=h;obtain⟨t,rfl⟩ :=rx;cases rs with
 |cons r1 rs=>
  cases rs;obtain⟨u,rfl⟩ :=r1;have hl:(Txt.split a b).length<=sizeLine:=Nat.le_trans (PyProof.Rows.split_le a b) hz;have hn:(Builtin.Str.partsBetween a (Builtin.Str.occurrences a b 0 a.length (a.length + 1)) b.length).length<=sizeLine:=by
   have e1:=StrLaws.occ_length_le a b 0 a.length (a.length + 1);rw[length_partsBetween];omega
  cases h1:(decide (a.length < b.length) || decide (Builtin.Str.strKind a < Builtin.Str.strKind b))
  ·cases hf:(Builtin.Str.occurrences a b 0 a.length (a.length + 1)).isEmpty
   ·refine call_meets F.slot_str_split (typeIs_str _ _ _) F.entry_str_split (F.args_str_split_2 _ _) (meets_str_split_sep a b t u h1 hb hf (by omega) hn) ?_;show EP X pins σ Q (.ref s.heap.objs.size) {s with toks:=_,heap:=s.heap.push {cls:=.type "list",data:=.seq (strsFrom s.toks (Builtin.Str.partsBetween a (Builtin.Str.occurrences a b 0 a.length (a.length + 1)) b.length)).toArray}};rw[strsFrom_eq];exact Ly (ys:=Txt.split a b) I ((numbered_texts _ _).trans ((if_neg (ne_true_of_eq_false h1)).trans (if_neg (ne_true_of_eq_false hf))).symm) hl h
   ·refine call_meets F.slot_str_split (typeIs_str _ _ _) F.entry_str_split (F.args_str_split_2 _ _) (meets_str_split_not_found a b t u h1 hb hf) ?_;exact Ly (l:=[(a,t)]) (ys:=Txt.split a b) (k:=s.toks) I ((if_neg (ne_true_of_eq_false h1)).trans (if_pos hf)).symm hl h
  ·refine call_meets F.slot_str_split (typeIs_str _ _ _) F.entry_str_split (F.args_str_split_2 _ _) (meets_str_split_cannot_occur a b t u h1) ?_;exact Ly (l:=[(a,t)]) (ys:=Txt.split a b) (k:=s.toks) I (if_pos h1).symm hl h
theorem eW:MtR X "str.join" (fun x xs H Q=>∃a p,∃ys:List Str,x=.str a/\xs= [.ref p]/\(SqL X.K H p (ys.map V.str)∨SqT X.K H p (ys.map V.str))/\
  (ys.map (·.length)).sum + ys.length * a.length<=16777216/\Q (.str (Txt.join a ys)) H):=by
 intro pins s σ H x xs v us Q I rx rs h;obtain⟨a,p,ys,rfl,rfl,hp,hz,h⟩ :=h;obtain⟨t,rfl⟩ :=rx;cases rs with
 |cons r1 rs=>
  cases rs;cases r1;rcases hp with hp|hp
  ·obtain⟨its,r,⟨o,n,ho,hc,_,hd⟩,_⟩ :=I.list hp;exact PyProof.Rows.join_list (items:=its.toArray) ⟨o,ho,hc,n,hd⟩ (by rw[List.toList_toArray];exact Gs r) hz fun t' k=> ⟨.str _,H,I.tok k,⟨t',rfl⟩,h⟩
  ·obtain⟨its,r,ht,_⟩ :=I.tuple hp;exact PyProof.Rows.join_tuple (items:=its.toArray) ht (by rw[List.toList_toArray];exact Gs r) hz fun t' k=> ⟨.str _,H,I.tok k,⟨t',rfl⟩,h⟩
theorem mt0{id:String}{C:Str->Prop}{g:Str->V} (rule:∀(a:Str) (t:Tok) (s:Shared) (Q:Value->Shared->Prop),C a->(∀(u:Value) (k:Nat),RelV (g a) u->Q u {s with toks:=k})->
  wpAny (model X.prog X.w) X.A (call (.builtin id) [.str a t]) Q X.xe s):MtR X id (fun x xs H Q=>∃a,x=.str a/\xs= []/\C a/\Q (g a) H):=by
 intro pins s σ H x xs v us Q I rx rs h;obtain⟨a,rfl,rfl,hc,h⟩ :=h;obtain⟨t,rfl⟩ :=rx;cases rs;exact rule a t s _ hc fun u k r=> ⟨g a,H,I.tok k,r,h⟩
theorem Xc:MtR X "str.isdigit" (fun x xs H Q=>∃a,x=.str a/\xs= []/\True/\Q (.bl (Txt.isdigit a)) H):=
 mt0 (C:=fun _=>True) (g:=fun a=>.bl (Txt.isdigit a)) fun _ _ s _ _ h=>PySem.SC.isdigit (h _ s.toks rfl)
theorem Si:CallR X (.type "int") (fun xs H Q=>∃a n,xs= [.str a]/\PySem.intText? a=some n/\a.length<=640/\Q (.int n) H):=by
 intro pins s σ H xs us Q I rs h;obtain⟨a,n,rfl,hn,hl,h⟩ :=h;cases rs with
 |cons r1 rs=>
  cases rs;obtain⟨t,rfl⟩ :=r1;exact PySem.W.KIN.call_text hn hl ⟨.int n,H,I.tok _,⟨_,rfl⟩,h⟩
end
section
variable {X:Cx}{o e:Expr}{to te:TE}
def tM0(r:V->List V->Hp->VK->Prop)(to:TE):TE:=fun σ H Q=>to σ H fun x H1=>(∃a,x=.str a)/\r x [] H1 Q
def tM1(r:V->List V->Hp->VK->Prop)(to te:TE):TE:=fun σ H Q=>to σ H fun x H1=>(∃a,x=.str a)/\te σ H1 fun y H2=>r x [y] H2 Q
theorem iS{id:String}{name:Str}{apos pos:Pos}{r:V->List V->Hp->VK->Prop}(slot:Slot "str" name id)(ty:typeOf (.builtin id)=pure (.type "method_descriptor"))(rule:MtR X id r)(ho:PE X o to)
  (hbase:attributeBase o name X.env (eval o X.env)=eval o X.env:=by rfl) (hline:(apos.endLine == pos.line)=true:=by rfl):PE X (.Call (.Attribute o name apos) [] [] pos) (tM0 r to):=by
 intro pins s σ H Q I h;refine PySem.Call_method0 hbase hline (thn (ho pins s σ H _ I h) fun v s1 ⟨x,H1,I1,r1,q1⟩ =>?_);obtain⟨⟨a,rfl⟩,q1⟩ :=q1;obtain⟨t,rfl⟩ :=_root_.id r1;exact⟨"str",_,F.plainAttrs_str,slot,ty,typeIs_str _ _ _,(fun _ e=>nomatch e),Calls.callWith_builtin rfl (PySem.evalArgs_none (rule pins s1 σ H1 _ [] _ [] Q I1 r1 .nil q1))⟩
theorem gD{id:String}{name:Str}{apos pos:Pos}{r:V->List V->Hp->VK->Prop}(slot:Slot "str" name id)(ty:typeOf (.builtin id)=pure (.type "method_descriptor"))(rule:MtR X id r)(ho:PE X o to)(he:PE X e te)
  (hs:starEach [e] X.env= [(false,eval e X.env)]:=by rfl) (hbase:attributeBase o name X.env (eval o X.env)=eval o X.env:=by rfl) (hline:(apos.endLine == pos.line)=true:=by rfl):
  PE X (.Call (.Attribute o name apos) [e] [] pos) (tM1 r to te):=by
 intro pins s σ H Q I h;refine PySem.Call_method1 hbase hs hline (thn (ho pins s σ H _ I h) fun v s1 ⟨x,H1,I1,r1,q1⟩ =>?_);obtain⟨⟨a,rfl⟩,q1⟩ :=q1;obtain⟨t,rfl⟩ :=_root_.id r1;refine⟨"str",_,F.plainAttrs_str,slot,ty,typeIs_str _ _ _,(fun _ e=>nomatch e),Calls.callWith_builtin rfl (Calls.evalArgs_plain (Calls.spliced_cons ?_))⟩;exact thn (he pins s1 σ H1 _ I1 q1) fun u s2 ⟨y,H2,I2,r2,q2⟩ =>Calls.spliced_nil (rule pins s2 σ H2 _ [y] _ [u] Q I2 r1 (.cons r2 .nil) q2)
theorem Vj{apos pos:Pos}(ho:PE X o to)(he:PE X e te)(hs:starEach [e] X.env= [(false,eval e X.env)]:=by rfl)(hbase:attributeBase o "split" X.env (eval o X.env)=eval o X.env:=by rfl)(hline:(apos.endLine == pos.line)=true:=by rfl):
  PE X (.Call (.Attribute o "split" apos) [e] [] pos) (tM1 (fun x xs H Q=>∃a b,x=.str a/\xs= [.str b]/\(b.length == 0)=false/\a.length + 2<=sizeLine/\rNewStrs (Txt.split a b) H Q) to te):=
 gD F.slot_str_split F.type_str_split bT ho he hs hbase hline
theorem To{apos pos:Pos}(ho:PE X o to)(he:PE X e te)(hs:starEach [e] X.env= [(false,eval e X.env)]:=by rfl)(hbase:attributeBase o "join" X.env (eval o X.env)=eval o X.env:=by rfl)(hline:(apos.endLine == pos.line)=true:=by rfl):
  PE X (.Call (.Attribute o "join" apos) [e] [] pos) (tM1 (fun x xs H Q=>∃a p,∃ys:List Str,x=.str a/\xs= [.ref p]/\(SqL X.K H p (ys.map V.str)∨SqT X.K H p (ys.map V.str))/\
   (ys.map (·.length)).sum + ys.length * a.length<=16777216/\Q (.str (Txt.join a ys)) H) to te):=
 gD F.slot_str_join F.type_str_join eW ho he hs hbase hline
end
end L2
namespace L2
open PySem PySem.Spec PyProof.Rows
section
variable {X:Cx}
theorem Xm:OpR X (compareOp .In) (fun x y H Q=>∃(c:Nat) (z:Str),x=.str ⟨#[c]⟩ /\y=.str z/\Q (.bl (decide (c∈z.cps.toList))) H):=by
 intro pins s σ H x y v u Q I rx ry h;obtain⟨c,z,rfl,rfl,q⟩ :=h;obtain⟨t,rfl⟩ :=rx;obtain⟨t',rfl⟩ :=ry;exact PyProof.Rows.in_str (Bb I q (PySem.StrLaws.found_one z c).symm)
end
def clipS(n d:Nat):Option Int->Int
 |none=>(d:Int)
 |some i=>max 0 (min (if i < 0 then i + (n:Int)else i) (n:Int))
theorem aN(n d:Nat)(o:Option Int):clipS n d o=((HT.sIx n d o:Nat):Int):=by
 cases o with
 |none=>rfl
 |some v=>
  show max (0:Int) (min (if v < 0 then v + (n:Int)else v) (n:Int))=(((if v < 0 then(v + (n:Int)).toNat else min v.toNat n):Nat):Int);by_cases hv:v < 0
  ·simp only [if_pos hv];omega
  ·simp only [if_neg hv];omega
end L2
namespace L2
open PySem PySem.Spec PyProof.Rows
def inClass(s:Stmt)(j:Nat):Stmt:=match s with
 |.ClassDef _ _ _ body _ _ _ _ _ _ _=>body.getD j (.Pass ⟨0,0,0,0⟩)
 |_=>.Pass ⟨0,0,0,0⟩
def defArgs(s:Stmt):Arguments:=match s with
 |.FunctionDef _ a _ _ _ _ _ _ _ _=>a
 |_=>{posonlyargs:=[],args:=[],vararg:=none,kwonlyargs:=[],kw_defaults:=[],kwarg:=none,defaults:=[]}
def defBody(s:Stmt):List Stmt:=match s with
 |.FunctionDef _ _ b _ _ _ _ _ _ _=>b
 |_=>[]
def defScope(s:Stmt):Scope:=match s with
 |.FunctionDef _ _ _ _ _ _ sc _ _ _=>sc
 |_=>{kind:=.function,names:=[],isGenerator:=false,isCoroutine:=false}
abbrev CX0:CXT:=fun _ _ _ _ _ _=>False
abbrev E0:XK:=fun _ _ _=>False
theorem pass0{X:Cx}:Passes CX0 X E0:=fun _ _ _ _ _ _ _ h=>h.elim
structure Fun(K:PySem.W.Frag)(x qual:Str)(st:Stmt)(f:Addr)(fd:FuncData):Prop where
 ex:∃(oc:Value) (od:Option Addr) (kV doc pm:Value) (an:Option Addr) (cdv ct:Value) (osl:Array (Option Value)),
  fd=PySem.W.fnOf x qual (defArgs st) (defBody st) (defScope st) .none kV doc pm an cdv ct/\K.lookup f=some ⟨oc,od,.func fd,osl⟩ /\PySem.W.codeIn K cdv qual=true
 kp:PySem.W.keepIn K (.ref f)=true
section
variable {P:Program}{w:World}{K:PySem.W.Frag}{mg:Str->Option Value}{base:Heap}
theorem Fun.ok{x qual:Str}{st:Stmt}{f:Addr}{fd:FuncData}{N ps:List Str}{k:Nat}{sp:Sp}(F:Fun K x qual st f fd)(S:FnScope N ps (defScope st))(len:∀vs H Q E,sp vs H Q E->vs.length=ps.length)
  (hbody:∀(cdv:Value) (A:Around) (outer:List Env) (s:Shared) (H:Hp) (vs:List V) (Q:VK) (E:XK),Room k (A.deeper (envOfC qual (defScope st) s.heap.objs.size f cdv))->sp vs H Q E->
   ∃t,PSs (cxOf CX0 P w K mg base N qual (defScope st) f cdv A outer s H E).nox (defBody st) t/\t {nx:=fun _ H'=>Q .non H',rt:=Q} (start N vs) H):FnOk P w K mg base CX0 (k + 1) f fd ps sp:=by
 obtain⟨oc,od,kV,doc,pm,an,cdv,ct,osl,rfl,lk,hcd⟩ :=F.ex;refine iO lk hcd S len fun A outer s H vs Q E hr hsp=>?_;obtain⟨t,h,q⟩ :=hbody cdv A outer s H vs Q E hr hsp;exact⟨t,h.nox,q⟩
theorem Fun.binds{x qual:Str}{st:Stmt}{f:Addr}{fd:FuncData}{ps:List Str}(F:Fun K x qual st f fd)
  (h:∀(kV doc pm:Value) (an:Option Addr) (cdv ct:Value) (us:List Value),us.length=ps.length->bindArgs (PySem.W.fnOf x qual (defArgs st) (defBody st) (defScope st) .none kV doc pm an cdv ct) ⟨us,[]⟩ =pure (ps.zip us)):Binds K fd ps []:=by
 obtain⟨oc,od,kV,doc,pm,an,cdv,ct,osl,rfl,lk,hcd⟩ :=F.ex;exact .all (h kV doc pm an cdv ct)
theorem W0{x qual:Str}{st:Stmt}{f:Addr}{oc:Value}{od an:Option Addr}{osl:Array (Option Value)}{kV doc pm cdv ct:Value}(l:K.lookup f=some ⟨oc,od,.func (PySem.W.fnOf x qual (defArgs st) (defBody st) (defScope st) .none kV doc pm an cdv ct),osl⟩)
  (c:PySem.W.codeIn K cdv qual=true) (k:PySem.W.keepIn K (.ref f)=true):Fun K x qual st f (PySem.W.fnOf x qual (defArgs st) (defBody st) (defScope st) .none kV doc pm an cdv ct):= ⟨⟨oc,od,kV,doc,pm,an,cdv,ct,osl,rfl,l,c⟩,k⟩
end
theorem small1000{n:Nat}(h:n<=1000):n < sizeLine:=Nat.lt_of_le_of_lt h (by decide)
section
variable {X:Cx}
theorem pv(i:Nat){x:Str}{pos:Pos}(hN:X.N[i]? =some x:=by rfl)(hv:Vis X.env.scope x:=by first|exact Or.inl rfl|exact Or.inr (Or.inl rfl)|exact Or.inr (Or.inr rfl))(hd:(x == ("__debug__":Str))=false:=by decide)
  (hcd:(x == ("__classdict__":Str))=false:=by decide):PE X (.Name x pos) (tVar i):=iG hN hv hd hcd
end
theorem iteF{A B:Prop}(h:B):if false=true then A else B:=by
 rw[if_neg Bool.false_ne_true];exact h
theorem iteT{A B:Prop}(h:A):if true=true then A else B:=by
 rw[if_pos rfl];exact h
theorem iteNS{c A B:Prop}[Decidable c](hc:c)(h:B):if (!decide c)=true then A else B:=by
 rw[decide_eq_true hc];exact iteF h
def Same(H H':Hp):Prop:=∀b o,H b=some o->H' b=some o
theorem Same.refl(H:Hp):Same H H:=fun _ _ h=>h
theorem Same.trans{H H1 H2:Hp}(a:Same H H1)(b:Same H1 H2):Same H H2:=fun c o h=>b c o (a c o h)
theorem Same.free{H H':Hp}(e:Same H H'){l:Addr}(h:H' l=Option.none):H l=Option.none:=by
 cases q:H l with
 |none=>rfl
 |some o=>
  rw[e l o q]at h;cases h
theorem Same.seq{K:PySem.W.Frag}{H H':Hp}{a:Addr}{xs:List V}(e:Same H H')(h:SqL K H a xs):SqL K H' a xs:=by
 rcases h with(h| ⟨o,h⟩)|h
 ·exact .inl (.inl (e _ _ h))
 ·exact .inl (.inr ⟨o,e _ _ h⟩)
 ·exact .inr h
theorem Same.made{H H1:Hp}{x dx C:Addr}(nx:H x=Option.none)(nd:H dx=Option.none)(k:∀b o,(upd (upd H dx (.own x)) x (.ins C dx [])) b=some o->b≠x->H1 b=some o):Same H H1:=fun b o e=>
 k b o (by rw[Ak (Al e nx),Ak (Al e nd)];exact e) (Al e nx)
end L2
section
set_option Elab.async false
set_option linter.all false
set_option maxRecDepth 100000
set_option maxHeartbeats 2000000
namespace L2
open PySem PySem.Spec PyProof.Rows
open PySem.W (WData Codec OpenSpec Well WellAll ReadsW ReadsAllW)
mutual
inductive Dw(K:PySem.W.Frag)(H:Hp):V->WData->Prop
 |non:Dw K H .non .none
 |bl (b:Bool):Dw K H (.bl b) (.bool b)
 |int (i:Int):Dw K H (.int i) (.int i)
 |str (x:Str):Dw K H (.str x) (.str x)
 |byt (b:Array UInt8):Dw K H (.byt b) (.bytes b.toList)
 |lst {a:Addr} {xs:List V} {ds:List WData}:SqL K H a xs->DwAll K H xs ds->Dw K H (.ref a) (.list ds)
 |tup {a:Addr} {xs:List V} {ds:List WData}:SqT K H a xs->DwAll K H xs ds->Dw K H (.ref a) (.tuple ds)
inductive DwAll(K:PySem.W.Frag)(H:Hp):List V->List WData->Prop
 |nil:DwAll K H [] []
 |cons {v:V} {vs:List V} {d:WData} {ds:List WData}:Dw K H v d->DwAll K H vs ds->DwAll K H (v::vs) (d::ds)
end
theorem Yi{K:PySem.W.Frag}{H:Hp}:∀ns:List Int,DwAll K H (ns.map V.int) (ns.map WData.int)
 | []=>.nil
 |n::r=>.cons (.int n) (Yi r)
theorem Ym{K:PySem.W.Frag}{H:Hp}:∀(ns:List Int) (xs:List V),DwAll K H xs (ns.map WData.int)->xs=ns.map V.int
 | [],xs,h=>by
  cases h;rfl
 |n::r,xs,h=>by
  cases h with
  |cons h1 h2=>
   cases h1;rw[Ym r _ h2]<;>rfl
section
variable {P:Program}{w:World}{K:PySem.W.Frag}{H:Hp}{h:Heap}{R:PySem.W.WRecords}{cl:Str->Option Addr}
theorem iI{a:Addr}{xs:List V}(hok:HOk P w H h)(KX:K.In h)(q:SqL K H a xs):∃(its:List Value) (o:Obj) (n:Nat),Vals xs its/\h.get? a=some o/\o.cls=.type "list"/\o.data=.seq its.toArray n:=by
 rcases q with q| ⟨o,its,n,e,hc,_,hd,_,hv⟩
 ·obtain⟨_,its,n,hv,e⟩ :=(show ObjOk P w H h a (.lst xs) from q.ok hok);exact⟨its,_,n,hv,e,rfl,rfl⟩
 ·exact⟨its.toList,o,n,hv,KX _ _ e,hc,by simp[hd]⟩
theorem iJ{a:Addr}{xs:List V}(hok:HOk P w H h)(KX:K.In h)(q:SqT K H a xs):∃(its:List Value) (o:Obj) (n:Nat),Vals xs its/\h.get? a=some o/\o.cls=.type "tuple"/\o.data=.seq its.toArray n:=by
 rcases q with q| ⟨o,its,n,e,hc,hd,_,hv⟩
 ·obtain⟨_,its,hv,o,e,hc,n,hd⟩ :=(show ObjOk P w H h a (.tup xs) from q.ok hok);exact⟨its,o,n,hv,e,hc,hd⟩
 ·exact⟨its.toList,o,n,hv,KX _ _ e,hc,by simp[hd]⟩
mutual
theorem Dw.reads(hok:HOk P w H h)(KX:K.In h):∀(d:WData) (v:V) (u:Value),Dw K H v d->RelV v u->∃as,ReadsW R cl h u d as
 |.none,_,_,x,r=>by
  cases x;cases r;exact⟨_,ReadsW.none⟩
 |.bool b,_,_,x,r=>by
  cases x;cases r;exact⟨_,ReadsW.bool b⟩
 |.int i,_,_,x,r=>by
  cases x;obtain⟨t,rfl⟩ :=r;exact⟨_,ReadsW.int i t⟩
 |.str s,_,_,x,r=>by
  cases x;obtain⟨t,rfl⟩ :=r;exact⟨_,ReadsW.str s t⟩
 |.bytes b,_,_,x,r=>by
  cases x;obtain⟨t,rfl⟩ :=r;exact⟨_,ReadsW.bytes _ t⟩
 |.list ds,_,_,x,r=>by
  cases x with
  |lst hs ha=>
   cases r;obtain⟨its,o,n,rv,ho,hc,hd⟩ :=iI hok KX hs;obtain⟨as,hr⟩ :=Dw.readsAll hok KX ds _ its ha rv;exact⟨_,ReadsW.list ho hc hd hr⟩
 |.tuple ds,_,_,x,r=>by
  cases x with
  |tup hs ha=>
   cases r;obtain⟨its,o,n,rv,ho,hc,hd⟩ :=iJ hok KX hs;obtain⟨as,hr⟩ :=Dw.readsAll hok KX ds _ its ha rv;exact⟨_,ReadsW.tuple ho hc hd hr⟩
 |.float _,_,_,x,_=>by cases x
 |.dict _,_,_,x,_=>by cases x
 |.bytearray _,_,_,x,_=>by cases x
 |.set _,_,_,x,_=>by cases x
 |.frozenset _,_,_,x,_=>by cases x
 |.obj _ _,_,_,x,_=>by cases x
theorem Dw.readsAll(hok:HOk P w H h)(KX:K.In h):∀(ds:List WData) (vs:List V) (us:List Value),DwAll K H vs ds->Vals vs us->∃as,ReadsAllW R cl h us ds as
 | [],_,_,x,r=>by
  cases x;cases r;exact⟨_,ReadsAllW.nil⟩
 |d::ds,_,_,x,r=>by
  cases x with
  |cons h1 h2=>
   cases r with
   |cons r1 r2=>
    obtain⟨as,q1⟩ :=Dw.reads hok KX d _ _ h1 r1;obtain⟨bs,q2⟩ :=Dw.readsAll hok KX ds _ _ h2 r2;exact⟨_,ReadsAllW.cons q1 q2⟩
end
end
mutual
def plW:WData->Bool
 |.none=>true
 |.bool _=>true
 |.int _=>true
 |.str _=>true
 |.bytes _=>true
 |.list xs=>plWs xs
 |.tuple xs=>plWs xs
 |_=>false
def plWs:List WData->Bool
 | []=>true
 |x::r=>plW x&&plWs r
end
theorem Vk{α:Type}{f:α->WData}(h:∀a,plW (f a)=true):∀l:List α,plWs (l.map f)=true
 | []=>rfl
 |x::r=>by
  show(plW (f x)&&plWs (r.map f))=true;rw[h x,Vk h r]<;>rfl
theorem Hz:∀(c:Codec) (a:c.denote),plW (c.enc a)=true
 |.unit,_=>rfl
 |.bool,_=>rfl
 |.int _ _,_=>rfl
 |.nat _ _,_=>rfl
 |.u8,_=>rfl
 |.bytes _ _,_=>rfl
 |.text _ _ _ _,_=>rfl
 |.list _ _ c,a=>Vk (fun x=>Hz c x) a
 |.pair c d,a=>by
  show(plW (c.enc a.1)&&(plW (d.enc a.2)&&true))=true;rw[Hz c a.1,Hz d a.2]<;>rfl
 |.triple c d e,a=>by
  show(plW (c.enc a.1)&&(plW (d.enc a.2.1)&&(plW (e.enc a.2.2)&&true)))=true;rw[Hz c a.1,Hz d a.2.1,Hz e a.2.2]<;>rfl
 |.option c,none=>rfl
 |.option c,some x=>Hz c x
theorem Rw:∀(cs:List Codec) (a:Codec.denoteAll cs),plWs (Codec.encAll cs a)=true
 | [],_=>rfl
 |c::cs,a=>by
  show(plW (c.enc a.1)&&plWs (Codec.encAll cs a.2))=true;rw[Hz c a.1,Rw cs a.2]<;>rfl
theorem Kf:∀{xs:List WData} {d:WData},d∈xs->d.weight<=WData.weightAll xs
 | [],d,h=>absurd h (by simp)
 |x::r,d,h=>by
  show d.weight<=x.weight + 1 + WData.weightAll r;rcases List.mem_cons.mp h with e|m
  ·rw[e];omega
  ·have z:=Kf m;omega
def toV:Value->V
 |.none=>.non
 |.bool b=>.bl b
 |.int i _=>.int i
 |.str x _=>.str x
 |.bytes b _=>.byt b
 |.ref a=>.ref a
 |_=>.non
def OkU(A:List Addr):Value->Prop
 |.none=>True
 |.bool _=>True
 |.int _ _=>True
 |.str _ _=>True
 |.bytes _ _=>True
 |.ref a=>a∈A
 |_=>False
theorem OkU.mono{A B:List Addr}(h:∀a∈A,a∈B):∀{u:Value},OkU A u->OkU B u:=fun{u} x=>by
 cases u with
 |ref a=>exact h a x
 |none=>trivial
 |bool b=>trivial
 |int i t=>trivial
 |str s t=>trivial
 |bytes b t=>trivial
 |_=>exact False.elim x
theorem cS{A:List Addr}{u:Value}(x:OkU A u):RelV (toV u) u:=by
 cases u with
 |ref a=>rfl
 |none=>rfl
 |bool b=>rfl
 |int i t=>exact⟨t,rfl⟩
 |str s t=>exact⟨t,rfl⟩
 |bytes b t=>exact⟨t,rfl⟩
 |_=>exact False.elim x
theorem F7{A:List Addr}:∀{vs:List Value},(∀u∈vs,OkU A u)->Vals (vs.map toV) vs
 | [],_=>.nil
 |u::r,h=>.cons (cS (h u (List.mem_cons_self ..))) (F7 fun x hx=>h x (List.mem_cons_of_mem _ hx))
def ArgOb(h:Heap)(A:List Addr)(a:Addr):Prop:=∃vs:List Value,vs.length<=sizeLine/\(∀u∈vs,OkU A u)/\
 (h.get? a=some {cls:=.type "list",data:=.seq vs.toArray}∨h.get? a=some {cls:=.type "tuple",data:=.seq vs.toArray})
theorem ArgOb.mono{h:Heap}{A B:List Addr}{a:Addr}(k:∀a∈A,a∈B)(x:ArgOb h A a):ArgOb h B a:=by
 obtain⟨vs,h1,h2,h3⟩ :=x;exact⟨vs,h1,fun u hu=>(h2 u hu).mono k,h3⟩
theorem Fp{P:Params}{h:Heap}:∀{vs:List Value} {ds:List WData},WellAll P h vs ds->vs.length=ds.length
 |_,_,.nil=>rfl
 |_,_,.cons _ b=>by
  show _ + 1=_ + 1;rw[Fp b]
theorem Se{P:Params}{h:Heap}{v:Value}{ds:List WData}(x:Well P h v (.list ds)):∃(a:Addr) (vs:List Value),v=.ref a/\h.get? a=some {cls:=.type "list",data:=.seq vs.toArray}/\WellAll P h vs ds:=by
 cases x with
 |list ho hall=>exact⟨_,_,rfl,ho,hall⟩
theorem Qm{P:Params}{h:Heap}{v:Value}{ds:List WData}(x:Well P h v (.tuple ds)):∃(a:Addr) (vs:List Value),v=.ref a/\h.get? a=some {cls:=.type "tuple",data:=.seq vs.toArray}/\WellAll P h vs ds:=by
 cases x with
 |tuple ho hall=>exact⟨_,_,rfl,ho,hall⟩
theorem Sd{P:Params}{h:Heap}{us:List Value}{d:WData}{ds:List WData}(x:WellAll P h us (d::ds)):∃(v:Value) (vs:List Value),us=v::vs/\Well P h v d/\WellAll P h vs ds:=by
 cases x with
 |cons a b=>exact⟨_,_,rfl,a,b⟩
theorem Yr{n:Nat}(h:n<=1048576):n<=sizeLine:=Nat.le_trans h (by decide)
section
variable {P:Params}{h:Heap}
mutual
theorem aI:∀(d:WData) (v:Value),Well P h v d->plW d=true->d.weight<=1048576->∃A:List Addr,OkU A v/\∀a∈A,ArgOb h A a
 |.none,_,x,_,_=>by
  cases x;exact⟨[],trivial,fun a m=>absurd m (by simp)⟩
 |.bool b,_,x,_,_=>by
  cases x;exact⟨[],trivial,fun a m=>absurd m (by simp)⟩
 |.int i,_,x,_,_=>by
  cases x;exact⟨[],trivial,fun a m=>absurd m (by simp)⟩
 |.str s,_,x,_,_=>by
  cases x;exact⟨[],trivial,fun a m=>absurd m (by simp)⟩
 |.bytes b,_,x,_,_=>by
  cases x;exact⟨[],trivial,fun a m=>absurd m (by simp)⟩
 |.list ds,_,x,p,z=>by
  obtain⟨a,vs,rfl,ho,hall⟩ :=Se x;have z2:WData.weightAll ds<=1048576:=z;obtain⟨A,h1,h2⟩ :=Ki ds _ hall p fun d hd=>Nat.le_trans (Kf hd) z2;have k:∀b∈A,b∈a::A:=fun b hb=>List.mem_cons_of_mem _ hb;refine⟨a::A,List.mem_cons_self ..,fun b hb=>?_⟩;rcases List.mem_cons.mp hb with e|m
  ·rw[e];exact⟨vs,Yr (by rw[Fp hall];exact Nat.le_trans (PySem.W.length_le_weightAllW ds) z2),fun u hu=>(h1 u hu).mono k,.inl ho⟩
  ·exact(h2 b m).mono k
 |.tuple ds,_,x,p,z=>by
  obtain⟨a,vs,rfl,ho,hall⟩ :=Qm x;have z2:WData.weightAll ds<=1048576:=z;obtain⟨A,h1,h2⟩ :=Ki ds _ hall p fun d hd=>Nat.le_trans (Kf hd) z2;have k:∀b∈A,b∈a::A:=fun b hb=>List.mem_cons_of_mem _ hb;refine⟨a::A,List.mem_cons_self ..,fun b hb=>?_⟩;rcases List.mem_cons.mp hb with e|m
  ·rw[e];exact⟨vs,Yr (by rw[Fp hall];exact Nat.le_trans (PySem.W.length_le_weightAllW ds) z2),fun u hu=>(h1 u hu).mono k,.inr ho⟩
  ·exact(h2 b m).mono k
 |.float _,_,_,p,_=>Bool.noConfusion (show false=true from p)
 |.dict _,_,_,p,_=>Bool.noConfusion (show false=true from p)
 |.bytearray _,_,_,p,_=>Bool.noConfusion (show false=true from p)
 |.set _,_,_,p,_=>Bool.noConfusion (show false=true from p)
 |.frozenset _,_,_,p,_=>Bool.noConfusion (show false=true from p)
 |.obj _ _,_,_,p,_=>Bool.noConfusion (show false=true from p)
theorem Ki:∀(ds:List WData) (vs:List Value),WellAll P h vs ds->plWs ds=true->(∀d∈ds,d.weight<=1048576)->∃A:List Addr,(∀u∈vs,OkU A u)/\∀a∈A,ArgOb h A a
 | [],_,x,_,_=>by
  cases x;exact⟨[],fun u m=>absurd m (by simp),fun a m=>absurd m (by simp)⟩
 |d::ds,_,x,p,z=>by
  obtain⟨v,vs,rfl,x1,x2⟩ :=Sd x;have q:plW d=true/\plWs ds=true:=Bool.and_eq_true_iff.mp p;obtain⟨A,a1,a2⟩ :=aI d v x1 q.1 (z d (List.mem_cons_self ..));obtain⟨B,b1,b2⟩ :=Ki ds vs x2 q.2 fun e he=>z e (List.mem_cons_of_mem _ he);have kA:∀b∈A,b∈A++B:=fun b hb=>List.mem_append.mpr (.inl hb);have kB:∀b∈B,b∈A++B:=fun b hb=>List.mem_append.mpr (.inr hb);refine⟨A++B,fun u hu=>?_,fun b hb=>?_⟩
  ·rcases List.mem_cons.mp hu with e|m
   ·rw[e];exact a1.mono kA
   ·exact(b1 u m).mono kB
  ·rcases List.mem_append.mp hb with m|m
   ·exact(a2 b m).mono kA
   ·exact(b2 b m).mono kB
end
end
def hoOf(o:Obj):Option HO:=match o.data with
 |.seq vs _=>if (o.cls == Value.type "list")=true then some (.frz o (.lst (vs.toList.map toV)))else some (.frz o (.tup (vs.toList.map toV)))
 |_=>none
def argH(K:PySem.W.Frag)(h:Heap)(A:List Addr):Hp:=fun b=>if b∈A then(if (K.lookup b).isNone=true then(h.get? b).bind hoOf else none)else none
def OnlyF(H:Hp):Prop:=∀b,H b=none∨∃o u,H b=some (.frz o u)
theorem Up(vs:List Value):hoOf {cls:=.type "list",data:=.seq vs.toArray}=some (.frz {cls:=.type "list",data:=.seq vs.toArray} (.lst (vs.map toV))):=by
 show(if (Value.type "list" == Value.type "list")=true then some (HO.frz {cls:=.type "list",data:=.seq vs.toArray} (.lst (vs.toArray.toList.map toV)))else some (HO.frz {cls:=.type "list",data:=.seq vs.toArray} (.tup (vs.toArray.toList.map toV))))=_;rw[if_pos (beq_self_eq_true _)]
theorem Uq(vs:List Value):hoOf {cls:=.type "tuple",data:=.seq vs.toArray}=some (.frz {cls:=.type "tuple",data:=.seq vs.toArray} (.tup (vs.map toV))):=by
 show(if (Value.type "tuple" == Value.type "list")=true then some (HO.frz {cls:=.type "tuple",data:=.seq vs.toArray} (.lst (vs.toArray.toList.map toV)))else some (HO.frz {cls:=.type "tuple",data:=.seq vs.toArray} (.tup (vs.toArray.toList.map toV))))=_;rw[if_neg (by decide)]
section
variable {P:Program}{w:World}{K:PySem.W.Frag}{h:Heap}{A:List Addr}
theorem N3{b:Addr}{o:Obj}(hb:b∈A)(hk:K.lookup b=none)(e:h.get? b=some o):argH K h A b=hoOf o:=by
 unfold argH;rw[if_pos hb,hk,if_pos (show(none:Option Obj).isNone=true from rfl),e]<;>rfl
theorem eY{b:Addr}{u:HO}(q:argH K h A b=some u):b∈A/\K.lookup b=none:=by
 unfold argH at q;by_cases hb:b∈A
 ·rw[if_pos hb]at q;cases hk:K.lookup b with
  |none=>exact⟨hb,rfl⟩
  |some o=>
   rw[hk,if_neg (by simp)]at q;cases q
 ·rw[if_neg hb]at q;cases q
theorem N4(ar:∀a∈A,ArgOb h A a){b:Addr}{u:HO}(q:argH K h A b=some u):K.lookup b=none/\∃vs:List Value,vs.length<=sizeLine/\(∀u∈vs,OkU A u)/\
  ((h.get? b=some {cls:=.type "list",data:=.seq vs.toArray}/\u=.frz {cls:=.type "list",data:=.seq vs.toArray} (.lst (vs.map toV)))∨
   (h.get? b=some {cls:=.type "tuple",data:=.seq vs.toArray}/\u=.frz {cls:=.type "tuple",data:=.seq vs.toArray} (.tup (vs.map toV)))):=by
 obtain⟨hb,hk⟩ :=eY q;obtain⟨vs,h1,h2,h3⟩ :=ar b hb;refine⟨hk,vs,h1,h2,?_⟩;rcases h3 with e|e
 ·rw[N3 hb hk e,Up]at q;exact .inl ⟨e,(Option.some.inj q).symm⟩
 ·rw[N3 hb hk e,Uq]at q;exact .inr ⟨e,(Option.some.inj q).symm⟩
theorem Y6(ar:∀a∈A,ArgOb h A a):OnlyF (argH K h A):=fun b=>by
 cases q:argH K h A b with
 |none=>exact .inl rfl
 |some u=>
  obtain⟨_,vs,_,_,⟨_,e⟩ | ⟨_,e⟩⟩ :=N4 ar q
  ·exact .inr ⟨_,_,by rw[e]⟩
  ·exact .inr ⟨_,_,by rw[e]⟩
theorem eB(ar:∀a∈A,ArgOb h A a):HOk P w (argH K h A) h:=fun b u q=>by
 obtain⟨_,vs,h1,h2,⟨e,rfl⟩ | ⟨e,rfl⟩⟩ :=N4 ar q
 ·exact⟨e,by rw[List.length_map];exact h1,vs,_,F7 h2,e⟩
 ·exact⟨e,by rw[List.length_map];exact h1,vs,F7 h2,_,e,rfl,_,rfl⟩
theorem Od{c c':Value}{vs us:List Value}(e:(some {cls:=c,data:=.seq vs.toArray}:Option Obj)=some {cls:=c',data:=.seq us.toArray}):c=c'/\vs=us:=by
 have e1:=Option.some.inj e;have e2:c=c':=congrArg Obj.cls e1;have e3:Data.seq vs.toArray=Data.seq us.toArray:=congrArg Obj.data e1;injection e3 with e4
 refine⟨e2,?_⟩;have e5:=congrArg Array.toList e4;simpa using e5
theorem argL(KX:K.In h)(ar:∀a∈A,ArgOb h A a){a:Addr}{vs:List Value}(ha:a∈A)(e:h.get? a=some {cls:=.type "list",data:=.seq vs.toArray}):(∀u∈vs,OkU A u)/\SqL K (argH K h A) a (vs.map toV):=by
 obtain⟨us,h1,h2,h3⟩ :=ar a ha;have hu:us=vs:=by
  rcases h3 with q|q
  ·rw[e]at q;exact(Od q).2.symm
  ·rw[e]at q;exact absurd (Value.type.inj (Od q).1) (by decide)
 subst hu;refine⟨h2,?_⟩;cases hk:K.lookup a with
 |none=>exact .inl (.inr ⟨_,by rw[N3 ha hk e,Up]⟩)
 |some o=>
  have e2:=KX a o hk;rw[e]at e2;obtain rfl:=Option.some.inj e2;exact .inr ⟨_,us.toArray,_,hk,rfl,rfl,rfl,by rw[List.size_toArray];exact h1,by simpa using F7 h2⟩
theorem argT(KX:K.In h)(ar:∀a∈A,ArgOb h A a){a:Addr}{vs:List Value}(ha:a∈A)(e:h.get? a=some {cls:=.type "tuple",data:=.seq vs.toArray}):(∀u∈vs,OkU A u)/\SqT K (argH K h A) a (vs.map toV):=by
 obtain⟨us,h1,h2,h3⟩ :=ar a ha;have hu:us=vs:=by
  rcases h3 with q|q
  ·rw[e]at q;exact absurd (Value.type.inj (Od q).1) (by decide)
  ·rw[e]at q;exact(Od q).2.symm
 subst hu;refine⟨h2,?_⟩;cases hk:K.lookup a with
 |none=>exact .inl (.inr ⟨_,by rw[N3 ha hk e,Uq]⟩)
 |some o=>
  have e2:=KX a o hk;rw[e]at e2;obtain rfl:=Option.some.inj e2;exact .inr ⟨_,us.toArray,_,hk,rfl,rfl,by rw[List.size_toArray];exact h1,by simpa using F7 h2⟩
mutual
theorem gL{Pm:Params}(KX:K.In h)(ar:∀a∈A,ArgOb h A a):∀(d:WData) (v:Value),Well Pm h v d->plW d=true->OkU A v->Dw K (argH K h A) (toV v) d
 |.none,_,x,_,_=>by
  cases x;exact .non
 |.bool b,_,x,_,_=>by
  cases x;exact .bl b
 |.int i,_,x,_,_=>by
  cases x;exact .int i
 |.str s,_,x,_,_=>by
  cases x;exact .str s
 |.bytes b,_,x,_,_=>by
  cases x;have z:=Dw.byt (K:=K) (H:=argH K h A) b.toArray;exact z
 |.list ds,_,x,p,hu=>by
  obtain⟨a,vs,rfl,ho,hall⟩ :=Se x;obtain⟨h2,hs⟩ :=argL KX ar hu ho;exact .lst hs (Sn KX ar ds _ hall p h2)
 |.tuple ds,_,x,p,hu=>by
  obtain⟨a,vs,rfl,ho,hall⟩ :=Qm x;obtain⟨h2,hs⟩ :=argT KX ar hu ho;exact .tup hs (Sn KX ar ds _ hall p h2)
 |.float _,_,_,p,_=>Bool.noConfusion (show false=true from p)
 |.dict _,_,_,p,_=>Bool.noConfusion (show false=true from p)
 |.bytearray _,_,_,p,_=>Bool.noConfusion (show false=true from p)
 |.set _,_,_,p,_=>Bool.noConfusion (show false=true from p)
 |.frozenset _,_,_,p,_=>Bool.noConfusion (show false=true from p)
 |.obj _ _,_,_,p,_=>Bool.noConfusion (show false=true from p)
theorem Sn{Pm:Params}(KX:K.In h)(ar:∀a∈A,ArgOb h A a):∀(ds:List WData) (vs:List Value),WellAll Pm h vs ds->plWs ds=true->(∀u∈vs,OkU A u)->DwAll K (argH K h A) (vs.map toV) ds
 | [],_,x,_,_=>by
  cases x;exact .nil
 |d::ds,_,x,p,hu=>by
  obtain⟨v,vs,rfl,x1,x2⟩ :=Sd x;have q:plW d=true/\plWs ds=true:=Bool.and_eq_true_iff.mp p;exact .cons (gL KX ar d v x1 q.1 (hu _ (List.mem_cons_self ..))) (Sn KX ar ds vs x2 q.2 fun u m=>hu u (List.mem_cons_of_mem _ m))
end
end
theorem Z6{P:Program}{w:World}{K:PySem.W.Frag}{mg mb:Str->Option Value}{CX:CXT}{k:Nat}{fa:Addr}{fd:FuncData}{ps:List Str}{sp:Sp}{s₁:Shared}{vals:List Value}{ds:List WData}{R:PySem.W.WRecords}{cl:Str->Option Addr}{d0:WData}
  (KX:K.In s₁.heap) (hns:s₁.heap.Ns mainGlobals mg) (hb:s₁.heap.Ns builtinsNs mb) (hbb:∀x:Str,x≠"__name__"->mb x=bootBuiltins x) (hlim:s₁.heap.NoLimit) (hg:s₁.gens=#[])
  (hwl:WellAll w.params s₁.heap vals ds) (hpl:plWs ds=true) (hwt:∀d∈ds,d.weight<=1048576) (hr:Room k callerA)
  (F:∀base:Heap,K.In base->base.Ns mainGlobals mg->FnOk P w K mg base CX k fa fd ps sp) (hbind:∀(s:Shared) (us:List Value),us.length=ps.length->BindsTo s fd ⟨us,[]⟩ (ps.zip us)) (hlen:ds.length=ps.length)
  (hsp:∀(H:Hp) (xs:List V),OnlyF H->DwAll K H xs ds->sp xs H (fun v H'=>Dw K H' v d0) fun _ _ _=>False)
  (hCX:∀H e s',CX [] H s₁ (fun _ _ _=>False) e s'->False):
  codeAny (model P w) callerA (.call (.ref fa) ⟨vals,[]⟩) (fun r s'=>∃u as,r=.ok (.ret u)/\ReadsW R cl s'.heap u d0 as/\OldK s₁.heap s'.heap/\s'.os=s₁.os/\AllBare s'.gens) s₁:=by
 obtain⟨A,ho,ar⟩ :=Ki ds vals hwl hpl hwt;have hO:OnlyF (argH K s₁.heap A):=Y6 ar;have hok:HOk P w (argH K s₁.heap A) s₁.heap:=eB ar;have hS:=Sn KX ar ds vals hwl hpl ho;have hV:=F7 ho;have hK:∀b u,argH K s₁.heap A b=some u->K.lookup b=none:=fun b u q=>(N4 ar q).1;have noA:∀{b:Addr} {o:Obj} {es:Array DictEntry} {ep:Nat},s₁.heap.get? b=some o->o.data=.dict es ep->argH K s₁.heap A b=none:=fun{b o es ep} e d=>by
  cases q:argH K s₁.heap A b with
  |none=>rfl
  |some u=>
   obtain⟨_,vs,_,_,⟨e2,_⟩ | ⟨e2,_⟩⟩ :=N4 ar q
   ·rw[e2]at e;cases e;have d':Data.seq vs.toArray _=Data.dict es ep:=d;cases d'
   ·rw[e2]at e;cases e;have d':Data.seq vs.toArray _=Data.dict es ep:=d;cases d'
 generalize argH K s₁.heap A=H at hO hok hS hK noA;have base_of:∀{b:Addr} {o:Obj},s₁.heap.get? b=some o->H b=none->(hidT s₁.heap H).get? b=some o:=fun e n=>bE e n;have nsK:∀{b:Addr} {m:Str->Option Value},s₁.heap.Ns b m->(hidT s₁.heap H).Ns b m:=fun{b m} ⟨o,es,ep,e,d,r⟩ => ⟨o,es,ep,base_of e (noA e d),d,r⟩;have nK:∀b o,K.lookup b=some o->H b=none:=fun b o e=>by
  cases q:H b with
  |none=>rfl
  |some u=>
   rw[hK b u q]at e;cases e
 have hKb:K.In (hidT s₁.heap H):=fun b o e=>base_of (KX b o e) (nK b o e);have hM:Mod K mg (hidT s₁.heap H):= ⟨hKb,nsK hns,⟨mb,nsK hb,hbb⟩,let⟨mc,h1,h2⟩ :=hlim;⟨mc,nsK h1,h2⟩⟩;have e0:Env0 P w K mg (hidT s₁.heap H) callerA [] s₁ H:= ⟨rfl,hM,fun b o e=>eZ e,Nat.le_of_eq (Zi _ _),trivial,fun b hb=>absurd (show b∈([]:List Addr) from hb) (by simp),hok,.of_eq hg⟩;have hl:vals.length=ps.length:=by rw[Fp hwl];exact hlen
 refine codeAny_mono ((F _ hKb (nsK hns)).run callerA [] s₁ H ⟨vals,[]⟩ vals (vals.map toV) _ _ hr e0 (hbind s₁ vals hl) hV (hsp H _ hO hS)) fun r s' x=>?_;cases r with
 |error e=>exact(hCX H e s' x).elim
 |ok fl=>
  cases fl with
  |next=>exact False.elim x
  |brk=>exact False.elim x
  |cont=>exact False.elim x
  |ret u=>
   obtain⟨v,H',os,bare,un,hok',r',q⟩ :=x;have kept:∀b o,s₁.heap.get? b=some o->s'.heap.get? b=some o:=fun b o e=>by
    cases q2:H b with
    |none=>exact un.keep b o e q2 (by intro z;exact absurd (show b∈([]:List Addr) from z) (by simp)) (by simp)
    |some u2=>
     rcases hO b with z| ⟨ob,u3,z⟩
     ·rw[q2]at z;cases z
     ·have z2:=un.frzs b ob _ z;obtain⟨e1,_⟩ :=hok b _ z;obtain⟨e2,_⟩ :=hok' b _ z2;rw[e]at e1;cases e1;exact e2
   have KX':K.In s'.heap:=fun b o e=>kept b o (KX b o e);obtain⟨as,hrd⟩ :=Dw.reads (R:=R) (cl:=cl) hok' KX' d0 v u q r';exact⟨u,as,rfl,hrd,OldK.of_keep kept,os,bare⟩
theorem O4{ds:List WData}(h:WData.layableAll ds=true):∀d∈ds,d.weight<=1048576:=fun d hd=>
 (PySem.W.layableW_iff.mp (List.all_eq_true.mp h d hd)).2.2
theorem Oq:∀(cs:List Codec) (a:Codec.denoteAll cs),(Codec.encAll cs a).length=cs.length
 | [],_=>rfl
 |c::cs,a=>by
  show(Codec.encAll cs a.2).length + 1=cs.length + 1;rw[Oq cs a.2]
theorem aF{r:OpenSpec}{k:Nat}{q:Program}{loose:List Str}{XP:(Str->Option Value)->Heap->Prop}{YP:World->Heap->Prop}{d:DefRec}{K:Params->PySem.W.Frag}{CX:World->CXT}{ps:List Str}{sp:World->Sp}
  (hwell:r.wellSaid=true) (hdf:d.params.defaults= []) (hlen:r.args.length=ps.length) (hr:Room k callerA)
  (hY:∀(w:World) (h:Heap),YP w h->(K w.params).In h)
  (F:∀(w:World) (mg:Str->Option Value) (fa:Addr) (h:Heap),YP w h->(K w.params).In h->h.Ns mainGlobals mg->mg d.name=some (.ref fa)->
   ∃fd:FuncData,(∀(s:Shared) (us:List Value),us.length=ps.length->BindsTo s fd ⟨us,[]⟩ (ps.zip us))/\
    ∀base:Heap,(K w.params).In base->base.Ns mainGlobals mg->FnOk r.prog w (K w.params) mg base (CX w) k fa fd ps (sp w))
  (hsp:∀(w:World) (H:Hp) (xs:List V) (a:Codec.denoteAll r.args),OnlyF H->Codec.withinAll r.args a=true->Codec.app r.args r.asked a=true->DwAll (K w.params) H xs (Codec.encAll r.args a)->
   sp w xs H (fun v H'=>Dw (K w.params) H' v (r.ret.enc (Codec.app r.args r.f a))) fun _ _ _=>False)
  (hCX:∀(w:World) (H:Hp) (s:Shared) (e:Value) (s':Shared),CX w [] H s (fun _ _ _=>False) e s'->False):
  PySem.W.WalkOS q loose XP YP r d [] (fun f vs=>PySem.call f vs):=by
 intro w s_0 s₁ mg mb G Y fa o pm cd doc dV kV ho hd hcd hD hmg hg args vals as hpre hlay hrd hwl hlo;obtain⟨a,e1,e2⟩ :=PySem.W.os_pre_some hpre;obtain⟨e3,hwi⟩ :=Codec.encAll_of_decAll r.args args a e1;subst e3;have KX:=hY w _ Y;obtain⟨fd,hb,hF⟩ :=F w mg fa _ Y KX G.T.g hmg;refine PySem.W.enter_call (codeAny_mono (Z6 (R:=[]) (cl:=classAt s_0.heap) (d0:=r.ret.enc (Codec.app r.args r.f a)) KX G.T.g G.T.b G.T.builtins G.T.nolimit hg hwl (Rw _ _) (O4 hlay) hr hF hb (by rw[Oq];exact hlen)
  (fun H xs hO hS=>hsp w H xs a hO hwi e2 hS) fun H e s'=>hCX w H s₁ e s') fun r' s' hq=>?_)
 obtain⟨u,as',rfl,h1,h2,h3,h4⟩ :=hq;exact⟨.inl ⟨u,_,as',rfl,fun _=>rfl,h1,(OpenSpec.post_iff hwell hwi _ _).mpr rfl,fun z=>Bool.noConfusion (show false=true from z)⟩,h2,h3,h4⟩
theorem X7{r:OpenSpec}{k:Nat}{q:Program}{loose:List Str}{XP:(Str->Option Value)->Heap->Prop}{YP:World->Heap->Prop}{d:DefRec}{K:Params->PySem.W.Frag}{CX:CXT}{ps:List Str}{sp:PySem.W.Frag->Sp}
  (hwell:r.wellSaid=true) (hdf:d.params.defaults= []) (hlen:r.args.length=ps.length) (hr:Room k callerA)
  (hY:∀(w:World) (h:Heap),YP w h->(K w.params).In h)
  (F:∀(w:World) (mg:Str->Option Value) (fa:Addr) (h:Heap),YP w h->(K w.params).In h->h.Ns mainGlobals mg->mg d.name=some (.ref fa)->
   ∃fd:FuncData,(∀(s:Shared) (us:List Value),us.length=ps.length->BindsTo s fd ⟨us,[]⟩ (ps.zip us))/\
    ∀base:Heap,(K w.params).In base->base.Ns mainGlobals mg->FnOk r.prog w (K w.params) mg base CX k fa fd ps (sp (K w.params)))
  (hsp:∀(K:PySem.W.Frag) (H:Hp) (xs:List V) (a:Codec.denoteAll r.args),OnlyF H->Codec.withinAll r.args a=true->Codec.app r.args r.asked a=true->DwAll K H xs (Codec.encAll r.args a)->
   sp K xs H (fun v H'=>Dw K H' v (r.ret.enc (Codec.app r.args r.f a))) fun _ _ _=>False)
  (hCX:∀(H:Hp) (s:Shared) (e:Value) (s':Shared),CX [] H s (fun _ _ _=>False) e s'->False):
  PySem.W.WalkOS q loose XP YP r d [] (fun f vs=>PySem.call f vs):=
 aF (K:=K) (CX:=fun _=>CX) (sp:=fun w=>sp (K w.params)) hwell hdf hlen hr hY F (fun w H xs a h1 h2 h3 h4=>hsp (K w.params) H xs a h1 h2 h3 h4) fun _ H s e s'=>hCX H s e s'
end L2
end
namespace L2
open PySem PySem.Spec PyProof.Rows
theorem Same.seqT{K:PySem.W.Frag}{H H':Hp}{a:Addr}{xs:List V}(e:Same H H')(h:SqT K H a xs):SqT K H' a xs:=by
 rcases h with(h| ⟨o,h⟩)|h
 ·exact .inl (.inl (e _ _ h))
 ·exact .inl (.inr ⟨o,e _ _ h⟩)
 ·exact .inr h
theorem Same.upd{H:Hp}{p:Addr}{o:HO}(h:H p=none):Same H (upd H p o):=fun b u e=>by
 rw[Ak (Al e h)];exact e
theorem Same.updT{H H1:Hp}{p:Addr}{o:HO}(s:Same H H1)(h:H1 p=none):Same H (L2.upd H1 p o):=s.trans (Same.upd h)
end L2
namespace Dr
open Vbirad (Q Party Kind House Bytes text partsOf wordsOf linesOf numberIn isName isDigit isSmall find findAll weightIn lineOf readFrom readSharing RULES KEYS free distinct CLAIM WEIGHT MEMBERS PARTIES whole_ Call WATER byChance byParts claimOf claimsIn digits evenly fact halves inOrder isGroup isMember isParty isPerson leastFor levelFrom losses membersOf nums onSharing partyAt printParty printSharing proofOf qRow risen ruleOf setClaim setRule shareBy shareFrom shareOf spaced subsets sumQ weightsIn)
open PySem PySem.Spec PyProof.Rows L2
def Ret(H:Hp)(R:V->Hp->Prop)(Q:VK):Prop:=∀v H',Same H H'->R v H'->Q v H'
def RetN(H:Hp)(R:V->Hp->Prop)(Q:VK):Prop:=∀p H',Same H H'->H p=none->R (.ref p) H'->Q (.ref p) H'
structure FunN(K:PySem.W.Frag)(mg:Str->Option Value)(x:Str)(st:Stmt):Prop where
 ex:∃f fd,mg x=some (.ref f)/\Fun K x x st f fd
structure Df(P:Program)(w:World)(K:PySem.W.Frag)(mg:Str->Option Value)(base:Heap)(k:Nat)(x:Str)(ps:List Str)(sp:Sp):Prop where
 ex:∃f fd,mg x=some (.ref f)/\PySem.W.keepIn K (.ref f)=true/\Binds K fd ps []/\FnOk P w K mg base CX0 k f fd ps sp
section
variable {P:Program}{w:World}{K:PySem.W.Frag}{mg:Str->Option Value}{base:Heap}
theorem ln1{α:Type}{P:List α->Prop}(h:∀a,P [a]):∀us:List α,us.length=1->P us
 | [a],_=>h a
theorem ln2{α:Type}{P:List α->Prop}(h:∀a b,P [a,b]):∀us:List α,us.length=2->P us
 | [a,b],_=>h a b
theorem ln3{α:Type}{P:List α->Prop}(h:∀a b c,P [a,b,c]):∀us:List α,us.length=3->P us
 | [a,b,c],_=>h a b c
theorem ln4{α:Type}{P:List α->Prop}(h:∀a b c d,P [a,b,c,d]):∀us:List α,us.length=4->P us
 | [a,b,c,d],_=>h a b c d
theorem ln5{α:Type}{P:List α->Prop}(h:∀a b c d e,P [a,b,c,d,e]):∀us:List α,us.length=5->P us
 | [a,b,c,d,e],_=>h a b c d e
theorem ln6{α:Type}{P:List α->Prop}(h:∀a b c d e f,P [a,b,c,d,e,f]):∀us:List α,us.length=6->P us
 | [a,b,c,d,e,f],_=>h a b c d e f
theorem Df.of{x:Str}{st:Stmt}{N ps:List Str}{k:Nat}{sp:Sp}(F:FunN K mg x st)(S:FnScope N ps (defScope st))
  (len:∀vs H Q E,sp vs H Q E->vs.length=ps.length)
  (hbody:∀(f:Addr) (cdv:Value) (A:Around) (outer:List Env) (s:Shared) (H:Hp) (vs:List V) (Q:VK) (E:XK),Room k (A.deeper (envOfC x (defScope st) s.heap.objs.size f cdv))->sp vs H Q E->
   ∃t,PSs (cxOf CX0 P w K mg base N x (defScope st) f cdv A outer s H E).nox (defBody st) t/\t {nx:=fun _ H'=>Q .non H',rt:=Q} (L2.start N vs) H) (hb:∀(kV doc pm:Value) (an:Option Addr) (cdv ct:Value) (us:List Value),us.length=ps.length->bindArgs (PySem.W.fnOf x x (defArgs st) (defBody st) (defScope st) .none kV doc pm an cdv ct) ⟨us,[]⟩ =pure (ps.zip us):=by first|exact fun _ _ _ _ _ _=>ln1 fun _=>rfl|exact fun _ _ _ _ _ _=>ln2 fun _ _=>rfl|exact fun _ _ _ _ _ _=>ln3 fun _ _ _=>rfl|exact fun _ _ _ _ _ _=>ln4 fun _ _ _ _=>rfl|exact fun _ _ _ _ _ _=>ln5 fun _ _ _ _ _=>rfl|exact fun _ _ _ _ _ _=>ln6 fun _ _ _ _ _ _=>rfl):Df P w K mg base (k + 1) x ps sp:=by
 obtain⟨f,fd,hm,F⟩ :=F.ex;exact⟨f,fd,hm,F.kp,F.binds hb,F.ok S len fun cdv A outer s H vs Q E hr h=>hbody f cdv A outer s H vs Q E hr h⟩
theorem Df.mono{j k:Nat}{x:Str}{ps:List Str}{sp:Sp}(D:Df P w K mg base j x ps sp)(h:j<=k):Df P w K mg base k x ps sp:=by
 obtain⟨f,fd,a,b,c,d⟩ :=D.ex;exact⟨f,fd,a,b,c,d.mono h⟩
end
section
variable {X:Cx}{k:Nat}{x:Str}{ps:List Str}{sp:Sp}{e:Expr}{es:List Expr}{t:TA}{p pos:Pos}
theorem pd{j:Nat}(D:Df X.prog X.w X.K X.mg X.base k x ps sp)(hr:Room j X.A)(ha:PA X (e::es) t)(hj:k<=j:=by decide)(hg:Gl X x:=by rfl)(hdb:(x == ("__debug__":Str))=false:=by decide)
  (he:starEach (e::es) X.env=(false,eval e X.env)::starEach es X.env:=by rfl) (hpl:(backTo pos (starEach es X.env)).any (·.1)=false:=by rfl):
  PE X (.Call (.Name x p) (e::es) [] pos) (tCall sp [] E0 t):=by
 obtain⟨f,fd,a,b,c,d⟩ :=D.ex;exact fE d (hr.mono hj) hg a b c .nil pass0 ha hdb he hpl
end
theorem iteTr{b:Bool}{A B:Prop}(h:b=true)(hA:A):if b=true then A else B:=by rw[if_pos h];exact hA
theorem iteFl{b:Bool}{A B:Prop}(h:b=false)(hB:B):if b=true then A else B:=by rw[if_neg (by rw[h];exact vT)];exact hB
theorem iteB{b:Bool}{A B:Prop}(h1:b=true->A)(h2:b=false->B):if b=true then A else B:=by
 cases b with
 |true=>exact iteT (h1 rfl)
 |false=>exact iteF (h2 rfl)
@[irreducible] def Lid:Nat:=2^9000
@[irreducible] def Mul:Nat:=2^1000000
theorem S2:Lid=2^9000:=by unfold Lid;rfl
theorem bV:Mul=2^1000000:=by unfold Mul;rfl
theorem S3{k n:Nat}(h:n<=2^k)(hk:k < 9000):n < Lid:=S2▸vO h (Nat.pow_lt_pow_right (by decide) hk)
theorem Dk{k n:Nat}(h:n<=2^k)(hk:k < 1000000):n < Mul:=bV▸vO h (Nat.pow_lt_pow_right (by decide) hk)
def CMulB(i j:Int):Prop:=i.natAbs < Mul/\j.natAbs < Mul
def CDivB(i j:Int):Prop:=0 < j/\j.natAbs < Lid
theorem Yd{i:Int}{n:Nat}(h:i.natAbs < 2^n):Builtin.Int.intBits i<=n:=by
 unfold Builtin.Int.intBits;split
 ·exact vW _
 ·rename_i h0
  have:i.natAbs≠0:=by
   intro e;apply h0;simpa using e
  have:=(Nat.log2_lt this).mpr h;omega
theorem CMulB.ok{i j:Int}(h:CMulB i j):IntMulOk i j:=by
 obtain⟨h1,h2⟩ :=h;rw[bV]at h1 h2;refine PySem.IntMulOk.of_bits ?_ ?_
 ·exact vA (Yd h1) (by decide)
 ·exact vA (Yd h2) (by decide)
section
variable {X:Cx}
theorem B6:OpR X (binaryOp .Mult) (rI CMulB fun i j=>.int (i * j)):=opI fun _ _ _ _ _ _ _ hc q=>mul_int q hc.ok
theorem Pn:OpR X (binaryOp .FloorDiv) (rI CDivB fun i j=>.int (i / j)):=opI fun i j _ _ _ _ _ hc q=>by
 obtain⟨h1,h2⟩ :=hc;rw[S2]at h2;have h3:j.natAbs≠0:=by omega
 exact floordiv_int (by omega) (by rw[Int.fdiv_eq_ediv_of_nonneg i (by omega)];exact q) (.inl (PyProof.noPylong_of_log2 ((Nat.log2_lt h3).mpr h2)))
end
abbrev Rel(α:Type):=α->V->Hp->Prop
def Stay{α:Type}(R:Rel α):Prop:=∀a v H H',Same H H'->R a v H->R a v H'
def Tk(H H':Hp):Prop:=∀b xs,Rd H b (.tup xs)->Rd H' b (.tup xs)
theorem Tk.of{H H':Hp}(s:Same H H'):Tk H H':=fun b xs h=>by
 rcases h with h| ⟨o,h⟩
 ·exact .inl (s _ _ h)
 ·exact .inr ⟨o,s _ _ h⟩
theorem Tk.refl(H:Hp):Tk H H:=fun _ _ h=>h
theorem Tk.trans{H H1 H2:Hp}(a:Tk H H1)(b:Tk H1 H2):Tk H H2:=fun c o h=>b c o (a c o h)
theorem Tk.updL{H:Hp}{D:Addr}{xs:List V}{o:HO}(h:H D=some (.lst xs)):Tk H (L2.upd H D o):=fun b ys r=>by
 have hb:b≠D:=by
  intro e;subst e;rcases r with r| ⟨u,r⟩
  ·rw[h]at r;cases r
  ·rw[h]at r;cases r
 rcases r with r| ⟨u,r⟩
 ·exact .inl (by rw[Ak hb];exact r)
 ·exact .inr ⟨u,by rw[Ak hb];exact r⟩
theorem Tk.seqT{K:PySem.W.Frag}{H H':Hp}{a:Addr}{xs:List V}(e:Tk H H')(h:SqT K H a xs):SqT K H' a xs:=by
 rcases h with h|h
 ·exact .inl (e _ _ h)
 ·exact .inr h
def Flat{α:Type}(R:Rel α):Prop:=∀a v H H',Tk H H'->R a v H->R a v H'
theorem Flat.stay{α:Type}{R:Rel α}(h:Flat R):Stay R:=fun a v H H' s r=>h a v H H' (.of s) r
def IsI:Rel Int:=fun i v _=>v=.int i
def IsN:Rel Nat:=fun i v _=>v=.int (i:Int)
def IsB:Rel Bool:=fun i v _=>v=.bl i
def IsS:Rel Str:=fun i v _=>v=.str i
theorem Sq:Flat IsI:=fun _ _ _ _ _ h=>h
theorem Bp:Flat IsN:=fun _ _ _ _ _ h=>h
theorem So:Flat IsB:=fun _ _ _ _ _ h=>h
theorem gO:Flat IsS:=fun _ _ _ _ _ h=>h
inductive Par{α β:Type}(K:PySem.W.Frag)(R:Rel α)(S:Rel β)(ab:α×β)(v:V)(H:Hp):Prop|m:∀p x y,v=.ref p->SqT K H p [x,y]->R ab.1 x H->S ab.2 y H->Par K R S ab v H
theorem Sr{α β:Type}{K:PySem.W.Frag}{R:Rel α}{S:Rel β}(hR:Flat R)(hS:Flat S):Flat (Par K R S):=fun ab v H H' t h=>by
 obtain⟨p,x,y,e,h,r,s⟩ :=h;exact⟨p,x,y,e,t.seqT h,hR _ _ _ _ t r,hS _ _ _ _ t s⟩
abbrev Its{α:Type}(R:Rel α)(H:Hp)(as:List α)(xs:List V):Prop:=Paired (fun a x=>R a x H) as xs
theorem Its.keep{α:Type}{R:Rel α}{H H':Hp}{as:List α}{xs:List V}(h:Its R H as xs)(k:∀a v,R a v H->R a v H'):Its R H' as xs:=Paired.mapP h k
theorem Its.len{α:Type}{R:Rel α}{H:Hp}{as:List α}{xs:List V}(h:Its R H as xs):as.length=xs.length:=Paired.length h
theorem Its.get{α:Type}{R:Rel α}{H:Hp}:∀{as:List α} {xs:List V} {i:Nat} {a:α},Its R H as xs->as[i]? =some a->∃x,xs[i]? =some x/\R a x H
 |_,_,_,_,.nil,e=>by simp at e
 |_,_,0,_,.cons r _,e=>by simp at e;subst e;exact⟨_,rfl,r⟩
 |_,_,i + 1,x,.cons _ t,e=>by
  obtain⟨u,h1,h2⟩ :=Its.get (i:=i) t (by simpa using e);exact⟨u,by simpa using h1,h2⟩
theorem Its.at{α:Type}{R:Rel α}{H:Hp}:∀{as:List α} {xs:List V} {i:Nat} {x:V},Its R H as xs->xs[i]? =some x->∃a,as[i]? =some a/\R a x H
 |_,_,_,_,.nil,e=>by simp at e
 |_,_,0,_,.cons r _,e=>by simp at e;subst e;exact⟨_,rfl,r⟩
 |_,_,i + 1,x,.cons _ t,e=>by
  obtain⟨u,h1,h2⟩ :=Its.at (i:=i) t (by simpa using e);exact⟨u,by simpa using h1,h2⟩
theorem Its.app{α:Type}{R:Rel α}{H:Hp}:∀{as bs:List α} {xs ys:List V},Its R H as xs->Its R H bs ys->Its R H (as++bs) (xs++ys)
 |_,_,_,_,.nil,s=>s
 |_,_,_,_,.cons r t,s=>.cons r (Its.app t s)
theorem Its.drop{α:Type}{R:Rel α}{H:Hp}:∀{as:List α} {xs:List V} (n:Nat),Its R H as xs->Its R H (as.drop n) (xs.drop n)
 |_,_,0,h=>h
 |_,_,_ + 1,.nil=>.nil
 |_,_,n + 1,.cons _ t=>Its.drop n t
theorem Its.take{α:Type}{R:Rel α}{H:Hp}:∀{as:List α} {xs:List V} (n:Nat),Its R H as xs->Its R H (as.take n) (xs.take n)
 |_,_,0,_=>.nil
 |_,_,_ + 1,.nil=>.nil
 |_,_,n + 1,.cons r t=>.cons r (Its.take n t)
theorem C3{H:Hp}:∀{ns:List Int} {xs:List V},Its IsI H ns xs->xs=ns.map V.int
 |_,_,.nil=>rfl
 |_,_,.cons r t=>by rw[vV,<-C3 t];rw[show _=_ from r]
theorem C2{H:Hp}:∀(ns:List Int),Its IsI H ns (ns.map V.int)
 | []=>.nil
 |_::ns=>.cons rfl (C2 ns)
theorem Ut{H:Hp}:∀{ns:List Bool} {xs:List V},Its IsB H ns xs->xs=ns.map V.bl
 |_,_,.nil=>rfl
 |_,_,.cons r t=>by rw[vV,<-Ut t];rw[show _=_ from r]
theorem gA{H:Hp}:∀{ns:List Str} {xs:List V},Its IsS H ns xs->xs=ns.map V.str
 |_,_,.nil=>rfl
 |_,_,.cons r t=>by rw[vV,<-gA t];rw[show _=_ from r]
theorem Mp{H:Hp}:∀{ns:List Nat} {xs:List V},Its IsN H ns xs->xs=(ns.map (fun(n:Nat)=>(n:Int))).map V.int
 |_,_,.nil=>rfl
 |_,_,.cons r t=>by rw[vV,vV,<-Mp t];rw[show _=_ from r]
inductive Lst{α:Type}(K:PySem.W.Frag)(R:Rel α)(as:List α)(v:V)(H:Hp):Prop|m:∀p xs,v=.ref p->SqL K H p xs->Its R H as xs->Lst K R as v H
theorem Lst.keep{α:Type}{K:PySem.W.Frag}{R:Rel α}(hR:Stay R):Stay (Lst K R):=fun as v H H' s h=>by
 obtain⟨p,xs,e,h,i⟩ :=h;exact⟨p,xs,e,s.seq h,i.keep fun a v r=>hR a v H H' s r⟩
inductive Own{α:Type}(R:Rel α)(as:List α)(v:V)(H:Hp):Prop|m:∀p xs,v=.ref p->H p=some (.lst xs)->Its R H as xs->Own R as v H
theorem Own.lst{α:Type}{K:PySem.W.Frag}{R:Rel α}{as:List α}{v:V}{H:Hp}(h:Own R as v H):Lst K R as v H:=by
 obtain⟨p,xs,e,h,i⟩ :=h;exact⟨p,xs,e,SqL.of h,i⟩
theorem Own.keep{α:Type}{R:Rel α}(hR:Stay R):Stay (Own R):=fun as v H H' s h=>by
 obtain⟨p,xs,e,h,i⟩ :=h;exact⟨p,xs,e,s _ _ h,i.keep fun a v r=>hR a v H H' s r⟩
def Seqs{α:Type}(J:It)(B:Hp->Prop)(as:List α)(R:Rel α):Prop:=
 ∀H,B H->(∀i,i < as.length->J.go i H)/\J.stop as.length H/\∀i v H',i < as.length->J.yld i H v H'->Same H H'/\∃a,as[i]? =some a/\R a v H'
theorem As{α:Type}{K:PySem.W.Frag}{p:Addr}{xs:List V}{B:Hp->Prop}{as:List α}{R:Rel α}(h:∀H,B H->SqL K H p xs/\Its R H as xs):Seqs (Itl K p) B as R:=fun H b=>by
 obtain⟨h1,h2⟩ :=h H b;have hl:=h2.len;refine⟨fun i hi=>?_,⟨xs,h1,by omega⟩,?_⟩
 ·exact⟨xs,xs[i]'(by omega),h1,by simp[show i < xs.length by omega]⟩
 ·rintro i v H' hi ⟨rfl,hv⟩;have hv:=hv xs h1;obtain⟨a,ha,r⟩ :=h2.at hv;exact⟨Same.refl _,a,ha,r⟩
theorem Gp{lo:Int}{n:Nat}{B:Hp->Prop}:Seqs (Itr lo n) B (List.range n) (fun i v _=>v=.int (lo + (i:Int))):=fun H b=>by
 refine⟨fun i hi=>by show i < n;simpa using hi,by show n<=_;simp,?_⟩;rintro i v H' hi ⟨rfl,rfl⟩;exact⟨Same.refl _,i,by simp at hi;simp[hi],rfl⟩
theorem Y4{α β:Type}:∀{as:List α} {bs:List β} {i:Nat} {a:α} {b:β},as[i]? =some a->bs[i]? =some b->(as.zip bs)[i]? =some (a,b)
 | [],_,_,_,_,h,_=>by simp at h
 |_::_,[],_,_,_,_,h=>by simp at h
 |a::as,b::bs,0,_,_,h1,h2=>by simp at h1 h2;subst h1 h2;rfl
 |a::as,b::bs,i + 1,x,y,h1,h2=>by
  show(as.zip bs)[i]? =_;exact Y4 (by simpa using h1) (by simpa using h2)
theorem K7{α β:Type}{K:PySem.W.Frag}{p q:Addr}{xs ys:List V}{B:Hp->Prop}{as:List α}{bs:List β}{R:Rel α}{S:Rel β}(hR:Stay R)(hS:Stay S)
  (h:∀H,B H->SqL K H p xs/\Its R H as xs/\SqL K H q ys/\Its S H bs ys):Seqs (Itz K p q) B (as.zip bs) (Par K R S):=fun H b=>by
 obtain⟨h1,h2,h3,h4⟩ :=h H b;have hl:=h2.len;have hl':=h4.len;rw[List.length_zip];refine⟨fun i hi=>?_,⟨xs,ys,h1,h3,by omega⟩,?_⟩
 ·exact⟨xs,ys,xs[i]'(by omega),ys[i]'(by omega),h1,h3,by simp[show i < xs.length by omega],by simp[show i < ys.length by omega]⟩
 ·rintro i v H' hi ⟨T,x,y,rfl,hT,rfl,hx,hy⟩;obtain⟨a,ha,r⟩ :=h2.at (hx xs h1);obtain⟨b,hb,s⟩ :=h4.at (hy ys h3);exact⟨Same.upd hT,(a,b),Y4 ha hb,T,x,y,rfl,SqT.of Ae,hR _ _ _ _ (Same.upd hT) r,hS _ _ _ _ (Same.upd hT) s⟩
theorem Fb{α:Type}:∀{as:List α} {i k:Nat} {a:α},as[i]? =some a->(as.zipIdx k)[i]? =some (a,k + i)
 | [],_,_,_,h=>by simp at h
 |a::as,0,k,_,h=>by simp at h;subst h;simp
 |a::as,i + 1,k,x,h=>by
  rw[List.zipIdx_cons];show(as.zipIdx (k + 1))[i]? =_;rw[Fb (k:=k + 1) (by simpa using h)];congr 2;omega
theorem Z3{α:Type}{K:PySem.W.Frag}{p:Addr}{xs:List V}{B:Hp->Prop}{as:List α}{R:Rel α}(hR:Stay R)
  (h:∀H,B H->SqL K H p xs/\Its R H as xs):Seqs (Ite K p) B as.zipIdx (fun ai v H=>Par K IsN R (ai.2,ai.1) v H):=fun H b=>by
 obtain⟨h1,h2⟩ :=h H b;have hl:=h2.len;rw[List.length_zipIdx];refine⟨fun i hi=>?_,⟨xs,h1,by omega⟩,?_⟩
 ·exact⟨xs,xs[i]'(by omega),h1,by simp[show i < xs.length by omega]⟩
 ·rintro i v H' hi ⟨T,x,rfl,hT,rfl,hx⟩;obtain⟨a,ha,r⟩ :=h2.at (hx xs h1);refine⟨Same.upd hT,(a,i),?_,T,_,x,rfl,SqT.of Ae,rfl,hR _ _ _ _ (Same.upd hT) r⟩;have:=Fb (k:=0) ha
  rwa [Nat.zero_add]at this
theorem Bi{α:Type}{J:It}{B:Hp->Prop}{as:List α}{R:Rel α}{g:TG}{tb:TS}{D:Ends}{σ:L2.St}{H:Hp}(S:Seqs J B as R)(Pv:Nat->L2.St->Hp->Prop)(h0:Pv 0 σ H)(hB:∀i σ H,Pv i σ H->B H)
  (hs:∀i a v σ H H',as[i]? =some a->Pv i σ H->Same H H'->R a v H'->g v σ H' fun σ2 H2=>tb {D with nx:=Pv (i + 1),ct:=Pv (i + 1),bk:=D.nx} σ2 H2) (hd:∀σ H,Pv as.length σ H->D.nx σ H):
  ∃W:Nat->Nat->L2.St->Hp->Prop,(∃m,W 0 m σ H)/\∀i m σ H,W i m σ H->
   (J.stop i H/\D.nx σ H)∨(J.go i H/\∃N:L2.St->Hp->Prop,(∀σ' H',N σ' H'->∃m',m' < m/\W (i + 1) m' σ' H')/\∀x H',J.yld i H x H'->g x σ H' fun σ2 H2=>tb {D with nx:=N,ct:=N,bk:=D.nx} σ2 H2):=by
 refine⟨fun i m σ H=>m=as.length - i/\i<=as.length/\Pv i σ H,⟨as.length,by simp,Nat.zero_le _,h0⟩,?_⟩;rintro i m σ H ⟨rfl,hi,p⟩;obtain⟨s1,s2,s3⟩ :=S H (hB i σ H p);by_cases hlt:i < as.length
 ·refine .inr ⟨s1 i hlt,Pv (i + 1),fun σ' H' p'=> ⟨as.length - (i + 1),by omega,rfl,hlt,p'⟩,fun x H' y=>?_⟩;obtain⟨e,a,ha,r⟩ :=s3 i x H' hlt y;exact hs i a x σ H H' ha p e r
 ·have e:i=as.length:=by omega
  subst e;exact .inl ⟨s2,hd σ H p⟩
theorem Bm{α:Type}:∀{l:List α} {i:Nat} {x:α},l[i]? =some x->l.take (i + 1)=l.take i++[x]
 | [],i,x,h=>by simp at h
 |a::l,0,x,h=>by
  have e:a=x:=vE h;subst e;rfl
 |a::l,i + 1,x,h=>by
  have ih:=Bm (l:=l) (i:=i) (x:=x) h;show a::l.take (i + 1)=a::l.take i++[x];rw[ih];rfl
theorem Uu{α β:Type}{J:It}{as:List α}{R:Rel α}{S:Rel β}{g:TG}{tt:TT}{te:TE}{vs:List Nat}{σ:L2.St}{H1:Hp}{Qd:Addr->Hp->Prop}(p:α->Bool)(f:α->β)(hS:Flat S)(W:Seqs J (Same H1) as R)(hlen:as.length < sizeLine)
  (step:∀(a:α) (v:V) (H':Hp) (Qe:VK) (Nx:Hp->Prop),a∈as->Same H1 H'->R a v H'->(p a=true->Ret H' (S (f a)) Qe)->(p a=false->∀H3,Same H' H3->Nx H3)->
   g v (wipe σ vs) H' fun σ2 H2=>wipe σ2 vs=wipe σ vs/\tt σ2 H2 fun b H3=>if b=true then te σ2 H3 Qe else Nx H3)
  (fin:∀D xs H',H1 D=none->Same H1 H'->H' D=some (.lst xs)->Its S H' ((as.filter p).map f) xs->Qd D H'):
  ∀D,H1 D=none->∃W:Nat->Nat->Hp->Prop,(∃m,W 0 m (upd H1 D (.lst [])))/\∀i m H,W i m H->
   (J.stop i H/\Qd D H)∨(J.go i H/\∃Nx:Hp->Prop,(∀H',Nx H'->∃m',m' < m/\W (i + 1) m' H')/\∀x H',J.yld i H x H'->g x (wipe σ vs) H' fun σ2 H2=>wipe σ2 vs=wipe σ vs/\tt σ2 H2 fun b H3=>
    if b=true then te σ2 H3 fun y H4=>∃acc,H4 D=some (.lst acc)/\acc.length < sizeLine/\Nx (upd H4 D (.lst (acc++[y])))else Nx H3):=by
 intro D hD;refine⟨fun i m H=>m=as.length - i/\i<=as.length/\Same H1 H/\∃acc,H D=some (.lst acc)/\acc.length<=i/\Its S H (((as.take i).filter p).map f) acc,
  ⟨as.length,by simp,Nat.zero_le _,Same.upd hD,[],Ae,Nat.le_refl _,.nil⟩,?_⟩
 rintro i m H ⟨rfl,hi,sm,acc,ha,hl,hI⟩;obtain⟨s1,s2,s3⟩ :=W H sm;by_cases hlt:i < as.length
 ·refine .inr ⟨s1 i hlt,fun H'=>Same H1 H'/\∃acc,H' D=some (.lst acc)/\acc.length<=i + 1/\Its S H' (((as.take (i + 1)).filter p).map f) acc,fun H' ⟨q1,q2⟩ => ⟨as.length - (i + 1),by omega,rfl,hlt,q1,q2⟩,fun x H' y=>?_⟩;obtain⟨e,a,hai,r⟩ :=s3 i x H' hlt y;refine step a x H' _ _ (vD hai) (sm.trans e) r (fun hp y H4 e4 r4=>?_) (fun hp H3 e3=>?_)
  ·have hH4:H4 D=some (.lst acc):=e4 _ _ (e _ _ ha);have t1:Tk H H4:=(Tk.of e).trans (Tk.of e4);have t2:Tk H4 (upd H4 D (.lst (acc++[y]))):=Tk.updL hH4;refine⟨acc,hH4,by omega,fun b o eo=>?_,acc++[y],Ae,by simp;omega,?_⟩
   ·have hb:b≠D:=Al eo hD;rw[Ak hb];exact e4 _ _ (e _ _ (sm _ _ eo))
   ·rw[Bm hai,List.filter_append,List.map_append];refine Its.app (hI.keep fun a v r=>hS _ _ _ _ (t1.trans t2) r) ?_;rw[List.filter_cons,if_pos hp];exact .cons (hS _ _ _ _ t2 r4) .nil
  ·refine⟨sm.trans (e.trans e3),acc,e3 _ _ (e _ _ ha),by omega,?_⟩;rw[Bm hai,List.filter_append,List.map_append,List.filter_cons,if_neg (by rw[hp];exact Bool.false_ne_true)];simp only [List.filter_nil,List.map_nil,List.append_nil];exact hI.keep fun a v r=>hS _ _ _ _ ((Tk.of e).trans (Tk.of e3)) r
 ·have e:i=as.length:=by omega
  subst e;rw[v6]at hI;exact .inl ⟨s2,fin _ _ _ hD sm ha hI⟩
theorem Ge{α β:Type}{J:It}{as:List α}{R:Rel α}{S:Rel β}{g:TG}{te:TE}{vs:List Nat}{σ:L2.St}{H1:Hp}{Qd:Addr->Hp->Prop}(f:α->β)(hS:Flat S)(W:Seqs J (Same H1) as R)(hlen:as.length < sizeLine)
  (step:∀(a:α) (v:V) (H':Hp) (Qe:VK),a∈as->Same H1 H'->R a v H'->Ret H' (S (f a)) Qe->g v (wipe σ vs) H' fun σ2 H2=>wipe σ2 vs=wipe σ vs/\te σ2 H2 Qe)
  (mono:∀(v:V) (H':Hp) (C C':L2.St->Hp->Prop),(∀σ2 H2,C σ2 H2->C' σ2 H2)->g v (wipe σ vs) H' C->g v (wipe σ vs) H' C')
  (fin:∀D xs H',H1 D=none->Same H1 H'->H' D=some (.lst xs)->Its S H' (as.map f) xs->Qd D H'):
  ∀D,H1 D=none->∃W:Nat->Nat->Hp->Prop,(∃m,W 0 m (upd H1 D (.lst [])))/\∀i m H,W i m H->
   (J.stop i H/\Qd D H)∨(J.go i H/\∃Nx:Hp->Prop,(∀H',Nx H'->∃m',m' < m/\W (i + 1) m' H')/\∀x H',J.yld i H x H'->g x (wipe σ vs) H' fun σ2 H2=>wipe σ2 vs=wipe σ vs/\tYes σ2 H2 fun b H3=>
    if b=true then te σ2 H3 fun y H4=>∃acc,H4 D=some (.lst acc)/\acc.length < sizeLine/\Nx (upd H4 D (.lst (acc++[y])))else Nx H3):=by
 refine Uu (fun _=>true) f hS W hlen (fun a v H' Qe Nx ha sm r k _=>?_) (fun D xs H' hn sm hD o=>fin D xs H' hn sm hD ?_)
 ·refine mono v H' _ _ (fun σ2 H2 h=> ⟨h.1,?_⟩) (step a v H' Qe ha sm r (k rfl));show(if true=true then te σ2 H2 Qe else Nx H2);exact iteT h.2
 ·have e:as.filter (fun _=>true)=as:=by simp
  rw[e]at o;exact o
theorem Jf{α β:Type}{J:It}{as:List α}{R:Rel α}{S:Rel β}{g:TG}{tt:TT}{te:TE}{vs:List Nat}{σ:L2.St}{H1:Hp}{Qd:Addr->Hp->Prop}(p:α->Bool)(f:α->β)(hS:Flat S)(W:Seqs J (Same H1) as R)(hlen:as.length < sizeLine)
  (step:∀(a:α) (v:V) (H':Hp) (Qe:VK) (Nx:Hp->Prop),a∈as->Same H1 H'->R a v H'->(p a=true->Ret H' (S (f a)) Qe)->(p a=false->∀H3,Same H' H3->Nx H3)->
   g v (wipe σ vs) H' fun σ2 H2=>wipe σ2 vs=wipe σ vs/\tt σ2 H2 fun b H3=>if b=true then te σ2 H3 Qe else Nx H3)
  (fin:∀D xs H',Same H1 H'->H' D=some (.lst xs)->Its S H' ((as.filter p).map f) xs->Qd D H'):
  ∀D,H1 D=none->∃W:Nat->Nat->Hp->Prop,(∃m,W 0 m (upd H1 D (.lst [])))/\∀i m H,W i m H->
   (J.stop i H/\Qd D H)∨(J.go i H/\∃Nx:Hp->Prop,(∀H',Nx H'->∃m',m' < m/\W (i + 1) m' H')/\∀x H',J.yld i H x H'->g x (wipe σ vs) H' fun σ2 H2=>wipe σ2 vs=wipe σ vs/\tt σ2 H2 fun b H3=>
    if b=true then te σ2 H3 fun y H4=>∃acc,H4 D=some (.lst acc)/\acc.length < sizeLine/\Nx (upd H4 D (.lst (acc++[y])))else Nx H3):=
 Uu p f hS W hlen step fun D xs H' _=>fin D xs H'
theorem Bx{α β:Type}{J:It}{as:List α}{R:Rel α}{S:Rel β}{g:TG}{te:TE}{vs:List Nat}{σ:L2.St}{H1:Hp}{Qd:Addr->Hp->Prop}(f:α->β)(hS:Flat S)(W:Seqs J (Same H1) as R)(hlen:as.length < sizeLine)
  (step:∀(a:α) (v:V) (H':Hp) (Qe:VK),a∈as->Same H1 H'->R a v H'->Ret H' (S (f a)) Qe->g v (wipe σ vs) H' fun σ2 H2=>wipe σ2 vs=wipe σ vs/\te σ2 H2 Qe)
  (mono:∀(v:V) (H':Hp) (C C':L2.St->Hp->Prop),(∀σ2 H2,C σ2 H2->C' σ2 H2)->g v (wipe σ vs) H' C->g v (wipe σ vs) H' C')
  (fin:∀D xs H',Same H1 H'->H' D=some (.lst xs)->Its S H' (as.map f) xs->Qd D H'):
  ∀D,H1 D=none->∃W:Nat->Nat->Hp->Prop,(∃m,W 0 m (upd H1 D (.lst [])))/\∀i m H,W i m H->
   (J.stop i H/\Qd D H)∨(J.go i H/\∃Nx:Hp->Prop,(∀H',Nx H'->∃m',m' < m/\W (i + 1) m' H')/\∀x H',J.yld i H x H'->g x (wipe σ vs) H' fun σ2 H2=>wipe σ2 vs=wipe σ vs/\tYes σ2 H2 fun b H3=>
    if b=true then te σ2 H3 fun y H4=>∃acc,H4 D=some (.lst acc)/\acc.length < sizeLine/\Nx (upd H4 D (.lst (acc++[y])))else Nx H3):=
 Ge f hS W hlen step mono fun D xs H' _=>fin D xs H'
theorem A2{i:Nat}{v:V}{σ:L2.St}{H:Hp}{C C':L2.St->Hp->Prop}(h:∀σ2 H2,C σ2 H2->C' σ2 H2)(q:gName i v σ H C):gName i v σ H C':=h _ _ q
section
variable {X:Cx}{K:PySem.W.Frag}{e:Expr}{ta:TE}{pos:Pos}{f:Str}
theorem Gc(h:X.K=K):IxR X (rIxT K):=h▸Bc
theorem Ci(h:X.K=K):IxR X (rIxL K):=h▸Ag
theorem Pp(h:X.K=K):OpR X (compareOp .In) (rIn K false):=h▸D4
theorem Q6(h:X.K=K):OpR X (compareOp .NotIn) (rIn K true):=h▸Gi
theorem Kx(h:X.K=K)(he:PE X e ta)(hb:attributeBase e f X.env (eval e X.env)=eval e X.env):PE X (.Attribute e f pos) (tFld K ta f):=h▸Ap he hb
theorem Jj{es:List Expr}{k:Nat}{t:TGs}{n:Nat}(hK:X.K=K)(hc:X.calm=true)(h:PGs X es t)
  (hn:(assignEach es X.env).length=n:=by rfl) (hst:(assignEach es X.env).findIdx? (·.1)=none:=by rfl):PG X (.Tuple es k pos) (gTup K n t):=hK▸J9 hc h hn hst
end
def top(i:Nat):Stmt:=PySem.Challenge.pw_droughtshares_s01_answers.main.body.getD i (.Pass ⟨0,0,0,0⟩)
inductive Fra(K:PySem.W.Frag)(q:Q)(v:V)(H:Hp):Prop|m:∀p,v=.ref p->SqT K H p [.int q.n,.int (q.d:Int)]->Fra K q v H
theorem A7{K:PySem.W.Frag}:Flat (Fra K):=fun q v H H' t h=>by
 obtain⟨p,e,h⟩ :=h;exact⟨p,e,t.seqT h⟩
theorem Fra.keep{K:PySem.W.Frag}{q:Q}{v:V}{H H':Hp}(h:Fra K q v H)(s:Same H H'):Fra K q v H':=A7 _ _ _ _ (Tk.of s) h
theorem S7{j k:Nat}{a b:Q}(ha:Sz j a)(hb:Sz k b)(h:j + k < 9000):CMulB a.n b.d:= ⟨Dk ha.nle (by omega),by rw[vQ];exact Dk hb.dle (by omega)⟩
theorem bU{j k:Nat}{a b:Q}(ha:Sz j a)(hb:Sz k b)(h:j + k < 9000):CMulB a.d b.d:= ⟨by rw[vQ];exact Dk ha.dle (by omega),by rw[vQ];exact Dk hb.dle (by omega)⟩
theorem Yu{j k:Nat}{a b:Q}(ha:Sz j a)(hb:Sz k b)(h:j + k < 900000):CMulB a.n b.d:= ⟨Dk ha.nle (by omega),by rw[vQ];exact Dk hb.dle (by omega)⟩
theorem gB{j k:Nat}{a b:Q}(ha:Sz j a)(hb:Sz k b)(h:j + k < 9000):a.d * b.d < Lid:=by
 refine S3 (k:=j + k) ?_ h;rw[Nat.pow_add];exact Nat.mul_le_mul ha.dle hb.dle
section
variable {P:Program}{w:World}{K:PySem.W.Frag}{mg:Str->Option Value}{base:Heap}
inductive spGcd(vs:List V)(H:Hp)(Q:VK)(_e3:XK):Prop|m:∀(a:Int) (b:Nat),vs= [.int a,.int (b:Int)]->0 < b->Ret H (fun v _=>v=.int (Int.gcd a b:Int)) Q->spGcd vs H Q _e3
theorem scGcd:FnScope ["first","second","rest"] ["first","second"] (defScope (top 1)):=fS
theorem iB(F:FunN K mg "greatest_divisor" (top 1)):Df P w K mg base 1 "greatest_divisor" ["first","second"] spGcd:=by
 refine Df.of F scGcd (fun vs H Q E h=>?_) (fun f cdv A outer s H vs Q E hr h=>?_)
 ·obtain⟨a,b,rfl,_⟩ :=h;rfl
 ·obtain⟨a,b,rfl,hb,k⟩ :=h;refine⟨_,Ac (K1 PassesOwn.never (At Kv (pv 1) Af (nomark _))
   (Ac (Aj (i:=2) scGcd.nd rfl (Or.inl rfl) (Az iD (pv 0) (pv 1)))
   (Ac (Aj (i:=0) scGcd.nd rfl (Or.inl rfl) (pv 1))
   (Ad (Aj (i:=1) scGcd.nd rfl (Or.inl rfl) (pv 2))))))
   (Ad (Ah (pv 0))),?_⟩
  refine Qn (fun σ H'=>∃(x y:Int) (r:Option V),σ= [some (.int x),some (.int y),r]/\H'=H/\0<=y/\(0 < y∨0<=x)/\Int.gcd x y=Int.gcd a b) (fun σ _=>match σ with| [_,some (.int y),_]=>y.toNat|_=>0) ⟨a,b,none,rfl,rfl,by omega,by omega,rfl⟩ ?_ ?_
  ·rintro σ H' ⟨x,y,r,rfl,rfl,h0,h1,h2⟩;refine⟨_,rfl,rfl,_,rfl,?_⟩;by_cases hy:y=0
   ·subst hy;refine iteNS (by rfl) ?_;refine⟨_,rfl,?_⟩;refine k _ _ (Same.refl _) ?_;rw[<-h2,Int.gcd_zero_right];congr 1;omega
   ·refine iteTr (by simp[hy]) ?_;refine⟨_,rfl,_,rfl,_,_,rfl,rfl,(show 0 < y by omega),_,rfl,_,rfl,?_⟩;have e0:=Int.emod_nonneg x hy;have e1:=Int.emod_lt_of_pos x (show 0 < y by omega);refine⟨⟨y,x % y,_,rfl,rfl,e0,.inr (by omega),?_⟩,?_⟩
    ·rw[<-h2];exact eN x y
    ·show(x % y).toNat < y.toNat;omega
  ·rintro σ H' Q1 Q2 hq ⟨v,e,h1,b',e2,h2⟩;exact⟨v,e,h1,b',e2,hq _ _ h2⟩
inductive spRatio(K:PySem.W.Frag)(vs:List V)(H:Hp)(Q:VK)(_e3:XK):Prop|m:∀(a:Int) (b:Nat),vs= [.int a,.int (b:Int)]->0 < b->b < Lid->Ret H (Fra K (Vbirad.mk a b)) Q->spRatio K vs H Q _e3
theorem scRatio:FnScope ["upper","lower","divisor"] ["upper","lower"] (defScope (top 2)):=fS
theorem bZ(F:FunN K mg "ratio" (top 2))(Dg:Df P w K mg base 1 "greatest_divisor" ["first","second"] spGcd):Df P w K mg base 2 "ratio" ["upper","lower"] (spRatio K):=by
 refine Df.of F scRatio (fun vs H Q E h=>?_) (fun f cdv A outer s H vs Q E hr h=>?_)
 ·obtain⟨a,b,rfl,_⟩ :=h;rfl
 ·obtain⟨a,b,rfl,hb,hb2,k⟩ :=h;refine⟨_,Ac (Aj (i:=2) scRatio.nd rfl (Or.inl rfl) (pd Dg hr (Aa (pv 0) (Aa (pv 1) Ab))))
   (Ad (Ah (Ft (Aa (Az Pn (pv 0) (pv 2)) (Aa (Az Pn (pv 1) (pv 2)) Ab))))),?_⟩
  refine⟨_,rfl,_,rfl,a,b,rfl,hb,?_⟩;rintro _ H1 s1 rfl;have g0:0 < Int.gcd a b:=N6 hb;have g1:Int.gcd a b < Lid:=vO (bB hb) hb2;have g2:∀z,CDivB z (Int.gcd a b:Int):=fun z=> ⟨by omega,by rw[vQ];exact g1⟩;refine⟨_,rfl,_,rfl,_,_,rfl,rfl,g2 _,_,rfl,_,rfl,_,_,rfl,rfl,g2 _,(by show 2<=sizeLine;decide),fun p hp=>?_⟩;refine k _ _ (Same.updT s1 hp) ⟨p,rfl,SqT.of ?_⟩;rw[Ae,U1 hb];rfl
inductive spWhole(K:PySem.W.Frag)(vs:List V)(H:Hp)(Q:VK)(_e3:XK):Prop|m:∀(a:Int),vs= [.int a]->Ret H (Fra K (Vbirad.whole a)) Q->spWhole K vs H Q _e3
theorem scWhole:FnScope ["number"] ["number"] (defScope (top 3)):=fS
theorem cC(F:FunN K mg "whole" (top 3)):Df P w K mg base 1 "whole" ["number"] (spWhole K):=by
 refine Df.of F scWhole (fun vs H Q E h=>?_) (fun f cdv A outer s H vs Q E hr h=>?_)
 ·obtain⟨a,rfl,_⟩ :=h;rfl
 ·obtain⟨a,rfl,k⟩ :=h;refine⟨_,(Ad (Ah (Ft (Aa (pv 0) (Aa Af Ab))))),?_⟩;refine⟨_,rfl,(by show 2<=sizeLine;decide),fun p hp=>?_⟩;exact k _ _ (Same.upd hp) ⟨p,rfl,SqT.of Ae⟩
inductive sp2(K:PySem.W.Frag)(R:Q->Q->V->Hp->Prop)(vs:List V)(H:Hp)(Q:VK)(_e3:XK):Prop|m:∀(a b:Vbirad.Q) (u v:V) (i j:Nat),vs= [u,v]->Fra K a u H->Fra K b v H->Sz i a->Sz j b->i + j < 9000->Ret H (R a b) Q->sp2 K R vs H Q _e3
inductive sp2L(K:PySem.W.Frag)(R:Q->Q->V->Hp->Prop)(vs:List V)(H:Hp)(Q:VK)(_e3:XK):Prop|m:∀(a b:Vbirad.Q) (u v:V) (i j:Nat),vs= [u,v]->Fra K a u H->Fra K b v H->Sz i a->Sz j b->i + j < 900000->Ret H (R a b) Q->sp2L K R vs H Q _e3
theorem scPlus:FnScope ["left","right"] ["left","right"] (defScope (top 4)):=fS
theorem fC(F:FunN K mg "plus" (top 4))(D:Df P w K mg base 2 "ratio" ["upper","lower"] (spRatio K)):Df P w K mg base 3 "plus" ["left","right"] (sp2 K fun a b=>Fra K (Vbirad.add a b)):=by
 refine Df.of F scPlus (fun vs H Q E h=>?_) (fun f cdv A outer s H vs Q E hr h=>?_)
 ·obtain⟨a,b,u,v,i,j,rfl,_⟩ :=h;rfl
 ·obtain⟨a,b,_,_,i,j,rfl,⟨p,rfl,hp⟩,⟨q,rfl,hq⟩,sa,sb,hij,k⟩ :=h;refine⟨_,Ad (Ah (pd D hr (Aa (Az B7 (Az B6 (Ai Bc (pv 0) Af) (Ai Bc (pv 1) Af)) (Az B6 (Ai Bc (pv 1) Af) (Ai Bc (pv 0) Af)))
   (Aa (Az B6 (Ai Bc (pv 0) Af) (Ai Bc (pv 1) Af)) Ab)))),?_⟩
  refine⟨_,rfl,p,_,_,_,rfl,rfl,hp,rfl,_,rfl,q,_,_,_,rfl,rfl,hq,rfl,_,_,rfl,rfl,S7 sa sb hij,?_⟩;refine⟨_,rfl,q,_,_,_,rfl,rfl,hq,rfl,_,rfl,p,_,_,_,rfl,rfl,hp,rfl,_,_,rfl,rfl,S7 sb sa (by omega),_,_,rfl,rfl,?_⟩;refine⟨_,rfl,p,_,_,_,rfl,rfl,hp,rfl,_,rfl,q,_,_,_,rfl,rfl,hq,rfl,_,_,rfl,rfl,bU sa sb hij,?_⟩;refine⟨_,a.d * b.d,rfl,Nat.mul_pos sa.pos sb.pos,gB sa sb hij,k⟩
theorem scMinus:FnScope ["left","right"] ["left","right"] (defScope (top 5)):=fS
theorem bY(F:FunN K mg "minus" (top 5))(D:Df P w K mg base 2 "ratio" ["upper","lower"] (spRatio K)):Df P w K mg base 3 "minus" ["left","right"] (sp2 K fun a b=>Fra K (Vbirad.sub a b)):=by
 refine Df.of F scMinus (fun vs H Q E h=>?_) (fun f cdv A outer s H vs Q E hr h=>?_)
 ·obtain⟨a,b,u,v,i,j,rfl,_⟩ :=h;rfl
 ·obtain⟨a,b,_,_,i,j,rfl,⟨p,rfl,hp⟩,⟨q,rfl,hq⟩,sa,sb,hij,k⟩ :=h;refine⟨_,Ad (Ah (pd D hr (Aa (Az J8 (Az B6 (Ai Bc (pv 0) Af) (Ai Bc (pv 1) Af)) (Az B6 (Ai Bc (pv 1) Af) (Ai Bc (pv 0) Af)))
   (Aa (Az B6 (Ai Bc (pv 0) Af) (Ai Bc (pv 1) Af)) Ab)))),?_⟩
  refine⟨_,rfl,p,_,_,_,rfl,rfl,hp,rfl,_,rfl,q,_,_,_,rfl,rfl,hq,rfl,_,_,rfl,rfl,S7 sa sb hij,?_⟩;refine⟨_,rfl,q,_,_,_,rfl,rfl,hq,rfl,_,rfl,p,_,_,_,rfl,rfl,hp,rfl,_,_,rfl,rfl,S7 sb sa (by omega),_,_,rfl,rfl,?_⟩;refine⟨_,rfl,p,_,_,_,rfl,rfl,hp,rfl,_,rfl,q,_,_,_,rfl,rfl,hq,rfl,_,_,rfl,rfl,bU sa sb hij,?_⟩;refine⟨_,a.d * b.d,rfl,Nat.mul_pos sa.pos sb.pos,gB sa sb hij,?_⟩;have e:Vbirad.mk (a.n * (b.d:Int) - b.n * (a.d:Int)) (a.d * b.d)=Vbirad.sub a b:=by
   unfold Vbirad.sub Vbirad.add Vbirad.neg;dsimp only;rw[Int.neg_mul,Int.sub_eq_add_neg]
  rw[e];exact k
inductive sp1(K:PySem.W.Frag)(R:Q->Nat->V->Hp->Prop)(vs:List V)(H:Hp)(Q:VK)(_e3:XK):Prop|m:∀(a:Vbirad.Q) (n:Nat) (u:V) (i:Nat),vs= [u,.int (n:Int)]->Fra K a u H->Sz i a->i < 8000->0 < n->n<=2^900->Ret H (R a n) Q->sp1 K R vs H Q _e3
inductive sp1z(K:PySem.W.Frag)(R:Q->Nat->V->Hp->Prop)(vs:List V)(H:Hp)(Q:VK)(_e3:XK):Prop|m:∀(a:Vbirad.Q) (n:Nat) (u:V) (i:Nat),vs= [u,.int (n:Int)]->Fra K a u H->Sz i a->i < 8000->n<=2^900->Ret H (R a n) Q->sp1z K R vs H Q _e3
theorem scTimes:FnScope ["left","number"] ["left","number"] (defScope (top 6)):=fS
theorem cA(F:FunN K mg "times" (top 6))(D:Df P w K mg base 2 "ratio" ["upper","lower"] (spRatio K)):Df P w K mg base 3 "times" ["left","number"] (sp1z K fun a n=>Fra K (Vbirad.mul a (Vbirad.whole n))):=by
 refine Df.of F scTimes (fun vs H Q E h=>?_) (fun f cdv A outer s H vs Q E hr h=>?_)
 ·obtain⟨a,b,u,i,rfl,_⟩ :=h;rfl
 ·obtain⟨a,n,_,i,rfl,⟨p,rfl,hp⟩,sa,hi,hn,k⟩ :=h;refine⟨_,Ad (Ah (pd D hr (Aa (Az B6 (Ai Bc (pv 0) Af) (pv 1)) (Aa (Ai Bc (pv 0) Af) Ab)))),?_⟩;refine⟨_,rfl,p,_,_,_,rfl,rfl,hp,rfl,_,rfl,_,_,rfl,rfl,⟨Dk sa.nle (by omega),by rw[vQ];exact Dk hn (by decide)⟩,?_⟩;refine⟨_,rfl,p,_,_,_,rfl,rfl,hp,rfl,?_⟩;refine⟨_,a.d,rfl,sa.pos,S3 sa.dle (by omega),?_⟩;have e:Vbirad.mk (a.n * (n:Int)) a.d=Vbirad.mul a (Vbirad.whole n):=by
   unfold Vbirad.mul Vbirad.whole;dsimp only;rw[Nat.mul_one]
  rw[e];exact k
theorem scOver:FnScope ["left","number"] ["left","number"] (defScope (top 7)):=fS
theorem fB(F:FunN K mg "over" (top 7))(D:Df P w K mg base 2 "ratio" ["upper","lower"] (spRatio K)):Df P w K mg base 3 "over" ["left","number"] (sp1 K fun a n=>Fra K (Vbirad.over a (Vbirad.whole n))):=by
 refine Df.of F scOver (fun vs H Q E h=>?_) (fun f cdv A outer s H vs Q E hr h=>?_)
 ·obtain⟨a,b,u,i,rfl,_⟩ :=h;rfl
 ·obtain⟨a,n,_,i,rfl,⟨p,rfl,hp⟩,sa,hi,h0,hn,k⟩ :=h;refine⟨_,Ad (Ah (pd D hr (Aa (Ai Bc (pv 0) Af) (Aa (Az B6 (Ai Bc (pv 0) Af) (pv 1)) Ab)))),?_⟩;refine⟨_,rfl,p,_,_,_,rfl,rfl,hp,rfl,?_⟩;refine⟨_,rfl,p,_,_,_,rfl,rfl,hp,rfl,_,rfl,_,_,rfl,rfl,⟨by rw[vQ];exact Dk sa.dle (by omega),by rw[vQ];exact Dk hn (by decide)⟩,?_⟩;refine⟨_,a.d * n,rfl,Nat.mul_pos sa.pos h0,?_,?_⟩
  ·refine S3 (k:=i + 900) ?_ (by omega);rw[Nat.pow_add];exact Nat.mul_le_mul sa.dle hn
  have e:Vbirad.mk a.n (a.d * n)=Vbirad.over a (Vbirad.whole n):=by
   unfold Vbirad.over Vbirad.whole;dsimp only;rw[if_neg (by omega),if_pos (by omega)];simp
  rw[e];exact k
theorem scAtMost:FnScope ["left","right"] ["left","right"] (defScope (top 8)):=fS
theorem Xh(F:FunN K mg "at_most" (top 8)):Df P w K mg base 1 "at_most" ["left","right"] (sp2L K fun a b=>IsB (Vbirad.le a b)):=by
 refine Df.of F scAtMost (fun vs H Q E h=>?_) (fun f cdv A outer s H vs Q E hr h=>?_)
 ·obtain⟨a,b,u,v,i,j,rfl,_⟩ :=h;rfl
 ·obtain⟨a,b,_,_,i,j,rfl,⟨p,rfl,hp⟩,⟨q,rfl,hq⟩,sa,sb,hij,k⟩ :=h;refine⟨_,Ad (Ah (D9 C4 (Az B6 (Ai Bc (pv 0) (Af)) (Ai Bc (pv 1) (Af))) (Az B6 (Ai Bc (pv 1) (Af)) (Ai Bc (pv 0) (Af))) (nomark _))),?_⟩;refine⟨_,rfl,p,_,_,_,rfl,rfl,hp,rfl,_,rfl,q,_,_,_,rfl,rfl,hq,rfl,_,_,rfl,rfl,Yu sa sb hij,?_⟩;refine⟨_,rfl,q,_,_,_,rfl,rfl,hq,rfl,_,rfl,p,_,_,_,rfl,rfl,hp,rfl,_,_,rfl,rfl,Yu sb sa (by omega),_,_,rfl,rfl,?_⟩;exact k _ _ (Same.refl _) rfl
theorem scLesser:FnScope ["left","right"] ["left","right"] (defScope (top 9)):=fS
theorem Zv(F:FunN K mg "lesser" (top 9))(D:Df P w K mg base 1 "at_most" ["left","right"] (sp2L K fun a b=>IsB (Vbirad.le a b))):Df P w K mg base 2 "lesser" ["left","right"] (sp2L K fun a b=>Fra K (Vbirad.least a b)):=by
 refine Df.of F scLesser (fun vs H Q E h=>?_) (fun f cdv A outer s H vs Q E hr h=>?_)
 ·obtain⟨a,b,u,v,i,j,rfl,_⟩ :=h;rfl
 ·obtain⟨a,b,u,v,i,j,rfl,hu,hv,sa,sb,hij,k⟩ :=h;refine⟨_,Ad (Ah (Vi (Bk (pd D hr (Aa (pv 0) (Aa (pv 1) Ab)))) (pv 0) (pv 1))),?_⟩;refine⟨_,rfl,_,rfl,a,b,u,v,i,j,rfl,hu,hv,sa,sb,hij,?_⟩;rintro _ H1 s1 rfl;refine⟨_,rfl,?_⟩;refine iteB (fun hb=>?_) (fun hb=>?_)
  ·refine⟨_,rfl,k _ _ s1 ?_⟩;show Fra K (Vbirad.least a b) _ _;unfold Vbirad.least;rw[if_pos hb];exact hu.keep s1
  ·refine⟨_,rfl,k _ _ s1 ?_⟩;show Fra K (Vbirad.least a b) _ _;unfold Vbirad.least;rw[if_neg (by rw[hb];exact Bool.false_ne_true)];exact hv.keep s1
theorem scGreater:FnScope ["left","right"] ["left","right"] (defScope (top 10)):=fS
theorem Xi(F:FunN K mg "greater" (top 10))(D:Df P w K mg base 1 "at_most" ["left","right"] (sp2L K fun a b=>IsB (Vbirad.le a b))):Df P w K mg base 2 "greater" ["left","right"] (sp2 K fun a b=>Fra K (Vbirad.most a b)):=by
 refine Df.of F scGreater (fun vs H Q E h=>?_) (fun f cdv A outer s H vs Q E hr h=>?_)
 ·obtain⟨a,b,u,v,i,j,rfl,_⟩ :=h;rfl
 ·obtain⟨a,b,u,v,i,j,rfl,hu,hv,sa,sb,hij,k⟩ :=h;refine⟨_,Ad (Ah (Vi (Bk (pd D hr (Aa (pv 0) (Aa (pv 1) Ab)))) (pv 1) (pv 0))),?_⟩;refine⟨_,rfl,_,rfl,a,b,u,v,i,j,rfl,hu,hv,sa,sb,(by omega),?_⟩;rintro _ H1 s1 rfl;refine⟨_,rfl,?_⟩;refine iteB (fun hb=>?_) (fun hb=>?_)
  ·refine⟨_,rfl,k _ _ s1 ?_⟩;show Fra K (Vbirad.most a b) _ _;unfold Vbirad.most;rw[if_pos hb];exact hv.keep s1
  ·refine⟨_,rfl,k _ _ s1 ?_⟩;show Fra K (Vbirad.most a b) _ _;unfold Vbirad.most;rw[if_neg (by rw[hb];exact Bool.false_ne_true)];exact hu.keep s1
inductive spTotal(K:PySem.W.Frag)(vs:List V)(H:Hp)(Q:VK)(_e3:XK):Prop|m:∀(qs:List Vbirad.Q) (u:V),vs= [u]->Lst K (Fra K) qs u H->(∀q∈qs,Sz 1900 q)->(∀i,Sz 7000 (sumQ (qs.take i)))->Ret H (Fra K (sumQ qs)) Q->spTotal K vs H Q _e3
theorem scTotal:FnScope ["ratios","summed","each"] ["ratios"] (defScope (top 12)):=fS
theorem cB(F:FunN K mg "total" (top 12))(Dw:Df P w K mg base 1 "whole" ["number"] (spWhole K))(Dp:Df P w K mg base 3 "plus" ["left","right"] (sp2 K fun a b=>Fra K (Vbirad.add a b))):Df P w K mg base 4 "total" ["ratios"] (spTotal K):=by
 refine Df.of F scTotal (fun vs H Q E h=>?_) (fun f cdv A outer s H vs Q E hr h=>?_)
 ·obtain⟨qs,u,rfl,_⟩ :=h;rfl
 ·obtain⟨qs,_,rfl,⟨p,xs,rfl,hl,hi⟩,sz,ss,k⟩ :=h;refine⟨_,Ac (Aj (i:=1) scTotal.nd rfl (Or.inl rfl) (pd Dw hr (Aa (Af) Ab)))
   (Ac (Ch PassesOwn.never rfl (A0 (pv 0)) (Am (i:=2) scTotal.nd rfl (Or.inl rfl))
    (Ad (Aj (i:=1) scTotal.nd rfl (Or.inl rfl) (pd Dp hr (Aa (pv 1) (Aa (pv 2) Ab))))))
   (Ad (Ah (pv 1)))),?_⟩
  refine⟨0,rfl,fun v H1 s1 f1=>?_⟩;refine⟨_,rfl,p,rfl,⟨_,s1.seq hl⟩,Bi (B:=Same H) (as:=qs) (R:=Fra K) (As (xs:=xs) fun H' sm=> ⟨sm.seq hl,hi.keep fun a v r=>Fra.keep r sm⟩)
   (fun i σ H'=>Same H H'/\∃(u:V) (e:Option V),σ= [some (.ref p),some u,e]/\Fra K (sumQ (qs.take i)) u H') ⟨s1,v,none,rfl,f1⟩ (fun i σ H' h=>h.1) ?_ ?_⟩
  ·rintro i a x σ H2 H3 ha ⟨sm,u,e,rfl,fu⟩ s3 fx;refine⟨_,rfl,_,rfl,_,a,u,x,7000,1900,rfl,fu.keep s3,fx,ss i,sz a (vD ha),by decide,?_⟩;intro y H4 s4 fy;refine⟨(sm.trans s3).trans s4,y,_,rfl,?_⟩;rw[Bm ha,R7];exact fy
  ·rintro σ H2 ⟨sm,u,e,rfl,fu⟩;rw[v6]at fu;exact⟨_,rfl,k _ _ sm fu⟩
inductive spLeastOf(K:PySem.W.Frag)(vs:List V)(H:Hp)(Q:VK)(_e3:XK):Prop|m:∀(q:Vbirad.Q) (qs:List Vbirad.Q) (u:V),vs= [u]->Lst K (Fra K) (q::qs) u H->(∀x∈q::qs,Sz 9000 x)->Ret H (Fra K ((q::qs).foldl Vbirad.least q)) Q->spLeastOf K vs H Q _e3
abbrev M4:Stmt:=top 11
theorem Fh:FnScope ["ratios","least","each"] ["ratios"] (defScope M4):=fS
theorem Wz{α β:Type}(f:β->α->β)(a:β){l:List α}{i:Nat}{x:α}(h:l[i]? =some x):(l.take (i + 1)).foldl f a=f ((l.take i).foldl f a) x:=by
 rw[Bm h,List.foldl_append];rfl
theorem Uv{k:Nat}:∀(l:List Q) (a:Q),Sz k a->(∀x∈l,Sz k x)->Sz k (l.foldl Vbirad.least a)
 | [],a,h,_=>h
 |x::l,a,h,hl=>Uv l _ (h.least (hl x (by simp))) fun y hy=>hl y (by simp[hy])
theorem Va(F:FunN K mg "least_of" M4)(wR:Df P w K mg base 2 "lesser" ["left","right"] (sp2L K fun a b=>Fra K (Vbirad.least a b))):Df P w K mg base 3 "least_of" ["ratios"] (spLeastOf K):=by
 refine Df.of F Fh (fun vs H Q E h=>?_) (fun f cdv A outer s H vs Q E hr h=>?_)
 ·obtain⟨q,qs,u,rfl,_⟩ :=h;rfl
 ·obtain⟨q,qs,_,rfl,⟨p,xs,rfl,hl,hi⟩,sz,k⟩ :=h;refine⟨_,Ac (Aj (i:=1) Fh.nd rfl (Or.inl rfl) (Ai Ag (pv 0) (Af)))
   (Ac (Ch PassesOwn.never rfl (A0 (pv 0)) (Am (i:=2) Fh.nd rfl (Or.inl rfl))
    (Ad (Aj (i:=1) Fh.nd rfl (Or.inl rfl) (pd wR hr (Aa (pv 1) (Aa (pv 2) Ab))))))
   (Ad (Ah (pv 1)))),?_⟩
  obtain⟨v0,hv0,f0⟩ :=hi.get (show(q::qs)[0]? =some q from rfl);refine⟨_,rfl,p,xs,0,v0,rfl,rfl,hl,(A4 (j:=0) hv0),?_⟩;refine⟨_,rfl,p,rfl,⟨_,hl⟩,Bi (B:=Same H) (as:=q::qs) (R:=Fra K) (As (xs:=xs) fun H' sm=> ⟨sm.seq hl,hi.keep fun a v r=>Fra.keep r sm⟩)
   (fun i σ H'=>Same H H'/\∃(u:V) (e:Option V),σ= [some (.ref p),some u,e]/\Fra K (((q::qs).take i).foldl Vbirad.least q) u H') ⟨Same.refl _,v0,none,rfl,f0⟩ (fun i σ H' h=>h.1) ?_ ?_⟩
  ·rintro i a x σ H2 H3 ha ⟨sm,u,e,rfl,fu⟩ s3 fx;refine⟨_,rfl,_,rfl,_,a,u,x,9000,9000,rfl,fu.keep s3,fx,Uv _ _ (sz q (by simp)) (fun y hy=>sz y (List.mem_of_mem_take hy)),sz a (List.mem_of_getElem? ha),by decide,?_⟩;intro y H4 s4 fy;refine⟨(sm.trans s3).trans s4,y,_,rfl,?_⟩;rw[Wz _ _ ha];exact fy
  ·rintro σ H2 ⟨sm,u,e,rfl,fu⟩;rw[v6]at fu;exact⟨_,rfl,k _ _ sm fu⟩
end
structure Blt(mg:Str->Option Value):Prop where
 len:mg "len"=none
 sum:mg "sum"=none
 zip:mg "zip"=none
 list:mg "list"=none
 range:mg "range"=none
 enumerate:mg "enumerate"=none
 min:mg "min"=none
 max:mg "max"=none
 all:mg "all"=none
 int:mg "int"=none
 ord:mg "ord"=none
structure COk(cs:List Nat):Prop where
 len:cs.length<=9
 each:∀c∈cs,c<=2^30
theorem Qc:∀(cs:List Nat) (B:Nat),(∀c∈cs,c<=B)->cs.sum<=cs.length * B
 | [],B,_=>by simp
 |c::cs,B,h=>by
  have:=Qc cs B (fun x hx=>h x (by simp[hx]));have h1:=h c (by simp);rw[List.sum_cons,List.length_cons,Nat.add_mul];omega
theorem COk.sum{cs:List Nat}(h:COk cs):cs.sum<=2^34:=by
 have h1:=Qc cs (2^30) h.each;have h2:=h.len;have h3:cs.length * 2^30<=9 * 2^30:=Nat.mul_le_mul_right _ h2;omega
theorem small9{α:Type}{l:List α}(h:l.length<=9):l.length < sizeLine:=small1000 (by omega)
theorem line9{n:Nat}(h:n<=9):n < sizeLine:=small1000 (by omega)
section
variable {P:Program}{w:World}{K:PySem.W.Frag}{mg:Str->Option Value}{base:Heap}
inductive spParts(K:PySem.W.Frag)(vs:List V)(H:Hp)(Q:VK)(_e3:XK):Prop|m:∀(e:Vbirad.Q) (cs:List Nat) (u v:V) (i:Nat),vs= [u,v]->Fra K e u H->Lst K IsN cs v H->Sz i e->i < 7000->COk cs->RetN H (Own (Fra K) (byParts (cQ cs) e)) Q->spParts K vs H Q _e3
abbrev M0:Stmt:=top 23
theorem De:FnScope ["amount","claims","claimed","claim"] ["amount","claims"] (defScope M0):=fS
theorem U6(F:FunN K mg "by_parts" M0)(T:Blt mg)(wC:Df P w K mg base 1 "whole" ["number"] (spWhole K))(wO:Df P w K mg base 3 "times" ["left","number"] (sp1z K fun a n=>Fra K (Vbirad.mul a (Vbirad.whole n))))
  (uB:Df P w K mg base 3 "over" ["left","number"] (sp1 K fun a n=>Fra K (Vbirad.over a (Vbirad.whole n)))):Df P w K mg base 4 "by_parts" ["amount","claims"] (spParts K):=by
 refine Df.of F De (fun vs H Q E h=>?_) (fun f cdv A outer s H vs Q E hr h=>?_)
 ·obtain⟨e,cs,u,v,i,rfl,_⟩ :=h;rfl
 ·obtain⟨e,cs,u,_,i,rfl,fe,⟨p,xs,rfl,hl,hi⟩,se,hi7,hc,k⟩ :=h;have hr':Room 3 _:=hr;refine⟨_,Ac (Aj (i:=2) De.nd rfl (Or.inr rfl) (Ao (Lr rfl) (by rfl) T.sum boot_sum (Aa (pv 1) Ab)))
   (Ac (A1 (At Cn (pv 2) (Af) (nomark _))
    (Ad (Ah (Co (own:=[("claim",3)]) rfl De.nd (A0 (pv 1)) (Ax (by rfl)) (fun _ _ _ _ _=>Am (i:=3) De.nd rfl (Or.inl rfl)) (fun _ _ _ _ _=>A6) (fun _ _ _ _ _=>pd wC hr (Aa (Af) Ab)))))
    (Aq))
   (Ad (Ah (Co (own:=[("claim",3)]) rfl De.nd (A0 (pv 1)) (Ax (by rfl)) (fun _ _ _ _ _=>Am (i:=3) De.nd rfl (Or.inl rfl)) (fun _ _ _ _ _=>A6) (fun _ _ _ _ _=>pd uB hr (Aa (pd wO hr (Aa (pv 0) (Aa (pv 3) Ab))) (Aa (pv 2) Ab))))))),?_⟩
  have ex:=Mp hi;subst ex;refine⟨_,rfl,p,_,rfl,hl,?_⟩;have es:(cs.map (fun(n:Nat)=>(n:Int))).sum=((cs.sum:Nat):Int):=El cs;rw[es];refine⟨_,rfl,rfl,_,rfl,?_⟩;have W:Seqs (Itl K p) (Same H) cs IsN:=As fun H' sm=> ⟨sm.seq hl,hi⟩;by_cases h0:cs.sum=0
  ·refine iteTr (by rw[h0];rfl) ?_;refine⟨_,rfl,p,rfl,⟨_,hl⟩,Ge (as:=cs) (R:=IsN) (S:=Fra K) (fun _=>Vbirad.whole 0) A7 W (small9 hc.len) (fun a x H' Qe ha sm r kk=>?_) (fun _ _ _ _ h q=>A2 h q) (fun D ys H' hn sm hD o=>?_)⟩
   ·exact⟨rfl,0,rfl,kk⟩
   ·refine k _ _ sm hn ?_;have:byParts (cQ cs) e=cs.map fun _=>Vbirad.whole 0:=by
     unfold byParts;rw[I0,h0];simp[cQ,Vbirad.whole,List.map_map]
    rw[this];exact⟨D,ys,rfl,hD,o⟩
  ·refine iteFl (by simp;omega) ?_;refine⟨_,rfl,p,rfl,⟨_,hl⟩,Ge (as:=cs) (R:=IsN) (S:=Fra K) (fun c=>Vbirad.over (Vbirad.mul e (Vbirad.whole (c:Int))) (Vbirad.whole ((cs.sum:Nat):Int))) A7 W (small9 hc.len) (fun a x H' Qe ha sm r kk=>?_) (fun _ _ _ _ h q=>A2 h q) (fun D ys H' hn sm hD o=>?_)⟩
   ·obtain rfl:x=V.int (a:Int):=r;have ha':=hc.each a ha;have hm:Sz (i + 100) (Vbirad.mul e (Vbirad.whole (a:Int))):=se.mulN (vA ha' (by decide));refine⟨rfl,_,rfl,_,rfl,e,a,u,i,rfl,fe.keep sm,se,by omega,vA ha' (vN (by decide) (by decide)),fun y H2 s2 fy=>?_⟩;exact⟨_,rfl,_,cs.sum,y,i + 100,rfl,fy,hm,by omega,by omega,vA hc.sum (vN (by decide) (by decide)),fun z H3 s3 fz=>kk _ _ (s2.trans s3) fz⟩
   ·refine k _ _ sm hn ?_;have:byParts (cQ cs) e=cs.map fun(c:Nat)=>Vbirad.over (Vbirad.mul e (Vbirad.whole (c:Int))) (Vbirad.whole ((cs.sum:Nat):Int)):=by
     unfold byParts;rw[I0];dsimp only;rw[cQ,List.map_map];refine List.map_congr_left fun c _=>?_;show(if ((cs.sum:Nat):Int)=0 then _ else _)=_;rw[if_neg (by omega),mul_comm]
    rw[this];exact⟨D,ys,rfl,hD,o⟩
abbrev WP(K:PySem.W.Frag):Rel (Q×Nat):=Par K (Fra K) IsN
theorem Em{K:PySem.W.Frag}:Flat (WP K):=Sr A7 Bp
structure LOk(x:Q×Nat):Prop where
 lim:Bd 2 (2^31) x.1
 w0:0 < x.2
 w1:x.2<=100
theorem LOk.sz{x:Q×Nat}(h:LOk x):Sz 1 x.1:=h.lim.sz (by decide) (by decide) (vN (by decide) (by decide))
structure WtOk(l:List (Q×Nat)):Prop where
 len:l.length<=9
 each:∀x∈l,LOk x
theorem WtOk.sub{l m:List (Q×Nat)}(h:WtOk l)(hl:m.length<=l.length)(hs:∀x∈m,x∈l):WtOk m:= ⟨vA hl h.len,fun x hx=>h.each x (hs x hx)⟩
theorem WtOk.filter{l:List (Q×Nat)}(h:WtOk l)(p:Q×Nat->Bool):WtOk (l.filter p):=h.sub (List.length_filter_le _ _) fun x hx=>(List.mem_filter.mp hx).1
theorem pow900{n k:Nat}(h:n<=2^k)(hk:k<=900):n<=2^900:=vA h (vN (by decide) hk)
theorem WtOk.wsum{l:List (Q×Nat)}(h:WtOk l):wsum l<=2^10:=by
 have h1:=Qc (l.map fun x=>x.2) 100 (fun c hc=>by obtain⟨x,hx,rfl⟩ :=vL hc;exact(h.each x hx).w1);have h2:=h.len;rw[vB]at h1;have:l.length * 100<=9 * 100:=Nat.mul_le_mul_right _ h2;show(l.map fun x=>x.2).sum<=_;omega
theorem Fa{l:List (Q×Nat)}(h:WtOk l)(hne:l≠[]):0 < wsum l:=by
 cases l with
 |nil=>exact absurd rfl hne
 |cons x l=>
  have:=(h.each x (by simp)).w0;show 0 < ((x::l).map fun x=>x.2).sum;rw[List.map_cons,List.sum_cons];omega
inductive spIsFilled(K:PySem.W.Frag)(vs:List V)(H:Hp)(Q:VK)(_e3:XK):Prop|m:∀(x:Vbirad.Q×Nat) (k:Vbirad.Q) (u v:V) (i:Nat),vs= [u,.int (x.2:Int),v]->Fra K x.1 u H->Fra K k v H->LOk x->Sz i k->i < 7000->Ret H (IsB (fillB k x)) Q->spIsFilled K vs H Q _e3
abbrev Lc:Stmt:=top 24
theorem Ty:FnScope ["limit","weight","level"] ["limit","weight","level"] (defScope Lc):=fS
theorem Tf(F:FunN K mg "is_filled" Lc)(wL:Df P w K mg base 1 "at_most" ["left","right"] (sp2L K fun a b=>IsB (Vbirad.le a b)))(wO:Df P w K mg base 3 "times" ["left","number"] (sp1z K fun a n=>Fra K (Vbirad.mul a (Vbirad.whole n)))):
  Df P w K mg base 4 "is_filled" ["limit","weight","level"] (spIsFilled K):=by
 refine Df.of F Ty (fun vs H Q E h=>?_) (fun f cdv A outer s H vs Q E hr h=>?_)
 ·obtain⟨x,k,u,v,i,rfl,_⟩ :=h;rfl
 ·obtain⟨x,k,u,v,i,rfl,fx,fk,lx,sk,hi,kk⟩ :=h;refine⟨_,Ad (Ah (pd wL hr (Aa (pv 0) (Aa (pd wO hr (Aa (pv 2) (Aa (pv 1) Ab))) Ab)))),?_⟩;refine⟨_,rfl,_,rfl,_,rfl,k,x.2,v,i,rfl,fk,sk,by omega,pow900 (k:=10) (vA lx.w1 (by decide)) (by decide),fun y H1 s1 fy=>?_⟩;exact⟨_,_,u,y,1,i + 100,rfl,fx.keep s1,fy,lx.sz,sk.mulN (vA lx.w1 (by decide)),by omega,fun z H2 s2 hz=>kk _ _ (s1.trans s2) hz⟩
inductive spFilledAt(K:PySem.W.Frag)(b:Bool)(vs:List V)(H:Hp)(Q:VK)(_e3:XK):Prop|m:∀(l:List (Vbirad.Q×Nat)) (k:Vbirad.Q) (u v:V) (i:Nat),vs= [v,u]->Lst K (WP K) l u H->Fra K k v H->WtOk l->Sz i k->i < 7000->Ret H (Own (WP K) (l.filter fun x=>fillB k x == b)) Q->spFilledAt K b vs H Q _e3
abbrev La:Stmt:=top 25
theorem Go:FnScope ["level","waiting","pair"] ["level","waiting"] (defScope La):=fS
theorem Tb(F:FunN K mg "filled_at" La)(wS:Df P w K mg base 4 "is_filled" ["limit","weight","level"] (spIsFilled K)):Df P w K mg base 5 "filled_at" ["level","waiting"] (spFilledAt K true):=by
 refine Df.of F Go (fun vs H Q E h=>?_) (fun f cdv A outer s H vs Q E hr h=>?_)
 ·obtain⟨x,k,u,v,i,rfl,_⟩ :=h;rfl
 ·obtain⟨l,k,_,v,i,rfl,⟨p,xs,rfl,hl,hi⟩,fk,hw,sk,hi7,kk⟩ :=h;refine⟨_,Ad (Ah (Co (own:=[("pair",2)]) rfl Go.nd (A0 (pv 1)) (Ax (by rfl)) (fun _ _ _ _ _=>Am (i:=2) Go.nd rfl (Or.inl rfl)) (fun _ _ _ _ _=>Jk (Bk (pd wS hr (Aa (Ai (Gc (K:=K) rfl) (pv 2) (Af)) (Aa (Ai (Gc (K:=K) rfl) (pv 2) (Af)) (Aa (pv 0) Ab)))))) (fun _ _ _ _ _=>pv 2))),?_⟩;have W:Seqs (Itl K p) (Same H) l (WP K):=As fun H' sm=> ⟨sm.seq hl,hi.keep fun a v r=>Em _ _ _ _ (Tk.of sm) r⟩;refine⟨_,rfl,p,rfl,⟨_,hl⟩,Jf (as:=l) (R:=WP K) (S:=WP K) (fun x=>fillB k x == true) (fun x=>x) Em W (small9 hw.len) (fun a x H' Qe Nx ha sm r k1 k2=>?_) (fun D ys H' sm hD o=>?_)⟩
  ·obtain⟨q,y,z,rfl,hq,fy,hz⟩ :=r;obtain rfl:z=V.int (a.2:Int):=hz;refine⟨rfl,_,rfl,q,_,_,_,rfl,rfl,hq,rfl,_,rfl,q,_,_,_,rfl,rfl,hq,rfl,_,rfl,a,k,y,v,i,rfl,fy,fk.keep sm,hw.each a ha,sk,hi7,?_⟩;rintro _ H2 s2 rfl;refine⟨_,rfl,?_⟩;refine iteB (fun hb=>?_) (fun hb=>?_)
   ·exact⟨_,rfl,k1 (by rw[hb];rfl) _ _ s2 ⟨q,y,_,rfl,Same.seqT s2 hq,fy.keep s2,rfl⟩⟩
   ·exact k2 (by rw[hb];rfl) _ s2
  ·refine kk _ _ sm ?_;rw[List.map_id']at o;exact⟨D,ys,rfl,hD,o⟩
abbrev Iz:Stmt:=top 26
theorem E7:FnScope ["level","waiting","pair"] ["level","waiting"] (defScope Iz):=fS
theorem Pk(F:FunN K mg "unfilled_at" Iz)(wS:Df P w K mg base 4 "is_filled" ["limit","weight","level"] (spIsFilled K)):Df P w K mg base 5 "unfilled_at" ["level","waiting"] (spFilledAt K false):=by
 refine Df.of F E7 (fun vs H Q E h=>?_) (fun f cdv A outer s H vs Q E hr h=>?_)
 ·obtain⟨x,k,u,v,i,rfl,_⟩ :=h;rfl
 ·obtain⟨l,k,_,v,i,rfl,⟨p,xs,rfl,hl,hi⟩,fk,hw,sk,hi7,kk⟩ :=h;refine⟨_,Ad (Ah (Co (own:=[("pair",2)]) rfl E7.nd (A0 (pv 1)) (Ax (by rfl)) (fun _ _ _ _ _=>Am (i:=2) E7.nd rfl (Or.inl rfl)) (fun _ _ _ _ _=>Jk (Bf (Bk (pd wS hr (Aa (Ai (Gc (K:=K) rfl) (pv 2) (Af)) (Aa (Ai (Gc (K:=K) rfl) (pv 2) (Af)) (Aa (pv 0) Ab))))))) (fun _ _ _ _ _=>pv 2))),?_⟩;have W:Seqs (Itl K p) (Same H) l (WP K):=As fun H' sm=> ⟨sm.seq hl,hi.keep fun a v r=>Em _ _ _ _ (Tk.of sm) r⟩;refine⟨_,rfl,p,rfl,⟨_,hl⟩,Jf (as:=l) (R:=WP K) (S:=WP K) (fun x=>fillB k x == false) (fun x=>x) Em W (small9 hw.len) (fun a x H' Qe Nx ha sm r k1 k2=>?_) (fun D ys H' sm hD o=>?_)⟩
  ·obtain⟨q,y,z,rfl,hq,fy,hz⟩ :=r;obtain rfl:z=V.int (a.2:Int):=hz;refine⟨rfl,_,rfl,q,_,_,_,rfl,rfl,hq,rfl,_,rfl,q,_,_,_,rfl,rfl,hq,rfl,_,rfl,a,k,y,v,i,rfl,fy,fk.keep sm,hw.each a ha,sk,hi7,?_⟩;rintro _ H2 s2 rfl;refine⟨_,rfl,?_⟩;refine iteB (fun hb=>?_) (fun hb=>?_)
   ·have hb':fillB k a=false:=by simpa using hb
    exact⟨_,rfl,k1 (by rw[hb'];rfl) _ _ s2 ⟨q,y,_,rfl,Same.seqT s2 hq,fy.keep s2,rfl⟩⟩
   ·have hb':fillB k a=true:=by simpa using hb
    exact k2 (by rw[hb'];rfl) _ s2
  ·refine kk _ _ sm ?_;rw[List.map_id']at o;exact⟨D,ys,rfl,hD,o⟩
inductive spCommon(K:PySem.W.Frag)(vs:List V)(H:Hp)(Q:VK)(_e3:XK):Prop|m:∀(e:Vbirad.Q) (l:List (Vbirad.Q×Nat)) (u v:V) (i:Nat),vs= [v,u]->Lst K (WP K) l u H->Fra K e v H->WtOk l->l≠[]->Sz i e->i < 7000->Ret H (Fra K (Vbirad.over e (Vbirad.whole ((wsum l:Nat):Int)))) Q->spCommon K vs H Q _e3
abbrev Hg:Stmt:=top 27
theorem Er:FnScope ["amount","waiting","pair"] ["amount","waiting"] (defScope Hg):=fS
theorem Np(F:FunN K mg "common_level" Hg)(T:Blt mg)(uB:Df P w K mg base 3 "over" ["left","number"] (sp1 K fun a n=>Fra K (Vbirad.over a (Vbirad.whole n)))):Df P w K mg base 4 "common_level" ["amount","waiting"] (spCommon K):=by
 refine Df.of F Er (fun vs H Q E h=>?_) (fun f cdv A outer s H vs Q E hr h=>?_)
 ·obtain⟨e,l,u,v,i,rfl,_⟩ :=h;rfl
 ·obtain⟨e,l,_,v,i,rfl,⟨p,xs,rfl,hl,hi⟩,fe,hw,hne,se,hi7,kk⟩ :=h;refine⟨_,Ad (Ah (pd uB hr (Aa (pv 0) (Aa (Ao (Lr rfl) (by rfl) T.sum boot_sum (Aa (Co (own:=[("pair",2)]) rfl Er.nd (A0 (pv 1)) (Ax (by rfl)) (fun _ _ _ _ _=>Am (i:=2) Er.nd rfl (Or.inl rfl)) (fun _ _ _ _ _=>A6) (fun _ _ _ _ _=>Ai (Gc (K:=K) rfl) (pv 2) (Af))) Ab)) Ab)))),?_⟩;have W:Seqs (Itl K p) (Same H) l (WP K):=As fun H' sm=> ⟨sm.seq hl,hi.keep fun a v r=>Em _ _ _ _ (Tk.of sm) r⟩;refine⟨_,rfl,_,rfl,p,rfl,⟨_,hl⟩,Bx (as:=l) (R:=WP K) (S:=IsN) (fun x=>x.2) Bp W (small9 hw.len) (fun a x H' Qe ha sm r k1=>?_) (fun _ _ _ _ h q=>A2 h q) (fun D ys H' sm hD o=>?_)⟩
  ·obtain⟨q,y,z,rfl,hq,fy,hz⟩ :=r;exact⟨rfl,_,rfl,q,_,_,_,rfl,rfl,hq,rfl,k1 _ _ (Same.refl _) hz⟩
  ·have ey:=Mp o;subst ey;refine⟨D,_,rfl,SqL.of hD,?_⟩;rw[El];exact⟨e,wsum l,v,i,rfl,fe.keep sm,se,by omega,Fa hw hne,pow900 hw.wsum (by decide),fun z H2 s2 fz=>kk _ _ (sm.trans s2) fz⟩
theorem Y2{x:Q×Nat}(h:LOk x):Sz 101 (Vbirad.over x.1 (Vbirad.whole (x.2:Int))):=h.sz.overN h.w0 (vA h.w1 (by decide))
theorem dD:∀(l:List (Q×Nat)) (q:Q),(∀x∈l,LOk x)->Sz 101 q->Sz 101 ((l.map fun x=>Vbirad.over x.1 (Vbirad.whole (x.2:Int))).foldl Vbirad.most q)
 | [],q,_,h=>h
 |x::l,q,hl,h=>dD l _ (fun y hy=>hl y (by simp[hy])) (h.most (Y2 (hl x (by simp))))
theorem eQ(l:List (Q×Nat))(x:Q×Nat):hiQ (l++[x])=Vbirad.most (hiQ l) (Vbirad.over x.1 (Vbirad.whole (x.2:Int))):=by
 unfold hiQ;rw[List.map_append,List.foldl_append];rfl
inductive spHigh(K:PySem.W.Frag)(vs:List V)(H:Hp)(Q:VK)(_e3:XK):Prop|m:∀(l:List (Vbirad.Q×Nat)) (u:V),vs= [u]->Lst K (WP K) l u H->WtOk l->Ret H (Fra K (hiQ l)) Q->spHigh K vs H Q _e3
abbrev F2:Stmt:=top 28
theorem B9:FnScope ["waiting","highest","limit","weight"] ["waiting"] (defScope F2):=fS
theorem L5(F:FunN K mg "highest_ratio" F2)(wC:Df P w K mg base 1 "whole" ["number"] (spWhole K))(uB:Df P w K mg base 3 "over" ["left","number"] (sp1 K fun a n=>Fra K (Vbirad.over a (Vbirad.whole n))))
  (w8:Df P w K mg base 2 "greater" ["left","right"] (sp2 K fun a b=>Fra K (Vbirad.most a b))):Df P w K mg base 4 "highest_ratio" ["waiting"] (spHigh K):=by
 refine Df.of F B9 (fun vs H Q E h=>?_) (fun f cdv A outer s H vs Q E hr h=>?_)
 ·obtain⟨l,u,rfl,_⟩ :=h;rfl
 ·obtain⟨l,_,rfl,⟨p,xs,rfl,hl,hi⟩,hw,kk⟩ :=h;refine⟨_,Ac (Aj (i:=1) B9.nd rfl (Or.inl rfl) (pd wC hr (Aa (Af) Ab)))
   (Ac (Ch PassesOwn.never rfl (A0 (pv 0)) (J9 rfl (A5 (Am (i:=2) B9.nd rfl (Or.inl rfl)) (A5 (Am (i:=3) B9.nd rfl (Or.inl rfl)) (C6))))
    (Ad (Aj (i:=1) B9.nd rfl (Or.inl rfl) (pd w8 hr (Aa (pv 1) (Aa (pd uB hr (Aa (pv 2) (Aa (pv 3) Ab))) Ab))))))
   (Ad (Ah (pv 1)))),?_⟩
  refine⟨0,rfl,fun v H1 s1 f1=>?_⟩;refine⟨_,rfl,p,rfl,⟨_,s1.seq hl⟩,Bi (B:=Same H) (as:=l) (R:=WP K) (As (xs:=xs) fun H' sm=> ⟨sm.seq hl,hi.keep fun a v r=>Em _ _ _ _ (Tk.of sm) r⟩)
   (fun i σ H'=>Same H H'/\∃(u:V) (e e2:Option V),σ= [some (.ref p),some u,e,e2]/\Fra K (hiQ (l.take i)) u H') ⟨s1,v,none,none,rfl,f1⟩ (fun i σ H' h=>h.1) ?_ ?_⟩
  ·rintro i a x σ H2 H3 ha ⟨sm,u,e,e2,rfl,fu⟩ s3 ⟨q,y,z,rfl,hq,fy,hz⟩;obtain rfl:z=V.int (a.2:Int):=hz;have la:=hw.each a (vD ha);refine⟨q,_,rfl,hq,rfl,_,_,rfl,_,_,rfl,rfl,?_⟩;refine⟨_,rfl,_,rfl,_,rfl,_,a.2,y,1,rfl,fy,la.sz,by decide,la.w0,pow900 (k:=10) (vA la.w1 (by decide)) (by decide),fun o H4 s4 fo=>?_⟩;refine⟨_,_,u,o,101,101,rfl,(fu.keep s3).keep s4,fo,dD _ _ (fun x hx=>hw.each x (List.mem_of_mem_take hx)) (Sz.whole (vW _)),Y2 la,by decide,fun r H5 s5 fr=>?_⟩;refine⟨((sm.trans s3).trans s4).trans s5,r,_,_,rfl,?_⟩;rw[Bm ha,eQ];exact fr
  ·rintro σ H2 ⟨sm,u,e,e2,rfl,fu⟩;rw[v6]at fu;exact⟨_,rfl,kk _ _ sm fu⟩
end
end Dr
namespace Dr
open Vbirad (Q Party Kind House Bytes text partsOf wordsOf linesOf numberIn isName isDigit isSmall find findAll weightIn lineOf readFrom readSharing RULES KEYS free distinct CLAIM WEIGHT MEMBERS PARTIES whole_ Call WATER byChance byParts claimOf claimsIn digits evenly fact halves inOrder isGroup isMember isParty isPerson leastFor levelFrom losses membersOf nums onSharing partyAt printParty printSharing proofOf qRow risen ruleOf setClaim setRule shareBy shareFrom shareOf spaced subsets sumQ weightsIn)
open PySem PySem.Calls PyProof.Rows PySem.Spec L2
abbrev ZipF(h:Heap)(z TI TO:Addr)(f0:Value)(f1:Bool):Prop:=
 h.get? z=some {cls:=.type "zip",dict:=none,data:=.fields #[f0,.bool f1,.bool false,.ref TI,.ref TO],slots:=#[]}
section
variable {prog:Program}{w:World}{A:Around}{E:Value->Shared->Prop}{s:Shared}
theorem dY{z TI TO i1 i2 l1 l2 T:Addr}{oT:Obj}{f1:Bool}{k1 k2:Nat}{xs ys:Array Value}{x y:Value}{Q:Value->Shared->Prop}(D:ZipApart z TI TO i1 i2 l1 l2)
  (hz:ZipF s.heap z TI TO (rawInt T) f1) (hT:s.heap.get? T=some oT) (hTI:IsPair s.heap TI (.ref i1) (.ref i2))
  (h1:s.heap.IsListIter i1 l1 k1) (h2:s.heap.IsListIter i2 l2 k2) (hl1:s.heap.IsList l1 xs) (hl2:s.heap.IsList l2 ys) (hx:xs[k1]? =some x) (hy:ys[k2]? =some y)
  (hQ:∀h',ZipF h' z TI TO (rawInt T) true->h'.IsListIter i1 l1 (k1 + 1)->h'.IsListIter i2 l2 (k2 + 1)->IsPair h' s.heap.objs.size x y->h'.objs.size=s.heap.objs.size + 1->
   (∀c o,c≠z->c≠i1->c≠i2->s.heap.get? c=some o->h'.get? c=some o)->Q (.ref s.heap.objs.size) {s with heap:=h'}):
  wpAny (model prog w) A (Builtin.«zip.__next__» ⟨[.ref z],[]⟩) (fun fin s'=>∃v,fin=.done (.ret v)/\Q v s') E s:=by
 show wpAny _ _ (field (.ref z) 2 >>= _) _ _ _;refine wpAny_bind (wpAny_field hz rfl (x:=.bool false) rfl ?_);show wpAny _ _ (field (.ref z) 3 >>= _) _ _ _;refine wpAny_bind (wpAny_field hz rfl (x:=.ref TI) rfl ?_);refine wpAny_bind (wpAny_seqItems hTI rfl ?_);show wpAny _ _ (Builtin.SmallTypes.ownedTupleIsFree (.ref z) >>= _) _ _ _;refine wpAny_bind ?_;unfold Builtin.SmallTypes.ownedTupleIsFree;refine wpAny_bind (wpAny_field hz rfl (x:=rawInt T) rfl ?_);show wpAny _ _ (loadIfAlive ((T:Int).toNat) >>= _) _ _ _;rw[Int.toNat_natCast];refine wpAny_bind (PySem.W.kdx_alive hT ?_);simp only [Option.isNone_some,Bool.false_eq_true,if_false];refine wpAny_bind (wpAny_field hz rfl (x:=.bool f1) rfl ?_);cases f1 with
 |true=>
  rw[if_neg (show¬((Value.bool true !=Value.bool true)=true) from Bool.false_ne_true)];refine wpAny_pure ?_;simp only [Bool.false_eq_true,if_false];have hs0:Heap.SameBut z s.heap s.heap:=Heap.SameBut.refl _ _;have hz0:=hz;rw[<-Array.forIn_toList];simp only [List.forIn_cons,List.forIn_nil];refine wpAny_bind (wpAny_bind (wpAny_bind (wpAny_holding ?_)));show wpAny _ _ (Builtin.SmallTypes.nextOf (.ref i1) >>= _) _ _ _;refine wpAny_bind (wpAny_nextOf_list_item (h1.extBut hs0.extBut D.i1z) (hl1.extBut hs0.extBut D.l1z) hx fun h₂ h1₂ hs₂=>wpAny_pure ?_);refine wpAny_pure ?_;refine wpAny_bind (wpAny_bind (wpAny_holding ?_));show wpAny _ _ (Builtin.SmallTypes.nextOf (.ref i2) >>= _) _ _ _;refine wpAny_bind (wpAny_nextOf_list_item ((h2.extBut hs0.extBut D.i2z).extBut hs₂.extBut D.i12.symm) ((hl2.extBut hs0.extBut D.l2z).extBut hs₂.extBut D.l2i1) hy fun h₃ h2₃ hs₃=>wpAny_pure ?_);refine wpAny_pure (wpAny_pure ?_);refine wpAny_bind (wpAny_newTuple ?_ (by show 2<=sizeLine;decide));have hsz:h₃.objs.size=s.heap.objs.size:=by rw[hs₃.1,hs₂.1,hs0.1]
  have kp:∀c o,c≠z->c≠i1->c≠i2->s.heap.get? c=some o->h₃.get? c=some o:=fun c o c1 c2 c3 e=>hs₃.extBut _ _ c3 (hs₂.extBut _ _ c2 (hs0.extBut _ _ c1 e));refine wpAny_pure ⟨_,rfl,?_⟩;show Q (.ref h₃.objs.size) _;rw[hsz];refine hQ _ ?_ ?_ ?_ ?_ ?_ ?_
  ·exact Heap.get?_push_of_some _ (hs₃.extBut _ _ D.i2z.symm (hs₂.extBut _ _ D.i1z.symm hz0))
  ·exact(h1₂.extBut hs₃.extBut D.i12).at fun o e=>Heap.get?_push_of_some _ e
  ·exact h2₃.at fun o e=>Heap.get?_push_of_some _ e
  ·show Heap.get? _ s.heap.objs.size=_;rw[<-hsz];exact Heap.get?_push_size _ rfl
  ·rw[Heap.size_push,hsz]
  ·exact fun c o c1 c2 c3 e=>Heap.get?_push_of_some _ (kp c o c1 c2 c3 e)
 |false=>
  rw[if_pos (show(Value.bool false !=Value.bool true)=true from rfl)];refine wpAny_bind (wpAny_setField_rec hz (by simp) fun h₁ hz0 hs0=>?_)
  replace hz0:ZipF h₁ z TI TO (rawInt T) true:=hz0
  replace hs0:Heap.SameBut z s.heap h₁:=hs0
  refine wpAny_pure ?_;simp only [Bool.false_eq_true,if_false];rw[<-Array.forIn_toList];simp only [List.forIn_cons,List.forIn_nil];refine wpAny_bind (wpAny_bind (wpAny_bind (wpAny_holding ?_)));show wpAny _ _ (Builtin.SmallTypes.nextOf (.ref i1) >>= _) _ _ _;refine wpAny_bind (wpAny_nextOf_list_item (h1.extBut hs0.extBut D.i1z) (hl1.extBut hs0.extBut D.l1z) hx fun h₂ h1₂ hs₂=>wpAny_pure ?_);refine wpAny_pure ?_;refine wpAny_bind (wpAny_bind (wpAny_holding ?_));show wpAny _ _ (Builtin.SmallTypes.nextOf (.ref i2) >>= _) _ _ _;refine wpAny_bind (wpAny_nextOf_list_item ((h2.extBut hs0.extBut D.i2z).extBut hs₂.extBut D.i12.symm) ((hl2.extBut hs0.extBut D.l2z).extBut hs₂.extBut D.l2i1) hy fun h₃ h2₃ hs₃=>wpAny_pure ?_);refine wpAny_pure (wpAny_pure ?_);refine wpAny_bind (wpAny_newTuple ?_ (by show 2<=sizeLine;decide));have hsz:h₃.objs.size=s.heap.objs.size:=by rw[hs₃.1,hs₂.1,hs0.1]
  have kp:∀c o,c≠z->c≠i1->c≠i2->s.heap.get? c=some o->h₃.get? c=some o:=fun c o c1 c2 c3 e=>hs₃.extBut _ _ c3 (hs₂.extBut _ _ c2 (hs0.extBut _ _ c1 e));refine wpAny_pure ⟨_,rfl,?_⟩;show Q (.ref h₃.objs.size) _;rw[hsz];refine hQ _ ?_ ?_ ?_ ?_ ?_ ?_
  ·exact Heap.get?_push_of_some _ (hs₃.extBut _ _ D.i2z.symm (hs₂.extBut _ _ D.i1z.symm hz0))
  ·exact(h1₂.extBut hs₃.extBut D.i12).at fun o e=>Heap.get?_push_of_some _ e
  ·exact h2₃.at fun o e=>Heap.get?_push_of_some _ e
  ·show Heap.get? _ s.heap.objs.size=_;rw[<-hsz];exact Heap.get?_push_size _ rfl
  ·rw[Heap.size_push,hsz]
  ·exact fun c o c1 c2 c3 e=>Heap.get?_push_of_some _ (kp c o c1 c2 c3 e)
theorem Ua{z TI TO i1 i2 l1 l2 T:Addr}{oT:Obj}{f1:Bool}{k1 k2:Nat}{xs ys:Array Value}{Q:Fin->Shared->Prop}(hh:A.handled=none)(D:ZipApart z TI TO i1 i2 l1 l2)
  (hz:ZipF s.heap z TI TO (rawInt T) f1) (hT:s.heap.get? T=some oT) (hTI:IsPair s.heap TI (.ref i1) (.ref i2))
  (h1:s.heap.IsListIter i1 l1 k1) (h2:s.heap.IsListIter i2 l2 k2) (hl1:s.heap.IsList l1 xs) (hl2:s.heap.IsList l2 ys) (hend:xs[k1]? =none∨ys[k2]? =none)
  (hE:∀h' e,(∀c o,c≠z->c≠i1->c≠i2->s.heap.get? c=some o->h'.get? c=some o)->(∃o,h'.get? e=some o/\o.cls=.type "StopIteration")->E (.ref e) {s with heap:=h'}):
  wpAny (model prog w) A (Builtin.«zip.__next__» ⟨[.ref z],[]⟩) Q E s:=by
 show wpAny _ _ (field (.ref z) 2 >>= _) _ _ _;refine wpAny_bind (wpAny_field hz rfl (x:=.bool false) rfl ?_);show wpAny _ _ (field (.ref z) 3 >>= _) _ _ _;refine wpAny_bind (wpAny_field hz rfl (x:=.ref TI) rfl ?_);refine wpAny_bind (wpAny_seqItems hTI rfl ?_);show wpAny _ _ (Builtin.SmallTypes.ownedTupleIsFree (.ref z) >>= _) _ _ _;refine wpAny_bind ?_;unfold Builtin.SmallTypes.ownedTupleIsFree;refine wpAny_bind (wpAny_field hz rfl (x:=rawInt T) rfl ?_);show wpAny _ _ (loadIfAlive ((T:Int).toNat) >>= _) _ _ _;rw[Int.toNat_natCast];refine wpAny_bind (PySem.W.kdx_alive hT ?_);simp only [Option.isNone_some,Bool.false_eq_true,if_false];refine wpAny_bind (wpAny_field hz rfl (x:=.bool f1) rfl ?_);cases f1 with
 |true=>
  rw[if_neg (show¬((Value.bool true !=Value.bool true)=true) from Bool.false_ne_true)];refine wpAny_pure ?_;simp only [Bool.false_eq_true,if_false];have hs0:Heap.SameBut z s.heap s.heap:=Heap.SameBut.refl _ _;rw[<-Array.forIn_toList];simp only [List.forIn_cons,List.forIn_nil];refine wpAny_bind (wpAny_bind (wpAny_bind (wpAny_holding ?_)));show wpAny _ _ (Builtin.SmallTypes.nextOf (.ref i1) >>= _) _ _ _;cases hx:xs[k1]? with
  |none=>
   refine wpAny_bind (wpAny_nextOf_list_end hh (h1.extBut hs0.extBut D.i1z) (hl1.extBut hs0.extBut D.l1z) hx fun h₂ e hs₂ he=>?_);exact hE h₂ e (fun c o c1 c2 _ x=>hs₂ _ _ c2 (hs0.extBut _ _ c1 x)) he
  |some x=>
   have hy:ys[k2]? =none:=by rcases hend with h|h;rw[hx]at h;cases h;exact h
   refine wpAny_bind (wpAny_nextOf_list_item (h1.extBut hs0.extBut D.i1z) (hl1.extBut hs0.extBut D.l1z) hx fun h₂ h1₂ hs₂=>wpAny_pure ?_);refine wpAny_pure ?_;refine wpAny_bind (wpAny_bind (wpAny_holding ?_));show wpAny _ _ (Builtin.SmallTypes.nextOf (.ref i2) >>= _) _ _ _;refine wpAny_bind (wpAny_nextOf_list_end hh ((h2.extBut hs0.extBut D.i2z).extBut hs₂.extBut D.i12.symm) ((hl2.extBut hs0.extBut D.l2z).extBut hs₂.extBut D.l2i1) hy fun h₃ e hs₃ he=>?_);exact hE h₃ e (fun c o c1 c2 c3 x=>hs₃ _ _ c3 (hs₂.extBut _ _ c2 (hs0.extBut _ _ c1 x))) he
 |false=>
  rw[if_pos (show(Value.bool false !=Value.bool true)=true from rfl)];refine wpAny_bind (wpAny_setField_rec hz (by simp) fun h₁ hz0 hs0=>?_)
  replace hs0:Heap.SameBut z s.heap h₁:=hs0
  refine wpAny_pure ?_;simp only [Bool.false_eq_true,if_false];rw[<-Array.forIn_toList];simp only [List.forIn_cons,List.forIn_nil];refine wpAny_bind (wpAny_bind (wpAny_bind (wpAny_holding ?_)));show wpAny _ _ (Builtin.SmallTypes.nextOf (.ref i1) >>= _) _ _ _;cases hx:xs[k1]? with
  |none=>
   refine wpAny_bind (wpAny_nextOf_list_end hh (h1.extBut hs0.extBut D.i1z) (hl1.extBut hs0.extBut D.l1z) hx fun h₂ e hs₂ he=>?_);exact hE h₂ e (fun c o c1 c2 _ x=>hs₂ _ _ c2 (hs0.extBut _ _ c1 x)) he
  |some x=>
   have hy:ys[k2]? =none:=by rcases hend with h|h;rw[hx]at h;cases h;exact h
   refine wpAny_bind (wpAny_nextOf_list_item (h1.extBut hs0.extBut D.i1z) (hl1.extBut hs0.extBut D.l1z) hx fun h₂ h1₂ hs₂=>wpAny_pure ?_);refine wpAny_pure ?_;refine wpAny_bind (wpAny_bind (wpAny_holding ?_));show wpAny _ _ (Builtin.SmallTypes.nextOf (.ref i2) >>= _) _ _ _;refine wpAny_bind (wpAny_nextOf_list_end hh ((h2.extBut hs0.extBut D.i2z).extBut hs₂.extBut D.i12.symm) ((hl2.extBut hs0.extBut D.l2z).extBut hs₂.extBut D.l2i1) hy fun h₃ e hs₃ he=>?_);exact hE h₃ e (fun c o c1 c2 c3 x=>hs₃ _ _ c3 (hs₂.extBut _ _ c2 (hs0.extBut _ _ c1 x))) he
def ZSt(h:Heap)(z TI TO i1 i2 l1 l2 S:Addr)(i:Nat)(xs ys:Array Value):Prop:=
 IsPair h TI (.ref i1) (.ref i2)/\h.IsListIter i1 l1 i/\h.IsListIter i2 l2 i/\h.IsList l1 xs/\h.IsList l2 ys/\z≠S/\TI≠S/\TO≠S/\i1≠S/\i2≠S/\l1≠S/\l2≠S/\
  ((∃a b,IsZip h z TI TO .none/\IsPair h TO a b)∨∃(T:Addr) (oT:Obj) (f:Bool),ZipF h z TI TO (rawInt T) f/\h.get? T=some oT/\T≠z/\T≠i1/\T≠i2/\T≠TO/\T≠S)
theorem ZSt.keep{h h':Heap}{z TI TO i1 i2 l1 l2 S:Addr}{i:Nat}{xs ys:Array Value}(x:ZSt h z TI TO i1 i2 l1 l2 S i xs ys)(hk:∀b o,b≠S->h.get? b=some o->h'.get? b=some o):ZSt h' z TI TO i1 i2 l1 l2 S i xs ys:=by
 obtain⟨a1,a2,a3,a4,a5,n1,n2,n3,n4,n5,n6,n7,q⟩ :=x;refine⟨hk _ _ n2 a1,a2.at fun o e=>hk _ o n4 e,a3.at fun o e=>hk _ o n5 e,?_,?_,n1,n2,n3,n4,n5,n6,n7,?_⟩
 ·obtain⟨o,e,c⟩ :=a4;exact⟨o,hk _ _ n6 e,c⟩
 ·obtain⟨o,e,c⟩ :=a5;exact⟨o,hk _ _ n7 e,c⟩
 ·rcases q with⟨a,b,q1,q2⟩ | ⟨T,oT,f,q1,q2,t1,t2,t3,t4,t5⟩
  ·exact .inl ⟨a,b,hk _ _ n1 q1,hk _ _ n3 q2⟩
  ·exact .inr ⟨T,oT,f,hk _ _ n1 q1,hk _ _ t5 q2,t1,t2,t3,t4,t5⟩
theorem eA{z TI TO i1 i2 l1 l2 S:Addr}{i:Nat}{xs ys:Array Value}{x y:Value}{Q:Option Value->Shared->Prop}(D:ZipApart z TI TO i1 i2 l1 l2)(hst:ZSt s.heap z TI TO i1 i2 l1 l2 S i xs ys)(hS:S < s.heap.objs.size)
  (hx:xs[i]? =some x) (hy:ys[i]? =some y)
  (hQ:∀h',ZSt h' z TI TO i1 i2 l1 l2 S (i + 1) xs ys->IsPair h' s.heap.objs.size x y->h'.objs.size=s.heap.objs.size + 1->(∀c o,c≠z->c≠TO->c≠i1->c≠i2->s.heap.get? c=some o->h'.get? c=some o)->
   Q (some (.ref s.heap.objs.size)) {s with heap:=h'}):wpAny (model prog w) A (pyNext (.ref z)) Q E s:=by
 obtain⟨a1,a2,a3,a4,a5,n1,n2,n3,n4,n5,n6,n7,q⟩ :=hst;have lt_z:i1 < s.heap.objs.size:=by obtain⟨o,e,_⟩ :=a2;exact Heap.lt_size e
 have lt_2:i2 < s.heap.objs.size:=by obtain⟨o,e,_⟩ :=a3;exact Heap.lt_size e
 rcases q with⟨a,b,q1,q2⟩ | ⟨T,oT,f,q1,q2,t1,t2,t3,t4,t5⟩
 ·have ltz:=Heap.lt_size q1;have ltT:=Heap.lt_size q2;refine wpAny_pyNext_zip_item D q1 a1 q2 a2 a3 a4 a5 hx hy fun h' z' TO' h1' h2' hT hsz hk=>hQ h' ⟨hk _ _ D.TIz D.TITO D.TIi1 D.TIi2 a1,h1',h2',?_,?_,n1,n2,n3,n4,n5,n6,n7,.inr ⟨_,_,false,z',hT,?_,?_,?_,?_,?_⟩⟩ hT hsz hk
  ·obtain⟨o,e,c⟩ :=a4;exact⟨o,hk _ _ D.l1z D.l1TO D.l1i1 D.l1i2 e,c⟩
  ·obtain⟨o,e,c⟩ :=a5;exact⟨o,hk _ _ D.l2z D.l2TO D.l2i1 D.l2i2 e,c⟩
  ·exact Nat.ne_of_gt ltz
  ·exact Nat.ne_of_gt lt_z
  ·exact Nat.ne_of_gt lt_2
  ·exact Nat.ne_of_gt ltT
  ·exact Nat.ne_of_gt hS
 ·have hTy:s.TypeIs (.ref z) "zip":= ⟨_,q1,rfl⟩;unfold pyNext;refine wpAny_bind (wpAny_attempt (wpAny_callSpecial?_slot (name:=Str.ofString "__next__") hTy F.slot_zip_next
   (wpAny_call_entry F.slot_zip_next hTy F.entry_zip_next (dY D q1 q2 a1 a2 a3 a4 a5 hx hy fun h' z' h1' h2' hT hsz hk=>wpAny_pure (hQ h' ⟨hk _ _ D.TIz D.TIi1 D.TIi2 a1,h1',h2',?_,?_,n1,n2,n3,n4,n5,n6,n7,.inr ⟨T,oT,true,z',hk _ _ t1 t2 t3 q2,t1,t2,t3,t4,t5⟩⟩ hT hsz fun c o c1 _ c3 c4 e=>hk c o c1 c3 c4 e)) (F.args_zip_next_1 _))))
  ·obtain⟨o,e,c⟩ :=a4;exact⟨o,hk _ _ D.l1z D.l1i1 D.l1i2 e,c⟩
  ·obtain⟨o,e,c⟩ :=a5;exact⟨o,hk _ _ D.l2z D.l2i1 D.l2i2 e,c⟩
theorem dZ{z TI TO i1 i2 l1 l2 S:Addr}{i:Nat}{xs ys:Array Value}{Q:Option Value->Shared->Prop}(hh:A.handled=none)(D:ZipApart z TI TO i1 i2 l1 l2)(hst:ZSt s.heap z TI TO i1 i2 l1 l2 S i xs ys)
  (hend:xs[i]? =none∨ys[i]? =none) (hQ:∀h',(∀c o,c≠z->c≠TO->c≠i1->c≠i2->s.heap.get? c=some o->h'.get? c=some o)->Q none {s with heap:=h'}):wpAny (model prog w) A (pyNext (.ref z)) Q E s:=by
 obtain⟨a1,a2,a3,a4,a5,n1,n2,n3,n4,n5,n6,n7,q⟩ :=hst;rcases q with⟨a,b,q1,q2⟩ | ⟨T,oT,f,q1,q2,t1,t2,t3,t4,t5⟩
 ·exact wpAny_pyNext_zip_end hh D q1 a1 q2 a2 a3 a4 a5 hend hQ
 ·have hTy:s.TypeIs (.ref z) "zip":= ⟨_,q1,rfl⟩;unfold pyNext;refine wpAny_bind (wpAny_attempt (wpAny_callSpecial?_slot (name:=Str.ofString "__next__") hTy F.slot_zip_next
   (wpAny_call_entry F.slot_zip_next hTy F.entry_zip_next (Ua hh D q1 q2 a1 a2 a3 a4 a5 hend fun h' e hk he=>?_) (F.args_zip_next_1 _))))
  obtain⟨o,ho,hc⟩ :=he;refine wpAny_bind (wpAny_isInstance (T:="StopIteration") (b:=true) ⟨o,ho,hc⟩ isSubtype_stop ?_);exact wpAny_pure (hQ _ fun c o c1 _ c3 c4 x=>hk c o c1 c3 c4 x)
end
structure ZG(xs ys:Array Value)(lo:Addr)(h:Heap)(as:List Addr):Prop where
 rise:as.Pairwise (· < ·)
 above:∀a∈as,lo<=a
 pairs:∀(j:Nat) (a:Addr),as[j]? =some a->∃x y,xs[j]? =some x/\ys[j]? =some y/\IsPair h a x y
section
variable {prog:Program}{w:World}{A:Around}{s:Shared}{R:Result->Shared->Prop}
theorem dX{S z TI TO i1 i2 l1 l2:Addr}{xs ys:Array Value}(hh:A.handled=none)(D:ZipApart z TI TO i1 i2 l1 l2){lo:Addr}(hlo:S < lo/\z < lo/\TO < lo/\i1 < lo/\i2 < lo)(hn:xs.size<=sizeLine)(res:Value){h₁:Heap}
  (hR:∀h' acc c as,(∀b o,b≠S->b≠z->b≠TO->b≠i1->b≠i2->h₁.get? b=some o->h'.get? b=some o)->h'.get? S=some {cls:=.type "list",dict:=none,data:=.seq acc c,slots:=#[]}->as.length=min xs.size ys.size->ZG xs ys lo h' as->
   acc.toList=as.map Value.ref->R (.ok (.ret res)) {s with heap:=h'}):
  ∀(k i:Nat) (h:Heap) (c:Nat) (acc:Array Value) (as:List Addr),min xs.size ys.size - i=k->i<=min xs.size ys.size->ZSt h z TI TO i1 i2 l1 l2 S i xs ys->(∀b o,b≠S->b≠z->b≠TO->b≠i1->b≠i2->h₁.get? b=some o->h.get? b=some o)->
   h.get? S=some {cls:=.type "list",dict:=none,data:=.seq acc c,slots:=#[]}->acc.toList=as.map Value.ref->as.length=i->ZG xs ys lo h as->lo<=h.objs.size->
   codeAny (model prog w) A (.builtin "list.extend.loop" ⟨[.ref S,.ref z,res],[]⟩) R {s with heap:=h}:=by
 obtain⟨o1,o2,o3,o4,o5⟩ :=hlo;intro k
 induction k with
 |zero=>
  intro i h c acc as hk hi hst hkeep hS hacc hal hG hIs;obtain⟨_,_,_,_,_,n1,n2,n3,n4,n5,n6,n7,_⟩ :=id hst;refine codeAny_builtin PySem.F.entry_extend_loop ?_;rw[Around.under_plainId PySem.F.plain_extend_loop _];show wpAny _ A.in1 (pyNext (.ref z) >>= _) _ _ _;have hend:xs[i]? =none∨ys[i]? =none:=by
   by_cases hq:xs.size<=i
   ·exact .inl (Array.getElem?_eq_none hq)
   ·exact .inr (Array.getElem?_eq_none (by omega))
  refine wpAny_bind (dZ (s:={s with heap:=h}) (A:=A.in1) hh D hst hend fun h' he=>?_);refine wpAny_pure (hR h' acc c as (fun b o h1 h2 h3 h4 h5 e=>he b o h2 h3 h4 h5 (hkeep b o h1 h2 h3 h4 h5 e)) (he S _ n1.symm n3.symm n4.symm n5.symm hS) (by omega) ⟨hG.rise,hG.above,fun j a hj=>?_⟩ hacc);obtain⟨x,y,e1,e2,e3⟩ :=hG.pairs j a hj;have hab:=hG.above a (vD hj);exact⟨x,y,e1,e2,he a _ (Nat.ne_of_gt (vP o2 hab)) (Nat.ne_of_gt (vP o3 hab)) (Nat.ne_of_gt (vP o4 hab)) (Nat.ne_of_gt (vP o5 hab)) e3⟩
 |succ k ih=>
  intro i h c acc as hk hi hst hkeep hS hacc hal hG hIs;obtain⟨_,_,_,_,_,n1,n2,n3,n4,n5,n6,n7,_⟩ :=id hst;have hlt1:i < xs.size:=by omega
  have hlt2:i < ys.size:=by omega
  have hsz:acc.size=i:=by rw[<-Array.length_toList,hacc,vB,hal]
  refine codeAny_builtin PySem.F.entry_extend_loop ?_;rw[Around.under_plainId PySem.F.plain_extend_loop _];show wpAny _ A.in1 (pyNext (.ref z) >>= _) _ _ _;refine wpAny_bind (eA (s:={s with heap:=h}) D hst (Heap.lt_size hS) (Array.getElem?_eq_getElem hlt1) (Array.getElem?_eq_getElem hlt2) fun h' hst' ht hz hkp=>?_);dsimp only at ht hz hkp⊢;have hS':=hkp S _ n1.symm n3.symm n4.symm n5.symm hS;have up:∀b o,b≠S->h'.get? b=some o->(h'.update S (Obj.mapSeq (·.push (Value.ref h.objs.size)))).get? b=some o:=fun b o hb e=>(Heap.get?_update_other _ _ (Ne.symm hb)).trans e;have hSl:S < h.objs.size:=Heap.lt_size hS;show wpAny _ A.in1 (updateSeq S (·.push (Value.ref h.objs.size)) >>= _) _ _ _;refine wpAny_bind ?_;refine wpAny_updateSeq hS' rfl (wpAny_pure ⟨plainId_quiet PySem.F.plain_extend_loop _,ih (i + 1) _ _ (acc.push (Value.ref h.objs.size)) (as++[h.objs.size]) (by omega) (by omega) (hst'.keep up)
   (fun b o h1 h2 h3 h4 h5 e=>up b o h1 (hkp b o h2 h3 h4 h5 (hkeep b o h1 h2 h3 h4 h5 e))) (Heap.get?_update_self _ hS' rfl) (by rw[Array.toList_push,hacc,List.map_append];rfl) (by rw[vI,hal];rfl) ⟨?_,?_,?_⟩ ?_⟩) (by rw[hsz];omega) (by show(acc.push (Value.ref h.objs.size)).size<=sizeLine + 1;rw[Array.size_push,hsz];omega)
  ·refine List.pairwise_append.mpr ⟨hG.rise,List.pairwise_singleton _ _,fun a ha b hb=>?_⟩;rw[List.mem_singleton.mp hb];obtain⟨j,hj⟩ :=List.mem_iff_getElem?.mp ha;obtain⟨_,_,_,_,e⟩ :=hG.pairs j a hj;exact Heap.lt_size e
  ·intro a ha;rcases v7 ha with h|h
   ·exact hG.above a h
   ·rw[List.mem_singleton.mp h];exact hIs
  ·intro j a hj;by_cases hji:j < as.length
   ·rw[List.getElem?_append_left hji]at hj;obtain⟨x,y,e1,e2,e3⟩ :=hG.pairs j a hj;have hab:=hG.above a (vD hj);exact⟨x,y,e1,e2,up a _ (Nat.ne_of_gt (vP o1 hab)) (hkp a _ (Nat.ne_of_gt (vP o2 hab)) (Nat.ne_of_gt (vP o3 hab)) (Nat.ne_of_gt (vP o4 hab)) (Nat.ne_of_gt (vP o5 hab)) e3)⟩
   ·rw[List.getElem?_append_right (by omega)]at hj;have hj0:j - as.length=0:=by
     have:=(List.getElem?_eq_some_iff.mp hj).1;simp at this;omega
    have hji':j=i:=by omega
    subst hji';rw[hj0]at hj;have ea:h.objs.size=a:=by simpa using hj
    subst ea;exact⟨_,_,Array.getElem?_eq_getElem hlt1,Array.getElem?_eq_getElem hlt2,up _ _ (Nat.ne_of_gt hSl) ht⟩
  ·rw[Heap.size_update,hz];exact Nat.le_succ_of_le hIs
end
theorem X9:typeLookup (.type "zip") "__len__"=pure none:=by rw[typeLookup_type,builtinLookup_eq_fast];kernel_rfl
theorem Wn:typeLookup (.type "zip") "__length_hint__"=pure none:=by rw[typeLookup_type,builtinLookup_eq_fast];kernel_rfl
section
variable {prog:Program}{w:World}{A:Around}{E:Value->Shared->Prop}{s:Shared}
theorem Qp{z TI TO i1 i2 l1 l2:Addr}{xs ys:Array Value}{a b:Value}{Q:Value->Shared->Prop}(hh:A.handled=none)(D:ZipApart z TI TO i1 i2 l1 l2)(hz:IsZip s.heap z TI TO .none)(hTI:IsPair s.heap TI (.ref i1) (.ref i2))(hTO:IsPair s.heap TO a b)
  (h1:s.heap.IsListIter i1 l1 0) (h2:s.heap.IsListIter i2 l2 0) (hl1:s.heap.IsList l1 xs) (hl2:s.heap.IsList l2 ys) (hn:xs.size<=sizeLine)
  (hQ:∀h' acc c as,(∀b o,b≠z->b≠TO->b≠i1->b≠i2->s.heap.get? b=some o->h'.get? b=some o)->h'.get? s.heap.objs.size=some {cls:=.type "list",dict:=none,data:=.seq acc c,slots:=#[]}->as.length=min xs.size ys.size->
   ZG xs ys (s.heap.objs.size + 1) h' as->acc.toList=as.map Value.ref->Q (.ref s.heap.objs.size) {s with heap:=h'}):wpAny (model prog w) A (call (.type "list") [.ref z]) Q E s:=by
 have ltz:=Heap.lt_size hz;have ltI:=Heap.lt_size hTI;have ltO:=Heap.lt_size hTO;have lt1:i1 < s.heap.objs.size:=by obtain⟨o,e,_⟩ :=h1;exact Heap.lt_size e
 have lt2:i2 < s.heap.objs.size:=by obtain⟨o,e,_⟩ :=h2;exact Heap.lt_size e
 have ll1:l1 < s.heap.objs.size:=by obtain⟨o,e,_⟩ :=hl1;exact Heap.lt_size e
 have ll2:l2 < s.heap.objs.size:=by obtain⟨o,e,_⟩ :=hl2;exact Heap.lt_size e
 refine callType_codes (Q₁:=fun obj s₁=>obj=.ref s.heap.objs.size/\s₁= {s with heap:=s.heap.push {cls:=.type "list",data:=.seq #[]}}) F.called_list (F.typeCall_list_1 _) F.entry_list_init
  (code_list_new _ ⟨rfl,rfl⟩) fun obj s₁ h₁=>?_
 obtain⟨rfl,rfl⟩ :=h₁;have hS:(s.heap.push {cls:=.type "list",data:=.seq #[]}).get? s.heap.objs.size=some {cls:=.type "list",data:=.seq #[]}:=Heap.get?_push_size _ rfl;refine⟨⟨_,hS,rfl⟩,F.args_list_init_2 _ _,?_⟩;generalize hSe:s.heap.objs.size=S at *;show wpAny _ _ (do let old<-Builtin.List.listItems (.ref S);Builtin.List.listUpdate (.ref S) (fun _=>#[]);letGo old.toList.reverse;Builtin.List.listExtendWith (.ref S) (.ref z) .none) _ _ _;refine wpAny_bind ?_;unfold Builtin.List.listItems;refine wpAny_bind (wpAny_seqItems hS rfl (wpAny_pure ?_));show wpAny _ _ (updateSeq S (fun _=>#[]) >>= fun _=>letGo (#[]:Array Value).toList.reverse >>= fun _=>Builtin.List.listExtendWith (.ref S) (.ref z) .none) _ _ _;refine wpAny_bind (wpAny_updateSeq hS rfl ?_);have hS₂:=Heap.get?_update_self (Obj.mapSeq (fun _=>(#[]:Array Value))) hS rfl;refine wpAny_bind (wpAny_letGo ?_);have oth:∀b o,s.heap.get? b=some o->((s.heap.push {cls:=.type "list",data:=.seq #[]}).update S (Obj.mapSeq (fun _=>(#[]:Array Value)))).get? b=some o:=
  fun b o e=>(Heap.get?_update_other _ _ (by intro q;have:=Heap.lt_size e;rw[hSe,<-q]at this;exact Nat.lt_irrefl _ this)).trans (Heap.get?_push_of_some _ e)
 generalize hh2:(s.heap.push {cls:=.type "list",data:=.seq #[]}).update S (Obj.mapSeq (fun _=>(#[]:Array Value)))=h2' at hS₂ oth⊢;have hsz2:h2'.objs.size=S + 1:=by rw[<-hh2,Heap.size_update,Heap.size_push,hSe]
 unfold Builtin.List.listExtendWith;have hTy:Shared.TypeIs {s with heap:=h2'} (.ref z) "zip":= ⟨_,oth _ _ hz,rfl⟩;refine wpAny_bind (wpAny_typeOf hTy ?_);have g1:Builtin.List.listSameRef (.ref S) (.ref z)=false:=by
  have:S≠z:=Nat.ne_of_gt ltz;simp[Builtin.List.listSameRef,this]
 have g2:(Value.type "zip" == Value.type "list")=false:=by decide
 have g3:(Value.type "zip" == Value.type "tuple")=false:=by decide
 simp only [g1,g2,g3,Bool.or_false,Bool.false_eq_true,if_false];refine wpAny_bind (wpAny_pyIter_zip (oth _ _ hz) ?_);refine wpAny_bind (wpAny_holding ?_);unfold Builtin.List.listLengthHint;refine wpAny_bind (wpAny_specialOf hTy X9 ?_);show wpAny _ _ (specialOf (Value.ref z) (Str.ofString "__length_hint__") >>= _) _ _ _;refine wpAny_bind (wpAny_specialOf hTy Wn ?_);refine wpAny_pure ?_;show wpAny _ _ (rule "list.extend.makes-room" >>= fun _=>Builtin.List.listTouch (.ref S) >>= fun _=>
  again (.builtin "list.extend.loop" ⟨[.ref S,.ref z,.none],[]⟩)) _ _ _
 refine wpAny_bind (wpAny_rule ?_);refine wpAny_bind ?_;show wpAny _ _ (updateSeq S (·.push .none) >>= fun _=>updateSeq S (·.pop)) _ _ _;refine wpAny_bind (wpAny_updateSeq hS₂ rfl ?_);have hS₃:=Heap.get?_update_self (Obj.mapSeq (·.push Value.none)) hS₂ rfl;refine wpAny_updateSeq (hz:=by seq_fits) hS₃ rfl ?_;have hS₄:=Heap.get?_update_self (Obj.mapSeq (·.pop)) hS₃ rfl;have oth2:∀b o,b≠S->h2'.get? b=some o->((h2'.update S (Obj.mapSeq (·.push Value.none))).update S (Obj.mapSeq (·.pop))).get? b=some o:=
  fun b o hb e=>(Heap.get?_update_other _ _ (Ne.symm hb)).trans ((Heap.get?_update_other _ _ (Ne.symm hb)).trans e)
 have ne:∀{b:Addr},b < S->b≠S:=fun h=>Nat.ne_of_lt h;have kp:∀b o,s.heap.get? b=some o->((h2'.update S (Obj.mapSeq (·.push Value.none))).update S (Obj.mapSeq (·.pop))).get? b=some o:=fun b o e=>oth2 b o (ne (by rw[<-hSe];exact Heap.lt_size e)) (oth b o e);refine wpAny_pure ⟨plainId_quiet F.plain_extend_loop _,?_⟩;refine dX (A:=A.in1) (s:=s) (l1:=l1) (l2:=l2) (xs:=xs) (ys:=ys) (lo:=S + 1) (h₁:=s.heap) hh D ⟨Nat.lt_succ_self _,Nat.lt_succ_of_lt ltz,Nat.lt_succ_of_lt ltO,Nat.lt_succ_of_lt lt1,Nat.lt_succ_of_lt lt2⟩ hn .none (fun h' acc c as k1 k2 k3 k4 k5=>?_) _ 0 _ _ #[] [] rfl (Nat.zero_le _) ?_ (fun b o _ _ _ _ _ e=>kp b o e) hS₄ rfl rfl ⟨List.Pairwise.nil,(fun a ha=>by cases ha),(fun j a hj=>by simp at hj)⟩ ?_
 ·exact⟨rfl,hQ h' acc c as (fun b o b1 b2 b3 b4 e=>k1 b o (ne (by rw[<-hSe];exact Heap.lt_size e)) b1 b2 b3 b4 e) k2 k3 k4 k5⟩
 ·refine⟨kp _ _ hTI,h1.at fun o e=>kp _ _ e,h2.at fun o e=>kp _ _ e,?_,?_,ne ltz,ne ltI,ne ltO,ne lt1,ne lt2,ne ll1,ne ll2,.inl ⟨a,b,kp _ _ hz,kp _ _ hTO⟩⟩
  ·obtain⟨o,e,c⟩ :=hl1;exact⟨o,kp _ _ e,c⟩
  ·obtain⟨o,e,c⟩ :=hl2;exact⟨o,kp _ _ e,c⟩
 ·rw[Heap.size_update,Heap.size_update,hsz2];exact Nat.le_refl _
end
end Dr
namespace Dr
open Vbirad (Q Party Kind House Bytes text partsOf wordsOf linesOf numberIn isName isDigit isSmall find findAll weightIn lineOf readFrom readSharing RULES KEYS free distinct CLAIM WEIGHT MEMBERS PARTIES whole_ Call WATER byChance byParts claimOf claimsIn digits evenly fact halves inOrder isGroup isMember isParty isPerson leastFor levelFrom losses membersOf nums onSharing partyAt printParty printSharing proofOf qRow risen ruleOf setClaim setRule shareBy shareFrom shareOf spaced subsets sumQ weightsIn)
open PySem PySem.Spec PyProof.Rows L2
def lookP:List Addr->List V->List V->Addr->Option HO
 |a::as,x::xs,y::ys,b=>if b=a then some (.tup [x,y])else lookP as xs ys b
 |_,_,_,_=>none
theorem Rq:∀{as:List Addr} {xs ys:List V} {j:Nat} {a:Addr} {x y:V},as.Nodup->as[j]? =some a->xs[j]? =some x->ys[j]? =some y->lookP as xs ys a=some (.tup [x,y])
 | [],_,_,_,_,_,_,_,h,_,_=>by simp at h
 |_::_,[],_,_,_,_,_,_,_,h,_=>by simp at h
 |_::_,_::_,[],_,_,_,_,_,_,_,h=>by simp at h
 |b::as,u::xs,v::ys,0,a,x,y,_,h1,h2,h3=>by
  simp at h1 h2 h3;subst h1 h2 h3;show(if b=b then _ else _)=_;rw[if_pos rfl]
 |b::as,u::xs,v::ys,j + 1,a,x,y,nd,h1,h2,h3=>by
  obtain⟨n1,n2⟩ :=List.nodup_cons.mp nd;have h1':as[j]? =some a:=by simpa using h1
  have hne:a≠b:=fun e=>n1 (e▸List.mem_of_getElem? h1');show(if a=b then _ else lookP as xs ys a)=_;rw[if_neg hne];exact Rq n2 h1' (by simpa using h2) (by simpa using h3)
theorem J1:∀{as:List Addr} {xs ys:List V} {b:Addr} {o:HO},lookP as xs ys b=some o->∃(j:Nat) (x y:V),as[j]? =some b/\xs[j]? =some x/\ys[j]? =some y/\o=.tup [x,y]
 | [],_,_,_,_,h=>by simp[lookP]at h
 |_::_,[],_,_,_,h=>by simp[lookP]at h
 |_::_,_::_,[],_,_,h=>by simp[lookP]at h
 |a::as,u::xs,v::ys,b,o,h=>by
  have h:(if b=a then some (.tup [u,v])else lookP as xs ys b)=some o:=h;by_cases e:b=a
  ·subst e;rw[if_pos rfl]at h;exact⟨0,u,v,rfl,rfl,rfl,(vE h).symm⟩
  ·rw[if_neg e]at h;obtain⟨j,x,y,h1,h2,h3,h4⟩ :=J1 h;exact⟨j + 1,x,y,by simpa using h1,by simpa using h2,by simpa using h3,h4⟩
def zipH(H:Hp)(S:Addr)(as:List Addr)(xs ys:List V):Hp:=fun b=>match H b with
 |some o=>some o
 |none=>if b=S then some (.lst (as.map V.ref))else lookP as xs ys b
theorem dW{H:Hp}{S:Addr}{as:List Addr}{xs ys:List V}:Same H (zipH H S as xs ys):=fun b o e=>by
 unfold zipH;rw[e]
theorem Jo{H:Hp}{S b:Addr}{as:List Addr}{xs ys:List V}(h:H b=none):zipH H S as xs ys b=if b=S then some (.lst (as.map V.ref))else lookP as xs ys b:=by
 unfold zipH;rw[h]
theorem Sb:∀as:List Addr,Vals (as.map V.ref) (as.map Value.ref)
 | []=>.nil
 |_::as=>.cons rfl (Sb as)
def tLZ(K:PySem.W.Frag)(ta:TA):TE:=fun σ H Q=>ta σ H fun vs H1=>∃(a b:Addr) (xs ys:List V),vs= [.ref a,.ref b]/\SqL K H1 a xs/\SqL K H1 b ys/\
 ∀(l:Addr) (ps:List V) (H':Hp),Same H1 H'->H' l=some (.lst ps)->ps.length=min xs.length ys.length->(∀(i:Nat) (x y:V),xs[i]? =some x->ys[i]? =some y->∃T,ps[i]? =some (V.ref T)/\H' T=some (.tup [x,y]))->Q (.ref l) H'
theorem Pw{X:Cx}{e e2:Expr}{ta:TA}{p p2 pos pos2:Pos}(hc:X.calm=true)(hg:Gl X "zip")(hm:X.mg "zip"=none)(hg2:Gl X "list")(hm2:X.mg "list"=none)(ha:PA X [e,e2] ta)
  (hs:starEach [e,e2] X.env=(false,eval e X.env)::starEach [e2] X.env:=by rfl) (hpl:(backTo pos (starEach [e2] X.env)).any (·.1)=false:=by rfl):
  PE X (.Call (.Name "list" p2) [.Call (.Name "zip" p) [e,e2] [] pos] [] pos2) (tLZ X.K ta):=by
 intro pins s σ H Q I h;refine wpAny_Call_Name_kw (Fq I hg2 hm2 boot_list ?_);refine PyProof.Rows.callWith_type1 ?_;show wpAny _ _ (spliced ((false,eval (.Call (.Name "zip" p) [e,e2] [] pos) X.env)::backTo pos2 (starEach [] X.env))) _ _ s;refine Calls.spliced_cons ?_;refine Call_ (Fq I hg hm Ri (PyProof.Rows.callWith_type1 (thn (ha pos pins s σ H _ I h) fun us s1 ⟨vs,H1,I1,r1,q1⟩ =>?_) hs hpl));obtain⟨a,b,xs,ys,ex,hqx,hqy,q⟩ :=q1;subst ex;cases r1 with
 |cons r rr=>
  cases rr with
  |cons r' rr=>
   cases rr;cases r;cases r';obtain⟨its,rv,p1,hz1⟩ :=I1.list hqx;obtain⟨its2,rv2,p2',hz2⟩ :=I1.list hqy;have la:a < s1.heap.objs.size:=p1.lt;have lb:b < s1.heap.objs.size:=p2'.lt;have e1:=rv.length;have e2:=rv2.length;refine call_zip_2 p1.isList p2'.isList fun h' hz hTI hTO h1 h2 hsz hk=>?_;refine Calls.spliced_nil ?_;have kl:∀{l:Addr} {its:List Value},s1.heap.IsList l its.toArray->h'.IsList l its.toArray:=fun⟨o,e,c⟩ => ⟨o,hk _ _ e,c⟩;have ge:∀{c:Addr} {o:Obj} (k:Nat),s1.heap.get? c=some o->c≠s1.heap.objs.size + k:=fun k e=>Nat.ne_of_lt (Nat.lt_of_lt_of_le (Heap.lt_size e) (Nat.le_add_right _ _));refine Qp (s:={s1 with heap:=h'}) (I.ok.hd hc) (PySem.W.ktu_apart s1.heap.objs.size a b la lb) hz hTI hTO h1 h2 (kl p1.isList) (kl p2'.isList) (by simp;omega) fun h2' acc c as hk2 hS hlen hG hacc=>?_;have hsz':h'.objs.size=s1.heap.objs.size + 5:=hsz;dsimp only at hk2 hS hG;have keep:∀b o,s1.heap.get? b=some o->h2'.get? b=some o:=fun b o e=>hk2 b o (ge 4 e) (ge 3 e) (ge 0 e) (ge 1 e) (hk b o e);have I2:Inv X pins σ H1 {s1 with heap:=h2'}:=I1.kept (t':=s1.toks) keep;have hxs:its.toArray.size=xs.length:=by simp;omega
   have hys:its2.toArray.size=ys.length:=by simp;omega
   rw[hxs,hys]at hlen;have lis:∀l,l=h'.objs.size∨l∈as->s1.heap.objs.size<=l:=fun l hl=>by
    rcases hl with rfl|hl
    ·rw[hsz'];exact Nat.le_add_right _ _
    ·have:=hG.above l hl;rw[hsz']at this;exact vA (Nat.le_add_right _ 6) this
   have nd:as.Nodup:=hG.rise.imp fun h=>Nat.ne_of_lt h;have freeL:∀l,s1.heap.objs.size<=l->H1 l=none:=fun l hl=>I1.hok.fresh hl;have nS:∀l∈as,l≠h'.objs.size:=fun l hl=>Nat.ne_of_gt (vP (Nat.lt_succ_self _) (hG.above l hl));have old:Same H1 (zipH H1 h'.objs.size as xs ys):=dW;have low:∀b,b < s1.heap.objs.size->H1 b=none->zipH H1 h'.objs.size as xs ys b=none:=fun b hb hn=>by
    rw[Jo hn,if_neg (fun e=>absurd (lis b (.inl e)) (Nat.not_le.mpr hb))];cases q:lookP as xs ys b with
    |none=>rfl
    |some o=>
     obtain⟨j,_,_,h1,_⟩ :=J1 q;exact absurd (lis b (.inr (vD h1))) (Nat.not_le.mpr hb)
   have okH:HOk X.prog X.w (zipH H1 h'.objs.size as xs ys) h2':=fun b o e=>by
    cases hb:H1 b with
    |some o'=>
     rw[old b o' hb]at e;cases e;exact(I1.hok b _ hb).stay (fun c v _ q=>keep c v q) (fun c q=>old _ _ q) fun c xs q=>old _ _ q
    |none=>
     rw[Jo hb]at e;by_cases eS:b=h'.objs.size
     ·rw[if_pos eS]at e;cases e;subst eS;refine⟨?_,acc.toList,c,?_,?_⟩
      ·rw[vB,hlen];omega
      ·rw[hacc];exact Sb as
      ·rw[Array.toArray_toList];exact hS
     ·rw[if_neg eS]at e;obtain⟨j,x,y,h1,h2,h3,rfl⟩ :=J1 e;obtain⟨x',y',e1,e2,e3⟩ :=hG.pairs j b h1;obtain⟨u1,hu1,ru1⟩ :=rv.get h2;obtain⟨u2,hu2,ru2⟩ :=rv2.get h3;have ex:x'=u1:=Option.some.inj (e1.symm.trans (by simpa using hu1));have ey:y'=u2:=Option.some.inj (e2.symm.trans (by simpa using hu2));subst ex ey;exact⟨by show 2<=sizeLine;decide,[x',y'],.cons ru1 (.cons ru2 .nil),⟨_,e3,rfl,_,rfl⟩⟩
   have un:Un X.fs [] H1 (zipH H1 h'.objs.size as xs ys) s1.heap h2':=
    ⟨fun b u q _ _ _=>keep b u q,fun b u q _ _ _=> ⟨u.slots,keep b u q⟩,fun b u q n _=>low b (Heap.lt_size q) n,fun b u q _=> ⟨u,keep b u q⟩,fun b xs q=>old _ _ q,fun b u xs q=>old _ _ q,fun b ps q=> ⟨#[],by rw[old _ _ q];simp⟩⟩
   refine⟨.ref h'.objs.size,zipH H1 h'.objs.size as xs ys,I1.un (t':=s1.toks) un okH,rfl,q _ (as.map V.ref) _ old ?_ (by rw[vB];exact hlen) fun i x y hx hy=>?_⟩
   ·rw[Jo (freeL _ (lis _ (.inl rfl))),if_pos rfl]
   ·have hi1:=(vF hx).1;have hi2:=(vF hy).1;have hia:i < as.length:=by omega
    refine⟨as[i],by rw[vR,vC hia];rfl,?_⟩;have hm:as[i]∈as:=List.getElem_mem hia;rw[Jo (freeL _ (lis _ (.inr hm))),if_neg (nS _ hm)];exact Rq nd (vC hia) hx hy
theorem W7{α β:Type}{K:PySem.W.Frag}{R:Rel α}{S:Rel β}{H:Hp}:∀{as:List α} {bs:List β} {xs ys ps:List V},Its R H as xs->Its S H bs ys->ps.length=min xs.length ys.length->
  (∀(i:Nat) (x y:V),xs[i]? =some x->ys[i]? =some y->∃T,ps[i]? =some (V.ref T)/\H T=some (.tup [x,y]))->Its (Par K R S) H (as.zip bs) ps
 |_,_,_,_,ps,.nil,h2,hl,_=>by
  have:ps= []:=List.eq_nil_of_length_eq_zero (by simpa using hl);subst this;rw[List.zip_nil_left];exact .nil
 |_,_,_,_,ps,.cons r t,.nil,hl,_=>by
  have:ps= []:=List.eq_nil_of_length_eq_zero (by simpa using hl);subst this;rw[List.zip_nil_right];exact .nil
 |_,_,_,_,[],.cons r t,.cons r2 t2,hl,_=>by
  simp at hl
 |_,_,_,_,p::ps,.cons (a:=a) (b:=x) r t,.cons (a:=b) (b:=y) r2 t2,hl,h=>by
  obtain⟨T,e,hT⟩ :=h 0 _ _ rfl rfl;have e':p=.ref T:=by simpa using e
  refine .cons ⟨T,x,y,e',SqT.of hT,r,r2⟩ (W7 t t2 (by simp at hl⊢;omega) fun i x y hx hy=>?_);obtain⟨T,e,hT⟩ :=h (i + 1) x y (by simpa using hx) (by simpa using hy);exact⟨T,by simpa using e,hT⟩
structure AOk(D V:Nat)(e:Q):Prop where
 bd:Bd D V e
 d0:0 < D
 d1:D<=2^3000
 v1:V<=2^500
theorem Ui(k:Q)(l:List (Q×Nat)):(fillQ k l).length + (restQ k l).length=l.length:=by
 unfold fillQ restQ
 induction l with
 |nil=>rfl
 |cons x l ih=>
  rw[List.filter_cons,List.filter_cons];cases hb:fillB k x with
  |true=>simp at ih⊢;omega
  |false=>simp at ih⊢;omega
theorem bP{k:Q}{l:List (Q×Nat)}{x:Q×Nat}(h:x∈fillQ k l):x∈l:=(List.mem_filter.mp h).1
structure LevAt(D V:Nat)(e:Q)(l:List (Q×Nat)):Prop where
 ex:∃V',V' + 2^31 * l.length<=V + 2^31 * 9/\Bd (2 * D) V' e
theorem LevAt.sz{D V:Nat}{e0 e:Q}{l:List (Q×Nat)}(a:AOk D V e0)(h:LevAt D V e l):Sz 3001 e:=by
 obtain⟨V',h1,h2⟩ :=h.ex;refine h2.sz (by have:=a.d0;omega) ?_ ?_
 ·have:=a.d1;rw[Nat.pow_succ 2 3000];omega
 ·have:=a.v1;have:(2:Nat)^500 + 2^31 * 9<=2^1000:=by decide
  omega
theorem LevAt.next{D V:Nat}{e:Q}{l:List (Q×Nat)}(hw:WtOk l)(h:LevAt D V e l)(k:Q):LevAt D V (Vbirad.sub e (sumQ ((fillQ k l).map fun x=>x.1))) (restQ k l):=by
 obtain⟨V',h1,h2⟩ :=h.ex;have b:Bd 2 (2^31 * ((fillQ k l).map fun x=>x.1).length) (sumQ ((fillQ k l).map fun x=>x.1)):=Bd.sumQ fun q hq=>by
  obtain⟨x,hx,rfl⟩ :=vL hq;exact(hw.each x (bP hx)).lim
 refine⟨V' + 2^31 * ((fillQ k l).map fun x=>x.1).length,?_,h2.sub (b.mono (Nat.dvd_mul_right 2 D) (Nat.le_refl _))⟩;have:=Ui k l;rw[vB];omega
theorem dH{l:List (Q×Nat)}(hw:WtOk l):(∀q∈l.map (fun x=>x.1),Sz 1900 q)/\∀i,Sz 7000 (sumQ ((l.map fun x=>x.1).take i)):=by
 refine⟨fun q hq=>?_,fun i=>?_⟩
 ·obtain⟨x,hx,rfl⟩ :=vL hq;exact(hw.each x hx).sz.mono (by decide)
 ·have b:Bd 2 (2^31 * ((l.map fun x=>x.1).take i).length) (sumQ ((l.map fun x=>x.1).take i)):=Bd.sumQ fun q hq=>by
   obtain⟨x,hx,rfl⟩ :=vL (List.mem_of_mem_take hq);exact(hw.each x hx).lim
  have h1:=hw.len;have h2:((l.map fun x=>x.1).take i).length<=9:=by rw[vU,vB];omega
  refine(b.sz (k:=1) (by decide) (by decide) ?_).mono (by decide);refine vA (Nat.mul_le_mul_left _ h2) (by decide)
theorem V8{l:List (Q×Nat)}(hw:WtOk l):Sz 1 (sumQ (l.map fun x=>x.1)):=by
 have b:Bd 2 (2^31 * (l.map fun x=>x.1).length) (sumQ (l.map fun x=>x.1)):=Bd.sumQ fun q hq=>by
  obtain⟨x,hx,rfl⟩ :=vL hq;exact(hw.each x hx).lim
 refine b.sz (by decide) (by decide) ?_;rw[vB];exact vA (Nat.mul_le_mul_left _ hw.len) (by decide)
def LevInv(K:PySem.W.Frag)(H:Hp)(pl pw:Addr)(ls:List Q)(ws:List Nat)(e:Q)(D W:Nat)(m:Nat)(σ:L2.St)(H':Hp):Prop:=
 ∃(e':Vbirad.Q) (l:List (Vbirad.Q×Nat)) (fu:Nat) (ue ul uk uf:V),σ= [some ue,some (.ref pl),some (.ref pw),some ul,some uk,some uf,none]/\m=l.length/\Same H H'/\Fra K e' ue H'/\Lst K (WP K) l ul H'/\Fra K (comQ e' l) uk H'/\
   Own (WP K) (fillQ (comQ e' l) l) uf H'/\WtOk l/\l≠[]/\LevAt D W e' l/\l.length < fu/\levelFrom fu l e'=Vbirad.level ls ws e
section
variable {P:Program}{w:World}{K:PySem.W.Frag}{mg:Str->Option Value}{base:Heap}
inductive spEven(K:PySem.W.Frag)(vs:List V)(H:Hp)(Q:VK)(_e3:XK):Prop|m:∀(e:Vbirad.Q) (ls:List Vbirad.Q) (ws:List Nat) (D W:Nat) (u v x:V),vs= [u,v,x]->Fra K e u H->Lst K (Fra K) ls v H->Lst K IsN ws x H->AOk D W e->WtOk (ls.zip ws)->ls.zip ws≠[]->Ret H (Fra K (Vbirad.level ls ws e)) Q->spEven K vs H Q _e3
abbrev Ju:Stmt:=top 29
theorem Bh:FnScope ["amount","limits","weights","waiting","level","filled","pair"] ["amount","limits","weights"] (defScope Ju):=fS
theorem Qv(F:FunN K mg "even_level" Ju)(T:Blt mg)(wX:Df P w K mg base 4 "common_level" ["amount","waiting"] (spCommon K))(uH:Df P w K mg base 5 "filled_at" ["level","waiting"] (spFilledAt K true))
  (uL:Df P w K mg base 5 "unfilled_at" ["level","waiting"] (spFilledAt K false)) (uA:Df P w K mg base 4 "highest_ratio" ["waiting"] (spHigh K))
  (wH:Df P w K mg base 3 "minus" ["left","right"] (sp2 K fun a b=>Fra K (Vbirad.sub a b))) (uM:Df P w K mg base 4 "total" ["ratios"] (spTotal K)):Df P w K mg base 6 "even_level" ["amount","limits","weights"] (spEven K):=by
 refine Df.of F Bh (fun vs H Q E h=>?_) (fun f cdv A outer s H vs Q E hr h=>?_)
 ·obtain⟨e,ls,ws,D,Vn,u,v,x,rfl,_⟩ :=h;rfl
 ·obtain⟨e,ls,ws,D,Vn,u,_,_,rfl,fe,⟨pl,xl,rfl,hl,il⟩,⟨pw,xw,rfl,hw,iw⟩,ha,hwt,hne,kk⟩ :=h;refine⟨_,Ac (Aj (i:=3) Bh.nd rfl (Or.inl rfl) (Pw rfl rfl T.zip rfl T.list (Aa (pv 1) (Aa (pv 2) Ab))))
   (Ac (Aj (i:=4) Bh.nd rfl (Or.inl rfl) (pd wX hr (Aa (pv 0) (Aa (pv 3) Ab))))
   (Ac (Aj (i:=5) Bh.nd rfl (Or.inl rfl) (pd uH hr (Aa (pv 4) (Aa (pv 3) Ab))))
   (Ac (K1 PassesOwn.never (Ct Ku Ku (Af) (Ao An (by rfl) T.len PySem.boot_len (Aa (pv 5) Ab)) (Ao An (by rfl) T.len PySem.boot_len (Aa (pv 3) Ab)))
    (Ac (Aj (i:=0) Bh.nd rfl (Or.inl rfl) (pd wH hr (Aa (pv 0) (Aa (pd uM hr (Aa (Co (own:=[("pair",6)]) rfl Bh.nd (A0 (pv 5)) (Ax (by rfl)) (fun _ _ _ _ _=>Am (i:=6) Bh.nd rfl (Or.inl rfl)) (fun _ _ _ _ _=>A6) (fun _ _ _ _ _=>Ai (Gc (K:=K) rfl) (pv 6) (Af))) Ab)) Ab))))
    (Ac (Aj (i:=3) Bh.nd rfl (Or.inl rfl) (pd uL hr (Aa (pv 4) (Aa (pv 3) Ab))))
    (Ac (Aj (i:=4) Bh.nd rfl (Or.inl rfl) (pd wX hr (Aa (pv 0) (Aa (pv 3) Ab))))
    (Ad (Aj (i:=5) Bh.nd rfl (Or.inl rfl) (pd uH hr (Aa (pv 4) (Aa (pv 3) Ab)))))))))
   (Ac (A1 (At Cn (Ao An (by rfl) T.len PySem.boot_len (Aa (pv 5) Ab)) (Ao An (by rfl) T.len PySem.boot_len (Aa (pv 3) Ab)) (nomark _))
    (Ad (Ah (pd uA hr (Aa (pv 3) Ab))))
    (Aq))
   (Ad (Ah (pv 4))))))),?_⟩
  refine⟨_,rfl,_,rfl,pl,pw,xl,xw,rfl,hl,hw,fun l0 ps H1 s1 h1 hlen hps=>?_⟩;have W1:Its (WP K) H1 (ls.zip ws) ps:=W7 (il.keep fun a v r=>Fra.keep r s1) (iw.keep fun a v r=>r) hlen hps;have L1:LevAt D Vn e (ls.zip ws):= ⟨Vn,by have:=hwt.len;omega,ha.bd.mono (Nat.dvd_mul_left D 2) (Nat.le_refl _)⟩;refine⟨_,rfl,_,rfl,e,_,.ref l0,u,3001,rfl,⟨l0,ps,rfl,SqL.of h1,W1⟩,fe.keep s1,hwt,hne,L1.sz ha,by decide,fun k1 H2 s2 f2=>?_⟩;refine⟨_,rfl,_,rfl,_,_,.ref l0,k1,3101,rfl,⟨l0,ps,rfl,SqL.of (s2 _ _ h1),W1.keep fun a v r=>Em _ _ _ _ (Tk.of s2) r⟩,f2,hwt,(L1.sz ha).overN (Fa hwt hne) (vA hwt.wsum (by decide)),by decide,fun fl H3 s3 f3=>?_⟩;refine⟨LevInv K H pl pw ls ws e D Vn,
   ⟨_,e,ls.zip ws,ls.length + 1,u,.ref l0,k1,fl,rfl,rfl,(s1.trans s2).trans s3,((fe.keep s1).keep s2).keep s3,⟨l0,ps,rfl,SqL.of (s3 _ _ (s2 _ _ h1)),W1.keep fun a v r=>Em _ _ _ _ (Tk.of (s2.trans s3)) r⟩,f2.keep s3,f3,hwt,hne,L1,?_,rfl⟩,?_⟩
  ·rw[List.length_zip];omega
  rintro m σ H' ⟨e',l,fu,ue,ul,uk,uf,rfl,rfl,sm,fe',⟨p3,x3,rfl,h3,i3⟩,fk,⟨p5,x5,rfl,h5,i5⟩,hwl,hnl,lev,hfu,heq⟩;refine⟨_,rfl,p5,_,rfl,.inl (SqL.of h5),_,_,rfl,rfl,_,rfl,?_⟩;have l3:=i3.len;have l5:=i5.len;have lf:=Ui (comQ e' l) l;obtain⟨fu,rfl⟩ :∃n,fu=n + 1:= ⟨fu - 1,by omega⟩;rw[O5 (Fa hwl hnl)]at heq;by_cases c1:fillQ (comQ e' l) l= []
  ·
   have e5:x5.length=0:=by rw[<-l5,c1];rfl
   refine iteFl (by rw[e5];rfl) ?_;refine⟨_,rfl,iteF ?_⟩;refine⟨_,rfl,p5,_,rfl,.inl (SqL.of h5),_,rfl,p3,_,rfl,.inl h3,rfl,_,rfl,?_⟩;have:l.length≠0:=fun z=>hnl (List.eq_nil_of_length_eq_zero z);refine iteFl (by simp;omega) ?_;refine⟨_,rfl,kk _ _ sm ?_⟩;rw[if_pos c1]at heq;rw[<-heq];exact fk
  ·have n1:(fillQ (comQ e' l) l).length≠0:=fun z=>c1 (List.eq_nil_of_length_eq_zero z);refine iteTr (by simp;omega) ?_;refine⟨_,rfl,p3,_,rfl,.inl h3,_,_,rfl,rfl,_,rfl,?_⟩;rw[if_neg c1]at heq;by_cases c2:(fillQ (comQ e' l) l).length=l.length
   ·
    refine iteFl (by simp;omega) ?_;refine⟨_,rfl,p5,_,rfl,.inl (SqL.of h5),_,rfl,p3,_,rfl,.inl h3,rfl,_,rfl,?_⟩;refine iteTr (by simp;omega) ?_;refine⟨_,rfl,l,_,rfl,⟨p3,x3,rfl,h3,i3⟩,hwl,fun z H4 s4 f4=>kk _ _ (sm.trans s4) ?_⟩;rw[if_pos c2]at heq;rw[<-heq];exact f4
   ·refine iteTr (by simp;omega) ?_;rw[if_neg c2]at heq;have nr:=fL c2;have lr:=Vv c1;have hwf:WtOk (fillQ (comQ e' l) l):=hwl.filter _;have hwr:WtOk (restQ (comQ e' l) l):=hwl.filter _;have lev2:=lev.next hwl (comQ e' l);refine⟨fun σ' H''=>∃m',m' < l.length/\LevInv K H pl pw ls ws e D Vn m' σ' H'',fun _ _ h=>h,?_⟩;have WF:Seqs (Itl K p5) (Same H') (fillQ (comQ e' l) l) (WP K):=As fun H'' sm=> ⟨sm.seq (SqL.of h5),i5.keep fun a v r=>Em _ _ _ _ (Tk.of sm) r⟩;refine⟨_,rfl,_,rfl,p5,rfl,⟨_,SqL.of h5⟩,Bx (as:=fillQ (comQ e' l) l) (R:=WP K) (S:=Fra K) (fun x=>x.1) A7 WF (small9 hwf.len) (fun a x H'' Qe ha sm r k1=>?_) (fun _ _ _ _ h q=>A2 h q) (fun D2 ys H4 s4 hD2 o=>?_)⟩
    ·obtain⟨q,y,z,rfl,hq,fy,hz⟩ :=r;exact⟨rfl,_,rfl,q,_,_,_,rfl,rfl,hq,rfl,k1 _ _ (Same.refl _) fy⟩
    obtain⟨t1,t2⟩ :=dH hwf;refine⟨_,.ref D2,rfl,⟨D2,ys,rfl,SqL.of hD2,o⟩,t1,t2,fun us H5 s5 f5=>?_⟩;have t3:Sz 1 (sumQ ((fillQ (comQ e' l) l).map fun x=>x.1)):=V8 hwf;refine⟨e',_,ue,us,3001,1,rfl,(fe'.keep s4).keep s5,f5,lev.sz ha,t3,by decide,fun ue2 H6 s6 f6=>?_⟩;have s46:Same H' H6:=(s4.trans s5).trans s6;refine⟨_,rfl,_,rfl,l,_,.ref p3,uk,3101,rfl,⟨p3,x3,rfl,s46.seq h3,i3.keep fun a v r=>Em _ _ _ _ (Tk.of s46) r⟩,fk.keep s46,hwl,(lev.sz ha).overN (Fa hwl hnl) (vA hwl.wsum (by decide)),by decide,fun ul2 H7 s7 f7=>?_⟩;have lst7:Lst K (WP K) (restQ (comQ e' l) l) ul2 H7:=f7.lst;refine⟨_,rfl,_,rfl,_,_,ul2,ue2,3001,rfl,lst7,f6.keep s7,hwr,nr,lev2.sz ha,by decide,fun uk2 H8 s8 f8=>?_⟩;have lst8:Lst K (WP K) (restQ (comQ e' l) l) ul2 H8:=Lst.keep Em.stay _ _ _ _ s8 lst7;refine⟨_,rfl,_,rfl,_,_,ul2,uk2,3101,rfl,lst8,f8,hwr,(lev2.sz ha).overN (Fa hwr nr) (vA hwr.wsum (by decide)),by decide,fun uf2 H9 s9 f9=>?_⟩;exact⟨_,lr,_,_,fu,ue2,ul2,uk2,uf2,rfl,rfl,(((sm.trans s46).trans s7).trans s8).trans s9,((f6.keep s7).keep s8).keep s9,Lst.keep Em.stay _ _ _ _ s9 lst8,f8.keep s9,f9,hwr,nr,lev2,by omega,heq⟩
end
def GI(mg:Str->Option Value)(x:Str)(i:Int):Prop:=∃t,mg x=some (.int i t)
theorem pgc{X:Cx}{x:Str}{i:Int}{pos:Pos}(h:GI X.mg x i)(hg:Gl X x:=by rfl)(hd:(x == ("__debug__":Str))=false:=by decide):PE X (.Name x pos) (tC (.int i)):=by
 obtain⟨t,h⟩ :=h;exact Tn hg h ⟨t,rfl⟩ hd
structure Cst(mg:Str->Option Value):Prop where
 PARTS:GI mg "PARTS" 0
 EVEN:GI mg "EVEN" 1
 LOSSES:GI mg "LOSSES" 2
 HALVES:GI mg "HALVES" 3
 CHANCE:GI mg "CHANCE" 4
 ORDER:GI mg "ORDER" 5
 OF_SHARES:GI mg "OF_SHARES" 0
 OF_LACKS:GI mg "OF_LACKS" 1
theorem Ey{K:PySem.W.Frag}{i j:Nat}{v:V}{σ:L2.St}{H:Hp}{C C':L2.St->Hp->Prop}(h:∀σ2 H2,C σ2 H2->C' σ2 H2)
  (q:gTup K 2 (gCons (gName i) (gCons (gName j) gNil)) v σ H C):gTup K 2 (gCons (gName i) (gCons (gName j) gNil)) v σ H C':=by
 obtain⟨a,xs,e,hq,hl,v1,r1,e1,v2,r2,e2,e3,q⟩ :=q;exact⟨a,xs,e,hq,hl,v1,r1,e1,v2,r2,e2,e3,h _ _ q⟩
theorem Br{a b:Int}:decide (V.int a=V.int b)=decide (a=b):=by
 rw[Sm];exact Bool.beq_eq_decide_eq a b
theorem iL{l:List (Q×Nat)}(h:∀x∈l,LOk x):Sz 101 (hiQ l):=dD l _ h (Sz.whole (vW _))
theorem bM{D W:Nat}{e0:Q}(a:AOk D W e0):∀(f:Nat) (l:List (Q×Nat)) (e:Q),WtOk l->LevAt D W e l->Sz 3101 (levelFrom f l e)
 |0,l,e,_,_=>Sz.whole (vW _)
 |f + 1,l,e,hw,lv=>by
  by_cases hn:l= []
  ·subst hn;exact Sz.whole (vW _)
  ·rw[O5 (Fa hw hn)];split
   ·exact(lv.sz a).overN (Fa hw hn) (vA hw.wsum (by decide))
   ·split
    ·exact(iL hw.each).mono (by decide)
    ·exact bM a f _ _ (hw.filter _) (lv.next hw _)
theorem Ux{D W:Nat}{e:Q}{ls:List Q}{ws:List Nat}(a:AOk D W e)(h:WtOk (ls.zip ws)):Sz 3101 (Vbirad.level ls ws e):=
 bM a _ _ _ h ⟨W,by have:=h.len;omega,a.bd.mono (Nat.dvd_mul_left D 2) (Nat.le_refl _)⟩
structure WOk(cs ws:List Nat):Prop where
 len:ws.length=cs.length
 each:∀w∈ws,0 < w/\w<=100
theorem eD{c:Nat}(h:c<=2^30):Bd 2 (2^31) (Vbirad.mk (c:Int) 2):=by
 have b:Bd 1 (2^30) (Vbirad.whole (c:Int)):=Bd.whole (by rw[vQ];exact h);have b2:=Bd.overN (n:=2) (by decide) b;have e:Vbirad.over (Vbirad.whole (c:Int)) (Vbirad.whole ((2:Nat):Int))=Vbirad.mk (c:Int) 2:=Kw (by decide);rw[e]at b2;exact b2.mono (by decide) (by decide)
theorem Oh{c:Nat}(h:c<=2^30):Bd 1 (2^30) (Vbirad.whole (c:Int)):=Bd.whole (by rw[vQ];exact h)
theorem gW{r:Nat}{cs:List Nat}(hc:COk cs):∀q∈limQ r cs,Bd 2 (2^31) q:=by
 intro q hq;unfold limQ at hq;split at hq
 ·obtain⟨c,h,rfl⟩ :=vL hq;exact eD (hc.each c h)
 ·obtain⟨c,h,rfl⟩ :=vL hq;exact(Oh (hc.each c h)).mono (by decide) (by decide)
theorem S4{r:Nat}{cs:List Nat}:(limQ r cs).length=cs.length:=by
 unfold limQ;split<;>simp
theorem O6{r:Nat}{cs ws:List Nat}(hc:COk cs)(hw:WOk cs ws):WtOk ((limQ r cs).zip ws):=by
 refine⟨?_,fun x hx=>?_⟩
 ·rw[List.length_zip,S4];have:=hc.len;omega
 ·obtain⟨h1,h2⟩ :=List.of_mem_zip (a:=x.1) (b:=x.2) hx;exact⟨gW hc _ h1,(hw.each _ h2).1,(hw.each _ h2).2⟩
theorem gX{r:Nat}{cs ws:List Nat}(hw:WOk cs ws)(hn:cs≠[]):(limQ r cs).zip ws≠[]:=by
 intro e;have:((limQ r cs).zip ws).length=0:=by rw[e];rfl
 rw[List.length_zip,S4,hw.len]at this;have h2:cs.length≠0:=fun z=>hn (v5 z);omega
structure AO1(D W:Nat)(e:Q):Prop where
 bd:Bd D W e
 d0:0 < D
 d1:D<=2^1500
 v1:W<=2^400
theorem AO1.sz{D W:Nat}{e:Q}(a:AO1 D W e):Sz 1500 e:=a.bd.sz a.d0 a.d1 (vA a.v1 (by decide))
theorem X2{D W r:Nat}{e:Q}{cs:List Nat}(a:AO1 D W e)(hc:COk cs):AOk D (W + 2^34) (sprQ r e cs):=by
 have h1:D<=2^3000:=vA a.d1 (by decide);have h2:W + 2^34<=2^500:=by
  have:=a.v1;have:(2:Nat)^400 + 2^34<=2^500:=by decide
  omega
 refine⟨?_,a.d0,h1,h2⟩;unfold sprQ;split
 ·have b:Bd 1 (2^34) (Vbirad.whole ((cs.sum:Nat):Int)):=Bd.whole (by rw[vQ];exact hc.sum);exact((b.mono (Nat.one_dvd D) (Nat.le_refl _)).sub a.bd).mono (Nat.dvd_refl _) (by omega)
 ·exact a.bd.mono (Nat.dvd_refl _) (by omega)
theorem dE{cs:List Nat}(hc:COk cs):Sz 0 (Vbirad.whole ((cs.sum:Nat):Int)):=Sz.whole (by rw[vQ];exact vA hc.sum (vN (by decide) (by decide)))
section
variable {P:Program}{w:World}{K:PySem.W.Frag}{mg:Str->Option Value}{base:Heap}
inductive spHasLevel(vs:List V)(H:Hp)(Q:VK)(_e3:XK):Prop|m:∀(r:Nat),vs= [.int (r:Int)]->Ret H (IsB (decide (r=1∨r=2∨r=3))) Q->spHasLevel vs H Q _e3
abbrev Lb:Stmt:=top 30
theorem Tx:FnScope ["rule"] ["rule"] (defScope Lb):=fS
theorem Td(F:FunN K mg "has_level" Lb)(C:Cst mg):Df P w K mg base 1 "has_level" ["rule"] spHasLevel:=by
 refine Df.of F Tx (fun vs H Q E h=>?_) (fun f cdv A outer s H vs Q E hr h=>?_)
 ·obtain⟨r,rfl,_⟩ :=h;rfl
 ·obtain⟨r,rfl,k⟩ :=h;refine⟨_,Ad (Ah (gE (D9 Cn (pv 0) (pgc C.EVEN) (nomark _)) (gE (D9 Cn (pv 0) (pgc C.LOSSES) (nomark _)) (Tp (D9 Cn (pv 0) (pgc C.HALVES) (nomark _)))))),?_⟩;refine⟨_,rfl,rfl,_,rfl,?_⟩;refine iteB (fun h1=>?_) (fun h1=>?_)
  ·refine k _ _ (Same.refl _) ?_;rw[Br,decide_eq_true_eq]at h1;show V.bl true=V.bl _;rw[decide_eq_true (by omega)]
  ·rw[Br,decide_eq_false_iff_not]at h1;refine⟨_,rfl,rfl,_,rfl,?_⟩;refine iteB (fun h2=>?_) (fun h2=>?_)
   ·refine k _ _ (Same.refl _) ?_;rw[Br,decide_eq_true_eq]at h2;show V.bl true=V.bl _;rw[decide_eq_true (by omega)]
   ·rw[Br,decide_eq_false_iff_not]at h2;refine⟨_,rfl,rfl,k _ _ (Same.refl _) ?_⟩;show V.bl _=V.bl _;rw[Br];congr 1;rw[Bool.eq_iff_iff];simp only [decide_eq_true_eq];omega
inductive spKind(K:PySem.W.Frag)(vs:List V)(H:Hp)(Q:VK)(_e3:XK):Prop|m:∀(r:Nat) (e:Vbirad.Q) (cs:List Nat) (u v:V),vs= [.int (r:Int),u,v]->Fra K e u H->Lst K IsN cs v H->Sz 1500 e->COk cs->Ret H (IsN (kindQ r e cs)) Q->spKind K vs H Q _e3
abbrev Jv:Stmt:=top 31
theorem Q7:FnScope ["rule","amount","claims"] ["rule","amount","claims"] (defScope Jv):=fS
theorem Qy(F:FunN K mg "level_kind" Jv)(T:Blt mg)(C:Cst mg)(wC:Df P w K mg base 1 "whole" ["number"] (spWhole K))(wO:Df P w K mg base 3 "times" ["left","number"] (sp1z K fun a n=>Fra K (Vbirad.mul a (Vbirad.whole n))))
  (wL:Df P w K mg base 1 "at_most" ["left","right"] (sp2L K fun a b=>IsB (Vbirad.le a b))):Df P w K mg base 4 "level_kind" ["rule","amount","claims"] (spKind K):=by
 refine Df.of F Q7 (fun vs H Q E h=>?_) (fun f cdv A outer s H vs Q E hr h=>?_)
 ·obtain⟨r,e,cs,u,v,rfl,_⟩ :=h;rfl
 ·obtain⟨r,e,cs,u,_,rfl,fe,⟨p,xs,rfl,hl,hi⟩,se,hc,k⟩ :=h;refine⟨_,Ac (A1 (At Cn (pv 0) (pgc C.EVEN) (nomark _)) (Ad (Ah (pgc C.OF_SHARES))) Aq)
   (Ac (A1 (PW.pt (Tt (At Cn (pv 0) (pgc C.HALVES) (nomark _)) (Ob (Bk (pd wL hr (Aa (pd wO hr (Aa (pv 1) (Aa (Af) Ab))) (Aa (pd wC hr (Aa (Ao (Lr rfl) (by rfl) T.sum boot_sum (Aa (pv 2) Ab)) Ab)) Ab)))))))
    (Ad (Ah (pgc C.OF_SHARES))) Aq)
   (Ad (Ah (pgc C.OF_LACKS)))),?_⟩
  have ex:=Mp hi;subst ex;refine⟨_,rfl,rfl,_,rfl,?_⟩;refine iteB (fun h1=>?_) (fun h1=>?_)
  ·rw[Br,decide_eq_true_eq]at h1;refine k _ _ (Same.refl _) ?_;show V.int 0=V.int ((kindQ r e cs:Nat):Int);unfold kindQ;rw[if_pos (by omega)];rfl
  ·rw[Br,decide_eq_false_iff_not]at h1;refine⟨_,rfl,rfl,_,rfl,?_⟩;refine iteB (fun h2=>?_) (fun h2=>?_)
   ·rw[Br,decide_eq_true_eq]at h2;refine⟨_,rfl,e,2,u,1500,rfl,fe,se,by decide,(by decide),fun y H1 s1 f1=>?_⟩;refine⟨_,rfl,p,_,rfl,s1.seq hl,?_⟩;rw[El];refine⟨_,rfl,fun z H2 s2 f2=>?_⟩;refine⟨_,_,y,z,1600,0,rfl,f1.keep s2,f2,se.mulN (a:=2) (by decide),dE hc,by decide,?_⟩;rintro _ H3 s3 rfl;refine⟨_,rfl,?_⟩;refine iteB (fun h3=>?_) (fun h3=>?_)
    ·refine k _ _ ((s1.trans s2).trans s3) ?_;show V.int 0=V.int ((kindQ r e cs:Nat):Int);unfold kindQ;rw[if_neg (by omega),if_pos ⟨by omega,h3⟩];rfl
    ·refine k _ _ ((s1.trans s2).trans s3) ?_;show V.int 1=V.int ((kindQ r e cs:Nat):Int);unfold kindQ;rw[if_neg (by omega),if_neg (fun z=>Bool.noConfusion (z.2.symm.trans h3))];rfl
   ·rw[Br,decide_eq_false_iff_not]at h2;refine iteF ?_;refine k _ _ (Same.refl _) ?_;show V.int 1=V.int ((kindQ r e cs:Nat):Int);unfold kindQ;rw[if_neg (by omega),if_neg (fun z=>by have:=z.1;omega)];rfl
inductive spLim(K:PySem.W.Frag)(vs:List V)(H:Hp)(Q:VK)(_e3:XK):Prop|m:∀(r:Nat) (cs:List Nat) (v:V),vs= [.int (r:Int),v]->Lst K IsN cs v H->COk cs->Ret H (Own (Fra K) (limQ r cs)) Q->spLim K vs H Q _e3
abbrev Lf:Stmt:=top 32
theorem Dm:FnScope ["rule","claims","claim"] ["rule","claims"] (defScope Lf):=fS
theorem Ti(F:FunN K mg "limits_by" Lf)(C:Cst mg)(wW:Df P w K mg base 2 "ratio" ["upper","lower"] (spRatio K))(wC:Df P w K mg base 1 "whole" ["number"] (spWhole K)):Df P w K mg base 3 "limits_by" ["rule","claims"] (spLim K):=by
 refine Df.of F Dm (fun vs H Q E h=>?_) (fun f cdv A outer s H vs Q E hr h=>?_)
 ·obtain⟨r,cs,v,rfl,_⟩ :=h;rfl
 ·obtain⟨r,cs,_,rfl,⟨p,xs,rfl,hl,hi⟩,hc,k⟩ :=h;refine⟨_,Ac (A1 (At Cn (pv 0) (pgc C.HALVES) (nomark _))
    (Ad (Ah (Co (own:=[("claim",2)]) rfl Dm.nd (A0 (pv 1)) (Ax (by rfl)) (fun _ _ _ _ _=>Am (i:=2) Dm.nd rfl (Or.inl rfl)) (fun _ _ _ _ _=>A6) (fun _ _ _ _ _=>pd wW hr (Aa (pv 2) (Aa (Af) Ab))))))
    (Aq))
   (Ad (Ah (Co (own:=[("claim",2)]) rfl Dm.nd (A0 (pv 1)) (Ax (by rfl)) (fun _ _ _ _ _=>Am (i:=2) Dm.nd rfl (Or.inl rfl)) (fun _ _ _ _ _=>A6) (fun _ _ _ _ _=>pd wC hr (Aa (pv 2) Ab))))),?_⟩
  have WS:Seqs (Itl K p) (Same H) cs IsN:=As fun H' sm=> ⟨sm.seq hl,hi⟩;refine⟨_,rfl,rfl,_,rfl,?_⟩;refine iteB (fun h1=>?_) (fun h1=>?_)
  ·rw[Br,decide_eq_true_eq]at h1;refine⟨_,rfl,p,rfl,⟨_,hl⟩,Bx (as:=cs) (R:=IsN) (S:=Fra K) (fun(c:Nat)=>Vbirad.mk (c:Int) 2) A7 WS (small9 hc.len) (fun a x H' Qe ha sm r kk=>?_) (fun _ _ _ _ h q=>A2 h q) (fun D ys H' sm hD o=>?_)⟩
   ·obtain rfl:x=V.int (a:Int):=r;exact⟨rfl,_,rfl,_,2,rfl,by decide,vP (show 2 < 4 by decide) (by rw[S2];exact Nat.pow_le_pow_right (n:=2) (i:=2) (by decide) (by decide)),kk⟩
   ·refine k _ _ sm ⟨D,ys,rfl,hD,?_⟩;unfold limQ;rw[if_pos (by omega)];exact o
  ·rw[Br,decide_eq_false_iff_not]at h1;refine⟨_,rfl,p,rfl,⟨_,hl⟩,Bx (as:=cs) (R:=IsN) (S:=Fra K) (fun(c:Nat)=>Vbirad.whole (c:Int)) A7 WS (small9 hc.len) (fun a x H' Qe ha sm r kk=>?_) (fun _ _ _ _ h q=>A2 h q) (fun D ys H' sm hD o=>?_)⟩
   ·obtain rfl:x=V.int (a:Int):=r;exact⟨rfl,_,rfl,_,rfl,kk⟩
   ·refine k _ _ sm ⟨D,ys,rfl,hD,?_⟩;unfold limQ;rw[if_neg (by omega)];exact o
inductive spRule(K:PySem.W.Frag)(R:Nat->Vbirad.Q->List Nat->List Nat->V->Hp->Prop)(ok:Nat->Prop)(vs:List V)(H:Hp)(Q:VK)(_e3:XK):Prop|m:∀(r:Nat) (e:Vbirad.Q) (cs ws:List Nat) (D W:Nat) (u v x:V),vs= [.int (r:Int),u,v,x]->Fra K e u H->Lst K IsN cs v H->Lst K IsN ws x H->ok r->AO1 D W e->COk cs->WOk cs ws->cs≠[]->Ret H (R r e cs ws) Q->spRule K R ok vs H Q _e3
inductive spRuleN(K:PySem.W.Frag)(R:Nat->Vbirad.Q->List Nat->List Nat->V->Hp->Prop)(ok:Nat->Prop)(vs:List V)(H:Hp)(Q:VK)(_e3:XK):Prop|m:∀(r:Nat) (e:Vbirad.Q) (cs ws:List Nat) (D W:Nat) (u v x:V),vs= [.int (r:Int),u,v,x]->Fra K e u H->Lst K IsN cs v H->Lst K IsN ws x H->ok r->AO1 D W e->COk cs->WOk cs ws->cs≠[]->RetN H (R r e cs ws) Q->spRuleN K R ok vs H Q _e3
abbrev PrR(K:PySem.W.Frag)(r:Nat)(e:Q)(cs ws:List Nat):V->Hp->Prop:=Par K IsN (Fra K) (kindQ r e cs,lvlQ r e cs ws)
abbrev M7:Stmt:=top 33
theorem Fi:FnScope ["rule","amount","claims","weights","kind","spread"] ["rule","amount","claims","weights"] (defScope M7):=fS
theorem Vd(F:FunN K mg "proof_by" M7)(T:Blt mg)(C:Cst mg)(uO:Df P w K mg base 4 "level_kind" ["rule","amount","claims"] (spKind K))(wH:Df P w K mg base 3 "minus" ["left","right"] (sp2 K fun a b=>Fra K (Vbirad.sub a b)))
  (wC:Df P w K mg base 1 "whole" ["number"] (spWhole K)) (wU:Df P w K mg base 3 "limits_by" ["rule","claims"] (spLim K)) (uN:Df P w K mg base 6 "even_level" ["amount","limits","weights"] (spEven K)):
  Df P w K mg base 7 "proof_by" ["rule","amount","claims","weights"] (spRule K (PrR K) fun _=>True):=by
 refine Df.of F Fi (fun vs H Q E h=>?_) (fun f cdv A outer s H vs Q E hr h=>?_)
 ·obtain⟨r,e,cs,ws,D,W,u,v,x,rfl,_⟩ :=h;rfl
 ·obtain⟨r,e,cs,ws,D,W,u,v,x,rfl,fe,lc,lw,_,ha,hc,hw,hn,k⟩ :=h;refine⟨_,Ac (Aj (i:=4) Fi.nd rfl (Or.inl rfl) (pd uO hr (Aa (pv 0) (Aa (pv 1) (Aa (pv 2) Ab)))))
   (Ac (Aj (i:=5) Fi.nd rfl (Or.inl rfl) (pv 1))
   (Ac (A1 (At Cn (pv 4) (pgc C.OF_LACKS) (nomark _))
    (Ad (Aj (i:=5) Fi.nd rfl (Or.inl rfl) (pd wH hr (Aa (pd wC hr (Aa (Ao (Lr rfl) (by rfl) T.sum boot_sum (Aa (pv 2) Ab)) Ab)) (Aa (pv 1) Ab)))))
    (Aq))
   (Ad (Ah (Ft (Aa (pv 4) (Aa (pd uN hr (Aa (pv 5) (Aa (pd wU hr (Aa (pv 0) (Aa (pv 2) Ab))) (Aa (pv 3) Ab)))) Ab))))))),?_⟩
  obtain⟨p,xs,rfl,hl,hi⟩ :=id lc;have ex:=Mp hi;subst ex;have fin:∀(us:V) (H2:Hp),Same H H2->Fra K (sprQ r e cs) us H2->(tRet (tTup (tCons (tVar 4) (tCons (tCall (spEven K) [] E0 (tCons (tVar 5) (tCons (tCall (spLim K) [] E0 (tCons (tVar 0) (tCons (tVar 2) tNil))) (tCons (tVar 3) tNil)))) tNil)))
    {nx:=fun x H'=>Q V.non H',rt:=Q} [some (.int (r:Int)),some u,some (.ref p),some x,some (.int ((kindQ r e cs:Nat):Int)),some us] H2):=fun us H2 s2 fs=>by
   refine⟨_,rfl,_,rfl,_,rfl,_,rfl,r,cs,.ref p,rfl,Lst.keep Bp.stay _ _ _ _ s2 lc,hc,fun vl H3 s3 f3=>?_⟩;refine⟨_,rfl,sprQ r e cs,limQ r cs,ws,_,_,us,vl,x,rfl,fs.keep s3,f3.lst,Lst.keep Bp.stay _ _ _ _ (s2.trans s3) lw,X2 ha hc,O6 hc hw,gX hw hn,fun vk H4 s4 f4=>?_⟩;refine⟨(by show 2<=sizeLine;decide),fun q hq=>?_⟩;exact k _ _ (Same.updT ((s2.trans s3).trans s4) hq) ⟨q,_,vk,rfl,SqT.of Ae,rfl,f4.keep (Same.upd hq)⟩
  refine⟨_,rfl,_,rfl,_,rfl,r,e,cs,u,.ref p,rfl,fe,lc,ha.sz,hc,?_⟩;rintro _ H1 s1 rfl;refine⟨_,rfl,?_⟩;refine⟨_,rfl,rfl,_,rfl,?_⟩;refine iteB (fun h1=>?_) (fun h1=>?_)
  ·rw[Br,decide_eq_true_eq]at h1;refine⟨_,rfl,p,_,rfl,s1.seq hl,?_⟩;rw[El];refine⟨_,rfl,fun y H2 s2 f2=>?_⟩;refine⟨_,rfl,_,e,y,u,0,1500,rfl,f2,(fe.keep s1).keep s2,dE hc,ha.sz,by decide,fun z H3 s3 f3=>?_⟩;refine fin z H3 ((s1.trans s2).trans s3) ?_;unfold sprQ;rw[if_pos (by omega)];exact f3
  ·rw[Br,decide_eq_false_iff_not]at h1;refine fin u H1 s1 ?_;unfold sprQ;rw[if_neg (by omega)];exact fe.keep s1
theorem Wm{α β:Type}{l:List α}{m:List β}(h:l.length<=9):(l.zip m).length < sizeLine:=by
 rw[List.length_zip];exact line9 (by omega)
abbrev My:Stmt:=top 34
theorem B4:FnScope ["rule","amount","claims","weights","proof","limits","got","limit","weight","claim","lack"] ["rule","amount","claims","weights"] (defScope My):=fS
theorem gP{D W r:Nat}{e:Q}{cs ws:List Nat}(ha:AO1 D W e)(hc:COk cs)(hw:WOk cs ws):∀q∈gotQ r e cs ws,Sz 3201 q:=by
 intro q hq;obtain⟨x,hx,rfl⟩ :=vL hq;have hl:=(O6 (r:=r) hc hw).each x hx;exact(hl.sz.mono (by decide)).least ((Ux (X2 ha hc) (O6 hc hw)).mulN (vA hl.w1 (by decide)))
theorem U4(F:FunN K mg "by_level" My)(T:Blt mg)(C:Cst mg)(wZ:Df P w K mg base 7 "proof_by" ["rule","amount","claims","weights"] (spRule K (PrR K) fun _=>True))(wU:Df P w K mg base 3 "limits_by" ["rule","claims"] (spLim K))
  (wR:Df P w K mg base 2 "lesser" ["left","right"] (sp2L K fun a b=>Fra K (Vbirad.least a b))) (wO:Df P w K mg base 3 "times" ["left","number"] (sp1z K fun a n=>Fra K (Vbirad.mul a (Vbirad.whole n))))
  (wH:Df P w K mg base 3 "minus" ["left","right"] (sp2 K fun a b=>Fra K (Vbirad.sub a b))) (wC:Df P w K mg base 1 "whole" ["number"] (spWhole K)):
  Df P w K mg base 8 "by_level" ["rule","amount","claims","weights"] (spRuleN K (fun r e cs ws=>Own (Fra K) (byLevQ r e cs ws)) fun _=>True):=by
 refine Df.of F B4 (fun vs H Q E h=>?_) (fun f cdv A outer s H vs Q E hr h=>?_)
 ·obtain⟨r,e,cs,ws,D,W,u,v,x,rfl,_⟩ :=h;rfl
 ·obtain⟨r,e,cs,ws,D,W,u,v,x,rfl,fe,lc,lw,_,ha,hc,hw,hn,k⟩ :=h;refine⟨_,Ac (Aj (i:=4) B4.nd rfl (Or.inr rfl) (pd wZ hr (Aa (pv 0) (Aa (pv 1) (Aa (pv 2) (Aa (pv 3) Ab))))))
   (Ac (Aj (i:=5) B4.nd rfl (Or.inl rfl) (pd wU hr (Aa (pv 0) (Aa (pv 2) Ab))))
   (Ac (Cs (i:=6) (own:=[("limit",7),("weight",8)]) rfl B4.nd rfl rfl (Du rfl rfl rfl (by rfl)) (Tq rfl T.zip (Aa (pv 5) (Aa (pv 3) Ab))) (Ax (by rfl)) (fun _ _ _ _ _=>Jj (K:=K) (n:=2) rfl rfl (A5 (Am (i:=7) B4.nd rfl (Or.inl rfl)) (A5 (Am (i:=8) B4.nd rfl (Or.inl rfl)) (C6)))) (fun _ _ _ _ _=>A6) (fun _ _ _ _ _=>pd wR hr (Aa (pv 7) (Aa (pd wO hr (Aa (Ai (Gc (K:=K) rfl) (pv 4) (Af)) (Aa (pv 8) Ab))) Ab))))
   (Ac (A1 (At Cn (Ai Bc (pv 4) (Af)) (pgc C.OF_SHARES) (nomark _))
    (Ad (Ah (pv 6)))
    (Aq))
   (Ad (Ah (Co (own:=[("claim",9),("lack",10)]) rfl B4.nd (Tq rfl T.zip (Aa (pv 2) (Aa (pv 6) Ab))) (Ax (by rfl)) (fun _ _ _ _ _=>Jj (K:=K) (n:=2) rfl rfl (A5 (Am (i:=9) B4.nd rfl (Or.inl rfl)) (A5 (Am (i:=10) B4.nd rfl (Or.inl rfl)) (C6)))) (fun _ _ _ _ _=>A6) (fun _ _ _ _ _=>pd wH hr (Aa (pd wC hr (Aa (pv 9) Ab)) (Aa (pv 10) Ab))))))))),?_⟩
  refine⟨_,rfl,_,rfl,_,rfl,_,rfl,r,e,cs,ws,D,W,u,v,x,rfl,fe,lc,lw,trivial,ha,hc,hw,hn,?_⟩;rintro _ H1 s1 ⟨pp,y1,y2,rfl,hpp,hy1,fy2⟩;obtain rfl:y1=V.int ((kindQ r e cs:Nat):Int):=hy1;refine⟨_,rfl,_,rfl,r,cs,v,rfl,Lst.keep Bp.stay _ _ _ _ s1 lc,hc,?_⟩;rintro _ H2 s2 ⟨pl,xl,rfl,hpl,il⟩;obtain⟨pw,xw,rfl,hpw,iw⟩ :=lw;have hpw2:SqL K H2 pw xw:=(s1.trans s2).seq hpw;have WS:Seqs (Itz K pl pw) (Same H2) ((limQ r cs).zip ws) (Par K (Fra K) IsN):=K7 A7.stay Bp.stay fun H' sm=> ⟨sm.seq (SqL.of hpl),il.keep fun a v r=>Fra.keep r sm,sm.seq hpw2,iw.keep fun _ _ r=>r⟩;have hlk:=Ux (X2 (r:=r) ha hc) (O6 (r:=r) hc hw);refine⟨_,rfl,_,rfl,pl,pw,_,_,rfl,SqL.of hpl,hpw2,Ge (as:=(limQ r cs).zip ws) (R:=Par K (Fra K) IsN) (S:=Fra K) (fun x=>Vbirad.least x.1 (Vbirad.mul (lvlQ r e cs ws) (Vbirad.whole (x.2:Int)))) A7 WS (Wm (by rw[S4];exact hc.len)) (fun a z H' Qe hm sm rz kk=>?_) (fun _ _ _ _ h q=>Ey h q) (fun D2 ys H3 hn2 s3 hD2 o=>?_)⟩
  ·obtain⟨q,b1,b2,rfl,hq,fb1,hb2⟩ :=rz;obtain rfl:b2=V.int (a.2:Int):=hb2;have la:=(O6 (r:=r) hc hw).each a hm;refine⟨q,_,rfl,hq,rfl,_,_,rfl,_,_,rfl,rfl,rfl,?_⟩;refine⟨_,rfl,_,rfl,pp,_,_,_,rfl,rfl,Same.seqT (s2.trans sm) hpp,rfl,_,rfl,_,a.2,y2,3101,rfl,fy2.keep (s2.trans sm),hlk,by decide,pow900 (k:=10) (vA la.w1 (by decide)) (by decide),fun z H4 s4 f4=>?_⟩;exact⟨a.1,_,b1,z,1,3201,rfl,fb1.keep s4,f4,la.sz,hlk.mulN (vA la.w1 (by decide)),by decide,fun z2 H5 s5 f5=>kk _ _ (s4.trans s5) f5⟩
  have s13:=(s1.trans s2).trans s3;refine⟨_,rfl,pp,_,_,_,rfl,rfl,Same.seqT (s2.trans s3) hpp,rfl,rfl,_,rfl,?_⟩;have go:Its (Fra K) H3 (gotQ r e cs ws) ys:=o;refine iteB (fun h1=>?_) (fun h1=>?_)
  ·rw[Br,decide_eq_true_eq]at h1;refine⟨_,rfl,k _ _ s13 (Same.free (s1.trans s2) hn2) ⟨D2,ys,rfl,hD2,?_⟩⟩;unfold byLevQ;rw[if_pos (by omega)];exact go
  ·rw[Br,decide_eq_false_iff_not]at h1;obtain⟨pc,xc,rfl,hpc,ic⟩ :=lc;have hpc3:SqL K H3 pc xc:=s13.seq hpc;have WS2:Seqs (Itz K pc D2) (Same H3) (cs.zip (gotQ r e cs ws)) (Par K IsN (Fra K)):=K7 Bp.stay A7.stay fun H' sm=> ⟨sm.seq hpc3,ic.keep fun _ _ r=>r,sm.seq (SqL.of hD2),go.keep fun a v r=>Fra.keep r sm⟩;refine⟨_,rfl,_,rfl,pc,D2,_,_,rfl,hpc3,SqL.of hD2,Ge (as:=cs.zip (gotQ r e cs ws)) (R:=Par K IsN (Fra K)) (S:=Fra K) (fun x=>Vbirad.sub (Vbirad.whole (x.1:Int)) x.2) A7 WS2 (Wm hc.len) (fun a z H' Qe hm sm rz kk=>?_) (fun _ _ _ _ h q=>Ey h q) (fun D3 zs H4 hn3 s4 hD3 o2=>?_)⟩
   ·obtain⟨q,b1,b2,rfl,hq,hb1,fb2⟩ :=rz;obtain rfl:b1=V.int (a.1:Int):=hb1;obtain⟨m1,m2⟩ :=List.of_mem_zip (a:=a.1) (b:=a.2) hm;refine⟨q,_,rfl,hq,rfl,_,_,rfl,_,_,rfl,rfl,rfl,?_⟩;refine⟨_,rfl,_,rfl,fun z H5 s5 f5=>?_⟩;exact⟨_,rfl,_,a.2,z,b2,1,3201,rfl,f5,fb2.keep s5,(Oh (hc.each _ m1)).sz (by decide) (by decide) (by decide),gP ha hc hw _ m2,by decide,fun z2 H6 s6 f6=>kk _ _ (s5.trans s6) f6⟩
   ·refine k _ _ (s13.trans s4) (Same.free s13 hn3) ⟨D3,zs,rfl,hD3,?_⟩;unfold byLevQ;rw[if_neg (by omega)];exact o2
end
theorem Jc:∀{n:Nat},n<=9->fact n<=2^20:=by
 intro n h
 match n,h with
 |0,_=>decide
 |1,_=>decide
 |2,_=>decide
 |3,_=>decide
 |4,_=>decide
 |5,_=>decide
 |6,_=>decide
 |7,_=>decide
 |8,_=>decide
 |9,_=>decide
theorem mulBN{i j:Int}(hi:i.natAbs<=2^5000)(hj:j.natAbs<=2^5000):CMulB i j:= ⟨Dk hi (by decide),Dk hj (by decide)⟩
section
variable {P:Program}{w:World}{K:PySem.W.Frag}{mg:Str->Option Value}{base:Heap}
inductive spFact(vs:List V)(H:Hp)(Q:VK)(_e3:XK):Prop|m:∀(n:Nat),vs= [.int (n:Int)]->n<=9->Ret H (IsN (fact n)) Q->spFact vs H Q _e3
abbrev K9:Stmt:=top 35
theorem Ev:FnScope ["number","product","factor"] ["number"] (defScope K9):=fS
theorem Ta(F:FunN K mg "factorial" K9)(T:Blt mg):Df P w K mg base 1 "factorial" ["number"] spFact:=by
 refine Df.of F Ev (fun vs H Q E h=>?_) (fun f cdv A outer s H vs Q E hr h=>?_)
 ·obtain⟨n,rfl,_⟩ :=h;rfl
 ·obtain⟨n,rfl,hn,k⟩ :=h;refine⟨_,Ac (Aj (i:=1) Ev.nd rfl (Or.inl rfl) (Af))
   (Ac (Ch PassesOwn.never rfl (Zx rfl T.range (Aa (Af) (Aa (Az B7 (pv 0) (Af)) Ab))) (Am (i:=2) Ev.nd rfl (Or.inl rfl))
    (Ad (Aj (i:=1) Ev.nd rfl (Or.inl rfl) (Az B6 (pv 1) (pv 2)))))
   (Ad (Ah (pv 1)))),?_⟩
  have en:((n:Int) + 1 - 2).toNat=n - 1:=by omega
  refine⟨_,rfl,_,_,rfl,rfl,2,(n:Int) + 1,rfl,⟨by omega,by omega,by omega,by omega⟩,?_⟩;rw[en];refine Bi (B:=fun _=>True) (as:=List.range (n - 1)) Gp (fun i σ H'=>i<=n - 1/\Same H H'/\∃r:Option V,σ= [some (.int (n:Int)),some (.int ((fact (i + 1):Nat):Int)),r]) ⟨vW _,Same.refl _,none,rfl⟩ (fun _ _ _ _=>trivial) ?_ ?_
  ·rintro i a v σ H1 H2 ha ⟨hi,sm,r,rfl⟩ s2 rfl;obtain⟨hi2,rfl⟩ :i < n - 1/\i=a:=by
    have:=List.getElem?_eq_some_iff.mp ha;obtain⟨h1,h2⟩ :=this;simp at h1 h2;exact⟨h1,h2⟩
   have hf:=Jc (n:=i + 1) (by omega);refine⟨_,rfl,_,rfl,_,_,rfl,rfl,mulBN (by rw[vQ];exact vA hf (by decide)) (vA (show(2 + (i:Int)).natAbs<=100 by omega) (by decide)),?_⟩;have e:((fact (i + 1 + 1):Nat):Int)=((fact (i + 1):Nat):Int) * (2 + (i:Int)):=by
    show(((i + 1 + 1) * fact (i + 1):Nat):Int)=_;rw[Int.natCast_mul];grind
   refine⟨by omega,sm.trans s2,some (.int (2 + (i:Int))),?_⟩;rw[e];rfl
  ·rintro σ H1 ⟨hi,sm,r,rfl⟩;refine⟨_,rfl,k _ _ sm ?_⟩;show V.int ((fact ((List.range (n - 1)).length + 1):Nat):Int)=V.int _;rw[v8];cases n with
   |zero=>rfl
   |succ m=>rfl
theorem R0:∀(l:List Nat) (S:List (Nat×Nat)),(setsQ l S).length=S.length * 2^l.length
 | [],S=>by show S.length=_;simp
 |x::l,S=>by
  show(setsQ l (S++S.map fun p=>(p.1 + 1,p.2 + x))).length=_;rw[R0 l,vI,vB,vK,Nat.pow_succ];grind
theorem X0(l:List Nat)(x:Nat)(S:List (Nat×Nat)):setsQ (l++[x]) S=setsQ l S++(setsQ l S).map fun p=>(p.1 + 1,p.2 + x):=by
 unfold setsQ;rw[List.foldl_append];rfl
theorem R1:∀(l:List Nat) (S:List (Nat×Nat)) (a b:Nat),(∀p∈S,p.1<=a/\p.2<=b)->∀p∈setsQ l S,p.1<=a + l.length/\p.2<=b + l.sum
 | [],S,a,b,h,p,hp=>h p hp
 |x::l,S,a,b,h,p,hp=>by
  have:=R1 l (S++S.map fun p=>(p.1 + 1,p.2 + x)) (a + 1) (b + x) (fun q hq=>by
   rcases v7 hq with hq|hq
   ·have:=h q hq;omega
   ·obtain⟨r,hr,rfl⟩ :=vL hq;have:=h r hr;show r.1 + 1<=_/\r.2 + x<=_;omega) p hp
  rw[vK,List.sum_cons];omega
abbrev PN(K:PySem.W.Frag):Rel (Nat×Nat):=Par K IsN IsN
theorem Jd{K:PySem.W.Frag}:Flat (PN K):=Sr Bp Bp
theorem pow9{n:Nat}(h:n<=8):1 * 2^n<=256:=by
 have:2^n<=2^8:=vN (by decide) h;omega
inductive spSets(K:PySem.W.Frag)(vs:List V)(H:Hp)(Q:VK)(_e3:XK):Prop|m:∀(cs:List Nat) (v:V),vs= [v]->Lst K IsN cs v H->cs.length<=8->Ret H (Own (PN K) (setsQ cs [(0,0)])) Q->spSets K vs H Q _e3
abbrev P7:Stmt:=top 36
theorem Da:FnScope ["claims","sets","claim","size","claimed"] ["claims"] (defScope P7):=fS
theorem Xk(F:FunN K mg "sets_of" P7):Df P w K mg base 1 "sets_of" ["claims"] (spSets K):=by
 refine Df.of F Da (fun vs H Q E h=>?_) (fun f cdv A outer s H vs Q E hr h=>?_)
 ·obtain⟨cs,v,rfl,_⟩ :=h;rfl
 ·obtain⟨cs,_,rfl,⟨p,xs,rfl,hl,hi⟩,hn,k⟩ :=h;refine⟨_,Ac (Aj (i:=1) Da.nd rfl (Or.inl rfl) (Av (Aa (Ft (Aa (Af) (Aa (Af) Ab))) Ab)))
   (Ac (Ch PassesOwn.never rfl (A0 (pv 0)) (Am (i:=2) Da.nd rfl (Or.inr rfl))
    (Ad (Aj (i:=1) Da.nd rfl (Or.inl rfl) (Az Cf (pv 1) (Co (own:=[("size",3),("claimed",4)]) rfl Da.nd (A0 (pv 1)) (Ax (by rfl)) (fun _ _ _ _ _=>Jj (K:=K) (n:=2) rfl rfl (A5 (Am (i:=3) Da.nd rfl (Or.inl rfl)) (A5 (Am (i:=4) Da.nd rfl (Or.inl rfl)) (C6)))) (fun _ _ _ _ _=>A6) (fun _ _ _ _ _=>Ft (Aa (Az B7 (pv 3) (Af)) (Aa (Az B7 (pv 4) (pv 2)) Ab))))))))
   (Ad (Ah (pv 1)))),?_⟩
  refine⟨(by show 2<=sizeLine;decide),fun t0 ht0=> ⟨(by show 1<=sizeLine;decide),fun l0 hl0=>?_⟩⟩;have s1:Same H (upd (upd H t0 (.tup [.int 0,.int 0])) l0 (.lst [.ref t0])):=Same.updT (Same.upd ht0) hl0;have ht:(upd (upd H t0 (.tup [.int 0,.int 0])) l0 (.lst [.ref t0])) t0=some (.tup [.int 0,.int 0]):=by
   rw[Ak (Al (Ae (H:=H) (a:=t0)) hl0)];exact Ae
  refine⟨_,rfl,p,rfl,⟨_,s1.seq hl⟩,Bi (B:=Same H) (as:=cs) (R:=IsN) (As (xs:=xs) fun H' sm=> ⟨sm.seq hl,hi⟩)
   (fun i σ H'=>Same H H'/\i<=cs.length/\∃(u:V) (e:Option V),σ= [some (.ref p),some u,e,none,none]/\Own (PN K) (setsQ (cs.take i) [(0,0)]) u H')
   ⟨s1,vW _,.ref l0,none,rfl,l0,[.ref t0],rfl,Ae,.cons ⟨t0,.int 0,.int 0,rfl,SqT.of ht,rfl,rfl⟩ .nil⟩ (fun i σ H' h=>h.1) ?_ ?_⟩
  ·rintro i a x σ H2 H3 ha ⟨sm,hik,_,e,rfl,⟨q,ys,rfl,hq,hy⟩⟩ s3 hx;obtain rfl:x=V.int (a:Int):=hx;have hi9:i < cs.length:=(vF ha).1;have len:(setsQ (cs.take i) [(0,0)]).length<=256:=by
    rw[R0];exact pow9 (by rw[vU];omega)
   have hq3:=s3 _ _ hq;have hy3:Its (PN K) H3 (setsQ (cs.take i) [(0,0)]) ys:=hy.keep fun _ _ r=>Jd _ _ _ _ (Tk.of s3) r;have WS:Seqs (Itl K q) (Same H3) (setsQ (cs.take i) [(0,0)]) (PN K):=As fun H' sm=> ⟨sm.seq (SqL.of hq3),hy3.keep fun _ _ r=>Jd _ _ _ _ (Tk.of sm) r⟩;refine⟨_,rfl,_,rfl,q,rfl,⟨_,SqL.of hq3⟩,Bx (as:=setsQ (cs.take i) [(0,0)]) (R:=PN K) (S:=PN K) (fun p=>(p.1 + 1,p.2 + a)) Jd WS (small1000 (by omega)) (fun b z H' Qe hm sm rz kk=>?_) (fun _ _ _ _ h q=>Ey h q) (fun D zs H4 s4 hD o=>?_)⟩
   ·obtain⟨t,b1,b2,rfl,ht,hb1,hb2⟩ :=rz;obtain rfl:b1=V.int (b.1:Int):=hb1;obtain rfl:b2=V.int (b.2:Int):=hb2;refine⟨t,_,rfl,ht,rfl,_,_,rfl,_,_,rfl,rfl,rfl,?_⟩;refine⟨_,rfl,_,_,rfl,rfl,_,rfl,_,rfl,_,_,rfl,rfl,(by show 2<=sizeLine;decide),fun t2 ht2=>kk _ _ (Same.upd ht2) ⟨t2,_,_,rfl,SqT.of Ae,?_,?_⟩⟩
    ·show V.int _=V.int _;congr 1
    ·show V.int _=V.int _;congr 1
   ·have hq4:=s4 _ _ hq3;have l1:=hy.len;have l2:=o.len;rw[vB]at l2;refine⟨q,D,ys,zs,rfl,rfl,hq4,hD,Nat.le_of_lt (small1000 (by omega)),fun p2 hp2=>?_⟩;refine⟨Same.updT ((sm.trans s3).trans s4) hp2,by omega,.ref p2,_,rfl,p2,_,rfl,Ae,?_⟩;rw[Bm ha,X0];exact Its.app (hy3.keep fun _ _ r=>Jd _ _ _ _ (Tk.of (s4.trans (Same.upd hp2))) r) (o.keep fun _ _ r=>Jd _ _ _ _ (Tk.of (Same.upd hp2)) r)
  ·rintro σ H2 ⟨sm,_,u,e,rfl,o⟩;rw[v6]at o;exact⟨_,rfl,k _ _ sm o⟩
theorem fT{p:Int}{q c b:Nat}:(takI p q c b).natAbs<=c * q:=by
 have h0:(0:Int)<=(c:Int) * (q:Int):=Int.mul_nonneg (by omega) (by omega);have e:(((c * q:Nat)):Int)=(c:Int) * (q:Int):=Int.natCast_mul c q;unfold takI;dsimp only;generalize p - (b:Int) * (q:Int)=z;generalize (c:Int) * (q:Int)=y at h0 e;split<;>split<;>omega
def termI(e:Q)(c m:Nat)(p:Nat×Nat):Int:=((fact p.1 * fact (m - p.1):Nat):Int) * takI e.n e.d c p.2
theorem Z8(l:List Int)(x:Int):(l++[x]).sum=l.sum + x:=by simp
inductive spMean(K:PySem.W.Frag)(vs:List V)(H:Hp)(Q:VK)(_e3:XK):Prop|m:∀(e:Vbirad.Q) (c:Nat) (os:List Nat) (u v:V),vs= [u,.int (c:Int),v]->Fra K e u H->Lst K IsN os v H->Sz 1500 e->c<=2^30->os.length<=8->(∀o∈os,o<=2^30)->Ret H (Fra K (meanQ e c os)) Q->spMean K vs H Q _e3
abbrev Jx:Stmt:=top 37
theorem Be:FnScope ["amount","claim","others","upper","lower","count","size","orders","summed","claimed","left"] ["amount","claim","others"] (defScope Jx):=fS
def ordQ(m i:Nat):Nat:=fact i * fact (m - i)
theorem Q0(F:FunN K mg "mean_taken" Jx)(T:Blt mg)(yI:Df P w K mg base 1 "sets_of" ["claims"] (spSets K))(w4:Df P w K mg base 1 "factorial" ["number"] spFact)(wW:Df P w K mg base 2 "ratio" ["upper","lower"] (spRatio K)):
  Df P w K mg base 3 "mean_taken" ["amount","claim","others"] (spMean K):=by
 refine Df.of F Be (fun vs H Q E h=>?_) (fun f cdv A outer s H vs Q E hr h=>?_)
 ·obtain⟨e,c,os,u,v,rfl,_⟩ :=h;rfl
 ·obtain⟨e,c,os,_,v,rfl,⟨pe,rfl,hpe⟩,lo,se,hc,hn,ho,k⟩ :=h;refine⟨_,Ac (Aj (i:=3) Be.nd rfl (Or.inl rfl) (Ai Bc (pv 0) (Af)))
   (Ac (Aj (i:=4) Be.nd rfl (Or.inl rfl) (Ai Bc (pv 0) (Af)))
   (Ac (Aj (i:=5) Be.nd rfl (Or.inr rfl) (Ao An (by rfl) T.len PySem.boot_len (Aa (pv 2) Ab)))
   (Ac (Cs (i:=7) (own:=[("size",6)]) rfl Be.nd rfl rfl (Du rfl rfl rfl (by rfl)) (Ma rfl T.range (Aa (Az B7 (pv 5) (Af)) Ab)) (Ax (by rfl)) (fun _ _ _ _ _=>Am (i:=6) Be.nd rfl (Or.inl rfl)) (fun _ _ _ _ _=>A6) (fun _ _ _ _ _=>Az B6 (pd w4 hr (Aa (pv 6) Ab)) (pd w4 hr (Aa (Az J8 (pv 5) (pv 6)) Ab))))
   (Ac (Aj (i:=8) Be.nd rfl (Or.inl rfl) (Af))
   (Ac (Ch PassesOwn.never rfl (A0 (pd yI hr (Aa (pv 2) Ab))) (J9 rfl (A5 (Am (i:=6) Be.nd rfl (Or.inl rfl)) (A5 (Am (i:=9) Be.nd rfl (Or.inl rfl)) (C6))))
    (Ac (Aj (i:=10) Be.nd rfl (Or.inl rfl) (Ao (Y9 rfl) (by rfl) T.max boot_max (Aa (Af) (Aa (Az J8 (pv 3) (Az B6 (pv 9) (pv 4))) Ab))))
    (Ad (Aj (i:=8) Be.nd rfl (Or.inl rfl) (Az B7 (pv 8) (Az B6 (Ai Ag (pv 7) (pv 6)) (Ao (Rj rfl) (by rfl) T.min boot_min (Aa (Az B6 (pv 1) (pv 4)) (Aa (pv 10) Ab)))))))))
   (Ad (Ah (pd wW hr (Aa (pv 8) (Aa (Az B6 (pv 4) (pd w4 hr (Aa (Az B7 (pv 5) (Af)) Ab))) Ab)))))))))),?_⟩
  have hd5:e.d<=2^5000:=vA se.dle (vN (by decide) (by decide));have hosum:os.sum<=2^34:=by
   have:=Qc os (2^30) ho;have h3:os.length * 2^30<=8 * 2^30:=Nat.mul_le_mul_right _ hn;omega
  obtain⟨pv,xv,rfl,hpv,iv⟩ :=id lo;have lv:=iv.len;refine⟨_,rfl,pe,_,_,_,rfl,rfl,hpe,rfl,?_⟩;refine⟨_,rfl,pe,_,_,_,rfl,rfl,hpe,rfl,?_⟩;refine⟨_,rfl,pv,_,rfl,.inl hpv,?_⟩;rw[<-lv];have en:((os.length:Int) + 1).toNat=os.length + 1:=by omega
  refine⟨_,rfl,_,_,rfl,rfl,(os.length:Int) + 1,rfl,by omega,by omega,?_⟩;rw[en];refine Bx (as:=List.range (os.length + 1)) (R:=fun i v _=>v=.int (0 + (i:Int))) (S:=IsN) (ordQ os.length) Bp Gp (small1000 (by rw[v8];omega)) (fun b z H' Qe hm sm rz kk=>?_) (fun _ _ _ _ h q=>A2 h q) (fun D zs H0 s0 hD oz=>?_)
  ·obtain rfl:z=V.int (b:Int):=by rw[rz,Int.zero_add]
   have hbl:b<=os.length:=by have:=List.mem_range.mp hm;omega
   refine⟨rfl,_,rfl,b,rfl,by omega,?_⟩;rintro _ H4 s4 rfl;refine⟨_,rfl,_,rfl,_,_,rfl,rfl,os.length - b,?_,by omega,?_⟩
   ·show [V.int ((os.length:Int) - (b:Int))]= [V.int ((os.length - b:Nat):Int)];congr 2;omega
   rintro _ H5 s5 rfl;have hf1:=Jc (n:=b) (by omega);have hf2:=Jc (n:=os.length - b) (by omega);refine⟨_,_,rfl,rfl,mulBN (by rw[vQ];exact vA hf1 (by decide)) (by rw[vQ];exact vA hf2 (by decide)),kk _ _ (s4.trans s5) ?_⟩;show V.int _=V.int _;congr 1
  have lz:=oz.len;rw[vB,v8]at lz;have lo0:Lst K IsN os (.ref pv) H0:= ⟨pv,xv,rfl,s0.seq hpv,iv⟩;refine⟨_,rfl,os,_,rfl,lo0,hn,?_⟩;rintro _ H1 s1 ⟨ps,ys,rfl,hps,hy⟩;have hD1:=s1 _ _ hD;refine⟨ps,rfl,⟨_,SqL.of hps⟩,Bi (B:=Same H1) (as:=setsQ os [(0,0)]) (R:=PN K) (As (xs:=ys) fun H' sm=> ⟨sm.seq (SqL.of hps),hy.keep fun _ _ r=>Jd _ _ _ _ (Tk.of sm) r⟩)
   (fun i σ H'=>Same H1 H'/\∃(a b d:Option V),σ= [some (.ref pe),some (.int (c:Int)),some (.ref pv),some (.int e.n),some (.int (e.d:Int)),some (.int (os.length:Int)),a,some (.ref D),some (.int (((setsQ os [(0,0)]).take i).map (termI e c os.length)).sum),b,d]) ⟨Same.refl _,none,none,none,rfl⟩ (fun i σ H' h=>h.1) ?_ ?_⟩
  ·rintro i b x σ H2 H3 hb ⟨sm,a1,a2,a3,rfl⟩ s3 ⟨t,b1,b2,rfl,ht,hb1,hb2⟩;obtain rfl:b1=V.int (b.1:Int):=hb1;obtain rfl:b2=V.int (b.2:Int):=hb2;have hbm:=R1 os [(0,0)] 0 0 (fun p hp=>by simp at hp;subst hp;exact⟨Nat.le_refl _,Nat.le_refl _⟩) b (List.mem_of_getElem? hb);have hb2:b.2<=2^34:=by omega
   have hD3:=s3 _ _ (sm _ _ hD1);obtain⟨z,hz⟩ :∃z,zs[b.1]? =some z:= ⟨_,vC (by omega)⟩;obtain⟨q,hq,rz⟩ :=oz.at hz;obtain rfl:q=ordQ os.length b.1:=by
    rw[vR,List.getElem?_range (by omega)]at hq;exact(vE hq).symm
   obtain rfl:z=V.int ((ordQ os.length b.1:Nat):Int):=rz;have hf1:=Jc (n:=b.1) (by omega);have hf2:=Jc (n:=os.length - b.1) (by omega);refine⟨t,_,rfl,ht,rfl,_,_,rfl,_,_,rfl,rfl,?_⟩;refine⟨_,rfl,_,rfl,_,rfl,_,_,rfl,rfl,mulBN (by rw[vQ];exact vA hb2 (by decide)) (by rw[vQ];exact hd5),_,_,rfl,rfl,_,_,rfl,?_⟩;refine⟨_,rfl,_,rfl,_,rfl,D,zs,_,_,rfl,rfl,SqL.of hD3,A4 hz,_,rfl,_,rfl,_,_,rfl,rfl,mulBN (by rw[vQ];exact vA hc (by decide)) (by rw[vQ];exact hd5),_,rfl,_,_,rfl,?_⟩;have ht:(takI e.n e.d c b.2).natAbs<=2^5000:=vA fT (vA (Nat.mul_le_mul hc se.dle) (by rw[<-Nat.pow_add];exact vN (by decide) (by decide)));refine⟨_,_,rfl,rfl,⟨Dk (k:=40) ?_ (by decide),Dk ht (by decide)⟩,_,_,rfl,rfl,?_⟩
   ·rw[vQ];exact vA (Nat.mul_le_mul hf1 hf2) (by decide)
   refine⟨sm.trans s3,some (.int (b.1:Int)),some (.int (b.2:Int)),some (.int (if e.n - (b.2:Int) * (e.d:Int) > 0 then e.n - (b.2:Int) * (e.d:Int)else 0)),?_⟩;rw[Bm hb,List.map_append,List.map_cons,List.map_nil,Z8];unfold termI takI;rfl
  ·rintro σ H2 ⟨sm,a1,a2,a3,rfl⟩;rw[v6];refine⟨_,rfl,_,rfl,_,rfl,_,_,rfl,rfl,os.length + 1,rfl,by omega,?_⟩;rintro _ H3 s3 rfl;have hf:=Jc (n:=os.length + 1) (by omega);refine⟨_,_,rfl,rfl,mulBN (by rw[vQ];exact hd5) (by rw[vQ];exact vA hf (by decide)),?_⟩;refine⟨_,e.d * fact (os.length + 1),rfl,Nat.mul_pos se.pos (Eg _),?_,fun z H4 s4 f4=>k _ _ ((((s0.trans s1).trans sm).trans s3).trans s4) f4⟩;refine S3 (k:=1500 + 20) ?_ (by decide);rw[Nat.pow_add];exact Nat.mul_le_mul se.dle hf
end
section
variable {P:Program}{w:World}{K:PySem.W.Frag}{mg:Str->Option Value}{base:Heap}
theorem Oo(xs:List V)(i:Nat)(h:i<=xs.length):cutV xs none (some (i:Int))=xs.take i:=by
 unfold cutV;rw[HT.sIx_none,HT.sIx_nat,Nat.min_eq_left h];simp
theorem Hs(xs:List V)(i:Nat)(h:i<=xs.length):cutV xs (some (i:Int)) none=xs.drop i:=by
 unfold cutV;rw[HT.sIx_none,HT.sIx_nat,Nat.min_eq_left h];refine List.take_of_length_le ?_;rw[List.length_drop];omega
inductive spAmt(K:PySem.W.Frag)(R:Vbirad.Q->List Nat->V->Hp->Prop)(vs:List V)(H:Hp)(Q:VK)(_e3:XK):Prop|m:∀(e:Vbirad.Q) (cs:List Nat) (D W:Nat) (u v:V),vs= [u,v]->Fra K e u H->Lst K IsN cs v H->AO1 D W e->COk cs->RetN H (R e cs) Q->spAmt K R vs H Q _e3
abbrev K8:Stmt:=top 38
theorem Dl:FnScope ["amount","claims","shares","place","claim","others"] ["amount","claims"] (defScope K8):=fS
theorem Py(n i:Nat)(h:i < n):(List.range n).take (i + 1)=(List.range n).take i++[i]:=Bm (by simp[h])
theorem S9(F:FunN K mg "by_chance" K8)(T:Blt mg)(uQ:Df P w K mg base 3 "mean_taken" ["amount","claim","others"] (spMean K)):Df P w K mg base 4 "by_chance" ["amount","claims"] (spAmt K fun e cs=>Own (Fra K) (byChance (cQ cs) e)):=by
 refine Df.of F Dl (fun vs H Q E h=>?_) (fun f cdv A outer s H vs Q E hr h=>?_)
 ·obtain⟨e,cs,D,W,u,v,rfl,_⟩ :=h;rfl
 ·obtain⟨e,cs,D,W,u,_,rfl,fe,⟨p,xs,rfl,hl,hi⟩,ha,hc,k⟩ :=h;refine⟨_,Ac (Aj (i:=2) Dl.nd rfl (Or.inl rfl) (Av (Ab)))
   (Ac (Ch PassesOwn.never rfl (fJ rfl T.enumerate (Aa (pv 1) Ab)) (J9 rfl (A5 (Am (i:=3) Dl.nd rfl (Or.inl rfl)) (A5 (Am (i:=4) Dl.nd rfl (Or.inl rfl)) (C6))))
    (Ac (Aj (i:=5) Dl.nd rfl (Or.inl rfl) (Az Cf (Cr Ds (pv 1) Eu (C0 (pv 3))) (Cr Ds (pv 1) (C0 (Az B7 (pv 3) (Af))) Eu)))
    (Ad (Cg (Eh PySem.F.plainAttrs_list PySem.F.slot_list_append PySem.F.type_list_append Dc (pv 2) (Aa (pd uQ hr (Aa (pv 0) (Aa (pv 4) (Aa (pv 5) Ab)))) Ab))))))
   (Ad (Ah (pv 2)))),?_⟩
  have lx:=hi.len;have l9:=hc.len;refine⟨vW _,fun q hq=>?_⟩;have s1:Same H (upd H q (.lst [])):=Same.upd hq;refine⟨_,rfl,p,xs,rfl,s1.seq hl,Bi (B:=Same H) (as:=cs.zipIdx) (Z3 (xs:=xs) Bp.stay fun H' sm=> ⟨sm.seq hl,hi⟩)
   (fun i σ H'=>Same H H'/\i<=cs.length/\∃(a b c:Option V) (ys:List V),σ= [some u,some (.ref p),some (.ref q),a,b,c]/\H' q=some (.lst ys)/\Its (Fra K) H' (((List.range cs.length).take i).map fun i=>meanQ e (cs.getD i 0) (cs.take i++cs.drop (i + 1))) ys)
   ⟨s1,vW _,none,none,none,[],rfl,Ae,.nil⟩ (fun i σ H' h=>h.1) ?_ ?_⟩
  ·rintro i a x σ H2 H3 hai ⟨sm,hik,a1,a2,a3,ys,rfl,hys,iys⟩ s3 ⟨t,b1,b2,rfl,ht,hb1,hb2⟩;obtain rfl:b1=V.int ((a.2:Nat):Int):=hb1;obtain rfl:b2=V.int ((a.1:Nat):Int):=hb2;have hilt:i < cs.length:=by
    have:=(vF hai).1
    rwa [List.length_zipIdx]at this
   obtain⟨c,hci⟩ :∃c,cs[i]? =some c:= ⟨_,vC hilt⟩;have hz:=Fb (k:=0) hci;rw[Nat.zero_add]at hz;obtain rfl:a=(c,i):=vE (hai.symm.trans hz);have hl3:SqL K H3 p xs:=(sm.trans s3).seq hl;refine⟨t,_,rfl,ht,rfl,_,_,rfl,_,_,rfl,rfl,?_⟩;refine⟨_,rfl,_,rfl,_,rfl,p,xs,rfl,hl3,fun p1 hp1=>?_⟩;rw[Oo xs i (by omega)];have s4:Same H3 (upd H3 p1 (.lst (xs.take i))):=Same.upd hp1;refine⟨_,rfl,_,rfl,_,_,rfl,rfl,_,rfl,p,xs,rfl,s4.seq hl3,fun p2 hp2=>?_⟩;have ec:cutV xs (some ((i:Int) + 1)) none=xs.drop (i + 1):=Hs xs (i + 1) (by omega);rw[ec];have h12:p1≠p2:=Al (Ae (H:=H3) (a:=p1)) hp2;have h1':(upd (upd H3 p1 (.lst (xs.take i))) p2 (.lst (xs.drop (i + 1)))) p1=some (.lst (xs.take i)):=by rw[Ak h12];exact Ae
   refine⟨p1,p2,_,_,rfl,rfl,h1',Ae,Nat.le_of_lt (line9 (by rw[vU,vZ];omega)),fun p3 hp3=>?_⟩;have s6:Same H3 (upd (upd (upd H3 p1 (.lst (xs.take i))) p2 (.lst (xs.drop (i + 1)))) p3 (.lst (xs.take i++xs.drop (i + 1)))):=(s4.trans (Same.upd hp2)).trans (Same.upd hp3);refine⟨_,rfl,.inl ⟨rfl,_,SqL.of (s6 _ _ (s3 _ _ hys))⟩,?_⟩;have hcm:c∈cs:=vD hci;refine⟨_,rfl,_,rfl,_,rfl,e,c,cs.take i++cs.drop (i + 1),u,.ref p3,rfl,fe.keep ((sm.trans s3).trans s6),⟨p3,_,rfl,SqL.of Ae,?_⟩,ha.sz,hc.each c hcm,?_,?_,?_⟩
   ·exact Its.app (hi.take i) (hi.drop (i + 1))
   ·rw[vI,vU,vZ];omega
   ·intro o ho;rcases v7 ho with h|h
    ·exact hc.each o (List.mem_of_mem_take h)
    ·exact hc.each o (List.mem_of_mem_drop h)
   intro y H7 s7 f7;have hys7:=s7 _ _ (s6 _ _ (s3 _ _ hys));have ly:=iys.len;rw[vB,vU,v8]at ly;refine⟨q,_,_,rfl,rfl,hys7,line9 (by omega),?_⟩;refine⟨fun b o eo=>?_,by omega,_,_,_,_,rfl,Ae,?_⟩
   ·rw[Ak (Al eo hq)];exact(((sm.trans s3).trans s6).trans s7) b o eo
   ·rw[Py _ _ hilt,List.map_append];have tk:Tk H2 (upd H7 q (.lst (ys++[y]))):=(Tk.of ((s3.trans s6).trans s7)).trans (Tk.updL hys7);refine Its.app (iys.keep fun _ _ r=>A7 _ _ _ _ tk r) (.cons ?_ .nil);have eg:cs.getD i 0=c:=by rw[vS,hci];rfl
    show Fra K (meanQ e (cs.getD i 0) (cs.take i++cs.drop (i + 1))) y _;rw[eg];exact A7 _ _ _ _ (Tk.updL hys7) f7
  ·rintro σ H2 ⟨sm,_,a1,a2,a3,ys,rfl,hys,iys⟩;rw[List.length_zipIdx]at iys;refine⟨_,rfl,k _ _ sm hq ⟨q,ys,rfl,hys,?_⟩⟩;show Its (Fra K) H2 (byChance (cQ cs) e) ys;rw[Rk ha.bd.red.pos];have e1:(List.range cs.length).take cs.length=List.range cs.length:=by
    rw[List.take_of_length_le];simp
   rw[e1]at iys;exact iys
theorem eE{D W:Nat}{e:Q}{c:Nat}(h:Bd D W e):Bd D W (Vbirad.sub e (Vbirad.least (Vbirad.whole (c:Int)) e)):=by
 have hc:=Ay c;have hW:=Ay W;have l:=Fr (a:=Vbirad.whole (c:Int)) (b:=e) (Aw _).pos h.red.pos;rw[By]at l;unfold Vbirad.least;split
 ·rename_i hle
  have hle:=l.mp hle;have e1:=Jn (a:=e) (b:=Vbirad.whole (c:Int)) h.red.pos (Aw _).pos;rw[By]at e1;obtain⟨m,hm⟩ :=h.int;have:=h.hi;refine⟨Ea h.red.pos (Aw _).pos,⟨m - (c:Int) * D,?_⟩,?_,?_⟩
  ·rw[e1];simp only [Rat.intCast_sub,Rat.intCast_mul,Rat.intCast_natCast];grind
  ·rw[e1];grind
  ·rw[e1];grind
 ·have e1:=Jn (a:=e) (b:=e) h.red.pos h.red.pos;refine⟨Ea h.red.pos h.red.pos,⟨0,?_⟩,?_,?_⟩
  ·rw[e1];simp;grind
  ·rw[e1];grind
  ·rw[e1];grind
abbrev Mz:Stmt:=top 39
theorem Dd:FnScope ["amount","claims","shares","left","claim","share"] ["amount","claims"] (defScope Mz):=fS
theorem Rl{α:Type}:∀{l:List α} {i:Nat} {x:α},l[i]? =some x->l.drop i=x::l.drop (i + 1)
 | [],i,x,h=>by simp at h
 |a::l,0,x,h=>by simp at h;subst h;rfl
 |a::l,i + 1,x,h=>by
  show l.drop i=x::l.drop (i + 1);exact Rl (by simpa using h)
theorem U5(F:FunN K mg "by_order" Mz)(wC:Df P w K mg base 1 "whole" ["number"] (spWhole K))(wR:Df P w K mg base 2 "lesser" ["left","right"] (sp2L K fun a b=>Fra K (Vbirad.least a b)))
  (wH:Df P w K mg base 3 "minus" ["left","right"] (sp2 K fun a b=>Fra K (Vbirad.sub a b))):Df P w K mg base 4 "by_order" ["amount","claims"] (spAmt K fun e cs=>Own (Fra K) (inOrder (cQ cs) e)):=by
 refine Df.of F Dd (fun vs H Q E h=>?_) (fun f cdv A outer s H vs Q E hr h=>?_)
 ·obtain⟨e,cs,D,W,u,v,rfl,_⟩ :=h;rfl
 ·obtain⟨e,cs,D,W,u,_,rfl,fe,⟨p,xs,rfl,hl,hi⟩,ha,hc,k⟩ :=h;refine⟨_,Ac (Aj (i:=2) Dd.nd rfl (Or.inl rfl) (Av (Ab)))
   (Ac (Aj (i:=3) Dd.nd rfl (Or.inl rfl) (pv 0))
   (Ac (Ch PassesOwn.never rfl (A0 (pv 1)) (Am (i:=4) Dd.nd rfl (Or.inl rfl))
    (Ac (Aj (i:=5) Dd.nd rfl (Or.inl rfl) (pd wR hr (Aa (pd wC hr (Aa (pv 4) Ab)) (Aa (pv 3) Ab))))
    (Ac (Cg (Eh PySem.F.plainAttrs_list PySem.F.slot_list_append PySem.F.type_list_append Dc (pv 2) (Aa (pv 5) Ab)))
    (Ad (Aj (i:=3) Dd.nd rfl (Or.inl rfl) (pd wH hr (Aa (pv 3) (Aa (pv 5) Ab))))))))
   (Ad (Ah (pv 2))))),?_⟩
  have l9:=hc.len;refine⟨vW _,fun q hq=>?_⟩;have s1:Same H (upd H q (.lst [])):=Same.upd hq;refine⟨_,rfl,?_⟩;refine⟨_,rfl,p,rfl,⟨xs,s1.seq hl⟩,Bi (B:=Same H) (as:=cs) (R:=IsN) (As (xs:=xs) fun H' sm=> ⟨sm.seq hl,hi⟩)
   (fun i σ H'=>Same H H'/\i<=cs.length/\∃(a b:Option V) (ul:V) (left:Vbirad.Q) (out:List Vbirad.Q) (ys:List V),σ= [some u,some (.ref p),some (.ref q),some ul,a,b]/\Fra K left ul H'/\AO1 D W left/\H' q=some (.lst ys)/\Its (Fra K) H' out ys/\out.length=i/\
    inOrder (cQ cs) e=out++inOrder (cQ (cs.drop i)) left)
   ⟨s1,vW _,none,none,u,e,[],[],rfl,fe.keep s1,ha,Ae,.nil,rfl,rfl⟩ (fun i σ H' h=>h.1) ?_ ?_⟩
  ·rintro i c x σ H2 H3 hci ⟨sm,hik,a1,a2,ul,left,out,ys,rfl,fl,al,hys,iys,hlo,heq⟩ s3 hx;obtain rfl:x=V.int (c:Int):=hx;have hcc:=hc.each c (List.mem_of_getElem? hci);have hilt:i < cs.length:=(List.getElem?_eq_some_iff.mp hci).1;refine⟨_,rfl,_,rfl,fun z H4 s4 f4=>?_⟩;have szc:Sz 1 (Vbirad.whole (c:Int)):=(Oh hcc).sz (by decide) (by decide) (by decide);refine⟨_,rfl,_,left,z,ul,1,1500,rfl,f4,(fl.keep s3).keep s4,szc,al.sz,by decide,fun y H5 s5 f5=>?_⟩;have hys5:=s5 _ _ (s4 _ _ (s3 _ _ hys));refine⟨_,rfl,.inl ⟨rfl,_,SqL.of hys5⟩,_,rfl,q,_,_,rfl,rfl,hys5,line9 (by have:=iys.len;omega),?_⟩;have tk5:Tk H5 (upd H5 q (.lst (ys++[y]))):=Tk.updL hys5;have tk2:Tk H2 (upd H5 q (.lst (ys++[y]))):=(Tk.of ((s3.trans s4).trans s5)).trans tk5;refine⟨_,rfl,_,rfl,left,_,ul,y,1500,1500,rfl,A7 _ _ _ _ tk2 fl,A7 _ _ _ _ tk5 f5,al.sz,(szc.mono (by decide)).least al.sz,by decide,fun z2 H6 s6 f6=>?_⟩;refine⟨fun b o eo=>s6 _ _ ?_,by omega,_,_,z2,_,out++[Vbirad.least (Vbirad.whole (c:Int)) left],ys++[y],rfl,f6,⟨eE al.bd,al.d0,al.d1,al.v1⟩,s6 _ _ Ae,?_,by simp[hlo],?_⟩
   ·rw[Ak (Al eo hq)];exact(((sm.trans s3).trans s4).trans s5) b o eo
   ·exact Its.app (iys.keep fun _ _ r=>A7 _ _ _ _ (tk2.trans (Tk.of s6)) r) (.cons (A7 _ _ _ _ (tk5.trans (Tk.of s6)) f5) .nil)
   ·rw[heq,Rl hci,List.append_assoc];rfl
  ·rintro σ H2 ⟨sm,_,a1,a2,ul,left,out,ys,rfl,fl,al,hys,iys,hlo,heq⟩;rw[List.drop_length]at heq;refine⟨_,rfl,k _ _ sm hq ⟨q,ys,rfl,hys,?_⟩⟩;show Its (Fra K) H2 (inOrder (cQ cs) e) ys;rw[heq];show Its (Fra K) H2 (out++[]) ys;rw[List.append_nil];exact iys
abbrev Lh:Stmt:=top 40
theorem T1:FnScope ["rule","amount","claims","weights"] ["rule","amount","claims","weights"] (defScope Lh):=fS
inductive spRuleE(K:PySem.W.Frag)(R:Nat->Vbirad.Q->List Nat->List Nat->V->Hp->Prop)(ok:Nat->Prop)(vs:List V)(H:Hp)(Q:VK)(_e3:XK):Prop|m:∀(r:Nat) (e:Vbirad.Q) (cs ws:List Nat) (D W:Nat) (u v x:V),vs= [.int (r:Int),u,v,x]->Fra K e u H->Lst K IsN cs v H->Lst K IsN ws x H->ok r->AO1 D W e->COk cs->WOk cs ws->RetN H (R r e cs ws) Q->spRuleE K R ok vs H Q _e3
theorem V4(r:Nat)(e:Q)(ws:List Nat):shareBy r [] ws e= []:=by
 have h1:∀e,evenly [] ws e= []:=fun _=>rfl;have h2:losses [] ws e= []:=rfl;have h3:halves [] ws e= []:=by
  unfold halves;dsimp only;split<;>rfl
 unfold shareBy;rw[h1,h2,h3]
 repeat' split
 all_goals rfl
theorem Tl(F:FunN K mg "shares_by" Lh)(T:Blt mg)(C:Cst mg)(u6:Df P w K mg base 4 "by_parts" ["amount","claims"] (spParts K))(uV:Df P w K mg base 4 "by_chance" ["amount","claims"] (spAmt K fun e cs=>Own (Fra K) (byChance (cQ cs) e)))
  (u0:Df P w K mg base 4 "by_order" ["amount","claims"] (spAmt K fun e cs=>Own (Fra K) (inOrder (cQ cs) e))) (uZ:Df P w K mg base 8 "by_level" ["rule","amount","claims","weights"] (spRuleN K (fun r e cs ws=>Own (Fra K) (byLevQ r e cs ws)) fun _=>True)):
  Df P w K mg base 9 "shares_by" ["rule","amount","claims","weights"] (spRuleE K (fun r e cs ws=>Own (Fra K) (shareBy r (cQ cs) ws e)) fun r=>r<=5):=by
 refine Df.of F T1 (fun vs H Q E h=>?_) (fun f cdv A outer s H vs Q E hr h=>?_)
 ·obtain⟨r,e,cs,ws,D,W,u,v,x,rfl,_⟩ :=h;rfl
 ·obtain⟨r,e,cs,ws,D,W,u,v,x,rfl,fe,lc,lw,hr5,ha,hc,hw,k⟩ :=h;refine⟨_,Ac (A1 (At Cn (Ao An (by rfl) T.len PySem.boot_len (Aa (pv 2) Ab)) (Af) (nomark _))
    (Ad (Ah (Av (Ab))))
    (Aq))
   (Ac (A1 (At Cn (pv 0) (pgc C.PARTS) (nomark _))
    (Ad (Ah (pd u6 hr (Aa (pv 1) (Aa (pv 2) Ab)))))
    (Aq))
   (Ac (A1 (At Cn (pv 0) (pgc C.CHANCE) (nomark _))
    (Ad (Ah (pd uV hr (Aa (pv 1) (Aa (pv 2) Ab)))))
    (Aq))
   (Ac (A1 (At Cn (pv 0) (pgc C.ORDER) (nomark _))
    (Ad (Ah (pd u0 hr (Aa (pv 1) (Aa (pv 2) Ab)))))
    (Aq))
   (Ad (Ah (pd uZ hr (Aa (pv 0) (Aa (pv 1) (Aa (pv 2) (Aa (pv 3) Ab)))))))))),?_⟩
  obtain⟨pl,xl,rfl,hpl,il⟩ :=id lc;have ll:=il.len;refine⟨_,rfl,pl,_,rfl,.inl hpl,rfl,_,rfl,?_⟩;refine iteB (fun h0=>?_) (fun h0=>?_)
  ·rw[Br,decide_eq_true_eq]at h0;have hcs:cs= []:=v5 (by omega);subst hcs;refine⟨vW _,fun q hq=>k _ _ (Same.upd hq) hq ?_⟩;show Own (Fra K) (shareBy r [] ws e) _ _;rw[V4];exact⟨q,[],rfl,Ae,.nil⟩
  rw[Br,decide_eq_false_iff_not]at h0;have hn:cs≠[]:=by
   rintro rfl;exact h0 (by rw[<-ll];rfl)
  have k':RetN H (Own (Fra K) (shareBy r (cQ cs) ws e)) Q:=k;unfold shareBy at k';refine⟨_,rfl,rfl,_,rfl,?_⟩;refine iteB (fun h1=>?_) (fun h1=>?_)
  ·rw[Br,decide_eq_true_eq]at h1;rw[if_pos (by omega)]at k';exact⟨_,rfl,_,rfl,e,cs,u,_,1500,rfl,fe,lc,ha.sz,by decide,hc,k'⟩
  ·rw[Br,decide_eq_false_iff_not]at h1;rw[if_neg (by omega)]at k';refine⟨_,rfl,rfl,_,rfl,?_⟩;refine iteB (fun h2=>?_) (fun h2=>?_)
   ·rw[Br,decide_eq_true_eq]at h2;rw[if_neg (by omega),if_neg (by omega),if_neg (by omega),if_pos (by omega)]at k';exact⟨_,rfl,_,rfl,e,cs,D,W,u,_,rfl,fe,lc,ha,hc,k'⟩
   ·rw[Br,decide_eq_false_iff_not]at h2;refine⟨_,rfl,rfl,_,rfl,?_⟩;refine iteB (fun h3=>?_) (fun h3=>?_)
    ·rw[Br,decide_eq_true_eq]at h3;rw[if_neg (by omega),if_neg (by omega),if_neg (by omega),if_neg (by omega)]at k';exact⟨_,rfl,_,rfl,e,cs,D,W,u,_,rfl,fe,lc,ha,hc,k'⟩
    ·rw[Br,decide_eq_false_iff_not]at h3;refine⟨_,rfl,_,rfl,_,rfl,_,rfl,r,e,cs,ws,D,W,u,_,x,rfl,fe,lc,lw,trivial,ha,hc,hw,hn,?_⟩;have e1:byLevQ r e cs ws=shareBy r (cQ cs) ws e:=by
      unfold shareBy;rw[if_neg (by omega)];by_cases r1:r=1
      ·subst r1;rw[if_pos rfl];exact Oj e cs ws
      ·rw[if_neg r1];by_cases r2:r=2
       ·subst r2;rw[if_pos rfl];exact Kk e cs ws
       ·have r3:r=3:=by omega
        subst r3;rw[if_neg r2,if_pos rfl];exact Kj cs ws ha.bd.red.pos
     show RetN H (Own (Fra K) (byLevQ r e cs ws)) Q;rw[e1];exact k
end
structure FunM(K:PySem.W.Frag)(C:Addr)(x qual:Str)(st:Stmt):Prop where
 ex:∃f fd,Meth K C x f/\Fun K x qual st f fd
structure Mdf(P:Program)(w:World)(K:PySem.W.Frag)(mg:Str->Option Value)(base:Heap)(C:Addr)(k:Nat)(x:Str)(ps:List Str)(sp:Sp):Prop where
 ex:∃f fd,Meth K C x f/\Binds K fd ps []/\FnOk P w K mg base CX0 k f fd ps sp
structure FunI(K:PySem.W.Frag)(C:Addr)(qual:Str)(st:Stmt):Prop where
 ex:∃f fd,Mk K C f/\Fun K "__init__" qual st f fd
structure Idf(P:Program)(w:World)(K:PySem.W.Frag)(mg:Str->Option Value)(base:Heap)(C:Addr)(k:Nat)(ps:List Str)(sp:Sp):Prop where
 ex:∃f fd,Mk K C f/\Binds K fd ps []/\FnOk P w K mg base CX0 k f fd ps sp
section
variable {P:Program}{w:World}{K:PySem.W.Frag}{mg:Str->Option Value}{base:Heap}
theorem Mdf.of{C:Addr}{x qual:Str}{st:Stmt}{N ps:List Str}{k:Nat}{sp:Sp}(F:FunM K C x qual st)(S:FnScope N ps (defScope st))
  (len:∀vs H Q E,sp vs H Q E->vs.length=ps.length)
  (hbody:∀(f:Addr) (cdv:Value) (A:Around) (outer:List Env) (s:Shared) (H:Hp) (vs:List V) (Q:VK) (E:XK),Room k (A.deeper (envOfC qual (defScope st) s.heap.objs.size f cdv))->sp vs H Q E->
   ∃t,PSs (cxOf CX0 P w K mg base N qual (defScope st) f cdv A outer s H E).nox (defBody st) t/\t {nx:=fun _ H'=>Q .non H',rt:=Q} (L2.start N vs) H) (hb:∀(kV doc pm:Value) (an:Option Addr) (cdv ct:Value) (us:List Value),us.length=ps.length->bindArgs (PySem.W.fnOf x qual (defArgs st) (defBody st) (defScope st) .none kV doc pm an cdv ct) ⟨us,[]⟩ =pure (ps.zip us):=by first|exact fun _ _ _ _ _ _=>ln1 fun _=>rfl|exact fun _ _ _ _ _ _=>ln2 fun _ _=>rfl|exact fun _ _ _ _ _ _=>ln3 fun _ _ _=>rfl|exact fun _ _ _ _ _ _=>ln4 fun _ _ _ _=>rfl|exact fun _ _ _ _ _ _=>ln5 fun _ _ _ _ _=>rfl|exact fun _ _ _ _ _ _=>ln6 fun _ _ _ _ _ _=>rfl):Mdf P w K mg base C (k + 1) x ps sp:=by
 obtain⟨f,fd,hm,F⟩ :=F.ex;exact⟨f,fd,hm,F.binds hb,F.ok S len fun cdv A outer s H vs Q E hr h=>hbody f cdv A outer s H vs Q E hr h⟩
theorem Idf.of{C:Addr}{qual:Str}{st:Stmt}{N ps:List Str}{k:Nat}{sp:Sp}(F:FunI K C qual st)(S:FnScope N ps (defScope st))
  (len:∀vs H Q E,sp vs H Q E->vs.length=ps.length)
  (hbody:∀(f:Addr) (cdv:Value) (A:Around) (outer:List Env) (s:Shared) (H:Hp) (vs:List V) (Q:VK) (E:XK),Room k (A.deeper (envOfC qual (defScope st) s.heap.objs.size f cdv))->sp vs H Q E->
   ∃t,PSs (cxOf CX0 P w K mg base N qual (defScope st) f cdv A outer s H E).nox (defBody st) t/\t {nx:=fun _ H'=>Q .non H',rt:=Q} (L2.start N vs) H) (hb:∀(kV doc pm:Value) (an:Option Addr) (cdv ct:Value) (us:List Value),us.length=ps.length->bindArgs (PySem.W.fnOf "__init__" qual (defArgs st) (defBody st) (defScope st) .none kV doc pm an cdv ct) ⟨us,[]⟩ =pure (ps.zip us):=by first|exact fun _ _ _ _ _ _=>ln1 fun _=>rfl|exact fun _ _ _ _ _ _=>ln2 fun _ _=>rfl|exact fun _ _ _ _ _ _=>ln3 fun _ _ _=>rfl|exact fun _ _ _ _ _ _=>ln4 fun _ _ _ _=>rfl|exact fun _ _ _ _ _ _=>ln5 fun _ _ _ _ _=>rfl|exact fun _ _ _ _ _ _=>ln6 fun _ _ _ _ _ _=>rfl):Idf P w K mg base C (k + 1) ps sp:=by
 obtain⟨f,fd,hm,F⟩ :=F.ex;exact⟨f,fd,hm,F.binds hb,F.ok S len fun cdv A outer s H vs Q E hr h=>hbody f cdv A outer s H vs Q E hr h⟩
end
section
variable {X:Cx}{k:Nat}{C:Addr}{x:Str}{ps:List Str}{sp:Sp}{e o:Expr}{es:List Expr}{t:TA}{ta:TE}{p pos apos:Pos}
theorem pm0{j:Nat}{pl:Sem Bool}(D:Mdf X.prog X.w X.K X.mg X.base C k x ps sp)(he:PE X o ta)(c:Cls X.K C)(hr:Room j X.A)(hj:k<=j:=by decide)
  (ht:eval (.Call (.Attribute o x apos) [] [] pos) X.env=(do
   let ov<-eval o X.env
   standAt apos.atName
   let(f,first)<-holding [ov] (getMethod ov x pl)
   callWith pos f first (backTo pos (starEach [] X.env)) (backToKw pos (keywordEach [] X.env))):=by rfl):PE X (.Call (.Attribute o x apos) [] [] pos) (tMeth C x sp [] E0 ta tNil):=by
 obtain⟨f,fd,a,b,d⟩ :=D.ex;exact cK (pl:=pl) he c a d (hr.mono hj) b .nil pass0 ht
theorem pm1{j:Nat}{pl:Sem Bool}(D:Mdf X.prog X.w X.K X.mg X.base C k x ps sp)(he:PE X o ta)(c:Cls X.K C)(hr:Room j X.A)(ha:PA X (e::es) t)(hj:k<=j:=by decide)
  (hst:starEach (e::es) X.env=(false,eval e X.env)::starEach es X.env:=by rfl) (hpl:(backTo pos (starEach es X.env)).any (·.1)=false:=by rfl)
  (ht:eval (.Call (.Attribute o x apos) (e::es) [] pos) X.env=(do
   let ov<-eval o X.env
   standAt apos.atName
   let(f,first)<-holding [ov] (getMethod ov x pl)
   callWith pos f first (backTo pos (starEach (e::es) X.env)) (backToKw pos (keywordEach [] X.env))):=by rfl):PE X (.Call (.Attribute o x apos) (e::es) [] pos) (tMeth C x sp [] E0 ta t):=by
 obtain⟨f,fd,a,b,d⟩ :=D.ex;exact fH (pl:=pl) he c a d (hr.mono hj) b .nil pass0 ha hst hpl ht
theorem pmk{j:Nat}(D:Idf X.prog X.w X.K X.mg X.base C k ps sp)(hm:X.mg x=some (.ref C))(hr:Room j X.A)(ha:PA X (e::es) t)(hj:k + 1<=j:=by decide)(hg:Gl X x:=by rfl)(hdb:(x == ("__debug__":Str))=false:=by decide)
  (he:starEach (e::es) X.env=(false,eval e X.env)::starEach es X.env:=by rfl) (hpl:(backTo pos (starEach es X.env)).any (·.1)=false:=by rfl):PE X (.Call (.Name x p) (e::es) [] pos) (tMake C sp [] E0 t):=by
 obtain⟨f,fd,a,b,d⟩ :=D.ex;exact fG a d (hr.mono hj) hg hm b .nil pass0 ha hdb he hpl
theorem pmk0{j:Nat}(D:Idf X.prog X.w X.K X.mg X.base C k ps sp)(hm:X.mg x=some (.ref C))(hr:Room j X.A)(hj:k + 1<=j:=by decide)(hg:Gl X x:=by rfl)(hdb:(x == ("__debug__":Str))=false:=by decide):PE X (.Call (.Name x p) [] [] pos) (tMake C sp [] E0 tNil):=by
 obtain⟨f,fd,a,b,d⟩ :=D.ex;exact cJ a d (hr.mono hj) hg hm b .nil pass0 hdb
end
def pf(n w c r m:V):List (Str×V):=[("name",n),("weight",w),("claim",c),("rule",r),("members",m)]
theorem K0{n w c r m:V}:(pf n w c r m).lookup ("name":Str)=some n:=by rfl
theorem Fy{n w c r m:V}:(pf n w c r m).lookup ("weight":Str)=some w:=by rfl
theorem Px{n w c r m:V}:(pf n w c r m).lookup ("claim":Str)=some c:=by rfl
theorem Ji{n w c r m:V}:(pf n w c r m).lookup ("rule":Str)=some r:=by rfl
theorem Bj{n w c r m:V}:(pf n w c r m).lookup ("members":Str)=some m:=by rfl
theorem Ru{n w c r m:V}:(pf n w c r m).lookup ("is_group":Str)=none:=by rfl
theorem fI{n w c r m:V}:putF "members" m (putF "rule" r (putF "claim" c (putF "weight" w (putF "name" n []))))=pf n w c r m:=by rfl
structure Pty(K:PySem.W.Frag)(mg:Str->Option Value)(C:Addr):Prop where
 cl:Cls K C
 nName:NoAttr K C "name"
 nWeight:NoAttr K C "weight"
 nClaim:NoAttr K C "claim"
 nRule:NoAttr K C "rule"
 nMembers:NoAttr K C "members"
 mgC:mg "Party"=some (.ref C)
abbrev mV(p:Party):List V:=(mem p).map fun(m:Nat)=>V.int (m:Int)
structure PartyAt(C:Addr)(p:Party)(a:Addr)(H:Hp):Prop where
 ex:∃(dx pm:Addr) (nm:Str),H a=some (.ins C dx (pf (.str nm) (.int (p.weight:Int)) (.int ((own p:Nat):Int)) (.int ((rul p:Nat):Int)) (.ref pm)))/\nm.cps.toList=p.name/\H pm=some (.lst (mV p))
structure PartyAtM(C:Addr)(p:Party)(a pm:Addr)(H:Hp):Prop where
 ex:∃(dx:Addr) (nm:Str),H a=some (.ins C dx (pf (.str nm) (.int (p.weight:Int)) (.int ((own p:Nat):Int)) (.int ((rul p:Nat):Int)) (.ref pm)))/\nm.cps.toList=p.name/\H pm=some (.lst (mV p))
inductive PtR(C:Addr)(p:Party)(v:V)(H:Hp):Prop|m:∀a,v=.ref a->PartyAt C p a H->PtR C p v H
theorem Bv{C:Addr}:Stay (PtR C):=fun p v H H' s h=>by
 obtain⟨a,e,dx,pm,nm,h1,h2,h3⟩ :=h;exact⟨a,e,dx,pm,nm,s _ _ h1,h2,s _ _ h3⟩
theorem Gg{p:Party}{H:Hp}:Its IsN H (mem p) (mV p):=by
 unfold mV;generalize mem p=l
 induction l with
 |nil=>exact .nil
 |cons a l ih=>exact .cons rfl ih
section
variable {P:Program}{w:World}{K:PySem.W.Frag}{mg:Str->Option Value}{base:Heap}
inductive spInit(C:Addr)(vs:List V)(H:Hp)(Q:VK)(_e3:XK):Prop|m:∀(x dx:Addr) (n wt c r m:V),vs= [.ref x,n,wt,c,r,m]->H x=some (.ins C dx [])->(∀H':Hp,H' x=some (.ins C dx (pf n wt c r m))->(∀b o,H b=some o->b≠x->H' b=some o)->Q .non H')->spInit C vs H Q _e3
abbrev Fj:Stmt:=inClass (top 42) 0
theorem K5:FnScope ["self","name","weight","claim","rule","members"] ["self","name","weight","claim","rule","members"] (defScope Fj):=fS
theorem Qs{C:Addr}(F:FunI K C "Party.__init__" Fj)(T:Pty K mg C):Idf P w K mg base C 1 ["self","name","weight","claim","rule","members"] (spInit C):=by
 refine Idf.of F K5 (fun vs H Q E h=>?_) (fun f cdv A outer s H vs Q E hr h=>?_)
 ·obtain⟨x,dx,n,wt,c,r,m,rfl,_⟩ :=h;rfl
 ·obtain⟨x,dx,n,wt,c,r,m,rfl,h0,k⟩ :=h;refine⟨_,Ac (En (pv 0) (pv 1) rfl)
   (Ac (En (pv 0) (pv 2) rfl)
   (Ac (En (pv 0) (pv 3) rfl)
   (Ac (En (pv 0) (pv 4) rfl)
   (Ad (En (pv 0) (pv 5) rfl))))),?_⟩
  refine⟨_,rfl,_,rfl,x,C,dx,_,rfl,h0,T.cl,T.nName,(by show 0 < 1000;decide),?_⟩;refine⟨_,rfl,_,rfl,x,C,dx,_,rfl,Ae,T.cl,T.nWeight,(by show 1 < 1000;decide),?_⟩;refine⟨_,rfl,_,rfl,x,C,dx,_,rfl,Ae,T.cl,T.nClaim,(by show 2 < 1000;decide),?_⟩;refine⟨_,rfl,_,rfl,x,C,dx,_,rfl,Ae,T.cl,T.nRule,(by show 3 < 1000;decide),?_⟩;refine⟨_,rfl,_,rfl,x,C,dx,_,rfl,Ae,T.cl,T.nMembers,(by show 4 < 1000;decide),?_⟩;refine k _ ?_ fun b o e hb=>?_
  ·rw[Ae,fI]
  ·rw[Ak hb,Ak hb,Ak hb,Ak hb,Ak hb];exact e
inductive spIsGroup(C:Addr)(vs:List V)(H:Hp)(Q:VK)(_e3:XK):Prop|m:∀(p:Party) (v:V),vs= [v]->PtR C p v H->Ret H (IsB (decide (0 < (mem p).length))) Q->spIsGroup C vs H Q _e3
abbrev Fk:Stmt:=inClass (top 42) 1
theorem K6:FnScope ["self"] ["self"] (defScope Fk):=fS
theorem U9{C:Addr}(F:FunM K C "is_group" "Party.is_group" Fk)(T:Blt mg)(Y:Pty K mg C):Mdf P w K mg base C 1 "is_group" ["self"] (spIsGroup C):=by
 refine Mdf.of F K6 (fun vs H Q E h=>?_) (fun f cdv A outer s H vs Q E hr h=>?_)
 ·obtain⟨p,v,rfl,_⟩ :=h;rfl
 ·obtain⟨p,_,rfl,⟨a,rfl,dx,pm,nm,h1,h2,h3⟩,k⟩ :=h;refine⟨_,Ad (Ah (D9 Po (Ao An (by rfl) T.len PySem.boot_len (Aa (Ap (pv 0) rfl) Ab)) (Af) (nomark _))),?_⟩;refine⟨_,rfl,a,C,dx,_,_,rfl,h1,Y.cl,Y.nMembers,Bj,pm,_,rfl,.inl (SqL.of h3),_,_,rfl,rfl,k _ _ (Same.refl _) ?_⟩;show V.bl _=V.bl _;rw[List.length_map];congr 1;rw[Bool.eq_iff_iff];simp only [decide_eq_true_eq];omega
inductive spPerson(C:Addr)(vs:List V)(H:Hp)(Q:VK)(_e3:XK):Prop|m:∀(nm:Str) (wt c:Nat),vs= [.str nm,.int (wt:Int),.int (c:Int)]->(∀(a pm:Addr) (H':Hp),Same H H'->H a=none->H pm=none->PartyAtM C {name:=nm.cps.toList,weight:=wt,kind:=.person c} a pm H'->Q (.ref a) H')->spPerson C vs H Q _e3
abbrev Ix:Stmt:=top 43
theorem P1:FnScope ["name","weight","claim"] ["name","weight","claim"] (defScope Ix):=fS
theorem Pi{C:Addr}(F:FunN K mg "make_person" Ix)(Y:Pty K mg C)(yF:Idf P w K mg base C 1 ["self","name","weight","claim","rule","members"] (spInit C)):Df P w K mg base 3 "make_person" ["name","weight","claim"] (spPerson C):=by
 refine Df.of F P1 (fun vs H Q E h=>?_) (fun f cdv A outer s H vs Q E hr h=>?_)
 ·obtain⟨nm,wt,c,rfl,_⟩ :=h;rfl
 ·obtain⟨nm,wt,c,rfl,k⟩ :=h;refine⟨_,Ad (Ah (pmk yF Y.mgC hr (Aa (pv 0) (Aa (pv 1) (Aa (pv 2) (Aa (Af) (Aa (Av (Ab)) Ab))))))),?_⟩;refine⟨_,rfl,_,rfl,_,rfl,vW _,fun pm hpm=>?_⟩;intro x dx nx ndx nex;refine⟨x,dx,_,_,_,_,_,rfl,Ae,fun H' hx hk=> ⟨rfl,?_⟩⟩;have hx0:H x=none:=Same.free (Same.upd (o:=.lst []) hpm) nx;have s1:Same H H':=fun b o e=>by
   refine Same.made nx ndx hk b o ?_;rw[Ak (Al e hpm)];exact e
  refine k x pm H' s1 hx0 hpm ⟨dx,nm,hx,rfl,?_⟩;exact Same.made nx ndx hk pm _ Ae
inductive spGroup(C:Addr)(vs:List V)(H:Hp)(Q:VK)(_e3:XK):Prop|m:∀(nm:Str) (wt r:Nat) (ms:List Nat) (pm:Addr),vs= [.str nm,.int (wt:Int),.int (r:Int),.ref pm]->H pm=some (.lst (ms.map fun(m:Nat)=>V.int (m:Int)))->(∀(a:Addr) (H':Hp),Same H H'->H a=none->PartyAt C {name:=nm.cps.toList,weight:=wt,kind:=.group r ms} a H'->Q (.ref a) H')->spGroup C vs H Q _e3
abbrev Jw:Stmt:=top 44
theorem Q8:FnScope ["name","weight","rule","members"] ["name","weight","rule","members"] (defScope Jw):=fS
theorem Qz{C:Addr}(F:FunN K mg "make_group" Jw)(Y:Pty K mg C)(yF:Idf P w K mg base C 1 ["self","name","weight","claim","rule","members"] (spInit C)):Df P w K mg base 3 "make_group" ["name","weight","rule","members"] (spGroup C):=by
 refine Df.of F Q8 (fun vs H Q E h=>?_) (fun f cdv A outer s H vs Q E hr h=>?_)
 ·obtain⟨nm,wt,r,ms,pm,rfl,_⟩ :=h;rfl
 ·obtain⟨nm,wt,r,ms,pm,rfl,hpm,k⟩ :=h;refine⟨_,Ad (Ah (pmk yF Y.mgC hr (Aa (pv 0) (Aa (pv 1) (Aa (Af) (Aa (pv 2) (Aa (pv 3) Ab))))))),?_⟩;refine⟨_,rfl,_,rfl,_,rfl,_,rfl,?_⟩;intro x dx nx ndx nex;refine⟨x,dx,_,_,_,_,_,rfl,Ae,fun H' hx hk=> ⟨rfl,?_⟩⟩;have s1:Same H H':=Same.made nx ndx hk;exact k x H' s1 nx ⟨dx,pm,nm,hx,rfl,s1 _ _ hpm⟩
def claimL(ps:List Party):List Nat:=(List.range ps.length).map (Vbirad.claim ps)
theorem Bs{ps:List Party}{i:Nat}(h:i < ps.length):(claimL ps)[i]? =some (Vbirad.claim ps i):=by
 unfold claimL;simp[h]
inductive spClaims(K:PySem.W.Frag)(C:Addr)(vs:List V)(H:Hp)(Q:VK)(_e3:XK):Prop|m:∀(ps:List Party) (v:V),vs= [v]->Lst K (PtR C) ps v H->PWf ps->Ret H (Own IsN (claimL ps)) Q->spClaims K C vs H Q _e3
abbrev Js:Stmt:=top 46
theorem C5:FnScope ["parties","claims","party","member"] ["parties"] (defScope Js):=fS
theorem atN{xs:List V}{i:Nat}{v:V}(h:xs[i]? =some v):atI xs (i:Int)=some v:=A4 h
theorem Qt{C:Addr}(F:FunN K mg "all_claims" Js)(T:Blt mg)(Y:Pty K mg C)(wF:Mdf P w K mg base C 1 "is_group" ["self"] (spIsGroup C)):Df P w K mg base 2 "all_claims" ["parties"] (spClaims K C):=by
 refine Df.of F C5 (fun vs H Q E h=>?_) (fun f cdv A outer s H vs Q E hr h=>?_)
 ·obtain⟨ps,v,rfl,_⟩ :=h;rfl
 ·obtain⟨ps,_,rfl,⟨p,xs,rfl,hl,hi⟩,wf,k⟩ :=h;refine⟨_,Ac (Aj (i:=1) C5.nd rfl (Or.inr rfl) (Av (Ab)))
   (Ac (Ch PassesOwn.never rfl (A0 (pv 0)) (Am (i:=2) C5.nd rfl (Or.inl rfl))
    (Ad (A1 (Bk (pm0 wF (pv 2) Y.cl hr))
     (Ad (Cg (Eh PySem.F.plainAttrs_list PySem.F.slot_list_append PySem.F.type_list_append Dc (pv 1) (Aa (Ao (Lr rfl) (by rfl) T.sum boot_sum (Aa (Co (own:=[("member",3)]) rfl C5.nd (A0 (Ap (pv 2) rfl)) (Ax (by rfl)) (fun _ _ _ _ _=>Am (i:=3) C5.nd rfl (Or.inl rfl)) (fun _ _ _ _ _=>A6) (fun _ _ _ _ _=>Ai (Ci (K:=K) rfl) (pv 1) (pv 3))) Ab)) Ab))))
     (Ad (Cg (Eh PySem.F.plainAttrs_list PySem.F.slot_list_append PySem.F.type_list_append Dc (pv 1) (Aa (Ap (pv 2) rfl) Ab)))))))
   (Ad (Ah (pv 1)))),?_⟩
  refine⟨vW _,fun q hq=>?_⟩;have s1:Same H (upd H q (.lst [])):=Same.upd hq;have h30:=wf.len;refine⟨_,rfl,p,rfl,⟨xs,s1.seq hl⟩,Bi (B:=Same H) (as:=ps) (R:=PtR C) (As (xs:=xs) fun H' sm=> ⟨sm.seq hl,hi.keep fun a v r=>Bv _ _ _ _ sm r⟩)
   (fun i σ H'=>Same H H'/\i<=ps.length/\∃(a:Option V) (ys:List V),σ= [some (.ref p),some (.ref q),a,none]/\H' q=some (.lst ys)/\Its IsN H' ((claimL ps).take i) ys) ⟨s1,vW _,none,[],rfl,Ae,.nil⟩ (fun i σ H' h=>h.1) ?_ ?_⟩
  ·rintro i pt x σ H2 H3 hpt ⟨sm,hik,a1,ys,rfl,hys,iys⟩ s3 ⟨a,rfl,pa⟩;have hilt:i < ps.length:=(List.getElem?_eq_some_iff.mp hpt).1;have ly:=iys.len;have lcl:(claimL ps).length=ps.length:=by unfold claimL;simp
   rw[vU,lcl]at ly;obtain⟨dx,pm,nm,h1,h2,h3⟩ :=pa.ex;have hcl:(claimL ps).take (i + 1)=(claimL ps).take i++[Vbirad.claim ps i]:=Bm (Bs hilt);have hend:∀(H5:Hp),Same H3 H5->(Same H (upd H5 q (.lst (ys++[.int ((Vbirad.claim ps i:Nat):Int)])))/\i + 1<=ps.length/\∃(b:Option V) (zs:List V),[some (V.ref p),some (V.ref q),some (V.ref a),none]= [some (.ref p),some (.ref q),b,none]/\
     (upd H5 q (.lst (ys++[.int ((Vbirad.claim ps i:Nat):Int)]))) q=some (.lst zs)/\Its IsN (upd H5 q (.lst (ys++[.int ((Vbirad.claim ps i:Nat):Int)]))) ((claimL ps).take (i + 1)) zs):=fun H5 s5=>by
    refine⟨fun b o eo=>?_,by omega,_,_,rfl,Ae,?_⟩
    ·rw[Ak (Al eo hq)];exact((sm.trans s3).trans s5) b o eo
    ·rw[hcl];exact Its.app (iys.keep fun _ _ r=>r) (.cons rfl .nil)
   have ceq:=Dh wf hpt;refine⟨_,rfl,a,dx,_,rfl,h1,Ru,pt,.ref a,rfl,⟨a,rfl,dx,pm,nm,h1,h2,h3⟩,?_⟩;rintro _ H4 s4 rfl;refine⟨_,rfl,?_⟩;have hys4:=s4 _ _ (s3 _ _ hys);have h1':=s4 _ _ h1;have h3':=s4 _ _ h3;refine iteB (fun hb=>?_) (fun hb=>?_)
   ·
    have hg:own pt=0:=by
     have hb:0 < (mem pt).length:=of_decide_eq_true hb;unfold mem at hb;unfold own;cases hk:pt.kind with
     |person c=>rw[hk]at hb;simp at hb
     |group r ms=>rfl
    rw[hg,Nat.zero_add]at ceq;have hlow:=wf.low i pt hpt;have hfew:=wf.few pt (vD hpt);have WS:Seqs (Itl K pm) (Same H4) (mem pt) IsN:=As (xs:=mV pt) fun H' sm=> ⟨sm.seq (SqL.of h3'),Gg⟩;refine⟨_,rfl,.inl ⟨rfl,_,SqL.of hys4⟩,?_⟩;refine⟨_,rfl,a,C,dx,_,_,rfl,h1',Y.cl,Y.nMembers,Bj,pm,rfl,⟨_,SqL.of h3'⟩,Bx (as:=mem pt) (R:=IsN) (S:=IsN) (Vbirad.claim ps) Bp WS (line9 (by omega)) (fun m x H' Qe hm sm' rx kk=>?_) (fun _ _ _ _ h q=>A2 h q) (fun D zs H5 s5 hD o=>?_)⟩
    ·obtain rfl:x=V.int (m:Int):=rx;have hm':=hlow m hm;have hget:((claimL ps).take i)[m]? =some (Vbirad.claim ps m):=by rw[List.getElem?_take,if_pos hm'];exact Bs (by omega)
     obtain⟨y,hy,ry⟩ :=iys.get hget;obtain rfl:y=V.int ((Vbirad.claim ps m:Nat):Int):=ry;exact⟨rfl,_,rfl,_,rfl,q,ys,_,_,rfl,rfl,sm'.seq (SqL.of hys4),atN hy,kk _ _ (Same.refl _) rfl⟩
    ·have ez:=Mp o;subst ez;refine⟨D,_,rfl,SqL.of hD,?_⟩;rw[El,<-ceq];exact⟨q,ys,_,rfl,rfl,s5 _ _ hys4,small1000 (by omega),hend H5 (s4.trans s5)⟩
   ·
    have hg:mem pt= []:=by
     have hb:=vH hb;exact v5 (by omega)
    rw[hg]at ceq;simp only [List.map_nil,List.sum_nil,Nat.add_zero]at ceq;refine⟨_,rfl,.inl ⟨rfl,_,SqL.of hys4⟩,_,rfl,a,C,dx,_,_,rfl,h1',Y.cl,Y.nClaim,Px,q,ys,_,rfl,rfl,hys4,small1000 (by omega),?_⟩;rw[<-ceq];exact hend H4 s4
  ·rintro σ H2 ⟨sm,_,a1,ys,rfl,hys,iys⟩;have lcl:(claimL ps).length=ps.length:=by unfold claimL;simp
   rw[<-lcl,v6]at iys;exact⟨_,rfl,k _ _ sm ⟨q,ys,rfl,hys,iys⟩⟩
end
theorem Sy{n k:Nat}(h:k < n):ixN n (k:Int)=some k:=by
 unfold ixN;rw[if_pos (by omega),if_pos (by omega),Int.toNat_natCast]
theorem V0{lo c:Int}{n:Nat}{B:Hp->Prop}:Seqs (Itc lo c n) B (List.range n) (fun i v _=>v=.int (lo + (i:Int) * c)):=fun H b=>by
 refine⟨fun i hi=>by show i < n;simpa using hi,by show n<=_;simp,?_⟩;rintro i v H' hi ⟨rfl,rfl⟩;exact⟨Same.refl _,i,by simp at hi;simp[hi],rfl⟩
theorem Vm{n i a:Nat}(h:(List.range n)[i]? =some a):i < n/\i=a:=by
 obtain⟨h1,h2⟩ :=List.getElem?_eq_some_iff.mp h;simp at h1 h2;exact⟨h1,h2⟩
def clm(ps:List Party)(p:Party):List Nat:=(mem p).map (Vbirad.claim ps)
def wts(ps:List Party)(p:Party):List Nat:=weightsIn ps (mem p)
theorem Ef(ps:List Party)(l:List Nat):claimsIn ps l=cQ (l.map (Vbirad.claim ps)):=by
 unfold claimsIn cQ;rw[List.map_map];rfl
theorem E2{ps:List Party}(wf:PWf ps){i:Nat}{p:Party}(hp:ps[i]? =some p):∀m∈mem p,m < ps.length:=fun m hm=>by
 have:=wf.low i p hp m hm;have:=(vF hp).1;omega
theorem cok{ps:List Party}(wf:PWf ps){i:Nat}{p:Party}(hp:ps[i]? =some p):COk (clm ps p):=by
 refine⟨?_,fun c hc=>?_⟩
 ·unfold clm;rw[List.length_map];have:=wf.few p (List.mem_of_getElem? hp);omega
 ·obtain⟨m,_,rfl⟩ :=vL hc;have:=Ee wf m;exact vA this (by decide)
theorem wok{ps:List Party}(wf:PWf ps){i:Nat}{p:Party}(hp:ps[i]? =some p):WOk (clm ps p) (wts ps p):=by
 refine⟨?_,fun w hw=>?_⟩
 ·unfold clm wts weightsIn;rw[List.length_map,List.length_map]
 ·obtain⟨m,hm,rfl⟩ :=vL hw;have hm:=E2 wf hp m hm;rw[vC hm];have:=wf.wt _ (List.getElem_mem hm);exact⟨by show 0 < _;exact this.1,this.2⟩
theorem fY{ps:List Party}(wf:PWf ps){i:Nat}{p:Party}(hp:ps[i]? =some p):Cm (clm ps p) (wts ps p):=by
 have a:=cok wf hp;have b:=wok wf hp;refine⟨a.len,a.each,?_,b.len,b.each⟩;have h1:=Dh wf hp;have h2:=Ee wf i;unfold clm;have:(2:Nat)^25=33554432:=by decide
 omega
theorem ShB.ao{k:Nat}{q:Q}(h:ShB k q)(hk:k<=30):∃D W,AO1 D W q:=by
 obtain⟨D,V,b,d0,d1,v1⟩ :=h.ex;exact⟨D,V,b,d0,vA d1 (vN (by decide) (by omega)),vA v1 (vN (by decide) (by omega))⟩
theorem ShB.sz{k:Nat}{q:Q}(h:ShB k q)(hk:k<=30):Sz 750 q:=by
 obtain⟨D,V,b,d0,d1,v1⟩ :=h.ex;exact b.sz d0 (vA d1 (vN (by decide) (by omega))) (vA v1 (vN (by decide) (by omega)))
def startS(ps:List Party)(e:Nat):List Q:=((List.range ps.length).map fun _=>Vbirad.whole 0).set (ps.length - 1) (Vbirad.whole ((min e (Vbirad.claim ps (ps.length - 1)):Nat):Int))
theorem Jm(ps:List Party)(e:Nat):Vbirad.shares ps e=shareFrom ps ps.length (startS ps e):=rfl
def turnS(ps:List Party)(i:Nat)(p:Party)(l:List Q):List Q:=((mem p).zip (shareBy (rul p) (cQ (clm ps p)) (wts ps p) (l.getD i (Vbirad.whole 0)))).foldl (fun(a:List Q) (x:Nat×Q)=>a.set x.1 x.2) l
theorem Cu{ps:List Party}{i:Nat}{p:Party}(hp:ps[i]? =some p)(l:List Q):shareFrom ps (i + 1) l=shareFrom ps i (turnS ps i p l):=by
 show(match (partyAt ps i).kind with
  |.person _=>shareFrom ps i l
  |.group r ms=>shareFrom ps i ((ms.zip (shareBy r (claimsIn ps ms) (weightsIn ps ms) (l.getD i (Vbirad.whole 0)))).foldl (fun(a:List Q) (x:Nat×Q)=>a.set x.1 x.2) l))=_
 have e:partyAt ps i=p:=by
  unfold partyAt;rw[List.getD_eq_getElem?_getD,hp];rfl
 rw[e];unfold turnS clm wts mem rul;cases hk:p.kind with
 |person c=>rfl
 |group r ms=>
  dsimp only;rw[Ef]
theorem Di:∀(z:List (Nat×Q)) (l:List Q),(z.foldl (fun(a:List Q) (x:Nat×Q)=>a.set x.1 x.2) l).length=l.length
 | [],l=>rfl
 |x::z,l=>by rw[List.foldl_cons,Di z,List.length_set]
theorem Mm{n:Nat}:∀(z:List (Nat×Q)) (l:List Q),(∀(j:Nat) q,l[j]? =some q->ShB (n - 1 - j) q)->(∀x∈z,ShB (n - 1 - x.1) x.2)->∀(j:Nat) q,(z.foldl (fun(a:List Q) (x:Nat×Q)=>a.set x.1 x.2) l)[j]? =some q->ShB (n - 1 - j) q
 | [],l,h,_=>h
 |x::z,l,h,hz=>by
  rw[List.foldl_cons];refine Mm z _ (fun j q hq=>?_) (fun y hy=>hz y (by simp[hy]));rw[List.getElem?_set]at hq;split at hq
  ·rename_i e
   subst e;split at hq
   ·have:x.2=q:=Option.some.inj hq;rw[<-this];exact hz x (by simp)
   ·cases hq
  ·exact h j q hq
theorem Y3{ps:List Party}(wf:PWf ps){i:Nat}{p:Party}(hp:ps[i]? =some p){l:List Q}(hl:l.length=ps.length)(h:∀(j:Nat) q,l[j]? =some q->ShB (ps.length - 1 - j) q):∀(j:Nat) q,(turnS ps i p l)[j]? =some q->ShB (ps.length - 1 - j) q:=by
 have hi:=(vF hp).1;refine Mm _ _ h fun x hx=>?_;obtain⟨h1,h2⟩ :=List.of_mem_zip (a:=x.1) (b:=x.2) hx;have hlow:=wf.low i p hp x.1 h1;have hg:ShB (ps.length - 1 - i) (l.getD i (Vbirad.whole 0)):=by
  rw[vS,vC (by omega)];exact h i _ (vC (by omega))
 exact(P4 hg (fY wf hp) x.2 h2).mono (by omega)
theorem P9{ps:List Party}(wf:PWf ps)(e:Nat):∀(j:Nat) q,(startS ps e)[j]? =some q->ShB (ps.length - 1 - j) q:=by
 intro j q hq;unfold startS at hq;rw[List.getElem?_set]at hq;split at hq
 ·split at hq
  ·have:Vbirad.whole _=q:=vE hq;rw[<-this];refine ShB.whole ?_;rw[vQ];have:=Ee wf (ps.length - 1);exact vA (Nat.min_le_right _ _) (vA this (by decide))
  ·cases hq
 ·rw[vR]at hq;obtain⟨i,_,rfl⟩ :=Option.map_eq_some_iff.mp hq;exact ShB.whole (by decide)
theorem Ss{ps:List Party}(wf:PWf ps):∀(i:Nat) (l:List Q),i<=ps.length->l.length=ps.length->(∀(j:Nat) q,l[j]? =some q->ShB (ps.length - 1 - j) q)->(shareFrom ps i l).length=ps.length/\∀(j:Nat) q,(shareFrom ps i l)[j]? =some q->ShB (ps.length - 1 - j) q
 |0,l,_,hl,h=> ⟨hl,h⟩
 |i + 1,l,hi,hl,h=>by
  obtain⟨p,hp⟩ :∃p,ps[i]? =some p:= ⟨_,List.getElem?_eq_getElem (by omega)⟩;rw[Cu hp];exact Ss wf i _ (by omega) (by unfold turnS;rw[Di];exact hl) (Y3 wf hp hl h)
theorem Mf{ps:List Party}(wf:PWf ps)(e:Nat):(Vbirad.shares ps e).length=ps.length/\∀(j:Nat) q,(Vbirad.shares ps e)[j]? =some q->ShB 30 q:=by
 rw[Jm];obtain⟨h1,h2⟩ :=Ss wf ps.length (startS ps e) (Nat.le_refl _) (by unfold startS;simp) (P9 wf e);have:=wf.len;exact⟨h1,fun j q hq=>(h2 j q hq).mono (by omega)⟩
section
variable {P:Program}{w:World}{K:PySem.W.Frag}{mg:Str->Option Value}{base:Heap}
inductive spMem(K:PySem.W.Frag)(C:Addr)(R:List Party->Party->List Nat)(vs:List V)(H:Hp)(Q:VK)(_e3:XK):Prop|m:∀(ps:List Party) (i:Nat) (pt:Party) (v:V),vs= [v,.int (i:Int)]->Lst K (PtR C) ps v H->PWf ps->ps[i]? =some pt->Ret H (Own IsN (R ps pt)) Q->spMem K C R vs H Q _e3
abbrev F3:Stmt:=top 47
theorem C1:FnScope ["parties","group","claims","member"] ["parties","group"] (defScope F3):=fS
theorem L6{C:Addr}(F:FunN K mg "member_claims" F3)(Y:Pty K mg C)(wB:Df P w K mg base 2 "all_claims" ["parties"] (spClaims K C)):Df P w K mg base 3 "member_claims" ["parties","group"] (spMem K C clm):=by
 refine Df.of F C1 (fun vs H Q E h=>?_) (fun f cdv A outer s H vs Q E hr h=>?_)
 ·obtain⟨ps,i,pt,v,rfl,_⟩ :=h;rfl
 ·obtain⟨ps,i,pt,v,rfl,lp,wf,hpt,k⟩ :=h;refine⟨_,Ac (Aj (i:=2) C1.nd rfl (Or.inr rfl) (pd wB hr (Aa (pv 0) Ab)))
   (Ad (Ah (Co (own:=[("member",3)]) rfl C1.nd (A0 (Ap (Ai Ag (pv 0) (pv 1)) rfl)) (Ax (by rfl)) (fun _ _ _ _ _=>Am (i:=3) C1.nd rfl (Or.inl rfl)) (fun _ _ _ _ _=>A6) (fun _ _ _ _ _=>Ai (Ci (K:=K) rfl) (pv 2) (pv 3))))),?_⟩
  refine⟨_,rfl,ps,v,rfl,lp,wf,?_⟩;rintro _ H1 s1 ⟨qc,ys,rfl,hqc,iys⟩;obtain⟨p,xs,rfl,hl,hi⟩ :=lp;obtain⟨x,hx,a,rfl,dx,pm,nm,h1,h2,h3⟩ :=hi.get hpt;have h1':=s1 _ _ h1;have h3':=s1 _ _ h3;have hfew:=wf.few pt (vD hpt);have WS:Seqs (Itl K pm) (Same H1) (mem pt) IsN:=As (xs:=mV pt) fun H' sm=> ⟨sm.seq (SqL.of h3'),Gg⟩;refine⟨_,rfl,_,rfl,p,xs,_,_,rfl,rfl,s1.seq hl,atN hx,a,C,dx,_,_,rfl,h1',Y.cl,Y.nMembers,Bj,pm,rfl,⟨_,SqL.of h3'⟩,Bx (as:=mem pt) (R:=IsN) (S:=IsN) (Vbirad.claim ps) Bp WS (line9 (by omega)) (fun m x H' Qe hm sm' rx kk=>?_) (fun _ _ _ _ h q=>A2 h q) (fun D zs H5 s5 hD o=>?_)⟩
  ·obtain rfl:x=V.int (m:Int):=rx;obtain⟨y,hy,ry⟩ :=iys.get (Bs (E2 wf hpt m hm));obtain rfl:y=V.int ((Vbirad.claim ps m:Nat):Int):=ry;exact⟨rfl,_,rfl,_,rfl,qc,ys,_,_,rfl,rfl,sm'.seq (SqL.of hqc),atN hy,kk _ _ (Same.refl _) rfl⟩
  ·exact k _ _ (s1.trans s5) ⟨D,zs,rfl,hD,o⟩
abbrev Fm:Stmt:=top 48
theorem Do:FnScope ["parties","group","member"] ["parties","group"] (defScope Fm):=fS
theorem Ks{C:Addr}(F:FunN K mg "member_weights" Fm)(Y:Pty K mg C):Df P w K mg base 1 "member_weights" ["parties","group"] (spMem K C wts):=by
 refine Df.of F Do (fun vs H Q E h=>?_) (fun f cdv A outer s H vs Q E hr h=>?_)
 ·obtain⟨ps,i,pt,v,rfl,_⟩ :=h;rfl
 ·obtain⟨ps,i,pt,v,rfl,lp,wf,hpt,k⟩ :=h;refine⟨_,Ad (Ah (Co (own:=[("member",2)]) rfl Do.nd (A0 (Ap (Ai Ag (pv 0) (pv 1)) rfl)) (Ax (by rfl)) (fun _ _ _ _ _=>Am (i:=2) Do.nd rfl (Or.inl rfl)) (fun _ _ _ _ _=>A6) (fun _ _ _ _ _=>Kx (K:=K) rfl (Ai (Ci (K:=K) rfl) (pv 0) (pv 2)) rfl))),?_⟩;obtain⟨p,xs,rfl,hl,hi⟩ :=lp;obtain⟨x,hx,a,rfl,dx,pm,nm,h1,h2,h3⟩ :=hi.get hpt;have hfew:=wf.few pt (vD hpt);have WS:Seqs (Itl K pm) (Same H) (mem pt) IsN:=As (xs:=mV pt) fun H' sm=> ⟨sm.seq (SqL.of h3),Gg⟩;refine⟨_,rfl,_,rfl,p,xs,_,_,rfl,rfl,hl,atN hx,a,C,dx,_,_,rfl,h1,Y.cl,Y.nMembers,Bj,pm,rfl,⟨_,SqL.of h3⟩,Bx (as:=mem pt) (R:=IsN) (S:=IsN) (fun i=>((ps[i]?).map fun p=>p.weight).getD 1) Bp WS (line9 (by omega)) (fun m x H' Qe hm sm' rx kk=>?_) (fun _ _ _ _ h q=>A2 h q) (fun D zs H5 s5 hD o=>?_)⟩
  ·obtain rfl:x=V.int (m:Int):=rx;obtain⟨pt2,hpt2⟩ :∃q,ps[m]? =some q:= ⟨_,vC (E2 wf hpt m hm)⟩;obtain⟨y,hy,a2,rfl,dx2,pm2,nm2,g1,g2,g3⟩ :=hi.get hpt2;refine⟨rfl,_,rfl,_,rfl,p,xs,_,_,rfl,rfl,sm'.seq hl,atN hy,a2,C,dx2,_,_,rfl,sm' _ _ g1,Y.cl,Y.nWeight,Fy,kk _ _ (Same.refl _) ?_⟩;rw[hpt2];rfl
  ·exact k _ _ s5 ⟨D,zs,rfl,hD,o⟩
inductive spShares(K:PySem.W.Frag)(C:Addr)(vs:List V)(H:Hp)(Q:VK)(_e3:XK):Prop|m:∀(ps:List Party) (e:Nat) (v:V),vs= [v,.int (e:Int)]->Lst K (PtR C) ps v H->PWf ps->ps≠[]->RetN H (Own (Fra K) (Vbirad.shares ps e)) Q->spShares K C vs H Q _e3
abbrev Jt:Stmt:=top 49
theorem A8:FnScope ["parties","water","claims","root","party","shares","number","member","wanted","given","share"] ["parties","water"] (defScope Jt):=fS
theorem N8{α:Type}{R:Rel α}{H:Hp}{a:α}{v:V}(r:R a v H):∀{as:List α} {xs:List V} (i:Nat),Its R H as xs->Its R H (as.set i a) (xs.set i v)
 |_,_,_,.nil=>.nil
 |_,_,0,.cons _ t=>.cons r t
 |_,_,i + 1,.cons q t=>.cons q (N8 r i t)
theorem Qu{C:Addr}(F:FunN K mg "all_shares" Jt)(T:Blt mg)(Y:Pty K mg C)(wB:Df P w K mg base 2 "all_claims" ["parties"] (spClaims K C))(wC:Df P w K mg base 1 "whole" ["number"] (spWhole K))
  (wF:Mdf P w K mg base C 1 "is_group" ["self"] (spIsGroup C)) (wJ:Df P w K mg base 9 "shares_by" ["rule","amount","claims","weights"] (spRuleE K (fun r e cs ws=>Own (Fra K) (shareBy r (cQ cs) ws e)) fun r=>r<=5))
  (wE:Df P w K mg base 1 "member_weights" ["parties","group"] (spMem K C wts)):Df P w K mg base 10 "all_shares" ["parties","water"] (spShares K C):=by
 refine Df.of F A8 (fun vs H Q E h=>?_) (fun f cdv A outer s H vs Q E hr h=>?_)
 ·obtain⟨ps,e,v,rfl,_⟩ :=h;rfl
 ·obtain⟨ps,e,v,rfl,lp,wf,hne,k⟩ :=h;refine⟨_,Ac (Aj (i:=2) A8.nd rfl (Or.inr rfl) (pd wB hr (Aa (pv 0) Ab)))
   (Ac (Aj (i:=3) A8.nd rfl (Or.inl rfl) (Az J8 (Ao An (by rfl) T.len PySem.boot_len (Aa (pv 0) Ab)) (Af)))
   (Ac (Cs (i:=5) (own:=[("party",4)]) rfl A8.nd rfl rfl (Du rfl rfl rfl (by rfl)) (A0 (pv 0)) (Ax (by rfl)) (fun _ _ _ _ _=>Am (i:=4) A8.nd rfl (Or.inl rfl)) (fun _ _ _ _ _=>A6) (fun _ _ _ _ _=>pd wC hr (Aa (Af) Ab)))
   (Ac (Xu (pd wC hr (Aa (Ao (Rj rfl) (by rfl) T.min boot_min (Aa (pv 1) (Aa (Ai Ag (pv 2) (pv 3)) Ab))) Ab)) (Xp (pv 5) (pv 3) P3))
   (Ac (Ch PassesOwn.never rfl (Zy rfl T.range (Aa (pv 3) (Aa (Ky Gu (Af)) (Aa (Ky Gu (Af)) Ab)))) (Am (i:=6) A8.nd rfl (Or.inl rfl))
    (Ac (Aj (i:=4) A8.nd rfl (Or.inl rfl) (Ai Ag (pv 0) (pv 6)))
    (Ad (A1 (Bk (pm0 wF (pv 4) Y.cl hr))
     (Ac (Cs (i:=8) (own:=[("member",7)]) rfl A8.nd rfl rfl (Du rfl rfl rfl (by rfl)) (A0 (Ap (pv 4) rfl)) (Ax (by rfl)) (fun _ _ _ _ _=>Am (i:=7) A8.nd rfl (Or.inl rfl)) (fun _ _ _ _ _=>A6) (fun _ _ _ _ _=>Ai (Ci (K:=K) rfl) (pv 2) (pv 7)))
     (Ac (Aj (i:=9) A8.nd rfl (Or.inl rfl) (pd wJ hr (Aa (Ap (pv 4) rfl) (Aa (Ai Ag (pv 5) (pv 6)) (Aa (pv 8) (Aa (pd wE hr (Aa (pv 0) (Aa (pv 6) Ab))) Ab))))))
     (Ad (Ch PassesOwn.never rfl (Tq rfl T.zip (Aa (Ap (pv 4) rfl) (Aa (pv 9) Ab))) (J9 rfl (A5 (Am (i:=7) A8.nd rfl (Or.inl rfl)) (A5 (Am (i:=10) A8.nd rfl (Or.inl rfl)) (C6))))
      (Ad (Xu (pv 10) (Xp (pv 5) (pv 7) P3)))))))
     (Aq)))))
   (Ad (Ah (pv 5))))))),?_⟩
  have n0:ps.length≠0:=fun z=>hne (v5 z);have n30:=wf.len;refine⟨_,rfl,ps,v,rfl,lp,wf,?_⟩;rintro _ H1 s1 ⟨qc,yc,rfl,hqc,iyc⟩;obtain⟨p,xs,rfl,hl,hi⟩ :=id lp;have lx:=hi.len;refine⟨_,rfl,p,_,rfl,.inl (s1.seq hl),_,_,rfl,rfl,?_⟩;have er:((xs.length:Int) - 1)=((ps.length - 1:Nat):Int):=by omega
  have WS:Seqs (Itl K p) (Same H1) ps (PtR C):=As fun H' sm=> ⟨(s1.trans sm).seq hl,hi.keep fun a v r=>Bv _ _ _ _ (s1.trans sm) r⟩;refine⟨_,rfl,p,rfl,⟨_,s1.seq hl⟩,Ge (as:=ps) (R:=PtR C) (S:=Fra K) (fun _=>Vbirad.whole 0) A7 WS (small1000 (by omega)) (fun m x H' Qe hm sm' rx kk=>?_) (fun _ _ _ _ h q=>A2 h q) (fun qs ys H2 qs1 s2 hqs o=>?_)⟩
  ·exact⟨rfl,_,rfl,kk⟩
  have lo:=o.len;rw[vB]at lo;have hroot:ps.length - 1 < ps.length:=by omega
  obtain⟨vc,hvc,rvc⟩ :=iyc.get (Bs hroot);obtain rfl:vc=V.int ((Vbirad.claim ps (ps.length - 1):Nat):Int):=rvc;refine⟨_,rfl,_,rfl,_,rfl,qc,yc,_,_,rfl,rfl,SqL.of (s2 _ _ hqc),(by show atI yc ((xs.length:Int) - 1)=_;rw[er];exact atN hvc),_,_,rfl,_,rfl,fun vw H3 s3 f3=>?_⟩;have emin:(if ((Vbirad.claim ps (ps.length - 1):Nat):Int) < (e:Int)then((Vbirad.claim ps (ps.length - 1):Nat):Int)else(e:Int))=((min e (Vbirad.claim ps (ps.length - 1)):Nat):Int):=by
   split<;>omega
  rw[emin]at f3;have hqs3:=s3 _ _ hqs;refine⟨_,rfl,_,rfl,qs,ys,_,ps.length - 1,rfl,rfl,hqs3,(by show ixN ys.length ((xs.length:Int) - 1)=_;rw[er];exact Sy (by omega)),?_⟩;have sH3:Same H H3:=(s1.trans s2).trans s3;have qsH:H qs=none:=Same.free s1 qs1;have ncs:qc≠qs:=Al hqc qs1;have i0:Its (Fra K) H3 (startS ps e) (ys.set (ps.length - 1) vw):=by
   unfold startS;refine N8 f3 _ ?_;have:(List.range ps.length).map (fun _=>Vbirad.whole 0)=ps.map fun _=>Vbirad.whole 0:=by
    refine List.ext_getElem (by simp) fun k h1 h2=>by simp
   rw[this];exact o.keep fun _ _ r=>Fra.keep r s3
  refine⟨_,rfl,_,rfl,_,rfl,((ps.length - 1:Nat):Int),-1,-1,ps.length,?_,?_,Bi (B:=fun _=>True) (as:=List.range ps.length) V0
   (fun t σ H'=>Same H H'/\t<=ps.length/\∃(a b c d f1 g:Option V) (zs:List V) (S:List Vbirad.Q),σ= [some (.ref p),some (.int (e:Int)),some (.ref qc),some (.int ((ps.length - 1:Nat):Int)),a,some (.ref qs),b,c,d,f1,g]/\H' qc=some (.lst yc)/\H' qs=some (.lst zs)/\Its (Fra K) H' S zs/\
    S.length=ps.length/\(∀(j:Nat) q,S[j]? =some q->ShB (ps.length - 1 - j) q)/\Vbirad.shares ps e=shareFrom ps (ps.length - t) S)
   ⟨fun b o eo=>?_,Nat.zero_le _,none,none,none,none,none,none,_,startS ps e,?_,?_,Ae,i0.keep fun _ _ r=>A7 _ _ _ _ (Tk.updL hqs3) r,by unfold startS;simp,P9 wf e,Jm ps e⟩ (fun _ _ _ _=>trivial) ?_ ?_⟩
  ·show [V.int ((xs.length:Int) - 1),V.int (-1),V.int (-1)]=_;rw[er]
  ·have:=RgC.neg (i:=((ps.length - 1:Nat):Int)) (j:=-1) (by omega) (by omega) (by omega) (by omega);have e2:(((ps.length - 1:Nat):Int) - -1).toNat=ps.length:=by omega
   rw[e2]at this;exact this
  ·rw[Ak (Al eo qsH)];exact sH3 b o eo
  ·rw[<-er];rfl
  ·rw[Ak ncs];exact s3 _ _ (s2 _ _ hqc)
  ·rintro t a x σ H4 H5 hta ⟨sm,htl,a1,a2,a3,a4,a5,a6,zs,S,rfl,hqc4,hqs4,izs,lS,bS,heq⟩ s5 rfl;obtain⟨htn,rfl⟩ :=Vm hta;have en:((ps.length - 1:Nat):Int) + (t:Int) * -1=((ps.length - 1 - t:Nat):Int):=by omega
   rw[en];generalize hie:ps.length - 1 - t=i;have hilt:i < ps.length:=by omega
   have hit:ps.length - t=i + 1:=by omega
   obtain⟨pt,hpt⟩ :∃q,ps[i]? =some q:= ⟨_,vC hilt⟩;obtain⟨xa,hxa,ap,rfl,dx,pm,nm,h1,h2,h3⟩ :=hi.get hpt;have sH5:Same H H5:=sm.trans s5;rw[hit,Cu hpt]at heq;have hqc5:=s5 _ _ hqc4;have hqs5:=s5 _ _ hqs4;have hin:ps.length - (t + 1)=i:=by omega
   refine⟨_,rfl,_,rfl,p,xs,_,_,rfl,rfl,sH5.seq hl,atN hxa,?_⟩;refine⟨_,rfl,ap,dx,_,rfl,sH5 _ _ h1,Ru,pt,.ref ap,rfl,⟨ap,rfl,dx,pm,nm,sH5 _ _ h1,h2,sH5 _ _ h3⟩,?_⟩;rintro _ H6 s6 rfl;refine⟨_,rfl,?_⟩;have sH6:=sH5.trans s6;have hqc6:=s6 _ _ hqc5;have hqs6:=s6 _ _ hqs5;have h3':=sH6 _ _ h3;have h1':=sH6 _ _ h1;refine iteB (fun hb=>?_) (fun hb=>?_)
   ·have hb:0 < (mem pt).length:=vG hb;have hfew:=wf.few pt (vD hpt);have WM:Seqs (Itl K pm) (Same H6) (mem pt) IsN:=As (xs:=mV pt) fun H' sm=> ⟨sm.seq (SqL.of h3'),Gg⟩;refine⟨_,rfl,ap,C,dx,_,_,rfl,h1',Y.cl,Y.nMembers,Bj,pm,rfl,⟨_,SqL.of h3'⟩,Ge (as:=mem pt) (R:=IsN) (S:=IsN) (Vbirad.claim ps) Bp WM (line9 (by omega)) (fun m x H' Qe hm sm' rx kk=>?_) (fun _ _ _ _ h q=>A2 h q) (fun qw zw H7 qw6 s7 hqw o7=>?_)⟩
    ·obtain rfl:x=V.int (m:Int):=rx;obtain⟨y,hy,ry⟩ :=iyc.get (Bs (E2 wf hpt m hm));obtain rfl:y=V.int ((Vbirad.claim ps m:Nat):Int):=ry;exact⟨rfl,_,rfl,_,rfl,qc,yc,_,_,rfl,rfl,sm'.seq (SqL.of hqc6),atN hy,kk _ _ (Same.refl _) rfl⟩
    have sH7:=sH6.trans s7;have hqc7:=s7 _ _ hqc6;have hqs7:=s7 _ _ hqs6;have iz7:Its (Fra K) H7 S zs:=izs.keep fun _ _ r=>A7 _ _ _ _ (Tk.of ((s5.trans s6).trans s7)) r;obtain⟨qi,hqi⟩ :∃q,S[i]? =some q:= ⟨_,vC (by omega)⟩;obtain⟨vi,hvi,fvi⟩ :=iz7.get hqi;have bqi:=bS i qi hqi;obtain⟨D',W',ao⟩ :=bqi.ao (by omega);refine⟨_,rfl,ap,C,dx,_,_,rfl,sH7 _ _ h1,Y.cl,Y.nRule,Ji,_,rfl,_,rfl,qs,zs,_,_,rfl,rfl,SqL.of hqs7,atN hvi,_,rfl,_,rfl,_,rfl,ps,i,pt,.ref p,rfl,Lst.keep Bv _ _ _ _ sH7 lp,wf,hpt,fun vw2 H8 s8 f8=>?_⟩;have cne:clm ps pt≠[]:=fun z=>by
     have:(clm ps pt).length=0:=by rw[z];rfl
     unfold clm at this;rw[List.length_map]at this;omega
    refine⟨rul pt,qi,clm ps pt,wts ps pt,D',W',vi,.ref qw,vw2,rfl,fvi.keep s8,⟨qw,zw,rfl,SqL.of (s8 _ _ hqw),o7⟩,f8.lst,wf.rule pt (vD hpt),ao,cok wf hpt,wok wf hpt,?_⟩;rintro qg H9 s9 nqg ⟨_,zg,hgg,hqg,ig⟩;obtain rfl:=V.ref.inj hgg;have sH9:=(sH7.trans s8).trans s9;have hqs9:=s9 _ _ (s8 _ _ hqs7);have hqc9:=s9 _ _ (s8 _ _ hqc7);have iz9:Its (Fra K) H9 S zs:=iz7.keep fun _ _ r=>A7 _ _ _ _ (Tk.of (s8.trans s9)) r;have h39:=sH9 _ _ h3;have nps:pm≠qs:=Al h3 qsH;have ngs:qg≠qs:=fun z=>by rw[z,s8 _ _ hqs7]at nqg;cases nqg
    have hend:∀(H':Hp) (ws':List V) (S':List Vbirad.Q),Same H H'->H' qc=some (.lst yc)->H' qs=some (.lst ws')->Its (Fra K) H' S' ws'->S'=turnS ps i pt S->S'.length=ps.length/\(∀(j:Nat) q,S'[j]? =some q->ShB (ps.length - 1 - j) q)/\Vbirad.shares ps e=shareFrom ps (ps.length - (t + 1)) S':=fun H' ws' S' _ _ _ _ e'=>by
     subst e';refine⟨by unfold turnS;rw[Di];exact lS,Y3 wf hpt lS bS,?_⟩;rw[hin];exact heq
    have egd:S.getD i (Vbirad.whole 0)=qi:=by rw[vS,hqi];rfl
    have WZ:Seqs (Itz K pm qg) (fun H'=>H' pm=some (.lst (mV pt))/\H' qg=some (.lst zg)/\Tk H9 H') ((mem pt).zip (shareBy (rul pt) (cQ (clm ps pt)) (wts ps pt) qi)) (Par K IsN (Fra K)):=
     K7 Bp.stay A7.stay fun H' hB=> ⟨SqL.of hB.1,Gg,SqL.of hB.2.1,ig.keep fun _ _ r=>A7 _ _ _ _ hB.2.2 r⟩
    refine⟨_,rfl,ap,C,dx,_,_,rfl,sH9 _ _ h1,Y.cl,Y.nMembers,Bj,_,rfl,pm,qg,_,_,rfl,SqL.of h39,SqL.of hqg,Bi WZ
     (fun j σ H'=>Same H H'/\H' pm=some (.lst (mV pt))/\H' qg=some (.lst zg)/\Tk H9 H'/\H' qc=some (.lst yc)/\∃(b1 b2:Option V) (ws':List V),σ= [some (.ref p),some (.int (e:Int)),some (.ref qc),some (.int ((ps.length - 1:Nat):Int)),some (.ref ap),some (.ref qs),some (.int (i:Int)),b1,some (.ref qw),some (.ref qg),b2]/\
      H' qs=some (.lst ws')/\Its (Fra K) H' ((((mem pt).zip (shareBy (rul pt) (cQ (clm ps pt)) (wts ps pt) qi)).take j).foldl (fun(a:List Vbirad.Q) (x:Nat×Vbirad.Q)=>a.set x.1 x.2) S) ws')
     ⟨sH9,h39,hqg,Tk.refl _,hqc9,_,_,zs,rfl,hqs9,iz9⟩ (fun j σ H' h=> ⟨h.2.1,h.2.2.1,h.2.2.2.1⟩) ?_ ?_⟩
    ·rintro j z x σ Ha Hb hz ⟨sa,pa1,pa2,pa3,pa4,b1,b2,ws',rfl,hws,iws⟩ sb ⟨tt,y1,y2,rfl,htt,hy1,fy2⟩;obtain rfl:y1=V.int ((z.1:Nat):Int):=hy1;have hm:=(List.of_mem_zip (a:=z.1) (b:=z.2) (vD hz)).1;have hmlt:=E2 wf hpt z.1 hm;have lws:=iws.len;rw[Di,lS]at lws;have hws':=sb _ _ hws;have tk:Tk Hb (upd Hb qs (.lst (ws'.set z.1 y2))):=Tk.updL hws';refine⟨tt,_,rfl,htt,rfl,_,_,rfl,_,_,rfl,rfl,?_⟩;refine⟨_,rfl,_,rfl,_,rfl,qs,ws',_,z.1,rfl,rfl,hws',Sy (by omega),?_⟩;refine⟨fun b o eo=>?_,?_,?_,(pa3.trans (Tk.of sb)).trans tk,?_,_,_,_,rfl,Ae,?_⟩
     ·rw[Ak (Al eo qsH)];exact sb _ _ (sa b o eo)
     ·rw[Ak nps];exact sb _ _ pa1
     ·rw[Ak ngs];exact sb _ _ pa2
     ·rw[Ak ncs];exact sb _ _ pa4
     ·rw[Bm hz,List.foldl_append];exact N8 (A7 _ _ _ _ tk fy2) z.1 (iws.keep fun _ _ r=>A7 _ _ _ _ ((Tk.of sb).trans tk) r)
    ·rintro σ Ha ⟨sa,pa1,pa2,pa3,pa4,b1,b2,ws',rfl,hws,iws⟩;rw[List.take_length]at iws;obtain⟨q1,q2,q3⟩ :=hend Ha ws' _ sa pa4 hws iws (by unfold turnS;rw[egd]);exact⟨sa,by omega,_,_,_,_,_,_,ws',_,rfl,pa4,hws,iws,q1,q2,q3⟩
   ·have hb:=vH hb;have hm0:mem pt= []:=v5 (by omega);have et:turnS ps i pt S=S:=by
     unfold turnS;rw[hm0];rfl
    rw[et]at heq;refine⟨sH6,by omega,_,_,_,_,_,_,zs,S,rfl,hqc6,hqs6,izs.keep fun _ _ r=>A7 _ _ _ _ (Tk.of (s5.trans s6)) r,lS,bS,?_⟩;rw[hin];exact heq
  ·rintro σ H4 ⟨sm,htl,a1,a2,a3,a4,a5,a6,zs,S,rfl,hqc4,hqs4,izs,lS,bS,heq⟩;rw[v8]at heq;rw[Nat.sub_self]at heq;refine⟨_,rfl,k _ _ sm qsH ⟨qs,zs,rfl,hqs4,?_⟩⟩;rw[heq];exact izs
end
theorem Bg{ps:List Party}(wf:PWf ps)(e:Nat){i:Nat}(h:i < ps.length):(Vbirad.shares ps e)[i]? =some (shareOf ps e i):=by
 have hl:=(Mf wf e).1;unfold shareOf;rw[List.getD_eq_getElem?_getD,List.getElem?_eq_getElem (by omega)];rfl
theorem Bq{ps:List Party}(wf:PWf ps)(e i:Nat):ShB 30 (shareOf ps e i):=by
 unfold shareOf;rw[List.getD_eq_getElem?_getD];cases hq:(Vbirad.shares ps e)[i]? with
 |none=>exact ShB.whole (by decide)
 |some q=>exact(Mf wf e).2 i q hq
theorem dC:∀(l:List Q) (i:Nat),(∀q∈l,Sz 750 q)->l.length<=8->Sz 7000 (sumQ (l.take i)):=by
 have key:∀(l:List Q) (a:Q) (k:Nat),Sz k a->(∀q∈l,Sz 750 q)->Sz (k + 751 * l.length) (l.foldl Vbirad.add a):=by
  intro l
  induction l with
  |nil=>intro a k h _;simpa using h
  |cons q l ih=>
   intro a k h hq;have:=ih (Vbirad.add a q) (k + 750 + 1) (h.add (hq q (by simp))) (fun x hx=>hq x (by simp[hx]));rw[List.foldl_cons,List.length_cons];exact this.mono (by omega)
 intro l i h hl;have:=key (l.take i) (Vbirad.whole 0) 0 (Sz.whole (vW _)) (fun q hq=>h q (List.mem_of_mem_take hq));refine this.mono ?_;rw[vU];omega
section
variable {P:Program}{w:World}{K:PySem.W.Frag}{mg:Str->Option Value}{base:Heap}
inductive spGProof(K:PySem.W.Frag)(C:Addr)(vs:List V)(H:Hp)(Q:VK)(_e3:XK):Prop|m:∀(ps:List Party) (e i:Nat) (pt:Party) (v:V),vs= [v,.int (e:Int),.int (i:Int)]->Lst K (PtR C) ps v H->PWf ps->ps[i]? =some pt->mem pt≠[]->Ret H (PrR K (rul pt) (shareOf ps e i) (clm ps pt) (wts ps pt)) Q->spGProof K C vs H Q _e3
abbrev Iv:Stmt:=top 50
theorem Ij:FnScope ["parties","water","group","share"] ["parties","water","group"] (defScope Iv):=fS
theorem Pg{C:Addr}(F:FunN K mg "group_proof" Iv)(Y:Pty K mg C)(wA:Df P w K mg base 10 "all_shares" ["parties","water"] (spShares K C))(wZ:Df P w K mg base 7 "proof_by" ["rule","amount","claims","weights"] (spRule K (PrR K) fun _=>True))
  (wI:Df P w K mg base 3 "member_claims" ["parties","group"] (spMem K C clm)) (wE:Df P w K mg base 1 "member_weights" ["parties","group"] (spMem K C wts)):Df P w K mg base 11 "group_proof" ["parties","water","group"] (spGProof K C):=by
 refine Df.of F Ij (fun vs H Q E h=>?_) (fun f cdv A outer s H vs Q E hr h=>?_)
 ·obtain⟨ps,e,i,pt,v,rfl,_⟩ :=h;rfl
 ·obtain⟨ps,e,i,pt,v,rfl,lp,wf,hpt,hmn,k⟩ :=h;refine⟨_,Ac (Aj (i:=3) Ij.nd rfl (Or.inl rfl) (Ai Ag (pd wA hr (Aa (pv 0) (Aa (pv 1) Ab))) (pv 2)))
   (Ad (Ah (pd wZ hr (Aa (Ap (Ai Ag (pv 0) (pv 2)) rfl) (Aa (pv 3) (Aa (pd wI hr (Aa (pv 0) (Aa (pv 2) Ab))) (Aa (pd wE hr (Aa (pv 0) (Aa (pv 2) Ab))) Ab))))))),?_⟩
  have hi:=(List.getElem?_eq_some_iff.mp hpt).1;have hne:ps≠[]:=fun z=>by rw[z]at hi;simp at hi
  refine⟨_,rfl,_,rfl,ps,e,v,rfl,lp,wf,hne,?_⟩;rintro qs H1 s1 _ ⟨_,ys,hqq,hqs,iys⟩;obtain rfl:=V.ref.inj hqq;obtain⟨ve,hve,fve⟩ :=iys.get (Bg wf e hi);refine⟨_,rfl,qs,ys,_,_,rfl,rfl,SqL.of hqs,atN hve,?_⟩;obtain⟨D,W,ao⟩ :=(Bq wf e i).ao (by decide);obtain⟨p,xs,rfl,hl,hi2⟩ :=id lp;obtain⟨xa,hxa,ap,rfl,dx,pm,nm,h1,h2,h3⟩ :=hi2.get hpt;refine⟨_,rfl,_,rfl,p,xs,_,_,rfl,rfl,s1.seq hl,atN hxa,ap,C,dx,_,_,rfl,s1 _ _ h1,Y.cl,Y.nRule,Ji,_,rfl,_,rfl,_,rfl,ps,i,pt,.ref p,rfl,Lst.keep Bv _ _ _ _ s1 lp,wf,hpt,fun vc H2 s2 f2=>?_⟩;refine⟨_,rfl,_,rfl,ps,i,pt,.ref p,rfl,Lst.keep Bv _ _ _ _ (s1.trans s2) lp,wf,hpt,fun vw H3 s3 f3=>?_⟩;have cne:clm ps pt≠[]:=fun z=>hmn (List.map_eq_nil_iff.mp z);exact⟨rul pt,_,clm ps pt,wts ps pt,D,W,ve,vc,vw,rfl,(fve.keep s2).keep s3,Lst.keep Bp.stay _ _ _ _ s3 f2.lst,f3.lst,trivial,ao,cok wf hpt,wok wf hpt,cne,fun z H4 s4 f4=>k _ _ (((s1.trans s2).trans s3).trans s4) f4⟩
theorem Us(x:Nat):∀l:List Nat,inV (.int (x:Int)) (l.map fun(m:Nat)=>V.int (m:Int))=l.contains x
 | []=>rfl
 |a::l=>by
  show(eqV (.int (a:Int)) (.int (x:Int)) || inV (.int (x:Int)) (l.map fun(m:Nat)=>V.int (m:Int)))=_;rw[Us x l,List.contains_cons];congr 1;show((a:Int) == (x:Int))=(x == a);rw[Bool.eq_iff_iff];simp;omega
theorem Rm:∀l:List Nat,(l.map fun(m:Nat)=>V.int (m:Int)).all flatV=true
 | []=>rfl
 |a::l=>by rw[vV,List.all_cons,Rm l];rfl
inductive spSure(K:PySem.W.Frag)(C:Addr)(vs:List V)(H:Hp)(Q:VK)(_e3:XK):Prop|m:∀(ps:List Party) (e i:Nat) (pt:Party) (ss:List Nat) (v x:V),vs= [v,.int (e:Int),.int (i:Int),x]->Lst K (PtR C) ps v H->PWf ps->ps[i]? =some pt->Lst K IsN ss x H->Ret H (Fra K (Vbirad.most (Vbirad.whole 0) (Vbirad.sub (shareOf ps e i) (Vbirad.whole (((((mem pt).filter fun j=>!ss.contains j).map (Vbirad.claim ps)).sum:Nat):Int))))) Q->spSure K C vs H Q _e3
abbrev P8:Stmt:=top 52
theorem E6:FnScope ["parties","water","group","some","claims","share","others","member"] ["parties","water","group","some"] (defScope P8):=fS
theorem Qg{f:Nat->Nat}{p:Nat->Bool}:∀l:List Nat,((l.filter p).map f).sum<=(l.map f).sum
 | []=>Nat.le_refl _
 |x::l=>by
  have:=Qg (f:=f) (p:=p) l;rw[List.filter_cons];split
  ·rw[vV,vV,List.sum_cons,List.sum_cons];omega
  ·rw[vV,List.sum_cons];omega
theorem Zq{q:Q}(h:Red q):Vbirad.most q (Vbirad.whole 0)=Vbirad.most (Vbirad.whole 0) q:=by
 have e0:val (Vbirad.whole 0)=0:=by rw[Cd];rfl
 have l1:=Fr (a:=q) (b:=Vbirad.whole 0) h.pos (Aw 0).pos;have l2:=Fr (a:=Vbirad.whole 0) (b:=q) (Aw 0).pos h.pos;rw[e0]at l1 l2;unfold Vbirad.most;by_cases h1:val q<=0
 ·rw[if_pos (l1.mpr h1)];by_cases h2:0<=val q
  ·rw[if_pos (l2.mpr h2)];exact(Of h (Aw 0) (by rw[e0];grind)).symm
  ·rw[if_neg (fun z=>h2 (l2.mp z))]
 ·rw[if_neg (fun z=>h1 (l1.mp z)),if_pos (l2.mpr (by grind))]
abbrev leftQ(q:Q)(n:Int):Q:=Vbirad.most (Vbirad.whole 0) (Vbirad.sub q (Vbirad.whole n))
inductive spLeft(K:PySem.W.Frag)(vs:List V)(H:Hp)(Q:VK)(_e3:XK):Prop|m:∀(q:Vbirad.Q) (n:Int) (u:V),vs= [u,.int n]->Fra K q u H->Sz 750 q->n.natAbs<=2^100->Ret H (Fra K (leftQ q n)) Q->spLeft K vs H Q _e3
abbrev Le:Stmt:=top 51
theorem Tz:FnScope ["share","others_claim"] ["share","others_claim"] (defScope Le):=fS
theorem Th(F:FunN K mg "left_over" Le)(w8:Df P w K mg base 2 "greater" ["left","right"] (sp2 K fun a b=>Fra K (Vbirad.most a b)))(wH:Df P w K mg base 3 "minus" ["left","right"] (sp2 K fun a b=>Fra K (Vbirad.sub a b)))(wC:Df P w K mg base 1 "whole" ["number"] (spWhole K)):
  Df P w K mg base 4 "left_over" ["share","others_claim"] (spLeft K):=by
 refine Df.of F Tz (fun vs H Q E h=>?_) (fun f cdv A outer s H vs Q E hr h=>?_)
 ·obtain⟨q,n,u,rfl,_⟩ :=h;rfl
 ·obtain⟨q,n,u,rfl,fu,sz1,hn,k⟩ :=h;refine⟨_,Ad (Ah (pd w8 hr (Aa (pd wH hr (Aa (pv 0) (Aa (pd wC hr (Aa (pv 1) Ab)) Ab))) (Aa (pd wC hr (Aa (Af) Ab)) Ab)))),?_⟩;have sz2:Sz 0 (Vbirad.whole n):=Sz.whole (vA hn (by decide));refine⟨_,rfl,_,rfl,_,rfl,fun z1 H4 s4 f4=>?_⟩;refine⟨_,_,u,z1,750,0,rfl,fu.keep s4,f4,sz1,sz2,by decide,fun z2 H5 s5 f5=>?_⟩;refine⟨0,rfl,fun z3 H6 s6 f6=>?_⟩;refine⟨_,_,z2,z3,751,0,rfl,f5.keep s6,f6,sz1.sub sz2,Sz.whole (vW _),by decide,fun z4 H7 s7 f7=>k _ _ (((s4.trans s5).trans s6).trans s7) ?_⟩;show Fra K (Vbirad.most (Vbirad.whole 0) (Vbirad.sub q (Vbirad.whole n))) _ _;rw[<-Zq (Ea sz1.pos sz2.pos)];exact f7
theorem Xl{C:Addr}(F:FunN K mg "sure_of" P8)(T:Blt mg)(Y:Pty K mg C)(wB:Df P w K mg base 2 "all_claims" ["parties"] (spClaims K C))(wA:Df P w K mg base 10 "all_shares" ["parties","water"] (spShares K C))
  (wT:Df P w K mg base 4 "left_over" ["share","others_claim"] (spLeft K)):
  Df P w K mg base 11 "sure_of" ["parties","water","group","some"] (spSure K C):=by
 refine Df.of F E6 (fun vs H Q E h=>?_) (fun f cdv A outer s H vs Q E hr h=>?_)
 ·obtain⟨ps,e,i,pt,ss,v,x,rfl,_⟩ :=h;rfl
 ·obtain⟨ps,e,i,pt,ss,v,_,rfl,lp,wf,hpt,⟨px,xx,rfl,hpx,ix⟩,k⟩ :=h;refine⟨_,Ac (Aj (i:=4) E6.nd rfl (Or.inr rfl) (pd wB hr (Aa (pv 0) Ab)))
   (Ac (Aj (i:=5) E6.nd rfl (Or.inl rfl) (Ai Ag (pd wA hr (Aa (pv 0) (Aa (pv 1) Ab))) (pv 2)))
   (Ac (Cs (i:=6) (own:=[("member",7)]) rfl E6.nd rfl rfl (Du rfl rfl rfl (by rfl)) (A0 (Ap (Ai Ag (pv 0) (pv 2)) rfl)) (Ax (by rfl)) (fun _ _ _ _ _=>Am (i:=7) E6.nd rfl (Or.inl rfl)) (fun _ _ _ _ _=>Jk (At (Q6 (K:=K) rfl) (pv 7) (pv 3) (by with_unfolding_all rfl))) (fun _ _ _ _ _=>Ai (Ci (K:=K) rfl) (pv 4) (pv 7)))
   (Ad (Ah (pd wT hr (Aa (pv 5) (Aa (Ao (Lr rfl) (by rfl) T.sum boot_sum (Aa (pv 6) Ab)) Ab))))))),?_⟩
  have hi:=(List.getElem?_eq_some_iff.mp hpt).1;have hne:ps≠[]:=fun z=>by rw[z]at hi;simp at hi
  refine⟨_,rfl,ps,v,rfl,lp,wf,?_⟩;rintro _ H1 s1 ⟨qc,yc,rfl,hqc,iyc⟩;refine⟨_,rfl,_,rfl,ps,e,v,rfl,Lst.keep Bv _ _ _ _ s1 lp,wf,hne,?_⟩;rintro qs H2 s2 _ ⟨_,ys,hqq,hqs,iys⟩;obtain rfl:=V.ref.inj hqq;obtain⟨ve,hve,fve⟩ :=iys.get (Bg wf e hi);refine⟨_,rfl,qs,ys,_,_,rfl,rfl,SqL.of hqs,atN hve,?_⟩;have s12:=s1.trans s2;obtain⟨p,xs,rfl,hl,hi2⟩ :=id lp;obtain⟨xa,hxa,ap,rfl,dx,pm,nm,h1,h2,h3⟩ :=hi2.get hpt;have hfew:=wf.few pt (vD hpt);have WM:Seqs (Itl K pm) (Same H2) (mem pt) IsN:=As (xs:=mV pt) fun H' sm=> ⟨sm.seq (SqL.of (s12 _ _ h3)),Gg⟩;have exx:=Mp ix;rw[vX]at exx;refine⟨_,rfl,_,rfl,p,xs,_,_,rfl,rfl,s12.seq hl,atN hxa,ap,C,dx,_,_,rfl,s12 _ _ h1,Y.cl,Y.nMembers,Bj,pm,rfl,⟨_,SqL.of (s12 _ _ h3)⟩,Jf (as:=mem pt) (R:=IsN) (S:=IsN) (fun j=>!ss.contains j) (Vbirad.claim ps) Bp WM (line9 (by omega)) (fun m x H' Qe Nx hm sm' rx k1 k2=>?_) (fun D zs H3 s3 hD o=>?_)⟩
  ·obtain rfl:x=V.int (m:Int):=rx;obtain⟨y,hy,ry⟩ :=iyc.get (Bs (E2 wf hpt m hm));obtain rfl:y=V.int ((Vbirad.claim ps m:Nat):Int):=ry;refine⟨rfl,_,rfl,_,rfl,px,xx,rfl,.inl ((s12.trans sm').seq hpx),rfl,(by rw[exx];exact Rm ss),_,rfl,?_⟩;have ein:inV (.int (m:Int)) xx=ss.contains m:=by rw[exx];exact Us m ss
   refine iteB (fun hb=>?_) (fun hb=>?_)
   ·have hb:(!inV (.int (m:Int)) xx)=true:=hb;rw[ein]at hb;exact⟨_,rfl,_,rfl,qc,yc,_,_,rfl,rfl,sm'.seq (SqL.of (s2 _ _ hqc)),atN hy,k1 hb _ _ (Same.refl _) rfl⟩
   ·have hb:(!inV (.int (m:Int)) xx)=false:=hb;rw[ein]at hb;exact k2 hb _ (Same.refl _)
  ·have ez:=Mp o;subst ez;refine⟨_,rfl,_,rfl,D,_,rfl,SqL.of hD,?_⟩;rw[El];have hsum:(((mem pt).filter fun j=>!ss.contains j).map (Vbirad.claim ps)).sum<=2^34:=vA (Qg (mem pt)) (cok wf hpt).sum;have sz1:=(Bq wf e i).sz (by decide);exact⟨_,_,ve,rfl,fve.keep s3,sz1,(by rw[vQ];exact vA hsum (by decide)),fun z1 H4 s4 f4=>k _ _ ((s12.trans s3).trans s4) f4⟩
inductive spGot(K:PySem.W.Frag)(C:Addr)(vs:List V)(H:Hp)(Q:VK)(_e3:XK):Prop|m:∀(ps:List Party) (e:Nat) (ss:List Nat) (v x:V),vs= [v,.int (e:Int),x]->Lst K (PtR C) ps v H->PWf ps->ps≠[]->Lst K IsN ss x H->ss.length<=8->(∀j∈ss,j < ps.length)->Ret H (Fra K (sumQ (ss.map (shareOf ps e)))) Q->spGot K C vs H Q _e3
abbrev Hh:Stmt:=top 53
theorem C7:FnScope ["parties","water","some","shares","member"] ["parties","water","some"] (defScope Hh):=fS
theorem Nq{C:Addr}(F:FunN K mg "got_together" Hh)(wA:Df P w K mg base 10 "all_shares" ["parties","water"] (spShares K C))(uM:Df P w K mg base 4 "total" ["ratios"] (spTotal K)):Df P w K mg base 11 "got_together" ["parties","water","some"] (spGot K C):=by
 refine Df.of F C7 (fun vs H Q E h=>?_) (fun f cdv A outer s H vs Q E hr h=>?_)
 ·obtain⟨ps,e,ss,v,x,rfl,_⟩ :=h;rfl
 ·obtain⟨ps,e,ss,v,_,rfl,lp,wf,hne,⟨px,xx,rfl,hpx,ix⟩,h8,hlt,k⟩ :=h;refine⟨_,Ac (Aj (i:=3) C7.nd rfl (Or.inr rfl) (pd wA hr (Aa (pv 0) (Aa (pv 1) Ab))))
   (Ad (Ah (pd uM hr (Aa (Co (own:=[("member",4)]) rfl C7.nd (A0 (pv 2)) (Ax (by rfl)) (fun _ _ _ _ _=>Am (i:=4) C7.nd rfl (Or.inl rfl)) (fun _ _ _ _ _=>A6) (fun _ _ _ _ _=>Ai (Ci (K:=K) rfl) (pv 3) (pv 4))) Ab)))),?_⟩
  refine⟨_,rfl,_,rfl,ps,e,v,rfl,lp,wf,hne,?_⟩;rintro qs H2 s2 _ ⟨_,ys,hqq,hqs,iys⟩;obtain rfl:=V.ref.inj hqq;have WM:Seqs (Itl K px) (Same H2) ss IsN:=As (xs:=xx) fun H' sm=> ⟨(s2.trans sm).seq hpx,ix.keep fun _ _ r=>r⟩;refine⟨_,rfl,px,rfl,⟨_,s2.seq hpx⟩,Bx (as:=ss) (R:=IsN) (S:=Fra K) (shareOf ps e) A7 WM (line9 (by omega)) (fun m x H' Qe hm sm' rx kk=>?_) (fun _ _ _ _ h q=>A2 h q) (fun D zs H3 s3 hD o=>?_)⟩
  ·obtain rfl:x=V.int (m:Int):=rx;obtain⟨ve,hve,fve⟩ :=iys.get (Bg wf e (hlt m hm));exact⟨rfl,_,rfl,_,rfl,qs,ys,_,_,rfl,rfl,sm'.seq (SqL.of hqs),atN hve,kk _ _ (Same.refl _) (fve.keep sm')⟩
  ·have hz:∀q∈ss.map (shareOf ps e),Sz 750 q:=fun q hq=>by
    obtain⟨j,_,rfl⟩ :=vL hq;exact(Bq wf e j).sz (by decide)
   exact⟨_,.ref D,rfl,⟨D,zs,rfl,SqL.of hD,o⟩,fun q hq=>(hz q hq).mono (by decide),fun i=>dC _ i hz (by rw[vB];exact h8),fun z H4 s4 f4=>k _ _ ((s2.trans s3).trans s4) f4⟩
end
def sOf(w:Bytes):Str:= ⟨w.toArray⟩
theorem Cp(w:Bytes):(sOf w).length=w.length:=by simp[sOf,Str.length]
theorem Ep(w:Bytes):(sOf w).cps.toList=w:=by simp[sOf]
theorem Qi(s:Str):sOf s.cps.toList=s:=by cases s;simp[sOf]
theorem Oc{a b:Bytes}(h:sOf a=sOf b):a=b:=by rw[<-Ep a,h,Ep]
theorem Dj(s:String):Str.ofString s=sOf (text s):=Str.ofString_eq_toList s
theorem T7(c:Nat):∀l:List Str,(Str.join ⟨#[c]⟩ l).cps.toList=joinB c (l.map fun s=>s.cps.toList)
 | []=>rfl
 | [x]=>rfl
 |x::y::r=>by
  have ih:=T7 c (y::r);show(x++(⟨#[c]⟩ :Str)++Str.join ⟨#[c]⟩ (y::r)).cps.toList=x.cps.toList++c::joinB c ((y::r).map fun s=>s.cps.toList);rw[<-ih];show((x.cps++ #[c])++(Str.join ⟨#[c]⟩ (y::r)).cps).toList=_;simp
theorem Mx(c:Nat)(t:Bytes):Txt.split (sOf t) ⟨#[c]⟩ =(partsOf c t).map sOf:=by
 have h1:=PySem.StrLaws.join_split (sOf t) ⟨#[c]⟩;have h2:=PySem.StrLaws.split_free (sOf t) c;have h3:Txt.split (sOf t) ⟨#[c]⟩ ≠[]:=by
  intro e;have:=split_len (sOf t) c;rw[e]at this;have h:(0:Int)=1 + cnt c (sOf t).cps.toList:=this;have:0<=cnt c (sOf t).cps.toList:=by
   unfold cnt;exact countIn_nonneg _ _
  omega
 generalize Txt.split (sOf t) ⟨#[c]⟩ =l at h1 h2 h3;have h4:joinB c (l.map fun s=>s.cps.toList)=t:=by
  rw[<-T7,h1,Ep]
 have h5:partsOf c t=l.map fun s=>s.cps.toList:=by
  rw[<-h4];exact Pt _ (by simpa using h3) (by
   intro w hw;obtain⟨s,hs,rfl⟩ :=vL hw;exact h2 s hs)
 rw[h5,vX]
 conv=>lhs;rw[<-List.map_id l]
 exact vY fun s _=>(Qi s).symm
theorem W3{w:Bytes}(h:∀b∈w,b < 128):Txt.isdigit (sOf w)=(!w.isEmpty&&w.all isDigit):=by
 unfold Txt.isdigit;have e:(sOf w).cps.all Unicode.isDigit=w.all isDigit:=by
  rw[<-Array.all_toList,Ep];rw[Bool.eq_iff_iff,List.all_eq_true,List.all_eq_true];refine forall_congr' fun b=>forall_congr' fun hb=>?_;have dg:∀b,b < 128->inR 48 57 ⟨#[b]⟩ =isDigit b:=by decide +kernel
  rw[cls_isdigit b (h b hb)];rw[dg b (h b hb)]
 rw[e,Cp];cases w<;>simp
theorem dQ(w:Bytes):NumText.digitsVal w=Vbirad.value w:=by
 unfold NumText.digitsVal Vbirad.value;congr 1;funext n c;rw[Nat.mul_comm]
theorem bI{w:Bytes}(h:w.all isDigit=true)(h1:w≠[])(h2:w.length<=4300):intText? (sOf w)=some ((Vbirad.value w:Nat):Int):=by
 rw[<-dQ];have:=intText_digits (x:=sOf w) (by
  rw[Ep];intro c hc;have:=List.all_eq_true.mp h c hc;unfold isDigit at this;simpa using this) (by rw[Ep];exact h1) (by rw[Cp];exact h2)
 rw[Ep]at this;exact this
def GS(mg:Str->Option Value)(x:Str)(s:Str):Prop:=∃t,mg x=some (.str s t)
theorem pgs{X:Cx}{x:Str}{s:Str}{pos:Pos}(h:GS X.mg x s)(hg:Gl X x:=by rfl)(hd:(x == ("__debug__":Str))=false:=by decide):PE X (.Name x pos) (tC (.str s)):=by
 obtain⟨t,h⟩ :=h;exact Tn hg h ⟨t,rfl⟩ hd
structure GT(K:PySem.W.Frag)(mg:Str->Option Value)(x:Str)(a:Addr)(xs:List V):Prop where
 at_:mg x=some (.ref a)
 its:∀H,SqT K H a xs
 ty:∃o,K.lookup a=some o/\o.cls=.type "tuple"/\o.dict=none
theorem pgt{X:Cx}{K:PySem.W.Frag}{x:Str}{a:Addr}{xs:List V}{pos:Pos}(h:GT K X.mg x a xs)(hg:Gl X x:=by rfl)(hd:(x == ("__debug__":Str))=false:=by decide):PE X (.Name x pos) (tC (.ref a)):=
 Tn hg h.at_ rfl hd
def lettersB:Bytes:=text "abcdefghijklmnopqrstuvwxyz"
def digitsB:Bytes:=text "0123456789"
def keptB:List Bytes:=["person","group","claims","weighs","by","of"].map text
def sV(ws:List Bytes):List V:=ws.map fun w=>V.str (sOf w)
structure Rdg(K:PySem.W.Frag)(mg:Str->Option Value)(kw rn:Addr):Prop where
 LETTERS:GS mg "LETTERS" (sOf lettersB)
 DIGITS:GS mg "DIGITS" (sOf digitsB)
 UNKNOWN:GS mg "UNKNOWN" (sOf [63])
 KEPT_WORDS:GT K mg "KEPT_WORDS" kw (sV keptB)
 RULE_NAMES:GT K mg "RULE_NAMES" rn (sV RULES)
 LONGEST_NAME:GI mg "LONGEST_NAME" 8
 LONGEST_NUMBER:GI mg "LONGEST_NUMBER" 8
 NO_NUMBER:GI mg "NO_NUMBER" (-1)
 MOST_CLAIMED:GI mg "MOST_CLAIMED" 1000000
 MOST_WEIGHT:GI mg "MOST_WEIGHT" 100
 MOST_MEMBERS:GI mg "MOST_MEMBERS" 8
 MOST_PARTIES:GI mg "MOST_PARTIES" 30
theorem P2{w:Bytes}{B:Hp->Prop}:Seqs (L2.Its (sOf w)) B w (fun c v _=>v=.str ⟨#[c]⟩):=fun H b=>by
 have hl:(sOf w).cps.size=w.length:=Cp w;refine⟨fun i hi=>by show i < (sOf w).cps.size;omega,by show(sOf w).cps.size<=w.length;omega,?_⟩;rintro i v H' hi ⟨rfl,c,hc,rfl⟩;refine⟨Same.refl _,c,?_,rfl⟩;rw[<-hc];show w[i]? =w.toArray[i]?;simp
theorem K4(a b:Bytes):sOf a++sOf b=sOf (a++b):=by
 show(⟨a.toArray++b.toArray⟩ :Str)= ⟨(a++b).toArray⟩;simp
def signsB:Bytes:=lettersB++digitsB++text " \n"
theorem cZ:∀c,c < 256->okB c=decide (c∈signsB):=by decide +kernel
theorem Z4:signsB.length=38:=by decide
theorem O3:∀l:Bytes,Str.join (sOf []) (l.map fun c=>(⟨#[c]⟩ :Str))=sOf l
 | []=>rfl
 | [c]=>rfl
 |c::d::l=>by
  have ih:=O3 (d::l);show(⟨#[c]⟩ :Str)++sOf []++Str.join (sOf []) ((d::l).map fun c=>(⟨#[c]⟩ :Str))=_;rw[ih];show sOf [c]++sOf []++sOf (d::l)=_;rw[K4,K4];rfl
section
variable {P:Program}{w:World}{K:PySem.W.Frag}{mg:Str->Option Value}{base:Heap}{kw rn:Addr}
inductive spAsText(K:PySem.W.Frag)(vs:List V)(H:Hp)(Q:VK)(_e3:XK):Prop|m:∀(ns:List Nat) (v:V),vs= [v]->Lst K IsN ns v H->(∀n∈ns,n < 256)->ns.length<=2000->Ret H (IsS (sOf (ns.map nrm))) Q->spAsText K vs H Q _e3
abbrev P5:Stmt:=top 67
theorem E5:FnScope ["numbers","signs","sign","number"] ["numbers"] (defScope P5):=fS
theorem Xg(F:FunN K mg "as_text" P5)(T:Blt mg)(R:Rdg K mg kw rn):Df P w K mg base 1 "as_text" ["numbers"] (spAsText K):=by
 refine Df.of F E5 (fun vs H Q E h=>?_) (fun f cdv A outer s H vs Q E hr h=>?_)
 ·obtain⟨ns,v,rfl,_⟩ :=h;rfl
 ·obtain⟨ns,_,rfl,⟨p,xs,rfl,hl,hi⟩,hb,hn,k⟩ :=h;have hu:=hr.units;refine⟨_,Ac (Aj (i:=1) E5.nd rfl (Or.inr rfl) (cH))
   (Ac (Ch PassesOwn.never rfl (Xr (Az J7 (Az J7 (pgs R.LETTERS) (pgs R.DIGITS)) (Bz))) (Am (i:=2) E5.nd rfl (Or.inl rfl))
    (Ad (fK (by exact vO (Nat.add_le_add_left (by decide) _) hu) (pv 1) (Ao Ud (by rfl) T.ord boot_ord (Aa (pv 2) Ab)) (pv 2) rfl)))
   (Ad (Ah (To (Bz) (Co (own:=[("number",3)]) rfl E5.nd (A0 (pv 0)) (Ax (by rfl)) (fun _ _ _ _ _=>Am (i:=3) E5.nd rfl (Or.inl rfl)) (fun _ _ _ _ _=>A6) (fun _ _ _ _ _=>cG (by exact vO (Nat.add_le_add_left (by decide) _) hu) (pv 1) (pv 3) (pgs R.UNKNOWN) ⟨rfl,rfl,rfl,rfl⟩)))))),?_⟩
  intro d hd;have s1:Same H (upd H d (.dK [])):=Same.upd hd;refine⟨_,_,rfl,rfl,by decide +kernel,?_⟩;refine⟨_,_,rfl,rfl,by decide +kernel,?_⟩;refine⟨_,rfl,?_⟩;rw[show sOf lettersB++sOf digitsB++(" \n":Str)=sOf signsB from by rw[Dj,K4,K4];rfl];refine Bi (B:=Same H) (as:=signsB) P2
   (fun i σ H'=>Same H H'/\∃(a:Option V) (kvs:List (Key×V)),σ= [some (.ref p),some (.ref d),a,none]/\H' d=some (.dK kvs)/\kvs.length<=i/\∀c:Nat,valV kvs ((.inl (c:Int):Key))=if c∈signsB.take i then some (.str ⟨#[c]⟩)else none)
   ⟨s1,none,[],rfl,Ae,Nat.le_refl _,fun c=>rfl⟩ (fun i σ H' h=>h.1) ?_ ?_
  ·rintro i c x σ H2 H3 hc ⟨sm,a1,kvs,rfl,hk,hkl,hv⟩ s3 rfl;have hi38:i < 38:=by rw[<-Z4];exact(vF hc).1
   refine⟨_,rfl,_,rfl,_,rfl,_,rfl,rfl,d,_,rfl,DPut.k (k:=.inl (c:Int)) (s3 _ _ hk) (vO (show kvs.length<=40 by omega) (by decide)),?_⟩;refine⟨fun b o eo=>?_,_,_,rfl,Ae,?_,fun c2=>?_⟩
   ·rw[Ak (Al eo hd)];exact(sm.trans s3) b o eo
   ·have:∀(kvs:List (Key×V)) (k:Key) (v:V),(putK kvs k v).length<=kvs.length + 1:=fun kvs k v=>by
     unfold putK;split<;>simp
    have:=this kvs (.inl (c:Int)) (.str ⟨#[c]⟩);omega
   ·rw[dO,hv,Bm hc];by_cases e:c2=c
    ·subst e;rw[if_pos rfl,if_pos (by simp)]
    ·rw[if_neg (fun z=>e (by injection z with z;omega))];exact ite_congr (by rw[List.mem_append,List.mem_singleton];simp[e]) (fun _=>rfl) fun _=>rfl
  ·rintro σ H2 ⟨sm,a1,kvs,rfl,hk,hkl,hv⟩;rw[v6]at hv;have WS:Seqs (Itl K p) (Same H2) ns IsN:=As (xs:=xs) fun H' sm2=> ⟨(sm.trans sm2).seq hl,hi.keep fun _ _ r=>r⟩;refine⟨⟨_,rfl⟩,_,rfl,p,rfl,⟨_,sm.seq hl⟩,Bx (as:=ns) (R:=IsN) (S:=IsS) (fun n=>(⟨#[nrm n]⟩ :Str)) gO WS (vO hn (by decide)) (fun n x H' Qe hm sm' rx kk=>?_) (fun _ _ _ _ h q=>A2 h q) (fun D zs H3 s3 hD o=>?_)⟩
   ·obtain rfl:x=V.int (n:Int):=rx;have hk':=sm' _ _ hk;refine⟨rfl,_,rfl,d,rfl,.inl ⟨kvs,.inl hk'⟩,_,rfl,_,DGet.k (k:=.inl (n:Int)) hk',kk _ _ (Same.refl _) ?_⟩;show _=_;have h1:=cZ n (hb n hm);rw[hv];unfold nrm;by_cases hc:n∈signsB
    ·rw[if_pos hc,if_pos (by rw[h1];exact decide_eq_true hc)];rfl
    ·rw[if_neg hc,if_neg (by rw[h1];simpa using hc)];rfl
   ·have e:=gA o;subst e;refine⟨_,D,ns.map (fun n=>(⟨#[nrm n]⟩ :Str)),rfl,rfl,.inl (SqL.of hD),?_,k _ _ (sm.trans s3) ?_⟩
    ·rw[vX,vB,show(("":String):Str).length=0 from rfl,Nat.mul_zero];have:∀l:List Nat,(l.map ((fun x:Str=>x.length) ∘ fun n=>(⟨#[nrm n]⟩ :Str))).sum=l.length:=fun l=>by
      induction l with
      |nil=>rfl
      |cons a l ih=>rw[vV,List.sum_cons,ih,vK];show 1 + _=_;omega
     rw[this];omega
    ·show _=_;rw[show Txt.join (("":String):Str) _=Str.join (("":String):Str) _ from PySem.StrLaws.glued_eq_join _ _,Dj];have:=O3 (ns.map nrm);rw[vX]at this;exact congrArg V.str this
def IsW:Rel Bytes:=fun w v _=>v=.str (sOf w)
theorem Kq:Flat IsW:=fun _ _ _ _ _ h=>h
theorem Gw{H:Hp}:∀{ws:List Bytes} {xs:List V},Its IsW H ws xs->xs=sV ws
 |_,_,.nil=>rfl
 |w::ws,x::xs,.cons h t=>by
  have:x=V.str (sOf w):=h;rw[this,Gw t];rfl
theorem Gv{H:Hp}:∀(ws:List Bytes),Its IsW H ws (sV ws)
 | []=>.nil
 |w::ws=>.cons rfl (Gv ws)
theorem C9(ws:List Bytes):(sV ws).length=ws.length:=by unfold sV;simp
theorem Gn(ws:List Bytes):(sV ws).all flatV=true:=by
 unfold sV;rw[List.all_map,List.all_eq_true];intro w _;rfl
theorem Ur(w:Bytes)(ws:List Bytes):inV (.str (sOf w)) (sV ws)=decide (w∈ws):=by
 unfold inV sV;rw[List.any_map,Bool.eq_iff_iff,List.any_eq_true,decide_eq_true_iff];constructor
 ·rintro ⟨x,hx,e⟩;have e:(sOf x == sOf w)=true:=e;rw[beq_iff_eq]at e;rw[<-Oc e];exact hx
 ·intro h;exact⟨w,h,by show(sOf w == sOf w)=true;simp⟩
theorem Kn{a b:Bytes}:decide (V.str (sOf a)=V.str (sOf b))=decide (a=b):=by
 rw[Bool.eq_iff_iff,decide_eq_true_iff,decide_eq_true_iff];exact⟨fun h=>Oc (V.str.inj h),fun h=>h▸rfl⟩
theorem Fx(c:Nat):∀t:Bytes,(partsOf c t).length<=t.length + 1
 | []=>Nat.le_refl _
 |x::t=>by
  have ih:=Fx c t;show(if x=c then []::partsOf c t else match partsOf c t with
   | []=>[[x]]
   |v::r=>(x::v)::r).length<=_
  split
  ·rw[vK,vK];omega
  ·cases h:partsOf c t with
   |nil=>simp
   |cons v r=>
    rw[h]at ih;simp only [List.length_cons]at ih⊢;omega
theorem Vh(c:Nat)(t:Bytes):partsOf c t≠[]:=by
 cases t with
 |nil=>simp[partsOf]
 |cons x t=>
  show(if x=c then []::partsOf c t else match partsOf c t with
   | []=>[[x]]
   |v::r=>(x::v)::r)≠[]
  split
  ·simp
  ·cases partsOf c t<;>simp
theorem gY:(("\n":String):Str)= ⟨#[10]⟩ :=by decide +kernel
theorem gZ:((" ":String):Str)= ⟨#[32]⟩ :=by decide +kernel
theorem bN:(("":String):Str)=sOf []:=by decide +kernel
inductive spLines(vs:List V)(H:Hp)(Q:VK)(_e3:XK):Prop|m:∀(t:Bytes),vs= [.str (sOf t)]->t.length<=2000->Ret H (Own IsW (linesOf t)) Q->spLines vs H Q _e3
abbrev M5:Stmt:=top 68
theorem Mw:FnScope ["text","lines"] ["text"] (defScope M5):=fS
theorem Vb(F:FunN K mg "lines_of" M5):Df P w K mg base 1 "lines_of" ["text"] spLines:=by
 refine Df.of F Mw (fun vs H Q E h=>?_) (fun f cdv A outer s H vs Q E hr h=>?_)
 ·obtain⟨t,rfl,_⟩ :=h;rfl
 ·obtain⟨t,rfl,ht,k⟩ :=h;refine⟨_,Ac (Aj (i:=1) Mw.nd rfl (Or.inl rfl) (Vj (pv 0) (Bz)))
   (Ac (A1 (At Cn (Ai Ag (pv 1) (Ky Gu (Af))) (Bz) (nomark _))
    (Ad (Cg (iE PySem.F.plainAttrs_list PySem.F.slot_list_pop PySem.F.type_list_pop hU (pv 1))))
    (Aq))
   (Ad (Ah (pv 1)))),?_⟩
  have hpl:=Fx 10 t;have hne:(partsOf 10 t)≠[]:=Vh 10 t;refine⟨_,rfl,⟨_,rfl⟩,_,_,rfl,rfl,by decide +kernel,by rw[Cp];exact vA (Nat.add_le_add_right ht 2) (by decide),fun q hq=>?_⟩;rw[gY,Mx,vX];obtain⟨ini,la,e⟩ :∃ini la,partsOf 10 t=ini++[la]:= ⟨_,_,(List.dropLast_concat_getLast hne).symm⟩;have e2:(partsOf 10 t).map (V.str ∘ sOf)=sV ini++[.str (sOf la)]:=by rw[e,List.map_append];rfl
  have e3:linesOf t=if la= []then ini else ini++[la]:=by
   unfold Vbirad.linesOf;dsimp only;rw[e,List.getLast?_append];simp
  rw[e2];have s1:Same H (upd H q (.lst (sV ini++[.str (sOf la)]))):=Same.upd hq;refine⟨_,rfl,_,rfl,q,_,_,_,rfl,rfl,SqL.of Ae,aJ _ _,rfl,_,rfl,?_⟩;rw[bN,Kn];refine iteB (fun h1=>?_) (fun h1=>?_)
  ·have h1:=vG h1;refine⟨_,rfl,.inl ⟨rfl,_,SqL.of Ae⟩,q,_,_,rfl,rfl,Ae,(by rw[vI,List.length_singleton,Nat.add_sub_cancel,List.getElem?_append_right (Nat.le_refl _),Nat.sub_self];rfl),?_⟩;rw[List.dropLast_concat];refine⟨_,rfl,k _ _ (fun b o eo=>?_) ⟨q,_,rfl,Ae,?_⟩⟩
   ·rw[Ak (Al eo hq),Ak (Al eo hq)];exact eo
   ·rw[e3,if_pos h1];exact Gv _
  ·have h1:=vH h1;refine⟨_,rfl,k _ _ s1 ⟨q,_,rfl,Ae,?_⟩⟩;rw[e3,if_neg h1];exact Its.app (Gv _) (.cons rfl .nil)
inductive spWords(vs:List V)(H:Hp)(Q:VK)(_e3:XK):Prop|m:∀(t:Bytes),vs= [.str (sOf t)]->t.length<=2000->Ret H (Own IsW (wordsOf t)) Q->spWords vs H Q _e3
abbrev M8:Stmt:=top 69
theorem Im:FnScope ["line","word"] ["line"] (defScope M8):=fS
theorem Ve(F:FunN K mg "words_of" M8):Df P w K mg base 1 "words_of" ["line"] spWords:=by
 refine Df.of F Im (fun vs H Q E h=>?_) (fun f cdv A outer s H vs Q E hr h=>?_)
 ·obtain⟨t,rfl,_⟩ :=h;rfl
 ·obtain⟨t,rfl,ht,k⟩ :=h;refine⟨_,Ad (Ah (Co (own:=[("word",1)]) rfl Im.nd (A0 (Vj (pv 0) (Bz))) (Ax (by rfl)) (fun _ _ _ _ _=>Am (i:=1) Im.nd rfl (Or.inl rfl)) (fun _ _ _ _ _=>Jk (At Kv (pv 1) (Bz) (nomark _))) (fun _ _ _ _ _=>pv 1))),?_⟩;have hpl:=Fx 32 t;refine⟨_,rfl,⟨_,rfl⟩,_,_,rfl,rfl,by decide +kernel,by rw[Cp];exact vA (Nat.add_le_add_right ht 2) (by decide),fun q hq=>?_⟩;rw[gZ,Mx,vX];have hq2:(upd H q (.lst ((partsOf 32 t).map (V.str ∘ sOf)))) q=some (.lst (sV (partsOf 32 t))):=Ae;have s1:Same H (upd H q (.lst ((partsOf 32 t).map (V.str ∘ sOf)))):=Same.upd hq;generalize upd H q (.lst ((partsOf 32 t).map (V.str ∘ sOf)))=H1 at hq2 s1;have WS:Seqs (Itl K q) (Same H1) (partsOf 32 t) IsW:=As (xs:=sV (partsOf 32 t)) fun H' sm=> ⟨sm.seq (SqL.of hq2),Gv _⟩;refine⟨q,rfl,⟨_,SqL.of hq2⟩,Jf (as:=partsOf 32 t) (R:=IsW) (S:=IsW) (fun w=>!w.isEmpty) id Kq WS (vO (vA hpl (Nat.add_le_add_right ht 1)) (by decide)) (fun w x H' Qe Nx hm sm' rx k1 k2=>?_) (fun D zs H3 s3 hD o=>?_)⟩
  ·obtain rfl:x=V.str (sOf w):=rx;refine⟨rfl,_,rfl,rfl,_,rfl,?_⟩;rw[bN,Kn];cases w with
   |nil=>exact iteFl rfl (k2 rfl _ (Same.refl _))
   |cons b w=>exact iteTr rfl ⟨_,rfl,k1 rfl _ _ (Same.refl _) rfl⟩
  ·rw[List.map_id]at o;exact k _ _ (s1.trans s3) ⟨D,zs,rfl,hD,o⟩
inductive spNumber(vs:List V)(H:Hp)(Q:VK)(_e3:XK):Prop|m:∀(t:Bytes),vs= [.str (sOf t)]->(∀b∈t,b < 128)->t.length<=2000->Ret H (IsI (numOf t)) Q->spNumber vs H Q _e3
abbrev Lg:Stmt:=top 70
theorem T0:FnScope ["word"] ["word"] (defScope Lg):=fS
theorem Tj(F:FunN K mg "number_of" Lg)(T:Blt mg)(R:Rdg K mg kw rn):Df P w K mg base 1 "number_of" ["word"] spNumber:=by
 refine Df.of F T0 (fun vs H Q E h=>?_) (fun f cdv A outer s H vs Q E hr h=>?_)
 ·obtain⟨t,rfl,_⟩ :=h;rfl
 ·obtain⟨t,rfl,hb,ht,k⟩ :=h;refine⟨_,Ac (A1 (PW.pt (Dv (Bf (Bk (iS PySem.F.slot_str_isdigit PySem.F.type_str_isdigit Xc (pv 0)))) (C8 (At Po (Ao F9 (by rfl) T.len PySem.boot_len (Aa (pv 0) Ab)) (pgc R.LONGEST_NUMBER) (nomark _)))))
    (Ad (Ah (pgc R.NO_NUMBER)))
    (Aq))
   (Ac (A1 (PW.pt (Tt (At Po (Ao F9 (by rfl) T.len PySem.boot_len (Aa (pv 0) Ab)) (Af) (nomark _)) (Ob (At Cn (Ai gR (pv 0) (Af)) (Bz) (nomark _)))))
    (Ad (Ah (pgc R.NO_NUMBER)))
    (Aq))
   (Ad (Ah (Cl Si (by rfl) T.int boot_int (Aa (pv 0) Ab))))),?_⟩
  have hsz:(sOf t).length<=sizeLine:=by rw[Cp];exact vA ht (by decide)
  refine⟨_,rfl,⟨_,rfl⟩,_,rfl,rfl,trivial,_,rfl,?_⟩;rw[W3 hb];refine iteB (fun h1=>?_) (fun h1=>?_)
  ·have h1:t.isEmpty=true∨t.all isDigit=false:=by
    rw[Bool.not_eq_true',Bool.and_eq_false_iff,Bool.not_eq_false']at h1;exact h1
   refine iteTr rfl (k _ _ (Same.refl _) ?_);show _=_;unfold numOf;rw[if_pos (.inl h1)]
  ·have h1:t.isEmpty=false/\t.all isDigit=true:=by
    rw[Bool.not_eq_false',Bool.and_eq_true,Bool.not_eq_true']at h1;exact h1
   refine⟨_,rfl,_,rfl,hsz,_,_,rfl,rfl,_,rfl,?_⟩;rw[Cp];refine iteB (fun h2=>?_) (fun h2=>?_)
   ·refine k _ _ (Same.refl _) ?_;show _=_;unfold numOf;rw[if_pos (.inr (by have:=of_decide_eq_true h2;omega))]
   ·have h2:=vH h2;have c1:¬((t.isEmpty=true∨t.all isDigit=false)∨8 < t.length):=by
     rintro ((z|z)|z)
     ·rw[h1.1]at z;cases z
     ·rw[h1.2]at z;cases z
     ·omega
    have hne:t≠[]:=fun z=>by rw[z]at h1;exact absurd h1.1 (by decide)
    have hfin:¬(1 < t.length/\t.head? =some 48)->Q (.int (numOf t)) H->Q (.int (numOf t)) H:=fun _ h=>h;refine⟨_,rfl,_,rfl,hsz,_,_,rfl,rfl,_,rfl,?_⟩;rw[Cp];have hint:¬(1 < t.length/\t.head? =some 48)->numOf t=((Vbirad.value t:Nat):Int):=fun z=>by
     unfold numOf;rw[if_neg c1,if_neg z]
    refine iteB (fun h3=>?_) (fun h3=>?_)
    ·have h3:=vG h3;obtain⟨c,hc⟩ :∃c,t.head? =some c:=by
      cases t with
      |nil=>exact absurd rfl hne
      |cons c t=>exact⟨c,rfl⟩
     have hat:atI (sOf t).cps.toList 0=some c:=by
      rw[Ep];exact A4 (j:=0) (by rw[<-List.head?_eq_getElem?];exact hc)
     refine⟨_,rfl,_,_,c,rfl,rfl,hsz,hat,rfl,_,rfl,?_⟩;rw[show(("0":String):Str)=sOf [48]by decide +kernel,show(⟨#[c]⟩ :Str)=sOf [c] from rfl,Kn];refine iteB (fun h4=>?_) (fun h4=>?_)
     ·have h4:=of_decide_eq_true h4;refine k _ _ (Same.refl _) ?_;show _=_;unfold numOf;rw[if_neg c1,if_pos ⟨by omega,by rw[hc];injection h4 with h4;rw[h4]⟩]
     ·have h4:=vH h4;refine⟨_,rfl,_,_,rfl,bI h1.2 hne (by omega),by rw[Cp];omega,k _ _ (Same.refl _) ?_⟩;show _=_;rw[hint fun z=>h4 (by rw[hc]at z;injection z.2 with z2;rw[z2])]
    ·have h3:=vH h3;refine iteFl rfl ⟨_,rfl,_,_,rfl,bI h1.2 hne (by omega),by rw[Cp];omega,k _ _ (Same.refl _) ?_⟩;show _=_;rw[hint fun z=>h3 (by omega)]
inductive spIsName(vs:List V)(H:Hp)(Q:VK)(_e3:XK):Prop|m:∀(t:Bytes),vs= [.str (sOf t)]->(∀b∈t,b < 128)->t.length<=2000->Ret H (IsB (nameB t)) Q->spIsName vs H Q _e3
abbrev P6:Stmt:=top 71
theorem Kc:FnScope ["word","sign"] ["word"] (defScope P6):=fS
theorem Xj(F:FunN K mg "is_name" P6)(T:Blt mg)(R:Rdg K mg kw rn):Df P w K mg base 1 "is_name" ["word"] spIsName:=by
 refine Df.of F Kc (fun vs H Q E h=>?_) (fun f cdv A outer s H vs Q E hr h=>?_)
 ·obtain⟨t,rfl,_⟩ :=h;rfl
 ·obtain⟨t,rfl,hb,ht,k⟩ :=h;refine⟨_,Ac (A1 (PW.pt (Dv (At Po (Ao F9 (by rfl) T.len PySem.boot_len (Aa (pv 0) Ab)) (pgc R.LONGEST_NAME) (nomark _)) (Dv (At D4 (pv 0) (pgt R.KEPT_WORDS) (by with_unfolding_all rfl)) (C8 (At D4 (pv 0) (pgt R.RULE_NAMES) (by with_unfolding_all rfl))))))
    (Ad (Ah (gC)))
    (Aq))
   (Ad (Ah (Ao (Sl rfl) (by rfl) T.all boot_all (Aa (Co (own:=[("sign",1)]) rfl Kc.nd (Xr (pv 0)) (Ax (by rfl)) (fun _ _ _ _ _=>Am (i:=1) Kc.nd rfl (Or.inl rfl)) (fun _ _ _ _ _=>A6) (fun _ _ _ _ _=>D9 Xm (pv 1) (pgs R.LETTERS) (by with_unfolding_all rfl))) Ab)))),?_⟩
  have hsz:(sOf t).length<=sizeLine:=by rw[Cp];exact vA ht (by decide)
  have hno:(8 < t.length∨KEYS.contains t=true)->Q (.bl false) H:=fun z=>k _ _ (Same.refl _) (by
   show _=_;unfold nameB;rw[if_pos z])
  refine⟨_,rfl,_,rfl,hsz,_,_,rfl,rfl,_,rfl,?_⟩;rw[Cp];refine iteB (fun h1=>iteTr rfl (hno (.inl (by have:=vG h1;omega)))) (fun h1=>?_);have h1:=vH h1;refine⟨_,rfl,kw,_,rfl,.inr (R.KEPT_WORDS.its _),rfl,Gn _,_,rfl,?_⟩;show if inV (.str (sOf t)) (sV keptB)=true then _ else _
  rw[Ur];refine iteB (fun h2=>iteTr rfl (hno (.inr ?_))) (fun h2=>?_)
  ·rw[List.contains_iff_mem];exact List.mem_append_left _ (vG h2)
  refine⟨_,rfl,rn,_,rfl,.inr (R.RULE_NAMES.its _),rfl,Gn _,_,rfl,?_⟩;show if inV (.str (sOf t)) (sV RULES)=true then _ else _
  rw[Ur];refine iteB (fun h3=>hno (.inr ?_)) (fun h3=>?_)
  ·rw[List.contains_iff_mem];exact List.mem_append_right _ (vG h3)
  have h2:=vH h2;have h3:=vH h3;have hyes:nameB t=t.all isSmall:=by
   unfold nameB;rw[if_neg];rintro (z|z)
   ·omega
   ·rw[List.contains_iff_mem]at z;rcases v7 z with z|z
    ·exact h2 z
    ·exact h3 z
  refine⟨_,rfl,_,rfl,Bx (as:=t) (R:=fun c v _=>v=V.str ⟨#[c]⟩) (S:=IsB) isSmall So P2 (vO ht (by decide)) (fun c x H' Qe hm sm' rx kk=>?_) (fun _ _ _ _ h q=>A2 h q) (fun D zs H3 s3 hD o=>?_)⟩
  ·obtain rfl:x=V.str ⟨#[c]⟩ :=rx;refine⟨rfl,_,rfl,_,_,rfl,rfl,kk _ _ (Same.refl _) ?_⟩;show _=_;rw[Ep];have:∀c,c < 128->decide (c∈lettersB)=isSmall c:=by decide +kernel
   rw[this c (hb c hm)]
  ·have e:=Ut o;subst e;refine⟨D,t.map isSmall,rfl,SqL.of hD,k _ _ s3 ?_⟩;show _=_;rw[hyes,List.all_map];rfl
end
theorem Z9{ps:List Party}(h:∀p∈ps,(mem p).length<=8):(taken ps).length<=8 * ps.length:=by
 unfold taken
 induction ps with
 |nil=>exact Nat.le_refl _
 |cons p ps ih=>
  have:=ih fun q hq=>h q (by simp[hq]);have h2:(memsOf p).length<=8:=h p (by simp);rw[List.flatMap_cons,List.length_append,List.length_cons];omega
theorem X4{ps:List Party}{p:Party}:taken (ps++[p])=taken ps++mem p:=by
 unfold taken;rw[List.flatMap_append,List.flatMap_cons,List.flatMap_nil,List.append_nil];rfl
section
variable {P:Program}{w:World}{K:PySem.W.Frag}{mg:Str->Option Value}{base:Heap}{kw rn:Addr}{C:Addr}
inductive spNames(K:PySem.W.Frag)(C:Addr)(vs:List V)(H:Hp)(Q:VK)(_e3:XK):Prop|m:∀(ps:List Party) (v:V),vs= [v]->Lst K (PtR C) ps v H->ps.length<=30->Ret H (Own IsW (ps.map fun p=>p.name)) Q->spNames K C vs H Q _e3
abbrev M6:Stmt:=top 72
theorem Ik:FnScope ["parties","party"] ["parties"] (defScope M6):=fS
theorem Vc(F:FunN K mg "names_of" M6)(Y:Pty K mg C):Df P w K mg base 1 "names_of" ["parties"] (spNames K C):=by
 refine Df.of F Ik (fun vs H Q E h=>?_) (fun f cdv A outer s H vs Q E hr h=>?_)
 ·obtain⟨ps,v,rfl,_⟩ :=h;rfl
 ·obtain⟨ps,_,rfl,⟨p,xs,rfl,hl,hi⟩,h30,k⟩ :=h;refine⟨_,Ad (Ah (Co (own:=[("party",1)]) rfl Ik.nd (A0 (pv 0)) (Ax (by rfl)) (fun _ _ _ _ _=>Am (i:=1) Ik.nd rfl (Or.inl rfl)) (fun _ _ _ _ _=>A6) (fun _ _ _ _ _=>Kx (K:=K) rfl (pv 1) rfl))),?_⟩;have WS:Seqs (Itl K p) (Same H) ps (PtR C):=As (xs:=xs) fun H' sm=> ⟨sm.seq hl,hi.keep fun a v r=>Bv _ _ _ _ sm r⟩;refine⟨_,rfl,p,rfl,⟨_,hl⟩,Bx (as:=ps) (R:=PtR C) (S:=IsW) (fun p=>p.name) Kq WS (vO h30 (by decide)) (fun pt x H' Qe hm sm' rx kk=>?_) (fun _ _ _ _ h q=>A2 h q) (fun D zs H5 s5 hD o=>?_)⟩
  ·obtain⟨a,rfl,dx,pm,nm,g1,g2,g3⟩ :=rx;refine⟨rfl,_,rfl,a,C,dx,_,_,rfl,g1,Y.cl,Y.nName,K0,kk _ _ (Same.refl _) ?_⟩;show _=_;rw[<-g2,Qi]
  ·exact k _ _ s5 ⟨D,zs,rfl,hD,o⟩
inductive spTaken(K:PySem.W.Frag)(C:Addr)(vs:List V)(H:Hp)(Q:VK)(_e3:XK):Prop|m:∀(ps:List Party) (v:V),vs= [v]->Lst K (PtR C) ps v H->PWf ps->Ret H (Own IsN (taken ps)) Q->spTaken K C vs H Q _e3
abbrev F4:Stmt:=top 73
theorem D7:FnScope ["parties","taken","party"] ["parties"] (defScope F4):=fS
theorem L7(F:FunN K mg "taken_members" F4)(Y:Pty K mg C):Df P w K mg base 1 "taken_members" ["parties"] (spTaken K C):=by
 refine Df.of F D7 (fun vs H Q E h=>?_) (fun f cdv A outer s H vs Q E hr h=>?_)
 ·obtain⟨ps,v,rfl,_⟩ :=h;rfl
 ·obtain⟨ps,_,rfl,⟨p,xs,rfl,hl,hi⟩,wf,k⟩ :=h;refine⟨_,Ac (Aj (i:=1) D7.nd rfl (Or.inl rfl) (Av (Ab)))
   (Ac (Ch PassesOwn.never rfl (A0 (pv 0)) (Am (i:=2) D7.nd rfl (Or.inl rfl))
    (Ad (Cg (Eh PySem.F.plainAttrs_list PySem.F.slot_list_extend PySem.F.type_list_extend Jg (pv 1) (Aa (Ap (pv 2) rfl) Ab)))))
   (Ad (Ah (pv 1)))),?_⟩
  refine⟨vW _,fun q hq=>?_⟩;have s1:Same H (upd H q (.lst [])):=Same.upd hq;have h30:=wf.len;refine⟨_,rfl,p,rfl,⟨xs,s1.seq hl⟩,Bi (B:=Same H) (as:=ps) (R:=PtR C) (As (xs:=xs) fun H' sm=> ⟨sm.seq hl,hi.keep fun a v r=>Bv _ _ _ _ sm r⟩)
   (fun i σ H'=>Same H H'/\∃(a:Option V),σ= [some (.ref p),some (.ref q),a]/\H' q=some (.lst ((taken (ps.take i)).map fun(m:Nat)=>V.int (m:Int)))) ⟨s1,none,rfl,Ae⟩ (fun i σ H' h=>h.1) ?_ ?_⟩
  ·rintro i pt x σ H2 H3 hpt ⟨sm,a1,rfl,hys⟩ s3 ⟨a,rfl,dx,pm,nm,h1,h2,h3⟩;have hil:i < ps.length:=(vF hpt).1;have ht:(taken (ps.take i)).length<=8 * (ps.take i).length:=Z9 fun p hp=>wf.few p (List.mem_of_mem_take hp);have hf:=wf.few pt (vD hpt);rw[vU]at ht;refine⟨_,rfl,.inl ⟨rfl,_,SqL.of (s3 _ _ hys)⟩,_,rfl,a,C,dx,_,_,rfl,h1,Y.cl,Y.nMembers,Bj,q,pm,_,_,rfl,rfl,s3 _ _ hys,h3,?_,fun b o eo=>?_,_,rfl,?_⟩
   ·rw[vB,vB];exact vA (show _<=300 by omega) (by decide)
   ·rw[Ak (Al eo hq)];exact(sm.trans s3) b o eo
   ·rw[Ae,Bm hpt,X4,List.map_append]
  ·rintro σ H2 ⟨sm,a1,rfl,hys⟩;rw[v6]at hys;refine⟨_,rfl,k _ _ sm ⟨q,_,rfl,hys,?_⟩⟩;generalize taken ps=l
   induction l with
   |nil=>exact .nil
   |cons a l ih=>exact .cons rfl ih
def Opt{α:Type}(R:Rel α):Rel (Option α):=fun o v H=>match o with
 |none=>v=.non
 |some a=>R a v H
theorem Qq{ps:List Party}{w:Bytes}{m:Nat}(h:find ps w=some m):(∃p,ps[m]? =some p/\p.name=w)/\∀j p,j < m->ps[j]? =some p->p.name≠w:=by
 unfold find at h;rw[List.findIdx?_eq_some_iff_getElem]at h;obtain⟨h1,h2,h3⟩ :=h;refine⟨⟨_,List.getElem?_eq_getElem h1,by simpa using h2⟩,fun j p hj hp=>?_⟩;have:=h3 j hj;rw[List.getElem?_eq_getElem (by omega)]at hp;injection hp with hp
 rw[<-hp];simpa using this
theorem D8{ps:List Party}{w:Bytes}:find ps w=none↔w∉ps.map fun p=>p.name:=by
 unfold find;rw[List.findIdx?_eq_none_iff];constructor
 ·intro h hm;obtain⟨p,hp,e⟩ :=List.mem_map.mp hm;have:=h p hp;simp[e]at this
 ·intro h p hp;simp only [beq_eq_false_iff_ne,ne_eq];exact fun e=>h (List.mem_map.mpr ⟨p,hp,e⟩)
theorem Oa{l:List Nat}:(l.map fun(m:Nat)=>V.int (m:Int)).all flatV=true:=by
 rw[List.all_map,List.all_eq_true];intro w _;rfl
theorem bH(m:Nat)(l:List Nat):inV (.int (m:Int)) (l.map fun(m:Nat)=>V.int (m:Int))=decide (m∈l):=by
 unfold inV;rw[List.any_map,Bool.eq_iff_iff,List.any_eq_true,decide_eq_true_iff];constructor
 ·rintro ⟨x,hx,e⟩;have e:((x:Int) == (m:Int))=true:=e;rw[beq_iff_eq]at e;have:x=m:=by omega
  rw[<-this];exact hx
 ·intro h;exact⟨m,h,by show((m:Int) == (m:Int))=true;simp⟩
theorem Ya{H:Hp}:∀(l:List Nat),Its IsN H l (l.map fun(m:Nat)=>V.int (m:Int))
 | []=>.nil
 |a::l=>.cons rfl (Ya l)
theorem O2{H:Hp}:∀{l:List Nat} {xs:List V},Its IsN H l xs->xs=l.map fun(m:Nat)=>V.int (m:Int)
 |_,_,.nil=>rfl
 |a::l,x::xs,.cons h t=>by
  have:x=V.int (a:Int):=h;rw[this,O2 t];rfl
inductive spRMem(K:PySem.W.Frag)(C:Addr)(vs:List V)(H:Hp)(Q:VK)(_e3:XK):Prop|m:∀(ws:List Bytes) (ps:List Party) (x v:V),vs= [x,v]->Lst K IsW ws x H->Lst K (PtR C) ps v H->PWf ps->Ret H (Opt (Own IsN) (readM ps ws)) Q->spRMem K C vs H Q _e3
abbrev Hi:Stmt:=top 74
theorem B1:FnScope ["words","parties","names","taken","members","word","member"] ["words","parties"] (defScope Hi):=fS
theorem Nr(F:FunN K mg "read_members" Hi)(T:Blt mg)(R:Rdg K mg kw rn)(wY:Df P w K mg base 1 "names_of" ["parties"] (spNames K C))(wM:Df P w K mg base 1 "taken_members" ["parties"] (spTaken K C)):
  Df P w K mg base 2 "read_members" ["words","parties"] (spRMem K C):=by
 refine Df.of F B1 (fun vs H Q E h=>?_) (fun f cdv A outer s H vs Q E hr h=>?_)
 ·obtain⟨ws,ps,x,v,rfl,_⟩ :=h;rfl
 ·obtain⟨ws,ps,_,v,rfl,⟨p,xs,rfl,hl,hi⟩,lp,wf,k⟩ :=h;obtain rfl:=Gw hi;refine⟨_,Ac (A1 (Bf (Ct C4 C4 (Af) (Ao An (by rfl) T.len PySem.boot_len (Aa (pv 0) Ab)) (pgc R.MOST_MEMBERS)))
    (Ad (Ah (D5)))
    (Aq))
   (Ac (Aj (i:=2) B1.nd rfl (Or.inl rfl) (pd wY hr (Aa (pv 1) Ab)))
   (Ac (Aj (i:=3) B1.nd rfl (Or.inl rfl) (pd wM hr (Aa (pv 1) Ab)))
   (Ac (Aj (i:=4) B1.nd rfl (Or.inl rfl) (Av (Ab)))
   (Ac (Ch PassesOwn.never rfl (A0 (pv 0)) (Am (i:=5) B1.nd rfl (Or.inl rfl))
    (Ac (A1 (At Gi (pv 5) (pv 2) (by with_unfolding_all rfl))
     (Ad (Ah (D5)))
     (Aq))
    (Ac (Aj (i:=6) B1.nd rfl (Or.inl rfl) (Eh PySem.F.plainAttrs_list PySem.F.slot_list_index PySem.F.type_list_index U2 (pv 2) (Aa (pv 5) Ab)))
    (Ac (A1 (PW.pt (Dv (At D4 (pv 6) (pv 3) (by with_unfolding_all rfl)) (C8 (At D4 (pv 6) (pv 4) (by with_unfolding_all rfl)))))
     (Ad (Ah (D5)))
     (Aq))
    (Ad (Cg (Eh PySem.F.plainAttrs_list PySem.F.slot_list_append PySem.F.type_list_append Dc (pv 4) (Aa (pv 6) Ab))))))))
   (Ad (Ah (pv 4))))))),?_⟩
  have hno:∀H',Same H H'->readM ps ws=none->Q .non H':=fun H' sm e=>k _ _ sm (by rw[e];rfl);refine⟨_,rfl,p,_,rfl,.inl hl,_,_,rfl,rfl,_,rfl,?_⟩;rw[C9];refine iteB (fun h1=>?_) (fun h1=>?_)
  ·refine⟨_,_,rfl,rfl,_,rfl,?_⟩;have h1:=vG h1;refine iteB (fun h2=>?_) (fun h2=>?_)
   ·refine hno _ (Same.refl _) ?_;unfold readM;rw[if_neg];have h2:decide (((ws.length:Nat):Int)<=8)=false:=by simpa using h2
    have:=vH h2;omega
   ·have h2:decide (((ws.length:Nat):Int)<=8)=true:=by simpa using h2
    have h2:=vG h2;have hrm:readM ps ws=mems ps ws []:=by
     unfold readM;rw[if_pos (by omega)]
    refine⟨_,rfl,ps,v,rfl,lp,wf.len,?_⟩;rintro _ H2 s2 ⟨pn,ys,rfl,hpn,iys⟩;obtain rfl:=Gw iys;refine⟨_,rfl,ps,v,rfl,Lst.keep Bv _ _ _ _ s2 lp,wf,?_⟩;rintro _ H3 s3 ⟨pt,zs,rfl,hpt,izs⟩;obtain rfl:=O2 izs;refine⟨vW _,fun q hq=>?_⟩;have s4:Same H3 (upd H3 q (.lst [])):=Same.upd hq;have s23:=s2.trans s3;refine⟨_,rfl,p,rfl,⟨_,(s23.trans s4).seq hl⟩,Bi (B:=Same H3) (as:=ws) (R:=IsW) (As (xs:=sV ws) fun H' sm=> ⟨(s23.trans sm).seq hl,Gv _⟩)
     (fun i σ H'=>Same H3 H'/\∃(a b:Option V) (acc:List Nat),σ= [some (.ref p),some v,some (.ref pn),some (.ref pt),some (.ref q),a,b]/\H' q=some (.lst (acc.map fun(m:Nat)=>V.int (m:Int)))/\acc.length=i/\mems ps ws []=mems ps (ws.drop i) acc)
     ⟨s4,none,none,[],rfl,Ae,rfl,rfl⟩ (fun i σ H' h=>h.1) ?_ ?_⟩
    ·rintro i wd x σ H5 H6 hwd ⟨sm,a1,b1,acc,rfl,hacc,hal,hm⟩ s6 rfl;have hil:i < ws.length:=(vF hwd).1;have hdrop:ws.drop i=wd::ws.drop (i + 1):=by
      rw[List.drop_eq_getElem_cons hil];congr 1;rw[vC hil]at hwd;exact vE hwd
     rw[hdrop]at hm;have s36:=sm.trans s6;have hacc':=s6 _ _ hacc;have hend:find ps wd=none->readM ps ws=none:=fun e=>by
      rw[hrm,hm];unfold mems;rw[e]
     refine⟨_,rfl,_,rfl,pn,_,rfl,.inl (SqL.of (s36 _ _ (s3 _ _ hpn))),rfl,Gn _,_,rfl,?_⟩;show if (!inV (.str (sOf wd)) (sV (ps.map fun p=>p.name)))=true then _ else _
     rw[Ur];cases hf:find ps wd with
     |none=>
      have:=D8.mp hf;exact iteTr (by simpa using this) (hno _ (s23.trans s36) (hend hf))
     |some m=>
      have hin:wd∈ps.map fun p=>p.name:=Classical.byContradiction fun z=>by
       rw[D8.mpr z]at hf;cases hf
      refine iteFl (by simpa using hin) ?_;obtain⟨⟨pp,hpp,hpe⟩,hlow⟩ :=Qq hf;refine⟨_,rfl,.inl ⟨rfl,_,SqL.of (s36 _ _ (s3 _ _ hpn))⟩,_,rfl,pn,sV (ps.map fun p=>p.name),_,m,.str (sOf wd),rfl,rfl,SqL.of (s36 _ _ (s3 _ _ hpn)),rfl,Gn _,?_,(by show(sOf wd == sOf wd)=true;simp),?_,?_⟩
      ·unfold sV;rw[List.getElem?_map,List.getElem?_map,hpp];show some (V.str (sOf pp.name))=_;rw[hpe]
      ·intro j z hj hz;unfold sV at hz;rw[List.getElem?_map,List.getElem?_map]at hz;cases hpj:ps[j]? with
       |none=>rw[hpj]at hz;cases hz
       |some pj=>
        rw[hpj]at hz;have hz:some (V.str (sOf pj.name))=some z:=hz;injection hz with hz
        rw[<-hz];show(sOf pj.name == sOf wd)=false;rw[beq_eq_false_iff_ne];exact fun e=>hlow j pj hj hpj (Oc e)
      ·refine⟨_,rfl,_,rfl,pt,_,rfl,.inl (SqL.of (s36 _ _ hpt)),rfl,Oa,_,rfl,?_⟩;show if inV (.int (m:Int)) ((taken ps).map fun(m:Nat)=>V.int (m:Int))=true then _ else _
       rw[bH];have hbad:(m∈taken ps∨m∈acc)->readM ps ws=none:=fun e=>by
        rw[hrm,hm];unfold mems;rw[hf];dsimp only;rw[if_pos e]
       refine iteB (fun h4=>iteTr rfl (hno _ (s23.trans s36) (hbad (.inl (vG h4))))) (fun h4=>?_);have h4:=vH h4;refine⟨_,rfl,_,rfl,q,_,rfl,.inl (SqL.of hacc'),rfl,Oa,_,rfl,?_⟩;show if inV (.int (m:Int)) (acc.map fun(m:Nat)=>V.int (m:Int))=true then _ else _
       rw[bH];refine iteB (fun h5=>hno _ (s23.trans s36) (hbad (.inr (vG h5)))) (fun h5=>?_);have h5:=vH h5;refine⟨_,rfl,.inl ⟨rfl,_,SqL.of hacc'⟩,_,rfl,q,_,_,rfl,rfl,hacc',?_,fun b o eo=>?_,_,_,acc++[m],rfl,?_,?_,?_⟩
       ·rw[vB];exact vO (show _<=8 by omega) (by decide)
       ·rw[Ak (Al eo hq)];exact s36 b o eo
       ·rw[Ae,List.map_append];rfl
       ·rw[vI,List.length_singleton,hal]
       ·rw[hm]
        conv=>lhs;unfold mems
        rw[hf];dsimp only;rw[if_neg (by rintro (z|z);exact h4 z;exact h5 z)]
    ·rintro σ H5 ⟨sm,a1,b1,acc,rfl,hacc,hal,hm⟩;rw[List.drop_length]at hm;refine⟨_,rfl,k _ _ (s23.trans sm) ?_⟩;rw[hrm,hm];exact⟨q,_,rfl,hacc,Ya _⟩
  ·refine⟨_,rfl,?_⟩;refine iteTr rfl (hno _ (Same.refl _) ?_);have h1:=of_decide_eq_false h1;unfold readM;rw[if_neg (by omega)]
end
end Dr
namespace L2
open PySem PySem.Spec PyProof.Rows SeqAt Builtin
theorem Ln{M:Model}{A:Around}{E:Value->Shared->Prop}{s:Shared}{β:Type}(f:Nat->β->Sem (ForInStep β))(I:List Nat->β->Shared->Prop)(Q:β->Shared->Prop)
  (turn:∀x rest b s,I (x::rest) b s->wpAny M A (f x b) (fun r s'=>match r with|.yield b'=>I rest b' s'|.done b'=>Q b' s') E s)
  (fin:∀b s,I [] b s->Q b s) (r:Std.Legacy.Range) (init:β) (h:I (List.range' r.start r.size r.step) init s):wpAny M A (forIn r init f) Q E s:=by
 rw[Std.Legacy.Range.forIn_eq_forIn_range'];exact wpAny_forIn_list f I Q turn fin _ init h
theorem Ra(l:Addr)(items:Array Value)(n:Nat)(dd:Option Addr)(sl:Array (Option Value))(x:Value)(e:Value->Bool)(j:Nat)(hj:j < items.size)
  (hit:e items[j]=true) (hno:∀m (hm:m < items.size),m < j->e items[m]=false):
  Meets (Builtin.«tuple.index» ⟨[.ref l,x],[]⟩)
   (fun A R s=>s.heap.get? l=some {cls:=.type "tuple",dict:=dd,data:=.seq items n,slots:=sl}/\(∀y,y∈items->EqAt A.in1 s y x (e y))/\R (.ok (.ret (.int j s.toks))) {s with toks:=s.toks + 1}):=
 .of_wp fun prog w A R s h=>by
  obtain⟨hp,g,d,tk,os⟩ :=s;obtain⟨hl,he,h⟩ :=h
  wp_walk using wpAny_loadPart' hl,Ln _ (fun rest b s'=>b.1=none/\s'= ⟨hp,g,d,tk,os⟩ /\∃i,i<=j/\rest=List.range' i (items.size - i)) _
  case turn=>
   rintro i rest b s' ⟨hb,rfl,i',hij,hr⟩;have hlt:i' < items.size:=by omega
   rw[show items.size - i'=(items.size - (i' + 1)) + 1 by omega,List.range'_succ]at hr;injection hr with hr1 hr2
   subst hr1;rw[show items[i]? =some items[i]by simp[hlt]];refine wpAny_bind (he items[i] (by simp) prog w _ _ ?_);by_cases hc:i=j
   ·subst hc;rw[hit]
    wp_walk
    exact⟨_,rfl,h⟩
   ·rw[hno i hlt (by omega)]
    wp_walk
    exact⟨rfl,rfl,i + 1,by omega,hr2⟩
  case fin=>
   rintro ⟨b1,b2⟩ s' ⟨hb,rfl,i,hij,hr⟩;exfalso;rw[show items.size - i=(items.size - (i + 1)) + 1 by omega,List.range'_succ]at hr;cases hr
  case h=>
   refine⟨rfl,rfl,0,Nat.zero_le _,?_⟩;simp[Std.Legacy.Range.size]
section
variable {X:Cx}
inductive rTIndex(K:PySem.W.Frag)(x:V)(xs:List V)(H:Hp)(Q:VK):Prop|m:∀(a:Addr) (ys:List V) (y:V) (j:Nat) (z:V),x=V.ref a->xs= [y]->SqT K H a ys->flatV y=true->ys.all flatV=true->ys[j]? =some z->eqV z y=true->(∀(m:Nat) (z':V),m < j->ys[m]? =some z'->eqV z' y=false)->Q (.int (j:Nat)) H->rTIndex K x xs H Q
theorem Zr:MtR X "tuple.index" (rTIndex X.K):=by
 intro pins s σ H x xs v us Q I rx rxs h;obtain⟨a,ys,y,j,z,rfl,rfl,hs,fy,fys,hz,hzj,hno,q⟩ :=h;cases rx;cases rxs with
 |cons ry rt=>
  rename_i uy ut
  cases rt;obtain⟨its,rv,⟨⟨cls,dd,data,sl⟩,ho,hc,n,hd⟩,hlen⟩ :=I.tuple hs;simp only at hc hd;subst hc hd;obtain⟨u,hu,ru⟩ :=rv.get hz;obtain⟨hjl,hje⟩ :=List.getElem?_eq_some_iff.mp hu;have hvl:=rv.length;have hj:j < its.toArray.size:=by simpa using hjl
  refine call_meets PySem.F.slot_tuple_index ⟨_,ho,rfl⟩ PySem.F.entry_tuple_index (PySem.F.args_tuple_index_2 _ _)
   (Ra a its.toArray n dd sl uy (eqU y) j hj ?_ ?_) ⟨ho,fun u' hu'=>E3 ry fy rv fys u' (by simpa using hu'),?_⟩
  ·have e1:its.toArray[j]=u:=by simpa using hje
   rw[e1,Lu ru (N5 fys hz)];exact hzj
  ·intro m hm hmj;have hml:m < its.length:=by simpa using hm
   have hmy:m < ys.length:=by omega
   have hy':ys[m]? =some ys[m]:=List.getElem?_eq_getElem hmy;obtain⟨u2,hu2,ru2⟩ :=rv.get hy';obtain⟨_,hme⟩ :=List.getElem?_eq_some_iff.mp hu2;have e1:its.toArray[m]=u2:=by simpa using hme
   rw[e1,Lu ru2 (N5 fys hy')];exact hno m _ hmj hy'
  ·exact⟨.int (j:Nat),H,I.tok _,⟨_,rfl⟩,q⟩
end
end L2
namespace Dr
open Vbirad (Q Party Kind House Bytes text partsOf wordsOf linesOf numberIn isName isDigit isSmall find findAll weightIn lineOf readFrom readSharing RULES KEYS free distinct CLAIM WEIGHT MEMBERS PARTIES whole_ Call WATER byChance byParts claimOf claimsIn digits evenly fact halves inOrder isGroup isMember isParty isPerson leastFor levelFrom losses membersOf nums onSharing partyAt printParty printSharing proofOf qRow risen ruleOf setClaim setRule shareBy shareFrom shareOf spaced subsets sumQ weightsIn)
open PySem PySem.Spec PyProof.Rows L2
def Wd(ws:List Bytes):Prop:=ws.length<=2001/\∀w∈ws,(∀b∈w,b < 128)/\w.length<=2000
theorem cX{ws:List Bytes}{i:Nat}(h:i < ws.length):(sV ws)[i]? =some (.str (sOf (ws.getD i []))):=by
 unfold sV;rw[List.getElem?_map,List.getD_eq_getElem?_getD,List.getElem?_eq_getElem h];rfl
theorem Oy{ws:List Bytes}{i:Nat}(h:i < ws.length):ws.getD i []∈ws:=by
 rw[vS,vC h];exact List.getElem_mem _
theorem atW{ws:List Bytes}(i:Nat)(h:i < ws.length):atI (sV ws) (i:Int)=some (.str (sOf (ws.getD i []))):=A4 (cX h)
inductive NewP(C:Addr)(H:Hp)(p:Party)(v:V)(H':Hp):Prop|m:∀a pm,v=.ref a->H a=none->PartyAtM C p a pm H'->(mem p= []->H pm=none)->NewP C H p v H'
section
variable {P:Program}{w:World}{K:PySem.W.Frag}{mg:Str->Option Value}{base:Heap}{kw rn:Addr}{C:Addr}
theorem Same.noneBack{H H':Hp}(s:Same H H'){a:Addr}(h:H' a=none):H a=none:=by
 cases e:H a with
 |none=>rfl
 |some o=>rw[s _ _ e]at h;cases h
inductive spRPer(K:PySem.W.Frag)(C:Addr)(vs:List V)(H:Hp)(Q:VK)(_e3:XK):Prop|m:∀(ws:List Bytes) (wt:Nat) (x:V),vs= [x,.int (wt:Int)]->Lst K IsW ws x H->Wd ws->Ret H (Opt (NewP C H) (readP ws wt)) Q->spRPer K C vs H Q _e3
abbrev Iy:Stmt:=top 75
theorem Il:FnScope ["words","weight","claim"] ["words","weight"] (defScope Iy):=fS
theorem Pj(F:FunN K mg "read_person" Iy)(T:Blt mg)(R:Rdg K mg kw rn)(wV:Df P w K mg base 1 "number_of" ["word"] spNumber)(wN:Df P w K mg base 3 "make_person" ["name","weight","claim"] (spPerson C)):
  Df P w K mg base 4 "read_person" ["words","weight"] (spRPer K C):=by
 refine Df.of F Il (fun vs H Q E h=>?_) (fun f cdv A outer s H vs Q E hr h=>?_)
 ·obtain⟨ws,wt,x,rfl,_⟩ :=h;rfl
 ·obtain⟨ws,wt,_,rfl,⟨p,xs,rfl,hl,hi⟩,hw,k⟩ :=h;obtain rfl:=Gw hi;refine⟨_,Ac (A1 (PW.pt (Dv (At Kv (Ao An (by rfl) T.len PySem.boot_len (Aa (pv 0) Ab)) (Af) (nomark _)) (C8 (At Kv (Ai Ag (pv 0) (Af)) (Bz) (nomark _)))))
    (Ad (Ah (D5)))
    (Aq))
   (Ac (Aj (i:=2) Il.nd rfl (Or.inl rfl) (pd wV hr (Aa (Ai Ag (pv 0) (Af)) Ab)))
   (Ac (A1 (Bf (Ct C4 C4 (Af) (pv 2) (pgc R.MOST_CLAIMED)))
    (Ad (Ah (D5)))
    (Aq))
   (Ad (Ah (pd wN hr (Aa (Ai Ag (pv 0) (Af)) (Aa (pv 1) (Aa (pv 2) Ab)))))))),?_⟩
  have hno:∀H',Same H H'->readP ws wt=none->Q .non H':=fun H' sm e=>k _ _ sm (by rw[e];rfl);refine⟨_,rfl,p,_,rfl,.inl hl,rfl,_,rfl,?_⟩;rw[C9,Br];refine iteB (fun h1=>iteTr rfl (hno _ (Same.refl _) ?_)) (fun h1=>?_)
  ·have h1:ws.length≠4:=by
    have:=of_decide_eq_false (by simpa using h1:decide (((ws.length:Nat):Int)=4)=false);omega
   unfold readP;rw[if_pos (.inl h1)]
  ·have h1:ws.length=4:=by
    have:=of_decide_eq_true (by simpa using h1:decide (((ws.length:Nat):Int)=4)=true);omega
   refine⟨_,rfl,p,_,_,_,rfl,rfl,hl,atW 2 (by omega),rfl,_,rfl,?_⟩;rw[Dj "claims",Kn];refine iteB (fun h2=>hno _ (Same.refl _) ?_) (fun h2=>?_)
   ·have h2:=of_decide_eq_false (by simpa using h2:decide (ws.getD 2 []=text "claims")=false);unfold readP;rw[if_pos (.inr h2)]
   ·have h2:=of_decide_eq_true (by simpa using h2:decide (ws.getD 2 []=text "claims")=true);have hm:=hw.2 _ (Oy (ws:=ws) (i:=3) (by omega));refine⟨_,rfl,p,_,_,_,rfl,rfl,hl,atW 3 (by omega),_,rfl,hm.1,hm.2,?_⟩;rintro _ H2 s2 rfl;have hgo:readP ws wt=if 0<=numOf (ws.getD 3 [])/\numOf (ws.getD 3 [])<=1000000 then some {name:=ws.getD 1 [],weight:=wt,kind:=.person (numOf (ws.getD 3 [])).toNat}else none:=by
     unfold readP;rw[if_neg (by rintro (z|z);exact z h1;exact z h2)]
    refine⟨_,rfl,_,_,rfl,rfl,_,rfl,?_⟩;refine iteB (fun h3=>?_) (fun h3=>?_)
    ·have h3:=vG h3;refine⟨_,_,rfl,rfl,_,rfl,?_⟩;refine iteB (fun h4=>hno _ s2 ?_) (fun h4=>?_)
     ·have h4:=of_decide_eq_false (by simpa using h4:decide (numOf (ws.getD 3 [])<=1000000)=false);rw[hgo,if_neg (fun z=>h4 z.2)]
     ·have h4:=of_decide_eq_true (by simpa using h4:decide (numOf (ws.getD 3 [])<=1000000)=true);obtain⟨c,hc⟩ :∃c:Nat,numOf (ws.getD 3 [])=(c:Int):= ⟨(numOf (ws.getD 3 [])).toNat,by omega⟩;rw[hc];refine⟨_,rfl,p,_,_,_,rfl,rfl,s2.seq hl,atW 1 (by omega),_,rfl,_,rfl,_,wt,c,rfl,fun a pm H' sm ha hpm pa=>?_⟩;refine k _ _ (s2.trans sm) ?_;rw[hgo,if_pos ⟨h3,h4⟩,hc,Int.toNat_natCast];rw[Ep]at pa;exact⟨a,pm,rfl,Same.noneBack s2 ha,pa,fun _=>Same.noneBack s2 hpm⟩
    ·have h3:=vH h3;refine⟨_,rfl,?_⟩;refine iteTr rfl (hno _ s2 ?_);rw[hgo,if_neg (fun z=>h3 z.1)]
theorem bF{L:List Bytes}{x:Bytes}:(L.findIdx? fun y=>y == x)=none↔x∉L:=by
 rw[List.findIdx?_eq_none_iff];constructor
 ·intro h hm;have:=h x hm;simp at this
 ·intro h p hp;simp only [beq_eq_false_iff_ne,ne_eq];exact fun e=>h (e▸hp)
theorem bG{L:List Bytes}{x:Bytes}{r:Nat}(h:(L.findIdx? fun y=>y == x)=some r):L[r]? =some x/\∀j y,j < r->L[j]? =some y->y≠x:=by
 rw[List.findIdx?_eq_some_iff_getElem]at h;obtain⟨h1,h2,h3⟩ :=h;refine⟨by rw[List.getElem?_eq_getElem h1];simpa using h2,fun j p hj hp=>?_⟩;have:=h3 j hj;rw[List.getElem?_eq_getElem (by omega)]at hp;injection hp with hp
 rw[<-hp];simpa using this
theorem eI(xs:List V)(n:Nat)(h0:n≠0)(h:n<=xs.length):cutV xs none (some (-(n:Int)))=xs.take (xs.length - n):=by
 unfold cutV;have e1:HT.sIx xs.length xs.length (some (-(n:Int)))=xs.length - n:=by
  have:=aN xs.length xs.length (some (-(n:Int)));unfold clipS at this;dsimp only at this;rw[if_pos (by omega)]at this;omega
 have e2:HT.sIx xs.length 0 none=0:=rfl;rw[e2,List.drop_zero,Nat.sub_zero,e1]
theorem fN(ws:List Bytes)(n:Nat):(sV ws).drop n=sV (ws.drop n):=by unfold sV;rw[List.map_drop]
theorem fO(ws:List Bytes)(n:Nat):(sV ws).take n=sV (ws.take n):=by unfold sV;rw[List.map_take]
inductive spRGrp(K:PySem.W.Frag)(C:Addr)(vs:List V)(H:Hp)(Q:VK)(_e3:XK):Prop|m:∀(ws:List Bytes) (wt:Nat) (ps:List Party) (x v:V),vs= [x,.int (wt:Int),v]->Lst K IsW ws x H->Lst K (PtR C) ps v H->PWf ps->Ret H (Opt (NewP C H) (readG ps ws wt)) Q->spRGrp K C vs H Q _e3
abbrev Jy:Stmt:=top 76
theorem Jr:FnScope ["words","weight","parties","members"] ["words","weight","parties"] (defScope Jy):=fS
theorem Q3(F:FunN K mg "read_group" Jy)(T:Blt mg)(R:Rdg K mg kw rn)(uE:Df P w K mg base 2 "read_members" ["words","parties"] (spRMem K C))(uP:Df P w K mg base 3 "make_group" ["name","weight","rule","members"] (spGroup C)):
  Df P w K mg base 4 "read_group" ["words","weight","parties"] (spRGrp K C):=by
 refine Df.of F Jr (fun vs H Q E h=>?_) (fun f cdv A outer s H vs Q E hr h=>?_)
 ·obtain⟨ws,wt,ps,x,v,rfl,_⟩ :=h;rfl
 ·obtain⟨ws,wt,ps,_,v,rfl,⟨p,xs,rfl,hl,hi⟩,lp,wf,k⟩ :=h;obtain rfl:=Gw hi;refine⟨_,Ac (A1 (PW.pt (Dv (At Ku (Ao An (by rfl) T.len PySem.boot_len (Aa (pv 0) Ab)) (Af) (nomark _)) (Dv (At Kv (Ai Ag (pv 0) (Af)) (Bz) (nomark _)) (C8 (At Kv (Ai Ag (pv 0) (Af)) (Bz) (nomark _))))))
    (Ad (Ah (D5)))
    (Aq))
   (Ac (A1 (At Gi (Ai Ag (pv 0) (Af)) (pgt R.RULE_NAMES) (by with_unfolding_all rfl))
    (Ad (Ah (D5)))
    (Aq))
   (Ac (Aj (i:=3) Jr.nd rfl (Or.inl rfl) (pd uE hr (Aa (Cr Ds (pv 0) (C0 (Af)) Eu) (Aa (pv 2) Ab))))
   (Ac (A1 (At cD (pv 3) (D5) (nomark _))
    (Ad (Ah (D5)))
    (Aq))
   (Ad (Ah (pd uP hr (Aa (Ai Ag (pv 0) (Af)) (Aa (pv 1) (Aa (Eh PySem.F.plainAttrs_tuple PySem.F.slot_tuple_index PySem.F.type_tuple_index Zr (pgt R.RULE_NAMES) (Aa (Ai Ag (pv 0) (Af)) Ab)) (Aa (pv 3) Ab)))))))))),?_⟩
  have hno:∀H',Same H H'->readG ps ws wt=none->Q .non H':=fun H' sm e=>k _ _ sm (by rw[e];rfl);have hbad:(ws.length < 6∨ws.getD 2 []≠text "by"∨ws.getD 4 []≠text "of")->readG ps ws wt=none:=fun z=>by
   unfold readG;rw[if_pos z]
  refine⟨_,rfl,p,_,rfl,.inl hl,_,_,rfl,rfl,_,rfl,?_⟩;rw[C9];refine iteB (fun h1=>iteTr rfl (hno _ (Same.refl _) (hbad (.inl (by have:=vG h1;omega))))) (fun h1=>?_);have h1:6<=ws.length:=by have:=vH h1;omega
  refine⟨_,rfl,p,_,_,_,rfl,rfl,hl,atW 2 (by omega),rfl,_,rfl,?_⟩;rw[Dj "by",Kn];refine iteB (fun h2=>iteTr rfl (hno _ (Same.refl _) (hbad (.inr (.inl ?_))))) (fun h2=>?_)
  ·exact of_decide_eq_false (by simpa using h2:decide (ws.getD 2 []=text "by")=false)
  have h2:=of_decide_eq_true (by simpa using h2:decide (ws.getD 2 []=text "by")=true);refine⟨_,rfl,p,_,_,_,rfl,rfl,hl,atW 4 (by omega),rfl,_,rfl,?_⟩;rw[Dj "of",Kn];refine iteB (fun h3=>hno _ (Same.refl _) (hbad (.inr (.inr ?_)))) (fun h3=>?_)
  ·exact of_decide_eq_false (by simpa using h3:decide (ws.getD 4 []=text "of")=false)
  have h3:=of_decide_eq_true (by simpa using h3:decide (ws.getD 4 []=text "of")=true);have hgo:readG ps ws wt=match RULES.findIdx? fun y=>y == ws.getD 3 []with
    |none=>none
    |some r=>(readM ps (ws.drop 5)).map fun is=>{name:=ws.getD 1 [],weight:=wt,kind:=.group r is}:=by
   unfold readG;rw[if_neg (by rintro (z|z|z);omega;exact z h2;exact z h3)]
   all_goals (cases RULES.findIdx? fun y=>y == ws.getD 3 []<;>rfl)
  refine⟨_,rfl,p,_,_,_,rfl,rfl,hl,atW 3 (by omega),rn,_,rfl,.inr (R.RULE_NAMES.its _),rfl,Gn _,_,rfl,?_⟩;show if (!inV (.str (sOf (ws.getD 3 []))) (sV RULES))=true then _ else _
  rw[Ur];cases hx:RULES.findIdx? fun y=>y == ws.getD 3 []with
  |none=>
   exact iteTr (by simpa using bF.mp hx) (hno _ (Same.refl _) (by rw[hgo,hx]))
  |some r=>
   obtain⟨i1,i2⟩ :=bG hx;refine iteFl (by simpa using List.mem_of_getElem? i1) ?_;rw[hx]at hgo;have hgo:readG ps ws wt=(readM ps (ws.drop 5)).map fun is=>{name:=ws.getD 1 [],weight:=wt,kind:=.group r is}:=hgo;refine⟨_,rfl,_,rfl,p,_,rfl,hl,fun q hq=>?_⟩;have ec:cutV (sV ws) (some 5) none=sV (ws.drop 5):=(Hs (sV ws) 5 (by rw[C9];omega)).trans (fN _ _);rw[ec];have s1:Same H (upd H q (.lst (sV (ws.drop 5)))):=Same.upd hq;refine⟨_,rfl,ws.drop 5,ps,_,v,rfl,⟨q,_,rfl,SqL.of Ae,Gv _⟩,Lst.keep Bv _ _ _ _ s1 lp,wf,?_⟩;intro u H2 s2 ru;have s12:=s1.trans s2;cases hm:readM ps (ws.drop 5)with
   |none=>
    rw[hm]at ru;obtain rfl:u=V.non:=ru;refine⟨_,rfl,rfl,_,rfl,?_⟩;exact iteTr rfl (hno _ s12 (by rw[hgo,hm];rfl))
   |some is=>
    rw[hm]at ru;obtain⟨pm,zs,rfl,hpm,izs⟩ :=ru;obtain rfl:=O2 izs;refine⟨_,rfl,rfl,_,rfl,?_⟩;refine iteFl rfl ?_;refine⟨_,rfl,p,_,_,_,rfl,rfl,s12.seq hl,atW 1 (by omega),_,rfl,.inr (.inl ⟨rfl,R.RULE_NAMES.ty⟩),?_⟩;refine⟨_,rfl,p,_,_,_,rfl,rfl,s12.seq hl,atW 3 (by omega),rn,sV RULES,_,r,.str (sOf (ws.getD 3 [])),rfl,rfl,R.RULE_NAMES.its _,rfl,Gn _,?_,(by show(sOf (ws.getD 3 []) == sOf (ws.getD 3 []))=true;simp),?_,?_⟩
    ·unfold sV;rw[List.getElem?_map,i1];rfl
    ·intro j z hj hz;unfold sV at hz;rw[List.getElem?_map]at hz;cases hpj:RULES[j]? with
     |none=>rw[hpj]at hz;cases hz
     |some pj=>
      rw[hpj]at hz;have hz:some (V.str (sOf pj))=some z:=hz;injection hz with hz
      rw[<-hz];show(sOf pj == sOf (ws.getD 3 []))=false;rw[beq_eq_false_iff_ne];exact fun e=>i2 j pj hj hpj (Oc e)
    ·refine⟨_,rfl,_,wt,r,is,pm,rfl,hpm,fun a H' sm ha pa=>k _ _ (s12.trans sm) ?_⟩;rw[hgo,hm];rw[Ep]at pa;obtain⟨dx,pm2,nm,h4,h5,h6⟩ :=pa.ex;exact⟨a,pm2,rfl,Same.noneBack s12 ha,⟨dx,nm,h4,h5,h6⟩,fun z=>absurd z (P0 hm).1⟩
theorem Yc{ws:List Bytes}(n:Nat)(h0:n≠0)(h:n<=ws.length):atI (sV ws) (-(n:Int))=some (.str (sOf (ws.getD (ws.length - n) []))):=by
 unfold atI ixN;rw[C9,if_neg (by omega),if_pos (by omega)];show(sV ws)[(-(n:Int) + (ws.length:Int)).toNat]? =_;rw[show(-(n:Int) + (ws.length:Int)).toNat=ws.length - n by omega];exact cX (by omega)
theorem NewP.back{H H1:Hp}{p:Party}{v:V}{H':Hp}(s:Same H H1)(h:NewP C H1 p v H'):NewP C H p v H':=by
 obtain⟨a,pm,e,h1,h2,h3⟩ :=h;exact⟨a,pm,e,Same.noneBack s h1,h2,fun z=>Same.noneBack s (h3 z)⟩
theorem optNew{H H1:Hp}{o:Option Party}{v:V}{H':Hp}(s:Same H H1)(h:Opt (NewP C H1) o v H'):Opt (NewP C H) o v H':=by
 cases o with
 |none=>exact h
 |some p=>exact NewP.back s h
inductive spRPty(K:PySem.W.Frag)(C:Addr)(vs:List V)(H:Hp)(Q:VK)(_e3:XK):Prop|m:∀(ws:List Bytes) (ps:List Party) (x v:V),vs= [x,v]->Lst K IsW ws x H->Wd ws->Lst K (PtR C) ps v H->PWf ps->Ret H (Opt (NewP C H) (readParty ps ws)) Q->spRPty K C vs H Q _e3
abbrev Ec:Stmt:=top 77
theorem Eb:FnScope ["words","parties","weight"] ["words","parties"] (defScope Ec):=fS
theorem Q4(F:FunN K mg "read_party" Ec)(T:Blt mg)(R:Rdg K mg kw rn)(wV:Df P w K mg base 1 "number_of" ["word"] spNumber)(yH:Df P w K mg base 1 "is_name" ["word"] spIsName)
  (wY:Df P w K mg base 1 "names_of" ["parties"] (spNames K C)) (uK:Df P w K mg base 4 "read_person" ["words","weight"] (spRPer K C)) (uS:Df P w K mg base 4 "read_group" ["words","weight","parties"] (spRGrp K C)):
  Df P w K mg base 5 "read_party" ["words","parties"] (spRPty K C):=by
 refine Df.of F Eb (fun vs H Q E h=>?_) (fun f cdv A outer s H vs Q E hr h=>?_)
 ·obtain⟨ws,ps,x,v,rfl,_⟩ :=h;rfl
 ·obtain⟨ws,ps,_,v,rfl,⟨p,xs,rfl,hl,hi⟩,hw,lp,wf,k⟩ :=h;obtain rfl:=Gw hi;have key:∃t2,PSs (cxOf CX0 P w K mg base ["words","parties","weight"] "read_party" (defScope Ec) f cdv A outer s H E).nox ((defBody Ec).drop 2) t2/\
    ∀(p1:Addr) (H1:Hp),Same H H1->SqL K H1 p1 (sV (bare ws))->t2 {nx:=fun _ H'=>Q .non H',rt:=Q} [some (.ref p1),some v,some (.int (wtOf ws))] H1:=by
   refine⟨_,Ac (A1 (PW.pt (Dv (Bf (Ct C4 C4 (Af) (pv 2) (pgc R.MOST_WEIGHT))) (C8 (At Cn (Ao An (by rfl) T.len PySem.boot_len (Aa (pv 1) Ab)) (pgc R.MOST_PARTIES) (nomark _)))))
     (Ad (Ah (D5)))
     (Aq))
    (Ac (A1 (PW.pt (Dv (At Ku (Ao An (by rfl) T.len PySem.boot_len (Aa (pv 0) Ab)) (Af) (nomark _)) (Dv (Bf (Bk (pd yH hr (Aa (Ai Ag (pv 0) (Af)) Ab)))) (C8 (At D4 (Ai Ag (pv 0) (Af)) (pd wY hr (Aa (pv 1) Ab)) (by with_unfolding_all rfl))))))
     (Ad (Ah (D5)))
     (Aq))
    (Ac (A1 (At Cn (Ai Ag (pv 0) (Af)) (Bz) (nomark _))
     (Ad (Ah (pd uK hr (Aa (pv 0) (Aa (pv 2) Ab)))))
     (Aq))
    (Ac (A1 (At Cn (Ai Ag (pv 0) (Af)) (Bz) (nomark _))
     (Ad (Ah (pd uS hr (Aa (pv 0) (Aa (pv 2) (Aa (pv 1) Ab))))))
     (Aq))
    (Ad (Ah (D5)))))),fun p1 H1 s1 hl1=>?_⟩
   have hno:∀H',Same H H'->readParty ps ws=none->Q .non H':=fun H' sm e=>k _ _ sm (by rw[e];rfl);have hb1:(¬(1<=wtOf ws/\wtOf ws<=100)∨ps.length=30)->readParty ps ws=none:=fun z=>by
    unfold readParty;rw[if_pos z]
   have hwb:Wd (bare ws):=by
    unfold bare;split
    ·exact⟨by rw[vU];have:=hw.1;omega,fun x hx=>hw.2 x (List.mem_of_mem_take hx)⟩
    ·exact hw
   obtain⟨pp,xp,rfl,hlp,hip⟩ :=lp;have hpl:ps.length=xp.length:=hip.len;have h30:=wf.len;refine⟨_,rfl,_,_,rfl,rfl,_,rfl,?_⟩;refine iteB (fun g1=>?_) (fun g1=>?_)
   rotate_left
   ·have g1:=vH g1;refine⟨_,rfl,?_⟩;exact iteTr rfl (iteTr rfl (hno _ s1 (hb1 (.inl fun z=>g1 z.1))))
   have g1:=vG g1;refine⟨_,_,rfl,rfl,_,rfl,?_⟩;refine iteB (fun g2=>?_) (fun g2=>?_)
   ·have g2:=of_decide_eq_false (by simpa using g2:decide (wtOf ws<=100)=false);exact iteTr rfl (hno _ s1 (hb1 (.inl fun z=>g2 z.2)))
   have g2:=of_decide_eq_true (by simpa using g2:decide (wtOf ws<=100)=true);refine⟨_,rfl,pp,_,rfl,.inl (s1.seq hlp),rfl,_,rfl,?_⟩;rw[<-hpl,Br];refine iteB (fun g3=>hno _ s1 (hb1 (.inr ?_))) (fun g3=>?_)
   ·have:=vG g3;omega
   have g3:ps.length≠30:=by have:=vH g3;omega
   have hb2:((bare ws).length < 2∨nameB ((bare ws).getD 1 [])=false∨(find ps ((bare ws).getD 1 [])).isSome=true)->readParty ps ws=none:=fun z=>by
    unfold readParty;rw[if_neg (by rintro (y|y);exact y ⟨g1,g2⟩;exact g3 y),if_pos z]
   refine⟨_,rfl,p1,_,rfl,.inl hl1,_,_,rfl,rfl,_,rfl,?_⟩;rw[C9];refine iteB (fun g4=>iteTr rfl (hno _ s1 (hb2 (.inl ?_)))) (fun g4=>?_)
   ·have:=vG g4;omega
   have g4:2<=(bare ws).length:=by have:=vH g4;omega
   have hm1:=hwb.2 _ (Oy (ws:=bare ws) (i:=1) (by omega));refine⟨_,rfl,p1,_,_,_,rfl,rfl,hl1,atW 1 (by omega),_,rfl,hm1.1,hm1.2,?_⟩;rintro _ H2 s2 rfl;have s12:=s1.trans s2;refine⟨_,rfl,?_⟩;refine iteB (fun g5=>iteTr rfl (hno _ s12 (hb2 (.inr (.inl ?_))))) (fun g5=>?_)
   ·simpa using g5
   have g5:nameB ((bare ws).getD 1 [])=true:=by simpa using g5
   refine⟨_,rfl,p1,_,_,_,rfl,rfl,s2.seq hl1,atW 1 (by omega),?_⟩;refine⟨_,rfl,ps,_,rfl,⟨pp,xp,rfl,s12.seq hlp,hip.keep fun a v r=>Bv _ _ _ _ s12 r⟩,wf.len,?_⟩;rintro _ H3 s3 ⟨pn,zs,rfl,hpn,izs⟩;obtain rfl:=Gw izs;have s13:=s12.trans s3;refine⟨pn,_,rfl,.inl (SqL.of hpn),rfl,Gn _,_,rfl,?_⟩;show if inV (.str (sOf ((bare ws).getD 1 []))) (sV (ps.map fun p=>p.name))=true then _ else _
   rw[Ur];refine iteB (fun g6=>hno _ s13 (hb2 (.inr (.inr ?_)))) (fun g6=>?_)
   ·have g6:=vG g6;cases hf:find ps ((bare ws).getD 1 [])with
    |none=>exact absurd g6 (D8.mp hf)
    |some m=>rfl
   have g6:=vH g6;have hgo:readParty ps ws=if (bare ws).getD 0 []=text "person" then readP (bare ws) (wtOf ws).toNat else if (bare ws).getD 0 []=text "group" then readG ps (bare ws) (wtOf ws).toNat else none:=by
    unfold readParty;rw[if_neg (by rintro (y|y);exact y ⟨g1,g2⟩;exact g3 y),if_neg];rintro (z|z|z)
    ·omega
    ·rw[g5]at z;cases z
    ·rw[D8.mpr g6]at z;cases z
   obtain⟨n,hn⟩ :∃n:Nat,wtOf ws=(n:Int):= ⟨(wtOf ws).toNat,by omega⟩;rw[hn,vM]at hgo;rw[hn];have hl3:=(s2.trans s3).seq hl1;have lp3:Lst K (PtR C) ps (.ref pp) H3:= ⟨pp,xp,rfl,s13.seq hlp,hip.keep fun a v r=>Bv _ _ _ _ s13 r⟩;refine⟨_,rfl,p1,_,_,_,rfl,rfl,hl3,atW 0 (by omega),rfl,_,rfl,?_⟩;rw[Dj "person",Kn];refine iteB (fun g7=>?_) (fun g7=>?_)
   ·have g7:=vG g7;refine⟨_,rfl,_,rfl,bare ws,n,_,rfl,⟨p1,_,rfl,hl3,Gv _⟩,hwb,fun u H4 s4 ru=>k _ _ (s13.trans s4) ?_⟩;rw[hgo,if_pos g7];exact optNew s13 ru
   have g7:=vH g7;refine⟨_,rfl,p1,_,_,_,rfl,rfl,hl3,atW 0 (by omega),rfl,_,rfl,?_⟩;rw[Dj "group",Kn];refine iteB (fun g8=>?_) (fun g8=>?_)
   ·have g8:=vG g8;refine⟨_,rfl,_,rfl,_,rfl,bare ws,n,ps,_,_,rfl,⟨p1,_,rfl,hl3,Gv _⟩,lp3,wf,fun u H4 s4 ru=>k _ _ (s13.trans s4) ?_⟩;rw[hgo,if_neg g7,if_pos g8];exact optNew s13 ru
   have g8:=vH g8;exact hno _ s13 (by rw[hgo,if_neg g7,if_neg g8])
  obtain⟨t2,h2,k2⟩ :=key;refine⟨_,Ac (Aj (i:=2) Eb.nd rfl (Or.inl rfl) (Af))
   (Ac (A1 (PW.pt (Tt (At Po (Ao An (by rfl) T.len PySem.boot_len (Aa (pv 0) Ab)) (Af) (nomark _)) (Ob (At Cn (Ai Ag (pv 0) (Ky Gu (Af))) (Bz) (nomark _)))))
    (Ac (Aj (i:=2) Eb.nd rfl (Or.inl rfl) (pd wV hr (Aa (Ai Ag (pv 0) (Ky Gu (Af))) Ab)))
    (Ad (Aj (i:=0) Eb.nd rfl (Or.inl rfl) (Cr Ds (pv 0) Eu (C0 (Ky Gu (Af)))))))
    (Aq))
   h2),?_⟩
  have hnw:¬weighs ws->t2 {nx:=fun _ H'=>Q .non H',rt:=Q} [some (.ref p),some v,some (.int 1)] H:=fun z=>by
   have⟨e1,e2⟩ :=Pb z;have:=k2 p H (Same.refl _) (by rw[e1];exact hl);rw[e2]at this;exact this
  refine⟨_,rfl,p,_,rfl,.inl hl,_,_,rfl,rfl,_,rfl,?_⟩;rw[C9];refine iteB (fun h1=>?_) (fun h1=>?_)
  ·have h1:2 < ws.length:=by have:=vG h1;omega
   refine⟨_,rfl,_,rfl,p,_,_,_,rfl,rfl,hl,Yc 2 (by decide) (by omega),rfl,_,rfl,?_⟩;rw[Dj "weighs",Kn];refine iteB (fun h3=>?_) (fun h3=>?_)
   ·have h3:=vG h3;have hww:weighs ws:= ⟨h1,h3⟩;have hm:=hw.2 _ (Oy (ws:=ws) (i:=ws.length - 1) (by omega));refine⟨_,rfl,_,rfl,p,_,_,_,rfl,rfl,hl,Yc 1 (by decide) (by omega),_,rfl,hm.1,hm.2,?_⟩;rintro _ H2 s2 rfl;refine⟨_,rfl,_,rfl,_,rfl,p,_,rfl,s2.seq hl,fun q hq=>?_⟩;have ec:cutV (sV ws) none (some (-2))=sV (bare ws):=(eI (sV ws) 2 (by decide) (by rw[C9];omega)).trans (by
     rw[C9,fO];unfold bare;rw[if_pos hww])
    rw[ec];have:=k2 q (upd H2 q (.lst (sV (bare ws)))) (s2.trans (Same.upd hq)) (SqL.of Ae);rw[show wtOf ws=numOf (ws.getD (ws.length - 1) []) from by unfold wtOf;rw[if_pos hww]]at this;exact this
   ·have h3:=vH h3;exact hnw fun z=>h3 z.2
  ·have h1:¬2 < ws.length:=by have:=vH h1;omega
   exact iteFl rfl (hnw fun z=>h1 z.1)
end
end Dr
namespace L2
open PySem PySem.Spec PyProof.Rows
open AutoSeq1 (wpAny_loadPart')
def enumHeap(h:Heap)(l:Addr):Heap:=(h.push {cls:=.type "list_iterator",data:=.fields #[.ref l,.int 0 0]}).push
 {cls:=.type "enumerate",data:=.fields #[.none,.bool false,.ref h.objs.size,rawInt 1,.none,.none]}
theorem Ze(l:Addr)(its:Array Value)(n:Nat)(dct:Option Addr)(sl:Array (Option Value))(t:Tok):
  Meets (Builtin.«enumerate.__new__» ⟨[.type "enumerate",.ref l],[("start",.int 1 t)]⟩)
   (fun _ R s=>s.heap.get? l=some {cls:=.type "list",dict:=dct,data:=.seq its n,slots:=sl}/\R (.ok (.ret (.ref (s.heap.objs.size + 1)))) {s with heap:=enumHeap s.heap l}):=
 .of_wp fun prog w A R s h=>by
  obtain⟨hp,g,d,tk,os⟩ :=s;obtain⟨hl,h⟩ :=h;have hs1:=sub_enumerate;have hI:Heap.IsList (Shared.heap ⟨hp,g,d,tk,os⟩) l its:= ⟨_,hl,rfl,n,rfl⟩;have hfin:∀b:Bool,b=true∨b=false:=fun b=>by cases b<;>simp
  wp_walk using wpAny_loadPart' hl
  apply wpAny_stack_any;intro stk;apply wpAny_pure;split
  ·rename_i c _ _ _ _ _
   rcases hfin (c == Value.type "enumerate")with e|e<;>rw[e]
   ·wp_walk using wpAny_loadPart' hl,wpAny_pyIter_list hI
    exact⟨_,rfl,by rw[Heap.size_push];exact h⟩
   ·wp_walk using wpAny_loadPart' hl,wpAny_pyIter_list hI
    exact⟨_,rfl,by rw[Heap.size_push];exact h⟩
  ·wp_walk using wpAny_loadPart' hl,wpAny_pyIter_list hI
   exact⟨_,rfl,by rw[Heap.size_push];exact h⟩
section
variable {prog:Program}{w:World}{A:Around}{E:Value->Shared->Prop}{s:Shared}
theorem aZ(a:Value)(t:Tok):checkTypeCall "enumerate" ⟨[a],[("start",.int 1 t)]⟩ =pure ():=by kernel_rfl
theorem aW(a:Value)(t:Tok):checkBuiltinCall "enumerate.__new__" ⟨[.type "enumerate",a],[("start",.int 1 t)]⟩ =pure ():=by kernel_rfl
theorem aX(o a:Value)(t:Tok):argsOk "object.__init__" ⟨[o,a],[("start",.int 1 t)]⟩ :=by
 unfold argsOk
 kernel_rfl
theorem Wu(o a:Value)(t:Tok):Meets (Builtin.«object.__init__» ⟨[o,a],[("start",.int 1 t)]⟩) (fun _ R s=>s.TypeIs o "enumerate"/\R (.ok (.ret .none)) s):=by
 refine Meets.of_wp fun prog w A R s hs=>?_;obtain⟨hT,hq⟩ :=hs;have hli:=F.called_enumerate.init.lookup;have hmb:=F.called_enumerate.made
 repeat (any_goals (first|assumption|wp_step))
 exact⟨_,rfl,hq⟩
theorem Os(h:Heap)(l:Addr):IsEnum (enumHeap h l) (h.objs.size + 1) h.objs.size 1 .none:=by
 have z:(h.push {cls:=.type "list_iterator",data:=.fields #[.ref l,.int 0 0]}).objs.size=h.objs.size + 1:=Heap.size_push ..;have:=Heap.get?_push_size (h.push {cls:=.type "list_iterator",data:=.fields #[.ref l,.int 0 0]}) (o:={cls:=.type "enumerate",data:=.fields #[.none,.bool false,.ref h.objs.size,rawInt 1,.none,.none]}) rfl;rw[z]at this;exact this
theorem aY(h:Heap)(l:Addr):(enumHeap h l).IsListIter h.objs.size l 0:= ⟨_,Heap.get?_push_of_some _ (Heap.get?_push_size _ rfl),rfl,rfl⟩
theorem Wv{h:Heap}{l b:Addr}{o:Obj}(e:h.get? b=some o):(enumHeap h l).get? b=some o:=Heap.get?_push_of_some _ (Heap.get?_push_of_some _ e)
theorem Wt{l:Addr}{its:Array Value}{Q:Value->Shared->Prop}{t:Tok}(hL:s.heap.IsList l its)
  (h:Q (.ref (s.heap.objs.size + 1)) {s with heap:=enumHeap s.heap l}):wpAny (model prog w) A (call (.type "enumerate") [.ref l] [("start",.int 1 t)]) Q E s:=by
 obtain⟨⟨c,dct,dt,sl⟩,hl,hc,n,hd⟩ :=hL;have hc:c=.type "list":=hc;have hd:dt=.seq its n:=hd;subst hc hd;have ft:=F.called_enumerate;obtain⟨c,tl,hmro⟩ :=ft.mro;have h0:=ft.made;have h1:=ft.sub;have h2:=ft.notType;have h3:=ft.canCreate;apply wpAny_call;apply codeAny_of_tree;show wpAny _ _ (callAny (.type "enumerate") ⟨[.ref l],[("start",.int 1 t)]⟩) _ _ _;apply wpAny_pure;refine⟨Code.quiet_builtin _ (by decide +kernel),codeAny_builtin F.entry_type_call ?_⟩;rw[Around.under_plain (weight_type_call_type "enumerate" [.ref l] [("start",.int 1 t)]) (units_type_call_type "enumerate" _ _)];have h4:=aZ (.ref l) t
 repeat (any_goals (first|assumption|wp_step))
 have hn:codeAny (model prog w) A.in1 (Code.call (.builtin "enumerate.__new__") ⟨[.type "enumerate",.ref l],[("start",.int 1 t)]⟩)
   (wants (fun o z=>o=Value.ref (s.heap.objs.size + 1)/\z= {s with heap:=enumHeap s.heap l}) E) s:=
  codeAny_call_builtin ft.plain F.entry_enumerate_new (wpAny_of_eq (aW _ t) (Ze l its n dct sl t prog w A.in1 _ s ⟨hl,rfl,rfl⟩))
 refine codeAny_mono hn fun r z hr=>?_;rcases r with e|fl
 ·exact hr
 ·cases fl with
  |ret o=>
   obtain⟨rfl,rfl⟩ :=hr;have hT:Shared.TypeIs {s with heap:=enumHeap s.heap l} (.ref (s.heap.objs.size + 1)) "enumerate":= ⟨_,Os _ _,rfl⟩;have g1:=ft.init.lookup;have g2:=ft.init.bind (.ref (s.heap.objs.size + 1))
   repeat (any_goals (first|assumption|wp_step))
   have hi:codeAny (model prog w) A.in1 (Code.call (.builtin "object.__init__") ⟨[.ref (s.heap.objs.size + 1),.ref l],[("start",.int 1 t)]⟩)
     (wants (fun o z=>o=Value.none/\z= {s with heap:=enumHeap s.heap l}) E) {s with heap:=enumHeap s.heap l}:=
    codeAny_call_builtin ft.init.plain F.entry_object_init (ft.init.check _ _ _ _ _ _ _ _ hT (aX _ _ t) (Wu _ _ t prog w A.in1 _ _ ⟨hT,rfl,rfl⟩))
   refine codeAny_mono hi fun r z hr=>?_;rcases r with e|fl
   ·exact hr
   ·cases fl with
    |ret o=>
     obtain⟨rfl,rfl⟩ :=hr
     repeat (any_goals (first|assumption|wp_step))
    |_=>exact hr.elim
  |_=>exact hr.elim
theorem Ol{M:Model}{pos:Pos}{T:String}{e:Expr}{kws:List Keyword}{env:Env}{Q:Value->Shared->Prop}
  (h:wpAny M A (eval e env) (fun v s1=>wpAny M A (evalAll ((backToKw pos (keywordEach kws env)).map (·.2)))
   (fun ks s2=>wpAny M A (call (.type T) [v] (((backToKw pos (keywordEach kws env)).filterMap (·.1)).zip ks)) Q E s2) E s1) E s)
  (he:starEach [e] env= [(false,eval e env)]) (hall:(backToKw pos (keywordEach kws env)).all (·.1.isSome)=true) (hno:(backToKw pos (keywordEach kws env)).any (·.1.isNone)=false):
  wpAny M A (callWith pos (.type T) [] (backTo pos (starEach [e] env)) (backToKw pos (keywordEach kws env))) Q E s:=by
 have hb:backTo pos (starEach [e] env)= [(false,eval e env)]:=by rw[he];rfl
 rw[hb];unfold callWith;refine wpAny_bind (wpAny_holding (wpAny_mono (Q:=fun a z=>wpAny M A (call (.type T) a.pos a.kw) Q E z) (evalArgs_kwB hall (Calls.spliced_cons (wpAny_mono h (fun v z hz=>Calls.spliced_nil hz) fun _ _ q=>q))) (fun a z hz=>wpAny_bind (wpAny_standAt ?_)) fun _ _ q=>q));have hp:(([(false,eval e env)]:List (Bool×Sem Value)).any (·.1))=false:=rfl;simp only [hp,hno,Bool.or_false];refine wpAny_bind (wpAny_pure (wpAny_bind (wpAny_mono hz (fun r z2 hr=>wpAny_bind (wpAny_holding (wpAny_point (wpAny_pure hr)))) fun _ _ q=>q)))
end
def IteS(K:PySem.W.Frag)(a:Addr):It:=
 ⟨fun i H=>∃(xs:List V) (x:V),SqL K H a xs/\xs[i]? =some x,fun i H v H'=>∃T x,v=.ref T/\H T=none/\H'=upd H T (.tup [.int ((i + 1:Nat):Int),x])/\∀xs,SqL K H a xs->xs[i]? =some x,fun i H=>∃xs:List V,SqL K H a xs/\xs.length<=i⟩
theorem drawsS{prog:Program}{w:World}{A:Around}(hh:A.handled=none)(it l:Addr)(its:Array Value)(hil:it≠l):
  Draws prog w A it [it,l] (its.size + 1) (fun i x=>∃j,i=j + 1/\its[j]? =some x) (fun i h=>∃j,i=j + 1/\h.IsListIter it l j/\h.IsList l its) where
 live:=fun i h ⟨j,_,⟨o,ho,_⟩,_⟩ => ⟨o,ho⟩
 frame:=fun i h h' ⟨j,e,q,p⟩ k=> ⟨j,e,q.at fun o y=>k it (by simp) o y,p.at fun o y=>k l (by simp) o y⟩
 item:=fun i s Q E hi ⟨j,e,q,p⟩ hQ=>by
  have hj:j < its.size:=by omega
  refine wpAny_nextOf_list_item q p (x:=its[j]) (by simp[hj]) fun h' q' sb=>hQ _ h' s.toks ⟨j,e,by simp[hj]⟩ ⟨j + 1,by omega,q',?_⟩ sb;exact p.at fun o y=>(sb.2 l (Ne.symm hil)).trans y
 done:=fun s Q E ⟨j,e,q,p⟩ hE=>by
  have hj:j=its.size:=by omega
  exact wpAny_nextOf_list_end hh q p (by simp[hj]) hE
theorem drawsEnd{prog:Program}{w:World}{A:Around}(hh:A.handled=none)(it l:Addr)(its:Array Value)(j:Nat)(hj:its.size<=j):
  Draws prog w A it [it,l] 0 (fun _ _=>True) (fun _ h=>h.IsListIter it l j/\h.IsList l its) where
 live:=fun i h ⟨⟨o,ho,_⟩,_⟩ => ⟨o,ho⟩
 frame:=fun i h h' ⟨q,p⟩ k=> ⟨q.at fun o y=>k it (by simp) o y,p.at fun o y=>k l (by simp) o y⟩
 item:=fun i s Q E hi=>absurd hi (Nat.not_lt_zero i)
 done:=fun s Q E ⟨q,p⟩ hE=>wpAny_nextOf_list_end hh q p (by simp;omega) hE
theorem X5{P:Program}{w:World}{K:PySem.W.Frag}{elts:List Expr}{kk:Nat}{tpos:Pos}(a e it:Addr):
  Turn P w K (.Tuple elts kk tpos) (IteS K a) [e,it] e (fun i h=>(∃old,IsEnum h e it (((i + 1:Nat):Nat):Int) old)/\h.IsListIter it a i/\e≠it) where
 mem:=by simp
 obj:=fun i h st b hb=>by
  obtain⟨⟨old,he⟩,⟨o,ho,hc,hd⟩,_⟩ :=st;have e':b=e∨b=it:=by simpa using hb
  rcases e' with z|z
  ·rw[z];exact⟨_,he,fun v q=>nomatch q⟩
  ·rw[z];exact⟨o,ho,fun v q=>by rw[hd]at q;cases q⟩
 keep:=fun i h h' st k=>let⟨⟨old,he⟩,hi,hne⟩ :=st;⟨⟨old,k e (by simp) _ he⟩,hi.at fun o q=>k it (by simp) o q,hne⟩
 item:=by
  intro X hP hw hK hc i pins s σ H E I hf st hg;subst hP hw hK;obtain⟨⟨old,he⟩,hit,hne⟩ :=st;obtain⟨xs,x,hq,hx⟩ :=hg;obtain⟨its,rv,p,hz⟩ :=I.list hq;obtain⟨u,hu,ru⟩ :=rv.get hx;have hel:e < s.heap.objs.size:=Heap.lt_size he;have hil:it < s.heap.objs.size:=by obtain⟨_,q,_⟩ :=hit;exact Heap.lt_size q
  obtain⟨oa,hoa,hca,_⟩ :=p.isList;obtain⟨oi,hoi,hci,_⟩ :=id hit;have hea:e≠a:=fun z=>by
   rw[<-z,he]at hoa;injection hoa with hoa
   rw[<-hoa]at hca;have hca:Value.type "enumerate"=Value.type "list":=hca;exact absurd hca (by decide)
  have hia:it≠a:=fun z=>by
   rw[<-z,hoi]at hoa;injection hoa with hoa
   rw[<-hoa,hci]at hca;exact absurd hca (by decide)
  have hlt:i < its.toArray.size:=by
   have:=(List.getElem?_eq_some_iff.mp hu).1;simpa using this
  refine wpAny_pyNext_enum_itemD (drawsS (A:=X.A.in1) (I.ok.hd hc) it a its.toArray hia) (i:=i + 1) he ⟨i,rfl,hit,p.isList⟩ (by omega) hne (by simp[hne,hea]) fun y h' tk py ho st' hT hsz hk=>?_;obtain⟨j,ej,hy⟩ :=py;obtain⟨j2,ej2,hit',_⟩ :=st';have e1:j=i:=by omega
  have e2:j2=i + 1:=by omega
  subst e1 e2;have hyu:y=u:=by
   have:its.toArray[j]? =some u:=by simpa using hu
   rw[this]at hy;injection hy with hy
   exact hy.symm
  subst hyu;refine⟨_,rfl,wpAny_letOwnedTupleGo_enum (s:={s with heap:=h',toks:=tk + 1}) ho fun h'' he' sb=>?_⟩;have hT2:h''.get? s.heap.objs.size=some {cls:=.type "tuple",data:=.seq #[.int ((j + 1:Nat):Int) tk,y]}:=(sb.2 _ (Nat.ne_of_gt hel)).trans hT;have new:ObjOk X.prog X.w (upd H s.heap.objs.size (.tup [.int ((j + 1:Nat):Int),x])) h'' s.heap.objs.size (.tup [.int ((j + 1:Nat):Int),x]):=
   ⟨by show 2<=sizeLine;decide,[.int ((j + 1:Nat):Int) tk,y],.cons ⟨_,rfl⟩ (.cons ru .nil),⟨_,hT2,rfl,_,rfl⟩⟩
  have I1:Inv X pins σ (upd H s.heap.objs.size (.tup [.int ((j + 1:Nat):Int),x])) {s with heap:=h'',toks:=tk + 1}:=
   I.turnedNew (ch:=[e,it]) (fun b ob hb q=>(sb.2 b (fun z=>hb (by simp[z]))).trans (hk b ob (fun z=>hb (by simp[z])) (fun z=>hb (by simp[z])) q)) hf (Nat.le_refl _) new
  refine⟨.ref s.heap.objs.size,_,I1,rfl,⟨_,x,rfl,I.hok.fresh (Nat.le_refl _),rfl,fun ys hy=>by rw[I.list_inj hy hq];exact hx⟩,⟨⟨y,?_⟩,hit'.at fun o q=>(sb.2 it (Ne.symm hne)).trans q,hne⟩,fun b hb=>?_⟩
  ·have e1:((j + 1 + 1:Nat):Int)=((j + 1:Nat):Int) + 1:=by omega
   rw[e1];exact he'
  ·have hb':b < s.heap.objs.size:=by
    have e':b=e∨b=it:=by simpa using hb
    rcases e' with z|z
    ·rw[z];exact hel
    ·rw[z];exact hil
   rw[Ak (Nat.ne_of_lt hb')];exact(hf b hb).1
 done:=by
  intro X hP hw hK hc i pins s σ H E I hf st hg;subst hP hw hK;obtain⟨⟨old,he⟩,hit,hne⟩ :=st;obtain⟨xs,hq,hx⟩ :=hg;obtain⟨its,rv,p,hz⟩ :=I.list hq;obtain⟨f0,f1,f2,f3,f4,f5⟩ :=hf it (by simp);have hl:=rv.length;refine wpAny_pyNext_enum_endD (drawsEnd (A:=X.A.in1) (I.ok.hd hc) it a its.toArray i (by simp;omega)) he ⟨hit,p.isList⟩ fun h' eb=> ⟨rfl,I.turned (t':=s.toks) (fun b o hb q=>eb b o hb q) f0 f1 f3 f4 f5⟩
 self:=fun A i s Q E st h=>let⟨⟨_,he⟩,_⟩ :=st;wpAny_pyIter_enum he h
end L2
namespace L2
open PySem PySem.Spec PyProof.Rows
def iEnumS(K:PySem.W.Frag)(te:TE):TI:=fun σ H R=>te σ H fun v H1=>∃a xs,v=.ref a/\SqL K H1 a xs/\R (IteS K a) H1
theorem cM{X:Cx}{e:Expr}{te:TE}{p pos tpos kp kq:Pos}{elts:List Expr}{kk c:Nat}(hg:Gl X "enumerate")(hm:X.mg "enumerate"=none)(he:PE X e te)(hs:starEach [e] X.env= [(false,eval e X.env)]:=by rfl):
  PI X (.Tuple elts kk tpos) (.Call (.Name "enumerate" p) [e] [⟨some "start",.Constant (.int 1) c kp,kq⟩] pos) (iEnumS X.K te):=by
 intro pins s σ H R I h;refine wpAny_Call_Name_kw (Fq I hg hm boot_enumerate (Ol ?_ hs rfl rfl));refine thn (he pins s σ H _ I h) fun v s1 ⟨x,H1,I1,r1,a,xs,ex,hq,q⟩ =>?_;subst ex;cases r1;refine kws_cons ?_;refine thn (Af pins s1 σ H1 (fun v H'=>v=.int 1/\H'=H1) I1 ⟨rfl,rfl⟩) fun u s2 ⟨y,H2,I2,r2,e1,e2⟩ =>?_;subst e1 e2;obtain⟨t,rfl⟩ :=r2;refine kws_nil ?_;obtain⟨its,rv,p',hz⟩ :=I2.list hq;show wpAny _ _ (call (.type "enumerate") [.ref a] [("start",.int 1 t)]) _ _ _;refine Wt p'.isList (wpAny_pyIter_enum (Os _ _) ?_);have I3:Inv X pins σ H2 {s2 with heap:=enumHeap s2.heap a}:=I2.kept (t':=s2.toks) fun b o z=>Wv z;refine⟨s2.heap.objs.size + 1,[s2.heap.objs.size + 1,s2.heap.objs.size],_,_,H2,rfl,I3,X5 a (s2.heap.objs.size + 1) s2.heap.objs.size,⟨⟨.none,Os _ _⟩,aY _ _,Nat.succ_ne_self _⟩,fun b hb=>?_,q⟩;have e':b=s2.heap.objs.size + 1∨b=s2.heap.objs.size:=by simpa using hb
 have hle:s2.heap.objs.size<=b:=by
  rcases e' with z|z
  ·rw[z];exact Nat.le_add_right _ _
  ·rw[z];exact Nat.le_refl _
 exact I2.fpOk hle (I2.hok.fresh hle)
end L2
namespace Dr
open Vbirad (Q Party Kind House Bytes text partsOf wordsOf linesOf numberIn isName isDigit isSmall find findAll weightIn lineOf readFrom readSharing RULES KEYS free distinct CLAIM WEIGHT MEMBERS PARTIES whole_ Call WATER byChance byParts claimOf claimsIn digits evenly fact halves inOrder isGroup isMember isParty isPerson leastFor levelFrom losses membersOf nums onSharing partyAt printParty printSharing proofOf qRow risen ruleOf setClaim setRule shareBy shareFrom shareOf spaced subsets sumQ weightsIn)
open PySem PySem.Spec PyProof.Rows L2
theorem Xy{α:Type}{K:PySem.W.Frag}{p:Addr}{xs:List V}{B:Hp->Prop}{as:List α}{R:Rel α}(hR:Stay R)
  (h:∀H,B H->SqL K H p xs/\Its R H as xs):Seqs (IteS K p) B (as.zipIdx 1) (fun ai v H=>Par K IsN R (ai.2,ai.1) v H):=fun H b=>by
 obtain⟨h1,h2⟩ :=h H b;have hl:=h2.len;rw[List.length_zipIdx];refine⟨fun i hi=>?_,⟨xs,h1,by omega⟩,?_⟩
 ·exact⟨xs,xs[i]'(by omega),h1,by simp[show i < xs.length by omega]⟩
 ·rintro i v H' hi ⟨T,x,rfl,hT,rfl,hx⟩;obtain⟨a,ha,r⟩ :=h2.at (hx xs h1);refine⟨Same.upd hT,(a,i + 1),?_,T,_,x,rfl,SqT.of Ae,rfl,hR _ _ _ _ (Same.upd hT) r⟩;rw[Fb (k:=1) ha,Nat.add_comm]
section
variable {P:Program}{w:World}{K:PySem.W.Frag}{mg:Str->Option Value}{base:Heap}{kw rn:Addr}{C:Addr}
inductive spRoot(K:PySem.W.Frag)(C:Addr)(vs:List V)(H:Hp)(Q:VK)(_e3:XK):Prop|m:∀(ps:List Party) (v:V),vs= [v]->Lst K (PtR C) ps v H->PWf ps->Ret H (IsB (hasRoot ps)) Q->spRoot K C vs H Q _e3
abbrev M3:Stmt:=top 78
theorem Fg:FnScope ["parties","taken","number"] ["parties"] (defScope M3):=fS
theorem U8(F:FunN K mg "has_root" M3)(T:Blt mg)(wM:Df P w K mg base 1 "taken_members" ["parties"] (spTaken K C)):Df P w K mg base 2 "has_root" ["parties"] (spRoot K C):=by
 refine Df.of F Fg (fun vs H Q E h=>?_) (fun f cdv A outer s H vs Q E hr h=>?_)
 ·obtain⟨ps,v,rfl,_⟩ :=h;rfl
 ·obtain⟨ps,_,rfl,lp,wf,k⟩ :=h;have lp0:=lp;obtain⟨p,xs,rfl,hl,hi⟩ :=lp;have hlen:=hi.len;have h30:=wf.len;refine⟨_,Ac (A1 (At Cn (Ao An (by rfl) T.len PySem.boot_len (Aa (pv 0) Ab)) (Af) (nomark _))
    (Ad (Ah (gC)))
    (Aq))
   (Ac (Aj (i:=1) Fg.nd rfl (Or.inr rfl) (pd wM hr (Aa (pv 0) Ab)))
   (Ad (Ah (Ao (Sl rfl) (by rfl) T.all boot_all (Aa (Co (own:=[("number",2)]) rfl Fg.nd (Ma rfl T.range (Aa (Az J8 (Ao An (by rfl) T.len PySem.boot_len (Aa (pv 0) Ab)) (Af)) Ab)) (Ax (by rfl)) (fun _ _ _ _ _=>Am (i:=2) Fg.nd rfl (Or.inl rfl)) (fun _ _ _ _ _=>A6) (fun _ _ _ _ _=>D9 (Pp (K:=K) rfl) (pv 2) (pv 1) (by with_unfolding_all rfl))) Ab))))),?_⟩
  refine⟨_,rfl,p,_,rfl,.inl hl,rfl,_,rfl,?_⟩;rw[<-hlen,Br];refine iteB (fun h1=>k _ _ (Same.refl _) ?_) (fun h1=>?_)
  ·have h1:ps.length=0:=by have:=vG h1;omega
   show _=_;unfold hasRoot;rw[if_pos h1]
  ·have h1:ps.length≠0:=by have:=vH h1;omega
   refine⟨_,rfl,ps,_,rfl,lp0,wf,?_⟩;rintro _ H2 s2 ⟨pt,zs,rfl,hpt,izs⟩;obtain rfl:=O2 izs;refine⟨_,rfl,p,_,rfl,.inl (s2.seq hl),_,_,rfl,rfl,?_⟩;rw[<-hlen];refine⟨_,rfl,by omega,by omega,Bx (as:=List.range (ps.length - 1)) (R:=fun i v _=>v=.int (0 + (i:Int))) (S:=IsB) (fun n=>decide (n∈taken ps)) So ?_ (by rw[v8];exact vO (show _<=30 by omega) (by decide)) (fun n x H' Qe hm sm' rx kk=>?_) (fun _ _ _ _ h q=>A2 h q) (fun D zs H3 s3 hD o=>?_)⟩
   ·rw[show((ps.length:Int) - 1).toNat=ps.length - 1 by omega];exact Gp
   ·obtain rfl:x=V.int (0 + (n:Int)):=rx;rw[Int.zero_add];refine⟨rfl,_,rfl,_,rfl,pt,_,rfl,.inl (sm'.seq (SqL.of hpt)),rfl,Oa,kk _ _ (Same.refl _) ?_⟩;show V.bl (inV _ _)=_;rw[bH]
   ·have e:=Ut o;subst e;refine⟨D,_,rfl,SqL.of hD,k _ _ (s2.trans s3) ?_⟩;show _=_;unfold hasRoot;rw[if_neg h1,List.all_map];rfl
theorem Jh(c:Nat):∀(t:Bytes),∀w∈partsOf c t,w.length<=t.length/\∀b∈w,b∈t
 | [],w,h=>by
  have h:w∈[[]]:=h;rw[List.mem_singleton.mp h];simp
 |x::t,w,h=>by
  have ih:=Jh c t;have h:w∈(if x=c then []::partsOf c t else match partsOf c t with
   | []=>[[x]]
   |v::r=>(x::v)::r):=h
  split at h
  ·rcases vJ h with z|z
   ·rw[z];simp
   ·have:=ih w z;exact⟨by rw[vK];omega,fun b hb=>List.mem_cons_of_mem _ (this.2 b hb)⟩
  ·cases hp:partsOf c t with
   |nil=>exact absurd hp (Vh c t)
   |cons v r=>
    rw[hp]at h ih;rcases vJ h with z|z
    ·have:=ih v (by simp);rw[z];refine⟨by rw[List.length_cons,List.length_cons];omega,fun b hb=>?_⟩;rcases List.mem_cons.mp hb with y|y
     ·rw[y];simp
     ·exact List.mem_cons_of_mem _ (this.2 b y)
    ·have:=ih w (by simp[z]);exact⟨by rw[List.length_cons];omega,fun b hb=>List.mem_cons_of_mem _ (this.2 b hb)⟩
theorem hZ(b:Nat):nrm b < 128:=by
 unfold nrm;split
 ·rename_i h
  unfold okB isSmall isDigit at h;simp at h;omega
 ·omega
theorem Rp{t:Bytes}:∀l∈Vbirad.linesOf t,l.length<=t.length/\∀b∈l,b∈t:=fun l hl=>by
 unfold Vbirad.linesOf at hl;dsimp only at hl;split at hl
 ·exact Jh 10 t l ((List.dropLast_subset _ hl))
 ·exact Jh 10 t l hl
theorem Zm(t:Bytes):(Vbirad.linesOf t).length<=t.length + 1:=by
 have:=Fx 10 t;unfold Vbirad.linesOf;dsimp only;split
 ·rw[List.length_dropLast];omega
 ·exact this
theorem dS{t l:Bytes}(ht:t.length<=2000)(hb:∀b∈t,b < 128)(hl:l∈Vbirad.linesOf t):Wd (wordsOf l):=by
 obtain⟨h1,h2⟩ :=Rp l hl;have hp:=Fx 32 l;constructor
 ·unfold Vbirad.wordsOf;have:=List.length_filter_le (fun w:Bytes=>!w.isEmpty) (partsOf 32 l);omega
 ·intro w hw;unfold Vbirad.wordsOf at hw;obtain⟨h3,h4⟩ :=Jh 32 l w (List.mem_filter.mp hw).1;exact⟨fun b hb'=>hb b (h2 b (h4 b hb')),by omega⟩
structure PtsL(C:Addr)(ps:List Party)(l:Addr)(H:Hp):Prop where
 ex:∃as:List Addr,H l=some (.lst (as.map V.ref))/\Paired (fun p a=>PartyAt C p a H) ps as/\as.Nodup
theorem ptsIts{H:Hp}:∀{ps:List Party} {as:List Addr},Paired (fun p a=>PartyAt C p a H) ps as->Its (PtR C) H ps (as.map V.ref)
 |_,_,.nil=>.nil
 |_,_,.cons h t=>.cons ⟨_,rfl,h⟩ (ptsIts t)
theorem PtsL.lst{ps:List Party}{l:Addr}{H:Hp}(h:PtsL C ps l H):Lst K (PtR C) ps (.ref l) H:=by
 obtain⟨as,h1,h2,_⟩ :=h.ex;exact⟨l,_,rfl,SqL.of h1,ptsIts h2⟩
theorem PartyAt.keep{p:Party}{a:Addr}{H H':Hp}(s:Same H H')(h:PartyAt C p a H):PartyAt C p a H':=by
 obtain⟨dx,pm,nm,h1,h2,h3⟩ :=h.ex;exact⟨dx,pm,nm,s _ _ h1,h2,s _ _ h3⟩
theorem Vg{α β:Type}{R:α->β->Prop}:∀{as:List α} {bs:List β} {a:α} {b:β},Paired R as bs->R a b->Paired R (as++[a]) (bs++[b])
 |_,_,_,_,.nil,h=>.cons h .nil
 |_,_,_,_,.cons x t,h=>.cons x (Vg t h)
theorem Yy{α β:Type}{R:α->β->Prop}:∀{as:List α} {bs:List β} {b:β},Paired R as bs->b∈bs->∃a∈as,R a b
 |_,_,b,.nil,h=>by simp at h
 |a::as,c::bs,b,.cons x t,h=>by
  rcases vJ h with z|z
  ·exact⟨a,by simp,z▸x⟩
  ·obtain⟨d,hd,r⟩ :=Yy t z;exact⟨d,by simp[hd],r⟩
theorem Pq{α β:Type}{R:α->β->Prop}:∀{as:List α} {bs:List β},Paired R as bs->Paired (fun a b=>R a b/\b∈bs) as bs
 |_,_,.nil=>.nil
 |_,_,.cons x t=>.cons ⟨x,by simp⟩ (Paired.mono (fun _ _ h=> ⟨h.1,List.mem_cons_of_mem _ h.2⟩) (Pq t))
def Told(K:PySem.W.Frag)(C:Addr)(r:Except Nat (List Party)):V->Hp->Prop:=fun v H=>∃T l,v=.ref T/\match r with
 |.error i=>SqT K H T [.ref l,.int (i:Int)]
 |.ok ps=>SqT K H T [.ref l,.int 0]/\PtsL C ps l H/\Good ps/\ps≠[]
inductive spRead(K:PySem.W.Frag)(C:Addr)(vs:List V)(H:Hp)(Q:VK)(_e3:XK):Prop|m:∀(ns:List Nat) (v:V),vs= [v]->Lst K IsN ns v H->(∀n∈ns,n < 256)->ns.length<=2000->Ret H (Told K C (readSharing ns)) Q->spRead K C vs H Q _e3
theorem Vp{i:Nat}:∀{ls:List Bytes} {ps:List Party} {e:Nat},readFrom i ps ls=.error e->i<=e:=by
 intro ls
 induction ls generalizing i with
 |nil=>
  intro ps e h;unfold readFrom at h;split at h
  ·cases h
  ·injection h with h;omega
 |cons l ls ih=>
  intro ps e h;unfold readFrom at h;split at h
  ·have:=ih h;omega
  ·split at h
   ·have:=ih h;omega
   ·injection h with h;omega
abbrev Hj:Stmt:=top 79
theorem Bu:FnScope ["numbers","lines","parties","count","line","words","party"] ["numbers"] (defScope Hj):=fS
theorem Nt(F:FunN K mg "read_sharing" Hj)(T:Blt mg)(yD:Df P w K mg base 1 "as_text" ["numbers"] (spAsText K))(yB:Df P w K mg base 1 "lines_of" ["text"] spLines)
  (yC:Df P w K mg base 1 "words_of" ["line"] spWords) (uT:Df P w K mg base 5 "read_party" ["words","parties"] (spRPty K C)) (u9:Df P w K mg base 2 "has_root" ["parties"] (spRoot K C)):
  Df P w K mg base 6 "read_sharing" ["numbers"] (spRead K C):=by
 refine Df.of F Bu (fun vs H Q E h=>?_) (fun f cdv A outer s H vs Q E hr h=>?_)
 ·obtain⟨ns,v,rfl,_⟩ :=h;rfl
 ·obtain⟨ns,v,rfl,ln,hb,hn,k⟩ :=h;refine⟨_,Ac (Aj (i:=1) Bu.nd rfl (Or.inl rfl) (pd yB hr (Aa (pd yD hr (Aa (pv 0) Ab)) Ab)))
   (Ac (Aj (i:=2) Bu.nd rfl (Or.inl rfl) (Av (Ab)))
   (Ac (Ch PassesOwn.never rfl (cM rfl T.enumerate (pv 1)) (J9 rfl (A5 (Am (i:=3) Bu.nd rfl (Or.inl rfl)) (A5 (Am (i:=4) Bu.nd rfl (Or.inl rfl)) (C6))))
    (Ac (Aj (i:=5) Bu.nd rfl (Or.inl rfl) (pd yC hr (Aa (pv 4) Ab)))
    (Ad (A1 (At Po (Ao An (by rfl) T.len PySem.boot_len (Aa (pv 5) Ab)) (Af) (nomark _))
     (Ac (Aj (i:=6) Bu.nd rfl (Or.inl rfl) (pd uT hr (Aa (pv 5) (Aa (pv 2) Ab))))
     (Ac (A1 (At cD (pv 6) (D5) (nomark _))
      (Ad (Ah (Ft (Aa (Av (Ab)) (Aa (pv 3) Ab)))))
      (Aq))
     (Ad (Cg (Eh PySem.F.plainAttrs_list PySem.F.slot_list_append PySem.F.type_list_append Dc (pv 2) (Aa (pv 6) Ab))))))
     (Aq)))))
   (Ac (A1 (Bf (Bk (pd u9 hr (Aa (pv 2) Ab))))
    (Ad (Ah (Ft (Aa (Av (Ab)) (Aa (Az B7 (Ao An (by rfl) T.len PySem.boot_len (Aa (pv 1) Ab)) (Af)) Ab)))))
    (Aq))
   (Ad (Ah (Ft (Aa (pv 2) (Aa (Af) Ab)))))))),?_⟩
  refine⟨_,rfl,ns,v,rfl,ln,hb,hn,?_⟩;rintro _ H1 s1 rfl;refine⟨_,rfl,by rw[vB];exact hn,?_⟩;rintro _ H2 s2 ⟨pl,ys,rfl,hpl,iys⟩;obtain rfl:=Gw iys;have s12:=s1.trans s2;have hrs:readSharing ns=readFrom 1 [] (Vbirad.linesOf (ns.map nrm)):=(Nv ns).symm;have hlt:∀b∈ns.map nrm,b < 128:=fun b hb=>by
   obtain⟨c,_,rfl⟩ :=vL hb;exact hZ c
  have hlen:(ns.map nrm).length<=2000:=by rw[vB];exact hn
  have hll:=Zm (ns.map nrm);have hwd:∀l∈Vbirad.linesOf (ns.map nrm),Wd (wordsOf l)/\l.length<=2000:=fun l hl=> ⟨dS hlen hlt hl,vA (Rp l hl).1 hlen⟩;rw[hrs]at k;generalize Vbirad.linesOf (ns.map nrm)=L at *;refine⟨vW _,fun q hq=>?_⟩;have s3:Same H2 (upd H2 q (.lst [])):=Same.upd hq;have herr:∀(H5:Hp) (T l:Addr) (e:Nat),Same H2 H5->readFrom 1 [] L=.error e->SqT K H5 T [.ref l,.int (e:Int)]->Q (.ref T) H5:=fun H5 T l e sm he hT=>k _ _ (s12.trans sm) (by
   rw[he];exact⟨T,l,rfl,hT⟩)
  refine⟨_,rfl,pl,_,rfl,SqL.of (s3 _ _ hpl),Bi (B:=Same H2) (as:=L.zipIdx 1) (R:=fun ai v H=>Par K IsN IsW (ai.2,ai.1) v H) (Xy (xs:=sV L) Kq.stay fun H' sm=> ⟨SqL.of (sm _ _ hpl),Gv _⟩)
   (fun i σ H'=>Same H2 H'/\∃(a b c d:Option V) (ps:List Party) (as:List Addr),σ= [some v,some (.ref pl),some (.ref q),a,b,c,d]/\H' q=some (.lst (as.map V.ref))/\Paired (fun p a=>PartyAt C p a H') ps as/\as.Nodup/\Good ps/\
    readFrom 1 [] L=readFrom (i + 1) ps (L.drop i)) ⟨s3,none,none,none,none,[],[],rfl,Ae,.nil,List.nodup_nil,O0,rfl⟩ (fun i σ H' h=>h.1) ?_ ?_⟩
  ·rintro i ⟨l,cnt⟩ x σ H3 H4 hli ⟨sm,a1,b1,c1,d1,ps,as,rfl,hps,hpp,hnd,gd,hrd⟩ s4 ⟨T,vc,vl,rfl,hT,rc,rl⟩;obtain rfl:vc=V.int (cnt:Int):=rc;obtain rfl:vl=V.str (sOf l):=rl;have hil:i < L.length:=by
    have:=(vF hli).1
    rwa [List.length_zipIdx]at this
   have hLi:L[i]? =some l/\cnt=i + 1:=by
    have h1:L[i]? =some L[i]:=vC hil;have h2:=Fb (k:=1) h1;rw[hli]at h2;injection h2 with h2
    injection h2 with h3 h4
    exact⟨by rw[h3];exact h1,by omega⟩
   obtain⟨hLi,rfl⟩ :=hLi;have hdrop:L.drop i=l::L.drop (i + 1):=by
    rw[List.drop_eq_getElem_cons hil];congr 1;rw[vC hil]at hLi;exact vE hLi
   rw[hdrop]at hrd;obtain⟨wd,hl2⟩ :=hwd l (vD hLi);have sm4:=sm.trans s4;refine⟨T,_,rfl,hT,rfl,_,_,rfl,_,_,rfl,rfl,?_⟩;refine⟨_,rfl,l,rfl,hl2,?_⟩;rintro _ H5 s5 ⟨pw,zs,rfl,hpw,izs⟩;obtain rfl:=Gw izs;have sm5:=sm4.trans s5;have hps5:=s5 _ _ (s4 _ _ hps);have hpp5:Paired (fun p a=>PartyAt C p a H5) ps as:=Paired.mono (fun _ _ h=>PartyAt.keep (s4.trans s5) h) hpp;refine⟨_,rfl,pw,_,rfl,.inl (SqL.of hpw),_,_,rfl,rfl,_,rfl,?_⟩;rw[C9];have hrd':readFrom 1 [] L=if (wordsOf l).isEmpty=true then readFrom (i + 1 + 1) ps (L.drop (i + 1))else match lineOf ps (wordsOf l)with
     |some x=>readFrom (i + 1 + 1) x (L.drop (i + 1))
     |none=>.error (i + 1):=hrd
   refine iteB (fun g1=>?_) (fun g1=>?_)
   ·have g1:0 < (wordsOf l).length:=by have:=vG g1;omega
    rw[if_neg (by rw[List.isEmpty_iff];intro z;rw[z]at g1;simp at g1),Ro gd.nw gd.wf.len (Ll l)]at hrd';have lp5:Lst K (PtR C) ps (.ref q) H5:= ⟨q,_,rfl,SqL.of hps5,ptsIts hpp5⟩;refine⟨_,rfl,_,rfl,wordsOf l,ps,_,_,rfl,⟨pw,_,rfl,SqL.of hpw,Gv _⟩,wd,lp5,gd.wf,?_⟩;intro u H6 s6 ru;have sm6:=sm5.trans s6;cases hp:readParty ps (wordsOf l)with
    |none=>
     rw[hp]at ru hrd';obtain rfl:u=V.non:=ru;refine⟨_,rfl,rfl,_,rfl,?_⟩;refine iteTr rfl ?_;refine⟨vW _,fun l2 hl2=> ⟨_,rfl,by show 2<=sizeLine;decide,fun T2 hT2=>?_⟩⟩;exact herr _ T2 l2 (i + 1) (Same.updT (Same.updT sm6 hl2) hT2) hrd' (SqT.of Ae)
    |some pt=>
     rw[hp]at ru hrd';obtain⟨a,pm0,rfl,ha,paM,hfr⟩ :=ru;have⟨gd2,hlt30⟩ :=Pu gd (Ll l) hp;have hps6:=s6 _ _ hps5;have hal:as.length=ps.length:=(Paired.length hpp).symm;have haq:a≠q:=fun z=>by rw[z,hps5]at ha;cases ha
     refine⟨_,rfl,rfl,_,rfl,?_⟩;refine iteFl rfl ?_;refine⟨_,rfl,.inl ⟨rfl,_,SqL.of hps6⟩,_,rfl,q,_,_,rfl,rfl,hps6,?_,fun b o eo=>?_,_,_,_,_,ps++[pt],as++[a],rfl,?_,?_,?_,gd2,hrd'⟩
     ·rw[vB];exact vO (show _<=30 by omega) (by decide)
     ·rw[Ak (Al eo hq)];exact sm6 b o eo
     ·rw[Ae,List.map_append];rfl
     ·have up:∀{p:Party} {b pm:Addr},PartyAtM C p b pm H6->(mem p= []->as= []->pm≠q)->PartyAt C p b (upd H6 q (.lst (as.map V.ref++[.ref a]))):=fun{p b pm} h hz=>by
       obtain⟨dx,nm,h1,h2,h3⟩ :=h.ex;have n1:b≠q:=fun z=>by rw[z,hps6]at h1;cases h1
       have n2:pm≠q:=fun z=>by
        have h3':=h3;rw[z,hps6]at h3';injection h3' with h3'
        injection h3' with h3'
        cases has:as with
        |nil=>
         rw[has]at h3';exact hz (List.map_eq_nil_iff.mp h3'.symm) has z
        |cons c cs=>
         rw[has]at h3';cases hmp:mem p with
         |nil=>unfold mV at h3';rw[hmp]at h3';cases h3'
         |cons m ms=>unfold mV at h3';rw[hmp]at h3';injection h3' with h4 h5;cases h4
       exact⟨dx,pm,nm,by rw[Ak n1];exact h1,h2,by rw[Ak n2];exact h3⟩
      refine Vg (Paired.mono (fun p b h=>?_) (Pq hpp5)) (up paM fun z _ y=>?_)
      ·obtain⟨h,hin⟩ :=h;obtain⟨dx,pm,nm,h1,h2,h3⟩ :=(PartyAt.keep s6 h).ex;exact up (pm:=pm) ⟨dx,nm,h1,h2,h3⟩ fun _ y=>absurd hin (by rw[y];simp)
      ·have:=hfr z;rw[y,hps5]at this;cases this
     ·rw[List.nodup_append];refine⟨hnd,by simp,fun b hb c hc=>?_⟩;rw[List.mem_singleton.mp hc];intro z;obtain⟨p,_,hpa⟩ :=Yy hpp5 hb;obtain⟨dx,pm,nm,h1,_⟩ :=hpa.ex;rw[z,ha]at h1;cases h1
   ·have g1:(wordsOf l).length=0:=by have:=vH g1;omega
    rw[if_pos (by rw[List.isEmpty_iff];exact List.length_eq_zero_iff.mp g1)]at hrd';exact⟨sm5,_,_,_,_,ps,as,rfl,hps5,hpp5,hnd,gd,hrd'⟩
  ·rintro σ H3 ⟨sm,a1,b1,c1,d1,ps,as,rfl,hps,hpp,hnd,gd,hrd⟩;rw[List.length_zipIdx,List.drop_length]at hrd;have hrd':readFrom 1 [] L=if whole_ ps=true then .ok ps else .error (L.length + 1):=hrd
   have lp3:Lst K (PtR C) ps (.ref q) H3:= ⟨q,_,rfl,SqL.of hps,ptsIts hpp⟩;refine⟨_,rfl,ps,_,rfl,lp3,gd.wf,?_⟩;rintro _ H4 s4 rfl;have sm4:=sm.trans s4;refine⟨_,rfl,?_⟩;rw[fM gd.wf]at hrd';refine iteB (fun g1=>?_) (fun g1=>?_)
   ·have g1:hasRoot ps=false:=by simpa using g1
    rw[if_neg (by rw[g1];simp)]at hrd';refine⟨Nat.zero_le _,fun l2 hl2=>?_⟩;have sl:=Same.updT (o:=.lst []) sm4 hl2;refine⟨_,rfl,pl,_,rfl,.inl (SqL.of (sl _ _ hpl)),_,_,rfl,rfl,by show 2<=sizeLine;decide,fun T2 hT2=>?_⟩;rw[C9];exact herr _ T2 l2 (L.length + 1) (Same.updT sl hT2) hrd' (SqT.of Ae)
   ·have g1:hasRoot ps=true:=by simpa using g1
    rw[if_pos g1]at hrd';refine⟨_,rfl,by show 2<=sizeLine;decide,fun T2 hT2=>?_⟩;have s5:=Same.updT (o:=.tup [.ref q,.int 0]) s4 hT2;refine k _ _ (s12.trans (sm.trans s5)) ?_;rw[hrd'];refine⟨T2,q,rfl,SqT.of Ae,⟨as,s5 _ _ hps,Paired.mono (fun _ _ h=>PartyAt.keep s5 h) hpp,hnd⟩,gd,?_⟩;intro z;rw[z]at g1;exact absurd g1 (by decide)
end
end Dr
namespace L2
open PySem PySem.Spec PyProof.Rows
open AutoSeq1 (wpAny_loadPart')
theorem Wx(l b:Addr)(its its2:Array Value)(n n2:Nat)(dd:Option Addr)(sl:Array (Option Value))(h0:¬(!its.isEmpty&&Builtin.List.listTooLong (its.size + its2.size))=true)(h1:its.size<=sizeLine)(h2:its.size + its2.size<=sizeLine + 1):
  Meets (Builtin.«list.extend» ⟨[.ref l,.ref b],[]⟩) (fun _ R s=>s.heap.get? l=some {cls:=.type "list",data:=.seq its n}/\s.heap.get? b=some {cls:=.type "tuple",dict:=dd,data:=.seq its2 n2,slots:=sl}/\
   R (.ok (.ret .none)) {s with heap:=s.heap.update l (Obj.mapSeq fun x=>x++its2)}):=
 .of_wp fun prog w A R s h=>by
  obtain⟨hp,g,d,tk,os⟩ :=s;obtain⟨hl,hb,h⟩ :=h;have f1:=AutoSeq1.idx_int;have f2:=AutoSeq1.sub_tuple_tuple;have f3:=AutoSeq1.sub_list_list;have f4:=AutoSeq1.sub_tuple_list;have f5:=AutoSeq1.sub_list_tuple;have h3:(its++its2).size<=sizeLine + 1:=by
   rw[Array.size_append];exact h2
  wp_walk using (wpAny_updateSeq hl rfl (hz:=h1) (_hz':=h3)),wpAny_loadPart' hl,wpAny_loadPart' hb
  exact⟨_,rfl,h⟩
section
variable {X:Cx}
inductive rExtendT(K:PySem.W.Frag)(x:V)(vs:List V)(H:Hp)(Q:VK):Prop|m:∀l b xs zs,x=.ref l->vs= [.ref b]->H l=some (.lst xs)->SqT K H b zs->xs.length + zs.length<=sizeLine->Q .non (upd H l (.lst (xs++zs)))->rExtendT K x vs H Q
theorem O8:MtM X "list.extend" (rExtendT X.K):=by
 intro pins s σ H x vs v us Q I rx rv h;obtain⟨l,b,xs,zs,rfl,rfl,hH,hB,hz,q⟩ :=h;cases rx;obtain⟨u,rfl,ru⟩ :=rv.one;cases ru;obtain⟨z,its,n,r,hl,e⟩ :=I.lstM hH;obtain⟨its2,r2,⟨⟨cls,dd,data,sl⟩,ho,hc,n2,hd⟩,hlen⟩ :=I.tuple hB;simp only at hc hd;subst hc hd;have hl2:=r2.length;have hsz:its.toArray.size + its2.toArray.size<=sizeLine:=by rw[List.size_toArray,List.size_toArray];omega
 have hlong:¬(!its.toArray.isEmpty&&Builtin.List.listTooLong (its.toArray.size + its2.toArray.size))=true:=by
  rw[notLongL hsz,Bool.and_false];exact vT
 refine call_meets F.slot_list_extend ⟨_,e,rfl⟩ F.entry_list_extend (F.args_list_extend_2 _ _)
  (Wx l b its.toArray its2.toArray n n2 dd sl hlong (by rw[List.size_toArray];omega) (by omega)) ⟨e,ho,?_⟩
 refine⟨.non,_,I.lset (its':=its++its2) hH e (by simp) (r.append r2) ?_,rfl,q⟩;rw[List.length_append];omega
end
end L2
namespace Dr
open Vbirad (Q Party Kind House Bytes text partsOf wordsOf linesOf numberIn isName isDigit isSmall find findAll weightIn lineOf readFrom readSharing RULES KEYS free distinct CLAIM WEIGHT MEMBERS PARTIES whole_ Call WATER byChance byParts claimOf claimsIn digits evenly fact halves inOrder isGroup isMember isParty isPerson leastFor levelFrom losses membersOf nums onSharing partyAt printParty printSharing proofOf qRow risen ruleOf setClaim setRule shareBy shareFrom shareOf spaced subsets sumQ weightsIn)
open PySem PySem.Spec PyProof.Rows L2
section
variable {P:Program}{w:World}{K:PySem.W.Frag}{mg:Str->Option Value}{base:Heap}{C:Addr}
inductive spFlat(K:PySem.W.Frag)(vs:List V)(H:Hp)(R:VK)(_e3:XK):Prop|m:∀(qs:List Q) (v:V),vs= [v]->Lst K (Fra K) qs v H->qs.length<=10000->Ret H (Own IsI (qs.flatMap qRow)) R->spFlat K vs H R _e3
abbrev Y0:Stmt:=top 99
theorem Tw:FnScope ["ratios","numbers","each"] ["ratios"] (defScope Y0):=fS
theorem Mb(qs:List Q):(qs.flatMap qRow).length=2 * qs.length:=by
 induction qs with
 |nil=>rfl
 |cons q qs ih=>rw[List.flatMap_cons,vI,ih,vK];show 2 + _=_;omega
theorem fA(F:FunN K mg "flat" Y0):Df P w K mg base 1 "flat" ["ratios"] (spFlat K):=by
 refine Df.of F Tw (fun vs H Q E h=>?_) (fun f cdv A outer s H vs R E hr h=>?_)
 ·obtain⟨qs,v,rfl,_⟩ :=h;rfl
 ·obtain⟨qs,_,rfl,⟨p,xs,rfl,hl,hi⟩,hn,k⟩ :=h;refine⟨_,Ac (Aj (i:=1) Tw.nd rfl (Or.inl rfl) (Av (Ab)))
   (Ac (Ch PassesOwn.never rfl (A0 (pv 0)) (Am (i:=2) Tw.nd rfl (Or.inl rfl))
    (Ad (Cg (Eh PySem.F.plainAttrs_list PySem.F.slot_list_extend PySem.F.type_list_extend O8 (pv 1) (Aa (pv 2) Ab)))))
   (Ad (Ah (pv 1)))),?_⟩
  refine⟨vW _,fun q hq=>?_⟩;have s1:Same H (upd H q (.lst [])):=Same.upd hq;refine⟨_,rfl,p,rfl,⟨xs,s1.seq hl⟩,Bi (B:=Same H) (as:=qs) (R:=Fra K) (As (xs:=xs) fun H' sm=> ⟨sm.seq hl,hi.keep fun a v r=>A7.stay _ _ _ _ sm r⟩)
   (fun i σ H'=>Same H H'/\∃(a:Option V),σ= [some (.ref p),some (.ref q),a]/\H' q=some (.lst (((qs.take i).flatMap qRow).map V.int))) ⟨s1,none,rfl,Ae⟩ (fun i σ H' h=>h.1) ?_ ?_⟩
  ·rintro i x v σ H2 H3 hx ⟨sm,a1,rfl,hys⟩ s3 rx;have hil:i < qs.length:=(vF hx).1;obtain⟨px,rfl,hpx⟩ :=rx;have hlen:((qs.take i).flatMap qRow).length<=20000:=by rw[Mb,vU];omega
   refine⟨_,rfl,.inl ⟨rfl,_,SqL.of (s3 _ _ hys)⟩,_,rfl,q,px,_,_,rfl,rfl,s3 _ _ hys,hpx,?_,fun b o eo=>?_,_,rfl,?_⟩
   ·rw[vB];exact vA (Nat.add_le_add_right hlen 2) (by decide)
   ·rw[Ak (Al eo hq)];exact(sm.trans s3) b o eo
   ·rw[Ae,Bm hx,List.flatMap_append,List.map_append];rfl
  ·rintro σ H2 ⟨sm,a1,rfl,hys⟩;rw[v6]at hys;exact⟨_,rfl,k _ _ sm ⟨q,_,rfl,hys,C2 _⟩⟩
def df(l wt:V):List (Str×V):=[("parties",l),("water",wt)]
theorem Au{l wt:V}:(df l wt).lookup ("parties":Str)=some l:=by rfl
theorem Cq{l wt:V}:(df l wt).lookup ("water":Str)=some wt:=by rfl
theorem Op{l wt:V}:(df l wt).lookup ("has_party":Str)=none:=by rfl
theorem Ws{l wt:V}:(df l wt).lookup ("has_person":Str)=none:=by rfl
theorem Ls{l wt:V}:(df l wt).lookup ("has_group":Str)=none:=by rfl
theorem eJ{l wt:V}:putF "water" wt (putF "parties" l [])=df l wt:=by rfl
structure Drg(K:PySem.W.Frag)(mg:Str->Option Value)(D:Addr):Prop where
 cl:Cls K D
 nParties:NoAttr K D "parties"
 nWater:NoAttr K D "water"
 mgD:mg "Drought"=some (.ref D)
structure DrAt(D C:Addr)(h:House)(a:Addr)(H:Hp):Prop where
 ex:∃(dx l:Addr),H a=some (.ins D dx (df (.ref l) (.int (h.water:Int))))/\PtsL C h.parties l H
 wf:PWf h.parties
theorem PtsL.keep{C:Addr}{ps:List Party}{l:Addr}{H H':Hp}(s:Same H H')(h:PtsL C ps l H):PtsL C ps l H':=by
 obtain⟨as,h1,h2,h3⟩ :=h.ex;exact⟨as,s _ _ h1,Paired.mono (fun _ _ q=>PartyAt.keep s q) h2,h3⟩
theorem DrAt.keep{D C:Addr}{h:House}{a:Addr}{H H':Hp}(s:Same H H')(x:DrAt D C h a H):DrAt D C h a H':=by
 obtain⟨dx,l,h1,h2⟩ :=x.ex;exact⟨⟨dx,l,s _ _ h1,h2.keep s⟩,x.wf⟩
theorem Ba{ps:List Party}{i:Int}:isParty ps i=true↔∃j p,i=((j:Nat):Int)/\ps[j]? =some p:=by
 unfold isParty Vbirad.within;rw[Bool.and_eq_true,decide_eq_true_iff,decide_eq_true_iff];constructor
 ·rintro ⟨a,b⟩;exact⟨i.toNat,ps[i.toNat]'(by omega),by omega,vC (by omega)⟩
 ·rintro ⟨j,p,rfl,e⟩;have:=(vF e).1;omega
theorem Fe{ps:List Party}{j:Nat}{p:Party}(e:ps[j]? =some p):partyAt ps j=p:=by
 unfold partyAt;rw[List.getD_eq_getElem?_getD,e];rfl
theorem Fd{ps:List Party}(wf:PWf ps){j:Nat}{p:Party}(e:ps[j]? =some p):isPerson ps (j:Int)=!decide (0 < (mem p).length):=by
 unfold isPerson;rw[Ba.mpr ⟨j,p,rfl,e⟩,Int.toNat_natCast,Fe e,Bool.true_and];have h:=wf.some_ p (List.mem_of_getElem? e);cases hk:p.kind with
 |person c=>
  have:mem p= []:=by unfold mem;rw[hk]
  rw[this];rfl
 |group r ms=>
  have h1:=h r ms hk;have:mem p=ms:=by unfold mem;rw[hk]
  rw[this];have:0 < ms.length:=List.length_pos_iff.mpr h1;simp[this]
theorem E1{ps:List Party}(wf:PWf ps){j:Nat}{p:Party}(e:ps[j]? =some p):isGroup ps (j:Int)=decide (0 < (mem p).length):=by
 unfold isGroup;rw[Ba.mpr ⟨j,p,rfl,e⟩,Fd wf e,Bool.true_and,Bool.not_not]
inductive spDr(D C:Addr)(R:List Party->Int->Bool)(vs:List V)(H:Hp)(Q:VK)(_e3:XK):Prop|m:∀(h:House) (a:Addr) (i:Int),vs= [.ref a,.int i]->DrAt D C h a H->Ret H (IsB (R h.parties i)) Q->spDr D C R vs H Q _e3
abbrev Ek:Stmt:=inClass (top 98) 1
theorem Ig:FnScope ["self","number"] ["self","number"] (defScope Ek):=fS
theorem Te{D:Addr}(F:FunM K D "has_party" "Drought.has_party" Ek)(T:Blt mg)(Z:Drg K mg D):Mdf P w K mg base D 1 "has_party" ["self","number"] (spDr D C isParty):=by
 refine Mdf.of F Ig (fun vs H Q E h=>?_) (fun f cdv A outer s H vs Q E hr h=>?_)
 ·obtain⟨h,a,i,rfl,_⟩ :=h;rfl
 ·obtain⟨h,a,i,rfl,⟨⟨dx,l,h1,h2⟩,wf⟩,k⟩ :=h;refine⟨_,Ad (Ah (cF C4 Ku (Af) (pv 1) (Ao An (by rfl) T.len PySem.boot_len (Aa (Ap (pv 0) rfl) Ab)))),?_⟩;obtain⟨as,g1,g2,g3⟩ :=h2.ex;have hlen:h.parties.length=as.length:=Paired.length g2;refine⟨_,rfl,_,_,rfl,rfl,_,rfl,?_⟩;refine iteB (fun c1=>?_) (fun c1=>?_)
  ·have c1:=of_decide_eq_true c1;refine⟨_,rfl,a,D,dx,_,_,rfl,h1,Z.cl,Z.nParties,Au,l,_,rfl,.inl (SqL.of g1),_,_,rfl,rfl,k _ _ (Same.refl _) ?_⟩;show V.bl _=V.bl _;rw[List.length_map,<-hlen];unfold isParty Vbirad.within;congr 1;rw[Bool.eq_iff_iff,Bool.and_eq_true,decide_eq_true_iff,decide_eq_true_iff,decide_eq_true_iff];omega
  ·have c1:=of_decide_eq_false c1;refine k _ _ (Same.refl _) ?_;show V.bl _=V.bl _;unfold isParty Vbirad.within;rw[decide_eq_false c1];rfl
abbrev Dy:Stmt:=inClass (top 98) 2
theorem Hm:FnScope ["self","number"] ["self","number"] (defScope Dy):=fS
theorem Qx{D:Addr}(F:FunM K D "has_person" "Drought.has_person" Dy)(T:Blt mg)(Y:Pty K mg C)(Z:Drg K mg D)(wF:Mdf P w K mg base C 1 "is_group" ["self"] (spIsGroup C))(wG:Mdf P w K mg base D 1 "has_party" ["self","number"] (spDr D C isParty)):
  Mdf P w K mg base D 2 "has_person" ["self","number"] (spDr D C isPerson):=by
 refine Mdf.of F Hm (fun vs H Q E h=>?_) (fun f cdv A outer s H vs Q E hr h=>?_)
 ·obtain⟨h,a,i,rfl,_⟩ :=h;rfl
 ·obtain⟨h,a,i,rfl,dr,k⟩ :=h;refine⟨_,Ad (Ah (Xo (pm1 wG (pv 0) Z.cl hr (Aa (pv 1) Ab)) (Tp (iF (pm0 wF (Ai Ag (Ap (pv 0) rfl) (pv 1)) Y.cl hr))))),?_⟩;have dr0:=dr;obtain⟨⟨dx,l,h1,h2⟩,wf⟩ :=dr;refine⟨_,rfl,a,dx,_,rfl,h1,Op,_,rfl,h,a,i,rfl,dr0,?_⟩;rintro _ H2 s2 rfl;refine⟨_,rfl,?_⟩;refine iteB (fun c1=>?_) (fun c1=>?_)
  ·obtain⟨j,p,rfl,ep⟩ :=Ba.mp c1;obtain⟨as,g1,g2,g3⟩ :=(h2.keep s2).ex;have its:=ptsIts (C:=C) g2;obtain⟨x,hx,pa⟩ :=its.get ep;obtain⟨b,rfl,pb⟩ :=pa;obtain⟨dy,pm,nm,q1,q2,q3⟩ :=pb.ex;refine⟨_,rfl,a,D,dx,_,_,rfl,s2 _ _ h1,Z.cl,Z.nParties,Au,_,rfl,l,_,_,_,rfl,rfl,SqL.of g1,atN hx,b,dy,_,rfl,q1,Ru,p,.ref b,rfl,⟨b,rfl,pb⟩,?_⟩;rintro _ H3 s3 rfl;refine⟨_,rfl,k _ _ (s2.trans s3) ?_⟩;show V.bl _=V.bl _;rw[Fd wf ep]
  ·refine k _ _ s2 ?_;show V.bl _=V.bl _;unfold isPerson;rw[c1];rfl
abbrev Ej:Stmt:=inClass (top 98) 3
theorem Ie:FnScope ["self","number"] ["self","number"] (defScope Ej):=fS
theorem Tc{D:Addr}(F:FunM K D "has_group" "Drought.has_group" Ej)(T:Blt mg)(Y:Pty K mg C)(Z:Drg K mg D)(wF:Mdf P w K mg base C 1 "is_group" ["self"] (spIsGroup C))(wG:Mdf P w K mg base D 1 "has_party" ["self","number"] (spDr D C isParty)):
  Mdf P w K mg base D 2 "has_group" ["self","number"] (spDr D C isGroup):=by
 refine Mdf.of F Ie (fun vs H Q E h=>?_) (fun f cdv A outer s H vs Q E hr h=>?_)
 ·obtain⟨h,a,i,rfl,_⟩ :=h;rfl
 ·obtain⟨h,a,i,rfl,dr,k⟩ :=h;refine⟨_,Ad (Ah (Xo (pm1 wG (pv 0) Z.cl hr (Aa (pv 1) Ab)) (Tp (pm0 wF (Ai Ag (Ap (pv 0) rfl) (pv 1)) Y.cl hr)))),?_⟩;have dr0:=dr;obtain⟨⟨dx,l,h1,h2⟩,wf⟩ :=dr;refine⟨_,rfl,a,dx,_,rfl,h1,Op,_,rfl,h,a,i,rfl,dr0,?_⟩;rintro _ H2 s2 rfl;refine⟨_,rfl,?_⟩;refine iteB (fun c1=>?_) (fun c1=>?_)
  ·obtain⟨j,p,rfl,ep⟩ :=Ba.mp c1;obtain⟨as,g1,g2,g3⟩ :=(h2.keep s2).ex;have its:=ptsIts (C:=C) g2;obtain⟨x,hx,pa⟩ :=its.get ep;obtain⟨b,rfl,pb⟩ :=pa;obtain⟨dy,pm,nm,q1,q2,q3⟩ :=pb.ex;refine⟨_,rfl,a,D,dx,_,_,rfl,s2 _ _ h1,Z.cl,Z.nParties,Au,_,rfl,l,_,_,_,rfl,rfl,SqL.of g1,atN hx,b,dy,_,rfl,q1,Ru,p,.ref b,rfl,⟨b,rfl,pb⟩,?_⟩;rintro _ H3 s3 rfl;refine k _ _ (s2.trans s3) ?_;show V.bl _=V.bl _;rw[E1 wf ep]
  ·refine k _ _ s2 ?_;show V.bl _=V.bl _;unfold isGroup;rw[c1];rfl
abbrev Es:Stmt:=inClass (top 98) 0
theorem Jp:FnScope ["self"] ["self"] (defScope Es):=fS
inductive spDInit(D:Addr)(vs:List V)(H:Hp)(Q:VK)(_e3:XK):Prop|m:∀(x dx:Addr),vs= [.ref x]->H x=some (.ins D dx [])->(∀(l:Addr) (H':Hp),H l=none->H' x=some (.ins D dx (df (.ref l) (.int 0)))->H' l=some (.lst [])->(∀b o,H b=some o->b≠x->H' b=some o)->Q .non H')->spDInit D vs H Q _e3
theorem Nd{D:Addr}(F:FunI K D "Drought.__init__" Es)(Z:Drg K mg D):Idf P w K mg base D 1 ["self"] (spDInit D):=by
 refine Idf.of F Jp (fun vs H Q E h=>?_) (fun f cdv A outer s H vs Q E hr h=>?_)
 ·obtain⟨x,dx,rfl,_⟩ :=h;rfl
 ·obtain⟨x,dx,rfl,h0,k⟩ :=h;refine⟨_,Ac (En (pv 0) (Av (Ab)) rfl)
   (Ad (En (pv 0) (Af) rfl)),?_⟩
  refine⟨vW _,fun l hl=>?_⟩;have hxl:x≠l:=Al h0 hl;refine⟨_,rfl,x,D,dx,_,rfl,(by rw[Ak hxl];exact h0),Z.cl,Z.nParties,(by show 0 < 1000;decide),?_⟩;refine⟨_,rfl,x,D,dx,_,rfl,Ae,Z.cl,Z.nWater,(by show 1 < 1000;decide),?_⟩;refine k l _ hl ?_ ?_ fun b o e hb=>?_
  ·rw[Ae,eJ]
  ·rw[Ak hxl.symm,Ak hxl.symm,Ae]
  ·rw[Ak hb,Ak hb,Ak (Al e hl)];exact e
end
theorem Vw:∀ns:List Int,risen ns=(ns.zip (ns.drop 1)).all fun x=>decide (x.1 < x.2)
 | []=>rfl
 | [a]=>rfl
 |a::b::l=>by
  have ih:=Vw (b::l);show(decide (a < b)&&risen (b::l))=_;rw[ih];rfl
section
variable {P:Program}{w:World}{K:PySem.W.Frag}{mg:Str->Option Value}{base:Heap}{C:Addr}
inductive spRising(K:PySem.W.Frag)(vs:List V)(H:Hp)(Q:VK)(_e3:XK):Prop|m:∀(ns:List Int) (v:V),vs= [v]->Lst K IsI ns v H->ns.length<=8->Ret H (IsB (risen ns)) Q->spRising K vs H Q _e3
abbrev Ld:Stmt:=top 100
theorem Ew:FnScope ["numbers","left","right"] ["numbers"] (defScope Ld):=fS
theorem Tg(F:FunN K mg "is_rising" Ld)(T:Blt mg):Df P w K mg base 1 "is_rising" ["numbers"] (spRising K):=by
 refine Df.of F Ew (fun vs H Q E h=>?_) (fun f cdv A outer s H vs Q E hr h=>?_)
 ·obtain⟨ns,v,rfl,_⟩ :=h;rfl
 ·obtain⟨ns,_,rfl,⟨p,xs,rfl,hl,hi⟩,hn,k⟩ :=h;obtain rfl:=C3 hi;refine⟨_,Ad (Ah (Ao (Sl rfl) (by rfl) T.all boot_all (Aa (Co (own:=[("left",1),("right",2)]) rfl Ew.nd (Tq rfl T.zip (Aa (pv 0) (Aa (Cr Ds (pv 0) (C0 (Af)) Eu) Ab))) (Ax (by rfl)) (fun _ _ _ _ _=>Jj (K:=K) (n:=2) rfl rfl (A5 (Am (i:=1) Ew.nd rfl (Or.inl rfl)) (A5 (Am (i:=2) Ew.nd rfl (Or.inl rfl)) (C6)))) (fun _ _ _ _ _=>A6) (fun _ _ _ _ _=>D9 Ku (pv 1) (pv 2) (nomark _))) Ab))),?_⟩;refine⟨_,rfl,_,rfl,_,rfl,p,_,rfl,hl,fun q hq=>?_⟩;have ec:cutV (ns.map V.int) (some 1) none=(ns.drop 1).map V.int:=by
   cases hn0:ns with
   |nil=>rfl
   |cons a l=>exact(Hs ((a::l).map V.int) 1 (by simp)).trans (by rw[List.map_drop])
  rw[ec];have s1:Same H (upd H q (.lst ((ns.drop 1).map V.int))):=Same.upd hq;have hq2:(upd H q (.lst ((ns.drop 1).map V.int))) q=some (.lst ((ns.drop 1).map V.int)):=Ae;generalize upd H q (.lst ((ns.drop 1).map V.int))=H1 at s1 hq2;have WS:Seqs (Itz K p q) (Same H1) (ns.zip (ns.drop 1)) (Par K IsI IsI):=K7 Sq.stay Sq.stay fun H' sm=> ⟨(s1.trans sm).seq hl,C2 _,sm.seq (SqL.of hq2),C2 _⟩;refine⟨p,q,_,_,rfl,s1.seq hl,SqL.of hq2,Bx (as:=ns.zip (ns.drop 1)) (R:=Par K IsI IsI) (S:=IsB) (fun x=>decide (x.1 < x.2)) So WS (vO (by rw[List.length_zip];omega) (show 8 < sizeLine by decide)) (fun x v H' Qe hm sm' rx kk=>?_) (fun _ _ _ _ h q=>Ey h q) (fun D zs H3 s3 hD o=>?_)⟩
  ·obtain⟨pp,u1,u2,rfl,hpp,r1,r2⟩ :=rx;obtain rfl:u1=V.int x.1:=r1;obtain rfl:u2=V.int x.2:=r2;exact⟨pp,_,rfl,hpp,rfl,_,_,rfl,_,_,rfl,rfl,rfl,_,rfl,_,rfl,_,_,rfl,rfl,kk _ _ (Same.refl _) rfl⟩
  ·have e:=Ut o;subst e;refine⟨D,_,rfl,SqL.of hD,k _ _ (s1.trans s3) ?_⟩;show _=_;rw[Vw,List.all_map];rfl
end
theorem Qo{ps:List Party}{j:Nat}{p:Party}(f:Party->Party)(e:ps[j]? =some p):(ps.zipIdx.map fun x=>if x.2=j then f x.1 else x.1)=ps.set j (f p):=by
 refine List.ext_getElem? fun i=>?_;rw[vR,List.getElem?_zipIdx,List.getElem?_set];by_cases h:j=i
 ·subst h;have hlt:=(List.getElem?_eq_some_iff.mp e).1;rw[if_pos rfl,if_pos hlt,e];simp
 ·rw[if_neg h];cases ps[i]? with
  |none=>rfl
  |some q=>
   show some (if 0 + i=j then f q else q)=some q;rw[if_neg (by omega)]
def chClaim(p:Party)(c:Nat):Party:={p with kind:=match p.kind with
 |.person _=>.person c
 |k=>k}
def chRule(p:Party)(r:Nat):Party:={p with kind:=match p.kind with
 |.group _ l=>.group r l
 |k=>k}
theorem Io{ps:List Party}{j c:Nat}{p:Party}(e:ps[j]? =some p):setClaim ps j c=ps.set j (chClaim p c):=Qo (fun p=>chClaim p c) e
theorem Gq{ps:List Party}{j r:Nat}{p:Party}(e:ps[j]? =some p):setRule ps j r=ps.set j (chRule p r):=Qo (fun p=>chRule p r) e
theorem Mt(p:Party)(c:Nat):mem (chClaim p c)=mem p:=by
 unfold mem chClaim;cases p.kind<;>rfl
theorem D0(p:Party)(c:Nat):mem (chRule p c)=mem p:=by
 unfold mem chRule;cases p.kind<;>rfl
theorem PWf.set{ps:List Party}(wf:PWf ps){j:Nat}{p q:Party}(e:ps[j]? =some p)(hw:q.weight=p.weight)(hnm:q.name=p.name)(hm:mem q=mem p)(ho:own q<=1000000)(hr:rul q<=5)(hk:∀r ms,q.kind=.group r ms->ms≠[]):PWf (ps.set j q):=by
 have hp:=vD e;have get:∀{i:Nat} {x:Party},(ps.set j q)[i]? =some x->(i=j/\x=q)∨ps[i]? =some x:=fun{i x} h=>by
  rw[List.getElem?_set]at h;by_cases hij:j=i
  ·rw[if_pos hij]at h;split at h
   ·injection h with h;exact .inl ⟨hij.symm,h.symm⟩
   ·cases h
  ·rw[if_neg hij]at h;exact .inr h
 have mm:∀{i:Nat} {x:Party},(ps.set j q)[i]? =some x->∃y,ps[i]? =some y/\mem x=mem y:=fun{i x} h=>by
  rcases get h with⟨rfl,rfl⟩ |h
  ·exact⟨p,e,hm⟩
  ·exact⟨x,h,rfl⟩
 have all:∀{A:Party->Prop},(∀x∈ps,A x)->A q->∀x∈ps.set j q,A x:=fun h1 h2 x hx=>by
  rcases List.mem_or_eq_of_mem_set hx with z|z
  ·exact h1 x z
  ·rw[z];exact h2
 refine⟨by rw[List.length_set];exact wf.len,all wf.wt (by rw[hw];exact wf.wt p hp),all wf.person ho,all wf.rule hr,all wf.some_ hk,all wf.few (by rw[hm];exact wf.few p hp),all wf.nd (by rw[hm];exact wf.nd p hp),?_,?_,all wf.nml (by rw[hnm];exact wf.nml p hp)⟩
 ·intro i x h m hmx;obtain⟨y,hy,ey⟩ :=mm h;rw[ey]at hmx;exact wf.low i y hy m hmx
 ·intro i i2 x x2 h1 h2 m m1 m2;obtain⟨y,hy,ey⟩ :=mm h1;obtain⟨y2,hy2,ey2⟩ :=mm h2;rw[ey]at m1;rw[ey2]at m2;exact wf.once i i2 y y2 hy hy2 m m1 m2
theorem Wk{ps:List Party}(wf:PWf ps){j c:Nat}{p:Party}(e:ps[j]? =some p)(hc:c<=1000000):PWf (setClaim ps j c):=by
 rw[Io e];have hp:=vD e;refine wf.set e rfl rfl (Mt p c) ?_ ?_ ?_
 ·have:=wf.person p hp;unfold own chClaim;cases hk:p.kind with
  |person d=>exact hc
  |group r ms=>exact vW _
 ·have:=wf.rule p hp;unfold rul at this;unfold rul chClaim;cases hk:p.kind with
  |person d=>exact vW _
  |group r ms=>rw[hk]at this;exact this
 ·intro r ms h;unfold chClaim at h;cases hk:p.kind with
  |person d=>rw[hk]at h;cases h
  |group r2 ms2=>rw[hk]at h;injection h with h1 h2;rw[<-h2];exact wf.some_ p hp r2 ms2 hk
theorem T9{ps:List Party}(wf:PWf ps){j r:Nat}{p:Party}(e:ps[j]? =some p)(hr:r<=5):PWf (setRule ps j r):=by
 rw[Gq e];have hp:=vD e;refine wf.set e rfl rfl (D0 p r) ?_ ?_ ?_
 ·have:=wf.person p hp;unfold own at this;unfold own chRule;cases hk:p.kind with
  |person d=>rw[hk]at this;exact this
  |group r ms=>exact vW _
 ·unfold rul chRule;cases hk:p.kind with
  |person d=>exact vW _
  |group r ms=>exact hr
 ·intro r2 ms h;unfold chRule at h;cases hk:p.kind with
  |person d=>rw[hk]at h;cases h
  |group r3 ms2=>rw[hk]at h;injection h with h1 h2;rw[<-h2];exact wf.some_ p hp r3 ms2 hk
def Kp(H H':Hp):Prop:=∀b o,H b=some o->(∀C dx fs,o≠.ins C dx fs)->H' b=some o
theorem Kp.of{H H':Hp}(s:Same H H'):Kp H H':=fun b o h _=>s b o h
theorem Kp.trans{H H1 H2:Hp}(a:Kp H H1)(b:Kp H1 H2):Kp H H2:=fun c o h n=>b c o (a c o h n) n
theorem Kp.upd{H:Hp}{a C dx:Addr}{fs:List (Str×V)}{o:HO}(h:H a=some (.ins C dx fs)):Kp H (L2.upd H a o):=fun b x e n=>by
 have:b≠a:=fun z=>by rw[z,h]at e;injection e with e;exact n _ _ _ e.symm
 rw[Ak this];exact e
theorem Yx{α β:Type}{R R':α->β->Prop}:∀{as:List α} {bs:List β},Paired R as bs->(∀(i:Nat) y c,as[i]? =some y->bs[i]? =some c->R y c->R' y c)->Paired R' as bs
 |_,_,.nil,_=>.nil
 |_,_,.cons r t,k=>.cons (k 0 _ _ rfl rfl r) (Yx t fun i y c h1 h2=>k (i + 1) y c h1 h2)
theorem Yz{α β:Type}{R R':α->β->Prop}:∀{as:List α} {bs:List β} {j:Nat} {b:β} {x:α},Paired R as bs->bs[j]? =some b->(∀i y c,i≠j->as[i]? =some y->bs[i]? =some c->R y c->R' y c)->R' x b->Paired R' (as.set j x) bs
 | [],[],_,_,_,.nil,h,_,_=>by simp at h
 |a::as,b::bs,0,b',x,.cons r t,h,k,hx=>by
  have e:b=b':=vE h;subst e;exact .cons hx (Yx t fun i y c h1 h2=>k (i + 1) y c (by omega) h1 h2)
 |a::as,b::bs,j + 1,b',x,.cons r t,h,k,hx=>.cons (k 0 a b (by omega) rfl rfl r) (Yz t h (fun i y c h0 h1 h2=>k (i + 1) y c (by omega) h1 h2) hx)
theorem Zs{l:List Addr}(h:l.Nodup){i j:Nat}{a:Addr}(h1:l[i]? =some a)(h2:l[j]? =some a):i=j:=by
 obtain⟨a1,e1⟩ :=vF h1;obtain⟨a2,e2⟩ :=vF h2;exact(List.getElem_inj h).mp (e1.trans e2.symm)
theorem PtsL.put{C:Addr}{ps:List Party}{l b:Addr}{H:Hp}{j:Nat}{q:Party}{as:List Addr}{dy pm:Addr}{nm:Str}{fs:List (Str×V)}(h1:H l=some (.lst (as.map V.ref)))(h2:Paired (fun p a=>PartyAt C p a H) ps as)(h3:as.Nodup)(hb:as[j]? =some b)
  (hold:H b=some (.ins C dy fs)) (hnm:nm.cps.toList=q.name) (hpm:H pm=some (.lst (mV q))):
  PtsL C (ps.set j q) l (L2.upd H b (.ins C dy (pf (.str nm) (.int (q.weight:Int)) (.int ((own q:Nat):Int)) (.int ((rul q:Nat):Int)) (.ref pm)))):=by
 have nb:∀{c:Addr} {xs:List V},H c=some (.lst xs)->c≠b:=fun{c xs} e z=>by
  rw[z,hold]at e;cases e
 refine⟨as,by rw[Ak (nb h1)];exact h1,Yz h2 hb (fun i y c hij _ hc pa=>?_) ⟨dy,pm,nm,Ae,hnm,by rw[Ak (nb hpm)];exact hpm⟩,h3⟩;obtain⟨dx,pm2,nm2,g1,g2,g3⟩ :=pa.ex;have hcb:c≠b:=fun z=>hij (Zs h3 hc (by rw[z];exact hb));exact⟨dx,pm2,nm2,by rw[Ak hcb];exact g1,g2,by rw[Ak (nb g3)];exact g3⟩
end Dr
namespace Dr
open Vbirad (Q Party Kind House Bytes text partsOf wordsOf linesOf numberIn isName isDigit isSmall find findAll weightIn lineOf readFrom readSharing RULES KEYS free distinct CLAIM WEIGHT MEMBERS PARTIES whole_ Call WATER byChance byParts claimOf claimsIn digits evenly fact halves inOrder isGroup isMember isParty isPerson leastFor levelFrom losses membersOf nums onSharing partyAt printParty printSharing proofOf qRow risen ruleOf setClaim setRule shareBy shareFrom shareOf spaced subsets sumQ weightsIn)
theorem Mn:∀(cs:List Q) (e:Q),(inOrder cs e).length=cs.length
 | [],_=>rfl
 |c::l,e=>by
  show(Vbirad.least c e::inOrder l (Vbirad.sub e (Vbirad.least c e))).length=_;rw[vK,Mn l,vK]
theorem Ga(cs:List Q)(ws:List Nat)(e:Q)(h:ws.length=cs.length):(evenly cs ws e).length=cs.length:=by
 unfold evenly;dsimp only;rw[List.length_map,List.length_zip];omega
theorem Rs(a b:List Q)(h:b.length=a.length):(Vbirad.minus a b).length=a.length:=by
 unfold Vbirad.minus;rw[List.length_map,List.length_zip];omega
theorem Ei(r:Nat)(cs:List Q)(ws:List Nat)(e:Q)(h:ws.length=cs.length):(shareBy r cs ws e).length=cs.length:=by
 unfold shareBy;split
 ·unfold byParts;dsimp only;rw[List.length_map]
 split
 ·exact Ga cs ws e h
 split
 ·unfold losses;exact Rs _ _ (Ga _ _ _ h)
 split
 ·unfold halves;dsimp only;split
  ·rw[Ga _ _ _ (by rw[vB];exact h),vB]
  ·exact Rs _ _ (by rw[Ga _ _ _ (by rw[vB];exact h),vB])
 split
 ·unfold byChance;dsimp only;rw[List.length_map,List.length_range]
 ·exact Mn cs e
abbrev putAll(z:List (Nat×Q))(l:List Q):List Q:=z.foldl (fun(a:List Q) (x:Nat×Q)=>a.set x.1 x.2) l
theorem Ts:∀(z:List (Nat×Q)) (l:List Q) (j:Nat),(∀x∈z,x.1≠j)->(putAll z l)[j]? =l[j]?
 | [],l,j,_=>rfl
 |x::z,l,j,h=>by
  show(putAll z (l.set x.1 x.2))[j]? =_;rw[Ts z _ j fun y hy=>h y (by simp[hy]),List.getElem?_set,if_neg (h x (by simp))]
theorem cO:∀(ms:List Nat) (qs:List Q) (l:List Q) (k m:Nat) (q:Q),ms.Nodup->ms[k]? =some m->qs[k]? =some q->m < l.length->(putAll (ms.zip qs) l)[m]? =some q
 | [],_,_,_,_,_,_,h,_,_=>by simp at h
 |_::_,[],_,_,_,_,_,_,h,_=>by simp at h
 |a::ms,b::qs,l,0,m,q,nd,h1,h2,hm=>by
  have e1:a=m:=vE h1;have e2:b=q:=vE h2;subst e1 e2;show(putAll (ms.zip qs) (l.set a b))[a]? =_;rw[Ts _ _ _ fun x hx=>?_,List.getElem?_set,if_pos rfl,if_pos hm];have:=(List.of_mem_zip (a:=x.1) (b:=x.2) hx).1;intro z;rw[z]at this;exact(List.nodup_cons.mp nd).1 this
 |a::ms,b::qs,l,k + 1,m,q,nd,h1,h2,hm=>by
  show(putAll (ms.zip qs) (l.set a b))[m]? =_;exact cO ms qs _ k m q (List.nodup_cons.mp nd).2 (by simpa using h1) (by simpa using h2) (by rw[List.length_set];exact hm)
theorem dI(ps:List Party)(i:Nat)(p:Party)(S:List Q):(turnS ps i p S).length=S.length:=by
 unfold turnS;exact Di _ _
theorem dJ{ps:List Party}{i:Nat}{p:Party}{S:List Q}{j:Nat}(h:j∉mem p):(turnS ps i p S)[j]? =S[j]?:=by
 unfold turnS;refine Ts _ _ _ fun x hx z=>?_;have:=(List.of_mem_zip (a:=x.1) (b:=x.2) hx).1;rw[z]at this;exact h this
theorem Lw{ps:List Party}:∀(t:Nat) (S:List Q) (j:Nat),t<=ps.length->(∀i p,i < t->ps[i]? =some p->j∉mem p)->(shareFrom ps t S)[j]? =S[j]?
 |0,S,j,_,_=>rfl
 |t + 1,S,j,ht,h=>by
  obtain⟨p,hp⟩ :∃p,ps[t]? =some p:= ⟨_,vC (by omega)⟩;rw[Cu hp,Lw t _ j (by omega) fun i p hi=>h i p (by omega)];exact dJ (h t p (by omega) hp)
def turnA(ps:List Party)(i:Nat)(S:List Q):List Q:=match ps[i]? with
 |some p=>turnS ps i p S
 |none=>S
def dn(ps:List Party)(t:Nat):Nat->List Q->List Q
 |0,S=>S
 |d + 1,S=>dn ps t d (turnA ps (t + d) S)
theorem Su{ps:List Party}(t:Nat):∀(d:Nat) (S:List Q),t + d<=ps.length->shareFrom ps (t + d) S=shareFrom ps t (dn ps t d S)
 |0,S,_=>rfl
 |d + 1,S,h=>by
  obtain⟨p,hp⟩ :∃p,ps[t + d]? =some p:= ⟨_,List.getElem?_eq_getElem (by omega)⟩;show shareFrom ps (t + d + 1) S=shareFrom ps t (dn ps t d (turnA ps (t + d) S));rw[Cu hp,Su t d _ (by omega)];unfold turnA;rw[hp]
theorem aU{ps:List Party}(t:Nat):∀(d:Nat) (S:List Q),(dn ps t d S).length=S.length
 |0,S=>rfl
 |d + 1,S=>by
  show(dn ps t d (turnA ps (t + d) S)).length=_;rw[aU t d];unfold turnA;cases ps[t + d]? with
  |none=>rfl
  |some p=>exact dI _ _ _ _
theorem Uh{ps ps':List Party}(t:Nat)(h:∀j S,t<=j->turnA ps j S=turnA ps' j S):∀(d:Nat) (S:List Q),dn ps t d S=dn ps' t d S
 |0,S=>rfl
 |d + 1,S=>by
  show dn ps t d (turnA ps (t + d) S)=dn ps' t d (turnA ps' (t + d) S);rw[h _ _ (by omega),Uh t h d]
def atTurn(ps:List Party)(e i:Nat):List Q:=dn ps (i + 1) (ps.length - (i + 1)) (startS ps e)
theorem Zw{ps:List Party}(wf:PWf ps)(e:Nat){i:Nat}{pt:Party}(ep:ps[i]? =some pt):(Vbirad.shares ps e)[i]? =(atTurn ps e i)[i]?:=by
 have hi:=(vF ep).1;rw[Jm,show ps.length=(i + 1) + (ps.length - (i + 1))by omega,Su _ _ _ (by omega)];exact Lw _ _ _ (by omega) fun j p hj hp hm=>by
  have:=wf.low j p hp i hm;omega
theorem S6{ps:List Party}(wf:PWf ps)(e:Nat){i k m:Nat}{pt:Party}(ep:ps[i]? =some pt)(hm:(mem pt)[k]? =some m):
  (Vbirad.shares ps e)[m]? =(shareBy (rul pt) (cQ (clm ps pt)) (wts ps pt) ((atTurn ps e i).getD i (Vbirad.whole 0)))[k]?:=by
 have hi:=(vF ep).1;have hmm:=vD hm;have hlow:=wf.low i pt ep m hmm;have hl:(atTurn ps e i).length=ps.length:=by
  unfold atTurn;rw[aU];unfold startS;simp
 have e1:Vbirad.shares ps e=shareFrom ps (i + 1) (atTurn ps e i):=by
  rw[Jm,show shareFrom ps ps.length (startS ps e)=shareFrom ps ((i + 1) + (ps.length - (i + 1))) (startS ps e)by rw[show(i + 1) + (ps.length - (i + 1))=ps.length by omega],Su _ _ _ (by omega)];rfl
 rw[e1,Cu ep,Lw _ _ _ (by omega) fun j p hj hp hmj=>by
  have:=wf.once i j pt p ep hp m hmm hmj;omega]
 have hlen:(shareBy (rul pt) (cQ (clm ps pt)) (wts ps pt) ((atTurn ps e i).getD i (Vbirad.whole 0))).length=(mem pt).length:=by
  have hw:=(wok wf ep).len;rw[Ei _ _ _ _ (by unfold cQ;rw[List.length_map];exact hw)];unfold cQ clm;rw[List.length_map,List.length_map]
 have hk:=(List.getElem?_eq_some_iff.mp hm).1;obtain⟨q,hq⟩ :∃q,(shareBy (rul pt) (cQ (clm ps pt)) (wts ps pt) ((atTurn ps e i).getD i (Vbirad.whole 0)))[k]? =some q:= ⟨_,List.getElem?_eq_getElem (by omega)⟩;rw[hq];unfold turnS;exact cO _ _ _ k m q (wf.nd pt (List.mem_of_getElem? ep)) hm hq (by omega)
theorem Jl{ps:List Party}{i:Nat}{pt q:Party}(ep:ps[i]? =some pt)(j:Nat):(ps.set i q)[j]? =if j=i then some q else ps[j]?:=by
 have hi:=(vF ep).1;rw[List.getElem?_set];by_cases h:i=j
 ·rw[if_pos h,if_pos (by omega),if_pos h.symm]
 ·rw[if_neg h,if_neg (fun z=>h z.symm)]
theorem Xn(p:Party)(r:Nat):own (chRule p r)=own p:=by
 unfold own chRule;cases p.kind<;>rfl
theorem Om{ps:List Party}(wf:PWf ps){i r:Nat}{pt:Party}(ep:ps[i]? =some pt)(hr:r<=5):∀j,Vbirad.claim (ps.set i (chRule pt r)) j=Vbirad.claim ps j:=by
 have wf2:=T9 wf ep hr;rw[Gq ep]at wf2;intro j
 induction j using Nat.strongRecOn with
 |_ j ih=>
  cases hp:ps[j]? with
  |none=>
   have:(ps.set i (chRule pt r))[j]? =none:=by
    rw[Jl ep,if_neg (fun z=>by rw[z,ep]at hp;cases hp)];exact hp
   rw[Lq hp,Lq this]
  |some p=>
   have hlow:=wf.low j p hp;by_cases hji:j=i
   ·subst hji;obtain rfl:pt=p:=vE (ep.symm.trans hp);have e2:(ps.set j (chRule pt r))[j]? =some (chRule pt r):=by rw[Jl ep,if_pos rfl]
    rw[Dh wf2 e2,Dh wf hp,Xn,D0];congr 2;exact vY fun m hm=>ih m (hlow m hm)
   ·have e2:(ps.set i (chRule pt r))[j]? =some p:=by rw[Jl ep,if_neg hji];exact hp
    rw[Dh wf2 e2,Dh wf hp];congr 2;exact vY fun m hm=>ih m (hlow m hm)
theorem Wl{ps:List Party}{i r:Nat}{pt:Party}(ep:ps[i]? =some pt)(p:Party):wts (ps.set i (chRule pt r)) p=wts ps p:=by
 unfold wts weightsIn;refine List.map_congr_left fun m _=>?_;rw[Jl ep];by_cases h:m=i
 ·subst h;rw[if_pos rfl,ep];rfl
 ·rw[if_neg h]
theorem Uf{ps:List Party}(wf:PWf ps){i r:Nat}{pt:Party}(ep:ps[i]? =some pt)(hr:r<=5)(p:Party):clm (ps.set i (chRule pt r)) p=clm ps p:=by
 unfold clm;exact List.map_congr_left fun m _=>Om wf ep hr m
theorem Ub{ps:List Party}(wf:PWf ps)(e:Nat){i r:Nat}{pt:Party}(ep:ps[i]? =some pt)(hr:r<=5):atTurn (ps.set i (chRule pt r)) e i=atTurn ps e i:=by
 unfold atTurn;have e0:startS (ps.set i (chRule pt r)) e=startS ps e:=by
  unfold startS;rw[List.length_set,Om wf ep hr]
 rw[e0,List.length_set];refine Uh _ (fun j S hj=>?_) _ _;unfold turnA;rw[Jl ep,if_neg (by omega)];cases ps[j]? with
 |none=>rfl
 |some p=>
  dsimp only;unfold turnS;rw[Uf wf ep hr,Wl ep]
theorem Xx{ps:List Party}(wf:PWf ps)(e:Nat){i r:Nat}{pt:Party}(ep:ps[i]? =some pt)(hr:r<=5)(hg:mem pt≠[]):
  (mem pt).map (shareOf (setRule ps i r) e)=shareBy r (cQ (clm ps pt)) (wts ps pt) (shareOf ps e i):=by
 have wf2:=T9 wf ep hr;rw[Gq ep]at wf2⊢;have e2:(ps.set i (chRule pt r))[i]? =some (chRule pt r):=by rw[Jl ep,if_pos rfl]
 have hrul:rul (chRule pt r)=r:=by
  unfold rul chRule;cases hk:pt.kind with
  |person d=>exact absurd (by unfold mem;rw[hk]) hg
  |group r0 ms=>rfl
 have esh:shareOf ps e i=(atTurn ps e i).getD i (Vbirad.whole 0):=by
  unfold shareOf;rw[List.getD_eq_getElem?_getD,List.getD_eq_getElem?_getD,Zw wf e ep]
 have hlen:(shareBy r (cQ (clm ps pt)) (wts ps pt) (shareOf ps e i)).length=(mem pt).length:=by
  have hw:=(wok wf ep).len;rw[Ei _ _ _ _ (by unfold cQ;rw[List.length_map];exact hw)];unfold cQ clm;rw[List.length_map,List.length_map]
 refine List.ext_getElem? fun k=>?_;rw[vR];cases hm:(mem pt)[k]? with
 |none=>
  have:=List.getElem?_eq_none_iff.mp hm;rw[List.getElem?_eq_none_iff.mpr (by omega)];rfl
 |some m=>
  have:=S6 wf2 e e2 (k:=k) (m:=m) (by rw[D0];exact hm);rw[hrul,Uf wf ep hr,Wl ep,Ub wf e ep hr,<-esh]at this;have ec:clm ps (chRule pt r)=clm ps pt:=by unfold clm;rw[D0]
  have ew:wts ps (chRule pt r)=wts ps pt:=by unfold wts;rw[D0]
  rw[ec,ew]at this;have hk:=(List.getElem?_eq_some_iff.mp hm).1;obtain⟨q,hq⟩ :∃q,(shareBy r (cQ (clm ps pt)) (wts ps pt) (shareOf ps e i))[k]? =some q:= ⟨_,List.getElem?_eq_getElem (by omega)⟩;rw[hq]at this⊢;show some (shareOf (ps.set i (chRule pt r)) e m)=some q;unfold shareOf;rw[List.getD_eq_getElem?_getD,this];rfl
theorem Ip{ps:List Party}(wf:PWf ps)(e i:Nat):ShB 29 (shareOf ps e i):=by
 unfold shareOf;rw[List.getD_eq_getElem?_getD];cases hq:(Vbirad.shares ps e)[i]? with
 |none=>exact ShB.whole (by decide)
 |some q=>
  have:=(Ss wf ps.length (startS ps e) (Nat.le_refl _) (by unfold startS;simp) (P9 wf e)).2 i q hq;have:=wf.len;exact ShB.mono ‹_› (by omega)
theorem cN{ms:List Nat}{j:Nat}(h:j∈ms):∃p,ms[p]? =some j/\ms.findIdx? (fun k=>k == j)=some p/\∀m x,m < p->ms[m]? =some x->x≠j:=by
 induction ms with
 |nil=>simp at h
 |cons a ms ih=>
  by_cases ha:a=j
  ·subst ha;exact⟨0,rfl,by simp[List.findIdx?_cons],fun m x hm=>by omega⟩
  ·obtain⟨p,h1,h2,h3⟩ :=ih (by
    rcases vJ h with z|z
    ·exact absurd z.symm ha
    ·exact z)
   refine⟨p + 1,by simpa using h1,?_,fun m x hm hx=>?_⟩
   ·rw[List.findIdx?_cons,h2];simp[ha]
   ·cases m with
    |zero=>simp at hx;rw[<-hx];exact ha
    |succ m=>exact h3 m x (by omega) (by simpa using hx)
theorem Ow{β:Type}{g:Nat->β}{X:List β}{j:Nat}:∀{ms:List Nat} {p:Nat},ms.Nodup->ms[p]? =some j->(ms.flatMap fun k=>if k=j then X else [g k])=(ms.take p).map g++X++(ms.drop (p + 1)).map g
 | [],p,_,h=>by simp at h
 |a::ms,0,nd,h=>by
  have e:a=j:=by simpa using h
  subst e;rw[List.flatMap_cons,if_pos rfl];have hn:=(List.nodup_cons.mp nd).1;have:(ms.flatMap fun k=>if k=a then X else [g k])=ms.map g:=by
   clear h nd
   induction ms with
   |nil=>rfl
   |cons b ms ih=>
    rw[List.flatMap_cons,if_neg (fun z=>hn (by rw[z];simp)),ih (fun z=>hn (by simp[z]))];rfl
  rw[this];simp
 |a::ms,p + 1,nd,h=>by
  have hm:ms[p]? =some j:=by simpa using h
  have ha:a≠j:=fun z=>(List.nodup_cons.mp nd).1 (by rw[z];exact List.mem_of_getElem? hm);rw[List.flatMap_cons,if_neg ha,Ow (List.nodup_cons.mp nd).2 hm];simp
def twoC(cs:List Nat)(p a b:Nat):List Nat:=cs.take p++[a,b]++cs.drop (p + 1)
theorem aM(a b:List Nat):cQ (a++b)=cQ a++cQ b:=by unfold cQ;rw[List.map_append]
theorem Qj{cs:List Nat}{p a b:Nat}(h:p < cs.length):(twoC cs p a b).length=cs.length + 1:=by
 unfold twoC;rw[List.length_append,List.length_append,List.length_take,List.length_drop];show min p cs.length + 2 + _=_;omega
theorem dM{cs:List Nat}{p c a:Nat}(h:cs[p]? =some c)(ha:a<=c):(twoC cs p a (c - a)).sum=cs.sum:=by
 obtain⟨hp,e⟩ :=vF h;have h1:cs.drop p=c::cs.drop (p + 1):=by
  rw[List.drop_eq_getElem_cons hp,e]
 have h2:cs.sum=(cs.take p).sum + (cs.drop p).sum:=by
  conv=>lhs;rw[<-List.take_append_drop p cs]
  rw[List.sum_append]
 rw[h2,h1];unfold twoC;simp only [List.sum_append,List.sum_cons,List.sum_nil];omega
theorem dA{ps:List Party}(wf:PWf ps)(e:Nat){i j a p:Nat}{pt:Party}{r:Nat}{ms:List Nat}(ep:ps[i]? =some pt)(hk:pt.kind=.group r ms)(hm:(mem pt)[p]? =some j)(hf:(mem pt).findIdx? (fun k=>k == j)=some p)(ha:a<=Vbirad.claim ps j)(w:Nat)(hw:(wts ps pt)[p]? =some w):
  Vbirad.split ps e i j a=Vbirad.add ((shareBy (rul pt) (cQ (twoC (clm ps pt) p a (Vbirad.claim ps j - a))) (twoC (wts ps pt) p w w) (shareOf ps e i)).getD p (Vbirad.whole 0))
   ((shareBy (rul pt) (cQ (twoC (clm ps pt) p a (Vbirad.claim ps j - a))) (twoC (wts ps pt) p w w) (shareOf ps e i)).getD (p + 1) (Vbirad.whole 0)):=by
 have nd:=wf.nd pt (vD ep);have hmem:membersOf ps i=mem pt:=by
  unfold membersOf mem partyAt;rw[List.getD_eq_getElem?_getD,ep,hk];show(match pt.kind with|.group _ l=>l|.person _=>[])=_;rw[hk]
 have hrul:ruleOf ps i=rul pt:=by
  unfold ruleOf rul partyAt;rw[List.getD_eq_getElem?_getD,ep,hk];show(match pt.kind with|.group r _=>r|.person _=>9)=_;rw[hk]
 unfold Vbirad.split;dsimp only;rw[hmem,hrul,hf];have e1:((mem pt).flatMap fun k=>if k=j then [Vbirad.whole (a:Int),Vbirad.whole ((Vbirad.claim ps j:Int) - (a:Int))]else [Vbirad.whole (Vbirad.claim ps k:Int)])=cQ (twoC (clm ps pt) p a (Vbirad.claim ps j - a)):=by
  rw[Ow nd hm];unfold twoC clm;rw[aM,aM];unfold cQ;rw[<-List.map_take,<-List.map_drop,List.map_map,List.map_map];congr 2;show [Vbirad.whole (a:Int),Vbirad.whole ((Vbirad.claim ps j:Int) - (a:Int))]= [Vbirad.whole (a:Int),Vbirad.whole ((Vbirad.claim ps j - a:Nat):Int)];rw[Int.ofNat_sub ha]
 have e2:((mem pt).flatMap fun k=>if k=j then [(weightsIn ps [k]).headD 1,(weightsIn ps [k]).headD 1]else [(weightsIn ps [k]).headD 1])=twoC (wts ps pt) p w w:=by
  have hw2:(weightsIn ps [j]).headD 1=w:=by
   unfold wts weightsIn at hw;rw[List.getElem?_map,hm]at hw;exact Option.some.inj hw
  have:(fun k=>if k=j then [(weightsIn ps [k]).headD 1,(weightsIn ps [k]).headD 1]else [(weightsIn ps [k]).headD 1])=fun k=>if k=j then [w,w]else [(fun k=>(weightsIn ps [k]).headD 1) k]:=by
   funext k;by_cases h:k=j
   ·rw[if_pos h,if_pos h,h,hw2]
   ·rw[if_neg h,if_neg h]
  rw[this,Ow nd hm];unfold twoC wts weightsIn;rw[<-List.map_take,<-List.map_drop];rfl
 rw[e1,e2];rfl
def allSets(ms:List Nat):List (List Nat):=ms.foldl (fun S m=>S++S.map fun s=>s++[m]) [[]]
theorem Kg(ms:List Nat)(m:Nat):allSets (ms++[m])=allSets ms++(allSets ms).map fun s=>s++[m]:=by
 unfold allSets;rw[List.foldl_append];rfl
theorem Li:∀(ms:List Nat) (m:Nat),(subsets (ms++[m])).Perm (subsets ms++(subsets ms).map fun s=>s++[m])
 | [],m=>List.Perm.refl _
 |x::ms,m=>by
  have ih:=Li ms m;show(subsets (ms++[m])++(subsets (ms++[m])).map (fun s=>x::s)).Perm ((subsets ms++(subsets ms).map fun s=>x::s)++(subsets ms++(subsets ms).map fun s=>x::s).map fun s=>s++[m]);refine(ih.append (ih.map _)).trans ?_;rw[List.map_append,List.map_append,vX,vX];generalize subsets ms=B;have e:B.map ((fun s=>x::s) ∘ fun s=>s++[m])=B.map ((fun s=>s++[m]) ∘ fun s=>x::s):=rfl;rw[e];generalize B.map ((fun s=>s++[m]) ∘ fun s=>x::s)=B3;rw[List.append_assoc,List.append_assoc];refine List.Perm.append_left _ ?_;rw[<-List.append_assoc,<-List.append_assoc];exact List.Perm.append_right _ List.perm_append_comm
theorem Me(ms:List Nat):(allSets ms).Perm (subsets ms):=by
 have key:∀(n:Nat) (ms:List Nat),ms.length=n->(allSets ms).Perm (subsets ms):=by
  intro n
  induction n with
  |zero=>
   intro ms h;rw[v5 h];exact List.Perm.refl _
  |succ n ih=>
   intro ms h;have hne:ms≠[]:=fun z=>by rw[z]at h;cases h
   have e:ms=ms.dropLast++[ms.getLast hne]:=(List.dropLast_concat_getLast hne).symm;have hl:ms.dropLast.length=n:=by rw[List.length_dropLast];omega
   rw[e,Kg];have i1:=ih ms.dropLast hl;exact(i1.append (i1.map _)).trans (Li _ _).symm
 exact key _ ms rfl
theorem Hn(ms:List Nat):(allSets ms).length=2^ms.length:=by
 rw[(Me ms).length_eq]
 induction ms with
 |nil=>rfl
 |cons x ms ih=>
  show(subsets ms++(subsets ms).map fun s=>x::s).length=_;rw[vI,vB,ih,vK,Nat.pow_succ];omega
theorem Fo:∀(ms:List Nat),∀s∈subsets ms,s.Sublist ms
 | [],s,h=>by
  have:s= []:=by simpa [subsets]using h
  rw[this];exact List.Sublist.refl _
 |x::ms,s,h=>by
  have h:s∈subsets ms++(subsets ms).map fun s=>x::s:=h;rcases v7 h with h|h
  ·exact(Fo ms s h).cons _
  ·obtain⟨t,ht,rfl⟩ :=vL h;exact(Fo ms t ht).cons₂ _
theorem Ho{ms s:List Nat}(h:s∈allSets ms):s.Sublist ms:=Fo ms s ((Me ms).mem_iff.mp h)
theorem Wy:∀{s ms:List Nat},s.Sublist ms->ms.Nodup->ms.filter (fun x=>s.contains x)=s:=by
 intro s ms h
 induction h with
 |slnil=>intro _;rfl
 |@cons s l a hs ih=>
  intro nd;have hn:=List.nodup_cons.mp nd;rw[List.filter_cons,if_neg (fun z=>hn.1 (hs.subset (by simpa using z)))];exact ih hn.2
 |@cons_cons s l a hs ih=>
  intro nd;have hn:=List.nodup_cons.mp nd;rw[List.filter_cons,if_pos (by simp)];congr 1;rw[<-ih hn.2];refine List.filter_congr fun x hx=>?_;have:x≠a:=fun z=>hn.1 (by rw[<-z];exact hx);rw[List.contains_cons];have e:(x == a)=false:=by rw[beq_eq_false_iff_ne];exact this
  rw[e,Bool.false_or];rw[ih hn.2]
theorem R8(f:Nat->Nat)(p:Nat->Bool):∀l:List Nat,((l.filter p).map f).sum + ((l.filter fun x=>!p x).map f).sum=(l.map f).sum
 | []=>rfl
 |x::l=>by
  have:=R8 f p l;rw[List.filter_cons,List.filter_cons];cases hp:p x with
  |true=>
   rw[if_pos rfl,if_neg (by simp)];simp only [List.map_cons,List.sum_cons];omega
  |false=>
   rw[if_neg (by simp),if_pos (by simp)];simp only [List.map_cons,List.sum_cons];omega
theorem cT{f:Nat->Nat}{s ms:List Nat}(h:s.Sublist ms)(nd:ms.Nodup):(((ms.filter fun x=>!s.contains x).map f).sum:Int)=((ms.map f).sum:Int) - ((s.map f).sum:Int):=by
 have:=R8 f (fun x=>s.contains x) ms;rw[Wy h nd]at this;omega
theorem J0:∀(l:List Q) (a:Q),Red a->(∀x∈l,Red x)->Red (l.foldl Vbirad.least a)/\(l.foldl Vbirad.least a=a∨l.foldl Vbirad.least a∈l)/\val (l.foldl Vbirad.least a)<=val a/\∀x∈l,val (l.foldl Vbirad.least a)<=val x
 | [],a,ha,_=> ⟨ha,.inl rfl,Rat.le_refl,fun x h=>by cases h⟩
 |x::l,a,ha,hl=>by
  have hx:=hl x (by simp);have hle:=Fr (a:=a) (b:=x) ha.pos hx.pos;have key:Red (Vbirad.least a x)/\(Vbirad.least a x=a∨Vbirad.least a x=x)/\val (Vbirad.least a x)<=val a/\val (Vbirad.least a x)<=val x:=by
   unfold Vbirad.least;split
   ·rename_i h
    exact⟨ha,.inl rfl,Rat.le_refl,hle.mp h⟩
   ·rename_i h
    have:¬val a<=val x:=fun z=>h (hle.mpr z);exact⟨hx,.inr rfl,by grind,Rat.le_refl⟩
  obtain⟨i1,i2,i3,i4⟩ :=J0 l (Vbirad.least a x) key.1 fun y hy=>hl y (by simp[hy]);rw[List.foldl_cons];refine⟨i1,?_,by have:=key.2.2.1;grind,fun y hy=>?_⟩
  ·rcases i2 with z|z
   ·rcases key.2.1 with y|y
    ·exact .inl (z.trans y)
    ·exact .inr (by rw[z,y];simp)
   ·exact .inr (by simp[z])
  ·rcases vJ hy with z|z
   ·rw[z];have:=key.2.2.2;grind
   ·exact i4 y z
theorem W5{l1 l2:List Q}(hp:l1.Perm l2)(hr:∀x∈l1,Red x){q:Q}{qs:List Q}(e:l1=q::qs):(q::qs).foldl Vbirad.least q=l2.foldl Vbirad.least (l2.headD (Vbirad.whole 0)):=by
 subst e;have hq:=hr q (by simp);have hr2:∀x∈l2,Red x:=fun x hx=>hr x (hp.mem_iff.mpr hx);cases l2 with
 |nil=>exact absurd hp.length_eq (by simp)
 |cons y ys=>
  have hy:=hr2 y (by simp);obtain⟨a1,a2,a3,a4⟩ :=J0 (q::qs) q hq hr;obtain⟨b1,b2,b3,b4⟩ :=J0 (y::ys) y hy hr2;show(q::qs).foldl Vbirad.least q=(y::ys).foldl Vbirad.least y;have am:(q::qs).foldl Vbirad.least q∈q::qs:=by
   rcases a2 with z|z
   ·rw[z];simp
   ·exact z
  have bm:(y::ys).foldl Vbirad.least y∈y::ys:=by
   rcases b2 with z|z
   ·rw[z];simp
   ·exact z
  refine Of a1 b1 ?_;have h1:=a4 _ (hp.mem_iff.mpr bm);have h2:=b4 _ (hp.mem_iff.mp am);grind
def headB(ps:List Party)(p:Party):List Bytes:=match p.kind with
 |.person c=>[text "person",p.name,text "claims",digits c]
 |.group r l=>[text "group",p.name,text "by",Vbirad.RULES.getD r [],text "of"]++l.map (Vbirad.nameAt ps)
def tailB(p:Party):List Bytes:=if p.weight=1 then []else [text "weighs",digits p.weight]
theorem R4:∀l:List Bytes,spaced l=joinB 32 l
 | []=>rfl
 | [w]=>rfl
 |w::v::r=>by
  show w++(32::spaced (v::r))=w++32::joinB 32 (v::r);rw[R4 (v::r)]
theorem Jq(ps:List Party)(p:Party):printParty ps p=joinB 32 (headB ps p++tailB p):=by
 unfold printParty;rw[R4];rfl
theorem Mu{n:Nat}(h:n < 10^8):(digits n).length<=8:=by
 unfold digits;rw[List.length_map,String.length_toList,Nat.toString_eq_repr];exact(Nat.length_repr_le_iff (by decide)).mpr h
theorem Zz{ps:List Party}(wf:PWf ps)(m:Nat):(Vbirad.nameAt ps m).length<=8:=by
 unfold Vbirad.nameAt;cases h:ps[m]? with
 |none=>exact vW _
 |some p=>exact wf.nml p (vD h)
theorem O1{ps:List Party}(wf:PWf ps){p:Party}(hp:p∈ps):(headB ps p).length<=13/\∀w∈headB ps p,w.length<=8:=by
 have hf:=wf.few p hp;have ho:=wf.person p hp;have hn:=wf.nml p hp;have hr:=wf.rule p hp;unfold mem at hf;unfold own at ho;unfold rul at hr;unfold headB;cases hk:p.kind with
 |person c=>
  rw[hk]at ho;dsimp only at ho⊢;refine⟨by show 4<=13;decide,fun w hw=>?_⟩;have hc:=Mu (n:=c) (by omega);rcases List.mem_cons.mp hw with z|hw
  ·rw[z];decide
  rcases vJ hw with z|hw
  ·rw[z];exact hn
  rcases vJ hw with z|hw
  ·rw[z];decide
  rcases vJ hw with z|hw
  ·rw[z];exact hc
  cases hw
 |group r l=>
  rw[hk]at hf hr;dsimp only at hf hr⊢;refine⟨by rw[List.length_append,List.length_map];show 5 + _<=13;omega,fun w hw=>?_⟩;rcases List.mem_append.mp hw with hw|hw
  ·rcases vJ hw with z|hw
   ·rw[z];decide
   rcases vJ hw with z|hw
   ·rw[z];exact hn
   rcases vJ hw with z|hw
   ·rw[z];decide
   rcases vJ hw with z|hw
   ·rw[z];have:∀r,r<=5->(Vbirad.RULES.getD r []).length<=8:=by
     intro r h
     match r,h with
     |0,_=>decide
     |1,_=>decide
     |2,_=>decide
     |3,_=>decide
     |4,_=>decide
     |5,_=>decide
    exact this r hr
   rcases vJ hw with z|hw
   ·rw[z];decide
   cases hw
  ·obtain⟨m,_,rfl⟩ :=vL hw;exact Zz wf m
theorem X3{ps:List Party}(wf:PWf ps){p:Party}(hp:p∈ps):(tailB p).length<=2/\∀w∈tailB p,w.length<=8:=by
 have hw:=wf.wt p hp;unfold tailB;split
 ·exact⟨by decide,fun w h=>by cases h⟩
 ·refine⟨by show 2<=2;decide,fun w h=>?_⟩;rcases vJ h with z|h
  ·rw[z];decide
  rcases vJ h with z|h
  ·rw[z];exact Mu (by omega)
  cases h
theorem Rc{ps:List Party}(wf:PWf ps){p:Party}(hp:p∈ps):(headB ps p++tailB p).length<=15/\∀w∈headB ps p++tailB p,w.length<=8:=by
 obtain⟨a,b⟩ :=O1 wf hp;obtain⟨c,d⟩ :=X3 wf hp;refine⟨by rw[vI];omega,fun w hw=>?_⟩;rcases v7 hw with h|h
 ·exact b w h
 ·exact d w h
theorem S1:∀(l:List Bytes),(∀w∈l,w.length<=8)->(l.map List.length).sum<=8 * l.length
 | [],_=>by simp
 |w::l,h=>by
  have:=S1 l fun x hx=>h x (by simp[hx]);have h1:=h w (by simp);rw[List.map_cons,List.sum_cons,List.length_cons];omega
theorem Rv:∀(l:List Bytes),(joinB 32 l).length<=(l.map List.length).sum + l.length
 | []=>by simp[joinB]
 | [w]=>by simp[joinB]
 |w::v::r=>by
  have:=Rv (v::r);show(w++32::joinB 32 (v::r)).length<=_;rw[vI,vK,vV,List.sum_cons,List.length_cons (as:=v::r)];omega
theorem Rx{ps:List Party}(wf:PWf ps){p:Party}(hp:p∈ps):(printParty ps p).length<=135:=by
 obtain⟨a,b⟩ :=Rc wf hp;rw[Jq];have h1:=Rv (headB ps p++tailB p);have h2:=S1 _ b;omega
theorem Ka{ps qs:List Party}(wf:PWf ps):∀(l:List Party),(∀p∈l,p∈ps)->((l.map fun p=>printParty ps p++[10]).map List.length).sum<=136 * l.length
 | [],_=>by simp
 |p::l,h=>by
  have:=Ka (qs:=qs) wf l fun q hq=>h q (by simp[hq]);have h1:=Rx wf (h p (by simp));rw[List.map_cons,List.map_cons,List.sum_cons,List.length_append,List.length_singleton,List.length_cons];omega
theorem joinE:∀l:List Bytes,PySem.Str.join (sOf []) (l.map sOf)=sOf l.flatten
 | []=>rfl
 | [w]=>by
  show sOf w=_;simp
 |w::v::r=>by
  have ih:=joinE (v::r);show sOf w++sOf []++PySem.Str.join (sOf []) ((v::r).map sOf)=_;rw[ih];show(⟨w.toArray++ #[]++(v::r).flatten.toArray⟩ :PySem.Str)= ⟨(w::v::r).flatten.toArray⟩;rw[List.flatten_cons];simp
theorem joinS(l:List Bytes):PySem.Str.join ⟨#[32]⟩ (l.map sOf)=sOf (joinB 32 l):=by
 rw[<-Qi (PySem.Str.join ⟨#[32]⟩ (l.map sOf)),T7,vX];congr 2
 conv=>rhs;rw[<-List.map_id l]
 exact vY fun w _=>Ep w
end Dr
namespace Dr
open Vbirad (Q Party Kind House Bytes text partsOf wordsOf linesOf numberIn isName isDigit isSmall find findAll weightIn lineOf readFrom readSharing RULES KEYS free distinct CLAIM WEIGHT MEMBERS PARTIES whole_ Call WATER byChance byParts claimOf claimsIn digits evenly fact halves inOrder isGroup isMember isParty isPerson leastFor levelFrom losses membersOf nums onSharing partyAt printParty printSharing proofOf qRow risen ruleOf setClaim setRule shareBy shareFrom shareOf spaced subsets sumQ weightsIn)
open PySem PySem.Spec PyProof.Rows L2
structure Shc(mg:Str->Option Value):Prop where
 NO_SHARING:GI mg "NO_SHARING" (-9)
 OUT_OF_RANGE:GI mg "OUT_OF_RANGE" (-1)
 OTHER_RULE:GI mg "OTHER_RULE" (-4)
 DONE:GI mg "DONE" 0
 WRONG_TEXT:GI mg "WRONG_TEXT" 1
 MOST_WATER:GI mg "MOST_WATER" 30000000
def RetS(D C:Addr)(H:Hp)(a:Addr)(r:House×List Int)(Q:VK):Prop:=∀v H',Kp H H'->DrAt D C r.1 a H'->Own IsI r.2 v H'->Q v H'
inductive spAns(K:PySem.W.Frag)(D C:Addr)(n:Nat)(mk:List Int->List Int->Call)(vs:List V)(H:Hp)(Q:VK)(_e3:XK):Prop|m:∀(h:House) (a:Addr) (ns row:List Int) (nv rv:V),vs= [.ref a,nv,rv]->DrAt D C h a H->h.parties≠[]->Lst K IsI ns nv H->ns.length=n->Lst K IsI row rv H->row.length<=8->RetS D C H a (Vbirad.step h (mk ns row)) Q->spAns K D C n mk vs H Q _e3
theorem onSh{h:House}{f:List Party->House×List Int}(e:h.parties≠[]):onSharing h f=f h.parties:=by
 unfold onSharing;rw[if_neg];rw[List.isEmpty_iff];exact e
theorem Bl{x lo hi:Int}:Vbirad.within x lo hi=true↔lo<=x/\x<=hi:=by
 unfold Vbirad.within;rw[Bool.and_eq_true,decide_eq_true_iff,decide_eq_true_iff]
section
variable {P:Program}{w:World}{K:PySem.W.Frag}{mg:Str->Option Value}{base:Heap}{C D:Addr}
theorem PtsL.updD{ps:List Party}{l a dx:Addr}{H:Hp}{fs:List (Str×V)}{o:HO}(h:PtsL C ps l H)(ne:C≠D)(ha:H a=some (.ins D dx fs)):PtsL C ps l (L2.upd H a o):=by
 obtain⟨as,g1,g2,g3⟩ :=h.ex;have nl:∀{c:Addr} {xs:List V},H c=some (.lst xs)->c≠a:=fun{c xs} e z=>by
  rw[z,ha]at e;cases e
 refine⟨as,by rw[Ak (nl g1)];exact g1,Paired.mono (fun p b pa=>?_) g2,g3⟩;obtain⟨dy,pm,nm,q1,q2,q3⟩ :=pa.ex;have hb:b≠a:=fun z=>by
  rw[z,ha]at q1;injection q1 with q1
  injection q1 with q1
  exact ne q1.symm
 exact⟨dy,pm,nm,by rw[Ak hb];exact q1,q2,by rw[Ak (nl q3)];exact q3⟩
theorem ret1{H:Hp}{a:Addr}{h:House}{n:Int}{Q:VK}{H1:Hp}(kp:Kp H H1)(dr:DrAt D C h a H1)(k:RetS D C H a (h,[n]) Q):∀p,H1 p=none->Q (.ref p) (L2.upd H1 p (.lst [.int n])):=fun p hp=>
 k _ _ (kp.trans (.of (Same.upd hp))) (dr.keep (Same.upd hp)) ⟨p,_,rfl,Ae,.cons rfl .nil⟩
abbrev Hf:Stmt:=top 102
theorem N2:FnScope ["drought","numbers","row"] ["drought","numbers","row"] (defScope Hf):=fS
theorem No(F:FunN K mg "answer_water" Hf)(S:Shc mg)(Z:Drg K mg D)(hCD:C≠D):Df P w K mg base 1 "answer_water" ["drought","numbers","row"] (spAns K D C 1 fun ns _=>.water (ns.getD 0 0)):=by
 refine Df.of F N2 (fun vs H Q E h=>?_) (fun f cdv A outer s H vs Q E hr h=>?_)
 ·obtain⟨h,a,ns,row,nv,rv,rfl,_⟩ :=h;rfl
 ·obtain⟨h,a,ns,row,_,rv,rfl,dr,hne,⟨p,xs,rfl,hl,hi⟩,hn,_,_,k⟩ :=h;obtain rfl:=C3 hi;obtain⟨e,rfl⟩ :∃e,ns= [e]:=by
   match ns,hn with
   | [e],_=>exact⟨e,rfl⟩
  refine⟨_,Ac (A1 (Bf (Ct C4 C4 (Af) (Ai Ag (pv 1) (Af)) (pgc S.MOST_WATER)))
    (Ad (Ah (Av (Aa (pgc S.OUT_OF_RANGE) Ab))))
    (Aq))
   (Ac (En (pv 0) (Ai Ag (pv 1) (Af)) rfl)
   (Ad (Ah (Av (Aa (pgc S.DONE) Ab))))),?_⟩
  have k:RetS D C H a (if Vbirad.within e 0 WATER=false then(h,[-1])else({h with water:=e.toNat},[0])) Q:=by
   have:=k;rw[show Vbirad.step h (.water (([e]:List Int).getD 0 0))=onSharing h fun _=>if Vbirad.within e 0 WATER=false then(h,[-1])else({h with water:=e.toNat},[0]) from rfl,onSh hne]at this;exact this
  have hbad:¬(0<=e/\e<=30000000)->∀q,H q=none->Q (.ref q) (upd H q (.lst [.int (-1)])):=fun z=>by
   have e1:Vbirad.within e 0 WATER=false:=by
    cases hq:Vbirad.within e 0 WATER with
    |false=>rfl
    |true=>exact absurd (Bl.mp hq) z
   rw[if_pos e1]at k;exact ret1 (.of (Same.refl _)) dr k
  have hat:atI ([e].map V.int) (0:Int)=some (.int e):=A4 (j:=0) rfl;refine⟨_,rfl,p,_,_,_,rfl,rfl,hl,hat,_,_,rfl,rfl,_,rfl,?_⟩;refine iteB (fun c1=>?_) (fun c1=>?_)
  ·have c1:=vG c1;refine⟨_,_,rfl,rfl,_,rfl,?_⟩;refine iteB (fun c2=>?_) (fun c2=>?_)
   ·have c2:=of_decide_eq_false (by simpa using c2:decide (e<=30000000)=false);exact⟨by show 1<=sizeLine;decide,hbad fun z=>c2 z.2⟩
   ·have c2:=of_decide_eq_true (by simpa using c2:decide (e<=30000000)=true);rw[if_neg (by rw[show Vbirad.within e 0 WATER=true from Bl.mpr ⟨c1,c2⟩];simp)]at k;obtain⟨⟨dx,l,h1,h2⟩,wf⟩ :=dr;refine⟨_,rfl,p,_,_,_,rfl,rfl,hl,hat,_,rfl,a,D,dx,_,rfl,h1,Z.cl,Z.nWater,(by show 2 < 1000;decide),?_⟩;refine⟨by show 1<=sizeLine;decide,ret1 (h:={h with water:=e.toNat}) (Kp.upd h1) ⟨⟨dx,l,?_,h2.updD hCD h1⟩,wf⟩ k⟩;rw[Ae];show _=some (HO.ins D dx (df (.ref l) (.int ((e.toNat:Nat):Int))));rw[show((e.toNat:Nat):Int)=e by omega];rfl
  ·have c1:=vH c1;refine⟨_,rfl,?_⟩;exact iteTr rfl ⟨by show 1<=sizeLine;decide,hbad fun z=>c1 z.1⟩
theorem Mg{ns:List Int}(h:ns.length=2):∃i c,ns= [i,c]:=by
 match ns,h with
 | [i,c],_=>exact⟨i,c,rfl⟩
theorem Hv{ps:List Party}{i:Int}(h:isPerson ps i=true):∃j p,i=((j:Nat):Int)/\ps[j]? =some p:=by
 unfold isPerson at h;rw[Bool.and_eq_true]at h;exact Ba.mp h.1
theorem Bw{ps:List Party}{i:Int}(h:isGroup ps i=true):∃j p,i=((j:Nat):Int)/\ps[j]? =some p:=by
 unfold isGroup at h;rw[Bool.and_eq_true]at h;exact Ba.mp h.1
abbrev G0:Stmt:=top 103
theorem Gx:FnScope ["drought","numbers","row","person"] ["drought","numbers","row"] (defScope G0):=fS
theorem Nf{kw rn:Addr}(F:FunN K mg "answer_claim" G0)(S:Shc mg)(R:Rdg K mg kw rn)(Y:Pty K mg C)(Z:Drg K mg D)(hCD:C≠D)(wK:Mdf P w K mg base D 2 "has_person" ["self","number"] (spDr D C isPerson)):
  Df P w K mg base 3 "answer_claim" ["drought","numbers","row"] (spAns K D C 2 fun ns _=>.claim (ns.getD 0 0) (ns.getD 1 0)):=by
 refine Df.of F Gx (fun vs H Q E h=>?_) (fun f cdv A outer s H vs Q E hr h=>?_)
 ·obtain⟨h,a,ns,row,nv,rv,rfl,_⟩ :=h;rfl
 ·obtain⟨h,a,ns,row,_,rv,rfl,dr,hne,⟨p,xs,rfl,hl,hi⟩,hn,_,_,k⟩ :=h;obtain rfl:=C3 hi;obtain⟨i,c,rfl⟩ :=Mg hn;refine⟨_,Ac (A1 (PW.pt (Dv (Bf (Bk (pm1 wK (pv 0) Z.cl hr (Aa (Ai Ag (pv 1) (Af)) Ab)))) (C8 (Bf (Ct C4 C4 (Af) (Ai Ag (pv 1) (Af)) (pgc R.MOST_CLAIMED))))))
    (Ad (Ah (Av (Aa (pgc S.OUT_OF_RANGE) Ab))))
    (Aq))
   (Ac (Aj (i:=3) Gx.nd rfl (Or.inl rfl) (Ai Ag (Ap (pv 0) rfl) (Ai Ag (pv 1) (Af))))
   (Ac (En (pv 3) (Ai Ag (pv 1) (Af)) rfl)
   (Ad (Ah (Av (Aa (pgc S.DONE) Ab)))))),?_⟩
  have k:RetS D C H a (if (isPerson h.parties i&&Vbirad.within c 0 (CLAIM:Int))=false then(h,[-1])else({h with parties:=setClaim h.parties i.toNat c.toNat},[0])) Q:=by
   have:=k;rw[show Vbirad.step h (.claim (([i,c]:List Int).getD 0 0) (([i,c]:List Int).getD 1 0))=onSharing h fun ps=>if (isPerson ps i&&Vbirad.within c 0 (CLAIM:Int))=false then(h,[-1])else({h with parties:=setClaim ps i.toNat c.toNat},[0]) from rfl,onSh hne]at this;exact this
  have hbad:∀H1,Same H H1->(isPerson h.parties i&&Vbirad.within c 0 (CLAIM:Int))=false->∀q,H1 q=none->Q (.ref q) (upd H1 q (.lst [.int (-1)])):=fun H1 sm z=>by
   rw[if_pos z]at k;exact ret1 (.of sm) (dr.keep sm) k
  have hat0:atI ([i,c].map V.int) (0:Int)=some (.int i):=A4 (j:=0) rfl;have hat1:atI ([i,c].map V.int) (1:Int)=some (.int c):=A4 (j:=1) rfl;have dr0:=dr;obtain⟨⟨dx,l,h1,h2⟩,wf⟩ :=dr;refine⟨_,rfl,a,dx,_,rfl,h1,Ws,_,rfl,p,_,_,_,rfl,rfl,hl,hat0,h,a,i,rfl,dr0,?_⟩;rintro _ H2 s2 rfl;refine⟨_,rfl,?_⟩;refine iteB (fun c1=>?_) (fun c1=>?_)
  ·have c1:isPerson h.parties i=false:=by simpa using c1
   exact iteTr rfl ⟨by show 1<=sizeLine;decide,hbad _ s2 (by rw[c1];rfl)⟩
  have c1:isPerson h.parties i=true:=by simpa using c1
  refine⟨_,rfl,p,_,_,_,rfl,rfl,s2.seq hl,hat1,_,_,rfl,rfl,_,rfl,?_⟩;have hw:¬(0<=c/\c<=1000000)->(isPerson h.parties i&&Vbirad.within c 0 (CLAIM:Int))=false:=fun z=>by
   rw[c1,Bool.true_and];cases hq:Vbirad.within c 0 (CLAIM:Int)with
   |false=>rfl
   |true=>exact absurd (Bl.mp hq) z
  refine iteB (fun c2=>?_) (fun c2=>?_)
  ·have c2:=vG c2;refine⟨_,_,rfl,rfl,_,rfl,?_⟩;refine iteB (fun c3=>?_) (fun c3=>?_)
   ·have c3:=of_decide_eq_false (by simpa using c3:decide (c<=1000000)=false);exact⟨by show 1<=sizeLine;decide,hbad _ s2 (hw fun z=>c3 z.2)⟩
   ·have c3:=of_decide_eq_true (by simpa using c3:decide (c<=1000000)=true);rw[if_neg (by rw[c1,show Vbirad.within c 0 (CLAIM:Int)=true from Bl.mpr ⟨c2,c3⟩];simp)]at k;obtain⟨j,pt,rfl,ep⟩ :=Hv c1;rw[Int.toNat_natCast]at k;obtain⟨m,rfl⟩ :∃m:Nat,c=(m:Int):= ⟨c.toNat,by omega⟩;rw[Int.toNat_natCast]at k;have wf2:=Wk (c:=m) wf ep (by omega);rw[Io ep]at k wf2;obtain⟨as,g1,g2,g3⟩ :=(h2.keep s2).ex;obtain⟨x,hx,pa⟩ :=(ptsIts (C:=C) g2).get ep;obtain⟨b,rfl,dy,pm,nm,q1,q2,q3⟩ :=pa;have hb:as[j]? =some b:=by
     rw[vR]at hx;cases ha:as[j]? with
     |none=>rw[ha]at hx;cases hx
     |some b'=>rw[ha]at hx;injection hx with hx;injection hx with hx;rw[hx]
    have hper:∃d,pt.kind=.person d:=by
     have:=Fd wf ep;rw[c1]at this;cases hk:pt.kind with
     |person d=>exact⟨d,rfl⟩
     |group r ms=>
      have h3:=wf.some_ pt (List.mem_of_getElem? ep) r ms hk;have h4:mem pt=ms:=by unfold mem;rw[hk]
      rw[h4]at this;have h5:0 < ms.length:=List.length_pos_iff.mpr h3;rw[decide_eq_true h5]at this;cases this
    obtain⟨d,hk⟩ :=hper;have hba:a≠b:=fun z=>by
     rw[<-z,s2 _ _ h1]at q1;injection q1 with q1
     injection q1 with q1
     exact hCD q1.symm
    refine⟨_,rfl,a,D,dx,_,_,rfl,s2 _ _ h1,Z.cl,Z.nParties,Au,_,rfl,p,_,_,_,rfl,rfl,s2.seq hl,hat0,l,_,_,_,rfl,rfl,SqL.of g1,atN hx,?_⟩;refine⟨_,rfl,p,_,_,_,rfl,rfl,s2.seq hl,hat1,_,rfl,b,C,dy,_,rfl,q1,Y.cl,Y.nClaim,(by show 5 < 1000;decide),?_⟩;refine⟨by show 1<=sizeLine;decide,ret1 (h:={h with parties:=h.parties.set j (chClaim pt m)}) ((Kp.of s2).trans (Kp.upd q1)) ⟨⟨dx,l,by rw[Ak hba];exact s2 _ _ h1,?_⟩,wf2⟩ k⟩;have:=PtsL.put (q:=chClaim pt m) g1 g2 g3 hb q1 (nm:=nm) (pm:=pm) q2 (by rw[q3];unfold mV;rw[Mt]);have e1:own (chClaim pt m)=m:=by unfold own chClaim;rw[hk]
    have e2:rul (chClaim pt m)=rul pt:=by unfold rul chClaim;rw[hk]
    rw[e1,e2]at this;exact this
  ·have c2:=vH c2;refine⟨_,rfl,?_⟩;exact iteTr rfl ⟨by show 1<=sizeLine;decide,hbad _ s2 (hw fun z=>c2 z.1)⟩
abbrev Ir:Stmt:=top 104
theorem Ii:FnScope ["drought","numbers","row","group"] ["drought","numbers","row"] (defScope Ir):=fS
theorem Pe{kw rn:Addr}(F:FunN K mg "answer_rule" Ir)(S:Shc mg)(T:Blt mg)(R:Rdg K mg kw rn)(Y:Pty K mg C)(Z:Drg K mg D)(hCD:C≠D)(wD:Mdf P w K mg base D 2 "has_group" ["self","number"] (spDr D C isGroup)):
  Df P w K mg base 3 "answer_rule" ["drought","numbers","row"] (spAns K D C 2 fun ns _=>.rule (ns.getD 0 0) (ns.getD 1 0)):=by
 refine Df.of F Ii (fun vs H Q E h=>?_) (fun f cdv A outer s H vs Q E hr h=>?_)
 ·obtain⟨h,a,ns,row,nv,rv,rfl,_⟩ :=h;rfl
 ·obtain⟨h,a,ns,row,_,rv,rfl,dr,hne,⟨p,xs,rfl,hl,hi⟩,hn,_,_,k⟩ :=h;obtain rfl:=C3 hi;obtain⟨i,c,rfl⟩ :=Mg hn;refine⟨_,Ac (A1 (PW.pt (Dv (Bf (Bk (pm1 wD (pv 0) Z.cl hr (Aa (Ai Ag (pv 1) (Af)) Ab)))) (C8 (Bf (Ct C4 Ku (Af) (Ai Ag (pv 1) (Af)) (Ao An (by rfl) T.len PySem.boot_len (Aa (pgt R.RULE_NAMES) Ab)))))))
    (Ad (Ah (Av (Aa (pgc S.OUT_OF_RANGE) Ab))))
    (Aq))
   (Ac (Aj (i:=3) Ii.nd rfl (Or.inl rfl) (Ai Ag (Ap (pv 0) rfl) (Ai Ag (pv 1) (Af))))
   (Ac (En (pv 3) (Ai Ag (pv 1) (Af)) rfl)
   (Ad (Ah (Av (Aa (pgc S.DONE) Ab)))))),?_⟩
  have k:RetS D C H a (if (isGroup h.parties i&&Vbirad.within c 0 5)=false then(h,[-1])else({h with parties:=setRule h.parties i.toNat c.toNat},[0])) Q:=by
   have:=k;rw[show Vbirad.step h (.rule (([i,c]:List Int).getD 0 0) (([i,c]:List Int).getD 1 0))=onSharing h fun ps=>if (isGroup ps i&&Vbirad.within c 0 5)=false then(h,[-1])else({h with parties:=setRule ps i.toNat c.toNat},[0]) from rfl,onSh hne]at this;exact this
  have hbad:∀H1,Same H H1->(isGroup h.parties i&&Vbirad.within c 0 5)=false->∀q,H1 q=none->Q (.ref q) (upd H1 q (.lst [.int (-1)])):=fun H1 sm z=>by
   rw[if_pos z]at k;exact ret1 (.of sm) (dr.keep sm) k
  have hat0:atI ([i,c].map V.int) (0:Int)=some (.int i):=A4 (j:=0) rfl;have hat1:atI ([i,c].map V.int) (1:Int)=some (.int c):=A4 (j:=1) rfl;have dr0:=dr;obtain⟨⟨dx,l,h1,h2⟩,wf⟩ :=dr;refine⟨_,rfl,a,dx,_,rfl,h1,Ls,_,rfl,p,_,_,_,rfl,rfl,hl,hat0,h,a,i,rfl,dr0,?_⟩;rintro _ H2 s2 rfl;refine⟨_,rfl,?_⟩;refine iteB (fun c1=>?_) (fun c1=>?_)
  ·have c1:isGroup h.parties i=false:=by simpa using c1
   exact iteTr rfl ⟨by show 1<=sizeLine;decide,hbad _ s2 (by rw[c1];rfl)⟩
  have c1:isGroup h.parties i=true:=by simpa using c1
  refine⟨_,rfl,p,_,_,_,rfl,rfl,s2.seq hl,hat1,_,_,rfl,rfl,_,rfl,?_⟩;have hw:¬(0<=c/\c<=5)->(isGroup h.parties i&&Vbirad.within c 0 5)=false:=fun z=>by
   rw[c1,Bool.true_and];cases hq:Vbirad.within c 0 5 with
   |false=>rfl
   |true=>exact absurd (Bl.mp hq) z
  refine iteB (fun c2=>?_) (fun c2=>?_)
  ·have c2:=vG c2;refine⟨rn,_,rfl,.inr (R.RULE_NAMES.its _),_,_,rfl,rfl,_,rfl,?_⟩;rw[C9,show Vbirad.RULES.length=6 from rfl];refine iteB (fun c3=>?_) (fun c3=>?_)
   ·have c3:¬c<=5:=by
     have:=of_decide_eq_false (by simpa using c3:decide (c < ((6:Nat):Int))=false);omega
    exact⟨by show 1<=sizeLine;decide,hbad _ s2 (hw fun z=>c3 z.2)⟩
   ·have c3:c<=5:=by
     have:=of_decide_eq_true (by simpa using c3:decide (c < ((6:Nat):Int))=true);omega
    rw[if_neg (by rw[c1,show Vbirad.within c 0 5=true from Bl.mpr ⟨c2,c3⟩];simp)]at k;obtain⟨j,pt,rfl,ep⟩ :=Bw c1;rw[Int.toNat_natCast]at k;obtain⟨m,rfl⟩ :∃m:Nat,c=(m:Int):= ⟨c.toNat,by omega⟩;rw[Int.toNat_natCast]at k;have wf2:=T9 (r:=m) wf ep (by omega);rw[Gq ep]at k wf2;obtain⟨as,g1,g2,g3⟩ :=(h2.keep s2).ex;obtain⟨x,hx,pa⟩ :=(ptsIts (C:=C) g2).get ep;obtain⟨b,rfl,dy,pm,nm,q1,q2,q3⟩ :=pa;have hb:as[j]? =some b:=by
     rw[vR]at hx;cases ha:as[j]? with
     |none=>rw[ha]at hx;cases hx
     |some b'=>rw[ha]at hx;injection hx with hx;injection hx with hx;rw[hx]
    have hgrp:∃r ms,pt.kind=.group r ms:=by
     have:=E1 wf ep;rw[c1]at this;cases hk:pt.kind with
     |group r ms=>exact⟨r,ms,rfl⟩
     |person d=>
      have h4:mem pt= []:=by unfold mem;rw[hk]
      rw[h4]at this;cases this
    obtain⟨r0,ms0,hk⟩ :=hgrp;have hba:a≠b:=fun z=>by
     rw[<-z,s2 _ _ h1]at q1;injection q1 with q1
     injection q1 with q1
     exact hCD q1.symm
    refine⟨_,rfl,a,D,dx,_,_,rfl,s2 _ _ h1,Z.cl,Z.nParties,Au,_,rfl,p,_,_,_,rfl,rfl,s2.seq hl,hat0,l,_,_,_,rfl,rfl,SqL.of g1,atN hx,?_⟩;refine⟨_,rfl,p,_,_,_,rfl,rfl,s2.seq hl,hat1,_,rfl,b,C,dy,_,rfl,q1,Y.cl,Y.nRule,(by show 5 < 1000;decide),?_⟩;refine⟨by show 1<=sizeLine;decide,ret1 (h:={h with parties:=h.parties.set j (chRule pt m)}) ((Kp.of s2).trans (Kp.upd q1)) ⟨⟨dx,l,by rw[Ak hba];exact s2 _ _ h1,?_⟩,wf2⟩ k⟩;have:=PtsL.put (q:=chRule pt m) g1 g2 g3 hb q1 (nm:=nm) (pm:=pm) q2 (by rw[q3];unfold mV;rw[D0]);have e1:own (chRule pt m)=own pt:=by unfold own chRule;rw[hk]
    have e2:rul (chRule pt m)=m:=by unfold rul chRule;rw[hk]
    rw[e1,e2]at this;exact this
  ·have c2:=vH c2;refine⟨_,rfl,?_⟩;exact iteTr rfl ⟨by show 1<=sizeLine;decide,hbad _ s2 (hw fun z=>c2 z.1)⟩
end
theorem N_I{H:Hp}{ns:List Nat}{xs:List V}(h:Its IsN H ns xs):xs=(nums ns).map V.int:=by
 rw[O2 h];unfold nums;rw[List.map_map];rfl
section
variable {P:Program}{w:World}{K:PySem.W.Frag}{mg:Str->Option Value}{base:Heap}{C D:Addr}
abbrev Fz:Stmt:=top 107
theorem Mc:FnScope ["drought","numbers","row"] ["drought","numbers","row"] (defScope Fz):=fS
theorem L0(F:FunN K mg "answer_claims" Fz)(S:Shc mg)(Z:Drg K mg D)(wB:Df P w K mg base 2 "all_claims" ["parties"] (spClaims K C)):
  Df P w K mg base 3 "answer_claims" ["drought","numbers","row"] (spAns K D C 0 fun _ _=>.claims):=by
 refine Df.of F Mc (fun vs H Q E h=>?_) (fun f cdv A outer s H vs Q E hr h=>?_)
 ·obtain⟨h,a,ns,row,nv,rv,rfl,_⟩ :=h;rfl
 ·obtain⟨h,a,ns,row,nv,rv,rfl,dr,hne,_,_,_,_,k⟩ :=h;refine⟨_,Ad (Ah (Az Cf (Av (Aa (pgc S.DONE) Ab)) (pd wB hr (Aa (Ap (pv 0) rfl) Ab)))),?_⟩;have k:RetS D C H a (h,0::nums (claimL h.parties)) Q:=by
   have:=k;rw[show Vbirad.step h .claims=onSharing h fun ps=>(h,0::nums ((List.range ps.length).map (Vbirad.claim ps))) from rfl,onSh hne]at this;exact this
  have dr0:=dr;obtain⟨⟨dx,l,h1,h2⟩,wf⟩ :=dr;refine⟨by show 1<=sizeLine;decide,fun q hq=>?_⟩;have s1:Same H (upd H q (.lst [.int 0])):=Same.upd hq;have hq1:(upd H q (.lst [.int 0])) q=some (.lst [.int 0]):=Ae;generalize upd H q (.lst [.int 0])=H1 at s1 hq1;refine⟨_,rfl,a,D,dx,_,_,rfl,s1 _ _ h1,Z.cl,Z.nParties,Au,h.parties,_,rfl,(h2.keep s1).lst,wf,?_⟩;rintro _ H2 s2 ⟨pc,ys,rfl,hpc,iys⟩;obtain rfl:=N_I iys;have hlen:(claimL h.parties).length<=30:=by
   have:=wf.len;unfold claimL;simp;omega
  refine⟨q,pc,_,_,rfl,rfl,s2 _ _ hq1,hpc,?_,fun T hT=>?_⟩
  ·unfold nums;rw[List.length_map,List.length_map];exact Nat.le_trans (show _<=31 by simp;omega) (by decide)
  ·have sT:=(s1.trans s2).updT (o:=.lst ([.int 0]++(nums (claimL h.parties)).map V.int)) hT;exact k _ _ (.of sT) (dr0.keep sT) ⟨T,_,rfl,Ae,C2 (0::nums (claimL h.parties))⟩
abbrev F1:Stmt:=top 105
theorem Md:FnScope ["drought","numbers","row"] ["drought","numbers","row"] (defScope F1):=fS
theorem L4(F:FunN K mg "answer_shares" F1)(S:Shc mg)(Z:Drg K mg D)(w9:Df P w K mg base 1 "flat" ["ratios"] (spFlat K))(wA:Df P w K mg base 10 "all_shares" ["parties","water"] (spShares K C)):
  Df P w K mg base 11 "answer_shares" ["drought","numbers","row"] (spAns K D C 0 fun _ _=>.shares):=by
 refine Df.of F Md (fun vs H Q E h=>?_) (fun f cdv A outer s H vs Q E hr h=>?_)
 ·obtain⟨h,a,ns,row,nv,rv,rfl,_⟩ :=h;rfl
 ·obtain⟨h,a,ns,row,nv,rv,rfl,dr,hne,_,_,_,_,k⟩ :=h;refine⟨_,Ad (Ah (Az Cf (Av (Aa (pgc S.DONE) Ab)) (pd w9 hr (Aa (pd wA hr (Aa (Ap (pv 0) rfl) (Aa (Ap (pv 0) rfl) Ab))) Ab)))),?_⟩;have k:RetS D C H a (h,0::(Vbirad.shares h.parties h.water).flatMap qRow) Q:=by
   have:=k;rw[show Vbirad.step h .shares=onSharing h fun ps=>(h,0::(Vbirad.shares ps h.water).flatMap qRow) from rfl,onSh hne]at this;exact this
  have dr0:=dr;obtain⟨⟨dx,l,h1,h2⟩,wf⟩ :=dr;refine⟨by show 1<=sizeLine;decide,fun q hq=>?_⟩;have s1:Same H (upd H q (.lst [.int 0])):=Same.upd hq;have hq1:(upd H q (.lst [.int 0])) q=some (.lst [.int 0]):=Ae;generalize upd H q (.lst [.int 0])=H1 at s1 hq1;refine⟨_,rfl,a,D,dx,_,_,rfl,s1 _ _ h1,Z.cl,Z.nParties,Au,_,rfl,a,D,dx,_,_,rfl,s1 _ _ h1,Z.cl,Z.nWater,Cq,h.parties,h.water,_,rfl,(h2.keep s1).lst,wf,hne,?_⟩;rintro ps H2 s2 _ ⟨_,ys,hpp,hps,iys⟩;obtain rfl:=V.ref.inj hpp;have hlen:(Vbirad.shares h.parties h.water).length<=30:=by
   rw[(Mf wf h.water).1];exact wf.len
  refine⟨_,_,rfl,⟨ps,ys,rfl,SqL.of hps,iys⟩,by omega,?_⟩;rintro _ H3 s3 ⟨pf,zs,rfl,hpf,izs⟩;obtain rfl:=C3 izs;refine⟨q,pf,_,_,rfl,rfl,s3 _ _ (s2 _ _ hq1),hpf,?_,fun T hT=>?_⟩
  ·rw[List.length_map,Mb];exact Nat.le_trans (show _<=61 by simp;omega) (by decide)
  ·have sT:=((s1.trans s2).trans s3).updT (o:=.lst ([.int 0]++((Vbirad.shares h.parties h.water).flatMap qRow).map V.int)) hT;exact k _ _ (.of sT) (dr0.keep sT) ⟨T,_,rfl,Ae,C2 (0::(Vbirad.shares h.parties h.water).flatMap qRow)⟩
theorem Pl{ns:List Int}(h:ns.length=1):∃i,ns= [i]:=by
 match ns,h with
 | [i],_=>exact⟨i,rfl⟩
abbrev Hd:Stmt:=top 106
theorem N0:FnScope ["drought","numbers","row"] ["drought","numbers","row"] (defScope Hd):=fS
theorem Nl(F:FunN K mg "answer_share" Hd)(T:Blt mg)(S:Shc mg)(Z:Drg K mg D)(wG:Mdf P w K mg base D 1 "has_party" ["self","number"] (spDr D C isParty))(wA:Df P w K mg base 10 "all_shares" ["parties","water"] (spShares K C)):
  Df P w K mg base 11 "answer_share" ["drought","numbers","row"] (spAns K D C 1 fun ns _=>.share (ns.getD 0 0)):=by
 refine Df.of F N0 (fun vs H Q E h=>?_) (fun f cdv A outer s H vs Q E hr h=>?_)
 ·obtain⟨h,a,ns,row,nv,rv,rfl,_⟩ :=h;rfl
 ·obtain⟨h,a,ns,row,_,rv,rfl,dr,hne,⟨p,xs,rfl,hl,hi⟩,hn,_,_,k⟩ :=h;obtain rfl:=C3 hi;obtain⟨i,rfl⟩ :=Pl hn;refine⟨_,Ac (A1 (Bf (Bk (pm1 wG (pv 0) Z.cl hr (Aa (Ai Ag (pv 1) (Af)) Ab))))
    (Ad (Ah (Av (Aa (pgc S.OUT_OF_RANGE) Ab))))
    (Aq))
   (Ad (Ah (Az Cf (Av (Aa (pgc S.DONE) Ab)) (Cl Ce (by rfl) T.list boot_list (Aa (Ai Ag (pd wA hr (Aa (Ap (pv 0) rfl) (Aa (Ap (pv 0) rfl) Ab))) (Ai Ag (pv 1) (Af))) Ab))))),?_⟩
  have k:RetS D C H a (if isParty h.parties i=false then(h,[-1])else(h,0::qRow (shareOf h.parties h.water i.toNat))) Q:=by
   have:=k;rw[show Vbirad.step h (.share (([i]:List Int).getD 0 0))=onSharing h fun ps=>if isParty ps i=false then(h,[-1])else(h,0::qRow (shareOf ps h.water i.toNat)) from rfl,onSh hne]at this;exact this
  have hat0:atI ([i].map V.int) (0:Int)=some (.int i):=A4 (j:=0) rfl;have dr0:=dr;obtain⟨⟨dx,l,h1,h2⟩,wf⟩ :=dr;refine⟨_,rfl,a,dx,_,rfl,h1,Op,_,rfl,p,_,_,_,rfl,rfl,hl,hat0,h,a,i,rfl,dr0,?_⟩;rintro _ H2 s2 rfl;refine⟨_,rfl,?_⟩;refine iteB (fun c1=>?_) (fun c1=>?_)
  ·have c1:isParty h.parties i=false:=by simpa using c1
   rw[if_pos c1]at k;exact⟨by show 1<=sizeLine;decide,ret1 (.of s2) (dr0.keep s2) k⟩
  ·have c1:isParty h.parties i=true:=by simpa using c1
   rw[if_neg (by rw[c1];simp)]at k;obtain⟨j,pt,rfl,ep⟩ :=Ba.mp c1;rw[Int.toNat_natCast]at k;refine⟨by show 1<=sizeLine;decide,fun q hq=>?_⟩;have s1:Same H (upd H2 q (.lst [.int 0])):=s2.updT hq;have hq1:(upd H2 q (.lst [.int 0])) q=some (.lst [.int 0]):=Ae;generalize upd H2 q (.lst [.int 0])=H1 at s1 hq1;refine⟨_,rfl,a,D,dx,_,_,rfl,s1 _ _ h1,Z.cl,Z.nParties,Au,_,rfl,a,D,dx,_,_,rfl,s1 _ _ h1,Z.cl,Z.nWater,Cq,h.parties,h.water,_,rfl,(h2.keep s1).lst,wf,hne,?_⟩;rintro ps H3 s3 _ ⟨_,ys,hpp,hps,iys⟩;obtain rfl:=V.ref.inj hpp;obtain⟨ve,hve,pf,rfl,hpf⟩ :=iys.get (Bg wf h.water (List.getElem?_eq_some_iff.mp ep).1);have s13:=s1.trans s3;refine⟨_,rfl,p,_,_,_,rfl,rfl,s13.seq hl,hat0,ps,_,_,_,rfl,rfl,SqL.of hps,atN hve,pf,_,rfl,.inr hpf,fun l2 hl2=>?_⟩;have s4:=s13.updT (o:=.lst [.int (shareOf h.parties h.water j).n,.int ((shareOf h.parties h.water j).d:Int)]) hl2;have hql:q≠l2:=Al (s3 _ _ hq1) hl2;refine⟨q,l2,_,_,rfl,rfl,(by rw[Ak hql];exact s3 _ _ hq1),Ae,by show 3<=sizeLine;decide,fun T hT=>?_⟩;have sT:=s4.updT (o:=.lst ([.int 0]++[.int (shareOf h.parties h.water j).n,.int ((shareOf h.parties h.water j).d:Int)])) hT;exact k _ _ (.of sT) (dr0.keep sT) ⟨T,_,rfl,Ae,C2 (0::qRow (shareOf h.parties h.water j))⟩
end
theorem aK{α:Type}{xs:List α}(h:xs.length≠0):atI xs (-1)=xs[xs.length - 1]?:=by
 unfold atI ixN;rw[if_neg (by decide),if_pos (by omega)];show xs[(-1 + (xs.length:Int)).toNat]? =_;rw[show(-1 + (xs.length:Int)).toNat=xs.length - 1 by omega]
section
variable {P:Program}{w:World}{K:PySem.W.Frag}{mg:Str->Option Value}{base:Heap}{C D:Addr}
inductive spShar(K:PySem.W.Frag)(D C:Addr)(vs:List V)(H:Hp)(Q:VK)(_e3:XK):Prop|m:∀(h:House) (a:Addr) (row:List Nat) (nv rv:V),vs= [.ref a,nv,rv]->DrAt D C h a H->Lst K IsN row rv H->(∀n∈row,n < 256)->row.length<=2000->RetS D C H a (Vbirad.step h (.sharing row)) Q->spShar K D C vs H Q _e3
abbrev Fl:Stmt:=top 101
theorem Ff:FnScope ["drought","numbers","row","told"] ["drought","numbers","row"] (defScope Fl):=fS
theorem Kr(F:FunN K mg "answer_sharing" Fl)(T:Blt mg)(S:Shc mg)(Z:Drg K mg D)(hCD:C≠D)(uF:Df P w K mg base 6 "read_sharing" ["numbers"] (spRead K C))(wB:Df P w K mg base 2 "all_claims" ["parties"] (spClaims K C)):
  Df P w K mg base 7 "answer_sharing" ["drought","numbers","row"] (spShar K D C):=by
 refine Df.of F Ff (fun vs H Q E h=>?_) (fun f cdv A outer s H vs Q E hr h=>?_)
 ·obtain⟨h,a,row,nv,rv,rfl,_⟩ :=h;rfl
 ·obtain⟨h,a,row,nv,rv,rfl,dr,lr,hb,hn,k⟩ :=h;refine⟨_,Ac (Aj (i:=3) Ff.nd rfl (Or.inl rfl) (pd uF hr (Aa (pv 2) Ab)))
   (Ac (A1 (At Po (Ai Bc (pv 3) (Af)) (Af) (nomark _))
    (Ad (Ah (Av (Aa (pgc S.WRONG_TEXT) (Aa (Ai Bc (pv 3) (Af)) Ab)))))
    (Aq))
   (Ac (En (pv 0) (Ai Bc (pv 3) (Af)) rfl)
   (Ac (En (pv 0) (Af) rfl)
   (Ad (Ah (Av (Aa (pgc S.DONE) (Aa (Ao An (by rfl) T.len PySem.boot_len (Aa (Ap (pv 0) rfl) Ab)) (Aa (Ai Ag (pd wB hr (Aa (Ap (pv 0) rfl) Ab)) (Ky Gu (Af))) Ab))))))))),?_⟩
  have dr0:=dr;obtain⟨⟨dx,l0,h1,h2⟩,wf⟩ :=dr;refine⟨_,rfl,row,rv,rfl,lr,hb,hn,?_⟩;rintro u H2 s2 ⟨T2,l,rfl,ht⟩;have hstep:Vbirad.step h (.sharing row)=(match readSharing row with
   |.error i=>(h,[1,(i:Int)])
   |.ok ps=>({parties:=ps,water:=0},0::nums [ps.length,Vbirad.claim ps (ps.length - 1)])):=rfl
  rw[hstep]at k;cases hrd:readSharing row with
  |error e=>
   rw[hrd]at k ht;have ht:SqT K H2 T2 [.ref l,.int (e:Int)]:=ht;have hpos:1<=e:=Vp hrd;have hat:atI [V.ref l,V.int (e:Int)] (1:Int)=some (.int (e:Int)):=A4 (j:=1) rfl;refine⟨_,rfl,T2,_,_,_,rfl,rfl,ht,hat,_,_,rfl,rfl,_,rfl,?_⟩;refine iteTr (decide_eq_true (by omega)) ?_;refine⟨_,rfl,T2,_,_,_,rfl,rfl,ht,hat,by show 2<=sizeLine;decide,fun q hq=>?_⟩;have sT:=s2.updT (o:=.lst [.int 1,.int (e:Int)]) hq;exact k _ _ (.of sT) (dr0.keep sT) ⟨q,_,rfl,Ae,C2 [1,(e:Int)]⟩
  |ok ps=>
   rw[hrd]at k ht;obtain⟨ht,hp,gd,hne⟩ :SqT K H2 T2 [.ref l,.int 0]/\PtsL C ps l H2/\Good ps/\ps≠[]:=ht;have hat:atI [V.ref l,V.int 0] (1:Int)=some (.int 0):=A4 (j:=1) rfl;have hat0:atI [V.ref l,V.int 0] (0:Int)=some (.ref l):=A4 (j:=0) rfl;refine⟨_,rfl,T2,_,_,_,rfl,rfl,ht,hat,_,_,rfl,rfl,_,rfl,?_⟩;refine iteFl rfl ?_;refine⟨_,rfl,T2,_,_,_,rfl,rfl,ht,hat0,_,rfl,a,D,dx,_,rfl,s2 _ _ h1,Z.cl,Z.nParties,(by show 2 < 1000;decide),?_⟩;refine⟨_,rfl,a,D,dx,_,rfl,Ae,Z.cl,Z.nWater,(by show 2 < 1000;decide),?_⟩;have kp:Kp H2 (upd (upd H2 a (.ins D dx (putF "parties" (.ref l) (df (.ref l0) (.int (h.water:Int)))))) a (.ins D dx (putF "water" (.int 0) (putF "parties" (.ref l) (df (.ref l0) (.int (h.water:Int))))))):=
    (Kp.upd (s2 _ _ h1)).trans (Kp.upd Ae)
   have hp5:=(hp.updD (o:=.ins D dx (putF "parties" (.ref l) (df (.ref l0) (.int (h.water:Int))))) hCD (s2 _ _ h1)).updD (D:=D) (a:=a) (o:=.ins D dx (putF "water" (.int 0) (putF "parties" (.ref l) (df (.ref l0) (.int (h.water:Int)))))) hCD Ae;have ha5:(upd (upd H2 a (.ins D dx (putF "parties" (.ref l) (df (.ref l0) (.int (h.water:Int)))))) a (.ins D dx (putF "water" (.int 0) (putF "parties" (.ref l) (df (.ref l0) (.int (h.water:Int))))))) a=some (.ins D dx (df (.ref l) (.int 0))):=Ae;generalize upd (upd H2 a (.ins D dx (putF "parties" (.ref l) (df (.ref l0) (.int (h.water:Int)))))) a (.ins D dx (putF "water" (.int 0) (putF "parties" (.ref l) (df (.ref l0) (.int (h.water:Int))))))=H5 at kp hp5 ha5;obtain⟨as,g1,g2,g3⟩ :=hp5.ex;have hlen:ps.length=as.length:=Paired.length g2;refine⟨_,rfl,a,D,dx,_,_,rfl,ha5,Z.cl,Z.nParties,Au,l,_,rfl,.inl (SqL.of g1),?_⟩;refine⟨_,rfl,a,D,dx,_,_,rfl,ha5,Z.cl,Z.nParties,Au,ps,_,rfl,hp5.lst,gd.wf,?_⟩;rintro _ H6 s6 ⟨pc,ys,rfl,hpc,iys⟩;obtain rfl:=N_I iys;have hcl:(claimL ps).length=ps.length:=by unfold claimL;simp
   have hpl:0 < ps.length:=List.length_pos_iff.mpr hne;have hnl:((nums (claimL ps)).map V.int).length=ps.length:=by unfold nums;rw[List.length_map,List.length_map,hcl]
   have hlast:atI ((nums (claimL ps)).map V.int) (-1)=some (.int ((Vbirad.claim ps (ps.length - 1):Nat):Int)):=by
    rw[aK (by omega),hnl];unfold nums;rw[List.getElem?_map,List.getElem?_map,Bs (by omega)];rfl
   refine⟨_,rfl,pc,_,_,_,rfl,rfl,SqL.of hpc,hlast,by show 3<=sizeLine;decide,fun q hq=>?_⟩;rw[vB,<-hlen];have s7:=s6.updT (o:=.lst [.int 0,.int (ps.length:Int),.int ((Vbirad.claim ps (ps.length - 1):Nat):Int)]) hq;refine k _ _ (((Kp.of s2).trans kp).trans (.of s7)) ?_ ⟨q,_,rfl,Ae,C2 (0::nums [ps.length,Vbirad.claim ps (ps.length - 1)])⟩;exact(DrAt.keep (D:=D) (h:={parties:=ps,water:=0}) s7 ⟨⟨dx,l,ha5,hp5⟩,gd.wf⟩)
end
structure Adf(P:Program)(w:World)(K:PySem.W.Frag)(mg:Str->Option Value)(base:Heap)(k:Nat)(f:Addr)(ps:List Str)(sp:Sp):Prop where
 ex:∃fd,PySem.W.keepIn K (.ref f)=true/\Binds K fd ps []/\FnOk P w K mg base CX0 k f fd ps sp
theorem Df.adf{P:Program}{w:World}{K:PySem.W.Frag}{mg:Str->Option Value}{base:Heap}{k:Nat}{x:Str}{ps:List Str}{sp:Sp}{f:Addr}(d:Df P w K mg base k x ps sp)(e:mg x=some (.ref f)):Adf P w K mg base k f ps sp:=by
 obtain⟨g,fd,a,b,c,d⟩ :=d.ex;rw[e]at a;injection a with a
 injection a with a
 subst a;exact⟨fd,b,c,d⟩
section
variable {X:Cx}{fe e:Expr}{es:List Expr}{pos:Pos}{tf:TE}{t:TA}
theorem pcv(P:Program)(w:World)(K:PySem.W.Frag)(mg:Str->Option Value)(base:Heap)(k:Nat)(ps:List Str)(hX:X.prog=P/\X.w=w/\X.K=K/\X.mg=mg/\X.base=base)(hf:PE X fe tf)(hr:Room k X.A)(ha:PA X (e::es) t)
  (ht:eval (.Call fe (e::es) [] pos) X.env=(do
   let f<-eval fe X.env
   callWith pos f [] (backTo pos (starEach (e::es) X.env)) (backToKw pos (keywordEach [] X.env))))
  (he:starEach (e::es) X.env=(false,eval e X.env)::starEach es X.env:=by rfl) (hpl:(backTo pos (starEach es X.env)).any (·.1)=false:=by rfl):
  PE X (.Call fe (e::es) [] pos) (fun σ H Q=>tf σ H fun v H1=>∃f sp,v=.ref f/\Adf P w K mg base k f ps sp/\tCall sp [] E0 t σ H1 Q):=by
 obtain⟨rfl,rfl,rfl,rfl,rfl⟩ :=hX;intro pins s σ H Q I h;rw[ht];refine wpAny_bind (thn (hf pins s σ H _ I h) fun v s1 ⟨x,H1,I1,r1,f,sp,ex,ad,q⟩ =>?_);subst ex;cases r1;obtain⟨fd,hk,hb,F⟩ :=ad.ex;refine PySem.W.callWith_K (h₀:=X.base) I1.ok.mod.kin hk (thn (ha pos pins s1 σ H1 _ I1 q) fun us s2 ⟨vs,H2,I2,r,q2⟩ => ⟨I2.kIn,?_⟩) he hpl;exact Tv F hr hb .nil pass0 I2 r q2
end
section
variable {P:Program}{w:World}{K:PySem.W.Frag}{mg:Str->Option Value}{base:Heap}{C D:Addr}
abbrev R5:Stmt:=top 120
theorem Z2:FnScope ["drought","call","numbers","row"] ["drought","call","numbers","row"] (defScope R5):=fS
end
theorem fQ(cs:List Nat):sumQ (cQ cs)=Vbirad.whole ((cs.sum:Nat):Int):=by
 have:=R9 (cs.map fun(n:Nat)=>(n:Int));rw[vX]at this;have e:(cs.map fun(n:Nat)=>(n:Int)).sum=((cs.sum:Nat):Int):=by
  clear this
  induction cs with
  |nil=>rfl
  |cons c cs ih=>rw[vV,List.sum_cons,List.sum_cons,ih];omega
 rw[e]at this;exact this
theorem Gm{ps:List Party}{i:Nat}{pt:Party}{r:Nat}{ms:List Nat}(e:ps[i]? =some pt)(hk:pt.kind=.group r ms):ruleOf ps i=r/\membersOf ps i=ms/\rul pt=r/\mem pt=ms:=by
 unfold ruleOf membersOf rul mem;rw[Fe e,hk];exact⟨rfl,rfl,rfl,rfl⟩
theorem Xt{ps:List Party}(wf:PWf ps)(e:Nat){i:Nat}{pt:Party}(ep:ps[i]? =some pt)(hm:mem pt≠[]):proofOf ps e i=if rul pt=1∨rul pt=2∨rul pt=3 then
  some (lvlQ (rul pt) (shareOf ps e i) (clm ps pt) (wts ps pt),kindQ (rul pt) (shareOf ps e i) (clm ps pt))else none:=by
 obtain⟨r,ms,hk⟩ :∃r ms,pt.kind=.group r ms:=by
  cases hk:pt.kind with
  |person c=>exact absurd (by unfold mem;rw[hk]) hm
  |group r ms=>exact⟨r,ms,rfl⟩
 obtain⟨h1,h2,h3,h4⟩ :=Gm ep hk;have hcl:claimsIn ps ms=cQ (clm ps pt):=by rw[Ef];unfold clm;rw[h4]
 have hwt:weightsIn ps ms=wts ps pt:=by unfold wts;rw[h4]
 have hpos:Sz 750 (shareOf ps e i):=(Bq wf e i).sz (by decide);unfold proofOf;dsimp only;rw[h1,h2,h3,hcl,hwt,Yl,fQ,Uo _ hpos.pos];by_cases r1:r=1
 ·subst r1;rw[if_pos rfl,if_pos (.inl rfl)];rfl
 rw[if_neg r1];by_cases r2:r=2
 ·subst r2;rw[if_pos rfl,if_pos (.inr (.inl rfl))];have hk2:kindQ 2 (shareOf ps e i) (clm ps pt)=1:=by unfold kindQ;rw[if_neg (by decide),if_neg (by rintro ⟨z,_⟩;cases z)]
  unfold lvlQ sprQ;rw[hk2];rfl
 rw[if_neg r2];by_cases r3:r=3
 ·subst r3;rw[if_pos (show(3:Nat)=3 from rfl),if_pos (show(3:Nat)=1∨(3:Nat)=2∨(3:Nat)=3 from .inr (.inr rfl))];by_cases hle:Vbirad.le (Vbirad.mul (shareOf ps e i) (Vbirad.whole 2)) (Vbirad.whole (((clm ps pt).sum:Nat):Int))=true
  ·have hk2:kindQ 3 (shareOf ps e i) (clm ps pt)=0:=by unfold kindQ;rw[if_neg (by decide),if_pos ⟨rfl,hle⟩]
   rw[if_pos hle];unfold lvlQ sprQ;rw[hk2];rfl
  ·have hk2:kindQ 3 (shareOf ps e i) (clm ps pt)=1:=by unfold kindQ;rw[if_neg (by decide),if_neg (fun z=>hle z.2)]
   rw[if_neg hle];unfold lvlQ sprQ;rw[hk2];rfl
 rw[if_neg r3,if_neg (by rintro (z|z|z)<;>contradiction)]
section
variable {P:Program}{w:World}{K:PySem.W.Frag}{mg:Str->Option Value}{base:Heap}{C D:Addr}
abbrev G9:Stmt:=top 108
theorem Gz:FnScope ["drought","numbers","row","proof"] ["drought","numbers","row"] (defScope G9):=fS
theorem Nj(F:FunN K mg "answer_proof" G9)(T:Blt mg)(S:Shc mg)(Y:Pty K mg C)(Z:Drg K mg D)(wD:Mdf P w K mg base D 2 "has_group" ["self","number"] (spDr D C isGroup))(uW:Df P w K mg base 1 "has_level" ["rule"] spHasLevel)
  (uI:Df P w K mg base 11 "group_proof" ["parties","water","group"] (spGProof K C)):
  Df P w K mg base 12 "answer_proof" ["drought","numbers","row"] (spAns K D C 1 fun ns _=>.proof (ns.getD 0 0)):=by
 refine Df.of F Gz (fun vs H Q E h=>?_) (fun f cdv A outer s H vs Q E hr h=>?_)
 ·obtain⟨h,a,ns,row,nv,rv,rfl,_⟩ :=h;rfl
 ·obtain⟨h,a,ns,row,_,rv,rfl,dr,hne,⟨p,xs,rfl,hl,hi⟩,hn,_,_,k⟩ :=h;obtain rfl:=C3 hi;obtain⟨i,rfl⟩ :=Pl hn;refine⟨_,Ac (A1 (Bf (Bk (pm1 wD (pv 0) Z.cl hr (Aa (Ai Ag (pv 1) (Af)) Ab))))
    (Ad (Ah (Av (Aa (pgc S.OUT_OF_RANGE) Ab))))
    (Aq))
   (Ac (A1 (Bf (Bk (pd uW hr (Aa (Ap (Ai Ag (Ap (pv 0) rfl) (Ai Ag (pv 1) (Af))) rfl) Ab))))
    (Ad (Ah (Av (Aa (pgc S.OTHER_RULE) Ab))))
    (Aq))
   (Ac (Aj (i:=3) Gz.nd rfl (Or.inl rfl) (pd uI hr (Aa (Ap (pv 0) rfl) (Aa (Ap (pv 0) rfl) (Aa (Ai Ag (pv 1) (Af)) Ab)))))
   (Ad (Ah (Az Cf (Av (Aa (pgc S.DONE) (Aa (Ai Bc (pv 3) (Af)) Ab))) (Cl Ce (by rfl) T.list boot_list (Aa (Ai Bc (pv 3) (Af)) Ab))))))),?_⟩
  have k:RetS D C H a (if isGroup h.parties i=false then(h,[-1])else(match proofOf h.parties h.water i.toNat with
    |none=>(h,[-4])
    |some x=>(h,0::(x.2:Int)::qRow x.1))) Q:=by
   have:=k;rw[show Vbirad.step h (.proof (([i]:List Int).getD 0 0))=onSharing h fun ps=>if isGroup ps i=false then(h,[-1])else(match proofOf ps h.water i.toNat with
    |none=>(h,[-4])
    |some x=>(h,0::(x.2:Int)::qRow x.1)) from rfl,onSh hne]at this
   exact this
  have hat0:atI ([i].map V.int) (0:Int)=some (.int i):=A4 (j:=0) rfl;have dr0:=dr;obtain⟨⟨dx,l,h1,h2⟩,wf⟩ :=dr;refine⟨_,rfl,a,dx,_,rfl,h1,Ls,_,rfl,p,_,_,_,rfl,rfl,hl,hat0,h,a,i,rfl,dr0,?_⟩;rintro _ H2 s2 rfl;refine⟨_,rfl,?_⟩;refine iteB (fun c1=>?_) (fun c1=>?_)
  ·have c1:isGroup h.parties i=false:=by simpa using c1
   rw[if_pos c1]at k;exact⟨by show 1<=sizeLine;decide,ret1 (.of s2) (dr0.keep s2) k⟩
  have c1:isGroup h.parties i=true:=by simpa using c1
  rw[if_neg (by rw[c1];simp)]at k;obtain⟨j,pt,rfl,ep⟩ :=Bw c1;have hmem:mem pt≠[]:=by
   have:=E1 wf ep;rw[c1]at this;intro z;rw[z]at this;cases this
  rw[vM,Xt wf h.water ep hmem]at k;obtain⟨as,g1,g2,g3⟩ :=(h2.keep s2).ex;obtain⟨x,hx,b,rfl,dy,pm,nm,q1,q2,q3⟩ :=(ptsIts (C:=C) g2).get ep;refine⟨_,rfl,a,D,dx,_,_,rfl,s2 _ _ h1,Z.cl,Z.nParties,Au,_,rfl,p,_,_,_,rfl,rfl,s2.seq hl,hat0,l,_,_,_,rfl,rfl,SqL.of g1,atN hx,b,C,dy,_,_,rfl,q1,Y.cl,Y.nRule,Ji,rul pt,rfl,?_⟩;rintro _ H3 s3 rfl;have s23:=s2.trans s3;refine⟨_,rfl,?_⟩;refine iteB (fun c2=>?_) (fun c2=>?_)
  ·have c2:¬(rul pt=1∨rul pt=2∨rul pt=3):=of_decide_eq_false (by simpa only [Bool.not_eq_true']using c2);rw[if_neg c2]at k;exact⟨by show 1<=sizeLine;decide,ret1 (.of s23) (dr0.keep s23) k⟩
  have c2:rul pt=1∨rul pt=2∨rul pt=3:=of_decide_eq_true (by simpa only [Bool.not_eq_false']using c2);rw[if_pos c2]at k;refine⟨_,rfl,a,D,dx,_,_,rfl,s23 _ _ h1,Z.cl,Z.nParties,Au,_,rfl,a,D,dx,_,_,rfl,s23 _ _ h1,Z.cl,Z.nWater,Cq,_,rfl,p,_,_,_,rfl,rfl,s23.seq hl,hat0,h.parties,h.water,j,pt,_,rfl,(h2.keep s23).lst,wf,ep,hmem,?_⟩;rintro _ H4 s4 ⟨pp,u1,u2,rfl,hpp,r1,pf,rfl,hpf⟩;obtain rfl:u1=V.int ((kindQ (rul pt) (shareOf h.parties h.water j) (clm h.parties pt):Nat):Int):=r1;have s24:=s23.trans s4;generalize hkq:kindQ (rul pt) (shareOf h.parties h.water j) (clm h.parties pt)=kq at *;generalize hlq:lvlQ (rul pt) (shareOf h.parties h.water j) (clm h.parties pt) (wts h.parties pt)=lq at *;have hp0:atI [V.int (kq:Int),V.ref pf] (0:Int)=some (.int (kq:Int)):=A4 (j:=0) rfl;have hp1:atI [V.int (kq:Int),V.ref pf] (1:Int)=some (.ref pf):=A4 (j:=1) rfl;refine⟨_,rfl,pp,_,_,_,rfl,rfl,hpp,hp0,by show 2<=sizeLine;decide,fun q hq=>?_⟩;have s5:Same H4 (upd H4 q (.lst [.int 0,.int (kq:Int)])):=Same.upd hq;have hq1:(upd H4 q (.lst [.int 0,.int (kq:Int)])) q=some (.lst [.int 0,.int (kq:Int)]):=Ae;generalize upd H4 q (.lst [.int 0,.int (kq:Int)])=H5 at s5 hq1;have hpf':SqT K H4 pf [.int lq.n,.int (lq.d:Int)]:=hpf;refine⟨_,rfl,pp,_,_,_,rfl,rfl,s5.seqT hpp,hp1,pf,_,rfl,.inr (s5.seqT hpf'),fun l2 hl2=>?_⟩;have s6:=(s24.trans s5).updT (o:=.lst [.int lq.n,.int (lq.d:Int)]) hl2;have hql:q≠l2:=Al hq1 hl2;refine⟨q,l2,_,_,rfl,rfl,(by rw[Ak hql];exact hq1),Ae,by show 4<=sizeLine;decide,fun T2 hT2=>?_⟩;have sT:=s6.updT (o:=.lst ([.int 0,.int (kq:Int)]++[.int lq.n,.int (lq.d:Int)])) hT2;exact k _ _ (.of sT) (dr0.keep sT) ⟨T2,_,rfl,Ae,C2 (0::(kq:Int)::qRow lq)⟩
end
theorem Mo{ps:List Party}(wf:PWf ps){i:Nat}{pt:Party}(ep:ps[i]? =some pt)(hg:isGroup ps (i:Int)=true)(j:Int):isMember ps (i:Int) j=inV (.int j) (mV pt):=by
 have hm:mem pt≠[]:=by
  have:=E1 wf ep;rw[hg]at this;intro z;rw[z]at this;cases this
 obtain⟨r,ms,hk⟩ :∃r ms,pt.kind=.group r ms:=by
  cases hk:pt.kind with
  |person c=>exact absurd (by unfold mem;rw[hk]) hm
  |group r ms=>exact⟨r,ms,rfl⟩
 obtain⟨_,h2,_,h4⟩ :=Gm ep hk;unfold isMember inV mV;rw[hg,Bool.true_and,Int.toNat_natCast,h2,h4,List.any_map,Bool.eq_iff_iff,Bool.and_eq_true,List.contains_iff_mem,List.any_eq_true];constructor
 ·rintro ⟨a,b⟩;obtain⟨k,q,rfl,_⟩ :=Ba.mp a;exact⟨k,by simpa using b,by show((k:Int) == (k:Int))=true;simp⟩
 ·rintro ⟨k,hk2,e⟩;have e:((k:Int) == j)=true:=e;rw[beq_iff_eq]at e;subst e;have hlt:k < ps.length:=E2 wf ep k (by rw[h4];exact hk2);exact⟨Ba.mpr ⟨k,ps[k],rfl,List.getElem?_eq_getElem hlt⟩,by simpa using hk2⟩
theorem casts{row:List Int}(h:∀j∈row,0<=j):(row.map Int.toNat).map (fun(n:Nat)=>(n:Int))=row:=by
 rw[vX]
 conv=>rhs;rw[<-List.map_id row]
 refine vY fun j hj=>?_;have:=h j hj;show((j.toNat:Nat):Int)=j;omega
theorem S5(p:Party):(mV p).all flatV=true:=Oa
section
variable {P:Program}{w:World}{K:PySem.W.Frag}{mg:Str->Option Value}{base:Heap}{C D:Addr}
abbrev Iu:Stmt:=top 109
theorem B8:FnScope ["drought","numbers","row","group","sure","got","number"] ["drought","numbers","row"] (defScope Iu):=fS
theorem Pf(F:FunN K mg "answer_sure" Iu)(T:Blt mg)(S:Shc mg)(Y:Pty K mg C)(Z:Drg K mg D)(wD:Mdf P w K mg base D 2 "has_group" ["self","number"] (spDr D C isGroup))(uX:Df P w K mg base 1 "is_rising" ["numbers"] (spRising K))
  (yJ:Df P w K mg base 11 "sure_of" ["parties","water","group","some"] (spSure K C)) (uD:Df P w K mg base 11 "got_together" ["parties","water","some"] (spGot K C)) (w9:Df P w K mg base 1 "flat" ["ratios"] (spFlat K)):
  Df P w K mg base 12 "answer_sure" ["drought","numbers","row"] (spAns K D C 1 fun ns row=>.sure (ns.getD 0 0) row):=by
 refine Df.of F B8 (fun vs H Q E h=>?_) (fun f cdv A outer s H vs Q E hr h=>?_)
 ·obtain⟨h,a,ns,row,nv,rv,rfl,_⟩ :=h;rfl
 ·obtain⟨h,a,ns,row,_,rv,rfl,dr,hne,⟨p,xs,rfl,hl,hi⟩,hn,lr,h8,k⟩ :=h;obtain rfl:=C3 hi;obtain⟨i,rfl⟩ :=Pl hn;refine⟨_,Ac (A1 (PW.pt (Dv (Bf (Bk (pm1 wD (pv 0) Z.cl hr (Aa (Ai Ag (pv 1) (Af)) Ab)))) (C8 (Bf (Bk (pd uX hr (Aa (pv 2) Ab)))))))
    (Ad (Ah (Av (Aa (pgc S.OUT_OF_RANGE) Ab))))
    (Aq))
   (Ac (Aj (i:=3) B8.nd rfl (Or.inr rfl) (Ai Ag (Ap (pv 0) rfl) (Ai Ag (pv 1) (Af))))
   (Ac (A1 (Bf (Bk (Ao (Sl rfl) (by rfl) T.all boot_all (Aa (Co (own:=[("number",6)]) rfl B8.nd (A0 (pv 2)) (Ax (by rfl)) (fun _ _ _ _ _=>Am (i:=6) B8.nd rfl (Or.inl rfl)) (fun _ _ _ _ _=>A6) (fun _ _ _ _ _=>D9 (Pp (K:=K) rfl) (pv 6) (Kx (K:=K) rfl (pv 3) rfl) (by with_unfolding_all rfl))) Ab))))
    (Ad (Ah (Av (Aa (pgc S.OUT_OF_RANGE) Ab))))
    (Aq))
   (Ac (Aj (i:=4) B8.nd rfl (Or.inl rfl) (pd yJ hr (Aa (Ap (pv 0) rfl) (Aa (Ap (pv 0) rfl) (Aa (Ai Ag (pv 1) (Af)) (Aa (pv 2) Ab))))))
   (Ac (Aj (i:=5) B8.nd rfl (Or.inl rfl) (pd uD hr (Aa (Ap (pv 0) rfl) (Aa (Ap (pv 0) rfl) (Aa (pv 2) Ab)))))
   (Ad (Ah (Az Cf (Av (Aa (pgc S.DONE) Ab)) (pd w9 hr (Aa (Av (Aa (pv 4) (Aa (pv 5) Ab))) Ab))))))))),?_⟩
  have k:RetS D C H a (if (isGroup h.parties i&&(risen row&&row.all fun j=>isMember h.parties i j))=false then(h,[-1])else
    (h,0::(qRow (Vbirad.sure h.parties h.water i.toNat (row.map Int.toNat))++qRow (sumQ (row.map fun j=>shareOf h.parties h.water j.toNat))))) Q:=by
   have:=k;rw[show Vbirad.step h (.sure (([i]:List Int).getD 0 0) row)=onSharing h fun ps=>if (isGroup ps i&&(risen row&&row.all fun j=>isMember ps i j))=false then(h,[-1])else
    (h,0::(qRow (Vbirad.sure ps h.water i.toNat (row.map Int.toNat))++qRow (sumQ (row.map fun j=>shareOf ps h.water j.toNat)))) from rfl,onSh hne]at this
   exact this
  have hat0:atI ([i].map V.int) (0:Int)=some (.int i):=A4 (j:=0) rfl;have dr0:=dr;obtain⟨⟨dx,l,h1,h2⟩,wf⟩ :=dr;refine⟨_,rfl,a,dx,_,rfl,h1,Ls,_,rfl,p,_,_,_,rfl,rfl,hl,hat0,h,a,i,rfl,dr0,?_⟩;rintro _ H2 s2 rfl;refine⟨_,rfl,?_⟩;refine iteB (fun c1=>?_) (fun c1=>?_)
  ·have c1:isGroup h.parties i=false:=by simpa using c1
   rw[if_pos (by rw[c1];rfl)]at k;exact iteTr rfl ⟨by show 1<=sizeLine;decide,ret1 (.of s2) (dr0.keep s2) k⟩
  have c1:isGroup h.parties i=true:=by simpa using c1
  refine⟨_,rfl,row,rv,rfl,Lst.keep Sq.stay _ _ _ _ s2 lr,h8,?_⟩;rintro _ H3 s3 rfl;have s23:=s2.trans s3;refine⟨_,rfl,?_⟩;refine iteB (fun c2=>?_) (fun c2=>?_)
  ·have c2:risen row=false:=by simpa using c2
   rw[if_pos (by rw[c1,c2];rfl)]at k;exact⟨by show 1<=sizeLine;decide,ret1 (.of s23) (dr0.keep s23) k⟩
  have c2:risen row=true:=by simpa using c2
  obtain⟨j,pt,rfl,ep⟩ :=Bw c1;obtain⟨as,g1,g2,g3⟩ :=(h2.keep s23).ex;obtain⟨x,hx,b,rfl,dy,pm,nm,q1,q2,q3⟩ :=(ptsIts (C:=C) g2).get ep;obtain⟨pr,xr,rfl,hlr,hir⟩ :=lr;obtain rfl:=C3 hir;refine⟨_,rfl,a,D,dx,_,_,rfl,s23 _ _ h1,Z.cl,Z.nParties,Au,_,rfl,p,_,_,_,rfl,rfl,s23.seq hl,hat0,l,_,_,_,rfl,rfl,SqL.of g1,atN hx,?_⟩;have WS:Seqs (Itl K pr) (Same H3) row IsI:=As (xs:=row.map V.int) fun H' sm=> ⟨(s23.trans sm).seq hlr,C2 _⟩;refine⟨_,rfl,pr,rfl,⟨_,s23.seq hlr⟩,Bx (as:=row) (R:=IsI) (S:=IsB) (fun j2=>inV (.int j2) (mV pt)) So WS (vO h8 (by decide)) (fun j2 x H' Qe hm sm' rx kk=>?_) (fun _ _ _ _ h q=>A2 h q) (fun D2 zs H4 s4 hD o=>?_)⟩
  ·obtain rfl:x=V.int j2:=rx;exact⟨rfl,_,rfl,_,rfl,b,C,dy,_,_,rfl,sm' _ _ q1,Y.cl,Y.nMembers,Bj,pm,_,rfl,.inl (sm'.seq (SqL.of q3)),rfl,S5 _,kk _ _ (Same.refl _) rfl⟩
  have e:=Ut o;subst e;have s24:=s23.trans s4;have hall:(row.map fun j2=>inV (.int j2) (mV pt)).all id=row.all fun j2=>isMember h.parties (j:Int) j2:=by
   rw[List.all_map];congr 1;funext j2;exact(Mo wf ep c1 j2).symm
  refine⟨D2,_,rfl,SqL.of hD,_,rfl,?_⟩;rw[hall];refine iteB (fun c3=>?_) (fun c3=>?_)
  ·have c3:(row.all fun j2=>isMember h.parties (j:Int) j2)=false:=by simpa only [Bool.not_eq_true']using c3
   rw[if_pos (by rw[c1,c2,c3];rfl)]at k;exact⟨by show 1<=sizeLine;decide,ret1 (.of s24) (dr0.keep s24) k⟩
  have c3:(row.all fun j2=>isMember h.parties (j:Int) j2)=true:=by simpa only [Bool.not_eq_false']using c3
  rw[if_neg (by rw[c1,c2,c3];simp),Int.toNat_natCast]at k;have hpar:∀j2∈row,0<=j2/\j2.toNat < h.parties.length:=fun j2 hj=>by
   have:=List.all_eq_true.mp c3 j2 hj;unfold isMember at this;rw[Bool.and_eq_true,Bool.and_eq_true]at this;obtain⟨m,q,rfl,eq⟩ :=Ba.mp this.2.1;exact⟨by omega,by rw[Int.toNat_natCast];exact(List.getElem?_eq_some_iff.mp eq).1⟩
  have hcast:=casts fun j2 hj=>(hpar j2 hj).1;have lN:∀H',Same H H'->Lst K IsN (row.map Int.toNat) (.ref pr) H':=fun H' sm=> ⟨pr,_,rfl,sm.seq hlr,by
   have:Its IsN H' (row.map Int.toNat) ((row.map Int.toNat).map fun(m:Nat)=>V.int (m:Int)):=Ya _;rw[show((row.map Int.toNat).map fun(m:Nat)=>V.int (m:Int))=row.map V.int from by
    conv=>rhs;rw[<-hcast]
    rw[vX,vX,vX];rfl]at this
   exact this⟩
  refine⟨_,rfl,a,D,dx,_,_,rfl,s24 _ _ h1,Z.cl,Z.nParties,Au,_,rfl,a,D,dx,_,_,rfl,s24 _ _ h1,Z.cl,Z.nWater,Cq,_,rfl,p,_,_,_,rfl,rfl,s24.seq hl,hat0,_,rfl,h.parties,h.water,j,pt,row.map Int.toNat,_,_,rfl,(h2.keep s24).lst,wf,ep,lN _ s24,?_⟩;intro v1 H5 s5 f5;have s25:=s24.trans s5;refine⟨_,rfl,a,D,dx,_,_,rfl,s25 _ _ h1,Z.cl,Z.nParties,Au,_,rfl,a,D,dx,_,_,rfl,s25 _ _ h1,Z.cl,Z.nWater,Cq,_,rfl,h.parties,h.water,row.map Int.toNat,_,_,rfl,(h2.keep s25).lst,wf,hne,lN _ s25,by rw[vB];exact h8,fun m hm=>?_,?_⟩
  ·obtain⟨j2,hj,rfl⟩ :=vL hm;exact(hpar j2 hj).2
  intro v2 H6 s6 f6;have s26:=s25.trans s6;refine⟨by show 1<=sizeLine;decide,fun q hq=>?_⟩;have s7:Same H6 (upd H6 q (.lst [.int 0])):=Same.upd hq;have hq1:(upd H6 q (.lst [.int 0])) q=some (.lst [.int 0]):=Ae;generalize upd H6 q (.lst [.int 0])=H7 at s7 hq1;refine⟨_,rfl,_,rfl,by show 2<=sizeLine;decide,fun l2 hl2=>?_⟩;have s8:Same H7 (upd H7 l2 (.lst [v1,v2])):=Same.upd hl2;refine⟨[_,_],.ref l2,rfl,⟨l2,_,rfl,SqL.of Ae,.cons (((f5.keep s6).keep s7).keep s8) (.cons ((f6.keep s7).keep s8) .nil)⟩,by show 2<=10000;decide,?_⟩;rintro _ H9 s9 ⟨pf,zs,rfl,hpf,izs⟩;obtain rfl:=C3 izs;have s79:=s8.trans s9;refine⟨q,pf,_,_,rfl,rfl,s79 _ _ hq1,hpf,by show 5<=sizeLine;decide,fun T2 hT2=>?_⟩;have sT:=((s26.trans s7).trans s79).updT (o:=.lst ([.int 0]++(([Vbirad.most (Vbirad.whole 0) (Vbirad.sub (shareOf h.parties h.water j) (Vbirad.whole (((((mem pt).filter fun j=>!(row.map Int.toNat).contains j).map (Vbirad.claim h.parties)).sum:Nat):Int))),sumQ ((row.map Int.toNat).map (shareOf h.parties h.water))]:List Vbirad.Q).flatMap qRow).map V.int)) hT2;refine k _ _ (.of sT) (dr0.keep sT) ⟨T2,_,rfl,Ae,?_⟩;have e1:Vbirad.sure h.parties h.water j (row.map Int.toNat)=Vbirad.most (Vbirad.whole 0) (Vbirad.sub (shareOf h.parties h.water j) (Vbirad.whole (((((mem pt).filter fun j=>!(row.map Int.toNat).contains j).map (Vbirad.claim h.parties)).sum:Nat):Int))):=by
   unfold Vbirad.sure;dsimp only;rw[Ef,I0];have:membersOf h.parties j=mem pt:=by
    unfold membersOf mem;rw[Fe ep];cases pt.kind<;>rfl
   rw[this]
  have e2:sumQ (row.map fun j=>shareOf h.parties h.water j.toNat)=sumQ ((row.map Int.toNat).map (shareOf h.parties h.water)):=by
   rw[vX];rfl
  rw[e1,e2];exact C2 _
theorem bA{H H5:Hp}{a q pf:Addr}{h:House}{x:Q}{Qk:VK}(sm:Same H H5)(hq:H5 q=some (.lst [.int 0]))(dr:DrAt D C h a H)(k:RetS D C H a (h,0::qRow x) Qk):
  ∀l2,H5 l2=none->rCat (.ref q) (.ref l2) (upd H5 l2 (.lst [.int x.n,.int (x.d:Int)])) Qk:=fun l2 hl2=>by
 have s4:=sm.updT (o:=.lst [.int x.n,.int (x.d:Int)]) hl2;have hql:q≠l2:=Al hq hl2;refine⟨q,l2,_,_,rfl,rfl,(by rw[Ak hql];exact hq),Ae,by show 3<=sizeLine;decide,fun T hT=>?_⟩;have sT:=s4.updT (o:=.lst ([.int 0]++[.int x.n,.int (x.d:Int)])) hT;exact k _ _ (.of sT) (dr.keep sT) ⟨T,_,rfl,Ae,C2 (0::qRow x)⟩
abbrev E9:Stmt:=top 113
theorem Kb:FnScope ["drought","numbers","row"] ["drought","numbers","row"] (defScope E9):=fS
theorem J6(F:FunN K mg "answer_if_water" E9)(T:Blt mg)(S:Shc mg)(Z:Drg K mg D)(wG:Mdf P w K mg base D 1 "has_party" ["self","number"] (spDr D C isParty))(wA:Df P w K mg base 10 "all_shares" ["parties","water"] (spShares K C)):
  Df P w K mg base 11 "answer_if_water" ["drought","numbers","row"] (spAns K D C 2 fun ns _=>.ifWater (ns.getD 0 0) (ns.getD 1 0)):=by
 refine Df.of F Kb (fun vs H Q E h=>?_) (fun f cdv A outer s H vs Q E hr h=>?_)
 ·obtain⟨h,a,ns,row,nv,rv,rfl,_⟩ :=h;rfl
 ·obtain⟨h,a,ns,row,_,rv,rfl,dr,hne,⟨p,xs,rfl,hl,hi⟩,hn,_,_,k⟩ :=h;obtain rfl:=C3 hi;obtain⟨i,c,rfl⟩ :=Mg hn;refine⟨_,Ac (A1 (PW.pt (Dv (Bf (Bk (pm1 wG (pv 0) Z.cl hr (Aa (Ai Ag (pv 1) (Af)) Ab)))) (C8 (Bf (Ct C4 C4 (Af) (Ai Ag (pv 1) (Af)) (pgc S.MOST_WATER))))))
    (Ad (Ah (Av (Aa (pgc S.OUT_OF_RANGE) Ab))))
    (Aq))
   (Ad (Ah (Az Cf (Av (Aa (pgc S.DONE) Ab)) (Cl Ce (by rfl) T.list boot_list (Aa (Ai Ag (pd wA hr (Aa (Ap (pv 0) rfl) (Aa (Ai Ag (pv 1) (Af)) Ab))) (Ai Ag (pv 1) (Af))) Ab))))),?_⟩
  have k:RetS D C H a (if (isParty h.parties i&&Vbirad.within c 0 WATER)=false then(h,[-1])else(h,0::qRow (shareOf h.parties c.toNat i.toNat))) Q:=by
   have:=k;rw[show Vbirad.step h (.ifWater (([i,c]:List Int).getD 0 0) (([i,c]:List Int).getD 1 0))=onSharing h fun ps=>if (isParty ps i&&Vbirad.within c 0 WATER)=false then(h,[-1])else(h,0::qRow (shareOf ps c.toNat i.toNat)) from rfl,onSh hne]at this;exact this
  have hbad:∀H1,Same H H1->(isParty h.parties i&&Vbirad.within c 0 WATER)=false->∀q,H1 q=none->Q (.ref q) (upd H1 q (.lst [.int (-1)])):=fun H1 sm z=>by
   rw[if_pos z]at k;exact ret1 (.of sm) (dr.keep sm) k
  have hat0:atI ([i,c].map V.int) (0:Int)=some (.int i):=A4 (j:=0) rfl;have hat1:atI ([i,c].map V.int) (1:Int)=some (.int c):=A4 (j:=1) rfl;have dr0:=dr;obtain⟨⟨dx,l,h1,h2⟩,wf⟩ :=dr;refine⟨_,rfl,a,dx,_,rfl,h1,Op,_,rfl,p,_,_,_,rfl,rfl,hl,hat0,h,a,i,rfl,dr0,?_⟩;rintro _ H2 s2 rfl;refine⟨_,rfl,?_⟩;refine iteB (fun c1=>?_) (fun c1=>?_)
  ·have c1:isParty h.parties i=false:=by simpa using c1
   exact iteTr rfl ⟨by show 1<=sizeLine;decide,hbad _ s2 (by rw[c1];rfl)⟩
  have c1:isParty h.parties i=true:=by simpa using c1
  refine⟨_,rfl,p,_,_,_,rfl,rfl,s2.seq hl,hat1,_,_,rfl,rfl,_,rfl,?_⟩;have hw:¬(0<=c/\c<=30000000)->(isParty h.parties i&&Vbirad.within c 0 WATER)=false:=fun z=>by
   rw[c1,Bool.true_and];cases hq:Vbirad.within c 0 WATER with
   |false=>rfl
   |true=>exact absurd (Bl.mp hq) z
  refine iteB (fun c2=>?_) (fun c2=>?_)
  ·have c2:=vG c2;refine⟨_,_,rfl,rfl,_,rfl,?_⟩;refine iteB (fun c3=>?_) (fun c3=>?_)
   ·have c3:=of_decide_eq_false (by simpa using c3:decide (c<=30000000)=false);exact⟨by show 1<=sizeLine;decide,hbad _ s2 (hw fun z=>c3 z.2)⟩
   ·have c3:=of_decide_eq_true (by simpa using c3:decide (c<=30000000)=true);rw[if_neg (by rw[c1,show Vbirad.within c 0 WATER=true from Bl.mpr ⟨c2,c3⟩];simp)]at k;obtain⟨j,pt,rfl,ep⟩ :=Ba.mp c1;rw[Int.toNat_natCast]at k;obtain⟨m,rfl⟩ :∃m:Nat,c=(m:Int):= ⟨c.toNat,by omega⟩;rw[Int.toNat_natCast]at k;refine⟨by show 1<=sizeLine;decide,fun q hq=>?_⟩;have s1:Same H (upd H2 q (.lst [.int 0])):=s2.updT hq;have hq1:(upd H2 q (.lst [.int 0])) q=some (.lst [.int 0]):=Ae;generalize upd H2 q (.lst [.int 0])=H1 at s1 hq1;refine⟨_,rfl,a,D,dx,_,_,rfl,s1 _ _ h1,Z.cl,Z.nParties,Au,_,rfl,p,_,_,_,rfl,rfl,s1.seq hl,hat1,h.parties,m,_,rfl,(h2.keep s1).lst,wf,hne,?_⟩;rintro ps H3 s3 _ ⟨_,ys,hpp,hps,iys⟩;obtain rfl:=V.ref.inj hpp;obtain⟨ve,hve,pf,rfl,hpf⟩ :=iys.get (Bg wf m (List.getElem?_eq_some_iff.mp ep).1);have s13:=s1.trans s3;exact⟨_,rfl,p,_,_,_,rfl,rfl,s13.seq hl,hat0,ps,_,_,_,rfl,rfl,SqL.of hps,atN hve,pf,_,rfl,.inr hpf,bA (pf:=pf) s13 (s3 _ _ hq1) dr0 k⟩
  ·have c2:=vH c2;exact⟨_,rfl,iteTr rfl ⟨by show 1<=sizeLine;decide,hbad _ s2 (hw fun z=>c2 z.1)⟩⟩
theorem Qr(ps:List Party)(i n f lo hi:Nat)(h:lo < hi):leastFor ps i n (f + 1) lo hi=if Vbirad.le (Vbirad.whole (n:Int)) (shareOf ps ((lo + hi) / 2) i)=true then leastFor ps i n f lo ((lo + hi) / 2)else leastFor ps i n f ((lo + hi) / 2 + 1) hi:=by
 show(if hi<=lo then hi else _)=_;rw[if_neg (by omega)]
theorem S0(ps:List Party)(i n f lo:Nat):leastFor ps i n f lo lo=lo:=by
 cases f with
 |zero=>rfl
 |succ f=>
  show(if lo<=lo then lo else _)=_;rw[if_pos (Nat.le_refl _)]
inductive spLeastW(K:PySem.W.Frag)(C:Addr)(vs:List V)(H:Hp)(Q:VK)(_e3:XK):Prop|m:∀(ps:List Party) (i n:Nat) (v:V),vs= [v,.int (i:Int),.int (n:Int)]->Lst K (PtR C) ps v H->PWf ps->i < ps.length->n<=30000000->Ret H (IsN (leastFor ps i n 26 0 (Vbirad.claim ps (ps.length - 1)))) Q->spLeastW K C vs H Q _e3
abbrev Iw:Stmt:=top 84
theorem Ca:FnScope ["parties","number","wanted","lowest","highest","middle"] ["parties","number","wanted"] (defScope Iw):=fS
end
theorem Mi{ps:List Party}(hne:ps≠[]){xs:List V}{H:Hp}(i:Its IsN H (claimL ps) xs):atI xs (-1)=some (.int ((Vbirad.claim ps (ps.length - 1):Nat):Int)):=by
 have hl:=i.len;have n0:ps.length≠0:=fun z=>hne (List.eq_nil_of_length_eq_zero z);have e:(claimL ps).length=ps.length:=by unfold claimL;simp
 rw[aK (by omega),<-hl,e];obtain⟨v,hv,r⟩ :=i.get (Bs (ps:=ps) (i:=ps.length - 1) (by omega));rw[hv];exact congrArg some r
section
variable {P:Program}{w:World}{K:PySem.W.Frag}{mg:Str->Option Value}{base:Heap}{C D:Addr}
theorem Ph(F:FunN K mg "least_water" Iw)(wB:Df P w K mg base 2 "all_claims" ["parties"] (spClaims K C))(wL:Df P w K mg base 1 "at_most" ["left","right"] (sp2L K fun a b=>IsB (Vbirad.le a b)))(wC:Df P w K mg base 1 "whole" ["number"] (spWhole K))
  (wA:Df P w K mg base 10 "all_shares" ["parties","water"] (spShares K C)):Df P w K mg base 11 "least_water" ["parties","number","wanted"] (spLeastW K C):=by
 refine Df.of F Ca (fun vs H Q E h=>?_) (fun f cdv A outer s H vs Q E hr h=>?_)
 ·obtain⟨ps,i,n,v,rfl,_⟩ :=h;rfl
 ·obtain⟨ps,i,n,v,rfl,lp,wf,hi,hn,k⟩ :=h;refine⟨_,Ac (Aj (i:=3) Ca.nd rfl (Or.inl rfl) (Af))
   (Ac (Aj (i:=4) Ca.nd rfl (Or.inl rfl) (Ai Ag (pd wB hr (Aa (pv 0) Ab)) (Ky Gu (Af))))
   (Ac (K1 PassesOwn.never (At Ku (pv 3) (pv 4) (nomark _))
    (Ac (Aj (i:=5) Ca.nd rfl (Or.inl rfl) (Az Pn (Az B7 (pv 3) (pv 4)) (Af)))
    (Ad (A1 (Bk (pd wL hr (Aa (pd wC hr (Aa (pv 2) Ab)) (Aa (Ai Ag (pd wA hr (Aa (pv 0) (Aa (pv 5) Ab))) (pv 1)) Ab))))
     (Ad (Aj (i:=4) Ca.nd rfl (Or.inl rfl) (pv 5)))
     (Ad (Aj (i:=3) Ca.nd rfl (Or.inl rfl) (Az B7 (pv 5) (Af))))))))
   (Ad (Ah (pv 3))))),?_⟩
  have hne:ps≠[]:=fun z=>by rw[z]at hi;simp at hi
  have hcl:=Ee wf (ps.length - 1);refine⟨_,rfl,ps,v,rfl,lp,wf,?_⟩;rintro _ H1 s1 ⟨qc,yc,rfl,hqc,iyc⟩;refine⟨_,rfl,qc,yc,-1,_,rfl,rfl,SqL.of hqc,Mi hne iyc,?_⟩;refine Qn (fun σ H'=>Same H H'/\∃(lo hi f:Nat) (m:Option V),σ= [some v,some (.int (i:Int)),some (.int (n:Int)),some (.int (lo:Int)),some (.int (hi:Int)),m]/\lo<=hi/\hi<=30000000/\hi - lo < 2^f/\
   leastFor ps i n 26 0 (Vbirad.claim ps (ps.length - 1))=leastFor ps i n f lo hi)
   (fun σ _=>match σ with| [_,_,_,some (.int lo),some (.int hi),_]=>(hi - lo).toNat|_=>0) ⟨s1,0,_,26,none,rfl,vW _,hcl,?_,rfl⟩ ?_ ?_
  ·exact vO (Nat.sub_le _ _) (vO hcl (by decide))
  ·rintro σ H2 ⟨sm,lo,hi',f,m,rfl,hlh,hh,hf,heq⟩;refine⟨_,rfl,_,rfl,_,_,rfl,rfl,_,rfl,?_⟩;refine iteB (fun c1=>?_) (fun c1=>?_)
   ·have c1:=vG c1;have hlt:lo < hi':=by omega
    have emid:((lo:Int) + (hi':Int)) / 2=(((lo + hi') / 2:Nat):Int):=by omega
    obtain⟨g,rfl⟩ :∃g,f=g + 1:=by
     cases f with
     |zero=>rw[Nat.pow_zero]at hf;omega
     |succ g=>exact⟨g,rfl⟩
    rw[Nat.pow_succ]at hf;rw[Qr _ _ _ _ _ _ hlt]at heq;refine⟨_,rfl,_,rfl,_,_,rfl,rfl,_,_,rfl,rfl,⟨by decide,vP (by decide:(2:Int).natAbs < 3) ?_⟩,?_⟩
    ·rw[S2];exact vA (by decide:3<=2^2) (vN (by decide) (by decide))
    generalize hmid:(lo + hi') / 2=mid at heq emid;refine⟨_,rfl,_,rfl,fun z1 H3 s3 f3=>?_⟩;refine⟨_,rfl,_,rfl,ps,mid,v,(by show [v,V.int (((lo:Int) + (hi':Int)) / 2)]= [v,V.int (mid:Int)];rw[emid]),Lst.keep Bv _ _ _ _ (sm.trans s3) lp,wf,hne,?_⟩;rintro qs H4 s4 _ ⟨_,ys,hpp,hps,iys⟩;obtain rfl:=V.ref.inj hpp;obtain⟨ve,hve,fve⟩ :=iys.get (Bg wf mid hi);refine⟨_,rfl,qs,ys,_,_,rfl,rfl,SqL.of hps,atN hve,?_⟩;refine⟨_,_,z1,ve,0,750,rfl,f3.keep s4,fve,Sz.whole (by rw[vQ];exact vA hn (by decide)),(Bq wf mid i).sz (by decide),by decide,?_⟩;rintro _ H5 s5 rfl;have sH5:=((sm.trans s3).trans s4).trans s5;refine⟨_,rfl,?_⟩;refine iteB (fun c2=>?_) (fun c2=>?_)
    ·rw[if_pos c2]at heq;refine⟨_,rfl,⟨sH5,lo,mid,g,some (.int (mid:Int)),(by show [some v,some (V.int (i:Int)),some (V.int (n:Int)),some (V.int (lo:Int)),some (V.int (((lo:Int) + (hi':Int)) / 2)),some (V.int (((lo:Int) + (hi':Int)) / 2))]=_;rw[emid]),by omega,by omega,by omega,heq⟩,?_⟩;show((((lo:Int) + (hi':Int)) / 2) - (lo:Int)).toNat < ((hi':Int) - (lo:Int)).toNat;omega
    ·rw[if_neg (by rw[c2];exact vT)]at heq;refine⟨_,rfl,_,_,rfl,rfl,⟨sH5,mid + 1,hi',g,some (.int (mid:Int)),(by show [some v,some (V.int (i:Int)),some (V.int (n:Int)),some (V.int ((((lo:Int) + (hi':Int)) / 2) + 1)),some (V.int (hi':Int)),some (V.int (((lo:Int) + (hi':Int)) / 2))]=_;rw[emid];rfl),by omega,by omega,by omega,heq⟩,?_⟩;show((hi':Int) - ((((lo:Int) + (hi':Int)) / 2) + 1)).toNat < ((hi':Int) - (lo:Int)).toNat;omega
   ·have c1:=vH c1;have:lo=hi':=by omega
    subst this;refine⟨_,rfl,k _ _ sm ?_⟩;rw[heq,S0];rfl
  ·rintro σ H' Q1 Q2 hq ⟨v,e,v2,e2,h1,b,e3,e4,b',e5,h2⟩;exact⟨v,e,v2,e2,h1,b,e3,e4,b',e5,hq _ _ h2⟩
abbrev G6:Stmt:=top 116
theorem Ny:FnScope ["drought","numbers","row"] ["drought","numbers","row"] (defScope G6):=fS
theorem Ng(F:FunN K mg "answer_least" G6)(T:Blt mg)(S:Shc mg)(Z:Drg K mg D)(wG:Mdf P w K mg base D 1 "has_party" ["self","number"] (spDr D C isParty))(wB:Df P w K mg base 2 "all_claims" ["parties"] (spClaims K C))
  (uJ:Df P w K mg base 11 "least_water" ["parties","number","wanted"] (spLeastW K C)):
  Df P w K mg base 12 "answer_least" ["drought","numbers","row"] (spAns K D C 2 fun ns _=>.least (ns.getD 0 0) (ns.getD 1 0)):=by
 refine Df.of F Ny (fun vs H Q E h=>?_) (fun f cdv A outer s H vs Q E hr h=>?_)
 ·obtain⟨h,a,ns,row,nv,rv,rfl,_⟩ :=h;rfl
 ·obtain⟨h,a,ns,row,_,rv,rfl,dr,hne,⟨p,xs,rfl,hl,hi⟩,hn,_,_,k⟩ :=h;obtain rfl:=C3 hi;obtain⟨i,c,rfl⟩ :=Mg hn;refine⟨_,Ac (A1 (PW.pt (Dv (Bf (Bk (pm1 wG (pv 0) Z.cl hr (Aa (Ai Ag (pv 1) (Af)) Ab)))) (C8 (Bf (Ct C4 C4 (Af) (Ai Ag (pv 1) (Af)) (Ai Ag (pd wB hr (Aa (Ap (pv 0) rfl) Ab)) (Ai Ag (pv 1) (Af))))))))
    (Ad (Ah (Av (Aa (pgc S.OUT_OF_RANGE) Ab))))
    (Aq))
   (Ad (Ah (Av (Aa (pgc S.DONE) (Aa (pd uJ hr (Aa (Ap (pv 0) rfl) (Aa (Ai Ag (pv 1) (Af)) (Aa (Ai Ag (pv 1) (Af)) Ab)))) Ab))))),?_⟩
  have k:RetS D C H a (if (isParty h.parties i&&Vbirad.within c 0 (Vbirad.claim h.parties i.toNat:Int))=false then(h,[-1])else(h,[0,(leastFor h.parties i.toNat c.toNat 26 0 (Vbirad.claim h.parties (h.parties.length - 1)):Int)])) Q:=by
   have:=k;rw[show Vbirad.step h (.least (([i,c]:List Int).getD 0 0) (([i,c]:List Int).getD 1 0))=onSharing h fun ps=>if (isParty ps i&&Vbirad.within c 0 (Vbirad.claim ps i.toNat:Int))=false then(h,[-1])else(h,[0,(leastFor ps i.toNat c.toNat 26 0 (Vbirad.claim ps (ps.length - 1)):Int)]) from rfl,onSh hne]at this;exact this
  have hbad:∀H1,Same H H1->(isParty h.parties i&&Vbirad.within c 0 (Vbirad.claim h.parties i.toNat:Int))=false->∀q,H1 q=none->Q (.ref q) (upd H1 q (.lst [.int (-1)])):=fun H1 sm z=>by
   rw[if_pos z]at k;exact ret1 (.of sm) (dr.keep sm) k
  have hat0:atI ([i,c].map V.int) (0:Int)=some (.int i):=A4 (j:=0) rfl;have hat1:atI ([i,c].map V.int) (1:Int)=some (.int c):=A4 (j:=1) rfl;have dr0:=dr;obtain⟨⟨dx,l,h1,h2⟩,wf⟩ :=dr;refine⟨_,rfl,a,dx,_,rfl,h1,Op,_,rfl,p,_,_,_,rfl,rfl,hl,hat0,h,a,i,rfl,dr0,?_⟩;rintro _ H2 s2 rfl;refine⟨_,rfl,?_⟩;refine iteB (fun c1=>?_) (fun c1=>?_)
  ·have c1:isParty h.parties i=false:=by simpa using c1
   exact iteTr rfl ⟨by show 1<=sizeLine;decide,hbad _ s2 (by rw[c1];rfl)⟩
  have c1:isParty h.parties i=true:=by simpa using c1
  obtain⟨j,pt,rfl,ep⟩ :=Ba.mp c1;rw[vM]at k hbad;have hj:=(vF ep).1;have hcl:=Ee wf j;have hw:¬(0<=c/\c<=(Vbirad.claim h.parties j:Int))->(isParty h.parties (j:Int)&&Vbirad.within c 0 (Vbirad.claim h.parties j:Int))=false:=fun z=>by
   rw[c1,Bool.true_and];cases hq:Vbirad.within c 0 (Vbirad.claim h.parties j:Int)with
   |false=>rfl
   |true=>exact absurd (Bl.mp hq) z
  refine⟨_,rfl,p,_,_,_,rfl,rfl,s2.seq hl,hat1,_,_,rfl,rfl,_,rfl,?_⟩;refine iteB (fun c2=>?_) (fun c2=>?_)
  ·have c2:=vG c2;refine⟨_,rfl,a,D,dx,_,_,rfl,s2 _ _ h1,Z.cl,Z.nParties,Au,h.parties,_,rfl,(h2.keep s2).lst,wf,?_⟩;rintro _ H3 s3 ⟨qc,yc,rfl,hqc,iyc⟩;have s23:=s2.trans s3;obtain⟨vc,hvc,rvc⟩ :=iyc.get (Bs hj);obtain rfl:vc=V.int ((Vbirad.claim h.parties j:Nat):Int):=rvc;refine⟨_,rfl,p,_,_,_,rfl,rfl,s23.seq hl,hat0,qc,yc,_,_,rfl,rfl,SqL.of hqc,atN hvc,_,_,rfl,rfl,_,rfl,?_⟩;refine iteB (fun c3=>?_) (fun c3=>?_)
   ·have c3:=of_decide_eq_false (by simpa using c3:decide (c<=((Vbirad.claim h.parties j:Nat):Int))=false);exact⟨by show 1<=sizeLine;decide,hbad _ s23 (hw fun z=>c3 z.2)⟩
   ·have c3:=of_decide_eq_true (by simpa using c3:decide (c<=((Vbirad.claim h.parties j:Nat):Int))=true);rw[if_neg (by rw[c1,show Vbirad.within c 0 (Vbirad.claim h.parties j:Int)=true from Bl.mpr ⟨c2,c3⟩];simp)]at k;obtain⟨m,rfl⟩ :∃m:Nat,c=(m:Int):= ⟨c.toNat,by omega⟩;rw[Int.toNat_natCast]at k;refine⟨_,rfl,a,D,dx,_,_,rfl,s23 _ _ h1,Z.cl,Z.nParties,Au,_,rfl,p,_,_,_,rfl,rfl,s23.seq hl,hat0,_,rfl,p,_,_,_,rfl,rfl,s23.seq hl,hat1,h.parties,j,m,_,rfl,(h2.keep s23).lst,wf,hj,by omega,?_⟩;rintro _ H4 s4 rfl;refine⟨by show 2<=sizeLine;decide,fun T hT=>?_⟩;have sT:=(s23.trans s4).updT (o:=.lst [.int 0,.int ((leastFor h.parties j m 26 0 (Vbirad.claim h.parties (h.parties.length - 1)):Nat):Int)]) hT;exact k _ _ (.of sT) (dr0.keep sT) ⟨T,_,rfl,Ae,C2 [0,((leastFor h.parties j m 26 0 (Vbirad.claim h.parties (h.parties.length - 1)):Nat):Int)]⟩
  ·have c2:=vH c2;exact⟨_,rfl,iteTr rfl ⟨by show 1<=sizeLine;decide,hbad _ s2 (hw fun z=>c2 z.1)⟩⟩
abbrev F0:Stmt:=top 118
theorem D6:FnScope ["drought","numbers","row","persons","party"] ["drought","numbers","row"] (defScope F0):=fS
theorem L3(F:FunN K mg "answer_counts" F0)(T:Blt mg)(S:Shc mg)(Y:Pty K mg C)(Z:Drg K mg D)(wF:Mdf P w K mg base C 1 "is_group" ["self"] (spIsGroup C))(wB:Df P w K mg base 2 "all_claims" ["parties"] (spClaims K C)):
  Df P w K mg base 3 "answer_counts" ["drought","numbers","row"] (spAns K D C 0 fun _ _=>.counts):=by
 refine Df.of F D6 (fun vs H Q E h=>?_) (fun f cdv A outer s H vs Q E hr h=>?_)
 ·obtain⟨h,a,ns,row,nv,rv,rfl,_⟩ :=h;rfl
 ·obtain⟨h,a,ns,row,nv,rv,rfl,dr,hne,_,_,_,_,k⟩ :=h;refine⟨_,Ac (Cs (i:=3) (own:=[("party",4)]) rfl D6.nd rfl rfl (Du rfl rfl rfl (by rfl)) (A0 (Ap (pv 0) rfl)) (Ax (by rfl)) (fun _ _ _ _ _=>Am (i:=4) D6.nd rfl (Or.inl rfl)) (fun _ _ _ _ _=>Jk (Bf (Bk (pm0 wF (pv 4) Y.cl hr)))) (fun _ _ _ _ _=>pv 4))
   (Ad (Ah (Av (Aa (pgc S.DONE) (Aa (Ao An (by rfl) T.len PySem.boot_len (Aa (Ap (pv 0) rfl) Ab)) (Aa (Ao An (by rfl) T.len PySem.boot_len (Aa (pv 3) Ab)) (Aa (Ai Ag (pd wB hr (Aa (Ap (pv 0) rfl) Ab)) (Ky Gu (Af))) (Aa (Ap (pv 0) rfl) Ab)))))))),?_⟩
  have hkind:∀pt∈h.parties,(match pt.kind with|.person _=>true|.group _ _=>false)=!decide (0 < (mem pt).length):=fun pt hp=>by
   have hs:=dr.wf.some_ pt hp;cases hk:pt.kind with
   |person c=>
    have:mem pt= []:=by unfold mem;rw[hk]
    rw[this];rfl
   |group r ms=>
    have h1:=hs r ms hk;have:mem pt=ms:=by unfold mem;rw[hk]
    rw[this];have:0 < ms.length:=List.length_pos_iff.mpr h1;simp[this]
  have k:RetS D C H a (h,0::nums [h.parties.length,(h.parties.filter fun pt=>!decide (0 < (mem pt).length)).length,Vbirad.claim h.parties (h.parties.length - 1),h.water]) Q:=by
   have:=k;rw[show Vbirad.step h .counts=onSharing h fun ps=>(h,0::nums [ps.length,(ps.filter fun p=>match p.kind with
    |.person _=>true
    |.group _ _=>false).length,Vbirad.claim ps (ps.length - 1),h.water]) from rfl,onSh hne]at this
   rw[List.filter_congr hkind]at this;exact this
  have dr0:=dr;obtain⟨⟨dx,l,h1,h2⟩,wf⟩ :=dr;obtain⟨as,g1,g2,g3⟩ :=h2.ex;have its:=ptsIts (C:=C) g2;have hlen:=its.len;have h30:=wf.len;have WS:Seqs (Itl K l) (Same H) h.parties (PtR C):=As (xs:=as.map V.ref) fun H' sm=> ⟨sm.seq (SqL.of g1),its.keep fun a v r=>Bv _ _ _ _ sm r⟩;refine⟨_,rfl,a,D,dx,_,_,rfl,h1,Z.cl,Z.nParties,Au,l,rfl,⟨_,SqL.of g1⟩,Jf (as:=h.parties) (R:=PtR C) (S:=fun(_:Party) v _=>∃b,v=V.ref b) (fun pt=>!decide (0 < (mem pt).length)) id (fun _ _ _ _ _ r=>r) WS (small1000 (by omega)) (fun pt x H' Qe Nx hm sm' rx k1 k2=>?_) (fun D2 zs H3 s3 hD o=>?_)⟩
  ·obtain⟨b,rfl,pb⟩ :=rx;obtain⟨dy,pm,nm,q1,q2,q3⟩ :=pb.ex;refine⟨rfl,_,rfl,b,dy,_,rfl,q1,Ru,pt,.ref b,rfl,⟨b,rfl,pb⟩,?_⟩;rintro _ H4 s4 rfl;refine⟨_,rfl,?_⟩;refine iteB (fun c1=>?_) (fun c1=>?_)
   ·exact⟨_,rfl,k1 c1 _ _ s4 ⟨b,rfl⟩⟩
   ·exact k2 c1 _ s4
  ·have lz:=o.len;rw[vB]at lz;refine⟨_,rfl,a,D,dx,_,_,rfl,s3 _ _ h1,Z.cl,Z.nParties,Au,l,_,rfl,.inl (s3.seq (SqL.of g1)),?_⟩;refine⟨_,rfl,D2,_,rfl,.inl (SqL.of hD),?_⟩;refine⟨_,rfl,a,D,dx,_,_,rfl,s3 _ _ h1,Z.cl,Z.nParties,Au,h.parties,_,rfl,(h2.keep s3).lst,wf,?_⟩;rintro _ H4 s4 ⟨qc,yc,rfl,hqc,iyc⟩;have s34:=s3.trans s4;refine⟨_,rfl,qc,yc,-1,_,rfl,rfl,SqL.of hqc,Mi hne iyc,?_⟩;refine⟨_,rfl,a,D,dx,_,_,rfl,s34 _ _ h1,Z.cl,Z.nWater,Cq,by show 5<=sizeLine;decide,fun T2 hT2=>?_⟩;rw[<-hlen,<-lz];have sT:=s34.updT (o:=.lst [.int 0,.int (h.parties.length:Int),.int ((h.parties.filter fun pt=>!decide (0 < (mem pt).length)).length:Int),.int ((Vbirad.claim h.parties (h.parties.length - 1):Nat):Int),.int (h.water:Int)]) hT2;exact k _ _ (.of sT) (dr0.keep sT) ⟨T2,_,rfl,Ae,C2 (0::nums [h.parties.length,(h.parties.filter fun pt=>!decide (0 < (mem pt).length)).length,Vbirad.claim h.parties (h.parties.length - 1),h.water])⟩
inductive spWith(K:PySem.W.Frag)(C:Addr)(vs:List V)(H:Hp)(Q:VK)(_e3:XK):Prop|m:∀(ps:List Party) (j c d:Nat) (pt:Party) (v:V),vs= [v,.int (j:Int),.int (c:Int)]->Lst K (PtR C) ps v H->ps[j]? =some pt->pt.kind=.person d->ps.length<=30->Ret H (Lst K (PtR C) (ps.set j (chClaim pt c))) Q->spWith K C vs H Q _e3
abbrev Jz:Stmt:=top 45
theorem Fu:FnScope ["parties","number","claim","person","changed"] ["parties","number","claim"] (defScope Jz):=fS
theorem Q5(F:FunN K mg "with_claim" Jz)(T:Blt mg)(Y:Pty K mg C)(wN:Df P w K mg base 3 "make_person" ["name","weight","claim"] (spPerson C)):Df P w K mg base 4 "with_claim" ["parties","number","claim"] (spWith K C):=by
 refine Df.of F Fu (fun vs H Q E h=>?_) (fun f cdv A outer s H vs Q E hr h=>?_)
 ·obtain⟨ps,j,c,d,pt,v,rfl,_⟩ :=h;rfl
 ·obtain⟨ps,j,c,d,pt,_,rfl,⟨p,xs,rfl,hl,hi⟩,hpt,hk,h30,k⟩ :=h;refine⟨_,Ac (Aj (i:=3) Fu.nd rfl (Or.inl rfl) (Ai Ag (pv 0) (pv 1)))
   (Ac (Aj (i:=4) Fu.nd rfl (Or.inl rfl) (Cl Ce (by rfl) T.list boot_list (Aa (pv 0) Ab)))
   (Ac (Xu (pd wN hr (Aa (Ap (pv 3) rfl) (Aa (Ap (pv 3) rfl) (Aa (pv 2) Ab)))) (Xp (pv 4) (pv 1) P3))
   (Ad (Ah (pv 4))))),?_⟩
  have lx:=hi.len;have hj:=(vF hpt).1;obtain⟨xa,hxa,ap,rfl,dx,pm,nm,h1,h2,h3⟩ :=hi.get hpt;refine⟨_,rfl,_,rfl,p,xs,_,_,rfl,rfl,hl,atN hxa,?_⟩;refine⟨_,rfl,p,xs,rfl,.inl hl,fun l hl0=>?_⟩;have s1:Same H (upd H l (.lst xs)):=Same.upd hl0;have hl1:(upd H l (.lst xs)) l=some (.lst xs):=Ae;generalize upd H l (.lst xs)=H1 at s1 hl1;refine⟨_,rfl,ap,C,dx,_,_,rfl,s1 _ _ h1,Y.cl,Y.nName,K0,_,rfl,ap,C,dx,_,_,rfl,s1 _ _ h1,Y.cl,Y.nWeight,Fy,_,rfl,nm,pt.weight,c,rfl,?_⟩;intro x pn H2 s2 nx npn pa;have hl2:=s2 _ _ hl1;refine⟨_,rfl,_,rfl,l,xs,_,j,rfl,rfl,hl2,Sy (by omega),?_⟩;have hxl:x≠l:=fun z=>by rw[z,hl1]at nx;cases nx
  have hpl:pn≠l:=fun z=>by rw[z,hl1]at npn;cases npn
  have sT:Same H (upd H2 l (.lst (xs.set j (.ref x)))):=fun b o e=>by
   rw[Ak (Al e hl0)];exact s2 _ _ (s1 _ _ e)
  refine⟨_,rfl,k _ _ sT ⟨l,_,rfl,SqL.of Ae,N8 ?_ j (hi.keep fun a v r=>Bv _ _ _ _ sT r)⟩⟩;obtain⟨dy,nm2,g1,g2,g3⟩ :=pa.ex;have ep:chClaim pt c= {name:=nm.cps.toList,weight:=pt.weight,kind:=.person c}:=by
   unfold chClaim;rw[hk,h2]
  rw[ep];exact⟨x,rfl,dy,pn,nm2,by rw[Ak hxl];exact g1,g2,by rw[Ak hpl];exact g3⟩
theorem Mv{ps:List Party}(wf:PWf ps){j:Nat}{pt:Party}(ep:ps[j]? =some pt)(c1:isPerson ps (j:Int)=true):∃d,pt.kind=.person d:=by
 have:=Fd wf ep;rw[c1]at this;cases hk:pt.kind with
 |person d=>exact⟨d,rfl⟩
 |group r ms=>
  have h3:=wf.some_ pt (List.mem_of_getElem? ep) r ms hk;have h4:mem pt=ms:=by unfold mem;rw[hk]
  rw[h4]at this;have h5:0 < ms.length:=List.length_pos_iff.mpr h3;rw[decide_eq_true h5]at this;cases this
abbrev E8:Stmt:=top 114
theorem E4:FnScope ["drought","numbers","row","supposed"] ["drought","numbers","row"] (defScope E8):=fS
theorem J5{kw rn:Addr}(F:FunN K mg "answer_if_claim" E8)(T:Blt mg)(S:Shc mg)(R:Rdg K mg kw rn)(Z:Drg K mg D)(wK:Mdf P w K mg base D 2 "has_person" ["self","number"] (spDr D C isPerson))(uU:Df P w K mg base 4 "with_claim" ["parties","number","claim"] (spWith K C))(wA:Df P w K mg base 10 "all_shares" ["parties","water"] (spShares K C)):
  Df P w K mg base 11 "answer_if_claim" ["drought","numbers","row"] (spAns K D C 2 fun ns _=>.ifClaim (ns.getD 0 0) (ns.getD 1 0)):=by
 refine Df.of F E4 (fun vs H Q E h=>?_) (fun f cdv A outer s H vs Q E hr h=>?_)
 ·obtain⟨h,a,ns,row,nv,rv,rfl,_⟩ :=h;rfl
 ·obtain⟨h,a,ns,row,_,rv,rfl,dr,hne,⟨p,xs,rfl,hl,hi⟩,hn,_,_,k⟩ :=h;obtain rfl:=C3 hi;obtain⟨i,c,rfl⟩ :=Mg hn;refine⟨_,Ac (A1 (PW.pt (Dv (Bf (Bk (pm1 wK (pv 0) Z.cl hr (Aa (Ai Ag (pv 1) (Af)) Ab)))) (C8 (Bf (Ct C4 C4 (Af) (Ai Ag (pv 1) (Af)) (pgc R.MOST_CLAIMED))))))
    (Ad (Ah (Av (Aa (pgc S.OUT_OF_RANGE) Ab))))
    (Aq))
   (Ac (Aj (i:=3) E4.nd rfl (Or.inl rfl) (pd uU hr (Aa (Ap (pv 0) rfl) (Aa (Ai Ag (pv 1) (Af)) (Aa (Ai Ag (pv 1) (Af)) Ab)))))
   (Ad (Ah (Az Cf (Av (Aa (pgc S.DONE) Ab)) (Cl Ce (by rfl) T.list boot_list (Aa (Ai Ag (pd wA hr (Aa (pv 3) (Aa (Ap (pv 0) rfl) Ab))) (Ai Ag (pv 1) (Af))) Ab)))))),?_⟩
  have k:RetS D C H a (if (isPerson h.parties i&&Vbirad.within c 0 (CLAIM:Int))=false then(h,[-1])else(h,0::qRow (shareOf (setClaim h.parties i.toNat c.toNat) h.water i.toNat))) Q:=by
   have:=k;rw[show Vbirad.step h (.ifClaim (([i,c]:List Int).getD 0 0) (([i,c]:List Int).getD 1 0))=onSharing h fun ps=>if (isPerson ps i&&Vbirad.within c 0 (CLAIM:Int))=false then(h,[-1])else(h,0::qRow (shareOf (setClaim ps i.toNat c.toNat) h.water i.toNat)) from rfl,onSh hne]at this;exact this
  have hbad:∀H1,Same H H1->(isPerson h.parties i&&Vbirad.within c 0 (CLAIM:Int))=false->∀q,H1 q=none->Q (.ref q) (upd H1 q (.lst [.int (-1)])):=fun H1 sm z=>by
   rw[if_pos z]at k;exact ret1 (.of sm) (dr.keep sm) k
  have hat0:atI ([i,c].map V.int) (0:Int)=some (.int i):=A4 (j:=0) rfl;have hat1:atI ([i,c].map V.int) (1:Int)=some (.int c):=A4 (j:=1) rfl;have dr0:=dr;obtain⟨⟨dx,l,h1,h2⟩,wf⟩ :=dr;refine⟨_,rfl,a,dx,_,rfl,h1,Ws,_,rfl,p,_,_,_,rfl,rfl,hl,hat0,h,a,i,rfl,dr0,?_⟩;rintro _ H2 s2 rfl;refine⟨_,rfl,?_⟩;refine iteB (fun c1=>?_) (fun c1=>?_)
  ·have c1:isPerson h.parties i=false:=by simpa using c1
   exact iteTr rfl ⟨by show 1<=sizeLine;decide,hbad _ s2 (by rw[c1];rfl)⟩
  have c1:isPerson h.parties i=true:=by simpa using c1
  refine⟨_,rfl,p,_,_,_,rfl,rfl,s2.seq hl,hat1,_,_,rfl,rfl,_,rfl,?_⟩;have hw:¬(0<=c/\c<=1000000)->(isPerson h.parties i&&Vbirad.within c 0 (CLAIM:Int))=false:=fun z=>by
   rw[c1,Bool.true_and];cases hq:Vbirad.within c 0 (CLAIM:Int)with
   |false=>rfl
   |true=>exact absurd (Bl.mp hq) z
  refine iteB (fun c2=>?_) (fun c2=>?_)
  ·have c2:=vG c2;refine⟨_,_,rfl,rfl,_,rfl,?_⟩;refine iteB (fun c3=>?_) (fun c3=>?_)
   ·have c3:=of_decide_eq_false (by simpa using c3:decide (c<=1000000)=false);exact⟨by show 1<=sizeLine;decide,hbad _ s2 (hw fun z=>c3 z.2)⟩
   ·have c3:=of_decide_eq_true (by simpa using c3:decide (c<=1000000)=true);rw[if_neg (by rw[c1,show Vbirad.within c 0 (CLAIM:Int)=true from Bl.mpr ⟨c2,c3⟩];simp)]at k;obtain⟨j,pt,rfl,ep⟩ :=Hv c1;rw[Int.toNat_natCast]at k;obtain⟨m,rfl⟩ :∃m:Nat,c=(m:Int):= ⟨c.toNat,by omega⟩;rw[Int.toNat_natCast]at k;have wf2:=Wk (c:=m) wf ep (by omega);rw[Io ep]at k wf2;obtain⟨d,hk⟩ :=Mv wf ep c1;refine⟨_,rfl,a,D,dx,_,_,rfl,s2 _ _ h1,Z.cl,Z.nParties,Au,_,rfl,p,_,_,_,rfl,rfl,s2.seq hl,hat0,_,rfl,p,_,_,_,rfl,rfl,s2.seq hl,hat1,h.parties,j,m,d,pt,_,rfl,(h2.keep s2).lst,ep,hk,wf.len,fun v3 H3 s3 l3=>?_⟩;have s23:=s2.trans s3;refine⟨by show 1<=sizeLine;decide,fun q hq=>?_⟩;have s1:Same H3 (upd H3 q (.lst [.int 0])):=Same.upd hq;have hq1:(upd H3 q (.lst [.int 0])) q=some (.lst [.int 0]):=Ae;generalize upd H3 q (.lst [.int 0])=H1 at s1 hq1;have s231:=s23.trans s1;have hne2:h.parties.set j (chClaim pt m)≠[]:=fun z=>hne (List.eq_nil_of_length_eq_zero (by rw[<-List.length_set (i:=j) (a:=chClaim pt m),z];rfl));refine⟨_,rfl,_,rfl,a,D,dx,_,_,rfl,s231 _ _ h1,Z.cl,Z.nWater,Cq,_,h.water,_,rfl,Lst.keep Bv _ _ _ _ s1 l3,wf2,hne2,?_⟩;rintro ps H4 s4 _ ⟨_,ys,hpp,hps,iys⟩;obtain rfl:=V.ref.inj hpp;obtain⟨ve,hve,pf,rfl,hpf⟩ :=iys.get (Bg wf2 h.water (i:=j) (by rw[List.length_set];exact(List.getElem?_eq_some_iff.mp ep).1));have s14:=s231.trans s4;exact⟨_,rfl,p,_,_,_,rfl,rfl,s14.seq hl,hat0,ps,_,_,_,rfl,rfl,SqL.of hps,atN hve,pf,_,rfl,.inr hpf,bA (pf:=pf) s14 (s4 _ _ hq1) dr0 k⟩
  ·have c2:=vH c2;exact⟨_,rfl,iteTr rfl ⟨by show 1<=sizeLine;decide,hbad _ s2 (hw fun z=>c2 z.1)⟩⟩
end
theorem Gb{ps:List Party}(wf:PWf ps){j:Nat}{pt:Party}(ep:ps[j]? =some pt)(c1:isGroup ps (j:Int)=true):mem pt≠[]/\∃r ms,pt.kind=.group r ms:=by
 have hm:mem pt≠[]:=by
  have:=E1 wf ep;rw[c1]at this;intro z;rw[z]at this;cases this
 refine⟨hm,?_⟩;cases hk:pt.kind with
 |person c=>exact absurd (by unfold mem;rw[hk]) hm
 |group r ms=>exact⟨r,ms,rfl⟩
theorem J4{ps:List Party}{j:Nat}{pt:Party}(ep:ps[j]? =some pt):membersOf ps j=mem pt:=by
 unfold membersOf mem;rw[Fe ep];cases pt.kind<;>rfl
theorem Ov{α β:Type}{f g:α->List β}:∀{l:List α},(∀x∈l,f x=g x)->l.flatMap f=l.flatMap g
 | [],_=>rfl
 |x::l,h=>by rw[List.flatMap_cons,List.flatMap_cons,h x (by simp),Ov fun y hy=>h y (by simp[hy])]
def allRules(cs ws:List Nat)(e:Q)(l:List Nat):List Q:=l.flatMap fun r=>shareBy r (cQ cs) ws e
theorem F8(cs ws:List Nat)(e:Q)(h:ws.length=cs.length):∀l,(allRules cs ws e l).length=l.length * cs.length
 | []=>by simp[allRules]
 |r::l=>by
  have:=F8 cs ws e h l;unfold allRules at this⊢;rw[List.flatMap_cons,List.length_append,this,Ei _ _ _ _ (by unfold cQ;rw[List.length_map];exact h),List.length_cons,Nat.add_mul];unfold cQ;rw[List.length_map];omega
theorem cV{ps:List Party}(wf:PWf ps)(e:Nat){i:Nat}{pt:Party}(ep:ps[i]? =some pt)(hg:mem pt≠[]):
  ((List.range 6).flatMap fun r=>(mem pt).flatMap fun j=>qRow (shareOf (setRule ps i r) e j))=(allRules (clm ps pt) (wts ps pt) (shareOf ps e i) (List.range 6)).flatMap qRow:=by
 unfold allRules;rw[List.flatMap_assoc];refine Ov fun r hr=>?_;have hr:=List.mem_range.mp hr;rw[<-Xx wf e ep (by omega) hg,List.flatMap_map]
section
variable {P:Program}{w:World}{K:PySem.W.Frag}{mg:Str->Option Value}{base:Heap}{C D:Addr}
inductive spEach(K:PySem.W.Frag)(C:Addr)(vs:List V)(H:Hp)(Q:VK)(_e3:XK):Prop|m:∀(ps:List Party) (e i:Nat) (pt:Party) (v:V),vs= [v,.int (e:Int),.int (i:Int)]->Lst K (PtR C) ps v H->PWf ps->ps[i]? =some pt->Ret H (Own (Fra K) (allRules (clm ps pt) (wts ps pt) (shareOf ps e i) (List.range 6))) Q->spEach K C vs H Q _e3
abbrev Dt:Stmt:=top 83
theorem A9:FnScope ["parties","water","group","share","claims","weights","given","rule"] ["parties","water","group"] (defScope Dt):=fS
theorem Gh{kw rn:Addr}(F:FunN K mg "shares_by_each_rule" Dt)(T:Blt mg)(R:Rdg K mg kw rn)(wA:Df P w K mg base 10 "all_shares" ["parties","water"] (spShares K C))
  (wI:Df P w K mg base 3 "member_claims" ["parties","group"] (spMem K C clm)) (wE:Df P w K mg base 1 "member_weights" ["parties","group"] (spMem K C wts))
  (wJ:Df P w K mg base 9 "shares_by" ["rule","amount","claims","weights"] (spRuleE K (fun r e cs ws=>Own (Fra K) (shareBy r (cQ cs) ws e)) fun r=>r<=5)):
  Df P w K mg base 11 "shares_by_each_rule" ["parties","water","group"] (spEach K C):=by
 refine Df.of F A9 (fun vs H Q E h=>?_) (fun f cdv A outer s H vs Q E hr h=>?_)
 ·obtain⟨ps,e,i,pt,v,rfl,_⟩ :=h;rfl
 ·obtain⟨ps,e,i,pt,v,rfl,lp,wf,hpt,k⟩ :=h;refine⟨_,Ac (Aj (i:=3) A9.nd rfl (Or.inl rfl) (Ai Ag (pd wA hr (Aa (pv 0) (Aa (pv 1) Ab))) (pv 2)))
   (Ac (Aj (i:=4) A9.nd rfl (Or.inl rfl) (pd wI hr (Aa (pv 0) (Aa (pv 2) Ab))))
   (Ac (Aj (i:=5) A9.nd rfl (Or.inl rfl) (pd wE hr (Aa (pv 0) (Aa (pv 2) Ab))))
   (Ac (Aj (i:=6) A9.nd rfl (Or.inl rfl) (Av (Ab)))
   (Ac (Ch PassesOwn.never rfl (Ma rfl T.range (Aa (Ao An (by rfl) T.len PySem.boot_len (Aa (pgt R.RULE_NAMES) Ab)) Ab)) (Am (i:=7) A9.nd rfl (Or.inl rfl))
    (Ad (Cg (Eh PySem.F.plainAttrs_list PySem.F.slot_list_extend PySem.F.type_list_extend Jg (pv 6) (Aa (pd wJ hr (Aa (pv 7) (Aa (pv 3) (Aa (pv 4) (Aa (pv 5) Ab))))) Ab)))))
   (Ad (Ah (pv 6))))))),?_⟩
  have hi:=(List.getElem?_eq_some_iff.mp hpt).1;have hne:ps≠[]:=fun z=>by rw[z]at hi;simp at hi
  have hfew:=wf.few pt (List.mem_of_getElem? hpt);obtain⟨D',W',ao⟩ :=(Bq wf e i).ao (by decide);have lcw:=(wok wf hpt).len;have lc8:(clm ps pt).length<=8:=by unfold clm;rw[List.length_map];exact hfew
  refine⟨_,rfl,_,rfl,ps,e,v,rfl,lp,wf,hne,?_⟩;rintro qs H1 s1 _ ⟨_,ys,hpp,hps,iys⟩;obtain rfl:=V.ref.inj hpp;obtain⟨ve,hve,fve⟩ :=iys.get (Bg wf e hi);refine⟨_,rfl,qs,ys,_,_,rfl,rfl,SqL.of hps,atN hve,?_⟩;refine⟨_,rfl,_,rfl,ps,i,pt,v,rfl,Lst.keep Bv _ _ _ _ s1 lp,wf,hpt,fun vc H2 s2 f2=>?_⟩;refine⟨_,rfl,_,rfl,ps,i,pt,v,rfl,Lst.keep Bv _ _ _ _ (s1.trans s2) lp,wf,hpt,fun vw H3 s3 f3=>?_⟩;refine⟨vW _,fun q hq=>?_⟩;have s4:Same H3 (upd H3 q (.lst [])):=Same.upd hq;have hq4:(upd H3 q (.lst [])) q=some (.lst []):=Ae;generalize upd H3 q (.lst [])=H4 at s4 hq4;refine⟨rn,_,rfl,.inr (R.RULE_NAMES.its _),((6:Nat):Int),?_,by decide,by decide,?_⟩
  ·rw[C9,show Vbirad.RULES.length=6 from rfl]
  have sH4:=((s1.trans s2).trans s3).trans s4;have fve4:=((fve.keep s2).keep s3).keep s4;have lc4:Lst K IsN (clm ps pt) vc H4:=Lst.keep Bp.stay _ _ _ _ (s3.trans s4) f2.lst;have lw4:Lst K IsN (wts ps pt) vw H4:=Lst.keep Bp.stay _ _ _ _ s4 f3.lst;have hqH:H q=none:=Same.free ((s1.trans s2).trans s3) hq;refine Bi (B:=fun _=>True) (as:=List.range 6) Gp
   (fun t σ H'=>t<=6/\(∀b o,H4 b=some o->b≠q->H' b=some o)/\∃(a:Option V) (zs:List V),σ= [some v,some (.int (e:Int)),some (.int (i:Int)),some ve,some vc,some vw,some (.ref q),a]/\H' q=some (.lst zs)/\Tk H4 H'/\Its (Fra K) H' (allRules (clm ps pt) (wts ps pt) (shareOf ps e i) ((List.range 6).take t)) zs)
   ⟨vW _,fun b o e _=>e,none,[],rfl,hq4,Tk.refl _,.nil⟩ (fun _ _ _ _=>trivial) ?_ ?_
  ·rintro t a x σ H5 H6 hta ⟨ht6,sb,a1,zs,rfl,hq5,tk5,izs⟩ s6 rfl;obtain⟨htn,rfl⟩ :=Vm hta;have hq6:=s6 _ _ hq5;have tk6:Tk H4 H6:=tk5.trans (Tk.of s6);have sub:∀{α:Type} {R:Rel α} {as:List α} {u:V},Flat R->Own R as u H3->Lst K R as u H6:=fun{α R as u} fl ow=>by
    obtain⟨p0,xs0,e0,h0,i0⟩ :=ow;have hne0:p0≠q:=Al h0 hq;exact⟨p0,xs0,e0,SqL.of (s6 _ _ (sb _ _ (s4 _ _ h0) hne0)),i0.keep fun _ _ r=>fl _ _ _ _ ((Tk.of s4).trans tk6) r⟩
   have e0:(0:Int) + (t:Int)=(t:Int):=by omega
   rw[e0];refine⟨_,rfl,.inl ⟨rfl,_,SqL.of hq6⟩,?_⟩;refine⟨_,rfl,_,rfl,_,rfl,_,rfl,t,shareOf ps e i,clm ps pt,wts ps pt,D',W',ve,vc,vw,rfl,A7 _ _ _ _ tk6 fve4,sub Bp (Own.keep Bp.stay _ _ _ _ s3 f2),sub Bp f3,by omega,ao,cok wf hpt,wok wf hpt,?_⟩;rintro qg H7 s7 nqg ⟨_,zg,hgg,hqg,ig⟩;obtain rfl:=V.ref.inj hgg;have hq7:=s7 _ _ hq6;have l1:=izs.len;have l2:=ig.len;rw[F8 _ _ _ lcw,List.length_take,List.length_range]at l1;rw[Ei _ _ _ _ (by unfold cQ;rw[List.length_map];exact lcw)]at l2;have l3:(cQ (clm ps pt)).length<=8:=by unfold cQ;rw[List.length_map];exact lc8
   have l4:min t 6 * (clm ps pt).length<=6 * 8:=Nat.mul_le_mul (by omega) lc8;refine⟨q,qg,zs,zg,rfl,rfl,hq7,hqg,Nat.le_of_lt (small1000 (by omega)),?_⟩;have tk8:Tk H7 (upd H7 q (.lst (zs++zg))):=Tk.updL hq7;refine⟨by omega,fun b o eb hb=>?_,_,_,rfl,Ae,(tk6.trans (Tk.of s7)).trans tk8,?_⟩
   ·rw[Ak hb];exact s7 _ _ (s6 _ _ (sb _ _ eb hb))
   ·have e1:allRules (clm ps pt) (wts ps pt) (shareOf ps e i) ((List.range 6).take (t + 1))=allRules (clm ps pt) (wts ps pt) (shareOf ps e i) ((List.range 6).take t)++shareBy t (cQ (clm ps pt)) (wts ps pt) (shareOf ps e i):=by
     unfold allRules;rw[Py _ _ htn,List.flatMap_append];simp
    rw[e1];exact Its.app (izs.keep fun _ _ r=>A7 _ _ _ _ ((Tk.of (s6.trans s7)).trans tk8) r) (ig.keep fun _ _ r=>A7 _ _ _ _ tk8 r)
  ·rintro σ H5 ⟨_,sb,a1,zs,rfl,hq5,tk5,izs⟩;refine⟨_,rfl,k _ _ (fun b o eb=>?_) ⟨q,zs,rfl,hq5,izs⟩⟩;exact sb _ _ (sH4 _ _ eb) (Al eb hqH)
abbrev Hc:Stmt:=top 115
theorem Nz:FnScope ["drought","numbers","row"] ["drought","numbers","row"] (defScope Hc):=fS
theorem Nk(F:FunN K mg "answer_rules" Hc)(T:Blt mg)(S:Shc mg)(Z:Drg K mg D)(wD:Mdf P w K mg base D 2 "has_group" ["self","number"] (spDr D C isGroup))(w9:Df P w K mg base 1 "flat" ["ratios"] (spFlat K))
  (wQ:Df P w K mg base 11 "shares_by_each_rule" ["parties","water","group"] (spEach K C)):
  Df P w K mg base 12 "answer_rules" ["drought","numbers","row"] (spAns K D C 1 fun ns _=>.rules (ns.getD 0 0)):=by
 refine Df.of F Nz (fun vs H Q E h=>?_) (fun f cdv A outer s H vs Q E hr h=>?_)
 ·obtain⟨h,a,ns,row,nv,rv,rfl,_⟩ :=h;rfl
 ·obtain⟨h,a,ns,row,_,rv,rfl,dr,hne,⟨p,xs,rfl,hl,hi⟩,hn,_,_,k⟩ :=h;obtain rfl:=C3 hi;obtain⟨i,rfl⟩ :=Pl hn;refine⟨_,Ac (A1 (Bf (Bk (pm1 wD (pv 0) Z.cl hr (Aa (Ai Ag (pv 1) (Af)) Ab))))
    (Ad (Ah (Av (Aa (pgc S.OUT_OF_RANGE) Ab))))
    (Aq))
   (Ad (Ah (Az Cf (Av (Aa (pgc S.DONE) Ab)) (pd w9 hr (Aa (pd wQ hr (Aa (Ap (pv 0) rfl) (Aa (Ap (pv 0) rfl) (Aa (Ai Ag (pv 1) (Af)) Ab)))) Ab))))),?_⟩
  have k:RetS D C H a (if isGroup h.parties i=false then(h,[-1])else(h,0::(List.range 6).flatMap fun r=>(membersOf h.parties i.toNat).flatMap fun j=>qRow (shareOf (setRule h.parties i.toNat r) h.water j))) Q:=by
   have:=k;rw[show Vbirad.step h (.rules (([i]:List Int).getD 0 0))=onSharing h fun ps=>if isGroup ps i=false then(h,[-1])else(h,0::(List.range 6).flatMap fun r=>(membersOf ps i.toNat).flatMap fun j=>qRow (shareOf (setRule ps i.toNat r) h.water j)) from rfl,onSh hne]at this;exact this
  have hat0:atI ([i].map V.int) (0:Int)=some (.int i):=A4 (j:=0) rfl;have dr0:=dr;obtain⟨⟨dx,l,h1,h2⟩,wf⟩ :=dr;refine⟨_,rfl,a,dx,_,rfl,h1,Ls,_,rfl,p,_,_,_,rfl,rfl,hl,hat0,h,a,i,rfl,dr0,?_⟩;rintro _ H2 s2 rfl;refine⟨_,rfl,?_⟩;refine iteB (fun c1=>?_) (fun c1=>?_)
  ·have c1:isGroup h.parties i=false:=by simpa using c1
   rw[if_pos c1]at k;exact⟨by show 1<=sizeLine;decide,ret1 (.of s2) (dr0.keep s2) k⟩
  ·have c1:isGroup h.parties i=true:=by simpa using c1
   rw[if_neg (by rw[c1];simp)]at k;obtain⟨j,pt,rfl,ep⟩ :=Bw c1;obtain⟨hg,_⟩ :=Gb wf ep c1;rw[Int.toNat_natCast,J4 ep,cV wf h.water ep hg]at k;have hlen:(allRules (clm h.parties pt) (wts h.parties pt) (shareOf h.parties h.water j) (List.range 6)).length<=48:=by
    rw[F8 _ _ _ (wok wf ep).len];have:=wf.few pt (List.mem_of_getElem? ep);unfold clm;rw[List.length_map,List.length_range];omega
   refine⟨by show 1<=sizeLine;decide,fun q hq=>?_⟩;have s1:Same H (upd H2 q (.lst [.int 0])):=s2.updT hq;have hq1:(upd H2 q (.lst [.int 0])) q=some (.lst [.int 0]):=Ae;generalize upd H2 q (.lst [.int 0])=H1 at s1 hq1;refine⟨_,rfl,a,D,dx,_,_,rfl,s1 _ _ h1,Z.cl,Z.nParties,Au,_,rfl,a,D,dx,_,_,rfl,s1 _ _ h1,Z.cl,Z.nWater,Cq,_,rfl,p,_,_,_,rfl,rfl,s1.seq hl,hat0,h.parties,h.water,j,pt,_,rfl,(h2.keep s1).lst,wf,ep,?_⟩;intro v3 H3 s3 f3;refine⟨_,_,rfl,f3.lst,by omega,?_⟩;rintro _ H4 s4 ⟨pf,zs,rfl,hpf,izs⟩;obtain rfl:=C3 izs;refine⟨q,pf,_,_,rfl,rfl,s4 _ _ (s3 _ _ hq1),hpf,?_,fun T2 hT2=>?_⟩
   ·rw[List.length_map,Mb];exact Nat.le_trans (show _<=97 by simp;omega) (by decide)
   ·have sT:=((s1.trans s3).trans s4).updT (o:=.lst ([.int 0]++((allRules (clm h.parties pt) (wts h.parties pt) (shareOf h.parties h.water j) (List.range 6)).flatMap qRow).map V.int)) hT2;exact k _ _ (.of sT) (dr0.keep sT) ⟨T2,_,rfl,Ae,C2 (0::(allRules (clm h.parties pt) (wts h.parties pt) (shareOf h.parties h.water j) (List.range 6)).flatMap qRow)⟩
end
theorem aQ{l wt:V}:(df l wt).lookup ("has_member":Str)=none:=by rfl
theorem iK{a b:Q}(ha:ShB 29 a)(hb:ShB 29 b):∃D W,AO1 D W (Vbirad.sub a b):=by
 obtain⟨D1,V1,b1,d01,d11,v11⟩ :=ha.ex;obtain⟨D2,V2,b2,d02,d12,v12⟩ :=hb.ex;refine⟨D1 * D2,V1 + V2,Bd.sub (b1.mono (Nat.dvd_mul_right _ _) (Nat.le_refl _)) (b2.mono (Nat.dvd_mul_left _ _) (Nat.le_refl _)),Nat.mul_pos d01 d02,?_,?_⟩
 ·refine vA (Nat.mul_le_mul d11 d12) ?_;rw[<-Nat.pow_add];exact vN (by decide) (by decide)
 ·refine vA (Nat.add_le_add v11 v12) ?_;show 2^390 + 2^390<=2^400;decide
abbrev lft(pt:Party)(j:Nat):List Nat:=(mem pt).filter fun k=>k !=j
theorem eR{ps:List Party}(wf:PWf ps){i:Nat}{pt:Party}(ep:ps[i]? =some pt)(j:Nat):COk ((lft pt j).map (Vbirad.claim ps))/\WOk ((lft pt j).map (Vbirad.claim ps)) (weightsIn ps (lft pt j)):=by
 have hc:=cok wf ep;have hw:=wok wf ep;have hs:∀m∈lft pt j,m∈mem pt:=fun m hm=>(List.mem_filter.mp hm).1;have hfew:=wf.few pt (List.mem_of_getElem? ep);have hl:(lft pt j).length<=(mem pt).length:=List.length_filter_le _ _;refine⟨⟨by rw[List.length_map];omega,fun c h=>?_⟩,⟨by unfold weightsIn;rw[List.length_map,List.length_map],fun x hx=>?_⟩⟩
 ·obtain⟨m,hm,rfl⟩ :=vL h;exact hc.each _ (List.mem_map.mpr ⟨m,hs m hm,rfl⟩)
 ·unfold weightsIn at hx;obtain⟨m,hm,rfl⟩ :=List.mem_map.mp hx;exact hw.each _ (List.mem_map.mpr ⟨m,hs m hm,rfl⟩)
section
variable {P:Program}{w:World}{K:PySem.W.Frag}{mg:Str->Option Value}{base:Heap}{C D:Addr}
inductive spDr2(D C:Addr)(vs:List V)(H:Hp)(Q:VK)(_e3:XK):Prop|m:∀(h:House) (a:Addr) (i j:Int),vs= [.ref a,.int i,.int j]->DrAt D C h a H->Ret H (IsB (isMember h.parties i j)) Q->spDr2 D C vs H Q _e3
abbrev Dx:Stmt:=inClass (top 98) 4
theorem Hl:FnScope ["self","group","number"] ["self","group","number"] (defScope Dx):=fS
theorem Qw{D:Addr}(F:FunM K D "has_member" "Drought.has_member" Dx)(Y:Pty K mg C)(Z:Drg K mg D)(wD:Mdf P w K mg base D 2 "has_group" ["self","number"] (spDr D C isGroup)):
  Mdf P w K mg base D 3 "has_member" ["self","group","number"] (spDr2 D C):=by
 refine Mdf.of F Hl (fun vs H Q E h=>?_) (fun f cdv A outer s H vs Q E hr h=>?_)
 ·obtain⟨h,a,i,j,rfl,_⟩ :=h;rfl
 ·obtain⟨h,a,i,j,rfl,dr,k⟩ :=h;refine⟨_,Ad (Ah (Xo (pm1 wD (pv 0) Z.cl hr (Aa (pv 1) Ab)) (Tp (D9 D4 (pv 2) (Ap (Ai Ag (Ap (pv 0) rfl) (pv 1)) rfl) (by with_unfolding_all rfl))))),?_⟩;have dr0:=dr;obtain⟨⟨dx,l,h1,h2⟩,wf⟩ :=dr;refine⟨_,rfl,a,dx,_,rfl,h1,Ls,_,rfl,h,a,i,rfl,dr0,?_⟩;rintro _ H2 s2 rfl;refine⟨_,rfl,?_⟩;refine iteB (fun c1=>?_) (fun c1=>?_)
  ·obtain⟨g,p,rfl,ep⟩ :=Bw c1;obtain⟨as,g1,g2,g3⟩ :=(h2.keep s2).ex;obtain⟨x,hx,b,rfl,dy,pm,nm,q1,q2,q3⟩ :=(ptsIts (C:=C) g2).get ep;refine⟨_,rfl,_,rfl,a,D,dx,_,_,rfl,s2 _ _ h1,Z.cl,Z.nParties,Au,_,rfl,l,_,_,_,rfl,rfl,SqL.of g1,atN hx,b,C,dy,_,_,rfl,q1,Y.cl,Y.nMembers,Bj,pm,_,rfl,.inl (SqL.of q3),rfl,S5 _,k _ _ s2 ?_⟩;show V.bl _=V.bl _;rw[Mo wf ep c1];rfl
  ·refine k _ _ s2 ?_;show V.bl _=V.bl _;unfold isMember;rw[c1];rfl
def wShares(ps:List Party)(e i j:Nat)(pt:Party):List (Nat×Q):=(lft pt j).zip (shareBy (rul pt) (cQ ((lft pt j).map (Vbirad.claim ps))) (weightsIn ps (lft pt j)) (Vbirad.sub (shareOf ps e i) (shareOf ps e j)))
inductive spWithout(K:PySem.W.Frag)(C:Addr)(vs:List V)(H:Hp)(Q:VK)(_e3:XK):Prop|m:∀(ps:List Party) (e i j:Nat) (pt:Party) (v:V),vs= [v,.int (e:Int),.int (i:Int),.int (j:Int)]->Lst K (PtR C) ps v H->PWf ps->ps[i]? =some pt->j < ps.length->Ret H (Own (Par K IsN (Fra K)) (wShares ps e i j pt)) Q->spWithout K C vs H Q _e3
abbrev Fn:Stmt:=top 81
theorem A3:FnScope ["parties","water","group","gone","claims","shares","left","wanted","weights","given","member"] ["parties","water","group","gone"] (defScope Fn):=fS
theorem Kt(F:FunN K mg "shares_without" Fn)(T:Blt mg)(Y:Pty K mg C)(wB:Df P w K mg base 2 "all_claims" ["parties"] (spClaims K C))(wA:Df P w K mg base 10 "all_shares" ["parties","water"] (spShares K C))
  (wJ:Df P w K mg base 9 "shares_by" ["rule","amount","claims","weights"] (spRuleE K (fun r e cs ws=>Own (Fra K) (shareBy r (cQ cs) ws e)) fun r=>r<=5)) (wH:Df P w K mg base 3 "minus" ["left","right"] (sp2 K fun a b=>Fra K (Vbirad.sub a b))):
  Df P w K mg base 11 "shares_without" ["parties","water","group","gone"] (spWithout K C):=by
 refine Df.of F A3 (fun vs H Q E h=>?_) (fun f cdv A outer s H vs Q E hr h=>?_)
 ·obtain⟨ps,e,i,j,pt,v,rfl,_⟩ :=h;rfl
 ·obtain⟨ps,e,i,j,pt,v,rfl,lp,wf,hpt,hj,k⟩ :=h;refine⟨_,Ac (Aj (i:=4) A3.nd rfl (Or.inr rfl) (pd wB hr (Aa (pv 0) Ab)))
   (Ac (Aj (i:=5) A3.nd rfl (Or.inl rfl) (pd wA hr (Aa (pv 0) (Aa (pv 1) Ab))))
   (Ac (Cs (i:=6) (own:=[("member",10)]) rfl A3.nd rfl rfl (Du rfl rfl rfl (by rfl)) (A0 (Ap (Ai Ag (pv 0) (pv 2)) rfl)) (Ax (by rfl)) (fun _ _ _ _ _=>Am (i:=10) A3.nd rfl (Or.inl rfl)) (fun _ _ _ _ _=>Jk (At Kv (pv 10) (pv 3) (nomark _))) (fun _ _ _ _ _=>pv 10))
   (Ac (Cs (i:=7) (own:=[("member",10)]) rfl A3.nd rfl rfl (Du rfl rfl rfl (by rfl)) (A0 (pv 6)) (Ax (by rfl)) (fun _ _ _ _ _=>Am (i:=10) A3.nd rfl (Or.inl rfl)) (fun _ _ _ _ _=>A6) (fun _ _ _ _ _=>Ai (Ci (K:=K) rfl) (pv 4) (pv 10)))
   (Ac (Cs (i:=8) (own:=[("member",10)]) rfl A3.nd rfl rfl (Du rfl rfl rfl (by rfl)) (A0 (pv 6)) (Ax (by rfl)) (fun _ _ _ _ _=>Am (i:=10) A3.nd rfl (Or.inl rfl)) (fun _ _ _ _ _=>A6) (fun _ _ _ _ _=>Kx (K:=K) rfl (Ai (Ci (K:=K) rfl) (pv 0) (pv 10)) rfl))
   (Ac (Aj (i:=9) A3.nd rfl (Or.inl rfl) (pd wJ hr (Aa (Ap (Ai Ag (pv 0) (pv 2)) rfl) (Aa (pd wH hr (Aa (Ai Ag (pv 5) (pv 2)) (Aa (Ai Ag (pv 5) (pv 3)) Ab))) (Aa (pv 7) (Aa (pv 8) Ab))))))
   (Ad (Ah (Pw rfl rfl T.zip rfl T.list (Aa (pv 6) (Aa (pv 9) Ab)))))))))),?_⟩
  have hi:=(List.getElem?_eq_some_iff.mp hpt).1;have hne:ps≠[]:=fun z=>by rw[z]at hi;simp at hi
  have hfew:=wf.few pt (vD hpt);have hl8:(lft pt j).length<=8:=vA (List.length_filter_le _ _) hfew;have hsub:∀m∈lft pt j,m∈mem pt:=fun m hm=>(List.mem_filter.mp hm).1;refine⟨_,rfl,ps,v,rfl,lp,wf,?_⟩;rintro _ H1 s1 ⟨qc,yc,rfl,hqc,iyc⟩;refine⟨_,rfl,_,rfl,ps,e,v,rfl,Lst.keep Bv _ _ _ _ s1 lp,wf,hne,?_⟩;rintro qs H2 s2 _ ⟨_,ys,hqq,hqs,iys⟩;obtain rfl:=V.ref.inj hqq;obtain⟨vi,hvi,fvi⟩ :=iys.get (Bg wf e hi);obtain⟨vj,hvj,fvj⟩ :=iys.get (Bg wf e hj);have s12:=s1.trans s2;obtain⟨p,xs,rfl,hl,hi2⟩ :=id lp;obtain⟨xa,hxa,ap,rfl,dx,pm,nm,h1,h2,h3⟩ :=hi2.get hpt;have WM:Seqs (Itl K pm) (Same H2) (mem pt) IsN:=As (xs:=mV pt) fun H' sm=> ⟨sm.seq (SqL.of (s12 _ _ h3)),Gg⟩;refine⟨_,rfl,_,rfl,p,xs,_,_,rfl,rfl,s12.seq hl,atN hxa,ap,C,dx,_,_,rfl,s12 _ _ h1,Y.cl,Y.nMembers,Bj,pm,rfl,⟨_,SqL.of (s12 _ _ h3)⟩,Jf (as:=mem pt) (R:=IsN) (S:=IsN) (fun m=>m !=j) id Bp WM (line9 (by omega)) (fun m x H' Qe Nx hm sm' rx k1 k2=>?_) (fun ql zl H3 s3 hql ol=>?_)⟩
  ·obtain rfl:x=V.int (m:Int):=rx;refine⟨rfl,_,rfl,_,rfl,rfl,_,rfl,?_⟩;have eb:(!decide ((m:Int)=(j:Int)))=(m !=j):=by
    rw[Bool.eq_iff_iff];simp;omega
   refine iteB (fun hb=>?_) (fun hb=>?_)
   ·rw[Br,eb]at hb;exact⟨_,rfl,k1 hb _ _ (Same.refl _) rfl⟩
   ·rw[Br,eb]at hb;exact k2 hb _ (Same.refl _)
  rw[List.map_id]at ol;have s13:=s12.trans s3;have WL:∀Hx,Same H3 Hx->Seqs (Itl K ql) (Same Hx) (lft pt j) IsN:=fun Hx sx=>As (xs:=zl) fun H' sm=> ⟨(sx.trans sm).seq (SqL.of hql),ol.keep fun _ _ r=>r⟩;refine⟨_,rfl,ql,rfl,⟨_,SqL.of hql⟩,Bx (as:=lft pt j) (R:=IsN) (S:=IsN) (Vbirad.claim ps) Bp (WL _ (Same.refl _)) (line9 (by omega)) (fun m x H' Qe hm sm' rx kk=>?_) (fun _ _ _ _ h q=>A2 h q) (fun qw zw H4 s4 hqw ow=>?_)⟩
  ·obtain rfl:x=V.int (m:Int):=rx;obtain⟨y,hy,ry⟩ :=iyc.get (Bs (E2 wf hpt m (hsub m hm)));obtain rfl:y=V.int ((Vbirad.claim ps m:Nat):Int):=ry;exact⟨rfl,_,rfl,_,rfl,qc,yc,_,_,rfl,rfl,SqL.of (sm' _ _ (s3 _ _ (s2 _ _ hqc))),atN hy,kk _ _ (Same.refl _) rfl⟩
  have s14:=s13.trans s4;refine⟨_,rfl,ql,rfl,⟨_,SqL.of (s4 _ _ hql)⟩,Bx (as:=lft pt j) (R:=IsN) (S:=IsN) (fun i=>((ps[i]?).map fun p=>p.weight).getD 1) Bp (WL _ s4) (line9 (by omega)) (fun m x H' Qe hm sm' rx kk=>?_) (fun _ _ _ _ h q=>A2 h q) (fun qv zv H5 s5 hqv ov=>?_)⟩
  ·obtain rfl:x=V.int (m:Int):=rx;obtain⟨pt2,hpt2⟩ :∃q,ps[m]? =some q:= ⟨_,vC (E2 wf hpt m (hsub m hm))⟩;obtain⟨y,hy,a2,rfl,dx2,pm2,nm2,g1,g2,g3⟩ :=hi2.get hpt2;refine⟨rfl,_,rfl,_,rfl,p,xs,_,_,rfl,rfl,(s14.trans sm').seq hl,atN hy,a2,C,dx2,_,_,rfl,(s14.trans sm') _ _ g1,Y.cl,Y.nWeight,Fy,kk _ _ (Same.refl _) ?_⟩;rw[hpt2];rfl
  have s15:=s14.trans s5;have s25:=(s3.trans s4).trans s5;obtain⟨co,wo⟩ :=eR wf hpt j;obtain⟨D',W',ao⟩ :=iK (Ip wf e i) (Ip wf e j);refine⟨_,rfl,_,rfl,p,xs,_,_,rfl,rfl,s15.seq hl,atN hxa,ap,C,dx,_,_,rfl,s15 _ _ h1,Y.cl,Y.nRule,Ji,_,rfl,_,rfl,qs,ys,_,_,rfl,rfl,SqL.of (s25 _ _ hqs),atN hvi,_,rfl,_,rfl,qs,ys,_,_,rfl,rfl,SqL.of (s25 _ _ hqs),atN hvj,_,_,vi,vj,750,750,rfl,fvi.keep s25,fvj.keep s25,(Bq wf e i).sz (by decide),(Bq wf e j).sz (by decide),by decide,fun vd H6 s6 f6=>?_⟩;refine⟨_,rfl,_,rfl,rul pt,_,(lft pt j).map (Vbirad.claim ps),weightsIn ps (lft pt j),D',W',vd,.ref qw,.ref qv,rfl,f6,⟨qw,zw,rfl,SqL.of (s6 _ _ (s5 _ _ hqw)),ow⟩,⟨qv,zv,rfl,SqL.of (s6 _ _ hqv),ov⟩,wf.rule pt (vD hpt),ao,co,wo,?_⟩;rintro qg H7 s7 nqg ⟨_,zg,hgg,hqg,ig⟩;obtain rfl:=V.ref.inj hgg;have s37:=((s4.trans s5).trans s6).trans s7;refine⟨_,rfl,_,rfl,ql,qg,zl,zg,rfl,SqL.of (s37 _ _ hql),SqL.of hqg,fun l0 pr H8 s8 h8 hlen hps=>k _ _ (((s15.trans s6).trans s7).trans s8) ⟨l0,pr,rfl,h8,?_⟩⟩;exact W7 (ol.keep fun a v r=>r) (ig.keep fun a v r=>Fra.keep r s8) hlen hps
abbrev mRow(x:Nat×Q):List Int:=(x.1:Int)::qRow x.2
theorem Zp(l:List (Nat×Q)):(l.flatMap mRow).length=3 * l.length:=by
 induction l with
 |nil=>rfl
 |cons q qs ih=>rw[List.flatMap_cons,vI,ih];show 3 + 3 * qs.length=3 * (qs.length + 1);omega
abbrev G7:Stmt:=top 111
theorem Cj:FnScope ["drought","numbers","row","left","told","member","share"] ["drought","numbers","row"] (defScope G7):=fS
theorem Nh(F:FunN K mg "answer_leave" G7)(T:Blt mg)(S:Shc mg)(Z:Drg K mg D)(wP:Mdf P w K mg base D 3 "has_member" ["self","group","number"] (spDr2 D C))(w6:Df P w K mg base 11 "shares_without" ["parties","water","group","gone"] (spWithout K C)):
  Df P w K mg base 12 "answer_leave" ["drought","numbers","row"] (spAns K D C 2 fun ns _=>.leave (ns.getD 0 0) (ns.getD 1 0)):=by
 refine Df.of F Cj (fun vs H Q E h=>?_) (fun f cdv A outer s H vs Q E hr h=>?_)
 ·obtain⟨h,a,ns,row,nv,rv,rfl,_⟩ :=h;rfl
 ·obtain⟨h,a,ns,row,_,rv,rfl,dr,hne,⟨p,xs,rfl,hl,hi⟩,hn,_,_,k⟩ :=h;obtain rfl:=C3 hi;obtain⟨i,c,rfl⟩ :=Mg hn;refine⟨_,Ac (A1 (Bf (Bk (pm1 wP (pv 0) Z.cl hr (Aa (Ai Ag (pv 1) (Af)) (Aa (Ai Ag (pv 1) (Af)) Ab)))))
    (Ad (Ah (Av (Aa (pgc S.OUT_OF_RANGE) Ab))))
    (Aq))
   (Ac (Aj (i:=3) Cj.nd rfl (Or.inl rfl) (pd w6 hr (Aa (Ap (pv 0) rfl) (Aa (Ap (pv 0) rfl) (Aa (Ai Ag (pv 1) (Af)) (Aa (Ai Ag (pv 1) (Af)) Ab))))))
   (Ac (Aj (i:=4) Cj.nd rfl (Or.inl rfl) (Av (Aa (pgc S.DONE) (Aa (Ao An (by rfl) T.len PySem.boot_len (Aa (pv 3) Ab)) Ab))))
   (Ac (Ch PassesOwn.never rfl (A0 (pv 3)) (J9 rfl (A5 (Am (i:=5) Cj.nd rfl (Or.inl rfl)) (A5 (Am (i:=6) Cj.nd rfl (Or.inl rfl)) (C6))))
    (Ac (Cg (Eh PySem.F.plainAttrs_list PySem.F.slot_list_append PySem.F.type_list_append Dc (pv 4) (Aa (pv 5) Ab)))
    (Ad (Cg (Eh PySem.F.plainAttrs_list PySem.F.slot_list_extend PySem.F.type_list_extend O8 (pv 4) (Aa (pv 6) Ab))))))
   (Ad (Ah (pv 4)))))),?_⟩
  have k:RetS D C H a (if isMember h.parties i c=false then(h,[-1])else(h,0::((Vbirad.leave h.parties h.water i.toNat c.toNat).length:Int)::(Vbirad.leave h.parties h.water i.toNat c.toNat).flatMap mRow)) Q:=by
   have:=k;rw[show Vbirad.step h (.leave (([i,c]:List Int).getD 0 0) (([i,c]:List Int).getD 1 0))=onSharing h fun ps=>if isMember ps i c=false then(h,[-1])else(h,0::((Vbirad.leave ps h.water i.toNat c.toNat).length:Int)::(Vbirad.leave ps h.water i.toNat c.toNat).flatMap mRow) from rfl,onSh hne]at this;exact this
  have hat0:atI ([i,c].map V.int) (0:Int)=some (.int i):=A4 (j:=0) rfl;have hat1:atI ([i,c].map V.int) (1:Int)=some (.int c):=A4 (j:=1) rfl;have dr0:=dr;obtain⟨⟨dx,l,h1,h2⟩,wf⟩ :=dr;refine⟨_,rfl,a,dx,_,rfl,h1,aQ,_,rfl,p,_,_,_,rfl,rfl,hl,hat0,_,rfl,p,_,_,_,rfl,rfl,hl,hat1,h,a,i,c,rfl,dr0,?_⟩;rintro _ H2 s2 rfl;refine⟨_,rfl,?_⟩;refine iteB (fun c1=>?_) (fun c1=>?_)
  ·have c1:isMember h.parties i c=false:=by simpa using c1
   rw[if_pos c1]at k;exact⟨by show 1<=sizeLine;decide,ret1 (.of s2) (dr0.keep s2) k⟩
  have c1:isMember h.parties i c=true:=by simpa using c1
  rw[if_neg (by rw[c1];simp)]at k;have c2:=c1;unfold isMember at c2;rw[Bool.and_eq_true,Bool.and_eq_true]at c2;obtain⟨g,pt,rfl,ep⟩ :=Bw c2.1;obtain⟨j,pj,rfl,ej⟩ :=Ba.mp c2.2.1;obtain⟨hg,r,ms,hk⟩ :=Gb wf ep c2.1;obtain⟨r1,r2,r3,r4⟩ :=Gm ep hk;have elv:Vbirad.leave h.parties h.water g j=wShares h.parties h.water g j pt:=by
   unfold Vbirad.leave wShares;dsimp only;rw[r2,r1,r3,Ef];unfold lft;rw[r4]
  rw[vM,vM,elv]at k;refine⟨_,rfl,a,D,dx,_,_,rfl,s2 _ _ h1,Z.cl,Z.nParties,Au,_,rfl,a,D,dx,_,_,rfl,s2 _ _ h1,Z.cl,Z.nWater,Cq,_,rfl,p,_,_,_,rfl,rfl,s2.seq hl,hat0,_,rfl,p,_,_,_,rfl,rfl,s2.seq hl,hat1,h.parties,h.water,g,j,pt,_,rfl,(h2.keep s2).lst,wf,ep,(vF ej).1,?_⟩;rintro _ H3 s3 ⟨pl,zl,rfl,hpl,izl⟩;have s23:=s2.trans s3;have lz:=izl.len;have hw8:(wShares h.parties h.water g j pt).length<=8:=by
   unfold wShares;rw[List.length_zip];have:(lft pt j).length<=8:=Nat.le_trans (List.length_filter_le _ _) (wf.few pt (List.mem_of_getElem? ep));omega
  generalize wShares h.parties h.water g j pt=ws at k izl lz hw8;refine⟨_,rfl,pl,_,rfl,.inl (SqL.of hpl),by show 2<=sizeLine;decide,fun q hq=>?_⟩;have s4:Same H3 (upd H3 q (.lst [.int 0,.int (zl.length:Int)])):=Same.upd hq;have hq4:(upd H3 q (.lst [.int 0,.int (zl.length:Int)])) q=some (.lst [.int 0,.int (zl.length:Int)]):=Ae;generalize upd H3 q (.lst [.int 0,.int (zl.length:Int)])=H4 at s4 hq4;have s24:=s23.trans s4;rw[<-lz]at hq4;have fl:Flat (Par K IsN (Fra K)):=Sr Bp A7;have npl:pl≠q:=Al hpl hq;have hqH:H q=none:=Same.free s23 hq;refine⟨_,rfl,pl,rfl,⟨_,SqL.of (s4 _ _ hpl)⟩,Bi (B:=fun H'=>H' pl=some (.lst zl)/\Tk H3 H') (as:=ws) (R:=Par K IsN (Fra K)) (As (xs:=zl) fun H' hB=> ⟨SqL.of hB.1,izl.keep fun _ _ r=>fl _ _ _ _ hB.2 r⟩)
   (fun t σ H'=>Same H H'/\H' pl=some (.lst zl)/\Tk H3 H'/\∃(a1 a2:Option V),σ= [some (.ref a),some (.ref p),some rv,some (.ref pl),some (.ref q),a1,a2]/\H' q=some (.lst ((0::(ws.length:Int)::(ws.take t).flatMap mRow).map V.int)))
   ⟨s24,s4 _ _ hpl,Tk.of s4,none,none,rfl,hq4⟩ (fun t σ H' h=> ⟨h.2.1,h.2.2.1⟩) ?_ ?_⟩
  ·rintro t x v σ H5 H6 hx ⟨sm,hp5,tk5,a1,a2,rfl,hq5⟩ s6 ⟨tp,b1,b2,rfl,ht,hb1,hb2⟩;obtain rfl:b1=V.int (x.1:Int):=hb1;obtain⟨px,rfl,hpx⟩ :=hb2;have htl:=(vF hx).1;have hq6:=s6 _ _ hq5;have hlen:((0::(ws.length:Int)::(ws.take t).flatMap mRow).map V.int).length<=26:=by
    rw[vB,vK,vK,Zp,vU];omega
   refine⟨tp,_,rfl,ht,rfl,_,_,rfl,_,_,rfl,rfl,?_⟩;refine⟨_,rfl,.inl ⟨rfl,_,SqL.of hq6⟩,_,rfl,q,_,_,rfl,rfl,hq6,small1000 (by omega),?_⟩;have tk7:Tk H6 (upd H6 q (.lst ((0::(ws.length:Int)::(ws.take t).flatMap mRow).map V.int++[V.int (x.1:Int)]))):=Tk.updL hq6;refine⟨_,rfl,.inl ⟨rfl,_,SqL.of Ae⟩,_,rfl,q,px,_,_,rfl,rfl,Ae,tk7.seqT hpx,?_,?_⟩
   ·rw[vI,List.length_singleton];exact Nat.le_of_lt (small1000 (by show _ + 2<=_;omega))
   refine⟨fun b o eb=>?_,?_,?_,_,_,rfl,?_⟩
   ·have hb:=Al eb hqH;rw[Ak hb,Ak hb];exact s6 _ _ (sm _ _ eb)
   ·rw[Ak npl,Ak npl];exact s6 _ _ hp5
   ·exact((tk5.trans (Tk.of s6)).trans tk7).trans (Tk.updL Ae)
   ·rw[Ae,Bm hx,List.flatMap_append];congr 2;simp[mRow,qRow]
  ·rintro σ H5 ⟨sm,hp5,tk5,a1,a2,rfl,hq5⟩;rw[v6]at hq5;exact⟨_,rfl,k _ _ (.of sm) (dr0.keep sm) ⟨q,_,rfl,hq5,C2 _⟩⟩
end
theorem Yn{H:Hp}{cs:List Nat}{xs:List V}{p:Nat}{a b:Nat}(h:Its IsN H cs xs):Its IsN H (twoC cs p a b) (xs.take p++[V.int (a:Int),V.int (b:Int)]++xs.drop (p + 1)):=by
 unfold twoC;exact Its.app (Its.app (h.take p) (.cons rfl (.cons rfl .nil))) (h.drop (p + 1))
theorem dG{ns:List Int}(h:ns.length=3):∃i c d,ns= [i,c,d]:=by
 match ns,h with
 | [i,c,d],_=>exact⟨i,c,d,rfl⟩
section
variable {P:Program}{w:World}{K:PySem.W.Frag}{mg:Str->Option Value}{base:Heap}{C D:Addr}
inductive spTwo(K:PySem.W.Frag)(C:Addr)(vs:List V)(H:Hp)(Q:VK)(_e3:XK):Prop|m:∀(ps:List Party) (e i j a r:Nat) (pt:Party) (ms:List Nat) (v:V),vs= [v,.int (e:Int),.int (i:Int),.int (j:Int),.int (a:Int)]->Lst K (PtR C) ps v H->PWf ps->ps[i]? =some pt->pt.kind=.group r ms->j∈mem pt->a<=Vbirad.claim ps j->Ret H (Fra K (Vbirad.split ps e i j a)) Q->spTwo K C vs H Q _e3
abbrev Hk:Stmt:=top 82
theorem Bo:FnScope ["parties","water","group","member","claim","claims","weights","place","weight","given"] ["parties","water","group","member","claim"] (defScope Hk):=fS
theorem Nu(F:FunN K mg "share_as_two" Hk)(Y:Pty K mg C)(wI:Df P w K mg base 3 "member_claims" ["parties","group"] (spMem K C clm))(wE:Df P w K mg base 1 "member_weights" ["parties","group"] (spMem K C wts))(wA:Df P w K mg base 10 "all_shares" ["parties","water"] (spShares K C))
  (wJ:Df P w K mg base 9 "shares_by" ["rule","amount","claims","weights"] (spRuleE K (fun r e cs ws=>Own (Fra K) (shareBy r (cQ cs) ws e)) fun r=>r<=5)) (uR:Df P w K mg base 3 "plus" ["left","right"] (sp2 K fun a b=>Fra K (Vbirad.add a b))):
  Df P w K mg base 11 "share_as_two" ["parties","water","group","member","claim"] (spTwo K C):=by
 refine Df.of F Bo (fun vs H Q E h=>?_) (fun f cdv A outer s H vs Q E hr h=>?_)
 ·obtain⟨ps,e,i,j,a,r,pt,ms,v,rfl,_⟩ :=h;rfl
 ·obtain⟨ps,e,i,j,a,r,pt,ms,v,rfl,lp,wf,hpt,hkind,hjm,hale,k⟩ :=h;refine⟨_,Ac (Aj (i:=5) Bo.nd rfl (Or.inl rfl) (pd wI hr (Aa (pv 0) (Aa (pv 2) Ab))))
   (Ac (Aj (i:=6) Bo.nd rfl (Or.inl rfl) (pd wE hr (Aa (pv 0) (Aa (pv 2) Ab))))
   (Ac (Aj (i:=7) Bo.nd rfl (Or.inl rfl) (Eh PySem.F.plainAttrs_list PySem.F.slot_list_index PySem.F.type_list_index U2 (Ap (Ai Ag (pv 0) (pv 2)) rfl) (Aa (pv 3) Ab)))
   (Ac (Aj (i:=8) Bo.nd rfl (Or.inl rfl) (Ai Ag (pv 6) (pv 7)))
   (Ac (Aj (i:=5) Bo.nd rfl (Or.inl rfl) (Az Cf (Az Cf (Cr Ds (pv 5) Eu (C0 (pv 7))) (Av (Aa (pv 4) (Aa (Az J8 (Ai Ag (pv 5) (pv 7)) (pv 4)) Ab)))) (Cr Ds (pv 5) (C0 (Az B7 (pv 7) (Af))) Eu)))
   (Ac (Aj (i:=6) Bo.nd rfl (Or.inl rfl) (Az Cf (Az Cf (Cr Ds (pv 6) Eu (C0 (pv 7))) (Av (Aa (pv 8) (Aa (pv 8) Ab)))) (Cr Ds (pv 6) (C0 (Az B7 (pv 7) (Af))) Eu)))
   (Ac (Aj (i:=9) Bo.nd rfl (Or.inl rfl) (pd wJ hr (Aa (Ap (Ai Ag (pv 0) (pv 2)) rfl) (Aa (Ai Ag (pd wA hr (Aa (pv 0) (Aa (pv 1) Ab))) (pv 2)) (Aa (pv 5) (Aa (pv 6) Ab))))))
   (Ad (Ah (pd uR hr (Aa (Ai Ag (pv 9) (pv 7)) (Aa (Ai Ag (pv 9) (Az B7 (pv 7) (Af))) Ab))))))))))),?_⟩
  have hi:=(List.getElem?_eq_some_iff.mp hpt).1;have hne:ps≠[]:=fun z=>by rw[z]at hi;simp at hi
  have hfew:=wf.few pt (List.mem_of_getElem? hpt);obtain⟨pc,hpc,hfi,hbefore⟩ :=cN hjm;have hpl:=(List.getElem?_eq_some_iff.mp hpc).1;have lclm:(clm ps pt).length=(mem pt).length:=by unfold clm;rw[List.length_map]
  have lwts:(wts ps pt).length=(mem pt).length:=by rw[(wok wf hpt).len,lclm]
  have hcc:(clm ps pt)[pc]? =some (Vbirad.claim ps j):=by unfold clm;rw[List.getElem?_map,hpc];rfl
  obtain⟨wj,hwj⟩ :∃wj,(wts ps pt)[pc]? =some wj:= ⟨_,List.getElem?_eq_getElem (by omega)⟩;rw[dA wf e hpt hkind hpc hfi hale wj hwj]at k;refine⟨_,rfl,_,rfl,ps,i,pt,v,rfl,lp,wf,hpt,?_⟩;rintro _ H1 s1 ⟨qc,yc,rfl,hqc,iyc⟩;refine⟨_,rfl,_,rfl,ps,i,pt,v,rfl,Lst.keep Bv _ _ _ _ s1 lp,wf,hpt,?_⟩;rintro _ H2 s2 ⟨qw,yw,rfl,hqw,iyw⟩;have s12:=s1.trans s2;have hqc2:=s2 _ _ hqc;obtain⟨p,xs,rfl,hl,hi2⟩ :=id lp;obtain⟨xa,hxa,ap,rfl,dx,pm,nm,h1,h2,h3⟩ :=hi2.get hpt;have lyc:=iyc.len;have lyw:=iyw.len;obtain⟨vc,hvc,rvc⟩ :=iyc.get hcc;obtain rfl:vc=V.int ((Vbirad.claim ps j:Nat):Int):=rvc;obtain⟨vw,hvw,rvw⟩ :=iyw.get hwj;obtain rfl:vw=V.int ((wj:Nat):Int):=rvw;refine⟨_,rfl,_,rfl,p,xs,_,_,rfl,rfl,s12.seq hl,atN hxa,ap,C,dx,_,_,rfl,s12 _ _ h1,Y.cl,Y.nMembers,Bj,.inl ⟨rfl,_,SqL.of (s12 _ _ h3)⟩,_,rfl,pm,mV pt,_,pc,.int (j:Int),rfl,rfl,SqL.of (s12 _ _ h3),rfl,S5 _,?_,(by show((j:Int) == (j:Int))=true;simp),?_,?_⟩
  ·unfold mV;rw[List.getElem?_map,hpc];rfl
  ·intro m z hm hz;unfold mV at hz;rw[List.getElem?_map]at hz;cases hx:(mem pt)[m]? with
   |none=>rw[hx]at hz;cases hz
   |some x=>
    rw[hx]at hz;have hz:some (V.int (x:Int))=some z:=hz;injection hz with hz
    rw[<-hz];show((x:Int) == (j:Int))=false;rw[beq_eq_false_iff_ne];have:=hbefore m x hm hx;omega
  refine⟨_,rfl,_,rfl,qw,yw,_,_,rfl,rfl,SqL.of hqw,atN hvw,?_⟩;refine⟨_,rfl,_,rfl,_,rfl,qc,yc,rfl,SqL.of hqc2,fun a1 na1=>?_⟩;rw[Oo yc pc (by omega)];have t1:Same H2 (upd H2 a1 (.lst (yc.take pc))):=Same.upd na1;have k1:(upd H2 a1 (.lst (yc.take pc))) a1=some (.lst (yc.take pc)):=Ae;generalize upd H2 a1 (.lst (yc.take pc))=H3 at t1 k1;refine⟨_,rfl,_,rfl,_,rfl,qc,yc,_,_,rfl,rfl,SqL.of (t1 _ _ hqc2),atN hvc,_,rfl,_,_,rfl,rfl,by show 2<=sizeLine;decide,fun a2 na2=>?_⟩;have esub:V.int (((Vbirad.claim ps j:Nat):Int) - (a:Int))=V.int ((Vbirad.claim ps j - a:Nat):Int):=by rw[Int.ofNat_sub hale]
  dsimp only;rw[esub];have t2:Same H3 (upd H3 a2 (.lst [.int (a:Int),.int ((Vbirad.claim ps j - a:Nat):Int)])):=Same.upd na2;have k2:(upd H3 a2 (.lst [.int (a:Int),.int ((Vbirad.claim ps j - a:Nat):Int)])) a2=some (.lst [.int (a:Int),.int ((Vbirad.claim ps j - a:Nat):Int)]):=Ae;generalize upd H3 a2 (.lst [.int (a:Int),.int ((Vbirad.claim ps j - a:Nat):Int)])=H4 at t2 k2;refine⟨a1,a2,_,_,rfl,rfl,t2 _ _ k1,k2,Nat.le_of_lt (line9 (by rw[List.length_take];show _ + 2<=9;omega)),fun a3 na3=>?_⟩;have t3:Same H4 (upd H4 a3 (.lst (yc.take pc++[.int (a:Int),.int ((Vbirad.claim ps j - a:Nat):Int)]))):=Same.upd na3;have k3:(upd H4 a3 (.lst (yc.take pc++[.int (a:Int),.int ((Vbirad.claim ps j - a:Nat):Int)]))) a3=some (.lst (yc.take pc++[.int (a:Int),.int ((Vbirad.claim ps j - a:Nat):Int)])):=Ae;generalize upd H4 a3 (.lst (yc.take pc++[.int (a:Int),.int ((Vbirad.claim ps j - a:Nat):Int)]))=H5 at t3 k3;have t123:=(t1.trans t2).trans t3;refine⟨_,rfl,_,rfl,_,_,rfl,rfl,_,rfl,qc,yc,rfl,SqL.of (t123 _ _ hqc2),fun a4 na4=>?_⟩;have ec:cutV yc (some ((pc:Int) + 1)) none=yc.drop (pc + 1):=Hs yc (pc + 1) (by omega);rw[ec];have t4:Same H5 (upd H5 a4 (.lst (yc.drop (pc + 1)))):=Same.upd na4;have k4:(upd H5 a4 (.lst (yc.drop (pc + 1)))) a4=some (.lst (yc.drop (pc + 1))):=Ae;generalize upd H5 a4 (.lst (yc.drop (pc + 1)))=H6 at t4 k4;refine⟨a3,a4,_,_,rfl,rfl,t4 _ _ k3,k4,Nat.le_of_lt (small1000 (by rw[List.length_append,List.length_take,List.length_drop];show _ + 2 + _<=1000;omega)),fun a5 na5=>?_⟩;have t5:Same H6 (upd H6 a5 (.lst (yc.take pc++[.int (a:Int),.int ((Vbirad.claim ps j - a:Nat):Int)]++yc.drop (pc + 1)))):=Same.upd na5;have k5:(upd H6 a5 (.lst (yc.take pc++[.int (a:Int),.int ((Vbirad.claim ps j - a:Nat):Int)]++yc.drop (pc + 1)))) a5=some (.lst (yc.take pc++[.int (a:Int),.int ((Vbirad.claim ps j - a:Nat):Int)]++yc.drop (pc + 1))):=Ae;generalize upd H6 a5 (.lst (yc.take pc++[.int (a:Int),.int ((Vbirad.claim ps j - a:Nat):Int)]++yc.drop (pc + 1)))=H7 at t5 k5;have t15:=(t123.trans t4).trans t5;have hqw7:=t15 _ _ hqw;have iC:∀Hx,Its IsN Hx (twoC (clm ps pt) pc a (Vbirad.claim ps j - a)) (yc.take pc++[.int (a:Int),.int ((Vbirad.claim ps j - a:Nat):Int)]++yc.drop (pc + 1)):=fun Hx=>Yn (iyc.keep fun _ _ r=>r);refine⟨_,rfl,_,rfl,_,rfl,qw,yw,rfl,SqL.of hqw7,fun b1 nb1=>?_⟩;rw[Oo yw pc (by omega)];have u1:Same H7 (upd H7 b1 (.lst (yw.take pc))):=Same.upd nb1;have m1:(upd H7 b1 (.lst (yw.take pc))) b1=some (.lst (yw.take pc)):=Ae;generalize upd H7 b1 (.lst (yw.take pc))=G1 at u1 m1;refine⟨_,rfl,_,rfl,by show 2<=sizeLine;decide,fun b2 nb2=>?_⟩;have u2:Same G1 (upd G1 b2 (.lst [.int (wj:Int),.int (wj:Int)])):=Same.upd nb2;have m2:(upd G1 b2 (.lst [.int (wj:Int),.int (wj:Int)])) b2=some (.lst [.int (wj:Int),.int (wj:Int)]):=Ae;generalize upd G1 b2 (.lst [.int (wj:Int),.int (wj:Int)])=G2 at u2 m2;refine⟨b1,b2,_,_,rfl,rfl,u2 _ _ m1,m2,Nat.le_of_lt (line9 (by rw[List.length_take];show _ + 2<=9;omega)),fun b3 nb3=>?_⟩;have u3:Same G2 (upd G2 b3 (.lst (yw.take pc++[.int (wj:Int),.int (wj:Int)]))):=Same.upd nb3;have m3:(upd G2 b3 (.lst (yw.take pc++[.int (wj:Int),.int (wj:Int)]))) b3=some (.lst (yw.take pc++[.int (wj:Int),.int (wj:Int)])):=Ae;generalize upd G2 b3 (.lst (yw.take pc++[.int (wj:Int),.int (wj:Int)]))=G3 at u3 m3;have u123:=(u1.trans u2).trans u3;refine⟨_,rfl,_,rfl,_,_,rfl,rfl,_,rfl,qw,yw,rfl,SqL.of (u123 _ _ hqw7),fun b4 nb4=>?_⟩;have ew:cutV yw (some ((pc:Int) + 1)) none=yw.drop (pc + 1):=Hs yw (pc + 1) (by omega);rw[ew];have u4:Same G3 (upd G3 b4 (.lst (yw.drop (pc + 1)))):=Same.upd nb4;have m4:(upd G3 b4 (.lst (yw.drop (pc + 1)))) b4=some (.lst (yw.drop (pc + 1))):=Ae;generalize upd G3 b4 (.lst (yw.drop (pc + 1)))=G4 at u4 m4;refine⟨b3,b4,_,_,rfl,rfl,u4 _ _ m3,m4,Nat.le_of_lt (small1000 (by rw[List.length_append,List.length_take,List.length_drop];show _ + 2 + _<=1000;omega)),fun b5 nb5=>?_⟩;have u5:Same G4 (upd G4 b5 (.lst (yw.take pc++[.int (wj:Int),.int (wj:Int)]++yw.drop (pc + 1)))):=Same.upd nb5
  have m5:(upd G4 b5 (.lst (yw.take pc++[.int (wj:Int),.int (wj:Int)]++yw.drop (pc + 1)))) b5=some (.lst (yw.take pc++[.int (wj:Int),.int (wj:Int)]++yw.drop (pc + 1))):=Ae;generalize upd G4 b5 (.lst (yw.take pc++[.int (wj:Int),.int (wj:Int)]++yw.drop (pc + 1)))=G5 at u5 m5;have u15:=(u123.trans u4).trans u5;have iW:∀Hx,Its IsN Hx (twoC (wts ps pt) pc wj wj) (yw.take pc++[.int (wj:Int),.int (wj:Int)]++yw.drop (pc + 1)):=fun Hx=>Yn (iyw.keep fun _ _ r=>r);have sG:Same H G5:=(s12.trans t15).trans u15;have hcm:=fY wf hpt;have co:Cm (twoC (clm ps pt) pc a (Vbirad.claim ps j - a)) (twoC (wts ps pt) pc wj wj):=by
   have l1:=Qj (cs:=clm ps pt) (p:=pc) (a:=a) (b:=Vbirad.claim ps j - a) (by omega);have l2:=Qj (cs:=wts ps pt) (p:=pc) (a:=wj) (b:=wj) (by omega);refine⟨by omega,fun c hc=>?_,by rw[dM hcc hale];exact hcm.sum,by omega,fun x hx=>?_⟩
   ·unfold twoC at hc;have hj30:=hcm.each _ (List.mem_of_getElem? hcc);rcases List.mem_append.mp hc with hc|hc
    ·rcases v7 hc with hc|hc
     ·exact hcm.each c (List.mem_of_mem_take hc)
     ·rcases vJ hc with hc|hc
      ·omega
      ·rcases vJ hc with hc|hc
       ·omega
       ·cases hc
    ·exact hcm.each c (List.mem_of_mem_drop hc)
   ·unfold twoC at hx;have hjw:=hcm.w _ (List.mem_of_getElem? hwj);rcases List.mem_append.mp hx with hx|hx
    ·rcases v7 hx with hx|hx
     ·exact hcm.w x (List.mem_of_mem_take hx)
     ·rcases vJ hx with hx|hx
      ·rw[hx];exact hjw
      ·rcases vJ hx with hx|hx
       ·rw[hx];exact hjw
       ·cases hx
    ·exact hcm.w x (List.mem_of_mem_drop hx)
  refine⟨_,rfl,_,rfl,p,xs,_,_,rfl,rfl,sG.seq hl,atN hxa,ap,C,dx,_,_,rfl,sG _ _ h1,Y.cl,Y.nRule,Ji,_,rfl,_,rfl,ps,e,_,rfl,Lst.keep Bv _ _ _ _ sG lp,wf,hne,?_⟩;rintro qs H8 s8 _ ⟨_,ys,hqq,hqs,iys⟩;obtain rfl:=V.ref.inj hqq;obtain⟨vi,hvi,fvi⟩ :=iys.get (Bg wf e hi);obtain⟨D',W',ao⟩ :=(Bq wf e i).ao (by decide);have sz:=P4 (r:=rul pt) (Ip wf e i) co;have hlen:(shareBy (rul pt) (cQ (twoC (clm ps pt) pc a (Vbirad.claim ps j - a))) (twoC (wts ps pt) pc wj wj) (shareOf ps e i)).length=(mem pt).length + 1:=by
   rw[Ei _ _ _ _ (by unfold cQ;rw[List.length_map];exact co.wlen)];unfold cQ;rw[List.length_map,Qj (by omega)];omega
  refine⟨_,rfl,qs,ys,_,_,rfl,rfl,SqL.of hqs,atN hvi,_,rfl,_,rfl,rul pt,_,twoC (clm ps pt) pc a (Vbirad.claim ps j - a),twoC (wts ps pt) pc wj wj,D',W',vi,.ref a5,.ref b5,rfl,fvi,⟨a5,_,rfl,SqL.of (s8 _ _ (u15 _ _ k5)),iC _⟩,⟨b5,_,rfl,SqL.of (s8 _ _ m5),iW _⟩,wf.rule pt (vD hpt),ao,⟨co.len,co.each⟩,⟨co.wlen,co.w⟩,?_⟩;rintro qg H9 s9 nqg ⟨_,zg,hgg,hqg,ig⟩;obtain rfl:=V.ref.inj hgg;generalize shareBy (rul pt) (cQ (twoC (clm ps pt) pc a (Vbirad.claim ps j - a))) (twoC (wts ps pt) pc wj wj) (shareOf ps e i)=X at ig k sz hlen;obtain⟨x1,hx1⟩ :∃x,X[pc]? =some x:= ⟨_,vC (by omega)⟩;obtain⟨x2,hx2⟩ :∃x,X[pc + 1]? =some x:= ⟨_,vC (by omega)⟩;obtain⟨w1,hw1,f1⟩ :=ig.get hx1;obtain⟨w2,hw2,f2⟩ :=ig.get hx2;rw[vS,vS,hx1,hx2]at k;have hat:atI zg ((pc:Int) + 1)=some w2:=atN (i:=pc + 1) hw2;exact⟨_,rfl,_,rfl,qg,zg,_,_,rfl,rfl,SqL.of hqg,atN hw1,_,rfl,_,rfl,_,_,rfl,rfl,qg,zg,_,_,rfl,rfl,SqL.of hqg,hat,x1,x2,w1,w2,750,750,rfl,f1,f2,(sz x1 (vD hx1)).sz (by decide),(sz x2 (vD hx2)).sz (by decide),by decide,fun z H10 s10 f10=>k _ _ ((sG.trans s8).trans (s9.trans s10)) f10⟩
abbrev He:Stmt:=top 112
theorem N1:FnScope ["drought","numbers","row"] ["drought","numbers","row"] (defScope He):=fS
theorem Nn(F:FunN K mg "answer_split" He)(T:Blt mg)(S:Shc mg)(Y:Pty K mg C)(Z:Drg K mg D)(wP:Mdf P w K mg base D 3 "has_member" ["self","group","number"] (spDr2 D C))(wK:Mdf P w K mg base D 2 "has_person" ["self","number"] (spDr D C isPerson))
  (uG:Df P w K mg base 11 "share_as_two" ["parties","water","group","member","claim"] (spTwo K C)):
  Df P w K mg base 12 "answer_split" ["drought","numbers","row"] (spAns K D C 3 fun ns _=>.split (ns.getD 0 0) (ns.getD 1 0) (ns.getD 2 0)):=by
 refine Df.of F N1 (fun vs H Q E h=>?_) (fun f cdv A outer s H vs Q E hr h=>?_)
 ·obtain⟨h,a,ns,row,nv,rv,rfl,_⟩ :=h;rfl
 ·obtain⟨h,a,ns,row,_,rv,rfl,dr,hne,⟨p,xs,rfl,hl,hi⟩,hn,_,_,k⟩ :=h;obtain rfl:=C3 hi;obtain⟨i,c,d,rfl⟩ :=dG hn;refine⟨_,Ac (A1 (PW.pt (Dv (Bf (Bk (pm1 wP (pv 0) Z.cl hr (Aa (Ai Ag (pv 1) (Af)) (Aa (Ai Ag (pv 1) (Af)) Ab))))) (C8 (Bf (Bk (pm1 wK (pv 0) Z.cl hr (Aa (Ai Ag (pv 1) (Af)) Ab)))))))
    (Ad (Ah (Av (Aa (pgc S.OUT_OF_RANGE) Ab))))
    (Aq))
   (Ac (A1 (Bf (Ct C4 C4 (Af) (Ai Ag (pv 1) (Af)) (Ap (Ai Ag (Ap (pv 0) rfl) (Ai Ag (pv 1) (Af))) rfl)))
    (Ad (Ah (Av (Aa (pgc S.OUT_OF_RANGE) Ab))))
    (Aq))
   (Ad (Ah (Az Cf (Av (Aa (pgc S.DONE) Ab)) (Cl Ce (by rfl) T.list boot_list (Aa (pd uG hr (Aa (Ap (pv 0) rfl) (Aa (Ap (pv 0) rfl) (Aa (Ai Ag (pv 1) (Af)) (Aa (Ai Ag (pv 1) (Af)) (Aa (Ai Ag (pv 1) (Af)) Ab)))))) Ab)))))),?_⟩
  have k:RetS D C H a (if (isMember h.parties i c&&(isPerson h.parties c&&Vbirad.within d 0 (Vbirad.claim h.parties c.toNat:Int)))=false then(h,[-1])else(h,0::qRow (Vbirad.split h.parties h.water i.toNat c.toNat d.toNat))) Q:=by
   have:=k;rw[show Vbirad.step h (.split (([i,c,d]:List Int).getD 0 0) (([i,c,d]:List Int).getD 1 0) (([i,c,d]:List Int).getD 2 0))=onSharing h fun ps=>if (isMember ps i c&&(isPerson ps c&&Vbirad.within d 0 (Vbirad.claim ps c.toNat:Int)))=false then(h,[-1])else(h,0::qRow (Vbirad.split ps h.water i.toNat c.toNat d.toNat)) from rfl,onSh hne]at this;exact this
  have hbad:∀H1,Same H H1->(isMember h.parties i c&&(isPerson h.parties c&&Vbirad.within d 0 (Vbirad.claim h.parties c.toNat:Int)))=false->∀q,H1 q=none->Q (.ref q) (upd H1 q (.lst [.int (-1)])):=fun H1 sm z=>by
   rw[if_pos z]at k;exact ret1 (.of sm) (dr.keep sm) k
  have hat0:atI ([i,c,d].map V.int) (0:Int)=some (.int i):=A4 (j:=0) rfl;have hat1:atI ([i,c,d].map V.int) (1:Int)=some (.int c):=A4 (j:=1) rfl;have hat2:atI ([i,c,d].map V.int) (2:Int)=some (.int d):=A4 (j:=2) rfl;have dr0:=dr;obtain⟨⟨dx,l,h1,h2⟩,wf⟩ :=dr;refine⟨_,rfl,a,dx,_,rfl,h1,aQ,_,rfl,p,_,_,_,rfl,rfl,hl,hat0,_,rfl,p,_,_,_,rfl,rfl,hl,hat1,h,a,i,c,rfl,dr0,?_⟩;rintro _ H2 s2 rfl;refine⟨_,rfl,?_⟩;refine iteB (fun c1=>?_) (fun c1=>?_)
  ·have c1:isMember h.parties i c=false:=by simpa using c1
   exact iteTr rfl ⟨by show 1<=sizeLine;decide,hbad _ s2 (by rw[c1];rfl)⟩
  have c1:isMember h.parties i c=true:=by simpa using c1
  refine⟨_,rfl,a,dx,_,rfl,s2 _ _ h1,Ws,_,rfl,p,_,_,_,rfl,rfl,s2.seq hl,hat1,h,a,c,rfl,dr0.keep s2,?_⟩;rintro _ H3 s3 rfl;have s23:=s2.trans s3;refine⟨_,rfl,?_⟩;refine iteB (fun c2=>?_) (fun c2=>?_)
  ·have c2:isPerson h.parties c=false:=by simpa using c2
   exact⟨by show 1<=sizeLine;decide,hbad _ s23 (by rw[c1,c2];rfl)⟩
  have c2:isPerson h.parties c=true:=by simpa using c2
  have c3:=c1;unfold isMember at c3;rw[Bool.and_eq_true,Bool.and_eq_true]at c3;obtain⟨g,pt,rfl,ep⟩ :=Bw c3.1;obtain⟨j,pj,rfl,ej⟩ :=Ba.mp c3.2.1;obtain⟨hg,r,ms,hk⟩ :=Gb wf ep c3.1;obtain⟨r1,r2,r3,r4⟩ :=Gm ep hk;have hjm:j∈mem pt:=by
   have:=c3.2.2;rw[vM,vM,r2,List.contains_iff_mem]at this;rw[r4];exact this
  obtain⟨cl,hkj⟩ :=Mv wf ej c2;have ecl:Vbirad.claim h.parties j=own pj:=by
   rw[Dh wf ej];have:mem pj= []:=by unfold mem;rw[hkj]
   rw[this];rfl
  rw[vM]at hbad;have hw:¬(0<=d/\d<=(Vbirad.claim h.parties j:Int))->(isMember h.parties (g:Int) (j:Int)&&(isPerson h.parties (j:Int)&&Vbirad.within d 0 (Vbirad.claim h.parties j:Int)))=false:=fun z=>by
   rw[c1,c2,Bool.true_and,Bool.true_and];cases hq:Vbirad.within d 0 (Vbirad.claim h.parties j:Int)with
   |false=>rfl
   |true=>exact absurd (Bl.mp hq) z
  obtain⟨as,g1,g2,g3⟩ :=(h2.keep s23).ex;obtain⟨x,hx,b,rfl,dy,pm,nm,q1,q2,q3⟩ :=(ptsIts (C:=C) g2).get ej;refine⟨_,rfl,p,_,_,_,rfl,rfl,s23.seq hl,hat2,_,_,rfl,rfl,_,rfl,?_⟩;refine iteB (fun c4=>?_) (fun c4=>?_)
  ·have c4:=vG c4;refine⟨_,rfl,a,D,dx,_,_,rfl,s23 _ _ h1,Z.cl,Z.nParties,Au,_,rfl,p,_,_,_,rfl,rfl,s23.seq hl,hat1,l,_,_,_,rfl,rfl,SqL.of g1,atN hx,b,C,dy,_,_,rfl,q1,Y.cl,Y.nClaim,Px,_,_,rfl,rfl,_,rfl,?_⟩;refine iteB (fun c5=>?_) (fun c5=>?_)
   ·have c5:=of_decide_eq_false (by simpa using c5:decide (d<=((own pj:Nat):Int))=false);exact⟨by show 1<=sizeLine;decide,hbad _ s23 (hw fun z=>c5 (by rw[<-ecl];exact z.2))⟩
   ·have c5:=of_decide_eq_true (by simpa using c5:decide (d<=((own pj:Nat):Int))=true);rw[if_neg (by rw[c1,c2,show Vbirad.within d 0 (Vbirad.claim h.parties (j:Int).toNat:Int)=true from Bl.mpr ⟨c4,by rw[Int.toNat_natCast,ecl];exact c5⟩];simp)]at k;obtain⟨m,rfl⟩ :∃m:Nat,d=(m:Int):= ⟨d.toNat,by omega⟩;rw[Int.toNat_natCast,Int.toNat_natCast,Int.toNat_natCast]at k;refine⟨by show 1<=sizeLine;decide,fun q hq=>?_⟩;have s4:Same H3 (upd H3 q (.lst [.int 0])):=Same.upd hq;have hq1:(upd H3 q (.lst [.int 0])) q=some (.lst [.int 0]):=Ae;generalize upd H3 q (.lst [.int 0])=H4 at s4 hq1;have s24:=s23.trans s4;refine⟨_,rfl,a,D,dx,_,_,rfl,s24 _ _ h1,Z.cl,Z.nParties,Au,_,rfl,a,D,dx,_,_,rfl,s24 _ _ h1,Z.cl,Z.nWater,Cq,_,rfl,p,_,_,_,rfl,rfl,s24.seq hl,hat0,_,rfl,p,_,_,_,rfl,rfl,s24.seq hl,hat1,_,rfl,p,_,_,_,rfl,rfl,s24.seq hl,hat2,h.parties,h.water,g,j,m,r,pt,ms,_,rfl,(h2.keep s24).lst,wf,ep,hk,hjm,by omega,?_⟩;rintro _ H5 s5 ⟨pf,rfl,hpf⟩;exact⟨pf,_,rfl,.inr hpf,bA (pf:=pf) (s24.trans s5) (s5 _ _ hq1) dr0 k⟩
  ·have c4:=vH c4;exact⟨_,rfl,iteTr rfl ⟨by show 1<=sizeLine;decide,hbad _ s23 (hw fun z=>c4 z.1)⟩⟩
end
abbrev setQ(ps:List Party)(e i:Nat)(s:List Nat):Q×Int:=(sumQ (s.map (shareOf ps e)),(Vbirad.claim ps i:Int) - ((s.map (Vbirad.claim ps)).sum:Int))
abbrev excQ(ps:List Party)(e i:Nat)(s:List Nat):Q:=Vbirad.sub (setQ ps e i s).1 (leftQ (shareOf ps e i) (setQ ps e i s).2)
theorem T3{ps:List Party}(wf:PWf ps)(e:Nat){s:List Nat}(h:s.length<=8):Sz 7000 (sumQ (s.map (shareOf ps e))):=by
 have:=dC (s.map (shareOf ps e)) (s.map (shareOf ps e)).length (fun q hq=>by
  obtain⟨j,_,rfl⟩ :=vL hq;exact(Bq wf e j).sz (by decide)) (by rw[vB];exact h)
 rwa [v6]at this
theorem On{ps:List Party}(wf:PWf ps):∀s:List Nat,s.length<=8->(s.map (Vbirad.claim ps)).sum<=300000000:=by
 intro s h;have:=Qc (s.map (Vbirad.claim ps)) 30000000 (fun c hc=>by
  obtain⟨j,_,rfl⟩ :=vL hc;exact Ee wf j)
 rw[vB]at this;have h2:s.length * 30000000<=8 * 30000000:=Nat.mul_le_mul_right _ h;omega
theorem Yq{ps:List Party}(wf:PWf ps)(e i:Nat){n:Int}(h:n.natAbs<=2^100):Sz 751 (leftQ (shareOf ps e i) n):=
 Sz.most (Sz.whole (vW _)) (((Bq wf e i).sz (by decide)).sub (Sz.whole (k:=0) (vA h (by decide))))
theorem eG{ps:List Party}(wf:PWf ps)(e:Nat){i r:Nat}{pt:Party}{ms:List Nat}(ep:ps[i]? =some pt)(hk:pt.kind=.group r ms){s:List Nat}(hs:s.Sublist (mem pt)):
  Vbirad.sub (sumQ (s.map (shareOf ps e))) (Vbirad.sure ps e i s)=excQ ps e i s:=by
 unfold Vbirad.sure;dsimp only;rw[Ef,I0,J4 ep];have h1:=cT (f:=Vbirad.claim ps) hs (wf.nd pt (List.mem_of_getElem? ep));have h2:Vbirad.claim ps i=((mem pt).map (Vbirad.claim ps)).sum:=by
  rw[Dh wf ep];have:own pt=0:=by unfold own;rw[hk]
  omega
 rw[h1,<-h2]
section
variable {P:Program}{w:World}{K:PySem.W.Frag}{mg:Str->Option Value}{base:Heap}{C D:Addr}
inductive spExc(K:PySem.W.Frag)(C:Addr)(vs:List V)(H:Hp)(Q:VK)(_e3:XK):Prop|m:∀(ps:List Party) (e i:Nat) (pt:Party) (v:V),vs= [v,.int (e:Int),.int (i:Int)]->Lst K (PtR C) ps v H->PWf ps->ps[i]? =some pt->Ret H (Own (Fra K) ((allSets (mem pt)).map (excQ ps e i))) Q->spExc K C vs H Q _e3
abbrev PQ(K:PySem.W.Frag):Rel (Q×Int):=Par K (Fra K) IsI
theorem Je{K:PySem.W.Frag}:Flat (PQ K):=Sr A7 Sq
theorem pow8{n:Nat}(h:n<=8):2^n<=256:=by
 have:2^n<=2^8:=vN (by decide) h;omega
abbrev M1:Stmt:=top 54
theorem Bn:FnScope ["parties","water","group","claims","shares","sets","member","got","others"] ["parties","water","group"] (defScope M1):=fS
theorem U7(F:FunN K mg "excesses" M1)(Y:Pty K mg C)(wB:Df P w K mg base 2 "all_claims" ["parties"] (spClaims K C))(wA:Df P w K mg base 10 "all_shares" ["parties","water"] (spShares K C))(wC:Df P w K mg base 1 "whole" ["number"] (spWhole K))
  (uR:Df P w K mg base 3 "plus" ["left","right"] (sp2 K fun a b=>Fra K (Vbirad.add a b))) (wH:Df P w K mg base 3 "minus" ["left","right"] (sp2 K fun a b=>Fra K (Vbirad.sub a b))) (wT:Df P w K mg base 4 "left_over" ["share","others_claim"] (spLeft K)):
  Df P w K mg base 11 "excesses" ["parties","water","group"] (spExc K C):=by
 refine Df.of F Bn (fun vs H Q E h=>?_) (fun f cdv A outer s H vs Q E hr h=>?_)
 ·obtain⟨ps,e,i,pt,v,rfl,_⟩ :=h;rfl
 ·obtain⟨ps,e,i,pt,v,rfl,lp,wf,hpt,k⟩ :=h;refine⟨_,Ac (Aj (i:=3) Bn.nd rfl (Or.inr rfl) (pd wB hr (Aa (pv 0) Ab)))
   (Ac (Aj (i:=4) Bn.nd rfl (Or.inr rfl) (pd wA hr (Aa (pv 0) (Aa (pv 1) Ab))))
   (Ac (Aj (i:=5) Bn.nd rfl (Or.inl rfl) (Av (Aa (Ft (Aa (pd wC hr (Aa (Af) Ab)) (Aa (Ai Ag (pv 3) (pv 2)) Ab))) Ab)))
   (Ac (Ch PassesOwn.never rfl (A0 (Ap (Ai Ag (pv 0) (pv 2)) rfl)) (Am (i:=6) Bn.nd rfl (Or.inr rfl))
    (Ad (Aj (i:=5) Bn.nd rfl (Or.inl rfl) (Az Cf (pv 5) (Co (own:=[("got",7),("others",8)]) rfl Bn.nd (A0 (pv 5)) (Ax (by rfl)) (fun _ _ _ _ _=>Jj (K:=K) (n:=2) rfl rfl (A5 (Am (i:=7) Bn.nd rfl (Or.inl rfl)) (A5 (Am (i:=8) Bn.nd rfl (Or.inl rfl)) (C6)))) (fun _ _ _ _ _=>A6) (fun _ _ _ _ _=>Ft (Aa (pd uR hr (Aa (pv 7) (Aa (Ai (Ci (K:=K) rfl) (pv 4) (pv 6)) Ab))) (Aa (Az J8 (pv 8) (Ai (Ci (K:=K) rfl) (pv 3) (pv 6))) Ab))))))))
   (Ad (Ah (Co (own:=[("got",7),("others",8)]) rfl Bn.nd (A0 (pv 5)) (Ax (by rfl)) (fun _ _ _ _ _=>Jj (K:=K) (n:=2) rfl rfl (A5 (Am (i:=7) Bn.nd rfl (Or.inl rfl)) (A5 (Am (i:=8) Bn.nd rfl (Or.inl rfl)) (C6)))) (fun _ _ _ _ _=>A6) (fun _ _ _ _ _=>pd wH hr (Aa (pv 7) (Aa (pd wT hr (Aa (Ai (Ci (K:=K) rfl) (pv 4) (pv 2)) (Aa (pv 8) Ab))) Ab))))))))),?_⟩
  have hi:=(List.getElem?_eq_some_iff.mp hpt).1;have hne:ps≠[]:=fun z=>by rw[z]at hi;simp at hi
  have hfew:=wf.few pt (vD hpt);refine⟨_,rfl,ps,v,rfl,lp,wf,?_⟩;rintro _ H1 s1 ⟨qc,yc,rfl,hqc,iyc⟩;refine⟨_,rfl,_,rfl,ps,e,v,rfl,Lst.keep Bv _ _ _ _ s1 lp,wf,hne,?_⟩;rintro qs H2 s2 _ ⟨_,ys,hqq,hqs,iys⟩;obtain rfl:=V.ref.inj hqq;have s12:=s1.trans s2;have hqc2:=s2 _ _ hqc;obtain⟨vg,hvg,fvg⟩ :=iys.get (Bg wf e hi);obtain⟨vc,hvc,rvc⟩ :=iyc.get (Bs hi);obtain rfl:vc=V.int ((Vbirad.claim ps i:Nat):Int):=rvc;refine⟨0,rfl,fun z0 H3 s3 f3=>?_⟩;refine⟨_,rfl,_,rfl,qc,yc,_,_,rfl,rfl,SqL.of (s3 _ _ hqc2),atN hvc,(by show 2<=sizeLine;decide),fun t0 ht0=>?_⟩;have s4:Same H3 (upd H3 t0 (.tup [z0,.int ((Vbirad.claim ps i:Nat):Int)])):=Same.upd ht0;have k4:(upd H3 t0 (.tup [z0,.int ((Vbirad.claim ps i:Nat):Int)])) t0=some (.tup [z0,.int ((Vbirad.claim ps i:Nat):Int)]):=Ae;generalize upd H3 t0 (.tup [z0,.int ((Vbirad.claim ps i:Nat):Int)])=H4 at s4 k4;refine⟨(by show 1<=sizeLine;decide),fun l0 hl0=>?_⟩;have s5:Same H4 (upd H4 l0 (.lst [.ref t0])):=Same.upd hl0;have k5:(upd H4 l0 (.lst [.ref t0])) l0=some (.lst [.ref t0]):=Ae;generalize upd H4 l0 (.lst [.ref t0])=H5 at s5 k5;have s25:=(s3.trans s4).trans s5;have s15:=s12.trans s25;obtain⟨p,xs,rfl,hl,hi2⟩ :=id lp;obtain⟨xa,hxa,ap,rfl,dx,pm,nm,h1,h2,h3⟩ :=hi2.get hpt;have i5:Its (PQ K) H5 ((allSets ((mem pt).take 0)).map (setQ ps e i)) [.ref t0]:=.cons ⟨t0,z0,_,rfl,SqT.of (s5 _ _ k4),(f3.keep s4).keep s5,by
   show V.int ((Vbirad.claim ps i:Nat):Int)=V.int (((Vbirad.claim ps i:Nat):Int) - 0);rw[Int.sub_zero]⟩ .nil
  have WM:Seqs (Itl K pm) (Same H2) (mem pt) IsN:=As (xs:=mV pt) fun H' sm=> ⟨sm.seq (SqL.of (s12 _ _ h3)),Gg⟩;refine⟨_,rfl,_,rfl,p,xs,_,_,rfl,rfl,s15.seq hl,atN hxa,ap,C,dx,_,_,rfl,s15 _ _ h1,Y.cl,Y.nMembers,Bj,pm,rfl,⟨_,SqL.of (s15 _ _ h3)⟩,Bi (B:=Same H2) (as:=mem pt) (R:=IsN) WM
   (fun t σ H'=>Same H2 H'/\t<=(mem pt).length/\∃(u:Addr) (zs:List V) (a:Option V),σ= [some (.ref p),some (.int (e:Int)),some (.int (i:Int)),some (.ref qc),some (.ref qs),some (.ref u),a,none,none]/\H' u=some (.lst zs)/\Its (PQ K) H' ((allSets ((mem pt).take t)).map (setQ ps e i)) zs)
   ⟨s25,vW _,l0,_,none,rfl,k5,i5⟩ (fun _ _ _ h=>h.1) ?_ ?_⟩
  ·rintro t m x σ H6 H7 hm ⟨sm,htl,q,zs,a0,rfl,hq,hz⟩ s7 hx;obtain rfl:x=V.int (m:Int):=hx;have htlt:=(vF hm).1;have hmm:=vD hm;have hmlt:=E2 wf hpt m hmm;have hlt:((mem pt).take t).length<=8:=by rw[vU];omega
   have len:((allSets ((mem pt).take t)).map (setQ ps e i)).length<=256:=by
    rw[vB,Hn];exact pow8 hlt
   have hq7:=s7 _ _ hq;have sm7:=sm.trans s7;have hz7:Its (PQ K) H7 ((allSets ((mem pt).take t)).map (setQ ps e i)) zs:=hz.keep fun _ _ r=>Je _ _ _ _ (Tk.of s7) r;obtain⟨vm,hvm,fvm⟩ :=iys.get (Bg wf e hmlt);obtain⟨vk,hvk,rvk⟩ :=iyc.get (Bs hmlt);obtain rfl:vk=V.int ((Vbirad.claim ps m:Nat):Int):=rvk;have WS:Seqs (Itl K q) (Same H7) ((allSets ((mem pt).take t)).map (setQ ps e i)) (PQ K):=As fun H' sm=> ⟨sm.seq (SqL.of hq7),hz7.keep fun _ _ r=>Je _ _ _ _ (Tk.of sm) r⟩;refine⟨_,rfl,_,rfl,q,rfl,⟨_,SqL.of hq7⟩,Bx (as:=(allSets ((mem pt).take t)).map (setQ ps e i)) (R:=PQ K) (S:=PQ K) (fun x=>(Vbirad.add x.1 (shareOf ps e m),x.2 - (Vbirad.claim ps m:Int))) Je WS (small1000 (by omega)) (fun b z H' Qe hb smx rz kk=>?_) (fun _ _ _ _ h q=>Ey h q) (fun D2 zs2 H8 s8 hD o=>?_)⟩
   ·obtain⟨tp,b1,b2,rfl,ht,fb1,hb2⟩ :=rz;obtain rfl:b2=V.int b.2:=hb2;obtain⟨st,hst,rfl⟩ :=vL hb;have hst8:st.length<=8:=vA (Ho hst).length_le hlt;refine⟨tp,_,rfl,ht,rfl,_,_,rfl,_,_,rfl,rfl,rfl,?_⟩;refine⟨_,rfl,_,rfl,_,rfl,qs,ys,_,_,rfl,rfl,SqL.of ((sm7.trans smx) _ _ hqs),atN hvm,_,_,b1,vm,7000,750,rfl,fb1,fvm.keep (sm7.trans smx),T3 wf e hst8,(Bq wf e m).sz (by decide),by decide,fun v2 H9 s9 f9=>?_⟩;refine⟨_,rfl,_,rfl,_,rfl,qc,yc,_,_,rfl,rfl,SqL.of (((sm7.trans smx).trans s9) _ _ hqc2),atN hvk,_,_,rfl,rfl,(by show 2<=sizeLine;decide),fun t2 ht2=>kk _ _ (s9.trans (Same.upd ht2)) ⟨t2,v2,_,rfl,SqT.of Ae,f9.keep (Same.upd ht2),rfl⟩⟩
   ·have hq8:=s8 _ _ hq7;have l1:=hz.len;have l2:=o.len;rw[vB]at l2;refine⟨q,D2,zs,zs2,rfl,rfl,hq8,hD,Nat.le_of_lt (small1000 (by omega)),fun p2 hp2=>?_⟩;refine⟨(sm7.trans s8).updT hp2,by omega,p2,_,_,rfl,Ae,?_⟩;rw[Bm hm,Kg,List.map_append];refine Its.app (hz7.keep fun _ _ r=>Je _ _ _ _ (Tk.of (s8.trans (Same.upd hp2))) r) ?_;have e1:((allSets ((mem pt).take t)).map (setQ ps e i)).map (fun x=>(Vbirad.add x.1 (shareOf ps e m),x.2 - (Vbirad.claim ps m:Int)))=((allSets ((mem pt).take t)).map fun s=>s++[m]).map (setQ ps e i):=by
     rw[List.map_map,List.map_map];refine List.map_congr_left fun st _=>?_;show(Vbirad.add (sumQ (st.map (shareOf ps e))) (shareOf ps e m),(Vbirad.claim ps i:Int) - ((st.map (Vbirad.claim ps)).sum:Int) - (Vbirad.claim ps m:Int))=(sumQ ((st++[m]).map (shareOf ps e)),(Vbirad.claim ps i:Int) - (((st++[m]).map (Vbirad.claim ps)).sum:Int));rw[List.map_append,List.map_append];show _=(sumQ (st.map (shareOf ps e)++[shareOf ps e m]),(Vbirad.claim ps i:Int) - ((st.map (Vbirad.claim ps)++[Vbirad.claim ps m]).sum:Int));rw[R7,List.sum_append];congr 1;simp;omega
    rw[e1]at o;exact o.keep fun _ _ r=>Je _ _ _ _ (Tk.of (Same.upd hp2)) r
  ·rintro σ H6 ⟨sm,_,q,zs,a0,rfl,hq,hz⟩;rw[v6]at hz;have len:((allSets (mem pt)).map (setQ ps e i)).length<=256:=by
    rw[vB,Hn];exact pow8 hfew
   have WS:Seqs (Itl K q) (Same H6) ((allSets (mem pt)).map (setQ ps e i)) (PQ K):=As fun H' sm=> ⟨sm.seq (SqL.of hq),hz.keep fun _ _ r=>Je _ _ _ _ (Tk.of sm) r⟩;refine⟨_,rfl,q,rfl,⟨_,SqL.of hq⟩,Bx (as:=(allSets (mem pt)).map (setQ ps e i)) (R:=PQ K) (S:=Fra K) (fun x=>Vbirad.sub x.1 (leftQ (shareOf ps e i) x.2)) A7 WS (small1000 (by omega)) (fun b z H' Qe hb smx rz kk=>?_) (fun _ _ _ _ h q=>Ey h q) (fun D2 zs2 H8 s8 hD o=>?_)⟩
   ·obtain⟨tp,b1,b2,rfl,ht,fb1,hb2⟩ :=rz;obtain rfl:b2=V.int b.2:=hb2;obtain⟨st,hst,rfl⟩ :=vL hb;have hst8:st.length<=8:=vA (Ho hst).length_le hfew;have hn:((Vbirad.claim ps i:Int) - ((st.map (Vbirad.claim ps)).sum:Int)).natAbs<=2^100:=by
     have h1:=On wf st hst8;have h2:=Ee wf i;exact vA (show _<=1000000000 by omega) (by decide)
    have smq:=sm.trans smx;refine⟨tp,_,rfl,ht,rfl,_,_,rfl,_,_,rfl,rfl,rfl,?_⟩;refine⟨_,rfl,_,rfl,_,rfl,qs,ys,_,_,rfl,rfl,SqL.of (smq _ _ hqs),atN hvg,_,rfl,_,_,vg,rfl,fvg.keep smq,(Bq wf e i).sz (by decide),hn,fun v2 H9 s9 f9=>?_⟩;exact⟨_,_,b1,v2,7000,751,rfl,fb1.keep s9,f9,T3 wf e hst8,Yq wf e i hn,by decide,fun v3 H10 s10 f10=>kk _ _ (s9.trans s10) f10⟩
   ·rw[vX]at o;exact k _ _ ((s12.trans sm).trans s8) ⟨D2,zs2,rfl,hD,o⟩
abbrev Iq:Stmt:=top 110
theorem Ih:FnScope ["drought","numbers","row","found"] ["drought","numbers","row"] (defScope Iq):=fS
theorem Pd(F:FunN K mg "answer_core" Iq)(T:Blt mg)(S:Shc mg)(Z:Drg K mg D)(wD:Mdf P w K mg base D 2 "has_group" ["self","number"] (spDr D C isGroup))(u7:Df P w K mg base 11 "excesses" ["parties","water","group"] (spExc K C))(yA:Df P w K mg base 3 "least_of" ["ratios"] (spLeastOf K)):
  Df P w K mg base 12 "answer_core" ["drought","numbers","row"] (spAns K D C 1 fun ns _=>.core (ns.getD 0 0)):=by
 refine Df.of F Ih (fun vs H Q E h=>?_) (fun f cdv A outer s H vs Q E hr h=>?_)
 ·obtain⟨h,a,ns,row,nv,rv,rfl,_⟩ :=h;rfl
 ·obtain⟨h,a,ns,row,_,rv,rfl,dr,hne,⟨p,xs,rfl,hl,hi⟩,hn,_,_,k⟩ :=h;obtain rfl:=C3 hi;obtain⟨i,rfl⟩ :=Pl hn;refine⟨_,Ac (A1 (Bf (Bk (pm1 wD (pv 0) Z.cl hr (Aa (Ai Ag (pv 1) (Af)) Ab))))
    (Ad (Ah (Av (Aa (pgc S.OUT_OF_RANGE) Ab))))
    (Aq))
   (Ac (Aj (i:=3) Ih.nd rfl (Or.inl rfl) (pd u7 hr (Aa (Ap (pv 0) rfl) (Aa (Ap (pv 0) rfl) (Aa (Ai Ag (pv 1) (Af)) Ab)))))
   (Ad (Ah (Az Cf (Av (Aa (pgc S.DONE) (Aa (Ao An (by rfl) T.len PySem.boot_len (Aa (pv 3) Ab)) Ab))) (Cl Ce (by rfl) T.list boot_list (Aa (pd yA hr (Aa (pv 3) Ab)) Ab)))))),?_⟩
  have k:RetS D C H a (if isGroup h.parties i=false then(h,[-1])else
    (h,0::(((subsets (membersOf h.parties i.toNat)).map fun s=>Vbirad.sub (sumQ (s.map (shareOf h.parties h.water))) (Vbirad.sure h.parties h.water i.toNat s)).length:Int)::qRow (((subsets (membersOf h.parties i.toNat)).map fun s=>Vbirad.sub (sumQ (s.map (shareOf h.parties h.water))) (Vbirad.sure h.parties h.water i.toNat s)).foldl Vbirad.least (((subsets (membersOf h.parties i.toNat)).map fun s=>Vbirad.sub (sumQ (s.map (shareOf h.parties h.water))) (Vbirad.sure h.parties h.water i.toNat s)).headD (Vbirad.whole 0))))) Q:=by
   have:=k;rw[show Vbirad.step h (.core (([i]:List Int).getD 0 0))=onSharing h fun ps=>if isGroup ps i=false then(h,[-1])else
    (h,0::(((subsets (membersOf ps i.toNat)).map fun s=>Vbirad.sub (sumQ (s.map (shareOf ps h.water))) (Vbirad.sure ps h.water i.toNat s)).length:Int)::qRow (((subsets (membersOf ps i.toNat)).map fun s=>Vbirad.sub (sumQ (s.map (shareOf ps h.water))) (Vbirad.sure ps h.water i.toNat s)).foldl Vbirad.least (((subsets (membersOf ps i.toNat)).map fun s=>Vbirad.sub (sumQ (s.map (shareOf ps h.water))) (Vbirad.sure ps h.water i.toNat s)).headD (Vbirad.whole 0)))) from rfl,onSh hne]at this
   exact this
  have hat0:atI ([i].map V.int) (0:Int)=some (.int i):=A4 (j:=0) rfl;have dr0:=dr;obtain⟨⟨dx,l,h1,h2⟩,wf⟩ :=dr;refine⟨_,rfl,a,dx,_,rfl,h1,Ls,_,rfl,p,_,_,_,rfl,rfl,hl,hat0,h,a,i,rfl,dr0,?_⟩;rintro _ H2 s2 rfl;refine⟨_,rfl,?_⟩;refine iteB (fun c1=>?_) (fun c1=>?_)
  ·have c1:isGroup h.parties i=false:=by simpa using c1
   rw[if_pos c1]at k;exact⟨by show 1<=sizeLine;decide,ret1 (.of s2) (dr0.keep s2) k⟩
  have c1:isGroup h.parties i=true:=by simpa using c1
  rw[if_neg (by rw[c1];simp)]at k;obtain⟨g,pt,rfl,ep⟩ :=Bw c1;obtain⟨hg,r,ms,hk⟩ :=Gb wf ep c1;have hfew:=wf.few pt (List.mem_of_getElem? ep);have e1:((subsets (membersOf h.parties (g:Int).toNat)).map fun s=>Vbirad.sub (sumQ (s.map (shareOf h.parties h.water))) (Vbirad.sure h.parties h.water (g:Int).toNat s))=(subsets (mem pt)).map (excQ h.parties h.water g):=by
   rw[vM,J4 ep];refine vY fun s hs=>?_;exact eG wf h.water ep hk (Fo _ s hs)
  rw[e1]at k;have hperm:((allSets (mem pt)).map (excQ h.parties h.water g)).Perm ((subsets (mem pt)).map (excQ h.parties h.water g)):=(Me _).map _;have hsz:∀x∈(allSets (mem pt)).map (excQ h.parties h.water g),Sz 9000 x/\Red x:=fun x hx=>by
   obtain⟨st,hst,rfl⟩ :=vL hx;have hst8:st.length<=8:=vA (Ho hst).length_le hfew;have hn:((Vbirad.claim h.parties g:Int) - ((st.map (Vbirad.claim h.parties)).sum:Int)).natAbs<=2^100:=by
    have h1:=On wf st hst8;have h2:=Ee wf g;exact vA (show _<=1000000000 by omega) (by decide)
   have z1:=T3 wf h.water hst8;have z2:=Yq wf h.water g hn;exact⟨(z1.sub z2).mono (by decide),Ea z1.pos z2.pos⟩
  refine⟨_,rfl,a,D,dx,_,_,rfl,s2 _ _ h1,Z.cl,Z.nParties,Au,_,rfl,a,D,dx,_,_,rfl,s2 _ _ h1,Z.cl,Z.nWater,Cq,_,rfl,p,_,_,_,rfl,rfl,s2.seq hl,hat0,h.parties,h.water,g,pt,_,rfl,(h2.keep s2).lst,wf,ep,?_⟩;rintro _ H3 s3 ⟨pe,ze,rfl,hpe,ize⟩;have s23:=s2.trans s3;have lz:=ize.len;rw[<-hperm.length_eq,lz]at k;have hl1:=(Hn (mem pt));obtain⟨q0,qs0,eq0⟩ :∃q qs,(allSets (mem pt)).map (excQ h.parties h.water g)=q::qs:=by
   cases hc:(allSets (mem pt)).map (excQ h.parties h.water g)with
   |nil=>
    have:((allSets (mem pt)).map (excQ h.parties h.water g)).length=0:=by rw[hc];rfl
    rw[vB,hl1]at this;have:=Nat.one_le_two_pow (n:=(mem pt).length);omega
   |cons q qs=>exact⟨q,qs,rfl⟩
  rw[<-W5 hperm (fun x hx=>(hsz x hx).2) eq0]at k;rw[eq0]at ize hsz;refine⟨_,rfl,pe,_,rfl,.inl (SqL.of hpe),by show 2<=sizeLine;decide,fun q hq=>?_⟩;have s4:Same H3 (upd H3 q (.lst [.int 0,.int (ze.length:Int)])):=Same.upd hq;have hq4:(upd H3 q (.lst [.int 0,.int (ze.length:Int)])) q=some (.lst [.int 0,.int (ze.length:Int)]):=Ae;generalize upd H3 q (.lst [.int 0,.int (ze.length:Int)])=H4 at s4 hq4;refine⟨_,rfl,q0,qs0,_,rfl,⟨pe,ze,rfl,SqL.of (s4 _ _ hpe),ize.keep fun _ _ r=>A7 _ _ _ _ (Tk.of s4) r⟩,fun x hx=>(hsz x hx).1,?_⟩;rintro _ H5 s5 ⟨pf,rfl,hpf⟩;have s25:=(s23.trans s4).trans s5;refine⟨pf,_,rfl,.inr hpf,fun l2 hl2=>?_⟩;generalize (q0::qs0).foldl Vbirad.least q0=x at k hpf;have s6:=s25.updT (o:=.lst [.int x.n,.int (x.d:Int)]) hl2;have hq5:=s5 _ _ hq4;have hql:q≠l2:=Al hq5 hl2;refine⟨q,l2,_,_,rfl,rfl,(by rw[Ak hql];exact hq5),Ae,by show 4<=sizeLine;decide,fun T2 hT2=>?_⟩;have sT:=s6.updT (o:=.lst ([.int 0,.int (ze.length:Int)]++[.int x.n,.int (x.d:Int)])) hT2;exact k _ _ (.of sT) (dr0.keep sT) ⟨T2,_,rfl,Ae,C2 (0::(ze.length:Int)::qRow x)⟩
end
theorem cI{X:Cx}{K:PySem.W.Frag}{o e:Expr}{to te:TE}{apos pos:Pos}(hK:X.K=K)(ho:PE X o to)(he:PE X e te)(hs:starEach [e] X.env= [(false,eval e X.env)]:=by rfl)(hbase:attributeBase o "join" X.env (eval o X.env)=eval o X.env:=by rfl)(hline:(apos.endLine == pos.line)=true:=by rfl):
  PE X (.Call (.Attribute o "join" apos) [e] [] pos) (tM1 (fun x xs H Q=>∃a p,∃ys:List Str,x=.str a/\xs= [.ref p]/\(SqL K H p (ys.map V.str)∨SqT K H p (ys.map V.str))/\
   (ys.map (·.length)).sum + ys.length * a.length<=16777216/\Q (.str (Txt.join a ys)) H) to te):=hK▸To ho he hs hbase hline
theorem cY(ws:List Bytes):sV ws=(ws.map sOf).map V.str:=by unfold sV;rw[List.map_map];rfl
theorem Uw(ws:List Bytes):((ws.map sOf).map (·.length)).sum=(ws.map List.length).sum:=by
 rw[vX];exact congrArg List.sum (vY fun w _=>Cp w)
theorem litV(s:String):V.str (Str.ofString s)=V.str (sOf (text s)):=by rw[Dj]
theorem fX{H:Hp}{a b:List Bytes}:sV a++sV b=sV (a++b):=by unfold sV;rw[List.map_append]
section
variable {P:Program}{w:World}{K:PySem.W.Frag}{mg:Str->Option Value}{base:Heap}{C D:Addr}{kw rn:Addr}
inductive spWfor(K:PySem.W.Frag)(C:Addr)(vs:List V)(H:Hp)(Q:VK)(_e3:XK):Prop|m:∀(ps:List Party) (pt:Party) (v x:V),vs= [v,x]->Lst K (PtR C) ps v H->PWf ps->pt∈ps->PtR C pt x H->(∀m∈mem pt,m < ps.length)->Ret H (Own IsW (headB ps pt++tailB pt)) Q->spWfor K C vs H Q _e3
abbrev Ex:Stmt:=top 86
theorem Dq:FnScope ["parties","party","names","words","member"] ["parties","party"] (defScope Ex):=fS
theorem R3{n:Nat}(h:n<=1000000):((n:Nat):Int).natAbs.log2 < 1920:=by
 rw[vQ];by_cases h0:n=0
 ·subst h0;decide
 ·exact(Nat.log2_lt h0).mpr (vO h (vP (by decide:1000000 < 2^20) (vN (by decide) (by decide))))
theorem Tm(F:FunN K mg "words_for" Ex)(hstr:mg "str"=none)(R:Rdg K mg kw rn)(Y:Pty K mg C)(wF:Mdf P w K mg base C 1 "is_group" ["self"] (spIsGroup C)):
  Df P w K mg base 2 "words_for" ["parties","party"] (spWfor K C):=by
 refine Df.of F Dq (fun vs H Q E h=>?_) (fun f cdv A outer s H vs Q E hr h=>?_)
 ·obtain⟨ps,pt,v,x,rfl,_⟩ :=h;rfl
 ·obtain⟨ps,pt,_,_,rfl,⟨p,xs,rfl,hl,hi⟩,wf,hmem,⟨ap,rfl,dx,pm,nm,h1,h2,h3⟩,hlow,k⟩ :=h;have hwt:=wf.wt pt hmem;have key:∃t2,PSs (cxOf CX0 P w K mg base ["parties","party","names","words","member"] "words_for" (defScope Ex) f cdv A outer s H E).nox ((defBody Ex).drop 1) t2/\
    ∀(ql:Addr) (a b:Option V) (H1:Hp),Same H H1->H ql=none->H1 ql=some (.lst (sV (headB ps pt)))->t2 {nx:=fun _ H'=>Q .non H',rt:=Q} [some (.ref p),some (.ref ap),a,some (.ref ql),b] H1:=by
   refine⟨_,Ac (A1 (At Kv (Ap (pv 1) rfl) (Af) (nomark _))
     (Ad (Cg (Eh PySem.F.plainAttrs_list PySem.F.slot_list_extend PySem.F.type_list_extend Jg (pv 3) (Aa (Av (Aa (Bz) (Aa (Cl Kl (by rfl) hstr boot_str (Aa (Ap (pv 1) rfl) Ab)) Ab))) Ab))))
     (Aq))
    (Ad (Ah (pv 3))),fun ql a b H1 s1 nq hq=>?_⟩
   refine⟨_,rfl,ap,C,dx,_,_,rfl,s1 _ _ h1,Y.cl,Y.nWeight,Fy,rfl,_,rfl,?_⟩;refine iteB (fun c1=>?_) (fun c1=>?_)
   ·rw[Br]at c1;have c1:pt.weight≠1:=fun z=>by rw[z]at c1;simp at c1
    have et:tailB pt= [text "weighs",digits pt.weight]:=by unfold tailB;rw[if_neg c1]
    refine⟨_,rfl,.inl ⟨rfl,_,SqL.of hq⟩,_,rfl,ap,C,dx,_,_,rfl,s1 _ _ h1,Y.cl,Y.nWeight,Fy,_,rfl,R3 (by omega),(by show 2<=sizeLine;decide),fun q2 nq2=>?_⟩;have hne:ql≠q2:=Al hq nq2;have hh:=(O1 wf hmem).1;refine⟨ql,q2,_,_,rfl,rfl,(by rw[Ak hne];exact hq),Ae,(by rw[C9];exact vA (show _<=15 by show _ + 2<=15;omega) (by decide)),?_⟩;refine⟨_,rfl,k _ _ (fun b o eb=>?_) ⟨ql,_,rfl,Ae,?_⟩⟩
    ·rw[Ak (Al eb nq),Ak (Al (s1 _ _ eb) nq2)];exact s1 _ _ eb
    ·rw[et,litV,show V.str (Str.ofString (toString ((pt.weight:Nat):Int)))=V.str (sOf (digits pt.weight)) from congrArg V.str (Dj _)];show Its IsW _ _ (sV (headB ps pt)++sV [text "weighs",digits pt.weight]);rw[fX (H:=H)];exact Gv _
   ·rw[Br]at c1;have c1:pt.weight=1:=by
     have:=of_decide_eq_true (by simpa using c1:decide ((pt.weight:Int)=1)=true);omega
    have et:tailB pt= []:=by unfold tailB;rw[if_pos c1]
    refine⟨_,rfl,k _ _ s1 ⟨ql,_,rfl,hq,?_⟩⟩;rw[et,List.append_nil];exact Gv _
  obtain⟨t2,pt2,kt2⟩ :=key;refine⟨_,Ac (A1 (Bk (pm0 wF (pv 1) Y.cl hr))
    (Ac (Cs (i:=2) (own:=[("member",4)]) rfl Dq.nd rfl rfl (Du rfl rfl rfl (by rfl)) (A0 (Ap (pv 1) rfl)) (Ax (by rfl)) (fun _ _ _ _ _=>Am (i:=4) Dq.nd rfl (Or.inl rfl)) (fun _ _ _ _ _=>A6) (fun _ _ _ _ _=>Kx (K:=K) rfl (Ai (Ci (K:=K) rfl) (pv 0) (pv 4)) rfl))
    (Ad (Aj (i:=3) Dq.nd rfl (Or.inl rfl) (Az Cf (Av (Aa (Bz) (Aa (Ap (pv 1) rfl) (Aa (Bz) (Aa (Ai Bc (pgt R.RULE_NAMES) (Ap (pv 1) rfl)) (Aa (Bz) Ab)))))) (pv 2)))))
    (Ad (Aj (i:=3) Dq.nd rfl (Or.inl rfl) (Av (Aa (Bz) (Aa (Ap (pv 1) rfl) (Aa (Bz) (Aa (Cl Kl (by rfl) hstr boot_str (Aa (Ap (pv 1) rfl) Ab)) Ab)))))))) pt2,?_⟩
  have enm:V.str nm=V.str (sOf pt.name):=by rw[<-h2,Qi]
  refine⟨_,rfl,ap,dx,_,rfl,h1,Ru,pt,.ref ap,rfl,⟨ap,rfl,dx,pm,nm,h1,h2,h3⟩,?_⟩;rintro _ H1 s1 rfl;refine⟨_,rfl,?_⟩;refine iteB (fun c1=>?_) (fun c1=>?_)
  ·have hm0:mem pt≠[]:=fun z=>by rw[z]at c1;cases c1
   obtain⟨r,ms,hk⟩ :∃r ms,pt.kind=.group r ms:=by
    cases hk:pt.kind with
    |person c=>exact absurd (by unfold mem;rw[hk]) hm0
    |group r ms=>exact⟨r,ms,rfl⟩
   have em:mem pt=ms:=by unfold mem;rw[hk]
   have er:rul pt=r:=by unfold rul;rw[hk]
   have hr5:=wf.rule pt hmem;have hfew:=wf.few pt hmem;have eh:headB ps pt= [text "group",pt.name,text "by",Vbirad.RULES.getD (rul pt) [],text "of"]++(mem pt).map (Vbirad.nameAt ps):=by
    unfold headB;rw[hk,em,er]
   have WM:Seqs (Itl K pm) (Same H1) (mem pt) IsN:=As (xs:=mV pt) fun H' sm=> ⟨sm.seq (SqL.of (s1 _ _ h3)),Gg⟩;refine⟨_,rfl,ap,C,dx,_,_,rfl,s1 _ _ h1,Y.cl,Y.nMembers,Bj,pm,rfl,⟨_,SqL.of (s1 _ _ h3)⟩,Bx (as:=mem pt) (R:=IsN) (S:=IsW) (Vbirad.nameAt ps) Kq WM (line9 (by omega)) (fun m x H' Qe hm sm' rx kk=>?_) (fun _ _ _ _ h q=>A2 h q) (fun qn zn H2 s2 hqn on=>?_)⟩
   ·obtain rfl:x=V.int (m:Int):=rx;obtain⟨pm2,hpm2⟩ :∃q,ps[m]? =some q:= ⟨_,List.getElem?_eq_getElem (hlow m hm)⟩;obtain⟨y,hy,a2,rfl,dx2,pmm,nm2,g1,g2,g3⟩ :=hi.get hpm2;refine⟨rfl,_,rfl,_,rfl,p,xs,_,_,rfl,rfl,(s1.trans sm').seq hl,atN hy,a2,C,dx2,_,_,rfl,(s1.trans sm') _ _ g1,Y.cl,Y.nName,K0,kk _ _ (Same.refl _) ?_⟩;show V.str nm2=V.str (sOf (Vbirad.nameAt ps m));unfold Vbirad.nameAt;rw[hpm2];show V.str nm2=V.str (sOf pm2.name);rw[<-g2,Qi]
   obtain rfl:=Gw on;have s12:=s1.trans s2;have hrl:atI (sV RULES) ((rul pt:Nat):Int)=some (.str (sOf (Vbirad.RULES.getD (rul pt) []))):=by
    refine atN ?_;unfold sV;rw[List.getElem?_map,List.getD_eq_getElem?_getD,List.getElem?_eq_getElem (show rul pt < Vbirad.RULES.length by show rul pt < 6;omega)];rfl
   refine⟨_,rfl,ap,C,dx,_,_,rfl,s12 _ _ h1,Y.cl,Y.nName,K0,?_⟩;refine⟨_,rfl,ap,C,dx,_,_,rfl,s12 _ _ h1,Y.cl,Y.nRule,Ji,rn,_,_,_,rfl,rfl,R.RULE_NAMES.its _,hrl,(by show 5<=sizeLine;decide),fun q1 nq1=>?_⟩;have hnq:qn≠q1:=Al hqn nq1;refine⟨_,rfl,q1,qn,_,_,rfl,rfl,Ae,(by rw[Ak hnq];exact hqn),(by rw[C9,vB];exact vA (show _<=15 by show 5 + _<=15;omega) (by decide)),fun q2 nq2=>?_⟩;have sT:=(s12.updT (o:=.lst [.str (Str.ofString "group"),.str nm,.str (Str.ofString "by"),.str (sOf (Vbirad.RULES.getD (rul pt) [])),.str (Str.ofString "of")]) nq1);refine kt2 q2 _ _ _ (sT.updT nq2) (Same.free sT nq2) ?_;rw[Ae,eh,enm,litV,litV,litV,<-fX (H:=H)];rfl
  ·have hm0:mem pt= []:=by
    cases hz:mem pt with
    |nil=>rfl
    |cons a l=>rw[hz]at c1;cases c1
   obtain⟨c,hk⟩ :∃c,pt.kind=.person c:=by
    cases hk:pt.kind with
    |person c=>exact⟨c,rfl⟩
    |group r ms=>
     have h4:=wf.some_ pt hmem r ms hk;unfold mem at hm0;rw[hk]at hm0;exact absurd hm0 h4
   have eo:own pt=c:=by unfold own;rw[hk]
   have hc:=wf.person pt hmem;have eh:headB ps pt= [text "person",pt.name,text "claims",digits (own pt)]:=by
    unfold headB;rw[hk,eo]
   refine⟨_,rfl,ap,C,dx,_,_,rfl,s1 _ _ h1,Y.cl,Y.nName,K0,?_⟩;refine⟨_,rfl,ap,C,dx,_,_,rfl,s1 _ _ h1,Y.cl,Y.nClaim,Px,_,rfl,R3 hc,(by show 4<=sizeLine;decide),fun q1 nq1=>?_⟩;refine kt2 q1 _ _ _ (s1.updT nq1) (Same.free s1 nq1) ?_;rw[Ae,eh,enm,litV,litV,show V.str (Str.ofString (toString ((own pt:Nat):Int)))=V.str (sOf (digits (own pt))) from congrArg V.str (Dj _)];rfl
end
theorem Vl(ps:List Party):printSharing ps=(ps.map fun p=>printParty ps p++[10]).flatten:=by
 unfold printSharing;rw[List.flatMap_def]
theorem Ry{ps:List Party}(wf:PWf ps):(printSharing ps).length<=4080:=by
 rw[Vl,List.length_flatten];have:=Ka (qs:=ps) wf ps fun _ h=>h;have:=wf.len;omega
theorem litStr(s:String)(w:Bytes)(h:text s=w):Str.ofString s=sOf w:=by rw[Dj,h]
section
variable {P:Program}{w:World}{K:PySem.W.Frag}{mg:Str->Option Value}{base:Heap}{C D:Addr}{kw rn:Addr}
inductive spWrite(K:PySem.W.Frag)(C:Addr)(vs:List V)(H:Hp)(Q:VK)(_e3:XK):Prop|m:∀(ps:List Party) (v:V),vs= [v]->Lst K (PtR C) ps v H->PWf ps->Ret H (Own IsN (printSharing ps)) Q->spWrite K C vs H Q _e3
abbrev F5:Stmt:=top 87
theorem Cb:FnScope ["parties","lines","party","sign"] ["parties"] (defScope F5):=fS
theorem L8(F:FunN K mg "write_sharing" F5)(T:Blt mg)(uY:Df P w K mg base 2 "words_for" ["parties","party"] (spWfor K C)):Df P w K mg base 3 "write_sharing" ["parties"] (spWrite K C):=by
 refine Df.of F Cb (fun vs H Q E h=>?_) (fun f cdv A outer s H vs Q E hr h=>?_)
 ·obtain⟨ps,v,rfl,_⟩ :=h;rfl
 ·obtain⟨ps,_,rfl,⟨p,xs,rfl,hl,hi⟩,wf,k⟩ :=h;refine⟨_,Ac (Cs (i:=1) (own:=[("party",2)]) rfl Cb.nd rfl rfl (Du rfl rfl rfl (by rfl)) (A0 (pv 0)) (Ax (by rfl)) (fun _ _ _ _ _=>Am (i:=2) Cb.nd rfl (Or.inl rfl)) (fun _ _ _ _ _=>A6) (fun _ _ _ _ _=>Az J7 (cI (K:=K) rfl (Bz) (pd uY hr (Aa (pv 0) (Aa (pv 2) Ab)))) (Bz)))
   (Ad (Ah (Co (own:=[("sign",3)]) rfl Cb.nd (Xr (To (Bz) (pv 1))) (Ax (by rfl)) (fun _ _ _ _ _=>Am (i:=3) Cb.nd rfl (Or.inl rfl)) (fun _ _ _ _ _=>A6) (fun _ _ _ _ _=>Ao Ud (by rfl) T.ord boot_ord (Aa (pv 3) Ab))))),?_⟩
  have h30:=wf.len;have WS:Seqs (Itl K p) (Same H) ps (PtR C):=As (xs:=xs) fun H' sm=> ⟨sm.seq hl,hi.keep fun a v r=>Bv _ _ _ _ sm r⟩;have hlowA:∀pt∈ps,∀m∈mem pt,m < ps.length:=fun pt hpt m hm=>by
   obtain⟨i,hi⟩ :=List.getElem?_of_mem hpt;exact E2 wf hi m hm
  refine⟨_,rfl,p,rfl,⟨_,hl⟩,Bx (as:=ps) (R:=PtR C) (S:=IsW) (fun pt=>printParty ps pt++[10]) Kq WS (small1000 (by omega)) (fun pt x H' Qe hm sm' rx kk=>?_) (fun _ _ _ _ h q=>A2 h q) (fun ql zl H2 s2 hql ol=>?_)⟩
  ·refine⟨rfl,⟨_,rfl⟩,_,rfl,_,rfl,ps,pt,_,x,rfl,⟨p,xs,rfl,sm'.seq hl,hi.keep fun a v r=>Bv _ _ _ _ sm' r⟩,wf,hm,rx,hlowA pt hm,?_⟩;rintro _ H3 s3 ⟨pw,zw,rfl,hpw,izw⟩;obtain rfl:=Gw izw;obtain⟨wl,ww⟩ :=Rc wf hm;have hll:=S1 _ ww;refine⟨_,pw,(headB ps pt++tailB pt).map sOf,rfl,rfl,.inl (by rw[<-cY];exact SqL.of hpw),?_,?_⟩
   ·rw[Uw,vB];have:(Str.ofString " ").length=1:=rfl;show _ + _ * (Str.ofString " ").length<=_;rw[this];omega
   ·have ej:Txt.join (Str.ofString " ") ((headB ps pt++tailB pt).map sOf)=sOf (printParty ps pt):=by
     rw[show Txt.join (Str.ofString " ") _=Str.join (Str.ofString " ") _ from PySem.StrLaws.glued_eq_join _ _,Jq,<-joinS];rfl
    rw[ej];have hpl:=Rx wf hm;refine⟨_,_,rfl,rfl,?_,kk _ _ s3 ?_⟩
    ·rw[Cp];exact vA (show _<=136 by show _ + 1<=136;omega) (by decide)
    ·show V.str (sOf (printParty ps pt)++Str.ofString "\n")=V.str (sOf (printParty ps pt++[10]));rw[litStr "\n" [10] (by decide),K4]
  ·obtain rfl:=Gw ol;have hln:=Ka (qs:=ps) wf ps fun _ h=>h;have ej:Txt.join (Str.ofString "") ((ps.map fun pt=>printParty ps pt++[10]).map sOf)=sOf (printSharing ps):=by
    rw[show Txt.join (Str.ofString "") _=Str.join (Str.ofString "") _ from PySem.StrLaws.glued_eq_join _ _,litStr "" [] (by decide),joinE,Vl]
   refine⟨⟨_,rfl⟩,_,rfl,_,ql,(ps.map fun pt=>printParty ps pt++[10]).map sOf,rfl,rfl,.inl (by rw[<-cY];exact SqL.of hql),?_,?_⟩
   ·rw[Uw,vB,vB];show _ + _ * (Str.ofString "").length<=_;rw[show(Str.ofString "").length=0 from rfl,Nat.mul_zero];omega
   have hpl:=Ry wf;refine⟨_,congrArg V.str ej,?_⟩;refine Bx (as:=printSharing ps) (R:=fun c v _=>v=V.str ⟨#[c]⟩) (S:=IsN) id Bp P2 (vO hpl (by decide)) (fun c x H' Qe hm sm' rx kk=>?_) (fun _ _ _ _ h q=>A2 h q) (fun D2 zs H3 s3 hD o=>?_)
   ·obtain rfl:x=V.str ⟨#[c]⟩ :=rx;exact⟨rfl,_,rfl,_,rfl,rfl,kk _ _ (Same.refl _) rfl⟩
   ·rw[List.map_id]at o;exact k _ _ (s2.trans s3) ⟨D2,zs,rfl,hD,o⟩
abbrev G8:Stmt:=top 117
theorem Gy:FnScope ["drought","numbers","row","written"] ["drought","numbers","row"] (defScope G8):=fS
theorem Ni(F:FunN K mg "answer_print" G8)(T:Blt mg)(S:Shc mg)(Z:Drg K mg D)(uC:Df P w K mg base 3 "write_sharing" ["parties"] (spWrite K C)):
  Df P w K mg base 4 "answer_print" ["drought","numbers","row"] (spAns K D C 0 fun _ _=>.print):=by
 refine Df.of F Gy (fun vs H Q E h=>?_) (fun f cdv A outer s H vs Q E hr h=>?_)
 ·obtain⟨h,a,ns,row,nv,rv,rfl,_⟩ :=h;rfl
 ·obtain⟨h,a,ns,row,nv,rv,rfl,dr,hne,_,_,_,_,k⟩ :=h;refine⟨_,Ac (Aj (i:=3) Gy.nd rfl (Or.inl rfl) (pd uC hr (Aa (Ap (pv 0) rfl) Ab)))
   (Ad (Ah (Az Cf (Av (Aa (pgc S.DONE) (Aa (Ao An (by rfl) T.len PySem.boot_len (Aa (pv 3) Ab)) Ab))) (pv 3)))),?_⟩
  have k:RetS D C H a (h,0::((printSharing h.parties).length:Int)::nums (printSharing h.parties)) Q:=by
   have:=k;rw[show Vbirad.step h .print=onSharing h fun ps=>(h,0::((printSharing ps).length:Int)::nums (printSharing ps)) from rfl,onSh hne]at this;exact this
  have dr0:=dr;obtain⟨⟨dx,l,h1,h2⟩,wf⟩ :=dr;refine⟨_,rfl,a,D,dx,_,_,rfl,h1,Z.cl,Z.nParties,Au,h.parties,_,rfl,h2.lst,wf,?_⟩;rintro _ H2 s2 ⟨pc,ys,rfl,hpc,iys⟩;have ly:=iys.len;obtain rfl:=N_I iys;have hpl:=Ry wf;refine⟨_,rfl,pc,_,rfl,.inl (SqL.of hpc),by show 2<=sizeLine;decide,fun q hq=>?_⟩;rw[<-ly];have s3:Same H2 (upd H2 q (.lst [.int 0,.int ((printSharing h.parties).length:Int)])):=Same.upd hq;have hq3:(upd H2 q (.lst [.int 0,.int ((printSharing h.parties).length:Int)])) q=some (.lst [.int 0,.int ((printSharing h.parties).length:Int)]):=Ae;generalize upd H2 q (.lst [.int 0,.int ((printSharing h.parties).length:Int)])=H3 at s3 hq3;refine⟨_,rfl,q,pc,_,_,rfl,rfl,hq3,s3 _ _ hpc,?_,fun T2 hT2=>?_⟩
  ·rw[<-ly];exact vA (show _<=4082 by show 2 + _<=4082;omega) (by decide)
  ·have sT:=(s2.trans s3).updT (o:=.lst ([.int 0,.int ((printSharing h.parties).length:Int)]++(nums (printSharing h.parties)).map V.int)) hT2;exact k _ _ (.of sT) (dr0.keep sT) ⟨T2,_,rfl,Ae,C2 (0::((printSharing h.parties).length:Int)::nums (printSharing h.parties))⟩
end
section
variable {P:Program}{w:World}{K:PySem.W.Frag}{mg:Str->Option Value}{base:Heap}{C D:Addr}
abbrev spOf(K:PySem.W.Frag)(D C:Addr)(q:Nat):Sp:=if q=0 then spShar K D C else spAns K D C (numsOf.getD q 0) (mkCall q)
abbrev callNames:List Str:=["answer_sharing","answer_water","answer_claim","answer_rule","answer_shares","answer_share","answer_claims","answer_proof","answer_sure","answer_core","answer_leave","answer_split","answer_if_water","answer_if_claim","answer_rules","answer_least","answer_print","answer_counts"]
structure Disp(P:Program)(w:World)(K:PySem.W.Frag)(mg:Str->Option Value)(base:Heap)(D C:Addr):Prop where
 all:∀q,q < 18->∃x,callNames[q]? =some x/\Df P w K mg base 12 x ["drought","numbers","row"] (spOf K D C q)
structure Byc(K:PySem.W.Frag)(mg:Str->Option Value)(bc:Addr)(fs:List Addr):Prop where
 gt:GT K mg "BY_CALL" bc (fs.map V.ref)
 at_:∀(q:Nat) x,callNames[q]? =some x->∃f,fs[q]? =some f/\mg x=some (.ref f)
inductive spAnswer(K:PySem.W.Frag)(D C:Addr)(vs:List V)(H:Hp)(Q:VK)(_e3:XK):Prop|m:∀(h:House) (a:Addr) (q:Nat) (ns row:List Int) (nv rv:V),vs= [.ref a,.int (q:Int),nv,rv]->DrAt D C h a H->q < 18->Lst K IsI ns nv H->ns.length=numsOf.getD q 0->Lst K IsI row rv H->(q=0->row.length<=2000/\∀n∈row,0<=n/\n<=255)->(q≠0->row.length<=8)->RetS D C H a (Vbirad.step h (mkCall q ns row)) Q->spAnswer K D C vs H Q _e3
theorem Zu{bc:Addr}{fs:List Addr}(F:FunN K mg "answer" R5)(T:Blt mg)(S:Shc mg)(Z:Drg K mg D)(hs:GI mg "SHARING" 0)(B:Byc K mg bc fs)(A:Disp P w K mg base D C):Df P w K mg base 13 "answer" ["drought","call","numbers","row"] (spAnswer K D C):=by
 refine Df.of F Z2 (fun vs H Q E h=>?_) (fun f cdv Ar outer s H vs Q E hr h=>?_)
 ·obtain⟨h,a,q,ns,row,nv,rv,rfl,_⟩ :=h;rfl
 ·obtain⟨h,a,q,ns,row,nv,rv,rfl,dr,hq,ln,hn,lr,hb,h8,k⟩ :=h;refine⟨_,Ac (A1 (PW.pt (Tt (At Kv (pv 1) (pgc hs) (nomark _)) (Ob (At Cn (Ao An (by rfl) T.len PySem.boot_len (Aa (Ap (pv 0) rfl) Ab)) (Af) (nomark _)))))
    (Ad (Ah (Av (Aa (pgc S.NO_SHARING) Ab))))
    (Aq))
   (Ad (Ah (pcv P w K mg base 12 ["drought","numbers","row"] ⟨rfl,rfl,rfl,rfl,rfl⟩ (Ai Bc (pgt B.gt) (pv 1)) hr (Aa (pv 0) (Aa (pv 2) (Aa (pv 3) Ab))) rfl))),?_⟩
  obtain⟨x,hx,d⟩ :=A.all q hq;obtain⟨fq,hfq,hmg⟩ :=B.at_ q x hx;have ad:=d.adf hmg;have hat:atI (fs.map V.ref) (q:Int)=some (.ref fq):=atN (by rw[vR,hfq];rfl);have dr0:=dr;obtain⟨⟨dx,l,h1,h2⟩,wf⟩ :=dr;obtain⟨as,g1,g2,g3⟩ :=h2.ex;have hlen:h.parties.length=as.length:=Paired.length g2;have go:(q=0∨h.parties≠[])->spOf K D C q [.ref a,nv,rv] H Q (fun _ _ _=>False):=fun z=>by
   by_cases h0:q=0
   ·subst h0;obtain⟨b1,b2⟩ :=hb rfl;have hc:=casts fun n hn=>(b2 n hn).1;refine⟨h,a,row.map Int.toNat,nv,rv,rfl,dr0,?_,fun n hn=>?_,by rw[vB];exact b1,k⟩
    ·obtain⟨pr,xr,rfl,hlr,hir⟩ :=lr;obtain rfl:=C3 hir;refine⟨pr,_,rfl,hlr,?_⟩;have:Its IsN H (row.map Int.toNat) ((row.map Int.toNat).map fun(m:Nat)=>V.int (m:Int)):=Ya _;rw[show((row.map Int.toNat).map fun(m:Nat)=>V.int (m:Int))=row.map V.int from by
      conv=>rhs;rw[<-hc]
      rw[vX,vX,vX];rfl]at this
     exact this
    ·obtain⟨m,hm,rfl⟩ :=vL hn;have:=b2 m hm;omega
   ·have hne:h.parties≠[]:=z.resolve_left h0;show(if q=0 then spShar K D C else spAns K D C (numsOf.getD q 0) (mkCall q)) [.ref a,nv,rv] H Q (fun _ _ _=>False);rw[if_neg h0];exact⟨h,a,ns,row,nv,rv,rfl,dr0,hne,ln,hn,lr,h8 h0,k⟩
  have run:(q=0∨h.parties≠[])->∃(f:Addr) (sp:Sp),V.ref fq=.ref f/\Adf P w K mg base 12 f ["drought","numbers","row"] sp/\sp [.ref a,nv,rv] H Q (fun _ _ _=>False):=fun z=> ⟨fq,_,rfl,ad,go z⟩;refine⟨_,rfl,rfl,_,rfl,?_⟩;refine iteB (fun c1=>?_) (fun c1=>?_)
  ·rw[Br]at c1;have c1:q≠0:=fun z=>by rw[z]at c1;simp at c1
   refine⟨_,rfl,a,D,dx,_,_,rfl,h1,Z.cl,Z.nParties,Au,l,_,rfl,.inl (SqL.of g1),rfl,_,rfl,?_⟩;rw[vB,<-hlen,Br];refine iteB (fun c2=>?_) (fun c2=>?_)
   ·have c2:=vG c2;have hp:h.parties= []:=v5 (by omega);rw[Z7 hp c1]at k;exact⟨by show 1<=sizeLine;decide,ret1 (.of (Same.refl _)) dr0 k⟩
   ·have c2:=vH c2;obtain⟨f',sp',e1,e2,e3⟩ :=run (.inr fun z=>c2 (by rw[z];rfl));refine⟨_,rfl,bc,_,_,_,rfl,rfl,B.gt.its _,hat,f',sp',e1,e2,_,rfl,_,rfl,_,rfl,?_⟩;exact e3
  ·rw[Br]at c1;have c1:q=0:=by
    have:=of_decide_eq_true (by simpa using c1:decide ((q:Int)=0)=true);omega
   obtain⟨f',sp',e1,e2,e3⟩ :=run (.inl c1);refine iteFl rfl ?_;refine⟨_,rfl,bc,_,_,_,rfl,rfl,B.gt.its _,hat,f',sp',e1,e2,_,rfl,_,rfl,_,rfl,?_⟩;exact e3
end
open PyVbirad (shape)
theorem fF{X:Cx}{e:Expr}{te:TE}(he:PE X e te):PE X e (fun σ H Q=>∃qa xs,H qa=some (.lst xs)/\∀od,te σ (upd H qa (.frz od (.lst xs))) fun v H2=>H2 qa=some (.frz od (.lst xs))/\Q v (upd H2 qa (.lst xs))):=by
 intro pins s σ H Q I h;obtain⟨qa,xs,hq,k⟩ :=h;have mu:Mut (some (.lst xs)):=trivial;obtain⟨od,I2⟩ :=I.lock hq mu;have nf:=I.nofrz hq mu;exact thn (he pins s σ _ _ I2 (k od)) fun u s' ⟨v,H',I',r,h1,q⟩ => ⟨v,_,I'.unlock h1 nf,r,q⟩
abbrev mk(H:Hp)(qa:Addr):Hp:=upd H qa (.rng 0 0)
theorem Xb{H:Hp}{qa:Addr}{o:HO}:mk (upd H qa o) qa=mk H qa:=T8
theorem Yt{H:Hp}{qa b:Addr}{o:HO}(h:mk H qa b=some o)(n:o≠.rng 0 0):b≠qa/\H b=some o:=by
 by_cases e:b=qa
 ·rw[e,show mk H qa qa=some (.rng 0 0) from Ae]at h;exact absurd (vE h).symm n
 ·exact⟨e,by rw[<-h];exact(Ak e).symm⟩
theorem bR{H:Hp}{qa b:Addr}{o:HO}(h:H b=some o)(n:b≠qa):mk H qa b=some o:=by
 show upd H qa _ b=_;rw[Ak n];exact h
section
variable {P:Program}{w:World}{K:PySem.W.Frag}{mg:Str->Option Value}{base:Heap}{C D:Addr}
theorem DrAt.repl{h:House}{a:Addr}{G G':Hp}(dr:DrAt D C h a G)(k:∀b o,G b=some o->((∃xs,o=.lst xs)∨∃c dx fs,o=.ins c dx fs)->G' b=some o):DrAt D C h a G':=by
 obtain⟨⟨dx,l,h1,h2⟩,wf⟩ :=dr;obtain⟨as,g1,g2,g3⟩ :=h2.ex;refine⟨⟨dx,l,k _ _ h1 (.inr ⟨_,_,_,rfl⟩),as,k _ _ g1 (.inl ⟨_,rfl⟩),Paired.mono (fun p b pa=>?_) g2,g3⟩,wf⟩;obtain⟨dy,pm,nm,q1,q2,q3⟩ :=pa.ex;exact⟨dy,pm,nm,k _ _ q1 (.inr ⟨_,_,_,rfl⟩),q2,k _ _ q3 (.inl ⟨_,rfl⟩)⟩
theorem Vz{G G':Hp}{p:Addr}{xs:List V}(h:SqL K G p xs)(k:∀b o,G b=some o->(o=.lst xs∨∃ob,o=.frz ob (.lst xs))->G' b=some o):SqL K G' p xs:=by
 rcases h with(h| ⟨o,h⟩)|h
 ·exact .inl (.inl (k _ _ h (.inl rfl)))
 ·exact .inl (.inr ⟨o,k _ _ h (.inr ⟨_,rfl⟩)⟩)
 ·exact .inr h
theorem iT{H:Hp}{qa p:Addr}{xs:List V}(h:SqL K (mk H qa) p xs):SqL K H p xs:=
 Vz h fun b o e z=>(Yt e (by rcases z with rfl| ⟨_,rfl⟩ <;>intro z<;>cases z)).2
theorem Ye(xs:List Int)(i n:Nat)(h:i + n<=xs.length):cutV (xs.map V.int) (some ((i:Nat):Int)) (some ((i + n:Nat):Int))=((xs.drop i).take n).map V.int:=by
 unfold cutV;rw[HT.sIx_nat,HT.sIx_nat,List.length_map,Nat.min_eq_left (by omega),Nat.min_eq_left (by omega),List.map_take,List.map_drop];congr 1;omega
theorem eF{G X:Prop}(f:G->X)(g:G):X:=f g
def wBody(s:Stmt):List Stmt:=match s with
 |.While _ b _ _=>b
 |_=>[]
theorem aA(a:List Int)(l:List (List Int)):PyFlat.told (a::l)=(a.length:Int)::a++PyFlat.told l:=by
 unfold PyFlat.told;rw[List.flatMap_cons]
def spTop(K:PySem.W.Frag):Sp:=fun vs H Q _=>∃(pc:Addr) (L:List Int),vs= [.ref pc]/\SqL K H pc (L.map V.int)/\PyVbirad.answers_asked L=true/\∀(H':Hp) (p:Addr),H' p=some (.lst ((PyVbirad.answers L).map V.int))->Q (.ref p) H'
abbrev Gr:Stmt:=top 121
theorem Bt:FnScope ["calls","drought","answered","place","call","row_place","numbers","row","told"] ["calls"] (defScope Gr):=fS
theorem Xf{nc f:Addr}{fd:FuncData}(F:Fun K "answers" "answers" Gr f fd)(T:Blt mg)(Z:Drg K mg D)(hs:GI mg "SHARING" 0)(hu:GI mg "SURE" 8)(Nc:GT K mg "NUMBER_COUNTS" nc (numsOf.map fun(n:Nat)=>V.int (n:Int)))
  (yF:Idf P w K mg base D 1 ["self"] (spDInit D)) (yM:Df P w K mg base 13 "answer" ["drought","call","numbers","row"] (spAnswer K D C)):FnOk P w K mg base CX0 14 f fd ["calls"] (spTop K):=by
 refine F.ok Bt (fun vs H Q E h=>?_) (fun cdv A outer s H vs Q E hr h=>?_)
 ·obtain⟨pc,L,rfl,_⟩ :=h;rfl
 ·obtain⟨pc,L,rfl,hpc,hask,k⟩ :=h;have key:∃t2,PSs (cxOf CX0 P w K mg base ["calls","drought","answered","place","call","row_place","numbers","row","told"] "answers" (defScope Gr) f cdv A outer s H E).nox ((wBody ((defBody Gr).getD 3 (.Pass ⟨0,0,0,0⟩))).drop 6) t2/\
    ∀(Dn:Ends) (H1:Hp) (h:House) (a qa:Addr) (q:Nat) (ns row:List Int) (pn pr:Addr) (plc rp:Option V) (acc:List Int) (o:Option V),DrAt D C h a (mk H1 qa)->H1 qa=some (.lst (acc.map V.int))->H1 pn=some (.lst (ns.map V.int))->pn≠qa->H1 pr=some (.lst (row.map V.int))->pr≠qa->
     q < 18->ns.length=numsOf.getD q 0->(q=0->row.length<=2000/\∀n∈row,0<=n/\n<=255)->(q≠0->row.length<=8)->acc.length + 1 + (Vbirad.step h (mkCall q ns row)).2.length<=10000000->
     (∀(H5:Hp) (o':V),(∀b ob,H1 b=some ob->(∀c dx fs,ob≠.ins c dx fs)->b≠qa->H5 b=some ob)->H5 qa=some (.lst ((acc++((Vbirad.step h (mkCall q ns row)).2.length:Int)::(Vbirad.step h (mkCall q ns row)).2).map V.int))->
      DrAt D C (Vbirad.step h (mkCall q ns row)).1 a (mk H5 qa)->Dn.nx [some (.ref pc),some (.ref a),some (.ref qa),plc,some (.int (q:Int)),rp,some (.ref pn),some (.ref pr),some o'] H5)->
     t2 Dn [some (.ref pc),some (.ref a),some (.ref qa),plc,some (.int (q:Int)),rp,some (.ref pn),some (.ref pr),o] H1:=by
   refine⟨_,Ac (Aj (i:=8) Bt.nd rfl (Or.inl rfl) (fF (pd yM hr (Aa (pv 1) (Aa (pv 4) (Aa (pv 6) (Aa (pv 7) Ab)))))))
    (Ac (Cg (Eh PySem.F.plainAttrs_list PySem.F.slot_list_append PySem.F.type_list_append Dc (pv 2) (Aa (Ao An (by rfl) T.len PySem.boot_len (Aa (pv 8) Ab)) Ab)))
    (Ad (Cg (Eh PySem.F.plainAttrs_list PySem.F.slot_list_extend PySem.F.type_list_extend Jg (pv 2) (Aa (pv 8) Ab))))),?_⟩
   intro Dn H1 h a qa q ns row pn pr plc rp acc o dr hqa hpn npn hpr npr hq hns hb h8 hlen kn;refine⟨qa,acc.map V.int,hqa,fun od=>?_⟩;have drL:DrAt D C h a (upd H1 qa (.frz od (.lst (acc.map V.int)))):=dr.repl fun b ob e z=>by
    obtain⟨e1,e2⟩ :=Yt e (by rcases z with⟨_,rfl⟩ | ⟨_,_,_,rfl⟩ <;>intro z<;>cases z);rw[Ak e1];exact e2
   refine⟨_,rfl,_,rfl,_,rfl,_,rfl,h,a,q,ns,row,.ref pn,.ref pr,rfl,drL,hq,⟨pn,_,rfl,SqL.of (by rw[Ak npn];exact hpn),C2 _⟩,hns,⟨pr,_,rfl,SqL.of (by rw[Ak npr];exact hpr),C2 _⟩,hb,h8,?_⟩;rintro _ H2 kp dr2 ⟨pt,zt,rfl,hpt,izt⟩;obtain rfl:=C3 izt;generalize Vbirad.step h (mkCall q ns row)=st at dr2 hlen kn hpt;have hq2:H2 qa=some (.frz od (.lst (acc.map V.int))):=kp _ _ Ae (fun c dx fs z=>by cases z);refine⟨hq2,?_⟩;have npt:pt≠qa:=fun z=>by rw[z,hq2]at hpt;cases hpt
   have hpt3:(upd H2 qa (.lst (acc.map V.int))) pt=some (.lst (st.2.map V.int)):=by rw[Ak npt];exact hpt
   refine⟨_,rfl,.inl ⟨rfl,_,SqL.of Ae⟩,_,rfl,pt,_,rfl,.inl (SqL.of hpt3),qa,_,_,rfl,rfl,Ae,?_,?_⟩
   ·rw[vB];exact vO (show _<=10000000 by omega) (by decide)
   rw[T8,vB];refine⟨_,rfl,.inl ⟨rfl,_,SqL.of Ae⟩,_,rfl,qa,pt,_,_,rfl,rfl,Ae,(by rw[Ak npt];exact hpt),?_,?_⟩
   ·rw[vI,vB,vB,List.length_singleton];exact vA (show _<=10000000 by omega) (by decide)
   rw[T8];refine kn _ _ (fun b ob e n hb=>?_) ?_ ?_
   ·rw[Ak hb];exact kp _ _ (by rw[Ak hb];exact e) n
   ·rw[Ae];simp
   ·rw[Xb];exact dr2.repl fun b ob e z=>bR e fun y=>by
     rw[y,hq2]at e;rcases z with⟨_,rfl⟩ | ⟨_,_,_,rfl⟩ <;>cases e
  obtain⟨t2,pt2,kt2⟩ :=key;refine⟨_,Ac (Aj (i:=1) Bt.nd rfl (Or.inl rfl) (pmk0 yF Z.mgD hr))
   (Ac (Aj (i:=2) Bt.nd rfl (Or.inl rfl) (Av (Ab)))
   (Ac (Aj (i:=3) Bt.nd rfl (Or.inl rfl) (Af))
   (Ac (K1 PassesOwn.never (At Ku (pv 3) (Ao An (by rfl) T.len PySem.boot_len (Aa (pv 0) Ab)) (nomark _))
    (Ac (Aj (i:=4) Bt.nd rfl (Or.inl rfl) (Ai Ag (pv 0) (pv 3)))
    (Ac (Aj (i:=5) Bt.nd rfl (Or.inl rfl) (Az B7 (Az B7 (pv 3) (Af)) (Ai Bc (pgt Nc) (pv 4))))
    (Ac (Aj (i:=6) Bt.nd rfl (Or.inl rfl) (Cr Ds (pv 0) (C0 (Az B7 (pv 3) (Af))) (C0 (pv 5))))
    (Ac (Aj (i:=7) Bt.nd rfl (Or.inl rfl) (Av (Ab)))
    (Ac (Aj (i:=3) Bt.nd rfl (Or.inl rfl) (pv 5))
    (Ac (A1 (PW.pt (Dv (At Cn (pv 4) (pgc hs) (nomark _)) (C8 (At Cn (pv 4) (pgc hu) (nomark _)))))
     (Ac (Aj (i:=3) Bt.nd rfl (Or.inl rfl) (Az B7 (Az B7 (pv 5) (Af)) (Ai Ag (pv 0) (pv 5))))
     (Ad (Aj (i:=7) Bt.nd rfl (Or.inl rfl) (Cr Ds (pv 0) (C0 (Az B7 (pv 5) (Af))) (C0 (pv 3))))))
     (Aq)) pt2)))))))
   (Ad (Ah (pv 2)))))),?_⟩
  obtain⟨cs0,hcs0,hask0⟩ :∃cs,PyFlat.calls shape L.length L=some cs/\∀c∈cs,VbiradNeutral.asked1 c=true:=by
   unfold PyVbirad.answers_asked at hask;cases hc:PyFlat.calls shape L.length L with
   |none=>rw[hc]at hask;cases hask
   |some raw=>
    rw[hc]at hask;dsimp only at hask;rw[Bool.and_eq_true,Bool.and_eq_true]at hask;have h1:=hask.1.2;rw[Sf]at h1;unfold VbiradNeutral.asked at h1;rw[Bool.and_eq_true]at h1;exact⟨raw,rfl,fun c hcm=>List.all_eq_true.mp h1.1 c hcm⟩
  have hshort:(PyVbirad.answers L).length<=10000000:=by
   unfold PyVbirad.answers_asked at hask;rw[hcs0]at hask;dsimp only at hask;rw[Bool.and_eq_true]at hask;exact of_decide_eq_true hask.2
  have hans:=Wo hcs0;intro a dxa na nda nea;refine⟨a,dxa,rfl,Ae,fun l H1 nl ha hl keep=> ⟨rfl,?_⟩⟩;have s1:Same H H1:=Same.made na nda keep;have dr1:DrAt D C VbiradNeutral.start a H1:= ⟨⟨dxa,l,ha,[],hl,.nil,.nil⟩,O0.wf⟩;refine⟨vW _,fun qa nqa=>?_⟩;have drM:DrAt D C VbiradNeutral.start a (mk (upd H1 qa (.lst [])) qa):=by
   rw[Xb];exact dr1.keep (Same.upd nqa)
  have sqM:SqL K (mk (upd H1 qa (.lst [])) qa) pc (L.map V.int):=by
   rw[Xb];exact(s1.trans (Same.upd nqa)).seq hpc
  have q0:(upd H1 qa (.lst [])) qa=some (.lst []):=Ae;generalize upd H1 qa (.lst [])=H2 at drM sqM q0;refine Qn (fun σ H'=>∃(p f:Nat) (h:House) (acc:List Int) (cs:List (List (List Int))) (c4 c5 c6 c7 c8:Option V),σ= [some (.ref pc),some (.ref a),some (.ref qa),some (.int (p:Int)),c4,c5,c6,c7,c8]/\p<=L.length/\SqL K (mk H' qa) pc (L.map V.int)/\H' qa=some (.lst (acc.map V.int))/\DrAt D C h a (mk H' qa)/\
    PyFlat.calls shape f (L.drop p)=some cs/\(∀c∈cs,VbiradNeutral.asked1 c=true)/\PyVbirad.answers L=acc++PyFlat.told (PyFlat.played VbiradNeutral.step h cs))
   (fun σ _=>match σ with| [_,_,_,some (.int p),_,_,_,_,_]=>L.length - p.toNat|_=>0)
   ⟨0,L.length,VbiradNeutral.start,[],cs0,none,none,none,none,none,rfl,vW _,sqM,q0,drM,hcs0,hask0,hans⟩ ?_ ?_
  ·rintro σ H3 ⟨p,f',h,acc,cs,c4,c5,c6,c7,c8,rfl,hpl,sq,hqa,dr,hcs,hasked,heq⟩;have sq3:=iT sq;refine⟨_,rfl,_,rfl,pc,_,rfl,.inl sq3,_,_,rfl,rfl,_,rfl,?_⟩;rw[vB];refine iteB (fun c1=>?_) (fun c1=>?_)
   ·have c1:=vG c1;have hplt:p < L.length:=by omega
    cases hd:L.drop p with
    |nil=>
     have:(L.drop p).length=0:=by rw[hd];rfl
     rw[vZ]at this;omega
    |cons z r=>
     rw[hd]at hcs;obtain⟨q,n,c,t,cs',f2,rfl,hq,hn,rfl,hcs',hhead⟩ :=Wp hcs;have hlen:r.length + 1=L.length - p:=by rw[<-List.length_cons (a:=((q:Nat):Int)),<-hd,vZ]
     have hLp:L[p]? =some (q:Int):=by
      have:(L.drop p)[0]? =some (q:Int):=by rw[hd];rfl
      rwa [List.getElem?_drop,Nat.add_zero]at this
     have hLr:L.drop (p + 1)=r:=by
      rw[<-List.drop_drop,hd];rfl
     have hn2:numsOf.getD q 0=n:=by rw[vS,hn];rfl
     have hnr:n<=r.length:=by cases hhead<;>assumption
     have hac:VbiradNeutral.asked1 c=true:=hasked c (by simp);have hatp:atI (L.map V.int) (p:Int)=some (.int (q:Int)):=atN (by rw[List.getElem?_map,hLp];rfl);have hatn:atI (numsOf.map fun(n:Nat)=>V.int (n:Int)) (q:Int)=some (.int (n:Int)):=atN (by rw[List.getElem?_map,hn];rfl);refine⟨_,rfl,_,rfl,pc,_,_,_,rfl,rfl,sq3,hatp,?_⟩;refine⟨_,rfl,_,_,rfl,rfl,_,rfl,nc,_,_,_,rfl,rfl,Nc.its _,hatn,_,_,rfl,rfl,?_⟩;refine⟨_,rfl,_,rfl,_,_,rfl,rfl,_,rfl,_,rfl,_,rfl,pc,_,rfl,sq3,fun pn npn=>?_⟩;have ecut:cutV (L.map V.int) (some ((p:Int) + 1)) (some ((p:Int) + 1 + (n:Int)))=(r.take n).map V.int:=by
      have:=Ye L (p + 1) n (by omega);rw[hLr]at this;exact this
     rw[ecut];have s4:Same H3 (upd H3 pn (.lst ((r.take n).map V.int))):=Same.upd npn;have k4:(upd H3 pn (.lst ((r.take n).map V.int))) pn=some (.lst ((r.take n).map V.int)):=Ae;have nqn:pn≠qa:=(Al hqa npn).symm;generalize upd H3 pn (.lst ((r.take n).map V.int))=H4 at s4 k4;refine⟨vW _,fun pr npr=>?_⟩;have s5:Same H4 (upd H4 pr (.lst [])):=Same.upd npr;have k5:(upd H4 pr (.lst [])) pr=some (.lst []):=Ae;have nqr:pr≠qa:=(Al (s4 _ _ hqa) npr).symm;generalize upd H4 pr (.lst [])=H5 at s5 k5;have s35:=s4.trans s5;refine⟨_,rfl,?_⟩;have drS:∀Hx,Same H3 Hx->DrAt D C h a (mk Hx qa):=fun Hx sx=>dr.repl fun b ob e z=>by
      obtain⟨e1,e2⟩ :=Yt e (by rcases z with⟨_,rfl⟩ | ⟨_,_,_,rfl⟩ <;>intro z<;>cases z);exact bR (sx _ _ e2) e1
     have hnl:(r.take n).length=n:=by rw[vU];omega
     have hstep:∀(row:List Int),c=(if rowsOf q=1 then [(q:Int)::r.take n,row]else [(q:Int)::r.take n])->VbiradNeutral.step h c=Vbirad.step h (mkCall q (r.take n) row):=fun row ec=>by
      unfold VbiradNeutral.step;rw[ec,Y8 hq (by rw[hnl];exact hn)]
     have fin:∀(row:List Int) (p2:Nat) (Hx:Hp) (pr2:Addr) (rp:Option V),Same H3 Hx->Hx pn=some (.lst ((r.take n).map V.int))->Hx pr2=some (.lst (row.map V.int))->pr2≠qa->c=(if rowsOf q=1 then [(q:Int)::r.take n,row]else [(q:Int)::r.take n])->L.drop p2=t->p < p2->p2<=L.length->
       (q=0->row.length<=2000/\∀n∈row,0<=n/\n<=255)->(q≠0->row.length<=8)->∀Dn:Ends,(∀σ' H',(∃(p f:Nat) (h:House) (acc:List Int) (cs:List (List (List Int))) (c4 c5 c6 c7 c8:Option V),σ'= [some (.ref pc),some (.ref a),some (.ref qa),some (.int (p:Int)),c4,c5,c6,c7,c8]/\p<=L.length/\SqL K (mk H' qa) pc (L.map V.int)/\H' qa=some (.lst (acc.map V.int))/\DrAt D C h a (mk H' qa)/\
        PyFlat.calls shape f (L.drop p)=some cs/\(∀c∈cs,VbiradNeutral.asked1 c=true)/\PyVbirad.answers L=acc++PyFlat.told (PyFlat.played VbiradNeutral.step h cs))/\(match σ' with| [_,_,_,some (.int p),_,_,_,_,_]=>L.length - p.toNat|_=>0) < L.length - p->Dn.nx σ' H')->
       t2 Dn [some (.ref pc),some (.ref a),some (.ref qa),some (.int (p2:Int)),some (.int (q:Int)),rp,some (.ref pn),some (.ref pr2),c8] Hx:=by
      intro row p2 Hx pr2 rp sx hpn2 hpr2 nqr2 ec ht hp2 hp2L hb h8 Dn kD;have est:=hstep row ec;have heq2:PyVbirad.answers L=acc++(((Vbirad.step h (mkCall q (r.take n) row)).2.length:Int)::(Vbirad.step h (mkCall q (r.take n) row)).2++PyFlat.told (PyFlat.played VbiradNeutral.step (Vbirad.step h (mkCall q (r.take n) row)).1 cs')):=by
       rw[heq];show acc++PyFlat.told ((VbiradNeutral.step h c).2::PyFlat.played VbiradNeutral.step (VbiradNeutral.step h c).1 cs')=_;rw[aA,est]
      have hl2:acc.length + 1 + (Vbirad.step h (mkCall q (r.take n) row)).2.length<=10000000:=by
       have:=hshort;rw[heq2,vI,vI,vK]at this;omega
      refine kt2 Dn Hx h a qa q (r.take n) row pn pr2 (some (.int (p2:Int))) rp acc c8 (drS Hx sx) (sx _ _ hqa) hpn2 nqn hpr2 nqr2 hq (by rw[hnl,hn2]) hb h8 hl2 fun H9 o' kp hq9 dr9=>kD _ _ ⟨⟨p2,f2,_,_,cs',_,_,_,_,_,rfl,hp2L,?_,hq9,dr9,?_,fun c hc=>hasked c (by simp[hc]),?_⟩,?_⟩
      ·refine Vz sq fun b ob e z=>?_;obtain⟨e1,e2⟩ :=Yt e (by rcases z with rfl| ⟨_,rfl⟩ <;>intro z<;>cases z);exact bR (kp _ _ (sx _ _ e2) (by rcases z with rfl| ⟨_,rfl⟩ <;>intro _ _ _ z<;>cases z) e1) e1
      ·rw[ht];exact hcs'
      ·rw[heq2,List.append_assoc]
      ·show L.length - ((p2:Int)).toNat < _;rw[vM];omega
     have hmu:∀(c4 c5 c6 c7 c8:Option V),(match [some (V.ref pc),some (V.ref a),some (V.ref qa),some (V.int (p:Int)),c4,c5,c6,c7,c8]with| [_,_,_,some (.int p),_,_,_,_,_]=>L.length - p.toNat|_=>0)=L.length - p:=fun _ _ _ _ _=>by
      show L.length - ((p:Int)).toNat=_;rw[vM]
     have e0:(p:Int) + 1 + (n:Int)=((p + 1 + n:Nat):Int):=rfl;have bare:rowsOf q=0->c= [(q:Int)::r.take n]/\t=r.drop n:=fun h0=>by
      cases hhead with
      |bare _ _=>exact⟨rfl,rfl⟩
      |row m s0 hr1=>rw[h0]at hr1;cases hr1
     have hdropn:r.drop n=L.drop (p + 1 + n):=by rw[<-hLr,List.drop_drop]
     have hq08:rowsOf q=1->q=0∨q=8:=fun h1=>by
      unfold rowsOf at h1;by_cases z:q=0∨q=8
      ·exact z
      ·rw[if_neg z]at h1;cases h1
     have go0:rowsOf q=0->∀Dn:Ends,(∀σ' H',(∃(p f:Nat) (h:House) (acc:List Int) (cs:List (List (List Int))) (c4 c5 c6 c7 c8:Option V),σ'= [some (.ref pc),some (.ref a),some (.ref qa),some (.int (p:Int)),c4,c5,c6,c7,c8]/\p<=L.length/\SqL K (mk H' qa) pc (L.map V.int)/\H' qa=some (.lst (acc.map V.int))/\DrAt D C h a (mk H' qa)/\
        PyFlat.calls shape f (L.drop p)=some cs/\(∀c∈cs,VbiradNeutral.asked1 c=true)/\PyVbirad.answers L=acc++PyFlat.told (PyFlat.played VbiradNeutral.step h cs))/\(match σ' with| [_,_,_,some (.int p),_,_,_,_,_]=>L.length - p.toNat|_=>0) < L.length - p->Dn.nx σ' H')->
       t2 Dn [some (.ref pc),some (.ref a),some (.ref qa),some (.int ((p + 1 + n:Nat):Int)),some (.int (q:Int)),some (.int ((p + 1 + n:Nat):Int)),some (.ref pn),some (.ref pr),c8] H5:=fun h0 Dn kD=>by
      obtain⟨b1,b2⟩ :=bare h0;refine fin [] (p + 1 + n) H5 pr _ s35 (s5 _ _ k4) k5 nqr (by rw[h0,b1];rfl) (by rw[b2,hdropn]) (by omega) (by omega) (fun z=>?_) (fun _=>vW _) Dn kD;rw[z]at h0;cases h0
     have go1:rowsOf q=1->∃(m:Nat) (s0:List Int),r.drop n=(m:Int)::s0/\m<=s0.length/\c= [(q:Int)::r.take n,s0.take m]/\t=s0.drop m:=fun h1=>by
      cases hhead with
      |bare hr0 _=>rw[h1]at hr0;cases hr0
      |row m s0 hr1 hnl hdr hms=>exact⟨m,s0,hdr,hms,rfl,rfl⟩
     refine⟨_,rfl,rfl,_,rfl,?_⟩;rw[Br];by_cases hr1:rowsOf q=1
     ·obtain⟨m,s0,hdr,hms,hc,ht⟩ :=go1 hr1
      refine' eF ?f ?g
      case f=>
       intro g;rcases hq08 hr1 with z|z
       ·refine iteTr (by rw[z];rfl) ?_;exact iteTr rfl g
       ·refine iteFl (by rw[z];rfl) ?_;refine⟨_,rfl,rfl,_,rfl,?_⟩;refine iteTr (by rw[Br,z];rfl) ?_;exact g
      have hms2:n + 1 + s0.length=r.length:=by
       have:(r.drop n).length=s0.length + 1:=by rw[hdr];rfl
       rw[vZ]at this;omega
      have hl1:p < p + 1 + n + 1 + m:=by omega
      have hl2:p + 1 + n + 1 + m<=L.length:=by omega
      have hLm:L[p + 1 + n]? =some (m:Int):=by
       have:(L.drop (p + 1 + n))[0]? =some (m:Int):=by rw[<-hdropn,hdr];rfl
       rwa [List.getElem?_drop,Nat.add_zero]at this
      have hLs:L.drop (p + 1 + n + 1)=s0:=by
       rw[<-List.drop_drop,<-hdropn,hdr];rfl
      have hatm:atI (L.map V.int) ((p:Int) + 1 + (n:Int))=some (.int (m:Int)):=atN (i:=p + 1 + n) (by rw[vR,hLm];rfl);have sq5:SqL K H5 pc (L.map V.int):=s35.seq sq3;refine⟨_,rfl,_,_,rfl,rfl,_,rfl,_,rfl,pc,_,_,_,rfl,rfl,sq5,hatm,_,_,rfl,rfl,?_⟩;refine⟨_,rfl,_,rfl,_,_,rfl,rfl,_,rfl,_,rfl,_,rfl,pc,_,rfl,sq5,fun pr2 npr2=>?_⟩;have ecut2:cutV (L.map V.int) (some ((p:Int) + 1 + (n:Int) + 1)) (some ((p:Int) + 1 + (n:Int) + 1 + (m:Int)))=(s0.take m).map V.int:=by
       have:=Ye L (p + 1 + n + 1) m (by omega);rw[hLs]at this;exact this
      rw[ecut2];have s6:Same H5 (upd H5 pr2 (.lst ((s0.take m).map V.int))):=Same.upd npr2;have k6:(upd H5 pr2 (.lst ((s0.take m).map V.int))) pr2=some (.lst ((s0.take m).map V.int)):=Ae;have nq2:pr2≠qa:=(Al (s35 _ _ hqa) npr2).symm;generalize upd H5 pr2 (.lst ((s0.take m).map V.int))=H6 at s6 k6;rw[hc]at hac;obtain⟨a0,a8⟩ :=Y7 hac;exact fin (s0.take m) (p + 1 + n + 1 + m) H6 pr2 _ (s35.trans s6) (s6 _ _ (s5 _ _ k4)) k6 nq2 (by rw[if_pos hr1,hc]) (by rw[ht,<-hLs,List.drop_drop]) hl1 hl2 a0 (fun z=>a8 ((hq08 hr1).resolve_left z)) _ fun σ' H' z=> ⟨z.1,vP z.2 (Nat.le_of_eq (hmu c4 c5 c6 c7 c8).symm)⟩
     ·have hr0:rowsOf q=0:=by
       unfold rowsOf at hr1⊢;by_cases z:q=0∨q=8
       ·rw[if_pos z]at hr1;exact absurd rfl hr1
       ·rw[if_neg z]
      have hq0:q≠0/\q≠8:=by
       unfold rowsOf at hr0;by_cases z:q=0∨q=8
       ·rw[if_pos z]at hr0;cases hr0
       ·exact⟨fun y=>z (.inl y),fun y=>z (.inr y)⟩
      refine iteFl (by rw[decide_eq_false_iff_not];omega) ?_;refine⟨_,rfl,rfl,_,rfl,?_⟩;refine iteFl (by rw[Br,decide_eq_false_iff_not];omega) ?_;exact go0 hr0 _ fun σ' H' z=> ⟨z.1,vP z.2 (Nat.le_of_eq (hmu c4 c5 c6 c7 c8).symm)⟩
   ·have c1:=vH c1;have:p=L.length:=by omega
    subst this;rw[List.drop_length]at hcs;obtain rfl:=Za hcs;refine⟨_,rfl,k _ _ ?_⟩;rw[heq,hqa];show _=some (HO.lst ((acc++[]).map V.int));rw[List.append_nil]
  ·rintro σ H' Q1 Q2 hq ⟨v,e,v2,e2,x2,x3,e3,e4,x5,x6,e5,e6,b,e7,h2⟩;exact⟨v,e,v2,e2,x2,x3,e3,e4,x5,x6,e5,e6,b,e7,hq _ _ h2⟩
end
structure AllF(K:PySem.W.Frag)(mg:Str->Option Value)(C D:Addr):Prop where
 f_greatest_divisor:FunN K mg "greatest_divisor" (top 1)
 f_ratio:FunN K mg "ratio" (top 2)
 f_whole:FunN K mg "whole" (top 3)
 f_plus:FunN K mg "plus" (top 4)
 f_minus:FunN K mg "minus" (top 5)
 f_times:FunN K mg "times" (top 6)
 f_over:FunN K mg "over" (top 7)
 f_at_most:FunN K mg "at_most" (top 8)
 f_lesser:FunN K mg "lesser" (top 9)
 f_greater:FunN K mg "greater" (top 10)
 f_total:FunN K mg "total" (top 12)
 f_least_of:FunN K mg "least_of" (top 11)
 f_by_parts:FunN K mg "by_parts" (top 23)
 f_is_filled:FunN K mg "is_filled" (top 24)
 f_filled_at:FunN K mg "filled_at" (top 25)
 f_unfilled_at:FunN K mg "unfilled_at" (top 26)
 f_common_level:FunN K mg "common_level" (top 27)
 f_highest_ratio:FunN K mg "highest_ratio" (top 28)
 f_even_level:FunN K mg "even_level" (top 29)
 f_has_level:FunN K mg "has_level" (top 30)
 f_level_kind:FunN K mg "level_kind" (top 31)
 f_limits_by:FunN K mg "limits_by" (top 32)
 f_proof_by:FunN K mg "proof_by" (top 33)
 f_by_level:FunN K mg "by_level" (top 34)
 f_factorial:FunN K mg "factorial" (top 35)
 f_sets_of:FunN K mg "sets_of" (top 36)
 f_mean_taken:FunN K mg "mean_taken" (top 37)
 f_by_chance:FunN K mg "by_chance" (top 38)
 f_by_order:FunN K mg "by_order" (top 39)
 f_shares_by:FunN K mg "shares_by" (top 40)
 i_Party:FunI K C "Party.__init__" (inClass (top 42) 0)
 m_is_group:FunM K C "is_group" "Party.is_group" (inClass (top 42) 1)
 f_make_person:FunN K mg "make_person" (top 43)
 f_make_group:FunN K mg "make_group" (top 44)
 f_all_claims:FunN K mg "all_claims" (top 46)
 f_member_claims:FunN K mg "member_claims" (top 47)
 f_member_weights:FunN K mg "member_weights" (top 48)
 f_all_shares:FunN K mg "all_shares" (top 49)
 f_group_proof:FunN K mg "group_proof" (top 50)
 f_left_over:FunN K mg "left_over" (top 51)
 f_sure_of:FunN K mg "sure_of" (top 52)
 f_got_together:FunN K mg "got_together" (top 53)
 f_as_text:FunN K mg "as_text" (top 67)
 f_lines_of:FunN K mg "lines_of" (top 68)
 f_words_of:FunN K mg "words_of" (top 69)
 f_number_of:FunN K mg "number_of" (top 70)
 f_is_name:FunN K mg "is_name" (top 71)
 f_names_of:FunN K mg "names_of" (top 72)
 f_taken_members:FunN K mg "taken_members" (top 73)
 f_read_members:FunN K mg "read_members" (top 74)
 f_read_person:FunN K mg "read_person" (top 75)
 f_read_group:FunN K mg "read_group" (top 76)
 f_read_party:FunN K mg "read_party" (top 77)
 f_has_root:FunN K mg "has_root" (top 78)
 f_read_sharing:FunN K mg "read_sharing" (top 79)
 f_flat:FunN K mg "flat" (top 99)
 m_has_party:FunM K D "has_party" "Drought.has_party" (inClass (top 98) 1)
 m_has_person:FunM K D "has_person" "Drought.has_person" (inClass (top 98) 2)
 m_has_group:FunM K D "has_group" "Drought.has_group" (inClass (top 98) 3)
 i_Drought:FunI K D "Drought.__init__" (inClass (top 98) 0)
 f_is_rising:FunN K mg "is_rising" (top 100)
 f_answer_water:FunN K mg "answer_water" (top 102)
 f_answer_claim:FunN K mg "answer_claim" (top 103)
 f_answer_rule:FunN K mg "answer_rule" (top 104)
 f_answer_claims:FunN K mg "answer_claims" (top 107)
 f_answer_shares:FunN K mg "answer_shares" (top 105)
 f_answer_share:FunN K mg "answer_share" (top 106)
 f_answer_sharing:FunN K mg "answer_sharing" (top 101)
 f_answer_proof:FunN K mg "answer_proof" (top 108)
 f_answer_sure:FunN K mg "answer_sure" (top 109)
 f_answer_if_water:FunN K mg "answer_if_water" (top 113)
 f_least_water:FunN K mg "least_water" (top 84)
 f_answer_least:FunN K mg "answer_least" (top 116)
 f_answer_counts:FunN K mg "answer_counts" (top 118)
 f_with_claim:FunN K mg "with_claim" (top 45)
 f_answer_if_claim:FunN K mg "answer_if_claim" (top 114)
 f_shares_by_each_rule:FunN K mg "shares_by_each_rule" (top 83)
 f_answer_rules:FunN K mg "answer_rules" (top 115)
 m_has_member:FunM K D "has_member" "Drought.has_member" (inClass (top 98) 4)
 f_shares_without:FunN K mg "shares_without" (top 81)
 f_answer_leave:FunN K mg "answer_leave" (top 111)
 f_share_as_two:FunN K mg "share_as_two" (top 82)
 f_answer_split:FunN K mg "answer_split" (top 112)
 f_excesses:FunN K mg "excesses" (top 54)
 f_answer_core:FunN K mg "answer_core" (top 110)
 f_words_for:FunN K mg "words_for" (top 86)
 f_write_sharing:FunN K mg "write_sharing" (top 87)
 f_answer_print:FunN K mg "answer_print" (top 117)
 f_answer:FunN K mg "answer" (top 120)
 f_answers:FunN K mg "answers" (top 121)
theorem gG{P:Program}{w:World}{K:PySem.W.Frag}{mg:Str->Option Value}{base:Heap}{C D kw rn bc nc:Addr}{fs:List Addr}(X:AllF K mg C D)(T:Blt mg)(hstr:mg "str"=none)(Cc:Cst mg)(R:Rdg K mg kw rn)(S:Shc mg)(Y:Pty K mg C)(Z:Drg K mg D)(hCD:C≠D)
  (hs:GI mg "SHARING" 0) (hu:GI mg "SURE" 8) (Nc:GT K mg "NUMBER_COUNTS" nc (numsOf.map fun(n:Nat)=>V.int (n:Int))) (B:Byc K mg bc fs) {fa:Addr} {fd:FuncData} (F:Fun K "answers" "answers" (top 121) fa fd):FnOk P w K mg base CX0 14 fa fd ["calls"] (spTop K):=by
 have yE:=iB (P:=P) (w:=w) (base:=base) X.f_greatest_divisor;have wW:=bZ (P:=P) (w:=w) (base:=base) X.f_ratio yE;have wC:=cC (P:=P) (w:=w) (base:=base) X.f_whole;have uR:=fC (P:=P) (w:=w) (base:=base) X.f_plus wW;have wH:=bY (P:=P) (w:=w) (base:=base) X.f_minus wW;have wO:=cA (P:=P) (w:=w) (base:=base) X.f_times wW;have uB:=fB (P:=P) (w:=w) (base:=base) X.f_over wW;have wL:=Xh (P:=P) (w:=w) (base:=base) X.f_at_most;have wR:=Zv (P:=P) (w:=w) (base:=base) X.f_lesser wL;have w8:=Xi (P:=P) (w:=w) (base:=base) X.f_greater wL;have uM:=cB (P:=P) (w:=w) (base:=base) X.f_total wC uR;have yA:=Va (P:=P) (w:=w) (base:=base) X.f_least_of wR;have u6:=U6 (P:=P) (w:=w) (base:=base) X.f_by_parts T wC wO uB;have wS:=Tf (P:=P) (w:=w) (base:=base) X.f_is_filled wL wO;have uH:=Tb (P:=P) (w:=w) (base:=base) X.f_filled_at wS;have uL:=Pk (P:=P) (w:=w) (base:=base) X.f_unfilled_at wS;have wX:=Np (P:=P) (w:=w) (base:=base) X.f_common_level T uB;have uA:=L5 (P:=P) (w:=w) (base:=base) X.f_highest_ratio wC uB w8;have uN:=Qv (P:=P) (w:=w) (base:=base) X.f_even_level T wX uH uL uA wH uM;have uW:=Td (P:=P) (w:=w) (base:=base) X.f_has_level Cc;have uO:=Qy (P:=P) (w:=w) (base:=base) X.f_level_kind T Cc wC wO wL;have wU:=Ti (P:=P) (w:=w) (base:=base) X.f_limits_by Cc wW wC;have wZ:=Vd (P:=P) (w:=w) (base:=base) X.f_proof_by T Cc uO wH wC wU uN;have uZ:=U4 (P:=P) (w:=w) (base:=base) X.f_by_level T Cc wZ wU wR wO wH wC;have w4:=Ta (P:=P) (w:=w) (base:=base) X.f_factorial T;have yI:=Xk (P:=P) (w:=w) (base:=base) X.f_sets_of;have uQ:=Q0 (P:=P) (w:=w) (base:=base) X.f_mean_taken T yI w4 wW;have uV:=S9 (P:=P) (w:=w) (base:=base) X.f_by_chance T uQ;have u0:=U5 (P:=P) (w:=w) (base:=base) X.f_by_order wC wR wH;have wJ:=Tl (P:=P) (w:=w) (base:=base) X.f_shares_by T Cc u6 uV u0 uZ;have yG:=Qs (P:=P) (w:=w) (base:=base) X.i_Party Y;have wF:=U9 (P:=P) (w:=w) (base:=base) X.m_is_group T Y;have wN:=Pi (P:=P) (w:=w) (base:=base) X.f_make_person Y yG;have uP:=Qz (P:=P) (w:=w) (base:=base) X.f_make_group Y yG;have wB:=Qt (P:=P) (w:=w) (base:=base) X.f_all_claims T Y wF;have wI:=L6 (P:=P) (w:=w) (base:=base) X.f_member_claims Y wB;have wE:=Ks (P:=P) (w:=w) (base:=base) X.f_member_weights Y;have wA:=Qu (P:=P) (w:=w) (base:=base) X.f_all_shares T Y wB wC wF wJ wE;have uI:=Pg (P:=P) (w:=w) (base:=base) X.f_group_proof Y wA wZ wI wE;have wT:=Th (P:=P) (w:=w) (base:=base) X.f_left_over w8 wH wC;have yJ:=Xl (P:=P) (w:=w) (base:=base) X.f_sure_of T Y wB wA wT;have uD:=Nq (P:=P) (w:=w) (base:=base) X.f_got_together wA uM;have yD:=Xg (P:=P) (w:=w) (base:=base) X.f_as_text T R;have yB:=Vb (P:=P) (w:=w) (base:=base) X.f_lines_of;have yC:=Ve (P:=P) (w:=w) (base:=base) X.f_words_of
 have wV:=Tj (P:=P) (w:=w) (base:=base) X.f_number_of T R;have yH:=Xj (P:=P) (w:=w) (base:=base) X.f_is_name T R;have wY:=Vc (P:=P) (w:=w) (base:=base) X.f_names_of Y;have wM:=L7 (P:=P) (w:=w) (base:=base) X.f_taken_members Y;have uE:=Nr (P:=P) (w:=w) (base:=base) X.f_read_members T R wY wM;have uK:=Pj (P:=P) (w:=w) (base:=base) X.f_read_person T R wV wN;have uS:=Q3 (P:=P) (w:=w) (base:=base) X.f_read_group T R uE uP;have uT:=Q4 (P:=P) (w:=w) (base:=base) X.f_read_party T R wV yH wY uK uS;have u9:=U8 (P:=P) (w:=w) (base:=base) X.f_has_root T wM;have uF:=Nt (P:=P) (w:=w) (base:=base) X.f_read_sharing T yD yB yC uT u9;have w9:=fA (P:=P) (w:=w) (base:=base) X.f_flat;have wG:=Te (P:=P) (w:=w) (base:=base) (C:=C) X.m_has_party T Z;have wK:=Qx (P:=P) (w:=w) (base:=base) X.m_has_person T Y Z wF wG;have wD:=Tc (P:=P) (w:=w) (base:=base) X.m_has_group T Y Z wF wG;have y3:=Nd (P:=P) (w:=w) (base:=base) X.i_Drought Z;have uX:=Tg (P:=P) (w:=w) (base:=base) X.f_is_rising T;have yZ:=No (P:=P) (w:=w) (base:=base) (C:=C) X.f_answer_water S Z hCD;have yR:=Nf (P:=P) (w:=w) (base:=base) X.f_answer_claim S R Y Z hCD wK;have y6:=Pe (P:=P) (w:=w) (base:=base) X.f_answer_rule S T R Y Z hCD wD;have yO:=L0 (P:=P) (w:=w) (base:=base) X.f_answer_claims S Z wB;have yQ:=L4 (P:=P) (w:=w) (base:=base) X.f_answer_shares S Z w9 wA;have yX:=Nl (P:=P) (w:=w) (base:=base) X.f_answer_share T S Z wG wA;have yN:=Kr (P:=P) (w:=w) (base:=base) X.f_answer_sharing T S Z hCD uF wB;have yV:=Nj (P:=P) (w:=w) (base:=base) X.f_answer_proof T S Y Z wD uW uI;have y8:=Pf (P:=P) (w:=w) (base:=base) X.f_answer_sure T S Y Z wD uX yJ uD w9;have yL:=J6 (P:=P) (w:=w) (base:=base) X.f_answer_if_water T S Z wG wA;have uJ:=Ph (P:=P) (w:=w) (base:=base) X.f_least_water wB wL wC wA;have yS:=Ng (P:=P) (w:=w) (base:=base) X.f_answer_least T S Z wG wB uJ;have yP:=L3 (P:=P) (w:=w) (base:=base) X.f_answer_counts T S Y Z wF wB;have uU:=Q5 (P:=P) (w:=w) (base:=base) X.f_with_claim T Y wN;have yK:=J5 (P:=P) (w:=w) (base:=base) X.f_answer_if_claim T S R Z wK uU wA;have wQ:=Gh (P:=P) (w:=w) (base:=base) X.f_shares_by_each_rule T R wA wI wE wJ;have yW:=Nk (P:=P) (w:=w) (base:=base) X.f_answer_rules T S Z wD w9 wQ;have wP:=Qw (P:=P) (w:=w) (base:=base) X.m_has_member Y Z wD;have w6:=Kt (P:=P) (w:=w) (base:=base) X.f_shares_without T Y wB wA wJ wH;have yT:=Nh (P:=P) (w:=w) (base:=base) X.f_answer_leave T S Z wP w6;have uG:=Nu (P:=P) (w:=w) (base:=base) X.f_share_as_two Y wI wE wA wJ uR
 have yY:=Nn (P:=P) (w:=w) (base:=base) X.f_answer_split T S Y Z wP wK uG;have u7:=U7 (P:=P) (w:=w) (base:=base) X.f_excesses Y wB wA wC uR wH wT;have y4:=Pd (P:=P) (w:=w) (base:=base) X.f_answer_core T S Z wD u7 yA;have uY:=Tm (P:=P) (w:=w) (base:=base) X.f_words_for hstr R Y wF;have uC:=L8 (P:=P) (w:=w) (base:=base) X.f_write_sharing T uY;have yU:=Ni (P:=P) (w:=w) (base:=base) X.f_answer_print T S Z uC;have A:Disp P w K mg base D C:= ⟨fun q hq=>match q,hq with
  |0,_=> ⟨"answer_sharing",rfl,yN.mono (by decide)⟩
  |1,_=> ⟨"answer_water",rfl,yZ.mono (by decide)⟩
  |2,_=> ⟨"answer_claim",rfl,yR.mono (by decide)⟩
  |3,_=> ⟨"answer_rule",rfl,y6.mono (by decide)⟩
  |4,_=> ⟨"answer_shares",rfl,yQ.mono (by decide)⟩
  |5,_=> ⟨"answer_share",rfl,yX.mono (by decide)⟩
  |6,_=> ⟨"answer_claims",rfl,yO.mono (by decide)⟩
  |7,_=> ⟨"answer_proof",rfl,yV.mono (by decide)⟩
  |8,_=> ⟨"answer_sure",rfl,y8.mono (by decide)⟩
  |9,_=> ⟨"answer_core",rfl,y4.mono (by decide)⟩
  |10,_=> ⟨"answer_leave",rfl,yT.mono (by decide)⟩
  |11,_=> ⟨"answer_split",rfl,yY.mono (by decide)⟩
  |12,_=> ⟨"answer_if_water",rfl,yL.mono (by decide)⟩
  |13,_=> ⟨"answer_if_claim",rfl,yK.mono (by decide)⟩
  |14,_=> ⟨"answer_rules",rfl,yW.mono (by decide)⟩
  |15,_=> ⟨"answer_least",rfl,yS.mono (by decide)⟩
  |16,_=> ⟨"answer_print",rfl,yU.mono (by decide)⟩
  |17,_=> ⟨"answer_counts",rfl,yP.mono (by decide)⟩
  |q + 18,h=>absurd h (by omega)⟩
 have yM:=Zu (P:=P) (w:=w) (base:=base) X.f_answer T S Z hs B A;have y9:=Xf (P:=P) (w:=w) (base:=base) F T Z hs hu Nc y3 yM;exact y9
section
variable {K:PySem.W.Frag}{mg:Str->Option Value}{h:Heap}{x qual:Str}{st:Stmt}{f C:Addr}{oc:Value}{od an:Option Addr}{osl:Array (Option Value)}{kV doc pm cdv ct:Value}
theorem eM(X:K.In h)(G:h.Ns mainGlobals mg)(a:PySem.W.nsIn K mainGlobals x=some (some (.ref f)))(l:K.lookup f=some ⟨oc,od,.func (PySem.W.fnOf x x (defArgs st) (defBody st) (defScope st) .none kV doc pm an cdv ct),osl⟩)
  (c:PySem.W.codeIn K cdv x=true) (k:PySem.W.keepIn K (.ref f)=true):FunN K mg x st:= ⟨f,_,PySem.W.mg_of X G a,W0 l c k⟩
theorem eL(a:PySem.W.findIn K (.ref C) x=some (some (.ref f)))(i:PySem.W.isFn K (.ref f)=true)(l:K.lookup f=some ⟨oc,od,.func (PySem.W.fnOf x qual (defArgs st) (defBody st) (defScope st) .none kV doc pm an cdv ct),osl⟩)
  (c:PySem.W.codeIn K cdv qual=true) (k:PySem.W.keepIn K (.ref f)=true):FunM K C x qual st:= ⟨f,_,⟨a,i,k⟩,W0 l c k⟩
theorem eK(m:PySem.W.makesIn K C=true)(a:PySem.W.findIn K (.ref C) "__init__"=some (some (.ref f)))(i:PySem.W.isFn K (.ref f)=true)(kc:PySem.W.keepIn K (.ref C)=true)(l:K.lookup f=some ⟨oc,od,.func (PySem.W.fnOf "__init__" qual (defArgs st) (defBody st) (defScope st) .none kV doc pm an cdv ct),osl⟩)
  (c:PySem.W.codeIn K cdv qual=true) (k:PySem.W.keepIn K (.ref f)=true):FunI K C qual st:= ⟨f,_,⟨m,a,i,kc⟩,W0 l c k⟩
theorem Um{i:Int}{t:Nat}(X:K.In h)(G:h.Ns mainGlobals mg)(a:PySem.W.nsIn K mainGlobals x=some (some (.int i t))):GI mg x i:= ⟨t,PySem.W.mg_of X G a⟩
theorem bD{p:Addr}{its:Array Value}{n:Nat}{xs:List V}{sl:Array (Option Value)}(X:K.In h)(G:h.Ns mainGlobals mg)(a:PySem.W.nsIn K mainGlobals x=some (some (.ref p)))(l:K.lookup p=some ⟨.type "tuple",none,.seq its n,sl⟩)(hs:its.size<=sizeLine)(hv:Vals xs its.toList):GT K mg x p xs:=
 ⟨PySem.W.mg_of X G a,fun _=>.inr ⟨_,_,_,l,rfl,rfl,hs,hv⟩,_,l,rfl,rfl⟩
theorem iP{s:String}{t:Nat}{b:Bytes}(X:K.In h)(G:h.Ns mainGlobals mg)(a:PySem.W.nsIn K mainGlobals x=some (some (.str (Str.ofString s) t)))(e:Vbirad.text s=b):GS mg x (sOf b):= ⟨t,by rw[PySem.W.mg_of X G a,Dj,e]⟩
theorem aO(pg:PySem.W.plainGet K C Str.empty=true)(hd:PySem.W.hasDictIn K C=true)(po:PySem.W.plainOver K C=true)(sa:PySem.W.findIn K (.ref C) "__setattr__"=some (some (.builtin "object.__setattr__"))):Cls K C:= ⟨pg,hd,po,sa⟩
theorem Wj:∀{ss:List String} {us:List Value},Paired (fun s u=>∃t,u=Value.str (Str.ofString s) t) ss us->Vals (sV (ss.map Vbirad.text)) us
 |_,_,.nil=>.nil
 |_,_,.cons ⟨t,e⟩ r=>.cons ⟨t,by rw[e,Dj]⟩ (Wj r)
theorem Wh:∀{ns:List Nat} {us:List Value},Paired (fun(n:Nat) u=>∃t,u=Value.int (n:Int) t) ns us->Vals (ns.map fun(n:Nat)=>V.int (n:Int)) us
 |_,_,.nil=>.nil
 |_,_,.cons ⟨t,e⟩ r=>.cons ⟨t,e⟩ (Wh r)
theorem Wi:∀{fs:List Addr} {us:List Value},us=fs.map Value.ref->Vals (fs.map V.ref) us
 | [],_,e=>by rw[e];exact .nil
 |f::fs,_,e=>by rw[e];exact .cons rfl (Wi rfl)
theorem gN{P:Program}{w:World}{fa D kw rn bc nc:Addr}{fs:List Addr}(KX:K.In h)(G:h.Ns mainGlobals mg)(hfa:mg "answers"=some (.ref fa))(aC:PySem.W.nsIn K mainGlobals "Party"=some (some (.ref C)))(aD:PySem.W.nsIn K mainGlobals "Drought"=some (some (.ref D)))
  (hCD:C≠D) (X:AllF K mg C D) (T:Blt mg) (hstr:mg "str"=none) (Cc:Cst mg) (R:Rdg K mg kw rn) (S:Shc mg) (Y:Pty K mg C) (Z:Drg K mg D)
  (hs:GI mg "SHARING" 0) (hu:GI mg "SURE" 8) (Nc:GT K mg "NUMBER_COUNTS" nc (numsOf.map fun(n:Nat)=>V.int (n:Int))) (B:Byc K mg bc fs):
  ∃fd:FuncData,(∀(s:Shared) (us:List Value),us.length=(["calls"]:List Str).length->BindsTo s fd ⟨us,[]⟩ ((["calls"]:List Str).zip us))/\∀base:Heap,K.In base->base.Ns mainGlobals mg->FnOk P w K mg base CX0 14 fa fd ["calls"] (spTop K):=by
 obtain⟨f,fd,hm,F⟩ :=X.f_answers.ex;rw[hfa]at hm;injection hm with hm
 injection hm with hm
 subst hm;refine⟨fd,?_,fun base _ _=>gG X T hstr Cc R S Y Z hCD hs hu Nc B F⟩;obtain⟨oc,od,kV,doc,pm,an,cdv,ct,osl,rfl,lk,hcd⟩ :=F.ex;exact fun s us hu=>match us,hu with| [_],_=>.of_eq rfl
theorem gI{p n f0 f1 f2 f3 f4 f5 f6 f7 f8 f9 f10 f11 f12 f13 f14 f15 f16 f17:Addr}{sl:Array (Option Value)}(X:K.In h)(G:h.Ns mainGlobals mg)(a:PySem.W.nsIn K mainGlobals "BY_CALL"=some (some (.ref p)))
  (l:K.lookup p=some ⟨.type "tuple",none,.seq #[.ref f0,.ref f1,.ref f2,.ref f3,.ref f4,.ref f5,.ref f6,.ref f7,.ref f8,.ref f9,.ref f10,.ref f11,.ref f12,.ref f13,.ref f14,.ref f15,.ref f16,.ref f17] n,sl⟩)
  (a0:PySem.W.nsIn K mainGlobals "answer_sharing"=some (some (.ref f0))) (a1:PySem.W.nsIn K mainGlobals "answer_water"=some (some (.ref f1))) (a2:PySem.W.nsIn K mainGlobals "answer_claim"=some (some (.ref f2))) (a3:PySem.W.nsIn K mainGlobals "answer_rule"=some (some (.ref f3))) (a4:PySem.W.nsIn K mainGlobals "answer_shares"=some (some (.ref f4))) (a5:PySem.W.nsIn K mainGlobals "answer_share"=some (some (.ref f5))) (a6:PySem.W.nsIn K mainGlobals "answer_claims"=some (some (.ref f6))) (a7:PySem.W.nsIn K mainGlobals "answer_proof"=some (some (.ref f7))) (a8:PySem.W.nsIn K mainGlobals "answer_sure"=some (some (.ref f8))) (a9:PySem.W.nsIn K mainGlobals "answer_core"=some (some (.ref f9))) (a10:PySem.W.nsIn K mainGlobals "answer_leave"=some (some (.ref f10))) (a11:PySem.W.nsIn K mainGlobals "answer_split"=some (some (.ref f11))) (a12:PySem.W.nsIn K mainGlobals "answer_if_water"=some (some (.ref f12))) (a13:PySem.W.nsIn K mainGlobals "answer_if_claim"=some (some (.ref f13))) (a14:PySem.W.nsIn K mainGlobals "answer_rules"=some (some (.ref f14))) (a15:PySem.W.nsIn K mainGlobals "answer_least"=some (some (.ref f15))) (a16:PySem.W.nsIn K mainGlobals "answer_print"=some (some (.ref f16))) (a17:PySem.W.nsIn K mainGlobals "answer_counts"=some (some (.ref f17))):Byc K mg p [f0,f1,f2,f3,f4,f5,f6,f7,f8,f9,f10,f11,f12,f13,f14,f15,f16,f17]:=by
 refine⟨bD X G a l (by show 18<=sizeLine;decide) (Wi (fs:=[f0,f1,f2,f3,f4,f5,f6,f7,f8,f9,f10,f11,f12,f13,f14,f15,f16,f17]) rfl),fun q x hx=>?_⟩
 match q,hx with
 |0,hx=>obtain rfl:=vE hx;exact⟨f0,rfl,PySem.W.mg_of X G a0⟩
 |1,hx=>obtain rfl:=vE hx;exact⟨f1,rfl,PySem.W.mg_of X G a1⟩
 |2,hx=>obtain rfl:=vE hx;exact⟨f2,rfl,PySem.W.mg_of X G a2⟩
 |3,hx=>obtain rfl:=vE hx;exact⟨f3,rfl,PySem.W.mg_of X G a3⟩
 |4,hx=>obtain rfl:=vE hx;exact⟨f4,rfl,PySem.W.mg_of X G a4⟩
 |5,hx=>obtain rfl:=vE hx;exact⟨f5,rfl,PySem.W.mg_of X G a5⟩
 |6,hx=>obtain rfl:=vE hx;exact⟨f6,rfl,PySem.W.mg_of X G a6⟩
 |7,hx=>obtain rfl:=vE hx;exact⟨f7,rfl,PySem.W.mg_of X G a7⟩
 |8,hx=>obtain rfl:=vE hx;exact⟨f8,rfl,PySem.W.mg_of X G a8⟩
 |9,hx=>obtain rfl:=vE hx;exact⟨f9,rfl,PySem.W.mg_of X G a9⟩
 |10,hx=>obtain rfl:=vE hx;exact⟨f10,rfl,PySem.W.mg_of X G a10⟩
 |11,hx=>obtain rfl:=vE hx;exact⟨f11,rfl,PySem.W.mg_of X G a11⟩
 |12,hx=>obtain rfl:=vE hx;exact⟨f12,rfl,PySem.W.mg_of X G a12⟩
 |13,hx=>obtain rfl:=vE hx;exact⟨f13,rfl,PySem.W.mg_of X G a13⟩
 |14,hx=>obtain rfl:=vE hx;exact⟨f14,rfl,PySem.W.mg_of X G a14⟩
 |15,hx=>obtain rfl:=vE hx;exact⟨f15,rfl,PySem.W.mg_of X G a15⟩
 |16,hx=>obtain rfl:=vE hx;exact⟨f16,rfl,PySem.W.mg_of X G a16⟩
 |17,hx=>obtain rfl:=vE hx;exact⟨f17,rfl,PySem.W.mg_of X G a17⟩
 |q + 18,hx=>cases hx
end
end Dr
namespace PySem.W.Fast
def tw1025652475472934968:=0
def tw3067765553750422963:=0
def tw16759440341656818721:=0
def tw5122573377176545697:=0
def tw18106019176991788296:=0
def tw12798713681819916972:=0
def tw15973895755791864596:=0
def tw15173839682262779499:=0
def tw2205418975401450616:=0
def tw16849959907965422506:=0
def tw14941457707256662301:=0
def tw5523286004712782596:=0
def tw1388008517838634374:=0
def tw1203358292331938370:=0
def tw15936341224003315713:=0
def tw16770513623550102736:=0
def tw211644220054007784:=0
def tw707454202958654163:=0
def tw1989177892578474096:=0
def tw15573228599586904257:=0
def tw9666326606711801642:=0
def tw6086060558569245524:=0
def tw1047919728742883103:=0
def tw13537465142135233437:=0
def tw10411576821472803484:=0
def tw7876696838492299566:=0
def tw14147588319006849571:=0
def tw310880375795618683:=0
def tw10503630582264557864:=0
def tw14406347418121187302:=0
def tw9669012968809781759:=0
def tw6907657069144691641:=0
def tw13056317315813116287:=0
def tw2757911093281992714:=0
def tw10260786953147316228:=0
def tw8932552735598307591:=0
def tw7400083399830132563:=0
def tw18318891460116567227:=0
def tw16958449457967194483:=0
def tw14508060912897897022:=0
def tw14803983903227213548:=0
def tw9679834919800374770:=0
def tw13755884279428735975:=0
def tw1337627939945198281:=0
def tw14276495478747008160:=0
def tw836688011586819844:=0
def tw4623020072127655727:=0
def tw10760431187562182861:=0
def tw17562529901396583326:=0
def tw10357758511036227297:=0
def tw17667524251098396766:=0
def tw4981008881858574090:=0
def tw14608828259530732901:=0
def tw5072807042339287127:=0
def tw18295387430605636819:=0
def tw11948488401452358310:=0
def tw7335275776845767183:=0
def tw9861883536239045642:=0
def tw11206944816124259422:=0
def tw2313043287278873721:=0
def tw16149940989716479643:=0
def tw1282474856748620182:=0
def tw4113924485411398324:=0
def tw10647971678441174986:=0
def tw16859340135699458404:=0
def tw14082989589674505809:=0
def tw13749064505677776818:=0
def tw4849641895805800333:=0
def tw706254148476726886:=0
def tw15798366460874248064:=0
def tw1933375407262007647:=0
def tw2518238345321000749:=0
def tw6557384667344733784:=0
def tw4267480046598759599:=0
def tw17139802387857625300:=0
def tw6734109038571380927:=0
def tw9460929115358662317:=0
def tw3237547375521329199:=0
def tw7293182142433612949:=0
def tw8749042436894593267:=0
def tw13053221792421711849:=0
def tw4819129927027881769:=0
def tw12973941392543663572:=0
def tw17979761457000083522:=0
def tw1638910175561477469:=0
def tw4343348680000508:=0
def tw17407858576350276126:=0
def tw146464206389438647:=0
def tw11390918337147228842:=0
def tw3779739075359180273:=0
def tw1428665219531820523:=0
def tw7855569098646396958:=0
def tw10829215538372121321:=0
def tw1641032868139549747:=0
def tw17401008837538466422:=0
def tw3332724221577613630:=0
def tw17187506266257023723:=0
def tw5880661673065229665:=0
def tw9130095742012583650:=0
def tw12533892649851824101:=0
def tw2066992198691250282:=0
def tw15573231897794931131:=0
def tw13002611210752712551:=0
def tw11442279311263621689:=0
def tw3347735268284113903:=0
def tw1261893185465355424:=0
def tw4163408037192747684:=0
def tw18022543859642257260:=0
def tw7351406168165403498:=0
def tw8831265216482328133:=0
def tw2159770346686520582:=0
def tw13908112878662594592:=0
def tw6987414652740833875:=0
def tw2853041195770637724:=0
def tw1649817174635508227:=0
def tw7694063081728086336:=0
def tw14537441268107955878:=0
def tw8972851876412678571:=0
def tw4300879115956987656:=0
def tw10489752457448179530:=0
def tw11481103492153017274:=0
def tw13578250459239995959:=0
def tw13239632760369451222:=0
def tw6971540168458364997:=0
def tw6754903659560552437:=0
def tw5994854753929612794:=0
def tw2838768151264426422:=0
def tw12327426961513422758:=0
def tw14535005327750041586:=0
def tw2230704044780744765:=0
def tw6730199685241928350:=0
def tw6701580006202321385:=0
def tw3834643614387291822:=0
def tw2857375842217084666:=0
def tw16984263905034932875:=0
def tw5635748860011929203:=0
def tw963080001696499017:=0
def tw2762402418371014453:=0
def tw3348440562791163089:=0
def tw6617099572983081053:=0
def tw3139668122791496605:=0
def tw11590549109937279683:=0
def tw13482355736705535577:=0
def tw5416470744374586428:=0
def tw1284489667586921254:=0
def tw13675909142629001872:=0
def tw9338952418080291584:=0
def tw21744480173065648:=0
def tw1786037944316529596:=0
def tw17850973752570191102:=0
def tw6538145419742622643:=0
def tw11695339370612249204:=0
def tw10327077245381749191:=0
def tw8947906301866250890:=0
def tw18266669676278561103:=0
def tw7480038212875555222:=0
def tw17431749786282117333:=0
def tw14470369188097513100:=0
def tw3501372451413909010:=0
def tw1653614115208593511:=0
def tw5152183925459804003:=0
def tw9838036124288854737:=0
def tw8475453188040818831:=0
def tw5303174214374417709:=0
def tw247361784764588774:=0
def tw4980452665530970110:=0
def tw14147366572344058795:=0
def tw17583036629320528120:=0
def tw12852599842159607189:=0
def tw17006368356024084853:=0
def tw4419765326664259568:=0
def tw6565343513783169789:=0
def tw5377093996187453955:=0
def tw4969987325841991238:=0
def tw3658371393182764146:=0
def tw9359230493571410462:=0
def tw3399268085347577015:=0
def tw17286570851724991820:=0
def tw11439978933149686078:=0
def tw10000443388739769964:=0
def tw2827961087410884528:=0
def tw10813572442890731042:=0
def tw8906927481602353094:=0
def tw770320659675206316:=0
def tw15891675132087984480:=0
def tw9928288868190965156:=0
def tw11060139528231042544:=0
def tw14327541907213618787:=0
def tw7509161303587900839:=0
def tw16361606689458091512:=0
def tw12266058608821407178:=0
def tw3656401371297534497:=0
def tw13160510495491379338:=0
def tw16254469955265773938:=0
def tw9091742252763058897:=0
def tw1776340415432442287:=0
def tw8582728509895432310:=0
def tw11319429753447346799:=0
def tw18435433602679475118:=0
def tw392480596785296100:=0
def tw8484184176419834559:=0
def tw651305360193210330:=0
def tw3255869252513227490:=0
def tw13048569739063776156:=0
def tw6240326209619804659:=0
def tw11282812385255448100:=0
def tw671161381462522467:=0
def tw11384326822352221056:=0
def tw8928686143974602688:=0
def tw1008284944118571561:=0
def tw3012938982550234700:=0
def tw12931399511947412144:=0
def tw12277786130538159664:=0
def tw2477744037755108046:=0
def tw555034408475107825:=0
def tw2794101943084841838:=0
def tw2811578247298320209:=0
def tw4561374169859299710:=0
def tw16279685909045546264:=0
def tw11318708855622087389:=0
def tw5737440386161978379:=0
def tw12977364167673504241:=0
def tw8626366488563880551:=0
def tw11294324550068462151:=0
def tw16625681425194304262:=0
def tw3788763675663873464:=0
def tw12973932607172967894:=0
def tw11072552216540632558:=0
def tw8021432884497638488:=0
def tw8103940105419929531:=0
end PySem.W.Fast
open PySem PySem.W PyProof.Rows
set_option maxRecDepth 100000 in
set_option maxHeartbeats 0 in
theorem PySem.Challenge.cw_droughtshares_s01_answers_holds : PySem.Challenge.rw_droughtshares_s01_answers.Holds := by
  w_on; k_headS; (case hw => exact ⟨[.list [.int 4]], by decide +kernel, by decide +kernel⟩)
  k_fillS
  refine L2.X7 (r := PySem.Challenge.rw_droughtshares_s01_answers) (k := 14) (CX := L2.CX0) (ps := ["calls"]) (sp := Dr.spTop) (by decide +kernel) rfl rfl ⟨rfl, by decide, by decide⟩ (fun w h Y => PySem.W.kIn_of Y) ?F ?S (fun _ _ _ _ z => z)
  case F =>
    intro w mg fa h Y KX G hmg
    refine' Dr.gN KX G hmg ?aC ?aD ?hCD ?X ?T ?hstr ?Cc ?R ?Sh ?Y ?Z ?hs ?hu ?Nc ?B
    (case aC => k_is); (case aD => k_is); (case hCD => decide)
    case T => constructor <;> exact mg_none_of KX G (by k_is)
    case hstr => exact mg_none_of KX G (by k_is)
    case Cc => constructor <;> (refine' Dr.Um KX G ?a; (case a => k_is))
    case Sh => constructor <;> (refine' Dr.Um KX G ?a; (case a => k_is))
    (case hs => (refine' Dr.Um KX G ?a; (case a => k_is))); (case hu => (refine' Dr.Um KX G ?a; (case a => k_is)))
    case X =>
      constructor <;> first
        | (refine' Dr.eM KX G ?a ?l ?c ?k; (case a => k_is); (case l => k_is); (case c => k_is); (case k => k_is))
        | (refine' Dr.eL ?a ?i ?l ?c ?k; (case a => k_is); (case i => k_is); (case l => k_is); (case c => k_is); (case k => k_is))
        | (refine' Dr.eK ?m ?a ?i ?kc ?l ?c ?k; (case m => k_is); (case a => k_is); (case i => k_is); (case kc => k_is); (case l => k_is); (case c => k_is); (case k => k_is))
    case Y => exact ⟨Dr.aO (by k_is) (by k_is) (by k_is) (by k_is), by unfold L2.NoAttr; k_is, by unfold L2.NoAttr; k_is, by unfold L2.NoAttr; k_is, by unfold L2.NoAttr; k_is, by unfold L2.NoAttr; k_is, mg_of KX G (by k_is)⟩
    case Z => exact ⟨Dr.aO (by k_is) (by k_is) (by k_is) (by k_is), by unfold L2.NoAttr; k_is, by unfold L2.NoAttr; k_is, mg_of KX G (by k_is)⟩
    case Nc =>
      refine' Dr.bD KX G ?a ?l ?s ?v
      (case a => k_is); (case l => k_is); (case s => decide +kernel)
      case v => exact Dr.Wh (.cons ⟨_, rfl⟩ (.cons ⟨_, rfl⟩ (.cons ⟨_, rfl⟩ (.cons ⟨_, rfl⟩ (.cons ⟨_, rfl⟩ (.cons ⟨_, rfl⟩ (.cons ⟨_, rfl⟩ (.cons ⟨_, rfl⟩ (.cons ⟨_, rfl⟩ (.cons ⟨_, rfl⟩ (.cons ⟨_, rfl⟩ (.cons ⟨_, rfl⟩ (.cons ⟨_, rfl⟩ (.cons ⟨_, rfl⟩ (.cons ⟨_, rfl⟩ (.cons ⟨_, rfl⟩ (.cons ⟨_, rfl⟩ (.cons ⟨_, rfl⟩ (.nil)))))))))))))))))))
    case R =>
      constructor <;> first
        | (refine' Dr.Um KX G ?a; (case a => k_is))
        | (refine' Dr.iP KX G ?a ?e; (case a => k_is); (case e => rfl))
        | (refine' Dr.bD KX G ?a ?l ?s ?v; (case a => k_is); (case l => k_is); (case s => decide +kernel); (case v => exact Dr.Wj (.cons ⟨_, rfl⟩ (.cons ⟨_, rfl⟩ (.cons ⟨_, rfl⟩ (.cons ⟨_, rfl⟩ (.cons ⟨_, rfl⟩ (.cons ⟨_, rfl⟩ (.nil)))))))))
    case B =>
      refine' Dr.gI KX G ?a ?l ?a0 ?a1 ?a2 ?a3 ?a4 ?a5 ?a6 ?a7 ?a8 ?a9 ?a10 ?a11 ?a12 ?a13 ?a14 ?a15 ?a16 ?a17
      (case a => k_is); (case l => k_is)
      (case a0 => k_is); (case a1 => k_is); (case a2 => k_is); (case a3 => k_is); (case a4 => k_is); (case a5 => k_is); (case a6 => k_is); (case a7 => k_is); (case a8 => k_is); (case a9 => k_is); (case a10 => k_is); (case a11 => k_is); (case a12 => k_is); (case a13 => k_is); (case a14 => k_is); (case a15 => k_is); (case a16 => k_is); (case a17 => k_is)
  case S =>
    intro K H xs a hO hwi hask hx
    cases hx with
    | cons h1 h2 =>
      cases h2
      cases h1 with
      | lst hs ha =>
        have e := L2.Ym a.1 _ ha
        subst e
        exact ⟨_, a.1, rfl, hs, hask, fun H' p hp => .lst (L2.SqL.of hp) (L2.Yi _)⟩
#print axioms PySem.Challenge.cw_droughtshares_s01_answers_holds
