/- Proved here: plain facts and contracts. No condition but what each names. -/
import Derived.Test.YthjclakhibnamaaGreatDoorD11
import Derived.Lib.Split
import Derived.Lib.Join
import Derived.Lib.Strings
namespace Go.Proofs.YthjclakhibnamaaGreatDoor
open Go.RowKit Go.Proofs.Tryz
open Go.RowKit Go.Maps
set_option maxHeartbeats 2000000
set_option maxRecDepth 100000
theorem vZ{a:Nd}(b:cM a=true):a.1.2.2.size<=8:=by
 have d:∀c:aq,c.toList.isEmpty=true->c.size<=8:=λc b=>by
  rw[cD]at b;have e:c.data.toList.length=c.size:=by simp
  have f:c.data.toList=[]:=by simpa using b
  rw[f]at e;simp at e;omega
 simp only[cM,aS]at b;obtain⟨b,_⟩:=b;split at b
 ·exact d _ (by simp at b;simpa using b.1)
 ·split at b
  ·simp only[ei,qX,aS,cU]at b;omega
  ·split at b
   ·exact d _ (by simp at b;simpa using b.1)
   ·split at b
    ·exact d _ (by simp at b;simpa using b.1.1)
    ·split at b
     ·exact d _ (by simp at b;simpa using b.1)
     ·split at b
      ·exact d _ (by simp at b;simpa using b.1)
      ·exact absurd b (by simp)
theorem xw:(n:Nat)->(x:Tm n)->(∀a∈aH n x,a.1.2.2.size<=8)->wt n x<=9*(aH n x).length
 | 0,_,_=>by simp[wt,aH]
 | n+1,x,b=>by
  have key:∀l:List (Tm n),(∀y∈l,∀a∈aH n y,a.1.2.2.size<=8)->(l.map λy=>wt n y).sum<=9*(l.flatMap λy=>aH n y).length:=by
   intro l
   induction l with
   | nil=>simp
   | cons y l ih=>
    intro b;have d:=xw n y (b y (by simp));have c:=ih (λh g=>b h (by simp[g]));simp only[bA,dj,bL,bq];omega
  have d:=key x.2.2 (λy f a e=>b a (nu f e));have c:=b (x.1,(x.2.1.1,x.2.2.length,x.2.1.2)) (by simp[aH]);simp only[wt,aH,bu];simp only at c;omega
def QI:aq:=⟨#[32]⟩
def G4:aq:=⟨#[10]⟩
def OR(s:aq)(r:Int×Tc):Prop:=
 (2048<s.size/\r=(2,tU))\/(s.size<=2048/\(∃b,B9 s.size (j8 s 0) 0=some b)/\r=(3,tU))\/
  (s.size<=2048/\B9 s.size (j8 s 0) 0=none/\∃(n:Nat)(a:Tm n),Is n a (j8 s 0) []/\r=(bK n a,if bK n a=0 then cn n a else tU))
theorem OR.one{s:aq}{r f:Int×Tc}(g:OR s r)(k:OR s f):r=f:=by
 rcases g with⟨c,rfl⟩|⟨c,⟨o,b⟩,rfl⟩|⟨c,b,n,l,h,rfl⟩<;>rcases k with⟨e,rfl⟩|⟨e,⟨p,a⟩,rfl⟩|⟨e,a,j,m,i,rfl⟩
 all_goals first|rfl|omega|skip
 ·rw[b]at a;cases a
 ·rw[b]at a;cases a
 ·have d:=(Is.one n j l m _ _ _ h i).1;rw[Jg _ _ _ _ d,gB d]
noncomputable def rdT (s:aq):Int×Tc:= @Classical.epsilon (Int×Tc) ⟨(0,tU)⟩ (OR s)
variable{u z room y0 y1:Int}{P:List (Bh 13)}{m:List Int}{A:List Tc}{l:List UInt8}{g p B a b c i j k n q r xc yc yl:Nat}{cs t x:Tc}{M S:aW}{f d W w:ah}{C name s y2:aq}{e:aq×Int×Int×Tc}{xa ya:ay}{v:az}{y:Tm g}
theorem tJ{r:Int×Tc}(a:OR s r):rdT s=r:=OR.one (Classical.epsilon_spec (p:=OR s) ⟨r,a⟩) a
def oE(t:Tc):Option (List (Bh 13)):=match xF 12 13 t with
 | some l=>if lk 13 l=true then some l else none
 | none=>none
theorem vI(d:bK 13 t=0)(a:oE t=some P):oJ 12 P=0/\aJ 18 (cX 12 P) 13 t=true:=by
 unfold oE at a;cases b:xF 12 13 t with
 | none=>rw[b]at a;cases a
 | some l=>
  rw[b]at a;simp only at a;split at a
  ·rename_i e;obtain rfl:=aI a;have c:=sJ 12 13 (aA _) t (iZ d) l b;exact⟨Me e ((bO c.1).trans d),c.1⟩
  ·cases a
theorem Kr{l:List (Bh (n+1))}(e:lk (n+1) l=true)(d:bK 13 t=0)(a:aJ 13 t (n+6) (cX n l)=true):∃P,oE t=some P:=by
 obtain⟨f,b,c,_⟩:=Fh 12 13 n (aA _) l e t (iZ d) a;exact⟨f,by unfold oE;rw[b];simp only[c,cC]⟩
theorem Ih{M:Nat}(i:n<=M+1){x:Tm n}(a:bK n x=0)(b:aJ n x 13 t=true):sh M n x=if (oE t).isSome then 0 else 5:=by
 have h:bK 13 t=0:=(bO b).symm.trans a;unfold sh;rw[if_pos a];cases e:oE t with
 | some d=>
  obtain⟨j,k⟩:=vI h e;obtain⟨c,l,m,_⟩:=Fh M n 12 i d (gP j).1 x (iZ a) (bV _ _ _ _ _ _ b (dE _ _ _ _ k));rw[l];unfold vX;simp only[m,cC,lI]
 | none=>
  cases e2:xF M n x with
  | none=>rfl
  | some c=>
   unfold vX;by_cases f:lk (M+1) c=true
   ·obtain⟨d,g⟩:=Kr f h (dE _ _ _ _ (bV _ _ _ _ _ _ (sJ M n i x (iZ a) c e2).1 b));rw[e]at g;cases g
   ·simp[f]
abbrev qu:=Option (List (Bh 13)×Int×Sy)
def N8:List UInt8:=[111,107]
def vj(n:Nat)(x:Tm n):List UInt8:=if bK n x=0 then fJ n x else [45]
def gI(e:aq×Int×Int×Tc):List UInt8:=e.1.data.toList++ [32]++Lib.itoa e.2.1++ [32]++Lib.itoa e.2.2.1++ [32]++vj 13 e.2.2.2
def tp(l:List (aq×Int×Int×Tc)):List UInt8:=(l.map λe=>gI e++ [10]).flatten
def oG(P:List (Bh 13))(room:Int)(s:Sy)(d a b:Int)(t:Tc):qu×Int×List UInt8:=
 let c:=s.do 12 P room d a b 13 t
 (some (P,room,c.1),c.2,if c.2=0 then tp (c.1.evs.drop s.evs.length)++N8 else [])
def jH(P:List (Bh 13))(room:Int)(s:Sy)(l:List (Tm 12)):qu×Int×List UInt8:=match l with
 | [x,y]=>if x.1.1=2 then
     let r:=s.start 12 P room x.1.2.2 12 y
     (some (P,room,r.1),r.2,if r.2=0 then Lib.itoa (s.last+1)else [])
  else (some (P,room,s),5,[])
 | _=>(some (P,room,s),5,[])
def wZ(nm:aq)(cs:Tc)(a:List Tc):List UInt8:=Lib.join (nm.data.toList::vj 13 cs::a.map (vj 13)) [32]
def qN(a:List Int):List UInt8:=Lib.join (gA.data.toList::a.map Lib.itoa) [32]
def mI(b:qu)(a:Int)(t:Tc):qu×Int×List UInt8:=match oE t with
 | some P=>(some (P,10*a,Qe),0,N8)
 | none=>(b,5,[])
def kS(c:qu)(wd:aq)(a b:Int)(t:Tc):qu×Int×List UInt8:=
 if wd=iI then mI c a t else match c with
 | none=>(none,4,[])
 | some (P,room,s)=>
  if wd=jJ then jH P room s t.2.2
  else if wd=sQ then oG P room s 1 a 0 tU
  else if wd=sP then oG P room s 2 a b tU
  else if wd=qH then oG P room s 3 a 0 t
  else if wd=oz then match s.get a with
   | none=>(some (P,room,s),4,[])
   | some (nm,cs,cms)=>(some (P,room,s),0,wZ nm cs cms)
  else (some (P,room,s),0,qN ((s.ps.map (·.1)).mergeSort λd e:Int=>decide (d<=e)))
def ky(a:aq):aq:=⟨(Lib.cut a.data.toList QI.data.toList).1.toArray⟩
def qS(ps:bm)(i:Nat):Option Int:=vO (ps.getD (1+i) .empty)
def dq(c:aq)(a b:Nat):List aq:=Lib.splitB QI 0 (min (1+a+b) (c.size+1)-1) c
noncomputable def dkRead (line:aq):Int×aq×Int×Int×Tc:=match iD (ky line)with
 | none=>(3,.empty,0,0,tU)
 | some (a,b)=>
  let ps:=dq line a b
  if (ps.length=1+a+b/\ps.getD 0 .empty=ky line)/\∀i,i<a->(qS ps i).isSome=true then
   let r:=if b=0 then (0,tU)else rdT (ps.getD (1+a) .empty)
   (r.1,ky line,if 0<a then (qS ps 0).getD 0 else 0,if 1<a then (qS ps 1).getD 0 else 0,r.2)
  else (3,.empty,0,0,tU)
noncomputable def dkAns (σ:qu) (line:aq):qu×List UInt8:=
 let r:=dkRead line
 if r.1=0 then
  let q:=kS σ r.2.1 r.2.2.1 r.2.2.2.1 r.2.2.2.2
  (q.1,if q.2.1=0 then q.2.2 else iT q.2.1)
 else (σ,iT r.1)
noncomputable def dkStep (st:qu×List UInt8) (line:aq):qu×List UInt8:=if mi line=true then ((dkAns st.1 line).1,st.2++(dkAns st.1 line).2++ [10])else st
def ue(a:aq):aq:=⟨(Lib.trimSuffix a.data.toList G4.data.toList).toArray⟩
def gu(a:aq):List aq:=Lib.splitB G4 0 (Lib.countB (ue a) G4) (ue a)
noncomputable def dkRun (text:aq):List UInt8:=if 65536<text.size\/200<(gu text).length then iT 2++ [10]else ((gu text).foldl dkStep (none,[])).2
theorem BW:(l:bm)->(a:qu×List UInt8)->a.2.count 10+(l.filter mi).length<=(l.foldl dkStep a).2.count 10/\((l.foldl dkStep a).2=a.2\/∃r,(l.foldl dkStep a).2=r++ [10])
 | [],a=>⟨by simp,ak rfl⟩
 | x::l,a=>by
  obtain⟨c,b⟩:=BW l (dkStep a x);rw[gg];by_cases e:mi x=true
  ·have d:(dkStep a x).2=a.2++(dkAns a.1 x).2++ [10]:=by unfold dkStep;rw[if_pos e]
   rw[d]at c b;simp only[List.count_append,List.count_cons_self,List.count_nil,List.filter_cons,e,cC,bu]at c ⊢;refine⟨by omega,am ?_⟩;rcases b with b|b
   ·exact⟨_,b⟩
   ·exact b
  ·have d:dkStep a x=a:=by unfold dkStep;rw[if_neg e]
   rw[d]at c b ⊢;simp only[List.filter_cons,e];exact⟨by simpa using c,b⟩
theorem JO(d:Int)(s:aq)(a:ay)(n c:Nat)(B b:Nat)(l:List UInt8)(w:ah)(f:dn d)(k:Bu B b l w)(v:B<=w.heap.size)(p:xA B w)(y:l.length+24<=140737488355328):au 135 #[aE b,.agg #[ae 1,ae d,af s,ag a n c]] w λe w'=>e=aw (ax #[])/\dD B b (l++Lib.itoa d) w w':=by
 have r:=av (Lib.itoa_length_le d f.1 f.2);have g:Hid (∀o,dD B b l w (w.alloc o)):=λo=>dD.old k (aV _ o) v;have t:=av p;have j:=av f;clear k p f;go_enter func135,ntmps135;go_wp2_with fail;refine(jT d j.out.1 j.out.2 B _ (t.out.on (g.out _).2.1)).mono ?_;rintro e x ⟨rfl,h⟩;have i:=av ((g.out _).trans (dD.old (g.out _).1 h (by simp;omega)));have u:Hid (B<=x.heap.size):=by have:=h.size;simp at this;simp only[Hid];omega
 clear h;go_wp2_with fail;refine(kE B b _ _ _ i.out.1 (by have:=r.out;simp[ByteArray.size];omega) u.out).mono ?_;rintro e z ⟨rfl,m⟩;have q:=av (i.out.trans m);clear m;go_wp2_with fail
 go_end0
 exact⟨rfl,by have:=q.out;simpa using this⟩
theorem FR(k:Int)(s:aq)(a:ay)(n c:Nat)(B b:Nat)(l:List UInt8)(w:ah)(f:Bu B b l w)(i:B<=w.heap.size)(j:l.length+s.size<=140737488355328):au 135 #[aE b,.agg #[ae 2,ae k,af s,ag a n c]] w λe w'=>e=aw (ax #[])/\dD B b (l++s.data.toList) w w':=by
 have d:Hid (∀o,dD B b l w (w.alloc o)):=λo=>dD.old f (aV _ o) i;clear f;go_enter func135,ntmps135;go_wp2_with fail;refine(kE B b _ _ _ (d.out _).1 j (by simp;omega)).mono ?_;rintro e m ⟨rfl,g⟩;have h:=av ((d.out _).trans g);clear g;go_wp2_with fail
 go_end0
 exact⟨rfl,h.out⟩
theorem FS(k:Int)(s:aq)(a:ay)(n c:Nat)(B b:Nat)(l:List UInt8)(w:ah)(f:Bu B b l w)(i:B<=w.heap.size)(j:l.length+1<=140737488355328):au 135 #[aE b,.agg #[ae 6,ae k,af s,ag a n c]] w λe w'=>e=aw (ax #[])/\dD B b (l++ [95]) w w':=by
 have d:Hid (∀o,dD B b l w (w.alloc o)):=λo=>dD.old f (aV _ o) i;clear f;go_enter func135,ntmps135;go_wp2_with fail;refine(iJ B b l _ 95 rfl _ (d.out _).1 j (by simp;omega)).mono ?_;rintro e m ⟨rfl,g⟩;have h:=av ((d.out _).trans g);clear g;go_wp2_with fail
 go_end0
 exact⟨rfl,h.out⟩
theorem FQ(k r:Int)(s:aq)(a:ay)(n c:Nat)(B b:Nat)(l:List UInt8)(w:ah)(d:Bu B b l w)(q:B<=w.heap.size)(f:¬k=1)(g:¬k=2)(h:¬k=3)(i:¬k=4)(j:¬k=5)(m:¬k=6):au 135 #[aE b,.agg #[ae k,ae r,af s,ag a n c]] w λe w'=>e=aw (ax #[])/\dD B b l w w':=by
 have p:Hid (∀o,dD B b l w (w.alloc o)):=λo=>dD.old d (aV _ o) q;have t:(k==1)=false:=by simpa using f
 have u:(k==2)=false:=by simpa using g
 have v:(k==3)=false:=by simpa using h
 have x:(k==4)=false:=by simpa using i
 have y:(k==5)=false:=by simpa using j
 have z:(k==6)=false:=by simpa using m
 clear d f g h i j m;go_enter func135,ntmps135;go_wp2_with fail
 go_end0
 exact⟨rfl,p.out _⟩
def tA(n:Nat)(p:List (Tm n))(k:Nat):List UInt8:=jn ((p.take k).map λy=>fJ n y)
theorem Iu(n:Nat)(p:List (Tm n))(k:Nat)(x:Tm n)(d:p[k]?=some x):tA n p (k+1)=if k=0 then fJ n x else tA n p k++32::fJ n x:=by
 obtain⟨e,c⟩:=bi.1 d;unfold tA;rw[lF e,c,fu,bA,dA,Ns];by_cases a:k=0
 ·subst a;simp
 ·rw[if_neg a,if_neg];intro b;have:=congrArg List.length b;rw[cE,dt,eV]at this;omega
theorem KX(n:Nat)(p:List (Tm n))(k:Nat)(a:∀y∈p,(fJ n y).length+1<=24*wt n y):(tA n p k).length<=24*((p.take k).map λy=>wt n y).sum:=
 KY n (λy=>fJ n y) (p.take k) (λy b=>a y (List.mem_of_mem_take b))
theorem GU(n:Nat)(p:List (Tm n))(k:Nat):((p.take k).map λy=>wt n y).sum<=(p.map λy=>wt n y).sum:=by
 conv=>rhs;rw[<-iM k p]
 rw[fu,nN];omega
theorem Bc(n:Nat)(p:List (Tm n))(k:Nat)(x:Tm n)(c:p[k]?=some x):((p.take k).map λy=>wt n y).sum+wt n x<=(p.map λy=>wt n y).sum:=by
 have a:=GU n p (k+1);obtain⟨d,b⟩:=bi.1 c;rw[lF d,b]at a;simpa using a
theorem xv(n:Nat)(ih:FW n)(p:List (Tm n))(len:Nat)(P:Hid (p.length=len))(a:ay)(pc C B b:Nat)(l:List UInt8)(w:ah)(f:Hid (p=[]\/∃b o,a=some ⟨b,o,none⟩/\b<C/\∀(i:Nat)(y:Tm n),p[i]?=some y->eg w b (o+i*4) n y/\In C w n y))(ao:len<=9223372036854775807)(z:C<=B)(N:Bu B b l w)(O:B<=w.heap.size)(R:xA B w)(Q:l.length+24*(1+(p.map λy=>wt n y).sum)<=140737488355328):au 164 #[aE b,ag a len pc] w λe w'=>e=aw (ax #[])/\dD B b (l++(40::jn (p.map λy=>fJ n y)++ [41])) w w':=by
 have L:Hid (∀k,(tA n p k).length<=24*((p.take k).map λy=>wt n y).sum):=λk=>KX n p k (λy I=>by
  rcases f.out with f|⟨aj,po,_,_,f⟩
  ·rw[f]at I;cases I
  ·obtain⟨i,Z⟩:=di I
   exact tT n y C w (f i y Z).2)
 have G:=av Q;have W:=av N;have X:=av R;clear N R Q;go_enter func164,ntmps164;go_wp2_with fail;refine(iJ B b l _ 40 rfl _ W.out (by have:=G.out;omega) O).mono ?_;rintro e m ⟨rfl,h⟩;have T:=av h;clear h;go_wp2_with fail;go_loopw [10] (λi wr=>∃k:Nat,k<=len/\i=ae k/\Hid (dD B b (l++40::tA n p k) w wr)) (λi _=>len-(intOf i).toNat)
 case atStart=>exact⟨0,by omega,rfl,by have:=T.out;simpa [Hid,tA,jn]using this⟩
 case round=>
  obtain⟨k,al,rfl,g⟩:=hrel;have x:Hid (B<=wr.heap.size):=aF O g.out.2.1.size;by_cases ab:k<len
  ·obtain⟨c,t⟩:∃c,p[k]?=some c:=⟨p[k]'(by rw[P.out];exact ab),aU _⟩;have M:=av (Iu n p k c t);have H:Hid ((l++40::tA n p k).length+1+24*wt n c<=140737488355328):=by
    have h:=Bc n p k c t;have j:=L.out k;have d:=G.out;simp only[Hid,bq,bu];omega
   rcases f.out with f|⟨aj,po,rfl,ad,f⟩
   ·subst f;simp at t
   obtain⟨D,E⟩:=f k c t;replace D:=D.below (g.out.2.1.mono z) ad;replace E:=E.below (g.out.2.1.mono z);clear f t;cases n with
   | zero=>exact D.elim
   | succ n=>
   obtain⟨aq,ar,az,aA⟩:=D
   have K:Hid (∀(u:List UInt8)(m:ah),Below B wr m->Bu B b u m->u.length+24*wt (n+1) c<=140737488355328->au 135 #[aE b,.agg #[ae c.1.1,ae c.1.2.1,af c.1.2.2,ag c.2.1.1 c.2.2.length c.2.1.2]] m λe w'=>e=aw (ax #[])/\dD B b (u++fJ (n+1) c) m w'):=
    λu m h j d=>ih c C B b u m (E.below (h.mono z)) z j (aF x.out h.size) (X.out.on (g.out.2.1.trans h)) d
   have V:=av g.out.1.lt;clear ih E;generalize c.2.2.length=ak at*;generalize fJ (n+1) c=ap at*;have q:Hid (∀o,dD B b (l++40::tA (n+1) p k) wr (wr.alloc o)):=λo=>dD.old g.out.1 (aV _ o) x.out;have am:(0:Int)<=(k:Int):=by omega
   have an:(k:Int)<(len:Int):=by omega
   by_cases A:k=0
   ·have v:=av A;have aa:¬(0:Int)<(k:Int):=by omega
    clear A;go_wp2_with fail;refine(K.out (l++40::tA (n+1) p k) _ (q.out _).2.1 (q.out _).1 (by have:=H.out;omega)).mono ?_;rintro e S ⟨rfl,d⟩;have r:=av ((g.out.trans (q.out _)).trans d);clear d;go_wp2_with fail;go_roundw
    case rel=>
     refine⟨k+1,by omega,by go_num,av ?_⟩;have:=r.out;rw[M.out,if_pos v.out];have Y:tA (n+1) p k=[]:=by rw[v.out];rfl
     rw[Y]at this;simpa using this
    case measure=>simp[intOf];omega
   ·have v:=av A;have aa:(0:Int)<(k:Int):=by omega
    clear A;go_wp2_with fail;refine(iJ B b _ _ 32 rfl _ (q.out _).1 (by have:=H.out;omega) (by have:=x.out;simp;omega)).mono ?_;rintro e F ⟨rfl,j⟩;have J:=av ((g.out.trans (q.out _)).trans j);have U:=av ((q.out _).2.1.trans j.2.1);have s:=yw j.2.2 (GS wr _ 54) (by have:=V.out;omega) (by decide);have y0:ai F wr.heap.size 0 (ae c.1.1):=by rw[fo s];rfl
    have y1:ai F wr.heap.size 1 (ae c.1.2.1):=by rw[fo s];rfl
    have y2:ai F wr.heap.size 2 (af c.1.2.2):=by rw[fo s];rfl
    have aB:ai F wr.heap.size 3 (ag c.2.1.1 ak c.2.1.2):=by rw[fo s];rfl
    clear j s;go_wp2_with fail;refine(K.out _ _ U.out J.out.1 (by have:=H.out;simp at this ⊢;omega)).mono ?_;rintro e S ⟨rfl,d⟩;have r:=av (J.out.trans d);clear d;go_wp2_with fail;go_roundw
    case rel=>
     refine⟨k+1,by omega,by go_num,av ?_⟩;have:=r.out;rw[M.out,if_neg v.out];simpa using this
    case measure=>simp[intOf];omega
  ·go_wp2_with fail;refine(iJ B b _ _ 41 rfl _ g.out.1 (by have h:=G.out;have j:=L.out k;have d:=GU n p k;simp;omega) x.out).mono ?_;rintro e S ⟨rfl,d⟩;have r:=av (g.out.trans d);clear d;go_wp2_with fail
   go_end0
   refine⟨rfl,?_⟩;have e:tA n p k=jn (p.map λy=>fJ n y):=by unfold tA;rw[bG (by rw[P.out];omega)]
   have:=r.out;rw[e]at this;simpa using this
theorem JP(j:Int)(s:aq)(a:ay)(n c:Nat)(B b:Nat)(l t:List UInt8)(w:ah)(f:Bu B b l w)(i:B<=w.heap.size)(H:Hid (∀w1,ap w w1->Bu B b l w1->au 164 #[aE b,ag a n c] w1 λe w'=>e=aw (ax #[])/\dD B b (l++t) w1 w')):au 135 #[aE b,.agg #[ae 4,ae j,af s,ag a n c]] w λe w'=>e=aw (ax #[])/\dD B b (l++t) w w':=by
 have d:Hid (∀o,dD B b l w (w.alloc o)):=λo=>dD.old f (aV _ o) i;clear f;go_enter func135,ntmps135;go_wp2_with fail;refine(H.out _ (aV _ _) (d.out _).1).mono ?_;rintro e k ⟨rfl,g⟩;have h:=av ((d.out _).trans g);clear g;go_wp2_with fail
 go_end0
 exact⟨rfl,h.out⟩
theorem JN(n:Nat):FW n:=by
 induction n with
 | zero=>intro F A f b l h r;exact r.elim
 | succ n ih=>
  intro F A f b l h r t i d o H;obtain⟨⟨k,c,e⟩,⟨g,pc⟩,a⟩:=F;have O:=r;obtain⟨⟨_,p,J,I,C⟩,j⟩:=r;simp only at p J I C j;unfold maxLen at C;have K:wt (n+1) ((k,c,e),(g,pc),a)=1+e.size+(a.map λm=>wt n m).sum:=rfl;rw[K]at H
  show au 135 #[aE b,.agg #[ae k,ae c,af e,ag g a.length pc]] h λs M=>s=aw (ax #[])/\dD f b (l++(if k=1 then Lib.itoa c else if k=2 then e.data.toList else if k=3 then 35::Lib.itoa c
   else if k=4 then 40::jn (a.map λm=>fJ n m)++ [41]else if k=5 then 36::Lib.itoa c else if k=6 then [95]else [])) h M
  by_cases u:k=1
  ·subst u;exact JO c e g a.length pc f b l h p i d o (by omega)
  rw[if_neg u];by_cases v:k=2
  ·subst v;exact FR c e g a.length pc f b l h i d (by omega)
  rw[if_neg v];by_cases w:k=3
  ·subst w;exact zD 3 c e g a.length pc f b l h p i d o (by omega) 35 (ak ⟨rfl,rfl⟩)
  rw[if_neg w];by_cases x:k=4
  ·subst x;refine JP c e g a.length pc f b l _ h i d (λN q G=>xv n ih a a.length rfl g pc A f b l N ?_ (by omega) t G (aF d q.size) (o.on (q.mono d)) (by omega));rcases j with j|⟨L,po,s,B,j⟩
   ·exact ak j
   ·exact am ⟨L,po,s,B,λE m D=>⟨(j E m D).1.below (q.mono (aF t d)) B,(j E m D).2.below (q.mono (aF t d))⟩⟩
  rw[if_neg x];by_cases y:k=5
  ·subst y;exact zD 5 c e g a.length pc f b l h p i d o (by omega) 36 (am ⟨rfl,rfl⟩)
  rw[if_neg y];by_cases z:k=6
  ·subst z;exact FS c e g a.length pc f b l h i d (by omega)
  rw[if_neg z,eE];exact FQ k c e g a.length pc f b l h i d u v w x y z
theorem xA.mono{B a:Nat}{w:ah}(b:xA B w)(c:B<=a):xA a w:=λw' d=>b w' (d.mono c)
theorem Fc(w:ah)(k m:Int)(s:aq)(a:ay)(l c:Nat)(g:Int)(t j:List UInt8)(q:Hid ((if g=0 then t else [])=j))(y:Hid (∀w1,ap w w1->au 53 #[.agg #[ae k,ae m,af s,ag a l c]] w1 λe w'=>e=aw (ae g)/\ap w1 w'))(A:Hid (∀w1 b,ap w w1->w.heap.size<=b->Bu b b [] w1->b<=w1.heap.size->au 135 #[aE b,.agg #[ae k,ae m,af s,ag a l c]] w1 λe w'=>e=aw (ax #[])/\dD b b t w1 w')):au 95 #[.agg #[ae k,ae m,af s,ag a l c]] w λe w'=>e=aw (ax #[af ⟨j.toArray⟩,ae g])/\ap w w':=by
 go_enter func95,ntmps95;go_wp2_with fail;refine(y.out _ (aV _ _)).mono ?_;rintro e w1 ⟨rfl,i⟩;have d:Hid (ap w w1/\w.heap.size+1<=w1.heap.size):=⟨(aV _ _).trans (i.mono (by simp)),by have:=i.size;simpa using this⟩;have f:=aB i;simp only[fO]at f;have D:=(f w.heap.size 0 (by omega)).trans (by simp[go_sem]:_=some (Value.int .i64 k));have E:=(f w.heap.size 1 (by omega)).trans (by simp[go_sem]:_=some (Value.int .i64 m));have F:=(f w.heap.size 2 (by omega)).trans (by simp[go_sem]:_=some (Value.string s));have G:=(f w.heap.size 3 (by omega)).trans (by simp[go_sem]:_=some (Value.slice a l c));clear f i;by_cases h:g=0
 ·subst h;have I:w.heap.size<w1.heap.size:=by have:=d.out.2;omega
  have z:Hid (Bu w1.heap.size w1.heap.size [] (w1.alloc (.cells #[.pointer none,ag none 0 0] 38))):=Lib.IsBuilderF.of (Lib.fresh_isBuilder 38 5 w1);go_wp2_with fail;refine(A.out _ w1.heap.size (d.out.1.alloc d.out.1.size _) (by omega) z.out (by simp)).mono ?_;rintro e p ⟨rfl,u⟩;have n:=av u;clear u;have r:Hid (w1.heap.size<=p.heap.size/\ap w p):=by
   have B:=n.out.2.1.size;simp at B;refine⟨by omega,(d.out.1.alloc d.out.1.size _).trans (n.out.2.1.mono (by omega))⟩
  go_wp2_with fail;refine(Tryz.Builder_String_any_k w1.heap.size w1.heap.size t p n.out.1 r.out.1).mono ?_;rintro e C ⟨rfl,_,v,_⟩;have x:Hid (ap w C):=r.out.2.trans (v.mono (by omega));clear v;have o:Hid (t=j):=q.out;go_wp2_with fail
  go_ret2
  refine⟨?_,x.out⟩;rw[<-o.out];rfl
 ·have H:(g !=0)=true:=by simpa using h
  have o:Hid ([]=j):=(if_neg h).symm.trans q.out;clear h;go_wp2_with fail
  go_ret2
  refine⟨?_,d.out.1⟩;rw[<-o.out];rfl
theorem I9(n:Nat)(x:Tm n)(B:Nat)(w:ah)(d:In B w n x)(c:B<=w.heap.size)(j:xA w.heap.size w)(g:(aH n x).length<=2097152)(l:wt n x<=2097152):au 95 #[dF n x] w λe w'=>e=aw (ax #[af ⟨(if bK n x=0 then fJ n x else []).toArray⟩,ae (bK n x)])/\ap w w':=by
 cases n with
 | zero=>exact d.elim
 | succ n=>
 exact Fc w x.1.1 x.1.2.1 x.1.2.2 x.2.1.1 x.2.2.length x.2.1.2 (bK (n+1) x) (fJ (n+1) x) _ rfl
  (λf a=>dW (n+1) x B f (d.below (a.mono c)) (aF c a.size) g)
  (λf b a k i h=>JN (n+1) x B b b [] f (d.below (a.mono c)) (by omega) i h (xA.mono (j.on a) k) (by simp;omega))
theorem BI(xs:dH)(g o len c:Nat)(w:ah)(v:Hid (xs.length=len*7))(t:Hid (∀d∈xs,d.oneCell'=true))(E:len<=2000000)(x:Hid (∀w1,ap w w1->∀j d,xs[j]?=some d->w1.cell? ((⟨g,o,none⟩:Addr).add j)=some d)):au 90 #[ag (some ⟨g,o,none⟩) len c] w λe w'=>∃r,e=aw r/\Hid (ap w w'/\w'.ownsRow w.heap.size 101 7 r len xs):=by
 obtain⟨C,hit,m,p,q⟩:=bS KU;have a:=av (⟨hit,m,p,q⟩:_/\_/\_/\_);clear hit m p q;have F:∀(w:ah)(b:ay)(n c h f:Nat),(binOp .eql 98 (ag b n c) (ag none h f)).run Tryz.prog w=.ok (.bool b.isNone) w:=λw b n c h f=>Lib.run_eql_slice_nil w _ _ b n c h f underlying98;have D:(some (⟨g,o,none⟩:Addr)).isNone=false:=rfl;go_enter func90,ntmps90;go_wp2_with (at_builtin;refine wpList_append_own _ rfl _ _ 98 rfl w.heap.size 101 C _ 7 88 underlying98 a.1 a.2.1 a.2.2.1 a.2.2.2 rfl (by decide) _ _ _ rfl (World.ownsRow_made w #[] 0 (aA _) (aM _) (by simp)) ⟨g,o,none⟩ len c xs rfl ?qc1 ?qc2 ?qc3 ?qc4 ?qc5 ?qc6 ?_)
 case qc1=>exact v
 case qc2=>exact x _ (aV _ _)
 case qc3=>exact t
 case qc4=>unfold maxLen;omega
 case qc5=>omega
 case qc6=>simp
 intro s w1 l i A;have u:Hid (ap w w1/\w1.ownsRow w.heap.size 101 7 s len xs):=by
  have y:ap w w1:=Below.grown (aV _ _) i (by simp) (by intro k z;simp[Value.ownBlock]at z;omega);have B:w1.ownsRow w.heap.size 101 7 s len xs:=by simpa using l
  exact⟨y,B⟩
 clear l i A;go_wp2_with fail
 go_ret
 exact⟨_,rfl,u⟩
theorem BH(c:Nat)(w:ah):au 90 #[ag none 0 c] w λe w'=>e=aw (ag none 0 0)/\w'=w:=by
 have g:∀(w:ah)(a:ay)(n c d b:Nat),(binOp .eql 98 (ag a n c) (ag none d b)).run Tryz.prog w=.ok (.bool a.isNone) w:=λw a n c d b=>Lib.run_eql_slice_nil w _ _ a n c d b underlying98;have f:(none:ay).isNone=true:=rfl;go_enter func90,ntmps90;go_wp2_with fail
 go_ret
 exact⟨rfl,rfl⟩
theorem KK(i:Nat)(m:ay)(n K d:Nat)(C D:Nat->Int)(E:Nat->aq)(xa:Nat->ay)(F xc:Nat->Nat)(w:ah)(l:ay->Nat->Nat->bF)(R:i<w.heap.size)(N:n+K<=1000000)(O:n+K<=d)(J:m=none/\n+K=0/\d=0\/∃g,m=some ⟨g,0,none⟩)(s:Hid (ai w i 6 (ag m (n+K:Nat) d)))(x:Hid (∀W B S,ap w W->(m=none/\B=none)\/(∃g o,m=some ⟨g,0,none⟩/\B=some ⟨g,o,none⟩/\(K=0\/o=n*7))->au 90 #[ag B K S] W λe w'=>∃a c,e=aw (ag a K c)/\Hid (ap W w'/\l a c 0 w')))(y:Hid (∀a c j W,j<K->l a c j W->∃g,a=some ⟨g,0,none⟩/\ai W g (j*7+3) (ae (C j))/\ai W g (j*7+3+1) (ae (D j))/\ai W g (j*7+3+2) (af (E j))/\ai W g (j*7+3+3) (ag (xa j) (F j) (xc j))/\ Hid (au 91 #[.agg #[ae (C j),ae (D j),af (E j),ag (xa j) (F j) (xc j)]] W λe w'=>∃y0 y1 y2 ya yl yc,e=aw (.agg #[ae y0,ae y1,af y2,ag ya yl yc])/\Hid ((w'.frozen? ⟨g,j*7+3,none⟩=false/\w'.frozen? ⟨g,j*7+3+1,none⟩=false/\w'.frozen? ⟨g,j*7+3+2,none⟩=false/\w'.frozen? ⟨g,j*7+3+3,none⟩=false)/\(ai w' g (j*7+3) (ae (C j))/\ai w' g (j*7+3+1) (ae (D j))/\ai w' g (j*7+3+2) (af (E j))/\ai w' g (j*7+3+3) (ag (xa j) (F j) (xc j)))/\l a c (j+1) (dk w' g (j*7+3) (ae y0) (ae y1) (af y2) (ag ya yl yc)))))):au 59 #[aE i,ae n] w λe w'=>∃a c,e=aw (ag a K c)/\Hid (l a c K w'):=by
 have f:Hid (ap w w.drew):=(aG _ _).drew;obtain⟨b,A⟩:∃b,b=n+K:=⟨_,rfl⟩;rw[<-A]at s N O J;have k:Hid (∀W,ap w W->ai W i 6 (ag m b d)):=λW P=>(P.cell (p:=⟨i,6,none⟩) R).trans s;have Z:=s.out;have al:¬((b:Int)<0):=by omega
 have an:(0:Int)<=(n:Int):=by omega
 have ao:(b:Int)<=(d:Int):=by omega
 have ar:¬((d:Int)<(b:Int)):=by omega
 have ax:¬(d<b):=by omega
 have az:min (n:Int) (b:Int)=n:=by omega
 have aA:max (n:Int) 0=n:=by omega
 have aB:(n:Int)<=(b:Int):=by omega
 have t:=av A;clear A;go_enter func59,ntmps59;go_upto_region 1 with fail;rcases J with⟨rfl,M,rfl⟩|⟨H,rfl⟩
 ·obtain rfl:n=0:=by have:=t.out;omega
  obtain rfl:K=0:=by have:=t.out;omega
  subst M
  go_region_held3 (λW=>W.cell? ⟨i,6,none⟩=some (ag none 0 0)) (first|exact k _ f|exact k _ r) ((first
   | (go_at_call 90;refine(x _ _ _ f (ak ⟨rfl,rfl⟩)).mono ?_;rintro e T ⟨a,c,rfl,h⟩;have r:=av (f.trans (h.1.mono f.size)))))
  have q:=av h.2;clear x s k f r y h;go_wp2_with fail;go_loopw [6,23] (λ_ v wr=>v=ae 0/\Hid (l a c 0 wr)) (λ_ _ _=>0)
  case atStart=>exact⟨rfl,q⟩
  case round=>
  obtain⟨rfl,u⟩:=hrel;clear q;go_wp2_with fail
  go_ret
  exact⟨a,c,rfl,u⟩
 ·have ab:b-n=K:=by have:=t.out;omega
  by_cases I:d=n
  all_goals
   have G:Hid (K=0\/d≠n):=(by have:=t.out;omega:K=0\/d≠n)
   go_region_held3 (λW=>W.cell? ⟨i,6,none⟩=some (ag (some ⟨H,0,none⟩) b d)) (first|exact k _ f|exact k _ r) ((first
    | (go_at_call 90;refine(x _ _ _ f (am ⟨H,_,rfl,rfl,by first|exact am rfl|exact G.out.imp id (absurd I)⟩)).mono ?_;rintro e T ⟨a,c,rfl,h⟩;have r:=av (f.trans (h.1.mono f.size)))))
   clear x s k f r G I t;have q:=av h.2;clear h;go_wp2_with fail;go_loopw [6,23] (λ_ v wr=>∃(j:Nat),j<=K/\v=ae j/\Hid (l a c j wr)) (λ_ v _=>K-(intOf v).toNat)
   case atStart=>exact⟨0,aM _,rfl,q⟩
   case round=>
   obtain⟨j,aa,rfl,u⟩:=hrel;by_cases Q:j<K
   ·obtain⟨g,rfl,U,V,X,Y,L⟩:=y.out a c j wr Q u;have ad:(0:Int)<=(j:Int):=by omega
    have aj:(j:Int)<(K:Int):=by omega
    clear y u;go_wp2_with fail;refine L.mono ?_;rintro e aC ⟨y0,y1,y2,ya,yl,yc,rfl,z⟩;obtain⟨⟨f0,f1,f2,f3⟩,d0,d1,d2,d3⟩:=(⟨z.1,z.2.1⟩:_/\_);go_wp2_with fail;go_roundw
    case rel=>exact⟨j+1,by omega,by go_num,z.2.2⟩
    case measure=>simp[intOf];omega
   ·obtain rfl:j=K:=by omega
    clear y q;go_wp2_with fail
    go_ret
    exact⟨a,c,rfl,u⟩
def Bj(base:Nat)(a:ay)(d:List (aq×Int×Int×Tc))(w:ah):Prop:=
 (d=[]\/∃c,a=some ⟨c,0,none⟩/\base<=c/\c<w.heap.size/\∀e b,d[e]?=some b->∀(t:Nat)(f:az),(yn b)[t]?=some f->w.cell? ⟨c,e*7+t,none⟩=some f)/\∀b∈d,(In w.heap.size w 13 b.2.2.2/\cF (λg=>base<=g) 13 b.2.2.2)/\tn b.2.2.2
def JX(a:ay)(L c:Nat):Prop:=(a=none/\L=0/\c=0)\/((∃g,a=some ⟨g,0,none⟩)/\L<=c)
def Nb(e:aq×Int×Int×Tc):aq×Int×Int×Tc:=(e.1,e.2.1,e.2.2.1,cn 13 e.2.2.2)
theorem Bj.kee{base:Nat}{a:ay}{j:List (aq×Int×Int×Tc)}{w':ah}(e:Bj base a j w)(i:bH S w w')(l:∀q,base<=q->q<w.heap.size->¬S q):Bj base a j w':=by
 refine⟨?_,λb d=>?_⟩
 ·rcases e.1 with c|⟨g,c,k,h,m⟩
  ·exact ak c
  ·refine am ⟨g,c,k,bf h i.size,λo b d t p n=>?_⟩;rw[<-m o b d t p n];simp only[World.cell?,i.block g h (l g k h)]
 ·have c:=fB i (D:=λq=>base<=q/\q<w.heap.size) (λq f=>l q f.1 f.2) ⟨(e.2 b d).1.1,In.offB (e.2 b d).1.2 (e.2 b d).1.1⟩;exact⟨⟨c.1,c.2.mono λq f=>f.1⟩,(e.2 b d).2⟩
theorem Hg(xa:ay)(xc:Nat)(w:ah):PK 0 0 ⟨#[]⟩ xa 0 xc tU w:=λW h=>by
 refine(th 12 0 0 ⟨#[]⟩ xa 0 xc [] W (by decide) λw1 c=>?_).mono ?_
 ·refine(mu xa xc w1).mono ?_;rintro e w' ⟨rfl,rfl⟩;exact⟨none,0,[],rfl,aG _ _,rfl,aA _,aM _,rfl,ak rfl⟩
 ·rintro e w' ⟨a,b,l,rfl,H⟩;obtain⟨c,d,g,f,_⟩:=H;obtain rfl:l=[]:=b8 d;exact⟨0,0,⟨#[]⟩,a,0,b,rfl,c,((0,0,⟨#[]⟩),(a,b),[]),⟨rfl,rfl,rfl⟩,⟨⟨⟨show dn 0 by unfold dn;decide,show dn 0 by unfold dn;decide,show (0:Nat)<=maxLen from aM _,aM _,f⟩,ak rfl⟩,ak rfl⟩,rfl,am ⟨rfl,rfl⟩⟩
theorem O1(d:In w.heap.size w 13 x)(a:tn x):PK x.1.1 x.1.2.1 x.1.2.2 x.2.1.1 x.2.2.length x.2.1.2 (cn 13 x) w:=by
 rcases a with a|⟨b,c⟩
 ·exact lf d a
 ·obtain⟨⟨g,h,i⟩,⟨e,f⟩,j⟩:=x;simp only[gR]at b c;obtain⟨rfl,rfl,rfl⟩:=b;subst c;exact Hg e f w
theorem Na(l:List (aq×Int×Int×Tc)):∀b∈l.flatMap yn,b.oneCell'=true:=λb c=>by
 obtain⟨e,_,a⟩:=kp.1 c;simp only[yn,cq,gi,gn]at a;rcases a with rfl|rfl|rfl|rfl|rfl|rfl|rfl<;>rfl
theorem Gh(l:List (aq×Int×Int×Tc)):(l.flatMap yn).length=l.length*7:=by
 induction l with
 | nil=>rfl
 | cons a l ih=>
  rw[bL,bq,ih,bu];simp[yn];omega
theorem B7:(l:List (aq×Int×Int×Tc))->(n:Nat)->(l.drop n).flatMap yn=(l.flatMap yn).drop (n*7)
 | [],n=>by simp
 | e::l,0=>by simp
 | e::l,n+1=>by
  rw[List.drop_succ_cons,B7 l n,bL,show (n+1)*7=(yn e).length+n*7 by simp[yn];omega,List.drop_append];simp[yn]
section
variable {p:mN} {s:Sy} {d:gX} {w:ah}
theorem bE.eventsF(D:bE p s d w)(be:d.es.length<=100000)(n K:Nat)(aF:d.es.length=n+K):au 59 #[aE p.b,ae n] w λe w'=>∃a c,e=aw (ag a K c)/\Hid (ap w w'/\JX a K c/\∃ao,ao.length=K/\ao.map Nb=s.evs.drop n/\Bj w.heap.size a ao w'):=by
 obtain⟨J,L,aC,bl,aH⟩:∃J L,d.ev=ag J d.es.length L/\d.es.length<=L/\(J=none/\d.es.length=0/\L=0\/∃g,J=some ⟨g,0,none⟩):=by
  rcases D.evr.1.2 with⟨e,N⟩|⟨g,c,ay,e,_,_,l,_⟩
  ·exact⟨none,0,by rw[e,N],by omega,ak ⟨rfl,N,rfl⟩⟩
  ·exact⟨_,c,e,l,am ⟨g,rfl⟩⟩
 have aa:(d.es.drop n).length=K:=by rw[eU];omega
 obtain⟨q,U⟩:∃q:Nat->aq×Int×Int×Tc,∀h,h<K->(d.es.drop n)[h]?=some (q h):=⟨λh=>(d.es.drop n).getD h (⟨#[]⟩,0,0,tU),λh G=>by
  simp only[nI,aU (show h<(d.es.drop n).length by omega)]
  rfl⟩
 have a3:∀k,ap w k->∀h,h<K->In k.heap.size k 13 (q h).2.2.2/\tn (q h).2.2.2:=λk A h G=>by
  have:=(D.later A).evt.2 _ (List.mem_of_mem_drop (aT (U h G)));exact⟨this.1.1,this.2⟩
 have av:=D.evr.1;rw[aC]at av;have aP:ai w p.b 6 (ag J d.es.length L):=by
  have F:=aj D.box 6;simp only[eA,dm,dz]at F;rw[aC]at F;exact F
 refine(KK p.b J n K L (λh=>(q h).2.2.2.1.1) (λh=>(q h).2.2.2.1.2.1) (λh=>(q h).2.2.2.1.2.2) (λh=>(q h).2.2.2.2.1.1) (λh=>(q h).2.2.2.2.2.length) (λh=>(q h).2.2.2.2.1.2) w
  (λa c h k=>ap w k/\JX a K c/\(K=0\/∃(g:Nat)(f:Nat->aq×Int×Int×Tc),a=some ⟨g,0,none⟩/\(w.heap.size<=g/\g<k.heap.size)/\(∀o,k.frozen? ⟨g,o,none⟩=false)/\(∀i,i<K->∀(t:Nat)(m:az),(yn (f i))[t]?=some m->ai k g (i*7+t) m)/\(∀i,i<h->(Nb (f i)=Nb (q i)/\tn (f i).2.2.2)/\In k.heap.size k 13 (f i).2.2.2/\cF (λu=>w.heap.size<=u/\u≠g) 13 (f i).2.2.2)/\∀i,h<=i->i<K->f i=q i)) D.lo.2 (by omega) (by omega) (by rw[<-aF];exact aH) (by rw[<-aF];exact aP) (λk bo aM A a2=>?_) (λa c h k G Q=>?_)).mono ?_
 ·rcases a2 with⟨e,rfl⟩|⟨g,o,e,rfl,ar⟩
  ·have N:K=0:=by
     rcases aH with⟨_,N,_⟩|⟨g,C⟩
     ·omega
     ·rw[e]at C;cases C
   subst N;refine(BH aM k).mono ?_;rintro e w' ⟨rfl,rfl⟩;exact⟨none,0,rfl,aG _ _,A,ak ⟨rfl,rfl,rfl⟩,ak rfl⟩
  ·subst e;have y:=av.lt g rfl;refine(BI ((d.es.drop n).flatMap yn) g o K aM k (by rw[Gh,aa];exact(rfl:K*7=K*7)) (Na _) (by omega) λbp B h m j=>?_).mono ?_
   ·have bf:h<K*7:=by
      have:=(bi.1 j).1;rw[Gh,aa]at this;exact this
    obtain rfl:o=n*7:=by rcases ar with E|E<;>omega
    rw[B7,jx]at j;have F:=World.ownsRow.cells av (g:=g) rfl _ m j;have aS:=A.trans (B.mono A.size);rw[show (⟨g,n*7,none⟩:Addr).add h=(⟨g,0,none⟩:Addr).add (n*7+h) by simp only[Addr.add,cB,Nat.add_eq_zero_iff];by_cases e:h=0<;>by_cases C:n*7=0<;>simp[e,C]];exact(aS.cell (p:=(⟨g,0,none⟩:Addr).add (n*7+h)) (by simp only[Addr.add];split<;>exact y.2)).trans F
   ·rintro e w' ⟨bn,rfl,M⟩;obtain⟨z,H⟩:=M.out;obtain⟨a,c,aQ,C,aB⟩:=sE H (by decide) λE=>rfl;subst aQ;have S:JX a K c:=by
     rcases H.2 with⟨x,ab⟩|⟨O,bc,ay,x,_,_,ab,_⟩
     ·injection x with x aK aL;exact ak ⟨x,ab,aL⟩
     ·injection x with x aK aL;exact am ⟨⟨O,x⟩,by omega⟩
    refine⟨a,c,rfl,z,A.trans (z.mono A.size),S,?_⟩;by_cases P:K=0
    ·exact ak P
    ·obtain⟨O,x,ab,aK⟩:=aB 0 _ (U 0 (by omega));obtain⟨ay,aV⟩:=eJ H O (C _ x);have bg:=A.size;refine am ⟨O,q,x,⟨by have:=(H.lt O (C _ x)).1;omega,ab⟩,λo=>by simp[World.frozen?,aV],λi r t m j=>?_,λi r=>by omega,λ_ _ _=>rfl⟩;obtain⟨bd,I,bm,a9⟩:=aB i _ (U i r);rw[x]at I;injection I with I;injection I with I;subst I;exact a9 t m j
 ·obtain⟨B,S,Q⟩:=Q;rcases Q with P|⟨g,f,rfl,y,aJ,W,V,R⟩
  ·omega
  have aW:=R h (aA _) G;have l:=W h G;rw[aW]at l;refine⟨g,rfl,l 3 _ rfl,l 4 _ rfl,l 5 _ rfl,l 6 _ rfl,?_⟩;obtain⟨ba,bb⟩:=a3 k B h G;refine(O1 ba bb k (aG _ _)).mono ?_;rintro e w' ⟨y0,y1,y2,ya,yl,yc,rfl,M⟩;obtain⟨z,aN,⟨f1,f2,f3⟩,⟨H,a6⟩,a7,a8⟩:=M.out;have v:∀{o:Nat}{m:az},ai k g o m->ai w' g o m:=λ{o m} u=>(z.cell (p:=⟨g,o,none⟩) y.2).trans u;have T:∀o,w'.frozen? ⟨g,o,none⟩=false:=λo=>(z.frozen (p:=⟨g,o,none⟩) y.2).trans (aJ o);refine⟨y0,y1,y2,ya,yl,yc,rfl,⟨T _,T _,T _,T _⟩,⟨v (l 3 _ rfl),v (l 4 _ rfl),v (l 5 _ rfl),v (l 6 _ rfl)⟩,?_⟩;have aY:=nd w' g (h*7+3) (ae y0) (ae y1) (af y2) (ag ya yl yc);have bk:=bJ (w:=w') (g:=g) (o:=h*7+3) (ae y0) (ae y1) (af y2) (ag ya yl yc);have Y:=yT (ae y0) (ae y1) (af y2) (ag ya yl yc) ⟨v (l 3 _ rfl),v (l 4 _ rfl),v (l 5 _ rfl),v (l 6 _ rfl)⟩;have X:=λo (ar:o<h*7+3\/h*7+3+4<=o)=>CU (w:=w') (g:=g) (v0:=ae y0) (v1:=ae y1) (v2:=af y2) (v3:=ag ya yl yc) o ar;have aX:=λo=>(uv (w:=w') (g:=g) (o:=h*7+3) (v0:=ae y0) (v1:=ae y1) (v2:=af y2) (v3:=ag ya yl yc) o).trans (T o);have a0:ap w (dk w' g (h*7+3) (ae y0) (ae y1) (af y2) (ag ya yl yc)):=dV (B.trans (z.mono B.size)) y.1;generalize dk w' g (h*7+3) (ae y0) (ae y1) (af y2) (ag ya yl yc)=ax at*;have bh:=z.size;have bj:=B.size;have aD:∀{ad:Tc},In w'.heap.size w' 13 ad->cF (λu=>w.heap.size<=u/\u≠g) 13 ad->In ax.heap.size ax 13 ad/\cF (λu=>w.heap.size<=u/\u≠g) 13 ad:=λa4 a5=>fB aY (λu E aO=>E.2 aO) ⟨a4,a5⟩;refine⟨a0,S,am ⟨g,λi=>if i=h then ((q h).1,(q h).2.1,(q h).2.2.1,aN)else f i,rfl,⟨y.1,by omega⟩,aX,λi r t m j=>?_,λi r=>?_,λi F aR=>?_⟩⟩
  ·have a1:t<7:=by
     have:=(bi.1 j).1;simpa [yn]using this
   by_cases e:i=h
   ·subst e;simp only[cC]at j;obtain⟨⟨bq,br,aO⟩,⟨bs,bt⟩,bu⟩:=aN;simp only[gR]at f1 f2;obtain⟨rfl,rfl,rfl⟩:=f1;obtain⟨rfl,rfl⟩:=f2;subst f3
    match t,a1 with
    | 0,_=>exact(X _ (by omega)).trans (v (l 0 m j))
    | 1,_=>exact(X _ (by omega)).trans (v (l 1 m j))
    | 2,_=>exact(X _ (by omega)).trans (v (l 2 m j))
    | 3,_=>exact Y.1.trans j
    | 4,_=>exact Y.2.1.trans j
    | 5,_=>exact Y.2.2.1.trans j
    | 6,_=>exact Y.2.2.2.trans j
   ·simp only[if_neg e]at j;exact(X _ (by omega)).trans (v (W i r t m j))
  ·by_cases e:i=h
   ·simp only[e,cC];have:=aD H (a6.mono λu E=>⟨by omega,by omega⟩);refine⟨⟨?_,a8⟩,this.1,this.2⟩;unfold Nb;rw[a7]
   ·simp only[if_neg e];obtain⟨ah,al,an⟩:=V i (by omega);have:=aD ((al.below z).mono z.size) an;exact⟨ah,this.1,this.2⟩
  ·simp only[if_neg (show¬i=h by omega)];exact R i (by omega) aR
 ·rintro e w' ⟨a,c,rfl,M⟩;obtain⟨B,S,Q⟩:=M;refine⟨a,c,rfl,B,S,?_⟩;rcases Q with P|⟨g,f,rfl,y,aJ,W,V,R⟩
  ·have aZ:d.es.drop n=[]:=b8 (aa.trans P);refine⟨[],by rw[P];rfl,?_,ak rfl,λe R=>by cases R⟩;rw[<-D.evt.1,<-List.map_drop,aZ];rfl
  ·refine⟨(List.range K).map f,by simp,?_,am ⟨g,rfl,y.1,y.2,λi e r t m j=>?_⟩,λe r=>?_⟩
   ·rw[<-D.evt.1,<-List.map_drop];refine nG λi=>?_;by_cases r:i<K
    ·rw[dh,dh,dh,List.getElem?_range r,U i r];exact congrArg some (V i r).1.1
    ·rw[ft (by simpa using Nat.le_of_not_lt r),ft (by rw[cE,aa];omega)]
   ·have Z:i<K:=by
      have:=(bi.1 r).1;simpa using this
    rw[dh,List.getElem?_range Z]at r;obtain rfl:=aI r;exact W i Z t m j
   ·obtain⟨i,Z,rfl⟩:=cd.1 r;obtain⟨ah,al,an⟩:=V i (List.mem_range.1 Z);exact⟨⟨al,an.mono λu E=>E.1⟩,ah.2⟩
end
theorem Dv(k m:Int)(s:aq)(a:ay)(l c:Nat)(b:Int)(t:List UInt8)(w:ah)(i:Hid (∀W,ap w W->au 95 #[.agg #[ae k,ae m,af s,ag a l c]] W λe w'=>e=aw (ax #[af ⟨(if b=0 then t else []).toArray⟩,ae b])/\ap W w')):au 62 #[.agg #[ae k,ae m,af s,ag a l c]] w λe w'=>e=aw (af ⟨(if b=0 then t else [45]).toArray⟩)/\ap w w':=by
 obtain⟨f,d⟩:∃f:aq,⟨(if b=0 then t else [45]).toArray⟩=f:=⟨_,rfl⟩;rw[d];go_enter func62,ntmps62;have HB:Hid (∀o,ap w (w.alloc o)):=λo=>aV _ o;go_wp2_with fail;refine(i.out _ (HB.out _)).mono ?_;rintro e p ⟨rfl,j⟩;have h:=av ((HB.out _).trans (j.mono (HB.out _).size));clear j HB i;by_cases g:b=0
 ·subst g;obtain rfl:⟨t.toArray⟩=f:=d;go_wp2_with fail
  go_ret
  exact⟨rfl,h⟩
 ·have n:(b !=0)=true:=by simpa using g
  rw[if_neg g]at d;subst d;go_wp2_with fail
  go_ret
  exact⟨rfl,h⟩
theorem rE{x:Tm n}(c:In w.heap.size w n x)(f:xA w.heap.size w)(d:(aH n x).length<=2097152)(g:wt n x<=2097152):au 62 #[dF n x] w λe w'=>e=aw (af ⟨(vj n x).toArray⟩)/\ap w w':=by
 cases n with
 | zero=>exact c.elim
 | succ n=>
 exact Dv x.1.1 x.1.2.1 x.1.2.2 x.2.1.1 x.2.2.length x.2.1.2 (bK (n+1) x) (fJ (n+1) x) w λb a=>I9 (n+1) x b.heap.size b ((c.below a).mono a.size) (aA _) (xA.mono (f.on a) a.size) d g
theorem vk{x:Tm n}(a:In B w n x)(b:wt n x<=2097152):(vj n x).length<=60000000:=by
 unfold vj;split
 ·have:=tT n x B w a;omega
 ·decide
theorem sf(a:tn x):(aH 13 x).length<=2097152/\wt 13 x<=2097152:=by
 rcases a with a|⟨b,c⟩
 ·have f:=xw 13 x λd e=>vZ (mV 13 x a d e);have g:=jP a;omega
 ·obtain⟨⟨h,i,j⟩,⟨k,l⟩,m⟩:=x;simp only[gR]at b c;obtain⟨rfl,rfl,rfl⟩:=b;subst c;exact⟨by simp[aH],by simp only[wt,dA,List.sum_nil];decide⟩
theorem B8(nm:aq)(a b k o:Int)(s:aq)(n:ay)(l c:Nat)(f i u:aq)(w:ah)(F:nm.size<=8)(C:f.size<=100)(D:i.size<=100)(E:u.size<=100000000)(y:Hid (∀W,ap w W->au 22 #[ae a] W λe w'=>e=aw (af f)/\ap W w'))(HB:Hid (∀W,ap w W->au 22 #[ae b] W λe w'=>e=aw (af i)/\ap W w'))(B:Hid (∀W,ap w W->au 62 #[.agg #[ae k,ae o,af s,ag n l c]] W λe w'=>e=aw (af u)/\ap W w')):au 60 #[.agg #[af nm,ae a,ae b,ae k,ae o,af s,ag n l c]] w λe w'=>e=aw (af (nm++ ⟨#[32]⟩++f++ ⟨#[32]⟩++i++ ⟨#[32]⟩++u))/\ap w w':=by
 go_enter func60,ntmps60;go_upto_region 1 with fail;generalize x:World.alloc _ _=j;have z:Hid (ap w j):=by
  rw[<-x];exact aV _ _
 have d:j.heap[w.heap.size]?=some (.cells #[af nm,ae a,ae b,ae k,ae o,af s,ag n l c] 101):=by
  rw[<-x];exact aK _ _
 clear x;have m:Hid (∀W,ap j W->ai W w.heap.size 0 (af nm)/\ai W w.heap.size 1 (ae a)/\ai W w.heap.size 2 (ae b)/\ai W w.heap.size 3 (ae k)/\ai W w.heap.size 4 (ae o)/\ai W w.heap.size 5 (af s)/\ai W w.heap.size 6 (ag n l c)):=λW v=>by
  have d:=fj v d;exact⟨aj d 0,aj d 1,aj d 2,aj d 3,aj d 4,aj d 5,aj d 6⟩
 have r:Hid (ap j j.drew):=(aG _ _).drew;have t:Hid (∀W,ap j W->ap w W):=λW v=>z.out.trans (v.mono z.out.size);have G:¬9223372036854775807<nm.size+1:=by omega
 have H:¬9223372036854775807<nm.size+1+f.size:=by omega
 have I:¬9223372036854775807<nm.size+1+f.size+1:=by omega
 have J:¬9223372036854775807<nm.size+1+f.size+1+i.size:=by omega
 have K:¬9223372036854775807<nm.size+1+f.size+1+i.size+1:=by omega
 have L:¬9223372036854775807<nm.size+1+f.size+1+i.size+1+u.size:=by omega
 clear d;generalize w.heap.size=h at m
 go_region_held3 (λW=>W.cell? ⟨h,0,none⟩=some (af nm)/\W.cell? ⟨h,1,none⟩=some (ae a)/\W.cell? ⟨h,2,none⟩=some (ae b)/\W.cell? ⟨h,3,none⟩=some (ae k)/\W.cell? ⟨h,4,none⟩=some (ae o)/\W.cell? ⟨h,5,none⟩=some (af s)/\W.cell? ⟨h,6,none⟩=some (ag n l c)) (first|exact m _ r|exact m _ p|exact m _ q|exact m _ A) ((first
  | (go_at_call 22;first
      | (refine(y _ (t _ r)).mono ?_;clear y;rintro e M ⟨rfl,g⟩;have p:=av (r.trans (g.mono r.size));clear g)
      | (refine(HB _ (t _ p)).mono ?_;clear HB;rintro e N ⟨rfl,g⟩;have q:=av (p.trans (g.mono p.size));clear g))
  | (go_at_call 62;refine(B _ (t _ q)).mono ?_;rintro e O ⟨rfl,g⟩;have A:=av (q.trans (g.mono q.size));clear g)))
 go_wp2_with fail
 go_ret
 exact⟨rfl,t.out _ A⟩
theorem Qf(a:tn x):vj 13 (cn 13 x)=vj 13 x:=by
 rcases a with a|⟨b,c⟩
 ·unfold vj;rw[if_pos a,if_pos (oV a),rz _ _ _ _ (eG a)]
 ·obtain⟨⟨h,i,j⟩,⟨f,g⟩,k⟩:=x;simp only[gR]at b c;obtain⟨rfl,rfl,rfl⟩:=b;subst c;have d:aJ 13 (((0,0,⟨#[]⟩),(f,g),[]):Tc) 13 tU=true:=by kernel_rfl
  have e:¬bK 13 tU=0:=by decide
  unfold vj;rw[gB d,if_neg (show¬bK 13 (cn 13 tU)=0 by decide),if_neg (by rw[bO d];exact e)]
theorem yp(a:tn e.2.2.2):gI (Nb e)=gI e:=by
 unfold gI Nb;simp only[Qf a]
theorem Eo(d:In B w 13 e.2.2.2)(c:tn e.2.2.2)(j:e.1.size<=8)(a:dn e.2.1)(b:dn e.2.2.1):(gI e).length<=70000000:=by
 have f:=Lib.itoa_length_le _ a.1 a.2;have g:=Lib.itoa_length_le _ b.1 b.2;have h:=vk d (sf c).2;have i:=Lib.size_eq e.1;unfold gI;simp only[bq,bu,eV];omega
theorem En(i:In w.heap.size w 13 e.2.2.2)(f:tn e.2.2.2)(j:e.1.size<=8)(d:dn e.2.1)(b:dn e.2.2.1)(g:xA w.heap.size w):au 60 #[.agg (yn e).toArray] w λr w'=>r=aw (af ⟨(gI e).toArray⟩)/\ap w w':=by
 have m:=Lib.itoa_length_le _ d.1 d.2;have o:=Lib.itoa_length_le _ b.1 b.2;have p:=vk i (sf f).2;have h:∀l:List UInt8,(⟨l.toArray⟩:aq).size=l.length:=λl=>by simp[ByteArray.size]
 refine(B8 e.1 e.2.1 e.2.2.1 e.2.2.2.1.1 e.2.2.2.1.2.1 e.2.2.2.1.2.2 e.2.2.2.2.1.1 e.2.2.2.2.2.length e.2.2.2.2.1.2 ⟨(Lib.itoa e.2.1).toArray⟩ ⟨(Lib.itoa e.2.2.1).toArray⟩ ⟨(vj 13 e.2.2.2).toArray⟩ w j (by rw[h];omega) (by rw[h];omega) (by rw[h];omega) (λc a=>jT _ d.1 d.2 _ c (g.on a)) (λc a=>jT _ b.1 b.2 _ c (g.on a)) λc a=>rE (n:=13) ((i.below a).mono a.size) (xA.mono (g.on a) a.size) (sf f).1 (sf f).2).mono ?_;rintro r w' ⟨rfl,b⟩;refine⟨?_,b⟩;refine congrArg (λk=>Ending.returned (af k)) ?_;unfold gI;apply ByteArray.ext;simp
theorem uh(q y:Nat)(k aL:Int)(s:aq)(z:ay)(c r:Nat)(l y0 y1 E:Int)(nm y2 n:aq)(ya:ay)(yl yc:Nat)(w:ah)(D:Int->bF)(aW:q<w.heap.size)(aM:Hid (ai w q 0 (aE y)))(a0:c<=r)(A:Hid (c=2->∃g o,z=some ⟨g,o,none⟩/\g<w.heap.size/\ai w g o (ae l)/\ai w g (o+2) (af nm)/\ai w g (o+4) (ae y0)/\ai w g (o+5) (ae y1)/\ai w g (o+6) (af y2)/\ai w g (o+7) (ag ya yl yc)))(F:Hid (c=2->l=2->∀W,ap w W->au 56 #[aE y,af nm,.agg #[ae y0,ae y1,af y2,ag ya yl yc]] W λe w'=>∃v,e=aw (ax #[ae v,ae E])/\Hid (bH (λb=>b<w.heap.size/\b≠q/\∀g o,z=some ⟨g,o,none⟩->b≠g) W w'/\D v w')))(B:Hid (∀v W,D v W->E=0->au 22 #[ae v] W λe w'=>e=aw (af n)/\ap W w')):au 37 #[aE q,.agg #[ae k,ae aL,af s,ag z c r]] w λe w'=>(¬(c=2/\l=2)/\e=aw (ax #[af ⟨#[]⟩,ae 5])/\ap w w')\/((c=2/\l=2)/\e=aw (ax #[af (if E=0 then n else ⟨#[]⟩),ae E])/\Hid (∃v W,D v W/\ap W w')):=by
 obtain⟨aA,ab⟩:∃aA:aq,(if E=0 then n else ⟨#[]⟩)=aA:=⟨_,rfl⟩;obtain⟨m,j⟩:∃m:Prop,(c=2/\l=2)=m:=⟨_,rfl⟩;rw[ab,j];go_enter func37,ntmps37;go_upto_region 1 with fail;generalize ad:World.alloc _ _=a;have i:Hid (ap w a):=by
  rw[<-ad];exact aV _ _
 have H:a.heap[w.heap.size]?=some (.cells #[ae k,ae aL,af s,ag z c r] 54):=by
  rw[<-ad];exact aK _ _
 have J:=(aR.1 H).1;obtain⟨h,aJ⟩:∃h,w.heap.size=h:=⟨_,rfl⟩;rw[aJ]at H J;have d3:ai a h 3 (ag z c r):=aj H 3;have G:ai a q 0 (aE y):=(i.out.cell (p:=⟨q,0,none⟩) aW).trans aM;clear ad H;by_cases Z:c=2;rotate_left
 ·have aS:((c:Int) !=2)=true:=by rw[gU];omega
  have K:Hid (¬m):=λd=>by rw[<-j]at d;exact Z d.1
  clear A F B G J Z j;go_wp2_with fail
  go_ret2
  exact ak ⟨K.out,rfl,i.out⟩
 subst Z;obtain⟨g,o,rfl,aI,S,T,U,V,X,Y⟩:=A.out rfl;have ac:∀{f:Nat}{an:az},ai w g f an->ai a g f an:=λ{f an} aQ=>(i.out.cell (p:=⟨g,f,none⟩) aI).trans aQ;have aP:=ac S;have aS:((2:Int) !=2)=false:=by decide
 by_cases I:l=2;rotate_left
 ·have aX:(l !=2)=true:=gU.2 I;have K:Hid (¬m):=λd=>by rw[<-j]at d;exact I d.2
  clear A F B G J I j ac S T U V X Y;go_wp2_with fail
  go_ret2
  exact ak ⟨K.out,rfl,i.out⟩
 subst I;have ao:Hid m:=by
  show m;rw[<-j];exact⟨rfl,rfl⟩
 clear j;have Q:=av (λW (u:ap a W)=>F.out rfl rfl W (i.out.trans (u.mono i.out.size)));have aU:=bf aI i.out.size;have aZ:g≠h:=by omega
 have aB:=ac T;have aC:=ac U;have aD:=ac V;have aF:=ac X;have aH:=ac Y;rw[aJ]at Q;have R:Hid (∀W,bH (λb=>b<h/\b≠q/\∀t al,(some ⟨g,o,none⟩:ay)=some ⟨t,al,none⟩->b≠t) a W->ai W q 0 (aE y)/\ai W h 3 (ag (some ⟨g,o,none⟩) 2 r)/\ai W g (o+2) (af nm)/\ai W g (o+4) (ae y0)/\ai W g (o+5) (ae y1)/\ai W g (o+6) (af y2)/\ai W g (o+7) (ag ya yl yc)):=λW u=>by
  have x:∀f,W.cell? ⟨g,f,none⟩=a.cell? ⟨g,f,none⟩:=λf=>u.cell f aU λd=>d.2.2 g o rfl rfl;exact⟨(u.cell 0 (by omega) (λd=>d.2.1 rfl)).trans G,(u.cell 3 J (by omega)).trans d3,(x _).trans aB,(x _).trans aC,(x _).trans aD,(x _).trans aF,(x _).trans aH⟩
 have M:Hid (ap a a.drew):=(aG _ _).drew;have P:Hid (bH (λb=>b<h/\b≠q/\∀t al,(some ⟨g,o,none⟩:ay)=some ⟨t,al,none⟩->b≠t) a a.drew):=aO M _;clear A F ac S T U V X Y;go_upto_region 3 with fail;clear aP aB aC aD aF aH G d3
 go_region_held3 (λW=>W.cell? ⟨q,0,none⟩=some (aE y)/\W.cell? ⟨h,3,none⟩=some (ag (some ⟨g,o,none⟩) 2 r)/\W.cell? ⟨g,o+2,none⟩=some (af nm)/\W.cell? ⟨g,o+4,none⟩=some (ae y0)/\W.cell? ⟨g,o+5,none⟩=some (ae y1)/\W.cell? ⟨g,o+6,none⟩=some (af y2)/\W.cell? ⟨g,o+7,none⟩=some (ag ya yl yc)) (first|exact R _ P|exact R _ ar) ((first
  | (go_at_call 56;refine(Q.out _ M).mono ?_;rintro e a1 ⟨v,rfl,L⟩;have ar:=av (P.out.trans L.1 λ_ _ d=>d))))
 have N:=av L.out.2;have O:=av (B.out _ _ N);have C:=av ab;clear R Q M P ar L B ab;by_cases aa:E=0
 ·subst aa;obtain rfl:=(if_pos rfl:(if (0:Int)=0 then n else ⟨#[]⟩)=n).symm.trans C.out;have aN:=av (O.out rfl);clear O C;go_wp2_with fail;refine aN.out.mono ?_;rintro e a2 ⟨rfl,aT⟩;go_wp2_with fail
  go_ret2
  exact am ⟨ao.out,rfl,_,_,N,aT⟩
 ·have aY:(E !=0)=true:=gU.2 aa;obtain rfl:=(if_neg aa:(if E=0 then n else ⟨#[]⟩)=_).symm.trans C.out;clear O C;go_wp2_with fail
  go_ret2
  exact am ⟨ao.out,rfl,_,_,N,aG _ _⟩
theorem D7(q:Nat)(n k G:Int)(s:aq)(C:ay)(F D:Nat)(E:Int)(B:az)(w:ah)(v:ay->Nat->Nat->bF)(x:Nat->bF)(P:0<=n/\n<=99)(L:Hid (w.heap[q]?=some (.cells #[B] 34)))(z:Hid (∀W,ap w W->au 54 #[.agg #[ae k,ae G,af s,ag C F D]] W λe w'=>∃a l c,e=aw (ax #[ag a l c,ae E])/\Hid (ap W w'/\(E=0->v a l c w'))))(m:Hid (E=0->∀a l c W,v a l c W->au 55 #[ag a l c,ae (10*n)] W λe w'=>∃b,e=aw (ax #[aE b,ae 0])/\Hid (ap W w'/\x b w'))):au 36 #[aE q,ae n,.agg #[ae k,ae G,af s,ag C F D]] w λe w'=>(¬E=0/\e=aw (ax #[af ⟨#[]⟩,ae E])/\ap w w')\/(E=0/\e=aw (ax #[af ⟨#[111,107]⟩,ae 0])/\Hid (∃b W,x b W/\ap w W/\w'=W.setCell ⟨q,0,none⟩ (aE b))):=by
 have h:Hid (∀o,ap w (w.alloc o)):=λo=>aV _ o;obtain⟨d,p⟩:∃d:Prop,(E=0)=d:=⟨_,rfl⟩;rw[p];have y:=av p;clear p;go_enter func36,ntmps36;go_wp2_with fail;refine(z.out _ (h.out _)).mono ?_;rintro e R ⟨a,l,c,rfl,i⟩;have f:=av ((h.out _).trans (i.out.1.mono (h.out _).size));have j:=av i.out.2;clear i z h;by_cases r:E=0;rotate_left
 ·have N:(E !=0)=true:=gU.2 r;have J:Hid (¬d):=by
   show¬d;rw[<-y.out];exact r
  clear j m;go_wp2_with fail
  go_ret2
  exact ak ⟨J.out,rfl,f.out⟩
 subst r;have I:Hid d:=by
  show d;rw[<-y.out]
 have A:=av (m.out rfl _ _ _ _ (j.out rfl));have Q:IntKind.i64.wrap (10*n)=10*n:=py (by omega);clear m j;go_wp2_with fail;refine A.out.mono ?_;rintro e u ⟨b,rfl,g⟩;have H:=av (f.out.trans (g.out.1.mono f.out.size));have K:=av g.out.2;have t:=fj g.out.1 (fj f L);have M:ai u q 0 B:=aj t 0;have O:u.frozen? ⟨q,0,none⟩=false:=by simp[World.frozen?,t]
 clear t g A f;go_wp2_with fail
 go_ret2
 exact am ⟨I.out,rfl,b,u,K,H,rfl⟩
theorem Dk(b:Nat)(name:aq)(w:ah)(d:ai w b 0 (af name))(c:Hid (∀w1:ah,au 112 #[af name] w1 λe w'=>e=aw (af name)/\ap w1 w')):au 92 #[aE b] w λe w'=>e=aw (af name)/\ap w w':=by
 go_enter func92,ntmps92;go_wp2_with fail;refine(c _).mono ?_;rintro e w1 ⟨rfl,a⟩;have HB:=av a;clear a;go_wp2_with fail
 go_ret
 exact⟨rfl,HB⟩
theorem P1.sname(a:P1 g p name room cs A k M w)(d:name.size<=2048):au 92 #[aE p] w λe w'=>e=aw (af name)/\ap w w':=by
 obtain⟨i,r,n,v,q,s,u,l,m,h,b,_⟩:=a;obtain⟨t,j,o,c,_⟩:=b.heap.box;exact Dk p name w (PL.cells c).1 λf=>eu name f d
theorem P1.mails2(C:P1 g p name room cs A k M w)(J:k<=95000)(D:A.length<=999):au 94 #[aE p] w λe w'=>∃(ys:List Tc)(a:ay)(c:Nat),e=aw (ag a A.length c)/\Hid (ys.length=A.length/\ap w w'/\fU w'.heap.size w' 13 ys a/\ys.map (cn 13)=A/\((∀b,(Value.slice a A.length c).ownBlock=some b->w.heap.size<=b)/\A.length<=c)/\∀y∈ys,bK 13 y=0/\cF (λq=>w.heap.size<=q) 13 y):=by
 obtain⟨R,ad,l,ai,ab,ae,af,Z,aa,P,u,⟨rfl,rfl⟩,X,Y⟩:=C;have G:∀y∈l,bK 13 y=0:=λy d=>((u.front (N:=12)).2.2.1 y (b9 _ d)).1;have W:l.length<=999:=by simpa using D
 refine(u.mails (N:=12) J (by omega)).mono ?_;rintro e w' ⟨ys,z,a,c,rfl,x⟩;obtain⟨v,j,r⟩:=x;have E:z=(l.map (cn 13)).length:=by
  rw[<-v,cE];exact cW _ _ _ r
 subst E;obtain⟨Q,S,m,_,n,_⟩:=fD.lay (eD 13) (f:=kY 13) (λ_=>rfl) j;injection m with m _ _;subst m;have H:(l.map (cn 13)).length<=c:=by
  rcases j.2.1.2 with⟨_,U⟩|⟨t,cap,T,e,_,_,V,_⟩
  ·omega
  ·injection e with _ _ e;omega
 refine⟨ys,a,c,rfl,v,j.1,?_,QK ys l r,⟨λb F=>(j.2.1.lt b F).1,H⟩,λy d=>⟨?_,(j.2.2 y d).2.mono λq K=>by rcases K.1 with s|s<;>omega⟩⟩
 ·rcases n with n|⟨t,o,B,I,h⟩
  ·exact ak n
  ·exact am ⟨t,o,B,I,λi y d=>⟨⟨(h i y d).1 0 _ rfl,(h i y d).1 1 _ rfl,(h i y d).1 2 _ rfl,(h i y d).1 3 _ rfl⟩,(h i y d).2⟩⟩
 ·obtain⟨s,O,L⟩:=tN _ _ _ r y d;exact(bO L).trans (G s O)
section
variable {p:mN} {s:Sy} {d:gX} {w:ah}
end
theorem Dm(g:Nat)(u:dc)(a:Int)(nm:aq)(l:az)(L:Nat)(w:ah)(K:Int->Int->aq->ay->Nat->Nat->bF)(J:Int->Int->aq->ay->Nat->Nat->ay->Nat->bF)(P:g<w.heap.size)(A:Hid (ai w g 3 (.map u)))(B:Hid (∀W,ap w W->(Instr.lookup 131 (.map u) (ae a) true).run Tryz.prog W=.ok (ax #[l,.bool true]) W))(E:Hid (∀W,ap w W->au 92 #[l] W λe w'=>e=aw (af nm)/\ap W w'))(F:Hid (∀W,ap w W->w.heap.size<W.heap.size->au 93 #[l] W λe w'=>∃y0 y1 y2 ya yl yc,e=aw (.agg #[ae y0,ae y1,af y2,ag ya yl yc])/\Hid (ap W w'/\K y0 y1 y2 ya yl yc w')))(C:Hid (∀y0 y1 y2 ya yl yc W,ap w W->w.heap.size<W.heap.size->K y0 y1 y2 ya yl yc W->au 94 #[l] W λe w'=>∃ma d,e=aw (ag ma L d)/\Hid (ap W w'/\∀I,bH (λq=>q=w.heap.size) w' I->J y0 y1 y2 ya yl yc ma d I))):au 61 #[aE g,ae a] w λe w'=>∃y0 y1 y2 ya yl yc ma d,e=aw (ax #[af nm,.agg #[ae y0,ae y1,af y2,ag ya yl yc],ag ma L d,ae 0])/\Hid (J y0 y1 y2 ya yl yc ma d w'/\ap w w'):=by
 go_enter func61,ntmps61;go_upto_region 1 with fail;generalize t:w.alloc _=x;have HB:Hid (ap w x):=by
  rw[<-t];exact aV _ _
 have G:Hid (x.heap[w.heap.size]?=some (.cells #[ae 0,ae 0,af ⟨#[]⟩,ag none 0 0] 54)):=by
  rw[<-t];exact aK _ _
 clear t;have O:=B _ HB;have N:ai x g 3 (.map u):=(HB.cell (p:=⟨g,3,none⟩) P).trans A;clear B A;go_wp2_with fail;refine(E _ HB).mono ?_;rintro e Q ⟨rfl,r⟩;have j:=av (HB.trans (r.mono HB.size));have m:=av (fj r G);clear r E O N HB G;go_wp2_with fail;refine(F _ j (aR.1 m).1).mono ?_;rintro e R ⟨y0,y1,y2,ya,yl,yc,rfl,h⟩;have k:=av (j.trans (h.1.mono j.size));have n:=av (fj h.1 m);have D:=av (C _ _ _ _ _ _ _ k (aR.1 n).1 h.2);clear C h F j m;go_wp2_with fail;refine D.mono ?_;rintro e b ⟨ma,d,rfl,i⟩;have y:=av (k.trans (i.1.mono k.size));have c:=fj i.1 n;have H:=av (i.2 _ (nd b w.heap.size 0 (ae y0) (ae y1) (af y2) (ag ya yl yc)));have z:Hid (ap w (dk b w.heap.size 0 (ae y0) (ae y1) (af y2) (ag ya yl yc))):=(dV (o:=0) (v0:=ae y0) (v1:=ae y1) (v2:=af y2) (v3:=ag ya yl yc) y (aA _));have f:=av (tF c (ae y0) (ae y1) (af y2) (ag ya yl yc));obtain⟨q,s⟩:∃q,q=w.heap.size:=⟨_,rfl⟩;rw[<-s]at c f z H ⊢;have M:=av s;clear s;have S:ai b q 0 (ae 0):=aj c 0;have T:ai b q 1 (ae 0):=aj c 1;have U:ai b q 2 (af ⟨#[]⟩):=aj c 2;have V:ai b q 3 (ag none 0 0):=aj c 3;have f0:b.frozen? ⟨q,0,none⟩=false:=by simp[World.frozen?,c]
 have f1:b.frozen? ⟨q,1,none⟩=false:=by simp[World.frozen?,c]
 have f2:b.frozen? ⟨q,2,none⟩=false:=by simp[World.frozen?,c]
 have f3:b.frozen? ⟨q,3,none⟩=false:=by simp[World.frozen?,c]
 clear c i D n k y;go_wp2_with fail;have d0:(dk b q 0 (ae y0) (ae y1) (af y2) (ag ya yl yc)).cell? ⟨q,0,none⟩=some (ae y0):=aj f 0;have d1:(dk b q 0 (ae y0) (ae y1) (af y2) (ag ya yl yc)).cell? ⟨q,1,none⟩=some (ae y1):=aj f 1;have d2:(dk b q 0 (ae y0) (ae y1) (af y2) (ag ya yl yc)).cell? ⟨q,2,none⟩=some (af y2):=aj f 2;have d3:(dk b q 0 (ae y0) (ae y1) (af y2) (ag ya yl yc)).cell? ⟨q,3,none⟩=some (ag ya yl yc):=aj f 3;simp only[dk,cB]at d0 d1 d2 d3;exact aD (v:=ax #[af nm,.agg #[ae y0,ae y1,af y2,ag ya yl yc],ag ma L d,ae 0]) (by simp[results,results61,go_sem,d0,d1,d2,d3]) rfl ⟨y0,y1,y2,ya,yl,yc,ma,d,rfl,H,M.out▸z.out⟩
def mh(t:Tc)(B:Nat)(y0 y1:Int)(y2:aq)(ya:ay)(yl yc:Nat)(W:ah):Prop:=∃(m:Nat)(x:Tm (m+1)),(x.1=(y0,y1,y2)/\x.2.1=(ya,yc)/\x.2.2.length=yl)/\aJ (m+1) x 13 t=true/\In W.heap.size W (m+1) x/\cF (λq=>B<=q/\q<W.heap.size) (m+1) x
theorem mh.kee(c:mh t B y0 y1 y2 ya yl yc W)(b:bH S W f)(i:∀q,B<=q->q<W.heap.size->¬S q):mh t B y0 y1 y2 ya yl yc f:=by
 obtain⟨j,k,d,e,g,h⟩:=c;have:=fB b (D:=λq=>B<=q/\q<W.heap.size) (λq a=>i q a.1 a.2) ⟨g,h⟩;exact⟨j,k,d,e,this.1,this.2.mono λq a=>⟨a.1,bf a.2 b.size⟩⟩
def rQ(a:List Tc)(B:Nat)(ma:ay)(W:ah):Prop:=∃ys:List Tc,ys.length=a.length/\fU W.heap.size W 13 ys ma/\ys.map (cn 13)=a/\(∀y∈ys,bK 13 y=0/\cF (λq=>B<=q) 13 y)/\∀g o,ma=some ⟨g,o,none⟩->B<=g
theorem rQ.kee{ma:ay}(u:rQ A B ma W)(d:bH S W f)(j:∀q,B<=q->q<W.heap.size->¬S q):rQ A B ma f:=by
 obtain⟨F,z,C,E,m,l⟩:=u;refine⟨F,z,?_,E,m,l⟩;rcases C with r|⟨a,o,s,b,t⟩
 ·exact ak r
 ·subst s;have w:=l a o rfl;refine am ⟨a,o,rfl,bf b d.size,λy n k=>?_⟩;have v:f.heap[a]?=W.heap[a]? :=d.block a b (j a w b);have c:=t y n k;have x:=fB d (D:=λq=>B<=q/\q<W.heap.size) (λq p=>j q p.1 p.2) ⟨c.2,In.offB (m n (aT k)).2 c.2⟩;refine⟨?_,x.1⟩;obtain⟨e,g,h,i⟩:=c.1;simp only[World.cell?,<-v]at e g h i;exact⟨e,g,h,i⟩
section
variable {p:mN} {s:Sy} {d:gX} {w:ah}
theorem bE.procC(m:bE p s d w){a:Int}{nm:aq}{cs:Tc}{f:List Tc}(F:s.get a=some (nm,cs,f))(S:nm.size<=2048)(ak:d.k<=92000):au 61 #[aE p.b,ae a] w λe w'=>∃y0 y1 y2 ya yl yc ma i,e=aw (ax #[af nm,.agg #[ae y0,ae y1,af y2,ag ya yl yc],ag ma f.length i,ae 0])/\Hid (((mh cs w.heap.size y0 y1 y2 ya yl yc w'/\rQ f w.heap.size ma w')/\f.length<=i)/\ap w w'):=by
 obtain⟨n,G⟩:∃n,dp d.l a=some n:=by
  have:=m.alive a;rw[F]at this;exact gj.1 this
 obtain⟨Y,K,J,C,v,aj⟩:=m.ps a n G;rw[F]at C;obtain⟨rfl,rfl,rfl⟩:nm=Y/\cs=K/\f=J:=by simpa using C
 refine Dm p.b d.po a nm (Be n) f.length w (λy0 y1 y2 ya yl yc h=>mh cs (w.heap.size+1) y0 y1 y2 ya yl yc h) (λy0 y1 y2 ya yl yc ma i w'=>(mh cs w.heap.size y0 y1 y2 ya yl yc w'/\rQ f w.heap.size ma w')/\f.length<=i) m.lo.2 m.cells.2.2.2 (λh g=>?_) (λh g=>(v.later g).sname S) (λh g R=>?_) λy0 y1 y2 ya yl yc h g R Q=>?_
 ·have:=(m.later g).look a true;rw[if_pos rfl,G]at this;exact this
 ·refine((v.later g).state (by omega)).mono ?_;rintro e w' ⟨c,rfl,t⟩;obtain⟨L,D,M,N,O⟩:=t.out;refine⟨c.1.1,c.1.2.1,c.1.2.2,c.2.1.1,c.2.2.length,c.2.1.2,rfl,L,12,c,⟨rfl,rfl,rfl⟩,?_,D,(In.offB M D).mono λq j=>⟨by omega,j.2⟩⟩;rw[<-O];exact dE _ _ _ _ (eG N)
 ·refine((v.later g).mails2 (by omega) (by omega)).mono ?_;rintro e w' ⟨B,ma,i,rfl,t⟩;obtain⟨U,x,V,W,I,X⟩:=t;have al:=x.size;refine⟨ma,i,rfl,x,λai E=>⟨⟨?_,?_⟩,I.2⟩⟩
  ·obtain⟨T,aa,y,z,A,r⟩:=(Q.kee (aO x λ_=>False) λ_ _ _ j=>j).kee E λq ab ad ah=>by omega
   exact⟨T,aa,y,z,A,r.mono λq j=>⟨by omega,j.2⟩⟩
  ·have P:rQ f h.heap.size ma w':=⟨B,U,V,W,X,λu o e=>I.1 u (by rw[e];rfl)⟩;obtain⟨B,y,z,A,r,Z⟩:=P.kee E λq ab ad ah=>by omega
   exact⟨B,y,z,A,λc H=>⟨(r c H).1,(r c H).2.mono λq j=>by omega⟩,λu o e=>by have:=Z u o e;omega⟩
end
def Qk(s:aq)(B:Nat)(a y0 y1:Int)(y2:aq)(ya:ay)(yl yc:Nat)(W:ah):Prop:=a=(rdT s).1/\(a=0->bK 13 (rdT s).2=0/\mh (rdT s).2 B y0 y1 y2 ya yl yc W)
theorem Ek(s:aq)(r:s.size<=maxLen)(w:ah):au 35 #[af s] w λe w'=>∃y0 y1 y2 ya yl yc pos d,e=aw (ax #[.agg #[ae y0,ae y1,af y2,ag ya yl yc],ae pos,ae d])/\Hid (ap w w'/\Qk s w.heap.size d y0 y1 y2 ya yl yc w'):=by
 refine(yO s w r).mono ?_;rintro e w' ⟨k,x,t,m,l,c,pos,d,rfl,j⟩;obtain⟨q,o⟩:=j.out;refine⟨k,x,t,m,l,c,pos,d,rfl,o,?_⟩;rcases q with⟨b,_,_,rfl⟩|⟨v,b,g,_,_,rfl⟩|⟨b,g,n,i,u,h,p,_,rfl,f⟩
 ·rw[Qk,tJ (ak ⟨b,rfl⟩)];exact⟨rfl,λa=>by cases a⟩
 ·rw[Qk,tJ (am (ak ⟨b,⟨v,g⟩,rfl⟩))];exact⟨rfl,λa=>by cases a⟩
 ·rw[Qk,tJ (am (am ⟨b,g,n,i,u,rfl⟩))];refine⟨rfl,λa=>?_⟩;simp only[a,cC];refine⟨oV a,?_⟩;rcases f with⟨y,_⟩|⟨_,f⟩
  ·exact absurd a y
  ·cases n with
   | zero=>exact h.elim
   | succ n=>
    obtain⟨⟨z,A,B⟩,⟨C,D⟩,E⟩:=i;simp only[dF,Value.agg.injEq,Array.mk.injEq,lB,Value.int.injEq,Value.string.injEq,Value.slice.injEq,true_and,gT]at f;obtain⟨rfl,rfl,rfl,rfl,rfl,rfl⟩:=f;exact⟨n,_,⟨rfl,rfl,rfl⟩,dE _ _ _ _ (eG a),h,In.offB p h⟩
theorem O3{v:Int}(a:vO s=some v):0<=v/\v<=99:=by
 unfold vO at a;split at a
 ·split at a
  ·rename_i b;obtain rfl:=aI a;exact b.1
  ·cases a
 ·cases a
theorem zZ{wd:aq}(c:iD wd=some (a,b)):a<=2/\b<=1:=by
 unfold iD at c
 repeat' split at c
 all_goals (cases c<;>exact⟨by decide,by decide⟩)
def OQ(r:Int×aq×Int×Int×Tc)(B:Nat)(d:aq)(a b f g:Int)(h:aq)(xa:ay)(i xc:Nat)(W:ah):Prop:=
 (d=r.2.1/\a=r.2.2.1/\b=r.2.2.2.1)/\(0<=a/\a<=99)/\(0<=b/\b<=99)/\mh r.2.2.2.2 B f g h xa i xc W/\∃e c,iD d=some (e,c)/\((c=0/\r.2.2.2.2=tU)\/(c=1/\bK 13 r.2.2.2.2=0))
theorem IK(B:Nat)(W:ah):mh tU B 0 0 ⟨#[]⟩ none 0 0 W:=⟨0,((0,0,⟨#[]⟩),(none,0),[]),⟨rfl,rfl,rfl⟩,by kernel_rfl,⟨⟨by simp[dn],by simp[dn],aM _,by simp,by simp⟩,ak rfl⟩,ak rfl⟩
theorem ou(b:aq):(k:Nat)->(s:aq)->∀x∈Lib.splitB b 0 k s,x.size<=s.size
 | 0,s,x,a=>by
  rw[Lib.splitB_zero,dO]at a;rw[a];exact aA _
 | k+1,s,x,a=>by
  unfold Lib.splitB at a;split at a
  ·rw[dO]at a;rw[a];exact aA _
  ·rcases cq.1 a with rfl|a
   ·simp[ByteArray.size_extract];omega
   ·have:=ou b k _ x a;simp only[ByteArray.size_extract]at this;omega
theorem mh.less{C:Nat}(b:mh t B y0 y1 y2 ya yl yc W)(g:C<=B):mh t C y0 y1 y2 ya yl yc W:=by
 obtain⟨h,i,c,d,e,f⟩:=b;exact⟨h,i,c,d,e,cF.mono (λj a=>⟨aF g a.1,a.2⟩) f⟩
theorem Ge(a:aq)(h:a.size<=65536)(c:Cx B w):au 31 #[af a,af ⟨#[32]⟩] w λe w'=>∃g b,e=aw (ax #[af (ky a),af g,.bool b])/\ap w w':=by
 obtain⟨_,f,_,_,_,d⟩:=c;refine(Tryz.strings_Cut a ⟨#[32]⟩ f w (by omega) (d w (aG _ _)).1).mono ?_;rintro e w' ⟨rfl,n,rfl⟩;exact⟨_,_,rfl,iX (aG _ _) n⟩
theorem Fv(d:aq)(s:d.size<=65536)(a b:Nat)(p:a<=2)(q:b<=1)(l:Cx B w):au 33 #[af d,af ⟨#[32]⟩,ae (1+a+b)] w λe w'=>∃g c,e=aw (.slice (some ⟨g,0,none⟩) (dq d a b).length c)/\(dq d a b).length<=c/\Hid (ap w w'/\g<w'.heap.size/\0<(dq d a b).length/\∀j,j<(dq d a b).length->ai w' g j (af ((dq d a b).getD j .empty))):=by
 obtain⟨_,o,_,_,_,n⟩:=l;have i:((1+a+b:Nat):Int)=1+a+b:=by omega
 have f:=Tryz.strings_SplitN d ⟨#[32]⟩ (1+a+b) o w (by omega) (n w (aG _ _)).1 (by decide) (by omega) (by omega);rw[i]at f;refine f.mono ?_;rintro e w' ⟨rfl,rfl⟩;have r:(dq d a b).length<=min (1+a+b) (d.size+1)-1+1:=Lib.splitB_length_le _ _ _ _;have m:(dq d a b).length<=min (1+a+b) (d.size+1):=by omega
 refine⟨_,_,rfl,m,aV _ _,(aR.1 (aK w _)).1,?_,λj h=>?_⟩
 ·show 0<(Lib.splitB QI 0 _ d).length;cases min (1+a+b) (d.size+1)-1 with
  | zero=>exact Nat.zero_lt_one
  | succ k=>
   unfold Lib.splitB;split
   ·exact Nat.zero_lt_one
   ·exact Nat.succ_pos _
 ·refine(aj (aK w _) j).trans ?_;show (Lib.cellsOf (dq d a b) _).toList[j]?=_;simp only[Lib.cellsOf];rw[dN (by simpa using h),dh,nI,aU h];rfl
theorem pj(c:aq)(d:c.size<=65536)(a b i:Nat):((dq c a b).getD i .empty).size<=65536:=by
 rw[nI];cases e:(dq c a b)[i]? with
 | none=>exact aM _
 | some f=>exact aF (ou _ _ _ f (aT e)) d
theorem Ht(c:aq)(q:c.size<=65536)(G:Cx B w)(u:B<=w.heap.size):au 24 #[af c] w λe w'=>∃i a b l m n xa o xc,e=aw (ax #[.agg #[af i,ae a,ae b,ae l,ae m,af n,ag xa o xc],ae (dkRead c).1])/\Hid (ap w w'/\((dkRead c).1=0->OQ (dkRead c) w.heap.size i a b l m n xa o xc w')):=by
 have r:∀d,ap w d->Cx B d:=λd j=>G.on (j.mono u);obtain⟨C,h⟩:∃C,dkRead c=C:=⟨_,rfl⟩;rw[h];unfold dkRead at h;cases hf:iD (ky c)with
 | none=>
  rw[hf]at h;subst h;refine(vQ c (ky c) 0 0 false 0 (λ_=> .empty) (λ_=>none) w (λ_ _ _ _ _ _ _ _=>False) (by omega) (by omega) (λd j=>Ge c q (r d j)) (λd=>?_) (λi=>by cases i) (λf d y=>absurd y (Nat.not_lt_zero f)) (λi=>by cases i)).mono ?_
  ·refine(Cf (ky c) d).mono ?_;rintro e w' ⟨rfl,rfl⟩;rw[hf];exact⟨rfl,rfl⟩
  ·rintro e w' ⟨i,a,b,l,m,n,xa,o,xc,p,rfl,H,g⟩;rcases g with⟨rfl,_⟩|⟨⟨k,_⟩,_⟩
   ·exact⟨i,a,b,l,m,n,xa,o,xc,rfl,H,λk=>by cases k⟩
   ·cases k
 | some E=>
  obtain⟨a,b⟩:=E;obtain⟨v,x⟩:=zZ hf;rw[hf]at h;simp only at h;have L:∀f,qS (dq c a b) f=vO ((dq c a b).getD (1+f) .empty):=λ_=>rfl;refine(vQ c (ky c) a b true (dq c a b).length (λf=>(dq c a b).getD f .empty) (qS (dq c a b)) w (λp l m n xa o xc d=>p=(rdT ((dq c a b).getD (1+a) .empty)).1/\(p=0->bK 13 (rdT ((dq c a b).getD (1+a) .empty)).2=0/\mh (rdT ((dq c a b).getD (1+a) .empty)).2 w.heap.size l m n xa o xc d)) v x (λd j=>Ge c q (r d j)) (λd=>?_) (λ_ d j=>Fv c q a b v x (r d j)) (λf d y j=>?_) (λ_ d j=>?_)).mono ?_
  ·refine(Cf (ky c) d).mono ?_;rintro e w' ⟨rfl,rfl⟩;rw[hf];exact⟨rfl,rfl⟩
  ·exact KB _ (by have:=pj c q a b (1+f);omega) (r d j) (aF u j.size)
  ·refine(Ek _ (by have:=pj c q a b (1+a);unfold maxLen;omega) d).mono ?_;rintro e w' ⟨y0,y1,y2,ya,yl,yc,pos,p,rfl,g⟩;refine⟨y0,y1,y2,ya,yl,yc,pos,p,rfl,g.1,λM J=>⟨g.2.1,λi=>⟨(g.2.2 i).1,mh.less (mh.kee (g.2.2 i).2 J λP N _ O=>by omega) j.size⟩⟩⟩
  ·rintro e w' ⟨i,D,F,l,m,n,xa,o,xc,p,rfl,t,g⟩;rcases g with⟨rfl,K⟩|⟨I,⟨rfl,rfl,rfl⟩,g⟩
   ·rw[if_neg λk=>K ⟨rfl,k⟩]at h;subst h;exact⟨i,D,F,l,m,n,xa,o,xc,rfl,t,λk=>by cases k⟩
   ·rw[if_pos I.2]at h;have s:∀f,0<=jW a (qS (dq c a b)) f 2/\jW a (qS (dq c a b)) f 2<=99:=λf=>by
     unfold jW;split
     ·cases e:qS (dq c a b) f with
      | none=>exact⟨by decide,by decide⟩
      | some Q=>exact O3 ((L f).symm.trans e)
     ·exact⟨by decide,by decide⟩
    have z:jW a (qS (dq c a b)) 0 2=if 0<a then (qS (dq c a b) 0).getD 0 else 0:=by simp[jW]
    have A:jW a (qS (dq c a b)) 1 2=if 1<a then (qS (dq c a b) 1).getD 0 else 0:=by simp[jW]
    rcases g with⟨rfl,rfl,rfl,rfl,rfl,rfl,rfl,rfl⟩|⟨rfl,rfl,g⟩
    ·simp only[cC]at h;subst h;exact⟨_,_,_,0,0,⟨#[]⟩,none,0,0,rfl,t,λ_=>⟨⟨rfl,z,A⟩,s 0,s 1,IK _ _,a,0,hf,ak ⟨rfl,rfl⟩⟩⟩
    ·simp only[Nat.one_ne_zero,if_false]at h;subst h;exact⟨_,_,_,l,m,n,xa,o,xc,rfl,t,λk=>⟨⟨rfl,z,A⟩,s 0,s 1,(g k).2,a,1,hf,am ⟨rfl,(g k).1⟩⟩⟩
def ud(v:az):Obj:=.cells #[v] 34
def Qt(q i:Nat)(P:List (Bh 13))(room:Int)(s:Sy)(M:aW)(W:ah):Prop:=∃(p:mN)(d:gX),W.heap[q]?=some (ud (aE p.b))/\bE p s d W/\(p.room=room/\aJ (p.n+6) (cX p.n p.prog) 18 (cX 12 P)=true/\oJ 12 P=0)/\(pC s/\nR s)/\(d.k<=i*402/\d.es.length<=i*201/\d.wn<=i*201/\d.bn<=i*201)/\∀b,d.ow b≠0->M b
def jL(a q i:Nat)(c:qu)(M:aW)(W:ah):Prop:=(Cx a W/\a<=q/\q+1<W.heap.size)/\(∀b,M b->q+1<b/\b<W.heap.size)/\match c with
 | none=>W.heap[q]?=some (ud (.pointer none))
 | some (P,room,s)=>Qt q i P room s M W
def jM(a q i:Nat)(c:qu)(M:aW)(w w':ah):Prop:=∃M',jL a q (i+1) c M' w'/\bH (λb=>b=q\/M b) w w'/\∀b,M' b->M b\/w.heap.size<=b
theorem jL.kept{f q i:Nat}{k:qu}{M S:aW}{W g:ah}(n:jL f q i k M W)(e:bH S W g)(j:∀b,S b->f<=b/\b≠q/\¬M b):jL f q i k M g:=by
 obtain⟨⟨o,r,t⟩,l,h⟩:=n;have u:=e.size;have m:g.heap[q]?=W.heap[q]? :=e.block q (by omega) λc=>(j q c).2.1 rfl;refine⟨⟨o.on (e.below (by omega) λb a c=>by have:=(j b c).1;omega),r,by omega⟩,λb a=>⟨(l b a).1,by have:=(l b a).2;omega⟩,?_⟩
 match k,h with
 | none,h=>exact m.trans h
 | some (P,room,s),⟨p,d,k1,k2,k3,k4,k5,k6⟩=>exact⟨p,d,m.trans k1,k2.kept e λb a=>Classical.byContradiction λc=>(j b a).2.2 (k6 b c),k3,k4,k5,k6⟩
variable{h:qu}
theorem jL.later(a:jL g q i h M W)(b:ap W f):jL g q i h M f:=a.kept (aO b λ_=>False) λ_ c=>c.elim
theorem jL.next(b:jL g q i h M W):jL g q (i+1) h M W:=by
 obtain⟨c,e,a⟩:=b;refine⟨c,e,?_⟩
 match h,a with
 | none,a=>exact a
 | some (P,room,s),⟨p,d,k1,k2,k3,k4,k5,k6⟩=>exact⟨p,d,k1,k2,k3,k4,⟨by omega,by omega,by omega,by omega⟩,k6⟩
theorem jL.stay(b:jL g q i h M W)(a:ap W f):jM g q i h M W f:=⟨M,(b.later a).next,aO a _,λ_ c=>ak c⟩
theorem jM.later{a q i:Nat}{d:qu}{M:aW}{w W b:ah}(f:jM a q i d M w W)(c:ap W b):jM a q i d M w b:=by
 obtain⟨e,g,h,j⟩:=f;exact⟨e,g.later c,h.trans (aO c λ_=>False) λ_ _ k=>k.elim,j⟩
theorem jM.from(c:ap w W)(e:jM g q i h M W f):jM g q i h M w f:=by
 obtain⟨d,j,k,l⟩:=e;exact⟨d,j,(aO c _).trans k λ_ _ a=>a,λb a=>(l b a).imp id λa=>aF c.size a⟩
theorem jL.box(a:jL g q i h M W):∃b,W.heap[q]?=some (ud b):=by
 match h,a.2.2 with
 | none,h5=>exact⟨_,h5⟩
 | some (P,room,s),⟨p,d,k1,_⟩=>exact⟨_,k1⟩
theorem jL.up{s l:Sy}{p:mN}{d h:gX}(A:jL g q i (some (P,room,s)) M w)(j:ap w W)(D:w.heap[q]?=some (ud (aE p.b)))(E:p.room=room/\aJ (p.n+6) (cX p.n p.prog) 18 (cX 12 P)=true/\oJ 12 P=0)(L:d.k<=i*402/\d.es.length<=i*201/\d.wn<=i*201/\d.bn<=i*201)(o:∀b,d.ow b≠0->M b)(t:bE p l h f)(C:gE a c d h W f)(H:a<=201)(I:c<=402)(B:pC l/\nR l):jM g q i (some (P,room,l)) M w f:=by
 obtain⟨⟨y,z,G⟩,m,_⟩:=A;obtain⟨r,F,N,O,Q,R⟩:=C;have J:=j.size;have K:=r.size;have u:bH (λb=>b=q\/M b) w f:=(aO j _).trans r λb _ e=>am (o b e);have v:∀b,h.ow b≠0->M b\/w.heap.size<=b:=λb e=>by
  by_cases x:b<W.heap.size
  ·rw[F b x]at e;exact ak (o b e)
  ·exact am (by omega)
 refine⟨λb=>h.ow b≠0,⟨⟨y.on (u.below (by omega) λb j e=>?_),z,by omega⟩,λb e=>⟨?_,(t.low b e).2⟩,p,h,?_,t,E,B,⟨by omega,by omega,by omega,by omega⟩,λ_ e=>e⟩,u,v⟩
 ·rcases e with e|e
  ·omega
  ·have:=(m b e).1;omega
 ·rcases v b e with e|e
  ·exact(m b e).1
  ·omega
 ·refine(r.block q (by omega) λe=>?_).trans ((j.block q (by omega)).trans D);have:=(m q (o q e)).1;omega
theorem pX(b:mh t B u z C xa g xc W)(e:bK 13 t=0):∃(m:Nat)(l:List (Tm m)),l.length=g/\aJ (m+1) ((u,z,C),(xa,xc),l) 13 t=true/\In W.heap.size W (m+1) ((u,z,C),(xa,xc),l)/\cF (λq=>B<=q/\q<W.heap.size) (m+1) ((u,z,C),(xa,xc),l)/\(aH (m+1) ((u,z,C),(xa,xc),l)).length<=201:=by
 obtain⟨m,f,⟨f1,f2,f3⟩,a,c,d⟩:=b;obtain⟨⟨i,j,k⟩,⟨n,o⟩,h⟩:=f;simp only[gR]at f1 f2;obtain⟨rfl,rfl,rfl⟩:=f1;obtain⟨rfl,rfl⟩:=f2;exact⟨m,h,f3,a,c,d,jP ((bO a).trans e)⟩
theorem Eh(J:jL g q i h M w){a:Int}(aD:0<=a/\a<=99)(aL:mh t B u z C xa p xc w)(O:bK 13 t=0):au 36 #[aE q,ae a,.agg #[ae u,ae z,af C,ag xa p xc]] w λe w'=>e=aw (ax #[af ⟨(mI h a t).2.2.toArray⟩,ae (mI h a t).2.1])/\Hid (jM g q i (mI h a t).1 M w w'):=by
 obtain⟨d,l,rfl,D,Z,aI,aH⟩:=pX aL O;obtain⟨o,Y⟩:∃o:Tm (d+1),((u,z,C),(xa,xc),l)=o:=⟨_,rfl⟩;have aK:∀H:az,H=.agg #[ae u,ae z,af C,ag xa l.length xc]->H=dF (d+1) o:=λH c=>by rw[c,<-Y];rfl
 rw[Y]at D Z aI aH;obtain⟨al,ab⟩:=J.box;have P:bK (d+1) o=0:=(bO D).trans O;have K:sh d (d+1) o=if (oE t).isSome then 0 else 5:=Ih (aA _) P D
 refine(D7 q a u z C xa l.length xc (sh d (d+1) o) al w (λy U s f=>∃c:List (Bh (d+1)),c.length=U/\(U<=s/\s<=maxLen)/\iW (d+1) f.heap.size f y c/\(∃I,xF d (d+1) o=some I/\fe (xZ (d+1)) c I)/\w.heap.size<=f.heap.size) (λan f=>∃(j:mN)(m:gX),an=j.b/\bE j Qe m f/\(m.k=0/\m.es=[]/\m.wn=0/\m.bn=0)/\j.room=10*a/\w.heap.size<=j.lo/\aJ (j.n+6) (cX j.n j.prog) 13 t=true) aD ab (λf N=>?_) λA y U s f hF=>?_).mono ?_
 ·rw[aK _ rfl];refine(Ci d (d+1) (aA _) o f.heap.size f ((Z.below N).mono N.size) (by omega) (aA _)).mono ?_;rintro e w' ⟨c,y,s,rfl,v⟩;obtain⟨G,S,T,_,_,aj⟩:=v.out;exact⟨y,c.length,s,rfl,G,λe=>⟨c,rfl,S,T,aj e,aF N.size G.size⟩⟩
 ·obtain⟨c,rfl,⟨G,S⟩,T,⟨I,ai,aN⟩,aj⟩:=hF;have aC:lk (d+1) I=true:=by
   unfold sh vX at A;rw[if_pos P,ai]at A;simp only at A;split at A
   ·assumption
   ·cases A
  obtain⟨t1,t2,t3,t4⟩:=yV (aA _) P ai aN aC;have t5:aJ (d+6) (cX d c) 13 t=true:=by
   have e:Ju d c=cX d c:=by unfold Ju;simp[t2]
   rw[e]at t3;exact bV _ _ _ _ _ _ t3 D
  refine(L0 d c y s (10*a) f T G S λ_=>by omega).mono ?_;rintro e w' ⟨H,aV,rfl,v⟩;obtain⟨aS,aT,_,aU⟩:=v.out;have ad:aV=0:=by
   rw[aS];unfold Dj;rw[if_neg (λc=>c t2),if_pos (by omega)]
  obtain⟨j,m,rfl,E,aQ,V,aR,_,W⟩:=aU ad;subst ad;exact⟨j.b,rfl,aT,j,m,rfl,E,aQ,V,by omega,bV _ _ _ _ _ _ W t5⟩
 ·rintro e w' (⟨F,rfl,r⟩|⟨F,rfl,v⟩)
  ·have aa:oE t=none:=by
     cases e:oE t with
     | none=>rfl
     | some x=>exact absurd (by rw[K,e];rfl) F
   have ar:sh d (d+1) o=5:=by rw[K,aa];rfl
   unfold mI;rw[aa,ar];exact⟨rfl,J.stay r⟩
  ·obtain⟨x,X⟩:∃x,oE t=some x:=by
     cases e:oE t with
     | none=>rw[K,e]at F;cases F
     | some x=>exact⟨x,rfl⟩
   obtain⟨ao,ap⟩:=vI O X;obtain⟨an,f,⟨j,m,rfl,E,⟨aZ,aP,a0,a1⟩,V,aR,W⟩,r,rfl⟩:=v.out;obtain⟨⟨av,aB,aX⟩,aY,_⟩:=J;have D:=r.size;have R:f.heap[q]?=some (ud al):=(r.block q (by omega)).trans ab;have L:=bN f q 0 (aE j.b);have Q:∀b,m.ow b≠0->w.heap.size<=b:=λb c=>by have:=(E.low b c).1;omega
   unfold mI;rw[X];refine⟨rfl,λb=>m.ow b≠0,⟨⟨(av.on (r.mono (by omega))).on (L.below (by omega) λb r c=>by omega),aB,by simpa using (by omega:q+1<f.heap.size)⟩,λb c=>⟨?_,by simpa using (E.low b c).2⟩,j,m,?_,E.kept L λb c=>?_,⟨V,bV _ _ _ _ _ _ W (dE _ _ _ _ ap),ao⟩,⟨λq R=>(by cases R),⟨kj _,λe aG=>(by cases aG)⟩⟩,⟨by omega,by rw[aP];exact aM _,by omega,by omega⟩,λ_ c=>c⟩,(aO r _).trans L λb _ c=>ak c,λb c=>am (Q b c)⟩
   ·have:=Q b c;omega
   ·simp[World.setCell,bR,R,ud]
   ·subst c;exact Classical.byContradiction λc=>by have:=Q b c;omega
theorem II{x:Tm k}(a:aJ k x g y=true)(room:Int)(nm:aq):fw k x room nm=fw g y room nm:=by
 unfold fw jm;rw[bO a,cG _ _ _ _ a,kX _ _ _ _ a]
theorem Fy{P:List (Bh (n+1))}{x:Tm k}(a:aJ k x g y=true)(s:Sy)(room:Int)(nm:aq):s.start n P room nm k x=s.start n P room nm g y:=by
 unfold Sy.start;rw[II a,gB a]
theorem vP{s:Sy}{l:List (Tm 12)}(a:∀x y,l=[x,y]->¬x.1.1=2):jH P room s l=(some (P,room,s),5,[]):=by
 match l with
 | []=>rfl
 | [_]=>rfl
 | [x,y]=>exact if_neg (a x y rfl)
 | _::_::_::_=>rfl
theorem BY{s:Sy}(x:jL g q i (some (P,room,s)) M w)(aT:i<=200)(aB:mh t B u z C xa p xc w)(an:bK 13 t=0)(am:∀b,M b->b<B):au 37 #[aE q,.agg #[ae u,ae z,af C,ag xa p xc]] w λe w'=>e=aw (ax #[af ⟨(jH P room s t.2.2).2.2.toArray⟩,ae (jH P room s t.2.2).2.1])/\Hid (jM g q i (jH P room s t.2.2).1 M w w'):=by
 obtain⟨j,l,rfl,N,ap,az,aV⟩:=pX aB an;obtain⟨m,aM,R,ad,S,ak,aD,T⟩:=x.2.2;have aa:q<w.heap.size:=(aR.1 R).1;have X:ai w q 0 (aE m.b):=aj R 0;obtain⟨⟨_,_,_,Z,_⟩,I⟩:=ap;have G:aN (λv b=>aJ j v 12 b) l t.2.2=true:=by
  have N:((u==t.1.1 && z==t.1.2.1 && C.toList==t.1.2.2.toList) && aN (λv b=>aJ j v 12 b) l t.2.2)=true:=N;exact(Bool.and_eq_true_iff.1 N).2
 by_cases D:l.length=2;rotate_left
 ·refine(uh q m.b u z C xa l.length xc 0 0 0 0 ⟨#[]⟩ ⟨#[]⟩ ⟨#[]⟩ none 0 0 w (λ_ _=>False) aa X Z (λa=>absurd a D) (λa=>absurd a D) (λ_ _ a=>a.elim)).mono ?_;rintro e w' (⟨_,rfl,A⟩|⟨a,_⟩)
  ·rw[vP λaG aI a=>absurd (by rw[pV _ _ _ G,a];rfl) D];exact⟨rfl,x.stay A⟩
  ·exact absurd a.1 D
 obtain⟨d,f,rfl⟩:∃d f,l=[d,f]:=by
  match l,D with
  | [d,f],_=>exact⟨d,f,rfl⟩
 obtain⟨c,h,Y⟩:∃c h,t.2.2=[c,h]:=by
  have:=pV _ _ _ G
  match Y:t.2.2,this with
  | [c,h],_=>exact⟨c,h,rfl⟩
 rw[Y]at G ⊢;have ab:aJ j d 12 c=true/\aJ j f 12 h=true:=by simpa [aN]using G
 rcases I with a|⟨F,o,rfl,ao,I⟩
 ·cases a
 have L:=I 0 d rfl;have k:=I 1 f rfl;cases j with
 | zero=>exact k.2.elim
 | succ j=>
 have aQ:B<=F:=by
  rcases az with a|⟨b,aF,e,Q,_⟩
  ·cases a
  ·simp only[iu,Addr.mk.injEq,gT]at e;rw[e.1];exact Q.1
 have O:d.1.1=c.1.1/\d.1.2.2=c.1.2.2:=by
  have:((d.1.1==c.1.1 && d.1.2.1==c.1.2.1 && d.1.2.2.toList==c.1.2.2.toList) && aN (λv b=>aJ j v 11 b) d.2.2 c.2.2)=true:=ab.1;simp only[aS,cT]at this;exact⟨this.1.1.1,by rw[kI this.1.2,<-kI (rfl:c.1.2.2.toList=c.1.2.2.toList)]⟩
 have ar:(aH (j+1) f).length<=2097152:=by
  have:(aH (j+1+1) ((u,z,C),(some ⟨F,o,none⟩,xc),[d,f])).length=1+((aH (j+1) d).length+(aH (j+1) f).length):=by
   simp only[aH,bL,List.flatMap_nil,bu,bq,eE];omega
  omega
 have aA:s.start m.n m.prog m.room d.1.2.2 (j+1) f=s.start 12 P room c.1.2.2 12 h:=by
  rw[S.1,Fz S.2.1,Fy ab.2,O.2]
 refine(uh q m.b u z C (some ⟨F,o,none⟩) 2 xc d.1.1 f.1.1 f.1.2.1 (s.start 12 P room c.1.2.2 12 h).2 d.1.2.2 f.1.2.2 ⟨(Lib.itoa (s.last+1)).toArray⟩ f.2.1.1 f.2.2.length f.2.1.2 w (λE r=>((s.start 12 P room c.1.2.2 12 h).2=0->E=s.last+1)/\jM g q i (some (P,room,(s.start 12 P room c.1.2.2 12 h).1)) M w r) aa X Z (λ_=>⟨F,o,rfl,ao,?_,?_,?_,?_,?_,?_⟩) (λ_ aU r H=>?_) λE r y al=>?_).mono ?_
 ·exact L.1.1
 ·exact L.1.2.2.1
 ·exact k.1.1
 ·exact k.1.2.1
 ·exact k.1.2.2.1
 ·exact k.1.2.2.2
 ·refine((ad.later H).start d.1.2.2 (by have:=L.2.1.2.2.1;unfold maxLen at this;omega) f ((k.2.below H).mono H.size) ar (by omega) (by omega)).mono ?_;rintro e w' ⟨E,aX,rfl,J⟩;obtain⟨⟨U,K⟩,aO,V,W⟩:=J.out;rw[aA]at U V;subst U;refine⟨E,rfl,W.1.mono λb _ a=>?_,K,x.up H R S aD T V W (by omega) (by omega) ⟨ak.1.start _ _ _,ak.2.start _ _ _⟩⟩;have Q:=x.2.1 b (T b a)
  exact⟨Q.2,by omega,λaP aF e=>by
   simp only[iu,Addr.mk.injEq,gT]at e;have:=am b (T b a)
   omega⟩
 ·obtain⟨K,aL,y,_⟩:=y;rw[K al];have:=ad.keys;exact jT _ (by omega) (by omega) g r y.1.1.1
 ·rintro e w' (⟨av,rfl,A⟩|⟨aC,rfl,J⟩)
  ·rw[vP λaG aI a aK=>av ⟨rfl,?_⟩]
   ·exact⟨rfl,x.stay A⟩
   ·simp only[lB,gT]at a;rw[O.1,a.1];exact aK
  ·obtain⟨E,r,⟨_,y⟩,A⟩:=J.out;have e:jH P room s [c,h]=(some (P,room,(s.start 12 P room c.1.2.2 12 h).1),(s.start 12 P room c.1.2.2 12 h).2,if (s.start 12 P room c.1.2.2 12 h).2=0 then Lib.itoa (s.last+1)else []):=if_pos (O.1.symm.trans aC.2);rw[e];refine⟨?_,y.later A⟩;by_cases a:(s.start 12 P room c.1.2.2 12 h).2=0
   ·rw[if_pos a,if_pos a]
   ·rw[if_neg a,if_neg a]
def qL(B b:Nat)(l:List UInt8)(a W:ah):Prop:=Bu B b l W/\(∀r,JS b W r->a.heap.size<=r)/\bH (λq=>q=b\/a.heap.size<=q) a W
theorem Hc(e:ap W f)(g:b<W.heap.size)(a:JS b f r):JS b W r:=by
 obtain⟨h,c,d⟩:=a;exact⟨h,(e.cell (p:=⟨b,1,none⟩) g).symm.trans c,d⟩
theorem qL.later(a:qL B b l f W)(c:ap W d):qL B b l f d:=
 ⟨a.1.old c,λg e=>a.2.1 g (Hc c a.1.lt.2 e),a.2.2.trans (aO c λ_=>False) λ_ _ h=>h.elim⟩
theorem qL.wrote{j:List UInt8}(e:qL B b l f W)(a:dD B b j W d)(h:Oi b W d):qL B b j f d:=by
 have p:=e.2.2.size;refine⟨a.1,λk o=>(h.2 k o).elim (e.2.1 k) λm=>by omega,e.2.2.trans (T:=λc=>c=b\/f.heap.size<=c) ⟨a.2.1.os,a.2.1.tape,a.2.1.output,a.2.1.size,λc n i=>h.1 c n (λg=>i (ak g)) λg=>i (am (e.2.1 c g))⟩ λ_ _ m=>m⟩
theorem qL.str(a:qL B b l f W)(s:aq)(c:l.length+s.size<=140737488355328):au 12 #[aE b,af s] W λe w'=>e=aw (ax #[ae s.size,.nilIface])/\Hid (qL B b (l++s.data.toList) f w'):=
 (mL B b l s W a.1 c (by have:=a.1.lt;omega)).mono λ_ _ k=>⟨k.1,a.wrote k.2.1 k.2.2⟩
theorem qL.nl(a:qL B b l f W)(c:l.length+1<=140737488355328):au 14 #[aE b,.int .u8 10] W λe w'=>e=.returned .nilIface/\Hid (qL B b (l++ [10]) f w'):=
 (pA B b l 10 W a.1 c (by have:=a.1.lt;omega)).mono λ_ _ k=>⟨k.1,a.wrote k.2.1 k.2.2⟩
def tw(T:Nat->aq)(j:Nat):List UInt8:=((List.range j).map λi=>(T i).data.toList++ [10]).flatten
theorem yu(T:Nat->aq)(j:Nat):tw T (j+1)=tw T j++(T j).data.toList++ [10]:=by
 unfold tw;rw[List.range_succ];simp
theorem Cm(T:Nat->aq)(j:Nat)(a:∀i,i<j->(T i).size<=70000000):(tw T j).length<=j*70000001:=by
 induction j with
 | zero=>simp[tw]
 | succ j ih=>
  have b:=ih λi e=>a i (by omega);have c:=a j (by omega);have d:=Lib.size_eq (T j);rw[yu];simp only[bq,bu,eV];omega
theorem KS(q s:Nat)(y a b A C:Int)(F:aq)(xa:ay)(G xc N:Nat)(E:Int)(K:Nat)(T:Nat->aq)(w:ah)(D:bF)(be:ay->Nat->Nat->bF)(ad:q<w.heap.size)(aH:Hid (ai w q 0 (aE s)))(bA:K<=1000)(ba:Hid (∀i,i<K->(T i).size<=70000000))(a3:Hid (∀W,ap w W->au 57 #[aE s] W λe w'=>e=aw (ae N)/\ap W w'))(aZ:Hid (∀W,ap w W->au 58 #[aE s,.agg #[ae y,ae a,ae b,ae A,ae C,af F,ag xa G xc]] W λe w'=>e=aw (ae E)/\Hid (bH (λb=>b<w.heap.size/\b≠q) W w'/\D w')))(aC:Hid (E=0->∀W aa,D W->ap W aa->W.heap.size<aa.heap.size->au 59 #[aE s,ae N] aa λe w'=>∃a c,e=aw (ag a K c)/\Hid (ap aa w'/\be a c W.heap.size w')))(Z:Hid (∀a c j B b l m W,j<K->be a c b m->qL B b l m W->∃g P M O y0 y1 y2 ya yl yc,a=some ⟨g,0,none⟩/\(ai W g (j*7) (af P)/\ai W g (j*7+1) (ae M)/\ai W g (j*7+2) (ae O)/\ai W g (j*7+3) (ae y0)/\ai W g (j*7+4) (ae y1)/\ai W g (j*7+5) (af y2)/\ai W g (j*7+6) (ag ya yl yc))/\Hid (∀aJ,ap W aJ->au 60 #[.agg #[af P,ae M,ae O,ae y0,ae y1,af y2,ag ya yl yc]] aJ λe w'=>e=aw (af (T j))/\ap aJ w'))):au 38 #[aE q,.agg #[ae y,ae a,ae b,ae A,ae C,af F,ag xa G xc]] w λe w'=>e=aw (ax #[af ⟨(if E=0 then tw T K++ [111,107]else []).toArray⟩,ae E])/\Hid (∃W,D W/\ap W w'):=by
 obtain⟨bd,Q⟩:∃bd:aq,⟨(if E=0 then tw T K++ [111,107]else []).toArray⟩=bd:=⟨_,rfl⟩;rw[Q];go_enter func38,ntmps38;go_upto_region 1 with fail;generalize aQ:World.alloc _ _=am;have I:Hid (ap w am):=by
  rw[<-aQ];exact aV _ _
 have f:am.heap[w.heap.size]?=some (.cells #[ae y,ae a,ae b,ae A,ae C,af F,ag xa G xc] 78):=by
  rw[<-aQ];exact aK _ _
 clear aQ;have r:ai am q 0 (aE s):=(I.cell (p:=⟨q,0,none⟩) ad).trans aH;have bc:=av f;clear f;go_wp2_with fail;refine(a3.out am I).mono ?_;rintro e h ⟨rfl,aN⟩;have S:=av (I.trans (aN.mono I.size));have f:=fj aN bc;have r:ai h q 0 (aE s):=(S.cell (p:=⟨q,0,none⟩) ad).trans aH;have aB:=av (λW (ab:ap h W)=>aZ.out W (S.out.trans (ab.mono S.out.size)));clear a3 aZ aN bc I S;have x:=(aR.1 f).1;obtain⟨d,ak⟩:∃d,w.heap.size=d:=⟨_,rfl⟩;rw[ak]at f x aB ad;have d0:ai h d 0 (ae y):=aj f 0;have d1:ai h d 1 (ae a):=aj f 1;have d2:ai h d 2 (ae b):=aj f 2;have d3:ai h d 3 (ae A):=aj f 3;have d4:ai h d 4 (ae C):=aj f 4;have d5:ai h d 5 (af F):=aj f 5;have d6:ai h d 6 (ag xa G xc):=aj f 6;clear f;have X:Hid (∀W,bH (λb=>b<d/\b≠q) h W->ai W q 0 (aE s)/\ai W d 0 (ae y)/\ai W d 1 (ae a)/\ai W d 2 (ae b)/\ai W d 3 (ae A)/\ai W d 4 (ae C)/\ai W d 5 (af F)/\ai W d 6 (ag xa G xc)):=λW ab=>by
  have k:∀o,W.cell? ⟨d,o,none⟩=h.cell? ⟨d,o,none⟩:=λo=>ab.cell o x (by omega);exact⟨(ab.cell 0 (by omega) (by omega)).trans r,(k 0).trans d0,(k 1).trans d1,(k 2).trans d2,(k 3).trans d3,(k 4).trans d4,(k 5).trans d5,(k 6).trans d6⟩
 have ar:Hid (ap h h.drew):=(aG _ _).drew;have aD:Hid (bH (λb=>b<d/\b≠q) h h.drew):=aO ar _;have a5:Hid (q<h.heap.size):=(by omega:q<h.heap.size);clear r d0 d1 d2 d3 d4 d5 d6 x ad;go_upto_region 2 with fail
 go_region_held3 (λW=>W.cell? ⟨q,0,none⟩=some (aE s)/\W.cell? ⟨d,0,none⟩=some (ae y)/\W.cell? ⟨d,1,none⟩=some (ae a)/\W.cell? ⟨d,2,none⟩=some (ae b)/\W.cell? ⟨d,3,none⟩=some (ae A)/\W.cell? ⟨d,4,none⟩=some (ae C)/\W.cell? ⟨d,5,none⟩=some (af F)/\W.cell? ⟨d,6,none⟩=some (ag xa G xc)) (first|exact X _ aD|exact X _ V) ((first
  | (go_at_call 58;refine(aB.out _ ar).mono ?_;rintro e m ⟨rfl,an⟩;have V:=av (aD.out.trans an.1 λ_ _ bl=>bl))))
 have r:=(X.out _ V).1;have a4:Hid (q<m.heap.size):=bf a5.out V.out.size;have az:=av an.2;clear X aB ar aD V a5 an aH ak;by_cases aL:E=0;rotate_left
 ·have bz:(E !=0)=true:=by simpa using aL
  rw[if_neg aL]at Q;subst Q;clear aC Z;go_wp2_with fail
  go_ret2
  exact⟨rfl,_,az,aG _ _⟩
 subst aL;rw[if_pos rfl]at Q;subst Q;have a1:=av (aC.out rfl m);clear aC;go_upto_region 6 with fail;generalize al:World.alloc _ _=R;have J:Hid (ap m R):=by
  rw[<-al];exact aV _ _
 have Y:Hid (Bu m.heap.size m.heap.size [] R):=by
  rw[<-al];exact Lib.IsBuilderF.of (Lib.fresh_isBuilder 38 5 m)
 have aX:Hid (ai R m.heap.size 1 (ag none 0 0)):=by
  rw[<-al];exact aj (aK _ _) 1
 have a0:=av (a1.out R az J Y.out.lt.2);have r:ai R q 0 (aE s):=(J.cell (p:=⟨q,0,none⟩) a4).trans r;clear al a1;go_wp2_with fail;refine a0.mono ?_;rintro e z ⟨bJ,bK,rfl,H⟩;have bm:=av (J.trans (H.1.mono J.size));have U:Hid (qL m.heap.size m.heap.size (tw T 0) z z):=by
  refine⟨Y.out.old H.1,λd ak=>?_,bH.refl _ _⟩;obtain⟨bL,bg,bv⟩:=ak;rw[(H.1.cell (p:=⟨m.heap.size,1,none⟩) Y.out.lt.2).trans aX]at bg;obtain rfl:=aI bg;cases bv
 have a2:Hid (m.heap.size<z.heap.size):=U.out.1.lt.2;have bb:=av H.2;clear a0 J Y aX r H a4;obtain⟨t,aP⟩:∃t,m.heap.size=t:=⟨_,rfl⟩;have aU:=av aP;rw[aP]at U bb a2 ⊢;clear aP;go_wp2_with fail;go_loopw [10,32] (λ_ i wr=>∃(j:Nat),j<=K/\i=ae j/\Hid (qL t t (tw T j) z wr)) (λ_ i _=>K-(intOf i).toNat)
 case atStart=>exact⟨0,aM _,rfl,U.out⟩
 case round=>
 clear U;obtain⟨j,bD,rfl,L⟩:=hrel;have aF:=av (Cm T j λi bC=>ba.out i (by omega));by_cases x:j<K
 ·obtain⟨g,P,M,O,y0,y1,y2,ya,yl,yc,rfl,⟨r,bo,bp,br,bs,bt,bu⟩,aW⟩:=Z.out _ _ j _ _ _ z wr x bb L.out;have bE:(0:Int)<=(j:Int):=by omega
  have bG:(j:Int)<(K:Int):=by omega
  have a9:=av (ba.out j x);clear Z;go_upto_region 9 with fail;generalize aS:World.alloc _ _=n;have ao:Hid (ap wr n):=by
   rw[<-aS];exact aV _ _
  have f:n.heap[wr.heap.size]?=some (.cells #[af P,ae M,ae O,ae y0,ae y1,af y2,ag ya yl yc] 101):=by
   rw[<-aS];exact aK _ _
  have a6:=av (L.out.later ao);have aY:=av (aW.out n ao);clear aS L aW r bo bp br bs bt bu ao;generalize wr.heap.size=u at*;have d0:ai n u 0 (af P):=aj f 0;have d1:ai n u 1 (ae M):=aj f 1;have d2:ai n u 2 (ae O):=aj f 2;have d3:ai n u 3 (ae y0):=aj f 3;have d4:ai n u 4 (ae y1):=aj f 4;have d5:ai n u 5 (af y2):=aj f 5;have d6:ai n u 6 (ag ya yl yc):=aj f 6;clear f;go_wp2_with fail;refine aY.mono ?_;rintro e bM ⟨rfl,bh⟩;have a7:=av (a6.out.later bh);clear bh a6 aY d0 d1 d2 d3 d4 d5 d6;go_wp2_with fail;refine(a7.out.str (T j) (by have:=aF.out;have:=a9.out;omega)).mono ?_;rintro e aT ⟨rfl,v⟩;go_wp2_with fail;refine(v.out.nl (by have:=aF.out;have:=a9.out;have:=Lib.size_eq (T j);simp only[bq];omega)).mono ?_;rintro e bk ⟨rfl,a8⟩;rw[<-yu]at a8;clear a7 v;go_wp2_with fail;go_roundw
  case rel=>exact⟨j+1,by omega,by go_num,a8.out⟩
  case measure=>simp[intOf];omega
 ·obtain rfl:j=K:=by omega
  clear Z;go_wp2_with fail;refine(L.out.str ⟨#[111,107]⟩ (by have:=aF.out;show (tw T j).length+2<=_;omega)).mono ?_;rintro e aT ⟨rfl,v⟩;clear L;go_wp2_with fail;refine(Tryz.Builder_String_any_k t t (tw T j++ [111,107]) aT v.out.1 (by have:=v.out.1.lt;omega)).mono ?_;rintro e bk ⟨rfl,_,bi,_⟩;have bn:Hid (Below t m bk):=by
   have bj:=bm.out;have bw:=v.out.2.2;have bI:=a2.out;have bx:Below t z aT:=bw.below (by omega) λb bB bl=>by omega
   have e:=aU.out;rw[e]at bj;exact(bj.trans bx).trans (bi.mono (aA _))
  clear bi;go_wp2_with fail
  go_ret2
  exact⟨rfl,_,az,by rw[aU.out];exact bn⟩
def tZ(r:Nat)(a:ah)(v:az)(l:bm)(W:ah):Prop:=W.ownsRow r 9 1 v l.length (l.map Value.string)/\(∀b,v.ownBlock=some b->b=r\/a.heap.size<=b)/\bH (λb=>b=r\/a.heap.size<=b) a W/\r<=a.heap.size
theorem tZ.later{l:bm}(a:tZ r f v l W)(b:ap W d):tZ r f v l d:=
 ⟨dU a.1 b,a.2.1,a.2.2.1.trans (aO b λ_=>False) λ_ _ c=>c.elim,a.2.2.2⟩
theorem tZ.grown{e:az}{l c:bm}(a:tZ r f v l W)(h:d.ownsRow r 9 1 e c.length (c.map Value.string))(i:W.grownBy d v.ownBlock)(j:∀b,e.ownBlock=some b->v.ownBlock=some b\/W.heap.size<=b):tZ r f e c d:=by
 have m:=a.2.2.1.size;exact⟨h,λb k=>(j b k).elim (a.2.1 b) λg=>by omega,a.2.2.1.trans (ew i) λb _ g=>a.2.1 b g,a.2.2.2⟩
theorem tZ.below{r:Nat}{w c W:ah}{v:az}{l:bm}(d:tZ r c v l W)(a:ap w c)(f:w.heap.size=r):ap w W:=a.trans (d.2.2.1.below a.size λb e g=>by have:=a.size;omega)
theorem tZ.cells{r:Nat}{i W:ah}{v:az}{l:bm}(b:tZ r i v l W)(d:l≠[]):∃g c,v=ag (some ⟨g,0,none⟩) l.length c/\g<W.heap.size/\l.length<=c/\∀(j:Nat) x,l[j]?=some x->ai W g (0+j) (af x):=by
 rcases b.1.2 with⟨_,a⟩|⟨g,c,k,a,_,f,e,_⟩
 ·exact absurd (b8 a) d
 ·subst a;refine⟨g,c,rfl,(aR.1 f).1,e,λj x h=>?_⟩;have:=World.ownsRow.cells b.1 (g:=g) rfl j (af x) (by rw[dh,h];rfl);rw[cB];rw[show (⟨g,0,none⟩:Addr).add j=⟨g,j,none⟩ by simp only[Addr.add,cB];split<;>simp_all]at this;exact this
theorem tZ.more{a:ah}{l:bm}{g:Nat}(h:tZ r f v l d)(e:ap d W)(m:l.length=n)(i:a.ownsRow r 9 1 (ag (some ⟨g,0,none⟩) (n+1) c) (n+1) (l.map Value.string++ [af s]))(j:W.grownBy a v.ownBlock)(k:v.ownBlock=some g\/g=W.heap.size):tZ r f (ag (some ⟨g,0,none⟩) (n+1) c) (l++ [s]) a:=by
 refine(h.later e).grown ?_ j λb e=>?_
 ·rw[bq,m,fu];exact i
 ·obtain rfl:g=b:=by simpa [Value.ownBlock]using e
  exact k.imp id λo=>by omega
def Bo(a:List Int)(j:Nat):List aq:=gA::(a.take j).map λk=>⟨(Lib.itoa k).toArray⟩
theorem J7{k:Int}(a:m[j]?=some k):Bo m (j+1)=Bo m j++ [⟨(Lib.itoa k).toArray⟩]:=by
 unfold Bo;rw[dK,a];simp
theorem mr(a:j<=m.length):(Bo m j).length=j+1:=by
 unfold Bo;simp;omega
theorem FZ(a:m.length=n):Lib.join ((Bo m n).map (·.data.toList)) [32]=qN m:=by
 unfold Bo qN;rw[bG (by omega)];simp[Function.comp_def]
theorem wh(b:List UInt8)(m:Nat):(l:List (List UInt8))->(∀x∈l,x.length+b.length<=m)->(Lib.join l b).length<=l.length*m
 | [],_=>by simp[Lib.join_nil]
 | x::l,a=>by
  rw[Lib.join_cons];have key:∀l:List (List UInt8),(∀x∈l,x.length+b.length<=m)->(Lib.joinTail b l).length<=l.length*m:=by
   intro l
   induction l with
   | nil=>simp[Lib.joinTail]
   | cons g l ih=>
    intro a;have e:=ih λd c=>a d (by simp[c]);have f:=a g (by simp);unfold Lib.joinTail at e ⊢;simp only[bA,List.flatten_cons,bq,bu,Nat.add_mul];omega
  have e:=key l λd c=>a d (by simp[c]);have f:=a x (by simp);simp only[bq,bu,Nat.add_mul];omega
theorem xW(c:∀k∈m,dn k)(j:Nat):∀x∈(Bo m j).map (·.data.toList),x.length+([32]:List UInt8).length<=30:=λx e=>by
 obtain⟨s,a,rfl⟩:=cd.1 e;unfold Bo at a;rcases cq.1 a with rfl|a
 ·decide
 ·obtain⟨k,d,rfl⟩:=cd.1 a;have b:=c k (List.mem_of_mem_take d);have:=Lib.itoa_length_le k b.1 b.2;simp;omega
theorem BO(q N:Nat)(f:List Int)(n:Nat)(w:ah)(aQ:q<w.heap.size)(V:Hid (ai w q 0 (aE N)))(j:Hid (f.length=n))(a3:n<=100)(Q:Hid (∀k∈f,dn k))(aR:xA w.heap.size w)(O:Hid (∀W,ap w W->w.heap.size<W.heap.size->au 64 #[aE N] W λe w'=>∃a c,e=aw (ag a n c)/\Hid (ap W w'/\∀i k,f[i]?=some k->∃g,a=some ⟨g,0,none⟩/\W.heap.size<=g/\g<w'.heap.size/\ai w' g i (ae k)))):au 40 #[aE q] w λe w'=>e=aw (af ⟨(qN f).toArray⟩)/\ap w w':=by
 obtain⟨aS,hit,ar,ax,ay⟩:=bS lT;have A:=av (⟨hit,ar,ax,ay⟩:_/\_/\_/\_);clear hit ar ax ay;go_enter func40,ntmps40;go_upto_region 2 with fail;generalize M:World.alloc _ _=t;have m:Hid (ap w t/\w.heap.size<t.heap.size):=by
  rw[<-M];exact⟨aV _ _,by simp⟩
 have T:Hid (t.ownsRow w.heap.size 9 1 (ag (some ⟨w.heap.size,0,none⟩) 1 1) 1 [af gA]):=by
  rw[<-M];exact NJ _ (aA _) rfl
 have aH:ai t q 0 (aE N):=(m.out.1.cell (p:=⟨q,0,none⟩) aQ).trans V;clear M;go_wp2_with fail;refine(O.out t m.out.1 m.out.2).mono ?_;rintro e E ⟨a,c,rfl,v⟩;have x:=av (m.out.1.trans (v.out.1.mono m.out.1.size));have P:=av v.out.2;have G:Hid (tZ w.heap.size E (ag (some ⟨w.heap.size,0,none⟩) 1 1) (Bo f 0) E):=⟨dU T v.out.1,λb aN=>ak (by simpa [Value.ownBlock]using aN.symm),bH.refl _ _,x.out.size⟩;have X:=av m.out.2;clear O v m T aH V;obtain⟨o,L⟩:∃o,w.heap.size=o:=⟨_,rfl⟩;have z:=av L;rw[L]at G X ⊢;clear L;go_wp2_with fail;go_loopw [3,5,13] (λaB _ i wr=>∃(d g C:Nat),d<=n/\i=ae d/\aB=ag (some ⟨g,0,none⟩) (d+1) C/\Hid (tZ o E aB (Bo f d) wr)) (λ_ _ i _=>n-(intOf i).toNat)
 case atStart=>exact⟨0,o,1,aM _,rfl,rfl,G.out⟩
 case round=>
 clear G;obtain⟨d,g,C,a2,rfl,rfl,h⟩:=hrel;by_cases aO:d<n
 ·obtain⟨k,D⟩:∃k,f[d]?=some k:=⟨_,aU (by rw[j.out];exact aO)⟩;obtain⟨aK,rfl,aL,aa,ab⟩:=P.out d k D;have a4:(0:Int)<=(d:Int):=by omega
  have a5:(d:Int)<(n:Int):=by omega
  have aI:ai wr aK d (ae k):=(h.out.2.2.1.cell d aa (by have:=X.out;omega)).trans ab;have J:=Q.out k (aT D);have R:=av (jT k J.1 J.2 w.heap.size wr (aR.on (h.out.below x z)));have aG:=av D;clear D J aL aa ab;go_wp2_with fail;refine R.mono ?_;rintro e u ⟨rfl,r⟩;have y:=av r;have U:Hid (u.ownsRow o 9 1 (ag (some ⟨g,0,none⟩) (d+1) C) (d+1) ((Bo f d).map Value.string)):=by
   have:=(h.out.later r).1;rw[mr (by rw[j.out];omega)]at this;exact this
  have S:=av (J7 aG.out);obtain⟨B,ad⟩:∃B:aq,⟨(Lib.itoa k).toArray⟩=B:=⟨_,rfl⟩;rw[ad]at S ⊢;clear r R aI ad;go_wp2_with (at_builtin;refine wpList_append_lies _ rfl _ _ 23 rfl o 9 aS _ 1 16 underlying23 A.1 A.2.1 A.2.2.1 A.2.2.2 rfl (by decide) _ (d+1) _ rfl (U.out.alloc _) ⟨u.heap.size,0,none⟩ 1 1 [af B] rfl rfl (lZ u B) (by intro a6 az;simp at az;subst az;rfl) (by decide) (by unfold maxLen;omega) (by omega) (by have I:=y.out.size;have a0:=(h.out.below x z).size;have a1:=z.out;simp;omega) (u.heap.size+1) (by simp) ?_;intro Z Y aW ao an aj aP);have aD:Hid (tZ o E (ag (some ⟨Z,0,none⟩) (d+1+1) Y) (Bo f (d+1)) aW):=by
   have:=h.out.more (y.out.trans (aV _ _ |>.mono y.out.size)) (mr (by rw[j.out];omega)) ao an (aj.imp id λaX=>by rw[fO];exact aX);rw[<-S.out]at this;exact this
  clear ao an aj aP U y h;go_wp2_with fail;go_roundw
  case rel=>exact⟨d+1,Z,Y,by omega,by go_num,rfl,aD.out⟩
  case measure=>simp[intOf];omega
 ·obtain rfl:d=n:=by omega
  have F:=av (h.out.below x z);obtain⟨aZ,aY,e,am,K,al⟩:=h.out.cells (by unfold Bo;simp);rw[mr (by rw[j.out];omega)]at e K;injection e with s _ aJ;injection s with s;injection s with s;subst s aJ
  have H:=av (Tryz.strings_Join g 0 C (Bo f d) ⟨#[32]⟩ wr al am (by rw[mr (by rw[j.out];omega)];omega) (by rw[mr (by rw[j.out];omega)];exact K) (by
   have I:=wh [32] 30 ((Bo f d).map (·.data.toList)) (xW Q.out d);rw[cE,mr (by rw[j.out];omega)]at I
   exact aF I (by omega)))
  rw[mr (by rw[j.out];omega)]at H;clear am K al P h;go_wp2_with fail;refine H.mono ?_;rintro e u ⟨rfl,r⟩;have aC:=av (F.out.trans (r.mono F.out.size));clear r H F;go_wp2_with fail
  go_ret
  exact⟨congrArg (λl=>Ending.returned (af ⟨List.toArray l⟩)) (FZ j.out),aC⟩
def Bf(nm S:aq)(T:Nat->aq)(j:Nat):List aq:=nm::S::(List.range j).map T
theorem ot(nm S:aq)(T:Nat->aq)(j:Nat):(Bf nm S T j).length=j+2:=by simp[Bf]
theorem LX(nm S:aq)(T:Nat->aq)(j:Nat):Bf nm S T (j+1)=Bf nm S T j++ [T j]:=by simp[Bf,List.range_succ]
theorem zh{nm S:aq}{T:Nat->aq}(g:nm.size<=8)(c:S.size<=60000000)(d:∀i,i<j->(T i).size<=60000000):(Lib.join ((Bf nm S T j).map (·.data.toList)) [32]).length<=(j+2)*60000001:=by
 have:=wh [32] 60000001 ((Bf nm S T j).map (·.data.toList)) λl f=>by
  obtain⟨b,a,rfl⟩:=cd.1 f;have h:=Lib.size_eq b;have k:b.size<=60000000:=by
   unfold Bf at a;rcases cq.1 a with rfl|a
   ·omega
   ·rcases cq.1 a with rfl|a
    ·exact c
    ·obtain⟨i,e,rfl⟩:=cd.1 a;exact d i (List.mem_range.1 e)
  simp only[bu,eV];omega
 rw[cE,ot]at this;exact this
theorem Dz(w:ah)(a b:aq)(c:r<=w.heap.size):(w.alloc (.cells #[af a,af b] 9)).ownsRow r 9 1 (ag (some ⟨w.heap.size,0,none⟩) 2 2) 2 [af a,af b]:=
 ⟨rfl,.inr ⟨w.heap.size,2, #[af a,af b],rfl,c,aK w _,aA _,by unfold maxLen;omega,rfl,rfl⟩⟩
theorem vR(q a0:Nat)(a E:Int)(nm S:aq)(d:Nat)(T:Nat->aq)(w:ah)(aA:Int->Int->aq->ay->Nat->Nat->bF)(az:ay->bF)(ao:Hid (ai w q 0 (aE a0)))(bv:d<=1000)(aH:nm.size<=8)(aI:S.size<=60000000)(be:Hid (∀i,i<d->(T i).size<=60000000))(an:Hid (au 61 #[aE a0,ae a] w λe w'=>∃y0 y1 y2 ya yl yc ma aZ,e=aw (ax #[af nm,.agg #[ae y0,ae y1,af y2,ag ya yl yc],ag ma d aZ,ae E])/\Hid (ap w w'/\(E=0->aA y0 y1 y2 ya yl yc w'/\az ma w'))))(N:Hid (∀y0 y1 y2 ya yl yc W h,aA y0 y1 y2 ya yl yc W->ap W h->au 62 #[.agg #[ae y0,ae y1,af y2,ag ya yl yc]] h λe w'=>e=aw (af S)/\ap h w'))(C:Hid (∀ma j W h,j<d->az ma W->ap W h->∃g o y0 y1 y2 ya yl yc,ma=some ⟨g,o,none⟩/\(ai h g (o+j*4) (ae y0)/\ai h g (o+j*4+1) (ae y1)/\ai h g (o+j*4+2) (af y2)/\ai h g (o+j*4+3) (ag ya yl yc))/\Hid (∀P,ap h P->au 62 #[.agg #[ae y0,ae y1,af y2,ag ya yl yc]] P λe w'=>e=aw (af (T j))/\ap P w'))):au 39 #[aE q,ae a] w λe w'=>e=aw (ax #[af ⟨(if E=0 then Lib.join ((Bf nm S T d).map (·.data.toList)) [32]else []).toArray⟩,ae E])/\ap w w':=by
 obtain⟨bm,hit,aT,aU,aW⟩:=bS lT;have D:=av (⟨hit,aT,aU,aW⟩:_/\_/\_/\_);clear hit aT aU aW;obtain⟨aB,s⟩:∃aB:aq,⟨(if E=0 then Lib.join ((Bf nm S T d).map (·.data.toList)) [32]else []).toArray⟩=aB:=⟨_,rfl⟩;rw[s];have bf:=ao.out;go_enter func39,ntmps39;go_wp2_with fail;refine an.out.mono ?_;rintro e k ⟨y0,y1,y2,ya,yl,yc,ma,aZ,rfl,J⟩;have u:=av J.out.1;have B:=av J.out.2;clear an J bf ao;go_upto_region 2 with fail;generalize Y:World.alloc _ _=m;have p:Hid (ap k m):=by
  rw[<-Y];exact aV _ _
 have c:m.heap[k.heap.size]?=some (.cells #[ae y0,ae y1,af y2,ag ya yl yc] 54):=by
  rw[<-Y];exact aK _ _
 clear Y;by_cases R:E=0;rotate_left
 ·have bt:(E !=0)=true:=by simpa using R
  rw[if_neg R]at s;subst s;have v:=av (u.out.trans (p.out.mono u.out.size));clear N C B c u p;go_wp2_with fail
  go_ret2
  exact⟨rfl,v⟩
 subst R;rw[if_pos rfl]at s;have ar:=av (N.out _ _ _ _ _ _ k m (B.out rfl).1 p);have bb:=av (B.out rfl).2;clear N B;obtain⟨f,t⟩:∃f,k.heap.size=f:=⟨_,rfl⟩;have M:=av t;rw[t]at c;have d0:ai m f 0 (ae y0):=aj c 0;have d1:ai m f 1 (ae y1):=aj c 1;have d2:ai m f 2 (af y2):=aj c 2;have d3:ai m f 3 (ag ya yl yc):=aj c 3;have bc:=av s;rw[t];clear c t s;go_wp2_with fail;refine ar.out.mono ?_;rintro e H ⟨rfl,aN⟩;have r:=av (p.out.trans (aN.mono p.out.size));clear aN ar p d0 d1 d2 d3;go_upto_region 5 with fail;generalize aY:World.alloc _ _=a2;have ad:Hid (tZ f k (ag (some ⟨H.heap.size,0,none⟩) 2 2) (Bf nm S T 0) a2):=by
  have bj:=r.out.size;have t:=M.out;rw[<-aY];refine⟨Dz H nm S (by omega),λb U=>am ?_,⟨r.os,r.tape,r.output,?_,λb U _=>(fx H _ (by omega)).trans (r.out.block b U)⟩,cR t.symm⟩
  ·simp[Value.ownBlock]at U;omega
  ·simp;omega
 clear aY r;generalize H.heap.size=bi at*;go_wp2_with fail;go_loopw [10,12,33] (λa1 _ i wr=>∃(j g G:Nat),j<=d/\i=ae j/\a1=ag (some ⟨g,0,none⟩) (j+2) G/\Hid (tZ f k a1 (Bf nm S T j) wr)) (λ_ _ i _=>d-(intOf i).toNat)
 case atStart=>exact⟨0,bi,2,aM _,rfl,rfl,ad.out⟩
 case round=>
 clear ad;obtain⟨j,g,G,bu,rfl,rfl,x⟩:=hrel;have O:Hid (ap k wr):=x.out.below (aG _ _) M;by_cases bk:j<d
 ·obtain⟨bs,bz,a3,a4,a5,a6,a8,a7,rfl,⟨bg,l,bh,Q⟩,aa⟩:=C.out _ j k wr bk bb O;have bw:(0:Int)<=(j:Int):=by omega
  have bx:(j:Int)<(d:Int):=by omega
  clear C;go_upto_region 8 with fail;generalize Z:World.alloc _ _=n;have z:Hid (ap wr n):=by
   rw[<-Z];exact aV _ _
  have c:n.heap[wr.heap.size]?=some (.cells #[ae a3,ae a4,af a5,ag a6 a8 a7] 54):=by
   rw[<-Z];exact aK _ _
  have ab:=av (aa.out n z);have K:=av (x.out.later z);have bd:=av (aF O.out.size z.out.size);clear Z aa bg l bh Q x z;generalize wr.heap.size=y at*;have d0:ai n y 0 (ae a3):=aj c 0;have d1:ai n y 1 (ae a4):=aj c 1;have d2:ai n y 2 (af a5):=aj c 2;have d3:ai n y 3 (ag a6 a8 a7):=aj c 3;clear c;go_wp2_with fail;refine ab.out.mono ?_;rintro e I ⟨rfl,V⟩;have A:=av V;have al:Hid (I.ownsRow f 9 1 (ag (some ⟨g,0,none⟩) (j+2) G) (j+2) ((Bf nm S T j).map Value.string)):=by
   have:=(K.out.later V).1;rw[ot]at this;exact this
  obtain⟨F,aJ⟩:∃F,T j=F:=⟨_,rfl⟩;have ak:=av (LX nm S T j);rw[aJ]at ak ⊢;clear V ab d0 d1 d2 d3 aJ;go_wp2_with (at_builtin;refine wpList_append_lies _ rfl _ _ 23 rfl f 9 bm _ 1 16 underlying23 D.1 D.2.1 D.2.2.1 D.2.2.2 rfl (by decide) _ (j+2) _ rfl (al.out.alloc _) ⟨I.heap.size,0,none⟩ 1 1 [af F] rfl rfl (lZ I F) (by intro y aX;simp at aX;subst aX;rfl) (by decide) (by unfold maxLen;omega) (by omega) (by have aH:=A.out.size;have aI:=bd.out;have bj:=M.out;simp;omega) (I.heap.size+1) (by simp) ?_;intro aD aC bo aS aR aL bl);have ba:Hid (tZ f k (ag (some ⟨aD,0,none⟩) (j+2+1) aC) (Bf nm S T (j+1)) bo):=by
   have:=K.out.more (A.out.trans (aV _ _ |>.mono A.out.size)) (ot nm S T j) aS aR (aL.imp id λbp=>by rw[fO];exact bp);rw[<-ak.out]at this;exact this
  clear aS aR aL bl al A K;go_wp2_with fail;go_roundw
  case rel=>exact⟨j+1,aD,aC,by omega,by go_num,rfl,ba.out⟩
  case measure=>simp[intOf];omega
 ·obtain rfl:j=d:=by omega
  have v:=av (u.out.trans (O.out.mono u.out.size));obtain⟨br,bq,e,aQ,X,aP⟩:=x.out.cells (by unfold Bf;simp);rw[ot]at e X;injection e with l _ Q;injection l with l;injection l with l;subst l Q;have L:=av (Tryz.strings_Join g 0 G (Bf nm S T j) ⟨#[32]⟩ wr aP aQ (by rw[ot];omega) (by rw[ot];exact X) (aF (zh aH aI be.out) (by omega)));rw[ot]at L;clear aQ X aP C x;go_wp2_with fail;refine L.out.mono ?_;rintro e a2 ⟨rfl,aO⟩;have a9:=av (v.out.trans (aO.mono v.out.size));clear aO L v;go_wp2_with fail
  go_ret2
  exact⟨congrArg (λbn=>Ending.returned (ax #[af bn,ae 0])) bc.out,a9⟩
theorem Ao(a:Nat)(b:ay)(L c:Nat)(w:ah)(d:ai w a 6 (ag b L c)):au 57 #[aE a] w λe w'=>e=aw (ae L)/\w'=w:=by
 go_enter func57,ntmps57;go_wp2_with fail
 go_ret
 exact⟨rfl,rfl⟩
theorem xd(a t:aq)(n:Nat)(w:ah)(R:Nat->bF)(j:Hid (¬65536<a.size->au 21 #[af a,af ⟨#[10]⟩] w λe w'=>e=aw (af t)/\w'=w))(i:Hid (au 20 #[af t,af ⟨#[10]⟩] w λe w'=>∃g,e=aw (ag (some ⟨g,0,none⟩) n n)/\Hid (ap w w'/\R g w'))):au 9 #[af a] w λe w'=>((65536<a.size\/200<n)/\e=aw (ax #[ag none 0 0,ae 2])/\ap w w')\/(¬(65536<a.size\/200<n)/\∃g,e=aw (ax #[ag (some ⟨g,0,none⟩) n n,ae 0])/\Hid (ap w w'/\R g w')):=by
 obtain⟨b,l⟩:∃b:Prop,(65536<a.size\/200<n)=b:=⟨_,rfl⟩;rw[l];have c:=av l;clear l;go_enter func9,ntmps9;by_cases f:65536<a.size
 ·have o:(65536:Int)<a.size:=by omega
  have d:Hid b:=by
   show b;rw[<-c.out];exact ak f
  clear j i c f;go_wp2_with fail
  go_ret2
  exact ak ⟨d.out,rfl,aG _ _⟩
 ·have o:¬(65536:Int)<a.size:=by omega
  have m:=av (j.out f);clear j;go_wp2_with fail;refine m.out.mono ?_;rintro e q ⟨rfl,rfl⟩;go_wp2_with fail;refine i.out.mono ?_;rintro e r ⟨g,rfl,h⟩;clear m i;by_cases k:200<n
  ·have p:(200:Int)<n:=by omega
   have d:Hid b:=by
    show b;rw[<-c.out];exact am k
   have HB:=av h.out.1;clear c f k h;go_wp2_with fail
   go_ret2
   exact ak ⟨d.out,rfl,HB⟩
  ·have p:¬(200:Int)<n:=by omega
   have d:Hid (¬b):=by
    show¬b;rw[<-c.out];omega
   clear c f k;go_wp2_with fail
   go_ret2
   exact am ⟨d.out,g,rfl,h⟩
theorem yk(X:aq)(n:Nat)(C:Prop)(d H:Nat->aq)(R o:aq)(w:ah)(S:Nat->bF)(a N O:Nat->Nat->Nat->bF)(F:bF)(am:n<=1000000000)(ak:o.size<=100)(D:Hid (au 9 #[af X] w λe w'=>(C/\e=aw (ax #[ag none 0 0,ae 2])/\ap w w')\/(¬C/\∃g,e=aw (ax #[ag (some ⟨g,0,none⟩) n n,ae 0])/\Hid (ap w w'/\S g w'))))(f:Hid (C->∀W,ap w W->au 10 #[ae 2] W λe w'=>e=aw (af o)/\Hid (o++ ⟨#[10]⟩=R/\F w')))(s:Hid (¬C->∀g W,ap w W->S g W->a g W.heap.size 0 ((W.alloc (.cells #[.pointer none] 34)).alloc (.cells #[.pointer none,ag none 0 0] 38))))(k:Hid (∀g q j W,j<n->a g q j W->ai W g j (af (d j))))(l:Hid (∀g q j W,j<n->a g q j W->mi (d j)=false->a g q (j+1) W))(i:Hid (∀g q j W,j<n->a g q j W->mi (d j)=true->au 13 #[aE q,af (d j)] W λe w'=>e=aw (af (H j))/\Hid (N g q j w')))(m:Hid (∀g q j W,j<n->N g q j W->au 12 #[.pointer (some ⟨q+1,0,none⟩),af (H j)] W λe w'=>∃v,e=aw v/\Hid (O g q j w')))(HB:Hid (∀g q j W,j<n->O g q j W->au 14 #[.pointer (some ⟨q+1,0,none⟩),.int .u8 10] W λe w'=>∃v,e=aw v/\Hid (a g q (j+1) w')))(z:Hid (¬C->∀g q W,a g q n W->au 15 #[.pointer (some ⟨q+1,0,none⟩)] W λe w'=>e=aw (af R)/\Hid (F w'))):au 5 #[af X] w λe w'=>e=aw (af R)/\Hid (F w'):=by
 go_enter func5,ntmps5;go_wp2_with fail;refine D.out.mono ?_;rintro e r (⟨p,rfl,U⟩|⟨p,g,rfl,t⟩)
 ·have K:=av (f.out p r U);have ar:¬9223372036854775807<o.size+1:=by omega
  clear D f s k l i m HB z U;go_wp2_with fail;refine K.out.mono ?_;rintro e Y ⟨rfl,u⟩;have b:=av u.out.1;have aa:=av u.out.2;clear u K;go_wp2_with fail
  go_ret
  exact⟨congrArg (λaj=>Ending.returned (af aj)) b.out,aa⟩
 ·have L:=av (s.out p g r t.out.1 t.out.2);have A:=av (z.out p g);clear D f s z t;go_upto_region 6 with fail;generalize V:World.alloc _ _=Y;have M:Hid (a g r.heap.size 0 Y):=by
   rw[<-V];exact L.out
  clear V L;generalize r.heap.size=q at*;go_wp2_with fail;go_loopw [8,21] (λ_ G wr=>∃(j:Nat),j<=n/\G=ae j/\Hid (a g q j wr)) (λ_ G _=>n-(intOf G).toNat)
  case atStart=>exact⟨0,aM _,rfl,M.out⟩
  case round=>
  clear M;obtain⟨j,al,rfl,b⟩:=hrel;by_cases h:j<n
  ·have T:=k.out g q j wr h b;have an:(0:Int)<=(j:Int):=by omega
   have ao:(j:Int)<(n:Int):=by omega
   have B:=av (l.out g q j wr h b);have x:=av (i.out g q j wr h b);have E:=av (λW=>m.out g q j W h);have y:=av (λW=>HB.out g q j W h);have c:=av (Pg (d j) wr);clear k l i m HB A b;cases hon:mi (d j)
   ·have f:=av (B.out hon);rw[hon]at c;clear B x E y hon;go_wp2_with fail;refine c.out.mono ?_;rintro e Z ⟨rfl,rfl⟩;clear c T;go_wp2_with fail;go_roundw
    case rel=>exact⟨j+1,by omega,by go_num,f.out⟩
    case measure=>simp[intOf];omega
   ·have I:=av (x.out hon);rw[hon]at c;clear B x hon;go_wp2_with fail;refine c.out.mono ?_;rintro e Z ⟨rfl,rfl⟩;clear c T;go_wp2_with fail;refine I.out.mono ?_;rintro e aA ⟨rfl,P⟩;clear I;go_wp2_with fail;refine(E.out _ P).mono ?_;rintro e aB ⟨ay,rfl,Q⟩;clear E P;go_wp2_with fail;refine(y.out _ Q).mono ?_;rintro e aC ⟨az,rfl,ad⟩;clear y Q;go_wp2_with fail;go_roundw
    case rel=>exact⟨j+1,by omega,by go_num,ad.out⟩
    case measure=>simp[intOf];omega
  ·obtain rfl:j=n:=by omega
   have J:=av (A.out q wr b);clear k l i m HB A b;go_wp2_with fail;refine J.out.mono ?_;rintro e Z ⟨rfl,ab⟩;clear J;go_wp2_with fail
   go_ret
   exact⟨rfl,ab⟩
end Go.Proofs.YthjclakhibnamaaGreatDoor
