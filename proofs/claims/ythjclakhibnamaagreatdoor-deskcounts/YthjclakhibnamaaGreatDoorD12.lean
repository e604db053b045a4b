/- Proved here: plain facts and contracts. No condition but what each names. -/
import Derived.Test.YthjclakhibnamaaGreatDoorD11
import Derived.Lib.Split
import Derived.Lib.Join
import Derived.Lib.Strings
namespace Go.Proofs.YthjclakhibnamaaGreatDoor
open Go.RowKit Go.Proofs.Tryz
open Go.RowKit Go.Maps
set_option maxHeartbeats 2000000
set_option maxRecDepth 100000
theorem vY{a:Nd}(b:cJ a=true):a.1.2.2.size<=8:=by
 have d:∀c:aq,c.toList.isEmpty=true->c.size<=8:=λc b=>by
  rw[cC]at b;have e:c.data.toList.length=c.size:=by simp
  have f:c.data.toList=[]:=by simpa using b
  rw[f]at e;simp at e;omega
 simp only[cJ,aO]at b;obtain⟨b,_⟩:=b;split at b
 ·exact d _ (by simp at b;simpa using b.1)
 ·split at b
  ·simp only[eh,qW,aO,cT]at b;omega
  ·split at b
   ·exact d _ (by simp at b;simpa using b.1)
   ·split at b
    ·exact d _ (by simp at b;simpa using b.1.1)
    ·split at b
     ·exact d _ (by simp at b;simpa using b.1)
     ·split at b
      ·exact d _ (by simp at b;simpa using b.1)
      ·exact absurd b (by simp)
theorem xv:(n:Nat)->(x:Tm n)->(∀a∈aF n x,a.1.2.2.size<=8)->wt n x<=9*(aF n x).length
 | 0,_,_=>by simp[wt,aF]
 | n+1,x,b=>by
  have key:∀l:List (Tm n),(∀y∈l,∀a∈aF n y,a.1.2.2.size<=8)->(l.map λy=>wt n y).sum<=9*(l.flatMap λy=>aF n y).length:=by
   intro l
   induction l with
   | nil=>simp
   | cons y l ih=>
    intro b;have d:=xv n y (b y (by simp));have c:=ih (λh g=>b h (by simp[g]));simp only[bz,di,bK,bm];omega
  have d:=key x.2.2 (λy f a e=>b a (ns f e));have c:=b (x.1,(x.2.1.1,x.2.2.length,x.2.1.2)) (by simp[aF]);simp only[wt,aF,bt];simp only at c;omega
def QH:aq:=⟨#[32]⟩
def G3:aq:=⟨#[10]⟩
def OQ(s:aq)(r:Int×Tc):Prop:=
 (2048<s.size/\r=(2,tT))\/(s.size<=2048/\(∃b,B8 s.size (j0 s 0) 0=some b)/\r=(3,tT))\/
  (s.size<=2048/\B8 s.size (j0 s 0) 0=none/\∃(n:Nat)(a:Tm n),Is n a (j0 s 0) []/\r=(bJ n a,if bJ n a=0 then cn n a else tT))
theorem OQ.one{s:aq}{r f:Int×Tc}(g:OQ s r)(k:OQ s f):r=f:=by
 rcases g with⟨c,rfl⟩|⟨c,⟨o,b⟩,rfl⟩|⟨c,b,n,l,h,rfl⟩<;>rcases k with⟨e,rfl⟩|⟨e,⟨p,a⟩,rfl⟩|⟨e,a,j,m,i,rfl⟩
 all_goals first|rfl|omega|skip
 ·rw[b]at a;cases a
 ·rw[b]at a;cases a
 ·have d:=(Is.one n j l m _ _ _ h i).1;rw[Jf _ _ _ _ d,gA d]
noncomputable def rdT (s:aq):Int×Tc:= @Classical.epsilon (Int×Tc) ⟨(0,tT)⟩ (OQ s)
variable{u z room y0 y1:Int}{P:List (Bh 13)}{m:List Int}{A:List Tc}{l:List UInt8}{g p B a b c i j k n q r xc yc yl:Nat}{cs t x:Tc}{M S:aU}{f d W w:ah}{C name s y2:aq}{e:aq×Int×Int×Tc}{xa ya:aw}{v:ax}{y:Tm g}
theorem tI{r:Int×Tc}(a:OQ s r):rdT s=r:=OQ.one (Classical.epsilon_spec (p:=OQ s) ⟨r,a⟩) a
def oD(t:Tc):Option (List (Bh 13)):=match xE 12 13 t with
 | some l=>if lj 13 l=true then some l else none
 | none=>none
theorem vH(d:bJ 13 t=0)(a:oD t=some P):oI 12 P=0/\aH 18 (cW 12 P) 13 t=true:=by
 unfold oD at a;cases b:xE 12 13 t with
 | none=>rw[b]at a;cases a
 | some l=>
  rw[b]at a;simp only at a;split at a
  ·rename_i e;obtain rfl:=aG a;have c:=sI 12 13 (ay _) t (iY d) l b;exact⟨Md e ((bN c.1).trans d),c.1⟩
  ·cases a
theorem Kq{l:List (Bh (n+1))}(e:lj (n+1) l=true)(d:bJ 13 t=0)(a:aH 13 t (n+6) (cW n l)=true):∃P,oD t=some P:=by
 obtain⟨f,b,c,_⟩:=Fg 12 13 n (ay _) l e t (iY d) a;exact⟨f,by unfold oD;rw[b];simp only[c,cB]⟩
theorem Ig{M:Nat}(i:n<=M+1){x:Tm n}(a:bJ n x=0)(b:aH n x 13 t=true):sg M n x=if (oD t).isSome then 0 else 5:=by
 have h:bJ 13 t=0:=(bN b).symm.trans a;unfold sg;rw[if_pos a];cases e:oD t with
 | some d=>
  obtain⟨j,k⟩:=vH h e;obtain⟨c,l,m,_⟩:=Fg M n 12 i d (gO j).1 x (iY a) (bU _ _ _ _ _ _ b (dD _ _ _ _ k));rw[l];unfold vW;simp only[m,cB,lH]
 | none=>
  cases e2:xE M n x with
  | none=>rfl
  | some c=>
   unfold vW;by_cases f:lj (M+1) c=true
   ·obtain⟨d,g⟩:=Kq f h (dD _ _ _ _ (bU _ _ _ _ _ _ (sI M n i x (iY a) c e2).1 b));rw[e]at g;cases g
   ·simp[f]
abbrev qt:=Option (List (Bh 13)×Int×Sy)
def N7:List UInt8:=[111,107]
def vi(n:Nat)(x:Tm n):List UInt8:=if bJ n x=0 then fI n x else [45]
def gH(e:aq×Int×Int×Tc):List UInt8:=e.1.data.toList++ [32]++Lib.itoa e.2.1++ [32]++Lib.itoa e.2.2.1++ [32]++vi 13 e.2.2.2
def tn(l:List (aq×Int×Int×Tc)):List UInt8:=(l.map λe=>gH e++ [10]).flatten
def oF(P:List (Bh 13))(room:Int)(s:Sy)(d a b:Int)(t:Tc):qt×Int×List UInt8:=
 let c:=s.do 12 P room d a b 13 t
 (some (P,room,c.1),c.2,if c.2=0 then tn (c.1.evs.drop s.evs.length)++N7 else [])
def jG(P:List (Bh 13))(room:Int)(s:Sy)(l:List (Tm 12)):qt×Int×List UInt8:=match l with
 | [x,y]=>if x.1.1=2 then
     let r:=s.start 12 P room x.1.2.2 12 y
     (some (P,room,r.1),r.2,if r.2=0 then Lib.itoa (s.last+1)else [])
  else (some (P,room,s),5,[])
 | _=>(some (P,room,s),5,[])
def wY(nm:aq)(cs:Tc)(a:List Tc):List UInt8:=Lib.join (nm.data.toList::vi 13 cs::a.map (vi 13)) [32]
def qM(a:List Int):List UInt8:=Lib.join (gz.data.toList::a.map Lib.itoa) [32]
def mH(b:qt)(a:Int)(t:Tc):qt×Int×List UInt8:=match oD t with
 | some P=>(some (P,10*a,Qd),0,N7)
 | none=>(b,5,[])
def kR(c:qt)(wd:aq)(a b:Int)(t:Tc):qt×Int×List UInt8:=
 if wd=iH then mH c a t else match c with
 | none=>(none,4,[])
 | some (P,room,s)=>
  if wd=jI then jG P room s t.2.2
  else if wd=sP then oF P room s 1 a 0 tT
  else if wd=sO then oF P room s 2 a b tT
  else if wd=qG then oF P room s 3 a 0 t
  else if wd=oy then match s.get a with
   | none=>(some (P,room,s),4,[])
   | some (nm,cs,cms)=>(some (P,room,s),0,wY nm cs cms)
  else (some (P,room,s),0,qM ((s.ps.map (·.1)).mergeSort λd e:Int=>decide (d<=e)))
def kw(a:aq):aq:=⟨(Lib.cut a.data.toList QH.data.toList).1.toArray⟩
def qR(ps:bj)(i:Nat):Option Int:=vN (ps.getD (1+i) .empty)
def dp(c:aq)(a b:Nat):List aq:=Lib.splitB QH 0 (min (1+a+b) (c.size+1)-1) c
noncomputable def dkRead (line:aq):Int×aq×Int×Int×Tc:=match iC (kw line)with
 | none=>(3,.empty,0,0,tT)
 | some (a,b)=>
  let ps:=dp line a b
  if (ps.length=1+a+b/\ps.getD 0 .empty=kw line)/\∀i,i<a->(qR ps i).isSome=true then
   let r:=if b=0 then (0,tT)else rdT (ps.getD (1+a) .empty)
   (r.1,kw line,if 0<a then (qR ps 0).getD 0 else 0,if 1<a then (qR ps 1).getD 0 else 0,r.2)
  else (3,.empty,0,0,tT)
noncomputable def dkAns (σ:qt) (line:aq):qt×List UInt8:=
 let r:=dkRead line
 if r.1=0 then
  let q:=kR σ r.2.1 r.2.2.1 r.2.2.2.1 r.2.2.2.2
  (q.1,if q.2.1=0 then q.2.2 else iS q.2.1)
 else (σ,iS r.1)
noncomputable def dkStep (st:qt×List UInt8) (line:aq):qt×List UInt8:=if mh line=true then ((dkAns st.1 line).1,st.2++(dkAns st.1 line).2++ [10])else st
def ud(a:aq):aq:=⟨(Lib.trimSuffix a.data.toList G3.data.toList).toArray⟩
def gt(a:aq):List aq:=Lib.splitB G3 0 (Lib.countB (ud a) G3) (ud a)
noncomputable def dkRun (text:aq):List UInt8:=if 65536<text.size\/200<(gt text).length then iS 2++ [10]else ((gt text).foldl dkStep (none,[])).2
theorem BV:(l:bj)->(a:qt×List UInt8)->a.2.count 10+(l.filter mh).length<=(l.foldl dkStep a).2.count 10/\((l.foldl dkStep a).2=a.2\/∃r,(l.foldl dkStep a).2=r++ [10])
 | [],a=>⟨by simp,ak rfl⟩
 | x::l,a=>by
  obtain⟨c,b⟩:=BV l (dkStep a x);rw[gf];by_cases e:mh x=true
  ·have d:(dkStep a x).2=a.2++(dkAns a.1 x).2++ [10]:=by unfold dkStep;rw[if_pos e]
   rw[d]at c b;simp only[List.count_append,List.count_cons_self,List.count_nil,List.filter_cons,e,cB,bt]at c ⊢;refine⟨by omega,am ?_⟩;rcases b with b|b
   ·exact⟨_,b⟩
   ·exact b
  ·have d:dkStep a x=a:=by unfold dkStep;rw[if_neg e]
   rw[d]at c b ⊢;simp only[List.filter_cons,e];exact⟨by simpa using c,b⟩
theorem JN(d:Int)(s:aq)(a:aw)(n c:Nat)(B b:Nat)(l:List UInt8)(w:ah)(f:dm d)(k:Bu B b l w)(v:B<=w.heap.size)(p:xz B w)(y:l.length+24<=140737488355328):au 135 #[aC b,.agg #[ae 1,ae d,ag s,af a n c]] w λe w'=>e=.returned (.tuple #[])/\dC B b (l++Lib.itoa d) w w':=by
 have r:=av (Lib.itoa_length_le d f.1 f.2);have g:Hid (∀o,dC B b l w (w.alloc o)):=λo=>dC.old k (aT _ o) v;have t:=av p;have j:=av f;clear k p f;go_enter func135,ntmps135;go_wp2_with fail;refine(jS d j.out.1 j.out.2 B _ (t.out.on (g.out _).2.1)).mono ?_;rintro e x ⟨rfl,h⟩;have i:=av ((g.out _).trans (dC.old (g.out _).1 h (by simp;omega)));have u:Hid (B<=x.heap.size):=by have:=h.size;simp at this;simp only[Hid];omega
 clear h;go_wp2_with fail;refine(kD B b _ _ _ i.out.1 (by have:=r.out;simp[ByteArray.size];omega) u.out).mono ?_;rintro e z ⟨rfl,m⟩;have q:=av (i.out.trans m);clear m;go_wp2_with fail
 go_end0
 exact⟨rfl,by have:=q.out;simpa using this⟩
theorem FQ(k:Int)(s:aq)(a:aw)(n c:Nat)(B b:Nat)(l:List UInt8)(w:ah)(f:Bu B b l w)(i:B<=w.heap.size)(j:l.length+s.size<=140737488355328):au 135 #[aC b,.agg #[ae 2,ae k,ag s,af a n c]] w λe w'=>e=.returned (.tuple #[])/\dC B b (l++s.data.toList) w w':=by
 have d:Hid (∀o,dC B b l w (w.alloc o)):=λo=>dC.old f (aT _ o) i;clear f;go_enter func135,ntmps135;go_wp2_with fail;refine(kD B b _ _ _ (d.out _).1 j (by simp;omega)).mono ?_;rintro e m ⟨rfl,g⟩;have h:=av ((d.out _).trans g);clear g;go_wp2_with fail
 go_end0
 exact⟨rfl,h.out⟩
theorem FR(k:Int)(s:aq)(a:aw)(n c:Nat)(B b:Nat)(l:List UInt8)(w:ah)(f:Bu B b l w)(i:B<=w.heap.size)(j:l.length+1<=140737488355328):au 135 #[aC b,.agg #[ae 6,ae k,ag s,af a n c]] w λe w'=>e=.returned (.tuple #[])/\dC B b (l++ [95]) w w':=by
 have d:Hid (∀o,dC B b l w (w.alloc o)):=λo=>dC.old f (aT _ o) i;clear f;go_enter func135,ntmps135;go_wp2_with fail;refine(iI B b l _ 95 rfl _ (d.out _).1 j (by simp;omega)).mono ?_;rintro e m ⟨rfl,g⟩;have h:=av ((d.out _).trans g);clear g;go_wp2_with fail
 go_end0
 exact⟨rfl,h.out⟩
theorem FP(k r:Int)(s:aq)(a:aw)(n c:Nat)(B b:Nat)(l:List UInt8)(w:ah)(d:Bu B b l w)(q:B<=w.heap.size)(f:¬k=1)(g:¬k=2)(h:¬k=3)(i:¬k=4)(j:¬k=5)(m:¬k=6):au 135 #[aC b,.agg #[ae k,ae r,ag s,af a n c]] w λe w'=>e=.returned (.tuple #[])/\dC B b l w w':=by
 have p:Hid (∀o,dC B b l w (w.alloc o)):=λo=>dC.old d (aT _ o) q;have t:(k==1)=false:=by simpa using f
 have u:(k==2)=false:=by simpa using g
 have v:(k==3)=false:=by simpa using h
 have x:(k==4)=false:=by simpa using i
 have y:(k==5)=false:=by simpa using j
 have z:(k==6)=false:=by simpa using m
 clear d f g h i j m;go_enter func135,ntmps135;go_wp2_with fail
 go_end0
 exact⟨rfl,p.out _⟩
def tz(n:Nat)(p:List (Tm n))(k:Nat):List UInt8:=jn ((p.take k).map λy=>fI n y)
theorem Ir(n:Nat)(p:List (Tm n))(k:Nat)(x:Tm n)(d:p[k]?=some x):tz n p (k+1)=if k=0 then fI n x else tz n p k++32::fI n x:=by
 obtain⟨e,c⟩:=aZ.1 d;unfold tz;rw[lE e,c,ft,bz,dz,Nr];by_cases a:k=0
 ·subst a;simp
 ·rw[if_neg a,if_neg];intro b;have:=congrArg List.length b;rw[cD,dr,eU]at this;omega
theorem KW(n:Nat)(p:List (Tm n))(k:Nat)(a:∀y∈p,(fI n y).length+1<=24*wt n y):(tz n p k).length<=24*((p.take k).map λy=>wt n y).sum:=
 KX n (λy=>fI n y) (p.take k) (λy b=>a y (List.mem_of_mem_take b))
theorem GS(n:Nat)(p:List (Tm n))(k:Nat):((p.take k).map λy=>wt n y).sum<=(p.map λy=>wt n y).sum:=by
 conv=>rhs;rw[<-iL k p]
 rw[ft,nM];omega
theorem Bb(n:Nat)(p:List (Tm n))(k:Nat)(x:Tm n)(c:p[k]?=some x):((p.take k).map λy=>wt n y).sum+wt n x<=(p.map λy=>wt n y).sum:=by
 have a:=GS n p (k+1);obtain⟨d,b⟩:=aZ.1 c;rw[lE d,b]at a;simpa using a
theorem xu(n:Nat)(ih:FW n)(p:List (Tm n))(len:Nat)(P:Hid (p.length=len))(a:aw)(pc C B b:Nat)(l:List UInt8)(w:ah)(f:Hid (p=[]\/∃b o,a=some ⟨b,o,none⟩/\b<C/\∀(i:Nat)(y:Tm n),p[i]?=some y->ee w b (o+i*4) n y/\In C w n y))(ao:len<=9223372036854775807)(z:C<=B)(N:Bu B b l w)(O:B<=w.heap.size)(R:xz B w)(Q:l.length+24*(1+(p.map λy=>wt n y).sum)<=140737488355328):au 164 #[aC b,af a len pc] w λe w'=>e=.returned (.tuple #[])/\dC B b (l++(40::jn (p.map λy=>fI n y)++ [41])) w w':=by
 have L:Hid (∀k,(tz n p k).length<=24*((p.take k).map λy=>wt n y).sum):=λk=>KW n p k (λy I=>by
  rcases f.out with f|⟨aj,po,_,_,f⟩
  ·rw[f]at I;cases I
  ·obtain⟨i,Z⟩:=dh I
   exact tS n y C w (f i y Z).2)
 have G:=av Q;have W:=av N;have X:=av R;clear N R Q;go_enter func164,ntmps164;go_wp2_with fail;refine(iI B b l _ 40 rfl _ W.out (by have:=G.out;omega) O).mono ?_;rintro e m ⟨rfl,h⟩;have T:=av h;clear h;go_wp2_with fail;go_loopw [10] (λi wr=>∃k:Nat,k<=len/\i=ae k/\Hid (dC B b (l++40::tz n p k) w wr)) (λi _=>len-(intOf i).toNat)
 case atStart=>exact⟨0,by omega,rfl,by have:=T.out;simpa [Hid,tz,jn]using this⟩
 case round=>
  obtain⟨k,al,rfl,g⟩:=hrel;have x:Hid (B<=wr.heap.size):=aD O g.out.2.1.size;by_cases ab:k<len
  ·obtain⟨c,t⟩:∃c,p[k]?=some c:=⟨p[k]'(by rw[P.out];exact ab),aS _⟩;have M:=av (Ir n p k c t);have H:Hid ((l++40::tz n p k).length+1+24*wt n c<=140737488355328):=by
    have h:=Bb n p k c t;have j:=L.out k;have d:=G.out;simp only[Hid,bm,bt];omega
   rcases f.out with f|⟨aj,po,rfl,ad,f⟩
   ·subst f;simp at t
   obtain⟨D,E⟩:=f k c t;replace D:=D.below (g.out.2.1.mono z) ad;replace E:=E.below (g.out.2.1.mono z);clear f t;cases n with
   | zero=>exact D.elim
   | succ n=>
   obtain⟨aq,ar,ax,ay⟩:=D
   have K:Hid (∀(u:List UInt8)(m:ah),Below B wr m->Bu B b u m->u.length+24*wt (n+1) c<=140737488355328->au 135 #[aC b,.agg (bf c)] m λe w'=>e=.returned (.tuple #[])/\dC B b (u++fI (n+1) c) m w'):=
    λu m h j d=>ih c C B b u m (E.below (h.mono z)) z j (aD x.out h.size) (X.out.on (g.out.2.1.trans h)) d
   have V:=av g.out.1.lt;clear ih E;generalize c.2.2.length=ak at*;generalize fI (n+1) c=ap at*;have q:Hid (∀o,dC B b (l++40::tz (n+1) p k) wr (wr.alloc o)):=λo=>dC.old g.out.1 (aT _ o) x.out;have am:(0:Int)<=(k:Int):=by omega
   have an:(k:Int)<(len:Int):=by omega
   by_cases A:k=0
   ·have v:=av A;have aa:¬(0:Int)<(k:Int):=by omega
    clear A;go_wp2_with fail;refine(K.out (l++40::tz (n+1) p k) _ (q.out _).2.1 (q.out _).1 (by have:=H.out;omega)).mono ?_;rintro e S ⟨rfl,d⟩;have r:=av ((g.out.trans (q.out _)).trans d);clear d;go_wp2_with fail;go_roundw
    case rel=>
     refine⟨k+1,by omega,by go_num,av ?_⟩;have:=r.out;rw[M.out,if_pos v.out];have Y:tz (n+1) p k=[]:=by rw[v.out];rfl
     rw[Y]at this;simpa using this
    case measure=>simp[intOf];omega
   ·have v:=av A;have aa:(0:Int)<(k:Int):=by omega
    clear A;go_wp2_with fail;refine(iI B b _ _ 32 rfl _ (q.out _).1 (by have:=H.out;omega) (by have:=x.out;simp;omega)).mono ?_;rintro e F ⟨rfl,j⟩;have J:=av ((g.out.trans (q.out _)).trans j);have U:=av ((q.out _).2.1.trans j.2.1);have s:=yv j.2.2 (GR wr _ 54) (by have:=V.out;omega) (by decide);have y0:ai F wr.heap.size 0 (ae c.1.1):=by rw[fm s];rfl
    have y1:ai F wr.heap.size 1 (ae c.1.2.1):=by rw[fm s];rfl
    have y2:ai F wr.heap.size 2 (ag c.1.2.2):=by rw[fm s];rfl
    have az:ai F wr.heap.size 3 (af c.2.1.1 ak c.2.1.2):=by rw[fm s];rfl
    clear j s;go_wp2_with fail;refine(K.out _ _ U.out J.out.1 (by have:=H.out;simp at this ⊢;omega)).mono ?_;rintro e S ⟨rfl,d⟩;have r:=av (J.out.trans d);clear d;go_wp2_with fail;go_roundw
    case rel=>
     refine⟨k+1,by omega,by go_num,av ?_⟩;have:=r.out;rw[M.out,if_neg v.out];simpa using this
    case measure=>simp[intOf];omega
  ·go_wp2_with fail;refine(iI B b _ _ 41 rfl _ g.out.1 (by have h:=G.out;have j:=L.out k;have d:=GS n p k;simp;omega) x.out).mono ?_;rintro e S ⟨rfl,d⟩;have r:=av (g.out.trans d);clear d;go_wp2_with fail
   go_end0
   refine⟨rfl,?_⟩;have e:tz n p k=jn (p.map λy=>fI n y):=by unfold tz;rw[bF (by rw[P.out];omega)]
   have:=r.out;rw[e]at this;simpa using this
theorem JO(j:Int)(s:aq)(a:aw)(n c:Nat)(B b:Nat)(l t:List UInt8)(w:ah)(f:Bu B b l w)(i:B<=w.heap.size)(H:Hid (∀w1,ap w w1->Bu B b l w1->au 164 #[aC b,af a n c] w1 λe w'=>e=.returned (.tuple #[])/\dC B b (l++t) w1 w')):au 135 #[aC b,.agg #[ae 4,ae j,ag s,af a n c]] w λe w'=>e=.returned (.tuple #[])/\dC B b (l++t) w w':=by
 have d:Hid (∀o,dC B b l w (w.alloc o)):=λo=>dC.old f (aT _ o) i;clear f;go_enter func135,ntmps135;go_wp2_with fail;refine(H.out _ (aT _ _) (d.out _).1).mono ?_;rintro e k ⟨rfl,g⟩;have h:=av ((d.out _).trans g);clear g;go_wp2_with fail
 go_end0
 exact⟨rfl,h.out⟩
theorem JM(n:Nat):FW n:=by
 induction n with
 | zero=>intro F A f b l h r;exact r.elim
 | succ n ih=>
  intro F A f b l h r t i d o H;obtain⟨⟨k,c,e⟩,⟨g,pc⟩,a⟩:=F;have O:=r;obtain⟨⟨_,p,J,I,C⟩,j⟩:=r;simp only at p J I C j;unfold maxLen at C;have K:wt (n+1) ((k,c,e),(g,pc),a)=1+e.size+(a.map λm=>wt n m).sum:=rfl;rw[K]at H
  show au 135 #[aC b,.agg #[ae k,ae c,ag e,af g a.length pc]] h λs M=>s=.returned (.tuple #[])/\dC f b (l++(if k=1 then Lib.itoa c else if k=2 then e.data.toList else if k=3 then 35::Lib.itoa c
   else if k=4 then 40::jn (a.map λm=>fI n m)++ [41]else if k=5 then 36::Lib.itoa c else if k=6 then [95]else [])) h M
  by_cases u:k=1
  ·subst u;exact JN c e g a.length pc f b l h p i d o (by omega)
  rw[if_neg u];by_cases v:k=2
  ·subst v;exact FQ c e g a.length pc f b l h i d (by omega)
  rw[if_neg v];by_cases w:k=3
  ·subst w;exact zC 3 c e g a.length pc f b l h p i d o (by omega) 35 (ak ⟨rfl,rfl⟩)
  rw[if_neg w];by_cases x:k=4
  ·subst x;refine JO c e g a.length pc f b l _ h i d (λN q G=>xu n ih a a.length rfl g pc A f b l N ?_ (by omega) t G (aD d q.size) (o.on (q.mono d)) (by omega));rcases j with j|⟨L,po,s,B,j⟩
   ·exact ak j
   ·exact am ⟨L,po,s,B,λE m D=>⟨(j E m D).1.below (q.mono (aD t d)) B,(j E m D).2.below (q.mono (aD t d))⟩⟩
  rw[if_neg x];by_cases y:k=5
  ·subst y;exact zC 5 c e g a.length pc f b l h p i d o (by omega) 36 (am ⟨rfl,rfl⟩)
  rw[if_neg y];by_cases z:k=6
  ·subst z;exact FR c e g a.length pc f b l h i d (by omega)
  rw[if_neg z,eD];exact FP k c e g a.length pc f b l h i d u v w x y z
theorem xz.mono{B a:Nat}{w:ah}(b:xz B w)(c:B<=a):xz a w:=λw' d=>b w' (d.mono c)
theorem Fb(w:ah)(k m:Int)(s:aq)(a:aw)(l c:Nat)(g:Int)(t j:List UInt8)(q:Hid ((if g=0 then t else [])=j))(y:Hid (∀w1,ap w w1->au 53 #[.agg #[ae k,ae m,ag s,af a l c]] w1 λe w'=>e=.returned (ae g)/\ap w1 w'))(A:Hid (∀w1 b,ap w w1->w.heap.size<=b->Bu b b [] w1->b<=w1.heap.size->au 135 #[aC b,.agg #[ae k,ae m,ag s,af a l c]] w1 λe w'=>e=.returned (.tuple #[])/\dC b b t w1 w')):au 95 #[.agg #[ae k,ae m,ag s,af a l c]] w λe w'=>e=.returned (.tuple #[ag ⟨j.toArray⟩,ae g])/\ap w w':=by
 go_enter func95,ntmps95;go_wp2_with fail;refine(y.out _ (aT _ _)).mono ?_;rintro e w1 ⟨rfl,i⟩;have d:Hid (ap w w1/\w.heap.size+1<=w1.heap.size):=⟨(aT _ _).trans (i.mono (by simp)),by have:=i.size;simpa using this⟩;have f:=az i;simp only[fN]at f;have D:=(f w.heap.size 0 (by omega)).trans (by simp[go_sem]:_=some (Value.int .i64 k));have E:=(f w.heap.size 1 (by omega)).trans (by simp[go_sem]:_=some (Value.int .i64 m));have F:=(f w.heap.size 2 (by omega)).trans (by simp[go_sem]:_=some (Value.string s));have G:=(f w.heap.size 3 (by omega)).trans (by simp[go_sem]:_=some (Value.slice a l c));clear f i;by_cases h:g=0
 ·subst h;have I:w.heap.size<w1.heap.size:=by have:=d.out.2;omega
  have z:Hid (Bu w1.heap.size w1.heap.size [] (w1.alloc (.cells #[.pointer none,af none 0 0] 38))):=Lib.IsBuilderF.of (Lib.fresh_isBuilder 38 5 w1);go_wp2_with fail;refine(A.out _ w1.heap.size (d.out.1.alloc d.out.1.size _) (by omega) z.out (by simp)).mono ?_;rintro e p ⟨rfl,u⟩;have n:=av u;clear u;have r:Hid (w1.heap.size<=p.heap.size/\ap w p):=by
   have B:=n.out.2.1.size;simp at B;refine⟨by omega,(d.out.1.alloc d.out.1.size _).trans (n.out.2.1.mono (by omega))⟩
  go_wp2_with fail;refine(Tryz.Builder_String_any_k w1.heap.size w1.heap.size t p n.out.1 r.out.1).mono ?_;rintro e C ⟨rfl,_,v,_⟩;have x:Hid (ap w C):=r.out.2.trans (v.mono (by omega));clear v;have o:Hid (t=j):=q.out;go_wp2_with fail
  go_ret2
  refine⟨?_,x.out⟩;rw[<-o.out];rfl
 ·have H:(g !=0)=true:=by simpa using h
  have o:Hid ([]=j):=(if_neg h).symm.trans q.out;clear h;go_wp2_with fail
  go_ret2
  refine⟨?_,d.out.1⟩;rw[<-o.out];rfl
theorem I8(n:Nat)(x:Tm n)(B:Nat)(w:ah)(d:In B w n x)(c:B<=w.heap.size)(j:xz w.heap.size w)(g:(aF n x).length<=2097152)(l:wt n x<=2097152):au 95 #[dE n x] w λe w'=>e=.returned (.tuple #[ag ⟨(if bJ n x=0 then fI n x else []).toArray⟩,ae (bJ n x)])/\ap w w':=by
 cases n with
 | zero=>exact d.elim
 | succ n=>
 exact Fb w x.1.1 x.1.2.1 x.1.2.2 x.2.1.1 x.2.2.length x.2.1.2 (bJ (n+1) x) (fI (n+1) x) _ rfl
  (λf a=>dV (n+1) x B f (d.below (a.mono c)) (aD c a.size) g)
  (λf b a k i h=>JM (n+1) x B b b [] f (d.below (a.mono c)) (by omega) i h (xz.mono (j.on a) k) (by simp;omega))
theorem BH(xs:dG)(g o len c:Nat)(w:ah)(v:Hid (xs.length=len*7))(t:Hid (∀d∈xs,d.oneCell'=true))(E:len<=2000000)(x:Hid (∀w1,ap w w1->∀j d,xs[j]?=some d->w1.cell? ((⟨g,o,none⟩:Addr).add j)=some d)):au 90 #[af (some ⟨g,o,none⟩) len c] w λe w'=>∃r,e=.returned r/\Hid (ap w w'/\w'.ownsRow w.heap.size 101 7 r len xs):=by
 obtain⟨C,hit,m,p,q⟩:=bR KT;have a:=av (⟨hit,m,p,q⟩:_/\_/\_/\_);clear hit m p q;have F:∀(w:ah)(b:aw)(n c h f:Nat),(binOp .eql 98 (af b n c) (af none h f)).run Tryz.prog w=.ok (.bool b.isNone) w:=λw b n c h f=>Lib.run_eql_slice_nil w _ _ b n c h f underlying98;have D:(some (⟨g,o,none⟩:Addr)).isNone=false:=rfl;go_enter func90,ntmps90;go_wp2_with (at_builtin;refine wpList_append_own _ rfl _ _ 98 rfl w.heap.size 101 C _ 7 88 underlying98 a.1 a.2.1 a.2.2.1 a.2.2.2 rfl (by decide) _ _ _ rfl (World.ownsRow_made w #[] 0 (ay _) (aK _) (by simp)) ⟨g,o,none⟩ len c xs rfl ?qc1 ?qc2 ?qc3 ?qc4 ?qc5 ?qc6 ?_)
 case qc1=>exact v
 case qc2=>exact x _ (aT _ _)
 case qc3=>exact t
 case qc4=>unfold maxLen;omega
 case qc5=>omega
 case qc6=>simp
 intro s w1 l i A;have u:Hid (ap w w1/\w1.ownsRow w.heap.size 101 7 s len xs):=by
  have y:ap w w1:=Below.grown (aT _ _) i (by simp) (by intro k z;simp[Value.ownBlock]at z;omega);have B:w1.ownsRow w.heap.size 101 7 s len xs:=by simpa using l
  exact⟨y,B⟩
 clear l i A;go_wp2_with fail
 go_ret
 exact⟨_,rfl,u⟩
theorem BG(c:Nat)(w:ah):au 90 #[af none 0 c] w λe w'=>e=.returned (af none 0 0)/\w'=w:=by
 have g:∀(w:ah)(a:aw)(n c d b:Nat),(binOp .eql 98 (af a n c) (af none d b)).run Tryz.prog w=.ok (.bool a.isNone) w:=λw a n c d b=>Lib.run_eql_slice_nil w _ _ a n c d b underlying98;have f:(none:aw).isNone=true:=rfl;go_enter func90,ntmps90;go_wp2_with fail
 go_ret
 exact⟨rfl,rfl⟩
theorem KJ(i:Nat)(m:aw)(n K d:Nat)(C D:Nat->Int)(E:Nat->aq)(xa:Nat->aw)(F xc:Nat->Nat)(w:ah)(l:aw->Nat->Nat->bE)(R:i<w.heap.size)(N:n+K<=1000000)(O:n+K<=d)(J:m=none/\n+K=0/\d=0\/∃g,m=some ⟨g,0,none⟩)(s:Hid (ai w i 6 (af m (n+K:Nat) d)))(x:Hid (∀W B S,ap w W->(m=none/\B=none)\/(∃g o,m=some ⟨g,0,none⟩/\B=some ⟨g,o,none⟩/\(K=0\/o=n*7))->au 90 #[af B K S] W λe w'=>∃a c,e=.returned (af a K c)/\Hid (ap W w'/\l a c 0 w')))(y:Hid (∀a c j W,j<K->l a c j W->∃g,a=some ⟨g,0,none⟩/\ai W g (j*7+3) (ae (C j))/\ai W g (j*7+3+1) (ae (D j))/\ai W g (j*7+3+2) (ag (E j))/\ai W g (j*7+3+3) (af (xa j) (F j) (xc j))/\ Hid (au 91 #[.agg #[ae (C j),ae (D j),ag (E j),af (xa j) (F j) (xc j)]] W λe w'=>∃y0 y1 y2 ya yl yc,e=.returned (.agg #[ae y0,ae y1,ag y2,af ya yl yc])/\Hid ((w'.frozen? ⟨g,j*7+3,none⟩=false/\w'.frozen? ⟨g,j*7+3+1,none⟩=false/\w'.frozen? ⟨g,j*7+3+2,none⟩=false/\w'.frozen? ⟨g,j*7+3+3,none⟩=false)/\(ai w' g (j*7+3) (ae (C j))/\ai w' g (j*7+3+1) (ae (D j))/\ai w' g (j*7+3+2) (ag (E j))/\ai w' g (j*7+3+3) (af (xa j) (F j) (xc j)))/\l a c (j+1) (dj w' g (j*7+3) (ae y0) (ae y1) (ag y2) (af ya yl yc)))))):au 59 #[aC i,ae n] w λe w'=>∃a c,e=.returned (af a K c)/\Hid (l a c K w'):=by
 have f:Hid (ap w w.drew):=(aE _ _).drew;obtain⟨b,A⟩:∃b,b=n+K:=⟨_,rfl⟩;rw[<-A]at s N O J;have k:Hid (∀W,ap w W->ai W i 6 (af m b d)):=λW P=>(P.cell (p:=⟨i,6,none⟩) R).trans s;have Z:=s.out;have al:¬((b:Int)<0):=by omega
 have an:(0:Int)<=(n:Int):=by omega
 have ao:(b:Int)<=(d:Int):=by omega
 have ar:¬((d:Int)<(b:Int)):=by omega
 have ax:¬(d<b):=by omega
 have ay:min (n:Int) (b:Int)=n:=by omega
 have az:max (n:Int) 0=n:=by omega
 have aA:(n:Int)<=(b:Int):=by omega
 have t:=av A;clear A;go_enter func59,ntmps59;go_upto_region 1 with fail;rcases J with⟨rfl,M,rfl⟩|⟨H,rfl⟩
 ·obtain rfl:n=0:=by have:=t.out;omega
  obtain rfl:K=0:=by have:=t.out;omega
  subst M
  go_region_held3 (λW=>W.cell? ⟨i,6,none⟩=some (af none 0 0)) (first|exact k _ f|exact k _ r) ((first
   | (go_at_call 90;refine(x _ _ _ f (ak ⟨rfl,rfl⟩)).mono ?_;rintro e T ⟨a,c,rfl,h⟩;have r:=av (f.trans (h.1.mono f.size)))))
  have q:=av h.2;clear x s k f r y h;go_wp2_with fail;go_loopw [6,23] (λ_ v wr=>v=ae 0/\Hid (l a c 0 wr)) (λ_ _ _=>0)
  case atStart=>exact⟨rfl,q⟩
  case round=>
  obtain⟨rfl,u⟩:=hrel;clear q;go_wp2_with fail
  go_ret
  exact⟨a,c,rfl,u⟩
 ·have ab:b-n=K:=by have:=t.out;omega
  by_cases I:d=n
  all_goals
   have G:Hid (K=0\/d≠n):=(by have:=t.out;omega:K=0\/d≠n)
   go_region_held3 (λW=>W.cell? ⟨i,6,none⟩=some (af (some ⟨H,0,none⟩) b d)) (first|exact k _ f|exact k _ r) ((first
    | (go_at_call 90;refine(x _ _ _ f (am ⟨H,_,rfl,rfl,by first|exact am rfl|exact G.out.imp id (absurd I)⟩)).mono ?_;rintro e T ⟨a,c,rfl,h⟩;have r:=av (f.trans (h.1.mono f.size)))))
   clear x s k f r G I t;have q:=av h.2;clear h;go_wp2_with fail;go_loopw [6,23] (λ_ v wr=>∃(j:Nat),j<=K/\v=ae j/\Hid (l a c j wr)) (λ_ v _=>K-(intOf v).toNat)
   case atStart=>exact⟨0,aK _,rfl,q⟩
   case round=>
   obtain⟨j,aa,rfl,u⟩:=hrel;by_cases Q:j<K
   ·obtain⟨g,rfl,U,V,X,Y,L⟩:=y.out a c j wr Q u;have ad:(0:Int)<=(j:Int):=by omega
    have aj:(j:Int)<(K:Int):=by omega
    clear y u;go_wp2_with fail;refine L.mono ?_;rintro e aB ⟨y0,y1,y2,ya,yl,yc,rfl,z⟩;obtain⟨⟨f0,f1,f2,f3⟩,d0,d1,d2,d3⟩:=(⟨z.1,z.2.1⟩:_/\_);go_wp2_with fail;go_roundw
    case rel=>exact⟨j+1,by omega,by go_num,z.2.2⟩
    case measure=>simp[intOf];omega
   ·obtain rfl:j=K:=by omega
    clear y q;go_wp2_with fail
    go_ret
    exact⟨a,c,rfl,u⟩
def Bi(base:Nat)(a:aw)(d:List (aq×Int×Int×Tc))(w:ah):Prop:=
 (d=[]\/∃c,a=some ⟨c,0,none⟩/\base<=c/\c<w.heap.size/\∀e b,d[e]?=some b->∀(t:Nat)(f:ax),(ym b)[t]?=some f->w.cell? ⟨c,e*7+t,none⟩=some f)/\∀b∈d,(In w.heap.size w 13 b.2.2.2/\cE (λg=>base<=g) 13 b.2.2.2)/\tm b.2.2.2
def JW(a:aw)(L c:Nat):Prop:=(a=none/\L=0/\c=0)\/((∃g,a=some ⟨g,0,none⟩)/\L<=c)
def Na(e:aq×Int×Int×Tc):aq×Int×Int×Tc:=(e.1,e.2.1,e.2.2.1,cn 13 e.2.2.2)
theorem Bi.kee{base:Nat}{a:aw}{j:List (aq×Int×Int×Tc)}{w':ah}(e:Bi base a j w)(i:bG S w w')(l:∀q,base<=q->q<w.heap.size->¬S q):Bi base a j w':=by
 refine⟨?_,λb d=>?_⟩
 ·rcases e.1 with c|⟨g,c,k,h,m⟩
  ·exact ak c
  ·refine am ⟨g,c,k,aY h i.size,λo b d t p n=>?_⟩;rw[<-m o b d t p n];simp only[World.cell?,i.block g h (l g k h)]
 ·have c:=fA i (D:=λq=>base<=q/\q<w.heap.size) (λq f=>l q f.1 f.2) ⟨(e.2 b d).1.1,In.offB (e.2 b d).1.2 (e.2 b d).1.1⟩;exact⟨⟨c.1,c.2.mono λq f=>f.1⟩,(e.2 b d).2⟩
theorem Hf(xa:aw)(xc:Nat)(w:ah):PJ 0 0 ⟨#[]⟩ xa 0 xc tT w:=λW h=>by
 refine(tg 12 0 0 ⟨#[]⟩ xa 0 xc [] W (by decide) λw1 c=>?_).mono ?_
 ·refine(mr xa xc w1).mono ?_;rintro e w' ⟨rfl,rfl⟩;exact⟨none,0,[],rfl,aE _ _,rfl,ay _,aK _,rfl,ak rfl⟩
 ·rintro e w' ⟨a,b,l,rfl,H⟩;obtain⟨c,d,g,f,_⟩:=H;obtain rfl:l=[]:=bZ d;exact⟨0,0,⟨#[]⟩,a,0,b,rfl,c,((0,0,⟨#[]⟩),(a,b),[]),⟨rfl,rfl,rfl⟩,⟨⟨⟨show dm 0 by unfold dm;decide,show dm 0 by unfold dm;decide,show (0:Nat)<=maxLen from aK _,aK _,f⟩,ak rfl⟩,ak rfl⟩,rfl,am ⟨rfl,rfl⟩⟩
theorem O0(d:In w.heap.size w 13 x)(a:tm x):PJ x.1.1 x.1.2.1 x.1.2.2 x.2.1.1 x.2.2.length x.2.1.2 (cn 13 x) w:=by
 rcases a with a|⟨b,c⟩
 ·exact ld d a
 ·obtain⟨⟨g,h,i⟩,⟨e,f⟩,j⟩:=x;simp only[gQ]at b c;obtain⟨rfl,rfl,rfl⟩:=b;subst c;exact Hf e f w
theorem M9(l:List (aq×Int×Int×Tc)):∀b∈l.flatMap ym,b.oneCell'=true:=λb c=>by
 obtain⟨e,_,a⟩:=ko.1 c;simp only[ym,co,gh,gj]at a;rcases a with rfl|rfl|rfl|rfl|rfl|rfl|rfl<;>rfl
theorem Gg(l:List (aq×Int×Int×Tc)):(l.flatMap ym).length=l.length*7:=by
 induction l with
 | nil=>rfl
 | cons a l ih=>
  rw[bK,bm,ih,bt];simp[ym];omega
theorem B6:(l:List (aq×Int×Int×Tc))->(n:Nat)->(l.drop n).flatMap ym=(l.flatMap ym).drop (n*7)
 | [],n=>by simp
 | e::l,0=>by simp
 | e::l,n+1=>by
  rw[List.drop_succ_cons,B6 l n,bK,show (n+1)*7=(ym e).length+n*7 by simp[ym];omega,List.drop_append];simp[ym]
section
variable {p:mL} {s:Sy} {d:gW} {w:ah}
theorem bD.eventsF(D:bD p s d w)(be:d.es.length<=100000)(n K:Nat)(aF:d.es.length=n+K):au 59 #[aC p.b,ae n] w λe w'=>∃a c,e=.returned (af a K c)/\Hid (ap w w'/\JW a K c/\∃ao,ao.length=K/\ao.map Na=s.evs.drop n/\Bi w.heap.size a ao w'):=by
 obtain⟨J,L,aB,bk,aH⟩:∃J L,d.ev=af J d.es.length L/\d.es.length<=L/\(J=none/\d.es.length=0/\L=0\/∃g,J=some ⟨g,0,none⟩):=by
  rcases D.evr.1.2 with⟨e,N⟩|⟨g,c,az,e,_,_,l,_⟩
  ·exact⟨none,0,by rw[e,N],by omega,ak ⟨rfl,N,rfl⟩⟩
  ·exact⟨_,c,e,l,am ⟨g,rfl⟩⟩
 have aa:(d.es.drop n).length=K:=by rw[eT];omega
 obtain⟨q,U⟩:∃q:Nat->aq×Int×Int×Tc,∀h,h<K->(d.es.drop n)[h]?=some (q h):=⟨λh=>(d.es.drop n).getD h (⟨#[]⟩,0,0,tT),λh G=>by
  simp only[nH,aS (show h<(d.es.drop n).length by omega)]
  rfl⟩
 have a3:∀k,ap w k->∀h,h<K->In k.heap.size k 13 (q h).2.2.2/\tm (q h).2.2.2:=λk A h G=>by
  have:=(D.later A).evt.2 _ (List.mem_of_mem_drop (aR (U h G)));exact⟨this.1.1,this.2⟩
 have av:=D.evr.1;rw[aB]at av;have aO:ai w p.b 6 (af J d.es.length L):=by
  have F:=aj D.box 6;simp only[ez,dl,dy]at F;rw[aB]at F;exact F
 refine(KJ p.b J n K L (λh=>(q h).2.2.2.1.1) (λh=>(q h).2.2.2.1.2.1) (λh=>(q h).2.2.2.1.2.2) (λh=>(q h).2.2.2.2.1.1) (λh=>(q h).2.2.2.2.2.length) (λh=>(q h).2.2.2.2.1.2) w
  (λa c h k=>ap w k/\JW a K c/\(K=0\/∃(g:Nat)(f:Nat->aq×Int×Int×Tc),a=some ⟨g,0,none⟩/\(w.heap.size<=g/\g<k.heap.size)/\(∀o,k.frozen? ⟨g,o,none⟩=false)/\(∀i,i<K->∀(t:Nat)(m:ax),(ym (f i))[t]?=some m->ai k g (i*7+t) m)/\(∀i,i<h->(Na (f i)=Na (q i)/\tm (f i).2.2.2)/\In k.heap.size k 13 (f i).2.2.2/\cE (λu=>w.heap.size<=u/\u≠g) 13 (f i).2.2.2)/\∀i,h<=i->i<K->f i=q i)) D.lo.2 (by omega) (by omega) (by rw[<-aF];exact aH) (by rw[<-aF];exact aO) (λk bn aL A a2=>?_) (λa c h k G Q=>?_)).mono ?_
 ·rcases a2 with⟨e,rfl⟩|⟨g,o,e,rfl,ar⟩
  ·have N:K=0:=by
     rcases aH with⟨_,N,_⟩|⟨g,C⟩
     ·omega
     ·rw[e]at C;cases C
   subst N;refine(BG aL k).mono ?_;rintro e w' ⟨rfl,rfl⟩;exact⟨none,0,rfl,aE _ _,A,ak ⟨rfl,rfl,rfl⟩,ak rfl⟩
  ·subst e;have y:=av.lt g rfl;refine(BH ((d.es.drop n).flatMap ym) g o K aL k (by rw[Gg,aa];exact(rfl:K*7=K*7)) (M9 _) (by omega) λbo B h m j=>?_).mono ?_
   ·have bf:h<K*7:=by
      have:=(aZ.1 j).1;rw[Gg,aa]at this;exact this
    obtain rfl:o=n*7:=by rcases ar with E|E<;>omega
    rw[B6,jw]at j;have F:=World.ownsRow.cells av (g:=g) rfl _ m j;have aT:=A.trans (B.mono A.size);rw[show (⟨g,n*7,none⟩:Addr).add h=(⟨g,0,none⟩:Addr).add (n*7+h) by simp only[Addr.add,cw,Nat.add_eq_zero_iff];by_cases e:h=0<;>by_cases C:n*7=0<;>simp[e,C]];exact(aT.cell (p:=(⟨g,0,none⟩:Addr).add (n*7+h)) (by simp only[Addr.add];split<;>exact y.2)).trans F
   ·rintro e w' ⟨bm,rfl,M⟩;obtain⟨z,H⟩:=M.out;obtain⟨a,c,aP,C,aA⟩:=sD H (by decide) λE=>rfl;subst aP;have S:JW a K c:=by
     rcases H.2 with⟨x,ab⟩|⟨O,bc,az,x,_,_,ab,_⟩
     ·injection x with x aJ aK;exact ak ⟨x,ab,aK⟩
     ·injection x with x aJ aK;exact am ⟨⟨O,x⟩,by omega⟩
    refine⟨a,c,rfl,z,A.trans (z.mono A.size),S,?_⟩;by_cases P:K=0
    ·exact ak P
    ·obtain⟨O,x,ab,aJ⟩:=aA 0 _ (U 0 (by omega));obtain⟨az,aU⟩:=eI H O (C _ x);have bg:=A.size;refine am ⟨O,q,x,⟨by have:=(H.lt O (C _ x)).1;omega,ab⟩,λo=>by simp[World.frozen?,aU],λi r t m j=>?_,λi r=>by omega,λ_ _ _=>rfl⟩;obtain⟨bd,I,bl,a9⟩:=aA i _ (U i r);rw[x]at I;injection I with I;injection I with I;subst I;exact a9 t m j
 ·obtain⟨B,S,Q⟩:=Q;rcases Q with P|⟨g,f,rfl,y,aI,W,V,R⟩
  ·omega
  have aV:=R h (ay _) G;have l:=W h G;rw[aV]at l;refine⟨g,rfl,l 3 _ rfl,l 4 _ rfl,l 5 _ rfl,l 6 _ rfl,?_⟩;obtain⟨ba,bb⟩:=a3 k B h G;refine(O0 ba bb k (aE _ _)).mono ?_;rintro e w' ⟨y0,y1,y2,ya,yl,yc,rfl,M⟩;obtain⟨z,aM,⟨f1,f2,f3⟩,⟨H,a6⟩,a7,a8⟩:=M.out;have v:∀{o:Nat}{m:ax},ai k g o m->ai w' g o m:=λ{o m} u=>(z.cell (p:=⟨g,o,none⟩) y.2).trans u;have T:∀o,w'.frozen? ⟨g,o,none⟩=false:=λo=>(z.frozen (p:=⟨g,o,none⟩) y.2).trans (aI o);refine⟨y0,y1,y2,ya,yl,yc,rfl,⟨T _,T _,T _,T _⟩,⟨v (l 3 _ rfl),v (l 4 _ rfl),v (l 5 _ rfl),v (l 6 _ rfl)⟩,?_⟩;have aX:=nb w' g (h*7+3) (ae y0) (ae y1) (ag y2) (af ya yl yc);have bj:=bI (w:=w') (g:=g) (o:=h*7+3) (ae y0) (ae y1) (ag y2) (af ya yl yc);have Y:=yS (ae y0) (ae y1) (ag y2) (af ya yl yc) ⟨v (l 3 _ rfl),v (l 4 _ rfl),v (l 5 _ rfl),v (l 6 _ rfl)⟩;have X:=λo (ar:o<h*7+3\/h*7+3+4<=o)=>CT (w:=w') (g:=g) (v0:=ae y0) (v1:=ae y1) (v2:=ag y2) (v3:=af ya yl yc) o ar;have aW:=λo=>(uu (w:=w') (g:=g) (o:=h*7+3) (v0:=ae y0) (v1:=ae y1) (v2:=ag y2) (v3:=af ya yl yc) o).trans (T o);have a0:ap w (dj w' g (h*7+3) (ae y0) (ae y1) (ag y2) (af ya yl yc)):=dU (B.trans (z.mono B.size)) y.1;generalize dj w' g (h*7+3) (ae y0) (ae y1) (ag y2) (af ya yl yc)=aw at*;have bh:=z.size;have bi:=B.size;have aD:∀{ad:Tc},In w'.heap.size w' 13 ad->cE (λu=>w.heap.size<=u/\u≠g) 13 ad->In aw.heap.size aw 13 ad/\cE (λu=>w.heap.size<=u/\u≠g) 13 ad:=λa4 a5=>fA aX (λu E aN=>E.2 aN) ⟨a4,a5⟩;refine⟨a0,S,am ⟨g,λi=>if i=h then ((q h).1,(q h).2.1,(q h).2.2.1,aM)else f i,rfl,⟨y.1,by omega⟩,aW,λi r t m j=>?_,λi r=>?_,λi F aQ=>?_⟩⟩
  ·have a1:t<7:=by
     have:=(aZ.1 j).1;simpa [ym]using this
   by_cases e:i=h
   ·subst e;simp only[cB]at j;obtain⟨⟨bp,bq,aN⟩,⟨br,bs⟩,bt⟩:=aM;simp only[gQ]at f1 f2;obtain⟨rfl,rfl,rfl⟩:=f1;obtain⟨rfl,rfl⟩:=f2;subst f3
    match t,a1 with
    | 0,_=>exact(X _ (by omega)).trans (v (l 0 m j))
    | 1,_=>exact(X _ (by omega)).trans (v (l 1 m j))
    | 2,_=>exact(X _ (by omega)).trans (v (l 2 m j))
    | 3,_=>exact Y.1.trans j
    | 4,_=>exact Y.2.1.trans j
    | 5,_=>exact Y.2.2.1.trans j
    | 6,_=>exact Y.2.2.2.trans j
   ·simp only[if_neg e]at j;exact(X _ (by omega)).trans (v (W i r t m j))
  ·by_cases e:i=h
   ·simp only[e,cB];have:=aD H (a6.mono λu E=>⟨by omega,by omega⟩);refine⟨⟨?_,a8⟩,this.1,this.2⟩;unfold Na;rw[a7]
   ·simp only[if_neg e];obtain⟨ah,al,an⟩:=V i (by omega);have:=aD ((al.below z).mono z.size) an;exact⟨ah,this.1,this.2⟩
  ·simp only[if_neg (show¬i=h by omega)];exact R i (by omega) aQ
 ·rintro e w' ⟨a,c,rfl,M⟩;obtain⟨B,S,Q⟩:=M;refine⟨a,c,rfl,B,S,?_⟩;rcases Q with P|⟨g,f,rfl,y,aI,W,V,R⟩
  ·have aY:d.es.drop n=[]:=bZ (aa.trans P);refine⟨[],by rw[P];rfl,?_,ak rfl,λe R=>by cases R⟩;rw[<-D.evt.1,<-List.map_drop,aY];rfl
  ·refine⟨(List.range K).map f,by simp,?_,am ⟨g,rfl,y.1,y.2,λi e r t m j=>?_⟩,λe r=>?_⟩
   ·rw[<-D.evt.1,<-List.map_drop];refine nF λi=>?_;by_cases r:i<K
    ·rw[df,df,df,List.getElem?_range r,U i r];exact congrArg some (V i r).1.1
    ·rw[fq (by simpa using Nat.le_of_not_lt r),fq (by rw[cD,aa];omega)]
   ·have Z:i<K:=by
      have:=(aZ.1 r).1;simpa using this
    rw[df,List.getElem?_range Z]at r;obtain rfl:=aG r;exact W i Z t m j
   ·obtain⟨i,Z,rfl⟩:=b9.1 r;obtain⟨ah,al,an⟩:=V i (List.mem_range.1 Z);exact⟨⟨al,an.mono λu E=>E.1⟩,ah.2⟩
end
theorem Du(k m:Int)(s:aq)(a:aw)(l c:Nat)(b:Int)(t:List UInt8)(w:ah)(i:Hid (∀W,ap w W->au 95 #[.agg #[ae k,ae m,ag s,af a l c]] W λe w'=>e=.returned (.tuple #[ag ⟨(if b=0 then t else []).toArray⟩,ae b])/\ap W w')):au 62 #[.agg #[ae k,ae m,ag s,af a l c]] w λe w'=>e=.returned (ag ⟨(if b=0 then t else [45]).toArray⟩)/\ap w w':=by
 obtain⟨f,d⟩:∃f:aq,⟨(if b=0 then t else [45]).toArray⟩=f:=⟨_,rfl⟩;rw[d];go_enter func62,ntmps62;have HB:Hid (∀o,ap w (w.alloc o)):=λo=>aT _ o;go_wp2_with fail;refine(i.out _ (HB.out _)).mono ?_;rintro e p ⟨rfl,j⟩;have h:=av ((HB.out _).trans (j.mono (HB.out _).size));clear j HB i;by_cases g:b=0
 ·subst g;obtain rfl:⟨t.toArray⟩=f:=d;go_wp2_with fail
  go_ret
  exact⟨rfl,h⟩
 ·have n:(b !=0)=true:=by simpa using g
  rw[if_neg g]at d;subst d;go_wp2_with fail
  go_ret
  exact⟨rfl,h⟩
theorem rD{x:Tm n}(c:In w.heap.size w n x)(f:xz w.heap.size w)(d:(aF n x).length<=2097152)(g:wt n x<=2097152):au 62 #[dE n x] w λe w'=>e=.returned (ag ⟨(vi n x).toArray⟩)/\ap w w':=by
 cases n with
 | zero=>exact c.elim
 | succ n=>
 exact Du x.1.1 x.1.2.1 x.1.2.2 x.2.1.1 x.2.2.length x.2.1.2 (bJ (n+1) x) (fI (n+1) x) w λb a=>I8 (n+1) x b.heap.size b ((c.below a).mono a.size) (ay _) (xz.mono (f.on a) a.size) d g
theorem vj{x:Tm n}(a:In B w n x)(b:wt n x<=2097152):(vi n x).length<=60000000:=by
 unfold vi;split
 ·have:=tS n x B w a;omega
 ·decide
theorem r9(a:tm x):(aF 13 x).length<=2097152/\wt 13 x<=2097152:=by
 rcases a with a|⟨b,c⟩
 ·have f:=xv 13 x λd e=>vY (mU 13 x a d e);have g:=jO a;omega
 ·obtain⟨⟨h,i,j⟩,⟨k,l⟩,m⟩:=x;simp only[gQ]at b c;obtain⟨rfl,rfl,rfl⟩:=b;subst c;exact⟨by simp[aF],by simp only[wt,dz,List.sum_nil];decide⟩
theorem B7(nm:aq)(a b k o:Int)(s:aq)(n:aw)(l c:Nat)(f i u:aq)(w:ah)(F:nm.size<=8)(C:f.size<=100)(D:i.size<=100)(E:u.size<=100000000)(y:Hid (∀W,ap w W->au 22 #[ae a] W λe w'=>e=.returned (ag f)/\ap W w'))(HB:Hid (∀W,ap w W->au 22 #[ae b] W λe w'=>e=.returned (ag i)/\ap W w'))(B:Hid (∀W,ap w W->au 62 #[.agg #[ae k,ae o,ag s,af n l c]] W λe w'=>e=.returned (ag u)/\ap W w')):au 60 #[.agg #[ag nm,ae a,ae b,ae k,ae o,ag s,af n l c]] w λe w'=>e=.returned (ag (nm++ ⟨#[32]⟩++f++ ⟨#[32]⟩++i++ ⟨#[32]⟩++u))/\ap w w':=by
 go_enter func60,ntmps60;go_upto_region 1 with fail;generalize x:World.alloc _ _=j;have z:Hid (ap w j):=by
  rw[<-x];exact aT _ _
 have d:j.heap[w.heap.size]?=some (.cells #[ag nm,ae a,ae b,ae k,ae o,ag s,af n l c] 101):=by
  rw[<-x];exact aI _ _
 clear x;have m:Hid (∀W,ap j W->ai W w.heap.size 0 (ag nm)/\ai W w.heap.size 1 (ae a)/\ai W w.heap.size 2 (ae b)/\ai W w.heap.size 3 (ae k)/\ai W w.heap.size 4 (ae o)/\ai W w.heap.size 5 (ag s)/\ai W w.heap.size 6 (af n l c)):=λW v=>by
  have d:=fi v d;exact⟨aj d 0,aj d 1,aj d 2,aj d 3,aj d 4,aj d 5,aj d 6⟩
 have r:Hid (ap j j.drew):=(aE _ _).drew;have t:Hid (∀W,ap j W->ap w W):=λW v=>z.out.trans (v.mono z.out.size);have G:¬9223372036854775807<nm.size+1:=by omega
 have H:¬9223372036854775807<nm.size+1+f.size:=by omega
 have I:¬9223372036854775807<nm.size+1+f.size+1:=by omega
 have J:¬9223372036854775807<nm.size+1+f.size+1+i.size:=by omega
 have K:¬9223372036854775807<nm.size+1+f.size+1+i.size+1:=by omega
 have L:¬9223372036854775807<nm.size+1+f.size+1+i.size+1+u.size:=by omega
 clear d;generalize w.heap.size=h at m
 go_region_held3 (λW=>W.cell? ⟨h,0,none⟩=some (ag nm)/\W.cell? ⟨h,1,none⟩=some (ae a)/\W.cell? ⟨h,2,none⟩=some (ae b)/\W.cell? ⟨h,3,none⟩=some (ae k)/\W.cell? ⟨h,4,none⟩=some (ae o)/\W.cell? ⟨h,5,none⟩=some (ag s)/\W.cell? ⟨h,6,none⟩=some (af n l c)) (first|exact m _ r|exact m _ p|exact m _ q|exact m _ A) ((first
  | (go_at_call 22;first
      | (refine(y _ (t _ r)).mono ?_;clear y;rintro e M ⟨rfl,g⟩;have p:=av (r.trans (g.mono r.size));clear g)
      | (refine(HB _ (t _ p)).mono ?_;clear HB;rintro e N ⟨rfl,g⟩;have q:=av (p.trans (g.mono p.size));clear g))
  | (go_at_call 62;refine(B _ (t _ q)).mono ?_;rintro e O ⟨rfl,g⟩;have A:=av (q.trans (g.mono q.size));clear g)))
 go_wp2_with fail
 go_ret
 exact⟨rfl,t.out _ A⟩
theorem Qe(a:tm x):vi 13 (cn 13 x)=vi 13 x:=by
 rcases a with a|⟨b,c⟩
 ·unfold vi;rw[if_pos a,if_pos (oU a),ru _ _ _ _ (eF a)]
 ·obtain⟨⟨h,i,j⟩,⟨f,g⟩,k⟩:=x;simp only[gQ]at b c;obtain⟨rfl,rfl,rfl⟩:=b;subst c;have d:aH 13 (((0,0,⟨#[]⟩),(f,g),[]):Tc) 13 tT=true:=by kernel_rfl
  have e:¬bJ 13 tT=0:=by decide
  unfold vi;rw[gA d,if_neg (show¬bJ 13 (cn 13 tT)=0 by decide),if_neg (by rw[bN d];exact e)]
theorem yn(a:tm e.2.2.2):gH (Na e)=gH e:=by
 unfold gH Na;simp only[Qe a]
theorem En(d:In B w 13 e.2.2.2)(c:tm e.2.2.2)(j:e.1.size<=8)(a:dm e.2.1)(b:dm e.2.2.1):(gH e).length<=70000000:=by
 have f:=Lib.itoa_length_le _ a.1 a.2;have g:=Lib.itoa_length_le _ b.1 b.2;have h:=vj d (r9 c).2;have i:=Lib.size_eq e.1;unfold gH;simp only[bm,bt,eU];omega
theorem Em(i:In w.heap.size w 13 e.2.2.2)(f:tm e.2.2.2)(j:e.1.size<=8)(d:dm e.2.1)(b:dm e.2.2.1)(g:xz w.heap.size w):au 60 #[.agg (ym e).toArray] w λr w'=>r=.returned (ag ⟨(gH e).toArray⟩)/\ap w w':=by
 have m:=Lib.itoa_length_le _ d.1 d.2;have o:=Lib.itoa_length_le _ b.1 b.2;have p:=vj i (r9 f).2;have h:∀l:List UInt8,(⟨l.toArray⟩:aq).size=l.length:=λl=>by simp[ByteArray.size]
 refine(B7 e.1 e.2.1 e.2.2.1 e.2.2.2.1.1 e.2.2.2.1.2.1 e.2.2.2.1.2.2 e.2.2.2.2.1.1 e.2.2.2.2.2.length e.2.2.2.2.1.2 ⟨(Lib.itoa e.2.1).toArray⟩ ⟨(Lib.itoa e.2.2.1).toArray⟩ ⟨(vi 13 e.2.2.2).toArray⟩ w j (by rw[h];omega) (by rw[h];omega) (by rw[h];omega) (λc a=>jS _ d.1 d.2 _ c (g.on a)) (λc a=>jS _ b.1 b.2 _ c (g.on a)) λc a=>rD (n:=13) ((i.below a).mono a.size) (xz.mono (g.on a) a.size) (r9 f).1 (r9 f).2).mono ?_;rintro r w' ⟨rfl,b⟩;refine⟨?_,b⟩;refine congrArg (λk=>Ending.returned (ag k)) ?_;unfold gH;apply ByteArray.ext;simp
theorem uf(q y:Nat)(k aJ:Int)(s:aq)(z:aw)(c r:Nat)(l y0 y1 E:Int)(nm y2 n:aq)(ya:aw)(yl yc:Nat)(w:ah)(D:Int->bE)(aU:q<w.heap.size)(aK:Hid (ai w q 0 (aC y)))(aZ:c<=r)(A:Hid (c=2->∃g o,z=some ⟨g,o,none⟩/\g<w.heap.size/\ai w g o (ae l)/\ai w g (o+2) (ag nm)/\ai w g (o+4) (ae y0)/\ai w g (o+5) (ae y1)/\ai w g (o+6) (ag y2)/\ai w g (o+7) (af ya yl yc)))(F:Hid (c=2->l=2->∀W,ap w W->au 56 #[aC y,ag nm,.agg #[ae y0,ae y1,ag y2,af ya yl yc]] W λe w'=>∃v,e=.returned (.tuple #[ae v,ae E])/\Hid (bG (λb=>b<w.heap.size/\b≠q/\∀g o,z=some ⟨g,o,none⟩->b≠g) W w'/\D v w')))(B:Hid (∀v W,D v W->E=0->au 22 #[ae v] W λe w'=>e=.returned (ag n)/\ap W w')):au 37 #[aC q,.agg #[ae k,ae aJ,ag s,af z c r]] w λe w'=>(¬(c=2/\l=2)/\e=.returned (.tuple #[ag ⟨#[]⟩,ae 5])/\ap w w')\/((c=2/\l=2)/\e=.returned (.tuple #[ag (if E=0 then n else ⟨#[]⟩),ae E])/\Hid (∃v W,D v W/\ap W w')):=by
 obtain⟨ay,ab⟩:∃ay:aq,(if E=0 then n else ⟨#[]⟩)=ay:=⟨_,rfl⟩;obtain⟨m,j⟩:∃m:Prop,(c=2/\l=2)=m:=⟨_,rfl⟩;rw[ab,j];go_enter func37,ntmps37;go_upto_region 1 with fail;generalize ad:World.alloc _ _=a;have i:Hid (ap w a):=by
  rw[<-ad];exact aT _ _
 have H:a.heap[w.heap.size]?=some (.cells #[ae k,ae aJ,ag s,af z c r] 54):=by
  rw[<-ad];exact aI _ _
 have J:=(aN.1 H).1;obtain⟨h,aH⟩:∃h,w.heap.size=h:=⟨_,rfl⟩;rw[aH]at H J;have d3:ai a h 3 (af z c r):=aj H 3;have G:ai a q 0 (aC y):=(i.out.cell (p:=⟨q,0,none⟩) aU).trans aK;clear ad H;by_cases Z:c=2;rotate_left
 ·have aQ:((c:Int) !=2)=true:=by rw[gT];omega
  have K:Hid (¬m):=λd=>by rw[<-j]at d;exact Z d.1
  clear A F B G J Z j;go_wp2_with fail
  go_ret2
  exact ak ⟨K.out,rfl,i.out⟩
 subst Z;obtain⟨g,o,rfl,aG,S,T,U,V,X,Y⟩:=A.out rfl;have ac:∀{f:Nat}{an:ax},ai w g f an->ai a g f an:=λ{f an} aP=>(i.out.cell (p:=⟨g,f,none⟩) aG).trans aP;have aO:=ac S;have aQ:((2:Int) !=2)=false:=by decide
 by_cases I:l=2;rotate_left
 ·have aV:(l !=2)=true:=gT.2 I;have K:Hid (¬m):=λd=>by rw[<-j]at d;exact I d.2
  clear A F B G J I j ac S T U V X Y;go_wp2_with fail
  go_ret2
  exact ak ⟨K.out,rfl,i.out⟩
 subst I;have ao:Hid m:=by
  show m;rw[<-j];exact⟨rfl,rfl⟩
 clear j;have Q:=av (λW (u:ap a W)=>F.out rfl rfl W (i.out.trans (u.mono i.out.size)));have aS:=aY aG i.out.size;have aX:g≠h:=by omega
 have az:=ac T;have aA:=ac U;have aB:=ac V;have aD:=ac X;have aF:=ac Y;rw[aH]at Q;have R:Hid (∀W,bG (λb=>b<h/\b≠q/\∀t al,(some ⟨g,o,none⟩:aw)=some ⟨t,al,none⟩->b≠t) a W->ai W q 0 (aC y)/\ai W h 3 (af (some ⟨g,o,none⟩) 2 r)/\ai W g (o+2) (ag nm)/\ai W g (o+4) (ae y0)/\ai W g (o+5) (ae y1)/\ai W g (o+6) (ag y2)/\ai W g (o+7) (af ya yl yc)):=λW u=>by
  have x:∀f,W.cell? ⟨g,f,none⟩=a.cell? ⟨g,f,none⟩:=λf=>u.cell f aS λd=>d.2.2 g o rfl rfl;exact⟨(u.cell 0 (by omega) (λd=>d.2.1 rfl)).trans G,(u.cell 3 J (by omega)).trans d3,(x _).trans az,(x _).trans aA,(x _).trans aB,(x _).trans aD,(x _).trans aF⟩
 have M:Hid (ap a a.drew):=(aE _ _).drew;have P:Hid (bG (λb=>b<h/\b≠q/\∀t al,(some ⟨g,o,none⟩:aw)=some ⟨t,al,none⟩->b≠t) a a.drew):=aM M _;clear A F ac S T U V X Y;go_upto_region 3 with fail;clear aO az aA aB aD aF G d3
 go_region_held3 (λW=>W.cell? ⟨q,0,none⟩=some (aC y)/\W.cell? ⟨h,3,none⟩=some (af (some ⟨g,o,none⟩) 2 r)/\W.cell? ⟨g,o+2,none⟩=some (ag nm)/\W.cell? ⟨g,o+4,none⟩=some (ae y0)/\W.cell? ⟨g,o+5,none⟩=some (ae y1)/\W.cell? ⟨g,o+6,none⟩=some (ag y2)/\W.cell? ⟨g,o+7,none⟩=some (af ya yl yc)) (first|exact R _ P|exact R _ ar) ((first
  | (go_at_call 56;refine(Q.out _ M).mono ?_;rintro e a0 ⟨v,rfl,L⟩;have ar:=av (P.out.trans L.1 λ_ _ d=>d))))
 have N:=av L.out.2;have O:=av (B.out _ _ N);have C:=av ab;clear R Q M P ar L B ab;by_cases aa:E=0
 ·subst aa;obtain rfl:=(if_pos rfl:(if (0:Int)=0 then n else ⟨#[]⟩)=n).symm.trans C.out;have aL:=av (O.out rfl);clear O C;go_wp2_with fail;refine aL.out.mono ?_;rintro e a1 ⟨rfl,aR⟩;go_wp2_with fail
  go_ret2
  exact am ⟨ao.out,rfl,_,_,N,aR⟩
 ·have aW:(E !=0)=true:=gT.2 aa;obtain rfl:=(if_neg aa:(if E=0 then n else ⟨#[]⟩)=_).symm.trans C.out;clear O C;go_wp2_with fail
  go_ret2
  exact am ⟨ao.out,rfl,_,_,N,aE _ _⟩
theorem D6(q:Nat)(n k G:Int)(s:aq)(C:aw)(F D:Nat)(E:Int)(B:ax)(w:ah)(v:aw->Nat->Nat->bE)(x:Nat->bE)(P:0<=n/\n<=99)(L:Hid (w.heap[q]?=some (.cells #[B] 34)))(z:Hid (∀W,ap w W->au 54 #[.agg #[ae k,ae G,ag s,af C F D]] W λe w'=>∃a l c,e=.returned (.tuple #[af a l c,ae E])/\Hid (ap W w'/\(E=0->v a l c w'))))(m:Hid (E=0->∀a l c W,v a l c W->au 55 #[af a l c,ae (10*n)] W λe w'=>∃b,e=.returned (.tuple #[aC b,ae 0])/\Hid (ap W w'/\x b w'))):au 36 #[aC q,ae n,.agg #[ae k,ae G,ag s,af C F D]] w λe w'=>(¬E=0/\e=.returned (.tuple #[ag ⟨#[]⟩,ae E])/\ap w w')\/(E=0/\e=.returned (.tuple #[ag ⟨#[111,107]⟩,ae 0])/\Hid (∃b W,x b W/\ap w W/\w'=W.setCell ⟨q,0,none⟩ (aC b))):=by
 have h:Hid (∀o,ap w (w.alloc o)):=λo=>aT _ o;obtain⟨d,p⟩:∃d:Prop,(E=0)=d:=⟨_,rfl⟩;rw[p];have y:=av p;clear p;go_enter func36,ntmps36;go_wp2_with fail;refine(z.out _ (h.out _)).mono ?_;rintro e R ⟨a,l,c,rfl,i⟩;have f:=av ((h.out _).trans (i.out.1.mono (h.out _).size));have j:=av i.out.2;clear i z h;by_cases r:E=0;rotate_left
 ·have N:(E !=0)=true:=gT.2 r;have J:Hid (¬d):=by
   show¬d;rw[<-y.out];exact r
  clear j m;go_wp2_with fail
  go_ret2
  exact ak ⟨J.out,rfl,f.out⟩
 subst r;have I:Hid d:=by
  show d;rw[<-y.out]
 have A:=av (m.out rfl _ _ _ _ (j.out rfl));have Q:IntKind.i64.wrap (10*n)=10*n:=px (by omega);clear m j;go_wp2_with fail;refine A.out.mono ?_;rintro e u ⟨b,rfl,g⟩;have H:=av (f.out.trans (g.out.1.mono f.out.size));have K:=av g.out.2;have t:=fi g.out.1 (fi f L);have M:ai u q 0 B:=aj t 0;have O:u.frozen? ⟨q,0,none⟩=false:=by simp[World.frozen?,t]
 clear t g A f;go_wp2_with fail
 go_ret2
 exact am ⟨I.out,rfl,b,u,K,H,rfl⟩
theorem Dj(b:Nat)(name:aq)(w:ah)(d:ai w b 0 (ag name))(c:Hid (∀w1:ah,au 112 #[ag name] w1 λe w'=>e=.returned (ag name)/\ap w1 w')):au 92 #[aC b] w λe w'=>e=.returned (ag name)/\ap w w':=by
 go_enter func92,ntmps92;go_wp2_with fail;refine(c _).mono ?_;rintro e w1 ⟨rfl,a⟩;have HB:=av a;clear a;go_wp2_with fail
 go_ret
 exact⟨rfl,HB⟩
theorem P1.sname(a:P1 g p name room cs A k M w)(d:name.size<=2048):au 92 #[aC p] w λe w'=>e=.returned (ag name)/\ap w w':=by
 obtain⟨i,r,n,v,q,s,u,l,m,h,b,_⟩:=a;obtain⟨t,j,o,c,_⟩:=b.heap.box;exact Dj p name w (PL.cells c).1 λf=>eq name f d
theorem P1.mails2(C:P1 g p name room cs A k M w)(J:k<=95000)(D:A.length<=999):au 94 #[aC p] w λe w'=>∃(ys:List Tc)(a:aw)(c:Nat),e=.returned (af a A.length c)/\Hid (ys.length=A.length/\ap w w'/\fT w'.heap.size w' 13 ys a/\ys.map (cn 13)=A/\((∀b,(Value.slice a A.length c).ownBlock=some b->w.heap.size<=b)/\A.length<=c)/\∀y∈ys,bJ 13 y=0/\cE (λq=>w.heap.size<=q) 13 y):=by
 obtain⟨R,ad,l,ai,ab,ae,ag,Z,aa,P,u,⟨rfl,rfl⟩,X,Y⟩:=C;have G:∀y∈l,bJ 13 y=0:=λy d=>((u.front (N:=12)).2.2.1 y (b8 _ d)).1;have W:l.length<=999:=by simpa using D
 refine(u.mails (N:=12) J (by omega)).mono ?_;rintro e w' ⟨ys,z,a,c,rfl,x⟩;obtain⟨v,j,r⟩:=x;have E:z=(l.map (cn 13)).length:=by
  rw[<-v,cD];exact cV _ _ _ r
 subst E;obtain⟨Q,S,m,_,n,_⟩:=fC.lay (eC 13) (f:=kX 13) (λ_=>rfl) j;injection m with m _ _;subst m;have H:(l.map (cn 13)).length<=c:=by
  rcases j.2.1.2 with⟨_,U⟩|⟨t,cap,T,e,_,_,V,_⟩
  ·omega
  ·injection e with _ _ e;omega
 refine⟨ys,a,c,rfl,v,j.1,?_,QJ ys l r,⟨λb F=>(j.2.1.lt b F).1,H⟩,λy d=>⟨?_,(j.2.2 y d).2.mono λq K=>by rcases K.1 with s|s<;>omega⟩⟩
 ·rcases n with n|⟨t,o,B,I,h⟩
  ·exact ak n
  ·exact am ⟨t,o,B,I,λi y d=>⟨⟨(h i y d).1 0 _ rfl,(h i y d).1 1 _ rfl,(h i y d).1 2 _ rfl,(h i y d).1 3 _ rfl⟩,(h i y d).2⟩⟩
 ·obtain⟨s,O,L⟩:=tM _ _ _ r y d;exact(bN L).trans (G s O)
section
variable {p:mL} {s:Sy} {d:gW} {w:ah}
end
theorem Dl(g:Nat)(u:da)(a:Int)(nm:aq)(l:ax)(L:Nat)(w:ah)(K:Int->Int->aq->aw->Nat->Nat->bE)(J:Int->Int->aq->aw->Nat->Nat->aw->Nat->bE)(P:g<w.heap.size)(A:Hid (ai w g 3 (.map u)))(B:Hid (∀W,ap w W->(Instr.lookup 131 (.map u) (ae a) true).run Tryz.prog W=.ok (.tuple #[l,.bool true]) W))(E:Hid (∀W,ap w W->au 92 #[l] W λe w'=>e=.returned (ag nm)/\ap W w'))(F:Hid (∀W,ap w W->w.heap.size<W.heap.size->au 93 #[l] W λe w'=>∃y0 y1 y2 ya yl yc,e=.returned (.agg #[ae y0,ae y1,ag y2,af ya yl yc])/\Hid (ap W w'/\K y0 y1 y2 ya yl yc w')))(C:Hid (∀y0 y1 y2 ya yl yc W,ap w W->w.heap.size<W.heap.size->K y0 y1 y2 ya yl yc W->au 94 #[l] W λe w'=>∃ma d,e=.returned (af ma L d)/\Hid (ap W w'/\∀I,bG (λq=>q=w.heap.size) w' I->J y0 y1 y2 ya yl yc ma d I))):au 61 #[aC g,ae a] w λe w'=>∃y0 y1 y2 ya yl yc ma d,e=.returned (.tuple #[ag nm,.agg #[ae y0,ae y1,ag y2,af ya yl yc],af ma L d,ae 0])/\Hid (J y0 y1 y2 ya yl yc ma d w'/\ap w w'):=by
 go_enter func61,ntmps61;go_upto_region 1 with fail;generalize t:w.alloc _=x;have HB:Hid (ap w x):=by
  rw[<-t];exact aT _ _
 have G:Hid (x.heap[w.heap.size]?=some (.cells #[ae 0,ae 0,ag ⟨#[]⟩,af none 0 0] 54)):=by
  rw[<-t];exact aI _ _
 clear t;have O:=B _ HB;have N:ai x g 3 (.map u):=(HB.cell (p:=⟨g,3,none⟩) P).trans A;clear B A;go_wp2_with fail;refine(E _ HB).mono ?_;rintro e Q ⟨rfl,r⟩;have j:=av (HB.trans (r.mono HB.size));have m:=av (fi r G);clear r E O N HB G;go_wp2_with fail;refine(F _ j (aN.1 m).1).mono ?_;rintro e R ⟨y0,y1,y2,ya,yl,yc,rfl,h⟩;have k:=av (j.trans (h.1.mono j.size));have n:=av (fi h.1 m);have D:=av (C _ _ _ _ _ _ _ k (aN.1 n).1 h.2);clear C h F j m;go_wp2_with fail;refine D.mono ?_;rintro e b ⟨ma,d,rfl,i⟩;have y:=av (k.trans (i.1.mono k.size));have c:=fi i.1 n;have H:=av (i.2 _ (nb b w.heap.size 0 (ae y0) (ae y1) (ag y2) (af ya yl yc)));have z:Hid (ap w (dj b w.heap.size 0 (ae y0) (ae y1) (ag y2) (af ya yl yc))):=(dU (o:=0) (v0:=ae y0) (v1:=ae y1) (v2:=ag y2) (v3:=af ya yl yc) y (ay _));have f:=av (tE c (ae y0) (ae y1) (ag y2) (af ya yl yc));obtain⟨q,s⟩:∃q,q=w.heap.size:=⟨_,rfl⟩;rw[<-s]at c f z H ⊢;have M:=av s;clear s;have S:ai b q 0 (ae 0):=aj c 0;have T:ai b q 1 (ae 0):=aj c 1;have U:ai b q 2 (ag ⟨#[]⟩):=aj c 2;have V:ai b q 3 (af none 0 0):=aj c 3;have f0:b.frozen? ⟨q,0,none⟩=false:=by simp[World.frozen?,c]
 have f1:b.frozen? ⟨q,1,none⟩=false:=by simp[World.frozen?,c]
 have f2:b.frozen? ⟨q,2,none⟩=false:=by simp[World.frozen?,c]
 have f3:b.frozen? ⟨q,3,none⟩=false:=by simp[World.frozen?,c]
 clear c i D n k y;go_wp2_with fail;have d0:(dj b q 0 (ae y0) (ae y1) (ag y2) (af ya yl yc)).cell? ⟨q,0,none⟩=some (ae y0):=aj f 0;have d1:(dj b q 0 (ae y0) (ae y1) (ag y2) (af ya yl yc)).cell? ⟨q,1,none⟩=some (ae y1):=aj f 1;have d2:(dj b q 0 (ae y0) (ae y1) (ag y2) (af ya yl yc)).cell? ⟨q,2,none⟩=some (ag y2):=aj f 2;have d3:(dj b q 0 (ae y0) (ae y1) (ag y2) (af ya yl yc)).cell? ⟨q,3,none⟩=some (af ya yl yc):=aj f 3;simp only[dj,cw]at d0 d1 d2 d3;exact aB (v:=.tuple #[ag nm,.agg #[ae y0,ae y1,ag y2,af ya yl yc],af ma L d,ae 0]) (by simp[results,results61,go_sem,d0,d1,d2,d3]) rfl ⟨y0,y1,y2,ya,yl,yc,ma,d,rfl,H,M.out▸z.out⟩
def mg(t:Tc)(B:Nat)(y0 y1:Int)(y2:aq)(ya:aw)(yl yc:Nat)(W:ah):Prop:=∃(m:Nat)(x:Tm (m+1)),(x.1=(y0,y1,y2)/\x.2.1=(ya,yc)/\x.2.2.length=yl)/\aH (m+1) x 13 t=true/\In W.heap.size W (m+1) x/\cE (λq=>B<=q/\q<W.heap.size) (m+1) x
theorem mg.kee(c:mg t B y0 y1 y2 ya yl yc W)(b:bG S W f)(i:∀q,B<=q->q<W.heap.size->¬S q):mg t B y0 y1 y2 ya yl yc f:=by
 obtain⟨j,k,d,e,g,h⟩:=c;have:=fA b (D:=λq=>B<=q/\q<W.heap.size) (λq a=>i q a.1 a.2) ⟨g,h⟩;exact⟨j,k,d,e,this.1,this.2.mono λq a=>⟨a.1,aY a.2 b.size⟩⟩
def rP(a:List Tc)(B:Nat)(ma:aw)(W:ah):Prop:=∃ys:List Tc,ys.length=a.length/\fT W.heap.size W 13 ys ma/\ys.map (cn 13)=a/\(∀y∈ys,bJ 13 y=0/\cE (λq=>B<=q) 13 y)/\∀g o,ma=some ⟨g,o,none⟩->B<=g
theorem rP.kee{ma:aw}(u:rP A B ma W)(d:bG S W f)(j:∀q,B<=q->q<W.heap.size->¬S q):rP A B ma f:=by
 obtain⟨F,z,C,E,m,l⟩:=u;refine⟨F,z,?_,E,m,l⟩;rcases C with r|⟨a,o,s,b,t⟩
 ·exact ak r
 ·subst s;have w:=l a o rfl;refine am ⟨a,o,rfl,aY b d.size,λy n k=>?_⟩;have v:f.heap[a]?=W.heap[a]? :=d.block a b (j a w b);have c:=t y n k;have x:=fA d (D:=λq=>B<=q/\q<W.heap.size) (λq p=>j q p.1 p.2) ⟨c.2,In.offB (m n (aR k)).2 c.2⟩;refine⟨?_,x.1⟩;obtain⟨e,g,h,i⟩:=c.1;simp only[World.cell?,<-v]at e g h i;exact⟨e,g,h,i⟩
section
variable {p:mL} {s:Sy} {d:gW} {w:ah}
theorem bD.procC(m:bD p s d w){a:Int}{nm:aq}{cs:Tc}{f:List Tc}(F:s.get a=some (nm,cs,f))(S:nm.size<=2048)(ak:d.k<=92000):au 61 #[aC p.b,ae a] w λe w'=>∃y0 y1 y2 ya yl yc ma i,e=.returned (.tuple #[ag nm,.agg #[ae y0,ae y1,ag y2,af ya yl yc],af ma f.length i,ae 0])/\Hid (((mg cs w.heap.size y0 y1 y2 ya yl yc w'/\rP f w.heap.size ma w')/\f.length<=i)/\ap w w'):=by
 obtain⟨n,G⟩:∃n,dn d.l a=some n:=by
  have:=m.alive a;rw[F]at this;exact gi.1 this
 obtain⟨Y,K,J,C,v,aj⟩:=m.ps a n G;rw[F]at C;obtain⟨rfl,rfl,rfl⟩:nm=Y/\cs=K/\f=J:=by simpa using C
 refine Dl p.b d.po a nm (Bc n) f.length w (λy0 y1 y2 ya yl yc h=>mg cs (w.heap.size+1) y0 y1 y2 ya yl yc h) (λy0 y1 y2 ya yl yc ma i w'=>(mg cs w.heap.size y0 y1 y2 ya yl yc w'/\rP f w.heap.size ma w')/\f.length<=i) m.lo.2 m.cells.2.2.2 (λh g=>?_) (λh g=>(v.later g).sname S) (λh g R=>?_) λy0 y1 y2 ya yl yc h g R Q=>?_
 ·have:=(m.later g).look a true;rw[if_pos rfl,G]at this;exact this
 ·refine((v.later g).state (by omega)).mono ?_;rintro e w' ⟨c,rfl,t⟩;obtain⟨L,D,M,N,O⟩:=t.out;refine⟨c.1.1,c.1.2.1,c.1.2.2,c.2.1.1,c.2.2.length,c.2.1.2,rfl,L,12,c,⟨rfl,rfl,rfl⟩,?_,D,(In.offB M D).mono λq j=>⟨by omega,j.2⟩⟩;rw[<-O];exact dD _ _ _ _ (eF N)
 ·refine((v.later g).mails2 (by omega) (by omega)).mono ?_;rintro e w' ⟨B,ma,i,rfl,t⟩;obtain⟨U,x,V,W,I,X⟩:=t;have al:=x.size;refine⟨ma,i,rfl,x,λai E=>⟨⟨?_,?_⟩,I.2⟩⟩
  ·obtain⟨T,aa,y,z,A,r⟩:=(Q.kee (aM x λ_=>False) λ_ _ _ j=>j).kee E λq ab ad ah=>by omega
   exact⟨T,aa,y,z,A,r.mono λq j=>⟨by omega,j.2⟩⟩
  ·have P:rP f h.heap.size ma w':=⟨B,U,V,W,X,λu o e=>I.1 u (by rw[e];rfl)⟩;obtain⟨B,y,z,A,r,Z⟩:=P.kee E λq ab ad ah=>by omega
   exact⟨B,y,z,A,λc H=>⟨(r c H).1,(r c H).2.mono λq j=>by omega⟩,λu o e=>by have:=Z u o e;omega⟩
end
def Qj(s:aq)(B:Nat)(a y0 y1:Int)(y2:aq)(ya:aw)(yl yc:Nat)(W:ah):Prop:=a=(rdT s).1/\(a=0->bJ 13 (rdT s).2=0/\mg (rdT s).2 B y0 y1 y2 ya yl yc W)
theorem Ej(s:aq)(r:s.size<=maxLen)(w:ah):au 35 #[ag s] w λe w'=>∃y0 y1 y2 ya yl yc pos d,e=.returned (.tuple #[.agg #[ae y0,ae y1,ag y2,af ya yl yc],ae pos,ae d])/\Hid (ap w w'/\Qj s w.heap.size d y0 y1 y2 ya yl yc w'):=by
 refine(yN s w r).mono ?_;rintro e w' ⟨k,x,t,m,l,c,pos,d,rfl,j⟩;obtain⟨q,o⟩:=j.out;refine⟨k,x,t,m,l,c,pos,d,rfl,o,?_⟩;rcases q with⟨b,_,_,rfl⟩|⟨v,b,g,_,_,rfl⟩|⟨b,g,n,i,u,h,p,_,rfl,f⟩
 ·rw[Qj,tI (ak ⟨b,rfl⟩)];exact⟨rfl,λa=>by cases a⟩
 ·rw[Qj,tI (am (ak ⟨b,⟨v,g⟩,rfl⟩))];exact⟨rfl,λa=>by cases a⟩
 ·rw[Qj,tI (am (am ⟨b,g,n,i,u,rfl⟩))];refine⟨rfl,λa=>?_⟩;simp only[a,cB];refine⟨oU a,?_⟩;rcases f with⟨y,_⟩|⟨_,f⟩
  ·exact absurd a y
  ·cases n with
   | zero=>exact h.elim
   | succ n=>
    obtain⟨⟨z,A,B⟩,⟨C,D⟩,E⟩:=i;simp only[dE,Value.agg.injEq,Array.mk.injEq,lA,Value.int.injEq,Value.string.injEq,Value.slice.injEq,true_and,gS]at f;obtain⟨rfl,rfl,rfl,rfl,rfl,rfl⟩:=f;exact⟨n,_,⟨rfl,rfl,rfl⟩,dD _ _ _ _ (eF a),h,In.offB p h⟩
theorem O2{v:Int}(a:vN s=some v):0<=v/\v<=99:=by
 unfold vN at a;split at a
 ·split at a
  ·rename_i b;obtain rfl:=aG a;exact b.1
  ·cases a
 ·cases a
theorem zY{wd:aq}(c:iC wd=some (a,b)):a<=2/\b<=1:=by
 unfold iC at c
 repeat' split at c
 all_goals (cases c<;>exact⟨by decide,by decide⟩)
def OP(r:Int×aq×Int×Int×Tc)(B:Nat)(d:aq)(a b f g:Int)(h:aq)(xa:aw)(i xc:Nat)(W:ah):Prop:=
 (d=r.2.1/\a=r.2.2.1/\b=r.2.2.2.1)/\(0<=a/\a<=99)/\(0<=b/\b<=99)/\mg r.2.2.2.2 B f g h xa i xc W/\∃e c,iC d=some (e,c)/\((c=0/\r.2.2.2.2=tT)\/(c=1/\bJ 13 r.2.2.2.2=0))
theorem IJ(B:Nat)(W:ah):mg tT B 0 0 ⟨#[]⟩ none 0 0 W:=⟨0,((0,0,⟨#[]⟩),(none,0),[]),⟨rfl,rfl,rfl⟩,by kernel_rfl,⟨⟨by simp[dm],by simp[dm],aK _,by simp,by simp⟩,ak rfl⟩,ak rfl⟩
theorem ot(b:aq):(k:Nat)->(s:aq)->∀x∈Lib.splitB b 0 k s,x.size<=s.size
 | 0,s,x,a=>by
  rw[Lib.splitB_zero,dN]at a;rw[a];exact ay _
 | k+1,s,x,a=>by
  unfold Lib.splitB at a;split at a
  ·rw[dN]at a;rw[a];exact ay _
  ·rcases co.1 a with rfl|a
   ·simp[ByteArray.size_extract];omega
   ·have:=ot b k _ x a;simp only[ByteArray.size_extract]at this;omega
theorem mg.less{C:Nat}(b:mg t B y0 y1 y2 ya yl yc W)(g:C<=B):mg t C y0 y1 y2 ya yl yc W:=by
 obtain⟨h,i,c,d,e,f⟩:=b;exact⟨h,i,c,d,e,cE.mono (λj a=>⟨aD g a.1,a.2⟩) f⟩
theorem Gd(a:aq)(h:a.size<=65536)(c:Cx B w):au 31 #[ag a,ag ⟨#[32]⟩] w λe w'=>∃g b,e=.returned (.tuple #[ag (kw a),ag g,.bool b])/\ap w w':=by
 obtain⟨_,f,_,_,_,d⟩:=c;refine(Tryz.strings_Cut a ⟨#[32]⟩ f w (by omega) (d w (aE _ _)).1).mono ?_;rintro e w' ⟨rfl,n,rfl⟩;exact⟨_,_,rfl,iW (aE _ _) n⟩
theorem Fu(d:aq)(s:d.size<=65536)(a b:Nat)(p:a<=2)(q:b<=1)(l:Cx B w):au 33 #[ag d,ag ⟨#[32]⟩,ae (1+a+b)] w λe w'=>∃g c,e=.returned (.slice (some ⟨g,0,none⟩) (dp d a b).length c)/\(dp d a b).length<=c/\Hid (ap w w'/\g<w'.heap.size/\0<(dp d a b).length/\∀j,j<(dp d a b).length->ai w' g j (ag ((dp d a b).getD j .empty))):=by
 obtain⟨_,o,_,_,_,n⟩:=l;have i:((1+a+b:Nat):Int)=1+a+b:=by omega
 have f:=Tryz.strings_SplitN d ⟨#[32]⟩ (1+a+b) o w (by omega) (n w (aE _ _)).1 (by decide) (by omega) (by omega);rw[i]at f;refine f.mono ?_;rintro e w' ⟨rfl,rfl⟩;have r:(dp d a b).length<=min (1+a+b) (d.size+1)-1+1:=Lib.splitB_length_le _ _ _ _;have m:(dp d a b).length<=min (1+a+b) (d.size+1):=by omega
 refine⟨_,_,rfl,m,aT _ _,(aN.1 (aI w _)).1,?_,λj h=>?_⟩
 ·show 0<(Lib.splitB QH 0 _ d).length;cases min (1+a+b) (d.size+1)-1 with
  | zero=>exact Nat.zero_lt_one
  | succ k=>
   unfold Lib.splitB;split
   ·exact Nat.zero_lt_one
   ·exact Nat.succ_pos _
 ·refine(aj (aI w _) j).trans ?_;show (Lib.cellsOf (dp d a b) _).toList[j]?=_;simp only[Lib.cellsOf];rw[dM (by simpa using h),df,nH,aS h];rfl
theorem pi(c:aq)(d:c.size<=65536)(a b i:Nat):((dp c a b).getD i .empty).size<=65536:=by
 rw[nH];cases e:(dp c a b)[i]? with
 | none=>exact aK _
 | some f=>exact aD (ot _ _ _ f (aR e)) d
theorem Hs(c:aq)(q:c.size<=65536)(G:Cx B w)(u:B<=w.heap.size):au 24 #[ag c] w λe w'=>∃i a b l m n xa o xc,e=.returned (.tuple #[.agg #[ag i,ae a,ae b,ae l,ae m,ag n,af xa o xc],ae (dkRead c).1])/\Hid (ap w w'/\((dkRead c).1=0->OP (dkRead c) w.heap.size i a b l m n xa o xc w')):=by
 have r:∀d,ap w d->Cx B d:=λd j=>G.on (j.mono u);obtain⟨C,h⟩:∃C,dkRead c=C:=⟨_,rfl⟩;rw[h];unfold dkRead at h;cases hf:iC (kw c)with
 | none=>
  rw[hf]at h;subst h;refine(vP c (kw c) 0 0 false 0 (λ_=> .empty) (λ_=>none) w (λ_ _ _ _ _ _ _ _=>False) (by omega) (by omega) (λd j=>Gd c q (r d j)) (λd=>?_) (λi=>by cases i) (λf d y=>absurd y (Nat.not_lt_zero f)) (λi=>by cases i)).mono ?_
  ·refine(Ce (kw c) d).mono ?_;rintro e w' ⟨rfl,rfl⟩;rw[hf];exact⟨rfl,rfl⟩
  ·rintro e w' ⟨i,a,b,l,m,n,xa,o,xc,p,rfl,H,g⟩;rcases g with⟨rfl,_⟩|⟨⟨k,_⟩,_⟩
   ·exact⟨i,a,b,l,m,n,xa,o,xc,rfl,H,λk=>by cases k⟩
   ·cases k
 | some E=>
  obtain⟨a,b⟩:=E;obtain⟨v,x⟩:=zY hf;rw[hf]at h;simp only at h;have L:∀f,qR (dp c a b) f=vN ((dp c a b).getD (1+f) .empty):=λ_=>rfl;refine(vP c (kw c) a b true (dp c a b).length (λf=>(dp c a b).getD f .empty) (qR (dp c a b)) w (λp l m n xa o xc d=>p=(rdT ((dp c a b).getD (1+a) .empty)).1/\(p=0->bJ 13 (rdT ((dp c a b).getD (1+a) .empty)).2=0/\mg (rdT ((dp c a b).getD (1+a) .empty)).2 w.heap.size l m n xa o xc d)) v x (λd j=>Gd c q (r d j)) (λd=>?_) (λ_ d j=>Fu c q a b v x (r d j)) (λf d y j=>?_) (λ_ d j=>?_)).mono ?_
  ·refine(Ce (kw c) d).mono ?_;rintro e w' ⟨rfl,rfl⟩;rw[hf];exact⟨rfl,rfl⟩
  ·exact KA _ (by have:=pi c q a b (1+f);omega) (r d j) (aD u j.size)
  ·refine(Ej _ (by have:=pi c q a b (1+a);unfold maxLen;omega) d).mono ?_;rintro e w' ⟨y0,y1,y2,ya,yl,yc,pos,p,rfl,g⟩;refine⟨y0,y1,y2,ya,yl,yc,pos,p,rfl,g.1,λM J=>⟨g.2.1,λi=>⟨(g.2.2 i).1,mg.less (mg.kee (g.2.2 i).2 J λP N _ O=>by omega) j.size⟩⟩⟩
  ·rintro e w' ⟨i,D,F,l,m,n,xa,o,xc,p,rfl,t,g⟩;rcases g with⟨rfl,K⟩|⟨I,⟨rfl,rfl,rfl⟩,g⟩
   ·rw[if_neg λk=>K ⟨rfl,k⟩]at h;subst h;exact⟨i,D,F,l,m,n,xa,o,xc,rfl,t,λk=>by cases k⟩
   ·rw[if_pos I.2]at h;have s:∀f,0<=jV a (qR (dp c a b)) f 2/\jV a (qR (dp c a b)) f 2<=99:=λf=>by
     unfold jV;split
     ·cases e:qR (dp c a b) f with
      | none=>exact⟨by decide,by decide⟩
      | some Q=>exact O2 ((L f).symm.trans e)
     ·exact⟨by decide,by decide⟩
    have z:jV a (qR (dp c a b)) 0 2=if 0<a then (qR (dp c a b) 0).getD 0 else 0:=by simp[jV]
    have A:jV a (qR (dp c a b)) 1 2=if 1<a then (qR (dp c a b) 1).getD 0 else 0:=by simp[jV]
    rcases g with⟨rfl,rfl,rfl,rfl,rfl,rfl,rfl,rfl⟩|⟨rfl,rfl,g⟩
    ·simp only[cB]at h;subst h;exact⟨_,_,_,0,0,⟨#[]⟩,none,0,0,rfl,t,λ_=>⟨⟨rfl,z,A⟩,s 0,s 1,IJ _ _,a,0,hf,ak ⟨rfl,rfl⟩⟩⟩
    ·simp only[Nat.one_ne_zero,if_false]at h;subst h;exact⟨_,_,_,l,m,n,xa,o,xc,rfl,t,λk=>⟨⟨rfl,z,A⟩,s 0,s 1,(g k).2,a,1,hf,am ⟨rfl,(g k).1⟩⟩⟩
def uc(v:ax):Obj:=.cells #[v] 34
def Qs(q i:Nat)(P:List (Bh 13))(room:Int)(s:Sy)(M:aU)(W:ah):Prop:=∃(p:mL)(d:gW),W.heap[q]?=some (uc (aC p.b))/\bD p s d W/\(p.room=room/\aH (p.n+6) (cW p.n p.prog) 18 (cW 12 P)=true/\oI 12 P=0)/\(pB s/\nQ s)/\(d.k<=i*402/\d.es.length<=i*201/\d.wn<=i*201/\d.bn<=i*201)/\∀b,d.ow b≠0->M b
def jK(a q i:Nat)(c:qt)(M:aU)(W:ah):Prop:=(Cx a W/\a<=q/\q+1<W.heap.size)/\(∀b,M b->q+1<b/\b<W.heap.size)/\match c with
 | none=>W.heap[q]?=some (uc (.pointer none))
 | some (P,room,s)=>Qs q i P room s M W
def jL(a q i:Nat)(c:qt)(M:aU)(w w':ah):Prop:=∃M',jK a q (i+1) c M' w'/\bG (λb=>b=q\/M b) w w'/\∀b,M' b->M b\/w.heap.size<=b
theorem jK.kept{f q i:Nat}{k:qt}{M S:aU}{W g:ah}(n:jK f q i k M W)(e:bG S W g)(j:∀b,S b->f<=b/\b≠q/\¬M b):jK f q i k M g:=by
 obtain⟨⟨o,r,t⟩,l,h⟩:=n;have u:=e.size;have m:g.heap[q]?=W.heap[q]? :=e.block q (by omega) λc=>(j q c).2.1 rfl;refine⟨⟨o.on (e.below (by omega) λb a c=>by have:=(j b c).1;omega),r,by omega⟩,λb a=>⟨(l b a).1,by have:=(l b a).2;omega⟩,?_⟩
 match k,h with
 | none,h=>exact m.trans h
 | some (P,room,s),⟨p,d,k1,k2,k3,k4,k5,k6⟩=>exact⟨p,d,m.trans k1,k2.kept e λb a=>Classical.byContradiction λc=>(j b a).2.2 (k6 b c),k3,k4,k5,k6⟩
variable{h:qt}
theorem jK.later(a:jK g q i h M W)(b:ap W f):jK g q i h M f:=a.kept (aM b λ_=>False) λ_ c=>c.elim
theorem jK.next(b:jK g q i h M W):jK g q (i+1) h M W:=by
 obtain⟨c,e,a⟩:=b;refine⟨c,e,?_⟩
 match h,a with
 | none,a=>exact a
 | some (P,room,s),⟨p,d,k1,k2,k3,k4,k5,k6⟩=>exact⟨p,d,k1,k2,k3,k4,⟨by omega,by omega,by omega,by omega⟩,k6⟩
theorem jK.stay(b:jK g q i h M W)(a:ap W f):jL g q i h M W f:=⟨M,(b.later a).next,aM a _,λ_ c=>ak c⟩
theorem jL.later{a q i:Nat}{d:qt}{M:aU}{w W b:ah}(f:jL a q i d M w W)(c:ap W b):jL a q i d M w b:=by
 obtain⟨e,g,h,j⟩:=f;exact⟨e,g.later c,h.trans (aM c λ_=>False) λ_ _ k=>k.elim,j⟩
theorem jL.from(c:ap w W)(e:jL g q i h M W f):jL g q i h M w f:=by
 obtain⟨d,j,k,l⟩:=e;exact⟨d,j,(aM c _).trans k λ_ _ a=>a,λb a=>(l b a).imp id λa=>aD c.size a⟩
theorem jK.box(a:jK g q i h M W):∃b,W.heap[q]?=some (uc b):=by
 match h,a.2.2 with
 | none,h5=>exact⟨_,h5⟩
 | some (P,room,s),⟨p,d,k1,_⟩=>exact⟨_,k1⟩
theorem jK.up{s l:Sy}{p:mL}{d h:gW}(A:jK g q i (some (P,room,s)) M w)(j:ap w W)(D:w.heap[q]?=some (uc (aC p.b)))(E:p.room=room/\aH (p.n+6) (cW p.n p.prog) 18 (cW 12 P)=true/\oI 12 P=0)(L:d.k<=i*402/\d.es.length<=i*201/\d.wn<=i*201/\d.bn<=i*201)(o:∀b,d.ow b≠0->M b)(t:bD p l h f)(C:gD a c d h W f)(H:a<=201)(I:c<=402)(B:pB l/\nQ l):jL g q i (some (P,room,l)) M w f:=by
 obtain⟨⟨y,z,G⟩,m,_⟩:=A;obtain⟨r,F,N,O,Q,R⟩:=C;have J:=j.size;have K:=r.size;have u:bG (λb=>b=q\/M b) w f:=(aM j _).trans r λb _ e=>am (o b e);have v:∀b,h.ow b≠0->M b\/w.heap.size<=b:=λb e=>by
  by_cases x:b<W.heap.size
  ·rw[F b x]at e;exact ak (o b e)
  ·exact am (by omega)
 refine⟨λb=>h.ow b≠0,⟨⟨y.on (u.below (by omega) λb j e=>?_),z,by omega⟩,λb e=>⟨?_,(t.low b e).2⟩,p,h,?_,t,E,B,⟨by omega,by omega,by omega,by omega⟩,λ_ e=>e⟩,u,v⟩
 ·rcases e with e|e
  ·omega
  ·have:=(m b e).1;omega
 ·rcases v b e with e|e
  ·exact(m b e).1
  ·omega
 ·refine(r.block q (by omega) λe=>?_).trans ((j.block q (by omega)).trans D);have:=(m q (o q e)).1;omega
theorem pW(b:mg t B u z C xa g xc W)(e:bJ 13 t=0):∃(m:Nat)(l:List (Tm m)),l.length=g/\aH (m+1) ((u,z,C),(xa,xc),l) 13 t=true/\In W.heap.size W (m+1) ((u,z,C),(xa,xc),l)/\cE (λq=>B<=q/\q<W.heap.size) (m+1) ((u,z,C),(xa,xc),l)/\(aF (m+1) ((u,z,C),(xa,xc),l)).length<=201:=by
 obtain⟨m,f,⟨f1,f2,f3⟩,a,c,d⟩:=b;obtain⟨⟨i,j,k⟩,⟨n,o⟩,h⟩:=f;simp only[gQ]at f1 f2;obtain⟨rfl,rfl,rfl⟩:=f1;obtain⟨rfl,rfl⟩:=f2;exact⟨m,h,f3,a,c,d,jO ((bN a).trans e)⟩
theorem Eg(J:jK g q i h M w){a:Int}(aB:0<=a/\a<=99)(aJ:mg t B u z C xa p xc w)(O:bJ 13 t=0):au 36 #[aC q,ae a,.agg #[ae u,ae z,ag C,af xa p xc]] w λe w'=>e=.returned (.tuple #[ag ⟨(mH h a t).2.2.toArray⟩,ae (mH h a t).2.1])/\Hid (jL g q i (mH h a t).1 M w w'):=by
 obtain⟨d,l,rfl,D,Z,aG,aF⟩:=pW aJ O;obtain⟨o,Y⟩:∃o:Tm (d+1),((u,z,C),(xa,xc),l)=o:=⟨_,rfl⟩;have aI:∀H:ax,H=.agg #[ae u,ae z,ag C,af xa l.length xc]->H=dE (d+1) o:=λH c=>by rw[c,<-Y];rfl
 rw[Y]at D Z aG aF;obtain⟨al,ab⟩:=J.box;have P:bJ (d+1) o=0:=(bN D).trans O;have K:sg d (d+1) o=if (oD t).isSome then 0 else 5:=Ig (ay _) P D
 refine(D6 q a u z C xa l.length xc (sg d (d+1) o) al w (λy U s f=>∃c:List (Bh (d+1)),c.length=U/\(U<=s/\s<=maxLen)/\iV (d+1) f.heap.size f y c/\(∃I,xE d (d+1) o=some I/\e9 (xY (d+1)) c I)/\w.heap.size<=f.heap.size) (λan f=>∃(j:mL)(m:gW),an=j.b/\bD j Qd m f/\(m.k=0/\m.es=[]/\m.wn=0/\m.bn=0)/\j.room=10*a/\w.heap.size<=j.lo/\aH (j.n+6) (cW j.n j.prog) 13 t=true) aB ab (λf N=>?_) λA y U s f hF=>?_).mono ?_
 ·rw[aI _ rfl];refine(Ch d (d+1) (ay _) o f.heap.size f ((Z.below N).mono N.size) (by omega) (ay _)).mono ?_;rintro e w' ⟨c,y,s,rfl,v⟩;obtain⟨G,S,T,_,_,aj⟩:=v.out;exact⟨y,c.length,s,rfl,G,λe=>⟨c,rfl,S,T,aj e,aD N.size G.size⟩⟩
 ·obtain⟨c,rfl,⟨G,S⟩,T,⟨I,ai,aL⟩,aj⟩:=hF;have aA:lj (d+1) I=true:=by
   unfold sg vW at A;rw[if_pos P,ai]at A;simp only at A;split at A
   ·assumption
   ·cases A
  obtain⟨t1,t2,t3,t4⟩:=yU (ay _) P ai aL aA;have t5:aH (d+6) (cW d c) 13 t=true:=by
   have e:Jt d c=cW d c:=by unfold Jt;simp[t2]
   rw[e]at t3;exact bU _ _ _ _ _ _ t3 D
  refine(LZ d c y s (10*a) f T G S λ_=>by omega).mono ?_;rintro e w' ⟨H,aT,rfl,v⟩;obtain⟨aQ,aR,_,aS⟩:=v.out;have ad:aT=0:=by
   rw[aQ];unfold Di;rw[if_neg (λc=>c t2),if_pos (by omega)]
  obtain⟨j,m,rfl,E,aO,V,aP,_,W⟩:=aS ad;subst ad;exact⟨j.b,rfl,aR,j,m,rfl,E,aO,V,by omega,bU _ _ _ _ _ _ W t5⟩
 ·rintro e w' (⟨F,rfl,r⟩|⟨F,rfl,v⟩)
  ·have aa:oD t=none:=by
     cases e:oD t with
     | none=>rfl
     | some x=>exact absurd (by rw[K,e];rfl) F
   have ar:sg d (d+1) o=5:=by rw[K,aa];rfl
   unfold mH;rw[aa,ar];exact⟨rfl,J.stay r⟩
  ·obtain⟨x,X⟩:∃x,oD t=some x:=by
     cases e:oD t with
     | none=>rw[K,e]at F;cases F
     | some x=>exact⟨x,rfl⟩
   obtain⟨ao,ap⟩:=vH O X;obtain⟨an,f,⟨j,m,rfl,E,⟨aX,aN,aY,aZ⟩,V,aP,W⟩,r,rfl⟩:=v.out;obtain⟨⟨av,az,aV⟩,aW,_⟩:=J;have D:=r.size;have R:f.heap[q]?=some (uc al):=(r.block q (by omega)).trans ab;have L:=bM f q 0 (aC j.b);have Q:∀b,m.ow b≠0->w.heap.size<=b:=λb c=>by have:=(E.low b c).1;omega
   unfold mH;rw[X];refine⟨rfl,λb=>m.ow b≠0,⟨⟨(av.on (r.mono (by omega))).on (L.below (by omega) λb r c=>by omega),az,by simpa using (by omega:q+1<f.heap.size)⟩,λb c=>⟨?_,by simpa using (E.low b c).2⟩,j,m,?_,E.kept L λb c=>?_,⟨V,bU _ _ _ _ _ _ W (dD _ _ _ _ ap),ao⟩,⟨λq R=>(by cases R),⟨ki _,λe aE=>(by cases aE)⟩⟩,⟨by omega,by rw[aN];exact aK _,by omega,by omega⟩,λ_ c=>c⟩,(aM r _).trans L λb _ c=>ak c,λb c=>am (Q b c)⟩
   ·have:=Q b c;omega
   ·simp[World.setCell,bQ,R,uc]
   ·subst c;exact Classical.byContradiction λc=>by have:=Q b c;omega
theorem IH{x:Tm k}(a:aH k x g y=true)(room:Int)(nm:aq):fu k x room nm=fu g y room nm:=by
 unfold fu jl;rw[bN a,cF _ _ _ _ a,kV _ _ _ _ a]
theorem Fx{P:List (Bh (n+1))}{x:Tm k}(a:aH k x g y=true)(s:Sy)(room:Int)(nm:aq):s.start n P room nm k x=s.start n P room nm g y:=by
 unfold Sy.start;rw[IH a,gA a]
theorem vO{s:Sy}{l:List (Tm 12)}(a:∀x y,l=[x,y]->¬x.1.1=2):jG P room s l=(some (P,room,s),5,[]):=by
 match l with
 | []=>rfl
 | [_]=>rfl
 | [x,y]=>exact if_neg (a x y rfl)
 | _::_::_::_=>rfl
theorem BX{s:Sy}(x:jK g q i (some (P,room,s)) M w)(aR:i<=200)(az:mg t B u z C xa p xc w)(an:bJ 13 t=0)(am:∀b,M b->b<B):au 37 #[aC q,.agg #[ae u,ae z,ag C,af xa p xc]] w λe w'=>e=.returned (.tuple #[ag ⟨(jG P room s t.2.2).2.2.toArray⟩,ae (jG P room s t.2.2).2.1])/\Hid (jL g q i (jG P room s t.2.2).1 M w w'):=by
 obtain⟨j,l,rfl,N,ap,ax,aT⟩:=pW az an;obtain⟨m,aK,R,ad,S,ak,aB,T⟩:=x.2.2;have aa:q<w.heap.size:=(aN.1 R).1;have X:ai w q 0 (aC m.b):=aj R 0;obtain⟨⟨_,_,_,Z,_⟩,I⟩:=ap;have G:aL (λv b=>aH j v 12 b) l t.2.2=true:=by
  have N:((u==t.1.1 && z==t.1.2.1 && C.toList==t.1.2.2.toList) && aL (λv b=>aH j v 12 b) l t.2.2)=true:=N;exact(Bool.and_eq_true_iff.1 N).2
 by_cases D:l.length=2;rotate_left
 ·refine(uf q m.b u z C xa l.length xc 0 0 0 0 ⟨#[]⟩ ⟨#[]⟩ ⟨#[]⟩ none 0 0 w (λ_ _=>False) aa X Z (λa=>absurd a D) (λa=>absurd a D) (λ_ _ a=>a.elim)).mono ?_;rintro e w' (⟨_,rfl,A⟩|⟨a,_⟩)
  ·rw[vO λaE aG a=>absurd (by rw[pU _ _ _ G,a];rfl) D];exact⟨rfl,x.stay A⟩
  ·exact absurd a.1 D
 obtain⟨d,f,rfl⟩:∃d f,l=[d,f]:=by
  match l,D with
  | [d,f],_=>exact⟨d,f,rfl⟩
 obtain⟨c,h,Y⟩:∃c h,t.2.2=[c,h]:=by
  have:=pU _ _ _ G
  match Y:t.2.2,this with
  | [c,h],_=>exact⟨c,h,rfl⟩
 rw[Y]at G ⊢;have ab:aH j d 12 c=true/\aH j f 12 h=true:=by simpa [aL]using G
 rcases I with a|⟨F,o,rfl,ao,I⟩
 ·cases a
 have L:=I 0 d rfl;have k:=I 1 f rfl;cases j with
 | zero=>exact k.2.elim
 | succ j=>
 have aQ:B<=F:=by
  rcases ax with a|⟨b,aD,e,Q,_⟩
  ·cases a
  ·simp only[ir,Addr.mk.injEq,gS]at e;rw[e.1];exact Q.1
 have O:d.1.1=c.1.1/\d.1.2.2=c.1.2.2:=by
  have:((d.1.1==c.1.1 && d.1.2.1==c.1.2.1 && d.1.2.2.toList==c.1.2.2.toList) && aL (λv b=>aH j v 11 b) d.2.2 c.2.2)=true:=ab.1;simp only[aO,cR]at this;exact⟨this.1.1.1,by rw[kH this.1.2,<-kH (rfl:c.1.2.2.toList=c.1.2.2.toList)]⟩
 have ar:(aF (j+1) f).length<=2097152:=by
  have:(aF (j+1+1) ((u,z,C),(some ⟨F,o,none⟩,xc),[d,f])).length=1+((aF (j+1) d).length+(aF (j+1) f).length):=by
   simp only[aF,bK,List.flatMap_nil,bt,bm,eD];omega
  omega
 have ay:s.start m.n m.prog m.room d.1.2.2 (j+1) f=s.start 12 P room c.1.2.2 12 h:=by
  rw[S.1,Fy S.2.1,Fx ab.2,O.2]
 refine(uf q m.b u z C (some ⟨F,o,none⟩) 2 xc d.1.1 f.1.1 f.1.2.1 (s.start 12 P room c.1.2.2 12 h).2 d.1.2.2 f.1.2.2 ⟨(Lib.itoa (s.last+1)).toArray⟩ f.2.1.1 f.2.2.length f.2.1.2 w (λE r=>((s.start 12 P room c.1.2.2 12 h).2=0->E=s.last+1)/\jL g q i (some (P,room,(s.start 12 P room c.1.2.2 12 h).1)) M w r) aa X Z (λ_=>⟨F,o,rfl,ao,?_,?_,?_,?_,?_,?_⟩) (λ_ aS r H=>?_) λE r y al=>?_).mono ?_
 ·exact L.1.1
 ·exact L.1.2.2.1
 ·exact k.1.1
 ·exact k.1.2.1
 ·exact k.1.2.2.1
 ·exact k.1.2.2.2
 ·refine((ad.later H).start d.1.2.2 (by have:=L.2.1.2.2.1;unfold maxLen at this;omega) f ((k.2.below H).mono H.size) ar (by omega) (by omega)).mono ?_;rintro e w' ⟨E,aV,rfl,J⟩;obtain⟨⟨U,K⟩,aM,V,W⟩:=J.out;rw[ay]at U V;subst U;refine⟨E,rfl,W.1.mono λb _ a=>?_,K,x.up H R S aB T V W (by omega) (by omega) ⟨ak.1.start _ _ _,ak.2.start _ _ _⟩⟩;have Q:=x.2.1 b (T b a)
  exact⟨Q.2,by omega,λaP aD e=>by
   simp only[ir,Addr.mk.injEq,gS]at e;have:=am b (T b a)
   omega⟩
 ·obtain⟨K,aJ,y,_⟩:=y;rw[K al];have:=ad.keys;exact jS _ (by omega) (by omega) g r y.1.1.1
 ·rintro e w' (⟨av,rfl,A⟩|⟨aA,rfl,J⟩)
  ·rw[vO λaE aG a aI=>av ⟨rfl,?_⟩]
   ·exact⟨rfl,x.stay A⟩
   ·simp only[lA,gS]at a;rw[O.1,a.1];exact aI
  ·obtain⟨E,r,⟨_,y⟩,A⟩:=J.out;have e:jG P room s [c,h]=(some (P,room,(s.start 12 P room c.1.2.2 12 h).1),(s.start 12 P room c.1.2.2 12 h).2,if (s.start 12 P room c.1.2.2 12 h).2=0 then Lib.itoa (s.last+1)else []):=if_pos (O.1.symm.trans aA.2);rw[e];refine⟨?_,y.later A⟩;by_cases a:(s.start 12 P room c.1.2.2 12 h).2=0
   ·rw[if_pos a,if_pos a]
   ·rw[if_neg a,if_neg a]
def qK(B b:Nat)(l:List UInt8)(a W:ah):Prop:=Bu B b l W/\(∀r,JR b W r->a.heap.size<=r)/\bG (λq=>q=b\/a.heap.size<=q) a W
theorem Hb(e:ap W f)(g:b<W.heap.size)(a:JR b f r):JR b W r:=by
 obtain⟨h,c,d⟩:=a;exact⟨h,(e.cell (p:=⟨b,1,none⟩) g).symm.trans c,d⟩
theorem qK.later(a:qK B b l f W)(c:ap W d):qK B b l f d:=
 ⟨a.1.old c,λg e=>a.2.1 g (Hb c a.1.lt.2 e),a.2.2.trans (aM c λ_=>False) λ_ _ h=>h.elim⟩
theorem qK.wrote{j:List UInt8}(e:qK B b l f W)(a:dC B b j W d)(h:Oh b W d):qK B b j f d:=by
 have p:=e.2.2.size;refine⟨a.1,λk o=>(h.2 k o).elim (e.2.1 k) λm=>by omega,e.2.2.trans (T:=λc=>c=b\/f.heap.size<=c) ⟨a.2.1.os,a.2.1.tape,a.2.1.output,a.2.1.size,λc n i=>h.1 c n (λg=>i (ak g)) λg=>i (am (e.2.1 c g))⟩ λ_ _ m=>m⟩
theorem qK.str(a:qK B b l f W)(s:aq)(c:l.length+s.size<=140737488355328):au 12 #[aC b,ag s] W λe w'=>e=.returned (.tuple #[ae s.size,.nilIface])/\Hid (qK B b (l++s.data.toList) f w'):=
 (mK B b l s W a.1 c (by have:=a.1.lt;omega)).mono λ_ _ k=>⟨k.1,a.wrote k.2.1 k.2.2⟩
theorem qK.nl(a:qK B b l f W)(c:l.length+1<=140737488355328):au 14 #[aC b,.int .u8 10] W λe w'=>e=.returned .nilIface/\Hid (qK B b (l++ [10]) f w'):=
 (py B b l 10 W a.1 c (by have:=a.1.lt;omega)).mono λ_ _ k=>⟨k.1,a.wrote k.2.1 k.2.2⟩
def tu(T:Nat->aq)(j:Nat):List UInt8:=((List.range j).map λi=>(T i).data.toList++ [10]).flatten
theorem yt(T:Nat->aq)(j:Nat):tu T (j+1)=tu T j++(T j).data.toList++ [10]:=by
 unfold tu;rw[List.range_succ];simp
theorem Ck(T:Nat->aq)(j:Nat)(a:∀i,i<j->(T i).size<=70000000):(tu T j).length<=j*70000001:=by
 induction j with
 | zero=>simp[tu]
 | succ j ih=>
  have b:=ih λi e=>a i (by omega);have c:=a j (by omega);have d:=Lib.size_eq (T j);rw[yt];simp only[bm,bt,eU];omega
theorem KR(q s:Nat)(y a b A C:Int)(F:aq)(xa:aw)(G xc N:Nat)(E:Int)(K:Nat)(T:Nat->aq)(w:ah)(D:bE)(bd:aw->Nat->Nat->bE)(ad:q<w.heap.size)(aF:Hid (ai w q 0 (aC s)))(bx:K<=1000)(a9:Hid (∀i,i<K->(T i).size<=70000000))(a2:Hid (∀W,ap w W->au 57 #[aC s] W λe w'=>e=.returned (ae N)/\ap W w'))(aX:Hid (∀W,ap w W->au 58 #[aC s,.agg #[ae y,ae a,ae b,ae A,ae C,ag F,af xa G xc]] W λe w'=>e=.returned (ae E)/\Hid (bG (λb=>b<w.heap.size/\b≠q) W w'/\D w')))(aA:Hid (E=0->∀W aa,D W->ap W aa->W.heap.size<aa.heap.size->au 59 #[aC s,ae N] aa λe w'=>∃a c,e=.returned (af a K c)/\Hid (ap aa w'/\bd a c W.heap.size w')))(Z:Hid (∀a c j B b l m W,j<K->bd a c b m->qK B b l m W->∃g P M O y0 y1 y2 ya yl yc,a=some ⟨g,0,none⟩/\(ai W g (j*7) (ag P)/\ai W g (j*7+1) (ae M)/\ai W g (j*7+2) (ae O)/\ai W g (j*7+3) (ae y0)/\ai W g (j*7+4) (ae y1)/\ai W g (j*7+5) (ag y2)/\ai W g (j*7+6) (af ya yl yc))/\Hid (∀aH,ap W aH->au 60 #[.agg #[ag P,ae M,ae O,ae y0,ae y1,ag y2,af ya yl yc]] aH λe w'=>e=.returned (ag (T j))/\ap aH w'))):au 38 #[aC q,.agg #[ae y,ae a,ae b,ae A,ae C,ag F,af xa G xc]] w λe w'=>e=.returned (.tuple #[ag ⟨(if E=0 then tu T K++ [111,107]else []).toArray⟩,ae E])/\Hid (∃W,D W/\ap W w'):=by
 obtain⟨bc,Q⟩:∃bc:aq,⟨(if E=0 then tu T K++ [111,107]else []).toArray⟩=bc:=⟨_,rfl⟩;rw[Q];go_enter func38,ntmps38;go_upto_region 1 with fail;generalize aP:World.alloc _ _=am;have I:Hid (ap w am):=by
  rw[<-aP];exact aT _ _
 have f:am.heap[w.heap.size]?=some (.cells #[ae y,ae a,ae b,ae A,ae C,ag F,af xa G xc] 78):=by
  rw[<-aP];exact aI _ _
 clear aP;have r:ai am q 0 (aC s):=(I.cell (p:=⟨q,0,none⟩) ad).trans aF;have bb:=av f;clear f;go_wp2_with fail;refine(a2.out am I).mono ?_;rintro e h ⟨rfl,aL⟩;have S:=av (I.trans (aL.mono I.size));have f:=fi aL bb;have r:ai h q 0 (aC s):=(S.cell (p:=⟨q,0,none⟩) ad).trans aF;have az:=av (λW (ab:ap h W)=>aX.out W (S.out.trans (ab.mono S.out.size)));clear a2 aX aL bb I S;have x:=(aN.1 f).1;obtain⟨d,ak⟩:∃d,w.heap.size=d:=⟨_,rfl⟩;rw[ak]at f x az ad;have d0:ai h d 0 (ae y):=aj f 0;have d1:ai h d 1 (ae a):=aj f 1;have d2:ai h d 2 (ae b):=aj f 2;have d3:ai h d 3 (ae A):=aj f 3;have d4:ai h d 4 (ae C):=aj f 4;have d5:ai h d 5 (ag F):=aj f 5;have d6:ai h d 6 (af xa G xc):=aj f 6;clear f;have X:Hid (∀W,bG (λb=>b<d/\b≠q) h W->ai W q 0 (aC s)/\ai W d 0 (ae y)/\ai W d 1 (ae a)/\ai W d 2 (ae b)/\ai W d 3 (ae A)/\ai W d 4 (ae C)/\ai W d 5 (ag F)/\ai W d 6 (af xa G xc)):=λW ab=>by
  have k:∀o,W.cell? ⟨d,o,none⟩=h.cell? ⟨d,o,none⟩:=λo=>ab.cell o x (by omega);exact⟨(ab.cell 0 (by omega) (by omega)).trans r,(k 0).trans d0,(k 1).trans d1,(k 2).trans d2,(k 3).trans d3,(k 4).trans d4,(k 5).trans d5,(k 6).trans d6⟩
 have ar:Hid (ap h h.drew):=(aE _ _).drew;have aB:Hid (bG (λb=>b<d/\b≠q) h h.drew):=aM ar _;have a4:Hid (q<h.heap.size):=(by omega:q<h.heap.size);clear r d0 d1 d2 d3 d4 d5 d6 x ad;go_upto_region 2 with fail
 go_region_held3 (λW=>W.cell? ⟨q,0,none⟩=some (aC s)/\W.cell? ⟨d,0,none⟩=some (ae y)/\W.cell? ⟨d,1,none⟩=some (ae a)/\W.cell? ⟨d,2,none⟩=some (ae b)/\W.cell? ⟨d,3,none⟩=some (ae A)/\W.cell? ⟨d,4,none⟩=some (ae C)/\W.cell? ⟨d,5,none⟩=some (ag F)/\W.cell? ⟨d,6,none⟩=some (af xa G xc)) (first|exact X _ aB|exact X _ V) ((first
  | (go_at_call 58;refine(az.out _ ar).mono ?_;rintro e m ⟨rfl,an⟩;have V:=av (aB.out.trans an.1 λ_ _ bj=>bj))))
 have r:=(X.out _ V).1;have a3:Hid (q<m.heap.size):=aY a4.out V.out.size;have ax:=av an.2;clear X az ar aB V a4 an aF ak;by_cases aJ:E=0;rotate_left
 ·have bw:(E !=0)=true:=by simpa using aJ
  rw[if_neg aJ]at Q;subst Q;clear aA Z;go_wp2_with fail
  go_ret2
  exact⟨rfl,_,ax,aE _ _⟩
 subst aJ;rw[if_pos rfl]at Q;subst Q;have a0:=av (aA.out rfl m);clear aA;go_upto_region 6 with fail;generalize al:World.alloc _ _=R;have J:Hid (ap m R):=by
  rw[<-al];exact aT _ _
 have Y:Hid (Bu m.heap.size m.heap.size [] R):=by
  rw[<-al];exact Lib.IsBuilderF.of (Lib.fresh_isBuilder 38 5 m)
 have aV:Hid (ai R m.heap.size 1 (af none 0 0)):=by
  rw[<-al];exact aj (aI _ _) 1
 have aZ:=av (a0.out R ax J Y.out.lt.2);have r:ai R q 0 (aC s):=(J.cell (p:=⟨q,0,none⟩) a3).trans r;clear al a0;go_wp2_with fail;refine aZ.mono ?_;rintro e z ⟨bH,bI,rfl,H⟩;have bk:=av (J.trans (H.1.mono J.size));have U:Hid (qK m.heap.size m.heap.size (tu T 0) z z):=by
  refine⟨Y.out.old H.1,λd ak=>?_,bG.refl _ _⟩;obtain⟨bJ,be,bt⟩:=ak;rw[(H.1.cell (p:=⟨m.heap.size,1,none⟩) Y.out.lt.2).trans aV]at be;obtain rfl:=aG be;cases bt
 have a1:Hid (m.heap.size<z.heap.size):=U.out.1.lt.2;have ba:=av H.2;clear aZ J Y aV r H a3;obtain⟨t,aO⟩:∃t,m.heap.size=t:=⟨_,rfl⟩;have aS:=av aO;rw[aO]at U ba a1 ⊢;clear aO;go_wp2_with fail;go_loopw [10,32] (λ_ i wr=>∃(j:Nat),j<=K/\i=ae j/\Hid (qK t t (tu T j) z wr)) (λ_ i _=>K-(intOf i).toNat)
 case atStart=>exact⟨0,aK _,rfl,U.out⟩
 case round=>
 clear U;obtain⟨j,bB,rfl,L⟩:=hrel;have aD:=av (Ck T j λi bA=>a9.out i (by omega));by_cases x:j<K
 ·obtain⟨g,P,M,O,y0,y1,y2,ya,yl,yc,rfl,⟨r,bn,bo,bp,bq,br,bs⟩,aU⟩:=Z.out _ _ j _ _ _ z wr x ba L.out;have bC:(0:Int)<=(j:Int):=by omega
  have bD:(j:Int)<(K:Int):=by omega
  have a8:=av (a9.out j x);clear Z;go_upto_region 9 with fail;generalize aQ:World.alloc _ _=n;have ao:Hid (ap wr n):=by
   rw[<-aQ];exact aT _ _
  have f:n.heap[wr.heap.size]?=some (.cells #[ag P,ae M,ae O,ae y0,ae y1,ag y2,af ya yl yc] 101):=by
   rw[<-aQ];exact aI _ _
  have a5:=av (L.out.later ao);have aW:=av (aU.out n ao);clear aQ L aU r bn bo bp bq br bs ao;generalize wr.heap.size=u at*;have d0:ai n u 0 (ag P):=aj f 0;have d1:ai n u 1 (ae M):=aj f 1;have d2:ai n u 2 (ae O):=aj f 2;have d3:ai n u 3 (ae y0):=aj f 3;have d4:ai n u 4 (ae y1):=aj f 4;have d5:ai n u 5 (ag y2):=aj f 5;have d6:ai n u 6 (af ya yl yc):=aj f 6;clear f;go_wp2_with fail;refine aW.mono ?_;rintro e bK ⟨rfl,bf⟩;have a6:=av (a5.out.later bf);clear bf a5 aW d0 d1 d2 d3 d4 d5 d6;go_wp2_with fail;refine(a6.out.str (T j) (by have:=aD.out;have:=a8.out;omega)).mono ?_;rintro e aR ⟨rfl,v⟩;go_wp2_with fail;refine(v.out.nl (by have:=aD.out;have:=a8.out;have:=Lib.size_eq (T j);simp only[bm];omega)).mono ?_;rintro e bi ⟨rfl,a7⟩;rw[<-yt]at a7;clear a6 v;go_wp2_with fail;go_roundw
  case rel=>exact⟨j+1,by omega,by go_num,a7.out⟩
  case measure=>simp[intOf];omega
 ·obtain rfl:j=K:=by omega
  clear Z;go_wp2_with fail;refine(L.out.str ⟨#[111,107]⟩ (by have:=aD.out;show (tu T j).length+2<=_;omega)).mono ?_;rintro e aR ⟨rfl,v⟩;clear L;go_wp2_with fail;refine(Tryz.Builder_String_any_k t t (tu T j++ [111,107]) aR v.out.1 (by have:=v.out.1.lt;omega)).mono ?_;rintro e bi ⟨rfl,_,bg,_⟩;have bl:Hid (Below t m bi):=by
   have bh:=bk.out;have bu:=v.out.2.2;have bF:=a1.out;have bv:Below t z aR:=bu.below (by omega) λb bz bj=>by omega
   have e:=aS.out;rw[e]at bh;exact(bh.trans bv).trans (bg.mono (ay _))
  clear bg;go_wp2_with fail
  go_ret2
  exact⟨rfl,_,ax,by rw[aS.out];exact bl⟩
def tY(r:Nat)(a:ah)(v:ax)(l:bj)(W:ah):Prop:=W.ownsRow r 9 1 v l.length (l.map Value.string)/\(∀b,v.ownBlock=some b->b=r\/a.heap.size<=b)/\bG (λb=>b=r\/a.heap.size<=b) a W/\r<=a.heap.size
theorem tY.later{l:bj}(a:tY r f v l W)(b:ap W d):tY r f v l d:=
 ⟨dT a.1 b,a.2.1,a.2.2.1.trans (aM b λ_=>False) λ_ _ c=>c.elim,a.2.2.2⟩
theorem tY.grown{e:ax}{l c:bj}(a:tY r f v l W)(h:d.ownsRow r 9 1 e c.length (c.map Value.string))(i:W.grownBy d v.ownBlock)(j:∀b,e.ownBlock=some b->v.ownBlock=some b\/W.heap.size<=b):tY r f e c d:=by
 have m:=a.2.2.1.size;exact⟨h,λb k=>(j b k).elim (a.2.1 b) λg=>by omega,a.2.2.1.trans (eu i) λb _ g=>a.2.1 b g,a.2.2.2⟩
theorem tY.below{r:Nat}{w c W:ah}{v:ax}{l:bj}(d:tY r c v l W)(a:ap w c)(f:w.heap.size=r):ap w W:=a.trans (d.2.2.1.below a.size λb e g=>by have:=a.size;omega)
theorem tY.cells{r:Nat}{i W:ah}{v:ax}{l:bj}(b:tY r i v l W)(d:l≠[]):∃g c,v=af (some ⟨g,0,none⟩) l.length c/\g<W.heap.size/\l.length<=c/\∀(j:Nat) x,l[j]?=some x->ai W g (0+j) (ag x):=by
 rcases b.1.2 with⟨_,a⟩|⟨g,c,k,a,_,f,e,_⟩
 ·exact absurd (bZ a) d
 ·subst a;refine⟨g,c,rfl,(aN.1 f).1,e,λj x h=>?_⟩;have:=World.ownsRow.cells b.1 (g:=g) rfl j (ag x) (by rw[df,h];rfl);rw[cw];rw[show (⟨g,0,none⟩:Addr).add j=⟨g,j,none⟩ by simp only[Addr.add,cw];split<;>simp_all]at this;exact this
theorem tY.more{a:ah}{l:bj}{g:Nat}(h:tY r f v l d)(e:ap d W)(m:l.length=n)(i:a.ownsRow r 9 1 (af (some ⟨g,0,none⟩) (n+1) c) (n+1) (l.map Value.string++ [ag s]))(j:W.grownBy a v.ownBlock)(k:v.ownBlock=some g\/g=W.heap.size):tY r f (af (some ⟨g,0,none⟩) (n+1) c) (l++ [s]) a:=by
 refine(h.later e).grown ?_ j λb e=>?_
 ·rw[bm,m,ft];exact i
 ·obtain rfl:g=b:=by simpa [Value.ownBlock]using e
  exact k.imp id λo=>by omega
def Bn(a:List Int)(j:Nat):List aq:=gz::(a.take j).map λk=>⟨(Lib.itoa k).toArray⟩
theorem J6{k:Int}(a:m[j]?=some k):Bn m (j+1)=Bn m j++ [⟨(Lib.itoa k).toArray⟩]:=by
 unfold Bn;rw[dJ,a];simp
theorem mq(a:j<=m.length):(Bn m j).length=j+1:=by
 unfold Bn;simp;omega
theorem FY(a:m.length=n):Lib.join ((Bn m n).map (·.data.toList)) [32]=qM m:=by
 unfold Bn qM;rw[bF (by omega)];simp[Function.comp_def]
theorem wg(b:List UInt8)(m:Nat):(l:List (List UInt8))->(∀x∈l,x.length+b.length<=m)->(Lib.join l b).length<=l.length*m
 | [],_=>by simp[Lib.join_nil]
 | x::l,a=>by
  rw[Lib.join_cons];have key:∀l:List (List UInt8),(∀x∈l,x.length+b.length<=m)->(Lib.joinTail b l).length<=l.length*m:=by
   intro l
   induction l with
   | nil=>simp[Lib.joinTail]
   | cons g l ih=>
    intro a;have e:=ih λd c=>a d (by simp[c]);have f:=a g (by simp);unfold Lib.joinTail at e ⊢;simp only[bz,List.flatten_cons,bm,bt,Nat.add_mul];omega
  have e:=key l λd c=>a d (by simp[c]);have f:=a x (by simp);simp only[bm,bt,Nat.add_mul];omega
theorem xV(c:∀k∈m,dm k)(j:Nat):∀x∈(Bn m j).map (·.data.toList),x.length+([32]:List UInt8).length<=30:=λx e=>by
 obtain⟨s,a,rfl⟩:=b9.1 e;unfold Bn at a;rcases co.1 a with rfl|a
 ·decide
 ·obtain⟨k,d,rfl⟩:=b9.1 a;have b:=c k (List.mem_of_mem_take d);have:=Lib.itoa_length_le k b.1 b.2;simp;omega
theorem BN(q N:Nat)(f:List Int)(n:Nat)(w:ah)(aP:q<w.heap.size)(V:Hid (ai w q 0 (aC N)))(j:Hid (f.length=n))(a2:n<=100)(Q:Hid (∀k∈f,dm k))(aQ:xz w.heap.size w)(O:Hid (∀W,ap w W->w.heap.size<W.heap.size->au 64 #[aC N] W λe w'=>∃a c,e=.returned (af a n c)/\Hid (ap W w'/\∀i k,f[i]?=some k->∃g,a=some ⟨g,0,none⟩/\W.heap.size<=g/\g<w'.heap.size/\ai w' g i (ae k)))):au 40 #[aC q] w λe w'=>e=.returned (ag ⟨(qM f).toArray⟩)/\ap w w':=by
 obtain⟨aU,hit,ar,aw,ax⟩:=bR lS;have A:=av (⟨hit,ar,aw,ax⟩:_/\_/\_/\_);clear hit ar aw ax;go_enter func40,ntmps40;go_upto_region 2 with fail;generalize M:World.alloc _ _=t;have m:Hid (ap w t/\w.heap.size<t.heap.size):=by
  rw[<-M];exact⟨aT _ _,by simp⟩
 have T:Hid (t.ownsRow w.heap.size 9 1 (af (some ⟨w.heap.size,0,none⟩) 1 1) 1 [ag gz]):=by
  rw[<-M];exact NI _ (ay _) rfl
 have aG:ai t q 0 (aC N):=(m.out.1.cell (p:=⟨q,0,none⟩) aP).trans V;clear M;go_wp2_with fail;refine(O.out t m.out.1 m.out.2).mono ?_;rintro e E ⟨a,c,rfl,v⟩;have x:=av (m.out.1.trans (v.out.1.mono m.out.1.size));have P:=av v.out.2;have G:Hid (tY w.heap.size E (af (some ⟨w.heap.size,0,none⟩) 1 1) (Bn f 0) E):=⟨dT T v.out.1,λb aM=>ak (by simpa [Value.ownBlock]using aM.symm),bG.refl _ _,x.out.size⟩;have X:=av m.out.2;clear O v m T aG V;obtain⟨o,L⟩:∃o,w.heap.size=o:=⟨_,rfl⟩;have z:=av L;rw[L]at G X ⊢;clear L;go_wp2_with fail;go_loopw [3,5,13] (λaA _ i wr=>∃(d g C:Nat),d<=n/\i=ae d/\aA=af (some ⟨g,0,none⟩) (d+1) C/\Hid (tY o E aA (Bn f d) wr)) (λ_ _ i _=>n-(intOf i).toNat)
 case atStart=>exact⟨0,o,1,aK _,rfl,rfl,G.out⟩
 case round=>
 clear G;obtain⟨d,g,C,a1,rfl,rfl,h⟩:=hrel;by_cases aN:d<n
 ·obtain⟨k,D⟩:∃k,f[d]?=some k:=⟨_,aS (by rw[j.out];exact aN)⟩;obtain⟨aJ,rfl,aL,aa,ab⟩:=P.out d k D;have a3:(0:Int)<=(d:Int):=by omega
  have a4:(d:Int)<(n:Int):=by omega
  have aH:ai wr aJ d (ae k):=(h.out.2.2.1.cell d aa (by have:=X.out;omega)).trans ab;have J:=Q.out k (aR D);have R:=av (jS k J.1 J.2 w.heap.size wr (aQ.on (h.out.below x z)));have aF:=av D;clear D J aL aa ab;go_wp2_with fail;refine R.mono ?_;rintro e u ⟨rfl,r⟩;have y:=av r;have U:Hid (u.ownsRow o 9 1 (af (some ⟨g,0,none⟩) (d+1) C) (d+1) ((Bn f d).map Value.string)):=by
   have:=(h.out.later r).1;rw[mq (by rw[j.out];omega)]at this;exact this
  have S:=av (J6 aF.out);obtain⟨B,ad⟩:∃B:aq,⟨(Lib.itoa k).toArray⟩=B:=⟨_,rfl⟩;rw[ad]at S ⊢;clear r R aH ad;go_wp2_with (at_builtin;refine wpList_append_lies _ rfl _ _ 23 rfl o 9 aU _ 1 16 underlying23 A.1 A.2.1 A.2.2.1 A.2.2.2 rfl (by decide) _ (d+1) _ rfl (U.out.alloc _) ⟨u.heap.size,0,none⟩ 1 1 [ag B] rfl rfl (lY u B) (by intro a5 az;simp at az;subst az;rfl) (by decide) (by unfold maxLen;omega) (by omega) (by have I:=y.out.size;have aZ:=(h.out.below x z).size;have a0:=z.out;simp;omega) (u.heap.size+1) (by simp) ?_;intro Z Y aV ao an aj aO);have aE:Hid (tY o E (af (some ⟨Z,0,none⟩) (d+1+1) Y) (Bn f (d+1)) aV):=by
   have:=h.out.more (y.out.trans (aT _ _ |>.mono y.out.size)) (mq (by rw[j.out];omega)) ao an (aj.imp id λaW=>by rw[fN];exact aW);rw[<-S.out]at this;exact this
  clear ao an aj aO U y h;go_wp2_with fail;go_roundw
  case rel=>exact⟨d+1,Z,Y,by omega,by go_num,rfl,aE.out⟩
  case measure=>simp[intOf];omega
 ·obtain rfl:d=n:=by omega
  have F:=av (h.out.below x z);obtain⟨aY,aX,e,am,K,al⟩:=h.out.cells (by unfold Bn;simp);rw[mq (by rw[j.out];omega)]at e K;injection e with s _ aI;injection s with s;injection s with s;subst s aI
  have H:=av (Tryz.strings_Join g 0 C (Bn f d) ⟨#[32]⟩ wr al am (by rw[mq (by rw[j.out];omega)];omega) (by rw[mq (by rw[j.out];omega)];exact K) (by
   have I:=wg [32] 30 ((Bn f d).map (·.data.toList)) (xV Q.out d);rw[cD,mq (by rw[j.out];omega)]at I
   exact aD I (by omega)))
  rw[mq (by rw[j.out];omega)]at H;clear am K al P h;go_wp2_with fail;refine H.mono ?_;rintro e u ⟨rfl,r⟩;have aB:=av (F.out.trans (r.mono F.out.size));clear r H F;go_wp2_with fail
  go_ret
  exact⟨congrArg (λl=>Ending.returned (ag ⟨List.toArray l⟩)) (FY j.out),aB⟩
def Be(nm S:aq)(T:Nat->aq)(j:Nat):List aq:=nm::S::(List.range j).map T
theorem oq(nm S:aq)(T:Nat->aq)(j:Nat):(Be nm S T j).length=j+2:=by simp[Be]
theorem LW(nm S:aq)(T:Nat->aq)(j:Nat):Be nm S T (j+1)=Be nm S T j++ [T j]:=by simp[Be,List.range_succ]
theorem zg{nm S:aq}{T:Nat->aq}(g:nm.size<=8)(c:S.size<=60000000)(d:∀i,i<j->(T i).size<=60000000):(Lib.join ((Be nm S T j).map (·.data.toList)) [32]).length<=(j+2)*60000001:=by
 have:=wg [32] 60000001 ((Be nm S T j).map (·.data.toList)) λl f=>by
  obtain⟨b,a,rfl⟩:=b9.1 f;have h:=Lib.size_eq b;have k:b.size<=60000000:=by
   unfold Be at a;rcases co.1 a with rfl|a
   ·omega
   ·rcases co.1 a with rfl|a
    ·exact c
    ·obtain⟨i,e,rfl⟩:=b9.1 a;exact d i (List.mem_range.1 e)
  simp only[bt,eU];omega
 rw[cD,oq]at this;exact this
theorem Dy(w:ah)(a b:aq)(c:r<=w.heap.size):(w.alloc (.cells #[ag a,ag b] 9)).ownsRow r 9 1 (af (some ⟨w.heap.size,0,none⟩) 2 2) 2 [ag a,ag b]:=
 ⟨rfl,.inr ⟨w.heap.size,2, #[ag a,ag b],rfl,c,aI w _,ay _,by unfold maxLen;omega,rfl,rfl⟩⟩
theorem vQ(q aY:Nat)(a E:Int)(nm S:aq)(d:Nat)(T:Nat->aq)(w:ah)(ay:Int->Int->aq->aw->Nat->Nat->bE)(ax:aw->bE)(ao:Hid (ai w q 0 (aC aY)))(bt:d<=1000)(aF:nm.size<=8)(aG:S.size<=60000000)(bc:Hid (∀i,i<d->(T i).size<=60000000))(an:Hid (au 61 #[aC aY,ae a] w λe w'=>∃y0 y1 y2 ya yl yc ma aX,e=.returned (.tuple #[ag nm,.agg #[ae y0,ae y1,ag y2,af ya yl yc],af ma d aX,ae E])/\Hid (ap w w'/\(E=0->ay y0 y1 y2 ya yl yc w'/\ax ma w'))))(N:Hid (∀y0 y1 y2 ya yl yc W h,ay y0 y1 y2 ya yl yc W->ap W h->au 62 #[.agg #[ae y0,ae y1,ag y2,af ya yl yc]] h λe w'=>e=.returned (ag S)/\ap h w'))(C:Hid (∀ma j W h,j<d->ax ma W->ap W h->∃g o y0 y1 y2 ya yl yc,ma=some ⟨g,o,none⟩/\(ai h g (o+j*4) (ae y0)/\ai h g (o+j*4+1) (ae y1)/\ai h g (o+j*4+2) (ag y2)/\ai h g (o+j*4+3) (af ya yl yc))/\Hid (∀P,ap h P->au 62 #[.agg #[ae y0,ae y1,ag y2,af ya yl yc]] P λe w'=>e=.returned (ag (T j))/\ap P w'))):au 39 #[aC q,ae a] w λe w'=>e=.returned (.tuple #[ag ⟨(if E=0 then Lib.join ((Be nm S T d).map (·.data.toList)) [32]else []).toArray⟩,ae E])/\ap w w':=by
 obtain⟨bk,hit,aR,aS,aU⟩:=bR lS;have D:=av (⟨hit,aR,aS,aU⟩:_/\_/\_/\_);clear hit aR aS aU;obtain⟨az,s⟩:∃az:aq,⟨(if E=0 then Lib.join ((Be nm S T d).map (·.data.toList)) [32]else []).toArray⟩=az:=⟨_,rfl⟩;rw[s];have bd:=ao.out;go_enter func39,ntmps39;go_wp2_with fail;refine an.out.mono ?_;rintro e k ⟨y0,y1,y2,ya,yl,yc,ma,aX,rfl,J⟩;have u:=av J.out.1;have B:=av J.out.2;clear an J bd ao;go_upto_region 2 with fail;generalize Y:World.alloc _ _=m;have p:Hid (ap k m):=by
  rw[<-Y];exact aT _ _
 have c:m.heap[k.heap.size]?=some (.cells #[ae y0,ae y1,ag y2,af ya yl yc] 54):=by
  rw[<-Y];exact aI _ _
 clear Y;by_cases R:E=0;rotate_left
 ·have br:(E !=0)=true:=by simpa using R
  rw[if_neg R]at s;subst s;have v:=av (u.out.trans (p.out.mono u.out.size));clear N C B c u p;go_wp2_with fail
  go_ret2
  exact⟨rfl,v⟩
 subst R;rw[if_pos rfl]at s;have ar:=av (N.out _ _ _ _ _ _ k m (B.out rfl).1 p);have a9:=av (B.out rfl).2;clear N B;obtain⟨f,t⟩:∃f,k.heap.size=f:=⟨_,rfl⟩;have M:=av t;rw[t]at c;have d0:ai m f 0 (ae y0):=aj c 0;have d1:ai m f 1 (ae y1):=aj c 1;have d2:ai m f 2 (ag y2):=aj c 2;have d3:ai m f 3 (af ya yl yc):=aj c 3;have ba:=av s;rw[t];clear c t s;go_wp2_with fail;refine ar.out.mono ?_;rintro e H ⟨rfl,aL⟩;have r:=av (p.out.trans (aL.mono p.out.size));clear aL ar p d0 d1 d2 d3;go_upto_region 5 with fail;generalize aW:World.alloc _ _=a0;have ad:Hid (tY f k (af (some ⟨H.heap.size,0,none⟩) 2 2) (Be nm S T 0) a0):=by
  have bh:=r.out.size;have t:=M.out;rw[<-aW];refine⟨Dy H nm S (by omega),λb U=>am ?_,⟨r.os,r.tape,r.output,?_,λb U _=>(fw H _ (by omega)).trans (r.out.block b U)⟩,cQ t.symm⟩
  ·simp[Value.ownBlock]at U;omega
  ·simp;omega
 clear aW r;generalize H.heap.size=bg at*;go_wp2_with fail;go_loopw [10,12,33] (λaZ _ i wr=>∃(j g G:Nat),j<=d/\i=ae j/\aZ=af (some ⟨g,0,none⟩) (j+2) G/\Hid (tY f k aZ (Be nm S T j) wr)) (λ_ _ i _=>d-(intOf i).toNat)
 case atStart=>exact⟨0,bg,2,aK _,rfl,rfl,ad.out⟩
 case round=>
 clear ad;obtain⟨j,g,G,bs,rfl,rfl,x⟩:=hrel;have O:Hid (ap k wr):=x.out.below (aE _ _) M;by_cases bi:j<d
 ·obtain⟨bq,bw,a1,a2,a3,a4,a6,a5,rfl,⟨be,l,bf,Q⟩,aa⟩:=C.out _ j k wr bi a9 O;have bu:(0:Int)<=(j:Int):=by omega
  have bv:(j:Int)<(d:Int):=by omega
  clear C;go_upto_region 8 with fail;generalize Z:World.alloc _ _=n;have z:Hid (ap wr n):=by
   rw[<-Z];exact aT _ _
  have c:n.heap[wr.heap.size]?=some (.cells #[ae a1,ae a2,ag a3,af a4 a6 a5] 54):=by
   rw[<-Z];exact aI _ _
  have ab:=av (aa.out n z);have K:=av (x.out.later z);have bb:=av (aD O.out.size z.out.size);clear Z aa be l bf Q x z;generalize wr.heap.size=y at*;have d0:ai n y 0 (ae a1):=aj c 0;have d1:ai n y 1 (ae a2):=aj c 1;have d2:ai n y 2 (ag a3):=aj c 2;have d3:ai n y 3 (af a4 a6 a5):=aj c 3;clear c;go_wp2_with fail;refine ab.out.mono ?_;rintro e I ⟨rfl,V⟩;have A:=av V;have al:Hid (I.ownsRow f 9 1 (af (some ⟨g,0,none⟩) (j+2) G) (j+2) ((Be nm S T j).map Value.string)):=by
   have:=(K.out.later V).1;rw[oq]at this;exact this
  obtain⟨F,aH⟩:∃F,T j=F:=⟨_,rfl⟩;have ak:=av (LW nm S T j);rw[aH]at ak ⊢;clear V ab d0 d1 d2 d3 aH;go_wp2_with (at_builtin;refine wpList_append_lies _ rfl _ _ 23 rfl f 9 bk _ 1 16 underlying23 D.1 D.2.1 D.2.2.1 D.2.2.2 rfl (by decide) _ (j+2) _ rfl (al.out.alloc _) ⟨I.heap.size,0,none⟩ 1 1 [ag F] rfl rfl (lY I F) (by intro y aV;simp at aV;subst aV;rfl) (by decide) (by unfold maxLen;omega) (by omega) (by have aF:=A.out.size;have aG:=bb.out;have bh:=M.out;simp;omega) (I.heap.size+1) (by simp) ?_;intro aB aA bm aQ aP aJ bj);have a8:Hid (tY f k (af (some ⟨aB,0,none⟩) (j+2+1) aA) (Be nm S T (j+1)) bm):=by
   have:=K.out.more (A.out.trans (aT _ _ |>.mono A.out.size)) (oq nm S T j) aQ aP (aJ.imp id λbn=>by rw[fN];exact bn);rw[<-ak.out]at this;exact this
  clear aQ aP aJ bj al A K;go_wp2_with fail;go_roundw
  case rel=>exact⟨j+1,aB,aA,by omega,by go_num,rfl,a8.out⟩
  case measure=>simp[intOf];omega
 ·obtain rfl:j=d:=by omega
  have v:=av (u.out.trans (O.out.mono u.out.size));obtain⟨bp,bo,e,aO,X,aN⟩:=x.out.cells (by unfold Be;simp);rw[oq]at e X;injection e with l _ Q;injection l with l;injection l with l;subst l Q;have L:=av (Tryz.strings_Join g 0 G (Be nm S T j) ⟨#[32]⟩ wr aN aO (by rw[oq];omega) (by rw[oq];exact X) (aD (zg aF aG bc.out) (by omega)));rw[oq]at L;clear aO X aN C x;go_wp2_with fail;refine L.out.mono ?_;rintro e a0 ⟨rfl,aM⟩;have a7:=av (v.out.trans (aM.mono v.out.size));clear aM L v;go_wp2_with fail
  go_ret2
  exact⟨congrArg (λbl=>Ending.returned (.tuple #[ag bl,ae 0])) ba.out,a7⟩
theorem Am(a:Nat)(b:aw)(L c:Nat)(w:ah)(d:ai w a 6 (af b L c)):au 57 #[aC a] w λe w'=>e=.returned (ae L)/\w'=w:=by
 go_enter func57,ntmps57;go_wp2_with fail
 go_ret
 exact⟨rfl,rfl⟩
theorem xb(a t:aq)(n:Nat)(w:ah)(R:Nat->bE)(j:Hid (¬65536<a.size->au 21 #[ag a,ag ⟨#[10]⟩] w λe w'=>e=.returned (ag t)/\w'=w))(i:Hid (au 20 #[ag t,ag ⟨#[10]⟩] w λe w'=>∃g,e=.returned (af (some ⟨g,0,none⟩) n n)/\Hid (ap w w'/\R g w'))):au 9 #[ag a] w λe w'=>((65536<a.size\/200<n)/\e=.returned (.tuple #[af none 0 0,ae 2])/\ap w w')\/(¬(65536<a.size\/200<n)/\∃g,e=.returned (.tuple #[af (some ⟨g,0,none⟩) n n,ae 0])/\Hid (ap w w'/\R g w')):=by
 obtain⟨b,l⟩:∃b:Prop,(65536<a.size\/200<n)=b:=⟨_,rfl⟩;rw[l];have c:=av l;clear l;go_enter func9,ntmps9;by_cases f:65536<a.size
 ·have o:(65536:Int)<a.size:=by omega
  have d:Hid b:=by
   show b;rw[<-c.out];exact ak f
  clear j i c f;go_wp2_with fail
  go_ret2
  exact ak ⟨d.out,rfl,aE _ _⟩
 ·have o:¬(65536:Int)<a.size:=by omega
  have m:=av (j.out f);clear j;go_wp2_with fail;refine m.out.mono ?_;rintro e q ⟨rfl,rfl⟩;go_wp2_with fail;refine i.out.mono ?_;rintro e r ⟨g,rfl,h⟩;clear m i;by_cases k:200<n
  ·have p:(200:Int)<n:=by omega
   have d:Hid b:=by
    show b;rw[<-c.out];exact am k
   have HB:=av h.out.1;clear c f k h;go_wp2_with fail
   go_ret2
   exact ak ⟨d.out,rfl,HB⟩
  ·have p:¬(200:Int)<n:=by omega
   have d:Hid (¬b):=by
    show¬b;rw[<-c.out];omega
   clear c f k;go_wp2_with fail
   go_ret2
   exact am ⟨d.out,g,rfl,h⟩
theorem yj(X:aq)(n:Nat)(C:Prop)(d H:Nat->aq)(R o:aq)(w:ah)(S:Nat->bE)(a N O:Nat->Nat->Nat->bE)(F:bE)(am:n<=1000000000)(ak:o.size<=100)(D:Hid (au 9 #[ag X] w λe w'=>(C/\e=.returned (.tuple #[af none 0 0,ae 2])/\ap w w')\/(¬C/\∃g,e=.returned (.tuple #[af (some ⟨g,0,none⟩) n n,ae 0])/\Hid (ap w w'/\S g w'))))(f:Hid (C->∀W,ap w W->au 10 #[ae 2] W λe w'=>e=.returned (ag o)/\Hid (o++ ⟨#[10]⟩=R/\F w')))(s:Hid (¬C->∀g W,ap w W->S g W->a g W.heap.size 0 ((W.alloc (.cells #[.pointer none] 34)).alloc (.cells #[.pointer none,af none 0 0] 38))))(k:Hid (∀g q j W,j<n->a g q j W->ai W g j (ag (d j))))(l:Hid (∀g q j W,j<n->a g q j W->mh (d j)=false->a g q (j+1) W))(i:Hid (∀g q j W,j<n->a g q j W->mh (d j)=true->au 13 #[aC q,ag (d j)] W λe w'=>e=.returned (ag (H j))/\Hid (N g q j w')))(m:Hid (∀g q j W,j<n->N g q j W->au 12 #[.pointer (some ⟨q+1,0,none⟩),ag (H j)] W λe w'=>∃v,e=.returned v/\Hid (O g q j w')))(HB:Hid (∀g q j W,j<n->O g q j W->au 14 #[.pointer (some ⟨q+1,0,none⟩),.int .u8 10] W λe w'=>∃v,e=.returned v/\Hid (a g q (j+1) w')))(z:Hid (¬C->∀g q W,a g q n W->au 15 #[.pointer (some ⟨q+1,0,none⟩)] W λe w'=>e=.returned (ag R)/\Hid (F w'))):au 5 #[ag X] w λe w'=>e=.returned (ag R)/\Hid (F w'):=by
 go_enter func5,ntmps5;go_wp2_with fail;refine D.out.mono ?_;rintro e r (⟨p,rfl,U⟩|⟨p,g,rfl,t⟩)
 ·have K:=av (f.out p r U);have ar:¬9223372036854775807<o.size+1:=by omega
  clear D f s k l i m HB z U;go_wp2_with fail;refine K.out.mono ?_;rintro e Y ⟨rfl,u⟩;have b:=av u.out.1;have aa:=av u.out.2;clear u K;go_wp2_with fail
  go_ret
  exact⟨congrArg (λaj=>Ending.returned (ag aj)) b.out,aa⟩
 ·have L:=av (s.out p g r t.out.1 t.out.2);have A:=av (z.out p g);clear D f s z t;go_upto_region 6 with fail;generalize V:World.alloc _ _=Y;have M:Hid (a g r.heap.size 0 Y):=by
   rw[<-V];exact L.out
  clear V L;generalize r.heap.size=q at*;go_wp2_with fail;go_loopw [8,21] (λ_ G wr=>∃(j:Nat),j<=n/\G=ae j/\Hid (a g q j wr)) (λ_ G _=>n-(intOf G).toNat)
  case atStart=>exact⟨0,aK _,rfl,M.out⟩
  case round=>
  clear M;obtain⟨j,al,rfl,b⟩:=hrel;by_cases h:j<n
  ·have T:=k.out g q j wr h b;have an:(0:Int)<=(j:Int):=by omega
   have ao:(j:Int)<(n:Int):=by omega
   have B:=av (l.out g q j wr h b);have x:=av (i.out g q j wr h b);have E:=av (λW=>m.out g q j W h);have y:=av (λW=>HB.out g q j W h);have c:=av (Pf (d j) wr);clear k l i m HB A b;cases hon:mh (d j)
   ·have f:=av (B.out hon);rw[hon]at c;clear B x E y hon;go_wp2_with fail;refine c.out.mono ?_;rintro e Z ⟨rfl,rfl⟩;clear c T;go_wp2_with fail;go_roundw
    case rel=>exact⟨j+1,by omega,by go_num,f.out⟩
    case measure=>simp[intOf];omega
   ·have I:=av (x.out hon);rw[hon]at c;clear B x hon;go_wp2_with fail;refine c.out.mono ?_;rintro e Z ⟨rfl,rfl⟩;clear c T;go_wp2_with fail;refine I.out.mono ?_;rintro e ay ⟨rfl,P⟩;clear I;go_wp2_with fail;refine(E.out _ P).mono ?_;rintro e az ⟨aw,rfl,Q⟩;clear E P;go_wp2_with fail;refine(y.out _ Q).mono ?_;rintro e aA ⟨ax,rfl,ad⟩;clear y Q;go_wp2_with fail;go_roundw
    case rel=>exact⟨j+1,by omega,by go_num,ad.out⟩
    case measure=>simp[intOf];omega
  ·obtain rfl:j=n:=by omega
   have J:=av (A.out q wr b);clear k l i m HB A b;go_wp2_with fail;refine J.out.mono ?_;rintro e Z ⟨rfl,ab⟩;clear J;go_wp2_with fail
   go_ret
   exact⟨rfl,ab⟩
end Go.Proofs.YthjclakhibnamaaGreatDoor
