/- Proved here: plain facts and contracts. No condition but what each names. -/
import Derived.Test.YthjclakhibnamaaGreatDoorD11
import Derived.Lib.Split
import Derived.Lib.Join
import Derived.Lib.Strings
namespace Go.Proofs.YthjclakhibnamaaGreatDoor
open Go.RowKit Go.Proofs.Tryz
open Go.RowKit Go.Maps
set_option maxHeartbeats 2000000
set_option maxRecDepth 100000
def QK:aq:=⟨#[32]⟩
def G6:aq:=⟨#[10]⟩
def OT(s:aq)(r:Int×Tc):Prop:=
 (2048<s.size/\r=(2,tT))\/(s.size<=2048/\(∃b,Cb s.size (j9 s 0) 0=some b)/\r=(3,tT))\/
  (s.size<=2048/\Cb s.size (j9 s 0) 0=none/\∃(n:Nat)(a:Tm n),Is n a (j9 s 0) []/\r=(bL n a,if bL n a=0 then cn n a else tT))
theorem OT.one{s:aq}{r f:Int×Tc}(g:OT s r)(k:OT s f):r=f:=by
 rcases g with⟨c,rfl⟩|⟨c,⟨o,b⟩,rfl⟩|⟨c,b,n,l,h,rfl⟩<;>rcases k with⟨e,rfl⟩|⟨e,⟨p,a⟩,rfl⟩|⟨e,a,j,m,i,rfl⟩
 all_goals first|rfl|omega|skip
 ·rw[b]at a;cases a
 ·rw[b]at a;cases a
 ·have d:=(Is.one n j l m _ _ _ h i).1;rw[Ji _ _ _ _ d,gC d]
noncomputable def rdT (s:aq):Int×Tc:= @Classical.epsilon (Int×Tc) ⟨(0,tT)⟩ (OT s)
variable{u z room y0 y1:Int}{P:List (Bh 13)}{m:List Int}{A:List Tc}{l:List UInt8}{g p B a b c i j k n q r xc yc yl:Nat}{cs t x:Tc}{M S:aX}{f d W w:ah}{C name s y2:aq}{e:aq×Int×Int×Tc}{xa ya:ay}{v:az}{y:Tm g}
theorem tI{r:Int×Tc}(a:OT s r):rdT s=r:=OT.one (Classical.epsilon_spec (p:=OT s) ⟨r,a⟩) a
def oE(t:Tc):Option (List (Bh 13)):=match xF 12 13 t with
 | some l=>if lm 13 l=true then some l else none
 | none=>none
theorem vI(d:bL 13 t=0)(a:oE t=some P):oJ 12 P=0/\aK 18 (cY 12 P) 13 t=true:=by
 unfold oE at a;cases b:xF 12 13 t with
 | none=>rw[b]at a;cases a
 | some l=>
  rw[b]at a;simp only at a;split at a
  ·rename_i e;obtain rfl:=aJ a;have c:=sJ 12 13 (aA _) t (ja d) l b;exact⟨Mg e ((bP c.1).trans d),c.1⟩
  ·cases a
theorem Kt{l:List (Bh (n+1))}(e:lm (n+1) l=true)(d:bL 13 t=0)(a:aK 13 t (n+6) (cY n l)=true):∃P,oE t=some P:=by
 obtain⟨f,b,c,_⟩:=Fj 12 13 n (aA _) l e t (ja d) a;exact⟨f,by unfold oE;rw[b];simp only[c,cD]⟩
theorem Ij{M:Nat}(i:n<=M+1){x:Tm n}(a:bL n x=0)(b:aK n x 13 t=true):sh M n x=if (oE t).isSome then 0 else 5:=by
 have h:bL 13 t=0:=(bP b).symm.trans a;unfold sh;rw[if_pos a];cases e:oE t with
 | some d=>
  obtain⟨j,k⟩:=vI h e;obtain⟨c,l,m,_⟩:=Fj M n 12 i d (gQ j).1 x (ja a) (bW _ _ _ _ _ _ b (dF _ _ _ _ k));rw[l];unfold vX;simp only[m,cD,lJ]
 | none=>
  cases e2:xF M n x with
  | none=>rfl
  | some c=>
   unfold vX;by_cases f:lm (M+1) c=true
   ·obtain⟨d,g⟩:=Kt f h (dF _ _ _ _ (bW _ _ _ _ _ _ (sJ M n i x (ja a) c e2).1 b));rw[e]at g;cases g
   ·simp[f]
abbrev qq:=Option (List (Bh 13)×Int×Sy)
def Oa:List UInt8:=[111,107]
def vi(n:Nat)(x:Tm n):List UInt8:=if bL n x=0 then fK n x else [45]
def gJ(e:aq×Int×Int×Tc):List UInt8:=e.1.data.toList++ [32]++Lib.itoa e.2.1++ [32]++Lib.itoa e.2.2.1++ [32]++vi 13 e.2.2.2
def tn(l:List (aq×Int×Int×Tc)):List UInt8:=(l.map λe=>gJ e++ [10]).flatten
def oG(P:List (Bh 13))(room:Int)(s:Sy)(d a b:Int)(t:Tc):qq×Int×List UInt8:=
 let c:=s.do 12 P room d a b 13 t
 (some (P,room,c.1),c.2,if c.2=0 then tn (c.1.evs.drop s.evs.length)++Oa else [])
def jI(P:List (Bh 13))(room:Int)(s:Sy)(l:List (Tm 12)):qq×Int×List UInt8:=match l with
 | [x,y]=>if x.1.1=2 then
     let r:=s.start 12 P room x.1.2.2 12 y
     (some (P,room,r.1),r.2,if r.2=0 then Lib.itoa (s.last+1)else [])
  else (some (P,room,s),5,[])
 | _=>(some (P,room,s),5,[])
def wZ(nm:aq)(cs:Tc)(a:List Tc):List UInt8:=Lib.join (nm.data.toList::vi 13 cs::a.map (vi 13)) [32]
def qN(a:List Int):List UInt8:=Lib.join (gB.data.toList::a.map Lib.itoa) [32]
def mJ(b:qq)(a:Int)(t:Tc):qq×Int×List UInt8:=match oE t with
 | some P=>(some (P,10*a,Qg),0,Oa)
 | none=>(b,5,[])
def kT(c:qq)(wd:aq)(a b:Int)(t:Tc):qq×Int×List UInt8:=
 if wd=iJ then mJ c a t else match c with
 | none=>(none,4,[])
 | some (P,room,s)=>
  if wd=jK then jI P room s t.2.2
  else if wd=sQ then oG P room s 1 a 0 tT
  else if wd=sP then oG P room s 2 a b tT
  else if wd=qH then oG P room s 3 a 0 t
  else if wd=oz then match s.get a with
   | none=>(some (P,room,s),4,[])
   | some (nm,cs,cms)=>(some (P,room,s),0,wZ nm cs cms)
  else (some (P,room,s),0,qN ((s.ps.map (·.1)).mergeSort λd e:Int=>decide (d<=e)))
def kA(a:aq):aq:=⟨(Lib.cut a.data.toList QK.data.toList).1.toArray⟩
def qS(ps:bm)(i:Nat):Option Int:=vO (ps.getD (1+i) .empty)
def dr(c:aq)(a b:Nat):List aq:=Lib.splitB QK 0 (min (1+a+b) (c.size+1)-1) c
noncomputable def dkRead (line:aq):Int×aq×Int×Int×Tc:=match iE (kA line)with
 | none=>(3,.empty,0,0,tT)
 | some (a,b)=>
  let ps:=dr line a b
  if (ps.length=1+a+b/\ps.getD 0 .empty=kA line)/\∀i,i<a->(qS ps i).isSome=true then
   let r:=if b=0 then (0,tT)else rdT (ps.getD (1+a) .empty)
   (r.1,kA line,if 0<a then (qS ps 0).getD 0 else 0,if 1<a then (qS ps 1).getD 0 else 0,r.2)
  else (3,.empty,0,0,tT)
noncomputable def dkAns (σ:qq) (line:aq):qq×List UInt8:=
 let r:=dkRead line
 if r.1=0 then
  let q:=kT σ r.2.1 r.2.2.1 r.2.2.2.1 r.2.2.2.2
  (q.1,if q.2.1=0 then q.2.2 else iU q.2.1)
 else (σ,iU r.1)
noncomputable def dkStep (st:qq×List UInt8) (line:aq):qq×List UInt8:=if mj line=true then ((dkAns st.1 line).1,st.2++(dkAns st.1 line).2++ [10])else st
def ud(a:aq):aq:=⟨(Lib.trimSuffix a.data.toList G6.data.toList).toArray⟩
def gw(a:aq):List aq:=Lib.splitB G6 0 (Lib.countB (ud a) G6) (ud a)
noncomputable def dkRun (text:aq):List UInt8:=if 65536<text.size\/200<(gw text).length then iU 2++ [10]else ((gw text).foldl dkStep (none,[])).2
theorem BY:(l:bm)->(a:qq×List UInt8)->a.2.count 10+(l.filter mj).length<=(l.foldl dkStep a).2.count 10/\((l.foldl dkStep a).2=a.2\/∃r,(l.foldl dkStep a).2=r++ [10])
 | [],a=>⟨by simp,ak rfl⟩
 | x::l,a=>by
  obtain⟨c,b⟩:=BY l (dkStep a x);rw[gh];by_cases e:mj x=true
  ·have d:(dkStep a x).2=a.2++(dkAns a.1 x).2++ [10]:=by unfold dkStep;rw[if_pos e]
   rw[d]at c b;simp only[List.count_append,List.count_cons_self,List.count_nil,List.filter_cons,e,cD,bv]at c ⊢;refine⟨by omega,am ?_⟩;rcases b with b|b
   ·exact⟨_,b⟩
   ·exact b
  ·have d:dkStep a x=a:=by unfold dkStep;rw[if_neg e]
   rw[d]at c b ⊢;simp only[List.filter_cons,e];exact⟨by simpa using c,b⟩
theorem JQ(d:Int)(s:aq)(a:ay)(n c:Nat)(B b:Nat)(l:List UInt8)(w:ah)(f:dp d)(k:Bu B b l w)(v:B<=w.heap.size)(p:xA B w)(y:l.length+24<=140737488355328):au 135 #[aF b,aB 1 d s a n c] w λe w'=>e=aw (ax #[])/\dE B b (l++Lib.itoa d) w w':=by
 have r:=av (Lib.itoa_length_le d f.1 f.2);have g:Hid (∀o,dE B b l w (w.alloc o)):=λo=>dE.old k (aW _ o) v;have t:=av p;have j:=av f;clear k p f;go_enter func135,ntmps135;go_wp2_with fail;refine(jU d j.out.1 j.out.2 B _ (t.out.on (g.out _).2.1)).mono ?_;rintro e x ⟨rfl,h⟩;have i:=av ((g.out _).trans (dE.old (g.out _).1 h (by simp;omega)));have u:Hid (B<=x.heap.size):=by have:=h.size;simp at this;simp only[Hid];omega
 clear h;go_wp2_with fail;refine(kF B b _ _ _ i.out.1 (by have:=r.out;simp[ByteArray.size];omega) u.out).mono ?_;rintro e z ⟨rfl,m⟩;have q:=av (i.out.trans m);clear m;go_wp2_with fail
 go_end0
 exact⟨rfl,by have:=q.out;simpa using this⟩
theorem FT(k:Int)(s:aq)(a:ay)(n c:Nat)(B b:Nat)(l:List UInt8)(w:ah)(f:Bu B b l w)(i:B<=w.heap.size)(j:l.length+s.size<=140737488355328):au 135 #[aF b,aB 2 k s a n c] w λe w'=>e=aw (ax #[])/\dE B b (l++s.data.toList) w w':=by
 have d:Hid (∀o,dE B b l w (w.alloc o)):=λo=>dE.old f (aW _ o) i;clear f;go_enter func135,ntmps135;go_wp2_with fail;refine(kF B b _ _ _ (d.out _).1 j (by simp;omega)).mono ?_;rintro e m ⟨rfl,g⟩;have h:=av ((d.out _).trans g);clear g;go_wp2_with fail
 go_end0
 exact⟨rfl,h.out⟩
theorem FU(k:Int)(s:aq)(a:ay)(n c:Nat)(B b:Nat)(l:List UInt8)(w:ah)(f:Bu B b l w)(i:B<=w.heap.size)(j:l.length+1<=140737488355328):au 135 #[aF b,aB 6 k s a n c] w λe w'=>e=aw (ax #[])/\dE B b (l++ [95]) w w':=by
 have d:Hid (∀o,dE B b l w (w.alloc o)):=λo=>dE.old f (aW _ o) i;clear f;go_enter func135,ntmps135;go_wp2_with fail;refine(iK B b l _ 95 rfl _ (d.out _).1 j (by simp;omega)).mono ?_;rintro e m ⟨rfl,g⟩;have h:=av ((d.out _).trans g);clear g;go_wp2_with fail
 go_end0
 exact⟨rfl,h.out⟩
theorem FS(k r:Int)(s:aq)(a:ay)(n c:Nat)(B b:Nat)(l:List UInt8)(w:ah)(d:Bu B b l w)(q:B<=w.heap.size)(f:¬k=1)(g:¬k=2)(h:¬k=3)(i:¬k=4)(j:¬k=5)(m:¬k=6):au 135 #[aF b,aB k r s a n c] w λe w'=>e=aw (ax #[])/\dE B b l w w':=by
 have p:Hid (∀o,dE B b l w (w.alloc o)):=λo=>dE.old d (aW _ o) q;have t:(k==1)=false:=by simpa using f
 have u:(k==2)=false:=by simpa using g
 have v:(k==3)=false:=by simpa using h
 have x:(k==4)=false:=by simpa using i
 have y:(k==5)=false:=by simpa using j
 have z:(k==6)=false:=by simpa using m
 clear d f g h i j m;go_enter func135,ntmps135;go_wp2_with fail
 go_end0
 exact⟨rfl,p.out _⟩
def tz(n:Nat)(p:List (Tm n))(k:Nat):List UInt8:=jn ((p.take k).map λy=>fK n y)
theorem Iw(n:Nat)(p:List (Tm n))(k:Nat)(x:Tm n)(d:p[k]?=some x):tz n p (k+1)=if k=0 then fK n x else tz n p k++32::fK n x:=by
 obtain⟨e,c⟩:=bj.1 d;unfold tz;rw[lG e,c,fw,bB,dB,Nu];by_cases a:k=0
 ·subst a;simp
 ·rw[if_neg a,if_neg];intro b;have:=congrArg List.length b;rw[cF,du,eW]at this;omega
theorem KZ(n:Nat)(p:List (Tm n))(k:Nat)(a:∀y∈p,(fK n y).length+1<=24*wt n y):(tz n p k).length<=24*((p.take k).map λy=>wt n y).sum:=
 K0 n (λy=>fK n y) (p.take k) (λy b=>a y (List.mem_of_mem_take b))
theorem GW(n:Nat)(p:List (Tm n))(k:Nat):((p.take k).map λy=>wt n y).sum<=(p.map λy=>wt n y).sum:=by
 conv=>rhs;rw[<-iN k p]
 rw[fw,nO];omega
theorem Bf(n:Nat)(p:List (Tm n))(k:Nat)(x:Tm n)(c:p[k]?=some x):((p.take k).map λy=>wt n y).sum+wt n x<=(p.map λy=>wt n y).sum:=by
 have a:=GW n p (k+1);obtain⟨d,b⟩:=bj.1 c;rw[lG d,b]at a;simpa using a
theorem xv(n:Nat)(ih:FW n)(p:List (Tm n))(len:Nat)(P:Hid (p.length=len))(a:ay)(pc C B b:Nat)(l:List UInt8)(w:ah)(f:Hid (p=[]\/∃b o,a=some ⟨b,o,none⟩/\b<C/\∀(i:Nat)(y:Tm n),p[i]?=some y->eh w b (o+i*4) n y/\In C w n y))(an:len<=9223372036854775807)(z:C<=B)(N:Bu B b l w)(O:B<=w.heap.size)(R:xA B w)(Q:l.length+24*(1+(p.map λy=>wt n y).sum)<=140737488355328):au 164 #[aF b,af a len pc] w λe w'=>e=aw (ax #[])/\dE B b (l++(40::jn (p.map λy=>fK n y)++ [41])) w w':=by
 have L:Hid (∀k,(tz n p k).length<=24*((p.take k).map λy=>wt n y).sum):=λk=>KZ n p k (λy I=>by
  rcases f.out with f|⟨ai,po,_,_,f⟩
  ·rw[f]at I;cases I
  ·obtain⟨i,Z⟩:=dj I
   exact tS n y C w (f i y Z).2)
 have G:=av Q;have W:=av N;have X:=av R;clear N R Q;go_enter func164,ntmps164;go_wp2_with fail;refine(iK B b l _ 40 rfl _ W.out (by have:=G.out;omega) O).mono ?_;rintro e m ⟨rfl,h⟩;have T:=av h;clear h;go_wp2_with fail;go_loopw [10] (λi wr=>∃k:Nat,k<=len/\i=ae k/\Hid (dE B b (l++40::tz n p k) w wr)) (λi _=>len-(intOf i).toNat)
 case atStart=>exact⟨0,by omega,rfl,by have:=T.out;simpa [Hid,tz,jn]using this⟩
 case round=>
  obtain⟨k,ak,rfl,g⟩:=hrel;have x:Hid (B<=wr.heap.size):=aG O g.out.2.1.size;by_cases ab:k<len
  ·obtain⟨c,t⟩:∃c,p[k]?=some c:=⟨p[k]'(by rw[P.out];exact ab),aV _⟩;have M:=av (Iw n p k c t);have H:Hid ((l++40::tz n p k).length+1+24*wt n c<=140737488355328):=by
    have h:=Bf n p k c t;have j:=L.out k;have d:=G.out;simp only[Hid,br,bv];omega
   rcases f.out with f|⟨ai,po,rfl,ad,f⟩
   ·subst f;simp at t
   obtain⟨D,E⟩:=f k c t;replace D:=D.below (g.out.2.1.mono z) ad;replace E:=E.below (g.out.2.1.mono z);clear f t;cases n with
   | zero=>exact D.elim
   | succ n=>
   obtain⟨ap,aq,ar,az⟩:=D
   have K:Hid (∀(u:List UInt8)(m:ah),Below B wr m->Bu B b u m->u.length+24*wt (n+1) c<=140737488355328->au 135 #[aF b,aB c.1.1 c.1.2.1 c.1.2.2 c.2.1.1 c.2.2.length c.2.1.2] m λe w'=>e=aw (ax #[])/\dE B b (u++fK (n+1) c) m w'):=
    λu m h j d=>ih c C B b u m (E.below (h.mono z)) z j (aG x.out h.size) (X.out.on (g.out.2.1.trans h)) d
   have V:=av g.out.1.lt;clear ih E;generalize c.2.2.length=aj at*;generalize fK (n+1) c=ao at*;have q:Hid (∀o,dE B b (l++40::tz (n+1) p k) wr (wr.alloc o)):=λo=>dE.old g.out.1 (aW _ o) x.out;have al:(0:Int)<=(k:Int):=by omega
   have am:(k:Int)<(len:Int):=by omega
   by_cases A:k=0
   ·have v:=av A;have aa:¬(0:Int)<(k:Int):=by omega
    clear A;go_wp2_with fail;refine(K.out (l++40::tz (n+1) p k) _ (q.out _).2.1 (q.out _).1 (by have:=H.out;omega)).mono ?_;rintro e S ⟨rfl,d⟩;have r:=av ((g.out.trans (q.out _)).trans d);clear d;go_wp2_with fail;go_roundw
    case rel=>
     refine⟨k+1,by omega,by go_num,av ?_⟩;have:=r.out;rw[M.out,if_pos v.out];have Y:tz (n+1) p k=[]:=by rw[v.out];rfl
     rw[Y]at this;simpa using this
    case measure=>simp[intOf];omega
   ·have v:=av A;have aa:(0:Int)<(k:Int):=by omega
    clear A;go_wp2_with fail;refine(iK B b _ _ 32 rfl _ (q.out _).1 (by have:=H.out;omega) (by have:=x.out;simp;omega)).mono ?_;rintro e F ⟨rfl,j⟩;have J:=av ((g.out.trans (q.out _)).trans j);have U:=av ((q.out _).2.1.trans j.2.1);have s:=yw j.2.2 (GV wr _ 54) (by have:=V.out;omega) (by decide);have y0:F.cell? ⟨wr.heap.size,0,none⟩=some (ae c.1.1):=by rw[fp s];rfl
    have y1:F.cell? ⟨wr.heap.size,1,none⟩=some (ae c.1.2.1):=by rw[fp s];rfl
    have y2:F.cell? ⟨wr.heap.size,2,none⟩=some (ag c.1.2.2):=by rw[fp s];rfl
    have aA:F.cell? ⟨wr.heap.size,3,none⟩=some (af c.2.1.1 aj c.2.1.2):=by rw[fp s];rfl
    clear j s;go_wp2_with fail;refine(K.out _ _ U.out J.out.1 (by have:=H.out;simp at this ⊢;omega)).mono ?_;rintro e S ⟨rfl,d⟩;have r:=av (J.out.trans d);clear d;go_wp2_with fail;go_roundw
    case rel=>
     refine⟨k+1,by omega,by go_num,av ?_⟩;have:=r.out;rw[M.out,if_neg v.out];simpa using this
    case measure=>simp[intOf];omega
  ·go_wp2_with fail;refine(iK B b _ _ 41 rfl _ g.out.1 (by have h:=G.out;have j:=L.out k;have d:=GW n p k;simp;omega) x.out).mono ?_;rintro e S ⟨rfl,d⟩;have r:=av (g.out.trans d);clear d;go_wp2_with fail
   go_end0
   refine⟨rfl,?_⟩;have e:tz n p k=jn (p.map λy=>fK n y):=by unfold tz;rw[bI (by rw[P.out];omega)]
   have:=r.out;rw[e]at this;simpa using this
theorem JR(j:Int)(s:aq)(a:ay)(n c:Nat)(B b:Nat)(l t:List UInt8)(w:ah)(f:Bu B b l w)(i:B<=w.heap.size)(H:Hid (∀w1,ap w w1->Bu B b l w1->au 164 #[aF b,af a n c] w1 λe w'=>e=aw (ax #[])/\dE B b (l++t) w1 w')):au 135 #[aF b,aB 4 j s a n c] w λe w'=>e=aw (ax #[])/\dE B b (l++t) w w':=by
 have d:Hid (∀o,dE B b l w (w.alloc o)):=λo=>dE.old f (aW _ o) i;clear f;go_enter func135,ntmps135;go_wp2_with fail;refine(H.out _ (aW _ _) (d.out _).1).mono ?_;rintro e k ⟨rfl,g⟩;have h:=av ((d.out _).trans g);clear g;go_wp2_with fail
 go_end0
 exact⟨rfl,h.out⟩
theorem JP(n:Nat):FW n:=by
 induction n with
 | zero=>intro F A f b l h r;exact r.elim
 | succ n ih=>
  intro F A f b l h r t i d o H;obtain⟨⟨k,c,e⟩,⟨g,pc⟩,a⟩:=F;have O:=r;obtain⟨⟨_,p,J,I,C⟩,j⟩:=r;simp only at p J I C j;unfold maxLen at C;have K:wt (n+1) ((k,c,e),(g,pc),a)=1+e.size+(a.map λm=>wt n m).sum:=rfl;rw[K]at H
  show au 135 #[aF b,aB k c e g a.length pc] h λs M=>s=aw (ax #[])/\dE f b (l++(if k=1 then Lib.itoa c else if k=2 then e.data.toList else if k=3 then 35::Lib.itoa c
   else if k=4 then 40::jn (a.map λm=>fK n m)++ [41]else if k=5 then 36::Lib.itoa c else if k=6 then [95]else [])) h M
  by_cases u:k=1
  ·subst u;exact JQ c e g a.length pc f b l h p i d o (by omega)
  rw[if_neg u];by_cases v:k=2
  ·subst v;exact FT c e g a.length pc f b l h i d (by omega)
  rw[if_neg v];by_cases w:k=3
  ·subst w;exact zD 3 c e g a.length pc f b l h p i d o (by omega) 35 (ak ⟨rfl,rfl⟩)
  rw[if_neg w];by_cases x:k=4
  ·subst x;refine JR c e g a.length pc f b l _ h i d (λN q G=>xv n ih a a.length rfl g pc A f b l N ?_ (by omega) t G (aG d q.size) (o.on (q.mono d)) (by omega));rcases j with j|⟨L,po,s,B,j⟩
   ·exact ak j
   ·exact am ⟨L,po,s,B,λE m D=>⟨(j E m D).1.below (q.mono (aG t d)) B,(j E m D).2.below (q.mono (aG t d))⟩⟩
  rw[if_neg x];by_cases y:k=5
  ·subst y;exact zD 5 c e g a.length pc f b l h p i d o (by omega) 36 (am ⟨rfl,rfl⟩)
  rw[if_neg y];by_cases z:k=6
  ·subst z;exact FU c e g a.length pc f b l h i d (by omega)
  rw[if_neg z,eF];exact FS k c e g a.length pc f b l h i d u v w x y z
theorem xA.mono{B a:Nat}{w:ah}(b:xA B w)(c:B<=a):xA a w:=λw' d=>b w' (d.mono c)
theorem Ff(w:ah)(k m:Int)(s:aq)(a:ay)(l c:Nat)(g:Int)(t j:List UInt8)(q:Hid ((if g=0 then t else [])=j))(y:Hid (∀w1,ap w w1->au 53 #[aB k m s a l c] w1 λe w'=>e=aw (ae g)/\ap w1 w'))(A:Hid (∀w1 b,ap w w1->w.heap.size<=b->Bu b b [] w1->b<=w1.heap.size->au 135 #[aF b,aB k m s a l c] w1 λe w'=>e=aw (ax #[])/\dE b b t w1 w')):au 95 #[aB k m s a l c] w λe w'=>e=aw (ax #[ag ⟨j.toArray⟩,ae g])/\ap w w':=by
 go_enter func95,ntmps95;go_wp2_with fail;refine(y.out _ (aW _ _)).mono ?_;rintro e w1 ⟨rfl,i⟩;have d:Hid (ap w w1/\w.heap.size+1<=w1.heap.size):=⟨(aW _ _).trans (i.mono (by simp)),by have:=i.size;simpa using this⟩;have f:=aC i;simp only[fP]at f;have D:=(f w.heap.size 0 (by omega)).trans (by simp[go_sem]:_=some (Value.int .i64 k));have E:=(f w.heap.size 1 (by omega)).trans (by simp[go_sem]:_=some (Value.int .i64 m));have F:=(f w.heap.size 2 (by omega)).trans (by simp[go_sem]:_=some (Value.string s));have G:=(f w.heap.size 3 (by omega)).trans (by simp[go_sem]:_=some (Value.slice a l c));clear f i;by_cases h:g=0
 ·subst h;have I:w.heap.size<w1.heap.size:=by have:=d.out.2;omega
  have z:Hid (Bu w1.heap.size w1.heap.size [] (w1.alloc (.cells #[.pointer none,af none 0 0] 38))):=Lib.IsBuilderF.of (Lib.fresh_isBuilder 38 5 w1);go_wp2_with fail;refine(A.out _ w1.heap.size (d.out.1.alloc d.out.1.size _) (by omega) z.out (by simp)).mono ?_;rintro e p ⟨rfl,u⟩;have n:=av u;clear u;have r:Hid (w1.heap.size<=p.heap.size/\ap w p):=by
   have B:=n.out.2.1.size;simp at B;refine⟨by omega,(d.out.1.alloc d.out.1.size _).trans (n.out.2.1.mono (by omega))⟩
  go_wp2_with fail;refine(Tryz.Builder_String_any_k w1.heap.size w1.heap.size t p n.out.1 r.out.1).mono ?_;rintro e C ⟨rfl,_,v,_⟩;have x:Hid (ap w C):=r.out.2.trans (v.mono (by omega));clear v;have o:Hid (t=j):=q.out;go_wp2_with fail
  go_ret2
  refine⟨?_,x.out⟩;rw[<-o.out];rfl
 ·have H:(g !=0)=true:=by simpa using h
  have o:Hid ([]=j):=(if_neg h).symm.trans q.out;clear h;go_wp2_with fail
  go_ret2
  refine⟨?_,d.out.1⟩;rw[<-o.out];rfl
theorem Jb(n:Nat)(x:Tm n)(B:Nat)(w:ah)(d:In B w n x)(c:B<=w.heap.size)(j:xA w.heap.size w)(g:(aI n x).length<=2097152)(l:wt n x<=2097152):au 95 #[dG n x] w λe w'=>e=aw (ax #[ag ⟨(if bL n x=0 then fK n x else []).toArray⟩,ae (bL n x)])/\ap w w':=by
 cases n with
 | zero=>exact d.elim
 | succ n=>
 exact Ff w x.1.1 x.1.2.1 x.1.2.2 x.2.1.1 x.2.2.length x.2.1.2 (bL (n+1) x) (fK (n+1) x) _ rfl
  (λf a=>dX (n+1) x B f (d.below (a.mono c)) (aG c a.size) g)
  (λf b a k i h=>JP (n+1) x B b b [] f (d.below (a.mono c)) (by omega) i h (xA.mono (j.on a) k) (by simp;omega))
theorem BK(xs:dI)(g o len c:Nat)(w:ah)(v:Hid (xs.length=len*7))(t:Hid (∀d∈xs,d.oneCell'=true))(E:len<=2000000)(x:Hid (∀w1,ap w w1->∀j d,xs[j]?=some d->w1.cell? ((⟨g,o,none⟩:Addr).add j)=some d)):au 90 #[af (some ⟨g,o,none⟩) len c] w λe w'=>∃r,e=aw r/\Hid (ap w w'/\w'.ownsRow w.heap.size 101 7 r len xs):=by
 obtain⟨C,hit,m,p,q⟩:=bT KW;have a:=av (⟨hit,m,p,q⟩:_/\_/\_/\_);clear hit m p q;have F:∀(w:ah)(b:ay)(n c h f:Nat),(binOp .eql 98 (af b n c) (af none h f)).run Tryz.prog w=.ok (.bool b.isNone) w:=λw b n c h f=>Lib.run_eql_slice_nil w _ _ b n c h f underlying98;have D:(some (⟨g,o,none⟩:Addr)).isNone=false:=rfl;go_enter func90,ntmps90;go_wp2_with (at_builtin;refine wpList_append_own _ rfl _ _ 98 rfl w.heap.size 101 C _ 7 88 underlying98 a.1 a.2.1 a.2.2.1 a.2.2.2 rfl (by decide) _ _ _ rfl (World.ownsRow_made w #[] 0 (aA _) (aN _) (by simp)) ⟨g,o,none⟩ len c xs rfl ?qc1 ?qc2 ?qc3 ?qc4 ?qc5 ?qc6 ?_)
 case qc1=>exact v
 case qc2=>exact x _ (aW _ _)
 case qc3=>exact t
 case qc4=>unfold maxLen;omega
 case qc5=>omega
 case qc6=>simp
 intro s w1 l i A;have u:Hid (ap w w1/\w1.ownsRow w.heap.size 101 7 s len xs):=by
  have y:ap w w1:=Below.grown (aW _ _) i (by simp) (by intro k z;simp[Value.ownBlock]at z;omega);have B:w1.ownsRow w.heap.size 101 7 s len xs:=by simpa using l
  exact⟨y,B⟩
 clear l i A;go_wp2_with fail
 go_ret
 exact⟨_,rfl,u⟩
theorem BJ(c:Nat)(w:ah):au 90 #[af none 0 c] w λe w'=>e=aw (af none 0 0)/\w'=w:=by
 have g:∀(w:ah)(a:ay)(n c d b:Nat),(binOp .eql 98 (af a n c) (af none d b)).run Tryz.prog w=.ok (.bool a.isNone) w:=λw a n c d b=>Lib.run_eql_slice_nil w _ _ a n c d b underlying98;have f:(none:ay).isNone=true:=rfl;go_enter func90,ntmps90;go_wp2_with fail
 go_ret
 exact⟨rfl,rfl⟩
theorem KM(i:Nat)(m:ay)(n K d:Nat)(C D:Nat->Int)(E:Nat->aq)(xa:Nat->ay)(F xc:Nat->Nat)(w:ah)(l:ay->Nat->Nat->bF)(R:i<w.heap.size)(N:n+K<=1000000)(O:n+K<=d)(J:m=none/\n+K=0/\d=0\/∃g,m=some ⟨g,0,none⟩)(s:Hid (ai w i 6 (af m (n+K:Nat) d)))(x:Hid (∀W B S,ap w W->(m=none/\B=none)\/(∃g o,m=some ⟨g,0,none⟩/\B=some ⟨g,o,none⟩/\(K=0\/o=n*7))->au 90 #[af B K S] W λe w'=>∃a c,e=aw (af a K c)/\Hid (ap W w'/\l a c 0 w')))(y:Hid (∀a c j W,j<K->l a c j W->∃g,a=some ⟨g,0,none⟩/\ai W g (j*7+3) (ae (C j))/\ai W g (j*7+3+1) (ae (D j))/\ai W g (j*7+3+2) (ag (E j))/\ai W g (j*7+3+3) (af (xa j) (F j) (xc j))/\ Hid (au 91 #[.agg #[ae (C j),ae (D j),ag (E j),af (xa j) (F j) (xc j)]] W λe w'=>∃y0 y1 y2 ya yl yc,e=aw (aB y0 y1 y2 ya yl yc)/\Hid ((w'.frozen? ⟨g,j*7+3,none⟩=false/\w'.frozen? ⟨g,j*7+3+1,none⟩=false/\w'.frozen? ⟨g,j*7+3+2,none⟩=false/\w'.frozen? ⟨g,j*7+3+3,none⟩=false)/\(ai w' g (j*7+3) (ae (C j))/\ai w' g (j*7+3+1) (ae (D j))/\ai w' g (j*7+3+2) (ag (E j))/\ai w' g (j*7+3+3) (af (xa j) (F j) (xc j)))/\l a c (j+1) (dl w' g (j*7+3) (ae y0) (ae y1) (ag y2) (af ya yl yc)))))):au 59 #[aF i,ae n] w λe w'=>∃a c,e=aw (af a K c)/\Hid (l a c K w'):=by
 have f:Hid (ap w w.drew):=(aH _ _).drew;obtain⟨b,A⟩:∃b,b=n+K:=⟨_,rfl⟩;rw[<-A]at s N O J;have k:Hid (∀W,ap w W->ai W i 6 (af m b d)):=λW P=>(P.cell (p:=⟨i,6,none⟩) R).trans s;have Z:=s.out;have al:¬((b:Int)<0):=by omega
 have an:(0:Int)<=(n:Int):=by omega
 have ao:(b:Int)<=(d:Int):=by omega
 have ar:¬((d:Int)<(b:Int)):=by omega
 have ax:¬(d<b):=by omega
 have az:min (n:Int) (b:Int)=n:=by omega
 have aA:max (n:Int) 0=n:=by omega
 have aC:(n:Int)<=(b:Int):=by omega
 have t:=av A;clear A;go_enter func59,ntmps59;go_upto_region 1 with fail;rcases J with⟨rfl,M,rfl⟩|⟨H,rfl⟩
 ·obtain rfl:n=0:=by have:=t.out;omega
  obtain rfl:K=0:=by have:=t.out;omega
  subst M
  go_region_held3 (λW=>W.cell? ⟨i,6,none⟩=some (af none 0 0)) (first|exact k _ f|exact k _ r) ((first
   | (go_at_call 90;refine(x _ _ _ f (ak ⟨rfl,rfl⟩)).mono ?_;rintro e T ⟨a,c,rfl,h⟩;have r:=av (f.trans (h.1.mono f.size)))))
  have q:=av h.2;clear x s k f r y h;go_wp2_with fail;go_loopw [6,23] (λ_ v wr=>v=ae 0/\Hid (l a c 0 wr)) (λ_ _ _=>0)
  case atStart=>exact⟨rfl,q⟩
  case round=>
  obtain⟨rfl,u⟩:=hrel;clear q;go_wp2_with fail
  go_ret
  exact⟨a,c,rfl,u⟩
 ·have ab:b-n=K:=by have:=t.out;omega
  by_cases I:d=n
  all_goals
   have G:Hid (K=0\/d≠n):=(by have:=t.out;omega:K=0\/d≠n)
   go_region_held3 (λW=>W.cell? ⟨i,6,none⟩=some (af (some ⟨H,0,none⟩) b d)) (first|exact k _ f|exact k _ r) ((first
    | (go_at_call 90;refine(x _ _ _ f (am ⟨H,_,rfl,rfl,by first|exact am rfl|exact G.out.imp id (absurd I)⟩)).mono ?_;rintro e T ⟨a,c,rfl,h⟩;have r:=av (f.trans (h.1.mono f.size)))))
   clear x s k f r G I t;have q:=av h.2;clear h;go_wp2_with fail;go_loopw [6,23] (λ_ v wr=>∃(j:Nat),j<=K/\v=ae j/\Hid (l a c j wr)) (λ_ v _=>K-(intOf v).toNat)
   case atStart=>exact⟨0,aN _,rfl,q⟩
   case round=>
   obtain⟨j,aa,rfl,u⟩:=hrel;by_cases Q:j<K
   ·obtain⟨g,rfl,U,V,X,Y,L⟩:=y.out a c j wr Q u;have ad:(0:Int)<=(j:Int):=by omega
    have aj:(j:Int)<(K:Int):=by omega
    clear y u;go_wp2_with fail;refine L.mono ?_;rintro e aD ⟨y0,y1,y2,ya,yl,yc,rfl,z⟩;obtain⟨⟨f0,f1,f2,f3⟩,d0,d1,d2,d3⟩:=(⟨z.1,z.2.1⟩:_/\_);go_wp2_with fail;go_roundw
    case rel=>exact⟨j+1,by omega,by go_num,z.2.2⟩
    case measure=>simp[intOf];omega
   ·obtain rfl:j=K:=by omega
    clear y q;go_wp2_with fail
    go_ret
    exact⟨a,c,rfl,u⟩
def Bl(base:Nat)(a:ay)(d:List (aq×Int×Int×Tc))(w:ah):Prop:=
 (d=[]\/∃c,a=some ⟨c,0,none⟩/\base<=c/\c<w.heap.size/\∀e b,d[e]?=some b->∀(t:Nat)(f:az),(yp b)[t]?=some f->w.cell? ⟨c,e*7+t,none⟩=some f)/\∀b∈d,(In w.heap.size w 13 b.2.2.2/\cG (λg=>base<=g) 13 b.2.2.2)/\tm b.2.2.2
def JZ(a:ay)(L c:Nat):Prop:=(a=none/\L=0/\c=0)\/((∃g,a=some ⟨g,0,none⟩)/\L<=c)
def Nf(e:aq×Int×Int×Tc):aq×Int×Int×Tc:=(e.1,e.2.1,e.2.2.1,cn 13 e.2.2.2)
theorem Bl.kee{base:Nat}{a:ay}{j:List (aq×Int×Int×Tc)}{w':ah}(e:Bl base a j w)(i:bH S w w')(l:∀q,base<=q->q<w.heap.size->¬S q):Bl base a j w':=by
 refine⟨?_,λb d=>?_⟩
 ·rcases e.1 with c|⟨g,c,k,h,m⟩
  ·exact ak c
  ·refine am ⟨g,c,k,bi h i.size,λo b d t p n=>?_⟩;rw[<-m o b d t p n];simp only[World.cell?,i.block g h (l g k h)]
 ·have c:=fC i (D:=λq=>base<=q/\q<w.heap.size) (λq f=>l q f.1 f.2) ⟨(e.2 b d).1.1,In.offB (e.2 b d).1.2 (e.2 b d).1.1⟩;exact⟨⟨c.1,c.2.mono λq f=>f.1⟩,(e.2 b d).2⟩
theorem Hi(xa:ay)(xc:Nat)(w:ah):PO 0 0 ⟨#[]⟩ xa 0 xc tT w:=λW h=>by
 refine(tg 12 0 0 ⟨#[]⟩ xa 0 xc [] W (by decide) λw1 c=>?_).mono ?_
 ·refine(mw xa xc w1).mono ?_;rintro e w' ⟨rfl,rfl⟩;exact⟨none,0,[],rfl,aH _ _,rfl,aA _,aN _,rfl,ak rfl⟩
 ·rintro e w' ⟨a,b,l,rfl,H⟩;obtain⟨c,d,g,f,_⟩:=H;obtain rfl:l=[]:=b9 d;exact⟨0,0,⟨#[]⟩,a,0,b,rfl,c,((0,0,⟨#[]⟩),(a,b),[]),⟨rfl,rfl,rfl⟩,⟨⟨⟨show dp 0 by unfold dp;decide,show dp 0 by unfold dp;decide,show (0:Nat)<=maxLen from aN _,aN _,f⟩,ak rfl⟩,ak rfl⟩,rfl,am ⟨rfl,rfl⟩⟩
theorem O3(d:In w.heap.size w 13 x)(a:tm x):PO x.1.1 x.1.2.1 x.1.2.2 x.2.1.1 x.2.2.length x.2.1.2 (cn 13 x) w:=by
 rcases a with a|⟨b,c⟩
 ·exact lg d a
 ·obtain⟨⟨g,h,i⟩,⟨e,f⟩,j⟩:=x;simp only[gS]at b c;obtain⟨rfl,rfl,rfl⟩:=b;subst c;exact Hi e f w
theorem Nc(l:List (aq×Int×Int×Tc)):∀b∈l.flatMap yp,b.oneCell'=true:=λb c=>by
 obtain⟨e,_,a⟩:=kt.1 c;simp only[yp,cr,gj,gq]at a;rcases a with rfl|rfl|rfl|rfl|rfl|rfl|rfl<;>rfl
theorem Gj(l:List (aq×Int×Int×Tc)):(l.flatMap yp).length=l.length*7:=by
 induction l with
 | nil=>rfl
 | cons a l ih=>
  rw[bM,br,ih,bv];simp[yp];omega
theorem B9:(l:List (aq×Int×Int×Tc))->(n:Nat)->(l.drop n).flatMap yp=(l.flatMap yp).drop (n*7)
 | [],n=>by simp
 | e::l,0=>by simp
 | e::l,n+1=>by
  rw[List.drop_succ_cons,B9 l n,bM,show (n+1)*7=(yp e).length+n*7 by simp[yp];omega,List.drop_append];simp[yp]
section
variable {p:mO} {s:Sy} {d:gY} {w:ah}
theorem bG.eventsF(D:bG p s d w)(be:d.es.length<=100000)(n K:Nat)(aE:d.es.length=n+K):au 59 #[aF p.b,ae n] w λe w'=>∃a c,e=aw (af a K c)/\Hid (ap w w'/\JZ a K c/\∃ao,ao.length=K/\ao.map Nf=s.evs.drop n/\Bl w.heap.size a ao w'):=by
 obtain⟨J,L,aC,bl,aG⟩:∃J L,d.ev=af J d.es.length L/\d.es.length<=L/\(J=none/\d.es.length=0/\L=0\/∃g,J=some ⟨g,0,none⟩):=by
  rcases D.evr.1.2 with⟨e,N⟩|⟨g,c,ay,e,_,_,l,_⟩
  ·exact⟨none,0,by rw[e,N],by omega,ak ⟨rfl,N,rfl⟩⟩
  ·exact⟨_,c,e,l,am ⟨g,rfl⟩⟩
 have aa:(d.es.drop n).length=K:=by rw[eV];omega
 obtain⟨q,U⟩:∃q:Nat->aq×Int×Int×Tc,∀h,h<K->(d.es.drop n)[h]?=some (q h):=⟨λh=>(d.es.drop n).getD h (⟨#[]⟩,0,0,tT),λh G=>by
  simp only[nJ,aV (show h<(d.es.drop n).length by omega)]
  rfl⟩
 have a3:∀k,ap w k->∀h,h<K->In k.heap.size k 13 (q h).2.2.2/\tm (q h).2.2.2:=λk A h G=>by
  have:=(D.later A).evt.2 _ (List.mem_of_mem_drop (aU (U h G)));exact⟨this.1.1,this.2⟩
 have av:=D.evr.1;rw[aC]at av;have aP:ai w p.b 6 (af J d.es.length L):=by
  have F:=aj D.box 6;simp only[eC,dn,dA]at F;rw[aC]at F;exact F
 refine(KM p.b J n K L (λh=>(q h).2.2.2.1.1) (λh=>(q h).2.2.2.1.2.1) (λh=>(q h).2.2.2.1.2.2) (λh=>(q h).2.2.2.2.1.1) (λh=>(q h).2.2.2.2.2.length) (λh=>(q h).2.2.2.2.1.2) w
  (λa c h k=>ap w k/\JZ a K c/\(K=0\/∃(g:Nat)(f:Nat->aq×Int×Int×Tc),a=some ⟨g,0,none⟩/\(w.heap.size<=g/\g<k.heap.size)/\(∀o,k.frozen? ⟨g,o,none⟩=false)/\(∀i,i<K->∀(t:Nat)(m:az),(yp (f i))[t]?=some m->ai k g (i*7+t) m)/\(∀i,i<h->(Nf (f i)=Nf (q i)/\tm (f i).2.2.2)/\In k.heap.size k 13 (f i).2.2.2/\cG (λu=>w.heap.size<=u/\u≠g) 13 (f i).2.2.2)/\∀i,h<=i->i<K->f i=q i)) D.lo.2 (by omega) (by omega) (by rw[<-aE];exact aG) (by rw[<-aE];exact aP) (λk bo aM A a2=>?_) (λa c h k G Q=>?_)).mono ?_
 ·rcases a2 with⟨e,rfl⟩|⟨g,o,e,rfl,ar⟩
  ·have N:K=0:=by
     rcases aG with⟨_,N,_⟩|⟨g,C⟩
     ·omega
     ·rw[e]at C;cases C
   subst N;refine(BJ aM k).mono ?_;rintro e w' ⟨rfl,rfl⟩;exact⟨none,0,rfl,aH _ _,A,ak ⟨rfl,rfl,rfl⟩,ak rfl⟩
  ·subst e;have y:=av.lt g rfl;refine(BK ((d.es.drop n).flatMap yp) g o K aM k (by rw[Gj,aa];exact(rfl:K*7=K*7)) (Nc _) (by omega) λbp B h m j=>?_).mono ?_
   ·have bf:h<K*7:=by
      have:=(bj.1 j).1;rw[Gj,aa]at this;exact this
    obtain rfl:o=n*7:=by rcases ar with E|E<;>omega
    rw[B9,jy]at j;have F:=World.ownsRow.cells av (g:=g) rfl _ m j;have aS:=A.trans (B.mono A.size);rw[show (⟨g,n*7,none⟩:Addr).add h=(⟨g,0,none⟩:Addr).add (n*7+h) by simp only[Addr.add,cC,Nat.add_eq_zero_iff];by_cases e:h=0<;>by_cases C:n*7=0<;>simp[e,C]];exact(aS.cell (p:=(⟨g,0,none⟩:Addr).add (n*7+h)) (by simp only[Addr.add];split<;>exact y.2)).trans F
   ·rintro e w' ⟨bn,rfl,M⟩;obtain⟨z,H⟩:=M.out;obtain⟨a,c,aQ,C,aB⟩:=sE H (by decide) λE=>rfl;subst aQ;have S:JZ a K c:=by
     rcases H.2 with⟨x,ab⟩|⟨O,bc,ay,x,_,_,ab,_⟩
     ·injection x with x aK aL;exact ak ⟨x,ab,aL⟩
     ·injection x with x aK aL;exact am ⟨⟨O,x⟩,by omega⟩
    refine⟨a,c,rfl,z,A.trans (z.mono A.size),S,?_⟩;by_cases P:K=0
    ·exact ak P
    ·obtain⟨O,x,ab,aK⟩:=aB 0 _ (U 0 (by omega));obtain⟨ay,aT⟩:=eK H O (C _ x);have bg:=A.size;refine am ⟨O,q,x,⟨by have:=(H.lt O (C _ x)).1;omega,ab⟩,λo=>by simp[World.frozen?,aT],λi r t m j=>?_,λi r=>by omega,λ_ _ _=>rfl⟩;obtain⟨bd,I,bm,a9⟩:=aB i _ (U i r);rw[x]at I;injection I with I;injection I with I;subst I;exact a9 t m j
 ·obtain⟨B,S,Q⟩:=Q;rcases Q with P|⟨g,f,rfl,y,aI,W,V,R⟩
  ·omega
  have aW:=R h (aA _) G;have l:=W h G;rw[aW]at l;refine⟨g,rfl,l 3 _ rfl,l 4 _ rfl,l 5 _ rfl,l 6 _ rfl,?_⟩;obtain⟨ba,bb⟩:=a3 k B h G;refine(O3 ba bb k (aH _ _)).mono ?_;rintro e w' ⟨y0,y1,y2,ya,yl,yc,rfl,M⟩;obtain⟨z,aN,⟨f1,f2,f3⟩,⟨H,a6⟩,a7,a8⟩:=M.out;have v:∀{o:Nat}{m:az},ai k g o m->ai w' g o m:=λ{o m} u=>(z.cell (p:=⟨g,o,none⟩) y.2).trans u;have T:∀o,w'.frozen? ⟨g,o,none⟩=false:=λo=>(z.frozen (p:=⟨g,o,none⟩) y.2).trans (aI o);refine⟨y0,y1,y2,ya,yl,yc,rfl,⟨T _,T _,T _,T _⟩,⟨v (l 3 _ rfl),v (l 4 _ rfl),v (l 5 _ rfl),v (l 6 _ rfl)⟩,?_⟩;have aY:=ng w' g (h*7+3) (ae y0) (ae y1) (ag y2) (af ya yl yc);have bk:=bK (w:=w') (g:=g) (o:=h*7+3) (ae y0) (ae y1) (ag y2) (af ya yl yc);have Y:=yT (ae y0) (ae y1) (ag y2) (af ya yl yc) ⟨v (l 3 _ rfl),v (l 4 _ rfl),v (l 5 _ rfl),v (l 6 _ rfl)⟩;have X:=λo (ar:o<h*7+3\/h*7+3+4<=o)=>CW (w:=w') (g:=g) (v0:=ae y0) (v1:=ae y1) (v2:=ag y2) (v3:=af ya yl yc) o ar;have aX:=λo=>(uu (w:=w') (g:=g) (o:=h*7+3) (v0:=ae y0) (v1:=ae y1) (v2:=ag y2) (v3:=af ya yl yc) o).trans (T o);have a0:ap w (dl w' g (h*7+3) (ae y0) (ae y1) (ag y2) (af ya yl yc)):=dW (B.trans (z.mono B.size)) y.1;generalize dl w' g (h*7+3) (ae y0) (ae y1) (ag y2) (af ya yl yc)=ax at*;have bh:=z.size;have bi:=B.size;have aD:∀{ad:Tc},In w'.heap.size w' 13 ad->cG (λu=>w.heap.size<=u/\u≠g) 13 ad->In ax.heap.size ax 13 ad/\cG (λu=>w.heap.size<=u/\u≠g) 13 ad:=λa4 a5=>fC aY (λu E aO=>E.2 aO) ⟨a4,a5⟩;refine⟨a0,S,am ⟨g,λi=>if i=h then ((q h).1,(q h).2.1,(q h).2.2.1,aN)else f i,rfl,⟨y.1,by omega⟩,aX,λi r t m j=>?_,λi r=>?_,λi F aR=>?_⟩⟩
  ·have a1:t<7:=by
     have:=(bj.1 j).1;simpa [yp]using this
   by_cases e:i=h
   ·subst e;simp only[cD]at j;obtain⟨⟨bq,br,aO⟩,⟨bs,bt⟩,bu⟩:=aN;simp only[gS]at f1 f2;obtain⟨rfl,rfl,rfl⟩:=f1;obtain⟨rfl,rfl⟩:=f2;subst f3
    match t,a1 with
    | 0,_=>exact(X _ (by omega)).trans (v (l 0 m j))
    | 1,_=>exact(X _ (by omega)).trans (v (l 1 m j))
    | 2,_=>exact(X _ (by omega)).trans (v (l 2 m j))
    | 3,_=>exact Y.1.trans j
    | 4,_=>exact Y.2.1.trans j
    | 5,_=>exact Y.2.2.1.trans j
    | 6,_=>exact Y.2.2.2.trans j
   ·simp only[if_neg e]at j;exact(X _ (by omega)).trans (v (W i r t m j))
  ·by_cases e:i=h
   ·simp only[e,cD];have:=aD H (a6.mono λu E=>⟨by omega,by omega⟩);refine⟨⟨?_,a8⟩,this.1,this.2⟩;unfold Nf;rw[a7]
   ·simp only[if_neg e];obtain⟨ah,al,an⟩:=V i (by omega);have:=aD ((al.below z).mono z.size) an;exact⟨ah,this.1,this.2⟩
  ·simp only[if_neg (show¬i=h by omega)];exact R i (by omega) aR
 ·rintro e w' ⟨a,c,rfl,M⟩;obtain⟨B,S,Q⟩:=M;refine⟨a,c,rfl,B,S,?_⟩;rcases Q with P|⟨g,f,rfl,y,aI,W,V,R⟩
  ·have aZ:d.es.drop n=[]:=b9 (aa.trans P);refine⟨[],by rw[P];rfl,?_,ak rfl,λe R=>by cases R⟩;rw[<-D.evt.1,<-List.map_drop,aZ];rfl
  ·refine⟨(List.range K).map f,by simp,?_,am ⟨g,rfl,y.1,y.2,λi e r t m j=>?_⟩,λe r=>?_⟩
   ·rw[<-D.evt.1,<-List.map_drop];refine nH λi=>?_;by_cases r:i<K
    ·rw[di,di,di,List.getElem?_range r,U i r];exact congrArg some (V i r).1.1
    ·rw[fu (by simpa using Nat.le_of_not_lt r),fu (by rw[cF,aa];omega)]
   ·have Z:i<K:=by
      have:=(bj.1 r).1;simpa using this
    rw[di,List.getElem?_range Z]at r;obtain rfl:=aJ r;exact W i Z t m j
   ·obtain⟨i,Z,rfl⟩:=cg.1 r;obtain⟨ah,al,an⟩:=V i (List.mem_range.1 Z);exact⟨⟨al,an.mono λu E=>E.1⟩,ah.2⟩
end
theorem Dx(k m:Int)(s:aq)(a:ay)(l c:Nat)(b:Int)(t:List UInt8)(w:ah)(i:Hid (∀W,ap w W->au 95 #[aB k m s a l c] W λe w'=>e=aw (ax #[ag ⟨(if b=0 then t else []).toArray⟩,ae b])/\ap W w')):au 62 #[aB k m s a l c] w λe w'=>e=aw (ag ⟨(if b=0 then t else [45]).toArray⟩)/\ap w w':=by
 obtain⟨f,d⟩:∃f:aq,⟨(if b=0 then t else [45]).toArray⟩=f:=⟨_,rfl⟩;rw[d];go_enter func62,ntmps62;have HB:Hid (∀o,ap w (w.alloc o)):=λo=>aW _ o;go_wp2_with fail;refine(i.out _ (HB.out _)).mono ?_;rintro e p ⟨rfl,j⟩;have h:=av ((HB.out _).trans (j.mono (HB.out _).size));clear j HB i;by_cases g:b=0
 ·subst g;obtain rfl:⟨t.toArray⟩=f:=d;go_wp2_with fail
  go_ret
  exact⟨rfl,h⟩
 ·have n:(b !=0)=true:=by simpa using g
  rw[if_neg g]at d;subst d;go_wp2_with fail
  go_ret
  exact⟨rfl,h⟩
theorem rE{x:Tm n}(c:In w.heap.size w n x)(f:xA w.heap.size w)(d:(aI n x).length<=2097152)(g:wt n x<=2097152):au 62 #[dG n x] w λe w'=>e=aw (ag ⟨(vi n x).toArray⟩)/\ap w w':=by
 cases n with
 | zero=>exact c.elim
 | succ n=>
 exact Dx x.1.1 x.1.2.1 x.1.2.2 x.2.1.1 x.2.2.length x.2.1.2 (bL (n+1) x) (fK (n+1) x) w λb a=>Jb (n+1) x b.heap.size b ((c.below a).mono a.size) (aA _) (xA.mono (f.on a) a.size) d g
theorem vj{x:Tm n}(a:In B w n x)(b:wt n x<=2097152):(vi n x).length<=60000000:=by
 unfold vi;split
 ·have:=tS n x B w a;omega
 ·decide
theorem sf(a:tm x):(aI 13 x).length<=2097152/\wt 13 x<=2097152:=by
 rcases a with a|⟨b,c⟩
 ·have f:=xw 13 x λd e=>vZ (mW 13 x a d e);have g:=jQ a;omega
 ·obtain⟨⟨h,i,j⟩,⟨k,l⟩,m⟩:=x;simp only[gS]at b c;obtain⟨rfl,rfl,rfl⟩:=b;subst c;exact⟨by simp[aI],by simp only[wt,dB,List.sum_nil];decide⟩
theorem Ca(nm:aq)(a b k o:Int)(s:aq)(n:ay)(l c:Nat)(f i u:aq)(w:ah)(F:nm.size<=8)(C:f.size<=100)(D:i.size<=100)(E:u.size<=100000000)(y:Hid (∀W,ap w W->au 22 #[ae a] W λe w'=>e=aw (ag f)/\ap W w'))(HB:Hid (∀W,ap w W->au 22 #[ae b] W λe w'=>e=aw (ag i)/\ap W w'))(B:Hid (∀W,ap w W->au 62 #[aB k o s n l c] W λe w'=>e=aw (ag u)/\ap W w')):au 60 #[.agg #[ag nm,ae a,ae b,ae k,ae o,ag s,af n l c]] w λe w'=>e=aw (ag (nm++ ⟨#[32]⟩++f++ ⟨#[32]⟩++i++ ⟨#[32]⟩++u))/\ap w w':=by
 go_enter func60,ntmps60;go_upto_region 1 with fail;generalize x:World.alloc _ _=j;have z:Hid (ap w j):=by
  rw[<-x];exact aW _ _
 have d:j.heap[w.heap.size]?=some (.cells #[ag nm,ae a,ae b,ae k,ae o,ag s,af n l c] 101):=by
  rw[<-x];exact aL _ _
 clear x;have m:Hid (∀W,ap j W->ai W w.heap.size 0 (ag nm)/\ai W w.heap.size 1 (ae a)/\ai W w.heap.size 2 (ae b)/\ai W w.heap.size 3 (ae k)/\ai W w.heap.size 4 (ae o)/\ai W w.heap.size 5 (ag s)/\ai W w.heap.size 6 (af n l c)):=λW v=>by
  have d:=fk v d;exact⟨aj d 0,aj d 1,aj d 2,aj d 3,aj d 4,aj d 5,aj d 6⟩
 have r:Hid (ap j j.drew):=(aH _ _).drew;have t:Hid (∀W,ap j W->ap w W):=λW v=>z.out.trans (v.mono z.out.size);have G:¬9223372036854775807<nm.size+1:=by omega
 have H:¬9223372036854775807<nm.size+1+f.size:=by omega
 have I:¬9223372036854775807<nm.size+1+f.size+1:=by omega
 have J:¬9223372036854775807<nm.size+1+f.size+1+i.size:=by omega
 have K:¬9223372036854775807<nm.size+1+f.size+1+i.size+1:=by omega
 have L:¬9223372036854775807<nm.size+1+f.size+1+i.size+1+u.size:=by omega
 clear d;generalize w.heap.size=h at m
 go_region_held3 (λW=>W.cell? ⟨h,0,none⟩=some (ag nm)/\W.cell? ⟨h,1,none⟩=some (ae a)/\W.cell? ⟨h,2,none⟩=some (ae b)/\W.cell? ⟨h,3,none⟩=some (ae k)/\W.cell? ⟨h,4,none⟩=some (ae o)/\W.cell? ⟨h,5,none⟩=some (ag s)/\W.cell? ⟨h,6,none⟩=some (af n l c)) (first|exact m _ r|exact m _ p|exact m _ q|exact m _ A) ((first
  | (go_at_call 22;first
      | (refine(y _ (t _ r)).mono ?_;clear y;rintro e M ⟨rfl,g⟩;have p:=av (r.trans (g.mono r.size));clear g)
      | (refine(HB _ (t _ p)).mono ?_;clear HB;rintro e N ⟨rfl,g⟩;have q:=av (p.trans (g.mono p.size));clear g))
  | (go_at_call 62;refine(B _ (t _ q)).mono ?_;rintro e O ⟨rfl,g⟩;have A:=av (q.trans (g.mono q.size));clear g)))
 go_wp2_with fail
 go_ret
 exact⟨rfl,t.out _ A⟩
theorem Qh(a:tm x):vi 13 (cn 13 x)=vi 13 x:=by
 rcases a with a|⟨b,c⟩
 ·unfold vi;rw[if_pos a,if_pos (oV a),rz _ _ _ _ (eH a)]
 ·obtain⟨⟨h,i,j⟩,⟨f,g⟩,k⟩:=x;simp only[gS]at b c;obtain⟨rfl,rfl,rfl⟩:=b;subst c;have d:aK 13 (((0,0,⟨#[]⟩),(f,g),[]):Tc) 13 tT=true:=by kernel_rfl
  have e:¬bL 13 tT=0:=by decide
  unfold vi;rw[gC d,if_neg (show¬bL 13 (cn 13 tT)=0 by decide),if_neg (by rw[bP d];exact e)]
theorem yq(a:tm e.2.2.2):gJ (Nf e)=gJ e:=by
 unfold gJ Nf;simp only[Qh a]
theorem Er(d:In B w 13 e.2.2.2)(c:tm e.2.2.2)(j:e.1.size<=8)(a:dp e.2.1)(b:dp e.2.2.1):(gJ e).length<=70000000:=by
 have f:=Lib.itoa_length_le _ a.1 a.2;have g:=Lib.itoa_length_le _ b.1 b.2;have h:=vj d (sf c).2;have i:=Lib.size_eq e.1;unfold gJ;simp only[br,bv,eW];omega
theorem Ep(i:In w.heap.size w 13 e.2.2.2)(f:tm e.2.2.2)(j:e.1.size<=8)(d:dp e.2.1)(b:dp e.2.2.1)(g:xA w.heap.size w):au 60 #[.agg (yp e).toArray] w λr w'=>r=aw (ag ⟨(gJ e).toArray⟩)/\ap w w':=by
 have m:=Lib.itoa_length_le _ d.1 d.2;have o:=Lib.itoa_length_le _ b.1 b.2;have p:=vj i (sf f).2;have h:∀l:List UInt8,(⟨l.toArray⟩:aq).size=l.length:=λl=>by simp[ByteArray.size]
 refine(Ca e.1 e.2.1 e.2.2.1 e.2.2.2.1.1 e.2.2.2.1.2.1 e.2.2.2.1.2.2 e.2.2.2.2.1.1 e.2.2.2.2.2.length e.2.2.2.2.1.2 ⟨(Lib.itoa e.2.1).toArray⟩ ⟨(Lib.itoa e.2.2.1).toArray⟩ ⟨(vi 13 e.2.2.2).toArray⟩ w j (by rw[h];omega) (by rw[h];omega) (by rw[h];omega) (λc a=>jU _ d.1 d.2 _ c (g.on a)) (λc a=>jU _ b.1 b.2 _ c (g.on a)) λc a=>rE (n:=13) ((i.below a).mono a.size) (xA.mono (g.on a) a.size) (sf f).1 (sf f).2).mono ?_;rintro r w' ⟨rfl,b⟩;refine⟨?_,b⟩;refine congrArg (λk=>Ending.returned (ag k)) ?_;unfold gJ;apply ByteArray.ext;simp
theorem uf(q y:Nat)(k aM:Int)(s:aq)(z:ay)(c r:Nat)(l y0 y1 E:Int)(nm y2 n:aq)(ya:ay)(yl yc:Nat)(w:ah)(D:Int->bF)(aX:q<w.heap.size)(aN:Hid (ai w q 0 (aF y)))(a1:c<=r)(A:Hid (c=2->∃g o,z=some ⟨g,o,none⟩/\g<w.heap.size/\ai w g o (ae l)/\ai w g (o+2) (ag nm)/\ai w g (o+4) (ae y0)/\ai w g (o+5) (ae y1)/\ai w g (o+6) (ag y2)/\ai w g (o+7) (af ya yl yc)))(F:Hid (c=2->l=2->∀W,ap w W->au 56 #[aF y,ag nm,aB y0 y1 y2 ya yl yc] W λe w'=>∃v,e=aw (ax #[ae v,ae E])/\Hid (bH (λb=>b<w.heap.size/\b≠q/\∀g o,z=some ⟨g,o,none⟩->b≠g) W w'/\D v w')))(B:Hid (∀v W,D v W->E=0->au 22 #[ae v] W λe w'=>e=aw (ag n)/\ap W w')):au 37 #[aF q,aB k aM s z c r] w λe w'=>(¬(c=2/\l=2)/\e=aw (ax #[ag ⟨#[]⟩,ae 5])/\ap w w')\/((c=2/\l=2)/\e=aw (ax #[ag (if E=0 then n else ⟨#[]⟩),ae E])/\Hid (∃v W,D v W/\ap W w')):=by
 obtain⟨aA,ab⟩:∃aA:aq,(if E=0 then n else ⟨#[]⟩)=aA:=⟨_,rfl⟩;obtain⟨m,j⟩:∃m:Prop,(c=2/\l=2)=m:=⟨_,rfl⟩;rw[ab,j];go_enter func37,ntmps37;go_upto_region 1 with fail;generalize ad:World.alloc _ _=a;have i:Hid (ap w a):=by
  rw[<-ad];exact aW _ _
 have H:a.heap[w.heap.size]?=some (.cells #[ae k,ae aM,ag s,af z c r] 54):=by
  rw[<-ad];exact aL _ _
 have J:=(aS.1 H).1;obtain⟨h,aK⟩:∃h,w.heap.size=h:=⟨_,rfl⟩;rw[aK]at H J;have d3:ai a h 3 (af z c r):=aj H 3;have G:ai a q 0 (aF y):=(i.out.cell (p:=⟨q,0,none⟩) aX).trans aN;clear ad H;by_cases Z:c=2;rotate_left
 ·have aT:((c:Int) !=2)=true:=by rw[gV];omega
  have K:Hid (¬m):=λd=>by rw[<-j]at d;exact Z d.1
  clear A F B G J Z j;go_wp2_with fail
  go_ret2
  exact ak ⟨K.out,rfl,i.out⟩
 subst Z;obtain⟨g,o,rfl,aJ,S,T,U,V,X,Y⟩:=A.out rfl;have ac:∀{f:Nat}{an:az},ai w g f an->ai a g f an:=λ{f an} aQ=>(i.out.cell (p:=⟨g,f,none⟩) aJ).trans aQ;have aP:=ac S;have aT:((2:Int) !=2)=false:=by decide
 by_cases I:l=2;rotate_left
 ·have aY:(l !=2)=true:=gV.2 I;have K:Hid (¬m):=λd=>by rw[<-j]at d;exact I d.2
  clear A F B G J I j ac S T U V X Y;go_wp2_with fail
  go_ret2
  exact ak ⟨K.out,rfl,i.out⟩
 subst I;have ao:Hid m:=by
  show m;rw[<-j];exact⟨rfl,rfl⟩
 clear j;have Q:=av (λW (u:ap a W)=>F.out rfl rfl W (i.out.trans (u.mono i.out.size)));have aV:=bi aJ i.out.size;have a0:g≠h:=by omega
 have aC:=ac T;have aD:=ac U;have aE:=ac V;have aG:=ac X;have aI:=ac Y;rw[aK]at Q;have R:Hid (∀W,bH (λb=>b<h/\b≠q/\∀t al,(some ⟨g,o,none⟩:ay)=some ⟨t,al,none⟩->b≠t) a W->ai W q 0 (aF y)/\ai W h 3 (af (some ⟨g,o,none⟩) 2 r)/\ai W g (o+2) (ag nm)/\ai W g (o+4) (ae y0)/\ai W g (o+5) (ae y1)/\ai W g (o+6) (ag y2)/\ai W g (o+7) (af ya yl yc)):=λW u=>by
  have x:∀f,W.cell? ⟨g,f,none⟩=a.cell? ⟨g,f,none⟩:=λf=>u.cell f aV λd=>d.2.2 g o rfl rfl;exact⟨(u.cell 0 (by omega) (λd=>d.2.1 rfl)).trans G,(u.cell 3 J (by omega)).trans d3,(x _).trans aC,(x _).trans aD,(x _).trans aE,(x _).trans aG,(x _).trans aI⟩
 have M:Hid (ap a a.drew):=(aH _ _).drew;have P:Hid (bH (λb=>b<h/\b≠q/\∀t al,(some ⟨g,o,none⟩:ay)=some ⟨t,al,none⟩->b≠t) a a.drew):=aR M _;clear A F ac S T U V X Y;go_upto_region 3 with fail;clear aP aC aD aE aG aI G d3
 go_region_held3 (λW=>W.cell? ⟨q,0,none⟩=some (aF y)/\W.cell? ⟨h,3,none⟩=some (af (some ⟨g,o,none⟩) 2 r)/\W.cell? ⟨g,o+2,none⟩=some (ag nm)/\W.cell? ⟨g,o+4,none⟩=some (ae y0)/\W.cell? ⟨g,o+5,none⟩=some (ae y1)/\W.cell? ⟨g,o+6,none⟩=some (ag y2)/\W.cell? ⟨g,o+7,none⟩=some (af ya yl yc)) (first|exact R _ P|exact R _ ar) ((first
  | (go_at_call 56;refine(Q.out _ M).mono ?_;rintro e a2 ⟨v,rfl,L⟩;have ar:=av (P.out.trans L.1 λ_ _ d=>d))))
 have N:=av L.out.2;have O:=av (B.out _ _ N);have C:=av ab;clear R Q M P ar L B ab;by_cases aa:E=0
 ·subst aa;obtain rfl:=(if_pos rfl:(if (0:Int)=0 then n else ⟨#[]⟩)=n).symm.trans C.out;have aO:=av (O.out rfl);clear O C;go_wp2_with fail;refine aO.out.mono ?_;rintro e a3 ⟨rfl,aU⟩;go_wp2_with fail
  go_ret2
  exact am ⟨ao.out,rfl,_,_,N,aU⟩
 ·have aZ:(E !=0)=true:=gV.2 aa;obtain rfl:=(if_neg aa:(if E=0 then n else ⟨#[]⟩)=_).symm.trans C.out;clear O C;go_wp2_with fail
  go_ret2
  exact am ⟨ao.out,rfl,_,_,N,aH _ _⟩
theorem D9(q:Nat)(n k G:Int)(s:aq)(C:ay)(F D:Nat)(E:Int)(B:az)(w:ah)(v:ay->Nat->Nat->bF)(x:Nat->bF)(P:0<=n/\n<=99)(L:Hid (w.heap[q]?=some (.cells #[B] 34)))(z:Hid (∀W,ap w W->au 54 #[aB k G s C F D] W λe w'=>∃a l c,e=aw (ax #[af a l c,ae E])/\Hid (ap W w'/\(E=0->v a l c w'))))(m:Hid (E=0->∀a l c W,v a l c W->au 55 #[af a l c,ae (10*n)] W λe w'=>∃b,e=aw (ax #[aF b,ae 0])/\Hid (ap W w'/\x b w'))):au 36 #[aF q,ae n,aB k G s C F D] w λe w'=>(¬E=0/\e=aw (ax #[ag ⟨#[]⟩,ae E])/\ap w w')\/(E=0/\e=aw (ax #[ag ⟨#[111,107]⟩,ae 0])/\Hid (∃b W,x b W/\ap w W/\w'=W.setCell ⟨q,0,none⟩ (aF b))):=by
 have h:Hid (∀o,ap w (w.alloc o)):=λo=>aW _ o;obtain⟨d,p⟩:∃d:Prop,(E=0)=d:=⟨_,rfl⟩;rw[p];have y:=av p;clear p;go_enter func36,ntmps36;go_wp2_with fail;refine(z.out _ (h.out _)).mono ?_;rintro e R ⟨a,l,c,rfl,i⟩;have f:=av ((h.out _).trans (i.out.1.mono (h.out _).size));have j:=av i.out.2;clear i z h;by_cases r:E=0;rotate_left
 ·have N:(E !=0)=true:=gV.2 r;have J:Hid (¬d):=by
   show¬d;rw[<-y.out];exact r
  clear j m;go_wp2_with fail
  go_ret2
  exact ak ⟨J.out,rfl,f.out⟩
 subst r;have I:Hid d:=by
  show d;rw[<-y.out]
 have A:=av (m.out rfl _ _ _ _ (j.out rfl));have Q:IntKind.i64.wrap (10*n)=10*n:=py (by omega);clear m j;go_wp2_with fail;refine A.out.mono ?_;rintro e u ⟨b,rfl,g⟩;have H:=av (f.out.trans (g.out.1.mono f.out.size));have K:=av g.out.2;have t:=fk g.out.1 (fk f L);have M:ai u q 0 B:=aj t 0;have O:u.frozen? ⟨q,0,none⟩=false:=by simp[World.frozen?,t]
 clear t g A f;go_wp2_with fail
 go_ret2
 exact am ⟨I.out,rfl,b,u,K,H,rfl⟩
theorem Dm(b:Nat)(name:aq)(w:ah)(d:ai w b 0 (ag name))(c:Hid (∀w1:ah,au 112 #[ag name] w1 λe w'=>e=aw (ag name)/\ap w1 w')):au 92 #[aF b] w λe w'=>e=aw (ag name)/\ap w w':=by
 go_enter func92,ntmps92;go_wp2_with fail;refine(c _).mono ?_;rintro e w1 ⟨rfl,a⟩;have HB:=av a;clear a;go_wp2_with fail
 go_ret
 exact⟨rfl,HB⟩
theorem P1.sname(a:P1 g p name room cs A k M w)(d:name.size<=2048):au 92 #[aF p] w λe w'=>e=aw (ag name)/\ap w w':=by
 obtain⟨i,r,n,v,q,s,u,l,m,h,b,_⟩:=a;obtain⟨t,j,o,c,_⟩:=b.heap.box;exact Dm p name w (PL.cells c).1 λf=>ew name f d
theorem P1.mails2(C:P1 g p name room cs A k M w)(J:k<=95000)(D:A.length<=999):au 94 #[aF p] w λe w'=>∃(ys:List Tc)(a:ay)(c:Nat),e=aw (af a A.length c)/\Hid (ys.length=A.length/\ap w w'/\fV w'.heap.size w' 13 ys a/\ys.map (cn 13)=A/\((∀b,(Value.slice a A.length c).ownBlock=some b->w.heap.size<=b)/\A.length<=c)/\∀y∈ys,bL 13 y=0/\cG (λq=>w.heap.size<=q) 13 y):=by
 obtain⟨R,ad,l,ai,ab,ae,ag,Z,aa,P,u,⟨rfl,rfl⟩,X,Y⟩:=C;have G:∀y∈l,bL 13 y=0:=λy d=>((u.front (N:=12)).2.2.1 y (cd _ d)).1;have W:l.length<=999:=by simpa using D
 refine(u.mails (N:=12) J (by omega)).mono ?_;rintro e w' ⟨ys,z,a,c,rfl,x⟩;obtain⟨v,j,r⟩:=x;have E:z=(l.map (cn 13)).length:=by
  rw[<-v,cF];exact cX _ _ _ r
 subst E;obtain⟨Q,S,m,_,n,_⟩:=fE.lay (eE 13) (f:=kZ 13) (λ_=>rfl) j;injection m with m _ _;subst m;have H:(l.map (cn 13)).length<=c:=by
  rcases j.2.1.2 with⟨_,U⟩|⟨t,cap,T,e,_,_,V,_⟩
  ·omega
  ·injection e with _ _ e;omega
 refine⟨ys,a,c,rfl,v,j.1,?_,QN ys l r,⟨λb F=>(j.2.1.lt b F).1,H⟩,λy d=>⟨?_,(j.2.2 y d).2.mono λq K=>by rcases K.1 with s|s<;>omega⟩⟩
 ·rcases n with n|⟨t,o,B,I,h⟩
  ·exact ak n
  ·exact am ⟨t,o,B,I,λi y d=>⟨⟨(h i y d).1 0 _ rfl,(h i y d).1 1 _ rfl,(h i y d).1 2 _ rfl,(h i y d).1 3 _ rfl⟩,(h i y d).2⟩⟩
 ·obtain⟨s,O,L⟩:=tM _ _ _ r y d;exact(bP L).trans (G s O)
section
variable {p:mO} {s:Sy} {d:gY} {w:ah}
end
theorem Dp(g:Nat)(u:dd)(a:Int)(nm:aq)(l:az)(L:Nat)(w:ah)(K:Int->Int->aq->ay->Nat->Nat->bF)(J:Int->Int->aq->ay->Nat->Nat->ay->Nat->bF)(P:g<w.heap.size)(A:Hid (ai w g 3 (.map u)))(B:Hid (∀W,ap w W->(Instr.lookup 131 (.map u) (ae a) true).run Tryz.prog W=.ok (ax #[l,.bool true]) W))(E:Hid (∀W,ap w W->au 92 #[l] W λe w'=>e=aw (ag nm)/\ap W w'))(F:Hid (∀W,ap w W->w.heap.size<W.heap.size->au 93 #[l] W λe w'=>∃y0 y1 y2 ya yl yc,e=aw (aB y0 y1 y2 ya yl yc)/\Hid (ap W w'/\K y0 y1 y2 ya yl yc w')))(C:Hid (∀y0 y1 y2 ya yl yc W,ap w W->w.heap.size<W.heap.size->K y0 y1 y2 ya yl yc W->au 94 #[l] W λe w'=>∃ma d,e=aw (af ma L d)/\Hid (ap W w'/\∀I,bH (λq=>q=w.heap.size) w' I->J y0 y1 y2 ya yl yc ma d I))):au 61 #[aF g,ae a] w λe w'=>∃y0 y1 y2 ya yl yc ma d,e=aw (ax #[ag nm,aB y0 y1 y2 ya yl yc,af ma L d,ae 0])/\Hid (J y0 y1 y2 ya yl yc ma d w'/\ap w w'):=by
 go_enter func61,ntmps61;go_upto_region 1 with fail;generalize t:w.alloc _=x;have HB:Hid (ap w x):=by
  rw[<-t];exact aW _ _
 have G:Hid (x.heap[w.heap.size]?=some (.cells #[ae 0,ae 0,ag ⟨#[]⟩,af none 0 0] 54)):=by
  rw[<-t];exact aL _ _
 clear t;have O:=B _ HB;have N:ai x g 3 (.map u):=(HB.cell (p:=⟨g,3,none⟩) P).trans A;clear B A;go_wp2_with fail;refine(E _ HB).mono ?_;rintro e Q ⟨rfl,r⟩;have j:=av (HB.trans (r.mono HB.size));have m:=av (fk r G);clear r E O N HB G;go_wp2_with fail;refine(F _ j (aS.1 m).1).mono ?_;rintro e R ⟨y0,y1,y2,ya,yl,yc,rfl,h⟩;have k:=av (j.trans (h.1.mono j.size));have n:=av (fk h.1 m);have D:=av (C _ _ _ _ _ _ _ k (aS.1 n).1 h.2);clear C h F j m;go_wp2_with fail;refine D.mono ?_;rintro e b ⟨ma,d,rfl,i⟩;have y:=av (k.trans (i.1.mono k.size));have c:=fk i.1 n;have H:=av (i.2 _ (ng b w.heap.size 0 (ae y0) (ae y1) (ag y2) (af ya yl yc)));have z:Hid (ap w (dl b w.heap.size 0 (ae y0) (ae y1) (ag y2) (af ya yl yc))):=(dW (o:=0) (v0:=ae y0) (v1:=ae y1) (v2:=ag y2) (v3:=af ya yl yc) y (aA _));have f:=av (tE c (ae y0) (ae y1) (ag y2) (af ya yl yc));obtain⟨q,s⟩:∃q,q=w.heap.size:=⟨_,rfl⟩;rw[<-s]at c f z H ⊢;have M:=av s;clear s;have S:ai b q 0 (ae 0):=aj c 0;have T:ai b q 1 (ae 0):=aj c 1;have U:ai b q 2 (ag ⟨#[]⟩):=aj c 2;have V:ai b q 3 (af none 0 0):=aj c 3;have f0:b.frozen? ⟨q,0,none⟩=false:=by simp[World.frozen?,c]
 have f1:b.frozen? ⟨q,1,none⟩=false:=by simp[World.frozen?,c]
 have f2:b.frozen? ⟨q,2,none⟩=false:=by simp[World.frozen?,c]
 have f3:b.frozen? ⟨q,3,none⟩=false:=by simp[World.frozen?,c]
 clear c i D n k y;go_wp2_with fail;have d0:(dl b q 0 (ae y0) (ae y1) (ag y2) (af ya yl yc)).cell? ⟨q,0,none⟩=some (ae y0):=aj f 0;have d1:(dl b q 0 (ae y0) (ae y1) (ag y2) (af ya yl yc)).cell? ⟨q,1,none⟩=some (ae y1):=aj f 1;have d2:(dl b q 0 (ae y0) (ae y1) (ag y2) (af ya yl yc)).cell? ⟨q,2,none⟩=some (ag y2):=aj f 2;have d3:(dl b q 0 (ae y0) (ae y1) (ag y2) (af ya yl yc)).cell? ⟨q,3,none⟩=some (af ya yl yc):=aj f 3;simp only[dl,cC]at d0 d1 d2 d3;exact aE (v:=ax #[ag nm,aB y0 y1 y2 ya yl yc,af ma L d,ae 0]) (by simp[results,results61,go_sem,d0,d1,d2,d3]) rfl ⟨y0,y1,y2,ya,yl,yc,ma,d,rfl,H,M.out▸z.out⟩
def mi(t:Tc)(B:Nat)(y0 y1:Int)(y2:aq)(ya:ay)(yl yc:Nat)(W:ah):Prop:=∃(m:Nat)(x:Tm (m+1)),(x.1=(y0,y1,y2)/\x.2.1=(ya,yc)/\x.2.2.length=yl)/\aK (m+1) x 13 t=true/\In W.heap.size W (m+1) x/\cG (λq=>B<=q/\q<W.heap.size) (m+1) x
theorem mi.kee(c:mi t B y0 y1 y2 ya yl yc W)(b:bH S W f)(i:∀q,B<=q->q<W.heap.size->¬S q):mi t B y0 y1 y2 ya yl yc f:=by
 obtain⟨j,k,d,e,g,h⟩:=c;have:=fC b (D:=λq=>B<=q/\q<W.heap.size) (λq a=>i q a.1 a.2) ⟨g,h⟩;exact⟨j,k,d,e,this.1,this.2.mono λq a=>⟨a.1,bi a.2 b.size⟩⟩
def rQ(a:List Tc)(B:Nat)(ma:ay)(W:ah):Prop:=∃ys:List Tc,ys.length=a.length/\fV W.heap.size W 13 ys ma/\ys.map (cn 13)=a/\(∀y∈ys,bL 13 y=0/\cG (λq=>B<=q) 13 y)/\∀g o,ma=some ⟨g,o,none⟩->B<=g
theorem rQ.kee{ma:ay}(u:rQ A B ma W)(d:bH S W f)(j:∀q,B<=q->q<W.heap.size->¬S q):rQ A B ma f:=by
 obtain⟨F,z,C,E,m,l⟩:=u;refine⟨F,z,?_,E,m,l⟩;rcases C with r|⟨a,o,s,b,t⟩
 ·exact ak r
 ·subst s;have w:=l a o rfl;refine am ⟨a,o,rfl,bi b d.size,λy n k=>?_⟩;have v:f.heap[a]?=W.heap[a]? :=d.block a b (j a w b);have c:=t y n k;have x:=fC d (D:=λq=>B<=q/\q<W.heap.size) (λq p=>j q p.1 p.2) ⟨c.2,In.offB (m n (aU k)).2 c.2⟩;refine⟨?_,x.1⟩;obtain⟨e,g,h,i⟩:=c.1;simp only[World.cell?,<-v]at e g h i;exact⟨e,g,h,i⟩
section
variable {p:mO} {s:Sy} {d:gY} {w:ah}
theorem bG.procC(m:bG p s d w){a:Int}{nm:aq}{cs:Tc}{f:List Tc}(F:s.get a=some (nm,cs,f))(S:nm.size<=2048)(ak:d.k<=92000):au 61 #[aF p.b,ae a] w λe w'=>∃y0 y1 y2 ya yl yc ma i,e=aw (ax #[ag nm,aB y0 y1 y2 ya yl yc,af ma f.length i,ae 0])/\Hid (((mi cs w.heap.size y0 y1 y2 ya yl yc w'/\rQ f w.heap.size ma w')/\f.length<=i)/\ap w w'):=by
 obtain⟨n,G⟩:∃n,dq d.l a=some n:=by
  have:=m.alive a;rw[F]at this;exact gn.1 this
 obtain⟨Y,K,J,C,v,aj⟩:=m.ps a n G;rw[F]at C;obtain⟨rfl,rfl,rfl⟩:nm=Y/\cs=K/\f=J:=by simpa using C
 refine Dp p.b d.po a nm (Bg n) f.length w (λy0 y1 y2 ya yl yc h=>mi cs (w.heap.size+1) y0 y1 y2 ya yl yc h) (λy0 y1 y2 ya yl yc ma i w'=>(mi cs w.heap.size y0 y1 y2 ya yl yc w'/\rQ f w.heap.size ma w')/\f.length<=i) m.lo.2 m.cells.2.2.2 (λh g=>?_) (λh g=>(v.later g).sname S) (λh g R=>?_) λy0 y1 y2 ya yl yc h g R Q=>?_
 ·have:=(m.later g).look a true;rw[if_pos rfl,G]at this;exact this
 ·refine((v.later g).state (by omega)).mono ?_;rintro e w' ⟨c,rfl,t⟩;obtain⟨L,D,M,N,O⟩:=t.out;refine⟨c.1.1,c.1.2.1,c.1.2.2,c.2.1.1,c.2.2.length,c.2.1.2,rfl,L,12,c,⟨rfl,rfl,rfl⟩,?_,D,(In.offB M D).mono λq j=>⟨by omega,j.2⟩⟩;rw[<-O];exact dF _ _ _ _ (eH N)
 ·refine((v.later g).mails2 (by omega) (by omega)).mono ?_;rintro e w' ⟨B,ma,i,rfl,t⟩;obtain⟨U,x,V,W,I,X⟩:=t;have al:=x.size;refine⟨ma,i,rfl,x,λai E=>⟨⟨?_,?_⟩,I.2⟩⟩
  ·obtain⟨T,aa,y,z,A,r⟩:=(Q.kee (aR x λ_=>False) λ_ _ _ j=>j).kee E λq ab ad ah=>by omega
   exact⟨T,aa,y,z,A,r.mono λq j=>⟨by omega,j.2⟩⟩
  ·have P:rQ f h.heap.size ma w':=⟨B,U,V,W,X,λu o e=>I.1 u (by rw[e];rfl)⟩;obtain⟨B,y,z,A,r,Z⟩:=P.kee E λq ab ad ah=>by omega
   exact⟨B,y,z,A,λc H=>⟨(r c H).1,(r c H).2.mono λq j=>by omega⟩,λu o e=>by have:=Z u o e;omega⟩
end
def Qm(s:aq)(B:Nat)(a y0 y1:Int)(y2:aq)(ya:ay)(yl yc:Nat)(W:ah):Prop:=a=(rdT s).1/\(a=0->bL 13 (rdT s).2=0/\mi (rdT s).2 B y0 y1 y2 ya yl yc W)
theorem Em(s:aq)(r:s.size<=maxLen)(w:ah):au 35 #[ag s] w λe w'=>∃y0 y1 y2 ya yl yc pos d,e=aw (ax #[aB y0 y1 y2 ya yl yc,ae pos,ae d])/\Hid (ap w w'/\Qm s w.heap.size d y0 y1 y2 ya yl yc w'):=by
 refine(yO s w r).mono ?_;rintro e w' ⟨k,x,t,m,l,c,pos,d,rfl,j⟩;obtain⟨q,o⟩:=j.out;refine⟨k,x,t,m,l,c,pos,d,rfl,o,?_⟩;rcases q with⟨b,_,_,rfl⟩|⟨v,b,g,_,_,rfl⟩|⟨b,g,n,i,u,h,p,_,rfl,f⟩
 ·rw[Qm,tI (ak ⟨b,rfl⟩)];exact⟨rfl,λa=>by cases a⟩
 ·rw[Qm,tI (am (ak ⟨b,⟨v,g⟩,rfl⟩))];exact⟨rfl,λa=>by cases a⟩
 ·rw[Qm,tI (am (am ⟨b,g,n,i,u,rfl⟩))];refine⟨rfl,λa=>?_⟩;simp only[a,cD];refine⟨oV a,?_⟩;rcases f with⟨y,_⟩|⟨_,f⟩
  ·exact absurd a y
  ·cases n with
   | zero=>exact h.elim
   | succ n=>
    obtain⟨⟨z,A,B⟩,⟨C,D⟩,E⟩:=i;simp only[dG,Value.agg.injEq,Array.mk.injEq,lC,Value.int.injEq,Value.string.injEq,Value.slice.injEq,true_and,gU]at f;obtain⟨rfl,rfl,rfl,rfl,rfl,rfl⟩:=f;exact⟨n,_,⟨rfl,rfl,rfl⟩,dF _ _ _ _ (eH a),h,In.offB p h⟩
theorem O6{v:Int}(a:vO s=some v):0<=v/\v<=99:=by
 unfold vO at a;split at a
 ·split at a
  ·rename_i b;obtain rfl:=aJ a;exact b.1
  ·cases a
 ·cases a
theorem Aa{wd:aq}(c:iE wd=some (a,b)):a<=2/\b<=1:=by
 unfold iE at c
 repeat' split at c
 all_goals (cases c<;>exact⟨by decide,by decide⟩)
def OS(r:Int×aq×Int×Int×Tc)(B:Nat)(d:aq)(a b f g:Int)(h:aq)(xa:ay)(i xc:Nat)(W:ah):Prop:=
 (d=r.2.1/\a=r.2.2.1/\b=r.2.2.2.1)/\(0<=a/\a<=99)/\(0<=b/\b<=99)/\mi r.2.2.2.2 B f g h xa i xc W/\∃e c,iE d=some (e,c)/\((c=0/\r.2.2.2.2=tT)\/(c=1/\bL 13 r.2.2.2.2=0))
theorem IN(B:Nat)(W:ah):mi tT B 0 0 ⟨#[]⟩ none 0 0 W:=⟨0,((0,0,⟨#[]⟩),(none,0),[]),⟨rfl,rfl,rfl⟩,by kernel_rfl,⟨⟨by simp[dp],by simp[dp],aN _,by simp,by simp⟩,ak rfl⟩,ak rfl⟩
theorem ou(b:aq):(k:Nat)->(s:aq)->∀x∈Lib.splitB b 0 k s,x.size<=s.size
 | 0,s,x,a=>by
  rw[Lib.splitB_zero,dP]at a;rw[a];exact aA _
 | k+1,s,x,a=>by
  unfold Lib.splitB at a;split at a
  ·rw[dP]at a;rw[a];exact aA _
  ·rcases cr.1 a with rfl|a
   ·simp[ByteArray.size_extract];omega
   ·have:=ou b k _ x a;simp only[ByteArray.size_extract]at this;omega
theorem mi.less{C:Nat}(b:mi t B y0 y1 y2 ya yl yc W)(g:C<=B):mi t C y0 y1 y2 ya yl yc W:=by
 obtain⟨h,i,c,d,e,f⟩:=b;exact⟨h,i,c,d,e,cG.mono (λj a=>⟨aG g a.1,a.2⟩) f⟩
theorem Gg(a:aq)(h:a.size<=65536)(c:Cx B w):au 31 #[ag a,ag ⟨#[32]⟩] w λe w'=>∃g b,e=aw (ax #[ag (kA a),ag g,.bool b])/\ap w w':=by
 obtain⟨_,f,_,_,_,d⟩:=c;refine(Tryz.strings_Cut a ⟨#[32]⟩ f w (by omega) (d w (aH _ _)).1).mono ?_;rintro e w' ⟨rfl,n,rfl⟩;exact⟨_,_,rfl,iY (aH _ _) n⟩
theorem Fx(d:aq)(s:d.size<=65536)(a b:Nat)(p:a<=2)(q:b<=1)(l:Cx B w):au 33 #[ag d,ag ⟨#[32]⟩,ae (1+a+b)] w λe w'=>∃g c,e=aw (.slice (some ⟨g,0,none⟩) (dr d a b).length c)/\(dr d a b).length<=c/\Hid (ap w w'/\g<w'.heap.size/\0<(dr d a b).length/\∀j,j<(dr d a b).length->ai w' g j (ag ((dr d a b).getD j .empty))):=by
 obtain⟨_,o,_,_,_,n⟩:=l;have i:((1+a+b:Nat):Int)=1+a+b:=by omega
 have f:=Tryz.strings_SplitN d ⟨#[32]⟩ (1+a+b) o w (by omega) (n w (aH _ _)).1 (by decide) (by omega) (by omega);rw[i]at f;refine f.mono ?_;rintro e w' ⟨rfl,rfl⟩;have r:(dr d a b).length<=min (1+a+b) (d.size+1)-1+1:=Lib.splitB_length_le _ _ _ _;have m:(dr d a b).length<=min (1+a+b) (d.size+1):=by omega
 refine⟨_,_,rfl,m,aW _ _,(aS.1 (aL w _)).1,?_,λj h=>?_⟩
 ·show 0<(Lib.splitB QK 0 _ d).length;cases min (1+a+b) (d.size+1)-1 with
  | zero=>exact Nat.zero_lt_one
  | succ k=>
   unfold Lib.splitB;split
   ·exact Nat.zero_lt_one
   ·exact Nat.succ_pos _
 ·refine(aj (aL w _) j).trans ?_;show (Lib.cellsOf (dr d a b) _).toList[j]?=_;simp only[Lib.cellsOf];rw[dO (by simpa using h),di,nJ,aV h];rfl
theorem pj(c:aq)(d:c.size<=65536)(a b i:Nat):((dr c a b).getD i .empty).size<=65536:=by
 rw[nJ];cases e:(dr c a b)[i]? with
 | none=>exact aN _
 | some f=>exact aG (ou _ _ _ f (aU e)) d
theorem Hv(c:aq)(q:c.size<=65536)(G:Cx B w)(u:B<=w.heap.size):au 24 #[ag c] w λe w'=>∃i a b l m n xa o xc,e=aw (ax #[.agg #[ag i,ae a,ae b,ae l,ae m,ag n,af xa o xc],ae (dkRead c).1])/\Hid (ap w w'/\((dkRead c).1=0->OS (dkRead c) w.heap.size i a b l m n xa o xc w')):=by
 have r:∀d,ap w d->Cx B d:=λd j=>G.on (j.mono u);obtain⟨C,h⟩:∃C,dkRead c=C:=⟨_,rfl⟩;rw[h];unfold dkRead at h;cases hf:iE (kA c)with
 | none=>
  rw[hf]at h;subst h;refine(vQ c (kA c) 0 0 false 0 (λ_=> .empty) (λ_=>none) w (λ_ _ _ _ _ _ _ _=>False) (by omega) (by omega) (λd j=>Gg c q (r d j)) (λd=>?_) (λi=>by cases i) (λf d y=>absurd y (Nat.not_lt_zero f)) (λi=>by cases i)).mono ?_
  ·refine(Ch (kA c) d).mono ?_;rintro e w' ⟨rfl,rfl⟩;rw[hf];exact⟨rfl,rfl⟩
  ·rintro e w' ⟨i,a,b,l,m,n,xa,o,xc,p,rfl,H,g⟩;rcases g with⟨rfl,_⟩|⟨⟨k,_⟩,_⟩
   ·exact⟨i,a,b,l,m,n,xa,o,xc,rfl,H,λk=>by cases k⟩
   ·cases k
 | some E=>
  obtain⟨a,b⟩:=E;obtain⟨v,x⟩:=Aa hf;rw[hf]at h;simp only at h;have L:∀f,qS (dr c a b) f=vO ((dr c a b).getD (1+f) .empty):=λ_=>rfl;refine(vQ c (kA c) a b true (dr c a b).length (λf=>(dr c a b).getD f .empty) (qS (dr c a b)) w (λp l m n xa o xc d=>p=(rdT ((dr c a b).getD (1+a) .empty)).1/\(p=0->bL 13 (rdT ((dr c a b).getD (1+a) .empty)).2=0/\mi (rdT ((dr c a b).getD (1+a) .empty)).2 w.heap.size l m n xa o xc d)) v x (λd j=>Gg c q (r d j)) (λd=>?_) (λ_ d j=>Fx c q a b v x (r d j)) (λf d y j=>?_) (λ_ d j=>?_)).mono ?_
  ·refine(Ch (kA c) d).mono ?_;rintro e w' ⟨rfl,rfl⟩;rw[hf];exact⟨rfl,rfl⟩
  ·exact KD _ (by have:=pj c q a b (1+f);omega) (r d j) (aG u j.size)
  ·refine(Em _ (by have:=pj c q a b (1+a);unfold maxLen;omega) d).mono ?_;rintro e w' ⟨y0,y1,y2,ya,yl,yc,pos,p,rfl,g⟩;refine⟨y0,y1,y2,ya,yl,yc,pos,p,rfl,g.1,λM J=>⟨g.2.1,λi=>⟨(g.2.2 i).1,mi.less (mi.kee (g.2.2 i).2 J λP N _ O=>by omega) j.size⟩⟩⟩
  ·rintro e w' ⟨i,D,F,l,m,n,xa,o,xc,p,rfl,t,g⟩;rcases g with⟨rfl,K⟩|⟨I,⟨rfl,rfl,rfl⟩,g⟩
   ·rw[if_neg λk=>K ⟨rfl,k⟩]at h;subst h;exact⟨i,D,F,l,m,n,xa,o,xc,rfl,t,λk=>by cases k⟩
   ·rw[if_pos I.2]at h;have s:∀f,0<=jX a (qS (dr c a b)) f 2/\jX a (qS (dr c a b)) f 2<=99:=λf=>by
     unfold jX;split
     ·cases e:qS (dr c a b) f with
      | none=>exact⟨by decide,by decide⟩
      | some Q=>exact O6 ((L f).symm.trans e)
     ·exact⟨by decide,by decide⟩
    have z:jX a (qS (dr c a b)) 0 2=if 0<a then (qS (dr c a b) 0).getD 0 else 0:=by simp[jX]
    have A:jX a (qS (dr c a b)) 1 2=if 1<a then (qS (dr c a b) 1).getD 0 else 0:=by simp[jX]
    rcases g with⟨rfl,rfl,rfl,rfl,rfl,rfl,rfl,rfl⟩|⟨rfl,rfl,g⟩
    ·simp only[cD]at h;subst h;exact⟨_,_,_,0,0,⟨#[]⟩,none,0,0,rfl,t,λ_=>⟨⟨rfl,z,A⟩,s 0,s 1,IN _ _,a,0,hf,ak ⟨rfl,rfl⟩⟩⟩
    ·simp only[Nat.one_ne_zero,if_false]at h;subst h;exact⟨_,_,_,l,m,n,xa,o,xc,rfl,t,λk=>⟨⟨rfl,z,A⟩,s 0,s 1,(g k).2,a,1,hf,am ⟨rfl,(g k).1⟩⟩⟩
def uc(v:az):Obj:=.cells #[v] 34
def Qv(q i:Nat)(P:List (Bh 13))(room:Int)(s:Sy)(M:aX)(W:ah):Prop:=∃(p:mO)(d:gY),W.heap[q]?=some (uc (aF p.b))/\bG p s d W/\(p.room=room/\aK (p.n+6) (cY p.n p.prog) 18 (cY 12 P)=true/\oJ 12 P=0)/\(pC s/\nR s)/\(d.k<=i*402/\d.es.length<=i*201/\d.wn<=i*201/\d.bn<=i*201)/\∀b,d.ow b≠0->M b
def jM(a q i:Nat)(c:qq)(M:aX)(W:ah):Prop:=(Cx a W/\a<=q/\q+1<W.heap.size)/\(∀b,M b->q+1<b/\b<W.heap.size)/\match c with
 | none=>W.heap[q]?=some (uc (.pointer none))
 | some (P,room,s)=>Qv q i P room s M W
def jN(a q i:Nat)(c:qq)(M:aX)(w w':ah):Prop:=∃M',jM a q (i+1) c M' w'/\bH (λb=>b=q\/M b) w w'/\∀b,M' b->M b\/w.heap.size<=b
theorem jM.kept{f q i:Nat}{k:qq}{M S:aX}{W g:ah}(n:jM f q i k M W)(e:bH S W g)(j:∀b,S b->f<=b/\b≠q/\¬M b):jM f q i k M g:=by
 obtain⟨⟨o,r,t⟩,l,h⟩:=n;have u:=e.size;have m:g.heap[q]?=W.heap[q]? :=e.block q (by omega) λc=>(j q c).2.1 rfl;refine⟨⟨o.on (e.below (by omega) λb a c=>by have:=(j b c).1;omega),r,by omega⟩,λb a=>⟨(l b a).1,by have:=(l b a).2;omega⟩,?_⟩
 match k,h with
 | none,h=>exact m.trans h
 | some (P,room,s),⟨p,d,k1,k2,k3,k4,k5,k6⟩=>exact⟨p,d,m.trans k1,k2.kept e λb a=>Classical.byContradiction λc=>(j b a).2.2 (k6 b c),k3,k4,k5,k6⟩
variable{h:qq}
theorem jM.later(a:jM g q i h M W)(b:ap W f):jM g q i h M f:=a.kept (aR b λ_=>False) λ_ c=>c.elim
theorem jM.next(b:jM g q i h M W):jM g q (i+1) h M W:=by
 obtain⟨c,e,a⟩:=b;refine⟨c,e,?_⟩
 match h,a with
 | none,a=>exact a
 | some (P,room,s),⟨p,d,k1,k2,k3,k4,k5,k6⟩=>exact⟨p,d,k1,k2,k3,k4,⟨by omega,by omega,by omega,by omega⟩,k6⟩
theorem jM.stay(b:jM g q i h M W)(a:ap W f):jN g q i h M W f:=⟨M,(b.later a).next,aR a _,λ_ c=>ak c⟩
theorem jN.later{a q i:Nat}{d:qq}{M:aX}{w W b:ah}(f:jN a q i d M w W)(c:ap W b):jN a q i d M w b:=by
 obtain⟨e,g,h,j⟩:=f;exact⟨e,g.later c,h.trans (aR c λ_=>False) λ_ _ k=>k.elim,j⟩
theorem jN.from(c:ap w W)(e:jN g q i h M W f):jN g q i h M w f:=by
 obtain⟨d,j,k,l⟩:=e;exact⟨d,j,(aR c _).trans k λ_ _ a=>a,λb a=>(l b a).imp id λa=>aG c.size a⟩
theorem jM.box(a:jM g q i h M W):∃b,W.heap[q]?=some (uc b):=by
 match h,a.2.2 with
 | none,h5=>exact⟨_,h5⟩
 | some (P,room,s),⟨p,d,k1,_⟩=>exact⟨_,k1⟩
theorem jM.up{s l:Sy}{p:mO}{d h:gY}(A:jM g q i (some (P,room,s)) M w)(j:ap w W)(D:w.heap[q]?=some (uc (aF p.b)))(E:p.room=room/\aK (p.n+6) (cY p.n p.prog) 18 (cY 12 P)=true/\oJ 12 P=0)(L:d.k<=i*402/\d.es.length<=i*201/\d.wn<=i*201/\d.bn<=i*201)(o:∀b,d.ow b≠0->M b)(t:bG p l h f)(C:gF a c d h W f)(H:a<=201)(I:c<=402)(B:pC l/\nR l):jN g q i (some (P,room,l)) M w f:=by
 obtain⟨⟨y,z,G⟩,m,_⟩:=A;obtain⟨r,F,N,O,Q,R⟩:=C;have J:=j.size;have K:=r.size;have u:bH (λb=>b=q\/M b) w f:=(aR j _).trans r λb _ e=>am (o b e);have v:∀b,h.ow b≠0->M b\/w.heap.size<=b:=λb e=>by
  by_cases x:b<W.heap.size
  ·rw[F b x]at e;exact ak (o b e)
  ·exact am (by omega)
 refine⟨λb=>h.ow b≠0,⟨⟨y.on (u.below (by omega) λb j e=>?_),z,by omega⟩,λb e=>⟨?_,(t.low b e).2⟩,p,h,?_,t,E,B,⟨by omega,by omega,by omega,by omega⟩,λ_ e=>e⟩,u,v⟩
 ·rcases e with e|e
  ·omega
  ·have:=(m b e).1;omega
 ·rcases v b e with e|e
  ·exact(m b e).1
  ·omega
 ·refine(r.block q (by omega) λe=>?_).trans ((j.block q (by omega)).trans D);have:=(m q (o q e)).1;omega
theorem pX(b:mi t B u z C xa g xc W)(e:bL 13 t=0):∃(m:Nat)(l:List (Tm m)),l.length=g/\aK (m+1) ((u,z,C),(xa,xc),l) 13 t=true/\In W.heap.size W (m+1) ((u,z,C),(xa,xc),l)/\cG (λq=>B<=q/\q<W.heap.size) (m+1) ((u,z,C),(xa,xc),l)/\(aI (m+1) ((u,z,C),(xa,xc),l)).length<=201:=by
 obtain⟨m,f,⟨f1,f2,f3⟩,a,c,d⟩:=b;obtain⟨⟨i,j,k⟩,⟨n,o⟩,h⟩:=f;simp only[gS]at f1 f2;obtain⟨rfl,rfl,rfl⟩:=f1;obtain⟨rfl,rfl⟩:=f2;exact⟨m,h,f3,a,c,d,jQ ((bP a).trans e)⟩
theorem Ej(J:jM g q i h M w){a:Int}(aD:0<=a/\a<=99)(aL:mi t B u z C xa p xc w)(O:bL 13 t=0):au 36 #[aF q,ae a,aB u z C xa p xc] w λe w'=>e=aw (ax #[ag ⟨(mJ h a t).2.2.toArray⟩,ae (mJ h a t).2.1])/\Hid (jN g q i (mJ h a t).1 M w w'):=by
 obtain⟨d,l,rfl,D,Z,aI,aH⟩:=pX aL O;obtain⟨o,Y⟩:∃o:Tm (d+1),((u,z,C),(xa,xc),l)=o:=⟨_,rfl⟩;have aJ:∀H:az,H=aB u z C xa l.length xc->H=dG (d+1) o:=λH c=>by rw[c,<-Y];rfl
 rw[Y]at D Z aI aH;obtain⟨aj,ab⟩:=J.box;have P:bL (d+1) o=0:=(bP D).trans O;have K:sh d (d+1) o=if (oE t).isSome then 0 else 5:=Ij (aA _) P D
 refine(D9 q a u z C xa l.length xc (sh d (d+1) o) aj w (λy U s f=>∃c:List (Bh (d+1)),c.length=U/\(U<=s/\s<=maxLen)/\iX (d+1) f.heap.size f y c/\(∃I,xF d (d+1) o=some I/\fh (xZ (d+1)) c I)/\w.heap.size<=f.heap.size) (λal f=>∃(j:mO)(m:gY),al=j.b/\bG j Qg m f/\(m.k=0/\m.es=[]/\m.wn=0/\m.bn=0)/\j.room=10*a/\w.heap.size<=j.lo/\aK (j.n+6) (cY j.n j.prog) 13 t=true) aD ab (λf N=>?_) λA y U s f hF=>?_).mono ?_
 ·rw[aJ _ rfl];refine(Ck d (d+1) (aA _) o f.heap.size f ((Z.below N).mono N.size) (by omega) (aA _)).mono ?_;rintro e w' ⟨c,y,s,rfl,v⟩;obtain⟨G,S,T,_,_,ai⟩:=v.out;exact⟨y,c.length,s,rfl,G,λe=>⟨c,rfl,S,T,ai e,aG N.size G.size⟩⟩
 ·obtain⟨c,rfl,⟨G,S⟩,T,⟨I,af,aM⟩,ai⟩:=hF;have aC:lm (d+1) I=true:=by
   unfold sh vX at A;rw[if_pos P,af]at A;simp only at A;split at A
   ·assumption
   ·cases A
  obtain⟨t1,t2,t3,t4⟩:=yV (aA _) P af aM aC;have t5:aK (d+6) (cY d c) 13 t=true:=by
   have e:Jw d c=cY d c:=by unfold Jw;simp[t2]
   rw[e]at t3;exact bW _ _ _ _ _ _ t3 D
  refine(L6 d c y s (10*a) f T G S λ_=>by omega).mono ?_;rintro e w' ⟨H,aV,rfl,v⟩;obtain⟨aS,aT,_,aU⟩:=v.out;have ad:aV=0:=by
   rw[aS];unfold Dl;rw[if_neg (λc=>c t2),if_pos (by omega)]
  obtain⟨j,m,rfl,E,aP,V,aQ,_,W⟩:=aU ad;subst ad;exact⟨j.b,rfl,aT,j,m,rfl,E,aP,V,by omega,bW _ _ _ _ _ _ W t5⟩
 ·rintro e w' (⟨F,rfl,r⟩|⟨F,rfl,v⟩)
  ·have aa:oE t=none:=by
     cases e:oE t with
     | none=>rfl
     | some x=>exact absurd (by rw[K,e];rfl) F
   have ap:sh d (d+1) o=5:=by rw[K,aa];rfl
   unfold mJ;rw[aa,ap];exact⟨rfl,J.stay r⟩
  ·obtain⟨x,X⟩:∃x,oE t=some x:=by
     cases e:oE t with
     | none=>rw[K,e]at F;cases F
     | some x=>exact⟨x,rfl⟩
   obtain⟨an,ao⟩:=vI O X;obtain⟨al,f,⟨j,m,rfl,E,⟨aZ,aO,a0,a1⟩,V,aQ,W⟩,r,rfl⟩:=v.out;obtain⟨⟨ar,av,aW⟩,aY,_⟩:=J;have D:=r.size;have R:f.heap[q]?=some (uc aj):=(r.block q (by omega)).trans ab;have L:=bO f q 0 (aF j.b);have Q:∀b,m.ow b≠0->w.heap.size<=b:=λb c=>by have:=(E.low b c).1;omega
   unfold mJ;rw[X];refine⟨rfl,λb=>m.ow b≠0,⟨⟨(ar.on (r.mono (by omega))).on (L.below (by omega) λb r c=>by omega),av,by simpa using (by omega:q+1<f.heap.size)⟩,λb c=>⟨?_,by simpa using (E.low b c).2⟩,j,m,?_,E.kept L λb c=>?_,⟨V,bW _ _ _ _ _ _ W (dF _ _ _ _ ao),an⟩,⟨λq R=>(by cases R),⟨km _,λe aE=>(by cases aE)⟩⟩,⟨by omega,by rw[aO];exact aN _,by omega,by omega⟩,λ_ c=>c⟩,(aR r _).trans L λb _ c=>ak c,λb c=>am (Q b c)⟩
   ·have:=Q b c;omega
   ·simp[World.setCell,bS,R,uc]
   ·subst c;exact Classical.byContradiction λc=>by have:=Q b c;omega
theorem IK{x:Tm k}(a:aK k x g y=true)(room:Int)(nm:aq):fx k x room nm=fx g y room nm:=by
 unfold fx jo;rw[bP a,cH _ _ _ _ a,kY _ _ _ _ a]
theorem FA{P:List (Bh (n+1))}{x:Tm k}(a:aK k x g y=true)(s:Sy)(room:Int)(nm:aq):s.start n P room nm k x=s.start n P room nm g y:=by
 unfold Sy.start;rw[IK a,gC a]
theorem vP{s:Sy}{l:List (Tm 12)}(a:∀x y,l=[x,y]->¬x.1.1=2):jI P room s l=(some (P,room,s),5,[]):=by
 match l with
 | []=>rfl
 | [_]=>rfl
 | [x,y]=>exact if_neg (a x y rfl)
 | _::_::_::_=>rfl
theorem B4{s:Sy}(x:jM g q i (some (P,room,s)) M w)(aR:i<=200)(aA:mi t B u z C xa p xc w)(am:bL 13 t=0)(al:∀b,M b->b<B):au 37 #[aF q,aB u z C xa p xc] w λe w'=>e=aw (ax #[ag ⟨(jI P room s t.2.2).2.2.toArray⟩,ae (jI P room s t.2.2).2.1])/\Hid (jN g q i (jI P room s t.2.2).1 M w w'):=by
 obtain⟨j,l,rfl,N,ao,av,aV⟩:=pX aA am;obtain⟨m,aM,R,ad,S,af,aD,T⟩:=x.2.2;have aa:q<w.heap.size:=(aS.1 R).1;have X:ai w q 0 (aF m.b):=aj R 0;obtain⟨⟨_,_,_,Z,_⟩,I⟩:=ao;have G:aO (λv b=>aK j v 12 b) l t.2.2=true:=by
  have N:((u==t.1.1 && z==t.1.2.1 && C.toList==t.1.2.2.toList) && aO (λv b=>aK j v 12 b) l t.2.2)=true:=N;exact(Bool.and_eq_true_iff.1 N).2
 by_cases D:l.length=2;rotate_left
 ·refine(uf q m.b u z C xa l.length xc 0 0 0 0 ⟨#[]⟩ ⟨#[]⟩ ⟨#[]⟩ none 0 0 w (λ_ _=>False) aa X Z (λa=>absurd a D) (λa=>absurd a D) (λ_ _ a=>a.elim)).mono ?_;rintro e w' (⟨_,rfl,A⟩|⟨a,_⟩)
  ·rw[vP λaG aH a=>absurd (by rw[pV _ _ _ G,a];rfl) D];exact⟨rfl,x.stay A⟩
  ·exact absurd a.1 D
 obtain⟨d,f,rfl⟩:∃d f,l=[d,f]:=by
  match l,D with
  | [d,f],_=>exact⟨d,f,rfl⟩
 obtain⟨c,h,Y⟩:∃c h,t.2.2=[c,h]:=by
  have:=pV _ _ _ G
  match Y:t.2.2,this with
  | [c,h],_=>exact⟨c,h,rfl⟩
 rw[Y]at G ⊢;have ab:aK j d 12 c=true/\aK j f 12 h=true:=by simpa [aO]using G
 rcases I with a|⟨F,o,rfl,an,I⟩
 ·cases a
 have L:=I 0 d rfl;have k:=I 1 f rfl;cases j with
 | zero=>exact k.2.elim
 | succ j=>
 have aQ:B<=F:=by
  rcases av with a|⟨b,aE,e,Q,_⟩
  ·cases a
  ·simp only[iv,Addr.mk.injEq,gU]at e;rw[e.1];exact Q.1
 have O:d.1.1=c.1.1/\d.1.2.2=c.1.2.2:=by
  have:((d.1.1==c.1.1 && d.1.2.1==c.1.2.1 && d.1.2.2.toList==c.1.2.2.toList) && aO (λv b=>aK j v 11 b) d.2.2 c.2.2)=true:=ab.1;simp only[aT,cU]at this;exact⟨this.1.1.1,by rw[kJ this.1.2,<-kJ (rfl:c.1.2.2.toList=c.1.2.2.toList)]⟩
 have ap:(aI (j+1) f).length<=2097152:=by
  have:(aI (j+1+1) ((u,z,C),(some ⟨F,o,none⟩,xc),[d,f])).length=1+((aI (j+1) d).length+(aI (j+1) f).length):=by
   simp only[aI,bM,List.flatMap_nil,bv,br,eF];omega
  omega
 have az:s.start m.n m.prog m.room d.1.2.2 (j+1) f=s.start 12 P room c.1.2.2 12 h:=by
  rw[S.1,FB S.2.1,FA ab.2,O.2]
 refine(uf q m.b u z C (some ⟨F,o,none⟩) 2 xc d.1.1 f.1.1 f.1.2.1 (s.start 12 P room c.1.2.2 12 h).2 d.1.2.2 f.1.2.2 ⟨(Lib.itoa (s.last+1)).toArray⟩ f.2.1.1 f.2.2.length f.2.1.2 w (λE r=>((s.start 12 P room c.1.2.2 12 h).2=0->E=s.last+1)/\jN g q i (some (P,room,(s.start 12 P room c.1.2.2 12 h).1)) M w r) aa X Z (λ_=>⟨F,o,rfl,an,?_,?_,?_,?_,?_,?_⟩) (λ_ aU r H=>?_) λE r y ak=>?_).mono ?_
 ·exact L.1.1
 ·exact L.1.2.2.1
 ·exact k.1.1
 ·exact k.1.2.1
 ·exact k.1.2.2.1
 ·exact k.1.2.2.2
 ·refine((ad.later H).start d.1.2.2 (by have:=L.2.1.2.2.1;unfold maxLen at this;omega) f ((k.2.below H).mono H.size) ap (by omega) (by omega)).mono ?_;rintro e w' ⟨E,aW,rfl,J⟩;obtain⟨⟨U,K⟩,aN,V,W⟩:=J.out;rw[az]at U V;subst U;refine⟨E,rfl,W.1.mono λb _ a=>?_,K,x.up H R S aD T V W (by omega) (by omega) ⟨af.1.start _ _ _,af.2.start _ _ _⟩⟩;have Q:=x.2.1 b (T b a)
  exact⟨Q.2,by omega,λaP aE e=>by
   simp only[iv,Addr.mk.injEq,gU]at e;have:=al b (T b a)
   omega⟩
 ·obtain⟨K,aL,y,_⟩:=y;rw[K ak];have:=ad.keys;exact jU _ (by omega) (by omega) g r y.1.1.1
 ·rintro e w' (⟨ar,rfl,A⟩|⟨aC,rfl,J⟩)
  ·rw[vP λaG aH a aJ=>ar ⟨rfl,?_⟩]
   ·exact⟨rfl,x.stay A⟩
   ·simp only[lC,gU]at a;rw[O.1,a.1];exact aJ
  ·obtain⟨E,r,⟨_,y⟩,A⟩:=J.out;have e:jI P room s [c,h]=(some (P,room,(s.start 12 P room c.1.2.2 12 h).1),(s.start 12 P room c.1.2.2 12 h).2,if (s.start 12 P room c.1.2.2 12 h).2=0 then Lib.itoa (s.last+1)else []):=if_pos (O.1.symm.trans aC.2);rw[e];refine⟨?_,y.later A⟩;by_cases a:(s.start 12 P room c.1.2.2 12 h).2=0
   ·rw[if_pos a,if_pos a]
   ·rw[if_neg a,if_neg a]
def qL(B b:Nat)(l:List UInt8)(a W:ah):Prop:=Bu B b l W/\(∀r,JU b W r->a.heap.size<=r)/\bH (λq=>q=b\/a.heap.size<=q) a W
theorem He(e:ap W f)(g:b<W.heap.size)(a:JU b f r):JU b W r:=by
 obtain⟨h,c,d⟩:=a;exact⟨h,(e.cell (p:=⟨b,1,none⟩) g).symm.trans c,d⟩
theorem qL.later(a:qL B b l f W)(c:ap W d):qL B b l f d:=
 ⟨a.1.old c,λg e=>a.2.1 g (He c a.1.lt.2 e),a.2.2.trans (aR c λ_=>False) λ_ _ h=>h.elim⟩
theorem qL.wrote{j:List UInt8}(e:qL B b l f W)(a:dE B b j W d)(h:Ol b W d):qL B b j f d:=by
 have p:=e.2.2.size;refine⟨a.1,λk o=>(h.2 k o).elim (e.2.1 k) λm=>by omega,e.2.2.trans (T:=λc=>c=b\/f.heap.size<=c) ⟨a.2.1.os,a.2.1.tape,a.2.1.output,a.2.1.size,λc n i=>h.1 c n (λg=>i (ak g)) λg=>i (am (e.2.1 c g))⟩ λ_ _ m=>m⟩
theorem qL.str(a:qL B b l f W)(s:aq)(c:l.length+s.size<=140737488355328):au 12 #[aF b,ag s] W λe w'=>e=aw (ax #[ae s.size,.nilIface])/\Hid (qL B b (l++s.data.toList) f w'):=
 (mN B b l s W a.1 c (by have:=a.1.lt;omega)).mono λ_ _ k=>⟨k.1,a.wrote k.2.1 k.2.2⟩
theorem qL.nl(a:qL B b l f W)(c:l.length+1<=140737488355328):au 14 #[aF b,.int .u8 10] W λe w'=>e=.returned .nilIface/\Hid (qL B b (l++ [10]) f w'):=
 (pA B b l 10 W a.1 c (by have:=a.1.lt;omega)).mono λ_ _ k=>⟨k.1,a.wrote k.2.1 k.2.2⟩
def tu(T:Nat->aq)(j:Nat):List UInt8:=((List.range j).map λi=>(T i).data.toList++ [10]).flatten
theorem yu(T:Nat->aq)(j:Nat):tu T (j+1)=tu T j++(T j).data.toList++ [10]:=by
 unfold tu;rw[List.range_succ];simp
theorem Co(T:Nat->aq)(j:Nat)(a:∀i,i<j->(T i).size<=70000000):(tu T j).length<=j*70000001:=by
 induction j with
 | zero=>simp[tu]
 | succ j ih=>
  have b:=ih λi e=>a i (by omega);have c:=a j (by omega);have d:=Lib.size_eq (T j);rw[yu];simp only[br,bv,eW];omega
theorem KU(q s:Nat)(y a b A C:Int)(F:aq)(xa:ay)(G xc N:Nat)(E:Int)(K:Nat)(T:Nat->aq)(w:ah)(D:bF)(be:ay->Nat->Nat->bF)(ad:q<w.heap.size)(aG:Hid (ai w q 0 (aF s)))(bA:K<=1000)(ba:Hid (∀i,i<K->(T i).size<=70000000))(a3:Hid (∀W,ap w W->au 57 #[aF s] W λe w'=>e=aw (ae N)/\ap W w'))(aZ:Hid (∀W,ap w W->au 58 #[aF s,.agg #[ae y,ae a,ae b,ae A,ae C,ag F,af xa G xc]] W λe w'=>e=aw (ae E)/\Hid (bH (λb=>b<w.heap.size/\b≠q) W w'/\D w')))(aC:Hid (E=0->∀W aa,D W->ap W aa->W.heap.size<aa.heap.size->au 59 #[aF s,ae N] aa λe w'=>∃a c,e=aw (af a K c)/\Hid (ap aa w'/\be a c W.heap.size w')))(Z:Hid (∀a c j B b l m W,j<K->be a c b m->qL B b l m W->∃g P M O y0 y1 y2 ya yl yc,a=some ⟨g,0,none⟩/\(ai W g (j*7) (ag P)/\ai W g (j*7+1) (ae M)/\ai W g (j*7+2) (ae O)/\ai W g (j*7+3) (ae y0)/\ai W g (j*7+4) (ae y1)/\ai W g (j*7+5) (ag y2)/\ai W g (j*7+6) (af ya yl yc))/\Hid (∀aI,ap W aI->au 60 #[.agg #[ag P,ae M,ae O,ae y0,ae y1,ag y2,af ya yl yc]] aI λe w'=>e=aw (ag (T j))/\ap aI w'))):au 38 #[aF q,.agg #[ae y,ae a,ae b,ae A,ae C,ag F,af xa G xc]] w λe w'=>e=aw (ax #[ag ⟨(if E=0 then tu T K++ [111,107]else []).toArray⟩,ae E])/\Hid (∃W,D W/\ap W w'):=by
 obtain⟨bd,Q⟩:∃bd:aq,⟨(if E=0 then tu T K++ [111,107]else []).toArray⟩=bd:=⟨_,rfl⟩;rw[Q];go_enter func38,ntmps38;go_upto_region 1 with fail;generalize aP:World.alloc _ _=am;have I:Hid (ap w am):=by
  rw[<-aP];exact aW _ _
 have f:am.heap[w.heap.size]?=some (.cells #[ae y,ae a,ae b,ae A,ae C,ag F,af xa G xc] 78):=by
  rw[<-aP];exact aL _ _
 clear aP;have r:ai am q 0 (aF s):=(I.cell (p:=⟨q,0,none⟩) ad).trans aG;have bc:=av f;clear f;go_wp2_with fail;refine(a3.out am I).mono ?_;rintro e h ⟨rfl,aM⟩;have S:=av (I.trans (aM.mono I.size));have f:=fk aM bc;have r:ai h q 0 (aF s):=(S.cell (p:=⟨q,0,none⟩) ad).trans aG;have aB:=av (λW (ab:ap h W)=>aZ.out W (S.out.trans (ab.mono S.out.size)));clear a3 aZ aM bc I S;have x:=(aS.1 f).1;obtain⟨d,ak⟩:∃d,w.heap.size=d:=⟨_,rfl⟩;rw[ak]at f x aB ad;have d0:ai h d 0 (ae y):=aj f 0;have d1:ai h d 1 (ae a):=aj f 1;have d2:ai h d 2 (ae b):=aj f 2;have d3:ai h d 3 (ae A):=aj f 3;have d4:ai h d 4 (ae C):=aj f 4;have d5:ai h d 5 (ag F):=aj f 5;have d6:ai h d 6 (af xa G xc):=aj f 6;clear f;have X:Hid (∀W,bH (λb=>b<d/\b≠q) h W->ai W q 0 (aF s)/\ai W d 0 (ae y)/\ai W d 1 (ae a)/\ai W d 2 (ae b)/\ai W d 3 (ae A)/\ai W d 4 (ae C)/\ai W d 5 (ag F)/\ai W d 6 (af xa G xc)):=λW ab=>by
  have k:∀o,W.cell? ⟨d,o,none⟩=h.cell? ⟨d,o,none⟩:=λo=>ab.cell o x (by omega);exact⟨(ab.cell 0 (by omega) (by omega)).trans r,(k 0).trans d0,(k 1).trans d1,(k 2).trans d2,(k 3).trans d3,(k 4).trans d4,(k 5).trans d5,(k 6).trans d6⟩
 have ar:Hid (ap h h.drew):=(aH _ _).drew;have aD:Hid (bH (λb=>b<d/\b≠q) h h.drew):=aR ar _;have a5:Hid (q<h.heap.size):=(by omega:q<h.heap.size);clear r d0 d1 d2 d3 d4 d5 d6 x ad;go_upto_region 2 with fail
 go_region_held3 (λW=>W.cell? ⟨q,0,none⟩=some (aF s)/\W.cell? ⟨d,0,none⟩=some (ae y)/\W.cell? ⟨d,1,none⟩=some (ae a)/\W.cell? ⟨d,2,none⟩=some (ae b)/\W.cell? ⟨d,3,none⟩=some (ae A)/\W.cell? ⟨d,4,none⟩=some (ae C)/\W.cell? ⟨d,5,none⟩=some (ag F)/\W.cell? ⟨d,6,none⟩=some (af xa G xc)) (first|exact X _ aD|exact X _ V) ((first
  | (go_at_call 58;refine(aB.out _ ar).mono ?_;rintro e m ⟨rfl,an⟩;have V:=av (aD.out.trans an.1 λ_ _ bl=>bl))))
 have r:=(X.out _ V).1;have a4:Hid (q<m.heap.size):=bi a5.out V.out.size;have az:=av an.2;clear X aB ar aD V a5 an aG ak;by_cases aK:E=0;rotate_left
 ·have bz:(E !=0)=true:=by simpa using aK
  rw[if_neg aK]at Q;subst Q;clear aC Z;go_wp2_with fail
  go_ret2
  exact⟨rfl,_,az,aH _ _⟩
 subst aK;rw[if_pos rfl]at Q;subst Q;have a1:=av (aC.out rfl m);clear aC;go_upto_region 6 with fail;generalize al:World.alloc _ _=R;have J:Hid (ap m R):=by
  rw[<-al];exact aW _ _
 have Y:Hid (Bu m.heap.size m.heap.size [] R):=by
  rw[<-al];exact Lib.IsBuilderF.of (Lib.fresh_isBuilder 38 5 m)
 have aX:Hid (ai R m.heap.size 1 (af none 0 0)):=by
  rw[<-al];exact aj (aL _ _) 1
 have a0:=av (a1.out R az J Y.out.lt.2);have r:ai R q 0 (aF s):=(J.cell (p:=⟨q,0,none⟩) a4).trans r;clear al a1;go_wp2_with fail;refine a0.mono ?_;rintro e z ⟨bJ,bK,rfl,H⟩;have bm:=av (J.trans (H.1.mono J.size));have U:Hid (qL m.heap.size m.heap.size (tu T 0) z z):=by
  refine⟨Y.out.old H.1,λd ak=>?_,bH.refl _ _⟩;obtain⟨bL,bf,bv⟩:=ak;rw[(H.1.cell (p:=⟨m.heap.size,1,none⟩) Y.out.lt.2).trans aX]at bf;obtain rfl:=aJ bf;cases bv
 have a2:Hid (m.heap.size<z.heap.size):=U.out.1.lt.2;have bb:=av H.2;clear a0 J Y aX r H a4;obtain⟨t,aO⟩:∃t,m.heap.size=t:=⟨_,rfl⟩;have aU:=av aO;rw[aO]at U bb a2 ⊢;clear aO;go_wp2_with fail;go_loopw [10,32] (λ_ i wr=>∃(j:Nat),j<=K/\i=ae j/\Hid (qL t t (tu T j) z wr)) (λ_ i _=>K-(intOf i).toNat)
 case atStart=>exact⟨0,aN _,rfl,U.out⟩
 case round=>
 clear U;obtain⟨j,bD,rfl,L⟩:=hrel;have aE:=av (Co T j λi bC=>ba.out i (by omega));by_cases x:j<K
 ·obtain⟨g,P,M,O,y0,y1,y2,ya,yl,yc,rfl,⟨r,bo,bp,bq,bs,bt,bu⟩,aV⟩:=Z.out _ _ j _ _ _ z wr x bb L.out;have bE:(0:Int)<=(j:Int):=by omega
  have bG:(j:Int)<(K:Int):=by omega
  have a9:=av (ba.out j x);clear Z;go_upto_region 9 with fail;generalize aQ:World.alloc _ _=n;have ao:Hid (ap wr n):=by
   rw[<-aQ];exact aW _ _
  have f:n.heap[wr.heap.size]?=some (.cells #[ag P,ae M,ae O,ae y0,ae y1,ag y2,af ya yl yc] 101):=by
   rw[<-aQ];exact aL _ _
  have a6:=av (L.out.later ao);have aY:=av (aV.out n ao);clear aQ L aV r bo bp bq bs bt bu ao;generalize wr.heap.size=u at*;have d0:ai n u 0 (ag P):=aj f 0;have d1:ai n u 1 (ae M):=aj f 1;have d2:ai n u 2 (ae O):=aj f 2;have d3:ai n u 3 (ae y0):=aj f 3;have d4:ai n u 4 (ae y1):=aj f 4;have d5:ai n u 5 (ag y2):=aj f 5;have d6:ai n u 6 (af ya yl yc):=aj f 6;clear f;go_wp2_with fail;refine aY.mono ?_;rintro e bM ⟨rfl,bg⟩;have a7:=av (a6.out.later bg);clear bg a6 aY d0 d1 d2 d3 d4 d5 d6;go_wp2_with fail;refine(a7.out.str (T j) (by have:=aE.out;have:=a9.out;omega)).mono ?_;rintro e aT ⟨rfl,v⟩;go_wp2_with fail;refine(v.out.nl (by have:=aE.out;have:=a9.out;have:=Lib.size_eq (T j);simp only[br];omega)).mono ?_;rintro e bk ⟨rfl,a8⟩;rw[<-yu]at a8;clear a7 v;go_wp2_with fail;go_roundw
  case rel=>exact⟨j+1,by omega,by go_num,a8.out⟩
  case measure=>simp[intOf];omega
 ·obtain rfl:j=K:=by omega
  clear Z;go_wp2_with fail;refine(L.out.str ⟨#[111,107]⟩ (by have:=aE.out;show (tu T j).length+2<=_;omega)).mono ?_;rintro e aT ⟨rfl,v⟩;clear L;go_wp2_with fail;refine(Tryz.Builder_String_any_k t t (tu T j++ [111,107]) aT v.out.1 (by have:=v.out.1.lt;omega)).mono ?_;rintro e bk ⟨rfl,_,bh,_⟩;have bn:Hid (Below t m bk):=by
   have bj:=bm.out;have bw:=v.out.2.2;have bI:=a2.out;have bx:Below t z aT:=bw.below (by omega) λb bB bl=>by omega
   have e:=aU.out;rw[e]at bj;exact(bj.trans bx).trans (bh.mono (aA _))
  clear bh;go_wp2_with fail
  go_ret2
  exact⟨rfl,_,az,by rw[aU.out];exact bn⟩
def tY(r:Nat)(a:ah)(v:az)(l:bm)(W:ah):Prop:=W.ownsRow r 9 1 v l.length (l.map Value.string)/\(∀b,v.ownBlock=some b->b=r\/a.heap.size<=b)/\bH (λb=>b=r\/a.heap.size<=b) a W/\r<=a.heap.size
theorem tY.later{l:bm}(a:tY r f v l W)(b:ap W d):tY r f v l d:=
 ⟨dV a.1 b,a.2.1,a.2.2.1.trans (aR b λ_=>False) λ_ _ c=>c.elim,a.2.2.2⟩
theorem tY.grown{e:az}{l c:bm}(a:tY r f v l W)(h:d.ownsRow r 9 1 e c.length (c.map Value.string))(i:W.grownBy d v.ownBlock)(j:∀b,e.ownBlock=some b->v.ownBlock=some b\/W.heap.size<=b):tY r f e c d:=by
 have m:=a.2.2.1.size;exact⟨h,λb k=>(j b k).elim (a.2.1 b) λg=>by omega,a.2.2.1.trans (ex i) λb _ g=>a.2.1 b g,a.2.2.2⟩
theorem tY.below{r:Nat}{w c W:ah}{v:az}{l:bm}(d:tY r c v l W)(a:ap w c)(f:w.heap.size=r):ap w W:=a.trans (d.2.2.1.below a.size λb e g=>by have:=a.size;omega)
theorem tY.cells{r:Nat}{i W:ah}{v:az}{l:bm}(b:tY r i v l W)(d:l≠[]):∃g c,v=af (some ⟨g,0,none⟩) l.length c/\g<W.heap.size/\l.length<=c/\∀(j:Nat) x,l[j]?=some x->ai W g (0+j) (ag x):=by
 rcases b.1.2 with⟨_,a⟩|⟨g,c,k,a,_,f,e,_⟩
 ·exact absurd (b9 a) d
 ·subst a;refine⟨g,c,rfl,(aS.1 f).1,e,λj x h=>?_⟩;have:=World.ownsRow.cells b.1 (g:=g) rfl j (ag x) (by rw[di,h];rfl);rw[cC];rw[show (⟨g,0,none⟩:Addr).add j=⟨g,j,none⟩ by simp only[Addr.add,cC];split<;>simp_all]at this;exact this
theorem tY.more{a:ah}{l:bm}{g:Nat}(h:tY r f v l d)(e:ap d W)(m:l.length=n)(i:a.ownsRow r 9 1 (af (some ⟨g,0,none⟩) (n+1) c) (n+1) (l.map Value.string++ [ag s]))(j:W.grownBy a v.ownBlock)(k:v.ownBlock=some g\/g=W.heap.size):tY r f (af (some ⟨g,0,none⟩) (n+1) c) (l++ [s]) a:=by
 refine(h.later e).grown ?_ j λb e=>?_
 ·rw[br,m,fw];exact i
 ·obtain rfl:g=b:=by simpa [Value.ownBlock]using e
  exact k.imp id λo=>by omega
def Bq(a:List Int)(j:Nat):List aq:=gB::(a.take j).map λk=>⟨(Lib.itoa k).toArray⟩
theorem J9{k:Int}(a:m[j]?=some k):Bq m (j+1)=Bq m j++ [⟨(Lib.itoa k).toArray⟩]:=by
 unfold Bq;rw[dL,a];simp
theorem mu(a:j<=m.length):(Bq m j).length=j+1:=by
 unfold Bq;simp;omega
theorem F4(a:m.length=n):Lib.join ((Bq m n).map (·.data.toList)) [32]=qN m:=by
 unfold Bq qN;rw[bI (by omega)];simp[Function.comp_def]
theorem wh(b:List UInt8)(m:Nat):(l:List (List UInt8))->(∀x∈l,x.length+b.length<=m)->(Lib.join l b).length<=l.length*m
 | [],_=>by simp[Lib.join_nil]
 | x::l,a=>by
  rw[Lib.join_cons];have key:∀l:List (List UInt8),(∀x∈l,x.length+b.length<=m)->(Lib.joinTail b l).length<=l.length*m:=by
   intro l
   induction l with
   | nil=>simp[Lib.joinTail]
   | cons g l ih=>
    intro a;have e:=ih λd c=>a d (by simp[c]);have f:=a g (by simp);unfold Lib.joinTail at e ⊢;simp only[bB,List.flatten_cons,br,bv,Nat.add_mul];omega
  have e:=key l λd c=>a d (by simp[c]);have f:=a x (by simp);simp only[br,bv,Nat.add_mul];omega
theorem xW(c:∀k∈m,dp k)(j:Nat):∀x∈(Bq m j).map (·.data.toList),x.length+([32]:List UInt8).length<=30:=λx e=>by
 obtain⟨s,a,rfl⟩:=cg.1 e;unfold Bq at a;rcases cr.1 a with rfl|a
 ·decide
 ·obtain⟨k,d,rfl⟩:=cg.1 a;have b:=c k (List.mem_of_mem_take d);have:=Lib.itoa_length_le k b.1 b.2;simp;omega
theorem BQ(q N:Nat)(f:List Int)(n:Nat)(w:ah)(aQ:q<w.heap.size)(V:Hid (ai w q 0 (aF N)))(j:Hid (f.length=n))(a3:n<=100)(Q:Hid (∀k∈f,dp k))(aR:xA w.heap.size w)(O:Hid (∀W,ap w W->w.heap.size<W.heap.size->au 64 #[aF N] W λe w'=>∃a c,e=aw (af a n c)/\Hid (ap W w'/\∀i k,f[i]?=some k->∃g,a=some ⟨g,0,none⟩/\W.heap.size<=g/\g<w'.heap.size/\ai w' g i (ae k)))):au 40 #[aF q] w λe w'=>e=aw (ag ⟨(qN f).toArray⟩)/\ap w w':=by
 obtain⟨aS,hit,ar,ax,ay⟩:=bT lU;have A:=av (⟨hit,ar,ax,ay⟩:_/\_/\_/\_);clear hit ar ax ay;go_enter func40,ntmps40;go_upto_region 2 with fail;generalize M:World.alloc _ _=t;have m:Hid (ap w t/\w.heap.size<t.heap.size):=by
  rw[<-M];exact⟨aW _ _,by simp⟩
 have T:Hid (t.ownsRow w.heap.size 9 1 (af (some ⟨w.heap.size,0,none⟩) 1 1) 1 [ag gB]):=by
  rw[<-M];exact NL _ (aA _) rfl
 have aH:ai t q 0 (aF N):=(m.out.1.cell (p:=⟨q,0,none⟩) aQ).trans V;clear M;go_wp2_with fail;refine(O.out t m.out.1 m.out.2).mono ?_;rintro e E ⟨a,c,rfl,v⟩;have x:=av (m.out.1.trans (v.out.1.mono m.out.1.size));have P:=av v.out.2;have G:Hid (tY w.heap.size E (af (some ⟨w.heap.size,0,none⟩) 1 1) (Bq f 0) E):=⟨dV T v.out.1,λb aM=>ak (by simpa [Value.ownBlock]using aM.symm),bH.refl _ _,x.out.size⟩;have X:=av m.out.2;clear O v m T aH V;obtain⟨o,L⟩:∃o,w.heap.size=o:=⟨_,rfl⟩;have z:=av L;rw[L]at G X ⊢;clear L;go_wp2_with fail;go_loopw [3,5,13] (λaB _ i wr=>∃(d g C:Nat),d<=n/\i=ae d/\aB=af (some ⟨g,0,none⟩) (d+1) C/\Hid (tY o E aB (Bq f d) wr)) (λ_ _ i _=>n-(intOf i).toNat)
 case atStart=>exact⟨0,o,1,aN _,rfl,rfl,G.out⟩
 case round=>
 clear G;obtain⟨d,g,C,a2,rfl,rfl,h⟩:=hrel;by_cases aO:d<n
 ·obtain⟨k,D⟩:∃k,f[d]?=some k:=⟨_,aV (by rw[j.out];exact aO)⟩;obtain⟨aK,rfl,aL,aa,ab⟩:=P.out d k D;have a4:(0:Int)<=(d:Int):=by omega
  have a5:(d:Int)<(n:Int):=by omega
  have aI:ai wr aK d (ae k):=(h.out.2.2.1.cell d aa (by have:=X.out;omega)).trans ab;have J:=Q.out k (aU D);have R:=av (jU k J.1 J.2 w.heap.size wr (aR.on (h.out.below x z)));have aE:=av D;clear D J aL aa ab;go_wp2_with fail;refine R.mono ?_;rintro e u ⟨rfl,r⟩;have y:=av r;have U:Hid (u.ownsRow o 9 1 (af (some ⟨g,0,none⟩) (d+1) C) (d+1) ((Bq f d).map Value.string)):=by
   have:=(h.out.later r).1;rw[mu (by rw[j.out];omega)]at this;exact this
  have S:=av (J9 aE.out);obtain⟨B,ad⟩:∃B:aq,⟨(Lib.itoa k).toArray⟩=B:=⟨_,rfl⟩;rw[ad]at S ⊢;clear r R aI ad;go_wp2_with (at_builtin;refine wpList_append_lies _ rfl _ _ 23 rfl o 9 aS _ 1 16 underlying23 A.1 A.2.1 A.2.2.1 A.2.2.2 rfl (by decide) _ (d+1) _ rfl (U.out.alloc _) ⟨u.heap.size,0,none⟩ 1 1 [ag B] rfl rfl (l9 u B) (by intro a6 az;simp at az;subst az;rfl) (by decide) (by unfold maxLen;omega) (by omega) (by have I:=y.out.size;have a0:=(h.out.below x z).size;have a1:=z.out;simp;omega) (u.heap.size+1) (by simp) ?_;intro Z Y aT ao an aj aP);have aD:Hid (tY o E (af (some ⟨Z,0,none⟩) (d+1+1) Y) (Bq f (d+1)) aT):=by
   have:=h.out.more (y.out.trans (aW _ _ |>.mono y.out.size)) (mu (by rw[j.out];omega)) ao an (aj.imp id λaX=>by rw[fP];exact aX);rw[<-S.out]at this;exact this
  clear ao an aj aP U y h;go_wp2_with fail;go_roundw
  case rel=>exact⟨d+1,Z,Y,by omega,by go_num,rfl,aD.out⟩
  case measure=>simp[intOf];omega
 ·obtain rfl:d=n:=by omega
  have F:=av (h.out.below x z);obtain⟨aZ,aY,e,am,K,al⟩:=h.out.cells (by unfold Bq;simp);rw[mu (by rw[j.out];omega)]at e K;injection e with s _ aJ;injection s with s;injection s with s;subst s aJ
  have H:=av (Tryz.strings_Join g 0 C (Bq f d) ⟨#[32]⟩ wr al am (by rw[mu (by rw[j.out];omega)];omega) (by rw[mu (by rw[j.out];omega)];exact K) (by
   have I:=wh [32] 30 ((Bq f d).map (·.data.toList)) (xW Q.out d);rw[cF,mu (by rw[j.out];omega)]at I
   exact aG I (by omega)))
  rw[mu (by rw[j.out];omega)]at H;clear am K al P h;go_wp2_with fail;refine H.mono ?_;rintro e u ⟨rfl,r⟩;have aC:=av (F.out.trans (r.mono F.out.size));clear r H F;go_wp2_with fail
  go_ret
  exact⟨congrArg (λl=>Ending.returned (ag ⟨List.toArray l⟩)) (F4 j.out),aC⟩
def Bi(nm S:aq)(T:Nat->aq)(j:Nat):List aq:=nm::S::(List.range j).map T
theorem ot(nm S:aq)(T:Nat->aq)(j:Nat):(Bi nm S T j).length=j+2:=by simp[Bi]
theorem LZ(nm S:aq)(T:Nat->aq)(j:Nat):Bi nm S T (j+1)=Bi nm S T j++ [T j]:=by simp[Bi,List.range_succ]
theorem zh{nm S:aq}{T:Nat->aq}(g:nm.size<=8)(c:S.size<=60000000)(d:∀i,i<j->(T i).size<=60000000):(Lib.join ((Bi nm S T j).map (·.data.toList)) [32]).length<=(j+2)*60000001:=by
 have:=wh [32] 60000001 ((Bi nm S T j).map (·.data.toList)) λl f=>by
  obtain⟨b,a,rfl⟩:=cg.1 f;have h:=Lib.size_eq b;have k:b.size<=60000000:=by
   unfold Bi at a;rcases cr.1 a with rfl|a
   ·omega
   ·rcases cr.1 a with rfl|a
    ·exact c
    ·obtain⟨i,e,rfl⟩:=cg.1 a;exact d i (List.mem_range.1 e)
  simp only[bv,eW];omega
 rw[cF,ot]at this;exact this
theorem DB(w:ah)(a b:aq)(c:r<=w.heap.size):(w.alloc (.cells #[ag a,ag b] 9)).ownsRow r 9 1 (af (some ⟨w.heap.size,0,none⟩) 2 2) 2 [ag a,ag b]:=
 ⟨rfl,.inr ⟨w.heap.size,2, #[ag a,ag b],rfl,c,aL w _,aA _,by unfold maxLen;omega,rfl,rfl⟩⟩
theorem vR(q a1:Nat)(a E:Int)(nm S:aq)(d:Nat)(T:Nat->aq)(w:ah)(aA:Int->Int->aq->ay->Nat->Nat->bF)(az:ay->bF)(ao:Hid (ai w q 0 (aF a1)))(bw:d<=1000)(aI:nm.size<=8)(aJ:S.size<=60000000)(bf:Hid (∀i,i<d->(T i).size<=60000000))(an:Hid (au 61 #[aF a1,ae a] w λe w'=>∃y0 y1 y2 ya yl yc ma a0,e=aw (ax #[ag nm,aB y0 y1 y2 ya yl yc,af ma d a0,ae E])/\Hid (ap w w'/\(E=0->aA y0 y1 y2 ya yl yc w'/\az ma w'))))(N:Hid (∀y0 y1 y2 ya yl yc W h,aA y0 y1 y2 ya yl yc W->ap W h->au 62 #[aB y0 y1 y2 ya yl yc] h λe w'=>e=aw (ag S)/\ap h w'))(C:Hid (∀ma j W h,j<d->az ma W->ap W h->∃g o y0 y1 y2 ya yl yc,ma=some ⟨g,o,none⟩/\(ai h g (o+j*4) (ae y0)/\ai h g (o+j*4+1) (ae y1)/\ai h g (o+j*4+2) (ag y2)/\ai h g (o+j*4+3) (af ya yl yc))/\Hid (∀P,ap h P->au 62 #[aB y0 y1 y2 ya yl yc] P λe w'=>e=aw (ag (T j))/\ap P w'))):au 39 #[aF q,ae a] w λe w'=>e=aw (ax #[ag ⟨(if E=0 then Lib.join ((Bi nm S T d).map (·.data.toList)) [32]else []).toArray⟩,ae E])/\ap w w':=by
 obtain⟨bn,hit,aU,aV,aX⟩:=bT lU;have D:=av (⟨hit,aU,aV,aX⟩:_/\_/\_/\_);clear hit aU aV aX;obtain⟨aC,s⟩:∃aC:aq,⟨(if E=0 then Lib.join ((Bi nm S T d).map (·.data.toList)) [32]else []).toArray⟩=aC:=⟨_,rfl⟩;rw[s];have bg:=ao.out;go_enter func39,ntmps39;go_wp2_with fail;refine an.out.mono ?_;rintro e k ⟨y0,y1,y2,ya,yl,yc,ma,a0,rfl,J⟩;have u:=av J.out.1;have B:=av J.out.2;clear an J bg ao;go_upto_region 2 with fail;generalize Y:World.alloc _ _=m;have p:Hid (ap k m):=by
  rw[<-Y];exact aW _ _
 have c:m.heap[k.heap.size]?=some (.cells #[ae y0,ae y1,ag y2,af ya yl yc] 54):=by
  rw[<-Y];exact aL _ _
 clear Y;by_cases R:E=0;rotate_left
 ·have bu:(E !=0)=true:=by simpa using R
  rw[if_neg R]at s;subst s;have v:=av (u.out.trans (p.out.mono u.out.size));clear N C B c u p;go_wp2_with fail
  go_ret2
  exact⟨rfl,v⟩
 subst R;rw[if_pos rfl]at s;have ar:=av (N.out _ _ _ _ _ _ k m (B.out rfl).1 p);have bc:=av (B.out rfl).2;clear N B;obtain⟨f,t⟩:∃f,k.heap.size=f:=⟨_,rfl⟩;have M:=av t;rw[t]at c;have d0:ai m f 0 (ae y0):=aj c 0;have d1:ai m f 1 (ae y1):=aj c 1;have d2:ai m f 2 (ag y2):=aj c 2;have d3:ai m f 3 (af ya yl yc):=aj c 3;have bd:=av s;rw[t];clear c t s;go_wp2_with fail;refine ar.out.mono ?_;rintro e H ⟨rfl,aO⟩;have r:=av (p.out.trans (aO.mono p.out.size));clear aO ar p d0 d1 d2 d3;go_upto_region 5 with fail;generalize aZ:World.alloc _ _=a3;have ad:Hid (tY f k (af (some ⟨H.heap.size,0,none⟩) 2 2) (Bi nm S T 0) a3):=by
  have bk:=r.out.size;have t:=M.out;rw[<-aZ];refine⟨DB H nm S (by omega),λb U=>am ?_,⟨r.os,r.tape,r.output,?_,λb U _=>(fy H _ (by omega)).trans (r.out.block b U)⟩,cT t.symm⟩
  ·simp[Value.ownBlock]at U;omega
  ·simp;omega
 clear aZ r;generalize H.heap.size=bj at*;go_wp2_with fail;go_loopw [10,12,33] (λa2 _ i wr=>∃(j g G:Nat),j<=d/\i=ae j/\a2=af (some ⟨g,0,none⟩) (j+2) G/\Hid (tY f k a2 (Bi nm S T j) wr)) (λ_ _ i _=>d-(intOf i).toNat)
 case atStart=>exact⟨0,bj,2,aN _,rfl,rfl,ad.out⟩
 case round=>
 clear ad;obtain⟨j,g,G,bv,rfl,rfl,x⟩:=hrel;have O:Hid (ap k wr):=x.out.below (aH _ _) M;by_cases bl:j<d
 ·obtain⟨bt,bA,a4,a5,a6,a7,a9,a8,rfl,⟨bh,l,bi,Q⟩,aa⟩:=C.out _ j k wr bl bc O;have bx:(0:Int)<=(j:Int):=by omega
  have bz:(j:Int)<(d:Int):=by omega
  clear C;go_upto_region 8 with fail;generalize Z:World.alloc _ _=n;have z:Hid (ap wr n):=by
   rw[<-Z];exact aW _ _
  have c:n.heap[wr.heap.size]?=some (.cells #[ae a4,ae a5,ag a6,af a7 a9 a8] 54):=by
   rw[<-Z];exact aL _ _
  have ab:=av (aa.out n z);have K:=av (x.out.later z);have be:=av (aG O.out.size z.out.size);clear Z aa bh l bi Q x z;generalize wr.heap.size=y at*;have d0:ai n y 0 (ae a4):=aj c 0;have d1:ai n y 1 (ae a5):=aj c 1;have d2:ai n y 2 (ag a6):=aj c 2;have d3:ai n y 3 (af a7 a9 a8):=aj c 3;clear c;go_wp2_with fail;refine ab.out.mono ?_;rintro e I ⟨rfl,V⟩;have A:=av V;have al:Hid (I.ownsRow f 9 1 (af (some ⟨g,0,none⟩) (j+2) G) (j+2) ((Bi nm S T j).map Value.string)):=by
   have:=(K.out.later V).1;rw[ot]at this;exact this
  obtain⟨F,aK⟩:∃F,T j=F:=⟨_,rfl⟩;have ak:=av (LZ nm S T j);rw[aK]at ak ⊢;clear V ab d0 d1 d2 d3 aK;go_wp2_with (at_builtin;refine wpList_append_lies _ rfl _ _ 23 rfl f 9 bn _ 1 16 underlying23 D.1 D.2.1 D.2.2.1 D.2.2.2 rfl (by decide) _ (j+2) _ rfl (al.out.alloc _) ⟨I.heap.size,0,none⟩ 1 1 [ag F] rfl rfl (l9 I F) (by intro y aY;simp at aY;subst aY;rfl) (by decide) (by unfold maxLen;omega) (by omega) (by have aI:=A.out.size;have aJ:=be.out;have bk:=M.out;simp;omega) (I.heap.size+1) (by simp) ?_;intro aE aD bp aT aS aM bm);have bb:Hid (tY f k (af (some ⟨aE,0,none⟩) (j+2+1) aD) (Bi nm S T (j+1)) bp):=by
   have:=K.out.more (A.out.trans (aW _ _ |>.mono A.out.size)) (ot nm S T j) aT aS (aM.imp id λbq=>by rw[fP];exact bq);rw[<-ak.out]at this;exact this
  clear aT aS aM bm al A K;go_wp2_with fail;go_roundw
  case rel=>exact⟨j+1,aE,aD,by omega,by go_num,rfl,bb.out⟩
  case measure=>simp[intOf];omega
 ·obtain rfl:j=d:=by omega
  have v:=av (u.out.trans (O.out.mono u.out.size));obtain⟨bs,br,e,aR,X,aQ⟩:=x.out.cells (by unfold Bi;simp);rw[ot]at e X;injection e with l _ Q;injection l with l;injection l with l;subst l Q;have L:=av (Tryz.strings_Join g 0 G (Bi nm S T j) ⟨#[32]⟩ wr aQ aR (by rw[ot];omega) (by rw[ot];exact X) (aG (zh aI aJ bf.out) (by omega)));rw[ot]at L;clear aR X aQ C x;go_wp2_with fail;refine L.out.mono ?_;rintro e a3 ⟨rfl,aP⟩;have ba:=av (v.out.trans (aP.mono v.out.size));clear aP L v;go_wp2_with fail
  go_ret2
  exact⟨congrArg (λbo=>Ending.returned (ax #[ag bo,ae 0])) bd.out,ba⟩
theorem Aq(a:Nat)(b:ay)(L c:Nat)(w:ah)(d:ai w a 6 (af b L c)):au 57 #[aF a] w λe w'=>e=aw (ae L)/\w'=w:=by
 go_enter func57,ntmps57;go_wp2_with fail
 go_ret
 exact⟨rfl,rfl⟩
theorem xd(a t:aq)(n:Nat)(w:ah)(R:Nat->bF)(j:Hid (¬65536<a.size->au 21 #[ag a,ag ⟨#[10]⟩] w λe w'=>e=aw (ag t)/\w'=w))(i:Hid (au 20 #[ag t,ag ⟨#[10]⟩] w λe w'=>∃g,e=aw (af (some ⟨g,0,none⟩) n n)/\Hid (ap w w'/\R g w'))):au 9 #[ag a] w λe w'=>((65536<a.size\/200<n)/\e=aw (ax #[af none 0 0,ae 2])/\ap w w')\/(¬(65536<a.size\/200<n)/\∃g,e=aw (ax #[af (some ⟨g,0,none⟩) n n,ae 0])/\Hid (ap w w'/\R g w')):=by
 obtain⟨b,l⟩:∃b:Prop,(65536<a.size\/200<n)=b:=⟨_,rfl⟩;rw[l];have c:=av l;clear l;go_enter func9,ntmps9;by_cases f:65536<a.size
 ·have o:(65536:Int)<a.size:=by omega
  have d:Hid b:=by
   show b;rw[<-c.out];exact ak f
  clear j i c f;go_wp2_with fail
  go_ret2
  exact ak ⟨d.out,rfl,aH _ _⟩
 ·have o:¬(65536:Int)<a.size:=by omega
  have m:=av (j.out f);clear j;go_wp2_with fail;refine m.out.mono ?_;rintro e q ⟨rfl,rfl⟩;go_wp2_with fail;refine i.out.mono ?_;rintro e r ⟨g,rfl,h⟩;clear m i;by_cases k:200<n
  ·have p:(200:Int)<n:=by omega
   have d:Hid b:=by
    show b;rw[<-c.out];exact am k
   have HB:=av h.out.1;clear c f k h;go_wp2_with fail
   go_ret2
   exact ak ⟨d.out,rfl,HB⟩
  ·have p:¬(200:Int)<n:=by omega
   have d:Hid (¬b):=by
    show¬b;rw[<-c.out];omega
   clear c f k;go_wp2_with fail
   go_ret2
   exact am ⟨d.out,g,rfl,h⟩
theorem ym(X:aq)(n:Nat)(C:Prop)(d H:Nat->aq)(R o:aq)(w:ah)(S:Nat->bF)(a N O:Nat->Nat->Nat->bF)(F:bF)(am:n<=1000000000)(ak:o.size<=100)(D:Hid (au 9 #[ag X] w λe w'=>(C/\e=aw (ax #[af none 0 0,ae 2])/\ap w w')\/(¬C/\∃g,e=aw (ax #[af (some ⟨g,0,none⟩) n n,ae 0])/\Hid (ap w w'/\S g w'))))(f:Hid (C->∀W,ap w W->au 10 #[ae 2] W λe w'=>e=aw (ag o)/\Hid (o++ ⟨#[10]⟩=R/\F w')))(s:Hid (¬C->∀g W,ap w W->S g W->a g W.heap.size 0 ((W.alloc (.cells #[.pointer none] 34)).alloc (.cells #[.pointer none,af none 0 0] 38))))(k:Hid (∀g q j W,j<n->a g q j W->ai W g j (ag (d j))))(l:Hid (∀g q j W,j<n->a g q j W->mj (d j)=false->a g q (j+1) W))(i:Hid (∀g q j W,j<n->a g q j W->mj (d j)=true->au 13 #[aF q,ag (d j)] W λe w'=>e=aw (ag (H j))/\Hid (N g q j w')))(m:Hid (∀g q j W,j<n->N g q j W->au 12 #[.pointer (some ⟨q+1,0,none⟩),ag (H j)] W λe w'=>∃v,e=aw v/\Hid (O g q j w')))(HB:Hid (∀g q j W,j<n->O g q j W->au 14 #[.pointer (some ⟨q+1,0,none⟩),.int .u8 10] W λe w'=>∃v,e=aw v/\Hid (a g q (j+1) w')))(z:Hid (¬C->∀g q W,a g q n W->au 15 #[.pointer (some ⟨q+1,0,none⟩)] W λe w'=>e=aw (ag R)/\Hid (F w'))):au 5 #[ag X] w λe w'=>e=aw (ag R)/\Hid (F w'):=by
 go_enter func5,ntmps5;go_wp2_with fail;refine D.out.mono ?_;rintro e r (⟨p,rfl,U⟩|⟨p,g,rfl,t⟩)
 ·have K:=av (f.out p r U);have ar:¬9223372036854775807<o.size+1:=by omega
  clear D f s k l i m HB z U;go_wp2_with fail;refine K.out.mono ?_;rintro e Y ⟨rfl,u⟩;have b:=av u.out.1;have aa:=av u.out.2;clear u K;go_wp2_with fail
  go_ret
  exact⟨congrArg (λaj=>Ending.returned (ag aj)) b.out,aa⟩
 ·have L:=av (s.out p g r t.out.1 t.out.2);have A:=av (z.out p g);clear D f s z t;go_upto_region 6 with fail;generalize V:World.alloc _ _=Y;have M:Hid (a g r.heap.size 0 Y):=by
   rw[<-V];exact L.out
  clear V L;generalize r.heap.size=q at*;go_wp2_with fail;go_loopw [8,21] (λ_ G wr=>∃(j:Nat),j<=n/\G=ae j/\Hid (a g q j wr)) (λ_ G _=>n-(intOf G).toNat)
  case atStart=>exact⟨0,aN _,rfl,M.out⟩
  case round=>
  clear M;obtain⟨j,al,rfl,b⟩:=hrel;by_cases h:j<n
  ·have T:=k.out g q j wr h b;have an:(0:Int)<=(j:Int):=by omega
   have ao:(j:Int)<(n:Int):=by omega
   have B:=av (l.out g q j wr h b);have x:=av (i.out g q j wr h b);have E:=av (λW=>m.out g q j W h);have y:=av (λW=>HB.out g q j W h);have c:=av (Pj (d j) wr);clear k l i m HB A b;cases hon:mj (d j)
   ·have f:=av (B.out hon);rw[hon]at c;clear B x E y hon;go_wp2_with fail;refine c.out.mono ?_;rintro e Z ⟨rfl,rfl⟩;clear c T;go_wp2_with fail;go_roundw
    case rel=>exact⟨j+1,by omega,by go_num,f.out⟩
    case measure=>simp[intOf];omega
   ·have I:=av (x.out hon);rw[hon]at c;clear B x hon;go_wp2_with fail;refine c.out.mono ?_;rintro e Z ⟨rfl,rfl⟩;clear c T;go_wp2_with fail;refine I.out.mono ?_;rintro e aA ⟨rfl,P⟩;clear I;go_wp2_with fail;refine(E.out _ P).mono ?_;rintro e aB ⟨ay,rfl,Q⟩;clear E P;go_wp2_with fail;refine(y.out _ Q).mono ?_;rintro e aC ⟨az,rfl,ad⟩;clear y Q;go_wp2_with fail;go_roundw
    case rel=>exact⟨j+1,by omega,by go_num,ad.out⟩
    case measure=>simp[intOf];omega
  ·obtain rfl:j=n:=by omega
   have J:=av (A.out q wr b);clear k l i m HB A b;go_wp2_with fail;refine J.out.mono ?_;rintro e Z ⟨rfl,ab⟩;clear J;go_wp2_with fail
   go_ret
   exact⟨rfl,ab⟩
end Go.Proofs.YthjclakhibnamaaGreatDoor
