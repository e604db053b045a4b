/- Proved here: plain facts and contracts. No condition but what each names. -/
import Derived.Test.YtmmahddlcldmiaaGreatDoorT30
import Derived.ProofKit
import Derived.OpenShut
import Derived.JoinedCond
namespace Go.Proofs.YtmmahddlcldmiaaGreatDoor
open Go.RowKit Go.Proofs.Tryz
open Go.ChangeShapes Go.WideShapes Go.ChangeAt Go.RowKit
set_option maxRecDepth 100000
set_option maxHeartbeats 4000000
theorem Dm{a:Nd}(b:cg a=true):a.1.2.2.size<=8:=by
 have d:∀c:ByteArray,c.toList.isEmpty=true->c.size<=8:=λc b=>by
  rw[bE]at b;have e:c.data.toList.length=c.size:=by simp
  have f:c.data.toList=[]:=by simpa using b
  rw[f]at e;simp at e;omega
 simp only[cg,aA]at b;obtain⟨b,_⟩:=b;split at b
 ·exact d _ (by simp at b;simpa using b.1)
 ·split at b
  ·simp only[dF,oe,aA,bO]at b;omega
  ·split at b
   ·exact d _ (by simp at b;simpa using b.1)
   ·split at b
    ·exact d _ (by simp at b;simpa using b.1.1)
    ·split at b
     ·exact d _ (by simp at b;simpa using b.1)
     ·split at b
      ·exact d _ (by simp at b;simpa using b.1)
      ·exact absurd b (by simp)
theorem CO:(n:Nat)->(x:Tm n)->(∀a∈ax n x,a.1.2.2.size<=8)->wt n x<=9*(ax n x).length
 | 0,_,_=>by simp[wt,ax]
 | n+1,x,b=>by
  have key:∀l:List (Tm n),(∀y∈l,∀a∈ax n y,a.1.2.2.size<=8)->(l.map λy=>wt n y).sum<=9*(l.flatMap λy=>ax n y).length:=by
   intro l
   induction l with
   | nil=>simp
   | cons y l ih=>
    intro b;have d:=CO n y (b y (by simp));have c:=ih (λh g=>b h (by simp[g]));simp only[aM,bA,bz,bk];omega
  have d:=key x.2.2 (λy f a e=>b a (mw f e));have c:=b (x.1,(x.2.1.1,x.2.2.length,x.2.1.2)) (by simp[ax]);simp only[wt,ax,bf];simp only at c;omega
theorem mi{P:Sy->Prop}{a:Type}(f:Sy->a->Sy):(l:List a)->(∀s,∀x∈l,P s->P (f s x))->{s:Sy}->P s->P (l.foldl f s)
 | [],_,_,h=>h
 | x::l,hf,s,h=>mi f l (λs y b=>hf s y (bX _ b)) (hf s x (by simp) h)
theorem OC{s:Sy}{k:Int}{v:ByteArray×Tc×List Tc}(a:s.get k=some v):∃q∈s.ps,q.2=v:=by
 unfold Sy.get at a;obtain⟨q,b,rfl⟩:=ci.1 a;exact⟨q,List.mem_of_find?_eq_some b,rfl⟩
def pD(s:Sy):Prop:=∀q∈s.ps,q.2.1.size<=8
theorem pD.get{s:Sy}(b:pD s){k:Int}{nm:ByteArray}{r:Tc×List Tc}(c:s.get k=some (nm,r)):nm.size<=8:=by
 obtain⟨e,d,a⟩:=OC c;have:=b e d;rw[a]at this;exact this
theorem pD.add{s:Sy}(c:pD s)(a:Int){nm:ByteArray}(d:nm.size<=8)(cs:Tc):pD (s.add a nm cs):=λq e=>by
 rcases dp.1 e with b|b
 ·exact c q b
 ·rw[eF.1 b];exact d
theorem pD.drop{s:Sy}(a:pD s)(x how:Int):pD (s.drop x how):=λq b=>a q (List.mem_of_mem_eraseP b)
theorem pD.fin{s:Sy}(a:pD s)(x how:Int):pD (s.fin x how):=mi (λ(s:Sy)(y:Int)=>s.drop y 4) _ (λ_ y _ k=>k.drop y 4) (a.drop x how:)
theorem pD.put{s:Sy}(a:pD s)(k:Int){v:ByteArray×Tc×List Tc}(d:v.1.size<=8):pD (s.put k v):=λq b=>by
 obtain⟨r,c,rfl⟩:=cC.1 b;split
 ·exact d
 ·exact a r c
theorem pD.deliver{s:Sy}(c:pD s)(room a b:Int)(t:Tc):pD (s.deliver room a b t):=by
 unfold Sy.deliver;split
 ·exact c
 ·split
  ·exact c
  ·split
   ·exact c.fin _ _
   ·split
    ·exact c.put _ (c.get ‹_›)
    ·exact c
theorem xK{k:Nat}{x:Tm k}{room:Int}{nm:ByteArray}(a:fX k x room nm=0):nm.size<=8:=by
 unfold fX at a;split at a
 ·cases a
 ·rename_i b;simp only[dF,oe,Bool.not_eq_false,aA,bO]at b;omega
theorem pD.follow{s:Sy}(d:pD s)(a:Int)(b:Tk)(e:∀x∈b.spawns,x.2.1.size<=8):pD (s.follow a b):=by
 have c:=mi (P:=pD) (λ(s:Sy)(x:Int)=>s.link a x) b.links (λs x _ k=>by unfold Sy.link;split<;>exact k) (mi (P:=pD) (λ(s:Sy)(x:Int×Tc)=>s.send a x.1 x.2) b.sends (λs x _ k=>by unfold Sy.send;split<;>exact k) (mi (P:=pD) (λ(s:Sy)(x:Int×ByteArray×Tc)=>s.add a x.2.1 x.2.2) b.spawns (λ_ x f k=>k.add a (e x f) x.2.2) d));unfold Sy.follow;simp only;split
 ·exact c.fin a 1
 ·exact c
theorem pD.do{n:Nat}{prog:List (Bh (n+1))}{room:Int}{s:Sy}(c:pD s)(j a b:Int)(k:Nat)(x:Tm k):pD (s.do n prog room j a b k x).1:=by
 unfold Sy.do;split
 ·unfold Sy.run;split
  ·exact c
  ·rename_i g o m h;split
   ·split
    ·exact c
    ·rename_i d _;have e:pD ((s.put a (g,d.state,d.mail)).tell nZ a 0 d.message):=c.put a (v:=(g,d.state,d.mail)) (c.get h);simp only;split
     ·exact e.fin _ _
     ·split
      ·exact e.fin _ _
      ·rename_i f;simp only[Sy.made,aA,Bool.not_eq_false,bZ,cm]at f;exact e.follow a d λx i=>xK (f.2 x i).2
   ·exact c
 ·split
  ·unfold Sy.arrive;split
   ·exact c
   ·rename_i l _;simp only;split
    ·exact pD.deliver (s:={s with ways:=iE s.ways (a,b) l}) c _ _ _ _
    ·exact c
  ·split
   ·unfold Sy.inject;split
    ·exact c
    ·split
     ·exact c
     ·split
      ·exact c
      ·exact c.deliver _ _ _ _
   ·exact c
theorem pD.start{n:Nat}{prog:List (Bh (n+1))}{room:Int}{s:Sy}(a:pD s)(nm:ByteArray)(k:Nat)(x:Tm k):pD (s.start n prog room nm k x).1:=by
 unfold Sy.start;split
 ·exact a
 ·split
  ·exact a
  ·split
   ·exact a
   ·exact a.add 0 (xK (Decidable.not_not.1 ‹_›)) _
theorem bj.sound{p:kQ}{s:Sy}{d:fY}{w:World}(e:bj p s d w):∀a nm cs c,s.get a=some (nm,cs,c)->(bv 13 cs=0/\aK 13 cs=true)/\∀t∈c,bv 13 t=0/\aK 13 t=true:=λa nm cs c g=>by
 obtain⟨b,k⟩:∃b,cU d.l a=some b:=by
  have:=e.alive a;rw[g]at this;exact gA.1 this
 obtain⟨q,i,h,f,j,_⟩:=e.ps a b k;rw[g]at f;obtain⟨rfl,rfl,rfl⟩:nm=q/\cs=i/\c=h:=by simpa using f
 obtain⟨m,n,o,_⟩:=j.ok;exact⟨⟨m,n⟩,o⟩
def CR(w0:World)(V:Nat->Prop)(a:World)(s:Sy)(i c:Nat)(W:World):Prop:=∃(p:kQ)(d:fY),p.b=c/\bj p s d W/\(p.room=60/\ay (p.n+6) (bK p.n p.prog) 7 (bK 1 fG)=true)/\(d.k<=i*402/\d.es.length<=i*201/\d.wn<=i*201/\d.bn<=i*201)/\(aj w0 W/\w0.heap.size<=p.lo)/\(∀q,V q->q<a.heap.size/\d.ow q=0)/\br (λq=>¬V q) a W
theorem CR.later{w0:World}{V:Nat->Prop}{d:World}{s:Sy}{i e:Nat}{W c:World}(h:CR w0 V d s i e W)(b:aj W c):CR w0 V d s i e c:=by
 obtain⟨o,f,g,j,k,l,a,m,n⟩:=h;exact⟨o,f,g,j.later b,k,l,⟨a.1.trans (b.mono a.1.size),a.2⟩,m,n.trans (aJ b _) λ_ _ p=>p⟩
theorem CR.at{w0:World}{V:Nat->Prop}{c:World}{s:Sy}{i b:Nat}{W:World}(f:CR w0 V c s i b W):ur w0 s i b W:=by
 obtain⟨k,d,e,g,h,j,a,_⟩:=f;exact⟨k,d,e,g,h,j,a.1,a.2⟩
theorem ur.from{w0:World}{s:Sy}{i g:Nat}{a W:World}(l:ur w0 s i g a)(f:aj a W){V:Nat->Prop}(e:∀q,V q->a.heap.size<=q/\q<W.heap.size):CR w0 V W s i g W:=by
 obtain⟨p,b,k,c,m,n,d,o⟩:=l;refine⟨p,b,k,c.later f,m,n,⟨d.trans (f.mono d.size),o⟩,λq h=>⟨(e q h).2,?_⟩,br.refl _ _⟩;by_cases j:b.ow q=0
 ·exact j
 ·have:=(c.low q j).2;have:=(e q h).1;omega
theorem Ov{n:Nat}{P:List (Bh (n+1))}(f:ay (n+6) (bK n P) 7 (bK 1 fG)=true)(g:ki n P=0){s:Sy}(i:∀a nm cs d,s.get a=some (nm,cs,d)->(bv 13 cs=0/\aK 13 cs=true)/\∀t∈d,bv 13 t=0/\aK 13 t=true)(h:0<=s.last/\s.last<=90)(e:Int×Int×Int×Tc){m:Nat}{x:Tm m}(b:ay m x 13 e.2.2.2=true\/e.1≠3):s.do n P 60 e.1 e.2.1 e.2.2.1 m x=JH s e:=by
 rw[E8 f g JM i h];rcases b with b|b
 ·by_cases c:e.1=3
  ·unfold JH;rw[c];exact Kd b s 60 e.2.1 e.2.2.1
  ·unfold JH Sy.do;rw[if_neg c,if_neg c]
 ·unfold JH Sy.do;rw[if_neg b,if_neg b]
theorem rR{p:kQ}{s:Sy}{d f:fY}{a c B:Nat}{w w':World}(b:bj p s d w)(k:fS a c d f w w')(h:B<=p.lo):Below B w w':=by
 refine⟨k.1.os,k.1.tape,k.1.output,k.1.size,λe i=>k.1.block e ?_ λg=>?_⟩
 ·have:=b.lo.1;omega
 ·have:=(b.low e g).1;omega
theorem Np{w0:World}{V:Nat->Prop}{g:World}{s:Sy}{i l:Nat}{W:World}(y:CR w0 V g s i l W)(I:i<=100)(e:Int×Int×Int×Tc)(A:I2 (e.2.1,e.2.2.1)){m:Nat}(x:Tm (m+1))(E:In g.heap.size g (m+1) x/\cd V (m+1) x)(z:(ax (m+1) x).length<=2097152)(C:ay (m+1) x 13 e.2.2.2=true\/e.1≠3):am 10 #[aB l,.agg #[ab e.1,ab e.2.1,ab e.2.2.1,ab x.1.1,ab x.1.2.1,af x.1.2.2,ae x.2.1.1 x.2.2.length x.2.1.2]] W λr w'=>r=.returned (ab (JH s e).2)/\Hid (CR w0 V g (JH s e).1 (i+1) l w'):=by
 obtain⟨F,G,rfl,d,⟨o,p⟩,J,j,f,k⟩:=y;have q:=eP k (D:=V) (λb a n=>n a) E;have B:=Ov p d.pg.2.2.2.1 d.sound ⟨d.keys.2.2.2.1,d.keys.2.2.2.2.1⟩ e C;refine(d.do A x ⟨q.1,q.2.mono λc a=>?_⟩ z (by omega) (by omega) (by omega) (by omega)).mono ?_
 ·have:=(f c a).2;omega
 ·rintro r w' ⟨O,rfl,v⟩;obtain⟨t,w,u,h⟩:=v;rw[o,B]at t u;have H:=k.size;refine⟨by rw[t],F,w,rfl,u,⟨o,p⟩,?_,⟨j.1.trans (rR d h j.2),j.2⟩,λc a=>⟨(f c a).1,?_⟩,k.trans h.1 λc _ a n=>?_⟩
  ·obtain⟨_,_,K,L,M,N⟩:=h;omega
  ·rw[h.2.1 c (by have:=(f c a).1;omega)];exact(f c a).2
  ·exact a (f c n).2
theorem own:ownKnob Tryz.prog.godebug=none:=by kernel_rfl
theorem ub:laidOutB Tryz.prog=true:=by kernel_rfl
theorem ko:Tryz.prog.cellsOf 28=4:=by kernel_rfl
theorem uE:Tryz.prog.cellsOf 3=1:=by kernel_rfl
theorem lB:Tryz.prog.cellsOf 9=1:=by kernel_rfl
theorem C4:Tryz.prog.cellsOf 26=1:=by kernel_rfl
theorem zv{f:Type}{P:Nat->f->Prop}:(len:Nat)->(∀i,i<len->∃y,P i y)->∃l:List f,l.length=len/\∀i y,l[i]?=some y->P i y
 | 0,_=>⟨[],rfl,λi y b=>by simp at b⟩
 | len+1,b=>by
  obtain⟨l,j,k⟩:=zv len (λi d=>b i (by omega));obtain⟨e,m⟩:=b len (by omega);refine⟨l++ [e],by simp[j],λi y a=>?_⟩;by_cases d:i<l.length
  ·rw[dm d]at a;exact k i y a
  ·rw[eC (by omega)]at a;have c:i-l.length=0:=by
    by_cases c:i-l.length=0
    ·exact c
    ·rw[eD (by simp;omega)]at a;cases a
   rw[c]at a;have g:e=y:=by simpa using a
   have h:i=len:=by omega
   rw[h,<-g];exact m
theorem NY{H:Type}{n:Nat}:(p:List (Tm n))->(es:List (DataW H))->(∀(i:Nat)(y:Tm n)(e:DataW H),p[i]?=some y->es[i]?=some e->wt n y<=Rows.uptoBulk e)->p.length=es.length->(p.map λy=>wt n y).sum<=Rows.uptoBulkAll es
 | [],es,_,h=>by simp
 | y::p,[],_,h=>by simp at h
 | y::p,e::es,hp,h=>by
  have f:=hp 0 y e (by simp) (by simp);have g:=NY p es (λi d a c b=>hp (i+1) d a (by simpa using c) (by simpa using b)) (by simpa using h);simp only[aM,bA,Rows.uptoBulkAll];omega
theorem EP(b o i j:Nat):((⟨b,o,none⟩:Addr).add i).add j=⟨b,o+i+j,none⟩:=by
 unfold Addr.add;split<;>split<;>simp_all
theorem yk{w:World}{a:Addr}{v:Value}(c:w.cell? ((a.add 0).add 0)=some v):a=⟨a.block,a.off,none⟩:=by
 have d:(a.add 0).add 0=a:=rfl;rw[d]at c;unfold World.cell? at c;split at c
 ·split at c
  ·cases c
  ·rename_i e;cases a with
   | mk b o f=>cases f with
    | none=>rfl
    | some g=>simp at e
 ·cases c
theorem Ar{k:Int}(a:(Lit.int .i64 k).wf=true):dt k:=by
 have: -9223372036854775808<=k/\k<=9223372036854775807:=by simpa [Lit.wf,IntKind.min,IntKind.max,IntKind.signed,IntKind.bits]using a
 exact this
theorem Ns{H:Type}(enc:TypeId×Value->H)(w:World)(p:Nat->Bool):(n f:Nat)->f<=2*n+1->(cs:List Value)->(x:DataW H×List MemPlace)-> DataW.trod enc Tryz.prog w 0 p true f 28 cs=some x-> ∃t:Tm (n+1),cs=[ab t.1.1,ab t.1.2.1,af t.1.2.2,ae t.2.1.1 t.2.2.length t.2.1.2]/\In w.heap.size w (n+1) t/\wt (n+1) t<=Rows.uptoBulk x.1:=by
 intro n
 induction n with
 | zero=>
  intro f aq cs x l;obtain⟨h,m,rfl,rfl,I,K,q⟩:=je underlying28 l;have u:DataW.trod enc Tryz.prog w 0 p true m 3 ((cs.drop 0).take (Tryz.prog.cellsOf 3))=h[0]? :=q 0 _ rfl;obtain rfl:m=0:=by omega
  have aJ:h.length=4:=K;rw[aG (by omega)]at u;cases u
 | succ n ih=>
  intro f aq cs x l;obtain⟨h,m,rfl,rfl,I,K,q⟩:=je underlying28 l;have u:DataW.trod enc Tryz.prog w 0 p true m 3 ((cs.drop 0).take (Tryz.prog.cellsOf 3))=h[0]? :=q 0 _ rfl;have R:DataW.trod enc Tryz.prog w 0 p true m 3 ((cs.drop 1).take (Tryz.prog.cellsOf 3))=h[1]? :=q 1 _ rfl;have S:DataW.trod enc Tryz.prog w 0 p true m 9 ((cs.drop 2).take (Tryz.prog.cellsOf 9))=h[2]? :=q 2 _ rfl;have T:DataW.trod enc Tryz.prog w 0 p true m 26 ((cs.drop 3).take (Tryz.prog.cellsOf 26))=h[3]? :=q 3 _ rfl;rw[uE]at u R;rw[lB]at S;rw[C4]at T;rw[ko]at I;obtain⟨d,i,j,e,rfl⟩:∃d i j e,cs=[d,i,j,e]:=by
   match cs,I with
   | [d,i,j,e],_=>exact⟨d,i,j,e,rfl⟩
  obtain⟨y0,y1,y2,y,rfl⟩:∃y0 y1 y2 y,h=[y0,y1,y2,y]:=by
   match h,K with
   | [y0,y1,y2,y],_=>exact⟨y0,y1,y2,y,rfl⟩
  obtain⟨k,O,ay,Y⟩:=jd underlying3 (x:=y0) (by simpa using u);obtain⟨X,P,az,Z⟩:=jd underlying3 (x:=y1) (by simpa using R);obtain⟨r,Q,aA,aa⟩:=pi underlying9 (x:=y2) (by simpa using S);have aj:DataW.trod enc Tryz.prog w 0 p true m 26 [e]=some y:=by simpa using T
  simp at O P Q;subst O P Q ay az aA;rcases DataW.trod_slice underlying26 aj with⟨s,rfl⟩|⟨a,len,cap,D,aL,ax,rfl,s,rfl,_,aD,an,aC,E,_,_⟩
  ·simp at s;subst s;refine⟨((k,X,r),(none,0),[]),rfl,⟨⟨Ar Y,Ar Z,aa,ak _,aI _⟩,ah rfl⟩,?_⟩;have es:r.data.toList.length=r.size:=by rw[gn];rfl
   simp only[wt,Rows.uptoBulk,Rows.uptoBulkAll,aM,b8,gR];omega
  ·simp at s;subst s;simp only[ko]at E;have key:∀c,c<len->∃t:Tm (n+1),(∃b o,a=⟨b,o,none⟩/\b<w.heap.size/\dB w b (o+c*4) (n+1) t)/\In w.heap.size w (n+1) t/\∀g,(D.map (·.1))[c]?=some g->wt (n+1) t<=Rows.uptoBulk g:=by
    intro c au;have V:=E c au;have W:=E 0 (by omega);rw[aG (by omega)]at V W;obtain⟨ad,ao,aw⟩:=bB.1 V;obtain⟨ag,ap,aH⟩:=bB.1 W;obtain⟨_,aE,z⟩:=px ao;obtain⟨_,aF,am⟩:=px ap;obtain⟨t,rfl,G,F⟩:=ih ax (by omega) ad _ aw;have U:=yk (w:=w) (a:=a) (v:=ag[0]'(by omega)) (by have:=am 0 (by omega);rw[aG (by omega)]at this;simpa using this);have al:∀C,(a.add (c*4)).add C=⟨a.block,a.off+c*4+C,none⟩:=λC=>by
     have:=EP a.block a.off (c*4) C;rw[<-U]at this;exact this
    have d:=z 0 (by omega);have i:=z 1 (by omega);have j:=z 2 (by omega);have e:=z 3 (by omega);rw[al]at d i j e;simp at d i j e;refine⟨t,⟨a.block,a.off,U,gV w ⟨a.block,a.off+c*4,none⟩ d,d,i,j,e⟩,G,λg A=>?_⟩;rw[dn,aG (by omega)]at A;have:(D[c]).1=g:=by simpa using A
    rw[<-this];exact F
   obtain⟨M,B,J⟩:=zv len key;refine⟨((k,X,r),(some a,cap),M),by simp[B],⟨⟨Ar Y,Ar Z,aa,by simp only;omega,an⟩,?_⟩,?_⟩
   ·rcases Nat.eq_zero_or_pos len with l|l
    ·exact ah (bF (B.trans l))
    ·obtain⟨⟨b,o,rfl,F,_⟩,_,_⟩:=J 0 (M[0]'(by rw[B];exact l)) (aG (by rw[B];exact l));refine ai ⟨b,o,rfl,F,λc N L=>?_⟩;obtain⟨⟨aB,aK,g,_,ar⟩,G,_⟩:=J c N L;simp at g;obtain⟨rfl,rfl⟩:=g;exact⟨ar,G⟩
   ·have av:=NY M (D.map (·.1)) (λc N g L A=>(J c N L).2.2 g A) (by simp;omega);have es:r.data.toList.length=r.size:=by rw[gn];rfl
    simp only[wt,Rows.uptoBulk,Rows.uptoBulkAll,aM,b8]at av ⊢;omega
def NW(n:Nat)(a:Ac n):Nat:=wt n a.2.1.1+wt n a.2.1.2+a.2.2.1.size+1
def NX(n:Nat)(c:Cl n):Nat:=wt n c.1.1+wt n c.1.2.1+wt n c.1.2.2+(c.2.2.map (NW n)).sum+1
def LX(n:Nat)(b:Bh n):Nat:=b.1.size+(b.2.2.map (NX n)).sum+1
theorem AP:Tryz.prog.cellsOf 208=11:=by kernel_rfl
theorem sV:Tryz.prog.cellsOf 171=13:=by kernel_rfl
theorem AQ:Tryz.prog.cellsOf 110=2:=by kernel_rfl
theorem Gd:Tryz.prog.cellsOf 169=1:=by kernel_rfl
theorem yR:Tryz.prog.cellsOf 108=1:=by kernel_rfl
theorem Fx{a H:Type}(g:a->Nat):(p:List a)->(es:List (DataW H))->(∀(i:Nat)(y:a)(e:DataW H),p[i]?=some y->es[i]?=some e->g y<=Rows.uptoBulk e)->p.length=es.length->(p.map g).sum<=Rows.uptoBulkAll es
 | [],es,_,h=>by simp
 | y::p,[],_,h=>by simp at h
 | y::p,e::es,hp,h=>by
  have j:=hp 0 y e (by simp) (by simp);have k:=Fx g p es (λi f b d c=>hp (i+1) f b (by simpa using d) (by simpa using c)) (by simpa using h);simp only[aM,bA,Rows.uptoBulkAll];omega
theorem vQ{H q:Type}(enc:TypeId×Value->H)(w:World)(L:Nat->Bool)(k:Nat)(f:q->List Value)(r:q->Prop)(g:q->Nat)(T S:TypeId)(P:Tryz.prog.underlying S=some (.slice T))(ab:Tryz.prog.cellsOf T=k)(an:0<k)(K:∀y,(f y).length=k)(D:Nat)(O:∀(m:Nat)(cs:List Value)(x:DataW H×List MemPlace),m<=D->DataW.trod enc Tryz.prog w 0 L true m T cs=some x->∃y,cs=f y/\r y/\g y<=Rows.uptoBulk x.1)(m:Nat)(ar:m<=D)(v:Value)(x:DataW H×List MemPlace)(j:DataW.trod enc Tryz.prog w 0 L true m S [v]=some x):∃a l c,v=ae a l.length c/\l.length<=c/\c<=maxLen/\pY w.heap.size w k f r a l/\(l.map g).sum+1<=Rows.uptoBulk x.1:=by
 rcases DataW.trod_slice P j with⟨d,rfl⟩|⟨a,len,cap,s,ax,ag,rfl,d,rfl,_,aq,V,am,t,_,_⟩
 ·simp at d;subst d;exact⟨none,[],0,rfl,ak _,aI _,ah rfl,by simp[Rows.uptoBulk]⟩
 ·simp at d;subst d;simp only[ab]at t;have key:∀e,e<len->∃y:q,(∃b o,a=⟨b,o,none⟩/\b<w.heap.size/\∀(h:Nat)(i:Value),(f y)[h]?=some i->w.cell? ⟨b,o+e*k+h,none⟩=some i)/\r y/\∀d,(s.map (·.1))[e]?=some d->g y<=Rows.uptoBulk d:=by
   intro e Z;have G:=t e Z;have I:=t 0 (by omega);rw[aG (by omega)]at G I;obtain⟨M,W,ad⟩:=bB.1 G;obtain⟨N,X,av⟩:=bB.1 I;obtain⟨_,ao,R⟩:=px W;obtain⟨_,ap,U⟩:=px X;obtain⟨y,rfl,z,u⟩:=O ag M _ (by omega) ad;have E:=yk (w:=w) (a:=a) (v:=N[0]'(by omega)) (by have:=U 0 (by omega);rw[aG (by omega)]at this;simpa using this);have Q:∀h,(a.add (e*k)).add h=⟨a.block,a.off+e*k+h,none⟩:=λh=>by
    have:=EP a.block a.off (e*k) h;rw[<-E]at this;exact this
   have F:∀(h:Nat)(i:Value),(f y)[h]?=some i->w.cell? ⟨a.block,a.off+e*k+h,none⟩=some i:=λh i J=>by
    have aa:=(aO.1 J).1;have:=R h (by rw[K]at aa;omega);rw[Q,J]at this;exact this
   obtain⟨aj,af⟩:∃i,(f y)[0]?=some i:=⟨(f y)[0]'(by rw[K];omega),aG _⟩;refine⟨y,⟨a.block,a.off,E,gV w ⟨a.block,a.off+e*k+0,none⟩ (F 0 aj af),F⟩,z,λd n=>?_⟩;rw[dn,aG (by omega)]at n;have:(s[e]).1=d:=by simpa using n
   rw[<-this];exact u
  obtain⟨C,p,A⟩:=zv len key;refine⟨some a,C,cap,by rw[p],by omega,V,?_,?_⟩
  ·rcases Nat.eq_zero_or_pos len with j|j
   ·exact ah (bF (p.trans j))
   ·obtain⟨⟨b,o,rfl,u,_⟩,_,_⟩:=A 0 (C[0]'(by rw[p];exact j)) (aG (by rw[p];exact j));refine ai ⟨b,o,rfl,u,λe y B=>?_⟩;obtain⟨⟨al,aw,d,_,Y⟩,z,_⟩:=A e y B;simp at d;obtain⟨rfl,rfl⟩:=d;exact⟨Y,z⟩
  ·have au:=Fx g C (s.map (·.1)) (λe y d B n=>(A e y B).2.2 d n) (by simp;omega);simp only[Rows.uptoBulk];omega
theorem nB{H:Type}(enc:TypeId×Value->H)(w:World)(a:Nat->Bool)(n m:Nat)(f:m<=n)(cs:List Value)(x:DataW H×List MemPlace)(b:DataW.trod enc Tryz.prog w 0 a true m 28 cs=some x):∃t:Tm (n+1),cs=il (n+1) t/\In w.heap.size w (n+1) t/\wt (n+1) t<=Rows.uptoBulk x.1:=by
 obtain⟨t,c,d,e⟩:=Ns enc w a n m (by omega) cs x b;exact⟨t,c,d,e⟩
theorem Ol{H:Type}(enc:TypeId×Value->H)(w:World)(b:Nat->Bool)(n m:Nat)(Y:m<=n)(cs:List Value)(x:DataW H×List MemPlace)(M:DataW.trod enc Tryz.prog w 0 b true m 208 cs=some x):∃a:Ac (n+1),cs=fZ (n+1) a/\iA (n+1) w.heap.size w a/\NW (n+1) a<=Rows.uptoBulk x.1:=by
 obtain⟨c,m,rfl,rfl,G,N,o⟩:=je underlying208 M;have B:DataW.trod enc Tryz.prog w 0 b true m 3 ((cs.drop 0).take (Tryz.prog.cellsOf 3))=c[0]? :=o 0 _ rfl;have C:DataW.trod enc Tryz.prog w 0 b true m 28 ((cs.drop 1).take (Tryz.prog.cellsOf 28))=c[1]? :=o 1 _ rfl;have D:DataW.trod enc Tryz.prog w 0 b true m 28 ((cs.drop 5).take (Tryz.prog.cellsOf 28))=c[2]? :=o 2 _ rfl;have E:DataW.trod enc Tryz.prog w 0 b true m 9 ((cs.drop 9).take (Tryz.prog.cellsOf 9))=c[3]? :=o 3 _ rfl;have F:DataW.trod enc Tryz.prog w 0 b true m 3 ((cs.drop 10).take (Tryz.prog.cellsOf 3))=c[4]? :=o 4 _ rfl;rw[uE]at B F;rw[ko]at C D;rw[lB]at E;rw[AP]at G;obtain⟨r,d,e,f,g,h,i,j,l,u,s,rfl⟩:∃r d e f g h i j l u s,cs=[r,d,e,f,g,h,i,j,l,u,s]:=by
  match cs,G with
  | [r,d,e,f,g,h,i,j,l,u,s],_=>exact⟨r,d,e,f,g,h,i,j,l,u,s,rfl⟩
 obtain⟨y0,y1,y2,p,q,rfl⟩:∃y0 y1 y2 p q,c=[y0,y1,y2,p,q]:=by
  match c,N with
  | [y0,y1,y2,p,q],_=>exact⟨y0,y1,y2,p,q,rfl⟩
 obtain⟨k,y,T,Q⟩:=jd underlying3 (x:=y0) (by simpa using B);obtain⟨J,A,V,S⟩:=jd underlying3 (x:=q) (by simpa using F);obtain⟨v,z,U,R⟩:=pi underlying9 (x:=p) (by simpa using E);obtain⟨t,K,O,W⟩:=nB enc w b n m (by omega) [d,e,f,g] y1 (by simpa using C);obtain⟨I,L,P,X⟩:=nB enc w b n m (by omega) [h,i,j,l] y2 (by simpa using D);simp at y z A;subst y z A T U V;refine⟨(k,(t,I),(v,J)),?_,⟨Ar Q,O,P,R,Ar S⟩,?_⟩
 ·show _=ab k::(il (n+1) t++il (n+1) I++ [af v,ab J]);rw[<-K,<-L];rfl
 ·have es:v.data.toList.length=v.size:=by rw[gn];rfl
  simp only[NW,Rows.uptoBulk,Rows.uptoBulkAll,aM,b8];omega
theorem Gg{H:Type}(enc:TypeId×Value->H)(w:World)(b:Nat->Bool)(n m:Nat)(F:m<=n)(cs:List Value)(x:DataW H×List MemPlace)(z:DataW.trod enc Tryz.prog w 0 b true m 171 cs=some x):∃a:Cl (n+1),cs=eZ (n+1) a/\gY (n+1) w.heap.size w a/\NX (n+1) a<=Rows.uptoBulk x.1:=by
 obtain⟨d,m,rfl,rfl,E,Q,y⟩:=je underlying171 z;have A:DataW.trod enc Tryz.prog w 0 b true m 28 ((cs.drop 0).take (Tryz.prog.cellsOf 28))=d[0]? :=y 0 _ rfl;have B:DataW.trod enc Tryz.prog w 0 b true m 28 ((cs.drop 4).take (Tryz.prog.cellsOf 28))=d[1]? :=y 1 _ rfl;have C:DataW.trod enc Tryz.prog w 0 b true m 169 ((cs.drop 8).take (Tryz.prog.cellsOf 169))=d[2]? :=y 2 _ rfl;have D:DataW.trod enc Tryz.prog w 0 b true m 28 ((cs.drop 9).take (Tryz.prog.cellsOf 28))=d[3]? :=y 3 _ rfl;rw[ko]at A B D;rw[Gd]at C;rw[sV]at E;obtain⟨e,f,j,k,o,p,q,r,s,u,g,h,i,rfl⟩:∃e f j k o p q r s u g h i,cs=[e,f,j,k,o,p,q,r,s,u,g,h,i]:=by
  match cs,E with
  | [e,f,j,k,o,p,q,r,s,u,g,h,i],_=>exact⟨e,f,j,k,o,p,q,r,s,u,g,h,i,rfl⟩
 obtain⟨y0,y1,y2,v,rfl⟩:∃y0 y1 y2 v,d=[y0,y1,y2,v]:=by
  match d,Q with
  | [y0,y1,y2,v],_=>exact⟨y0,y1,y2,v,rfl⟩
 obtain⟨t,J,R,U⟩:=nB enc w b n m (by omega) [e,f,j,k] y0 (by simpa using A);obtain⟨G,K,S,V⟩:=nB enc w b n m (by omega) [o,p,q,r] y1 (by simpa using B);obtain⟨I,M,T,W⟩:=nB enc w b n m (by omega) [u,g,h,i] v (by simpa using D);obtain⟨a,l,c,L,O,N,P,X⟩:=vQ enc w b 11 (fZ (n+1)) (iA (n+1) w.heap.size w) (NW (n+1)) 208 169 underlying169 AP (by omega) (λ_=>rfl) n (λm cs x F z=>Ol enc w b n m F cs x z) m (by omega) s y2 (by simpa using C);subst L;refine⟨((t,G,I),(a,c),l),?_,⟨⟨R,S,T⟩,⟨O,N⟩,P⟩,?_⟩
 ·show _=il (n+1) t++il (n+1) G++(ae a l.length c::il (n+1) I);rw[<-J,<-K,<-M];rfl
 ·simp only[NX,Rows.uptoBulk,Rows.uptoBulkAll,aM,b8];omega
theorem Oo{H:Type}(enc:TypeId×Value->H)(w:World)(d:Nat->Bool)(n m:Nat)(q:m<=n)(cs:List Value)(x:DataW H×List MemPlace)(g:DataW.trod enc Tryz.prog w 0 d true m 110 cs=some x):∃a:Bh (n+1),cs=oI (n+1) a/\pC (n+1) w.heap.size w a/\LX (n+1) a<=Rows.uptoBulk x.1:=by
 obtain⟨f,m,rfl,rfl,p,v,o⟩:=je underlying110 g;have j:DataW.trod enc Tryz.prog w 0 d true m 9 ((cs.drop 0).take (Tryz.prog.cellsOf 9))=f[0]? :=o 0 _ rfl;have k:DataW.trod enc Tryz.prog w 0 d true m 108 ((cs.drop 1).take (Tryz.prog.cellsOf 108))=f[1]? :=o 1 _ rfl;rw[lB]at j;rw[yR]at k;rw[AQ]at p;obtain⟨e,b,rfl⟩:∃e b,cs=[e,b]:=by
  match cs,p with
  | [e,b],_=>exact⟨e,b,rfl⟩
 obtain⟨y0,y1,rfl⟩:∃y0 y1,f=[y0,y1]:=by
  match f,v with
  | [y0,y1],_=>exact⟨y0,y1,rfl⟩
 obtain⟨h,i,z,y⟩:=pi underlying9 (x:=y0) (by simpa using j);obtain⟨a,l,c,r,t,s,u,A⟩:=vQ enc w d 13 (eZ (n+1)) (gY (n+1) w.heap.size w) (NX (n+1)) 171 108 underlying108 sV (by omega) (λ_=>rfl) n (λm cs x q g=>Gg enc w d n m q cs x g) m (by omega) b y1 (by simpa using k);simp at i;subst i z r;refine⟨(h,(a,c),l),rfl,⟨y,⟨t,s⟩,u⟩,?_⟩;have es:h.data.toList.length=h.size:=by rw[gn];rfl
 simp only[LX,Rows.uptoBulk,Rows.uptoBulkAll,aM,b8];omega
theorem He{H:Type}{enc:TypeId×Value->H}{W:World}{r:Reach}{g:Nat}{v:Value}{d:DataW H}{p:List MemPlace}(u:Value.okWide Tryz.prog W r g 22 v)(b:DataW.Trod enc Tryz.prog W 0 (λ_=>true) true 22 v d p):∃n,∃l:List (Bh (n+1)),∃a c,v=ae a l.length c/\l.length<=c/\c<=maxLen/\fR (n+1) W.heap.size W a l/\(l.map (LX (n+1))).sum<=Rows.uptoBulk d:=by
 obtain⟨a,len,cap,rfl⟩:=okWide_slice underlying22 u;obtain⟨f,q⟩:=b;have s:DataW.trod enc Tryz.prog W 0 (λ_=>true) true f 22 [ae a len cap]=some (d,p):=q;obtain⟨e,l,c,i,j,k,m,o⟩:=vQ enc W (λ_=>true) 2 (oI (f+1)) (pC (f+1) W.heap.size W) (LX (f+1)) 110 22 underlying22 AQ (by omega) (λ_=>rfl) f (λw h x t b=>Oo enc W _ f w t h x b) f (ak _) _ _ s;exact⟨f,l,e,c,i,j,k,m,by simp only at o;omega⟩
abbrev Sk(n:Nat):Type:=ByteArray×Tm (n+1)
def PB(n:Nat)(c:Sk n):List Value:=af c.1::il (n+1) c.2
def NG(n:Nat)(c:Sk n):Nat:=wt (n+1) c.2+1
def Je(n:Nat)(B:Nat)(w:World)(c:Sk n):Prop:=c.1.size<=maxLen/\In B w (n+1) c.2
abbrev Hn(n:Nat):Type:=(Int×Int×Int)×Tm (n+1)
def PO(n:Nat)(c:Hn n):List Value:=ab c.1.1::ab c.1.2.1::ab c.1.2.2::il (n+1) c.2
def NF(n:Nat)(c:Hn n):Nat:=wt (n+1) c.2+1
def FR(n:Nat)(B:Nat)(w:World)(c:Hn n):Prop:=(dt c.1.1/\dt c.1.2.1/\dt c.1.2.2)/\In B w (n+1) c.2
theorem uF:Tryz.prog.cellsOf 76=5:=by kernel_rfl
theorem qU:Tryz.prog.cellsOf 41=7:=by kernel_rfl
theorem Lf{H:Type}(enc:TypeId×Value->H)(w:World)(g:Nat->Bool)(n m:Nat)(A:m<=n)(cs:List Value)(x:DataW H×List MemPlace)(r:DataW.trod enc Tryz.prog w 0 g true m 76 cs=some x):∃a:Sk n,cs=PB n a/\Je n w.heap.size w a/\NG n a<=Rows.uptoBulk x.1:=by
 obtain⟨h,m,rfl,rfl,o,s,l⟩:=je underlying76 r;have j:DataW.trod enc Tryz.prog w 0 g true m 9 ((cs.drop 0).take (Tryz.prog.cellsOf 9))=h[0]? :=l 0 _ rfl;have k:DataW.trod enc Tryz.prog w 0 g true m 28 ((cs.drop 1).take (Tryz.prog.cellsOf 28))=h[1]? :=l 1 _ rfl;rw[lB]at j;rw[ko]at k;rw[uF]at o;obtain⟨f,b,c,d,e,rfl⟩:∃f b c d e,cs=[f,b,c,d,e]:=by
  match cs,o with
  | [f,b,c,d,e],_=>exact⟨f,b,c,d,e,rfl⟩
 obtain⟨y0,y1,rfl⟩:∃y0 y1,h=[y0,y1]:=by
  match h,s with
  | [y0,y1],_=>exact⟨y0,y1,rfl⟩
 obtain⟨p,i,y,v⟩:=pi underlying9 (x:=y0) (by simpa using j);obtain⟨t,q,u,z⟩:=nB enc w g n m (by omega) [b,c,d,e] y1 (by simpa using k);simp at i;subst i y;refine⟨(p,t),?_,⟨v,u⟩,?_⟩
 ·show _=af p::il (n+1) t;rw[<-q]
 ·simp only[NG,Rows.uptoBulk,Rows.uptoBulkAll,aM,b8];omega
theorem Dp{H:Type}(enc:TypeId×Value->H)(w:World)(c:Nat->Bool)(n m:Nat)(N:m<=n)(cs:List Value)(x:DataW H×List MemPlace)(C:DataW.trod enc Tryz.prog w 0 c true m 41 cs=some x):∃a:Hn n,cs=PO n a/\FR n w.heap.size w a/\NF n a<=Rows.uptoBulk x.1:=by
 obtain⟨d,m,rfl,rfl,A,D,p⟩:=je underlying41 C;have u:DataW.trod enc Tryz.prog w 0 c true m 3 ((cs.drop 0).take (Tryz.prog.cellsOf 3))=d[0]? :=p 0 _ rfl;have v:DataW.trod enc Tryz.prog w 0 c true m 3 ((cs.drop 1).take (Tryz.prog.cellsOf 3))=d[1]? :=p 1 _ rfl;have y:DataW.trod enc Tryz.prog w 0 c true m 3 ((cs.drop 2).take (Tryz.prog.cellsOf 3))=d[2]? :=p 2 _ rfl;have z:DataW.trod enc Tryz.prog w 0 c true m 28 ((cs.drop 3).take (Tryz.prog.cellsOf 28))=d[3]? :=p 3 _ rfl;rw[uE]at u v y;rw[ko]at z;rw[qU]at A;obtain⟨j,l,o,e,f,g,h,rfl⟩:∃j l o e f g h,cs=[j,l,o,e,f,g,h]:=by
  match cs,A with
  | [j,l,o,e,f,g,h],_=>exact⟨j,l,o,e,f,g,h,rfl⟩
 obtain⟨y0,y1,y2,i,rfl⟩:∃y0 y1 y2 i,d=[y0,y1,y2,i]:=by
  match d,D with
  | [y0,y1,y2,i],_=>exact⟨y0,y1,y2,i,rfl⟩
 obtain⟨k,q,J,F⟩:=jd underlying3 (x:=y0) (by simpa using u);obtain⟨a,r,K,G⟩:=jd underlying3 (x:=y1) (by simpa using v);obtain⟨b,s,L,I⟩:=jd underlying3 (x:=y2) (by simpa using y);obtain⟨t,B,E,M⟩:=nB enc w c n m (by omega) [e,f,g,h] i (by simpa using z);simp at q r s;subst q r s J K L;refine⟨((k,a,b),t),?_,⟨⟨Ar F,Ar G,Ar I⟩,E⟩,?_⟩
 ·show _=ab k::ab a::ab b::il (n+1) t;rw[<-B]
 ·simp only[NF,Rows.uptoBulk,Rows.uptoBulkAll,aM,b8];omega
theorem BS{H:Type}{enc:TypeId×Value->H}{W:World}{r:Reach}{g:Nat}{v:Value}{d:DataW H}{p:List MemPlace}(u:Value.okWide Tryz.prog W r g 23 v)(b:DataW.Trod enc Tryz.prog W 0 (λ_=>true) true 23 v d p):∃n,∃l:List (Sk n),∃a c,v=ae a l.length c/\l.length<=c/\c<=maxLen/\pY W.heap.size W 5 (PB n) (Je n W.heap.size W) a l/\(l.map (NG n)).sum<=Rows.uptoBulk d:=by
 obtain⟨a,len,cap,rfl⟩:=okWide_slice underlying23 u;obtain⟨f,q⟩:=b;have s:DataW.trod enc Tryz.prog W 0 (λ_=>true) true f 23 [ae a len cap]=some (d,p):=q;obtain⟨e,l,c,i,j,k,m,o⟩:=vQ enc W (λ_=>true) 5 (PB f) (Je f W.heap.size W) (NG f) 76 23 underlying23 uF (by omega) (λ_=>rfl) f (λw h x t b=>Lf enc W _ f w t h x b) f (ak _) _ _ s;exact⟨f,l,e,c,i,j,k,m,by simp only at o;omega⟩
theorem zF{H:Type}{enc:TypeId×Value->H}{W:World}{r:Reach}{g:Nat}{v:Value}{d:DataW H}{p:List MemPlace}(u:Value.okWide Tryz.prog W r g 24 v)(b:DataW.Trod enc Tryz.prog W 0 (λ_=>true) true 24 v d p):∃n,∃l:List (Hn n),∃a c,v=ae a l.length c/\l.length<=c/\c<=maxLen/\pY W.heap.size W 7 (PO n) (FR n W.heap.size W) a l/\(l.map (NF n)).sum<=Rows.uptoBulk d:=by
 obtain⟨a,len,cap,rfl⟩:=okWide_slice underlying24 u;obtain⟨f,q⟩:=b;have s:DataW.trod enc Tryz.prog W 0 (λ_=>true) true f 24 [ae a len cap]=some (d,p):=q;obtain⟨e,l,c,i,j,k,m,o⟩:=vQ enc W (λ_=>true) 7 (PO f) (FR f W.heap.size W) (NF f) 41 24 underlying24 qU (by omega) (λ_=>rfl) f (λw h x t b=>Dp enc W _ f w t h x b) f (ak _) _ _ s;exact⟨f,l,e,c,i,j,k,m,by simp only at o;omega⟩
theorem BV{b:Type}(f:b->Nat)(l:List b)(y:b)(a:y∈l):f y<=(l.map f).sum:=by
 induction l with
 | nil=>cases a
 | cons c l ih=>
  simp only[aM,bA];rcases ch.1 a with rfl|a
  ·omega
  ·have:=ih a;omega
theorem vJ{b:Type}(f:b->Nat)(a:∀y,1<=f y):(l:List b)->l.length<=(l.map f).sum
 | []=>aI _
 | y::l=>by
  have:=vJ f a l;have:=a y;simp only[aM,bA,bf];omega
theorem DC{d:Type}{B k:Nat}{f:d->List Value}{e:d->Prop}{a:Option Addr}{l:List d}{w:World}(b:pY B w k f e a l){j:Nat}{y:d}(c:l[j]?=some y):∃g o,a=some ⟨g,o,none⟩/\g<B/\(∀(t:Nat)(h:Value),(f y)[t]?=some h->w.cell? ⟨g,o+j*k+t,none⟩=some h)/\e y:=by
 rcases b with b|⟨g,o,i,m,b⟩
 ·rw[b]at c;simp at c
 ·exact⟨g,o,i,m,(b j y c).1,(b j y c).2⟩
theorem J9{a:Type}(l:List a)(d:a):∃b:Nat->a,∀j,j<l.length->l[j]?=some (b j):=⟨λj=>l.getD j d,λj c=>by
 simp only[mO,aG c]
 rfl⟩
section
variable (n:Nat) (l:List (Bh (n+1))) (room:Int)
def tE{m:Nat}(a:List (Sk m)):Sy:=a.foldl (λs c=>(s.start n l room c.1 (m+1) c.2).1) Nl
def pZ(B:Nat)(i:Nat)(p:kQ)(s:Sy)(d:fY)(W:World):Prop:=bj p s d W/\(p.room=room/\ay (p.n+6) (bK p.n p.prog) (n+6) (bK n l)=true)/\pD s/\(d.k<=i*402/\d.es.length<=i*201/\d.wn<=i*201/\d.bn<=i*201)/\B<=p.lo
def kR(w0:World)(R:Nat->Prop)(H:Nat->Obj)(e f sa g:Nat)(s t:Sy)(W:World):Prop:=∃(pa d:kQ)(a c:fY),(pa.b=sa/\d.b=g)/\pZ n l room w0.heap.size e pa s a W/\pZ n l room w0.heap.size f d t c W/\(∀q,a.ow q≠0->c.ow q=0)/\(aj w0 W/\ki n l=0)/\∀q,R q->W.heap[q]?=some (H q)/\a.ow q=0/\c.ow q=0
end
theorem bj.nobody{p:kQ}{s:Sy}{d:fY}{w:World}(b:bj p s d w){q:Nat}(c:w.heap.size<=q):d.ow q=0:=by
 by_cases a:d.ow q=0
 ·exact a
 ·have:=(b.low q a).2;omega
section
variable {n:Nat} {l:List (Bh (n+1))} {room:Int} {w0 W:World} {R:Nat->Prop} {H:Nat->Obj} {ia ib sa sb:Nat} {s t:Sy}
theorem pZ.later{B i:Nat}{p:kQ}{d:fY}{a:World}(b:pZ n l room B i p s d W)(c:aj W a):pZ n l room B i p s d a:=⟨b.1.later c,b.2⟩
theorem pZ.do_eq{B i:Nat}{p:kQ}{d:fY}(c:pZ n l room B i p s d W)(e:ki n l=0)(kd a b:Int)(k:Nat)(x:Tm k):s.do p.n p.prog p.room kd a b k x=s.do n l room kd a b k x:=by
 rw[c.2.1.1];exact E8 c.2.1.2 c.1.pg.2.2.2.1 e c.1.sound ⟨c.1.keys.2.2.2.1,c.1.keys.2.2.2.2.1⟩ room kd a b k x
theorem kR.swap(i:kR n l room w0 R H ia ib sa sb s t W):kR n l room w0 R H ib ia sb sa t s W:=by
 obtain⟨pa,p,d,f,⟨g,h⟩,j,k,m,o,c⟩:=i;refine⟨p,pa,f,d,⟨h,g⟩,k,j,λa b=>?_,o,λa b=>⟨(c a b).1,(c a b).2.2,(c a b).2.1⟩⟩;by_cases e:d.ow a=0
 ·exact e
 ·exact absurd (m a e) b
theorem kR.later(j:kR n l room w0 R H ia ib sa sb s t W){f:World}(a:aj W f):kR n l room w0 R H ia ib sa sb s t f:=by
 obtain⟨pa,p,g,h,i,k,m,o,c,d⟩:=j;exact⟨pa,p,g,h,i,k.later a,m.later a,o,⟨c.1.trans (a.mono c.1.size),c.2⟩,λb e=>⟨(a.block b (aF.1 (d b e).1).1).trans (d b e).1,(d b e).2⟩⟩
theorem kR.below(a:kR n l room w0 R H ia ib sa sb s t W):aj w0 W:=by
 obtain⟨_,_,_,_,_,_,_,_,a,_⟩:=a;exact a.1
theorem kR.less(f:kR n l room w0 R H ia ib sa sb s t W){R':Nat->Prop}(j:∀q,R' q->R q){ja jb:Nat}(o:ia<=ja/\ib<=jb):kR n l room w0 R' H ja jb sa sb s t W:=by
 obtain⟨pa,k,c,d,e,a,b,g,h,i⟩:=f;exact⟨pa,k,c,d,e,⟨a.1,a.2.1,a.2.2.1,by have:=a.2.2.2.1;omega,a.2.2.2.2⟩,⟨b.1,b.2.1,b.2.2.1,by have:=b.2.2.2.1;omega,b.2.2.2.2⟩,g,h,λq m=>i q (j q m)⟩
theorem kR.box(i:kR n l room w0 (λ_=>False) H ia ib sa sb s t W){a:World}(c:aj W a){o:Obj}(k:a.heap[W.heap.size]?=some o):kR n l room w0 (λq=>q=W.heap.size) (λ_=>o) ia ib sa sb s t a:=by
 obtain⟨pa,m,f,g,h,d,e,j,b,_⟩:=i;refine⟨pa,m,f,g,h,d.later c,e.later c,j,⟨b.1.trans (c.mono b.1.size),b.2⟩,λq p=>?_⟩;subst p;exact⟨k,d.1.nobody (ak _),e.1.nobody (ak _)⟩
theorem Nu{pa k:kQ}{h e m:fY}{r:Sy}{g:World}{a c:Nat}(f:pZ n l room w0.heap.size ia pa s h W)(o:pZ n l room w0.heap.size ib k t e W)(u:∀q,h.ow q≠0->e.ow q=0)(v:aj w0 W/\ki n l=0)(A:∀q,R q->W.heap[q]?=some (H q)/\h.ow q=0/\e.ow q=0)(E:bj pa r m g)(p:fS a c h m W g){j:Nat}(M:ia*402+c<=j*402/\ia*201+a<=j*201)(C:pD r):kR n l room w0 R H j ib pa.b k.b r t g:=by
 have B:=rR f.1 p f.2.2.2.2;obtain⟨I,J,K,L⟩:=f.2.2.2.1;have z:bj k t e g:=o.1.kept p.1 λq d=>u q d;obtain⟨D,w,N,O,P,Q⟩:=p;refine⟨pa,k,m,e,⟨rfl,rfl⟩,⟨E,f.2.1,C,by omega,f.2.2.2.2⟩,⟨z,o.2⟩,λq d=>?_,⟨v.1.trans B,v.2⟩,λq d=>?_⟩
 ·by_cases i:q<W.heap.size
  ·rw[w q i]at d;exact u q d
  ·exact o.1.nobody (by omega)
 ·obtain⟨x,y,G⟩:=A q d;have i:=(aF.1 x).1;exact⟨(D.block q i λF=>F y).trans x,(w q i).trans y,G⟩
theorem kR.doA(k:kR n l room w0 R H ia ib sa sb s t W)(D:ia<=110){m:Nat}(c:Hn m)(g:FR m w0.heap.size w0 c)(r:(ax (m+1) c.2).length<=2097152):am 10 #[aB sa,.agg #[ab c.1.1,ab c.1.2.1,ab c.1.2.2,ab c.2.1.1,ab c.2.1.2.1,af c.2.1.2.2,ae c.2.2.1.1 c.2.2.2.length c.2.2.1.2]] W λe w'=>e=.returned (ab (s.do n l room c.1.1 c.1.2.1 c.1.2.2 (m+1) c.2).2)/\Hid (kR n l room w0 R H (ia+1) ib sa sb (s.do n l room c.1.1 c.1.2.1 c.1.2.2 (m+1) c.2).1 t w'):=by
 obtain⟨pa,G,B,C,⟨rfl,rfl⟩,d,o,p,f,q⟩:=k;have i:=g.2.below f.1;have E:=d.2.2.2.2;have F:=f.1.size;obtain⟨w,x,y,z⟩:=d.2.2.2.1;refine(d.1.do (kd:=c.1.1) (a:=c.1.2.1) (b:=c.1.2.2) ⟨g.1.2.1,g.1.2.2⟩ c.2 ⟨i.mono f.1.size,(In.offBelow i).mono λv J K=>?_⟩ r (by omega) (by omega) (by omega) (by omega)).mono ?_
 ·have:=(d.1.low v (by omega)).1;omega
 ·rintro e w' ⟨I,rfl,H⟩;obtain⟨h,A,j,u⟩:=H;rw[d.do_eq f.2]at h j;exact⟨by rw[h],Nu d o p f q j u (by omega) (d.2.2.1.do _ _ _ _ _)⟩
end
theorem oC(n:Nat)(l:List (Bh (n+1)))(F:Option Addr)(z:Nat)(room:Int)(A:Nat)(f:List (Sk A))(sa:Option Addr)(sc:Nat)(w W:World)(Y:fR (n+1) W.heap.size W F l)(Z:l.length<=z)(ad:z<=maxLen)(X:ky (n+1) l=true->(ax (n+6) (bK n l)).length<=2097152)(af:pY w.heap.size w 5 (PB A) (Je A w.heap.size w) sa f)(ag:∀c∈f,(ax (A+1) c.2).length<=2097152)(au:f.length<=1048576)(M:aj w W):am 9 #[ae F l.length z,ab room,ae sa f.length sc] W λe w'=>(e=.returned (.pointer none)/\Hid ((lJ n l room≠0\/4<f.length)/\aj W w'))\/∃j,e=.returned (aB j)/\Hid (¬(lJ n l room≠0\/4<f.length)/\aj W w'/\∃p d,p.b=j/\pZ n l room W.heap.size 4 p (tE n l room f) d w'):=by
 obtain⟨i,J⟩:=J9 f (⟨#[]⟩,((0,0,⟨#[]⟩),(none,0),[]));have aa:(maxLen:Nat)=9223372036854775807:=rfl;have ak:=M.size;have v:∀{W:World}{m o:Nat}{g:Value},aj w W->m<w.heap.size->w.cell? ⟨m,o,none⟩=some g->W.cell? ⟨m,o,none⟩=some g:=λ{W m o g} k r t=>(k.cell (p:=⟨m,o,none⟩) r).trans t;refine(CZ F l.length z room sa f.length sc (λa=>(i a).1) (λa=>(i a).2.1.2.2) (λa=>(i a).2.1.1) (λa=>(i a).2.1.2.1) (λa=>(i a).2.2.1.1) (λa=>(i a).2.2.2.length) (λa=>(i a).2.2.1.2) W (λg G h=>Oh n l room W g G h) (λj a h=>(f.length<=4/\lJ n l room=0)/\aj W h/\∃p d,p.b=j/\pZ n l room W.heap.size a p (tE n l room (f.take a)) d h) (λg h=>(g=.pointer none/\(lJ n l room≠0\/4<f.length)/\aj W h)\/∃j,g=aB j/\¬(lJ n l room≠0\/4<f.length)/\aj W h/\∃p d,p.b=j/\pZ n l room W.heap.size 4 p (tE n l room f) d h) (by omega) (Cm n l F z room W Y Z ad X) (λg G h s P=>?_) (λg h s B=>?_) (λj a h K I=>?_) λj h I=>?_).mono ?_
 ·exact ah ⟨rfl,by rw[s.1]at P;exact P,s.2.1⟩
 ·obtain⟨p,d,rfl,Q,⟨an,R,ao,av⟩,ap,aw,ay,aq⟩:=s.2.2.2 rfl;exact⟨p.b,rfl,⟨B,s.1.symm⟩,s.2.1,p,d,rfl,Q,⟨ap,aq⟩,λ_ t=>(by cases t),⟨by omega,by rw[R];exact aI _,by omega,by omega⟩,by omega⟩
 ·obtain⟨B,k,p,d,rfl,x,y,E,al,D⟩:=I;obtain⟨m,o,V,r,u,L⟩:=DC af (J a K);have q:=M.trans (k.mono ak);refine⟨m,o,⟨V,v q r (u 0 _ rfl),v q r (u 1 _ rfl),v q r (u 2 _ rfl),v q r (u 3 _ rfl),v q r (u 4 _ rfl)⟩,λar C=>?_⟩;have N:=q.trans (C.mono q.size);refine((x.later C).start (i a).1 (az L.1 (dz aa)) (i a).2 ((L.2.below N).mono N.size) (ag _ (aH (J a K))) (by omega) (by omega)).mono ?_;rintro e w' ⟨g,G,rfl,H⟩;obtain⟨_,U,S,T⟩:=H.out;have O:tE n l room (f.take (a+1))=((tE n l room (f.take a)).start p.n p.prog p.room (i a).1 (A+1) (i a).2).1:=by
   rw[y.1,qy y.2];unfold tE;rw[dq,J a K,Option.toList_some,jD];rfl
  rw[<-O]at S;refine⟨g,G,rfl,B,(k.trans (C.mono k.size)).trans (rR (x.later C) T D),p,U,rfl,S,y,?_,by obtain⟨_,_,Q,an,R,ao⟩:=T;omega,D⟩;rw[O];exact E.start _ _ _
 ·obtain⟨B,k,p,d,rfl,x,y,E,al,D⟩:=I;rw[List.take_length]at x E;exact ai ⟨_,rfl,by omega,k,p,d,rfl,x,y,E,by omega,D⟩
 ·rintro e w' ⟨g,rfl,H⟩;rcases H with⟨rfl,k⟩|⟨j,rfl,t⟩
  ·exact ah ⟨rfl,k⟩
  ·exact ai ⟨j,rfl,t⟩
theorem Lv{n:Nat}{l:List (Bh (n+1))}{room:Int}{w0 W d:World}{i:Nat}{pa f:kQ}{s t:Sy}{h e:fY}(H:Nat->Obj)(q:ki n l=0)(j:pZ n l room w0.heap.size i pa s h W)(a:pZ n l room W.heap.size i f t e d)(k:aj w0 W)(o:aj W d):kR n l room w0 (λ_=>False) H i i pa.b f.b s t d:=by
 have m:=k.size;refine⟨pa,f,h,e,⟨rfl,rfl⟩,j.later o,⟨a.1,a.2.1,a.2.2.1,a.2.2.2.1,az m a.2.2.2.2⟩,λc g=>?_,⟨k.trans (o.mono m),q⟩,λc g=>g.elim⟩;by_cases p:e.ow c=0
 ·exact p
 ·have r:=(a.1.low c p).1;have u:=(j.1.low c g).2;have v:=a.2.2.2.2;omega
theorem IT{n:Nat}{x:Tm n}{s:ByteArray}(c:bv n x=0)(b:s.data.toList=cN n x)(g:s.size<=2048):ng s n x:=by
 have f:bI n x=true:=by
  rw[jp];exact bZ.2 (l6 n x c)
 have a:=Af s n x f 0 [] (by simpa using b) (ah rfl);have e:ex s (0+(cN n x).length)=[]:=by
  apply mH;have h:=lm s (0+(cN n x).length);have d:s.data.toList.length=s.size:=by simp
  rw[b]at d;omega
 rw[e]at a;exact⟨g,Kf s.size n x _ _ a 0,a⟩
def rZ(n:Nat)(l:List (Bh (n+1)))(w:World)(a:Option Addr)(L c:Nat)(W:World):Prop:=ki n l=0/\aj w W/\∃(M:Nat)(q:List (Bh (M+1))),q.length=L/\(L<=c/\c<=maxLen)/\fR (M+1) W.heap.size W a q/\ki M q=0/\ay (M+6) (bK M q) (n+6) (bK n l)=true
theorem rZ.later{n:Nat}{l:List (Bh (n+1))}{w:World}{a:Option Addr}{L c:Nat}{W e:World}(g:rZ n l w a L c W)(d:aj W e):rZ n l w a L c e:=by
 obtain⟨h,f,b,o,i,j,k,m⟩:=g;have L:=cq (dP (b+1)) 2 (oI (b+1)) a;exact⟨h,f.trans (d.mono f.size),b,o,i,j,L.2.2.2.1 _ _ _ _ d.size (fR.below d k),m⟩
theorem F0{n m:Nat}{P:List (Bh (n+1))}{Q:List (Bh (m+1))}(b:ay (n+6) (bK n P) (m+6) (bK m Q)=true)(room:Int){k:Nat}(a:List (Sk k)):tE n P room a=tE m Q room a:=by
 unfold tE;congr 1;funext s c;rw[qy b]
theorem Ex{n:Nat}{y:Tm n}{w:World}(g:In w.heap.size w n y)(a:bv n y=0)(f:I6 w.heap.size w):am 6 #[df n y] w λe w'=>∃T,e=.returned (.tuple #[af T,ab 0])/\Hid (T.data.toList=cN n y/\aj w w'):=by
 refine(Hu n y w.heap.size w g (ak _) f (eg a) ?_).mono ?_
 ·have h:=CO n y λb c=>Dm (l6 n y a b c);have i:=l7 a;omega
 ·rintro e w' ⟨rfl,d⟩;rw[a,if_pos rfl];exact⟨_,rfl,rfl,d⟩
theorem O2{n:Nat}{l:List (Bh (n+1))}{room:Int}{w0 W:World}{R:Nat->Prop}{H:Nat->Obj}{i pa r:Nat}{s:Sy}(J:i<=110)(c:kR n l room w0 R H i i pa r s s W):P7 pa r w0 W:=by
 obtain⟨K,t,b,w,⟨rfl,rfl⟩,d,e,_,⟨m,_⟩,_⟩:=c;have G:=d.2.2.2.1.2.1;have I:=e.2.2.2.1.2.1;refine(d.1.events (by omega)).mono ?_;rintro a D ⟨g,j,rfl,u⟩;obtain⟨f,_,x,f1,f2,f3⟩:=u.out;have o:∀{a:fY}{t:kQ}{W:World},bj t s a W->s.evs.length=a.es.length:=λc=>by rw[<-c.evt.1,eE]
 have z:w.es.length=b.es.length:=(o e.1).symm.trans (o d.1);refine⟨g,j,b.es.length,rfl,?_⟩;refine((e.1.later f).events (by omega)).mono ?_;rintro a E ⟨h,k,rfl,v⟩;obtain⟨q,_,y,L,B,C⟩:=v.out;rw[z];refine⟨h,k,rfl,?_⟩;refine(Eb W.heap.size D.heap.size g h j k b.es.length x y E (f3.kee (aJ q λ_=>False) λ_ _ _ F=>F) C ⟨by omega,by omega⟩ (by omega) (by rw[bu (by rw[eE];omega),f2,B])).mono ?_;rintro a M ⟨rfl,A⟩;have p:=m.trans ((f.trans (q.mono f.size)).mono m.size);exact⟨rfl,p.trans (A.mono p.size)⟩
def PQ(n:Nat)(l:List (Bh (n+1)))(room:Int){m:Nat}(xs:List (Hn m))(s:Sy)(j:Nat):Sy:=(xs.take j).foldl (λs c=>(s.do n l room c.1.1 c.1.2.1 c.1.2.2 (m+1) c.2).1) s
theorem Ld(n:Nat)(l:List (Bh (n+1)))(room:Int){m:Nat}{xs:List (Hn m)}(s:Sy){j:Nat}{c:Hn m}(a:xs[j]?=some c):PQ n l room xs s (j+1)=((PQ n l room xs s j).do n l room c.1.1 c.1.2.1 c.1.2.2 (m+1) c.2).1:=by
 unfold PQ;rw[dq,a,Option.toList_some,jD];rfl
def Qe{m:Nat}(c:Hn m):Obj:=.cells #[ab c.1.1,ab c.1.2.1,ab c.1.2.2,ab c.2.1.1,ab c.2.1.2.1,af c.2.1.2.2,ae c.2.2.1.1 c.2.2.2.length c.2.2.1.2] 41
theorem E5:(l:List (Int×Int×Int×Tc))->∀{s:Sy},C9 s l=true->∀{j:Nat}{e:Int×Int×Int×Tc},l[j]?=some e->(JH (ze s (l.take j)) e).2=0
 | [],_,_,_,_,h=>by simp at h
 | a::l,s,h,0,e,he=>by
  obtain rfl:a=e:=by simpa using he
  simp only[C9,aA,cm]at h;exact h.1
 | a::l,s,h,j+1,e,he=>by
  simp only[C9,aA]at h;exact E5 l h.2 (by simpa using he)
theorem JI(s:Sy){l:List (Int×Int×Int×Tc)}{j:Nat}{e:Int×Int×Int×Tc}(a:l[j]?=some e):ze s (l.take (j+1))=(JH (ze s (l.take j)) e).1:=by
 rw[dq,a];simp[ze]
theorem Cv{w0:World}{V:Nat->Prop}{a:World}{s:Sy}{i h:Nat}{W:World}(v:CR w0 V a s i h W)(l:List (Int×Int×Int×Tc))(C:C9 s l=true)(N:i+l.length<=100)(g c:Nat)(t:V g)(k:Nat->Nat)(x:(j:Nat)->Tm (k j+1))(E:∀j e,l[j]?=some e->(In a.heap.size a (k j+1) (x j)/\cd V (k j+1) (x j))/\(ax (k j+1) (x j)).length<=2097152/\(ay (k j+1) (x j) 13 e.2.2.2=true\/e.1≠3)/\I2 (e.2.1,e.2.2.1))(B:∀j e,l[j]?=some e->a.cell? ⟨g,j*7,none⟩=some (ab e.1)/\a.cell? ⟨g,j*7+1,none⟩=some (ab e.2.1)/\a.cell? ⟨g,j*7+2,none⟩=some (ab e.2.2.1)/\a.cell? ⟨g,j*7+3,none⟩=some (ab (x j).1.1)/\a.cell? ⟨g,j*7+4,none⟩=some (ab (x j).1.2.1)/\a.cell? ⟨g,j*7+5,none⟩=some (af (x j).1.2.2)/\a.cell? ⟨g,j*7+6,none⟩=some (.slice (x j).2.1.1 (x j).2.2.length (x j).2.1.2)):am 16 #[aB h,ae (some ⟨g,0,none⟩) l.length c] W λe w'=>e=.returned (.bool true)/\Hid (CR w0 V a (ze s l) (i+l.length) h w'):=by
 obtain⟨f,z⟩:∃f:Nat->Int×Int×Int×Tc,∀j,j<l.length->l[j]?=some (f j):=⟨λj=>l.getD j (0,0,0,tz),λj p=>by
  simp only[mO,aG p]
  rfl⟩
 have D:ze s (l.take l.length)=ze s l:=by rw[List.take_length]
 have:=IE h g l.length c (λj=>(f j).1) (λj=>(f j).2.1) (λj=>(f j).2.2.1) (λj=>(x j).1.1) (λj=>(x j).1.2.1) (λj=>(x j).1.2.2) (λj=>(x j).2.1.1) (λj=>(x j).2.2.length) (λj=>(x j).2.1.2) W (λj n=>CR w0 V a (ze s (l.take j)) (i+j) h n) (by omega) v (λj n p r=>?_)
 ·rw[<-D];exact this
 ·have m:=z j p;obtain⟨G,H,I,J⟩:=E j _ m;have b:=B j _ m;have d:∀{o:Nat}{q:Value},a.cell? ⟨g,o,none⟩=some q->n.cell? ⟨g,o,none⟩=some q:=λ{o q} F=>by
   obtain⟨O,M,_,_,_,_,_,w,y⟩:=r;rw[y.cell o (w g t).1 λK=>K t];exact F
  refine⟨⟨d b.1,d b.2.1,d b.2.2.1,d b.2.2.2.1,d b.2.2.2.2.1,d b.2.2.2.2.2.1,d b.2.2.2.2.2.2⟩,λL A=>?_⟩;refine(Np (r.later A) (by omega) (f j) J (x j) G H I).mono ?_;rintro e w' ⟨rfl,u⟩;rw[E5 l C m];refine⟨rfl,?_⟩;rw[JI s m];exact u
theorem PE(a:Nat)(W:World):(binOp .eql 38 (aB a) (.pointer none)).run Tryz.prog W=.ok (.bool false) W:=by kernel_rfl
def I5(r:Nat)(W:World):Prop:=W.heap[r]?=some (.cells #[ab 1,ab 1,ab 0,ab 0,ab 0,af ⟨#[]⟩,ae none 0 0] 41)
theorem o7{r:Nat}{w W:World}(b:I5 r w)(c:aj w W):W.cell? ⟨r,0,none⟩=some (Value.int .i64 1)/\W.cell? ⟨r,1,none⟩=some (Value.int .i64 1)/\W.cell? ⟨r,2,none⟩=some (Value.int .i64 0)/\W.cell? ⟨r,3,none⟩=some (Value.int .i64 0)/\W.cell? ⟨r,4,none⟩=some (Value.int .i64 0)/\W.cell? ⟨r,5,none⟩=some (Value.string ⟨#[]⟩)/\W.cell? ⟨r,6,none⟩=some (Value.slice none 0 0):=by
 have a:W.heap[r]?=some (.cells #[ab 1,ab 1,ab 0,ab 0,ab 0,af ⟨#[]⟩,ae none 0 0] 41):=(c.block r (aF.1 b).1).trans b;exact⟨ag a 0,ag a 1,ag a 2,ag a 3,ag a 4,ag a 5,ag a 6⟩
theorem Ib(w:World)(M:Option Addr->Nat->Nat->World->Prop)(aJ aK:Nat->World->Prop)(L:Nat->Nat->World->Prop)(aL:Nat->World->Prop)(aM:Option Addr->Nat->World->Prop)(aN aO aP:Nat->Int->Int->ByteArray->Option Addr->Nat->Nat->World->Prop)(ar:Hid (am 14 #[] w λe w'=>∃a l c,e=.returned (ae a l c)/\Hid (M a l c w')))(au:Hid (∀a l c W,M a l c W->am 13 #[ae a l c,ab 60] W λe w'=>∃b,e=.returned (.tuple #[aB b,ab 0])/\Hid (aJ b w')))(A:Hid (∀b W,aJ b W->am 15 #[aB b,af ⟨#[99,111,117,110,116]⟩,.agg #[ab 1,ab 2,af ⟨#[]⟩,ae none 0 0]] W λe w'=>e=.returned (.tuple #[ab 1,ab 0])/\Hid (aK b w')))(aD:Hid (∀W,am 17 #[ab 1,af ⟨#[40,117,112,32,51,41]⟩] W λe w'=>∃y0 y1 y2 ya yl yc,e=.returned (.agg #[ab 3,ab 1,ab 0,ab y0,ab y1,af y2,ae ya yl yc])/\Hid (aN W.heap.size y0 y1 y2 ya yl yc w'/\aj W w')))(aG:Hid (∀W,am 17 #[ab 1,af ⟨#[102,111,114,107]⟩] W λe w'=>∃y0 y1 y2 ya yl yc,e=.returned (.agg #[ab 3,ab 1,ab 0,ab y0,ab y1,af y2,ae ya yl yc])/\Hid (aO W.heap.size y0 y1 y2 ya yl yc w'/\aj W w')))(aH:Hid (∀W,am 17 #[ab 1,af ⟨#[98,97,100]⟩] W λe w'=>∃y0 y1 y2 ya yl yc,e=.returned (.agg #[ab 3,ab 1,ab 0,ab y0,ab y1,af y2,ae ya yl yc])/\Hid (aP W.heap.size y0 y1 y2 ya yl yc w'/\aj W w')))(ay:Hid (∀b r g ah B2 p h s R y0 y1 y2 ya yl yc V X Y Z ad aa,aK b p->(aj p h/\p.heap.size=r/\I5 r h)->(r<ah/\r<B2)->aN ah y0 y1 y2 ya yl yc h->aj h s->aO B2 V X Y Z ad aa s->aj s R->(s.heap.size<=g/\R.heap[g]?=some (.cells #[ab 3,ab 1,ab 0,ab y0,ab y1,af y2,ae ya yl yc,ab 1,ab 1,ab 0,ab 0,ab 0,af ⟨#[]⟩,ae none 0 0,ab 3,ab 1,ab 0,ab V,ab X,af Y,ae Z ad aa,ab 1,ab 1,ab 0,ab 0,ab 0,af ⟨#[]⟩,ae none 0 0,ab 2,ab 1,ab 2,ab 0,ab 0,af ⟨#[]⟩,ae none 0 0,ab 1,ab 2,ab 0,ab 0,ab 0,af ⟨#[]⟩,ae none 0 0] 41))->am 16 #[aB b,ae (some ⟨g,0,none⟩) 6 6] R λe w'=>e=.returned (.bool true)/\Hid (L b r w'/\I5 r w')))(aw:Hid (∀b r W,L b r W->am 18 #[aB b,ab 2] W λe w'=>∃nm U sa sl sc ma aW aV,e=.returned (.tuple #[af nm,.agg #[ab 1,ab 7,af U,ae sa sl sc],ae ma aW aV,ab 0])/\aj W w'))(O:Hid (∀b r W o,L b r W->aj W o->am 20 #[aB b] o λe w'=>∃a c,e=.returned (ae a 2 c)/\Hid (aM a c w'/\aj o w')))(Q:Hid (∀a c g W o,aM a c W->aj W o->o.heap[g]?=some (.cells #[ab 1,ab 2] 3)->am 19 #[ae a 2 c,ae (some ⟨g,0,none⟩) 2 2] o λe w'=>e=.returned (.bool true)/\aj o w'))(aA:Hid (∀b r q g B p h s y0 y1 y2 ya yl yc,L b r p->(aj p h/\p.heap.size<=q/\h.cell? ⟨q,1,none⟩=some (ab 7))->p.heap.size<=B->aP B y0 y1 y2 ya yl yc h->I5 r h->aj h s->(h.heap.size<=g/\s.heap[g]?=some (.cells #[ab 3,ab 1,ab 0,ab y0,ab y1,af y2,ae ya yl yc,ab 1,ab 1,ab 0,ab 0,ab 0,af ⟨#[]⟩,ae none 0 0] 41))->am 16 #[aB b,ae (some ⟨g,0,none⟩) 2 2] s λe w'=>e=.returned (.bool true)/\Hid (aL b w'/\I5 r w'/\w'.cell? ⟨q,1,none⟩=some (ab 7))))(aI:Hid (∀b W,aL b W->am 20 #[aB b] W λe w'=>∃a c,e=.returned (ae a 0 c)/\aj w w')):am 4 #[] w λe w'=>e=.returned (.bool true)/\aj w w':=by
 go_enter func4,ntmps4;go_wp2_with fail;refine ar.mono ?_;rintro e bc ⟨a,l,c,rfl,ai⟩;have av:=aq (au _ _ _ _ ai);clear ar au ai;go_wp2_with fail;refine av.mono ?_;rintro e bf ⟨b,rfl,al⟩;have aC:=aq (A _ _ al);have bb:=PE b;clear av A al;go_wp2_with fail;refine aC.mono ?_;rintro e t ⟨rfl,an⟩;clear aC;go_upto_region 6 with fail;generalize aU:t.alloc _=C;have x:Hid (aj t C/\t.heap.size=t.heap.size/\I5 t.heap.size C):=by
  rw[<-aU];exact⟨(ap _ _).alloc (ak _) _,rfl,aE _ _⟩
 clear aU;have y:Hid (∀W,aj C W->aj t W/\I5 t.heap.size W):=λW i=>⟨x.1.trans (i.mono x.1.size),(i.block _ (aF.1 x.2.2).1).trans x.2.2⟩;generalize S:t.heap.size=r at*;have d:=aq (λW (i:aj C W)=>o7 x.2.2 i);have E:Hid (aj C C.drew):=(ap _ _).drew
 go_region_held3 (λW=>W.cell? ⟨r,0,none⟩=some (Value.int .i64 1)/\W.cell? ⟨r,1,none⟩=some (Value.int .i64 1)/\W.cell? ⟨r,2,none⟩=some (Value.int .i64 0)/\W.cell? ⟨r,3,none⟩=some (Value.int .i64 0)/\W.cell? ⟨r,4,none⟩=some (Value.int .i64 0)/\W.cell? ⟨r,5,none⟩=some (Value.string ⟨#[]⟩)/\W.cell? ⟨r,6,none⟩=some (Value.slice none 0 0)) (first|exact d _ E|exact d _ m|exact d _ I|exact d _ (I.alloc I.size _)|exact o7 n.2 (ap _ _)) ((first
  | (go_at_call 17;first
      | (refine(aD _).mono ?_;rintro e a7 ⟨y0,y1,y2,ya,yl,yc,rfl,P⟩;have m:=aq (E.trans (P.2.mono E.size));clear aD)
      | (refine(aG _).mono ?_;rintro e a8 ⟨V,X,Y,Z,ad,aa,rfl,J⟩;have I:=aq (m.trans (J.2.mono m.size));clear aG))
  | (go_at_call 16;refine(ay _ _ _ _ _ _ a7 a8 _ _ _ _ _ _ _ _ _ _ _ _ _ an ⟨by first|(rw[S];exact(y _ m).1)|exact(y _ m).1,S,(y _ m).2⟩ ⟨(aF.1 (y _ E).2).1,(aF.1 (y _ m).2).1⟩ P.1 J.2 J.1 ((ap _ _).alloc (ak _) _) ⟨ak _,aE _ _⟩).mono ?_;rintro e aX ⟨rfl,n⟩)))
 have ax:=aq (aw _ _ _ n.1);clear ay aw x y d E an m I P J S;go_upto_region 8 with fail;go_wp2_with fail;refine ax.mono ?_;rintro e H ⟨nm,U,sa,sl,sc,ma,aW,aV,rfl,aT⟩;have K:=aq aT;clear ax aT;go_upto_region 9 with fail;generalize T:H.alloc _=j;have f:Hid (aj aX j/\aX.heap.size<=H.heap.size/\∀W,aj j W->W.cell? ⟨H.heap.size,1,none⟩=some (ab 7)):=by
  have aQ:j.heap[H.heap.size]?=some (.cells #[ab 1,ab 7,af U,ae sa sl sc] 28):=by
   rw[<-T];exact aE _ _
  refine⟨K.trans (by rw[<-T];exact(ap _ _).alloc K.size _),K.size,λW i=>?_⟩;have a3:=(i.block _ (aF.1 aQ).1).trans aQ;exact ag a3 1
 generalize H.heap.size=q at*;clear T K;have A:Hid (∀W,aj j W->I5 r W):=λW i=>(i.block _ (aR (aF.1 n.2).1 f.1.size)).trans ((f.1.block _ (aF.1 n.2).1).trans n.2);have d:Hid (∀W,aj j W->(W.cell? ⟨r,0,none⟩=some (Value.int .i64 1)/\W.cell? ⟨r,1,none⟩=some (Value.int .i64 1)/\W.cell? ⟨r,2,none⟩=some (Value.int .i64 0)/\W.cell? ⟨r,3,none⟩=some (Value.int .i64 0)/\W.cell? ⟨r,4,none⟩=some (Value.int .i64 0)/\W.cell? ⟨r,5,none⟩=some (Value.string ⟨#[]⟩)/\W.cell? ⟨r,6,none⟩=some (Value.slice none 0 0))/\W.cell? ⟨q,1,none⟩=some (ab 7)):=λW i=>⟨o7 (A W i) (ap _ _),f.2.2 W i⟩;have F:Hid (aj j j.drew):=(ap _ _).drew;have z:Hid (aj j (j.alloc (.cells #[ab 1,ab 2] 3)).drew/\(j.alloc (.cells #[ab 1,ab 2] 3)).drew.heap[j.heap.size]?=some (.cells #[ab 1,ab 2] 3)):=⟨((ap _ _).alloc (ak _) _).drew,aE _ _⟩
 go_region_held3 (λW=>(W.cell? ⟨r,0,none⟩=some (Value.int .i64 1)/\W.cell? ⟨r,1,none⟩=some (Value.int .i64 1)/\W.cell? ⟨r,2,none⟩=some (Value.int .i64 0)/\W.cell? ⟨r,3,none⟩=some (Value.int .i64 0)/\W.cell? ⟨r,4,none⟩=some (Value.int .i64 0)/\W.cell? ⟨r,5,none⟩=some (Value.string ⟨#[]⟩)/\W.cell? ⟨r,6,none⟩=some (Value.slice none 0 0))/\W.cell? ⟨q,1,none⟩=some (ab 7)) (first|exact d _ F|exact d _ z.1|exact d _ k|exact d _ (k.alloc k.size _)|exact d _ D|exact d _ v|exact d _ (v.alloc v.size _)|exact⟨o7 N.2.1 (ap _ _),N.2.2⟩) ((first
  | (go_at_call 20;first
      | (refine(O _ _ _ _ n.1 (f.1.trans (F.mono f.1.size))).mono ?_;rintro e a4 ⟨a1,a2,rfl,u⟩;have k:=aq (F.trans (u.2.mono F.size)))
      | (refine(O _ _ _ _ n.1 (f.1.trans (z.1.mono f.1.size))).mono ?_;rintro e a4 ⟨a1,a2,rfl,u⟩;have k:=aq (z.1.trans (u.2.mono z.1.size));have aZ:=aq ((u.2.block _ (aF.1 z.2).1).trans z.2)))
  | (go_at_call 19;first
      | (refine(Q _ _ _ _ _ u.1 (ap _ _) aZ).mono ?_;rintro e a5 ⟨rfl,G⟩;have D:=aq (k.trans (G.mono k.size));clear G)
      | (refine(Q _ _ _ _ _ u.1 ((ap _ _).alloc (ak _) _) (aE _ _)).mono ?_;rintro e a5 ⟨rfl,G⟩;have D:=aq ((k.alloc k.size _).trans (G.mono (k.alloc k.size _).size));clear G))
  | (go_at_call 17;refine(aH _).mono ?_;rintro e a6 ⟨y0,y1,y2,ya,yl,yc,rfl,ao⟩;have v:=aq (D.trans (ao.2.mono D.size)))
  | (go_at_call 16;refine(aA _ _ q _ _ _ a6 _ _ _ _ _ _ _ n.1 ⟨f.1.trans (v.mono f.1.size),f.2.1,f.2.2 _ v⟩ (az f.1.size D.size) ao.1 (A _ v) ((ap _ _).alloc (ak _) _) ⟨ak _,aE _ _⟩).mono ?_;rintro e bd ⟨rfl,N⟩)))
 all_goals
  have a0:=aq (aI _ _ N.1);clear O Q aA aI aH A d F f;go_upto_region 11 with fail;go_wp2_with fail;refine a0.mono ?_;rintro e be ⟨a9,ba,rfl,aS⟩;have aY:=aq aS;clear aS;go_wp2_with fail
  go_ret
  exact⟨rfl,aY⟩
theorem Co(g:Nat)(u:Option Nat)(a:Int)(nm:ByteArray)(l:Value)(L:Nat)(w:World)(K:Int->Int->ByteArray->Option Addr->Nat->Nat->World->Prop)(J:Int->Int->ByteArray->Option Addr->Nat->Nat->Option Addr->Nat->World->Prop)(P:g<w.heap.size)(A:Hid (w.cell? ⟨g,3,none⟩=some (.map u)))(B:Hid (∀W,aj w W->(Instr.lookup 86 (.map u) (ab a) true).run Tryz.prog W=.ok (.tuple #[l,.bool true]) W))(E:Hid (∀W,aj w W->am 42 #[l] W λe w'=>e=.returned (af nm)/\aj W w'))(F:Hid (∀W,aj w W->w.heap.size<W.heap.size->am 43 #[l] W λe w'=>∃y0 y1 y2 ya yl yc,e=.returned (.agg #[ab y0,ab y1,af y2,ae ya yl yc])/\Hid (aj W w'/\K y0 y1 y2 ya yl yc w')))(C:Hid (∀y0 y1 y2 ya yl yc W,aj w W->w.heap.size<W.heap.size->K y0 y1 y2 ya yl yc W->am 44 #[l] W λe w'=>∃ma d,e=.returned (ae ma L d)/\Hid (aj W w'/\∀I,br (λq=>q=w.heap.size) w' I->J y0 y1 y2 ya yl yc ma d I))):am 18 #[aB g,ab a] w λe w'=>∃y0 y1 y2 ya yl yc ma d,e=.returned (.tuple #[af nm,.agg #[ab y0,ab y1,af y2,ae ya yl yc],ae ma L d,ab 0])/\Hid (J y0 y1 y2 ya yl yc ma d w'/\aj w w'):=by
 go_enter func18,ntmps18;go_upto_region 1 with fail;generalize t:w.alloc _=x;have HB:Hid (aj w x):=by
  rw[<-t];exact(ap _ _).alloc (ak _) _
 have G:Hid (x.heap[w.heap.size]?=some (.cells #[ab 0,ab 0,af ⟨#[]⟩,ae none 0 0] 28)):=by
  rw[<-t];exact aE _ _
 clear t;have O:=B _ HB;have N:x.cell? ⟨g,3,none⟩=some (.map u):=(HB.cell (p:=⟨g,3,none⟩) P).trans A;clear B A;go_wp2_with fail;refine(E _ HB).mono ?_;rintro e Q ⟨rfl,r⟩;have j:=aq (HB.trans (r.mono HB.size));have m:=aq (gd r G);clear r E O N HB G;go_wp2_with fail;refine(F _ j (aF.1 m).1).mono ?_;rintro e R ⟨y0,y1,y2,ya,yl,yc,rfl,h⟩;have k:=aq (j.trans (h.1.mono j.size));have n:=aq (gd h.1 m);have D:=aq (C _ _ _ _ _ _ _ k (aF.1 n).1 h.2);clear C h F j m;go_wp2_with fail;refine D.mono ?_;rintro e b ⟨ma,d,rfl,i⟩;have y:=aq (k.trans (i.1.mono k.size));have c:=gd i.1 n;have H:=aq (i.2 _ (og b w.heap.size 0 (ab y0) (ab y1) (af y2) (ae ya yl yc)));have z:Hid (aj w (cW b w.heap.size 0 (ab y0) (ab y1) (af y2) (ae ya yl yc))):=(dM (o:=0) (v0:=ab y0) (v1:=ab y1) (v2:=af y2) (v3:=ae ya yl yc) y (ak _));have f:=aq (xU c (ab y0) (ab y1) (af y2) (ae ya yl yc));obtain⟨q,s⟩:∃q,q=w.heap.size:=⟨_,rfl⟩;rw[<-s]at c f z H ⊢;have M:=aq s;clear s;have S:b.cell? ⟨q,0,none⟩=some (ab 0):=ag c 0;have T:b.cell? ⟨q,1,none⟩=some (ab 0):=ag c 1;have U:b.cell? ⟨q,2,none⟩=some (af ⟨#[]⟩):=ag c 2;have V:b.cell? ⟨q,3,none⟩=some (ae none 0 0):=ag c 3;have f0:b.frozen? ⟨q,0,none⟩=false:=by simp[World.frozen?,c]
 have f1:b.frozen? ⟨q,1,none⟩=false:=by simp[World.frozen?,c]
 have f2:b.frozen? ⟨q,2,none⟩=false:=by simp[World.frozen?,c]
 have f3:b.frozen? ⟨q,3,none⟩=false:=by simp[World.frozen?,c]
 clear c i D n k y;go_wp2_with fail;have d0:(cW b q 0 (ab y0) (ab y1) (af y2) (ae ya yl yc)).cell? ⟨q,0,none⟩=some (ab y0):=ag f 0;have d1:(cW b q 0 (ab y0) (ab y1) (af y2) (ae ya yl yc)).cell? ⟨q,1,none⟩=some (ab y1):=ag f 1;have d2:(cW b q 0 (ab y0) (ab y1) (af y2) (ae ya yl yc)).cell? ⟨q,2,none⟩=some (af y2):=ag f 2;have d3:(cW b q 0 (ab y0) (ab y1) (af y2) (ae ya yl yc)).cell? ⟨q,3,none⟩=some (ae ya yl yc):=ag f 3;simp only[cW,dc]at d0 d1 d2 d3;exact av (v:=.tuple #[af nm,.agg #[ab y0,ab y1,af y2,ae ya yl yc],ae ma L d,ab 0]) (by simp[results,results18,go_sem,d0,d1,d2,d3]) rfl ⟨y0,y1,y2,ya,yl,yc,ma,d,rfl,H,M.out▸z.out⟩
def nR(t:Tc)(B:Nat)(y0 y1:Int)(y2:ByteArray)(ya:Option Addr)(yl yc:Nat)(W:World):Prop:=∃(m:Nat)(x:Tm (m+1)),(x.1=(y0,y1,y2)/\x.2.1=(ya,yc)/\x.2.2.length=yl)/\ay (m+1) x 13 t=true/\In W.heap.size W (m+1) x/\cd (λq=>B<=q/\q<W.heap.size) (m+1) x
theorem nR.kee{t:Tc}{B:Nat}{y0 y1:Int}{y2:ByteArray}{ya:Option Addr}{yl yc:Nat}{W b:World}(d:nR t B y0 y1 y2 ya yl yc W){S:Nat->Prop}(c:br S W b)(i:∀q,B<=q->q<W.heap.size->¬S q):nR t B y0 y1 y2 ya yl yc b:=by
 obtain⟨j,k,e,f,g,h⟩:=d;have:=eP c (D:=λq=>B<=q/\q<W.heap.size) (λq a=>i q a.1 a.2) ⟨g,h⟩;exact⟨j,k,e,f,this.1,this.2.mono λq a=>⟨a.1,aR a.2 c.size⟩⟩
def xg(a:List Tc)(B:Nat)(ma:Option Addr)(W:World):Prop:=∃ys:List Tc,ys.length=a.length/\fC W.heap.size W 13 ys ma/\ys.map (cn 13)=a/\(∀y∈ys,bv 13 y=0/\cd (λq=>B<=q) 13 y)/\∀g o,ma=some ⟨g,o,none⟩->B<=g
theorem xg.kee{f:List Tc}{B:Nat}{ma:Option Addr}{W b:World}(v:xg f B ma W){S:Nat->Prop}(e:br S W b)(k:∀q,B<=q->q<W.heap.size->¬S q):xg f B ma b:=by
 obtain⟨F,A,C,E,n,m⟩:=v;refine⟨F,A,?_,E,n,m⟩;rcases C with s|⟨a,o,t,c,u⟩
 ·exact ah s
 ·subst t;have x:=m a o rfl;refine ai ⟨a,o,rfl,aR c e.size,λz p l=>?_⟩;have w:b.heap[a]?=W.heap[a]? :=e.block a c (k a x c);have d:=u z p l;have y:=eP e (D:=λq=>B<=q/\q<W.heap.size) (λq r=>k q r.1 r.2) ⟨d.2,In.offB (n p (aH l)).2 d.2⟩;refine⟨?_,y.1⟩;obtain⟨g,h,i,j⟩:=d.1;simp only[World.cell?,<-w]at g h i j;exact⟨g,h,i,j⟩
section
variable {p:kQ} {s:Sy} {d:fY} {w:World}
theorem bj.procS(j:bj p s d w){a:Int}{nm:ByteArray}{cs:Tc}{f:List Tc}(F:s.get a=some (nm,cs,f))(R:nm.size<=2048)(al:d.k<=47000):am 18 #[aB p.b,ab a] w λe w'=>∃y0 y1 y2 ya yl yc ma m,e=.returned (.tuple #[af nm,.agg #[ab y0,ab y1,af y2,ae ya yl yc],ae ma f.length m,ab 0])/\Hid ((nR cs w.heap.size y0 y1 y2 ya yl yc w'/\xg f w.heap.size ma w')/\aj w w'):=by
 obtain⟨n,G⟩:∃n,cU d.l a=some n:=by
  have:=j.alive a;rw[F]at this;exact gA.1 this
 obtain⟨Y,J,I,C,v,ak⟩:=j.ps a n G;rw[F]at C;obtain⟨rfl,rfl,rfl⟩:nm=Y/\cs=J/\f=I:=by simpa using C
 refine Co p.b d.po a nm (Ax n) f.length w (λy0 y1 y2 ya yl yc h=>nR cs (w.heap.size+1) y0 y1 y2 ya yl yc h) (λy0 y1 y2 ya yl yc ma m w'=>nR cs w.heap.size y0 y1 y2 ya yl yc w'/\xg f w.heap.size ma w') j.lo.2 j.cells.2.2.2 (λh g=>?_) (λh g=>(v.later g).sname R) (λh g Q=>?_) λy0 y1 y2 ya yl yc h g Q P=>?_
 ·have:=(j.later g).look a true;rw[if_pos rfl,G]at this;exact this
 ·refine((v.later g).state (by omega)).mono ?_;rintro e w' ⟨c,rfl,t⟩;obtain⟨K,D,L,M,N⟩:=t.out;refine⟨c.1.1,c.1.2.1,c.1.2.2,c.2.1.1,c.2.2.length,c.2.1.2,rfl,K,12,c,⟨rfl,rfl,rfl⟩,?_,D,(In.offB L D).mono λq i=>⟨by omega,i.2⟩⟩;rw[<-N];exact dJ _ _ _ _ (eO M)
 ·refine((v.later g).mails2 (by omega) (by omega)).mono ?_;rintro e w' ⟨B,ma,m,rfl,t⟩;obtain⟨T,x,U,V,W,X⟩:=t;have an:=x.size;refine⟨ma,m,rfl,x,λai E=>⟨?_,?_⟩⟩
  ·obtain⟨S,aa,y,z,A,r⟩:=(P.kee (aJ x λ_=>False) λ_ _ _ i=>i).kee E λq ad ag ah=>by omega
   exact⟨S,aa,y,z,A,r.mono λq i=>⟨by omega,i.2⟩⟩
  ·have O:xg f h.heap.size ma w':=⟨B,T,U,V,X,λu o e=>W u (by rw[e];rfl)⟩;obtain⟨B,y,z,A,r,Z⟩:=O.kee E λq ad ag ah=>by omega
   exact⟨B,y,z,A,λc H=>⟨(r c H).1,(r c H).2.mono λq i=>by omega⟩,λu o e=>by have:=Z u o e;omega⟩
end
end Go.Proofs.YtmmahddlcldmiaaGreatDoor
