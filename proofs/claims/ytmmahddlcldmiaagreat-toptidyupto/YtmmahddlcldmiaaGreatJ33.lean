/- Proved here: plain facts and contracts. No condition but what each names. -/
import Derived.Test.YtmmahddlcldmiaaGreatJ32
import Derived.ProofKit
import Derived.OpenShut
import Derived.JoinedCond
namespace Go.Proofs.YtmmahddlcldmiaaGreat
open Go.RowKit Tryz
open Go.ChangeShapes Go.WideShapes Go.ChangeAt Go.RowKit
set_option maxRecDepth 100000
set_option maxHeartbeats 2000000
def uu(base:Nat)(a:aw)(d:List (ap×Int×Int×Tc))(w:ag):Prop:=
 (d=[]\/∃c,a=some ⟨c,0,none⟩/\base<=c/\c<w.heap.size/\∀e b,d[e]?=some b->∀(t:Nat)(f:av),(IR b)[t]?=some f->w.cell? ⟨c,e*7+t,none⟩=some f)/\∀b∈d,(In w.heap.size w 13 b.2.2.2/\cr (λg=>base<=g) 13 b.2.2.2)/\wL b.2.2.2
def EN(a:aw)(L c:Nat):Prop:=(a=none/\L=0/\c=0)\/((∃g,a=some ⟨g,0,none⟩)/\L<=c)
def LA(e:ap×Int×Int×Tc):ap×Int×Int×Tc:=(e.1,e.2.1,e.2.2.1,cn 13 e.2.2.2)
variable{room:Int}{p:List MemPlace}{j:List Tc}{g h B c i k m n:Nat}{r:Reach}{s t:Sy}{cs x:Tc}{e H:Type}{M V:aR}{f W w w' w0:ag}{name:ap}{v:av}{a:aw}{o d:fY}
theorem uu.kee{base:Nat}{j:List (ap×Int×Int×Tc)}(e:uu base a j w){S:aR}(i:bB S w w')(l:∀q,base<=q->q<w.heap.size->¬S q):uu base a j w':=by
 refine⟨?_,λb d=>?_⟩
 ·rcases e.1 with c|⟨g,c,k,h,m⟩
  ·exact ai c
  ·refine aj ⟨g,c,k,aW h i.size,λo b d t p n=>?_⟩;rw[<-m o b d t p n];simp only[World.cell?,i.block g h (l g k h)]
 ·have c:=eX i (D:=λq=>base<=q/\q<w.heap.size) (λq f=>l q f.1 f.2) ⟨(e.2 b d).1.1,In.offB (e.2 b d).1.2 (e.2 b d).1.1⟩;exact⟨⟨c.1,c.2.mono λq f=>f.1⟩,(e.2 b d).2⟩
theorem Gc(xa:aw)(xc:Nat)(w:ag):OW 0 0 ⟨#[]⟩ xa 0 xc tF w:=λW h=>by
 refine(sy 12 0 0 ⟨#[]⟩ xa 0 xc [] W (by decide) λw1 c=>?_).mono ?_
 ·refine(lM xa xc w1).mono ?_;rintro e w' ⟨rfl,rfl⟩;exact⟨none,0,[],rfl,aq _ _,rfl,ao _,aL _,rfl,ai rfl⟩
 ·rintro e w' ⟨a,b,l,rfl,H⟩;obtain⟨c,d,g,f,_⟩:=H;obtain rfl:l=[]:=bJ d;exact⟨0,0,⟨#[]⟩,a,0,b,rfl,c,((0,0,⟨#[]⟩),(a,b),[]),⟨rfl,rfl,rfl⟩,⟨⟨⟨show dC 0 by unfold dC;decide,show dC 0 by unfold dC;decide,show (0:Nat)<=maxLen from aL _,aL _,f⟩,ai rfl⟩,ai rfl⟩,rfl,aj ⟨rfl,rfl⟩⟩
theorem N8(d:In w.heap.size w 13 x)(a:wL x):OW x.1.1 x.1.2.1 x.1.2.2 x.2.1.1 x.2.2.length x.2.1.2 (cn 13 x) w:=by
 rcases a with a|⟨b,c⟩
 ·exact kB d a
 ·obtain⟨⟨g,h,i⟩,⟨e,f⟩,j⟩:=x;simp only[ew]at b c;obtain⟨rfl,rfl,rfl⟩:=b;subst c;exact Gc e f w
theorem Mi(l:List (ap×Int×Int×Tc)):∀u∈l.flatMap IR,u.oneCell'=true:=λu b=>by
 obtain⟨e,_,a⟩:=jN.1 b;simp only[IR,cv,gF,gJ]at a;rcases a with rfl|rfl|rfl|rfl|rfl|rfl|rfl<;>rfl
section
variable {p:ke} {s:Sy} {d:fY} {w:ag}
theorem bt.eventsF(B:bt p s d w)(bb:d.es.length<=100000):am 29 #[aH p.b,ab 0] w λe w'=>∃a c,e=.returned (ae a d.es.length c)/\Hid (ak w w'/\EN a d.es.length c/\∃al,al.length=d.es.length/\al.map LA=s.evs/\uu w.heap.size a al w'):=by
 obtain⟨H,D,az,aZ,aC⟩:∃H D,d.ev=ae H d.es.length D/\d.es.length<=D/\(H=none/\d.es.length=0/\D=0\/∃g,H=some ⟨g,0,none⟩):=by
  rcases B.evr.1.2 with⟨e,Q⟩|⟨g,c,ar,e,_,_,k,_⟩
  ·exact⟨none,0,by rw[e,Q],by omega,ai ⟨rfl,Q,rfl⟩⟩
  ·exact⟨_,c,e,k,aj ⟨g,rfl⟩⟩
 obtain⟨q,R⟩:∃q:Nat->ap×Int×Int×Tc,∀h,h<d.es.length->d.es[h]?=some (q h):=⟨λh=>d.es.getD h (⟨#[]⟩,0,0,tF),λh C=>by
  simp only[mW,aM C]
  rfl⟩
 have a0:∀j,ak w j->∀h,h<d.es.length->In j.heap.size j 13 (q h).2.2.2/\wL (q h).2.2.2:=λj z h C=>by
  have:=(B.later z).evt.2 _ (aN (R h C));exact⟨this.1.1,this.2⟩
 have X:=B.evr.1;rw[az]at X;have aJ:w.cell? ⟨p.b,6,none⟩=some (ae H d.es.length D):=by
  have E:=ah B.box 6;simp only[eh,cW,dm]at E;rw[az]at E;exact E
 refine(JG p.b H d.es.length D (λh=>(q h).2.2.2.1.1) (λh=>(q h).2.2.2.1.2.1) (λh=>(q h).2.2.2.1.2.2) (λh=>(q h).2.2.2.2.1.1) (λh=>(q h).2.2.2.2.2.length) (λh=>(q h).2.2.2.2.1.2) w
  (λa c h j=>ak w j/\EN a d.es.length c/\(d.es.length=0\/∃(g:Nat)(f:Nat->ap×Int×Int×Tc),a=some ⟨g,0,none⟩/\(w.heap.size<=g/\g<j.heap.size)/\(∀o,j.frozen? ⟨g,o,none⟩=false)/\(∀i,i<d.es.length->∀(t:Nat)(n:av),(IR (f i))[t]?=some n->j.cell? ⟨g,i*7+t,none⟩=some n)/\(∀i,i<h->(LA (f i)=LA (q i)/\wL (f i).2.2.2)/\In j.heap.size j 13 (f i).2.2.2/\cr (λr=>w.heap.size<=r/\r≠g) 13 (f i).2.2.2)/\∀i,h<=i->i<d.es.length->f i=q i)) B.lo.2 (by omega) aZ aC aJ (λj z=>?_) (λa c h j C L=>?_)).mono ?_
 ·rcases aC with⟨rfl,Q,rfl⟩|⟨g,rfl⟩
  ·rw[Q];refine(AQ 0 j).mono ?_;rintro e w' ⟨rfl,rfl⟩;exact⟨none,0,rfl,aq _ _,z,ai ⟨rfl,rfl,rfl⟩,ai rfl⟩
  ·have x:=X.lt g rfl;refine(AR (d.es.flatMap IR) g d.es.length D j X.1 (Mi _) (by omega) λbi A h n m=>?_).mono ?_
   ·have E:=World.ownsRow.cells X (g:=g) rfl h n m;have aP:=z.trans (A.mono z.size);exact(aP.cell (p:=(⟨g,0,none⟩:Addr).add h) (by simp only[Addr.add];split<;>exact x.2)).trans E
   ·rintro e w' ⟨bh,rfl,I⟩;obtain⟨y,F⟩:=I.out;obtain⟨a,c,aK,au,aw⟩:=rN F (by decide) λP=>rfl;subst aK;have N:EN a d.es.length c:=by
     rcases F.2 with⟨v,Y⟩|⟨J,a9,ar,v,_,_,Y,_⟩
     ·injection v with v aE aF;exact ai ⟨v,Y,aF⟩
     ·injection v with v aE aF;exact aj ⟨⟨J,v⟩,by omega⟩
    refine⟨a,c,rfl,y,z.trans (y.mono z.size),N,?_⟩;by_cases K:d.es.length=0
    ·exact ai K
    ·obtain⟨J,v,Y,aE⟩:=aw 0 _ (R 0 (by omega));obtain⟨ar,aQ⟩:=eC F J (au _ v);have bc:=z.size;refine aj ⟨J,q,v,⟨by have:=(F.lt J (au _ v)).1;omega,Y⟩,λo=>by simp[World.frozen?,aQ],λi l t n m=>?_,λi l=>by omega,λ_ _ _=>rfl⟩;obtain⟨ba,G,bg,a6⟩:=aw i _ (R i l);rw[v]at G;injection G with G;injection G with G;subst G;exact a6 t n m
 ·obtain⟨A,N,L⟩:=L;rcases L with K|⟨g,f,rfl,x,aD,T,S,M⟩
  ·omega
  have aR:=M h (ao _) C;have k:=T h C;rw[aR]at k;refine⟨g,rfl,k 3 _ rfl,k 4 _ rfl,k 5 _ rfl,k 6 _ rfl,?_⟩;obtain⟨a7,a8⟩:=a0 j A h C;refine(N8 a7 a8 j (aq _ _)).mono ?_;rintro e w' ⟨y0,y1,y2,ya,yl,yc,rfl,I⟩;obtain⟨y,aG,⟨ax,ay,aL⟩,⟨F,a3⟩,a4,a5⟩:=I.out;have u:∀{o:Nat}{n:av},j.cell? ⟨g,o,none⟩=some n->w'.cell? ⟨g,o,none⟩=some n:=λ{o n} r=>(y.cell (p:=⟨g,o,none⟩) x.2).trans r;have O:∀o,w'.frozen? ⟨g,o,none⟩=false:=λo=>(y.frozen (p:=⟨g,o,none⟩) x.2).trans (aD o);refine⟨y0,y1,y2,ya,yl,yc,rfl,⟨O _,O _,O _,O _⟩,⟨u (k 3 _ rfl),u (k 4 _ rfl),u (k 5 _ rfl),u (k 6 _ rfl)⟩,?_⟩;have aT:=ot w' g (h*7+3) (ab y0) (ab y1) (af y2) (ae ya yl yc);have bf:=bA (w:=w') (g:=g) (o:=h*7+3) (ab y0) (ab y1) (af y2) (ae ya yl yc);have V:=xS (ab y0) (ab y1) (af y2) (ae ya yl yc) ⟨u (k 3 _ rfl),u (k 4 _ rfl),u (k 5 _ rfl),u (k 6 _ rfl)⟩;have U:=λo (aV:o<h*7+3\/h*7+3+4<=o)=>BU (w:=w') (g:=g) (v0:=ab y0) (v1:=ab y1) (v2:=af y2) (v3:=ae ya yl yc) o aV;have aS:=λo=>(tu (w:=w') (g:=g) (o:=h*7+3) (v0:=ab y0) (v1:=ab y1) (v2:=af y2) (v3:=ae ya yl yc) o).trans (O o);have aW:ak w (di w' g (h*7+3) (ab y0) (ab y1) (af y2) (ae ya yl yc)):=dO (A.trans (y.mono A.size)) x.1;generalize di w' g (h*7+3) (ab y0) (ab y1) (af y2) (ae ya yl yc)=an at*;have bd:=y.size;have be:=A.size;have aB:∀{Z:Tc},In w'.heap.size w' 13 Z->cr (λr=>w.heap.size<=r/\r≠g) 13 Z->In an.heap.size an 13 Z/\cr (λr=>w.heap.size<=r/\r≠g) 13 Z:=λa1 a2=>eX aT (λr P aI=>P.2 aI) ⟨a1,a2⟩;refine⟨aW,N,aj ⟨g,λi=>if i=h then ((q h).1,(q h).2.1,(q h).2.2.1,aG)else f i,rfl,⟨x.1,by omega⟩,aS,λi l t n m=>?_,λi l=>?_,λi E aO=>?_⟩⟩
  ·have aY:t<7:=by
     have:=(aX.1 m).1;simpa [IR]using this
   by_cases e:i=h
   ·subst e;simp only[cY]at m;obtain⟨⟨bj,bk,aI⟩,⟨bl,bm⟩,bn⟩:=aG;simp only[ew]at ax ay;obtain⟨rfl,rfl,rfl⟩:=ax;obtain⟨rfl,rfl⟩:=ay;subst aL
    match t,aY with
    | 0,_=>exact(U _ (by omega)).trans (u (k 0 n m))
    | 1,_=>exact(U _ (by omega)).trans (u (k 1 n m))
    | 2,_=>exact(U _ (by omega)).trans (u (k 2 n m))
    | 3,_=>exact V.1.trans m
    | 4,_=>exact V.2.1.trans m
    | 5,_=>exact V.2.2.1.trans m
    | 6,_=>exact V.2.2.2.trans m
   ·simp only[if_neg e]at m;exact(U _ (by omega)).trans (u (T i l t n m))
  ·by_cases e:i=h
   ·simp only[e,cY];have:=aB F (a3.mono λr P=>⟨by omega,by omega⟩);refine⟨⟨?_,a5⟩,this.1,this.2⟩;unfold LA;rw[a4]
   ·simp only[if_neg e];obtain⟨aa,ad,ag⟩:=S i (by omega);have:=aB ((ad.below y).mono y.size) ag;exact⟨aa,this.1,this.2⟩
  ·simp only[if_neg (show¬i=h by omega)];exact M i (by omega) aO
 ·rintro e w' ⟨a,c,rfl,I⟩;obtain⟨A,N,L⟩:=I;refine⟨a,c,rfl,A,N,?_⟩;rcases L with K|⟨g,f,rfl,x,aD,T,S,M⟩
  ·have aU:d.es=[]:=bJ K;refine⟨[],by rw[K];rfl,?_,ai rfl,λe M=>by cases M⟩;rw[<-B.evt.1,aU];rfl
  ·refine⟨(List.range d.es.length).map f,by simp,?_,aj ⟨g,rfl,x.1,x.2,λi e l t n m=>?_⟩,λe l=>?_⟩
   ·rw[<-B.evt.1];refine List.ext_getElem? λi=>?_;by_cases l:i<d.es.length
    ·rw[dy,dy,dy,List.getElem?_range l,R i l];exact congrArg some (S i l).1.1
    ·rw[eN (by simpa using Nat.le_of_not_lt l),eN (by simpa using Nat.le_of_not_lt l)]
   ·have W:i<d.es.length:=by
      have:=(aX.1 l).1;simpa using this
    rw[dy,List.getElem?_range W]at l;obtain rfl:=aA l;exact T i W t n m
   ·obtain⟨i,W,rfl⟩:=cm.1 l;obtain⟨aa,ad,ag⟩:=S i (List.mem_range.1 W);exact⟨⟨ad,ag.mono λr P=>P.1⟩,aa.2⟩
theorem bt.events(h:bt p s d w)(i:d.es.length<=100000):am 10 #[aH p.b] w λe w'=>∃a c,e=.returned (ae a d.es.length c)/\Hid (ak w w'/\EN a d.es.length c/\∃f,f.length=d.es.length/\f.map LA=s.evs/\uu w.heap.size a f w'):=by
 have g:=au (h.eventsF i);clear h i;generalize d.es.length=k at*;go_enter func10,ntmps10;go_wp2_with fail;refine g.mono ?_;rintro e l ⟨a,c,rfl,j⟩;clear g;go_wp2_with fail
 go_ret
 exact⟨a,c,rfl,j⟩
end
theorem G5(u v g k h l:Int)(nm s1 m:ap)(a b:aw)(i c j d:Nat)(w:ag)(n:Hid (∀W,ak w W->am 16 #[.agg #[ab g,ab k,af s1,ae a i c],.agg #[ab h,ab l,af m,ae b j d]] W λe w'=>e=.returned (.bool true)/\ak W w')):am 28 #[.agg #[af nm,ab u,ab v,ab g,ab k,af s1,ae a i c],.agg #[af nm,ab u,ab v,ab h,ab l,af m,ae b j d]] w λe w'=>e=.returned (.bool true)/\ak w w':=by
 have p:(u==u)=true:=by simp
 have q:(v==v)=true:=by simp
 have r:(nm.toList==nm.toList)=true:=by simp
 go_enter func28,ntmps28;go_wp2_with fail;refine(n _ (((aq _ _).alloc (ao _) _).alloc (by simp) _)).mono ?_;rintro e o ⟨rfl,f⟩;have HB:Hid (ak w o):=(((aq _ _).alloc (ao _) _).alloc (by simp) _).trans (f.mono (by simp;omega));clear f;go_wp2_with fail
 go_ret
 exact⟨rfl,HB⟩
theorem JE(a b:aw)(c d:Nat)(len:Nat)(w:ag)(V:len<=9223372036854775807)(O:Hid (∀j,j<len->∃(g h:Nat)(u v q x r y:Int)(nm s1 z:ap)(l m:aw)(s n t o:Nat),(a=some ⟨g,0,none⟩/\b=some ⟨h,0,none⟩/\g<w.heap.size/\h<w.heap.size)/\Hid ((w.cell? ⟨g,j*7,none⟩=some (af nm)/\w.cell? ⟨g,j*7+1,none⟩=some (ab u)/\w.cell? ⟨g,j*7+2,none⟩=some (ab v)/\w.cell? ⟨g,j*7+3,none⟩=some (ab q)/\w.cell? ⟨g,j*7+4,none⟩=some (ab x)/\w.cell? ⟨g,j*7+5,none⟩=some (af s1)/\w.cell? ⟨g,j*7+6,none⟩=some (ae l s n))/\w.cell? ⟨h,j*7,none⟩=some (af nm)/\w.cell? ⟨h,j*7+1,none⟩=some (ab u)/\w.cell? ⟨h,j*7+2,none⟩=some (ab v)/\w.cell? ⟨h,j*7+3,none⟩=some (ab r)/\w.cell? ⟨h,j*7+4,none⟩=some (ab y)/\w.cell? ⟨h,j*7+5,none⟩=some (af z)/\w.cell? ⟨h,j*7+6,none⟩=some (ae m t o))/\Hid (∀W,ak w W->am 28 #[.agg #[af nm,ab u,ab v,ab q,ab x,af s1,ae l s n],.agg #[af nm,ab u,ab v,ab r,ab y,af z,ae m t o]] W λe w'=>e=.returned (.bool true)/\ak W w'))):am 27 #[ae a len c,ae b len d,.func (Fn.func 28) #[] #[]] w λe w'=>e=.returned (.bool true)/\ak w w':=by
 go_enter func27,ntmps27;go_wp2_with fail;go_loopw [17] (λp wr=>∃j:Nat,j<=len/\p=ab j/\Hid (ak w wr)) (λp _=>len-(intOf p).toNat)
 case atStart=>exact⟨0,aL _,rfl,aq _ _⟩
 case round=>
  obtain⟨j,U,rfl,HB⟩:=hrel;by_cases Q:j<len
  ·obtain⟨g,h,u,v,q,x,r,y,nm,s1,z,l,m,s,n,t,o,⟨rfl,rfl,i,k⟩,B,P⟩:=O j Q;obtain⟨⟨C,D,E,F,G,H,I⟩,y0,y1,y2,J,K,L,M⟩:=B.out;have f:=ax HB;replace C:=(f _ _ i).trans C;replace y0:=(f _ _ k).trans y0;replace D:=(f _ _ i).trans D;replace y1:=(f _ _ k).trans y1;replace E:=(f _ _ i).trans E;replace y2:=(f _ _ k).trans y2;replace F:=(f _ _ i).trans F;replace J:=(f _ _ k).trans J;replace G:=(f _ _ i).trans G;replace K:=(f _ _ k).trans K;replace H:=(f _ _ i).trans H;replace L:=(f _ _ k).trans L;replace I:=(f _ _ i).trans I;replace M:=(f _ _ k).trans M;clear f B;have S:g<wr.heap.size:=by have:=HB.size;omega
   have T:h<wr.heap.size:=by have:=HB.size;omega
   have X:(0:Int)<=(j:Int):=by omega
   have Y:(j:Int)<(len:Int):=by omega
   go_wp2_with fail;refine(P _ (HB.trans (((((aq _ _).alloc (ao _) _).alloc (by simp) _)).mono HB.size))).mono ?_;rintro e R ⟨rfl,A⟩;have N:Hid (ak w R):=(HB.trans ((((aq _ _).alloc (ao _) _).alloc (by simp) _).mono HB.size)).trans (A.mono (by have:=HB.size;simp;omega));clear A;go_wp2_with fail;go_roundw
   case rel=>exact⟨j+1,by omega,by go_num,N⟩
   case measure=>simp[intOf];omega
  ·obtain rfl:j=len:=by omega
   go_wp2_with fail
   go_ret
   exact⟨rfl,HB⟩
theorem Mj{y:Tc}(g:wL x)(a:wL y)(b:cn 13 x=cn 13 y):aB 13 x 13 y=true:=by
 have j:∀{f:Tc},f.1=(0,0,⟨#[]⟩)->f.2.2=[]->cn 13 f=tF:=λ{f} c h=>by
  obtain⟨⟨m,d,e⟩,⟨n,o⟩,p⟩:=f;simp only[ew]at c h;obtain⟨rfl,rfl,rfl⟩:=c;subst h;rfl
 have i:¬bE 13 tF=0:=by
  intro k;have l:aI ⟨13,tF⟩:=aT.2 (bG.1 k).1;have:=l _ mY;simp[cJ,tF]at this
 rcases g with g|⟨d,e⟩
 ·rcases a with a|⟨y1,y2⟩
  ·have c:=dB _ _ _ _ (ex g);rw[b]at c;exact bM _ _ _ _ _ _ c (ex a)
  ·rw[j y1 y2]at b;exact absurd (b▸og g) i
 ·rcases a with a|⟨y1,y2⟩
  ·rw[j d e]at b;exact absurd (b▸og a) i
  ·obtain⟨⟨m,d,e⟩,⟨n,o⟩,p⟩:=x;obtain⟨⟨q,r,s⟩,⟨t,u⟩,v⟩:=y;simp only at d e y1 y2;subst e y2;exact dh (by rw[d,y1]) rfl
theorem Eb(base B:Nat)(a b:aw)(c d len:Nat)(m n:List (ap×Int×Int×Tc))(w:ag)(r:uu base a m w)(s:uu B b n w)(N:len<=m.length/\n.length=len)(K:len<=9223372036854775807)(u:(m.map LA).take len=n.map LA):am 9 #[ae a len c,ae b len d] w λe w'=>e=.returned (.bool true)/\ak w w':=by
 have t:Hid (am 27 #[ae a len c,ae b len d,.func (Fn.func 28) #[] #[]] w λe w'=>e=.returned (.bool true)/\ak w w'):=by
  refine JE a b c d len w K λj M=>?_;obtain⟨e,h⟩:∃e,m[j]?=some e:=⟨_,aM (by omega)⟩;obtain⟨f,i⟩:∃e,n[j]?=some e:=⟨_,aM (by omega)⟩;have q:LA e=LA f:=by
   have v:=congrArg (λl=>l[j]?) u;simp only[jp,if_pos M,dy,h,i,ni]at v;exact aA v
  unfold LA at q;simp only[ew]at q;obtain⟨T,U,V,W⟩:=q;rcases r.1 with o|⟨I,C,_,E,G⟩
  ·rw[o]at h;simp at h
  rcases s.1 with o|⟨J,D,_,F,H⟩
  ·rw[o]at i;simp at i
  have k:=G j e h;have g:=H j f i;obtain⟨⟨P,X⟩,R⟩:=r.2 e (aN h);obtain⟨⟨Q,Y⟩,S⟩:=s.2 f (aN i);have O:=Mj R S W;refine⟨I,J,e.2.1,e.2.2.1,e.2.2.2.1.1,e.2.2.2.1.2.1,f.2.2.2.1.1,f.2.2.2.1.2.1,e.1,e.2.2.2.1.2.2,f.2.2.2.1.2.2,e.2.2.2.2.1.1,f.2.2.2.2.1.1,e.2.2.2.2.2.length,e.2.2.2.2.1.2,f.2.2.2.2.2.length,f.2.2.2.2.1.2,⟨C,D,E,F⟩,⟨⟨k 0 _ rfl,k 1 _ rfl,k 2 _ rfl,k 3 _ rfl,k 4 _ rfl,k 5 _ rfl,k 6 _ rfl⟩,?_,?_,?_,g 3 _ rfl,g 4 _ rfl,g 5 _ rfl,g 6 _ rfl⟩,λz x=>?_⟩
  ·rw[T];exact g 0 _ rfl
  ·rw[U];exact g 1 _ rfl
  ·rw[V];exact g 2 _ rfl
  ·refine G5 _ _ _ _ _ _ _ _ _ _ _ _ _ _ _ z λA L=>?_;have p:=x.trans (L.mono x.size);have:=vR 13 e.2.2.2 13 f.2.2.2 w.heap.size A (P.below p) (Q.below p) p.size;rw[O]at this;exact this
 clear r s N u;go_enter func9,ntmps9;go_wp2_with fail;refine t.mono ?_;rintro e Z ⟨rfl,y⟩;have HB:=au y;clear y t;go_wp2_with fail
 go_ret
 exact⟨rfl,HB⟩
theorem Cn(b:Nat)(name:ap)(w:ag)(d:w.cell? ⟨b,0,none⟩=some (af name))(c:Hid (∀w1:ag,am 63 #[af name] w1 λe w'=>e=.returned (af name)/\ak w1 w')):am 33 #[aH b] w λe w'=>e=.returned (af name)/\ak w w':=by
 go_enter func33,ntmps33;go_wp2_with fail;refine(c _).mono ?_;rintro e w1 ⟨rfl,a⟩;have HB:=au a;clear a;go_wp2_with fail
 go_ret
 exact⟨rfl,HB⟩
theorem P1.sname(a:P1 g h name room cs j k M w)(d:name.size<=2048):am 33 #[aH h] w λe w'=>e=.returned (af name)/\ak w w':=by
 obtain⟨l,s,p,x,r,t,v,n,o,i,b,_⟩:=a;obtain⟨u,m,q,c,_⟩:=b.heap.box;exact Cn h name w (PL.cells c).1 λf=>dW name f d
theorem P1.mails2(C:P1 g h name room cs j k M w)(I:k<=50000)(D:j.length<=999):am 35 #[aH h] w λe w'=>∃(ys:List Tc)(a:aw)(c:Nat),e=.returned (ae a j.length c)/\Hid (ys.length=j.length/\ak w w'/\fM w'.heap.size w' 13 ys a/\ys.map (cn 13)=j/\(∀b,(Value.slice a j.length c).ownBlock=some b->w.heap.size<=b)/\∀y∈ys,bE 13 y=0/\cr (λq=>w.heap.size<=q) 13 y):=by
 obtain⟨Q,Y,n,ab,X,Z,aa,V,W,O,u,⟨rfl,rfl⟩,T,U⟩:=C;have G:∀y∈n,bE 13 y=0:=λy d=>((u.front (N:=12)).2.2.1 y (bR _ d)).1;have S:n.length<=999:=by simpa using D
 refine(u.mails (N:=12) I (by omega)).mono ?_;rintro e w' ⟨ys,z,a,c,rfl,x⟩;obtain⟨v,m,s⟩:=x;have E:z=(n.map (cn 13)).length:=by
  rw[<-v,eu];exact cP _ _ _ s
 subst E;obtain⟨P,R,p,_,r,_⟩:=ft.lay (ei 13) (f:=iy 13) (λ_=>rfl) m;injection p with p _ _;subst p;refine⟨ys,a,c,rfl,v,m.1,?_,PT ys n s,λb F=>(m.2.1.lt b F).1,λy d=>⟨?_,(m.2.2 y d).2.mono λq J=>by rcases J.1 with t|t<;>omega⟩⟩
 ·rcases r with r|⟨B,o,A,H,i⟩
  ·exact ai r
  ·exact aj ⟨B,o,A,H,λl y d=>⟨⟨(i l y d).1 0 _ rfl,(i l y d).1 1 _ rfl,(i l y d).1 2 _ rfl,(i l y d).1 3 _ rfl⟩,(i l y d).2⟩⟩
 ·obtain⟨t,L,K⟩:=sP _ _ _ s y d;exact(bV K).trans (G t L)
section
variable {p:ke} {s:Sy} {d:fY} {w:ag}
end
theorem Ex(s:ap)(r:s=⟨#[40,99,111,100,101,32,40,98,101,104,32,99,111,117,110,116,32,40,111,110,32,36,48,32,40,117,112,32,36,49,41,32,40,41,32,40,97,100,100,32,36,48,32,36,49,41,41,32,40,111,110,32,36,48,32,40,97,115,107,32,36,49,41,32,40,40,115,101,110,100,32,36,49,32,40,104,97,118,101,32,36,48,41,41,41,32,36,48,41,32,40,111,110,32,95,32,102,111,114,107,32,40,40,115,112,97,119,110,32,99,111,117,110,116,32,48,32,36,48,41,32,40,108,105,110,107,32,36,48,41,32,40,115,101,110,100,32,36,48,32,40,117,112,32,55,41,41,41,32,49,41,32,40,111,110,32,95,32,115,116,111,112,32,40,40,115,116,111,112,41,41,32,48,41,32,40,111,110,32,95,32,98,97,100,32,40,41,32,40,97,100,100,32,97,32,97,41,41,41,41]⟩)(w:ag)(o:Int->Int->ap->aw->Nat->Nat->ag->Prop)(i:aw->Nat->Nat->ag->Prop)(m:Hid (am 39 #[af s] w λe w'=>∃y0 y1 y2 ya yl yc,e=.returned (.tuple #[.agg #[ab y0,ab y1,af y2,ae ya yl yc],ab 0,ab 0])/\Hid (o y0 y1 y2 ya yl yc w')))(k:Hid (∀y0 y1 y2 ya yl yc W n,o y0 y1 y2 ya yl yc W->ak W n->am 38 #[.agg #[ab y0,ab y1,af y2,ae ya yl yc]] n λe w'=>∃a l c,e=.returned (.tuple #[ae a l c,ab 0])/\Hid (i a l c w'))):am 19 #[] w λe w'=>∃a l c,e=.returned (ae a l c)/\Hid (i a l c w'):=by
 subst r;go_enter func19,ntmps19;go_wp2_with fail;refine m.mono ?_;rintro e h ⟨y0,y1,y2,ya,yl,yc,rfl,j⟩;clear m;go_upto_region 2 with fail;generalize g:h.alloc _=b;have q:=au (k _ _ _ _ _ _ _ b j (by rw[<-g];exact(aq _ _).alloc (ao _) _));have d:b.heap[h.heap.size]?=some (.cells #[ab y0,ab y1,af y2,ae ya yl yc] 31):=by
  rw[<-g];exact aF _ _
 generalize h.heap.size=f at*;have t:b.cell? ⟨f,0,none⟩=some (ab y0):=ah d 0;have u:b.cell? ⟨f,1,none⟩=some (ab y1):=ah d 1;have v:b.cell? ⟨f,2,none⟩=some (af y2):=ah d 2;have x:b.cell? ⟨f,3,none⟩=some (ae ya yl yc):=ah d 3;clear g d k j;go_wp2_with fail;refine q.mono ?_;rintro e y ⟨a,l,c,rfl,p⟩;go_wp2_with fail
 go_ret
 exact⟨a,l,c,rfl,p⟩
theorem Ir(u:Int)(s:ap)(w:ag)(r:Int->Int->ap->aw->Nat->Nat->ag->Prop)(C:Hid (∀W,ak w W->w.heap.size<W.heap.size->am 39 #[af s] W λe w'=>∃y0 y1 y2 ya yl yc,e=.returned (.tuple #[.agg #[ab y0,ab y1,af y2,ae ya yl yc],ab 0,ab 0])/\Hid (ak W w'/\∀j,bB (λq=>q=w.heap.size) w' j->r y0 y1 y2 ya yl yc j))):am 22 #[ab u,af s] w λe w'=>∃y0 y1 y2 ya yl yc,e=.returned (.agg #[ab 3,ab u,ab 0,ab y0,ab y1,af y2,ae ya yl yc])/\Hid (r y0 y1 y2 ya yl yc w'/\ak w w'):=by
 go_enter func22,ntmps22;go_upto_region 1 with fail;generalize A:w.alloc _=p;have n:ak w p:=by rw[<-A];exact(aq _ _).alloc (ao _) _
 have y:p.heap[w.heap.size]?=some (.cells #[ab 0,ab 0,ab 0,ab 0,ab 0,af .empty,ae none 0 0] 33):=by
  rw[<-A];exact aF _ _
 have z:=(aJ.1 y).1;have D:=au (C p n z);clear A C;go_wp2_with fail;refine D.mono ?_;rintro e g ⟨y0,y1,y2,ya,yl,yc,rfl,h⟩;clear D;go_upto_region 2 with fail;generalize B:g.alloc _=d;have i:ak g d:=by rw[<-B];exact(aq _ _).alloc (ao _) _
 have l:d.heap[g.heap.size]?=some (.cells #[ab y0,ab y1,af y2,ae ya yl yc] 31):=by
  rw[<-B];exact aF _ _
 have F:=h.1.size;have f:=(i.block w.heap.size (by omega)).trans ((h.1.block w.heap.size z).trans y);have T:w.heap.size≠g.heap.size:=by omega
 have HB:=au (⟨n.trans ((h.1.trans (i.mono F)).mono n.size),h,aO i _⟩:ak w d/\Hid (ak p g/\∀j,bB (λq=>q=w.heap.size) g j->r y0 y1 y2 ya yl yc j)/\bB (λq=>q=w.heap.size) g d);generalize U:w.heap.size=a at*;generalize g.heap.size=q at*;have O:d.cell? ⟨q,0,none⟩=some (ab y0):=ah l 0;have P:d.cell? ⟨q,1,none⟩=some (ab y1):=ah l 1;have Q:d.cell? ⟨q,2,none⟩=some (af y2):=ah l 2;have R:d.cell? ⟨q,3,none⟩=some (ae ya yl yc):=ah l 3;have G:d.cell? ⟨a,0,none⟩=some (ab 0):=ah f 0;have d1:d.cell? ⟨a,1,none⟩=some (ab 0):=ah f 1;have H:d.cell? ⟨a,2,none⟩=some (ab 0):=ah f 2;have I:d.cell? ⟨a,3,none⟩=some (ab 0):=ah f 3;have J:d.cell? ⟨a,4,none⟩=some (ab 0):=ah f 4;have K:d.cell? ⟨a,5,none⟩=some (af .empty):=ah f 5;have L:d.cell? ⟨a,6,none⟩=some (ae none 0 0):=ah f 6;have S:∀k,d.frozen? ⟨a,k,none⟩=false:=λk=>by simp[World.frozen?,f]
 clear B i l f h y z F n;go_wp2_with fail;obtain⟨o,h,i⟩:=HB;have x:bB (λb=>b=a) d (((((((d.setCell ⟨a,0,none⟩ (ab 3)).setCell ⟨a,1,none⟩ (ab u)).setCell ⟨a,2,none⟩ (ab 0)).setCell ⟨a,3,none⟩ (ab y0)).setCell ⟨a,4,none⟩ (ab y1)).setCell ⟨a,5,none⟩ (af y2)).setCell ⟨a,6,none⟩ (ae ya yl yc)):=by
  have t:∀{E b c:ag},bB (λq=>q=a) E b->bB (λq=>q=a) b c->bB (λq=>q=a) E c:=λM k=>M.trans k λ_ _ m=>m;exact t (t (t (t (t (t (bH _ _ _ _) (bH _ _ _ _)) (bH _ _ _ _)) (bH _ _ _ _)) (bH _ _ _ _)) (bH _ _ _ _)) (bH _ _ _ _)
 refine az (v:=.agg #[ab 3,ab u,ab 0,ab y0,ab y1,af y2,ae ya yl yc]) (by simp[results,results22,go_sem,G,d1,H,I,J,K,L]) rfl ⟨y0,y1,y2,ya,yl,yc,rfl,h.2 _ (i.trans x λ_ _ m=>m),?_⟩
 first|exact(o.trans (x.below (by have:=o.size;omega) λb N m=>by omega)).mono (by omega)|exact o.trans (x.below (by have:=o.size;omega) λb N m=>by omega)
theorem Iq(x:Nat)(g n c:Nat)(kd f h i k:Nat->Int)(l:Nat->ap)(xa:Nat->aw)(m xc:Nat->Nat)(w:ag)(K:Nat->ag->Prop)(P:n<=1000)(s:Hid (K 0 w))(o:Hid (∀j W,j<n->K j W->(W.cell? ⟨g,j*7,none⟩=some (ab (kd j))/\W.cell? ⟨g,j*7+1,none⟩=some (ab (f j))/\W.cell? ⟨g,j*7+2,none⟩=some (ab (h j))/\W.cell? ⟨g,j*7+3,none⟩=some (ab (i j))/\W.cell? ⟨g,j*7+4,none⟩=some (ab (k j))/\W.cell? ⟨g,j*7+5,none⟩=some (af (l j))/\W.cell? ⟨g,j*7+6,none⟩=some (ae (xa j) (m j) (xc j)))/\Hid (∀u,ak W u->am 8 #[aH x,.agg #[ab (kd j),ab (f j),ab (h j),ab (i j),ab (k j),af (l j),ae (xa j) (m j) (xc j)]] u λe w'=>e=.returned (ab 0)/\Hid (K (j+1) w')))):am 21 #[aH x,ae (some ⟨g,0,none⟩) n c] w λe w'=>e=.returned (.bool true)/\Hid (K n w'):=by
 go_enter func21,ntmps21;go_wp2_with fail;go_loopw [6,9] (λ_ r wr=>∃(j:Nat),j<=n/\r=ab j/\Hid (K j wr)) (λ_ r _=>n-(intOf r).toNat)
 case atStart=>exact⟨0,aL _,rfl,s⟩
 case round=>
 clear s;obtain⟨j,H,rfl,p⟩:=hrel;by_cases v:j<n
 ·obtain⟨⟨A,B,C,D,E,F,G⟩,t⟩:=o.out j _ v p;have Q:(0:Int)<=(j:Int):=by omega
  have R:(j:Int)<(n:Int):=by omega
  clear o p;go_upto_region 4 with fail;generalize q:World.alloc _ _=a;have b:a.heap[wr.heap.size]?=some (.cells #[ab (kd j),ab (f j),ab (h j),ab (i j),ab (k j),af (l j),ae (xa j) (m j) (xc j)] 33):=by
   rw[<-q];exact aF _ _
  have z:=au (t a (by rw[<-q];exact(aq _ _).alloc (ao _) _));generalize wr.heap.size=d at*;have I:a.cell? ⟨d,0,none⟩=some (ab (kd j)):=ah b 0;have d1:a.cell? ⟨d,1,none⟩=some (ab (f j)):=ah b 1;have J:a.cell? ⟨d,2,none⟩=some (ab (h j)):=ah b 2;have L:a.cell? ⟨d,3,none⟩=some (ab (i j)):=ah b 3;have M:a.cell? ⟨d,4,none⟩=some (ab (k j)):=ah b 4;have N:a.cell? ⟨d,5,none⟩=some (af (l j)):=ah b 5;have O:a.cell? ⟨d,6,none⟩=some (ae (xa j) (m j) (xc j)):=ah b 6;clear q b t A B C D E F G;go_wp2_with fail;refine z.mono ?_;rintro e S ⟨rfl,y⟩;go_wp2_with fail;go_roundw
  case rel=>exact⟨j+1,by omega,by go_num,y⟩
  case measure=>simp[intOf];omega
 obtain rfl:j=n:=by omega
 clear o H v;go_wp2_with fail
 go_ret
 exact⟨rfl,p⟩
def yD(w:ag)(a:aw)(L c:Nat)(W:ag):Prop:=∃(M:Nat)(q:List (Bh (M+1))),q.length=L/\ak w W/\(L<=c/\c<=maxLen)/\gq (M+1) W.heap.size W a q/\lU M q=0/\aB (M+6) (cd M q) 7 (cd 1 fR)=true
theorem Gy{l:List (Bh (n+1))}(i:lU n l=0){y0 y1:Int}{y2:ap}{ya:aw}{yl yc:Nat}(u:∃x:Tm (m+1),(x.1=(y0,y1,y2)/\x.2.1=(ya,yc)/\x.2.2.length=yl)/\aB (m+1) x (n+6) (cd n l)=true/\In W.heap.size W (m+1) x):am 38 #[.agg #[ab y0,ab y1,af y2,ae ya yl yc]] W λe w'=>∃a L c,e=.returned (.tuple #[ae a L c,ab 0])/\Hid (ak W w'/\∃q:List (Bh (m+1)),q.length=L/\(L<=c/\c<=maxLen)/\gq (m+1) w'.heap.size w' a q/\lU m q=0/\aB (m+6) (cd m q) (n+6) (cd n l)=true):=by
 obtain⟨⟨⟨C,D,E⟩,⟨F,G⟩,H⟩,⟨g,h,t⟩,d,v⟩:=u;simp only[ew]at g h;obtain⟨rfl,rfl,rfl⟩:=g;obtain⟨rfl,rfl⟩:=h;subst t;have b:=(bV d).trans (fy i).2.1;obtain⟨I,f,o,_⟩:=KD m (m+1) n (ao _) l (fy i).1 _ (qn b) d;have hF:Bb m (m+1) ((C,D,E),(F,G),H)=0:=by
  unfold Bb;rw[if_pos b,f];unfold Bc;simp only[o,cY]
 have j:=Be m (m+1) (ao _) _ W.heap.size W v (fo b) (ao _);rw[hF]at j;refine j.mono ?_;rintro e w' ⟨q,a,c,rfl,s⟩;obtain⟨y,z,A,_,_,B⟩:=s;obtain⟨J,k,w⟩:=B rfl;rw[f]at k;obtain rfl:=aA k;obtain⟨_,p,r,_⟩:=xU (ao _) b f w o;rw[(fy p).2.2]at r;exact⟨a,q.length,c,rfl,y,q,rfl,z,A,p,bM _ _ _ _ _ _ r d⟩
theorem Il(w:ag):am 19 #[] w λe w'=>∃a l c,e=.returned (ae a l c)/\Hid (yD w a l c w'):=by
 refine Ex Ld rfl w (λy0 y1 y2 ya yl yc f=>ak w f/\∃(d:Nat)(b:Tm (d+1)),(b.1=(y0,y1,y2)/\b.2.1=(ya,yc)/\b.2.2.length=yl)/\aB (d+1) b 7 (cd 1 fR)=true/\In f.heap.size f (d+1) b) (yD w) ((BS M9 qK.1 w).mono ?_) λy0 y1 y2 ya yl yc f v ⟨i,d,b,q,s,r⟩ h=>?_
 ·rintro e w' ⟨d,b,rfl,g⟩;obtain⟨n,o,_,p⟩:=g.out;exact⟨_,_,_,_,_,_,rfl,p,d,b,⟨rfl,rfl,rfl⟩,n,o⟩
 ·refine(Gy Ju ⟨b,q,s,(r.below h).mono h.size⟩).mono ?_;rintro e w' ⟨a,m,c,rfl,g⟩;obtain⟨t,u,k⟩:=g;have j:=i.trans (h.mono i.size);exact⟨a,m,c,rfl,d,u,k.1,j.trans (t.mono j.size),k.2⟩
def ut(w0:ag)(s:Sy)(i a:Nat)(W:ag):Prop:=∃(p:ke)(d:fY),p.b=a/\bt p s d W/\(p.room=60/\aB (p.n+6) (cd p.n p.prog) 7 (cd 1 fR)=true)/\(d.k<=i*402/\d.es.length<=i*201/\d.wn<=i*201/\d.bn<=i*201)/\ak w0 W/\w0.heap.size<=p.lo
theorem K6(w0:ag){L:Nat}(m:yD w0 a L c W):am 18 #[ae a L c,ab 60] W λe w'=>∃i,e=.returned (.tuple #[aH i,ab 0])/\Hid (ut w0 M1 0 i w'):=by
 obtain⟨k,s,rfl,d,g,n,f,o⟩:=m;refine(Cj k s a c 60 W n g.1 g.2 λ_=>fo (fy f).2.1).mono ?_;rintro e w' ⟨E,x,rfl,j⟩;obtain⟨p,q,_,r⟩:=j;have y:x=0:=by
  rw[p];unfold lE;rw[if_neg (by rw[f];decide),if_pos (by decide)]
 subst y;obtain⟨h,l,rfl,t,⟨z,u,A,B⟩,v,C,D,w⟩:=r rfl;exact⟨h.b,rfl,h,l,rfl,t,⟨v,bM _ _ _ _ _ _ w o⟩,⟨by omega,by rw[u];exact aL _,by omega,by omega⟩,d.trans (q.mono d.size),by have:=d.size;omega⟩
theorem bt.sound{p:ke}(e:bt p s d w):∀a nm cs c,s.get a=some (nm,cs,c)->(bE 13 cs=0/\aS 13 cs=true)/\∀t∈c,bE 13 t=0/\aS 13 t=true:=λa nm cs c g=>by
 obtain⟨b,k⟩:∃b,cZ d.l a=some b:=by
  have:=e.alive a;rw[g]at this;exact fA.1 this
 obtain⟨q,i,h,f,j,_⟩:=e.ps a b k;rw[g]at f;obtain⟨rfl,rfl,rfl⟩:nm=q/\cs=i/\c=h:=by simpa using f
 obtain⟨m,n,o,_⟩:=j.ok;exact⟨⟨m,n⟩,o⟩
def CQ(w0:ag)(V:aR)(a:ag)(s:Sy)(i c:Nat)(W:ag):Prop:=∃(p:ke)(d:fY),p.b=c/\bt p s d W/\(p.room=60/\aB (p.n+6) (cd p.n p.prog) 7 (cd 1 fR)=true)/\(d.k<=i*402/\d.es.length<=i*201/\d.wn<=i*201/\d.bn<=i*201)/\(ak w0 W/\w0.heap.size<=p.lo)/\(∀q,V q->q<a.heap.size/\d.ow q=0)/\bB (λq=>¬V q) a W
theorem CQ.later{w0:ag}{V:aR}{d:ag}{s:Sy}{i e:Nat}{W c:ag}(h:CQ w0 V d s i e W)(b:ak W c):CQ w0 V d s i e c:=by
 obtain⟨o,f,g,j,k,l,a,m,n⟩:=h;exact⟨o,f,g,j.later b,k,l,⟨a.1.trans (b.mono a.1.size),a.2⟩,m,n.trans (aO b _) λ_ _ p=>p⟩
theorem CQ.at(d:CQ w0 V f s i g W):ut w0 s i g W:=by
 obtain⟨k,b,c,e,h,j,a,_⟩:=d;exact⟨k,b,c,e,h,j,a.1,a.2⟩
theorem ut.from(l:ut w0 s i g f)(e:ak f W)(d:∀q,V q->f.heap.size<=q/\q<W.heap.size):CQ w0 V W s i g W:=by
 obtain⟨p,a,k,b,m,n,c,o⟩:=l;refine⟨p,a,k,b.later e,m,n,⟨c.trans (e.mono c.size),o⟩,λq h=>⟨(d q h).2,?_⟩,bB.refl _ _⟩;by_cases j:a.ow q=0
 ·exact j
 ·have:=(b.low q j).2;have:=(d q h).1;omega
theorem N9{P:List (Bh (n+1))}(f:aB (n+6) (cd n P) 7 (cd 1 fR)=true)(g:lU n P=0)(i:∀a nm cs d,s.get a=some (nm,cs,d)->(bE 13 cs=0/\aS 13 cs=true)/\∀t∈d,bE 13 t=0/\aS 13 t=true)(h:0<=s.last/\s.last<=90)(e:Int×Int×Int×Tc){x:Tm m}(b:aB m x 13 e.2.2.2=true\/e.1≠3):s.do n P 60 e.1 e.2.1 e.2.2.1 m x=Jp s e:=by
 rw[E5 f g Ju i h];rcases b with b|b
 ·by_cases c:e.1=3
  ·unfold Jp;rw[c];exact JT b s 60 e.2.1 e.2.2.1
  ·unfold Jp Sy.do;rw[if_neg c,if_neg c]
 ·unfold Jp Sy.do;rw[if_neg b,if_neg b]
theorem rZ{p:ke}{a:Nat}(b:bt p s d w)(k:fN a c d o w w')(g:B<=p.lo):Below B w w':=by
 refine⟨k.1.os,k.1.tape,k.1.output,k.1.size,λe h=>k.1.block e ?_ λf=>?_⟩
 ·have:=b.lo.1;omega
 ·have:=(b.low e f).1;omega
theorem M3(y:CQ w0 V f s i g W)(I:i<=100)(e:Int×Int×Int×Tc)(A:I2 (e.2.1,e.2.2.1))(x:Tm (m+1))(E:In f.heap.size f (m+1) x/\cr V (m+1) x)(z:(aC (m+1) x).length<=2097152)(C:aB (m+1) x 13 e.2.2.2=true\/e.1≠3):am 8 #[aH g,.agg #[ab e.1,ab e.2.1,ab e.2.2.1,ab x.1.1,ab x.1.2.1,af x.1.2.2,ae x.2.1.1 x.2.2.length x.2.1.2]] W λr w'=>r=.returned (ab (Jp s e).2)/\Hid (CQ w0 V f (Jp s e).1 (i+1) g w'):=by
 obtain⟨F,G,rfl,d,⟨o,p⟩,J,k,h,l⟩:=y;have q:=eX l (D:=V) (λb a n=>n a) E;have B:=N9 p d.pg.2.2.2.1 d.sound ⟨d.keys.2.2.2.1,d.keys.2.2.2.2.1⟩ e C;refine(d.do A x ⟨q.1,q.2.mono λc a=>?_⟩ z (by omega) (by omega) (by omega) (by omega)).mono ?_
 ·have:=(h c a).2;omega
 ·rintro r w' ⟨O,rfl,v⟩;obtain⟨t,w,u,j⟩:=v;rw[o,B]at t u;have H:=l.size;refine⟨by rw[t],F,w,rfl,u,⟨o,p⟩,?_,⟨k.1.trans (rZ d j k.2),k.2⟩,λc a=>⟨(h c a).1,?_⟩,l.trans j.1 λc _ a n=>?_⟩
  ·obtain⟨_,_,K,L,M,N⟩:=j;omega
  ·rw[j.2.1 c (by have:=(h c a).1;omega)];exact(h c a).2
  ·exact a (h c n).2
def wt:(n:Nat)->Tm n->Nat
 | 0,_=>1
 | n+1,x=>1+x.1.2.2.size+(x.2.2.map λy=>wt n y).sum
theorem rI:(n:Nat)->(x:Tm n)->(aC n x).length<=wt n x
 | 0,_=>by simp[aC,wt]
 | n+1,x=>by
  have key:∀l:List (Tm n),(l.flatMap λy=>aC n y).length<=(l.map λy=>wt n y).sum:=by
   intro l
   induction l with
   | nil=>simp
   | cons y l ih=>
    have:=rI n y;simp only[bK,bw,aU,bN];omega
  have:=key x.2.2;simp only[aC,wt,br];omega
theorem own:ownKnob Tryz.prog.godebug=none:=by kernel_rfl
theorem oV:laidOutB Tryz.prog=true:=by kernel_rfl
theorem kA:Tryz.prog.cellsOf 31=4:=by kernel_rfl
theorem rk:Tryz.prog.cellsOf 3=1:=by kernel_rfl
theorem lL:Tryz.prog.cellsOf 9=1:=by kernel_rfl
theorem C5:Tryz.prog.cellsOf 29=1:=by kernel_rfl
theorem zt{f:Type}{P:Nat->f->Prop}:(len:Nat)->(∀i,i<len->∃y,P i y)->∃l:List f,l.length=len/\∀i y,l[i]?=some y->P i y
 | 0,_=>⟨[],rfl,λi y b=>by simp at b⟩
 | len+1,b=>by
  obtain⟨l,j,k⟩:=zt len (λi d=>b i (by omega));obtain⟨e,m⟩:=b len (by omega);refine⟨l++ [e],by simp[j],λi y a=>?_⟩;by_cases d:i<l.length
  ·rw[dx d]at a;exact k i y a
  ·rw[eq (by omega)]at a;have c:i-l.length=0:=by
    by_cases c:i-l.length=0
    ·exact c
    ·rw[eN (by simp;omega)]at a;cases a
   rw[c]at a;have g:e=y:=by simpa using a
   have h:i=len:=by omega
   rw[h,<-g];exact m
theorem NG{H:Type}{n:Nat}:(p:List (Tm n))->(es:List (DataW H))->(∀(i:Nat)(y:Tm n)(e:DataW H),p[i]?=some y->es[i]?=some e->wt n y<=Rows.uptoBulk e)->p.length=es.length->(p.map λy=>wt n y).sum<=Rows.uptoBulkAll es
 | [],es,_,h=>by simp
 | y::p,[],_,h=>by simp at h
 | y::p,e::es,hp,h=>by
  have f:=hp 0 y e (by simp) (by simp);have g:=NG p es (λi d a c b=>hp (i+1) d a (by simpa using c) (by simpa using b)) (by simpa using h);simp only[aU,bN,Rows.uptoBulkAll];omega
theorem EO(b o i j:Nat):((⟨b,o,none⟩:Addr).add i).add j=⟨b,o+i+j,none⟩:=by
 unfold Addr.add;split<;>split<;>simp_all
theorem sQ{a:Addr}(c:w.cell? ((a.add 0).add 0)=some v):a=⟨a.block,a.off,none⟩:=by
 have d:(a.add 0).add 0=a:=rfl;rw[d]at c;unfold World.cell? at c;split at c
 ·split at c
  ·cases c
  ·rename_i e;cases a with
   | mk b o f=>cases f with
    | none=>rfl
    | some g=>simp at e
 ·cases c
theorem Am{k:Int}(a:(Lit.int .i64 k).wf=true):dC k:=by
 have: -9223372036854775808<=k/\k<=9223372036854775807:=by simpa [Lit.wf,IntKind.min,IntKind.max,IntKind.signed,IntKind.bits]using a
 exact this
theorem M7(enc:TypeId×av->H)(w:ag)(p:Nat->Bool):(n f:Nat)->f<=2*n+1->(cs:List av)->(x:DataW H×List MemPlace)-> DataW.trod enc Tryz.prog w 0 p true f 31 cs=some x-> ∃t:Tm (n+1),cs=[ab t.1.1,ab t.1.2.1,af t.1.2.2,ae t.2.1.1 t.2.2.length t.2.1.2]/\In w.heap.size w (n+1) t/\wt (n+1) t<=Rows.uptoBulk x.1:=by
 intro n
 induction n with
 | zero=>
  intro f ar cs x l;obtain⟨h,m,rfl,rfl,I,K,q⟩:=jl underlying31 l;have u:DataW.trod enc Tryz.prog w 0 p true m 3 ((cs.drop 0).take (Tryz.prog.cellsOf 3))=h[0]? :=q 0 _ rfl;obtain rfl:m=0:=by omega
  have aJ:h.length=4:=K;rw[aM (by omega)]at u;cases u
 | succ n ih=>
  intro f ar cs x l;obtain⟨h,m,rfl,rfl,I,K,q⟩:=jl underlying31 l;have u:DataW.trod enc Tryz.prog w 0 p true m 3 ((cs.drop 0).take (Tryz.prog.cellsOf 3))=h[0]? :=q 0 _ rfl;have R:DataW.trod enc Tryz.prog w 0 p true m 3 ((cs.drop 1).take (Tryz.prog.cellsOf 3))=h[1]? :=q 1 _ rfl;have S:DataW.trod enc Tryz.prog w 0 p true m 9 ((cs.drop 2).take (Tryz.prog.cellsOf 9))=h[2]? :=q 2 _ rfl;have T:DataW.trod enc Tryz.prog w 0 p true m 29 ((cs.drop 3).take (Tryz.prog.cellsOf 29))=h[3]? :=q 3 _ rfl;rw[rk]at u R;rw[lL]at S;rw[C5]at T;rw[kA]at I;obtain⟨d,i,j,e,rfl⟩:∃d i j e,cs=[d,i,j,e]:=by
   match cs,I with
   | [d,i,j,e],_=>exact⟨d,i,j,e,rfl⟩
  obtain⟨y0,y1,y2,y,rfl⟩:∃y0 y1 y2 y,h=[y0,y1,y2,y]:=by
   match h,K with
   | [y0,y1,y2,y],_=>exact⟨y0,y1,y2,y,rfl⟩
  obtain⟨k,O,aA,Y⟩:=jK underlying3 (x:=y0) (by simpa using u);obtain⟨X,P,aB,Z⟩:=jK underlying3 (x:=y1) (by simpa using R);obtain⟨r,Q,aC,aa⟩:=pt underlying9 (x:=y2) (by simpa using S);have ak:DataW.trod enc Tryz.prog w 0 p true m 29 [e]=some y:=by simpa using T
  simp at O P Q;subst O P Q aA aB aC;rcases DataW.trod_slice underlying29 ak with⟨s,rfl⟩|⟨a,len,cap,D,aN,az,rfl,s,rfl,_,aF,an,aE,E,_,_⟩
  ·simp at s;subst s;refine⟨((k,X,r),(none,0),[]),rfl,⟨⟨Am Y,Am Z,aa,ao _,aL _⟩,ai rfl⟩,?_⟩;have es:r.data.toList.length=r.size:=by rw[iz];rfl
   simp only[wt,Rows.uptoBulk,Rows.uptoBulkAll,aU,ci,gY];omega
  ·simp at s;subst s;simp only[kA]at E;have key:∀c,c<len->∃t:Tm (n+1),(∃b o,a=⟨b,o,none⟩/\b<w.heap.size/\dH w b (o+c*4) (n+1) t)/\In w.heap.size w (n+1) t/\∀g,(D.map (·.1))[c]?=some g->wt (n+1) t<=Rows.uptoBulk g:=by
    intro c aw;have V:=E c aw;have W:=E 0 (by omega);rw[aM (by omega)]at V W;obtain⟨ad,ap,ay⟩:=bC.1 V;obtain⟨ah,aq,aI⟩:=bC.1 W;obtain⟨_,aG,z⟩:=nj ap;obtain⟨_,aH,am⟩:=nj aq;obtain⟨t,rfl,G,F⟩:=ih az (by omega) ad _ ay;have U:=sQ (w:=w) (a:=a) (v:=ah[0]'(by omega)) (by have:=am 0 (by omega);rw[aM (by omega)]at this;simpa using this);have al:∀C,(a.add (c*4)).add C=⟨a.block,a.off+c*4+C,none⟩:=λC=>by
     have:=EO a.block a.off (c*4) C;rw[<-U]at this;exact this
    have d:=z 0 (by omega);have i:=z 1 (by omega);have j:=z 2 (by omega);have e:=z 3 (by omega);rw[al]at d i j e;simp at d i j e;refine⟨t,⟨a.block,a.off,U,fD w ⟨a.block,a.off+c*4,none⟩ d,d,i,j,e⟩,G,λg A=>?_⟩;rw[dy,aM (by omega)]at A;have:(D[c]).1=g:=by simpa using A
    rw[<-this];exact F
   obtain⟨M,B,J⟩:=zt len key;refine⟨((k,X,r),(some a,cap),M),by simp[B],⟨⟨Am Y,Am Z,aa,by simp only;omega,an⟩,?_⟩,?_⟩
   ·rcases Nat.eq_zero_or_pos len with l|l
    ·exact ai (bJ (B.trans l))
    ·obtain⟨⟨b,o,rfl,F,_⟩,_,_⟩:=J 0 (M[0]'(by rw[B];exact l)) (aM (by rw[B];exact l));refine aj ⟨b,o,rfl,F,λc N L=>?_⟩;obtain⟨⟨aD,aK,g,_,au⟩,G,_⟩:=J c N L;simp at g;obtain⟨rfl,rfl⟩:=g;exact⟨au,G⟩
   ·have ax:=NG M (D.map (·.1)) (λc N g L A=>(J c N L).2.2 g A) (by simp;omega);have es:r.data.toList.length=r.size:=by rw[iz];rfl
    simp only[wt,Rows.uptoBulk,Rows.uptoBulkAll,aU,ci]at ax ⊢;omega
def NE(n:Nat)(a:Ac n):Nat:=wt n a.2.1.1+wt n a.2.1.2+a.2.2.1.size+1
def NF(n:Nat)(c:Cl n):Nat:=wt n c.1.1+wt n c.1.2.1+wt n c.1.2.2+(c.2.2.map (NE n)).sum+1
def LC(n:Nat)(b:Bh n):Nat:=b.1.size+(b.2.2.map (NF n)).sum+1
theorem AK:Tryz.prog.cellsOf 248=11:=by kernel_rfl
theorem s9:Tryz.prog.cellsOf 162=13:=by kernel_rfl
theorem AL:Tryz.prog.cellsOf 151=2:=by kernel_rfl
theorem F7:Tryz.prog.cellsOf 160=1:=by kernel_rfl
theorem yR:Tryz.prog.cellsOf 149=1:=by kernel_rfl
theorem Fu{a H:Type}(g:a->Nat):(p:List a)->(es:List (DataW H))->(∀(i:Nat)(y:a)(e:DataW H),p[i]?=some y->es[i]?=some e->g y<=Rows.uptoBulk e)->p.length=es.length->(p.map g).sum<=Rows.uptoBulkAll es
 | [],es,_,h=>by simp
 | y::p,[],_,h=>by simp at h
 | y::p,e::es,hp,h=>by
  have j:=hp 0 y e (by simp) (by simp);have k:=Fu g p es (λi f b d c=>hp (i+1) f b (by simpa using d) (by simpa using c)) (by simpa using h);simp only[aU,bN,Rows.uptoBulkAll];omega
theorem vO(enc:TypeId×av->H)(w:ag)(L:Nat->Bool)(k:Nat)(f:e->List av)(r:e->Prop)(g:e->Nat)(T S:TypeId)(P:Tryz.prog.underlying S=some (.slice T))(ab:Tryz.prog.cellsOf T=k)(an:0<k)(K:∀y,(f y).length=k)(D:Nat)(O:∀(m:Nat)(cs:List av)(x:DataW H×List MemPlace),m<=D->DataW.trod enc Tryz.prog w 0 L true m T cs=some x->∃y,cs=f y/\r y/\g y<=Rows.uptoBulk x.1)(m:Nat)(au:m<=D)(v:av)(x:DataW H×List MemPlace)(n:DataW.trod enc Tryz.prog w 0 L true m S [v]=some x):∃a l c,v=ae a l.length c/\l.length<=c/\c<=maxLen/\qi w.heap.size w k f r a l/\(l.map g).sum+1<=Rows.uptoBulk x.1:=by
 rcases DataW.trod_slice P n with⟨d,rfl⟩|⟨a,len,cap,s,az,ah,rfl,d,rfl,_,ar,V,am,t,_,_⟩
 ·simp at d;subst d;exact⟨none,[],0,rfl,ao _,aL _,ai rfl,by simp[Rows.uptoBulk]⟩
 ·simp at d;subst d;simp only[ab]at t;have key:∀h,h<len->∃y:e,(∃b o,a=⟨b,o,none⟩/\b<w.heap.size/\∀(i:Nat)(j:av),(f y)[i]?=some j->w.cell? ⟨b,o+h*k+i,none⟩=some j)/\r y/\∀d,(s.map (·.1))[h]?=some d->g y<=Rows.uptoBulk d:=by
   intro h Z;have G:=t h Z;have I:=t 0 (by omega);rw[aM (by omega)]at G I;obtain⟨M,W,ad⟩:=bC.1 G;obtain⟨N,X,ax⟩:=bC.1 I;obtain⟨_,ap,R⟩:=nj W;obtain⟨_,aq,U⟩:=nj X;obtain⟨y,rfl,z,u⟩:=O ah M _ (by omega) ad;have E:=sQ (w:=w) (a:=a) (v:=N[0]'(by omega)) (by have:=U 0 (by omega);rw[aM (by omega)]at this;simpa using this);have Q:∀i,(a.add (h*k)).add i=⟨a.block,a.off+h*k+i,none⟩:=λi=>by
    have:=EO a.block a.off (h*k) i;rw[<-E]at this;exact this
   have F:∀(i:Nat)(j:av),(f y)[i]?=some j->w.cell? ⟨a.block,a.off+h*k+i,none⟩=some j:=λi j J=>by
    have aa:=(aX.1 J).1;have:=R i (by rw[K]at aa;omega);rw[Q,J]at this;exact this
   obtain⟨ak,af⟩:∃j,(f y)[0]?=some j:=⟨(f y)[0]'(by rw[K];omega),aM _⟩;refine⟨y,⟨a.block,a.off,E,fD w ⟨a.block,a.off+h*k+0,none⟩ (F 0 ak af),F⟩,z,λd p=>?_⟩;rw[dy,aM (by omega)]at p;have:(s[h]).1=d:=by simpa using p
   rw[<-this];exact u
  obtain⟨C,q,A⟩:=zt len key;refine⟨some a,C,cap,by rw[q],by omega,V,?_,?_⟩
  ·rcases Nat.eq_zero_or_pos len with n|n
   ·exact ai (bJ (q.trans n))
   ·obtain⟨⟨b,o,rfl,u,_⟩,_,_⟩:=A 0 (C[0]'(by rw[q];exact n)) (aM (by rw[q];exact n));refine aj ⟨b,o,rfl,u,λh y B=>?_⟩;obtain⟨⟨al,ay,d,_,Y⟩,z,_⟩:=A h y B;simp at d;obtain⟨rfl,rfl⟩:=d;exact⟨Y,z⟩
  ·have aw:=Fu g C (s.map (·.1)) (λh y d B p=>(A h y B).2.2 d p) (by simp;omega);simp only[Rows.uptoBulk];omega
theorem nK(enc:TypeId×av->H)(w:ag)(a:Nat->Bool)(n m:Nat)(f:m<=n)(cs:List av)(x:DataW H×List MemPlace)(b:DataW.trod enc Tryz.prog w 0 a true m 31 cs=some x):∃t:Tm (n+1),cs=iy (n+1) t/\In w.heap.size w (n+1) t/\wt (n+1) t<=Rows.uptoBulk x.1:=by
 obtain⟨t,c,d,e⟩:=M7 enc w a n m (by omega) cs x b;exact⟨t,c,d,e⟩
theorem N0(enc:TypeId×av->H)(w:ag)(b:Nat->Bool)(n m:Nat)(Y:m<=n)(cs:List av)(x:DataW H×List MemPlace)(M:DataW.trod enc Tryz.prog w 0 b true m 248 cs=some x):∃a:Ac (n+1),cs=gi (n+1) a/\iJ (n+1) w.heap.size w a/\NE (n+1) a<=Rows.uptoBulk x.1:=by
 obtain⟨c,m,rfl,rfl,G,N,o⟩:=jl underlying248 M;have B:DataW.trod enc Tryz.prog w 0 b true m 3 ((cs.drop 0).take (Tryz.prog.cellsOf 3))=c[0]? :=o 0 _ rfl;have C:DataW.trod enc Tryz.prog w 0 b true m 31 ((cs.drop 1).take (Tryz.prog.cellsOf 31))=c[1]? :=o 1 _ rfl;have D:DataW.trod enc Tryz.prog w 0 b true m 31 ((cs.drop 5).take (Tryz.prog.cellsOf 31))=c[2]? :=o 2 _ rfl;have E:DataW.trod enc Tryz.prog w 0 b true m 9 ((cs.drop 9).take (Tryz.prog.cellsOf 9))=c[3]? :=o 3 _ rfl;have F:DataW.trod enc Tryz.prog w 0 b true m 3 ((cs.drop 10).take (Tryz.prog.cellsOf 3))=c[4]? :=o 4 _ rfl;rw[rk]at B F;rw[kA]at C D;rw[lL]at E;rw[AK]at G;obtain⟨r,d,e,f,g,h,i,j,l,u,s,rfl⟩:∃r d e f g h i j l u s,cs=[r,d,e,f,g,h,i,j,l,u,s]:=by
  match cs,G with
  | [r,d,e,f,g,h,i,j,l,u,s],_=>exact⟨r,d,e,f,g,h,i,j,l,u,s,rfl⟩
 obtain⟨y0,y1,y2,p,q,rfl⟩:∃y0 y1 y2 p q,c=[y0,y1,y2,p,q]:=by
  match c,N with
  | [y0,y1,y2,p,q],_=>exact⟨y0,y1,y2,p,q,rfl⟩
 obtain⟨k,y,T,Q⟩:=jK underlying3 (x:=y0) (by simpa using B);obtain⟨J,A,V,S⟩:=jK underlying3 (x:=q) (by simpa using F);obtain⟨v,z,U,R⟩:=pt underlying9 (x:=p) (by simpa using E);obtain⟨t,K,O,W⟩:=nK enc w b n m (by omega) [d,e,f,g] y1 (by simpa using C);obtain⟨I,L,P,X⟩:=nK enc w b n m (by omega) [h,i,j,l] y2 (by simpa using D);simp at y z A;subst y z A T U V;refine⟨(k,(t,I),(v,J)),?_,⟨Am Q,O,P,R,Am S⟩,?_⟩
 ·show _=ab k::(iy (n+1) t++iy (n+1) I++ [af v,ab J]);rw[<-K,<-L];rfl
 ·have es:v.data.toList.length=v.size:=by rw[iz];rfl
  simp only[NE,Rows.uptoBulk,Rows.uptoBulkAll,aU,ci];omega
theorem Ga(enc:TypeId×av->H)(w:ag)(b:Nat->Bool)(n m:Nat)(F:m<=n)(cs:List av)(x:DataW H×List MemPlace)(z:DataW.trod enc Tryz.prog w 0 b true m 162 cs=some x):∃a:Cl (n+1),cs=fk (n+1) a/\ig (n+1) w.heap.size w a/\NF (n+1) a<=Rows.uptoBulk x.1:=by
 obtain⟨d,m,rfl,rfl,E,Q,y⟩:=jl underlying162 z;have A:DataW.trod enc Tryz.prog w 0 b true m 31 ((cs.drop 0).take (Tryz.prog.cellsOf 31))=d[0]? :=y 0 _ rfl;have B:DataW.trod enc Tryz.prog w 0 b true m 31 ((cs.drop 4).take (Tryz.prog.cellsOf 31))=d[1]? :=y 1 _ rfl;have C:DataW.trod enc Tryz.prog w 0 b true m 160 ((cs.drop 8).take (Tryz.prog.cellsOf 160))=d[2]? :=y 2 _ rfl;have D:DataW.trod enc Tryz.prog w 0 b true m 31 ((cs.drop 9).take (Tryz.prog.cellsOf 31))=d[3]? :=y 3 _ rfl;rw[kA]at A B D;rw[F7]at C;rw[s9]at E;obtain⟨e,f,j,k,o,p,q,r,s,u,g,h,i,rfl⟩:∃e f j k o p q r s u g h i,cs=[e,f,j,k,o,p,q,r,s,u,g,h,i]:=by
  match cs,E with
  | [e,f,j,k,o,p,q,r,s,u,g,h,i],_=>exact⟨e,f,j,k,o,p,q,r,s,u,g,h,i,rfl⟩
 obtain⟨y0,y1,y2,v,rfl⟩:∃y0 y1 y2 v,d=[y0,y1,y2,v]:=by
  match d,Q with
  | [y0,y1,y2,v],_=>exact⟨y0,y1,y2,v,rfl⟩
 obtain⟨t,J,R,U⟩:=nK enc w b n m (by omega) [e,f,j,k] y0 (by simpa using A);obtain⟨G,K,S,V⟩:=nK enc w b n m (by omega) [o,p,q,r] y1 (by simpa using B);obtain⟨I,M,T,W⟩:=nK enc w b n m (by omega) [u,g,h,i] v (by simpa using D);obtain⟨a,l,c,L,O,N,P,X⟩:=vO enc w b 11 (gi (n+1)) (iJ (n+1) w.heap.size w) (NE (n+1)) 248 160 underlying160 AK (by omega) (λ_=>rfl) n (λm cs x F z=>N0 enc w b n m F cs x z) m (by omega) s y2 (by simpa using C);subst L;refine⟨((t,G,I),(a,c),l),?_,⟨⟨R,S,T⟩,⟨O,N⟩,P⟩,?_⟩
 ·show _=iy (n+1) t++iy (n+1) G++(ae a l.length c::iy (n+1) I);rw[<-J,<-K,<-M];rfl
 ·simp only[NF,Rows.uptoBulk,Rows.uptoBulkAll,aU,ci];omega
theorem N4(enc:TypeId×av->H)(w:ag)(d:Nat->Bool)(n m:Nat)(q:m<=n)(cs:List av)(x:DataW H×List MemPlace)(g:DataW.trod enc Tryz.prog w 0 d true m 151 cs=some x):∃a:Bh (n+1),cs=pN (n+1) a/\pJ (n+1) w.heap.size w a/\LC (n+1) a<=Rows.uptoBulk x.1:=by
 obtain⟨f,m,rfl,rfl,p,v,o⟩:=jl underlying151 g;have j:DataW.trod enc Tryz.prog w 0 d true m 9 ((cs.drop 0).take (Tryz.prog.cellsOf 9))=f[0]? :=o 0 _ rfl;have k:DataW.trod enc Tryz.prog w 0 d true m 149 ((cs.drop 1).take (Tryz.prog.cellsOf 149))=f[1]? :=o 1 _ rfl;rw[lL]at j;rw[yR]at k;rw[AL]at p;obtain⟨e,b,rfl⟩:∃e b,cs=[e,b]:=by
  match cs,p with
  | [e,b],_=>exact⟨e,b,rfl⟩
 obtain⟨y0,y1,rfl⟩:∃y0 y1,f=[y0,y1]:=by
  match f,v with
  | [y0,y1],_=>exact⟨y0,y1,rfl⟩
 obtain⟨h,i,z,y⟩:=pt underlying9 (x:=y0) (by simpa using j);obtain⟨a,l,c,r,t,s,u,A⟩:=vO enc w d 13 (fk (n+1)) (ig (n+1) w.heap.size w) (NF (n+1)) 162 149 underlying149 s9 (by omega) (λ_=>rfl) n (λm cs x q g=>Ga enc w d n m q cs x g) m (by omega) b y1 (by simpa using k);simp at i;subst i z r;refine⟨(h,(a,c),l),rfl,⟨y,⟨t,s⟩,u⟩,?_⟩;have es:h.data.toList.length=h.size:=by rw[iz];rfl
 simp only[LC,Rows.uptoBulk,Rows.uptoBulkAll,aU,ci];omega
theorem G8{enc:TypeId×av->H}{d:DataW H}(u:Value.okWide Tryz.prog W r g 22 v)(b:DataW.Trod enc Tryz.prog W 0 (λ_=>true) true 22 v d p):∃n,∃l:List (Bh (n+1)),∃a c,v=ae a l.length c/\l.length<=c/\c<=maxLen/\gq (n+1) W.heap.size W a l/\(l.map (LC (n+1))).sum<=Rows.uptoBulk d:=by
 obtain⟨a,len,cap,rfl⟩:=okWide_slice underlying22 u;obtain⟨f,q⟩:=b;have s:DataW.trod enc Tryz.prog W 0 (λ_=>true) true f 22 [ae a len cap]=some (d,p):=q;obtain⟨e,l,c,i,j,k,m,o⟩:=vO enc W (λ_=>true) 2 (pN (f+1)) (pJ (f+1) W.heap.size W) (LC (f+1)) 151 22 underlying22 AL (by omega) (λ_=>rfl) f (λw h x t b=>N4 enc W _ f w t h x b) f (ao _) _ _ s;exact⟨f,l,e,c,i,j,k,m,by simp only at o;omega⟩
abbrev Sk(n:Nat):Type:=ap×Tm (n+1)
def Pk(n:Nat)(c:Sk n):List av:=af c.1::iy (n+1) c.2
def Nk(n:Nat)(c:Sk n):Nat:=wt (n+1) c.2+1
def IX(n:Nat)(B:Nat)(w:ag)(c:Sk n):Prop:=c.1.size<=maxLen/\In B w (n+1) c.2
abbrev Hn(n:Nat):Type:=(Int×Int×Int)×Tm (n+1)
def Px(n:Nat)(c:Hn n):List av:=ab c.1.1::ab c.1.2.1::ab c.1.2.2::iy (n+1) c.2
def Nj(n:Nat)(c:Hn n):Nat:=wt (n+1) c.2+1
def FN(n:Nat)(B:Nat)(w:ag)(c:Hn n):Prop:=(dC c.1.1/\dC c.1.2.1/\dC c.1.2.2)/\In B w (n+1) c.2
theorem uF:Tryz.prog.cellsOf 64=5:=by kernel_rfl
theorem rj:Tryz.prog.cellsOf 33=7:=by kernel_rfl
theorem KT(enc:TypeId×av->H)(w:ag)(g:Nat->Bool)(n m:Nat)(A:m<=n)(cs:List av)(x:DataW H×List MemPlace)(r:DataW.trod enc Tryz.prog w 0 g true m 64 cs=some x):∃a:Sk n,cs=Pk n a/\IX n w.heap.size w a/\Nk n a<=Rows.uptoBulk x.1:=by
 obtain⟨h,m,rfl,rfl,o,s,l⟩:=jl underlying64 r;have j:DataW.trod enc Tryz.prog w 0 g true m 9 ((cs.drop 0).take (Tryz.prog.cellsOf 9))=h[0]? :=l 0 _ rfl;have k:DataW.trod enc Tryz.prog w 0 g true m 31 ((cs.drop 1).take (Tryz.prog.cellsOf 31))=h[1]? :=l 1 _ rfl;rw[lL]at j;rw[kA]at k;rw[uF]at o;obtain⟨f,b,c,d,e,rfl⟩:∃f b c d e,cs=[f,b,c,d,e]:=by
  match cs,o with
  | [f,b,c,d,e],_=>exact⟨f,b,c,d,e,rfl⟩
 obtain⟨y0,y1,rfl⟩:∃y0 y1,h=[y0,y1]:=by
  match h,s with
  | [y0,y1],_=>exact⟨y0,y1,rfl⟩
 obtain⟨p,i,y,v⟩:=pt underlying9 (x:=y0) (by simpa using j);obtain⟨t,q,u,z⟩:=nK enc w g n m (by omega) [b,c,d,e] y1 (by simpa using k);simp at i;subst i y;refine⟨(p,t),?_,⟨v,u⟩,?_⟩
 ·show _=af p::iy (n+1) t;rw[<-q]
 ·simp only[Nk,Rows.uptoBulk,Rows.uptoBulkAll,aU,ci];omega
theorem Dq(enc:TypeId×av->H)(w:ag)(c:Nat->Bool)(n m:Nat)(N:m<=n)(cs:List av)(x:DataW H×List MemPlace)(C:DataW.trod enc Tryz.prog w 0 c true m 33 cs=some x):∃a:Hn n,cs=Px n a/\FN n w.heap.size w a/\Nj n a<=Rows.uptoBulk x.1:=by
 obtain⟨d,m,rfl,rfl,A,D,p⟩:=jl underlying33 C;have u:DataW.trod enc Tryz.prog w 0 c true m 3 ((cs.drop 0).take (Tryz.prog.cellsOf 3))=d[0]? :=p 0 _ rfl;have v:DataW.trod enc Tryz.prog w 0 c true m 3 ((cs.drop 1).take (Tryz.prog.cellsOf 3))=d[1]? :=p 1 _ rfl;have y:DataW.trod enc Tryz.prog w 0 c true m 3 ((cs.drop 2).take (Tryz.prog.cellsOf 3))=d[2]? :=p 2 _ rfl;have z:DataW.trod enc Tryz.prog w 0 c true m 31 ((cs.drop 3).take (Tryz.prog.cellsOf 31))=d[3]? :=p 3 _ rfl;rw[rk]at u v y;rw[kA]at z;rw[rj]at A;obtain⟨j,l,o,e,f,g,h,rfl⟩:∃j l o e f g h,cs=[j,l,o,e,f,g,h]:=by
  match cs,A with
  | [j,l,o,e,f,g,h],_=>exact⟨j,l,o,e,f,g,h,rfl⟩
 obtain⟨y0,y1,y2,i,rfl⟩:∃y0 y1 y2 i,d=[y0,y1,y2,i]:=by
  match d,D with
  | [y0,y1,y2,i],_=>exact⟨y0,y1,y2,i,rfl⟩
 obtain⟨k,q,J,F⟩:=jK underlying3 (x:=y0) (by simpa using u);obtain⟨a,r,K,G⟩:=jK underlying3 (x:=y1) (by simpa using v);obtain⟨b,s,L,I⟩:=jK underlying3 (x:=y2) (by simpa using y);obtain⟨t,B,E,M⟩:=nK enc w c n m (by omega) [e,f,g,h] i (by simpa using z);simp at q r s;subst q r s J K L;refine⟨((k,a,b),t),?_,⟨⟨Am F,Am G,Am I⟩,E⟩,?_⟩
 ·show _=ab k::ab a::ab b::iy (n+1) t;rw[<-B]
 ·simp only[Nj,Rows.uptoBulk,Rows.uptoBulkAll,aU,ci];omega
theorem BO{enc:TypeId×av->H}{d:DataW H}(u:Value.okWide Tryz.prog W r g 23 v)(b:DataW.Trod enc Tryz.prog W 0 (λ_=>true) true 23 v d p):∃n,∃l:List (Sk n),∃a c,v=ae a l.length c/\l.length<=c/\c<=maxLen/\qi W.heap.size W 5 (Pk n) (IX n W.heap.size W) a l/\(l.map (Nk n)).sum<=Rows.uptoBulk d:=by
 obtain⟨a,len,cap,rfl⟩:=okWide_slice underlying23 u;obtain⟨f,q⟩:=b;have s:DataW.trod enc Tryz.prog W 0 (λ_=>true) true f 23 [ae a len cap]=some (d,p):=q;obtain⟨e,l,c,i,j,k,m,o⟩:=vO enc W (λ_=>true) 5 (Pk f) (IX f W.heap.size W) (Nk f) 64 23 underlying23 uF (by omega) (λ_=>rfl) f (λw h x t b=>KT enc W _ f w t h x b) f (ao _) _ _ s;exact⟨f,l,e,c,i,j,k,m,by simp only at o;omega⟩
theorem zD{enc:TypeId×av->H}{d:DataW H}(u:Value.okWide Tryz.prog W r g 24 v)(b:DataW.Trod enc Tryz.prog W 0 (λ_=>true) true 24 v d p):∃n,∃l:List (Hn n),∃a c,v=ae a l.length c/\l.length<=c/\c<=maxLen/\qi W.heap.size W 7 (Px n) (FN n W.heap.size W) a l/\(l.map (Nj n)).sum<=Rows.uptoBulk d:=by
 obtain⟨a,len,cap,rfl⟩:=okWide_slice underlying24 u;obtain⟨f,q⟩:=b;have s:DataW.trod enc Tryz.prog W 0 (λ_=>true) true f 24 [ae a len cap]=some (d,p):=q;obtain⟨e,l,c,i,j,k,m,o⟩:=vO enc W (λ_=>true) 7 (Px f) (FN f W.heap.size W) (Nj f) 33 24 underlying24 rj (by omega) (λ_=>rfl) f (λw h x t b=>Dq enc W _ f w t h x b) f (ao _) _ _ s;exact⟨f,l,e,c,i,j,k,m,by simp only at o;omega⟩
theorem BR(f:e->Nat)(l:List e)(y:e)(a:y∈l):f y<=(l.map f).sum:=by
 induction l with
 | nil=>cases a
 | cons b l ih=>
  simp only[aU,bN];rcases cv.1 a with rfl|a
  ·omega
  ·have:=ih a;omega
theorem vH{b:Type}(f:b->Nat)(a:∀y,1<=f y):(l:List b)->l.length<=(l.map f).sum
 | []=>aL _
 | y::l=>by
  have:=vH f a l;have:=a y;simp only[aU,bN,br];omega
theorem DD{f:e->List av}{d:e->Prop}{l:List e}(b:qi B w k f d a l){j:Nat}{y:e}(c:l[j]?=some y):∃g o,a=some ⟨g,o,none⟩/\g<B/\(∀(t:Nat)(u:av),(f y)[t]?=some u->w.cell? ⟨g,o+j*k+t,none⟩=some u)/\d y:=by
 rcases b with b|⟨g,o,h,i,b⟩
 ·rw[b]at c;simp at c
 ·exact⟨g,o,h,i,(b j y c).1,(b j y c).2⟩
theorem JN(l:List e)(c:e):∃a:Nat->e,∀j,j<l.length->l[j]?=some (a j):=⟨λj=>l.getD j c,λj b=>by
 simp only[mW,aM b]
 rfl⟩
section
variable (n:Nat) (l:List (Bh (n+1))) (room:Int)
def yM{m:Nat}(a:List (Sk m)):Sy:=a.foldl (λs c=>(s.start n l room c.1 (m+1) c.2).1) M1
def qj(B:Nat)(i:Nat)(p:ke)(s:Sy)(d:fY)(W:ag):Prop:=bt p s d W/\(p.room=room/\aB (p.n+6) (cd p.n p.prog) (n+6) (cd n l)=true)/\pK s/\(d.k<=i*402/\d.es.length<=i*201/\d.wn<=i*201/\d.bn<=i*201)/\B<=p.lo
def iQ(w0:ag)(R:aR)(H:Nat->Obj)(e f sa g:Nat)(s t:Sy)(W:ag):Prop:=∃(pa d:ke)(a c:fY),(pa.b=sa/\d.b=g)/\qj n l room w0.heap.size e pa s a W/\qj n l room w0.heap.size f d t c W/\(∀q,a.ow q≠0->c.ow q=0)/\(ak w0 W/\lU n l=0)/\∀q,R q->W.heap[q]?=some (H q)/\a.ow q=0/\c.ow q=0
end
theorem bt.nobody{p:ke}(b:bt p s d w){q:Nat}(c:w.heap.size<=q):d.ow q=0:=by
 by_cases a:d.ow q=0
 ·exact a
 ·have:=(b.low q a).2;omega
section
variable {n:Nat} {l:List (Bh (n+1))} {room:Int} {w0 W:ag} {R:aR} {H:Nat->Obj} {ia ib sa sb:Nat} {s t:Sy}
theorem qj.later{B i:Nat}{p:ke}{d:fY}{a:ag}(b:qj n l room B i p s d W)(c:ak W a):qj n l room B i p s d a:=⟨b.1.later c,b.2⟩
theorem qj.do_eq{B i:Nat}{p:ke}{d:fY}(c:qj n l room B i p s d W)(e:lU n l=0)(kd a b:Int)(k:Nat)(x:Tm k):s.do p.n p.prog p.room kd a b k x=s.do n l room kd a b k x:=by
 rw[c.2.1.1];exact E5 c.2.1.2 c.1.pg.2.2.2.1 e c.1.sound ⟨c.1.keys.2.2.2.1,c.1.keys.2.2.2.2.1⟩ room kd a b k x
theorem iQ.swap(i:iQ n l room w0 R H ia ib sa sb s t W):iQ n l room w0 R H ib ia sb sa t s W:=by
 obtain⟨pa,p,d,f,⟨g,h⟩,j,k,m,o,c⟩:=i;refine⟨p,pa,f,d,⟨h,g⟩,k,j,λa b=>?_,o,λa b=>⟨(c a b).1,(c a b).2.2,(c a b).2.1⟩⟩;by_cases e:d.ow a=0
 ·exact e
 ·exact absurd (m a e) b
theorem iQ.later(j:iQ n l room w0 R H ia ib sa sb s t W){f:ag}(a:ak W f):iQ n l room w0 R H ia ib sa sb s t f:=by
 obtain⟨pa,p,g,h,i,k,m,o,c,d⟩:=j;exact⟨pa,p,g,h,i,k.later a,m.later a,o,⟨c.1.trans (a.mono c.1.size),c.2⟩,λb e=>⟨(a.block b (aJ.1 (d b e).1).1).trans (d b e).1,(d b e).2⟩⟩
theorem iQ.below(a:iQ n l room w0 R H ia ib sa sb s t W):ak w0 W:=by
 obtain⟨_,_,_,_,_,_,_,_,a,_⟩:=a;exact a.1
theorem iQ.less(f:iQ n l room w0 R H ia ib sa sb s t W){R':aR}(j:∀q,R' q->R q){ja jb:Nat}(o:ia<=ja/\ib<=jb):iQ n l room w0 R' H ja jb sa sb s t W:=by
 obtain⟨pa,k,c,d,e,a,b,g,h,i⟩:=f;exact⟨pa,k,c,d,e,⟨a.1,a.2.1,a.2.2.1,by have:=a.2.2.2.1;omega,a.2.2.2.2⟩,⟨b.1,b.2.1,b.2.2.1,by have:=b.2.2.2.1;omega,b.2.2.2.2⟩,g,h,λq m=>i q (j q m)⟩
theorem iQ.box(i:iQ n l room w0 (λ_=>False) H ia ib sa sb s t W){a:ag}(c:ak W a){o:Obj}(k:a.heap[W.heap.size]?=some o):iQ n l room w0 (λq=>q=W.heap.size) (λ_=>o) ia ib sa sb s t a:=by
 obtain⟨pa,m,f,g,h,d,e,j,b,_⟩:=i;refine⟨pa,m,f,g,h,d.later c,e.later c,j,⟨b.1.trans (c.mono b.1.size),b.2⟩,λq p=>?_⟩;subst p;exact⟨k,d.1.nobody (ao _),e.1.nobody (ao _)⟩
theorem FI{pa k:ke}{h e m:fY}{r:Sy}{g:ag}{a c:Nat}(f:qj n l room w0.heap.size ia pa s h W)(o:qj n l room w0.heap.size ib k t e W)(u:∀q,h.ow q≠0->e.ow q=0)(v:ak w0 W/\lU n l=0)(A:∀q,R q->W.heap[q]?=some (H q)/\h.ow q=0/\e.ow q=0)(E:bt pa r m g)(p:fN a c h m W g){j:Nat}(M:ia*402+c<=j*402/\ia*201+a<=j*201)(C:pK r):iQ n l room w0 R H j ib pa.b k.b r t g:=by
 have B:=rZ f.1 p f.2.2.2.2;obtain⟨I,J,K,L⟩:=f.2.2.2.1;have z:bt k t e g:=o.1.kept p.1 λq d=>u q d;obtain⟨D,w,N,O,P,Q⟩:=p;refine⟨pa,k,m,e,⟨rfl,rfl⟩,⟨E,f.2.1,C,by omega,f.2.2.2.2⟩,⟨z,o.2⟩,λq d=>?_,⟨v.1.trans B,v.2⟩,λq d=>?_⟩
 ·by_cases i:q<W.heap.size
  ·rw[w q i]at d;exact u q d
  ·exact o.1.nobody (by omega)
 ·obtain⟨x,y,G⟩:=A q d;have i:=(aJ.1 x).1;exact⟨(D.block q i λF=>F y).trans x,(w q i).trans y,G⟩
theorem iQ.doA(k:iQ n l room w0 R H ia ib sa sb s t W)(D:ia<=110){m:Nat}(c:Hn m)(g:FN m w0.heap.size w0 c)(r:(aC (m+1) c.2).length<=2097152):am 8 #[aH sa,.agg #[ab c.1.1,ab c.1.2.1,ab c.1.2.2,ab c.2.1.1,ab c.2.1.2.1,af c.2.1.2.2,ae c.2.2.1.1 c.2.2.2.length c.2.2.1.2]] W λe w'=>e=.returned (ab (s.do n l room c.1.1 c.1.2.1 c.1.2.2 (m+1) c.2).2)/\Hid (iQ n l room w0 R H (ia+1) ib sa sb (s.do n l room c.1.1 c.1.2.1 c.1.2.2 (m+1) c.2).1 t w'):=by
 obtain⟨pa,G,B,C,⟨rfl,rfl⟩,d,o,p,f,q⟩:=k;have i:=g.2.below f.1;have E:=d.2.2.2.2;have F:=f.1.size;obtain⟨w,x,y,z⟩:=d.2.2.2.1;refine(d.1.do (kd:=c.1.1) (a:=c.1.2.1) (b:=c.1.2.2) ⟨g.1.2.1,g.1.2.2⟩ c.2 ⟨i.mono f.1.size,(In.offBelow i).mono λv J K=>?_⟩ r (by omega) (by omega) (by omega) (by omega)).mono ?_
 ·have:=(d.1.low v (by omega)).1;omega
 ·rintro e w' ⟨I,rfl,H⟩;obtain⟨h,A,j,u⟩:=H;rw[d.do_eq f.2]at h j;exact⟨by rw[h],FI d o p f q j u (by omega) (d.2.2.1.do _ _ _ _ _)⟩
end
theorem Cs(n:Nat)(l:List (Bh (n+1)))(F:aw)(z:Nat)(room:Int)(A:Nat)(f:List (Sk A))(sa:aw)(sc:Nat)(w W:ag)(Y:gq (n+1) W.heap.size W F l)(Z:l.length<=z)(ad:z<=maxLen)(X:kF (n+1) l=true->(aC (n+6) (cd n l)).length<=2097152)(af:qi w.heap.size w 5 (Pk A) (IX A w.heap.size w) sa f)(ah:∀c∈f,(aC (A+1) c.2).length<=2097152)(ax:f.length<=1048576)(M:ak w W):am 6 #[ae F l.length z,ab room,ae sa f.length sc] W λe w'=>(e=.returned (.pointer none)/\Hid ((lE n l room≠0\/4<f.length)/\ak W w'))\/∃j,e=.returned (aH j)/\Hid (¬(lE n l room≠0\/4<f.length)/\ak W w'/\∃p d,p.b=j/\qj n l room W.heap.size 4 p (yM n l room f) d w'):=by
 obtain⟨i,J⟩:=JN f (⟨#[]⟩,((0,0,⟨#[]⟩),(none,0),[]));have aa:(maxLen:Nat)=9223372036854775807:=rfl;have al:=M.size;have v:∀{W:ag}{m o:Nat}{g:av},ak w W->m<w.heap.size->w.cell? ⟨m,o,none⟩=some g->W.cell? ⟨m,o,none⟩=some g:=λ{W m o g} k r t=>(k.cell (p:=⟨m,o,none⟩) r).trans t;refine(C0 F l.length z room sa f.length sc (λa=>(i a).1) (λa=>(i a).2.1.2.2) (λa=>(i a).2.1.1) (λa=>(i a).2.1.2.1) (λa=>(i a).2.2.1.1) (λa=>(i a).2.2.2.length) (λa=>(i a).2.2.1.2) W (λg G h=>NX n l room W g G h) (λj a h=>(f.length<=4/\lE n l room=0)/\ak W h/\∃p d,p.b=j/\qj n l room W.heap.size a p (yM n l room (f.take a)) d h) (λg h=>(g=.pointer none/\(lE n l room≠0\/4<f.length)/\ak W h)\/∃j,g=aH j/\¬(lE n l room≠0\/4<f.length)/\ak W h/\∃p d,p.b=j/\qj n l room W.heap.size 4 p (yM n l room f) d h) (by omega) (Cj n l F z room W Y Z ad X) (λg G h s P=>?_) (λg h s B=>?_) (λj a h K I=>?_) λj h I=>?_).mono ?_
 ·exact ai ⟨rfl,by rw[s.1]at P;exact P,s.2.1⟩
 ·obtain⟨p,d,rfl,Q,⟨ao,R,ap,ay⟩,aq,az,aA,ar⟩:=s.2.2.2 rfl;exact⟨p.b,rfl,⟨B,s.1.symm⟩,s.2.1,p,d,rfl,Q,⟨aq,ar⟩,λ_ t=>(by cases t),⟨by omega,by rw[R];exact aL _,by omega,by omega⟩,by omega⟩
 ·obtain⟨B,k,p,d,rfl,x,y,E,an,D⟩:=I;obtain⟨m,o,V,r,u,L⟩:=DD af (J a K);have q:=M.trans (k.mono al);refine⟨m,o,⟨V,v q r (u 0 _ rfl),v q r (u 1 _ rfl),v q r (u 2 _ rfl),v q r (u 3 _ rfl),v q r (u 4 _ rfl)⟩,λau C=>?_⟩;have N:=q.trans (C.mono q.size);refine((x.later C).start (i a).1 (aD L.1 (dF aa)) (i a).2 ((L.2.below N).mono N.size) (ah _ (aN (J a K))) (by omega) (by omega)).mono ?_;rintro e w' ⟨g,G,rfl,H⟩;obtain⟨_,U,S,T⟩:=H.out;have O:yM n l room (f.take (a+1))=((yM n l room (f.take a)).start p.n p.prog p.room (i a).1 (A+1) (i a).2).1:=by
   rw[y.1,vY y.2];unfold yM;rw[dz,J a K,Option.toList_some,jo];rfl
  rw[<-O]at S;refine⟨g,G,rfl,B,(k.trans (C.mono k.size)).trans (rZ (x.later C) T D),p,U,rfl,S,y,?_,by obtain⟨_,_,Q,ao,R,ap⟩:=T;omega,D⟩;rw[O];exact E.start _ _ _
 ·obtain⟨B,k,p,d,rfl,x,y,E,an,D⟩:=I;rw[List.take_length]at x E;exact aj ⟨_,rfl,by omega,k,p,d,rfl,x,y,E,by omega,D⟩
 ·rintro e w' ⟨g,rfl,H⟩;rcases H with⟨rfl,k⟩|⟨j,rfl,t⟩
  ·exact ai ⟨rfl,k⟩
  ·exact aj ⟨j,rfl,t⟩
theorem Lb{l:List (Bh (n+1))}{pa e:ke}{d:fY}(H:Nat->Obj)(q:lU n l=0)(h:qj n l room w0.heap.size i pa s o W)(a:qj n l room W.heap.size i e t d f)(j:ak w0 W)(m:ak W f):iQ n l room w0 (λ_=>False) H i i pa.b e.b s t f:=by
 have k:=j.size;refine⟨pa,e,o,d,⟨rfl,rfl⟩,h.later m,⟨a.1,a.2.1,a.2.2.1,a.2.2.2.1,aD k a.2.2.2.2⟩,λc g=>?_,⟨j.trans (m.mono k),q⟩,λc g=>g.elim⟩;by_cases p:d.ow c=0
 ·exact p
 ·have r:=(a.1.low c p).1;have u:=(h.1.low c g).2;have v:=a.2.2.2.2;omega
theorem wa(h:Nat)(f:Option Nat)(a:Int)(g:av)(b:Bool)(w:ag)(P:ag->Prop)(c:Hid (w.cell? ⟨h,3,none⟩=some (.map f)))(d:Hid ((Instr.lookup 67 (.map f) (ab a) true).run Tryz.prog w=.ok (.tuple #[g,.bool b]) w))(k:Hid (b=true->am 23 #[g] w λe w'=>e=.returned (.tuple #[])/\Hid (P w')))(j:Hid (b=false->P w)):am 7 #[aH h,ab a] w λe w'=>e=.returned (.tuple #[])/\Hid (P w'):=by
 have m:=d.out;have l:=c.out;clear d c;go_enter func7,ntmps7;cases b with
 | true=>
  go_wp2_with fail;refine(k (by simp)).mono ?_;rintro e n ⟨rfl,i⟩;go_wp2_with fail;exact dn (v:=.tuple #[]) (by simp[results]) rfl ⟨rfl,i⟩
 | false=>
  go_wp2_with fail;exact dn (v:=.tuple #[]) (by simp[results]) rfl ⟨rfl,j (by simp)⟩
theorem P1.tidyE(m:P1 g h name room cs j k M w)(r:k<=50000)(o:j.length<=999)(D:g<=w.heap.size):am 23 #[aH h] w λe w'=>e=.returned (.tuple #[])/\Hid (bZ M w w'/\P1 g h name room cs j k (mM M w w') w'):=by
 obtain⟨l,v,t,I,u,G,H,E,F,A,n,⟨rfl,rfl⟩,a,p⟩:=m;refine(n.tidy (N:=12) r (by simpa using o) a).mono ?_;rintro e w' ⟨rfl,z,x,y,s,B,q,i⟩;obtain⟨c,C⟩:=i;refine⟨rfl,c,l,v,t,z,u,x,y,s,_,_,q.inside (N:=12),⟨rfl,rfl⟩,aD a c.size,λb d=>⟨?_,d.2⟩⟩;rcases d.1 with f|f
 ·exact(p b f).1
 ·omega
theorem bt.tidy{p:ke}(c:bt p s d w)(a:Int)(A:d.k<=47000):am 7 #[aH p.b,ab a] w λe w'=>e=.returned (.tuple #[])/\Hid (∃i,bt p s i w'/\fN 0 0 d i w w'):=by
 have f:=c.look a true;rw[if_pos rfl]at f;cases hp:cZ d.l a with
 | none=>
  rw[hp]at f;exact wa p.b d.po a _ false w _ c.cells.2.2.2 f (λh=>by cases h) λ_=>⟨d,c,(dX.later d (aq _ _)).un⟩
 | some v=>
  rw[hp]at f;obtain⟨B,z,y,j,q,r⟩:=c.ps a v hp;refine wa p.b d.po a _ true w _ c.cells.2.2.2 f (λ_=>?_) λh=>by cases h
  refine(q.tidyE (by omega) (by omega) c.lo.1).mono ?_;rintro e w' ⟨rfl,o⟩;obtain⟨g,u⟩:=o;have t:bB (λm=>d.ow m=a) w w':=⟨g.os,g.tape,g.output,g.size,g.block⟩;obtain⟨n,x⟩:=c.turnP hp j t (λm h=>h.1) (ao d.k) u r;rw[rR c.keys.2.1 j]at n;exact⟨rfl,_,n,x.mono (ao _) (by omega)⟩
theorem iQ.tidyA{l:List (Bh (n+1))}{R:aR}{H:Nat->Obj}{sa c:Nat}(d:iQ n l room w0 R H g h sa c s t W)(y:g<=110)(a:Int):am 7 #[aH sa,ab a] W λe w'=>e=.returned (.tuple #[])/\Hid (iQ n l room w0 R H g h sa c s t w'):=by
 obtain⟨pa,z,w,x,⟨rfl,rfl⟩,b,f,i,j,k⟩:=d;obtain⟨p,q,r,u⟩:=b.2.2.2.1;refine(b.1.tidy a (by omega)).mono ?_;rintro e w' ⟨rfl,H⟩;obtain⟨v,m,o⟩:=H;exact⟨rfl,FI b f i j k m o (by omega) b.2.2.1⟩
end Go.Proofs.YtmmahddlcldmiaaGreat
