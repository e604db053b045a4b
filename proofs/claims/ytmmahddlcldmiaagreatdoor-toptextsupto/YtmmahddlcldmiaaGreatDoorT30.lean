/- Proved here: plain facts and contracts. No condition but what each names. -/
import Derived.Test.YtmmahddlcldmiaaGreatDoorT29
import Derived.Deep.RegionWith
import Derived.Deep.CutBlock
import Derived.Lib.ItoaNum
import Derived.Lib.AppendIntMem
import Derived.Lib.ItoaLen
namespace Go.Proofs.YtmmahddlcldmiaaGreatDoor
open Go.RowKit Go.Proofs.Tryz
set_option maxRecDepth 100000
set_option maxHeartbeats 8000000
def ut(base:Nat)(a:Option Addr)(d:List (ByteArray×Int×Int×Tc))(w:World):Prop:=
 (d=[]\/∃c,a=some ⟨c,0,none⟩/\base<=c/\c<w.heap.size/\∀e b,d[e]?=some b->∀(t:Nat)(f:Value),(I7 b)[t]?=some f->w.cell? ⟨c,e*7+t,none⟩=some f)/\∀b∈d,(In w.heap.size w 13 b.2.2.2/\cd (λg=>base<=g) 13 b.2.2.2)/\wH b.2.2.2
def EO(a:Option Addr)(L c:Nat):Prop:=(a=none/\L=0/\c=0)\/((∃g,a=some ⟨g,0,none⟩)/\L<=c)
def LV(e:ByteArray×Int×Int×Tc):ByteArray×Int×Int×Tc:=(e.1,e.2.1,e.2.2.1,cn 13 e.2.2.2)
theorem ut.kee{base:Nat}{a:Option Addr}{j:List (ByteArray×Int×Int×Tc)}{w w':World}(e:ut base a j w){S:Nat->Prop}(i:br S w w')(l:∀q,base<=q->q<w.heap.size->¬S q):ut base a j w':=by
 refine⟨?_,λb d=>?_⟩
 ·rcases e.1 with c|⟨g,c,k,h,m⟩
  ·exact ah c
  ·refine ai ⟨g,c,k,aR h i.size,λo b d t p n=>?_⟩;rw[<-m o b d t p n];simp only[World.cell?,i.block g h (l g k h)]
 ·have c:=eP i (D:=λq=>base<=q/\q<w.heap.size) (λq f=>l q f.1 f.2) ⟨(e.2 b d).1.1,In.offB (e.2 b d).1.2 (e.2 b d).1.1⟩;exact⟨⟨c.1,c.2.mono λq f=>f.1⟩,(e.2 b d).2⟩
theorem Gi(xa:Option Addr)(xc:Nat)(w:World):Pf 0 0 ⟨#[]⟩ xa 0 xc tz w:=λW h=>by
 refine(sj 12 0 0 ⟨#[]⟩ xa 0 xc [] W (by decide) λw1 c=>?_).mono ?_
 ·refine(lC xa xc w1).mono ?_;rintro e w' ⟨rfl,rfl⟩;exact⟨none,0,[],rfl,ap _ _,rfl,ak _,aI _,rfl,ah rfl⟩
 ·rintro e w' ⟨a,b,l,rfl,H⟩;obtain⟨c,d,g,f,_⟩:=H;obtain rfl:l=[]:=bF d;exact⟨0,0,⟨#[]⟩,a,0,b,rfl,c,((0,0,⟨#[]⟩),(a,b),[]),⟨rfl,rfl,rfl⟩,⟨⟨⟨show dt 0 by unfold dt;decide,show dt 0 by unfold dt;decide,show (0:Nat)<=maxLen from aI _,aI _,f⟩,ah rfl⟩,ah rfl⟩,rfl,ai ⟨rfl,rfl⟩⟩
theorem Ou{x:Tc}{w:World}(d:In w.heap.size w 13 x)(a:wH x):Pf x.1.1 x.1.2.1 x.1.2.2 x.2.1.1 x.2.2.length x.2.1.2 (cn 13 x) w:=by
 rcases a with a|⟨b,c⟩
 ·exact kp d a
 ·obtain⟨⟨g,h,i⟩,⟨e,f⟩,j⟩:=x;simp only[eG]at b c;obtain⟨rfl,rfl,rfl⟩:=b;subst c;exact Gi e f w
theorem MA(l:List (ByteArray×Int×Int×Tc)):∀b∈l.flatMap I7,b.oneCell'=true:=λb c=>by
 obtain⟨e,_,a⟩:=jG.1 c;simp only[I7,ch,gw,gC]at a;rcases a with rfl|rfl|rfl|rfl|rfl|rfl|rfl<;>rfl
section
variable {p:kQ} {s:Sy} {d:fY} {w:World}
theorem bj.eventsF(B:bj p s d w)(a6:d.es.length<=100000):am 37 #[aB p.b,ab 0] w λe w'=>∃a c,e=.returned (ae a d.es.length c)/\Hid (aj w w'/\EO a d.es.length c/\∃an,an.length=d.es.length/\an.map LV=s.evs/\ut w.heap.size a an w'):=by
 obtain⟨H,D,av,aU,ay⟩:∃H D,d.ev=ae H d.es.length D/\d.es.length<=D/\(H=none/\d.es.length=0/\D=0\/∃g,H=some ⟨g,0,none⟩):=by
  rcases B.evr.1.2 with⟨e,Q⟩|⟨g,c,aq,e,_,_,k,_⟩
  ·exact⟨none,0,by rw[e,Q],by omega,ah ⟨rfl,Q,rfl⟩⟩
  ·exact⟨_,c,e,k,ai ⟨g,rfl⟩⟩
 obtain⟨q,R⟩:∃q:Nat->ByteArray×Int×Int×Tc,∀h,h<d.es.length->d.es[h]?=some (q h):=⟨λh=>d.es.getD h (⟨#[]⟩,0,0,tz),λh C=>by
  simp only[mO,aG C]
  rfl⟩
 have aV:∀j,aj w j->∀h,h<d.es.length->In j.heap.size j 13 (q h).2.2.2/\wH (q h).2.2.2:=λj z h C=>by
  have:=(B.later z).evt.2 _ (aH (R h C));exact⟨this.1.1,this.2⟩
 have X:=B.evr.1;rw[av]at X;have aF:w.cell? ⟨p.b,6,none⟩=some (ae H d.es.length D):=by
  have E:=ag B.box 6;simp only[dW,cP,cZ]at E;rw[av]at E;exact E
 refine(JY p.b H d.es.length D (λh=>(q h).2.2.2.1.1) (λh=>(q h).2.2.2.1.2.1) (λh=>(q h).2.2.2.1.2.2) (λh=>(q h).2.2.2.2.1.1) (λh=>(q h).2.2.2.2.2.length) (λh=>(q h).2.2.2.2.1.2) w
  (λa c h j=>aj w j/\EO a d.es.length c/\(d.es.length=0\/∃(g:Nat)(f:Nat->ByteArray×Int×Int×Tc),a=some ⟨g,0,none⟩/\(w.heap.size<=g/\g<j.heap.size)/\(∀o,j.frozen? ⟨g,o,none⟩=false)/\(∀i,i<d.es.length->∀(t:Nat)(n:Value),(I7 (f i))[t]?=some n->j.cell? ⟨g,i*7+t,none⟩=some n)/\(∀i,i<h->(LV (f i)=LV (q i)/\wH (f i).2.2.2)/\In j.heap.size j 13 (f i).2.2.2/\cd (λr=>w.heap.size<=r/\r≠g) 13 (f i).2.2.2)/\∀i,h<=i->i<d.es.length->f i=q i)) B.lo.2 (by omega) aU ay aF (λj z=>?_) (λa c h j C L=>?_)).mono ?_
 ·rcases ay with⟨rfl,Q,rfl⟩|⟨g,rfl⟩
  ·rw[Q];refine(AV 0 j).mono ?_;rintro e w' ⟨rfl,rfl⟩;exact⟨none,0,rfl,ap _ _,z,ah ⟨rfl,rfl,rfl⟩,ah rfl⟩
  ·have x:=X.lt g rfl;refine(AW (d.es.flatMap I7) g d.es.length D j X.1 (MA _) (by omega) λbd A h n m=>?_).mono ?_
   ·have E:=World.ownsRow.cells X (g:=g) rfl h n m;have aK:=z.trans (A.mono z.size);exact(aK.cell (p:=(⟨g,0,none⟩:Addr).add h) (by simp only[Addr.add];split<;>exact x.2)).trans E
   ·rintro e w' ⟨bc,rfl,I⟩;obtain⟨y,F⟩:=I.out;obtain⟨a,c,aI,ar,au⟩:=rE F (by decide) λP=>rfl;subst aI;have N:EO a d.es.length c:=by
     rcases F.2 with⟨v,Y⟩|⟨J,a4,aq,v,_,_,Y,_⟩
     ·injection v with v aA aC;exact ah ⟨v,Y,aC⟩
     ·injection v with v aA aC;exact ai ⟨⟨J,v⟩,by omega⟩
    refine⟨a,c,rfl,y,z.trans (y.mono z.size),N,?_⟩;by_cases K:d.es.length=0
    ·exact ah K
    ·obtain⟨J,v,Y,aA⟩:=au 0 _ (R 0 (by omega));obtain⟨aq,aL⟩:=ei F J (ar _ v);have a7:=z.size;refine ai ⟨J,q,v,⟨by have:=(F.lt J (ar _ v)).1;omega,Y⟩,λo=>by simp[World.frozen?,aL],λi l t n m=>?_,λi l=>by omega,λ_ _ _=>rfl⟩;obtain⟨a5,G,bb,a1⟩:=au i _ (R i l);rw[v]at G;injection G with G;injection G with G;subst G;exact a1 t n m
 ·obtain⟨A,N,L⟩:=L;rcases L with K|⟨g,f,rfl,x,az,T,S,M⟩
  ·omega
  have aM:=M h (ak _) C;have k:=T h C;rw[aM]at k;refine⟨g,rfl,k 3 _ rfl,k 4 _ rfl,k 5 _ rfl,k 6 _ rfl,?_⟩;obtain⟨a2,a3⟩:=aV j A h C;refine(Ou a2 a3 j (ap _ _)).mono ?_;rintro e w' ⟨y0,y1,y2,ya,yl,yc,rfl,I⟩;obtain⟨y,aD,⟨f1,f2,f3⟩,⟨F,aY⟩,aZ,a0⟩:=I.out;have u:∀{o:Nat}{n:Value},j.cell? ⟨g,o,none⟩=some n->w'.cell? ⟨g,o,none⟩=some n:=λ{o n} r=>(y.cell (p:=⟨g,o,none⟩) x.2).trans r;have O:∀o,w'.frozen? ⟨g,o,none⟩=false:=λo=>(y.frozen (p:=⟨g,o,none⟩) x.2).trans (az o);refine⟨y0,y1,y2,ya,yl,yc,rfl,⟨O _,O _,O _,O _⟩,⟨u (k 3 _ rfl),u (k 4 _ rfl),u (k 5 _ rfl),u (k 6 _ rfl)⟩,?_⟩;have aP:=og w' g (h*7+3) (ab y0) (ab y1) (af y2) (ae ya yl yc);have ba:=bq (w:=w') (g:=g) (o:=h*7+3) (ab y0) (ab y1) (af y2) (ae ya yl yc);have V:=xV (ab y0) (ab y1) (af y2) (ae ya yl yc) ⟨u (k 3 _ rfl),u (k 4 _ rfl),u (k 5 _ rfl),u (k 6 _ rfl)⟩;have U:=λo (aR:o<h*7+3\/h*7+3+4<=o)=>BX (w:=w') (g:=g) (v0:=ab y0) (v1:=ab y1) (v2:=af y2) (v3:=ae ya yl yc) o aR;have aN:=λo=>(tj (w:=w') (g:=g) (o:=h*7+3) (v0:=ab y0) (v1:=ab y1) (v2:=af y2) (v3:=ae ya yl yc) o).trans (O o);have aS:aj w (cW w' g (h*7+3) (ab y0) (ab y1) (af y2) (ae ya yl yc)):=dM (A.trans (y.mono A.size)) x.1;generalize cW w' g (h*7+3) (ab y0) (ab y1) (af y2) (ae ya yl yc)=ao at*;have a8:=y.size;have a9:=A.size;have ax:∀{Z:Tc},In w'.heap.size w' 13 Z->cd (λr=>w.heap.size<=r/\r≠g) 13 Z->In ao.heap.size ao 13 Z/\cd (λr=>w.heap.size<=r/\r≠g) 13 Z:=λaW aX=>eP aP (λr P aE=>P.2 aE) ⟨aW,aX⟩;refine⟨aS,N,ai ⟨g,λi=>if i=h then ((q h).1,(q h).2.1,(q h).2.2.1,aD)else f i,rfl,⟨x.1,by omega⟩,aN,λi l t n m=>?_,λi l=>?_,λi E aJ=>?_⟩⟩
  ·have aT:t<7:=by
     have:=(aO.1 m).1;simpa [I7]using this
   by_cases e:i=h
   ·subst e;simp only[cF]at m;obtain⟨⟨be,bf,aE⟩,⟨bg,bh⟩,bi⟩:=aD;simp only[eG]at f1 f2;obtain⟨rfl,rfl,rfl⟩:=f1;obtain⟨rfl,rfl⟩:=f2;subst f3
    match t,aT with
    | 0,_=>exact(U _ (by omega)).trans (u (k 0 n m))
    | 1,_=>exact(U _ (by omega)).trans (u (k 1 n m))
    | 2,_=>exact(U _ (by omega)).trans (u (k 2 n m))
    | 3,_=>exact V.1.trans m
    | 4,_=>exact V.2.1.trans m
    | 5,_=>exact V.2.2.1.trans m
    | 6,_=>exact V.2.2.2.trans m
   ·simp only[if_neg e]at m;exact(U _ (by omega)).trans (u (T i l t n m))
  ·by_cases e:i=h
   ·simp only[e,cF];have:=ax F (aY.mono λr P=>⟨by omega,by omega⟩);refine⟨⟨?_,a0⟩,this.1,this.2⟩;unfold LV;rw[aZ]
   ·simp only[if_neg e];obtain⟨aa,ad,al⟩:=S i (by omega);have:=ax ((ad.below y).mono y.size) al;exact⟨aa,this.1,this.2⟩
  ·simp only[if_neg (show¬i=h by omega)];exact M i (by omega) aJ
 ·rintro e w' ⟨a,c,rfl,I⟩;obtain⟨A,N,L⟩:=I;refine⟨a,c,rfl,A,N,?_⟩;rcases L with K|⟨g,f,rfl,x,az,T,S,M⟩
  ·have aQ:d.es=[]:=bF K;refine⟨[],by rw[K];rfl,?_,ah rfl,λe M=>by cases M⟩;rw[<-B.evt.1,aQ];rfl
  ·refine⟨(List.range d.es.length).map f,by simp,?_,ai ⟨g,rfl,x.1,x.2,λi e l t n m=>?_⟩,λe l=>?_⟩
   ·rw[<-B.evt.1];refine List.ext_getElem? λi=>?_;by_cases l:i<d.es.length
    ·rw[dn,dn,dn,List.getElem?_range l,R i l];exact congrArg some (S i l).1.1
    ·rw[eD (by simpa using Nat.le_of_not_lt l),eD (by simpa using Nat.le_of_not_lt l)]
   ·have W:i<d.es.length:=by
      have:=(aO.1 l).1;simpa using this
    rw[dn,List.getElem?_range W]at l;obtain rfl:=aw l;exact T i W t n m
   ·obtain⟨i,W,rfl⟩:=cC.1 l;obtain⟨aa,ad,al⟩:=S i (List.mem_range.1 W);exact⟨⟨ad,al.mono λr P=>P.1⟩,aa.2⟩
theorem bj.events(h:bj p s d w)(i:d.es.length<=100000):am 12 #[aB p.b] w λe w'=>∃a c,e=.returned (ae a d.es.length c)/\Hid (aj w w'/\EO a d.es.length c/\∃f,f.length=d.es.length/\f.map LV=s.evs/\ut w.heap.size a f w'):=by
 have g:=aq (h.eventsF i);clear h i;generalize d.es.length=k at*;go_enter func12,ntmps12;go_wp2_with fail;refine g.mono ?_;rintro e l ⟨a,c,rfl,j⟩;clear g;go_wp2_with fail
 go_ret
 exact⟨a,c,rfl,j⟩
end
theorem Hb(a v h l i m:Int)(nm s1 n:ByteArray)(b c:Option Addr)(j d k f:Nat)(w:World)(o:Hid (∀W,aj w W->am 36 #[.agg #[ab h,ab l,af s1,ae b j d],.agg #[ab i,ab m,af n,ae c k f]] W λe w'=>e=.returned (.bool true)/\aj W w')):am 35 #[.agg #[af nm,ab a,ab v,ab h,ab l,af s1,ae b j d],.agg #[af nm,ab a,ab v,ab i,ab m,af n,ae c k f]] w λe w'=>e=.returned (.bool true)/\aj w w':=by
 have q:(a==a)=true:=by simp
 have r:(v==v)=true:=by simp
 have s:(nm.toList==nm.toList)=true:=by simp
 go_enter func35,ntmps35;go_wp2_with fail;refine(o _ (((ap _ _).alloc (ak _) _).alloc (by simp) _)).mono ?_;rintro e p ⟨rfl,g⟩;have HB:Hid (aj w p):=(((ap _ _).alloc (ak _) _).alloc (by simp) _).trans (g.mono (by simp;omega));clear g;go_wp2_with fail
 go_ret
 exact⟨rfl,HB⟩
theorem JW(a b:Option Addr)(c d:Nat)(len:Nat)(w:World)(V:len<=9223372036854775807)(O:Hid (∀j,j<len->∃(g h:Nat)(l v r x s y:Int)(nm s1 z:ByteArray)(m n:Option Addr)(t o u p:Nat),(a=some ⟨g,0,none⟩/\b=some ⟨h,0,none⟩/\g<w.heap.size/\h<w.heap.size)/\Hid ((w.cell? ⟨g,j*7,none⟩=some (af nm)/\w.cell? ⟨g,j*7+1,none⟩=some (ab l)/\w.cell? ⟨g,j*7+2,none⟩=some (ab v)/\w.cell? ⟨g,j*7+3,none⟩=some (ab r)/\w.cell? ⟨g,j*7+4,none⟩=some (ab x)/\w.cell? ⟨g,j*7+5,none⟩=some (af s1)/\w.cell? ⟨g,j*7+6,none⟩=some (ae m t o))/\w.cell? ⟨h,j*7,none⟩=some (af nm)/\w.cell? ⟨h,j*7+1,none⟩=some (ab l)/\w.cell? ⟨h,j*7+2,none⟩=some (ab v)/\w.cell? ⟨h,j*7+3,none⟩=some (ab s)/\w.cell? ⟨h,j*7+4,none⟩=some (ab y)/\w.cell? ⟨h,j*7+5,none⟩=some (af z)/\w.cell? ⟨h,j*7+6,none⟩=some (ae n u p))/\Hid (∀W,aj w W->am 35 #[.agg #[af nm,ab l,ab v,ab r,ab x,af s1,ae m t o],.agg #[af nm,ab l,ab v,ab s,ab y,af z,ae n u p]] W λe w'=>e=.returned (.bool true)/\aj W w'))):am 34 #[ae a len c,ae b len d,.func (Fn.func 35) #[] #[]] w λe w'=>e=.returned (.bool true)/\aj w w':=by
 go_enter func34,ntmps34;go_wp2_with fail;go_loopw [17] (λq wr=>∃j:Nat,j<=len/\q=ab j/\Hid (aj w wr)) (λq _=>len-(intOf q).toNat)
 case atStart=>exact⟨0,aI _,rfl,ap _ _⟩
 case round=>
  obtain⟨j,U,rfl,HB⟩:=hrel;by_cases Q:j<len
  ·obtain⟨g,h,l,v,r,x,s,y,nm,s1,z,m,n,t,o,u,p,⟨rfl,rfl,i,k⟩,B,P⟩:=O j Q;obtain⟨⟨C,D,E,F,G,H,I⟩,y0,y1,y2,J,K,L,M⟩:=B.out;have f:=ar HB;replace C:=(f _ _ i).trans C;replace y0:=(f _ _ k).trans y0;replace D:=(f _ _ i).trans D;replace y1:=(f _ _ k).trans y1;replace E:=(f _ _ i).trans E;replace y2:=(f _ _ k).trans y2;replace F:=(f _ _ i).trans F;replace J:=(f _ _ k).trans J;replace G:=(f _ _ i).trans G;replace K:=(f _ _ k).trans K;replace H:=(f _ _ i).trans H;replace L:=(f _ _ k).trans L;replace I:=(f _ _ i).trans I;replace M:=(f _ _ k).trans M;clear f B;have S:g<wr.heap.size:=by have:=HB.size;omega
   have T:h<wr.heap.size:=by have:=HB.size;omega
   have X:(0:Int)<=(j:Int):=by omega
   have Y:(j:Int)<(len:Int):=by omega
   go_wp2_with fail;refine(P _ (HB.trans (((((ap _ _).alloc (ak _) _).alloc (by simp) _)).mono HB.size))).mono ?_;rintro e R ⟨rfl,A⟩;have N:Hid (aj w R):=(HB.trans ((((ap _ _).alloc (ak _) _).alloc (by simp) _).mono HB.size)).trans (A.mono (by have:=HB.size;simp;omega));clear A;go_wp2_with fail;go_roundw
   case rel=>exact⟨j+1,by omega,by go_num,N⟩
   case measure=>simp[intOf];omega
  ·obtain rfl:j=len:=by omega
   go_wp2_with fail
   go_ret
   exact⟨rfl,HB⟩
theorem MB{x y:Tc}(g:wH x)(a:wH y)(b:cn 13 x=cn 13 y):ay 13 x 13 y=true:=by
 have j:∀{f:Tc},f.1=(0,0,⟨#[]⟩)->f.2.2=[]->cn 13 f=tz:=λ{f} c h=>by
  obtain⟨⟨m,d,e⟩,⟨n,o⟩,p⟩:=f;simp only[eG]at c h;obtain⟨rfl,rfl,rfl⟩:=c;subst h;rfl
 have i:¬bv 13 tz=0:=by
  intro k;have l:aD ⟨13,tz⟩:=aL.2 (bC.1 k).1;have:=l _ mQ;simp[cg,tz]at this
 rcases g with g|⟨d,e⟩
 ·rcases a with a|⟨y1,y2⟩
  ·have c:=dJ _ _ _ _ (eO g);rw[b]at c;exact bH _ _ _ _ _ _ c (eO a)
  ·rw[j y1 y2]at b;exact absurd (b▸nV g) i
 ·rcases a with a|⟨y1,y2⟩
  ·rw[j d e]at b;exact absurd (b▸nV a) i
  ·obtain⟨⟨m,d,e⟩,⟨n,o⟩,p⟩:=x;obtain⟨⟨q,r,s⟩,⟨t,u⟩,v⟩:=y;simp only at d e y1 y2;subst e y2;exact cV (by rw[d,y1]) rfl
theorem Eb(base B:Nat)(a b:Option Addr)(c d len:Nat)(m n:List (ByteArray×Int×Int×Tc))(w:World)(r:ut base a m w)(s:ut B b n w)(N:len<=m.length/\n.length=len)(K:len<=9223372036854775807)(u:(m.map LV).take len=n.map LV):am 11 #[ae a len c,ae b len d] w λe w'=>e=.returned (.bool true)/\aj w w':=by
 have t:Hid (am 34 #[ae a len c,ae b len d,.func (Fn.func 35) #[] #[]] w λe w'=>e=.returned (.bool true)/\aj w w'):=by
  refine JW a b c d len w K λj M=>?_;obtain⟨e,h⟩:∃e,m[j]?=some e:=⟨_,aG (by omega)⟩;obtain⟨f,i⟩:∃e,n[j]?=some e:=⟨_,aG (by omega)⟩;have q:LV e=LV f:=by
   have v:=congrArg (λl=>l[j]?) u;simp only[jh,if_pos M,dn,h,i,mX]at v;exact aw v
  unfold LV at q;simp only[eG]at q;obtain⟨T,U,V,W⟩:=q;rcases r.1 with o|⟨I,C,_,E,G⟩
  ·rw[o]at h;simp at h
  rcases s.1 with o|⟨J,D,_,F,H⟩
  ·rw[o]at i;simp at i
  have k:=G j e h;have g:=H j f i;obtain⟨⟨P,X⟩,R⟩:=r.2 e (aH h);obtain⟨⟨Q,Y⟩,S⟩:=s.2 f (aH i);have O:=MB R S W;refine⟨I,J,e.2.1,e.2.2.1,e.2.2.2.1.1,e.2.2.2.1.2.1,f.2.2.2.1.1,f.2.2.2.1.2.1,e.1,e.2.2.2.1.2.2,f.2.2.2.1.2.2,e.2.2.2.2.1.1,f.2.2.2.2.1.1,e.2.2.2.2.2.length,e.2.2.2.2.1.2,f.2.2.2.2.2.length,f.2.2.2.2.1.2,⟨C,D,E,F⟩,⟨⟨k 0 _ rfl,k 1 _ rfl,k 2 _ rfl,k 3 _ rfl,k 4 _ rfl,k 5 _ rfl,k 6 _ rfl⟩,?_,?_,?_,g 3 _ rfl,g 4 _ rfl,g 5 _ rfl,g 6 _ rfl⟩,λz x=>?_⟩
  ·rw[T];exact g 0 _ rfl
  ·rw[U];exact g 1 _ rfl
  ·rw[V];exact g 2 _ rfl
  ·refine Hb _ _ _ _ _ _ _ _ _ _ _ _ _ _ _ z λA L=>?_;have p:=x.trans (L.mono x.size);have:=K5 13 e.2.2.2 13 f.2.2.2 w.heap.size A (P.below p) (Q.below p) p.size;rw[O]at this;exact this
 clear r s N u;go_enter func11,ntmps11;go_wp2_with fail;refine t.mono ?_;rintro e Z ⟨rfl,y⟩;have HB:=aq y;clear y t;go_wp2_with fail
 go_ret
 exact⟨rfl,HB⟩
theorem Cn(b:Nat)(name:ByteArray)(w:World)(d:w.cell? ⟨b,0,none⟩=some (af name))(c:Hid (∀w1:World,am 55 #[af name] w1 λe w'=>e=.returned (af name)/\aj w1 w')):am 42 #[aB b] w λe w'=>e=.returned (af name)/\aj w w':=by
 go_enter func42,ntmps42;go_wp2_with fail;refine(c _).mono ?_;rintro e w1 ⟨rfl,a⟩;have HB:=aq a;clear a;go_wp2_with fail
 go_ret
 exact⟨rfl,HB⟩
theorem P1.sname{b a:Nat}{name:ByteArray}{room:Int}{cs:Tc}{c:List Tc}{k:Nat}{M:Nat->Prop}{w:World}(d:P1 b a name room cs c k M w)(h:name.size<=2048):am 42 #[aB a] w λe w'=>e=.returned (af name)/\aj w w':=by
 obtain⟨l,s,p,x,r,t,v,n,o,j,f,_⟩:=d;obtain⟨u,m,q,g,_⟩:=f.heap.box;exact Cn a name w (PL.cells g).1 λi=>dR name i h
theorem P1.mails2{v u:Nat}{name:ByteArray}{room:Int}{cs:Tc}{g:List Tc}{k:Nat}{M:Nat->Prop}{w:World}(C:P1 v u name room cs g k M w)(I:k<=50000)(D:g.length<=999):am 44 #[aB u] w λe w'=>∃(ys:List Tc)(a:Option Addr)(c:Nat),e=.returned (ae a g.length c)/\Hid (ys.length=g.length/\aj w w'/\fC w'.heap.size w' 13 ys a/\ys.map (cn 13)=g/\(∀b,(Value.slice a g.length c).ownBlock=some b->w.heap.size<=b)/\∀y∈ys,bv 13 y=0/\cd (λq=>w.heap.size<=q) 13 y):=by
 obtain⟨Q,Y,l,ab,X,Z,aa,V,W,O,s,⟨rfl,rfl⟩,T,U⟩:=C;have G:∀y∈l,bv 13 y=0:=λy d=>((s.front (N:=12)).2.2.1 y (bX _ d)).1;have S:l.length<=999:=by simpa using D
 refine(s.mails (N:=12) I (by omega)).mono ?_;rintro e w' ⟨ys,z,a,c,rfl,x⟩;obtain⟨t,j,p⟩:=x;have E:z=(l.map (cn 13)).length:=by
  rw[<-t,eE];exact cE _ _ _ p
 subst E;obtain⟨P,R,m,_,n,_⟩:=fi.lay (dX 13) (f:=il 13) (λ_=>rfl) j;injection m with m _ _;subst m;refine⟨ys,a,c,rfl,t,j.1,?_,Qb ys l p,λb F=>(j.2.1.lt b F).1,λy d=>⟨?_,(j.2.2 y d).2.mono λq J=>by rcases J.1 with r|r<;>omega⟩⟩
 ·rcases n with n|⟨B,o,A,H,h⟩
  ·exact ah n
  ·exact ai ⟨B,o,A,H,λi y d=>⟨⟨(h i y d).1 0 _ rfl,(h i y d).1 1 _ rfl,(h i y d).1 2 _ rfl,(h i y d).1 3 _ rfl⟩,(h i y d).2⟩⟩
 ·obtain⟨r,L,K⟩:=sL _ _ _ p y d;exact(bJ K).trans (G r L)
section
variable {p:kQ} {s:Sy} {d:fY} {w:World}
end
theorem Eu(s:ByteArray)(r:s=⟨#[40,99,111,100,101,32,40,98,101,104,32,99,111,117,110,116,32,40,111,110,32,36,48,32,40,117,112,32,36,49,41,32,40,41,32,40,97,100,100,32,36,48,32,36,49,41,41,32,40,111,110,32,36,48,32,40,97,115,107,32,36,49,41,32,40,40,115,101,110,100,32,36,49,32,40,104,97,118,101,32,36,48,41,41,41,32,36,48,41,32,40,111,110,32,95,32,102,111,114,107,32,40,40,115,112,97,119,110,32,99,111,117,110,116,32,48,32,36,48,41,32,40,108,105,110,107,32,36,48,41,32,40,115,101,110,100,32,36,48,32,40,117,112,32,55,41,41,41,32,49,41,32,40,111,110,32,95,32,115,116,111,112,32,40,40,115,116,111,112,41,41,32,48,41,32,40,111,110,32,95,32,98,97,100,32,40,41,32,40,97,100,100,32,97,32,97,41,41,41,41]⟩)(w:World)(o:Int->Int->ByteArray->Option Addr->Nat->Nat->World->Prop)(i:Option Addr->Nat->Nat->World->Prop)(m:Hid (am 7 #[af s] w λe w'=>∃y0 y1 y2 ya yl yc,e=.returned (.tuple #[.agg #[ab y0,ab y1,af y2,ae ya yl yc],ab 0,ab 0])/\Hid (o y0 y1 y2 ya yl yc w')))(k:Hid (∀y0 y1 y2 ya yl yc W n,o y0 y1 y2 ya yl yc W->aj W n->am 8 #[.agg #[ab y0,ab y1,af y2,ae ya yl yc]] n λe w'=>∃a l c,e=.returned (.tuple #[ae a l c,ab 0])/\Hid (i a l c w'))):am 14 #[] w λe w'=>∃a l c,e=.returned (ae a l c)/\Hid (i a l c w'):=by
 subst r;go_enter func14,ntmps14;go_wp2_with fail;refine m.mono ?_;rintro e h ⟨y0,y1,y2,ya,yl,yc,rfl,j⟩;clear m;go_upto_region 2 with fail;generalize g:h.alloc _=b;have q:=aq (k _ _ _ _ _ _ _ b j (by rw[<-g];exact(ap _ _).alloc (ak _) _));have d:b.heap[h.heap.size]?=some (.cells #[ab y0,ab y1,af y2,ae ya yl yc] 28):=by
  rw[<-g];exact aE _ _
 generalize h.heap.size=f at*;have t:b.cell? ⟨f,0,none⟩=some (ab y0):=ag d 0;have u:b.cell? ⟨f,1,none⟩=some (ab y1):=ag d 1;have v:b.cell? ⟨f,2,none⟩=some (af y2):=ag d 2;have x:b.cell? ⟨f,3,none⟩=some (ae ya yl yc):=ag d 3;clear g d k j;go_wp2_with fail;refine q.mono ?_;rintro e y ⟨a,l,c,rfl,p⟩;go_wp2_with fail
 go_ret
 exact⟨a,l,c,rfl,p⟩
theorem IF(p:Int)(s:ByteArray)(w:World)(u:Int->Int->ByteArray->Option Addr->Nat->Nat->World->Prop)(C:Hid (∀W,aj w W->w.heap.size<W.heap.size->am 7 #[af s] W λe w'=>∃y0 y1 y2 ya yl yc,e=.returned (.tuple #[.agg #[ab y0,ab y1,af y2,ae ya yl yc],ab 0,ab 0])/\Hid (aj W w'/\∀j,br (λq=>q=w.heap.size) w' j->u y0 y1 y2 ya yl yc j))):am 17 #[ab p,af s] w λe w'=>∃y0 y1 y2 ya yl yc,e=.returned (.agg #[ab 3,ab p,ab 0,ab y0,ab y1,af y2,ae ya yl yc])/\Hid (u y0 y1 y2 ya yl yc w'/\aj w w'):=by
 go_enter func17,ntmps17;go_upto_region 1 with fail;generalize A:w.alloc _=r;have n:aj w r:=by rw[<-A];exact(ap _ _).alloc (ak _) _
 have y:r.heap[w.heap.size]?=some (.cells #[ab 0,ab 0,ab 0,ab 0,ab 0,af .empty,ae none 0 0] 41):=by
  rw[<-A];exact aE _ _
 have z:=(aF.1 y).1;have D:=aq (C r n z);clear A C;go_wp2_with fail;refine D.mono ?_;rintro e g ⟨y0,y1,y2,ya,yl,yc,rfl,h⟩;clear D;go_upto_region 2 with fail;generalize B:g.alloc _=d;have i:aj g d:=by rw[<-B];exact(ap _ _).alloc (ak _) _
 have l:d.heap[g.heap.size]?=some (.cells #[ab y0,ab y1,af y2,ae ya yl yc] 28):=by
  rw[<-B];exact aE _ _
 have F:=h.1.size;have f:=(i.block w.heap.size (by omega)).trans ((h.1.block w.heap.size z).trans y);have N:w.heap.size≠g.heap.size:=by omega
 have HB:=aq (⟨n.trans ((h.1.trans (i.mono F)).mono n.size),h,aJ i _⟩:aj w d/\Hid (aj r g/\∀j,br (λq=>q=w.heap.size) g j->u y0 y1 y2 ya yl yc j)/\br (λq=>q=w.heap.size) g d);generalize O:w.heap.size=a at*;generalize g.heap.size=q at*;have I:d.cell? ⟨q,0,none⟩=some (ab y0):=ag l 0;have J:d.cell? ⟨q,1,none⟩=some (ab y1):=ag l 1;have K:d.cell? ⟨q,2,none⟩=some (af y2):=ag l 2;have L:d.cell? ⟨q,3,none⟩=some (ae ya yl yc):=ag l 3;have d0:d.cell? ⟨a,0,none⟩=some (ab 0):=ag f 0;have d1:d.cell? ⟨a,1,none⟩=some (ab 0):=ag f 1;have d2:d.cell? ⟨a,2,none⟩=some (ab 0):=ag f 2;have d3:d.cell? ⟨a,3,none⟩=some (ab 0):=ag f 3;have d4:d.cell? ⟨a,4,none⟩=some (ab 0):=ag f 4;have d5:d.cell? ⟨a,5,none⟩=some (af .empty):=ag f 5;have d6:d.cell? ⟨a,6,none⟩=some (ae none 0 0):=ag f 6;have M:∀k,d.frozen? ⟨a,k,none⟩=false:=λk=>by simp[World.frozen?,f]
 clear B i l f h y z F n;go_wp2_with fail;obtain⟨o,h,i⟩:=HB;have x:br (λb=>b=a) d (((((((d.setCell ⟨a,0,none⟩ (ab 3)).setCell ⟨a,1,none⟩ (ab p)).setCell ⟨a,2,none⟩ (ab 0)).setCell ⟨a,3,none⟩ (ab y0)).setCell ⟨a,4,none⟩ (ab y1)).setCell ⟨a,5,none⟩ (af y2)).setCell ⟨a,6,none⟩ (ae ya yl yc)):=by
  have t:∀{E b c:World},br (λq=>q=a) E b->br (λq=>q=a) b c->br (λq=>q=a) E c:=λG k=>G.trans k λ_ _ m=>m;exact t (t (t (t (t (t (bD _ _ _ _) (bD _ _ _ _)) (bD _ _ _ _)) (bD _ _ _ _)) (bD _ _ _ _)) (bD _ _ _ _)) (bD _ _ _ _)
 refine av (v:=.agg #[ab 3,ab p,ab 0,ab y0,ab y1,af y2,ae ya yl yc]) (by simp[results,results17,go_sem,d0,d1,d2,d3,d4,d5,d6]) rfl ⟨y0,y1,y2,ya,yl,yc,rfl,h.2 _ (i.trans x λ_ _ m=>m),?_⟩
 first|exact(o.trans (x.below (by have:=o.size;omega) λb H m=>by omega)).mono (by omega)|exact o.trans (x.below (by have:=o.size;omega) λb H m=>by omega)
theorem IE(x:Nat)(g n c:Nat)(kd f h i k:Nat->Int)(l:Nat->ByteArray)(xa:Nat->Option Addr)(m xc:Nat->Nat)(w:World)(K:Nat->World->Prop)(I:n<=1000)(s:Hid (K 0 w))(o:Hid (∀j W,j<n->K j W->(W.cell? ⟨g,j*7,none⟩=some (ab (kd j))/\W.cell? ⟨g,j*7+1,none⟩=some (ab (f j))/\W.cell? ⟨g,j*7+2,none⟩=some (ab (h j))/\W.cell? ⟨g,j*7+3,none⟩=some (ab (i j))/\W.cell? ⟨g,j*7+4,none⟩=some (ab (k j))/\W.cell? ⟨g,j*7+5,none⟩=some (af (l j))/\W.cell? ⟨g,j*7+6,none⟩=some (ae (xa j) (m j) (xc j)))/\Hid (∀u,aj W u->am 10 #[aB x,.agg #[ab (kd j),ab (f j),ab (h j),ab (i j),ab (k j),af (l j),ae (xa j) (m j) (xc j)]] u λe w'=>e=.returned (ab 0)/\Hid (K (j+1) w')))):am 16 #[aB x,ae (some ⟨g,0,none⟩) n c] w λe w'=>e=.returned (.bool true)/\Hid (K n w'):=by
 go_enter func16,ntmps16;go_wp2_with fail;go_loopw [6,9] (λ_ r wr=>∃(j:Nat),j<=n/\r=ab j/\Hid (K j wr)) (λ_ r _=>n-(intOf r).toNat)
 case atStart=>exact⟨0,aI _,rfl,s⟩
 case round=>
 clear s;obtain⟨j,H,rfl,p⟩:=hrel;by_cases v:j<n
 ·obtain⟨⟨A,B,C,D,E,F,G⟩,t⟩:=o.out j _ v p;have J:(0:Int)<=(j:Int):=by omega
  have L:(j:Int)<(n:Int):=by omega
  clear o p;go_upto_region 4 with fail;generalize q:World.alloc _ _=a;have b:a.heap[wr.heap.size]?=some (.cells #[ab (kd j),ab (f j),ab (h j),ab (i j),ab (k j),af (l j),ae (xa j) (m j) (xc j)] 41):=by
   rw[<-q];exact aE _ _
  have z:=aq (t a (by rw[<-q];exact(ap _ _).alloc (ak _) _));generalize wr.heap.size=d at*;have d0:a.cell? ⟨d,0,none⟩=some (ab (kd j)):=ag b 0;have d1:a.cell? ⟨d,1,none⟩=some (ab (f j)):=ag b 1;have d2:a.cell? ⟨d,2,none⟩=some (ab (h j)):=ag b 2;have d3:a.cell? ⟨d,3,none⟩=some (ab (i j)):=ag b 3;have d4:a.cell? ⟨d,4,none⟩=some (ab (k j)):=ag b 4;have d5:a.cell? ⟨d,5,none⟩=some (af (l j)):=ag b 5;have d6:a.cell? ⟨d,6,none⟩=some (ae (xa j) (m j) (xc j)):=ag b 6;clear q b t A B C D E F G;go_wp2_with fail;refine z.mono ?_;rintro e M ⟨rfl,y⟩;go_wp2_with fail;go_roundw
  case rel=>exact⟨j+1,by omega,by go_num,y⟩
  case measure=>simp[intOf];omega
 obtain rfl:j=n:=by omega
 clear o H v;go_wp2_with fail
 go_ret
 exact⟨rfl,p⟩
def yE(w:World)(a:Option Addr)(L c:Nat)(W:World):Prop:=∃(M:Nat)(q:List (Bh (M+1))),q.length=L/\aj w W/\(L<=c/\c<=maxLen)/\fR (M+1) W.heap.size W a q/\ki M q=0/\ay (M+6) (bK M q) 7 (bK 1 fG)=true
theorem xz{n:Nat}{l:List (Bh (n+1))}(g:ki n l=0){m:Nat}{y0 y1:Int}{y2:ByteArray}{ya:Option Addr}{yl yc:Nat}{W:World}(o:∃x:Tm (m+1),(x.1=(y0,y1,y2)/\x.2.1=(ya,yc)/\x.2.2.length=yl)/\ay (m+1) x (n+6) (bK n l)=true/\In W.heap.size W (m+1) x):am 8 #[.agg #[ab y0,ab y1,af y2,ae ya yl yc]] W λe w'=>∃a L c,e=.returned (.tuple #[ae a L c,ab 0])/\Hid (aj W w'/\∃q:List (Bh (m+1)),q.length=L/\(L<=c/\c<=maxLen)/\fR (m+1) w'.heap.size w' a q/\ki m q=0/\ay (m+6) (bK m q) (n+6) (bK n l)=true):=by
 obtain⟨⟨⟨w,y,z⟩,⟨A,B⟩,C⟩,⟨f1,f2,f3⟩,d,p⟩:=o;simp only[eG]at f1 f2;obtain⟨rfl,rfl,rfl⟩:=f1;obtain⟨rfl,rfl⟩:=f2;subst f3;have b:=(bJ d).trans (dH g).2.1;obtain⟨D,f,j,_⟩:=KV m (m+1) n (ak _) l (dH g).1 _ (p9 b) d;have hF:Bi m (m+1) ((w,y,z),(A,B),C)=0:=by
  unfold Bi;rw[if_pos b,f];unfold Bj;simp only[j,cF]
 have h:=Bk m (m+1) (ak _) _ W.heap.size W p (eg b) (ak _);rw[hF]at h;refine h.mono ?_;rintro e w' ⟨q,a,c,rfl,k⟩;obtain⟨s,t,u,_,_,v⟩:=k;obtain⟨E,i,r⟩:=v rfl;rw[f]at i;obtain rfl:=aw i;obtain⟨_,t2,t3,_⟩:=xX (ak _) b f r j;rw[(dH t2).2.2]at t3;exact⟨a,q.length,c,rfl,s,q,rfl,t,u,t2,bH _ _ _ _ _ _ t3 d⟩
theorem IA(w:World):am 14 #[] w λe w'=>∃a l c,e=.returned (ae a l c)/\Hid (yE w a l c w'):=by
 refine Eu Lx rfl w (λy0 y1 y2 ya yl yc f=>aj w f/\∃(d:Nat)(b:Tm (d+1)),(b.1=(y0,y1,y2)/\b.2.1=(ya,yc)/\b.2.2.length=yl)/\ay (d+1) b 7 (bK 1 fG)=true/\In f.heap.size f (d+1) b) (yE w) ((vK Nv qD.1 w).mono ?_) λy0 y1 y2 ya yl yc f v ⟨i,d,b,q,s,r⟩ h=>?_
 ·rintro e w' ⟨d,b,rfl,g⟩;obtain⟨n,o,_,p⟩:=g.out;exact⟨_,_,_,_,_,_,rfl,p,d,b,⟨rfl,rfl,rfl⟩,n,o⟩
 ·refine(xz JM ⟨b,q,s,(r.below h).mono h.size⟩).mono ?_;rintro e w' ⟨a,m,c,rfl,g⟩;obtain⟨t,u,k⟩:=g;have j:=i.trans (h.mono i.size);exact⟨a,m,c,rfl,d,u,k.1,j.trans (t.mono j.size),k.2⟩
def ur(w0:World)(s:Sy)(i a:Nat)(W:World):Prop:=∃(p:kQ)(d:fY),p.b=a/\bj p s d W/\(p.room=60/\ay (p.n+6) (bK p.n p.prog) 7 (bK 1 fG)=true)/\(d.k<=i*402/\d.es.length<=i*201/\d.wn<=i*201/\d.bn<=i*201)/\aj w0 W/\w0.heap.size<=p.lo
theorem Lr(w0:World){a:Option Addr}{L c:Nat}{W:World}(m:yE w0 a L c W):am 13 #[ae a L c,ab 60] W λe w'=>∃i,e=.returned (.tuple #[aB i,ab 0])/\Hid (ur w0 Nl 0 i w'):=by
 obtain⟨k,s,rfl,d,g,n,f,o⟩:=m;refine(Cm k s a c 60 W n g.1 g.2 λ_=>eg (dH f).2.1).mono ?_;rintro e w' ⟨E,x,rfl,j⟩;obtain⟨p,q,_,r⟩:=j;have y:x=0:=by
  rw[p];unfold lJ;rw[if_neg (by rw[f];decide),if_pos (by decide)]
 subst y;obtain⟨h,l,rfl,t,⟨z,u,A,B⟩,v,C,D,w⟩:=r rfl;exact⟨h.b,rfl,h,l,rfl,t,⟨v,bH _ _ _ _ _ _ w o⟩,⟨by omega,by rw[u];exact aI _,by omega,by omega⟩,d.trans (q.mono d.size),by have:=d.size;omega⟩
theorem CZ(G:Option Addr)(I H:Nat)(room:Int)(sa:Option Addr)(sl sc:Nat)(nm t:Nat->ByteArray)(r s:Nat->Int)(xa:Nat->Option Addr)(u xc:Nat->Nat)(w:World)(x:Value->Int->World->Prop)(m:Nat->Nat->World->Prop)(R:Value->World->Prop)(U:sl<=9223372036854775807)(E:Hid (am 13 #[ae G I H,ab room] w λe w'=>∃v b,e=.returned (.tuple #[v,ab b])/\Hid (x v b w')))(i:Hid (∀v b W,x v b W->(b≠0\/4<sl)->R (.pointer none) W))(p:Hid (∀v W,x v 0 W->sl<=4->∃a,v=aB a/\m a 0 W))(l:Hid (∀a j W,j<sl->m a j W->∃g o,(sa=some ⟨g,o,none⟩/\W.cell? ⟨g,o+j*5,none⟩=some (af (nm j))/\W.cell? ⟨g,o+j*5+1,none⟩=some (ab (r j))/\W.cell? ⟨g,o+j*5+2,none⟩=some (ab (s j))/\W.cell? ⟨g,o+j*5+3,none⟩=some (af (t j))/\W.cell? ⟨g,o+j*5+4,none⟩=some (ae (xa j) (u j) (xc j)))/\Hid (∀F,aj W F->am 15 #[aB a,af (nm j),.agg #[ab (r j),ab (s j),af (t j),ae (xa j) (u j) (xc j)]] F λe w'=>∃v b,e=.returned (.tuple #[ab v,ab b])/\Hid (m a (j+1) w'))))(h:Hid (∀a W,m a sl W->R (aB a) W)):am 9 #[ae G I H,ab room,ae sa sl sc] w λe w'=>∃v,e=.returned v/\Hid (R v w'):=by
 go_enter func9,ntmps9;go_wp2_with fail;refine E.mono ?_;rintro e Z ⟨v,b,rfl,d⟩;clear E;by_cases z:b=0;rotate_left
 ·have k:=aq (i _ _ _ d (ah z));have V:(b==0)=false:=by simpa using z
  clear i p l h d;go_wp2_with fail
  go_ret
  exact⟨_,rfl,k⟩
 subst z;by_cases Q:sl<=4;rotate_left
 ·have k:=aq (i _ _ _ d (ai (by omega)));have S:(4:Int)<(sl:Int):=by omega
  clear i p l h d;go_wp2_with fail
  go_ret
  exact⟨_,rfl,k⟩
 obtain⟨a,rfl,y⟩:=p.out _ _ d Q;have C:=aq y;have S:¬(4:Int)<(sl:Int):=by omega
 clear i p d y;go_wp2_with fail;go_loopw [10,26] (λ_ B wr=>∃(j:Nat),j<=sl/\B=ab j/\Hid (m a j wr)) (λ_ B _=>sl-(intOf B).toNat)
 case atStart=>exact⟨0,aI _,rfl,C⟩
 case round=>
 clear C;obtain⟨j,y,rfl,q⟩:=hrel;by_cases T:j<sl
 ·obtain⟨g,o,⟨rfl,L,M,N,O,P⟩,D⟩:=l.out a j _ T q;have X:(0:Int)<=(j:Int):=by omega
  have Y:(j:Int)<(sl:Int):=by omega
  clear l h q;go_upto_region 7 with fail;generalize A:World.alloc _ _=c;have f:c.heap[wr.heap.size]?=some (.cells #[af (nm j),ab (r j),ab (s j),af (t j),ae (xa j) (u j) (xc j)] 76):=by
   rw[<-A];exact aE _ _
  have K:=aq (D c (by rw[<-A];exact(ap _ _).alloc (ak _) _));generalize wr.heap.size=n at*;have d0:c.cell? ⟨n,0,none⟩=some (af (nm j)):=ag f 0;have d1:c.cell? ⟨n,1,none⟩=some (ab (r j)):=ag f 1;have d2:c.cell? ⟨n,2,none⟩=some (ab (s j)):=ag f 2;have d3:c.cell? ⟨n,3,none⟩=some (af (t j)):=ag f 3;have d4:c.cell? ⟨n,4,none⟩=some (ae (xa j) (u j) (xc j)):=ag f 4;clear A f D L M N O P;go_wp2_with fail;refine K.mono ?_;rintro e aa ⟨v,b,rfl,J⟩;go_wp2_with fail;go_roundw
  case rel=>exact⟨j+1,by omega,by go_num,J⟩
  case measure=>simp[intOf];omega
 ·obtain rfl:j=sl:=by omega
  have k:=aq (h _ _ q);clear l h q;go_wp2_with fail
  go_ret
  exact⟨_,rfl,k⟩
theorem FJ(a:Nat)(W:World):(binOp .eql 38 (aB a) (.pointer none)).run Tryz.prog W=.ok (.bool false) W:=by kernel_rfl
theorem Iy(W:World):(binOp .eql 38 (.pointer none) (.pointer none)).run Tryz.prog W=.ok (.bool true) W:=by kernel_rfl
def P7(pa g:Nat)(w0:World)(W:World):Prop:=
 am 12 #[aB pa] W λa h=>∃c e b,a=.returned (ae c b e)/\Hid (am 12 #[aB g] h λa i=>∃d f,a=.returned (ae d b f)/\Hid (am 11 #[ae c b e,ae d b f] i λa j=>a=.returned (.bool true)/\Hid (aj w0 j)))
theorem Lt(aR:Option Addr)(aT aS:Nat)(room:Int)(sa:Option Addr)(sl sc:Nat)(be:Option Addr)(f bv:Nat)(E C D F G:Nat->Int)(H:Nat->ByteArray)(I:Nat->Option Addr)(L J:Nat->Nat)(v:Nat->Int)(w:World)(aD:Int)(bc:Int->Int->ByteArray->Option Addr->Nat->Nat->World->Prop)(P:ByteArray->World->Prop)(bd:Int->Int->ByteArray->Option Addr->Nat->Nat->World->Prop)(aV ba:Option Addr->Nat->Nat->World->Prop)(bb:Option Addr->Nat->Nat->Nat->World->Prop)(K:Nat->Nat->Nat->World->Prop)(M:Bool->Bool->Nat->Nat->Nat->Nat->World->Prop)(bG:f<=1048576)(a8:Hid (am 4 #[] w λe w'=>e=.returned (.bool true)/\aj w w'))(a9:Hid (∀W,aj w W->am 5 #[ae aR aT aS] W λe w'=>∃y0 y1 y2 ya yl yc,e=.returned (.tuple #[.agg #[ab y0,ab y1,af y2,ae ya yl yc],ab aD])/\Hid (aj w w'/\bc y0 y1 y2 ya yl yc w')))(aL:Hid (aD=0->∀y0 y1 y2 ya yl yc W q,bc y0 y1 y2 ya yl yc W->aj W q->am 6 #[.agg #[ab y0,ab y1,af y2,ae ya yl yc]] q λe w'=>∃T,e=.returned (.tuple #[af T,ab 0])/\Hid (P T w')))(ax:Hid (∀T W,P T W->aj w W))(aw:Hid (∀T W,P T W->T.size<=2048->am 7 #[af T] W λe w'=>∃y0 y1 y2 ya yl yc p,e=.returned (.tuple #[.agg #[ab y0,ab y1,af y2,ae ya yl yc],ab p,ab 0])/\Hid (bd y0 y1 y2 ya yl yc w')))(av:Hid (∀y0 y1 y2 ya yl yc W q,bd y0 y1 y2 ya yl yc W->aj W q->am 8 #[.agg #[ab y0,ab y1,af y2,ae ya yl yc]] q λe w'=>∃a l c,e=.returned (.tuple #[ae a l c,ab 0])/\Hid (aV a l c w')))(HB:Hid (∀a l c W,aV a l c W->am 9 #[ae aR aT aS,ab room,ae sa sl sc] W λe w'=>(e=.returned (.pointer none)/\Hid (ba a l c w'))\/∃pa,e=.returned (aB pa)/\Hid (bb a l c pa w')))(X:Hid (∀a l c W,ba a l c W->am 9 #[ae a l c,ab room,ae sa sl sc] W λe w'=>e=.returned (.pointer none)/\Hid (aj w w')))(Y:Hid (∀a l c pa W,bb a l c pa W->am 9 #[ae a l c,ab room,ae sa sl sc] W λe w'=>∃b,e=.returned (aB b)/\Hid (K pa b 0 w')))(u:Hid (∀pa b j W,K pa b j W->aj w W))(B:Hid (∀pa b j W,j<f->f<=80->K pa b j W->∃g o,(be=some ⟨g,o,none⟩/\W.cell? ⟨g,o+j*7,none⟩=some (ab (E j))/\W.cell? ⟨g,o+j*7+1,none⟩=some (ab (C j))/\W.cell? ⟨g,o+j*7+2,none⟩=some (ab (D j))/\W.cell? ⟨g,o+j*7+3,none⟩=some (ab (F j))/\W.cell? ⟨g,o+j*7+4,none⟩=some (ab (G j))/\W.cell? ⟨g,o+j*7+5,none⟩=some (af (H j))/\W.cell? ⟨g,o+j*7+6,none⟩=some (ae (I j) (L j) (J j)))/\Hid (∀aM,aj W aM->aM.heap[W.heap.size]?=some (.cells #[ab (E j),ab (C j),ab (D j),ab (F j),ab (G j),af (H j),ae (I j) (L j) (J j)] 41)->M false false pa b j W.heap.size aM)))(z:Hid (∀x y pa b j r W,M x y pa b j r W->aj w W/\W.heap[r]?=some (.cells #[ab (E j),ab (C j),ab (D j),ab (F j),ab (G j),af (H j),ae (I j) (L j) (J j)] 41)))(A:Hid (∀x y pa b j r W q,M x y pa b j r W->aj W q->M x y pa b j r q))(k:Hid (∀y pa b j r W,j<f->f<=80->M false y pa b j r W->am 10 #[aB pa,.agg #[ab (E j),ab (C j),ab (D j),ab (F j),ab (G j),af (H j),ae (I j) (L j) (J j)]] W λe w'=>e=.returned (ab (v j))/\Hid (M true y pa b j r w')))(m:Hid (∀x pa b j r W,j<f->f<=80->M x false pa b j r W->am 10 #[aB b,.agg #[ab (E j),ab (C j),ab (D j),ab (F j),ab (G j),af (H j),ae (I j) (L j) (J j)]] W λe w'=>e=.returned (ab (v j))/\Hid (M x true pa b j r w')))(O:Hid (∀pa b j r W,M true true pa b j r W->K pa b (j+1) W))(t:Hid (∀pa b W,f<=80->K pa b f W->P7 pa b w W)):am 3 #[ae aR aT aS,ab room,ae sa sl sc,ae be f bv] w λe w'=>e=.returned (.bool true)/\aj w w':=by
 go_enter func3,ntmps3;go_wp2_with fail;refine a8.out.mono ?_;rintro e bJ ⟨rfl,aW⟩;have n:=aq (a9.out _ aW);clear a8 a9 aW;go_wp2_with fail;refine n.out.mono ?_;rintro e aF ⟨y0,y1,y2,ya,yl,yc,rfl,U⟩;clear n;go_upto_region 4 with fail;generalize s:aF.alloc _=N;have aC:aj aF N:=by rw[<-s];exact(ap _ _).alloc (ak _) _
 have d:N.heap[aF.heap.size]?=some (.cells #[ab y0,ab y1,af y2,ae ya yl yc] 28):=by
  rw[<-s];exact aE _ _
 by_cases aN:aD=0;rotate_left
 ·have bB:(aD !=0)=true:=by simpa using aN
  have aK:=aq (U.out.1.trans (aC.mono U.out.1.size));clear aL ax aw av HB X Y B z A k m O t u U d aC s aN;go_wp2_with fail
  go_ret
  exact⟨rfl,aK.out⟩
 subst aN;have aa:=aq (aL.out rfl _ _ _ _ _ _ _ N U.out.2 aC);generalize aF.heap.size=r at*;have ad:N.cell? ⟨r,0,none⟩=some (ab y0):=ag d 0;have Q:N.cell? ⟨r,1,none⟩=some (ab y1):=ag d 1;have R:N.cell? ⟨r,2,none⟩=some (af y2):=ag d 2;have ah:N.cell? ⟨r,3,none⟩=some (ae ya yl yc):=ag d 3;clear s d aC aL U;go_wp2_with fail;refine aa.out.mono ?_;rintro e aG ⟨T,rfl,ao⟩;clear aa ad Q R ah;by_cases aO:T.size<=2048;rotate_left
 ·have aA:(2048:Int)<(T.size:Int):=by omega
  have aK:=aq (ax.out _ _ ao.out);clear ax aw av HB X Y B z A k m O t u ao aO;go_wp2_with fail
  go_ret
  exact⟨rfl,aK.out⟩
 have aA:¬(2048:Int)<(T.size:Int):=by omega
 have aa:=aq (aw.out _ _ ao.out aO);clear aw ax ao aO;go_wp2_with fail;refine aa.out.mono ?_;rintro e aH ⟨bf,bg,bh,bi,bk,bj,p,rfl,V⟩;clear aa aA;go_upto_region 10 with fail;generalize s:aH.alloc _=h;have a5:=aq (av.out _ _ _ _ _ _ _ h V.out (by rw[<-s];exact(ap _ _).alloc (ak _) _));have d:h.heap[aH.heap.size]?=some (.cells #[ab bf,ab bg,af bh,ae bi bk bj] 28):=by
  rw[<-s];exact aE _ _
 generalize aH.heap.size=r at*;have ad:h.cell? ⟨r,0,none⟩=some (ab bf):=ag d 0;have Q:h.cell? ⟨r,1,none⟩=some (ab bg):=ag d 1;have R:h.cell? ⟨r,2,none⟩=some (af bh):=ag d 2;have ah:h.cell? ⟨r,3,none⟩=some (ae bi bk bj):=ag d 3;clear s d av V;go_wp2_with fail;refine a5.out.mono ?_;rintro e aU ⟨a,l,c,rfl,i⟩;clear a5 ad Q R ah;go_wp2_with fail;refine(HB.out _ _ _ _ i.out).mono ?_;clear HB i;rintro e bK (⟨rfl,a7⟩|⟨pa,rfl,aY⟩)
 ·have n:=aq (X.out _ _ _ _ a7.out);have bC:=Iy;clear X Y B z A k m O t u a7;go_wp2_with fail;refine n.out.mono ?_;rintro e bt ⟨rfl,bl⟩;clear n;go_wp2_with fail
  go_ret
  exact⟨rfl,bl.out⟩
 have n:=aq (Y.out _ _ _ _ _ aY.out);clear X Y aY;go_wp2_with fail;refine n.out.mono ?_;rintro e bt ⟨b,rfl,an⟩;clear n;have bD:=FJ pa;have bE:=FJ b;by_cases S:f<=80;rotate_left
 ·have aA:(80:Int)<(f:Int):=by omega
  have bm:=aq (u.out _ _ _ _ an.out);clear B z A k m O t an u;go_wp2_with fail
  go_ret
  exact⟨rfl,bm.out⟩
 have aA:¬(80:Int)<(f:Int):=by omega
 go_wp2_with fail;go_loopw [20,87] (λ_ aQ wr=>∃(j:Nat),j<=f/\aQ=ab j/\Hid (K pa b j wr)) (λ_ aQ _=>f-(intOf aQ).toNat)
 case atStart=>exact⟨0,aI _,rfl,an.out⟩
 case round=>
 clear an;obtain⟨j,bA,rfl,az⟩:=hrel;by_cases al:j<f
 ·obtain⟨g,o,⟨rfl,ad,Q,R,ah,bo,bp,bq⟩,a3⟩:=B.out pa b j _ al S az.out;have bH:(0:Int)<=(j:Int):=by omega
  have bI:(j:Int)<(f:Int):=by omega
  clear B az t u;go_upto_region 19 with fail;generalize aP:World.alloc _ _=aG;have a6:=aq (a3.out aG (by rw[<-aP];exact(ap _ _).alloc (ak _) _) (by rw[<-aP];exact aE _ _));clear aP a3 ad Q R ah bo bp bq;generalize wr.heap.size=r at*;have a4:Hid (aj aG aG.drew):=(ap _ _).drew;have ay:=aq (A.out _ _ _ _ _ _ _ _ a6.out a4.out);have ar:=aq (k.out false pa b j r _ al S ay.out);have au:=aq (m.out false pa b j r _ al S ay.out);have aZ:=aq (λW (ai:M false true pa b j r W)=>k.out true pa b j r W al S ai);have a1:=aq (λW (ai:M true false pa b j r W)=>m.out true pa b j r W al S ai);have Z:Hid (∀x y W,M x y pa b j r W->W.cell? ⟨r,0,none⟩=some (Value.int .i64 (E j))/\W.cell? ⟨r,1,none⟩=some (Value.int .i64 (C j))/\W.cell? ⟨r,2,none⟩=some (Value.int .i64 (D j))/\W.cell? ⟨r,3,none⟩=some (Value.int .i64 (F j))/\W.cell? ⟨r,4,none⟩=some (Value.int .i64 (G j))/\W.cell? ⟨r,5,none⟩=some (Value.string (H j))/\W.cell? ⟨r,6,none⟩=some (Value.slice (I j) (L j) (J j))):=λx y W ai=>by
   have d:=(z.out _ _ _ _ _ _ _ ai).2;exact⟨ag d 0,ag d 1,ag d 2,ag d 3,ag d 4,ag d 5,ag d 6⟩
  have bF:(v j==v j)=true:=by simp
  clear k m z A a6 a4;go_cut [87,97]from 87 to 98 (λbr bs bu=>br=ab j/\bs=.bool false/\Hid (M true true pa b j r bu))
  case first=>
   go_region_held3 (λW=>W.cell? ⟨r,0,none⟩=some (Value.int .i64 (E j))/\W.cell? ⟨r,1,none⟩=some (Value.int .i64 (C j))/\W.cell? ⟨r,2,none⟩=some (Value.int .i64 (D j))/\W.cell? ⟨r,3,none⟩=some (Value.int .i64 (F j))/\W.cell? ⟨r,4,none⟩=some (Value.int .i64 (G j))/\W.cell? ⟨r,5,none⟩=some (Value.string (H j))/\W.cell? ⟨r,6,none⟩=some (Value.slice (I j) (L j) (J j))) (first|exact Z.out _ _ _ ay.out|exact Z.out _ _ _ a0.out|exact Z.out _ _ _ a2.out|exact Z.out _ _ _ i.out) ((go_at_call 10;first
    | (refine ar.out.mono ?_;rintro e h ⟨rfl,a0⟩;clear ar au)
    | (refine au.out.mono ?_;rintro e h ⟨rfl,a2⟩;clear ar au)
    | (refine(a1.out _ a0.out).mono ?_;rintro e aU ⟨rfl,i⟩)
    | (refine(aZ.out _ a2.out).mono ?_;rintro e aU ⟨rfl,i⟩)))
   all_goals
    go_wp2_with fail;go_meet
    case rel=>exact⟨rfl,rfl,i⟩
  case rest=>
  obtain⟨rfl,rfl,bn⟩:=hcut;clear ar au aZ a1 Z ay;go_wp2_with fail;go_roundw
  case rel=>exact⟨j+1,by omega,by go_num,O.out _ _ _ _ _ bn.out⟩
  case measure=>simp[intOf];omega
 obtain rfl:j=f:=by omega
 have aJ:=aq (t.out _ _ _ S az.out);unfold P7 at aJ;clear B z A k m O t az u;go_wp2_with fail;refine aJ.out.mono ?_;rintro e aH ⟨bx,Q,bw,rfl,V⟩;clear aJ;go_wp2_with fail;refine V.out.mono ?_;rintro e h ⟨bz,R,rfl,aX⟩;clear V;go_wp2_with fail;refine aX.out.mono ?_;rintro e aU ⟨rfl,i⟩;clear aX;go_wp2_with fail
 go_ret
 exact⟨rfl,i.out⟩
theorem uQ(d:Nat)(a:d<10):(UInt8.ofNat (48+d)).toNat=48+d:=by
 rw[UInt8.toNat_ofNat'];omega
theorem iI{a:Nat}(b:a<10):Lib.decDigits a=[UInt8.ofNat (48+a)]:=by rw[Lib.decDigits,dif_pos b]
theorem qW{a:Nat}(b:¬a<10):Lib.decDigits a=Lib.decDigits (a / 10)++ [UInt8.ofNat (48+a % 10)]:=by
 conv=>lhs;rw[Lib.decDigits,dif_neg b]
theorem nW(a:Nat):fl (Lib.decDigits a)=true:=by
 induction a using Nat.strongRecOn with
 | _ a ih=>
  by_cases b:a<10
  ·rw[iI b];simp only[fl,ip,List.all_nil,j8,uQ a b];simp;omega
  ·rw[qW b];have c:=ih (a / 10) (by omega);simp only[fl]at c ⊢;rw[jg,c];simp only[ip,List.all_nil,j8,uQ (a % 10) (by omega)];simp;omega
theorem qX(a:Nat):jK (Lib.decDigits a)=a:=by
 induction a using Nat.strongRecOn with
 | _ a ih=>
  by_cases b:a<10
  ·rw[iI b];simp only[jK,fo,List.foldl_nil,uQ a b];omega
  ·rw[qW b];have c:=ih (a / 10) (by omega);simp only[jK]at c ⊢;rw[jD,c];simp only[fo,List.foldl_nil,uQ (a % 10) (by omega)];omega
theorem JN(a:Nat)(g:a≠0):∃c l,Lib.decDigits a=c::l/\c≠48:=by
 induction a using Nat.strongRecOn with
 | _ a ih=>
  by_cases d:a<10
  ·rw[iI d];refine⟨_,[],rfl,λb=>?_⟩;have:=congrArg UInt8.toNat b;rw[uQ a d]at this;have f:(48:UInt8).toNat=48:=rfl;omega
  ·obtain⟨c,l,b,e⟩:=ih (a / 10) (by omega) (by omega);rw[qW d,b];exact⟨c,_,rfl,e⟩
theorem E6:(m a:Nat)->a<10 ^ (m+1)->1<=(Lib.decDigits a).length/\(Lib.decDigits a).length<=m+1
 | 0,a,h=>by rw[iI (by simpa using h)];simp
 | m+1,a,h=>by
  by_cases b:a<10
  ·rw[iI b];simp
  ·rw[qW b];have:=E6 m (a / 10) (by rw[Nat.pow_succ]at h;omega);simp;omega
theorem rK(l:List UInt8):(⟨l.toArray⟩:ByteArray).size=l.length:=by simp[ByteArray.size]
theorem oO(m a:Nat)(e:a<10 ^ (m+1)):dx ⟨(Lib.decDigits a).toArray⟩ ((m:Int)+1)=true:=by
 have h:=E6 m a e;have f:((Lib.decDigits a)[0]?==some 48 && decide (1<((Lib.decDigits a).length:Int)))=false:=by
  by_cases b:a=0
  ·subst b;rw[iI (by omega)];simp
  ·obtain⟨c,l,d,g⟩:=JN a b;rw[d];simp[g]
 simp only[dx,rK,nW,f];simp;omega
theorem E7(b:Nat):Lib.decDigits b≠[]:=by
 by_cases a:b<10
 ·rw[iI a];simp
 ·rw[qW a];simp
theorem zh{c:UInt8}(b:j8 c=true):lQ c=false:=by
 simp only[j8,aA,bO]at b;have d:c≠32:=λa=>by subst a;exact absurd b.1 (by decide)
 have e:c≠40:=λa=>by subst a;exact absurd b.1 (by decide)
 have f:c≠41:=λa=>by subst a;exact absurd b.1 (by decide)
 simp[lQ,d,e,f]
theorem OJ{c:UInt8}(b:ol c=true):lQ c=false:=by
 simp only[ol,aA,bO]at b;have d:c≠32:=λa=>by subst a;exact absurd b.1 (by decide)
 have e:c≠40:=λa=>by subst a;exact absurd b.1 (by decide)
 have f:c≠41:=λa=>by subst a;exact absurd b.1 (by decide)
 simp[lQ,d,e,f]
theorem Ox{c d:UInt8}(a:j8 c=true)(b:j8 d=false):c≠d:=λe=>by rw[e,b]at a;exact absurd a (by simp)
theorem zw{c d:UInt8}(a:ol c=true)(b:ol d=false):c≠d:=λe=>by rw[e,b]at a;exact absurd a (by simp)
def lw(l:List UInt8)(v:Int×Int×ByteArray):Prop:=l≠[]/\(∀c∈l,lQ c=false)/\dI ⟨l.toArray⟩=true/\fI ⟨l.toArray⟩=v/\wK ⟨l.toArray⟩=false
theorem mG{l:List UInt8}{v:Int×Int×ByteArray}(b:l≠[])(d:∀c∈l,lQ c=false)(a:dI ⟨l.toArray⟩=true)(e:fI ⟨l.toArray⟩=v):lw l v:=by
 refine⟨b,d,a,e,?_⟩;cases ho:wK ⟨l.toArray⟩
 ·rfl
 ·rw[(GV ho).1]at a;exact absurd a (by simp)
theorem re{l:List UInt8}(a:fl l=true):∀c∈l,j8 c=true:=by simpa [fl]using a
theorem Iq(a:Nat)(f:a<10 ^ 13):lw (Lib.decDigits a) (1,a,⟨#[]⟩):=by
 have p:=oO 12 a f;have o:=re (nW a);cases b:Lib.decDigits a with
 | nil=>exact absurd b (E7 a)
 | cons c l=>
  rw[<-b];have g:j8 c=true:=o c (by rw[b];simp);have d:∀e,j8 e=false->c≠e:=λe f=>Ox g f;have i:=d 35 (by decide);have j:=d 36 (by decide);have k:=d 45 (by decide);have q:=d 95 (by decide);have n:((⟨(Lib.decDigits a).toArray⟩:ByteArray).toList==[95])=false:=by
   rw[bE,b];simp[q]
  have m:(⟨(Lib.decDigits a).toArray⟩:ByteArray).data.toList[0]?=some c:=by simp[b]
  refine mG (E7 a) (λc g=>zh (o c g)) ?_ ?_
  ·simp only[dI,m,n];have h:dx ⟨(Lib.decDigits a).toArray⟩ 13=true:=by simpa using p
   simp[i,j,k,h]
  ·simp only[fI,m,n];have h:dx ⟨(Lib.decDigits a).toArray⟩ 13=true:=by simpa using p
   simp[i,j,k,h,qX]
theorem o8(c:UInt8)(l:List UInt8):gi ⟨(c::l).toArray⟩=⟨l.toArray⟩:=by
 apply jc;simp[gi];rw[rK];simp
theorem Ir(a:Nat)(d:a<10 ^ 13)(h:a≠0):lw (45::Lib.decDigits a) (1,-(a:Int),⟨#[]⟩):=by
 have f:=oO 12 a d;have g:dx ⟨(Lib.decDigits a).toArray⟩ 13=true:=by simpa using f
 have e:=re (nW a);refine mG (by simp) ?_ ?_ ?_
 ·intro c b;rcases ch.1 b with rfl|b
  ·decide
  ·exact zh (e c b)
 ·simp only[dI,o8,g,qX];simp;omega
 ·simp only[fI,o8,qX];simp
theorem Iu(a:Nat)(d:a<10 ^ 2):lw (35::Lib.decDigits a) (3,a,⟨#[]⟩):=by
 have f:=oO 1 a d;have g:dx ⟨(Lib.decDigits a).toArray⟩ 2=true:=by simpa using f
 have e:=re (nW a);refine mG (by simp) ?_ ?_ ?_
 ·intro c b;rcases ch.1 b with rfl|b
  ·decide
  ·exact zh (e c b)
 ·simp only[dI,o8,g];simp
 ·simp only[fI,o8,qX];simp
theorem Iv(a:Nat)(d:a<10 ^ 2):lw (36::Lib.decDigits a) (5,a,⟨#[]⟩):=by
 have f:=oO 1 a d;have g:dx ⟨(Lib.decDigits a).toArray⟩ 2=true:=by simpa using f
 have e:=re (nW a);refine mG (by simp) ?_ ?_ ?_
 ·intro c b;rcases ch.1 b with rfl|b
  ·decide
  ·exact zh (e c b)
 ·simp only[dI,o8,g];simp
 ·simp only[fI,o8,qX];simp
theorem Ip:lw [95] (6,0,⟨#[]⟩):=by
 refine mG (by simp) (by simp[lQ]) ?_ ?_
 ·simp[dI,bE]
 ·simp[fI,bE]
theorem AN(s:ByteArray):(⟨s.data.toList.toArray⟩:ByteArray)=s:=by cases s;simp
theorem Er(s:ByteArray)(e:dF s=true):lw s.data.toList (2,0,s):=by
 simp only[dF,oe,aA,bO]at e;have k:∀c∈s.data.toList,ol c=true:=bZ.1 e.2;have n:s.data.toList.length=s.size:=by simp
 cases b:s.data.toList with
 | nil=>rw[b]at n;simp at n;omega
 | cons c l=>
  rw[<-b];have a:ol c=true:=k c (by rw[b];simp);have f:=zw a (d:=35) (by decide);have g:=zw a (d:=36) (by decide);have h:=zw a (d:=45) (by decide);have o:=zw a (d:=95) (by decide);have j:(s.toList==[95])=false:=by
   rw[bE,b];simp[o]
  have i:s.data.toList[0]?=some c:=by simp[b]
  have m:dx s 13=false:=by
   have:j8 c=false:=by
    cases hb:j8 c
    ·rfl
    ·simp only[j8,ol,aA,bO]at hb a;omega
   simp[dx,fl,b,this]
  refine mG (by rw[b];simp) (λc a=>OJ (k c a)) ?_ ?_
  ·rw[AN];simp only[dI,i,j,m,e.2];simp[f,g,h];omega
  ·rw[AN];simp only[fI,i,j,m];simp[f,g,h]
theorem infoByte:(Tryz.prog.info? 5).map (λi=>(i.zero,i.size,i.bytes))=some (some (.int .u8 0),1,1):=by kernel_rfl
theorem sizeBuilder:(Tryz.prog.info? 66).map (·.size)=some 2:=by kernel_rfl
theorem liesBuilder:liesAt Tryz.prog Tryz.prog.depth 66 (2 / Tryz.prog.cellsOf 66) 0 66 1=true:=by kernel_rfl
def Bu(B b:Nat)(l:List UInt8)(w:World):Prop:=Lib.IsBuilderF 66 5 B b (Lib.byteCells l) w
def du(B b:Nat)(l:List UInt8)(w w':World):Prop:=Bu B b l w'/\Below B w w'/\Lib.OthersKept 5 (some b) w w'
theorem uO(b:Nat)(w:World)(c:w.cell? ⟨b,0,none⟩=some (aB b)):am 90 #[aB b] w λe w'=>e=.returned (.tuple #[])/\w'=w:=by
 obtain⟨d,a,_⟩:=ci.1 sizeBuilder;go_enter func90,ntmps90;go_wp2;rw[Lib.run_neq_ptr_same w _ underlying63 a];go_wp2
 go_end0
 exact⟨rfl,rfl⟩
theorem tG(b:Nat)(w:World)(f:w.cell? ⟨b,0,none⟩=some (.pointer none))(c:w.shape? b=some (66,2))(g:w.frozen? ⟨b,0,none⟩=false):am 90 #[aB b] w λe w'=>e=.returned (.tuple #[])/\w'=w.setCell ⟨b,0,none⟩ (aB b):=by
 obtain⟨h,a,d⟩:=ci.1 sizeBuilder;go_enter func90,ntmps90;go_wp2;rw[Lib.run_to_unsafe w ⟨b,0,none⟩ underlying63 underlying211 a (by rw[d];decide) c (Nat.zero_lt_succ 1)];simp only[Result.andThen];rw[Oper.upon_value];go_wp2;rw[run_callFunc_extern func115 (by kernel_rfl) (by kernel_rfl) (by kernel_rfl) (e:=Extern.AbiNoEscape.same) (by kernel_rfl)];rw[Lib.run_noEscape];simp only[Result.andThen];rw[Oper.upon_value];go_wp2;rw[Lib.run_from_unsafe w ⟨b,0,none⟩ underlying211 underlying63 a c liesBuilder];simp only[Result.andThen];rw[Oper.upon_value];go_wp2
 go_end0
 exact⟨rfl,rfl⟩
theorem pL(B b:Nat)(l:List UInt8)(w:World)(a:Bu B b l w):am 90 #[aB b] w λe w'=>e=.returned (.tuple #[])/\Lib.BuilderAtF 66 5 B b (aB b) (Lib.byteCells l) w'/\Below B w w'/\Lib.OthersKept 5 (some b) w w':=by
 rcases a with a|a
 ·refine(tG b w a.cell0 a.shape a.frozen0).mono ?_;rintro e w' ⟨rfl,rfl⟩;exact⟨rfl,a.used _,(ap B w).setCell (p:=⟨b,0,none⟩) a.1 _,(Lib.OthersKept.refl _ _ w).setCell ⟨b,0,none⟩ rfl _⟩
 ·refine(uO b w a.cell0).mono ?_;rintro e w' ⟨rfl,rfl⟩;exact⟨rfl,a,ap B _,Lib.OthersKept.refl _ _ _⟩
theorem lt_of_heap{w:World}{b:Nat}{o:Obj}(a:w.heap[b]?=some o):b<w.heap.size:=(aF.1 a).1
theorem xb(B b:Nat)(l:List UInt8)(c:UInt8)(w:World)(H:Bu B b l w)(V:l.length+1<=140737488355328)(U:B<=w.heap.size):am 59 #[aB b,.int .u8 c.toNat] w λe w'=>e=.returned .nilIface/\du B b (l++ [c]) w w':=by
 obtain⟨M,z,C,D,E⟩:=bP infoByte;have y:=Lib.byteCells_length l;have x:=aq y;have q:=aq (⟨z,C,D,E⟩:_/\_/\_/\_);clear y z C D E;go_enter func59,ntmps59;go_wp2_with fail;refine(pL B b l _ H).mono ?_;rintro e t ⟨rfl,I,d,j⟩;obtain⟨h,v,a,g,m⟩:=I;have G:t.cell? ⟨b,0,none⟩=some (aB b):=by rw[eW a];rfl
 have c1:t.cell? ⟨b,1,none⟩=some v:=by rw[eW a];rfl
 have o:=aq (⟨h,a,g,m,d,j⟩:_/\_/\_/\_/\_/\_);clear h a g m d j;go_wp2_with (at_builtin;refine wpList_append_ownF _ rfl _ _ 64 rfl B 5 M (.int .u8 0) 1 1 underlying64 q.out.1 q.out.2.1 q.out.2.2.1 q.out.2.2.2 rfl (by decide) _ _ _ rfl (o.out.2.2.1.alloc _) ⟨t.heap.size,0,none⟩ 1 1 [.int .u8 c.toNat] rfl rfl ?c1 ?c2 ?c3 ?c4 ?c5 ?_)
 case c1=>
  intro N O s
  match N,s with
  | 0,s=>simp at s;subst s;simp[Addr.add]
 case c2=>intro O A;simp at A;subst A;rfl
 case c3=>rw[x.out];unfold maxLen;omega
 case c4=>rw[x.out];omega
 case c5=>have:=o.out.2.2.2.2.1.size;simp;omega
 intro P u n i _;obtain⟨h,a,g,m,d,j⟩:=o.out;have K:=lt_of_heap a;have f:u.heap[b]?=some (.cells #[aB b,v] 66 (0,0)):=by
  rw[i.block b (by simp;omega) (λe=>m e.symm),Lib.alloc_old t _ b K];exact a
 have d0:u.cell? ⟨b,0,none⟩=some (aB b):=by rw[eW f];rfl
 have d1:u.cell? ⟨b,1,none⟩=some v:=by rw[eW f];rfl
 have f1:u.frozen? ⟨b,1,none⟩=false:=Lib.frozen_of_heap f 1;obtain⟨r,cap,rfl⟩:∃r cap,P=ae (some ⟨r,0,none⟩) ((Lib.byteCells l).length+1) cap:=by
  rcases n.2 with⟨_,S⟩|⟨r,cap,Q,R,L,_⟩
  ·omega
  ·exact⟨r,cap,L⟩
 have F:=aq (⟨n,i,f⟩:_/\_/\_);clear n i f a g m d j G c1;go_wp2
 go_ret
 obtain⟨h,a,g,m,d,j⟩:=o.out;obtain⟨n,i,f⟩:=F.out;refine⟨rfl,ai ?_,?_,((j.alloc _).grown i (Lib.ownsRowF_kind (g.alloc _))).setCell ⟨b,1,none⟩ rfl _⟩
 ·have e:Lib.byteCells (l++ [c])=Lib.byteCells l++ [.int .u8 c.toNat]:=by simp[Lib.byteCells]
  rw[e];exact Lib.BuilderAtF.put (T:=66) (e:=5) h f (by simpa using n) (by decide)
 ·exact((d.alloc (by have:=d.size;omega) _).grown i (by have:=d.size;simp;omega) (λk J=>(g.lt k J).1)).setCell (p:=⟨b,1,none⟩) h _
theorem jP(B b:Nat)(l:List UInt8)(s:ByteArray)(w:World)(H:Bu B b l w)(R:l.length+s.size<=140737488355328)(Q:B<=w.heap.size):am 57 #[aB b,af s] w λe w'=>e=.returned (.tuple #[ab s.size,.nilIface])/\du B b (l++s.data.toList) w w':=by
 obtain⟨L,x,y,z,A⟩:=bP infoByte;have u:=aq (Lib.byteCells_length l);have o:=aq (⟨x,y,z,A⟩:_/\_/\_/\_);clear x y z A;go_enter func57,ntmps57;go_wp2_with fail;refine(pL B b l _ H).mono ?_;rintro e D ⟨rfl,I,c,i⟩;obtain⟨g,t,a,f,j⟩:=I;have F:D.cell? ⟨b,0,none⟩=some (aB b):=by rw[eW a];rfl
 have G:D.cell? ⟨b,1,none⟩=some t:=by rw[eW a];rfl
 have n:=aq (⟨g,a,f,j,c,i⟩:_/\_/\_/\_/\_/\_);clear g a f j c i;go_wp2_with (at_builtin;refine Lib.wpList_append_own_stringF _ rfl _ _ 64 9 rfl B 5 L underlying64 underlying9 o.out.1 o.out.2.1 o.out.2.2.1 o.out.2.2.2 _ _ _ rfl n.out.2.2.1 s rfl ?c3 ?c4 ?c5 ?_)
 case c3=>rw[u.out];unfold maxLen;omega
 case c4=>rw[u.out];omega
 case c5=>have:=n.out.2.2.2.2.1.size;omega
 intro M q m h _;obtain⟨g,a,f,j,c,i⟩:=n.out;have K:=lt_of_heap a;have d:q.heap[b]?=some (.cells #[aB b,t] 66 (0,0)):=by
  rw[h.block b K (λe=>j e.symm)];exact a
 have d0:q.cell? ⟨b,0,none⟩=some (aB b):=by rw[eW d];rfl
 have d1:q.cell? ⟨b,1,none⟩=some t:=by rw[eW d];rfl
 have f1:q.frozen? ⟨b,1,none⟩=false:=Lib.frozen_of_heap d 1;obtain⟨v,C,cap,rfl⟩:∃v C cap,M=ae v C cap:=by
  rcases m.2 with⟨r,_⟩|⟨P,cap,N,O,r,_⟩
  ·exact⟨_,_,_,r⟩
  ·exact⟨_,_,_,r⟩
 have E:=aq (⟨m,h,d⟩:_/\_/\_);clear m h d a f j c i F G;go_wp2
 go_ret2
 obtain⟨g,a,f,j,c,i⟩:=n.out;obtain⟨m,h,d⟩:=E.out;refine⟨rfl,ai ?_,?_,(i.grown h (Lib.ownsRowF_kind f)).setCell ⟨b,1,none⟩ rfl _⟩
 ·have e:Lib.byteCells (l++s.data.toList)=Lib.byteCells l++Lib.strCells s:=by rw[Lib.byteCells_append];rfl
  rw[e];exact Lib.BuilderAtF.put (T:=66) (e:=5) g d (bs':=Lib.byteCells l++Lib.strCells s) (by simpa [Lib.strCells_length]using m) (by decide)
 ·exact(c.grown h (by have:=c.size;omega) (λk J=>(f.lt k J).1)).setCell (p:=⟨b,1,none⟩) g _
theorem Bu.old{B b:Nat}{l:List UInt8}{w w':World}(j:Bu B b l w)(e:aj w w'):Bu B b l w':=by
 have key:∀c,Lib.BuilderAtF 66 5 B b c (Lib.byteCells l) w->Lib.BuilderAtF 66 5 B b c (Lib.byteCells l) w':=by
  rintro c ⟨m,s,f,p,o⟩;refine⟨m,s,(e.block b (lt_of_heap f)).trans f,?_,o⟩;obtain⟨k,a⟩:=p;refine⟨k,?_⟩;rcases a with a|⟨d,cap,h,i,q,n,g,r⟩
  ·exact ah a
  ·exact ai ⟨d,cap,h,i,q,n,(e.block d (lt_of_heap g)).trans g,r⟩
 exact j.imp (key _) (key _)
theorem Bu.lt{B b:Nat}{l:List UInt8}{w:World}(a:Bu B b l w):B<=b/\b<w.heap.size:=by
 rcases a with a|a
 ·exact⟨a.1,a.lt⟩
 ·exact⟨a.1,a.lt⟩
theorem Ki{b:Option Nat}{w w':World}(c:aj w w'):Lib.OthersKept 5 b w w':=λk _ a _ _=>(c.block k (lt_of_heap a)).trans a
theorem xB{b:Nat}{w w':World}(d:Lib.OthersKept 5 (some b) w w'){k:Nat}{cs:Array Value}{t:TypeId}{fr:Nat×Nat}(f:w.heap[k]?=some (.cells cs t fr))(g:k≠b)(h:t≠5):
    w'.heap[k]?=some (.cells cs t fr):=d k _ f (by simpa using g) (λc i e=>by injection e with _ a _;exact h a)
def I6(B : Nat)(w : World): Prop := Lib.TabBelow Tryz.prog B w "internal/strconv.uint64pow10" .u64 Lib.pow10Tab
theorem Br(n:Int)(a: -9223372036854775808<=n)(b:n<=9223372036854775807)(B:Nat)(w:World)(c:I6 B w):am 58 #[ab n] w λe w'=>e=.returned (af ⟨(Lib.itoa n).toArray⟩)/\aj w w':=by
 refine(Tryz.strconv_Itoa n a b w c.here).mono ?_;rintro e w' ⟨rfl,k,os,rfl⟩;exact⟨rfl,Lib.below_grow _ _ (ak _) _ _⟩
def wt:(n:Nat)->Tm n->Nat
 | 0,_=>1
 | n+1,x=>1+x.1.2.2.size+(x.2.2.map λy=>wt n y).sum
theorem rz:(n:Nat)->(x:Tm n)->(ax n x).length<=wt n x
 | 0,_=>by simp[ax,wt]
 | n+1,x=>by
  have key:∀l:List (Tm n),(l.flatMap λy=>ax n y).length<=(l.map λy=>wt n y).sum:=by
   intro l
   induction l with
   | nil=>simp
   | cons y l ih=>
    have:=rz n y;simp only[bz,bk,aM,bA];omega
  have:=key x.2.2;simp only[ax,wt,bf];omega
def jn(l:List (List UInt8)):List UInt8:=((l.map λa=>32::a).flatten).tail
theorem MM(l:List (List UInt8))(a:List UInt8):jn (l++ [a])=if l=[]then a else jn l++32::a:=by
 unfold jn;cases l with
 | nil=>simp
 | cons b l=>simp
def cN:(n:Nat)->Tm n->List UInt8
 | 0,_=> []
 | n+1,x=>
  if x.1.1=1 then Lib.itoa x.1.2.1 else if x.1.1=2 then x.1.2.2.data.toList else if x.1.1=3 then 35::Lib.itoa x.1.2.1
  else if x.1.1=4 then 40::jn (x.2.2.map λy=>cN n y)++ [41]else if x.1.1=5 then 36::Lib.itoa x.1.2.1 else if x.1.1=6 then [95]else []
theorem Kh(n:Nat)(f:Tm n->List UInt8)(l:List (Tm n))(a:∀y∈l,(f y).length+1<=24*wt n y):(jn (l.map f)).length<=24*(l.map λy=>wt n y).sum:=by
 have key:∀l:List (Tm n),(∀y∈l,(f y).length+1<=24*wt n y)->(((l.map f).map λb=>32::b).flatten).length<=24*(l.map λy=>wt n y).sum:=by
  intro l
  induction l with
  | nil=>simp
  | cons y l ih=>
   intro a;have g:=a y (by simp);have e:=ih (λd c=>a d (by simp[c]));simp only[aM,List.flatten_cons,bk,bf,bA];omega
 unfold jn;rw[List.length_tail];have:=key l a;omega
theorem OE{B:Nat}{w:World}{n:Nat}{x:Tm (n+1)}(a:In B w (n+1) x){y:Tm n}(c:y∈x.2.2):In B w n y:=by
 rcases a.2 with a|⟨b,o,_,_,a⟩
 ·rw[a]at c;cases c
 ·obtain⟨e,d⟩:=cM c;exact(a e y d).2
theorem yA:(n:Nat)->(x:Tm n)->(B:Nat)->(w:World)->In B w n x->(cN n x).length+1<=24*wt n x
 | 0,_,_,_,h=>h.elim
 | n+1,x,B,w,h=>by
  have e:=Kh n (λy=>cN n y) x.2.2 (λy f=>yA n y B w (OE h f));have d:dt x.1.2.1:=h.1.2.1;obtain⟨⟨k,b,s⟩,⟨a,c⟩,p⟩:=x;have g:=Lib.itoa_length_le b d.1 d.2;have i:s.data.toList.length=s.size:=by rw[gn];rfl
  simp only at e
  show (if k=1 then Lib.itoa b else if k=2 then s.data.toList else if k=3 then 35::Lib.itoa b
   else if k=4 then 40::jn (p.map λy=>cN n y)++ [41]else if k=5 then 36::Lib.itoa b else if k=6 then [95]else []).length+1<=24*(1+s.size+(p.map λy=>wt n y).sum)
  repeat' split
  all_goals (try simp only[bf,bk,jF])
  all_goals omega
theorem du.trans{B b:Nat}{l d:List UInt8}{w w1 w2:World}(c:du B b l w w1)(a:du B b d w1 w2):du B b d w w2:=⟨a.1,c.2.1.trans a.2.1,c.2.2.trans a.2.2⟩
theorem du.old{B b:Nat}{l:List UInt8}{w w':World}(c:Bu B b l w)(a:aj w w')(d:B<=w.heap.size):du B b l w w':=⟨c.old a,a.mono d,Ki a⟩
def FW(n:Nat):Prop:=∀(x:Tm n)(C B b:Nat)(l:List UInt8)(w:World),In C w n x->C<=B->Bu B b l w->B<=w.heap.size->I6 B w->l.length+24*wt n x<=140737488355328->
 am 25 #[aB b,df n x] w λe w'=>e=.returned (.tuple #[])/\du B b (l++cN n x) w w'
theorem im(B b:Nat)(l:List UInt8)(c:Int)(a:UInt8)(g:(a.toNat:Int)=c)(w:World)(d:Bu B b l w)(h:l.length+1<=140737488355328)(f:B<=w.heap.size):am 59 #[aB b,.int .u8 c] w λe w'=>e=.returned .nilIface/\du B b (l++ [a]) w w':=by
 rw[<-g];exact xb B b l a w d h f
theorem FO(w:World)(cs:Array Value)(t:TypeId):(w.alloc (.cells cs t)).heap[w.heap.size]?=some (.cells cs t (0,0)):=aE w _
theorem yz(k d:Int)(s:ByteArray)(a:Option Addr)(n c:Nat)(B b:Nat)(l:List UInt8)(w:World)(g:dt d)(j:Bu B b l w)(E:B<=w.heap.size)(x:I6 B w)(I:l.length+24<=140737488355328)(i:UInt8)(F:(k=3/\i=35)\/(k=5/\i=36)):am 25 #[aB b,.agg #[ab k,ab d,af s,ae a n c]] w λe w'=>e=.returned (.tuple #[])/\du B b (l++i::Lib.itoa d) w w':=by
 have A:=aq (Lib.itoa_length_le d g.1 g.2);have r:Hid (∀o,du B b l w (w.alloc o)):=λo=>du.old j ((ap _ _).alloc (ak _) o) E;have C:=aq x;have q:=aq g;have J:=j.lt;clear j x g;rcases F with⟨rfl,rfl⟩|⟨rfl,rfl⟩
 all_goals
  go_enter func25,ntmps25;go_wp2_with fail;refine(im B b l _ _ (by first|exact(rfl:(((35:UInt8).toNat:Nat):Int)=35)|exact(rfl:(((36:UInt8).toNat:Nat):Int)=36)) _ (r.out _).1 (by omega) (by simp;omega)).mono ?_;rintro e y ⟨rfl,f⟩;have h:=aq ((r.out _).trans f);have v:=xB f.2.2 (FO w _ 28) (by omega) (by decide);have H:y.cell? ⟨w.heap.size,1,none⟩=some (ab d):=by rw[eW v];rfl
  have t:Hid (B<=y.heap.size):=by have:=f.2.1.size;simp at this;simp only[Hid];omega
  clear f v;go_wp2_with fail;refine(Br d q.out.1 q.out.2 B _ (C.out.on h.out.2.1)).mono ?_;rintro e G ⟨rfl,m⟩;have p:=aq (du.old h.out.1 m t.out);have D:Hid (B<=G.heap.size):=az t.out m.size;clear m;go_wp2_with fail;refine(jP B b _ _ _ p.out.1 (by have:=A.out;simp[ByteArray.size];omega) D.out).mono ?_;rintro e K ⟨rfl,u⟩;have z:=aq ((h.out.trans p.out).trans u);clear u;go_wp2_with fail
  go_end0
  exact⟨rfl,by have:=z.out;simpa using this⟩
def Ends(post:List UInt8):Prop:=post=[]\/∃c p,post=c::p/\lQ c=true
theorem zm{s:ByteArray}{i:Nat}{c:UInt8}{l:List UInt8}(a:s.data.toList.drop i=c::l):∃e:i<s.size,s[i]=c:=by
 have b:i<s.size:=by
  have:=congrArg List.length a;simp at this;have d:s.data.size=s.size:=rfl;omega
 rw[zk s i b]at a;injection a with a _;exact⟨b,a⟩
theorem sq{s:ByteArray}{i:Nat}{c:UInt8}{l:List UInt8}(a:s.data.toList.drop i=c::l):s.data.toList.drop (i+1)=l:=by
 rw[<-List.tail_drop,a];rfl
theorem sn{s:ByteArray}{i:Nat}{l post:List UInt8}(a:s.data.toList.drop i=l++post):s.data.toList.drop (i+l.length)=post:=by
 rw[<-List.drop_drop,a,List.drop_left]
theorem Il{l post:List UInt8}(a:∀c∈l,lQ c=false)(d:Ends post):(l++post).takeWhile (λc=> !lQ c)=l:=by
 induction l with
 | nil=>
  rcases d with rfl|⟨c,g,rfl,e⟩
  ·rfl
  ·simp[e]
 | cons c l ih=>
  have:=a c (by simp);simp[this];exact ih (λb f=>a b (by simp[f]))
theorem uT{s:ByteArray}{i:Nat}{l post:List UInt8}(b:s.data.toList.drop i=l++post):s.extract i (i+l.length)=⟨l.toArray⟩:=by
 apply jc;apply iZ.1;have a:(s.extract i (i+l.length)).data.toList=(s.data.toList.drop i).take l.length:=by
  simp
 rw[a,b];simp
theorem Nr{s:ByteArray}{i:Nat}{l post:List UInt8}(a:s.data.toList.drop i=l++post)(k:l≠[])(b:∀c∈l,lQ c=false)(f:Ends post):ex s i=(i,⟨l.toArray⟩)::ex s (i+l.length):=by
 cases l with
 | nil=>exact absurd rfl k
 | cons c l=>
  obtain⟨m,h⟩:=zm a;have e:dO (λc=> !lQ c) s (i+1)=i+(c::l).length:=by
   have g:s.data.toList.drop (i+1)=l++post:=sq a;unfold dO;rw[g,Il (λd j=>b d (by simp[j])) f];simp;omega
  rw[Lq m (by rw[h];exact b c (by simp)),e,uT a]
theorem NT{s:ByteArray}{i:Nat}{c:UInt8}{post:List UInt8}(a:s.data.toList.drop i=c::post)(f:c=40\/c=41):ex s i=(i,⟨#[c]⟩)::ex s (i+1):=by
 obtain⟨g,d⟩:=zm a;have e:s.data.toList.drop i=[c]++post:=a;have b:=uT e;rw[Et g (by rw[d];exact f)];simp at b;rw[b]
theorem PD{s:ByteArray}{i:Nat}{post:List UInt8}(b:s.data.toList.drop i=32::post):ex s i=ex s (i+1):=by
 obtain⟨c,a⟩:=zm b;exact Lp c a
theorem D8{n:Nat}{x:Tm (n+1)}(b:cg (bw n x)=true)(m:x.1.1≠4):lw (cN (n+1) x) x.1/\x.2.2=[]:=by
 obtain⟨⟨k,a,i⟩,⟨w,c⟩,t⟩:=x;simp only at m;simp only[cg,bw,aA,gq,cm,m,false_or]at b;obtain⟨b,u⟩:=b;have v:t=[]:=by
  have:t.length=0:=by simpa using u
  exact bF this
 refine⟨?_,v⟩;have h:i.toList.isEmpty=true->i=⟨#[]⟩:=λj=>by
  rw[bE]at j;apply jc;apply iZ.1;simpa using j
 simp only[cN];by_cases o:k=1
 ·subst o;simp[oe]at b;obtain⟨d,e,l⟩:=b;have:=h (by simpa using d);subst this;simp only[Lib.itoa,cF];by_cases f:a<0
  ·rw[if_pos f];have:=Ir a.natAbs (by omega) (by omega);rw[show -(a.natAbs:Int)=a by omega]at this;exact this
  ·rw[if_neg f];have:=Iq a.toNat (by omega);rw[show ((a.toNat:Nat):Int)=a by omega]at this;exact this
 ·by_cases p:k=2
  ·subst p;simp at b;obtain⟨d,e⟩:=b;subst e;simpa using Er i d
  ·by_cases q:k=3
   ·subst q;simp[oe]at b;obtain⟨d,e,l⟩:=b;have:=h (by simpa using d);subst this;have g:=Iu a.toNat (by omega);rw[show ((a.toNat:Nat):Int)=a by omega]at g;simp only[Lib.itoa];have f:¬a<0:=by omega
    simpa [f]using g
   ·by_cases r:k=5
    ·subst r;simp[oe]at b;obtain⟨d,e,l⟩:=b;have:=h (by simpa using d);subst this;have g:=Iv a.toNat (by omega);rw[show ((a.toNat:Nat):Int)=a by omega]at g;simp only[Lib.itoa];have f:¬a<0:=by omega
     simpa [f]using g
    ·by_cases s:k=6
     ·subst s;simp at b;obtain⟨d,e⟩:=b;subst e;have:=h (by simpa using d);subst this;simpa using Ip
     ·simp[o,p,q,r,s]at b
theorem Ke:wK ⟨#[40]⟩=true:=by simp[wK,bE]
theorem GN:vh ⟨#[41]⟩=true:=by simp[vh,bE]
def sr(n:Nat)(p:List (Tm n)):List UInt8:=((p.map λy=>cN n y).map λa=>32::a).flatten
theorem xy{n:Nat}(p:List (Tm n))(post:List UInt8):Ends (sr n p++41::post):=by
 cases p with
 | nil=>exact ai ⟨41,post,rfl,by decide⟩
 | cons a p=>exact ai ⟨32,_,rfl,by decide⟩
theorem Af(s:ByteArray):(n:Nat)->(x:Tm n)->bI n x=true->(i:Nat)->(post:List UInt8)->s.data.toList.drop i=cN n x++post->Ends post->Is n x (ex s i) (ex s (i+(cN n x).length))
 | 0,x,hf,_,_,_,_=>by simp[bI]at hf
 | n+1,x,hf,i,post,g,hp=>by
  simp only[bI,aA]at hf;obtain⟨o,v⟩:=hf;by_cases h:x.1.1=4
  ·have p:∀y∈x.2.2,bI n y=true:=by
     rw[h]at v;simpa using v
   have key:∀(a:List (Tm n))(i:Nat)(post:List UInt8),(∀y∈a,bI n y=true)->s.data.toList.drop i=sr n a++41::post->yG (Is n) a (ex s i) (ex s (i+(sr n a).length)):=by
    intro a
    induction a with
    | nil=>intro i post _ _;simp[sr,yG]
    | cons y a ih=>
     intro i post z g;have l:sr n (y::a)=32::cN n y++sr n a:=rfl;rw[l]at g;have e:s.data.toList.drop i=32::(cN n y++(sr n a++41::post)):=by simpa using g
     have d:=sq e;have r:=Af s n y (z y (by simp)) (i+1) _ d (xy a post);have f:=sn d;have t:=ih (i+1+(cN n y).length) post (λu q=>z u (by simp[q])) f;rw[PD e,l];refine⟨_,r,?_⟩;have m:i+(32::cN n y++sr n a).length=i+1+(cN n y).length+(sr n a).length:=by simp;omega
     rw[m];exact t
   have D:x.1=(4,0,⟨#[]⟩):=by
    obtain⟨⟨k,F,b⟩,⟨E,c⟩,a⟩:=x;simp only at h;subst h;simp[cg,bw]at o;obtain⟨⟨e,d⟩,f⟩:=o;subst d;have:b=⟨#[]⟩:=by
     rw[bE]at e;apply jc;apply iZ.1;simpa using e
    subst this;rfl
   have B:cN (n+1) x=40::jn (x.2.2.map λy=>cN n y)++ [41]:=by simp[cN,h]
   rw[B]at g ⊢;have e:s.data.toList.drop i=40::(jn (x.2.2.map λy=>cN n y)++41::post):=by simpa using g
   have d:=sq e;have w:yG (Is n) x.2.2 (ex s (i+1)) (ex s (i+1+(jn (x.2.2.map λy=>cN n y)).length)):=by
    cases hp2:x.2.2 with
    | nil=>simp[jn,yG]
    | cons y a=>
     rw[hp2]at d p;have l:jn ((y::a).map λy=>cN n y)=cN n y++sr n a:=rfl;rw[l]at d ⊢;have f:s.data.toList.drop (i+1)=cN n y++(sr n a++41::post):=by simpa using d
     have r:=Af s n y (p y (by simp)) (i+1) _ f (xy a post);have t:=key a (i+1+(cN n y).length) post (λu q=>p u (by simp[q])) (sn f);refine⟨_,r,?_⟩;have m:i+1+(cN n y++sr n a).length=i+1+(cN n y).length+(sr n a).length:=by simp;omega
     rw[m];exact t
   have f:=sn d;rw[NT f (ai rfl)]at w;rw[NT e (ah rfl)];have A:i+(40::jn (x.2.2.map λy=>cN n y)++ [41]).length=i+1+(jn (x.2.2.map λy=>cN n y)).length+1:=by simp;omega
   rw[A];exact⟨_,_,rfl,ai ⟨Ke,D,_,w,GN⟩⟩
  ·obtain⟨j,C⟩:=D8 o h;rw[Nr g j.1 j.2.1 hp];exact⟨_,_,rfl,ah ⟨j.2.2.2.2,j.2.2.1,j.2.2.2.1.symm,C,rfl⟩⟩
theorem Kf(L:Nat):(n:Nat)->(x:Tm n)->(a r:List Tok)->Is n x a r->∀d,zn L a d=ij L r d
 | 0,_,_,_,b,_=>b.elim
 | n+1,x,a,r,b,d=>by
  have key:∀(l:List (Tm n))(a m:List Tok)(e:Nat),yG (Is n) l a m->ij L a (e+1)=ij L m (e+1):=by
   intro l
   induction l with
   | nil=>intro a m e b;have p:a=m:=b;rw[p]
   | cons v l ih=>
    intro a m e b;obtain⟨j,i,q⟩:=b;rw[vU L a e,Kf L n v a j i (e+1),ih j m e q];intro t u f;obtain⟨t2,w,k,g⟩:=i.head;rw[k]at f;injection f with f _;rw[<-f];exact g
  obtain⟨t,u,rfl,b⟩:=b;rcases b with⟨o,h,_,_,s⟩|⟨o,_,c,h,g⟩
  ·simp[zn,o,h,s]
  ·simp only[zn,o,cF];rw[key _ _ _ d h,vT _ _ _ _ g]
theorem I1(d:Int)(s:ByteArray)(a:Option Addr)(n c:Nat)(B b:Nat)(l:List UInt8)(w:World)(f:dt d)(k:Bu B b l w)(v:B<=w.heap.size)(p:I6 B w)(y:l.length+24<=140737488355328):am 25 #[aB b,.agg #[ab 1,ab d,af s,ae a n c]] w λe w'=>e=.returned (.tuple #[])/\du B b (l++Lib.itoa d) w w':=by
 have r:=aq (Lib.itoa_length_le d f.1 f.2);have g:Hid (∀o,du B b l w (w.alloc o)):=λo=>du.old k ((ap _ _).alloc (ak _) o) v;have t:=aq p;have j:=aq f;clear k p f;go_enter func25,ntmps25;go_wp2_with fail;refine(Br d j.out.1 j.out.2 B _ (t.out.on (g.out _).2.1)).mono ?_;rintro e x ⟨rfl,h⟩;have i:=aq ((g.out _).trans (du.old (g.out _).1 h (by simp;omega)));have u:Hid (B<=x.heap.size):=by have:=h.size;simp at this;simp only[Hid];omega
 clear h;go_wp2_with fail;refine(jP B b _ _ _ i.out.1 (by have:=r.out;simp[ByteArray.size];omega) u.out).mono ?_;rintro e z ⟨rfl,m⟩;have q:=aq (i.out.trans m);clear m;go_wp2_with fail
 go_end0
 exact⟨rfl,by have:=q.out;simpa using this⟩
theorem EJ(k:Int)(s:ByteArray)(a:Option Addr)(n c:Nat)(B b:Nat)(l:List UInt8)(w:World)(f:Bu B b l w)(i:B<=w.heap.size)(j:l.length+s.size<=140737488355328):am 25 #[aB b,.agg #[ab 2,ab k,af s,ae a n c]] w λe w'=>e=.returned (.tuple #[])/\du B b (l++s.data.toList) w w':=by
 have d:Hid (∀o,du B b l w (w.alloc o)):=λo=>du.old f ((ap _ _).alloc (ak _) o) i;clear f;go_enter func25,ntmps25;go_wp2_with fail;refine(jP B b _ _ _ (d.out _).1 j (by simp;omega)).mono ?_;rintro e m ⟨rfl,g⟩;have h:=aq ((d.out _).trans g);clear g;go_wp2_with fail
 go_end0
 exact⟨rfl,h.out⟩
theorem EK(k:Int)(s:ByteArray)(a:Option Addr)(n c:Nat)(B b:Nat)(l:List UInt8)(w:World)(f:Bu B b l w)(i:B<=w.heap.size)(j:l.length+1<=140737488355328):am 25 #[aB b,.agg #[ab 6,ab k,af s,ae a n c]] w λe w'=>e=.returned (.tuple #[])/\du B b (l++ [95]) w w':=by
 have d:Hid (∀o,du B b l w (w.alloc o)):=λo=>du.old f ((ap _ _).alloc (ak _) o) i;clear f;go_enter func25,ntmps25;go_wp2_with fail;refine(im B b l _ 95 rfl _ (d.out _).1 j (by simp;omega)).mono ?_;rintro e m ⟨rfl,g⟩;have h:=aq ((d.out _).trans g);clear g;go_wp2_with fail
 go_end0
 exact⟨rfl,h.out⟩
theorem EI(k r:Int)(s:ByteArray)(a:Option Addr)(n c:Nat)(B b:Nat)(l:List UInt8)(w:World)(d:Bu B b l w)(q:B<=w.heap.size)(f:¬k=1)(g:¬k=2)(h:¬k=3)(i:¬k=4)(j:¬k=5)(m:¬k=6):am 25 #[aB b,.agg #[ab k,ab r,af s,ae a n c]] w λe w'=>e=.returned (.tuple #[])/\du B b l w w':=by
 have p:Hid (∀o,du B b l w (w.alloc o)):=λo=>du.old d ((ap _ _).alloc (ak _) o) q;have t:(k==1)=false:=by simpa using f
 have u:(k==2)=false:=by simpa using g
 have v:(k==3)=false:=by simpa using h
 have x:(k==4)=false:=by simpa using i
 have y:(k==5)=false:=by simpa using j
 have z:(k==6)=false:=by simpa using m
 clear d f g h i j m;go_enter func25,ntmps25;go_wp2_with fail
 go_end0
 exact⟨rfl,p.out _⟩
def sA(n:Nat)(p:List (Tm n))(k:Nat):List UInt8:=jn ((p.take k).map λy=>cN n y)
theorem GQ(n:Nat)(p:List (Tm n))(k:Nat)(x:Tm n)(d:p[k]?=some x):sA n p (k+1)=if k=0 then cN n x else sA n p k++32::cN n x:=by
 obtain⟨e,c⟩:=aO.1 d;unfold sA;rw[kJ e,c,fP,aM,b8,MM];by_cases a:k=0
 ·subst a;simp
 ·rw[if_neg a,if_neg];intro b;have:=congrArg List.length b;rw[eE,dy,jF]at this;omega
theorem Kg(n:Nat)(p:List (Tm n))(k:Nat)(a:∀y∈p,(cN n y).length+1<=24*wt n y):(sA n p k).length<=24*((p.take k).map λy=>wt n y).sum:=
 Kh n (λy=>cN n y) (p.take k) (λy b=>a y (List.mem_of_mem_take b))
theorem FP(n:Nat)(p:List (Tm n))(k:Nat):((p.take k).map λy=>wt n y).sum<=(p.map λy=>wt n y).sum:=by
 conv=>rhs;rw[<-ir k p]
 rw[fP,mU];omega
theorem Aw(n:Nat)(p:List (Tm n))(k:Nat)(x:Tm n)(c:p[k]?=some x):((p.take k).map λy=>wt n y).sum+wt n x<=(p.map λy=>wt n y).sum:=by
 have a:=FP n p (k+1);obtain⟨d,b⟩:=aO.1 c;rw[kJ d,b]at a;simpa using a
theorem ww(n:Nat)(ih:FW n)(p:List (Tm n))(len:Nat)(P:Hid (p.length=len))(a:Option Addr)(pc C B b:Nat)(l:List UInt8)(w:World)(f:Hid (p=[]\/∃b o,a=some ⟨b,o,none⟩/\b<C/\∀(i:Nat)(y:Tm n),p[i]?=some y->dB w b (o+i*4) n y/\In C w n y))(ao:len<=9223372036854775807)(z:C<=B)(N:Bu B b l w)(O:B<=w.heap.size)(R:I6 B w)(Q:l.length+24*(1+(p.map λy=>wt n y).sum)<=140737488355328):am 60 #[aB b,ae a len pc] w λe w'=>e=.returned (.tuple #[])/\du B b (l++(40::jn (p.map λy=>cN n y)++ [41])) w w':=by
 have L:Hid (∀k,(sA n p k).length<=24*((p.take k).map λy=>wt n y).sum):=λk=>Kg n p k (λy I=>by
  rcases f.out with f|⟨ah,po,_,_,f⟩
  ·rw[f]at I;cases I
  ·obtain⟨i,Z⟩:=cM I
   exact yA n y C w (f i y Z).2)
 have G:=aq Q;have W:=aq N;have X:=aq R;clear N R Q;go_enter func60,ntmps60;go_wp2_with fail;refine(im B b l _ 40 rfl _ W.out (by have:=G.out;omega) O).mono ?_;rintro e m ⟨rfl,h⟩;have T:=aq h;clear h;go_wp2_with fail;go_loopw [10] (λi wr=>∃k:Nat,k<=len/\i=ab k/\Hid (du B b (l++40::sA n p k) w wr)) (λi _=>len-(intOf i).toNat)
 case atStart=>exact⟨0,by omega,rfl,by have:=T.out;simpa [Hid,sA,jn]using this⟩
 case round=>
  obtain⟨k,aj,rfl,g⟩:=hrel;have x:Hid (B<=wr.heap.size):=az O g.out.2.1.size;by_cases ad:k<len
  ·obtain⟨c,t⟩:∃c,p[k]?=some c:=⟨p[k]'(by rw[P.out];exact ad),aG _⟩;have M:=aq (GQ n p k c t);have H:Hid ((l++40::sA n p k).length+1+24*wt n c<=140737488355328):=by
    have h:=Aw n p k c t;have j:=L.out k;have d:=G.out;simp only[Hid,bk,bf];omega
   rcases f.out with f|⟨ah,po,rfl,ag,f⟩
   ·subst f;simp at t
   obtain⟨D,E⟩:=f k c t;replace D:=D.below (g.out.2.1.mono z) ag;replace E:=E.below (g.out.2.1.mono z);clear f t;cases n with
   | zero=>exact D.elim
   | succ n=>
   obtain⟨au,av,aw,ax⟩:=D
   have K:Hid (∀(u:List UInt8)(m:World),Below B wr m->Bu B b u m->u.length+24*wt (n+1) c<=140737488355328->am 25 #[aB b,.agg #[ab c.1.1,ab c.1.2.1,af c.1.2.2,ae c.2.1.1 c.2.2.length c.2.1.2]] m λe w'=>e=.returned (.tuple #[])/\du B b (u++cN (n+1) c) m w'):=
    λu m h j d=>ih c C B b u m (E.below (h.mono z)) z j (az x.out h.size) (X.out.on (g.out.2.1.trans h)) d
   have V:=aq g.out.1.lt;clear ih E;generalize c.2.2.length=ai at*;generalize cN (n+1) c=ar at*;have q:Hid (∀o,du B b (l++40::sA (n+1) p k) wr (wr.alloc o)):=λo=>du.old g.out.1 ((ap _ _).alloc (ak _) o) x.out;have al:(0:Int)<=(k:Int):=by omega
   have an:(k:Int)<(len:Int):=by omega
   by_cases A:k=0
   ·have v:=aq A;have aa:¬(0:Int)<(k:Int):=by omega
    clear A;go_wp2_with fail;refine(K.out (l++40::sA (n+1) p k) _ (q.out _).2.1 (q.out _).1 (by have:=H.out;omega)).mono ?_;rintro e S ⟨rfl,d⟩;have r:=aq ((g.out.trans (q.out _)).trans d);clear d;go_wp2_with fail;go_roundw
    case rel=>
     refine⟨k+1,by omega,by go_num,aq ?_⟩;have:=r.out;rw[M.out,if_pos v.out];have Y:sA (n+1) p k=[]:=by rw[v.out];rfl
     rw[Y]at this;simpa using this
    case measure=>simp[intOf];omega
   ·have v:=aq A;have aa:(0:Int)<(k:Int):=by omega
    clear A;go_wp2_with fail;refine(im B b _ _ 32 rfl _ (q.out _).1 (by have:=H.out;omega) (by have:=x.out;simp;omega)).mono ?_;rintro e F ⟨rfl,j⟩;have J:=aq ((g.out.trans (q.out _)).trans j);have U:=aq ((q.out _).2.1.trans j.2.1);have s:=xB j.2.2 (FO wr _ 28) (by have:=V.out;omega) (by decide);have y0:F.cell? ⟨wr.heap.size,0,none⟩=some (ab c.1.1):=by rw[eW s];rfl
    have y1:F.cell? ⟨wr.heap.size,1,none⟩=some (ab c.1.2.1):=by rw[eW s];rfl
    have y2:F.cell? ⟨wr.heap.size,2,none⟩=some (af c.1.2.2):=by rw[eW s];rfl
    have ay:F.cell? ⟨wr.heap.size,3,none⟩=some (ae c.2.1.1 ai c.2.1.2):=by rw[eW s];rfl
    clear j s;go_wp2_with fail;refine(K.out _ _ U.out J.out.1 (by have:=H.out;simp at this ⊢;omega)).mono ?_;rintro e S ⟨rfl,d⟩;have r:=aq (J.out.trans d);clear d;go_wp2_with fail;go_roundw
    case rel=>
     refine⟨k+1,by omega,by go_num,aq ?_⟩;have:=r.out;rw[M.out,if_neg v.out];simpa using this
    case measure=>simp[intOf];omega
  ·go_wp2_with fail;refine(im B b _ _ 41 rfl _ g.out.1 (by have h:=G.out;have j:=L.out k;have d:=FP n p k;simp;omega) x.out).mono ?_;rintro e S ⟨rfl,d⟩;have r:=aq (g.out.trans d);clear d;go_wp2_with fail
   go_end0
   refine⟨rfl,?_⟩;have e:sA n p k=jn (p.map λy=>cN n y):=by unfold sA;rw[bu (by rw[P.out];omega)]
   have:=r.out;rw[e]at this;simpa using this
theorem I3(j:Int)(s:ByteArray)(a:Option Addr)(n c:Nat)(B b:Nat)(l t:List UInt8)(w:World)(f:Bu B b l w)(i:B<=w.heap.size)(H:Hid (∀w1,aj w w1->Bu B b l w1->am 60 #[aB b,ae a n c] w1 λe w'=>e=.returned (.tuple #[])/\du B b (l++t) w1 w')):am 25 #[aB b,.agg #[ab 4,ab j,af s,ae a n c]] w λe w'=>e=.returned (.tuple #[])/\du B b (l++t) w w':=by
 have d:Hid (∀o,du B b l w (w.alloc o)):=λo=>du.old f ((ap _ _).alloc (ak _) o) i;clear f;go_enter func25,ntmps25;go_wp2_with fail;refine(H.out _ ((ap _ _).alloc (ak _) _) (d.out _).1).mono ?_;rintro e k ⟨rfl,g⟩;have h:=aq ((d.out _).trans g);clear g;go_wp2_with fail
 go_end0
 exact⟨rfl,h.out⟩
theorem I0(n:Nat):FW n:=by
 induction n with
 | zero=>intro F A f b l h r;exact r.elim
 | succ n ih=>
  intro F A f b l h r t i d o H;obtain⟨⟨k,c,e⟩,⟨g,pc⟩,a⟩:=F;have O:=r;obtain⟨⟨_,p,J,I,C⟩,j⟩:=r;simp only at p J I C j;unfold maxLen at C;have K:wt (n+1) ((k,c,e),(g,pc),a)=1+e.size+(a.map λm=>wt n m).sum:=rfl;rw[K]at H
  show am 25 #[aB b,.agg #[ab k,ab c,af e,ae g a.length pc]] h λs M=>s=.returned (.tuple #[])/\du f b (l++(if k=1 then Lib.itoa c else if k=2 then e.data.toList else if k=3 then 35::Lib.itoa c
   else if k=4 then 40::jn (a.map λm=>cN n m)++ [41]else if k=5 then 36::Lib.itoa c else if k=6 then [95]else [])) h M
  by_cases u:k=1
  ·subst u;exact I1 c e g a.length pc f b l h p i d o (by omega)
  rw[if_neg u];by_cases v:k=2
  ·subst v;exact EJ c e g a.length pc f b l h i d (by omega)
  rw[if_neg v];by_cases w:k=3
  ·subst w;exact yz 3 c e g a.length pc f b l h p i d o (by omega) 35 (ah ⟨rfl,rfl⟩)
  rw[if_neg w];by_cases x:k=4
  ·subst x;refine I3 c e g a.length pc f b l _ h i d (λN q G=>ww n ih a a.length rfl g pc A f b l N ?_ (by omega) t G (az d q.size) (o.on (q.mono d)) (by omega));rcases j with j|⟨L,po,s,B,j⟩
   ·exact ah j
   ·exact ai ⟨L,po,s,B,λE m D=>⟨(j E m D).1.below (q.mono (az t d)) B,(j E m D).2.below (q.mono (az t d))⟩⟩
  rw[if_neg x];by_cases y:k=5
  ·subst y;exact yz 5 c e g a.length pc f b l h p i d o (by omega) 36 (ai ⟨rfl,rfl⟩)
  rw[if_neg y];by_cases z:k=6
  ·subst z;exact EK c e g a.length pc f b l h i d (by omega)
  rw[if_neg z,dY];exact EI k c e g a.length pc f b l h i d u v w x y z
theorem I6.mono{B a:Nat}{w:World}(b:I6 B w)(c:B<=a):I6 a w:=λw' d=>b w' (d.mono c)
theorem D0(w:World)(k m:Int)(s:ByteArray)(a:Option Addr)(l c:Nat)(g:Int)(t j:List UInt8)(q:Hid ((if g=0 then t else [])=j))(y:Hid (∀w1,aj w w1->am 23 #[.agg #[ab k,ab m,af s,ae a l c]] w1 λe w'=>e=.returned (ab g)/\aj w1 w'))(A:Hid (∀w1 b,aj w w1->w.heap.size<=b->Bu b b [] w1->b<=w1.heap.size->am 25 #[aB b,.agg #[ab k,ab m,af s,ae a l c]] w1 λe w'=>e=.returned (.tuple #[])/\du b b t w1 w')):am 6 #[.agg #[ab k,ab m,af s,ae a l c]] w λe w'=>e=.returned (.tuple #[af ⟨j.toArray⟩,ab g])/\aj w w':=by
 go_enter func6,ntmps6;go_wp2_with fail;refine(y.out _ ((ap _ _).alloc (ak _) _)).mono ?_;rintro e w1 ⟨rfl,i⟩;have d:Hid (aj w w1/\w.heap.size+1<=w1.heap.size):=⟨((ap _ _).alloc (ak _) _).trans (i.mono (by simp)),by have:=i.size;simpa using this⟩;have f:=ar i;simp only[iy]at f;have D:=(f w.heap.size 0 (by omega)).trans (by simp[go_sem]:_=some (Value.int .i64 k));have E:=(f w.heap.size 1 (by omega)).trans (by simp[go_sem]:_=some (Value.int .i64 m));have F:=(f w.heap.size 2 (by omega)).trans (by simp[go_sem]:_=some (Value.string s));have G:=(f w.heap.size 3 (by omega)).trans (by simp[go_sem]:_=some (Value.slice a l c));clear f i;by_cases h:g=0
 ·subst h;have I:w.heap.size<w1.heap.size:=by have:=d.out.2;omega
  have z:Hid (Bu w1.heap.size w1.heap.size [] (w1.alloc (.cells #[.pointer none,ae none 0 0] 66))):=Lib.IsBuilderF.of (Lib.fresh_isBuilder 66 5 w1);go_wp2_with fail;refine(A.out _ w1.heap.size (d.out.1.alloc d.out.1.size _) (by omega) z.out (by simp)).mono ?_;rintro e p ⟨rfl,u⟩;have n:=aq u;clear u;have r:Hid (w1.heap.size<=p.heap.size/\aj w p):=by
   have B:=n.out.2.1.size;simp at B;refine⟨by omega,(d.out.1.alloc d.out.1.size _).trans (n.out.2.1.mono (by omega))⟩
  go_wp2_with fail;refine(Tryz.Builder_String_any_k w1.heap.size w1.heap.size t p n.out.1 r.out.1).mono ?_;rintro e C ⟨rfl,_,v,_⟩;have x:Hid (aj w C):=r.out.2.trans (v.mono (by omega));clear v;have o:Hid (t=j):=q.out;go_wp2_with fail
  go_ret2
  refine⟨?_,x.out⟩;rw[<-o.out];rfl
 ·have H:(g !=0)=true:=by simpa using h
  have o:Hid ([]=j):=(if_neg h).symm.trans q.out;clear h;go_wp2_with fail
  go_ret2
  refine⟨?_,d.out.1⟩;rw[<-o.out];rfl
theorem Hu(n:Nat)(x:Tm n)(B:Nat)(w:World)(d:In B w n x)(c:B<=w.heap.size)(j:I6 w.heap.size w)(g:(ax n x).length<=2097152)(l:wt n x<=2097152):am 6 #[df n x] w λe w'=>e=.returned (.tuple #[af ⟨(if bv n x=0 then cN n x else []).toArray⟩,ab (bv n x)])/\aj w w':=by
 cases n with
 | zero=>exact d.elim
 | succ n=>
 exact D0 w x.1.1 x.1.2.1 x.1.2.2 x.2.1.1 x.2.2.length x.2.1.2 (bv (n+1) x) (cN (n+1) x) _ rfl
  (λf a=>dC (n+1) x B f (d.below (a.mono c)) (az c a.size) g)
  (λf b a k i h=>I0 (n+1) x B b b [] f (d.below (a.mono c)) (by omega) i h (I6.mono (j.on a) k) (by simp;omega))
end Go.Proofs.YtmmahddlcldmiaaGreatDoor
