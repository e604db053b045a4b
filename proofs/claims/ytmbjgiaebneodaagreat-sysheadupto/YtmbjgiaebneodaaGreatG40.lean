/- What is proved here: plain facts and contracts that the claimed theorem stands on. No condition but those that each names. -/
import Derived.Test.YtmbjgiaebneodaaGreatG39
namespace Go.Proofs.YtmbjgiaebneodaaGreat
open Go.RowKit
set_option maxRecDepth 100000
set_option maxHeartbeats 1000000
theorem zC(b:Nat)(name:ByteArray)(w:World)(d:w.cell? ⟨b,0,none⟩=some (.string name))(c:Hid (∀w1:World,Calls Tryz.prog 52 #[.string name] w1 λe w'=>e=.returned (.string name)/\Below w1.heap.size w1 w')):Calls Tryz.prog 30 #[.pointer (some ⟨b,0,none⟩)] w λe w'=>e=.returned (.string name)/\Below w.heap.size w w':=by
 go_enter Tryz.func30,Tryz.ntmps30;go_wp2_with fail;refine(c.out _).mono ?_;rintro e w1 ⟨rfl,a⟩;have HB:=ai a;clear a;go_wp2_with fail
 go_ret
 exact⟨rfl,HB.out⟩
theorem P1.sname{b a:Nat}{name:ByteArray}{room:Int}{cs:Tc}{c:List Tc}{k:Nat}{M:Nat->Prop}{w:World}(d:P1 b a name room cs c k M w)(h:name.size<=2048):Calls Tryz.prog 30 #[.pointer (some ⟨a,0,none⟩)] w λe w'=>e=.returned (.string name)/\Below w.heap.size w w':=by
 obtain⟨l,s,p,x,r,t,v,n,o,j,f,_⟩:=d;obtain⟨u,m,q,g,_⟩:=f.heap.box;exact zC a name w (PL.cells g).1 λi=>dA name i h
theorem P1.mails2{v u:Nat}{name:ByteArray}{room:Int}{cs:Tc}{g:List Tc}{k:Nat}{M:Nat->Prop}{w:World}(C:P1 v u name room cs g k M w)(I:k<=50000)(D:g.length<=999):Calls Tryz.prog 32 #[.pointer (some ⟨u,0,none⟩)] w λe w'=>∃(ys:List Tc)(a:Option Addr)(c:Nat),e=.returned (.slice a g.length c)/\Hid (ys.length=g.length/\Below w.heap.size w w'/\eS w'.heap.size w' 13 ys a/\ys.map (cn 13)=g/\(∀b,(Value.slice a g.length c).ownBlock=some b->w.heap.size<=b)/\∀y∈ys,bv 13 y=0/\cg (λq=>w.heap.size<=q) 13 y):=by
 obtain⟨Q,Y,l,ab,X,Z,aa,V,W,O,s,⟨rfl,rfl⟩,T,U⟩:=C;have G:∀y∈l,bv 13 y=0:=λy d=>((s.front (N:=12)).2.2.1 y (bU _ d)).1;have S:l.length<=999:=by simpa using D
 refine(s.mails (N:=12) I (by omega)).mono ?_;rintro e w' ⟨ys,z,a,c,rfl,x⟩;obtain⟨t,j,p⟩:=x.out;have E:z=(l.map (cn 13)).length:=by
  rw[<-t,dN];exact cS _ _ _ p
 subst E;obtain⟨P,R,m,_,n,_⟩:=eI.lay (dK 13) (f:=f8 13) (λ_=>rfl) j;injection m with m _ _;subst m;refine⟨ys,a,c,rfl,t,j.1,?_,LB ys l p,λb F=>(j.2.1.lt b F).1,λy d=>⟨?_,(j.2.2 y d).2.mono λq J=>by rcases J.1 with r|r<;>omega⟩⟩
 ·rcases n with n|⟨B,o,A,H,h⟩
  ·exact ae n
  ·exact af ⟨B,o,A,H,λi y d=>⟨⟨(h i y d).1 0 _ rfl,(h i y d).1 1 _ rfl,(h i y d).1 2 _ rfl,(h i y d).1 3 _ rfl⟩,(h i y d).2⟩⟩
 ·obtain⟨r,L,K⟩:=qE _ _ _ p y d;exact(bI K).trans (G r L)
theorem Br(g:Nat)(t:Option Nat)(a:Int)(nm:ByteArray)(k:Value)(L:Nat)(w:World)(I:Option Addr->Nat->World->Prop)(Q:g<w.heap.size)(z:Hid (w.cell? ⟨g,3,none⟩=some (.map t)))(A:Hid (∀W,Below w.heap.size w W->(Instr.lookup 64 (.map t) (.int .i64 a) true).run Tryz.prog W=.ok (.tuple #[k,.bool true]) W))(C:Hid (∀W,Below w.heap.size w W->Calls Tryz.prog 30 #[k] W λe w'=>e=.returned (.string nm)/\Below W.heap.size W w'))(D:Hid (∀W,Below w.heap.size w W->Calls Tryz.prog 31 #[k] W λe w'=>∃y0 y1 y2 ya yl yc,e=.returned (.agg #[.int .i64 y0,.int .i64 y1,.string y2,.slice ya yl yc])/\Below W.heap.size W w'))(B:Hid (∀W,Below w.heap.size w W->Calls Tryz.prog 32 #[k] W λe w'=>∃ma d,e=.returned (.slice ma L d)/\Hid (Below W.heap.size W w'/\∀H,w.heap.size<W.heap.size->bi (λq=>q=w.heap.size) w' H->I ma d H))):Calls Tryz.prog 15 #[.pointer (some ⟨g,0,none⟩),.int .i64 a] w λe w'=>∃y0 y1 y2 ya yl yc ma d,e=.returned (.tuple #[.string nm,.agg #[.int .i64 y0,.int .i64 y1,.string y2,.slice ya yl yc],.slice ma L d,.int .i64 0])/\Hid (I ma d w'/\Below w.heap.size w w'):=by
 go_enter Tryz.func15,Tryz.ntmps15;go_upto_region 1 with fail;generalize s:w.alloc _=u;have HB:Hid (Below w.heap.size w u):=by
  rw[<-s];exact(ah _ _).alloc (ag _) _
 have E:Hid (u.heap[w.heap.size]?=some (.cells #[.int .i64 0,.int .i64 0,.string ⟨#[]⟩,.slice none 0 0] 30)):=by
  rw[<-s];exact ay _ _
 clear s;have P:=A.out _ HB.out;have O:u.cell? ⟨g,3,none⟩=some (.map t):=(HB.out.cell (p:=⟨g,3,none⟩) Q).trans z.out;clear A z;go_wp2_with fail;refine(C.out _ HB.out).mono ?_;rintro e V ⟨rfl,m⟩;have i:=ai (HB.out.trans (m.mono HB.out.size));have F:=ai (fx m E.out);clear m C P O HB E;go_wp2_with fail;refine(D.out _ i.out).mono ?_;rintro e X ⟨y0,y1,y2,ya,yl,yc,rfl,n⟩;have j:=ai (i.out.trans (n.mono i.out.size));have l:=ai (fx n F.out);clear n D i F;go_wp2_with fail;refine(B.out _ j.out).mono ?_;rintro e b ⟨ma,d,rfl,h⟩;have x:=ai (j.out.trans (h.out.1.mono j.out.size));have c:=fx h.out.1 l.out;have G:=ai (h.out.2 _ (aE.1 l.out).1 (mE b w.heap.size 0 (.int .i64 y0) (.int .i64 y1) (.string y2) (.slice ya yl yc)));have y:Hid (Below w.heap.size w (cM b w.heap.size 0 (.int .i64 y0) (.int .i64 y1) (.string y2) (.slice ya yl yc))):=(dx (o:=0) (v0:=.int .i64 y0) (v1:=.int .i64 y1) (v2:=.string y2) (v3:=.slice ya yl yc) x.out (ag _));have f:=ai (uY c (.int .i64 y0) (.int .i64 y1) (.string y2) (.slice ya yl yc));obtain⟨q,r⟩:∃q,q=w.heap.size:=⟨_,rfl⟩;rw[<-r]at c f y G ⊢;have N:=ai r;clear r;have Y:b.cell? ⟨q,0,none⟩=some (.int .i64 0):=ab c 0;have Z:b.cell? ⟨q,1,none⟩=some (.int .i64 0):=ab c 1;have aa:b.cell? ⟨q,2,none⟩=some (.string ⟨#[]⟩):=ab c 2;have ad:b.cell? ⟨q,3,none⟩=some (.slice none 0 0):=ab c 3;have R:b.frozen? ⟨q,0,none⟩=false:=by simp[World.frozen?,c]
 have S:b.frozen? ⟨q,1,none⟩=false:=by simp[World.frozen?,c]
 have T:b.frozen? ⟨q,2,none⟩=false:=by simp[World.frozen?,c]
 have U:b.frozen? ⟨q,3,none⟩=false:=by simp[World.frozen?,c]
 clear c h B l j x;go_wp2_with fail;have J:(cM b q 0 (.int .i64 y0) (.int .i64 y1) (.string y2) (.slice ya yl yc)).cell? ⟨q,0,none⟩=some (.int .i64 y0):=ab f.out 0;have d1:(cM b q 0 (.int .i64 y0) (.int .i64 y1) (.string y2) (.slice ya yl yc)).cell? ⟨q,1,none⟩=some (.int .i64 y1):=ab f.out 1;have K:(cM b q 0 (.int .i64 y0) (.int .i64 y1) (.string y2) (.slice ya yl yc)).cell? ⟨q,2,none⟩=some (.string y2):=ab f.out 2;have M:(cM b q 0 (.int .i64 y0) (.int .i64 y1) (.string y2) (.slice ya yl yc)).cell? ⟨q,3,none⟩=some (.slice ya yl yc):=ab f.out 3;simp only[cM,cQ]at J d1 K M;exact ao (v:=.tuple #[.string nm,.agg #[.int .i64 y0,.int .i64 y1,.string y2,.slice ya yl yc],.slice ma L d,.int .i64 0]) (by simp[results,Tryz.results15,go_sem,J,d1,K,M]) rfl ⟨y0,y1,y2,ya,yl,yc,ma,d,rfl,G.out,N.out▸y.out⟩
section
variable {p:mg} {s:Sy} {d:fX} {w:World}
theorem aV.proc(j:aV p s d w){a:Int}{nm:ByteArray}{cs:Tc}{c:List Tc}(A:s.get a=some (nm,cs,c))(R:nm.size<=2048)(Z:d.k<=47000):Calls Tryz.prog 15 #[.pointer (some ⟨p.b,0,none⟩),.int .i64 a] w λe w'=>∃y0 y1 y2 ya yl yc ma q,e=.returned (.tuple #[.string nm,.agg #[.int .i64 y0,.int .i64 y1,.string y2,.slice ya yl yc],.slice ma c.length q,.int .i64 0])/\Hid ((∃ys:List Tc,ys.length=c.length/\eS w'.heap.size w' 13 ys ma/\ys.map (cn 13)=c/\∀y∈ys,bv 13 y=0)/\Below w.heap.size w w'):=by
 obtain⟨r,H⟩:∃r,dd d.l a=some r:=by
  have:=j.alive a;rw[A]at this;exact gA.1 this
 obtain⟨X,N,M,m,x,Y⟩:=j.ps a r H;rw[A]at m;obtain⟨rfl,rfl,rfl⟩:nm=X/\cs=N/\c=M:=by
  injection m with m;injection m with u h;injection h with h v;exact⟨u,h,v⟩
 refine Br p.b d.po a nm (tY r) c.length w (λma q w'=>∃ys:List Tc,ys.length=c.length/\eS w'.heap.size w' 13 ys ma/\ys.map (cn 13)=c/\∀y∈ys,bv 13 y=0) j.lo.2 j.cells.2.2.2 (λg f=>?_) (λg f=>(x.later f).sname R) (λg f=>?_) λg f=>?_
 ·have:=(j.later f).look a true;rw[if_pos rfl,H]at this;exact this
 ·refine((x.later f).state (by omega)).mono ?_;rintro e w' ⟨y,rfl,t⟩;exact⟨y.1.1,y.1.2.1,y.1.2.2,y.2.1.1,y.2.2.length,y.2.1.2,rfl,t.out.1⟩
 ·refine((x.later f).mails2 (by omega) (by omega)).mono ?_;rintro e w' ⟨ys,ma,q,rfl,t⟩;obtain⟨T,I,U,V,W,J⟩:=t.out;have ab:=I.size;have ad:w.heap.size<g.heap.size\/g.heap.size<=w.heap.size:=by omega
  refine⟨ma,q,rfl,I,λL aa z=>⟨ys,T,?_,V,λy n=>(J y n).1⟩⟩;rcases U with O|⟨i,o,u,h,v⟩
  ·exact ae O
  ·subst u;have A:=W i rfl;refine af ⟨i,o,rfl,aM h z.size,λS y n=>?_⟩;have P:L.heap[i]?=w'.heap[i]? :=z.block i h (by omega);have G:=v S y n;have Q:=eR z (D:=λK=>g.heap.size<=K) (λK ag ah=>by omega) ⟨G.2,(J y (ax n)).2⟩;refine⟨?_,Q.1⟩;obtain⟨B,C,E,F⟩:=G.1;simp only[World.cell?,<-P]at B C E F;exact⟨B,C,E,F⟩
end
def wN:ByteArray:=⟨#[110]⟩
def fw:ByteArray:=⟨#[97,100,100]⟩
def bG:ByteArray:=⟨#[114,101,108,97,121]⟩
def lX(k:Int)(N:Nat):Tm (N+1):=aS 5 k N
def zx:Tm 3:=cI 2 [aQ wN 1,lX 1 1]
def oN:Tm 3:=cI 2 [aQ wN 1,cI 1 [aQ fw 0,lX 1 0,aS 1 1 0]]
def iV:List (Bh 3):=[(bG,(none,0),[((lX 0 2,zx,lX 0 2),(none,0),[(1,(lX 0 2,oN),.empty,0)])])]
theorem Bo:jm 3 iV=true:=by
 have a:ch bG=true:=by simp[ch,bG,kC,eX,nS,show (⟨#[114,101,108,97,121]⟩:ByteArray).size=5 from rfl]
 have b:(ByteArray.empty).toList=[]:=by simp[dm]
 simp[jm,iV,sj,qS,lE,th,a,b]
theorem D8:bv 8 (cO 2 iV)=0:=by
 have k:ap 8 (cO 2 iV)=[((4,0,.empty),(none,2,0)),((2,0,iz),(none,0,0)),((4,0,.empty),(none,3,0)),((2,0,mR),(none,0,0)),((2,0,bG),(none,0,0)),((4,0,.empty),(none,5,0)),((2,0,BH),(none,0,0)),((5,0,.empty),(none,0,0)),((4,0,.empty),(none,2,0)),((2,0,wN),(none,0,0)),((5,1,.empty),(none,0,0)),((4,0,.empty),(none,1,0)),((4,0,.empty),(none,3,0)),((2,0,iB),(none,0,0)),((5,0,.empty),(none,0,0)),((4,0,.empty),(none,2,0)),((2,0,wN),(none,0,0)),((4,0,.empty),(none,3,0)),((2,0,fw),(none,0,0)),((5,1,.empty),(none,0,0)),((1,1,.empty),(none,0,0)),((5,0,.empty),(none,0,0))]:=rfl;have d1:my 8 (cO 2 iV) 0=[0,1,1,2,2,2,3,3,3,4,4,3,4,5,5,5,6,6,7,7,7,3]:=rfl;have l:(sz 8 (cO 2 iV):Int)<=200:=by decide
 have b:(ByteArray.empty).toList=[]:=by simp[dm]
 have d:ch iz=true:=by simp[ch,iz,kC,eX,nS,show (⟨#[99,111,100,101]⟩:ByteArray).size=4 from rfl]
 have e:ch mR=true:=by simp[ch,mR,kC,eX,nS,show (⟨#[98,101,104]⟩:ByteArray).size=3 from rfl]
 have f:ch bG=true:=by simp[ch,bG,kC,eX,nS,show (⟨#[114,101,108,97,121]⟩:ByteArray).size=5 from rfl]
 have g:ch BH=true:=by simp[ch,BH,kC,eX,nS,show (⟨#[111,110]⟩:ByteArray).size=2 from rfl]
 have h:ch wN=true:=by simp[ch,wN,kC,eX,nS,show (⟨#[110]⟩:ByteArray).size=1 from rfl]
 have i:ch iB=true:=by simp[ch,iB,kC,eX,nS,show (⟨#[115,101,110,100]⟩:ByteArray).size=4 from rfl]
 have j:ch fw=true:=by simp[ch,fw,kC,eX,nS,show (⟨#[97,100,100]⟩:ByteArray).size=3 from rfl]
 unfold bv;generalize sz 8 (cO 2 iV)=a at*;rw[k,d1];have c:¬200<a:=by omega
 simp[xH,bQ,kB,kC,b,d,e,f,g,h,i,j,c]
theorem Ea:lY 2 iV=0:=by
 unfold lY;rw[Bo];exact D8
end Go.Proofs.YtmbjgiaebneodaaGreat
