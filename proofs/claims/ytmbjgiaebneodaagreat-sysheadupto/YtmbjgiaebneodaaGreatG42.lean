/- What is proved here: plain facts and contracts that the claimed theorem stands on. No condition but those that each names. -/
import Derived.Test.YtmbjgiaebneodaaGreatG41
import Derived.ProofKit
import Derived.OpenShut
import Derived.JoinedCond
namespace Go.Proofs.YtmbjgiaebneodaaGreat
open Go.RowKit
open Go.ChangeShapes Go.WideShapes Go.ChangeAt Go.RowKit
set_option maxRecDepth 100000
set_option maxHeartbeats 4000000
def j9:Tc:=aS 3 2 12
def dG(u:Int):Tc:=cI 12 [aQ wN 11,aS 1 u 11]
def KO:List An:=[⟨1,dE⟩,⟨1,dE⟩,⟨1,dE⟩]
theorem J5:(wN.toList==qJ.toList)=false:=by
 simp[dm,wN,qJ]
theorem FN:ch wN=true:=by simp[ch,wN,kC,eX,nS,show (⟨#[110]⟩:ByteArray).size=1 from rfl]
theorem Gc{n m:Nat}{x:Tm n}{y:Tm m}{B:Nat}{w:World}(f:In B w n x)(g:In B w m y)(d:B<=w.heap.size)(b:bv n x=0)(c:bv m y=0)(a:cn n x=cn m y):Calls Tryz.prog 16 #[de n x,de m y] w λe w'=>e=.returned (.bool true)/\Below w.heap.size w w':=by
 have k:=zr n x m y B w f g d;rw[Bg b c a]at k;exact k
def fz(k u:Int)(s:ByteArray)(a:Option Addr×Nat)(N:Nat):Tm (N+1):=((k,u,s),a,[])
def GJ(a:Option Addr×Nat)(N:Nat)(l:List (Tm N)):Tm (N+1):=((4,0,.empty),a,l)
theorem mH{n m:Nat}{x:Tm (n+1)}{k u:Int}{s:ByteArray}{b:Option Addr×Nat}(c:aw (n+1) x (m+1) ((k,u,s),b,[])=true):∃a,x=fz k u s a n:=by
 obtain⟨d,e⟩:=bq c;obtain⟨f,g,h⟩:=x;cases h with
 | nil=>exact⟨g,by rw[show f=(k,u,s)from d];rfl⟩
 | cons i l=>simp[av]at e
theorem s8{N n m:Nat}{x:Tm (n+1)}{y:Tm (m+1)}(e:aw (N+1) (aH (N+1) (n+1) x) (m+1) y=true):x.1=y.1/\av (λa b=>aw N (aH N n a) m b) x.2.2 y.2.2=true:=by
 obtain⟨f,c⟩:=bq e;refine⟨f,?_⟩;have g:((aH (N+1) (n+1) x).2.2)=x.2.2.map (aH N n):=rfl;rw[g]at c;generalize y.2.2=d at c;clear e f g;generalize x.2.2=h at c ⊢;clear x
 induction h generalizing d with
 | nil=>
  cases d with
  | nil=>rfl
  | cons b d=>simp[av]at c
 | cons a h ih=>
  cases d with
  | nil=>simp[av]at c
  | cons b d=>
   simp only[aJ,av,aB]at c ⊢;exact⟨c.1,ih d c.2⟩
theorem nn{N n m:Nat}{x:Tm (n+1)}{k u:Int}{s:ByteArray}{b:Option Addr×Nat}(c:aw (N+1) (aH (N+1) (n+1) x) (m+1) ((k,u,s),b,[])=true):∃a,x=fz k u s a n:=by
 obtain⟨d,e⟩:=s8 c;obtain⟨f,g,h⟩:=x;cases h with
 | nil=>exact⟨g,by rw[show f=(k,u,s)from d];rfl⟩
 | cons i l=>simp[av]at e
theorem pU{d e:Type}{f:d->e->Bool}{p:List d}{b c:e}(a:av f p [b,c]=true):∃x y,p=[x,y]/\f x b=true/\f y c=true:=by
 obtain⟨x,j,rfl,g,a⟩:=cv a;obtain⟨y,i,rfl,h,a⟩:=cv a;cases i with
 | nil=>exact⟨x,y,rfl,g,h⟩
 | cons k l=>simp[av]at a
def lD(l:List (Bh 8)):Prop:=∃a b c d e f g h i j k m n o nm r,l=[(bG,j,[((fz 5 0 .empty a 7,GJ b 7 [fz 2 0 wN c 6,fz 5 1 .empty d 6],fz 5 0 .empty e 7),k,[(1,(fz 5 0 .empty f 7,GJ g 7 [fz 2 0 wN h 6,GJ i 6 [fz 2 0 fw m 5,fz 5 1 .empty n 5,fz 1 1 .empty o 5]]),nm,r)])])]
theorem DX{l:List (Bh 8)}(a:aw 13 (cO 7 l) 8 (cO 2 iV)=true):lD l:=by
 obtain⟨_,a⟩:=bq a;have a:av (λe b=>aw 12 e 7 b) (aQ iz 11::l.map (ei 7)) [aQ iz 6,ei 2 (bG,(none,0),[((lX 0 2,zx,lX 0 2),(none,0),[(1,(lX 0 2,oN),.empty,0)])])]=true:=a;obtain⟨_,h,f,_,a⟩:=pU a;obtain⟨_,f⟩:=List.cons.inj f;obtain⟨b,rfl,rfl⟩:=qP.1 f;obtain⟨_,a⟩:=bq a;have a:av (λe b=>aw 11 e 6 b) (aQ mR 10::aQ b.1 10::b.2.2.map (ey 7)) [aQ mR 5,aQ bG 5,ey 2 ((lX 0 2,zx,lX 0 2),(none,0),[(1,(lX 0 2,oN),.empty,0)])]=true:=a;obtain⟨_,_,f,_,a⟩:=cv a;obtain⟨_,f⟩:=List.cons.inj f;subst f;obtain⟨_,h,f,i,a⟩:=pU a;obtain⟨ab,O⟩:=List.cons.inj f;subst ab;obtain⟨c,u,rfl⟩:=qP.1 O;have i:b.1=bG:=by
  have:=(bq i).1;simpa [aQ]using this
 obtain⟨_,a⟩:=bq a;have a:av (λe b=>aw 10 e 5 b) [aQ BH 9,aH 10 8 c.1.1,aH 10 8 c.1.2.1,cI 9 (c.2.2.map (da 7)),aH 10 8 c.1.2.2] [aQ BH 4,aH 5 3 (lX 0 2),aH 5 3 zx,cI 4 [da 2 (1,(lX 0 2,oN),.empty,0)],aH 5 3 (lX 0 2)]=true:=a;simp only[av,aB,and_true]at a;obtain⟨_,Q,j,d,R⟩:=a;obtain⟨C,n⟩:=nn Q;obtain⟨F,p⟩:=nn R;obtain⟨v,j⟩:=s8 j;obtain⟨ae,h,o,S,T⟩:=pU (show av _ c.1.2.1.2.2 [aH 4 2 (aQ wN 1),aH 4 2 (lX 1 1)]=true from j);obtain⟨D,rfl⟩:=nn S;obtain⟨E,rfl⟩:=nn T;obtain⟨_,d⟩:=bq d;have d:av (λe b=>aw 9 e 4 b) (c.2.2.map (da 7)) [da 2 (1,(lX 0 2,oN),.empty,0)]=true:=d;obtain⟨_,y,f,d,U⟩:=cv d;have:y=[]:=by
  cases y with
  | nil=>rfl
  | cons aq l=>simp[av]at U
 subst this;obtain⟨e,t,rfl⟩:=qP.1 f;obtain⟨_,d⟩:=bq d;have d:av (λe b=>aw 8 e 3 b) (da 7 e).2.2 [aQ iB 2,lX 0 2,oN]=true:=d;have m:e.1=1:=by
  unfold da at d;split at d
  ·assumption
  ·split at d
   ·simp[cI,av]at d
   ·split at d
    ·simp[cI,av]at d
    ·simp[cI,av]at d
 have P:(da 7 e).2.2=[aQ iB 7,e.2.1.1,e.2.1.2]:=by
  unfold da;rw[if_pos m];rfl
 rw[P]at d;simp only[av,aB,and_true]at d;obtain⟨_,V,k⟩:=d;obtain⟨G,q⟩:=mH V;obtain⟨w,k⟩:=bq k;obtain⟨ae,h,r,W,g⟩:=pU (show av _ e.2.1.2.2.2 [aQ wN 1,cI 1 [aQ fw 0,lX 1 0,aS 1 1 0]]=true from k);obtain⟨H,rfl⟩:=mH W;obtain⟨x,g⟩:=bq g;have g:av (λe b=>aw 6 e 1 b) h.2.2 [aQ fw 0,lX 1 0,aS 1 1 0]=true:=g;obtain⟨ar,am,s,X,g⟩:=cv g;obtain⟨au,ax,rfl,Y,Z⟩:=pU g;obtain⟨J,rfl⟩:=mH X;obtain⟨K,rfl⟩:=mH Y;obtain⟨L,rfl⟩:=mH Z;obtain⟨bn,I,ah⟩:=b;obtain⟨⟨ai,N,aj⟩,M,cl⟩:=c;obtain⟨af,⟨ag,B⟩,z,A⟩:=e;obtain⟨ak,aa,al⟩:=N;obtain⟨an,ad,ao⟩:=B;obtain⟨y1,y2,ap⟩:=h;simp only at i u n o p v t m q r s w x;subst i u n o p v t m q r s w x;exact⟨C,aa,D,E,F,G,ad,H,y2,I,M,J,K,L,z,A,rfl⟩
def tX:List Tc:=[j9,aS 1 1 12,cn 1 dE,cn 1 dE]
def Km:Tk:=⟨dG 1,0,[(2,dG 2)],[],[],j9,[]⟩
section
variable (b1 b2 b3 b4 b5 b6 b7 b8 b9 c1 c2 c3 c4 c5:Option Addr×Nat)
theorem Ba:fM 8 (fz 5 0 .empty b1 7) 13 j9 qh=some (⟨13,j9⟩::KO):=rfl
theorem Kg(b:List An):fM 7 (fz 2 0 wN b3 6) 12 (aQ wN 11) b=some b:=by
 have a:aw 7 (fz 2 0 wN b3 6) 12 (aQ wN 11)=true:=bS rfl rfl;exact(if_neg (show¬(2:Int)=6 by decide)).trans ((if_neg (show¬(2:Int)=5 by decide)).trans ((if_neg (show¬(2:Int)=4 by decide)).trans (if_pos a)))
theorem F7:fM 8 (GJ b2 7 [fz 2 0 wN b3 6,fz 5 1 .empty b4 6]) 13 (dG 1) (⟨13,j9⟩::KO)=some [⟨13,j9⟩,⟨12,aS 1 1 11⟩,⟨1,dE⟩,⟨1,dE⟩]:=by
 refine(if_neg (show¬(4:Int)=6 by decide)).trans ((if_neg (show¬(4:Int)=5 by decide)).trans ((if_pos (show (4:Int)=4 from rfl)).trans ((if_pos (show (4:Int)=4/\(2:Nat)=2 from⟨rfl,rfl⟩)).trans ?_)));show (fM 7 (fz 2 0 wN b3 6) 12 (aQ wN 11) (⟨13,j9⟩::KO)).bind (λb=>(fM 7 (fz 5 1 .empty b4 6) 12 (aS 1 1 11) b).bind (λb=>some b))=_;rw[Kg,dr];rfl
theorem IU:vl 13 tX 1 7 (GJ b9 6 [fz 2 0 fw c3 5,fz 5 1 .empty c4 5,fz 1 1 .empty c5 5])=some (aS 1 2 19):=by
 have b:qY 6 [fz 2 0 fw c3 5,fz 5 1 .empty c4 5,fz 1 1 .empty c5 5] qI 2=true:=by
  have a:qY 6 [fz 2 0 fw c3 5,fz 5 1 .empty c4 5,fz 1 1 .empty c5 5] qI 2=(fw.toList==qI.toList):=rfl;rw[a];simp[dm,fw,qI]
 refine(if_neg (show¬(4:Int)=5 by decide)).trans ((if_neg (show¬(4:Int)=6 by decide)).trans ((if_pos (show (4:Int)=4 from rfl)).trans ((if_neg (show¬qY 6 [fz 2 0 fw c3 5,fz 5 1 .empty c4 5,fz 1 1 .empty c5 5] mS 0=true by exact nC)).trans ((if_pos b).trans ?_))));rfl
theorem KZ:vl 13 tX 1 7 (fz 2 0 wN b8 6)=some (aH 20 7 (fz 2 0 wN b8 6)):=rfl
theorem Ge:vl 13 tX 1 8 (GJ b7 7 [fz 2 0 wN b8 6,GJ b9 6 [fz 2 0 fw c3 5,fz 5 1 .empty c4 5,fz 1 1 .empty c5 5]])=some (cI 20 [aH 20 7 (fz 2 0 wN b8 6),aS 1 2 19]):=by
 generalize d:GJ b9 6 [fz 2 0 fw c3 5,fz 5 1 .empty c4 5,fz 1 1 .empty c5 5]=a;have g:vl 13 tX 1 7 a=some (aS 1 2 19):=by rw[<-d];exact IU b9 c3 c4 c5
 clear d;have f:qY 7 [fz 2 0 wN b8 6,a] qJ 1=false:=by
  have e:qY 7 [fz 2 0 wN b8 6,a] qJ 1=(wN.toList==qJ.toList):=rfl;rw[e,J5]
 refine(if_neg (show¬(4:Int)=5 by decide)).trans ((if_neg (show¬(4:Int)=6 by decide)).trans ((if_pos (show (4:Int)=4 from rfl)).trans ((if_neg (show¬qY 7 [fz 2 0 wN b8 6,a] mS 0=true by exact nC)).trans ((if_neg (show¬qY 7 [fz 2 0 wN b8 6,a] qI 2=true by exact nC)).trans ((if_neg (show¬qY 7 [fz 2 0 wN b8 6,a] qJ 1=true by rw[f];exact nC)).trans ?_)))));show ((vl 13 tX 1 7 (fz 2 0 wN b8 6)).bind λb=>((vl 13 tX 1 7 a).bind λc=>some [c]).map λl=>b::l).map (cI 20)=_;rw[KZ,g];rfl
theorem FZ:bv 21 (aH 21 13 j9)=0:=by
 have c:bO 21 (aH 21 13 j9)=true:=by
  rw[<-aI];intro b a;have a:b∈[(((3,2,.empty),(none,0,0)):Nd)]:=a;obtain rfl:=ed.1 a;simp[bQ,kC]
 exact bt.2 ⟨c,by decide,by decide⟩
theorem DU:bv 21 (cI 20 [aH 20 7 (fz 2 0 wN b8 6),aS 1 2 19])=0:=by
 have d:bO 21 (cI 20 [aH 20 7 (fz 2 0 wN b8 6),aS 1 2 19])=true:=by
  rw[<-aI];intro b a;have a:b∈[(((4,0,.empty),(none,2,0)):Nd),((2,0,wN),(b8.1,0,b8.2)),((1,2,.empty),(none,0,0))]:=a;simp only[bF,dq,dt]at a;rcases a with rfl|rfl|rfl
  ·simp[bQ]
  ·simp[bQ,FN]
  ·simp[bQ,kC]
 have c:eQ 21 (cI 20 [aH 20 7 (fz 2 0 wN b8 6),aS 1 2 19])=eQ 21 (cI 20 [aH 20 7 (fz 2 0 wN (none,0) 6),aS 1 2 19]):=rfl;have e:sz 21 (cI 20 [aH 20 7 (fz 2 0 wN b8 6),aS 1 2 19])=sz 21 (cI 20 [aH 20 7 (fz 2 0 wN (none,0) 6),aS 1 2 19]):=rfl;exact bt.2 ⟨d,by rw[c];decide,by rw[e];decide⟩
theorem zq:p8 tX 1 8 (fz 5 0 .empty b1 7)=some j9:=by
 have a:vl 13 tX 1 8 (fz 5 0 .empty b1 7)=some (aH 21 13 j9):=rfl;unfold p8;rw[a,dr,if_pos FZ];rfl
theorem A9{l:List (Bh 8)}(j:lD l):mQ 100 l bG 1 3 j9 [dG 1]=some Km:=by
 obtain⟨b1,b2,b3,b4,b5,b6,b7,b8,b9,c1,c2,c3,c4,c5,e,f,rfl⟩:=j;have h:=Ge b7 b8 b9 c3 c4 c5;have g:=F7 b2 b3 b4;generalize n:GJ b7 7 [fz 2 0 wN b8 6,GJ b9 6 [fz 2 0 fw c3 5,fz 5 1 .empty c4 5,fz 1 1 .empty c5 5]]=a at h;generalize m:GJ b2 7 [fz 2 0 wN b3 6,fz 5 1 .empty b4 6]=w at g;clear n m;have v:p8 tX 1 8 a=some (dG 2):=by
  unfold p8;rw[h,dr,if_pos (DU b8)];rfl
 generalize b:(((fz 5 0 .empty b1 7,w,fz 5 0 .empty b5 7),c2,[(1,(fz 5 0 .empty b6 7,a),e,f)]):Cl 8)=c;have o:gI bG [(bG,c1,[c])]=[c]:=by
  unfold gI;have:fY 8 bG [(bG,c1,[c])]=some (bG,c1,[c]):=if_pos (show bG=bG from rfl);rw[this];rfl
 have q:lG c j9 (dG 1)=some tX:=by
  unfold lG;have d:fM 8 c.1.1 13 j9 qh=some (⟨13,j9⟩::KO):=by rw[<-b];exact Ba b1
  have k:fM 8 c.1.2.1 13 (dG 1) (⟨13,j9⟩::KO)=some [⟨13,j9⟩,⟨12,aS 1 1 11⟩,⟨1,dE⟩,⟨1,dE⟩]:=by rw[<-b];exact g
  rw[d,dr,k];rfl
 have s:uz [c] j9 [dG 1] 0=some (0,c,tX):=by
  simp only[uz,nR,q]
 have p:qq 1 c.2.2 ⟨tX,3,[],[],[],false⟩=some ⟨tX,3,[(2,dG 2)],[],[],false⟩:=by
  have d:sF 1 ((1,(fz 5 0 .empty b6 7,a),e,f):Ac 8) ⟨tX,3,[],[],[],false⟩=some ⟨tX,3,[(2,dG 2)],[],[],false⟩:=by
   have r:kS tX 1 8 (fz 5 0 .empty b6 7)=some 2:=by
    unfold kS;rw[zq];rfl
   refine(if_pos (show (1:Int)=1 from rfl)).trans ?_;show ((kS tX 1 8 (fz 5 0 .empty b6 7)).bind λx=>(p8 tX 1 8 a).map λt=>(⟨tX,3,[]++ [(x,t)],[],[],false⟩:Dg))=_;rw[r,dr,v];rfl
  rw[<-b];show (sF 1 ((1,(fz 5 0 .empty b6 7,a),e,f):Ac 8) ⟨tX,3,[],[],[],false⟩).bind (λi=>some i)=_;rw[d];rfl
 have u:p8 tX 1 8 c.1.2.2=some j9:=by rw[<-b];exact zq b5
 unfold mQ;rw[o,s];show some (eP 100 1 3 j9 (dG 1) [] c tX)=_;unfold eP;rw[p];simp only[u];rw[if_pos (by decide)];rfl
end
def lM(u:Int):Tc:=aS 3 u 12
def Lg:List (ByteArray×Int×Int×Tc):=[(pr,0,1,lM 2),(pr,0,2,lM 1)]
def I3:Sy:=⟨1,[(1,bG,lM 2,[])],λ_=> [],λ_=>false,[(pr,0,1,lM 2)]⟩
def tO(ms:List Tc):Sy:=⟨2,[(1,bG,lM 2,ms),(2,bG,lM 1,[])],λ_=> [],λ_=>false,Lg⟩
def By:Sy:=⟨2,[(1,bG,lM 2,[]),(2,bG,lM 1,[])],fZ (λ_=> []) (1,2) [dG 2],λ_=>false,Lg++ [(jM,1,0,dG 1)]++ [(vS,1,2,dG 2)]⟩
def Gy:Sy:=⟨2,[(1,bG,lM 2,[]),(2,bG,lM 1,[dG 2])],fZ (fZ (λ_=> []) (1,2) [dG 2]) (1,2) [],λ_=>false,Lg++ [(jM,1,0,dG 1)]++ [(vS,1,2,dG 2)]⟩
theorem AR:ch bG=true:=by simp[ch,bG,kC,eX,nS,show (⟨#[114,101,108,97,121]⟩:ByteArray).size=5 from rfl]
theorem DT(u:Int)(c:1<=u/\u<=99)(N:Nat):bv (N+1) (aS 3 u N)=0:=by
 have d:bO (N+1) (aS 3 u N)=true:=by
  rw[<-aI];intro b a;have a:b∈[(((3,u,.empty),(none,0,0)):Nd)]:=a;obtain rfl:=ed.1 a;simp[bQ,kC,c]
 exact bt.2 ⟨d,by show (0:Int)<=12;decide,by show (0:Int)<=200;decide⟩
theorem pP(u:Int)(f:1<=u/\u<=99):bv 13 (dG u)=0:=by
 have d:bO 13 (dG u)=true:=by
  rw[<-aI];intro b a;have a:b∈[(((4,0,.empty),(none,2,0)):Nd),((2,0,wN),(none,0,0)),((1,u,.empty),(none,0,0))]:=a;simp only[bF,dq,dt]at a;rcases a with rfl|rfl|rfl
  ·simp[bQ]
  ·simp[bQ,FN]
  ·simp[bQ,kC];omega
 have c:eQ 13 (dG u)=eQ 13 (dG 1):=rfl;have e:sz 13 (dG u)=sz 13 (dG 1):=rfl;exact bt.2 ⟨d,by rw[c];decide,by rw[e];decide⟩
theorem KY(u:Int)(a:1<=u/\u<=99):fu 1 (aS 3 u 0) 100 bG=0:=by
 unfold fu ip;rw[AR,DT u a];rfl
section
variable {l:List (Bh 8)}
theorem F8(b:lD l):mF 7 l bG=true:=by
 obtain⟨d,e,f,g,h,i,j,k,m,a,n,o,p,q,r,s,rfl⟩:=b;unfold mF;have:∀c:List (Cl 8),fY 8 bG [(bG,a,c)]=some (bG,a,c):=λc=>if_pos (show bG=bG from rfl);rw[this];rfl
theorem IQ(a:lD l):Kl.start 7 l 100 bG 1 (aS 3 2 0)=(I3,0):=by
 unfold Sy.start;rw[if_neg (show¬Kl.may 1=false by decide),if_neg (by rw[F8 a];decide),if_neg (by rw[KY 2 (by omega)];decide)];rfl
theorem IR(a:lD l):I3.start 7 l 100 bG 1 (aS 3 1 0)=(tO [],0):=by
 unfold Sy.start;rw[if_neg (show¬I3.may 1=false by decide),if_neg (by rw[F8 a];decide),if_neg (by rw[KY 1 (by omega)];decide)];rfl
theorem IN{k:Nat}{m:Tm k}(a:bv k m=0)(e:aF k m=true)(d:cn k m=dG 1):(tO []).do 7 l 100 3 1 0 k m=(tO [dG 1],0):=by
 have b:jL 13 (dG 1) 100 (lM 2) []=0:=by
  unfold jL;rw[pP 1 (by omega)];rfl
 unfold Sy.do Sy.inject;rw[if_neg (by decide),if_neg (by decide),if_pos rfl,if_neg (show¬((tO []).get 1).isSome=false by decide),if_neg (by rw[a];decide),if_neg (by rw[e];decide),d];have c:(tO []).get 1=some (bG,lM 2,[]):=rfl;unfold Sy.deliver;rw[c];simp only[b];rfl
theorem LH(m:lD l)(g:lY 7 l=0)(k:Nat)(x:Tm k):(tO [dG 1]).do 7 l 100 1 1 0 k x=(By,0):=by
 have j:(tO [dG 1]).get 1=some (bG,lM 2,[dG 1]):=rfl;have c:=A9 m;have h:qF 7 100 l bG 1 3 j9 [dG 1]=0:=by
  unfold qF;rw[g,c];rfl
 have p:kv 12 1 2 (dG 2) 0=0:=by
  unfold kv;rw[pP 2 (by omega)];rfl
 unfold Sy.do;rw[if_pos rfl];unfold Sy.run;rw[j];have q:(tO [dG 1]).last+1=3:=rfl;simp only[q];have o:lM 2=j9:=rfl;rw[o,h,if_pos rfl,c];obtain⟨a,b⟩:∃a:Sy,a=⟨2,[(1,bG,lM 2,[]),(2,bG,lM 1,[])],λ_=> [],λ_=>false,Lg++ [(jM,1,0,dG 1)]⟩:=⟨_,rfl⟩;have d:((tO [dG 1]).put 1 (bG,Km.state,Km.mail)).tell jM 1 0 Km.message=a:=by rw[b];rfl
 have n:Sy.made 7 l 100 a Km.spawns=true:=by rw[b];rfl
 have i:a.follow 1 Km=By:=by
  have e:a.follow 1 Km=a.send 1 2 (dG 2):=rfl;have f:(a.ways (1,2)).length=0:=by rw[b];rfl
  rw[e];unfold Sy.send;rw[f,if_pos p,b];rfl
 simp only[d,i,n];rfl
theorem IL(k:Nat)(x:Tm k):By.do 7 l 100 2 1 2 k x=(Gy,0):=by
 have d:jL 13 (dG 2) 100 (lM 1) []=0:=by
  unfold jL;rw[pP 2 (by omega)];rfl
 have e:By.ways (1,2)=[dG 2]:=rfl;obtain⟨b,a⟩:∃b:Sy,b={By with ways:=fZ By.ways (1,2) []}:=⟨_,rfl⟩;have c:b.get 2=some (bG,lM 1,[]):=by rw[a];rfl
 unfold Sy.do Sy.arrive;rw[if_neg (by decide),if_pos rfl,e];simp only[<-a,c,jF,cR];unfold Sy.deliver;rw[c];simp only[d];rw[a];rfl
end
theorem KX:Gy.get 2=some (bG,lM 1,[dG 2])/\Gy.evs.length=4:=⟨rfl,rfl⟩
theorem K9(a:Nat)(W:World):(binOp .eql 26 (.pointer (some ⟨a,0,none⟩)) (.pointer none)).run Tryz.prog W=.ok (.bool false) W:=by kernel_rfl
theorem wQ(w:World)(aa:Option Addr->Nat->Nat->World->Prop)(ab ad ae af aj ak:Nat->World->Prop)(y:Nat->Nat->Nat->Int->Int->ByteArray->Option Addr->Nat->Nat->World->Prop)(G:Hid (Calls Tryz.prog 10 #[] w λe w'=>∃a l c,e=.returned (.slice a l c)/\Hid (aa a l c w')))(J:Hid (∀a l c W,aa a l c W->Calls Tryz.prog 9 #[.slice a l c,.int .i64 100] W λe w'=>∃b,e=.returned (.tuple #[.pointer (some ⟨b,0,none⟩),.int .i64 0])/\Hid (ab b w')))(K:Hid (∀b W,ab b W->Calls Tryz.prog 11 #[.pointer (some ⟨b,0,none⟩),.string ⟨#[114,101,108,97,121]⟩,.agg #[.int .i64 3,.int .i64 2,.string ⟨#[]⟩,.slice none 0 0]] W λe w'=>e=.returned (.tuple #[.int .i64 1,.int .i64 0])/\Hid (ad b w')))(L:Hid (∀b W,ad b W->Calls Tryz.prog 11 #[.pointer (some ⟨b,0,none⟩),.string ⟨#[114,101,108,97,121]⟩,.agg #[.int .i64 3,.int .i64 1,.string ⟨#[]⟩,.slice none 0 0]] W λe w'=>e=.returned (.tuple #[.int .i64 2,.int .i64 0])/\Hid (ae b w')))(M:Hid (∀b g W d,ae b W->Below W.heap.size W d->d.heap[g]?=some (.cells #[.int .i64 2,.int .i64 0,.string ⟨#[110]⟩,.slice none 0 0,.int .i64 1,.int .i64 1,.string ⟨#[]⟩,.slice none 0 0] 30)->W.heap.size<=g->Calls Tryz.prog 6 #[.pointer (some ⟨b,0,none⟩),.agg #[.int .i64 3,.int .i64 1,.int .i64 0,.int .i64 4,.int .i64 0,.string ⟨#[]⟩,.slice (some ⟨g,0,none⟩) 2 2]] d λe w'=>e=.returned (.int .i64 0)/\Hid (af b w')))(N:Hid (∀b W,af b W->Calls Tryz.prog 6 #[.pointer (some ⟨b,0,none⟩),.agg #[.int .i64 1,.int .i64 1,.int .i64 0,.int .i64 0,.int .i64 0,.string ⟨#[]⟩,.slice none 0 0]] W λe w'=>e=.returned (.int .i64 0)/\Hid (aj b w')))(O:Hid (∀b W,aj b W->Calls Tryz.prog 6 #[.pointer (some ⟨b,0,none⟩),.agg #[.int .i64 2,.int .i64 1,.int .i64 2,.int .i64 0,.int .i64 0,.string ⟨#[]⟩,.slice none 0 0]] W λe w'=>e=.returned (.int .i64 0)/\Hid (ak b w')))(P:Hid (∀b W,ak b W->Calls Tryz.prog 15 #[.pointer (some ⟨b,0,none⟩),.int .i64 2] W λe w'=>∃nm y0 y1 y2 ya yl yc g o h i j k n m aq,e=.returned (.tuple #[.string nm,.agg #[.int .i64 y0,.int .i64 y1,.string y2,.slice ya yl yc],.slice (some ⟨g,o,none⟩) 1 aq,.int .i64 0])/\Hid (y b g o h i j k n m w')))(Q:Hid (∀b g o h i j k n m W d,y b g o h i j k n m W->Below W.heap.size W d->(d.cell? ⟨g,o,none⟩=some (.int .i64 h)/\d.cell? ⟨g,o+1,none⟩=some (.int .i64 i)/\d.cell? ⟨g,o+2,none⟩=some (.string j)/\d.cell? ⟨g,o+3,none⟩=some (.slice k n m))))(H:Hid (∀b g o h i j k n m W d s,y b g o h i j k n m W->Below W.heap.size W d->d.heap[s]?=some (.cells #[.int .i64 2,.int .i64 0,.string ⟨#[110]⟩,.slice none 0 0,.int .i64 1,.int .i64 2,.string ⟨#[]⟩,.slice none 0 0] 30)->Calls Tryz.prog 16 #[.agg #[.int .i64 h,.int .i64 i,.string j,.slice k n m],.agg #[.int .i64 4,.int .i64 0,.string ⟨#[]⟩,.slice (some ⟨s,0,none⟩) 2 2]] d λe w'=>e=.returned (.bool true)/\Below d.heap.size d w'))(I:Hid (∀b g o h i j k n m W d,y b g o h i j k n m W->Below W.heap.size W d->Calls Tryz.prog 7 #[.pointer (some ⟨b,0,none⟩)] d λe w'=>∃a c,e=.returned (.slice a 4 c)/\Hid (Below d.heap.size d w'/\Below w.heap.size w w'))):Calls Tryz.prog 4 #[] w λe w'=>e=.returned (.bool true)/\Hid (Below w.heap.size w w'):=by
 go_enter Tryz.func4,Tryz.ntmps4;go_wp2_with fail;refine G.out.mono ?_;rintro e aJ ⟨a,l,c,rfl,R⟩;clear G;go_wp2_with fail;refine(J.out _ _ _ _ R.out).mono ?_;rintro e aK ⟨b,rfl,S⟩;clear J R;have aB:=K9 b;go_wp2_with fail;refine(K.out _ _ S.out).mono ?_;rintro e aL ⟨rfl,T⟩;clear K S;go_wp2_with fail;refine(L.out _ _ T.out).mono ?_;rintro e E ⟨rfl,U⟩;clear L T
 go_wp2_with (first
  | (go_at_call 13;refine(qG _ _).mono ?_;rintro e F ⟨rfl,rfl⟩)
  | (go_at_call 14;refine(tJ _ _).mono ?_;rintro e F ⟨rfl,rfl⟩)
  | (go_at_call 12;refine(oL _ _ _ _).mono ?_;rintro e F ⟨rfl,rfl⟩))
 refine(M.out b (E.heap.size+1+1) E _ U.out ((((ah _ _).alloc (ag _) _).alloc (by simp) _).alloc (by simp;omega) _ |>.alloc (by simp;omega) _) ?_ (by omega)).mono ?_
 ·refine(heap_alloc_old _ _ (by simp)).trans ?_;have az:=ay ((E.alloc (.cells #[.int .i64 2,.int .i64 0,.string ⟨#[110]⟩,.slice none 0 0] 30)).alloc (.cells #[.int .i64 1,.int .i64 1,.string ⟨#[]⟩,.slice none 0 0] 30)) (.cells #[.int .i64 2,.int .i64 0,.string ⟨#[110]⟩,.slice none 0 0,.int .i64 1,.int .i64 1,.string ⟨#[]⟩,.slice none 0 0] 30);simpa using az
 rintro e F ⟨rfl,V⟩;clear M U;go_wp2_with fail;refine(N.out _ _ V.out).mono ?_;rintro e aM ⟨rfl,X⟩;clear N V;go_wp2_with fail;refine(O.out _ _ X.out).mono ?_;rintro e aN ⟨rfl,Y⟩;clear O X;go_wp2_with fail;refine(P.out _ _ Y.out).mono ?_;rintro e ar ⟨nm,y0,y1,y2,ya,yl,yc,g,o,h,i,j,k,n,m,aq,rfl,x⟩;clear P Y aB;go_upto_region 9 with fail;generalize am:World.alloc _ _=f;have r:Hid (Below ar.heap.size ar f):=by
  rw[<-am];exact(ah _ _).alloc (ag _) _
 clear am;have q:Hid (∀W,Below f.heap.size f W->W.cell? ⟨g,o,none⟩=some (.int .i64 h)/\W.cell? ⟨g,o+1,none⟩=some (.int .i64 i)/\W.cell? ⟨g,o+2,none⟩=some (.string j)/\W.cell? ⟨g,o+3,none⟩=some (.slice k n m)):=λW u=>Q.out _ _ _ _ _ _ _ _ _ _ _ x.out (r.out.trans (u.mono r.out.size));have ax:Hid (∀(s:Nat)(p:World),Below f.heap.size f p->p.heap[s]?=some (.cells #[.int .i64 2,.int .i64 0,.string ⟨#[110]⟩,.slice none 0 0,.int .i64 1,.int .i64 2,.string ⟨#[]⟩,.slice none 0 0] 30)->Calls Tryz.prog 16 #[.agg #[.int .i64 h,.int .i64 i,.string j,.slice k n m],.agg #[.int .i64 4,.int .i64 0,.string ⟨#[]⟩,.slice (some ⟨s,0,none⟩) 2 2]] p λe w'=>e=.returned (.bool true)/\Below p.heap.size p w'):=λs p u aA=>H.out _ _ _ _ _ _ _ _ _ _ _ _ x.out (r.out.trans (u.mono r.out.size)) aA;have aw:Hid (∀p,Below f.heap.size f p->Calls Tryz.prog 7 #[.pointer (some ⟨b,0,none⟩)] p λe w'=>∃a c,e=.returned (.slice a 4 c)/\Hid (Below p.heap.size p w'/\Below w.heap.size w w')):=λp u=>I.out _ _ _ _ _ _ _ _ _ _ _ x.out (r.out.trans (u.mono r.out.size));clear Q H I x r;have D:Hid (Below f.heap.size f f.drew):=(ah _ _).drew;obtain⟨aF,aG,aH,aI⟩:=q.out f (ah _ _)
 go_region_held3 (λW=>W.cell? ⟨g,o,none⟩=some (.int .i64 h)/\W.cell? ⟨g,o+1,none⟩=some (.int .i64 i)/\W.cell? ⟨g,o+2,none⟩=some (.string j)/\W.cell? ⟨g,o+3,none⟩=some (.slice k n m))
  (first|exact q.out _ D.out|exact q.out _ B.out|exact q.out _ C.out|exact q.out _ (A.out _)|exact q.out _ t.out.1|exact q.out _ v.out|exact q.out _ av.out) ((first
   | (go_at_call 13;refine(qG _ _).mono ?_;rintro e aC ⟨rfl,an⟩;have B:Hid (Below f.heap.size f aC):=(by rw[an];exact D.out.alloc D.out.size _);clear an)
   | (go_at_call 14;refine(tJ _ _).mono ?_;rintro e z ⟨rfl,ao⟩;have C:Hid (Below f.heap.size f z):=(by rw[ao];exact B.out.alloc B.out.size _);have A:Hid (∀o,Below f.heap.size f (z.alloc o)):=(λo=>C.out.alloc C.out.size o);clear ao)
   | (go_at_call 12;refine(oL _ _ _ _).mono ?_;rintro e au ⟨rfl,ap⟩;have t:Hid (Below f.heap.size f au/\au.heap[z.heap.size]?=some (.cells #[.int .i64 2,.int .i64 0,.string ⟨#[110]⟩,.slice none 0 0,.int .i64 1,.int .i64 2,.string ⟨#[]⟩,.slice none 0 0] 30)):=(by rw[ap];exact⟨(A.out _).alloc (A.out _).size _,(heap_alloc_old _ _ (by simp)).trans (ay z _)⟩);clear ap)
   | (go_at_call 16;refine(ax.out _ _ t.out.1 t.out.2).mono ?_;rintro e aO ⟨rfl,al⟩;have v:=ai (t.out.1.trans (al.mono t.out.1.size));clear al)
   | (go_at_call 7;refine(aw.out _ v.out).mono ?_;rintro e aP ⟨aD,aE,rfl,Z⟩;have av:=ai (v.out.trans (Z.out.1.mono v.out.size)))))
 go_wp2_with fail
 go_ret
 exact⟨rfl,Z.out.2⟩
def Ky(g:Nat)(u:Int):Tm 2:=((4,0,.empty),(some ⟨g,0,none⟩,2),[aQ wN 0,aS 1 u 0])
theorem GF(g:Nat)(u:Int):aw 2 (Ky g u) 13 (dG u)=true:=by
 refine bS rfl ?_;show av (λa b=>aw 1 a 12 b) [aQ wN 0,aS 1 u 0] [aQ wN 11,aS 1 u 11]=true;simp only[av,aB,and_true];exact⟨bS rfl rfl,bS rfl rfl⟩
theorem GD{g:Nat}{u:Int}(c:cY u){w:World}(a:w.heap[g]?=some (.cells #[.int .i64 2,.int .i64 0,.string ⟨#[110]⟩,.slice none 0 0,.int .i64 1,.int .i64 u,.string ⟨#[]⟩,.slice none 0 0] 30)):In w.heap.size w 2 (Ky g u):=by
 refine nA [aQ wN 0,aS 1 u 0] a rfl (aE.1 a).1 (show 2<=8 by decide) λd b=>?_;simp only[bF,dq,dt]at b;rcases b with rfl|rfl
 ·exact⟨⟨by simp[aQ,cY],by simp[aQ,cY],by show wN.size<=maxLen;decide,by simp[aQ],by simp[aQ]⟩,ae rfl⟩
 ·exact Gn u c 0 _ _
theorem GC(g:Nat){u:Int}(c:1<=u/\u<=99):bv 2 (Ky g u)=0/\cn 2 (Ky g u)=dG u:=by
 have b:=GF g u;have a:bv 13 (dG u)=0:=pP u c;refine⟨(bI b).trans a,(ge b).trans ?_⟩;exact ge (x:=dG u) (y:=dG u) (fS _ _ (aI.2 (bt.1 a).1)) |>.trans rfl
def Kv:Tm 1:=((0,0,⟨#[]⟩),(none,0),[])
theorem G5(B:Nat)(w:World):In B w 1 Kv:=⟨⟨by simp[Kv,cY],by simp[Kv,cY],aD _,ag _,aD _⟩,ae rfl⟩
theorem eT.below{p:mg}{s:Sy}{d f:fX}{a c B:Nat}{w w':World}(b:aV p s d w)(k:eT a c d f w w')(h:B<=p.lo):Below B w w':=by
 refine⟨k.1.os,k.1.tape,k.1.output,k.1.size,λe i=>k.1.block e ?_ λg=>?_⟩
 ·have:=b.lo.1;omega
 ·have:=(b.low e g).1;omega
def qd(w:World)(s:Sy)(i a:Nat)(W:World):Prop:=∃(lo:Nat)(prog:List (Bh 8))(pa:Option Addr)(pc:Nat)(d:fX),aV ⟨lo,a,100,7,prog,pa,pc⟩ s d W/\(lD prog/\lY 7 prog=0)/\(d.k<=i*402/\d.es.length<=i*201/\d.wn<=i*201/\d.bn<=i*201)/\Below w.heap.size w W/\w.heap.size<=lo
theorem qd.start{w W:World}{s j:Sy}{i a:Nat}(m:qd w s i a W)(z:i<=10)(u:Int)(t:cY u)(q:∀prog,lD prog->s.start 7 prog 100 bG 1 (aS 3 u 0)=(j,0)):Calls Tryz.prog 11 #[.pointer (some ⟨a,0,none⟩),.string ⟨#[114,101,108,97,121]⟩,.agg #[.int .i64 3,.int .i64 u,.string ⟨#[]⟩,.slice none 0 0]] W λe w'=>e=.returned (.tuple #[.int .i64 (s.last+1),.int .i64 0])/\Hid (qd w j (i+1) a w'):=by
 obtain⟨lo,prog,pa,pc,x,b,⟨c,n⟩,y,o,d⟩:=m;refine(b.start bG (by decide) (aS 3 u 0) ⟨⟨by simp[aS,cY],t,aD _,ag _,aD _⟩,ae rfl⟩ (by show (1:Nat)<=2097152;decide) (by omega) (by omega)).mono ?_;rintro e w' ⟨G,F,rfl,k⟩;have r:=q prog c;obtain⟨⟨f,v⟩,l,g,h⟩:=k.out;simp only[r]at f g;subst f;obtain rfl:=v rfl;have p:=h.below b (B:=w.heap.size) d;exact⟨rfl,lo,prog,pa,pc,l,g,⟨c,n⟩,by obtain⟨_,_,A,C,D,E⟩:=h;omega,o.trans p,d⟩
theorem qd.do{w c W:World}{s t:Sy}{i h:Nat}(y:qd w s i h c)(g:Below c.heap.size c W)(J:i<=10){kd a b:Int}(A:I2 (a,b)){m:Nat}(x:Tm (m+1))(G:In W.heap.size W (m+1) x)(D:∀d:fX,(∀q,d.ow q≠0->q<c.heap.size)->cg (λq=>¬1<=d.ow q) (m+1) x)(z:(ap (m+1) x).length<=2097152)(E:∀prog,lD prog->lY 7 prog=0->s.do 7 prog 100 kd a b (m+1) x=(t,0)):Calls Tryz.prog 6 #[.pointer (some ⟨h,0,none⟩),.agg #[.int .i64 kd,.int .i64 a,.int .i64 b,.int .i64 x.1.1,.int .i64 x.1.2.1,.string x.1.2.2,.slice x.2.1.1 x.2.2.length x.2.1.2]] W λe w'=>e=.returned (.int .i64 0)/\Hid (qd w t (i+1) h w'):=by
 obtain⟨lo,prog,pa,pc,d,f,⟨j,k⟩,I,l,n⟩:=y;refine((f.later g).do A x ⟨G,D d λq H=>(f.low q H).2⟩ z (by omega) (by omega) (by omega) (by omega)).mono ?_;rintro e w' ⟨O,rfl,u⟩;have F:=E prog j k;obtain⟨o,v,p,r⟩:=u.out;simp only[F]at o p;subst o;have C:=r.below (f.later g) (B:=w.heap.size) n;exact⟨rfl,lo,prog,pa,pc,v,p,⟨j,k⟩,by obtain⟨_,_,K,L,M,N⟩:=r;omega,(l.trans (g.mono l.size)).trans C,n⟩
theorem zk(w:World):Calls Tryz.prog 4 #[] w λe w'=>e=.returned (.bool true)/\Hid (Below w.heap.size w w'):=by
 have G:cY 1:=by unfold cY;decide
 have ab:cY 2:=by unfold cY;decide
 have am:cY 0:=by unfold cY;decide
 refine wQ w (λs l c a=>l=1/\c=1/\Below w.heap.size w a/\∃r:List (Bh 3),r.length=1/\fl 3 a.heap.size a s r/\dv (sk 3) r iV) (qd w Kl 0) (qd w I3 1) (qd w (tO []) 2) (qd w (tO [dG 1]) 3) (qd w By 4) (qd w Gy 5)
  (λg f o Q R S T V U a=>qd w Gy 5 g a/\∃y:Tc,(y.1=(Q,R,S)/\y.2.1=(T,U)/\y.2.2.length=V)/\f<a.heap.size/\dk a f o 13 y/\In a.heap.size a 13 y/\bv 13 y=0/\cn 13 y=dG 2) ?_ (λs l c a aA=>?_) (λg a d=>?_) (λg a d=>?_) (λg f a C d i Z aR=>?_) (λg a d=>?_) (λg a d=>?_) (λg a d=>?_) (λg f o Q R S T V U a C d i=>?_) (λg f o Q R S T V U a C ai d i Z=>?_) λg f o Q R S T V U a C d i=>?_
 ·refine(D7 w).mono ?_;rintro e w' ⟨s,r,rfl,k⟩;obtain⟨h,t,ay,J⟩:=k.out;exact⟨s,1,1,rfl,rfl,rfl,h,r,t,ay,J⟩
 ·obtain⟨rfl,rfl,v,r,ar,h,t⟩:=aA;have K:lY 2 r=0:=(El t).trans Ea;have aB:=tr t;have al:=zB 2 r s 1 100 a h (by omega) (by unfold maxLen;omega) λ_=>eO (iw K).2.1;rw[ar]at al;refine al.mono ?_;rintro e w' ⟨P,u,rfl,k⟩;obtain⟨A,j,B,H⟩:=k.out;have aC:u=0:=by
   rw[A];unfold zy;rw[if_neg (by rw[K];decide),if_pos (by decide)]
  subst aC;obtain⟨p,q,rfl,an,⟨aV,aG,aW,aX⟩,ao,aH,ap,aI⟩:=H rfl;obtain⟨lo,b,room,n,prog,pa,pc⟩:=p;simp only at ao aH ap;subst ao ap;have aa:lD prog:=DX (bJ _ _ _ _ _ _ aI aB);exact⟨b,rfl,lo,prog,pa,pc,q,an,⟨aa,an.pg.2.2.2.1⟩,⟨by omega,by rw[aG];exact aD _,by omega,by omega⟩,v.trans (j.mono v.size),by have:=v.size;omega⟩
 ·exact d.start (by omega) 2 ab λprog z=>IQ z
 ·exact d.start (by omega) 1 G λprog z=>IR z
 ·obtain⟨I,W⟩:=GC f (u:=1) (by omega);refine d.do (kd:=3) i (by omega) ⟨G,am⟩ (Ky f 1) (GD G Z) (λq Y=>?_) (eO I) λprog z _=>IN I rfl W;refine af ⟨f,0,rfl,λaY=>?_,λaT y M=>?_⟩
  ·have:=Y f (by omega);omega
  ·have M:y∈[aQ wN 0,aS 1 1 0]:=ax M;simp only[bF,dq,dt]at M;rcases M with rfl|rfl
   ·exact ae rfl
   ·exact ae rfl
 ·exact d.do (kd:=1) (ah _ _) (by omega) ⟨G,am⟩ Kv (G5 _ _) (λq Y=>ae rfl) (by show (1:Nat)<=2097152;decide) λprog z K=>LH z K 1 Kv
 ·exact d.do (kd:=2) (ah _ _) (by omega) ⟨G,ab⟩ Kv (G5 _ _) (λq Y=>ae rfl) (by show (1:Nat)<=2097152;decide) λ_ _ _=>IL 1 Kv
 ·obtain⟨lo,prog,pa,pc,q,h,t,J,F,aj⟩:=d;refine(h.proc KX.1 (by decide) (by omega)).mono ?_;rintro e w' ⟨y0,y1,y2,ya,yl,yc,aU,aE,rfl,k⟩;obtain⟨⟨aP,A,j,B,H⟩,O⟩:=k.out
  match aP,A with
  | [y],_=>
   have B:cn 13 y=dG 2:=by simpa using B
   rcases j with aq|⟨f,o,rfl,au,av⟩
   ·cases aq
   obtain⟨ad,aw⟩:=av 0 y rfl;rw[Nat.zero_mul,iJ]at ad;exact⟨_,y0,y1,y2,ya,yl,yc,f,o,y.1.1,y.1.2.1,y.1.2.2,y.2.1.1,y.2.2.length,y.2.1.2,aE,rfl,⟨lo,prog,pa,pc,q,h.later O,t,J,F.trans (O.mono F.size),aj⟩,y,⟨rfl,rfl,rfl⟩,au,ad,aw,H y (by simp),B⟩
 ·obtain⟨_,y,⟨D,E,X⟩,A,j,_⟩:=d;have L:∀{N:Nat}{P:Value},a.cell? ⟨f,N,none⟩=some P->C.cell? ⟨f,N,none⟩=some P:=λ{N P} aF=>(i.cell (p:=⟨f,N,none⟩) A).trans aF;obtain⟨⟨aJ,aK,aL⟩,⟨aM,aN⟩,aO⟩:=y;simp only[fk]at D E;obtain⟨rfl,rfl,rfl⟩:=D;obtain⟨rfl,rfl⟩:=E;subst X;exact⟨L j.1,L j.2.1,L j.2.2.1,L j.2.2.2⟩
 ·obtain⟨_,y,⟨D,E,X⟩,A,j,B,H,O⟩:=d;obtain⟨I,W⟩:=GC ai (u:=2) (by omega);have aa:=Gc (n:=13) (m:=2) (x:=y) (y:=Ky ai 2) (w:=C) ((B.below i).mono i.size) (GD ab Z) (ag _) H I (O.trans W.symm);obtain⟨⟨aJ,aK,aL⟩,⟨aM,aN⟩,aO⟩:=y;simp only[fk]at D E;obtain⟨rfl,rfl,rfl⟩:=D;obtain⟨rfl,rfl⟩:=E;subst X;exact aa
 ·obtain⟨⟨lo,prog,pa,pc,q,h,t,J,F,aj⟩,_⟩:=d;have ak:=(h.later i).events (by omega);have az:q.es.length=4:=by
   have:=congrArg List.length h.evt.1;rw[dN]at this;exact this.trans KX.2
  rw[az]at ak;refine ak.mono ?_;rintro e w' ⟨s,c,rfl,k⟩;have v:=F.trans (i.mono F.size);exact⟨s,c,rfl,k.out.1,v.trans (k.out.1.mono v.size)⟩
theorem Ae(G:Option Addr)(I H:Nat)(room:Int)(sa:Option Addr)(sl sc:Nat)(nm s:Nat->ByteArray)(q r:Nat->Int)(xa:Nat->Option Addr)(t xc:Nat->Nat)(w:World)(x:Value->Int->World->Prop)(l:Nat->Nat->World->Prop)(R:Value->World->Prop)(Z:sl<=9223372036854775807)(E:Hid (Calls Tryz.prog 9 #[.slice G I H,.int .i64 room] w λe w'=>∃v u,e=.returned (.tuple #[v,.int .i64 u])/\Hid (x v u w')))(h:Hid (∀v u W,x v u W->(u≠0\/4<sl)->R (.pointer none) W))(n:Hid (∀v W,x v 0 W->sl<=4->∃a,v=.pointer (some ⟨a,0,none⟩)/\l a 0 W))(k:Hid (∀a j W,j<sl->l a j W->∃g o,(sa=some ⟨g,o,none⟩/\W.cell? ⟨g,o+j*5,none⟩=some (.string (nm j))/\W.cell? ⟨g,o+j*5+1,none⟩=some (.int .i64 (q j))/\W.cell? ⟨g,o+j*5+2,none⟩=some (.int .i64 (r j))/\W.cell? ⟨g,o+j*5+3,none⟩=some (.string (s j))/\W.cell? ⟨g,o+j*5+4,none⟩=some (.slice (xa j) (t j) (xc j)))/\Hid (∀F,Below W.heap.size W F->Calls Tryz.prog 11 #[.pointer (some ⟨a,0,none⟩),.string (nm j),.agg #[.int .i64 (q j),.int .i64 (r j),.string (s j),.slice (xa j) (t j) (xc j)]] F λe w'=>∃v u,e=.returned (.tuple #[.int .i64 v,.int .i64 u])/\Hid (l a (j+1) w'))))(f:Hid (∀a W,l a sl W->R (.pointer (some ⟨a,0,none⟩)) W)):Calls Tryz.prog 5 #[.slice G I H,.int .i64 room,.slice sa sl sc] w λe w'=>∃v,e=.returned v/\Hid (R v w'):=by
 go_enter Tryz.func5,Tryz.ntmps5;go_wp2_with fail;refine E.out.mono ?_;rintro e ak ⟨v,u,rfl,c⟩;clear E;by_cases z:u=0;rotate_left
 ·have i:=ai (h.out _ _ _ c.out (ae z));have aa:(u==0)=false:=by simpa using z
  clear h n k f c;go_wp2_with fail
  go_ret
  exact⟨_,rfl,i.out⟩
 subst z;by_cases Q:sl<=4;rotate_left
 ·have i:=ai (h.out _ _ _ c.out (af (by omega)));have S:(4:Int)<(sl:Int):=by omega
  clear h n k f c;go_wp2_with fail
  go_ret
  exact⟨_,rfl,i.out⟩
 obtain⟨a,rfl,y⟩:=n.out _ _ c.out Q;have C:=ai y;have S:¬(4:Int)<(sl:Int):=by omega
 clear h n c y;go_wp2_with fail;go_loopw [10,26] (λ_ B wr=>∃(j:Nat),j<=sl/\B=.int .i64 j/\Hid (l a j wr)) (λ_ B _=>sl-(intOf B).toNat)
 case atStart=>exact⟨0,aD _,rfl,C.out⟩
 case round=>
 clear C;obtain⟨j,y,rfl,p⟩:=hrel;by_cases T:j<sl
 ·obtain⟨g,o,⟨rfl,L,M,N,O,P⟩,D⟩:=k.out a j _ T p.out;have ad:(0:Int)<=(j:Int):=by omega
  have aj:(j:Int)<(sl:Int):=by omega
  clear k f p;go_upto_region 7 with fail;generalize A:World.alloc _ _=b;have d:b.heap[wr.heap.size]?=some (.cells #[.string (nm j),.int .i64 (q j),.int .i64 (r j),.string (s j),.slice (xa j) (t j) (xc j)] 51):=by
   rw[<-A];exact ay _ _
  have K:=ai (D.out b (by rw[<-A];exact(ah _ _).alloc (ag _) _));generalize wr.heap.size=m at*;have U:b.cell? ⟨m,0,none⟩=some (.string (nm j)):=ab d 0;have d1:b.cell? ⟨m,1,none⟩=some (.int .i64 (q j)):=ab d 1;have V:b.cell? ⟨m,2,none⟩=some (.int .i64 (r j)):=ab d 2;have X:b.cell? ⟨m,3,none⟩=some (.string (s j)):=ab d 3;have Y:b.cell? ⟨m,4,none⟩=some (.slice (xa j) (t j) (xc j)):=ab d 4;clear A d D L M N O P;go_wp2_with fail;refine K.out.mono ?_;rintro e al ⟨v,u,rfl,J⟩;go_wp2_with fail;go_roundw
  case rel=>exact⟨j+1,by omega,by go_num,J.out⟩
  case measure=>simp[intOf];omega
 ·obtain rfl:j=sl:=by omega
  have i:=ai (f.out _ _ p.out);clear k f p;go_wp2_with fail
  go_ret
  exact⟨_,rfl,i.out⟩
theorem La(a:Nat)(W:World):(binOp .eql 26 (.pointer (some ⟨a,0,none⟩)) (.pointer none)).run Tryz.prog W=.ok (.bool false) W:=by kernel_rfl
theorem IZ(W:World):(binOp .eql 26 (.pointer none) (.pointer none)).run Tryz.prog W=.ok (.bool true) W:=by kernel_rfl
theorem Da(aE:Option Addr)(aG aF:Nat)(room:Int)(sa:Option Addr)(sl sc:Nat)(aI:Option Addr)(h aX:Nat)(aH:Option Addr)(f aU:Nat)(N K M O P:Nat->Int)(Q:Nat->ByteArray)(R:Nat->Option Addr)(T S:Nat->Nat)(X U V Y Z:Nat->Int)(aa:Nat->ByteArray)(ad:Nat->Option Addr)(af ae:Nat->Nat)(w:World)(t:Nat->Nat->World->Prop)(A:Nat->Option Addr->Nat->Nat->Nat->World->Prop)(ap:Nat->Option Addr->Nat->Nat->Option Addr->Nat->Nat->World->Prop)(a5:h<=1048576)(a3:f<=1048576)(m:Hid (Calls Tryz.prog 4 #[] w λe w'=>e=.returned (.bool true)/\Hid (Below w.heap.size w w')))(HB:Hid (∀W,Below w.heap.size w W->Calls Tryz.prog 5 #[.slice aE aG aF,.int .i64 room,.slice sa sl sc] W λe w'=>(e=.returned (.pointer none)/\Hid (Below w.heap.size w w'))\/∃b,e=.returned (.pointer (some ⟨b,0,none⟩))/\Hid (t b 0 w')))(H:Hid (∀b j W,t b j W->Below w.heap.size w W))(I:Hid (∀b a L c p n l W,ap b a L c p n l W->Below w.heap.size w W))(x:Hid (∀b j W,j<h->h+f<=100->t b j W->∃g o,(aI=some ⟨g,o,none⟩/\W.cell? ⟨g,o+j*7,none⟩=some (.int .i64 (N j))/\W.cell? ⟨g,o+j*7+1,none⟩=some (.int .i64 (K j))/\W.cell? ⟨g,o+j*7+2,none⟩=some (.int .i64 (M j))/\W.cell? ⟨g,o+j*7+3,none⟩=some (.int .i64 (O j))/\W.cell? ⟨g,o+j*7+4,none⟩=some (.int .i64 (P j))/\W.cell? ⟨g,o+j*7+5,none⟩=some (.string (Q j))/\W.cell? ⟨g,o+j*7+6,none⟩=some (.slice (R j) (T j) (S j)))/\Hid (∀B,Below W.heap.size W B->Calls Tryz.prog 6 #[.pointer (some ⟨b,0,none⟩),.agg #[.int .i64 (N j),.int .i64 (K j),.int .i64 (M j),.int .i64 (O j),.int .i64 (P j),.string (Q j),.slice (R j) (T j) (S j)]] B λe w'=>∃v,e=.returned (.int .i64 v)/\Hid (t b (j+1) w'))))(F:Hid (∀b W,h+f<=100->t b h W->Calls Tryz.prog 7 #[.pointer (some ⟨b,0,none⟩)] W λe w'=>∃a L c,e=.returned (.slice a L c)/\L<=1000000/\Hid (A b a L c 0 w')))(y:Hid (∀b a L c j W,j<f->h+f<=100->A b a L c j W->∃g o,(aH=some ⟨g,o,none⟩/\W.cell? ⟨g,o+j*7,none⟩=some (.int .i64 (X j))/\W.cell? ⟨g,o+j*7+1,none⟩=some (.int .i64 (U j))/\W.cell? ⟨g,o+j*7+2,none⟩=some (.int .i64 (V j))/\W.cell? ⟨g,o+j*7+3,none⟩=some (.int .i64 (Y j))/\W.cell? ⟨g,o+j*7+4,none⟩=some (.int .i64 (Z j))/\W.cell? ⟨g,o+j*7+5,none⟩=some (.string (aa j))/\W.cell? ⟨g,o+j*7+6,none⟩=some (.slice (ad j) (af j) (ae j)))/\Hid (∀B,Below W.heap.size W B->Calls Tryz.prog 6 #[.pointer (some ⟨b,0,none⟩),.agg #[.int .i64 (X j),.int .i64 (U j),.int .i64 (V j),.int .i64 (Y j),.int .i64 (Z j),.string (aa j),.slice (ad j) (af j) (ae j)]] B λe w'=>∃v,e=.returned (.int .i64 v)/\Hid (A b a L c (j+1) w'))))(G:Hid (∀b a L c W,h+f<=100->A b a L c f W->Calls Tryz.prog 7 #[.pointer (some ⟨b,0,none⟩)] W λe w'=>∃p n l,e=.returned (.slice p n l)/\(L<=n/\n<=1000000/\xt p n l)/\Hid (ap b a L c p n l w')))(J:Hid (∀b a L c p n l W,ap b a L c p n l W->Calls Tryz.prog 8 #[.slice p L l,.slice a L c] W λe w'=>e=.returned (.bool true)/\Below W.heap.size W w')):Calls Tryz.prog 3 #[.slice aE aG aF,.int .i64 room,.slice sa sl sc,.slice aI h aX,.slice aH f aU] w λe w'=>e=.returned (.bool true)/\Below w.heap.size w w':=by
 go_enter Tryz.func3,Tryz.ntmps3;go_wp2_with fail;refine m.out.mono ?_;rintro e be ⟨rfl,ak⟩;clear m;go_wp2_with fail;refine(HB.out _ ak.out).mono ?_;clear HB;rintro e bf (⟨rfl,q⟩|⟨b,rfl,E⟩)
 ·have aQ:=IZ;clear x F y G J ak H I;go_wp2_with fail
  go_ret
  exact⟨rfl,q.out⟩
 clear ak;have aQ:=La b;have a4:IntKind.i64.wrap ((h:Int)+(f:Int))=(h:Int)+(f:Int):=by rw[IntKind.wrap];simp[IntKind.bits,IntKind.signed];omega
 by_cases aj:h+f<=100;rotate_left
 ·have aP:(100:Int)<(h:Int)+(f:Int):=by omega
  have q:=ai (H.out _ _ _ E.out);clear x F y G J E H I;go_wp2_with fail
  go_ret
  exact⟨rfl,q.out⟩
 have aP:¬(100:Int)<(h:Int)+(f:Int):=by omega
 go_wp2_with fail;go_loopw [13,36] (λ_ s wr=>∃(j:Nat),j<=h/\s=.int .i64 j/\Hid (t b j wr)) (λ_ s _=>h-(intOf s).toNat)
 case atStart=>exact⟨0,aD _,rfl,E.out⟩
 case round=>
 clear E;obtain⟨j,aA,rfl,m⟩:=hrel;by_cases D:j<h
 ·obtain⟨g,o,⟨rfl,aq,ar,au,av,aw,ax,az⟩,u⟩:=x.out b j _ D aj m.out;have aS:(0:Int)<=(j:Int):=by omega
  have aT:(j:Int)<(h:Int):=by omega
  clear x m;go_upto_region 9 with fail;generalize r:World.alloc _ _=d;have i:d.heap[wr.heap.size]?=some (.cells #[.int .i64 (N j),.int .i64 (K j),.int .i64 (M j),.int .i64 (O j),.int .i64 (P j),.string (Q j),.slice (R j) (T j) (S j)] 32):=by
   rw[<-r];exact ay _ _
  have an:=ai (u.out d (by rw[<-r];exact(ah _ _).alloc (ag _) _));generalize wr.heap.size=k at*;have aJ:d.cell? ⟨k,0,none⟩=some (.int .i64 (N j)):=ab i 0;have d1:d.cell? ⟨k,1,none⟩=some (.int .i64 (K j)):=ab i 1;have aK:d.cell? ⟨k,2,none⟩=some (.int .i64 (M j)):=ab i 2;have aL:d.cell? ⟨k,3,none⟩=some (.int .i64 (O j)):=ab i 3;have aM:d.cell? ⟨k,4,none⟩=some (.int .i64 (P j)):=ab i 4;have aN:d.cell? ⟨k,5,none⟩=some (.string (Q j)):=ab i 5;have aO:d.cell? ⟨k,6,none⟩=some (.slice (R j) (T j) (S j)):=ab i 6;clear r i u aq ar au av aw ax az;go_wp2_with fail;refine an.out.mono ?_;rintro e aV ⟨v,rfl,al⟩;go_wp2_with fail;go_roundw
  case rel=>exact⟨j+1,by omega,by go_num,al.out⟩
  case measure=>simp[intOf];omega
 obtain rfl:j=h:=by omega
 have z:=ai (F.out _ _ aj m.out);clear x F m aA D;go_wp2_with fail;refine z.out.mono ?_;rintro e bg ⟨a,L,c,rfl,aZ,aB⟩;clear z;go_wp2_with fail;go_loopw [16,48] (λ_ s wr=>∃(j:Nat),j<=f/\s=.int .i64 j/\Hid (A b a L c j wr)) (λ_ s _=>f-(intOf s).toNat)
 case atStart=>exact⟨0,aD _,rfl,aB.out⟩
 case round=>
 clear aB;obtain⟨j,aA,rfl,m⟩:=hrel;by_cases D:j<f
 ·obtain⟨g,o,⟨rfl,aq,ar,au,av,aw,ax,az⟩,u⟩:=y.out b a L c j _ D aj m.out;have aS:(0:Int)<=(j:Int):=by omega
  have aT:(j:Int)<(f:Int):=by omega
  clear y m;go_upto_region 15 with fail;generalize r:World.alloc _ _=d;have i:d.heap[wr.heap.size]?=some (.cells #[.int .i64 (X j),.int .i64 (U j),.int .i64 (V j),.int .i64 (Y j),.int .i64 (Z j),.string (aa j),.slice (ad j) (af j) (ae j)] 32):=by
   rw[<-r];exact ay _ _
  have an:=ai (u.out d (by rw[<-r];exact(ah _ _).alloc (ag _) _));generalize wr.heap.size=k at*;have aJ:d.cell? ⟨k,0,none⟩=some (.int .i64 (X j)):=ab i 0;have d1:d.cell? ⟨k,1,none⟩=some (.int .i64 (U j)):=ab i 1;have aK:d.cell? ⟨k,2,none⟩=some (.int .i64 (V j)):=ab i 2;have aL:d.cell? ⟨k,3,none⟩=some (.int .i64 (Y j)):=ab i 3;have aM:d.cell? ⟨k,4,none⟩=some (.int .i64 (Z j)):=ab i 4;have aN:d.cell? ⟨k,5,none⟩=some (.string (aa j)):=ab i 5;have aO:d.cell? ⟨k,6,none⟩=some (.slice (ad j) (af j) (ae j)):=ab i 6;clear r i u aq ar au av aw ax az;go_wp2_with fail;refine an.out.mono ?_;rintro e aV ⟨v,rfl,al⟩;go_wp2_with fail;go_roundw
  case rel=>exact⟨j+1,by omega,by go_num,al.out⟩
  case measure=>simp[intOf];omega
 obtain rfl:j=f:=by omega
 have z:=ai (G.out _ _ _ _ _ aj m.out);clear y G m aA D;go_wp2_with fail;refine z.out.mono ?_;rintro e bh ⟨p,n,l,rfl,⟨a0,a1,aR⟩,am⟩;have aC:=ai (J.out _ _ _ _ _ _ _ _ am.out);have q:=ai (I.out _ _ _ _ _ _ _ _ am.out);clear z J am H I;have a6:(L:Int)<=(n:Int):=by omega
 have a7:¬((n:Int)<(L:Int)):=by omega
 have a8:(0:Int)<=(L:Int):=by omega
 have a9:¬((L:Int)<0):=by omega
 rcases aR with⟨rfl,rfl,rfl⟩|⟨⟨aY,rfl⟩,a2⟩
 ·obtain rfl:L=0:=by omega
  go_wp2_with fail;refine aC.out.mono ?_;rintro e aW ⟨rfl,C⟩;have ao:=ai (q.out.trans (C.mono q.out.size));clear C;go_wp2_with fail
  go_ret
  exact⟨rfl,ao.out⟩
 ·have ba:(L:Int)<=(l:Int):=by omega
  have bb:¬((l:Int)<(L:Int)):=by omega
  have bc:L<=l:=by omega
  have bd:¬(l<L):=by omega
  go_wp2_with fail;refine aC.out.mono ?_;rintro e aW ⟨rfl,C⟩;have ao:=ai (q.out.trans (C.mono q.out.size));clear C;go_wp2_with fail
  go_ret
  exact⟨rfl,ao.out⟩
def wt:(n:Nat)->Tm n->Nat
 | 0,_=>1
 | n+1,x=>1+x.1.2.2.size+(x.2.2.map λy=>wt n y).sum
theorem pE:(n:Nat)->(x:Tm n)->(ap n x).length<=wt n x
 | 0,_=>by simp[ap,wt]
 | n+1,x=>by
  have key:∀l:List (Tm n),(l.flatMap λy=>ap n y).length<=(l.map λy=>wt n y).sum:=by
   intro l
   induction l with
   | nil=>simp
   | cons y l ih=>
    have:=pE n y;simp only[bj,aW,aJ,br];omega
  have:=key x.2.2;simp only[ap,wt,aZ];omega
theorem own:ownKnob Tryz.prog.godebug=none:=by kernel_rfl
theorem pw:laidOutB Tryz.prog=true:=by kernel_rfl
theorem jp:Tryz.prog.cellsOf 30=4:=by kernel_rfl
theorem sq:Tryz.prog.cellsOf 3=1:=by kernel_rfl
theorem ki:Tryz.prog.cellsOf 9=1:=by kernel_rfl
theorem Ah:Tryz.prog.cellsOf 28=1:=by kernel_rfl
theorem vW{f:Type}{P:Nat->f->Prop}:(len:Nat)->(∀i,i<len->∃y,P i y)->∃l:List f,l.length=len/\∀i y,l[i]?=some y->P i y
 | 0,_=>⟨[],rfl,λi y b=>by simp at b⟩
 | len+1,b=>by
  obtain⟨l,j,k⟩:=vW len (λi d=>b i (by omega));obtain⟨e,m⟩:=b len (by omega);refine⟨l++ [e],by simp[j],λi y a=>?_⟩;by_cases d:i<l.length
  ·rw[cV d]at a;exact k i y a
  ·rw[dM (by omega)]at a;have c:i-l.length=0:=by
    by_cases c:i-l.length=0
    ·exact c
    ·rw[eK (by simp;omega)]at a;cases a
   rw[c]at a;have g:e=y:=by simpa using a
   have h:i=len:=by omega
   rw[h,<-g];exact m
theorem Jv{H:Type}{n:Nat}:(p:List (Tm n))->(es:List (DataW H))->(∀(i:Nat)(y:Tm n)(e:DataW H),p[i]?=some y->es[i]?=some e->wt n y<=Rows.uptoBulk e)->p.length=es.length->(p.map λy=>wt n y).sum<=Rows.uptoBulkAll es
 | [],es,_,h=>by simp
 | y::p,[],_,h=>by simp at h
 | y::p,e::es,hp,h=>by
  have f:=hp 0 y e (by simp) (by simp);have g:=Jv p es (λi d a c b=>hp (i+1) d a (by simpa using c) (by simpa using b)) (by simpa using h);simp only[aJ,br,Rows.uptoBulkAll];omega
theorem BO(b o i j:Nat):((⟨b,o,none⟩:Addr).add i).add j=⟨b,o+i+j,none⟩:=by
 unfold Addr.add;split<;>split<;>simp_all
theorem vj{w:World}{a:Addr}{v:Value}(c:w.cell? ((a.add 0).add 0)=some v):a=⟨a.block,a.off,none⟩:=by
 have d:(a.add 0).add 0=a:=rfl;rw[d]at c;unfold World.cell? at c;split at c
 ·split at c
  ·cases c
  ·rename_i e;cases a with
   | mk b o f=>cases f with
    | none=>rfl
    | some g=>simp at e
 ·cases c
theorem xg{k:Int}(a:(Lit.int .i64 k).wf=true):cY k:=by
 have: -9223372036854775808<=k/\k<=9223372036854775807:=by simpa [Lit.wf,IntKind.min,IntKind.max,IntKind.signed,IntKind.bits]using a
 exact this
theorem I6{H:Type}(enc:TypeId×Value->H)(w:World)(p:Nat->Bool):(n f:Nat)->f<=2*n+1->(cs:List Value)->(x:DataW H×List MemPlace)-> DataW.trod enc Tryz.prog w 0 p true f 30 cs=some x-> ∃t:Tm (n+1),cs=[.int .i64 t.1.1,.int .i64 t.1.2.1,.string t.1.2.2,.slice t.2.1.1 t.2.2.length t.2.1.2]/\In w.heap.size w (n+1) t/\wt (n+1) t<=Rows.uptoBulk x.1:=by
 intro n
 induction n with
 | zero=>
  intro f an cs x l;obtain⟨h,m,rfl,rfl,I,K,q⟩:=j0 Tryz.underlying30 l;have u:DataW.trod enc Tryz.prog w 0 p true m 3 ((cs.drop 0).take (Tryz.prog.cellsOf 3))=h[0]? :=q 0 _ rfl;obtain rfl:m=0:=by omega
  have aG:h.length=4:=K;rw[az (by omega)]at u;cases u
 | succ n ih=>
  intro f an cs x l;obtain⟨h,m,rfl,rfl,I,K,q⟩:=j0 Tryz.underlying30 l;have u:DataW.trod enc Tryz.prog w 0 p true m 3 ((cs.drop 0).take (Tryz.prog.cellsOf 3))=h[0]? :=q 0 _ rfl;have R:DataW.trod enc Tryz.prog w 0 p true m 3 ((cs.drop 1).take (Tryz.prog.cellsOf 3))=h[1]? :=q 1 _ rfl;have S:DataW.trod enc Tryz.prog w 0 p true m 9 ((cs.drop 2).take (Tryz.prog.cellsOf 9))=h[2]? :=q 2 _ rfl;have T:DataW.trod enc Tryz.prog w 0 p true m 28 ((cs.drop 3).take (Tryz.prog.cellsOf 28))=h[3]? :=q 3 _ rfl;rw[sq]at u R;rw[ki]at S;rw[Ah]at T;rw[jp]at I;obtain⟨d,i,j,e,rfl⟩:∃d i j e,cs=[d,i,j,e]:=by
   match cs,I with
   | [d,i,j,e],_=>exact⟨d,i,j,e,rfl⟩
  obtain⟨y0,y1,y2,y,rfl⟩:∃y0 y1 y2 y,h=[y0,y1,y2,y]:=by
   match h,K with
   | [y0,y1,y2,y],_=>exact⟨y0,y1,y2,y,rfl⟩
  obtain⟨k,O,av,Y⟩:=jZ Tryz.underlying3 (x:=y0) (by simpa using u);obtain⟨X,P,aw,Z⟩:=jZ Tryz.underlying3 (x:=y1) (by simpa using R);obtain⟨r,Q,ax,aa⟩:=nE Tryz.underlying9 (x:=y2) (by simpa using S);have ah:DataW.trod enc Tryz.prog w 0 p true m 28 [e]=some y:=by simpa using T
  simp at O P Q;subst O P Q av aw ax;rcases DataW.trod_slice Tryz.underlying28 ah with⟨s,rfl⟩|⟨a,len,cap,D,aI,au,rfl,s,rfl,_,aB,ak,aA,E,_,_⟩
  ·simp at s;subst s;refine⟨((k,X,r),(none,0),[]),rfl,⟨⟨xg Y,xg Z,aa,ag _,aD _⟩,ae rfl⟩,?_⟩;have es:r.data.toList.length=r.size:=by rw[gn];rfl
   simp only[wt,Rows.uptoBulk,Rows.uptoBulkAll,aJ,bP,iI];omega
  ·simp at s;subst s;simp only[jp]at E;have key:∀c,c<len->∃t:Tm (n+1),(∃b o,a=⟨b,o,none⟩/\b<w.heap.size/\dk w b (o+c*4) (n+1) t)/\In w.heap.size w (n+1) t/\∀g,(D.map (·.1))[c]?=some g->wt (n+1) t<=Rows.uptoBulk g:=by
    intro c ap;have V:=E c ap;have W:=E 0 (by omega);rw[az (by omega)]at V W;obtain⟨ab,al,ar⟩:=bz.1 V;obtain⟨ad,am,aF⟩:=bz.1 W;obtain⟨_,aC,z⟩:=nM al;obtain⟨_,aE,aj⟩:=nM am;obtain⟨t,rfl,G,F⟩:=ih au (by omega) ab _ ar;have U:=vj (w:=w) (a:=a) (v:=ad[0]'(by omega)) (by have:=aj 0 (by omega);rw[az (by omega)]at this;simpa using this);have ai:∀C,(a.add (c*4)).add C=⟨a.block,a.off+c*4+C,none⟩:=λC=>by
     have:=BO a.block a.off (c*4) C;rw[<-U]at this;exact this
    have d:=z 0 (by omega);have i:=z 1 (by omega);have j:=z 2 (by omega);have e:=z 3 (by omega);rw[ai]at d i j e;simp at d i j e;refine⟨t,⟨a.block,a.off,U,lw w ⟨a.block,a.off+c*4,none⟩ d,d,i,j,e⟩,G,λg A=>?_⟩;rw[df,az (by omega)]at A;have:(D[c]).1=g:=by simpa using A
    rw[<-this];exact F
   obtain⟨M,B,J⟩:=vW len key;refine⟨((k,X,r),(some a,cap),M),by simp[B],⟨⟨xg Y,xg Z,aa,by simp only;omega,ak⟩,?_⟩,?_⟩
   ·rcases Nat.eq_zero_or_pos len with l|l
    ·exact ae (bL (B.trans l))
    ·obtain⟨⟨b,o,rfl,F,_⟩,_,_⟩:=J 0 (M[0]'(by rw[B];exact l)) (az (by rw[B];exact l));refine af ⟨b,o,rfl,F,λc N L=>?_⟩;obtain⟨⟨ay,aH,g,_,ao⟩,G,_⟩:=J c N L;simp at g;obtain⟨rfl,rfl⟩:=g;exact⟨ao,G⟩
   ·have aq:=Jv M (D.map (·.1)) (λc N g L A=>(J c N L).2.2 g A) (by simp;omega);have es:r.data.toList.length=r.size:=by rw[gn];rfl
    simp only[wt,Rows.uptoBulk,Rows.uptoBulkAll,aJ,bP]at aq ⊢;omega
end Go.Proofs.YtmbjgiaebneodaaGreat
