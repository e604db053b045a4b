/- What is proved here: plain facts and contracts that the claimed theorem stands on. No condition but those that each names. -/
import Derived.Test.YtnidfceinoiboaaGreatG43
namespace Go.Proofs.YtnidfceinoiboaaGreat
open Go.RowKit
set_option maxRecDepth 100000
set_option maxHeartbeats 4000000
def kC:Tc:=aS 3 2 12
def dI(u:Int):Tc:=cM 12 [aQ wN 11,aS 1 u 11]
def Ln:List An:=[⟨1,dG⟩,⟨1,dG⟩,⟨1,dG⟩]
theorem Kt:(wN.toList==qV.toList)=false:=by
 simp[du,wN,qV]
theorem Gc:cg wN=true:=by simp[cg,wN,kK,fk,ol,show (⟨#[110]⟩:ByteArray).size=1 from rfl]
theorem Gz{n m:Nat}{x:Tm n}{y:Tm m}{B:Nat}{w:World}(f:In B w n x)(g:In B w m y)(d:B<=w.heap.size)(b:bA n x=0)(c:bA m y=0)(a:cn n x=cn m y):Calls Tryz.prog 16 #[dg n x,dg m y] w λe w'=>e=.returned (.bool true)/\Below w.heap.size w w':=by
 have k:=GC n x m y B w f g d;rw[BB b c a]at k;exact k
def fH(k u:Int)(s:ByteArray)(a:Option Addr×Nat)(N:Nat):Tm (N+1):=((k,u,s),a,[])
def G8(a:Option Addr×Nat)(N:Nat)(l:List (Tm N)):Tm (N+1):=((4,0,.empty),a,l)
theorem mT{n m:Nat}{x:Tm (n+1)}{k u:Int}{s:ByteArray}{b:Option Addr×Nat}(c:aw (n+1) x (m+1) ((k,u,s),b,[])=true):∃a,x=fH k u s a n:=by
 obtain⟨d,e⟩:=bq c;obtain⟨f,g,h⟩:=x;cases h with
 | nil=>exact⟨g,by rw[show f=(k,u,s)from d];rfl⟩
 | cons i l=>simp[av]at e
theorem tw{N n m:Nat}{x:Tm (n+1)}{y:Tm (m+1)}(e:aw (N+1) (aI (N+1) (n+1) x) (m+1) y=true):x.1=y.1/\av (λa b=>aw N (aI N n a) m b) x.2.2 y.2.2=true:=by
 obtain⟨f,c⟩:=bq e;refine⟨f,?_⟩;have g:((aI (N+1) (n+1) x).2.2)=x.2.2.map (aI N n):=rfl;rw[g]at c;generalize y.2.2=d at c;clear e f g;generalize x.2.2=h at c ⊢;clear x
 induction h generalizing d with
 | nil=>
  cases d with
  | nil=>rfl
  | cons b d=>simp[av]at c
 | cons a h ih=>
  cases d with
  | nil=>simp[av]at c
  | cons b d=>
   simp only[aH,av,az]at c ⊢;exact⟨c.1,ih d c.2⟩
theorem nC{N n m:Nat}{x:Tm (n+1)}{k u:Int}{s:ByteArray}{b:Option Addr×Nat}(c:aw (N+1) (aI (N+1) (n+1) x) (m+1) ((k,u,s),b,[])=true):∃a,x=fH k u s a n:=by
 obtain⟨d,e⟩:=tw c;obtain⟨f,g,h⟩:=x;cases h with
 | nil=>exact⟨g,by rw[show f=(k,u,s)from d];rfl⟩
 | cons i l=>simp[av]at e
theorem qd{d e:Type}{f:d->e->Bool}{p:List d}{b c:e}(a:av f p [b,c]=true):∃x y,p=[x,y]/\f x b=true/\f y c=true:=by
 obtain⟨x,j,rfl,g,a⟩:=cv a;obtain⟨y,i,rfl,h,a⟩:=cv a;cases i with
 | nil=>exact⟨x,y,rfl,g,h⟩
 | cons k l=>simp[av]at a
def iu(l:List (Bh 8)):Prop:=∃a b c d e f g h i j k m n o nm r,l=[(bG,j,[((fH 5 0 .empty a 7,G8 b 7 [fH 2 0 wN c 6,fH 5 1 .empty d 6],fH 5 0 .empty e 7),k,[(1,(fH 5 0 .empty f 7,G8 g 7 [fH 2 0 wN h 6,G8 i 6 [fH 2 0 fE m 5,fH 5 1 .empty n 5,fH 1 1 .empty o 5]]),nm,r)])])]
theorem Ei{l:List (Bh 8)}(a:aw 13 (cR 7 l) 8 (cR 2 ji)=true):iu l:=by
 obtain⟨_,a⟩:=bq a;have a:av (λe b=>aw 12 e 7 b) (aQ iO 11::l.map (ek 7)) [aQ iO 6,ek 2 (bG,(none,0),[((my 0 2,zR,my 0 2),(none,0),[(1,(my 0 2,oZ),.empty,0)])])]=true:=a;obtain⟨_,h,f,_,a⟩:=qd a;obtain⟨_,f⟩:=List.cons.inj f;obtain⟨b,rfl,rfl⟩:=rb.1 f;obtain⟨_,a⟩:=bq a;have a:av (λe b=>aw 11 e 6 b) (aQ nh 10::aQ b.1 10::b.2.2.map (eD 7)) [aQ nh 5,aQ bG 5,eD 2 ((my 0 2,zR,my 0 2),(none,0),[(1,(my 0 2,oZ),.empty,0)])]=true:=a;obtain⟨_,_,f,_,a⟩:=cv a;obtain⟨_,f⟩:=List.cons.inj f;subst f;obtain⟨_,h,f,i,a⟩:=qd a;obtain⟨ab,O⟩:=List.cons.inj f;subst ab;obtain⟨c,u,rfl⟩:=rb.1 O;have i:b.1=bG:=by
  have:=(bq i).1;simpa [aQ]using this
 obtain⟨_,a⟩:=bq a;have a:av (λe b=>aw 10 e 5 b) [aQ B5 9,aI 10 8 c.1.1,aI 10 8 c.1.2.1,cM 9 (c.2.2.map (de 7)),aI 10 8 c.1.2.2] [aQ B5 4,aI 5 3 (my 0 2),aI 5 3 zR,cM 4 [de 2 (1,(my 0 2,oZ),.empty,0)],aI 5 3 (my 0 2)]=true:=a;simp only[av,az,and_true]at a;obtain⟨_,Q,j,d,R⟩:=a;obtain⟨C,n⟩:=nC Q;obtain⟨F,p⟩:=nC R;obtain⟨v,j⟩:=tw j;obtain⟨ae,h,o,S,T⟩:=qd (show av _ c.1.2.1.2.2 [aI 4 2 (aQ wN 1),aI 4 2 (my 1 1)]=true from j);obtain⟨D,rfl⟩:=nC S;obtain⟨E,rfl⟩:=nC T;obtain⟨_,d⟩:=bq d;have d:av (λe b=>aw 9 e 4 b) (c.2.2.map (de 7)) [de 2 (1,(my 0 2,oZ),.empty,0)]=true:=d;obtain⟨_,y,f,d,U⟩:=cv d;have:y=[]:=by
  cases y with
  | nil=>rfl
  | cons aq l=>simp[av]at U
 subst this;obtain⟨e,t,rfl⟩:=rb.1 f;obtain⟨_,d⟩:=bq d;have d:av (λe b=>aw 8 e 3 b) (de 7 e).2.2 [aQ iP 2,my 0 2,oZ]=true:=d;have m:e.1=1:=by
  unfold de at d;split at d
  ·assumption
  ·split at d
   ·simp[cM,av]at d
   ·split at d
    ·simp[cM,av]at d
    ·simp[cM,av]at d
 have P:(de 7 e).2.2=[aQ iP 7,e.2.1.1,e.2.1.2]:=by
  unfold de;rw[if_pos m];rfl
 rw[P]at d;simp only[av,az,and_true]at d;obtain⟨_,V,k⟩:=d;obtain⟨G,q⟩:=mT V;obtain⟨w,k⟩:=bq k;obtain⟨ae,h,r,W,g⟩:=qd (show av _ e.2.1.2.2.2 [aQ wN 1,cM 1 [aQ fE 0,my 1 0,aS 1 1 0]]=true from k);obtain⟨H,rfl⟩:=mT W;obtain⟨x,g⟩:=bq g;have g:av (λe b=>aw 6 e 1 b) h.2.2 [aQ fE 0,my 1 0,aS 1 1 0]=true:=g;obtain⟨ar,am,s,X,g⟩:=cv g;obtain⟨au,ax,rfl,Y,Z⟩:=qd g;obtain⟨J,rfl⟩:=mT X;obtain⟨K,rfl⟩:=mT Y;obtain⟨L,rfl⟩:=mT Z;obtain⟨bn,I,ah⟩:=b;obtain⟨⟨ai,N,aj⟩,M,cl⟩:=c;obtain⟨af,⟨ag,B⟩,z,A⟩:=e;obtain⟨ak,aa,al⟩:=N;obtain⟨an,ad,ao⟩:=B;obtain⟨y1,y2,ap⟩:=h;simp only at i u n o p v t m q r s w x;subst i u n o p v t m q r s w x;exact⟨C,aa,D,E,F,G,ad,H,y2,I,M,J,K,L,z,A,rfl⟩
def ur:List Tc:=[kC,aS 1 1 12,cn 1 dG,cn 1 dG]
def KM:Tk:=⟨dI 1,0,[(2,dI 2)],[],[],kC,[]⟩
section
variable (b1 b2 b3 b4 b5 b6 b7 b8 b9 c1 c2 c3 c4 c5:Option Addr×Nat)
theorem Bx:fY 8 (fH 5 0 .empty b1 7) 13 kC qt=some (⟨13,kC⟩::Ln):=rfl
theorem KF(b:List An):fY 7 (fH 2 0 wN b3 6) 12 (aQ wN 11) b=some b:=by
 have a:aw 7 (fH 2 0 wN b3 6) 12 (aQ wN 11)=true:=bX rfl rfl;exact(if_neg (show¬(2:Int)=6 by decide)).trans ((if_neg (show¬(2:Int)=5 by decide)).trans ((if_neg (show¬(2:Int)=4 by decide)).trans (if_pos a)))
theorem Gu:fY 8 (G8 b2 7 [fH 2 0 wN b3 6,fH 5 1 .empty b4 6]) 13 (dI 1) (⟨13,kC⟩::Ln)=some [⟨13,kC⟩,⟨12,aS 1 1 11⟩,⟨1,dG⟩,⟨1,dG⟩]:=by
 refine(if_neg (show¬(4:Int)=6 by decide)).trans ((if_neg (show¬(4:Int)=5 by decide)).trans ((if_pos (show (4:Int)=4 from rfl)).trans ((if_pos (show (4:Int)=4/\(2:Nat)=2 from⟨rfl,rfl⟩)).trans ?_)));show (fY 7 (fH 2 0 wN b3 6) 12 (aQ wN 11) (⟨13,kC⟩::Ln)).bind (λb=>(fY 7 (fH 5 1 .empty b4 6) 12 (aS 1 1 11) b).bind (λb=>some b))=_;rw[KF,dk];rfl
theorem Ji:vl 13 ur 1 7 (G8 b9 6 [fH 2 0 fE c3 5,fH 5 1 .empty c4 5,fH 1 1 .empty c5 5])=some (aS 1 2 19):=by
 have b:rs 6 [fH 2 0 fE c3 5,fH 5 1 .empty c4 5,fH 1 1 .empty c5 5] qU 2=true:=by
  have a:rs 6 [fH 2 0 fE c3 5,fH 5 1 .empty c4 5,fH 1 1 .empty c5 5] qU 2=(fE.toList==qU.toList):=rfl;rw[a];simp[du,fE,qU]
 refine(if_neg (show¬(4:Int)=5 by decide)).trans ((if_neg (show¬(4:Int)=6 by decide)).trans ((if_pos (show (4:Int)=4 from rfl)).trans ((if_neg (show¬rs 6 [fH 2 0 fE c3 5,fH 5 1 .empty c4 5,fH 1 1 .empty c5 5] ni 0=true by exact nN)).trans ((if_pos b).trans ?_))));rfl
theorem Ly:vl 13 ur 1 7 (fH 2 0 wN b8 6)=some (aI 20 7 (fH 2 0 wN b8 6)):=rfl
theorem GB:vl 13 ur 1 8 (G8 b7 7 [fH 2 0 wN b8 6,G8 b9 6 [fH 2 0 fE c3 5,fH 5 1 .empty c4 5,fH 1 1 .empty c5 5]])=some (cM 20 [aI 20 7 (fH 2 0 wN b8 6),aS 1 2 19]):=by
 generalize d:G8 b9 6 [fH 2 0 fE c3 5,fH 5 1 .empty c4 5,fH 1 1 .empty c5 5]=a;have g:vl 13 ur 1 7 a=some (aS 1 2 19):=by rw[<-d];exact Ji b9 c3 c4 c5
 clear d;have f:rs 7 [fH 2 0 wN b8 6,a] qV 1=false:=by
  have e:rs 7 [fH 2 0 wN b8 6,a] qV 1=(wN.toList==qV.toList):=rfl;rw[e,Kt]
 refine(if_neg (show¬(4:Int)=5 by decide)).trans ((if_neg (show¬(4:Int)=6 by decide)).trans ((if_pos (show (4:Int)=4 from rfl)).trans ((if_neg (show¬rs 7 [fH 2 0 wN b8 6,a] ni 0=true by exact nN)).trans ((if_neg (show¬rs 7 [fH 2 0 wN b8 6,a] qU 2=true by exact nN)).trans ((if_neg (show¬rs 7 [fH 2 0 wN b8 6,a] qV 1=true by rw[f];exact nN)).trans ?_)))));show ((vl 13 ur 1 7 (fH 2 0 wN b8 6)).bind λb=>((vl 13 ur 1 7 a).bind λc=>some [c]).map λl=>b::l).map (cM 20)=_;rw[Ly,g];rfl
theorem Gq:bA 21 (aI 21 13 kC)=0:=by
 have c:bO 21 (aI 21 13 kC)=true:=by
  rw[<-aJ];intro b a;have a:b∈[(((3,2,.empty),(none,0,0)):Nd)]:=a;obtain rfl:=dj.1 a;simp[bT,kK]
 exact bv.2 ⟨c,by decide,by decide⟩
theorem Ef:bA 21 (cM 20 [aI 20 7 (fH 2 0 wN b8 6),aS 1 2 19])=0:=by
 have d:bO 21 (cM 20 [aI 20 7 (fH 2 0 wN b8 6),aS 1 2 19])=true:=by
  rw[<-aJ];intro b a;have a:b∈[(((4,0,.empty),(none,2,0)):Nd),((2,0,wN),(b8.1,0,b8.2)),((1,2,.empty),(none,0,0))]:=a;simp only[br,dv,dx]at a;rcases a with rfl|rfl|rfl
  ·simp[bT]
  ·simp[bT,Gc]
  ·simp[bT,kK]
 have c:eW 21 (cM 20 [aI 20 7 (fH 2 0 wN b8 6),aS 1 2 19])=eW 21 (cM 20 [aI 20 7 (fH 2 0 wN (none,0) 6),aS 1 2 19]):=rfl;have e:sz 21 (cM 20 [aI 20 7 (fH 2 0 wN b8 6),aS 1 2 19])=sz 21 (cM 20 [aI 20 7 (fH 2 0 wN (none,0) 6),aS 1 2 19]):=rfl;exact bv.2 ⟨d,by rw[c];decide,by rw[e];decide⟩
theorem zM:qn ur 1 8 (fH 5 0 .empty b1 7)=some kC:=by
 have a:vl 13 ur 1 8 (fH 5 0 .empty b1 7)=some (aI 21 13 kC):=rfl;unfold qn;rw[a,dk,if_pos Gq];rfl
theorem Bw{l:List (Bh 8)}(j:iu l):ng 100 l bG 1 3 kC [dI 1]=some KM:=by
 obtain⟨b1,b2,b3,b4,b5,b6,b7,b8,b9,c1,c2,c3,c4,c5,e,f,rfl⟩:=j;have h:=GB b7 b8 b9 c3 c4 c5;have g:=Gu b2 b3 b4;generalize n:G8 b7 7 [fH 2 0 wN b8 6,G8 b9 6 [fH 2 0 fE c3 5,fH 5 1 .empty c4 5,fH 1 1 .empty c5 5]]=a at h;generalize m:G8 b2 7 [fH 2 0 wN b3 6,fH 5 1 .empty b4 6]=w at g;clear n m;have v:qn ur 1 8 a=some (dI 2):=by
  unfold qn;rw[h,dk,if_pos (Ef b8)];rfl
 generalize b:(((fH 5 0 .empty b1 7,w,fH 5 0 .empty b5 7),c2,[(1,(fH 5 0 .empty b6 7,a),e,f)]):Cl 8)=c;have o:gV bG [(bG,c1,[c])]=[c]:=by
  unfold gV;have:gm 8 bG [(bG,c1,[c])]=some (bG,c1,[c]):=if_pos (show bG=bG from rfl);rw[this];rfl
 have q:lW c kC (dI 1)=some ur:=by
  unfold lW;have d:fY 8 c.1.1 13 kC qt=some (⟨13,kC⟩::Ln):=by rw[<-b];exact Bx b1
  have k:fY 8 c.1.2.1 13 (dI 1) (⟨13,kC⟩::Ln)=some [⟨13,kC⟩,⟨12,aS 1 1 11⟩,⟨1,dG⟩,⟨1,dG⟩]:=by rw[<-b];exact g
  rw[d,dk,k];rfl
 have s:uQ [c] kC [dI 1] 0=some (0,c,ur):=by
  simp only[uQ,oh,q]
 have p:qA 1 c.2.2 ⟨ur,3,[],[],[],false⟩=some ⟨ur,3,[(2,dI 2)],[],[],false⟩:=by
  have d:sV 1 ((1,(fH 5 0 .empty b6 7,a),e,f):Ac 8) ⟨ur,3,[],[],[],false⟩=some ⟨ur,3,[(2,dI 2)],[],[],false⟩:=by
   have r:lB ur 1 8 (fH 5 0 .empty b6 7)=some 2:=by
    unfold lB;rw[zM];rfl
   refine(if_pos (show (1:Int)=1 from rfl)).trans ?_;show ((lB ur 1 8 (fH 5 0 .empty b6 7)).bind λx=>(qn ur 1 8 a).map λt=>(⟨ur,3,[]++ [(x,t)],[],[],false⟩:Dg))=_;rw[r,dk,v];rfl
  rw[<-b];show (sV 1 ((1,(fH 5 0 .empty b6 7,a),e,f):Ac 8) ⟨ur,3,[],[],[],false⟩).bind (λi=>some i)=_;rw[d];rfl
 have u:qn ur 1 8 c.1.2.2=some kC:=by rw[<-b];exact zM b5
 unfold ng;rw[o,s];show some (eV 100 1 3 kC (dI 1) [] c ur)=_;unfold eV;rw[p];simp only[u];rw[if_pos (by decide)];rfl
end
def mf(u:Int):Tc:=aS 3 u 12
def LI:List (ByteArray×Int×Int×Tc):=[(fM,0,1,mf 2),(fM,0,2,mf 1)]
def Jq:Sy:=⟨1,[(1,bG,mf 2,[])],λ_=> [],λ_=>false,[(fM,0,1,mf 2)]⟩
def ue(ms:List Tc):Sy:=⟨2,[(1,bG,mf 2,ms),(2,bG,mf 1,[])],λ_=> [],λ_=>false,LI⟩
def BS:Sy:=⟨2,[(1,bG,mf 2,[]),(2,bG,mf 1,[])],fT (λ_=> []) (1,2) [dI 2],λ_=>false,LI++ [(ey,1,0,dI 1)]++ [(kU,1,2,dI 2)]⟩
def GY:Sy:=⟨2,[(1,bG,mf 2,[]),(2,bG,mf 1,[dI 2])],fT (fT (λ_=> []) (1,2) [dI 2]) (1,2) [],λ_=>false,LI++ [(ey,1,0,dI 1)]++ [(kU,1,2,dI 2)]⟩
theorem Bb:cg bG=true:=by simp[cg,bG,kK,fk,ol,show (⟨#[114,101,108,97,121]⟩:ByteArray).size=5 from rfl]
theorem Ee(u:Int)(c:1<=u/\u<=99)(N:Nat):bA (N+1) (aS 3 u N)=0:=by
 have d:bO (N+1) (aS 3 u N)=true:=by
  rw[<-aJ];intro b a;have a:b∈[(((3,u,.empty),(none,0,0)):Nd)]:=a;obtain rfl:=dj.1 a;simp[bT,kK,c]
 exact bv.2 ⟨d,by show (0:Int)<=12;decide,by show (0:Int)<=200;decide⟩
theorem pX(u:Int)(f:1<=u/\u<=99):bA 13 (dI u)=0:=by
 have d:bO 13 (dI u)=true:=by
  rw[<-aJ];intro b a;have a:b∈[(((4,0,.empty),(none,2,0)):Nd),((2,0,wN),(none,0,0)),((1,u,.empty),(none,0,0))]:=a;simp only[br,dv,dx]at a;rcases a with rfl|rfl|rfl
  ·simp[bT]
  ·simp[bT,Gc]
  ·simp[bT,kK];omega
 have c:eW 13 (dI u)=eW 13 (dI 1):=rfl;have e:sz 13 (dI u)=sz 13 (dI 1):=rfl;exact bv.2 ⟨d,by rw[c];decide,by rw[e];decide⟩
theorem Lx(u:Int)(a:1<=u/\u<=99):eZ 1 (aS 3 u 0) 100 bG=0:=by
 unfold eZ iG;rw[Bb,Ee u a];rfl
section
variable {l:List (Bh 8)}
theorem Gv(b:iu l):mR 7 l bG=true:=by
 obtain⟨d,e,f,g,h,i,j,k,m,a,n,o,p,q,r,s,rfl⟩:=b;unfold mR;have:∀c:List (Cl 8),gm 8 bG [(bG,a,c)]=some (bG,a,c):=λc=>if_pos (show bG=bG from rfl);rw[this];rfl
theorem Je(a:iu l):KL.start 7 l 100 bG 1 (aS 3 2 0)=(Jq,0):=by
 unfold Sy.start;rw[if_neg (show¬KL.may 1=false by decide),if_neg (by rw[Gv a];decide),if_neg (by rw[Lx 2 (by omega)];decide)];rfl
theorem Jf(a:iu l):Jq.start 7 l 100 bG 1 (aS 3 1 0)=(ue [],0):=by
 unfold Sy.start;rw[if_neg (show¬Jq.may 1=false by decide),if_neg (by rw[Gv a];decide),if_neg (by rw[Lx 1 (by omega)];decide)];rfl
theorem Jc{k:Nat}{m:Tm k}(a:bA k m=0)(e:aF k m=true)(d:cn k m=dI 1):(ue []).do 7 l 100 3 1 0 k m=(ue [dI 1],0):=by
 have b:j9 13 (dI 1) 100 (mf 2) []=0:=by
  unfold j9;rw[pX 1 (by omega)];rfl
 unfold Sy.do Sy.inject;rw[if_neg (by decide),if_neg (by decide),if_pos rfl,if_neg (show¬((ue []).get 1).isSome=false by decide),if_neg (by rw[a];decide),if_neg (by rw[e];decide),d];have c:(ue []).get 1=some (bG,mf 2,[]):=rfl;unfold Sy.deliver;rw[c];simp only[b];rfl
theorem Md(m:iu l)(g:mz 7 l=0)(k:Nat)(x:Tm k):(ue [dI 1]).do 7 l 100 1 1 0 k x=(BS,0):=by
 have j:(ue [dI 1]).get 1=some (bG,mf 2,[dI 1]):=rfl;have c:=Bw m;have h:qR 7 100 l bG 1 3 kC [dI 1]=0:=by
  unfold qR;rw[g,c];rfl
 have p:kP 12 1 2 (dI 2) 0=0:=by
  unfold kP;rw[pX 2 (by omega)];rfl
 unfold Sy.do;rw[if_pos rfl];unfold Sy.run;rw[j];have q:(ue [dI 1]).last+1=3:=rfl;simp only[q];have o:mf 2=kC:=rfl;rw[o,h,if_pos rfl,c];obtain⟨a,b⟩:∃a:Sy,a=⟨2,[(1,bG,mf 2,[]),(2,bG,mf 1,[])],λ_=> [],λ_=>false,LI++ [(ey,1,0,dI 1)]⟩:=⟨_,rfl⟩;have d:((ue [dI 1]).put 1 (bG,KM.state,KM.mail)).tell ey 1 0 KM.message=a:=by rw[b];rfl
 have n:Sy.made 7 l 100 a KM.spawns=true:=by rw[b];rfl
 have i:a.follow 1 KM=BS:=by
  have e:a.follow 1 KM=a.send 1 2 (dI 2):=rfl;have f:(a.ways (1,2)).length=0:=by rw[b];rfl
  rw[e];unfold Sy.send;rw[f,if_pos p,b];rfl
 simp only[d,i,n];rfl
theorem Jb(k:Nat)(x:Tm k):BS.do 7 l 100 2 1 2 k x=(GY,0):=by
 have d:j9 13 (dI 2) 100 (mf 1) []=0:=by
  unfold j9;rw[pX 2 (by omega)];rfl
 have e:BS.ways (1,2)=[dI 2]:=rfl;obtain⟨b,a⟩:∃b:Sy,b={BS with ways:=fT BS.ways (1,2) []}:=⟨_,rfl⟩;have c:b.get 2=some (bG,mf 1,[]):=by rw[a];rfl
 unfold Sy.do Sy.arrive;rw[if_neg (by decide),if_pos rfl,e];simp only[<-a,c,jU,cI];unfold Sy.deliver;rw[c];simp only[d];rw[a];rfl
end
theorem Lw:GY.get 2=some (bG,mf 1,[dI 2])/\GY.evs.length=4:=⟨rfl,rfl⟩
theorem LA(a:Nat)(W:World):(binOp .eql 26 (.pointer (some ⟨a,0,none⟩)) (.pointer none)).run Tryz.prog W=.ok (.bool false) W:=by kernel_rfl
theorem xp(w:World)(aa:Option Addr->Nat->Nat->World->Prop)(ab ad ae af aj ak:Nat->World->Prop)(y:Nat->Nat->Nat->Int->Int->ByteArray->Option Addr->Nat->Nat->World->Prop)(G:Hid (Calls Tryz.prog 11 #[] w λe w'=>∃a l c,e=.returned (.slice a l c)/\Hid (aa a l c w')))(J:Hid (∀a l c W,aa a l c W->Calls Tryz.prog 10 #[.slice a l c,.int .i64 100] W λe w'=>∃b,e=.returned (.tuple #[.pointer (some ⟨b,0,none⟩),.int .i64 0])/\Hid (ab b w')))(K:Hid (∀b W,ab b W->Calls Tryz.prog 12 #[.pointer (some ⟨b,0,none⟩),.string ⟨#[114,101,108,97,121]⟩,.agg #[.int .i64 3,.int .i64 2,.string ⟨#[]⟩,.slice none 0 0]] W λe w'=>e=.returned (.tuple #[.int .i64 1,.int .i64 0])/\Hid (ad b w')))(L:Hid (∀b W,ad b W->Calls Tryz.prog 12 #[.pointer (some ⟨b,0,none⟩),.string ⟨#[114,101,108,97,121]⟩,.agg #[.int .i64 3,.int .i64 1,.string ⟨#[]⟩,.slice none 0 0]] W λe w'=>e=.returned (.tuple #[.int .i64 2,.int .i64 0])/\Hid (ae b w')))(M:Hid (∀b g W d,ae b W->Below W.heap.size W d->d.heap[g]?=some (.cells #[.int .i64 2,.int .i64 0,.string ⟨#[110]⟩,.slice none 0 0,.int .i64 1,.int .i64 1,.string ⟨#[]⟩,.slice none 0 0] 30)->W.heap.size<=g->Calls Tryz.prog 6 #[.pointer (some ⟨b,0,none⟩),.agg #[.int .i64 3,.int .i64 1,.int .i64 0,.int .i64 4,.int .i64 0,.string ⟨#[]⟩,.slice (some ⟨g,0,none⟩) 2 2]] d λe w'=>e=.returned (.int .i64 0)/\Hid (af b w')))(N:Hid (∀b W,af b W->Calls Tryz.prog 6 #[.pointer (some ⟨b,0,none⟩),.agg #[.int .i64 1,.int .i64 1,.int .i64 0,.int .i64 0,.int .i64 0,.string ⟨#[]⟩,.slice none 0 0]] W λe w'=>e=.returned (.int .i64 0)/\Hid (aj b w')))(O:Hid (∀b W,aj b W->Calls Tryz.prog 6 #[.pointer (some ⟨b,0,none⟩),.agg #[.int .i64 2,.int .i64 1,.int .i64 2,.int .i64 0,.int .i64 0,.string ⟨#[]⟩,.slice none 0 0]] W λe w'=>e=.returned (.int .i64 0)/\Hid (ak b w')))(P:Hid (∀b W,ak b W->Calls Tryz.prog 9 #[.pointer (some ⟨b,0,none⟩),.int .i64 2] W λe w'=>∃nm y0 y1 y2 ya yl yc g o h i j k n m aq,e=.returned (.tuple #[.string nm,.agg #[.int .i64 y0,.int .i64 y1,.string y2,.slice ya yl yc],.slice (some ⟨g,o,none⟩) 1 aq,.int .i64 0])/\Hid (y b g o h i j k n m w')))(Q:Hid (∀b g o h i j k n m W d,y b g o h i j k n m W->Below W.heap.size W d->(d.cell? ⟨g,o,none⟩=some (.int .i64 h)/\d.cell? ⟨g,o+1,none⟩=some (.int .i64 i)/\d.cell? ⟨g,o+2,none⟩=some (.string j)/\d.cell? ⟨g,o+3,none⟩=some (.slice k n m))))(H:Hid (∀b g o h i j k n m W d s,y b g o h i j k n m W->Below W.heap.size W d->d.heap[s]?=some (.cells #[.int .i64 2,.int .i64 0,.string ⟨#[110]⟩,.slice none 0 0,.int .i64 1,.int .i64 2,.string ⟨#[]⟩,.slice none 0 0] 30)->Calls Tryz.prog 16 #[.agg #[.int .i64 h,.int .i64 i,.string j,.slice k n m],.agg #[.int .i64 4,.int .i64 0,.string ⟨#[]⟩,.slice (some ⟨s,0,none⟩) 2 2]] d λe w'=>e=.returned (.bool true)/\Below d.heap.size d w'))(I:Hid (∀b g o h i j k n m W d,y b g o h i j k n m W->Below W.heap.size W d->Calls Tryz.prog 7 #[.pointer (some ⟨b,0,none⟩)] d λe w'=>∃a c,e=.returned (.slice a 4 c)/\Hid (Below d.heap.size d w'/\Below w.heap.size w w'))):Calls Tryz.prog 4 #[] w λe w'=>e=.returned (.bool true)/\Hid (Below w.heap.size w w'):=by
 go_enter Tryz.func4,Tryz.ntmps4;go_wp2_with fail;refine G.out.mono ?_;rintro e aJ ⟨a,l,c,rfl,R⟩;clear G;go_wp2_with fail;refine(J.out _ _ _ _ R.out).mono ?_;rintro e aK ⟨b,rfl,S⟩;clear J R;have aB:=LA b;go_wp2_with fail;refine(K.out _ _ S.out).mono ?_;rintro e aL ⟨rfl,T⟩;clear K S;go_wp2_with fail;refine(L.out _ _ T.out).mono ?_;rintro e E ⟨rfl,U⟩;clear L T
 go_wp2_with (first
  | (go_at_call 14;refine(qS _ _).mono ?_;rintro e F ⟨rfl,rfl⟩)
  | (go_at_call 15;refine(t8 _ _).mono ?_;rintro e F ⟨rfl,rfl⟩)
  | (go_at_call 13;refine(oX _ _ _ _).mono ?_;rintro e F ⟨rfl,rfl⟩))
 refine(M.out b (E.heap.size+1+1) E _ U.out ((((ah _ _).alloc (ag _) _).alloc (by simp) _).alloc (by simp;omega) _ |>.alloc (by simp;omega) _) ?_ (by omega)).mono ?_
 ·refine(heap_alloc_old _ _ (by simp)).trans ?_;have az:=ax ((E.alloc (.cells #[.int .i64 2,.int .i64 0,.string ⟨#[110]⟩,.slice none 0 0] 30)).alloc (.cells #[.int .i64 1,.int .i64 1,.string ⟨#[]⟩,.slice none 0 0] 30)) (.cells #[.int .i64 2,.int .i64 0,.string ⟨#[110]⟩,.slice none 0 0,.int .i64 1,.int .i64 1,.string ⟨#[]⟩,.slice none 0 0] 30);simpa using az
 rintro e F ⟨rfl,V⟩;clear M U;go_wp2_with fail;refine(N.out _ _ V.out).mono ?_;rintro e aM ⟨rfl,X⟩;clear N V;go_wp2_with fail;refine(O.out _ _ X.out).mono ?_;rintro e aN ⟨rfl,Y⟩;clear O X;go_wp2_with fail;refine(P.out _ _ Y.out).mono ?_;rintro e ar ⟨nm,y0,y1,y2,ya,yl,yc,g,o,h,i,j,k,n,m,aq,rfl,x⟩;clear P Y aB;go_upto_region 9 with fail;generalize am:World.alloc _ _=f;have r:Hid (Below ar.heap.size ar f):=by
  rw[<-am];exact(ah _ _).alloc (ag _) _
 clear am;have q:Hid (∀W,Below f.heap.size f W->W.cell? ⟨g,o,none⟩=some (.int .i64 h)/\W.cell? ⟨g,o+1,none⟩=some (.int .i64 i)/\W.cell? ⟨g,o+2,none⟩=some (.string j)/\W.cell? ⟨g,o+3,none⟩=some (.slice k n m)):=λW u=>Q.out _ _ _ _ _ _ _ _ _ _ _ x.out (r.out.trans (u.mono r.out.size));have ay:Hid (∀(s:Nat)(p:World),Below f.heap.size f p->p.heap[s]?=some (.cells #[.int .i64 2,.int .i64 0,.string ⟨#[110]⟩,.slice none 0 0,.int .i64 1,.int .i64 2,.string ⟨#[]⟩,.slice none 0 0] 30)->Calls Tryz.prog 16 #[.agg #[.int .i64 h,.int .i64 i,.string j,.slice k n m],.agg #[.int .i64 4,.int .i64 0,.string ⟨#[]⟩,.slice (some ⟨s,0,none⟩) 2 2]] p λe w'=>e=.returned (.bool true)/\Below p.heap.size p w'):=λs p u aA=>H.out _ _ _ _ _ _ _ _ _ _ _ _ x.out (r.out.trans (u.mono r.out.size)) aA;have aw:Hid (∀p,Below f.heap.size f p->Calls Tryz.prog 7 #[.pointer (some ⟨b,0,none⟩)] p λe w'=>∃a c,e=.returned (.slice a 4 c)/\Hid (Below p.heap.size p w'/\Below w.heap.size w w')):=λp u=>I.out _ _ _ _ _ _ _ _ _ _ _ x.out (r.out.trans (u.mono r.out.size));clear Q H I x r;have D:Hid (Below f.heap.size f f.drew):=(ah _ _).drew;obtain⟨aF,aG,aH,aI⟩:=q.out f (ah _ _)
 go_region_held3 (λW=>W.cell? ⟨g,o,none⟩=some (.int .i64 h)/\W.cell? ⟨g,o+1,none⟩=some (.int .i64 i)/\W.cell? ⟨g,o+2,none⟩=some (.string j)/\W.cell? ⟨g,o+3,none⟩=some (.slice k n m))
  (first|exact q.out _ D.out|exact q.out _ B.out|exact q.out _ C.out|exact q.out _ (A.out _)|exact q.out _ t.out.1|exact q.out _ v.out|exact q.out _ av.out) ((first
   | (go_at_call 14;refine(qS _ _).mono ?_;rintro e aC ⟨rfl,an⟩;have B:Hid (Below f.heap.size f aC):=(by rw[an];exact D.out.alloc D.out.size _);clear an)
   | (go_at_call 15;refine(t8 _ _).mono ?_;rintro e z ⟨rfl,ao⟩;have C:Hid (Below f.heap.size f z):=(by rw[ao];exact B.out.alloc B.out.size _);have A:Hid (∀o,Below f.heap.size f (z.alloc o)):=(λo=>C.out.alloc C.out.size o);clear ao)
   | (go_at_call 13;refine(oX _ _ _ _).mono ?_;rintro e au ⟨rfl,ap⟩;have t:Hid (Below f.heap.size f au/\au.heap[z.heap.size]?=some (.cells #[.int .i64 2,.int .i64 0,.string ⟨#[110]⟩,.slice none 0 0,.int .i64 1,.int .i64 2,.string ⟨#[]⟩,.slice none 0 0] 30)):=(by rw[ap];exact⟨(A.out _).alloc (A.out _).size _,(heap_alloc_old _ _ (by simp)).trans (ax z _)⟩);clear ap)
   | (go_at_call 16;refine(ay.out _ _ t.out.1 t.out.2).mono ?_;rintro e aO ⟨rfl,al⟩;have v:=ai (t.out.1.trans (al.mono t.out.1.size));clear al)
   | (go_at_call 7;refine(aw.out _ v.out).mono ?_;rintro e aP ⟨aD,aE,rfl,Z⟩;have av:=ai (v.out.trans (Z.out.1.mono v.out.size)))))
 go_wp2_with fail
 go_ret
 exact⟨rfl,Z.out.2⟩
def KZ(g:Nat)(u:Int):Tm 2:=((4,0,.empty),(some ⟨g,0,none⟩,2),[aQ wN 0,aS 1 u 0])
theorem G4(g:Nat)(u:Int):aw 2 (KZ g u) 13 (dI u)=true:=by
 refine bX rfl ?_;show av (λa b=>aw 1 a 12 b) [aQ wN 0,aS 1 u 0] [aQ wN 11,aS 1 u 11]=true;simp only[av,az,and_true];exact⟨bX rfl rfl,bX rfl rfl⟩
theorem G3{g:Nat}{u:Int}(c:dc u){w:World}(a:w.heap[g]?=some (.cells #[.int .i64 2,.int .i64 0,.string ⟨#[110]⟩,.slice none 0 0,.int .i64 1,.int .i64 u,.string ⟨#[]⟩,.slice none 0 0] 30)):In w.heap.size w 2 (KZ g u):=by
 refine nM [aQ wN 0,aS 1 u 0] a rfl (aE.1 a).1 (show 2<=8 by decide) λd b=>?_;simp only[br,dv,dx]at b;rcases b with rfl|rfl
 ·exact⟨⟨by simp[aQ,dc],by simp[aQ,dc],by show wN.size<=maxLen;decide,by simp[aQ],by simp[aQ]⟩,ae rfl⟩
 ·exact GN u c 0 _ _
theorem G2(g:Nat){u:Int}(c:1<=u/\u<=99):bA 2 (KZ g u)=0/\cn 2 (KZ g u)=dI u:=by
 have b:=G4 g u;have a:bA 13 (dI u)=0:=pX u c;refine⟨(bI b).trans a,(gw b).trans ?_⟩;exact gw (x:=dI u) (y:=dI u) (gf _ _ (aJ.2 (bv.1 a).1)) |>.trans rfl
def KV:Tm 1:=((0,0,⟨#[]⟩),(none,0),[])
theorem Ht(B:Nat)(w:World):In B w 1 KV:=⟨⟨by simp[KV,dc],by simp[KV,dc],aD _,ag _,aD _⟩,ae rfl⟩
theorem fe.below{p:lT}{s:Sy}{d f:fW}{a c B:Nat}{w w':World}(b:aV p s d w)(k:fe a c d f w w')(h:B<=p.lo):Below B w w':=by
 refine⟨k.1.os,k.1.tape,k.1.output,k.1.size,λe i=>k.1.block e ?_ λg=>?_⟩
 ·have:=b.lo.1;omega
 ·have:=(b.low e g).1;omega
def qq(w:World)(s:Sy)(i a:Nat)(W:World):Prop:=∃(lo:Nat)(prog:List (Bh 8))(pa:Option Addr)(pc:Nat)(d:fW),aV ⟨lo,a,100,7,prog,pa,pc⟩ s d W/\(iu prog/\mz 7 prog=0)/\(d.k<=i*402/\d.es.length<=i*201/\d.wn<=i*201/\d.bn<=i*201)/\Below w.heap.size w W/\w.heap.size<=lo
theorem qq.start{w W:World}{s j:Sy}{i a:Nat}(m:qq w s i a W)(z:i<=10)(u:Int)(t:dc u)(q:∀prog,iu prog->s.start 7 prog 100 bG 1 (aS 3 u 0)=(j,0)):Calls Tryz.prog 12 #[.pointer (some ⟨a,0,none⟩),.string ⟨#[114,101,108,97,121]⟩,.agg #[.int .i64 3,.int .i64 u,.string ⟨#[]⟩,.slice none 0 0]] W λe w'=>e=.returned (.tuple #[.int .i64 (s.last+1),.int .i64 0])/\Hid (qq w j (i+1) a w'):=by
 obtain⟨lo,prog,pa,pc,x,b,⟨c,n⟩,y,o,d⟩:=m;refine(b.start bG (by decide) (aS 3 u 0) ⟨⟨by simp[aS,dc],t,aD _,ag _,aD _⟩,ae rfl⟩ (by show (1:Nat)<=2097152;decide) (by omega) (by omega)).mono ?_;rintro e w' ⟨G,F,rfl,k⟩;have r:=q prog c;obtain⟨⟨f,v⟩,l,g,h⟩:=k.out;simp only[r]at f g;subst f;obtain rfl:=v rfl;have p:=h.below b (B:=w.heap.size) d;exact⟨rfl,lo,prog,pa,pc,l,g,⟨c,n⟩,by obtain⟨_,_,A,C,D,E⟩:=h;omega,o.trans p,d⟩
theorem qq.do{w c W:World}{s t:Sy}{i h:Nat}(y:qq w s i h c)(g:Below c.heap.size c W)(J:i<=10){kd a b:Int}(A:I2 (a,b)){m:Nat}(x:Tm (m+1))(G:In W.heap.size W (m+1) x)(D:∀d:fW,(∀q,d.ow q≠0->q<c.heap.size)->ch (λq=>¬1<=d.ow q) (m+1) x)(z:(aq (m+1) x).length<=2097152)(E:∀prog,iu prog->mz 7 prog=0->s.do 7 prog 100 kd a b (m+1) x=(t,0)):Calls Tryz.prog 6 #[.pointer (some ⟨h,0,none⟩),.agg #[.int .i64 kd,.int .i64 a,.int .i64 b,.int .i64 x.1.1,.int .i64 x.1.2.1,.string x.1.2.2,.slice x.2.1.1 x.2.2.length x.2.1.2]] W λe w'=>e=.returned (.int .i64 0)/\Hid (qq w t (i+1) h w'):=by
 obtain⟨lo,prog,pa,pc,d,f,⟨j,k⟩,I,l,n⟩:=y;refine((f.later g).do A x ⟨G,D d λq H=>(f.low q H).2⟩ z (by omega) (by omega) (by omega) (by omega)).mono ?_;rintro e w' ⟨O,rfl,u⟩;have F:=E prog j k;obtain⟨o,v,p,r⟩:=u.out;simp only[F]at o p;subst o;have C:=r.below (f.later g) (B:=w.heap.size) n;exact⟨rfl,lo,prog,pa,pc,v,p,⟨j,k⟩,by obtain⟨_,_,K,L,M,N⟩:=r;omega,(l.trans (g.mono l.size)).trans C,n⟩
theorem zI(w:World):Calls Tryz.prog 4 #[] w λe w'=>e=.returned (.bool true)/\Hid (Below w.heap.size w w'):=by
 have G:dc 1:=by unfold dc;decide
 have ab:dc 2:=by unfold dc;decide
 have am:dc 0:=by unfold dc;decide
 refine xp w (λs l c a=>l=1/\c=1/\Below w.heap.size w a/\∃r:List (Bh 3),r.length=1/\fx 3 a.heap.size a s r/\dz (sJ 3) r ji) (qq w KL 0) (qq w Jq 1) (qq w (ue []) 2) (qq w (ue [dI 1]) 3) (qq w BS 4) (qq w GY 5)
  (λg f o Q R S T V U a=>qq w GY 5 g a/\∃y:Tc,(y.1=(Q,R,S)/\y.2.1=(T,U)/\y.2.2.length=V)/\f<a.heap.size/\dr a f o 13 y/\In a.heap.size a 13 y/\bA 13 y=0/\cn 13 y=dI 2) ?_ (λs l c a aA=>?_) (λg a d=>?_) (λg a d=>?_) (λg f a C d i Z aR=>?_) (λg a d=>?_) (λg a d=>?_) (λg a d=>?_) (λg f o Q R S T V U a C d i=>?_) (λg f o Q R S T V U a C ai d i Z=>?_) λg f o Q R S T V U a C d i=>?_
 ·refine(Eo w).mono ?_;rintro e w' ⟨s,r,rfl,k⟩;obtain⟨h,t,ax,J⟩:=k.out;exact⟨s,1,1,rfl,rfl,rfl,h,r,t,ax,J⟩
 ·obtain⟨rfl,rfl,v,r,ar,h,t⟩:=aA;have K:mz 2 r=0:=(ED t).trans Es;have aB:=tM t;have al:=zU 2 r s 1 100 a h (by omega) (by unfold maxLen;omega) λ_=>eU (iL K).2.1;rw[ar]at al;refine al.mono ?_;rintro e w' ⟨P,u,rfl,k⟩;obtain⟨A,j,B,H⟩:=k.out;have aC:u=0:=by
   rw[A];unfold zS;rw[if_neg (by rw[K];decide),if_pos (by decide)]
  subst aC;obtain⟨p,q,rfl,an,⟨aV,aG,aW,aX⟩,ao,aH,ap,aI⟩:=H rfl;obtain⟨lo,b,room,n,prog,pa,pc⟩:=p;simp only at ao aH ap;subst ao ap;have aa:iu prog:=Ei (bP _ _ _ _ _ _ aI aB);exact⟨b,rfl,lo,prog,pa,pc,q,an,⟨aa,an.pg.2.2.2.1⟩,⟨by omega,by rw[aG];exact aD _,by omega,by omega⟩,v.trans (j.mono v.size),by have:=v.size;omega⟩
 ·exact d.start (by omega) 2 ab λprog z=>Je z
 ·exact d.start (by omega) 1 G λprog z=>Jf z
 ·obtain⟨I,W⟩:=G2 f (u:=1) (by omega);refine d.do (kd:=3) i (by omega) ⟨G,am⟩ (KZ f 1) (G3 G Z) (λq Y=>?_) (eU I) λprog z _=>Jc I rfl W;refine af ⟨f,0,rfl,λaY=>?_,λaT y M=>?_⟩
  ·have:=Y f (by omega);omega
  ·have M:y∈[aQ wN 0,aS 1 1 0]:=ay M;simp only[br,dv,dx]at M;rcases M with rfl|rfl
   ·exact ae rfl
   ·exact ae rfl
 ·exact d.do (kd:=1) (ah _ _) (by omega) ⟨G,am⟩ KV (Ht _ _) (λq Y=>ae rfl) (by show (1:Nat)<=2097152;decide) λprog z K=>Md z K 1 KV
 ·exact d.do (kd:=2) (ah _ _) (by omega) ⟨G,ab⟩ KV (Ht _ _) (λq Y=>ae rfl) (by show (1:Nat)<=2097152;decide) λ_ _ _=>Jb 1 KV
 ·obtain⟨lo,prog,pa,pc,q,h,t,J,F,aj⟩:=d;refine(h.proc Lw.1 (by decide) (by omega)).mono ?_;rintro e w' ⟨y0,y1,y2,ya,yl,yc,aU,aE,rfl,k⟩;obtain⟨⟨aP,A,j,B,H⟩,O⟩:=k.out
  match aP,A with
  | [y],_=>
   have B:cn 13 y=dI 2:=by simpa using B
   rcases j with aq|⟨f,o,rfl,au,av⟩
   ·cases aq
   obtain⟨ad,aw⟩:=av 0 y rfl;rw[Nat.zero_mul,iY]at ad;exact⟨_,y0,y1,y2,ya,yl,yc,f,o,y.1.1,y.1.2.1,y.1.2.2,y.2.1.1,y.2.2.length,y.2.1.2,aE,rfl,⟨lo,prog,pa,pc,q,h.later O,t,J,F.trans (O.mono F.size),aj⟩,y,⟨rfl,rfl,rfl⟩,au,ad,aw,H y (by simp),B⟩
 ·obtain⟨_,y,⟨D,E,X⟩,A,j,_⟩:=d;have L:∀{N:Nat}{P:Value},a.cell? ⟨f,N,none⟩=some P->C.cell? ⟨f,N,none⟩=some P:=λ{N P} aF=>(i.cell (p:=⟨f,N,none⟩) A).trans aF;obtain⟨⟨aJ,aK,aL⟩,⟨aM,aN⟩,aO⟩:=y;simp only[gN]at D E;obtain⟨rfl,rfl,rfl⟩:=D;obtain⟨rfl,rfl⟩:=E;subst X;exact⟨L j.1,L j.2.1,L j.2.2.1,L j.2.2.2⟩
 ·obtain⟨_,y,⟨D,E,X⟩,A,j,B,H,O⟩:=d;obtain⟨I,W⟩:=G2 ai (u:=2) (by omega);have aa:=Gz (n:=13) (m:=2) (x:=y) (y:=KZ ai 2) (w:=C) ((B.below i).mono i.size) (G3 ab Z) (ag _) H I (O.trans W.symm);obtain⟨⟨aJ,aK,aL⟩,⟨aM,aN⟩,aO⟩:=y;simp only[gN]at D E;obtain⟨rfl,rfl,rfl⟩:=D;obtain⟨rfl,rfl⟩:=E;subst X;exact aa
 ·obtain⟨⟨lo,prog,pa,pc,q,h,t,J,F,aj⟩,_⟩:=d;have ak:=(h.later i).events (by omega);have az:q.es.length=4:=by
   have:=congrArg List.length h.evt.1;rw[dO]at this;exact this.trans Lw.2
  rw[az]at ak;refine ak.mono ?_;rintro e w' ⟨s,c,rfl,k⟩;have v:=F.trans (i.mono F.size);exact⟨s,c,rfl,k.out.1,v.trans (k.out.1.mono v.size)⟩
theorem Az(G:Option Addr)(I H:Nat)(room:Int)(sa:Option Addr)(sl sc:Nat)(nm s:Nat->ByteArray)(q r:Nat->Int)(xa:Nat->Option Addr)(t xc:Nat->Nat)(w:World)(x:Value->Int->World->Prop)(l:Nat->Nat->World->Prop)(R:Value->World->Prop)(Z:sl<=9223372036854775807)(E:Hid (Calls Tryz.prog 10 #[.slice G I H,.int .i64 room] w λe w'=>∃v u,e=.returned (.tuple #[v,.int .i64 u])/\Hid (x v u w')))(h:Hid (∀v u W,x v u W->(u≠0\/4<sl)->R (.pointer none) W))(n:Hid (∀v W,x v 0 W->sl<=4->∃a,v=.pointer (some ⟨a,0,none⟩)/\l a 0 W))(k:Hid (∀a j W,j<sl->l a j W->∃g o,(sa=some ⟨g,o,none⟩/\W.cell? ⟨g,o+j*5,none⟩=some (.string (nm j))/\W.cell? ⟨g,o+j*5+1,none⟩=some (.int .i64 (q j))/\W.cell? ⟨g,o+j*5+2,none⟩=some (.int .i64 (r j))/\W.cell? ⟨g,o+j*5+3,none⟩=some (.string (s j))/\W.cell? ⟨g,o+j*5+4,none⟩=some (.slice (xa j) (t j) (xc j)))/\Hid (∀F,Below W.heap.size W F->Calls Tryz.prog 12 #[.pointer (some ⟨a,0,none⟩),.string (nm j),.agg #[.int .i64 (q j),.int .i64 (r j),.string (s j),.slice (xa j) (t j) (xc j)]] F λe w'=>∃v u,e=.returned (.tuple #[.int .i64 v,.int .i64 u])/\Hid (l a (j+1) w'))))(f:Hid (∀a W,l a sl W->R (.pointer (some ⟨a,0,none⟩)) W)):Calls Tryz.prog 5 #[.slice G I H,.int .i64 room,.slice sa sl sc] w λe w'=>∃v,e=.returned v/\Hid (R v w'):=by
 go_enter Tryz.func5,Tryz.ntmps5;go_wp2_with fail;refine E.out.mono ?_;rintro e ak ⟨v,u,rfl,c⟩;clear E;by_cases z:u=0;rotate_left
 ·have i:=ai (h.out _ _ _ c.out (ae z));have aa:(u==0)=false:=by simpa using z
  clear h n k f c;go_wp2_with fail
  go_ret
  exact⟨_,rfl,i.out⟩
 subst z;by_cases Q:sl<=4;rotate_left
 ·have i:=ai (h.out _ _ _ c.out (af (by omega)));have S:(4:Int)<(sl:Int):=by omega
  clear h n k f c;go_wp2_with fail
  go_ret
  exact⟨_,rfl,i.out⟩
 obtain⟨a,rfl,y⟩:=n.out _ _ c.out Q;have C:=ai y;have S:¬(4:Int)<(sl:Int):=by omega
 clear h n c y;go_wp2_with fail;go_loopw [10,26] (λ_ B wr=>∃(j:Nat),j<=sl/\B=.int .i64 j/\Hid (l a j wr)) (λ_ B _=>sl-(intOf B).toNat)
 case atStart=>exact⟨0,aD _,rfl,C.out⟩
 case round=>
 clear C;obtain⟨j,y,rfl,p⟩:=hrel;by_cases T:j<sl
 ·obtain⟨g,o,⟨rfl,L,M,N,O,P⟩,D⟩:=k.out a j _ T p.out;have ad:(0:Int)<=(j:Int):=by omega
  have aj:(j:Int)<(sl:Int):=by omega
  clear k f p;go_upto_region 7 with fail;generalize A:World.alloc _ _=b;have d:b.heap[wr.heap.size]?=some (.cells #[.string (nm j),.int .i64 (q j),.int .i64 (r j),.string (s j),.slice (xa j) (t j) (xc j)] 55):=by
   rw[<-A];exact ax _ _
  have K:=ai (D.out b (by rw[<-A];exact(ah _ _).alloc (ag _) _));generalize wr.heap.size=m at*;have U:b.cell? ⟨m,0,none⟩=some (.string (nm j)):=ab d 0;have d1:b.cell? ⟨m,1,none⟩=some (.int .i64 (q j)):=ab d 1;have V:b.cell? ⟨m,2,none⟩=some (.int .i64 (r j)):=ab d 2;have X:b.cell? ⟨m,3,none⟩=some (.string (s j)):=ab d 3;have Y:b.cell? ⟨m,4,none⟩=some (.slice (xa j) (t j) (xc j)):=ab d 4;clear A d D L M N O P;go_wp2_with fail;refine K.out.mono ?_;rintro e al ⟨v,u,rfl,J⟩;go_wp2_with fail;go_roundw
  case rel=>exact⟨j+1,by omega,by go_num,J.out⟩
  case measure=>simp[intOf];omega
 ·obtain rfl:j=sl:=by omega
  have i:=ai (f.out _ _ p.out);clear k f p;go_wp2_with fail
  go_ret
  exact⟨_,rfl,i.out⟩
theorem LB(a:Nat)(W:World):(binOp .eql 26 (.pointer (some ⟨a,0,none⟩)) (.pointer none)).run Tryz.prog W=.ok (.bool false) W:=by kernel_rfl
theorem Jn(W:World):(binOp .eql 26 (.pointer none) (.pointer none)).run Tryz.prog W=.ok (.bool true) W:=by kernel_rfl
def As(d:Nat)(nm:ByteArray)(u v last:Int)(c:List Int)(b:Int->List Int->World->Prop)(r:Nat)(W:World):Prop:=
 (nm=⟨#[115,112,97,119,110]⟩/\v=last+1/\IntKind.i64.wrap (last+1)=last+1/\∃a,(Instr.mapUpdate 35 (.map (some d)) (.int .i64 (last+1)) (.bool true)).run Tryz.prog W=.ok () a/\a.cell? ⟨r,2,none⟩=some (.int .i64 v)/\Hid (b (last+1) (c++ [last+1]) a))\/
 (nm=⟨#[101,110,100]⟩/\(1<=v/\v<=4)/\(Instr.lookup 35 (.map (some d)) (.int .i64 u) false).run Tryz.prog W=.ok (.bool true) W/\∃a,(∀ty,(Builtin.delete_ #[35,3] ty #[.map (some d),.int .i64 u]).run Tryz.prog W=.ok (.tuple #[]) a)/\Hid (b last (c.erase u) a))\/
 ((nm=⟨#[116,97,107,101]⟩\/nm=⟨#[115,101,110,100]⟩)/\(Instr.lookup 35 (.map (some d)) (.int .i64 u) false).run Tryz.prog W=.ok (.bool true) W/\Hid (b last c W))\/(nm=⟨#[108,111,115,116]⟩/\Hid (b last c W))
theorem yn(af:Option Addr)(aP aO:Nat)(room:Int)(sa:Option Addr)(sl sc:Nat)(aS:Option Addr)(q a6:Nat)(S Q R T U:Nat->Int)(V:Nat->ByteArray)(X:Nat->Option Addr)(Z Y:Nat->Nat)(w:World)(H:Nat->Nat->World->Prop)(z:Nat->Option Addr->Nat->Nat->Nat->Nat->Int->List Int->World->Prop)(N:Nat->Option Addr->Nat->Nat->Nat->Nat->World->Prop)(bj:q<=1048576)(l:Hid (Calls Tryz.prog 4 #[] w λe w'=>e=.returned (.bool true)/\Hid (Below w.heap.size w w')))(HB:Hid (∀W,Below w.heap.size w W->Calls Tryz.prog 5 #[.slice af aP aO,.int .i64 room,.slice sa sl sc] W λe w'=>(e=.returned (.pointer none)/\Hid (Below w.heap.size w w'))\/∃b,e=.returned (.pointer (some ⟨b,0,none⟩))/\Hid (H b 0 w')))(B:Hid (∀b j W,H b j W->Below w.heap.size w W))(C:Hid (∀b a n c f j W,N b a n c f j W->Below w.heap.size w W))(J:Hid (∀b j W,j<q->q<=100->H b j W->∃g o,(aS=some ⟨g,o,none⟩/\W.cell? ⟨g,o+j*7,none⟩=some (.int .i64 (S j))/\W.cell? ⟨g,o+j*7+1,none⟩=some (.int .i64 (Q j))/\W.cell? ⟨g,o+j*7+2,none⟩=some (.int .i64 (R j))/\W.cell? ⟨g,o+j*7+3,none⟩=some (.int .i64 (T j))/\W.cell? ⟨g,o+j*7+4,none⟩=some (.int .i64 (U j))/\W.cell? ⟨g,o+j*7+5,none⟩=some (.string (V j))/\W.cell? ⟨g,o+j*7+6,none⟩=some (.slice (X j) (Z j) (Y j)))/\Hid (∀m,Below W.heap.size W m->Calls Tryz.prog 6 #[.pointer (some ⟨b,0,none⟩),.agg #[.int .i64 (S j),.int .i64 (Q j),.int .i64 (R j),.int .i64 (T j),.int .i64 (U j),.string (V j),.slice (X j) (Z j) (Y j)]] m λe w'=>∃v,e=.returned (.int .i64 v)/\Hid (H b (j+1) w'))))(M:Hid (∀b W,q<=100->H b q W->Calls Tryz.prog 7 #[.pointer (some ⟨b,0,none⟩)] (W.alloc (.map #[] 0)) λe w'=>∃a L c,e=.returned (.slice a L c)/\L<=1000000/\Hid (z b a L c W.heap.size 0 0 [] w')))(G:Hid (∀b a L c f i last d W,i<L->z b a L c f i last d W->∃g nm u v ar au av xa aw xc,(a=some ⟨g,0,none⟩/\W.cell? ⟨g,i*7,none⟩=some (.string nm)/\W.cell? ⟨g,i*7+1,none⟩=some (.int .i64 u)/\W.cell? ⟨g,i*7+2,none⟩=some (.int .i64 v)/\W.cell? ⟨g,i*7+3,none⟩=some (.int .i64 ar)/\W.cell? ⟨g,i*7+4,none⟩=some (.int .i64 au)/\W.cell? ⟨g,i*7+5,none⟩=some (.string av)/\W.cell? ⟨g,i*7+6,none⟩=some (.slice xa aw xc))/\Hid (∀m,Below W.heap.size W m->m.cell? ⟨W.heap.size,2,none⟩=some (.int .i64 v)->As f nm u v last d (λa4 a3 aV=>z b a L c f (i+1) a4 a3 aV) W.heap.size m)))(D:Hid (∀b a L c f last d W,z b a L c f L last d W->d.length<=12/\∀m,Below W.heap.size W m->∀ty,(Builtin.len_ #[35] ty #[.map (some f)]).run Tryz.prog m=.ok (.int .i64 d.length) m))(A:Hid (∀b a L c f last d W m,z b a L c f L last d W->Below W.heap.size W m->Calls Tryz.prog 8 #[.pointer (some ⟨b,0,none⟩)] m λe w'=>∃aH aI,e=.returned (.slice aH d.length aI)/\Hid (z b a L c f L last d w'/\N b aH d.length aI f 0 w')))(E:Hid (∀b a n c f j W,j<n->N b a n c f j W->∃g o k,(a=some ⟨g,o,none⟩/\W.cell? ⟨g,o+j,none⟩=some (.int .i64 k))/\Hid (∀m,Below W.heap.size W m->Calls Tryz.prog 9 #[.pointer (some ⟨b,0,none⟩),.int .i64 k] m λe w'=>∃nm y0 y1 y2 ya yl yc ma aR aQ,e=.returned (.tuple #[.string nm,.agg #[.int .i64 y0,.int .i64 y1,.string y2,.slice ya yl yc],.slice ma aR aQ,.int .i64 0])/\Hid (∀s,Below w'.heap.size w' s->(Instr.lookup 35 (.map (some f)) (.int .i64 k) false).run Tryz.prog s=.ok (.bool true) s/\Hid (N b a n c f (j+1) s))))):Calls Tryz.prog 3 #[.slice af aP aO,.int .i64 room,.slice sa sl sc,.slice aS q a6] w λe w'=>e=.returned (.bool true)/\Below w.heap.size w w':=by
 go_enter Tryz.func3,Tryz.ntmps3;go_wp2_with fail;refine l.out.mono ?_;rintro e bp ⟨rfl,aj⟩;clear l;go_wp2_with fail;refine(HB.out _ aj.out).mono ?_;clear HB;rintro e bq (⟨rfl,al⟩|⟨b,rfl,P⟩)
 ·have a2:=Jn;clear J M G D A E aj B C;go_wp2_with fail
  go_ret
  exact⟨rfl,al.out⟩
 clear aj;have a2:=LB b;by_cases aL:q<=100;rotate_left
 ·have aY:(100:Int)<(q:Int):=by omega
  have al:=ai (B.out _ _ _ P.out);clear J M G D A E P B C;go_wp2_with fail
  go_ret
  exact⟨rfl,al.out⟩
 have aY:¬(100:Int)<(q:Int):=by omega
 have a0:= @jY Tryz.prog;go_wp2_with fail;go_loopw [11,37] (λ_ i wr=>∃(j:Nat),j<=q/\i=.int .i64 j/\Hid (H b j wr)) (λ_ i _=>q-(intOf i).toNat)
 case atStart=>exact⟨0,aD _,rfl,P.out⟩
 case round=>
 clear P;obtain⟨j,ae,rfl,l⟩:=hrel;by_cases F:j<q
 ·obtain⟨g,o,⟨rfl,aa,ad,O,am,an,ao,ap⟩,y⟩:=J.out b j _ F aL l.out;have aM:(0:Int)<=(j:Int):=by omega
  have aN:(j:Int)<(q:Int):=by omega
  clear J l M G D A E B C;go_upto_region 9 with fail;generalize t:World.alloc _ _=h;have p:h.heap[wr.heap.size]?=some (.cells #[.int .i64 (S j),.int .i64 (Q j),.int .i64 (R j),.int .i64 (T j),.int .i64 (U j),.string (V j),.slice (X j) (Z j) (Y j)] 32):=by
   rw[<-t];exact ax _ _
  have ak:=ai (y.out h (by rw[<-t];exact(ah _ _).alloc (ag _) _));generalize wr.heap.size=r at*;have aX:h.cell? ⟨r,0,none⟩=some (.int .i64 (S j)):=ab p 0;have d1:h.cell? ⟨r,1,none⟩=some (.int .i64 (Q j)):=ab p 1;have aJ:h.cell? ⟨r,2,none⟩=some (.int .i64 (R j)):=ab p 2;have a9:h.cell? ⟨r,3,none⟩=some (.int .i64 (T j)):=ab p 3;have ba:h.cell? ⟨r,4,none⟩=some (.int .i64 (U j)):=ab p 4;have bb:h.cell? ⟨r,5,none⟩=some (.string (V j)):=ab p 5;have bc:h.cell? ⟨r,6,none⟩=some (.slice (X j) (Z j) (Y j)):=ab p 6;clear t p y aa ad O am an ao ap;go_wp2_with fail;refine ak.out.mono ?_;rintro e br ⟨v,rfl,x⟩;go_wp2_with fail;go_roundw
  case rel=>exact⟨j+1,by omega,by go_num,x.out⟩
  case measure=>simp[intOf];omega
 obtain rfl:j=q:=by omega
 have aG:=ai (M.out _ _ aL l.out);clear J M l ae F;go_wp2_with fail;refine aG.out.mono ?_;rintro e bs ⟨a,L,c,rfl,bd,az⟩;clear aG a0;generalize wr.heap.size=f at*;go_wp2_with fail;go_loopw [13,15,49] (λaf _ i wr=>∃(j:Nat)(last:Int)(d:List Int),j<=L/\af=.int .i64 last/\i=.int .i64 j/\Hid (z b a L c f j last d wr)) (λ_ _ i _=>L-(intOf i).toNat)
 case atStart=>exact⟨0,0,[],aD _,rfl,rfl,az.out⟩
 case round=>
 clear az;obtain⟨j,last,d,ae,rfl,rfl,l⟩:=hrel;by_cases F:j<L
 ·obtain⟨g,nm,u,v,ar,au,av,xa,aw,xc,⟨rfl,aa,ad,O,am,an,ao,ap⟩,y⟩:=G.out _ _ _ _ _ _ _ _ _ F l.out;have aM:(0:Int)<=(j:Int):=by omega
  have aN:(j:Int)<(L:Int):=by omega
  clear G l D A E B C;go_upto_region 16 with fail;generalize t:World.alloc _ _=h;have p:h.heap[wr.heap.size]?=some (.cells #[.string nm,.int .i64 u,.int .i64 v,.int .i64 ar,.int .i64 au,.string av,.slice xa aw xc] 39):=by
   rw[<-t];exact ax _ _
  have aq:Below wr.heap.size wr h:=by rw[<-t];exact(ah _ _).alloc (ag _) _
  have I:=ai (y.out h aq (ab p 2));have K:=ai (y.out h.drew aq.drew (ab p 2));generalize wr.heap.size=r at*;have aX:h.cell? ⟨r,0,none⟩=some (.string nm):=ab p 0;have d1:h.cell? ⟨r,1,none⟩=some (.int .i64 u):=ab p 1;have aJ:h.cell? ⟨r,2,none⟩=some (.int .i64 v):=ab p 2;clear t p y aa ad O am an ao ap aq;rcases I.out with⟨rfl,rfl,bi,_⟩|⟨rfl,⟨bl,bm⟩,aK,s,bf,x⟩|⟨a1,aK,x⟩|⟨rfl,x⟩
  ·obtain⟨s,bh,be,x⟩:∃s,(Instr.mapUpdate 35 (.map (some f)) (.int .i64 (last+1)) (.bool true)).run Tryz.prog h.drew=.ok () s/\s.cell? ⟨r,2,none⟩=some (.int .i64 (last+1))/\Hid (z b (some ⟨g,0,none⟩) L c f (j+1) (last+1) (d++ [last+1]) s):=by
     rcases K.out with⟨_,_,_,a5⟩|⟨e,_⟩|⟨e|e,_⟩|⟨e,_⟩
     ·exact a5
     all_goals exact absurd (congrArg ByteArray.data e) (by decide)
   clear I K;have a8:h.drew.cell? ⟨r,2,none⟩=some (.int .i64 (last+1)):=aJ;go_upto_region 21 with fail;go_region;go_wp2_with fail;go_roundw
   case rel=>exact⟨j+1,last+1,d++ [last+1],by omega,rfl,by go_num,x.out⟩
   case measure=>simp[intOf];omega
  ·have bn:¬v<1:=by omega
   have bo:¬4<v:=by omega
   clear I K;go_wp2_with fail;go_roundw
   case rel=>exact⟨j+1,last,d.erase u,by omega,rfl,by go_num,x.out⟩
   case measure=>simp[intOf];omega
  ·clear I K;rcases a1 with rfl|rfl
   all_goals
    go_wp2_with fail;go_roundw
    case rel=>exact⟨j+1,last,d,by omega,rfl,by go_num,x.out⟩
    case measure=>simp[intOf];omega
  ·clear I K;go_wp2_with fail;go_roundw
   case rel=>exact⟨j+1,last,d,by omega,rfl,by go_num,x.out⟩
   case measure=>simp[intOf];omega
 obtain rfl:j=L:=by omega
 have bg:=(D.out _ _ _ _ _ _ _ _ l.out).1;have aZ:=(D.out _ _ _ _ _ _ _ _ l.out).2 _ (ah _ _);have bk:¬(12:Int)<(d.length:Int):=by omega
 have aE:=ai (A.out _ _ _ _ _ _ _ _ _ l.out (ah _ _));clear G ae F;go_wp2_with fail;refine aE.out.mono ?_;rintro e bt ⟨a7,ad,rfl,aA⟩;have aF:=ai (A.out _ _ _ _ _ _ _ _ _ aA.out.1 (ah _ _));clear aE l aA aZ;go_wp2_with fail;refine aF.out.mono ?_;rintro e bu ⟨aW,O,rfl,aB⟩;have aC:=ai aB.out.2;clear A aF aB D;generalize d.length=n at*;go_wp2_with fail;go_loopw [17,18,19,20,21,112] (λ_ _ _ _ _ i wr=>∃(j:Nat),j<=n/\i=.int .i64 j/\Hid (N b aW n O f j wr)) (λ_ _ _ _ _ i _=>n-(intOf i).toNat)
 case atStart=>exact⟨0,aD _,rfl,aC.out⟩
 case round=>
 clear aC;obtain⟨j,ae,rfl,l⟩:=hrel;by_cases F:j<n
 ·obtain⟨g,o,k,⟨rfl,aa⟩,y⟩:=E.out _ _ _ _ _ _ _ F l.out;have aM:(0:Int)<=(j:Int):=by omega
  have aN:(j:Int)<(n:Int):=by omega
  have ak:=ai (y.out _ (ah _ _));clear E l y B C;go_wp2_with fail;refine ak.out.mono ?_;rintro e bv ⟨nm,y0,y1,y2,ya,yl,yc,ma,aR,aQ,rfl,ay⟩;go_upto_region 38 with fail;generalize t:World.alloc _ _=h;obtain⟨aK,aT⟩:=ay.out h (by rw[<-t];exact(ah _ _).alloc (ag _) _);clear t ay;go_wp2_with fail;go_roundw
  case rel=>exact⟨j+1,by omega,by go_num,aT.out⟩
  case measure=>simp[intOf];omega
 obtain rfl:j=n:=by omega
 have aU:=ai (C.out _ _ _ _ _ _ _ l.out);clear E l B C;go_wp2_with fail
 go_ret
 exact⟨rfl,aU.out⟩
def wt:(n:Nat)->Tm n->Nat
 | 0,_=>1
 | n+1,x=>1+x.1.2.2.size+(x.2.2.map λy=>wt n y).sum
theorem pO:(n:Nat)->(x:Tm n)->(aq n x).length<=wt n x
 | 0,_=>by simp[aq,wt]
 | n+1,x=>by
  have key:∀l:List (Tm n),(l.flatMap λy=>aq n y).length<=(l.map λy=>wt n y).sum:=by
   intro l
   induction l with
   | nil=>simp
   | cons y l ih=>
    have:=pO n y;simp only[bj,aX,aH,bt];omega
  have:=key x.2.2;simp only[aq,wt,aW];omega
end Go.Proofs.YtnidfceinoiboaaGreat
