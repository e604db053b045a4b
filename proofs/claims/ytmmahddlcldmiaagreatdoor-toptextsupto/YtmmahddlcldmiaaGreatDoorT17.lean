/- Proved here: plain facts and contracts. No condition but what each names. -/
import Derived.Test.YtmmahddlcldmiaaGreatDoorT16
namespace Go.Proofs.YtmmahddlcldmiaaGreatDoor
open Go.RowKit
theorem Fw(N:Nat):bv (N+1) (bR 1 0 N)=0/\aK (N+1) (bR 1 0 N)=true/\sz (N+1) (bR 1 0 N)=0:=by
 have c:bI (N+1) (bR 1 0 N)=true:=by
  rw[<-aL];intro a b;have:a=((1,0,.empty),(none,0,0)):=by simpa [ax,bR]using b
  subst this;simp[cg,oe]
 exact⟨bC.2 ⟨c,by simp[fA,bR],by simp[sz,bR]⟩,by simp[aK,bR],by simp[sz,bR]⟩
theorem BM{ws:List Wd}{nm:List ByteArray}{N:Nat}:dL ws nm (N+1) (bR 1 0 N) (1,0):=⟨λa=>by simp[bR]at a,λa=>by simp[bR]at a,λ_ _=>rfl⟩
theorem jV.numb{N:Nat}{ws:List Wd}{nm:List ByteArray}{room:Int}{r:Wd}{h:List Wd}{s:Tm (N+1)}{g:List (Tm (N+1))}(i:jV (N+1) ws nm room (r::h) (s::g)):jV (N+1) ws nm room ((1,0)::h) (bR 1 0 N::g):=by
 obtain⟨e,f,j,k,l,m,n,o⟩:=i;obtain⟨p,q,u⟩:=Fw N;refine⟨⟨by simpa using e.1,λc t d b a=>?_⟩,?_,λd a=>?_,?_,l,m,n,o⟩
 ·cases c with
  | zero=>
   simp only[cP,kN]at b a;subst b a;exact BM
  | succ c=>exact e.2 (c+1) t d (by simpa using b) (by simpa using a)
 ·simp only[bz]at f ⊢;rw[mA (by decide),mR];exact(fp.1 f).2.1
 ·rcases ch.1 a with rfl|a
  ·exact⟨p,q⟩
  ·exact j d (bX _ a)
 ·simp only[aM,bA]at k ⊢;have:=(eT (N+1) s).1;omega
theorem jV.turned{N:Nat}{ws:List Wd}{nm:List ByteArray}{room:Int}{C v:Wd}{vs:List Wd}{s x:Tm (N+1)}{ms:List (Tm (N+1))}(n:jV (N+1) ws nm room (C::vs++ [v]) (s::ms++ [x]))(f:vs.length=ms.length):jV (N+1) ws nm room (v::vs) (x::ms):=by
 obtain⟨g,h,u,w,y,z,A,B⟩:=n;refine⟨⟨by simp[f],λd D e c a=>?_⟩,?_,λe a=>u e ?_,?_,y,z,A,B⟩
 ·cases d with
  | zero=>
   simp only[cP,kN]at c a;subst c a;exact g.2 (vs.length+1) v x (by simp) (by simp[f])
  | succ d=>
   simp only[cZ]at c a;have o:=(aO.1 c).1;have p:=(aO.1 a).1;exact g.2 (d+1) D e (by rw[fO,cZ,dm o];exact c) (by rw[fO,cZ,dm p];exact a)
 ·simp only[fO,bz,kG,List.flatMap_nil,dY]at h ⊢;obtain⟨_,t,_⟩:=fp.1 h;obtain⟨j,k,l⟩:=fp.1 t;exact fp.2 ⟨k,j,λi q b r m=>l b r i q m.symm⟩
 ·rcases ch.1 a with rfl|a
  ·simp
  ·simp[a]
 ·simp only[fO,aM,fP,bA,mU,b8,gR]at w ⊢;have:=(eT (N+1) s).1;omega
theorem rM(w:World)(c:Nat)(a b:Int):bV (λq=>q=c) w (uk w c a b):=(bm w c 5 (ab a)).trans (bm _ c 6 (ab b)) λ_ _ e=>e
theorem Le(w:World)(c:Nat)(a b:Int):(uk w c a b).heap.size=w.heap.size:=by simp[uk,World.setCell]
theorem ig{S:Nat->Prop}{w w':World}(a:bV S w w'):br S w w':=⟨a.os,a.tape,a.output,a.size,a.block⟩
theorem jt{S:Nat->Prop}{w w':World}(a:br S w w'):bV S w w':=⟨a.os,a.tape,a.output,a.size,a.block⟩
section
variable {base pb:Nat} {name:ByteArray} {room:Int} {N:Nat} {s:Tm (N+1)} {ms:List (Tm (N+1))} {xs:List (Wd×Tm (N+1))} {nk:Nat} {M:Nat->Prop} {w:World} {ws:List Wd} {nm:List ByteArray} {sv:Wd} {vs:List Wd} {ma:Option Addr} {mc:Nat} {Mh:Nat->Prop}
theorem jH.keptBox{v:Wd}(h:jH Mh ma vs mc w)(i:Mh pb):jH Mh ma vs mc (uk w pb v.1 v.2):=by
 rcases h with a|⟨d,j,e,f,b,c,g⟩
 ·exact ah a
 ·exact ai ⟨d,j,e,f,b,((rM w pb v.1 v.2).block d (aF.1 c).1 λa=>b (by rw[a];exact i)).trans c,g⟩
theorem dK.word{mv:Value}{v:Wd}(a:dK base (PL pb name sv mv) room ws nm M w):dK base (PL pb name v mv) room ws nm M (uk w pb v.1 v.2):=a.turn (rM w pb v.1 v.2) λtv lv mp b=>by
 unfold uk World.setCell;simp[bN,b]
theorem cD.numb(a:cD base pb name room (N+1) s ms [] nk M w ws nm sv vs ma mc Mh):cD base pb name room (N+1) (bR 1 0 N) ms [] nk M (uk w pb 1 0) ws nm (1,0) vs ma mc Mh/\bV M w (uk w pb 1 0):=by
 obtain⟨d,f⟩:=a.box0;have c:=a.has;simp only[b8,dY]at c;refine⟨⟨a.heap.word (v:=(1,0)),a.mail.keptBox (v:=(1,0)) d,?_,a.len,a.names,a.inM,a.mailM⟩,(rM w pb 1 0).mono λb e=>?_⟩
 ·simp only[b8,dY];exact c.numb
 ·rw[e];exact a.inM pb d
theorem cD.turned{v:Wd}{x:Tm (N+1)}(a:cD base pb name room (N+1) s ms [(v,x)] nk M w ws nm sv vs ma mc Mh):cD base pb name room (N+1) x ms [] nk M (uk w pb v.1 v.2) ws nm v vs ma mc Mh/\bV M w (uk w pb v.1 v.2):=by
 obtain⟨d,f⟩:=a.box0;have c:=a.has;simp only[aM,b8]at c;refine⟨⟨a.heap.word,a.mail.keptBox d,?_,a.len,a.names,a.inM,a.mailM⟩,(rM w pb v.1 v.2).mono λb e=>?_⟩
 ·simp only[b8,dY];exact c.turned a.len
 ·rw[e];exact a.inM pb d
theorem cD.cells56(e:cD base pb name room (N+1) s ms xs nk M w ws nm sv vs ma mc Mh):(∃a,w.cell? ⟨pb,5,none⟩=some (ab a))/\(∃a,w.cell? ⟨pb,6,none⟩=some (ab a))/\∀j,w.frozen? ⟨pb,j,none⟩=false:=by
 obtain⟨i,g,h,f,_⟩:=e.heap.box;obtain⟨_,b,c,_,d,_⟩:=PL.cells f;exact⟨⟨_,b⟩,⟨_,c⟩,d⟩
def Pe(base pb:Nat)(name:ByteArray)(room:Int)(N:Nat)(s:Tm (N+1))(ms:List (Tm (N+1)))(x:Tm (N+1))(nk:Nat)(M:Nat->Prop)(w:World)(t:Bool)(w':World):Prop:=
 t=decide ((ms.map (sz (N+1))).sum+sz (N+1) x<=room)/\bV M w w'/\∃a i f g h d e c,cD base pb name room (N+1) a ms [] (nk+402) (λb=>M b\/w.heap.size<=b) w' i f g h d e c/\(t=true->a=x)/\(t=false->ay (N+1) a (N+1) s=true)
theorem xW{x:Tm (N+1)}{ms:List (Tm (N+1))}(a:bv (N+1) x=0)(b:aK (N+1) x=true):sF (N+1) x room (bR 1 0 N::ms)=if (ms.map (sz (N+1))).sum+sz (N+1) x<=room then 0 else 6:=by
 unfold sF;rw[if_neg (by simp[a]),if_neg (by simp[b])];simp only[aM,bA,(Fw N).2.2,Int.zero_add]
theorem cD.become(k:cD base pb name room (N+1) s ms [] nk M w ws nm sv vs ma mc Mh)(x:Tm (N+1))(aE:In w.heap.size w (N+1) x)(L:cd (λb=>¬M b) (N+1) x)(E:bv (N+1) x=0)(ak:aK (N+1) x=true)(m:∀b,M b->b<w.heap.size)(a7:nk<=48000)(B:ms.length<=999)(a6:base<=w.heap.size):am 122 #[aB pb,.agg #[ab x.1.1,ab x.1.2.1,af x.1.2.2,ae x.2.1.1 x.2.2.length x.2.1.2]] w λe w'=>∃t,e=.returned (.bool t)/\Hid (Pe base pb name room N s ms x nk M w t w'):=by
 obtain⟨ar,au⟩:=k.box0;have a5:M pb:=k.inM pb ar;have u:=k.front;have P:=u.2.2.1 s (by simp);have aC:(ms.map (sz (N+1))).sum+sz (N+1) s<=room:=by
  have aj:=u.2.2.2.1;have a4:=u.2.2.2.2.1;simp only[aM,bA]at aj;omega
 refine AK x.1.1 x.1.2.1 x.1.2.2 x.2.1.1 x.2.2.length x.2.1.2 pb w (λT U V sa sl sc f=>∃y0:Tm (N+1),(T=y0.1.1/\U=y0.1.2.1/\V=y0.1.2.2/\sa=y0.2.1.1/\sl=y0.2.2.length/\sc=y0.2.1.2)/\In f.heap.size f (N+1) y0/\cd (λa=>w.heap.size<=a) (N+1) y0/\ay (N+1) y0 (N+1) s=true) (λ_ _ _ _=>True) (Pe base pb name room N s ms x nk M w) ?_ ?_ ?_
 ·intro f d;refine((k.later d).state (by omega)).mono ?_;rintro e w' ⟨a1,rfl,o⟩;exact⟨_,_,_,_,_,_,rfl,o.1,a1,⟨rfl,rfl,rfl,rfl,rfl,rfl⟩,o.2.1,o.2.2.1.mono λa O=>by have:=d.size;omega,o.2.2.2⟩
 ·intro f d;obtain⟨ag,b,c⟩:=(k.later d).cells56;exact⟨ag,b,c,au⟩
 ·rintro T U V sa sl sc a3 j aT aU ⟨y0,⟨rfl,rfl,rfl,rfl,rfl,rfl⟩,Q,R,q⟩ D r a8 a9 p;have bb:=r.size;obtain⟨ao,I⟩:=(k.later r).numb;have bd:=Le j pb 1 0;have H:bV M w (uk j pb 1 0):=(aY r M).trans I λ_ _ e=>e;have aG:In (uk j pb 1 0).heap.size (uk j pb 1 0) (N+1) x:=aE.kee (ig H) L;have av:=ao.put x aG L (eg E) (λb h=>by have:=m b h;omega) (by omega) B (by omega);refine av.mono ?_;rintro e w' ⟨W,rfl,Y⟩;obtain⟨aZ,aR,bf,aW,aN,aP,aa,i,n⟩:=Y;have F:=xW (room:=room) (ms:=ms) E ak;have K:bV M w w':=H.trans n λ_ _ e=>e;have bc:=n.size;refine⟨W,_,rfl,⟨?_,?_,i.cells56.1,i.cells56.2.1,i.cells56.2.2⟩,trivial,?_,?_⟩
  ·exact(n.block aT (aF.1 p.1).1 λa=>by have:=m _ a;omega).trans p.1
  ·exact(n.block aU (aF.1 p.2.1).1 λa=>by have:=m _ a;omega).trans p.2.1
  ·intro g f d;rw[if_pos g]at i;obtain⟨z,v⟩:=(i.later d).turned;rw[F]at g;have al:(ms.map (sz (N+1))).sum+sz (N+1) x<=room:=by
    by_cases a:(ms.map (sz (N+1))).sum+sz (N+1) x<=room
    ·exact a
    ·rw[if_neg a]at g;cases g
   refine⟨by simp[al],(K.trans (aY d M) λ_ _ e=>e).trans v λb h a=>?_,x,aZ,aR,W,aW,aN,aP,aa,z.mono (λb a=>?_) (by omega),λ_=>rfl,λa=>by cases a⟩
   ·rcases a with a|a
    ·exact a
    ·omega
   ·rcases a with a|a
    ·exact ah a
    ·exact ai (by omega)
  ·intro g f aV d ba aw;rw[if_neg g]at i;have an:¬(ms.map (sz (N+1))).sum+sz (N+1) x<=room:=λa=>g (by rw[F,if_pos a]);have aq:=(i.inside.later d);have aA:=d.size;have aL:=In.offB R Q;have az:=D.size;have A:bv (N+1) y0=0/\aK (N+1) y0=true:=⟨(bJ q).trans P.1,(cB _ _ _ _ q).trans P.2⟩;have aH:In j.heap.size j (N+1) y0:=(Q.below D).mono az;have S:cd (λb=>¬M b) (N+1) y0:=R.mono λa O l=>by have:=m a l;omega
   have aI:In w'.heap.size w' (N+1) y0:=(aH.kee (ig I) S).kee (ig n) S;have aJ:In f.heap.size f (N+1) y0:=(aI.below d).mono aA;have G:=xW (room:=room) (ms:=ms) A.1 A.2;have aD:=lI _ _ _ _ q;rw[if_pos (by rw[aD];exact aC)]at G;refine(aq.put y0 aJ (aL.mono λa O l=>?_) (eg A.1) (λb h=>by have:=h.2;omega) (by omega) B (by omega)).mono ?_
   ·rcases l.1 with l|l
    ·have:=m a l;omega
    ·omega
   ·rintro e bh ⟨X,rfl,Z⟩;obtain⟨a0,aS,bg,aX,aO,aQ,ad,y,J⟩:=Z;rw[if_pos G]at y;refine⟨X,_,rfl,λbe ap=>(J.block aV aw λa=>by have:=a.2;omega).trans ap,y.cells56,λa2 C=>?_⟩;have ax:=y.kept (jt C) λb a _ e=>by
     rcases a with a|a
     ·have:=a.2;omega
     ·omega
    obtain⟨z,v⟩:=ax.turned;refine⟨by simp[an],?_,y0,a0,aS,X,aX,aO,aQ,ad,z.mono (λb a=>?_) (by omega),λa=>(by cases a),λ_=>q⟩
    ·refine((((K.trans (aY d M) λ_ _ e=>e).trans J λb h a=>?_).trans (jt C) λb h a=>?_)).trans v λb h a=>?_
     ·rcases a.1 with a|a
      ·exact a
      ·omega
     ·omega
     ·rcases a with a|a
      ·rcases a.1 with a|a
       ·exact a
       ·omega
      ·omega
    ·rcases a with a|a
     ·rcases a.1 with a|a
      ·exact ah a
      ·exact ai (by omega)
     ·exact ai (by omega)
end
theorem fF{n:Nat}{x:Tm (n+1)}(e:bv (n+1) x=0){y:Tm n}(a:y∈x.2.2):bv n y=0:=by
 obtain⟨f1,f2,f3⟩:=bC.1 e;have c:aD ⟨n+1,x⟩:=aL.2 f1;have g:=nX c a;have d:=eI (bw n x) (c (bw n x) (by simp[ax,bw]));have b:x.1.1=4:=by
  by_cases b:x.1.1=4
  ·exact b
  ·have:x.2.2=[]:=bF (d.2.2.2.2 b);rw[this]at a;cases a
 have f:=ue (λy=>1+sz n y) (λy=>by have:=(eT n y).1;omega) x.2.2 y a;simp only[sz,if_pos b]at f3
 exact bC.2 ⟨aL.1 (aU n x y c a),by omega,by
  have h:1+sz n y<=(x.2.2.map λy=>1+sz n y).sum:=f.1
  omega⟩
theorem uG{n:Nat}{x:Tm (n+1)}(a:bv (n+1) x=0)(i:Nat){y:Tm n}(b:x.2.2[i]?=some y):bv n y=0:=fF a (aH b)
theorem qE{n N:Nat}(c:n<=N)(x:Tm (n+1))(a:bv (N+1) (aS (N+1) (n+1) x)=0):bv (n+1) x=0:=by
 have e:aD ⟨n+1,x⟩:=λb d=>(aL.2 (bC.1 a).1) b (by rw[nu N n c x];exact d);rw[<-bJ (fx (N+1) (n+1) (by omega) x e)];exact a
def pW{n:Nat}(c:Cl (n+1)):Prop:=bv (n+1) c.1.1=0/\bv (n+1) c.1.2.1=0/\bv (n+1) c.1.2.2=0/\c.2.2.length<=8/\∀a∈c.2.2,N0 a
theorem FA{n:Nat}{p:List (Bh (n+1))}(d:ki n p=0):ky (n+1) p=true/\∀b∈p,b.2.2.length<=6/\∀c∈b.2.2,pW c:=by
 unfold ki at d;cases e:ky (n+1) p with
 | false=>rw[e]at d;cases d
 | true=>
  rw[e,if_pos rfl]at d;refine⟨rfl,λb l=>?_⟩;unfold ky at e;simp only[aA,bZ]at e;have h:=e.2 b l;unfold wF at h;simp only[aA,bZ,bO]at h;refine⟨by omega,λc m=>?_⟩;have i:=h.2 c m;unfold tF at i;simp only[aA,bZ,bO]at i;have o:bv (n+5) (dQ n b)=0:=fF d (by simp only[bK,cY];exact bX _ (kI l));have f:bv (n+4) (dG n c)=0:=fF o (by simp only[dQ,cY];exact bX _ (bX _ (kI m)));have s:bv (n+3) (cY (n+2) (c.2.2.map (b9 n)))=0:=uG f 3 rfl;refine⟨qE (N:=n+2) (by omega) _ (uG f 1 rfl),qE (N:=n+2) (by omega) _ (uG f 2 rfl),qE (N:=n+2) (by omega) _ (uG f 4 rfl),by omega,λj k=>?_⟩;have g:bv (n+2) (b9 n j)=0:=fF s (by simp only[cY];exact kI k);refine⟨i.2 j k,λr=>?_,λq=>?_⟩
  ·rcases r with a|a
   ·exact fF g (by simp[b9,a,cY])
   ·exact fF g (by simp[b9,a,cY])
  ·rcases q with a|a
   ·exact fF g (by simp[b9,a,cY])
   ·exact fF g (by simp[b9,a,cY])
section
variable {base db:Nat} {self:Int} {n D k:Nat} {nx:Int} {d:Dg} {w:World} {l:List (Tm (D+1))} {bg bc:Nat} {sd:List (Int×Tm (D+1+n+1))} {sp:List (Int×ByteArray×Tm (D+1+n+1))} {sv pv lv:Value}
theorem ek.kept(a:ek base db self n D k nx d w l bg bc sd sp sv pv lv){S:Nat->Prop}{w':World}(i:br S w w')(m:∀b,base<=b->b<w.heap.size->¬S b):ek base db self n D k nx d w' l bg bc sd sp sv pv lv:=by
 have Q:=i.size;obtain⟨L,B,v,p,R⟩:=a.own;have s:∀{g:Nat}{y:Tm g},In w.heap.size w g y->cd (LS base db bg sv pv lv) g y->In w'.heap.size w' g y:=λG H=>G.kee (i.mono (T:=λb=>S b/\b<w.heap.size) λb E f=>⟨f,E⟩) (H.mono λf h (e:S f/\f<w.heap.size)=>m f h.1 e.2 e.1);have u:∀{q:TypeId}{e g:Nat}{x:Value}{z:List Value},w.ownsRow base q e x g z->w'.ownsRow base q e x g z:=λ{q e g x z} t=>bi t i λf h o=>by
  obtain⟨N,F⟩:=ei t f h;refine m f ?_ (aF.1 F).1 o;rcases t.2 with⟨r,_⟩|⟨C,cap,O,r,P,_⟩
  ·rw[r]at h;cases h
  ·rw[r]at h;have:C=f:=aw h;omega
 refine⟨(i.block db a.lt (m db B a.lt)).trans a.box,⟨L,B,v,by omega,by omega⟩,a.bnd,a.tells,λJ M I=>?_,λK=>?_,u a.sRow,u a.pRow,u a.lRow,a.sIs,a.pIs,λe o=>?_,λe o=>?_,a.apart,a.few⟩
 ·obtain⟨j,b,c⟩:=a.row J M I;exact⟨j.kee i p (m bg v p),s b c,c⟩
 ·have A:=a.free K;unfold World.frozen? at A ⊢;rw[i.block bg p (m bg v p)];exact A
 ·obtain⟨j,b,c⟩:=a.sIn e o;exact⟨j,s b c,c⟩
 ·obtain⟨j,b,c⟩:=a.pIn e o;exact⟨j,s b c,c⟩
theorem ek.low(b:ek base db self n D k nx d w l bg bc sd sp sv pv lv):∀q,lu db bg sv pv lv q->q<w.heap.size:=by
 have c:∀{f:TypeId}{i g q:Nat}{e:Value}{h:List Value},w.ownsRow base f i e g h->e.ownBlock=some q->q<w.heap.size:=λ{f i g q e h} m a=>by
  obtain⟨o,j⟩:=ei m q a;exact(aF.1 j).1
 intro q a;rcases a with rfl|rfl|a|a|a
 ·exact b.lt
 ·exact b.own.2.2.2.1
 ·exact c b.sRow a
 ·exact c b.pRow a
 ·exact c b.lRow a
def Pk(u t:Nat)(name:ByteArray)(room:Int)(s:Tc)(ms:List Tc)(q:Nat)(M:Nat->Prop)(base db:Nat)(self:Int)(n D:Nat)(nx:Int)(c:Cl (n+1))(b:List Tc)(S:Nat->Prop)(w:World)(f:Int)(w':World):Prop:=
 f=(fm room self nx (cn 13 s) (cn 13 s) (ms.map (cn 13)) c b).fate/\br (λa=>M a\/S a) w w'/\(∃j z r e y o p k,cD u t name room 13 j ms [] (q+402) (λa=>M a\/w.heap.size<=a) w' z r e y o p k/\cn 13 j=(fm room self nx (cn 13 s) (cn 13 s) (ms.map (cn 13)) c b).state)/\
  ((f=0\/f=1)->∃d m g l v x e i h,ek base db self n D 8 nx d w' m g l v x e i h/\d.sends=(fm room self nx (cn 13 s) (cn 13 s) (ms.map (cn 13)) c b).sends/\d.spawns=(fm room self nx (cn 13 s) (cn 13 s) (ms.map (cn 13)) c b).spawns/\d.links=(fm room self nx (cn 13 s) (cn 13 s) (ms.map (cn 13)) c b).links/\∀a,lu db g e i h a->¬(M a\/w'.heap.size<=a))
theorem OY{ms:List Tc}(a:∀y∈ms,bv 13 y=0):((ms.map (cn 13)).map (sz 13)).sum=(ms.map (sz 13)).sum:=by
 rw[gu];congr 1;exact ji λy b=>EY (a y b)
theorem Di{Q I:Nat}{name:ByteArray}{room:Int}{s:Tc}{ms:List Tc}{P:Nat}{M:Nat->Prop}{ws:List Wd}{nm:List ByteArray}{aq:Wd}{vs:List Wd}{ma:Option Addr}{al:Nat}{Mh:Nat->Prop}{b:List Tc}(a2:cD Q I name room 13 s ms [] P M w ws nm aq vs ma al Mh)(T:ek base db self n D 0 nx d w l bg bc sd sp sv pv lv)(aC:d=⟨b,nx,[],[],[],false⟩)(c:Cl (n+1))(aX:gY (n+1) base w c)(bm:pW c)(a3:1<=self/\self<=99)(L:∀q,M q->q<base)(bK:Q<=base)(bl:P<=48000)(bh:ms.length<=999):am 99 #[aB I,.agg (eZ (n+1) c).toArray,aB db] w λe w'=>∃f,e=.returned (ab f)/\Pk Q I name room s ms P M base db self n D nx c b (lu db bg sv pv lv) w f w':=by
 obtain⟨bH,bI,aV,bb,bd⟩:=bm;have aH:=T.own.2.2.2.2;have bj:∀{h:World},br (lu db bg sv pv lv) w h->Below base w h:=λm=>m.below aH λb E q=>by
  have:=T.high b q;omega
 have aI:∀{h:World},br (lu db bg sv pv lv) w h->cD Q I name room 13 s ms [] P M h ws nm aq vs ma al Mh:=λm=>a2.kept (N:=12) (jt m) λb E _ q=>by
  have:=L b E;have:=T.high b q;omega
 have aE:∀{h:World},br (lu db bg sv pv lv) w h->br (λq=>M q\/lu db bg sv pv lv q) w h:=λm=>m.mono λq _ a=>ai a;have bk:∀g∈ms,bv 13 g=0:=λg bt=>(a2.front.2.2.1 g (bX _ bt)).1
 refine Be (D+1+n) c.1.1.1.1 c.1.1.1.2.1 c.1.1.1.2.2 c.1.1.2.1.1 c.1.1.2.2.length c.1.1.2.1.2 c.1.2.1.1.1 c.1.2.1.1.2.1 c.1.2.1.1.2.2 c.1.2.1.2.1.1 c.1.2.1.2.2.length c.1.2.1.2.1.2 c.2.1.1 c.2.2.length c.2.1.2 c.1.2.2.1.1 c.1.2.2.1.2.1 c.1.2.2.1.2.2 c.1.2.2.2.1.1 c.1.2.2.2.2.length c.1.2.2.2.1.2 I db w
  (λh=>br (lu db bg sv pv lv) w h/\∃i x v u A B C z y,qe self c.2.2 d=some i/\ek base db self n D 8 nx i h x v u A B C z y)
  (λt g S=>∃h i x v u A B C z y,br (lu db bg sv pv lv) w h/\qe self c.2.2 d=some i/\ek base db self n D 8 nx i h x v u A B C z y/\aj h S/\In S.heap.size S (D+1+n+1) g/\cd (λq=>h.heap.size<=q) (D+1+n+1) g/\t=(sO i.b self (n+1) c.1.2.2).isSome/\∀r,sO i.b self (n+1) c.1.2.2=some r->bv _ g=0/\aK _ g=true/\cn _ g=r)
  (Pk Q I name room s ms P M base db self n D nx c b (lu db bg sv pv lv) w) ?_ ?_ ?_ ?_
 ·intro h Y;refine((T.later Y).all c.2.2 c.2.1.1 c.2.1.2 ?_ bd bb a3).mono ?_
  ·rcases aX.2.2 with e|⟨q,o,e,a,aY⟩
   ·exact ah e
   ·exact ai ⟨q,o,e,a,λaP aU a0=>⟨λa5 bE bi=>(Y.cell (p:=⟨q,o+aP*11+a5,none⟩) (aR a aH)).trans ((aY aP aU a0).1 a5 bE bi),((aY aP aU a0).2).later (Y.mono aH)⟩⟩
  ·rintro e w' ⟨t,rfl,ay⟩;obtain⟨ar,J,aQ⟩:=ay.out;have m:br (lu db bg sv pv lv) w w':=(aJ Y _).trans ar λ_ _ e=>e;refine⟨t,rfl,λq bN a a1=>(ar.block q (aF.1 a1).1 λk=>by have:=T.low q k;omega).trans a1,λG=>⟨m,?_⟩,λaa=>?_⟩
   ·rw[G]at J;obtain⟨d2,aZ⟩:=gA.1 J.symm;obtain⟨bw,ba,a9,bB,bD,R,bz,bx,bu,_⟩:=aQ d2 aZ;exact⟨d2,bw,ba,a9,bB,bD,R,bz,bx,aZ,bu⟩
   ·rw[aa]at J;have Z:qe self c.2.2 d=none:=kL.1 (by rw[<-kM,<-J];rfl);rw[aC]at Z;have j:fm room self nx (cn 13 s) (cn 13 s) (ms.map (cn 13)) c b=⟨cn 13 s,2,[],[],[],cn 13 s,ms.map (cn 13)⟩:=by simp[fm,Z]
    refine⟨by rw[j],aE m,⟨s,ws,nm,aq,vs,ma,al,Mh,(aI m).mono (N:=12) (λq a=>ah a) (by omega),by rw[j]⟩,λk=>?_⟩;omega
 ·rintro h ⟨m,i,x,v,u,A,B,C,z,y,F,K⟩;obtain⟨t1,t2⟩:=K.told (self:=self) c.1.2.2 aV;refine(K.value c.1.2.2 (aX.1.2.2.below (bj m)) aV a3 h (ap _ _)).mono ?_;rintro e w' ⟨g,rfl,a8⟩;obtain⟨y1,y2,aT,W⟩:=a8;exact⟨g,_,rfl,h,i,x,v,u,A,B,C,z,y,m,F,K,y1,y2,aT,t1,λr G=>t2 g r G W⟩
 ·rintro g S az ⟨h,i,x,v,u,A,B,C,z,y,m,F,K,y1,_,_,W,_⟩ E;have Z:sO i.b self (n+1) c.1.2.2=none:=kL.1 (by rw[<-kM,<-W];rfl);rw[aC]at F;have j:fm room self nx (cn 13 s) (cn 13 s) (ms.map (cn 13)) c b=⟨cn 13 s,2,[],[],[],cn 13 s,ms.map (cn 13)⟩:=by simp[fm,F,Z]
  have U:br (lu db bg sv pv lv) w az:=(m.trans (aJ y1 (λ_=>False)) λ_ _ e=>e.elim).trans (aJ E (λ_=>False)) λ_ _ e=>e.elim;refine⟨by rw[j],aE U,⟨s,ws,nm,aq,vs,ma,al,Mh,(aI U).mono (N:=12) (λq a=>ah a) (by omega),by rw[j]⟩,λk=>?_⟩;omega
 ·rintro g S az ⟨h,i,x,v,u,A,B,C,z,y,m,F,K,y1,y2,aT,W,bF⟩ E;obtain⟨r,G⟩:=gA.1 W.symm;obtain⟨ax,bG,a7⟩:=bF r G;rw[aC]at F;have bM:=m.size;have bL:=y1.size;have bn:=E.size;have U:br (lu db bg sv pv lv) w az:=(m.trans (aJ y1 (λ_=>False)) λ_ _ e=>e.elim).trans (aJ E (λ_=>False)) λ_ _ e=>e.elim;have aO:aD ⟨D+1+n+1,g⟩:=aL.2 (bC.1 ax).1;have aN:fA (D+1+n+1) g<13:=by have:=(bC.1 ax).2.1;omega
  have ae:=ju 13 (D+1+n+1) g aO aN;have bo:=sD 13 (D+1+n+1) g _ _ aO aN ((y2.below E).mono bn);have bq:=uc 13 (D+1+n+1) g _ aO aN aT;have bp:(aS 13 (D+1+n+1) g).2.2.length=g.2.2.length:=by simp[aS]
  have a4:cn 13 (aS 13 (D+1+n+1) g)=r:=(ic ae).trans a7;have bs:sz 13 (aS 13 (D+1+n+1) g)=sz 13 r:=by
   rw[lI _ _ _ _ ae,<-a7,EY ax]
  have aW:=(aI U).become (N:=12) (aS 13 (D+1+n+1) g) bo (bq.mono λq a k=>by have:=L q k;omega) ((bJ ae).trans ax) ((cB _ _ _ _ ae).trans bG) (λq k=>by have:=L q k;omega) bl bh (by omega);rw[bp]at aW;refine aW.mono ?_;rintro e w' ⟨t,rfl,ay⟩;obtain⟨ar,J,au,aw,ao,R,av,af,an,X,aQ,a6,bA⟩:=ay;have O:t=decide (((ms.map (cn 13)).map (sz 13)).sum+sz 13 r<=room):=by
   rw[OY bk,<-bs];exact ar
  have aG:br (λq=>M q\/lu db bg sv pv lv q) w w':=(aE U).trans (ig J) λq _ a=>ah a
  have aA:cD Q I name room 13 au ms [] (P+402) (λq=>M q\/w.heap.size<=q) w' aw ao R av af an X:=aQ.mono (N:=12) (λq a=>by
   rcases a with a|a
   ·exact ah a
   ·exact ai (by omega)) (ak _)
  have H:ek base db self n D 8 nx i w' x v u A B C z y:=((K.later y1).later E).kept (ig J) λq a _ k=>by
   have:=L q k;omega
  refine⟨t,rfl,λaa=>?_,λad=>⟨i.stops,ag H.box 6,λaM=>?_,λaM=>?_⟩⟩
  ·rw[aa]at O;have V:¬((ms.map (cn 13)).map (sz 13)).sum+sz 13 r<=room:=of_decide_eq_false O.symm;have j:fm room self nx (cn 13 s) (cn 13 s) (ms.map (cn 13)) c b=⟨cn 13 s,3,[],[],[],cn 13 s,ms.map (cn 13)⟩:=by
    unfold fm;simp only[F,G];rw[if_neg V]
   refine⟨by rw[j],aG,⟨au,aw,ao,R,av,af,an,X,aA,by rw[j];exact ic (bA aa)⟩,λk=>?_⟩;omega
  ·rw[ad]at O;have V:((ms.map (cn 13)).map (sz 13)).sum+sz 13 r<=room:=ft O.symm;have j:fm room self nx (cn 13 s) (cn 13 s) (ms.map (cn 13)) c b=⟨cn 13 s,1,i.sends,i.spawns,i.links,r,ms.map (cn 13)⟩:=by
    unfold fm;simp only[F,G];rw[if_pos V,aM];rfl
   refine⟨by rw[j],aG,⟨au,aw,ao,R,av,af,an,X,aA,by rw[j,a6 ad];exact a4⟩,λ_=>⟨i,x,v,u,A,B,C,z,y,H,by rw[j],by rw[j],by rw[j],λq a k=>?_⟩⟩;have be:=H.high q a;have bf:=H.low q a;rcases k with k|k
   ·have:=L q k;omega
   ·omega
  ·rw[ad]at O;have V:((ms.map (cn 13)).map (sz 13)).sum+sz 13 r<=room:=ft O.symm;have j:fm room self nx (cn 13 s) (cn 13 s) (ms.map (cn 13)) c b=⟨cn 13 s,0,i.sends,i.spawns,i.links,r,ms.map (cn 13)⟩:=by
    unfold fm;simp only[F,G];rw[if_pos V,aM];rfl
   refine⟨by rw[j],aG,⟨au,aw,ao,R,av,af,an,X,aA,by rw[j,a6 ad];exact a4⟩,λ_=>⟨i,x,v,u,A,B,C,z,y,H,by rw[j],by rw[j],by rw[j],λq a k=>?_⟩⟩;have be:=H.high q a;have bf:=H.low q a;rcases k with k|k
   ·have:=L q k;omega
   ·omega
end
end Go.Proofs.YtmmahddlcldmiaaGreatDoor
