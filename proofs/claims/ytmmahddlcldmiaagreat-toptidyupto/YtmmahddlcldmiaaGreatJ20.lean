/- Proved here: plain facts and contracts. No condition but what each names. -/
import Derived.Test.YtmmahddlcldmiaaGreatJ19
namespace Go.Proofs.YtmmahddlcldmiaaGreat
open Go.RowKit
theorem Fm(N:Nat):bz (N+1) (bO 1 0 N)=0/\aL (N+1) (bO 1 0 N)=true/\sz (N+1) (bO 1 0 N)=0:=by
 have c:bZ (N+1) (bO 1 0 N)=true:=by
  rw[<-aM];intro a b;have:a=((1,0,.empty),(none,0,0)):=by simpa [ay,bO]using b
  subst this;simp[cE,qK]
 exact⟨bB.2 ⟨c,by simp[fD,bO],by simp[sz,bO]⟩,by simp[aL,bO],by simp[sz,bO]⟩
theorem BC{ws:List Wd}{nm:List ByteArray}{N:Nat}:dI ws nm (N+1) (bO 1 0 N) (1,0):=⟨λa=>by simp[bO]at a,λa=>by simp[bO]at a,λ_ _=>rfl⟩
theorem jX.numb{N:Nat}{ws:List Wd}{nm:List ByteArray}{room:Int}{r:Wd}{h:List Wd}{s:Tm (N+1)}{g:List (Tm (N+1))}(i:jX (N+1) ws nm room (r::h) (s::g)):jX (N+1) ws nm room ((1,0)::h) (bO 1 0 N::g):=by
 obtain⟨e,f,j,k,l,m,n,o⟩:=i;obtain⟨p,q,u⟩:=Fm N;refine⟨⟨by simpa using e.1,λc t d b a=>?_⟩,?_,λd a=>?_,?_,l,m,n,o⟩
 ·cases c with
  | zero=>
   simp only[cQ,jm]at b a;subst b a;exact BC
  | succ c=>exact e.2 (c+1) t d (by simpa using b) (by simpa using a)
 ·simp only[bF]at f ⊢;rw[mE (by decide),jJ];exact(ft.1 f).2.1
 ·rcases cm.1 a with rfl|a
  ·exact⟨p,q⟩
  ·exact j d (bM _ a)
 ·simp only[aN,bI]at k ⊢;have:=(eX (N+1) s).1;omega
theorem jX.turned{N:Nat}{ws:List Wd}{nm:List ByteArray}{room:Int}{C v:Wd}{vs:List Wd}{s x:Tm (N+1)}{ms:List (Tm (N+1))}(n:jX (N+1) ws nm room (C::vs++ [v]) (s::ms++ [x]))(f:vs.length=ms.length):jX (N+1) ws nm room (v::vs) (x::ms):=by
 obtain⟨g,h,u,w,y,z,A,B⟩:=n;refine⟨⟨by simp[f],λd D e c a=>?_⟩,?_,λe a=>u e ?_,?_,y,z,A,B⟩
 ·cases d with
  | zero=>
   simp only[cQ,jm]at c a;subst c a;exact g.2 (vs.length+1) v x (by simp) (by simp[f])
  | succ d=>
   simp only[dg]at c a;have o:=(aS.1 c).1;have p:=(aS.1 a).1;exact g.2 (d+1) D e (by rw[eG,dg,dr o];exact c) (by rw[eG,dg,dr p];exact a)
 ·simp only[eG,bF,kJ,List.flatMap_nil,eF]at h ⊢;obtain⟨_,t,_⟩:=ft.1 h;obtain⟨j,k,l⟩:=ft.1 t;exact ft.2 ⟨k,j,λi q b r m=>l b r i q m.symm⟩
 ·rcases cm.1 a with rfl|a
  ·simp
  ·simp[a]
 ·simp only[eG,aN,iy,bI,List.sum_append,b8,gT]at w ⊢;have:=(eX (N+1) s).1;omega
theorem rP(w:World)(c:Nat)(a b:Int):bT (λq=>q=c) w (uf w c a b):=(bq w c 5 (ab a)).trans (bq _ c 6 (ab b)) λ_ _ e=>e
theorem KN(w:World)(c:Nat)(a b:Int):(uf w c a b).heap.size=w.heap.size:=by simp[uf,World.setCell]
theorem ik{S:Nat->Prop}{w w':World}(a:bT S w w'):bt S w w':=⟨a.os,a.tape,a.output,a.size,a.block⟩
theorem jw{S:Nat->Prop}{w w':World}(a:bt S w w'):bT S w w':=⟨a.os,a.tape,a.output,a.size,a.block⟩
section
variable {base pb:Nat} {name:ByteArray} {room:Int} {N:Nat} {s:Tm (N+1)} {ms:List (Tm (N+1))} {xs:List (Wd×Tm (N+1))} {nk:Nat} {M:Nat->Prop} {w:World} {ws:List Wd} {nm:List ByteArray} {sv:Wd} {vs:List Wd} {ma:Option Addr} {mc:Nat} {Mh:Nat->Prop}
theorem jK.keptBox{v:Wd}(h:jK Mh ma vs mc w)(i:Mh pb):jK Mh ma vs mc (uf w pb v.1 v.2):=by
 rcases h with a|⟨d,j,e,f,b,c,g⟩
 ·exact ah a
 ·exact ai ⟨d,j,e,f,b,((rP w pb v.1 v.2).block d (aF.1 c).1 λa=>b (by rw[a];exact i)).trans c,g⟩
theorem dH.word{mv:Value}{v:Wd}(a:dH base (PL pb name sv mv) room ws nm M w):dH base (PL pb name v mv) room ws nm M (uf w pb v.1 v.2):=a.turn (rP w pb v.1 v.2) λtv lv mp b=>by
 unfold uf World.setCell;simp[bJ,b]
theorem cH.numb(a:cH base pb name room (N+1) s ms [] nk M w ws nm sv vs ma mc Mh):cH base pb name room (N+1) (bO 1 0 N) ms [] nk M (uf w pb 1 0) ws nm (1,0) vs ma mc Mh/\bT M w (uf w pb 1 0):=by
 obtain⟨d,f⟩:=a.box0;have c:=a.has;simp only[b8,eF]at c;refine⟨⟨a.heap.word (v:=(1,0)),a.mail.keptBox (v:=(1,0)) d,?_,a.len,a.names,a.inM,a.mailM⟩,(rP w pb 1 0).mono λb e=>?_⟩
 ·simp only[b8,eF];exact c.numb
 ·rw[e];exact a.inM pb d
theorem cH.turned{v:Wd}{x:Tm (N+1)}(a:cH base pb name room (N+1) s ms [(v,x)] nk M w ws nm sv vs ma mc Mh):cH base pb name room (N+1) x ms [] nk M (uf w pb v.1 v.2) ws nm v vs ma mc Mh/\bT M w (uf w pb v.1 v.2):=by
 obtain⟨d,f⟩:=a.box0;have c:=a.has;simp only[aN,b8]at c;refine⟨⟨a.heap.word,a.mail.keptBox d,?_,a.len,a.names,a.inM,a.mailM⟩,(rP w pb v.1 v.2).mono λb e=>?_⟩
 ·simp only[b8,eF];exact c.turned a.len
 ·rw[e];exact a.inM pb d
theorem cH.cells56(e:cH base pb name room (N+1) s ms xs nk M w ws nm sv vs ma mc Mh):(∃a,w.cell? ⟨pb,5,none⟩=some (ab a))/\(∃a,w.cell? ⟨pb,6,none⟩=some (ab a))/\∀j,w.frozen? ⟨pb,j,none⟩=false:=by
 obtain⟨i,g,h,f,_⟩:=e.heap.box;obtain⟨_,b,c,_,d,_⟩:=PL.cells f;exact⟨⟨_,b⟩,⟨_,c⟩,d⟩
def OQ(base pb:Nat)(name:ByteArray)(room:Int)(N:Nat)(s:Tm (N+1))(ms:List (Tm (N+1)))(x:Tm (N+1))(nk:Nat)(M:Nat->Prop)(w:World)(t:Bool)(w':World):Prop:=
 t=decide ((ms.map (sz (N+1))).sum+sz (N+1) x<=room)/\bT M w w'/\∃a i f g h d e c,cH base pb name room (N+1) a ms [] (nk+402) (λb=>M b\/w.heap.size<=b) w' i f g h d e c/\(t=true->a=x)/\(t=false->ax (N+1) a (N+1) s=true)
theorem xO{x:Tm (N+1)}{ms:List (Tm (N+1))}(a:bz (N+1) x=0)(b:aL (N+1) x=true):sE (N+1) x room (bO 1 0 N::ms)=if (ms.map (sz (N+1))).sum+sz (N+1) x<=room then 0 else 6:=by
 unfold sE;rw[if_neg (by simp[a]),if_neg (by simp[b])];simp only[aN,bI,(Fm N).2.2,Int.zero_add]
theorem cH.become(k:cH base pb name room (N+1) s ms [] nk M w ws nm sv vs ma mc Mh)(x:Tm (N+1))(aE:In w.heap.size w (N+1) x)(L:ch (λb=>¬M b) (N+1) x)(E:bz (N+1) x=0)(al:aL (N+1) x=true)(m:∀b,M b->b<w.heap.size)(a7:nk<=48000)(B:ms.length<=999)(a6:base<=w.heap.size):ak 118 #[aC pb,.agg #[ab x.1.1,ab x.1.2.1,af x.1.2.2,ae x.2.1.1 x.2.2.length x.2.1.2]] w λe w'=>∃t,e=.returned (.bool t)/\Hid (OQ base pb name room N s ms x nk M w t w'):=by
 obtain⟨ar,au⟩:=k.box0;have a5:M pb:=k.inM pb ar;have u:=k.front;have P:=u.2.2.1 s (by simp);have aB:(ms.map (sz (N+1))).sum+sz (N+1) s<=room:=by
  have aj:=u.2.2.2.1;have a4:=u.2.2.2.2.1;simp only[aN,bI]at aj;omega
 refine AB x.1.1 x.1.2.1 x.1.2.2 x.2.1.1 x.2.2.length x.2.1.2 pb w (λT U V sa sl sc f=>∃y0:Tm (N+1),(T=y0.1.1/\U=y0.1.2.1/\V=y0.1.2.2/\sa=y0.2.1.1/\sl=y0.2.2.length/\sc=y0.2.1.2)/\In f.heap.size f (N+1) y0/\ch (λa=>w.heap.size<=a) (N+1) y0/\ax (N+1) y0 (N+1) s=true) (λ_ _ _ _=>True) (OQ base pb name room N s ms x nk M w) ?_ ?_ ?_
 ·intro f d;refine((k.later d).state (by omega)).mono ?_;rintro e w' ⟨a1,rfl,o⟩;exact⟨_,_,_,_,_,_,rfl,o.1,a1,⟨rfl,rfl,rfl,rfl,rfl,rfl⟩,o.2.1,o.2.2.1.mono λa O=>by have:=d.size;omega,o.2.2.2⟩
 ·intro f d;obtain⟨ag,b,c⟩:=(k.later d).cells56;exact⟨ag,b,c,au⟩
 ·rintro T U V sa sl sc a3 j aT aU ⟨y0,⟨rfl,rfl,rfl,rfl,rfl,rfl⟩,Q,R,q⟩ D r a8 a9 p;have bb:=r.size;obtain⟨ao,I⟩:=(k.later r).numb;have bd:=KN j pb 1 0;have H:bT M w (uf j pb 1 0):=(aZ r M).trans I λ_ _ e=>e;have aG:In (uf j pb 1 0).heap.size (uf j pb 1 0) (N+1) x:=aE.kee (ik H) L;have av:=ao.put x aG L (fi E) (λb h=>by have:=m b h;omega) (by omega) B (by omega);refine av.mono ?_;rintro e w' ⟨W,rfl,Y⟩;obtain⟨aY,aR,bf,aW,aM,aP,aa,i,n⟩:=Y;have F:=xO (room:=room) (ms:=ms) E al;have K:bT M w w':=H.trans n λ_ _ e=>e;have bc:=n.size;refine⟨W,_,rfl,⟨?_,?_,i.cells56.1,i.cells56.2.1,i.cells56.2.2⟩,trivial,?_,?_⟩
  ·exact(n.block aT (aF.1 p.1).1 λa=>by have:=m _ a;omega).trans p.1
  ·exact(n.block aU (aF.1 p.2.1).1 λa=>by have:=m _ a;omega).trans p.2.1
  ·intro g f d;rw[if_pos g]at i;obtain⟨z,v⟩:=(i.later d).turned;rw[F]at g;have am:(ms.map (sz (N+1))).sum+sz (N+1) x<=room:=by
    by_cases a:(ms.map (sz (N+1))).sum+sz (N+1) x<=room
    ·exact a
    ·rw[if_neg a]at g;cases g
   refine⟨by simp[am],(K.trans (aZ d M) λ_ _ e=>e).trans v λb h a=>?_,x,aY,aR,W,aW,aM,aP,aa,z.mono (λb a=>?_) (by omega),λ_=>rfl,λa=>by cases a⟩
   ·rcases a with a|a
    ·exact a
    ·omega
   ·rcases a with a|a
    ·exact ah a
    ·exact ai (by omega)
  ·intro g f aV d ba aw;rw[if_neg g]at i;have an:¬(ms.map (sz (N+1))).sum+sz (N+1) x<=room:=λa=>g (by rw[F,if_pos a]);have aq:=(i.inside.later d);have aA:=d.size;have aK:=In.offB R Q;have az:=D.size;have A:bz (N+1) y0=0/\aL (N+1) y0=true:=⟨(bQ q).trans P.1,(cF _ _ _ _ q).trans P.2⟩;have aH:In j.heap.size j (N+1) y0:=(Q.below D).mono az;have S:ch (λb=>¬M b) (N+1) y0:=R.mono λa O l=>by have:=m a l;omega
   have aI:In w'.heap.size w' (N+1) y0:=(aH.kee (ik I) S).kee (ik n) S;have aJ:In f.heap.size f (N+1) y0:=(aI.below d).mono aA;have G:=xO (room:=room) (ms:=ms) A.1 A.2;have aD:=lO _ _ _ _ q;rw[if_pos (by rw[aD];exact aB)]at G;refine(aq.put y0 aJ (aK.mono λa O l=>?_) (fi A.1) (λb h=>by have:=h.2;omega) (by omega) B (by omega)).mono ?_
   ·rcases l.1 with l|l
    ·have:=m a l;omega
    ·omega
   ·rintro e bh ⟨X,rfl,Z⟩;obtain⟨a0,aS,bg,aX,aO,aQ,ad,y,J⟩:=Z;rw[if_pos G]at y;refine⟨X,_,rfl,λbe ap=>(J.block aV aw λa=>by have:=a.2;omega).trans ap,y.cells56,λa2 C=>?_⟩;have ay:=y.kept (jw C) λb a _ e=>by
     rcases a with a|a
     ·have:=a.2;omega
     ·omega
    obtain⟨z,v⟩:=ay.turned;refine⟨by simp[an],?_,y0,a0,aS,X,aX,aO,aQ,ad,z.mono (λb a=>?_) (by omega),λa=>(by cases a),λ_=>q⟩
    ·refine((((K.trans (aZ d M) λ_ _ e=>e).trans J λb h a=>?_).trans (jw C) λb h a=>?_)).trans v λb h a=>?_
     ·rcases a.1 with a|a
      ·exact a
      ·omega
     ·omega
     ·rcases a with a|a
      ·rcases a.1 with a|a
       ·exact a
       ·omega
      ·omega
    ·rcases a with a|a
     ·rcases a.1 with a|a
      ·exact ah a
      ·exact ai (by omega)
     ·exact ai (by omega)
end
theorem fL{n:Nat}{x:Tm (n+1)}(e:bz (n+1) x=0){y:Tm n}(a:y∈x.2.2):bz n y=0:=by
 obtain⟨f1,f2,f3⟩:=bB.1 e;have c:aD ⟨n+1,x⟩:=aM.2 f1;have g:=nZ c a;have d:=eM (bD n x) (c (bD n x) (by simp[ay,bD]));have b:x.1.1=4:=by
  by_cases b:x.1.1=4
  ·exact b
  ·have:x.2.2=[]:=bE (d.2.2.2.2 b);rw[this]at a;cases a
 have f:=ub (λy=>1+sz n y) (λy=>by have:=(eX n y).1;omega) x.2.2 y a;simp only[sz,if_pos b]at f3
 exact bB.2 ⟨aM.1 (aV n x y c a),by omega,by
  have h:1+sz n y<=(x.2.2.map λy=>1+sz n y).sum:=f.1
  omega⟩
theorem uB{n:Nat}{x:Tm (n+1)}(a:bz (n+1) x=0)(i:Nat){y:Tm n}(b:x.2.2[i]?=some y):bz n y=0:=fL a (aJ b)
theorem qG{n N:Nat}(c:n<=N)(x:Tm (n+1))(a:bz (N+1) (aT (N+1) (n+1) x)=0):bz (n+1) x=0:=by
 have e:aD ⟨n+1,x⟩:=λb d=>(aM.2 (bB.1 a).1) b (by rw[nz N n c x];exact d);rw[<-bQ (fA (N+1) (n+1) (by omega) x e)];exact a
def pZ{n:Nat}(c:Cl (n+1)):Prop:=bz (n+1) c.1.1=0/\bz (n+1) c.1.2.1=0/\bz (n+1) c.1.2.2=0/\c.2.2.length<=8/\∀a∈c.2.2,ND a
theorem Fs{n:Nat}{p:List (Bh (n+1))}(d:lP n p=0):kA (n+1) p=true/\∀b∈p,b.2.2.length<=6/\∀c∈b.2.2,pZ c:=by
 unfold lP at d;cases e:kA (n+1) p with
 | false=>rw[e]at d;cases d
 | true=>
  rw[e,if_pos rfl]at d;refine⟨rfl,λb l=>?_⟩;unfold kA at e;simp only[aG,ci]at e;have h:=e.2 b l;unfold wC at h;simp only[aG,ci,cd]at h;refine⟨by omega,λc m=>?_⟩;have i:=h.2 c m;unfold tE at i;simp only[aG,ci,cd]at i;have o:bz (n+5) (dM n b)=0:=fL d (by simp only[bW,df];exact bM _ (kL l));have f:bz (n+4) (dE n c)=0:=fL o (by simp only[dM,df];exact bM _ (bM _ (kL m)));have s:bz (n+3) (df (n+2) (c.2.2.map (cg n)))=0:=uB f 3 rfl;refine⟨qG (N:=n+2) (by omega) _ (uB f 1 rfl),qG (N:=n+2) (by omega) _ (uB f 2 rfl),qG (N:=n+2) (by omega) _ (uB f 4 rfl),by omega,λj k=>?_⟩;have g:bz (n+2) (cg n j)=0:=fL s (by simp only[df];exact kL k);refine⟨i.2 j k,λr=>?_,λq=>?_⟩
  ·rcases r with a|a
   ·exact fL g (by simp[cg,a,df])
   ·exact fL g (by simp[cg,a,df])
  ·rcases q with a|a
   ·exact fL g (by simp[cg,a,df])
   ·exact fL g (by simp[cg,a,df])
section
variable {base db:Nat} {self:Int} {n D k:Nat} {nx:Int} {d:Dg} {w:World} {l:List (Tm (D+1))} {bg bc:Nat} {sd:List (Int×Tm (D+1+n+1))} {sp:List (Int×ByteArray×Tm (D+1+n+1))} {sv pv lv:Value}
theorem ex.kept(a:ex base db self n D k nx d w l bg bc sd sp sv pv lv){S:Nat->Prop}{w':World}(i:bt S w w')(m:∀b,base<=b->b<w.heap.size->¬S b):ex base db self n D k nx d w' l bg bc sd sp sv pv lv:=by
 have Q:=i.size;obtain⟨L,B,v,p,R⟩:=a.own;have s:∀{g:Nat}{y:Tm g},In w.heap.size w g y->ch (Lt base db bg sv pv lv) g y->In w'.heap.size w' g y:=λG H=>G.kee (i.mono (T:=λb=>S b/\b<w.heap.size) λb E f=>⟨f,E⟩) (H.mono λf h (e:S f/\f<w.heap.size)=>m f h.1 e.2 e.1);have u:∀{q:TypeId}{e g:Nat}{x:Value}{z:List Value},w.ownsRow base q e x g z->w'.ownsRow base q e x g z:=λ{q e g x z} t=>bk t i λf h o=>by
  obtain⟨N,F⟩:=ew t f h;refine m f ?_ (aF.1 F).1 o;rcases t.2 with⟨r,_⟩|⟨C,cap,O,r,P,_⟩
  ·rw[r]at h;cases h
  ·rw[r]at h;have:C=f:=aw h;omega
 refine⟨(i.block db a.lt (m db B a.lt)).trans a.box,⟨L,B,v,by omega,by omega⟩,a.bnd,a.tells,λJ M I=>?_,λK=>?_,u a.sRow,u a.pRow,u a.lRow,a.sIs,a.pIs,λe o=>?_,λe o=>?_,a.apart,a.few⟩
 ·obtain⟨j,b,c⟩:=a.row J M I;exact⟨j.kee i p (m bg v p),s b c,c⟩
 ·have A:=a.free K;unfold World.frozen? at A ⊢;rw[i.block bg p (m bg v p)];exact A
 ·obtain⟨j,b,c⟩:=a.sIn e o;exact⟨j,s b c,c⟩
 ·obtain⟨j,b,c⟩:=a.pIn e o;exact⟨j,s b c,c⟩
theorem ex.low(b:ex base db self n D k nx d w l bg bc sd sp sv pv lv):∀q,lE db bg sv pv lv q->q<w.heap.size:=by
 have c:∀{f:TypeId}{i g q:Nat}{e:Value}{h:List Value},w.ownsRow base f i e g h->e.ownBlock=some q->q<w.heap.size:=λ{f i g q e h} m a=>by
  obtain⟨o,j⟩:=ew m q a;exact(aF.1 j).1
 intro q a;rcases a with rfl|rfl|a|a|a
 ·exact b.lt
 ·exact b.own.2.2.2.1
 ·exact c b.sRow a
 ·exact c b.pRow a
 ·exact c b.lRow a
def OV(u t:Nat)(name:ByteArray)(room:Int)(s:Tc)(ms:List Tc)(q:Nat)(M:Nat->Prop)(base db:Nat)(self:Int)(n D:Nat)(nx:Int)(c:Cl (n+1))(b:List Tc)(S:Nat->Prop)(w:World)(f:Int)(w':World):Prop:=
 f=(fp room self nx (cn 13 s) (cn 13 s) (ms.map (cn 13)) c b).fate/\bt (λa=>M a\/S a) w w'/\(∃j z r e y o p k,cH u t name room 13 j ms [] (q+402) (λa=>M a\/w.heap.size<=a) w' z r e y o p k/\cn 13 j=(fp room self nx (cn 13 s) (cn 13 s) (ms.map (cn 13)) c b).state)/\
  ((f=0\/f=1)->∃d m g l v x e i h,ex base db self n D 8 nx d w' m g l v x e i h/\d.sends=(fp room self nx (cn 13 s) (cn 13 s) (ms.map (cn 13)) c b).sends/\d.spawns=(fp room self nx (cn 13 s) (cn 13 s) (ms.map (cn 13)) c b).spawns/\d.links=(fp room self nx (cn 13 s) (cn 13 s) (ms.map (cn 13)) c b).links/\∀a,lE db g e i h a->¬(M a\/w'.heap.size<=a))
theorem Oz{ms:List Tc}(a:∀y∈ms,bz 13 y=0):((ms.map (cn 13)).map (sz 13)).sum=(ms.map (sz 13)).sum:=by
 rw[gz];congr 1;exact jl λy b=>ES (a y b)
theorem De{Q I:Nat}{name:ByteArray}{room:Int}{s:Tc}{ms:List Tc}{P:Nat}{M:Nat->Prop}{ws:List Wd}{nm:List ByteArray}{aq:Wd}{vs:List Wd}{ma:Option Addr}{al:Nat}{Mh:Nat->Prop}{b:List Tc}(a2:cH Q I name room 13 s ms [] P M w ws nm aq vs ma al Mh)(T:ex base db self n D 0 nx d w l bg bc sd sp sv pv lv)(aB:d=⟨b,nx,[],[],[],false⟩)(c:Cl (n+1))(aX:g8 (n+1) base w c)(bm:pZ c)(a3:1<=self/\self<=99)(L:∀q,M q->q<base)(bJ:Q<=base)(bl:P<=48000)(bh:ms.length<=999):ak 79 #[aC I,.agg (e9 (n+1) c).toArray,aC db] w λe w'=>∃f,e=.returned (ab f)/\OV Q I name room s ms P M base db self n D nx c b (lE db bg sv pv lv) w f w':=by
 obtain⟨bH,bI,aV,bb,bd⟩:=bm;have aH:=T.own.2.2.2.2;have bj:∀{h:World},bt (lE db bg sv pv lv) w h->Below base w h:=λm=>m.below aH λb E q=>by
  have:=T.high b q;omega
 have aI:∀{h:World},bt (lE db bg sv pv lv) w h->cH Q I name room 13 s ms [] P M h ws nm aq vs ma al Mh:=λm=>a2.kept (N:=12) (jw m) λb E _ q=>by
  have:=L b E;have:=T.high b q;omega
 have aE:∀{h:World},bt (lE db bg sv pv lv) w h->bt (λq=>M q\/lE db bg sv pv lv q) w h:=λm=>m.mono λq _ a=>ai a;have bk:∀g∈ms,bz 13 g=0:=λg bs=>(a2.front.2.2.1 g (bM _ bs)).1
 refine A3 (D+1+n) c.1.1.1.1 c.1.1.1.2.1 c.1.1.1.2.2 c.1.1.2.1.1 c.1.1.2.2.length c.1.1.2.1.2 c.1.2.1.1.1 c.1.2.1.1.2.1 c.1.2.1.1.2.2 c.1.2.1.2.1.1 c.1.2.1.2.2.length c.1.2.1.2.1.2 c.2.1.1 c.2.2.length c.2.1.2 c.1.2.2.1.1 c.1.2.2.1.2.1 c.1.2.2.1.2.2 c.1.2.2.2.1.1 c.1.2.2.2.2.length c.1.2.2.2.1.2 I db w
  (λh=>bt (lE db bg sv pv lv) w h/\∃i x v u A B C z y,qj self c.2.2 d=some i/\ex base db self n D 8 nx i h x v u A B C z y)
  (λt g S=>∃h i x v u A B C z y,bt (lE db bg sv pv lv) w h/\qj self c.2.2 d=some i/\ex base db self n D 8 nx i h x v u A B C z y/\aj h S/\In S.heap.size S (D+1+n+1) g/\ch (λq=>h.heap.size<=q) (D+1+n+1) g/\t=(sO i.b self (n+1) c.1.2.2).isSome/\∀r,sO i.b self (n+1) c.1.2.2=some r->bz _ g=0/\aL _ g=true/\cn _ g=r)
  (OV Q I name room s ms P M base db self n D nx c b (lE db bg sv pv lv) w) ?_ ?_ ?_ ?_
 ·intro h Y;refine((T.later Y).all c.2.2 c.2.1.1 c.2.1.2 ?_ bd bb a3).mono ?_
  ·rcases aX.2.2 with e|⟨q,o,e,a,aY⟩
   ·exact ah e
   ·exact ai ⟨q,o,e,a,λaP aU a0=>⟨λa5 bE bi=>(Y.cell (p:=⟨q,o+aP*11+a5,none⟩) (aR a aH)).trans ((aY aP aU a0).1 a5 bE bi),((aY aP aU a0).2).later (Y.mono aH)⟩⟩
  ·rintro e w' ⟨t,rfl,ay⟩;obtain⟨ar,J,aQ⟩:=ay.out;have m:bt (lE db bg sv pv lv) w w':=(aK Y _).trans ar λ_ _ e=>e;refine⟨t,rfl,λq bN a a1=>(ar.block q (aF.1 a1).1 λk=>by have:=T.low q k;omega).trans a1,λG=>⟨m,?_⟩,λaa=>?_⟩
   ·rw[G]at J;obtain⟨d2,aZ⟩:=fu.1 J.symm;obtain⟨bv,ba,a9,bC,bD,R,bx,bw,bu,_⟩:=aQ d2 aZ;exact⟨d2,bv,ba,a9,bC,bD,R,bx,bw,aZ,bu⟩
   ·rw[aa]at J;have Z:qj self c.2.2 d=none:=kN.1 (by rw[<-kO,<-J];rfl);rw[aB]at Z;have j:fp room self nx (cn 13 s) (cn 13 s) (ms.map (cn 13)) c b=⟨cn 13 s,2,[],[],[],cn 13 s,ms.map (cn 13)⟩:=by simp[fp,Z]
    refine⟨by rw[j],aE m,⟨s,ws,nm,aq,vs,ma,al,Mh,(aI m).mono (N:=12) (λq a=>ah a) (by omega),by rw[j]⟩,λk=>?_⟩;omega
 ·rintro h ⟨m,i,x,v,u,A,B,C,z,y,F,K⟩;obtain⟨t1,t2⟩:=K.told (self:=self) c.1.2.2 aV;refine(K.value c.1.2.2 (aX.1.2.2.below (bj m)) aV a3 h (ao _ _)).mono ?_;rintro e w' ⟨g,rfl,a8⟩;obtain⟨y1,y2,aS,W⟩:=a8;exact⟨g,_,rfl,h,i,x,v,u,A,B,C,z,y,m,F,K,y1,y2,aS,t1,λr G=>t2 g r G W⟩
 ·rintro g S az ⟨h,i,x,v,u,A,B,C,z,y,m,F,K,y1,_,_,W,_⟩ E;have Z:sO i.b self (n+1) c.1.2.2=none:=kN.1 (by rw[<-kO,<-W];rfl);rw[aB]at F;have j:fp room self nx (cn 13 s) (cn 13 s) (ms.map (cn 13)) c b=⟨cn 13 s,2,[],[],[],cn 13 s,ms.map (cn 13)⟩:=by simp[fp,F,Z]
  have U:bt (lE db bg sv pv lv) w az:=(m.trans (aK y1 (λ_=>False)) λ_ _ e=>e.elim).trans (aK E (λ_=>False)) λ_ _ e=>e.elim;refine⟨by rw[j],aE U,⟨s,ws,nm,aq,vs,ma,al,Mh,(aI U).mono (N:=12) (λq a=>ah a) (by omega),by rw[j]⟩,λk=>?_⟩;omega
 ·rintro g S az ⟨h,i,x,v,u,A,B,C,z,y,m,F,K,y1,y2,aS,W,bF⟩ E;obtain⟨r,G⟩:=fu.1 W.symm;obtain⟨ax,bG,a7⟩:=bF r G;rw[aB]at F;have bL:=m.size;have bK:=y1.size;have bn:=E.size;have U:bt (lE db bg sv pv lv) w az:=(m.trans (aK y1 (λ_=>False)) λ_ _ e=>e.elim).trans (aK E (λ_=>False)) λ_ _ e=>e.elim;have aO:aD ⟨D+1+n+1,g⟩:=aM.2 (bB.1 ax).1;have aN:fD (D+1+n+1) g<13:=by have:=(bB.1 ax).2.1;omega
  have ae:=jx 13 (D+1+n+1) g aO aN;have bo:=sC 13 (D+1+n+1) g _ _ aO aN ((y2.below E).mono bn);have bq:=t8 13 (D+1+n+1) g _ aO aN aS;have bp:(aT 13 (D+1+n+1) g).2.2.length=g.2.2.length:=by simp[aT]
  have a4:cn 13 (aT 13 (D+1+n+1) g)=r:=(ii ae).trans a7;have br:sz 13 (aT 13 (D+1+n+1) g)=sz 13 r:=by
   rw[lO _ _ _ _ ae,<-a7,ES ax]
  have aW:=(aI U).become (N:=12) (aT 13 (D+1+n+1) g) bo (bq.mono λq a k=>by have:=L q k;omega) ((bQ ae).trans ax) ((cF _ _ _ _ ae).trans bG) (λq k=>by have:=L q k;omega) bl bh (by omega);rw[bp]at aW;refine aW.mono ?_;rintro e w' ⟨t,rfl,ay⟩;obtain⟨ar,J,au,aw,ap,R,av,af,an,X,aQ,a6,bA⟩:=ay;have O:t=decide (((ms.map (cn 13)).map (sz 13)).sum+sz 13 r<=room):=by
   rw[Oz bk,<-br];exact ar
  have aG:bt (λq=>M q\/lE db bg sv pv lv q) w w':=(aE U).trans (ik J) λq _ a=>ah a
  have aA:cH Q I name room 13 au ms [] (P+402) (λq=>M q\/w.heap.size<=q) w' aw ap R av af an X:=aQ.mono (N:=12) (λq a=>by
   rcases a with a|a
   ·exact ah a
   ·exact ai (by omega)) (am _)
  have H:ex base db self n D 8 nx i w' x v u A B C z y:=((K.later y1).later E).kept (ik J) λq a _ k=>by
   have:=L q k;omega
  refine⟨t,rfl,λaa=>?_,λad=>⟨i.stops,ag H.box 6,λaJ=>?_,λaJ=>?_⟩⟩
  ·rw[aa]at O;have V:¬((ms.map (cn 13)).map (sz 13)).sum+sz 13 r<=room:=of_decide_eq_false O.symm;have j:fp room self nx (cn 13 s) (cn 13 s) (ms.map (cn 13)) c b=⟨cn 13 s,3,[],[],[],cn 13 s,ms.map (cn 13)⟩:=by
    unfold fp;simp only[F,G];rw[if_neg V]
   refine⟨by rw[j],aG,⟨au,aw,ap,R,av,af,an,X,aA,by rw[j];exact ii (bA aa)⟩,λk=>?_⟩;omega
  ·rw[ad]at O;have V:((ms.map (cn 13)).map (sz 13)).sum+sz 13 r<=room:=eL O.symm;have j:fp room self nx (cn 13 s) (cn 13 s) (ms.map (cn 13)) c b=⟨cn 13 s,1,i.sends,i.spawns,i.links,r,ms.map (cn 13)⟩:=by
    unfold fp;simp only[F,G];rw[if_pos V,aJ];rfl
   refine⟨by rw[j],aG,⟨au,aw,ap,R,av,af,an,X,aA,by rw[j,a6 ad];exact a4⟩,λ_=>⟨i,x,v,u,A,B,C,z,y,H,by rw[j],by rw[j],by rw[j],λq a k=>?_⟩⟩;have be:=H.high q a;have bf:=H.low q a;rcases k with k|k
   ·have:=L q k;omega
   ·omega
  ·rw[ad]at O;have V:((ms.map (cn 13)).map (sz 13)).sum+sz 13 r<=room:=eL O.symm;have j:fp room self nx (cn 13 s) (cn 13 s) (ms.map (cn 13)) c b=⟨cn 13 s,0,i.sends,i.spawns,i.links,r,ms.map (cn 13)⟩:=by
    unfold fp;simp only[F,G];rw[if_pos V,aJ];rfl
   refine⟨by rw[j],aG,⟨au,aw,ap,R,av,af,an,X,aA,by rw[j,a6 ad];exact a4⟩,λ_=>⟨i,x,v,u,A,B,C,z,y,H,by rw[j],by rw[j],by rw[j],λq a k=>?_⟩⟩;have be:=H.high q a;have bf:=H.low q a;rcases k with k|k
   ·have:=L q k;omega
   ·omega
end
end Go.Proofs.YtmmahddlcldmiaaGreat
