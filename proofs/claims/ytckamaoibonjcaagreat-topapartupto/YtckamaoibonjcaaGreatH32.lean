/- What is proved here: plain facts and contracts that the claimed theorem stands on. No condition but those that each names. -/
import Derived.Test.YtckamaoibonjcaaGreatH31
namespace Go.Proofs.YtckamaoibonjcaaGreat
open Go.RowKit
set_option maxRecDepth 100000
set_option maxHeartbeats 2000000
theorem Lm{w:World}{base:Nat}{e:TypeId}{sz:Nat}{v:Value}{n:Nat}{xs:List Value}(b:w.ownsRow base e sz v n xs):∃a c,v=.slice a n c:=by
 rcases b.2 with⟨rfl,rfl⟩|⟨f,c,d,rfl,_⟩
 ·exact⟨none,0,rfl⟩
 ·exact⟨_,c,rfl⟩
section
variable {p:kJ} {s:Sy} {d:fS} {w:World}
theorem aX.parted(a:aX p s d w){x:Int}(u:dk x)(h:Bool):ak 74 #[.pointer (some ⟨p.b,5,none⟩),ab x,.bool h] w λe w'=>∃v,e=.returned v/\Hid (ig w.heap.size v (sQ s.bonds x h) w'/\aX p {s with bonds:=wo s.bonds (x::sQ s.bonds x h)} d w'/\dH 0 d d w w'):=by
 refine(Hi a.bd.1 a.bd.2.1 u h).mono ?_;rintro e w' ⟨v,rfl,l⟩;obtain⟨o,q,c⟩:=l.out;have f:∀b,d.ow b≠0->d.ow b=d.ow b:=λ_ _=>rfl;have j:∀b,d.ow b≠0->p.lo<=b/\b<w'.heap.size:=λb g=>⟨(a.low b g).1,aL (a.low b g).2 c.size⟩;have t:∀{t:Int},t≠ -2->∀b,d.ow b=t->¬d.bo=some b:=λr b e z=>r (e.symm.trans (a.bd.2.2 b z));have i:w'.heap[p.b]?=some (.cells (dL p s d) 70):=(c.block p.b a.lo.2 (t (by decide) p.b a.own)).trans a.box;obtain⟨y1,y2,y⟩:=a.wyK c (t (by decide)) f rfl (pQ i).1;obtain⟨m,n⟩:=a.evK c (t (by decide)) f;exact⟨v,rfl,o,⟨j,i,a.own,⟨a.pgK c (t (by decide)) f,a.pg.2⟩,a.pmK c (λb e _=>t (by decide) b e) f,a.keys,λk b g=>a.psK c (aj _) (t (by have:=(a.key g).1;omega)) f j g,⟨y1,y2,a.wy.2.2.1,a.wy.2.2.2.1,y⟩,⟨q,a.bd.2.1.wo _,a.bd.2.2⟩,m,a.evt.1,n⟩,c.mono λb _ e=>by rw[a.bd.2.2 b e];decide,λ_ _=>rfl,rfl,aj _,aj _,aj _⟩
theorem KO{g:Int×Int->Bool}(b:zh g)(x:Int)(a:Bool):(sQ g x a).length<=99:=by
 unfold sQ;split
 ·simp
 ·exact(Du b x).le
theorem Im(b:Nat)(x how:Int)(w:World)(l:List Int)(L:Nat)(h:Bool)(R:Option Addr->Nat->Nat->World->Prop)(D:L<=99)(z:Hid (l.length=L))(s:h=(how==1))(o:Hid (ak 73 #[.pointer (some ⟨b,0,none⟩),ab x,ab how] w λe w'=>e=.returned (.tuple #[])/\Hid (ak 74 #[.pointer (some ⟨b,5,none⟩),ab x,.bool h] w' λe w'=>∃a c,e=.returned (.slice a L c)/\Hid (R a c 0 w'))))(A:Hid (∀a c j W,R a c j W->(∀(i:Nat)(k:Int),l[i]?=some k->∃g,a=some ⟨g,0,none⟩/\W.cell? ⟨g,i,none⟩=some (ab k))/\∀y,l[j]?=some y->ak 73 #[.pointer (some ⟨b,0,none⟩),ab y,ab 4] W λe w'=>e=.returned (.tuple #[])/\Hid (R a c (j+1) w'))):ak 46 #[.pointer (some ⟨b,0,none⟩),ab x,ab how] w λe w'=>e=.returned (.tuple #[])/\Hid (∃a c,R a c L w'):=by
 go_enter Tryz.func46,Tryz.ntmps46;go_wp2_with fail;refine o.out.mono ?_;rintro e I ⟨rfl,n⟩;have E:(how==1)=h:=s.symm;clear o s;go_wp2_with fail;refine n.out.mono ?_;rintro e J ⟨a,c,rfl,d⟩;clear n;go_wp2_with fail;go_loopw [7,20] (λ_ i wr=>∃j:Nat,j<=L/\i=ab j/\Hid (R a c j wr)) (λ_ i _=>L-(intOf i).toNat)
 case atStart=>exact⟨0,aF _,rfl,d.out⟩
 case round=>
 obtain⟨j,F,rfl,f⟩:=hrel;by_cases C:j<L
 ·obtain⟨y,m⟩:∃y,l[j]?=some y:=⟨l[j]'(by rw[z.out];exact C),aE _⟩;obtain⟨q,r⟩:=A.out a c j wr f.out;obtain⟨g,rfl,B⟩:=q j y m;have p:=ao (r y m);have G:(0:Int)<=(j:Int):=by omega
  have H:(j:Int)<(L:Int):=by omega
  clear q r m d;go_wp2_with fail;refine p.out.mono ?_;rintro e K ⟨rfl,t⟩;clear p B;go_wp2_with fail;go_roundw
  case rel=>exact⟨j+1,by omega,by go_num,t.out⟩
  case measure=>simp[intOf];omega
 ·obtain rfl:j=L:=by omega
  have u:=ao f.out;clear f d;go_wp2_with fail;exact dO (v:=.tuple #[]) (by simp[results]) rfl ⟨rfl,a,c,u.out⟩
theorem aX.fin(F:aX p s d w){x how:Int}(P:dk x)(af:d.es.length<=99000):ak 46 #[.pointer (some ⟨p.b,0,none⟩),ab x,ab how] w λe w'=>e=.returned (.tuple #[])/\Hid (∃g,aX p (s.fin x how) g w'/\dH 100 d g w w'):=by
 have I:=KO F.bd.2.1 x (how==1);obtain⟨l,z⟩:∃l,l=sQ s.bonds x (how==1):=⟨_,rfl⟩;rw[<-z]at I;refine(Im p.b x how w l l.length (how==1) (λf c B m=>∃g q,aX p ((l.take B).foldl (λs D=>s.drop D 4) {s.drop x how with bonds:=wo s.bonds (x::l)}) g m/\dH (1+B) d g w m/\ig q (.slice f l.length c) l m/\∀a,(Value.slice f l.length c).ownBlock=some a->g.ow a=0) I rfl rfl ?_ ?_).mono ?_
 ·refine(F.drop x how (by omega)).mono ?_;rintro e al ⟨rfl,j⟩;obtain⟨d1,G,T⟩:=j.out;refine⟨rfl,(G.parted P (how==1)).mono ?_⟩;rintro e am ⟨U,rfl,L⟩;obtain⟨v,K,S⟩:=L.out;have h:(s.drop x how).bonds=s.bonds:=rfl;rw[h,<-z]at v K;obtain⟨f,c,rfl⟩:∃f c,U=.slice f l.length c:=Lm v;refine⟨f,c,rfl,d1,_,K,(T.trans S).mono (by omega),v,λa A=>?_⟩;have ae:=(v.lt a A).1;by_cases H:d1.ow a=0
  ·exact H
  ·have:=(G.low a H).2;omega
 ·rintro f c B m ⟨g,q,r,t,u,E⟩;refine⟨λQ k n=>?_,λD J=>?_⟩
  ·obtain⟨W,X,e,o⟩:=u.row;injection e with h _ y;subst h y;rcases u.2 with⟨e,N⟩|⟨aa,Y,Z,e,_⟩
   ·rw[bB N]at n;simp at n
   ·injection e with h _ y;subst h y;rcases o with o|⟨ad,ai,e,ah,o⟩
    ·rw[o]at n;simp at n
    ·injection e with e;injection e with h O;subst h O;have:=o Q k n;rw[cP]at this;exact⟨_,rfl,this⟩
  ·have ag:=(aM.1 J).1;refine(r.drop D 4 (by have:=t.2.2.2.1;omega)).mono ?_;rintro e w' ⟨rfl,j⟩;obtain⟨M,R,C⟩:=j.out;have A:∀a,(Value.slice f l.length c).ownBlock=some a->a<m.heap.size:=λa i=>(u.lt a i).2;refine⟨rfl,M,q,?_,(t.trans C).mono (by omega),aY u C.1 λa i V=>by rw[E a i]at V;omega,λa i=>(C.2.1 a (A a i)).trans (E a i)⟩;rw[dx,J,l9];exact R
 ·rintro e w' ⟨rfl,j⟩;obtain⟨f,c,g,q,r,t,_⟩:=j.out;refine⟨rfl,g,?_,t.mono (by omega)⟩;rw[bw (aj _)]at r;unfold Sy.fin;rw[<-z];exact r
end
section
variable {p:kJ} {s:Sy} {d:fS} {w:World}
theorem aX.linkB(c:aX p s d w){x y:Int}(J:dk x)(K:dk y)(F:d.bn<1000000):ak 108 #[.pointer (some ⟨p.b,5,none⟩),ab x,ab y] w λe w'=>e=.returned (ab (uy x y))/\Hid (∃q,aX p {s with bonds:=if uy x y=0 then gY s.bonds (iy x y) true else s.bonds} q w'/\dH 1 d q w w'):=by
 refine(ER c.bd.1 J K F).mono ?_;rintro e w' ⟨rfl,A⟩;obtain⟨o,f,g,D⟩:=A.out;have H:=g.size;have i:∀b,Kx (Mb p s d) d.bo b->b=p.b\/d.ow b=-2:=λb e=>e.imp id (c.bd.2.2 b);have G:o≠some p.b:=λe=>by
  subst e;exact f.ne rfl
 have t:∀{t:Int},t≠ -2->t≠ -5->∀b,d.ow b=t->¬Kx (Mb p s d) d.bo b:=λf E b e a=>by
  rcases i b a with a|a
  ·rw[a,c.own]at e;exact E e.symm
  ·exact f (e.symm.trans a)
 have r:w'.heap[p.b]?=some (.cells (dL p {s with bonds:=if uy x y=0 then gY s.bonds (iy x y) true else s.bonds} {d with ow:=En d w w' (-2),bo:=o,bn:=d.bn+1}) 70):=by
  have:=f.2.1.2;simpa [Mb,dL]using this
 have z:=tr (t:=-2) c H c.lo.1;have h:=tu (w':=w') (t:=-2) c;obtain⟨B,C⟩:=pQ r;obtain⟨y1,y2,N⟩:=c.wyK g (t (by decide) (by decide)) h rfl B;obtain⟨l,m⟩:=c.evK g (t (by decide) (by decide)) h;refine⟨rfl,{d with ow:=En d w w' (-2),bo:=o,bn:=d.bn+1},⟨z,r,(h p.b (by rw[c.own];decide)).trans c.own,⟨c.pgK g (t (by decide) (by decide)) h,c.pg.2⟩,c.pmK g (λb l m a=>?_) h,c.keys,λk b j=>c.psK g (aj _) (t (by have:=(c.key j).1;omega) (by have:=(c.key j).1;omega)) h z j,⟨y1,y2,c.wy.2.2.1,c.wy.2.2.2.1,N⟩,⟨?_,?_,λb e=>?_⟩,l,c.evt.1,m⟩,g.mono λb _ e=>?_,λj O=>if_neg (by omega),rfl,fe _,fe _,aj _⟩
 ·rcases i b a with a|a
  ·exact m a
  ·rw[l]at a;cases a
 ·exact⟨f.1,C,f.2.2⟩
 ·show zh (if uy x y=0 then gY s.bonds (iy x y) true else s.bonds);split
  ·rename_i n;intro k u;by_cases v:k=iy x y
   ·subst v;unfold uy at n;split at n
    ·rename_i I;obtain⟨L,M,P⟩:=I;simp only[nj,aB,bX]at L M;unfold iy;simp only;omega
    ·cases n
   ·rw[bM _ _ v]at u;exact c.bd.2.1 k u
  ·exact c.bd.2.1
 ·rcases D b (ah e)with a|a
  ·rcases i b a with a|a
   ·subst a;exact absurd e G
   ·exact(h b (by rw[a];decide)).trans a
  ·have:=(f.lt b (ah e)).2;exact if_pos ⟨a,this⟩
 ·rcases i b e with a|a
  ·rw[a,c.own];decide
  ·rw[a];decide
theorem Lc(d:Nat)(a b:Int)(r:Bool)(v:Int)(w:World)(R:World->Prop)(f:Hid (ak 49 #[.pointer (some ⟨d,0,none⟩),ab b] w λe w'=>e=.returned (.bool r)/\w'=w))(i:Hid (r=false->R w))(j:Hid (r=true->ak 108 #[.pointer (some ⟨d,5,none⟩),ab a,ab b] w λe w'=>e=.returned (ab v)/\Hid (R w'))):ak 76 #[.pointer (some ⟨d,0,none⟩),ab a,ab b] w λe w'=>e=.returned (.tuple #[])/\Hid (R w'):=by
 go_enter Tryz.func76,Tryz.ntmps76;go_wp2_with fail;refine f.out.mono ?_;rintro e k ⟨rfl,g⟩;obtain rfl:=g.symm;clear g f;cases r
 ·have c:=ao (i.out rfl);go_wp2_with fail;exact dO (v:=.tuple #[]) (by simp[results]) rfl ⟨rfl,c.out⟩
 ·have c:=ao (j.out rfl);go_wp2_with fail;refine c.out.mono ?_;rintro e l ⟨rfl,h⟩;go_wp2_with fail;exact dO (v:=.tuple #[]) (by simp[results]) rfl ⟨rfl,h.out⟩
theorem aX.link(f:aX p s d w){a b:Int}(g:dk a)(h:dk b)(i:d.bn<1000000):ak 76 #[.pointer (some ⟨p.b,0,none⟩),ab a,ab b] w λe w'=>e=.returned (.tuple #[])/\Hid (∃c,aX p (s.link a b) c w'/\dH 1 d c w w'):=by
 refine Lc p.b a b (s.get b).isSome (uy a b) w (λw'=>∃c,aX p (s.link a b) c w'/\dH 1 d c w w') (f.isAlive b) (λe=>⟨d,?_,(dH.later d (am _ _)).mono (aF _)⟩) λe=>?_
 ·unfold Sy.link;rw[e];exact f
 ·unfold Sy.link;rw[e];exact f.linkB g h i
end
section
variable {p:kJ} {s:Sy} {d:fS} {w:World}
theorem Jv{m:Nat}{x:Tm (m+1)}(c:bq (m+1) x=0)(a b:Int)(L:Nat):nb 12 a b (aN 13 (m+1) x) L=nb 12 a b (cn (m+1) x) L:=by
 have f:aA ⟨m+1,x⟩:=aJ.2 (bz.1 c).1;have e:=iW 13 (m+1) x f (by have:=(bz.1 c).2.1;omega);have d:=eC c;unfold nb;rw[bL e,cr _ _ _ _ e,bL d,cr _ _ _ _ d]
theorem aX.sendW(g:aX p s d w){a b:Int}(am:I2 (a,b)){m:Nat}(x:Tm (m+1))(ar:In w.heap.size w (m+1) x)(A:bq (m+1) x=0)(ao:d.wn<999999):ak 107 #[.pointer (some ⟨p.b,4,none⟩),ab a,ab b,df (m+1) x] w λe w'=>e=.returned (ab (nb 12 a b (cn (m+1) x) (s.ways (a,b)).length))/\Hid (∃o,aX p (if nb 12 a b (cn (m+1) x) (s.ways (a,b)).length=0 then {s with ways:=gY s.ways (a,b) (s.ways (a,b)++ [cn (m+1) x])}else s) o w'/\dH 1 d o w w'):=by
 have Z:aA ⟨m+1,x⟩:=aJ.2 (bz.1 A).1;have V:fm (m+1) x<13:=by have:=(bz.1 A).2.1;omega
 have aa:=iW 13 (m+1) x Z V;have W:(d.f (a,b)).length=(s.ways (a,b)).length:=by
  have:=congrArg List.length (g.wy.2.2.1 (a,b));simpa using this
 have ay:(d.f (a,b)).length<=20:=g.wy.2.2.2.1 _;have aq:df (m+1) x=df (12+1) (aN 13 (m+1) x):=(yf 12 m x).symm;rw[aq];have T:bq 13 (aN 13 (m+1) x)=0:=(bL aa).trans A;refine(Jw (N:=12) g.wy.1 am (aN 13 (m+1) x) (rG 13 (m+1) x _ _ Z V ar) (eR T) ao (by omega)).mono ?_;rintro e w' ⟨rfl,y,Q⟩;rw[W,Jv A]at y Q ⊢;refine⟨rfl,?_⟩;by_cases j:nb 12 a b (cn (m+1) x) (s.ways (a,b)).length=0;rotate_left
 ·rw[if_neg j];exact⟨d,g.later (y j),(dH.later d (y j)).mono (aF _)⟩
 rw[if_pos j];obtain⟨n,L,sl,ad,C,r,K,ae,au⟩:=Q j;have R:aH 13 (cn (m+1) x)=true/\(s.ways (a,b)).length<20:=by
  unfold nb gF at j;split at j
  ·cases j
  ·split at j
   ·rename_i i;exact absurd j i
   ·split at j
    ·cases j
    ·rename_i i;split at j
     ·cases j
     ·exact⟨by simpa using i,by omega⟩
 have S:cn 13 n=cn (m+1) x:=(gR ad).trans (gR aa);have U:bq 13 n=0:=(bL ad).trans T;have an:aH 13 n=true:=by
  have:=cr _ _ _ _ (eC U);rw[S]at this;exact this.symm.trans R.1
 have ap:=r.size;have B:=g.wy.2.1;have t:∀{t:Int},t≠ -1->t≠ -5->∀b,d.ow b=t->¬qX (zb p s d) d.wo d.sl b:=λy al b e c=>by
  rcases B b c with c|c
  ·rw[c,g.own]at e;exact al e.symm
  ·exact y (e.symm.trans c)
 obtain⟨o,v⟩:∃o,o={d with ow:=En d w w' (-1),wo:=L,wn:=d.wn+1,f:=gY d.f (a,b) (d.f (a,b)++ [n]),sl:=sl}:=⟨_,rfl⟩;obtain⟨E,I⟩:∃E,E={s with ways:=gY s.ways (a,b) (s.ways (a,b)++ [cn (m+1) x])}:=⟨_,rfl⟩;have H:w'.heap[p.b]?=some (.cells (dL p E o) 70):=by
  have:=C.2.1.2;rw[I,v];simpa [zb,dL]using this
 have X:=tr (t:=-1) g ap g.lo.1;have q:=tu (w':=w') (t:=-1) g;obtain⟨O,P⟩:=pQ H;rw[v]at P;have az:∀h,qX (zb p E o) L sl h->qX (zb p s d) d.wo d.sl h\/w.heap.size<=h:=K;obtain⟨F,G⟩:=g.evK r (t (by decide) (by decide)) q;refine⟨o,?_,?_⟩
 ·rw[<-I,v];rw[I]at*;refine⟨X,by rw[v]at H;exact H,(q p.b (by rw[g.own];decide)).trans g.own,⟨g.pgK r (t (by decide) (by decide)) q,g.pg.2⟩,g.pmK r (λb F G c=>?_) q,g.keys,λk b h=>g.psK r (aj _) (t (by have:=(g.key h).1;omega) (by have:=(g.key h).1;omega)) q X h,⟨?_,λh c=>?_,λk=>?_,λk=>?_,λk c i=>?_⟩,g.bdK r (t (by decide) (by decide)) q rfl P,F,g.evt.1,G⟩
  ·rcases B b c with c|c
   ·exact G c
   ·rw[F]at c;cases c
  ·rw[v]at O;exact⟨C.1,O,C.2.2⟩
  ·rcases K h c with z|z
   ·exact(B h z).imp id λe=>(q h (by rw[e];decide)).trans e
   ·exact ah (if_pos ⟨z,(C.lt h c).2⟩)
  ·by_cases l:k=(a,b)
   ·subst l;show (gY d.f (a,b) (d.f (a,b)++ [n]) (a,b)).map (cn 13)=gY s.ways (a,b) (s.ways (a,b)++ [cn (m+1) x]) (a,b);rw[cF,cF,fH,g.wy.2.2.1,aI,bR,S]
   ·show (gY d.f (a,b) (d.f (a,b)++ [n]) k).map (cn 13)=gY s.ways (a,b) (s.ways (a,b)++ [cn (m+1) x]) k;rw[bM _ _ l,bM _ _ l];exact g.wy.2.2.1 k
  ·by_cases l:k=(a,b)
   ·subst l;show (gY d.f (a,b) (d.f (a,b)++ [n]) (a,b)).length<=20;rw[cF,bf,W];have:=R.2;simp;omega
   ·show (gY d.f (a,b) (d.f (a,b)++ [n]) k).length<=20;rw[bM _ _ l];exact g.wy.2.2.2.1 k
  ·have i:c∈gY d.f (a,b) (d.f (a,b)++ [n]) k:=i;have Y:∀J,∀c∈d.f J,bq 13 c=0/\aH 13 c=true/\In w'.heap.size w' 13 c/\bZ (λh=>En d w w' (-1) h=-1/\¬qX (zb p s d) L sl h) 13 c:=λJ c i=>by
    obtain⟨av,aw,af,ax⟩:=g.wy.2.2.2.2 J c i;have ag:=eS r (D:=λh=>(d.ow h=-1/\¬qX (zb p s d) d.wo d.sl h)/\h<w.heap.size) (λh z M=>z.1.2 M) ⟨af,In.offB ax af⟩;refine⟨av,aw,ag.1,ag.2.mono λh u=>⟨(q h (by rw[u.1.1];decide)).trans u.1.1,λM=>?_⟩⟩;rcases K h M with ai|ai
    ·exact u.1.2 ai
    ·omega
   by_cases l:k=(a,b)
   ·subst l;rw[cF]at i;rcases da.1 i with i|i
    ·exact Y _ c i
    ·obtain rfl:=dD.1 i;exact⟨U,an,ae,(In.offB au ae).mono λh u=>⟨if_pos ⟨u.1.1,u.2⟩,u.1.2⟩⟩
   ·rw[bM _ _ l]at i;exact Y _ c i
 ·rw[v]
  exact⟨r.mono λb _ e=>by
   rcases B b e with c|c
   ·rw[c,g.own];decide
   ·rw[c];decide,λh aB=>if_neg (by omega),rfl,fe _,aj _,fe _⟩
end
theorem en{w w':World}(b:ai w w'){q:Nat}{o:Obj}(a:w.heap[q]?=some o):w'.heap[q]?=some o:=(b.block q (aC.1 a).1).trans a
theorem Di(x:Nat)(a b c d:Int)(f:ByteArray)(xa:Option Addr)(g xc:Nat)(v:Int)(w:World)(C R:World->Prop)(A:Hid (∀W,ai w W->ak 107 #[.pointer (some ⟨x,4,none⟩),ab a,ab b,.agg #[ab c,ab d,ae f,.slice xa g xc]] W λe w'=>e=.returned (ab v)/\Hid (C w'/\∀q,w.heap.size<=q->q<W.heap.size->w'.heap[q]?=W.heap[q]?)))(B:Hid (∀W,C W->ak 44 #[.pointer (some ⟨x,0,none⟩),ae (if v=0 then ⟨#[115,101,110,100]⟩else ⟨#[108,111,115,116]⟩),ab a,ab b,.agg #[ab c,ab d,ae f,.slice xa g xc]] W λe w'=>e=.returned (.tuple #[])/\Hid (R w'))):ak 75 #[.pointer (some ⟨x,0,none⟩),ab a,ab b,.agg #[ab c,ab d,ae f,.slice xa g xc]] w λe w'=>e=.returned (.tuple #[])/\Hid (R w'):=by
 go_enter Tryz.func75,Tryz.ntmps75;go_upto_region 1 with fail;generalize D:w.alloc _=h;have n:Hid (ai w h/\h.heap[w.heap.size]?=some (.cells #[ab c,ab d,ae f,.slice xa g xc] 30)):=by
  rw[<-D];exact⟨(am _ _).alloc (aj _) _,az _ _⟩
 clear D;obtain⟨q,m⟩:∃q,q=w.heap.size:=⟨_,rfl⟩;rw[<-m];have s:Hid (h.heap[q]?=some (.cells #[ab c,ab d,ae f,.slice xa g xc] 30)):=by rw[m];exact n.out.2
 have HB:=ao n.out.1;have E:=ao m;clear m n;have r:Hid (ai h h.drew):=(am _ _).drew;have z:=ao (HB.out.trans (r.out.mono HB.out.size));have k:=ao (en r.out s.out);have i:Hid (∀W:World,W.heap[q]?=some (.cells #[ab c,ab d,ae f,.slice xa g xc] 30)->W.cell? ⟨q,0,none⟩=some (ab c)/\W.cell? ⟨q,1,none⟩=some (ab d)/\W.cell? ⟨q,2,none⟩=some (ae f)/\W.cell? ⟨q,3,none⟩=some (.slice xa g xc)):=λW l=>⟨af l 0,af l 1,af l 2,af l 3⟩;obtain⟨F,G,H,I⟩:=i.out h s.out
 go_region_held3 (λW=>W.cell? ⟨q,0,none⟩=some (ab c)/\W.cell? ⟨q,1,none⟩=some (ab d)/\W.cell? ⟨q,2,none⟩=some (ae f)/\W.cell? ⟨q,3,none⟩=some (.slice xa g xc))
  (first|exact i.out _ k.out|exact i.out _ t.out) ((first
   | (go_at_call 107;refine(A.out _ z.out).mono ?_;rintro e y ⟨rfl,o⟩;have t:Hid (y.heap[q]?=some (.cells #[ab c,ab d,ae f,.slice xa g xc] 30)):=(o.out.2 q (by have:=E.out;omega) (aC.1 k.out).1).trans k.out)))
 obtain⟨K,d1,L,M⟩:=i.out y t.out;have j:=ao (B.out y o.out.1);clear F G H I A B i o t k z r HB s;by_cases u:v=0
 ·subst u;rw[if_pos rfl]at j;go_wp2_with fail;refine j.out.mono ?_;rintro e J ⟨rfl,p⟩;go_wp2_with fail;exact dO (v:=.tuple #[]) (by simp[results]) rfl ⟨rfl,p.out⟩
 ·rw[if_neg u]at j;have N:(v==0)=false:=by simpa using u
  go_wp2_with fail;refine j.out.mono ?_;rintro e J ⟨rfl,p⟩;go_wp2_with fail;exact dO (v:=.tuple #[]) (by simp[results]) rfl ⟨rfl,p.out⟩
section
variable {p:kJ} {s:Sy} {d:fS} {w:World}
def ED(d:fS)(w:World){m:Nat}(x:Tm m):Prop:=In w.heap.size w m x/\bZ (λq=>0<=d.ow q) m x
theorem ED.up{a m:Nat}{x:Tm m}{f:fS}{w':World}(c:ED d w x)(k:dH a d f w w'):ED f w' x:=by
 have g:=eS k.1 (D:=λb=>0<=d.ow b/\b<w.heap.size) (λb e h=>by omega) ⟨c.1,In.offB c.2 c.1⟩;exact⟨g.1,g.2.mono λb e=>by rw[k.2.1 b e.2];exact e.1⟩
theorem aX.send(o:aX p s d w){a b:Int}(A:I2 (a,b)){m:Nat}(x:Tm (m+1))(t:ED d w x)(q:bq (m+1) x=0)(B:d.wn<999999)(E:d.es.length<100000):ak 75 #[.pointer (some ⟨p.b,0,none⟩),ab a,ab b,df (m+1) x] w λe w'=>e=.returned (.tuple #[])/\Hid (∃j,aX p (s.send a b (cn (m+1) x)) j w'/\dH 2 d j w w'):=by
 obtain⟨i,r⟩:∃i,i=nb 12 a b (cn (m+1) x) (s.ways (a,b)).length:=⟨_,rfl⟩;refine Di p.b a b x.1.1 x.1.2.1 x.1.2.2 x.2.1.1 x.2.2.length x.2.1.2 i w (λc=>∃d1,aX p (if i=0 then {s with ways:=gY s.ways (a,b) (s.ways (a,b)++ [cn (m+1) x])}else s) d1 c/\dH 1 d d1 w c) (λc=>∃j,aX p (s.send a b (cn (m+1) x)) j c/\dH 2 d j w c) (λc g=>?_) λc g=>?_
 ·refine((o.later g).sendW A x ((t.1.below g).mono g.size) q B).mono ?_;rintro e w' ⟨rfl,k⟩;rw[<-r]at k ⊢;obtain⟨d1,n,h⟩:=k.out;refine⟨rfl,⟨d1,n,((dH.later d g).trans h).mono (aj _)⟩,λu D z=>h.1.block u z λF=>?_⟩;have:=(o.low u (by omega)).2;omega
 ·obtain⟨d1,n,h⟩:=g;have C:=t.up h;refine(n.tell (if i=0 then Ir else ny) a b x.1.1 x.1.2.1 x.1.2.2 x.2.1.1 x.2.2.length x.2.1.2 (cn (m+1) x) (jL C.1 q) (by have:=h.2.2.2.1;omega)).mono ?_;rintro e w' ⟨rfl,k⟩;obtain⟨v,f,y⟩:=k.out.up n;refine⟨rfl,v,?_,(h.trans y).mono (aj _)⟩;unfold Sy.send;rw[<-r];by_cases l:i=0
  ·rw[if_pos l]at f ⊢;rw[if_pos l]at f;exact f
  ·rw[if_neg l]at f ⊢;rw[if_neg l]at f;exact f
end
def fK(a c:Nat)(d b:fS)(w w':World):Prop:=bk (λq=>d.ow q≠0) w w'/\(∀q,q<w.heap.size->b.ow q=d.ow q)/\b.k<=d.k+c/\b.es.length<=d.es.length+a/\b.wn<=d.wn+a/\b.bn<=d.bn+a
theorem fK.trans{a b c e:Nat}{d d1 h:fS}{w w1 w2:World}(l:fK a c d d1 w w1)(k:fK b e d1 h w1 w2):fK (a+b) (c+e) d h w w2:=by
 obtain⟨i,j,o,p,q,r⟩:=l;obtain⟨m,n,t,u,v,x⟩:=k;have s:=i.size;exact⟨i.trans m λf g e=>by rw[j f g]at e;exact e,λf g=>(n f (by omega)).trans (j f g),by omega,by omega,by omega,by omega⟩
theorem fK.mono{a b c e:Nat}{d d1:fS}{w w1:World}(f:fK a c d d1 w w1)(m:a<=b)(n:c<=e):fK b e d d1 w w1:=by
 obtain⟨g,h,i,j,k,l⟩:=f;exact⟨g,h,by omega,by omega,by omega,by omega⟩
theorem dH.un{a:Nat}{d d1:fS}{w w1:World}(b:dH a d d1 w w1):fK a 0 d d1 w w1:=⟨b.1.mono λq _ e=>by omega,b.2.1,by have:=b.2.2.1;omega,b.2.2.2⟩
theorem zX{c:Type}(k j:Int)(v:c):(l:List (Int×c))->(l.map λp=>if p.1=k then (k,v)else p).find? (λp=>p.1==j)=(l.find? λp=>p.1==j).map λp=>if p.1=k then (k,v)else p
 | []=>rfl
 | a::l=>by
  rw[aI,eZ,eZ,zX k j v l];by_cases b:a.1=k
  ·rw[if_pos b];simp only[b];cases k==j<;>simp[b]
  ·rw[if_neg b];cases a.1==j<;>simp[b]
theorem P1.lie2{a f:Nat}{name:ByteArray}{room:Int}{cs:Tc}{c:List Tc}{k:Nat}{M:Nat->Prop}{w:World}(d:P1 a f name room cs c k M w):∀b,M b->a<=b/\b<w.heap.size:=by
 obtain⟨h,q,o,t,p,r,s,m,n,g,i,j,l,e⟩:=d;exact e
section
variable {p:kJ} {s:Sy} {d:fS} {w:World}
theorem D8(s:Sy)(k j:Int)(v:ByteArray×Tc×List Tc):(s.put k v).get j=if j=k then (s.get k).map λ_=>v else s.get j:=by
 unfold Sy.put Sy.get;simp only;rw[zX];by_cases a:j=k
 ·subst a;rw[if_pos rfl];cases e:s.ps.find? (λp=>p.1==j)with
  | none=>rfl
  | some b=>
   have:=List.find?_some e;simp only[bV]at this;simp[this]
 ·rw[if_neg a];cases e:s.ps.find? (λp=>p.1==j)with
  | none=>rfl
  | some b=>
   have:=List.find?_some e;simp only[bV]at this;simp[this,a]
theorem um(s:Sy)(k:Int)(v:ByteArray×Tc×List Tc):(s.put k v).ps.map (·.1)=s.ps.map (·.1):=by
 unfold Sy.put;simp only[fI];refine jf λb _=>?_;by_cases a:b.1=k
 ·simp[a]
 ·simp[a]
theorem aX.turnP(a:aX p s d w){k:Int}{b:Nat}(y:cN d.l k=some b){nm:ByteArray}{cs m:Tc}{F i:List Tc}(S:s.get k=some (nm,cs,F)){w':World}(e:bk (λq=>d.ow q=k) w w'){N:Nat->Prop}{j:Nat}(Q:∀q,N q->d.ow q=k\/w.heap.size<=q)(T:d.k<=j)(x:P1 p.lo b nm p.room m i (j+201) N w')(P:i.length<=20):aX p (s.put k (nm,m,i)) {d with ow:=En d w w' k,k:=j} w'/\fK 0 (j-d.k) d {d with ow:=En d w w' k,k:=j} w w':=by
 have Z:=(a.key y).1;have v:=tr (t:=k) a e.size a.lo.1;have f:=tu (w':=w') (t:=k) a;have R:∀q,N q->p.lo<=q/\q<w'.heap.size:=P1.lie2 x;have t:∀{t:Int},t≠k->∀q,d.ow q=t->¬d.ow q=k:=λW q h g=>W (h.symm.trans g);have r:w'.heap[p.b]?=some (.cells (dL p s d) 70):=(e.block p.b a.lo.2 (t (by omega) p.b a.own)).trans a.box;obtain⟨y1,y2,Y⟩:=a.wyK e (t (by omega)) f rfl (pQ r).1;obtain⟨G,H⟩:=a.evK e (t (by omega)) f;obtain⟨I,J,K,L,M,O⟩:=a.keys;have U:∀q∈(s.put k (nm,m,i)).ps,1<=q.1/\q.1<=s.last:=λq z=>by
  have:q.1∈(s.put k (nm,m,i)).ps.map (·.1):=bU.2 ⟨q,z,rfl⟩;rw[um]at this;obtain⟨X,V,h⟩:=bU.1 this;rw[<-h];exact K X V
 refine⟨⟨v,r,(f p.b (by rw[a.own];decide)).trans a.own,⟨a.pgK e (t (by omega)) f,a.pg.2⟩,a.pmK e (λq h _=>t (by omega) q h) f,⟨by rw[um];exact I,by rw[um];exact J,U,L,M,by unfold Sy.put;simpa using O⟩,λn c q=>?_,⟨y1,y2,a.wy.2.2.1,a.wy.2.2.2.1,Y⟩,a.bdK e (t (by omega)) f rfl (pQ r).2,G,a.evt.1,H⟩,e.mono λq _ h=>by rw[h];omega,λq z=>if_neg (by omega),by show j<=_;omega,aj _,aj _,aj _⟩;by_cases u:n=k
 ·subst u;have q:cN d.l n=some c:=q;rw[y]at q;obtain rfl:=au q;refine⟨nm,m,i,by rw[D8,if_pos rfl,S];rfl,x.mono (λq g=>?_) (aj _) λq g=>v q (by have g:En d w w' n q=n:=g;rw[g];omega),P⟩;rcases Q q g with o|o
  ·exact(f q (by rw[o];omega)).trans o
  ·exact if_pos ⟨o,(R q g).2⟩
 ·obtain⟨A,B,C,D,E⟩:=a.psK e T (t u) f v q;exact⟨A,B,C,by rw[D8,if_neg u];exact D,E⟩
end
theorem Gq(i L:Nat)(G:Option Nat)(a b d f:Int)(g:ByteArray)(xa:Option Addr)(h xc:Nat)(v:Int)(w:World)(o R:World->Prop)(V:i<w.heap.size)(M:Hid (w.cell? ⟨i,3,none⟩=some (.map G)))(H:Hid (∀W,ai w W->(Instr.lookup 62 (.map G) (ab b) false).run Tryz.prog W=.ok (.pointer (some ⟨L,0,none⟩)) W))(I:Hid (∀W,ai w W->ak 78 #[.pointer (some ⟨L,0,none⟩),.agg #[ab d,ab f,ae g,.slice xa h xc]] W λe w'=>e=.returned (ab v)/\Hid (o w'/\∀q,w.heap.size<=q->q<W.heap.size->w'.heap[q]?=W.heap[q]?)))(n:Hid (v=2->∀W,o W->ak 44 #[.pointer (some ⟨i,0,none⟩),ae ⟨#[108,111,115,116]⟩,ab a,ab b,.agg #[ab d,ab f,ae g,.slice xa h xc]] W λe w'=>e=.returned (.tuple #[])/\Hid (R w')))(l:Hid (v=6->∀W,o W->ak 46 #[.pointer (some ⟨i,0,none⟩),ab b,ab 3] W λe w'=>e=.returned (.tuple #[])/\Hid (R w')))(m:Hid (v≠2->v≠6->∀W,o W->R W)):ak 50 #[.pointer (some ⟨i,0,none⟩),ab a,ab b,.agg #[ab d,ab f,ae g,.slice xa h xc]] w λe w'=>e=.returned (.tuple #[])/\Hid (R w'):=by
 go_enter Tryz.func50,Tryz.ntmps50;go_upto_region 1 with fail;generalize K:w.alloc _=c;have t:Hid (ai w c/\c.heap[w.heap.size]?=some (.cells #[ab d,ab f,ae g,.slice xa h xc] 30)):=by
  rw[<-K];exact⟨(am _ _).alloc (aj _) _,az _ _⟩
 clear K;obtain⟨q,s⟩:∃q,q=w.heap.size:=⟨_,rfl⟩;rw[<-s];have C:Hid (c.heap[q]?=some (.cells #[ab d,ab f,ae g,.slice xa h xc] 30)):=by rw[s];exact t.out.2
 have HB:=ao t.out.1;have N:=ao s;clear s t;have A:Hid (ai c c.drew):=(am _ _).drew;have y:=ao (HB.out.trans (A.out.mono HB.out.size));have D:=ao (en A.out C.out);have z:Hid (∀W:World,W.heap[q]?=some (.cells #[ab d,ab f,ae g,.slice xa h xc] 30)->W.cell? ⟨q,0,none⟩=some (ab d)/\W.cell? ⟨q,1,none⟩=some (ab f)/\W.cell? ⟨q,2,none⟩=some (ae g)/\W.cell? ⟨q,3,none⟩=some (.slice xa h xc)):=λW r=>⟨af r 0,af r 1,af r 2,af r 3⟩;obtain⟨O,P,Q,S⟩:=z.out c C.out;have T:c.cell? ⟨i,3,none⟩=some (.map G):=(HB.out.cell (p:=⟨i,3,none⟩) V).trans M.out;have U:=H.out c.drew y.out
 go_region_with ((first
     | (go_at_call 78;refine(I.out _ y.out).mono ?_;rintro e k ⟨rfl,u⟩;have J:Hid (k.heap[q]?=some (.cells #[ab d,ab f,ae g,.slice xa h xc] 30)):=(u.out.2 q (by have:=N.out;omega) (aC.1 D.out).1).trans D.out)))
 all_goals
  obtain⟨Y,d1,Z,aa⟩:=z.out k J.out;have B:=ao u.out.1;clear O P Q S T U H I z u J D y A HB C;by_cases E:v=2
  ·subst E;have j:=ao (n.out (by simp) k B.out);clear n l m;go_wp2_with fail;refine j.out.mono ?_;rintro e X ⟨rfl,x⟩;go_wp2_with fail;exact dO (v:=.tuple #[]) (by simp[results]) rfl ⟨rfl,x.out⟩
  ·have ad:(v==2)=false:=by simpa using E
   by_cases F:v=6
   ·subst F;have j:=ao (l.out (by simp) k B.out);clear n l m;go_wp2_with fail;refine j.out.mono ?_;rintro e X ⟨rfl,x⟩;go_wp2_with fail;exact dO (v:=.tuple #[]) (by simp[results]) rfl ⟨rfl,x.out⟩
   ·have ag:(v==6)=false:=by simpa using F
    have j:=ao (m.out E F k B.out);clear n l m;go_wp2_with fail;exact dO (v:=.tuple #[]) (by simp[results]) rfl ⟨rfl,j.out⟩
theorem KM{m:Nat}{x:Tm m}(a:bq m x=0)(room:Int)(s:Tc)(ms:List Tc):mD m x room s ms=mD 13 (cn m x) room s ms:=by
 have b:=eC a;unfold mD;rw[bL b,cr _ _ _ _ b,DT a]
theorem AU{d:Type}(k:Int)(v:d):(l:List (Int×d))->(l.map (·.1)).Nodup->(l.find? λp=>p.1==k).map (·.2)=some v->(l.map λp=>if p.1=k then (k,v)else p)=l
 | [],_,_=>rfl
 | a::l,hn,h=>by
  rw[aI,j8]at hn;rw[eZ]at h;rw[aI];by_cases b:a.1=k
  ·have c:(a.1==k)=true:=by simpa using b
   rw[c]at h;have f:a.2=v:=by simpa using h
   rw[if_pos b];congr 1
   ·rw[<-f,<-b]
   ·refine(jf λi g=>?_).trans (List.map_id l);rw[if_neg λe=>hn.1 (bU.2 ⟨i,g,e.trans b.symm⟩)];rfl
  ·have c:(a.1==k)=false:=by simpa using b
   rw[c]at h;rw[if_neg b,AU k v l hn.2 h]
theorem uO{s:Sy}{k:Int}{v:ByteArray×Tc×List Tc}(b:(s.ps.map (·.1)).Nodup)(a:s.get k=some v):s.put k v=s:=by
 unfold Sy.put;rw[AU k v s.ps b a]
section
variable {p:kJ} {s:Sy} {d:fS} {w:World}
theorem aX.deliver(h:aX p s d w){a b:Int}(X:dk b){nm:ByteArray}{cs:Tc}{r:List Tc}(j:s.get b=some (nm,cs,r)){m:Nat}(x:Tm (m+1))(L:In w.heap.size w (m+1) x/\bZ (λq=>¬1<=d.ow q) (m+1) x)(B:bq (m+1) x=0)(aa:d.k<=47000)(Z:d.es.length<=98000):ak 50 #[.pointer (some ⟨p.b,0,none⟩),ab a,ab b,df (m+1) x] w λe w'=>e=.returned (.tuple #[])/\Hid (∃z,aX p (s.deliver p.room a b (cn (m+1) x)) z w'/\fK 100 201 d z w w'):=by
 obtain⟨v,H⟩:∃v,cN d.l b=some v:=by
  have:=h.alive b;rw[j]at this;cases e:cN d.l b with
  | none=>rw[e]at this;cases this
  | some v=>exact⟨v,rfl⟩
 obtain⟨Y,Q,P,G,T,U⟩:=h.ps b v H;rw[j]at G;obtain⟨rfl,rfl,rfl⟩:nm=Y/\cs=Q/\r=P:=by
  injection G with G;injection G with J A;injection A with A S;exact⟨J,A,S⟩
 have N:=(h.key H).1;obtain⟨y,C⟩:∃y,y=mD 13 (cn (m+1) x) p.room cs r:=⟨_,rfl⟩;have ad:bq 13 (cn (m+1) x)=0:=(bL (eC B)).trans B;refine Gq p.b v d.po a b x.1.1 x.1.2.1 x.1.2.2 x.2.1.1 x.2.2.length x.2.1.2 y w (λg=>∃d1,aX p (if y=0 then s.put b (nm,cs,r++ [cn (m+1) x])else s.put b (nm,cs,r)) d1 g/\fK 0 201 d d1 w g/\In g.heap.size g (m+1) x) (λg=>∃z,aX p (s.deliver p.room a b (cn (m+1) x)) z g/\fK 100 201 d z w g) h.lo.2 h.cells.2.2.2 (λg f=>?_) (λg f=>?_) (λe g f=>?_) (λe g f=>?_) λJ A g f=>?_
 ·have:=(h.later f).look b false;rw[H]at this;exact this
 ·have W:=T.later f;have O:=(L.1.below f).mono f.size;refine(W.deliver x O (L.2.mono λq t F=>t (by rw[show d.ow q=b from F];exact N)) (eR B) (by omega) (by omega) (ax h.lo.1 f.size)).mono ?_;rintro e w' ⟨rfl,u⟩;rw[KM B,<-C]at u ⊢;obtain⟨c,n⟩:=u.out;have K:bk (λq=>d.ow q=b) g w':=⟨c.os,c.tape,c.output,c.size,c.block⟩;have V:(if y=0 then r++ [cn (m+1) x]else r).length<=20:=by
   split
   ·rename_i i;rw[C]at i;unfold mD at i;split at i
    ·cases i
    ·simp;omega
   ·exact U
  obtain⟨o,E⟩:=(h.later f).turnP H j K (λq t=>t.1) (show d.k<=d.k+201 by omega) n V;refine⟨rfl,⟨_,?_,(((dH.later d f).un.trans E).mono (aj _) (by omega)),?_⟩,λq ae F=>K.block q F λt=>?_⟩
  ·split
   ·rename_i i;rw[if_pos i]at o;exact o
   ·rename_i i;rw[if_neg i]at o;exact o
  ·exact(eS K (D:=λq=>¬1<=d.ow q) (λq t F=>t (by rw[F];exact N)) ⟨O,L.2⟩).1
  ·have:=(h.low q (by rw[t];omega)).2;omega
 ·obtain⟨d1,c,n,M⟩:=f;rw[if_neg (by rw[e];decide),uO h.keys.2.1 j]at c;refine(c.tell ny a b x.1.1 x.1.2.1 x.1.2.2 x.2.1.1 x.2.2.length x.2.1.2 (cn (m+1) x) (jL M B) (by have:=n.2.2.2.1;omega)).mono ?_;rintro R w' ⟨rfl,u⟩;obtain⟨I,o,E⟩:=u.out.up c;refine⟨rfl,I,?_,(n.trans E.un).mono (by omega) (by omega)⟩;unfold Sy.deliver;rw[j];simp only;rw[<-C,if_pos e];exact o
 ·obtain⟨d1,c,n,M⟩:=f;rw[if_neg (by rw[e];decide),uO h.keys.2.1 j]at c;refine(c.fin (how:=3) X (by have:=n.2.2.2.1;omega)).mono ?_;rintro R w' ⟨rfl,u⟩;obtain⟨I,o,E⟩:=u.out;refine⟨rfl,I,?_,(n.trans E.un).mono (by omega) (by omega)⟩;unfold Sy.deliver;rw[j];simp only;rw[<-C,if_neg (by rw[e];decide),if_pos e];exact o
 ·obtain⟨d1,c,n,M⟩:=f;refine⟨d1,?_,n.mono (by omega) (aj _)⟩;unfold Sy.deliver;rw[j];simp only;rw[<-C,if_neg J,if_neg A];by_cases i:y=0
  ·rw[if_pos i]at c ⊢;exact c
  ·rw[if_neg i]at c ⊢;rw[uO h.keys.2.1 j]at c;exact c
end
theorem Am(x:Nat)(a i j:Int)(k:ByteArray)(xa:Option Addr)(l xc:Nat)(g cl:Bool)(b:Int)(w:World)(R:Int->World->Prop)(z:Hid (∀W,ai w W->ak 49 #[.pointer (some ⟨x,0,none⟩),ab a] W λe w'=>e=.returned (.bool g)/\w'=W))(G:Hid (∀W,ai w W->ak 51 #[.agg #[ab i,ab j,ae k,.slice xa l xc]] W λe w'=>e=.returned (ab b)/\ai W w'))(E:Hid (∀W,ai w W->ak 52 #[.agg #[ab i,ab j,ae k,.slice xa l xc]] W λe w'=>e=.returned (.bool cl)/\ai W w'))(F:Hid (g=true->b=0->cl=true->∀W,ai w W->ak 50 #[.pointer (some ⟨x,0,none⟩),ab 0,ab a,.agg #[ab i,ab j,ae k,.slice xa l xc]] W λe w'=>e=.returned (.tuple #[])/\Hid (R 0 w')))(r:Hid (∀W,ai w W->(g=false->R 4 W)/\(g=true->b≠0->R b W)/\(g=true->b=0->cl=false->R 5 W))):ak 28 #[.pointer (some ⟨x,0,none⟩),ab a,.agg #[ab i,ab j,ae k,.slice xa l xc]] w λe w'=>∃v,e=.returned (ab v)/\Hid (R v w'):=by
 go_enter Tryz.func28,Tryz.ntmps28;go_upto_region 1 with fail;generalize A:w.alloc _=y;have d:Hid (ai w y/\y.heap[w.heap.size]?=some (.cells #[ab i,ab j,ae k,.slice xa l xc] 30)):=by
  rw[<-A];exact⟨(am _ _).alloc (aj _) _,az _ _⟩
 clear A;go_wp2_with fail;refine(z.out _ d.out.1).mono ?_;rintro e K ⟨rfl,B⟩;obtain rfl:=B.symm;clear B z;cases g
 ·have h:=ao ((r.out y d.out.1).1 rfl);go_wp2_with fail
  go_ret
  exact⟨4,rfl,h.out⟩
 have c:=d.out.2;obtain⟨m,n,o,p⟩:=Ox c;clear c;go_wp2_with fail;refine(G.out _ d.out.1).mono ?_;rintro e I ⟨rfl,s⟩;have f:=ao (⟨d.out.1.trans (s.mono d.out.1.size),en s d.out.2⟩:_/\_);clear m n o p s;by_cases u:b=0;rotate_left
 ·have h:=ao ((r.out I f.out.1).2.1 (by simp) u);have J:(b !=0)=true:=by simpa using u
  go_wp2_with fail
  go_ret
  exact⟨b,rfl,h.out⟩
 subst u;have c:=f.out.2;obtain⟨m,n,o,p⟩:=Ox c;clear c;go_wp2_with fail;refine(E.out _ f.out.1).mono ?_;rintro e C ⟨rfl,t⟩;have q:=ao (⟨f.out.1.trans (t.mono f.out.1.size),en t f.out.2⟩:_/\_);clear m n o p t;cases cl
 ·have h:=ao ((r.out C q.out.1).2.2 (by simp) (by simp) (by simp));go_wp2_with fail
  go_ret
  exact⟨5,rfl,h.out⟩
 have c:=q.out.2;obtain⟨m,n,o,p⟩:=Ox c;have H:=ao (F.out (by simp) (by simp) (by simp) C q.out.1);clear c;go_wp2_with fail;refine H.out.mono ?_;rintro e L ⟨rfl,D⟩;go_wp2_with fail
 go_ret
 exact⟨0,rfl,D.out⟩
section
variable {p:kJ} {s:Sy} {d:fS} {w:World}
theorem aX.inject(j:aX p s d w){a:Int}(y:dk a){m:Nat}(x:Tm (m+1))(l:In w.heap.size w (m+1) x/\bZ (λq=>¬1<=d.ow q) (m+1) x)(u:(av (m+1) x).length<=2097152)(A:d.k<=47000)(t:d.es.length<=98000):ak 28 #[.pointer (some ⟨p.b,0,none⟩),ab a,df (m+1) x] w λe w'=>∃v,e=.returned (ab v)/\Hid (v=(s.inject p.room a (m+1) x).2/\∃g,aX p (s.inject p.room a (m+1) x).1 g w'/\fK 100 201 d g w w'):=by
 have o:∀f,ai w f->fK 100 201 d d w f:=λf c=>(dH.later d c).un.mono (aF _) (aF _);refine Am p.b a x.1.1 x.1.2.1 x.1.2.2 x.2.1.1 x.2.2.length x.2.1.2 (s.get a).isSome (aH (m+1) x) (bq (m+1) x) w (λv w'=>v=(s.inject p.room a (m+1) x).2/\∃g,aX p (s.inject p.room a (m+1) x).1 g w'/\fK 100 201 d g w w') (λf c=>(j.later c).isAlive a) (λf c=>dB (m+1) x w.heap.size f (l.1.below c) c.size u) (λf c=>im (m+1) x w.heap.size f (l.1.below c) c.size) (λh i n f c=>?_) λf c=>⟨λe=>?_,λh i=>?_,λh i n=>?_⟩
 ·obtain⟨v,z⟩:=fJ.1 h;obtain⟨F,E,D⟩:=v;refine((j.later c).deliver y z x ⟨(l.1.below c).mono c.size,l.2⟩ i A t).mono ?_;rintro e w' ⟨rfl,r⟩;obtain⟨g,B,C⟩:=r.out;have e:s.inject p.room a (m+1) x=(s.deliver p.room 0 a (cn (m+1) x),0):=by
   unfold Sy.inject;rw[if_neg (by rw[h];decide),if_neg (by rw[i];decide),if_neg (by rw[n];decide)]
  rw[e];exact⟨rfl,rfl,g,B,((dH.later d c).un.trans C).mono (by omega) (by omega)⟩
 ·have e:s.inject p.room a (m+1) x=(s,4):=if_pos e;rw[e];exact⟨rfl,d,j.later c,o f c⟩
 ·have e:s.inject p.room a (m+1) x=(s,bq (m+1) x):=by
    unfold Sy.inject;rw[if_neg (by rw[h];decide),if_pos i]
  rw[e];exact⟨rfl,d,j.later c,o f c⟩
 ·have e:s.inject p.room a (m+1) x=(s,5):=by
    unfold Sy.inject;rw[if_neg (by rw[h];decide),if_neg (by rw[i];decide),if_pos n]
  rw[e];exact⟨rfl,d,j.later c,o f c⟩
end
section
variable {p:kJ} {s:Sy} {d:fS} {w:World}
theorem aX.takeW(h:aX p s d w){a b:Int}(X:I2 (a,b))(Z:d.wn<999999):ak 48 #[.pointer (some ⟨p.b,4,none⟩),ab a,ab b] w λe w'=> (s.ways (a,b)=[]->e=.returned (.tuple #[.agg #[ab 0,ab 0,ae ⟨#[]⟩,.slice none 0 0],ab 4])/\ai w w')/\ ∀t l,s.ways (a,b)=t::l->∃y:Tc,e=.returned (.tuple #[df 13 y,ab 0])/\cn 13 y=t/\bq 13 y=0/\aH 13 y=true/\∃z,aX p {s with ways:=gY s.ways (a,b) l} z w'/\dH 1 d z w w'/\In w'.heap.size w' 13 y/\bZ (λq=>¬1<=z.ow q) 13 y:=by
 have n:=h.wy.2.2.1 (a,b);refine(JJ (N:=12) h.wy.1 X Z (by have:=h.wy.2.2.2.1 (a,b);omega)).mono ?_;rintro e w' ⟨B,V⟩;refine⟨λA=>B ?_,λt l A=>?_⟩
 ·rw[A]at n;simpa using n
 ·rw[A]at n;obtain⟨y,i,v,P,Q⟩:∃y i,d.f (a,b)=y::i/\cn 13 y=t/\i.map (cn 13)=l:=by
   cases I:d.f (a,b)with
   | nil=>rw[I]at n;simp at n
   | cons y i=>
    rw[I,aI]at n;injection n with af ag;exact⟨y,i,rfl,af,ag⟩
  obtain⟨Y,sl,L,m,M⟩:=V y i v;have u:=h.wy.2.1;have r:∀b,d.ow b≠0->d.ow b=d.ow b:=λ_ _=>rfl;have J:∀b,d.ow b≠0->p.lo<=b/\b<w'.heap.size:=λb q=>⟨(h.low b q).1,aL (h.low b q).2 m.size⟩;have x:∀{t:Int},t≠ -1->t≠ -5->∀b,d.ow b=t->¬qX (zb p s d) d.wo d.sl b:=λB W b e g=>by
   rcases u b g with g|g
   ·rw[g,h.own]at e;exact W e.symm
   ·exact B (e.symm.trans g)
  have H:w'.heap[p.b]?=some (.cells (dL p s d) 70):=by
   have:=L.2.1.2;simpa [zb,dL]using this
  have K:∀C,∀g∈d.f C,bq 13 g=0/\aH 13 g=true/\In w'.heap.size w' 13 g/\bZ (λq=>d.ow q=-1/\¬qX (zb p s d) d.wo d.sl q) 13 g:=λC g o=>by
   obtain⟨D,E,F⟩:=h.wy.2.2.2.2 C g o;exact⟨D,E,eS m (λq am G=>am.2 G) F⟩
  obtain⟨y1,y2,ah,al⟩:=K (a,b) y (by rw[v];simp);obtain⟨R,S⟩:=h.evK m (x (by decide) (by decide)) r;refine⟨y,Y,P,y1,y2,{d with wn:=d.wn+1,f:=gY d.f (a,b) i,sl:=sl},⟨J,H,h.own,⟨h.pgK m (x (by decide) (by decide)) r,h.pg.2⟩,h.pmK m (λq T U g=>?_) r,h.keys,λk c q=>h.psK m (aj _) (x (by have:=(h.key q).1;omega) (by have:=(h.key q).1;omega)) r J q,⟨L,λq g=>u q (M q g),λk=>?_,λk=>?_,λk g o=>?_⟩,h.bdK m (x (by decide) (by decide)) r rfl (pQ H).2,R,h.evt.1,S⟩,⟨m.mono λq _ g=>?_,λ_ _=>rfl,rfl,fe _,aj _,fe _⟩,ah,al.mono λq g=>by show¬1<=d.ow q;rw[g.1];decide⟩
  ·rcases u q g with g|g
   ·exact U g
   ·rw[T]at g;cases g
  ·by_cases j:k=(a,b)
   ·subst j;show (gY d.f (a,b) i (a,b)).map (cn 13)=gY s.ways (a,b) l (a,b);rw[cF,cF,Q]
   ·show (gY d.f (a,b) i k).map (cn 13)=gY s.ways (a,b) l k;rw[bM _ _ j,bM _ _ j];exact h.wy.2.2.1 k
  ·by_cases j:k=(a,b)
   ·subst j;show (gY d.f (a,b) i (a,b)).length<=20;rw[cF];have:=h.wy.2.2.2.1 (a,b);rw[v]at this;simp at this;omega
   ·show (gY d.f (a,b) i k).length<=20;rw[bM _ _ j];exact h.wy.2.2.2.1 k
  ·have o:g∈gY d.f (a,b) i k:=o;have aa:g∈d.f k:=by
    by_cases j:k=(a,b)
    ·subst j;rw[cF]at o;rw[v];exact bH _ o
    ·rwa [bM _ _ j]at o
   obtain⟨D,E,F,ad⟩:=K k g aa;exact⟨D,E,F,ad.mono λq O=>⟨O.1,λG=>O.2 (M q G)⟩⟩
  ·rcases u q g with g|g
   ·rw[g,h.own];decide
   ·rw[g];decide
end
theorem r7(d:Nat)(a b:Int)(s i:Bool)(w:World)(p:Int->Int->ByteArray->Option Addr->Nat->Nat->World->Prop)(R:Int->World->Prop)(n:Hid (ak 48 #[.pointer (some ⟨d,4,none⟩),ab a,ab b] w λe w'=>(s=true->e=.returned (.tuple #[.agg #[ab 0,ab 0,ae ⟨#[]⟩,.slice none 0 0],ab 4])/\Hid (∀W,ai w' W->R 4 W))/\(s=false->∃y0 y1 y2 ya yl yc,e=.returned (.tuple #[.agg #[ab y0,ab y1,ae y2,.slice ya yl yc],ab 0])/\Hid (p y0 y1 y2 ya yl yc w'))))(k:Hid (∀y0 y1 y2 ya yl yc W c,p y0 y1 y2 ya yl yc W->ai W c->ak 49 #[.pointer (some ⟨d,0,none⟩),ab b] c λe w'=>e=.returned (.bool i)/\w'=c))(l:Hid (∀y0 y1 y2 ya yl yc W c,p y0 y1 y2 ya yl yc W->ai W c->(i=true->ak 50 #[.pointer (some ⟨d,0,none⟩),ab a,ab b,.agg #[ab y0,ab y1,ae y2,.slice ya yl yc]] c λe w'=>e=.returned (.tuple #[])/\Hid (R 0 w'))/\(i=false->ak 44 #[.pointer (some ⟨d,0,none⟩),ae ⟨#[108,111,115,116]⟩,ab a,ab b,.agg #[ab y0,ab y1,ae y2,.slice ya yl yc]] c λe w'=>e=.returned (.tuple #[])/\Hid (R 0 w')))):ak 27 #[.pointer (some ⟨d,0,none⟩),ab a,ab b] w λe w'=>∃v,e=.returned (ab v)/\Hid (R v w'):=by
 go_enter Tryz.func27,Tryz.ntmps27;go_wp2_with fail;refine n.out.mono ?_;rintro e f ⟨q,r⟩;cases s;rotate_left
 ·obtain⟨rfl,g⟩:=q rfl;clear q r n k l;go_wp2_with fail
  go_ret
  exact⟨4,rfl,g.out _ ((am _ _).alloc (aj _) _)⟩
 obtain⟨y0,y1,y2,ya,yl,yc,rfl,g⟩:=r rfl;clear q r n;have HB:Hid (∀o,ai f (f.alloc o)):=λo=>(am _ _).alloc (aj _) o;have x:Hid (∀o,(f.alloc o).heap[f.heap.size]?=some o):=λo=>az f o;go_wp2_with fail;refine(k.out _ _ _ _ _ _ _ _ g.out (HB.out _)).mono ?_;rintro e y ⟨rfl,t⟩;obtain rfl:=t.symm;clear t;have h:=ao (l.out _ _ _ _ _ _ _ _ g.out (HB.out (.cells #[ab y0,ab y1,ae y2,.slice ya yl yc] 30)));clear k l;cases i
 ·have m:=ao (h.out.2 rfl);clear h;go_wp2_with fail;refine m.out.mono ?_;rintro e u ⟨rfl,j⟩;go_wp2_with fail
  go_ret
  exact⟨0,rfl,j.out⟩
 ·have m:=ao (h.out.1 rfl);clear h;go_wp2_with fail;refine m.out.mono ?_;rintro e u ⟨rfl,j⟩;go_wp2_with fail
  go_ret
  exact⟨0,rfl,j.out⟩
section
variable {p:kJ} {s:Sy} {d:fS} {w:World}
theorem aX.arrive(z:aX p s d w){a b:Int}(A:I2 (a,b))(E:d.wn<999999)(Y:d.k<=47000)(W:d.es.length<=97000):ak 27 #[.pointer (some ⟨p.b,0,none⟩),ab a,ab b] w λe w'=>∃v,e=.returned (ab v)/\Hid (v=(s.arrive p.room a b).2/\∃c,aX p (s.arrive p.room a b).1 c w'/\fK 101 201 d c w w'):=by
 cases hw:s.ways (a,b)with
 | nil=>
  have e:s.arrive p.room a b=(s,4):=by unfold Sy.arrive;rw[hw]
  rw[e];refine r7 p.b a b true false w (λ_ _ _ _ _ _ _=>False) (λv w'=>v=4/\∃c,aX p s c w'/\fK 101 201 d c w w') ((z.takeW A E).mono λe w' j=>⟨λ_=>⟨(j.1 hw).1,λi g=>?_⟩,(λm=>by cases m)⟩) (λ_ _ _ _ _ _ _ _ m=>m.elim) λ_ _ _ _ _ _ _ _ m=>m.elim;have D:=(j.1 hw).2.trans (g.mono (j.1 hw).2.size);exact⟨rfl,d,z.later D,(dH.later d D).un.mono (aF _) (aF _)⟩
 | cons t l=>
  obtain⟨h,F⟩:∃h,h={s with ways:=gY s.ways (a,b) l}:=⟨_,rfl⟩;have e:s.arrive p.room a b=(if (h.get b).isSome then h.deliver p.room a b t else h.tell ny a b t,0):=by unfold Sy.arrive;rw[hw,F]
  rw[e];refine r7 p.b a b false (h.get b).isSome w (λy0 y1 y2 ya yl yc i=>∃f:Tc,(f.1=(y0,y1,y2)/\f.2.1=(ya,yc)/\f.2.2.length=yl)/\cn 13 f=t/\bq 13 f=0/\∃c,aX p h c i/\dH 1 d c w i/\In i.heap.size i 13 f/\bZ (λj=>¬1<=c.ow j) 13 f) (λv w'=>v=0/\∃c,aX p (if (h.get b).isSome then h.deliver p.room a b t else h.tell ny a b t) c w'/\fK 101 201 d c w w') ((z.takeW A E).mono λe w' j=>⟨(λm=>by cases m),λ_=>?_⟩) ?_ ?_
  ·obtain⟨f,N,O,P,ad,c,Q,R,S,T⟩:=j.2 t l hw;exact⟨f.1.1,f.1.2.1,f.1.2.2,f.2.1.1,f.2.2.length,f.2.1.2,N,f,⟨rfl,rfl,rfl⟩,O,P,c,by rw[F];exact Q,R,S,T⟩
  ·rintro y0 y1 y2 ya yl yc i I ⟨f,_,_,_,c,o,_⟩ g;exact(o.later g).isAlive b
  ·rintro y0 y1 y2 ya yl yc i I ⟨f,⟨B,C,K⟩,G,kc,c,o,r,H,M⟩ g;obtain⟨⟨ae,af,ag⟩,⟨ah,ai⟩,aj⟩:=f;simp only[ei]at B C;obtain⟨rfl,rfl,rfl⟩:=B;obtain⟨rfl,rfl⟩:=C;subst K;have X:=r.2.2.2.1;have Z:=r.2.2.1;refine⟨λq=>?_,λq=>?_⟩
   ·obtain⟨v,L⟩:=fJ.1 q;obtain⟨aa,V,U⟩:=v;refine((o.later g).deliver A.2 L _ ⟨(H.below g).mono g.size,M⟩ kc (by omega) (by omega)).mono ?_;rintro J w' ⟨rfl,u⟩;obtain⟨x,n,y⟩:=u.out;rw[G]at n;rw[if_pos q];exact⟨rfl,rfl,x,n,((r.un.trans (dH.later c g).un).trans y).mono (by omega) (by omega)⟩
   ·refine((o.later g).tell ny a b _ _ _ _ _ _ _ (jL ((H.below g).mono g.size) kc) (by omega)).mono ?_;rintro J w' ⟨rfl,u⟩;obtain⟨x,n,y⟩:=u.out.up (o.later g);rw[G]at n;rw[if_neg (by rw[q];decide)];exact⟨rfl,rfl,x,n,((r.un.trans (dH.later c g).un).trans y.un).mono (by omega) (by omega)⟩
end
end Go.Proofs.YtckamaoibonjcaaGreat
