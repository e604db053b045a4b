/- What is proved here: plain facts and contracts that the claimed theorem stands on. No condition but those that each names. -/
import Derived.Test.YtckamaoibonjcaaGreatG32
namespace Go.Proofs.YtckamaoibonjcaaGreat
open Go.RowKit
set_option maxRecDepth 100000
set_option maxHeartbeats 4000000
theorem Lo(a:Nat)(W:World):(binOp .eql 62 (.map (some a)) (.map none)).run Tryz.prog W=.ok (.bool false) W:=by kernel_rfl
theorem Ln(W:World):(binOp .eql 62 (.map none) (.map none)).run Tryz.prog W=.ok (.bool true) W:=by kernel_rfl
theorem Gm(b o d:Nat)(n:Option Nat)(a G c:Int)(w w1 w2:World)(y:Int->Int->ByteArray->Option Addr->Nat->Nat->World->Prop)(k R:World->Prop)(S:IntKind.i64.wrap (G+1)=c)(T:b<w.heap.size)(C:Hid (w.cell? ⟨b,3,none⟩=some (.map n)/\w.frozen? ⟨b,3,none⟩=false))(P:(n=none/\d=w.heap.size/\w1=(w.setCell ⟨b,3,none⟩ (.map (some d))).alloc (.map #[] 0))\/(n=some d/\w1=w))(p:Hid (w1.cell? ⟨b,2,none⟩=some (ab G)/\w1.frozen? ⟨b,2,none⟩=false))(A:w2=w1.setCell ⟨b,2,none⟩ (ab c))(j:Hid (∀W,aj w2 W->W.cell? ⟨b,2,none⟩=some (ab c)/\W.cell? ⟨b,3,none⟩=some (.map (some d))))(u:Hid (∀W,aj w2 W->∃f,(Instr.mapUpdate 62 (.map (some d)) (ab c) (zk o)).run Tryz.prog W=.ok () f/\(f.cell? ⟨b,2,none⟩=some (ab c)/\f.cell? ⟨b,3,none⟩=some (.map (some d)))/\Hid (k f)))(s:Hid (∀W g,k W->aj W g->g.cell? ⟨b,2,none⟩=some (ab c)))(I:Hid (∀W g,k W->aj W g->am 24 #[aF o] g λe w'=>∃y0 y1 y2 ya yl yc,e=.returned (.agg #[ab y0,ab y1,af y2,ae ya yl yc])/\Hid (aj g w'/\y y0 y1 y2 ya yl yc w')))(J:Hid (∀y0 y1 y2 ya yl yc W,y y0 y1 y2 ya yl yc W->am 44 #[aF b,af ⟨#[115,112,97,119,110]⟩,ab a,ab c,.agg #[ab y0,ab y1,af y2,ae ya yl yc]] W λe w'=>e=.returned (.tuple #[])/\Hid (R w'/\w'.cell? ⟨b,2,none⟩=some (ab c)))):am 40 #[aF b,ab a,aF o] w λe w'=>e=.returned (.tuple #[])/\Hid (R w'):=by
 obtain⟨L,O⟩:=C.out;have Q:= @run_makeMap Tryz.prog;have m:Hid (aj w2 w2.drew):=(ap _ _).drew;have h:Hid (∀W:World,aj W W.drew):=λW=>(ap _ _).drew;go_enter Tryz.func40,Tryz.ntmps40;rcases P with⟨rfl,D,i⟩|⟨rfl,i⟩
 case' inl=>
  have E:=Ln;go_upto_region 2 with fail;rw[<-D,<-i];clear D
 case' inr=>
  have E:=Lo d;go_upto_region 2 with fail;rw[<-i]
 all_goals
  clear L O i C E Q;obtain⟨K,N⟩:=p.out;go_upto_region 3 with fail;rw[<-A];clear A K N p;obtain⟨z,M⟩:=j.out _ m.out;obtain⟨f,F,B,l⟩:=u.out _ m.out;unfold zk at F;have t:=ao B;have r:=ao (j.out _ m.out);clear u j;go_region_held3 (λW=>W.cell? ⟨b,2,none⟩=some (ab c)/\W.cell? ⟨b,3,none⟩=some (.map (some d))) (first|exact r.out|exact t.out) (fail);clear F r B z M;have z:=t.out.1;go_upto_region 4 with fail
  go_region_held3 (λW=>W.cell? ⟨b,2,none⟩=some (ab c)) (first|exact s.out _ _ l.out (h.out _)|exact s.out _ _ l.out H.out|exact q.out.2) ((first
   | (go_at_call 24;refine(I.out _ _ l.out (h.out _)).mono ?_;rintro e U ⟨y0,y1,y2,ya,yl,yc,rfl,x⟩;have H:=ao ((h.out f).trans (x.out.1.mono (h.out f).size)))
   | (go_at_call 44;refine(J.out _ _ _ _ _ _ _ x.out.2).mono ?_;rintro e V ⟨rfl,q⟩)))
  go_wp2_with fail;exact dR (v:=.tuple #[]) (by simp[results]) rfl ⟨rfl,q.out.1⟩
section
variable {p:lB} {s:Sy} {d:gu} {w:World}
def My(M:Nat->Prop)(a:Nat)(d b:gu)(w w':World):Prop:=bq (λq=>d.ow q<0) w w'/\(∀q,q<w.heap.size->¬M q->b.ow q=d.ow q)/\(∀q,M q->1<=b.ow q)/\b.k=d.k/\b.es.length<=d.es.length+a/\b.wn<=d.wn+a/\b.bn<=d.bn+a
theorem oh{b:Type}(l:List (Int×b))(k j:Int)(v:b)(c:∀q∈l,q.1≠k):((l++ [(k,v)]).find? λq=>q.1==j)=if j=k then some (k,v)else l.find? λq=>q.1==j:=by
 rw[List.find?_append];by_cases a:j=k
 ·subst a;rw[if_pos rfl,oJ.2 λq d=>by simpa using c q d];simp
 ·rw[if_neg a];have:(k==j)=false:=by simpa using λe:k=j=>a e.symm
  simp[this]
def MW(d:gu)(M:Nat->Prop)[DecidablePred M](a:Nat)(k:Int)(q:Nat):Int:=if M q then k else if q=a then -5 else d.ow q
theorem bi.addG(e:bi p s d w){m c:Nat}{nm:ByteArray}{cs:Tc}{M:Nat->Prop}[DecidablePred M](B:P1 p.lo m nm p.room cs [] (d.k+201) M w)(A:∀q,M q->d.ow q=0)(aa:s.ps.length<12/\s.last<90){w':World}(f:bq (λq=>d.ow q=-5) w w')(P:d.ow c≠0->d.ow c=-5)(N:¬M c)(O:p.lo<=c/\c<w'.heap.size)(Q:c≠p.b)(o:w'.heap[p.b]?=some (.cells (dP p {s with last:=s.last+1} {d with po:=some c}) 70))(L:IM w' c (d.l++ [(s.last+1,m)])):bi p {s with last:=s.last+1,ps:=s.ps++ [(s.last+1,nm,cs,[])]} {d with ow:=MW d M c (s.last+1),po:=some c,l:=d.l++ [(s.last+1,m)]} w':=by
 obtain⟨y,J,z,X,Y,Z⟩:=e.keys;have i:∀b,d.ow b≠0->MW d M c (s.last+1) b=d.ow b:=λb h=>by
  unfold MW;rw[if_neg λa=>h (A b a)];by_cases g:b=c
  ·subst g;rw[if_pos rfl,P h]
  ·rw[if_neg g]
 have r:∀b,MW d M c (s.last+1) b≠0->p.lo<=b/\b<w'.heap.size:=λb h=>by
  unfold MW at h;split at h
  ·rename_i a;have:=P1.lie2 B b a;exact⟨this.1,aN this.2 f.size⟩
  ·split at h
   ·rename_i a;subst a;exact O
   ·exact⟨(e.low b h).1,aN (e.low b h).2 f.size⟩
 have t:∀{t:Int},t≠ -5->∀b,d.ow b=t->¬d.ow b=-5:=λT b g a=>T (g.symm.trans a);have n:∀q∈s.ps,q.1≠s.last+1:=λq j=>by have:=(z q j).2;omega
 have R:∀q∈d.l,q.1≠s.last+1:=λq j=>by
  have K:q.1∈s.ps.map (·.1):=by rw[<-y];exact ci.2 ⟨q,j,rfl⟩
  obtain⟨v,u,g⟩:=ci.1 K;rw[<-g];exact n v u
 obtain⟨y1,y2,W⟩:=e.wyK f (t (by decide)) i (q:=zm p {s with last:=s.last+1} {d with po:=some c}) rfl (pV o).1;obtain⟨H,I⟩:=e.evK f (t (by decide)) i;refine⟨r,o,(i p.b (by rw[e.own];decide)).trans e.own,⟨e.pgK f (t (by decide)) i,e.pg.2⟩,ai ⟨c,rfl,(if_neg N).trans (if_pos rfl),Q,L⟩,⟨by simp[y],?_,λq j=>?_,by show 0<=s.last+1;omega,by show s.last+1<=90;omega,by simp;omega⟩,λk b q=>?_,⟨y1,y2,e.wy.2.2.1,e.wy.2.2.2.1,W⟩,e.bdK f (t (by decide)) i rfl (pV o).2,H,e.evt.1,I⟩
 ·simp only[fJ,aK,bX];refine eI.2 ⟨J,by simp,λab U ad V=>?_⟩;obtain⟨v,u,rfl⟩:=ci.1 U;rw[de.1 V];exact n v u
 ·show 1<=q.1/\q.1<=s.last+1;rcases cR.1 j with a|a
  ·have:=z q a;omega
  ·rw[de.1 a];show 1<=s.last+1/\s.last+1<=s.last+1;omega
 ·have q:cQ (d.l++ [(s.last+1,m)]) k=some b:=q;unfold cQ at q;rw[oh _ _ _ _ R]at q;by_cases g:k=s.last+1
  ·subst g;rw[if_pos rfl]at q;obtain rfl:m=b:=by simpa using q
   refine⟨nm,cs,[],?_,(B.kept (S:=λq=>d.ow q=-5) ⟨f.os,f.tape,f.output,f.size,f.block⟩ λb a=>by rw[A b a];decide).mono (λb a=>if_pos a) (ak _) λb a=>r b (by have a:MW d M c (s.last+1) b=s.last+1:=a;rw[a];omega),aE _⟩;unfold Sy.get;simp only;rw[oh _ _ _ _ n,if_pos rfl];rfl
  ·rw[if_neg g]at q;have C:cQ d.l k=some b:=q;have:=(e.key C).1;obtain⟨D,E,F,x,G⟩:=e.psK f (ak _) (t (by omega)) i r C;refine⟨D,E,F,?_,G⟩;unfold Sy.get at x ⊢;simp only;rw[oh _ _ _ _ n,if_neg g];exact x
open Classical in
theorem bi.add(n:bi p s d w)(a:Int){z:Nat}{nm:ByteArray}{cs:Tc}{M:Nat->Prop}(I:P1 p.lo z nm p.room cs [] (d.k+201) M w)(Y:∀q,M q->d.ow q=0)(aX:s.ps.length<12/\s.last<90)(af:d.k<=47000)(be:d.es.length<=99000):am 40 #[aF p.b,ab a,aF z] w λe w'=>e=.returned (.tuple #[])/\Hid (∃C,bi p (s.add a nm cs) C w'/\My M 1 d C w w'):=by
 obtain⟨aW,ao⟩:=n.lo;have N:=n.box;obtain⟨a9,ba,bb,aA⟩:=n.cells;obtain⟨_,_,aK,bc,bd,_⟩:=n.keys;have ae:∀{h:World}{cs:Array Value}{o:Nat},h.heap[p.b]?=some (.cells cs 70)->h.frozen? ⟨p.b,o,none⟩=false:=λe=>by simp[World.frozen?,e]
 obtain⟨c,m,aY,J,aL,aS,O,aO,P,an⟩:∃c m,((d.po=none/\c=w.heap.size/\m=(w.setCell ⟨p.b,3,none⟩ (.map (some c))).alloc (.map #[] 0))\/(d.po=some c/\m=w))/\m.heap[p.b]?=some (.cells (dP p s {d with po:=some c}) 70)/\IM m c d.l/\bq (λq=>d.ow q=-5) w m/\(c<w.heap.size->d.ow c=-5)/\¬M c/\c≠p.b/\p.lo<=c/\c<m.heap.size:=by
  rcases n.pm with⟨A,u⟩|⟨c,A,u,H,aH⟩
  ·have aQ:(w.setCell ⟨p.b,3,none⟩ (.map (some w.heap.size))).heap[p.b]?=some (.cells (dP p s {d with po:=some w.heap.size}) 70):=by
     simp[World.setCell,bG,N,dP]
   have R:(w.setCell ⟨p.b,3,none⟩ (.map (some w.heap.size))).heap.size=w.heap.size:=by simp[World.setCell]
   have af:bq (λq=>d.ow q=-5) w ((w.setCell ⟨p.b,3,none⟩ (.map (some w.heap.size))).alloc (.map #[] 0)):=((bz w p.b 3 _).mono λq _ e=>by rw[e];exact n.own).trans (aI ((ap _ _).alloc (ak _) _) λ_=>False) λ_ _ e=>e.elim;refine⟨w.heap.size,_,ah ⟨A,rfl,rfl⟩,(heap_alloc_old _ _ (by rw[R];exact ao)).trans aQ,?_,af,λg=>by omega,λg=>?_,by omega,aW,?_⟩
   ·rw[u];have:=vt.new (f:=zk) (w.setCell ⟨p.b,3,none⟩ (.map (some w.heap.size)));rw[R]at this;exact this
   ·have:=(P1.lie2 I _ g).2;omega
   ·have:=aB (w.setCell ⟨p.b,3,none⟩ (.map (some w.heap.size))) (.map #[] 0);rw[R]at this;exact(aD.1 this).1
  ·refine⟨c,w,ai ⟨A,rfl⟩,?_,aH,bq.refl _ _,λ_=>u,λg=>?_,H,n.low c (by rw[u];decide)⟩
   ·rw[N];unfold dP;rw[A]
   ·have:=Y c g;rw[u]at this;cases this
 obtain⟨y,F⟩:∃y,y=m.setCell ⟨p.b,2,none⟩ (ab (s.last+1)):=⟨_,rfl⟩;have K:y.heap[p.b]?=some (.cells (dP p {s with last:=s.last+1} {d with po:=some c}) 70):=by
  rw[F];simp[World.setCell,bG,J,dP]
 have bh:y.heap.size=m.heap.size:=by rw[F];simp[World.setCell]
 have aj:bq (λq=>q=p.b) m y:=by rw[F];exact bz m p.b 2 _
 have aT:bq (λq=>d.ow q=-5) w y:=aS.trans aj λq _ e=>by rw[e];exact n.own
 have aM:IM y c d.l:=aL.kept (aj.block c an.2 P);obtain⟨B,E⟩:∃B:Sy,B={s with last:=s.last+1,ps:=s.ps++ [(s.last+1,nm,cs,[])]}:=⟨_,rfl⟩;obtain⟨t,v⟩:∃t:gu,t={d with ow:=MW d M c (s.last+1),po:=some c,l:=d.l++ [(s.last+1,z)]}:=⟨_,rfl⟩;have Q:cQ d.l (s.last+1)=none:=by
  cases e:cQ d.l (s.last+1)with
  | none=>rfl
  | some b=>have:=(n.key e).2;omega
 have aR:cQ t.l (s.last+1)=some z:=by
  rw[v];show cQ (d.l++ [(s.last+1,z)]) (s.last+1)=_;unfold cQ at Q ⊢;rw[List.find?_append,Option.map_eq_none_iff.1 Q];simp
 have aV:B.last=s.last+1:=by rw[E]
 refine Gm p.b z c d.po a s.last (s.last+1) w m y (λy0 y1 y2 ya yl yc h=>∃i:Tc,(i.1=(y0,y1,y2)/\i.2.1=(ya,yc)/\i.2.2.length=yl)/\In h.heap.size h 13 i/\bu 13 i=0/\cn 13 i=cs/\bi p B t h/\bq (λq=>d.ow q=-5) w h) (λh=>bi p B t h/\bq (λq=>d.ow q=-5) w h) (λw'=>∃C,bi p (s.add a nm cs) C w'/\My M 1 d C w w') (by rw[IntKind.wrap];simp[IntKind.bits,IntKind.signed];omega) ao ⟨aA,ae N⟩ aY ⟨ag J 2,ae J⟩ F (λh j=>?_) (λh j=>?_) (λh az D j=>?_) (λh az D j=>?_) (λy0 y1 y2 ya yl yc h aP=>?_)
 ·have aa:=fu j K;exact⟨ag aa 2,ag aa 3⟩
 ·obtain⟨T,a3,a4,au,bk⟩:=(vt.put (aM.kept (j.block c (by omega))) Tryz.underlying62 Q z);have L:T.heap[p.b]?=_:=(au.block p.b (aN (aD.1 K).1 j.size) P.symm).trans (fu j K);have al:bq (λq=>d.ow q=-5) w T:=by
   have aU:bq (λq=>d.ow q=-5) w h:=aT.trans (aI j λ_=>False) λ_ _ e=>e.elim;exact aU.trans au λq r e=>by rw[e]at r ⊢;exact O r
  refine⟨T,a3,⟨ag L 2,ag L 3⟩,?_,al⟩;rw[E,v];exact n.addG I Y aX al (λg=>O (n.low _ g).2) aO ⟨an.1,by have:=j.size;omega⟩ P L a4
 ·have:=(D.1.later j).cells.2.2.1;rw[aV]at this;exact this
 ·have Z:=D.1.later j;obtain⟨a2,aE,aC,x,S,bj⟩:=Z.ps _ _ aR;have e:B.get (s.last+1)=some (nm,cs,[]):=by
   rw[E];unfold Sy.get;simp only;rw[oh _ _ _ _ λq r=>by have:=(aK q r).2;omega,if_pos rfl];rfl
  rw[e]at x;obtain⟨rfl,rfl,rfl⟩:nm=a2/\cs=aE/\[]=aC:=by
   injection x with x;injection x with A u;injection u with u H;exact⟨A,u,H⟩
  have bg:t.k=d.k:=by rw[v]
  refine(S.state (by omega)).mono ?_;rintro e w' ⟨i,rfl,G⟩;obtain⟨y1,y2,bl,a7,a8⟩:=G.out;exact⟨i.1.1,i.1.2.1,i.1.2.2,i.2.1.1,i.2.2.length,i.2.1.2,rfl,y1,i,⟨rfl,rfl,rfl⟩,y2,a7,a8,Z.later y1,(D.2.trans (aI j λ_=>False) λ_ _ e=>e.elim).trans (aI y1 λ_=>False) λ_ _ e=>e.elim⟩
 ·obtain⟨i,⟨U,V,aJ⟩,aZ,a0,a1,aq,ar⟩:=aP;obtain⟨⟨bm,bn,bo⟩,⟨bp,br⟩,bs⟩:=i;simp only[fM]at U V;obtain⟨rfl,rfl,rfl⟩:=U;obtain⟨rfl,rfl⟩:=V;subst aJ;have ad:t.es=d.es:=by rw[v]
  refine(aq.tell iT a (s.last+1) _ _ _ _ _ _ _ (jU aZ a0) (by rw[ad];omega)).mono ?_;rintro e w' ⟨rfl,G⟩;obtain⟨aG,x,S⟩:=G.out.up aq;rw[a1,E]at x;refine⟨rfl,⟨aG,x,?_⟩,?_⟩
  ·obtain⟨a5,av,a6,aw,ax,ay⟩:=S;have W:∀q,q<w.heap.size->¬M q->t.ow q=d.ow q:=λq r g=>by
    rw[v];refine(if_neg g).trans ?_;by_cases e:q=c
    ·rw[if_pos e,e];exact(O (e▸r)).symm
    ·exact if_neg e
   have X:∀q,M q->t.ow q=s.last+1:=λq g=>by
    rw[v];exact if_pos g
   have bf:=ar.size;refine⟨(ar.mono λq _ e=>by rw[e];decide).trans a5 λq r e=>?_,λq r g=>(av q (by omega)).trans (W q r g),λq g=>?_,by rw[a6,v],by rw[ad]at aw;exact aw,by rw[v]at ax;exact ax,by rw[v]at ay;exact ay⟩
   ·by_cases g:M q
    ·rw[X q g]at e;omega
    ·rw[W q r g]at e;exact e
   ·have:=(P1.lie2 I q g).2;rw[av q (by omega),X q g];omega
  ·have:=x.cells.2.2.1;exact this
end
theorem Dp(c:Nat)(nm:ByteArray)(f g:Int)(h:ByteArray)(xa:Option Addr)(i xc:Nat)(room ne t:Int)(may o:Bool)(w:World)(C:Nat->World->Prop)(R:Int->Int->World->Prop)(ai:c<w.heap.size)(T:Hid (w.cell? ⟨c,1,none⟩=some (ab room)))(J:Hid (∀W,aj w W->am 37 #[aF c,ab 1] W λe w'=>e=.returned (.bool may)/\w'=W))(z:Hid (∀W,aj w W->am 38 #[aF c,af nm] W λe w'=>e=.returned (.bool o)/\aj W w'))(r:Hid (∀W,aj w W->am 39 #[af nm,.agg #[ab f,ab g,af h,ae xa i xc],ab room] W λe w'=>∃p:Option Addr,e=.returned (.tuple #[.pointer p,ab ne])/\Hid (aj W w'/\(ne=0->∃b,p=some ⟨b,0,none⟩/\C b w'))))(l:Hid (∀b W,(may && o)=true->ne=0->C b W->am 40 #[aF c,ab 0,aF b] W λe w'=>e=.returned (.tuple #[])/\Hid (R t 0 w'/\w'.cell? ⟨c,2,none⟩=some (ab t))))(j:Hid (∀W,aj w W->(may=false->R 0 2 W)/\((may && !o)=true->R 0 4 W)/\((may && o)=true->ne≠0->R 0 ne W))):am 19 #[aF c,af nm,.agg #[ab f,ab g,af h,ae xa i xc]] w λe w'=>∃v Q,e=.returned (.tuple #[ab v,ab Q])/\Hid (R v Q w'):=by
 go_enter Tryz.func19,Tryz.ntmps19;go_upto_region 1 with fail;generalize O:w.alloc _=G;have u:Hid (aj w G/\G.heap[w.heap.size]?=some (.cells #[ab f,ab g,af h,ae xa i xc] 30)):=by
  rw[<-O];exact⟨(ap _ _).alloc (ak _) _,aB _ _⟩
 clear O;obtain⟨a,E⟩:∃a,a=w.heap.size:=⟨_,rfl⟩;rw[<-E];have K:Hid (G.heap[a]?=some (.cells #[ab f,ab g,af h,ae xa i xc] 30)):=by rw[E];exact u.out.2
 have HB:=ao u.out.1;clear E u;go_wp2_with fail;refine(J.out _ HB.out).mono ?_;rintro e ar ⟨rfl,P⟩;obtain rfl:=P.symm;clear P J;cases may
 ·have d:=ao ((j.out _ HB.out).1 rfl);clear l j r z;go_wp2_with fail;exact av (v:=.tuple #[ab 0,ab 2]) (by simp[results,Tryz.results19,go_sem]) rfl ⟨0,2,rfl,d.out⟩
 go_wp2_with fail;refine(z.out _ HB.out).mono ?_;rintro e H ⟨rfl,D⟩;have m:=ao (HB.out.trans (D.mono HB.out.size));have A:=ao (fu D K.out);clear z K HB D;cases o
 ·have d:=ao ((j.out _ m.out).2.1 rfl);clear l j r;go_wp2_with fail;exact av (v:=.tuple #[ab 0,ab 4]) (by simp[results,Tryz.results19,go_sem]) rfl ⟨0,4,rfl,d.out⟩
 have y:Hid (aj H H.drew):=(ap _ _).drew;have n:=ao (m.out.trans (y.out.mono m.out.size));have B:=ao (fu y.out A.out);have q:Hid (∀W:World,aj w W->W.heap[a]?=some (.cells #[ab f,ab g,af h,ae xa i xc] 30)->W.cell? ⟨c,1,none⟩=some (ab room)/\W.cell? ⟨a,0,none⟩=some (ab f)/\W.cell? ⟨a,1,none⟩=some (ab g)/\W.cell? ⟨a,2,none⟩=some (af h)/\W.cell? ⟨a,3,none⟩=some (ae xa i xc)):=λW ah s=>⟨(ah.cell (p:=⟨c,1,none⟩) ai).trans T.out,ag s 0,ag s 1,ag s 2,ag s 3⟩;obtain⟨Z,V,X,N,Y⟩:=q.out H m.out A.out;go_upto_region 5 with fail
 go_region_held3 (λW=>W.cell? ⟨c,1,none⟩=some (ab room)/\W.cell? ⟨a,0,none⟩=some (ab f)/\W.cell? ⟨a,1,none⟩=some (ab g)/\W.cell? ⟨a,2,none⟩=some (af h)/\W.cell? ⟨a,3,none⟩=some (ae xa i xc))
  (first|exact q.out _ n.out B.out|exact q.out _ x.out L.out) ((first
   | (go_at_call 39;refine(r.out _ n.out).mono ?_;rintro e an ⟨al,rfl,k⟩;have L:=ao (fu k.out.1 B.out);have x:=ao (n.out.trans (k.out.1.mono n.out.size)))))
 have d:=ao (j.out _ x.out);clear Z V X N Y q B n y A m j r L x;by_cases F:ne=0
 ·subst F;obtain⟨b,rfl,M⟩:∃b,al=some ⟨b,0,none⟩/\Hid (C b an):=by
   obtain⟨b,aa,ad⟩:=k.out.2 rfl;exact⟨b,aa,ad⟩
  have S:=ao (l.out _ _ rfl rfl M.out);clear l M k d;go_wp2_with fail;refine S.out.mono ?_;rintro e au ⟨rfl,I⟩;have N:=I.out.2;go_wp2_with fail;exact av (v:=.tuple #[ab t,ab 0]) (by simp[results,Tryz.results19,go_sem]) rfl ⟨t,0,rfl,I.out.1⟩
 ·have U:=ao (d.out.2.2 rfl F);have aq:(ne==0)=false:=by simpa using F
  clear l k d;go_wp2_with fail;exact av (v:=.tuple #[ab 0,ab ne]) (by simp[results,Tryz.results19,go_sem]) rfl ⟨0,ne,rfl,U.out⟩
section
variable {p:lB} {s:Sy} {d:gu} {w:World}
theorem IV{n:Nat}(a:s.may n=true):s.ps.length+n<=12/\s.last+n<=90:=by
 unfold Sy.may at a;simp only[aA,bU]at a;omega
theorem bi.start(j:bi p s d w)(nm:ByteArray)(O:nm.size<=9223372036854775807){m:Nat}(x:Tm (m+1))(P:In w.heap.size w (m+1) x)(K:(aw (m+1) x).length<=2097152)(M:d.k<=47000)(J:d.es.length<=99000):am 19 #[aF p.b,af nm,dj (m+1) x] w λe w'=>∃v r,e=.returned (.tuple #[ab v,ab r])/\Hid ((r=(s.start p.n p.prog p.room nm (m+1) x).2/\(r=0->v=s.last+1))/\∃i,bi p (s.start p.n p.prog p.room nm (m+1) x).1 i w'/\fO 1 0 d i w w'):=by
 obtain⟨q,f⟩:∃q,q=s.start p.n p.prog p.room nm (m+1) x:=⟨_,rfl⟩;rw[<-f];unfold Sy.start at f;have B:∀a,aj w a->q.1=s->∃i,bi p q.1 i a/\fO 1 0 d i w a:=λa c e=>⟨d,by rw[e];exact j.later c,(dL.later d c).un.mono (aE _) (ak _)⟩;refine Dp p.b nm x.1.1 x.1.2.1 x.1.2.2 x.2.1.1 x.2.2.length x.2.1.2 p.room (fT (m+1) x p.room nm) (s.last+1) (s.may 1) (kJ p.n p.prog nm) w (λy a=>∃u,aj w u/\aj u a/\P1 p.lo y nm p.room (cn (m+1) x) [] (d.k+201) (λb=>u.heap.size<=b/\b<a.heap.size) a) (λv r w'=>(r=q.2/\(r=0->v=s.last+1))/\∃i,bi p q.1 i w'/\fO 1 0 d i w w') j.lo.2 j.cells.2.1 (λa c=>(j.later c).mayHave 1 (by decide)) (λa c=>(j.later c).knows nm) (λa c=>?_) (λy a l t L=>?_) λa c=>⟨λe=>?_,λe=>?_,λe t=>?_⟩
 ·refine(P1.new m x p.room nm a O ((P.below c).mono c.size) K).mono ?_;rintro e w' ⟨g,rfl,z⟩;obtain⟨o,E,C⟩:=z.out;refine⟨g,rfl,o,λe=>?_⟩;obtain⟨y,l,t,V,G⟩:=C e;have:=j.lo.1;have:=c.size;exact⟨y,l,a,c,o,G.mono (λb h=>h) (by omega) λb h=>⟨by omega,h.2⟩⟩
 ·simp only[aA]at l;rw[if_neg (by rw[l.1];decide),if_neg (by rw[l.2];decide),if_neg (by rw[t];decide)]at f;obtain⟨u,o,E,C⟩:=L;have A:=o.trans (E.mono o.size);have I:=j.later A;have Z:=o.size;have W:=IV l.1;refine(I.add 0 C (λg h=>?_) (by omega) M J).mono ?_
  ·have:=j.low g;by_cases F:d.ow g=0
   ·exact F
   ·have:=(this F).2;omega
  ·rintro e w' ⟨rfl,z⟩;obtain⟨i,D,H⟩:=z.out;refine⟨rfl,⟨⟨by rw[f],λ_=>rfl⟩,i,by rw[f];exact D,?_⟩,D.cells.2.2.1⟩;obtain⟨Q,R,aa,S,U⟩:=H;have N:bq (λg=>d.ow g≠0) w a:=aI A _;have Y:=A.size;exact⟨N.trans (Q.mono (T:=λg=>d.ow g≠0) λg _ e=>by omega) λg _ e=>e,λg X=>R g (by omega) λh=>by omega,dt S,U⟩
 ·rw[if_pos e]at f;exact⟨⟨by rw[f],(λh=>by cases h)⟩,B a c (by rw[f])⟩
 ·simp only[aA,oF]at e;rw[if_neg (by rw[e.1];decide),if_pos e.2]at f;exact⟨⟨by rw[f],(λh=>by cases h)⟩,B a c (by rw[f])⟩
 ·simp only[aA]at e;rw[if_neg (by rw[e.1];decide),if_neg (by rw[e.2];decide),if_pos t]at f;exact⟨⟨by rw[f],λh=>absurd h t⟩,B a c (by rw[f])⟩
end
theorem MR:(Tryz.prog.info? 60).map (λi=>(i.zero,i.size,i.bytes))=some (some (.pointer none),1,8):=by kernel_rfl
theorem FK(m:Nat)(pa:Option Addr)(pl pc:Nat)(may:Bool)(room:Int)(w:World)(aw u x:Nat->Int)(nm y:Nat->ByteArray)(xa:Nat->Option Addr)(z xc:Nat->Nat)(l:Nat->Bool)(ne:Nat->Int)(r:Nat->List Nat->Value->World->Prop)(N:Nat->Nat->List Nat->Value->World->Prop)(R:Value->Bool->World->Prop)(bL:pl<=1000)(bF:m<w.heap.size)(aQ:Hid (w.cell? ⟨m,1,none⟩=some (ab room)))(V:Hid (∀j,j<pl->∃g,pa=some ⟨g,0,none⟩/\g<w.heap.size/\Hid (w.cell? ⟨g,j*6,none⟩=some (ab (aw j))/\w.cell? ⟨g,j*6+1,none⟩=some (af (nm j))/\w.cell? ⟨g,j*6+2,none⟩=some (ab (u j))/\w.cell? ⟨g,j*6+3,none⟩=some (ab (x j))/\w.cell? ⟨g,j*6+4,none⟩=some (af (y j))/\w.cell? ⟨g,j*6+5,none⟩=some (ae (xa j) (z j) (xc j)))))(aT:Hid (am 37 #[aF m,ab pl] w λe w'=>e=.returned (.bool may)/\w'=w))(Y:Hid (∀j W,j<pl->aj w W->am 38 #[aF m,af (nm j)] W λe w'=>e=.returned (.bool (l j))/\aj W w'))(Z:Hid (∀j d v W,j<pl->l j=true->aj w W->r j d v W->am 39 #[af (nm j),.agg #[ab (u j),ab (x j),af (y j),ae (xa j) (z j) (xc j)],ab room] W λe w'=>∃p:Option Addr,e=.returned (.tuple #[.pointer p,ab (ne j)])/\Hid (aj W w'/\(ne j=0->∃k,p=some ⟨k,0,none⟩/\N j k d v w'))))(an:Hid (r 0 [] (ae none 0 0) w))(q:Hid (∀j d v W D,r j d v W->aj W D->r j d v D))(M:Hid (∀j k d a c g bo W aH D,j<pl->N j k d (ae a j c) W->aj W aH->aH.grownBy D (Value.slice a j c).ownBlock->((Value.slice a j c).ownBlock=some g\/g=aH.heap.size)->g<D.heap.size->r (j+1) (d++ [k]) (ae (some ⟨g,0,none⟩) (j+1) bo) D))(K:Hid (∀W,aj w W->(may=false\/∃j,j<pl/\(l j=false\/ne j≠0))->R (ae none 0 0) false W))(ad:Hid (∀W d a c,aj w W->may=true->(∀j,j<pl->l j=true/\ne j=0)->d.length=pl->W.ownsRow w.heap.size 60 1 (ae a pl c) pl (d.map zk)->r pl d (ae a pl c) W->R (ae a pl c) true W)):am 45 #[aF m,ae pa pl pc] w λe w'=>∃v b,e=.returned (.tuple #[v,.bool b])/\Hid (R v b w'):=by
 obtain⟨bG,a8,bb,bc,bd⟩:=bS MR;have X:=ao (⟨a8,bb,bc,bd⟩:_/\_/\_/\_);clear a8 bb bc bd;go_enter Tryz.func45,Tryz.ntmps45;go_wp2_with fail;refine aT.out.mono ?_;rintro e bP ⟨rfl,be⟩;obtain rfl:=be.symm;clear be aT;cases may
 ·have n:=ao (K.out _ (ap _ _) (ah rfl));clear K ad M an q Z Y V;go_wp2_with fail;exact av (v:=.tuple #[ae none 0 0,.bool false]) (by simp[results,Tryz.results45,go_sem]) rfl ⟨_,_,rfl,n.out⟩
 go_wp2_with fail;go_loopw [6,18] (λo i wr=>∃(j:Nat)(a:Option Addr)(c:Nat),j<=pl/\i=ab j/\o=ae a j c/\Hid (∃d,d.length=j/\wr.ownsRow w.heap.size 60 1 (ae a j c) j (d.map zk)/\r j d (ae a j c) wr/\aj w wr/\∀i,i<j->l i=true/\ne i=0)) (λ_ i _=>pl-(intOf i).toNat)
 case atStart=>exact⟨0,none,0,aE _,rfl,rfl,[],rfl,en _ _ _ _,an.out,ap _ _,λi h=>by omega⟩
 case round=>
 obtain⟨j,a,c,bK,rfl,rfl,aa⟩:=hrel;by_cases Q:j<pl
 ·obtain⟨g,rfl,bE,aR⟩:=V.out j Q;obtain⟨d,P,S,U,E,T⟩:=aa.out;have aY:=ao S;have a2:=ao U;have HB:=ao E;have aX:=ao T;have bD:=ao P;have s:∀{f:Nat}{v:Value},w.cell? ⟨g,f,none⟩=some v->wr.cell? ⟨g,f,none⟩=some v:=λ{f v} h=>(E.cell (p:=⟨g,f,none⟩) bE).trans h;obtain⟨a3,ar,au,a4,a5,a6⟩:=aR.out;have bt:=s a3;have bu:=s ar;have bv:=s au;have bw:=s a4;have bx:=s a5;have bz:=s a6;have bN:(0:Int)<=(j:Int):=by omega
  have bO:(j:Int)<(pl:Int):=by omega
  clear s a3 ar au a4 a5 a6 aR V S U E T P aa;go_upto_region 7 with fail;generalize bg:wr.alloc _=ax;have F:Hid (aj wr ax/\ax.heap[wr.heap.size]?=some (.cells #[ab (aw j),af (nm j),ab (u j),ab (x j),af (y j),ae (xa j) (z j) (xc j)] 159)):=by
   rw[<-bg];exact⟨(ap _ _).alloc (ak _) _,aB _ _⟩
  clear bg bt bu bv bw bx bz;obtain⟨f,aM⟩:∃f,f=wr.heap.size:=⟨_,rfl⟩;rw[<-aM];have aC:Hid (ax.heap[f]?=some (.cells #[ab (aw j),af (nm j),ab (u j),ab (x j),af (y j),ae (xa j) (z j) (xc j)] 159)):=by rw[aM];exact F.out.2
  have G:=ao (HB.out.trans (F.out.1.mono HB.out.size));have a0:=ao (q.out _ _ _ _ _ a2.out F.out.1);have aU:=ao (bf aY.out (aI F.out.1 λ_=>False) λ_ _ h=>h);clear aM F aY a2 HB;have C:Hid (∀W:World,aj w W->W.heap[f]?=some (.cells #[ab (aw j),af (nm j),ab (u j),ab (x j),af (y j),ae (xa j) (z j) (xc j)] 159)->W.cell? ⟨m,1,none⟩=some (ab room)/\W.cell? ⟨f,1,none⟩=some (af (nm j))/\W.cell? ⟨f,2,none⟩=some (ab (u j))/\W.cell? ⟨f,3,none⟩=some (ab (x j))/\W.cell? ⟨f,4,none⟩=some (af (y j))/\W.cell? ⟨f,5,none⟩=some (ae (xa j) (z j) (xc j))):=λW aK h=>⟨(aK.cell (p:=⟨m,1,none⟩) bF).trans aQ.out,ag h 1,ag h 2,ag h 3,ag h 4,ag h 5⟩;have aJ:=(C.out ax G.out aC.out).2.1;have aS:=ao (λW=>Y.out j W Q);have ay:=ao (λd v W=>Z.out j d v W Q);have L:=ao (λW aK e=>K.out W aK (ai ⟨j,Q,e⟩));have aA:Hid (l j=true->ne j=0->∀i,i<j+1->l i=true/\ne i=0):=λbB bC i bJ=>by
   by_cases e:i=j
   ·subst e;exact⟨bB,bC⟩
   ·exact aX.out i (by omega)
  clear Y Z K ad aQ aX an;generalize l j=bH at*;generalize ne j=bh at*;go_wp2_with fail;refine(aS.out _ G.out).mono ?_;rintro e aO ⟨rfl,O⟩;have B:=ao (G.out.trans (O.mono G.out.size));have al:=ao (fu O aC.out);have aG:=ao (q.out _ _ _ _ _ a0.out O);have az:=ao (bf aU.out (aI O λ_=>False) λ_ _ h=>h);clear aS G aC a0 aU O aJ;cases bH
  ·have n:=ao (L.out _ B.out (ah rfl));clear L ay C aG az al B M q aA;go_wp2_with fail;exact av (v:=.tuple #[ae none 0 0,.bool false]) (by simp[results,Tryz.results45,go_sem]) rfl ⟨_,_,rfl,n.out⟩
  have J:Hid (aj aO aO.drew):=(ap _ _).drew;have I:=ao (B.out.trans (J.out.mono B.out.size));have aD:=ao (fu J.out al.out);have a1:=ao (q.out _ _ _ _ _ aG.out J.out);have aW:=ao (bf az.out (aI J.out λ_=>False) λ_ _ h=>h);obtain⟨bs,aJ,bp,bq,br,aq⟩:=C.out aO B.out al.out;clear az aG;go_upto_region 9 with fail
  go_region_held3 (λW=>W.cell? ⟨m,1,none⟩=some (ab room)/\W.cell? ⟨f,1,none⟩=some (af (nm j))/\W.cell? ⟨f,2,none⟩=some (ab (u j))/\W.cell? ⟨f,3,none⟩=some (ab (x j))/\W.cell? ⟨f,4,none⟩=some (af (y j))/\W.cell? ⟨f,5,none⟩=some (ae (xa j) (z j) (xc j)))
   (first|exact C.out _ I.out aD.out|exact C.out _ H.out aZ.out) ((first
    | (go_at_call 39;refine(ay.out _ _ _ (by first|rfl|trivial) I.out a1.out).mono ?_;rintro e aP ⟨bI,rfl,A⟩;have aZ:=ao (fu A.out.1 aD.out);have H:=ao (I.out.trans (A.out.1.mono I.out.size));have aV:=ao (bf aW.out (aI A.out.1 λ_=>False) λ_ _ h=>h))))
  clear bs aJ bp bq br aq C aD I J al B ay aZ a1 aW;by_cases aN:bh=0
  ·subst aN;obtain⟨k,rfl,bm⟩:∃k,bI=some ⟨k,0,none⟩/\Hid (N j k d (ae a j c) aP):=by
    obtain⟨k,ar,au⟩:=A.out.2 rfl;exact⟨k,ar,au⟩
   have bl:=ao H.out.size;clear L A
   go_wp2_with (first
    | (at_builtin;refine wpList_append_lies _ rfl _ _ 116 rfl w.heap.size 60 bG _ 1 8 Tryz.underlying116 X.out.1 X.out.2.1 X.out.2.2.1 X.out.2.2.2 rfl (by decide) (ae a j c) j (d.map zk) rfl (aV.out.alloc _) ⟨aP.heap.size,0,none⟩ 1 1 [aF k] rfl rfl (World.news_of_block (cs:= #[aF k]) (t:=60) (fr:=(0,0)) (aB aP _)) (by simp[Value.oneCell']) (by decide) (by unfold maxLen;omega) (by omega) (by have:=bl.out;simp;omega) _ rfl ?_;intro bA aq bQ ba aL a7 a9;have bk:=ao ba;have bn:=ao (M.out _ _ _ _ _ _ aq _ _ _ Q bm.out ((ap _ _).alloc (ak _) _) aL a7 a9);have bi:=ao (H.out.trans (jK aV.out aL H.out.size));clear ba aL a7 a9))
   go_roundw
   case rel=>exact⟨j+1,some ⟨bA,0,none⟩,aq,by omega,by go_num,rfl,d++ [k],by rw[bj,bD.out];rfl,by rw[fJ];exact bk.out,bn.out,bi.out,aA.out trivial rfl⟩
   case measure=>simp[intOf];omega
  ·have n:=ao (L.out _ H.out (ai aN));have bM:(bh==0)=false:=by simpa using aN
   clear L A M q aA;go_wp2_with fail;exact av (v:=.tuple #[ae none 0 0,.bool false]) (by simp[results,Tryz.results45,go_sem]) rfl ⟨_,_,rfl,n.out⟩
 ·obtain rfl:j=pl:=by omega
  obtain⟨d,P,S,U,E,T⟩:=aa.out;have n:=ao (ad.out _ d _ _ E trivial T P S U);clear K ad M an q Z Y V aa P S U E T;go_wp2_with fail;exact av (v:=.tuple #[ae a j c,.bool true]) (by simp[results,Tryz.results45,go_sem]) rfl ⟨_,_,rfl,n.out⟩
def zn(K:Nat)(b:List (Int×Tc))(c:List (Int×ByteArray×Tc))(a:List Int):Prop:=(b.length<=K/\c.length<=K/\a.length<=K)/\(∀x∈b,dn x.1)/\∀x∈a,dn x
theorem Eu{b:List Tc}{self:Int}{n:Nat}{x:Tm n}{h:Int}(a:mR b self n x=some h):dn h:=by
 unfold mR rn at a;cases f:vl 13 b self n x with
 | none=>rw[f]at a;cases a
 | some e=>
  rw[f,dh]at a;by_cases d:bu (13+n) e=0
  ·rw[if_pos d,dh]at a;by_cases c:(cn (13+n) e).1.1=3
   ·rw[if_pos c]at a;obtain rfl:=au a;have i:az ⟨13,cn (13+n) e⟩:=aL.2 (bw.1 (pC d)).1;have g:=i _ (oL);simp only[cv,c]at g;simp[qd]at g;unfold dn;omega
   ·rw[if_neg c]at a;cases a
  ·rw[if_neg d]at a;cases a
theorem MK{self:Int}{n K:Nat}{a:Ac (n+1)}{d e:Dg}(b:qz self a d=some e)(k:zn K d.sends d.spawns d.links):zn (K+1) e.sends e.spawns e.links:=by
 unfold qz at b;obtain⟨⟨o,p,q⟩,f,g⟩:=k;split at b
 ·obtain⟨m,h,b⟩:=br.1 b;obtain⟨t,l,rfl⟩:=cd.1 b;refine⟨⟨by simp;omega,by simp;omega,by simp;omega⟩,λj i=>?_,g⟩;rcases cR.1 i with c|c
  ·exact f j c
  ·rw[de.1 c];exact Eu h
 ·split at b
  ·obtain⟨t,l,b⟩:=br.1 b;split at b
   ·obtain rfl:=au b;exact⟨⟨by simp;omega,by simp;omega,by simp;omega⟩,f,g⟩
   ·cases b
  ·split at b
   ·obtain⟨m,h,rfl⟩:=cd.1 b;refine⟨⟨by simp;omega,by simp;omega,by simp;omega⟩,f,λj i=>?_⟩;rcases cR.1 i with c|c
    ·exact g j c
    ·rw[de.1 c];exact Eu h
   ·obtain rfl:=au b;exact⟨⟨by simp;omega,by simp;omega,by simp;omega⟩,f,g⟩
theorem Ij{self:Int}{n:Nat}:(l:List (Ac (n+1)))->{K:Nat}->{d b:Dg}->pE self l d=some b->zn K d.sends d.spawns d.links->zn (K+l.length) b.sends b.spawns b.links
 | [],K,d,b,c,hk=>by
  obtain rfl:=au c;exact hk
 | a::l,K,d,b,c,hk=>by
  unfold pE at c;obtain⟨e,f,c⟩:=br.1 c;have:=Ij l c (MK f hk);rw[aZ,show K+(l.length+1)=K+1+l.length by omega];exact this
theorem clsC_mem{n:Nat}{s m:Tc}:(l:List (Cl (n+1)))->{y:Cl (n+1)×List Tc}->lJ s m l=some y->y.1∈l
 | [],y,h=>by simp[lJ]at h
 | c::l,y,h=>by
  unfold lJ at h;cases e:kQ c s m with
  | none=>
   rw[e]at h;exact bI _ (clsC_mem l h)
  | some b=>
   rw[e]at h;obtain rfl:=au h;exact oL
theorem DW{n:Nat}{l:List (Cl (n+1))}{s:Tc}:(ms:List Tc)->(i:Nat)->{x:Nat×Cl (n+1)×List Tc}->rC l s ms i=some x->x.2.1∈l
 | [],i,x,h=>by simp[rC]at h
 | m::ms,i,x,h=>by
  unfold rC at h;cases e:lJ s m l with
  | none=>
   rw[e]at h;exact DW ms (i+1) h
  | some y=>
   rw[e]at h;obtain rfl:=au h;exact clsC_mem l e
theorem qs{n:Nat}{name:ByteArray}:(l:List (Bh n))->{b:Bh n}->fX n name l=some b->b∈l/\b.1=name
 | [],b,h=>by simp[fX]at h
 | c::l,b,h=>by
  unfold fX at h;split at h
  ·rename_i e;obtain rfl:=au h;exact⟨oL,e⟩
  ·exact⟨bI _ (qs l h).1,(qs l h).2⟩
theorem CF{n:Nat}{prog:List (Bh (n+1))}(c:jY (n+1) prog=true){nm:ByteArray}(d:kJ n prog nm=true):nm.size<=2048:=by
 obtain⟨b,g⟩:=gj.1 d;obtain⟨e,f⟩:=qs prog g;unfold jY at c;simp only[aA,b9]at c;have a:=c.2 b e;unfold vv at a;simp only[aA]at a;rw[<-f];exact wu a.1.1.1
theorem JB{n:Nat}{room:Int}{l:List (Bh (n+1))}(j:jY (n+1) l=true){name:ByteArray}{self next:Int}{s:Tc}{ms:List Tc}{f:Tk}(e:l6 room l name self next s ms=some f):zn 8 f.sends f.spawns f.links:=by
 unfold l6 at e;obtain⟨c,p,e⟩:=br.1 e;obtain⟨y,u,rfl⟩:=cd.1 e;have a:=DW ms 0 p;have r:c.2.1.2.2.length<=8:=by
  unfold f9 at a;cases g:fX (n+1) name l with
  | none=>rw[g]at a;simp at a
  | some b=>
   rw[g]at a;have a:c.2.1∈b.2.2:=a;unfold jY at j;simp only[aA,b9]at j;have h:=j.2 b (qs l g).1;unfold vv at h;simp only[aA,b9]at h;have k:=h.2 _ a;unfold sQ at k;simp only[aA,bU]at k;omega
 have i:zn 8 [] [] []:=⟨⟨by simp,by simp,by simp⟩,by simp,by simp⟩;unfold eO;cases hd:pE self c.2.1.2.2 ⟨c.2.2,next,[],[],[],false⟩with
 | none=>exact i
 | some d=>
  have o:zn 8 d.sends d.spawns d.links:=by
   obtain⟨⟨v,w,x⟩,q⟩:=Ij _ (K:=0) hd ⟨⟨by simp,by simp,by simp⟩,by simp,by simp⟩;exact⟨⟨by omega,by omega,by omega⟩,q⟩
  cases m:rn d.b self (n+1) c.2.1.1.2.2 with
  | none=>simp only[m];exact i
  | some t=>
   simp only[m];split
   ·exact o
   ·exact i
theorem uJ{d:Type}(f:d->List Value)(k:Nat)(c:∀a,(f a).length=k):(l:List d)->(i:Nat)->(a:d)->l[i]?=some a->∀(t:Nat)(b:Value),(f a)[t]?=some b->(l.flatMap f)[i*k+t]?=some b
 | [],i,a,h,_,_,_=>by simp at h
 | x::l,0,a,h,t,b,hu=>by
  simp at h;subst h;rw[bB,dk (by have:=(aR.1 hu).1;omega)];simpa using hu
 | x::l,i+1,a,h,t,b,hu=>by
  rw[bB,ei (by rw[c,Nat.succ_mul];omega),c,show (i+1)*k+t-k=i*k+t by rw[Nat.succ_mul];omega];exact uJ f k c l i a (by simpa using h) t b hu
theorem qN{w:World}{base:Nat}{e:TypeId}{k:Nat}{v:Value}{n:Nat}{q:Type}{f:q->List Value}{l:List q}(m:w.ownsRow base e k v n (l.flatMap f))(A:0<k)(o:∀d,(f d).length=k):∃a c,v=ae a n c/\(∀b,a=some b->v.ownBlock=some b.block)/\∀(i:Nat)(d:q),l[i]?=some d->∃g,a=some ⟨g,0,none⟩/\g<w.heap.size/\∀(t:Nat)(j:Value),(f d)[t]?=some j->w.cell? ⟨g,i*k+t,none⟩=some j:=by
 have s:=m;rcases m.2 with⟨rfl,r⟩|⟨g,c,C,rfl,D,z,F⟩
 ·refine⟨none,0,by rw[r],(λb e=>by cases e),λi d p=>?_⟩;have u:=uJ f k o l i d p 0 _ (aH (by rw[o];exact A));have E:=(aR.1 u).1;have x:=m.1;rw[r,Nat.zero_mul]at x;omega
 ·refine⟨_,c,rfl,(λb e=>by cases e;rfl),λi d p=>⟨g,rfl,(aD.1 z).1,λt j B=>?_⟩⟩;have y:=World.ownsRow.cells s (g:=g) rfl _ _ (uJ f k o l i d p t j B);rwa [show∀h,(⟨g,0,none⟩:Addr).add h=⟨g,h,none⟩from λh=>by cases h<;>simp[Addr.add]]at y
def eL(n:Nat)(x:Tm (n+1)):ByteArray:=if x.1.1=4 then match x.2.2[0]? with|some a=>if bO ⟨n,a⟩=2 then (gd n a).1.2.2 else .empty|none=> .empty else .empty
def bJ(n:Nat)(x:Tm (n+1)):List (Tm n):=if x.1.1=4 then match x.2.2[0]? with|some a=>if bO ⟨n,a⟩=2 then x.2.2.drop 1 else []|none=> []else []
def sr(a s:ByteArray):Bool:=a.toList==s.toList
def DS:(n:Nat)->Tm n->List (Tm (n-1))
 | 0,_=> []
 | _+1,x=>x.2.2
def wm(n:Nat)(x:Tm n):ByteArray:=(gd n x).1.2.2
def yC(M n:Nat)(a b c:Tm n):Option (Ac (M+1)):=if bO ⟨n,a⟩=2/\bO ⟨n,c⟩=5 then some (2,(zT M,aO (M+1) n b),(wm n a,oX n c))else none
def jy(M n:Nat)(d:ByteArray)(q:List (Tm n)):Option (Ac (M+1)):=
 if (sr d l9 && decide (q.length=2))=true then (q[0]?).bind λa=>(q[1]?).bind λb=>some (1,(aO (M+1) n a,aO (M+1) n b),(.empty,0))
 else if (sr d iJ && decide (q.length=3))=true then (q[0]?).bind λa=>(q[1]?).bind λb=>(q[2]?).bind λc=>yC M n a b c
 else if (sr d l7 && decide (q.length=1))=true then (q[0]?).bind λa=>some (3,(aO (M+1) n a,zT M),(.empty,0))
 else if (sr d lk && decide (q.length=0))=true then some (4,(zT M,zT M),(.empty,0))else none
def rR(M:Nat):(n:Nat)->Tm n->Option (Ac (M+1))
 | 0,_=>none
 | n+1,x=>jy M n (eL n x) (bJ n x)
def rS(M n:Nat)(e:ByteArray)(q:List (Tm n)):Option (Cl (M+1)):=
 if (sr e Ki && decide (q.length=4))=true then (q[0]?).bind λa=>(q[1]?).bind λb=>(q[2]?).bind λc=>(q[3]?).bind λd=>
  if bO ⟨n,c⟩=4 then (cE (rR M (n-1)) (DS n c)).map λl=>((aO (M+1) n a,aO (M+1) n b,aO (M+1) n d),(none,0),l)else none
 else none
def yB(M:Nat):(n:Nat)->Tm n->Option (Cl (M+1))
 | 0,_=>none
 | n+1,x=>rS M n (eL n x) (bJ n x)
def sU(M n:Nat)(b:ByteArray)(q:List (Tm n)):Option (Bh (M+1)):=
 if sr b te=true then (q[0]?).bind λa=>if bO ⟨n,a⟩=2 then (cE (yB M n) (q.drop 1)).map λl=>(wm n a,(none,0),l)else none
 else none
def yA(M:Nat):(n:Nat)->Tm n->Option (Bh (M+1))
 | 0,_=>none
 | n+1,x=>sU M n (eL n x) (bJ n x)
def A2(M:Nat):(n:Nat)->Tm n->Option (List (Bh (M+1)))
 | 0,_=>none
 | n+1,x=>if sr (eL n x) nn=true then cE (yA M n) (bJ n x)else none
def qm{a:Type}(f:a->List Value)(h:Nat->World->a->Prop)(i:(Nat->Prop)->a->Prop)(S:a->a->Prop)(o:Option a)(w:World)(e:Ending)(w':World):Prop:=
 ∃(c:a)(d:Bool),e=.returned (.tuple #[.agg (f c).toArray,.bool d])/\Hid (aj w w'/\d=o.isSome/\h w'.heap.size w' c/\i (λb=>w.heap.size<=b) c/\∀g,o=some g->S c g)
def kT{a:Type}(k:Nat)(f:a->List Value)(i:Nat->World->a->Prop)(j:(Nat->Prop)->a->Prop)(S:a->a->Prop)(o:Option (List a))(w:World)(e:Ending)(w':World):Prop:=
 ∃(l:List a)(d:Option Addr)(c:Nat)(g:Bool),e=.returned (.tuple #[ae d l.length c,.bool g])/\Hid (aj w w'/\g=o.isSome/\(l.length<=c/\c<=maxLen)/\px w'.heap.size w' k f (i w'.heap.size w') d l/\sP (j (λb=>w.heap.size<=b)) (λb=>w.heap.size<=b) d l/\∀h,o=some h->eA S l h)
theorem ru{d e:Type}(f:d->Option e)(p:List d)(k:Nat)(x:d)(i:p[k]?=some x)(l:List e)(y:e)(a:cE f (p.take k)=some l)(j:f x=some y):cE f (p.take (k+1))=some (l++ [y]):=by
 rw[dz,i];have key:∀(c:List d)(l:List e),cE f c=some l->cE f (c++ [x])=some (l++ [y]):=by
  intro c
  induction c with
  | nil=>intro l a;simp[cE]at a;subst a;simp[cE,j]
  | cons n c ih=>
   intro l a;simp only[cE]at a;obtain⟨b,g,a⟩:=br.1 a;obtain⟨m,h,rfl⟩:=cd.1 a;simp only[fG,cE,g,ih m h];rfl
 exact key _ _ a
end Go.Proofs.YtckamaoibonjcaaGreat
