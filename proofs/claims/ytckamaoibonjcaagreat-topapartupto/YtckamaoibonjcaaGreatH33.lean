/- What is proved here: plain facts and contracts that the claimed theorem stands on. No condition but those that each names. -/
import Derived.Test.YtckamaoibonjcaaGreatH32
namespace Go.Proofs.YtckamaoibonjcaaGreat
open Go.RowKit
set_option maxRecDepth 100000
set_option maxHeartbeats 4000000
theorem Lp(a:Nat)(W:World):(binOp .eql 62 (.map (some a)) (.map none)).run Tryz.prog W=.ok (.bool false) W:=by kernel_rfl
theorem Lo(W:World):(binOp .eql 62 (.map none) (.map none)).run Tryz.prog W=.ok (.bool true) W:=by kernel_rfl
theorem Gl(b o d:Nat)(n:Option Nat)(a G c:Int)(w w1 w2:World)(y:Int->Int->ByteArray->Option Addr->Nat->Nat->World->Prop)(k R:World->Prop)(S:IntKind.i64.wrap (G+1)=c)(T:b<w.heap.size)(C:Hid (w.cell? ⟨b,3,none⟩=some (.map n)/\w.frozen? ⟨b,3,none⟩=false))(P:(n=none/\d=w.heap.size/\w1=(w.setCell ⟨b,3,none⟩ (.map (some d))).alloc (.map #[] 0))\/(n=some d/\w1=w))(p:Hid (w1.cell? ⟨b,2,none⟩=some (ab G)/\w1.frozen? ⟨b,2,none⟩=false))(A:w2=w1.setCell ⟨b,2,none⟩ (ab c))(j:Hid (∀W,ai w2 W->W.cell? ⟨b,2,none⟩=some (ab c)/\W.cell? ⟨b,3,none⟩=some (.map (some d))))(u:Hid (∀W,ai w2 W->∃f,(Instr.mapUpdate 62 (.map (some d)) (ab c) (yZ o)).run Tryz.prog W=.ok () f/\(f.cell? ⟨b,2,none⟩=some (ab c)/\f.cell? ⟨b,3,none⟩=some (.map (some d)))/\Hid (k f)))(s:Hid (∀W g,k W->ai W g->g.cell? ⟨b,2,none⟩=some (ab c)))(I:Hid (∀W g,k W->ai W g->ak 24 #[.pointer (some ⟨o,0,none⟩)] g λe w'=>∃y0 y1 y2 ya yl yc,e=.returned (.agg #[ab y0,ab y1,ae y2,.slice ya yl yc])/\Hid (ai g w'/\y y0 y1 y2 ya yl yc w')))(J:Hid (∀y0 y1 y2 ya yl yc W,y y0 y1 y2 ya yl yc W->ak 44 #[.pointer (some ⟨b,0,none⟩),ae ⟨#[115,112,97,119,110]⟩,ab a,ab c,.agg #[ab y0,ab y1,ae y2,.slice ya yl yc]] W λe w'=>e=.returned (.tuple #[])/\Hid (R w'/\w'.cell? ⟨b,2,none⟩=some (ab c)))):ak 40 #[.pointer (some ⟨b,0,none⟩),ab a,.pointer (some ⟨o,0,none⟩)] w λe w'=>e=.returned (.tuple #[])/\Hid (R w'):=by
 obtain⟨L,O⟩:=C.out;have Q:= @run_makeMap Tryz.prog;have m:Hid (ai w2 w2.drew):=(am _ _).drew;have h:Hid (∀W:World,ai W W.drew):=λW=>(am _ _).drew;go_enter Tryz.func40,Tryz.ntmps40;rcases P with⟨rfl,D,i⟩|⟨rfl,i⟩
 case' inl=>
  have E:=Lo;go_upto_region 2 with fail;rw[<-D,<-i];clear D
 case' inr=>
  have E:=Lp d;go_upto_region 2 with fail;rw[<-i]
 all_goals
  clear L O i C E Q;obtain⟨K,N⟩:=p.out;go_upto_region 3 with fail;rw[<-A];clear A K N p;obtain⟨z,M⟩:=j.out _ m.out;obtain⟨f,F,B,l⟩:=u.out _ m.out;unfold yZ at F;have t:=ao B;have r:=ao (j.out _ m.out);clear u j;go_region_held3 (λW=>W.cell? ⟨b,2,none⟩=some (ab c)/\W.cell? ⟨b,3,none⟩=some (.map (some d))) (first|exact r.out|exact t.out) (fail);clear F r B z M;have z:=t.out.1;go_upto_region 4 with fail
  go_region_held3 (λW=>W.cell? ⟨b,2,none⟩=some (ab c)) (first|exact s.out _ _ l.out (h.out _)|exact s.out _ _ l.out H.out|exact q.out.2) ((first
   | (go_at_call 24;refine(I.out _ _ l.out (h.out _)).mono ?_;rintro e U ⟨y0,y1,y2,ya,yl,yc,rfl,x⟩;have H:=ao ((h.out f).trans (x.out.1.mono (h.out f).size)))
   | (go_at_call 44;refine(J.out _ _ _ _ _ _ _ x.out.2).mono ?_;rintro e V ⟨rfl,q⟩)))
  go_wp2_with fail;exact dO (v:=.tuple #[]) (by simp[results]) rfl ⟨rfl,q.out.1⟩
section
variable {p:kJ} {s:Sy} {d:fS} {w:World}
def MA(M:Nat->Prop)(a:Nat)(d b:fS)(w w':World):Prop:=bk (λq=>d.ow q<0) w w'/\(∀q,q<w.heap.size->¬M q->b.ow q=d.ow q)/\(∀q,M q->1<=b.ow q)/\b.k=d.k/\b.es.length<=d.es.length+a/\b.wn<=d.wn+a/\b.bn<=d.bn+a
theorem oc{b:Type}(l:List (Int×b))(k j:Int)(v:b)(c:∀q∈l,q.1≠k):((l++ [(k,v)]).find? λq=>q.1==j)=if j=k then some (k,v)else l.find? λq=>q.1==j:=by
 rw[List.find?_append];by_cases a:j=k
 ·subst a;rw[if_pos rfl,l7.2 λq d=>by simpa using c q d];simp
 ·rw[if_neg a];have:(k==j)=false:=by simpa using λe:k=j=>a e.symm
  simp[this]
def MY(d:fS)(M:Nat->Prop)[DecidablePred M](a:Nat)(k:Int)(q:Nat):Int:=if M q then k else if q=a then -5 else d.ow q
theorem aX.addG(e:aX p s d w){m c:Nat}{nm:ByteArray}{cs:Tc}{M:Nat->Prop}[DecidablePred M](B:P1 p.lo m nm p.room cs [] (d.k+201) M w)(A:∀q,M q->d.ow q=0)(aa:s.ps.length<12/\s.last<90){w':World}(f:bk (λq=>d.ow q=-5) w w')(P:d.ow c≠0->d.ow c=-5)(N:¬M c)(O:p.lo<=c/\c<w'.heap.size)(Q:c≠p.b)(o:w'.heap[p.b]?=some (.cells (dL p {s with last:=s.last+1} {d with po:=some c}) 70))(L:IM w' c (d.l++ [(s.last+1,m)])):aX p {s with last:=s.last+1,ps:=s.ps++ [(s.last+1,nm,cs,[])]} {d with ow:=MY d M c (s.last+1),po:=some c,l:=d.l++ [(s.last+1,m)]} w':=by
 obtain⟨y,J,z,X,Y,Z⟩:=e.keys;have i:∀b,d.ow b≠0->MY d M c (s.last+1) b=d.ow b:=λb h=>by
  unfold MY;rw[if_neg λa=>h (A b a)];by_cases g:b=c
  ·subst g;rw[if_pos rfl,P h]
  ·rw[if_neg g]
 have r:∀b,MY d M c (s.last+1) b≠0->p.lo<=b/\b<w'.heap.size:=λb h=>by
  unfold MY at h;split at h
  ·rename_i a;have:=P1.lie2 B b a;exact⟨this.1,aL this.2 f.size⟩
  ·split at h
   ·rename_i a;subst a;exact O
   ·exact⟨(e.low b h).1,aL (e.low b h).2 f.size⟩
 have t:∀{t:Int},t≠ -5->∀b,d.ow b=t->¬d.ow b=-5:=λT b g a=>T (g.symm.trans a);have n:∀q∈s.ps,q.1≠s.last+1:=λq j=>by have:=(z q j).2;omega
 have R:∀q∈d.l,q.1≠s.last+1:=λq j=>by
  have K:q.1∈s.ps.map (·.1):=by rw[<-y];exact bU.2 ⟨q,j,rfl⟩
  obtain⟨v,u,g⟩:=bU.1 K;rw[<-g];exact n v u
 obtain⟨y1,y2,W⟩:=e.wyK f (t (by decide)) i (q:=zb p {s with last:=s.last+1} {d with po:=some c}) rfl (pQ o).1;obtain⟨H,I⟩:=e.evK f (t (by decide)) i;refine⟨r,o,(i p.b (by rw[e.own];decide)).trans e.own,⟨e.pgK f (t (by decide)) i,e.pg.2⟩,ah ⟨c,rfl,(if_neg N).trans (if_pos rfl),Q,L⟩,⟨by simp[y],?_,λq j=>?_,by show 0<=s.last+1;omega,by show s.last+1<=90;omega,by simp;omega⟩,λk b q=>?_,⟨y1,y2,e.wy.2.2.1,e.wy.2.2.2.1,W⟩,e.bdK f (t (by decide)) i rfl (pQ o).2,H,e.evt.1,I⟩
 ·simp only[fH,aI,bR];refine eL.2 ⟨J,by simp,λab U ad V=>?_⟩;obtain⟨v,u,rfl⟩:=bU.1 U;rw[dD.1 V];exact n v u
 ·show 1<=q.1/\q.1<=s.last+1;rcases da.1 j with a|a
  ·have:=z q a;omega
  ·rw[dD.1 a];show 1<=s.last+1/\s.last+1<=s.last+1;omega
 ·have q:cN (d.l++ [(s.last+1,m)]) k=some b:=q;unfold cN at q;rw[oc _ _ _ _ R]at q;by_cases g:k=s.last+1
  ·subst g;rw[if_pos rfl]at q;obtain rfl:m=b:=by simpa using q
   refine⟨nm,cs,[],?_,(B.kept (S:=λq=>d.ow q=-5) ⟨f.os,f.tape,f.output,f.size,f.block⟩ λb a=>by rw[A b a];decide).mono (λb a=>if_pos a) (aj _) λb a=>r b (by have a:MY d M c (s.last+1) b=s.last+1:=a;rw[a];omega),aF _⟩;unfold Sy.get;simp only;rw[oc _ _ _ _ n,if_pos rfl];rfl
  ·rw[if_neg g]at q;have C:cN d.l k=some b:=q;have:=(e.key C).1;obtain⟨D,E,F,x,G⟩:=e.psK f (aj _) (t (by omega)) i r C;refine⟨D,E,F,?_,G⟩;unfold Sy.get at x ⊢;simp only;rw[oc _ _ _ _ n,if_neg g];exact x
open Classical in
theorem aX.add(n:aX p s d w)(a:Int){z:Nat}{nm:ByteArray}{cs:Tc}{M:Nat->Prop}(I:P1 p.lo z nm p.room cs [] (d.k+201) M w)(Y:∀q,M q->d.ow q=0)(aW:s.ps.length<12/\s.last<90)(ai:d.k<=47000)(be:d.es.length<=99000):ak 40 #[.pointer (some ⟨p.b,0,none⟩),ab a,.pointer (some ⟨z,0,none⟩)] w λe w'=>e=.returned (.tuple #[])/\Hid (∃C,aX p (s.add a nm cs) C w'/\MA M 1 d C w w'):=by
 obtain⟨aV,ap⟩:=n.lo;have N:=n.box;obtain⟨a9,ba,bb,aB⟩:=n.cells;obtain⟨_,_,aJ,bc,bd,_⟩:=n.keys;have ae:∀{h:World}{cs:Array Value}{o:Nat},h.heap[p.b]?=some (.cells cs 70)->h.frozen? ⟨p.b,o,none⟩=false:=λe=>by simp[World.frozen?,e]
 obtain⟨c,m,aY,J,aK,aR,O,aN,P,ao⟩:∃c m,((d.po=none/\c=w.heap.size/\m=(w.setCell ⟨p.b,3,none⟩ (.map (some c))).alloc (.map #[] 0))\/(d.po=some c/\m=w))/\m.heap[p.b]?=some (.cells (dL p s {d with po:=some c}) 70)/\IM m c d.l/\bk (λq=>d.ow q=-5) w m/\(c<w.heap.size->d.ow c=-5)/\¬M c/\c≠p.b/\p.lo<=c/\c<m.heap.size:=by
  rcases n.pm with⟨A,u⟩|⟨c,A,u,H,aH⟩
  ·have aP:(w.setCell ⟨p.b,3,none⟩ (.map (some w.heap.size))).heap[p.b]?=some (.cells (dL p s {d with po:=some w.heap.size}) 70):=by
     simp[World.setCell,bG,N,dL]
   have R:(w.setCell ⟨p.b,3,none⟩ (.map (some w.heap.size))).heap.size=w.heap.size:=by simp[World.setCell]
   have ai:bk (λq=>d.ow q=-5) w ((w.setCell ⟨p.b,3,none⟩ (.map (some w.heap.size))).alloc (.map #[] 0)):=((bt w p.b 3 _).mono λq _ e=>by rw[e];exact n.own).trans (aD ((am _ _).alloc (aj _) _) λ_=>False) λ_ _ e=>e.elim;refine⟨w.heap.size,_,ag ⟨A,rfl,rfl⟩,(heap_alloc_old _ _ (by rw[R];exact ap)).trans aP,?_,ai,λg=>by omega,λg=>?_,by omega,aV,?_⟩
   ·rw[u];have:=vq.new (f:=yZ) (w.setCell ⟨p.b,3,none⟩ (.map (some w.heap.size)));rw[R]at this;exact this
   ·have:=(P1.lie2 I _ g).2;omega
   ·have:=az (w.setCell ⟨p.b,3,none⟩ (.map (some w.heap.size))) (.map #[] 0);rw[R]at this;exact(aC.1 this).1
  ·refine⟨c,w,ah ⟨A,rfl⟩,?_,aH,bk.refl _ _,λ_=>u,λg=>?_,H,n.low c (by rw[u];decide)⟩
   ·rw[N];unfold dL;rw[A]
   ·have:=Y c g;rw[u]at this;cases this
 obtain⟨y,F⟩:∃y,y=m.setCell ⟨p.b,2,none⟩ (ab (s.last+1)):=⟨_,rfl⟩;have K:y.heap[p.b]?=some (.cells (dL p {s with last:=s.last+1} {d with po:=some c}) 70):=by
  rw[F];simp[World.setCell,bG,J,dL]
 have bh:y.heap.size=m.heap.size:=by rw[F];simp[World.setCell]
 have al:bk (λq=>q=p.b) m y:=by rw[F];exact bt m p.b 2 _
 have aS:bk (λq=>d.ow q=-5) w y:=aR.trans al λq _ e=>by rw[e];exact n.own
 have aM:IM y c d.l:=aK.kept (al.block c ao.2 P);obtain⟨B,E⟩:∃B:Sy,B={s with last:=s.last+1,ps:=s.ps++ [(s.last+1,nm,cs,[])]}:=⟨_,rfl⟩;obtain⟨t,v⟩:∃t:fS,t={d with ow:=MY d M c (s.last+1),po:=some c,l:=d.l++ [(s.last+1,z)]}:=⟨_,rfl⟩;have Q:cN d.l (s.last+1)=none:=by
  cases e:cN d.l (s.last+1)with
  | none=>rfl
  | some b=>have:=(n.key e).2;omega
 have aQ:cN t.l (s.last+1)=some z:=by
  rw[v];show cN (d.l++ [(s.last+1,z)]) (s.last+1)=_;unfold cN at Q ⊢;rw[List.find?_append,Option.map_eq_none_iff.1 Q];simp
 have aU:B.last=s.last+1:=by rw[E]
 refine Gl p.b z c d.po a s.last (s.last+1) w m y (λy0 y1 y2 ya yl yc h=>∃i:Tc,(i.1=(y0,y1,y2)/\i.2.1=(ya,yc)/\i.2.2.length=yl)/\In h.heap.size h 13 i/\bq 13 i=0/\cn 13 i=cs/\aX p B t h/\bk (λq=>d.ow q=-5) w h) (λh=>aX p B t h/\bk (λq=>d.ow q=-5) w h) (λw'=>∃C,aX p (s.add a nm cs) C w'/\MA M 1 d C w w') (by rw[IntKind.wrap];simp[IntKind.bits,IntKind.signed];omega) ap ⟨aB,ae N⟩ aY ⟨af J 2,ae J⟩ F (λh j=>?_) (λh j=>?_) (λh aA D j=>?_) (λh aA D j=>?_) (λy0 y1 y2 ya yl yc h aO=>?_)
 ·have aa:=en j K;exact⟨af aa 2,af aa 3⟩
 ·obtain⟨T,a3,a4,au,bj⟩:=(vq.put (aM.kept (j.block c (by omega))) Tryz.underlying62 Q z);have L:T.heap[p.b]?=_:=(au.block p.b (aL (aC.1 K).1 j.size) P.symm).trans (en j K);have an:bk (λq=>d.ow q=-5) w T:=by
   have aT:bk (λq=>d.ow q=-5) w h:=aS.trans (aD j λ_=>False) λ_ _ e=>e.elim;exact aT.trans au λq r e=>by rw[e]at r ⊢;exact O r
  refine⟨T,a3,⟨af L 2,af L 3⟩,?_,an⟩;rw[E,v];exact n.addG I Y aW an (λg=>O (n.low _ g).2) aN ⟨ao.1,by have:=j.size;omega⟩ P L a4
 ·have:=(D.1.later j).cells.2.2.1;rw[aU]at this;exact this
 ·have Z:=D.1.later j;obtain⟨a2,aF,aE,x,S,bi⟩:=Z.ps _ _ aQ;have e:B.get (s.last+1)=some (nm,cs,[]):=by
   rw[E];unfold Sy.get;simp only;rw[oc _ _ _ _ λq r=>by have:=(aJ q r).2;omega,if_pos rfl];rfl
  rw[e]at x;obtain⟨rfl,rfl,rfl⟩:nm=a2/\cs=aF/\[]=aE:=by
   injection x with x;injection x with A u;injection u with u H;exact⟨A,u,H⟩
  have bg:t.k=d.k:=by rw[v]
  refine(S.state (by omega)).mono ?_;rintro e w' ⟨i,rfl,G⟩;obtain⟨y1,y2,bl,a7,a8⟩:=G.out;exact⟨i.1.1,i.1.2.1,i.1.2.2,i.2.1.1,i.2.2.length,i.2.1.2,rfl,y1,i,⟨rfl,rfl,rfl⟩,y2,a7,a8,Z.later y1,(D.2.trans (aD j λ_=>False) λ_ _ e=>e.elim).trans (aD y1 λ_=>False) λ_ _ e=>e.elim⟩
 ·obtain⟨i,⟨U,V,aI⟩,aZ,a0,a1,aq,ar⟩:=aO;obtain⟨⟨bm,bn,bo⟩,⟨bp,br⟩,bs⟩:=i;simp only[ei]at U V;obtain⟨rfl,rfl,rfl⟩:=U;obtain⟨rfl,rfl⟩:=V;subst aI;have ad:t.es=d.es:=by rw[v]
  refine(aq.tell DZ a (s.last+1) _ _ _ _ _ _ _ (jL aZ a0) (by rw[ad];omega)).mono ?_;rintro e w' ⟨rfl,G⟩;obtain⟨aG,x,S⟩:=G.out.up aq;rw[a1,E]at x;refine⟨rfl,⟨aG,x,?_⟩,?_⟩
  ·obtain⟨a5,av,a6,aw,ax,ay⟩:=S;have W:∀q,q<w.heap.size->¬M q->t.ow q=d.ow q:=λq r g=>by
    rw[v];refine(if_neg g).trans ?_;by_cases e:q=c
    ·rw[if_pos e,e];exact(O (e▸r)).symm
    ·exact if_neg e
   have X:∀q,M q->t.ow q=s.last+1:=λq g=>by
    rw[v];exact if_pos g
   have bf:=ar.size;refine⟨(ar.mono λq _ e=>by rw[e];decide).trans a5 λq r e=>?_,λq r g=>(av q (by omega)).trans (W q r g),λq g=>?_,by rw[a6,v],by rw[ad]at aw;exact aw,by rw[v]at ax;exact ax,by rw[v]at ay;exact ay⟩
   ·by_cases g:M q
    ·rw[X q g]at e;omega
    ·rw[W q r g]at e;exact e
   ·have:=(P1.lie2 I q g).2;rw[av q (by omega),X q g];omega
  ·have:=x.cells.2.2.1;exact this
end
theorem Dl(c:Nat)(nm:ByteArray)(f g:Int)(h:ByteArray)(xa:Option Addr)(i xc:Nat)(room ne t:Int)(may o:Bool)(w:World)(C:Nat->World->Prop)(R:Int->Int->World->Prop)(ah:c<w.heap.size)(T:Hid (w.cell? ⟨c,1,none⟩=some (ab room)))(J:Hid (∀W,ai w W->ak 37 #[.pointer (some ⟨c,0,none⟩),ab 1] W λe w'=>e=.returned (.bool may)/\w'=W))(z:Hid (∀W,ai w W->ak 38 #[.pointer (some ⟨c,0,none⟩),ae nm] W λe w'=>e=.returned (.bool o)/\ai W w'))(r:Hid (∀W,ai w W->ak 39 #[ae nm,.agg #[ab f,ab g,ae h,.slice xa i xc],ab room] W λe w'=>∃p:Option Addr,e=.returned (.tuple #[.pointer p,ab ne])/\Hid (ai W w'/\(ne=0->∃b,p=some ⟨b,0,none⟩/\C b w'))))(l:Hid (∀b W,(may && o)=true->ne=0->C b W->ak 40 #[.pointer (some ⟨c,0,none⟩),ab 0,.pointer (some ⟨b,0,none⟩)] W λe w'=>e=.returned (.tuple #[])/\Hid (R t 0 w'/\w'.cell? ⟨c,2,none⟩=some (ab t))))(j:Hid (∀W,ai w W->(may=false->R 0 2 W)/\((may && !o)=true->R 0 4 W)/\((may && o)=true->ne≠0->R 0 ne W))):ak 19 #[.pointer (some ⟨c,0,none⟩),ae nm,.agg #[ab f,ab g,ae h,.slice xa i xc]] w λe w'=>∃v Q,e=.returned (.tuple #[ab v,ab Q])/\Hid (R v Q w'):=by
 go_enter Tryz.func19,Tryz.ntmps19;go_upto_region 1 with fail;generalize O:w.alloc _=G;have u:Hid (ai w G/\G.heap[w.heap.size]?=some (.cells #[ab f,ab g,ae h,.slice xa i xc] 30)):=by
  rw[<-O];exact⟨(am _ _).alloc (aj _) _,az _ _⟩
 clear O;obtain⟨a,E⟩:∃a,a=w.heap.size:=⟨_,rfl⟩;rw[<-E];have K:Hid (G.heap[a]?=some (.cells #[ab f,ab g,ae h,.slice xa i xc] 30)):=by rw[E];exact u.out.2
 have HB:=ao u.out.1;clear E u;go_wp2_with fail;refine(J.out _ HB.out).mono ?_;rintro e aq ⟨rfl,P⟩;obtain rfl:=P.symm;clear P J;cases may
 ·have d:=ao ((j.out _ HB.out).1 rfl);clear l j r z;go_wp2_with fail;exact ar (v:=.tuple #[ab 0,ab 2]) (by simp[results,Tryz.results19,go_sem]) rfl ⟨0,2,rfl,d.out⟩
 go_wp2_with fail;refine(z.out _ HB.out).mono ?_;rintro e H ⟨rfl,D⟩;have m:=ao (HB.out.trans (D.mono HB.out.size));have A:=ao (en D K.out);clear z K HB D;cases o
 ·have d:=ao ((j.out _ m.out).2.1 rfl);clear l j r;go_wp2_with fail;exact ar (v:=.tuple #[ab 0,ab 4]) (by simp[results,Tryz.results19,go_sem]) rfl ⟨0,4,rfl,d.out⟩
 have y:Hid (ai H H.drew):=(am _ _).drew;have n:=ao (m.out.trans (y.out.mono m.out.size));have B:=ao (en y.out A.out);have q:Hid (∀W:World,ai w W->W.heap[a]?=some (.cells #[ab f,ab g,ae h,.slice xa i xc] 30)->W.cell? ⟨c,1,none⟩=some (ab room)/\W.cell? ⟨a,0,none⟩=some (ab f)/\W.cell? ⟨a,1,none⟩=some (ab g)/\W.cell? ⟨a,2,none⟩=some (ae h)/\W.cell? ⟨a,3,none⟩=some (.slice xa i xc)):=λW ag s=>⟨(ag.cell (p:=⟨c,1,none⟩) ah).trans T.out,af s 0,af s 1,af s 2,af s 3⟩;obtain⟨Z,V,X,N,Y⟩:=q.out H m.out A.out;go_upto_region 5 with fail
 go_region_held3 (λW=>W.cell? ⟨c,1,none⟩=some (ab room)/\W.cell? ⟨a,0,none⟩=some (ab f)/\W.cell? ⟨a,1,none⟩=some (ab g)/\W.cell? ⟨a,2,none⟩=some (ae h)/\W.cell? ⟨a,3,none⟩=some (.slice xa i xc))
  (first|exact q.out _ n.out B.out|exact q.out _ x.out L.out) ((first
   | (go_at_call 39;refine(r.out _ n.out).mono ?_;rintro e an ⟨al,rfl,k⟩;have L:=ao (en k.out.1 B.out);have x:=ao (n.out.trans (k.out.1.mono n.out.size)))))
 have d:=ao (j.out _ x.out);clear Z V X N Y q B n y A m j r L x;by_cases F:ne=0
 ·subst F;obtain⟨b,rfl,M⟩:∃b,al=some ⟨b,0,none⟩/\Hid (C b an):=by
   obtain⟨b,aa,ad⟩:=k.out.2 rfl;exact⟨b,aa,ad⟩
  have S:=ao (l.out _ _ rfl rfl M.out);clear l M k d;go_wp2_with fail;refine S.out.mono ?_;rintro e au ⟨rfl,I⟩;have N:=I.out.2;go_wp2_with fail;exact ar (v:=.tuple #[ab t,ab 0]) (by simp[results,Tryz.results19,go_sem]) rfl ⟨t,0,rfl,I.out.1⟩
 ·have U:=ao (d.out.2.2 rfl F);have ap:(ne==0)=false:=by simpa using F
  clear l k d;go_wp2_with fail;exact ar (v:=.tuple #[ab 0,ab ne]) (by simp[results,Tryz.results19,go_sem]) rfl ⟨0,ne,rfl,U.out⟩
section
variable {p:kJ} {s:Sy} {d:fS} {w:World}
theorem IY{n:Nat}(a:s.may n=true):s.ps.length+n<=12/\s.last+n<=90:=by
 unfold Sy.may at a;simp only[aB,bX]at a;omega
theorem aX.start(j:aX p s d w)(nm:ByteArray)(O:nm.size<=9223372036854775807){m:Nat}(x:Tm (m+1))(P:In w.heap.size w (m+1) x)(K:(av (m+1) x).length<=2097152)(M:d.k<=47000)(J:d.es.length<=99000):ak 19 #[.pointer (some ⟨p.b,0,none⟩),ae nm,df (m+1) x] w λe w'=>∃v r,e=.returned (.tuple #[ab v,ab r])/\Hid ((r=(s.start p.n p.prog p.room nm (m+1) x).2/\(r=0->v=s.last+1))/\∃i,aX p (s.start p.n p.prog p.room nm (m+1) x).1 i w'/\fK 1 0 d i w w'):=by
 obtain⟨q,f⟩:∃q,q=s.start p.n p.prog p.room nm (m+1) x:=⟨_,rfl⟩;rw[<-f];unfold Sy.start at f;have B:∀a,ai w a->q.1=s->∃i,aX p q.1 i a/\fK 1 0 d i w a:=λa c e=>⟨d,by rw[e];exact j.later c,(dH.later d c).un.mono (aF _) (aj _)⟩;refine Dl p.b nm x.1.1 x.1.2.1 x.1.2.2 x.2.1.1 x.2.2.length x.2.1.2 p.room (fQ (m+1) x p.room nm) (s.last+1) (s.may 1) (kC p.n p.prog nm) w (λy a=>∃u,ai w u/\ai u a/\P1 p.lo y nm p.room (cn (m+1) x) [] (d.k+201) (λb=>u.heap.size<=b/\b<a.heap.size) a) (λv r w'=>(r=q.2/\(r=0->v=s.last+1))/\∃i,aX p q.1 i w'/\fK 1 0 d i w w') j.lo.2 j.cells.2.1 (λa c=>(j.later c).mayHave 1 (by decide)) (λa c=>(j.later c).knows nm) (λa c=>?_) (λy a l t L=>?_) λa c=>⟨λe=>?_,λe=>?_,λe t=>?_⟩
 ·refine(P1.new m x p.room nm a O ((P.below c).mono c.size) K).mono ?_;rintro e w' ⟨g,rfl,z⟩;obtain⟨o,E,C⟩:=z.out;refine⟨g,rfl,o,λe=>?_⟩;obtain⟨y,l,t,V,G⟩:=C e;have:=j.lo.1;have:=c.size;exact⟨y,l,a,c,o,G.mono (λb h=>h) (by omega) λb h=>⟨by omega,h.2⟩⟩
 ·simp only[aB]at l;rw[if_neg (by rw[l.1];decide),if_neg (by rw[l.2];decide),if_neg (by rw[t];decide)]at f;obtain⟨u,o,E,C⟩:=L;have A:=o.trans (E.mono o.size);have I:=j.later A;have Z:=o.size;have W:=IY l.1;refine(I.add 0 C (λg h=>?_) (by omega) M J).mono ?_
  ·have:=j.low g;by_cases F:d.ow g=0
   ·exact F
   ·have:=(this F).2;omega
  ·rintro e w' ⟨rfl,z⟩;obtain⟨i,D,H⟩:=z.out;refine⟨rfl,⟨⟨by rw[f],λ_=>rfl⟩,i,by rw[f];exact D,?_⟩,D.cells.2.2.1⟩;obtain⟨Q,R,aa,S,U⟩:=H;have N:bk (λg=>d.ow g≠0) w a:=aD A _;have Y:=A.size;exact⟨N.trans (Q.mono (T:=λg=>d.ow g≠0) λg _ e=>by omega) λg _ e=>e,λg X=>R g (by omega) λh=>by omega,dm S,U⟩
 ·rw[if_pos e]at f;exact⟨⟨by rw[f],(λh=>by cases h)⟩,B a c (by rw[f])⟩
 ·simp only[aB,oB]at e;rw[if_neg (by rw[e.1];decide),if_pos e.2]at f;exact⟨⟨by rw[f],(λh=>by cases h)⟩,B a c (by rw[f])⟩
 ·simp only[aB]at e;rw[if_neg (by rw[e.1];decide),if_neg (by rw[e.2];decide),if_pos t]at f;exact⟨⟨by rw[f],λh=>absurd h t⟩,B a c (by rw[f])⟩
end
theorem MT:(Tryz.prog.info? 60).map (λi=>(i.zero,i.size,i.bytes))=some (some (.pointer none),1,8):=by kernel_rfl
theorem FJ(m:Nat)(pa:Option Addr)(pl pc:Nat)(may:Bool)(room:Int)(w:World)(av u x:Nat->Int)(nm y:Nat->ByteArray)(xa:Nat->Option Addr)(z xc:Nat->Nat)(l:Nat->Bool)(ne:Nat->Int)(r:Nat->List Nat->Value->World->Prop)(N:Nat->Nat->List Nat->Value->World->Prop)(R:Value->Bool->World->Prop)(bJ:pl<=1000)(bD:m<w.heap.size)(aO:Hid (w.cell? ⟨m,1,none⟩=some (ab room)))(V:Hid (∀j,j<pl->∃g,pa=some ⟨g,0,none⟩/\g<w.heap.size/\Hid (w.cell? ⟨g,j*6,none⟩=some (ab (av j))/\w.cell? ⟨g,j*6+1,none⟩=some (ae (nm j))/\w.cell? ⟨g,j*6+2,none⟩=some (ab (u j))/\w.cell? ⟨g,j*6+3,none⟩=some (ab (x j))/\w.cell? ⟨g,j*6+4,none⟩=some (ae (y j))/\w.cell? ⟨g,j*6+5,none⟩=some (.slice (xa j) (z j) (xc j)))))(aR:Hid (ak 37 #[.pointer (some ⟨m,0,none⟩),ab pl] w λe w'=>e=.returned (.bool may)/\w'=w))(Y:Hid (∀j W,j<pl->ai w W->ak 38 #[.pointer (some ⟨m,0,none⟩),ae (nm j)] W λe w'=>e=.returned (.bool (l j))/\ai W w'))(Z:Hid (∀j d v W,j<pl->l j=true->ai w W->r j d v W->ak 39 #[ae (nm j),.agg #[ab (u j),ab (x j),ae (y j),.slice (xa j) (z j) (xc j)],ab room] W λe w'=>∃p:Option Addr,e=.returned (.tuple #[.pointer p,ab (ne j)])/\Hid (ai W w'/\(ne j=0->∃k,p=some ⟨k,0,none⟩/\N j k d v w'))))(an:Hid (r 0 [] (.slice none 0 0) w))(q:Hid (∀j d v W D,r j d v W->ai W D->r j d v D))(M:Hid (∀j k d a c g bm W aG D,j<pl->N j k d (.slice a j c) W->ai W aG->aG.grownBy D (Value.slice a j c).ownBlock->((Value.slice a j c).ownBlock=some g\/g=aG.heap.size)->g<D.heap.size->r (j+1) (d++ [k]) (.slice (some ⟨g,0,none⟩) (j+1) bm) D))(K:Hid (∀W,ai w W->(may=false\/∃j,j<pl/\(l j=false\/ne j≠0))->R (.slice none 0 0) false W))(ad:Hid (∀W d a c,ai w W->may=true->(∀j,j<pl->l j=true/\ne j=0)->d.length=pl->W.ownsRow w.heap.size 60 1 (.slice a pl c) pl (d.map yZ)->r pl d (.slice a pl c) W->R (.slice a pl c) true W)):ak 45 #[.pointer (some ⟨m,0,none⟩),.slice pa pl pc] w λe w'=>∃v b,e=.returned (.tuple #[v,.bool b])/\Hid (R v b w'):=by
 obtain⟨bE,a7,ba,bb,bc⟩:=bQ MT;have X:=ao (⟨a7,ba,bb,bc⟩:_/\_/\_/\_);clear a7 ba bb bc;go_enter Tryz.func45,Tryz.ntmps45;go_wp2_with fail;refine aR.out.mono ?_;rintro e bN ⟨rfl,bd⟩;obtain rfl:=bd.symm;clear bd aR;cases may
 ·have n:=ao (K.out _ (am _ _) (ag rfl));clear K ad M an q Z Y V;go_wp2_with fail;exact ar (v:=.tuple #[.slice none 0 0,.bool false]) (by simp[results,Tryz.results45,go_sem]) rfl ⟨_,_,rfl,n.out⟩
 go_wp2_with fail;go_loopw [6,18] (λo i wr=>∃(j:Nat)(a:Option Addr)(c:Nat),j<=pl/\i=ab j/\o=.slice a j c/\Hid (∃d,d.length=j/\wr.ownsRow w.heap.size 60 1 (.slice a j c) j (d.map yZ)/\r j d (.slice a j c) wr/\ai w wr/\∀i,i<j->l i=true/\ne i=0)) (λ_ i _=>pl-(intOf i).toNat)
 case atStart=>exact⟨0,none,0,aF _,rfl,rfl,[],rfl,ek _ _ _ _,an.out,am _ _,λi h=>by omega⟩
 case round=>
 obtain⟨j,a,c,bI,rfl,rfl,aa⟩:=hrel;by_cases Q:j<pl
 ·obtain⟨g,rfl,bC,aP⟩:=V.out j Q;obtain⟨d,P,S,U,E,T⟩:=aa.out;have aW:=ao S;have a1:=ao U;have HB:=ao E;have aV:=ao T;have bB:=ao P;have s:∀{f:Nat}{v:Value},w.cell? ⟨g,f,none⟩=some v->wr.cell? ⟨g,f,none⟩=some v:=λ{f v} h=>(E.cell (p:=⟨g,f,none⟩) bC).trans h;obtain⟨a2,aq,au,a3,a4,a5⟩:=aP.out;have br:=s a2;have bs:=s aq;have bt:=s au;have bu:=s a3;have bv:=s a4;have bw:=s a5;have bL:(0:Int)<=(j:Int):=by omega
  have bM:(j:Int)<(pl:Int):=by omega
  clear s a2 aq au a3 a4 a5 aP V S U E T P aa;go_upto_region 7 with fail;generalize be:wr.alloc _=aw;have F:Hid (ai wr aw/\aw.heap[wr.heap.size]?=some (.cells #[ab (av j),ae (nm j),ab (u j),ab (x j),ae (y j),.slice (xa j) (z j) (xc j)] 159)):=by
   rw[<-be];exact⟨(am _ _).alloc (aj _) _,az _ _⟩
  clear be br bs bt bu bv bw;obtain⟨f,aK⟩:∃f,f=wr.heap.size:=⟨_,rfl⟩;rw[<-aK];have aB:Hid (aw.heap[f]?=some (.cells #[ab (av j),ae (nm j),ab (u j),ab (x j),ae (y j),.slice (xa j) (z j) (xc j)] 159)):=by rw[aK];exact F.out.2
  have G:=ao (HB.out.trans (F.out.1.mono HB.out.size));have aZ:=ao (q.out _ _ _ _ _ a1.out F.out.1);have aS:=ao (aY aW.out (aD F.out.1 λ_=>False) λ_ _ h=>h);clear aK F aW a1 HB;have C:Hid (∀W:World,ai w W->W.heap[f]?=some (.cells #[ab (av j),ae (nm j),ab (u j),ab (x j),ae (y j),.slice (xa j) (z j) (xc j)] 159)->W.cell? ⟨m,1,none⟩=some (ab room)/\W.cell? ⟨f,1,none⟩=some (ae (nm j))/\W.cell? ⟨f,2,none⟩=some (ab (u j))/\W.cell? ⟨f,3,none⟩=some (ab (x j))/\W.cell? ⟨f,4,none⟩=some (ae (y j))/\W.cell? ⟨f,5,none⟩=some (.slice (xa j) (z j) (xc j))):=λW aI h=>⟨(aI.cell (p:=⟨m,1,none⟩) bD).trans aO.out,af h 1,af h 2,af h 3,af h 4,af h 5⟩;have aH:=(C.out aw G.out aB.out).2.1;have aQ:=ao (λW=>Y.out j W Q);have ax:=ao (λd v W=>Z.out j d v W Q);have L:=ao (λW aI e=>K.out W aI (ah ⟨j,Q,e⟩));have aA:Hid (l j=true->ne j=0->∀i,i<j+1->l i=true/\ne i=0):=λbz bA i bH=>by
   by_cases e:i=j
   ·subst e;exact⟨bz,bA⟩
   ·exact aV.out i (by omega)
  clear Y Z K ad aO aV an;generalize l j=bF at*;generalize ne j=bg at*;go_wp2_with fail;refine(aQ.out _ G.out).mono ?_;rintro e aM ⟨rfl,O⟩;have B:=ao (G.out.trans (O.mono G.out.size));have al:=ao (en O aB.out);have aE:=ao (q.out _ _ _ _ _ aZ.out O);have ay:=ao (aY aS.out (aD O λ_=>False) λ_ _ h=>h);clear aQ G aB aZ aS O aH;cases bF
  ·have n:=ao (L.out _ B.out (ag rfl));clear L ax C aE ay al B M q aA;go_wp2_with fail;exact ar (v:=.tuple #[.slice none 0 0,.bool false]) (by simp[results,Tryz.results45,go_sem]) rfl ⟨_,_,rfl,n.out⟩
  have J:Hid (ai aM aM.drew):=(am _ _).drew;have I:=ao (B.out.trans (J.out.mono B.out.size));have aC:=ao (en J.out al.out);have a0:=ao (q.out _ _ _ _ _ aE.out J.out);have aU:=ao (aY ay.out (aD J.out λ_=>False) λ_ _ h=>h);obtain⟨bq,aH,bn,bo,bp,ap⟩:=C.out aM B.out al.out;clear ay aE;go_upto_region 9 with fail
  go_region_held3 (λW=>W.cell? ⟨m,1,none⟩=some (ab room)/\W.cell? ⟨f,1,none⟩=some (ae (nm j))/\W.cell? ⟨f,2,none⟩=some (ab (u j))/\W.cell? ⟨f,3,none⟩=some (ab (x j))/\W.cell? ⟨f,4,none⟩=some (ae (y j))/\W.cell? ⟨f,5,none⟩=some (.slice (xa j) (z j) (xc j)))
   (first|exact C.out _ I.out aC.out|exact C.out _ H.out aX.out) ((first
    | (go_at_call 39;refine(ax.out _ _ _ (by first|rfl|trivial) I.out a0.out).mono ?_;rintro e aN ⟨bG,rfl,A⟩;have aX:=ao (en A.out.1 aC.out);have H:=ao (I.out.trans (A.out.1.mono I.out.size));have aT:=ao (aY aU.out (aD A.out.1 λ_=>False) λ_ _ h=>h))))
  clear bq aH bn bo bp ap C aC I J al B ax aX a0 aU;by_cases aL:bg=0
  ·subst aL;obtain⟨k,rfl,bk⟩:∃k,bG=some ⟨k,0,none⟩/\Hid (N j k d (.slice a j c) aN):=by
    obtain⟨k,aq,au⟩:=A.out.2 rfl;exact⟨k,aq,au⟩
   have bj:=ao H.out.size;clear L A
   go_wp2_with (first
    | (at_builtin;refine wpList_append_lies _ rfl _ _ 116 rfl w.heap.size 60 bE _ 1 8 Tryz.underlying116 X.out.1 X.out.2.1 X.out.2.2.1 X.out.2.2.2 rfl (by decide) (.slice a j c) j (d.map yZ) rfl (aT.out.alloc _) ⟨aN.heap.size,0,none⟩ 1 1 [.pointer (some ⟨k,0,none⟩)] rfl rfl (World.news_of_block (cs:= #[.pointer (some ⟨k,0,none⟩)]) (t:=60) (fr:=(0,0)) (az aN _)) (by simp[Value.oneCell']) (by decide) (by unfold maxLen;omega) (by omega) (by have:=bj.out;simp;omega) _ rfl ?_;intro bx ap bO a9 aJ a6 a8;have bi:=ao a9;have bl:=ao (M.out _ _ _ _ _ _ ap _ _ _ Q bk.out ((am _ _).alloc (aj _) _) aJ a6 a8);have bh:=ao (H.out.trans (jB aT.out aJ H.out.size));clear a9 aJ a6 a8))
   go_roundw
   case rel=>exact⟨j+1,some ⟨bx,0,none⟩,ap,by omega,by go_num,rfl,d++ [k],by rw[bf,bB.out];rfl,by rw[fH];exact bi.out,bl.out,bh.out,aA.out trivial rfl⟩
   case measure=>simp[intOf];omega
  ·have n:=ao (L.out _ H.out (ah aL));have bK:(bg==0)=false:=by simpa using aL
   clear L A M q aA;go_wp2_with fail;exact ar (v:=.tuple #[.slice none 0 0,.bool false]) (by simp[results,Tryz.results45,go_sem]) rfl ⟨_,_,rfl,n.out⟩
 ·obtain rfl:j=pl:=by omega
  obtain⟨d,P,S,U,E,T⟩:=aa.out;have n:=ao (ad.out _ d _ _ E trivial T P S U);clear K ad M an q Z Y V aa P S U E T;go_wp2_with fail;exact ar (v:=.tuple #[.slice a j c,.bool true]) (by simp[results,Tryz.results45,go_sem]) rfl ⟨_,_,rfl,n.out⟩
def ze(K:Nat)(b:List (Int×Tc))(c:List (Int×ByteArray×Tc))(a:List Int):Prop:=(b.length<=K/\c.length<=K/\a.length<=K)/\(∀x∈b,dk x.1)/\∀x∈a,dk x
theorem Eo{b:List Tc}{self:Int}{n:Nat}{x:Tm n}{h:Int}(a:mK b self n x=some h):dk h:=by
 unfold mK rS at a;cases f:vl 13 b self n x with
 | none=>rw[f]at a;cases a
 | some e=>
  rw[f,dn]at a;by_cases d:bq (13+n) e=0
  ·rw[if_pos d,dn]at a;by_cases c:(cn (13+n) e).1.1=3
   ·rw[if_pos c]at a;obtain rfl:=au a;have i:aA ⟨13,cn (13+n) e⟩:=aJ.2 (bz.1 (rv d)).1;have g:=i _ (oG);simp only[cq,c]at g;simp[pY]at g;unfold dk;omega
   ·rw[if_neg c]at a;cases a
  ·rw[if_neg d]at a;cases a
theorem MN{self:Int}{n K:Nat}{a:Ac (n+1)}{d e:Dg}(b:qu self a d=some e)(k:ze K d.sends d.spawns d.links):ze (K+1) e.sends e.spawns e.links:=by
 unfold qu at b;obtain⟨⟨o,p,q⟩,f,g⟩:=k;split at b
 ·obtain⟨m,h,b⟩:=br.1 b;obtain⟨t,l,rfl⟩:=cd.1 b;refine⟨⟨by simp;omega,by simp;omega,by simp;omega⟩,λj i=>?_,g⟩;rcases da.1 i with c|c
  ·exact f j c
  ·rw[dD.1 c];exact Eo h
 ·split at b
  ·obtain⟨t,l,b⟩:=br.1 b;split at b
   ·obtain rfl:=au b;exact⟨⟨by simp;omega,by simp;omega,by simp;omega⟩,f,g⟩
   ·cases b
  ·split at b
   ·obtain⟨m,h,rfl⟩:=cd.1 b;refine⟨⟨by simp;omega,by simp;omega,by simp;omega⟩,f,λj i=>?_⟩;rcases da.1 i with c|c
    ·exact g j c
    ·rw[dD.1 c];exact Eo h
   ·obtain rfl:=au b;exact⟨⟨by simp;omega,by simp;omega,by simp;omega⟩,f,g⟩
theorem Ik{self:Int}{n:Nat}:(l:List (Ac (n+1)))->{K:Nat}->{d b:Dg}->py self l d=some b->ze K d.sends d.spawns d.links->ze (K+l.length) b.sends b.spawns b.links
 | [],K,d,b,c,hk=>by
  obtain rfl:=au c;exact hk
 | a::l,K,d,b,c,hk=>by
  unfold py at c;obtain⟨e,f,c⟩:=br.1 c;have:=Ik l c (MN f hk);rw[aZ,show K+(l.length+1)=K+1+l.length by omega];exact this
theorem clsC_mem{n:Nat}{s m:Tc}:(l:List (Cl (n+1)))->{y:Cl (n+1)×List Tc}->lD s m l=some y->y.1∈l
 | [],y,h=>by simp[lD]at h
 | c::l,y,h=>by
  unfold lD at h;cases e:kK c s m with
  | none=>
   rw[e]at h;exact bH _ (clsC_mem l h)
  | some b=>
   rw[e]at h;obtain rfl:=au h;exact oG
theorem DR{n:Nat}{l:List (Cl (n+1))}{s:Tc}:(ms:List Tc)->(i:Nat)->{x:Nat×Cl (n+1)×List Tc}->rq l s ms i=some x->x.2.1∈l
 | [],i,x,h=>by simp[rq]at h
 | m::ms,i,x,h=>by
  unfold rq at h;cases e:lD s m l with
  | none=>
   rw[e]at h;exact DR ms (i+1) h
  | some y=>
   rw[e]at h;obtain rfl:=au h;exact clsC_mem l e
theorem qm{n:Nat}{name:ByteArray}:(l:List (Bh n))->{b:Bh n}->fU n name l=some b->b∈l/\b.1=name
 | [],b,h=>by simp[fU]at h
 | c::l,b,h=>by
  unfold fU at h;split at h
  ·rename_i e;obtain rfl:=au h;exact⟨oG,e⟩
  ·exact⟨bH _ (qm l h).1,(qm l h).2⟩
theorem CA{n:Nat}{prog:List (Bh (n+1))}(c:jP (n+1) prog=true){nm:ByteArray}(d:kC n prog nm=true):nm.size<=2048:=by
 obtain⟨b,g⟩:=fJ.1 d;obtain⟨e,f⟩:=qm prog g;unfold jP at c;simp only[aB,b9]at c;have a:=c.2 b e;unfold vt at a;simp only[aB]at a;rw[<-f];exact wj a.1.1.1
theorem JC{n:Nat}{room:Int}{l:List (Bh (n+1))}(j:jP (n+1) l=true){name:ByteArray}{self next:Int}{s:Tc}{ms:List Tc}{f:Tk}(e:mP room l name self next s ms=some f):ze 8 f.sends f.spawns f.links:=by
 unfold mP at e;obtain⟨c,p,e⟩:=br.1 e;obtain⟨y,u,rfl⟩:=cd.1 e;have a:=DR ms 0 p;have r:c.2.1.2.2.length<=8:=by
  unfold fW at a;cases g:fU (n+1) name l with
  | none=>rw[g]at a;simp at a
  | some b=>
   rw[g]at a;have a:c.2.1∈b.2.2:=a;unfold jP at j;simp only[aB,b9]at j;have h:=j.2 b (qm l g).1;unfold vt at h;simp only[aB,b9]at h;have k:=h.2 _ a;unfold sO at k;simp only[aB,bX]at k;omega
 have i:ze 8 [] [] []:=⟨⟨by simp,by simp,by simp⟩,by simp,by simp⟩;unfold eY;cases hd:py self c.2.1.2.2 ⟨c.2.2,next,[],[],[],false⟩with
 | none=>exact i
 | some d=>
  have o:ze 8 d.sends d.spawns d.links:=by
   obtain⟨⟨v,w,x⟩,q⟩:=Ik _ (K:=0) hd ⟨⟨by simp,by simp,by simp⟩,by simp,by simp⟩;exact⟨⟨by omega,by omega,by omega⟩,q⟩
  cases m:rS d.b self (n+1) c.2.1.1.2.2 with
  | none=>simp only[m];exact i
  | some t=>
   simp only[m];split
   ·exact o
   ·exact i
theorem uJ{d:Type}(f:d->List Value)(k:Nat)(c:∀a,(f a).length=k):(l:List d)->(i:Nat)->(a:d)->l[i]?=some a->∀(t:Nat)(b:Value),(f a)[t]?=some b->(l.flatMap f)[i*k+t]?=some b
 | [],i,a,h,_,_,_=>by simp at h
 | x::l,0,a,h,t,b,hu=>by
  simp at h;subst h;rw[bv,dg (by have:=(aM.1 hu).1;omega)];simpa using hu
 | x::l,i+1,a,h,t,b,hu=>by
  rw[bv,dN (by rw[c,Nat.succ_mul];omega),c,show (i+1)*k+t-k=i*k+t by rw[Nat.succ_mul];omega];exact uJ f k c l i a (by simpa using h) t b hu
theorem qJ{w:World}{base:Nat}{e:TypeId}{k:Nat}{v:Value}{n:Nat}{q:Type}{f:q->List Value}{l:List q}(m:w.ownsRow base e k v n (l.flatMap f))(A:0<k)(o:∀d,(f d).length=k):∃a c,v=.slice a n c/\(∀b,a=some b->v.ownBlock=some b.block)/\∀(i:Nat)(d:q),l[i]?=some d->∃g,a=some ⟨g,0,none⟩/\g<w.heap.size/\∀(t:Nat)(j:Value),(f d)[t]?=some j->w.cell? ⟨g,i*k+t,none⟩=some j:=by
 have s:=m;rcases m.2 with⟨rfl,r⟩|⟨g,c,C,rfl,D,z,F⟩
 ·refine⟨none,0,by rw[r],(λb e=>by cases e),λi d p=>?_⟩;have u:=uJ f k o l i d p 0 _ (aE (by rw[o];exact A));have E:=(aM.1 u).1;have x:=m.1;rw[r,Nat.zero_mul]at x;omega
 ·refine⟨_,c,rfl,(λb e=>by cases e;rfl),λi d p=>⟨g,rfl,(aC.1 z).1,λt j B=>?_⟩⟩;have y:=World.ownsRow.cells s (g:=g) rfl _ _ (uJ f k o l i d p t j B);rwa [show∀h,(⟨g,0,none⟩:Addr).add h=⟨g,h,none⟩from λh=>by cases h<;>simp[Addr.add]]at y
def eP(n:Nat)(x:Tm (n+1)):ByteArray:=if x.1.1=4 then match x.2.2[0]? with|some a=>if bN ⟨n,a⟩=2 then (fX n a).1.2.2 else .empty|none=> .empty else .empty
def bI(n:Nat)(x:Tm (n+1)):List (Tm n):=if x.1.1=4 then match x.2.2[0]? with|some a=>if bN ⟨n,a⟩=2 then x.2.2.drop 1 else []|none=> []else []
def si(a s:ByteArray):Bool:=a.toList==s.toList
def DN:(n:Nat)->Tm n->List (Tm (n-1))
 | 0,_=> []
 | _+1,x=>x.2.2
def wi(n:Nat)(x:Tm n):ByteArray:=(fX n x).1.2.2
def yx(M n:Nat)(a b c:Tm n):Option (Ac (M+1)):=if bN ⟨n,a⟩=2/\bN ⟨n,c⟩=5 then some (2,(zT M,aN (M+1) n b),(wi n a,oS n c))else none
def jp(M n:Nat)(d:ByteArray)(q:List (Tm n)):Option (Ac (M+1)):=
 if (si d lU && decide (q.length=2))=true then (q[0]?).bind λa=>(q[1]?).bind λb=>some (1,(aN (M+1) n a,aN (M+1) n b),(.empty,0))
 else if (si d iF && decide (q.length=3))=true then (q[0]?).bind λa=>(q[1]?).bind λb=>(q[2]?).bind λc=>yx M n a b c
 else if (si d lT && decide (q.length=1))=true then (q[0]?).bind λa=>some (3,(aN (M+1) n a,zT M),(.empty,0))
 else if (si d ld && decide (q.length=0))=true then some (4,(zT M,zT M),(.empty,0))else none
def rK(M:Nat):(n:Nat)->Tm n->Option (Ac (M+1))
 | 0,_=>none
 | n+1,x=>jp M n (eP n x) (bI n x)
def rL(M n:Nat)(e:ByteArray)(q:List (Tm n)):Option (Cl (M+1)):=
 if (si e Kj && decide (q.length=4))=true then (q[0]?).bind λa=>(q[1]?).bind λb=>(q[2]?).bind λc=>(q[3]?).bind λd=>
  if bN ⟨n,c⟩=4 then (cC (rK M (n-1)) (DN n c)).map λl=>((aN (M+1) n a,aN (M+1) n b,aN (M+1) n d),(none,0),l)else none
 else none
def yw(M:Nat):(n:Nat)->Tm n->Option (Cl (M+1))
 | 0,_=>none
 | n+1,x=>rL M n (eP n x) (bI n x)
def sT(M n:Nat)(b:ByteArray)(q:List (Tm n)):Option (Bh (M+1)):=
 if si b te=true then (q[0]?).bind λa=>if bN ⟨n,a⟩=2 then (cC (yw M n) (q.drop 1)).map λl=>(wi n a,(none,0),l)else none
 else none
def yv(M:Nat):(n:Nat)->Tm n->Option (Bh (M+1))
 | 0,_=>none
 | n+1,x=>sT M n (eP n x) (bI n x)
def AW(M:Nat):(n:Nat)->Tm n->Option (List (Bh (M+1)))
 | 0,_=>none
 | n+1,x=>if si (eP n x) nd=true then cC (yv M n) (bI n x)else none
def qe{a:Type}(f:a->List Value)(h:Nat->World->a->Prop)(i:(Nat->Prop)->a->Prop)(S:a->a->Prop)(o:Option a)(w:World)(e:Ending)(w':World):Prop:=
 ∃(c:a)(d:Bool),e=.returned (.tuple #[.agg (f c).toArray,.bool d])/\Hid (ai w w'/\d=o.isSome/\h w'.heap.size w' c/\i (λb=>w.heap.size<=b) c/\∀g,o=some g->S c g)
def kN{a:Type}(k:Nat)(f:a->List Value)(i:Nat->World->a->Prop)(j:(Nat->Prop)->a->Prop)(S:a->a->Prop)(o:Option (List a))(w:World)(e:Ending)(w':World):Prop:=
 ∃(l:List a)(d:Option Addr)(c:Nat)(g:Bool),e=.returned (.tuple #[.slice d l.length c,.bool g])/\Hid (ai w w'/\g=o.isSome/\(l.length<=c/\c<=maxLen)/\pr w'.heap.size w' k f (i w'.heap.size w') d l/\sN (j (λb=>w.heap.size<=b)) (λb=>w.heap.size<=b) d l/\∀h,o=some h->eD S l h)
theorem ri{d e:Type}(f:d->Option e)(p:List d)(k:Nat)(x:d)(i:p[k]?=some x)(l:List e)(y:e)(a:cC f (p.take k)=some l)(j:f x=some y):cC f (p.take (k+1))=some (l++ [y]):=by
 rw[dx,i];have key:∀(c:List d)(l:List e),cC f c=some l->cC f (c++ [x])=some (l++ [y]):=by
  intro c
  induction c with
  | nil=>intro l a;simp[cC]at a;subst a;simp[cC,j]
  | cons n c ih=>
   intro l a;simp only[cC]at a;obtain⟨b,g,a⟩:=br.1 a;obtain⟨m,h,rfl⟩:=cd.1 a;simp only[fG,cC,g,ih m h];rfl
 exact key _ _ a
end Go.Proofs.YtckamaoibonjcaaGreat
