/- What is proved here: plain facts and contracts that the claimed theorem stands on. No condition but those that each names. -/
import Derived.Test.YtckamaoibonjcaaGreatG32
namespace Go.Proofs.YtckamaoibonjcaaGreat
open Go.RowKit
set_option maxRecDepth 100000
set_option maxHeartbeats 4000000
theorem K4(a:Nat)(W:World):(binOp .eql 62 (.map (some a)) (.map none)).run Tryz.prog W=.ok (.bool false) W:=by kernel_rfl
theorem KZ(W:World):(binOp .eql 62 (.map none) (.map none)).run Tryz.prog W=.ok (.bool true) W:=by kernel_rfl
theorem F4(b o d:Nat)(n:Option Nat)(a G c:Int)(w w1 w2:World)(y:Int->Int->ByteArray->Option Addr->Nat->Nat->World->Prop)(k R:World->Prop)(S:IntKind.i64.wrap (G+1)=c)(T:b<w.heap.size)(C:Hid (w.cell? ⟨b,3,none⟩=some (.map n)/\w.frozen? ⟨b,3,none⟩=false))(P:(n=none/\d=w.heap.size/\w1=(w.setCell ⟨b,3,none⟩ (.map (some d))).alloc (.map #[] 0))\/(n=some d/\w1=w))(p:Hid (w1.cell? ⟨b,2,none⟩=some (.int .i64 G)/\w1.frozen? ⟨b,2,none⟩=false))(A:w2=w1.setCell ⟨b,2,none⟩ (.int .i64 c))(j:Hid (∀W,ag w2 W->W.cell? ⟨b,2,none⟩=some (.int .i64 c)/\W.cell? ⟨b,3,none⟩=some (.map (some d))))(u:Hid (∀W,ag w2 W->∃f,(Instr.mapUpdate 62 (.map (some d)) (.int .i64 c) (yR o)).run Tryz.prog W=.ok () f/\(f.cell? ⟨b,2,none⟩=some (.int .i64 c)/\f.cell? ⟨b,3,none⟩=some (.map (some d)))/\Hid (k f)))(s:Hid (∀W g,k W->ag W g->g.cell? ⟨b,2,none⟩=some (.int .i64 c)))(I:Hid (∀W g,k W->ag W g->ah 24 #[.pointer (some ⟨o,0,none⟩)] g λe w'=>∃y0 y1 y2 ya yl yc,e=.returned (.agg #[.int .i64 y0,.int .i64 y1,.string y2,.slice ya yl yc])/\Hid (ag g w'/\y y0 y1 y2 ya yl yc w')))(J:Hid (∀y0 y1 y2 ya yl yc W,y y0 y1 y2 ya yl yc W->ah 44 #[.pointer (some ⟨b,0,none⟩),.string ⟨#[115,112,97,119,110]⟩,.int .i64 a,.int .i64 c,.agg #[.int .i64 y0,.int .i64 y1,.string y2,.slice ya yl yc]] W λe w'=>e=.returned (.tuple #[])/\Hid (R w'/\w'.cell? ⟨b,2,none⟩=some (.int .i64 c)))):ah 40 #[.pointer (some ⟨b,0,none⟩),.int .i64 a,.pointer (some ⟨o,0,none⟩)] w λe w'=>e=.returned (.tuple #[])/\Hid (R w'):=by
 obtain⟨L,O⟩:=C.out;have Q:= @run_makeMap Tryz.prog;have m:Hid (ag w2 w2.drew):=(ak _ _).drew;have h:Hid (∀W:World,ag W W.drew):=λW=>(ak _ _).drew;go_enter Tryz.func40,Tryz.ntmps40;rcases P with⟨rfl,D,i⟩|⟨rfl,i⟩
 case' inl=>
  have E:=KZ;go_upto_region 2 with fail;rw[<-D,<-i];clear D
 case' inr=>
  have E:=K4 d;go_upto_region 2 with fail;rw[<-i]
 all_goals
  clear L O i C E Q;obtain⟨K,N⟩:=p.out;go_upto_region 3 with fail;rw[<-A];clear A K N p;obtain⟨z,M⟩:=j.out _ m.out;obtain⟨f,F,B,l⟩:=u.out _ m.out;unfold yR at F;have t:=aj B;have r:=aj (j.out _ m.out);clear u j;go_region_held3 (λW=>W.cell? ⟨b,2,none⟩=some (.int .i64 c)/\W.cell? ⟨b,3,none⟩=some (.map (some d))) (first|exact r.out|exact t.out) (fail);clear F r B z M;have z:=t.out.1;go_upto_region 4 with fail
  go_region_held3 (λW=>W.cell? ⟨b,2,none⟩=some (.int .i64 c)) (first|exact s.out _ _ l.out (h.out _)|exact s.out _ _ l.out H.out|exact q.out.2) ((first
   | (go_at_call 24;refine(I.out _ _ l.out (h.out _)).mono ?_;rintro e U ⟨y0,y1,y2,ya,yl,yc,rfl,x⟩;have H:=aj ((h.out f).trans (x.out.1.mono (h.out f).size)))
   | (go_at_call 44;refine(J.out _ _ _ _ _ _ _ x.out.2).mono ?_;rintro e V ⟨rfl,q⟩)))
  go_wp2_with fail;exact dM (v:=.tuple #[]) (by simp[results]) rfl ⟨rfl,q.out.1⟩
section
variable {p:lh} {s:Sy} {d:gf} {w:World}
def Md(M:Nat->Prop)(a:Nat)(d b:gf)(w w':World):Prop:=bi (λq=>d.ow q<0) w w'/\(∀q,q<w.heap.size->¬M q->b.ow q=d.ow q)/\(∀q,M q->1<=b.ow q)/\b.k=d.k/\b.es.length<=d.es.length+a/\b.wn<=d.wn+a/\b.bn<=d.bn+a
theorem nT{b:Type}(l:List (Int×b))(k j:Int)(v:b)(c:∀q∈l,q.1≠k):((l++ [(k,v)]).find? λq=>q.1==j)=if j=k then some (k,v)else l.find? λq=>q.1==j:=by
 rw[List.find?_append];by_cases a:j=k
 ·subst a;rw[if_pos rfl,oy.2 λq d=>by simpa using c q d];simp
 ·rw[if_neg a];have:(k==j)=false:=by simpa using λe:k=j=>a e.symm
  simp[this]
def MC(d:gf)(M:Nat->Prop)[DecidablePred M](a:Nat)(k:Int)(q:Nat):Int:=if M q then k else if q=a then -5 else d.ow q
theorem aX.addG(e:aX p s d w){m c:Nat}{nm:ByteArray}{cs:Tc}{M:Nat->Prop}[DecidablePred M](B:P1 p.lo m nm p.room cs [] (d.k+201) M w)(A:∀q,M q->d.ow q=0)(aa:s.ps.length<12/\s.last<90){w':World}(f:bi (λq=>d.ow q=-5) w w')(P:d.ow c≠0->d.ow c=-5)(N:¬M c)(O:p.lo<=c/\c<w'.heap.size)(Q:c≠p.b)(o:w'.heap[p.b]?=some (.cells (dK p {s with last:=s.last+1} {d with po:=some c}) 70))(L:IM w' c (d.l++ [(s.last+1,m)])):aX p {s with last:=s.last+1,ps:=s.ps++ [(s.last+1,nm,cs,[])]} {d with ow:=MC d M c (s.last+1),po:=some c,l:=d.l++ [(s.last+1,m)]} w':=by
 obtain⟨y,J,z,X,Y,Z⟩:=e.keys;have i:∀b,d.ow b≠0->MC d M c (s.last+1) b=d.ow b:=λb h=>by
  unfold MC;rw[if_neg λa=>h (A b a)];by_cases g:b=c
  ·subst g;rw[if_pos rfl,P h]
  ·rw[if_neg g]
 have r:∀b,MC d M c (s.last+1) b≠0->p.lo<=b/\b<w'.heap.size:=λb h=>by
  unfold MC at h;split at h
  ·rename_i a;have:=P1.lie2 B b a;exact⟨this.1,aJ this.2 f.size⟩
  ·split at h
   ·rename_i a;subst a;exact O
   ·exact⟨(e.low b h).1,aJ (e.low b h).2 f.size⟩
 have t:∀{t:Int},t≠ -5->∀b,d.ow b=t->¬d.ow b=-5:=λT b g a=>T (g.symm.trans a);have n:∀q∈s.ps,q.1≠s.last+1:=λq j=>by have:=(z q j).2;omega
 have R:∀q∈d.l,q.1≠s.last+1:=λq j=>by
  have K:q.1∈s.ps.map (·.1):=by rw[<-y];exact bZ.2 ⟨q,j,rfl⟩
  obtain⟨v,u,g⟩:=bZ.1 K;rw[<-g];exact n v u
 obtain⟨y1,y2,W⟩:=e.wyK f (t (by decide)) i (q:=yS p {s with last:=s.last+1} {d with po:=some c}) rfl (pK o).1;obtain⟨H,I⟩:=e.evK f (t (by decide)) i;refine⟨r,o,(i p.b (by rw[e.own];decide)).trans e.own,⟨e.pgK f (t (by decide)) i,e.pg.2⟩,af ⟨c,rfl,(if_neg N).trans (if_pos rfl),Q,L⟩,⟨by simp[y],?_,λq j=>?_,by show 0<=s.last+1;omega,by show s.last+1<=90;omega,by simp;omega⟩,λk b q=>?_,⟨y1,y2,e.wy.2.2.1,e.wy.2.2.2.1,W⟩,e.bdK f (t (by decide)) i rfl (pK o).2,H,e.evt.1,I⟩
 ·simp only[gV,aH,bS];refine eQ.2 ⟨J,by simp,λab U ad V=>?_⟩;obtain⟨v,u,rfl⟩:=bZ.1 U;rw[dA.1 V];exact n v u
 ·show 1<=q.1/\q.1<=s.last+1;rcases cU.1 j with a|a
  ·have:=z q a;omega
  ·rw[dA.1 a];show 1<=s.last+1/\s.last+1<=s.last+1;omega
 ·have q:cJ (d.l++ [(s.last+1,m)]) k=some b:=q;unfold cJ at q;rw[nT _ _ _ _ R]at q;by_cases g:k=s.last+1
  ·subst g;rw[if_pos rfl]at q;obtain rfl:m=b:=by simpa using q
   refine⟨nm,cs,[],?_,(B.kept (S:=λq=>d.ow q=-5) ⟨f.os,f.tape,f.output,f.size,f.block⟩ λb a=>by rw[A b a];decide).mono (λb a=>if_pos a) (ai _) λb a=>r b (by have a:MC d M c (s.last+1) b=s.last+1:=a;rw[a];omega),aB _⟩;unfold Sy.get;simp only;rw[nT _ _ _ _ n,if_pos rfl];rfl
  ·rw[if_neg g]at q;have C:cJ d.l k=some b:=q;have:=(e.key C).1;obtain⟨D,E,F,x,G⟩:=e.psK f (ai _) (t (by omega)) i r C;refine⟨D,E,F,?_,G⟩;unfold Sy.get at x ⊢;simp only;rw[nT _ _ _ _ n,if_neg g];exact x
open Classical in
theorem aX.add(n:aX p s d w)(a:Int){z:Nat}{nm:ByteArray}{cs:Tc}{M:Nat->Prop}(I:P1 p.lo z nm p.room cs [] (d.k+201) M w)(Y:∀q,M q->d.ow q=0)(aV:s.ps.length<12/\s.last<90)(aj:d.k<=47000)(bd:d.es.length<=99000):ah 40 #[.pointer (some ⟨p.b,0,none⟩),.int .i64 a,.pointer (some ⟨z,0,none⟩)] w λe w'=>e=.returned (.tuple #[])/\Hid (∃C,aX p (s.add a nm cs) C w'/\Md M 1 d C w w'):=by
 obtain⟨aU,ao⟩:=n.lo;have N:=n.box;obtain⟨a8,a9,ba,aB⟩:=n.cells;obtain⟨_,_,aI,bb,bc,_⟩:=n.keys;have ag:∀{h:World}{cs:Array Value}{o:Nat},h.heap[p.b]?=some (.cells cs 70)->h.frozen? ⟨p.b,o,none⟩=false:=λe=>by simp[World.frozen?,e]
 obtain⟨c,m,aW,J,aK,aQ,O,aM,P,an⟩:∃c m,((d.po=none/\c=w.heap.size/\m=(w.setCell ⟨p.b,3,none⟩ (.map (some c))).alloc (.map #[] 0))\/(d.po=some c/\m=w))/\m.heap[p.b]?=some (.cells (dK p s {d with po:=some c}) 70)/\IM m c d.l/\bi (λq=>d.ow q=-5) w m/\(c<w.heap.size->d.ow c=-5)/\¬M c/\c≠p.b/\p.lo<=c/\c<m.heap.size:=by
  rcases n.pm with⟨A,u⟩|⟨c,A,u,H,aG⟩
  ·have aO:(w.setCell ⟨p.b,3,none⟩ (.map (some w.heap.size))).heap[p.b]?=some (.cells (dK p s {d with po:=some w.heap.size}) 70):=by
     simp[World.setCell,bC,N,dK]
   have R:(w.setCell ⟨p.b,3,none⟩ (.map (some w.heap.size))).heap.size=w.heap.size:=by simp[World.setCell]
   have aj:bi (λq=>d.ow q=-5) w ((w.setCell ⟨p.b,3,none⟩ (.map (some w.heap.size))).alloc (.map #[] 0)):=((bt w p.b 3 _).mono λq _ e=>by rw[e];exact n.own).trans (aE ((ak _ _).alloc (ai _) _) λ_=>False) λ_ _ e=>e.elim;refine⟨w.heap.size,_,ae ⟨A,rfl,rfl⟩,(heap_alloc_old _ _ (by rw[R];exact ao)).trans aO,?_,aj,λg=>by omega,λg=>?_,by omega,aU,?_⟩
   ·rw[u];have:=vb.new (f:=yR) (w.setCell ⟨p.b,3,none⟩ (.map (some w.heap.size)));rw[R]at this;exact this
   ·have:=(P1.lie2 I _ g).2;omega
   ·have:=ax (w.setCell ⟨p.b,3,none⟩ (.map (some w.heap.size))) (.map #[] 0);rw[R]at this;exact(aA.1 this).1
  ·refine⟨c,w,af ⟨A,rfl⟩,?_,aG,bi.refl _ _,λ_=>u,λg=>?_,H,n.low c (by rw[u];decide)⟩
   ·rw[N];unfold dK;rw[A]
   ·have:=Y c g;rw[u]at this;cases this
 obtain⟨y,F⟩:∃y,y=m.setCell ⟨p.b,2,none⟩ (.int .i64 (s.last+1)):=⟨_,rfl⟩;have K:y.heap[p.b]?=some (.cells (dK p {s with last:=s.last+1} {d with po:=some c}) 70):=by
  rw[F];simp[World.setCell,bC,J,dK]
 have bg:y.heap.size=m.heap.size:=by rw[F];simp[World.setCell]
 have al:bi (λq=>q=p.b) m y:=by rw[F];exact bt m p.b 2 _
 have aR:bi (λq=>d.ow q=-5) w y:=aQ.trans al λq _ e=>by rw[e];exact n.own
 have aL:IM y c d.l:=aK.kept (al.block c an.2 P);obtain⟨B,E⟩:∃B:Sy,B={s with last:=s.last+1,ps:=s.ps++ [(s.last+1,nm,cs,[])]}:=⟨_,rfl⟩;obtain⟨t,v⟩:∃t:gf,t={d with ow:=MC d M c (s.last+1),po:=some c,l:=d.l++ [(s.last+1,z)]}:=⟨_,rfl⟩;have Q:cJ d.l (s.last+1)=none:=by
  cases e:cJ d.l (s.last+1)with
  | none=>rfl
  | some b=>have:=(n.key e).2;omega
 have aP:cJ t.l (s.last+1)=some z:=by
  rw[v];show cJ (d.l++ [(s.last+1,z)]) (s.last+1)=_;unfold cJ at Q ⊢;rw[List.find?_append,Option.map_eq_none_iff.1 Q];simp
 have aT:B.last=s.last+1:=by rw[E]
 refine F4 p.b z c d.po a s.last (s.last+1) w m y (λy0 y1 y2 ya yl yc h=>∃i:Tc,(i.1=(y0,y1,y2)/\i.2.1=(ya,yc)/\i.2.2.length=yl)/\In h.heap.size h 13 i/\bm 13 i=0/\cn 13 i=cs/\aX p B t h/\bi (λq=>d.ow q=-5) w h) (λh=>aX p B t h/\bi (λq=>d.ow q=-5) w h) (λw'=>∃C,aX p (s.add a nm cs) C w'/\Md M 1 d C w w') (by rw[IntKind.wrap];simp[IntKind.bits,IntKind.signed];omega) ao ⟨aB,ag N⟩ aW ⟨ab J 2,ag J⟩ F (λh j=>?_) (λh j=>?_) (λh az D j=>?_) (λh az D j=>?_) (λy0 y1 y2 ya yl yc h aN=>?_)
 ·have aa:=fj j K;exact⟨ab aa 2,ab aa 3⟩
 ·obtain⟨T,a2,a3,ar,bj⟩:=(vb.put (aL.kept (j.block c (by omega))) Tryz.underlying62 Q z);have L:T.heap[p.b]?=_:=(ar.block p.b (aJ (aA.1 K).1 j.size) P.symm).trans (fj j K);have am:bi (λq=>d.ow q=-5) w T:=by
   have aS:bi (λq=>d.ow q=-5) w h:=aR.trans (aE j λ_=>False) λ_ _ e=>e.elim;exact aS.trans ar λq r e=>by rw[e]at r ⊢;exact O r
  refine⟨T,a2,⟨ab L 2,ab L 3⟩,?_,am⟩;rw[E,v];exact n.addG I Y aV am (λg=>O (n.low _ g).2) aM ⟨an.1,by have:=j.size;omega⟩ P L a3
 ·have:=(D.1.later j).cells.2.2.1;rw[aT]at this;exact this
 ·have Z:=D.1.later j;obtain⟨a1,aD,aC,x,S,bh⟩:=Z.ps _ _ aP;have e:B.get (s.last+1)=some (nm,cs,[]):=by
   rw[E];unfold Sy.get;simp only;rw[nT _ _ _ _ λq r=>by have:=(aI q r).2;omega,if_pos rfl];rfl
  rw[e]at x;obtain⟨rfl,rfl,rfl⟩:nm=a1/\cs=aD/\[]=aC:=by
   injection x with x;injection x with A u;injection u with u H;exact⟨A,u,H⟩
  have bf:t.k=d.k:=by rw[v]
  refine(S.state (by omega)).mono ?_;rintro e w' ⟨i,rfl,G⟩;obtain⟨y1,y2,bk,a6,a7⟩:=G.out;exact⟨i.1.1,i.1.2.1,i.1.2.2,i.2.1.1,i.2.2.length,i.2.1.2,rfl,y1,i,⟨rfl,rfl,rfl⟩,y2,a6,a7,Z.later y1,(D.2.trans (aE j λ_=>False) λ_ _ e=>e.elim).trans (aE y1 λ_=>False) λ_ _ e=>e.elim⟩
 ·obtain⟨i,⟨U,V,aH⟩,aY,aZ,a0,ap,aq⟩:=aN;obtain⟨⟨bl,bn,bo⟩,⟨bp,bq⟩,br⟩:=i;simp only[fC]at U V;obtain⟨rfl,rfl,rfl⟩:=U;obtain⟨rfl,rfl⟩:=V;subst aH;have ad:t.es=d.es:=by rw[v]
  refine(ap.tell xI a (s.last+1) _ _ _ _ _ _ _ (jL aY aZ) (by rw[ad];omega)).mono ?_;rintro e w' ⟨rfl,G⟩;obtain⟨aF,x,S⟩:=G.out.up ap;rw[a0,E]at x;refine⟨rfl,⟨aF,x,?_⟩,?_⟩
  ·obtain⟨a4,au,a5,av,aw,ay⟩:=S;have W:∀q,q<w.heap.size->¬M q->t.ow q=d.ow q:=λq r g=>by
    rw[v];refine(if_neg g).trans ?_;by_cases e:q=c
    ·rw[if_pos e,e];exact(O (e▸r)).symm
    ·exact if_neg e
   have X:∀q,M q->t.ow q=s.last+1:=λq g=>by
    rw[v];exact if_pos g
   have be:=aq.size;refine⟨(aq.mono λq _ e=>by rw[e];decide).trans a4 λq r e=>?_,λq r g=>(au q (by omega)).trans (W q r g),λq g=>?_,by rw[a5,v],by rw[ad]at av;exact av,by rw[v]at aw;exact aw,by rw[v]at ay;exact ay⟩
   ·by_cases g:M q
    ·rw[X q g]at e;omega
    ·rw[W q r g]at e;exact e
   ·have:=(P1.lie2 I q g).2;rw[au q (by omega),X q g];omega
  ·have:=x.cells.2.2.1;exact this
end
theorem Da(c:Nat)(nm:ByteArray)(f g:Int)(h:ByteArray)(xa:Option Addr)(i xc:Nat)(room ne t:Int)(may o:Bool)(w:World)(C:Nat->World->Prop)(R:Int->Int->World->Prop)(af:c<w.heap.size)(T:Hid (w.cell? ⟨c,1,none⟩=some (.int .i64 room)))(J:Hid (∀W,ag w W->ah 37 #[.pointer (some ⟨c,0,none⟩),.int .i64 1] W λe w'=>e=.returned (.bool may)/\w'=W))(z:Hid (∀W,ag w W->ah 38 #[.pointer (some ⟨c,0,none⟩),.string nm] W λe w'=>e=.returned (.bool o)/\ag W w'))(r:Hid (∀W,ag w W->ah 39 #[.string nm,.agg #[.int .i64 f,.int .i64 g,.string h,.slice xa i xc],.int .i64 room] W λe w'=>∃p:Option Addr,e=.returned (.tuple #[.pointer p,.int .i64 ne])/\Hid (ag W w'/\(ne=0->∃b,p=some ⟨b,0,none⟩/\C b w'))))(l:Hid (∀b W,(may && o)=true->ne=0->C b W->ah 40 #[.pointer (some ⟨c,0,none⟩),.int .i64 0,.pointer (some ⟨b,0,none⟩)] W λe w'=>e=.returned (.tuple #[])/\Hid (R t 0 w'/\w'.cell? ⟨c,2,none⟩=some (.int .i64 t))))(j:Hid (∀W,ag w W->(may=false->R 0 2 W)/\((may && !o)=true->R 0 4 W)/\((may && o)=true->ne≠0->R 0 ne W))):ah 19 #[.pointer (some ⟨c,0,none⟩),.string nm,.agg #[.int .i64 f,.int .i64 g,.string h,.slice xa i xc]] w λe w'=>∃v Q,e=.returned (.tuple #[.int .i64 v,.int .i64 Q])/\Hid (R v Q w'):=by
 go_enter Tryz.func19,Tryz.ntmps19;go_upto_region 1 with fail;generalize O:w.alloc _=G;have u:Hid (ag w G/\G.heap[w.heap.size]?=some (.cells #[.int .i64 f,.int .i64 g,.string h,.slice xa i xc] 30)):=by
  rw[<-O];exact⟨(ak _ _).alloc (ai _) _,ax _ _⟩
 clear O;obtain⟨a,E⟩:∃a,a=w.heap.size:=⟨_,rfl⟩;rw[<-E];have K:Hid (G.heap[a]?=some (.cells #[.int .i64 f,.int .i64 g,.string h,.slice xa i xc] 30)):=by rw[E];exact u.out.2
 have HB:=aj u.out.1;clear E u;go_wp2_with fail;refine(J.out _ HB.out).mono ?_;rintro e ao ⟨rfl,P⟩;obtain rfl:=P.symm;clear P J;cases may
 ·have d:=aj ((j.out _ HB.out).1 rfl);clear l j r z;go_wp2_with fail;exact ap (v:=.tuple #[.int .i64 0,.int .i64 2]) (by simp[results,Tryz.results19,go_sem]) rfl ⟨0,2,rfl,d.out⟩
 go_wp2_with fail;refine(z.out _ HB.out).mono ?_;rintro e H ⟨rfl,D⟩;have m:=aj (HB.out.trans (D.mono HB.out.size));have A:=aj (fj D K.out);clear z K HB D;cases o
 ·have d:=aj ((j.out _ m.out).2.1 rfl);clear l j r;go_wp2_with fail;exact ap (v:=.tuple #[.int .i64 0,.int .i64 4]) (by simp[results,Tryz.results19,go_sem]) rfl ⟨0,4,rfl,d.out⟩
 have y:Hid (ag H H.drew):=(ak _ _).drew;have n:=aj (m.out.trans (y.out.mono m.out.size));have B:=aj (fj y.out A.out);have q:Hid (∀W:World,ag w W->W.heap[a]?=some (.cells #[.int .i64 f,.int .i64 g,.string h,.slice xa i xc] 30)->W.cell? ⟨c,1,none⟩=some (.int .i64 room)/\W.cell? ⟨a,0,none⟩=some (.int .i64 f)/\W.cell? ⟨a,1,none⟩=some (.int .i64 g)/\W.cell? ⟨a,2,none⟩=some (.string h)/\W.cell? ⟨a,3,none⟩=some (.slice xa i xc)):=λW ae s=>⟨(ae.cell (p:=⟨c,1,none⟩) af).trans T.out,ab s 0,ab s 1,ab s 2,ab s 3⟩;obtain⟨Z,V,X,N,Y⟩:=q.out H m.out A.out;go_upto_region 5 with fail
 go_region_held3 (λW=>W.cell? ⟨c,1,none⟩=some (.int .i64 room)/\W.cell? ⟨a,0,none⟩=some (.int .i64 f)/\W.cell? ⟨a,1,none⟩=some (.int .i64 g)/\W.cell? ⟨a,2,none⟩=some (.string h)/\W.cell? ⟨a,3,none⟩=some (.slice xa i xc))
  (first|exact q.out _ n.out B.out|exact q.out _ x.out L.out) ((first
   | (go_at_call 39;refine(r.out _ n.out).mono ?_;rintro e am ⟨al,rfl,k⟩;have L:=aj (fj k.out.1 B.out);have x:=aj (n.out.trans (k.out.1.mono n.out.size)))))
 have d:=aj (j.out _ x.out);clear Z V X N Y q B n y A m j r L x;by_cases F:ne=0
 ·subst F;obtain⟨b,rfl,M⟩:∃b,al=some ⟨b,0,none⟩/\Hid (C b am):=by
   obtain⟨b,aa,ad⟩:=k.out.2 rfl;exact⟨b,aa,ad⟩
  have S:=aj (l.out _ _ rfl rfl M.out);clear l M k d;go_wp2_with fail;refine S.out.mono ?_;rintro e aq ⟨rfl,I⟩;have N:=I.out.2;go_wp2_with fail;exact ap (v:=.tuple #[.int .i64 t,.int .i64 0]) (by simp[results,Tryz.results19,go_sem]) rfl ⟨t,0,rfl,I.out.1⟩
 ·have U:=aj (d.out.2.2 rfl F);have an:(ne==0)=false:=by simpa using F
  clear l k d;go_wp2_with fail;exact ap (v:=.tuple #[.int .i64 0,.int .i64 ne]) (by simp[results,Tryz.results19,go_sem]) rfl ⟨0,ne,rfl,U.out⟩
section
variable {p:lh} {s:Sy} {d:gf} {w:World}
theorem IC{n:Nat}(a:s.may n=true):s.ps.length+n<=12/\s.last+n<=90:=by
 unfold Sy.may at a;simp only[ay,bT]at a;omega
theorem aX.start(j:aX p s d w)(nm:ByteArray)(O:nm.size<=9223372036854775807){m:Nat}(x:Tm (m+1))(P:In w.heap.size w (m+1) x)(K:(ar (m+1) x).length<=2097152)(M:d.k<=47000)(J:d.es.length<=99000):ah 19 #[.pointer (some ⟨p.b,0,none⟩),.string nm,dd (m+1) x] w λe w'=>∃v r,e=.returned (.tuple #[.int .i64 v,.int .i64 r])/\Hid ((r=(s.start p.n p.prog p.room nm (m+1) x).2/\(r=0->v=s.last+1))/\∃i,aX p (s.start p.n p.prog p.room nm (m+1) x).1 i w'/\fE 1 0 d i w w'):=by
 obtain⟨q,f⟩:∃q,q=s.start p.n p.prog p.room nm (m+1) x:=⟨_,rfl⟩;rw[<-f];unfold Sy.start at f;have B:∀a,ag w a->q.1=s->∃i,aX p q.1 i a/\fE 1 0 d i w a:=λa c e=>⟨d,by rw[e];exact j.later c,(dG.later d c).un.mono (aB _) (ai _)⟩;refine Da p.b nm x.1.1 x.1.2.1 x.1.2.2 x.2.1.1 x.2.2.length x.2.1.2 p.room (fK (m+1) x p.room nm) (s.last+1) (s.may 1) (ky p.n p.prog nm) w (λy a=>∃u,ag w u/\ag u a/\P1 p.lo y nm p.room (cn (m+1) x) [] (d.k+201) (λb=>u.heap.size<=b/\b<a.heap.size) a) (λv r w'=>(r=q.2/\(r=0->v=s.last+1))/\∃i,aX p q.1 i w'/\fE 1 0 d i w w') j.lo.2 j.cells.2.1 (λa c=>(j.later c).mayHave 1 (by decide)) (λa c=>(j.later c).knows nm) (λa c=>?_) (λy a l t L=>?_) λa c=>⟨λe=>?_,λe=>?_,λe t=>?_⟩
 ·refine(P1.new m x p.room nm a O ((P.below c).mono c.size) K).mono ?_;rintro e w' ⟨g,rfl,z⟩;obtain⟨o,E,C⟩:=z.out;refine⟨g,rfl,o,λe=>?_⟩;obtain⟨y,l,t,V,G⟩:=C e;have:=j.lo.1;have:=c.size;exact⟨y,l,a,c,o,G.mono (λb h=>h) (by omega) λb h=>⟨by omega,h.2⟩⟩
 ·simp only[ay]at l;rw[if_neg (by rw[l.1];decide),if_neg (by rw[l.2];decide),if_neg (by rw[t];decide)]at f;obtain⟨u,o,E,C⟩:=L;have A:=o.trans (E.mono o.size);have I:=j.later A;have Z:=o.size;have W:=IC l.1;refine(I.add 0 C (λg h=>?_) (by omega) M J).mono ?_
  ·have:=j.low g;by_cases F:d.ow g=0
   ·exact F
   ·have:=(this F).2;omega
  ·rintro e w' ⟨rfl,z⟩;obtain⟨i,D,H⟩:=z.out;refine⟨rfl,⟨⟨by rw[f],λ_=>rfl⟩,i,by rw[f];exact D,?_⟩,D.cells.2.2.1⟩;obtain⟨Q,R,aa,S,U⟩:=H;have N:bi (λg=>d.ow g≠0) w a:=aE A _;have Y:=A.size;exact⟨N.trans (Q.mono (T:=λg=>d.ow g≠0) λg _ e=>by omega) λg _ e=>e,λg X=>R g (by omega) λh=>by omega,dk S,U⟩
 ·rw[if_pos e]at f;exact⟨⟨by rw[f],(λh=>by cases h)⟩,B a c (by rw[f])⟩
 ·simp only[ay,oq]at e;rw[if_neg (by rw[e.1];decide),if_pos e.2]at f;exact⟨⟨by rw[f],(λh=>by cases h)⟩,B a c (by rw[f])⟩
 ·simp only[ay]at e;rw[if_neg (by rw[e.1];decide),if_neg (by rw[e.2];decide),if_pos t]at f;exact⟨⟨by rw[f],λh=>absurd h t⟩,B a c (by rw[f])⟩
end
theorem Mx:(Tryz.prog.info? 60).map (λi=>(i.zero,i.size,i.bytes))=some (some (.pointer none),1,8):=by kernel_rfl
theorem Ft(m:Nat)(pa:Option Addr)(pl pc:Nat)(may:Bool)(room:Int)(w:World)(ar u x:Nat->Int)(nm y:Nat->ByteArray)(xa:Nat->Option Addr)(z xc:Nat->Nat)(l:Nat->Bool)(ne:Nat->Int)(r:Nat->List Nat->Value->World->Prop)(N:Nat->Nat->List Nat->Value->World->Prop)(R:Value->Bool->World->Prop)(bH:pl<=1000)(bB:m<w.heap.size)(aM:Hid (w.cell? ⟨m,1,none⟩=some (.int .i64 room)))(V:Hid (∀j,j<pl->∃g,pa=some ⟨g,0,none⟩/\g<w.heap.size/\Hid (w.cell? ⟨g,j*6,none⟩=some (.int .i64 (ar j))/\w.cell? ⟨g,j*6+1,none⟩=some (.string (nm j))/\w.cell? ⟨g,j*6+2,none⟩=some (.int .i64 (u j))/\w.cell? ⟨g,j*6+3,none⟩=some (.int .i64 (x j))/\w.cell? ⟨g,j*6+4,none⟩=some (.string (y j))/\w.cell? ⟨g,j*6+5,none⟩=some (.slice (xa j) (z j) (xc j)))))(aP:Hid (ah 37 #[.pointer (some ⟨m,0,none⟩),.int .i64 pl] w λe w'=>e=.returned (.bool may)/\w'=w))(Y:Hid (∀j W,j<pl->ag w W->ah 38 #[.pointer (some ⟨m,0,none⟩),.string (nm j)] W λe w'=>e=.returned (.bool (l j))/\ag W w'))(Z:Hid (∀j d v W,j<pl->l j=true->ag w W->r j d v W->ah 39 #[.string (nm j),.agg #[.int .i64 (u j),.int .i64 (x j),.string (y j),.slice (xa j) (z j) (xc j)],.int .i64 room] W λe w'=>∃p:Option Addr,e=.returned (.tuple #[.pointer p,.int .i64 (ne j)])/\Hid (ag W w'/\(ne j=0->∃k,p=some ⟨k,0,none⟩/\N j k d v w'))))(am:Hid (r 0 [] (.slice none 0 0) w))(q:Hid (∀j d v W D,r j d v W->ag W D->r j d v D))(M:Hid (∀j k d a c g bk W aD D,j<pl->N j k d (.slice a j c) W->ag W aD->aD.grownBy D (Value.slice a j c).ownBlock->((Value.slice a j c).ownBlock=some g\/g=aD.heap.size)->g<D.heap.size->r (j+1) (d++ [k]) (.slice (some ⟨g,0,none⟩) (j+1) bk) D))(K:Hid (∀W,ag w W->(may=false\/∃j,j<pl/\(l j=false\/ne j≠0))->R (.slice none 0 0) false W))(ad:Hid (∀W d a c,ag w W->may=true->(∀j,j<pl->l j=true/\ne j=0)->d.length=pl->W.ownsRow w.heap.size 60 1 (.slice a pl c) pl (d.map yR)->r pl d (.slice a pl c) W->R (.slice a pl c) true W)):ah 45 #[.pointer (some ⟨m,0,none⟩),.slice pa pl pc] w λe w'=>∃v b,e=.returned (.tuple #[v,.bool b])/\Hid (R v b w'):=by
 obtain⟨bC,a6,a9,ba,bb⟩:=bO Mx;have X:=aj (⟨a6,a9,ba,bb⟩:_/\_/\_/\_);clear a6 a9 ba bb;go_enter Tryz.func45,Tryz.ntmps45;go_wp2_with fail;refine aP.out.mono ?_;rintro e bL ⟨rfl,bc⟩;obtain rfl:=bc.symm;clear bc aP;cases may
 ·have n:=aj (K.out _ (ak _ _) (ae rfl));clear K ad M am q Z Y V;go_wp2_with fail;exact ap (v:=.tuple #[.slice none 0 0,.bool false]) (by simp[results,Tryz.results45,go_sem]) rfl ⟨_,_,rfl,n.out⟩
 go_wp2_with fail;go_loopw [6,18] (λo i wr=>∃(j:Nat)(a:Option Addr)(c:Nat),j<=pl/\i=.int .i64 j/\o=.slice a j c/\Hid (∃d,d.length=j/\wr.ownsRow w.heap.size 60 1 (.slice a j c) j (d.map yR)/\r j d (.slice a j c) wr/\ag w wr/\∀i,i<j->l i=true/\ne i=0)) (λ_ i _=>pl-(intOf i).toNat)
 case atStart=>exact⟨0,none,0,aB _,rfl,rfl,[],rfl,ee _ _ _ _,am.out,ak _ _,λi h=>by omega⟩
 case round=>
 obtain⟨j,a,c,bG,rfl,rfl,aa⟩:=hrel;by_cases Q:j<pl
 ·obtain⟨g,rfl,bA,aN⟩:=V.out j Q;obtain⟨d,P,S,U,E,T⟩:=aa.out;have aU:=aj S;have a0:=aj U;have HB:=aj E;have aT:=aj T;have bz:=aj P;have s:∀{f:Nat}{v:Value},w.cell? ⟨g,f,none⟩=some v->wr.cell? ⟨g,f,none⟩=some v:=λ{f v} h=>(E.cell (p:=⟨g,f,none⟩) bA).trans h;obtain⟨a1,ao,aq,a2,a3,a4⟩:=aN.out;have bp:=s a1;have bq:=s ao;have br:=s aq;have bs:=s a2;have bt:=s a3;have bu:=s a4;have bJ:(0:Int)<=(j:Int):=by omega
  have bK:(j:Int)<(pl:Int):=by omega
  clear s a1 ao aq a2 a3 a4 aN V S U E T P aa;go_upto_region 7 with fail;generalize bd:wr.alloc _=au;have F:Hid (ag wr au/\au.heap[wr.heap.size]?=some (.cells #[.int .i64 (ar j),.string (nm j),.int .i64 (u j),.int .i64 (x j),.string (y j),.slice (xa j) (z j) (xc j)] 159)):=by
   rw[<-bd];exact⟨(ak _ _).alloc (ai _) _,ax _ _⟩
  clear bd bp bq br bs bt bu;obtain⟨f,aI⟩:∃f,f=wr.heap.size:=⟨_,rfl⟩;rw[<-aI];have az:Hid (au.heap[f]?=some (.cells #[.int .i64 (ar j),.string (nm j),.int .i64 (u j),.int .i64 (x j),.string (y j),.slice (xa j) (z j) (xc j)] 159)):=by rw[aI];exact F.out.2
  have G:=aj (HB.out.trans (F.out.1.mono HB.out.size));have aX:=aj (q.out _ _ _ _ _ a0.out F.out.1);have aQ:=aj (aW aU.out (aE F.out.1 λ_=>False) λ_ _ h=>h);clear aI F aU a0 HB;have C:Hid (∀W:World,ag w W->W.heap[f]?=some (.cells #[.int .i64 (ar j),.string (nm j),.int .i64 (u j),.int .i64 (x j),.string (y j),.slice (xa j) (z j) (xc j)] 159)->W.cell? ⟨m,1,none⟩=some (.int .i64 room)/\W.cell? ⟨f,1,none⟩=some (.string (nm j))/\W.cell? ⟨f,2,none⟩=some (.int .i64 (u j))/\W.cell? ⟨f,3,none⟩=some (.int .i64 (x j))/\W.cell? ⟨f,4,none⟩=some (.string (y j))/\W.cell? ⟨f,5,none⟩=some (.slice (xa j) (z j) (xc j))):=λW aG h=>⟨(aG.cell (p:=⟨m,1,none⟩) bB).trans aM.out,ab h 1,ab h 2,ab h 3,ab h 4,ab h 5⟩;have aF:=(C.out au G.out az.out).2.1;have aO:=aj (λW=>Y.out j W Q);have av:=aj (λd v W=>Z.out j d v W Q);have L:=aj (λW aG e=>K.out W aG (af ⟨j,Q,e⟩));have ay:Hid (l j=true->ne j=0->∀i,i<j+1->l i=true/\ne i=0):=λbw bx i bF=>by
   by_cases e:i=j
   ·subst e;exact⟨bw,bx⟩
   ·exact aT.out i (by omega)
  clear Y Z K ad aM aT am;generalize l j=bD at*;generalize ne j=be at*;go_wp2_with fail;refine(aO.out _ G.out).mono ?_;rintro e aK ⟨rfl,O⟩;have B:=aj (G.out.trans (O.mono G.out.size));have al:=aj (fj O az.out);have aC:=aj (q.out _ _ _ _ _ aX.out O);have aw:=aj (aW aQ.out (aE O λ_=>False) λ_ _ h=>h);clear aO G az aX aQ O aF;cases bD
  ·have n:=aj (L.out _ B.out (ae rfl));clear L av C aC aw al B M q ay;go_wp2_with fail;exact ap (v:=.tuple #[.slice none 0 0,.bool false]) (by simp[results,Tryz.results45,go_sem]) rfl ⟨_,_,rfl,n.out⟩
  have J:Hid (ag aK aK.drew):=(ak _ _).drew;have I:=aj (B.out.trans (J.out.mono B.out.size));have aA:=aj (fj J.out al.out);have aZ:=aj (q.out _ _ _ _ _ aC.out J.out);have aS:=aj (aW aw.out (aE J.out λ_=>False) λ_ _ h=>h);obtain⟨bo,aF,bl,bm,bn,an⟩:=C.out aK B.out al.out;clear aw aC;go_upto_region 9 with fail
  go_region_held3 (λW=>W.cell? ⟨m,1,none⟩=some (.int .i64 room)/\W.cell? ⟨f,1,none⟩=some (.string (nm j))/\W.cell? ⟨f,2,none⟩=some (.int .i64 (u j))/\W.cell? ⟨f,3,none⟩=some (.int .i64 (x j))/\W.cell? ⟨f,4,none⟩=some (.string (y j))/\W.cell? ⟨f,5,none⟩=some (.slice (xa j) (z j) (xc j)))
   (first|exact C.out _ I.out aA.out|exact C.out _ H.out aV.out) ((first
    | (go_at_call 39;refine(av.out _ _ _ (by first|rfl|trivial) I.out aZ.out).mono ?_;rintro e aL ⟨bE,rfl,A⟩;have aV:=aj (fj A.out.1 aA.out);have H:=aj (I.out.trans (A.out.1.mono I.out.size));have aR:=aj (aW aS.out (aE A.out.1 λ_=>False) λ_ _ h=>h))))
  clear bo aF bl bm bn an C aA I J al B av aV aZ aS;by_cases aJ:be=0
  ·subst aJ;obtain⟨k,rfl,bi⟩:∃k,bE=some ⟨k,0,none⟩/\Hid (N j k d (.slice a j c) aL):=by
    obtain⟨k,ao,aq⟩:=A.out.2 rfl;exact⟨k,ao,aq⟩
   have bh:=aj H.out.size;clear L A
   go_wp2_with (first
    | (at_builtin;refine wpList_append_lies _ rfl _ _ 116 rfl w.heap.size 60 bC _ 1 8 Tryz.underlying116 X.out.1 X.out.2.1 X.out.2.2.1 X.out.2.2.2 rfl (by decide) (.slice a j c) j (d.map yR) rfl (aR.out.alloc _) ⟨aL.heap.size,0,none⟩ 1 1 [.pointer (some ⟨k,0,none⟩)] rfl rfl (World.news_of_block (cs:= #[.pointer (some ⟨k,0,none⟩)]) (t:=60) (fr:=(0,0)) (ax aL _)) (by simp[Value.oneCell']) (by decide) (by unfold maxLen;omega) (by omega) (by have:=bh.out;simp;omega) _ rfl ?_;intro bv an bM a8 aH a5 a7;have bg:=aj a8;have bj:=aj (M.out _ _ _ _ _ _ an _ _ _ Q bi.out ((ak _ _).alloc (ai _) _) aH a5 a7);have bf:=aj (H.out.trans (jB aR.out aH H.out.size));clear a8 aH a5 a7))
   go_roundw
   case rel=>exact⟨j+1,some ⟨bv,0,none⟩,an,by omega,by go_num,rfl,d++ [k],by rw[aY,bz.out];rfl,by rw[gV];exact bg.out,bj.out,bf.out,ay.out trivial rfl⟩
   case measure=>simp[intOf];omega
  ·have n:=aj (L.out _ H.out (af aJ));have bI:(be==0)=false:=by simpa using aJ
   clear L A M q ay;go_wp2_with fail;exact ap (v:=.tuple #[.slice none 0 0,.bool false]) (by simp[results,Tryz.results45,go_sem]) rfl ⟨_,_,rfl,n.out⟩
 ·obtain rfl:j=pl:=by omega
  obtain⟨d,P,S,U,E,T⟩:=aa.out;have n:=aj (ad.out _ d _ _ E trivial T P S U);clear K ad M am q Z Y V aa P S U E T;go_wp2_with fail;exact ap (v:=.tuple #[.slice a j c,.bool true]) (by simp[results,Tryz.results45,go_sem]) rfl ⟨_,_,rfl,n.out⟩
def yT(K:Nat)(b:List (Int×Tc))(c:List (Int×ByteArray×Tc))(a:List Int):Prop:=(b.length<=K/\c.length<=K/\a.length<=K)/\(∀x∈b,dh x.1)/\∀x∈a,dh x
theorem Ee{b:List Tc}{self:Int}{n:Nat}{x:Tm n}{h:Int}(a:mF b self n x=some h):dh h:=by
 unfold mF qV at a;cases f:vl 13 b self n x with
 | none=>rw[f]at a;cases a
 | some e=>
  rw[f,dl]at a;by_cases d:bm (13+n) e=0
  ·rw[if_pos d,dl]at a;by_cases c:(cn (13+n) e).1.1=3
   ·rw[if_pos c]at a;obtain rfl:=aq a;have i:av ⟨13,cn (13+n) e⟩:=aG.2 (br.1 (pj d)).1;have g:=i _ (oA);simp only[cm,c]at g;simp[pT]at g;unfold dh;omega
   ·rw[if_neg c]at a;cases a
  ·rw[if_neg d]at a;cases a
theorem Mr{self:Int}{n K:Nat}{a:Ac (n+1)}{d e:Dg}(b:qp self a d=some e)(k:yT K d.sends d.spawns d.links):yT (K+1) e.sends e.spawns e.links:=by
 unfold qp at b;obtain⟨⟨o,p,q⟩,f,g⟩:=k;split at b
 ·obtain⟨m,h,b⟩:=bj.1 b;obtain⟨t,l,rfl⟩:=b8.1 b;refine⟨⟨by simp;omega,by simp;omega,by simp;omega⟩,λj i=>?_,g⟩;rcases cU.1 i with c|c
  ·exact f j c
  ·rw[dA.1 c];exact Ee h
 ·split at b
  ·obtain⟨t,l,b⟩:=bj.1 b;split at b
   ·obtain rfl:=aq b;exact⟨⟨by simp;omega,by simp;omega,by simp;omega⟩,f,g⟩
   ·cases b
  ·split at b
   ·obtain⟨m,h,rfl⟩:=b8.1 b;refine⟨⟨by simp;omega,by simp;omega,by simp;omega⟩,f,λj i=>?_⟩;rcases cU.1 i with c|c
    ·exact g j c
    ·rw[dA.1 c];exact Ee h
   ·obtain rfl:=aq b;exact⟨⟨by simp;omega,by simp;omega,by simp;omega⟩,f,g⟩
theorem Hr{self:Int}{n:Nat}:(l:List (Ac (n+1)))->{K:Nat}->{d b:Dg}->pq self l d=some b->yT K d.sends d.spawns d.links->yT (K+l.length) b.sends b.spawns b.links
 | [],K,d,b,c,hk=>by
  obtain rfl:=aq c;exact hk
 | a::l,K,d,b,c,hk=>by
  unfold pq at c;obtain⟨e,f,c⟩:=bj.1 c;have:=Hr l c (Mr f hk);rw[aV,show K+(l.length+1)=K+1+l.length by omega];exact this
theorem clsC_mem{n:Nat}{s m:Tc}:(l:List (Cl (n+1)))->{y:Cl (n+1)×List Tc}->lA s m l=some y->y.1∈l
 | [],y,h=>by simp[lA]at h
 | c::l,y,h=>by
  unfold lA at h;cases e:kG c s m with
  | none=>
   rw[e]at h;exact bI _ (clsC_mem l h)
  | some b=>
   rw[e]at h;obtain rfl:=aq h;exact oA
theorem DI{n:Nat}{l:List (Cl (n+1))}{s:Tc}:(ms:List Tc)->(i:Nat)->{x:Nat×Cl (n+1)×List Tc}->ri l s ms i=some x->x.2.1∈l
 | [],i,x,h=>by simp[ri]at h
 | m::ms,i,x,h=>by
  unfold ri at h;cases e:lA s m l with
  | none=>
   rw[e]at h;exact DI ms (i+1) h
  | some y=>
   rw[e]at h;obtain rfl:=aq h;exact clsC_mem l e
theorem qe{n:Nat}{name:ByteArray}:(l:List (Bh n))->{b:Bh n}->fN n name l=some b->b∈l/\b.1=name
 | [],b,h=>by simp[fN]at h
 | c::l,b,h=>by
  unfold fN at h;split at h
  ·rename_i e;obtain rfl:=aq h;exact⟨oA,e⟩
  ·exact⟨bI _ (qe l h).1,(qe l h).2⟩
theorem Cr{n:Nat}{prog:List (Bh (n+1))}(c:jP (n+1) prog=true){nm:ByteArray}(d:ky n prog nm=true):nm.size<=2048:=by
 obtain⟨b,g⟩:=fY.1 d;obtain⟨e,f⟩:=qe prog g;unfold jP at c;simp only[ay,bX]at c;have a:=c.2 b e;unfold vd at a;simp only[ay]at a;rw[<-f];exact vV a.1.1.1
theorem Jj{n:Nat}{room:Int}{l:List (Bh (n+1))}(j:jP (n+1) l=true){name:ByteArray}{self next:Int}{s:Tc}{ms:List Tc}{f:Tk}(e:lR room l name self next s ms=some f):yT 8 f.sends f.spawns f.links:=by
 unfold lR at e;obtain⟨c,p,e⟩:=bj.1 e;obtain⟨y,u,rfl⟩:=b8.1 e;have a:=DI ms 0 p;have r:c.2.1.2.2.length<=8:=by
  unfold fP at a;cases g:fN (n+1) name l with
  | none=>rw[g]at a;simp at a
  | some b=>
   rw[g]at a;have a:c.2.1∈b.2.2:=a;unfold jP at j;simp only[ay,bX]at j;have h:=j.2 b (qe l g).1;unfold vd at h;simp only[ay,bX]at h;have k:=h.2 _ a;unfold sE at k;simp only[ay,bT]at k;omega
 have i:yT 8 [] [] []:=⟨⟨by simp,by simp,by simp⟩,by simp,by simp⟩;unfold eI;cases hd:pq self c.2.1.2.2 ⟨c.2.2,next,[],[],[],false⟩with
 | none=>exact i
 | some d=>
  have o:yT 8 d.sends d.spawns d.links:=by
   obtain⟨⟨v,w,x⟩,q⟩:=Hr _ (K:=0) hd ⟨⟨by simp,by simp,by simp⟩,by simp,by simp⟩;exact⟨⟨by omega,by omega,by omega⟩,q⟩
  cases m:qV d.b self (n+1) c.2.1.1.2.2 with
  | none=>simp only[m];exact i
  | some t=>
   simp only[m];split
   ·exact o
   ·exact i
theorem uw{d:Type}(f:d->List Value)(k:Nat)(c:∀a,(f a).length=k):(l:List d)->(i:Nat)->(a:d)->l[i]?=some a->∀(t:Nat)(b:Value),(f a)[t]?=some b->(l.flatMap f)[i*k+t]?=some b
 | [],i,a,h,_,_,_=>by simp at h
 | x::l,0,a,h,t,b,hu=>by
  simp at h;subst h;rw[bv,de (by have:=(aL.1 hu).1;omega)];simpa using hu
 | x::l,i+1,a,h,t,b,hu=>by
  rw[bv,dZ (by rw[c,Nat.succ_mul];omega),c,show (i+1)*k+t-k=i*k+t by rw[Nat.succ_mul];omega];exact uw f k c l i a (by simpa using h) t b hu
theorem qD{w:World}{base:Nat}{e:TypeId}{k:Nat}{v:Value}{n:Nat}{q:Type}{f:q->List Value}{l:List q}(m:w.ownsRow base e k v n (l.flatMap f))(A:0<k)(o:∀d,(f d).length=k):∃a c,v=.slice a n c/\(∀b,a=some b->v.ownBlock=some b.block)/\∀(i:Nat)(d:q),l[i]?=some d->∃g,a=some ⟨g,0,none⟩/\g<w.heap.size/\∀(t:Nat)(j:Value),(f d)[t]?=some j->w.cell? ⟨g,i*k+t,none⟩=some j:=by
 have s:=m;rcases m.2 with⟨rfl,r⟩|⟨g,c,C,rfl,D,z,F⟩
 ·refine⟨none,0,by rw[r],(λb e=>by cases e),λi d p=>?_⟩;have u:=uw f k o l i d p 0 _ (aD (by rw[o];exact A));have E:=(aL.1 u).1;have x:=m.1;rw[r,Nat.zero_mul]at x;omega
 ·refine⟨_,c,rfl,(λb e=>by cases e;rfl),λi d p=>⟨g,rfl,(aA.1 z).1,λt j B=>?_⟩⟩;have y:=World.ownsRow.cells s (g:=g) rfl _ _ (uw f k o l i d p t j B);rwa [show∀h,(⟨g,0,none⟩:Addr).add h=⟨g,h,none⟩from λh=>by cases h<;>simp[Addr.add]]at y
def eF(n:Nat)(x:Tm (n+1)):ByteArray:=if x.1.1=4 then match x.2.2[0]? with|some a=>if bK ⟨n,a⟩=2 then (fQ n a).1.2.2 else .empty|none=> .empty else .empty
def bE(n:Nat)(x:Tm (n+1)):List (Tm n):=if x.1.1=4 then match x.2.2[0]? with|some a=>if bK ⟨n,a⟩=2 then x.2.2.drop 1 else []|none=> []else []
def rY(a s:ByteArray):Bool:=a.toList==s.toList
def DE:(n:Nat)->Tm n->List (Tm (n-1))
 | 0,_=> []
 | _+1,x=>x.2.2
def vU(n:Nat)(x:Tm n):ByteArray:=(fQ n x).1.2.2
def yk(M n:Nat)(a b c:Tm n):Option (Ac (M+1)):=if bK ⟨n,a⟩=2/\bK ⟨n,c⟩=5 then some (2,(zT M,aK (M+1) n b),(vU n a,oN n c))else none
def jp(M n:Nat)(d:ByteArray)(q:List (Tm n)):Option (Ac (M+1)):=
 if (rY d lT && decide (q.length=2))=true then (q[0]?).bind λa=>(q[1]?).bind λb=>some (1,(aK (M+1) n a,aK (M+1) n b),(.empty,0))
 else if (rY d iz && decide (q.length=3))=true then (q[0]?).bind λa=>(q[1]?).bind λb=>(q[2]?).bind λc=>yk M n a b c
 else if (rY d lS && decide (q.length=1))=true then (q[0]?).bind λa=>some (3,(aK (M+1) n a,zT M),(.empty,0))
 else if (rY d kU && decide (q.length=0))=true then some (4,(zT M,zT M),(.empty,0))else none
def rF(M:Nat):(n:Nat)->Tm n->Option (Ac (M+1))
 | 0,_=>none
 | n+1,x=>jp M n (eF n x) (bE n x)
def rG(M n:Nat)(e:ByteArray)(q:List (Tm n)):Option (Cl (M+1)):=
 if (rY e JW && decide (q.length=4))=true then (q[0]?).bind λa=>(q[1]?).bind λb=>(q[2]?).bind λc=>(q[3]?).bind λd=>
  if bK ⟨n,c⟩=4 then (cw (rF M (n-1)) (DE n c)).map λl=>((aK (M+1) n a,aK (M+1) n b,aK (M+1) n d),(none,0),l)else none
 else none
def yj(M:Nat):(n:Nat)->Tm n->Option (Cl (M+1))
 | 0,_=>none
 | n+1,x=>rG M n (eF n x) (bE n x)
def sJ(M n:Nat)(b:ByteArray)(q:List (Tm n)):Option (Bh (M+1)):=
 if rY b sT=true then (q[0]?).bind λa=>if bK ⟨n,a⟩=2 then (cw (yj M n) (q.drop 1)).map λl=>(vU n a,(none,0),l)else none
 else none
def yh(M:Nat):(n:Nat)->Tm n->Option (Bh (M+1))
 | 0,_=>none
 | n+1,x=>sJ M n (eF n x) (bE n x)
def AO(M:Nat):(n:Nat)->Tm n->Option (List (Bh (M+1)))
 | 0,_=>none
 | n+1,x=>if rY (eF n x) mU=true then cw (yh M n) (bE n x)else none
def pZ{a:Type}(f:a->List Value)(h:Nat->World->a->Prop)(i:(Nat->Prop)->a->Prop)(S:a->a->Prop)(o:Option a)(w:World)(e:Ending)(w':World):Prop:=
 ∃(c:a)(d:Bool),e=.returned (.tuple #[.agg (f c).toArray,.bool d])/\Hid (ag w w'/\d=o.isSome/\h w'.heap.size w' c/\i (λb=>w.heap.size<=b) c/\∀g,o=some g->S c g)
def kJ{a:Type}(k:Nat)(f:a->List Value)(i:Nat->World->a->Prop)(j:(Nat->Prop)->a->Prop)(S:a->a->Prop)(o:Option (List a))(w:World)(e:Ending)(w':World):Prop:=
 ∃(l:List a)(d:Option Addr)(c:Nat)(g:Bool),e=.returned (.tuple #[.slice d l.length c,.bool g])/\Hid (ag w w'/\g=o.isSome/\(l.length<=c/\c<=maxLen)/\pe w'.heap.size w' k f (i w'.heap.size w') d l/\sD (j (λb=>w.heap.size<=b)) (λb=>w.heap.size<=b) d l/\∀h,o=some h->eu S l h)
theorem qX{d e:Type}(f:d->Option e)(p:List d)(k:Nat)(x:d)(i:p[k]?=some x)(l:List e)(y:e)(a:cw f (p.take k)=some l)(j:f x=some y):cw f (p.take (k+1))=some (l++ [y]):=by
 rw[dt,i];have key:∀(c:List d)(l:List e),cw f c=some l->cw f (c++ [x])=some (l++ [y]):=by
  intro c
  induction c with
  | nil=>intro l a;simp[cw]at a;subst a;simp[cw,j]
  | cons n c ih=>
   intro l a;simp only[cw]at a;obtain⟨b,g,a⟩:=bj.1 a;obtain⟨m,h,rfl⟩:=b8.1 a;simp only[fz,cw,g,ih m h];rfl
 exact key _ _ a
end Go.Proofs.YtckamaoibonjcaaGreat
