/- Proved here: plain facts and contracts. No condition but what each names. -/
import Derived.Test.YtmmahddlcldmiaaGreatDoorT27
import Derived.Deep.DeepCutAuto
namespace Go.Proofs.YtmmahddlcldmiaaGreatDoor
open Go.RowKit Go.Proofs.Tryz
set_option maxRecDepth 100000
set_option maxHeartbeats 4000000
theorem M6(a:Nat)(W:World):(binOp .eql 86 (.map (some a)) (.map none)).run Tryz.prog W=.ok (.bool false) W:=by kernel_rfl
theorem M4(W:World):(binOp .eql 86 (.map none) (.map none)).run Tryz.prog W=.ok (.bool true) W:=by kernel_rfl
theorem Ia(b o d:Nat)(n:Option Nat)(a F c:Int)(w w1 w2:World)(y:Int->Int->ByteArray->Option Addr->Nat->Nat->World->Prop)(k R:World->Prop)(N:IntKind.i64.wrap (F+1)=c)(O:b<w.heap.size)(C:Hid (w.cell? ⟨b,3,none⟩=some (.map n)/\w.frozen? ⟨b,3,none⟩=false))(L:(n=none/\d=w.heap.size/\w1=(w.setCell ⟨b,3,none⟩ (.map (some d))).alloc (.map #[] 0))\/(n=some d/\w1=w))(p:Hid (w1.cell? ⟨b,2,none⟩=some (ab F)/\w1.frozen? ⟨b,2,none⟩=false))(z:w2=w1.setCell ⟨b,2,none⟩ (ab c))(j:Hid (∀W,aj w2 W->W.cell? ⟨b,2,none⟩=some (ab c)/\W.cell? ⟨b,3,none⟩=some (.map (some d))))(u:Hid (∀W,aj w2 W->∃f,(Instr.mapUpdate 86 (.map (some d)) (ab c) (Ax o)).run Tryz.prog W=.ok () f/\(f.cell? ⟨b,2,none⟩=some (ab c)/\f.cell? ⟨b,3,none⟩=some (.map (some d)))/\Hid (k f)))(s:Hid (∀W g,k W->aj W g->g.cell? ⟨b,2,none⟩=some (ab c)))(H:Hid (∀W g,k W->aj W g->am 43 #[aB o] g λe w'=>∃y0 y1 y2 ya yl yc,e=.returned (.agg #[ab y0,ab y1,af y2,ae ya yl yc])/\Hid (aj g w'/\y y0 y1 y2 ya yl yc w')))(I:Hid (∀y0 y1 y2 ya yl yc W,y y0 y1 y2 ya yl yc W->am 68 #[aB b,af ⟨#[115,112,97,119,110]⟩,ab a,ab c,.agg #[ab y0,ab y1,af y2,ae ya yl yc]] W λe w'=>e=.returned (.tuple #[])/\Hid (R w'/\w'.cell? ⟨b,2,none⟩=some (ab c)))):am 41 #[aB b,ab a,aB o] w λe w'=>e=.returned (.tuple #[])/\Hid (R w'):=by
 obtain⟨K,f3⟩:=C.out;have M:= @run_makeMap Tryz.prog;have m:Hid (aj w2 w2.drew):=(ap _ _).drew;have h:Hid (∀W:World,aj W W.drew):=λW=>(ap _ _).drew;go_enter func41,ntmps41;rcases L with⟨rfl,B,i⟩|⟨rfl,i⟩
 case' inl=>
  have D:=M4;go_upto_region 2 with fail;rw[<-B,<-i];clear B
 case' inr=>
  have D:=M6 d;go_upto_region 2 with fail;rw[<-i]
 all_goals
  clear K f3 i C D M;obtain⟨J,f2⟩:=p.out;go_upto_region 3 with fail;rw[<-z];clear z J f2 p;obtain⟨d2,d3⟩:=j.out _ m;obtain⟨f,E,A,l⟩:=u.out _ m;unfold Ax at E;have t:=aq A;have r:=aq (j _ m);clear u j;go_region_held3 (λW=>W.cell? ⟨b,2,none⟩=some (ab c)/\W.cell? ⟨b,3,none⟩=some (.map (some d))) (first|exact r|exact t) (fail);clear E r A d2 d3;have d2:=t.1;go_upto_region 4 with fail
  go_region_held3 (λW=>W.cell? ⟨b,2,none⟩=some (ab c)) (first|exact s _ _ l (h _)|exact s _ _ l G|exact q.2) ((first
   | (go_at_call 43;refine(H _ _ l (h _)).mono ?_;rintro e P ⟨y0,y1,y2,ya,yl,yc,rfl,x⟩;have G:=aq ((h f).trans (x.1.mono (h f).size)))
   | (go_at_call 68;refine(I _ _ _ _ _ _ _ x.2).mono ?_;rintro e Q ⟨rfl,q⟩)))
  go_wp2_with fail;exact dZ (v:=.tuple #[]) (by simp[results]) rfl ⟨rfl,q.1⟩
section
variable {p:kQ} {s:Sy} {d:fY} {w:World}
def Oi(M:Nat->Prop)(a:Nat)(d b:fY)(w w':World):Prop:=br (λq=>d.ow q<0) w w'/\(∀q,q<w.heap.size->¬M q->b.ow q=d.ow q)/\(∀q,M q->1<=b.ow q)/\b.k=d.k/\b.es.length<=d.es.length+a/\b.wn<=d.wn+a/\b.bn<=d.bn+a
theorem oQ{b:Type}(l:List (Int×b))(k j:Int)(v:b)(c:∀q∈l,q.1≠k):((l++ [(k,v)]).find? λq=>q.1==j)=if j=k then some (k,v)else l.find? λq=>q.1==j:=by
 rw[List.find?_append];by_cases a:j=k
 ·subst a;rw[if_pos rfl,pq.2 λq d=>by simpa using c q d];simp
 ·rw[if_neg a];have:(k==j)=false:=by simpa using λe:k=j=>a e.symm
  simp[this]
def OM(d:fY)(M:Nat->Prop)[DecidablePred M](a:Nat)(k:Int)(q:Nat):Int:=if M q then k else if q=a then -5 else d.ow q
theorem bj.addG(e:bj p s d w){m c:Nat}{nm:ByteArray}{cs:Tc}{M:Nat->Prop}[DecidablePred M](B:P1 p.lo m nm p.room cs [] (d.k+201) M w)(A:∀q,M q->d.ow q=0)(aa:s.ps.length<12/\s.last<90){w':World}(f:br (λq=>d.ow q=-5) w w')(P:d.ow c≠0->d.ow c=-5)(N:¬M c)(O:p.lo<=c/\c<w'.heap.size)(Q:c≠p.b)(o:w'.heap[p.b]?=some (.cells (dW p {s with last:=s.last+1} {d with po:=some c}) 94))(L:IM w' c (d.l++ [(s.last+1,m)])):bj p {s with last:=s.last+1,ps:=s.ps++ [(s.last+1,nm,cs,[])]} {d with ow:=OM d M c (s.last+1),po:=some c,l:=d.l++ [(s.last+1,m)]} w':=by
 obtain⟨y,J,z,X,Y,Z⟩:=e.keys;have i:∀b,d.ow b≠0->OM d M c (s.last+1) b=d.ow b:=λb h=>by
  unfold OM;rw[if_neg λa=>h (A b a)];by_cases g:b=c
  ·subst g;rw[if_pos rfl,P h]
  ·rw[if_neg g]
 have r:∀b,OM d M c (s.last+1) b≠0->p.lo<=b/\b<w'.heap.size:=λb h=>by
  unfold OM at h;split at h
  ·rename_i a;have:=P1.lie2 B b a;exact⟨this.1,aR this.2 f.size⟩
  ·split at h
   ·rename_i a;subst a;exact O
   ·exact⟨(e.low b h).1,aR (e.low b h).2 f.size⟩
 have t:∀{t:Int},t≠ -5->∀b,d.ow b=t->¬d.ow b=-5:=λT b g a=>T (g.symm.trans a);have n:∀q∈s.ps,q.1≠s.last+1:=λq j=>by have:=(z q j).2;omega
 have R:∀q∈d.l,q.1≠s.last+1:=λq j=>by
  have K:q.1∈s.ps.map (·.1):=by rw[<-y];exact cC.2 ⟨q,j,rfl⟩
  obtain⟨v,u,g⟩:=cC.1 K;rw[<-g];exact n v u
 obtain⟨y1,y2,W⟩:=e.wyK f (t (by decide)) i (q:=Ay p {s with last:=s.last+1} {d with po:=some c}) rfl (qz o).1;obtain⟨H,I⟩:=e.evK f (t (by decide)) i;refine⟨r,o,(i p.b (by rw[e.own];decide)).trans e.own,⟨e.pgK f (t (by decide)) i,e.pg.2⟩,ai ⟨c,rfl,(if_neg N).trans (if_pos rfl),Q,L⟩,⟨by simp[y],?_,λq j=>?_,by show 0<=s.last+1;omega,by show s.last+1<=90;omega,by simp;omega⟩,λk b q=>?_,⟨y1,y2,e.wy.2.2.1,e.wy.2.2.2.1,W⟩,e.bdK f (t (by decide)) i rfl (qz o).2,H,e.evt.1,I⟩
 ·simp only[fP,aM,b8];refine fp.2 ⟨J,by simp,λab U ad V=>?_⟩;obtain⟨v,u,rfl⟩:=cC.1 U;rw[eF.1 V];exact n v u
 ·show 1<=q.1/\q.1<=s.last+1;rcases dp.1 j with a|a
  ·have:=z q a;omega
  ·rw[eF.1 a];show 1<=s.last+1/\s.last+1<=s.last+1;omega
 ·have q:cU (d.l++ [(s.last+1,m)]) k=some b:=q;unfold cU at q;rw[oQ _ _ _ _ R]at q;by_cases g:k=s.last+1
  ·subst g;rw[if_pos rfl]at q;obtain rfl:m=b:=by simpa using q
   refine⟨nm,cs,[],?_,(B.kept (S:=λq=>d.ow q=-5) ⟨f.os,f.tape,f.output,f.size,f.block⟩ λb a=>by rw[A b a];decide).mono (λb a=>if_pos a) (ak _) λb a=>r b (by have a:OM d M c (s.last+1) b=s.last+1:=a;rw[a];omega),aI _⟩;unfold Sy.get;simp only;rw[oQ _ _ _ _ n,if_pos rfl];rfl
  ·rw[if_neg g]at q;have C:cU d.l k=some b:=q;have:=(e.key C).1;obtain⟨D,E,F,x,G⟩:=e.psK f (ak _) (t (by omega)) i r C;refine⟨D,E,F,?_,G⟩;unfold Sy.get at x ⊢;simp only;rw[oQ _ _ _ _ n,if_neg g];exact x
open Classical in
theorem bj.add(n:bj p s d w)(a:Int){y:Nat}{nm:ByteArray}{cs:Tc}{M:Nat->Prop}(H:P1 p.lo y nm p.room cs [] (d.k+201) M w)(V:∀q,M q->d.ow q=0)(aS:s.ps.length<12/\s.last<90)(aa:d.k<=47000)(a9:d.es.length<=99000):am 41 #[aB p.b,ab a,aB y] w λe w'=>e=.returned (.tuple #[])/\Hid (∃B,bj p (s.add a nm cs) B w'/\Oi M 1 d B w w'):=by
 obtain⟨aQ,aj⟩:=n.lo;have L:=n.box;obtain⟨a4,a5,a6,ax⟩:=n.cells;obtain⟨_,_,aC,a7,a8,_⟩:=n.keys;have Z:∀{h:World}{cs:Array Value}{o:Nat},h.heap[p.b]?=some (.cells cs 94)->h.frozen? ⟨p.b,o,none⟩=false:=λe=>by simp[World.frozen?,e]
 obtain⟨c,m,aT,I,aD,aM,N,aH,O,af⟩:∃c m,((d.po=none/\c=w.heap.size/\m=(w.setCell ⟨p.b,3,none⟩ (.map (some c))).alloc (.map #[] 0))\/(d.po=some c/\m=w))/\m.heap[p.b]?=some (.cells (dW p s {d with po:=some c}) 94)/\IM m c d.l/\br (λq=>d.ow q=-5) w m/\(c<w.heap.size->d.ow c=-5)/\¬M c/\c≠p.b/\p.lo<=c/\c<m.heap.size:=by
  rcases n.pm with⟨z,t⟩|⟨c,z,t,G,aA⟩
  ·have aK:(w.setCell ⟨p.b,3,none⟩ (.map (some w.heap.size))).heap[p.b]?=some (.cells (dW p s {d with po:=some w.heap.size}) 94):=by
     simp[World.setCell,bN,L,dW]
   have Q:(w.setCell ⟨p.b,3,none⟩ (.map (some w.heap.size))).heap.size=w.heap.size:=by simp[World.setCell]
   have aa:br (λq=>d.ow q=-5) w ((w.setCell ⟨p.b,3,none⟩ (.map (some w.heap.size))).alloc (.map #[] 0)):=((bD w p.b 3 _).mono λq _ e=>by rw[e];exact n.own).trans (aJ ((ap _ _).alloc (ak _) _) λ_=>False) λ_ _ e=>e.elim;refine⟨w.heap.size,_,ah ⟨z,rfl,rfl⟩,(heap_alloc_old _ _ (by rw[Q];exact aj)).trans aK,?_,aa,λg=>by omega,λg=>?_,by omega,aQ,?_⟩
   ·rw[t];have:=wE.new (f:=Ax) (w.setCell ⟨p.b,3,none⟩ (.map (some w.heap.size)));rw[Q]at this;exact this
   ·have:=(P1.lie2 H _ g).2;omega
   ·have:=aE (w.setCell ⟨p.b,3,none⟩ (.map (some w.heap.size))) (.map #[] 0);rw[Q]at this;exact(aF.1 this).1
  ·refine⟨c,w,ai ⟨z,rfl⟩,?_,aA,br.refl _ _,λ_=>t,λg=>?_,G,n.low c (by rw[t];decide)⟩
   ·rw[L];unfold dW;rw[z]
   ·have:=V c g;rw[t]at this;cases this
 obtain⟨x,E⟩:∃x,x=m.setCell ⟨p.b,2,none⟩ (ab (s.last+1)):=⟨_,rfl⟩;have J:x.heap[p.b]?=some (.cells (dW p {s with last:=s.last+1} {d with po:=some c}) 94):=by
  rw[E];simp[World.setCell,bN,I,dW]
 have bc:x.heap.size=m.heap.size:=by rw[E];simp[World.setCell]
 have ad:br (λq=>q=p.b) m x:=by rw[E];exact bD m p.b 2 _
 have aN:br (λq=>d.ow q=-5) w x:=aM.trans ad λq _ e=>by rw[e];exact n.own
 have aG:IM x c d.l:=aD.kept (ad.block c af.2 O);obtain⟨A,D⟩:∃A:Sy,A={s with last:=s.last+1,ps:=s.ps++ [(s.last+1,nm,cs,[])]}:=⟨_,rfl⟩;obtain⟨d3,u⟩:∃d3:fY,d3={d with ow:=OM d M c (s.last+1),po:=some c,l:=d.l++ [(s.last+1,y)]}:=⟨_,rfl⟩;have P:cU d.l (s.last+1)=none:=by
  cases e:cU d.l (s.last+1)with
  | none=>rfl
  | some b=>have:=(n.key e).2;omega
 have aL:cU d3.l (s.last+1)=some y:=by
  rw[u];show cU (d.l++ [(s.last+1,y)]) (s.last+1)=_;unfold cU at P ⊢;rw[List.find?_append,Option.map_eq_none_iff.1 P];simp
 have aP:A.last=s.last+1:=by rw[D]
 refine Ia p.b y c d.po a s.last (s.last+1) w m x (λy0 y1 y2 ya yl yc h=>∃i:Tc,(i.1=(y0,y1,y2)/\i.2.1=(ya,yc)/\i.2.2.length=yl)/\In h.heap.size h 13 i/\bv 13 i=0/\cn 13 i=cs/\bj p A d3 h/\br (λq=>d.ow q=-5) w h) (λh=>bj p A d3 h/\br (λq=>d.ow q=-5) w h) (λw'=>∃B,bj p (s.add a nm cs) B w'/\Oi M 1 d B w w') (by rw[IntKind.wrap];simp[IntKind.bits,IntKind.signed];omega) aj ⟨ax,Z L⟩ aT ⟨ag I 2,Z I⟩ E (λh j=>?_) (λh j=>?_) (λh aw C j=>?_) (λh aw C j=>?_) (λy0 y1 y2 ya yl yc h aI=>?_)
 ·have X:=gd j J;exact⟨ag X 2,ag X 3⟩
 ·obtain⟨S,aY,aZ,ao,be⟩:=(wE.put (aG.kept (j.block c (by omega))) underlying86 P y);have K:S.heap[p.b]?=_:=(ao.block p.b (aR (aF.1 J).1 j.size) O.symm).trans (gd j J);have ae:br (λq=>d.ow q=-5) w S:=by
   have aO:br (λq=>d.ow q=-5) w h:=aN.trans (aJ j λ_=>False) λ_ _ e=>e.elim;exact aO.trans ao λq r e=>by rw[e]at r ⊢;exact N r
  refine⟨S,aY,⟨ag K 2,ag K 3⟩,?_,ae⟩;rw[D,u];exact n.addG H V aS ae (λg=>N (n.low _ g).2) aH ⟨af.1,by have:=j.size;omega⟩ O K aZ
 ·have:=(C.1.later j).cells.2.2.1;rw[aP]at this;exact this
 ·have W:=C.1.later j;obtain⟨aX,az,ay,v,R,bd⟩:=W.ps _ _ aL;have e:A.get (s.last+1)=some (nm,cs,[]):=by
   rw[D];unfold Sy.get;simp only;rw[oQ _ _ _ _ λq r=>by have:=(aC q r).2;omega,if_pos rfl];rfl
  rw[e]at v;obtain⟨rfl,rfl,rfl⟩:nm=aX/\cs=az/\[]=ay:=by
   injection v with v;injection v with z t;injection t with t G;exact⟨z,t,G⟩
  have bb:d3.k=d.k:=by rw[u]
  refine(R.state (by omega)).mono ?_;rintro e w' ⟨i,rfl,F⟩;obtain⟨y1,y2,bf,a2,a3⟩:=F.out;exact⟨i.1.1,i.1.2.1,i.1.2.2,i.2.1.1,i.2.2.length,i.2.1.2,rfl,y1,i,⟨rfl,rfl,rfl⟩,y2,a2,a3,W.later y1,(C.2.trans (aJ j λ_=>False) λ_ _ e=>e.elim).trans (aJ y1 λ_=>False) λ_ _ e=>e.elim⟩
 ·obtain⟨i,⟨f1,f2,f3⟩,aU,aV,aW,al,an⟩:=aI;obtain⟨⟨bg,bh,bi⟩,⟨bk,bl⟩,bm⟩:=i;simp only[eG]at f1 f2;obtain⟨rfl,rfl,rfl⟩:=f1;obtain⟨rfl,rfl⟩:=f2;subst f3;have Y:d3.es=d.es:=by rw[u]
  refine(al.tell Fa a (s.last+1) _ _ _ _ _ _ _ (kp aU aV) (by rw[Y];omega)).mono ?_;rintro e w' ⟨rfl,F⟩;obtain⟨d4,v,R⟩:=F.up al;rw[aW,D]at v;refine⟨rfl,⟨d4,v,?_⟩,?_⟩
  ·obtain⟨a0,aq,a1,ar,au,av⟩:=R;have T:∀q,q<w.heap.size->¬M q->d3.ow q=d.ow q:=λq r g=>by
    rw[u];refine(if_neg g).trans ?_;by_cases e:q=c
    ·rw[if_pos e,e];exact(N (e▸r)).symm
    ·exact if_neg e
   have U:∀q,M q->d3.ow q=s.last+1:=λq g=>by
    rw[u];exact if_pos g
   have ba:=an.size;refine⟨(an.mono λq _ e=>by rw[e];decide).trans a0 λq r e=>?_,λq r g=>(aq q (by omega)).trans (T q r g),λq g=>?_,by rw[a1,u],by rw[Y]at ar;exact ar,by rw[u]at au;exact au,by rw[u]at av;exact av⟩
   ·by_cases g:M q
    ·rw[U q g]at e;omega
    ·rw[T q r g]at e;exact e
   ·have:=(P1.lie2 H q g).2;rw[aq q (by omega),U q g];omega
  ·have:=v.cells.2.2.1;exact this
end
theorem El(c:Nat)(nm:ByteArray)(f g:Int)(h:ByteArray)(xa:Option Addr)(i xc:Nat)(room ne t:Int)(may o:Bool)(w:World)(C:Nat->World->Prop)(R:Int->Int->World->Prop)(ai:c<w.heap.size)(T:Hid (w.cell? ⟨c,1,none⟩=some (ab room)))(J:Hid (∀W,aj w W->am 38 #[aB c,ab 1] W λe w'=>e=.returned (.bool may)/\w'=W))(z:Hid (∀W,aj w W->am 39 #[aB c,af nm] W λe w'=>e=.returned (.bool o)/\aj W w'))(r:Hid (∀W,aj w W->am 40 #[af nm,.agg #[ab f,ab g,af h,ae xa i xc],ab room] W λe w'=>∃p:Option Addr,e=.returned (.tuple #[.pointer p,ab ne])/\Hid (aj W w'/\(ne=0->∃b,p=some ⟨b,0,none⟩/\C b w'))))(l:Hid (∀b W,(may && o)=true->ne=0->C b W->am 41 #[aB c,ab 0,aB b] W λe w'=>e=.returned (.tuple #[])/\Hid (R t 0 w'/\w'.cell? ⟨c,2,none⟩=some (ab t))))(j:Hid (∀W,aj w W->(may=false->R 0 2 W)/\((may && !o)=true->R 0 4 W)/\((may && o)=true->ne≠0->R 0 ne W))):am 15 #[aB c,af nm,.agg #[ab f,ab g,af h,ae xa i xc]] w λe w'=>∃v Q,e=.returned (.tuple #[ab v,ab Q])/\Hid (R v Q w'):=by
 go_enter func15,ntmps15;go_upto_region 1 with fail;generalize O:w.alloc _=G;have u:Hid (aj w G/\G.heap[w.heap.size]?=some (.cells #[ab f,ab g,af h,ae xa i xc] 28)):=by
  rw[<-O];exact⟨(ap _ _).alloc (ak _) _,aE _ _⟩
 clear O;obtain⟨a,E⟩:∃a,a=w.heap.size:=⟨_,rfl⟩;rw[<-E];have K:Hid (G.heap[a]?=some (.cells #[ab f,ab g,af h,ae xa i xc] 28)):=by rw[E];exact u.2
 have HB:=aq u.1;clear E u;go_wp2_with fail;refine(J _ HB).mono ?_;rintro e ar ⟨rfl,P⟩;obtain rfl:=P.symm;clear P J;cases may
 ·have d:=aq ((j _ HB).1 rfl);clear l j r z;go_wp2_with fail;exact av (v:=.tuple #[ab 0,ab 2]) (by simp[results,results15,go_sem]) rfl ⟨0,2,rfl,d⟩
 go_wp2_with fail;refine(z _ HB).mono ?_;rintro e H ⟨rfl,D⟩;have m:=aq (HB.trans (D.mono HB.size));have A:=aq (gd D K);clear z K HB D;cases o
 ·have d:=aq ((j _ m).2.1 rfl);clear l j r;go_wp2_with fail;exact av (v:=.tuple #[ab 0,ab 4]) (by simp[results,results15,go_sem]) rfl ⟨0,4,rfl,d⟩
 have y:Hid (aj H H.drew):=(ap _ _).drew;have n:=aq (m.trans (y.mono m.size));have B:=aq (gd y A);have q:Hid (∀W:World,aj w W->W.heap[a]?=some (.cells #[ab f,ab g,af h,ae xa i xc] 28)->W.cell? ⟨c,1,none⟩=some (ab room)/\W.cell? ⟨a,0,none⟩=some (ab f)/\W.cell? ⟨a,1,none⟩=some (ab g)/\W.cell? ⟨a,2,none⟩=some (af h)/\W.cell? ⟨a,3,none⟩=some (ae xa i xc)):=λW ah s=>⟨(ah.cell (p:=⟨c,1,none⟩) ai).trans T,ag s 0,ag s 1,ag s 2,ag s 3⟩;obtain⟨Z,V,X,N,Y⟩:=q.out H m A;go_upto_region 5 with fail
 go_region_held3 (λW=>W.cell? ⟨c,1,none⟩=some (ab room)/\W.cell? ⟨a,0,none⟩=some (ab f)/\W.cell? ⟨a,1,none⟩=some (ab g)/\W.cell? ⟨a,2,none⟩=some (af h)/\W.cell? ⟨a,3,none⟩=some (ae xa i xc))
  (first|exact q _ n B|exact q _ x L) ((first
   | (go_at_call 40;refine(r _ n).mono ?_;rintro e an ⟨al,rfl,k⟩;have L:=aq (gd k.1 B);have x:=aq (n.trans (k.1.mono n.size)))))
 have d:=aq (j _ x);clear Z V X N Y q B n y A m j r L x;by_cases F:ne=0
 ·subst F;obtain⟨b,rfl,M⟩:∃b,al=some ⟨b,0,none⟩/\Hid (C b an):=by
   obtain⟨b,aa,ad⟩:=k.out.2 rfl;exact⟨b,aa,ad⟩
  have S:=aq (l _ _ rfl rfl M);clear l M k d;go_wp2_with fail;refine S.mono ?_;rintro e au ⟨rfl,I⟩;have N:=I.2;go_wp2_with fail;exact av (v:=.tuple #[ab t,ab 0]) (by simp[results,results15,go_sem]) rfl ⟨t,0,rfl,I.1⟩
 ·have U:=aq (d.2.2 rfl F);have ao:(ne==0)=false:=by simpa using F
  clear l k d;go_wp2_with fail;exact av (v:=.tuple #[ab 0,ab ne]) (by simp[results,results15,go_sem]) rfl ⟨0,ne,rfl,U⟩
section
variable {p:kQ} {s:Sy} {d:fY} {w:World}
theorem Kx{n:Nat}(a:s.may n=true):s.ps.length+n<=12/\s.last+n<=90:=by
 unfold Sy.may at a;simp only[aA,bO]at a;omega
theorem bj.start(j:bj p s d w)(nm:ByteArray)(O:nm.size<=9223372036854775807){m:Nat}(x:Tm (m+1))(P:In w.heap.size w (m+1) x)(K:(ax (m+1) x).length<=2097152)(M:d.k<=47000)(J:d.es.length<=99000):am 15 #[aB p.b,af nm,df (m+1) x] w λe w'=>∃v r,e=.returned (.tuple #[ab v,ab r])/\Hid ((r=(s.start p.n p.prog p.room nm (m+1) x).2/\(r=0->v=s.last+1))/\∃i,bj p (s.start p.n p.prog p.room nm (m+1) x).1 i w'/\fS 1 0 d i w w'):=by
 obtain⟨q,f⟩:∃q,q=s.start p.n p.prog p.room nm (m+1) x:=⟨_,rfl⟩;rw[<-f];unfold Sy.start at f;have B:∀a,aj w a->q.1=s->∃i,bj p q.1 i a/\fS 1 0 d i w a:=λa c e=>⟨d,by rw[e];exact j.later c,(dT.later d c).un.mono (aI _) (ak _)⟩;refine El p.b nm x.1.1 x.1.2.1 x.1.2.2 x.2.1.1 x.2.2.length x.2.1.2 p.room (fX (m+1) x p.room nm) (s.last+1) (s.may 1) (lf p.n p.prog nm) w (λy a=>∃u,aj w u/\aj u a/\P1 p.lo y nm p.room (cn (m+1) x) [] (d.k+201) (λb=>u.heap.size<=b/\b<a.heap.size) a) (λv r w'=>(r=q.2/\(r=0->v=s.last+1))/\∃i,bj p q.1 i w'/\fS 1 0 d i w w') j.lo.2 j.cells.2.1 (λa c=>(j.later c).mayHave 1 (by decide)) (λa c=>(j.later c).knows nm) (λa c=>?_) (λy a l t L=>?_) λa c=>⟨λe=>?_,λe=>?_,λe t=>?_⟩
 ·refine(P1.new m x p.room nm a O ((P.below c).mono c.size) K).mono ?_;rintro e w' ⟨g,rfl,z⟩;obtain⟨o,E,C⟩:=z.out;refine⟨g,rfl,o,λe=>?_⟩;obtain⟨y,l,t,V,G⟩:=C e;have:=j.lo.1;have:=c.size;exact⟨y,l,a,c,o,G.mono (λb h=>h) (by omega) λb h=>⟨by omega,h.2⟩⟩
 ·simp only[aA]at l;rw[if_neg (by rw[l.1];decide),if_neg (by rw[l.2];decide),if_neg (by rw[t];decide)]at f;obtain⟨u,o,E,C⟩:=L;have A:=o.trans (E.mono o.size);have I:=j.later A;have Z:=o.size;have W:=Kx l.1;refine(I.add 0 C (λg h=>?_) (by omega) M J).mono ?_
  ·have:=j.low g;by_cases F:d.ow g=0
   ·exact F
   ·have:=(this F).2;omega
  ·rintro e w' ⟨rfl,z⟩;obtain⟨i,D,H⟩:=z;refine⟨rfl,⟨⟨by rw[f],λ_=>rfl⟩,i,by rw[f];exact D,?_⟩,D.cells.2.2.1⟩;obtain⟨Q,R,aa,S,U⟩:=H;have N:br (λg=>d.ow g≠0) w a:=aJ A _;have Y:=A.size;exact⟨N.trans (Q.mono (T:=λg=>d.ow g≠0) λg _ e=>by omega) λg _ e=>e,λg X=>R g (by omega) λh=>by omega,dz S,U⟩
 ·rw[if_pos e]at f;exact⟨⟨by rw[f],(λh=>by cases h)⟩,B a c (by rw[f])⟩
 ·simp only[aA,ph]at e;rw[if_neg (by rw[e.1];decide),if_pos e.2]at f;exact⟨⟨by rw[f],(λh=>by cases h)⟩,B a c (by rw[f])⟩
 ·simp only[aA]at e;rw[if_neg (by rw[e.1];decide),if_neg (by rw[e.2];decide),if_pos t]at f;exact⟨⟨by rw[f],λh=>absurd h t⟩,B a c (by rw[f])⟩
end
theorem OF:(Tryz.prog.info? 97).map (λi=>(i.zero,i.size,i.bytes))=some (some (.pointer none),1,8):=by kernel_rfl
theorem G0(m:Nat)(pa:Option Addr)(pl pc:Nat)(may:Bool)(room:Int)(w:World)(aw u x:Nat->Int)(nm y:Nat->ByteArray)(xa:Nat->Option Addr)(z xc:Nat->Nat)(l:Nat->Bool)(ne:Nat->Int)(r:Nat->List Nat->Value->World->Prop)(N:Nat->Nat->List Nat->Value->World->Prop)(R:Value->Bool->World->Prop)(bF:pl<=1000)(bz:m<w.heap.size)(aQ:Hid (w.cell? ⟨m,1,none⟩=some (ab room)))(V:Hid (∀j,j<pl->∃g,pa=some ⟨g,0,none⟩/\g<w.heap.size/\Hid (w.cell? ⟨g,j*6,none⟩=some (ab (aw j))/\w.cell? ⟨g,j*6+1,none⟩=some (af (nm j))/\w.cell? ⟨g,j*6+2,none⟩=some (ab (u j))/\w.cell? ⟨g,j*6+3,none⟩=some (ab (x j))/\w.cell? ⟨g,j*6+4,none⟩=some (af (y j))/\w.cell? ⟨g,j*6+5,none⟩=some (ae (xa j) (z j) (xc j)))))(aT:Hid (am 38 #[aB m,ab pl] w λe w'=>e=.returned (.bool may)/\w'=w))(Y:Hid (∀j W,j<pl->aj w W->am 39 #[aB m,af (nm j)] W λe w'=>e=.returned (.bool (l j))/\aj W w'))(Z:Hid (∀j d v W,j<pl->l j=true->aj w W->r j d v W->am 40 #[af (nm j),.agg #[ab (u j),ab (x j),af (y j),ae (xa j) (z j) (xc j)],ab room] W λe w'=>∃p:Option Addr,e=.returned (.tuple #[.pointer p,ab (ne j)])/\Hid (aj W w'/\(ne j=0->∃k,p=some ⟨k,0,none⟩/\N j k d v w'))))(an:Hid (r 0 [] (ae none 0 0) w))(q:Hid (∀j d v W D,r j d v W->aj W D->r j d v D))(M:Hid (∀j k d a c g bo W aG D,j<pl->N j k d (ae a j c) W->aj W aG->aG.grownBy D (Value.slice a j c).ownBlock->((Value.slice a j c).ownBlock=some g\/g=aG.heap.size)->g<D.heap.size->r (j+1) (d++ [k]) (ae (some ⟨g,0,none⟩) (j+1) bo) D))(K:Hid (∀W,aj w W->(may=false\/∃j,j<pl/\(l j=false\/ne j≠0))->R (ae none 0 0) false W))(ad:Hid (∀W d a c,aj w W->may=true->(∀j,j<pl->l j=true/\ne j=0)->d.length=pl->W.ownsRow w.heap.size 97 1 (ae a pl c) pl (d.map Ax)->r pl d (ae a pl c) W->R (ae a pl c) true W)):am 69 #[aB m,ae pa pl pc] w λe w'=>∃v b,e=.returned (.tuple #[v,.bool b])/\Hid (R v b w'):=by
 obtain⟨bA,a8,bb,bc,bd⟩:=bP OF;have X:=aq (⟨a8,bb,bc,bd⟩:_/\_/\_/\_);clear a8 bb bc bd;go_enter func69,ntmps69;go_wp2_with fail;refine aT.mono ?_;rintro e bJ ⟨rfl,be⟩;obtain rfl:=be.symm;clear be aT;cases may
 ·have n:=aq (K _ (ap _ _) (ah rfl));clear K ad M an q Z Y V;go_wp2_with fail;exact av (v:=.tuple #[ae none 0 0,.bool false]) (by simp[results,results69,go_sem]) rfl ⟨_,_,rfl,n⟩
 go_wp2_with fail;go_loopw [6,18] (λo i wr=>∃(j:Nat)(a:Option Addr)(c:Nat),j<=pl/\i=ab j/\o=ae a j c/\Hid (∃d,d.length=j/\wr.ownsRow w.heap.size 97 1 (ae a j c) j (d.map Ax)/\r j d (ae a j c) wr/\aj w wr/\∀i,i<j->l i=true/\ne i=0)) (λ_ i _=>pl-(intOf i).toNat)
 case atStart=>exact⟨0,none,0,aI _,rfl,rfl,[],rfl,eH _ _ _ _,an,ap _ _,λi h=>by omega⟩
 case round=>
 obtain⟨j,a,c,bE,rfl,rfl,aa⟩:=hrel;by_cases Q:j<pl
 ·obtain⟨g,rfl,bx,aR⟩:=V.out j Q;obtain⟨d,P,S,U,E,T⟩:=aa.out;have aY:=aq S;have a2:=aq U;have HB:=aq E;have aX:=aq T;have bw:=aq P;have s:∀{f:Nat}{v:Value},w.cell? ⟨g,f,none⟩=some v->wr.cell? ⟨g,f,none⟩=some v:=λ{f v} h=>(E.cell (p:=⟨g,f,none⟩) bx).trans h;obtain⟨a3,ar,au,a4,a5,a6⟩:=aR.out;have f0:=s a3;have f1:=s ar;have f2:=s au;have f3:=s a4;have f4:=s a5;have f5:=s a6;have bH:(0:Int)<=(j:Int):=by omega
  have bI:(j:Int)<(pl:Int):=by omega
  clear s a3 ar au a4 a5 a6 aR V S U E T P aa;go_upto_region 7 with fail;generalize bf:wr.alloc _=ax;have F:Hid (aj wr ax/\ax.heap[wr.heap.size]?=some (.cells #[ab (aw j),af (nm j),ab (u j),ab (x j),af (y j),ae (xa j) (z j) (xc j)] 193)):=by
   rw[<-bf];exact⟨(ap _ _).alloc (ak _) _,aE _ _⟩
  clear bf f0 f1 f2 f3 f4 f5;obtain⟨f,aM⟩:∃f,f=wr.heap.size:=⟨_,rfl⟩;rw[<-aM];have aC:Hid (ax.heap[f]?=some (.cells #[ab (aw j),af (nm j),ab (u j),ab (x j),af (y j),ae (xa j) (z j) (xc j)] 193)):=by rw[aM];exact F.2
  have G:=aq (HB.trans (F.1.mono HB.size));have a0:=aq (q _ _ _ _ _ a2 F.1);have aU:=aq (bi aY (aJ F.1 λ_=>False) λ_ _ h=>h);clear aM F aY a2 HB;have C:Hid (∀W:World,aj w W->W.heap[f]?=some (.cells #[ab (aw j),af (nm j),ab (u j),ab (x j),af (y j),ae (xa j) (z j) (xc j)] 193)->W.cell? ⟨m,1,none⟩=some (ab room)/\W.cell? ⟨f,1,none⟩=some (af (nm j))/\W.cell? ⟨f,2,none⟩=some (ab (u j))/\W.cell? ⟨f,3,none⟩=some (ab (x j))/\W.cell? ⟨f,4,none⟩=some (af (y j))/\W.cell? ⟨f,5,none⟩=some (ae (xa j) (z j) (xc j))):=λW aK h=>⟨(aK.cell (p:=⟨m,1,none⟩) bz).trans aQ,ag h 1,ag h 2,ag h 3,ag h 4,ag h 5⟩;have aH:=(C ax G aC).2.1;have aS:=aq (λW=>Y j W Q);have ay:=aq (λd v W=>Z j d v W Q);have L:=aq (λW aK e=>K W aK (ai ⟨j,Q,e⟩));have aA:Hid (l j=true->ne j=0->∀i,i<j+1->l i=true/\ne i=0):=λbu bv i bD=>by
   by_cases e:i=j
   ·subst e;exact⟨bu,bv⟩
   ·exact aX i (by omega)
  clear Y Z K ad aQ aX an;generalize l j=bB at*;generalize ne j=bg at*;go_wp2_with fail;refine(aS _ G).mono ?_;rintro e aO ⟨rfl,O⟩;have B:=aq (G.trans (O.mono G.size));have al:=aq (gd O aC);have aF:=aq (q _ _ _ _ _ a0 O);have az:=aq (bi aU (aJ O λ_=>False) λ_ _ h=>h);clear aS G aC a0 aU O aH;cases bB
  ·have n:=aq (L _ B (ah rfl));clear L ay C aF az al B M q aA;go_wp2_with fail;exact av (v:=.tuple #[ae none 0 0,.bool false]) (by simp[results,results69,go_sem]) rfl ⟨_,_,rfl,n⟩
  have J:Hid (aj aO aO.drew):=(ap _ _).drew;have I:=aq (B.trans (J.mono B.size));have aD:=aq (gd J al);have a1:=aq (q _ _ _ _ _ aF J);have aW:=aq (bi az (aJ J λ_=>False) λ_ _ h=>h);obtain⟨bs,aH,bp,bq,br,ao⟩:=C.out aO B al;clear az aF;go_upto_region 9 with fail
  go_region_held3 (λW=>W.cell? ⟨m,1,none⟩=some (ab room)/\W.cell? ⟨f,1,none⟩=some (af (nm j))/\W.cell? ⟨f,2,none⟩=some (ab (u j))/\W.cell? ⟨f,3,none⟩=some (ab (x j))/\W.cell? ⟨f,4,none⟩=some (af (y j))/\W.cell? ⟨f,5,none⟩=some (ae (xa j) (z j) (xc j)))
   (first|exact C _ I aD|exact C _ H aZ) ((first
    | (go_at_call 40;refine(ay _ _ _ (by first|rfl|trivial) I a1).mono ?_;rintro e aP ⟨bC,rfl,A⟩;have aZ:=aq (gd A.1 aD);have H:=aq (I.trans (A.1.mono I.size));have aV:=aq (bi aW (aJ A.1 λ_=>False) λ_ _ h=>h))))
  clear bs aH bp bq br ao C aD I J al B ay aZ a1 aW;by_cases aN:bg=0
  ·subst aN;obtain⟨k,rfl,bm⟩:∃k,bC=some ⟨k,0,none⟩/\Hid (N j k d (ae a j c) aP):=by
    obtain⟨k,ar,au⟩:=A.out.2 rfl;exact⟨k,ar,au⟩
   have bl:=aq H.size;clear L A
   go_wp2_with (first
    | (at_builtin;refine wpList_append_lies _ rfl _ _ 141 rfl w.heap.size 97 bA _ 1 8 underlying141 X.1 X.2.1 X.2.2.1 X.2.2.2 rfl (by decide) (ae a j c) j (d.map Ax) rfl (aV.alloc _) ⟨aP.heap.size,0,none⟩ 1 1 [aB k] rfl rfl (World.news_of_block (cs:= #[aB k]) (t:=97) (fr:=(0,0)) (aE aP _)) (by simp[Value.oneCell']) (by decide) (by unfold maxLen;omega) (by omega) (by have:=bl.out;simp;omega) _ rfl ?_;intro bt ao bK ba aL a7 a9;have bj:=aq ba;have bn:=aq (M _ _ _ _ _ _ ao _ _ _ Q bm ((ap _ _).alloc (ak _) _) aL a7 a9);have bh:=aq (H.trans (jX aV aL H.size));clear ba aL a7 a9))
   go_roundw
   case rel=>exact⟨j+1,some ⟨bt,0,none⟩,ao,by omega,by go_num,rfl,d++ [k],by rw[bk,bw.out];rfl,by rw[fP];exact bj,bn,bh,aA trivial rfl⟩
   case measure=>simp[intOf];omega
  ·have n:=aq (L _ H (ai aN));have bG:(bg==0)=false:=by simpa using aN
   clear L A M q aA;go_wp2_with fail;exact av (v:=.tuple #[ae none 0 0,.bool false]) (by simp[results,results69,go_sem]) rfl ⟨_,_,rfl,n⟩
 ·obtain rfl:j=pl:=by omega
  obtain⟨d,P,S,U,E,T⟩:=aa.out;have n:=aq (ad _ d _ _ E trivial T P S U);clear K ad M an q Z Y V aa P S U E T;go_wp2_with fail;exact av (v:=.tuple #[ae a j c,.bool true]) (by simp[results,results69,go_sem]) rfl ⟨_,_,rfl,n⟩
theorem vG{d:Type}(f:d->List Value)(k:Nat)(c:∀a,(f a).length=k):(l:List d)->(i:Nat)->(a:d)->l[i]?=some a->∀(t:Nat)(b:Value),(f a)[t]?=some b->(l.flatMap f)[i*k+t]?=some b
 | [],i,a,h,_,_,_=>by simp at h
 | x::l,0,a,h,t,b,hu=>by
  simp at h;subst h;rw[bz,dm (by have:=(aO.1 hu).1;omega)];simpa using hu
 | x::l,i+1,a,h,t,b,hu=>by
  rw[bz,eC (by rw[c,Nat.succ_mul];omega),c,show (i+1)*k+t-k=i*k+t by rw[Nat.succ_mul];omega];exact vG f k c l i a (by simpa using h) t b hu
theorem rE{w:World}{base:Nat}{e:TypeId}{k:Nat}{v:Value}{n:Nat}{q:Type}{f:q->List Value}{l:List q}(m:w.ownsRow base e k v n (l.flatMap f))(A:0<k)(o:∀d,(f d).length=k):∃a c,v=ae a n c/\(∀b,a=some b->v.ownBlock=some b.block)/\∀(i:Nat)(d:q),l[i]?=some d->∃g,a=some ⟨g,0,none⟩/\g<w.heap.size/\∀(t:Nat)(j:Value),(f d)[t]?=some j->w.cell? ⟨g,i*k+t,none⟩=some j:=by
 have s:=m;rcases m.2 with⟨rfl,r⟩|⟨g,c,C,rfl,D,z,F⟩
 ·refine⟨none,0,by rw[r],(λb e=>by cases e),λi d p=>?_⟩;have u:=vG f k o l i d p 0 _ (aG (by rw[o];exact A));have E:=(aO.1 u).1;have x:=m.1;rw[r,Nat.zero_mul]at x;omega
 ·refine⟨_,c,rfl,(λb e=>by cases e;rfl),λi d p=>⟨g,rfl,(aF.1 z).1,λt j B=>?_⟩⟩;have y:=World.ownsRow.cells s (g:=g) rfl _ _ (vG f k o l i d p t j B);rwa [show∀h,(⟨g,0,none⟩:Addr).add h=⟨g,h,none⟩from λh=>by cases h<;>simp[Addr.add]]at y
def lV(lo:Nat)(room:Int)(K:Nat)(e:Nat->Prop)(B:Nat)(w:World):List (Int×ByteArray×Tc)->List Nat->Nat->Prop
 | [],[],c=>c<=B
 | x::l,b::bs,c=>∃a d,(c<=a/\a<=d)/\P1 lo b x.2.1 room x.2.2 [] K (λq=>a<=q/\q<d) w/\(∀q,a<=q->q<d->¬e q)/\lV lo room K e B w l bs d
 | _,_,_=>False
section
variable {lo K:Nat} {room:Int} {X:Nat->Prop} {B:Nat} {w:World}
theorem lV.le:{l:List (Int×ByteArray×Tc)}->{a:List Nat}->{c:Nat}->lV lo room K X B w l a c->c<=B
 | [],[],_,h=>h
 | [],_::_,_,h=>h.elim
 | _::_,[],_,h=>h.elim
 | _::_,_::_,_,⟨c1,c2,h1,_,_,h4⟩=>by have:=h4.le;omega
theorem lV.kept2{w':World}{S f:Nat->Prop}{e c0:Nat}(a:br S w w')(j:∀q,c0<=q->q<B->S q->X q)(k:∀q,q<B->f q->X q)(i:B<=e):{l:List (Int×ByteArray×Tc)}->{g:List Nat}->{c:Nat}->c0<=c->lV lo room K X B w l g c->lV lo room K f e w' l g c
 | [],[],_,_,h=>az h i
 | [],_::_,_,_,h=>h.elim
 | _::_,[],_,_,h=>h.elim
 | _::_,_::_,_,hc,⟨c1,c2,h1,h2,h3,h4⟩=>by
  have o:=h4.le;exact⟨c1,c2,h1,h2.kept (S:=S) ⟨a.os,a.tape,a.output,a.size,a.block⟩ λb q d=>h3 b q.1 q.2 (j b (by omega) (by omega) d),λq m n d=>h3 q m n (k q (by omega) d),h4.kept2 a j k i (by omega)⟩
theorem lV.kept{w':World}{S b:Nat->Prop}{a:Nat}(i:br S w w')(g:∀q,q<B->S q->X q)(h:∀q,q<B->b q->X q)(f:B<=a){l:List (Int×ByteArray×Tc)}{d:List Nat}{c:Nat}(e:lV lo room K X B w l d c):lV lo room K b a w' l d c:=e.kept2 (c0:=0) i (λq _=>g q) h f (aI _)
theorem lV.snoc{a B2 e b:Nat}{x:Int×ByteArray×Tc}(g:B<=a)(d:a<=B2/\B2<=e)(i:P1 lo b x.2.1 room x.2.2 [] K (λq=>a<=q/\q<B2) w)(j:∀q,a<=q->q<B2->¬X q):{l:List (Int×ByteArray×Tc)}->{f:List Nat}->{c:Nat}->lV lo room K X B w l f c->lV lo room K X e w (l++ [x]) (f++ [b]) c
 | [],[],_,h=>⟨a,B2,⟨az h g,d.1⟩,i,j,d.2⟩
 | [],_::_,_,h=>h.elim
 | _::_,[],_,h=>h.elim
 | _::_,_::_,_,⟨c1,c2,h1,h2,h3,h4⟩=>⟨c1,c2,h1,h2,h3,h4.snoc g d i j⟩
end
section
variable {p:kQ} {s:Sy} {d:fY} {w:World}
theorem MT{n:Nat}{x:Tm n}(room:Int)(nm:ByteArray)(b:bv n x=0):fX 13 (cn n x) room nm=fX n x room nm:=by
 have a:=eO b;unfold fX jL;rw[bJ a,cB _ _ _ _ a,lI _ _ _ _ a]
theorem bj.made(z:bj p s d w){N ad:Nat}{pa:Option Addr}{pl pc:Nat}{t:List (Int×ByteArray×Tm (N+1))}(aD:w.ownsRow ad 193 6 (ae pa pl pc) pl (t.flatMap λg=>OW g.1 g.2.1 g.2.2))(ax:t.length=pl)(Y:pl<=1000)(aE:∀g∈t,bv _ g.2.2=0/\In w.heap.size w _ g.2.2):am 69 #[aB p.b,ae pa pl pc] w λe w'=>∃v b,e=.returned (.tuple #[v,.bool b])/\Hid (aj w w'/\b=s.made p.n p.prog p.room (t.map λg=>(g.1,g.2.1,cn _ g.2.2))/\(b=true->∃m a c,v=ae a pl c/\m.length=pl/\w'.ownsRow w.heap.size 97 1 v pl (m.map Ax)/\lV p.lo p.room (d.k+201) (λq=>v.ownBlock=some q) w'.heap.size w' (t.map λg=>(g.1,g.2.1,cn _ g.2.2)) m w.heap.size)):=by
 have az:ky (p.n+1) p.prog=true:=(dH z.pg.2.2.2.1).1;obtain⟨aS,O,af,_,aq⟩:=rE aD (by decide) λg=>rfl;injection af with ah el aT;subst ah;have F:∀f,f<pl->t[f]?=some (t.getD f (0,⟨#[]⟩,((0,0,⟨#[]⟩),(none,0),[]))):=λf i=>by
  rw[mO,aG (by omega)];rfl
 generalize T:(λf=>t.getD f (0,⟨#[]⟩,((0,0,⟨#[]⟩),(none,0),[])))=h;have F:∀f,f<pl->t[f]?=some (h f):=λf i=>by rw[F f i,<-T]
 clear T;obtain⟨o,J⟩:∃o,o=t.map λg=>(g.1,g.2.1,cn _ g.2.2):=⟨_,rfl⟩;rw[<-J];have U:o.length=pl:=by rw[J,eE,ax]
 have K:∀f,f<pl->o[f]?=some ((h f).1,(h f).2.1,cn _ (h f).2.2):=λf i=>by rw[J,dn,F f i];rfl
 have W:∀f,f<pl->bv _ (h f).2.2=0/\In w.heap.size w _ (h f).2.2:=λf i=>aE _ (aH (F f i));have X:∀f,f<pl->fX 13 (cn _ (h f).2.2) p.room (h f).2.1=fX _ (h f).2.2 p.room (h f).2.1:=λf i=>MT _ _ (W f i).1;have aF:∀f,f<pl->o.take (f+1)=o.take f++ [((h f).1,(h f).2.1,cn _ (h f).2.2)]:=λf i=>by
  rw[dq,K f i];rfl
 refine G0 p.b pa pl pc (s.may pl) p.room w (λf=>(h f).1) (λf=>(h f).2.2.1.1) (λf=>(h f).2.2.1.2.1) (λf=>(h f).2.1) (λf=>(h f).2.2.1.2.2) (λf=>(h f).2.2.2.1.1) (λf=>(h f).2.2.2.2.length) (λf=>(h f).2.2.2.1.2) (λf=>lf p.n p.prog (h f).2.1) (λf=>fX _ (h f).2.2 p.room (h f).2.1) (λf m v j=>lV p.lo p.room (d.k+201) (λq=>v.ownBlock=some q) j.heap.size j (o.take f) m w.heap.size/\∀q,v.ownBlock=some q->q<j.heap.size)
  (λf G m v j=>∃x,(w.heap.size<=x/\x<=j.heap.size)/\(lV p.lo p.room (d.k+201) (λq=>v.ownBlock=some q) x j (o.take f) m w.heap.size)/\(∀q,v.ownBlock=some q->q<x)/\P1 p.lo G (h f).2.1 p.room (cn _ (h f).2.2) [] (d.k+201) (λq=>x<=q/\q<j.heap.size) j) (λv b w'=>aj w w'/\b=s.made p.n p.prog p.room o/\(b=true->∃m a c,v=ae a pl c/\m.length=pl/\w'.ownsRow w.heap.size 97 1 v pl (m.map Ax)/\lV p.lo p.room (d.k+201) (λq=>v.ownBlock=some q) w'.heap.size w' o m w.heap.size)) Y z.lo.2 z.cells.2.1 (λf i=>?_) (z.mayHave pl Y) (λf j i l=>(z.later l).knows _) (λf m v j i r l E=>?_) ?_ (λf m v j H E l=>?_) (λf G m a c D O j ab H B ap l A ar au=>?_) (λj l u=>?_) λj m a c l al Q an ao R=>?_
 ·obtain⟨D,I,P,y⟩:=aq f _ (F f i);exact⟨D,I,P,y 0 _ rfl,y 1 _ rfl,y 2 _ rfl,y 3 _ rfl,y 4 _ rfl,y 5 _ rfl⟩
 ·have aW:=DA az r;obtain⟨aK,aL⟩:=W f i;refine(P1.new _ (h f).2.2 p.room (h f).2.1 j (by omega) ((aL.below l).mono l.size) (eg aK)).mono ?_;rintro e w' ⟨q,rfl,aa⟩;obtain⟨L,aX,aM⟩:=aa;refine⟨q,rfl,L,λe=>?_⟩;obtain⟨G,I,P,y,ag⟩:=aM e;have:=z.lo.1;have:=l.size;refine⟨G,I,j.heap.size,⟨l.size,L.size⟩,E.1.kept (aJ L λ_=>False) (λ_ _ g=>g.elim) (λ_ _ g=>g) (ak _),E.2,ag.mono (λb g=>g) (by omega) λb g=>⟨by omega,g.2⟩⟩
 ·exact⟨ak _,(λq g=>by cases g)⟩
 ·exact⟨E.1.kept (aJ l λ_=>False) (λ_ _ g=>g.elim) (λ_ _ g=>g) l.size,λq g=>aR (E.2 q g) l.size⟩
 ·obtain⟨x,⟨aY,aZ⟩,aN,Z,aP⟩:=ap;have av:br (λq=>(Value.slice a f c).ownBlock=some q) ab H:=⟨A.os,A.tape,A.output,A.size,λk r ay=>A.block k r λe=>ay e.symm⟩;have r:br (λq=>(Value.slice a f c).ownBlock=some q) j H:=(aJ l _).trans av λ_ _ e=>e;have aU:=l.size;have aV:=A.size;have V:∀q,q<j.heap.size->(Value.slice (some ⟨D,0,none⟩) (f+1) O).ownBlock=some q->(Value.slice a f c).ownBlock=some q:=λq aC g=>by
   obtain rfl:D=q:=aw g;rcases ar with e|e
   ·exact e
   ·omega
  refine⟨?_,λq g=>?_⟩
  ·rw[aF f B];refine lV.snoc (ak x) (B2:=j.heap.size) (by omega) ?_ ?_ (aN.kept r (λq _ g=>g) (λq aC g=>V q (by omega) g) (ak _))
   ·exact aP.kept (S:=λq=>(Value.slice a f c).ownBlock=some q) ⟨r.os,r.tape,r.output,r.size,r.block⟩ λb g C=>by have:=Z b C;omega
   ·exact λq M C aQ=>by have:=Z q (V q C aQ);omega
  ·obtain rfl:D=q:=aw g;exact au
 ·refine⟨l,?_,(λg=>by cases g)⟩;unfold Sy.made;rw[U];rcases u with u|⟨f,i,u⟩
  ·rw[u];rfl
  ·refine Eq.symm (Bool.and_eq_false_iff.2 (ai ?_));rw[List.all_eq_false];refine⟨_,aH (K f i),?_⟩;simp only[aA,cm,not_and];intro M C;rw[X f i]at C;rcases u with u|u
   ·rw[u]at M;cases M
   ·exact u C
 ·refine⟨l,?_,λ_=>⟨m,a,c,rfl,an,ao,?_⟩⟩
  ·unfold Sy.made;rw[U,al,ez,eq_comm,bZ];intro a0 aI;obtain⟨f,i⟩:=List.mem_iff_getElem?.1 aI;have B:f<pl:=by have:=(aO.1 i).1;omega
   rw[K f B]at i;obtain rfl:=aw i;simp only[aA,cm];exact⟨(Q f B).1,(X f B).trans (Q f B).2⟩
  ·rw[bu (by omega)]at R;exact R.1
end
theorem zZ(x:Nat)(a O P:Int)(Q:ByteArray)(ma:Option Addr)(T S:Nat)(f:Int)(sa:Option Addr)(sl sc:Nat)(pa:Option Addr)(pl pc:Nat)(ka:Option Addr)(kl kc:Nat)(ar:Option Addr)(vl aC:Nat)(aa:Nat->Nat)(C D E:Nat->Int)(F:Nat->ByteArray)(xa:Nat->Option Addr)(G xc:Nat->Nat)(ao:Nat->Int)(w:World)(k o p:Nat->Nat->World->Prop)(R:World->Prop)(aH:vl<=1000)(aG:sl<=1000)(aF:kl<=1000)(X:Hid (∀q W,aj w W->w.heap.size<=q->W.heap[q]?=some (.cells #[ab O,ab P,af Q,ae ma T S,ab f,ae sa sl sc,ae pa pl pc,ae ka kl kc] 137)->k q 0 W))(H:Hid (∀q W,k q vl W->o q 0 W))(y:Hid (∀q W,o q sl W->p q 0 W))(i:Hid (∀q j W,(k q j W\/o q j W\/p q j W)->W.heap[q]?=some (.cells #[ab O,ab P,af Q,ae ma T S,ab f,ae sa sl sc,ae pa pl pc,ae ka kl kc] 137)))(I:Hid (∀q j W,j<vl->k q j W->(∃g,ar=some ⟨g,0,none⟩/\W.cell? ⟨g,j,none⟩=some (.pointer (some ⟨aa j,0,none⟩)))/\Hid (am 41 #[aB x,ab a,.pointer (some ⟨aa j,0,none⟩)] W λe w'=>e=.returned (.tuple #[])/\Hid (k q (j+1) w'))))(z:Hid (∀q j W,j<sl->o q j W->(∃g,sa=some ⟨g,0,none⟩/\W.cell? ⟨g,j*5,none⟩=some (ab (C j))/\W.cell? ⟨g,j*5+1,none⟩=some (ab (D j))/\W.cell? ⟨g,j*5+2,none⟩=some (ab (E j))/\W.cell? ⟨g,j*5+3,none⟩=some (af (F j))/\W.cell? ⟨g,j*5+4,none⟩=some (ae (xa j) (G j) (xc j)))/\Hid (∀Z,aj W Z->am 102 #[aB x,ab a,ab (C j),.agg #[ab (D j),ab (E j),af (F j),ae (xa j) (G j) (xc j)]] Z λe w'=>e=.returned (.tuple #[])/\Hid (o q (j+1) w'))))(t:Hid (∀q j W,j<kl->p q j W->(∃g,ka=some ⟨g,0,none⟩/\W.cell? ⟨g,j,none⟩=some (ab (ao j)))/\Hid (am 103 #[aB x,ab a,ab (ao j)] W λe w'=>e=.returned (.tuple #[])/\Hid (p q (j+1) w'))))(s:Hid (∀q W,p q kl W->(f=1->am 70 #[aB x,ab a,ab 1] W λe w'=>e=.returned (.tuple #[])/\Hid (R w'))/\(f≠1->R W))):am 71 #[aB x,ab a,.agg #[ab O,ab P,af Q,ae ma T S,ab f,ae sa sl sc,ae pa pl pc,ae ka kl kc],ae ar vl aC] w λe w'=>e=.returned (.tuple #[])/\Hid (R w'):=by
 go_enter func71,ntmps71;go_upto_region 1 with fail;generalize m:w.alloc _=au;obtain⟨q,B⟩:∃q,q=w.heap.size:=⟨_,rfl⟩;rw[<-B];have V:Hid (k q 0 au):=X q au (by rw[<-m];exact(ap _ _).alloc (ak _) _) (dz B.symm) (by rw[<-m,B];exact aE _ _);clear m B X;go_wp2_with fail;go_loopw [9,16] (λ_ c wr=>∃(j:Nat),j<=vl/\c=ab j/\Hid (k q j wr)) (λ_ c _=>vl-(intOf c).toNat)
 case atStart=>exact⟨0,aI _,rfl,V⟩
 case round=>
 obtain⟨j,A,rfl,b⟩:=hrel;by_cases l:j<vl
 ·obtain⟨⟨g,rfl,M⟩,n⟩:=I.out q j wr l b;have al:(0:Int)<=(j:Int):=by omega
  have an:(j:Int)<(vl:Int):=by omega
  clear H y i I z t s b;go_wp2_with fail;refine n.mono ?_;rintro e d ⟨rfl,h⟩;go_wp2_with fail;go_roundw
  case rel=>exact⟨j+1,by omega,by go_num,h⟩
  case measure=>simp[intOf];omega
 obtain rfl:j=vl:=by omega
 have K:=aq (H _ _ b);clear b I H V A l;have az:wr.cell? ⟨q,5,none⟩=some (ae sa sl sc):=ag (i q 0 wr (ai (ah K))) 5;go_wp2_with fail;clear az;go_loopw [11,28] (λ_ c U=>∃(j:Nat),j<=sl/\c=ab j/\Hid (o q j U)) (λ_ c _=>sl-(intOf c).toNat)
 case atStart=>exact⟨0,aI _,rfl,K⟩
 case round=>
 clear K;obtain⟨j,A,rfl,b⟩:=hrel;by_cases l:j<sl
 ·obtain⟨⟨g,rfl,M,aw,ax,ay,ad⟩,n⟩:=z.out q j _ l b;have al:(0:Int)<=(j:Int):=by omega
  have an:(j:Int)<(sl:Int):=by omega
  clear y i z t s b;go_upto_region 9 with fail;generalize m:World.alloc _ _=d;have r:d.heap[wr.heap.size]?=some (.cells #[ab (C j),ab (D j),ab (E j),af (F j),ae (xa j) (G j) (xc j)] 196):=by
   rw[<-m];exact aE _ _
  have av:=aq (n d (by rw[<-m];exact(ap _ _).alloc (ak _) _));generalize wr.heap.size=u at*;have d0:d.cell? ⟨u,0,none⟩=some (ab (C j)):=ag r 0;have d1:d.cell? ⟨u,1,none⟩=some (ab (D j)):=ag r 1;have d2:d.cell? ⟨u,2,none⟩=some (ab (E j)):=ag r 2;have d3:d.cell? ⟨u,3,none⟩=some (af (F j)):=ag r 3;have d4:d.cell? ⟨u,4,none⟩=some (ae (xa j) (G j) (xc j)):=ag r 4;clear m r n M aw ax ay ad;go_wp2_with fail;refine av.mono ?_;rintro e aJ ⟨rfl,h⟩;go_wp2_with fail;go_roundw
  case rel=>exact⟨j+1,by omega,by go_num,h⟩
  case measure=>simp[intOf];omega
 obtain rfl:j=sl:=by omega
 have L:=aq (y _ _ b);clear b z y A l;have aA:wr.cell? ⟨q,7,none⟩=some (ae ka kl kc):=ag (i q 0 wr (ai (ai L))) 7;go_wp2_with fail;clear aA;go_loopw [13,43] (λ_ c U=>∃(j:Nat),j<=kl/\c=ab j/\Hid (p q j U)) (λ_ c _=>kl-(intOf c).toNat)
 case atStart=>exact⟨0,aI _,rfl,L⟩
 case round=>
 clear L;obtain⟨j,A,rfl,b⟩:=hrel;by_cases l:j<kl
 ·obtain⟨⟨g,rfl,M⟩,n⟩:=t.out q j _ l b;have al:(0:Int)<=(j:Int):=by omega
  have an:(j:Int)<(kl:Int):=by omega
  clear i t s b;go_wp2_with fail;refine n.mono ?_;rintro e d ⟨rfl,h⟩;go_wp2_with fail;go_roundw
  case rel=>exact⟨j+1,by omega,by go_num,h⟩
  case measure=>simp[intOf];omega
 obtain rfl:j=kl:=by omega
 have ad:wr.cell? ⟨q,4,none⟩=some (ab f):=ag (i q _ wr (ai (ai b))) 4;have Y:=aq (s q _ b);clear b t i s;by_cases N:f=1
 ·subst N;have J:=aq (Y.1 rfl);go_wp2_with fail;refine J.mono ?_;rintro e d ⟨rfl,h⟩;go_wp2_with fail;exact dZ (v:=.tuple #[]) (by simp[results]) rfl ⟨rfl,h⟩
 ·have J:=aq (Y.2 N);have aD:(f==1)=false:=by simpa using N
  go_wp2_with fail;exact dZ (v:=.tuple #[]) (by simp[results]) rfl ⟨rfl,J⟩
def p7(M:Nat->Prop)(a:Nat)(d b:fY)(w w':World):Prop:=br (λq=>d.ow q<0) w w'/\(∀q,q<w.heap.size->¬M q->b.ow q=d.ow q)/\(∀q,q<w.heap.size->M q->0<=b.ow q)/\b.k=d.k/\b.es.length<=d.es.length+a/\b.wn<=d.wn+a/\b.bn<=d.bn+a
section
variable {p:kQ} {s:Sy} {d d1 d2:fY} {w w1 w2:World} {M:Nat->Prop} {a b:Nat}
theorem p7.up(m:p7 M a d d1 w w1)(k:dT b d1 d2 w1 w2):p7 M (a+b) d d2 w w2:=by
 obtain⟨h,i,j,n,q,r,s⟩:=m;obtain⟨o,l,p,u,v,x⟩:=k;have t:=h.size;refine⟨h.trans o λc e g=>?_,λc e f=>(l c (by omega)).trans (i c e f),λc e f=>by rw[l c (by omega)];exact j c e f,p.trans n,by omega,by omega,by omega⟩;by_cases f:M c
 ·have:=j c e f;omega
 ·rw[i c e f]at g;exact g
theorem p7.ad{M':Nat->Prop}(m:p7 M a d d1 w w1)(k:Oi M' b d1 d2 w1 w2)(o:∀q,M' q->M q):p7 M (a+b) d d2 w w2:=by
 obtain⟨h,i,j,n,t,u,v⟩:=m;obtain⟨p,l,r,s,y,z,A⟩:=k;have x:=h.size;refine⟨h.trans p λq e g=>?_,λq e c=>(l q (by omega) λf=>c (o q f)).trans (i q e c),λq e c=>?_,s.trans n,by omega,by omega,by omega⟩
 ·by_cases c:M q
  ·have:=j q e c;omega
  ·rw[i q e c]at g;exact g
 ·by_cases f:M' q
  ·have:=r q f;omega
  ·rw[l q (by omega) f];exact j q e c
theorem p7.mono(c:p7 M a d d1 w w1)(l:a<=b):p7 M b d d1 w w1:=by
 obtain⟨e,f,g,h,i,j,k⟩:=c;exact⟨e,f,g,h,by omega,by omega,by omega⟩
theorem FQ.ug{m:Nat}{x:Tm m}(e:FQ d w x)(k:p7 M a d d1 w w1):FQ d1 w1 x:=by
 have g:=eP k.1 (D:=λb=>0<=d.ow b/\b<w.heap.size) (λb c f=>by omega) ⟨e.1,In.offB e.2 e.1⟩;refine⟨g.1,g.2.mono λb c=>?_⟩;by_cases f:M b
 ·exact k.2.2.1 b c.2 f
 ·rw[k.2.1 b c.2 f];exact c.1
theorem Bb(a:Int):(l:List (Int×ByteArray×Tc))->(s:Sy)->(l.foldl (λs x=>s.add a x.2.1 x.2.2) s).ps.length=s.ps.length+l.length/\(l.foldl (λs x=>s.add a x.2.1 x.2.2) s).last=s.last+l.length
 | [],s=>by simp
 | x::l,s=>by
  have b:=Bb a l (s.add a x.2.1 x.2.2);rw[fo,b.1,b.2];simp only[Sy.add,Sy.tell,bk,bf,jF];omega
theorem bj.follow(aD:bj p s d w){a:Int}(ao:dt a)(i:Tk)(a5:Az 8 i.sends i.spawns i.links)(y0 y1:Int)(y2:ByteArray)(ya:Option Addr)(yl yc:Nat){N az aW c B:Nat}{sa:Option Addr}{sl sc:Nat}{pa:Option Addr}{pl pc:Nat}{ka:Option Addr}{kl kc:Nat}{L:Option Addr}{vl R:Nat}{K:List (Int×Tm (N+1))}{J:List Nat}{ay:Nat->Prop}(be:w.ownsRow az 196 5 (ae sa sl sc) sl (K.flatMap λg=>NR g.1 g.2))(a7:w.ownsRow az 3 1 (ae ka kl kc) kl (i.links.map λX=>ab X))(bg:w.ownsRow aW 97 1 (ae L vl R) vl (J.map Ax))(a8:K.length=sl/\i.links.length=kl/\J.length=vl/\i.spawns.length=vl)(aq:K.map (λg=>(g.1,cn _ g.2))=i.sends)(bf:∀g∈K,bv _ g.2=0/\FQ d w g.2)(ba:∀q,((Value.slice sa sl sc).ownBlock=some q\/(Value.slice ka kl kc).ownBlock=some q\/(Value.slice L vl R).ownBlock=some q)->0<=d.ow q)(a2:lV p.lo p.room (d.k+201) ay B w i.spawns J c)(bt:B<=w.heap.size)(how:∀q,c<=q->q<B->d.ow q=0)(a9:s.may vl=true)(bz:d.k<=47000)(bw:d.es.length<=97000)(bE:d.wn<=900000)(bx:d.bn<=900000):am 71 #[aB p.b,ab a,Pd y0 y1 y2 ya yl yc i.fate sa sl sc pa pl pc ka kl kc,ae L vl R] w λe w'=>e=.returned (.tuple #[])/\Hid (∃O,bj p (s.follow a i) O w'/\p7 (λq=>c<=q/\q<B) 200 d O w w'):=by
 obtain⟨bh,bF,bG,bH⟩:=a8;obtain⟨⟨aC,bq,bs⟩,aY,aZ⟩:=a5;have bC:=Kx a9;have bD:sl<=8:=by rw[<-bh];rw[<-aq,eE]at aC;exact aC
 have T:∀{D:Type}(l:List D)(g:D)(f:Nat),f<l.length->l[f]?=some (l.getD f g):=λl g f j=>by
  rw[mO,aG j];rfl
 obtain⟨n,ag⟩:∃n:Nat->Int×Tm (N+1),∀f,f<sl->K[f]?=some (n f):=⟨_,λf j=>T K (0,((0,0,⟨#[]⟩),(none,0),[])) f (by omega)⟩;obtain⟨ax,aj⟩:∃n:Nat->Int,∀f,f<kl->i.links[f]?=some (n f):=⟨_,λf j=>T i.links 0 f (by omega)⟩;obtain⟨av,aE⟩:∃n:Nat->Nat,∀f,f<vl->J[f]?=some (n f):=⟨_,λf j=>T J 0 f (by omega)⟩;obtain⟨bm,aI⟩:∃n:Nat->Int×ByteArray×Tc,∀f,f<vl->i.spawns[f]?=some (n f):=⟨_,λf j=>T i.spawns (0,⟨#[]⟩,tz) f (by omega)⟩;have ap:∀q,((Value.slice sa sl sc).ownBlock=some q\/(Value.slice ka kl kc).ownBlock=some q\/(Value.slice L vl R).ownBlock=some q)->¬d.ow q<0:=λq g=>by have:=ba q g;omega
 have a3:∀h,br (λq=>d.ow q<0) w h->∀f,f<sl->∃o,sa=some ⟨o,0,none⟩/\∀(t:Nat)(X:Value),(NR (n f).1 (n f).2)[t]?=some X->h.cell? ⟨o,f*5+t,none⟩=some X:=λh P f j=>by
  obtain⟨_,_,x,_,C⟩:=rE (bi be P λq g=>ap q (ah g)) (by decide) λg=>rfl;injection x with x;subst x;obtain⟨o,z,_,A⟩:=C f _ (ag f j);exact⟨o,z,A⟩
 have a1:∀h,br (λq=>d.ow q<0) w h->∀f,f<kl->∃o,ka=some ⟨o,0,none⟩/\h.cell? ⟨o,f,none⟩=some (ab (ax f)):=λh P f j=>by
  have Q:=bi a7 P λq g=>ap q (ai (ah g));rw[List.map_eq_flatMap]at Q;obtain⟨_,_,x,_,C⟩:=rE Q (by decide) λg=>rfl;injection x with x;subst x;obtain⟨o,z,_,A⟩:=C f _ (aj f j);have:=A 0 _ rfl;simp only[Nat.mul_one,iu]at this;exact⟨o,z,this⟩
 have a4:∀h,br (λq=>d.ow q<0) w h->∀f,f<vl->∃o,L=some ⟨o,0,none⟩/\h.cell? ⟨o,f,none⟩=some (.pointer (some ⟨av f,0,none⟩)):=λh P f j=>by
  have Q:=bi bg P λq g=>ap q (ai (ai g));rw[List.map_eq_flatMap]at Q;obtain⟨_,_,x,_,C⟩:=rE Q (by decide) λg=>rfl;injection x with x;subst x;obtain⟨o,z,_,A⟩:=C f _ (aE f j);have:=A 0 _ rfl;simp only[Nat.mul_one,iu]at this;exact⟨o,z,this⟩
 have aL:∀{D:Type}{l:List D}{f:Nat}{g:D},l[f]?=some g->l.drop f=g::l.drop (f+1):=λ{D l f g} e=>by
  obtain⟨a0,rfl⟩:=aO.1 e;exact eA a0
 have ar:∀{D:Type}{l:List D}{f:Nat}{g:D},l[f]?=some g->l.take (f+1)=l.take f++ [g]:=λ{D l f g} e=>by
  rw[dq,e];rfl
 obtain⟨U,aP⟩:∃U,U=i.spawns.foldl (λs v=>s.add a v.2.1 v.2.2) s:=⟨_,rfl⟩;obtain⟨V,aQ⟩:∃V,V=i.sends.foldl (λs v=>s.send a v.1 v.2) U:=⟨_,rfl⟩;obtain⟨W,aR⟩:∃W,W=i.links.foldl (λs v=>s.link a v) V:=⟨_,rfl⟩;have bd:s.follow a i=if i.fate=1 then W.fin a 1 else W:=by rw[aR,aQ,aP];rfl
 let aA:Obj:=.cells #[ab y0,ab y1,af y2,ae ya yl yc,ab i.fate,ae sa sl sc,ae pa pl pc,ae ka kl kc] 137;let Z:Nat->Prop:=λq=>c<=q/\q<B;let aw:Sy->Nat->Nat->World->Prop:=λbk k q h=>∃d1,bj p bk d1 h/\p7 Z k d d1 w h/\(w.heap.size<=q/\q<h.heap.size/\h.heap[q]?=some aA/\d1.ow q=0)
 refine zZ p.b a y0 y1 y2 ya yl yc i.fate sa sl sc pa pl pc ka kl kc L vl R av (λf=>(n f).1) (λf=>(n f).2.1.1) (λf=>(n f).2.1.2.1) (λf=>(n f).2.1.2.2) (λf=>(n f).2.2.1.1) (λf=>(n f).2.2.2.length) (λf=>(n f).2.2.1.2) ax w
  (λq f h=>∃d1,bj p ((i.spawns.take f).foldl (λs v=>s.add a v.2.1 v.2.2) s) d1 h/\p7 Z f d d1 w h/\(w.heap.size<=q/\q<h.heap.size/\h.heap[q]?=some aA/\d1.ow q=0)/\∃S,c<=S/\lV p.lo p.room (d.k+201) ay B h (i.spawns.drop f) (J.drop f) S/\∀q,S<=q->q<B->d1.ow q=0)
  (λq f h=>aw ((i.sends.take f).foldl (λs v=>s.send a v.1 v.2) U) (vl+2*f) q h) (λq f h=>aw ((i.links.take f).foldl (λs v=>s.link a v) V) (vl+2*sl+f) q h) (λw'=>∃O,bj p (s.follow a i) O w'/\p7 Z 200 d O w w') (by omega) (by omega) (by omega) (λq h al aM aK=>?_) (λq h y=>?_) (λq h y=>?_) (λq f h y=>?_) (λq f h j y=>?_) (λq f h j y=>?_) (λq f h j y=>?_) λq h y=>?_
 ·have bc:=(aF.1 aK).1;refine⟨d,aD.later al,⟨aJ al _,λ_ _ _=>rfl,λq _ g=>by rw[how q g.1 g.2];exact jf 0,rfl,ak _,ak _,ak _⟩,⟨aM,bc,aK,?_⟩,c,ak _,a2.kept (aJ al λ_=>False) (λ_ _ g=>g.elim) (λ_ _ g=>g) (ak _),how⟩;by_cases g:d.ow q=0
  ·exact g
  ·have:=(aD.low q g).2;omega
 ·obtain⟨d1,r,m,E,_⟩:=y;rw[bu (by omega),<-aP]at r;exact⟨d1,r,m,E⟩
 ·obtain⟨d1,r,m,E⟩:=y;rw[bu (by rw[<-aq,eE];omega),<-aQ]at r;exact⟨d1,r,m,E⟩
 ·rcases y with⟨d1,_,_,E,_⟩|⟨d1,_,_,E⟩|⟨d1,_,_,E⟩
  ·exact E.2.2.1
  ·exact E.2.2.1
  ·exact E.2.2.1
 ·obtain⟨d1,r,m,⟨z,F,A,G⟩,S,bI,aT,au⟩:=y;refine⟨a4 h m.1 f j,?_⟩;rw[aL (aI f j),aL (aE f j)]at aT;obtain⟨aX,aa,bJ,aU,_,aV⟩:=aT;have a6:=Bb a (i.spawns.take f) s;rw[dy]at a6;have bB:=aV.le;have bA:=m.2.2.2.1;refine(r.add a (M:=λq=>aX<=q/\q<aa) (aU.mono (λ_ g=>g) (by omega) (P1.lie2 aU)) (λq g=>au q (by omega) (by omega)) (by omega) (by omega) (by have:=m.2.2.2.2.1;omega)).mono ?_;rintro e w' ⟨rfl,H⟩;obtain⟨d2,I,u⟩:=H.out;have aN:=u.1.size;refine⟨rfl,d2,?_,m.ad u λq g=>⟨by omega,by omega⟩,⟨z,by omega,?_,?_⟩,aa,by omega,aV.kept2 (c0:=aa) u.1 (λq aM bb g=>?_) (λ_ _ g=>g) (ak _) (ak _),λq bK bl=>?_⟩
  ·rw[ar (aI f j),jD];exact I
  ·rw[u.1.block q F (by rw[G];decide)];exact A
  ·rw[u.2.1 q F λg=>by omega];exact G
  ·have:=au q (by omega) bb;omega
  ·have:=m.1.size;rw[u.2.1 q (by omega) λg=>by omega];exact au q (by omega) bl
 ·obtain⟨d1,r,m,z,F,A,G⟩:=y;obtain⟨o,x,C⟩:=a3 h m.1 f j;refine⟨⟨o,x,C 0 _ rfl,C 1 _ rfl,C 2 _ rfl,C 3 _ rfl,C 4 _ rfl⟩,λbo an=>?_⟩;obtain⟨f1,f2⟩:=bf _ (aH (ag f j));have aS:i.sends[f]?=some ((n f).1,cn _ (n f).2):=by rw[<-aq,dn,ag f j];rfl
  refine((r.later an).send ⟨ao,aY _ (aH aS)⟩ (n f).2 ((f2.ug m).up (dT.later d1 an)) f1 (by have:=m.2.2.2.2.2.1;omega) (by have:=m.2.2.2.2.1;omega)).mono ?_;rintro e w' ⟨rfl,H⟩;obtain⟨d2,I,u⟩:=H.out;have Y:=(dT.later d1 an).trans u;have aN:=Y.1.size;refine⟨rfl,d2,?_,(m.up Y).mono (by omega),z,by omega,?_,?_⟩
  ·rw[ar aS,jD];exact I
  ·rw[Y.1.block q F (by rw[G];decide)];exact A
  ·rw[Y.2.1 q F];exact G
 ·obtain⟨d1,r,m,z,F,A,G⟩:=y;refine⟨a1 h m.1 f j,?_⟩;refine(r.link ao (aZ _ (aH (aj f j))) (by have:=m.2.2.2.2.2.2;omega)).mono ?_;rintro e w' ⟨rfl,H⟩;obtain⟨d2,I,u⟩:=H.out;have aN:=u.1.size;refine⟨rfl,d2,?_,(m.up u).mono (by omega),z,by omega,?_,?_⟩
  ·rw[ar (aj f j),jD];exact I
  ·rw[u.1.block q F (by rw[G];decide)];exact A
  ·rw[u.2.1 q F];exact G
 ·obtain⟨d1,r,m,z,F,A,G⟩:=y;rw[bu (by omega),<-aR]at r;rw[bd];refine⟨λe=>?_,λe=>⟨d1,by rw[if_neg e];exact r,m.mono (by omega)⟩⟩;refine(r.fin ao (by have:=m.2.2.2.2.1;omega)).mono ?_;rintro bp w' ⟨rfl,H⟩;obtain⟨d2,I,u⟩:=H;exact⟨rfl,d2,by rw[if_pos e];exact I,(m.up u).mono (by omega)⟩
end
structure T8 where
 y0:Int
 y1:Int
 y2:ByteArray
 ya:Option Addr
 yl:Nat
 yc:Nat
 f:Int
 sa:Option Addr
 sl:Nat
 sc:Nat
 pa:Option Addr
 pl:Nat
 pc:Nat
 ka:Option Addr
 kl:Nat
 kc:Nat
theorem PC{w:World}{q:Nat}{g:Array Value}{T:TypeId}{fr:Nat×Nat}(h:w.heap[q]?=some (.cells g T fr))(j:g.size=8)(v0 v1 v2 v3 c d e f:Value):((((((((w.setCell ⟨q,0,none⟩ v0).setCell ⟨q,1,none⟩ v1).setCell ⟨q,2,none⟩ v2).setCell ⟨q,3,none⟩ v3).setCell ⟨q,4,none⟩ c).setCell ⟨q,5,none⟩ d).setCell ⟨q,6,none⟩ e).setCell ⟨q,7,none⟩ f).heap[q]?=some (.cells #[v0,v1,v2,v3,c,d,e,f] T fr)/\br (λb=>b=q) w ((((((((w.setCell ⟨q,0,none⟩ v0).setCell ⟨q,1,none⟩ v1).setCell ⟨q,2,none⟩ v2).setCell ⟨q,3,none⟩ v3).setCell ⟨q,4,none⟩ c).setCell ⟨q,5,none⟩ d).setCell ⟨q,6,none⟩ e).setCell ⟨q,7,none⟩ f):=by
 refine⟨?_,(((((((bD w q 0 v0).trans (bD _ q 1 v1) λ_ _ a=>a).trans (bD _ q 2 v2) λ_ _ a=>a).trans (bD _ q 3 v3) λ_ _ a=>a).trans (bD _ q 4 c) λ_ _ a=>a).trans (bD _ q 5 d) λ_ _ a=>a).trans (bD _ q 6 e) λ_ _ a=>a).trans (bD _ q 7 f) λ_ _ a=>a⟩;obtain⟨l⟩:=g;have i:l.length=8:=by simpa using j
 match l,i with
 | [a0,a1,a2,a3,a4,a5,a6,a7],_=>simp[World.setCell,bN,h]
def Og(e:T8->Int->World->World->Prop)(w:World)(q:Nat)(t:T8)(g:Int)(d:World):Prop:=
 ∃a c,aj w a/\e t g a c/\(w.heap.size<=q/\(q<a.heap.size\/c.heap.size<=q))/\d.heap[q]?=some (.cells #[ab t.y0,ab t.y1,af t.y2,ae t.ya t.yl t.yc,ab t.f,ae t.sa t.sl t.sc,ae t.pa t.pl t.pc,ae t.ka t.kl t.kc] 137)/\br (λb=>b=q) c d
theorem ym(g:Nat)(Z:Option Nat)(a S Y:Int)(N:Option Addr)(P O:Nat)(aa:Value)(F:Bool)(w:World)(E:T8->Int->World->World->Prop)(M:Nat->T8->World->Prop)(C:Nat->T8->Value->Bool->World->Prop)(R:Int->World->Prop)(aT:IntKind.i64.wrap (S+1)=Y)(aZ:g<w.heap.size)(ad:Hid (w.cell? ⟨g,0,none⟩=some (ae N P O)/\w.cell? ⟨g,2,none⟩=some (ab S)/\w.cell? ⟨g,3,none⟩=some (.map Z)))(au:(Instr.lookup 86 (.map Z) (ab a) true).run Tryz.prog w=.ok (.tuple #[aa,.bool F]) w)(J:Hid (F=false->R 4 w))(L:Hid (F=true->∀W,aj w W->am 67 #[aa,ae N P O,ab a,ab Y] W λe w'=>∃(t:T8)(h:Int),e=.returned (.tuple #[.agg #[ab t.y0,ab t.y1,af t.y2,ae t.ya t.yl t.yc,ab t.f,ae t.sa t.sl t.sc,ae t.pa t.pl t.pc,ae t.ka t.kl t.kc],ab h])/\Hid (E t h W w'/\(∀q,w.heap.size<=q->q<W.heap.size->w'.heap[q]?=W.heap[q]?)/\W.heap.size<=w'.heap.size/\(w'.cell? ⟨g,0,none⟩=some (ae N P O)/\w'.cell? ⟨g,2,none⟩=some (ab S)))))(HB:Hid (∀q t h W,Og E w q t h W->h≠0->R h W))(B:Hid (∀q t W,Og E w q t 0 W->am 68 #[aB g,af ⟨#[116,97,107,101]⟩,ab a,ab 0,.agg #[ab t.y0,ab t.y1,af t.y2,ae t.ya t.yl t.yc]] W λe w'=>e=.returned (.tuple #[])/\Hid (M q t w')))(x:Hid (∀q t W,M q t W->am 69 #[aB g,ae t.pa t.pl t.pc] W λe w'=>∃v b,e=.returned (.tuple #[v,.bool b])/\Hid (C q t v b w')))(y:Hid (∀q t W,M q t W->W.heap[q]?=some (.cells #[ab t.y0,ab t.y1,af t.y2,ae t.ya t.yl t.yc,ab t.f,ae t.sa t.sl t.sc,ae t.pa t.pl t.pc,ae t.ka t.kl t.kc] 137)))(z:Hid (∀q t v b W,C q t v b W->W.heap[q]?=some (.cells #[ab t.y0,ab t.y1,af t.y2,ae t.ya t.yl t.yc,ab t.f,ae t.sa t.sl t.sc,ae t.pa t.pl t.pc,ae t.ka t.kl t.kc] 137)))(m:Hid (∀q t v b W,C q t v b W->(t.f=2\/t.f=3)->am 70 #[aB g,ab a,ab t.f] W λe w'=>e=.returned (.tuple #[])/\Hid (R 0 w')))(n:Hid (∀q t v W,C q t v false W->¬(t.f=2\/t.f=3)->am 70 #[aB g,ab a,ab 2] W λe w'=>e=.returned (.tuple #[])/\Hid (R 0 w')))(p:Hid (∀q t v W,C q t v true W->¬(t.f=2\/t.f=3)->am 71 #[aB g,ab a,.agg #[ab t.y0,ab t.y1,af t.y2,ae t.ya t.yl t.yc,ab t.f,ae t.sa t.sl t.sc,ae t.pa t.pl t.pc,ae t.ka t.kl t.kc],v] W λe w'=>e=.returned (.tuple #[])/\Hid (R 0 w'))):am 31 #[aB g,ab a] w λe w'=>∃v,e=.returned (ab v)/\Hid (R v w'):=by
 obtain⟨an,ao,ar⟩:=ad;go_enter func31,ntmps31;go_upto_region 2 with fail;cases F
 ·have K:=aq (J rfl);clear L J HB B x y z m n p;go_wp2_with fail
  go_ret
  exact⟨4,rfl,K⟩
 have V:=aq (L rfl);clear L J au ar;have H:Hid (aj w w.drew):=(ap _ _).drew;have I:Hid (∀o,aj w (w.drew.alloc o)):=λo=>(ap _ _).drew.alloc (ak _) o;have aU:¬(w.heap.size=g):=by omega
 have aV:¬(g=w.heap.size):=by omega
 go_upto_region 4 with fail;go_cut [7,8] (λav aw ay=>∃(q:Nat)(t:T8)(h:Int),av=aB q/\aw=ab h/\Hid (Og E w q t h ay))
 case first=>
  clear HB B x y z m n p
  go_region_with ((first
   | (go_at_call 67;refine(V _ (by first|exact H|exact I _)).mono ?_;rintro e c ⟨t,h,rfl,r⟩;have aY:g<c.heap.size:=(by have:=r.2.2.1;simp at this;omega);have aW:¬(c.heap.size=g):=(by omega);have aX:¬(g=c.heap.size):=(by omega);obtain⟨a1,a2⟩:=r.out.2.2.2;(first|(have d:c.heap[w.heap.size]?=some (.cells #[ab 0,ab 0,af ⟨#[]⟩,ae none 0 0,ab 0,ae none 0 0,ae none 0 0,ae none 0 0] 137):=((r.2.1 w.heap.size (ak _) (by simp)).trans (aE w.drew _));obtain⟨a3,a4,a5,a6,a7,a8,a9,ba⟩:c.cell? ⟨w.heap.size,0,none⟩=some (ab 0)/\c.cell? ⟨w.heap.size,1,none⟩=some (ab 0)/\c.cell? ⟨w.heap.size,2,none⟩=some (af ⟨#[]⟩)/\c.cell? ⟨w.heap.size,3,none⟩=some (ae none 0 0)/\c.cell? ⟨w.heap.size,4,none⟩=some (ab 0)/\c.cell? ⟨w.heap.size,5,none⟩=some (ae none 0 0)/\c.cell? ⟨w.heap.size,6,none⟩=some (ae none 0 0)/\c.cell? ⟨w.heap.size,7,none⟩=some (ae none 0 0):=⟨ag d 0,ag d 1,ag d 2,ag d 3,ag d 4,ag d 5,ag d 6,ag d 7⟩;have az:c.frozen? ⟨w.heap.size,0,none⟩=false:=(by simp[World.frozen?,d]);have aA:c.frozen? ⟨w.heap.size,1,none⟩=false:=(by simp[World.frozen?,d]);have aC:c.frozen? ⟨w.heap.size,2,none⟩=false:=(by simp[World.frozen?,d]);have aD:c.frozen? ⟨w.heap.size,3,none⟩=false:=(by simp[World.frozen?,d]);have aF:c.frozen? ⟨w.heap.size,4,none⟩=false:=(by simp[World.frozen?,d]);have aG:c.frozen? ⟨w.heap.size,5,none⟩=false:=(by simp[World.frozen?,d]);have aH:c.frozen? ⟨w.heap.size,6,none⟩=false:=(by simp[World.frozen?,d]);have aI:c.frozen? ⟨w.heap.size,7,none⟩=false:=(by simp[World.frozen?,d]);have al:=aq d;clear d)|skip))))
  all_goals (go_wp2_with fail;go_meet)
  all_goals (refine⟨_,t,h,rfl,rfl,?_⟩)
  all_goals (first
   | exact⟨_,c,H,r.1,⟨by have:=r.2.2.1;simpa using this,ai (ak _)⟩,aE _ _,aJ ((ap _ _).alloc (ak _) _) _⟩
   | exact⟨_,c,I _,r.1,⟨ak _,ah (by simp)⟩,PC al rfl _ _ _ _ _ _ _ _⟩)
 case rest=>
 obtain⟨q,t,h,rfl,rfl,A⟩:=hcut;clear V H I an ao;by_cases Q:h=0;rotate_left
 ·have K:=aq (HB _ _ _ _ A Q);have a0:(h==0)=false:=by simpa using Q
  clear A HB B x y z m n p;go_wp2_with fail
  go_ret
  exact⟨h,rfl,K⟩
 subst Q;have X:=aq (B _ _ _ A);obtain⟨_,_,_,_,_,D,_⟩:=A.out;have d0:wc.cell? ⟨q,0,none⟩=some (ab t.y0):=ag D 0;have d1:wc.cell? ⟨q,1,none⟩=some (ab t.y1):=ag D 1;have d2:wc.cell? ⟨q,2,none⟩=some (af t.y2):=ag D 2;have d3:wc.cell? ⟨q,3,none⟩=some (ae t.ya t.yl t.yc):=ag D 3;clear D A HB B;go_wp2_with fail;refine X.mono ?_;rintro e ax ⟨rfl,G⟩;have U:=aq (x _ _ _ G);have d6:ax.cell? ⟨q,6,none⟩=some (ae t.pa t.pl t.pc):=ag (y _ _ _ G) 6;clear X x y G d0 d1 d2 d3;go_wp2_with fail;refine U.mono ?_;rintro e j ⟨v,b,rfl,k⟩;have i:=aq (z _ _ _ _ _ k);have f4:j.cell? ⟨q,4,none⟩=some (ab t.f):=ag i 4;clear d6 U z;by_cases u:t.f=2\/t.f=3
 ·have s:=aq (m _ _ _ _ _ k u);clear n p m k i;generalize t.f=f at*;rcases u with rfl|rfl
  ·go_wp2_with fail;refine s.mono ?_;rintro e T ⟨rfl,l⟩;go_wp2_with fail
   go_ret
   exact⟨0,rfl,l⟩
  ·go_wp2_with fail;refine s.mono ?_;rintro e T ⟨rfl,l⟩;go_wp2_with fail
   go_ret
   exact⟨0,rfl,l⟩
 have aR:(t.f==2)=false:=by simpa using λe=>u (ah e)
 have aS:(t.f==3)=false:=by simpa using λe=>u (ai e)
 cases b
 ·have s:=aq (n _ _ _ _ k u);clear n p m k i;go_wp2_with fail;refine s.mono ?_;rintro e T ⟨rfl,l⟩;go_wp2_with fail
  go_ret
  exact⟨0,rfl,l⟩
 ·have s:=aq (p _ _ _ _ k u);have aK:j.cell? ⟨q,0,none⟩=some (ab t.y0):=ag i 0;have aL:j.cell? ⟨q,1,none⟩=some (ab t.y1):=ag i 1;have aM:j.cell? ⟨q,2,none⟩=some (af t.y2):=ag i 2;have aN:j.cell? ⟨q,3,none⟩=some (ae t.ya t.yl t.yc):=ag i 3;have aO:j.cell? ⟨q,5,none⟩=some (ae t.sa t.sl t.sc):=ag i 5;have aP:j.cell? ⟨q,6,none⟩=some (ae t.pa t.pl t.pc):=ag i 6;have aQ:j.cell? ⟨q,7,none⟩=some (ae t.ka t.kl t.kc):=ag i 7;clear n p m k i;go_wp2_with fail;refine s.mono ?_;rintro e T ⟨rfl,l⟩;go_wp2_with fail
  go_ret
  exact⟨0,rfl,l⟩
def FU(f:Tk)(t:T8)(d:fY)(W:World):Prop:=
 ∃(h g:Nat)(c:List (Int×Tm (h+1)))(e:List (Int×ByteArray×Tm (h+1))),(c.length=t.sl/\e.length=t.pl/\f.links.length=t.kl)/\W.ownsRow g 196 5 (ae t.sa t.sl t.sc) t.sl (c.flatMap λa=>NR a.1 a.2)/\W.ownsRow g 193 6 (ae t.pa t.pl t.pc) t.pl (e.flatMap λa=>OW a.1 a.2.1 a.2.2)/\W.ownsRow g 3 1 (ae t.ka t.kl t.kc) t.kl (f.links.map λi=>ab i)/\
  c.map (λa=>(a.1,cn _ a.2))=f.sends/\e.map (λa=>(a.1,a.2.1,cn _ a.2.2))=f.spawns/\(∀a∈c,bv _ a.2=0/\FQ d W a.2)/\(∀a∈e,bv _ a.2.2=0/\FQ d W a.2.2)/\∀b,((Value.slice t.sa t.sl t.sc).ownBlock=some b\/(Value.slice t.pa t.pl t.pc).ownBlock=some b\/(Value.slice t.ka t.kl t.kc).ownBlock=some b)->b<W.heap.size/\0<=d.ow b
theorem FU.kee{n:Tk}{t:T8}{d h:fY}{W g:World}(s:FU n t d W)(b:br (λq=>d.ow q<0) W g)(m:∀q,q<W.heap.size->h.ow q=d.ow q):FU n t h g:=by
 obtain⟨p,r,A,B,e,u,v,w,x,y,k,l,f⟩:=s;have hF:∀{z:Nat}{o:Tm z},FQ d W o->FQ h g o:=λj=>by
  have e:=eP b (D:=λq=>0<=d.ow q/\q<W.heap.size) (λq a C=>by omega) ⟨j.1,In.offB j.2 j.1⟩;exact⟨e.1,e.2.mono λq a=>by rw[m q a.2];exact a.1⟩
 have i:∀q,((Value.slice t.sa t.sl t.sc).ownBlock=some q\/(Value.slice t.pa t.pl t.pc).ownBlock=some q\/(Value.slice t.ka t.kl t.kc).ownBlock=some q)->¬d.ow q<0:=λq a=>by have:=(f q a).2;omega
 exact⟨p,r,A,B,e,bi u b λq a=>i q (ah a),bi v b λq a=>i q (ai (ah a)),bi w b λq a=>i q (ai (ai a)),x,y,λa c=>⟨(k a c).1,hF (k a c).2⟩,λa c=>⟨(l a c).1,hF (l a c).2⟩,λq a=>⟨aR (f q a).1 b.size,by rw[m q (f q a).1];exact(f q a).2⟩⟩
def Qt(t:T8):Obj:=.cells #[ab t.y0,ab t.y1,af t.y2,ae t.ya t.yl t.yc,ab t.f,ae t.sa t.sl t.sc,ae t.pa t.pl t.pc,ae t.ka t.kl t.kc] 137
section
variable {p:kQ} {s:Sy} {d:fY} {w:World}
theorem fS.ug{M:Nat->Prop}{k b c:Nat}{d1 d2:fY}{w1 w2:World}(l:fS k c d d1 w w1)(g:p7 M b d1 d2 w1 w2)(m:∀q,M q->w.heap.size<=q):fS (k+b) c d d2 w w2:=by
 obtain⟨e,f,t,u,v,x⟩:=l;obtain⟨i,j,_,o,p,r,s⟩:=g;have y:=e.size;exact⟨e.trans i λq a h=>by rw[f q a]at h;omega,λq a=>(j q (by omega) λn=>by have:=m q n;omega).trans (f q a),by omega,by omega,by omega,by omega⟩
def Po(p:kQ)(s:Sy)(d:fY)(w:World)(a:Tk)(q:Nat)(t:T8)(d1:fY)(W:World):Prop:=
 bj p s d1 W/\fS 1 402 d d1 w W/\(w.heap.size<=q/\q<W.heap.size/\d1.ow q=0/\W.heap[q]?=some (Qt t))/\t.f=a.fate/\FU a t d1 W
theorem bj.run(q:bj p s d w){a:Int}(aT:dt a)(cs:d.k<=46000)(co:d.es.length<=96000)(cy:d.wn<=800000)(cr:d.bn<=800000):am 31 #[aB p.b,ab a] w λe w'=>∃v,e=.returned (ab v)/\Hid (v=(s.run p.n p.prog p.room a).2/\∃E,bj p (s.run p.n p.prog p.room a).1 E w'/\fS 201 402 d E w w'):=by
 obtain⟨bO,aX⟩:=q.lo;obtain⟨a8,cj,a9,ba⟩:=q.cells;obtain⟨_,_,_,cl,cm,_⟩:=q.keys;have bg:ky (p.n+1) p.prog=true:=(dH q.pg.2.2.2.1).1;have be:IntKind.i64.wrap (s.last+1)=s.last+1:=by rw[IntKind.wrap];simp[IntKind.bits,IntKind.signed];omega
 have ad:=q.look a true;have aA:=q.alive a;rw[if_pos rfl]at ad;obtain⟨P,m⟩:∃P,P=s.run p.n p.prog p.room a:=⟨_,rfl⟩;rw[<-m];unfold Sy.run at m;cases hg:s.get a with
 | none=>
  rw[hg]at m aA;rw[aA]at ad;have bB:(4:Int)=P.2/\∃E,bj p P.1 E w/\fS 201 402 d E w w:=by
   rw[m];exact⟨rfl,d,q,(dT.later d (ap _ _)).un.mono (aI _) (aI _)⟩
  exact ym p.b d.po a s.last (s.last+1) p.pa p.prog.length p.pc _ false w (λ_ _ _ _=>False) (λ_ _ _=>False) (λ_ _ _ _ _=>False) (λv w'=>v=P.2/\∃E,bj p P.1 E w'/\fS 201 402 d E w w') be aX ⟨a8,a9,ba⟩ ad (λ_=>bB) ((λg=>by cases g)) (λ_ _ _ _ ⟨_,_,_,g,_⟩=>g.elim) (λ_ _ _ ⟨_,_,_,g,_⟩=>g.elim) (λ_ _ _ g=>g.elim) (λ_ _ _ g=>g.elim) (λ_ _ _ _ _ g=>g.elim) (λ_ _ _ _ _ g=>g.elim) (λ_ _ _ _ g=>g.elim) λ_ _ _ _ g=>g.elim
 | some ar=>
  obtain⟨B,aa,V⟩:=ar;rw[hg]at m aA;obtain⟨bu,aE⟩:=gA.1 aA;rw[aE]at ad;obtain⟨b7,bG,bF,av,bI,ck⟩:=q.ps a bu aE;rw[hg]at av;obtain⟨rfl,rfl,rfl⟩:B=b7/\aa=bG/\V=bF:=by
   injection av with av;injection av with z u;injection u with u bH;exact⟨z,u,bH⟩
  have cp:=(q.key aE).1;obtain⟨T,aS⟩:∃T,T=rN p.n p.room p.prog B a (s.last+1) aa V:=⟨_,rfl⟩;simp only[<-aS]at m;have aD:∀h,w.heap.size<=h->d.ow h=0:=λh aV=>by
   by_cases g:d.ow h=0
   ·exact g
   ·have:=(q.low h g).2;omega
  refine ym p.b d.po a s.last (s.last+1) p.pa p.prog.length p.pc _ true w
   (λt Z l w'=>(Z≠0/\Z=T/\aj l w')\/(Z=0/\T=0/\∃(r:Tc)(i:Tk)(J:Nat),(r.1=(t.y0,t.y1,t.y2)/\r.2.1=(t.ya,t.yc)/\r.2.2.length=t.yl)/\nA p.room p.prog B a (s.last+1) aa V=some i/\t.f=i.fate/\cn 13 r=i.message/\bv 13 r=0/\In w'.heap.size w' 13 r/\cd (λh=>l.heap.size<=h/\h<J) 13 r/\bV (λh=>d.ow h=a) l w'/\l.heap.size<J/\P1 p.lo bu B p.room i.state i.mail (d.k+201+402) (λb=>(d.ow b=a\/J<=b)/\b<w'.heap.size) w'/\i.mail.length<=V.length/\lP (l.heap.size+1) i.sends i.spawns i.links t.sa t.sl t.sc t.pa t.pl t.pc t.ka t.kl t.kc (λ_=>True) w'))
   (λh t l=>∃i d1,T=0/\nA p.room p.prog B a (s.last+1) aa V=some i/\Po p ((s.put a (B,i.state,i.mail)).tell nZ a 0 i.message) d w i h t d1 l)
   (λh t v b l=>∃i d1,T=0/\nA p.room p.prog B a (s.last+1) aa V=some i/\Po p ((s.put a (B,i.state,i.mail)).tell nZ a 0 i.message) d w i h t d1 l/\b=Sy.made p.n p.prog p.room ((s.put a (B,i.state,i.mail)).tell nZ a 0 i.message) i.spawns/\(b=true->∃U aO aP c,v=ae aO t.pl aP/\U.length=t.pl/\w.heap.size<=c/\(∀h,c<=h->d1.ow h=0)/\l.ownsRow c 97 1 v t.pl (U.map Ax)/\lV p.lo p.room (d1.k+201) (λh=>v.ownBlock=some h) l.heap.size l i.spawns U c))
   (λv w'=>v=P.2/\∃E,bj p P.1 E w'/\fS 201 402 d E w w') be aX ⟨a8,a9,ba⟩ (by rw[ad];rfl) ((λg=>by cases g)) (λ_ l ay=>?_) (λh t Z l aQ bo=>?_) (λh t l aQ=>?_) (λh t l F=>?_) (λh t l F=>?_) (λh t v b l F=>?_) (λh t v b l F N=>?_) (λh t v l F N=>?_) λh t v l F N=>?_
  ·have W:=q.later ay;have J:=cq (dP (p.n+1)) 2 (oI (p.n+1)) p.pa;refine((bI.later ay).step p.prog p.pa p.pc l.heap.size W.pg.1.1 (ak _) q.pg.2.1 q.pg.2.2.1 (λ_=>q.pg.2.2.2.2) (λbC ax=>J.2.2.1 _ _ _ bC _ (λb h=>ax.block b h.2 λg=>by have:=h.1;rw[g]at this;omega) (J.2.1 _ _ _ _ W.pg.1.2 W.pg.1.1) W.pg.1.1) (az bO ay.size) (by omega) (by omega) a (s.last+1)).mono ?_;rintro e w' (⟨Z,rfl,y⟩|⟨r,f,sa,sl,sc,pa,pl,pc,ka,kl,kc,rfl,y⟩)
   ·obtain⟨K,R,G⟩:=y.out;have bc:=(W.later G).cells;exact⟨⟨0,0,⟨#[]⟩,none,0,0,0,none,0,0,none,0,0,none,0,0⟩,Z,rfl,ah ⟨K,R.trans aS.symm,G⟩,λh _ aV=>G.block h aV,G.size,bc.1,bc.2.2.1⟩
   ·obtain⟨i,J,K,R,G,al,L,bW,bX,aK,bY,bU⟩:=y.out;have bb:w'.heap[p.b]?=some (.cells (dW p s d) 94):=(aK.block p.b (aR aX ay.size) (by rw[q.own];omega)).trans W.box;exact⟨⟨r.1.1,r.1.2.1,r.1.2.2,r.2.1.1,r.2.2.length,r.2.1.2,f,sa,sl,sc,pa,pl,pc,ka,kl,kc⟩,0,rfl,ai ⟨rfl,aS.trans K,r,i,J,⟨rfl,rfl,rfl⟩,R,G,al,L,bW,bX,aK,bY,bU⟩,λh aw bJ=>aK.block h bJ (by rw[aD h aw];omega),aK.size,ag bb 0,ag bb 2⟩
  ·obtain⟨Q,aq,K,R,G,al,L⟩:=aQ;rcases R with⟨_,e,bZ⟩|⟨e,_⟩
   ·rw[if_neg (by rw[<-e];exact bo)]at m;have ax:br (λb=>b=h) w l:=((aJ K λb=>b=h).trans (aJ bZ λb=>b=h) λ_ _ e=>e).trans L λ_ _ e=>e;rw[m];exact⟨e,d,q.kept ax λb g=>by rw[g];exact aD h G.1,ax.mono λb aC g=>by omega,λ_ _=>rfl,by omega,by omega,by omega,by omega⟩
   ·exact absurd e bo
  ·obtain⟨Q,aq,K,R,G,al,L⟩:=aQ;rcases R with⟨e,_⟩|⟨_,bK,r,i,J,⟨f1,f2,f3⟩,b0,b2,b3,b4,bp,b5,Y,cA,bq,cz,b1⟩
   ·exact absurd rfl e
   have bN:br (λh=>d.ow h=a) Q aq:=⟨Y.os,Y.tape,Y.output,Y.size,Y.block⟩;have cu:=K.size;have cv:=Y.size;have cw:=L.size
   obtain⟨bw,bx⟩:=(q.later K).turnP aE hg bN (j:=d.k+402) (λh g=>by
    rcases g.1 with g|g
    ·exact ah g
    ·exact ai (by omega)) (by omega) (bq.mono (λ_ g=>g) (by omega) (P1.lie2 bq)) (by omega)
   generalize aU:({d with ow:=Fy d Q aq a,k:=d.k+402}:fY)=d1 at bw bx;have bf:∀b,d1.ow b=if Q.heap.size<=b/\b<aq.heap.size then a else d.ow b:=λb=>by rw[<-aU];rfl
   have aW:d1.ow h=0:=by
    rw[bf,if_neg (by omega)];exact aD h G.1
   have bh:∀b,Q.heap.size<=b->0<=d1.ow b:=λb aC=>by
    rw[bf];split
    ·omega
    ·rw[aD b (by omega)];exact jf 0
   have aw:bj p (s.put a (B,i.state,i.mail)) d1 l:=bw.kept L λb g=>by rw[g];exact aW
   have bS:fS 0 402 d d1 w l:=by
    have z:=((dT.later d K).un.trans bx);obtain⟨ca,cb,cc,ce,cf,cg⟩:=z;exact⟨ca.trans L λb aC g=>by omega,cb,by rw[<-aU]at cc ⊢;show d.k+402<=_;omega,ce,cf,cg⟩
   have bT:=eP L (D:=λb=>Q.heap.size<=b/\b<aq.heap.size) (λb g ci=>by omega) ⟨bp,In.offB (b5.mono λb g=>g.1) bp⟩;have bL:FU i t d1 l:=by
    obtain⟨au,aM,aN,A,o,x,H,S,O,an,a5,b6⟩:=b1.kept L λb ch _ cC cD=>by omega
    have bd:∀{a4:Nat}{ar:Tm a4},In l.heap.size l a4 ar->cd (λb=>Q.heap.size+1<=b/\True) a4 ar->FQ d1 l ar:=λbD bE=>⟨bD,bE.mono λb g=>bh b (by omega)⟩;refine⟨au,_,aM,aN,A,o,x,H,S,O,λg I=>⟨(an g I).1,bd (an g I).2.1 (an g I).2.2⟩,λg I=>⟨(a5 g I).1,bd (a5 g I).2.1 (a5 g I).2.2⟩,λb g=>⟨?_,bh b (by have:=(b6 b g).1;omega)⟩⟩;rcases g with g|g|g
    ·exact(o.lt b g).2
    ·exact(x.lt b g).2
    ·exact(H.lt b g).2
   obtain⟨⟨cB,ch,ci⟩,⟨cE,cF⟩,cG⟩:=r;simp only[eG]at f1 f2;obtain⟨rfl,rfl,rfl⟩:=f1;obtain⟨rfl,rfl⟩:=f2;rw[<-f3];have bM:d1.es=d.es:=by rw[<-aU]
   refine(aw.tell nZ a 0 _ _ _ _ _ _ _ (kp bT.1 b4) (by rw[bM];omega)).mono ?_;rintro e w' ⟨rfl,y⟩;obtain⟨d2,M,C⟩:=y.out.up aw;have bi:=(aF.1 al).1;have cx:=C.1.size;rw[b3]at M;refine⟨rfl,i,d2,bK,b0,M,(bS.trans C.un).mono (by omega) (by omega),⟨G.1,by omega,by rw[C.2.1 h bi];exact aW,?_⟩,b2,bL.kee C.1 C.2.1⟩;rw[C.1.block h bi (by rw[aW];decide)];exact al
  ·obtain⟨i,d1,z,u,⟨A,o,x,H,S⟩⟩:=F;obtain⟨au,a7,aM,aN,X,aZ,a0,a1,a2,af,a3,aG,aH⟩:=S;have aY:=Lg bg u;have ct:t.pl<=8:=by
    have:=aY.1.2.1;rw[<-af,eE]at this;omega
   refine(A.made a0 X.2.1 (by omega) λg I=>⟨(aG g I).1,(aG g I).2.1⟩).mono ?_;rintro e w' ⟨v,b,rfl,y⟩;obtain⟨ao,bs,bt⟩:=y.out;rw[af]at bs bt;have bQ:∀h,l.heap.size<=h->d1.ow h=0:=λh aV=>by
    by_cases g:d1.ow h=0
    ·exact g
    ·have:=(A.low h g).2;omega
   refine⟨v,b,rfl,i,d1,z,u,⟨A.later ao,(o.trans (dT.later d1 ao).un).mono (ak _) (ak _),⟨x.1,aR x.2.1 ao.size,x.2.2.1,gd ao x.2.2.2⟩,H,FU.kee ⟨au,a7,aM,aN,X,aZ,a0,a1,a2,af,a3,aG,aH⟩ (aJ ao _) λ_ _=>rfl⟩,bs,λaC=>?_⟩;obtain⟨U,aO,aP,b8,a6,bz,aL⟩:=bt aC;exact⟨U,aO,aP,l.heap.size,b8,a6,o.1.size,bQ,bz,aL⟩
  ·obtain⟨i,d1,z,u,A,o,x,_⟩:=F;exact x.2.2.2
  ·obtain⟨i,d1,z,u,⟨A,o,x,_⟩,_⟩:=F;exact x.2.2.2
  ·obtain⟨i,d1,z,u,⟨A,o,x,H,S⟩,_⟩:=F;rw[if_pos z,u]at m;simp only at m;rw[H]at N ⊢;rw[if_pos N]at m;refine(A.fin aT (by have:=o.2.2.2.1;omega)).mono ?_;rintro e w' ⟨rfl,y⟩;obtain⟨d2,M,C⟩:=y.out;rw[m];exact⟨rfl,rfl,d2,M,(o.trans C.un).mono (by omega) (by omega)⟩
  ·obtain⟨i,d1,z,u,⟨A,o,x,H,S⟩,O,_⟩:=F;rw[if_pos z,u]at m;simp only at m;rw[H]at N;rw[if_neg N,if_pos O.symm]at m;have bk:=congrArg Prod.fst m;have bl:=congrArg Prod.snd m;dsimp only at bk bl;refine(A.fin (how:=2) aT (by have:=o.2.2.2.1;omega)).mono ?_;rintro e w' ⟨rfl,y⟩;obtain⟨d2,M,C⟩:=y.out;rw[<-bk]at M;exact⟨rfl,bl.symm,d2,M,(o.trans C.un).mono (by omega) (by omega)⟩
  ·obtain⟨i,d1,z,u,⟨A,o,x,H,S⟩,O,an⟩:=F;rw[if_pos z,u]at m;simp only at m;rw[H]at N;have bR:¬Sy.made p.n p.prog p.room ((s.put a (B,i.state,i.mail)).tell nZ a 0 i.message) i.spawns=false:=λg=>Bool.noConfusion (O.trans g);rw[if_neg N,if_neg bR]at m;obtain⟨U,aO,aP,c,rfl,a6,bz,aL,bA,b9⟩:=an rfl;obtain⟨au,a7,aM,aN,X,aZ,a0,a1,a2,af,a3,aG,aH⟩:=S;have aY:=Lg bg u;have bm:i.spawns.length=t.pl:=by rw[<-af,eE];exact X.2.1
   have bP:Sy.may ((s.put a (B,i.state,i.mail)).tell nZ a 0 i.message) t.pl=true:=by
    unfold Sy.made at O;rw[bm]at O;exact(Bool.and_eq_true_iff.1 O.symm).1
   have hF:=A.follow (pa:=t.pa) (pl:=t.pl) (pc:=t.pc) aT i aY t.y0 t.y1 t.y2 t.ya t.yl t.yc aZ a1 bA ⟨X.1,X.2.2,a6,bm⟩ a2 a3 (λb g=>?_) b9 (ak _) (λh g _=>aL h g) bP (by have:=o.2.2.1;omega) (by have:=o.2.2.2.1;omega) (by have:=o.2.2.2.2.1;omega) (by have:=o.2.2.2.2.2;omega)
   ·rw[<-H]at hF;refine hF.mono ?_;rintro e w' ⟨rfl,y⟩;obtain⟨d2,M,C⟩:=y;rw[m];exact⟨rfl,rfl,d2,M,o.ug C λh g=>by omega⟩
   ·rcases g with g|g|g
    ·exact(aH b (ah g)).2
    ·exact(aH b (ai (ai g))).2
    ·rw[aL b (bA.lt b g).1];exact jf 0
end
theorem K7(o:Nat)(kd a b p q:Int)(r:ByteArray)(xa:Option Addr)(s xc:Nat)(w:World)(R:Int->World->Prop)(l:Hid (kd=1->∀W,aj w W->am 31 #[aB o,ab a] W λe w'=>∃v,e=.returned (ab v)/\Hid (R v w')))(h:Hid (kd=2->∀W,aj w W->am 32 #[aB o,ab a,ab b] W λe w'=>∃v,e=.returned (ab v)/\Hid (R v w')))(k:Hid (kd=3->∀W,aj w W->am 33 #[aB o,ab a,.agg #[ab p,ab q,af r,ae xa s xc]] W λe w'=>∃v,e=.returned (ab v)/\Hid (R v w')))(j:Hid (¬(kd=1\/kd=2\/kd=3)->∀W,aj w W->R 1 W)):am 10 #[aB o,.agg #[ab kd,ab a,ab b,ab p,ab q,af r,ae xa s xc]] w λe w'=>∃v,e=.returned (ab v)/\Hid (R v w'):=by
 go_enter func10,ntmps10;go_upto_region 1 with fail;generalize u:w.alloc _=c;have HB:Hid (aj w c):=by
  rw[<-u];exact(ap _ _).alloc (ak _) _
 have d:c.heap[w.heap.size]?=some (.cells #[ab kd,ab a,ab b,ab p,ab q,af r,ae xa s xc] 41):=by
  rw[<-u];exact aE _ _
 generalize w.heap.size=f at*;clear u;have d0:c.cell? ⟨f,0,none⟩=some (ab kd):=ag d 0;have d1:c.cell? ⟨f,1,none⟩=some (ab a):=ag d 1;have d2:c.cell? ⟨f,2,none⟩=some (ab b):=ag d 2;have d3:c.cell? ⟨f,3,none⟩=some (ab p):=ag d 3;have d4:c.cell? ⟨f,4,none⟩=some (ab q):=ag d 4;have d5:c.cell? ⟨f,5,none⟩=some (af r):=ag d 5;have d6:c.cell? ⟨f,6,none⟩=some (ae xa s xc):=ag d 6;clear d;by_cases m:kd=1
 ·have i:=aq (l m _ HB);subst m;clear l h k j;go_wp2_with fail;refine i.mono ?_;rintro e y ⟨v,rfl,g⟩;go_wp2_with fail
  go_ret
  exact⟨v,rfl,g⟩
 have x:(kd==1)=false:=by simpa using m
 by_cases n:kd=2
 ·have i:=aq (h n _ HB);subst n;clear l h k j m x;go_wp2_with fail;refine i.mono ?_;rintro e y ⟨v,rfl,g⟩;go_wp2_with fail
  go_ret
  exact⟨v,rfl,g⟩
 have A:(kd==2)=false:=by simpa using n
 by_cases t:kd=3
 ·have i:=aq (k t _ HB);subst t;clear l h k j m x n A;go_wp2_with fail;refine i.mono ?_;rintro e y ⟨v,rfl,g⟩;go_wp2_with fail
  go_ret
  exact⟨v,rfl,g⟩
 have B:(kd==3)=false:=by simpa using t
 have z:=aq (j (by omega) _ HB);clear l h k j;go_wp2_with fail
 go_ret
 exact⟨1,rfl,z⟩
section
variable {p:kQ} {s:Sy} {d:fY} {w:World}
theorem bj.do(o:bj p s d w){kd a b:Int}(u:I2 (a,b)){m:Nat}(x:Tm (m+1))(y:In w.heap.size w (m+1) x/\cd (λq=>¬1<=d.ow q) (m+1) x)(A:(ax (m+1) x).length<=2097152)(C:d.k<=46000)(z:d.es.length<=96000)(D:d.wn<=800000)(B:d.bn<=800000):am 10 #[aB p.b,.agg #[ab kd,ab a,ab b,ab x.1.1,ab x.1.2.1,af x.1.2.2,ae x.2.1.1 x.2.2.length x.2.1.2]] w λe w'=>∃v,e=.returned (ab v)/\Hid (v=(s.do p.n p.prog p.room kd a b (m+1) x).2/\∃f,bj p (s.do p.n p.prog p.room kd a b (m+1) x).1 f w'/\fS 201 402 d f w w'):=by
 obtain⟨r,g⟩:∃r,r=s.do p.n p.prog p.room kd a b (m+1) x:=⟨_,rfl⟩;rw[<-g];unfold Sy.do at g;refine K7 p.b kd a b x.1.1 x.1.2.1 x.1.2.2 x.2.1.1 x.2.2.length x.2.1.2 w (λv w'=>v=r.2/\∃f,bj p r.1 f w'/\fS 201 402 d f w w') (λe t c=>?_) (λe t c=>?_) (λe t c=>?_) λe t c=>?_
 ·rw[if_pos e]at g;refine((o.later c).run u.1 C z D B).mono ?_;rintro e w' ⟨v,rfl,h⟩;obtain⟨i,f,j,l⟩:=h.out;rw[g];exact⟨v,rfl,i,f,j,((dT.later d c).un.trans l).mono (by omega) (by omega)⟩
 ·rw[if_neg (by omega),if_pos e]at g;refine((o.later c).arrive u (by omega) (by omega) (by omega)).mono ?_;rintro e w' ⟨v,rfl,h⟩;obtain⟨i,f,j,l⟩:=h.out;rw[g];exact⟨v,rfl,i,f,j,((dT.later d c).un.trans l).mono (by omega) (by omega)⟩
 ·rw[if_neg (by omega),if_neg (by omega),if_pos e]at g;refine((o.later c).inject u.1 x ⟨(y.1.below c).mono c.size,y.2⟩ A (by omega) (by omega)).mono ?_;rintro e w' ⟨v,rfl,h⟩;obtain⟨i,f,j,l⟩:=h;rw[g];exact⟨v,rfl,i,f,j,((dT.later d c).un.trans l).mono (by omega) (by omega)⟩
 ·rw[if_neg (by omega),if_neg (by omega),if_neg (by omega)]at g;rw[g];exact⟨rfl,d,o.later c,(dT.later d c).un.mono (by omega) (by omega)⟩
end
theorem Ih(y:Option Addr)(A z:Nat)(room E:Int)(w:World)(n:Int->Int->ByteArray->Option Addr->Nat->Nat->World->Prop)(r:Option Addr->Nat->Nat->World->Prop)(R:Value->Int->World->Prop)(x:Hid (am 5 #[ae y A z] w λe w'=>∃y0 y1 y2 ya yl yc,e=.returned (.tuple #[.agg #[ab y0,ab y1,af y2,ae ya yl yc],ab E])/\Hid (n y0 y1 y2 ya yl yc w')))(j:Hid (E=0->(0<=room/\room<=1000)->∀y0 y1 y2 ya yl yc W b,n y0 y1 y2 ya yl yc W->aj W b->am 8 #[.agg #[ab y0,ab y1,af y2,ae ya yl yc]] b λe w'=>∃a l c h,e=.returned (.tuple #[ae a l c,ab h])/\Hid (r a l c w')))(g:Hid (∀y0 y1 y2 ya yl yc W b,n y0 y1 y2 ya yl yc W->aj W b->(E≠0->R (.pointer none) E b)/\(E=0->¬(0<=room/\room<=1000)->R (.pointer none) 1 b)))(k:Hid (∀a l c W,E=0->(0<=room/\room<=1000)->r a l c W->R (aB W.heap.size) 0 (W.alloc (.cells #[ae a l c,ab room,ab 0,.map none,.map none,.map none,ae none 0 0] 94)))):am 13 #[ae y A z,ab room] w λe w'=>∃v h,e=.returned (.tuple #[v,ab h])/\Hid (R v h w'):=by
 go_enter func13,ntmps13;go_wp2_with fail;refine x.mono ?_;rintro e i ⟨y0,y1,y2,ya,yl,yc,rfl,d⟩;clear x;have m:Hid (∀o,aj i (i.alloc o)):=λo=>(ap _ _).alloc (ak _) o;by_cases p:E=0;rotate_left
 ·have f:Hid (∀o,R (.pointer none) E (i.alloc o)):=λo=>(g _ _ _ _ _ _ _ _ d (m o)).1 p;have F:(E==0)=false:=by simpa using p
  clear j g k d;go_wp2_with fail;exact av (v:=.tuple #[.pointer none,ab E]) (by simp[results,results13,go_sem]) rfl ⟨_,_,rfl,f _⟩
 subst p;by_cases q:0<=room/\room<=1000;rotate_left
 ·have f:Hid (∀o,R (.pointer none) 1 (i.alloc o)):=λo=>(g _ _ _ _ _ _ _ _ d (m o)).2 rfl q;clear j g k d;by_cases B:room<0
  ·go_wp2_with fail;exact av (v:=.tuple #[.pointer none,ab 1]) (by simp[results,results13,go_sem]) rfl ⟨_,_,rfl,f _⟩
  ·have C:1000<room:=by omega
   go_wp2_with fail;exact av (v:=.tuple #[.pointer none,ab 1]) (by simp[results,results13,go_sem]) rfl ⟨_,_,rfl,f _⟩
 have t:=aq (λb=>j rfl q y0 y1 y2 ya yl yc i b d);have u:=aq (λa l c W=>k a l c W rfl q);have B:¬room<0:=by omega
 have C:¬1000<room:=by omega
 clear j k g d;go_wp2_with fail;refine(t _ (m _)).mono ?_;rintro e D ⟨a,l,c,h,rfl,s⟩;have f:=aq (u _ _ _ _ s);clear t u s;go_wp2_with fail;exact av (v:=.tuple #[aB D.heap.size,ab 0]) (by simp[results,results13,go_sem]) rfl ⟨_,_,rfl,f⟩
def Nl:Sy:=⟨0,[],λ_=> [],λ_=>false,[]⟩
def lJ(n:Nat)(l:List (Bh (n+1)))(room:Int):Int:=if ki n l≠0 then ki n l else if 0<=room/\room<=1000 then 0 else 1
def Oh(n:Nat)(l:List (Bh (n+1)))(room:Int)(w:World)(v:Value)(d:Int)(w':World):Prop:=
 d=lJ n l room/\aj w w'/\(d≠0->v=.pointer none)/\(d=0->∃(a:kQ)(c:fY),v=aB a.b/\bj a Nl c w'/\(c.k=0/\c.es=[]/\c.wn=0/\c.bn=0)/\a.room=room/\a.lo=w.heap.size/\a.n=n+5/\ay (a.n+6) (bK a.n a.prog) (n+6) (bK n l)=true)
theorem Cm(n:Nat)(l:List (Bh (n+1)))(y:Option Addr)(q:Nat)(room:Int)(w:World)(U:fR (n+1) w.heap.size w y l)(V:l.length<=q)(W:q<=maxLen)(F:ky (n+1) l=true->(ax (n+6) (bK n l)).length<=2097152):am 13 #[ae y l.length q,ab room] w λe w'=>∃v M,e=.returned (.tuple #[v,ab M])/\Hid (Oh n l room w v M w'):=by
 refine Ih y l.length q room (ki n l) w (λy0 y1 y2 ya yl yc d=>aj w d/\∃f:Tm (n+6),(f.1=(y0,y1,y2)/\f.2.1=(ya,yc)/\f.2.2.length=yl)/\In d.heap.size d (n+6) f/\ay (n+6) f (n+6) (I8 n l)=true)
  (λi h c d=>∃g:List (Bh (n+6)),g.length=h/\(∃A,aj w A/\aj A d)/\(h<=c/\c<=maxLen)/\fR (n+6) d.heap.size d i g/\tD (jQ (n+6) λb=>w.heap.size<=b) (λb=>w.heap.size<=b) i g/\ki (n+5) g=0/\ay (n+11) (bK (n+5) g) (n+6) (bK n l)=true) (Oh n l room w) ?_ (λj u y0 y1 y2 ya yl yc d r p o=>?_) (λy0 y1 y2 ya yl yc d r p o=>⟨λj=>?_,λj u=>?_⟩) λi h c d j u hF=>?_
 ·refine(Ev n l y q V W w.heap.size w U (ak _) F).mono ?_;rintro e w' ⟨f,rfl,z⟩;obtain⟨O,P,al,Q⟩:=z.out;exact⟨f.1.1,f.1.2.1,f.1.2.2,f.2.1.1,f.2.2.length,f.2.1.2,rfl,O,f,⟨rfl,rfl,rfl⟩,P,Q⟩
 ·obtain⟨m,f,⟨f1,f2,f3⟩,D,x⟩:=p;obtain⟨⟨aw,az,aA⟩,⟨aB,aC⟩,aD⟩:=f;simp only[eG]at f1 f2;obtain⟨rfl,rfl,rfl⟩:=f1;obtain⟨rfl,rfl⟩:=f2;subst f3;obtain⟨t1,t2,t3⟩:=IC j x;refine(Bk (n+5) (n+6) (ak _) _ r.heap.size r ((D.below o).mono o.size) (eg t1) (ak _)).mono ?_;rintro e w' ⟨g,i,c,rfl,z⟩;obtain⟨aa,ad,af,ag,aq,ai⟩:=z;obtain⟨a,Y,Z⟩:=ai t2;obtain⟨ar,K,L,au,av⟩:=t3 a g Y Z;have G:=m.trans (o.mono m.size);have ao:=G.size;have h:=cq (dP (n+6)) 2 (oI (n+6)) i;rw[(dH K).2.2,(dH j).2.2]at L;exact⟨i,g.length,c,_,rfl,g,rfl,⟨r,G,aa⟩,ad,af,h.1 _ _ _ (λb a=>by omega) ag,K,L⟩
 ·have m:=p.1.trans (o.mono p.1.size);exact⟨by unfold lJ;rw[if_pos j],m,λ_=>rfl,λa=>absurd a j⟩
 ·have m:=p.1.trans (o.mono p.1.size);exact⟨by unfold lJ;rw[if_neg (by rw[j];decide),if_neg u],m,λ_=>rfl,(λa=>by cases a)⟩
 ·obtain⟨g,rfl,⟨A,E,N⟩,H,C,I,X,x⟩:=hF;have m:=E.trans (N.mono E.size);have J:=m.size;have s:aj d (d.alloc (.cells #[ae i g.length c,ab room,ab 0,.map none,.map none,.map none,ae none 0 0] 94)):=(ap _ _).alloc (ak _) _;generalize R:d.alloc (.cells #[ae i g.length c,ab room,ab 0,.map none,.map none,.map none,ae none 0 0] 94)=B at s;have t:B.heap[d.heap.size]?=some (.cells #[ae i g.length c,ab room,ab 0,.map none,.map none,.map none,ae none 0 0] 94):=by
   rw[<-R];exact aE _ _
  have an:=(aF.1 t).1;refine⟨by unfold lJ;rw[if_neg (by rw[j];decide),if_pos u],m.trans (s.mono m.size),λa=>absurd rfl a,λ_=>⟨⟨w.heap.size,d.heap.size,room,n+5,g,i,c⟩,⟨λb=>if b=d.heap.size then -5 else if w.heap.size<=b/\b<d.heap.size then -4 else 0,none,[],none,0,λ_=> [],λ_=>mu,none,0,ae none 0 0,[],0⟩,rfl,?_,⟨rfl,rfl,rfl,rfl⟩,rfl,rfl,rfl,x⟩⟩;have h:=cq (dP (n+6)) 2 (oI (n+6)) i;refine⟨λb a=>?_,t,if_pos rfl,⟨⟨?_,?_⟩,H.1,H.2,X,?_⟩,ah ⟨rfl,rfl⟩,⟨rfl,List.nodup_nil,by simp[Nl],by decide,by decide,by simp[Nl]⟩,?_,⟨⟨J,(qz t).1,ah ⟨rfl,rfl,rfl⟩⟩,?_,λ_=>rfl,λ_=>aI _,?_⟩,⟨⟨J,(qz t).2,ah ⟨rfl,rfl⟩⟩,?_,(λb a=>by cases a)⟩,⟨eH _ _ _ _,(λb a=>by cases a)⟩,rfl,(λe S=>by cases S)⟩
  ·have a:(if b=d.heap.size then (-5:Int)else if w.heap.size<=b/\b<d.heap.size then -4 else 0)≠0:=a;show w.heap.size<=b/\b<B.heap.size;split at a
   ·omega
   ·split at a
    ·omega
    ·exact absurd rfl a
  ·exact h.2.2.2.1 _ _ _ _ s.size (h.2.2.1 _ _ _ B _ (λb a=>s.block b a.2) (h.2.1 _ _ _ _ I C) C)
  ·refine h.1 _ _ _ (λb a=>?_) (h.2.1 _ _ _ _ I C);exact(if_neg (by omega)).trans (if_pos ⟨a.1,a.2⟩)
  ·rw[kC _ _ _ _ x];exact F (dH j).1
  ·intro k b a;cases a
  ·intro b a;rcases a with a|a|⟨k,_,a⟩
   ·exact ah a
   ·cases a
   ·cases a
  ·intro k f D;cases D
  ·intro k T;cases T
end Go.Proofs.YtmmahddlcldmiaaGreatDoor
