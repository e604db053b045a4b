/- Proved here: plain facts and contracts. No condition but what each names. -/
import Derived.Test.YtmmahddlcldmiaaGreatR07
import Derived.Laws.Tables
namespace Go.Proofs.YtmmahddlcldmiaaGreat
open Go.RowKit Go.Proofs.Tryz
set_option maxRecDepth 100000
set_option maxHeartbeats 4000000
section
variable {p:lB} {s:Sy} {d:gz} {w:ag}
theorem bz.takeW(h:bz p s d w){a b:Int}(X:I2 (a,b))(Z:d.wn<999999):ao 50 #[.pointer (some ⟨p.b,4,none⟩),ab a,ab b] w λe w'=> (s.ways (a,b)=[]->e=.returned (.tuple #[.agg #[ab 0,ab 0,af ⟨#[]⟩,ae none 0 0],ab 4])/\am w w')/\ ∀t l,s.ways (a,b)=t::l->∃y:Tc,e=.returned (.tuple #[dB 13 y,ab 0])/\cn 13 y=t/\bG 13 y=0/\aT 13 y=true/\∃z,bz p {s with ways:=fF s.ways (a,b) l} z w'/\eu 1 d z w w'/\In w'.heap.size w' 13 y/\cv (λq=>¬1<=z.ow q) 13 y:=by
 have n:=h.wy.2.2.1 (a,b);refine(LV (N:=12) h.wy.1 X Z (by have:=h.wy.2.2.2.1 (a,b);omega)).mono ?_;rintro e w' ⟨B,V⟩;refine⟨λA=>B ?_,λt l A=>?_⟩
 ·rw[A]at n;simpa using n
 ·rw[A]at n;obtain⟨y,i,v,P,Q⟩:∃y i,d.f (a,b)=y::i/\cn 13 y=t/\i.map (cn 13)=l:=by
   cases I:d.f (a,b)with
   | nil=>rw[I]at n;simp at n
   | cons y i=>
    rw[I,aV]at n;injection n with ag ah;exact⟨y,i,rfl,ag,ah⟩
  obtain⟨Y,sl,L,m,M⟩:=V y i v;have u:=h.wy.2.1;have r:∀b,d.ow b≠0->d.ow b=d.ow b:=λ_ _=>rfl;have J:∀b,d.ow b≠0->p.lo<=b/\b<w'.heap.size:=λb q=>⟨(h.low b q).1,aW (h.low b q).2 m.size⟩;have x:∀{t:Int},t≠ -1->t≠ -5->∀b,d.ow b=t->¬sD (AV p s d) d.wo d.sl b:=λB W b e g=>by
   rcases u b g with g|g
   ·rw[g,h.own]at e;exact W e.symm
   ·exact B (e.symm.trans g)
  have H:w'.heap[p.b]?=some (.cells (ez p s d) 74):=by
   have:=L.2.1.2;simpa [AV,ez]using this
  have K:∀C,∀g∈d.f C,bG 13 g=0/\aT 13 g=true/\In w'.heap.size w' 13 g/\cv (λq=>d.ow q=-1/\¬sD (AV p s d) d.wo d.sl q) 13 g:=λC g o=>by
   obtain⟨D,E,F⟩:=h.wy.2.2.2.2 C g o;exact⟨D,E,eE m (λq ak G=>ak.2 G) F⟩
  obtain⟨y1,y2,ai,aj⟩:=K (a,b) y (by rw[v];simp);obtain⟨R,S⟩:=h.evK m (x (by decide) (by decide)) r;refine⟨y,Y,P,y1,y2,{d with wn:=d.wn+1,f:=fF d.f (a,b) i,sl:=sl},⟨J,H,h.own,⟨h.pgK m (x (by decide) (by decide)) r,h.pg.2⟩,h.pmK m (λq T U g=>?_) r,h.keys,λk c q=>h.psK m (av _) (x (by have:=(h.key q).1;omega) (by have:=(h.key q).1;omega)) r J q,⟨L,λq g=>u q (M q g),λk=>?_,λk=>?_,λk g o=>?_⟩,h.bdK m (x (by decide) (by decide)) r rfl (qS H).2,R,h.evt.1,S⟩,⟨m.mono λq _ g=>?_,λ_ _=>rfl,rfl,fI _,av _,fI _⟩,ai,aj.mono λq g=>by show¬1<=d.ow q;rw[g.1];decide⟩
  ·rcases u q g with g|g
   ·exact U g
   ·rw[T]at g;cases g
  ·by_cases j:k=(a,b)
   ·subst j;show (fF d.f (a,b) i (a,b)).map (cn 13)=fF s.ways (a,b) l (a,b);rw[cw,cw,Q]
   ·show (fF d.f (a,b) i k).map (cn 13)=fF s.ways (a,b) l k;rw[bH _ _ j,bH _ _ j];exact h.wy.2.2.1 k
  ·by_cases j:k=(a,b)
   ·subst j;show (fF d.f (a,b) i (a,b)).length<=20;rw[cw];have:=h.wy.2.2.2.1 (a,b);rw[v]at this;simp at this;omega
   ·show (fF d.f (a,b) i k).length<=20;rw[bH _ _ j];exact h.wy.2.2.2.1 k
  ·have o:g∈fF d.f (a,b) i k:=o;have aa:g∈d.f k:=by
    by_cases j:k=(a,b)
    ·subst j;rw[cw]at o;rw[v];exact bT _ o
    ·rwa [bH _ _ j]at o
   obtain⟨D,E,F,ad⟩:=K k g aa;exact⟨D,E,F,ad.mono λq O=>⟨O.1,λG=>O.2 (M q G)⟩⟩
  ·rcases u q g with g|g
   ·rw[g,h.own];decide
   ·rw[g];decide
end
theorem tA(d:Nat)(a b:Int)(s i:Bool)(w:ag)(p:Int->Int->ap->au->Nat->Nat->ag->Prop)(R:Int->ag->Prop)(n:Hid (ao 50 #[.pointer (some ⟨d,4,none⟩),ab a,ab b] w λe w'=>(s=true->e=.returned (.tuple #[.agg #[ab 0,ab 0,af ⟨#[]⟩,ae none 0 0],ab 4])/\Hid (∀W,am w' W->R 4 W))/\(s=false->∃y0 y1 y2 ya yl yc,e=.returned (.tuple #[.agg #[ab y0,ab y1,af y2,ae ya yl yc],ab 0])/\Hid (p y0 y1 y2 ya yl yc w'))))(k:Hid (∀y0 y1 y2 ya yl yc W c,p y0 y1 y2 ya yl yc W->am W c->ao 51 #[aH d,ab b] c λe w'=>e=.returned (.bool i)/\w'=c))(l:Hid (∀y0 y1 y2 ya yl yc W c,p y0 y1 y2 ya yl yc W->am W c->(i=true->ao 52 #[aH d,ab a,ab b,.agg #[ab y0,ab y1,af y2,ae ya yl yc]] c λe w'=>e=.returned (.tuple #[])/\Hid (R 0 w'))/\(i=false->ao 46 #[aH d,af ⟨#[108,111,115,116]⟩,ab a,ab b,.agg #[ab y0,ab y1,af y2,ae ya yl yc]] c λe w'=>e=.returned (.tuple #[])/\Hid (R 0 w')))):ao 25 #[aH d,ab a,ab b] w λe w'=>∃v,e=.returned (ab v)/\Hid (R v w'):=by
 go_enter func25,ntmps25;go_wp2_with fail;refine n.mono ?_;rintro e f ⟨q,r⟩;cases s;rotate_left
 ·obtain⟨rfl,g⟩:=q rfl;clear q r n k l;go_wp2_with fail
  go_ret
  exact⟨4,rfl,g _ (aS _ _)⟩
 obtain⟨y0,y1,y2,ya,yl,yc,rfl,g⟩:=r rfl;clear q r n;have HB:Hid (∀o,am f (f.alloc o)):=λo=>aS _ o;have x:Hid (∀o,(f.alloc o).heap[f.heap.size]?=some o):=λo=>aD f o;go_wp2_with fail;refine(k _ _ _ _ _ _ _ _ g (HB _)).mono ?_;rintro e y ⟨rfl,t⟩;obtain rfl:=t.symm;clear t;have h:=aq (l _ _ _ _ _ _ _ _ g (HB (.cells #[ab y0,ab y1,af y2,ae ya yl yc] 31)));clear k l;cases i
 ·have m:=aq (h.2 rfl);clear h;go_wp2_with fail;refine m.mono ?_;rintro e u ⟨rfl,j⟩;go_wp2_with fail
  go_ret
  exact⟨0,rfl,j⟩
 ·have m:=aq (h.1 rfl);clear h;go_wp2_with fail;refine m.mono ?_;rintro e u ⟨rfl,j⟩;go_wp2_with fail
  go_ret
  exact⟨0,rfl,j⟩
section
variable {p:lB} {s:Sy} {d:gz} {w:ag}
theorem bz.arrive(y:bz p s d w){a b:Int}(z:I2 (a,b))(B:d.wn<999999)(U:d.k<=47000)(S:d.es.length<=97000):ao 25 #[aH p.b,ab a,ab b] w λe w'=>∃v,e=.returned (ab v)/\Hid (v=(s.arrive p.room a b).2/\∃c,bz p (s.arrive p.room a b).1 c w'/\gB 101 201 d c w w'):=by
 cases hw:s.ways (a,b)with
 | nil=>
  have e:s.arrive p.room a b=(s,4):=by unfold Sy.arrive;rw[hw]
  rw[e];refine tA p.b a b true false w (λ_ _ _ _ _ _ _=>False) (λv w'=>v=4/\∃c,bz p s c w'/\gB 101 201 d c w w') ((y.takeW z B).mono λe w' j=>⟨λ_=>⟨(j.1 hw).1,λi g=>?_⟩,(λm=>by cases m)⟩) (λ_ _ _ _ _ _ _ _ m=>m.elim) λ_ _ _ _ _ _ _ _ m=>m.elim;have A:=(j.1 hw).2.trans (g.mono (j.1 hw).2.size);exact⟨rfl,d,y.later A,(eu.later d A).un.mono (aM _) (aM _)⟩
 | cons t l=>
  obtain⟨h,C⟩:∃h,h={s with ways:=fF s.ways (a,b) l}:=⟨_,rfl⟩;have e:s.arrive p.room a b=(if (h.get b).isSome then h.deliver p.room a b t else h.tell jX a b t,0):=by unfold Sy.arrive;rw[hw,C]
  rw[e];refine tA p.b a b false (h.get b).isSome w (λy0 y1 y2 ya yl yc i=>∃f:Tc,(f.1=(y0,y1,y2)/\f.2.1=(ya,yc)/\f.2.2.length=yl)/\cn 13 f=t/\bG 13 f=0/\∃c,bz p h c i/\eu 1 d c w i/\In i.heap.size i 13 f/\cv (λj=>¬1<=c.ow j) 13 f) (λv w'=>v=0/\∃c,bz p (if (h.get b).isSome then h.deliver p.room a b t else h.tell jX a b t) c w'/\gB 101 201 d c w w') ((y.takeW z B).mono λe w' j=>⟨(λm=>by cases m),λ_=>?_⟩) ?_ ?_
  ·obtain⟨f,J,K,L,X,c,M,N,O,P⟩:=j.2 t l hw;exact⟨f.1.1,f.1.2.1,f.1.2.2,f.2.1.1,f.2.2.length,f.2.1.2,J,f,⟨rfl,rfl,rfl⟩,K,L,c,by rw[C];exact M,N,O,P⟩
  ·rintro y0 y1 y2 ya yl yc i F ⟨f,_,_,_,c,o,_⟩ g;exact(o.later g).isAlive b
  ·rintro y0 y1 y2 ya yl yc i F ⟨f,⟨f1,f2,f3⟩,D,kc,c,o,r,E,I⟩ g;obtain⟨⟨Y,Z,aa⟩,⟨ad,ae⟩,af⟩:=f;simp only[eC]at f1 f2;obtain⟨rfl,rfl,rfl⟩:=f1;obtain⟨rfl,rfl⟩:=f2;subst f3;have T:=r.2.2.2.1;have V:=r.2.2.1;refine⟨λq=>?_,λq=>?_⟩
   ·obtain⟨v,H⟩:=gm.1 q;obtain⟨W,R,Q⟩:=v;refine((o.later g).deliver z.2 H _ ⟨(E.below g).mono g.size,I⟩ kc (by omega) (by omega)).mono ?_;rintro G w' ⟨rfl,u⟩;obtain⟨d2,n,x⟩:=u.out;rw[D]at n;rw[if_pos q];exact⟨rfl,rfl,d2,n,((r.un.trans (eu.later c g).un).trans x).mono (by omega) (by omega)⟩
   ·refine((o.later g).tell jX a b _ _ _ _ _ _ _ (kJ ((E.below g).mono g.size) kc) (by omega)).mono ?_;rintro G w' ⟨rfl,u⟩;obtain⟨d2,n,x⟩:=u.up (o.later g);rw[D]at n;rw[if_neg (by rw[q];decide)];exact⟨rfl,rfl,d2,n,((r.un.trans (eu.later c g).un).trans x.un).mono (by omega) (by omega)⟩
end
theorem NJ(a:Nat)(W:ag):(binOp .eql 67 (.map (some a)) (.map none)).run Tryz.prog W=.ok (.bool false) W:=by kernel_rfl
theorem NI(W:ag):(binOp .eql 67 (.map none) (.map none)).run Tryz.prog W=.ok (.bool true) W:=by kernel_rfl
theorem IS(b o d:Nat)(n:Option Nat)(a F c:Int)(w w1 w2:ag)(y:Int->Int->ap->au->Nat->Nat->ag->Prop)(k R:ag->Prop)(N:IntKind.i64.wrap (F+1)=c)(O:b<w.heap.size)(C:Hid (ah w b 3 (.map n)/\w.frozen? ⟨b,3,none⟩=false))(L:(n=none/\d=w.heap.size/\w1=(w.setCell ⟨b,3,none⟩ (.map (some d))).alloc (.map #[] 0))\/(n=some d/\w1=w))(p:Hid (ah w1 b 2 (ab F)/\w1.frozen? ⟨b,2,none⟩=false))(z:w2=w1.setCell ⟨b,2,none⟩ (ab c))(j:Hid (∀W,am w2 W->ah W b 2 (ab c)/\ah W b 3 (.map (some d))))(u:Hid (∀W,am w2 W->∃f,(Instr.mapUpdate 67 (.map (some d)) (ab c) (AU o)).run Tryz.prog W=.ok () f/\(ah f b 2 (ab c)/\ah f b 3 (.map (some d)))/\Hid (k f)))(s:Hid (∀W g,k W->am W g->ah g b 2 (ab c)))(H:Hid (∀W g,k W->am W g->ao 34 #[aH o] g λe w'=>∃y0 y1 y2 ya yl yc,e=.returned (.agg #[ab y0,ab y1,af y2,ae ya yl yc])/\Hid (am g w'/\y y0 y1 y2 ya yl yc w')))(I:Hid (∀y0 y1 y2 ya yl yc W,y y0 y1 y2 ya yl yc W->ao 46 #[aH b,af ⟨#[115,112,97,119,110]⟩,ab a,ab c,.agg #[ab y0,ab y1,af y2,ae ya yl yc]] W λe w'=>e=.returned (.tuple #[])/\Hid (R w'/\ah w' b 2 (ab c)))):ao 43 #[aH b,ab a,aH o] w λe w'=>e=.returned (.tuple #[])/\Hid (R w'):=by
 obtain⟨K,f3⟩:=C.out;have M:= @lq Tryz.prog;have m:Hid (am w2 w2.drew):=(aA _ _).drew;have h:Hid (∀W:ag,am W W.drew):=λW=>(aA _ _).drew;go_enter func43,ntmps43;rcases L with⟨rfl,B,i⟩|⟨rfl,i⟩
 case' inl=>
  have D:=NI;go_upto_region 2 with fail;rw[<-B,<-i];clear B
 case' inr=>
  have D:=NJ d;go_upto_region 2 with fail;rw[<-i]
 all_goals
  clear K f3 i C D M;obtain⟨J,f2⟩:=p.out;go_upto_region 3 with fail;rw[<-z];clear z J f2 p;obtain⟨d2,d3⟩:=j.out _ m;obtain⟨f,E,A,l⟩:=u.out _ m;unfold AU at E;have t:=aq A;have r:=aq (j _ m);clear u j;go_region_held3 (λW=>ah W b 2 (ab c)/\ah W b 3 (.map (some d))) (first|exact r|exact t) (fail);clear E r A d2 d3;have d2:=t.1;go_upto_region 4 with fail
  go_region_held3 (λW=>ah W b 2 (ab c)) (first|exact s _ _ l (h _)|exact s _ _ l G|exact q.2) ((first
   | (go_at_call 34;refine(H _ _ l (h _)).mono ?_;rintro e P ⟨y0,y1,y2,ya,yl,yc,rfl,x⟩;have G:=aq ((h f).trans (x.1.mono (h f).size)))
   | (go_at_call 46;refine(I _ _ _ _ _ _ _ x.2).mono ?_;rintro e Q ⟨rfl,q⟩)))
  go_wp2_with fail;exact dG (v:=.tuple #[]) (by simp[results]) rfl ⟨rfl,q.1⟩
section
variable {p:lB} {s:Sy} {d:gz} {w:ag}
def OU(M:aO)(a:Nat)(d b:gz)(w w':ag):Prop:=bB (λq=>d.ow q<0) w w'/\(∀q,q<w.heap.size->¬M q->b.ow q=d.ow q)/\(∀q,M q->1<=b.ow q)/\b.k=d.k/\b.es.length<=d.es.length+a/\b.wn<=d.wn+a/\b.bn<=d.bn+a
theorem pf{b:Type}(l:List (Int×b))(k j:Int)(v:b)(c:∀q∈l,q.1≠k):((l++ [(k,v)]).find? λq=>q.1==j)=if j=k then some (k,v)else l.find? λq=>q.1==j:=by
 rw[List.find?_append];by_cases a:j=k
 ·subst a;rw[if_pos rfl,kZ.2 λq d=>by simpa using c q d];simp
 ·rw[if_neg a];have:(k==j)=false:=by simpa using λe:k=j=>a e.symm
  simp[this]
def Pk(d:gz)(M:aO)[DecidablePred M](a:Nat)(k:Int)(q:Nat):Int:=if M q then k else if q=a then -5 else d.ow q
theorem bz.addG(e:bz p s d w){m c:Nat}{nm:ap}{cs:Tc}{M:aO}[DecidablePred M](C:P1 p.lo m nm p.room cs [] (d.k+201) M w)(B:∀q,M q->d.ow q=0)(ab:s.ps.length<12/\s.last<90){w':ag}(f:bB (λq=>d.ow q=-5) w w')(Q:d.ow c≠0->d.ow c=-5)(O:¬M c)(P:p.lo<=c/\c<w'.heap.size)(R:c≠p.b)(o:w'.heap[p.b]?=some (.cells (ez p {s with last:=s.last+1} {d with po:=some c}) 74))(N:IM w' c (d.l++ [(s.last+1,m)])):bz p {s with last:=s.last+1,ps:=s.ps++ [(s.last+1,nm,cs,[])]} {d with ow:=Pk d M c (s.last+1),po:=some c,l:=d.l++ [(s.last+1,m)]} w':=by
 obtain⟨z,K,A,Y,Z,aa⟩:=e.keys;have i:∀b,d.ow b≠0->Pk d M c (s.last+1) b=d.ow b:=λb h=>by
  unfold Pk;rw[if_neg λa=>h (B b a)];by_cases g:b=c
  ·subst g;rw[if_pos rfl,Q h]
  ·rw[if_neg g]
 have r:∀b,Pk d M c (s.last+1) b≠0->p.lo<=b/\b<w'.heap.size:=λb h=>by
  unfold Pk at h;split at h
  ·rename_i a;have:=P1.lie2 C b a;exact⟨this.1,aW this.2 f.size⟩
  ·split at h
   ·rename_i a;subst a;exact P
   ·exact⟨(e.low b h).1,aW (e.low b h).2 f.size⟩
 have t:∀{t:Int},t≠ -5->∀b,d.ow b=t->¬d.ow b=-5:=λU b g a=>U (g.symm.trans a);have n:∀q∈s.ps,q.1≠s.last+1:=λq j=>by have:=(A q j).2;omega
 have T:∀q∈d.l,q.1≠s.last+1:=λq j=>by
  have L:q.1∈s.ps.map (·.1):=by rw[<-z];exact cm.2 ⟨q,j,rfl⟩
  obtain⟨v,u,g⟩:=cm.1 L;rw[<-g];exact n v u
 obtain⟨y1,y2,X⟩:=e.wyK f (t (by decide)) i (q:=AV p {s with last:=s.last+1} {d with po:=some c}) rfl (qS o).1;obtain⟨I,J⟩:=e.evK f (t (by decide)) i;refine⟨r,o,(i p.b (by rw[e.own];decide)).trans e.own,⟨e.pgK f (t (by decide)) i,e.pg.2⟩,ak ⟨c,rfl,(if_neg O).trans (if_pos rfl),R,N⟩,⟨by simp[z],?_,λq j=>?_,by show 0<=s.last+1;omega,by show s.last+1<=90;omega,by simp;omega⟩,λk b q=>?_,⟨y1,y2,e.wy.2.2.1,e.wy.2.2.2.1,X⟩,e.bdK f (t (by decide)) i rfl (qS o).2,I,e.evt.1,J⟩
 ·simp only[gQ,aV,cC];refine fH.2 ⟨K,by simp,λx V ad W=>?_⟩;obtain⟨v,u,rfl⟩:=cm.1 V;rw[dx.1 W];exact n v u
 ·show 1<=q.1/\q.1<=s.last+1;rcases cY.1 j with a|a
  ·have:=A q a;omega
  ·rw[dx.1 a];show 1<=s.last+1/\s.last+1<=s.last+1;omega
 ·have q:df (d.l++ [(s.last+1,m)]) k=some b:=q;unfold df at q;rw[pf _ _ _ _ T]at q;by_cases g:k=s.last+1
  ·subst g;rw[if_pos rfl]at q;obtain rfl:m=b:=by simpa using q
   refine⟨nm,cs,[],?_,(C.kept (S:=λq=>d.ow q=-5) ⟨f.os,f.tape,f.output,f.size,f.block⟩ λb a=>by rw[B b a];decide).mono (λb a=>if_pos a) (av _) λb a=>r b (by have a:Pk d M c (s.last+1) b=s.last+1:=a;rw[a];omega),aM _⟩;unfold Sy.get;simp only;rw[pf _ _ _ _ n,if_pos rfl];rfl
  ·rw[if_neg g]at q;have D:df d.l k=some b:=q;have:=(e.key D).1;obtain⟨E,F,G,y,H⟩:=e.psK f (av _) (t (by omega)) i r D;refine⟨E,F,G,?_,H⟩;unfold Sy.get at y ⊢;simp only;rw[pf _ _ _ _ n,if_neg g];exact y
open Classical in
theorem bz.add(n:bz p s d w)(a:Int){y:Nat}{nm:ap}{cs:Tc}{M:aO}(H:P1 p.lo y nm p.room cs [] (d.k+201) M w)(V:∀q,M q->d.ow q=0)(aU:s.ps.length<12/\s.last<90)(aa:d.k<=47000)(bc:d.es.length<=99000):ao 43 #[aH p.b,ab a,aH y] w λe w'=>e=.returned (.tuple #[])/\Hid (∃B,bz p (s.add a nm cs) B w'/\OU M 1 d B w w'):=by
 obtain⟨aT,ah⟩:=n.lo;have L:=n.box;obtain⟨a7,a8,a9,ay⟩:=n.cells;obtain⟨_,_,aC,ba,bb,_⟩:=n.keys;have Z:∀{h:ag}{cs:Array ar}{o:Nat},h.heap[p.b]?=some (.cells cs 74)->h.frozen? ⟨p.b,o,none⟩=false:=λe=>by simp[World.frozen?,e]
 obtain⟨c,m,aV,I,aE,aM,N,aG,O,af⟩:∃c m,((d.po=none/\c=w.heap.size/\m=(w.setCell ⟨p.b,3,none⟩ (.map (some c))).alloc (.map #[] 0))\/(d.po=some c/\m=w))/\m.heap[p.b]?=some (.cells (ez p s {d with po:=some c}) 74)/\IM m c d.l/\bB (λq=>d.ow q=-5) w m/\(c<w.heap.size->d.ow c=-5)/\¬M c/\c≠p.b/\p.lo<=c/\c<m.heap.size:=by
  rcases n.pm with⟨z,t⟩|⟨c,z,t,G,aB⟩
  ·have aK:(w.setCell ⟨p.b,3,none⟩ (.map (some w.heap.size))).heap[p.b]?=some (.cells (ez p s {d with po:=some w.heap.size}) 74):=by
     simp[World.setCell,bQ,L,ez]
   have Q:(w.setCell ⟨p.b,3,none⟩ (.map (some w.heap.size))).heap.size=w.heap.size:=by simp[World.setCell]
   have aa:bB (λq=>d.ow q=-5) w ((w.setCell ⟨p.b,3,none⟩ (.map (some w.heap.size))).alloc (.map #[] 0)):=((bK w p.b 3 _).mono λq _ e=>by rw[e];exact n.own).trans (aR (aS _ _) λ_=>False) λ_ _ e=>e.elim;refine⟨w.heap.size,_,aj ⟨z,rfl,rfl⟩,(heap_alloc_old _ _ (by rw[Q];exact ah)).trans aK,?_,aa,λg=>by omega,λg=>?_,by omega,aT,?_⟩
   ·rw[t];have:=xh.new (f:=AU) (w.setCell ⟨p.b,3,none⟩ (.map (some w.heap.size)));rw[Q]at this;exact this
   ·have:=(P1.lie2 H _ g).2;omega
   ·have:=aD (w.setCell ⟨p.b,3,none⟩ (.map (some w.heap.size))) (.map #[] 0);rw[Q]at this;exact(aI.1 this).1
  ·refine⟨c,w,ak ⟨z,rfl⟩,?_,aB,bB.refl _ _,λ_=>t,λg=>?_,G,n.low c (by rw[t];decide)⟩
   ·rw[L];unfold ez;rw[z]
   ·have:=V c g;rw[t]at this;cases this
 obtain⟨x,E⟩:∃x,x=m.setCell ⟨p.b,2,none⟩ (ab (s.last+1)):=⟨_,rfl⟩;have J:x.heap[p.b]?=some (.cells (ez p {s with last:=s.last+1} {d with po:=some c}) 74):=by
  rw[E];simp[World.setCell,bQ,I,ez]
 have bf:x.heap.size=m.heap.size:=by rw[E];simp[World.setCell]
 have ad:bB (λq=>q=p.b) m x:=by rw[E];exact bK m p.b 2 _
 have aN:bB (λq=>d.ow q=-5) w x:=aM.trans ad λq _ e=>by rw[e];exact n.own
 have aF:IM x c d.l:=aE.kept (ad.block c af.2 O);obtain⟨A,D⟩:∃A:Sy,A={s with last:=s.last+1,ps:=s.ps++ [(s.last+1,nm,cs,[])]}:=⟨_,rfl⟩;obtain⟨d3,u⟩:∃d3:gz,d3={d with ow:=Pk d M c (s.last+1),po:=some c,l:=d.l++ [(s.last+1,y)]}:=⟨_,rfl⟩;have P:df d.l (s.last+1)=none:=by
  cases e:df d.l (s.last+1)with
  | none=>rfl
  | some b=>have:=(n.key e).2;omega
 have aL:df d3.l (s.last+1)=some y:=by
  rw[u];show df (d.l++ [(s.last+1,y)]) (s.last+1)=_;unfold df at P ⊢;rw[List.find?_append,Option.map_eq_none_iff.1 P];simp
 have aQ:A.last=s.last+1:=by rw[D]
 refine IS p.b y c d.po a s.last (s.last+1) w m x (λy0 y1 y2 ya yl yc h=>∃i:Tc,(i.1=(y0,y1,y2)/\i.2.1=(ya,yc)/\i.2.2.length=yl)/\In h.heap.size h 13 i/\bG 13 i=0/\cn 13 i=cs/\bz p A d3 h/\bB (λq=>d.ow q=-5) w h) (λh=>bz p A d3 h/\bB (λq=>d.ow q=-5) w h) (λw'=>∃B,bz p (s.add a nm cs) B w'/\OU M 1 d B w w') (by rw[IntKind.wrap];simp[IntKind.bits,IntKind.signed];omega) ah ⟨ay,Z L⟩ aV ⟨ai I 2,Z I⟩ E (λh j=>?_) (λh j=>?_) (λh ax C j=>?_) (λh ax C j=>?_) (λy0 y1 y2 ya yl yc h aJ=>?_)
 ·have X:=dp j J;exact⟨ai X 2,ai X 3⟩
 ·obtain⟨S,a1,a2,an,bh⟩:=(xh.put (aF.kept (j.block c (by omega))) underlying67 P y);have K:S.heap[p.b]?=_:=(an.block p.b (aW (aI.1 J).1 j.size) O.symm).trans (dp j J);have ae:bB (λq=>d.ow q=-5) w S:=by
   have aP:bB (λq=>d.ow q=-5) w h:=aN.trans (aR j λ_=>False) λ_ _ e=>e.elim;exact aP.trans an λq r e=>by rw[e]at r ⊢;exact N r
  refine⟨S,a1,⟨ai K 2,ai K 3⟩,?_,ae⟩;rw[D,u];exact n.addG H V aU ae (λg=>N (n.low _ g).2) aG ⟨af.1,by have:=j.size;omega⟩ O K a2
 ·have:=(C.1.later j).cells.2.2.1;rw[aQ]at this;exact this
 ·have W:=C.1.later j;obtain⟨a0,aA,az,v,R,bg⟩:=W.ps _ _ aL;have e:A.get (s.last+1)=some (nm,cs,[]):=by
   rw[D];unfold Sy.get;simp only;rw[pf _ _ _ _ λq r=>by have:=(aC q r).2;omega,if_pos rfl];rfl
  rw[e]at v;obtain⟨rfl,rfl,rfl⟩:nm=a0/\cs=aA/\[]=az:=by
   injection v with v;injection v with z t;injection t with t G;exact⟨z,t,G⟩
  have be:d3.k=d.k:=by rw[u]
  refine(R.state (by omega)).mono ?_;rintro e w' ⟨i,rfl,F⟩;obtain⟨y1,y2,bi,a5,a6⟩:=F.out;exact⟨i.1.1,i.1.2.1,i.1.2.2,i.2.1.1,i.2.2.length,i.2.1.2,rfl,y1,i,⟨rfl,rfl,rfl⟩,y2,a5,a6,W.later y1,(C.2.trans (aR j λ_=>False) λ_ _ e=>e.elim).trans (aR y1 λ_=>False) λ_ _ e=>e.elim⟩
 ·obtain⟨i,⟨f1,f2,f3⟩,aX,aY,aZ,al,am⟩:=aJ;obtain⟨⟨bj,bk,bl⟩,⟨bm,bn⟩,bo⟩:=i;simp only[eC]at f1 f2;obtain⟨rfl,rfl,rfl⟩:=f1;obtain⟨rfl,rfl⟩:=f2;subst f3;have Y:d3.es=d.es:=by rw[u]
  refine(al.tell zP a (s.last+1) _ _ _ _ _ _ _ (kJ aX aY) (by rw[Y];omega)).mono ?_;rintro e w' ⟨rfl,F⟩;obtain⟨d4,v,R⟩:=F.up al;rw[aZ,D]at v;refine⟨rfl,⟨d4,v,?_⟩,?_⟩
  ·obtain⟨a3,aq,a4,au,av,aw⟩:=R;have T:∀q,q<w.heap.size->¬M q->d3.ow q=d.ow q:=λq r g=>by
    rw[u];refine(if_neg g).trans ?_;by_cases e:q=c
    ·rw[if_pos e,e];exact(N (e▸r)).symm
    ·exact if_neg e
   have U:∀q,M q->d3.ow q=s.last+1:=λq g=>by
    rw[u];exact if_pos g
   have bd:=am.size;refine⟨(am.mono λq _ e=>by rw[e];decide).trans a3 λq r e=>?_,λq r g=>(aq q (by omega)).trans (T q r g),λq g=>?_,by rw[a4,u],by rw[Y]at au;exact au,by rw[u]at av;exact av,by rw[u]at aw;exact aw⟩
   ·by_cases g:M q
    ·rw[U q g]at e;omega
    ·rw[T q r g]at e;exact e
   ·have:=(P1.lie2 H q g).2;rw[aq q (by omega),U q g];omega
  ·have:=v.cells.2.2.1;exact this
end
theorem EY(c:Nat)(nm:ap)(f g:Int)(h:ap)(xa:au)(i xc:Nat)(room ne t:Int)(may o:Bool)(w:ag)(C:Nat->ag->Prop)(R:Int->Int->ag->Prop)(ak:c<w.heap.size)(T:Hid (ah w c 1 (ab room)))(J:Hid (∀W,am w W->ao 40 #[aH c,ab 1] W λe w'=>e=.returned (.bool may)/\w'=W))(z:Hid (∀W,am w W->ao 41 #[aH c,af nm] W λe w'=>e=.returned (.bool o)/\am W w'))(r:Hid (∀W,am w W->ao 42 #[af nm,.agg #[ab f,ab g,af h,ae xa i xc],ab room] W λe w'=>∃p:au,e=.returned (.tuple #[.pointer p,ab ne])/\Hid (am W w'/\(ne=0->∃b,p=some ⟨b,0,none⟩/\C b w'))))(l:Hid (∀b W,(may && o)=true->ne=0->C b W->ao 43 #[aH c,ab 0,aH b] W λe w'=>e=.returned (.tuple #[])/\Hid (R t 0 w'/\ah w' c 2 (ab t))))(j:Hid (∀W,am w W->(may=false->R 0 2 W)/\((may && !o)=true->R 0 4 W)/\((may && o)=true->ne≠0->R 0 ne W))):ao 20 #[aH c,af nm,.agg #[ab f,ab g,af h,ae xa i xc]] w λe w'=>∃v Q,e=.returned (.tuple #[ab v,ab Q])/\Hid (R v Q w'):=by
 go_enter func20,ntmps20;go_upto_region 1 with fail;generalize O:w.alloc _=G;have u:Hid (am w G/\G.heap[w.heap.size]?=some (.cells #[ab f,ab g,af h,ae xa i xc] 31)):=by
  rw[<-O];exact⟨aS _ _,aD _ _⟩
 clear O;obtain⟨a,E⟩:∃a,a=w.heap.size:=⟨_,rfl⟩;rw[<-E];have K:Hid (G.heap[a]?=some (.cells #[ab f,ab g,af h,ae xa i xc] 31)):=by rw[E];exact u.2
 have HB:=aq u.1;clear E u;go_wp2_with fail;refine(J _ HB).mono ?_;rintro e av ⟨rfl,P⟩;obtain rfl:=P.symm;clear P J;cases may
 ·have d:=aq ((j _ HB).1 rfl);clear l j r z;go_wp2_with fail;exact ay (v:=.tuple #[ab 0,ab 2]) (by simp[results,results20,go_sem]) rfl ⟨0,2,rfl,d⟩
 go_wp2_with fail;refine(z _ HB).mono ?_;rintro e H ⟨rfl,D⟩;have m:=aq (HB.trans (D.mono HB.size));have A:=aq (dp D K);clear z K HB D;cases o
 ·have d:=aq ((j _ m).2.1 rfl);clear l j r;go_wp2_with fail;exact ay (v:=.tuple #[ab 0,ab 4]) (by simp[results,results20,go_sem]) rfl ⟨0,4,rfl,d⟩
 have y:Hid (am H H.drew):=(aA _ _).drew;have n:=aq (m.trans (y.mono m.size));have B:=aq (dp y A);have q:Hid (∀W:ag,am w W->W.heap[a]?=some (.cells #[ab f,ab g,af h,ae xa i xc] 31)->ah W c 1 (ab room)/\ah W a 0 (ab f)/\ah W a 1 (ab g)/\ah W a 2 (af h)/\ah W a 3 (ae xa i xc)):=λW aj s=>⟨(aj.cell (p:=⟨c,1,none⟩) ak).trans T,ai s 0,ai s 1,ai s 2,ai s 3⟩;obtain⟨Z,V,X,N,Y⟩:=q.out H m A;go_upto_region 5 with fail
 go_region_held3 (λW=>ah W c 1 (ab room)/\ah W a 0 (ab f)/\ah W a 1 (ab g)/\ah W a 2 (af h)/\ah W a 3 (ae xa i xc))
  (first|exact q _ n B|exact q _ x L) ((first
   | (go_at_call 42;refine(r _ n).mono ?_;rintro e an ⟨al,rfl,k⟩;have L:=aq (dp k.1 B);have x:=aq (n.trans (k.1.mono n.size)))))
 have d:=aq (j _ x);clear Z V X N Y q B n y A m j r L x;by_cases F:ne=0
 ·subst F;obtain⟨b,rfl,M⟩:∃b,al=some ⟨b,0,none⟩/\Hid (C b an):=by
   obtain⟨b,aa,ad⟩:=k.out.2 rfl;exact⟨b,aa,ad⟩
  have S:=aq (l _ _ rfl rfl M);clear l M k d;go_wp2_with fail;refine S.mono ?_;rintro e aw ⟨rfl,I⟩;have N:=I.2;go_wp2_with fail;exact ay (v:=.tuple #[ab t,ab 0]) (by simp[results,results20,go_sem]) rfl ⟨t,0,rfl,I.1⟩
 ·have U:=aq (d.2.2 rfl F);have ar:(ne==0)=false:=by simpa using F
  clear l k d;go_wp2_with fail;exact ay (v:=.tuple #[ab 0,ab ne]) (by simp[results,results20,go_sem]) rfl ⟨0,ne,rfl,U⟩
section
variable {p:lB} {s:Sy} {d:gz} {w:ag}
theorem KY{n:Nat}(a:s.may n=true):s.ps.length+n<=12/\s.last+n<=90:=by
 unfold Sy.may at a;simp only[aK,cr]at a;omega
theorem bz.start(j:bz p s d w)(nm:ap)(O:nm.size<=9223372036854775807){m:Nat}(x:Tm (m+1))(P:In w.heap.size w (m+1) x)(K:(aC (m+1) x).length<=2097152)(M:d.k<=47000)(J:d.es.length<=99000):ao 20 #[aH p.b,af nm,dB (m+1) x] w λe w'=>∃v r,e=.returned (.tuple #[ab v,ab r])/\Hid ((r=(s.start p.n p.prog p.room nm (m+1) x).2/\(r=0->v=s.last+1))/\∃i,bz p (s.start p.n p.prog p.room nm (m+1) x).1 i w'/\gB 1 0 d i w w'):=by
 obtain⟨q,f⟩:∃q,q=s.start p.n p.prog p.room nm (m+1) x:=⟨_,rfl⟩;rw[<-f];unfold Sy.start at f;have B:∀a,am w a->q.1=s->∃i,bz p q.1 i a/\gB 1 0 d i w a:=λa c e=>⟨d,by rw[e];exact j.later c,(eu.later d c).un.mono (aM _) (av _)⟩;refine EY p.b nm x.1.1 x.1.2.1 x.1.2.2 x.2.1.1 x.2.2.length x.2.1.2 p.room (gw (m+1) x p.room nm) (s.last+1) (s.may 1) (lL p.n p.prog nm) w (λy a=>∃u,am w u/\am u a/\P1 p.lo y nm p.room (cn (m+1) x) [] (d.k+201) (λb=>u.heap.size<=b/\b<a.heap.size) a) (λv r w'=>(r=q.2/\(r=0->v=s.last+1))/\∃i,bz p q.1 i w'/\gB 1 0 d i w w') j.lo.2 j.cells.2.1 (λa c=>(j.later c).mayHave 1 (by decide)) (λa c=>(j.later c).knows nm) (λa c=>?_) (λy a l t L=>?_) λa c=>⟨λe=>?_,λe=>?_,λe t=>?_⟩
 ·refine(P1.new m x p.room nm a O ((P.below c).mono c.size) K).mono ?_;rintro e w' ⟨g,rfl,z⟩;obtain⟨o,E,C⟩:=z.out;refine⟨g,rfl,o,λe=>?_⟩;obtain⟨y,l,t,V,G⟩:=C e;have:=j.lo.1;have:=c.size;exact⟨y,l,a,c,o,G.mono (λb h=>h) (by omega) λb h=>⟨by omega,h.2⟩⟩
 ·simp only[aK]at l;rw[if_neg (by rw[l.1];decide),if_neg (by rw[l.2];decide),if_neg (by rw[t];decide)]at f;obtain⟨u,o,E,C⟩:=L;have A:=o.trans (E.mono o.size);have I:=j.later A;have Z:=o.size;have W:=KY l.1;refine(I.add 0 C (λg h=>?_) (by omega) M J).mono ?_
  ·have:=j.low g;by_cases F:d.ow g=0
   ·exact F
   ·have:=(this F).2;omega
  ·rintro e w' ⟨rfl,z⟩;obtain⟨i,D,H⟩:=z;refine⟨rfl,⟨⟨by rw[f],λ_=>rfl⟩,i,by rw[f];exact D,?_⟩,D.cells.2.2.1⟩;obtain⟨Q,R,aa,S,U⟩:=H;have N:bB (λg=>d.ow g≠0) w a:=aR A _;have Y:=A.size;exact⟨N.trans (Q.mono (T:=λg=>d.ow g≠0) λg _ e=>by omega) λg _ e=>e,λg X=>R g (by omega) λh=>by omega,dO S,U⟩
 ·rw[if_pos e]at f;exact⟨⟨by rw[f],(λh=>by cases h)⟩,B a c (by rw[f])⟩
 ·simp only[aK,kU]at e;rw[if_neg (by rw[e.1];decide),if_pos e.2]at f;exact⟨⟨by rw[f],(λh=>by cases h)⟩,B a c (by rw[f])⟩
 ·simp only[aK]at e;rw[if_neg (by rw[e.1];decide),if_neg (by rw[e.2];decide),if_pos t]at f;exact⟨⟨by rw[f],λh=>absurd h t⟩,B a c (by rw[f])⟩
end
theorem Pd:(Tryz.prog.info? 65).map (λi=>(i.zero,i.size,i.bytes))=some (some (.pointer none),1,8):=by kernel_rfl
theorem Ia(m:Nat)(pa:au)(pl pc:Nat)(may:Bool)(room:Int)(w:ag)(az u x:Nat->Int)(nm y:Nat->ap)(xa:Nat->au)(z xc:Nat->Nat)(l:Nat->Bool)(ne:Nat->Int)(r:Nat->List Nat->ar->ag->Prop)(N:Nat->Nat->List Nat->ar->ag->Prop)(R:ar->Bool->ag->Prop)(bK:pl<=1000)(bE:m<w.heap.size)(aV:Hid (ah w m 1 (ab room)))(V:Hid (∀j,j<pl->∃g,pa=some ⟨g,0,none⟩/\g<w.heap.size/\Hid (ah w g (j*6) (ab (az j))/\ah w g (j*6+1) (af (nm j))/\ah w g (j*6+2) (ab (u j))/\ah w g (j*6+3) (ab (x j))/\ah w g (j*6+4) (af (y j))/\ah w g (j*6+5) (ae (xa j) (z j) (xc j)))))(aY:Hid (ao 40 #[aH m,ab pl] w λe w'=>e=.returned (.bool may)/\w'=w))(Y:Hid (∀j W,j<pl->am w W->ao 41 #[aH m,af (nm j)] W λe w'=>e=.returned (.bool (l j))/\am W w'))(Z:Hid (∀j d v W,j<pl->l j=true->am w W->r j d v W->ao 42 #[af (nm j),.agg #[ab (u j),ab (x j),af (y j),ae (xa j) (z j) (xc j)],ab room] W λe w'=>∃p:au,e=.returned (.tuple #[.pointer p,ab (ne j)])/\Hid (am W w'/\(ne j=0->∃k,p=some ⟨k,0,none⟩/\N j k d v w'))))(an:Hid (r 0 [] (ae none 0 0) w))(q:Hid (∀j d v W D,r j d v W->am W D->r j d v D))(M:Hid (∀j k d a c g br W aK D,j<pl->N j k d (ae a j c) W->am W aK->aK.grownBy D (Value.slice a j c).ownBlock->((Value.slice a j c).ownBlock=some g\/g=aK.heap.size)->g<D.heap.size->r (j+1) (d++ [k]) (ae (some ⟨g,0,none⟩) (j+1) br) D))(K:Hid (∀W,am w W->(may=false\/∃j,j<pl/\(l j=false\/ne j≠0))->R (ae none 0 0) false W))(ad:Hid (∀W d a c,am w W->may=true->(∀j,j<pl->l j=true/\ne j=0)->d.length=pl->W.ownsRow w.heap.size 65 1 (ae a pl c) pl (d.map AU)->r pl d (ae a pl c) W->R (ae a pl c) true W)):ao 47 #[aH m,ae pa pl pc] w λe w'=>∃v b,e=.returned (.tuple #[v,.bool b])/\Hid (R v b w'):=by
 obtain⟨bF,bd,bg,bh,bi⟩:=bU Pd;have X:=aq (⟨bd,bg,bh,bi⟩:_/\_/\_/\_);clear bd bg bh bi;go_enter func47,ntmps47;go_wp2_with fail;refine aY.mono ?_;rintro e bO ⟨rfl,bj⟩;obtain rfl:=bj.symm;clear bj aY;cases may
 ·have n:=aq (K _ (aA _ _) (aj rfl));clear K ad M an q Z Y V;go_wp2_with fail;exact ay (v:=.tuple #[ae none 0 0,.bool false]) (by simp[results,results47,go_sem]) rfl ⟨_,_,rfl,n⟩
 go_wp2_with fail;go_loopw [6,18] (λo i wr=>∃(j:Nat)(a:au)(c:Nat),j<=pl/\i=ab j/\o=ae a j c/\Hid (∃d,d.length=j/\wr.ownsRow w.heap.size 65 1 (ae a j c) j (d.map AU)/\r j d (ae a j c) wr/\am w wr/\∀i,i<j->l i=true/\ne i=0)) (λ_ i _=>pl-(intOf i).toNat)
 case atStart=>exact⟨0,none,0,aM _,rfl,rfl,[],rfl,eU _ _ _ _,an,aA _ _,λi h=>by omega⟩
 case round=>
 obtain⟨j,a,c,bJ,rfl,rfl,aa⟩:=hrel;by_cases Q:j<pl
 ·obtain⟨g,rfl,bD,aW⟩:=V.out j Q;obtain⟨d,P,S,U,E,T⟩:=aa.out;have a3:=aq S;have a7:=aq U;have HB:=aq E;have a2:=aq T;have bC:=aq P;have s:∀{f:Nat}{v:ar},ah w g f v->ah wr g f v:=λ{f v} h=>(E.cell (p:=⟨g,f,none⟩) bD).trans h;obtain⟨a8,aw,ax,a9,ba,bb⟩:=aW.out;have f0:=s a8;have f1:=s aw;have f2:=s ax;have f3:=s a9;have f4:=s ba;have f5:=s bb;have bM:(0:Int)<=(j:Int):=by omega
  have bN:(j:Int)<(pl:Int):=by omega
  clear s a8 aw ax a9 ba bb aW V S U E T P aa;go_upto_region 7 with fail;generalize bk:wr.alloc _=aB;have F:Hid (am wr aB/\aB.heap[wr.heap.size]?=some (.cells #[ab (az j),af (nm j),ab (u j),ab (x j),af (y j),ae (xa j) (z j) (xc j)] 174)):=by
   rw[<-bk];exact⟨aS _ _,aD _ _⟩
  clear bk f0 f1 f2 f3 f4 f5;obtain⟨f,aP⟩:∃f,f=wr.heap.size:=⟨_,rfl⟩;rw[<-aP];have aG:Hid (aB.heap[f]?=some (.cells #[ab (az j),af (nm j),ab (u j),ab (x j),af (y j),ae (xa j) (z j) (xc j)] 174)):=by rw[aP];exact F.2
  have G:=aq (HB.trans (F.1.mono HB.size));have a5:=aq (q _ _ _ _ _ a7 F.1);have aZ:=aq (bw a3 (aR F.1 λ_=>False) λ_ _ h=>h);clear aP F a3 a7 HB;have C:Hid (∀W:ag,am w W->W.heap[f]?=some (.cells #[ab (az j),af (nm j),ab (u j),ab (x j),af (y j),ae (xa j) (z j) (xc j)] 174)->ah W m 1 (ab room)/\ah W f 1 (af (nm j))/\ah W f 2 (ab (u j))/\ah W f 3 (ab (x j))/\ah W f 4 (af (y j))/\ah W f 5 (ae (xa j) (z j) (xc j))):=λW aN h=>⟨(aN.cell (p:=⟨m,1,none⟩) bE).trans aV,ai h 1,ai h 2,ai h 3,ai h 4,ai h 5⟩;have aL:=(C aB G aG).2.1;have aX:=aq (λW=>Y j W Q);have aC:=aq (λd v W=>Z j d v W Q);have L:=aq (λW aN e=>K W aN (ak ⟨j,Q,e⟩));have aF:Hid (l j=true->ne j=0->∀i,i<j+1->l i=true/\ne i=0):=λbA bB i bI=>by
   by_cases e:i=j
   ·subst e;exact⟨bA,bB⟩
   ·exact a2 i (by omega)
  clear Y Z K ad aV a2 an;generalize l j=bG at*;generalize ne j=bl at*;go_wp2_with fail;refine(aX _ G).mono ?_;rintro e aT ⟨rfl,O⟩;have B:=aq (G.trans (O.mono G.size));have al:=aq (dp O aG);have aJ:=aq (q _ _ _ _ _ a5 O);have aE:=aq (bw aZ (aR O λ_=>False) λ_ _ h=>h);clear aX G aG a5 aZ O aL;cases bG
  ·have n:=aq (L _ B (aj rfl));clear L aC C aJ aE al B M q aF;go_wp2_with fail;exact ay (v:=.tuple #[ae none 0 0,.bool false]) (by simp[results,results47,go_sem]) rfl ⟨_,_,rfl,n⟩
  have J:Hid (am aT aT.drew):=(aA _ _).drew;have I:=aq (B.trans (J.mono B.size));have aI:=aq (dp J al);have a6:=aq (q _ _ _ _ _ aJ J);have a1:=aq (bw aE (aR J λ_=>False) λ_ _ h=>h);obtain⟨bx,aL,bs,bu,bv,av⟩:=C.out aT B al;clear aE aJ;go_upto_region 9 with fail
  go_region_held3 (λW=>ah W m 1 (ab room)/\ah W f 1 (af (nm j))/\ah W f 2 (ab (u j))/\ah W f 3 (ab (x j))/\ah W f 4 (af (y j))/\ah W f 5 (ae (xa j) (z j) (xc j)))
   (first|exact C _ I aI|exact C _ H a4) ((first
    | (go_at_call 42;refine(aC _ _ _ (by first|rfl|trivial) I a6).mono ?_;rintro e aU ⟨bH,rfl,A⟩;have a4:=aq (dp A.1 aI);have H:=aq (I.trans (A.1.mono I.size));have a0:=aq (bw a1 (aR A.1 λ_=>False) λ_ _ h=>h))))
  clear bx aL bs bu bv av C aI I J al B aC a4 a6 a1;by_cases aQ:bl=0
  ·subst aQ;obtain⟨k,rfl,bp⟩:∃k,bH=some ⟨k,0,none⟩/\Hid (N j k d (ae a j c) aU):=by
    obtain⟨k,aw,ax⟩:=A.out.2 rfl;exact⟨k,aw,ax⟩
   have bo:=aq H.size;clear L A
   go_wp2_with (first
    | (at_builtin;refine wpList_append_lies _ rfl _ _ 121 rfl w.heap.size 65 bF _ 1 8 underlying121 X.1 X.2.1 X.2.2.1 X.2.2.2 rfl (by decide) (ae a j c) j (d.map AU) rfl (a0.alloc _) ⟨aU.heap.size,0,none⟩ 1 1 [aH k] rfl rfl (World.news_of_block (cs:= #[aH k]) (t:=65) (fr:=(0,0)) (aD aU _)) (by simp[Value.oneCell']) (by decide) (by unfold maxLen;omega) (by omega) (by have:=bo.out;simp;omega) _ rfl ?_;intro bz av bP bf aO bc be;have bn:=aq bf;have bq:=aq (M _ _ _ _ _ _ av _ _ _ Q bp (aS _ _) aO bc be);have bm:=aq (H.trans (kv a0 aO H.size));clear bf aO bc be))
   go_roundw
   case rel=>exact⟨j+1,some ⟨bz,0,none⟩,av,by omega,by go_num,rfl,d++ [k],by rw[bt,bC.out];rfl,by rw[gQ];exact bn,bq,bm,aF trivial rfl⟩
   case measure=>simp[intOf];omega
  ·have n:=aq (L _ H (ak aQ));have bL:(bl==0)=false:=by simpa using aQ
   clear L A M q aF;go_wp2_with fail;exact ay (v:=.tuple #[ae none 0 0,.bool false]) (by simp[results,results47,go_sem]) rfl ⟨_,_,rfl,n⟩
 ·obtain rfl:j=pl:=by omega
  obtain⟨d,P,S,U,E,T⟩:=aa.out;have n:=aq (ad _ d _ _ E trivial T P S U);clear K ad M an q Z Y V aa P S U E T;go_wp2_with fail;exact ay (v:=.tuple #[ae a j c,.bool true]) (by simp[results,results47,go_sem]) rfl ⟨_,_,rfl,n⟩
def AW(K:Nat)(b:List (Int×Tc))(c:List (Int×ap×Tc))(a:List Int):Prop:=(b.length<=K/\c.length<=K/\a.length<=K)/\(∀x∈b,dI x.1)/\∀x∈a,dI x
theorem Gc{b:List Tc}{self:Int}{n:Nat}{x:Tm n}{h:Int}(a:nS b self n x=some h):dI h:=by
 unfold nS tp at a;cases f:vl 13 b self n x with
 | none=>rw[f]at a;cases a
 | some e=>
  rw[f,dP]at a;by_cases d:bG (13+n) e=0
  ·rw[if_pos d,dP]at a;by_cases c:(cn (13+n) e).1.1=3
   ·rw[if_pos c]at a;obtain rfl:=az a;have i:aJ ⟨13,cn (13+n) e⟩:=aU.2 (bJ.1 (nK d)).1;have g:=i _ (nv);simp only[cN,c]at g;simp[rh]at g;unfold dI;omega
   ·rw[if_neg c]at a;cases a
  ·rw[if_neg d]at a;cases a
theorem O7{self:Int}{n K:Nat}{a:Ac (n+1)}{d e:Dg}(b:rK self a d=some e)(j:AW K d.sends d.spawns d.links):AW (K+1) e.sends e.spawns e.links:=by
 unfold rK at b;obtain⟨⟨m,o,p⟩,f,g⟩:=j;split at b
 ·obtain⟨l,h,b⟩:=bF.1 b;obtain⟨t,k,rfl⟩:=cD.1 b;refine⟨⟨by simp;omega,by simp;omega,by simp;omega⟩,λx i=>?_,g⟩;rcases cY.1 i with c|c
  ·exact f x c
  ·rw[dx.1 c];exact Gc h
 ·split at b
  ·obtain⟨t,k,b⟩:=bF.1 b;split at b
   ·obtain rfl:=az b;exact⟨⟨by simp;omega,by simp;omega,by simp;omega⟩,f,g⟩
   ·cases b
  ·split at b
   ·obtain⟨l,h,rfl⟩:=cD.1 b;refine⟨⟨by simp;omega,by simp;omega,by simp;omega⟩,f,λx i=>?_⟩;rcases cY.1 i with c|c
    ·exact g x c
    ·rw[dx.1 c];exact Gc h
   ·obtain rfl:=az b;exact⟨⟨by simp;omega,by simp;omega,by simp;omega⟩,f,g⟩
theorem Km{self:Int}{n:Nat}:(l:List (Ac (n+1)))->{K:Nat}->{d b:Dg}->qA self l d=some b->AW K d.sends d.spawns d.links->AW (K+l.length) b.sends b.spawns b.links
 | [],K,d,b,c,hk=>by
  obtain rfl:=az c;exact hk
 | a::l,K,d,b,c,hk=>by
  unfold qA at c;obtain⟨e,f,c⟩:=bF.1 c;have:=Km l c (O7 f hk);rw[bu,show K+(l.length+1)=K+1+l.length by omega];exact this
theorem clsC_mem{n:Nat}{s m:Tc}:(l:List (Cl (n+1)))->{y:Cl (n+1)×List Tc}->mO s m l=some y->y.1∈l
 | [],y,h=>by simp[mO]at h
 | c::l,y,h=>by
  unfold mO at h;cases e:lT c s m with
  | none=>
   rw[e]at h;exact bT _ (clsC_mem l h)
  | some b=>
   rw[e]at h;obtain rfl:=az h;exact nv
theorem FD{n:Nat}{l:List (Cl (n+1))}{s:Tc}:(ms:List Tc)->(i:Nat)->{x:Nat×Cl (n+1)×List Tc}->sP l s ms i=some x->x.2.1∈l
 | [],i,x,h=>by simp[sP]at h
 | m::ms,i,x,h=>by
  unfold sP at h;cases e:mO s m l with
  | none=>
   rw[e]at h;exact FD ms (i+1) h
  | some y=>
   rw[e]at h;obtain rfl:=az h;exact clsC_mem l e
theorem rC{n:Nat}{name:ap}:(l:List (Bh n))->{b:Bh n}->gD n name l=some b->b∈l/\b.1=name
 | [],b,h=>by simp[gD]at h
 | c::l,b,h=>by
  unfold gD at h;split at h
  ·rename_i e;obtain rfl:=az h;exact⟨nv,e⟩
  ·exact⟨bT _ (rC l h).1,(rC l h).2⟩
theorem Ee{n:Nat}{prog:List (Bh (n+1))}(c:kO (n+1) prog=true){nm:ap}(d:lL n prog nm=true):nm.size<=2048:=by
 obtain⟨b,g⟩:=gm.1 d;obtain⟨e,f⟩:=rC prog g;unfold kO at c;simp only[aK,cG]at c;have a:=c.2 b e;unfold xi at a;simp only[aK]at a;rw[<-f];exact yj a.1.1.1
theorem LP{n:Nat}{room:Int}{l:List (Bh (n+1))}(i:kO (n+1) l=true){name:ap}{self next:Int}{s:Tc}{ms:List Tc}{e:Tk}(d:nW room l name self next s ms=some e):AW 8 e.sends e.spawns e.links:=by
 unfold nW at d;obtain⟨x,o,d⟩:=bF.1 d;obtain⟨y,r,rfl⟩:=cD.1 d;have a:=FD ms 0 o;have q:x.2.1.2.2.length<=8:=by
  unfold gH at a;cases f:gD (n+1) name l with
  | none=>rw[f]at a;simp at a
  | some b=>
   rw[f]at a;have a:x.2.1∈b.2.2:=a;unfold kO at i;simp only[aK,cG]at i;have g:=i.2 b (rC l f).1;unfold xi at g;simp only[aK,cG]at g;have j:=g.2 _ a;unfold uc at j;simp only[aK,cr]at j;omega
 have h:AW 8 [] [] []:=⟨⟨by simp,by simp,by simp⟩,by simp,by simp⟩;unfold fD;cases hd:qA self x.2.1.2.2 ⟨x.2.2,next,[],[],[],false⟩with
 | none=>exact h
 | some c=>
  have m:AW 8 c.sends c.spawns c.links:=by
   obtain⟨⟨u,v,w⟩,p⟩:=Km _ (K:=0) hd ⟨⟨by simp,by simp,by simp⟩,by simp,by simp⟩;exact⟨⟨by omega,by omega,by omega⟩,p⟩
  cases k:tp c.b self (n+1) x.2.1.1.2.2 with
  | none=>simp only[k];exact h
  | some t=>
   simp only[k];split
   ·exact m
   ·exact h
theorem wg{d:Type}(f:d->List ar)(k:Nat)(c:∀a,(f a).length=k):(l:List d)->(i:Nat)->(a:d)->l[i]?=some a->∀(t:Nat)(b:ar),(f a)[t]?=some b->(l.flatMap f)[i*k+t]?=some b
 | [],i,a,h,_,_,_=>by simp at h
 | x::l,0,a,h,t,b,hu=>by
  simp at h;subst h;rw[bM,dw (by have:=(aY.1 hu).1;omega)];simpa using hu
 | x::l,i+1,a,h,t,b,hu=>by
  rw[bM,dM (by rw[c,Nat.succ_mul];omega),c,show (i+1)*k+t-k=i*k+t by rw[Nat.succ_mul];omega];exact wg f k c l i a (by simpa using h) t b hu
theorem sf{w:ag}{base:Nat}{e:TypeId}{k:Nat}{v:ar}{n:Nat}{q:Type}{f:q->List ar}{l:List q}(m:w.ownsRow base e k v n (l.flatMap f))(A:0<k)(o:∀d,(f d).length=k):∃a c,v=ae a n c/\(∀b,a=some b->v.ownBlock=some b.block)/\∀(i:Nat)(d:q),l[i]?=some d->∃g,a=some ⟨g,0,none⟩/\g<w.heap.size/\∀(t:Nat)(j:ar),(f d)[t]?=some j->ah w g (i*k+t) j:=by
 have s:=m;rcases m.2 with⟨rfl,r⟩|⟨g,c,C,rfl,D,z,F⟩
 ·refine⟨none,0,by rw[r],(λb e=>by cases e),λi d p=>?_⟩;have u:=wg f k o l i d p 0 _ (aN (by rw[o];exact A));have E:=(aY.1 u).1;have x:=m.1;rw[r,Nat.zero_mul]at x;omega
 ·refine⟨_,c,rfl,(λb e=>by cases e;rfl),λi d p=>⟨g,rfl,(aI.1 z).1,λt j B=>?_⟩⟩;have y:=World.ownsRow.cells s (g:=g) rfl _ _ (wg f k o l i d p t j B);rwa [show∀h,(⟨g,0,none⟩:Addr).add h=⟨g,h,none⟩from λh=>by cases h<;>simp[Addr.add]]at y
def ft(n:Nat)(x:Tm (n+1)):ap:=if x.1.1=4 then match x.2.2[0]? with|some a=>if b8 ⟨n,a⟩=2 then (gF n a).1.2.2 else .empty|none=> .empty else .empty
def bV(n:Nat)(x:Tm (n+1)):List (Tm n):=if x.1.1=4 then match x.2.2[0]? with|some a=>if b8 ⟨n,a⟩=2 then x.2.2.drop 1 else []|none=> []else []
def tH(a s:ap):Bool:=a.toList==s.toList
def Fy:(n:Nat)->Tm n->List (Tm (n-1))
 | 0,_=> []
 | _+1,x=>x.2.2
def yh(n:Nat)(x:Tm n):ap:=(gF n x).1.2.2
def Aq(M n:Nat)(a b c:Tm n):Option (Ac (M+1)):=if b8 ⟨n,a⟩=2/\b8 ⟨n,c⟩=5 then some (2,(zT M,aZ (M+1) n b),(yh n a,pY n c))else none
def j0(M n:Nat)(d:ap)(q:List (Tm n)):Option (Ac (M+1)):=
 if (tH d ni && decide (q.length=2))=true then (q[0]?).bind λa=>(q[1]?).bind λb=>some (1,(aZ (M+1) n a,aZ (M+1) n b),(.empty,0))
 else if (tH d jt && decide (q.length=3))=true then (q[0]?).bind λa=>(q[1]?).bind λb=>(q[2]?).bind λc=>Aq M n a b c
 else if (tH d nh && decide (q.length=1))=true then (q[0]?).bind λa=>some (3,(aZ (M+1) n a,zT M),(.empty,0))
 else if (tH d mu && decide (q.length=0))=true then some (4,(zT M,zT M),(.empty,0))else none
def td(M:Nat):(n:Nat)->Tm n->Option (Ac (M+1))
 | 0,_=>none
 | n+1,x=>j0 M n (ft n x) (bV n x)
def te(M n:Nat)(e:ap)(q:List (Tm n)):Option (Cl (M+1)):=
 if (tH e Mx && decide (q.length=4))=true then (q[0]?).bind λa=>(q[1]?).bind λb=>(q[2]?).bind λc=>(q[3]?).bind λd=>
  if b8 ⟨n,c⟩=4 then (cV (td M (n-1)) (Fy n c)).map λl=>((aZ (M+1) n a,aZ (M+1) n b,aZ (M+1) n d),(none,0),l)else none
 else none
def Ap(M:Nat):(n:Nat)->Tm n->Option (Cl (M+1))
 | 0,_=>none
 | n+1,x=>te M n (ft n x) (bV n x)
def uj(M n:Nat)(b:ap)(q:List (Tm n)):Option (Bh (M+1)):=
 if tH b uw=true then (q[0]?).bind λa=>if b8 ⟨n,a⟩=2 then (cV (Ap M n) (q.drop 1)).map λl=>(yh n a,(none,0),l)else none
 else none
def Ao(M:Nat):(n:Nat)->Tm n->Option (Bh (M+1))
 | 0,_=>none
 | n+1,x=>uj M n (ft n x) (bV n x)
def Cu(M:Nat):(n:Nat)->Tm n->Option (List (Bh (M+1)))
 | 0,_=>none
 | n+1,x=>if tH (ft n x) om=true then cV (Ao M n) (bV n x)else none
def ru{a:Type}(f:a->List ar)(h:Nat->ag->a->Prop)(i:(Nat->Prop)->a->Prop)(S:a->a->Prop)(o:Option a)(w:ag)(e:Ending)(w':ag):Prop:=
 ∃(c:a)(d:Bool),e=.returned (.tuple #[.agg (f c).toArray,.bool d])/\Hid (am w w'/\d=o.isSome/\h w'.heap.size w' c/\i (λb=>w.heap.size<=b) c/\∀g,o=some g->S c g)
def lY{a:Type}(k:Nat)(f:a->List ar)(i:Nat->ag->a->Prop)(j:(Nat->Prop)->a->Prop)(S:a->a->Prop)(o:Option (List a))(w:ag)(e:Ending)(w':ag):Prop:=
 ∃(l:List a)(d:au)(c:Nat)(g:Bool),e=.returned (.tuple #[ae d l.length c,.bool g])/\Hid (am w w'/\g=o.isSome/\(l.length<=c/\c<=maxLen)/\qv w'.heap.size w' k f (i w'.heap.size w') d l/\ub (j (λb=>w.heap.size<=b)) (λb=>w.heap.size<=b) d l/\∀h,o=some h->fe S l h)
theorem sJ{d β:Type}(f:d->Option β)(p:List d)(k:Nat)(x:d)(h:p[k]?=some x)(l:List β)(y:β)(a:cV f (p.take k)=some l)(i:f x=some y):cV f (p.take (k+1))=some (l++ [y]):=by
 rw[dA,h];have key:∀(c:List d)(l:List β),cV f c=some l->cV f (c++ [x])=some (l++ [y]):=by
  intro c
  induction c with
  | nil=>intro l a;simp[cV]at a;subst a;simp[cV,i]
  | cons m c ih=>
   intro l a;simp only[cV]at a;obtain⟨b,e,a⟩:=bF.1 a;obtain⟨j,g,rfl⟩:=cD.1 a;simp only[eR,cV,e,ih j g];rfl
 exact key _ _ a
theorem oK{l:List ar}(b:l.all (λa=>a.oneCell')=true):∀a∈l,a.oneCell'=true:=λa c=>by
 rw[cG]at b;exact b a c
def QD{a:Type}{n:Nat}(d:Nat->ag->a->Prop)(e:(Nat->Prop)->a->Prop)(S:a->a->Prop)(f:a->List ar)(h:Nat)(T:TypeId)(g:Tm n->Option a)(p:List (Tm n))(w:ag)(k:Nat)(v:ar)(wr:ag):Prop:=
 ∃(b c:List a),b.length=k/\fy d e f h T 0 w.heap.size b v w wr/\cV g (p.take k)=some c/\fe S b c
theorem fy.slice{b:Type}{d:Nat->ag->b->Prop}{e:(Nat->Prop)->b->Prop}{f:b->List ar}{k:Nat}{T:TypeId}{B base:Nat}{xs:List b}{v:ar}{w0 wr:ag}(g:fy d e f k T B base xs v w0 wr):∃a c,v=ae a xs.length c:=by
 rcases g.2.1.2 with⟨rfl,h⟩|⟨j,cap,i,rfl,_⟩
 ·exact⟨none,0,by rw[h]⟩
 ·exact⟨_,_,rfl⟩
theorem Nl:(Tryz.prog.info? 248).map (λi=>(i.zero,i.size,i.bytes))=some (some (.agg #[ab 0,ab 0,ab 0,af .empty,ae none 0 0,ab 0,ab 0,af .empty,ae none 0 0,af .empty,ab 0]),11,144):=by kernel_rfl
theorem JL(n:Nat)(y:Ac n):∀a∈gC n y,a.oneCell'=true:=oK rfl
theorem Aw(M n:Nat)(p:List (Tm n))(len:Nat)(aA:Hid (p.length=len))(bf:len<=8)(a:au)(pc B:Nat)(w:ag)(r:Hid (fU B w n p a))(aR:B<=w.heap.size)(H:Hid (∀x∈p,∀w1,am w w1->ao 182 #[dB n x] w1 (ru (gC (M+1)) (iY (M+1)) (mG (M+1)) (Dz (M+1)) (td M n x) w1))):ao 181 #[ae a len pc,.func (Fn.func 182) #[] #[]] w (lY 11 (gC (M+1)) (iY (M+1)) (mG (M+1)) (Dz (M+1)) (cV (td M n) p) w):=by
 obtain⟨a1,ap,aB,aC,aE⟩:=bU Nl;have I:=aq (⟨ap,aB,aC,aE⟩:_/\_/\_/\_);clear ap aB aC aE;have q:=aq (fV (M+1));go_enter func181,ntmps181;go_wp2_with fail;go_loopw [6,13] (λv O wr=>∃(k:Nat)(aH:ar),k<=len/\O=ab k/\aH=v/\Hid (QD (iY (M+1)) (mG (M+1)) (Dz (M+1)) (gC (M+1)) 11 248 (td M n) p w k aH wr)) (λ_ O _=>len-(intOf O).toNat)
 case atStart=>exact⟨0,_,by omega,rfl,rfl,[],[],rfl,fy.nil _,by simp[cV],fe.nil⟩
 case round=>
  obtain⟨k,v,bc,rfl,rfl,V⟩:=hrel;obtain⟨m,E,s,e,Y,W⟩:∃(m E:List (Ac (M+1))),Hid (m.length=k)/\Hid (fy (iY (M+1)) (mG (M+1)) (gC (M+1)) 11 248 0 w.heap.size m v w wr)/\Hid (cV (td M n) (p.take k)=some E)/\Hid (fe (Dz (M+1)) m E):=V.out;clear V;have N:w.heap.size<=wr.heap.size:=e.out.1.size;obtain⟨D,K,aF⟩:=e.out.slice;rw[s.out]at aF;subst aF;by_cases aW:k<len
  ·obtain⟨x,C⟩:∃x,p[k]?=some x:=⟨p[k]'(by rw[aA.out];exact aW),aN _⟩;have Z:=aq C;rcases(r.out.below (e.out.1.mono aR))with r|⟨a2,po,rfl,bh,r⟩
   ·subst r;simp at C
   obtain⟨aG,aZ⟩:=r k x C;have G:Hid (∀w1,am wr w1->ao 182 #[dB n x] w1 (ru (gC (M+1)) (iY (M+1)) (mG (M+1)) (Dz (M+1)) (td M n x) w1)):=λw1 y=>H.out x (aL C) w1 (e.out.1.trans (y.mono N));obtain⟨o,A⟩:∃o,td M n x=o:=⟨_,rfl⟩;rw[A]at G;have S:=aq A;have bi:a2<wr.heap.size:=by omega
   clear r C A aZ;cases n with
   | zero=>exact aG.elim
   | succ n=>
   obtain⟨a4,a5,a6,a7⟩:=aG;have J:dB (n+1) x=.agg #[ab x.1.1,ab x.1.2.1,af x.1.2.2,ae x.2.1.1 x.2.2.length x.2.1.2]:=rfl;rw[J]at G;clear J;have bd:(0:Int)<=(k:Int):=by omega
   have be:(k:Int)<(len:Int):=by omega
   go_wp2_with fail;refine(G.out _ aX).mono ?_;rintro ba h ⟨d,a3,rfl,j⟩;have F:Hid (am wr h):=aX.trans (j.out.1.mono (by simp));have ah:wr.heap.size<=h.heap.size:=F.out.size;have ad:Value.agg (gC (M+1) d).toArray=.agg #[ab d.1,ab d.2.1.1.1.1,ab d.2.1.1.1.2.1,af d.2.1.1.1.2.2,ae d.2.1.1.2.1.1 d.2.1.1.2.2.length d.2.1.1.2.1.2,ab d.2.1.2.1.1,ab d.2.1.2.1.2.1,af d.2.1.2.1.2.2,ae d.2.1.2.2.1.1 d.2.1.2.2.2.length d.2.1.2.2.1.2,af d.2.2.1,ab d.2.2.2]:=rfl;rw[ad];clear ad G a4 a5 a6 a7;cases a3
   ·have L:Hid (lY 11 (gC (M+1)) (iY (M+1)) (mG (M+1)) (Dz (M+1)) (cV (td M (n+1)) p) w (.returned (.tuple #[ae none 0 0,.bool false])) (h.alloc (.cells #[ab d.1,ab d.2.1.1.1.1,ab d.2.1.1.1.2.1,af d.2.1.1.1.2.2,ae d.2.1.1.2.1.1 d.2.1.1.2.2.length d.2.1.1.2.1.2,ab d.2.1.2.1.1,ab d.2.1.2.1.2.1,af d.2.1.2.1.2.2,ae d.2.1.2.2.1.1 d.2.1.2.2.2.length d.2.1.2.2.1.2,af d.2.2.1,ab d.2.2.2] 248))):=by
      have aw:cV (td M (n+1)) p=none:=mK _ p k x Z.out (by
       have y:=j.out.2.1;rw[S.out];cases o with
       | none=>rfl
       | some i=>cases y)
      have z:am w h:=e.out.1.trans (F.out.mono N);refine⟨[],none,0,false,rfl,z.trans (aX.mono z.size),by rw[aw];rfl,⟨av _,aM _⟩,aj rfl,aj rfl,λi l=>by rw[aw]at l;cases l⟩
    clear j e;go_wp2_with fail;exact ay (v:=.tuple #[ae none 0 0,.bool false]) (by simp[results,results181,go_sem]) rfl L.out
   ·have X:=λ(P Q:Obj)(g c:Nat)(R:ag) aY aU aS=>aq (fy.step q.out (T:=248) (w1:=(h.alloc P).alloc Q) (w2:=R) (g:=g) (c:=c) e.out (aM _) N (F.out.trans ((aX.trans (aX.mono (by simp))).mono ah)) d (q.out.mono (by simp;omega) (q.out.below (aX.trans (aX.mono (by simp))) j.out.2.2.1)) (q.out.1 _ _ _ (λb z=>ak (by simp at z;omega)) j.out.2.2.2.1) aY aU aS);have U:=λ(P Q:Obj)=>aq (eq e.out.2.1 (F.out.trans ((aX.trans (aX.mono (by simp)):am h ((h.alloc P).alloc Q)).mono ah)));rw[s.out]at X U;go_wp2_with (at_builtin;refine wpList_append_lies _ rfl _ _ 160 rfl w.heap.size 248 a1 _ 11 144 underlying160 I.out.1 I.out.2.1 I.out.2.2.1 I.out.2.2.2 rfl (by decide) (ae D k K) k (m.flatMap (gC (M+1))) (by simp[Act.eval]) (U _ _).out ⟨h.heap.size+1,0,none⟩ 1 1 (gC (M+1) d) (by simp[Act.eval]) rfl (World.news_of_block (cs:= #[ab d.1,ab d.2.1.1.1.1,ab d.2.1.1.1.2.1,af d.2.1.1.1.2.2,ae d.2.1.1.2.1.1 d.2.1.1.2.2.length d.2.1.1.2.1.2,ab d.2.1.2.1.1,ab d.2.1.2.1.2.1,af d.2.1.2.1.2.2,ae d.2.1.2.2.1.1 d.2.1.2.2.2.length d.2.1.2.2.1.2,af d.2.2.1,ab d.2.2.2]) (t:=248) (fr:=(0,0)) (by have u:=aD (h.alloc (.cells #[ab d.1,ab d.2.1.1.1.1,ab d.2.1.1.1.2.1,af d.2.1.1.1.2.2,ae d.2.1.1.2.1.1 d.2.1.1.2.2.length d.2.1.1.2.1.2,ab d.2.1.2.1.1,ab d.2.1.2.1.2.1,af d.2.1.2.1.2.2,ae d.2.1.2.2.1.1 d.2.1.2.2.2.length d.2.1.2.2.1.2,af d.2.2.1,ab d.2.2.2] 248)) (.cells #[ab d.1,ab d.2.1.1.1.1,ab d.2.1.1.1.2.1,af d.2.1.1.1.2.2,ae d.2.1.1.2.1.1 d.2.1.1.2.2.length d.2.1.1.2.1.2,ab d.2.1.2.1.1,ab d.2.1.2.1.2.1,af d.2.1.2.1.2.2,ae d.2.1.2.2.1.1 d.2.1.2.2.2.length d.2.1.2.2.1.2,af d.2.2.1,ab d.2.2.2] 248);simp only[iV]at u;exact u)) (JL _ _) (by decide) (by unfold maxLen;omega) (by omega) (by simp;omega) (h.heap.size+1+1) (by simp) ?_;intro aQ aO R ax an al bg;have aK:=X _ _ aQ aO R ax an (by simpa using al);clear ax an al);have aI:Hid (∃i,o=some i/\Dz (M+1) d i):=by
     have y:=j.out.2.1;cases o with
     | none=>cases y
     | some i=>exact⟨i,rfl,j.out.2.2.2.2 i rfl⟩
    obtain⟨i,l,a0⟩:=aI.out;have aJ:=aq (S.out.trans l);go_roundw
    case rel=>exact⟨k+1,_,by omega,by go_num,rfl,m++ [d],E++ [i],by simp[s.out],aK.out,sJ _ _ _ _ Z.out _ _ Y.out aJ.out,W.out.snoc a0⟩
    case measure=>simp[intOf];omega
  ·have L:Hid (lY 11 (gC (M+1)) (iY (M+1)) (mG (M+1)) (Dz (M+1)) (cV (td M n) p) w (.returned (.tuple #[ae D k K,.bool true])) wr):=by
     have ai:cV (td M n) p=some E:=by have u:=Y.out;rw[bA (by rw[aA.out];omega)]at u;exact u
     obtain⟨a8,a9,aa,aT,aV,A⟩:=fy.lay (f:=gC (M+1)) (k:=11) q.out (λ_=>rfl) e.out;rw[s.out]at aa;injection aa with aP bb J;subst aP J;refine⟨m,D,K,true,by rw[s.out],e.out.1,by rw[ai];rfl,aT,aV,?_,λi l=>by rw[ai]at l;obtain rfl:=az l;exact W.out⟩;exact(cQ q.out 11 (gC (M+1)) D).1 _ _ _ (λb z=>by omega) A
   clear e;go_wp2_with fail;exact ay (v:=.tuple #[ae D k K,.bool true]) (by simp[results,results181,go_sem]) rfl L.out
theorem D8:(Tryz.prog.info? 162).map (λi=>(i.zero,i.size,i.bytes))=some (some (.agg #[ab 0,ab 0,af .empty,ae none 0 0,ab 0,ab 0,af .empty,ae none 0 0,ae none 0 0,ab 0,ab 0,af .empty,ae none 0 0]),13,192):=by kernel_rfl
theorem J4(n:Nat)(y:Cl n):∀a∈fq n y,a.oneCell'=true:=oK rfl
theorem uo(M n:Nat)(p:List (Tm n))(len:Nat)(aA:Hid (p.length=len))(bf:len<=8)(a:au)(pc B:Nat)(w:ag)(r:Hid (fU B w n p a))(aR:B<=w.heap.size)(H:Hid (∀x∈p,∀w1,am w w1->ao 144 #[dB n x] w1 (ru (fq (M+1)) (iz (M+1)) (ki (M+1)) (Ds (M+1)) (Ap M n x) w1))):ao 143 #[ae a len pc,.func (Fn.func 144) #[] #[]] w (lY 13 (fq (M+1)) (iz (M+1)) (ki (M+1)) (Ds (M+1)) (cV (Ap M n) p) w):=by
 obtain⟨a1,ap,aB,aC,aE⟩:=bU D8;have I:=aq (⟨ap,aB,aC,aE⟩:_/\_/\_/\_);clear ap aB aC aE;have q:=aq (eK (M+1));go_enter func143,ntmps143;go_wp2_with fail;go_loopw [6,13] (λv O wr=>∃(k:Nat)(aH:ar),k<=len/\O=ab k/\aH=v/\Hid (QD (iz (M+1)) (ki (M+1)) (Ds (M+1)) (fq (M+1)) 13 162 (Ap M n) p w k aH wr)) (λ_ O _=>len-(intOf O).toNat)
 case atStart=>exact⟨0,_,by omega,rfl,rfl,[],[],rfl,fy.nil _,by simp[cV],fe.nil⟩
 case round=>
  obtain⟨k,v,bc,rfl,rfl,V⟩:=hrel;obtain⟨m,E,s,e,Y,W⟩:∃(m E:List (Cl (M+1))),Hid (m.length=k)/\Hid (fy (iz (M+1)) (ki (M+1)) (fq (M+1)) 13 162 0 w.heap.size m v w wr)/\Hid (cV (Ap M n) (p.take k)=some E)/\Hid (fe (Ds (M+1)) m E):=V.out;clear V;have N:w.heap.size<=wr.heap.size:=e.out.1.size;obtain⟨D,K,aF⟩:=e.out.slice;rw[s.out]at aF;subst aF;by_cases aW:k<len
  ·obtain⟨x,C⟩:∃x,p[k]?=some x:=⟨p[k]'(by rw[aA.out];exact aW),aN _⟩;have Z:=aq C;rcases(r.out.below (e.out.1.mono aR))with r|⟨a2,po,rfl,bh,r⟩
   ·subst r;simp at C
   obtain⟨aG,aZ⟩:=r k x C;have G:Hid (∀w1,am wr w1->ao 144 #[dB n x] w1 (ru (fq (M+1)) (iz (M+1)) (ki (M+1)) (Ds (M+1)) (Ap M n x) w1)):=λw1 y=>H.out x (aL C) w1 (e.out.1.trans (y.mono N));obtain⟨o,A⟩:∃o,Ap M n x=o:=⟨_,rfl⟩;rw[A]at G;have S:=aq A;have bi:a2<wr.heap.size:=by omega
   clear r C A aZ;cases n with
   | zero=>exact aG.elim
   | succ n=>
   obtain⟨a4,a5,a6,a7⟩:=aG;have J:dB (n+1) x=.agg #[ab x.1.1,ab x.1.2.1,af x.1.2.2,ae x.2.1.1 x.2.2.length x.2.1.2]:=rfl;rw[J]at G;clear J;have bd:(0:Int)<=(k:Int):=by omega
   have be:(k:Int)<(len:Int):=by omega
   go_wp2_with fail;refine(G.out _ aX).mono ?_;rintro ba h ⟨d,a3,rfl,j⟩;have F:Hid (am wr h):=aX.trans (j.out.1.mono (by simp));have ah:wr.heap.size<=h.heap.size:=F.out.size;have ad:Value.agg (fq (M+1) d).toArray=.agg #[ab d.1.1.1.1,ab d.1.1.1.2.1,af d.1.1.1.2.2,ae d.1.1.2.1.1 d.1.1.2.2.length d.1.1.2.1.2,ab d.1.2.1.1.1,ab d.1.2.1.1.2.1,af d.1.2.1.1.2.2,ae d.1.2.1.2.1.1 d.1.2.1.2.2.length d.1.2.1.2.1.2,ae d.2.1.1 d.2.2.length d.2.1.2,ab d.1.2.2.1.1,ab d.1.2.2.1.2.1,af d.1.2.2.1.2.2,ae d.1.2.2.2.1.1 d.1.2.2.2.2.length d.1.2.2.2.1.2]:=rfl;rw[ad];clear ad G a4 a5 a6 a7;cases a3
   ·have L:Hid (lY 13 (fq (M+1)) (iz (M+1)) (ki (M+1)) (Ds (M+1)) (cV (Ap M (n+1)) p) w (.returned (.tuple #[ae none 0 0,.bool false])) (h.alloc (.cells #[ab d.1.1.1.1,ab d.1.1.1.2.1,af d.1.1.1.2.2,ae d.1.1.2.1.1 d.1.1.2.2.length d.1.1.2.1.2,ab d.1.2.1.1.1,ab d.1.2.1.1.2.1,af d.1.2.1.1.2.2,ae d.1.2.1.2.1.1 d.1.2.1.2.2.length d.1.2.1.2.1.2,ae d.2.1.1 d.2.2.length d.2.1.2,ab d.1.2.2.1.1,ab d.1.2.2.1.2.1,af d.1.2.2.1.2.2,ae d.1.2.2.2.1.1 d.1.2.2.2.2.length d.1.2.2.2.1.2] 162))):=by
      have aw:cV (Ap M (n+1)) p=none:=mK _ p k x Z.out (by
       have y:=j.out.2.1;rw[S.out];cases o with
       | none=>rfl
       | some i=>cases y)
      have z:am w h:=e.out.1.trans (F.out.mono N);refine⟨[],none,0,false,rfl,z.trans (aX.mono z.size),by rw[aw];rfl,⟨av _,aM _⟩,aj rfl,aj rfl,λi l=>by rw[aw]at l;cases l⟩
    clear j e;go_wp2_with fail;exact ay (v:=.tuple #[ae none 0 0,.bool false]) (by simp[results,results143,go_sem]) rfl L.out
   ·have X:=λ(P Q:Obj)(g c:Nat)(R:ag) aY aU aS=>aq (fy.step q.out (T:=162) (w1:=(h.alloc P).alloc Q) (w2:=R) (g:=g) (c:=c) e.out (aM _) N (F.out.trans ((aX.trans (aX.mono (by simp))).mono ah)) d (q.out.mono (by simp;omega) (q.out.below (aX.trans (aX.mono (by simp))) j.out.2.2.1)) (q.out.1 _ _ _ (λb z=>ak (by simp at z;omega)) j.out.2.2.2.1) aY aU aS);have U:=λ(P Q:Obj)=>aq (eq e.out.2.1 (F.out.trans ((aX.trans (aX.mono (by simp)):am h ((h.alloc P).alloc Q)).mono ah)));rw[s.out]at X U;go_wp2_with (at_builtin;refine wpList_append_lies _ rfl _ _ 149 rfl w.heap.size 162 a1 _ 13 192 underlying149 I.out.1 I.out.2.1 I.out.2.2.1 I.out.2.2.2 rfl (by decide) (ae D k K) k (m.flatMap (fq (M+1))) (by simp[Act.eval]) (U _ _).out ⟨h.heap.size+1,0,none⟩ 1 1 (fq (M+1) d) (by simp[Act.eval]) rfl (World.news_of_block (cs:= #[ab d.1.1.1.1,ab d.1.1.1.2.1,af d.1.1.1.2.2,ae d.1.1.2.1.1 d.1.1.2.2.length d.1.1.2.1.2,ab d.1.2.1.1.1,ab d.1.2.1.1.2.1,af d.1.2.1.1.2.2,ae d.1.2.1.2.1.1 d.1.2.1.2.2.length d.1.2.1.2.1.2,ae d.2.1.1 d.2.2.length d.2.1.2,ab d.1.2.2.1.1,ab d.1.2.2.1.2.1,af d.1.2.2.1.2.2,ae d.1.2.2.2.1.1 d.1.2.2.2.2.length d.1.2.2.2.1.2]) (t:=162) (fr:=(0,0)) (by have u:=aD (h.alloc (.cells #[ab d.1.1.1.1,ab d.1.1.1.2.1,af d.1.1.1.2.2,ae d.1.1.2.1.1 d.1.1.2.2.length d.1.1.2.1.2,ab d.1.2.1.1.1,ab d.1.2.1.1.2.1,af d.1.2.1.1.2.2,ae d.1.2.1.2.1.1 d.1.2.1.2.2.length d.1.2.1.2.1.2,ae d.2.1.1 d.2.2.length d.2.1.2,ab d.1.2.2.1.1,ab d.1.2.2.1.2.1,af d.1.2.2.1.2.2,ae d.1.2.2.2.1.1 d.1.2.2.2.2.length d.1.2.2.2.1.2] 162)) (.cells #[ab d.1.1.1.1,ab d.1.1.1.2.1,af d.1.1.1.2.2,ae d.1.1.2.1.1 d.1.1.2.2.length d.1.1.2.1.2,ab d.1.2.1.1.1,ab d.1.2.1.1.2.1,af d.1.2.1.1.2.2,ae d.1.2.1.2.1.1 d.1.2.1.2.2.length d.1.2.1.2.1.2,ae d.2.1.1 d.2.2.length d.2.1.2,ab d.1.2.2.1.1,ab d.1.2.2.1.2.1,af d.1.2.2.1.2.2,ae d.1.2.2.2.1.1 d.1.2.2.2.2.length d.1.2.2.2.1.2] 162);simp only[iV]at u;exact u)) (J4 _ _) (by decide) (by unfold maxLen;omega) (by omega) (by simp;omega) (h.heap.size+1+1) (by simp) ?_;intro aQ aO R ax an al bg;have aK:=X _ _ aQ aO R ax an (by simpa using al);clear ax an al);have aI:Hid (∃i,o=some i/\Ds (M+1) d i):=by
     have y:=j.out.2.1;cases o with
     | none=>cases y
     | some i=>exact⟨i,rfl,j.out.2.2.2.2 i rfl⟩
    obtain⟨i,l,a0⟩:=aI.out;have aJ:=aq (S.out.trans l);go_roundw
    case rel=>exact⟨k+1,_,by omega,by go_num,rfl,m++ [d],E++ [i],by simp[s.out],aK.out,sJ _ _ _ _ Z.out _ _ Y.out aJ.out,W.out.snoc a0⟩
    case measure=>simp[intOf];omega
  ·have L:Hid (lY 13 (fq (M+1)) (iz (M+1)) (ki (M+1)) (Ds (M+1)) (cV (Ap M n) p) w (.returned (.tuple #[ae D k K,.bool true])) wr):=by
     have ai:cV (Ap M n) p=some E:=by have u:=Y.out;rw[bA (by rw[aA.out];omega)]at u;exact u
     obtain⟨a8,a9,aa,aT,aV,A⟩:=fy.lay (f:=fq (M+1)) (k:=13) q.out (λ_=>rfl) e.out;rw[s.out]at aa;injection aa with aP bb J;subst aP J;refine⟨m,D,K,true,by rw[s.out],e.out.1,by rw[ai];rfl,aT,aV,?_,λi l=>by rw[ai]at l;obtain rfl:=az l;exact W.out⟩;exact(cQ q.out 13 (fq (M+1)) D).1 _ _ _ (λb z=>by omega) A
   clear e;go_wp2_with fail;exact ay (v:=.tuple #[ae D k K,.bool true]) (by simp[results,results143,go_sem]) rfl L.out
theorem xt:(Tryz.prog.info? 151).map (λi=>(i.zero,i.size,i.bytes))=some (some (.agg #[af .empty,ae none 0 0]),2,40):=by kernel_rfl
theorem MO(n:Nat)(y:Bh n):∀a∈pW n y,a.oneCell'=true:=oK rfl
theorem qN(M n:Nat)(p:List (Tm n))(len:Nat)(aA:Hid (p.length=len))(bf:len<=8)(a:au)(pc B:Nat)(w:ag)(r:Hid (fU B w n p a))(aR:B<=w.heap.size)(H:Hid (∀x∈p,∀w1,am w w1->ao 106 #[dB n x] w1 (ru (pW (M+1)) (pU (M+1)) (kh (M+1)) (zr (M+1)) (Ao M n x) w1))):ao 105 #[ae a len pc,.func (Fn.func 106) #[] #[]] w (lY 2 (pW (M+1)) (pU (M+1)) (kh (M+1)) (zr (M+1)) (cV (Ao M n) p) w):=by
 obtain⟨a1,ap,aB,aC,aE⟩:=bU xt;have I:=aq (⟨ap,aB,aC,aE⟩:_/\_/\_/\_);clear ap aB aC aE;have q:=aq (ex (M+1));go_enter func105,ntmps105;go_wp2_with fail;go_loopw [6,13] (λv O wr=>∃(k:Nat)(aH:ar),k<=len/\O=ab k/\aH=v/\Hid (QD (pU (M+1)) (kh (M+1)) (zr (M+1)) (pW (M+1)) 2 151 (Ao M n) p w k aH wr)) (λ_ O _=>len-(intOf O).toNat)
 case atStart=>exact⟨0,_,by omega,rfl,rfl,[],[],rfl,fy.nil _,by simp[cV],fe.nil⟩
 case round=>
  obtain⟨k,v,bc,rfl,rfl,V⟩:=hrel;obtain⟨m,E,s,e,Y,W⟩:∃(m E:List (Bh (M+1))),Hid (m.length=k)/\Hid (fy (pU (M+1)) (kh (M+1)) (pW (M+1)) 2 151 0 w.heap.size m v w wr)/\Hid (cV (Ao M n) (p.take k)=some E)/\Hid (fe (zr (M+1)) m E):=V.out;clear V;have N:w.heap.size<=wr.heap.size:=e.out.1.size;obtain⟨D,K,aF⟩:=e.out.slice;rw[s.out]at aF;subst aF;by_cases aW:k<len
  ·obtain⟨x,C⟩:∃x,p[k]?=some x:=⟨p[k]'(by rw[aA.out];exact aW),aN _⟩;have Z:=aq C;rcases(r.out.below (e.out.1.mono aR))with r|⟨a2,po,rfl,bh,r⟩
   ·subst r;simp at C
   obtain⟨aG,aZ⟩:=r k x C;have G:Hid (∀w1,am wr w1->ao 106 #[dB n x] w1 (ru (pW (M+1)) (pU (M+1)) (kh (M+1)) (zr (M+1)) (Ao M n x) w1)):=λw1 y=>H.out x (aL C) w1 (e.out.1.trans (y.mono N));obtain⟨o,A⟩:∃o,Ao M n x=o:=⟨_,rfl⟩;rw[A]at G;have S:=aq A;have bi:a2<wr.heap.size:=by omega
   clear r C A aZ;cases n with
   | zero=>exact aG.elim
   | succ n=>
   obtain⟨a4,a5,a6,a7⟩:=aG;have J:dB (n+1) x=.agg #[ab x.1.1,ab x.1.2.1,af x.1.2.2,ae x.2.1.1 x.2.2.length x.2.1.2]:=rfl;rw[J]at G;clear J;have bd:(0:Int)<=(k:Int):=by omega
   have be:(k:Int)<(len:Int):=by omega
   go_wp2_with fail;refine(G.out _ aX).mono ?_;rintro ba h ⟨d,a3,rfl,j⟩;have F:Hid (am wr h):=aX.trans (j.out.1.mono (by simp));have ah:wr.heap.size<=h.heap.size:=F.out.size;have ad:Value.agg (pW (M+1) d).toArray=.agg #[af d.1,ae d.2.1.1 d.2.2.length d.2.1.2]:=rfl;rw[ad];clear ad G a4 a5 a6 a7;cases a3
   ·have L:Hid (lY 2 (pW (M+1)) (pU (M+1)) (kh (M+1)) (zr (M+1)) (cV (Ao M (n+1)) p) w (.returned (.tuple #[ae none 0 0,.bool false])) (h.alloc (.cells #[af d.1,ae d.2.1.1 d.2.2.length d.2.1.2] 151))):=by
      have aw:cV (Ao M (n+1)) p=none:=mK _ p k x Z.out (by
       have y:=j.out.2.1;rw[S.out];cases o with
       | none=>rfl
       | some i=>cases y)
      have z:am w h:=e.out.1.trans (F.out.mono N);refine⟨[],none,0,false,rfl,z.trans (aX.mono z.size),by rw[aw];rfl,⟨av _,aM _⟩,aj rfl,aj rfl,λi l=>by rw[aw]at l;cases l⟩
    clear j e;go_wp2_with fail;exact ay (v:=.tuple #[ae none 0 0,.bool false]) (by simp[results,results105,go_sem]) rfl L.out
   ·have X:=λ(P Q:Obj)(g c:Nat)(R:ag) aY aU aS=>aq (fy.step q.out (T:=151) (w1:=(h.alloc P).alloc Q) (w2:=R) (g:=g) (c:=c) e.out (aM _) N (F.out.trans ((aX.trans (aX.mono (by simp))).mono ah)) d (q.out.mono (by simp;omega) (q.out.below (aX.trans (aX.mono (by simp))) j.out.2.2.1)) (q.out.1 _ _ _ (λb z=>ak (by simp at z;omega)) j.out.2.2.2.1) aY aU aS);have U:=λ(P Q:Obj)=>aq (eq e.out.2.1 (F.out.trans ((aX.trans (aX.mono (by simp)):am h ((h.alloc P).alloc Q)).mono ah)));rw[s.out]at X U;go_wp2_with (at_builtin;refine wpList_append_lies _ rfl _ _ 22 rfl w.heap.size 151 a1 _ 2 40 underlying22 I.out.1 I.out.2.1 I.out.2.2.1 I.out.2.2.2 rfl (by decide) (ae D k K) k (m.flatMap (pW (M+1))) (by simp[Act.eval]) (U _ _).out ⟨h.heap.size+1,0,none⟩ 1 1 (pW (M+1) d) (by simp[Act.eval]) rfl (World.news_of_block (cs:= #[af d.1,ae d.2.1.1 d.2.2.length d.2.1.2]) (t:=151) (fr:=(0,0)) (by have u:=aD (h.alloc (.cells #[af d.1,ae d.2.1.1 d.2.2.length d.2.1.2] 151)) (.cells #[af d.1,ae d.2.1.1 d.2.2.length d.2.1.2] 151);simp only[iV]at u;exact u)) (MO _ _) (by decide) (by unfold maxLen;omega) (by omega) (by simp;omega) (h.heap.size+1+1) (by simp) ?_;intro aQ aO R ax an al bg;have aK:=X _ _ aQ aO R ax an (by simpa using al);clear ax an al);have aI:Hid (∃i,o=some i/\zr (M+1) d i):=by
     have y:=j.out.2.1;cases o with
     | none=>cases y
     | some i=>exact⟨i,rfl,j.out.2.2.2.2 i rfl⟩
    obtain⟨i,l,a0⟩:=aI.out;have aJ:=aq (S.out.trans l);go_roundw
    case rel=>exact⟨k+1,_,by omega,by go_num,rfl,m++ [d],E++ [i],by simp[s.out],aK.out,sJ _ _ _ _ Z.out _ _ Y.out aJ.out,W.out.snoc a0⟩
    case measure=>simp[intOf];omega
  ·have L:Hid (lY 2 (pW (M+1)) (pU (M+1)) (kh (M+1)) (zr (M+1)) (cV (Ao M n) p) w (.returned (.tuple #[ae D k K,.bool true])) wr):=by
     have ai:cV (Ao M n) p=some E:=by have u:=Y.out;rw[bA (by rw[aA.out];omega)]at u;exact u
     obtain⟨a8,a9,aa,aT,aV,A⟩:=fy.lay (f:=pW (M+1)) (k:=2) q.out (λ_=>rfl) e.out;rw[s.out]at aa;injection aa with aP bb J;subst aP J;refine⟨m,D,K,true,by rw[s.out],e.out.1,by rw[ai];rfl,aT,aV,?_,λi l=>by rw[ai]at l;obtain rfl:=az l;exact W.out⟩;exact(cQ q.out 2 (pW (M+1)) D).1 _ _ _ (λb z=>by omega) A
   clear e;go_wp2_with fail;exact ay (v:=.tuple #[ae D k K,.bool true]) (by simp[results,results105,go_sem]) rfl L.out
theorem Iq(k b:Int)(s:ap)(a:au)(l c:Nat)(w:ag)(d:(k !=4)=true):ao 104 #[.agg #[ab k,ab b,af s,ae a l c]] w λe w'=>e=.returned (.tuple #[af ⟨#[]⟩,ae none 0 0])/\am w w':=by
 go_enter func104,ntmps104;go_wp2_with fail;exact ay (v:=.tuple #[af ⟨#[]⟩,ae none 0 0]) (by simp[results,results104,go_sem]) rfl ⟨rfl,aX⟩
theorem Ci(b:Int)(s:ap)(a:au)(c:Nat)(w:ag):ao 104 #[.agg #[ab 4,ab b,af s,ae a 0 c]] w λe w'=>e=.returned (.tuple #[af ⟨#[]⟩,ae none 0 0])/\am w w':=by
 go_enter func104,ntmps104;go_wp2_with fail;exact ay (v:=.tuple #[af ⟨#[]⟩,ae none 0 0]) (by simp[results,results104,go_sem]) rfl ⟨rfl,aX⟩
theorem Eu(a:Int)(s:ap)(b o l c:Nat)(f:0<l)(y0:Int)(i:(y0 !=2)=true)(w:ag)(d:b<w.heap.size)(c0:ah w b o (ab y0)):ao 104 #[.agg #[ab 4,ab a,af s,ae (some ⟨b,o,none⟩) l c]] w λe w'=>e=.returned (.tuple #[af ⟨#[]⟩,ae none 0 0])/\am w w':=by
 have g:((l:Int)==0)=false:=by simp;omega
 have h:(0:Int)<(l:Int):=by omega
 go_enter func104,ntmps104;go_wp2_with fail;exact ay (v:=.tuple #[af ⟨#[]⟩,ae none 0 0]) (by simp[results,results104,go_sem]) rfl ⟨rfl,aX⟩
theorem Ip(d:Int)(s:ap)(b o l c:Nat)(i:0<l)(p:l<=c)(h:c<=9223372036854775807)(y2:ap)(w:ag)(g:b<w.heap.size)(c0:ah w b o (ab 2))(f:ah w b (o+2) (af y2)):ao 104 #[.agg #[ab 4,ab d,af s,ae (some ⟨b,o,none⟩) l c]] w λe w'=>e=.returned (.tuple #[af y2,ae (if c=1 then some ⟨b,o,none⟩else some ⟨b,o+4,none⟩) (l-1) (c-1)])/\am w w':=by
 have j:((l:Int)==0)=false:=by simp;omega
 have k:(0:Int)<(l:Int):=by omega
 have m:(1:Int)<=(l:Int):=by omega
 have n:(l:Int)<=(c:Int):=by omega
 by_cases a:c=1
 ·rw[if_pos a];obtain rfl:l=1:=by omega
  subst a;go_enter func104,ntmps104;go_wp2_with fail;go_region
  all_goals go_wp2_with fail
  all_goals exact ay (v:=.tuple #[af y2,ae (some ⟨b,o,none⟩) 0 0]) (by simp[results,results104,go_sem]) rfl ⟨rfl,aX.drew⟩
 ·rw[if_neg a];go_enter func104,ntmps104;go_wp2_with fail;go_region
  all_goals go_wp2_with fail
  all_goals exact ay (v:=.tuple #[af y2,ae (some ⟨b,o+4,none⟩) (l-1) (c-1)]) (by simp[results,results104,go_sem]) rfl ⟨rfl,aX.drew⟩
def bR(g:Nat)(w w':ag):Prop:=(w'.os=w.os/\w'.tape=w.tape/\w'.output=w.output)/\w'.heap.size=w.heap.size/\∀b,b≠g->w'.heap[b]?=w.heap[b]?
theorem bR.refl(g:Nat)(w:ag):bR g w w:=⟨⟨rfl,rfl,rfl⟩,rfl,λ_ _=>rfl⟩
theorem bR.set{g:Nat}{w w':ag}(a:bR g w w')(o:Nat)(v:ar):bR g w (w'.setCell ⟨g,o,none⟩ v):=
 ⟨a.1,by simpa [World.setCell]using a.2.1,λb c=>by
  have:g≠b:=λd=>c d.symm;rw[<-a.2.2 b c]
  simp[World.setCell,bQ,this]⟩
theorem bR.below{g:Nat}{w0 w w':ag}(a:bR g w w')(c:am w0 w)(e:w0.heap.size<=g):am w0 w':=
 ⟨a.1.1.trans c.os,a.1.2.1.trans c.tape,a.1.2.2.trans c.output,by rw[a.2.1];exact c.size,λb d=>(a.2.2 b (by omega)).trans (c.block b d)⟩
theorem bR.stays{c:Type}{a:Nat->ag->c->Prop}{d:(Nat->Prop)->c->Prop}(i:kj a d){g:Nat}{w w':ag}(e:bR g w w'){P:aO}(h:¬P g){x:c}(l:d P x)(k:a w.heap.size w x):a w'.heap.size w' x:=by
 rw[e.2.1];exact i.2.2.1 P _ w w' x (λb j=>e.2.2 b (λf=>h (f▸j))) l k
theorem kD(g:Nat)(w:ag)(v0 v1 v2 v3 b c d e f h a:ar):bR g w (((((((((((w.setCell ⟨g,0,none⟩ v0).setCell ⟨g,1,none⟩ v1).setCell ⟨g,2,none⟩ v2).setCell ⟨g,3,none⟩ v3).setCell ⟨g,4,none⟩ b).setCell ⟨g,5,none⟩ c).setCell ⟨g,6,none⟩ d).setCell ⟨g,7,none⟩ e).setCell ⟨g,8,none⟩ f).setCell ⟨g,9,none⟩ h).setCell ⟨g,10,none⟩ a):=bR.set (bR.set (bR.set (bR.set (bR.set (bR.set (bR.set (bR.set (bR.set (bR.set (bR.set (bR.refl _ _) _ _) _ _) _ _) _ _) _ _) _ _) _ _) _ _) _ _) _ _) _ _
theorem rO(g:Nat)(w:ag)(v0 v1 v2 v3 d e f h i j a b c:ar):bR g w (((((((((((((w.setCell ⟨g,0,none⟩ v0).setCell ⟨g,1,none⟩ v1).setCell ⟨g,2,none⟩ v2).setCell ⟨g,3,none⟩ v3).setCell ⟨g,4,none⟩ d).setCell ⟨g,5,none⟩ e).setCell ⟨g,6,none⟩ f).setCell ⟨g,7,none⟩ h).setCell ⟨g,8,none⟩ i).setCell ⟨g,9,none⟩ j).setCell ⟨g,10,none⟩ a).setCell ⟨g,11,none⟩ b).setCell ⟨g,12,none⟩ c):=bR.set (bR.set (bR.set (bR.set (bR.set (bR.set (bR.set (bR.set (bR.set (bR.set (bR.set (bR.set (bR.set (bR.refl _ _) _ _) _ _) _ _) _ _) _ _) _ _) _ _) _ _) _ _) _ _) _ _) _ _) _ _
abbrev og(M:Nat)(o:Option (Ac (M+1)))(w:ag)(e:Ending)(w':ag):Prop:=ru (gC (M+1)) (iY (M+1)) (mG (M+1)) (Dz (M+1)) o w e w'
def Qt(M:Nat):Ac (M+1):=(0,(zT M,zT M),(.empty,0))
theorem PH(M B:Nat)(w:ag):iY (M+1) B w (Qt M):=⟨by simp[Qt,dI],lR _ _ _,lR _ _ _,aM _,by simp[Qt,dI]⟩
theorem qL{M:Nat}{o:Option (Ac (M+1))}{w w':ag}(b:o=none)(a:am w w'):og M o w (.returned (.tuple #[.agg #[ab 0,ab 0,ab 0,af .empty,ae none 0 0,ab 0,ab 0,af .empty,ae none 0 0,af .empty,ab 0],.bool false])) w':=by
 subst b;exact⟨Qt M,false,rfl,a,rfl,PH _ _ _,⟨aj rfl,aj rfl⟩,λd c=>by cases c⟩
theorem Cg{P:aO}:(N n:Nat)->n<=N->(x:Tm n)->cv P n x->cv P N (aZ N n x)
 | _,0,_,_,k=>k.elim
 | 0,n+1,h,_,_=>by omega
 | N+1,n+1,h,x,k=>by
  rcases k with k|⟨b,o,e,d,k⟩
  ·exact aj (by simp[aZ,k])
  ·refine ak ⟨b,o,e,d,λi y a=>?_⟩;simp only[aZ,dh]at a;obtain⟨c,f,rfl⟩:=cD.1 a;exact Cg N n (by omega) c (k i c f)
theorem jl{M n:Nat}(a:n<=M+1){b y:Tm n}{w':ag}{P:aO}(c:In w'.heap.size w' n y)(d:cv P n y)(e:aB n y n b=true):In w'.heap.size w' (M+1) (aZ (M+1) n y)/\cv P (M+1) (aZ (M+1) n y)/\aB (M+1) (aZ (M+1) n y) (M+1) (aZ (M+1) n b)=true:=
 ⟨pj _ _ a _ _ _ c,Cg _ _ a _ d,pi a a e⟩
theorem Kw(w:ag)(a b c d:Obj):(((((w.alloc a).alloc b).alloc c).alloc d).heap[w.heap.size]?=some a/\((((w.alloc a).alloc b).alloc c).alloc d).heap[w.heap.size+1]?=some b/\((((w.alloc a).alloc b).alloc c).alloc d).heap[w.heap.size+1+1]?=some c/\((((w.alloc a).alloc b).alloc c).alloc d).heap[w.heap.size+1+1+1]?=some d)/\am w ((((w.alloc a).alloc b).alloc c).alloc d)/\((((w.alloc a).alloc b).alloc c).alloc d).heap.size=w.heap.size+1+1+1+1:=by
 have f:=kF w a b;have e:=kF ((w.alloc a).alloc b) c d;have g:((w.alloc a).alloc b).heap.size=w.heap.size+1+1:=by simp
 rw[g]at e;refine⟨⟨?_,?_,e.1,e.2⟩,by go_grown,by simp⟩
 ·exact(gZ _ d (by simp;omega)).trans ((gZ _ c (by simp;omega)).trans f.1)
 ·exact(gZ _ d (by simp)).trans ((gZ _ c (by simp)).trans f.2)
theorem mJ{w:ag}{q:Nat}{c0 b d e f g h i k l c:ar}{t:TypeId}(a:w.heap[q]?=some (.cells #[c0,b,d,e,f,g,h,i,k,l,c] t)):(ah w q 0 c0/\ah w q 1 b/\ah w q 2 d/\ah w q 3 e/\ah w q 4 f/\ah w q 5 g/\ah w q 6 h/\ah w q 7 i/\ah w q 8 k/\ah w q 9 l/\ah w q 10 c)/\(∀j,w.frozen? ⟨q,j,none⟩=false)/\q<w.heap.size:=
 ⟨⟨ax a 0,ax a 1,ax a 2,ax a 3,ax a 4,ax a 5,ax a 6,ax a 7,ax a 8,ax a 9,ax a 10⟩,λj=>dg a j,(aI.1 a).1⟩
theorem nT{M:Nat}{o:Option (Ac (M+1))}{w w2 w':ag}{g:Nat}(y e:Ac (M+1))(i:o=some e)(d:bR g w2 w')(a:am w w2)(f:w.heap.size<=g)(h:iY (M+1) w2.heap.size w2 y)(c:mG (M+1) (λb=>g<b) y)(j:Dz (M+1) y e):og M o w (.returned (.tuple #[.agg (gC (M+1) y).toArray,.bool true])) w':=by
 subst i;exact⟨y,true,rfl,d.below a f,rfl,d.stays (fV _) (P:=λb=>g<b) (by omega) c h,(fV _).1 _ _ _ (λb a=>by omega) c,λl k=>by obtain rfl:=az k;exact j⟩
section
variable {P:Program}
end
theorem gu{g:Nat}{w w':ag}(a:bR g w w'){b:Nat}(c:b≠g)(o:Nat):w'.cell? ⟨b,o,none⟩=w.cell? ⟨b,o,none⟩:=bE (a.2.2 b c) o
theorem NW{q:Nat}{w w':ag}{v0 v1 v2 v3 b c:ar}(a:bR (q+1+1+1) w w')(k:(ah w q 2 v0/\w.cell? ⟨q+1+1,1,none⟩=some v1)/\w.cell? ⟨q+1,0,none⟩=some v2/\w.cell? ⟨q+1,1,none⟩=some v3/\w.cell? ⟨q+1,2,none⟩=some b/\w.cell? ⟨q+1,3,none⟩=some c):(ah w' q 2 v0/\w'.cell? ⟨q+1+1,1,none⟩=some v1)/\w'.cell? ⟨q+1,0,none⟩=some v2/\w'.cell? ⟨q+1,1,none⟩=some v3/\w'.cell? ⟨q+1,2,none⟩=some b/\w'.cell? ⟨q+1,3,none⟩=some c:=
 ⟨⟨(gu a (by omega) _).trans k.1.1,(gu a (by omega) _).trans k.1.2⟩,(gu a (by omega) _).trans k.2.1,(gu a (by omega) _).trans k.2.2.1,(gu a (by omega) _).trans k.2.2.2.1,(gu a (by omega) _).trans k.2.2.2.2⟩
theorem xx(M n:Nat)(X:n+1<=M+1)(a b c:Tm (n+1))(B:Nat)(w:ag)(u:In B w (n+1) a)(x:In B w (n+1) b)(y:In B w (n+1) c)(z:aJ ⟨n+1,a⟩)(A:aJ ⟨n+1,b⟩)(L:B<=w.heap.size):ao 196 #[.agg #[ab a.1.1,ab a.1.2.1,af a.1.2.2,ae a.2.1.1 a.2.2.length a.2.1.2],.agg #[ab b.1.1,ab b.1.2.1,af b.1.2.2,ae b.2.1.1 b.2.2.length b.2.1.2],.agg #[ab c.1.1,ab c.1.2.1,af c.1.2.2,ae c.2.1.1 c.2.2.length c.2.1.2]] w (og M (Aq M (n+1) a b c) w):=by
 obtain⟨o,i⟩:∃o,o=Aq M (n+1) a b c:=⟨_,rfl⟩;rw[<-i];by_cases f:a.1.1=2
 ·by_cases m:c.1.1=5
  ·have q:Hid (o=some (2,(zT M,aZ (M+1) (n+1) b),(a.1.2.2,c.1.2.1))):=by
     show _=_;rw[i];simp[Aq,b8,f,m,yh,pY,gF,bL]
   clear i;have K:(a.1.1 !=2)=false:=by simp[f]
   have S:(c.1.1 !=5)=false:=by simp[m]
   have Y:a.1.2.2.size<=2048:=by
    have:=z (bL n a) (by simp[aC,bL]);have U:ei a.1.2.2=true:=by
     simp only[cN,bL,f]at this;simp at this;exact this.1.1
    simp only[ei,rh,aK,cr]at U;omega
   have O:Hid (∀j,am w j->ao 56 #[.agg #[ab b.1.1,ab b.1.2.1,af b.1.2.2,ae b.2.1.1 b.2.2.length b.2.1.2]] j λl e=>∃d:Tm (n+1),l=.returned (.agg #[ab d.1.1,ab d.1.2.1,af d.1.2.2,ae d.2.1.1 d.2.2.length d.2.1.2])/\Hid (am j e/\In e.heap.size e (n+1) d/\cv (λC=>j.heap.size<=C) (n+1) d/\aB (n+1) d (n+1) b=true)):=
    λj t=>iG (n+1) b B j (x.below (t.mono L)) (aF L t.size) A
   have J:Hid (a.1.2.2.size<=maxLen/\dI c.1.2.1):=⟨u.1.2.2.1,y.1.2.1⟩;clear u x y z A f m;go_enter func196,ntmps196;go_wp2_with fail;have h:=aq (Kw w (.cells #[ab a.1.1,ab a.1.2.1,af a.1.2.2,ae a.2.1.1 a.2.2.length a.2.1.2] 31) (.cells #[ab b.1.1,ab b.1.2.1,af b.1.2.2,ae b.2.1.1 b.2.2.length b.2.1.2] 31) (.cells #[ab c.1.1,ab c.1.2.1,af c.1.2.2,ae c.2.1.1 c.2.2.length c.2.1.2] 31) (.cells #[ab 0,ab 0,ab 0,af ⟨#[]⟩,ae none 0 0,ab 0,ab 0,af ⟨#[]⟩,ae none 0 0,af ⟨#[]⟩,ab 0] 248));generalize N:(((w.alloc _).alloc _).alloc _).alloc _=F;rw[N]at h;clear N;have p:Hid (∀e,am F e->(ah e w.heap.size 2 (af a.1.2.2)/\e.cell? ⟨w.heap.size+1+1,1,none⟩=some (ab c.1.2.1))/\e.cell? ⟨w.heap.size+1,0,none⟩=some (ab b.1.1)/\e.cell? ⟨w.heap.size+1,1,none⟩=some (ab b.1.2.1)/\e.cell? ⟨w.heap.size+1,2,none⟩=some (af b.1.2.2)/\e.cell? ⟨w.heap.size+1,3,none⟩=some (ae b.2.1.1 b.2.2.length b.2.1.2)):=λe G=>by
    have l:=h.2.2;have t:=(G.block w.heap.size (by omega)).trans h.1.1;have f:=(G.block (w.heap.size+1) (by omega)).trans h.1.2.1;have T:=(G.block (w.heap.size+1+1) (by omega)).trans h.1.2.2.1;exact⟨⟨ax t 2,ax T 1⟩,ax f 0,ax f 1,ax f 2,ax f 3⟩
   obtain⟨⟨Z,al⟩,aa,ad,ai,ak⟩:=p.out F (aA _ _)
   go_region_held3 (λe=>(ah e w.heap.size 2 (af a.1.2.2)/\e.cell? ⟨w.heap.size+1+1,1,none⟩=some (ab c.1.2.1))/\e.cell? ⟨w.heap.size+1,0,none⟩=some (ab b.1.1)/\e.cell? ⟨w.heap.size+1,1,none⟩=some (ab b.1.2.1)/\e.cell? ⟨w.heap.size+1,2,none⟩=some (af b.1.2.2)/\e.cell? ⟨w.heap.size+1,3,none⟩=some (ae b.2.1.1 b.2.2.length b.2.1.2)) (first|with_reducible assumption|with_reducible exact p.out _ r.out|with_reducible exact p.out _ D.out|with_reducible exact P.out _ (kD _ _ _ _ _ _ _ _ _ _ _ _ _)|exact p.out _ (aA _ _).drew)
    ((first
     | (go_at_call 56;refine(O _ h.2.1.drew).mono ?_;rintro l j ⟨d,rfl,s⟩;have D:=aq (cW s.1))
     | (go_at_call 63;refine(en _ _ Y).mono ?_;rintro l w2 ⟨rfl,H⟩;have I:=aq H;have r:=aq (D.trans (H.mono D.size));have Q:=aq ((r.block (w.heap.size+1+1+1) (by have:=h.2.2;omega)).trans h.1.2.2.2);clear H;obtain⟨⟨d0,d1,d2,d3,d4,d5,d6,d7,d8,d9,d10⟩,f0,ap⟩:=mJ Q;have P:=aq (λR (W:bR (w.heap.size+1+1+1) w2 R)=>NW W (p _ r)))))
   go_wp2_with fail;have E:=jl (M:=M) X ((s.2.1.below I).mono I.size) (s.2.2.1.mono λC (an:F.heap.size<=C)=>(show w.heap.size+1+1+1<C by have:=h.2.2;omega)) s.2.2.2;refine ay (v:=.tuple #[.agg #[ab 2,ab 0,ab 0,af ⟨#[]⟩,ae none 0 0,ab d.1.1,ab d.1.2.1,af d.1.2.2,ae d.2.1.1 d.2.2.length d.2.1.2,af a.1.2.2,ab c.1.2.1],.bool true]) (by simp[results,results196,go_sem,d0,d1,d2,d3,d4,d5,d6,d7,d8,d9,d10]) rfl ?_;have l:gC (M+1) (2,(zT M,aZ (M+1) (n+1) d),(a.1.2.2,c.1.2.1))=[ab 2,ab 0,ab 0,af ⟨#[]⟩,ae none 0 0,ab d.1.1,ab d.1.2.1,af d.1.2.2,ae d.2.1.1 d.2.2.length d.2.1.2,af a.1.2.2,ab c.1.2.1]:=by
    show ab 2::(iL (M+1) (zT M)++iL (M+1) (aZ (M+1) (n+1) d)++ [af a.1.2.2,ab c.1.2.1])=_;rw[gN];rfl
   have k:=λ(e:ag)(V:bR (w.heap.size+1+1+1) w2 e)=>nT (g:=w.heap.size+1+1+1) (w2:=w2) (2,(zT M,aZ (M+1) (n+1) d),(a.1.2.2,c.1.2.1)) (2,(zT M,aZ (M+1) (n+1) b),(a.1.2.2,c.1.2.1)) q (w:=w) V (h.2.1.trans (r.mono h.2.1.size)) (by omega) ⟨by simp[dI],lR _ _ _,E.1,J.1,J.2⟩ ⟨aj rfl,E.2.1⟩ ⟨rfl,mg (lR _ 0 w),E.2.2,rfl⟩;rw[l]at k;exact k _ (kD _ _ _ _ _ _ _ _ _ _ _ _ _)
  ·have K:(a.1.1 !=2)=false:=by simp[f]
   have S:(c.1.1 !=5)=true:=by simp[m]
   have q:Hid (o=none):=by
    show _=_;rw[i];simp[Aq,b8,m]
   clear i;clear u x y z A f m;go_enter func196,ntmps196;go_wp2_with fail;exact ay (v:=.tuple #[.agg #[ab 0,ab 0,ab 0,af .empty,ae none 0 0,ab 0,ab 0,af .empty,ae none 0 0,af .empty,ab 0],.bool false]) (by simp[results,results196,go_sem];rfl) rfl (qL q (by go_grown))
 ·have K:(a.1.1 !=2)=true:=by simp[f]
  have q:Hid (o=none):=by
   show _=_;rw[i];simp[Aq,b8,f]
  clear i;clear u x y z A f;go_enter func196,ntmps196;go_wp2_with fail;exact ay (v:=.tuple #[.agg #[ab 0,ab 0,ab 0,af .empty,ae none 0 0,ab 0,ab 0,af .empty,ae none 0 0,af .empty,ab 0],.bool false]) (by simp[results,results196,go_sem];rfl) rfl (qL q (by go_grown))
end Go.Proofs.YtmmahddlcldmiaaGreat
