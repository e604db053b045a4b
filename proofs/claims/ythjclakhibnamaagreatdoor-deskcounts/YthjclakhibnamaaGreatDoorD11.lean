/- Proved here: plain facts and contracts. No condition but what each names. -/
import Derived.Test.YthjclakhibnamaaGreatDoorD10
import Derived.Deep.DeepCutAuto
import Derived.BigRegion
namespace Go.Proofs.YthjclakhibnamaaGreatDoor
open Go.RowKit Go.Proofs.Tryz
set_option maxRecDepth 100000
set_option maxHeartbeats 8000000
theorem Cr(x:Nat)(a i j:Int)(k:aq)(xa:ay)(l xc:Nat)(g cl:Bool)(b:Int)(w:ah)(R:Int->bF)(z:Hid (∀W,ap w W->au 130 #[aF x,ae a] W λe w'=>e=aw (.bool g)/\w'=W))(G:Hid (∀W,ap w W->au 53 #[aB i j k xa l xc] W λe w'=>e=aw (ae b)/\ap W w'))(E:Hid (∀W,ap w W->au 132 #[aB i j k xa l xc] W λe w'=>e=aw (.bool cl)/\ap W w'))(F:Hid (g=true->b=0->cl=true->∀W,ap w W->au 131 #[aF x,ae 0,ae a,aB i j k xa l xc] W λe w'=>e=aw (ax #[])/\Hid (R 0 w')))(r:Hid (∀W,ap w W->(g=false->R 4 W)/\(g=true->b≠0->R b W)/\(g=true->b=0->cl=false->R 5 W))):au 89 #[aF x,ae a,aB i j k xa l xc] w λe w'=>∃v,e=aw (ae v)/\Hid (R v w'):=by
 go_enter func89,ntmps89;go_upto_region 1 with fail;generalize A:w.alloc _=y;have d:Hid (ap w y/\y.heap[w.heap.size]?=some (.cells #[ae i,ae j,ag k,af xa l xc] 54)):=by
  rw[<-A];exact⟨aW _ _,aL _ _⟩
 clear A;go_wp2_with fail;refine(z _ d.1).mono ?_;rintro e K ⟨rfl,B⟩;obtain rfl:=B.symm;clear B z;cases g
 ·have h:=av ((r y d.1).1 rfl);go_wp2_with fail
  go_ret
  exact⟨4,rfl,h⟩
 have c:=d.2;obtain⟨m,n,o,p⟩:=QS c;clear c;go_wp2_with fail;refine(G _ d.1).mono ?_;rintro e I ⟨rfl,s⟩;have f:=av (⟨d.1.trans (s.mono d.1.size),fk s d.2⟩:_/\_);clear m n o p s;by_cases u:b=0;rotate_left
 ·have h:=av ((r I f.1).2.1 (by simp) u);have J:(b !=0)=true:=by simpa using u
  go_wp2_with fail
  go_ret
  exact⟨b,rfl,h⟩
 subst u;have c:=f.2;obtain⟨m,n,o,p⟩:=QS c;clear c;go_wp2_with fail;refine(E _ f.1).mono ?_;rintro e C ⟨rfl,t⟩;have q:=av (⟨f.1.trans (t.mono f.1.size),fk t f.2⟩:_/\_);clear m n o p t;cases cl
 ·have h:=av ((r C q.1).2.2 (by simp) (by simp) (by simp));go_wp2_with fail
  go_ret
  exact⟨5,rfl,h⟩
 have c:=q.2;obtain⟨m,n,o,p⟩:=QS c;have H:=av (F (by simp) (by simp) (by simp) C q.1);clear c;go_wp2_with fail;refine H.mono ?_;rintro e L ⟨rfl,D⟩;go_wp2_with fail
 go_ret
 exact⟨0,rfl,D⟩
section
variable {p:mO} {s:Sy} {d:gY} {w:ah}
theorem bG.inject(j:bG p s d w){a:Int}(y:dp a){m:Nat}(x:Tm (m+1))(l:In w.heap.size w (m+1) x/\cG (λq=>¬1<=d.ow q) (m+1) x)(u:(aI (m+1) x).length<=2097152)(A:d.k<=92000)(t:d.es.length<=98000):au 89 #[aF p.b,ae a,dG (m+1) x] w λe w'=>∃v,e=aw (ae v)/\Hid (v=(s.inject p.room a (m+1) x).2/\∃g,bG p (s.inject p.room a (m+1) x).1 g w'/\gF 100 201 d g w w'):=by
 have o:∀f,ap w f->gF 100 201 d d w f:=λf c=>(ey.later d c).un.mono (aN _) (aN _);refine Cr p.b a x.1.1 x.1.2.1 x.1.2.2 x.2.1.1 x.2.2.length x.2.1.2 (s.get a).isSome (aY (m+1) x) (bL (m+1) x) w (λv w'=>v=(s.inject p.room a (m+1) x).2/\∃g,bG p (s.inject p.room a (m+1) x).1 g w'/\gF 100 201 d g w w') (λf c=>(j.later c).isAlive a) (λf c=>dX (m+1) x w.heap.size f (l.1.below c) c.size u) (λf c=>jb (m+1) x w.heap.size f (l.1.below c) c.size) (λh i n f c=>?_) λf c=>⟨λe=>?_,λh i=>?_,λh i n=>?_⟩
 ·obtain⟨v,z⟩:=gn.1 h;obtain⟨F,E,D⟩:=v;refine((j.later c).deliver y z x ⟨(l.1.below c).mono c.size,l.2⟩ i A t).mono ?_;rintro e w' ⟨rfl,r⟩;obtain⟨g,B,C⟩:=r;have e:s.inject p.room a (m+1) x=(s.deliver p.room 0 a (cn (m+1) x),0):=by
   unfold Sy.inject;rw[if_neg (by rw[h];decide),if_neg (by rw[i];decide),if_neg (by rw[n];decide)]
  rw[e];exact⟨rfl,rfl,g,B,((ey.later d c).un.trans C).mono (by omega) (by omega)⟩
 ·have e:s.inject p.room a (m+1) x=(s,4):=if_pos e;rw[e];exact⟨rfl,d,j.later c,o f c⟩
 ·have e:s.inject p.room a (m+1) x=(s,bL (m+1) x):=by
    unfold Sy.inject;rw[if_neg (by rw[h];decide),if_pos i]
  rw[e];exact⟨rfl,d,j.later c,o f c⟩
 ·have e:s.inject p.room a (m+1) x=(s,5):=by
    unfold Sy.inject;rw[if_neg (by rw[h];decide),if_neg (by rw[i];decide),if_pos n]
  rw[e];exact⟨rfl,d,j.later c,o f c⟩
end
section
variable {p:mO} {s:Sy} {d:gY} {w:ah}
theorem bG.takeW(h:bG p s d w){a b:Int}(X:I2 (a,b))(Z:d.wn<999999):au 129 #[.pointer (some ⟨p.b,4,none⟩),ae a,ae b] w λe w'=> (s.ways (a,b)=[]->e=aw (ax #[.agg #[ae 0,ae 0,ag ⟨#[]⟩,af none 0 0],ae 4])/\ap w w')/\ ∀t l,s.ways (a,b)=t::l->∃y:Tc,e=aw (ax #[dG 13 y,ae 0])/\cn 13 y=t/\bL 13 y=0/\aY 13 y=true/\∃z,bG p {s with ways:=iz s.ways (a,b) l} z w'/\ey 1 d z w w'/\In w'.heap.size w' 13 y/\cG (λq=>¬1<=z.ow q) 13 y:=by
 have n:=h.wy.2.2.1 (a,b);refine(Md (N:=12) h.wy.1 X Z (by have:=h.wy.2.2.2.1 (a,b);omega)).mono ?_;rintro e w' ⟨B,V⟩;refine⟨λA=>B ?_,λt l A=>?_⟩
 ·rw[A]at n;simpa using n
 ·rw[A]at n;obtain⟨y,i,v,P,Q⟩:∃y i,d.f (a,b)=y::i/\cn 13 y=t/\i.map (cn 13)=l:=by
   cases I:d.f (a,b)with
   | nil=>rw[I]at n;simp at n
   | cons y i=>
    rw[I,bB]at n;injection n with ad ah;exact⟨y,i,rfl,ad,ah⟩
  obtain⟨Y,sl,L,m,M⟩:=V y i v;have u:=h.wy.2.1;have r:∀b,d.ow b≠0->d.ow b=d.ow b:=λ_ _=>rfl;have J:∀b,d.ow b≠0->p.lo<=b/\b<w'.heap.size:=λb q=>⟨(h.low b q).1,bi (h.low b q).2 m.size⟩;have x:∀{t:Int},t≠ -1->t≠ -5->∀b,d.ow b=t->¬sS (Bj p s d) d.wo d.sl b:=λB W b e g=>by
   rcases u b g with g|g
   ·rw[g,h.own]at e;exact W e.symm
   ·exact B (e.symm.trans g)
  have H:w'.heap[p.b]?=some (.cells (eC p s d) 139):=by
   have:=L.2.1.2;simpa [Bj,eC]using this
  have K:∀C,∀g∈d.f C,bL 13 g=0/\aY 13 g=true/\In w'.heap.size w' 13 g/\cG (λq=>d.ow q=-1/\¬sS (Bj p s d) d.wo d.sl q) 13 g:=λC g o=>by
   obtain⟨D,E,F⟩:=h.wy.2.2.2.2 C g o;exact⟨D,E,fC m (λq ak G=>ak.2 G) F⟩
  obtain⟨y1,y2,ai,aj⟩:=K (a,b) y (by rw[v];simp);obtain⟨R,S⟩:=h.evK m (x (by decide) (by decide)) r;refine⟨y,Y,P,y1,y2,{d with wn:=d.wn+1,f:=iz d.f (a,b) i,sl:=sl},⟨J,H,h.own,⟨h.pgK m (x (by decide) (by decide)) r,h.pg.2⟩,h.pmK m (λq T U g=>?_) r,h.keys,λk c q=>h.psK m (aA _) (x (by have:=(h.key q).1;omega) (by have:=(h.key q).1;omega)) r J q,⟨L,λq g=>u q (M q g),λk=>?_,λk=>?_,λk g o=>?_⟩,h.bdK m (x (by decide) (by decide)) r rfl (rC H).2,R,h.evt.1,S⟩,⟨m.mono λq _ g=>?_,λ_ _=>rfl,rfl,fO _,aA _,fO _⟩,ai,aj.mono λq g=>by show¬1<=d.ow q;rw[g.1];decide⟩
  ·rcases u q g with g|g
   ·exact U g
   ·rw[T]at g;cases g
  ·by_cases j:k=(a,b)
   ·subst j;show (iz d.f (a,b) i (a,b)).map (cn 13)=iz s.ways (a,b) l (a,b);rw[dh,dh,Q]
   ·show (iz d.f (a,b) i k).map (cn 13)=iz s.ways (a,b) l k;rw[ci _ _ j,ci _ _ j];exact h.wy.2.2.1 k
  ·by_cases j:k=(a,b)
   ·subst j;show (iz d.f (a,b) i (a,b)).length<=20;rw[dh];have:=h.wy.2.2.2.1 (a,b);rw[v]at this;simp at this;omega
   ·show (iz d.f (a,b) i k).length<=20;rw[ci _ _ j];exact h.wy.2.2.2.1 k
  ·have o:g∈iz d.f (a,b) i k:=o;have aa:g∈d.f k:=by
    by_cases j:k=(a,b)
    ·subst j;rw[dh]at o;rw[v];exact cd _ o
    ·rwa [ci _ _ j]at o
   obtain⟨D,E,F,ab⟩:=K k g aa;exact⟨D,E,F,ab.mono λq O=>⟨O.1,λG=>O.2 (M q G)⟩⟩
  ·rcases u q g with g|g
   ·rw[g,h.own];decide
   ·rw[g];decide
end
theorem tZ(d:Nat)(a b:Int)(s i:Bool)(w:ah)(p:Int->Int->aq->ay->Nat->Nat->bF)(R:Int->bF)(n:Hid (au 129 #[.pointer (some ⟨d,4,none⟩),ae a,ae b] w λe w'=>(s=true->e=aw (ax #[.agg #[ae 0,ae 0,ag ⟨#[]⟩,af none 0 0],ae 4])/\Hid (∀W,ap w' W->R 4 W))/\(s=false->∃y0 y1 y2 ya yl yc,e=aw (ax #[aB y0 y1 y2 ya yl yc,ae 0])/\Hid (p y0 y1 y2 ya yl yc w'))))(k:Hid (∀y0 y1 y2 ya yl yc W c,p y0 y1 y2 ya yl yc W->ap W c->au 130 #[aF d,ae b] c λe w'=>e=aw (.bool i)/\w'=c))(l:Hid (∀y0 y1 y2 ya yl yc W c,p y0 y1 y2 ya yl yc W->ap W c->(i=true->au 131 #[aF d,ae a,ae b,aB y0 y1 y2 ya yl yc] c λe w'=>e=aw (ax #[])/\Hid (R 0 w'))/\(i=false->au 124 #[aF d,ag ⟨#[108,111,115,116]⟩,ae a,ae b,aB y0 y1 y2 ya yl yc] c λe w'=>e=aw (ax #[])/\Hid (R 0 w')))):au 88 #[aF d,ae a,ae b] w λe w'=>∃v,e=aw (ae v)/\Hid (R v w'):=by
 go_enter func88,ntmps88;go_wp2_with fail;refine n.mono ?_;rintro e f ⟨q,r⟩;cases s;rotate_left
 ·obtain⟨rfl,g⟩:=q rfl;clear q r n k l;go_wp2_with fail
  go_ret
  exact⟨4,rfl,g _ (aW _ _)⟩
 obtain⟨y0,y1,y2,ya,yl,yc,rfl,g⟩:=r rfl;clear q r n;have HB:Hid (∀o,ap f (f.alloc o)):=λo=>aW _ o;have x:Hid (∀o,(f.alloc o).heap[f.heap.size]?=some o):=λo=>aL f o;go_wp2_with fail;refine(k _ _ _ _ _ _ _ _ g (HB _)).mono ?_;rintro e y ⟨rfl,t⟩;obtain rfl:=t.symm;clear t;have h:=av (l _ _ _ _ _ _ _ _ g (HB (.cells #[ae y0,ae y1,ag y2,af ya yl yc] 54)));clear k l;cases i
 ·have m:=av (h.2 rfl);clear h;go_wp2_with fail;refine m.mono ?_;rintro e u ⟨rfl,j⟩;go_wp2_with fail
  go_ret
  exact⟨0,rfl,j⟩
 ·have m:=av (h.1 rfl);clear h;go_wp2_with fail;refine m.mono ?_;rintro e u ⟨rfl,j⟩;go_wp2_with fail
  go_ret
  exact⟨0,rfl,j⟩
section
variable {p:mO} {s:Sy} {d:gY} {w:ah}
theorem bG.arrive(y:bG p s d w){a b:Int}(z:I2 (a,b))(B:d.wn<999999)(U:d.k<=92000)(S:d.es.length<=97000):au 88 #[aF p.b,ae a,ae b] w λe w'=>∃v,e=aw (ae v)/\Hid (v=(s.arrive p.room a b).2/\∃c,bG p (s.arrive p.room a b).1 c w'/\gF 101 201 d c w w'):=by
 cases hw:s.ways (a,b)with
 | nil=>
  have e:s.arrive p.room a b=(s,4):=by unfold Sy.arrive;rw[hw]
  rw[e];refine tZ p.b a b true false w (λ_ _ _ _ _ _ _=>False) (λv w'=>v=4/\∃c,bG p s c w'/\gF 101 201 d c w w') ((y.takeW z B).mono λe w' j=>⟨λ_=>⟨(j.1 hw).1,λi g=>?_⟩,(λm=>by cases m)⟩) (λ_ _ _ _ _ _ _ _ m=>m.elim) λ_ _ _ _ _ _ _ _ m=>m.elim;have A:=(j.1 hw).2.trans (g.mono (j.1 hw).2.size);exact⟨rfl,d,y.later A,(ey.later d A).un.mono (aN _) (aN _)⟩
 | cons t l=>
  obtain⟨h,C⟩:∃h,h={s with ways:=iz s.ways (a,b) l}:=⟨_,rfl⟩;have e:s.arrive p.room a b=(if (h.get b).isSome then h.deliver p.room a b t else h.tell oX a b t,0):=by unfold Sy.arrive;rw[hw,C]
  rw[e];refine tZ p.b a b false (h.get b).isSome w (λy0 y1 y2 ya yl yc i=>∃f:Tc,(f.1=(y0,y1,y2)/\f.2.1=(ya,yc)/\f.2.2.length=yl)/\cn 13 f=t/\bL 13 f=0/\∃c,bG p h c i/\ey 1 d c w i/\In i.heap.size i 13 f/\cG (λj=>¬1<=c.ow j) 13 f) (λv w'=>v=0/\∃c,bG p (if (h.get b).isSome then h.deliver p.room a b t else h.tell oX a b t) c w'/\gF 101 201 d c w w') ((y.takeW z B).mono λe w' j=>⟨(λm=>by cases m),λ_=>?_⟩) ?_ ?_
  ·obtain⟨f,J,K,L,X,c,M,N,O,P⟩:=j.2 t l hw;exact⟨f.1.1,f.1.2.1,f.1.2.2,f.2.1.1,f.2.2.length,f.2.1.2,J,f,⟨rfl,rfl,rfl⟩,K,L,c,by rw[C];exact M,N,O,P⟩
  ·rintro y0 y1 y2 ya yl yc i F ⟨f,_,_,_,c,o,_⟩ g;exact(o.later g).isAlive b
  ·rintro y0 y1 y2 ya yl yc i F ⟨f,⟨f1,f2,f3⟩,D,kc,c,o,r,E,I⟩ g;obtain⟨⟨Y,Z,aa⟩,⟨ab,ad⟩,af⟩:=f;simp only[gS]at f1 f2;obtain⟨rfl,rfl,rfl⟩:=f1;obtain⟨rfl,rfl⟩:=f2;subst f3;have T:=r.2.2.2.1;have V:=r.2.2.1;refine⟨λq=>?_,λq=>?_⟩
   ·obtain⟨v,H⟩:=gn.1 q;obtain⟨W,R,Q⟩:=v;refine((o.later g).deliver z.2 H _ ⟨(E.below g).mono g.size,I⟩ kc (by omega) (by omega)).mono ?_;rintro G w' ⟨rfl,u⟩;obtain⟨d2,n,x⟩:=u.out;rw[D]at n;rw[if_pos q];exact⟨rfl,rfl,d2,n,((r.un.trans (ey.later c g).un).trans x).mono (by omega) (by omega)⟩
   ·refine((o.later g).tell oX a b _ _ _ _ _ _ _ (lg ((E.below g).mono g.size) kc) (by omega)).mono ?_;rintro G w' ⟨rfl,u⟩;obtain⟨d2,n,x⟩:=u.up (o.later g);rw[D]at n;rw[if_neg (by rw[q];decide)];exact⟨rfl,rfl,d2,n,((r.un.trans (ey.later c g).un).trans x.un).mono (by omega) (by omega)⟩
end
theorem NP(a:Nat)(W:ah):(binOp .eql 131 (.map (some a)) (.map none)).run Tryz.prog W=.ok (.bool false) W:=by kernel_rfl
theorem NO(W:ah):(binOp .eql 131 (.map none) (.map none)).run Tryz.prog W=.ok (.bool true) W:=by kernel_rfl
theorem Jh(b o d:Nat)(n:dd)(a F c:Int)(w w1 w2:ah)(y:Int->Int->aq->ay->Nat->Nat->bF)(k R:bF)(N:IntKind.i64.wrap (F+1)=c)(O:b<w.heap.size)(C:Hid (ai w b 3 (.map n)/\w.frozen? ⟨b,3,none⟩=false))(L:(n=none/\d=w.heap.size/\w1=(w.setCell ⟨b,3,none⟩ (.map (some d))).alloc (.map #[] 0))\/(n=some d/\w1=w))(p:Hid (ai w1 b 2 (ae F)/\w1.frozen? ⟨b,2,none⟩=false))(z:w2=w1.setCell ⟨b,2,none⟩ (ae c))(j:Hid (∀W,ap w2 W->ai W b 2 (ae c)/\ai W b 3 (.map (some d))))(u:Hid (∀W,ap w2 W->∃f,(Instr.mapUpdate 131 (.map (some d)) (ae c) (Bg o)).run Tryz.prog W=.ok () f/\(ai f b 2 (ae c)/\ai f b 3 (.map (some d)))/\Hid (k f)))(s:Hid (∀W g,k W->ap W g->ai g b 2 (ae c)))(H:Hid (∀W g,k W->ap W g->au 93 #[aF o] g λe w'=>∃y0 y1 y2 ya yl yc,e=aw (aB y0 y1 y2 ya yl yc)/\Hid (ap g w'/\y y0 y1 y2 ya yl yc w')))(I:Hid (∀y0 y1 y2 ya yl yc W,y y0 y1 y2 ya yl yc W->au 124 #[aF b,ag ⟨#[115,112,97,119,110]⟩,ae a,ae c,aB y0 y1 y2 ya yl yc] W λe w'=>e=aw (ax #[])/\Hid (R w'/\ai w' b 2 (ae c)))):au 86 #[aF b,ae a,aF o] w λe w'=>e=aw (ax #[])/\Hid (R w'):=by
 obtain⟨K,f3⟩:=C.out;have M:= @run_makeMap Tryz.prog;have m:Hid (ap w2 w2.drew):=(aH _ _).drew;have h:Hid (∀W:ah,ap W W.drew):=λW=>(aH _ _).drew;go_enter func86,ntmps86;rcases L with⟨rfl,B,i⟩|⟨rfl,i⟩
 case' inl=>
  have D:=NO;go_upto_region 2 with fail;rw[<-B,<-i];clear B
 case' inr=>
  have D:=NP d;go_upto_region 2 with fail;rw[<-i]
 all_goals
  clear K f3 i C D M;obtain⟨J,f2⟩:=p.out;go_upto_region 3 with fail;rw[<-z];clear z J f2 p;obtain⟨d2,d3⟩:=j.out _ m;obtain⟨f,E,A,l⟩:=u.out _ m;unfold Bg at E;have t:=av A;have r:=av (j _ m);clear u j;go_region_held3 (λW=>W.cell? ⟨b,2,none⟩=some (ae c)/\W.cell? ⟨b,3,none⟩=some (.map (some d))) (first|exact r|exact t) (fail);clear E r A d2 d3;have d2:=t.1;go_upto_region 4 with fail
  go_region_held3 (λW=>W.cell? ⟨b,2,none⟩=some (ae c)) (first|exact s _ _ l (h _)|exact s _ _ l G|exact q.2) ((first
   | (go_at_call 93;refine(H _ _ l (h _)).mono ?_;rintro e P ⟨y0,y1,y2,ya,yl,yc,rfl,x⟩;have G:=av ((h f).trans (x.1.mono (h f).size)))
   | (go_at_call 124;refine(I _ _ _ _ _ _ _ x.2).mono ?_;rintro e Q ⟨rfl,q⟩)))
  go_wp2_with fail;exact eG (v:=ax #[]) (by simp[results]) rfl ⟨rfl,q.1⟩
section
variable {p:mO} {s:Sy} {d:gY} {w:ah}
def OV(M:aX)(a:Nat)(d b:gY)(w w':ah):Prop:=bH (λq=>d.ow q<0) w w'/\(∀q,q<w.heap.size->¬M q->b.ow q=d.ow q)/\(∀q,M q->1<=b.ow q)/\b.k=d.k/\b.es.length<=d.es.length+a/\b.wn<=d.wn+a/\b.bn<=d.bn+a
theorem pL{b:Type}(l:List (Int×b))(k j:Int)(v:b)(c:∀q∈l,q.1≠k):((l++ [(k,v)]).find? λq=>q.1==j)=if j=k then some (k,v)else l.find? λq=>q.1==j:=by
 rw[List.find?_append];by_cases a:j=k
 ·subst a;rw[if_pos rfl,qe.2 λq d=>by simpa using c q d];simp
 ·rw[if_neg a];have:(k==j)=false:=by simpa using λe:k=j=>a e.symm
  simp[this]
def Pl(d:gY)(M:aX)[DecidablePred M](a:Nat)(k:Int)(q:Nat):Int:=if M q then k else if q=a then -5 else d.ow q
theorem bG.addG(e:bG p s d w){m c:Nat}{nm:aq}{cs:Tc}{M:aX}[DecidablePred M](B:P1 p.lo m nm p.room cs [] (d.k+201) M w)(A:∀q,M q->d.ow q=0)(aa:s.ps.length<12/\s.last<90){w':ah}(f:bH (λq=>d.ow q=-5) w w')(P:d.ow c≠0->d.ow c=-5)(N:¬M c)(O:p.lo<=c/\c<w'.heap.size)(Q:c≠p.b)(o:w'.heap[p.b]?=some (.cells (eC p {s with last:=s.last+1} {d with po:=some c}) 139))(L:IM w' c (d.l++ [(s.last+1,m)])):bG p {s with last:=s.last+1,ps:=s.ps++ [(s.last+1,nm,cs,[])]} {d with ow:=Pl d M c (s.last+1),po:=some c,l:=d.l++ [(s.last+1,m)]} w':=by
 obtain⟨y,J,z,X,Y,Z⟩:=e.keys;have i:∀b,d.ow b≠0->Pl d M c (s.last+1) b=d.ow b:=λb h=>by
  unfold Pl;rw[if_neg λa=>h (A b a)];by_cases g:b=c
  ·subst g;rw[if_pos rfl,P h]
  ·rw[if_neg g]
 have r:∀b,Pl d M c (s.last+1) b≠0->p.lo<=b/\b<w'.heap.size:=λb h=>by
  unfold Pl at h;split at h
  ·rename_i a;have:=P1.lie2 B b a;exact⟨this.1,bi this.2 f.size⟩
  ·split at h
   ·rename_i a;subst a;exact O
   ·exact⟨(e.low b h).1,bi (e.low b h).2 f.size⟩
 have t:∀{t:Int},t≠ -5->∀b,d.ow b=t->¬d.ow b=-5:=λT b g a=>T (g.symm.trans a);have n:∀q∈s.ps,q.1≠s.last+1:=λq j=>by have:=(z q j).2;omega
 have R:∀q∈d.l,q.1≠s.last+1:=λq j=>by
  have K:q.1∈s.ps.map (·.1):=by rw[<-y];exact cg.2 ⟨q,j,rfl⟩
  obtain⟨v,u,g⟩:=cg.1 K;rw[<-g];exact n v u
 obtain⟨y1,y2,W⟩:=e.wyK f (t (by decide)) i (q:=Bj p {s with last:=s.last+1} {d with po:=some c}) rfl (rC o).1;obtain⟨H,I⟩:=e.evK f (t (by decide)) i;refine⟨r,o,(i p.b (by rw[e.own];decide)).trans e.own,⟨e.pgK f (t (by decide)) i,e.pg.2⟩,am ⟨c,rfl,(if_neg N).trans (if_pos rfl),Q,L⟩,⟨by simp[y],?_,λq j=>?_,by show 0<=s.last+1;omega,by show s.last+1<=90;omega,by simp;omega⟩,λk b q=>?_,⟨y1,y2,e.wy.2.2.1,e.wy.2.2.2.1,W⟩,e.bdK f (t (by decide)) i rfl (rC o).2,H,e.evt.1,I⟩
 ·simp only[fw,bB,dB];refine fM.2 ⟨J,by simp,λab U ad V=>?_⟩;obtain⟨v,u,rfl⟩:=cg.1 U;rw[dP.1 V];exact n v u
 ·show 1<=q.1/\q.1<=s.last+1;rcases dv.1 j with a|a
  ·have:=z q a;omega
  ·rw[dP.1 a];show 1<=s.last+1/\s.last+1<=s.last+1;omega
 ·have q:dq (d.l++ [(s.last+1,m)]) k=some b:=q;unfold dq at q;rw[pL _ _ _ _ R]at q;by_cases g:k=s.last+1
  ·subst g;rw[if_pos rfl]at q;obtain rfl:m=b:=by simpa using q
   refine⟨nm,cs,[],?_,(B.kept (S:=λq=>d.ow q=-5) ⟨f.os,f.tape,f.output,f.size,f.block⟩ λb a=>by rw[A b a];decide).mono (λb a=>if_pos a) (aA _) λb a=>r b (by have a:Pl d M c (s.last+1) b=s.last+1:=a;rw[a];omega),aN _⟩;unfold Sy.get;simp only;rw[pL _ _ _ _ n,if_pos rfl];rfl
  ·rw[if_neg g]at q;have C:dq d.l k=some b:=q;have:=(e.key C).1;obtain⟨D,E,F,x,G⟩:=e.psK f (aA _) (t (by omega)) i r C;refine⟨D,E,F,?_,G⟩;unfold Sy.get at x ⊢;simp only;rw[pL _ _ _ _ n,if_neg g];exact x
open Classical in
theorem bG.add(n:bG p s d w)(a:Int){y:Nat}{nm:aq}{cs:Tc}{M:aX}(H:P1 p.lo y nm p.room cs [] (d.k+201) M w)(V:∀q,M q->d.ow q=0)(aU:s.ps.length<12/\s.last<90)(aa:d.k<=92000)(bd:d.es.length<=99000):au 86 #[aF p.b,ae a,aF y] w λe w'=>e=aw (ax #[])/\Hid (∃B,bG p (s.add a nm cs) B w'/\OV M 1 d B w w'):=by
 obtain⟨aT,ag⟩:=n.lo;have L:=n.box;obtain⟨a8,a9,ba,aA⟩:=n.cells;obtain⟨_,_,aE,bb,bc,_⟩:=n.keys;have Z:∀{h:ah}{cs:Array az}{o:Nat},h.heap[p.b]?=some (.cells cs 139)->h.frozen? ⟨p.b,o,none⟩=false:=λe=>by simp[World.frozen?,e]
 obtain⟨c,m,aV,I,aG,aN,N,aI,O,af⟩:∃c m,((d.po=none/\c=w.heap.size/\m=(w.setCell ⟨p.b,3,none⟩ (.map (some c))).alloc (.map #[] 0))\/(d.po=some c/\m=w))/\m.heap[p.b]?=some (.cells (eC p s {d with po:=some c}) 139)/\IM m c d.l/\bH (λq=>d.ow q=-5) w m/\(c<w.heap.size->d.ow c=-5)/\¬M c/\c≠p.b/\p.lo<=c/\c<m.heap.size:=by
  rcases n.pm with⟨z,t⟩|⟨c,z,t,G,aD⟩
  ·have aK:(w.setCell ⟨p.b,3,none⟩ (.map (some w.heap.size))).heap[p.b]?=some (.cells (eC p s {d with po:=some w.heap.size}) 139):=by
     simp[World.setCell,bS,L,eC]
   have Q:(w.setCell ⟨p.b,3,none⟩ (.map (some w.heap.size))).heap.size=w.heap.size:=by simp[World.setCell]
   have aa:bH (λq=>d.ow q=-5) w ((w.setCell ⟨p.b,3,none⟩ (.map (some w.heap.size))).alloc (.map #[] 0)):=((bO w p.b 3 _).mono λq _ e=>by rw[e];exact n.own).trans (aR (aW _ _) λ_=>False) λ_ _ e=>e.elim;refine⟨w.heap.size,_,ak ⟨z,rfl,rfl⟩,(heap_alloc_old _ _ (by rw[Q];exact ag)).trans aK,?_,aa,λg=>by omega,λg=>?_,by omega,aT,?_⟩
   ·rw[t];have:=xy.new (f:=Bg) (w.setCell ⟨p.b,3,none⟩ (.map (some w.heap.size)));rw[Q]at this;exact this
   ·have:=(P1.lie2 H _ g).2;omega
   ·have:=aL (w.setCell ⟨p.b,3,none⟩ (.map (some w.heap.size))) (.map #[] 0);rw[Q]at this;exact(aS.1 this).1
  ·refine⟨c,w,am ⟨z,rfl⟩,?_,aD,bH.refl _ _,λ_=>t,λg=>?_,G,n.low c (by rw[t];decide)⟩
   ·rw[L];unfold eC;rw[z]
   ·have:=V c g;rw[t]at this;cases this
 obtain⟨x,E⟩:∃x,x=m.setCell ⟨p.b,2,none⟩ (ae (s.last+1)):=⟨_,rfl⟩;have J:x.heap[p.b]?=some (.cells (eC p {s with last:=s.last+1} {d with po:=some c}) 139):=by
  rw[E];simp[World.setCell,bS,I,eC]
 have bg:x.heap.size=m.heap.size:=by rw[E];simp[World.setCell]
 have ab:bH (λq=>q=p.b) m x:=by rw[E];exact bO m p.b 2 _
 have aO:bH (λq=>d.ow q=-5) w x:=aN.trans ab λq _ e=>by rw[e];exact n.own
 have aH:IM x c d.l:=aG.kept (ab.block c af.2 O);obtain⟨A,D⟩:∃A:Sy,A={s with last:=s.last+1,ps:=s.ps++ [(s.last+1,nm,cs,[])]}:=⟨_,rfl⟩;obtain⟨d3,u⟩:∃d3:gY,d3={d with ow:=Pl d M c (s.last+1),po:=some c,l:=d.l++ [(s.last+1,y)]}:=⟨_,rfl⟩;have P:dq d.l (s.last+1)=none:=by
  cases e:dq d.l (s.last+1)with
  | none=>rfl
  | some b=>have:=(n.key e).2;omega
 have aM:dq d3.l (s.last+1)=some y:=by
  rw[u];show dq (d.l++ [(s.last+1,y)]) (s.last+1)=_;unfold dq at P ⊢;rw[List.find?_append,Option.map_eq_none_iff.1 P];simp
 have aQ:A.last=s.last+1:=by rw[D]
 refine Jh p.b y c d.po a s.last (s.last+1) w m x (λy0 y1 y2 ya yl yc h=>∃i:Tc,(i.1=(y0,y1,y2)/\i.2.1=(ya,yc)/\i.2.2.length=yl)/\In h.heap.size h 13 i/\bL 13 i=0/\cn 13 i=cs/\bG p A d3 h/\bH (λq=>d.ow q=-5) w h) (λh=>bG p A d3 h/\bH (λq=>d.ow q=-5) w h) (λw'=>∃B,bG p (s.add a nm cs) B w'/\OV M 1 d B w w') (by rw[IntKind.wrap];simp[IntKind.bits,IntKind.signed];omega) ag ⟨aA,Z L⟩ aV ⟨aj I 2,Z I⟩ E (λh j=>?_) (λh j=>?_) (λh ay C j=>?_) (λh ay C j=>?_) (λy0 y1 y2 ya yl yc h aJ=>?_)
 ·have X:=fk j J;exact⟨aj X 2,aj X 3⟩
 ·obtain⟨S,a2,a3,an,bj⟩:=(xy.put (aH.kept (j.block c (by omega))) underlying131 P y);have K:S.heap[p.b]?=_:=(an.block p.b (bi (aS.1 J).1 j.size) O.symm).trans (fk j J);have ad:bH (λq=>d.ow q=-5) w S:=by
   have aP:bH (λq=>d.ow q=-5) w h:=aO.trans (aR j λ_=>False) λ_ _ e=>e.elim;exact aP.trans an λq r e=>by rw[e]at r ⊢;exact N r
  refine⟨S,a2,⟨aj K 2,aj K 3⟩,?_,ad⟩;rw[D,u];exact n.addG H V aU ad (λg=>N (n.low _ g).2) aI ⟨af.1,by have:=j.size;omega⟩ O K a3
 ·have:=(C.1.later j).cells.2.2.1;rw[aQ]at this;exact this
 ·have W:=C.1.later j;obtain⟨a1,aC,aB,v,R,bh⟩:=W.ps _ _ aM;have e:A.get (s.last+1)=some (nm,cs,[]):=by
   rw[D];unfold Sy.get;simp only;rw[pL _ _ _ _ λq r=>by have:=(aE q r).2;omega,if_pos rfl];rfl
  rw[e]at v;obtain⟨rfl,rfl,rfl⟩:nm=a1/\cs=aC/\[]=aB:=by
   injection v with v;injection v with z t;injection t with t G;exact⟨z,t,G⟩
  have bf:d3.k=d.k:=by rw[u]
  refine(R.state (by omega)).mono ?_;rintro e w' ⟨i,rfl,F⟩;obtain⟨y1,y2,bk,a6,a7⟩:=F.out;exact⟨i.1.1,i.1.2.1,i.1.2.2,i.2.1.1,i.2.2.length,i.2.1.2,rfl,y1,i,⟨rfl,rfl,rfl⟩,y2,a6,a7,W.later y1,(C.2.trans (aR j λ_=>False) λ_ _ e=>e.elim).trans (aR y1 λ_=>False) λ_ _ e=>e.elim⟩
 ·obtain⟨i,⟨f1,f2,f3⟩,aY,aZ,a0,ai,al⟩:=aJ;obtain⟨⟨bl,bm,bn⟩,⟨bo,bp⟩,bq⟩:=i;simp only[gS]at f1 f2;obtain⟨rfl,rfl,rfl⟩:=f1;obtain⟨rfl,rfl⟩:=f2;subst f3;have Y:d3.es=d.es:=by rw[u]
  refine(ai.tell Ap a (s.last+1) _ _ _ _ _ _ _ (lg aY aZ) (by rw[Y];omega)).mono ?_;rintro e w' ⟨rfl,F⟩;obtain⟨d4,v,R⟩:=F.up ai;rw[a0,D]at v;refine⟨rfl,⟨d4,v,?_⟩,?_⟩
  ·obtain⟨a4,ao,a5,ap,ar,av⟩:=R;have T:∀q,q<w.heap.size->¬M q->d3.ow q=d.ow q:=λq r g=>by
    rw[u];refine(if_neg g).trans ?_;by_cases e:q=c
    ·rw[if_pos e,e];exact(N (e▸r)).symm
    ·exact if_neg e
   have U:∀q,M q->d3.ow q=s.last+1:=λq g=>by
    rw[u];exact if_pos g
   have be:=al.size;refine⟨(al.mono λq _ e=>by rw[e];decide).trans a4 λq r e=>?_,λq r g=>(ao q (by omega)).trans (T q r g),λq g=>?_,by rw[a5,u],by rw[Y]at ap;exact ap,by rw[u]at ar;exact ar,by rw[u]at av;exact av⟩
   ·by_cases g:M q
    ·rw[U q g]at e;omega
    ·rw[T q r g]at e;exact e
   ·have:=(P1.lie2 H q g).2;rw[ao q (by omega),U q g];omega
  ·have:=v.cells.2.2.1;exact this
end
theorem FC(c:Nat)(nm:aq)(f g:Int)(h:aq)(xa:ay)(i xc:Nat)(room ne t:Int)(may o:Bool)(w:ah)(C:Nat->bF)(R:Int->Int->bF)(ak:c<w.heap.size)(T:Hid (ai w c 1 (ae room)))(J:Hid (∀W,ap w W->au 83 #[aF c,ae 1] W λe w'=>e=aw (.bool may)/\w'=W))(z:Hid (∀W,ap w W->au 84 #[aF c,ag nm] W λe w'=>e=aw (.bool o)/\ap W w'))(r:Hid (∀W,ap w W->au 85 #[ag nm,aB f g h xa i xc,ae room] W λe w'=>∃p:ay,e=aw (ax #[.pointer p,ae ne])/\Hid (ap W w'/\(ne=0->∃b,p=some ⟨b,0,none⟩/\C b w'))))(l:Hid (∀b W,(may && o)=true->ne=0->C b W->au 86 #[aF c,ae 0,aF b] W λe w'=>e=aw (ax #[])/\Hid (R t 0 w'/\ai w' c 2 (ae t))))(j:Hid (∀W,ap w W->(may=false->R 0 2 W)/\((may && !o)=true->R 0 4 W)/\((may && o)=true->ne≠0->R 0 ne W))):au 56 #[aF c,ag nm,aB f g h xa i xc] w λe w'=>∃v Q,e=aw (ax #[ae v,ae Q])/\Hid (R v Q w'):=by
 go_enter func56,ntmps56;go_upto_region 1 with fail;generalize O:w.alloc _=G;have u:Hid (ap w G/\G.heap[w.heap.size]?=some (.cells #[ae f,ae g,ag h,af xa i xc] 54)):=by
  rw[<-O];exact⟨aW _ _,aL _ _⟩
 clear O;obtain⟨a,E⟩:∃a,a=w.heap.size:=⟨_,rfl⟩;rw[<-E];have K:Hid (G.heap[a]?=some (.cells #[ae f,ae g,ag h,af xa i xc] 54)):=by rw[E];exact u.2
 have HB:=av u.1;clear E u;go_wp2_with fail;refine(J _ HB).mono ?_;rintro e ao ⟨rfl,P⟩;obtain rfl:=P.symm;clear P J;cases may
 ·have d:=av ((j _ HB).1 rfl);clear l j r z;go_wp2_with fail;exact aE (v:=ax #[ae 0,ae 2]) (by simp[results,results56,go_sem]) rfl ⟨0,2,rfl,d⟩
 go_wp2_with fail;refine(z _ HB).mono ?_;rintro e H ⟨rfl,D⟩;have m:=av (HB.trans (D.mono HB.size));have A:=av (fk D K);clear z K HB D;cases o
 ·have d:=av ((j _ m).2.1 rfl);clear l j r;go_wp2_with fail;exact aE (v:=ax #[ae 0,ae 4]) (by simp[results,results56,go_sem]) rfl ⟨0,4,rfl,d⟩
 have y:Hid (ap H H.drew):=(aH _ _).drew;have n:=av (m.trans (y.mono m.size));have B:=av (fk y A);have q:Hid (∀W:ah,ap w W->W.heap[a]?=some (.cells #[ae f,ae g,ag h,af xa i xc] 54)->ai W c 1 (ae room)/\ai W a 0 (ae f)/\ai W a 1 (ae g)/\ai W a 2 (ag h)/\ai W a 3 (af xa i xc)):=λW ad s=>⟨(ad.cell (p:=⟨c,1,none⟩) ak).trans T,aj s 0,aj s 1,aj s 2,aj s 3⟩;obtain⟨Z,V,X,N,Y⟩:=q.out H m A;go_upto_region 5 with fail
 go_region_held3 (λW=>W.cell? ⟨c,1,none⟩=some (ae room)/\W.cell? ⟨a,0,none⟩=some (ae f)/\W.cell? ⟨a,1,none⟩=some (ae g)/\W.cell? ⟨a,2,none⟩=some (ag h)/\W.cell? ⟨a,3,none⟩=some (af xa i xc))
  (first|exact q _ n B|exact q _ x L) ((first
   | (go_at_call 85;refine(r _ n).mono ?_;rintro e am ⟨al,rfl,k⟩;have L:=av (fk k.1 B);have x:=av (n.trans (k.1.mono n.size)))))
 have d:=av (j _ x);clear Z V X N Y q B n y A m j r L x;by_cases F:ne=0
 ·subst F;obtain⟨b,rfl,M⟩:∃b,al=some ⟨b,0,none⟩/\Hid (C b am):=by
   obtain⟨b,aa,ab⟩:=k.out.2 rfl;exact⟨b,aa,ab⟩
  have S:=av (l _ _ rfl rfl M);clear l M k d;go_wp2_with fail;refine S.mono ?_;rintro e ar ⟨rfl,I⟩;have N:=I.2;go_wp2_with fail;exact aE (v:=ax #[ae t,ae 0]) (by simp[results,results56,go_sem]) rfl ⟨t,0,rfl,I.1⟩
 ·have U:=av (d.2.2 rfl F);have an:(ne==0)=false:=by simpa using F
  clear l k d;go_wp2_with fail;exact aE (v:=ax #[ae 0,ae ne]) (by simp[results,results56,go_sem]) rfl ⟨0,ne,rfl,U⟩
section
variable {p:mO} {s:Sy} {d:gY} {w:ah}
theorem Lo{n:Nat}(a:s.may n=true):s.ps.length+n<=12/\s.last+n<=90:=by
 unfold Sy.may at a;simp only[aT,cV]at a;omega
theorem bG.start(j:bG p s d w)(nm:aq)(O:nm.size<=9223372036854775807){m:Nat}(x:Tm (m+1))(P:In w.heap.size w (m+1) x)(K:(aI (m+1) x).length<=2097152)(M:d.k<=92000)(J:d.es.length<=99000):au 56 #[aF p.b,ag nm,dG (m+1) x] w λe w'=>∃v r,e=aw (ax #[ae v,ae r])/\Hid ((r=(s.start p.n p.prog p.room nm (m+1) x).2/\(r=0->v=s.last+1))/\∃i,bG p (s.start p.n p.prog p.room nm (m+1) x).1 i w'/\gF 1 0 d i w w'):=by
 obtain⟨q,f⟩:∃q,q=s.start p.n p.prog p.room nm (m+1) x:=⟨_,rfl⟩;rw[<-f];unfold Sy.start at f;have B:∀a,ap w a->q.1=s->∃i,bG p q.1 i a/\gF 1 0 d i w a:=λa c e=>⟨d,by rw[e];exact j.later c,(ey.later d c).un.mono (aN _) (aA _)⟩;refine FC p.b nm x.1.1 x.1.2.1 x.1.2.2 x.2.1.1 x.2.2.length x.2.1.2 p.room (fx (m+1) x p.room nm) (s.last+1) (s.may 1) (lX p.n p.prog nm) w (λy a=>∃u,ap w u/\ap u a/\P1 p.lo y nm p.room (cn (m+1) x) [] (d.k+201) (λb=>u.heap.size<=b/\b<a.heap.size) a) (λv r w'=>(r=q.2/\(r=0->v=s.last+1))/\∃i,bG p q.1 i w'/\gF 1 0 d i w w') j.lo.2 j.cells.2.1 (λa c=>(j.later c).mayHave 1 (by decide)) (λa c=>(j.later c).knows nm) (λa c=>?_) (λy a l t L=>?_) λa c=>⟨λe=>?_,λe=>?_,λe t=>?_⟩
 ·refine(P1.new m x p.room nm a O ((P.below c).mono c.size) K).mono ?_;rintro e w' ⟨g,rfl,z⟩;obtain⟨o,E,C⟩:=z.out;refine⟨g,rfl,o,λe=>?_⟩;obtain⟨y,l,t,V,G⟩:=C e;have:=j.lo.1;have:=c.size;exact⟨y,l,a,c,o,G.mono (λb h=>h) (by omega) λb h=>⟨by omega,h.2⟩⟩
 ·simp only[aT]at l;rw[if_neg (by rw[l.1];decide),if_neg (by rw[l.2];decide),if_neg (by rw[t];decide)]at f;obtain⟨u,o,E,C⟩:=L;have A:=o.trans (E.mono o.size);have I:=j.later A;have Z:=o.size;have W:=Lo l.1;refine(I.add 0 C (λg h=>?_) (by omega) M J).mono ?_
  ·have:=j.low g;by_cases F:d.ow g=0
   ·exact F
   ·have:=(this F).2;omega
  ·rintro e w' ⟨rfl,z⟩;obtain⟨i,D,H⟩:=z;refine⟨rfl,⟨⟨by rw[f],λ_=>rfl⟩,i,by rw[f];exact D,?_⟩,D.cells.2.2.1⟩;obtain⟨Q,R,aa,S,U⟩:=H;have N:bH (λg=>d.ow g≠0) w a:=aR A _;have Y:=A.size;exact⟨N.trans (Q.mono (T:=λg=>d.ow g≠0) λg _ e=>by omega) λg _ e=>e,λg X=>R g (by omega) λh=>by omega,cT S,U⟩
 ·rw[if_pos e]at f;exact⟨⟨by rw[f],(λh=>by cases h)⟩,B a c (by rw[f])⟩
 ·simp only[aT,p8]at e;rw[if_neg (by rw[e.1];decide),if_pos e.2]at f;exact⟨⟨by rw[f],(λh=>by cases h)⟩,B a c (by rw[f])⟩
 ·simp only[aT]at e;rw[if_neg (by rw[e.1];decide),if_neg (by rw[e.2];decide),if_pos t]at f;exact⟨⟨by rw[f],λh=>absurd h t⟩,B a c (by rw[f])⟩
end
theorem Pf:(Tryz.prog.info? 141).map (λi=>(i.zero,i.size,i.bytes))=some (some (.pointer none),1,8):=by kernel_rfl
theorem IE(m:Nat)(pa:ay)(pl pc:Nat)(may:Bool)(room:Int)(w:ah)(aA u x:Nat->Int)(nm y:Nat->aq)(xa:Nat->ay)(z xc:Nat->Nat)(l:Nat->Bool)(ne:Nat->Int)(r:Nat->List Nat->az->bF)(N:Nat->Nat->List Nat->az->bF)(R:az->Bool->bF)(bM:pl<=1000)(bG:m<w.heap.size)(aX:Hid (ai w m 1 (ae room)))(V:Hid (∀j,j<pl->∃g,pa=some ⟨g,0,none⟩/\g<w.heap.size/\Hid (ai w g (j*6) (ae (aA j))/\ai w g (j*6+1) (ag (nm j))/\ai w g (j*6+2) (ae (u j))/\ai w g (j*6+3) (ae (x j))/\ai w g (j*6+4) (ag (y j))/\ai w g (j*6+5) (af (xa j) (z j) (xc j)))))(a0:Hid (au 83 #[aF m,ae pl] w λe w'=>e=aw (.bool may)/\w'=w))(Y:Hid (∀j W,j<pl->ap w W->au 84 #[aF m,ag (nm j)] W λe w'=>e=aw (.bool (l j))/\ap W w'))(Z:Hid (∀j d v W,j<pl->l j=true->ap w W->r j d v W->au 85 #[ag (nm j),.agg #[ae (u j),ae (x j),ag (y j),af (xa j) (z j) (xc j)],ae room] W λe w'=>∃p:ay,e=aw (ax #[.pointer p,ae (ne j)])/\Hid (ap W w'/\(ne j=0->∃k,p=some ⟨k,0,none⟩/\N j k d v w'))))(al:Hid (r 0 [] (af none 0 0) w))(q:Hid (∀j d v W D,r j d v W->ap W D->r j d v D))(M:Hid (∀j k d a c g bt W aM D,j<pl->N j k d (af a j c) W->ap W aM->aM.grownBy D (Value.slice a j c).ownBlock->((Value.slice a j c).ownBlock=some g\/g=aM.heap.size)->g<D.heap.size->r (j+1) (d++ [k]) (af (some ⟨g,0,none⟩) (j+1) bt) D))(K:Hid (∀W,ap w W->(may=false\/∃j,j<pl/\(l j=false\/ne j≠0))->R (af none 0 0) false W))(ab:Hid (∀W d a c,ap w W->may=true->(∀j,j<pl->l j=true/\ne j=0)->d.length=pl->W.ownsRow w.heap.size 141 1 (af a pl c) pl (d.map Bg)->r pl d (af a pl c) W->R (af a pl c) true W)):au 126 #[aF m,af pa pl pc] w λe w'=>∃v b,e=aw (ax #[v,.bool b])/\Hid (R v b w'):=by
 obtain⟨bH,hit,bh,bi,bj⟩:=bT Pf;have X:=av (⟨hit,bh,bi,bj⟩:_/\_/\_/\_);clear hit bh bi bj;go_enter func126,ntmps126;go_wp2_with fail;refine a0.mono ?_;rintro e bQ ⟨rfl,bk⟩;obtain rfl:=bk.symm;clear bk a0;cases may
 ·have n:=av (K _ (aH _ _) (ak rfl));clear K ab M al q Z Y V;go_wp2_with fail;exact aE (v:=ax #[af none 0 0,.bool false]) (by simp[results,results126,go_sem]) rfl ⟨_,_,rfl,n⟩
 go_wp2_with fail;go_loopw [6,18] (λo i wr=>∃(j:Nat)(a:ay)(c:Nat),j<=pl/\i=ae j/\o=af a j c/\Hid (∃d,d.length=j/\wr.ownsRow w.heap.size 141 1 (af a j c) j (d.map Bg)/\r j d (af a j c) wr/\ap w wr/\∀i,i<j->l i=true/\ne i=0)) (λ_ i _=>pl-(intOf i).toNat)
 case atStart=>exact⟨0,none,0,aN _,rfl,rfl,[],rfl,eX _ _ _ _,al,aH _ _,λi h=>by omega⟩
 case round=>
 obtain⟨j,a,c,bL,rfl,rfl,aa⟩:=hrel;by_cases Q:j<pl
 ·obtain⟨g,rfl,bE,aY⟩:=V.out j Q;obtain⟨d,P,S,U,E,T⟩:=aa.out;have a5:=av S;have a9:=av U;have HB:=av E;have a4:=av T;have bC:=av P;have s:∀{f:Nat}{v:az},ai w g f v->ai wr g f v:=λ{f v} h=>(E.cell (p:=⟨g,f,none⟩) bE).trans h;obtain⟨ba,ao,ar,bb,bc,bd⟩:=aY.out;have f0:=s ba;have f1:=s ao;have f2:=s ar;have f3:=s bb;have f4:=s bc;have f5:=s bd;have bO:(0:Int)<=(j:Int):=by omega
  have bP:(j:Int)<(pl:Int):=by omega
  clear s ba ao ar bb bc bd aY V S U E T P aa;go_upto_region 7 with fail;generalize bl:wr.alloc _=aB;have F:Hid (ap wr aB/\aB.heap[wr.heap.size]?=some (.cells #[ae (aA j),ag (nm j),ae (u j),ae (x j),ag (y j),af (xa j) (z j) (xc j)] 247)):=by
   rw[<-bl];exact⟨aW _ _,aL _ _⟩
  clear bl f0 f1 f2 f3 f4 f5;obtain⟨f,aS⟩:∃f,f=wr.heap.size:=⟨_,rfl⟩;rw[<-aS];have aI:Hid (aB.heap[f]?=some (.cells #[ae (aA j),ag (nm j),ae (u j),ae (x j),ag (y j),af (xa j) (z j) (xc j)] 247)):=by rw[aS];exact F.2
  have G:=av (HB.trans (F.1.mono HB.size));have a7:=av (q _ _ _ _ _ a9 F.1);have a1:=av (bD a5 (aR F.1 λ_=>False) λ_ _ h=>h);clear aS F a5 a9 HB;have C:Hid (∀W:ah,ap w W->W.heap[f]?=some (.cells #[ae (aA j),ag (nm j),ae (u j),ae (x j),ag (y j),af (xa j) (z j) (xc j)] 247)->ai W m 1 (ae room)/\ai W f 1 (ag (nm j))/\ai W f 2 (ae (u j))/\ai W f 3 (ae (x j))/\ai W f 4 (ag (y j))/\ai W f 5 (af (xa j) (z j) (xc j))):=λW aP h=>⟨(aP.cell (p:=⟨m,1,none⟩) bG).trans aX,aj h 1,aj h 2,aj h 3,aj h 4,aj h 5⟩;have aO:=(C aB G aI).2.1;have aZ:=av (λW=>Y j W Q);have aC:=av (λd v W=>Z j d v W Q);have L:=av (λW aP e=>K W aP (am ⟨j,Q,e⟩));have aG:Hid (l j=true->ne j=0->∀i,i<j+1->l i=true/\ne i=0):=λbA bB i bK=>by
   by_cases e:i=j
   ·subst e;exact⟨bA,bB⟩
   ·exact a4 i (by omega)
  clear Y Z K ab aX a4 al;generalize l j=bI at*;generalize ne j=bm at*;go_wp2_with fail;refine(aZ _ G).mono ?_;rintro e aU ⟨rfl,O⟩;have B:=av (G.trans (O.mono G.size));have ad:=av (fk O aI);have aK:=av (q _ _ _ _ _ a7 O);have aD:=av (bD a1 (aR O λ_=>False) λ_ _ h=>h);clear aZ G aI a7 a1 O aO;cases bI
  ·have n:=av (L _ B (ak rfl));clear L aC C aK aD ad B M q aG;go_wp2_with fail;exact aE (v:=ax #[af none 0 0,.bool false]) (by simp[results,results126,go_sem]) rfl ⟨_,_,rfl,n⟩
  have J:Hid (ap aU aU.drew):=(aH _ _).drew;have I:=av (B.trans (J.mono B.size));have aJ:=av (fk J ad);have a8:=av (q _ _ _ _ _ aK J);have a3:=av (bD aD (aR J λ_=>False) λ_ _ h=>h);obtain⟨bx,aO,bu,bv,bw,an⟩:=C.out aU B ad;clear aD aK;go_upto_region 9 with fail
  go_region_held3 (λW=>W.cell? ⟨m,1,none⟩=some (ae room)/\W.cell? ⟨f,1,none⟩=some (ag (nm j))/\W.cell? ⟨f,2,none⟩=some (ae (u j))/\W.cell? ⟨f,3,none⟩=some (ae (x j))/\W.cell? ⟨f,4,none⟩=some (ag (y j))/\W.cell? ⟨f,5,none⟩=some (af (xa j) (z j) (xc j)))
   (first|exact C _ I aJ|exact C _ H a6) ((first
    | (go_at_call 85;refine(aC _ _ _ (by first|rfl|trivial) I a8).mono ?_;rintro e aV ⟨bJ,rfl,A⟩;have a6:=av (fk A.1 aJ);have H:=av (I.trans (A.1.mono I.size));have a2:=av (bD a3 (aR A.1 λ_=>False) λ_ _ h=>h))))
  clear bx aO bu bv bw an C aJ I J ad B aC a6 a8 a3;by_cases aT:bm=0
  ·subst aT;obtain⟨k,rfl,bq⟩:∃k,bJ=some ⟨k,0,none⟩/\Hid (N j k d (af a j c) aV):=by
    obtain⟨k,ao,ar⟩:=A.out.2 rfl;exact⟨k,ao,ar⟩
   have bp:=av H.size;clear L A
   go_wp2_with (first
    | (at_builtin;refine wpList_append_lies _ rfl _ _ 203 rfl w.heap.size 141 bH _ 1 8 underlying203 X.1 X.2.1 X.2.2.1 X.2.2.2 rfl (by decide) (af a j c) j (d.map Bg) rfl (a2.alloc _) ⟨aV.heap.size,0,none⟩ 1 1 [aF k] rfl rfl (World.news_of_block (cs:= #[aF k]) (t:=141) (fr:=(0,0)) (aL aV _)) (by simp[Value.oneCell']) (by decide) (by unfold maxLen;omega) (by omega) (by have:=bp.out;simp;omega) _ rfl ?_;intro bz an bR bg aQ be bf;have bo:=av bg;have bs:=av (M _ _ _ _ _ _ an _ _ _ Q bq (aW _ _) aQ be bf);have bn:=av (H.trans (kP a2 aQ H.size));clear bg aQ be bf))
   go_roundw
   case rel=>exact⟨j+1,some ⟨bz,0,none⟩,an,by omega,by go_num,rfl,d++ [k],by rw[br,bC.out];rfl,by rw[fw];exact bo,bs,bn,aG trivial rfl⟩
   case measure=>simp[intOf];omega
  ·have n:=av (L _ H (am aT));have bN:(bm==0)=false:=by simpa using aT
   clear L A M q aG;go_wp2_with fail;exact aE (v:=ax #[af none 0 0,.bool false]) (by simp[results,results126,go_sem]) rfl ⟨_,_,rfl,n⟩
 ·obtain rfl:j=pl:=by omega
  obtain⟨d,P,S,U,E,T⟩:=aa.out;have n:=av (ab _ d _ _ E trivial T P S U);clear K ab M al q Z Y V aa P S U E T;go_wp2_with fail;exact aE (v:=ax #[af a j c,.bool true]) (by simp[results,results126,go_sem]) rfl ⟨_,_,rfl,n⟩
theorem wP{d:Type}(f:d->List az)(k:Nat)(c:∀a,(f a).length=k):(l:List d)->(i:Nat)->(a:d)->l[i]?=some a->∀(t:Nat)(b:az),(f a)[t]?=some b->(l.flatMap f)[i*k+t]?=some b
 | [],i,a,h,_,_,_=>by simp at h
 | x::l,0,a,h,t,b,hu=>by
  simp at h;subst h;rw[bM,dO (by have:=(bj.1 hu).1;omega)];simpa using hu
 | x::l,i+1,a,h,t,b,hu=>by
  rw[bM,ft (by rw[c,Nat.succ_mul];omega),c,show (i+1)*k+t-k=i*k+t by rw[Nat.succ_mul];omega];exact wP f k c l i a (by simpa using h) t b hu
variable{ok:Bool}{d:Int}{j u B L b base c e g k m n q r:Nat}{o:Obj}{p:UInt8->Bool}{h w w' w1 w2 wr:ah}{s x:aq}{y a:ay}{v v0 v1 v2 v3:az}
theorem sE{e:TypeId}{q:Type}{f:q->List az}{l:List q}(m:w.ownsRow base e k v n (l.flatMap f))(A:0<k)(o:∀d,(f d).length=k):∃a c,v=af a n c/\(∀b,a=some b->v.ownBlock=some b.block)/\∀(i:Nat)(d:q),l[i]?=some d->∃g,a=some ⟨g,0,none⟩/\g<w.heap.size/\∀(t:Nat)(j:az),(f d)[t]?=some j->ai w g (i*k+t) j:=by
 have s:=m;rcases m.2 with⟨rfl,r⟩|⟨g,c,C,rfl,D,z,F⟩
 ·refine⟨none,0,by rw[r],(λb e=>by cases e),λi d p=>?_⟩;have u:=wP f k o l i d p 0 _ (aV (by rw[o];exact A));have E:=(bj.1 u).1;have x:=m.1;rw[r,Nat.zero_mul]at x;omega
 ·refine⟨_,c,rfl,(λb e=>by cases e;rfl),λi d p=>⟨g,rfl,(aS.1 z).1,λt j B=>?_⟩⟩;have y:=World.ownsRow.cells s (g:=g) rfl _ _ (wP f k o l i d p t j B);rwa [show∀h,(⟨g,0,none⟩:Addr).add h=⟨g,h,none⟩from λh=>by cases h<;>simp[Addr.add]]at y
def mR(lo:Nat)(room:Int)(K:Nat)(e:aX)(B:Nat)(w:ah):List (Int×aq×Tc)->List Nat->Nat->Prop
 | [],[],c=>c<=B
 | x::l,b::bs,c=>∃a d,(c<=a/\a<=d)/\P1 lo b x.2.1 room x.2.2 [] K (λq=>a<=q/\q<d) w/\(∀q,a<=q->q<d->¬e q)/\mR lo room K e B w l bs d
 | _,_,_=>False
section
variable {lo K:Nat} {room:Int} {X:aX} {B:Nat} {w:ah}
theorem mR.le:{l:List (Int×aq×Tc)}->{a:List Nat}->{c:Nat}->mR lo room K X B w l a c->c<=B
 | [],[],_,h=>h
 | [],_::_,_,h=>h.elim
 | _::_,[],_,h=>h.elim
 | _::_,_::_,_,⟨c1,c2,h1,_,_,h4⟩=>by have:=h4.le;omega
theorem mR.kept2{w':ah}{S f:aX}{e c0:Nat}(a:bH S w w')(j:∀q,c0<=q->q<B->S q->X q)(k:∀q,q<B->f q->X q)(i:B<=e):{l:List (Int×aq×Tc)}->{g:List Nat}->{c:Nat}->c0<=c->mR lo room K X B w l g c->mR lo room K f e w' l g c
 | [],[],_,_,h=>aG h i
 | [],_::_,_,_,h=>h.elim
 | _::_,[],_,_,h=>h.elim
 | _::_,_::_,_,hc,⟨c1,c2,h1,h2,h3,h4⟩=>by
  have o:=h4.le;exact⟨c1,c2,h1,h2.kept (S:=S) ⟨a.os,a.tape,a.output,a.size,a.block⟩ λb q d=>h3 b q.1 q.2 (j b (by omega) (by omega) d),λq m n d=>h3 q m n (k q (by omega) d),h4.kept2 a j k i (by omega)⟩
theorem mR.kept{w':ah}{S b:aX}{a:Nat}(i:bH S w w')(g:∀q,q<B->S q->X q)(h:∀q,q<B->b q->X q)(f:B<=a){l:List (Int×aq×Tc)}{d:List Nat}{c:Nat}(e:mR lo room K X B w l d c):mR lo room K b a w' l d c:=e.kept2 (c0:=0) i (λq _=>g q) h f (aN _)
theorem mR.snoc{a B2 e b:Nat}{x:Int×aq×Tc}(g:B<=a)(d:a<=B2/\B2<=e)(i:P1 lo b x.2.1 room x.2.2 [] K (λq=>a<=q/\q<B2) w)(j:∀q,a<=q->q<B2->¬X q):{l:List (Int×aq×Tc)}->{f:List Nat}->{c:Nat}->mR lo room K X B w l f c->mR lo room K X e w (l++ [x]) (f++ [b]) c
 | [],[],_,h=>⟨a,B2,⟨aG h g,d.1⟩,i,j,d.2⟩
 | [],_::_,_,h=>h.elim
 | _::_,[],_,h=>h.elim
 | _::_,_::_,_,⟨c1,c2,h1,h2,h3,h4⟩=>⟨c1,c2,h1,h2,h3,h4.snoc g d i j⟩
end
section
variable {p:mO} {s:Sy} {d:gY} {w:ah}
theorem NC{n:Nat}{x:Tm n}(room:Int)(nm:aq)(b:bL n x=0):fx 13 (cn n x) room nm=fx n x room nm:=by
 have a:=eH b;unfold fx jo;rw[bP a,cH _ _ _ _ a,kY _ _ _ _ a]
theorem bG.made(z:bG p s d w){N ad:Nat}{pa:ay}{pl pc:Nat}{t:List (Int×aq×Tm (N+1))}(aE:w.ownsRow ad 247 6 (af pa pl pc) pl (t.flatMap λg=>Py g.1 g.2.1 g.2.2))(az:t.length=pl)(Y:pl<=1000)(aG:∀g∈t,bL _ g.2.2=0/\In w.heap.size w _ g.2.2):au 126 #[aF p.b,af pa pl pc] w λe w'=>∃v b,e=aw (ax #[v,.bool b])/\Hid (ap w w'/\b=s.made p.n p.prog p.room (t.map λg=>(g.1,g.2.1,cn _ g.2.2))/\(b=true->∃m a c,v=af a pl c/\m.length=pl/\w'.ownsRow w.heap.size 141 1 v pl (m.map Bg)/\mR p.lo p.room (d.k+201) (λq=>v.ownBlock=some q) w'.heap.size w' (t.map λg=>(g.1,g.2.1,cn _ g.2.2)) m w.heap.size)):=by
 have aC:lm (p.n+1) p.prog=true:=(gQ z.pg.2.2.2.1).1;obtain⟨aQ,O,ae,_,an⟩:=sE aE (by decide) λg=>rfl;injection ae with ah el aS;subst ah;have F:∀f,f<pl->t[f]?=some (t.getD f (0,⟨#[]⟩,((0,0,⟨#[]⟩),(none,0),[]))):=λf i=>by
  rw[nJ,aV (by omega)];rfl
 generalize T:(λf=>t.getD f (0,⟨#[]⟩,((0,0,⟨#[]⟩),(none,0),[])))=h;have F:∀f,f<pl->t[f]?=some (h f):=λf i=>by rw[F f i,<-T]
 clear T;obtain⟨o,J⟩:∃o,o=t.map λg=>(g.1,g.2.1,cn _ g.2.2):=⟨_,rfl⟩;rw[<-J];have U:o.length=pl:=by rw[J,cF,az]
 have K:∀f,f<pl->o[f]?=some ((h f).1,(h f).2.1,cn _ (h f).2.2):=λf i=>by rw[J,di,F f i];rfl
 have W:∀f,f<pl->bL _ (h f).2.2=0/\In w.heap.size w _ (h f).2.2:=λf i=>aG _ (aU (F f i));have X:∀f,f<pl->fx 13 (cn _ (h f).2.2) p.room (h f).2.1=fx _ (h f).2.2 p.room (h f).2.1:=λf i=>NC _ _ (W f i).1;have aH:∀f,f<pl->o.take (f+1)=o.take f++ [((h f).1,(h f).2.1,cn _ (h f).2.2)]:=λf i=>by
  rw[dL,K f i];rfl
 refine IE p.b pa pl pc (s.may pl) p.room w (λf=>(h f).1) (λf=>(h f).2.2.1.1) (λf=>(h f).2.2.1.2.1) (λf=>(h f).2.1) (λf=>(h f).2.2.1.2.2) (λf=>(h f).2.2.2.1.1) (λf=>(h f).2.2.2.2.length) (λf=>(h f).2.2.2.1.2) (λf=>lX p.n p.prog (h f).2.1) (λf=>fx _ (h f).2.2 p.room (h f).2.1) (λf m v j=>mR p.lo p.room (d.k+201) (λq=>v.ownBlock=some q) j.heap.size j (o.take f) m w.heap.size/\∀q,v.ownBlock=some q->q<j.heap.size)
  (λf G m v j=>∃x,(w.heap.size<=x/\x<=j.heap.size)/\(mR p.lo p.room (d.k+201) (λq=>v.ownBlock=some q) x j (o.take f) m w.heap.size)/\(∀q,v.ownBlock=some q->q<x)/\P1 p.lo G (h f).2.1 p.room (cn _ (h f).2.2) [] (d.k+201) (λq=>x<=q/\q<j.heap.size) j) (λv b w'=>ap w w'/\b=s.made p.n p.prog p.room o/\(b=true->∃m a c,v=af a pl c/\m.length=pl/\w'.ownsRow w.heap.size 141 1 v pl (m.map Bg)/\mR p.lo p.room (d.k+201) (λq=>v.ownBlock=some q) w'.heap.size w' o m w.heap.size)) Y z.lo.2 z.cells.2.1 (λf i=>?_) (z.mayHave pl Y) (λf j i l=>(z.later l).knows _) (λf m v j i r l E=>?_) ?_ (λf m v j H E l=>?_) (λf G m a c D O j ab H B al l A ao ar=>?_) (λj l u=>?_) λj m a c l ai Q aj ak R=>?_
 ·obtain⟨D,I,P,y⟩:=an f _ (F f i);exact⟨D,I,P,y 0 _ rfl,y 1 _ rfl,y 2 _ rfl,y 3 _ rfl,y 4 _ rfl,y 5 _ rfl⟩
 ·have aY:=EK aC r;obtain⟨aK,aL⟩:=W f i;refine(P1.new _ (h f).2.2 p.room (h f).2.1 j (by omega) ((aL.below l).mono l.size) (gI aK)).mono ?_;rintro e w' ⟨q,rfl,aa⟩;obtain⟨L,aZ,aM⟩:=aa;refine⟨q,rfl,L,λe=>?_⟩;obtain⟨G,I,P,y,ag⟩:=aM e;have:=z.lo.1;have:=l.size;refine⟨G,I,j.heap.size,⟨l.size,L.size⟩,E.1.kept (aR L λ_=>False) (λ_ _ g=>g.elim) (λ_ _ g=>g) (aA _),E.2,ag.mono (λb g=>g) (by omega) λb g=>⟨by omega,g.2⟩⟩
 ·exact⟨aA _,(λq g=>by cases g)⟩
 ·exact⟨E.1.kept (aR l λ_=>False) (λ_ _ g=>g.elim) (λ_ _ g=>g) l.size,λq g=>bi (E.2 q g) l.size⟩
 ·obtain⟨x,⟨a0,a1⟩,aN,Z,aO⟩:=al;have av:bH (λq=>(Value.slice a f c).ownBlock=some q) ab H:=⟨A.os,A.tape,A.output,A.size,λk r aB=>A.block k r λe=>aB e.symm⟩;have r:bH (λq=>(Value.slice a f c).ownBlock=some q) j H:=(aR l _).trans av λ_ _ e=>e;have aW:=l.size;have aX:=A.size;have V:∀q,q<j.heap.size->(Value.slice (some ⟨D,0,none⟩) (f+1) O).ownBlock=some q->(Value.slice a f c).ownBlock=some q:=λq aD g=>by
   obtain rfl:D=q:=aJ g;rcases ao with e|e
   ·exact e
   ·omega
  refine⟨?_,λq g=>?_⟩
  ·rw[aH f B];refine mR.snoc (aA x) (B2:=j.heap.size) (by omega) ?_ ?_ (aN.kept r (λq _ g=>g) (λq aD g=>V q (by omega) g) (aA _))
   ·exact aO.kept (S:=λq=>(Value.slice a f c).ownBlock=some q) ⟨r.os,r.tape,r.output,r.size,r.block⟩ λb g C=>by have:=Z b C;omega
   ·exact λq M C aP=>by have:=Z q (V q C aP);omega
  ·obtain rfl:D=q:=aJ g;exact ar
 ·refine⟨l,?_,(λg=>by cases g)⟩;unfold Sy.made;rw[U];rcases u with u|⟨f,i,u⟩
  ·rw[u];rfl
  ·refine Eq.symm (Bool.and_eq_false_iff.2 (am ?_));rw[List.all_eq_false];refine⟨_,aU (K f i),?_⟩;simp only[aT,cU,not_and];intro M C;rw[X f i]at C;rcases u with u|u
   ·rw[u]at M;cases M
   ·exact u C
 ·refine⟨l,?_,λ_=>⟨m,a,c,rfl,aj,ak,?_⟩⟩
  ·unfold Sy.made;rw[U,ai,eU,eq_comm,cZ];intro a2 aI;obtain⟨f,i⟩:=List.mem_iff_getElem?.1 aI;have B:f<pl:=by have:=(bj.1 i).1;omega
   rw[K f B]at i;obtain rfl:=aJ i;simp only[aT,cU];exact⟨(Q f B).1,(X f B).trans (Q f B).2⟩
  ·rw[bI (by omega)]at R;exact R.1
end
theorem AW(x:Nat)(a O P:Int)(Q:aq)(ma:ay)(T S:Nat)(f:Int)(sa:ay)(sl sc:Nat)(pa:ay)(pl pc:Nat)(ka:ay)(kl kc:Nat)(ao:ay)(vl aG:Nat)(aa:Nat->Nat)(C D E:Nat->Int)(F:Nat->aq)(xa:Nat->ay)(G xc:Nat->Nat)(an:Nat->Int)(w:ah)(k o p:Nat->Nat->bF)(R:bF)(aK:vl<=1000)(aJ:sl<=1000)(aI:kl<=1000)(X:Hid (∀q W,ap w W->w.heap.size<=q->W.heap[q]?=some (.cells #[ae O,ae P,ag Q,af ma T S,ae f,af sa sl sc,af pa pl pc,af ka kl kc] 200)->k q 0 W))(H:Hid (∀q W,k q vl W->o q 0 W))(y:Hid (∀q W,o q sl W->p q 0 W))(i:Hid (∀q j W,(k q j W\/o q j W\/p q j W)->W.heap[q]?=some (.cells #[ae O,ae P,ag Q,af ma T S,ae f,af sa sl sc,af pa pl pc,af ka kl kc] 200)))(I:Hid (∀q j W,j<vl->k q j W->(∃g,ao=some ⟨g,0,none⟩/\ai W g j (.pointer (some ⟨aa j,0,none⟩)))/\Hid (au 86 #[aF x,ae a,.pointer (some ⟨aa j,0,none⟩)] W λe w'=>e=aw (ax #[])/\Hid (k q (j+1) w'))))(z:Hid (∀q j W,j<sl->o q j W->(∃g,sa=some ⟨g,0,none⟩/\ai W g (j*5) (ae (C j))/\ai W g (j*5+1) (ae (D j))/\ai W g (j*5+2) (ae (E j))/\ai W g (j*5+3) (ag (F j))/\ai W g (j*5+4) (af (xa j) (G j) (xc j)))/\Hid (∀Z,ap W Z->au 159 #[aF x,ae a,ae (C j),.agg #[ae (D j),ae (E j),ag (F j),af (xa j) (G j) (xc j)]] Z λe w'=>e=aw (ax #[])/\Hid (o q (j+1) w'))))(t:Hid (∀q j W,j<kl->p q j W->(∃g,ka=some ⟨g,0,none⟩/\ai W g j (ae (an j)))/\Hid (au 160 #[aF x,ae a,ae (an j)] W λe w'=>e=aw (ax #[])/\Hid (p q (j+1) w'))))(s:Hid (∀q W,p q kl W->(f=1->au 127 #[aF x,ae a,ae 1] W λe w'=>e=aw (ax #[])/\Hid (R w'))/\(f≠1->R W))):au 128 #[aF x,ae a,.agg #[ae O,ae P,ag Q,af ma T S,ae f,af sa sl sc,af pa pl pc,af ka kl kc],af ao vl aG] w λe w'=>e=aw (ax #[])/\Hid (R w'):=by
 go_enter func128,ntmps128;go_upto_region 1 with fail;generalize m:w.alloc _=ar;obtain⟨q,B⟩:∃q,q=w.heap.size:=⟨_,rfl⟩;rw[<-B];have V:Hid (k q 0 ar):=X q ar (by rw[<-m];exact aW _ _) (cT B.symm) (by rw[<-m,B];exact aL _ _);clear m B X;go_wp2_with fail;go_loopw [9,16] (λ_ c wr=>∃(j:Nat),j<=vl/\c=ae j/\Hid (k q j wr)) (λ_ c _=>vl-(intOf c).toNat)
 case atStart=>exact⟨0,aN _,rfl,V⟩
 case round=>
 obtain⟨j,A,rfl,b⟩:=hrel;by_cases l:j<vl
 ·obtain⟨⟨g,rfl,M⟩,n⟩:=I.out q j wr l b;have ad:(0:Int)<=(j:Int):=by omega
  have al:(j:Int)<(vl:Int):=by omega
  clear H y i I z t s b;go_wp2_with fail;refine n.mono ?_;rintro e d ⟨rfl,h⟩;go_wp2_with fail;go_roundw
  case rel=>exact⟨j+1,by omega,by go_num,h⟩
  case measure=>simp[intOf];omega
 obtain rfl:j=vl:=by omega
 have K:=av (H _ _ b);clear b I H V A l;have aD:ai wr q 5 (af sa sl sc):=aj (i q 0 wr (am (ak K))) 5;go_wp2_with fail;clear aD;go_loopw [11,28] (λ_ c U=>∃(j:Nat),j<=sl/\c=ae j/\Hid (o q j U)) (λ_ c _=>sl-(intOf c).toNat)
 case atStart=>exact⟨0,aN _,rfl,K⟩
 case round=>
 clear K;obtain⟨j,A,rfl,b⟩:=hrel;by_cases l:j<sl
 ·obtain⟨⟨g,rfl,M,aA,aB,aC,ab⟩,n⟩:=z.out q j _ l b;have ad:(0:Int)<=(j:Int):=by omega
  have al:(j:Int)<(sl:Int):=by omega
  clear y i z t s b;go_upto_region 9 with fail;generalize m:World.alloc _ _=d;have r:d.heap[wr.heap.size]?=some (.cells #[ae (C j),ae (D j),ae (E j),ag (F j),af (xa j) (G j) (xc j)] 250):=by
   rw[<-m];exact aL _ _
  have az:=av (n d (by rw[<-m];exact aW _ _));generalize wr.heap.size=u at*;have d0:ai d u 0 (ae (C j)):=aj r 0;have d1:ai d u 1 (ae (D j)):=aj r 1;have d2:ai d u 2 (ae (E j)):=aj r 2;have d3:ai d u 3 (ag (F j)):=aj r 3;have d4:ai d u 4 (af (xa j) (G j) (xc j)):=aj r 4;clear m r n M aA aB aC ab;go_wp2_with fail;refine az.mono ?_;rintro e aM ⟨rfl,h⟩;go_wp2_with fail;go_roundw
  case rel=>exact⟨j+1,by omega,by go_num,h⟩
  case measure=>simp[intOf];omega
 obtain rfl:j=sl:=by omega
 have L:=av (y _ _ b);clear b z y A l;have aE:ai wr q 7 (af ka kl kc):=aj (i q 0 wr (am (am L))) 7;go_wp2_with fail;clear aE;go_loopw [13,43] (λ_ c U=>∃(j:Nat),j<=kl/\c=ae j/\Hid (p q j U)) (λ_ c _=>kl-(intOf c).toNat)
 case atStart=>exact⟨0,aN _,rfl,L⟩
 case round=>
 clear L;obtain⟨j,A,rfl,b⟩:=hrel;by_cases l:j<kl
 ·obtain⟨⟨g,rfl,M⟩,n⟩:=t.out q j _ l b;have ad:(0:Int)<=(j:Int):=by omega
  have al:(j:Int)<(kl:Int):=by omega
  clear i t s b;go_wp2_with fail;refine n.mono ?_;rintro e d ⟨rfl,h⟩;go_wp2_with fail;go_roundw
  case rel=>exact⟨j+1,by omega,by go_num,h⟩
  case measure=>simp[intOf];omega
 obtain rfl:j=kl:=by omega
 have ab:ai wr q 4 (ae f):=aj (i q _ wr (am (am b))) 4;have Y:=av (s q _ b);clear b t i s;by_cases N:f=1
 ·subst N;have J:=av (Y.1 rfl);go_wp2_with fail;refine J.mono ?_;rintro e d ⟨rfl,h⟩;go_wp2_with fail;exact eG (v:=ax #[]) (by simp[results]) rfl ⟨rfl,h⟩
 ·have J:=av (Y.2 N);have aH:(f==1)=false:=by simpa using N
  go_wp2_with fail;exact eG (v:=ax #[]) (by simp[results]) rfl ⟨rfl,J⟩
def qM(M:aX)(a:Nat)(d b:gY)(w w':ah):Prop:=bH (λq=>d.ow q<0) w w'/\(∀q,q<w.heap.size->¬M q->b.ow q=d.ow q)/\(∀q,q<w.heap.size->M q->0<=b.ow q)/\b.k=d.k/\b.es.length<=d.es.length+a/\b.wn<=d.wn+a/\b.bn<=d.bn+a
section
variable {p:mO} {s:Sy} {d d1 d2:gY} {w w1 w2:ah} {M:aX} {a b:Nat}
theorem qM.up(m:qM M a d d1 w w1)(k:ey b d1 d2 w1 w2):qM M (a+b) d d2 w w2:=by
 obtain⟨h,i,j,n,q,r,s⟩:=m;obtain⟨o,l,p,u,v,x⟩:=k;have t:=h.size;refine⟨h.trans o λc e g=>?_,λc e f=>(l c (by omega)).trans (i c e f),λc e f=>by rw[l c (by omega)];exact j c e f,p.trans n,by omega,by omega,by omega⟩;by_cases f:M c
 ·have:=j c e f;omega
 ·rw[i c e f]at g;exact g
theorem qM.ad{M':aX}(m:qM M a d d1 w w1)(k:OV M' b d1 d2 w1 w2)(o:∀q,M' q->M q):qM M (a+b) d d2 w w2:=by
 obtain⟨h,i,j,n,t,u,v⟩:=m;obtain⟨p,l,r,s,y,z,A⟩:=k;have x:=h.size;refine⟨h.trans p λq e g=>?_,λq e c=>(l q (by omega) λf=>c (o q f)).trans (i q e c),λq e c=>?_,s.trans n,by omega,by omega,by omega⟩
 ·by_cases c:M q
  ·have:=j q e c;omega
  ·rw[i q e c]at g;exact g
 ·by_cases f:M' q
  ·have:=r q f;omega
  ·rw[l q (by omega) f];exact j q e c
theorem qM.mono(c:qM M a d d1 w w1)(l:a<=b):qM M b d d1 w w1:=by
 obtain⟨e,f,g,h,i,j,k⟩:=c;exact⟨e,f,g,h,by omega,by omega,by omega⟩
theorem GX.ug{m:Nat}{x:Tm m}(e:GX d w x)(k:qM M a d d1 w w1):GX d1 w1 x:=by
 have g:=fC k.1 (D:=λb=>0<=d.ow b/\b<w.heap.size) (λb c f=>by omega) ⟨e.1,In.offB e.2 e.1⟩;refine⟨g.1,g.2.mono λb c=>?_⟩;by_cases f:M b
 ·exact k.2.2.1 b c.2 f
 ·rw[k.2.1 b c.2 f];exact c.1
theorem Ce(a:Int):(l:List (Int×aq×Tc))->(s:Sy)->(l.foldl (λs x=>s.add a x.2.1 x.2.2) s).ps.length=s.ps.length+l.length/\(l.foldl (λs x=>s.add a x.2.1 x.2.2) s).last=s.last+l.length
 | [],s=>by simp
 | x::l,s=>by
  have b:=Ce a l (s.add a x.2.1 x.2.2);rw[gh,b.1,b.2];simp only[Sy.add,Sy.tell,br,bv,eW];omega
theorem bG.follow(aK:bG p s d w){a:Int}(ao:dp a)(i:Tk)(bc:Bk 8 i.sends i.spawns i.links)(y0 y1:Int)(y2:aq)(ya:ay)(yl yc:Nat){N aH a3 c B:Nat}{sa:ay}{sl sc:Nat}{pa:ay}{pl pc:Nat}{ka:ay}{kl kc:Nat}{L:ay}{vl R:Nat}{K:List (Int×Tm (N+1))}{J:List Nat}{aG:aX}(bm:w.ownsRow aH 250 5 (af sa sl sc) sl (K.flatMap λg=>Ox g.1 g.2))(be:w.ownsRow aH 3 1 (af ka kl kc) kl (i.links.map λX=>ae X))(bp:w.ownsRow a3 141 1 (af L vl R) vl (J.map Bg))(bf:K.length=sl/\i.links.length=kl/\J.length=vl/\i.spawns.length=vl)(ar:K.map (λg=>(g.1,cn _ g.2))=i.sends)(bo:∀g∈K,bL _ g.2=0/\GX d w g.2)(bh:∀q,((Value.slice sa sl sc).ownBlock=some q\/(Value.slice ka kl kc).ownBlock=some q\/(Value.slice L vl R).ownBlock=some q)->0<=d.ow q)(a9:mR p.lo p.room (d.k+201) aG B w i.spawns J c)(bz:B<=w.heap.size)(how:∀q,c<=q->q<B->d.ow q=0)(bg:s.may vl=true)(bC:d.k<=92000)(bA:d.es.length<=97000)(bM:d.wn<=900000)(bB:d.bn<=900000):au 128 #[aF p.b,ae a,PK y0 y1 y2 ya yl yc i.fate sa sl sc pa pl pc ka kl kc,af L vl R] w λe w'=>e=aw (ax #[])/\Hid (∃O,bG p (s.follow a i) O w'/\qM (λq=>c<=q/\q<B) 200 d O w w'):=by
 obtain⟨bq,bN,bO,bP⟩:=bf;obtain⟨⟨aJ,bw,bx⟩,a5,a6⟩:=bc;have bJ:=Lo bg;have bK:sl<=8:=by rw[<-bq];rw[<-ar,cF]at aJ;exact aJ
 have T:∀{D:Type}(l:List D)(g:D)(f:Nat),f<l.length->l[f]?=some (l.getD f g):=λl g f j=>by
  rw[nJ,aV j];rfl
 obtain⟨n,ab⟩:∃n:Nat->Int×Tm (N+1),∀f,f<sl->K[f]?=some (n f):=⟨_,λf j=>T K (0,((0,0,⟨#[]⟩),(none,0),[])) f (by omega)⟩;obtain⟨aE,aj⟩:∃n:Nat->Int,∀f,f<kl->i.links[f]?=some (n f):=⟨_,λf j=>T i.links 0 f (by omega)⟩;obtain⟨aC,aL⟩:∃n:Nat->Nat,∀f,f<vl->J[f]?=some (n f):=⟨_,λf j=>T J 0 f (by omega)⟩;obtain⟨bt,aM⟩:∃n:Nat->Int×aq×Tc,∀f,f<vl->i.spawns[f]?=some (n f):=⟨_,λf j=>T i.spawns (0,⟨#[]⟩,tT) f (by omega)⟩;have ap:∀q,((Value.slice sa sl sc).ownBlock=some q\/(Value.slice ka kl kc).ownBlock=some q\/(Value.slice L vl R).ownBlock=some q)->¬d.ow q<0:=λq g=>by have:=bh q g;omega
 have ba:∀h,bH (λq=>d.ow q<0) w h->∀f,f<sl->∃o,sa=some ⟨o,0,none⟩/\∀(t:Nat)(X:az),(Ox (n f).1 (n f).2)[t]?=some X->ai h o (f*5+t) X:=λh P f j=>by
  obtain⟨_,_,x,_,C⟩:=sE (bD bm P λq g=>ap q (ak g)) (by decide) λg=>rfl;injection x with x;subst x;obtain⟨o,z,_,A⟩:=C f _ (ab f j);exact⟨o,z,A⟩
 have a8:∀h,bH (λq=>d.ow q<0) w h->∀f,f<kl->∃o,ka=some ⟨o,0,none⟩/\ai h o f (ae (aE f)):=λh P f j=>by
  have Q:=bD be P λq g=>ap q (am (ak g));rw[List.map_eq_flatMap]at Q;obtain⟨_,_,x,_,C⟩:=sE Q (by decide) λg=>rfl;injection x with x;subst x;obtain⟨o,z,_,A⟩:=C f _ (aj f j);have:=A 0 _ rfl;simp only[Nat.mul_one,jD]at this;exact⟨o,z,this⟩
 have bb:∀h,bH (λq=>d.ow q<0) w h->∀f,f<vl->∃o,L=some ⟨o,0,none⟩/\ai h o f (.pointer (some ⟨aC f,0,none⟩)):=λh P f j=>by
  have Q:=bD bp P λq g=>ap q (am (am g));rw[List.map_eq_flatMap]at Q;obtain⟨_,_,x,_,C⟩:=sE Q (by decide) λg=>rfl;injection x with x;subst x;obtain⟨o,z,_,A⟩:=C f _ (aL f j);have:=A 0 _ rfl;simp only[Nat.mul_one,jD]at this;exact⟨o,z,this⟩
 have aO:∀{D:Type}{l:List D}{f:Nat}{g:D},l[f]?=some g->l.drop f=g::l.drop (f+1):=λ{D l f g} e=>by
  obtain⟨a7,rfl⟩:=bj.1 e;exact fq a7
 have av:∀{D:Type}{l:List D}{f:Nat}{g:D},l[f]?=some g->l.take (f+1)=l.take f++ [g]:=λ{D l f g} e=>by
  rw[dL,e];rfl
 obtain⟨U,aT⟩:∃U,U=i.spawns.foldl (λs v=>s.add a v.2.1 v.2.2) s:=⟨_,rfl⟩;obtain⟨V,aW⟩:∃V,V=i.sends.foldl (λs v=>s.send a v.1 v.2) U:=⟨_,rfl⟩;obtain⟨W,aY⟩:∃W,W=i.links.foldl (λs v=>s.link a v) V:=⟨_,rfl⟩;have bl:s.follow a i=if i.fate=1 then W.fin a 1 else W:=by rw[aY,aW,aT];rfl
 let aI:Obj:=.cells #[ae y0,ae y1,ag y2,af ya yl yc,ae i.fate,af sa sl sc,af pa pl pc,af ka kl kc] 200;let Z:Nat->Prop:=λq=>c<=q/\q<B;let aD:Sy->Nat->Nat->ah->Prop:=λbr k q h=>∃d1,bG p br d1 h/\qM Z k d d1 w h/\(w.heap.size<=q/\q<h.heap.size/\h.heap[q]?=some aI/\d1.ow q=0)
 refine AW p.b a y0 y1 y2 ya yl yc i.fate sa sl sc pa pl pc ka kl kc L vl R aC (λf=>(n f).1) (λf=>(n f).2.1.1) (λf=>(n f).2.1.2.1) (λf=>(n f).2.1.2.2) (λf=>(n f).2.2.1.1) (λf=>(n f).2.2.2.length) (λf=>(n f).2.2.1.2) aE w
  (λq f h=>∃d1,bG p ((i.spawns.take f).foldl (λs v=>s.add a v.2.1 v.2.2) s) d1 h/\qM Z f d d1 w h/\(w.heap.size<=q/\q<h.heap.size/\h.heap[q]?=some aI/\d1.ow q=0)/\∃S,c<=S/\mR p.lo p.room (d.k+201) aG B h (i.spawns.drop f) (J.drop f) S/\∀q,S<=q->q<B->d1.ow q=0)
  (λq f h=>aD ((i.sends.take f).foldl (λs v=>s.send a v.1 v.2) U) (vl+2*f) q h) (λq f h=>aD ((i.links.take f).foldl (λs v=>s.link a v) V) (vl+2*sl+f) q h) (λw'=>∃O,bG p (s.follow a i) O w'/\qM Z 200 d O w w') (by omega) (by omega) (by omega) (λq h al aP aN=>?_) (λq h y=>?_) (λq h y=>?_) (λq f h y=>?_) (λq f h j y=>?_) (λq f h j y=>?_) (λq f h j y=>?_) λq h y=>?_
 ·have bk:=(aS.1 aN).1;refine⟨d,aK.later al,⟨aR al _,λ_ _ _=>rfl,λq _ g=>by rw[how q g.1 g.2];exact km 0,rfl,aA _,aA _,aA _⟩,⟨aP,bk,aN,?_⟩,c,aA _,a9.kept (aR al λ_=>False) (λ_ _ g=>g.elim) (λ_ _ g=>g) (aA _),how⟩;by_cases g:d.ow q=0
  ·exact g
  ·have:=(aK.low q g).2;omega
 ·obtain⟨d1,r,m,E,_⟩:=y;rw[bI (by omega),<-aT]at r;exact⟨d1,r,m,E⟩
 ·obtain⟨d1,r,m,E⟩:=y;rw[bI (by rw[<-ar,cF];omega),<-aW]at r;exact⟨d1,r,m,E⟩
 ·rcases y with⟨d1,_,_,E,_⟩|⟨d1,_,_,E⟩|⟨d1,_,_,E⟩
  ·exact E.2.2.1
  ·exact E.2.2.1
  ·exact E.2.2.1
 ·obtain⟨d1,r,m,⟨z,F,A,G⟩,S,bQ,a0,aB⟩:=y;refine⟨bb h m.1 f j,?_⟩;rw[aO (aM f j),aO (aL f j)]at a0;obtain⟨a4,aa,bR,a1,_,a2⟩:=a0;have bd:=Ce a (i.spawns.take f) s;rw[du]at bd;have bF:=a2.le;have bE:=m.2.2.2.1;refine(r.add a (M:=λq=>a4<=q/\q<aa) (a1.mono (λ_ g=>g) (by omega) (P1.lie2 a1)) (λq g=>aB q (by omega) (by omega)) (by omega) (by omega) (by have:=m.2.2.2.2.1;omega)).mono ?_;rintro e w' ⟨rfl,H⟩;obtain⟨d2,I,u⟩:=H.out;have aQ:=u.1.size;refine⟨rfl,d2,?_,m.ad u λq g=>⟨by omega,by omega⟩,⟨z,by omega,?_,?_⟩,aa,by omega,a2.kept2 (c0:=aa) u.1 (λq aP bi g=>?_) (λ_ _ g=>g) (aA _) (aA _),λq bS bs=>?_⟩
  ·rw[av (aM f j),nI];exact I
  ·rw[u.1.block q F (by rw[G];decide)];exact A
  ·rw[u.2.1 q F λg=>by omega];exact G
  ·have:=aB q (by omega) bi;omega
  ·have:=m.1.size;rw[u.2.1 q (by omega) λg=>by omega];exact aB q (by omega) bs
 ·obtain⟨d1,r,m,z,F,A,G⟩:=y;obtain⟨o,x,C⟩:=ba h m.1 f j;refine⟨⟨o,x,C 0 _ rfl,C 1 _ rfl,C 2 _ rfl,C 3 _ rfl,C 4 _ rfl⟩,λbu an=>?_⟩;obtain⟨f1,f2⟩:=bo _ (aU (ab f j));have aZ:i.sends[f]?=some ((n f).1,cn _ (n f).2):=by rw[<-ar,di,ab f j];rfl
  refine((r.later an).send ⟨ao,a5 _ (aU aZ)⟩ (n f).2 ((f2.ug m).up (ey.later d1 an)) f1 (by have:=m.2.2.2.2.2.1;omega) (by have:=m.2.2.2.2.1;omega)).mono ?_;rintro e w' ⟨rfl,H⟩;obtain⟨d2,I,u⟩:=H.out;have Y:=(ey.later d1 an).trans u;have aQ:=Y.1.size;refine⟨rfl,d2,?_,(m.up Y).mono (by omega),z,by omega,?_,?_⟩
  ·rw[av aZ,nI];exact I
  ·rw[Y.1.block q F (by rw[G];decide)];exact A
  ·rw[Y.2.1 q F];exact G
 ·obtain⟨d1,r,m,z,F,A,G⟩:=y;refine⟨a8 h m.1 f j,?_⟩;refine(r.link ao (a6 _ (aU (aj f j))) (by have:=m.2.2.2.2.2.2;omega)).mono ?_;rintro e w' ⟨rfl,H⟩;obtain⟨d2,I,u⟩:=H.out;have aQ:=u.1.size;refine⟨rfl,d2,?_,(m.up u).mono (by omega),z,by omega,?_,?_⟩
  ·rw[av (aj f j),nI];exact I
  ·rw[u.1.block q F (by rw[G];decide)];exact A
  ·rw[u.2.1 q F];exact G
 ·obtain⟨d1,r,m,z,F,A,G⟩:=y;rw[bI (by omega),<-aY]at r;rw[bl];refine⟨λe=>?_,λe=>⟨d1,by rw[if_neg e];exact r,m.mono (by omega)⟩⟩;refine(r.fin ao (by have:=m.2.2.2.2.1;omega)).mono ?_;rintro bv w' ⟨rfl,H⟩;obtain⟨d2,I,u⟩:=H;exact⟨rfl,d2,by rw[if_pos e];exact I,(m.up u).mono (by omega)⟩
end
structure T8 where
 y0:Int
 y1:Int
 y2:aq
 ya:ay
 yl:Nat
 yc:Nat
 f:Int
 sa:ay
 sl:Nat
 sc:Nat
 pa:ay
 pl:Nat
 pc:Nat
 ka:ay
 kl:Nat
 kc:Nat
theorem Qf{g:Array az}{T:TypeId}{fr:Nat×Nat}(h:w.heap[q]?=some (.cells g T fr))(j:g.size=8)(v0 v1 v2 v3 c d e f:az):((((((((w.setCell ⟨q,0,none⟩ v0).setCell ⟨q,1,none⟩ v1).setCell ⟨q,2,none⟩ v2).setCell ⟨q,3,none⟩ v3).setCell ⟨q,4,none⟩ c).setCell ⟨q,5,none⟩ d).setCell ⟨q,6,none⟩ e).setCell ⟨q,7,none⟩ f).heap[q]?=some (.cells #[v0,v1,v2,v3,c,d,e,f] T fr)/\bH (λb=>b=q) w ((((((((w.setCell ⟨q,0,none⟩ v0).setCell ⟨q,1,none⟩ v1).setCell ⟨q,2,none⟩ v2).setCell ⟨q,3,none⟩ v3).setCell ⟨q,4,none⟩ c).setCell ⟨q,5,none⟩ d).setCell ⟨q,6,none⟩ e).setCell ⟨q,7,none⟩ f):=by
 refine⟨?_,(((((((bO w q 0 v0).trans (bO _ q 1 v1) λ_ _ a=>a).trans (bO _ q 2 v2) λ_ _ a=>a).trans (bO _ q 3 v3) λ_ _ a=>a).trans (bO _ q 4 c) λ_ _ a=>a).trans (bO _ q 5 d) λ_ _ a=>a).trans (bO _ q 6 e) λ_ _ a=>a).trans (bO _ q 7 f) λ_ _ a=>a⟩;obtain⟨l⟩:=g;have i:l.length=8:=by simpa using j
 match l,i with
 | [a0,a1,a2,a3,a4,a5,a6,a7],_=>simp[World.setCell,bS,h]
def OU(e:T8->Int->ah->bF)(w:ah)(q:Nat)(t:T8)(g:Int)(d:ah):Prop:=
 ∃a c,ap w a/\e t g a c/\(w.heap.size<=q/\(q<a.heap.size\/c.heap.size<=q))/\d.heap[q]?=some (.cells #[ae t.y0,ae t.y1,ag t.y2,af t.ya t.yl t.yc,ae t.f,af t.sa t.sl t.sc,af t.pa t.pl t.pc,af t.ka t.kl t.kc] 200)/\bH (λb=>b=q) c d
theorem zm(g:Nat)(Z:dd)(a S Y:Int)(N:ay)(P O:Nat)(aa:az)(F:Bool)(w:ah)(E:T8->Int->ah->bF)(M:Nat->T8->bF)(C:Nat->T8->az->Bool->bF)(R:Int->bF)(a1:IntKind.i64.wrap (S+1)=Y)(a7:g<w.heap.size)(ab:Hid (ai w g 0 (af N P O)/\ai w g 2 (ae S)/\ai w g 3 (.map Z)))(aq:(Instr.lookup 131 (.map Z) (ae a) true).run Tryz.prog w=.ok (ax #[aa,.bool F]) w)(J:Hid (F=false->R 4 w))(L:Hid (F=true->∀W,ap w W->au 125 #[aa,af N P O,ae a,ae Y] W λe w'=>∃(t:T8)(h:Int),e=aw (ax #[.agg #[ae t.y0,ae t.y1,ag t.y2,af t.ya t.yl t.yc,ae t.f,af t.sa t.sl t.sc,af t.pa t.pl t.pc,af t.ka t.kl t.kc],ae h])/\Hid (E t h W w'/\(∀q,w.heap.size<=q->q<W.heap.size->w'.heap[q]?=W.heap[q]?)/\W.heap.size<=w'.heap.size/\(ai w' g 0 (af N P O)/\ai w' g 2 (ae S)))))(HB:Hid (∀q t h W,OU E w q t h W->h≠0->R h W))(B:Hid (∀q t W,OU E w q t 0 W->au 124 #[aF g,ag ⟨#[116,97,107,101]⟩,ae a,ae 0,aB t.y0 t.y1 t.y2 t.ya t.yl t.yc] W λe w'=>e=aw (ax #[])/\Hid (M q t w')))(x:Hid (∀q t W,M q t W->au 126 #[aF g,af t.pa t.pl t.pc] W λe w'=>∃v b,e=aw (ax #[v,.bool b])/\Hid (C q t v b w')))(y:Hid (∀q t W,M q t W->W.heap[q]?=some (.cells #[ae t.y0,ae t.y1,ag t.y2,af t.ya t.yl t.yc,ae t.f,af t.sa t.sl t.sc,af t.pa t.pl t.pc,af t.ka t.kl t.kc] 200)))(z:Hid (∀q t v b W,C q t v b W->W.heap[q]?=some (.cells #[ae t.y0,ae t.y1,ag t.y2,af t.ya t.yl t.yc,ae t.f,af t.sa t.sl t.sc,af t.pa t.pl t.pc,af t.ka t.kl t.kc] 200)))(m:Hid (∀q t v b W,C q t v b W->(t.f=2\/t.f=3)->au 127 #[aF g,ae a,ae t.f] W λe w'=>e=aw (ax #[])/\Hid (R 0 w')))(n:Hid (∀q t v W,C q t v false W->¬(t.f=2\/t.f=3)->au 127 #[aF g,ae a,ae 2] W λe w'=>e=aw (ax #[])/\Hid (R 0 w')))(p:Hid (∀q t v W,C q t v true W->¬(t.f=2\/t.f=3)->au 128 #[aF g,ae a,.agg #[ae t.y0,ae t.y1,ag t.y2,af t.ya t.yl t.yc,ae t.f,af t.sa t.sl t.sc,af t.pa t.pl t.pc,af t.ka t.kl t.kc],v] W λe w'=>e=aw (ax #[])/\Hid (R 0 w'))):au 87 #[aF g,ae a] w λe w'=>∃v,e=aw (ae v)/\Hid (R v w'):=by
 obtain⟨al,an,ao⟩:=ab;go_enter func87,ntmps87;go_upto_region 2 with fail;cases F
 ·have K:=av (J rfl);clear L J HB B x y z m n p;go_wp2_with fail
  go_ret
  exact⟨4,rfl,K⟩
 have V:=av (L rfl);clear L J aq ao;have H:Hid (ap w w.drew):=(aH _ _).drew;have I:Hid (∀o,ap w (w.drew.alloc o)):=λo=>(aH _ _).drew.alloc (aA _) o;have a2:¬(w.heap.size=g):=by omega
 have a3:¬(g=w.heap.size):=by omega
 go_upto_region 4 with fail;go_cut [7,8] (λar aC aE=>∃(q:Nat)(t:T8)(h:Int),ar=aF q/\aC=ae h/\Hid (OU E w q t h aE))
 case first=>
  clear HB B x y z m n p
  go_region_with ((first
   | (go_at_call 125;refine(V _ (by first|exact H|exact I _)).mono ?_;rintro e c ⟨t,h,rfl,r⟩;have a6:g<c.heap.size:=(by have:=r.2.2.1;simp at this;omega);have a4:¬(c.heap.size=g):=(by omega);have a5:¬(g=c.heap.size):=(by omega);obtain⟨a9,ba⟩:=r.out.2.2.2;(first|(have d:c.heap[w.heap.size]?=some (.cells #[ae 0,ae 0,ag ⟨#[]⟩,af none 0 0,ae 0,af none 0 0,af none 0 0,af none 0 0] 200):=((r.2.1 w.heap.size (aA _) (by simp)).trans (aL w.drew _));obtain⟨bb,bc,bd,be,bf,bg,bh,bi⟩:ai c w.heap.size 0 (ae 0)/\ai c w.heap.size 1 (ae 0)/\ai c w.heap.size 2 (ag ⟨#[]⟩)/\ai c w.heap.size 3 (af none 0 0)/\ai c w.heap.size 4 (ae 0)/\ai c w.heap.size 5 (af none 0 0)/\ai c w.heap.size 6 (af none 0 0)/\ai c w.heap.size 7 (af none 0 0):=⟨aj d 0,aj d 1,aj d 2,aj d 3,aj d 4,aj d 5,aj d 6,aj d 7⟩;have aG:c.frozen? ⟨w.heap.size,0,none⟩=false:=(by simp[World.frozen?,d]);have aI:c.frozen? ⟨w.heap.size,1,none⟩=false:=(by simp[World.frozen?,d]);have aJ:c.frozen? ⟨w.heap.size,2,none⟩=false:=(by simp[World.frozen?,d]);have aK:c.frozen? ⟨w.heap.size,3,none⟩=false:=(by simp[World.frozen?,d]);have aM:c.frozen? ⟨w.heap.size,4,none⟩=false:=(by simp[World.frozen?,d]);have aN:c.frozen? ⟨w.heap.size,5,none⟩=false:=(by simp[World.frozen?,d]);have aO:c.frozen? ⟨w.heap.size,6,none⟩=false:=(by simp[World.frozen?,d]);have aP:c.frozen? ⟨w.heap.size,7,none⟩=false:=(by simp[World.frozen?,d]);have ad:=av d;clear d)|skip))))
  all_goals (go_wp2_with fail;go_meet)
  all_goals (refine⟨_,t,h,rfl,rfl,?_⟩)
  all_goals (first
   | exact⟨_,c,H,r.1,⟨by have:=r.2.2.1;simpa using this,am (aA _)⟩,aL _ _,aR (aW _ _) _⟩
   | exact⟨_,c,I _,r.1,⟨aA _,ak (by simp)⟩,Qf ad rfl _ _ _ _ _ _ _ _⟩)
 case rest=>
 obtain⟨q,t,h,rfl,rfl,A⟩:=hcut;clear V H I al an;by_cases Q:h=0;rotate_left
 ·have K:=av (HB _ _ _ _ A Q);have a8:(h==0)=false:=by simpa using Q
  clear A HB B x y z m n p;go_wp2_with fail
  go_ret
  exact⟨h,rfl,K⟩
 subst Q;have X:=av (B _ _ _ A);obtain⟨_,_,_,_,_,D,_⟩:=A.out;have d0:ai wc q 0 (ae t.y0):=aj D 0;have d1:ai wc q 1 (ae t.y1):=aj D 1;have d2:ai wc q 2 (ag t.y2):=aj D 2;have d3:ai wc q 3 (af t.ya t.yl t.yc):=aj D 3;clear D A HB B;go_wp2_with fail;refine X.mono ?_;rintro e aD ⟨rfl,G⟩;have U:=av (x _ _ _ G);have d6:ai aD q 6 (af t.pa t.pl t.pc):=aj (y _ _ _ G) 6;clear X x y G d0 d1 d2 d3;go_wp2_with fail;refine U.mono ?_;rintro e j ⟨v,b,rfl,k⟩;have i:=av (z _ _ _ _ _ k);have f4:ai j q 4 (ae t.f):=aj i 4;clear d6 U z;by_cases u:t.f=2\/t.f=3
 ·have s:=av (m _ _ _ _ _ k u);clear n p m k i;generalize t.f=f at*;rcases u with rfl|rfl
  ·go_wp2_with fail;refine s.mono ?_;rintro e T ⟨rfl,l⟩;go_wp2_with fail
   go_ret
   exact⟨0,rfl,l⟩
  ·go_wp2_with fail;refine s.mono ?_;rintro e T ⟨rfl,l⟩;go_wp2_with fail
   go_ret
   exact⟨0,rfl,l⟩
 have aZ:(t.f==2)=false:=by simpa using λe=>u (ak e)
 have a0:(t.f==3)=false:=by simpa using λe=>u (am e)
 cases b
 ·have s:=av (n _ _ _ _ k u);clear n p m k i;go_wp2_with fail;refine s.mono ?_;rintro e T ⟨rfl,l⟩;go_wp2_with fail
  go_ret
  exact⟨0,rfl,l⟩
 ·have s:=av (p _ _ _ _ k u);have aQ:ai j q 0 (ae t.y0):=aj i 0;have aS:ai j q 1 (ae t.y1):=aj i 1;have aT:ai j q 2 (ag t.y2):=aj i 2;have aU:ai j q 3 (af t.ya t.yl t.yc):=aj i 3;have aV:ai j q 5 (af t.sa t.sl t.sc):=aj i 5;have aX:ai j q 6 (af t.pa t.pl t.pc):=aj i 6;have aY:ai j q 7 (af t.ka t.kl t.kc):=aj i 7;clear n p m k i;go_wp2_with fail;refine s.mono ?_;rintro e T ⟨rfl,l⟩;go_wp2_with fail
  go_ret
  exact⟨0,rfl,l⟩
def G1(f:Tk)(t:T8)(d:gY)(W:ah):Prop:=
 ∃(h g:Nat)(c:List (Int×Tm (h+1)))(e:List (Int×aq×Tm (h+1))),(c.length=t.sl/\e.length=t.pl/\f.links.length=t.kl)/\W.ownsRow g 250 5 (af t.sa t.sl t.sc) t.sl (c.flatMap λa=>Ox a.1 a.2)/\W.ownsRow g 247 6 (af t.pa t.pl t.pc) t.pl (e.flatMap λa=>Py a.1 a.2.1 a.2.2)/\W.ownsRow g 3 1 (af t.ka t.kl t.kc) t.kl (f.links.map λi=>ae i)/\
  c.map (λa=>(a.1,cn _ a.2))=f.sends/\e.map (λa=>(a.1,a.2.1,cn _ a.2.2))=f.spawns/\(∀a∈c,bL _ a.2=0/\GX d W a.2)/\(∀a∈e,bL _ a.2.2=0/\GX d W a.2.2)/\∀b,((Value.slice t.sa t.sl t.sc).ownBlock=some b\/(Value.slice t.pa t.pl t.pc).ownBlock=some b\/(Value.slice t.ka t.kl t.kc).ownBlock=some b)->b<W.heap.size/\0<=d.ow b
theorem G1.kee{n:Tk}{t:T8}{d g:gY}{W:ah}(s:G1 n t d W)(b:bH (λq=>d.ow q<0) W h)(m:∀q,q<W.heap.size->g.ow q=d.ow q):G1 n t g h:=by
 obtain⟨p,r,A,B,e,u,v,w,x,y,k,l,f⟩:=s;have hF:∀{z:Nat}{o:Tm z},GX d W o->GX g h o:=λj=>by
  have e:=fC b (D:=λq=>0<=d.ow q/\q<W.heap.size) (λq a C=>by omega) ⟨j.1,In.offB j.2 j.1⟩;exact⟨e.1,e.2.mono λq a=>by rw[m q a.2];exact a.1⟩
 have i:∀q,((Value.slice t.sa t.sl t.sc).ownBlock=some q\/(Value.slice t.pa t.pl t.pc).ownBlock=some q\/(Value.slice t.ka t.kl t.kc).ownBlock=some q)->¬d.ow q<0:=λq a=>by have:=(f q a).2;omega
 exact⟨p,r,A,B,e,bD u b λq a=>i q (ak a),bD v b λq a=>i q (am (ak a)),bD w b λq a=>i q (am (am a)),x,y,λa c=>⟨(k a c).1,hF (k a c).2⟩,λa c=>⟨(l a c).1,hF (l a c).2⟩,λq a=>⟨bi (f q a).1 b.size,by rw[m q (f q a).1];exact(f q a).2⟩⟩
def Q5(t:T8):Obj:=.cells #[ae t.y0,ae t.y1,ag t.y2,af t.ya t.yl t.yc,ae t.f,af t.sa t.sl t.sc,af t.pa t.pl t.pc,af t.ka t.kl t.kc] 200
section
variable {p:mO} {s:Sy} {d:gY} {w:ah}
theorem gF.ug{M:aX}{k b c:Nat}{d1 d2:gY}{w1 w2:ah}(l:gF k c d d1 w w1)(g:qM M b d1 d2 w1 w2)(m:∀q,M q->w.heap.size<=q):gF (k+b) c d d2 w w2:=by
 obtain⟨e,f,t,u,v,x⟩:=l;obtain⟨i,j,_,o,p,r,s⟩:=g;have y:=e.size;exact⟨e.trans i λq a h=>by rw[f q a]at h;omega,λq a=>(j q (by omega) λn=>by have:=m q n;omega).trans (f q a),by omega,by omega,by omega,by omega⟩
def PX(p:mO)(s:Sy)(d:gY)(w:ah)(a:Tk)(q:Nat)(t:T8)(d1:gY)(W:ah):Prop:=
 bG p s d1 W/\gF 1 402 d d1 w W/\(w.heap.size<=q/\q<W.heap.size/\d1.ow q=0/\W.heap[q]?=some (Q5 t))/\t.f=a.fate/\G1 a t d1 W
theorem bG.run(q:bG p s d w){a:Int}(aT:dp a)(cr:d.k<=91000)(cm:d.es.length<=96000)(cx:d.wn<=800000)(cq:d.bn<=800000):au 87 #[aF p.b,ae a] w λe w'=>∃v,e=aw (ae v)/\Hid (v=(s.run p.n p.prog p.room a).2/\∃E,bG p (s.run p.n p.prog p.room a).1 E w'/\gF 201 402 d E w w'):=by
 obtain⟨bP,aX⟩:=q.lo;obtain⟨a8,ci,a9,ba⟩:=q.cells;obtain⟨_,_,_,ck,cl,_⟩:=q.keys;have bg:lm (p.n+1) p.prog=true:=(gQ q.pg.2.2.2.1).1;have be:IntKind.i64.wrap (s.last+1)=s.last+1:=by rw[IntKind.wrap];simp[IntKind.bits,IntKind.signed];omega
 have ab:=q.look a true;have ay:=q.alive a;rw[if_pos rfl]at ab;obtain⟨P,m⟩:∃P,P=s.run p.n p.prog p.room a:=⟨_,rfl⟩;rw[<-m];unfold Sy.run at m;cases hg:s.get a with
 | none=>
  rw[hg]at m ay;rw[ay]at ab;have bz:(4:Int)=P.2/\∃E,bG p P.1 E w/\gF 201 402 d E w w:=by
   rw[m];exact⟨rfl,d,q,(ey.later d (aH _ _)).un.mono (aN _) (aN _)⟩
  exact zm p.b d.po a s.last (s.last+1) p.pa p.prog.length p.pc _ false w (λ_ _ _ _=>False) (λ_ _ _=>False) (λ_ _ _ _ _=>False) (λv w'=>v=P.2/\∃E,bG p P.1 E w'/\gF 201 402 d E w w') be aX ⟨a8,a9,ba⟩ ab (λ_=>bz) ((λg=>by cases g)) (λ_ _ _ _ ⟨_,_,_,g,_⟩=>g.elim) (λ_ _ _ ⟨_,_,_,g,_⟩=>g.elim) (λ_ _ _ g=>g.elim) (λ_ _ _ g=>g.elim) (λ_ _ _ _ _ g=>g.elim) (λ_ _ _ _ _ g=>g.elim) (λ_ _ _ _ g=>g.elim) λ_ _ _ _ g=>g.elim
 | some an=>
  obtain⟨B,aa,V⟩:=an;rw[hg]at m ay;obtain⟨bt,aC⟩:=gn.1 ay;rw[aC]at ab;obtain⟨b7,bE,bD,aq,bI,cj⟩:=q.ps a bt aC;rw[hg]at aq;obtain⟨rfl,rfl,rfl⟩:B=b7/\aa=bE/\V=bD:=by
   injection aq with aq;injection aq with z u;injection u with u bF;exact⟨z,u,bF⟩
  have cp:=(q.key aC).1;obtain⟨T,aQ⟩:∃T,T=rB p.n p.room p.prog B a (s.last+1) aa V:=⟨_,rfl⟩;simp only[<-aQ]at m;have aB:∀h,w.heap.size<=h->d.ow h=0:=λh aV=>by
   by_cases g:d.ow h=0
   ·exact g
   ·have:=(q.low h g).2;omega
  refine zm p.b d.po a s.last (s.last+1) p.pa p.prog.length p.pc _ true w
   (λt Z l w'=>(Z≠0/\Z=T/\ap l w')\/(Z=0/\T=0/\∃(r:Tc)(i:Tk)(J:Nat),(r.1=(t.y0,t.y1,t.y2)/\r.2.1=(t.ya,t.yc)/\r.2.2.length=t.yl)/\ov p.room p.prog B a (s.last+1) aa V=some i/\t.f=i.fate/\cn 13 r=i.message/\bL 13 r=0/\In w'.heap.size w' 13 r/\cG (λh=>l.heap.size<=h/\h<J) 13 r/\co (λh=>d.ow h=a) l w'/\l.heap.size<J/\P1 p.lo bt B p.room i.state i.mail (d.k+201+402) (λb=>(d.ow b=a\/J<=b)/\b<w'.heap.size) w'/\i.mail.length<=V.length/\mH (l.heap.size+1) i.sends i.spawns i.links t.sa t.sl t.sc t.pa t.pl t.pc t.ka t.kl t.kc (λ_=>True) w'))
   (λh t l=>∃i d1,T=0/\ov p.room p.prog B a (s.last+1) aa V=some i/\PX p ((s.put a (B,i.state,i.mail)).tell nX a 0 i.message) d w i h t d1 l)
   (λh t v b l=>∃i d1,T=0/\ov p.room p.prog B a (s.last+1) aa V=some i/\PX p ((s.put a (B,i.state,i.mail)).tell nX a 0 i.message) d w i h t d1 l/\b=Sy.made p.n p.prog p.room ((s.put a (B,i.state,i.mail)).tell nX a 0 i.message) i.spawns/\(b=true->∃U aM aO c,v=af aM t.pl aO/\U.length=t.pl/\w.heap.size<=c/\(∀h,c<=h->d1.ow h=0)/\l.ownsRow c 141 1 v t.pl (U.map Bg)/\mR p.lo p.room (d1.k+201) (λh=>v.ownBlock=some h) l.heap.size l i.spawns U c))
   (λv w'=>v=P.2/\∃E,bG p P.1 E w'/\gF 201 402 d E w w') be aX ⟨a8,a9,ba⟩ (by rw[ab];rfl) ((λg=>by cases g)) (λ_ l ax=>?_) (λh t Z l aP bo=>?_) (λh t l aP=>?_) (λh t l F=>?_) (λh t l F=>?_) (λh t v b l F=>?_) (λh t v b l F N=>?_) (λh t v l F N=>?_) λh t v l F N=>?_
  ·have W:=q.later ax;have J:=dc (eM (p.n+1)) 2 (rK (p.n+1)) p.pa;refine((bI.later ax).step p.prog p.pa p.pc l.heap.size W.pg.1.1 (aA _) q.pg.2.1 q.pg.2.2.1 (λ_=>q.pg.2.2.2.2) (λbA av=>J.2.2.1 _ _ _ bA _ (λb h=>av.block b h.2 λg=>by have:=h.1;rw[g]at this;omega) (J.2.1 _ _ _ _ W.pg.1.2 W.pg.1.1) W.pg.1.1) (aG bP ax.size) (by omega) (by omega) a (s.last+1)).mono ?_;rintro e w' (⟨Z,rfl,y⟩|⟨r,f,sa,sl,sc,pa,pl,pc,ka,kl,kc,rfl,y⟩)
   ·obtain⟨K,R,G⟩:=y.out;have bc:=(W.later G).cells;exact⟨⟨0,0,⟨#[]⟩,none,0,0,0,none,0,0,none,0,0,none,0,0⟩,Z,rfl,ak ⟨K,R.trans aQ.symm,G⟩,λh _ aV=>G.block h aV,G.size,bc.1,bc.2.2.1⟩
   ·obtain⟨i,J,K,R,G,ag,L,bW,bX,aI,bY,bV⟩:=y.out;have bb:w'.heap[p.b]?=some (.cells (eC p s d) 139):=(aI.block p.b (bi aX ax.size) (by rw[q.own];omega)).trans W.box;exact⟨⟨r.1.1,r.1.2.1,r.1.2.2,r.2.1.1,r.2.2.length,r.2.1.2,f,sa,sl,sc,pa,pl,pc,ka,kl,kc⟩,0,rfl,am ⟨rfl,aQ.trans K,r,i,J,⟨rfl,rfl,rfl⟩,R,G,ag,L,bW,bX,aI,bY,bV⟩,λh ar bJ=>aI.block h bJ (by rw[aB h ar];omega),aI.size,aj bb 0,aj bb 2⟩
  ·obtain⟨Q,al,K,R,G,ag,L⟩:=aP;rcases R with⟨_,e,bZ⟩|⟨e,_⟩
   ·rw[if_neg (by rw[<-e];exact bo)]at m;have av:bH (λb=>b=h) w l:=((aR K λb=>b=h).trans (aR bZ λb=>b=h) λ_ _ e=>e).trans L λ_ _ e=>e;rw[m];exact⟨e,d,q.kept av λb g=>by rw[g];exact aB h G.1,av.mono λb az g=>by omega,λ_ _=>rfl,by omega,by omega,by omega,by omega⟩
   ·exact absurd e bo
  ·obtain⟨Q,al,K,R,G,ag,L⟩:=aP;rcases R with⟨e,_⟩|⟨_,bK,r,i,J,⟨f1,f2,f3⟩,b0,b2,b3,b4,bp,b5,Y,cz,bq,cy,b1⟩
   ·exact absurd rfl e
   have bO:bH (λh=>d.ow h=a) Q al:=⟨Y.os,Y.tape,Y.output,Y.size,Y.block⟩;have ct:=K.size;have cu:=Y.size;have cv:=L.size
   obtain⟨bu,bv⟩:=(q.later K).turnP aC hg bO (j:=d.k+402) (λh g=>by
    rcases g.1 with g|g
    ·exact ak g
    ·exact am (by omega)) (by omega) (bq.mono (λ_ g=>g) (by omega) (P1.lie2 bq)) (by omega)
   generalize aU:({d with ow:=GD d Q al a,k:=d.k+402}:gY)=d1 at bu bv;have bf:∀b,d1.ow b=if Q.heap.size<=b/\b<al.heap.size then a else d.ow b:=λb=>by rw[<-aU];rfl
   have aW:d1.ow h=0:=by
    rw[bf,if_neg (by omega)];exact aB h G.1
   have bh:∀b,Q.heap.size<=b->0<=d1.ow b:=λb az=>by
    rw[bf];split
    ·omega
    ·rw[aB b (by omega)];exact km 0
   have ar:bG p (s.put a (B,i.state,i.mail)) d1 l:=bu.kept L λb g=>by rw[g];exact aW
   have bT:gF 0 402 d d1 w l:=by
    have z:=((ey.later d K).un.trans bv);obtain⟨ca,cb,cc,cd,ce,cf⟩:=z;exact⟨ca.trans L λb az g=>by omega,cb,by rw[<-aU]at cc ⊢;show d.k+402<=_;omega,cd,ce,cf⟩
   have bU:=fC L (D:=λb=>Q.heap.size<=b/\b<al.heap.size) (λb g ch=>by omega) ⟨bp,In.offB (b5.mono λb g=>g.1) bp⟩;have bM:G1 i t d1 l:=by
    obtain⟨ao,aK,aL,A,o,x,H,S,O,ah,a5,b6⟩:=b1.kept L λb cg _ cB cC=>by omega
    have bd:∀{a4:Nat}{an:Tm a4},In l.heap.size l a4 an->cG (λb=>Q.heap.size+1<=b/\True) a4 an->GX d1 l an:=λbB bC=>⟨bB,bC.mono λb g=>bh b (by omega)⟩;refine⟨ao,_,aK,aL,A,o,x,H,S,O,λg I=>⟨(ah g I).1,bd (ah g I).2.1 (ah g I).2.2⟩,λg I=>⟨(a5 g I).1,bd (a5 g I).2.1 (a5 g I).2.2⟩,λb g=>⟨?_,bh b (by have:=(b6 b g).1;omega)⟩⟩;rcases g with g|g|g
    ·exact(o.lt b g).2
    ·exact(x.lt b g).2
    ·exact(H.lt b g).2
   obtain⟨⟨cA,cg,ch⟩,⟨cD,cE⟩,cH⟩:=r;simp only[gS]at f1 f2;obtain⟨rfl,rfl,rfl⟩:=f1;obtain⟨rfl,rfl⟩:=f2;rw[<-f3];have bN:d1.es=d.es:=by rw[<-aU]
   refine(ar.tell nX a 0 _ _ _ _ _ _ _ (lg bU.1 b4) (by rw[bN];omega)).mono ?_;rintro e w' ⟨rfl,y⟩;obtain⟨d2,M,C⟩:=y.out.up ar;have bj:=(aS.1 ag).1;have cw:=C.1.size;rw[b3]at M;refine⟨rfl,i,d2,bK,b0,M,(bT.trans C.un).mono (by omega) (by omega),⟨G.1,by omega,by rw[C.2.1 h bj];exact aW,?_⟩,b2,bM.kee C.1 C.2.1⟩;rw[C.1.block h bj (by rw[aW];decide)];exact ag
  ·obtain⟨i,d1,z,u,⟨A,o,x,H,S⟩⟩:=F;obtain⟨ao,a7,aK,aL,X,aZ,a0,a1,a2,ad,a3,aD,aE⟩:=S;have aY:=FF bg u;have cs:t.pl<=8:=by
    have:=aY.1.2.1;rw[<-ad,cF]at this;omega
   refine(A.made a0 X.2.1 (by omega) λg I=>⟨(aD g I).1,(aD g I).2.1⟩).mono ?_;rintro e w' ⟨v,b,rfl,y⟩;obtain⟨ai,br,bs⟩:=y.out;rw[ad]at br bs;have bR:∀h,l.heap.size<=h->d1.ow h=0:=λh aV=>by
    by_cases g:d1.ow h=0
    ·exact g
    ·have:=(A.low h g).2;omega
   refine⟨v,b,rfl,i,d1,z,u,⟨A.later ai,(o.trans (ey.later d1 ai).un).mono (aA _) (aA _),⟨x.1,bi x.2.1 ai.size,x.2.2.1,fk ai x.2.2.2⟩,H,G1.kee ⟨ao,a7,aK,aL,X,aZ,a0,a1,a2,ad,a3,aD,aE⟩ (aR ai _) λ_ _=>rfl⟩,br,λaz=>?_⟩;obtain⟨U,aM,aO,b8,a6,bw,aJ⟩:=bs az;exact⟨U,aM,aO,l.heap.size,b8,a6,o.1.size,bR,bw,aJ⟩
  ·obtain⟨i,d1,z,u,A,o,x,_⟩:=F;exact x.2.2.2
  ·obtain⟨i,d1,z,u,⟨A,o,x,_⟩,_⟩:=F;exact x.2.2.2
  ·obtain⟨i,d1,z,u,⟨A,o,x,H,S⟩,_⟩:=F;rw[if_pos z,u]at m;simp only at m;rw[H]at N ⊢;rw[if_pos N]at m;refine(A.fin aT (by have:=o.2.2.2.1;omega)).mono ?_;rintro e w' ⟨rfl,y⟩;obtain⟨d2,M,C⟩:=y.out;rw[m];exact⟨rfl,rfl,d2,M,(o.trans C.un).mono (by omega) (by omega)⟩
  ·obtain⟨i,d1,z,u,⟨A,o,x,H,S⟩,O,_⟩:=F;rw[if_pos z,u]at m;simp only at m;rw[H]at N;rw[if_neg N,if_pos O.symm]at m;have bk:=congrArg Prod.fst m;have bl:=congrArg Prod.snd m;dsimp only at bk bl;refine(A.fin (how:=2) aT (by have:=o.2.2.2.1;omega)).mono ?_;rintro e w' ⟨rfl,y⟩;obtain⟨d2,M,C⟩:=y.out;rw[<-bk]at M;exact⟨rfl,bl.symm,d2,M,(o.trans C.un).mono (by omega) (by omega)⟩
  ·obtain⟨i,d1,z,u,⟨A,o,x,H,S⟩,O,ah⟩:=F;rw[if_pos z,u]at m;simp only at m;rw[H]at N;have bS:¬Sy.made p.n p.prog p.room ((s.put a (B,i.state,i.mail)).tell nX a 0 i.message) i.spawns=false:=λg=>Bool.noConfusion (O.trans g);rw[if_neg N,if_neg bS]at m;obtain⟨U,aM,aO,c,rfl,a6,bw,aJ,bx,b9⟩:=ah rfl;obtain⟨ao,a7,aK,aL,X,aZ,a0,a1,a2,ad,a3,aD,aE⟩:=S;have aY:=FF bg u;have bm:i.spawns.length=t.pl:=by rw[<-ad,cF];exact X.2.1
   have bQ:Sy.may ((s.put a (B,i.state,i.mail)).tell nX a 0 i.message) t.pl=true:=by
    unfold Sy.made at O;rw[bm]at O;exact(Bool.and_eq_true_iff.1 O.symm).1
   have hF:=A.follow (pa:=t.pa) (pl:=t.pl) (pc:=t.pc) aT i aY t.y0 t.y1 t.y2 t.ya t.yl t.yc aZ a1 bx ⟨X.1,X.2.2,a6,bm⟩ a2 a3 (λb g=>?_) b9 (aA _) (λh g _=>aJ h g) bQ (by have:=o.2.2.1;omega) (by have:=o.2.2.2.1;omega) (by have:=o.2.2.2.2.1;omega) (by have:=o.2.2.2.2.2;omega)
   ·rw[<-H]at hF;refine hF.mono ?_;rintro e w' ⟨rfl,y⟩;obtain⟨d2,M,C⟩:=y;rw[m];exact⟨rfl,rfl,d2,M,o.ug C λh g=>by omega⟩
   ·rcases g with g|g|g
    ·exact(aE b (ak g)).2
    ·exact(aE b (am (am g))).2
    ·rw[aJ b (bx.lt b g).1];exact km 0
end
theorem LV(p:Nat)(c a b q r:Int)(s:aq)(xa:ay)(t xc:Nat)(w:ah)(R:Int->bF)(m:Hid (c=1->∀W,ap w W->au 87 #[aF p,ae a] W λe w'=>∃v,e=aw (ae v)/\Hid (R v w')))(i:Hid (c=2->∀W,ap w W->au 88 #[aF p,ae a,ae b] W λe w'=>∃v,e=aw (ae v)/\Hid (R v w')))(l:Hid (c=3->∀W,ap w W->au 89 #[aF p,ae a,aB q r s xa t xc] W λe w'=>∃v,e=aw (ae v)/\Hid (R v w')))(k:Hid (¬(c=1\/c=2\/c=3)->∀W,ap w W->R 1 W)):au 58 #[aF p,.agg #[ae c,ae a,ae b,ae q,ae r,ag s,af xa t xc]] w λe w'=>∃v,e=aw (ae v)/\Hid (R v w'):=by
 go_enter func58,ntmps58;go_upto_region 1 with fail;generalize x:w.alloc _=d;have HB:Hid (ap w d):=by
  rw[<-x];exact aW _ _
 have f:d.heap[w.heap.size]?=some (.cells #[ae c,ae a,ae b,ae q,ae r,ag s,af xa t xc] 78):=by
  rw[<-x];exact aL _ _
 generalize w.heap.size=g at*;clear x;have d0:ai d g 0 (ae c):=aj f 0;have d1:ai d g 1 (ae a):=aj f 1;have d2:ai d g 2 (ae b):=aj f 2;have d3:ai d g 3 (ae q):=aj f 3;have d4:ai d g 4 (ae r):=aj f 4;have d5:ai d g 5 (ag s):=aj f 5;have d6:ai d g 6 (af xa t xc):=aj f 6;clear f;by_cases n:c=1
 ·have j:=av (m n _ HB);subst n;clear m i l k;go_wp2_with fail;refine j.mono ?_;rintro e z ⟨v,rfl,h⟩;go_wp2_with fail
  go_ret
  exact⟨v,rfl,h⟩
 have y:(c==1)=false:=by simpa using n
 by_cases o:c=2
 ·have j:=av (i o _ HB);subst o;clear m i l k n y;go_wp2_with fail;refine j.mono ?_;rintro e z ⟨v,rfl,h⟩;go_wp2_with fail
  go_ret
  exact⟨v,rfl,h⟩
 have B:(c==2)=false:=by simpa using o
 by_cases u:c=3
 ·have j:=av (l u _ HB);subst u;clear m i l k n y o B;go_wp2_with fail;refine j.mono ?_;rintro e z ⟨v,rfl,h⟩;go_wp2_with fail
  go_ret
  exact⟨v,rfl,h⟩
 have C:(c==3)=false:=by simpa using u
 have A:=av (k (by omega) _ HB);clear m i l k;go_wp2_with fail
 go_ret
 exact⟨1,rfl,A⟩
section
variable {p:mO} {s:Sy} {d:gY} {w:ah}
theorem bG.do(r:bG p s d w){o a b:Int}(y:I2 (a,b)){m:Nat}(x:Tm (m+1))(z:In w.heap.size w (m+1) x/\cG (λq=>¬1<=d.ow q) (m+1) x)(B:(aI (m+1) x).length<=2097152)(D:d.k<=91000)(A:d.es.length<=96000)(E:d.wn<=800000)(C:d.bn<=800000):au 58 #[aF p.b,.agg #[ae o,ae a,ae b,ae x.1.1,ae x.1.2.1,ag x.1.2.2,af x.2.1.1 x.2.2.length x.2.1.2]] w λe w'=>∃v,e=aw (ae v)/\Hid (v=(s.do p.n p.prog p.room o a b (m+1) x).2/\∃f,bG p (s.do p.n p.prog p.room o a b (m+1) x).1 f w'/\gF 201 402 d f w w'):=by
 obtain⟨t,g⟩:∃t,t=s.do p.n p.prog p.room o a b (m+1) x:=⟨_,rfl⟩;rw[<-g];unfold Sy.do at g;refine LV p.b o a b x.1.1 x.1.2.1 x.1.2.2 x.2.1.1 x.2.2.length x.2.1.2 w (λv w'=>v=t.2/\∃f,bG p t.1 f w'/\gF 201 402 d f w w') (λe u c=>?_) (λe u c=>?_) (λe u c=>?_) λe u c=>?_
 ·rw[if_pos e]at g;refine((r.later c).run y.1 D A E C).mono ?_;rintro e w' ⟨v,rfl,h⟩;obtain⟨i,f,j,l⟩:=h.out;rw[g];exact⟨v,rfl,i,f,j,((ey.later d c).un.trans l).mono (by omega) (by omega)⟩
 ·rw[if_neg (by omega),if_pos e]at g;refine((r.later c).arrive y (by omega) (by omega) (by omega)).mono ?_;rintro e w' ⟨v,rfl,h⟩;obtain⟨i,f,j,l⟩:=h.out;rw[g];exact⟨v,rfl,i,f,j,((ey.later d c).un.trans l).mono (by omega) (by omega)⟩
 ·rw[if_neg (by omega),if_neg (by omega),if_pos e]at g;refine((r.later c).inject y.1 x ⟨(z.1.below c).mono c.size,z.2⟩ B (by omega) (by omega)).mono ?_;rintro e w' ⟨v,rfl,h⟩;obtain⟨i,f,j,l⟩:=h;rw[g];exact⟨v,rfl,i,f,j,((ey.later d c).un.trans l).mono (by omega) (by omega)⟩
 ·rw[if_neg (by omega),if_neg (by omega),if_neg (by omega)]at g;rw[g];exact⟨rfl,d,r.later c,(ey.later d c).un.mono (by omega) (by omega)⟩
end
theorem Jl(y:ay)(A z:Nat)(room E:Int)(w:ah)(n:Int->Int->aq->ay->Nat->Nat->bF)(r:ay->Nat->Nat->bF)(R:az->Int->bF)(x:Hid (au 82 #[af y A z] w λe w'=>∃y0 y1 y2 ya yl yc,e=aw (ax #[aB y0 y1 y2 ya yl yc,ae E])/\Hid (n y0 y1 y2 ya yl yc w')))(j:Hid (E=0->(0<=room/\room<=1000)->∀y0 y1 y2 ya yl yc W b,n y0 y1 y2 ya yl yc W->ap W b->au 54 #[aB y0 y1 y2 ya yl yc] b λe w'=>∃a l c h,e=aw (ax #[af a l c,ae h])/\Hid (r a l c w')))(g:Hid (∀y0 y1 y2 ya yl yc W b,n y0 y1 y2 ya yl yc W->ap W b->(E≠0->R (.pointer none) E b)/\(E=0->¬(0<=room/\room<=1000)->R (.pointer none) 1 b)))(k:Hid (∀a l c W,E=0->(0<=room/\room<=1000)->r a l c W->R (aF W.heap.size) 0 (W.alloc (.cells #[af a l c,ae room,ae 0,.map none,.map none,.map none,af none 0 0] 139)))):au 55 #[af y A z,ae room] w λe w'=>∃v h,e=aw (ax #[v,ae h])/\Hid (R v h w'):=by
 go_enter func55,ntmps55;go_wp2_with fail;refine x.mono ?_;rintro e i ⟨y0,y1,y2,ya,yl,yc,rfl,d⟩;clear x;have m:Hid (∀o,ap i (i.alloc o)):=λo=>aW _ o;by_cases p:E=0;rotate_left
 ·have f:Hid (∀o,R (.pointer none) E (i.alloc o)):=λo=>(g _ _ _ _ _ _ _ _ d (m o)).1 p;have F:(E==0)=false:=by simpa using p
  clear j g k d;go_wp2_with fail;exact aE (v:=ax #[.pointer none,ae E]) (by simp[results,results55,go_sem]) rfl ⟨_,_,rfl,f _⟩
 subst p;by_cases q:0<=room/\room<=1000;rotate_left
 ·have f:Hid (∀o,R (.pointer none) 1 (i.alloc o)):=λo=>(g _ _ _ _ _ _ _ _ d (m o)).2 rfl q;clear j g k d;by_cases B:room<0
  ·go_wp2_with fail;exact aE (v:=ax #[.pointer none,ae 1]) (by simp[results,results55,go_sem]) rfl ⟨_,_,rfl,f _⟩
  ·have C:1000<room:=by omega
   go_wp2_with fail;exact aE (v:=ax #[.pointer none,ae 1]) (by simp[results,results55,go_sem]) rfl ⟨_,_,rfl,f _⟩
 have t:=av (λb=>j rfl q y0 y1 y2 ya yl yc i b d);have u:=av (λa l c W=>k a l c W rfl q);have B:¬room<0:=by omega
 have C:¬1000<room:=by omega
 clear j k g d;go_wp2_with fail;refine(t _ (m _)).mono ?_;rintro e D ⟨a,l,c,h,rfl,s⟩;have f:=av (u _ _ _ _ s);clear t u s;go_wp2_with fail;exact aE (v:=ax #[aF D.heap.size,ae 0]) (by simp[results,results55,go_sem]) rfl ⟨_,_,rfl,f⟩
def Qg:Sy:=⟨0,[],λ_=> [],λ_=>false,[]⟩
def Dl(n:Nat)(l:List (Bh (n+1)))(room:Int):Int:=if oJ n l≠0 then oJ n l else if 0<=room/\room<=1000 then 0 else 1
def PY(n:Nat)(l:List (Bh (n+1)))(room:Int)(w:ah)(v:az)(d:Int)(w':ah):Prop:=
 d=Dl n l room/\ap w w'/\(d≠0->v=.pointer none)/\(d=0->∃(a:mO)(c:gY),v=aF a.b/\bG a Qg c w'/\(c.k=0/\c.es=[]/\c.wn=0/\c.bn=0)/\a.room=room/\a.lo=w.heap.size/\a.n=n+5/\aK (a.n+6) (cY a.n a.prog) (n+6) (cY n l)=true)
theorem L6(n:Nat)(l:List (Bh (n+1)))(y:ay)(q:Nat)(room:Int)(w:ah)(U:iX (n+1) w.heap.size w y l)(V:l.length<=q)(W:q<=maxLen)(F:lm (n+1) l=true->(aI (n+6) (cY n l)).length<=2097152):au 55 #[af y l.length q,ae room] w λe w'=>∃v M,e=aw (ax #[v,ae M])/\Hid (PY n l room w v M w'):=by
 refine Jl y l.length q room (oJ n l) w (λy0 y1 y2 ya yl yc d=>ap w d/\∃f:Tm (n+6),(f.1=(y0,y1,y2)/\f.2.1=(ya,yc)/\f.2.2.length=yl)/\In d.heap.size d (n+6) f/\aK (n+6) f (n+6) (Jw n l)=true)
  (λi h c d=>∃g:List (Bh (n+6)),g.length=h/\(∃A,ap w A/\ap A d)/\(h<=c/\c<=maxLen)/\iX (n+6) d.heap.size d i g/\uD (kG (n+6) λb=>w.heap.size<=b) (λb=>w.heap.size<=b) i g/\oJ (n+5) g=0/\aK (n+11) (cY (n+5) g) (n+6) (cY n l)=true) (PY n l room w) ?_ (λj u y0 y1 y2 ya yl yc d r p o=>?_) (λy0 y1 y2 ya yl yc d r p o=>⟨λj=>?_,λj u=>?_⟩) λi h c d j u hF=>?_
 ·refine(Mi n l y q V W w.heap.size w U (aA _) F).mono ?_;rintro e w' ⟨f,rfl,z⟩;obtain⟨O,P,aj,Q⟩:=z.out;exact⟨f.1.1,f.1.2.1,f.1.2.2,f.2.1.1,f.2.2.length,f.2.1.2,rfl,O,f,⟨rfl,rfl,rfl⟩,P,Q⟩
 ·obtain⟨m,f,⟨f1,f2,f3⟩,D,x⟩:=p;obtain⟨⟨av,az,aB⟩,⟨aC,aD⟩,aE⟩:=f;simp only[gS]at f1 f2;obtain⟨rfl,rfl,rfl⟩:=f1;obtain⟨rfl,rfl⟩:=f2;subst f3;obtain⟨t1,t2,t3⟩:=Jy j x;refine(Ck (n+5) (n+6) (aA _) _ r.heap.size r ((D.below o).mono o.size) (gI t1) (aA _)).mono ?_;rintro e w' ⟨g,i,c,rfl,z⟩;obtain⟨aa,ab,ad,ag,an,ai⟩:=z;obtain⟨a,Y,Z⟩:=ai t2;obtain⟨ao,K,L,aq,ar⟩:=t3 a g Y Z;have G:=m.trans (o.mono m.size);have am:=G.size;have h:=dc (eM (n+6)) 2 (rK (n+6)) i;rw[(gQ K).2.2,(gQ j).2.2]at L;exact⟨i,g.length,c,_,rfl,g,rfl,⟨r,G,aa⟩,ab,ad,h.1 _ _ _ (λb a=>by omega) ag,K,L⟩
 ·have m:=p.1.trans (o.mono p.1.size);exact⟨by unfold Dl;rw[if_pos j],m,λ_=>rfl,λa=>absurd a j⟩
 ·have m:=p.1.trans (o.mono p.1.size);exact⟨by unfold Dl;rw[if_neg (by rw[j];decide),if_neg u],m,λ_=>rfl,(λa=>by cases a)⟩
 ·obtain⟨g,rfl,⟨A,E,N⟩,H,C,I,X,x⟩:=hF;have m:=E.trans (N.mono E.size);have J:=m.size;have s:ap d (d.alloc (.cells #[af i g.length c,ae room,ae 0,.map none,.map none,.map none,af none 0 0] 139)):=aW _ _;generalize R:d.alloc (.cells #[af i g.length c,ae room,ae 0,.map none,.map none,.map none,af none 0 0] 139)=B at s;have t:B.heap[d.heap.size]?=some (.cells #[af i g.length c,ae room,ae 0,.map none,.map none,.map none,af none 0 0] 139):=by
   rw[<-R];exact aL _ _
  have al:=(aS.1 t).1;refine⟨by unfold Dl;rw[if_neg (by rw[j];decide),if_pos u],m.trans (s.mono m.size),λa=>absurd rfl a,λ_=>⟨⟨w.heap.size,d.heap.size,room,n+5,g,i,c⟩,⟨λb=>if b=d.heap.size then -5 else if w.heap.size<=b/\b<d.heap.size then -4 else 0,none,[],none,0,λ_=> [],λ_=>nu,none,0,af none 0 0,[],0⟩,rfl,?_,⟨rfl,rfl,rfl,rfl⟩,rfl,rfl,rfl,x⟩⟩;have h:=dc (eM (n+6)) 2 (rK (n+6)) i;refine⟨λb a=>?_,t,if_pos rfl,⟨⟨?_,?_⟩,H.1,H.2,X,?_⟩,ak ⟨rfl,rfl⟩,⟨rfl,List.nodup_nil,by simp[Qg],by decide,by decide,by simp[Qg]⟩,?_,⟨⟨J,(rC t).1,ak ⟨rfl,rfl,rfl⟩⟩,?_,λ_=>rfl,λ_=>aN _,?_⟩,⟨⟨J,(rC t).2,ak ⟨rfl,rfl⟩⟩,?_,(λb a=>by cases a)⟩,⟨eX _ _ _ _,(λb a=>by cases a)⟩,rfl,(λe S=>by cases S)⟩
  ·have a:(if b=d.heap.size then (-5:Int)else if w.heap.size<=b/\b<d.heap.size then -4 else 0)≠0:=a;show w.heap.size<=b/\b<B.heap.size;split at a
   ·omega
   ·split at a
    ·omega
    ·exact absurd rfl a
  ·exact h.2.2.2.1 _ _ _ _ s.size (h.2.2.1 _ _ _ B _ (λb a=>s.block b a.2) (h.2.1 _ _ _ _ I C) C)
  ·refine h.1 _ _ _ (λb a=>?_) (h.2.1 _ _ _ _ I C);exact(if_neg (by omega)).trans (if_pos ⟨a.1,a.2⟩)
  ·rw[lq _ _ _ _ x];exact F (gQ j).1
  ·intro k b a;cases a
  ·intro b a;rcases a with a|a|⟨k,_,a⟩
   ·exact ak a
   ·cases a
   ·cases a
  ·intro k f D;cases D
  ·intro k T;cases T
theorem M8{P:List (Bh (n+1))}{Q:List (Bh (m+1))}(d:aK (n+6) (cY n P) (m+6) (cY m Q)=true)(f:oJ n P=0)(g:oJ m Q=0){s:Sy}(q:∀a nm cs c,s.get a=some (nm,cs,c)->(bL 13 cs=0/\aY 13 cs=true)/\∀t∈c,bL 13 t=0/\aY 13 t=true)(v:0<=s.last/\s.last<=90)(room i a b:Int)(k:Nat)(x:Tm k):s.do n P room i a b k x=s.do m Q room i a b k x:=by
 have p:lX n P=lX m Q:=funext λnm=>wk d nm;have r:s.run n P room a=s.run m Q room a:=by
  unfold Sy.run;cases e:s.get a with
  | none=>rfl
  | some u=>
   obtain⟨nm,cs,c⟩:=u;obtain⟨j,l⟩:=q a nm cs c e;have h:=Jo d f g room nm a (s.last+1) ⟨by omega,by omega⟩ j l;have o:rB n room P nm a (s.last+1) cs c=rB m room Q nm a (s.last+1) cs c:=by
    unfold rB;rw[h,f,g]
   simp only[o,h,Sy.made,p];split
   ·cases ov room Q nm a (s.last+1) cs c<;>rfl
   ·rfl
 unfold Sy.do;rw[r]
theorem FB{P:List (Bh (n+1))}{Q:List (Bh (m+1))}(a:aK (n+6) (cY n P) (m+6) (cY m Q)=true)(s:Sy)(room:Int)(nm:aq)(k:Nat)(x:Tm k):s.start n P room nm k x=s.start m Q room nm k x:=by
 unfold Sy.start;rw[wk a]
theorem KY{P:List (Bh (n+1))}{x:Tm k}{y:Tm j}(c:aK k x j y=true)(s:Sy)(room a b:Int):s.do n P room 3 a b k x=s.do n P room 3 a b j y:=by
 unfold Sy.do Sy.inject;rw[bP c,cH _ _ _ _ c,gC c]
def wA:aq:=⟨#[97]⟩
def vL(c:UInt8):Bool:=decide (48<=(c.toNat:Int)) && decide ((c.toNat:Int)<=57)
def iW(l:List UInt8):Bool:=l.all vL
def mn(l:List UInt8):Int:=l.foldl (λn c=>10*n+((c.toNat:Int)-48)) 0
def fm(s:aq)(m:Int):Bool:=decide (1<=(s.size:Int)) && decide ((s.size:Int)<=m) && !(s.data.toList[0]?==some 48 && decide (1<(s.size:Int))) && iW s.data.toList
theorem vM(s:aq)(k:Nat)(a:k<s.size):iW (s.data.toList.take (k+1))=(iW (s.data.toList.take k) && vL s[k]):=by
 rw[tN s k a];simp[iW]
theorem IQ(s:aq)(k:Nat)(a:k<s.size):mn (s.data.toList.take (k+1))=10*mn (s.data.toList.take k)+((s[k].toNat:Int)-48):=by
 rw[tN s k a];simp[mn]
theorem ES(l:List UInt8):iW l=true->0<=mn l/\mn l<10 ^ l.length:=by
 suffices g:∀(l:List UInt8)(a:Int)(b:Nat),iW l=true->0<=a->a<10 ^ b->0<=l.foldl (λn c=>10*n+((c.toNat:Int)-48)) a/\l.foldl (λn c=>10*n+((c.toNat:Int)-48)) a<10 ^ (b+l.length) by
  intro d;have:=g l 0 0 d (by omega) (by simp);simpa [mn]using this
 intro l
 induction l with
 | nil=>intro a b _ e f;exact⟨e,f⟩
 | cons c l ih=>
  intro a b d e f;simp only[iW,jx,aT,vL,cV]at d;have:=ih (10*a+((c.toNat:Int)-48)) (b+1) (by simp only[iW];exact d.2) (by omega) (by rw[Int.pow_succ];omega);simp only[gh,bv];rw[show b+(l.length+1)=b+1+l.length by omega];exact this
theorem ET(s:aq)(k:Nat)(d:k<=14)(c:iW (s.data.toList.take k)=true):0<=mn (s.data.toList.take k)/\mn (s.data.toList.take k)<100000000000000:=by
 have a:=ES _ c;refine⟨a.1,Int.lt_of_lt_of_le a.2 ?_⟩;have:(10:Int) ^ (s.data.toList.take k).length<=10 ^ 14:=by
  have b:(10:Nat) ^ (s.data.toList.take k).length<=10 ^ 14:=Nat.pow_le_pow_right (by omega) (by simp;omega)
  exact_mod_cast b
 simpa using this
theorem yj(s:aq)(k:Nat)(a:k<s.size)(c:vL s[k]=false):iW s.data.toList=false:=by
 have b:iW s.data.toList=(iW (s.data.toList.take (k+1)) && iW (s.data.toList.drop (k+1))):=by
  conv=>lhs;rw[<-iN (k+1) s.data.toList]
  simp only[iW,lA]
 rw[b,vM s k a,c];simp
theorem sj(s:aq)(a:0<s.size):s.data.toList[0]?=some s[0]:=by
 rw[aV (by simpa using a)];rfl
theorem Pk(s:aq)(e:0<s.size)(f:s[0]=48):(s.toList==[48])=decide (¬1<s.size):=by
 rw[cE];have b:=sj s e;rw[f]at b;have a:s.data.toList.length=s.size:=by simp
 cases d:s.data.toList with
 | nil=>rw[d]at a;simp at a;omega
 | cons c l=>
  rw[d]at b a;simp at b;subst b;cases l with
  | nil=>simp at a;simp;omega
  | cons g l=>simp at a;simp;omega
theorem Dj(b:0<s.size):s.toList.isEmpty=false:=by
 rw[cE,List.isEmpty_eq_false_iff];intro a;have:s.data.toList.length=s.size:=by simp
 rw[a]at this;simp at this;omega
theorem Di(a:¬0<s.size):s.toList.isEmpty=true:=by
 rw[cE,List.isEmpty_iff];apply b9;have:s.data.toList.length=s.size:=by simp
 omega
theorem kQ{c:UInt8}{d:UInt8}(b:d.toNat=k)(a:¬c=d):¬((c.toNat:Int)=k):=λe=>a (UInt8.toNat.inj (by omega))
def OR(s:aq)(m:Int)(e:Ending):Prop:=
 ∃(a:Int)(b:Bool),e=aw (ax #[ae a,.bool b])/\Hid (b=fm s m/\0<=a/\a<100000000000000/\(b=true->a=mn s.data.toList))
theorem pf(s:aq)(m:Int)(w:ah)(E:s.size<=9223372036854775807)(D:m<=13):au 111 #[ag s,ae m] w λe w'=>OR s m e/\w'=w:=by
 go_enter func111,ntmps111;by_cases g:0<s.size
 ·have n:=Dj g;have A:(s.toList=[])=False:=by simpa using n
  by_cases l:(s.size:Int)<=m
  ·have z:decide (m<(s.size:Int))=false:=by simp;omega
   have i:s[0]=48->(s.toList==[48])=decide (¬1<s.size):=Pk s g;by_cases c:s[0]=48/\1<s.size
   ·obtain⟨c,a⟩:=c;have j:(s.toList==[48])=false:=by rw[i c];simp;omega
    have b:Hid (fm s m=false):=by simp[Hid,fm,sj s g,c];omega
    clear i;go_wp2_with fail
    all_goals go_ret2
    all_goals exact⟨⟨0,false,rfl,b.symm,by omega,by omega,by simp⟩,rfl⟩
   ·have b:Hid (fm s m=iW s.data.toList):=by
      simp only[Hid,fm];rw[sj s g];by_cases a:s[0]=48
      ·have:¬1<s.size:=λf=>c ⟨a,f⟩;simp[l];omega
      ·simp[l,a];omega
    have j:(s[0]=48/\(s.toList==[48])=true)\/¬((s[0].toNat:Int)=48):=by
     by_cases a:s[0]=48
     ·have B:¬1<s.size:=λf=>c ⟨a,f⟩;exact ak ⟨a,by rw[i a];simp;omega⟩
     ·exact am (kQ (k:=48) rfl a)
    clear i c;rcases j with⟨a,j⟩|j
    all_goals
     go_wp2_with fail
     go_loop [6,7] (λt p=>∃k:Nat,∃h:Int,k<=s.size/\p=ae k/\t=ae h/\Hid (h=mn (s.data.toList.take k)/\iW (s.data.toList.take k)=true)) (λ_ p=>s.size-(intOf p).toNat)
     case atStart=>exact⟨0,0,aN _,rfl,rfl,by simp[Hid,iW,mn]⟩
     case round=>
      obtain⟨k,h,C,rfl,rfl,d⟩:=hrel;have r:=ET s k (by omega) d.2;rw[<-d.out.1]at r;obtain⟨F,G⟩:=r;by_cases o:k<s.size
      ·have x:=av (vM s k o);have y:=av (IQ s k o);have q:Hid (vL s[k]=false->false=fm s m):=λf=>by rw[b.out,yj s k o f]
       by_cases d1:48<=(s[k].toNat:Int)
       ·by_cases d2:(s[k].toNat:Int)<=57
        ·go_wp2_with fail
         go_round
         case rel=>exact⟨k+1,10*h+((s[k].toNat:Int)-48),by omega,by go_num,by go_num,by rw[y.out,d.out.1],by rw[x.out,d.out.2];simp[vL,d1,d2]⟩
         case measure=>simp[intOf];omega
        ·go_wp2_with fail
         go_ret2
         exact⟨⟨0,false,rfl,q (by simp[vL,d2]),by omega,by omega,by simp⟩,rfl⟩
       ·go_wp2_with fail
        go_ret2
        exact⟨⟨0,false,rfl,q (by simp[vL];omega),by omega,by omega,by simp⟩,rfl⟩
      ·go_wp2_with fail
       go_ret2
       have u:s.data.toList.take k=s.data.toList:=bI (by simp;omega);refine⟨⟨h,true,rfl,?_,by omega,by omega,λ_=>?_⟩,rfl⟩
       ·rw[b.out,<-u,d.out.2]
       ·rw[d.out.1,u]
  ·have z:m<(s.size:Int):=by omega
   have b:Hid (fm s m=false):=by simp[Hid,fm,l]
   go_wp2_with fail
   all_goals go_ret2
   all_goals exact⟨⟨0,false,rfl,b.symm,by omega,by omega,by simp⟩,rfl⟩
 ·have n:=Di g;have A:(s.toList=[])=True:=by simpa using n
  have v:s.size=0:=by omega
  have b:Hid (fm s m=false):=by simp[Hid,fm,v]
  clear v;go_wp2_with fail
  all_goals go_ret2
  all_goals exact⟨⟨0,false,rfl,b.symm,by omega,by omega,by simp⟩,rfl⟩
def iH(s:aq):aq:=s.extract 1 s.size
def gD(s:aq):Bool:=
 if s.data.toList[0]?=some 35 then fm (iH s) 2
 else if s.data.toList[0]?=some 36 then fm (iH s) 2
 else if s.data.toList[0]?=some 45 then fm (iH s) 13 && !(mn (iH s).data.toList==0)
 else if s.toList==[95]then true
 else if fm s 13 then true
 else decide (0<s.size) && gE s.data.toList
def ni(s:aq):Int×Int×aq:=
 if s.data.toList[0]?=some 35 then (3,mn (iH s).data.toList,⟨#[]⟩)
 else if s.data.toList[0]?=some 36 then (5,mn (iH s).data.toList,⟨#[]⟩)
 else if s.data.toList[0]?=some 45 then (1,-mn (iH s).data.toList,⟨#[]⟩)
 else if s.toList==[95]then (6,0,⟨#[]⟩)
 else if fm s 13 then (1,mn s.data.toList,⟨#[]⟩)
 else (2,0,s)
def ME(s:aq)(e:Ending):Prop:=
 ∃(k a:Int)(t:aq)(b:Bool),e=aw (ax #[aB k a t none 0 0,.bool b])/\Hid (b=gD s/\(b=true->(k,a,t)=ni s)/\t.size<=s.size/\dp k/\dp a)
theorem FG(s:aq):(iH s).size<=s.size:=by simp[iH]
def OP(k:Int)(s:aq)(e:Ending):Prop:=
 ∃(a:Int)(b:Bool),e=aw (ax #[.agg #[ae k,ae a,ag ⟨#[]⟩,af none 0 0],.bool b])/\Hid (b=fm s 2/\0<=a/\a<100000000000000/\(b=true->a=mn s.data.toList))
theorem sA(k:Int)(s:aq)(w:ah)(c:s.size<=9223372036854775807):au 110 #[ae k,ag s] w λe w'=>OP k s e/\ap w w':=by
 go_enter func110,ntmps110;go_wp2_with (go_at_call 111;refine(pf _ _ _ c (by omega)).mono ?_;rintro e w' ⟨⟨v,b,rfl,a⟩,rfl⟩);exact aE (v:=ax #[.agg #[ae k,ae v,ag ⟨#[]⟩,af none 0 0],.bool b]) (by simp[results,results110,go_sem]) rfl ⟨⟨v,b,rfl,a⟩,by go_grown⟩
theorem Hh(s:aq)(w:ah)(b:s.size<=2048):au 112 #[ag s] w λe w'=>e=aw (ag s)/\ap w w':=by
 go_enter func112,ntmps112;go_wp2_with (go_at_call 143;refine(Tryz.stringslite_Clone s w (by omega)).mono ?_;rintro e w' ⟨rfl,a⟩)
 go_ret
 exact⟨rfl,a⟩
theorem Ho(s:aq)(a:0<s.size)(b:vL s[0]=false)(m:Int):fm s m=false:=by simp[fm,yj s 0 a b]
theorem ID(s:aq)(a:0<s.size)(c:Ax s[0]=false):gE s.data.toList=false:=by
 have b:gE s.data.toList=(gE (s.data.toList.take 1) && gE (s.data.toList.drop 1)):=by
  conv=>lhs;rw[<-iN 1 s.data.toList]
  simp only[gE,lA]
 rw[b,wF s 0 a,c];simp
theorem OZ(s:aq)(d:0<s.size)(b:¬s[0]=95):(s.toList==[95])=false:=by
 rw[cE];have a:=sj s d;cases hl:s.data.toList with
 | nil=>rfl
 | cons c l=>
  rw[hl]at a;simp at a;rw[<-a]at b;simp[b]
def qr(k a:Int)(t:aq):az:=aB k a t none 0 0
theorem dQ(a: -100000000000000<=d)(b:d<=100000000000000):dp d:=⟨by omega,by omega⟩
theorem zN{t:TypeId}(c:Below (w.alloc (.cells #[v0,v1,v2,v3] t)).heap.size (w.alloc (.cells #[v0,v1,v2,v3] t)) w'):(ai w' w.heap.size 0 v0/\ai w' w.heap.size 1 v1/\ai w' w.heap.size 2 v2/\ai w' w.heap.size 3 v3)/\ (w'.frozen? ⟨w.heap.size,0,none⟩=false/\w'.frozen? ⟨w.heap.size,1,none⟩=false/\w'.frozen? ⟨w.heap.size,2,none⟩=false/\w'.frozen? ⟨w.heap.size,3,none⟩=false):=by
 have a:=λo=>c.cell (p:=⟨w.heap.size,o,none⟩) (by simp);have b:=λo=>c.frozen (p:=⟨w.heap.size,o,none⟩) (by simp);exact⟨⟨(a 0).trans (by simp[go_sem]),(a 1).trans (by simp[go_sem]),(a 2).trans (by simp[go_sem]),(a 3).trans (by simp[go_sem])⟩,(b 0).trans (by simp[go_sem]),(b 1).trans (by simp[go_sem]),(b 2).trans (by simp[go_sem]),(b 3).trans (by simp[go_sem])⟩
theorem EA(e:Below (w.alloc o).heap.size (w.alloc o) w')(a b c d:az):ap w ((((w'.setCell ⟨w.heap.size,0,none⟩ a).setCell ⟨w.heap.size,1,none⟩ b).setCell ⟨w.heap.size,2,none⟩ c).setCell ⟨w.heap.size,3,none⟩ d):=by
 have f:ap w w':=(aW _ _).trans (e.mono (by simp))
 go_grown
theorem I9(s:aq)(w:ah)(y:s.size<=2048):au 76 #[ag s] w λe w'=>ME s e/\ap w w':=by
 have D:=FG s;by_cases g:0<s.size
 ·have p:=Dj g;have u:(s.toList=[])=False:=by simpa using p
  have i:=av (sj s g);have C:(1:Int)<=s.size:=by omega
  by_cases j:s[0]=95
  ·have c:Hid (gD s=(s.toList==[95])/\((s.toList==[95])=true->ni s=(6,0,⟨#[]⟩))):=by
     simp only[Hid,gD,ni,i.out,j,Ho s g (by simp[vL,j]) 13,ID s g (by simp[Ax,j])];cases h:(s.toList==[95])<;>simp
   go_enter func76,ntmps76;go_wp2_with fail;exact aE (v:=ax #[qr 6 0 ⟨#[]⟩,.bool (s.toList==[95])]) (by simp[results,results76,go_sem,qr]) rfl ⟨⟨6,0,⟨#[]⟩,_,rfl,c.1.symm,λh=>(c.2 h).symm,aN _,dQ (by omega) (by omega),dQ (by omega) (by omega)⟩,by go_grown⟩
  ·have d1:=kQ (k:=95) (d:=95) rfl j;by_cases q:s[0]=35
   ·have c:Hid (gD s=fm (iH s) 2/\ni s=(3,mn (iH s).data.toList,⟨#[]⟩)):=by
      simp[Hid,gD,ni,i.out,q]
    go_enter func76,ntmps76;go_wp2_with (go_at_call 110;refine(sA 3 (iH s) _ (by omega)).mono ?_;rintro e w' ⟨⟨v,b,rfl,a⟩,f⟩;obtain⟨⟨l,m,n,o⟩,f0,f1,f2,f3⟩:=zN f;have HB:=av (EA f);clear f);exact aE (v:=ax #[qr 3 v ⟨#[]⟩,.bool b]) (by simp[results,results76,go_sem,qr,l,m,n,o]) rfl ⟨⟨3,v,⟨#[]⟩,_,rfl,by rw[c.out.1,a.out.1],λh=>by rw[c.out.2,a.out.2.2.2 h],aN _,dQ (by omega) (by omega),dQ (by have:=a.2.1;omega) (by have:=a.2.2.1;omega)⟩,HB _ _ _ _⟩
   ·have d2:=kQ (k:=35) (d:=35) rfl q;by_cases r:s[0]=36
    ·have c:Hid (gD s=fm (iH s) 2/\ni s=(5,mn (iH s).data.toList,⟨#[]⟩)):=by
       simp[Hid,gD,ni,i.out,r]
     go_enter func76,ntmps76;go_wp2_with (go_at_call 110;refine(sA 5 (iH s) _ (by omega)).mono ?_;rintro e w' ⟨⟨v,b,rfl,a⟩,f⟩;obtain⟨⟨l,m,n,o⟩,f0,f1,f2,f3⟩:=zN f;have HB:=av (EA f);clear f);exact aE (v:=ax #[qr 5 v ⟨#[]⟩,.bool b]) (by simp[results,results76,go_sem,qr,l,m,n,o]) rfl ⟨⟨5,v,⟨#[]⟩,_,rfl,by rw[c.out.1,a.out.1],λh=>by rw[c.out.2,a.out.2.2.2 h],aN _,dQ (by omega) (by omega),dQ (by have:=a.2.1;omega) (by have:=a.2.2.1;omega)⟩,HB _ _ _ _⟩
    ·have d3:=kQ (k:=36) (d:=36) rfl r;by_cases t:s[0]=45
     ·have c:Hid (gD s=(fm (iH s) 13 && !(mn (iH s).data.toList==0))/\ni s=(1,-mn (iH s).data.toList,⟨#[]⟩)):=by
        simp[Hid,gD,ni,i.out,t]
      go_enter func76,ntmps76;go_wp2_with (go_at_call 111;refine(pf (iH s) 13 _ (by omega) (by omega)).mono ?_;rintro e w' ⟨⟨v,b,rfl,a⟩,rfl⟩;obtain⟨A,B⟩:=(⟨a.2.1,a.2.2.1⟩:0<=v/\v<100000000000000);cases b)
      ·exact aE (v:=ax #[qr 1 (-v) ⟨#[]⟩,.bool false]) (by simp[results,results76,go_sem,qr]) rfl ⟨⟨1,-v,⟨#[]⟩,_,rfl,by rw[c.out.1,<-a.out.1];rfl,by simp,aN _,dQ (by omega) (by omega),dQ (by omega) (by omega)⟩,by go_grown⟩
      ·exact aE (v:=ax #[qr 1 (-v) ⟨#[]⟩,.bool (v !=0)]) (by simp[results,results76,go_sem,qr]) rfl ⟨⟨1,-v,⟨#[]⟩,_,rfl,by rw[c.out.1,<-a.out.1,<-a.out.2.2.2 (by trivial)];simp[bne],λ_=>by rw[c.out.2,a.out.2.2.2 (by trivial)],aN _,dQ (by omega) (by omega),dQ (by omega) (by omega)⟩,by go_grown⟩
     ·have d4:=kQ (k:=45) (d:=45) rfl t;have c:Hid (gD s=(fm s 13 || gE s.data.toList)/\(ni s=if fm s 13=true then (1,mn s.data.toList,⟨#[]⟩)else (2,0,s))):=by
       simp only[Hid,gD,ni,i.out,OZ s g j];simp[q,r,t];cases fm s 13<;>simp[g]
      go_enter func76,ntmps76
      go_wp2_with (first
       | (go_at_call 111;refine(pf s 13 _ (by omega) (by omega)).mono ?_;rintro e w' ⟨⟨v,b,rfl,a⟩,rfl⟩;obtain⟨A,B⟩:=(⟨a.2.1,a.2.2.1⟩:0<=v/\v<100000000000000);cases b)
       | (go_at_call 112;refine(Hh s _ y).mono ?_;rintro e E ⟨rfl,f⟩;obtain⟨⟨l,m,n,o⟩,f0,f1,f2,f3⟩:=zN f;have HB:=av (EA f);clear f)
       | (go_at_call 113;refine(uj s _ (by omega)).mono ?_;rintro e F ⟨rfl,rfl⟩))
      ·exact aE (v:=ax #[qr 2 0 s,.bool (gE s.data.toList)]) (by simp[results,results76,go_sem,qr,l,m,n,o]) rfl ⟨⟨2,0,s,_,rfl,by rw[c.out.1,<-a.out.1];rfl,λ_=>by rw[c.out.2,<-a.out.1];rfl,aA _,dQ (by omega) (by omega),dQ (by omega) (by omega)⟩,HB _ _ _ _⟩
      ·exact aE (v:=ax #[qr 1 v ⟨#[]⟩,.bool true]) (by simp[results,results76,go_sem,qr]) rfl ⟨⟨1,v,⟨#[]⟩,_,rfl,by rw[c.out.1,<-a.out.1];rfl,λ_=>by rw[c.out.2,<-a.out.1,a.out.2.2.2 (by trivial)];rfl,aN _,dQ (by omega) (by omega),dQ (by omega) (by omega)⟩,by go_grown⟩
 ·have p:=Di g;have u:(s.toList=[])=True:=by simpa using p
  have c:Hid (gD s=false):=by
   have z:s.size=0:=by omega
   have x:s.data.toList=[]:=by rw[<-cE];simpa using p
   simp[Hid,gD,cE,fm,x,z]
  go_enter func76,ntmps76;go_wp2_with fail;exact aE (v:=ax #[qr 0 0 ⟨#[]⟩,.bool false]) (by simp[results,results76,go_sem,qr]) rfl ⟨⟨0,0,⟨#[]⟩,_,rfl,c.symm,by simp,aN _,dQ (by omega) (by omega),dQ (by omega) (by omega)⟩,by go_grown⟩
def O1(c:UInt8):Bool:=c==32
def Ag(c:UInt8):Bool:=c==32 || c==40 || c==41
def gf(p:UInt8->Bool)(s:aq)(i:Nat):Nat:=i+((s.data.toList.drop i).takeWhile p).length
theorem Gh(s:aq)(k:Nat)(a:k<s.size):s.data.toList.drop k=s[k]::s.data.toList.drop (k+1):=by
 rw[fq (by simpa using a)];rfl
theorem zi(a:k<s.size)(b:p s[k]=true):gf p s (k+1)=gf p s k:=by
 unfold gf;rw[Gh s k a,List.takeWhile_cons,if_pos b,bv];omega
theorem zj(a:k<s.size)(b:p s[k]=false):gf p s k=k:=by
 unfold gf;rw[Gh s k a,List.takeWhile_cons,if_neg (by simp[b])];rfl
theorem Dk(a:¬k<s.size):gf p s k=k:=by
 unfold gf;rw[qd (by simp;omega)];rfl
theorem AX(p:UInt8->Bool)(s:aq)(k:Nat):k<=gf p s k:=kv _ _
theorem GN(p:UInt8->Bool)(s:aq)(k:Nat)(a:k<=s.size):gf p s k<=s.size:=by
 unfold gf;have b:=(List.takeWhile_sublist (l:=s.data.toList.drop k) p).length_le;have c:(s.data.toList.drop k).length=s.size-k:=by simp
 omega
def dZ(s:aq)(i:Nat):Nat:=gf O1 s i
def eS(s:aq)(i:Nat):Nat:=if gf (λc=> !Ag c) s (dZ s i)=dZ s i/\dZ s i<s.size then dZ s i+1 else gf (λc=> !Ag c) s (dZ s i)
theorem nE(s:aq)(i:Nat):i<=dZ s i:=AX _ _ _
theorem DG(s:aq)(i:Nat)(a:i<=s.size):dZ s i<=s.size:=GN _ _ _ a
theorem DH(s:aq)(i:Nat):dZ s i<=eS s i:=by
 unfold eS;have:=AX (λc=> !Ag c) s (dZ s i);split<;>omega
theorem DI(s:aq)(i:Nat)(a:i<=s.size):eS s i<=s.size:=by
 unfold eS;have:=GN (λc=> !Ag c) s (dZ s i) (DG s i a);split<;>omega
theorem sR(s:aq)(i:Nat)(a:dZ s i<s.size):dZ s i<eS s i:=by
 unfold eS;have:=AX (λc=> !Ag c) s (dZ s i);split<;>omega
theorem JO(s:aq)(i:Nat)(a:i<=s.size)(b:¬dZ s i<s.size):dZ s i=s.size/\eS s i=s.size:=by
 have c:=DG s i a;have d:=DI s i a;have e:=DH s i;omega
def Rd(r:Nat)(s:aq)(b e:Nat)(w:ah):Prop:=w.heap[r]?=some (.cells #[ag s,ae b,ae e] 85)
theorem Rd.cells(a:Rd r s b e w):(w.cell? ⟨r,0,none⟩=some (ag s)/\w.cell? ⟨r,1,none⟩=some (ae b)/\w.cell? ⟨r,2,none⟩=some (ae e))/\w.frozen? ⟨r,1,none⟩=false/\w.frozen? ⟨r,2,none⟩=false:=by
 unfold Rd at a;exact⟨⟨by simp[World.cell?,a],by simp[World.cell?,a],by simp[World.cell?,a]⟩,by simp[World.frozen?,a],by simp[World.frozen?,a]⟩
theorem Rd.set1(a:Rd r s b e w)(k:Nat):Rd r s k e (w.setCell ⟨r,1,none⟩ (ae k)):=by
 unfold Rd at*;simp[World.setCell,bS,a]
theorem Rd.set2(a:Rd r s b e w)(k:Nat):Rd r s b k (w.setCell ⟨r,2,none⟩ (ae k)):=by
 unfold Rd at*;simp[World.setCell,bS,a]
theorem Rd.drew(a:Rd r s b e w)(n:Nat):Rd r s b e (w.drewN n):=a
theorem Rd.lt(a:Rd r s b e w):r<w.heap.size:=(aS.1 a).1
theorem ns(w:ah)(r o:Nat)(v:az):w.grownBy (w.setCell ⟨r,o,none⟩ v) (some r):=
 ⟨rfl,rfl,rfl,by simp[World.setCell],λk _ b=>eq w _ v k (λa=>b (by rw[a]))⟩
theorem eZ(w:ah)(n:Nat)(q:dd):w.grownBy (w.drewN n) q:=⟨rfl,rfl,rfl,aA _,λ_ _ _=>rfl⟩
theorem cq{q:dd}(a:w.grownBy w1 q)(k:w1.grownBy w2 q):w.grownBy w2 q:=
 ⟨k.os.trans a.os,k.tape.trans a.tape,k.output.trans a.output,aG a.size k.size,λd b c=>(k.block d (bi b a.size) c).trans (a.block d b c)⟩
theorem KK(c:UInt8)(w:ah):au 74 #[.int .u8 c.toNat] w λe w'=>e=aw (.bool (Ag c))/\w'=w:=by
 by_cases a:c=32
 ·subst a;go_enter func74,ntmps74;go_wp2_with fail
  all_goals go_ret
  all_goals exact⟨rfl,rfl⟩
 ·have d1:=kQ (k:=32) (d:=32) rfl a;by_cases b:c=40
  ·subst b;go_enter func74,ntmps74;go_wp2_with fail
   all_goals go_ret
   all_goals exact⟨rfl,rfl⟩
  ·have d2:=kQ (k:=40) (d:=40) rfl b;by_cases f:c=41
   ·subst f;go_enter func74,ntmps74;go_wp2_with fail
    all_goals go_ret
    all_goals exact⟨rfl,rfl⟩
   ·have d3:=kQ (k:=41) (d:=41) rfl f;go_enter func74,ntmps74;go_wp2_with fail
    all_goals go_ret
    all_goals exact⟨b8 (by rw[show Ag c=false by simp[Ag,a,b,f]];simp;omega),rfl⟩
theorem My(r:Nat)(s:aq)(b e:Nat)(w:ah)(a:Rd r s b e w)(h:b<=e)(j:e<=s.size):au 52 #[aF r] w λc w'=>c=aw (ag (s.extract b e))/\∃n,w'=w.drewN n:=by
 obtain⟨⟨d,f,g⟩,f1,f2⟩:=a.cells;clear a;have i:(b:Int)<=e:=by omega
 have k:(e:Int)<=s.size:=by omega
 go_enter func52,ntmps52;go_wp2_with fail
 go_quiet (fail)
 go_wp2_with fail
 go_ret
 exact⟨by simp,_,rfl⟩
theorem ri{q:dd}(a:w.grownBy w1 q)(c:w2.os=w1.os)(d:w2.tape=w1.tape)(e:w2.output=w1.output)(b:w2.heap=w1.heap):w.grownBy w2 q:=
 ⟨c.trans a.os,d.trans a.tape,e.trans a.output,by rw[b];exact a.size,λk f g=>by rw[b];exact a.block k f g⟩
theorem Gi(c:UInt8)(w:ah)(b:Bool)(a:Ag c=b):au 74 #[.int .u8 c.toNat] w λe w'=>e=aw (.bool b)/\w'=w:=by
 rw[<-a];exact KK c w
theorem sy(r:Nat)(s:aq)(F g:Nat)(w:ah)(e:Rd r s F g w)(J:g<=s.size)(V:s.size<=2048):au 50 #[aF r] w λG w'=>G=aw (ax #[])/\Hid (Rd r s (dZ s g) (eS s g) w'/\w.grownBy w' (some r)):=by
 obtain⟨⟨B,v,x⟩,f1,f2⟩:=e.cells;have z:=av (⟨e.set1 g,ns w r 1 (ae g)⟩:_/\_);clear e;go_enter func50,ntmps50;go_wp2_with fail;go_loopw [] (λwr=>∃k:Nat,k<=s.size/\Hid (Rd r s k g wr/\w.grownBy wr (some r)/\gf O1 s k=dZ s g)/\True) (λwr=>s.size-(intOf ((wr.cell? ⟨r,1,none⟩).getD undef)).toNat)
 case atStart=>exact⟨g,J,⟨z.1,z.2,rfl⟩,trivial⟩
 case round=>
  obtain⟨k,K,j,_⟩:=hrel;obtain⟨⟨B,v,x⟩,f1,f2⟩:=j.out.1.cells;by_cases h:∃e:k<s.size,s[k]=32
  ·obtain⟨b,H⟩:=h;have L:(k:Int)<s.size:=by omega
   have C:decide ((k:Int)<s.size)=true:=by simp;omega
   have u:=av (zi (p:=O1) b (by simp[O1,H]));go_wp2_with fail
   go_quiet (fail)
   go_wp2_with fail;go_roundw
   case rel=>exact⟨k+1,by omega,⟨(j.1.drew nq).set1 (k+1),cq j.2.1 (cq (eZ wr nq _) (ns _ _ _ _)),by rw[u.out];exact j.2.2⟩,trivial⟩
   case measure=>simp[go_sem,v,intOf];omega
  ·have i:Hid (dZ s g=k):=by
     rw[<-j.out.2.2];by_cases b:k<s.size
     ·exact zj (p:=O1) b (by simp[O1];exact λe=>h ⟨b,e⟩)
     ·exact Dk (p:=O1) b
   have I:((¬k<s.size)/\decide ((k:Int)<s.size)=false)\/((k:Int)<s.size/\decide ((k:Int)<s.size)=true/\∃e:k<s.size,((s[k].toNat:Int)==32)=false):=by
    by_cases b:k<s.size
    ·have S:=kQ (k:=32) (d:=32) rfl (λe=>h ⟨b,e⟩);exact am ⟨by omega,by simp;omega,b,by simp;omega⟩
    ·exact ak ⟨b,by simp;omega⟩
   clear h;rcases I with⟨b,C⟩|⟨L,C,b,T⟩
   all_goals
    go_wp2_with fail
    go_quiet (fail)
    have A:=av (show Rd r s k k ((wr.drewN nq).setCell ⟨r,2,none⟩ (ae k))/\w.grownBy ((wr.drewN nq).setCell ⟨r,2,none⟩ (ae k)) (some r)from⟨(j.1.drew nq).set2 k,cq j.2.1 (cq (eZ wr nq _) (ns _ _ _ _))⟩);go_wp2_with fail;go_loopw [] (λq=>∃a:Nat,a<=s.size/\k<=a/\Hid (Rd r s k a q/\w.grownBy q (some r)/\gf (λc=> !Ag c) s a=gf (λc=> !Ag c) s k)/\True) (λq=>s.size-(intOf ((q.cell? ⟨r,2,none⟩).getD undef)).toNat)
    case atStart=>exact⟨k,K,aA _,⟨A.1,A.2,rfl⟩,trivial⟩
    case round=>
     obtain⟨a,U,D,f,_⟩:=hrel;obtain⟨⟨B,v,x⟩,f1,f2⟩:=f.out.1.cells;by_cases h:∃e:a<s.size,Ag s[a]=false
     ·obtain⟨n,o⟩:=h;have y:k<s.size:=Nat.lt_of_le_of_lt D n
      first|exact absurd y b|skip
      all_goals
       have R:(a:Int)<s.size:=by omega
       have E:decide ((a:Int)<s.size)=true:=by simp;omega
       have u:=av (zi (p:=λc=> !Ag c) n (by simp[o]));go_wp2_with fail
       go_quiet ((go_at_call 74;exact Calls.quiet_of_same (Gi s[a] _ _ o)))
       go_wp2_with fail;go_roundw
       case rel=>exact⟨a+1,by omega,by omega,⟨(f.1.drew _).set2 (a+1),cq f.2.1 (cq (eZ _ _ _) (ns _ _ _ _)),by rw[u.out];exact f.2.2⟩,trivial⟩
       case measure=>simp[go_sem,x,intOf];omega
     ·have t:Hid (gf (λc=> !Ag c) s k=a):=by
        rw[<-f.out.2.2];by_cases b:a<s.size
        ·exact zj (p:=λc=> !Ag c) b (by simp;cases e:Ag s[a];exact absurd ⟨b,e⟩ h;rfl)
        ·exact Dk (p:=λc=> !Ag c) b
      have Q:((¬a<s.size)/\decide ((a:Int)<s.size)=false)\/((a:Int)<s.size/\decide ((a:Int)<s.size)=true/\∃e:a<s.size,Ag s[a]=true):=by
       by_cases b:a<s.size
       ·exact am ⟨by omega,by simp;omega,b,by cases e:Ag s[a];exact absurd ⟨b,e⟩ h;rfl⟩
       ·exact ak ⟨b,by simp;omega⟩
      clear h;rcases Q with⟨n,E⟩|⟨R,E,n,o⟩
      ·have m:Hid (eS s g=a):=by
         simp only[Hid,eS,i.out,t.out];rw[if_neg (by omega)]
       go_wp2_with fail
       go_quiet (fail)
       go_wp2_with fail;by_cases l:a=k
       ·first|exact absurd (show a<s.size by omega) n|skip
        all_goals
         subst l
         go_quiet (fail)
         go_wp2_with fail
         go_end0
         refine⟨rfl,?_,ri f.2.1 rfl rfl rfl rfl⟩;rw[i.out,m.out];exact f.1
       ·first|exact absurd (show a=k by omega) l|skip
        all_goals
         have M:((a:Int)==k)=false:=by simp;omega
         have N:(a==k)=false:=by simp;omega
         have O:decide (a=k)=false:=by simp;omega
         have P:decide ((a:Int)=k)=false:=by simp;omega
         clear l
         go_quiet (fail)
         go_wp2_with fail
         go_end0
         refine⟨rfl,?_,ri f.2.1 rfl rfl rfl rfl⟩;rw[i.out,m.out];exact f.1
      ·have y:k<s.size:=Nat.lt_of_le_of_lt D n
       first|exact absurd y b|skip
       all_goals
        go_wp2_with fail
        go_quiet ((go_at_call 74;exact Calls.quiet_of_same (Gi s[a] _ _ o)))
        go_wp2_with fail;by_cases l:a=k
        ·have m:Hid (eS s g=a+1):=by
           simp only[Hid,eS,i.out,t.out];rw[if_pos ⟨l,by omega⟩];omega
         subst l
         go_quiet (fail)
         go_wp2_with fail
         go_end0
         refine⟨rfl,?_,cq f.2.1 (cq (eZ _ _ _) (ns _ _ _ _))⟩;rw[i.out,m.out];exact Rd.set2 f.1 (a+1)
        ·have m:Hid (eS s g=a):=by
           simp only[Hid,eS,i.out,t.out];rw[if_neg (by omega)]
         have M:((a:Int)==k)=false:=by simp;omega
         have N:(a==k)=false:=by simp;omega
         have O:decide (a=k)=false:=by simp;omega
         have P:decide ((a:Int)=k)=false:=by simp;omega
         clear l
         go_quiet (fail)
         go_wp2_with fail
         go_end0
         refine⟨rfl,?_,ri f.2.1 rfl rfl rfl rfl⟩;rw[i.out,m.out];exact f.1
abbrev Tok:Type:=Nat×aq
def Gt(x:aq):Bool:=x.toList==[40]
def Cs(x:aq):Bool:=x.toList==[41]
theorem Nm{c:UInt8}(a:(x.toList==[c])=true):x.data.toList=[c]/\x.size=1:=by
 rw[cE]at a;have b:x.data.toList=[c]:=by simpa using a
 refine⟨b,?_⟩;have:x.data.toList.length=x.size:=by simp
 rw[b]at this;simpa using this.symm
theorem ww(a:Cs x=true):gD x=false/\Gt x=false:=by
 obtain⟨b,c⟩:=Nm a;simp[gD,Gt,fm,cE,b,iW,vL,gE,Ax]
def GZ{a:Type}(f:a->List Tok->List Tok->Prop):List a->List Tok->List Tok->Prop
 | [],ts,r=>ts=r
 | x::l,ts,r=>∃m,f x ts m/\GZ f l m r
def Is:(n:Nat)->Tm n->List Tok->List Tok->Prop
 | 0,_,_,_=>False
 | n+1,x,ts,r=>∃t a,ts=t::a/\((Gt t.2=false/\gD t.2=true/\x.1=ni t.2/\x.2.2=[]/\r=a)\/
    (Gt t.2=true/\x.1=(4,0,⟨#[]⟩)/\∃c,GZ (Is n) x.2.2 a (c::r)/\Cs c.2=true))
theorem GZ.snoc{b:Type}{f:b->List Tok->List Tok->Prop}{x:b}{r:List Tok}:{l:List b}->{a m:List Tok}->GZ f l a m->f x m r->GZ f (l++ [x]) a r
 | [],a,m,h,hx=>by
  have e:a=m:=h;subst e;exact⟨r,hx,rfl⟩
 | y::l,a,m,h,hx=>by
  obtain⟨q,c,d⟩:=h;exact⟨q,c,d.snoc hx⟩
variable{f:List Tok}
theorem Is.head{x:Tm n}{r:List Tok}(a:Is n x f r):∃t b,f=t::b/\Cs t.2=false:=by
 cases n with
 | zero=>exact a.elim
 | succ n=>
  obtain⟨t,b,rfl,a⟩:=a;refine⟨t,b,rfl,?_⟩;cases hc:Cs t.2
  ·rfl
  ·have:=ww hc;rcases a with a|a
   ·rw[this.1]at a;exact absurd a.2.1 (by simp)
   ·rw[this.2]at a;exact absurd a.1 (by simp)
theorem GZ.one{n m:Nat}(ih:∀(x:Tm n)(y:Tm m)(d r f:List Tok),Is n x d r->Is m y d f->aK n x m y=true/\r=f):(p:List (Tm n))->(q:List (Tm m))->(d:List Tok)->(c i:Tok)->(r f:List Tok)->Cs c.2=true->Cs i.2=true->GZ (Is n) p d (c::r)->GZ (Is m) q d (i::f)->aO (λa b=>aK n a m b) p q=true/\r=f
 | [],[],d,c,i,r,f,hc,hc',h,h'=>by
  have j:d=c::r:=h;have g:d=i::f:=h';rw[j]at g;injection g with _ e;exact⟨rfl,e⟩
 | [],y::q,d,c,i,r,f,hc,hc',h,h'=>by
  have j:d=c::r:=h;obtain⟨A,k,_⟩:=h';obtain⟨t,C,g,l⟩:=k.head;rw[j]at g;injection g with e _;rw[<-e,hc]at l;exact absurd l (by simp)
 | x::p,[],d,c,i,r,f,hc,hc',h,h'=>by
  have j:d=i::f:=h';obtain⟨A,k,_⟩:=h;obtain⟨t,C,g,l⟩:=k.head;rw[j]at g;injection g with e _;rw[<-e,hc']at l;exact absurd l (by simp)
 | x::p,y::q,d,c,i,r,f,hc,hc',h,h'=>by
  obtain⟨o,k,v⟩:=h;obtain⟨B,w,z⟩:=h';obtain⟨j,g⟩:=ih x y d o B k w;subst g;obtain⟨s,u⟩:=GZ.one ih p q o c i r f hc hc' v z;exact⟨by simp only[aO];rw[j,s];rfl,u⟩
theorem Is.one:(n:Nat)->(m:Nat)->(x:Tm n)->(y:Tm m)->(f r b:List Tok)->Is n x f r->Is m y f b->aK n x m y=true/\r=b
 | 0,_,_,_,_,_,_,a,_=>a.elim
 | _+1,0,_,_,_,_,_,_,a=>a.elim
 | n+1,m+1,x,y,f,r,b,a,g=>by
  obtain⟨t,z,rfl,a⟩:=a;obtain⟨t2,A,e,g⟩:=g;injection e with h i;subst h i;rcases a with⟨o,_,l,j,v⟩|⟨o,l,c,j,s⟩
  ·rcases g with⟨_,_,p,k,w⟩|⟨d,_⟩
   ·refine⟨?_,v.trans w.symm⟩;simp only[aK,l,p,j,k,aO];simp
   ·rw[o]at d;exact absurd d (by simp)
  ·rcases g with⟨d,_⟩|⟨_,p,q,k,u⟩
   ·rw[o]at d;exact absurd d (by simp)
   ·obtain⟨h,i⟩:=GZ.one (λx y f r b=>Is.one n m x y f r b) x.2.2 y.2.2 z c q r b s u j k;refine⟨?_,i⟩;simp only[aK,l,p,h];simp
theorem uW:(n:Nat)->(x:Tm n)->(a r:List Tok)->Is n x a r->(aI n x).length+r.length<=a.length
 | 0,_,_,_,b=>b.elim
 | n+1,x,a,r,b=>by
  have key:∀(l:List (Tm n))(a r:List Tok),GZ (Is n) l a r->(l.flatMap λy=>aI n y).length+r.length<=a.length:=by
   intro l
   induction l with
   | nil=>intro a r b;have f:a=r:=b;subst f;simp
   | cons y l ih=>
    intro a r b;obtain⟨e,g,h⟩:=b;have:=uW n y a e g;have:=ih e r h;simp only[bM,br];omega
  obtain⟨t,k,rfl,b⟩:=b;simp only[aI,bv];rcases b with⟨o,_,j,d,i⟩|⟨o,j,c,d,m⟩
  ·rw[d,i];simp;omega
  ·have:=key x.2.2 k (c::r) d;simp only[bv]at this;omega
def kL(L:Nat):List Tok->Nat->Option Nat
 | [],0=>none
 | [],_+1=>some L
 | t::_,0=>some t.1
 | t::ts,d+1=>if Gt t.2 then kL L ts (d+2)else if Cs t.2 then kL L ts d else if gD t.2 then kL L ts (d+1)else some t.1
def Cb(L:Nat):List Tok->Nat->Option Nat
 | [],_=>some L
 | t::ts,d=>if Gt t.2 then kL L ts (d+1)else if gD t.2 then kL L ts d else some t.1
def LI(L:Nat):List Tok->Nat
 | []=>L
 | t::_=>t.1
theorem De(L:Nat)(a:List Tok)(d:Nat)(b:∀t c,a=t::c->Cs t.2=false):kL L a (d+1)=Cb L a (d+1):=by
 cases a with
 | nil=>rfl
 | cons t a=>simp only[kL,Cb];rw[b t a rfl];simp
theorem Fq(L:Nat)(t:Tok)(b:List Tok)(d:Nat)(a:Cs t.2=true):kL L (t::b) (d+1)=kL L b d:=by
 simp only[kL];rw[(ww a).2,a];simp
theorem pV{c d:Type}(f:c->d->Bool):(p:List c)->(q:List d)->aO f p q=true->p.length=q.length
 | [],[],_=>rfl
 | [],_::_,h=>by simp[aO]at h
 | _::_,[],h=>by simp[aO]at h
 | a::p,b::q,h=>by
  simp only[aO,aT]at h;simp[pV f p q h.2]
theorem Nj{k e f:Int}{b:aq}{l:Nat}(g:k=d)(h:e=f)(i:s=b)(m:l=j):cN ((k,e,s),(a,l,c))=cN ((d,f,b),(y,j,u)):=by
 subst g h i m;rfl
theorem uv:(n m:Nat)->(x:Tm n)->(y:Tm m)->aK n x m y=true->cw n x=cw m y/\gK n x=gK m y/\sz n x=sz m y
 | 0,_,_,_,c=>by simp[aK]at c
 | _+1,0,_,_,c=>by simp[aK]at c
 | n+1,m+1,x,y,c=>by
  have key:∀(p:List (Tm n))(q:List (Tm m)),aO (λa b=>aK n a m b) p q=true->
    (p.all λy=>cw n y)=(q.all λy=>cw m y)/\(∀a,p.foldl (λm y=>max m (gK n y)) a=q.foldl (λk y=>max k (gK m y)) a)/\(p.map λy=>1+sz n y).sum=(q.map λy=>1+sz m y).sum:=by
   intro p
   induction p with
   | nil=>
    intro q c;cases q with
    | nil=>simp
    | cons b q=>simp[aO]at c
   | cons a p ih=>
    intro q c;cases q with
    | nil=>simp[aO]at c
    | cons b q=>
     simp only[aO,aT]at c;obtain⟨j,l,o⟩:=uv n m a b c.1;obtain⟨e,f,g⟩:=ih q c.2;refine⟨by simp only[jx,j,e],λv=>?_,by simp only[bB,dk,o,g]⟩;simp only[gh,l];exact f _
  simp only[aK,aT,cU]at c;obtain⟨⟨⟨d,r⟩,h⟩,i⟩:=c;obtain⟨e,f,g⟩:=key _ _ i;have t:=pV _ _ _ i;have u:x.1.2.2=y.1.2.2:=by
   rw[cE,cE]at h;exact ByteArray.ext (Array.toList_inj.1 h)
  refine⟨?_,?_,?_⟩
  ·have s:cN (bR n x)=cN (bR m y):=Nj d r u t;simp only[cw,s,d,e]
  ·simp only[gK,d,f]
  ·simp only[sz,d,g]
theorem Ji(n m:Nat)(x:Tm n)(y:Tm m)(a:aK n x m y=true):bL n x=bL m y:=by
 obtain⟨b,c,d⟩:=uv n m x y a;rw[<-gO,<-gO];simp only[xO,b,c,d]
def sN:Nat->aq->Nat->List Tok
 | 0,_,_=> []
 | f+1,s,i=>if dZ s i<s.size then (dZ s i,s.extract (dZ s i) (eS s i))::sN f s (eS s i)else []
def j9(s:aq)(i:Nat):List Tok:=sN (s.size-i) s i
theorem oy(s:aq):(f g i:Nat)->s.size-i<=f->s.size-i<=g->sN f s i=sN g s i
 | 0,0,_,_,_=>rfl
 | 0,g+1,i,h,_=>by
  have:=nE s i;simp only[sN];rw[if_neg (by omega)]
 | f+1,0,i,_,h=>by
  have:=nE s i;simp only[sN];rw[if_neg (by omega)]
 | f+1,g+1,i,h,h'=>by
  simp only[sN];by_cases a:dZ s i<s.size
  ·rw[if_pos a,if_pos a];have b:=sR s i a;have c:=nE s i;rw[oy s f g (eS s i) (by omega) (by omega)]
  ·rw[if_neg a,if_neg a]
theorem zt(s:aq)(i:Nat)(a:dZ s i<s.size):j9 s i=(dZ s i,s.extract (dZ s i) (eS s i))::j9 s (eS s i):=by
 have b:=sR s i a;have c:=nE s i;unfold j9;rw[oy s (s.size-i) (s.size-i+1) i (by omega) (by omega)];simp only[sN];rw[if_pos a,oy s (s.size-i) (s.size-eS s i) (eS s i) (by omega) (by omega)]
theorem xk(s:aq)(i:Nat)(a:¬dZ s i<s.size):j9 s i=[]:=by
 unfold j9;rw[oy s (s.size-i) (s.size-i+1) i (by omega) (by omega)];simp only[sN];rw[if_neg a]
theorem mD(s:aq):(f i:Nat)->s.size-i<=f->(j9 s i).length<=s.size-i
 | 0,i,h=>by
  have:=nE s i;rw[xk s i (by omega)];simp
 | f+1,i,h=>by
  by_cases a:dZ s i<s.size
  ·have b:=sR s i a;have c:=nE s i;rw[zt s i a];have:=mD s f (eS s i) (by omega);simp only[bv];omega
  ·rw[xk s i a];simp
def At(s:aq)(b e:Nat)(a:List Tok):Prop:=
 b<=e/\e<=s.size/\((b=s.size/\a=[])\/(b<e/\a=(b,s.extract b e)::j9 s e))
theorem At.next{i:Nat}(b:i<=s.size):At s (dZ s i) (eS s i) (j9 s i):=by
 refine⟨DH s i,DI s i b,?_⟩;by_cases a:dZ s i<s.size
 ·exact am ⟨sR s i a,zt s i a⟩
 ·exact ak ⟨(JO s i b a).1,xk s i a⟩
theorem At.pos(a:At s b e f):LI s.size f=b:=by
 rcases a.2.2 with⟨c,rfl⟩|⟨_,rfl⟩
 ·exact c.symm
 ·rfl
theorem At.nil(a:At s b e []):(s.extract b e).toList=[]:=by
 rcases a.2.2 with⟨d,_⟩|⟨_,c⟩
 ·rw[cE];apply b9;have:=a.2.1;simp;omega
 ·exact absurd c (by simp)
theorem At.cons{s:aq}{b e:Nat}{t:Tok}{d:List Tok}(c:At s b e (t::d)):t=(b,s.extract b e)/\d=j9 s e/\0<(s.extract b e).size:=by
 rcases c.2.2 with⟨_,a⟩|⟨h,a⟩
 ·exact absurd a (by simp)
 ·injection a with f g;refine⟨f,g,?_⟩;have:=c.2.1;simp;omega
-- Sign by sign:what a sign does to the words ahead.
theorem fZ{q:dd}(a:w.grownBy w1 q)(o:Obj):w.grownBy (w1.alloc o) q:=
 ⟨a.os,a.tape,a.output,by have:=a.size;simp;omega,λk b c=>by
  exact(((aH w1.heap.size w1).alloc (aA _) o).block k (bi b a.size)).trans (a.block k b c)⟩
theorem nr{q:dd}(a:w.grownBy w1 q)(e:w.heap.size<=b)(o:Nat)(v:az):w.grownBy (w1.setCell ⟨b,o,none⟩ v) q:=
 ⟨a.os,a.tape,a.output,by simpa [World.setCell]using a.size,λk c d=>(eq w1 ⟨b,o,none⟩ v k (by simp;omega)).trans (a.block k c d)⟩
theorem IJ{q:dd}(a:w.grownBy w1 q){g:dd}(k:w1.grownBy w2 g)(f:∀b,g=some b->w.heap.size<=b):w.grownBy w2 q:=
 ⟨k.os.trans a.os,k.tape.trans a.tape,k.output.trans a.output,aG a.size k.size,λc d h=>(k.block c (bi d a.size) (λe=>by have:=f c e.symm;omega)).trans (a.block c d h)⟩
theorem o9{q:dd}(a:w.grownBy w1 q)(k:ap w1 w2):w.grownBy w2 q:=
 ⟨k.os.trans a.os,k.tape.trans a.tape,k.output.trans a.output,aG a.size k.size,λc b d=>(k.block c (bi b a.size)).trans (a.block c b d)⟩
theorem Rd.block(a:Rd r s b e w)(k:w'.heap[r]?=w.heap[r]?):Rd r s b e w':=k.trans a
theorem Rd.alloc{r:Nat}{s:aq}{b e:Nat}{w:ah}(a:Rd r s b e w)(o:Obj):Rd r s b e (w.alloc o):=
 a.block (((aH w.heap.size w).alloc (aA _) o).block r a.lt)
theorem Rd.far(a:Rd r s b e w)(c:r<g)(o:Nat)(v:az):Rd r s b e (w.setCell ⟨g,o,none⟩ v):=
 a.block (eq w ⟨g,o,none⟩ v r (by simp;omega))
def ahead(s:aq)(b e:Nat):List Tok:=if b<s.size then (b,s.extract b e)::j9 s e else []
def Qc(r:Nat)(s:aq)(w:ah):Nat:=(ahead s (intOf ((w.cell? ⟨r,1,none⟩).getD undef)).toNat (intOf ((w.cell? ⟨r,2,none⟩).getD undef)).toNat).length
theorem Lp(d:Rd r s b e w)(k:At s b e f):Qc r s w=f.length:=by
 obtain⟨⟨h,a,c⟩,f1,f2⟩:=d.cells;simp only[Qc,a,c,Option.getD_some,intOf,Int.toNat_natCast,ahead];rcases k.2.2 with⟨g,rfl⟩|⟨g,rfl⟩
 ·rw[if_neg (by omega)]
 ·rw[if_pos (by have:=k.2.1;omega)]
def mF(n:Nat)(s:aq)(r:Nat)(e:List Tok)(w w':ah)(v:az)(ok:Bool):Prop:=
 w.grownBy w' (some r)/\∃b f c,Rd r s b f w'/\At s b f c/\
  (ok=true->(∃d:Tm n,dG n d=v/\Is n d e c/\In w'.heap.size w' n d/\cG (λg=>w.heap.size<=g) n d)/\∀a,Cb s.size e a=kL s.size c a)/\
  (ok=false->∀a,Cb s.size e a=some (LI s.size c))
def MG(n:Nat)(s:aq)(r:Nat)(d:List Tok)(w w':ah)(e:Ending):Prop:=
 ∃(k b:Int)(t:aq)(a:ay)(l c:Nat)(ok:Bool),e=aw (ax #[aB k b t a l c,.bool ok])/\
  Hid (mF n s r d w w' (aB k b t a l c) ok)
def On(n:Nat):Prop:=∀(r:Nat)(s:aq)(b e:Nat)(a:List Tok)(w:ah),Rd r s b e w->At s b e a->s.size<=2048->a.length<=n->
 au 51 #[aF r] w λc w'=>MG (n+1) s r a w w' c
theorem pZ(r:Nat)(s:aq)(b e:Nat)(x:aq)(w:ah)(c:Rd r s b e w)(d:b<=e)(f:e<=s.size)(g:s.extract b e=x):au 52 #[aF r] w λa w'=>a=aw (ag x)/\∃n,w'=w.drewN n:=by
 subst g;exact My r s b e w c d f
def Bx(q:Nat)(v0 v1 v2 v3:az)(w:ah):Prop:=w.heap[q]?=some (.cells #[v0,v1,v2,v3] 54)
theorem Bx.cells(a:Bx q v0 v1 v2 v3 w):(w.cell? ⟨q,0,none⟩=some v0/\w.cell? ⟨q,1,none⟩=some v1/\w.cell? ⟨q,2,none⟩=some v2/\w.cell? ⟨q,3,none⟩=some v3)/\ (w.frozen? ⟨q,0,none⟩=false/\w.frozen? ⟨q,1,none⟩=false/\w.frozen? ⟨q,2,none⟩=false/\w.frozen? ⟨q,3,none⟩=false):=by
 unfold Bx at a;exact⟨⟨by simp[World.cell?,a],by simp[World.cell?,a],by simp[World.cell?,a],by simp[World.cell?,a]⟩,by simp[World.frozen?,a],by simp[World.frozen?,a],by simp[World.frozen?,a],by simp[World.frozen?,a]⟩
theorem Bx.block(a:Bx q v0 v1 v2 v3 w)(k:w'.heap[q]?=w.heap[q]?):Bx q v0 v1 v2 v3 w':=k.trans a
theorem Bx.lt(a:Bx q v0 v1 v2 v3 w):q<w.heap.size:=(aS.1 a).1
theorem Bx.set3(a:Bx q v0 v1 v2 v3 w)(v:az):Bx q v0 v1 v2 v (w.setCell ⟨q,3,none⟩ v):=by
 unfold Bx at*;simp[World.setCell,bS,a]
theorem Bx.new(w:ah)(v0 v1 v2 v3:az):Bx w.heap.size v0 v1 v2 v3 (w.alloc (.cells #[v0,v1,v2,v3] 54)):=aL w _
def J5(n:Nat)(r:Nat)(s:aq)(c:List Tok)(w:ah)(b e:Nat)(v:az)(wr:ah)(l:List (Tm (n+1)))(a:List Tok):Prop:=
 Rd r s b e wr/\At s b e a/\(w.alloc (.cells #[ae 0,ae 0,ag ⟨#[]⟩,af none 0 0] 54)).grownBy wr (some r)/\rT (w.heap.size+2) (n+1) l v wr/\
  Bx w.heap.size (ae 0) (ae 0) (ag ⟨#[]⟩) (af none 0 0) wr/\Bx (w.heap.size+1) (ae 4) (ae 0) (ag ⟨#[]⟩) v wr/\
  GZ (Is (n+1)) l c a/\a.length<=c.length/\∀d,kL s.size c (d+1)=kL s.size a (d+1)
def MI(n:Nat)(r:Nat)(s:aq)(c:List Tok)(w:ah)(b e:Nat)(v:az)(wr:ah):Prop:=
 ∃(l:List (Tm (n+1)))(a:List Tok),J5 n r s c w b e v wr l a
theorem fy(w:ah)(o:Obj)(a:q<w.heap.size):(w.alloc o).heap[q]?=w.heap[q]? :=(dC w o none).block q a (by simp)
variable{t0:Tok}
theorem JE(h:Rd r s b e w)(a:At s b e (t0::f))(k:Rd r s (dZ s e) (eS s e) w1)(g:((w.alloc (.cells #[ae 0,ae 0,ag ⟨#[]⟩,af none 0 0] 54)).alloc (.cells #[ae 4,ae 0,ag ⟨#[]⟩,af none 0 0] 54)).grownBy w1 (some r)):MI n r s f w (dZ s e) (eS s e) (af none 0 0) w1:=by
 have i:=h.lt;have c:=(At.cons a).2.1;refine⟨[],f,k,by rw[c];exact At.next a.2.1,cq (dC _ _ _) g,⟨⟨rfl,ak ⟨rfl,rfl⟩⟩,by simp⟩,?_,?_,rfl,aA _,λ_=>rfl⟩
 ·exact((Bx.new w _ _ _ _).block (fy _ _ (by simp))).block (g.block _ (by simp;omega) (by simp;omega))
 ·have:=Bx.new (w.alloc (.cells #[ae 0,ae 0,ag ⟨#[]⟩,af none 0 0] 54)) (ae 4) (ae 0) (ag ⟨#[]⟩) (af none 0 0);have d:(w.alloc (.cells #[ae 0,ae 0,ag ⟨#[]⟩,af none 0 0] 54)).heap.size=w.heap.size+1:=by simp
  rw[d]at this;exact this.block (g.block _ (by simp) (by simp;omega))
theorem rT.kept{base n:Nat}{l:List (Tm n)}{v:az}{w w':ah}(a:rT base n l v w){r:Nat}(g:w.grownBy w' (some r))(k:r<base):rT base n l v w':=by
 refine⟨a.1.kept g (am λf=>by have:=a.1.lt r f;omega),λe d=>⟨?_,(a.2 e d).2⟩⟩;obtain⟨c,h⟩:=a.2 e d;have i:=In.offB h c;exact(In.off (λb j=>g.block b j.2 (by simp;omega)) i c).mono g.size
theorem rT.snoc{l:List (Tm (n+1))}{w0:ah}(h:rT base (n+1) l v w0)(i:w0.grownBy w (some r))(A:r<base){x:Tm (n+1)}(C:In w.heap.size w (n+1) x)(y:cG (λq=>w0.heap.size<=q) (n+1) x)(D:base<=w0.heap.size)(j:w.grownBy w1 none)(z:w2.ownsRow base 54 4 (af (some ⟨g,0,none⟩) (l.length+1) c) (l.length+1) (cO (l.map (gM (n+1)))++wL (gM (n+1) x)))(k:w1.grownBy w2 v.ownBlock)(u:v.ownBlock=some g\/g=w1.heap.size):rT base (n+1) (l++ [x]) (af (some ⟨g,0,none⟩) (l.length+1) c) w2:=by
 have p:=h.kept i A;have E:=i.size;have F:=j.size;have G:=k.size;have B:∀b,v.ownBlock=some b->b<w0.heap.size:=λb d=>(h.1.lt b d).2;refine⟨by simpa [cO]using z,λa f=>?_⟩
 have key:∀a:Tm (n+1),In w.heap.size w (n+1) a->cG (λb=>base<=b/\v.ownBlock≠some b) (n+1) a->
   In w2.heap.size w2 (n+1) a/\cG (λb=>base<=b/\(Value.slice (some ⟨g,0,none⟩) (l.length+1) c).ownBlock≠some b) (n+1) a:=by
  intro a m t;have o:=In.offB t m;refine⟨(In.off (λb e=>(k.block b (by omega) (λd=>e.1.2 d.symm)).trans (j.block b e.2 (by simp))) o m).mono (by omega),o.mono λb e=>⟨e.1.1,?_⟩⟩;intro d;have s:g=b:=by simpa [Value.ownBlock]using d
  rcases u with h|h
  ·exact e.1.2 (by rw[h,s])
  ·omega
 rcases dv.1 f with f|f
 ·exact key a (p.2 a f).1 (p.2 a f).2
 ·have d:a=x:=by simpa using f
  subst d;exact key a C (y.mono λb e=>⟨by omega,λd=>by have:=B b d;omega⟩)
theorem JB(N:r<w.heap.size)(x:Gt t0.2=true)(A:MI n r s f w b e (af a L c) wr)(o:Cs (s.extract b e)=true)(k:Rd r s (dZ s e) (eS s e) w2)(g:(wr.drewN m).grownBy w2 (some r)):mF (n+2) s r (t0::f) (w.alloc (.cells #[ae 0,ae 0,ag ⟨#[]⟩,af none 0 0] 54)) w2 (.agg #[ae 4,ae 0,ag ⟨#[]⟩,af a L c]) true/\ Bx w.heap.size (ae 0) (ae 0) (ag ⟨#[]⟩) (af none 0 0) w2/\Bx (w.heap.size+1) (ae 4) (ae 0) (ag ⟨#[]⟩) (af a L c) w2:=by
 obtain⟨l,p,J,i,q,B,u,v,C,K,D⟩:=A;have P:=q.size;have G:=v.lt;have j:wr.grownBy w2 (some r):=cq (eZ wr m _) g;obtain⟨H,I,ev,F,E⟩:=(B.kept j (by omega)).tup;injection ev with d h z;subst d h z;refine⟨⟨cq q j,dZ s e,eS s e,j9 s e,k,At.next i.2.1,λ_=>⟨⟨_,rfl,?_,E,F.mono λO M=>by simp;omega⟩,?_⟩,by simp⟩,u.block (j.block _ u.lt (by simp;omega)),v.block (j.block _ G (by simp;omega))⟩
 ·cases p with
  | nil=>simp[Cs,i.nil]at o
  | cons t p=>
   obtain⟨d,h,_⟩:=i.cons;subst d h;exact⟨t0,f,rfl,am ⟨x,rfl,_,C,o⟩⟩
 ·intro y;cases p with
  | nil=>simp[Cs,i.nil]at o
  | cons t p=>
   obtain⟨d,h,_⟩:=i.cons;subst d h;simp only[Cb,x,cD];rw[D y,Fq _ _ _ _ o]
theorem mF.box(a:r<w.heap.size)(g:mF n s r f (w.alloc o) w1 v ok)(v0 v1 v2 v3:az):mF n s r f w ((((w1.setCell ⟨w.heap.size,0,none⟩ v0).setCell ⟨w.heap.size,1,none⟩ v1).setCell ⟨w.heap.size,2,none⟩ v2).setCell ⟨w.heap.size,3,none⟩ v3) v ok:=by
 obtain⟨h,b,e,q,i,j,k,l⟩:=g;refine⟨nr (nr (nr (nr (cq (dC _ _ _) h) (aA _) _ _) (aA _) _ _) (aA _) _ _) (aA _) _ _,b,e,q,(((i.far a _ _).far a _ _).far a _ _).far a _ _,j,λm=>?_,l⟩;obtain⟨⟨t,u,x,y,d⟩,z⟩:=k m;have c:∀b,(w.alloc o).heap.size<=b->((((w1.setCell ⟨w.heap.size,0,none⟩ v0).setCell ⟨w.heap.size,1,none⟩ v1).setCell ⟨w.heap.size,2,none⟩ v2).setCell ⟨w.heap.size,3,none⟩ v3).heap[b]?=w1.heap[b]? :=λb c=>by
  have A:w.heap.size<b:=by simp at c;omega
  rw[eq _ _ _ _ (by simp;omega),eq _ _ _ _ (by simp;omega),eq _ _ _ _ (by simp;omega),eq _ _ _ _ (by simp;omega)]
 refine⟨⟨t,u,x,(In.off c d y).mono (by simp[World.setCell]),d.mono λB p=>by simp at p;omega⟩,z⟩
theorem mF.alloc{n r:Nat}{s:aq}{a:List Tok}{w w1:ah}{v:az}{ok:Bool}(f:mF n s r a w w1 v ok)(o:Obj):mF n s r a w (w1.alloc o) v ok:=by
 obtain⟨g,b,e,p,h,i,j,k⟩:=f;refine⟨fZ g o,b,e,p,h.alloc o,i,λm=>?_,k⟩;obtain⟨⟨q,t,u,c,d⟩,x⟩:=j m;exact⟨⟨q,t,u,(In.off (λb l=>fy w1 o l.2) (In.offB d c) c).mono (by simp),d⟩,x⟩
theorem At.no(c:At s b e f)(d:Cs (s.extract b e)=false):∀t a,f=t::a->Cs t.2=false:=by
 intro t a e;subst e;rw[c.cons.1];exact d
variable{i:List Tok}
theorem zw{l:List (Tm (n+1))}(u:r<w.heap.size)(a:J5 n r s f w b e v wr l i)(g:(wr.drewN m).grownBy w1 (some r)):Bx w.heap.size (ae 0) (ae 0) (ag ⟨#[]⟩) (af none 0 0) w1/\Bx (w.heap.size+1) (ae 4) (ae 0) (ag ⟨#[]⟩) v w1/\w.heap.size+1<w1.heap.size:=by
 obtain⟨h,j,k,o,c,d,p,q,t⟩:=a;have a:=d.block (g.block _ d.lt (by simp;omega));exact⟨c.block (g.block _ c.lt (by simp;omega)),a,a.lt⟩
theorem JC{A:az}{l:List (Tm (n+1))}(q:Gt t0.2=true)(h:J5 n r s f w b e v wr l i)(p:Cs (s.extract b e)=false)(R:mF (n+1) s r i (wr.drewN m) w1 A false)(z:az):mF (n+2) s r (t0::f) (w.alloc (.cells #[ae 0,ae 0,ag ⟨#[]⟩,af none 0 0] 54)) w1 z false:=by
 obtain⟨B,j,k,C,D,E,F,G,o⟩:=h;obtain⟨g,c,d,y,t,u,_,x⟩:=R;refine⟨cq k (cq (eZ wr m _) g),c,d,y,t,u,by simp,λ_ a=>?_⟩;simp only[Cb,q,cD];rw[o a,De _ _ _ (j.no p)];exact x rfl (a+1)
theorem Gw{n:Nat}:(l:List (Tm n))->(a r:List Tok)->GZ (Is n) l a r->l.length+r.length<=a.length
 | [],a,r,h=>by have e:a=r:=h;subst e;simp
 | x::l,a,r,h=>by
  obtain⟨m,b,c⟩:=h;have d:=Gw l m r c;have f:=uW n x a m b;have g:0<(aI n x).length:=by
   cases n with
   | zero=>exact b.elim
   | succ n=>simp[aI]
  simp only[bv];omega
theorem N9{l:List (Tm (n+1))}(F:r<w.heap.size)(q:J5 n r s f w b e (af a L c) wr l i)(g:(wr.drewN m).grownBy w1 (some r))(E:f.length<=2048):l.length=L/\L<=2048/\∀d h,((w1.alloc d).alloc h).ownsRow (w.heap.size+2) 54 4 (af a L c) L (cO (l.map (gM (n+1)))):=by
 obtain⟨x,y,z,o,A,B,t,C,D⟩:=q;have p:wr.grownBy w1 (some r):=cq (eZ wr m _) g;obtain⟨u,v,ev,_⟩:=o.tup;injection ev with _ j _;have:=Gw l f i t;have k:=(o.kept p (by omega)).1;rw[<-j]at k;exact⟨j.symm,by omega,λd h=>(k.alloc d).alloc h⟩
theorem JD{l:List (Tm (n+1))}(am:r<w.heap.size)(E:J5 n r s f w b e (af a L c) wr l i)(ai:Cs (s.extract b e)=false){k:Int}{t:aq}(R:mF (n+1) s r i (wr.drewN m) w1 (aB k d t y j u) true){P Q:Obj}{p:Nat}(ad:l.length=L)(J:h.ownsRow (w.heap.size+2) 54 4 (af (some ⟨g,0,none⟩) (L+1) p) (L+1) (cO (l.map (gM (n+1)))++ [ae k,ae d,ag t,af y j u]))(A:((w1.alloc P).alloc Q).grownBy h (Value.slice a L c).ownBlock)(aj:(Value.slice a L c).ownBlock=some g\/g=w1.heap.size+2):(Bx (w.heap.size+1) (ae 4) (ae 0) (ag ⟨#[]⟩) (af a L c) h/\ ∃v x,MI n r s f w v x (af (some ⟨g,0,none⟩) (L+1) p) (h.setCell ⟨w.heap.size+1,3,none⟩ (af (some ⟨g,0,none⟩) (L+1) p))/\Qc r s (h.setCell ⟨w.heap.size+1,3,none⟩ (af (some ⟨g,0,none⟩) (L+1) p))<Qc r s wr):=by
 subst ad;obtain⟨au,av,aH⟩:=zw am E R.1;obtain⟨X,F,Y,G,aD,Z,aa,aE,ab⟩:=E;obtain⟨W,v,x,T,ao,N,ap,_⟩:=R;have D:wr.grownBy w1 (some r):=cq (eZ wr m _) W;obtain⟨⟨q,z,U,aw,ax⟩,az⟩:=ap rfl;have I:∀b,(Value.slice a l.length c).ownBlock=some b->w.heap.size+2<=b:=λb e=>(G.1.lt b e).1;have ak:wL (gM (n+1) q)=[ae k,ae d,ag t,af y j u]:=by
  have V:dG (n+1) q=.agg (wL (gM (n+1) q)).toArray:=rfl;rw[V]at z;injection z with z;exact Array.toList_inj.2 z
 rw[<-ak]at J;have M:=G.snoc D (by omega) aw ax (by have:=Z.lt;simp;omega) (w1:=(w1.alloc P).alloc Q) (fZ (fZ (eZ w1 0 _) _) _) J A (by simpa using aj);have al:∀o,o<w.heap.size+2->some o≠(Value.slice a l.length c).ownBlock:=λo K e=>by have:=I o e.symm;omega
 have B:∀o,o<w.heap.size+2->h.heap[o]?=w1.heap[o]? :=λo K=>(A.block o (by simp;omega) (al o K)).trans ((fy _ _ (by simp;omega)).trans (fy _ _ (by omega)));have S:=av.block (B (w.heap.size+1) (by omega));have ar:Rd r s v x h:=ao.block (B r (by omega));have aC:h.heap.size=(h.setCell ⟨w.heap.size+1,3,none⟩ (af (some ⟨g,0,none⟩) (l.length+1) p)).heap.size:=by simp[World.setCell]
 have O:=ar.far (g:=w.heap.size+1) (by omega) 3 (af (some ⟨g,0,none⟩) (l.length+1) p);have aF:=uW (n+1) q i T U;have aG:0<(aI (n+1) q).length:=by simp[aI]
 refine⟨S,v,x,⟨l++ [q],T,O,N,?_,?_,?_,S.set3 _,aa.snoc U,by omega,λC=>?_⟩,?_⟩
 ·refine nr (IJ (fZ (fZ (cq Y D) _) _) A λb H=>?_) (by simp) _ _;have:=I b H;simp;omega
 ·refine⟨ownsRow_setCell_below (by simpa using M.1) (by simp) _,λaA an=>?_⟩;obtain⟨y1,y2⟩:=M.2 aA an;refine⟨?_,y2⟩;rw[<-aC];exact In.off (λb H=>eq _ _ _ _ (by simp;omega)) y2 y1
 ·exact(au.block (B w.heap.size (by omega))).block (eq _ _ _ _ (by simp))
 ·rw[ab C,De _ _ _ (F.no ai)];exact az (C+1)
 ·rw[Lp O N,Lp X F];omega
theorem Ii(w:ah)(o:Obj)(v0 v1 v2 v3:az)(e:TypeId):∀(j:Nat)(a:az),[v0,v1,v2,v3][j]?=some a->((w.alloc o).alloc (.cells #[v0,v1,v2,v3] e)).cell? ((⟨w.heap.size+1,0,none⟩:Addr).add j)=some a:=by
 intro j a b;rw[fF];rw[World.cell?_alloc_at _ _ _ _ (by simp)];simpa using b
theorem KR(k d:Int)(t:aq)(a:ay)(l c:Nat):∀v∈[Value.int .i64 k,ae d,ag t,af a l c],v.oneCell'=true:=by
 intro v b;simp at b;rcases b with rfl|rfl|rfl|rfl<;>rfl
theorem FL(n:Nat)(ih:On n)(r:Nat)(s:aq)(b e:Nat)(t0:Tok)(y:List Tok)(w:ah)(G:Rd r s b e w)(Q:At s b e (t0::y))(E:s.size<=2048)(T:y.length<=n)(U:Gt t0.2=true):au 75 #[aF r] w λg w'=>MG (n+2) s r (t0::y) w w' g:=by
 have q:=G.lt;obtain⟨ar,hit,W,X,Y⟩:=bT gN;have B:=av (⟨hit,W,X,Y⟩:_/\_/\_/\_);clear hit W X Y;have d:=av (⟨G,Q,E,T,U⟩:_/\_/\_/\_/\_);have aj:=av ih;clear G Q T U ih;go_enter func75,ntmps75;go_wp2_with (go_at_call 50;refine(sy r s b e _ ((d.1.alloc _).alloc _) d.2.1.2.1 E).mono ?_;rintro g ad ⟨rfl,m⟩);go_loopw [] (λwr=>∃(b e:Nat)(D:ay)(u c:Nat),Hid (MI n r s y w b e (af D u c) wr)/\True) (λwr=>Qc r s wr)
 case atStart=>exact⟨_,_,_,_,_,JE d.1 d.2.1 m.1 m.2,trivial⟩
 case round=>
  obtain⟨f,h,D,u,c,P,_⟩:=hrel;clear m;obtain⟨l,I,i⟩:=P.out;replace i:=av i;obtain⟨j,Z⟩:∃j,s.extract f h=j:=⟨_,rfl⟩;have C:=av Z;clear Z;have a:Hid (Rd r s f h wr/\At s f h I/\I.length<=n/\y.length<=2048):=by
   obtain⟨o,p,H,aL,aM,aN,aO,an,aP⟩:=i.out;refine⟨o,p,aG an d.2.2.2.1,?_⟩;have:=mD s (s.size-e) e (aA _);rw[<-d.out.2.1.cons.2.1]at this;omega
  cases hc:(j.toList==[41])
  ·have aQ:(j.toList=[41])=False:=by simpa using hc
   have aR:(j.toList !=[41])=true:=by simpa using hc
   have O:Hid (Cs (s.extract f h)=false):=by rw[C.out];exact hc
   go_wp2_with (first
    | (go_at_call 52;refine(pZ r s f h j wr a.1 a.2.1.1 a.2.1.2.1 C).mono ?_;rintro g ad ⟨rfl,x,rfl⟩)
    | (go_at_call 51;refine(aj r s f h I (wr.drewN x) (a.1.drew x) a.2.1 E a.2.2.1).mono ?_;rintro g F ⟨k,aH,t,ak,aD,am,ok,rfl,A⟩;obtain⟨aa,ab,aS⟩:=zw q i A.1;have ao:w.heap.size<F.heap.size:=(by omega);obtain⟨⟨J,K,L,M⟩,f0,f1,f2,f3⟩:=aa.cells;obtain⟨⟨y0,y1,y2,aI⟩,aw,az,aB,aC⟩:=ab.cells;clear aa ab;cases ok)
    | (at_builtin;have z:=av (N9 q i A.1 a.2.2.2);refine wpList_append_lies _ rfl _ _ 52 rfl (w.heap.size+2) 54 ar _ 4 56 underlying52 B.1 B.2.1 B.2.2.1 B.2.2.2 rfl (by decide) _ u _ rfl (z.2.2 _ _) ⟨F.heap.size+1,0,none⟩ 1 1 [ae k,ae aH,ag t,af ak aD am] rfl rfl (Ii _ _ _ _ _ _ _) (KR _ _ _ _ _ _) (by decide) (by have:=z.2.1;unfold maxLen;omega) (by have:=z.2.1;omega) (by simp;omega) (F.heap.size+2) (by simp) ?_;intro aK aJ aX V S R ap;have N:=av (JD q i O A z.1 V S R);obtain⟨⟨aY,aZ,a0,a1⟩,aT,aU,aV,aW⟩:=N.out.1.cells;clear V S R ap))
   ·exact aE (v:=ax #[.agg #[ae 0,ae 0,ag ⟨#[]⟩,af none 0 0],.bool false]) (by simp[results,results75,go_sem,J,K,L,M,ao]) rfl ⟨0,0,⟨#[]⟩,none,0,0,false,rfl,(mF.box q (JC d.2.2.2.2 i O A _) _ _ _ _).alloc _⟩
   ·obtain⟨al,g,o,p⟩:=N.2;go_roundw
    case rel=>exact⟨al,g,_,_,_,o,trivial⟩
    case measure=>exact p
  ·go_wp2_with (first
     | (go_at_call 52;refine(pZ r s f h j wr a.1 a.2.1.1 a.2.1.2.1 C).mono ?_;rintro g ad ⟨rfl,x,rfl⟩)
     | (go_at_call 50;refine(sy r s f h (wr.drewN x) (a.1.drew x) a.2.1.2.1 E).mono ?_;rintro g F ⟨rfl,m⟩;obtain⟨o,p,H⟩:=JB q d.2.2.2.2 P (by rw[C.out];exact hc) m.1 m.2;obtain⟨⟨J,K,L,M⟩,f0,f1,f2,f3⟩:=p.cells;obtain⟨⟨y0,y1,y2,aI⟩,aw,az,aB,aC⟩:=H.cells;have ai:=av (mF.box q o);clear o p H))
   exact aE (v:=ax #[.agg #[ae 4,ae 0,ag ⟨#[]⟩,af D u c],.bool true]) (by simp[results,results75,go_sem,J,K,L,M]) rfl ⟨4,0,⟨#[]⟩,D,u,c,true,rfl,ai _ _ _ _⟩
theorem Lf(a:x.toList=[]):gD x=false:=by
 rw[cE]at a;have b:x.size=0:=by
  have:x.data.toList.length=x.size:=by simp
  rw[a]at this;exact this.symm
 simp[gD,cE,fm,a,b]
theorem mF.undrew(a:mF n s r f (w.drewN m) w1 v ok):mF n s r f w w1 v ok:=by
 obtain⟨b,c⟩:=a;exact⟨cq (eZ w m _) b,c⟩
theorem Lg(a:At s b e f)(h:s.extract b e=x)(z:s.size<=2048)(i:Gt x=false){k:Int}{t:aq}(c:gD x=true)(u:(k,d,t)=ni x)(A:t.size<=x.size)(p:dp k)(q:dp d)(m:ap w w1)(v:Rd r s (dZ s e) (eS s e) w2)(g:(w1.alloc o).grownBy w2 (some r)):mF (n+1) s r f w w2 (aB k d t none 0 0) true:=by
 have B:x.size<=2048:=by rw[<-h];simp;have:=a.2.1;omega
 refine⟨cq (fZ (o9 (gT w _) m) o) g,dZ s e,eS s e,j9 s e,v,At.next a.2.1,λ_=>?_,by simp⟩;cases f with
 | nil=>
  have:=a.nil;rw[h]at this;rw[Lf this]at c;exact absurd c (by simp)
 | cons t0 f=>
  obtain⟨j,l,_⟩:=a.cons;subst j l;rw[h];refine⟨⟨((k,d,t),(none,0),[]),rfl,⟨_,_,rfl,ak ⟨i,c,u,rfl,rfl⟩⟩,⟨⟨p,q,by unfold maxLen;simp only;omega,aN _,aN _⟩,ak rfl⟩,ak rfl⟩,λy=>?_⟩;simp only[Cb,i,c];simp
theorem Nx(c:At s b e f)(k:s.extract b e=x)(j:Gt x=false)(i:gD x=false)(a:Rd r s b e w)(d:ap w w1)(v:az):mF (n+1) s r f w w1 v false:=by
 refine⟨o9 (gT w _) d,b,e,f,a.block (d.block r a.lt),c,by simp,λ_ l=>?_⟩;cases f with
 | nil=>rfl
 | cons t0 f=>
  obtain⟨g,h,_⟩:=c.cons;subst g h;simp only[Cb,k,j,i];simp[LI]
theorem G8(a:Below (w.drewN m).heap.size (w.drewN m) w1):ap w w1:=⟨a.os,a.tape,a.output,a.size,a.block⟩
theorem vy(a:r<w.heap.size)(g:(w.alloc (.cells #[v0,v1,v2,v3] 54)).grownBy w2 (some r)):Bx w.heap.size v0 v1 v2 v3 w2:=
 (Bx.new w v0 v1 v2 v3).block (g.block _ (by simp) (by simp;omega))
theorem zr(n:Nat)(r:Nat)(s:aq)(b e:Nat)(p:List Tok)(w:ah)(l:Rd r s b e w)(D:At s b e p)(E:s.size<=2048)(ih:∀w':ah,Rd r s b e w'->Gt (s.extract b e)=true->au 75 #[aF r] w' λd S=>MG (n+1) s r p w' S d):au 51 #[aF r] w λd w'=>MG (n+1) s r p w w' d:=by
 have h:=l.lt;have a:=av (⟨l,D⟩:_/\_);have O:=av ih;clear l D ih;obtain⟨c,m⟩:∃c,s.extract b e=c:=⟨_,rfl⟩;have g:=av m;have R:c.size<=2048:=by rw[<-m];simp;have:=a.2.2.1;omega
 clear m;cases hc:(c.toList==[40])
 ·have X:(c.toList=[40])=False:=by simpa using hc
  have Y:(c.toList !=[40])=true:=by simpa using hc
  go_enter func51,ntmps51
  go_wp2_with (first
   | (go_at_call 52;refine(pZ r s b e c _ (a.1.alloc _) a.2.1 a.2.2.1 g).mono ?_;rintro d L ⟨rfl,o,rfl⟩)
   | (go_at_call 52;refine(pZ r s b e c _ ((a.1.alloc _).drew o) a.2.1 a.2.2.1 g).mono ?_;rintro d L ⟨rfl,ae,rfl⟩)
   | (go_at_call 76;refine(I9 c _ R).mono ?_;rintro d q ⟨⟨k,f,t,ok,rfl,A⟩,HB⟩;replace HB:=G8 HB;obtain⟨⟨u,x,y,z⟩,f0,f1,f2,f3⟩:=zN HB;have P:w.heap.size<q.heap.size:=(by have:=HB.size;simp at this;omega);have Q:r<q.heap.size:=(by omega);replace HB:=av HB;cases ok)
   | (go_at_call 50;refine(sy r s b e _ ((((a.1.alloc _).block (HB.block r (by simp;omega)))).alloc _) a.2.2.1 E).mono ?_;rintro d ak ⟨rfl,i⟩;have N:=av (cq (fZ (o9 (gT _ _) HB) _) i.2);obtain⟨⟨T,U,V,W⟩,af,ag,ai,aj⟩:=(vy h N).cells;obtain⟨⟨y0,y1,y2,al⟩,Z,aa,ab,ad⟩:=(vy Q i.2).cells;obtain⟨G,H,I,J,K⟩:=A.out;have M:=av (mF.box h (Lg (n:=n) a.2 g E hc G.symm (H (by trivial)) I J K HB i.1 i.2));clear G H I J K))
  ·exact aE (v:=ax #[aB k f t none 0 0,.bool false]) (by simp[results,results51,go_sem,u,x,y,z,P]) rfl ⟨k,f,t,none,0,0,false,rfl,(mF.box h (Nx a.2 g hc A.1.symm (a.1.alloc _) HB _) _ _ _ _).alloc _⟩
  ·exact aE (v:=ax #[aB k f t none 0 0,.bool true]) (by simp[results,results51,go_sem,T,U,V,W]) rfl ⟨k,f,t,none,0,0,true,rfl,M _ _ _ _⟩
 ·go_enter func51,ntmps51
  go_wp2_with (first
   | (go_at_call 52;refine(pZ r s b e c _ (a.1.alloc _) a.2.1 a.2.2.1 g).mono ?_;rintro d L ⟨rfl,o,rfl⟩)
   | (go_at_call 75;refine(O _ ((a.1.alloc _).drew o) (by rw[g.out];exact hc)).mono ?_;rintro d q ⟨k,f,t,B,F,C,ok,rfl,j⟩;replace j:=av j.undrew;obtain⟨⟨u,x,y,z⟩,f0,f1,f2,f3⟩:=(vy h j.1).cells))
  exact aE (v:=ax #[aB k f t B F C,.bool ok]) (by simp[results,results51,go_sem,u,x,y,z]) rfl ⟨k,f,t,B,F,C,ok,rfl,mF.box h j _ _ _ _⟩
theorem Jc(n:Nat):On n:=by
 induction n with
 | zero=>
  intro g h b d c k j a f l;refine zr 0 g h b d c k j a f λm _ e=>?_;have i:c=[]:=b9 (by omega);subst i;simp[Gt,a.nil]at e
 | succ n ih=>
  intro g h b d c k j a f l;refine zr (n+1) g h b d c k j a f λm o e=>?_;cases c with
  | nil=>simp[Gt,a.nil]at e
  | cons t c=>
   have i:=a.cons.1;refine FL n ih g h b d t c m o a f (by simp at l;omega) ?_;rw[i];exact e
def pB:az:=.agg #[ae 0,ae 0,ag ⟨#[]⟩,af none 0 0]
def QD(s:aq)(w w':ah)(v:az)(pos b:Int):Prop:=
 (2048<s.size/\v=pB/\pos=0/\b=2)\/(∃c:Nat,s.size<=2048/\Cb s.size (j9 s 0) 0=some c/\v=pB/\pos=c/\b=3)\/
  (s.size<=2048/\Cb s.size (j9 s 0) 0=none/\∃(n:Nat)(a:Tm n),Is n a (j9 s 0) []/\In w'.heap.size w' n a/\cG (λd=>w.heap.size<=d) n a/\pos=0/\b=bL n a/\((bL n a≠0/\v=pB)\/(bL n a=0/\v=dG n a)))
def QC(s:aq)(w w':ah)(e:Ending):Prop:=
 ∃(k d:Int)(t:aq)(a:ay)(l c:Nat)(pos b:Int),e=aw (ax #[aB k d t a l c,ae pos,ae b])/\
  Hid (QD s w w' (aB k d t a l c) pos b/\ap w w')
theorem wX(a:b≠q)(v0 v1 v2 v3:az):((((w.setCell ⟨q,0,none⟩ v0).setCell ⟨q,1,none⟩ v1).setCell ⟨q,2,none⟩ v2).setCell ⟨q,3,none⟩ v3).heap[b]?=w.heap[b]? :=by
 rw[eq _ _ _ _ (by simpa using a),eq _ _ _ _ (by simpa using a),eq _ _ _ _ (by simpa using a),eq _ _ _ _ (by simpa using a)]
theorem ze(v0 v1 v2 v3:az):((((w.setCell ⟨q,0,none⟩ v0).setCell ⟨q,1,none⟩ v1).setCell ⟨q,2,none⟩ v2).setCell ⟨q,3,none⟩ v3).heap.size=w.heap.size:=by simp[World.setCell]
theorem I1(g:((w.alloc (.cells #[ae 0,ae 0,ag ⟨#[]⟩,af none 0 0] 54)).alloc (.cells #[ag s,ae 0,ae 0] 85)).grownBy w2 (some (w.heap.size+1)))(a:w2.grownBy h (some (w.heap.size+1))):Bx w.heap.size (ae 0) (ae 0) (ag ⟨#[]⟩) (af none 0 0) h/\w.heap.size+1<h.heap.size/\ap w h/\w.heap.size+2<=w2.heap.size:=by
 have b:=cq g a;have d:=g.size;have f:=a.size;simp at d;refine⟨((Bx.new w _ _ _ _).block (fy _ _ (by simp))).block (b.block _ (by simp;omega) (by simp)),by omega,?_,by omega⟩;exact((aW _ _).alloc (by simp) _).grown b (by simp;omega) (λe c=>by simp at c;omega)
theorem In.drewN{B:Nat}{w:ah}{n:Nat}{x:Tm n}(m:Nat){P:aX}(k:cG P n x)(a:In B w n x):In B (w.drewN m) n x:=In.off (w:=w) (w':=w.drewN m) (λ_ _=>rfl) k a
theorem LC(A:s.extract b e=x)(z:(x.toList==[])=true)(D:s.size<=2048)(r:At s b e f)(E:w.heap.size+2<=w2.heap.size)(l:(∃x:Tm 2049,dG 2049 x=v/\Is 2049 x (j9 s 0) f/\In h.heap.size h 2049 x/\cG (λq=>w2.heap.size<=q) 2049 x)/\∀d,Cb s.size (j9 s 0) d=kL s.size f d)(o:Obj)(m:Nat):∃y:Tm 2049,v=dG 2049 y/\Is 2049 y (j9 s 0) []/\In ((h.alloc o).drewN m).heap.size ((h.alloc o).drewN m) 2049 y/\cG (λq=>w.heap.size+2<=q) 2049 y/\(aI 2049 y).length<=2097152/\Cb s.size (j9 s 0) 0=none:=by
 obtain⟨⟨y,n,g,i,a⟩,p⟩:=l;have j:f=[]:=by
  cases f with
  | nil=>rfl
  | cons t f=>
   have k:=r.cons.2.2;rw[A]at k;have c:x.toList=[]:=by simpa using z
   rw[cE]at c;have:x.data.toList.length=x.size:=by simp
   rw[c]at this;simp at this;omega
 subst j;have B:=uW 2049 y (j9 s 0) [] g;have c:=mD s s.size 0 (by omega);refine⟨y,n.symm,g,In.drewN m a ((In.off (λb u=>fy h o u.2) (In.offB a i) i).mono (by simp)),a.mono λq C=>by omega,by simp at B;omega,p 0⟩
theorem LA{a:ah}(c:Bx w.heap.size (ae 0) (ae 0) (ag ⟨#[]⟩) (af none 0 0) h)(b:Below ((h.alloc (.cells #[v0,v1,v2,v3] 54)).drewN m).heap.size ((h.alloc (.cells #[v0,v1,v2,v3] 54)).drewN m) a):Bx w.heap.size (ae 0) (ae 0) (ag ⟨#[]⟩) (af none 0 0) a/\Bx h.heap.size v0 v1 v2 v3 a:=by
 have d:=c.lt;exact⟨(c.block (fy _ _ d)).block (b.block _ (by simp;omega)),(Bx.new h v0 v1 v2 v3).block (b.block _ (by simp))⟩
theorem LB(g:s.extract b e=x)(c:(x.toList==[])=false)(a:At s b e f)(d:Cb s.size (j9 s 0) 0=kL s.size f 0):Cb s.size (j9 s 0) 0=some b:=by
 rw[d,<-a.pos];cases f with
 | nil=>rw[<-g]at c;simp[a.nil]at c
 | cons t f=>rfl
theorem Lz{w4:ah}{y:Tm n}(a:In w4.heap.size w4 n y)(k:cG (λq=>w.heap.size+2<=q) n y)(b:ap w4 h)(v0 v1 v2 v3:az):In ((((h.setCell ⟨w.heap.size,0,none⟩ v0).setCell ⟨w.heap.size,1,none⟩ v1).setCell ⟨w.heap.size,2,none⟩ v2).setCell ⟨w.heap.size,3,none⟩ v3).heap.size ((((h.setCell ⟨w.heap.size,0,none⟩ v0).setCell ⟨w.heap.size,1,none⟩ v1).setCell ⟨w.heap.size,2,none⟩ v2).setCell ⟨w.heap.size,3,none⟩ v3) n y:=by
 rw[ze];exact In.off (λq c=>wX (by omega) _ _ _ _) k ((a.below b).mono b.size)
theorem qO(a:ap w w1)(v0 v1 v2 v3:az):ap w ((((w1.setCell ⟨w.heap.size,0,none⟩ v0).setCell ⟨w.heap.size,1,none⟩ v1).setCell ⟨w.heap.size,2,none⟩ v2).setCell ⟨w.heap.size,3,none⟩ v3):=
 ⟨a.os,a.tape,a.output,by rw[ze];exact a.size,λk b=>(wX (by omega) _ _ _ _).trans (a.block k b)⟩
theorem iY(a:Below B w w1)(m:Nat):Below B w (w1.drewN m):=⟨a.os,a.tape,a.output,a.size,a.block⟩
theorem mU(a:ap w w1)(o:Obj):ap w (w1.alloc o):=a.alloc a.size o
theorem yO(s:aq)(w:ah)(S:s.size<=maxLen):au 35 #[ag s] w λe w'=>QC s w w' e:=by
 unfold maxLen at S;by_cases D:2048<s.size
 ·have Q:(2048:Int)<s.size:=by omega
  go_enter func35,ntmps35;go_wp2_with fail;exact aE (v:=ax #[pB,ae 0,ae 2]) (by simp[results,results35,go_sem,pB]) rfl ⟨0,0,⟨#[]⟩,none,0,0,0,2,rfl,ak ⟨D,rfl,rfl,rfl⟩,by go_grown⟩
 ·have Q:(s.size:Int)<=2048:=by omega
  have i:s.size<=2048:=by omega
  clear D;have P:Hid (Rd (w.heap.size+1) s 0 0 ((w.alloc (.cells #[ae 0,ae 0,ag ⟨#[]⟩,af none 0 0] 54)).alloc (.cells #[ag s,ae 0,ae 0] 85))):=by
   have:=aL (w.alloc (.cells #[ae 0,ae 0,ag ⟨#[]⟩,af none 0 0] 54)) (.cells #[ag s,ae 0,ae 0] 85);simpa [Hid,Rd]using this
  go_enter func35,ntmps35
  go_wp2_with (first
   | (go_at_call 50;refine(sy (w.heap.size+1) s 0 0 _ P (aN _) i).mono ?_;rintro o U ⟨rfl,B⟩)
   | (go_at_call 51;refine(Jc 2048 (w.heap.size+1) s _ _ (j9 s 0) U B.1 (At.next (aN _)) i (aG (mD s s.size 0 (by omega)) (by omega))).mono ?_;rintro o V ⟨k,A,t,y,l,c,ok,rfl,C⟩;obtain⟨q,al,G,H⟩:=I1 B.2 C.1;obtain⟨⟨K,L,M,N⟩,f0,f1,f2,f3⟩:=q.cells;have E:w.heap.size<V.heap.size:=(by omega);obtain⟨_,d,o,az,b⟩:=C;replace b:=av b;obtain⟨⟨W,X,Y⟩,an,ao⟩:=b.out.1.cells;have HB:=av (⟨G,H⟩:_/\_);replace q:=av q;clear G H;obtain⟨r,F⟩:∃r,s.extract d o=r:=⟨_,rfl⟩;have x:=av F;clear F;cases ok)
   | (go_at_call 52;refine(pZ (w.heap.size+1) s d o r _ (b.1.alloc _) b.2.1.1 b.2.1.2.1 x).mono ?_;rintro Z aC ⟨rfl,m,rfl⟩;cases hc:(r.toList==[]))
   | (go_at_call 53;obtain⟨u,p,a⟩:=LC x hc i b.2.1 HB.2 (b.2.2.1 (by trivial)) _ m;replace a:=av a;refine(show Calls _ _ #[aB k A t y l c] _ _ from p▸dX 2049 u _ _ a.2.1 (aA _) a.2.2.2.1).mono ?_;rintro aa aD ⟨rfl,h⟩;obtain⟨I,J⟩:=LA q h;obtain⟨⟨y0,y1,y2,O⟩,ab,ad,ai,aj⟩:=I.cells;obtain⟨⟨aF,aH,aI,aJ⟩,ap,ar,aw,ay⟩:=J.cells;have n:=av h;clear I J h;replace p:=av p;obtain⟨j,g⟩:∃j,bL 2049 u=j:=⟨_,rfl⟩;rw[g];replace g:=av g;by_cases z:j=0))
  ·go_region;go_wp2_with fail;have f:=HB.1;exact aE (v:=ax #[pB,ae d,ae 3]) (by simp[results,results35,go_sem,pB,E,K,L,M,N]) rfl ⟨0,0,⟨#[]⟩,none,0,0,d,3,rfl,am (ak ⟨d,i,by rw[<-b.out.2.1.pos];exact b.2.2.2 (by trivial) 0,rfl,rfl,rfl⟩),by go_grown⟩
  ·go_region;go_wp2_with fail;have f:=HB.1;exact aE (v:=ax #[pB,ae d,ae 3]) (by simp[results,results35,go_sem,pB,E,K,L,M,N]) rfl ⟨0,0,⟨#[]⟩,none,0,0,d,3,rfl,am (ak ⟨d,i,LB x hc b.2.1 ((b.2.2.1 (by trivial)).2 0),rfl,rfl,rfl⟩),qO (iY (mU f _) _) _ _ _ _⟩
  ·have f:=HB.1;have h:=n.out;exact aE (v:=ax #[aB k A t y l c,ae 0,ae 0]) (by simp[results,results35,go_sem,y0,y1,y2,O]) rfl ⟨k,A,t,y,l,c,0,0,rfl,am (am ⟨i,a.2.2.2.2,2049,u,a.1,Lz a.2.1 a.2.2.1 n _ _ _ _,a.2.2.1.mono (λT R=>by omega),rfl,(g.trans z).symm,am ⟨g.trans z,p⟩⟩),qO ((iY (mU f _) m).trans (h.mono (iY (mU f _) m).size)) _ _ _ _⟩
  ·have f:=HB.1;have h:=n.out;exact aE (v:=ax #[pB,ae 0,ae j]) (by simp[results,results35,go_sem,pB,y0,y1,y2,O]) rfl ⟨0,0,⟨#[]⟩,none,0,0,0,j,rfl,am (am ⟨i,a.2.2.2.2,2049,u,a.1,Lz a.2.1 a.2.2.1 n _ _ _ _,a.2.2.1.mono (λT R=>by omega),rfl,g.symm,ak ⟨by rw[g.out];exact z,rfl⟩⟩),qO ((iY (mU f _) m).trans (h.mono (iY (mU f _) m).size)) _ _ _ _⟩
def wt:(n:Nat)->Tm n->Nat
 | 0,_=>1
 | n+1,x=>1+x.1.2.2.size+(x.2.2.map λy=>wt n y).sum
def jn(l:List (List UInt8)):List UInt8:=((l.map λa=>32::a).flatten).tail
theorem Nu(l:List (List UInt8))(a:List UInt8):jn (l++ [a])=if l=[]then a else jn l++32::a:=by
 unfold jn;cases l with
 | nil=>simp
 | cons b l=>simp
def fK:(n:Nat)->Tm n->List UInt8
 | 0,_=> []
 | n+1,x=>
  if x.1.1=1 then Lib.itoa x.1.2.1 else if x.1.1=2 then x.1.2.2.data.toList else if x.1.1=3 then 35::Lib.itoa x.1.2.1
  else if x.1.1=4 then 40::jn (x.2.2.map λy=>fK n y)++ [41]else if x.1.1=5 then 36::Lib.itoa x.1.2.1 else if x.1.1=6 then [95]else []
theorem K0(n:Nat)(f:Tm n->List UInt8)(l:List (Tm n))(a:∀y∈l,(f y).length+1<=24*wt n y):(jn (l.map f)).length<=24*(l.map λy=>wt n y).sum:=by
 have key:∀l:List (Tm n),(∀y∈l,(f y).length+1<=24*wt n y)->(((l.map f).map λb=>32::b).flatten).length<=24*(l.map λy=>wt n y).sum:=by
  intro l
  induction l with
  | nil=>simp
  | cons y l ih=>
   intro a;have g:=a y (by simp);have e:=ih (λd c=>a d (by simp[c]));simp only[bB,List.flatten_cons,br,bv,dk];omega
 unfold jn;rw[List.length_tail];have:=key l a;omega
theorem Pe{x:Tm (n+1)}(a:In B w (n+1) x){y:Tm n}(c:y∈x.2.2):In B w n y:=by
 rcases a.2 with a|⟨b,o,_,_,a⟩
 ·rw[a]at c;cases c
 ·obtain⟨e,d⟩:=dj c;exact(a e y d).2
theorem tS:(n:Nat)->(x:Tm n)->(B:Nat)->(w:ah)->In B w n x->(fK n x).length+1<=24*wt n x
 | 0,_,_,_,h=>h.elim
 | n+1,x,B,w,h=>by
  have e:=K0 n (λy=>fK n y) x.2.2 (λy f=>tS n y B w (Pe h f));have d:dp x.1.2.1:=h.1.2.1;obtain⟨⟨k,b,s⟩,⟨a,c⟩,p⟩:=x;have g:=Lib.itoa_length_le b d.1 d.2;have i:s.data.toList.length=s.size:=by rw[lw];rfl
  simp only at e
  show (if k=1 then Lib.itoa b else if k=2 then s.data.toList else if k=3 then 35::Lib.itoa b
   else if k=4 then 40::jn (p.map λy=>fK n y)++ [41]else if k=5 then 36::Lib.itoa b else if k=6 then [95]else []).length+1<=24*(1+s.size+(p.map λy=>wt n y).sum)
  repeat' split
  all_goals (try simp only[bv,br,eW])
  all_goals omega
theorem dE.trans{B b:Nat}{l d:List UInt8}{w w1 w2:ah}(c:dE B b l w w1)(a:dE B b d w1 w2):dE B b d w w2:=⟨a.1,c.2.1.trans a.2.1,c.2.2.trans a.2.2⟩
theorem dE.old{B b:Nat}{l:List UInt8}{w w':ah}(c:Bu B b l w)(a:ap w w')(d:B<=w.heap.size):dE B b l w w':=⟨c.old a,a.mono d,K7 a⟩
def FW(n:Nat):Prop:=∀(x:Tm n)(C B b:Nat)(l:List UInt8)(w:ah),In C w n x->C<=B->Bu B b l w->B<=w.heap.size->xA B w->l.length+24*wt n x<=140737488355328->
 au 135 #[aF b,dG n x] w λe w'=>e=aw (ax #[])/\dE B b (l++fK n x) w w'
theorem iK(B b:Nat)(l:List UInt8)(c:Int)(a:UInt8)(g:(a.toNat:Int)=c)(w:ah)(d:Bu B b l w)(h:l.length+1<=140737488355328)(f:B<=w.heap.size):au 14 #[aF b,.int .u8 c] w λe w'=>e=.returned .nilIface/\dE B b (l++ [a]) w w':=by
 rw[<-g];exact xS B b l a w d h f
theorem GV(w:ah)(cs:Array az)(t:TypeId):(w.alloc (.cells cs t)).heap[w.heap.size]?=some (.cells cs t (0,0)):=aL w _
theorem zD(k d:Int)(s:aq)(a:ay)(n c:Nat)(B b:Nat)(l:List UInt8)(w:ah)(g:dp d)(j:Bu B b l w)(E:B<=w.heap.size)(x:xA B w)(I:l.length+24<=140737488355328)(i:UInt8)(F:(k=3/\i=35)\/(k=5/\i=36)):au 135 #[aF b,aB k d s a n c] w λe w'=>e=aw (ax #[])/\dE B b (l++i::Lib.itoa d) w w':=by
 have A:=av (Lib.itoa_length_le d g.1 g.2);have r:Hid (∀o,dE B b l w (w.alloc o)):=λo=>dE.old j (aW _ o) E;have C:=av x;have q:=av g;have J:=j.lt;clear j x g;rcases F with⟨rfl,rfl⟩|⟨rfl,rfl⟩
 all_goals
  go_enter func135,ntmps135;go_wp2_with fail;refine(iK B b l _ _ (by first|exact(rfl:(((35:UInt8).toNat:Nat):Int)=35)|exact(rfl:(((36:UInt8).toNat:Nat):Int)=36)) _ (r.out _).1 (by omega) (by simp;omega)).mono ?_;rintro e y ⟨rfl,f⟩;have h:=av ((r.out _).trans f);have v:=yw f.2.2 (GV w _ 54) (by omega) (by decide);have H:y.cell? ⟨w.heap.size,1,none⟩=some (ae d):=by rw[fp v];rfl
  have t:Hid (B<=y.heap.size):=by have:=f.2.1.size;simp at this;simp only[Hid];omega
  clear f v;go_wp2_with fail;refine(jU d q.out.1 q.out.2 B _ (C.out.on h.out.2.1)).mono ?_;rintro e G ⟨rfl,m⟩;have p:=av (dE.old h.out.1 m t.out);have D:Hid (B<=G.heap.size):=aG t.out m.size;clear m;go_wp2_with fail;refine(kF B b _ _ _ p.out.1 (by have:=A.out;simp[ByteArray.size];omega) D.out).mono ?_;rintro e K ⟨rfl,u⟩;have z:=av ((h.out.trans p.out).trans u);clear u;go_wp2_with fail
  go_end0
  exact⟨rfl,by have:=z.out;simpa using this⟩
theorem rz:(n:Nat)->(x:Tm n)->(m:Nat)->(y:Tm m)->aK n x m y=true->fK n x=fK m y
 | 0,_,_,_,h=>by simp[aK]at h
 | _+1,_,0,_,h=>by simp[aK]at h
 | n+1,x,m+1,y,h=>by
  obtain⟨c,d⟩:=bV h;simp only[fK,c];rw[jp _ _ _ _ _ (λa _ b e=>rz n a m b e) d]
theorem vZ{a:Nd}(b:cN a=true):a.1.2.2.size<=8:=by
 have d:∀c:aq,c.toList.isEmpty=true->c.size<=8:=λc b=>by
  rw[cE]at b;have e:c.data.toList.length=c.size:=by simp
  have f:c.data.toList=[]:=by simpa using b
  rw[f]at e;simp at e;omega
 simp only[cN,aT]at b;obtain⟨b,_⟩:=b;split at b
 ·exact d _ (by simp at b;simpa using b.1)
 ·split at b
  ·simp only[ek,qX,aT,cV]at b;omega
  ·split at b
   ·exact d _ (by simp at b;simpa using b.1)
   ·split at b
    ·exact d _ (by simp at b;simpa using b.1.1)
    ·split at b
     ·exact d _ (by simp at b;simpa using b.1)
     ·split at b
      ·exact d _ (by simp at b;simpa using b.1)
      ·exact absurd b (by simp)
theorem xw:(n:Nat)->(x:Tm n)->(∀a∈aI n x,a.1.2.2.size<=8)->wt n x<=9*(aI n x).length
 | 0,_,_=>by simp[wt,aI]
 | n+1,x,b=>by
  have key:∀l:List (Tm n),(∀y∈l,∀a∈aI n y,a.1.2.2.size<=8)->(l.map λy=>wt n y).sum<=9*(l.flatMap λy=>aI n y).length:=by
   intro l
   induction l with
   | nil=>simp
   | cons y l ih=>
    intro b;have d:=xw n y (b y (by simp));have c:=ih (λh g=>b h (by simp[g]));simp only[bB,dk,bM,br];omega
  have d:=key x.2.2 (λy f a e=>b a (nw f e));have c:=b (x.1,(x.2.1.1,x.2.2.length,x.2.1.2)) (by simp[aI]);simp only[wt,aI,bv];simp only at c;omega
end Go.Proofs.YthjclakhibnamaaGreatDoor
