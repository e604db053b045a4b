/- What is proved here: plain facts and contracts that the claimed theorem stands on. No condition but those that each names. -/
import Derived.Test.YtmbjgiaebneodaaGreatG32
namespace Go.Proofs.YtmbjgiaebneodaaGreat
open Go.RowKit
set_option maxRecDepth 100000
set_option maxHeartbeats 4000000
section
variable {p:mg} {s:Sy} {d:fX} {w:World}
theorem aV.takeW(h:aV p s d w){a b:Int}(X:I2 (a,b))(Z:d.wn<999999):Calls Tryz.prog 39 #[.pointer (some ⟨p.b,4,none⟩),.int .i64 a,.int .i64 b] w λe w'=> (s.ways (a,b)=[]->e=.returned (.tuple #[.agg #[.int .i64 0,.int .i64 0,.string ⟨#[]⟩,.slice none 0 0],.int .i64 4])/\Below w.heap.size w w')/\ ∀t l,s.ways (a,b)=t::l->∃y:Tc,e=.returned (.tuple #[de 13 y,.int .i64 0])/\cn 13 y=t/\bv 13 y=0/\aF 13 y=true/\∃z,aV p {s with ways:=fZ s.ways (a,b) l} z w'/\dB 1 d z w w'/\In w'.heap.size w' 13 y/\cg (λq=>¬1<=z.ow q) 13 y:=by
 have n:=h.wy.2.2.1 (a,b);refine(Gz (N:=12) h.wy.1 X Z (by have:=h.wy.2.2.2.1 (a,b);omega)).mono ?_;rintro e w' ⟨B,V⟩;refine⟨λA=>B ?_,λt l A=>?_⟩
 ·rw[A]at n;simpa using n
 ·rw[A]at n;obtain⟨y,i,v,P,Q⟩:∃y i,d.f (a,b)=y::i/\cn 13 y=t/\i.map (cn 13)=l:=by
   cases I:d.f (a,b)with
   | nil=>rw[I]at n;simp at n
   | cons y i=>
    rw[I,aJ]at n;injection n with ad ae;exact⟨y,i,rfl,ad,ae⟩
  obtain⟨Y,sl,L,m,M⟩:=V y i v;have u:=h.wy.2.1;have r:∀b,d.ow b≠0->d.ow b=d.ow b:=λ_ _=>rfl;have J:∀b,d.ow b≠0->p.lo<=b/\b<w'.heap.size:=λb q=>⟨(h.low b q).1,aM (h.low b q).2 m.size⟩;have x:∀{t:Int},t≠ -1->t≠ -5->∀b,d.ow b=t->¬pW (xk p s d) d.wo d.sl b:=λB W b e g=>by
   rcases u b g with g|g
   ·rw[g,h.own]at e;exact W e.symm
   ·exact B (e.symm.trans g)
  have H:w'.heap[p.b]?=some (.cells (dI p s d) 72):=by
   have:=L.2.1.2;simpa [xk,dI]using this
  have K:∀C,∀g∈d.f C,bv 13 g=0/\aF 13 g=true/\In w'.heap.size w' 13 g/\cg (λq=>d.ow q=-1/\¬pW (xk p s d) d.wo d.sl q) 13 g:=λC g o=>by
   obtain⟨D,E,F⟩:=h.wy.2.2.2.2 C g o;exact⟨D,E,eR m (λq ai G=>ai.2 G) F⟩
  obtain⟨y1,y2,af,ah⟩:=K (a,b) y (by rw[v];simp);obtain⟨R,S⟩:=h.evK m (x (by decide) (by decide)) r;refine⟨y,Y,P,y1,y2,{d with wn:=d.wn+1,f:=fZ d.f (a,b) i,sl:=sl},⟨J,H,h.own,⟨h.pgK m (x (by decide) (by decide)) r,h.pg.2⟩,h.pmK m (λq T U g=>?_) r,h.keys,λk c q=>h.psK m (ag _) (x (by have:=(h.key q).1;omega) (by have:=(h.key q).1;omega)) r J q,⟨L,λq g=>u q (M q g),λk=>?_,λk=>?_,λk g o=>?_⟩,h.bdK m (x (by decide) (by decide)) r rfl (oP H).2,R,h.evt.1,S⟩,⟨m.mono λq _ g=>?_,λ_ _=>rfl,rfl,fj _,ag _,fj _⟩,af,ah.mono λq g=>by show¬1<=d.ow q;rw[g.1];decide⟩
  ·rcases u q g with g|g
   ·exact U g
   ·rw[T]at g;cases g
  ·by_cases j:k=(a,b)
   ·subst j;show (fZ d.f (a,b) i (a,b)).map (cn 13)=fZ s.ways (a,b) l (a,b);rw[cq,cq,Q]
   ·show (fZ d.f (a,b) i k).map (cn 13)=fZ s.ways (a,b) l k;rw[bB _ _ j,bB _ _ j];exact h.wy.2.2.1 k
  ·by_cases j:k=(a,b)
   ·subst j;show (fZ d.f (a,b) i (a,b)).length<=20;rw[cq];have:=h.wy.2.2.2.1 (a,b);rw[v]at this;simp at this;omega
   ·show (fZ d.f (a,b) i k).length<=20;rw[bB _ _ j];exact h.wy.2.2.2.1 k
  ·have o:g∈fZ d.f (a,b) i k:=o;have aa:g∈d.f k:=by
    by_cases j:k=(a,b)
    ·subst j;rw[cq]at o;rw[v];exact bU _ o
    ·rwa [bB _ _ j]at o
   obtain⟨D,E,F,ab⟩:=K k g aa;exact⟨D,E,F,ab.mono λq O=>⟨O.1,λG=>O.2 (M q G)⟩⟩
  ·rcases u q g with g|g
   ·rw[g,h.own];decide
   ·rw[g];decide
end
theorem qQ(f:Nat)(a b:Int)(s i:Bool)(w:World)(p:Int->Int->ByteArray->Option Addr->Nat->Nat->World->Prop)(R:Int->World->Prop)(n:Hid (Calls Tryz.prog 39 #[.pointer (some ⟨f,4,none⟩),.int .i64 a,.int .i64 b] w λe w'=>(s=true->e=.returned (.tuple #[.agg #[.int .i64 0,.int .i64 0,.string ⟨#[]⟩,.slice none 0 0],.int .i64 4])/\Hid (∀W,Below w'.heap.size w' W->R 4 W))/\(s=false->∃y0 y1 y2 ya yl yc,e=.returned (.tuple #[.agg #[.int .i64 y0,.int .i64 y1,.string y2,.slice ya yl yc],.int .i64 0])/\Hid (p y0 y1 y2 ya yl yc w'))))(k:Hid (∀y0 y1 y2 ya yl yc W c,p y0 y1 y2 ya yl yc W->Below W.heap.size W c->Calls Tryz.prog 40 #[.pointer (some ⟨f,0,none⟩),.int .i64 b] c λe w'=>e=.returned (.bool i)/\w'=c))(l:Hid (∀y0 y1 y2 ya yl yc W c,p y0 y1 y2 ya yl yc W->Below W.heap.size W c->(i=true->Calls Tryz.prog 41 #[.pointer (some ⟨f,0,none⟩),.int .i64 a,.int .i64 b,.agg #[.int .i64 y0,.int .i64 y1,.string y2,.slice ya yl yc]] c λe w'=>e=.returned (.tuple #[])/\Hid (R 0 w'))/\(i=false->Calls Tryz.prog 35 #[.pointer (some ⟨f,0,none⟩),.string ⟨#[108,111,115,116]⟩,.int .i64 a,.int .i64 b,.agg #[.int .i64 y0,.int .i64 y1,.string y2,.slice ya yl yc]] c λe w'=>e=.returned (.tuple #[])/\Hid (R 0 w')))):Calls Tryz.prog 18 #[.pointer (some ⟨f,0,none⟩),.int .i64 a,.int .i64 b] w λe w'=>∃v,e=.returned (.int .i64 v)/\Hid (R v w'):=by
 go_enter Tryz.func18,Tryz.ntmps18;go_wp2_with fail;refine n.out.mono ?_;rintro e d ⟨q,r⟩;cases s;rotate_left
 ·obtain⟨rfl,g⟩:=q rfl;clear q r n k l;go_wp2_with fail
  go_ret
  exact⟨4,rfl,g.out _ ((ah _ _).alloc (ag _) _)⟩
 obtain⟨y0,y1,y2,ya,yl,yc,rfl,g⟩:=r rfl;clear q r n;have HB:Hid (∀o,Below d.heap.size d (d.alloc o)):=λo=>(ah _ _).alloc (ag _) o;have x:Hid (∀o,(d.alloc o).heap[d.heap.size]?=some o):=λo=>ay d o;go_wp2_with fail;refine(k.out _ _ _ _ _ _ _ _ g.out (HB.out _)).mono ?_;rintro e y ⟨rfl,t⟩;obtain rfl:=t.symm;clear t;have h:=ai (l.out _ _ _ _ _ _ _ _ g.out (HB.out (.cells #[.int .i64 y0,.int .i64 y1,.string y2,.slice ya yl yc] 30)));clear k l;cases i
 ·have m:=ai (h.out.2 rfl);clear h;go_wp2_with fail;refine m.out.mono ?_;rintro e u ⟨rfl,j⟩;go_wp2_with fail
  go_ret
  exact⟨0,rfl,j.out⟩
 ·have m:=ai (h.out.1 rfl);clear h;go_wp2_with fail;refine m.out.mono ?_;rintro e u ⟨rfl,j⟩;go_wp2_with fail
  go_ret
  exact⟨0,rfl,j.out⟩
section
variable {p:mg} {s:Sy} {d:fX} {w:World}
theorem aV.arrive(z:aV p s d w){a b:Int}(A:I2 (a,b))(E:d.wn<999999)(Y:d.k<=47000)(W:d.es.length<=97000):Calls Tryz.prog 18 #[.pointer (some ⟨p.b,0,none⟩),.int .i64 a,.int .i64 b] w λe w'=>∃v,e=.returned (.int .i64 v)/\Hid (v=(s.arrive p.room a b).2/\∃c,aV p (s.arrive p.room a b).1 c w'/\eT 101 201 d c w w'):=by
 cases hw:s.ways (a,b)with
 | nil=>
  have e:s.arrive p.room a b=(s,4):=by unfold Sy.arrive;rw[hw]
  rw[e];refine qQ p.b a b true false w (λ_ _ _ _ _ _ _=>False) (λv w'=>v=4/\∃c,aV p s c w'/\eT 101 201 d c w w') ((z.takeW A E).mono λe w' j=>⟨λ_=>⟨(j.1 hw).1,λi g=>?_⟩,(λm=>by cases m)⟩) (λ_ _ _ _ _ _ _ _ m=>m.elim) λ_ _ _ _ _ _ _ _ m=>m.elim;have D:=(j.1 hw).2.trans (g.mono (j.1 hw).2.size);exact⟨rfl,d,z.later D,(dB.later d D).un.mono (aD _) (aD _)⟩
 | cons t l=>
  obtain⟨h,F⟩:∃h,h={s with ways:=fZ s.ways (a,b) l}:=⟨_,rfl⟩;have e:s.arrive p.room a b=(if (h.get b).isSome then h.deliver p.room a b t else h.tell mA a b t,0):=by unfold Sy.arrive;rw[hw,F]
  rw[e];refine qQ p.b a b false (h.get b).isSome w (λy0 y1 y2 ya yl yc i=>∃f:Tc,(f.1=(y0,y1,y2)/\f.2.1=(ya,yc)/\f.2.2.length=yl)/\cn 13 f=t/\bv 13 f=0/\∃c,aV p h c i/\dB 1 d c w i/\In i.heap.size i 13 f/\cg (λj=>¬1<=c.ow j) 13 f) (λv w'=>v=0/\∃c,aV p (if (h.get b).isSome then h.deliver p.room a b t else h.tell mA a b t) c w'/\eT 101 201 d c w w') ((z.takeW A E).mono λe w' j=>⟨(λm=>by cases m),λ_=>?_⟩) ?_ ?_
  ·obtain⟨f,N,O,P,ab,c,Q,R,S,T⟩:=j.2 t l hw;exact⟨f.1.1,f.1.2.1,f.1.2.2,f.2.1.1,f.2.2.length,f.2.1.2,N,f,⟨rfl,rfl,rfl⟩,O,P,c,by rw[F];exact Q,R,S,T⟩
  ·rintro y0 y1 y2 ya yl yc i I ⟨f,_,_,_,c,o,_⟩ g;exact(o.later g).isAlive b
  ·rintro y0 y1 y2 ya yl yc i I ⟨f,⟨B,C,K⟩,G,kc,c,o,r,H,M⟩ g;obtain⟨⟨ad,ae,af⟩,⟨ag,ah⟩,ai⟩:=f;simp only[fk]at B C;obtain⟨rfl,rfl,rfl⟩:=B;obtain⟨rfl,rfl⟩:=C;subst K;have X:=r.2.2.2.1;have Z:=r.2.2.1;refine⟨λq=>?_,λq=>?_⟩
   ·obtain⟨v,L⟩:=gA.1 q;obtain⟨aa,V,U⟩:=v;refine((o.later g).deliver A.2 L _ ⟨(H.below g).mono g.size,M⟩ kc (by omega) (by omega)).mono ?_;rintro J w' ⟨rfl,u⟩;obtain⟨x,n,y⟩:=u.out;rw[G]at n;rw[if_pos q];exact⟨rfl,rfl,x,n,((r.un.trans (dB.later c g).un).trans y).mono (by omega) (by omega)⟩
   ·refine((o.later g).tell mA a b _ _ _ _ _ _ _ (jq ((H.below g).mono g.size) kc) (by omega)).mono ?_;rintro J w' ⟨rfl,u⟩;obtain⟨x,n,y⟩:=u.out.up (o.later g);rw[G]at n;rw[if_neg (by rw[q];decide)];exact⟨rfl,rfl,x,n,((r.un.trans (dB.later c g).un).trans y.un).mono (by omega) (by omega)⟩
end
theorem IH(a:Nat)(W:World):(binOp .eql 64 (.map (some a)) (.map none)).run Tryz.prog W=.ok (.bool false) W:=by kernel_rfl
theorem IG(W:World):(binOp .eql 64 (.map none) (.map none)).run Tryz.prog W=.ok (.bool true) W:=by kernel_rfl
theorem DZ(b o d:Nat)(n:Option Nat)(a G c:Int)(w w1 w2:World)(y:Int->Int->ByteArray->Option Addr->Nat->Nat->World->Prop)(k R:World->Prop)(S:IntKind.i64.wrap (G+1)=c)(T:b<w.heap.size)(C:Hid (w.cell? ⟨b,3,none⟩=some (.map n)/\w.frozen? ⟨b,3,none⟩=false))(P:(n=none/\d=w.heap.size/\w1=(w.setCell ⟨b,3,none⟩ (.map (some d))).alloc (.map #[] 0))\/(n=some d/\w1=w))(p:Hid (w1.cell? ⟨b,2,none⟩=some (.int .i64 G)/\w1.frozen? ⟨b,2,none⟩=false))(A:w2=w1.setCell ⟨b,2,none⟩ (.int .i64 c))(j:Hid (∀W,Below w2.heap.size w2 W->W.cell? ⟨b,2,none⟩=some (.int .i64 c)/\W.cell? ⟨b,3,none⟩=some (.map (some d))))(u:Hid (∀W,Below w2.heap.size w2 W->∃g,(Instr.mapUpdate 64 (.map (some d)) (.int .i64 c) (tY o)).run Tryz.prog W=.ok () g/\(g.cell? ⟨b,2,none⟩=some (.int .i64 c)/\g.cell? ⟨b,3,none⟩=some (.map (some d)))/\Hid (k g)))(s:Hid (∀W f,k W->Below W.heap.size W f->f.cell? ⟨b,2,none⟩=some (.int .i64 c)))(I:Hid (∀W f,k W->Below W.heap.size W f->Calls Tryz.prog 31 #[.pointer (some ⟨o,0,none⟩)] f λe w'=>∃y0 y1 y2 ya yl yc,e=.returned (.agg #[.int .i64 y0,.int .i64 y1,.string y2,.slice ya yl yc])/\Hid (Below f.heap.size f w'/\y y0 y1 y2 ya yl yc w')))(J:Hid (∀y0 y1 y2 ya yl yc W,y y0 y1 y2 ya yl yc W->Calls Tryz.prog 35 #[.pointer (some ⟨b,0,none⟩),.string ⟨#[115,112,97,119,110]⟩,.int .i64 a,.int .i64 c,.agg #[.int .i64 y0,.int .i64 y1,.string y2,.slice ya yl yc]] W λe w'=>e=.returned (.tuple #[])/\Hid (R w'/\w'.cell? ⟨b,2,none⟩=some (.int .i64 c)))):Calls Tryz.prog 29 #[.pointer (some ⟨b,0,none⟩),.int .i64 a,.pointer (some ⟨o,0,none⟩)] w λe w'=>e=.returned (.tuple #[])/\Hid (R w'):=by
 obtain⟨L,O⟩:=C.out;have Q:= @run_makeMap Tryz.prog;have m:Hid (Below w2.heap.size w2 w2.drew):=(ah _ _).drew;have h:Hid (∀W:World,Below W.heap.size W W.drew):=λW=>(ah _ _).drew;go_enter Tryz.func29,Tryz.ntmps29;rcases P with⟨rfl,D,i⟩|⟨rfl,i⟩
 case' inl=>
  have E:=IG;go_upto_region 2 with fail;rw[<-D,<-i];clear D
 case' inr=>
  have E:=IH d;go_upto_region 2 with fail;rw[<-i]
 all_goals
  clear L O i C E Q;obtain⟨K,N⟩:=p.out;go_upto_region 3 with fail;rw[<-A];clear A K N p;obtain⟨z,M⟩:=j.out _ m.out;obtain⟨g,F,B,l⟩:=u.out _ m.out;unfold tY at F;have t:=ai B;have r:=ai (j.out _ m.out);clear u j;go_region_held3 (λW=>W.cell? ⟨b,2,none⟩=some (.int .i64 c)/\W.cell? ⟨b,3,none⟩=some (.map (some d))) (first|exact r.out|exact t.out) (fail);clear F r B z M;have z:=t.out.1;go_upto_region 4 with fail
  go_region_held3 (λW=>W.cell? ⟨b,2,none⟩=some (.int .i64 c)) (first|exact s.out _ _ l.out (h.out _)|exact s.out _ _ l.out H.out|exact q.out.2) ((first
   | (go_at_call 31;refine(I.out _ _ l.out (h.out _)).mono ?_;rintro e U ⟨y0,y1,y2,ya,yl,yc,rfl,x⟩;have H:=ai ((h.out g).trans (x.out.1.mono (h.out g).size)))
   | (go_at_call 35;refine(J.out _ _ _ _ _ _ _ x.out.2).mono ?_;rintro e V ⟨rfl,q⟩)))
  go_wp2_with fail;exact dO (v:=.tuple #[]) (by simp[results]) rfl ⟨rfl,q.out.1⟩
section
variable {p:mg} {s:Sy} {d:fX} {w:World}
def JM(M:Nat->Prop)(a:Nat)(d b:fX)(w w':World):Prop:=bi (λq=>d.ow q<0) w w'/\(∀q,q<w.heap.size->¬M q->b.ow q=d.ow q)/\(∀q,M q->1<=b.ow q)/\b.k=d.k/\b.es.length<=d.es.length+a/\b.wn<=d.wn+a/\b.bn<=d.bn+a
theorem nh{b:Type}(l:List (Int×b))(k j:Int)(v:b)(c:∀q∈l,q.1≠k):((l++ [(k,v)]).find? λq=>q.1==j)=if j=k then some (k,v)else l.find? λq=>q.1==j:=by
 rw[List.find?_append];by_cases a:j=k
 ·subst a;rw[if_pos rfl,nG.2 λq d=>by simpa using c q d];simp
 ·rw[if_neg a];have:(k==j)=false:=by simpa using λe:k=j=>a e.symm
  simp[this]
def J6(d:fX)(M:Nat->Prop)[DecidablePred M](a:Nat)(k:Int)(q:Nat):Int:=if M q then k else if q=a then -5 else d.ow q
theorem aV.addG(e:aV p s d w){m c:Nat}{nm:ByteArray}{cs:Tc}{M:Nat->Prop}[DecidablePred M](B:P1 p.lo m nm p.room cs [] (d.k+201) M w)(A:∀q,M q->d.ow q=0)(aa:s.ps.length<12/\s.last<90){w':World}(f:bi (λq=>d.ow q=-5) w w')(P:d.ow c≠0->d.ow c=-5)(N:¬M c)(O:p.lo<=c/\c<w'.heap.size)(Q:c≠p.b)(o:w'.heap[p.b]?=some (.cells (dI p {s with last:=s.last+1} {d with po:=some c}) 72))(L:IM w' c (d.l++ [(s.last+1,m)])):aV p {s with last:=s.last+1,ps:=s.ps++ [(s.last+1,nm,cs,[])]} {d with ow:=J6 d M c (s.last+1),po:=some c,l:=d.l++ [(s.last+1,m)]} w':=by
 obtain⟨y,J,z,X,Y,Z⟩:=e.keys;have i:∀b,d.ow b≠0->J6 d M c (s.last+1) b=d.ow b:=λb h=>by
  unfold J6;rw[if_neg λa=>h (A b a)];by_cases g:b=c
  ·subst g;rw[if_pos rfl,P h]
  ·rw[if_neg g]
 have r:∀b,J6 d M c (s.last+1) b≠0->p.lo<=b/\b<w'.heap.size:=λb h=>by
  unfold J6 at h;split at h
  ·rename_i a;have:=P1.lie2 B b a;exact⟨this.1,aM this.2 f.size⟩
  ·split at h
   ·rename_i a;subst a;exact O
   ·exact⟨(e.low b h).1,aM (e.low b h).2 f.size⟩
 have t:∀{t:Int},t≠ -5->∀b,d.ow b=t->¬d.ow b=-5:=λT b g a=>T (g.symm.trans a);have n:∀q∈s.ps,q.1≠s.last+1:=λq j=>by have:=(z q j).2;omega
 have R:∀q∈d.l,q.1≠s.last+1:=λq j=>by
  have K:q.1∈s.ps.map (·.1):=by rw[<-y];exact dy.2 ⟨q,j,rfl⟩
  obtain⟨v,u,g⟩:=dy.1 K;rw[<-g];exact n v u
 obtain⟨y1,y2,W⟩:=e.wyK f (t (by decide)) i (q:=xk p {s with last:=s.last+1} {d with po:=some c}) rfl (oP o).1;obtain⟨H,I⟩:=e.evK f (t (by decide)) i;refine⟨r,o,(i p.b (by rw[e.own];decide)).trans e.own,⟨e.pgK f (t (by decide)) i,e.pg.2⟩,af ⟨c,rfl,(if_neg N).trans (if_pos rfl),Q,L⟩,⟨by simp[y],?_,λq j=>?_,by show 0<=s.last+1;omega,by show s.last+1<=90;omega,by simp;omega⟩,λk b q=>?_,⟨y1,y2,e.wy.2.2.1,e.wy.2.2.2.1,W⟩,e.bdK f (t (by decide)) i rfl (oP o).2,H,e.evt.1,I⟩
 ·simp only[gu,aJ,bP];refine eL.2 ⟨J,by simp,λab U ad V=>?_⟩;obtain⟨v,u,rfl⟩:=dy.1 U;rw[ed.1 V];exact n v u
 ·show 1<=q.1/\q.1<=s.last+1;rcases dp.1 j with a|a
  ·have:=z q a;omega
  ·rw[ed.1 a];show 1<=s.last+1/\s.last+1<=s.last+1;omega
 ·have q:dd (d.l++ [(s.last+1,m)]) k=some b:=q;unfold dd at q;rw[nh _ _ _ _ R]at q;by_cases g:k=s.last+1
  ·subst g;rw[if_pos rfl]at q;obtain rfl:m=b:=by simpa using q
   refine⟨nm,cs,[],?_,(B.kept (S:=λq=>d.ow q=-5) ⟨f.os,f.tape,f.output,f.size,f.block⟩ λb a=>by rw[A b a];decide).mono (λb a=>if_pos a) (ag _) λb a=>r b (by have a:J6 d M c (s.last+1) b=s.last+1:=a;rw[a];omega),aD _⟩;unfold Sy.get;simp only;rw[nh _ _ _ _ n,if_pos rfl];rfl
  ·rw[if_neg g]at q;have C:dd d.l k=some b:=q;have:=(e.key C).1;obtain⟨D,E,F,x,G⟩:=e.psK f (ag _) (t (by omega)) i r C;refine⟨D,E,F,?_,G⟩;unfold Sy.get at x ⊢;simp only;rw[nh _ _ _ _ n,if_neg g];exact x
open Classical in
theorem aV.add(m:aV p s d w)(a:Int){y:Nat}{nm:ByteArray}{cs:Tc}{M:Nat->Prop}(H:P1 p.lo y nm p.room cs [] (d.k+201) M w)(X:∀q,M q->d.ow q=0)(aT:s.ps.length<12/\s.last<90)(ai:d.k<=47000)(bb:d.es.length<=99000):Calls Tryz.prog 29 #[.pointer (some ⟨p.b,0,none⟩),.int .i64 a,.pointer (some ⟨y,0,none⟩)] w λe w'=>e=.returned (.tuple #[])/\Hid (∃B,aV p (s.add a nm cs) B w'/\JM M 1 d B w w'):=by
 obtain⟨aS,am⟩:=m.lo;have L:=m.box;obtain⟨a6,a7,a8,ax⟩:=m.cells;obtain⟨_,_,aG,a9,ba,_⟩:=m.keys;have ad:∀{g:World}{cs:Array Value}{o:Nat},g.heap[p.b]?=some (.cells cs 72)->g.frozen? ⟨p.b,o,none⟩=false:=λe=>by simp[World.frozen?,e]
 obtain⟨c,j,aU,I,aH,aO,N,aJ,O,al⟩:∃c j,((d.po=none/\c=w.heap.size/\j=(w.setCell ⟨p.b,3,none⟩ (.map (some c))).alloc (.map #[] 0))\/(d.po=some c/\j=w))/\j.heap[p.b]?=some (.cells (dI p s {d with po:=some c}) 72)/\IM j c d.l/\bi (λq=>d.ow q=-5) w j/\(c<w.heap.size->d.ow c=-5)/\¬M c/\c≠p.b/\p.lo<=c/\c<j.heap.size:=by
  rcases m.pm with⟨z,t⟩|⟨c,z,t,G,aD⟩
  ·have aL:(w.setCell ⟨p.b,3,none⟩ (.map (some w.heap.size))).heap[p.b]?=some (.cells (dI p s {d with po:=some w.heap.size}) 72):=by
     simp[World.setCell,bK,L,dI]
   have Q:(w.setCell ⟨p.b,3,none⟩ (.map (some w.heap.size))).heap.size=w.heap.size:=by simp[World.setCell]
   have ai:bi (λq=>d.ow q=-5) w ((w.setCell ⟨p.b,3,none⟩ (.map (some w.heap.size))).alloc (.map #[] 0)):=((bH w p.b 3 _).mono λq _ e=>by rw[e];exact m.own).trans (aC ((ah _ _).alloc (ag _) _) λ_=>False) λ_ _ e=>e.elim;refine⟨w.heap.size,_,ae ⟨z,rfl,rfl⟩,(heap_alloc_old _ _ (by rw[Q];exact am)).trans aL,?_,ai,λf=>by omega,λf=>?_,by omega,aS,?_⟩
   ·rw[t];have:=IM.new (w.setCell ⟨p.b,3,none⟩ (.map (some w.heap.size)));rw[Q]at this;exact this
   ·have:=(P1.lie2 H _ f).2;omega
   ·have:=ay (w.setCell ⟨p.b,3,none⟩ (.map (some w.heap.size))) (.map #[] 0);rw[Q]at this;exact(aE.1 this).1
  ·refine⟨c,w,af ⟨z,rfl⟩,?_,aD,bi.refl _ _,λ_=>t,λf=>?_,G,m.low c (by rw[t];decide)⟩
   ·rw[L];unfold dI;rw[z]
   ·have:=X c f;rw[t]at this;cases this
 obtain⟨x,E⟩:∃x,x=j.setCell ⟨p.b,2,none⟩ (.int .i64 (s.last+1)):=⟨_,rfl⟩;have J:x.heap[p.b]?=some (.cells (dI p {s with last:=s.last+1} {d with po:=some c}) 72):=by
  rw[E];simp[World.setCell,bK,I,dI]
 have be:x.heap.size=j.heap.size:=by rw[E];simp[World.setCell]
 have aj:bi (λq=>q=p.b) j x:=by rw[E];exact bH j p.b 2 _
 have aP:bi (λq=>d.ow q=-5) w x:=aO.trans aj λq _ e=>by rw[e];exact m.own
 have aI:IM x c d.l:=aH.kept (aj.block c al.2 O);obtain⟨A,D⟩:∃A:Sy,A={s with last:=s.last+1,ps:=s.ps++ [(s.last+1,nm,cs,[])]}:=⟨_,rfl⟩;obtain⟨r,u⟩:∃r:fX,r={d with ow:=J6 d M c (s.last+1),po:=some c,l:=d.l++ [(s.last+1,y)]}:=⟨_,rfl⟩;have P:dd d.l (s.last+1)=none:=by
  cases e:dd d.l (s.last+1)with
  | none=>rfl
  | some b=>have:=(m.key e).2;omega
 have aN:dd r.l (s.last+1)=some y:=by
  rw[u];show dd (d.l++ [(s.last+1,y)]) (s.last+1)=_;unfold dd at P ⊢;rw[List.find?_append,Option.map_eq_none_iff.1 P];simp
 have aR:A.last=s.last+1:=by rw[D]
 refine DZ p.b y c d.po a s.last (s.last+1) w j x (λy0 y1 y2 ya yl yc g=>∃h:Tc,(h.1=(y0,y1,y2)/\h.2.1=(ya,yc)/\h.2.2.length=yl)/\In g.heap.size g 13 h/\bv 13 h=0/\cn 13 h=cs/\aV p A r g/\bi (λq=>d.ow q=-5) w g) (λg=>aV p A r g/\bi (λq=>d.ow q=-5) w g) (λw'=>∃B,aV p (s.add a nm cs) B w'/\JM M 1 d B w w') (by rw[IntKind.wrap];simp[IntKind.bits,IntKind.signed];omega) am ⟨ax,ad L⟩ aU ⟨ab I 2,ad I⟩ E (λg i=>?_) (λg i=>?_) (λg aw C i=>?_) (λg aw C i=>?_) (λy0 y1 y2 ya yl yc g aK=>?_)
 ·have Z:=fx i J;exact⟨ab Z 2,ab Z 3⟩
 ·obtain⟨S,a0,a1,ap,bg⟩:=(aI.kept (i.block c (by omega))).put P y;have K:S.heap[p.b]?=_:=(ap.block p.b (aM (aE.1 J).1 i.size) O.symm).trans (fx i J);have ak:bi (λq=>d.ow q=-5) w S:=by
   have aQ:bi (λq=>d.ow q=-5) w g:=aP.trans (aC i λ_=>False) λ_ _ e=>e.elim;exact aQ.trans ap λq n e=>by rw[e]at n ⊢;exact N n
  refine⟨S,a0,⟨ab K 2,ab K 3⟩,?_,ak⟩;rw[D,u];exact m.addG H X aT ak (λf=>N (m.low _ f).2) aJ ⟨al.1,by have:=i.size;omega⟩ O K a1
 ·have:=(C.1.later i).cells.2.2.1;rw[aR]at this;exact this
 ·have Y:=C.1.later i;obtain⟨aZ,aA,az,v,R,bf⟩:=Y.ps _ _ aN;have e:A.get (s.last+1)=some (nm,cs,[]):=by
   rw[D];unfold Sy.get;simp only;rw[nh _ _ _ _ λq n=>by have:=(aG q n).2;omega,if_pos rfl];rfl
  rw[e]at v;obtain⟨rfl,rfl,rfl⟩:nm=aZ/\cs=aA/\[]=az:=by
   injection v with v;injection v with z t;injection t with t G;exact⟨z,t,G⟩
  have bd:r.k=d.k:=by rw[u]
  refine(R.state (by omega)).mono ?_;rintro e w' ⟨h,rfl,F⟩;obtain⟨y1,y2,bh,a4,a5⟩:=F.out;exact⟨h.1.1,h.1.2.1,h.1.2.2,h.2.1.1,h.2.2.length,h.2.1.2,rfl,y1,h,⟨rfl,rfl,rfl⟩,y2,a4,a5,Y.later y1,(C.2.trans (aC i λ_=>False) λ_ _ e=>e.elim).trans (aC y1 λ_=>False) λ_ _ e=>e.elim⟩
 ·obtain⟨h,⟨T,U,aF⟩,aW,aX,aY,an,ao⟩:=aK;obtain⟨⟨bj,bk,bl⟩,⟨bm,bn⟩,bo⟩:=h;simp only[fk]at T U;obtain⟨rfl,rfl,rfl⟩:=T;obtain⟨rfl,rfl⟩:=U;subst aF;have aa:r.es=d.es:=by rw[u]
  refine(an.tell pr a (s.last+1) _ _ _ _ _ _ _ (jq aW aX) (by rw[aa];omega)).mono ?_;rintro e w' ⟨rfl,F⟩;obtain⟨aB,v,R⟩:=F.out.up an;rw[aY,D]at v;refine⟨rfl,⟨aB,v,?_⟩,?_⟩
  ·obtain⟨a2,aq,a3,ar,au,av⟩:=R;have V:∀q,q<w.heap.size->¬M q->r.ow q=d.ow q:=λq n f=>by
    rw[u];refine(if_neg f).trans ?_;by_cases e:q=c
    ·rw[if_pos e,e];exact(N (e▸n)).symm
    ·exact if_neg e
   have W:∀q,M q->r.ow q=s.last+1:=λq f=>by
    rw[u];exact if_pos f
   have bc:=ao.size;refine⟨(ao.mono λq _ e=>by rw[e];decide).trans a2 λq n e=>?_,λq n f=>(aq q (by omega)).trans (V q n f),λq f=>?_,by rw[a3,u],by rw[aa]at ar;exact ar,by rw[u]at au;exact au,by rw[u]at av;exact av⟩
   ·by_cases f:M q
    ·rw[W q f]at e;omega
    ·rw[V q n f]at e;exact e
   ·have:=(P1.lie2 H q f).2;rw[aq q (by omega),W q f];omega
  ·have:=v.cells.2.2.1;exact this
end
theorem Bv(c:Nat)(nm:ByteArray)(f g:Int)(h:ByteArray)(xa:Option Addr)(i xc:Nat)(room ne t:Int)(may o:Bool)(w:World)(E:Nat->World->Prop)(R:Int->Int->World->Prop)(af:c<w.heap.size)(T:Hid (w.cell? ⟨c,1,none⟩=some (.int .i64 room)))(K:Hid (∀W,Below w.heap.size w W->Calls Tryz.prog 26 #[.pointer (some ⟨c,0,none⟩),.int .i64 1] W λe w'=>e=.returned (.bool may)/\w'=W))(B:Hid (∀W,Below w.heap.size w W->Calls Tryz.prog 27 #[.pointer (some ⟨c,0,none⟩),.string nm] W λe w'=>e=.returned (.bool o)/\Below W.heap.size W w'))(r:Hid (∀W,Below w.heap.size w W->Calls Tryz.prog 28 #[.string nm,.agg #[.int .i64 f,.int .i64 g,.string h,.slice xa i xc],.int .i64 room] W λe w'=>∃p:Option Addr,e=.returned (.tuple #[.pointer p,.int .i64 ne])/\Hid (Below W.heap.size W w'/\(ne=0->∃b,p=some ⟨b,0,none⟩/\E b w'))))(l:Hid (∀b W,(may && o)=true->ne=0->E b W->Calls Tryz.prog 29 #[.pointer (some ⟨c,0,none⟩),.int .i64 0,.pointer (some ⟨b,0,none⟩)] W λe w'=>e=.returned (.tuple #[])/\Hid (R t 0 w'/\w'.cell? ⟨c,2,none⟩=some (.int .i64 t))))(j:Hid (∀W,Below w.heap.size w W->(may=false->R 0 2 W)/\((may && !o)=true->R 0 4 W)/\((may && o)=true->ne≠0->R 0 ne W))):Calls Tryz.prog 11 #[.pointer (some ⟨c,0,none⟩),.string nm,.agg #[.int .i64 f,.int .i64 g,.string h,.slice xa i xc]] w λe w'=>∃v u,e=.returned (.tuple #[.int .i64 v,.int .i64 u])/\Hid (R v u w'):=by
 go_enter Tryz.func11,Tryz.ntmps11;go_upto_region 1 with fail;generalize P:w.alloc _=I;have y:Hid (Below w.heap.size w I/\I.heap[w.heap.size]?=some (.cells #[.int .i64 f,.int .i64 g,.string h,.slice xa i xc] 30)):=by
  rw[<-P];exact⟨(ah _ _).alloc (ag _) _,ay _ _⟩
 clear P;obtain⟨a,G⟩:∃a,a=w.heap.size:=⟨_,rfl⟩;rw[<-G];have L:Hid (I.heap[a]?=some (.cells #[.int .i64 f,.int .i64 g,.string h,.slice xa i xc] 30)):=by rw[G];exact y.out.2
 have HB:=ai y.out.1;clear G y;go_wp2_with fail;refine(K.out _ HB.out).mono ?_;rintro e am ⟨rfl,Q⟩;obtain rfl:=Q.symm;clear Q K;cases may
 ·have d:=ai ((j.out _ HB.out).1 rfl);clear l j r B;go_wp2_with fail;exact ao (v:=.tuple #[.int .i64 0,.int .i64 2]) (by simp[results,Tryz.results11,go_sem]) rfl ⟨0,2,rfl,d.out⟩
 go_wp2_with fail;refine(B.out _ HB.out).mono ?_;rintro e x ⟨rfl,F⟩;have m:=ai (HB.out.trans (F.mono HB.out.size));have C:=ai (fx F L.out);clear B L HB F;cases o
 ·have d:=ai ((j.out _ m.out).2.1 rfl);clear l j r;go_wp2_with fail;exact ao (v:=.tuple #[.int .i64 0,.int .i64 4]) (by simp[results,Tryz.results11,go_sem]) rfl ⟨0,4,rfl,d.out⟩
 have A:Hid (Below x.heap.size x x.drew):=(ah _ _).drew;have n:=ai (m.out.trans (A.out.mono m.out.size));have D:=ai (fx A.out C.out);have q:Hid (∀W:World,Below w.heap.size w W->W.heap[a]?=some (.cells #[.int .i64 f,.int .i64 g,.string h,.slice xa i xc] 30)->W.cell? ⟨c,1,none⟩=some (.int .i64 room)/\W.cell? ⟨a,0,none⟩=some (.int .i64 f)/\W.cell? ⟨a,1,none⟩=some (.int .i64 g)/\W.cell? ⟨a,2,none⟩=some (.string h)/\W.cell? ⟨a,3,none⟩=some (.slice xa i xc)):=λW ae s=>⟨(ae.cell (p:=⟨c,1,none⟩) af).trans T.out,ab s 0,ab s 1,ab s 2,ab s 3⟩;obtain⟨Z,V,X,O,Y⟩:=q.out x m.out C.out;go_upto_region 5 with fail
 go_region_held3 (λW=>W.cell? ⟨c,1,none⟩=some (.int .i64 room)/\W.cell? ⟨a,0,none⟩=some (.int .i64 f)/\W.cell? ⟨a,1,none⟩=some (.int .i64 g)/\W.cell? ⟨a,2,none⟩=some (.string h)/\W.cell? ⟨a,3,none⟩=some (.slice xa i xc))
  (first|exact q.out _ n.out D.out|exact q.out _ z.out M.out) ((first
   | (go_at_call 28;refine(r.out _ n.out).mono ?_;rintro e ak ⟨aj,rfl,k⟩;have M:=ai (fx k.out.1 D.out);have z:=ai (n.out.trans (k.out.1.mono n.out.size)))))
 have d:=ai (j.out _ z.out);clear Z V X O Y q D n A C m j r M z;by_cases H:ne=0
 ·subst H;obtain⟨b,rfl,N⟩:∃b,aj=some ⟨b,0,none⟩/\Hid (E b ak):=by
   obtain⟨b,aa,ad⟩:=k.out.2 rfl;exact⟨b,aa,ad⟩
  have S:=ai (l.out _ _ rfl rfl N.out);clear l N k d;go_wp2_with fail;refine S.out.mono ?_;rintro e an ⟨rfl,J⟩;have O:=J.out.2;go_wp2_with fail;exact ao (v:=.tuple #[.int .i64 t,.int .i64 0]) (by simp[results,Tryz.results11,go_sem]) rfl ⟨t,0,rfl,J.out.1⟩
 ·have U:=ai (d.out.2.2 rfl H);have al:(ne==0)=false:=by simpa using H
  clear l k d;go_wp2_with fail;exact ao (v:=.tuple #[.int .i64 0,.int .i64 ne]) (by simp[results,Tryz.results11,go_sem]) rfl ⟨0,ne,rfl,U.out⟩
section
variable {p:mg} {s:Sy} {d:fX} {w:World}
theorem FL{n:Nat}(a:s.may n=true):s.ps.length+n<=12/\s.last+n<=90:=by
 unfold Sy.may at a;simp only[aB,bV]at a;omega
theorem aV.start(j:aV p s d w)(nm:ByteArray)(O:nm.size<=9223372036854775807){m:Nat}(x:Tm (m+1))(P:In w.heap.size w (m+1) x)(K:(ap (m+1) x).length<=2097152)(M:d.k<=47000)(J:d.es.length<=99000):Calls Tryz.prog 11 #[.pointer (some ⟨p.b,0,none⟩),.string nm,de (m+1) x] w λe w'=>∃v u,e=.returned (.tuple #[.int .i64 v,.int .i64 u])/\Hid ((u=(s.start p.n p.prog p.room nm (m+1) x).2/\(u=0->v=s.last+1))/\∃i,aV p (s.start p.n p.prog p.room nm (m+1) x).1 i w'/\eT 1 0 d i w w'):=by
 obtain⟨q,f⟩:∃q,q=s.start p.n p.prog p.room nm (m+1) x:=⟨_,rfl⟩;rw[<-f];unfold Sy.start at f;have B:∀a,Below w.heap.size w a->q.1=s->∃i,aV p q.1 i a/\eT 1 0 d i w a:=λa c e=>⟨d,by rw[e];exact j.later c,(dB.later d c).un.mono (aD _) (ag _)⟩;refine Bv p.b nm x.1.1 x.1.2.1 x.1.2.2 x.2.1.1 x.2.2.length x.2.1.2 p.room (fu (m+1) x p.room nm) (s.last+1) (s.may 1) (mF p.n p.prog nm) w (λy a=>∃r,Below w.heap.size w r/\Below r.heap.size r a/\P1 p.lo y nm p.room (cn (m+1) x) [] (d.k+201) (λb=>r.heap.size<=b/\b<a.heap.size) a) (λv u w'=>(u=q.2/\(u=0->v=s.last+1))/\∃i,aV p q.1 i w'/\eT 1 0 d i w w') j.lo.2 j.cells.2.1 (λa c=>(j.later c).mayHave 1 (by decide)) (λa c=>(j.later c).knows nm) (λa c=>?_) (λy a l t L=>?_) λa c=>⟨λe=>?_,λe=>?_,λe t=>?_⟩
 ·refine(P1.new m x p.room nm a O ((P.below c).mono c.size) K).mono ?_;rintro e w' ⟨g,rfl,z⟩;obtain⟨o,E,C⟩:=z.out;refine⟨g,rfl,o,λe=>?_⟩;obtain⟨y,l,t,V,G⟩:=C e;have:=j.lo.1;have:=c.size;exact⟨y,l,a,c,o,G.mono (λb h=>h) (by omega) λb h=>⟨by omega,h.2⟩⟩
 ·simp only[aB]at l;rw[if_neg (by rw[l.1];decide),if_neg (by rw[l.2];decide),if_neg (by rw[t];decide)]at f;obtain⟨r,o,E,C⟩:=L;have A:=o.trans (E.mono o.size);have I:=j.later A;have Z:=o.size;have W:=FL l.1;refine(I.add 0 C (λg h=>?_) (by omega) M J).mono ?_
  ·have:=j.low g;by_cases F:d.ow g=0
   ·exact F
   ·have:=(this F).2;omega
  ·rintro e w' ⟨rfl,z⟩;obtain⟨i,D,H⟩:=z.out;refine⟨rfl,⟨⟨by rw[f],λ_=>rfl⟩,i,by rw[f];exact D,?_⟩,D.cells.2.2.1⟩;obtain⟨Q,R,aa,S,U⟩:=H;have N:bi (λg=>d.ow g≠0) w a:=aC A _;have Y:=A.size;exact⟨N.trans (Q.mono (T:=λg=>d.ow g≠0) λg _ e=>by omega) λg _ e=>e,λg X=>R g (by omega) λh=>by omega,di S,U⟩
 ·rw[if_pos e]at f;exact⟨⟨by rw[f],(λh=>by cases h)⟩,B a c (by rw[f])⟩
 ·simp only[aB,nD]at e;rw[if_neg (by rw[e.1];decide),if_pos e.2]at f;exact⟨⟨by rw[f],(λh=>by cases h)⟩,B a c (by rw[f])⟩
 ·simp only[aB]at e;rw[if_neg (by rw[e.1];decide),if_neg (by rw[e.2];decide),if_pos t]at f;exact⟨⟨by rw[f],λh=>absurd h t⟩,B a c (by rw[f])⟩
end
theorem JZ:(Tryz.prog.info? 83).map (λi=>(i.zero,i.size,i.bytes))=some (some (.pointer none),1,8):=by kernel_rfl
theorem Dr(m:Nat)(pa:Option Addr)(pl pc:Nat)(may:Bool)(room:Int)(w:World)(u x y:Nat->Int)(nm z:Nat->ByteArray)(xa:Nat->Option Addr)(A xc:Nat->Nat)(l:Nat->Bool)(ne:Nat->Int)(r:Nat->List Nat->Value->World->Prop)(N:Nat->Nat->List Nat->Value->World->Prop)(R:Value->Bool->World->Prop)(bF:pl<=1000)(bz:m<w.heap.size)(aK:Hid (w.cell? ⟨m,1,none⟩=some (.int .i64 room)))(X:Hid (∀j,j<pl->∃g,pa=some ⟨g,0,none⟩/\g<w.heap.size/\Hid (w.cell? ⟨g,j*6,none⟩=some (.int .i64 (u j))/\w.cell? ⟨g,j*6+1,none⟩=some (.string (nm j))/\w.cell? ⟨g,j*6+2,none⟩=some (.int .i64 (x j))/\w.cell? ⟨g,j*6+3,none⟩=some (.int .i64 (y j))/\w.cell? ⟨g,j*6+4,none⟩=some (.string (z j))/\w.cell? ⟨g,j*6+5,none⟩=some (.slice (xa j) (A j) (xc j)))))(aN:Hid (Calls Tryz.prog 26 #[.pointer (some ⟨m,0,none⟩),.int .i64 pl] w λe w'=>e=.returned (.bool may)/\w'=w))(Z:Hid (∀j W,j<pl->Below w.heap.size w W->Calls Tryz.prog 27 #[.pointer (some ⟨m,0,none⟩),.string (nm j)] W λe w'=>e=.returned (.bool (l j))/\Below W.heap.size W w'))(aa:Hid (∀j d v W,j<pl->l j=true->Below w.heap.size w W->r j d v W->Calls Tryz.prog 28 #[.string (nm j),.agg #[.int .i64 (x j),.int .i64 (y j),.string (z j),.slice (xa j) (A j) (xc j)],.int .i64 room] W λe w'=>∃p:Option Addr,e=.returned (.tuple #[.pointer p,.int .i64 (ne j)])/\Hid (Below W.heap.size W w'/\(ne j=0->∃k,p=some ⟨k,0,none⟩/\N j k d v w'))))(al:Hid (r 0 [] (.slice none 0 0) w))(q:Hid (∀j d v W E,r j d v W->Below W.heap.size W E->r j d v E))(O:Hid (∀j k d a c g bi W aB E,j<pl->N j k d (.slice a j c) W->Below W.heap.size W aB->aB.grownBy E (Value.slice a j c).ownBlock->((Value.slice a j c).ownBlock=some g\/g=aB.heap.size)->g<E.heap.size->r (j+1) (d++ [k]) (.slice (some ⟨g,0,none⟩) (j+1) bi) E))(L:Hid (∀W,Below w.heap.size w W->(may=false\/∃j,j<pl/\(l j=false\/ne j≠0))->R (.slice none 0 0) false W))(aj:Hid (∀W d a c,Below w.heap.size w W->may=true->(∀j,j<pl->l j=true/\ne j=0)->d.length=pl->W.ownsRow w.heap.size 83 1 (.slice a pl c) pl (d.map tY)->r pl d (.slice a pl c) W->R (.slice a pl c) true W)):Calls Tryz.prog 36 #[.pointer (some ⟨m,0,none⟩),.slice pa pl pc] w λe w'=>∃v b,e=.returned (.tuple #[v,.bool b])/\Hid (R v b w'):=by
 obtain⟨bA,a4,a7,a8,a9⟩:=bN JZ;have Y:=ai (⟨a4,a7,a8,a9⟩:_/\_/\_/\_);clear a4 a7 a8 a9;go_enter Tryz.func36,Tryz.ntmps36;go_wp2_with fail;refine aN.out.mono ?_;rintro e bJ ⟨rfl,ba⟩;obtain rfl:=ba.symm;clear ba aN;cases may
 ·have n:=ai (L.out _ (ah _ _) (ae rfl));clear L aj O al q aa Z X;go_wp2_with fail;exact ao (v:=.tuple #[.slice none 0 0,.bool false]) (by simp[results,Tryz.results36,go_sem]) rfl ⟨_,_,rfl,n.out⟩
 go_wp2_with fail;go_loopw [6,18] (λo i wr=>∃(j:Nat)(a:Option Addr)(c:Nat),j<=pl/\i=.int .i64 j/\o=.slice a j c/\Hid (∃d,d.length=j/\wr.ownsRow w.heap.size 83 1 (.slice a j c) j (d.map tY)/\r j d (.slice a j c) wr/\Below w.heap.size w wr/\∀i,i<j->l i=true/\ne i=0)) (λ_ i _=>pl-(intOf i).toNat)
 case atStart=>exact⟨0,none,0,aD _,rfl,rfl,[],rfl,ee _ _ _ _,al.out,ah _ _,λi h=>by omega⟩
 case round=>
 obtain⟨j,a,c,bE,rfl,rfl,ad⟩:=hrel;by_cases S:j<pl
 ·obtain⟨g,rfl,bx,aL⟩:=X.out j S;obtain⟨d,Q,T,V,F,U⟩:=ad.out;have aS:=ai T;have aY:=ai V;have HB:=ai F;have aR:=ai U;have bw:=ai Q;have s:∀{f:Nat}{v:Value},w.cell? ⟨g,f,none⟩=some v->wr.cell? ⟨g,f,none⟩=some v:=λ{f v} h=>(F.cell (p:=⟨g,f,none⟩) bx).trans h;obtain⟨aZ,an,ap,a0,a1,a2⟩:=aL.out;have bn:=s aZ;have bo:=s an;have bp:=s ap;have bq:=s a0;have br:=s a1;have bs:=s a2;have bH:(0:Int)<=(j:Int):=by omega
  have bI:(j:Int)<(pl:Int):=by omega
  clear s aZ an ap a0 a1 a2 aL X T V F U Q ad;go_upto_region 7 with fail;generalize bb:wr.alloc _=aq;have G:Hid (Below wr.heap.size wr aq/\aq.heap[wr.heap.size]?=some (.cells #[.int .i64 (u j),.string (nm j),.int .i64 (x j),.int .i64 (y j),.string (z j),.slice (xa j) (A j) (xc j)] 146)):=by
   rw[<-bb];exact⟨(ah _ _).alloc (ag _) _,ay _ _⟩
  clear bb bn bo bp bq br bs;obtain⟨f,aH⟩:∃f,f=wr.heap.size:=⟨_,rfl⟩;rw[<-aH];have ax:Hid (aq.heap[f]?=some (.cells #[.int .i64 (u j),.string (nm j),.int .i64 (x j),.int .i64 (y j),.string (z j),.slice (xa j) (A j) (xc j)] 146)):=by rw[aH];exact G.out.2
  have H:=ai (HB.out.trans (G.out.1.mono HB.out.size));have aV:=ai (q.out _ _ _ _ _ aY.out G.out.1);have aO:=ai (aT aS.out (aC G.out.1 λ_=>False) λ_ _ h=>h);clear aH G aS aY HB;have D:Hid (∀W:World,Below w.heap.size w W->W.heap[f]?=some (.cells #[.int .i64 (u j),.string (nm j),.int .i64 (x j),.int .i64 (y j),.string (z j),.slice (xa j) (A j) (xc j)] 146)->W.cell? ⟨m,1,none⟩=some (.int .i64 room)/\W.cell? ⟨f,1,none⟩=some (.string (nm j))/\W.cell? ⟨f,2,none⟩=some (.int .i64 (x j))/\W.cell? ⟨f,3,none⟩=some (.int .i64 (y j))/\W.cell? ⟨f,4,none⟩=some (.string (z j))/\W.cell? ⟨f,5,none⟩=some (.slice (xa j) (A j) (xc j))):=λW aF h=>⟨(aF.cell (p:=⟨m,1,none⟩) bz).trans aK.out,ab h 1,ab h 2,ab h 3,ab h 4,ab h 5⟩;have aE:=(D.out aq H.out ax.out).2.1;have aM:=ai (λW=>Z.out j W S);have au:=ai (λd v W=>aa.out j d v W S);have M:=ai (λW aF e=>L.out W aF (af ⟨j,S,e⟩));have aw:Hid (l j=true->ne j=0->∀i,i<j+1->l i=true/\ne i=0):=λbu bv i bD=>by
   by_cases e:i=j
   ·subst e;exact⟨bu,bv⟩
   ·exact aR.out i (by omega)
  clear Z aa L aj aK aR al;generalize l j=bB at*;generalize ne j=bc at*;go_wp2_with fail;refine(aM.out _ H.out).mono ?_;rintro e ar ⟨rfl,P⟩;have C:=ai (H.out.trans (P.mono H.out.size));have ak:=ai (fx P ax.out);have aA:=ai (q.out _ _ _ _ _ aV.out P);have av:=ai (aT aO.out (aC P λ_=>False) λ_ _ h=>h);clear aM H ax aV aO P aE;cases bB
  ·have n:=ai (M.out _ C.out (ae rfl));clear M au D aA av ak C O q aw;go_wp2_with fail;exact ao (v:=.tuple #[.slice none 0 0,.bool false]) (by simp[results,Tryz.results36,go_sem]) rfl ⟨_,_,rfl,n.out⟩
  have K:Hid (Below ar.heap.size ar ar.drew):=(ah _ _).drew;have J:=ai (C.out.trans (K.out.mono C.out.size));have az:=ai (fx K.out ak.out);have aX:=ai (q.out _ _ _ _ _ aA.out K.out);have aQ:=ai (aT av.out (aC K.out λ_=>False) λ_ _ h=>h);obtain⟨bm,aE,bj,bk,bl,am⟩:=D.out ar C.out ak.out;clear av aA;go_upto_region 9 with fail
  go_region_held3 (λW=>W.cell? ⟨m,1,none⟩=some (.int .i64 room)/\W.cell? ⟨f,1,none⟩=some (.string (nm j))/\W.cell? ⟨f,2,none⟩=some (.int .i64 (x j))/\W.cell? ⟨f,3,none⟩=some (.int .i64 (y j))/\W.cell? ⟨f,4,none⟩=some (.string (z j))/\W.cell? ⟨f,5,none⟩=some (.slice (xa j) (A j) (xc j)))
   (first|exact D.out _ J.out az.out|exact D.out _ I.out aU.out) ((first
    | (go_at_call 28;refine(au.out _ _ _ (by first|rfl|trivial) J.out aX.out).mono ?_;rintro e aJ ⟨bC,rfl,B⟩;have aU:=ai (fx B.out.1 az.out);have I:=ai (J.out.trans (B.out.1.mono J.out.size));have aP:=ai (aT aQ.out (aC B.out.1 λ_=>False) λ_ _ h=>h))))
  clear bm aE bj bk bl am D az J K ak C au aU aX aQ;by_cases aI:bc=0
  ·subst aI;obtain⟨k,rfl,bg⟩:∃k,bC=some ⟨k,0,none⟩/\Hid (N j k d (.slice a j c) aJ):=by
    obtain⟨k,an,ap⟩:=B.out.2 rfl;exact⟨k,an,ap⟩
   have bf:=ai I.out.size;clear M B
   go_wp2_with (first
    | (at_builtin;refine wpList_append_lies _ rfl _ _ 100 rfl w.heap.size 83 bA _ 1 8 Tryz.underlying100 Y.out.1 Y.out.2.1 Y.out.2.2.1 Y.out.2.2.2 rfl (by decide) (.slice a j c) j (d.map tY) rfl (aP.out.alloc _) ⟨aJ.heap.size,0,none⟩ 1 1 [.pointer (some ⟨k,0,none⟩)] rfl rfl (World.news_of_block (cs:= #[.pointer (some ⟨k,0,none⟩)]) (t:=83) (fr:=(0,0)) (ay aJ _)) (by simp[Value.oneCell']) (by decide) (by unfold maxLen;omega) (by omega) (by have:=bf.out;simp;omega) _ rfl ?_;intro bt am bK a6 aG a3 a5;have be:=ai a6;have bh:=ai (O.out _ _ _ _ _ _ am _ _ _ S bg.out ((ah _ _).alloc (ag _) _) aG a3 a5);have bd:=ai (I.out.trans (jg aP.out aG I.out.size));clear a6 aG a3 a5))
   go_roundw
   case rel=>exact⟨j+1,some ⟨bt,0,none⟩,am,by omega,by go_num,rfl,d++ [k],by rw[aW,bw.out];rfl,by rw[gu];exact be.out,bh.out,bd.out,aw.out trivial rfl⟩
   case measure=>simp[intOf];omega
  ·have n:=ai (M.out _ I.out (af aI));have bG:(bc==0)=false:=by simpa using aI
   clear M B O q aw;go_wp2_with fail;exact ao (v:=.tuple #[.slice none 0 0,.bool false]) (by simp[results,Tryz.results36,go_sem]) rfl ⟨_,_,rfl,n.out⟩
 ·obtain rfl:j=pl:=by omega
  obtain⟨d,Q,T,V,F,U⟩:=ad.out;have n:=ai (aj.out _ d _ _ F trivial U Q T V);clear L aj O al q aa Z X ad Q T V F U;go_wp2_with fail;exact ao (v:=.tuple #[.slice a j c,.bool true]) (by simp[results,Tryz.results36,go_sem]) rfl ⟨_,_,rfl,n.out⟩
def xo(K:Nat)(b:List (Int×Tc))(c:List (Int×ByteArray×Tc))(a:List Int):Prop:=(b.length<=K/\c.length<=K/\a.length<=K)/\(∀x∈b,cY x.1)/\∀x∈a,cY x
theorem Cp{b:List Tc}{self:Int}{n:Nat}{x:Tm n}{u:Int}(a:kS b self n x=some u):cY u:=by
 unfold kS p8 at a;cases f:vl 13 b self n x with
 | none=>rw[f]at a;cases a
 | some e=>
  rw[f,dr]at a;by_cases d:bv (13+n) e=0
  ·rw[if_pos d,dr]at a;by_cases c:(cn (13+n) e).1.1=3
   ·rw[if_pos c]at a;obtain rfl:=aq a;have h:aA ⟨13,cn (13+n) e⟩:=aI.2 (bt.1 (sD d)).1;have g:=h _ (lj);simp only[bQ,c]at g;simp[kC]at g;unfold cY;omega
   ·rw[if_neg c]at a;cases a
  ·rw[if_neg d]at a;cases a
theorem JU{self:Int}{n K:Nat}{a:Ac (n+1)}{d e:Dg}(b:sF self a d=some e)(k:xo K d.sends d.spawns d.links):xo (K+1) e.sends e.spawns e.links:=by
 unfold sF at b;obtain⟨⟨o,p,q⟩,f,g⟩:=k;split at b
 ·obtain⟨m,h,b⟩:=bz.1 b;obtain⟨t,l,rfl⟩:=cG.1 b;refine⟨⟨by simp;omega,by simp;omega,by simp;omega⟩,λj i=>?_,g⟩;rcases dp.1 i with c|c
  ·exact f j c
  ·rw[ed.1 c];exact Cp h
 ·split at b
  ·obtain⟨t,l,b⟩:=bz.1 b;split at b
   ·obtain rfl:=aq b;exact⟨⟨by simp;omega,by simp;omega,by simp;omega⟩,f,g⟩
   ·cases b
  ·split at b
   ·obtain⟨m,h,rfl⟩:=cG.1 b;refine⟨⟨by simp;omega,by simp;omega,by simp;omega⟩,f,λj i=>?_⟩;rcases dp.1 i with c|c
    ·exact g j c
    ·rw[ed.1 c];exact Cp h
   ·obtain rfl:=aq b;exact⟨⟨by simp;omega,by simp;omega,by simp;omega⟩,f,g⟩
theorem Fe{self:Int}{n:Nat}:(l:List (Ac (n+1)))->{K:Nat}->{d b:Dg}->qq self l d=some b->xo K d.sends d.spawns d.links->xo (K+l.length) b.sends b.spawns b.links
 | [],K,d,b,c,hk=>by
  obtain rfl:=aq c;exact hk
 | a::l,K,d,b,c,hk=>by
  unfold qq at c;obtain⟨e,f,c⟩:=bz.1 c;have:=Fe l c (JU f hk);rw[aZ,show K+(l.length+1)=K+1+l.length by omega];exact this
theorem clsC_mem{n:Nat}{s m:Tc}:(l:List (Cl (n+1)))->{y:Cl (n+1)×List Tc}->nR s m l=some y->y.1∈l
 | [],y,h=>by simp[nR]at h
 | c::l,y,h=>by
  unfold nR at h;cases e:lG c s m with
  | none=>
   rw[e]at h;exact bU _ (clsC_mem l h)
  | some b=>
   rw[e]at h;obtain rfl:=aq h;exact lj
theorem BV{n:Nat}{l:List (Cl (n+1))}{s:Tc}:(ms:List Tc)->(i:Nat)->{x:Nat×Cl (n+1)×List Tc}->uz l s ms i=some x->x.2.1∈l
 | [],i,x,h=>by simp[uz]at h
 | m::ms,i,x,h=>by
  unfold uz at h;cases e:nR s m l with
  | none=>
   rw[e]at h;exact BV ms (i+1) h
  | some y=>
   rw[e]at h;obtain rfl:=aq h;exact clsC_mem l e
theorem pe{n:Nat}{name:ByteArray}:(l:List (Bh n))->{b:Bh n}->fY n name l=some b->b∈l/\b.1=name
 | [],b,h=>by simp[fY]at h
 | c::l,b,h=>by
  unfold fY at h;split at h
  ·rename_i e;obtain rfl:=aq h;exact⟨lj,e⟩
  ·exact⟨bU _ (pe l h).1,(pe l h).2⟩
theorem AJ{n:Nat}{prog:List (Bh (n+1))}(c:jm (n+1) prog=true){nm:ByteArray}(d:mF n prog nm=true):nm.size<=2048:=by
 obtain⟨b,g⟩:=gA.1 d;obtain⟨e,f⟩:=pe prog g;unfold jm at c;simp only[aB,bT]at c;have a:=c.2 b e;unfold sj at a;simp only[aB]at a;rw[<-f];exact uO a.1.1.1
theorem Gs{n:Nat}{room:Int}{l:List (Bh (n+1))}(j:jm (n+1) l=true){name:ByteArray}{self next:Int}{s:Tc}{ms:List Tc}{f:Tk}(e:mQ room l name self next s ms=some f):xo 8 f.sends f.spawns f.links:=by
 unfold mQ at e;obtain⟨c,p,e⟩:=bz.1 e;obtain⟨y,u,rfl⟩:=cG.1 e;have a:=BV ms 0 p;have r:c.2.1.2.2.length<=8:=by
  unfold gI at a;cases g:fY (n+1) name l with
  | none=>rw[g]at a;simp at a
  | some b=>
   rw[g]at a;have a:c.2.1∈b.2.2:=a;unfold jm at j;simp only[aB,bT]at j;have h:=j.2 b (pe l g).1;unfold sj at h;simp only[aB,bT]at h;have k:=h.2 _ a;unfold qS at k;simp only[aB,bV]at k;omega
 have i:xo 8 [] [] []:=⟨⟨by simp,by simp,by simp⟩,by simp,by simp⟩;unfold eP;cases hd:qq self c.2.1.2.2 ⟨c.2.2,next,[],[],[],false⟩with
 | none=>exact i
 | some d=>
  have o:xo 8 d.sends d.spawns d.links:=by
   obtain⟨⟨v,w,x⟩,q⟩:=Fe _ (K:=0) hd ⟨⟨by simp,by simp,by simp⟩,by simp,by simp⟩;exact⟨⟨by omega,by omega,by omega⟩,q⟩
  cases m:p8 d.b self (n+1) c.2.1.1.2.2 with
  | none=>simp only[m];exact i
  | some t=>
   simp only[m];split
   ·exact o
   ·exact i
theorem tm{c:Type}(f:c->List Value)(k:Nat)(b:∀a,(f a).length=k):(l:List c)->(i:Nat)->(a:c)->l[i]?=some a->∀(t:Nat)(u:Value),(f a)[t]?=some u->(l.flatMap f)[i*k+t]?=some u
 | [],i,a,h,_,_,_=>by simp at h
 | x::l,0,a,h,t,u,hu=>by
  simp at h;subst h;rw[bj,cV (by have:=(aK.1 hu).1;omega)];simpa using hu
 | x::l,i+1,a,h,t,u,hu=>by
  rw[bj,dM (by rw[b,hH];omega),b,show (i+1)*k+t-k=i*k+t by rw[hH];omega];exact tm f k b l i a (by simpa using h) t u hu
theorem pK{w:World}{base:Nat}{e:TypeId}{k:Nat}{v:Value}{n:Nat}{p:Type}{f:p->List Value}{l:List p}(j:w.ownsRow base e k v n (l.flatMap f))(A:0<k)(m:∀d,(f d).length=k):∃a c,v=.slice a n c/\(∀b,a=some b->v.ownBlock=some b.block)/\∀(i:Nat)(d:p),l[i]?=some d->∃g,a=some ⟨g,0,none⟩/\g<w.heap.size/\∀(t:Nat)(u:Value),(f d)[t]?=some u->w.cell? ⟨g,i*k+t,none⟩=some u:=by
 have r:=j;rcases j.2 with⟨rfl,q⟩|⟨g,c,C,rfl,D,z,F⟩
 ·refine⟨none,0,by rw[q],(λb e=>by cases e),λi d o=>?_⟩;have s:=tm f k m l i d o 0 _ (az (by rw[m];exact A));have E:=(aK.1 s).1;have x:=j.1;rw[q,Nat.zero_mul]at x;omega
 ·refine⟨_,c,rfl,(λb e=>by cases e;rfl),λi d o=>⟨g,rfl,(aE.1 z).1,λt u B=>?_⟩⟩;have y:=World.ownsRow.cells r (g:=g) rfl _ _ (tm f k m l i d o t u B);rwa [show∀h,(⟨g,0,none⟩:Addr).add h=⟨g,h,none⟩from λh=>by cases h<;>simp[Addr.add]]at y
def eF(n:Nat)(x:Tm (n+1)):ByteArray:=if x.1.1=4 then match x.2.2[0]? with|some a=>if bD ⟨n,a⟩=2 then (ib n a).1.2.2 else .empty|none=> .empty else .empty
def bA(n:Nat)(x:Tm (n+1)):List (Tm n):=if x.1.1=4 then match x.2.2[0]? with|some a=>if bD ⟨n,a⟩=2 then x.2.2.drop 1 else []|none=> []else []
def qX(a s:ByteArray):Bool:=a.toList==s.toList
def BR:(n:Nat)->Tm n->List (Tm (n-1))
 | 0,_=> []
 | _+1,x=>x.2.2
def uN(n:Nat)(x:Tm n):ByteArray:=(ib n x).1.2.2
def wF(M n:Nat)(a b c:Tm n):Option (Ac (M+1)):=if bD ⟨n,a⟩=2/\bD ⟨n,c⟩=5 then some (2,(zT M,aH (M+1) n b),(uN n a,nT n c))else none
def iT(M n:Nat)(d:ByteArray)(q:List (Tm n)):Option (Ac (M+1)):=
 if (qX d iB && decide (q.length=2))=true then (q[0]?).bind λa=>(q[1]?).bind λb=>some (1,(aH (M+1) n a,aH (M+1) n b),(.empty,0))
 else if (qX d iX && decide (q.length=3))=true then (q[0]?).bind λa=>(q[1]?).bind λb=>(q[2]?).bind λc=>wF M n a b c
 else if (qX d lZ && decide (q.length=1))=true then (q[0]?).bind λa=>some (3,(aH (M+1) n a,zT M),(.empty,0))
 else if (qX d l9 && decide (q.length=0))=true then some (4,(zT M,zT M),(.empty,0))else none
def qz(M:Nat):(n:Nat)->Tm n->Option (Ac (M+1))
 | 0,_=>none
 | n+1,x=>iT M n (eF n x) (bA n x)
def qA(M n:Nat)(e:ByteArray)(q:List (Tm n)):Option (Cl (M+1)):=
 if (qX e BH && decide (q.length=4))=true then (q[0]?).bind λa=>(q[1]?).bind λb=>(q[2]?).bind λc=>(q[3]?).bind λd=>
  if bD ⟨n,c⟩=4 then (cB (qz M (n-1)) (BR n c)).map λl=>((aH (M+1) n a,aH (M+1) n b,aH (M+1) n d),(none,0),l)else none
 else none
def wE(M:Nat):(n:Nat)->Tm n->Option (Cl (M+1))
 | 0,_=>none
 | n+1,x=>qA M n (eF n x) (bA n x)
def rC(M n:Nat)(b:ByteArray)(q:List (Tm n)):Option (Bh (M+1)):=
 if qX b mR=true then (q[0]?).bind λa=>if bD ⟨n,a⟩=2 then (cB (wE M n) (q.drop 1)).map λl=>(uN n a,(none,0),l)else none
 else none
def wC(M:Nat):(n:Nat)->Tm n->Option (Bh (M+1))
 | 0,_=>none
 | n+1,x=>rC M n (eF n x) (bA n x)
def yY(M:Nat):(n:Nat)->Tm n->Option (List (Bh (M+1)))
 | 0,_=>none
 | n+1,x=>if qX (eF n x) iz=true then cB (wC M n) (bA n x)else none
def o8{a:Type}(f:a->List Value)(I:Nat->World->a->Prop)(h:(Nat->Prop)->a->Prop)(S:a->a->Prop)(o:Option a)(w:World)(e:Ending)(w':World):Prop:=
 ∃(c:a)(d:Bool),e=.returned (.tuple #[.agg (f c).toArray,.bool d])/\Hid (Below w.heap.size w w'/\d=o.isSome/\I w'.heap.size w' c/\h (λb=>w.heap.size<=b) c/\∀g,o=some g->S c g)
def kh{a:Type}(k:Nat)(f:a->List Value)(I:Nat->World->a->Prop)(i:(Nat->Prop)->a->Prop)(S:a->a->Prop)(o:Option (List a))(w:World)(e:Ending)(w':World):Prop:=
 ∃(l:List a)(d:Option Addr)(c:Nat)(g:Bool),e=.returned (.tuple #[.slice d l.length c,.bool g])/\Hid (Below w.heap.size w w'/\g=o.isSome/\(l.length<=c/\c<=maxLen)/\nX w'.heap.size w' k f (I w'.heap.size w') d l/\rv (i (λb=>w.heap.size<=b)) (λb=>w.heap.size<=b) d l/\∀h,o=some h->dv S l h)
theorem qe{d e:Type}(f:d->Option e)(p:List d)(k:Nat)(x:d)(i:p[k]?=some x)(l:List e)(y:e)(a:cB f (p.take k)=some l)(j:f x=some y):cB f (p.take (k+1))=some (l++ [y]):=by
 rw[dz,i];have key:∀(c:List d)(l:List e),cB f c=some l->cB f (c++ [x])=some (l++ [y]):=by
  intro c
  induction c with
  | nil=>intro l a;simp[cB]at a;subst a;simp[cB,j]
  | cons n c ih=>
   intro l a;simp only[cB]at a;obtain⟨b,g,a⟩:=bz.1 a;obtain⟨m,h,rfl⟩:=cG.1 a;simp only[fB,cB,g,ih m h];rfl
 exact key _ _ a
end Go.Proofs.YtmbjgiaebneodaaGreat
