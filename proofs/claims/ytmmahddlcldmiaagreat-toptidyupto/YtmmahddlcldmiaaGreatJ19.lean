/- Proved here: plain facts and contracts. No condition but what each names. -/
import Derived.Test.YtmmahddlcldmiaaGreatJ18
namespace Go.Proofs.YtmmahddlcldmiaaGreat
open Go.RowKit Go.Proofs.Tryz
set_option maxHeartbeats 2000000
set_option maxRecDepth 100000
section
variable {base pb:Nat} {name:ByteArray} {room:Int} {N:Nat} {s:Tm (N+1)} {ms:List (Tm (N+1))} {xs:List (Wd×Tm (N+1))} {nk:Nat} {M:Nat->Prop} {w:World} {ws:List Wd} {nm:List ByteArray} {sv:Wd} {vs:List Wd} {ma:Option Addr} {mc:Nat} {Mh:Nat->Prop}
def yY(N:Nat)(x:Tm N)(room:Int)(s:Tm N)(ms:List (Tm N)):Int:=if 20<=ms.length then 2 else sE N x room (s::ms)
theorem cH.box0(a:cH base pb name room (N+1) s ms xs nk M w ws nm sv vs ma mc Mh):Mh pb/\pb<w.heap.size:=by
 obtain⟨f,d,e,b,_⟩:=a.heap.box;obtain⟨_,_,_,_,_,_,c,_⟩:=a.heap;exact⟨c,(PL.cells b).2.2.2.2.2⟩
theorem cH.more{v:Wd}{x:Tm (N+1)}(a:cH base pb name room (N+1) s ms [(v,x)] nk M w ws nm sv vs ma mc Mh){g:Option Addr}{h:Nat}{i:World}(C:qP Mh ma (vs++ [v]) w g h i):cH base pb name room (N+1) s (ms++ [x]) [] nk (λb=>M b\/w.heap.size<=b) (i.setCell ⟨pb,7,none⟩ (.slice g (vs++ [v]).length h)) ws nm sv (vs++ [v]) g h Mh/\bT M w (i.setCell ⟨pb,7,none⟩ (.slice g (vs++ [v]).length h)):=by
 obtain⟨E,r,F⟩:=C;obtain⟨q,G⟩:=a.box0;have D:∀d,ma=some d->¬Mh d.block:=λd c f=>by
  rcases a.mail with⟨e,_⟩|⟨m,t,o,l,j,_⟩
  ·rw[e]at c;cases c
  ·rw[l]at c;rw[<-aw c]at f;exact j f
 have A:dH base (PL pb name sv (ae ma vs.length mc)) room ws nm Mh i:=a.heap.kept r λb n _ f=>by
  obtain⟨d,c,rfl⟩:=f;exact D d c n
 have k:=bq i pb 7 (.slice g (vs++ [v]).length h);refine⟨⟨A.turn k λI H mp B=>?_,?_,?_,?_,a.names,λb n=>ah (a.inM b n),λd c=>?_⟩,?_⟩
 ·unfold World.setCell;simp[bJ,B]
 ·rcases E with e|⟨m,t,o,l,j,p,y⟩
  ·exact ah e
  ·exact ai ⟨m,t,o,l,j,(k.block m (aF.1 p).1 λe=>j (by rw[e];exact q)).trans p,y⟩
 ·have:=a.has;simpa using this
 ·simp[a.len]
 ·rcases F d c with⟨u,z,e⟩|e
  ·rw[e];exact ah (a.mailM u z)
  ·exact ai (by omega)
 ·refine bT.trans (r.mono λb f=>?_) k λb _ f=>?_
  ·obtain⟨d,c,rfl⟩:=f;exact a.mailM d c
  ·rw[f];exact a.inM pb q
def Pz(base pb:Nat)(name:ByteArray)(room:Int)(N:Nat)(s:Tm N)(ms:List (Tm N))(x:Tm N)(nk:Nat)(M:Nat->Prop)(w:World)(e:Ending)(w':World):Prop:=
 e=.returned (ab (yY N x room s ms))/\Hid (∃i f g h c d a,cH base pb name room N s (if yY N x room s ms=0 then ms++ [x]else ms) [] (nk+201) (λb=>M b\/w.heap.size<=b) w' i f g h c d a/\bT M w w')
theorem cH.deliver(z:cH base pb name room (N+1) s ms [] nk M w ws nm sv vs ma mc Mh)(x:Tm (N+1))(ax:In w.heap.size w (N+1) x)(ap:ch (λb=>¬M b) (N+1) x)(ag:(ay (N+1) x).length<=2097152)(L:∀b,M b->b<w.heap.size)(ao:nk<=49000)(ad:ms.length<=999)(aK:base<=w.heap.size):ak 85 #[aC pb,dq (N+1) x] w (Pz base pb name room (N+1) s ms x nk M w):=by
 have aN:=z.len;obtain⟨aO,au⟩:=z.box0
 refine(rk pb x.1.1 x.1.2.1 x.1.2.2 x.2.1.1 x.2.2.length x.2.1.2 vs.length mc ma w
  (λh r p q=>r=sE (N+1) x room (s::ms)/\bT M w q/\w.heap.size<=p.heap.size/\∃o m n i g k j,cH base pb name room (N+1) s ms (if r=0 then [(h,x)]else []) (nk+201) (λb=>(M b\/p.heap.size<=b)/\b<q.heap.size) q o m n i g k j)
  (λh p v E F G=>bT M w v/\w.heap.size<=p.heap.size/\∃o m n i g k j,cH base pb name room (N+1) s ms [(h,x)] (nk+201) (λb=>M b\/p.heap.size<=b) v o m n i g k j/\qP j g (i++ [h]) v E F G) au ?_ ?_ ?_).mono ?_
 ·intro q e;obtain⟨X,V,W,f,_⟩:=(z.later e).heap.box;exact(PL.cells f).2.2.2.1
 ·intro p e;have D:=e.size;refine((z.later e).put x ((ax.below e).mono D) ap ag (λb d=>aR (L b d) D) ao ad (by omega)).mono ?_;rintro y q ⟨h,rfl,o,m,n,i,g,k,j,f,u⟩;refine⟨h,_,rfl,⟨u.size,λb aA _ aD=>u.block b aD λd=>?_⟩,rfl,(aZ e M).trans u λ_ _ d=>d,D,o,m,n,i,g,k,_,f.inside⟩;have:=L b d;omega
 ·rintro h p q ⟨J,u,T,o,m,n,i,g,k,j,f⟩;rw[if_pos rfl]at f;have aL:=f.len;have I:i.length=vs.length:=by omega
  refine⟨g,k,λv e=>?_,λv e sa c av=>?_⟩
  ·obtain⟨X,V,W,l,_⟩:=(f.later e).heap.box;rw[I]at l;exact⟨(PL.cells l).2.2.2.1,(PL.cells l).2.2.2.2.1⟩
  ·have t:=f.later e;have D:=e.size;obtain⟨E,F,G,S,C⟩:=tO 100 t.mail (by omega) (λb d=>aR (f.inM b d).2 D) sa c h av;rw[I]at S;have R:∀b,(∃a,g=some a/\b=a.block)->¬j b/\b<q.heap.size:=λb d=>by
    obtain⟨a,A,rfl⟩:=d;refine⟨λZ=>?_,(f.mailM a A).2⟩;rcases f.mail with⟨y,_⟩|⟨aH,aT,aG,r,ab,_⟩
    ·rw[y]at A;cases A
    ·rw[r]at A;rw[<-aw A]at Z;exact ab Z
   obtain⟨aq,ar⟩:=t.box0;have P:G.heap[pb]?=v.heap[pb]? :=C.2.1.block pb ar λd=>(R pb d).1 aq;obtain⟨X,V,W,l,_⟩:=t.heap.box;rw[I]at l;refine⟨E,F,G,S,(bw P 7).trans (PL.cells l).2.2.2.1,λU=>?_,λb aA aB=>C.2.1.block b aB λd=>?_,?_⟩
   ·exact(jn (a:=⟨pb,U,none⟩) P).trans ((PL.cells l).2.2.2.2.1 U)
   ·have:=(R b d).2;omega
   ·exact⟨u.trans (aZ e M) λ_ _ d=>d,T,o,m,n,i,g,k,j,t.mono (λb d=>d.1) (am _),C⟩
 ·rintro y aU ⟨af,l⟩;by_cases K:20<=ms.length
  ·obtain⟨rfl,e⟩:=af (by omega);have B:yY (N+1) x room s ms=2:=by simp[yY,K]
   refine⟨by rw[B],ws,nm,sv,vs,ma,mc,Mh,?_,aZ e M⟩;rw[B];exact(z.later e).mono (λb d=>ah d) (by omega)
  ·obtain⟨h,r,p,q,rfl,e,⟨J,u,T,o,m,n,i,g,k,j,f⟩,an,aj⟩:=l (by omega);have B:yY (N+1) x room s ms=r:=by simp[yY,K,J]
   refine⟨by rw[B],?_⟩;rw[B];by_cases H:r=0
   ·obtain⟨v,E,F,G,aJ,⟨Q,_,aF,az,aE,Y,aQ,aS,aa,t,C⟩,rfl⟩:=aj H;have aM:=t.len;have y:vs.length+1=(Y++ [h]).length:=by simp;omega
    obtain⟨ae,al⟩:=t.more C;rw[y,if_pos H];have aP:=Q.size;refine⟨aF,az,aE,Y++ [h],E,F,aa,ae.mono (λb d=>?_) (am _),Q.trans al λb aI d=>?_⟩
    ·rcases d with(d|d)|d
     ·exact ah d
     ·exact ai (by omega)
     ·exact ai (by omega)
    ·rcases d with d|d
     ·exact d
     ·omega
   ·have O:=an H;rw[if_neg H]at f ⊢;refine⟨o,m,n,i,g,k,j,(f.later O).mono (λb d=>?_) (am _),u.trans (aZ O M) λ_ _ d=>d⟩;rcases d.1 with d|d
    ·exact ah d
    ·exact ai (by omega)
end
theorem Hh(y:ByteArray)(k i:Int)(t:ByteArray)(l:Option Addr)(n m:Nat)(room:Int)(w:World)(r:Bool)(C:Wd->Int->World->World->Prop)(H:Hid (∀w1:World,ak 71 #[af y] w1 λe w'=>e=.returned (.bool r)/\w'=w1))(Q:Hid (r=true->∀w1:World,ak 63 #[af y] w1 λe w'=>e=.returned (af y)/\aj w1 w'))(P:Hid (0<=room/\room<=1000->∀w2,HB (cw.own (w.heap.size+1)) room (ae none 0 0) (ae none 0 0) (.map none) w2->w2.heap.size=w.heap.size+1+1->aj w w2->ak 73 #[.pointer (some ⟨w.heap.size+1,0,none⟩),.agg #[ab k,ab i,af t,ae l n m]] w2 λe b=>∃(v:Wd)(c:Int),e=.returned (.tuple #[.agg #[ab v.1,ab v.2],ab c])/\Hid (∃tv lv mv,b.heap[w.heap.size+1]?=some (.cells #[ab room,tv,lv,mv] 107)/\C v c w2 b))):ak 42 #[af y,.agg #[ab k,ab i,af t,ae l n m],ab room] w λe w'=> (r=false->e=.returned (.tuple #[.pointer none,ab 5])/\aj w w')/\(r=true->¬(0<=room/\room<=1000)->e=.returned (.tuple #[.pointer none,ab 1])/\aj w w')/\ (r=true->0<=room/\room<=1000->∃(v:Wd)(c:Int)(w2 b:World),Hid (aj w w2/\w2.heap.size=w.heap.size+1+1/\C v c w2 b)/\(c≠0->e=.returned (.tuple #[.pointer none,ab c])/\aj b w')/\ (c=0->∃(s:World)(tv lv mv:Value),e=.returned (.tuple #[aC s.heap.size,ab 0])/\aj b s/\b.heap[w.heap.size+1]?=some (.cells #[ab room,tv,lv,mv] 107)/\w'=s.alloc (.cells #[af y,ab room,tv,lv,mv,ab v.1,ab v.2,ae none 0 0] 111))):=by
 have O:=ap (xB w (.cells #[ab k,ab i,af t,ae l n m] 31) rfl);have o:Hid (aj w (w.alloc (.cells #[ab k,ab i,af t,ae l n m] 31))/\(w.alloc (.cells #[ab k,ab i,af t,ae l n m] 31)).heap.size=w.heap.size+1):=⟨by go_grown,by simp⟩;cases r with
 | false=>
  go_enter func42,ntmps42;go_wp2_with (go_at_call 71;refine(H _).mono ?_;rintro e w1 ⟨rfl,rfl⟩);exact av (v:=.tuple #[.pointer none,ab 5]) (by simp[results,results42,go_sem]) rfl ⟨λ_=>⟨rfl,o.1⟩,λa=>(by cases a),λa=>(by cases a)⟩
 | true=>
  have R:=ap (Q rfl);go_enter func42,ntmps42;go_wp2_with (go_at_call 71;refine(H _).mono ?_;rintro e w1 ⟨rfl,rfl⟩);refine(My _ _).mono ?_;rintro e w2 ⟨p,g⟩;by_cases q:0<=room/\room<=1000;rotate_left
  ·obtain⟨rfl,rfl⟩:=p q;clear p g;go_wp2_with fail;exact av (v:=.tuple #[.pointer none,ab 1]) (by simp[results,results42,go_sem]) rfl ⟨λa=>(by cases a),λ_ _=>⟨rfl,o.out.1⟩,λ_ a=>absurd a q⟩
  ·obtain⟨rfl,d⟩:=g q;clear p g;replace d:=ap d;rw[o.out.2]at d;have G:Hid (aj w w2):=o.1.trans (d.2.2.mono (by first|exact fS _|exact o.1.size));have I:=ap (P q w2 d.1 d.2.1 G);have x:Hid (w2.heap[w.heap.size]?=some (.cells #[ab k,ab i,af t,ae l n m] 31)):=(d.2.2.block _ (by have:=o.2;omega)).trans O;have t0:w2.cell? ⟨w.heap.size,0,none⟩=some (ab k):=au x 0;have t1:w2.cell? ⟨w.heap.size,1,none⟩=some (ab i):=au x 1;have t2:w2.cell? ⟨w.heap.size,2,none⟩=some (af t):=au x 2;have t3:w2.cell? ⟨w.heap.size,3,none⟩=some (ae l n m):=au x 3;go_wp2_with fail;refine I.mono ?_;rintro e b ⟨v,c,rfl,F⟩;obtain⟨tv,lv,mv,u,z⟩:=F.out;replace u:=ap u;replace z:=ap (show aj w w2/\w2.heap.size=w.heap.size+1+1/\C v c w2 b from⟨G,d.2.1,z⟩);clear F I t0 t1 t2 t3 x d;by_cases E:c=0;rotate_left
   ·have S:¬(0:Int)=c:=λe=>E e.symm;go_wp2_with fail;exact av (v:=.tuple #[.pointer none,ab c]) (by simp[results,results42,go_sem]) rfl ⟨λa=>(by cases a),λ_ a=>absurd q a,λ_ _=>⟨v,c,w2,b,z,λ_=>⟨rfl,aO⟩,λa=>absurd a E⟩⟩
   ·subst E;go_wp2_with fail;have J:Hid (∃j h,(j=b.alloc (.cells #[ab v.1,ab v.2] 109)/\h=b.heap.size)/\aj b j/\j.heap[h]?=some (.cells #[ab v.1,ab v.2] 109)):=⟨_,_,⟨rfl,rfl⟩,aO,aA _ _⟩;obtain⟨j,h,⟨N,M⟩,f⟩:=J.out;rw[<-N,<-M];replace f:=ap f;clear N M J;have B:Hid (∀w':World,aj j w'->w'.cell? ⟨w.heap.size+1,0,none⟩=some (ab room)/\w'.cell? ⟨w.heap.size+1,1,none⟩=some tv/\w'.cell? ⟨w.heap.size+1,2,none⟩=some lv/\w'.cell? ⟨w.heap.size+1,3,none⟩=some mv/\w'.cell? ⟨h,0,none⟩=some (ab v.1)/\w'.cell? ⟨h,1,none⟩=some (ab v.2)):=λw' a=>by
     have p:=(a.block h (aF.1 f.2).1).trans f.2;have L:=(aF.1 u).1;have g:=(a.block _ (aR L f.1.size)).trans ((f.1.block _ L).trans u);exact⟨au g 0,au g 1,au g 2,au g 3,au p 0,au p 1⟩
    obtain⟨T,U,V,W,X,Y⟩:=B.out j (ao _ _);have D:Hid (aj j j.drew):=(ao _ _).drew
    go_region_held3 (λw'=>w'.cell? ⟨w.heap.size+1,0,none⟩=some (ab room)/\w'.cell? ⟨w.heap.size+1,1,none⟩=some tv/\w'.cell? ⟨w.heap.size+1,2,none⟩=some lv/\w'.cell? ⟨w.heap.size+1,3,none⟩=some mv/\w'.cell? ⟨h,0,none⟩=some (ab v.1)/\w'.cell? ⟨h,1,none⟩=some (ab v.2)) (first|(go_keep;done)|with_reducible exact B _ D|exact B _ A|exact B _ (A.trans (aO.mono A.size)))
     ((go_at_call 63;refine(R _).mono ?_;rintro e s ⟨rfl,K⟩;have A:=ap (D.trans (K.mono D.size));clear K))
    go_wp2_with fail;exact av (v:=.tuple #[aC s.heap.size,ab 0]) (by simp[results,results42,go_sem]) rfl ⟨λa=>(by cases a),λ_ a=>absurd q a,λ_ _=>⟨v,0,w2,b,z,λa=>absurd rfl a,λ_=>⟨s,tv,lv,mv,rfl,f.out.1.trans (A.out.mono f.out.1.size),u.out,rfl⟩⟩⟩
def fY(N:Nat)(x:Tm N)(room:Int)(name:ByteArray):Int:=if dQ name=false then 5 else if¬(0<=room/\room<=1000)then 1 else jN N x room []
def OY(N:Nat)(x:Tm N)(room:Int)(name:ByteArray)(w:World)(e:Ending)(w':World):Prop:=
 (fY N x room name≠0->e=.returned (.tuple #[.pointer none,ab (fY N x room name)])/\aj w w')/\
 (fY N x room name=0->∃a,e=.returned (.tuple #[aC a,ab 0])/\Hid (w.heap.size<=a/\aj w w'/\∃g d f c,cH w.heap.size a name room N x [] [] 201 (λb=>w.heap.size<=b/\b<w'.heap.size) w' g d f [] none 0 c))
theorem xy{s:ByteArray}(a:dQ s=true):s.size<=2048:=by
 simp only[dQ,qK,aG,cd]at a;omega
theorem In.offBelow{B:Nat}{w:World}:{n:Nat}->{x:Tm n}->In B w n x->ch (λb=>b<B) n x
 | 0,_,k=>k
 | _+1,_,k=>by
  obtain⟨_,a⟩:=k;rcases a with a|⟨b,o,e,c,a⟩
  ·exact ah a
  ·exact ai ⟨b,o,e,c,λi y d=>(a i y d).2.offBelow⟩
theorem BO(N:Nat)(x:Tm (N+1))(room:Int)(name:ByteArray)(w:World)(av:name.size<=9223372036854775807)(O:In w.heap.size w (N+1) x)(al:(ay (N+1) x).length<=2097152):ak 42 #[af name,dq (N+1) x,ab room] w (OY (N+1) x room name w):=by
 refine(Hh name x.1.1 x.1.2.1 x.1.2.2 x.2.1.1 x.2.2.length x.2.1.2 room w (dQ name) (λe l o p=>aj w p/\yD (N+1) x w.heap.size (cw.own (w.heap.size+1)) room [] [] (λb=>b=w.heap.size+1) e l o p) ?_ ?_ ?_).mono ?_
 ·intro D;exact iP name D av
 ·intro a D;exact dR name D (xy a)
 ·intro d o H aJ m;have s:=m.size;have aa:dH w.heap.size (cw.own (w.heap.size+1)) room [] [] (λb=>b=w.heap.size+1) o:=⟨ae none 0 0,ae none 0 0,.map none,H,eK _ _ _ _,⟨eK _ _ _ _,by simp,ah ⟨rfl,rfl,rfl⟩⟩,rfl,λb f=>by simp[Value.ownBlock]at f,λb f=>by simp[Value.ownBlock]at f,λb f=>by simp[mapBlock]at f⟩;refine(uT (N+1) x w.heap.size (cw.own (w.heap.size+1)) room [] [] (λb=>b=w.heap.size+1) o aa ((O.below m).mono s) ((In.offBelow O).mono λb c f=>by omega) al s d.1 d.2 (by simp) (by simp)).mono ?_;intro f p au;obtain⟨e,l,rfl,i⟩:=zC au;have I:∀{E:Nat->Prop},bT E o p->(∀b,E b->w.heap.size<=b)->aj w p:=λk am=>⟨k.os.trans m.os,k.tape.trans m.tape,k.output.trans m.output,az s k.size,λb L=>(k.block b (aR L s) λc=>by have:=am b c;omega).trans (m.block b L)⟩;refine⟨e,l,rfl,?_⟩;by_cases g:l=0
  ·obtain⟨_,_,t,P⟩:=i.2.2 g;obtain⟨C,A,B,ag,_⟩:=t;exact⟨C,A,B,ag.2,I P λb c=>by omega,i⟩
  ·have n:=(i.2.1 g).2;exact⟨_,_,_,(n.block _ (by omega)).trans H.2,I (aZ n λ_=>False) λb c=>c.elim,i⟩
 ·rintro f aM ⟨X,Y,Z⟩;cases hn:dQ name with
  | false=>
   have h:fY (N+1) x room name=5:=by simp[fY,hn]
   refine⟨λ_=>by rw[h];exact X hn,λa=>by rw[h]at a;cases a⟩
  | true=>
   by_cases d:0<=room/\room<=1000;rotate_left
   ·have h:fY (N+1) x room name=1:=by simp[fY,hn,d]
    refine⟨λ_=>by rw[h];exact Y hn d,λa=>by rw[h]at a;cases a⟩
   ·obtain⟨e,l,o,p,Q,d1,d2⟩:=Z hn d;obtain⟨aG,aK,n,i⟩:=Q;have h:fY (N+1) x room name=l:=by rw[i.1];simp[fY,hn,d]
    have M:=n.size;rw[OY,h];refine⟨λg=>⟨(d1 g).1,n.trans ((d1 g).2.mono M)⟩,λg=>?_⟩;obtain⟨j,C,A,B,rfl,r,J,rfl⟩:=d2 g;have aI:=r.size;obtain⟨K,ax,t,P⟩:=i.2.2 g;have aq:=t.nodup;have ad:=(t.later r);obtain⟨y,u,v,R,S,T,aE,U,V,W⟩:=ad;have ao:=(aF.1 J).1;have F:(Obj.cells #[ab room,y,u,v] 107)=(Obj.cells #[ab room,C,A,B] 107):=aw (R.2.symm.trans ((r.block _ ao).trans J));simp only[Obj.cells.injEq,Array.mk.injEq,kI,and_true,true_and]at F;obtain⟨rfl,rfl,rfl⟩:=F;have z:aj j (j.alloc (.cells #[af name,ab room,y,u,v,ab e.1,ab e.2,ae none 0 0] 111)):=aO;have aB:(j.alloc (.cells #[af name,ab room,y,u,v,ab e.1,ab e.2,ae none 0 0] 111)).heap.size=j.heap.size+1:=by simp
    refine⟨j.heap.size,rfl,by omega,(n.trans (r.mono M)).trans (z.mono (by omega)),(aW (N+1) x [] []).2.1,(aW (N+1) x [] []).2.2,e,λb=>b=j.heap.size\/(w.heap.size<=b/\b<j.heap.size),?_⟩;have an:jX (N+1) [] [] room [] ([]:List (Tm (N+1))):=⟨⟨rfl,λaL e aC a=>by simp at a⟩,by simp,λaC a=>by simp at a,by simp,by simp;exact d.1,d.1,d.2,by simp⟩;have ap:=an.lay x K aq;have ar:=(iQ (N+1) x [] []).2;have aH:=nX K.1;simp only[iw]at ar;refine⟨⟨y,u,v,⟨⟨rfl,ai rfl⟩,aA _ _⟩,dW S (aZ z λ_=>False) (λ_ _ c=>c),T.kept (aZ z λ_=>False) (λ_ _ c=>c) (λ_ _ c=>c),ah rfl,λb c=>ai ?_,λb c=>ai ?_,λb c=>ai ?_⟩,ah ⟨rfl,rfl,rfl⟩,?_,rfl,by omega,λb c=>?_,λaD a=>by cases a⟩
    ·have a:=U b c;have G:=a.2;rcases a.1 with q|q<;>exact⟨by omega,by omega⟩
    ·have a:=V b c;have G:=a.2;rcases a.1 with q|q<;>exact⟨by omega,by omega⟩
    ·have a:=W b c;have G:=a.2;rcases a.1 with q|q<;>exact⟨by omega,by omega⟩
    ·rw[ax];exact ap
    ·rw[aB];rcases c with c|c<;>exact⟨by omega,by omega⟩
def uf(w:World)(c:Nat)(a b:Int):World:=(w.setCell ⟨c,5,none⟩ (ab a)).setCell ⟨c,6,none⟩ (ab b)
def Px(b d e:Nat)(t0 t1:Int)(t2:ByteArray)(g:Option Addr)(i h:Nat)(s0 s1:Int)(f:ByteArray)(sa:Option Addr)(sl sc:Nat)(W:World):Prop:=
 W.heap[d]?=some (.cells #[ab t0,ab t1,af t2,ae g i h] 31)/\W.heap[e]?=some (.cells #[ab s0,ab s1,af f,ae sa sl sc] 31)/\(∃a,W.cell? ⟨b,5,none⟩=some (ab a))/\(∃a,W.cell? ⟨b,6,none⟩=some (ab a))/\∀c,W.frozen? ⟨b,c,none⟩=false
theorem AB(t0 t1:Int)(t2:ByteArray)(m:Option Addr)(o n:Nat)(c:Nat)(w:World)(S:Int->Int->ByteArray->Option Addr->Nat->Nat->World->Prop)(P1:World->Wd->Int->World->Prop)(R:Bool->World->Prop)(aH:Hid (∀W,aj w W->ak 34 #[aC c] W λe w'=>∃s0 s1 h sa sl sc,e=.returned (.agg #[ab s0,ab s1,af h,ae sa sl sc])/\Hid (aj W w'/\S s0 s1 h sa sl sc w')))(az:Hid (∀W,aj w W->(∃a,W.cell? ⟨c,5,none⟩=some (ab a))/\(∃a,W.cell? ⟨c,6,none⟩=some (ab a))/\(∀j,W.frozen? ⟨c,j,none⟩=false)/\c<w.heap.size))(aG:Hid (∀s0 s1 h sa sl sc aO H g i,S s0 s1 h sa sl sc aO->aj aO H->aj w H->w.heap.size<=g->w.heap.size<=i->Px c g i t0 t1 t2 m o n s0 s1 h sa sl sc (uf H c 1 0)->ak 123 #[aC c,.agg #[ab t0,ab t1,af t2,ae m o n]] (uf H c 1 0) λe w'=>∃(v:Wd)(r:Int),e=.returned (.tuple #[.agg #[ab v.1,ab v.2],ab r])/\Hid (Px c g i t0 t1 t2 m o n s0 s1 h sa sl sc w'/\P1 H v r w'/\ (r=0->∀W,aj w' W->R true (uf W c v.1 v.2))/\ (r≠0->∀W d,aj w' W->w'.heap.size<=d->d<W.heap.size->ak 123 #[aC c,.agg #[ab s0,ab s1,af h,ae sa sl sc]] W λe L=>∃(v2:Wd)(aP:Int),e=.returned (.tuple #[.agg #[ab v2.1,ab v2.2],ab aP])/\Hid ((∀a4,W.heap[d]?=some a4->L.heap[d]?=some a4)/\((∃a,L.cell? ⟨c,5,none⟩=some (ab a))/\(∃a,L.cell? ⟨c,6,none⟩=some (ab a))/\∀j,L.frozen? ⟨c,j,none⟩=false)/\∀aN,bt (λb=>b=d) L aN->R false (uf aN c v2.1 v2.2)))))):ak 118 #[aC c,.agg #[ab t0,ab t1,af t2,ae m o n]] w λe w'=>∃t,e=.returned (.bool t)/\Hid (R t w'):=by
 have aJ:Hid (∃Y l,(Y=w.alloc (.cells #[ab t0,ab t1,af t2,ae m o n] 31)/\l=w.heap.size)/\aj w Y/\Y.heap[l]?=some (.cells #[ab t0,ab t1,af t2,ae m o n] 31)/\w.heap.size<=l):=⟨_,_,⟨rfl,rfl⟩,(ao _ _).alloc (am _) _,aA _ _,am _⟩;go_enter func118,ntmps118;go_wp2_with fail;obtain⟨Y,g,⟨a0,aZ⟩,aR,J,aW⟩:=aJ.out;rw[<-a0,<-aZ];have aa:=ap aR;have x:=ap J;have aB:=ap aW;clear a0 aZ aR J aW aJ;refine(aH _ aa).mono ?_;rintro e Z ⟨s0,s1,h,sa,sl,sc,rfl,M⟩;have O:=ap (aa.trans (M.1.mono aa.size));have aK:Hid (∃k l,(k=Z.alloc (.cells #[ab s0,ab s1,af h,ae sa sl sc] 31)/\l=Z.heap.size)/\aj Z k/\k.heap[l]?=some (.cells #[ab s0,ab s1,af h,ae sa sl sc] 31)/\w.heap.size<=l/\k.heap[g]?=some (.cells #[ab t0,ab t1,af t2,ae m o n] 31)):=by
  have bc:=(aF.1 x).1;have aQ:=(M.1.block g bc).trans x;exact⟨_,_,⟨rfl,rfl⟩,(ao _ _).alloc (am _) _,aA _ _,O.size,(((ao _ _).alloc (am _) _).block g (aF.1 aQ).1).trans aQ⟩
 have aI:=ap M.2;clear M aH x;go_upto_region 2 with fail;obtain⟨k,i,⟨a1,s⟩,ar,aT,aX,J⟩:=aK.out;rw[<-a1,<-s];have ad:=ap (O.trans (ar.mono O.size));have ay:=ap ar;have al:=ap aT;have x:=ap J;have aD:=ap aX;clear a1 s ar aT aX J aK;obtain⟨⟨bj,a7⟩,⟨bk,a8⟩,T,bo⟩:=az.out k ad;have f5:=T 5;have f6:=T 6;have u:Hid (Px c g i t0 t1 t2 m o n s0 s1 h sa sl sc (uf k c 1 0)):=by
  have aV:bt (λb=>b=c) k (uf k c 1 0):=bt.trans (bC k c 5 _) (bC _ c 6 _) λ_ _ e=>e;refine⟨(aV.block g (aF.1 x).1 (by have:=aB.out;omega)).trans x,(aV.block i (aF.1 al).1 (by have:=aD.out;omega)).trans al,⟨1,?_⟩,⟨0,?_⟩,λj=>?_⟩
  ·exact(dz 5 (by decide)).trans (gY _ _ _ a7)
  ·exact gY _ _ _ ((dz 6 (by decide)).trans a8)
  ·unfold uf;rw[gI,gI];exact T j
 have ai:=ap (aG s0 s1 h sa sl sc Z k g i aI ay ad aB aD u);clear aG T az;go_upto_region 3 with fail;obtain⟨E,V⟩:∃E,E=uf k c 1 0:=⟨_,rfl⟩;rw[<-V]at ai u;unfold uf at V;rw[<-V];have bf:E.cell? ⟨g,0,none⟩=some (ab t0):=ag u.1 0;have bg:E.cell? ⟨g,1,none⟩=some (ab t1):=ag u.1 1;have bh:E.cell? ⟨g,2,none⟩=some (af t2):=ag u.1 2;have bi:E.cell? ⟨g,3,none⟩=some (ae m o n):=ag u.1 3;clear V a7 a8 f5 f6 x al ad ay O aI u;go_wp2_with fail;refine ai.mono ?_;rintro e F ⟨v,r,rfl,q⟩;have aL:Hid (∃f l,(f=F.alloc (.cells #[ab v.1,ab v.2] 109)/\l=F.heap.size)/\aj F f/\f.heap[l]?=some (.cells #[ab v.1,ab v.2] 109)/\F.heap.size<=l):=⟨_,_,⟨rfl,rfl⟩,(ao _ _).alloc (am _) _,aA _ _,am _⟩;go_upto_region 4 with fail;obtain⟨f,d,⟨a2,z⟩,aS,aU,aY⟩:=aL.out;rw[<-a2,<-z];have C:=ap aS;have Q:=ap aU;have aE:=ap aY;clear a2 z aS aU aY aL bf bg bh bi ai;have P:Hid (c<F.heap.size):=by
  obtain⟨a,aq⟩:=q.out.1.2.2.1;exact fx F ⟨c,5,none⟩ aq
 have a9:Hid ((∃a,f.cell? ⟨c,5,none⟩=some (ab a))/\(∃a,f.cell? ⟨c,6,none⟩=some (ab a))/\∀j,f.frozen? ⟨c,j,none⟩=false):=by
  obtain⟨_,_,⟨a,aq⟩,⟨b,bb⟩,y⟩:=q.out.1;refine⟨⟨a,(C.cell (p:=⟨c,5,none⟩) P).trans aq⟩,⟨b,(C.cell (p:=⟨c,6,none⟩) P).trans bb⟩,λj=>?_⟩;have y:=y j;unfold World.frozen? at y ⊢;rw[C.out.block c P.out];exact y
 have bl:f.cell? ⟨d,0,none⟩=some (ab v.1):=ag Q 0;have bm:f.cell? ⟨d,1,none⟩=some (ab v.2):=ag Q 1;by_cases I:r=0
 ·have G:=ap (q.2.2.1 I f C);unfold uf at G;obtain⟨⟨a,X⟩,⟨b,aw⟩,D⟩:=a9;have f5:=D 5;have f6:=D 6;clear D q;subst I;go_wp2_with fail
  go_ret
  exact⟨true,rfl,G⟩
 ·have bn:¬(0:Int)=r:=λe=>I e.symm;have ba:=ap (q.2.2.2 I f d C aE (aF.1 Q).1);have s:=(C.block i (aF.1 q.1.2.1).1).trans q.1.2.1;have br:f.cell? ⟨i,0,none⟩=some (ab s0):=ag s 0;have bs:f.cell? ⟨i,1,none⟩=some (ab s1):=ag s 1;have bu:f.cell? ⟨i,2,none⟩=some (af h):=ag s 2;have bv:f.cell? ⟨i,3,none⟩=some (ae sa sl sc):=ag s 3;clear s q;go_wp2_with fail;refine ba.mono ?_;rintro e A ⟨v2,aP,rfl,N⟩;have z:=N.1 _ Q;have a5:A.cell? ⟨d,0,none⟩=some (ab v.1):=ag z 0;have a6:A.cell? ⟨d,1,none⟩=some (ab v.2):=ag z 1;have ax:∀j,A.frozen? ⟨d,j,none⟩=false:=λj=>by simp[World.frozen?,z]
  have bd:=ax 0;have be:=ax 1;have aM:Hid (∃B,B=(A.setCell ⟨d,0,none⟩ (ab v2.1)).setCell ⟨d,1,none⟩ (ab v2.2)/\(B.cell? ⟨d,0,none⟩=some (ab v2.1)/\B.cell? ⟨d,1,none⟩=some (ab v2.2))/\bt (λb=>b=d) A B):=by
   refine⟨_,rfl,⟨?_,?_⟩,bt.trans (bC A d 0 _) (bC _ d 1 _) λ_ _ e=>e⟩
   ·exact(dz 0 (by decide)).trans (gY _ _ _ a5)
   ·exact gY _ _ _ ((dz 1 (by decide)).trans a6)
  clear ax z;go_upto_region 6 with fail;obtain⟨B,a3,⟨y0,y1⟩,K⟩:=aM.out;rw[<-a3];have G:=ap (N.2.2 B K);unfold uf at G;obtain⟨⟨a,X⟩,⟨b,aw⟩,D⟩:=N.out.2.1;have U:=fx A ⟨c,5,none⟩ X;have au:c≠d:=by have:=P.out;have:=aE.out;omega
  have bp:=(K.cell 5 U au).trans X;have bq:=(K.cell 6 U au).trans aw;have an:∀j,B.frozen? ⟨c,j,none⟩=false:=λj=>by
   have y:=D j;unfold World.frozen? at y ⊢;rw[K.block c U au];exact y
  have f5:=an 5;have f6:=an 6;clear a3 aM K X aw D an N a5 a6 bd be U;go_wp2_with fail;exact av (v:=.bool (r==0)) (by simp[results,results118,go_sem]) rfl (ah ⟨bP (by simpa using I),G.out⟩)
def fF(n m:Nat):Option (Tm n)->Option (Tm m)->Prop
 | none,none=>True
 | some x,some y=>ax n x m y=true
 | _,_=>False
theorem nD{n m k l:Nat}{o:Option (Tm n)}{p:Option (Tm m)}{f:Tm n->Option (Tm k)}{g:Tm m->Option (Tm l)}(a:fF n m o p)(b:∀x y,ax n x m y=true->fF k l (f x) (g y)):fF k l (o.bind f) (p.bind g):=by
 cases o with
 | none=>
  cases p with
  | none=>trivial
  | some _=>exact a.elim
 | some x=>
  cases p with
  | none=>exact a.elim
  | some y=>exact b x y a
theorem iS{n m N M:Nat}(c:n<=N)(b:m<=M){x:Tm n}{y:Tm m}(d:aD ⟨n,x⟩)(e:aD ⟨m,y⟩)(a:ax n x m y=true):ax N (aT N n x) M (aT M m y)=true:=
 bH _ _ _ _ _ _ (fA N n c x d) (bH _ _ _ _ _ _ a (dw _ _ _ _ (fA M m b y e)))
theorem ld:(n:Nat)->(x:Tm n)->(m:Nat)->(y:Tm m)->ax n x m y=true->bU ⟨n,x⟩=bU ⟨m,y⟩/\pI n x=pI m y
 | 0,_,_,_,h=>by simp[ax]at h
 | _+1,_,0,_,h=>by simp[ax]at h
 | n+1,x,m+1,y,h=>by
  simp only[ax,aG,cv]at h;exact⟨h.1.1.1,h.1.1.2⟩
theorem yf{N M:Nat}{a c:Tm N}{b d:Tm M}(h:ax N a M b=true)(i:ax N c M d=true):fF (N+1) (M+1) (tQ N a c) (tQ M b d):=by
 have e:=ld _ _ _ _ h;have f:=ld _ _ _ _ i;have g:zU N a c=zU M b d:=by
  unfold zU;rw[e.1,e.2,f.1,f.2]
 unfold tQ;rw[<-g,<-e.2,<-f.2];cases zU N a c
 ·simp[fF]
 ·simp[fF,ax,bO,aB]
theorem uv{i:Type}{N M:Nat}(f:i->Option (Tm N))(g:i->Option (Tm M)):(p:List i)->(∀a∈p,fF N M (f a) (g a))->fF (N+1) (M+1) ((cJ f p).map (df N)) ((cJ g p).map (df M))/\((cJ f p=none/\cJ g p=none)\/∃l r,cJ f p=some l/\cJ g p=some r/\aB (λx y=>ax N x M y) l r=true)
 | [],_=>⟨by simp[cJ,fF,ax,df,aB],ai ⟨[],[],rfl,rfl,rfl⟩⟩
 | a::p,h=>by
  have b:=h a (by simp);have m:=(uv f g p λx n=>h x (by simp[n])).2;simp only[cJ];cases e1:f a with
  | none=>
   rw[e1]at b;cases c:g a with
   | none=>simp[fF]
   | some _=>rw[c]at b;exact b.elim
  | some u=>
   rw[e1]at b;cases c:g a with
   | none=>rw[c]at b;exact b.elim
   | some v=>
    rw[c]at b;have j:ax N u M v=true:=b;rcases m with⟨d,e⟩|⟨l,r,d,e,k⟩
    ·rw[d,e];simp[fF]
    ·rw[d,e];exact⟨by simp[fF,ax,df,aB,j,k],ai ⟨u::l,v::r,rfl,rfl,by simp[aB,j,k]⟩⟩
theorem rV(m:Nat)(b:List (Tm m))(f:Nat)(a:List (Tm f))(self:Int)(i:aB (λx y=>ax m x f y) b a=true)(p:∀y∈b,aD ⟨m,y⟩)(q:∀y∈a,aD ⟨f,y⟩):(n:Nat)->(x:Tm n)->aD ⟨n,x⟩->fF (m+n) (f+n) (vl m b self n x) (vl f a self n x)
 | 0,_,_=>trivial
 | n+1,x,hx=>by
  have z:=cI _ _ _ i;have w:ax (n+1) x (n+1) x=true:=fC _ _ hx;unfold vl;by_cases k:x.1.1=5
  ·rw[if_pos k,if_pos k];cases e:b[x.1.2.1.toNat]? with
   | none=>
    have g:a[x.1.2.1.toNat]?=none:=by
     rw[List.getElem?_eq_none_iff]at e ⊢;omega
    rw[g];trivial
   | some y=>
    obtain⟨u,_⟩:=aS.1 e;have g:a[x.1.2.1.toNat]?=some a[x.1.2.1.toNat]:=aI (by omega);rw[g];have s:ax m y f a[x.1.2.1.toNat]=true:=jA _ _ _ i _ _ _ e g;simp only[dB];rw[<-(ld _ _ _ _ s).1];by_cases d:bU ⟨m,y⟩=6
    ·rw[if_pos d,if_pos d];trivial
    ·rw[if_neg d,if_neg d];exact iS (by omega) (by omega) (p y (aJ e)) (q _ (aJ g)) s
  ·rw[if_neg k,if_neg k];by_cases d:x.1.1=6
   ·rw[if_pos d,if_pos d];trivial
   ·rw[if_neg d,if_neg d];by_cases j:x.1.1=4
    ·rw[if_pos j,if_pos j];by_cases r:tZ n x.2.2 pW 0=true
     ·rw[if_pos r,if_pos r];simp[fF,ax,bO,aB]
     ·rw[if_neg r,if_neg r];by_cases l:tZ n x.2.2 wk 2=true
      ·rw[if_pos l,if_pos l];cases e1:x.2.2[1]? with
       | none=>trivial
       | some h=>
        cases g:x.2.2[2]? with
        | none=>trivial
        | some c=>
         simp only[dB];exact nD (rV m b f a self i p q n h (aV n x h hx (aJ e1))) λA C u=>nD (rV m b f a self i p q n c (aV n x c hx (aJ g))) λB D v=>yf u v
      ·rw[if_neg l,if_neg l];by_cases o:tZ n x.2.2 CA 1=true
       ·rw[if_pos o,if_pos o];cases e1:x.2.2[1]? with
        | none=>trivial
        | some h=>
         have t:=aV n x h hx (aJ e1);simp only[dB];cases aL n h
         ·simp[fF]
         ·exact iS (by omega) (by omega) t t (fC _ _ t)
       ·rw[if_neg o,if_neg o];exact(uv _ _ x.2.2 λy s=>rV m b f a self i p q n y (aV n x y hx s)).1
    ·rw[if_neg j,if_neg j];exact iS (by omega) (by omega) hx hx w
def IJ:(D:Nat)->(n:Nat)->Tm n->Tm D
 | 0,_,_=>()
 | _+1,0,_=>((0,0,.empty),(none,0),[])
 | D+1,n+1,x=>(x.1,(none,0),x.2.2.map λy=>IJ D n y)
theorem I9:(D:Nat)->(n:Nat)->(x:Tm n)->(m:Nat)->(y:Tm m)->ax n x m y=true->IJ D n x=IJ D m y
 | 0,_,_,_,_,_=>rfl
 | D+1,0,_,_,_,h=>by simp[ax]at h
 | D+1,n+1,_,0,_,h=>by simp[ax]at h
 | D+1,n+1,x,m+1,y,h=>by
  obtain⟨c,d⟩:=bG h;have e:=kB _ (λa=>IJ D n a) (λb=>IJ D m b) _ _ (λa _ b f=>I9 D n a m b f) d;simp only[IJ,c,e];rfl
theorem AU{n:Nat}:(l:List (Tm n))->(m:Int)->m<=l.foldl (λm y=>max m (fD n y)) m/\∀y∈l,fD n y<=l.foldl (λm y=>max m (fD n y)) m
 | [],m=>⟨jh _,λy b=>by simp at b⟩
 | a::l,m=>by
  obtain⟨d,c⟩:=AU l (max m (fD n a));simp only[gw];refine⟨by omega,λy b=>?_⟩;rcases cm.1 b with rfl|b
  ·omega
  ·exact c y b
theorem nZ{n:Nat}{x:Tm (n+1)}(e:aD ⟨n+1,x⟩){y:Tm n}(c:y∈x.2.2):fD n y+1<=fD (n+1) x:=by
 have d:x.1.1=4:=by
  have b:=e _ (mT ..);simp only[cE,aG,iv,cv,kG,decide_eq_false_iff_not]at b;rcases b.2 with a|a
  ·exact a
  ·have:=List.length_pos_of_mem c;omega
 have:=(AU x.2.2 0).2 y c;simp only[fD,if_pos d];omega
theorem AE:(D:Nat)->(n:Nat)->(x:Tm n)->aD ⟨n,x⟩->fD n x<D->ax D (IJ D n x) n x=true
 | _,0,_,h,_=>(dj h).elim
 | 0,n+1,x,_,h=>by
  have:=(fW (n+1) x).1;omega
 | D+1,n+1,x,hr,h=>dc rfl (iW _ _ _ λy a=>AE D n y (aV n x y hr a) (by
  have:=nZ hr a
  omega))
theorem jx:(D:Nat)->(n:Nat)->(x:Tm n)->aD ⟨n,x⟩->fD n x<D->ax D (aT D n x) n x=true
 | _,0,_,h,_=>(dj h).elim
 | 0,n+1,x,_,h=>by
  have:=(fW (n+1) x).1;omega
 | D+1,n+1,x,hr,h=>dc rfl (iW _ _ _ λy a=>jx D n y (aV n x y hr a) (by
  have:=nZ hr a
  omega))
theorem J8(D n:Nat)(x:Tm n)(w:World)(b o:Nat)(g:0<D)(k:dC w b o n x):dC w b o D (aT D n x):=by
 cases n with
 | zero=>exact k.elim
 | succ n=>
  obtain⟨D,rfl⟩:∃a,D=a+1:=⟨D-1,by omega⟩;obtain⟨c,d,e,f⟩:=k;exact⟨c,d,e,by simpa [aT]using f⟩
theorem sC:(D n:Nat)->(x:Tm n)->(B:Nat)->(w:World)->aD ⟨n,x⟩->fD n x<D->In B w n x->In B w D (aT D n x)
 | _,0,_,_,_,_,_,k=>k.elim
 | 0,n+1,x,_,_,_,h,_=>by
  have:=(fW (n+1) x).1;omega
 | D+1,n+1,x,B,w,hr,h,k=>by
  obtain⟨l,a⟩:=k;refine⟨by simpa [aT]using l,?_⟩;rcases a with a|⟨b,o,e,j,a⟩
  ·exact ah (by simp[aT,a])
  ·refine ai ⟨b,o,e,j,λi y g=>?_⟩;simp only[aT,dt]at g;obtain⟨c,d,rfl⟩:=co.1 g;have f:=aJ d;have p:=nZ hr f;have m:=(fW n c).1;exact⟨J8 D n c w b _ (by omega) (a i c d).1,sC D n c B w (aV n x c hr f) (by omega) (a i c d).2⟩
theorem zo(D n:Nat)(x:Tm (n+1)):dq (D+1) (aT (D+1) (n+1) x)=dq (n+1) x:=by
 simp[dq,aT]
theorem t8:(D n:Nat)->(x:Tm n)->(P:Nat->Prop)->aD ⟨n,x⟩->fD n x<D->ch P n x->ch P D (aT D n x)
 | _,0,_,_,h,_,_=>(dj h).elim
 | 0,n+1,x,_,_,h,_=>by
  have:=(fW (n+1) x).1;omega
 | D+1,n+1,x,P,hr,h,k=>by
  rcases k with k|⟨b,o,e,g,k⟩
  ·exact ah (by simp[aT,k])
  ·refine ai ⟨b,o,e,g,λi y d=>?_⟩;simp only[aT,dt]at d;obtain⟨a,f,rfl⟩:=co.1 d;have c:=aJ f;have j:=nZ hr c;exact t8 D n a P (aV n x a hr c) (by omega) (k i a f)
abbrev Tc:Type:=Tm 13
def cn(n:Nat)(x:Tm n):Tc:=IJ 13 n x
theorem ii{n m:Nat}{x:Tm n}{y:Tm m}(a:ax n x m y=true):cn n x=cn m y:=I9 13 n x m y a
theorem ei{n:Nat}{x:Tm n}(a:bz n x=0):ax 13 (cn n x) n x=true:=by
 obtain⟨b,c,_⟩:=bB.1 a;exact AE 13 n x (aM.2 b) (by omega)
theorem LX{n:Nat}{x:Tm n}(a:bz n x=0):cn 13 (cn n x)=cn n x:=ii (ei a)
theorem nY{n:Nat}{x:Tm n}(a:bz n x=0):bz 13 (cn n x)=0:=by rw[bQ (ei a),a]
theorem ES{n:Nat}{x:Tm n}(a:bz n x=0):sz 13 (cn n x)=sz n x:=lO _ _ _ _ (ei a)
theorem mj{n:Nat}{x:Tm n}(a:bz n x=0):aL 13 (cn n x)=aL n x:=cF _ _ _ _ (ei a)
theorem D8{n m:Nat}{x:Tm n}{y:Tm m}(c:bz n x=0)(d:bz m y=0)(b:cn n x=cn m y):ax n x m y=true:=by
 have a:=dw _ _ _ _ (ei c);rw[b]at a;exact bH _ _ _ _ _ _ a (ei d)
theorem PO{n m:Nat}:(p:List (Tm n))->(q:List (Tm m))->aB (λx y=>ax n x m y) p q=true->p.map (cn n)=q.map (cn m):=λp q a=>kB _ _ _ p q (λ_ _ _ b=>ii b) a
theorem tn{n m:Nat}:(p:List (Tm n))->(q:List (Tm m))->(∀x∈p,bz n x=0)->(∀y∈q,bz m y=0)->p.map (cn n)=q.map (cn m)->aB (λx y=>ax n x m y) p q=true
 | [],[],_,_,_=>rfl
 | [],_::_,_,_,h=>by simp at h
 | _::_,[],_,_,h=>by simp at h
 | x::p,y::q,hp,hq,h=>by
  simp only[aN,kI]at h;simp only[aB,aG];exact⟨D8 (hp x (by simp)) (hq y (by simp)) h.1,tn p q (λa b=>hp a (bM _ b)) (λa b=>hq a (bM _ b)) h.2⟩
def nr:List An:=nS 1 (List.replicate 4 fo)
def O6(a:An):Tc:=cn a.1 a.2
def lC{n:Nat}(c:Cl (n+1))(s m:Tc):Option (List Tc):=(hU (n+1) c.1.1 13 s nr).bind λb=>(hU (n+1) c.1.2.1 13 m b).map λa=>a.map O6
def mi{n:Nat}(s m:Tc):List (Cl (n+1))->Option (Cl (n+1)×List Tc)
 | []=>none
 | c::l=>match lC c s m with
  | some b=>some (c,b)
  | none=>mi s m l
def sj{n:Nat}(l:List (Cl (n+1)))(s:Tc):List Tc->Nat->Option (Nat×Cl (n+1)×List Tc)
 | [],_=>none
 | m::ms,i=>match mi s m l with
  | some x=>some (i,x)
  | none=>sj l s ms (i+1)
theorem GY{x y:An}(a:eq x y=true)(d:CQ y):CQ x:=by
 obtain⟨b,c⟩:=d;refine⟨(bQ a).trans b,?_⟩;rw[vb a,cF _ _ _ _ a];exact c
theorem sK{d β:Type}(f:d->β->Bool):(p:List d)->(q:List β)->aB f p q=true->∀x∈p,∃y∈q,f x y=true
 | [],_,_,x,c=>by simp at c
 | _::_,[],h,_,_=>by simp[aB]at h
 | a::p,b::q,h,x,c=>by
  simp only[aB,aG]at h;rcases cm.1 c with rfl|c
  ·exact⟨b,by simp,h.1⟩
  ·obtain⟨y,g,e⟩:=sK f p q h.2 x c;exact⟨y,bM _ g,e⟩
theorem GZ{p q:List An}(a:aB eq p q=true)(b:∀y∈q,CQ y):∀x∈p,CQ x:=λx c=>by
 obtain⟨y,d,e⟩:=sK _ _ _ a x c;exact GY e (b y d)
theorem sf{n:Nat}:(l:List (Tm n))->(b:List An)->(∀y∈b,aD y/\y.1<=n)->aB (λx y=>ax n x n y) l (b.map λa=>aT n a.1 a.2)=true->aB eq (nS n l) b=true
 | [],[],_,_=>rfl
 | [],_::_,_,h=>by simp[aB]at h
 | _::_,[],_,h=>by simp[aB]at h
 | x::l,a::b,hb,h=>by
  simp only[aN,aB,aG]at h;simp only[nS,aN,aB,aG];obtain⟨c,d⟩:=hb a (by simp);exact⟨bH _ _ _ _ _ _ h.1 (fA n a.1 d a.2 c),sf l b (λy e=>hb y (bM _ e)) h.2⟩
theorem Jf{p q:List An}(a:aB eq p q=true):p.map O6=q.map O6:=kB _ _ _ p q (λ_ _ _ b=>ii b) a
theorem uw:aB eq nr nr=true:=by
 refine iX _ _ λa b=>?_;exact fC _ _ (rG (CT a b))
theorem Nq{n:Nat}{x:Tm n}(a:bz n x=0)(b:aL n x=true):CQ ⟨n,x⟩:=⟨a,ai b⟩
theorem ch.both{P Q:Nat->Prop}:{n:Nat}->{x:Tm n}->ch P n x->ch Q n x->ch (λb=>P b/\Q b) n x
 | 0,_,p,_=>p
 | _+1,_,p,k=>by
  rcases p with p|⟨b,o,e,g,p⟩
  ·exact ah p
  ·rcases k with k|⟨j,l,a,h,k⟩
   ·exact ah k
   ·rw[e]at a;injection a with a;injection a with d f;subst d f;exact ai ⟨b,o,e,⟨g,h⟩,λi y c=>(p i y c).both (k i y c)⟩
structure qM (D:Nat) (l:List (Tm D)) (B:List Tc) (b0:Nat) (w':World) (bg bc:Nat):Prop where
 bnd:gg D l=true
 tells:l.map (cn D)=B
 cap:4<=bc/\bc<=maxLen
 new:b0<=bg/\bg<w'.heap.size
 at':∀(i:Nat)(y:Tm D),l[i]?=some y->dC w' bg (i*4) D y/\In w'.heap.size w' D y/\ch (λq=>b0<=q/\q≠bg) D y
 free:∀j,w'.frozen? ⟨bg,j,none⟩=false
def Nk{n:Nat}(c:Cl (n+1))(s m:Tc)(w:World)(e:Ending)(w':World):Prop:=
 ∃b len f g,e=.returned (.tuple #[ae b len f,.bool g])/\Hid (aj w w'/\g=(lC c s m).isSome/\∀a,lC c s m=some a->len=4/\∃h l d,b=some ⟨d,0,none⟩/\qM h l a w.heap.size w' d f)
theorem JC{n m k:Nat}(c:Cl (n+1))(s:Tm (m+1))(t:Tm (k+1))(R:bz (n+1) c.1.1=0)(S:bz (n+1) c.1.2.1=0)(A:bz (m+1) s=0)(T:aL (m+1) s=true)(B:bz (k+1) t=0)(U:aL (k+1) t=true){w w':World}{e:Ending}(Q:IP (hU (n+1) c.1.1 (m+1) s nr) (hU (n+1) c.1.2.1 (k+1) t) w e w'):Nk c (cn (m+1) s) (cn (k+1) t) w e w':=by
 obtain⟨K,len,P,ap,rfl,J⟩:=Q;obtain⟨V,Z,ae⟩:=J;refine⟨K,len,P,ap,rfl,V,?_⟩;have f:=mn (n+1) c.1.1 (m+1) s (n+1) c.1.1 13 (cn (m+1) s) nr nr (fC _ _ (aM.2 (bB.1 R).1)) (dw _ _ _ _ (ei A)) uw;cases e1:hU (n+1) c.1.1 (m+1) s nr with
 | none=>
  rw[e1]at f;cases e2:hU (n+1) c.1.1 13 (cn (m+1) s) nr with
  | some _=>
   rw[e2]at f;exact f.elim
  | none=>
   have j:lC c (cn (m+1) s) (cn (k+1) t)=none:=by simp[lC,e2]
   rw[j];exact⟨Z e1,λz i=>by cases i⟩
 | some b=>
  rw[e1]at f;cases e2:hU (n+1) c.1.1 13 (cn (m+1) s) nr with
  | none=>
   rw[e2]at f;exact f.elim
  | some q=>
   rw[e2]at f;have r:=kY CQ ou (n+1) c.1.1 (m+1) s (Nq A T) nr b ⟨by simp[nr,nS],CT⟩ e1;obtain⟨o,X,aa,af⟩:=ae b e1;have p:aB eq (nS (nd b) o) b=true:=sf o b (λa d=>⟨rG (r.2 a d),zZ b a d⟩) X;have L:aB eq (nS (nd b) o) q=true:=oz eq eq eq _ _ _ (λH _ a I aj G=>bH H.1 H.2 a.1 a.2 I.1 I.2 aj G) p f;have g:=mn (n+1) c.1.2.1 (k+1) t (n+1) c.1.2.1 13 (cn (k+1) t) _ _ (fC _ _ (aM.2 (bB.1 S).1)) (dw _ _ _ _ (ei B)) L;cases e3:hU (n+1) c.1.2.1 (k+1) t (nS (nd b) o)with
   | none=>
    rw[e3]at g;cases e4:hU (n+1) c.1.2.1 13 (cn (k+1) t) q with
    | some _=>
     rw[e4]at g;exact g.elim
    | none=>
     have j:lC c (cn (m+1) s) (cn (k+1) t)=none:=by simp[lC,e2,e4]
     rw[j];exact⟨aa e3,λz i=>by cases i⟩
   | some h=>
    rw[e3]at g;cases e4:hU (n+1) c.1.2.1 13 (cn (k+1) t) q with
    | none=>
     rw[e4]at g;exact g.elim
    | some N=>
     rw[e4]at g;have j:lC c (cn (m+1) s) (cn (k+1) t)=some (N.map O6):=by simp[lC,e2,e4]
     rw[j];obtain⟨ah,ai,E,av,l,aq,F⟩:=af h e3;refine⟨ah,λz i=>⟨ai,nd h,l,?_⟩⟩;cases i;have ab:=GZ p r.2;have Y:(nS (nd b) o).length=4:=by rw[cI _ _ _ p];exact r.1
     have C:=kY CQ ou (n+1) c.1.2.1 (k+1) t (Nq B U) _ h ⟨Y,ab⟩ e3;have D:∀a∈h,aD a:=λa d=>rG (C.2 a d);obtain⟨_,v,ag,_⟩:=E0 F D E;have W:=yh C.2 v E ag;obtain⟨_,_,ar,ak,al,x⟩:=F;rcases x with x|⟨O,bo,rfl,⟨au,rfl,an,ao⟩,am,y⟩
     ·rw[x]at v;simp at v
     ·refine⟨O,rfl,W,?_,⟨by omega,ak⟩,⟨by omega,am⟩,λu a d=>⟨?_,(y u a d).2.1,(ch.both (y u a d).2.2 (ao a (aJ d))).mono λG ad=>⟨by omega,ad.2⟩⟩,an⟩;rotate_left
      ·have:=(y u a d).1;rw[cX]at this;exact this
      have M:aB eq (nS (nd h) l) h=true:=sf l h (λa d=>⟨D a d,zZ h a d⟩) al;rw[<-Jf g,<-Jf M];simp[nS,O6]
theorem Hd{n m k:Nat}(c:Cl (n+1))(s:Tm (m+1))(t:Tm (k+1))(B:Nat)(w:World)(i:g8 (n+1) B w c)(j:In B w (m+1) s)(l:In B w (k+1) t)(h:B<=w.heap.size)(a:bz (n+1) c.1.1=0)(b:bz (n+1) c.1.2.1=0)(d:bz (m+1) s=0)(e:aL (m+1) s=true)(f:bz (k+1) t=0)(g:aL (k+1) t=true):ak 115 #[.agg (e9 (n+1) c).toArray,dq (m+1) s,dq (k+1) t] w (Nk c (cn (m+1) s) (cn (k+1) t) w):=
 (Hc n m k c s t B w i j l h a b d (by rw[<-fz];exact e) f (by rw[<-fz];exact g)).mono λ_ _ o=>JC c s t a b d e f g o
theorem lM:(N n:Nat)->n<=N->(x:Tm n)->aL N (aT N n x)=aL n x
 | 0,0,_,_=>rfl
 | _+1,0,_,_=>by simp[aT,aL]
 | 0,n+1,h,_=>by omega
 | N+1,n+1,h,x=>by
  have:(x.2.2.map λy=>aT N n y).all (λy=>aL N y)=x.2.2.all λy=>aL n y:=by
   rw[List.all_map];congr 1;funext y;exact lM N n (by omega) y
  simp only[aL,aT];rw[this]
theorem yr(m:Nat)(b:List (Tm m))(self:Int)(k:∀y∈b,bU ⟨m,y⟩=6\/aL m y=true):(n:Nat)->(x:Tm n)->aD ⟨n,x⟩->(j:Tm (m+n))->vl m b self n x=some j->aL (m+n) j=true
 | 0,_,_,_,d=>by simp[vl]at d
 | n+1,x,hr,j,d=>by
  have p:=eM (bD n x) (hr (bD n x) (by simp[ay,bD]));by_cases g:x.1.1=6
  ·rw[Lf m b self n x g]at d;cases d
  ·by_cases f:x.1.1=5
   ·simp only[vl,f,cT]at d;obtain⟨y,h,d⟩:=bu.1 d;split at d
    ·cases d
    ·rename_i t;obtain rfl:=aw d;exact(lM (m+n+1) m (by omega) y).trans ((k y (aJ h)).resolve_left t)
   ·by_cases e:x.1.1=4
    ·rw[Lg m b self n x e]at d;unfold wU at d;split at d
     ·obtain rfl:=aw d;simp[bO,aL]
     ·split at d
      ·obtain⟨a,q,d⟩:=bu.1 d;obtain⟨c,D,d⟩:=bu.1 d;obtain⟨A,C,d⟩:=bu.1 d;obtain⟨B,E,d⟩:=bu.1 d;unfold tQ at d;split at d
       ·obtain rfl:=aw d;simp[bO,aL]
       ·cases d
      ·split at d
       ·obtain⟨a,q,d⟩:=bu.1 d;split at d
        ·rename_i r;obtain rfl:=aw d;exact(lM (m+n+1) n (by omega) a).trans r
        ·cases d
       ·obtain⟨l,u,rfl⟩:=co.1 d;obtain⟨w,z⟩:=qT _ _ _ u;show aL (m+n+1) (df (m+n) l)=true;simp only[aL,df];simp only[aG,ci];refine⟨by decide,λy h=>?_⟩;obtain⟨i,o⟩:=cW h;have s:i<x.2.2.length:=by rw[<-w];exact(aS.1 o).1
        exact yr m b self k n x.2.2[i] (aV n x _ hr (jH _)) y (z i _ y (aI s) o)
    ·rw[FG m b self n x e f g]at d;obtain rfl:=aw d;have v:x.2.2=[]:=bE (p.2.2.2.2 e);refine(lM (m+n+1) (n+1) (by omega) x).trans ?_;simp[aL,f,g,v]
def gd(n:Nat)(name:ByteArray):List (Bh n)->Option (Bh n)
 | []=>none
 | b::l=>if b.1=name then some b else gd n name l
def LV(n:Nat):Option (Bh n)->Value
 | none=>ae none 0 0
 | some b=>ae b.2.1.1 b.2.2.length b.2.1.2
theorem oI(n:Nat)(name:ByteArray){l:List (Bh n)}{j:Nat}{b:Bh n}(c:l[j]?=some b):gd n name (l.drop j)=if b.1=name then some b else gd n name (l.drop (j+1)):=by
 obtain⟨d,a⟩:=aS.1 c;rw[eH d,a];rfl
theorem uF(n:Nat)(name:ByteArray)(l:List (Bh n))(r:Option Addr)(D len B:Nat)(w:World)(G:l.length=len)(H:len<=9223372036854775807)(z:B<=w.heap.size)(x:Hid (gh n B w r l)):ak 77 #[ae r len D,af name] w λe w'=>e=.returned (LV n (gd n name l))/\aj w w':=by
 go_enter func77,ntmps77;go_wp2_with fail;go_loopw [9] (λq wr=>∃a:Nat,a<=len/\q=ab a/\Hid (aj w wr/\gd n name l=gd n name (l.drop a))) (λq _=>len-(intOf q).toNat)
 case atStart=>exact⟨0,by omega,rfl,ao _ _,rfl⟩
 case round=>
 obtain⟨a,F,rfl,c⟩:=hrel;by_cases I:a<len
 ·obtain⟨b,d⟩:∃b,l[a]?=some b:=⟨l[a]'(by omega),aI _⟩;obtain⟨k,lo,rfl,C,v⟩:∃g o,r=some ⟨g,o,none⟩/\g<B/\Hid (∀(t:Nat)(f:Value),(pH n b)[t]?=some f->w.cell? ⟨g,o+a*2+t,none⟩=some f):=by
   rcases x with e|⟨g,o,e,A,y⟩
   ·rw[e]at d;simp at d
   ·exact⟨g,o,e,A,(y a _ d).1⟩
  have i:∀(t:Nat)(f:Value),(pH n b)[t]?=some f->wr.cell? ⟨k,lo+a*2+t,none⟩=some f:=λt f u=>(c.1.cell (p:=⟨k,lo+a*2+t,none⟩) (aR C z)).trans (v t f u);have E:wr.cell? ⟨k,lo+a*2,none⟩=some (af b.1):=i 0 _ rfl;have L:wr.cell? ⟨k,lo+a*2+1,none⟩=some (ae b.2.1.1 b.2.2.length b.2.1.2):=i 1 _ rfl;have J:(0:Int)<=(a:Int):=by omega
  have K:(a:Int)<(len:Int):=by omega
  have s:Hid (∀o:Obj,aj w (wr.alloc o)):=λo=>c.1.alloc c.1.size o;by_cases j:b.1=name
  ·have h:Hid (gd n name l=some b):=by
     show _=_;rw[c.out.2,oI n name d,if_pos j]
   have m:Hid (LV n (gd n name l)=ae b.2.1.1 b.2.2.length b.2.1.2):=by
    show _=_;rw[h.out];rfl
   rw[j]at E;clear i c h d;go_wp2_with fail
   go_ret
   rw[m.out];exact⟨rfl,s _⟩
  ·have h:Hid (gd n name l=gd n name (l.drop (a+1))):=by
     show _=_;rw[c.out.2,oI n name d,if_neg j]
   have u:(b.1.toList==name.toList)=false:=by
    rw[iC];intro e;rw[cu,cu]at e;exact j (ByteArray.ext (Array.ext' e))
   clear i c d;go_wp2_with fail;go_roundw
   case rel=>exact⟨a+1,by omega,by go_num,s _,h⟩
   case measure=>simp[intOf];omega
 ·obtain rfl:a=len:=by omega
  have m:Hid (LV n (gd n name l)=ae none 0 0):=by
   show _=_;rw[c.out.2,pq (by omega)];rfl
  have HB:=ap c.1;clear c;go_wp2_with fail
  go_ret
  rw[m.out];exact⟨rfl,HB⟩
def sO(b:List Tc)(self:Int)(n:Nat)(x:Tm n):Option Tc:=(vl 13 b self n x).bind λa=>if bz (13+n) a=0 then some (cn (13+n) a)else none
def nA(b:List Tc)(self:Int)(n:Nat)(x:Tm n):Option Int:=(sO b self n x).bind λt=>if t.1.1=3 then some t.1.2.1 else none
structure Dg where
 b:List Tc
 next:Int
 sends:List (Int×Tc)
 spawns:List (Int×ByteArray×Tc)
 links:List Int
 stops:Bool
def DT(u:Int):Tc:=((3,u,.empty),(none,0),[])
def rm(self:Int){n:Nat}(a:Ac (n+1))(d:Dg):Option Dg:=
 if a.1=1 then (nA d.b self (n+1) a.2.1.1).bind λc=>(sO d.b self (n+1) a.2.1.2).map λt=>{d with sends:=d.sends++ [(c,t)]}
 else if a.1=2 then (sO d.b self (n+1) a.2.1.2).bind λt=>if bU ⟨13,(d.b[a.2.2.2.toNat]?).getD (DT 0)⟩=6 then some {d with b:=d.b.set a.2.2.2.toNat (DT d.next),next:=d.next+1,spawns:=d.spawns++ [(d.next,a.2.2.1,t)]}else none
 else if a.1=3 then (nA d.b self (n+1) a.2.1.1).map λc=>{d with links:=d.links++ [c]}
 else some {d with stops:=true}
def qj(self:Int){n:Nat}:List (Ac (n+1))->Dg->Option Dg
 | [],d=>some d
 | a::l,d=>(rm self a d).bind (qj self l)
structure Tk where
 message:Tc
 fate:Int
 sends:List (Int×Tc)
 spawns:List (Int×ByteArray×Tc)
 links:List Int
 state:Tc
 mail:List Tc
def fp{n:Nat}(room self next:Int)(s m:Tc)(ms:List Tc)(c:Cl (n+1))(b:List Tc):Tk:=
 match qj self c.2.2 ⟨b,next,[],[],[],false⟩with
 | none=>⟨m,2,[],[],[],s,ms⟩
 | some a=>match sO a.b self (n+1) c.1.2.2 with
  | none=>⟨m,2,[],[],[],s,ms⟩
  | some t=>if (ms.map (sz 13)).sum+sz 13 t<=room then ⟨m,if a.stops then 1 else 0,a.sends,a.spawns,a.links,t,ms⟩else ⟨m,3,[],[],[],s,ms⟩
def gi{n:Nat}(name:ByteArray)(l:List (Bh (n+1))):List (Cl (n+1)):=((gd (n+1) name l).map λb=>b.2.2).getD []
def nE{n:Nat}(room:Int)(l:List (Bh (n+1)))(name:ByteArray)(self next:Int)(s:Tc)(ms:List Tc):Option Tk:=
 (sj (gi name l) s ms 0).bind λa=>(ms[a.1]?).map λb=>fp room self next s b (ms.eraseIdx a.1) a.2.1 a.2.2
theorem xS{D:Nat}{l:List (Tm D)}{B:List Tc}(c:gg D l=true)(d:l.map (cn D)=B):aB (λx y=>ax D x 13 y) l B=true:=by
 rw[<-d];refine qz (λy x=>ax 13 y D x) _ _ _ (λf _ b a=>dw _ _ _ _ a) (iW _ _ _ λy e=>?_);exact ei ((ig c).2 y e).1
theorem KB{D:Nat}{l:List (Tm D)}{B:List Tc}(b:gg D l=true)(c:l.map (cn D)=B):gg 13 B=true:=by
 have e:=xS b c;obtain⟨f,g⟩:=ig b;unfold gg;rw[<-cI _ _ _ e,f];simp only[decide_true,eE,ci];intro k d;rw[<-c]at d;obtain⟨j,i,rfl⟩:=b9.1 d;have a:=g j i;have h:=ei a.1;simp only[BG,aG,cv,iv];refine⟨nY a.1,?_⟩;rw[kC h,<-fz,mj a.1];exact a.2.2
theorem Le{D n:Nat}{l:List (Tm D)}{B:List Tc}(b:gg D l=true)(g:l.map (cn D)=B)(self:Int)(x:Tm n)(k:bz n x=0):(nU 0 (vl D l self n x)).map (cn (D+n))=sO B self n x:=by
 have j:aD ⟨n,x⟩:=aM.2 (bB.1 k).1;have i:=KB b g;have a:=rV D l 13 B self (xS b g) (λd c=>aM.2 (bB.1 ((ig b).2 d c).1).1) (λd c=>aM.2 (bB.1 ((ig i).2 d c).1).1) n x j;unfold sO nU;cases e1:vl D l self n x with
 | none=>
  rw[e1]at a;cases e2:vl 13 B self n x with
  | none=>rfl
  | some _=>
   rw[e2]at a;exact a.elim
 | some m=>
  rw[e1]at a;cases e2:vl 13 B self n x with
  | none=>
   rw[e2]at a;exact a.elim
  | some h=>
   rw[e2]at a;have f:ax (D+n) m (13+n) h=true:=a;simp only[cT,dB];rw[bQ f];by_cases e:bz (13+n) h=0
   ·simp[e,ii f]
   ·simp[e]
theorem OG{n:Nat}{B:List Tc}(d:gg 13 B=true){self:Int}{x:Tm n}(f:bz n x=0){t:Tc}(a:sO B self n x=some t):bz 13 t=0/\aL 13 t=true/\cn 13 t=t:=by
 have e:aD ⟨n,x⟩:=aM.2 (bB.1 f).1;unfold sO at a;obtain⟨c,h,a⟩:=bu.1 a;by_cases b:bz (13+n) c=0
 ·rw[if_pos b]at a;obtain rfl:=aw a;refine⟨nY b,?_,LX b⟩;rw[mj b];exact yr 13 B self (λi g=>((ig d).2 i g).2.2) n x e c h
 ·rw[if_neg b]at a;cases a
def lE(b a:Nat)(d c lv:Value)(q:Nat):Prop:=q=b\/q=a\/d.ownBlock=some q\/c.ownBlock=some q\/lv.ownBlock=some q
def Lt(base b a:Nat)(d c lv:Value)(q:Nat):Prop:=base<=q/\¬lE b a d c lv q
structure ex (base db:Nat) (me:Int) (n D k:Nat) (nx:Int) (d:Dg) (w:World) (l:List (Tm (D+1))) (bg bc:Nat) (sd:List (Int×Tm (D+1+n+1))) (sp:List (Int×ByteArray×Tm (D+1+n+1))) (sv pv lv:Value):Prop where
 box:w.heap[db]?=some (.cells #[ae (some ⟨bg,0,none⟩) 4 bc,ab me,ab d.next,sv,pv,lv,.bool d.stops] 170)
 own:db≠bg/\base<=db/\base<=bg/\bg<w.heap.size/\base<=w.heap.size
 bnd:gg (D+1) l=true
 tells:l.map (cn (D+1))=d.b
 row:∀(i:Nat)(y:Tm (D+1)),l[i]?=some y->dC w bg (i*4) (D+1) y/\In w.heap.size w (D+1) y/\ch (Lt base db bg sv pv lv) (D+1) y
 free:∀j,w.frozen? ⟨bg,j,none⟩=false
 sRow:w.ownsRow base 177 5 sv sd.length (sd.flatMap λz=>Nt z.1 z.2)
 pRow:w.ownsRow base 174 6 pv sp.length (sp.flatMap λz=>Ox z.1 z.2.1 z.2.2)
 lRow:w.ownsRow base 3 1 lv d.links.length (d.links.map λu=>ab u)
 sIs:sd.map (λz=>(z.1,cn _ z.2))=d.sends
 pIs:sp.map (λz=>(z.1,z.2.1,cn _ z.2.2))=d.spawns
 sIn:∀z∈sd,bz _ z.2=0/\In w.heap.size w _ z.2/\ch (Lt base db bg sv pv lv) _ z.2
 pIn:∀z∈sp,bz _ z.2.2=0/\In w.heap.size w _ z.2.2/\ch (Lt base db bg sv pv lv) _ z.2.2
 apart:(sv.ownBlock≠some db/\pv.ownBlock≠some db/\lv.ownBlock≠some db)/\(sv.ownBlock≠some bg/\pv.ownBlock≠some bg/\lv.ownBlock≠some bg)/\∀q,(sv.ownBlock=some q->pv.ownBlock≠some q/\lv.ownBlock≠some q)/\(pv.ownBlock=some q->lv.ownBlock≠some q)
 few:sd.length<=k/\sp.length<=k/\d.links.length<=k/\d.next=nx+sp.length/\1<=nx/\nx<=92
def Do(base b:Nat)(self:Int)(n D k:Nat)(g:Int)(d:Dg)(S:Nat->Prop)(w0 w:World):Prop:=∃l a f h i e c lv,ex base b self n D k g d w l a f h i e c lv/\∀q,lE b a e c lv q->S q\/w0.heap.size<=q
theorem sA{base n:Nat}{x:Tm n}{S c:Nat->Prop}{w w':World}(k:bt S w w')(f:∀q,c q->S q\/w.heap.size<=q)(d:In w.heap.size w n x)(e:ch (λq=>base<=q/\¬S q) n x):In w'.heap.size w' n x/\ch (λq=>base<=q/\¬c q) n x:=by
 refine⟨d.kee k (e.mono λq a=>a.2),(In.offB e d).mono λq a=>⟨a.1.1,λb=>?_⟩⟩;rcases f q b with b|b
 ·exact a.1.2 b
 ·have:=a.2;omega
theorem DA{w w':World}{n:Nat}{q:List (Tm n)}{a:Option Addr}(c:fH w.heap.size w n q a)(d:aj w w'):fH w'.heap.size w' n q a:=by
 rcases c.below d with c|⟨b,o,h,i,c⟩
 ·exact ah c
 ·exact ai ⟨b,o,h,aR i d.size,λf g e=>⟨(c f g e).1,(c f g e).2.mono d.size⟩⟩
section
variable {base db:Nat} {self:Int} {n D k:Nat} {nx:Int} {d:Dg} {w:World} {l:List (Tm (D+1))} {bg bc:Nat} {sd:List (Int×Tm (D+1+n+1))} {sp:List (Int×ByteArray×Tm (D+1+n+1))} {sv pv lv:Value}
theorem ex.lt(a:ex base db self n D k nx d w l bg bc sd sp sv pv lv):db<w.heap.size:=(aF.1 a.box).1
theorem ex.high(c:ex base db self n D k nx d w l bg bc sd sp sv pv lv):∀q,lE db bg sv pv lv q->base<=q:=by
 intro q a;obtain⟨_,i,j,_⟩:=c.own;have f:∀{b:TypeId}{r o:Nat}{g:Value}{p:List Value},w.ownsRow base b r g o p->g.ownBlock=some q->base<=q:=λm e=>by
  rcases m.2 with⟨b,_⟩|⟨h,cap,s,b,t,_⟩
  ·rw[b]at e;cases e
  ·rw[b]at e;have:h=q:=aw e;omega
 rcases a with rfl|rfl|a|a|a
 ·exact i
 ·exact j
 ·exact f c.sRow a
 ·exact f c.pRow a
 ·exact f c.lRow a
theorem ex.later(a:ex base db self n D k nx d w l bg bc sd sp sv pv lv){w':World}(e:aj w w'):ex base db self n D k nx d w' l bg bc sd sp sv pv lv:=by
 have h:=aK e (λ_=>False);have i:=e.size;obtain⟨t,u,v,q,y⟩:=a.own;refine⟨(e.block db a.lt).trans a.box,⟨t,u,v,by omega,by omega⟩,a.bnd,a.tells,λs x r=>?_,λo=>?_,bk a.sRow h λ_ _ g=>g,bk a.pRow h λ_ _ g=>g,bk a.lRow h λ_ _ g=>g,a.sIs,a.pIs,λm j=>?_,λm j=>?_,a.apart,a.few⟩
 ·obtain⟨f,b,c⟩:=a.row s x r;exact⟨f.below e q,(b.below e).mono i,c⟩
 ·exact(e.frozen (p:=⟨bg,o,none⟩) q).trans (a.free o)
 ·obtain⟨f,b,c⟩:=a.sIn m j;exact⟨f,(b.below e).mono i,c⟩
 ·obtain⟨f,b,c⟩:=a.pIn m j;exact⟨f,(b.below e).mono i,c⟩
theorem ex.more(a:ex base db self n D k nx d w l bg bc sd sp sv pv lv){g:Nat}(i:k<=g):ex base db self n D g nx d w l bg bc sd sp sv pv lv:=by
 obtain⟨h,b,c,e,f⟩:=a.few;exact{a with few:=⟨by omega,by omega,by omega,e,f⟩}
theorem ex.lies(a:ex base db self n D k nx d w l bg bc sd sp sv pv lv):fH w.heap.size w (D+1) l (some ⟨bg,0,none⟩):=ai ⟨bg,0,rfl,a.own.2.2.2.1,λi y b=>by
 rw[cX]
 exact⟨(a.row i y b).1,(a.row i y b).2.1⟩⟩
theorem ex.value(a:ex base db self n D k nx d w l bg bc sd sp sv pv lv)(x:Tm (n+1))(r:In base w (n+1) x)(g:bz (n+1) x=0)(o:1<=self/\self<=99):∀W,aj w W->ak 117 #[aC db,.agg #[ab x.1.1,ab x.1.2.1,af x.1.2.2,ae x.2.1.1 x.2.2.length x.2.1.2]] W (wY (D+1+n) (nU 0 (vl (D+1) l self (n+1) x)) W):=by
 intro W b;have i:Fw (bz (n+1) x) (gg (D+1) l) self=0:=by simp[Fw,g,a.bnd,o]
 have f:=(ig a.bnd).1;have m:=a.lies;have h:=a.own.2.2.2.2;have q:=yZ (D+1+n) 0 (vl (D+1) l self (n+1) x) x.1.1 x.1.2.1 x.1.2.2 x.2.1.1 x.2.2.length x.2.1.2 (some ⟨bg,0,none⟩) bc self db W (aR a.lt b.size) ((b.cell (p:=⟨db,0,none⟩) a.lt).trans (ag a.box 0)) ((b.cell (p:=⟨db,1,none⟩) a.lt).trans (ag a.box 1)) λe j=>by
  have c:=b.trans (j.mono b.size);have:=D5 n (D+1) x l (some ⟨bg,0,none⟩) bc e.heap.size self e ((r.below (c.mono h)).mono (az h c.size)) (DA m c) (am _) (fi g) (by rw[f];decide) (λt s=>fi ((ig a.bnd).2 t s).1);rw[i,f]at this;exact this
 exact q
theorem ex.process(h:ex base db self n D k nx d w l bg bc sd sp sv pv lv)(x:Tm (n+1))(z:In base w (n+1) x)(j:bz (n+1) x=0)(t:1<=self/\self<=99):∀W,aj w W->ak 201 #[aC db,.agg #[ab x.1.1,ab x.1.2.1,af x.1.2.2,ae x.2.1.1 x.2.2.length x.2.1.2]] W λe w'=>∃u,e=.returned (.tuple #[ab u,.bool (nA d.b self (n+1) x).isSome])/\Hid (aj W w'/\∀v,nA d.b self (n+1) x=some v->u=v):=by
 intro W i;have a:=Le h.bnd h.tells self x j;refine(AW (D+1+n) _ x.1.1 x.1.2.1 x.1.2.2 x.2.1.1 x.2.2.length x.2.1.2 db W λr s=>h.value x z j t r (i.trans (s.mono i.size))).mono ?_;rintro e w' ⟨u,rfl,o⟩;obtain⟨p,q⟩:=o;have m:Ff (nU 0 (vl (D+1) l self (n+1) x))=(nA d.b self (n+1) x).isSome/\∀v,nA d.b self (n+1) x=some v->u=v:=by
  unfold nA;rw[<-a];cases e:nU 0 (vl (D+1) l self (n+1) x)with
  | none=>exact⟨rfl,λv a=>by cases a⟩
  | some c=>
   have A:(cn (D+1+n+1) c).1=c.1:=rfl;have y:=q c e;simp only[mZ,dB,Ff];by_cases g:c.1.1=3
   ·have f:(cn (D+1+n+1) c).1.1=3:=g;refine⟨?_,λv a=>?_⟩
    ·erw [if_pos f]
     simp[g]
    ·erw [if_pos f]at a
     rw[y,<-aw a];rfl
   ·have f:¬(cn (D+1+n+1) c).1.1=3:=g;refine⟨?_,λv a=>?_⟩
    ·erw [if_neg f]
     simp[g]
    ·erw [if_neg f]at a
     cases a
 exact⟨u,by rw[m.1],p,m.2⟩
end
section
variable {base db:Nat} {self:Int} {n D k:Nat} {nx:Int} {d:Dg} {w:World} {l:List (Tm (D+1))} {bg bc:Nat} {sd:List (Int×Tm (D+1+n+1))} {sp:List (Int×ByteArray×Tm (D+1+n+1))} {sv pv lv:Value}
def yB(base db:Nat)(self:Int)(n D k:Nat)(nx:Int)(d:Dg)(a:Ac (n+1))(S:Nat->Prop)(w:World)(t:Bool)(w':World):Prop:=
 bt S w w'/\t=(rm self a d).isSome/\∀b,rm self a d=some b->Do base db self n D (k+1) nx b S w w'
theorem mJ{w:World}{base:Nat}{e:TypeId}{g m:Nat}{v:Value}{xs:List Value}(f:w.ownsRow base e g v m xs):∃a c,v=ae a m c:=by
 rcases f.2 with⟨b,d⟩|⟨i,cap,h,b,_⟩
 ·exact⟨none,0,by rw[b,d]⟩
 ·exact⟨_,cap,b⟩
theorem oB{w:World}{b:Nat}{v0 v1 v2 v3 a c d:Value}{t:TypeId}(e:w.heap[b]?=some (.cells #[v0,v1,v2,v3,a,c,d] t)):(∀v,(w.setCell ⟨b,3,none⟩ v).heap[b]?=some (.cells #[v0,v1,v2,v,a,c,d] t))/\(∀v,(w.setCell ⟨b,4,none⟩ v).heap[b]?=some (.cells #[v0,v1,v2,v3,v,c,d] t))/\(∀v,(w.setCell ⟨b,5,none⟩ v).heap[b]?=some (.cells #[v0,v1,v2,v3,a,v,d] t))/\(∀v,(w.setCell ⟨b,2,none⟩ v).heap[b]?=some (.cells #[v0,v1,v,v3,a,c,d] t))/\∀v,(w.setCell ⟨b,6,none⟩ v).heap[b]?=some (.cells #[v0,v1,v2,v3,a,c,v] t):=by
 refine⟨λv=>?_,λv=>?_,λv=>?_,λv=>?_,λv=>?_⟩<;>
 ·unfold World.setCell;simp[bJ,e]
theorem tX{w:World}{b:Nat}{cs:Array Value}{t:TypeId}(a:w.heap[b]?=some (.cells cs t))(j:Nat):w.frozen? ⟨b,j,none⟩=false:=by simp[World.frozen?,a]
theorem ex.frame(c:ex base db self n D k nx d w l bg bc sd sp sv pv lv){w':World}{j h g:Value}(f:bt (lE db bg sv pv lv) w w')(m:∀q,lE db bg j h g q->lE db bg sv pv lv q\/w.heap.size<=q):(∀(i:Nat)(y:Tm (D+1)),l[i]?=some y->In w'.heap.size w' (D+1) y/\ch (Lt base db bg j h g) (D+1) y)/\(∀a∈sd,bz _ a.2=0/\In w'.heap.size w' _ a.2/\ch (Lt base db bg j h g) _ a.2)/\(∀a∈sp,bz _ a.2.2=0/\In w'.heap.size w' _ a.2.2/\ch (Lt base db bg j h g) _ a.2.2)/\Below base w w':=
 ⟨λi y o=>sA f m (c.row i y o).2.1 (c.row i y o).2.2,λa e=>⟨(c.sIn a e).1,sA f m (c.sIn a e).2.1 (c.sIn a e).2.2⟩,λa e=>⟨(c.pIn a e).1,sA f m (c.pIn a e).2.1 (c.pIn a e).2.2⟩,f.below c.own.2.2.2.2 λb p q=>by
  have:=c.high b q
  omega⟩
theorem ex.link(g:ex base db self n D k nx d w l bg bc sd sp sv pv lv)(a:Ac (n+1))(P:iE (n+1) base w a)(T:bz (n+1) a.2.1.1=0)(O:a.1=3)(Y:1<=self/\self<=99)(an:k<=1000):ak 188 #[aC db,ON a] w λe w'=>∃t,e=.returned (.bool t)/\Hid (yB base db self n D k nx d a (lE db bg sv pv lv) w t w'):=by
 have J:=g.lRow;obtain⟨r,s,rfl⟩:=mJ J;obtain⟨f1,f2,f3,f4⟩:=g.few;have u:rm self a d=(nA d.b self (n+1) a.2.1.1).map λx=>{d with links:=d.links++ [x]}:=by
  simp[rm,O]
 refine(GI a.1 a.2.1.1.1.1 a.2.1.1.1.2.1 a.2.1.1.1.2.2 a.2.1.1.2.1.1 a.2.1.1.2.2.length a.2.1.1.2.1.2 a.2.1.2.1.1 a.2.1.2.1.2.1 a.2.1.2.1.2.2 a.2.1.2.2.1.1 a.2.1.2.2.2.length a.2.1.2.2.1.2 a.2.2.1 a.2.2.2 base db r d.links.length s _ w (nA d.b self (n+1) a.2.1.1).isSome (λx=>∀y,nA d.b self (n+1) a.2.1.1=some y->x=y) (by omega) g.lt g.own.2.2.2.2 ⟨ag g.box 5,tX g.box 5⟩ J g.apart.1.2.2 (g.process a.2.1.1 P.2.1 T Y)).mono ?_;rintro e w' ⟨rfl,U,v⟩;refine⟨_,rfl,?_⟩;cases hp:nA d.b self (n+1) a.2.1.1 with
 | none=>
  have Q:=U (by rw[hp];rfl);refine⟨aK Q _,by rw[u,hp];rfl,λN o=>?_⟩;rw[u,hp]at o;cases o
 | some y=>
  obtain⟨x,m,c,z,aa,X,j,i,rfl⟩:=v (by rw[hp];rfl);obtain rfl:=aa y hp;have S:z.heap[db]?=_:=(j.block db g.lt λf=>g.apart.1.2.2 f).trans g.box;have C:bt (lE db bg sv pv (ae r d.links.length s)) w (z.setCell ⟨db,5,none⟩ (ae (some ⟨m,0,none⟩) (d.links.length+1) c)):=bt.trans (j.mono λf _ h=>ai (ai (ai (ai h)))) (bC _ _ _ _) λf _ h=>ah h;have p:∀f,f<w.heap.size->¬(Value.slice r d.links.length s).ownBlock=some f->m≠f:=λf h V e=>by
   rcases i with i|i
   ·rw[e]at i;exact V i
   ·omega
  have H:∀f,lE db bg sv pv (ae (some ⟨m,0,none⟩) (d.links.length+1) c) f->lE db bg sv pv (ae r d.links.length s) f\/w.heap.size<=f:=λf h=>by
   rcases h with h|h|h|h|h
   ·exact ah (ah h)
   ·exact ah (ai (ah h))
   ·exact ah (ai (ai (ah h)))
   ·exact ah (ai (ai (ai (ah h))))
   ·have:m=f:=aw h;subst this;rcases i with i|i
    ·exact ah (ai (ai (ai (ai i))))
    ·exact ai i
  obtain⟨aj,al,am,aq⟩:=g.frame C H;refine⟨C,by rw[u,hp];rfl,λN o=>?_⟩;rw[u,hp]at o;obtain rfl:=aw o;have ao:=C.size;obtain⟨F,ad,af,G,ap⟩:=g.own;have q:=bC z db 5 (ae (some ⟨m,0,none⟩) (d.links.length+1) c);have Z:∀f,sv.ownBlock=some f->f<w.heap.size:=λf h=>by
   obtain⟨M,B⟩:=ew g.sRow f h;exact(aF.1 B).1
  have W:∀f,pv.ownBlock=some f->f<w.heap.size:=λf h=>by
   obtain⟨M,B⟩:=ew g.pRow f h;exact(aF.1 B).1
  have A:¬(Value.slice r d.links.length s).ownBlock=some bg:=g.apart.2.1.2.2;refine⟨l,bg,bc,sd,sp,sv,pv,_,⟨(oB S).2.2.1 _,⟨F,ad,af,by omega,by omega⟩,g.bnd,g.tells,λK L v=>⟨?_,aj K L v⟩,λab=>?_,?_,?_,?_,g.sIs,g.pIs,al,am,⟨⟨g.apart.1.1,g.apart.1.2.1,?_⟩,⟨g.apart.2.1.1,g.apart.2.1.2.1,?_⟩,λf=>⟨λh=>⟨((g.apart.2.2 f).1 h).1,?_⟩,λh=>?_⟩⟩,⟨by omega,by omega,by simp;omega,f4⟩⟩,H⟩
  ·exact((g.row K L v).1.kee j G A).kee q (by have:=j.size;omega) (λe=>F e.symm)
  ·have R:(z.setCell ⟨db,5,none⟩ (ae (some ⟨m,0,none⟩) (d.links.length+1) c)).heap[bg]?=w.heap[bg]? :=(q.block bg (by have:=j.size;omega) (λe=>F e.symm)).trans (j.block bg G A);have I:=g.free ab;unfold World.frozen? at I ⊢;rw[R];exact I
  ·exact bk (bk g.sRow j λf h E=>((g.apart.2.2 f).1 h).2 E) q λf h e=>g.apart.1.1 (by rw[h,e])
  ·exact bk (bk g.pRow j λf h E=>(g.apart.2.2 f).2 h E) q λf h e=>g.apart.1.2.1 (by rw[h,e])
  ·have:=bk X q λf h e=>p db g.lt g.apart.1.2.2 (by
     have:m=f:=aw h
     rw[this,e])
   simpa using this
  ·exact λe=>p db g.lt g.apart.1.2.2 (aw e)
  ·exact λe=>p bg G A (aw e)
  ·exact λe=>p f (Z f h) (((g.apart.2.2 f).1 h).2) (aw e)
  ·exact λe=>p f (W f h) ((g.apart.2.2 f).2 h) (aw e)
end
section
variable {base db:Nat} {self:Int} {n D k:Nat} {nx:Int} {d:Dg} {w:World} {l:List (Tm (D+1))} {bg bc:Nat} {sd:List (Int×Tm (D+1+n+1))} {sp:List (Int×ByteArray×Tm (D+1+n+1))} {sv pv lv:Value}
theorem MO{N:Nat}{o:Option (Tm N)}{c:Tm N}(a:nU 0 o=some c):bz N c=0:=by
 unfold nU at a;rw[if_pos rfl]at a;obtain⟨d,_,a⟩:=bu.1 a;by_cases b:bz N d=0
 ·rw[if_pos b]at a;rw[<-aw a];exact b
 ·rw[if_neg b]at a;cases a
theorem ex.told(e:ex base db self n D k nx d w l bg bc sd sp sv pv lv)(x:Tm (n+1))(h:bz (n+1) x=0):(nU 0 (vl (D+1) l self (n+1) x)).isSome=(sO d.b self (n+1) x).isSome/\∀(a:Tm (D+1+n+1)) t,sO d.b self (n+1) x=some t->ax _ a (D+1+n+1) ((nU 0 (vl (D+1) l self (n+1) x)).getD (wv (D+1+n)))=true->bz _ a=0/\aL _ a=true/\cn _ a=t:=by
 have m:=Le e.bnd e.tells self x h;refine⟨by rw[<-m,Option.isSome_map],λa t f c=>?_⟩;have p:=OG (KB e.bnd e.tells) h f;rw[<-m]at f;obtain⟨q,o,rfl⟩:=co.1 f;rw[o]at c;have c:ax _ a _ q=true:=c;have i:=(bQ c).trans (MO o);have j:=ii c;refine⟨i,?_,j⟩;have g:=p.2.1;rw[<-j,mj i]at g;exact g
theorem ex.send(h:ex base db self n D k nx d w l bg bc sd sp sv pv lv)(a:Ac (n+1))(P:iE (n+1) base w a)(ad:bz (n+1) a.2.1.1=0)(Q:bz (n+1) a.2.1.2=0)(Z:a.1=1)(V:1<=self/\self<=99)(aD:k<=1000):ak 186 #[aC db,ON a] w λe w'=>∃t,e=.returned (.bool t)/\Hid (yB base db self n D k nx d a (lE db bg sv pv lv) w t w'):=by
 have U:=h.sRow;obtain⟨y,z,rfl⟩:=mJ U;obtain⟨f1,f2,f3,f4⟩:=h.few;have s:rm self a d=(nA d.b self (n+1) a.2.1.1).bind λx=>(sO d.b self (n+1) a.2.1.2).map λt=>{d with sends:=d.sends++ [(x,t)]}:=by
  simp[rm,Z]
 obtain⟨al,am⟩:=h.told (self:=self) a.2.1.2 Q;refine(Ht (D+1+n) a.1 a.2.1.1.1.1 a.2.1.1.1.2.1 a.2.1.1.1.2.2 a.2.1.1.2.1.1 a.2.1.1.2.2.length a.2.1.1.2.1.2 a.2.1.2.1.1 a.2.1.2.1.2.1 a.2.1.2.1.2.2 a.2.1.2.2.1.1 a.2.1.2.2.2.length a.2.1.2.2.1.2 a.2.2.1 a.2.2.2 base db y sd.length z _ w (nA d.b self (n+1) a.2.1.1).isSome (λx=>∀A,nA d.b self (n+1) a.2.1.1=some A->x=A) (nU 0 (vl (D+1) l self (n+1) a.2.1.2)) (by omega) h.lt h.own.2.2.2.2 ⟨ag h.box 3,tX h.box 3⟩ U h.apart.1.1 (h.process a.2.1.1 P.2.1 ad V) (h.value a.2.1.2 P.2.2.1 Q V)).mono ?_;rintro e w' ⟨rfl,K,i⟩;refine⟨_,rfl,?_⟩;rw[al]at K i ⊢;cases hp:nA d.b self (n+1) a.2.1.1 with
 | none=>
  have E:=K (by rw[hp];rfl);refine⟨aK E _,by rw[s,hp];rfl,λN p=>?_⟩;rw[s,hp]at p;cases p
 | some A=>
  cases g:sO d.b self (n+1) a.2.1.2 with
  | none=>
   have E:=K (by rw[hp,g];rfl);refine⟨aK E _,by rw[s,hp,g];rfl,λN p=>?_⟩;rw[s,hp,g]at p;cases p
  | some t=>
   obtain⟨x,r,j,c,B,an,ar,ap,W,aj,q,m,rfl⟩:=i (by rw[hp,g];rfl);obtain rfl:=an A hp;obtain⟨ao,_,au⟩:=am r t g ar;have ab:B.heap[db]?=_:=(q.block db h.lt λf=>h.apart.1.1 f).trans h.box;have I:bt (lE db bg (ae y sd.length z) pv lv) w (B.setCell ⟨db,3,none⟩ (ae (some ⟨j,0,none⟩) (sd.length+1) c)):=bt.trans (q.mono λf _ g=>ai (ai (ah g))) (bC _ _ _ _) λf _ g=>ah g;have v:∀f,f<w.heap.size->¬(Value.slice y sd.length z).ownBlock=some f->j≠f:=λf g af e=>by
    rcases m with m|m
    ·rw[e]at m;exact af m
    ·omega
   have O:∀f,lE db bg (ae (some ⟨j,0,none⟩) (sd.length+1) c) pv lv f->lE db bg (ae y sd.length z) pv lv f\/w.heap.size<=f:=λf g=>by
    rcases g with g|g|g|g|g
    ·exact ah (ah g)
    ·exact ah (ai (ah g))
    ·have:j=f:=aw g;subst this;rcases m with m|m
     ·exact ah (ai (ai (ah m)))
     ·exact ai m
    ·exact ah (ai (ai (ai (ah g))))
    ·exact ah (ai (ai (ai (ai g))))
   obtain⟨az,aA,aB,aI⟩:=h.frame I O;refine⟨I,by rw[s,hp,g];rfl,λN p=>?_⟩;rw[s,hp,g]at p;obtain rfl:=aw p;have aE:=I.size;have aG:=q.size;obtain⟨L,ax,ay,M,aH⟩:=h.own;have u:=bC B db 3 (ae (some ⟨j,0,none⟩) (sd.length+1) c);have S:∀f,lv.ownBlock=some f->f<w.heap.size:=λf g=>by
    obtain⟨Y,G⟩:=ew h.lRow f g;exact(aF.1 G).1
   have T:∀f,pv.ownBlock=some f->f<w.heap.size:=λf g=>by
    obtain⟨Y,G⟩:=ew h.pRow f g;exact(aF.1 G).1
   have F:¬(Value.slice y sd.length z).ownBlock=some bg:=h.apart.2.1.1;have aq:ch (Lt base db bg (ae (some ⟨j,0,none⟩) (sd.length+1) c) pv lv) _ r:=W.mono λf g=>by
    have:=h.lt;refine⟨by omega,λo=>?_⟩;rcases o with o|o|o|o|o
    ·omega
    ·omega
    ·exact g.2 (aw o).symm
    ·have:=T f o;omega
    ·have:=S f o;omega
   refine⟨l,bg,bc,sd++ [(x,r)],sp,_,pv,lv,⟨(oB ab).1 _,⟨L,ax,ay,by omega,by omega⟩,h.bnd,h.tells,λX C i=>⟨?_,az X C i⟩,λav=>?_,?_,?_,?_,?_,h.pIs,λC i=>?_,aB,⟨⟨?_,h.apart.1.2.1,h.apart.1.2.2⟩,⟨?_,h.apart.2.1.2.1,h.apart.2.1.2.2⟩,λf=>⟨λg=>⟨λe=>?_,λe=>?_⟩,(h.apart.2.2 f).2⟩⟩,⟨by simp;omega,by omega,by show d.links.length<=k+1;omega,f4⟩⟩,O⟩
   ·exact((h.row X C i).1.kee q M F).kee u (by omega) (λe=>L e.symm)
   ·have aa:(B.setCell ⟨db,3,none⟩ (ae (some ⟨j,0,none⟩) (sd.length+1) c)).heap[bg]?=w.heap[bg]? :=(u.block bg (by omega) (λe=>L e.symm)).trans (q.block bg M F);have R:=h.free av;unfold World.frozen? at R ⊢;rw[aa];exact R
   ·have:=bk aj u λf g e=>v db h.lt h.apart.1.1 (by
      have:j=f:=aw g
      rw[this,e])
    simpa using this
   ·exact bk (bk h.pRow q λf g J=>((h.apart.2.2 f).1 J).1 g) u λf g e=>h.apart.1.2.1 (by rw[g,e])
   ·exact bk (bk h.lRow q λf g J=>((h.apart.2.2 f).1 J).2 g) u λf g e=>h.apart.1.2.2 (by rw[g,e])
   ·simp[h.sIs,au]
   ·rcases dl.1 i with i|i
    ·exact aA C i
    ·obtain rfl:=dN.1 i;refine⟨ao,?_,aq⟩;refine ap.kee u (W.mono λf g e=>?_);have:=h.lt;omega
   ·exact λe=>v db h.lt h.apart.1.1 (aw e)
   ·exact λe=>v bg M F (aw e)
   ·have H:j=f:=aw g;exact v f (T f e) (λr=>((h.apart.2.2 f).1 r).1 e) H
   ·have H:j=f:=aw g;exact v f (S f e) (λr=>((h.apart.2.2 f).1 r).2 e) H
end
theorem oh(w:World)(g o:Nat)(v0 v1 v2 v3:Value):bt (λb=>b=g) w (dd w g o v0 v1 v2 v3):=
 bt.trans (bt.trans (bt.trans (bC w g o v0) (bC _ g (o+1) v1) λ_ _ a=>a) (bC _ g (o+2) v2) λ_ _ a=>a) (bC _ g (o+3) v3) λ_ _ a=>a
theorem BP{w:World}{g o:Nat}{v0 v1 v2 v3:Value}(j:Nat)(a:j<o\/o+4<=j):(dd w g o v0 v1 v2 v3).cell? ⟨g,j,none⟩=w.cell? ⟨g,j,none⟩:=by
 unfold dd;rw[dz j (by omega),dz j (by omega),dz j (by omega),dz j (by omega)]
theorem xN{w:World}{g o:Nat}{f h i j:Value}(v0 v1 v2 v3:Value)(a:w.cell? ⟨g,o,none⟩=some f/\w.cell? ⟨g,o+1,none⟩=some h/\w.cell? ⟨g,o+2,none⟩=some i/\w.cell? ⟨g,o+3,none⟩=some j):(dd w g o v0 v1 v2 v3).cell? ⟨g,o,none⟩=some v0/\(dd w g o v0 v1 v2 v3).cell? ⟨g,o+1,none⟩=some v1/\(dd w g o v0 v1 v2 v3).cell? ⟨g,o+2,none⟩=some v2/\(dd w g o v0 v1 v2 v3).cell? ⟨g,o+3,none⟩=some v3:=by
 obtain⟨b,c,d,e⟩:=a;unfold dd;refine⟨?_,?_,?_,?_⟩
 ·rw[dz o (by omega),dz o (by omega),dz o (by omega)];exact gY _ _ _ b
 ·rw[dz (o+1) (by omega),dz (o+1) (by omega)];exact gY _ _ _ ((dz (o+1) (by omega)).trans c)
 ·rw[dz (o+2) (by omega)];exact gY _ _ _ ((dz (o+2) (by omega)).trans ((dz (o+2) (by omega)).trans d))
 ·exact gY _ _ _ ((dz (o+3) (by omega)).trans ((dz (o+3) (by omega)).trans ((dz (o+3) (by omega)).trans e)))
theorem tm{w:World}{g o:Nat}{v0 v1 v2 v3:Value}(j:Nat):(dd w g o v0 v1 v2 v3).frozen? ⟨g,j,none⟩=w.frozen? ⟨g,j,none⟩:=by
 unfold dd;rw[gI,gI,gI,gI]
theorem Gf(w:World)(p:Addr):w.drew.cell? p=w.cell? p:=rfl
theorem AX(w:World)(p:Addr):w.drew.frozen? p=w.frozen? p:=rfl
theorem dC.far{w w':World}{g o:Nat}{n:Nat}{x:Tm n}(b:dC w g o n x)(a:∀j,o<=j->j<o+4->w'.cell? ⟨g,j,none⟩=w.cell? ⟨g,j,none⟩):dC w' g o n x:=by
 cases n with
 | zero=>exact b.elim
 | succ n=>
  obtain⟨c,d,e,f⟩:=b;exact⟨(a _ (by omega) (by omega)).trans c,(a _ (by omega) (by omega)).trans d,(a _ (by omega) (by omega)).trans e,(a _ (by omega) (by omega)).trans f⟩
theorem Ol(u:Int)(D:Nat)(g:1<=u/\u<=99):BG (D+1) (bO 3 u D)=true/\cn (D+1) (bO 3 u D)=DT u:=by
 refine⟨?_,rfl⟩;have e:bZ (D+1) (bO 3 u D)=true:=by
  rw[<-aM];intro a b;have:a=((3,u,.empty),(none,0,0)):=by simpa [ay,bO]using b
  subst this;have f:qK u 1 99=true:=by simp[qK];omega
  simp[cE,f]
 have c:bz (D+1) (bO 3 u D)=0:=bB.2 ⟨e,by simp[fD,bO],by simp[sz,bO]⟩;have d:aL (D+1) (bO 3 u D)=true:=by simp[aL,bO]
 simp only[BG,c,aG,iv];refine⟨rfl,ai ?_⟩;rw[<-fz];exact d
theorem LP{D:Nat}{l:List (Tm D)}(a:gg D l=true)(i:Nat){y:Tm D}(c:BG D y=true):gg D (l.set i y)=true:=by
 simp only[gg,List.length_set,aG,cd,ci]at a ⊢;refine⟨a.1,λd b=>?_⟩;rcases sT b with b|rfl
 ·exact a.2 d b
 ·exact c
section
variable {base db:Nat} {self:Int} {n D k:Nat} {nx:Int} {d:Dg} {w:World} {l:List (Tm (D+1))} {bg bc:Nat} {sd:List (Int×Tm (D+1+n+1))} {sp:List (Int×ByteArray×Tm (D+1+n+1))} {sv pv lv:Value}
theorem ex.spawn(h:ex base db self n D k nx d w l bg bc sd sp sv pv lv)(a:Ac (n+1))(aO:iE (n+1) base w a)(al:bz (n+1) a.2.1.2=0)(aN:a.1=2)(aY:dQ a.2.2.1=true)(br:0<=a.2.2.2/\a.2.2.2<4)(a0:1<=self/\self<=99)(bl:k<=7):ak 187 #[aC db,ON a] w λe w'=>∃t,e=.returned (.bool t)/\Hid (yB base db self n D k nx d a (lE db bg sv pv lv) w t w'):=by
 have au:=h.pRow;obtain⟨M,N,rfl⟩:=mJ au;obtain⟨f1,f2,f3,f4,f5,f6⟩:=h.few;obtain⟨m,Y⟩:∃m:Nat,a.2.2.2=(m:Int):=⟨a.2.2.2.toNat,by omega⟩;have a3:m<4:=by omega
 have bj:=(ig h.bnd).1;obtain⟨p,az⟩:∃p,l[m]?=some p:=⟨l[m]'(by omega),aI _⟩;obtain⟨y1,y2,bx⟩:=h.row m p az;have aR:d.b[m]?=some (cn (D+1) p):=by rw[<-h.tells,dt,az];rfl
 have F:rm self a d=(sO d.b self (n+1) a.2.1.2).bind λt=>if p.1.1=6 then some {d with b:=d.b.set m (DT d.next),next:=d.next+1,spawns:=d.spawns++ [(d.next,a.2.2.1,t)]}else none:=by
  have aV:bU ⟨13,(d.b[a.2.2.2.toNat]?).getD (DT 0)⟩=p.1.1:=by
   rw[Y,Int.toNat_natCast,aR];rfl
  have aW:¬a.1=1:=by omega
  unfold rm;rw[if_neg aW,if_pos aN,aV,Y,Int.toNat_natCast]
 obtain⟨a1,a2⟩:=h.told (self:=self) a.2.1.2 al
 have q:=Eh (D+1+n) a.1 a.2.1.1.1.1 a.2.1.1.1.2.1 a.2.1.1.1.2.2 a.2.1.1.2.1.1 a.2.1.1.2.2.length a.2.1.1.2.1.2 a.2.1.2.1.1 a.2.1.2.1.2.1 a.2.1.2.1.2.2 a.2.1.2.2.1.1 a.2.1.2.2.2.length a.2.1.2.2.1.2 a.2.2.1 m base db M sp.length N _ w (nU 0 (vl (D+1) l self (n+1) a.2.1.2)) bg bc d.next p.1.1 p.1.2.1 p.1.2.2 p.2.1.1 p.2.2.length p.2.1.2 a3 (by omega) h.lt h.own.2.2.2.1 h.own.1 h.own.2.2.2.2 (by omega) (by omega) (by
   simp only[dQ,qK,aG,cd]at aY
   omega)
  ⟨ag h.box 4,ag h.box 0,ag h.box 2,λj=>tX h.box j,h.free⟩ au ⟨h.apart.1.2.1,h.apart.2.1.2.1⟩ y1 (λaE=>jv _ _ _ _ _ _ aE) (h.value a.2.1.2 aO.2.2.1 al a0)
 rw[<-Y]at q;refine q.mono ?_;rintro e w' ⟨rfl,X,aA⟩;refine⟨_,rfl,?_⟩;rw[a1]at X aA ⊢;cases f:sO d.b self (n+1) a.2.1.2 with
 | none=>
  have T:=X (by rw[f];rfl);refine⟨aK T _,by rw[F,f];rfl,λS r=>?_⟩;rw[F,f]at r;cases r
 | some t=>
  by_cases E:p.1.1=6;rotate_left
  ·have T:=X (by rw[f];simp[E]);refine⟨aK T _,by rw[F,f];simp[E],λS r=>?_⟩;rw[F,f]at r;simp[E]at r
  ·obtain⟨y,g,c,aB,x,C,a9,a7,Q,aZ,A,s,ay,Z,ax⟩:=aA (by rw[f];simp[E]);obtain⟨a4,_,ba⟩:=a2 y t f a9;have aP:aB.heap[db]?=_:=(A.block db h.lt λi=>h.apart.1.2.1 i).trans h.box;obtain⟨G,bb,bd,R,bv⟩:=h.own;have bq:=A.size;have U:=(oB aP).2.1 (ae (some ⟨g,0,none⟩) (sp.length+1) c);rw[<-ay]at U;have u:bt (λb=>b=db) aB x:=by rw[ay];exact bC _ _ _ _
   have B:bt (λb=>b=bg) x C:=by
    rw[Z];exact bt.trans (oh x bg (m*4) _ _ _ _) (aK ((ao _ _).drew) _) λ_ _ e=>e
   have aQ:C.heap[db]?=_:=(B.block db (aF.1 U).1 G).trans U;have v:bt (λb=>b=db) C w':=by rw[ax];exact bC _ _ _ _
   have aj:=(oB aQ).2.2.2.1 (ab (d.next+1));rw[<-ax]at aj;have bn:=u.size;have bo:=B.size;have bp:=v.size;have ap:bt (lE db bg sv (ae M sp.length N) lv) w w':=bt.trans (bt.trans (bt.trans (A.mono λi _ f=>ai (ai (ai (ah f)))) u λi _ f=>ah f) B λi _ f=>ai (ah f)) v λi _ f=>ah f;have z:∀i,i<w.heap.size->¬(Value.slice M sp.length N).ownBlock=some i->g≠i:=λi f aX e=>by
    rcases s with s|s
    ·rw[e]at s;exact aX s
    ·omega
   have ad:∀i,lE db bg sv (ae (some ⟨g,0,none⟩) (sp.length+1) c) lv i->lE db bg sv (ae M sp.length N) lv i\/w.heap.size<=i:=λi f=>by
    rcases f with f|f|f|f|f
    ·exact ah (ah f)
    ·exact ah (ai (ah f))
    ·exact ah (ai (ai (ah f)))
    ·have:g=i:=aw f;subst this;rcases s with s|s
     ·exact ah (ai (ai (ai (ah s))))
     ·exact ai s
    ·exact ah (ai (ai (ai (ai f))))
   obtain⟨be,bf,bh,bw⟩:=h.frame ap ad;refine⟨ap,by rw[F,f];simp[E],λS r=>?_⟩;rw[F,f]at r;have r:some {d with b:=d.b.set m (DT d.next),next:=d.next+1,spawns:=d.spawns++ [(d.next,a.2.2.1,t)]}=some S:=by simpa [E]using r
   obtain rfl:=aw r;have aq:∀i,lv.ownBlock=some i->i<w.heap.size:=λi f=>by
    obtain⟨aH,V⟩:=ew h.lRow i f;exact(aF.1 V).1
   have av:∀i,sv.ownBlock=some i->i<w.heap.size:=λi f=>by
    obtain⟨aH,V⟩:=ew h.sRow i f;exact(aF.1 V).1
   have O:¬(Value.slice M sp.length N).ownBlock=some bg:=h.apart.2.1.2.1;have a8:ch (Lt base db bg sv (ae (some ⟨g,0,none⟩) (sp.length+1) c) lv) _ y:=Q.mono λi f=>by
    have:=h.lt;refine⟨by omega,λq=>?_⟩;rcases q with q|q|q|q|q
    ·omega
    ·omega
    ·have:=av i q;omega
    ·exact f.2 (aw q).symm
    ·have:=aq i q;omega
   have ar:=Ol d.next D (by omega)
   -- the row of what is bound
   have H:∀j,x.cell? ⟨bg,j,none⟩=w.cell? ⟨bg,j,none⟩:=λj=>(u.cell j (by omega) (λe=>G e.symm)).trans (A.cell j R O);have J:∀j,w'.cell? ⟨bg,j,none⟩=C.cell? ⟨bg,j,none⟩:=λj=>v.cell j (by omega) (λe=>G e.symm);have I:∀j,C.cell? ⟨bg,j,none⟩=(dd x bg (m*4) (ab 3) (ab d.next) (af ⟨#[]⟩) (ae none 0 0)).cell? ⟨bg,j,none⟩:=λj=>by
    rw[Z,Gf]
   have aS:∀j,j<m*4\/m*4+4<=j->w'.cell? ⟨bg,j,none⟩=w.cell? ⟨bg,j,none⟩:=λj aU=>by
    rw[J,I,BP j aU];exact H j
   have P:=xN (w:=x) (g:=bg) (o:=m*4) (ab 3) (ab d.next) (af ⟨#[]⟩) (ae none 0 0) ⟨(H _).trans y1.1,(H _).trans y1.2.1,(H _).trans y1.2.2.1,(H _).trans y1.2.2.2⟩;refine⟨l.set m (bO 3 d.next D),bg,bc,sd,sp++ [(d.next,a.2.2.1,y)],sv,_,lv,⟨aj,⟨G,bb,bd,by omega,by omega⟩,LP h.bnd m ar.1,?_,λaa aD L=>?_,λj=>?_,?_,?_,?_,h.sIs,?_,bf,λbi K=>?_,⟨⟨h.apart.1.1,?_,h.apart.1.2.2⟩,⟨h.apart.2.1.1,?_,h.apart.2.1.2.2⟩,λi=>⟨λf=>⟨λe=>?_,((h.apart.2.2 i).1 f).2⟩,λf e=>?_⟩⟩,⟨by omega,by simp;omega,by show d.links.length<=k+1;omega,by show d.next+1=nx+((sp++ [(d.next,a.2.2.1,y)]).length:Nat);simp;omega,f5,f6⟩⟩,ad⟩
   ·rw[List.map_set,h.tells,ar.2]
   ·by_cases am:m=aa
    ·subst am;rw[List.getElem?_set_self (by omega)]at L;obtain rfl:=aw L;have an:=lm D 3 d.next (by unfold dx;omega) (by unfold dx;omega) w'.heap.size w' (Lt base db bg sv (ae (some ⟨g,0,none⟩) (sp.length+1) c) lv);refine⟨⟨?_,?_,?_,?_⟩,an.1,an.2⟩
     ·rw[J,I];exact P.1
     ·rw[J,I];exact P.2.1
     ·rw[J,I];exact P.2.2.1
     ·rw[J,I];exact P.2.2.2
    ·rw[List.getElem?_set_ne am]at L;exact⟨(h.row aa aD L).1.far λj bs bu=>aS j (by omega),be aa aD L⟩
   ·have aM:w'.frozen? ⟨bg,j,none⟩=C.frozen? ⟨bg,j,none⟩:=by
      unfold World.frozen?;rw[v.block bg (by omega) (λe=>G e.symm)]
    have aL:C.frozen? ⟨bg,j,none⟩=x.frozen? ⟨bg,j,none⟩:=by
     rw[Z,AX,tm]
    have aJ:x.frozen? ⟨bg,j,none⟩=w.frozen? ⟨bg,j,none⟩:=by
     unfold World.frozen?;rw[u.block bg (by omega) (λe=>G e.symm),A.block bg R O]
    rw[aM,aL,aJ];exact h.free j
   ·refine bk (bk (bk (bk h.sRow A λi f W=>((h.apart.2.2 i).1 f).1 W) u λi f e=>h.apart.1.1 (by rw[f,e])) B λi f e=>h.apart.2.1.1 (by rw[f,e])) v λi f e=>h.apart.1.1 (by rw[f,e])
   ·have:=bk (bk (bk aZ u λi f e=>z db h.lt h.apart.1.2.1 (by
      have:g=i:=aw f
      rw[this,e])) B λi f e=>z bg R O (by
      have:g=i:=aw f
      rw[this,e])) v λi f e=>z db h.lt h.apart.1.2.1 (by
      have:g=i:=aw f
      rw[this,e])
    simpa using this
   ·refine bk (bk (bk (bk h.lRow A λi f W=>(h.apart.2.2 i).2 W f) u λi f e=>h.apart.1.2.2 (by rw[f,e])) B λi f e=>h.apart.2.1.2.2 (by rw[f,e])) v λi f e=>h.apart.1.2.2 (by rw[f,e])
   ·simp[h.pIs,ba]
   ·rcases dl.1 K with K|K
    ·exact bh bi K
    ·obtain rfl:=dN.1 K;have bm:=h.lt;have a5:=a7.kee u (Q.mono λi f e=>by omega);have a6:=a5.kee B (Q.mono λi f e=>by omega);exact⟨a4,a6.kee v (Q.mono λi f e=>by omega),a8⟩
   ·exact λe=>z db h.lt h.apart.1.2.1 (aw e)
   ·exact λe=>z bg R O (aw e)
   ·exact z i (av i f) (λy=>((h.apart.2.2 i).1 f).1 y) (aw e)
   ·have aT:g=i:=aw f;exact z i (aq i e) (λy=>(h.apart.2.2 i).2 y e) aT
end
def ND{n:Nat}(a:Ac (n+1)):Prop:=nR (n+1) a=true/\(a.1=1\/a.1=3->bz (n+1) a.2.1.1=0)/\(a.1=1\/a.1=2->bz (n+1) a.2.1.2=0)
theorem qk(self:Int){n:Nat}:(p q:List (Ac (n+1)))->(d:Dg)->qj self (p++q) d=(qj self p d).bind (qj self q)
 | [],_,_=>rfl
 | a::p,q,d=>by
  simp only[eG,qj];cases rm self a d with
  | none=>rfl
  | some b=>exact qk self p q b
theorem Jt(self:Int){n:Nat}{l:List (Ac (n+1))}{i:Nat}{a:Ac (n+1)}(b:l[i]?=some a)(d:Dg):qj self (l.take (i+1)) d=(qj self (l.take i) d).bind (rm self a):=by
 rw[du,b,qk];congr 1;funext x;show qj self [a] x=rm self a x;simp only[qj];cases rm self a x<;>rfl
theorem Jr(self:Int){n:Nat}{l:List (Ac (n+1))}{i:Nat}{d:Dg}(a:qj self (l.take i) d=none):qj self l d=none:=by
 rw[<-gU i l,qk,a];rfl
section
variable {base db:Nat} {self:Int} {n D k:Nat} {nx:Int} {d:Dg} {w:World} {l:List (Tm (D+1))} {bg bc:Nat} {sd:List (Int×Tm (D+1+n+1))} {sp:List (Int×ByteArray×Tm (D+1+n+1))} {sv pv lv:Value}
theorem yB.from{a:Ac (n+1)}{S:Nat->Prop}{W w':World}{t:Bool}(b:yB base db self n D k nx d a S W t w')(c:aj w W):yB base db self n D k nx d a S w t w':=⟨(aK c S).trans b.1 λ_ _ e=>e,b.2.1,λh l=>by
 obtain⟨o,g,f,s,u,v,r,p,i,j⟩:=b.2.2 h l;refine⟨o,g,f,s,u,v,r,p,i,λq m=>?_⟩;rcases j q m with e|e
 ·exact ah e
 ·have:=c.size
  exact ai (by omega)⟩
theorem iE.later{B:Nat}{a:Ac (n+1)}{W:World}(b:iE (n+1) B w a)(c:Below B w W):iE (n+1) B W a:=⟨b.1,b.2.1.below c,b.2.2.1.below c,b.2.2.2⟩
theorem ex.stop(a:ex base db self n D k nx d w l bg bc sd sp sv pv lv):Do base db self n D (k+1) nx {d with stops:=true} (lE db bg sv pv lv) w (w.setCell ⟨db,6,none⟩ (.bool true))/\bt (lE db bg sv pv lv) w (w.setCell ⟨db,6,none⟩ (.bool true)):=by
 have e:=bC w db 6 (.bool true);obtain⟨s,t,u,y⟩:=a.frame (w':=w.setCell ⟨db,6,none⟩ (.bool true)) (e.mono λf _ b=>ah b) λf c=>ah c;obtain⟨g,q,r,m,x⟩:=a.own;have v:=e.size;obtain⟨f1,f2,f3,f4⟩:=a.few;refine⟨⟨l,bg,bc,sd,sp,sv,pv,lv,⟨(oB a.box).2.2.2.2 _,⟨g,q,r,by omega,by omega⟩,a.bnd,a.tells,λj o i=>⟨(a.row j o i).1.kee e m (λb=>g b.symm),s j o i⟩,λp=>?_,bk a.sRow e λf c b=>a.apart.1.1 (by rw[c,b]),bk a.pRow e λf c b=>a.apart.1.2.1 (by rw[c,b]),bk a.lRow e λf c b=>a.apart.1.2.2 (by rw[c,b]),a.sIs,a.pIs,t,u,a.apart,⟨by omega,by omega,by show d.links.length<=k+1;omega,f4⟩⟩,λf c=>ah c⟩,e.mono λf _ b=>ah b⟩;have h:=a.free p;unfold World.frozen? at h ⊢;rw[e.block bg m (λb=>g b.symm)];exact h
theorem ex.one(c:ex base db self n D k nx d w l bg bc sd sp sv pv lv)(a:Ac (n+1))(m:iE (n+1) base w a)(A:ND a)(p:1<=self/\self<=99)(y:k<=7):ak 154 #[aC db,ON a] w λe w'=>∃t,e=.returned (.bool t)/\Hid (yB base db self n D k nx d a (lE db bg sv pv lv) w t w'):=by
 obtain⟨f,r,s⟩:=A;have o:=c.own.2.2.2.2;refine Kj a.1 a.2.1.1.1.1 a.2.1.1.1.2.1 a.2.1.1.1.2.2 a.2.1.1.2.1.1 a.2.1.1.2.2.length a.2.1.1.2.1.2 a.2.1.2.1.1 a.2.1.2.1.2.1 a.2.1.2.1.2.2 a.2.1.2.2.1.1 a.2.1.2.2.2.length a.2.1.2.2.1.2 a.2.2.1 a.2.2.2 db w (yB base db self n D k nx d a (lE db bg sv pv lv) w) c.lt ⟨d.stops,ag c.box 6,tX c.box 6⟩ ?_ ?_ ?_ ?_
 ·intro i h b;refine((c.later b).send a (m.later (b.mono o)) (r (ah i)) (s (ah i)) i p (by omega)).mono ?_;rintro e w' ⟨t,rfl,g⟩;exact⟨t,rfl,g.from b⟩
 ·intro j h b;have x:dQ a.2.2.1=true/\0<=a.2.2.2/\a.2.2.2<4:=by
   have z:¬a.1=1:=by omega
   unfold nR at f;rw[if_neg z,if_pos j]at f;simp only[aG,cd]at f;exact⟨f.1.1.2,f.1.2,f.2⟩
  refine((c.later b).spawn a (m.later (b.mono o)) (s (ai j)) j x.1 x.2 p y).mono ?_;rintro e w' ⟨t,rfl,g⟩;exact⟨t,rfl,g.from b⟩
 ·intro q h b;refine((c.later b).link a (m.later (b.mono o)) (r (ai q)) q p (by omega)).mono ?_;rintro e w' ⟨t,rfl,g⟩;exact⟨t,rfl,g.from b⟩
 ·intro B C E h b;have u:rm self a d=some {d with stops:=true}:=by
   unfold rm;rw[if_neg B,if_neg C,if_neg E]
  obtain⟨F,G⟩:=(c.later b).stop;refine yB.from ⟨G,by rw[u];rfl,λH v=>?_⟩ b;rw[u]at v;obtain rfl:=aw v;exact F
theorem ex.all(G:ex base db self n D 0 nx d w l bg bc sd sp sv pv lv)(ac:List (Ac (n+1)))(K:Option Addr)(T:Nat)(N:p8 base w 11 (f9 (n+1)) (iE (n+1) base w) K ac)(ab:∀a∈ac,ND a)(W:ac.length<=8)(ad:1<=self/\self<=99):ak 116 #[aC db,ae K ac.length T] w λe w'=>∃t,e=.returned (.bool t)/\Hid (bt (lE db bg sv pv lv) w w'/\t=(qj self ac d).isSome/\∀g,qj self ac d=some g->Do base db self n D 8 nx g (lE db bg sv pv lv) w w'):=by
 have aa:=G.own.2.2.2.2;have Q:∀{c:World},bt (lE db bg sv pv lv) w c->Below base w c:=λj=>j.below aa λb X k=>by
  have:=G.high b k;omega
 refine(IZ ac K ac.length T db w (λi c=>bt (lE db bg sv pv lv) w c/\∃g,qj self (ac.take i) d=some g/\Do base db self n D i nx g (lE db bg sv pv lv) w c) (λc=>bt (lE db bg sv pv lv) w c/\qj self ac d=none) (by omega) rfl ?_ ?_ ?_ ?_).mono ?_
 ·rintro i a c h ⟨j,_⟩;rcases N with e|⟨b,o,e,R,I⟩
  ·rw[e]at h;simp at h
  ·exact⟨b,o,e,λS av Z=>((Q j).cell (p:=⟨b,o+i*11+S,none⟩) R).trans ((I i a h).1 S av Z)⟩
 ·rintro i c ax ⟨j,g,H,z,x,v,C,E,F,B,A,q,m⟩ M;exact⟨j.trans (aK M (λ_=>False)) λ_ _ e=>e.elim,g,H,z,x,v,C,E,F,B,A,q.later M,m⟩
 ·rintro i a c h ⟨j,g,H,z,x,v,C,E,F,B,A,q,m⟩;have ay:=(aS.1 h).1;have Y:iE (n+1) base c a:=by
   rcases N with e|⟨b,o,e,R,I⟩
   ·rw[e]at h;simp at h
   ·exact((I i a h).2).later (Q j)
  refine(q.one a Y (ab a (aJ h)) ad (by omega)).mono ?_;rintro e w' ⟨t,rfl,u⟩;obtain⟨s,f,L⟩:=u.out;have y:=Jt self h d;rw[H]at y;simp only[dB]at y;have P:bt (lE db bg sv pv lv) w w':=j.trans s λb X k=>by
   rcases m b k with e|e
   ·exact e
   ·omega
  refine⟨t,rfl,λag=>⟨P,?_⟩,λaf=>⟨P,?_⟩⟩
  ·rw[ag]at f;obtain⟨d2,r⟩:=fu.1 f.symm;obtain⟨an,V,U,aq,ar,au,ap,ao,aj,al⟩:=L d2 r;refine⟨d2,by rw[y,r],an,V,U,aq,ar,au,ap,ao,aj,λk J=>?_⟩;rcases al k J with e|e
   ·exact m k e
   ·have:=j.size;exact ai (by omega)
  ·rw[af]at f;refine Jr self (i:=i+1) ?_;rw[y];exact kN.1 (by rw[<-kO,<-f];rfl)
 ·exact⟨bt.refl _ _,d,rfl,l,bg,bc,sd,sp,sv,pv,lv,G,λk J=>ah J⟩
 ·rintro e w' ⟨t,rfl,u⟩;refine⟨t,rfl,?_⟩;cases t
  ·obtain⟨s,f⟩:=u.out.2 rfl;refine⟨s,by rw[f];rfl,λg O=>?_⟩;rw[f]at O;cases O
  ·obtain⟨s,g,f,L⟩:=u.1 rfl;rw[bA (am _)]at f;refine⟨s,by rw[f];rfl,λd2 r=>?_⟩;rw[f]at r;obtain rfl:=aw r;obtain⟨z,x,v,C,E,F,B,A,q,m⟩:=L;exact⟨z,x,v,C,E,F,B,A,q.more W,m⟩
end
end Go.Proofs.YtmmahddlcldmiaaGreat
