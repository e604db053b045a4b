/- Proved here: plain facts and contracts. No condition but what each names. -/
import Derived.Test.YtmmahddlcldmiaaGreatDoorT15
namespace Go.Proofs.YtmmahddlcldmiaaGreatDoor
open Go.RowKit Go.Proofs.Tryz
set_option maxHeartbeats 2000000
set_option maxRecDepth 100000
section
variable {base pb:Nat} {name:ByteArray} {room:Int} {N:Nat} {s:Tm (N+1)} {ms:List (Tm (N+1))} {xs:List (Wd×Tm (N+1))} {nk:Nat} {M:Nat->Prop} {w:World} {ws:List Wd} {nm:List ByteArray} {sv:Wd} {vs:List Wd} {ma:Option Addr} {mc:Nat} {Mh:Nat->Prop}
def zi(N:Nat)(x:Tm N)(room:Int)(s:Tm N)(ms:List (Tm N)):Int:=if 20<=ms.length then 2 else sF N x room (s::ms)
theorem cD.box0(a:cD base pb name room (N+1) s ms xs nk M w ws nm sv vs ma mc Mh):Mh pb/\pb<w.heap.size:=by
 obtain⟨f,d,e,b,_⟩:=a.heap.box;obtain⟨_,_,_,_,_,_,c,_⟩:=a.heap;exact⟨c,(PL.cells b).2.2.2.2.2⟩
theorem cD.more{v:Wd}{x:Tm (N+1)}(a:cD base pb name room (N+1) s ms [(v,x)] nk M w ws nm sv vs ma mc Mh){g:Option Addr}{h:Nat}{i:World}(C:qL Mh ma (vs++ [v]) w g h i):cD base pb name room (N+1) s (ms++ [x]) [] nk (λb=>M b\/w.heap.size<=b) (i.setCell ⟨pb,7,none⟩ (.slice g (vs++ [v]).length h)) ws nm sv (vs++ [v]) g h Mh/\bV M w (i.setCell ⟨pb,7,none⟩ (.slice g (vs++ [v]).length h)):=by
 obtain⟨E,r,F⟩:=C;obtain⟨q,G⟩:=a.box0;have D:∀d,ma=some d->¬Mh d.block:=λd c f=>by
  rcases a.mail with⟨e,_⟩|⟨m,t,o,l,j,_⟩
  ·rw[e]at c;cases c
  ·rw[l]at c;rw[<-aw c]at f;exact j f
 have A:dK base (PL pb name sv (ae ma vs.length mc)) room ws nm Mh i:=a.heap.kept r λb n _ f=>by
  obtain⟨d,c,rfl⟩:=f;exact D d c n
 have k:=bm i pb 7 (.slice g (vs++ [v]).length h);refine⟨⟨A.turn k λI H mp B=>?_,?_,?_,?_,a.names,λb n=>ah (a.inM b n),λd c=>?_⟩,?_⟩
 ·unfold World.setCell;simp[bN,B]
 ·rcases E with e|⟨m,t,o,l,j,p,y⟩
  ·exact ah e
  ·exact ai ⟨m,t,o,l,j,(k.block m (aF.1 p).1 λe=>j (by rw[e];exact q)).trans p,y⟩
 ·have:=a.has;simpa using this
 ·simp[a.len]
 ·rcases F d c with⟨u,z,e⟩|e
  ·rw[e];exact ah (a.mailM u z)
  ·exact ai (by omega)
 ·refine bV.trans (r.mono λb f=>?_) k λb _ f=>?_
  ·obtain⟨d,c,rfl⟩:=f;exact a.mailM d c
  ·rw[f];exact a.inM pb q
def PU(base pb:Nat)(name:ByteArray)(room:Int)(N:Nat)(s:Tm N)(ms:List (Tm N))(x:Tm N)(nk:Nat)(M:Nat->Prop)(w:World)(e:Ending)(w':World):Prop:=
 e=.returned (ab (zi N x room s ms))/\Hid (∃i f g h c d a,cD base pb name room N s (if zi N x room s ms=0 then ms++ [x]else ms) [] (nk+201) (λb=>M b\/w.heap.size<=b) w' i f g h c d a/\bV M w w')
theorem cD.deliver(z:cD base pb name room (N+1) s ms [] nk M w ws nm sv vs ma mc Mh)(x:Tm (N+1))(ay:In w.heap.size w (N+1) x)(ap:cd (λb=>¬M b) (N+1) x)(ag:(ax (N+1) x).length<=2097152)(L:∀b,M b->b<w.heap.size)(ao:nk<=49000)(ad:ms.length<=999)(aK:base<=w.heap.size):am 105 #[aB pb,df (N+1) x] w (PU base pb name room (N+1) s ms x nk M w):=by
 have aN:=z.len;obtain⟨aO,au⟩:=z.box0
 refine(qZ pb x.1.1 x.1.2.1 x.1.2.2 x.2.1.1 x.2.2.length x.2.1.2 vs.length mc ma w
  (λh r p q=>r=sF (N+1) x room (s::ms)/\bV M w q/\w.heap.size<=p.heap.size/\∃o m n i g k j,cD base pb name room (N+1) s ms (if r=0 then [(h,x)]else []) (nk+201) (λb=>(M b\/p.heap.size<=b)/\b<q.heap.size) q o m n i g k j)
  (λh p v E F G=>bV M w v/\w.heap.size<=p.heap.size/\∃o m n i g k j,cD base pb name room (N+1) s ms [(h,x)] (nk+201) (λb=>M b\/p.heap.size<=b) v o m n i g k j/\qL j g (i++ [h]) v E F G) au ?_ ?_ ?_).mono ?_
 ·intro q e;obtain⟨X,V,W,f,_⟩:=(z.later e).heap.box;exact(PL.cells f).2.2.2.1
 ·intro p e;have D:=e.size;refine((z.later e).put x ((ay.below e).mono D) ap ag (λb d=>aR (L b d) D) ao ad (by omega)).mono ?_;rintro y q ⟨h,rfl,o,m,n,i,g,k,j,f,u⟩;refine⟨h,_,rfl,⟨u.size,λb aA _ aD=>u.block b aD λd=>?_⟩,rfl,(aY e M).trans u λ_ _ d=>d,D,o,m,n,i,g,k,_,f.inside⟩;have:=L b d;omega
 ·rintro h p q ⟨J,u,T,o,m,n,i,g,k,j,f⟩;rw[if_pos rfl]at f;have aL:=f.len;have I:i.length=vs.length:=by omega
  refine⟨g,k,λv e=>?_,λv e sa c av=>?_⟩
  ·obtain⟨X,V,W,l,_⟩:=(f.later e).heap.box;rw[I]at l;exact⟨(PL.cells l).2.2.2.1,(PL.cells l).2.2.2.2.1⟩
  ·have t:=f.later e;have D:=e.size;obtain⟨E,F,G,S,C⟩:=tP 157 t.mail (by omega) (λb d=>aR (f.inM b d).2 D) sa c h av;rw[I]at S;have R:∀b,(∃a,g=some a/\b=a.block)->¬j b/\b<q.heap.size:=λb d=>by
    obtain⟨a,A,rfl⟩:=d;refine⟨λZ=>?_,(f.mailM a A).2⟩;rcases f.mail with⟨y,_⟩|⟨aH,aT,aG,r,ab,_⟩
    ·rw[y]at A;cases A
    ·rw[r]at A;rw[<-aw A]at Z;exact ab Z
   obtain⟨aq,ar⟩:=t.box0;have P:G.heap[pb]?=v.heap[pb]? :=C.2.1.block pb ar λd=>(R pb d).1 aq;obtain⟨X,V,W,l,_⟩:=t.heap.box;rw[I]at l;refine⟨E,F,G,S,(bt P 7).trans (PL.cells l).2.2.2.1,λU=>?_,λb aA aC=>C.2.1.block b aC λd=>?_,?_⟩
   ·exact(jj (a:=⟨pb,U,none⟩) P).trans ((PL.cells l).2.2.2.2.1 U)
   ·have:=(R b d).2;omega
   ·exact⟨u.trans (aY e M) λ_ _ d=>d,T,o,m,n,i,g,k,j,t.mono (λb d=>d.1) (ak _),C⟩
 ·rintro y aU ⟨af,l⟩;by_cases K:20<=ms.length
  ·obtain⟨rfl,e⟩:=af (by omega);have B:zi (N+1) x room s ms=2:=by simp[zi,K]
   refine⟨by rw[B],ws,nm,sv,vs,ma,mc,Mh,?_,aY e M⟩;rw[B];exact(z.later e).mono (λb d=>ah d) (by omega)
  ·obtain⟨h,r,p,q,rfl,e,⟨J,u,T,o,m,n,i,g,k,j,f⟩,an,aj⟩:=l (by omega);have B:zi (N+1) x room s ms=r:=by simp[zi,K,J]
   refine⟨by rw[B],?_⟩;rw[B];by_cases H:r=0
   ·obtain⟨v,E,F,G,aJ,⟨Q,_,aF,az,aE,Y,aQ,aS,aa,t,C⟩,rfl⟩:=aj H;have aM:=t.len;have y:vs.length+1=(Y++ [h]).length:=by simp;omega
    obtain⟨ae,al⟩:=t.more C;rw[y,if_pos H];have aP:=Q.size;refine⟨aF,az,aE,Y++ [h],E,F,aa,ae.mono (λb d=>?_) (ak _),Q.trans al λb aI d=>?_⟩
    ·rcases d with(d|d)|d
     ·exact ah d
     ·exact ai (by omega)
     ·exact ai (by omega)
    ·rcases d with d|d
     ·exact d
     ·omega
   ·have O:=an H;rw[if_neg H]at f ⊢;refine⟨o,m,n,i,g,k,j,(f.later O).mono (λb d=>?_) (ak _),u.trans (aY O M) λ_ _ d=>d⟩;rcases d.1 with d|d
    ·exact ah d
    ·exact ai (by omega)
end
theorem Ht(y:ByteArray)(k i:Int)(t:ByteArray)(l:Option Addr)(n m:Nat)(room:Int)(w:World)(r:Bool)(C:Wd->Int->World->World->Prop)(H:Hid (∀w1:World,am 47 #[af y] w1 λe w'=>e=.returned (.bool r)/\w'=w1))(Q:Hid (r=true->∀w1:World,am 55 #[af y] w1 λe w'=>e=.returned (af y)/\aj w1 w'))(P:Hid (0<=room/\room<=1000->∀w2,HB (cu.own (w.heap.size+1)) room (ae none 0 0) (ae none 0 0) (.map none) w2->w2.heap.size=w.heap.size+1+1->aj w w2->am 79 #[.pointer (some ⟨w.heap.size+1,0,none⟩),.agg #[ab k,ab i,af t,ae l n m]] w2 λe b=>∃(v:Wd)(c:Int),e=.returned (.tuple #[.agg #[ab v.1,ab v.2],ab c])/\Hid (∃tv lv mv,b.heap[w.heap.size+1]?=some (.cells #[ab room,tv,lv,mv] 164)/\C v c w2 b))):am 40 #[af y,.agg #[ab k,ab i,af t,ae l n m],ab room] w λe w'=> (r=false->e=.returned (.tuple #[.pointer none,ab 5])/\aj w w')/\(r=true->¬(0<=room/\room<=1000)->e=.returned (.tuple #[.pointer none,ab 1])/\aj w w')/\ (r=true->0<=room/\room<=1000->∃(v:Wd)(c:Int)(w2 b:World),Hid (aj w w2/\w2.heap.size=w.heap.size+1+1/\C v c w2 b)/\(c≠0->e=.returned (.tuple #[.pointer none,ab c])/\aj b w')/\ (c=0->∃(s:World)(tv lv mv:Value),e=.returned (.tuple #[aB s.heap.size,ab 0])/\aj b s/\b.heap[w.heap.size+1]?=some (.cells #[ab room,tv,lv,mv] 164)/\w'=s.alloc (.cells #[af y,ab room,tv,lv,mv,ab v.1,ab v.2,ae none 0 0] 166))):=by
 have O:=aq (xL w (.cells #[ab k,ab i,af t,ae l n m] 28) rfl);have o:Hid (aj w (w.alloc (.cells #[ab k,ab i,af t,ae l n m] 28))/\(w.alloc (.cells #[ab k,ab i,af t,ae l n m] 28)).heap.size=w.heap.size+1):=⟨by go_grown,by simp⟩;cases r with
 | false=>
  go_enter func40,ntmps40;go_wp2_with (go_at_call 47;refine(H _).mono ?_;rintro e w1 ⟨rfl,rfl⟩);exact av (v:=.tuple #[.pointer none,ab 5]) (by simp[results,results40,go_sem]) rfl ⟨λ_=>⟨rfl,o.1⟩,λa=>(by cases a),λa=>(by cases a)⟩
 | true=>
  have R:=aq (Q rfl);go_enter func40,ntmps40;go_wp2_with (go_at_call 47;refine(H _).mono ?_;rintro e w1 ⟨rfl,rfl⟩);refine(MU _ _).mono ?_;rintro e w2 ⟨p,g⟩;by_cases q:0<=room/\room<=1000;rotate_left
  ·obtain⟨rfl,rfl⟩:=p q;clear p g;go_wp2_with fail;exact av (v:=.tuple #[.pointer none,ab 1]) (by simp[results,results40,go_sem]) rfl ⟨λa=>(by cases a),λ_ _=>⟨rfl,o.out.1⟩,λ_ a=>absurd a q⟩
  ·obtain⟨rfl,d⟩:=g q;clear p g;replace d:=aq d;rw[o.out.2]at d;have G:Hid (aj w w2):=o.1.trans (d.2.2.mono (by first|exact fQ _|exact o.1.size));have I:=aq (P q w2 d.1 d.2.1 G);have x:Hid (w2.heap[w.heap.size]?=some (.cells #[ab k,ab i,af t,ae l n m] 28)):=(d.2.2.block _ (by have:=o.2;omega)).trans O;have t0:w2.cell? ⟨w.heap.size,0,none⟩=some (ab k):=au x 0;have t1:w2.cell? ⟨w.heap.size,1,none⟩=some (ab i):=au x 1;have t2:w2.cell? ⟨w.heap.size,2,none⟩=some (af t):=au x 2;have t3:w2.cell? ⟨w.heap.size,3,none⟩=some (ae l n m):=au x 3;go_wp2_with fail;refine I.mono ?_;rintro e b ⟨v,c,rfl,F⟩;obtain⟨tv,lv,mv,u,z⟩:=F.out;replace u:=aq u;replace z:=aq (show aj w w2/\w2.heap.size=w.heap.size+1+1/\C v c w2 b from⟨G,d.2.1,z⟩);clear F I t0 t1 t2 t3 x d;by_cases E:c=0;rotate_left
   ·have S:¬(0:Int)=c:=λe=>E e.symm;go_wp2_with fail;exact av (v:=.tuple #[.pointer none,ab c]) (by simp[results,results40,go_sem]) rfl ⟨λa=>(by cases a),λ_ a=>absurd q a,λ_ _=>⟨v,c,w2,b,z,λ_=>⟨rfl,aN⟩,λa=>absurd a E⟩⟩
   ·subst E;go_wp2_with fail;have J:Hid (∃j h,(j=b.alloc (.cells #[ab v.1,ab v.2] 154)/\h=b.heap.size)/\aj b j/\j.heap[h]?=some (.cells #[ab v.1,ab v.2] 154)):=⟨_,_,⟨rfl,rfl⟩,aN,aE _ _⟩;obtain⟨j,h,⟨N,M⟩,f⟩:=J.out;rw[<-N,<-M];replace f:=aq f;clear N M J;have B:Hid (∀w':World,aj j w'->w'.cell? ⟨w.heap.size+1,0,none⟩=some (ab room)/\w'.cell? ⟨w.heap.size+1,1,none⟩=some tv/\w'.cell? ⟨w.heap.size+1,2,none⟩=some lv/\w'.cell? ⟨w.heap.size+1,3,none⟩=some mv/\w'.cell? ⟨h,0,none⟩=some (ab v.1)/\w'.cell? ⟨h,1,none⟩=some (ab v.2)):=λw' a=>by
     have p:=(a.block h (aF.1 f.2).1).trans f.2;have L:=(aF.1 u).1;have g:=(a.block _ (aR L f.1.size)).trans ((f.1.block _ L).trans u);exact⟨au g 0,au g 1,au g 2,au g 3,au p 0,au p 1⟩
    obtain⟨T,U,V,W,X,Y⟩:=B.out j (ap _ _);have D:Hid (aj j j.drew):=(ap _ _).drew
    go_region_held3 (λw'=>w'.cell? ⟨w.heap.size+1,0,none⟩=some (ab room)/\w'.cell? ⟨w.heap.size+1,1,none⟩=some tv/\w'.cell? ⟨w.heap.size+1,2,none⟩=some lv/\w'.cell? ⟨w.heap.size+1,3,none⟩=some mv/\w'.cell? ⟨h,0,none⟩=some (ab v.1)/\w'.cell? ⟨h,1,none⟩=some (ab v.2)) (first|(go_keep;done)|with_reducible exact B _ D|exact B _ A|exact B _ (A.trans (aN.mono A.size)))
     ((go_at_call 55;refine(R _).mono ?_;rintro e s ⟨rfl,K⟩;have A:=aq (D.trans (K.mono D.size));clear K))
    go_wp2_with fail;exact av (v:=.tuple #[aB s.heap.size,ab 0]) (by simp[results,results40,go_sem]) rfl ⟨λa=>(by cases a),λ_ a=>absurd q a,λ_ _=>⟨v,0,w2,b,z,λa=>absurd rfl a,λ_=>⟨s,tv,lv,mv,rfl,f.out.1.trans (A.out.mono f.out.1.size),u.out,rfl⟩⟩⟩
def fX(N:Nat)(x:Tm N)(room:Int)(name:ByteArray):Int:=if dF name=false then 5 else if¬(0<=room/\room<=1000)then 1 else jL N x room []
def Pn(N:Nat)(x:Tm N)(room:Int)(name:ByteArray)(w:World)(e:Ending)(w':World):Prop:=
 (fX N x room name≠0->e=.returned (.tuple #[.pointer none,ab (fX N x room name)])/\aj w w')/\
 (fX N x room name=0->∃a,e=.returned (.tuple #[aB a,ab 0])/\Hid (w.heap.size<=a/\aj w w'/\∃g d f c,cD w.heap.size a name room N x [] [] 201 (λb=>w.heap.size<=b/\b<w'.heap.size) w' g d f [] none 0 c))
theorem xI{s:ByteArray}(a:dF s=true):s.size<=2048:=by
 simp only[dF,oe,aA,bO]at a;omega
theorem In.offBelow{B:Nat}{w:World}:{n:Nat}->{x:Tm n}->In B w n x->cd (λb=>b<B) n x
 | 0,_,k=>k
 | _+1,_,k=>by
  obtain⟨_,a⟩:=k;rcases a with a|⟨b,o,e,c,a⟩
  ·exact ah a
  ·exact ai ⟨b,o,e,c,λi y d=>(a i y d).2.offBelow⟩
theorem BW(N:Nat)(x:Tm (N+1))(room:Int)(name:ByteArray)(w:World)(av:name.size<=9223372036854775807)(O:In w.heap.size w (N+1) x)(ak:(ax (N+1) x).length<=2097152):am 40 #[af name,df (N+1) x,ab room] w (Pn (N+1) x room name w):=by
 refine(Ht name x.1.1 x.1.2.1 x.1.2.2 x.2.1.1 x.2.2.length x.2.1.2 room w (dF name) (λe l o p=>aj w p/\yJ (N+1) x w.heap.size (cu.own (w.heap.size+1)) room [] [] (λb=>b=w.heap.size+1) e l o p) ?_ ?_ ?_).mono ?_
 ·intro D;exact iK name D av
 ·intro a D;exact dR name D (xI a)
 ·intro d o H aJ m;have s:=m.size;have aa:dK w.heap.size (cu.own (w.heap.size+1)) room [] [] (λb=>b=w.heap.size+1) o:=⟨ae none 0 0,ae none 0 0,.map none,H,eH _ _ _ _,⟨eH _ _ _ _,by simp,ah ⟨rfl,rfl,rfl⟩⟩,rfl,λb f=>by simp[Value.ownBlock]at f,λb f=>by simp[Value.ownBlock]at f,λb f=>by simp[mapBlock]at f⟩;refine(ve (N+1) x w.heap.size (cu.own (w.heap.size+1)) room [] [] (λb=>b=w.heap.size+1) o aa ((O.below m).mono s) ((In.offBelow O).mono λb c f=>by omega) ak s d.1 d.2 (by simp) (by simp)).mono ?_;intro f p au;obtain⟨e,l,rfl,i⟩:=zK au;have I:∀{E:Nat->Prop},bV E o p->(∀b,E b->w.heap.size<=b)->aj w p:=λk al=>⟨k.os.trans m.os,k.tape.trans m.tape,k.output.trans m.output,az s k.size,λb L=>(k.block b (aR L s) λc=>by have:=al b c;omega).trans (m.block b L)⟩;refine⟨e,l,rfl,?_⟩;by_cases g:l=0
  ·obtain⟨_,_,t,P⟩:=i.2.2 g;obtain⟨C,A,B,ag,_⟩:=t;exact⟨C,A,B,ag.2,I P λb c=>by omega,i⟩
  ·have n:=(i.2.1 g).2;exact⟨_,_,_,(n.block _ (by omega)).trans H.2,I (aY n λ_=>False) λb c=>c.elim,i⟩
 ·rintro f aM ⟨X,Y,Z⟩;cases hn:dF name with
  | false=>
   have h:fX (N+1) x room name=5:=by simp[fX,hn]
   refine⟨λ_=>by rw[h];exact X hn,λa=>by rw[h]at a;cases a⟩
  | true=>
   by_cases d:0<=room/\room<=1000;rotate_left
   ·have h:fX (N+1) x room name=1:=by simp[fX,hn,d]
    refine⟨λ_=>by rw[h];exact Y hn d,λa=>by rw[h]at a;cases a⟩
   ·obtain⟨e,l,o,p,Q,d1,d2⟩:=Z hn d;obtain⟨aG,aK,n,i⟩:=Q;have h:fX (N+1) x room name=l:=by rw[i.1];simp[fX,hn,d]
    have M:=n.size;rw[Pn,h];refine⟨λg=>⟨(d1 g).1,n.trans ((d1 g).2.mono M)⟩,λg=>?_⟩;obtain⟨j,C,A,B,rfl,r,J,rfl⟩:=d2 g;have aI:=r.size;obtain⟨K,ay,t,P⟩:=i.2.2 g;have aq:=t.nodup;have ad:=(t.later r);obtain⟨y,u,v,R,S,T,aD,U,V,W⟩:=ad;have ao:=(aF.1 J).1;have F:(Obj.cells #[ab room,y,u,v] 164)=(Obj.cells #[ab room,C,A,B] 164):=aw (R.2.symm.trans ((r.block _ ao).trans J));simp only[Obj.cells.injEq,Array.mk.injEq,List.cons.injEq,and_true,true_and]at F;obtain⟨rfl,rfl,rfl⟩:=F;have z:aj j (j.alloc (.cells #[af name,ab room,y,u,v,ab e.1,ab e.2,ae none 0 0] 166)):=aN;have aA:(j.alloc (.cells #[af name,ab room,y,u,v,ab e.1,ab e.2,ae none 0 0] 166)).heap.size=j.heap.size+1:=by simp
    refine⟨j.heap.size,rfl,by omega,(n.trans (r.mono M)).trans (z.mono (by omega)),(aV (N+1) x [] []).2.1,(aV (N+1) x [] []).2.2,e,λb=>b=j.heap.size\/(w.heap.size<=b/\b<j.heap.size),?_⟩;have an:jV (N+1) [] [] room [] ([]:List (Tm (N+1))):=⟨⟨rfl,λaL e aB a=>by simp at a⟩,by simp,λaB a=>by simp at a,by simp,by simp;exact d.1,d.1,d.2,by simp⟩;have ap:=an.lay x K aq;have ar:=(iL (N+1) x [] []).2;have aH:=l7 K.1;simp only[jF]at ar;refine⟨⟨y,u,v,⟨⟨rfl,ai rfl⟩,aE _ _⟩,dV S (aY z λ_=>False) (λ_ _ c=>c),T.kept (aY z λ_=>False) (λ_ _ c=>c) (λ_ _ c=>c),ah rfl,λb c=>ai ?_,λb c=>ai ?_,λb c=>ai ?_⟩,ah ⟨rfl,rfl,rfl⟩,?_,rfl,by omega,λb c=>?_,λaC a=>by cases a⟩
    ·have a:=U b c;have G:=a.2;rcases a.1 with q|q<;>exact⟨by omega,by omega⟩
    ·have a:=V b c;have G:=a.2;rcases a.1 with q|q<;>exact⟨by omega,by omega⟩
    ·have a:=W b c;have G:=a.2;rcases a.1 with q|q<;>exact⟨by omega,by omega⟩
    ·rw[ay];exact ap
    ·rw[aA];rcases c with c|c<;>exact⟨by omega,by omega⟩
def uk(w:World)(c:Nat)(a b:Int):World:=(w.setCell ⟨c,5,none⟩ (ab a)).setCell ⟨c,6,none⟩ (ab b)
def PS(b d e:Nat)(t0 t1:Int)(t2:ByteArray)(g:Option Addr)(i h:Nat)(s0 s1:Int)(f:ByteArray)(sa:Option Addr)(sl sc:Nat)(W:World):Prop:=
 W.heap[d]?=some (.cells #[ab t0,ab t1,af t2,ae g i h] 28)/\W.heap[e]?=some (.cells #[ab s0,ab s1,af f,ae sa sl sc] 28)/\(∃a,W.cell? ⟨b,5,none⟩=some (ab a))/\(∃a,W.cell? ⟨b,6,none⟩=some (ab a))/\∀c,W.frozen? ⟨b,c,none⟩=false
theorem AK(t0 t1:Int)(t2:ByteArray)(m:Option Addr)(o n:Nat)(c:Nat)(w:World)(S:Int->Int->ByteArray->Option Addr->Nat->Nat->World->Prop)(P1:World->Wd->Int->World->Prop)(R:Bool->World->Prop)(aH:Hid (∀W,aj w W->am 43 #[aB c] W λe w'=>∃s0 s1 h sa sl sc,e=.returned (.agg #[ab s0,ab s1,af h,ae sa sl sc])/\Hid (aj W w'/\S s0 s1 h sa sl sc w')))(az:Hid (∀W,aj w W->(∃a,W.cell? ⟨c,5,none⟩=some (ab a))/\(∃a,W.cell? ⟨c,6,none⟩=some (ab a))/\(∀j,W.frozen? ⟨c,j,none⟩=false)/\c<w.heap.size))(aG:Hid (∀s0 s1 h sa sl sc aO H g i,S s0 s1 h sa sl sc aO->aj aO H->aj w H->w.heap.size<=g->w.heap.size<=i->PS c g i t0 t1 t2 m o n s0 s1 h sa sl sc (uk H c 1 0)->am 127 #[aB c,.agg #[ab t0,ab t1,af t2,ae m o n]] (uk H c 1 0) λe w'=>∃(v:Wd)(r:Int),e=.returned (.tuple #[.agg #[ab v.1,ab v.2],ab r])/\Hid (PS c g i t0 t1 t2 m o n s0 s1 h sa sl sc w'/\P1 H v r w'/\ (r=0->∀W,aj w' W->R true (uk W c v.1 v.2))/\ (r≠0->∀W d,aj w' W->w'.heap.size<=d->d<W.heap.size->am 127 #[aB c,.agg #[ab s0,ab s1,af h,ae sa sl sc]] W λe L=>∃(v2:Wd)(aP:Int),e=.returned (.tuple #[.agg #[ab v2.1,ab v2.2],ab aP])/\Hid ((∀a4,W.heap[d]?=some a4->L.heap[d]?=some a4)/\((∃a,L.cell? ⟨c,5,none⟩=some (ab a))/\(∃a,L.cell? ⟨c,6,none⟩=some (ab a))/\∀j,L.frozen? ⟨c,j,none⟩=false)/\∀aN,br (λb=>b=d) L aN->R false (uk aN c v2.1 v2.2)))))):am 122 #[aB c,.agg #[ab t0,ab t1,af t2,ae m o n]] w λe w'=>∃t,e=.returned (.bool t)/\Hid (R t w'):=by
 have aJ:Hid (∃Y l,(Y=w.alloc (.cells #[ab t0,ab t1,af t2,ae m o n] 28)/\l=w.heap.size)/\aj w Y/\Y.heap[l]?=some (.cells #[ab t0,ab t1,af t2,ae m o n] 28)/\w.heap.size<=l):=⟨_,_,⟨rfl,rfl⟩,(ap _ _).alloc (ak _) _,aE _ _,ak _⟩;go_enter func122,ntmps122;go_wp2_with fail;obtain⟨Y,g,⟨a0,aZ⟩,aR,J,aW⟩:=aJ.out;rw[<-a0,<-aZ];have aa:=aq aR;have x:=aq J;have aA:=aq aW;clear a0 aZ aR J aW aJ;refine(aH _ aa).mono ?_;rintro e Z ⟨s0,s1,h,sa,sl,sc,rfl,M⟩;have O:=aq (aa.trans (M.1.mono aa.size));have aK:Hid (∃k l,(k=Z.alloc (.cells #[ab s0,ab s1,af h,ae sa sl sc] 28)/\l=Z.heap.size)/\aj Z k/\k.heap[l]?=some (.cells #[ab s0,ab s1,af h,ae sa sl sc] 28)/\w.heap.size<=l/\k.heap[g]?=some (.cells #[ab t0,ab t1,af t2,ae m o n] 28)):=by
  have bc:=(aF.1 x).1;have aQ:=(M.1.block g bc).trans x;exact⟨_,_,⟨rfl,rfl⟩,(ap _ _).alloc (ak _) _,aE _ _,O.size,(((ap _ _).alloc (ak _) _).block g (aF.1 aQ).1).trans aQ⟩
 have aI:=aq M.2;clear M aH x;go_upto_region 2 with fail;obtain⟨k,i,⟨a1,s⟩,ar,aT,aX,J⟩:=aK.out;rw[<-a1,<-s];have ad:=aq (O.trans (ar.mono O.size));have ay:=aq ar;have al:=aq aT;have x:=aq J;have aC:=aq aX;clear a1 s ar aT aX J aK;obtain⟨⟨bj,a7⟩,⟨bk,a8⟩,T,bo⟩:=az.out k ad;have f5:=T 5;have f6:=T 6;have u:Hid (PS c g i t0 t1 t2 m o n s0 s1 h sa sl sc (uk k c 1 0)):=by
  have aV:br (λb=>b=c) k (uk k c 1 0):=br.trans (bD k c 5 _) (bD _ c 6 _) λ_ _ e=>e;refine⟨(aV.block g (aF.1 x).1 (by have:=aA.out;omega)).trans x,(aV.block i (aF.1 al).1 (by have:=aC.out;omega)).trans al,⟨1,?_⟩,⟨0,?_⟩,λj=>?_⟩
  ·exact(dw 5 (by decide)).trans (gW _ _ _ a7)
  ·exact gW _ _ _ ((dw 6 (by decide)).trans a8)
  ·unfold uk;rw[gG,gG];exact T j
 have ai:=aq (aG s0 s1 h sa sl sc Z k g i aI ay ad aA aC u);clear aG T az;go_upto_region 3 with fail;obtain⟨E,V⟩:∃E,E=uk k c 1 0:=⟨_,rfl⟩;rw[<-V]at ai u;unfold uk at V;rw[<-V];have bf:E.cell? ⟨g,0,none⟩=some (ab t0):=ag u.1 0;have bg:E.cell? ⟨g,1,none⟩=some (ab t1):=ag u.1 1;have bh:E.cell? ⟨g,2,none⟩=some (af t2):=ag u.1 2;have bi:E.cell? ⟨g,3,none⟩=some (ae m o n):=ag u.1 3;clear V a7 a8 f5 f6 x al ad ay O aI u;go_wp2_with fail;refine ai.mono ?_;rintro e F ⟨v,r,rfl,q⟩;have aL:Hid (∃f l,(f=F.alloc (.cells #[ab v.1,ab v.2] 154)/\l=F.heap.size)/\aj F f/\f.heap[l]?=some (.cells #[ab v.1,ab v.2] 154)/\F.heap.size<=l):=⟨_,_,⟨rfl,rfl⟩,(ap _ _).alloc (ak _) _,aE _ _,ak _⟩;go_upto_region 4 with fail;obtain⟨f,d,⟨a2,z⟩,aS,aU,aY⟩:=aL.out;rw[<-a2,<-z];have C:=aq aS;have Q:=aq aU;have aD:=aq aY;clear a2 z aS aU aY aL bf bg bh bi ai;have P:Hid (c<F.heap.size):=by
  obtain⟨a,ao⟩:=q.out.1.2.2.1;exact gV F ⟨c,5,none⟩ ao
 have a9:Hid ((∃a,f.cell? ⟨c,5,none⟩=some (ab a))/\(∃a,f.cell? ⟨c,6,none⟩=some (ab a))/\∀j,f.frozen? ⟨c,j,none⟩=false):=by
  obtain⟨_,_,⟨a,ao⟩,⟨b,bb⟩,y⟩:=q.out.1;refine⟨⟨a,(C.cell (p:=⟨c,5,none⟩) P).trans ao⟩,⟨b,(C.cell (p:=⟨c,6,none⟩) P).trans bb⟩,λj=>?_⟩;have y:=y j;unfold World.frozen? at y ⊢;rw[C.out.block c P.out];exact y
 have bl:f.cell? ⟨d,0,none⟩=some (ab v.1):=ag Q 0;have bm:f.cell? ⟨d,1,none⟩=some (ab v.2):=ag Q 1;by_cases I:r=0
 ·have G:=aq (q.2.2.1 I f C);unfold uk at G;obtain⟨⟨a,X⟩,⟨b,aw⟩,D⟩:=a9;have f5:=D 5;have f6:=D 6;clear D q;subst I;go_wp2_with fail
  go_ret
  exact⟨true,rfl,G⟩
 ·have bn:¬(0:Int)=r:=λe=>I e.symm;have ba:=aq (q.2.2.2 I f d C aD (aF.1 Q).1);have s:=(C.block i (aF.1 q.1.2.1).1).trans q.1.2.1;have bs:f.cell? ⟨i,0,none⟩=some (ab s0):=ag s 0;have bt:f.cell? ⟨i,1,none⟩=some (ab s1):=ag s 1;have bu:f.cell? ⟨i,2,none⟩=some (af h):=ag s 2;have bv:f.cell? ⟨i,3,none⟩=some (ae sa sl sc):=ag s 3;clear s q;go_wp2_with fail;refine ba.mono ?_;rintro e A ⟨v2,aP,rfl,N⟩;have z:=N.1 _ Q;have a5:A.cell? ⟨d,0,none⟩=some (ab v.1):=ag z 0;have a6:A.cell? ⟨d,1,none⟩=some (ab v.2):=ag z 1;have ax:∀j,A.frozen? ⟨d,j,none⟩=false:=λj=>by simp[World.frozen?,z]
  have bd:=ax 0;have be:=ax 1;have aM:Hid (∃B,B=(A.setCell ⟨d,0,none⟩ (ab v2.1)).setCell ⟨d,1,none⟩ (ab v2.2)/\(B.cell? ⟨d,0,none⟩=some (ab v2.1)/\B.cell? ⟨d,1,none⟩=some (ab v2.2))/\br (λb=>b=d) A B):=by
   refine⟨_,rfl,⟨?_,?_⟩,br.trans (bD A d 0 _) (bD _ d 1 _) λ_ _ e=>e⟩
   ·exact(dw 0 (by decide)).trans (gW _ _ _ a5)
   ·exact gW _ _ _ ((dw 1 (by decide)).trans a6)
  clear ax z;go_upto_region 6 with fail;obtain⟨B,a3,⟨y0,y1⟩,K⟩:=aM.out;rw[<-a3];have G:=aq (N.2.2 B K);unfold uk at G;obtain⟨⟨a,X⟩,⟨b,aw⟩,D⟩:=N.out.2.1;have U:=gV A ⟨c,5,none⟩ X;have au:c≠d:=by have:=P.out;have:=aD.out;omega
  have bp:=(K.cell 5 U au).trans X;have bq:=(K.cell 6 U au).trans aw;have an:∀j,B.frozen? ⟨c,j,none⟩=false:=λj=>by
   have y:=D j;unfold World.frozen? at y ⊢;rw[K.block c U au];exact y
  have f5:=an 5;have f6:=an 6;clear a3 aM K X aw D an N a5 a6 bd be U;go_wp2_with fail;exact av (v:=.bool (r==0)) (by simp[results,results122,go_sem]) rfl (ah ⟨bS (by simpa using I),G.out⟩)
def fB(n m:Nat):Option (Tm n)->Option (Tm m)->Prop
 | none,none=>True
 | some x,some y=>ay n x m y=true
 | _,_=>False
theorem nz{n m k l:Nat}{o:Option (Tm n)}{p:Option (Tm m)}{f:Tm n->Option (Tm k)}{g:Tm m->Option (Tm l)}(a:fB n m o p)(b:∀x y,ay n x m y=true->fB k l (f x) (g y)):fB k l (o.bind f) (p.bind g):=by
 cases o with
 | none=>
  cases p with
  | none=>trivial
  | some _=>exact a.elim
 | some x=>
  cases p with
  | none=>exact a.elim
  | some y=>exact b x y a
theorem iN{n m N M:Nat}(c:n<=N)(b:m<=M){x:Tm n}{y:Tm m}(d:aD ⟨n,x⟩)(e:aD ⟨m,y⟩)(a:ay n x m y=true):ay N (aS N n x) M (aS M m y)=true:=
 bH _ _ _ _ _ _ (fx N n c x d) (bH _ _ _ _ _ _ a (dJ _ _ _ _ (fx M m b y e)))
theorem kX:(n:Nat)->(x:Tm n)->(m:Nat)->(y:Tm m)->ay n x m y=true->bU ⟨n,x⟩=bU ⟨m,y⟩/\pF n x=pF m y
 | 0,_,_,_,h=>by simp[ay]at h
 | _+1,_,0,_,h=>by simp[ay]at h
 | n+1,x,m+1,y,h=>by
  simp only[ay,aA,cm]at h;exact⟨h.1.1.1,h.1.1.2⟩
theorem yn{N M:Nat}{a c:Tm N}{b d:Tm M}(h:ay N a M b=true)(i:ay N c M d=true):fB (N+1) (M+1) (tR N a c) (tR M b d):=by
 have e:=kX _ _ _ _ h;have f:=kX _ _ _ _ i;have g:Aa N a c=Aa M b d:=by
  unfold Aa;rw[e.1,e.2,f.1,f.2]
 unfold tR;rw[<-g,<-e.2,<-f.2];cases Aa N a c
 ·simp[fB]
 ·simp[fB,ay,bR,aC]
theorem uz{i:Type}{N M:Nat}(f:i->Option (Tm N))(g:i->Option (Tm M)):(p:List i)->(∀a∈p,fB N M (f a) (g a))->fB (N+1) (M+1) ((cG f p).map (cY N)) ((cG g p).map (cY M))/\((cG f p=none/\cG g p=none)\/∃l r,cG f p=some l/\cG g p=some r/\aC (λx y=>ay N x M y) l r=true)
 | [],_=>⟨by simp[cG,fB,ay,cY,aC],ai ⟨[],[],rfl,rfl,rfl⟩⟩
 | a::p,h=>by
  have b:=h a (by simp);have n:=(uz f g p λx o=>h x (by simp[o])).2;simp only[cG];cases e1:f a with
  | none=>
   rw[e1]at b;cases c:g a with
   | none=>simp[fB]
   | some _=>rw[c]at b;exact b.elim
  | some m=>
   rw[e1]at b;cases c:g a with
   | none=>rw[c]at b;exact b.elim
   | some v=>
    rw[c]at b;have j:ay N m M v=true:=b;rcases n with⟨d,e⟩|⟨l,r,d,e,k⟩
    ·rw[d,e];simp[fB]
    ·rw[d,e];exact⟨by simp[fB,ay,cY,aC,j,k],ai ⟨m::l,v::r,rfl,rfl,by simp[aC,j,k]⟩⟩
theorem rS(m:Nat)(b:List (Tm m))(f:Nat)(a:List (Tm f))(self:Int)(i:aC (λx y=>ay m x f y) b a=true)(p:∀y∈b,aD ⟨m,y⟩)(q:∀y∈a,aD ⟨f,y⟩):(n:Nat)->(x:Tm n)->aD ⟨n,x⟩->fB (m+n) (f+n) (vl m b self n x) (vl f a self n x)
 | 0,_,_=>trivial
 | n+1,x,hx=>by
  have z:=cE _ _ _ i;have w:ay (n+1) x (n+1) x=true:=fy _ _ hx;unfold vl;by_cases k:x.1.1=5
  ·rw[if_pos k,if_pos k];cases e:b[x.1.2.1.toNat]? with
   | none=>
    have g:a[x.1.2.1.toNat]?=none:=by
     rw[List.getElem?_eq_none_iff]at e ⊢;omega
    rw[g];trivial
   | some y=>
    obtain⟨u,_⟩:=aO.1 e;have g:a[x.1.2.1.toNat]?=some a[x.1.2.1.toNat]:=aG (by omega);rw[g];have s:ay m y f a[x.1.2.1.toNat]=true:=jx _ _ _ i _ _ _ e g;simp only[dA];rw[<-(kX _ _ _ _ s).1];by_cases d:bU ⟨m,y⟩=6
    ·rw[if_pos d,if_pos d];trivial
    ·rw[if_neg d,if_neg d];exact iN (by omega) (by omega) (p y (aH e)) (q _ (aH g)) s
  ·rw[if_neg k,if_neg k];by_cases d:x.1.1=6
   ·rw[if_pos d,if_pos d];trivial
   ·rw[if_neg d,if_neg d];by_cases j:x.1.1=4
    ·rw[if_pos j,if_pos j];by_cases r:ua n x.2.2 pT 0=true
     ·rw[if_pos r,if_pos r];simp[fB,ay,bR,aC]
     ·rw[if_neg r,if_neg r];by_cases l:ua n x.2.2 wm 2=true
      ·rw[if_pos l,if_pos l];cases e1:x.2.2[1]? with
       | none=>trivial
       | some h=>
        cases g:x.2.2[2]? with
        | none=>trivial
        | some c=>
         simp only[dA];exact nz (rS m b f a self i p q n h (aU n x h hx (aH e1))) λA C u=>nz (rS m b f a self i p q n c (aU n x c hx (aH g))) λB D v=>yn u v
      ·rw[if_neg l,if_neg l];by_cases o:ua n x.2.2 CG 1=true
       ·rw[if_pos o,if_pos o];cases e1:x.2.2[1]? with
        | none=>trivial
        | some h=>
         have t:=aU n x h hx (aH e1);simp only[dA];cases aK n h
         ·simp[fB]
         ·exact iN (by omega) (by omega) t t (fy _ _ t)
       ·rw[if_neg o,if_neg o];exact(uz _ _ x.2.2 λy s=>rS m b f a self i p q n y (aU n x y hx s)).1
    ·rw[if_neg j,if_neg j];exact iN (by omega) (by omega) hx hx w
def Jt:(D:Nat)->(n:Nat)->Tm n->Tm D
 | 0,_,_=>()
 | _+1,0,_=>((0,0,.empty),(none,0),[])
 | D+1,n+1,x=>(x.1,(none,0),x.2.2.map λy=>Jt D n y)
theorem Ju:(D:Nat)->(n:Nat)->(x:Tm n)->(m:Nat)->(y:Tm m)->ay n x m y=true->Jt D n x=Jt D m y
 | 0,_,_,_,_,_=>rfl
 | D+1,0,_,_,_,h=>by simp[ay]at h
 | D+1,n+1,_,0,_,h=>by simp[ay]at h
 | D+1,n+1,x,m+1,y,h=>by
  obtain⟨c,d⟩:=bG h;have e:=kA _ (λa=>Jt D n a) (λb=>Jt D m b) _ _ (λa _ b f=>Ju D n a m b f) d;simp only[Jt,c,e];rfl
theorem A4{n:Nat}:(l:List (Tm n))->(m:Int)->m<=l.foldl (λm y=>max m (fA n y)) m/\∀y∈l,fA n y<=l.foldl (λm y=>max m (fA n y)) m
 | [],m=>⟨jf _,λy b=>by simp at b⟩
 | a::l,m=>by
  obtain⟨d,c⟩:=A4 l (max m (fA n a));simp only[fo];refine⟨by omega,λy b=>?_⟩;rcases ch.1 b with rfl|b
  ·omega
  ·exact c y b
theorem nX{n:Nat}{x:Tm (n+1)}(e:aD ⟨n+1,x⟩){y:Tm n}(c:y∈x.2.2):fA n y+1<=fA (n+1) x:=by
 have d:x.1.1=4:=by
  have b:=e _ (mQ ..);simp only[cg,aA,gq,cm,ph,decide_eq_false_iff_not]at b;rcases b.2 with a|a
  ·exact a
  ·have:=List.length_pos_of_mem c;omega
 have:=(A4 x.2.2 0).2 y c;simp only[fA,if_pos d];omega
theorem AO:(D:Nat)->(n:Nat)->(x:Tm n)->aD ⟨n,x⟩->fA n x<D->ay D (Jt D n x) n x=true
 | _,0,_,h,_=>(dh h).elim
 | 0,n+1,x,_,h=>by
  have:=(fV (n+1) x).1;omega
 | D+1,n+1,x,hr,h=>cV rfl (iR _ _ _ λy a=>AO D n y (aU n x y hr a) (by
  have:=nX hr a
  omega))
theorem ju:(D:Nat)->(n:Nat)->(x:Tm n)->aD ⟨n,x⟩->fA n x<D->ay D (aS D n x) n x=true
 | _,0,_,h,_=>(dh h).elim
 | 0,n+1,x,_,h=>by
  have:=(fV (n+1) x).1;omega
 | D+1,n+1,x,hr,h=>cV rfl (iR _ _ _ λy a=>ju D n y (aU n x y hr a) (by
  have:=nX hr a
  omega))
theorem Kw(D n:Nat)(x:Tm n)(w:World)(b o:Nat)(g:0<D)(k:dB w b o n x):dB w b o D (aS D n x):=by
 cases n with
 | zero=>exact k.elim
 | succ n=>
  obtain⟨D,rfl⟩:∃a,D=a+1:=⟨D-1,by omega⟩;obtain⟨c,d,e,f⟩:=k;exact⟨c,d,e,by simpa [aS]using f⟩
theorem sD:(D n:Nat)->(x:Tm n)->(B:Nat)->(w:World)->aD ⟨n,x⟩->fA n x<D->In B w n x->In B w D (aS D n x)
 | _,0,_,_,_,_,_,k=>k.elim
 | 0,n+1,x,_,_,_,h,_=>by
  have:=(fV (n+1) x).1;omega
 | D+1,n+1,x,B,w,hr,h,k=>by
  obtain⟨l,a⟩:=k;refine⟨by simpa [aS]using l,?_⟩;rcases a with a|⟨b,o,e,j,a⟩
  ·exact ah (by simp[aS,a])
  ·refine ai ⟨b,o,e,j,λi y g=>?_⟩;simp only[aS,dn]at g;obtain⟨c,d,rfl⟩:=ci.1 g;have f:=aH d;have p:=nX hr f;have m:=(fV n c).1;exact⟨Kw D n c w b _ (by omega) (a i c d).1,sD D n c B w (aU n x c hr f) (by omega) (a i c d).2⟩
theorem zx(D n:Nat)(x:Tm (n+1)):df (D+1) (aS (D+1) (n+1) x)=df (n+1) x:=by
 simp[df,aS]
theorem uc:(D n:Nat)->(x:Tm n)->(P:Nat->Prop)->aD ⟨n,x⟩->fA n x<D->cd P n x->cd P D (aS D n x)
 | _,0,_,_,h,_,_=>(dh h).elim
 | 0,n+1,x,_,_,h,_=>by
  have:=(fV (n+1) x).1;omega
 | D+1,n+1,x,P,hr,h,k=>by
  rcases k with k|⟨b,o,e,g,k⟩
  ·exact ah (by simp[aS,k])
  ·refine ai ⟨b,o,e,g,λi y d=>?_⟩;simp only[aS,dn]at d;obtain⟨a,f,rfl⟩:=ci.1 d;have c:=aH f;have j:=nX hr c;exact uc D n a P (aU n x a hr c) (by omega) (k i a f)
abbrev Tc:Type:=Tm 13
def cn(n:Nat)(x:Tm n):Tc:=Jt 13 n x
theorem ic{n m:Nat}{x:Tm n}{y:Tm m}(a:ay n x m y=true):cn n x=cn m y:=Ju 13 n x m y a
theorem eO{n:Nat}{x:Tm n}(a:bv n x=0):ay 13 (cn n x) n x=true:=by
 obtain⟨b,c,_⟩:=bC.1 a;exact AO 13 n x (aL.2 b) (by omega)
theorem Mo{n:Nat}{x:Tm n}(a:bv n x=0):cn 13 (cn n x)=cn n x:=ic (eO a)
theorem nV{n:Nat}{x:Tm n}(a:bv n x=0):bv 13 (cn n x)=0:=by rw[bJ (eO a),a]
theorem EY{n:Nat}{x:Tm n}(a:bv n x=0):sz 13 (cn n x)=sz n x:=lI _ _ _ _ (eO a)
theorem mf{n:Nat}{x:Tm n}(a:bv n x=0):aK 13 (cn n x)=aK n x:=cB _ _ _ _ (eO a)
theorem Qb{n m:Nat}:(p:List (Tm n))->(q:List (Tm m))->aC (λx y=>ay n x m y) p q=true->p.map (cn n)=q.map (cn m):=λp q a=>kA _ _ _ p q (λ_ _ _ b=>ic b) a
def ni:List An:=nO 1 (List.replicate 4 fk)
def Pu(a:An):Tc:=cn a.1 a.2
def lq{n:Nat}(c:Cl (n+1))(s m:Tc):Option (List Tc):=(gZ (n+1) c.1.1 13 s ni).bind λb=>(gZ (n+1) c.1.2.1 13 m b).map λa=>a.map Pu
def l9{n:Nat}(s m:Tc):List (Cl (n+1))->Option (Cl (n+1)×List Tc)
 | []=>none
 | c::l=>match lq c s m with
  | some b=>some (c,b)
  | none=>l9 s m l
def sh{n:Nat}(l:List (Cl (n+1)))(s:Tc):List Tc->Nat->Option (Nat×Cl (n+1)×List Tc)
 | [],_=>none
 | m::ms,i=>match l9 s m l with
  | some x=>some (i,x)
  | none=>sh l s ms (i+1)
theorem G9{x y:An}(a:ee x y=true)(d:CU y):CU x:=by
 obtain⟨b,c⟩:=d;refine⟨(bJ a).trans b,?_⟩;rw[vk a,cB _ _ _ _ a];exact c
theorem sL{d g:Type}(f:d->g->Bool):(p:List d)->(q:List g)->aC f p q=true->∀x∈p,∃y∈q,f x y=true
 | [],_,_,x,c=>by simp at c
 | _::_,[],h,_,_=>by simp[aC]at h
 | a::p,b::q,h,x,c=>by
  simp only[aC,aA]at h;rcases ch.1 c with rfl|c
  ·exact⟨b,by simp,h.1⟩
  ·obtain⟨y,i,e⟩:=sL f p q h.2 x c;exact⟨y,bX _ i,e⟩
theorem Ha{p q:List An}(a:aC ee p q=true)(b:∀y∈q,CU y):∀x∈p,CU x:=λx c=>by
 obtain⟨y,d,e⟩:=sL _ _ _ a x c;exact G9 e (b y d)
theorem r8{n:Nat}:(l:List (Tm n))->(b:List An)->(∀y∈b,aD y/\y.1<=n)->aC (λx y=>ay n x n y) l (b.map λa=>aS n a.1 a.2)=true->aC ee (nO n l) b=true
 | [],[],_,_=>rfl
 | [],_::_,_,h=>by simp[aC]at h
 | _::_,[],_,h=>by simp[aC]at h
 | x::l,a::b,hb,h=>by
  simp only[aM,aC,aA]at h;simp only[nO,aM,aC,aA];obtain⟨c,d⟩:=hb a (by simp);exact⟨bH _ _ _ _ _ _ h.1 (fx n a.1 d a.2 c),r8 l b (λy e=>hb y (bX _ e)) h.2⟩
theorem JC{p q:List An}(a:aC ee p q=true):p.map Pu=q.map Pu:=kA _ _ _ p q (λ_ _ _ b=>ic b) a
theorem uA:aC ee ni ni=true:=by
 refine iS _ _ λa b=>?_;exact fy _ _ (rC (CX a b))
theorem NO{n:Nat}{x:Tm n}(a:bv n x=0)(b:aK n x=true):CU ⟨n,x⟩:=⟨a,ai b⟩
theorem cd.both{P Q:Nat->Prop}:{n:Nat}->{x:Tm n}->cd P n x->cd Q n x->cd (λb=>P b/\Q b) n x
 | 0,_,p,_=>p
 | _+1,_,p,k=>by
  rcases p with p|⟨b,o,e,g,p⟩
  ·exact ah p
  ·rcases k with k|⟨j,l,a,h,k⟩
   ·exact ah k
   ·rw[e]at a;injection a with a;injection a with d f;subst d f;exact ai ⟨b,o,e,⟨g,h⟩,λi y c=>(p i y c).both (k i y c)⟩
structure qJ (D:Nat) (l:List (Tm D)) (B:List Tc) (b0:Nat) (w':World) (bg bc:Nat):Prop where
 bnd:ge D l=true
 tells:l.map (cn D)=B
 cap:4<=bc/\bc<=maxLen
 new:b0<=bg/\bg<w'.heap.size
 at':∀(i:Nat)(y:Tm D),l[i]?=some y->dB w' bg (i*4) D y/\In w'.heap.size w' D y/\cd (λq=>b0<=q/\q≠bg) D y
 free:∀j,w'.frozen? ⟨bg,j,none⟩=false
def NL{n:Nat}(c:Cl (n+1))(s m:Tc)(w:World)(e:Ending)(w':World):Prop:=
 ∃b len f g,e=.returned (.tuple #[ae b len f,.bool g])/\Hid (aj w w'/\g=(lq c s m).isSome/\∀a,lq c s m=some a->len=4/\∃h l d,b=some ⟨d,0,none⟩/\qJ h l a w.heap.size w' d f)
theorem JZ{n m k:Nat}(c:Cl (n+1))(s:Tm (m+1))(t:Tm (k+1))(R:bv (n+1) c.1.1=0)(S:bv (n+1) c.1.2.1=0)(A:bv (m+1) s=0)(T:aK (m+1) s=true)(B:bv (k+1) t=0)(U:aK (k+1) t=true){w w':World}{e:Ending}(Q:Jb (gZ (n+1) c.1.1 (m+1) s ni) (gZ (n+1) c.1.2.1 (k+1) t) w e w'):NL c (cn (m+1) s) (cn (k+1) t) w e w':=by
 obtain⟨K,len,P,ap,rfl,J⟩:=Q;obtain⟨V,Z,ae⟩:=J;refine⟨K,len,P,ap,rfl,V,?_⟩;have f:=mh (n+1) c.1.1 (m+1) s (n+1) c.1.1 13 (cn (m+1) s) ni ni (fy _ _ (aL.2 (bC.1 R).1)) (dJ _ _ _ _ (eO A)) uA;cases e1:gZ (n+1) c.1.1 (m+1) s ni with
 | none=>
  rw[e1]at f;cases e2:gZ (n+1) c.1.1 13 (cn (m+1) s) ni with
  | some _=>
   rw[e2]at f;exact f.elim
  | none=>
   have j:lq c (cn (m+1) s) (cn (k+1) t)=none:=by simp[lq,e2]
   rw[j];exact⟨Z e1,λz i=>by cases i⟩
 | some b=>
  rw[e1]at f;cases e2:gZ (n+1) c.1.1 13 (cn (m+1) s) ni with
  | none=>
   rw[e2]at f;exact f.elim
  | some q=>
   rw[e2]at f;have r:=kU CU ou (n+1) c.1.1 (m+1) s (NO A T) ni b ⟨by simp[ni,nO],CX⟩ e1;obtain⟨o,X,aa,af⟩:=ae b e1;have p:aC ee (nO (mZ b) o) b=true:=r8 o b (λa d=>⟨rC (r.2 a d),Ai b a d⟩) X;have L:aC ee (nO (mZ b) o) q=true:=oz ee ee ee _ _ _ (λH _ a I aj G=>bH H.1 H.2 a.1 a.2 I.1 I.2 aj G) p f;have g:=mh (n+1) c.1.2.1 (k+1) t (n+1) c.1.2.1 13 (cn (k+1) t) _ _ (fy _ _ (aL.2 (bC.1 S).1)) (dJ _ _ _ _ (eO B)) L;cases e3:gZ (n+1) c.1.2.1 (k+1) t (nO (mZ b) o)with
   | none=>
    rw[e3]at g;cases e4:gZ (n+1) c.1.2.1 13 (cn (k+1) t) q with
    | some _=>
     rw[e4]at g;exact g.elim
    | none=>
     have j:lq c (cn (m+1) s) (cn (k+1) t)=none:=by simp[lq,e2,e4]
     rw[j];exact⟨aa e3,λz i=>by cases i⟩
   | some h=>
    rw[e3]at g;cases e4:gZ (n+1) c.1.2.1 13 (cn (k+1) t) q with
    | none=>
     rw[e4]at g;exact g.elim
    | some N=>
     rw[e4]at g;have j:lq c (cn (m+1) s) (cn (k+1) t)=some (N.map Pu):=by simp[lq,e2,e4]
     rw[j];obtain⟨ah,ai,E,av,l,aq,F⟩:=af h e3;refine⟨ah,λz i=>⟨ai,mZ h,l,?_⟩⟩;cases i;have ab:=Ha p r.2;have Y:(nO (mZ b) o).length=4:=by rw[cE _ _ _ p];exact r.1
     have C:=kU CU ou (n+1) c.1.2.1 (k+1) t (NO B U) _ h ⟨Y,ab⟩ e3;have D:∀a∈h,aD a:=λa d=>rC (C.2 a d);obtain⟨_,v,ag,_⟩:=Fb F D E;have W:=yq C.2 v E ag;obtain⟨_,_,ar,ak,al,x⟩:=F;rcases x with x|⟨O,bo,rfl,⟨au,rfl,an,ao⟩,am,y⟩
     ·rw[x]at v;simp at v
     ·refine⟨O,rfl,W,?_,⟨by omega,ak⟩,⟨by omega,am⟩,λu a d=>⟨?_,(y u a d).2.1,(cd.both (y u a d).2.2 (ao a (aH d))).mono λG ad=>⟨by omega,ad.2⟩⟩,an⟩;rotate_left
      ·have:=(y u a d).1;rw[dc]at this;exact this
      have M:aC ee (nO (mZ h) l) h=true:=r8 l h (λa d=>⟨D a d,Ai h a d⟩) al;rw[<-JC g,<-JC M];simp[nO,Pu]
theorem Hp{n m k:Nat}(c:Cl (n+1))(s:Tm (m+1))(t:Tm (k+1))(B:Nat)(w:World)(i:gY (n+1) B w c)(j:In B w (m+1) s)(l:In B w (k+1) t)(h:B<=w.heap.size)(a:bv (n+1) c.1.1=0)(b:bv (n+1) c.1.2.1=0)(d:bv (m+1) s=0)(e:aK (m+1) s=true)(f:bv (k+1) t=0)(g:aK (k+1) t=true):am 119 #[.agg (eZ (n+1) c).toArray,df (m+1) s,df (k+1) t] w (NL c (cn (m+1) s) (cn (k+1) t) w):=
 (Ho n m k c s t B w i j l h a b d (by rw[<-fw];exact e) f (by rw[<-fw];exact g)).mono λ_ _ o=>JZ c s t a b d e f g o
theorem lG:(N n:Nat)->n<=N->(x:Tm n)->aK N (aS N n x)=aK n x
 | 0,0,_,_=>rfl
 | _+1,0,_,_=>by simp[aS,aK]
 | 0,n+1,h,_=>by omega
 | N+1,n+1,h,x=>by
  have:(x.2.2.map λy=>aS N n y).all (λy=>aK N y)=x.2.2.all λy=>aK n y:=by
   rw[List.all_map];congr 1;funext y;exact lG N n (by omega) y
  simp only[aK,aS];rw[this]
theorem yw(m:Nat)(b:List (Tm m))(self:Int)(k:∀y∈b,bU ⟨m,y⟩=6\/aK m y=true):(n:Nat)->(x:Tm n)->aD ⟨n,x⟩->(j:Tm (m+n))->vl m b self n x=some j->aK (m+n) j=true
 | 0,_,_,_,d=>by simp[vl]at d
 | n+1,x,hr,j,d=>by
  have p:=eI (bw n x) (hr (bw n x) (by simp[ax,bw]));by_cases g:x.1.1=6
  ·rw[LF m b self n x g]at d;cases d
  ·by_cases f:x.1.1=5
   ·simp only[vl,f,cF]at d;obtain⟨y,h,d⟩:=bB.1 d;split at d
    ·cases d
    ·rename_i t;obtain rfl:=aw d;exact(lG (m+n+1) m (by omega) y).trans ((k y (aH h)).resolve_left t)
   ·by_cases e:x.1.1=4
    ·rw[LG m b self n x e]at d;unfold wY at d;split at d
     ·obtain rfl:=aw d;simp[bR,aK]
     ·split at d
      ·obtain⟨a,q,d⟩:=bB.1 d;obtain⟨c,D,d⟩:=bB.1 d;obtain⟨A,C,d⟩:=bB.1 d;obtain⟨B,E,d⟩:=bB.1 d;unfold tR at d;split at d
       ·obtain rfl:=aw d;simp[bR,aK]
       ·cases d
      ·split at d
       ·obtain⟨a,q,d⟩:=bB.1 d;split at d
        ·rename_i r;obtain rfl:=aw d;exact(lG (m+n+1) n (by omega) a).trans r
        ·cases d
       ·obtain⟨l,u,rfl⟩:=ci.1 d;obtain⟨w,z⟩:=qP _ _ _ u;show aK (m+n+1) (cY (m+n) l)=true;simp only[aK,cY];simp only[aA,bZ];refine⟨by decide,λy h=>?_⟩;obtain⟨i,o⟩:=cM h;have s:i<x.2.2.length:=by rw[<-w];exact(aO.1 o).1
        exact yw m b self k n x.2.2[i] (aU n x _ hr (jE _)) y (z i _ y (aG s) o)
    ·rw[FN m b self n x e f g]at d;obtain rfl:=aw d;have v:x.2.2=[]:=bF (p.2.2.2.2 e);refine(lG (m+n+1) (n+1) (by omega) x).trans ?_;simp[aK,f,g,v]
def f9(n:Nat)(name:ByteArray):List (Bh n)->Option (Bh n)
 | []=>none
 | b::l=>if b.1=name then some b else f9 n name l
def Mn(n:Nat):Option (Bh n)->Value
 | none=>ae none 0 0
 | some b=>ae b.2.1.1 b.2.2.length b.2.1.2
theorem oJ(n:Nat)(name:ByteArray){l:List (Bh n)}{j:Nat}{b:Bh n}(c:l[j]?=some b):f9 n name (l.drop j)=if b.1=name then some b else f9 n name (l.drop (j+1)):=by
 obtain⟨d,a⟩:=aO.1 c;rw[eA d,a];rfl
theorem uK(n:Nat)(name:ByteArray)(l:List (Bh n))(r:Option Addr)(D len B:Nat)(w:World)(G:l.length=len)(H:len<=9223372036854775807)(z:B<=w.heap.size)(x:Hid (fR n B w r l)):am 97 #[ae r len D,af name] w λe w'=>e=.returned (Mn n (f9 n name l))/\aj w w':=by
 go_enter func97,ntmps97;go_wp2_with fail;go_loopw [9] (λq wr=>∃a:Nat,a<=len/\q=ab a/\Hid (aj w wr/\f9 n name l=f9 n name (l.drop a))) (λq _=>len-(intOf q).toNat)
 case atStart=>exact⟨0,by omega,rfl,ap _ _,rfl⟩
 case round=>
 obtain⟨a,F,rfl,c⟩:=hrel;by_cases I:a<len
 ·obtain⟨b,d⟩:∃b,l[a]?=some b:=⟨l[a]'(by omega),aG _⟩;obtain⟨k,lo,rfl,C,v⟩:∃g o,r=some ⟨g,o,none⟩/\g<B/\Hid (∀(t:Nat)(f:Value),(oI n b)[t]?=some f->w.cell? ⟨g,o+a*2+t,none⟩=some f):=by
   rcases x with e|⟨g,o,e,A,y⟩
   ·rw[e]at d;simp at d
   ·exact⟨g,o,e,A,(y a _ d).1⟩
  have i:∀(t:Nat)(f:Value),(oI n b)[t]?=some f->wr.cell? ⟨k,lo+a*2+t,none⟩=some f:=λt f u=>(c.1.cell (p:=⟨k,lo+a*2+t,none⟩) (aR C z)).trans (v t f u);have E:wr.cell? ⟨k,lo+a*2,none⟩=some (af b.1):=i 0 _ rfl;have L:wr.cell? ⟨k,lo+a*2+1,none⟩=some (ae b.2.1.1 b.2.2.length b.2.1.2):=i 1 _ rfl;have J:(0:Int)<=(a:Int):=by omega
  have K:(a:Int)<(len:Int):=by omega
  have s:Hid (∀o:Obj,aj w (wr.alloc o)):=λo=>c.1.alloc c.1.size o;by_cases j:b.1=name
  ·have h:Hid (f9 n name l=some b):=by
     show _=_;rw[c.out.2,oJ n name d,if_pos j]
   have m:Hid (Mn n (f9 n name l)=ae b.2.1.1 b.2.2.length b.2.1.2):=by
    show _=_;rw[h.out];rfl
   rw[j]at E;clear i c h d;go_wp2_with fail
   go_ret
   rw[m.out];exact⟨rfl,s _⟩
  ·have h:Hid (f9 n name l=f9 n name (l.drop (a+1))):=by
     show _=_;rw[c.out.2,oJ n name d,if_neg j]
   have u:(b.1.toList==name.toList)=false:=by
    rw[iz];intro e;rw[bE,bE]at e;exact j (jc (Array.ext' e))
   clear i c d;go_wp2_with fail;go_roundw
   case rel=>exact⟨a+1,by omega,by go_num,s _,h⟩
   case measure=>simp[intOf];omega
 ·obtain rfl:a=len:=by omega
  have m:Hid (Mn n (f9 n name l)=ae none 0 0):=by
   show _=_;rw[c.out.2,pn (by omega)];rfl
  have HB:=aq c.1;clear c;go_wp2_with fail
  go_ret
  rw[m.out];exact⟨rfl,HB⟩
def sO(b:List Tc)(self:Int)(n:Nat)(x:Tm n):Option Tc:=(vl 13 b self n x).bind λa=>if bv (13+n) a=0 then some (cn (13+n) a)else none
def nv(b:List Tc)(self:Int)(n:Nat)(x:Tm n):Option Int:=(sO b self n x).bind λt=>if t.1.1=3 then some t.1.2.1 else none
structure Dg where
 b:List Tc
 next:Int
 sends:List (Int×Tc)
 spawns:List (Int×ByteArray×Tc)
 links:List Int
 stops:Bool
def DX(a:Int):Tc:=((3,a,.empty),(none,0),[])
def rh(self:Int){n:Nat}(a:Ac (n+1))(d:Dg):Option Dg:=
 if a.1=1 then (nv d.b self (n+1) a.2.1.1).bind λc=>(sO d.b self (n+1) a.2.1.2).map λt=>{d with sends:=d.sends++ [(c,t)]}
 else if a.1=2 then (sO d.b self (n+1) a.2.1.2).bind λt=>if bU ⟨13,(d.b[a.2.2.2.toNat]?).getD (DX 0)⟩=6 then some {d with b:=d.b.set a.2.2.2.toNat (DX d.next),next:=d.next+1,spawns:=d.spawns++ [(d.next,a.2.2.1,t)]}else none
 else if a.1=3 then (nv d.b self (n+1) a.2.1.1).map λc=>{d with links:=d.links++ [c]}
 else some {d with stops:=true}
def qe(self:Int){n:Nat}:List (Ac (n+1))->Dg->Option Dg
 | [],d=>some d
 | a::l,d=>(rh self a d).bind (qe self l)
structure Tk where
 message:Tc
 fate:Int
 sends:List (Int×Tc)
 spawns:List (Int×ByteArray×Tc)
 links:List Int
 state:Tc
 mail:List Tc
def fm{n:Nat}(room self next:Int)(s m:Tc)(ms:List Tc)(c:Cl (n+1))(b:List Tc):Tk:=
 match qe self c.2.2 ⟨b,next,[],[],[],false⟩with
 | none=>⟨m,2,[],[],[],s,ms⟩
 | some a=>match sO a.b self (n+1) c.1.2.2 with
  | none=>⟨m,2,[],[],[],s,ms⟩
  | some t=>if (ms.map (sz 13)).sum+sz 13 t<=room then ⟨m,if a.stops then 1 else 0,a.sends,a.spawns,a.links,t,ms⟩else ⟨m,3,[],[],[],s,ms⟩
def gf{n:Nat}(name:ByteArray)(l:List (Bh (n+1))):List (Cl (n+1)):=((f9 (n+1) name l).map λb=>b.2.2).getD []
def nA{n:Nat}(room:Int)(l:List (Bh (n+1)))(name:ByteArray)(self next:Int)(s:Tc)(ms:List Tc):Option Tk:=
 (sh (gf name l) s ms 0).bind λa=>(ms[a.1]?).map λb=>fm room self next s b (ms.eraseIdx a.1) a.2.1 a.2.2
theorem yd{D:Nat}{l:List (Tm D)}{B:List Tc}(c:ge D l=true)(d:l.map (cn D)=B):aC (λx y=>ay D x 13 y) l B=true:=by
 rw[<-d];refine qw (λy x=>ay 13 y D x) _ _ _ (λf _ b a=>dJ _ _ _ _ a) (iR _ _ _ λy e=>?_);exact eO ((hU c).2 y e).1
theorem KY{D:Nat}{l:List (Tm D)}{B:List Tc}(b:ge D l=true)(c:l.map (cn D)=B):ge 13 B=true:=by
 have e:=yd b c;obtain⟨f,g⟩:=hU b;unfold ge;rw[<-cE _ _ _ e,f];simp only[decide_true,ez,bZ];intro k d;rw[<-c]at d;obtain⟨j,i,rfl⟩:=cC.1 d;have a:=g j i;have h:=eO a.1;simp only[BQ,aA,cm,gq];refine⟨nV a.1,?_⟩;rw[kB h,<-fw,mf a.1];exact a.2.2
theorem LD{D n:Nat}{l:List (Tm D)}{B:List Tc}(b:ge D l=true)(g:l.map (cn D)=B)(self:Int)(x:Tm n)(k:bv n x=0):(nQ 0 (vl D l self n x)).map (cn (D+n))=sO B self n x:=by
 have j:aD ⟨n,x⟩:=aL.2 (bC.1 k).1;have i:=KY b g;have a:=rS D l 13 B self (yd b g) (λd c=>aL.2 (bC.1 ((hU b).2 d c).1).1) (λd c=>aL.2 (bC.1 ((hU i).2 d c).1).1) n x j;unfold sO nQ;cases e1:vl D l self n x with
 | none=>
  rw[e1]at a;cases e2:vl 13 B self n x with
  | none=>rfl
  | some _=>
   rw[e2]at a;exact a.elim
 | some m=>
  rw[e1]at a;cases e2:vl 13 B self n x with
  | none=>
   rw[e2]at a;exact a.elim
  | some h=>
   rw[e2]at a;have f:ay (D+n) m (13+n) h=true:=a;simp only[cF,dA];rw[bJ f];by_cases e:bv (13+n) h=0
   ·simp[e,ic f]
   ·simp[e]
theorem O5{n:Nat}{B:List Tc}(d:ge 13 B=true){self:Int}{x:Tm n}(f:bv n x=0){t:Tc}(a:sO B self n x=some t):bv 13 t=0/\aK 13 t=true/\cn 13 t=t:=by
 have e:aD ⟨n,x⟩:=aL.2 (bC.1 f).1;unfold sO at a;obtain⟨c,h,a⟩:=bB.1 a;by_cases b:bv (13+n) c=0
 ·rw[if_pos b]at a;obtain rfl:=aw a;refine⟨nV b,?_,Mo b⟩;rw[mf b];exact yw 13 B self (λi g=>((hU d).2 i g).2.2) n x e c h
 ·rw[if_neg b]at a;cases a
def lu(b a:Nat)(d c lv:Value)(q:Nat):Prop:=q=b\/q=a\/d.ownBlock=some q\/c.ownBlock=some q\/lv.ownBlock=some q
def LS(base b a:Nat)(d c lv:Value)(q:Nat):Prop:=base<=q/\¬lu b a d c lv q
structure ek (base db:Nat) (me:Int) (n D k:Nat) (nx:Int) (d:Dg) (w:World) (l:List (Tm (D+1))) (bg bc:Nat) (sd:List (Int×Tm (D+1+n+1))) (sp:List (Int×ByteArray×Tm (D+1+n+1))) (sv pv lv:Value):Prop where
 box:w.heap[db]?=some (.cells #[ae (some ⟨bg,0,none⟩) 4 bc,ab me,ab d.next,sv,pv,lv,.bool d.stops] 189)
 own:db≠bg/\base<=db/\base<=bg/\bg<w.heap.size/\base<=w.heap.size
 bnd:ge (D+1) l=true
 tells:l.map (cn (D+1))=d.b
 row:∀(i:Nat)(y:Tm (D+1)),l[i]?=some y->dB w bg (i*4) (D+1) y/\In w.heap.size w (D+1) y/\cd (LS base db bg sv pv lv) (D+1) y
 free:∀j,w.frozen? ⟨bg,j,none⟩=false
 sRow:w.ownsRow base 196 5 sv sd.length (sd.flatMap λz=>NR z.1 z.2)
 pRow:w.ownsRow base 193 6 pv sp.length (sp.flatMap λz=>OW z.1 z.2.1 z.2.2)
 lRow:w.ownsRow base 3 1 lv d.links.length (d.links.map λu=>ab u)
 sIs:sd.map (λz=>(z.1,cn _ z.2))=d.sends
 pIs:sp.map (λz=>(z.1,z.2.1,cn _ z.2.2))=d.spawns
 sIn:∀z∈sd,bv _ z.2=0/\In w.heap.size w _ z.2/\cd (LS base db bg sv pv lv) _ z.2
 pIn:∀z∈sp,bv _ z.2.2=0/\In w.heap.size w _ z.2.2/\cd (LS base db bg sv pv lv) _ z.2.2
 apart:(sv.ownBlock≠some db/\pv.ownBlock≠some db/\lv.ownBlock≠some db)/\(sv.ownBlock≠some bg/\pv.ownBlock≠some bg/\lv.ownBlock≠some bg)/\∀q,(sv.ownBlock=some q->pv.ownBlock≠some q/\lv.ownBlock≠some q)/\(pv.ownBlock=some q->lv.ownBlock≠some q)
 few:sd.length<=k/\sp.length<=k/\d.links.length<=k/\d.next=nx+sp.length/\1<=nx/\nx<=92
def Do(base b:Nat)(self:Int)(n D k:Nat)(g:Int)(d:Dg)(S:Nat->Prop)(w0 w:World):Prop:=∃l a f h i e c lv,ek base b self n D k g d w l a f h i e c lv/\∀q,lu b a e c lv q->S q\/w0.heap.size<=q
theorem sB{base n:Nat}{x:Tm n}{S c:Nat->Prop}{w w':World}(k:br S w w')(f:∀q,c q->S q\/w.heap.size<=q)(d:In w.heap.size w n x)(e:cd (λq=>base<=q/\¬S q) n x):In w'.heap.size w' n x/\cd (λq=>base<=q/\¬c q) n x:=by
 refine⟨d.kee k (e.mono λq a=>a.2),(In.offB e d).mono λq a=>⟨a.1.1,λb=>?_⟩⟩;rcases f q b with b|b
 ·exact a.1.2 b
 ·have:=a.2;omega
theorem DE{w w':World}{n:Nat}{q:List (Tm n)}{a:Option Addr}(c:fC w.heap.size w n q a)(d:aj w w'):fC w'.heap.size w' n q a:=by
 rcases c.below d with c|⟨b,o,h,i,c⟩
 ·exact ah c
 ·exact ai ⟨b,o,h,aR i d.size,λf g e=>⟨(c f g e).1,(c f g e).2.mono d.size⟩⟩
section
variable {base db:Nat} {self:Int} {n D k:Nat} {nx:Int} {d:Dg} {w:World} {l:List (Tm (D+1))} {bg bc:Nat} {sd:List (Int×Tm (D+1+n+1))} {sp:List (Int×ByteArray×Tm (D+1+n+1))} {sv pv lv:Value}
theorem ek.lt(a:ek base db self n D k nx d w l bg bc sd sp sv pv lv):db<w.heap.size:=(aF.1 a.box).1
theorem ek.high(c:ek base db self n D k nx d w l bg bc sd sp sv pv lv):∀q,lu db bg sv pv lv q->base<=q:=by
 intro q a;obtain⟨_,i,j,_⟩:=c.own;have f:∀{b:TypeId}{r o:Nat}{g:Value}{p:List Value},w.ownsRow base b r g o p->g.ownBlock=some q->base<=q:=λm e=>by
  rcases m.2 with⟨b,_⟩|⟨h,cap,s,b,t,_⟩
  ·rw[b]at e;cases e
  ·rw[b]at e;have:h=q:=aw e;omega
 rcases a with rfl|rfl|a|a|a
 ·exact i
 ·exact j
 ·exact f c.sRow a
 ·exact f c.pRow a
 ·exact f c.lRow a
theorem ek.later(a:ek base db self n D k nx d w l bg bc sd sp sv pv lv){w':World}(e:aj w w'):ek base db self n D k nx d w' l bg bc sd sp sv pv lv:=by
 have h:=aJ e (λ_=>False);have i:=e.size;obtain⟨t,u,v,q,y⟩:=a.own;refine⟨(e.block db a.lt).trans a.box,⟨t,u,v,by omega,by omega⟩,a.bnd,a.tells,λs x r=>?_,λo=>?_,bi a.sRow h λ_ _ g=>g,bi a.pRow h λ_ _ g=>g,bi a.lRow h λ_ _ g=>g,a.sIs,a.pIs,λm j=>?_,λm j=>?_,a.apart,a.few⟩
 ·obtain⟨f,b,c⟩:=a.row s x r;exact⟨f.below e q,(b.below e).mono i,c⟩
 ·exact(e.frozen (p:=⟨bg,o,none⟩) q).trans (a.free o)
 ·obtain⟨f,b,c⟩:=a.sIn m j;exact⟨f,(b.below e).mono i,c⟩
 ·obtain⟨f,b,c⟩:=a.pIn m j;exact⟨f,(b.below e).mono i,c⟩
theorem ek.more(a:ek base db self n D k nx d w l bg bc sd sp sv pv lv){g:Nat}(i:k<=g):ek base db self n D g nx d w l bg bc sd sp sv pv lv:=by
 obtain⟨h,b,c,e,f⟩:=a.few;exact{a with few:=⟨by omega,by omega,by omega,e,f⟩}
theorem ek.lies(a:ek base db self n D k nx d w l bg bc sd sp sv pv lv):fC w.heap.size w (D+1) l (some ⟨bg,0,none⟩):=ai ⟨bg,0,rfl,a.own.2.2.2.1,λi y b=>by
 rw[dc]
 exact⟨(a.row i y b).1,(a.row i y b).2.1⟩⟩
theorem ek.value(a:ek base db self n D k nx d w l bg bc sd sp sv pv lv)(x:Tm (n+1))(r:In base w (n+1) x)(g:bv (n+1) x=0)(o:1<=self/\self<=99):∀W,aj w W->am 121 #[aB db,.agg #[ab x.1.1,ab x.1.2.1,af x.1.2.2,ae x.2.1.1 x.2.2.length x.2.1.2]] W (xf (D+1+n) (nQ 0 (vl (D+1) l self (n+1) x)) W):=by
 intro W b;have i:FE (bv (n+1) x) (ge (D+1) l) self=0:=by simp[FE,g,a.bnd,o]
 have f:=(hU a.bnd).1;have m:=a.lies;have h:=a.own.2.2.2.2;have q:=zj (D+1+n) 0 (vl (D+1) l self (n+1) x) x.1.1 x.1.2.1 x.1.2.2 x.2.1.1 x.2.2.length x.2.1.2 (some ⟨bg,0,none⟩) bc self db W (aR a.lt b.size) ((b.cell (p:=⟨db,0,none⟩) a.lt).trans (ag a.box 0)) ((b.cell (p:=⟨db,1,none⟩) a.lt).trans (ag a.box 1)) λe j=>by
  have c:=b.trans (j.mono b.size);have:=Ea n (D+1) x l (some ⟨bg,0,none⟩) bc e.heap.size self e ((r.below (c.mono h)).mono (az h c.size)) (DE m c) (ak _) (eg g) (by rw[f];decide) (λt s=>eg ((hU a.bnd).2 t s).1);rw[i,f]at this;exact this
 exact q
theorem ek.process(i:ek base db self n D k nx d w l bg bc sd sp sv pv lv)(x:Tm (n+1))(z:In base w (n+1) x)(m:bv (n+1) x=0)(u:1<=self/\self<=99):∀W,aj w W->am 192 #[aB db,.agg #[ab x.1.1,ab x.1.2.1,af x.1.2.2,ae x.2.1.1 x.2.2.length x.2.1.2]] W λe w'=>∃g,e=.returned (.tuple #[ab g,.bool (nv d.b self (n+1) x).isSome])/\Hid (aj W w'/\∀v,nv d.b self (n+1) x=some v->g=v):=by
 intro W j;have a:=LD i.bnd i.tells self x m;refine(A6 (D+1+n) _ x.1.1 x.1.2.1 x.1.2.2 x.2.1.1 x.2.2.length x.2.1.2 db W λs t=>i.value x z m u s (j.trans (t.mono j.size))).mono ?_;rintro e w' ⟨g,rfl,p⟩;obtain⟨q,r⟩:=p;have o:Fp (nQ 0 (vl (D+1) l self (n+1) x))=(nv d.b self (n+1) x).isSome/\∀v,nv d.b self (n+1) x=some v->g=v:=by
  unfold nv;rw[<-a];cases e:nQ 0 (vl (D+1) l self (n+1) x)with
  | none=>exact⟨rfl,λv a=>by cases a⟩
  | some c=>
   have A:(cn (D+1+n+1) c).1=c.1:=rfl;have y:=r c e;simp only[mX,dA,Fp];by_cases h:c.1.1=3
   ·have f:(cn (D+1+n+1) c).1.1=3:=h;refine⟨?_,λv a=>?_⟩
    ·erw [if_pos f]
     simp[h]
    ·erw [if_pos f]at a
     rw[y,<-aw a];rfl
   ·have f:¬(cn (D+1+n+1) c).1.1=3:=h;refine⟨?_,λv a=>?_⟩
    ·erw [if_neg f]
     simp[h]
    ·erw [if_neg f]at a
     cases a
 exact⟨g,by rw[o.1],q,o.2⟩
end
section
variable {base db:Nat} {self:Int} {n D k:Nat} {nx:Int} {d:Dg} {w:World} {l:List (Tm (D+1))} {bg bc:Nat} {sd:List (Int×Tm (D+1+n+1))} {sp:List (Int×ByteArray×Tm (D+1+n+1))} {sv pv lv:Value}
def yI(base db:Nat)(self:Int)(n D k:Nat)(nx:Int)(d:Dg)(a:Ac (n+1))(S:Nat->Prop)(w:World)(t:Bool)(w':World):Prop:=
 br S w w'/\t=(rh self a d).isSome/\∀b,rh self a d=some b->Do base db self n D (k+1) nx b S w w'
theorem mF{w:World}{base:Nat}{e:TypeId}{g m:Nat}{v:Value}{xs:List Value}(f:w.ownsRow base e g v m xs):∃a c,v=ae a m c:=by
 rcases f.2 with⟨b,d⟩|⟨i,cap,h,b,_⟩
 ·exact⟨none,0,by rw[b,d]⟩
 ·exact⟨_,cap,b⟩
theorem oB{w:World}{b:Nat}{v0 v1 v2 v3 a c d:Value}{t:TypeId}(e:w.heap[b]?=some (.cells #[v0,v1,v2,v3,a,c,d] t)):(∀v,(w.setCell ⟨b,3,none⟩ v).heap[b]?=some (.cells #[v0,v1,v2,v,a,c,d] t))/\(∀v,(w.setCell ⟨b,4,none⟩ v).heap[b]?=some (.cells #[v0,v1,v2,v3,v,c,d] t))/\(∀v,(w.setCell ⟨b,5,none⟩ v).heap[b]?=some (.cells #[v0,v1,v2,v3,a,v,d] t))/\(∀v,(w.setCell ⟨b,2,none⟩ v).heap[b]?=some (.cells #[v0,v1,v,v3,a,c,d] t))/\∀v,(w.setCell ⟨b,6,none⟩ v).heap[b]?=some (.cells #[v0,v1,v2,v3,a,c,v] t):=by
 refine⟨λv=>?_,λv=>?_,λv=>?_,λv=>?_,λv=>?_⟩<;>
 ·unfold World.setCell;simp[bN,e]
theorem tZ{w:World}{b:Nat}{cs:Array Value}{t:TypeId}(a:w.heap[b]?=some (.cells cs t))(j:Nat):w.frozen? ⟨b,j,none⟩=false:=by simp[World.frozen?,a]
theorem ek.frame(c:ek base db self n D k nx d w l bg bc sd sp sv pv lv){w':World}{j h g:Value}(f:br (lu db bg sv pv lv) w w')(m:∀q,lu db bg j h g q->lu db bg sv pv lv q\/w.heap.size<=q):(∀(i:Nat)(y:Tm (D+1)),l[i]?=some y->In w'.heap.size w' (D+1) y/\cd (LS base db bg j h g) (D+1) y)/\(∀a∈sd,bv _ a.2=0/\In w'.heap.size w' _ a.2/\cd (LS base db bg j h g) _ a.2)/\(∀a∈sp,bv _ a.2.2=0/\In w'.heap.size w' _ a.2.2/\cd (LS base db bg j h g) _ a.2.2)/\Below base w w':=
 ⟨λi y o=>sB f m (c.row i y o).2.1 (c.row i y o).2.2,λa e=>⟨(c.sIn a e).1,sB f m (c.sIn a e).2.1 (c.sIn a e).2.2⟩,λa e=>⟨(c.pIn a e).1,sB f m (c.pIn a e).2.1 (c.pIn a e).2.2⟩,f.below c.own.2.2.2.2 λb p q=>by
  have:=c.high b q
  omega⟩
theorem ek.link(g:ek base db self n D k nx d w l bg bc sd sp sv pv lv)(a:Ac (n+1))(P:iA (n+1) base w a)(T:bv (n+1) a.2.1.1=0)(O:a.1=3)(Y:1<=self/\self<=99)(an:k<=1000):am 182 #[aB db,Pb a] w λe w'=>∃t,e=.returned (.bool t)/\Hid (yI base db self n D k nx d a (lu db bg sv pv lv) w t w'):=by
 have J:=g.lRow;obtain⟨r,s,rfl⟩:=mF J;obtain⟨f1,f2,f3,f4⟩:=g.few;have u:rh self a d=(nv d.b self (n+1) a.2.1.1).map λx=>{d with links:=d.links++ [x]}:=by
  simp[rh,O]
 refine(GW a.1 a.2.1.1.1.1 a.2.1.1.1.2.1 a.2.1.1.1.2.2 a.2.1.1.2.1.1 a.2.1.1.2.2.length a.2.1.1.2.1.2 a.2.1.2.1.1 a.2.1.2.1.2.1 a.2.1.2.1.2.2 a.2.1.2.2.1.1 a.2.1.2.2.2.length a.2.1.2.2.1.2 a.2.2.1 a.2.2.2 base db r d.links.length s _ w (nv d.b self (n+1) a.2.1.1).isSome (λx=>∀y,nv d.b self (n+1) a.2.1.1=some y->x=y) (by omega) g.lt g.own.2.2.2.2 ⟨ag g.box 5,tZ g.box 5⟩ J g.apart.1.2.2 (g.process a.2.1.1 P.2.1 T Y)).mono ?_;rintro e w' ⟨rfl,U,v⟩;refine⟨_,rfl,?_⟩;cases hp:nv d.b self (n+1) a.2.1.1 with
 | none=>
  have Q:=U (by rw[hp];rfl);refine⟨aJ Q _,by rw[u,hp];rfl,λN o=>?_⟩;rw[u,hp]at o;cases o
 | some y=>
  obtain⟨x,m,c,z,aa,X,j,i,rfl⟩:=v (by rw[hp];rfl);obtain rfl:=aa y hp;have S:z.heap[db]?=_:=(j.block db g.lt λf=>g.apart.1.2.2 f).trans g.box;have C:br (lu db bg sv pv (ae r d.links.length s)) w (z.setCell ⟨db,5,none⟩ (ae (some ⟨m,0,none⟩) (d.links.length+1) c)):=br.trans (j.mono λf _ h=>ai (ai (ai (ai h)))) (bD _ _ _ _) λf _ h=>ah h;have p:∀f,f<w.heap.size->¬(Value.slice r d.links.length s).ownBlock=some f->m≠f:=λf h V e=>by
   rcases i with i|i
   ·rw[e]at i;exact V i
   ·omega
  have H:∀f,lu db bg sv pv (ae (some ⟨m,0,none⟩) (d.links.length+1) c) f->lu db bg sv pv (ae r d.links.length s) f\/w.heap.size<=f:=λf h=>by
   rcases h with h|h|h|h|h
   ·exact ah (ah h)
   ·exact ah (ai (ah h))
   ·exact ah (ai (ai (ah h)))
   ·exact ah (ai (ai (ai (ah h))))
   ·have:m=f:=aw h;subst this;rcases i with i|i
    ·exact ah (ai (ai (ai (ai i))))
    ·exact ai i
  obtain⟨aj,ak,al,aq⟩:=g.frame C H;refine⟨C,by rw[u,hp];rfl,λN o=>?_⟩;rw[u,hp]at o;obtain rfl:=aw o;have ao:=C.size;obtain⟨F,ad,af,G,ap⟩:=g.own;have q:=bD z db 5 (ae (some ⟨m,0,none⟩) (d.links.length+1) c);have Z:∀f,sv.ownBlock=some f->f<w.heap.size:=λf h=>by
   obtain⟨M,B⟩:=ei g.sRow f h;exact(aF.1 B).1
  have W:∀f,pv.ownBlock=some f->f<w.heap.size:=λf h=>by
   obtain⟨M,B⟩:=ei g.pRow f h;exact(aF.1 B).1
  have A:¬(Value.slice r d.links.length s).ownBlock=some bg:=g.apart.2.1.2.2;refine⟨l,bg,bc,sd,sp,sv,pv,_,⟨(oB S).2.2.1 _,⟨F,ad,af,by omega,by omega⟩,g.bnd,g.tells,λK L v=>⟨?_,aj K L v⟩,λab=>?_,?_,?_,?_,g.sIs,g.pIs,ak,al,⟨⟨g.apart.1.1,g.apart.1.2.1,?_⟩,⟨g.apart.2.1.1,g.apart.2.1.2.1,?_⟩,λf=>⟨λh=>⟨((g.apart.2.2 f).1 h).1,?_⟩,λh=>?_⟩⟩,⟨by omega,by omega,by simp;omega,f4⟩⟩,H⟩
  ·exact((g.row K L v).1.kee j G A).kee q (by have:=j.size;omega) (λe=>F e.symm)
  ·have R:(z.setCell ⟨db,5,none⟩ (ae (some ⟨m,0,none⟩) (d.links.length+1) c)).heap[bg]?=w.heap[bg]? :=(q.block bg (by have:=j.size;omega) (λe=>F e.symm)).trans (j.block bg G A);have I:=g.free ab;unfold World.frozen? at I ⊢;rw[R];exact I
  ·exact bi (bi g.sRow j λf h E=>((g.apart.2.2 f).1 h).2 E) q λf h e=>g.apart.1.1 (by rw[h,e])
  ·exact bi (bi g.pRow j λf h E=>(g.apart.2.2 f).2 h E) q λf h e=>g.apart.1.2.1 (by rw[h,e])
  ·have:=bi X q λf h e=>p db g.lt g.apart.1.2.2 (by
     have:m=f:=aw h
     rw[this,e])
   simpa using this
  ·exact λe=>p db g.lt g.apart.1.2.2 (aw e)
  ·exact λe=>p bg G A (aw e)
  ·exact λe=>p f (Z f h) (((g.apart.2.2 f).1 h).2) (aw e)
  ·exact λe=>p f (W f h) ((g.apart.2.2 f).2 h) (aw e)
end
section
variable {base db:Nat} {self:Int} {n D k:Nat} {nx:Int} {d:Dg} {w:World} {l:List (Tm (D+1))} {bg bc:Nat} {sd:List (Int×Tm (D+1+n+1))} {sp:List (Int×ByteArray×Tm (D+1+n+1))} {sv pv lv:Value}
theorem Nb{N:Nat}{o:Option (Tm N)}{c:Tm N}(a:nQ 0 o=some c):bv N c=0:=by
 unfold nQ at a;rw[if_pos rfl]at a;obtain⟨d,_,a⟩:=bB.1 a;by_cases b:bv N d=0
 ·rw[if_pos b]at a;rw[<-aw a];exact b
 ·rw[if_neg b]at a;cases a
theorem ek.told(e:ek base db self n D k nx d w l bg bc sd sp sv pv lv)(x:Tm (n+1))(h:bv (n+1) x=0):(nQ 0 (vl (D+1) l self (n+1) x)).isSome=(sO d.b self (n+1) x).isSome/\∀(a:Tm (D+1+n+1)) t,sO d.b self (n+1) x=some t->ay _ a (D+1+n+1) ((nQ 0 (vl (D+1) l self (n+1) x)).getD (wC (D+1+n)))=true->bv _ a=0/\aK _ a=true/\cn _ a=t:=by
 have m:=LD e.bnd e.tells self x h;refine⟨by rw[<-m,Option.isSome_map],λa t f c=>?_⟩;have p:=O5 (KY e.bnd e.tells) h f;rw[<-m]at f;obtain⟨q,o,rfl⟩:=ci.1 f;rw[o]at c;have c:ay _ a _ q=true:=c;have i:=(bJ c).trans (Nb o);have j:=ic c;refine⟨i,?_,j⟩;have g:=p.2.1;rw[<-j,mf i]at g;exact g
theorem ek.send(h:ek base db self n D k nx d w l bg bc sd sp sv pv lv)(a:Ac (n+1))(P:iA (n+1) base w a)(ad:bv (n+1) a.2.1.1=0)(Q:bv (n+1) a.2.1.2=0)(Z:a.1=1)(V:1<=self/\self<=99)(aD:k<=1000):am 180 #[aB db,Pb a] w λe w'=>∃t,e=.returned (.bool t)/\Hid (yI base db self n D k nx d a (lu db bg sv pv lv) w t w'):=by
 have U:=h.sRow;obtain⟨y,z,rfl⟩:=mF U;obtain⟨f1,f2,f3,f4⟩:=h.few;have s:rh self a d=(nv d.b self (n+1) a.2.1.1).bind λx=>(sO d.b self (n+1) a.2.1.2).map λt=>{d with sends:=d.sends++ [(x,t)]}:=by
  simp[rh,Z]
 obtain⟨ak,al⟩:=h.told (self:=self) a.2.1.2 Q;refine(Ig (D+1+n) a.1 a.2.1.1.1.1 a.2.1.1.1.2.1 a.2.1.1.1.2.2 a.2.1.1.2.1.1 a.2.1.1.2.2.length a.2.1.1.2.1.2 a.2.1.2.1.1 a.2.1.2.1.2.1 a.2.1.2.1.2.2 a.2.1.2.2.1.1 a.2.1.2.2.2.length a.2.1.2.2.1.2 a.2.2.1 a.2.2.2 base db y sd.length z _ w (nv d.b self (n+1) a.2.1.1).isSome (λx=>∀A,nv d.b self (n+1) a.2.1.1=some A->x=A) (nQ 0 (vl (D+1) l self (n+1) a.2.1.2)) (by omega) h.lt h.own.2.2.2.2 ⟨ag h.box 3,tZ h.box 3⟩ U h.apart.1.1 (h.process a.2.1.1 P.2.1 ad V) (h.value a.2.1.2 P.2.2.1 Q V)).mono ?_;rintro e w' ⟨rfl,K,i⟩;refine⟨_,rfl,?_⟩;rw[ak]at K i ⊢;cases hp:nv d.b self (n+1) a.2.1.1 with
 | none=>
  have E:=K (by rw[hp];rfl);refine⟨aJ E _,by rw[s,hp];rfl,λN p=>?_⟩;rw[s,hp]at p;cases p
 | some A=>
  cases g:sO d.b self (n+1) a.2.1.2 with
  | none=>
   have E:=K (by rw[hp,g];rfl);refine⟨aJ E _,by rw[s,hp,g];rfl,λN p=>?_⟩;rw[s,hp,g]at p;cases p
  | some t=>
   obtain⟨x,r,j,c,B,an,ar,ap,W,aj,q,m,rfl⟩:=i (by rw[hp,g];rfl);obtain rfl:=an A hp;obtain⟨ao,_,au⟩:=al r t g ar;have ab:B.heap[db]?=_:=(q.block db h.lt λf=>h.apart.1.1 f).trans h.box;have I:br (lu db bg (ae y sd.length z) pv lv) w (B.setCell ⟨db,3,none⟩ (ae (some ⟨j,0,none⟩) (sd.length+1) c)):=br.trans (q.mono λf _ g=>ai (ai (ah g))) (bD _ _ _ _) λf _ g=>ah g;have v:∀f,f<w.heap.size->¬(Value.slice y sd.length z).ownBlock=some f->j≠f:=λf g af e=>by
    rcases m with m|m
    ·rw[e]at m;exact af m
    ·omega
   have O:∀f,lu db bg (ae (some ⟨j,0,none⟩) (sd.length+1) c) pv lv f->lu db bg (ae y sd.length z) pv lv f\/w.heap.size<=f:=λf g=>by
    rcases g with g|g|g|g|g
    ·exact ah (ah g)
    ·exact ah (ai (ah g))
    ·have:j=f:=aw g;subst this;rcases m with m|m
     ·exact ah (ai (ai (ah m)))
     ·exact ai m
    ·exact ah (ai (ai (ai (ah g))))
    ·exact ah (ai (ai (ai (ai g))))
   obtain⟨az,aA,aC,aI⟩:=h.frame I O;refine⟨I,by rw[s,hp,g];rfl,λN p=>?_⟩;rw[s,hp,g]at p;obtain rfl:=aw p;have aE:=I.size;have aG:=q.size;obtain⟨L,ax,ay,M,aH⟩:=h.own;have u:=bD B db 3 (ae (some ⟨j,0,none⟩) (sd.length+1) c);have S:∀f,lv.ownBlock=some f->f<w.heap.size:=λf g=>by
    obtain⟨Y,G⟩:=ei h.lRow f g;exact(aF.1 G).1
   have T:∀f,pv.ownBlock=some f->f<w.heap.size:=λf g=>by
    obtain⟨Y,G⟩:=ei h.pRow f g;exact(aF.1 G).1
   have F:¬(Value.slice y sd.length z).ownBlock=some bg:=h.apart.2.1.1;have aq:cd (LS base db bg (ae (some ⟨j,0,none⟩) (sd.length+1) c) pv lv) _ r:=W.mono λf g=>by
    have:=h.lt;refine⟨by omega,λo=>?_⟩;rcases o with o|o|o|o|o
    ·omega
    ·omega
    ·exact g.2 (aw o).symm
    ·have:=T f o;omega
    ·have:=S f o;omega
   refine⟨l,bg,bc,sd++ [(x,r)],sp,_,pv,lv,⟨(oB ab).1 _,⟨L,ax,ay,by omega,by omega⟩,h.bnd,h.tells,λX C i=>⟨?_,az X C i⟩,λav=>?_,?_,?_,?_,?_,h.pIs,λC i=>?_,aC,⟨⟨?_,h.apart.1.2.1,h.apart.1.2.2⟩,⟨?_,h.apart.2.1.2.1,h.apart.2.1.2.2⟩,λf=>⟨λg=>⟨λe=>?_,λe=>?_⟩,(h.apart.2.2 f).2⟩⟩,⟨by simp;omega,by omega,by show d.links.length<=k+1;omega,f4⟩⟩,O⟩
   ·exact((h.row X C i).1.kee q M F).kee u (by omega) (λe=>L e.symm)
   ·have aa:(B.setCell ⟨db,3,none⟩ (ae (some ⟨j,0,none⟩) (sd.length+1) c)).heap[bg]?=w.heap[bg]? :=(u.block bg (by omega) (λe=>L e.symm)).trans (q.block bg M F);have R:=h.free av;unfold World.frozen? at R ⊢;rw[aa];exact R
   ·have:=bi aj u λf g e=>v db h.lt h.apart.1.1 (by
      have:j=f:=aw g
      rw[this,e])
    simpa using this
   ·exact bi (bi h.pRow q λf g J=>((h.apart.2.2 f).1 J).1 g) u λf g e=>h.apart.1.2.1 (by rw[g,e])
   ·exact bi (bi h.lRow q λf g J=>((h.apart.2.2 f).1 J).2 g) u λf g e=>h.apart.1.2.2 (by rw[g,e])
   ·simp[h.sIs,au]
   ·rcases dp.1 i with i|i
    ·exact aA C i
    ·obtain rfl:=eF.1 i;refine⟨ao,?_,aq⟩;refine ap.kee u (W.mono λf g e=>?_);have:=h.lt;omega
   ·exact λe=>v db h.lt h.apart.1.1 (aw e)
   ·exact λe=>v bg M F (aw e)
   ·have H:j=f:=aw g;exact v f (T f e) (λr=>((h.apart.2.2 f).1 r).1 e) H
   ·have H:j=f:=aw g;exact v f (S f e) (λr=>((h.apart.2.2 f).1 r).2 e) H
end
theorem og(w:World)(g o:Nat)(v0 v1 v2 v3:Value):br (λb=>b=g) w (cW w g o v0 v1 v2 v3):=
 br.trans (br.trans (br.trans (bD w g o v0) (bD _ g (o+1) v1) λ_ _ a=>a) (bD _ g (o+2) v2) λ_ _ a=>a) (bD _ g (o+3) v3) λ_ _ a=>a
theorem BX{w:World}{g o:Nat}{v0 v1 v2 v3:Value}(j:Nat)(a:j<o\/o+4<=j):(cW w g o v0 v1 v2 v3).cell? ⟨g,j,none⟩=w.cell? ⟨g,j,none⟩:=by
 unfold cW;rw[dw j (by omega),dw j (by omega),dw j (by omega),dw j (by omega)]
theorem xV{w:World}{g o:Nat}{f h i j:Value}(v0 v1 v2 v3:Value)(a:w.cell? ⟨g,o,none⟩=some f/\w.cell? ⟨g,o+1,none⟩=some h/\w.cell? ⟨g,o+2,none⟩=some i/\w.cell? ⟨g,o+3,none⟩=some j):(cW w g o v0 v1 v2 v3).cell? ⟨g,o,none⟩=some v0/\(cW w g o v0 v1 v2 v3).cell? ⟨g,o+1,none⟩=some v1/\(cW w g o v0 v1 v2 v3).cell? ⟨g,o+2,none⟩=some v2/\(cW w g o v0 v1 v2 v3).cell? ⟨g,o+3,none⟩=some v3:=by
 obtain⟨b,c,d,e⟩:=a;unfold cW;refine⟨?_,?_,?_,?_⟩
 ·rw[dw o (by omega),dw o (by omega),dw o (by omega)];exact gW _ _ _ b
 ·rw[dw (o+1) (by omega),dw (o+1) (by omega)];exact gW _ _ _ ((dw (o+1) (by omega)).trans c)
 ·rw[dw (o+2) (by omega)];exact gW _ _ _ ((dw (o+2) (by omega)).trans ((dw (o+2) (by omega)).trans d))
 ·exact gW _ _ _ ((dw (o+3) (by omega)).trans ((dw (o+3) (by omega)).trans ((dw (o+3) (by omega)).trans e)))
theorem tj{w:World}{g o:Nat}{v0 v1 v2 v3:Value}(j:Nat):(cW w g o v0 v1 v2 v3).frozen? ⟨g,j,none⟩=w.frozen? ⟨g,j,none⟩:=by
 unfold cW;rw[gG,gG,gG,gG]
theorem Gs(w:World)(p:Addr):w.drew.cell? p=w.cell? p:=rfl
theorem A7(w:World)(p:Addr):w.drew.frozen? p=w.frozen? p:=rfl
theorem dB.far{w w':World}{g o:Nat}{n:Nat}{x:Tm n}(b:dB w g o n x)(a:∀j,o<=j->j<o+4->w'.cell? ⟨g,j,none⟩=w.cell? ⟨g,j,none⟩):dB w' g o n x:=by
 cases n with
 | zero=>exact b.elim
 | succ n=>
  obtain⟨c,d,e,f⟩:=b;exact⟨(a _ (by omega) (by omega)).trans c,(a _ (by omega) (by omega)).trans d,(a _ (by omega) (by omega)).trans e,(a _ (by omega) (by omega)).trans f⟩
theorem ON(a:Int)(D:Nat)(h:1<=a/\a<=99):BQ (D+1) (bR 3 a D)=true/\cn (D+1) (bR 3 a D)=DX a:=by
 refine⟨?_,rfl⟩;have f:bI (D+1) (bR 3 a D)=true:=by
  rw[<-aL];intro b c;have:b=((3,a,.empty),(none,0,0)):=by simpa [ax,bR]using c
  subst this;have g:oe a 1 99=true:=by simp[oe];omega
  simp[cg,g]
 have d:bv (D+1) (bR 3 a D)=0:=bC.2 ⟨f,by simp[fA,bR],by simp[sz,bR]⟩;have e:aK (D+1) (bR 3 a D)=true:=by simp[aK,bR]
 simp only[BQ,d,aA,gq];refine⟨rfl,ai ?_⟩;rw[<-fw];exact e
theorem Mg{D:Nat}{l:List (Tm D)}(a:ge D l=true)(i:Nat){y:Tm D}(c:BQ D y=true):ge D (l.set i y)=true:=by
 simp only[ge,List.length_set,aA,bO,bZ]at a ⊢;refine⟨a.1,λd b=>?_⟩;rcases sT b with b|rfl
 ·exact a.2 d b
 ·exact c
section
variable {base db:Nat} {self:Int} {n D k:Nat} {nx:Int} {d:Dg} {w:World} {l:List (Tm (D+1))} {bg bc:Nat} {sd:List (Int×Tm (D+1+n+1))} {sp:List (Int×ByteArray×Tm (D+1+n+1))} {sv pv lv:Value}
theorem ek.spawn(h:ek base db self n D k nx d w l bg bc sd sp sv pv lv)(a:Ac (n+1))(aO:iA (n+1) base w a)(ak:bv (n+1) a.2.1.2=0)(aN:a.1=2)(aY:dF a.2.2.1=true)(bs:0<=a.2.2.2/\a.2.2.2<4)(a0:1<=self/\self<=99)(bl:k<=7):am 181 #[aB db,Pb a] w λe w'=>∃t,e=.returned (.bool t)/\Hid (yI base db self n D k nx d a (lu db bg sv pv lv) w t w'):=by
 have au:=h.pRow;obtain⟨M,N,rfl⟩:=mF au;obtain⟨f1,f2,f3,f4,f5,f6⟩:=h.few;obtain⟨m,Y⟩:∃m:Nat,a.2.2.2=(m:Int):=⟨a.2.2.2.toNat,by omega⟩;have a3:m<4:=by omega
 have bk:=(hU h.bnd).1;obtain⟨p,az⟩:∃p,l[m]?=some p:=⟨l[m]'(by omega),aG _⟩;obtain⟨y1,y2,bz⟩:=h.row m p az;have aR:d.b[m]?=some (cn (D+1) p):=by rw[<-h.tells,dn,az];rfl
 have F:rh self a d=(sO d.b self (n+1) a.2.1.2).bind λt=>if p.1.1=6 then some {d with b:=d.b.set m (DX d.next),next:=d.next+1,spawns:=d.spawns++ [(d.next,a.2.2.1,t)]}else none:=by
  have aV:bU ⟨13,(d.b[a.2.2.2.toNat]?).getD (DX 0)⟩=p.1.1:=by
   rw[Y,Int.toNat_natCast,aR];rfl
  have aW:¬a.1=1:=by omega
  unfold rh;rw[if_neg aW,if_pos aN,aV,Y,Int.toNat_natCast]
 obtain⟨a1,a2⟩:=h.told (self:=self) a.2.1.2 ak
 have q:=Ei (D+1+n) a.1 a.2.1.1.1.1 a.2.1.1.1.2.1 a.2.1.1.1.2.2 a.2.1.1.2.1.1 a.2.1.1.2.2.length a.2.1.1.2.1.2 a.2.1.2.1.1 a.2.1.2.1.2.1 a.2.1.2.1.2.2 a.2.1.2.2.1.1 a.2.1.2.2.2.length a.2.1.2.2.1.2 a.2.2.1 m base db M sp.length N _ w (nQ 0 (vl (D+1) l self (n+1) a.2.1.2)) bg bc d.next p.1.1 p.1.2.1 p.1.2.2 p.2.1.1 p.2.2.length p.2.1.2 a3 (by omega) h.lt h.own.2.2.2.1 h.own.1 h.own.2.2.2.2 (by omega) (by omega) (by
   simp only[dF,oe,aA,bO]at aY
   omega)
  ⟨ag h.box 4,ag h.box 0,ag h.box 2,λj=>tZ h.box j,h.free⟩ au ⟨h.apart.1.2.1,h.apart.2.1.2.1⟩ y1 (λaH=>js _ _ _ _ _ _ aH) (h.value a.2.1.2 aO.2.2.1 ak a0)
 rw[<-Y]at q;refine q.mono ?_;rintro e w' ⟨rfl,X,aC⟩;refine⟨_,rfl,?_⟩;rw[a1]at X aC ⊢;cases f:sO d.b self (n+1) a.2.1.2 with
 | none=>
  have T:=X (by rw[f];rfl);refine⟨aJ T _,by rw[F,f];rfl,λS r=>?_⟩;rw[F,f]at r;cases r
 | some t=>
  by_cases E:p.1.1=6;rotate_left
  ·have T:=X (by rw[f];simp[E]);refine⟨aJ T _,by rw[F,f];simp[E],λS r=>?_⟩;rw[F,f]at r;simp[E]at r
  ·obtain⟨y,g,c,aD,x,C,a9,a7,Q,aZ,A,s,ay,Z,ax⟩:=aC (by rw[f];simp[E]);obtain⟨a4,_,ba⟩:=a2 y t f a9;have aP:aD.heap[db]?=_:=(A.block db h.lt λi=>h.apart.1.2.1 i).trans h.box;obtain⟨G,bb,bd,R,bw⟩:=h.own;have bq:=A.size;have U:=(oB aP).2.1 (ae (some ⟨g,0,none⟩) (sp.length+1) c);rw[<-ay]at U;have u:br (λb=>b=db) aD x:=by rw[ay];exact bD _ _ _ _
   have B:br (λb=>b=bg) x C:=by
    rw[Z];exact br.trans (og x bg (m*4) _ _ _ _) (aJ ((ap _ _).drew) _) λ_ _ e=>e
   have aQ:C.heap[db]?=_:=(B.block db (aF.1 U).1 G).trans U;have v:br (λb=>b=db) C w':=by rw[ax];exact bD _ _ _ _
   have aj:=(oB aQ).2.2.2.1 (ab (d.next+1));rw[<-ax]at aj;have bn:=u.size;have bo:=B.size;have bp:=v.size;have ao:br (lu db bg sv (ae M sp.length N) lv) w w':=br.trans (br.trans (br.trans (A.mono λi _ f=>ai (ai (ai (ah f)))) u λi _ f=>ah f) B λi _ f=>ai (ah f)) v λi _ f=>ah f;have z:∀i,i<w.heap.size->¬(Value.slice M sp.length N).ownBlock=some i->g≠i:=λi f aX e=>by
    rcases s with s|s
    ·rw[e]at s;exact aX s
    ·omega
   have ad:∀i,lu db bg sv (ae (some ⟨g,0,none⟩) (sp.length+1) c) lv i->lu db bg sv (ae M sp.length N) lv i\/w.heap.size<=i:=λi f=>by
    rcases f with f|f|f|f|f
    ·exact ah (ah f)
    ·exact ah (ai (ah f))
    ·exact ah (ai (ai (ah f)))
    ·have:g=i:=aw f;subst this;rcases s with s|s
     ·exact ah (ai (ai (ai (ah s))))
     ·exact ai s
    ·exact ah (ai (ai (ai (ai f))))
   obtain⟨be,bf,bh,bx⟩:=h.frame ao ad;refine⟨ao,by rw[F,f];simp[E],λS r=>?_⟩;rw[F,f]at r;have r:some {d with b:=d.b.set m (DX d.next),next:=d.next+1,spawns:=d.spawns++ [(d.next,a.2.2.1,t)]}=some S:=by simpa [E]using r
   obtain rfl:=aw r;have aq:∀i,lv.ownBlock=some i->i<w.heap.size:=λi f=>by
    obtain⟨aI,V⟩:=ei h.lRow i f;exact(aF.1 V).1
   have av:∀i,sv.ownBlock=some i->i<w.heap.size:=λi f=>by
    obtain⟨aI,V⟩:=ei h.sRow i f;exact(aF.1 V).1
   have O:¬(Value.slice M sp.length N).ownBlock=some bg:=h.apart.2.1.2.1;have a8:cd (LS base db bg sv (ae (some ⟨g,0,none⟩) (sp.length+1) c) lv) _ y:=Q.mono λi f=>by
    have:=h.lt;refine⟨by omega,λq=>?_⟩;rcases q with q|q|q|q|q
    ·omega
    ·omega
    ·have:=av i q;omega
    ·exact f.2 (aw q).symm
    ·have:=aq i q;omega
   have ar:=ON d.next D (by omega)
   -- the row of what is bound
   have H:∀j,x.cell? ⟨bg,j,none⟩=w.cell? ⟨bg,j,none⟩:=λj=>(u.cell j (by omega) (λe=>G e.symm)).trans (A.cell j R O);have J:∀j,w'.cell? ⟨bg,j,none⟩=C.cell? ⟨bg,j,none⟩:=λj=>v.cell j (by omega) (λe=>G e.symm);have I:∀j,C.cell? ⟨bg,j,none⟩=(cW x bg (m*4) (ab 3) (ab d.next) (af ⟨#[]⟩) (ae none 0 0)).cell? ⟨bg,j,none⟩:=λj=>by
    rw[Z,Gs]
   have aS:∀j,j<m*4\/m*4+4<=j->w'.cell? ⟨bg,j,none⟩=w.cell? ⟨bg,j,none⟩:=λj aU=>by
    rw[J,I,BX j aU];exact H j
   have P:=xV (w:=x) (g:=bg) (o:=m*4) (ab 3) (ab d.next) (af ⟨#[]⟩) (ae none 0 0) ⟨(H _).trans y1.1,(H _).trans y1.2.1,(H _).trans y1.2.2.1,(H _).trans y1.2.2.2⟩;refine⟨l.set m (bR 3 d.next D),bg,bc,sd,sp++ [(d.next,a.2.2.1,y)],sv,_,lv,⟨aj,⟨G,bb,bd,by omega,by omega⟩,Mg h.bnd m ar.1,?_,λaa aE L=>?_,λj=>?_,?_,?_,?_,h.sIs,?_,bf,λbj K=>?_,⟨⟨h.apart.1.1,?_,h.apart.1.2.2⟩,⟨h.apart.2.1.1,?_,h.apart.2.1.2.2⟩,λi=>⟨λf=>⟨λe=>?_,((h.apart.2.2 i).1 f).2⟩,λf e=>?_⟩⟩,⟨by omega,by simp;omega,by show d.links.length<=k+1;omega,by show d.next+1=nx+((sp++ [(d.next,a.2.2.1,y)]).length:Nat);simp;omega,f5,f6⟩⟩,ad⟩
   ·rw[List.map_set,h.tells,ar.2]
   ·by_cases al:m=aa
    ·subst al;rw[List.getElem?_set_self (by omega)]at L;obtain rfl:=aw L;have an:=lg D 3 d.next (by unfold dt;omega) (by unfold dt;omega) w'.heap.size w' (LS base db bg sv (ae (some ⟨g,0,none⟩) (sp.length+1) c) lv);refine⟨⟨?_,?_,?_,?_⟩,an.1,an.2⟩
     ·rw[J,I];exact P.1
     ·rw[J,I];exact P.2.1
     ·rw[J,I];exact P.2.2.1
     ·rw[J,I];exact P.2.2.2
    ·rw[List.getElem?_set_ne al]at L;exact⟨(h.row aa aE L).1.far λj bt bu=>aS j (by omega),be aa aE L⟩
   ·have aM:w'.frozen? ⟨bg,j,none⟩=C.frozen? ⟨bg,j,none⟩:=by
      unfold World.frozen?;rw[v.block bg (by omega) (λe=>G e.symm)]
    have aL:C.frozen? ⟨bg,j,none⟩=x.frozen? ⟨bg,j,none⟩:=by
     rw[Z,A7,tj]
    have aK:x.frozen? ⟨bg,j,none⟩=w.frozen? ⟨bg,j,none⟩:=by
     unfold World.frozen?;rw[u.block bg (by omega) (λe=>G e.symm),A.block bg R O]
    rw[aM,aL,aK];exact h.free j
   ·refine bi (bi (bi (bi h.sRow A λi f W=>((h.apart.2.2 i).1 f).1 W) u λi f e=>h.apart.1.1 (by rw[f,e])) B λi f e=>h.apart.2.1.1 (by rw[f,e])) v λi f e=>h.apart.1.1 (by rw[f,e])
   ·have:=bi (bi (bi aZ u λi f e=>z db h.lt h.apart.1.2.1 (by
      have:g=i:=aw f
      rw[this,e])) B λi f e=>z bg R O (by
      have:g=i:=aw f
      rw[this,e])) v λi f e=>z db h.lt h.apart.1.2.1 (by
      have:g=i:=aw f
      rw[this,e])
    simpa using this
   ·refine bi (bi (bi (bi h.lRow A λi f W=>(h.apart.2.2 i).2 W f) u λi f e=>h.apart.1.2.2 (by rw[f,e])) B λi f e=>h.apart.2.1.2.2 (by rw[f,e])) v λi f e=>h.apart.1.2.2 (by rw[f,e])
   ·simp[h.pIs,ba]
   ·rcases dp.1 K with K|K
    ·exact bh bj K
    ·obtain rfl:=eF.1 K;have bm:=h.lt;have a5:=a7.kee u (Q.mono λi f e=>by omega);have a6:=a5.kee B (Q.mono λi f e=>by omega);exact⟨a4,a6.kee v (Q.mono λi f e=>by omega),a8⟩
   ·exact λe=>z db h.lt h.apart.1.2.1 (aw e)
   ·exact λe=>z bg R O (aw e)
   ·exact z i (av i f) (λy=>((h.apart.2.2 i).1 f).1 y) (aw e)
   ·have aT:g=i:=aw f;exact z i (aq i e) (λy=>(h.apart.2.2 i).2 y e) aT
end
def N0{n:Nat}(a:Ac (n+1)):Prop:=nN (n+1) a=true/\(a.1=1\/a.1=3->bv (n+1) a.2.1.1=0)/\(a.1=1\/a.1=2->bv (n+1) a.2.1.2=0)
theorem qh(self:Int){n:Nat}:(p q:List (Ac (n+1)))->(d:Dg)->qe self (p++q) d=(qe self p d).bind (qe self q)
 | [],_,_=>rfl
 | a::p,q,d=>by
  simp only[fO,qe];cases rh self a d with
  | none=>rfl
  | some b=>exact qh self p q b
theorem JR(self:Int){n:Nat}{l:List (Ac (n+1))}{i:Nat}{a:Ac (n+1)}(b:l[i]?=some a)(d:Dg):qe self (l.take (i+1)) d=(qe self (l.take i) d).bind (rh self a):=by
 rw[dq,b,qh];congr 1;funext x;show qe self [a] x=rh self a x;simp only[qe];cases rh self a x<;>rfl
theorem JP(self:Int){n:Nat}{l:List (Ac (n+1))}{i:Nat}{d:Dg}(a:qe self (l.take i) d=none):qe self l d=none:=by
 rw[<-ir i l,qh,a];rfl
section
variable {base db:Nat} {self:Int} {n D k:Nat} {nx:Int} {d:Dg} {w:World} {l:List (Tm (D+1))} {bg bc:Nat} {sd:List (Int×Tm (D+1+n+1))} {sp:List (Int×ByteArray×Tm (D+1+n+1))} {sv pv lv:Value}
theorem yI.from{a:Ac (n+1)}{S:Nat->Prop}{W w':World}{t:Bool}(b:yI base db self n D k nx d a S W t w')(c:aj w W):yI base db self n D k nx d a S w t w':=⟨(aJ c S).trans b.1 λ_ _ e=>e,b.2.1,λh l=>by
 obtain⟨o,g,f,s,u,v,r,p,i,j⟩:=b.2.2 h l;refine⟨o,g,f,s,u,v,r,p,i,λq m=>?_⟩;rcases j q m with e|e
 ·exact ah e
 ·have:=c.size
  exact ai (by omega)⟩
theorem iA.later{B:Nat}{a:Ac (n+1)}{W:World}(b:iA (n+1) B w a)(c:Below B w W):iA (n+1) B W a:=⟨b.1,b.2.1.below c,b.2.2.1.below c,b.2.2.2⟩
theorem ek.stop(a:ek base db self n D k nx d w l bg bc sd sp sv pv lv):Do base db self n D (k+1) nx {d with stops:=true} (lu db bg sv pv lv) w (w.setCell ⟨db,6,none⟩ (.bool true))/\br (lu db bg sv pv lv) w (w.setCell ⟨db,6,none⟩ (.bool true)):=by
 have e:=bD w db 6 (.bool true);obtain⟨s,t,u,y⟩:=a.frame (w':=w.setCell ⟨db,6,none⟩ (.bool true)) (e.mono λf _ b=>ah b) λf c=>ah c;obtain⟨g,q,r,m,x⟩:=a.own;have v:=e.size;obtain⟨f1,f2,f3,f4⟩:=a.few;refine⟨⟨l,bg,bc,sd,sp,sv,pv,lv,⟨(oB a.box).2.2.2.2 _,⟨g,q,r,by omega,by omega⟩,a.bnd,a.tells,λj o i=>⟨(a.row j o i).1.kee e m (λb=>g b.symm),s j o i⟩,λp=>?_,bi a.sRow e λf c b=>a.apart.1.1 (by rw[c,b]),bi a.pRow e λf c b=>a.apart.1.2.1 (by rw[c,b]),bi a.lRow e λf c b=>a.apart.1.2.2 (by rw[c,b]),a.sIs,a.pIs,t,u,a.apart,⟨by omega,by omega,by show d.links.length<=k+1;omega,f4⟩⟩,λf c=>ah c⟩,e.mono λf _ b=>ah b⟩;have h:=a.free p;unfold World.frozen? at h ⊢;rw[e.block bg m (λb=>g b.symm)];exact h
theorem ek.one(c:ek base db self n D k nx d w l bg bc sd sp sv pv lv)(a:Ac (n+1))(m:iA (n+1) base w a)(A:N0 a)(p:1<=self/\self<=99)(y:k<=7):am 152 #[aB db,Pb a] w λe w'=>∃t,e=.returned (.bool t)/\Hid (yI base db self n D k nx d a (lu db bg sv pv lv) w t w'):=by
 obtain⟨f,r,s⟩:=A;have o:=c.own.2.2.2.2;refine KH a.1 a.2.1.1.1.1 a.2.1.1.1.2.1 a.2.1.1.1.2.2 a.2.1.1.2.1.1 a.2.1.1.2.2.length a.2.1.1.2.1.2 a.2.1.2.1.1 a.2.1.2.1.2.1 a.2.1.2.1.2.2 a.2.1.2.2.1.1 a.2.1.2.2.2.length a.2.1.2.2.1.2 a.2.2.1 a.2.2.2 db w (yI base db self n D k nx d a (lu db bg sv pv lv) w) c.lt ⟨d.stops,ag c.box 6,tZ c.box 6⟩ ?_ ?_ ?_ ?_
 ·intro i h b;refine((c.later b).send a (m.later (b.mono o)) (r (ah i)) (s (ah i)) i p (by omega)).mono ?_;rintro e w' ⟨t,rfl,g⟩;exact⟨t,rfl,g.from b⟩
 ·intro j h b;have x:dF a.2.2.1=true/\0<=a.2.2.2/\a.2.2.2<4:=by
   have z:¬a.1=1:=by omega
   unfold nN at f;rw[if_neg z,if_pos j]at f;simp only[aA,bO]at f;exact⟨f.1.1.2,f.1.2,f.2⟩
  refine((c.later b).spawn a (m.later (b.mono o)) (s (ai j)) j x.1 x.2 p y).mono ?_;rintro e w' ⟨t,rfl,g⟩;exact⟨t,rfl,g.from b⟩
 ·intro q h b;refine((c.later b).link a (m.later (b.mono o)) (r (ai q)) q p (by omega)).mono ?_;rintro e w' ⟨t,rfl,g⟩;exact⟨t,rfl,g.from b⟩
 ·intro B C E h b;have u:rh self a d=some {d with stops:=true}:=by
   unfold rh;rw[if_neg B,if_neg C,if_neg E]
  obtain⟨F,G⟩:=(c.later b).stop;refine yI.from ⟨G,by rw[u];rfl,λH v=>?_⟩ b;rw[u]at v;obtain rfl:=aw v;exact F
theorem ek.all(G:ek base db self n D 0 nx d w l bg bc sd sp sv pv lv)(ac:List (Ac (n+1)))(K:Option Addr)(T:Nat)(N:pY base w 11 (fZ (n+1)) (iA (n+1) base w) K ac)(ab:∀a∈ac,N0 a)(W:ac.length<=8)(ad:1<=self/\self<=99):am 120 #[aB db,ae K ac.length T] w λe w'=>∃t,e=.returned (.bool t)/\Hid (br (lu db bg sv pv lv) w w'/\t=(qe self ac d).isSome/\∀g,qe self ac d=some g->Do base db self n D 8 nx g (lu db bg sv pv lv) w w'):=by
 have aa:=G.own.2.2.2.2;have Q:∀{c:World},br (lu db bg sv pv lv) w c->Below base w c:=λj=>j.below aa λb X k=>by
  have:=G.high b k;omega
 refine(Jl ac K ac.length T db w (λi c=>br (lu db bg sv pv lv) w c/\∃g,qe self (ac.take i) d=some g/\Do base db self n D i nx g (lu db bg sv pv lv) w c) (λc=>br (lu db bg sv pv lv) w c/\qe self ac d=none) (by omega) rfl ?_ ?_ ?_ ?_).mono ?_
 ·rintro i a c h ⟨j,_⟩;rcases N with e|⟨b,o,e,R,I⟩
  ·rw[e]at h;simp at h
  ·exact⟨b,o,e,λS av Z=>((Q j).cell (p:=⟨b,o+i*11+S,none⟩) R).trans ((I i a h).1 S av Z)⟩
 ·rintro i c ax ⟨j,g,H,z,x,v,C,E,F,B,A,q,m⟩ M;exact⟨j.trans (aJ M (λ_=>False)) λ_ _ e=>e.elim,g,H,z,x,v,C,E,F,B,A,q.later M,m⟩
 ·rintro i a c h ⟨j,g,H,z,x,v,C,E,F,B,A,q,m⟩;have ay:=(aO.1 h).1;have Y:iA (n+1) base c a:=by
   rcases N with e|⟨b,o,e,R,I⟩
   ·rw[e]at h;simp at h
   ·exact((I i a h).2).later (Q j)
  refine(q.one a Y (ab a (aH h)) ad (by omega)).mono ?_;rintro e w' ⟨t,rfl,u⟩;obtain⟨s,f,L⟩:=u.out;have y:=JR self h d;rw[H]at y;simp only[dA]at y;have P:br (lu db bg sv pv lv) w w':=j.trans s λb X k=>by
   rcases m b k with e|e
   ·exact e
   ·omega
  refine⟨t,rfl,λag=>⟨P,?_⟩,λaf=>⟨P,?_⟩⟩
  ·rw[ag]at f;obtain⟨d2,r⟩:=gA.1 f.symm;obtain⟨an,V,U,aq,ar,au,ap,ao,aj,al⟩:=L d2 r;refine⟨d2,by rw[y,r],an,V,U,aq,ar,au,ap,ao,aj,λk J=>?_⟩;rcases al k J with e|e
   ·exact m k e
   ·have:=j.size;exact ai (by omega)
  ·rw[af]at f;refine JP self (i:=i+1) ?_;rw[y];exact kL.1 (by rw[<-kM,<-f];rfl)
 ·exact⟨br.refl _ _,d,rfl,l,bg,bc,sd,sp,sv,pv,lv,G,λk J=>ah J⟩
 ·rintro e w' ⟨t,rfl,u⟩;refine⟨t,rfl,?_⟩;cases t
  ·obtain⟨s,f⟩:=u.out.2 rfl;refine⟨s,by rw[f];rfl,λg O=>?_⟩;rw[f]at O;cases O
  ·obtain⟨s,g,f,L⟩:=u.1 rfl;rw[bu (ak _)]at f;refine⟨s,by rw[f];rfl,λd2 r=>?_⟩;rw[f]at r;obtain rfl:=aw r;obtain⟨z,x,v,C,E,F,B,A,q,m⟩:=L;exact⟨z,x,v,C,E,F,B,A,q.more W,m⟩
end
end Go.Proofs.YtmmahddlcldmiaaGreatDoor
