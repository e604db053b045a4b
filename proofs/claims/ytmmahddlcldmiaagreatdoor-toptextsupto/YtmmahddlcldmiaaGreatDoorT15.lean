/- Proved here: plain facts and contracts. No condition but what each names. -/
import Derived.Test.YtmmahddlcldmiaaGreatDoorT14
namespace Go.Proofs.YtmmahddlcldmiaaGreatDoor
open Go.RowKit Go.Proofs.Tryz
set_option maxHeartbeats 2000000
set_option maxRecDepth 100000
def zT(N:Nat):Tm (N+1):=((0,0,.empty),(none,0),[])
def ki(n:Nat)(p:List (Bh (n+1))):Int:=if ky (n+1) p then bv (n+6) (bK n p)else 5
def I8(n:Nat)(p:List (Bh (n+1))):Tm (n+6):=if ki n p=0 then bK n p else zT (n+5)
def Jf(B n:Nat)(p:List (Bh (n+1)))(w:World)(e:Ending)(w':World):Prop:=
 ∃a:Tm (n+6),e=.returned (.tuple #[df (n+6) a,ab (ki n p)])/\Hid (aj w w'/\In w'.heap.size w' (n+6) a/\cd (λb=>b<B\/w.heap.size<=b) (n+6) a/\ay (n+6) a (n+6) (I8 n p)=true)
theorem lp(N B:Nat)(w:World):In B w (N+1) (zT N):=⟨⟨by simp[zT,dt],by simp[zT,dt],aI _,by simp[zT],by simp[zT]⟩,ah rfl⟩
theorem FK{B n:Nat}{p:List (Bh (n+1))}{w w':World}{k:Int}(b:aj w w')(c:k=ki n p)(a:¬k=0):Jf B n p w (.returned (.tuple #[.agg #[ab 0,ab 0,af .empty,ae none 0 0],ab k])) w':=by
 subst c;refine⟨zT (n+5),rfl,b,lp _ _ _,ah rfl,?_⟩;unfold I8;rw[if_neg a];exact lF (lp _ 0 w)
theorem xS{n:Nat}{p:List (Bh n)}(a:ky n p=true):p.length<=7/\∀b∈p,b.2.2.length<=6/\∀c∈b.2.2,c.2.2.length<=8:=by
 simp only[ky,wF,tF,aA,bO,bZ]at a;refine⟨by omega,λb d=>⟨by have:=(a.2 b d).1.2;omega,λc e=>by have:=((a.2 b d).2 c e).1;omega⟩⟩
theorem qT(w:World)(v0 v1 v2 v3:Value)(t:TypeId){w':World}(a:Below (w.alloc (.cells #[v0,v1,v2,v3] t)).heap.size (w.alloc (.cells #[v0,v1,v2,v3] t)) w'):w'.heap[w.heap.size]?=some (.cells #[v0,v1,v2,v3] t):=
 (a.block _ (by simp)).trans (aE w _)
theorem Ev(n:Nat)(p:List (Bh (n+1)))(a:Option Addr)(pc:Nat)(ar:p.length<=pc)(ag:pc<=maxLen)(B:Nat)(w:World)(L:fR (n+1) B w a p)(A:B<=w.heap.size)(ad:ky (n+1) p=true->(ax (n+6) (bK n p)).length<=2097152):am 5 #[ae a p.length pc] w (Jf B n p w):=by
 have Q:Hid (∀f,aj w f->am 21 #[ae a p.length pc] f λk m=>k=.returned (.bool (ky (n+1) p))/\aj f m):=
  λf s=>pO n p p.length rfl a pc B f (L.below (s.mono A)) (by unfold maxLen at ag;omega) (az A s.size)
 have G:Hid (ky (n+1) p=true->∀f,aj w f->am 22 #[ae a p.length pc] f (iF B (n+6) (bK n p) f)):=
  λs f z=>tT n p a pc B f (L.below (z.mono A)) (xS s).1 (xS s).2 (az A z.size)
 have x:Hid (ki n p=if ky (n+1) p then bv (n+6) (bK n p)else 5):=rfl;have R:=aq ad;have T:Hid (I8 n p=if ki n p=0 then bK n p else zT (n+5)):=rfl;clear L ad ar ag;generalize p.length=len at*;generalize ky (n+1) p=aD at*;go_enter func5,ntmps5;go_wp2_with fail;refine(Q _ aN).mono ?_;rintro k f ⟨rfl,J⟩;have h:=aq (qT w _ _ _ _ _ J);have r:Hid (aj w f):=aN.trans (J.mono (by simp));have aw:w.heap.size<f.heap.size:=(aF.1 h).1;clear J Q;cases aD
 ·have d0:f.cell? ⟨w.heap.size,0,none⟩=some (ab 0):=au h 0;have d1:f.cell? ⟨w.heap.size,1,none⟩=some (ab 0):=au h 1;have d2:f.cell? ⟨w.heap.size,2,none⟩=some (af ⟨#[]⟩):=au h 2;have d3:f.cell? ⟨w.heap.size,3,none⟩=some (ae none 0 0):=au h 3;have f0:=λu=>cQ h u;clear G h;go_wp2_with fail;exact av (v:=.tuple #[.agg #[ab 0,ab 0,af .empty,ae none 0 0],ab 5]) (by simp[results,results5,go_sem,d0,d1,d2,d3];rfl) rfl (FK (dM r (ak _)) (by rw[x.out];rfl) (by omega))
 ·have S:=aq (G rfl f r);go_wp2_with fail;refine S.mono ?_;rintro k g ⟨d,rfl,j⟩;have M:Hid (aj w g):=r.trans (j.1.mono r.size);have Y:df (n+6) d=.agg #[ab d.1.1,ab d.1.2.1,af d.1.2.2,ae d.2.1.1 d.2.2.length d.2.1.2]:=rfl;have O:Hid (∀e,aj g e->am 23 #[.agg #[ab d.1.1,ab d.1.2.1,af d.1.2.2,ae d.2.1.1 d.2.2.length d.2.1.2]] e λk m=>k=.returned (ab (ki n p))/\aj e m):=λe t=>by
   have:=dC (n+6) d g.heap.size e (j.2.1.below t) t.size (by rw[kC _ _ _ _ j.out.2.2.2];exact R (by simp));rw[bJ j.out.2.2.2]at this;rw[x.out];exact this
  have F:Hid (ki n p=0->∀e,aj g e->am 24 #[.agg #[ab d.1.1,ab d.1.2.1,af d.1.2.2,ae d.2.1.1 d.2.2.length d.2.1.2]] e λk m=>∃c:Tm (n+6),k=.returned (df (n+6) c)/\Hid (aj e m/\In m.heap.size m (n+6) c/\cd (λaC=>e.heap.size<=aC) (n+6) c/\ay (n+6) c (n+6) d=true)):=λao e t=>
   ie (n+6) d g.heap.size e (j.2.1.below t) t.size (aL.2 (by have z:bv (n+6) (bK n p)=0:=(by simpa [x.out]using ao);rw[jy _ _ _ _ j.out.2.2.2];exact(bC.1 z).1))
  have an:=aq j.2.2.2;have H:=aq ((j.1.block _ aw).trans h);have aA:w.heap.size<g.heap.size:=(aF.1 H).1;rw[Y];clear G S h r j Y R;generalize aa:ki n p=C at*;have P:=aq aa;clear aa x;go_wp2_with fail;refine(O _ aN).mono ?_;rintro k e ⟨rfl,K⟩;have E:Hid (aj g e):=aN.trans (K.mono (by simp));have D:Hid (aj w e):=M.trans (E.mono M.size);have y:=aq (qT g _ _ _ _ _ K);have i:=aq ((E.block _ aA).trans H);have aB:w.heap.size<e.heap.size:=(aF.1 i).1;have U:e.cell? ⟨g.heap.size,0,none⟩=some (ab d.1.1):=au y 0;have V:e.cell? ⟨g.heap.size,1,none⟩=some (ab d.1.2.1):=au y 1;have W:e.cell? ⟨g.heap.size,2,none⟩=some (af d.1.2.2):=au y 2;have X:e.cell? ⟨g.heap.size,3,none⟩=some (ae d.2.1.1 d.2.2.length d.2.1.2):=au y 3;clear K O H;by_cases I:C=0
  ·subst I;have ah:=aq (F rfl e E);clear F;go_wp2_with fail;refine ah.mono ?_;rintro k q ⟨c,rfl,l⟩;have o:=aq ((l.1.block _ aB).trans i);have N:Hid (aj w q):=D.trans (l.1.mono D.size);have d0:q.cell? ⟨w.heap.size,0,none⟩=some (ab 0):=au o 0;have d1:q.cell? ⟨w.heap.size,1,none⟩=some (ab 0):=au o 1;have d2:q.cell? ⟨w.heap.size,2,none⟩=some (af ⟨#[]⟩):=au o 2;have d3:q.cell? ⟨w.heap.size,3,none⟩=some (ae none 0 0):=au o 3;have f0:=λu=>cQ o u;have Z:df (n+6) c=.agg #[ab c.1.1,ab c.1.2.1,af c.1.2.2,ae c.2.1.1 c.2.2.length c.2.1.2]:=rfl;rw[Z];have al:Hid (Jf B n p w (.returned (.tuple #[.agg #[ab c.1.1,ab c.1.2.1,af c.1.2.2,ae c.2.1.1 c.2.2.length c.2.1.2],ab 0])) (cW q w.heap.size 0 (ab c.1.1) (ab c.1.2.1) (af c.1.2.2) (ae c.2.1.1 c.2.2.length c.2.1.2))):=by
    refine⟨c,by rw[P.out];rfl,dM N (ak _),?_,l.2.2.1.mono λb ap=>ai (by omega),?_⟩
    ·rw[bq];exact In.off (λb ap=>aW (by omega) _ _ _ _) l.2.2.1 l.2.1
    ·rw[show I8 n p=bK n p from by simpa using T.out];exact bH _ _ _ _ _ _ l.2.2.2 an
   clear o i l N U V W X Z T;go_wp2_with fail;exact av (v:=.tuple #[.agg #[ab c.1.1,ab c.1.2.1,af c.1.2.2,ae c.2.1.1 c.2.2.length c.2.1.2],ab 0]) (by simp[results,results5,go_sem,d0,d1,d2,d3]) rfl al
  ·have d0:e.cell? ⟨w.heap.size,0,none⟩=some (ab 0):=au i 0;have d1:e.cell? ⟨w.heap.size,1,none⟩=some (ab 0):=au i 1;have d2:e.cell? ⟨w.heap.size,2,none⟩=some (af ⟨#[]⟩):=au i 2;have d3:e.cell? ⟨w.heap.size,3,none⟩=some (ae none 0 0):=au i 3;have f0:=λu=>cQ i u;have aE:(C !=0)=true:=by simpa using I
   clear i F U V W X;go_wp2_with fail;exact av (v:=.tuple #[.agg #[ab 0,ab 0,af .empty,ae none 0 0],ab C]) (by simp[results,results5,go_sem,d0,d1,d2,d3];rfl) rfl (FK (dM D (ak _)) P.symm I)
theorem ed.ownAt{N B base k:Nat}{xs:List (Tm N)}{v:Value}{w0 wr W:World}(a:ed N B base xs v w0 wr)(c:xs.length=k)(b:aj wr W):W.ownsRow base 28 4 v k (xs.flatMap (il N)):=by
 subst c;exact dS a.2.1 b
theorem ed.appAt{N B base k:Nat}{xs:List (Tm N)}{v:Value}{w0 wr W w4:World}{g c:Nat}(d:ed N B base xs v w0 wr)(n:xs.length=k)(f:B<=base)(l:base<=wr.heap.size)(e:aj wr W)(a:Tm N)(i:In W.heap.size W N a)(h:cd (λb=>b<B\/wr.heap.size<=b) N a)(o:w4.ownsRow base 28 4 (ae (some ⟨g,0,none⟩) (k+1) c) (k+1) (xs.flatMap (il N)++il N a))(m:W.grownBy w4 v.ownBlock)(j:v.ownBlock=some g\/g=W.heap.size):ed N B base (xs++ [a]) (ae (some ⟨g,0,none⟩) (k+1) c) w0 w4:=by
 subst n;exact fi.step (dX N) d f l e a i h o m j
theorem ru(a:World)(o:Obj){g:Nat}(b:g=a.heap.size):(a.alloc o).drew.heap[g]?=some o:=by
 subst b;exact aE a o
theorem xL(a:World)(o:Obj){g:Nat}(b:g=a.heap.size):(a.alloc o).heap[g]?=some o:=by
 subst b;exact aE a o
def PL(b:Nat)(name:ByteArray)(a:Wd)(mv:Value):cu:=⟨b,1,[af name],[ab a.1,ab a.2,mv],166⟩
def jH(Mh:Nat->Prop)(ma:Option Addr)(vs:List Wd)(a:Nat)(w:World):Prop:=
 (ma=none/\vs=[]/\a=0)\/∃c d b,ma=some ⟨c,d,none⟩/\¬Mh c/\w.heap[c]?=some (.cells b 154 (0,0))/\vs.length<=a/\a<=maxLen/\d+a*2<=b.size/\(b.toList.drop d).take (vs.length*2)=aX vs
def jV(N:Nat)(ws:List Wd)(nm:List ByteArray)(room:Int)(b:List Wd)(a:List (Tm N)):Prop:=
 gD ws nm N b a/\(b.flatMap (oX ws N)).Nodup/\(∀c∈a,bv N c=0/\aK N c=true)/\(a.map (sz N)).sum<=(ws.length:Int)/\(ws.length:Int)<=room/\0<=room/\room<=1000/\nm.Nodup
structure cD (base pb:Nat) (name:ByteArray) (room:Int) (N:Nat) (s:Tm N) (ms:List (Tm N)) (xs:List (Wd×Tm N)) (nk:Nat) (M:Nat->Prop) (w:World) (ws:List Wd) (nm:List ByteArray) (sv:Wd) (vs:List Wd) (ma:Option Addr) (mc:Nat) (Mh:Nat->Prop):Prop where
 heap:dK base (PL pb name sv (ae ma vs.length mc)) room ws nm Mh w
 mail:jH Mh ma vs mc w
 has:jV N ws nm room (sv::vs++xs.map (·.1)) (s::ms++xs.map (·.2))
 len:vs.length=ms.length
 names:nm.length<=nk
 inM:∀b,Mh b->M b
 mailM:∀a,ma=some a->M a.block
theorem dK.box{base:Nat}{b:cu}{room:Int}{ws:List Wd}{nm:List ByteArray}{M:Nat->Prop}{w:World}(e:dK base b room ws nm M w):∃tv lv mv,HB b room tv lv mv w/\∃h i,tv=ae h ws.length i:=by
 obtain⟨tv,lv,mv,f,g,_⟩:=e;refine⟨tv,lv,mv,f,?_⟩;rcases g.2 with⟨a,d⟩|⟨k,c,j,a,_⟩
 ·exact⟨none,0,by rw[a,d]⟩
 ·exact⟨_,c,a⟩
theorem PL.cells{a:Nat}{name:ByteArray}{b:Wd}{mv:Value}{room:Int}{tv lv mp:Value}{w:World}(d:HB (PL a name b mv) room tv lv mp w):w.cell? ⟨a,0,none⟩=some (af name)/\w.cell? ⟨a,5,none⟩=some (ab b.1)/\w.cell? ⟨a,5+1,none⟩=some (ab b.2)/\w.cell? ⟨a,7,none⟩=some mv/\(∀j,w.frozen? ⟨a,j,none⟩=false)/\a<w.heap.size:=by
 have c:w.heap[a]?=some (.cells #[af name,ab room,tv,lv,mp,ab b.1,ab b.2,mv] 166):=d.2;refine⟨?_,?_,?_,?_,λj=>?_,(aF.1 c).1⟩
 all_goals simp[World.cell?,World.frozen?,c]
def nd(N:Nat)(x:Tm N)(w:World)(e:Ending)(w':World):Prop:=∃y:Tm N,e=.returned (df N y)/\Hid (aj w w'/\In w'.heap.size w' N y/\cd (λq=>w.heap.size<=q) N y/\ay N y N x=true)
theorem Hy(P N:Nat)(x:Tm (N+1))(v:Wd)(w:World)(K:Hid (∀w1,aj w w1->am 109 #[.pointer (some ⟨P,1,none⟩),.agg #[ab v.1,ab v.2]] w1 λe w'=>∃y:Tm (N+1),e=.returned (.tuple #[.agg #[ab y.1.1,ab y.1.2.1,af y.1.2.2,ae y.2.1.1 y.2.2.length y.2.1.2],ab 0])/\Hid (aj w1 w'/\In w'.heap.size w' (N+1) y/\cd (λq=>w1.heap.size<=q) (N+1) y/\ay (N+1) y (N+1) x=true))):am 80 #[aB P,.agg #[ab v.1,ab v.2]] w (nd (N+1) x w):=by
 go_enter func80,ntmps80;go_wp2_with fail;have B:=aq (kj w (.cells #[ab v.1,ab v.2] 154) (.cells #[ab 0,ab 0,af ⟨#[]⟩,ae none 0 0] 28));have f:Hid (aj w ((w.alloc (.cells #[ab v.1,ab v.2] 154)).alloc (.cells #[ab 0,ab 0,af ⟨#[]⟩,ae none 0 0] 28))/\((w.alloc (.cells #[ab v.1,ab v.2] 154)).alloc (.cells #[ab 0,ab 0,af ⟨#[]⟩,ae none 0 0] 28)).heap.size=w.heap.size+1+1):=⟨by go_grown,by simp⟩;generalize M:(w.alloc _).alloc _=a;rw[M]at B f;clear M;have T:a.heap.size=w.heap.size+1+1:=f.2;have p:Hid (∀w',aj a w'->w'.cell? ⟨w.heap.size,0,none⟩=some (ab v.1)/\w'.cell? ⟨w.heap.size,1,none⟩=some (ab v.2)):=λw' S=>by
  have L:=(S.block w.heap.size (by omega)).trans B.1;exact⟨au L 0,au L 1⟩
 obtain⟨an,ao⟩:=p.out a (ap _ _);have z:Hid (aj a a.drew):=(ap _ _).drew;have A:Hid (aj a (a.alloc (.cells #[ab 0,ab 0,af ⟨#[]⟩,ae none 0 0] 28)).drew):=(show Below _ _ _ by go_grown);have F:Hid ((a.alloc (.cells #[ab 0,ab 0,af ⟨#[]⟩,ae none 0 0] 28)).drew.heap[a.heap.size]?=some (.cells #[ab 0,ab 0,af ⟨#[]⟩,ae none 0 0] 28)/\(a.alloc (.cells #[ab 0,ab 0,af ⟨#[]⟩,ae none 0 0] 28)).drew.heap.size=a.heap.size+1):=⟨ru a _ rfl,by simp⟩;clear T
 go_region_held3 (λw'=>w'.cell? ⟨w.heap.size,0,none⟩=some (ab v.1)/\w'.cell? ⟨w.heap.size,1,none⟩=some (ab v.2)) (first|(go_keep;done)|with_reducible exact p _ z|with_reducible exact p _ A|exact p _ h|exact E _|exact Q _ _ _ _|exact R _ _ _ _ _)
  ((first
   | (go_at_call 109;refine(K _ (f.1.trans (z.mono f.1.size))).mono ?_;rintro e w1 ⟨y,rfl,l⟩;have h:=aq (z.trans (l.1.mono z.size));have E:Hid (∀o:Obj,(w1.alloc o).cell? ⟨w.heap.size,0,none⟩=some (ab v.1)/\(w1.alloc o).cell? ⟨w.heap.size,1,none⟩=some (ab v.2)):=λo=>p _ (h.trans (aN.mono h.size));have R:Hid (∀(o:Obj)(m b c n:Value),(cW (w1.alloc o) w1.heap.size 0 m b c n).cell? ⟨w.heap.size,0,none⟩=some (ab v.1)/\(cW (w1.alloc o) w1.heap.size 0 m b c n).cell? ⟨w.heap.size,1,none⟩=some (ab v.2)):=λo m b c n=>by have al:=h.size;have D:=f.2;exact⟨(bt (aW (by omega) m b c n) 0).trans (E o).1,(bt (aW (by omega) m b c n) 1).trans (E o).2⟩)
   | (go_at_call 109;refine(K _ (f.1.trans (A.mono f.1.size))).mono ?_;rintro e w1 ⟨y,rfl,l⟩;have h:=aq (A.trans (l.1.mono A.size));have r:=aq ((l.1.block _ (by have:=F.2;omega)).trans F.1);have ad:w1.cell? ⟨a.heap.size,0,none⟩=some (ab 0):=au r 0;have ag:w1.cell? ⟨a.heap.size,1,none⟩=some (ab 0):=au r 1;have ah:w1.cell? ⟨a.heap.size,2,none⟩=some (af ⟨#[]⟩):=au r 2;have ai:w1.cell? ⟨a.heap.size,3,none⟩=some (ae none 0 0):=au r 3;have ak:=λu=>cQ r u;have Q:Hid (∀m b c n:Value,(cW w1 a.heap.size 0 m b c n).cell? ⟨w.heap.size,0,none⟩=some (ab v.1)/\(cW w1 a.heap.size 0 m b c n).cell? ⟨w.heap.size,1,none⟩=some (ab v.2)):=λm b c n=>⟨(bt (aW (by have:=f.2;omega) m b c n) 0).trans (p _ h).1,(bt (aW (by have:=f.2;omega) m b c n) 1).trans (p _ h).2⟩)))
 ·have D:=f.2;have i:Hid ((w1.alloc (.cells #[ab y.1.1,ab y.1.2.1,af y.1.2.2,ae y.2.1.1 y.2.2.length y.2.1.2] 28)).heap[w.heap.size+1]?=some (.cells #[ab 0,ab 0,af ⟨#[]⟩,ae none 0 0] 28)):=(aN.block _ (by have:=h.size;omega)).trans ((h.block _ (by omega)).trans B.2);have k:Hid ((w1.alloc (.cells #[ab y.1.1,ab y.1.2.1,af y.1.2.2,ae y.2.1.1 y.2.2.length y.2.1.2] 28)).heap[w1.heap.size]?=some (.cells #[ab y.1.1,ab y.1.2.1,af y.1.2.2,ae y.2.1.1 y.2.2.length y.2.1.2] 28)):=aE _ _;have j:Hid (aj w (w1.alloc (.cells #[ab y.1.1,ab y.1.2.1,af y.1.2.2,ae y.2.1.1 y.2.2.length y.2.1.2] 28))/\In (w1.alloc (.cells #[ab y.1.1,ab y.1.2.1,af y.1.2.2,ae y.2.1.1 y.2.2.length y.2.1.2] 28)).heap.size (w1.alloc (.cells #[ab y.1.1,ab y.1.2.1,af y.1.2.2,ae y.2.1.1 y.2.2.length y.2.1.2] 28)) (N+1) y/\cd (λq=>w.heap.size+2<=q) (N+1) y):=⟨(f.1.trans (h.mono f.1.size)).trans (aN.mono (f.1.trans (h.mono f.1.size)).size),(l.2.1.below aN).mono (by simp),l.2.2.1.mono λq (C:a.heap.size<=q)=>by omega⟩;have s:Hid (∃d,d=(w1.alloc (.cells #[ab y.1.1,ab y.1.2.1,af y.1.2.2,ae y.2.1.1 y.2.2.length y.2.1.2] 28))):=⟨_,rfl⟩;obtain⟨d,t⟩:=s.out;rw[<-t]at i k j ⊢;clear t s D;have G:d.cell? ⟨w.heap.size+1,0,none⟩=some (ab 0):=au i 0;have H:d.cell? ⟨w.heap.size+1,1,none⟩=some (ab 0):=au i 1;have I:d.cell? ⟨w.heap.size+1,2,none⟩=some (af ⟨#[]⟩):=au i 2;have J:d.cell? ⟨w.heap.size+1,3,none⟩=some (ae none 0 0):=au i 3;have Z:=λu=>cQ i u;have V:d.cell? ⟨w1.heap.size,0,none⟩=some (ab y.1.1):=au k 0;have W:d.cell? ⟨w1.heap.size,1,none⟩=some (ab y.1.2.1):=au k 1;have X:d.cell? ⟨w1.heap.size,2,none⟩=some (af y.1.2.2):=au k 2;have Y:d.cell? ⟨w1.heap.size,3,none⟩=some (ae y.2.1.1 y.2.2.length y.2.1.2):=au k 3;go_wp2_with fail;refine av (v:=.agg #[ab y.1.1,ab y.1.2.1,af y.1.2.2,ae y.2.1.1 y.2.2.length y.2.1.2]) (by simp[results,results80,go_sem,G,H,I,J]) rfl ?_;refine⟨y,rfl,dM j.1 (by omega),?_,j.2.2.mono λq C=>by omega,l.2.2.2⟩;have e:=In.off (w':=cW d (w.heap.size+1) 0 (ab y.1.1) (ab y.1.2.1) (af y.1.2.2) (ae y.2.1.1 y.2.2.length y.2.1.2)) (λb (O:w.heap.size+2<=b)=>aW (by omega) _ _ _ _) j.2.2 j.2.1;rw[<-bq (w:=d) (g:=w.heap.size+1) (o:=0) (ab y.1.1) (ab y.1.2.1) (af y.1.2.2) (ae y.2.1.1 y.2.2.length y.2.1.2)]at e;exact e
 ·have D:=f.2;have U:=F.2;have i:Hid ((cW w1 a.heap.size 0 (ab y.1.1) (ab y.1.2.1) (af y.1.2.2) (ae y.2.1.1 y.2.2.length y.2.1.2)).heap[w.heap.size+1]?=some (.cells #[ab 0,ab 0,af ⟨#[]⟩,ae none 0 0] 28)):=(aW (by omega) _ _ _ _).trans ((h.block _ (by omega)).trans B.2)
  have k:Hid ((cW w1 a.heap.size 0 (ab y.1.1) (ab y.1.2.1) (af y.1.2.2) (ae y.2.1.1 y.2.2.length y.2.1.2)).heap[a.heap.size]?=some (.cells #[ab y.1.1,ab y.1.2.1,af y.1.2.2,ae y.2.1.1 y.2.2.length y.2.1.2] 28)):=(by
   show _=_
   simp[cW,World.setCell,bN,r.out])
  have j:Hid (aj w (cW w1 a.heap.size 0 (ab y.1.1) (ab y.1.2.1) (af y.1.2.2) (ae y.2.1.1 y.2.2.length y.2.1.2))/\In (cW w1 a.heap.size 0 (ab y.1.1) (ab y.1.2.1) (af y.1.2.2) (ae y.2.1.1 y.2.2.length y.2.1.2)).heap.size (cW w1 a.heap.size 0 (ab y.1.1) (ab y.1.2.1) (af y.1.2.2) (ae y.2.1.1 y.2.2.length y.2.1.2)) (N+1) y/\cd (λq=>w.heap.size+2<=q) (N+1) y):=by
   refine⟨dM (f.1.trans (h.mono f.1.size)) (by omega),?_,l.2.2.1.mono λq C=>?_⟩
   ·rw[bq];exact In.off (λb (O:(a.alloc (.cells #[ab 0,ab 0,af ⟨#[]⟩,ae none 0 0] 28)).drew.heap.size<=b)=>aW (by omega) _ _ _ _) l.2.2.1 l.2.1
   ·have aa:(a.alloc (.cells #[ab 0,ab 0,af ⟨#[]⟩,ae none 0 0] 28)).drew.heap.size<=q:=C;omega
  have s:Hid (∃d,d=(cW w1 a.heap.size 0 (ab y.1.1) (ab y.1.2.1) (af y.1.2.2) (ae y.2.1.1 y.2.2.length y.2.1.2))):=⟨_,rfl⟩;obtain⟨d,t⟩:=s.out;change Exit.then _ _ Exit.normal _ (cW w1 a.heap.size 0 (ab y.1.1) (ab y.1.2.1) (af y.1.2.2) (ae y.2.1.1 y.2.2.length y.2.1.2));rw[<-t]at i k j ⊢;clear t s D U;have G:d.cell? ⟨w.heap.size+1,0,none⟩=some (ab 0):=au i 0;have H:d.cell? ⟨w.heap.size+1,1,none⟩=some (ab 0):=au i 1;have I:d.cell? ⟨w.heap.size+1,2,none⟩=some (af ⟨#[]⟩):=au i 2;have J:d.cell? ⟨w.heap.size+1,3,none⟩=some (ae none 0 0):=au i 3;have Z:=λu=>cQ i u;have V:d.cell? ⟨a.heap.size,0,none⟩=some (ab y.1.1):=au k 0;have W:d.cell? ⟨a.heap.size,1,none⟩=some (ab y.1.2.1):=au k 1;have X:d.cell? ⟨a.heap.size,2,none⟩=some (af y.1.2.2):=au k 2;have Y:d.cell? ⟨a.heap.size,3,none⟩=some (ae y.2.1.1 y.2.2.length y.2.1.2):=au k 3;go_wp2_with fail;refine av (v:=.agg #[ab y.1.1,ab y.1.2.1,af y.1.2.2,ae y.2.1.1 y.2.2.length y.2.1.2]) (by simp[results,results80,go_sem,G,H,I,J]) rfl ?_;refine⟨y,rfl,dM j.1 (by omega),?_,j.2.2.mono λq C=>by omega,l.2.2.2⟩;have e:=In.off (w':=cW d (w.heap.size+1) 0 (ab y.1.1) (ab y.1.2.1) (af y.1.2.2) (ae y.2.1.1 y.2.2.length y.2.1.2)) (λb (O:w.heap.size+2<=b)=>aW (by omega) _ _ _ _) j.2.2 j.2.1;rw[<-bq (w:=d) (g:=w.heap.size+1) (o:=0) (ab y.1.1) (ab y.1.2.1) (af y.1.2.2) (ae y.2.1.1 y.2.2.length y.2.1.2)]at e;exact e
theorem oM{n:Nat}{x:Tm n}(a:bv n x=0):aD ⟨n,x⟩:=aL.2 (bC.1 a).1
section
variable {base pb:Nat} {name:ByteArray} {room:Int} {N:Nat} {s:Tm (N+1)} {ms:List (Tm (N+1))} {xs:List (Wd×Tm (N+1))} {nk:Nat} {M:Nat->Prop} {w:World} {ws:List Wd} {nm:List ByteArray} {sv:Wd} {vs:List Wd} {ma:Option Addr} {mc:Nat} {Mh:Nat->Prop}
theorem cD.later(a:cD base pb name room (N+1) s ms xs nk M w ws nm sv vs ma mc Mh){w1:World}(c:aj w w1):cD base pb name room (N+1) s ms xs nk M w1 ws nm sv vs ma mc Mh:=by
 refine⟨(a.heap.later c).mono λb c=>c.1,?_,a.has,a.len,a.names,a.inM,a.mailM⟩;rcases a.mail with g|⟨e,k,f,h,i,d,j⟩
 ·exact ah g
 ·exact ai ⟨e,k,f,h,i,(c.block e (aF.1 d).1).trans d,j⟩
theorem cD.read(a:cD base pb name room (N+1) s ms xs nk M w ws nm sv vs ma mc Mh)(k:nk<=50000){i:Nat}{v:Wd}{x:Tm (N+1)}(e:(sv::vs++xs.map (·.1))[i]?=some v)(c:(s::ms++xs.map (·.2))[i]?=some x):am 80 #[aB pb,.agg #[ab v.1,ab v.2]] w (nd (N+1) x w):=by
 obtain⟨f,l,g,m,n,o,p,q⟩:=a.has;have b:=g x (aH c);have j:=a.names;exact Hy pb N x v w λh d=>Ka (N+1) x v base (PL pb name sv (ae ma vs.length mc)) room ws nm Mh h ((a.later d).heap) (f.2 i v x e c) (oM b.1) b.2 (by omega) (by omega)
end
theorem Em(e N:Nat)(x:Tm (N+1))(v:Wd)(w:World)(y:e<w.heap.size)(m:w.cell? ⟨e,5,none⟩=some (ab v.1))(n:w.cell? ⟨e,5+1,none⟩=some (ab v.2))(l:Hid (∀w1,aj w w1->am 80 #[aB e,.agg #[ab v.1,ab v.2]] w1 (nd (N+1) x w1))):am 43 #[aB e] w (nd (N+1) x w):=by
 go_enter func43,ntmps43;go_wp2_with fail;refine(l _ aN).mono ?_;rintro f w1 ⟨a,rfl,d⟩;rw[show df (N+1) a=.agg #[ab a.1.1,ab a.1.2.1,af a.1.2.2,ae a.2.1.1 a.2.2.length a.2.1.2]from rfl];have c:=aq (qT w _ _ _ _ _ d.1);have k:Hid (aj w w1):=aN.trans (d.1.mono (by simp));have q:w1.cell? ⟨w.heap.size,0,none⟩=some (ab 0):=au c 0;have r:w1.cell? ⟨w.heap.size,1,none⟩=some (ab 0):=au c 1;have s:w1.cell? ⟨w.heap.size,2,none⟩=some (af ⟨#[]⟩):=au c 2;have t:w1.cell? ⟨w.heap.size,3,none⟩=some (ae none 0 0):=au c 3;have z:=λp=>cQ c p;clear m n;go_wp2_with fail;refine av (v:=.agg #[ab a.1.1,ab a.1.2.1,af a.1.2.2,ae a.2.1.1 a.2.2.length a.2.1.2]) (by simp[results,results43,go_sem,q,r,s,t]) rfl ?_;have i:cd (λh=>w.heap.size+1<=h) (N+1) a:=d.2.2.1.mono λh j=>by simpa using j
 refine⟨a,rfl,dM k (ak _),?_,i.mono λh j=>by omega,d.2.2.2⟩;have f:=In.off (w':=cW w1 w.heap.size 0 (ab a.1.1) (ab a.1.2.1) (af a.1.2.2) (ae a.2.1.1 a.2.2.length a.2.1.2)) (λb (u:w.heap.size+1<=b)=>aW (by omega) _ _ _ _) i d.2.1;rw[<-bq (w:=w1) (g:=w.heap.size) (o:=0) (ab a.1.1) (ab a.1.2.1) (af a.1.2.2) (ae a.2.1.1 a.2.2.length a.2.1.2)]at f;exact f
theorem jH.word{Mh:Nat->Prop}{ma:Option Addr}{vs:List Wd}{n:Nat}{w:World}(b:jH Mh ma vs n w){i:Nat}{v:Wd}(c:vs[i]?=some v):∃g a,ma=some ⟨g,a,none⟩/\g<w.heap.size/\w.cell? ⟨g,a+i*2,none⟩=some (ab v.1)/\w.cell? ⟨g,a+i*2+1,none⟩=some (ab v.2):=by
 rcases b with⟨_,h,_⟩|⟨g,a,p,j,_,e,q,_,r,m⟩
 ·rw[h]at c;simp at c
 ·have s:=(aO.1 c).1;have f:∀(l:List Wd)(i:Nat)(v:Wd),l[i]?=some v->(aX l)[i*2]?=some (ab v.1)/\(aX l)[i*2+1]?=some (ab v.2):=by
   intro l
   induction l with
   | nil=>intro i v b;simp at b
   | cons o l ih=>
    intro i v b;cases i with
    | zero=>simp at b;subst b;simp[aX,pU]
    | succ i=>
     have:=ih i v (by simpa using b);simp only[aX,bz,pU]at this ⊢;rw[show (i+1)*2=i*2+2 by omega,show i*2+2+1=(i*2+1)+2 by omega];simpa using this
  have d:∀k,k<vs.length*2->w.cell? ⟨g,a+k,none⟩=(aX vs)[k]? :=λk d=>by
   rw[<-m,jh,if_pos d,kH,mK];simp[World.cell?,e]
  refine⟨g,a,j,(aF.1 e).1,?_,?_⟩
  ·rw[d (i*2) (by omega)];exact(f vs i v c).1
  ·rw[show a+i*2+1=a+(i*2+1) by omega,d (i*2+1) (by omega)];exact(f vs i v c).2
def EM(N:Nat)(ms:List (Tm N))(w:World)(e:Ending)(w':World):Prop:=∃(ys:List (Tm N))(L:Nat)(a:Option Addr)(c:Nat),e=.returned (ae a L c)/\Hid (ys.length=L/\ed N 0 w.heap.size ys (ae a L c) w w'/\aC (λa b=>ay N a N b) ys ms=true)
theorem G2(n N:Nat)(ms:List (Tm (N+1)))(vs:List Wd)(L:Nat)(ma:Option Addr)(aa:Nat)(w:World)(T:Hid (vs.length=L))(D:Hid (ms.length=L))(ah:L<=1000)(_hpw:n<w.heap.size)(ad:w.cell? ⟨n,7,none⟩=some (ae ma L aa))(R:Hid (∀w1,aj w w1->∀(i:Nat)(v:Wd),vs[i]?=some v->∃g s,ma=some ⟨g,s,none⟩/\g<w.heap.size/\w1.cell? ⟨g,s+i*2,none⟩=some (ab v.1)/\w1.cell? ⟨g,s+i*2+1,none⟩=some (ab v.2)))(O:Hid (∀w1,aj w w1->∀(i:Nat)(v:Wd)(x:Tm (N+1)),vs[i]?=some v->ms[i]?=some x->am 80 #[aB n,.agg #[ab v.1,ab v.2]] w1 (nd (N+1) x w1))):am 44 #[aB n] w (EM (N+1) ms w):=by
 obtain⟨Z,G,J,K,M⟩:=bP gh;have o:=aq (⟨G,J,K,M⟩:_/\_/\_/\_);clear G J K M;go_enter func44,ntmps44;go_wp2_with fail;go_loopw [3,11] (λv i wr=>∃(k:Nat)(h:Option Addr)(c:Nat)(j:List (Tm (N+1))),k<=L/\i=ab k/\v=ae h k c/\Hid (j.length=k/\ed (N+1) 0 w.heap.size j (ae h k c) w wr/\aC (λh b=>ay (N+1) h (N+1) b) j (ms.take k)=true)) (λ_ i _=>L-(intOf i).toNat)
 case atStart=>exact⟨0,none,0,[],by omega,rfl,rfl,rfl,fi.nil _,by simp[aC]⟩
 case round=>
  obtain⟨k,h,c,j,an,rfl,rfl,e⟩:=hrel;have l:Hid (aj w wr):=e.2.1.1;by_cases H:k<L;rotate_left
  ·obtain rfl:k=L:=by omega
   go_wp2_with fail
   go_ret
   refine⟨j,k,h,c,rfl,e.1,e.2.1,?_⟩;have m:=e.2.2;rw[bu (by rw[D.out];omega)]at m;exact m
  ·obtain⟨v,z⟩:∃v,vs[k]?=some v:=⟨vs[k]'(by rw[T.out];exact H),aG _⟩;obtain⟨x,A⟩:∃x,ms[k]?=some x:=⟨ms[k]'(by rw[D.out];exact H),aG _⟩;have S:=aq A;have P:Hid (∀w1,aj w w1->am 80 #[aB n,.agg #[ab v.1,ab v.2]] w1 (nd (N+1) x w1)):=λw1 y=>O w1 y k v x z A;obtain⟨g,s,rfl,ak,d0,d1⟩:=R wr l k v z;clear z A;have ao:(0:Int)<=(k:Int):=by omega
   have ap:(k:Int)<(L:Int):=by omega
   have al:g<wr.heap.size:=by have:=l.size;omega
   go_wp2_with fail;refine(P _ (l.trans (aN.mono l.size))).mono ?_;rintro ag d ⟨a,rfl,p⟩;rw[show df (N+1) a=.agg #[ab a.1.1,ab a.1.2.1,af a.1.2.2,ae a.2.1.1 a.2.2.length a.2.1.2]from rfl];have u:Hid (aj wr d):=aN.trans (p.1.mono (by simp));have f:Hid (aj wr (d.alloc (.cells #[ab a.1.1,ab a.1.2.1,af a.1.2.2,ae a.2.1.1 a.2.2.length a.2.1.2] 28))/\(d.alloc (.cells #[ab a.1.1,ab a.1.2.1,af a.1.2.2,ae a.2.1.1 a.2.2.length a.2.1.2] 28)).heap.size=d.heap.size+1/\(d.alloc (.cells #[ab a.1.1,ab a.1.2.1,af a.1.2.2,ae a.2.1.1 a.2.2.length a.2.1.2] 28)).heap[d.heap.size]?=some (.cells #[ab a.1.1,ab a.1.2.1,af a.1.2.2,ae a.2.1.1 a.2.2.length a.2.1.2] 28)/\In (d.alloc (.cells #[ab a.1.1,ab a.1.2.1,af a.1.2.2,ae a.2.1.1 a.2.2.length a.2.1.2] 28)).heap.size (d.alloc (.cells #[ab a.1.1,ab a.1.2.1,af a.1.2.2,ae a.2.1.1 a.2.2.length a.2.1.2] 28)) (N+1) a/\cd (λb=>b<0\/wr.heap.size<=b) (N+1) a):=by
    have m:aj d (d.alloc (.cells #[ab a.1.1,ab a.1.2.1,af a.1.2.2,ae a.2.1.1 a.2.2.length a.2.1.2] 28)):=aN;refine⟨u.trans (m.mono u.size),by simp,aE _ _,(p.2.1.below m).mono m.size,p.2.2.1.mono λb y=>ai ?_⟩;have:wr.heap.size+1<=b:=by simpa using y
    omega
   have B:=λ(r q:Nat)(w4:World) Y V U=>aq (e.2.1.appAt (W:=(d.alloc (.cells #[ab a.1.1,ab a.1.2.1,af a.1.2.2,ae a.2.1.1 a.2.2.length a.2.1.2] 28))) (w4:=w4) (g:=r) (c:=q) e.1 (aI _) l.size f.1 a f.2.2.2.1 f.2.2.2.2 Y V U);have C:=aq (e.2.1.ownAt e.1 f.1);have ar:w.heap.size<=d.heap.size:=by have:=l.size;have:=u.size;omega
   clear d0 d1;go_wp2_with (at_builtin;refine wpList_append_lies _ rfl _ _ 26 rfl w.heap.size 28 Z _ 4 56 underlying26 o.1 o.2.1 o.2.2.1 o.2.2.2 rfl (by decide) (ae h k c) k (j.flatMap (il (N+1))) (by simp[Act.eval]) C ⟨d.heap.size,0,none⟩ 1 1 (il (N+1) a) (by simp[Act.eval]) rfl (World.news_of_block (cs:= #[ab a.1.1,ab a.1.2.1,af a.1.2.2,ae a.2.1.1 a.2.2.length a.2.1.2]) (t:=28) (fr:=(0,0)) f.2.2.1) (ul _ _) (by decide) (by unfold maxLen;omega) (by omega) (by have:=f.2.1;omega) (d.heap.size+1) f.2.1 ?_;intro r q w4 I F E X;have Q:=B r q w4 I F (by rw[f.out.2.1];exact E);clear I F E X B C);go_roundw
   case rel=>
    refine⟨k+1,some ⟨r,0,none⟩,q,j++ [a],by omega,by go_num,rfl,by rw[bk,e.out.1];rfl,Q,?_⟩;rw[dq,S.out];exact iT _ _ _ _ _ e.2.2 p.2.2.2
   case measure=>simp[intOf];omega
section
variable {base pb:Nat} {name:ByteArray} {room:Int} {N:Nat} {s:Tm (N+1)} {ms:List (Tm (N+1))} {xs:List (Wd×Tm (N+1))} {nk:Nat} {M:Nat->Prop} {w:World} {ws:List Wd} {nm:List ByteArray} {sv:Wd} {vs:List Wd} {ma:Option Addr} {mc:Nat} {Mh:Nat->Prop}
theorem cD.state(a:cD base pb name room (N+1) s ms xs nk M w ws nm sv vs ma mc Mh)(f:nk<=50000):am 43 #[aB pb] w (nd (N+1) s w):=by
 obtain⟨k,h,j,d,_⟩:=a.heap.box;obtain⟨_,b,c,_,_,g⟩:=PL.cells d;exact Em pb N s sv w g b c λl e=>(a.later e).read f (i:=0) (by simp) (by simp)
theorem cD.mails(a:cD base pb name room (N+1) s ms xs nk M w ws nm sv vs ma mc Mh)(n:nk<=50000)(u:ms.length<=1000):am 44 #[aB pb] w (EM (N+1) ms w):=by
 obtain⟨y,v,x,k,_⟩:=a.heap.box;obtain⟨_,_,_,e,_,o⟩:=PL.cells k;have m:=a.len;refine G2 pb N ms vs vs.length ma mc w rfl m.symm (by omega) o e (λt b i r c=>?_) (λt b i r z c p=>?_)
 ·obtain⟨j,q,f,d,g,h⟩:=a.mail.word c;exact⟨j,q,f,d,(ar b _ _ d).trans g,(ar b _ _ d).trans h⟩
 ·have l:=(aO.1 c).1;exact(a.later b).read n (i:=i+1) (by rw[fO,cZ,dm l];exact c) (by rw[fO,cZ,dm (by omega)];exact p)
end
theorem wQ{base:Nat}{v:Value}{n m xc:Nat}{xs:List Value}{ps:List Wd}{xa:Option Addr}{w:World}(ty:TypeId)(f:w.ownsRow base 154 2 v n xs)(A:fe w ps xa)(j:ps.length=m)(G:n+m<=200000)(x:base<=w.heap.size):∃a d w',(Builtin.append_ #[157,157] ty #[v,ae xa m xc]).run Tryz.prog w=.ok (ae a (n+m) d) w'/\w'.ownsRow base 154 2 (ae a (n+m) d) (n+m) (xs++aX ps)/\w.grownBy w' v.ownBlock/\((Value.slice a (n+m) d).ownBlock=v.ownBlock\/(Value.slice a (n+m) d).ownBlock=some w.heap.size):=by
 obtain⟨l,i,B,C,D⟩:=bP kZ;have q:∀{w':World}{g:Value}{k:Nat}{F:List Value},w'.ownsRow base 154 2 g k F->∃o c,g=ae o k c:=λe=>by
  rcases e.2 with⟨rfl,rfl⟩|⟨r,cap,p,rfl,_⟩
  ·exact⟨none,0,rfl⟩
  ·exact⟨_,cap,rfl⟩
 rcases A with rfl|⟨ad,rfl,y⟩
 ·obtain rfl:m=0:=j.symm;obtain⟨b,cap,E,z⟩:∃b cap,v=ae b n cap/\n<=cap:=by
   rcases f.2 with⟨rfl,rfl⟩|⟨r,cap,p,rfl,_,_,e,_⟩
   ·exact⟨none,0,rfl,ak _⟩
   ·exact⟨_,cap,rfl,e⟩
  subst E;exact⟨b,cap,w,nJ w _ _ ty _ _ l underlying157 underlying157 i b xa n cap xc z,by simpa [aX]using f,gB _ _,ah rfl⟩
 ·obtain⟨g,w',s,h,t,_,u⟩:=run_append_own_at (P:=Tryz.prog) w base 157 ty 154 l _ 2 16 underlying157 i B C D rfl (by decide) _ n xs f ad m xc (aX ps) (by rw[cw,j]) y (qF _) (by unfold maxLen;omega) (by omega) x;obtain⟨a,d,rfl⟩:=q h;exact⟨a,d,w',s,h,t,u⟩
theorem vZ{w:World}{d:Array Oper}{o:Oper}{a:Act}{K:Act->World->Prop}{Q:Exit->Act->World->Prop}{E:Prop}(k:o.guard=none)(s x:Operand)(p:o.op=.call {callee:=.builtin .append,args:= #[s,x],argTypes:= #[157,157]}){base:Nat}{v:Value}{n m xc:Nat}{xs:List Value}{ps:List Wd}{xa:Option Addr}(t:a.eval s=v)(z:a.eval x=ae xa m xc)(q:w.ownsRow base 154 2 v n xs)(u:fe w ps xa)(l:ps.length=m)(h:n+m<=200000)(j:base<=w.heap.size)(i:∀b c w',w'.ownsRow base 154 2 (ae b (n+m) c) (n+m) (xs++aX ps)->w.grownBy w' v.ownBlock->((Value.slice b (n+m) c).ownBlock=v.ownBlock\/(Value.slice b (n+m) c).ownBlock=some w.heap.size)->K (a.put o.dst (ae b (n+m) c)) w'):if Region.wanted o (yielded d a.tmps)=true then Oper.wp Tryz.prog o a w K Q else E:=by
 have y:Region.wanted o (yielded d a.tmps)=true:=by simp[Region.wanted,k]
 rw[if_pos y];obtain⟨b,c,w',r,e,f,g⟩:=wQ (xc:=xc) o.type q u l h j;unfold Oper.wp execOp;simp only[p,resolve,invoke,builtin,Sem.run_bind,Sem.run_pure,mY,mP,aM,b8,t,z,r];exact i _ _ _ e f g
theorem dK.turn{base d:Nat}{name:ByteArray}{g h:Wd}{mv j:Value}{room:Int}{ws:List Wd}{nm:List ByteArray}{M:Nat->Prop}{w w':World}(l:dK base (PL d name g mv) room ws nm M w)(k:bV (λb=>b=d) w w')(q:∀tv lv mp:Value,w.heap[d]?=some (.cells #[af name,ab room,tv,lv,mp,ab g.1,ab g.2,mv] 166)->w'.heap[d]?=some (.cells #[af name,ab room,tv,lv,mp,ab h.1,ab h.2,j] 166)):dK base (PL d name h j) room ws nm M w':=by
 obtain⟨tv,lv,mp,e,i,f,m,n,o,p⟩:=l;refine⟨tv,lv,mp,⟨⟨rfl,ai rfl⟩,q tv lv mp e.2⟩,dV i k (λb a c=>?_),f.kept k (λb a c=>?_) (λb a c=>?_),m,n,o,p⟩
 ·subst c;exact ny i e (by decide) a
 ·subst c;exact ny f.1 e (by decide) a
 ·subst c;exact ud f e a
theorem jH.words{Mh:Nat->Prop}{ma:Option Addr}{vs:List Wd}{k:Nat}{w:World}(j:jH Mh ma vs k w):fe w vs ma:=by
 rcases j with⟨_,b,_⟩|⟨c,d,l,g,_,h,m,_,n,i⟩
 ·exact ah b
 ·refine ai ⟨⟨c,d,none⟩,g,λf p e=>?_⟩;have o:=(aO.1 e).1;have a:=e;rw[<-i,jh]at a;split at a
  ·rw[kH,mK]at a;have b:(⟨c,d,none⟩:Addr).add f=⟨c,d+f,none⟩:=by unfold Addr.add;split<;>simp[*]
   rw[b];simp[World.cell?,h,a]
  ·cases a
theorem jV.tidied{N:Nat}{ws:List Wd}{nm:List ByteArray}{room:Int}{b:List Wd}{a:List (Tm N)}(q:jV N ws nm room b a):jV N (jN ws N b).2.1 nm room (jN ws N b).1 a/\((jN ws N b).2.1.length:Int)=(a.map (sz N)).sum/\(jN ws N b).1.length=b.length:=by
 obtain⟨k,w,l,z,A,x,y,m⟩:=q;obtain⟨n,o,p⟩:=D9 m k w;have i:∀c∈a,aD ⟨N,c⟩:=λc f=>oM (l c f).1;have j:=oh (λg ws nm e=>gL N g ws nm e) a [] nm i;have t:=Bv N a [] nm;have r:=vo (λg ws nm e=>zt N g ws nm e) a [] nm i;have h:=gM (aV N) a [] nm;rw[p]at j;rw[n,o];simp only[jF]at t;refine⟨⟨⟨h,λv C c u f=>?_⟩,r.1,l,by omega,by omega,x,y,m⟩,by omega,by rw[h,k.1]⟩;obtain⟨B,d,s⟩:=j v c f;rw[u]at d;injection d with d;rw[d];exact s
theorem mD(w:World){g q:Nat}(b:g≠q)(o:Nat)(v:Value)(j:Nat):(w.setCell ⟨q,o,none⟩ v).cell? ⟨g,j,none⟩=w.cell? ⟨g,j,none⟩:=by
 refine bt ?_ j;have c:¬q=g:=λa=>b a.symm;simp[World.setCell,bN,c]
def vy(g L:Nat):Option Addr:=if L=0 then some ⟨g,0,none⟩else some ⟨g,2,none⟩
def CA(w:World)(a:Nat)(b:Wd)(mv:Value):World:=((w.setCell ⟨a,5,none⟩ (ab b.1)).setCell ⟨a,5+1,none⟩ (ab b.2)).setCell ⟨a,7,none⟩ mv
theorem Iz(d:Nat)(f:Wd)(vs:List Wd)(L:Nat)(ma:Option Addr)(t:Nat)(w:World)(Fin:Nat->Wd->World->World->Prop)(Q:Hid (vs.length=L))(T:L<=1000)(q:Hid (∀w1,aj w w1->w1.cell? ⟨d,5,none⟩=some (ab f.1)/\w1.cell? ⟨d,5+1,none⟩=some (ab f.2)/\w1.cell? ⟨d,7,none⟩=some (ae ma L t)))(M:Hid (∀w1,aj w w1->fe w1 vs ma))(G:Hid (∀w1,aj w w1->∀(a:Option Addr)(c:Nat),w1.ownsRow w.heap.size 154 2 (ae a (1+L) c) (1+L) (aX (f::vs))->am 184 #[.pointer (some ⟨d,1,none⟩),ae a (1+L) c] w1 λe w'=>∃(g:Nat)(h:Wd),e=.returned (.tuple #[ae (some ⟨g,0,none⟩) (1+L) (1+L),ab 0])/\Hid ((w'.cell? ⟨g,0,none⟩=some (ab h.1)/\w'.cell? ⟨g,1,none⟩=some (ab h.2))/\g≠d/\(∃B C D,w'.cell? ⟨d,5,none⟩=some B/\w'.cell? ⟨d,5+1,none⟩=some C/\w'.cell? ⟨d,7,none⟩=some D)/\(∀j,w'.frozen? ⟨d,j,none⟩=false)/\Fin g h w1 w'))):am 161 #[aB d] w λe w'=>e=.returned (.tuple #[])/\∃(g:Nat)(h:Wd)(w1 w2:World),w'=(CA w2 d h (ae (vy g L) L L)).drew/\Hid (aj w w1/\Fin g h w1 w2):=by
 obtain⟨N,O,P⟩:=q.out w (ap _ _);have H:Hid (aj w w.drew):=(ap _ _).drew;have k:Hid (aj w (w.alloc (.cells #[ab f.1,ab f.2] 154)).drew/\(w.alloc (.cells #[ab f.1,ab f.2] 154)).drew.ownsRow w.heap.size 154 2 (ae (some ⟨w.heap.size,0,none⟩) 1 1) 1 (pU f)):=by
  refine⟨by go_grown,rfl,ai ⟨w.heap.size,1, #[ab f.1,ab f.2],rfl,ak _,ru w _ rfl,ak _,by unfold maxLen;omega,rfl,rfl⟩⟩
 go_enter func161,ntmps161;go_wp2_with fail
 go_region_held3 (λw'=>w'.cell? ⟨d,5,none⟩=some (ab f.1)/\w'.cell? ⟨d,5+1,none⟩=some (ab f.2)/\w'.cell? ⟨d,7,none⟩=some (ae ma L t)) (first|(go_keep;done)|with_reducible exact q _ H|with_reducible exact q _ k.1|exact q _ r)
  ((refine vZ rfl _ _ rfl (base:=w.heap.size) (v:=ae (some ⟨w.heap.size,0,none⟩) 1 1) (n:=1) (m:=L) (xc:=t) (xs:=pU f) (ps:=vs) (xa:=ma) (by simp[Act.eval]) (by simp[Act.eval]) k.2 (M _ k.1) Q (by omega) (by have:=k.1.size;exact this) ?_;intro u x w2 A o R;have r:Hid (aj w w2):=(k.1.trans ⟨o.os,o.tape,o.output,o.size,λb S=>o.block b (aR S k.1.size) (λe=>by simp[Value.ownBlock]at e;omega)⟩);have K:=aq (show w2.ownsRow w.heap.size 154 2 (ae u (1+L) x) (1+L) (aX (f::vs))from A);clear A o R))
 have F:=aq (G w2 r u x K);clear N O P;go_wp2_with fail;refine F.mono ?_;rintro e i ⟨g,h,rfl,E⟩;obtain⟨⟨y,z⟩,l,⟨B,C,D,d5,d6,d7⟩,U,s⟩:=E;replace s:=aq s;have W:(0:Int)<1+(L:Int):=by omega
 have X:(1:Int)<=1+(L:Int):=by omega
 have V:d≠g:=λe=>l e.symm;have I:Hid (∀a b:Value,((i.setCell ⟨d,5,none⟩ a).setCell ⟨d,5+1,none⟩ b).cell? ⟨g,0,none⟩=some (ab h.1)/\((i.setCell ⟨d,5,none⟩ a).setCell ⟨d,5+1,none⟩ b).cell? ⟨g,1,none⟩=some (ab h.2)):=λa b=>by
  have p:∀j,((i.setCell ⟨d,5,none⟩ a).setCell ⟨d,5+1,none⟩ b).cell? ⟨g,j,none⟩=i.cell? ⟨g,j,none⟩:=λj=>(mD _ l _ _ j).trans (mD _ l _ _ j);exact⟨(p _).trans y,(p _).trans z⟩
 have J:Hid (∀a b c:Value,(((i.setCell ⟨d,5,none⟩ a).setCell ⟨d,5+1,none⟩ b).setCell ⟨d,7,none⟩ c).cell? ⟨g,0,none⟩=some (ab h.1)/\(((i.setCell ⟨d,5,none⟩ a).setCell ⟨d,5+1,none⟩ b).setCell ⟨d,7,none⟩ c).cell? ⟨g,1,none⟩=some (ab h.2)):=λa b c=>by
  have p:∀j,(((i.setCell ⟨d,5,none⟩ a).setCell ⟨d,5+1,none⟩ b).setCell ⟨d,7,none⟩ c).cell? ⟨g,j,none⟩=i.cell? ⟨g,j,none⟩:=λj=>(mD _ l _ _ j).trans ((mD _ l _ _ j).trans (mD _ l _ _ j));exact⟨(p _).trans y,(p _).trans z⟩
 go_wp2_with fail;go_region_held3 (λw'=>w'.cell? ⟨g,0,none⟩=some (ab h.1)/\w'.cell? ⟨g,1,none⟩=some (ab h.2)) (first|(go_keep;done)|exact I _ _|exact J _ _ _) (fail);exact dZ (v:=.tuple #[]) (by simp[results]) rfl ⟨rfl,g,h,w2,i,rfl,r,s⟩
theorem jV.front{N:Nat}{ws:List Wd}{nm:List ByteArray}{room:Int}{g t:List Wd}{e f:List (Tm N)}(m:jV N ws nm room (g++t) (e++f))(n:g.length=e.length):jV N ws nm room g e:=by
 obtain⟨i,d,j,k,p,q,r,s⟩:=m;refine⟨⟨n,λo u b h c=>i.2 o u b ?_ ?_⟩,?_,λb c=>j b (List.mem_append_left _ c),?_,p,q,r,s⟩
 ·rw[dm (aO.1 h).1];exact h
 ·rw[dm (aO.1 c).1];exact c
 ·rw[kG]at d;exact(fp.1 d).1
 ·rw[fP,mU]at k;have w:(0:Int)<=(f.map (sz N)).sum:=by
   clear i d k
   induction f with
   | nil=>simp
   | cons b l ih=>
    have x:=ih λv a=>j v (by simp only[dp,ch]at a ⊢;rcases a with a|a<;>simp[a]);have y:=(eT N b).1;simp only[aM,bA];omega
  omega
theorem FH{N:Nat}:(l:List (Tm N))->(l.map λy=>1+sz N y).sum=l.length+(l.map (sz N)).sum
 | []=>by simp
 | y::l=>by
  have a:=FH l;simp only[aM,bA,bf,a];omega
theorem xN{N:Nat}:(l:List (Tm N))->(∀y∈l,aD ⟨N,y⟩)->((l.flatMap λy=>ax N y).length:Int)<=(l.map λy=>1+sz N y).sum
 | [],_=>by simp
 | y::l,h=>by
  have c:=xN l λb a=>h b (by simp[a]);have d:=vE N y (h y (by simp));simp only[bz,bk,aM,bA];omega
theorem jV.roots{N:Nat}{ws:List Wd}{nm:List ByteArray}{room:Int}{d:List Wd}{a:List (Tm N)}(h:jV N ws nm room d a)(i:d.length<=1000):EN ws nm N d a:=by
 obtain⟨f,m,g,n,o,p,q,r⟩:=h;have e:∀b∈a,aD ⟨N,b⟩:=λb c=>oM (g b c).1;have j:=FH a;have k:=xN a e;have l:=f.1;exact⟨f,e,λb c=>(g b c).2,by omega,by omega,i⟩
theorem DT{base n c:Nat}{a:Option Addr}{vs:List Wd}{w:World}(e:w.ownsRow base 154 2 (ae a n c) n (aX vs))(s:0<n):eN w vs a/\∀b o,a=some ⟨b,o,none⟩->b<w.heap.size:=by
 rcases e.2 with⟨d,q⟩|⟨h,cap,p,d,t,i,_⟩
 ·omega
 ·injection d with f r g;subst f g;have j:=(aF.1 i).1;refine⟨ai ⟨h,0,rfl,j,λl m k=>?_⟩,λb o d=>?_⟩
  ·have:=iY e l m k;rw[dc];exact this
  ·injection d with d;injection d with d;omega
section
variable {base pb:Nat} {name:ByteArray} {room:Int} {N:Nat} {s:Tm (N+1)} {ms:List (Tm (N+1))} {xs:List (Wd×Tm (N+1))} {nk:Nat} {M:Nat->Prop} {w:World} {ws:List Wd} {nm:List ByteArray} {sv:Wd} {vs:List Wd} {ma:Option Addr} {mc:Nat} {Mh:Nat->Prop}
theorem cD.front(a:cD base pb name room (N+1) s ms xs nk M w ws nm sv vs ma mc Mh):jV (N+1) ws nm room (sv::vs) (s::ms):=
 jV.front a.has (by simp[a.len])
theorem EC{w:World}{pb:Nat}{c0 a b c d e f g:Value}{t:TypeId}(sv:Wd)(mv:Value)(h:w.heap[pb]?=some (.cells #[c0,a,b,c,d,e,f,g] t)):(CA w pb sv mv).heap[pb]?=some (.cells #[c0,a,b,c,d,ab sv.1,ab sv.2,mv] t):=by
 unfold CA World.setCell;simp[bN,h]
theorem IQ(w:World)(pb:Nat)(sv:Wd)(mv:Value):bV (λb=>b=pb) w (CA w pb sv mv).drew:=by
 have c:=bm w pb 5 (ab sv.1);have d:=bm (w.setCell ⟨pb,5,none⟩ (ab sv.1)) pb (5+1) (ab sv.2);have e:=bm ((w.setCell ⟨pb,5,none⟩ (ab sv.1)).setCell ⟨pb,5+1,none⟩ (ab sv.2)) pb 7 mv;have a:=(c.trans d λ_ _ k=>k).trans e λ_ _ k=>k;exact⟨a.os,a.tape,a.output,a.size,a.block⟩
def L5(base pb:Nat)(name:ByteArray)(room:Int)(N:Nat)(s:Tm N)(ms:List (Tm N))(nk:Nat)(M:Nat->Prop)(nm:List ByteArray)(w:World)(e:Ending)(w':World):Prop:=
 e=.returned (.tuple #[])/\∃c g a f d,cD base pb name room N s ms [] nk (λb=>M b\/w.heap.size<=b) w' c nm g a f a.length d/\Hid (bV M w w'/\(c.length:Int)=((s::ms).map (sz N)).sum)
theorem cD.tidy(e:cD base pb name room (N+1) s ms xs nk M w ws nm sv vs ma mc Mh)(aI:nk<=50000)(aA:ms.length<=999)(aC:base<=w.heap.size):am 161 #[aB pb] w (L5 base pb name room (N+1) s ms nk M nm w):=by
 have C:=e.front;have aG:=e.len;have aj:=e.names;have an:=C.roots (by simp only[bf];omega);obtain⟨L,ap,v⟩:=C.tidied;obtain⟨q,j,B⟩:∃q j,(jN ws (N+1) (sv::vs)).1=q::j:=by
  cases u:(jN ws (N+1) (sv::vs)).1 with
  | nil=>rw[u]at v;simp at v
  | cons n l=>exact⟨n,l,rfl⟩
 rw[B]at L v;simp only[bf]at v;have I:j.length=vs.length:=by omega
 obtain⟨_,_,_,_,aK,_,aL,_⟩:=C;refine(Iz pb sv vs vs.length ma mc w (λa m g r=>m=q/\yC base (PL pb name sv (ae ma vs.length mc)) room (jN ws (N+1) (sv::vs)) nm Mh a g r) rfl (by omega) ?_ ?_ ?_).mono ?_
 ·intro g f;obtain⟨R,P,ar,z,_⟩:=(e.later f).heap.box;obtain⟨_,U,V,W,_⟩:=PL.cells z;exact⟨U,V,W⟩
 ·intro g f;exact(e.later f).mail.words
 ·intro g f n c ak;have ao:=f.size;obtain⟨ad,ag⟩:=DT ak (by omega);have af:(sv::vs).length=1+vs.length:=by simp only[bf];omega
  have t:=zq (N+1) (s::ms) (sv::vs) n c base (PL pb name sv (ae ma vs.length mc)) room ws nm Mh g (e.later f).heap an ad ag (by omega) (by omega) (by omega);rw[af]at t;refine t.mono ?_;rintro d r ⟨a,rfl,G⟩;have T:=G.out;obtain⟨E,Q,F,av,aw,x⟩:=T;obtain⟨R,P,ar,z,_⟩:=E.box;obtain⟨_,d5,d6,d7,d8,d9⟩:=PL.cells z;obtain⟨ax,aq,au,A,_⟩:=(e.later f).heap.box;have al:pb<g.heap.size:=(PL.cells A).2.2.2.2.2;refine⟨a,q,rfl,⟨?_,by omega,⟨_,_,_,d5,d6,d7⟩,d8,rfl,G⟩⟩;rw[B]at F;rcases F with d|⟨b,o,d,aD,aa⟩
  ·cases d
  ·injection d with d;injection d with k p;subst k p;have:=aa 0 q rfl;simpa using this
 ·rintro d aM ⟨rfl,a,m,g,r,rfl,S⟩;obtain⟨f,rfl,E,Q,F,av,aw,len,x⟩:=S;have ao:=f.size;obtain⟨ax,aq,au,A,_⟩:=(e.later f).heap.box;have al:pb<g.heap.size:=(PL.cells A).2.2.2.2.2;have Y:Mh pb:=by
   obtain⟨_,_,_,_,_,_,i,_⟩:=e.heap;exact i
  have D:=IQ r pb m (ae (vy a vs.length) vs.length vs.length);rw[B]at x;have ab:¬a=pb:=by omega
  refine⟨rfl,(jN ws (N+1) (sv::vs)).2.1,m,j,vy a vs.length,λb=>(Mh b\/g.heap.size<=b)/\b≠a,⟨?_,?_,?_,by omega,aj,?_,?_⟩,?_⟩
  ·rw[I];exact E.turn D λR P mp t=>EC m _ t
  ·rw[I];rcases x.2 with⟨d,ay⟩|⟨az,cap,y,d,_,u,aE,aH,aJ,O⟩
   ·cases d
   ·injection d with k p X;injection k with k;injection k with k;subst k X;have J:(CA r pb m (ae (vy a vs.length) vs.length vs.length)).drew.heap[a]?=some (.cells y 154 (0,0)):=(D.block a (aF.1 u).1 ab).trans u;have K:=x.1;rw[cw]at K;simp only[bf]at K;refine ai ?_;by_cases H:vs.length=0
    ·refine⟨a,0,y,by simp[vy,H],by simp,J,by omega,by unfold maxLen;omega,by omega,?_⟩;have:j=[]:=List.length_eq_zero_iff.1 (by omega);simp[this,aX]
    ·refine⟨a,2,y,by simp[vy,H],by simp,J,by omega,by omega,by omega,?_⟩;have d:len*2=2+j.length*2:=by omega
     rw[d]at O;have p:=congrArg (List.drop 2) O;rw[List.drop_take,show 2+j.length*2-2=j.length*2 from by omega]at p;exact p
  ·simpa using L
  ·intro b Z;rcases Z.1 with i|i
   ·exact ah (e.inM b i)
   ·exact ai (by omega)
  ·intro n h;have:n.block=a:=by
    unfold vy at h;split at h
    ·injection h with h;rw[<-h]
    ·injection h with h;rw[<-h]
   exact ai (by omega)
  ·refine⟨?_,ap⟩;refine bV.trans ((aY f M).trans (Q.mono e.inM) λ_ _ i=>i) D λb _ i=>?_;rw[i];exact e.inM pb Y
end
def Up(n:Nat)(w0 w1:World):Prop:=w0.heap.size<=w1.heap.size/\∀b,n<=b->b<n+3->b<w0.heap.size->w1.heap[b]?=w0.heap[b]?
theorem vW(w:World){b q:Nat}(c:b≠q)(o:Nat)(v:Value):(w.setCell ⟨q,o,none⟩ v).heap[b]?=w.heap[b]? :=by
 have d:¬q=b:=λa=>c a.symm;simp[World.setCell,bN,d]
def vL(w:World)(g:Nat)(a b:Value):World:=(w.setCell ⟨g,0,none⟩ a).setCell ⟨g,0+1,none⟩ b
theorem lk{w:World}{g b:Nat}(a:b≠g)(x y:Value):(vL w g x y).heap[b]?=w.heap[b]? :=(vW _ a _ _).trans (vW _ a _ _)
theorem Hw(w:World)(g:Nat)(x y:Value):(vL w g x y).heap.size=w.heap.size:=by simp[vL,World.setCell]
theorem BZ(al:Nat)(k i:Int)(t:ByteArray)(h:Option Addr)(l j:Nat)(w:World)(O:Wd->Int->World->World->Prop)(an:World->World->Prop)(aD:Wd->Int->World->World->Prop)(aG:Hid (∀w0,aj w w0->am 79 #[.pointer (some ⟨al,1,none⟩),.agg #[ab k,ab i,af t,ae h l j]] w0 λe w1=>∃(v:Wd)(g:Int),e=.returned (.tuple #[.agg #[ab v.1,ab v.2],ab g])/\Hid (Up w.heap.size w0 w1/\O v g w0 w1)))(aI:Hid (∀v1 w0 w1 w2,aj w w0->O v1 6 w0 w1->bV (λb=>w.heap.size<=b/\b<w0.heap.size) w1 w2->w.heap.size+3<=w2.heap.size->am 161 #[aB al] w2 λe d=>e=.returned (.tuple #[])/\Hid (Up w.heap.size w2 d/\an w2 d)))(aH:Hid (∀w2 d N,an w2 d->w.heap.size+3<=w2.heap.size->aj d N->am 79 #[.pointer (some ⟨al,1,none⟩),.agg #[ab k,ab i,af t,ae h l j]] N λe w4=>∃(v:Wd)(g:Int),e=.returned (.tuple #[.agg #[ab v.1,ab v.2],ab g])/\Hid (Up w.heap.size N w4/\aD v g N w4))):am 127 #[aB al,.agg #[ab k,ab i,af t,ae h l j]] w λe w'=>∃(v:Wd)(g:Int),e=.returned (.tuple #[.agg #[ab v.1,ab v.2],ab g])/\ ((g≠6/\∃w0 w1,aj w w0/\O v g w0 w1/\bV (λb=>w.heap.size<=b/\b<w0.heap.size) w1 w')\/∃v1 w0 w1 w2 d N w4,aj w w0/\O v1 6 w0 w1/\bV (λb=>w.heap.size<=b/\b<w0.heap.size) w1 w2/\w.heap.size+3<=w2.heap.size/\an w2 d/\aj d N/\aD v g N w4/\bV (λb=>b=w.heap.size+1) w4 w'):=by
 go_enter func127,ntmps127;go_wp2_with fail;have R:=aq (kj w (.cells #[ab k,ab i,af t,ae h l j] 28) (.cells #[ab 0,ab 0] 154));have m:Hid (aj w ((w.alloc (.cells #[ab k,ab i,af t,ae h l j] 28)).alloc (.cells #[ab 0,ab 0] 154))/\((w.alloc (.cells #[ab k,ab i,af t,ae h l j] 28)).alloc (.cells #[ab 0,ab 0] 154)).heap.size=w.heap.size+1+1):=⟨by go_grown,by simp⟩;generalize aJ:(w.alloc _).alloc _=c;rw[aJ]at R m;clear aJ;have F:Hid (∀w':World,w'.heap[w.heap.size]?=c.heap[w.heap.size]? ->w'.cell? ⟨w.heap.size,0,none⟩=some (ab k)/\w'.cell? ⟨w.heap.size,1,none⟩=some (ab i)/\w'.cell? ⟨w.heap.size,2,none⟩=some (af t)/\w'.cell? ⟨w.heap.size,3,none⟩=some (ae h l j)):=λw' T=>by
  have f:=T.trans R.1;exact⟨au f 0,au f 1,au f 2,au f 3⟩
 obtain⟨aQ,aR,aS,aT⟩:=F.out c rfl;have u:Hid (aj c c.drew/\c.drew.heap[w.heap.size]?=c.heap[w.heap.size]?):=⟨(ap _ _).drew,rfl⟩;have Q:Hid (aj c (c.alloc (.cells #[ab 0,ab 0] 154)).drew/\(c.alloc (.cells #[ab 0,ab 0] 154)).drew.heap[w.heap.size]?=c.heap[w.heap.size]?):=by
  have T:aj c (c.alloc (.cells #[ab 0,ab 0] 154)).drew:=by go_grown
  exact⟨T,T.block _ (by have:=m.2;omega)⟩
 have aw:Hid ((c.alloc (.cells #[ab 0,ab 0] 154)).drew.heap[c.heap.size]?=some (.cells #[ab 0,ab 0] 154)/\(c.alloc (.cells #[ab 0,ab 0] 154)).drew.heap.size=c.heap.size+1):=⟨ru c _ rfl,by simp⟩
 go_region_held3 (λw'=>w'.cell? ⟨w.heap.size,0,none⟩=some (ab k)/\w'.cell? ⟨w.heap.size,1,none⟩=some (ab i)/\w'.cell? ⟨w.heap.size,2,none⟩=some (af t)/\w'.cell? ⟨w.heap.size,3,none⟩=some (ae h l j)) (first|(go_keep;done)|with_reducible exact F _ u.2|with_reducible exact F _ Q.2|exact F _ P|exact F _ (ad _)|exact F _ (ao _ _)|exact F _ (aF _ _ _))
  ((first
   | (go_at_call 79;refine(aG _ (m.1.trans (u.1.mono m.1.size))).mono ?_;rintro e w1 ⟨v,g,rfl,p⟩;have P:Hid (w1.heap[w.heap.size]?=c.heap[w.heap.size]?):=(p.1.2 _ (ak _) (by omega) (by have f:=u.1.size;have s:=m.2;omega)).trans u.2;have ad:Hid (∀o:Obj,(w1.alloc o).heap[w.heap.size]?=c.heap[w.heap.size]?):=λo=>(gE w1 o (by have f:=p.1.1;have s:=u.1.size;have ag:=m.2;omega)).trans P;have aF:Hid (∀(o:Obj)(n b:Value),(vL (w1.alloc o) w1.heap.size n b).heap[w.heap.size]?=c.heap[w.heap.size]?):=λo n b=>(lk (by have f:=p.1.1;have s:=u.1.size;have ag:=m.2;omega) n b).trans (ad o))
   | (go_at_call 79;refine(aG _ (m.1.trans (Q.1.mono m.1.size))).mono ?_;rintro e w1 ⟨v,g,rfl,p⟩;have P:Hid (w1.heap[w.heap.size]?=c.heap[w.heap.size]?):=(p.1.2 _ (ak _) (by omega) (by have f:=Q.1.size;have s:=m.2;omega)).trans Q.2;have X:Hid (w1.heap[c.heap.size]?=some (.cells #[ab 0,ab 0] 154)):=(p.1.2 c.heap.size (by have s:=m.2;omega) (by have s:=m.2;omega) (by have s:=aw.2;omega)).trans aw.1;have aM:w1.cell? ⟨c.heap.size,0,none⟩=some (ab 0):=au X 0;have aO:w1.cell? ⟨c.heap.size,1,none⟩=some (ab 0):=au X 1;have aP:=λz=>cQ X z;have ao:Hid (∀n b:Value,(vL w1 c.heap.size n b).heap[w.heap.size]?=c.heap[w.heap.size]?):=λn b=>(lk (by have ag:=m.2;omega) n b).trans P)))
 ·have V:Hid (∃w0 r w2,(r=w1.heap.size/\w2=w1.alloc (.cells #[ab v.1,ab v.2] 154))/\aj w w0/\O v g w0 w1/\bV (λb=>w.heap.size<=b/\b<w0.heap.size) w1 w2/\w.heap.size+3<=w2.heap.size/\w2.heap[w.heap.size]?=some (.cells #[ab k,ab i,af t,ae h l j] 28)/\w2.heap[w.heap.size+1]?=some (.cells #[ab 0,ab 0] 154)/\w2.heap[r]?=some (.cells #[ab v.1,ab v.2] 154)/\w.heap.size+1≠r/\w.heap.size+2<=w0.heap.size):=by
    have f:=p.1.1;have s:=u.1.size;have ag:=m.2;have ax:∀b,b<w1.heap.size->(w1.alloc (.cells #[ab v.1,ab v.2] 154)).heap[b]?=w1.heap[b]? :=λb aL=>gE w1 _ aL;refine⟨c.drew,_,_,⟨rfl,rfl⟩,m.1.trans (u.1.mono m.1.size),p.2,aY aN _,by simp only[iy];omega,(ad _).trans R.1,?_,aE _ _,by omega,by omega⟩;exact(ax _ (by omega)).trans ((p.1.2 _ (by omega) (by omega) (by omega)).trans ((u.1.block _ (by omega)).trans R.2))
  obtain⟨w0,r,w2,⟨S,J⟩,a⟩:=V.out;rw[<-S,<-J];replace a:=aq a;clear S J V ad aF P p;have aA:w2.cell? ⟨r,0,none⟩=some (ab v.1):=au a.2.2.2.2.2.2.1 0;have aC:w2.cell? ⟨r,1,none⟩=some (ab v.2):=au a.2.2.2.2.2.2.1 1;have A:w2.cell? ⟨w.heap.size+1,0,none⟩=some (ab 0):=au a.2.2.2.2.2.1 0;have B:w2.cell? ⟨w.heap.size+1,1,none⟩=some (ab 0):=au a.2.2.2.2.2.1 1;have aa:=λz=>cQ a.2.2.2.2.2.1 z;by_cases K:g=6;rotate_left
  ·have aK:¬(6:Int)=g:=λe=>K e.symm;go_wp2_with fail;refine av (v:=.tuple #[.agg #[ab v.1,ab v.2],ab g]) (by simp[results,results127,go_sem,A,B]) rfl ?_;obtain⟨G,H,I,_,_,_,_,_,Y⟩:=a.out;refine⟨v,g,rfl,ah ⟨K,w0,w1,G,H,bV.trans I ((bm w2 (w.heap.size+1) 0 _).trans (bm _ (w.heap.size+1) _ _) λ_ _ e=>e) λb _ e=>?_⟩⟩;subst e;omega
  ·subst K;have W:=aq (aI v w0 w1 w2 a.1 a.2.1 a.2.2.1 a.2.2.2.1);go_wp2_with fail;refine W.mono ?_;rintro e d ⟨rfl,C⟩;clear aA aC A B aa W;have q:Hid (d.heap[w.heap.size]?=some (.cells #[ab k,ab i,af t,ae h l j] 28)/\d.heap[w.heap.size+1]?=some (.cells #[ab 0,ab 0] 154)/\w.heap.size+3<=d.heap.size):=by
    have ay:=a.2.2.2.1;have L:=C.1;exact⟨(L.2 _ (by omega) (by omega) (by omega)).trans a.2.2.2.2.1,(L.2 _ (by omega) (by omega) (by omega)).trans a.2.2.2.2.2.1,az ay L.1⟩
   have x:Hid (aj d d.drew):=(ap _ _).drew;have y:Hid (∀w':World,w'.heap[w.heap.size]?=some (.cells #[ab k,ab i,af t,ae h l j] 28)->w'.cell? ⟨w.heap.size,0,none⟩=some (ab k)/\w'.cell? ⟨w.heap.size,1,none⟩=some (ab i)/\w'.cell? ⟨w.heap.size,2,none⟩=some (af t)/\w'.cell? ⟨w.heap.size,3,none⟩=some (ae h l j)):=λw' f=>⟨au f 0,au f 1,au f 2,au f 3⟩;obtain⟨t0,t1,t2,t3⟩:=y.out d q.1;go_wp2_with fail
   go_region_held3 (λw'=>w'.cell? ⟨w.heap.size,0,none⟩=some (ab k)/\w'.cell? ⟨w.heap.size,1,none⟩=some (ab i)/\w'.cell? ⟨w.heap.size,2,none⟩=some (af t)/\w'.cell? ⟨w.heap.size,3,none⟩=some (ae h l j)) (first|(go_keep;done)|exact y _ q.1|exact y _ U|exact y _ (ar _ _))
    ((go_at_call 79;refine(aH w2 d _ C.2 a.2.2.2.1 x).mono ?_;rintro e w4 ⟨M,Z,rfl,D⟩;have U:Hid (w4.heap[w.heap.size]?=some (.cells #[ab k,ab i,af t,ae h l j] 28)):=(D.1.2 _ (ak _) (by omega) (by have f:=q.2.2;have s:=x.size;omega)).trans q.1;have E:Hid (w4.heap[w.heap.size+1]?=some (.cells #[ab 0,ab 0] 154)):=(D.1.2 (w.heap.size+1) (by omega) (by omega) (by have f:=q.2.2;have s:=x.size;omega)).trans q.2.1;have A:w4.cell? ⟨w.heap.size+1,0,none⟩=some (ab 0):=au E 0;have B:w4.cell? ⟨w.heap.size+1,1,none⟩=some (ab 0):=au E 1;have aa:=λz=>cQ E z;have ar:Hid (∀n b:Value,(vL w4 (w.heap.size+1) n b).heap[w.heap.size]?=some (.cells #[ab k,ab i,af t,ae h l j] 28)):=λn b=>(lk (by omega) n b).trans U))
   go_wp2_with fail;refine av (v:=.tuple #[.agg #[ab M.1,ab M.2],ab Z]) (by simp[results,results127,go_sem,A,B]) rfl ?_;obtain⟨G,H,I,Y,_⟩:=a.out;exact⟨M,Z,rfl,ai ⟨v,w0,w1,w2,d,d.drew,w4,G,H,I,Y,C.2,x,D.2,(bm w4 (w.heap.size+1) 0 _).trans (bm _ (w.heap.size+1) _ _) λ_ _ e=>e⟩⟩
 ·have V:Hid (∃w0 r w2,(r=c.heap.size/\w2=vL w1 c.heap.size (ab v.1) (ab v.2))/\aj w w0/\O v g w0 w1/\bV (λb=>w.heap.size<=b/\b<w0.heap.size) w1 w2/\w.heap.size+3<=w2.heap.size/\w2.heap[w.heap.size]?=some (.cells #[ab k,ab i,af t,ae h l j] 28)/\w2.heap[w.heap.size+1]?=some (.cells #[ab 0,ab 0] 154)/\w2.heap[r]?=some (.cells #[ab v.1,ab v.2] 154)/\w.heap.size+1≠r/\w.heap.size+2<=w0.heap.size):=by
    have f:=p.1.1;have s:=aw.2;have ag:=m.2;have ax:bV (λb=>w.heap.size<=b/\b<(c.alloc (.cells #[ab 0,ab 0] 154)).drew.heap.size) w1 (vL w1 c.heap.size (ab v.1) (ab v.2)):=((bm w1 c.heap.size 0 _).trans (bm _ c.heap.size _ _) λ_ _ e=>e).mono λb e=>by subst e;omega
    refine⟨_,_,_,⟨rfl,rfl⟩,m.1.trans (Q.1.mono m.1.size),p.2,ax,by rw[Hw];omega,(ao _ _).trans R.1,?_,?_,by omega,by omega⟩
    ·exact(lk (by omega) _ _).trans ((p.1.2 _ (by omega) (by omega) (by omega)).trans ((Q.1.block _ (by omega)).trans R.2))
    ·have T:=X.out;unfold vL World.setCell;simp[bN,T]
  obtain⟨w0,r,w2,⟨S,J⟩,a⟩:=V.out;unfold vL at J;rw[<-S];rw[<-S]at J;rw[<-J];replace a:=aq a;clear S J V ao P p X aM aO aP;have aA:w2.cell? ⟨r,0,none⟩=some (ab v.1):=au a.2.2.2.2.2.2.1 0;have aC:w2.cell? ⟨r,1,none⟩=some (ab v.2):=au a.2.2.2.2.2.2.1 1;have A:w2.cell? ⟨w.heap.size+1,0,none⟩=some (ab 0):=au a.2.2.2.2.2.1 0;have B:w2.cell? ⟨w.heap.size+1,1,none⟩=some (ab 0):=au a.2.2.2.2.2.1 1;have aa:=λz=>cQ a.2.2.2.2.2.1 z;by_cases K:g=6;rotate_left
  ·have aK:¬(6:Int)=g:=λe=>K e.symm;go_wp2_with fail;refine av (v:=.tuple #[.agg #[ab v.1,ab v.2],ab g]) (by simp[results,results127,go_sem,A,B]) rfl ?_;obtain⟨G,H,I,_,_,_,_,_,Y⟩:=a.out;refine⟨v,g,rfl,ah ⟨K,w0,w1,G,H,bV.trans I ((bm w2 (w.heap.size+1) 0 _).trans (bm _ (w.heap.size+1) _ _) λ_ _ e=>e) λb _ e=>?_⟩⟩;subst e;omega
  ·subst K;have W:=aq (aI v w0 w1 w2 a.1 a.2.1 a.2.2.1 a.2.2.2.1);go_wp2_with fail;refine W.mono ?_;rintro e d ⟨rfl,C⟩;clear aA aC A B aa W;have q:Hid (d.heap[w.heap.size]?=some (.cells #[ab k,ab i,af t,ae h l j] 28)/\d.heap[w.heap.size+1]?=some (.cells #[ab 0,ab 0] 154)/\w.heap.size+3<=d.heap.size):=by
    have ay:=a.2.2.2.1;have L:=C.1;exact⟨(L.2 _ (by omega) (by omega) (by omega)).trans a.2.2.2.2.1,(L.2 _ (by omega) (by omega) (by omega)).trans a.2.2.2.2.2.1,az ay L.1⟩
   have x:Hid (aj d d.drew):=(ap _ _).drew;have y:Hid (∀w':World,w'.heap[w.heap.size]?=some (.cells #[ab k,ab i,af t,ae h l j] 28)->w'.cell? ⟨w.heap.size,0,none⟩=some (ab k)/\w'.cell? ⟨w.heap.size,1,none⟩=some (ab i)/\w'.cell? ⟨w.heap.size,2,none⟩=some (af t)/\w'.cell? ⟨w.heap.size,3,none⟩=some (ae h l j)):=λw' f=>⟨au f 0,au f 1,au f 2,au f 3⟩;obtain⟨t0,t1,t2,t3⟩:=y.out d q.1;go_wp2_with fail
   go_region_held3 (λw'=>w'.cell? ⟨w.heap.size,0,none⟩=some (ab k)/\w'.cell? ⟨w.heap.size,1,none⟩=some (ab i)/\w'.cell? ⟨w.heap.size,2,none⟩=some (af t)/\w'.cell? ⟨w.heap.size,3,none⟩=some (ae h l j)) (first|(go_keep;done)|exact y _ q.1|exact y _ U|exact y _ (ar _ _))
    ((go_at_call 79;refine(aH w2 d _ C.2 a.2.2.2.1 x).mono ?_;rintro e w4 ⟨M,Z,rfl,D⟩;have U:Hid (w4.heap[w.heap.size]?=some (.cells #[ab k,ab i,af t,ae h l j] 28)):=(D.1.2 _ (ak _) (by omega) (by have f:=q.2.2;have s:=x.size;omega)).trans q.1;have E:Hid (w4.heap[w.heap.size+1]?=some (.cells #[ab 0,ab 0] 154)):=(D.1.2 (w.heap.size+1) (by omega) (by omega) (by have f:=q.2.2;have s:=x.size;omega)).trans q.2.1;have A:w4.cell? ⟨w.heap.size+1,0,none⟩=some (ab 0):=au E 0;have B:w4.cell? ⟨w.heap.size+1,1,none⟩=some (ab 0):=au E 1;have aa:=λz=>cQ E z;have ar:Hid (∀n b:Value,(vL w4 (w.heap.size+1) n b).heap[w.heap.size]?=some (.cells #[ab k,ab i,af t,ae h l j] 28)):=λn b=>(lk (by omega) n b).trans U))
   go_wp2_with fail;refine av (v:=.tuple #[.agg #[ab M.1,ab M.2],ab Z]) (by simp[results,results127,go_sem,A,B]) rfl ?_;obtain⟨G,H,I,Y,_⟩:=a;exact⟨M,Z,rfl,ai ⟨v,w0,w1,w2,d,d.drew,w4,G,H,I,Y,C.2,x,D.2,(bm w4 (w.heap.size+1) 0 _).trans (bm _ (w.heap.size+1) _ _) λ_ _ e=>e⟩⟩
theorem jV.lay{N:Nat}{ws:List Wd}{nm:List ByteArray}{room:Int}{i:List Wd}{q:List (Tm N)}(t:jV N ws nm room i q)(x:Tm N)(j:bv N x=0/\aK N x=true/\sz N x<=room-ws.length)(y:(aV N x ws nm).2.2.Nodup):jV N (aV N x ws nm).2.1 (aV N x ws nm).2.2 room (i++ [(aV N x ws nm).1]) (q++ [x]):=by
 obtain⟨e,A,B,K,L,C,D,M⟩:=t;have n:=oM j.1;obtain⟨p,F⟩:=mm N x ws nm;have z:=gL N x ws nm n;have m:=zt N x ws nm n;have J:=(iL N x ws nm).1;have l:∀c∈i,oX (aV N x ws nm).2.1 N c=oX ws N c/\∀E∈oX ws N c,E<ws.length:=λc h=>by
  obtain⟨f,_,o⟩:=e.mem h;exact⟨rG p N f c o,zH N f c o⟩
 refine⟨⟨by simp[e.1],λk G f d a=>?_⟩,?_,λf a=>?_,?_,by omega,C,D,y⟩
 ·rcases Nat.lt_or_ge k i.length with g|g
  ·rw[dm g]at d;rw[dm (by rw[<-e.1];exact g)]at a;exact(e.2 k G f d a).mono p F
  ·rw[eC g]at d;rw[eC (by rw[<-e.1];exact g)]at a;have s:k-i.length=0:=by
    have:=(aO.1 d).1;simp at this;omega
   rw[<-e.1]at a;rw[s]at d a;simp only[cP,kN]at d a;rw[<-d,<-a];exact z
 ·rw[kG,np (λc h=>(l c h).1)];simp only[bz,List.flatMap_nil,dY];refine fp.2 ⟨A,m.1,λr u b w=>?_⟩;obtain⟨c,h,v⟩:=jG.1 u;have H:=(l c h).2 r v;have I:=m.2 b w;omega
 ·rcases dp.1 a with a|a
  ·exact B f a
  ·rw[eF.1 a];exact⟨j.1,j.2.1⟩
 ·simp only[fP,mU,aM,b8,bA,gR];omega
def sF(N:Nat)(x:Tm N)(room:Int)(a:List (Tm N)):Int:=if bv N x≠0 then bv N x else if aK N x=false then 5 else if (a.map (sz N)).sum+sz N x<=room then 0 else 6
theorem D7{N:Nat}{x:Tm N}{room:Int}{ws:List Wd}{e:List (Tm N)}(c:jL N x room ws≠6)(f:(e.map (sz N)).sum<=(ws.length:Int)):sF N x room e=jL N x room ws:=by
 unfold sF jL at*;by_cases a:bv N x≠0
 ·simp[a]
 ·by_cases b:aK N x=false
  ·simp[a,b]
  ·rw[if_neg a,if_neg b]at c;rw[if_neg a,if_neg a,if_neg b,if_neg b];by_cases d:sz N x<=room-ws.length
   ·rw[if_pos (by omega)];simp[d]
   ·simp[d]at c
theorem D6{N:Nat}{x:Tm N}{room:Int}{ws:List Wd}{a:List (Tm N)}(e:(ws.length:Int)=(a.map (sz N)).sum):sF N x room a=jL N x room ws:=by
 unfold sF jL;have b:((a.map (sz N)).sum+sz N x<=room)=(sz N x<=room-ws.length):=by rw[e];exact propext ⟨λd=>by omega,λd=>by omega⟩
 by_cases c:sz N x<=room-ws.length
 ·simp[c,b]
 ·simp[c,b]
section
variable {base pb:Nat} {name:ByteArray} {room:Int} {N:Nat} {s:Tm (N+1)} {ms:List (Tm (N+1))} {xs:List (Wd×Tm (N+1))} {nk:Nat} {M:Nat->Prop} {w:World} {ws:List Wd} {nm:List ByteArray} {sv:Wd} {vs:List Wd} {ma:Option Addr} {mc:Nat} {Mh:Nat->Prop}
theorem cD.kept(a:cD base pb name room (N+1) s ms xs nk M w ws nm sv vs ma mc Mh){S:Nat->Prop}{w1:World}(k:bV S w w1)(g:∀b,M b->b<w.heap.size->¬S b):cD base pb name room (N+1) s ms xs nk M w1 ws nm sv vs ma mc Mh:=by
 refine⟨a.heap.kept k λb m c=>g b (a.inM b m) c,?_,a.has,a.len,a.names,a.inM,a.mailM⟩;rcases a.mail with i|⟨d,n,h,e,j,f,l⟩
 ·exact ah i
 ·have c:=(aF.1 f).1;exact ai ⟨d,n,h,e,j,(k.block d c (g d (a.mailM _ e) c)).trans f,l⟩
theorem cD.mono(a:cD base pb name room (N+1) s ms xs nk M w ws nm sv vs ma mc Mh){M':Nat->Prop}{nk':Nat}(c:∀b,M b->M' b)(g:nk<=nk'):cD base pb name room (N+1) s ms xs nk' M' w ws nm sv vs ma mc Mh:=
 ⟨a.heap,a.mail,a.has,a.len,az a.names g,λb f=>c b (a.inM b f),λd e=>c _ (a.mailM d e)⟩
theorem cD.inside(a:cD base pb name room (N+1) s ms xs nk M w ws nm sv vs ma mc Mh):cD base pb name room (N+1) s ms xs nk (λb=>M b/\b<w.heap.size) w ws nm sv vs ma mc (λb=>Mh b/\b<w.heap.size):=by
 refine⟨a.heap.inside,?_,a.has,a.len,a.names,λb k=>⟨a.inM b k.1,k.2⟩,λm c=>⟨a.mailM m c,?_⟩⟩
 ·rcases a.mail with d|⟨j,l,g,e,h,f,i⟩
  ·exact ah d
  ·exact ai ⟨j,l,g,e,λn=>h n.1,f,i⟩
 ·rcases a.mail with⟨d,_⟩|⟨j,l,g,e,h,f,i⟩
  ·rw[d]at c;cases c
  ·rw[e]at c;injection c with c;rw[<-c];exact(aF.1 f).1
def yJ(N:Nat)(x:Tm N)(base:Nat)(b:cu)(room:Int)(ws:List Wd)(nm:List ByteArray)(M:Nat->Prop)(v:Wd)(a:Int)(w w':World):Prop:=
 a=jL N x room ws/\(a≠0->v=(0,0)/\aj w w')/\(a=0->(bv N x=0/\aK N x=true/\sz N x<=room-ws.length)/\v=(aV N x ws nm).1/\lU base b room (aV N x ws nm).2.1 (aV N x ws nm).2.2 M w w')
theorem zK{N:Nat}{x:Tm N}{h:cu}{e:Ending}{w w':World}(g:Jc N x base h room ws nm M w e w'):∃(v:Wd)(f:Int),e=.returned (.tuple #[.agg #[ab v.1,ab v.2],ab f])/\yJ N x base h room ws nm M v f w w':=by
 by_cases a:jL N x room ws=0
 ·obtain⟨b,c,i⟩:=g.2 a;exact⟨_,0,c,a.symm,λd=>absurd rfl d,λ_=>⟨b,rfl,i⟩⟩
 ·obtain⟨b,c⟩:=g.1 a;exact⟨(0,0),_,b,rfl,λ_=>⟨rfl,c⟩,λd=>absurd d a⟩
theorem dK.nodup{c:cu}(a:dK base c room ws nm M w):nm.Nodup:=by
 obtain⟨_,_,_,_,_,b,_⟩:=a;exact b.2.1
theorem cD.put1(d:cD base pb name room (N+1) s ms [] nk M w ws nm sv vs ma mc Mh){x:Tm (N+1)}{v:Wd}{e:Int}{w':World}(t:yJ (N+1) x base (PL pb name sv (ae ma vs.length mc)) room ws nm Mh v e w w'):∃A z m,cD base pb name room (N+1) s ms (if e=0 then [(v,x)]else []) (nk+201) (λb=>M b\/w.heap.size<=b) w' A z sv vs ma mc m/\bV M w w':=by
 obtain⟨f1,f2,f3⟩:=t;by_cases f:e=0
 ·obtain⟨c,rfl,k,l⟩:=f3 f;rw[if_pos f];have D:=(iL (N+1) x ws nm).2;have C:=l7 c.1;have B:=d.names;refine⟨_,_,λb=>Mh b\/w.heap.size<=b,⟨k,?_,?_,d.len,by omega,?_,λn r=>ah (d.mailM n r)⟩,l.mono d.inM⟩
  ·rcases d.mail with p|⟨j,y,o,e,h,i,q⟩
   ·exact ah p
   ·have u:=(aF.1 i).1;refine ai ⟨j,y,o,e,λa=>?_,(l.block j u h).trans i,q⟩;rcases a with a|a
    ·exact h a
    ·omega
  ·have:=d.has;simp only[b8,dY]at this;exact this.lay x c k.nodup
  ·intro b g;rcases g with a|a
   ·exact ah (d.inM b a)
   ·exact ai a
 ·obtain⟨_,g⟩:=f2 f;rw[if_neg f];exact⟨ws,nm,Mh,(d.later g).mono (λb a=>ah a) (by omega),aY g M⟩
def P3(base pb:Nat)(name:ByteArray)(room:Int)(N:Nat)(s:Tm N)(ms:List (Tm N))(x:Tm N)(nk:Nat)(M:Nat->Prop)(w:World)(e:Ending)(w':World):Prop:=
 ∃a:Wd,e=.returned (.tuple #[.agg #[ab a.1,ab a.2],ab (sF N x room (s::ms))])/\Hid (∃j g h i d f c,cD base pb name room N s ms (if sF N x room (s::ms)=0 then [(a,x)]else []) (nk+201) (λb=>M b\/w.heap.size<=b) w' j g h i d f c/\bV M w w')
theorem cD.put(y:cD base pb name room (N+1) s ms [] nk M w ws nm sv vs ma mc Mh)(x:Tm (N+1))(af:In w.heap.size w (N+1) x)(aw:cd (λb=>¬M b) (N+1) x)(ap:(ax (N+1) x).length<=2097152)(G:∀b,M b->b<w.heap.size)(aM:nk<=49000)(al:ms.length<=999)(aK:base<=w.heap.size):am 127 #[aB pb,df (N+1) x] w (P3 base pb name room (N+1) s ms x nk M w):=by
 have aL:=y.len;have aN:=y.names;have ar:=y.front;obtain⟨_,_,_,aD,aQ,aE,aF,_⟩:=ar;have Z:=In.offB aw af
 have aa:∀{f:World}{D:List Wd}{B:Wd}{C:List Wd}{z:Option Addr}{A:Nat}{q P:Nat->Prop},cD base pb name room (N+1) s ms [] nk P f D nm B C z A q->bV M w f->(∀b,P b->M b\/w.heap.size<=b)->
   am 79 #[.pointer (some ⟨pb,1,none⟩),df (N+1) x] f λE g=>∃(e:Wd)(d:Int),E=.returned (.tuple #[.agg #[ab e.1,ab e.2],ab d])/\yJ (N+1) x base (PL pb name B (ae z C.length A)) room D nm q e d f g:=by
  intro f D B C z A q P r ag ao;have az:=ag.size;obtain⟨_,_,_,_,aR,aS,aT,_⟩:=r.front;have aA:In f.heap.size f (N+1) x:=(In.off (λb (c:¬M b/\b<w.heap.size)=>ag.block b c.2 c.1) Z af).mono az;have ay:cd (λb=>¬q b) (N+1) x:=Z.mono λb c a=>by
   rcases ao b (r.inM b a)with t|t
   ·exact c.1 t
   ·have:=c.2;omega
  exact(ve (N+1) x base (PL pb name B (ae z C.length A)) room D nm q f r.heap aA ay ap (by omega) aE aF (by omega) (by omega)).mono λE g a=>zK a
 have T:∀{n:Nat}{V:Nat->Prop}{j g:World},bV V j g->(∀b,n<=b->b<n+3->b<j.heap.size->¬V b)->Up n j g:=λk aq=>⟨k.size,λb u O F=>k.block b F (aq b u O F)⟩;have Y:∀{e:Wd}{d:Int}{j g:World}{D:List Wd}{B:Wd}{C:List Wd}{z:Option Addr}{A:Nat}{q:Nat->Prop},yJ (N+1) x base (PL pb name B (ae z C.length A)) room D nm q e d j g->bV q j g:=λ{e d j g D B C z A q} a=>by
  by_cases W:d=0
  ·exact(a.2.2 W).2.2.2
  ·exact aY (a.2.1 W).2 _
 refine(BZ pb x.1.1 x.1.2.1 x.1.2.2 x.2.1.1 x.2.2.length x.2.1.2 w (λe d j g=>yJ (N+1) x base (PL pb name sv (ae ma vs.length mc)) room ws nm Mh e d j g)
  (λH I=>bV M w I/\H.heap.size<=I.heap.size/\∃l p i o m,cD base pb name room (N+1) s ms [] nk (λb=>M b\/H.heap.size<=b) I l nm p i o i.length m/\(l.length:Int)=((s::ms).map (sz (N+1))).sum)
  (λe d f U=>bV M w f/\w.heap.size+3<=f.heap.size/\∃l p i o m,cD base pb name room (N+1) s ms [] nk (λb=>M b\/w.heap.size+3<=b) f l nm p i o i.length m/\(l.length:Int)=((s::ms).map (sz (N+1))).sum/\yJ (N+1) x base (PL pb name p (ae o i.length i.length)) room l nm m e d f U) ?_ ?_ ?_).mono ?_
 ·intro j c;refine(aa (y.later c) (aY c M) λb a=>ah a).mono ?_;rintro E g ⟨e,d,rfl,h⟩;refine⟨e,d,rfl,T (Y h) λb u _ _ a=>?_,h⟩;have:=G b (y.inM b a);omega
 ·intro aI j g H c h v aC;have X:=(h.2.1 (by decide)).2;have ad:=c.size;have O:=((y.later c).later X).kept v λb a _ t=>by
   have:=G b a;omega
  have au:bV M w H:=bV.trans ((aY c M).trans (aY X M) λ_ _ a=>a) v λb Q a=>by omega
  refine(O.tidy (by omega) al (by omega)).mono ?_;rintro E I ⟨rfl,l,p,i,o,m,F,K,S⟩;refine⟨rfl,T K λb u _ _ a=>?_,au.trans K λ_ _ a=>a,K.size,l,p,i,o,m,F,S⟩;have:=G b a;omega
 ·rintro H I f ⟨K,aO,l,p,i,o,m,F,S⟩ aC c
  have r:=(F.later c).mono (M':=λb=>M b\/w.heap.size+3<=b) (nk':=nk) (λb a=>by
   rcases a with a|a
   ·exact ah a
   ·exact ai (by omega)) (ak _)
  have L:bV M w f:=K.trans (aY c M) λ_ _ a=>a
  refine(aa r L λb a=>by
   rcases a with a|a
   ·exact ah a
   ·exact ai (by omega)).mono ?_
  rintro E U ⟨e,d,rfl,h⟩;refine⟨e,d,rfl,T (Y h) λb u O _ a=>?_,L,by have:=c.size;omega,l,p,i,o,m,r,S,h⟩;rcases r.inM b a with t|t
  ·have:=G b t;omega
  ·omega
 ·rintro E aU ⟨e,d,rfl,⟨an,j,g,c,h,v⟩|⟨aI,j,g,H,I,f,U,_,_,_,_,_,_,⟨L,aP,l,p,i,o,m,r,av,h⟩,v⟩⟩
  ·have ad:=c.size;have J:d=sF (N+1) x room (s::ms):=by
    rw[D7 (ws:=ws) (by rw[<-h.1];exact an) aD];exact h.1
   obtain⟨l,aG,m,u,R⟩:=(y.later c).put1 h;refine⟨e,by rw[<-J],l,aG,sv,vs,ma,mc,m,?_,?_⟩
   ·rw[<-J];refine(u.kept v λb a _ t=>?_).mono (λb a=>?_) (ak _)
    ·rcases a with a|a
     ·have:=G b a;omega
     ·omega
    ·rcases a with a|a
     ·exact ah a
     ·exact ai (by omega)
   ·exact bV.trans ((aY c M).trans R λ_ _ a=>a) v λb Q a=>by omega
  ·have ad:=L.size;have J:d=sF (N+1) x room (s::ms):=by
    rw[D6 av];exact h.1
   obtain⟨aJ,aH,aj,u,R⟩:=r.put1 h;refine⟨e,by rw[<-J],aJ,aH,p,i,o,i.length,aj,?_,?_⟩
   ·rw[<-J];refine(u.kept v λb a _ t=>?_).mono (λb a=>?_) (ak _)
    ·subst t;rcases a with(a|a)|a
     ·have:=G _ a;omega
     ·omega
     ·omega
    ·rcases a with(a|a)|a
     ·exact ah a
     ·exact ai (by omega)
     ·exact ai (by omega)
   ·refine bV.trans (L.trans R λb Q a=>?_) v λb Q a=>by omega
    rcases a with a|a
    ·exact a
    ·omega
end
theorem tu(vs:List Wd)(v:Wd):aX (vs++ [v])=aX vs++pU v:=by simp[aX]
theorem oy{P:Program}(w:World)(t ty e:TypeId)(i:TypeInfo)(y:P.underlying t=some (.slice e))(s:P.info? e=some i)(g f d l:Nat)(h:Array Value)(r:w.heap[g]?=some (.cells h e (0,0)))(a:Addr)(m c:Nat)(b:List Value)(u:b.length=m*i.size)(v:∀j k,b[j]?=some k->w.cell? (a.add j)=some k)(o:∀k∈b,k.oneCell'=true)(x:d+m<=l)(q:f+d*i.size+b.length<=h.size):(Builtin.append_ #[t,t] ty #[ae (some ⟨g,f,none⟩) d l,ae (some a) m c]).run P w= .ok (ae (some ⟨g,f,none⟩) (d+m) l) (w.setRow g (h.toList.take (f+d*i.size)++b++h.toList.drop (f+d*i.size+b.length)).toArray):=by
 have p:=run_firstCells_some (P:=P) w i.size m a m c b u v;have n:=pB P g (f+d*i.size) e b 0 h w r (by simpa using q) o;simp only[iu]at n;simp[Builtin.append_,cr y,sizeOf,typeInfo,s,Builtin.lenOf,x,p,eU,n]
def qL(Mh:Nat->Prop)(ma:Option Addr)(vs:List Wd)(w:World)(d:Option Addr)(e:Nat)(w':World):Prop:=
 jH Mh d vs e w'/\bV (λb=>∃a,ma=some a/\b=a.block) w w'/\∀a,d=some a->(∃c,ma=some c/\a.block=c.block)\/a.block=w.heap.size
theorem KX{S:Nat->Prop}(w:World)(g:Nat)(cs:Array Value)(a:∀b,b=g->S b):bV S w (w.setRow g cs):=⟨rfl,rfl,rfl,by simp,λ_ _ c=>setRow_other _ _ _ _ λe=>c (a _ e)⟩
theorem vz{Mh:Nat->Prop}{ma:Option Addr}{w:World}(a:List Wd)(C old:Nat)(c:Value)(k:c.cells.size=2)(o:old=a.length)(e:a.length<=C)(f:C<=maxLen)(g:∀b,Mh b->b<w.heap.size):qL Mh ma a w (some ⟨w.heap.size,0,none⟩) C (w.drew.alloc (.cells ((aX a).toArray++Builtin.zeroCells c.cells (C-old)) 154)):=by
 have d:∀b,b<w.heap.size->(w.drew.alloc (.cells ((aX a).toArray++Builtin.zeroCells c.cells (C-old)) 154)).heap[b]?=w.heap[b]? :=λb d=>Below.heap_alloc w.drew _ b d;have j:(w.drew.alloc (.cells ((aX a).toArray++Builtin.zeroCells c.cells (C-old)) 154)).heap[w.heap.size]?=some (.cells ((aX a).toArray++Builtin.zeroCells c.cells (C-old)) 154):=aE w.drew _;refine⟨ai ⟨w.heap.size,0,_,rfl,λl=>?_,j,e,f,?_,?_⟩,⟨rfl,rfl,rfl,?_,λb i _=>d b i⟩,λm h=>ai (congrArg Addr.block (aw h).symm)⟩
 ·have:=g _ l;omega
 ·rw[Array.size_append,size_zeroCells,k,fq,cw];omega
 ·rw[List.drop_zero,Array.toList_append,gS (by rw[pu,cw];omega),pu,bu (by rw[cw];omega)]
 ·have:=iy w.drew (.cells ((aX a).toArray++Builtin.zeroCells c.cells (C-old)) 154);have n:w.drew.heap.size=w.heap.size:=rfl;omega
theorem tP{Mh:Nat->Prop}{ma:Option Addr}{vs:List Wd}{f:Nat}{w:World}(ty:TypeId)(l:jH Mh ma vs f w)(O:vs.length<=1000)(x:∀b,Mh b->b<w.heap.size)(sa:Addr)(c:Nat)(v:Wd)(r:∀j k,(pU v)[j]?=some k->w.cell? (sa.add j)=some k):∃C D w',(Builtin.append_ #[157,157] ty #[ae ma vs.length f,ae (some sa) 1 c]).run Tryz.prog w=.ok (ae C (vs.length+1) D) w'/\qL Mh ma (vs++ [v]) w C D w':=by
 obtain⟨o,q,A,h,B⟩:=bP kZ;have L:∀k∈pU v,k.oneCell'=true:=by simp[pU,Value.oneCell']
 have i:(pU v).length=2:=rfl;rcases l with⟨rfl,rfl,rfl⟩|⟨e,a,d,rfl,s,n,F,t,G,u⟩
 ·have m:=run_append_nil (P:=Tryz.prog) w 157 ty 154 o _ underlying157 q A sa 1 c (pU v) (by rw[i,h]) r (by omega) (by omega) (by rw[B];omega);refine⟨_,_,_,m,?_⟩;have l:=vz (Mh:=Mh) (ma:=none) (w:=w) [v] (grownCap w 1 0 154) 1 (.agg #[ab 0,ab 0]) rfl rfl (grownCap_ge w 1 0 _) (grownCap_le_maxLen w 1 0 _ (by unfold maxLen;omega)) x;simpa [aX]using l
 ·have Q:=(aF.1 n).1;by_cases M:vs.length+1<=f
  ·have y:a+vs.length*o.size+(pU v).length<=d.size:=by rw[i,h];omega
   have m:=oy (P:=Tryz.prog) w 157 ty 154 o underlying157 q e a vs.length f d n sa 1 c (pU v) (by rw[i,h]) r L M y;refine⟨_,_,_,m,ai ⟨e,a,_,rfl,s,setRow_heap w e d _ _ _ n,?_,t,?_,?_⟩,?_,λN H=>ah ⟨_,rfl,?_⟩⟩
   ·simp only[bk,bf,jF];omega
   ·have p:d.toList.length=d.size:=gn;rw[h]at y ⊢;simp only[fq,bk,dy,eX,p];omega
   ·rw[h];have R:(d.toList.take (a+vs.length*2)).length=a+vs.length*2:=by
     have p:d.toList.length=d.size:=gn;rw[dy,p];omega
    have J:(d.toList.take (a+vs.length*2)).drop a=aX vs:=by
     rw[List.drop_take,Nat.add_sub_cancel_left];exact u
    rw[tu,mN,pj (by omega),J];have g:(vs++ [v]).length*2=(aX vs).length+2:=by
     rw[cw];simp only[bk,bf,jF];omega
    rw[g,List.take_length_add_append,gS (by rw[i];omega),bu (by rw[i];omega)]
   ·exact KX w e _ λb g=>⟨_,rfl,g⟩
   ·exact congrArg Addr.block (aw H).symm
  ·have m:=run_append_grow (P:=Tryz.prog) w 157 ty 154 o _ underlying157 q A ⟨e,a,none⟩ vs.length f (aX vs) (by rw[cw,h]) (λj k z=>by
     have K:jH Mh (some ⟨e,a,none⟩) vs f w:=ai ⟨e,a,d,rfl,s,n,F,t,G,u⟩;rcases K.words with g|⟨ad,g,I⟩
     ·subst g;simp[aX]at z
     ·have E:=aw g;rw[E]
      exact I j k z) sa 1 c (pU v) (by rw[i,h]) r (by omega) (by omega) (growslice_fits (by omega) (by rw[B];omega))
   refine⟨_,_,_,m,?_⟩;have l:=vz (Mh:=Mh) (ma:=some ⟨e,a,none⟩) (w:=w) (vs++ [v]) (grownCap w (vs.length+1) f 154) (vs.length+1) (.agg #[ab 0,ab 0]) rfl (by simp) (by have:=grownCap_ge w (vs.length+1) f 154;simpa using this) (grownCap_le_maxLen w _ _ _ (by unfold maxLen;omega)) x;simpa [tu]using l
theorem wZ{w w':World}{v x' b:Value}{o:Oper}{a:Act}{K:Act->World->Prop}{Q:Exit->Act->World->Prop}(s x:Operand)(d:o.op=.call {callee:=.builtin .append,args:= #[s,x],argTypes:= #[157,157]})(f:a.eval s=v)(g:a.eval x=x')(e:(Builtin.append_ #[157,157] o.type #[v,x']).run Tryz.prog w=.ok b w')(c:K (a.put o.dst b) w'):Oper.wp Tryz.prog o a w K Q:=by
 unfold Oper.wp execOp;simp only[d,resolve,invoke,builtin,Sem.run_bind,Sem.run_pure,mY,mP,aM,b8,f,g,e];exact c
theorem qZ(g:Nat)(k i:Int)(t:ByteArray)(B:Option Addr)(D C:Nat)(L aD:Nat)(ma:Option Addr)(w:World)(E:Wd->Int->World->World->Prop)(H:Wd->World->World->Option Addr->Nat->World->Prop)(aQ:g<w.heap.size)(Z:Hid (∀w1,aj w w1->w1.cell? ⟨g,7,none⟩=some (ae ma L aD)))(ad:Hid (∀w0,aj w w0->am 127 #[aB g,.agg #[ab k,ab i,af t,ae B D C]] w0 λe w1=>∃(v:Wd)(h:Int),e=.returned (.tuple #[.agg #[ab v.1,ab v.2],ab h])/\Hid (Up w.heap.size w0 w1/\E v h w0 w1)))(ag:Hid (∀v w0 w1,E v 0 w0 w1->∃q r,Hid (∀w2,aj w1 w2->w2.cell? ⟨g,7,none⟩=some (ae q L r)/\∀j,w2.frozen? ⟨g,j,none⟩=false)/\Hid (∀w2,aj w1 w2->∀(sa:Addr)(c:Nat),(∀j M,(pU v)[j]?=some M->w2.cell? (sa.add j)=some M)-> ∃m n d,(Builtin.append_ #[157,157] 157 #[ae q L r,ae (some sa) 1 c]).run Tryz.prog w2=.ok (ae m (L+1) n) d/\d.cell? ⟨g,7,none⟩=some (ae q L r)/\(∀j,d.frozen? ⟨g,j,none⟩=false)/\(∀b,w1.heap.size<=b->b<w2.heap.size->d.heap[b]?=w2.heap[b]?)/\H v w0 w2 m n d))):am 105 #[aB g,.agg #[ab k,ab i,af t,ae B D C]] w λe w'=> (20<=L->e=.returned (ab 2)/\aj w w')/\(L<20->∃(v:Wd)(h:Int)(w0 w1:World),e=.returned (ab h)/\aj w w0/\E v h w0 w1/\(h≠0->aj w1 w')/\(h=0->∃w2 m n d,aj w1 w2/\H v w0 w2 m n d/\w'=(d.setCell ⟨g,7,none⟩ (ae m (L+1) n)))):=by
 have aa:=aq (xL w (.cells #[ab k,ab i,af t,ae B D C] 28) rfl);have F:Hid (aj w (w.alloc (.cells #[ab k,ab i,af t,ae B D C] 28))/\(w.alloc (.cells #[ab k,ab i,af t,ae B D C] 28)).heap.size=w.heap.size+1):=⟨by go_grown,by simp⟩;go_enter func105,ntmps105;have T:=Z w (ap _ _);rcases Nat.lt_or_ge L 20 with ar|ar
 ·have aw:¬(20:Int)<=(L:Int):=by omega
  have Q:=aq (ad _ F.1);go_wp2_with fail;refine Q.mono ?_;rintro e w1 ⟨v,h,rfl,N⟩;have R:Hid (∃w0,aj w w0/\E v h w0 w1):=⟨_,F.1,N.2⟩;obtain⟨w0,s⟩:=R.out;replace s:=aq s;clear R N Q aa F T;by_cases K:h=0;rotate_left
  ·have aO:¬(0:Int)=h:=λe=>K e.symm;go_wp2_with fail;exact av (v:=ab h) (by simp[results,results105,go_sem]) rfl ⟨λa=>by omega,λ_=>⟨v,h,w0,w1,rfl,s.1,s.2,λ_=>aN,λa=>absurd a K⟩⟩
  ·subst K;obtain⟨q,r,ah,ai⟩:=ag v w0 w1 s.2;have S:Hid (∃w2 f,(w2=w1.alloc (.cells #[ab v.1,ab v.2] 154)/\f=w1.heap.size)/\aj w1 w2/\w2.heap[f]?=some (.cells #[ab v.1,ab v.2] 154)/\w1.heap.size<=f):=⟨_,_,⟨rfl,rfl⟩,aN,aE _ _,ak _⟩;go_wp2_with fail;obtain⟨w2,f,⟨Y,W⟩,o⟩:=S.out;rw[<-Y,<-W];replace o:=aq o;clear Y W S;have z:Hid (∀w':World,aj w2 w'->(w'.cell? ⟨g,7,none⟩=some (ae q L r)/\∀j,w'.frozen? ⟨g,j,none⟩=false)/\w'.cell? ⟨f,0,none⟩=some (ab v.1)/\w'.cell? ⟨f,1,none⟩=some (ab v.2)):=λw' a=>by
    have A:=(a.block f (aF.1 o.2.1).1).trans o.2.1;exact⟨ah _ (o.1.trans (a.mono o.1.size)),au A 0,au A 1⟩
   obtain⟨⟨T,aL⟩,aS,aU⟩:=z.out w2 (ap _ _);have P:Hid (aj w2 w2.drew):=(ap _ _).drew;have y:Hid (aj w2 (w2.alloc (.cells #[ab v.1,ab v.2] 154)).drew):=(show Below _ _ _ by go_grown);have O:Hid (∃m n d,(Builtin.append_ #[157,157] 157 #[ae q L r,ae (some ⟨w2.heap.size,0,none⟩) 1 1]).run Tryz.prog (w2.alloc (.cells #[ab v.1,ab v.2] 154)).drew=.ok (ae m (L+1) n) d/\d.cell? ⟨g,7,none⟩=some (ae q L r)/\(∀j,d.frozen? ⟨g,j,none⟩=false)/\(d.cell? ⟨f,0,none⟩=some (ab v.1)/\d.cell? ⟨f,1,none⟩=some (ab v.2))/\∃G,aj w1 G/\H v w0 G m n d):=by
    have V:=o.1.trans (y.mono o.1.size);have aA:=ru w2 (.cells #[ab v.1,ab v.2] 154) rfl
    obtain⟨m,n,d,aG,aH,aI,aJ,aK⟩:=ai _ V ⟨w2.heap.size,0,none⟩ 1 (λj M az=>by
     rw[eU,dc];refine(au aA j).trans ?_;rw[<-az,<-List.getElem?_toArray]
     rfl)
    have X:=(aF.1 o.2.1).1;have A:=(aJ f o.2.2 (aR X y.size)).trans ((y.block f X).trans o.2.1);exact⟨m,n,d,aG,aH,aI,⟨au A 0,au A 1⟩,_,V,aK⟩
   obtain⟨m,n,d,J,an,ao,aC,I⟩:=O.out;replace J:=aq J;replace I:=aq I;clear O;have x:w2.drew.cell? ⟨g,7,none⟩=some (ae q L r)/\w2.drew.cell? ⟨f,0,none⟩=some (ab v.1)/\w2.drew.cell? ⟨f,1,none⟩=some (ab v.2):=⟨(z _ P).1.1,(z _ P).2⟩;have al:Hid ((w2.alloc (.cells #[ab v.1,ab v.2] 154)).drew.cell? ⟨g,7,none⟩=some (ae q L r)/\(w2.alloc (.cells #[ab v.1,ab v.2] 154)).drew.cell? ⟨f,0,none⟩=some (ab v.1)/\(w2.alloc (.cells #[ab v.1,ab v.2] 154)).drew.cell? ⟨f,1,none⟩=some (ab v.2)):=⟨(z _ y).1.1,(z _ y).2⟩;refine wp_region_noPanic ?_;refine jB (λw'=>w'.cell? ⟨g,7,none⟩=some (ae q L r)/\w'.cell? ⟨f,0,none⟩=some (ab v.1)/\w'.cell? ⟨f,1,none⟩=some (ab v.2)) 10 (by kernel_rfl) ?_
   try simp only[fq]
   refine aT (i:=0) (v:= ?_) rfl (by kernel_rfl) (by kernel_rfl) (by kernel_rfl) (by kernel_rfl) (λ_ _ _ a=>a) rfl ?_ x ?_;rotate_left
   ·intro w' l
    try dsimp only at l
    go_simp
    try with_reducible rfl
   try simp only[Act.put,bY]
   refine aT (i:=1) (v:= ?_) rfl (by kernel_rfl) (by kernel_rfl) (by kernel_rfl) (by kernel_rfl) (λ_ _ _ a=>a) rfl ?_ x ?_;rotate_left
   ·intro w' l
    try dsimp only at l
    go_simp
    try with_reducible rfl
   try simp only[Act.put]
   refine aT (i:=2) (v:= ?_) rfl (by kernel_rfl) (by kernel_rfl) (by kernel_rfl) (by kernel_rfl) (λ_ _ _ a=>a) rfl ?_ x ?_;rotate_left
   ·intro w' l
    try dsimp only at l
    go_simp
    try with_reducible rfl
   try simp only[Act.put]
   refine aT (i:=3) (v:= ?_) rfl (by kernel_rfl) (by kernel_rfl) (by kernel_rfl) (by kernel_rfl) (λ_ _ _ a=>a) rfl ?_ x ?_;rotate_left
   ·intro w' l
    try dsimp only at l
    go_simp
    try with_reducible rfl
   try simp only[Act.put]
   refine aT (i:=4) (v:= ?_) rfl (by kernel_rfl) (by kernel_rfl) (by kernel_rfl) (by kernel_rfl) (λ_ _ _ a=>a) rfl ?_ x ?_;rotate_left
   ·intro w' l
    try dsimp only at l
    go_simp
    try with_reducible rfl
   try simp only[Act.put]
   refine aT (i:=5) (v:= ?_) rfl (by kernel_rfl) (by kernel_rfl) (by kernel_rfl) (by kernel_rfl) (λ_ _ _ a=>a) rfl ?_ x ?_;rotate_left
   ·intro w' l
    try dsimp only at l
    go_simp
    try with_reducible rfl
   try simp only[Act.put]
   refine cT (i:=6) (by kernel_rfl) rfl rfl (λu p=>?_) (by decide)
   go_simp
   refine p _ _ (λ_=>al) (λaP=>?_);clear p u
   try simp only[Act.put,bY,dj,di]
   refine cT (i:=7) (by kernel_rfl) rfl rfl (λu p=>?_) (by decide);refine wZ (v:=ae q L r) (x':=ae (some ⟨w2.heap.size,0,none⟩) 1 1) _ _ rfl (by simp[Act.eval]) (by simp[Act.eval]) J ?_;refine p _ _ (λ_=>⟨an,aC⟩) (λU=>?_);clear p u
   try simp only[Act.put,bY]
   refine cT (i:=8) (by kernel_rfl) rfl rfl (λu p=>?_) (by decide)
   go_simp
   refine p _ _ (λ_=>U) (λ_=>?_);clear p u
   try simp only[Act.put,bY,dj,di]
   refine aT (i:=9) (v:= ?_) rfl (by kernel_rfl) (by kernel_rfl) (by kernel_rfl) (by kernel_rfl) (λ_ _ _ a=>a) rfl ?_ U ?_;rotate_left
   ·intro w' l
    try dsimp only at l
    go_simp
    try with_reducible rfl
   try simp only[Act.put,bY]
   have aM:=ao 7;refine jA (by kernel_rfl) rfl rfl (by kernel_rfl) (λu p=>?_)
   go_simp
   refine p _ _ (NoPanic.normal ?_);clear p u
   try simp only[Act.put,bY,dj,di]
   go_wp2_with fail;obtain⟨G,ax,ay⟩:=I;exact av (v:=ab 0) (by simp[results,results105,go_sem]) rfl ⟨λa=>by omega,λ_=>⟨v,0,w0,w1,rfl,s.1,s.2,λa=>absurd rfl a,λ_=>⟨G,m,n,d,ax,ay,rfl⟩⟩⟩
 ·have aw:(20:Int)<=(L:Int):=by omega
  go_wp2_with fail;exact av (v:=ab 2) (by simp[results,results105,go_sem]) rfl ⟨λ_=>⟨rfl,F.1⟩,λa=>by omega⟩
end Go.Proofs.YtmmahddlcldmiaaGreatDoor
