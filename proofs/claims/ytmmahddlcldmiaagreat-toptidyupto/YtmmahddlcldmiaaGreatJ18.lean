/- Proved here: plain facts and contracts. No condition but what each names. -/
import Derived.Test.YtmmahddlcldmiaaGreatJ17
namespace Go.Proofs.YtmmahddlcldmiaaGreat
open Go.RowKit Go.Proofs.Tryz
set_option maxHeartbeats 2000000
set_option maxRecDepth 100000
def zT(N:Nat):Tm (N+1):=((0,0,.empty),(none,0),[])
def lP(n:Nat)(p:List (Bh (n+1))):Int:=if kA (n+1) p then bz (n+6) (bW n p)else 5
def KY(n:Nat)(p:List (Bh (n+1))):Tm (n+6):=if lP n p=0 then bW n p else zT (n+5)
def IT(B n:Nat)(p:List (Bh (n+1)))(w:World)(e:Ending)(w':World):Prop:=
 ∃a:Tm (n+6),e=.returned (.tuple #[dq (n+6) a,ab (lP n p)])/\Hid (aj w w'/\In w'.heap.size w' (n+6) a/\ch (λb=>b<B\/w.heap.size<=b) (n+6) a/\ax (n+6) a (n+6) (KY n p)=true)
theorem lA(N B:Nat)(w:World):In B w (N+1) (zT N):=⟨⟨by simp[zT,dx],by simp[zT,dx],aH _,by simp[zT],by simp[zT]⟩,ah rfl⟩
theorem FC{B n:Nat}{p:List (Bh (n+1))}{w w':World}{k:Int}(b:aj w w')(c:k=lP n p)(a:¬k=0):IT B n p w (.returned (.tuple #[.agg #[ab 0,ab 0,af .empty,ae none 0 0],ab k])) w':=by
 subst c;refine⟨zT (n+5),rfl,b,lA _ _ _,ah rfl,?_⟩;unfold KY;rw[if_neg a];exact lL (lA _ 0 w)
theorem xK{n:Nat}{p:List (Bh n)}(a:kA n p=true):p.length<=7/\∀b∈p,b.2.2.length<=6/\∀c∈b.2.2,c.2.2.length<=8:=by
 simp only[kA,wC,tE,aG,cd,ci]at a;refine⟨by omega,λb d=>⟨by have:=(a.2 b d).1.2;omega,λc e=>by have:=((a.2 b d).2 c e).1;omega⟩⟩
theorem qX(w:World)(v0 v1 v2 v3:Value)(t:TypeId){w':World}(a:Below (w.alloc (.cells #[v0,v1,v2,v3] t)).heap.size (w.alloc (.cells #[v0,v1,v2,v3] t)) w'):w'.heap[w.heap.size]?=some (.cells #[v0,v1,v2,v3] t):=
 (a.block _ (by simp)).trans (aA w _)
theorem KZ(n:Nat)(p:List (Bh (n+1)))(a:Option Addr)(pc:Nat)(ar:p.length<=pc)(ag:pc<=maxLen)(B:Nat)(w:World)(L:gh (n+1) B w a p)(A:B<=w.heap.size)(ad:kA (n+1) p=true->(ay (n+6) (bW n p)).length<=2097152):ak 37 #[ae a p.length pc] w (IT B n p w):=by
 have Q:Hid (∀f,aj w f->ak 65 #[ae a p.length pc] f λk m=>k=.returned (.bool (kA (n+1) p))/\aj f m):=
  λf s=>pQ n p p.length rfl a pc B f (L.below (s.mono A)) (by unfold maxLen at ag;omega) (az A s.size)
 have G:Hid (kA (n+1) p=true->∀f,aj w f->ak 66 #[ae a p.length pc] f (iJ B (n+6) (bW n p) f)):=
  λs f z=>tS n p a pc B f (L.below (z.mono A)) (xK s).1 (xK s).2 (az A z.size)
 have x:Hid (lP n p=if kA (n+1) p then bz (n+6) (bW n p)else 5):=rfl;have R:=ap ad;have T:Hid (KY n p=if lP n p=0 then bW n p else zT (n+5)):=rfl;clear L ad ar ag;generalize p.length=len at*;generalize kA (n+1) p=aD at*;go_enter func37,ntmps37;go_wp2_with fail;refine(Q _ aO).mono ?_;rintro k f ⟨rfl,J⟩;have h:=ap (qX w _ _ _ _ _ J);have r:Hid (aj w f):=aO.trans (J.mono (by simp));have aw:w.heap.size<f.heap.size:=(aF.1 h).1;clear J Q;cases aD
 ·have d0:f.cell? ⟨w.heap.size,0,none⟩=some (ab 0):=au h 0;have d1:f.cell? ⟨w.heap.size,1,none⟩=some (ab 0):=au h 1;have d2:f.cell? ⟨w.heap.size,2,none⟩=some (af ⟨#[]⟩):=au h 2;have d3:f.cell? ⟨w.heap.size,3,none⟩=some (ae none 0 0):=au h 3;have f0:=λu=>cV h u;clear G h;go_wp2_with fail;exact av (v:=.tuple #[.agg #[ab 0,ab 0,af .empty,ae none 0 0],ab 5]) (by simp[results,results37,go_sem,d0,d1,d2,d3];rfl) rfl (FC (dJ r (am _)) (by rw[x.out];rfl) (by omega))
 ·have S:=ap (G rfl f r);go_wp2_with fail;refine S.mono ?_;rintro k g ⟨d,rfl,j⟩;have M:Hid (aj w g):=r.trans (j.1.mono r.size);have Y:dq (n+6) d=.agg #[ab d.1.1,ab d.1.2.1,af d.1.2.2,ae d.2.1.1 d.2.2.length d.2.1.2]:=rfl;have O:Hid (∀e,aj g e->ak 53 #[.agg #[ab d.1.1,ab d.1.2.1,af d.1.2.2,ae d.2.1.1 d.2.2.length d.2.1.2]] e λk m=>k=.returned (ab (lP n p))/\aj e m):=λe t=>by
   have:=dL (n+6) d g.heap.size e (j.2.1.below t) t.size (by rw[kD _ _ _ _ j.out.2.2.2];exact R (by simp));rw[bQ j.out.2.2.2]at this;rw[x.out];exact this
  have F:Hid (lP n p=0->∀e,aj g e->ak 56 #[.agg #[ab d.1.1,ab d.1.2.1,af d.1.2.2,ae d.2.1.1 d.2.2.length d.2.1.2]] e λk m=>∃c:Tm (n+6),k=.returned (dq (n+6) c)/\Hid (aj e m/\In m.heap.size m (n+6) c/\ch (λaC=>e.heap.size<=aC) (n+6) c/\ax (n+6) c (n+6) d=true)):=λao e t=>
   ij (n+6) d g.heap.size e (j.2.1.below t) t.size (aM.2 (by have z:bz (n+6) (bW n p)=0:=(by simpa [x.out]using ao);rw[jB _ _ _ _ j.out.2.2.2];exact(bB.1 z).1))
  have an:=ap j.2.2.2;have H:=ap ((j.1.block _ aw).trans h);have aA:w.heap.size<g.heap.size:=(aF.1 H).1;rw[Y];clear G S h r j Y R;generalize aa:lP n p=C at*;have P:=ap aa;clear aa x;go_wp2_with fail;refine(O _ aO).mono ?_;rintro k e ⟨rfl,K⟩;have E:Hid (aj g e):=aO.trans (K.mono (by simp));have D:Hid (aj w e):=M.trans (E.mono M.size);have y:=ap (qX g _ _ _ _ _ K);have i:=ap ((E.block _ aA).trans H);have aB:w.heap.size<e.heap.size:=(aF.1 i).1;have U:e.cell? ⟨g.heap.size,0,none⟩=some (ab d.1.1):=au y 0;have V:e.cell? ⟨g.heap.size,1,none⟩=some (ab d.1.2.1):=au y 1;have W:e.cell? ⟨g.heap.size,2,none⟩=some (af d.1.2.2):=au y 2;have X:e.cell? ⟨g.heap.size,3,none⟩=some (ae d.2.1.1 d.2.2.length d.2.1.2):=au y 3;clear K O H;by_cases I:C=0
  ·subst I;have ah:=ap (F rfl e E);clear F;go_wp2_with fail;refine ah.mono ?_;rintro k q ⟨c,rfl,l⟩;have o:=ap ((l.1.block _ aB).trans i);have N:Hid (aj w q):=D.trans (l.1.mono D.size);have d0:q.cell? ⟨w.heap.size,0,none⟩=some (ab 0):=au o 0;have d1:q.cell? ⟨w.heap.size,1,none⟩=some (ab 0):=au o 1;have d2:q.cell? ⟨w.heap.size,2,none⟩=some (af ⟨#[]⟩):=au o 2;have d3:q.cell? ⟨w.heap.size,3,none⟩=some (ae none 0 0):=au o 3;have f0:=λu=>cV o u;have Z:dq (n+6) c=.agg #[ab c.1.1,ab c.1.2.1,af c.1.2.2,ae c.2.1.1 c.2.2.length c.2.1.2]:=rfl;rw[Z];have al:Hid (IT B n p w (.returned (.tuple #[.agg #[ab c.1.1,ab c.1.2.1,af c.1.2.2,ae c.2.1.1 c.2.2.length c.2.1.2],ab 0])) (dd q w.heap.size 0 (ab c.1.1) (ab c.1.2.1) (af c.1.2.2) (ae c.2.1.1 c.2.2.length c.2.1.2))):=by
    refine⟨c,by rw[P.out];rfl,dJ N (am _),?_,l.2.2.1.mono λb aq=>ai (by omega),?_⟩
    ·rw[br];exact In.off (λb aq=>aX (by omega) _ _ _ _) l.2.2.1 l.2.1
    ·rw[show KY n p=bW n p from by simpa using T.out];exact bH _ _ _ _ _ _ l.2.2.2 an
   clear o i l N U V W X Z T;go_wp2_with fail;exact av (v:=.tuple #[.agg #[ab c.1.1,ab c.1.2.1,af c.1.2.2,ae c.2.1.1 c.2.2.length c.2.1.2],ab 0]) (by simp[results,results37,go_sem,d0,d1,d2,d3]) rfl al
  ·have d0:e.cell? ⟨w.heap.size,0,none⟩=some (ab 0):=au i 0;have d1:e.cell? ⟨w.heap.size,1,none⟩=some (ab 0):=au i 1;have d2:e.cell? ⟨w.heap.size,2,none⟩=some (af ⟨#[]⟩):=au i 2;have d3:e.cell? ⟨w.heap.size,3,none⟩=some (ae none 0 0):=au i 3;have f0:=λu=>cV i u;have aE:(C !=0)=true:=by simpa using I
   clear i F U V W X;go_wp2_with fail;exact av (v:=.tuple #[.agg #[ab 0,ab 0,af .empty,ae none 0 0],ab C]) (by simp[results,results37,go_sem,d0,d1,d2,d3];rfl) rfl (FC (dJ D (am _)) P.symm I)
theorem en.ownAt{N B base k:Nat}{xs:List (Tm N)}{v:Value}{w0 wr W:World}(a:en N B base xs v w0 wr)(c:xs.length=k)(b:aj wr W):W.ownsRow base 31 4 v k (xs.flatMap (iq N)):=by
 subst c;exact dT a.2.1 b
theorem en.appAt{N B base k:Nat}{xs:List (Tm N)}{v:Value}{w0 wr W w4:World}{g c:Nat}(d:en N B base xs v w0 wr)(n:xs.length=k)(f:B<=base)(l:base<=wr.heap.size)(e:aj wr W)(a:Tm N)(i:In W.heap.size W N a)(h:ch (λb=>b<B\/wr.heap.size<=b) N a)(o:w4.ownsRow base 31 4 (ae (some ⟨g,0,none⟩) (k+1) c) (k+1) (xs.flatMap (iq N)++iq N a))(m:W.grownBy w4 v.ownBlock)(j:v.ownBlock=some g\/g=W.heap.size):en N B base (xs++ [a]) (ae (some ⟨g,0,none⟩) (k+1) c) w0 w4:=by
 subst n;exact fl.step (dY N) d f l e a i h o m j
theorem rB(a:World)(o:Obj){g:Nat}(b:g=a.heap.size):(a.alloc o).drew.heap[g]?=some o:=by
 subst b;exact aA a o
theorem xB(a:World)(o:Obj){g:Nat}(b:g=a.heap.size):(a.alloc o).heap[g]?=some o:=by
 subst b;exact aA a o
def PL(b:Nat)(name:ByteArray)(a:Wd)(mv:Value):cw:=⟨b,1,[af name],[ab a.1,ab a.2,mv],111⟩
def jK(Mh:Nat->Prop)(ma:Option Addr)(vs:List Wd)(a:Nat)(w:World):Prop:=
 (ma=none/\vs=[]/\a=0)\/∃c d b,ma=some ⟨c,d,none⟩/\¬Mh c/\w.heap[c]?=some (.cells b 109 (0,0))/\vs.length<=a/\a<=maxLen/\d+a*2<=b.size/\(b.toList.drop d).take (vs.length*2)=aY vs
def jX(N:Nat)(ws:List Wd)(nm:List ByteArray)(room:Int)(b:List Wd)(a:List (Tm N)):Prop:=
 gF ws nm N b a/\(b.flatMap (oY ws N)).Nodup/\(∀c∈a,bz N c=0/\aL N c=true)/\(a.map (sz N)).sum<=(ws.length:Int)/\(ws.length:Int)<=room/\0<=room/\room<=1000/\nm.Nodup
structure cH (base pb:Nat) (name:ByteArray) (room:Int) (N:Nat) (s:Tm N) (ms:List (Tm N)) (xs:List (Wd×Tm N)) (nk:Nat) (M:Nat->Prop) (w:World) (ws:List Wd) (nm:List ByteArray) (sv:Wd) (vs:List Wd) (ma:Option Addr) (mc:Nat) (Mh:Nat->Prop):Prop where
 heap:dH base (PL pb name sv (ae ma vs.length mc)) room ws nm Mh w
 mail:jK Mh ma vs mc w
 has:jX N ws nm room (sv::vs++xs.map (·.1)) (s::ms++xs.map (·.2))
 len:vs.length=ms.length
 names:nm.length<=nk
 inM:∀b,Mh b->M b
 mailM:∀a,ma=some a->M a.block
theorem dH.box{base:Nat}{b:cw}{room:Int}{ws:List Wd}{nm:List ByteArray}{M:Nat->Prop}{w:World}(e:dH base b room ws nm M w):∃tv lv mv,HB b room tv lv mv w/\∃h i,tv=ae h ws.length i:=by
 obtain⟨tv,lv,mv,f,g,_⟩:=e;refine⟨tv,lv,mv,f,?_⟩;rcases g.2 with⟨a,d⟩|⟨k,c,j,a,_⟩
 ·exact⟨none,0,by rw[a,d]⟩
 ·exact⟨_,c,a⟩
theorem PL.cells{a:Nat}{name:ByteArray}{b:Wd}{mv:Value}{room:Int}{tv lv mp:Value}{w:World}(d:HB (PL a name b mv) room tv lv mp w):w.cell? ⟨a,0,none⟩=some (af name)/\w.cell? ⟨a,5,none⟩=some (ab b.1)/\w.cell? ⟨a,5+1,none⟩=some (ab b.2)/\w.cell? ⟨a,7,none⟩=some mv/\(∀j,w.frozen? ⟨a,j,none⟩=false)/\a<w.heap.size:=by
 have c:w.heap[a]?=some (.cells #[af name,ab room,tv,lv,mp,ab b.1,ab b.2,mv] 111):=d.2;refine⟨?_,?_,?_,?_,λj=>?_,(aF.1 c).1⟩
 all_goals simp[World.cell?,World.frozen?,c]
def nj(N:Nat)(x:Tm N)(w:World)(e:Ending)(w':World):Prop:=∃y:Tm N,e=.returned (dq N y)/\Hid (aj w w'/\In w'.heap.size w' N y/\ch (λq=>w.heap.size<=q) N y/\ax N y N x=true)
theorem Hl(P N:Nat)(x:Tm (N+1))(v:Wd)(w:World)(K:Hid (∀w1,aj w w1->ak 99 #[.pointer (some ⟨P,1,none⟩),.agg #[ab v.1,ab v.2]] w1 λe w'=>∃y:Tm (N+1),e=.returned (.tuple #[.agg #[ab y.1.1,ab y.1.2.1,af y.1.2.2,ae y.2.1.1 y.2.2.length y.2.1.2],ab 0])/\Hid (aj w1 w'/\In w'.heap.size w' (N+1) y/\ch (λq=>w1.heap.size<=q) (N+1) y/\ax (N+1) y (N+1) x=true))):ak 64 #[aC P,.agg #[ab v.1,ab v.2]] w (nj (N+1) x w):=by
 go_enter func64,ntmps64;go_wp2_with fail;have B:=ap (km w (.cells #[ab v.1,ab v.2] 109) (.cells #[ab 0,ab 0,af ⟨#[]⟩,ae none 0 0] 31));have f:Hid (aj w ((w.alloc (.cells #[ab v.1,ab v.2] 109)).alloc (.cells #[ab 0,ab 0,af ⟨#[]⟩,ae none 0 0] 31))/\((w.alloc (.cells #[ab v.1,ab v.2] 109)).alloc (.cells #[ab 0,ab 0,af ⟨#[]⟩,ae none 0 0] 31)).heap.size=w.heap.size+1+1):=⟨by go_grown,by simp⟩;generalize M:(w.alloc _).alloc _=a;rw[M]at B f;clear M;have T:a.heap.size=w.heap.size+1+1:=f.2;have p:Hid (∀w',aj a w'->w'.cell? ⟨w.heap.size,0,none⟩=some (ab v.1)/\w'.cell? ⟨w.heap.size,1,none⟩=some (ab v.2)):=λw' S=>by
  have L:=(S.block w.heap.size (by omega)).trans B.1;exact⟨au L 0,au L 1⟩
 obtain⟨an,aq⟩:=p.out a (ao _ _);have z:Hid (aj a a.drew):=(ao _ _).drew;have A:Hid (aj a (a.alloc (.cells #[ab 0,ab 0,af ⟨#[]⟩,ae none 0 0] 31)).drew):=(show Below _ _ _ by go_grown);have F:Hid ((a.alloc (.cells #[ab 0,ab 0,af ⟨#[]⟩,ae none 0 0] 31)).drew.heap[a.heap.size]?=some (.cells #[ab 0,ab 0,af ⟨#[]⟩,ae none 0 0] 31)/\(a.alloc (.cells #[ab 0,ab 0,af ⟨#[]⟩,ae none 0 0] 31)).drew.heap.size=a.heap.size+1):=⟨rB a _ rfl,by simp⟩;clear T
 go_region_held3 (λw'=>w'.cell? ⟨w.heap.size,0,none⟩=some (ab v.1)/\w'.cell? ⟨w.heap.size,1,none⟩=some (ab v.2)) (first|(go_keep;done)|with_reducible exact p _ z|with_reducible exact p _ A|exact p _ h|exact E _|exact Q _ _ _ _|exact R _ _ _ _ _)
  ((first
   | (go_at_call 99;refine(K _ (f.1.trans (z.mono f.1.size))).mono ?_;rintro e w1 ⟨y,rfl,l⟩;have h:=ap (z.trans (l.1.mono z.size));have E:Hid (∀o:Obj,(w1.alloc o).cell? ⟨w.heap.size,0,none⟩=some (ab v.1)/\(w1.alloc o).cell? ⟨w.heap.size,1,none⟩=some (ab v.2)):=λo=>p _ (h.trans (aO.mono h.size));have R:Hid (∀(o:Obj)(m b c n:Value),(dd (w1.alloc o) w1.heap.size 0 m b c n).cell? ⟨w.heap.size,0,none⟩=some (ab v.1)/\(dd (w1.alloc o) w1.heap.size 0 m b c n).cell? ⟨w.heap.size,1,none⟩=some (ab v.2)):=λo m b c n=>by have am:=h.size;have D:=f.2;exact⟨(bw (aX (by omega) m b c n) 0).trans (E o).1,(bw (aX (by omega) m b c n) 1).trans (E o).2⟩)
   | (go_at_call 99;refine(K _ (f.1.trans (A.mono f.1.size))).mono ?_;rintro e w1 ⟨y,rfl,l⟩;have h:=ap (A.trans (l.1.mono A.size));have r:=ap ((l.1.block _ (by have:=F.2;omega)).trans F.1);have ad:w1.cell? ⟨a.heap.size,0,none⟩=some (ab 0):=au r 0;have ag:w1.cell? ⟨a.heap.size,1,none⟩=some (ab 0):=au r 1;have ah:w1.cell? ⟨a.heap.size,2,none⟩=some (af ⟨#[]⟩):=au r 2;have ai:w1.cell? ⟨a.heap.size,3,none⟩=some (ae none 0 0):=au r 3;have al:=λu=>cV r u;have Q:Hid (∀m b c n:Value,(dd w1 a.heap.size 0 m b c n).cell? ⟨w.heap.size,0,none⟩=some (ab v.1)/\(dd w1 a.heap.size 0 m b c n).cell? ⟨w.heap.size,1,none⟩=some (ab v.2)):=λm b c n=>⟨(bw (aX (by have:=f.2;omega) m b c n) 0).trans (p _ h).1,(bw (aX (by have:=f.2;omega) m b c n) 1).trans (p _ h).2⟩)))
 ·have D:=f.2;have i:Hid ((w1.alloc (.cells #[ab y.1.1,ab y.1.2.1,af y.1.2.2,ae y.2.1.1 y.2.2.length y.2.1.2] 31)).heap[w.heap.size+1]?=some (.cells #[ab 0,ab 0,af ⟨#[]⟩,ae none 0 0] 31)):=(aO.block _ (by have:=h.size;omega)).trans ((h.block _ (by omega)).trans B.2);have k:Hid ((w1.alloc (.cells #[ab y.1.1,ab y.1.2.1,af y.1.2.2,ae y.2.1.1 y.2.2.length y.2.1.2] 31)).heap[w1.heap.size]?=some (.cells #[ab y.1.1,ab y.1.2.1,af y.1.2.2,ae y.2.1.1 y.2.2.length y.2.1.2] 31)):=aA _ _;have j:Hid (aj w (w1.alloc (.cells #[ab y.1.1,ab y.1.2.1,af y.1.2.2,ae y.2.1.1 y.2.2.length y.2.1.2] 31))/\In (w1.alloc (.cells #[ab y.1.1,ab y.1.2.1,af y.1.2.2,ae y.2.1.1 y.2.2.length y.2.1.2] 31)).heap.size (w1.alloc (.cells #[ab y.1.1,ab y.1.2.1,af y.1.2.2,ae y.2.1.1 y.2.2.length y.2.1.2] 31)) (N+1) y/\ch (λq=>w.heap.size+2<=q) (N+1) y):=⟨(f.1.trans (h.mono f.1.size)).trans (aO.mono (f.1.trans (h.mono f.1.size)).size),(l.2.1.below aO).mono (by simp),l.2.2.1.mono λq (C:a.heap.size<=q)=>by omega⟩;have s:Hid (∃d,d=(w1.alloc (.cells #[ab y.1.1,ab y.1.2.1,af y.1.2.2,ae y.2.1.1 y.2.2.length y.2.1.2] 31))):=⟨_,rfl⟩;obtain⟨d,t⟩:=s.out;rw[<-t]at i k j ⊢;clear t s D;have G:d.cell? ⟨w.heap.size+1,0,none⟩=some (ab 0):=au i 0;have H:d.cell? ⟨w.heap.size+1,1,none⟩=some (ab 0):=au i 1;have I:d.cell? ⟨w.heap.size+1,2,none⟩=some (af ⟨#[]⟩):=au i 2;have J:d.cell? ⟨w.heap.size+1,3,none⟩=some (ae none 0 0):=au i 3;have Z:=λu=>cV i u;have V:d.cell? ⟨w1.heap.size,0,none⟩=some (ab y.1.1):=au k 0;have W:d.cell? ⟨w1.heap.size,1,none⟩=some (ab y.1.2.1):=au k 1;have X:d.cell? ⟨w1.heap.size,2,none⟩=some (af y.1.2.2):=au k 2;have Y:d.cell? ⟨w1.heap.size,3,none⟩=some (ae y.2.1.1 y.2.2.length y.2.1.2):=au k 3;go_wp2_with fail;refine av (v:=.agg #[ab y.1.1,ab y.1.2.1,af y.1.2.2,ae y.2.1.1 y.2.2.length y.2.1.2]) (by simp[results,results64,go_sem,G,H,I,J]) rfl ?_;refine⟨y,rfl,dJ j.1 (by omega),?_,j.2.2.mono λq C=>by omega,l.2.2.2⟩;have e:=In.off (w':=dd d (w.heap.size+1) 0 (ab y.1.1) (ab y.1.2.1) (af y.1.2.2) (ae y.2.1.1 y.2.2.length y.2.1.2)) (λb (O:w.heap.size+2<=b)=>aX (by omega) _ _ _ _) j.2.2 j.2.1;rw[<-br (w:=d) (g:=w.heap.size+1) (o:=0) (ab y.1.1) (ab y.1.2.1) (af y.1.2.2) (ae y.2.1.1 y.2.2.length y.2.1.2)]at e;exact e
 ·have D:=f.2;have U:=F.2;have i:Hid ((dd w1 a.heap.size 0 (ab y.1.1) (ab y.1.2.1) (af y.1.2.2) (ae y.2.1.1 y.2.2.length y.2.1.2)).heap[w.heap.size+1]?=some (.cells #[ab 0,ab 0,af ⟨#[]⟩,ae none 0 0] 31)):=(aX (by omega) _ _ _ _).trans ((h.block _ (by omega)).trans B.2)
  have k:Hid ((dd w1 a.heap.size 0 (ab y.1.1) (ab y.1.2.1) (af y.1.2.2) (ae y.2.1.1 y.2.2.length y.2.1.2)).heap[a.heap.size]?=some (.cells #[ab y.1.1,ab y.1.2.1,af y.1.2.2,ae y.2.1.1 y.2.2.length y.2.1.2] 31)):=(by
   show _=_
   simp[dd,World.setCell,bJ,r.out])
  have j:Hid (aj w (dd w1 a.heap.size 0 (ab y.1.1) (ab y.1.2.1) (af y.1.2.2) (ae y.2.1.1 y.2.2.length y.2.1.2))/\In (dd w1 a.heap.size 0 (ab y.1.1) (ab y.1.2.1) (af y.1.2.2) (ae y.2.1.1 y.2.2.length y.2.1.2)).heap.size (dd w1 a.heap.size 0 (ab y.1.1) (ab y.1.2.1) (af y.1.2.2) (ae y.2.1.1 y.2.2.length y.2.1.2)) (N+1) y/\ch (λq=>w.heap.size+2<=q) (N+1) y):=by
   refine⟨dJ (f.1.trans (h.mono f.1.size)) (by omega),?_,l.2.2.1.mono λq C=>?_⟩
   ·rw[br];exact In.off (λb (O:(a.alloc (.cells #[ab 0,ab 0,af ⟨#[]⟩,ae none 0 0] 31)).drew.heap.size<=b)=>aX (by omega) _ _ _ _) l.2.2.1 l.2.1
   ·have aa:(a.alloc (.cells #[ab 0,ab 0,af ⟨#[]⟩,ae none 0 0] 31)).drew.heap.size<=q:=C;omega
  have s:Hid (∃d,d=(dd w1 a.heap.size 0 (ab y.1.1) (ab y.1.2.1) (af y.1.2.2) (ae y.2.1.1 y.2.2.length y.2.1.2))):=⟨_,rfl⟩;obtain⟨d,t⟩:=s.out;change Exit.then _ _ Exit.normal _ (dd w1 a.heap.size 0 (ab y.1.1) (ab y.1.2.1) (af y.1.2.2) (ae y.2.1.1 y.2.2.length y.2.1.2));rw[<-t]at i k j ⊢;clear t s D U;have G:d.cell? ⟨w.heap.size+1,0,none⟩=some (ab 0):=au i 0;have H:d.cell? ⟨w.heap.size+1,1,none⟩=some (ab 0):=au i 1;have I:d.cell? ⟨w.heap.size+1,2,none⟩=some (af ⟨#[]⟩):=au i 2;have J:d.cell? ⟨w.heap.size+1,3,none⟩=some (ae none 0 0):=au i 3;have Z:=λu=>cV i u;have V:d.cell? ⟨a.heap.size,0,none⟩=some (ab y.1.1):=au k 0;have W:d.cell? ⟨a.heap.size,1,none⟩=some (ab y.1.2.1):=au k 1;have X:d.cell? ⟨a.heap.size,2,none⟩=some (af y.1.2.2):=au k 2;have Y:d.cell? ⟨a.heap.size,3,none⟩=some (ae y.2.1.1 y.2.2.length y.2.1.2):=au k 3;go_wp2_with fail;refine av (v:=.agg #[ab y.1.1,ab y.1.2.1,af y.1.2.2,ae y.2.1.1 y.2.2.length y.2.1.2]) (by simp[results,results64,go_sem,G,H,I,J]) rfl ?_;refine⟨y,rfl,dJ j.1 (by omega),?_,j.2.2.mono λq C=>by omega,l.2.2.2⟩;have e:=In.off (w':=dd d (w.heap.size+1) 0 (ab y.1.1) (ab y.1.2.1) (af y.1.2.2) (ae y.2.1.1 y.2.2.length y.2.1.2)) (λb (O:w.heap.size+2<=b)=>aX (by omega) _ _ _ _) j.2.2 j.2.1;rw[<-br (w:=d) (g:=w.heap.size+1) (o:=0) (ab y.1.1) (ab y.1.2.1) (af y.1.2.2) (ae y.2.1.1 y.2.2.length y.2.1.2)]at e;exact e
theorem oL{n:Nat}{x:Tm n}(a:bz n x=0):aD ⟨n,x⟩:=aM.2 (bB.1 a).1
section
variable {base pb:Nat} {name:ByteArray} {room:Int} {N:Nat} {s:Tm (N+1)} {ms:List (Tm (N+1))} {xs:List (Wd×Tm (N+1))} {nk:Nat} {M:Nat->Prop} {w:World} {ws:List Wd} {nm:List ByteArray} {sv:Wd} {vs:List Wd} {ma:Option Addr} {mc:Nat} {Mh:Nat->Prop}
theorem cH.later(a:cH base pb name room (N+1) s ms xs nk M w ws nm sv vs ma mc Mh){w1:World}(c:aj w w1):cH base pb name room (N+1) s ms xs nk M w1 ws nm sv vs ma mc Mh:=by
 refine⟨(a.heap.later c).mono λb c=>c.1,?_,a.has,a.len,a.names,a.inM,a.mailM⟩;rcases a.mail with g|⟨e,k,f,h,i,d,j⟩
 ·exact ah g
 ·exact ai ⟨e,k,f,h,i,(c.block e (aF.1 d).1).trans d,j⟩
theorem cH.read(a:cH base pb name room (N+1) s ms xs nk M w ws nm sv vs ma mc Mh)(k:nk<=50000){i:Nat}{v:Wd}{x:Tm (N+1)}(e:(sv::vs++xs.map (·.1))[i]?=some v)(c:(s::ms++xs.map (·.2))[i]?=some x):ak 64 #[aC pb,.agg #[ab v.1,ab v.2]] w (nj (N+1) x w):=by
 obtain⟨f,l,g,m,n,o,p,q⟩:=a.has;have b:=g x (aJ c);have j:=a.names;exact Hl pb N x v w λh d=>JJ (N+1) x v base (PL pb name sv (ae ma vs.length mc)) room ws nm Mh h ((a.later d).heap) (f.2 i v x e c) (oL b.1) b.2 (by omega) (by omega)
end
theorem El(e N:Nat)(x:Tm (N+1))(v:Wd)(w:World)(y:e<w.heap.size)(m:w.cell? ⟨e,5,none⟩=some (ab v.1))(n:w.cell? ⟨e,5+1,none⟩=some (ab v.2))(l:Hid (∀w1,aj w w1->ak 64 #[aC e,.agg #[ab v.1,ab v.2]] w1 (nj (N+1) x w1))):ak 34 #[aC e] w (nj (N+1) x w):=by
 go_enter func34,ntmps34;go_wp2_with fail;refine(l _ aO).mono ?_;rintro f w1 ⟨a,rfl,d⟩;rw[show dq (N+1) a=.agg #[ab a.1.1,ab a.1.2.1,af a.1.2.2,ae a.2.1.1 a.2.2.length a.2.1.2]from rfl];have c:=ap (qX w _ _ _ _ _ d.1);have k:Hid (aj w w1):=aO.trans (d.1.mono (by simp));have q:w1.cell? ⟨w.heap.size,0,none⟩=some (ab 0):=au c 0;have r:w1.cell? ⟨w.heap.size,1,none⟩=some (ab 0):=au c 1;have s:w1.cell? ⟨w.heap.size,2,none⟩=some (af ⟨#[]⟩):=au c 2;have t:w1.cell? ⟨w.heap.size,3,none⟩=some (ae none 0 0):=au c 3;have z:=λp=>cV c p;clear m n;go_wp2_with fail;refine av (v:=.agg #[ab a.1.1,ab a.1.2.1,af a.1.2.2,ae a.2.1.1 a.2.2.length a.2.1.2]) (by simp[results,results34,go_sem,q,r,s,t]) rfl ?_;have i:ch (λh=>w.heap.size+1<=h) (N+1) a:=d.2.2.1.mono λh j=>by simpa using j
 refine⟨a,rfl,dJ k (am _),?_,i.mono λh j=>by omega,d.2.2.2⟩;have f:=In.off (w':=dd w1 w.heap.size 0 (ab a.1.1) (ab a.1.2.1) (af a.1.2.2) (ae a.2.1.1 a.2.2.length a.2.1.2)) (λb (u:w.heap.size+1<=b)=>aX (by omega) _ _ _ _) i d.2.1;rw[<-br (w:=w1) (g:=w.heap.size) (o:=0) (ab a.1.1) (ab a.1.2.1) (af a.1.2.2) (ae a.2.1.1 a.2.2.length a.2.1.2)]at f;exact f
theorem jK.word{Mh:Nat->Prop}{ma:Option Addr}{vs:List Wd}{n:Nat}{w:World}(b:jK Mh ma vs n w){i:Nat}{v:Wd}(c:vs[i]?=some v):∃g a,ma=some ⟨g,a,none⟩/\g<w.heap.size/\w.cell? ⟨g,a+i*2,none⟩=some (ab v.1)/\w.cell? ⟨g,a+i*2+1,none⟩=some (ab v.2):=by
 rcases b with⟨_,h,_⟩|⟨g,a,p,j,_,e,q,_,r,m⟩
 ·rw[h]at c;simp at c
 ·have s:=(aS.1 c).1;have f:∀(l:List Wd)(i:Nat)(v:Wd),l[i]?=some v->(aY l)[i*2]?=some (ab v.1)/\(aY l)[i*2+1]?=some (ab v.2):=by
   intro l
   induction l with
   | nil=>intro i v b;simp at b
   | cons o l ih=>
    intro i v b;cases i with
    | zero=>simp at b;subst b;simp[aY,pX]
    | succ i=>
     have:=ih i v (by simpa using b);simp only[aY,bF,pX]at this ⊢;rw[show (i+1)*2=i*2+2 by omega,show i*2+2+1=(i*2+1)+2 by omega];simpa using this
  have d:∀k,k<vs.length*2->w.cell? ⟨g,a+k,none⟩=(aY vs)[k]? :=λk d=>by
   rw[<-m,jk,if_pos d,kK,mO];simp[World.cell?,e]
  refine⟨g,a,j,(aF.1 e).1,?_,?_⟩
  ·rw[d (i*2) (by omega)];exact(f vs i v c).1
  ·rw[show a+i*2+1=a+(i*2+1) by omega,d (i*2+1) (by omega)];exact(f vs i v c).2
def EG(N:Nat)(ms:List (Tm N))(w:World)(e:Ending)(w':World):Prop:=∃(ys:List (Tm N))(L:Nat)(a:Option Addr)(c:Nat),e=.returned (ae a L c)/\Hid (ys.length=L/\en N 0 w.heap.size ys (ae a L c) w w'/\aB (λa b=>ax N a N b) ys ms=true)
theorem GP(n N:Nat)(ms:List (Tm (N+1)))(vs:List Wd)(L:Nat)(ma:Option Addr)(aa:Nat)(w:World)(T:Hid (vs.length=L))(D:Hid (ms.length=L))(ah:L<=1000)(_hpw:n<w.heap.size)(ad:w.cell? ⟨n,7,none⟩=some (ae ma L aa))(R:Hid (∀w1,aj w w1->∀(i:Nat)(v:Wd),vs[i]?=some v->∃g s,ma=some ⟨g,s,none⟩/\g<w.heap.size/\w1.cell? ⟨g,s+i*2,none⟩=some (ab v.1)/\w1.cell? ⟨g,s+i*2+1,none⟩=some (ab v.2)))(O:Hid (∀w1,aj w w1->∀(i:Nat)(v:Wd)(x:Tm (N+1)),vs[i]?=some v->ms[i]?=some x->ak 64 #[aC n,.agg #[ab v.1,ab v.2]] w1 (nj (N+1) x w1))):ak 35 #[aC n] w (EG (N+1) ms w):=by
 obtain⟨Z,G,J,K,M⟩:=bR gm;have o:=ap (⟨G,J,K,M⟩:_/\_/\_/\_);clear G J K M;go_enter func35,ntmps35;go_wp2_with fail;go_loopw [3,11] (λv i wr=>∃(k:Nat)(h:Option Addr)(c:Nat)(j:List (Tm (N+1))),k<=L/\i=ab k/\v=ae h k c/\Hid (j.length=k/\en (N+1) 0 w.heap.size j (ae h k c) w wr/\aB (λh b=>ax (N+1) h (N+1) b) j (ms.take k)=true)) (λ_ i _=>L-(intOf i).toNat)
 case atStart=>exact⟨0,none,0,[],by omega,rfl,rfl,rfl,fl.nil _,by simp[aB]⟩
 case round=>
  obtain⟨k,h,c,j,an,rfl,rfl,e⟩:=hrel;have l:Hid (aj w wr):=e.2.1.1;by_cases H:k<L;rotate_left
  ·obtain rfl:k=L:=by omega
   go_wp2_with fail
   go_ret
   refine⟨j,k,h,c,rfl,e.1,e.2.1,?_⟩;have m:=e.2.2;rw[bA (by rw[D.out];omega)]at m;exact m
  ·obtain⟨v,z⟩:∃v,vs[k]?=some v:=⟨vs[k]'(by rw[T.out];exact H),aI _⟩;obtain⟨x,A⟩:∃x,ms[k]?=some x:=⟨ms[k]'(by rw[D.out];exact H),aI _⟩;have S:=ap A;have P:Hid (∀w1,aj w w1->ak 64 #[aC n,.agg #[ab v.1,ab v.2]] w1 (nj (N+1) x w1)):=λw1 y=>O w1 y k v x z A;obtain⟨g,s,rfl,al,d0,d1⟩:=R wr l k v z;clear z A;have ao:(0:Int)<=(k:Int):=by omega
   have aq:(k:Int)<(L:Int):=by omega
   have am:g<wr.heap.size:=by have:=l.size;omega
   go_wp2_with fail;refine(P _ (l.trans (aO.mono l.size))).mono ?_;rintro ag d ⟨a,rfl,p⟩;rw[show dq (N+1) a=.agg #[ab a.1.1,ab a.1.2.1,af a.1.2.2,ae a.2.1.1 a.2.2.length a.2.1.2]from rfl];have u:Hid (aj wr d):=aO.trans (p.1.mono (by simp));have f:Hid (aj wr (d.alloc (.cells #[ab a.1.1,ab a.1.2.1,af a.1.2.2,ae a.2.1.1 a.2.2.length a.2.1.2] 31))/\(d.alloc (.cells #[ab a.1.1,ab a.1.2.1,af a.1.2.2,ae a.2.1.1 a.2.2.length a.2.1.2] 31)).heap.size=d.heap.size+1/\(d.alloc (.cells #[ab a.1.1,ab a.1.2.1,af a.1.2.2,ae a.2.1.1 a.2.2.length a.2.1.2] 31)).heap[d.heap.size]?=some (.cells #[ab a.1.1,ab a.1.2.1,af a.1.2.2,ae a.2.1.1 a.2.2.length a.2.1.2] 31)/\In (d.alloc (.cells #[ab a.1.1,ab a.1.2.1,af a.1.2.2,ae a.2.1.1 a.2.2.length a.2.1.2] 31)).heap.size (d.alloc (.cells #[ab a.1.1,ab a.1.2.1,af a.1.2.2,ae a.2.1.1 a.2.2.length a.2.1.2] 31)) (N+1) a/\ch (λb=>b<0\/wr.heap.size<=b) (N+1) a):=by
    have m:aj d (d.alloc (.cells #[ab a.1.1,ab a.1.2.1,af a.1.2.2,ae a.2.1.1 a.2.2.length a.2.1.2] 31)):=aO;refine⟨u.trans (m.mono u.size),by simp,aA _ _,(p.2.1.below m).mono m.size,p.2.2.1.mono λb y=>ai ?_⟩;have:wr.heap.size+1<=b:=by simpa using y
    omega
   have B:=λ(r q:Nat)(w4:World) Y V U=>ap (e.2.1.appAt (W:=(d.alloc (.cells #[ab a.1.1,ab a.1.2.1,af a.1.2.2,ae a.2.1.1 a.2.2.length a.2.1.2] 31))) (w4:=w4) (g:=r) (c:=q) e.1 (aH _) l.size f.1 a f.2.2.2.1 f.2.2.2.2 Y V U);have C:=ap (e.2.1.ownAt e.1 f.1);have ar:w.heap.size<=d.heap.size:=by have:=l.size;have:=u.size;omega
   clear d0 d1;go_wp2_with (at_builtin;refine wpList_append_lies _ rfl _ _ 29 rfl w.heap.size 31 Z _ 4 56 underlying29 o.1 o.2.1 o.2.2.1 o.2.2.2 rfl (by decide) (ae h k c) k (j.flatMap (iq (N+1))) (by simp[Act.eval]) C ⟨d.heap.size,0,none⟩ 1 1 (iq (N+1) a) (by simp[Act.eval]) rfl (World.news_of_block (cs:= #[ab a.1.1,ab a.1.2.1,af a.1.2.2,ae a.2.1.1 a.2.2.length a.2.1.2]) (t:=31) (fr:=(0,0)) f.2.2.1) (uh _ _) (by decide) (by unfold maxLen;omega) (by omega) (by have:=f.2.1;omega) (d.heap.size+1) f.2.1 ?_;intro r q w4 I F E X;have Q:=B r q w4 I F (by rw[f.out.2.1];exact E);clear I F E X B C);go_roundw
   case rel=>
    refine⟨k+1,some ⟨r,0,none⟩,q,j++ [a],by omega,by go_num,rfl,by rw[bm,e.out.1];rfl,Q,?_⟩;rw[du,S.out];exact iY _ _ _ _ _ e.2.2 p.2.2.2
   case measure=>simp[intOf];omega
section
variable {base pb:Nat} {name:ByteArray} {room:Int} {N:Nat} {s:Tm (N+1)} {ms:List (Tm (N+1))} {xs:List (Wd×Tm (N+1))} {nk:Nat} {M:Nat->Prop} {w:World} {ws:List Wd} {nm:List ByteArray} {sv:Wd} {vs:List Wd} {ma:Option Addr} {mc:Nat} {Mh:Nat->Prop}
theorem cH.state(a:cH base pb name room (N+1) s ms xs nk M w ws nm sv vs ma mc Mh)(f:nk<=50000):ak 34 #[aC pb] w (nj (N+1) s w):=by
 obtain⟨k,h,j,d,_⟩:=a.heap.box;obtain⟨_,b,c,_,_,g⟩:=PL.cells d;exact El pb N s sv w g b c λl e=>(a.later e).read f (i:=0) (by simp) (by simp)
theorem cH.mails(a:cH base pb name room (N+1) s ms xs nk M w ws nm sv vs ma mc Mh)(n:nk<=50000)(u:ms.length<=1000):ak 35 #[aC pb] w (EG (N+1) ms w):=by
 obtain⟨y,v,x,k,_⟩:=a.heap.box;obtain⟨_,_,_,e,_,o⟩:=PL.cells k;have m:=a.len;refine GP pb N ms vs vs.length ma mc w rfl m.symm (by omega) o e (λt b i r c=>?_) (λt b i r z c p=>?_)
 ·obtain⟨j,q,f,d,g,h⟩:=a.mail.word c;exact⟨j,q,f,d,(aq b _ _ d).trans g,(aq b _ _ d).trans h⟩
 ·have l:=(aS.1 c).1;exact(a.later b).read n (i:=i+1) (by rw[eG,dg,dr l];exact c) (by rw[eG,dg,dr (by omega)];exact p)
end
theorem wO{base:Nat}{v:Value}{n m xc:Nat}{xs:List Value}{ps:List Wd}{xa:Option Addr}{w:World}(ty:TypeId)(f:w.ownsRow base 109 2 v n xs)(A:fh w ps xa)(j:ps.length=m)(G:n+m<=200000)(x:base<=w.heap.size):∃a d w',(Builtin.append_ #[100,100] ty #[v,ae xa m xc]).run Tryz.prog w=.ok (ae a (n+m) d) w'/\w'.ownsRow base 109 2 (ae a (n+m) d) (n+m) (xs++aY ps)/\w.grownBy w' v.ownBlock/\((Value.slice a (n+m) d).ownBlock=v.ownBlock\/(Value.slice a (n+m) d).ownBlock=some w.heap.size):=by
 obtain⟨l,i,B,C,D⟩:=bR lg;have q:∀{w':World}{g:Value}{k:Nat}{F:List Value},w'.ownsRow base 109 2 g k F->∃o c,g=ae o k c:=λe=>by
  rcases e.2 with⟨rfl,rfl⟩|⟨r,cap,p,rfl,_⟩
  ·exact⟨none,0,rfl⟩
  ·exact⟨_,cap,rfl⟩
 rcases A with rfl|⟨ad,rfl,y⟩
 ·obtain rfl:m=0:=j.symm;obtain⟨b,cap,E,z⟩:∃b cap,v=ae b n cap/\n<=cap:=by
   rcases f.2 with⟨rfl,rfl⟩|⟨r,cap,p,rfl,_,_,e,_⟩
   ·exact⟨none,0,rfl,am _⟩
   ·exact⟨_,cap,rfl,e⟩
  subst E;exact⟨b,cap,w,nN w _ _ ty _ _ l underlying100 underlying100 i b xa n cap xc z,by simpa [aY]using f,gD _ _,ah rfl⟩
 ·obtain⟨g,w',s,h,t,_,u⟩:=run_append_own_at (P:=Tryz.prog) w base 100 ty 109 l _ 2 16 underlying100 i B C D rfl (by decide) _ n xs f ad m xc (aY ps) (by rw[cD,j]) y (qH _) (by unfold maxLen;omega) (by omega) x;obtain⟨a,d,rfl⟩:=q h;exact⟨a,d,w',s,h,t,u⟩
theorem vU{w:World}{d:Array Oper}{o:Oper}{a:Act}{K:Act->World->Prop}{Q:Exit->Act->World->Prop}{E:Prop}(k:o.guard=none)(s x:Operand)(p:o.op=.call {callee:=.builtin .append,args:= #[s,x],argTypes:= #[100,100]}){base:Nat}{v:Value}{n m xc:Nat}{xs:List Value}{ps:List Wd}{xa:Option Addr}(t:a.eval s=v)(z:a.eval x=ae xa m xc)(q:w.ownsRow base 109 2 v n xs)(u:fh w ps xa)(l:ps.length=m)(h:n+m<=200000)(j:base<=w.heap.size)(i:∀b c w',w'.ownsRow base 109 2 (ae b (n+m) c) (n+m) (xs++aY ps)->w.grownBy w' v.ownBlock->((Value.slice b (n+m) c).ownBlock=v.ownBlock\/(Value.slice b (n+m) c).ownBlock=some w.heap.size)->K (a.put o.dst (ae b (n+m) c)) w'):if Region.wanted o (yielded d a.tmps)=true then Oper.wp Tryz.prog o a w K Q else E:=by
 have y:Region.wanted o (yielded d a.tmps)=true:=by simp[Region.wanted,k]
 rw[if_pos y];obtain⟨b,c,w',r,e,f,g⟩:=wO (xc:=xc) o.type q u l h j;unfold Oper.wp execOp;simp only[p,resolve,invoke,builtin,kQ,Sem.run_pure,kP,mS,aN,b8,t,z,r];exact i _ _ _ e f g
theorem dH.turn{base d:Nat}{name:ByteArray}{g h:Wd}{mv j:Value}{room:Int}{ws:List Wd}{nm:List ByteArray}{M:Nat->Prop}{w w':World}(l:dH base (PL d name g mv) room ws nm M w)(k:bT (λb=>b=d) w w')(q:∀tv lv mp:Value,w.heap[d]?=some (.cells #[af name,ab room,tv,lv,mp,ab g.1,ab g.2,mv] 111)->w'.heap[d]?=some (.cells #[af name,ab room,tv,lv,mp,ab h.1,ab h.2,j] 111)):dH base (PL d name h j) room ws nm M w':=by
 obtain⟨tv,lv,mp,e,i,f,m,n,o,p⟩:=l;refine⟨tv,lv,mp,⟨⟨rfl,ai rfl⟩,q tv lv mp e.2⟩,dW i k (λb a c=>?_),f.kept k (λb a c=>?_) (λb a c=>?_),m,n,o,p⟩
 ·subst c;exact nC i e (by decide) a
 ·subst c;exact nC f.1 e (by decide) a
 ·subst c;exact ua f e a
theorem jK.words{Mh:Nat->Prop}{ma:Option Addr}{vs:List Wd}{k:Nat}{w:World}(j:jK Mh ma vs k w):fh w vs ma:=by
 rcases j with⟨_,b,_⟩|⟨c,d,l,g,_,h,m,_,n,i⟩
 ·exact ah b
 ·refine ai ⟨⟨c,d,none⟩,g,λf p e=>?_⟩;have o:=(aS.1 e).1;have a:=e;rw[<-i,jk]at a;split at a
  ·rw[kK,mO]at a;have b:(⟨c,d,none⟩:Addr).add f=⟨c,d+f,none⟩:=by unfold Addr.add;split<;>simp[*]
   rw[b];simp[World.cell?,h,a]
  ·cases a
theorem jX.tidied{N:Nat}{ws:List Wd}{nm:List ByteArray}{room:Int}{b:List Wd}{a:List (Tm N)}(q:jX N ws nm room b a):jX N (jP ws N b).2.1 nm room (jP ws N b).1 a/\((jP ws N b).2.1.length:Int)=(a.map (sz N)).sum/\(jP ws N b).1.length=b.length:=by
 obtain⟨k,w,l,z,A,x,y,m⟩:=q;obtain⟨n,o,p⟩:=D0 m k w;have i:∀c∈a,aD ⟨N,c⟩:=λc f=>oL (l c f).1;have j:=ol (λg ws nm e=>gN N g ws nm e) a [] nm i;have t:=Bi N a [] nm;have r:=vf (λg ws nm e=>zj N g ws nm e) a [] nm i;have h:=gO (aW N) a [] nm;rw[p]at j;rw[n,o];simp only[iw]at t;refine⟨⟨⟨h,λv C c u f=>?_⟩,r.1,l,by omega,by omega,x,y,m⟩,by omega,by rw[h,k.1]⟩;obtain⟨B,d,s⟩:=j v c f;rw[u]at d;injection d with d;rw[d];exact s
theorem mI(w:World){g q:Nat}(b:g≠q)(o:Nat)(v:Value)(j:Nat):(w.setCell ⟨q,o,none⟩ v).cell? ⟨g,j,none⟩=w.cell? ⟨g,j,none⟩:=by
 refine bw ?_ j;have c:¬q=g:=λa=>b a.symm;simp[World.setCell,bJ,c]
def vp(g L:Nat):Option Addr:=if L=0 then some ⟨g,0,none⟩else some ⟨g,2,none⟩
def Cv(w:World)(a:Nat)(b:Wd)(mv:Value):World:=((w.setCell ⟨a,5,none⟩ (ab b.1)).setCell ⟨a,5+1,none⟩ (ab b.2)).setCell ⟨a,7,none⟩ mv
theorem If(d:Nat)(f:Wd)(vs:List Wd)(L:Nat)(ma:Option Addr)(t:Nat)(w:World)(Fin:Nat->Wd->World->World->Prop)(Q:Hid (vs.length=L))(T:L<=1000)(q:Hid (∀w1,aj w w1->w1.cell? ⟨d,5,none⟩=some (ab f.1)/\w1.cell? ⟨d,5+1,none⟩=some (ab f.2)/\w1.cell? ⟨d,7,none⟩=some (ae ma L t)))(M:Hid (∀w1,aj w w1->fh w1 vs ma))(G:Hid (∀w1,aj w w1->∀(a:Option Addr)(c:Nat),w1.ownsRow w.heap.size 109 2 (ae a (1+L) c) (1+L) (aY (f::vs))->ak 44 #[.pointer (some ⟨d,1,none⟩),ae a (1+L) c] w1 λe w'=>∃(g:Nat)(h:Wd),e=.returned (.tuple #[ae (some ⟨g,0,none⟩) (1+L) (1+L),ab 0])/\Hid ((w'.cell? ⟨g,0,none⟩=some (ab h.1)/\w'.cell? ⟨g,1,none⟩=some (ab h.2))/\g≠d/\(∃B C D,w'.cell? ⟨d,5,none⟩=some B/\w'.cell? ⟨d,5+1,none⟩=some C/\w'.cell? ⟨d,7,none⟩=some D)/\(∀j,w'.frozen? ⟨d,j,none⟩=false)/\Fin g h w1 w'))):ak 23 #[aC d] w λe w'=>e=.returned (.tuple #[])/\∃(g:Nat)(h:Wd)(w1 w2:World),w'=(Cv w2 d h (ae (vp g L) L L)).drew/\Hid (aj w w1/\Fin g h w1 w2):=by
 obtain⟨N,O,P⟩:=q.out w (ao _ _);have H:Hid (aj w w.drew):=(ao _ _).drew;have k:Hid (aj w (w.alloc (.cells #[ab f.1,ab f.2] 109)).drew/\(w.alloc (.cells #[ab f.1,ab f.2] 109)).drew.ownsRow w.heap.size 109 2 (ae (some ⟨w.heap.size,0,none⟩) 1 1) 1 (pX f)):=by
  refine⟨by go_grown,rfl,ai ⟨w.heap.size,1, #[ab f.1,ab f.2],rfl,am _,rB w _ rfl,am _,by unfold maxLen;omega,rfl,rfl⟩⟩
 go_enter func23,ntmps23;go_wp2_with fail
 go_region_held3 (λw'=>w'.cell? ⟨d,5,none⟩=some (ab f.1)/\w'.cell? ⟨d,5+1,none⟩=some (ab f.2)/\w'.cell? ⟨d,7,none⟩=some (ae ma L t)) (first|(go_keep;done)|with_reducible exact q _ H|with_reducible exact q _ k.1|exact q _ r)
  ((refine vU rfl _ _ rfl (base:=w.heap.size) (v:=ae (some ⟨w.heap.size,0,none⟩) 1 1) (n:=1) (m:=L) (xc:=t) (xs:=pX f) (ps:=vs) (xa:=ma) (by simp[Act.eval]) (by simp[Act.eval]) k.2 (M _ k.1) Q (by omega) (by have:=k.1.size;exact this) ?_;intro u x w2 A o R;have r:Hid (aj w w2):=(k.1.trans ⟨o.os,o.tape,o.output,o.size,λb S=>o.block b (aR S k.1.size) (λe=>by simp[Value.ownBlock]at e;omega)⟩);have K:=ap (show w2.ownsRow w.heap.size 109 2 (ae u (1+L) x) (1+L) (aY (f::vs))from A);clear A o R))
 have F:=ap (G w2 r u x K);clear N O P;go_wp2_with fail;refine F.mono ?_;rintro e i ⟨g,h,rfl,E⟩;obtain⟨⟨y,z⟩,l,⟨B,C,D,d5,d6,d7⟩,U,s⟩:=E;replace s:=ap s;have W:(0:Int)<1+(L:Int):=by omega
 have X:(1:Int)<=1+(L:Int):=by omega
 have V:d≠g:=λe=>l e.symm;have I:Hid (∀a b:Value,((i.setCell ⟨d,5,none⟩ a).setCell ⟨d,5+1,none⟩ b).cell? ⟨g,0,none⟩=some (ab h.1)/\((i.setCell ⟨d,5,none⟩ a).setCell ⟨d,5+1,none⟩ b).cell? ⟨g,1,none⟩=some (ab h.2)):=λa b=>by
  have p:∀j,((i.setCell ⟨d,5,none⟩ a).setCell ⟨d,5+1,none⟩ b).cell? ⟨g,j,none⟩=i.cell? ⟨g,j,none⟩:=λj=>(mI _ l _ _ j).trans (mI _ l _ _ j);exact⟨(p _).trans y,(p _).trans z⟩
 have J:Hid (∀a b c:Value,(((i.setCell ⟨d,5,none⟩ a).setCell ⟨d,5+1,none⟩ b).setCell ⟨d,7,none⟩ c).cell? ⟨g,0,none⟩=some (ab h.1)/\(((i.setCell ⟨d,5,none⟩ a).setCell ⟨d,5+1,none⟩ b).setCell ⟨d,7,none⟩ c).cell? ⟨g,1,none⟩=some (ab h.2)):=λa b c=>by
  have p:∀j,(((i.setCell ⟨d,5,none⟩ a).setCell ⟨d,5+1,none⟩ b).setCell ⟨d,7,none⟩ c).cell? ⟨g,j,none⟩=i.cell? ⟨g,j,none⟩:=λj=>(mI _ l _ _ j).trans ((mI _ l _ _ j).trans (mI _ l _ _ j));exact⟨(p _).trans y,(p _).trans z⟩
 go_wp2_with fail;go_region_held3 (λw'=>w'.cell? ⟨g,0,none⟩=some (ab h.1)/\w'.cell? ⟨g,1,none⟩=some (ab h.2)) (first|(go_keep;done)|exact I _ _|exact J _ _ _) (fail);exact dh (v:=.tuple #[]) (by simp[results]) rfl ⟨rfl,g,h,w2,i,rfl,r,s⟩
theorem jX.front{N:Nat}{ws:List Wd}{nm:List ByteArray}{room:Int}{g t:List Wd}{e f:List (Tm N)}(m:jX N ws nm room (g++t) (e++f))(n:g.length=e.length):jX N ws nm room g e:=by
 obtain⟨i,d,j,k,p,q,r,s⟩:=m;refine⟨⟨n,λo u b h c=>i.2 o u b ?_ ?_⟩,?_,λb c=>j b (List.mem_append_left _ c),?_,p,q,r,s⟩
 ·rw[dr (aS.1 h).1];exact h
 ·rw[dr (aS.1 c).1];exact c
 ·rw[kJ]at d;exact(ft.1 d).1
 ·rw[iy,List.sum_append]at k;have w:(0:Int)<=(f.map (sz N)).sum:=by
   clear i d k
   induction f with
   | nil=>simp
   | cons b l ih=>
    have x:=ih λv a=>j v (by simp only[dl,cm]at a ⊢;rcases a with a|a<;>simp[a]);have y:=(eX N b).1;simp only[aN,bI];omega
  omega
theorem Fz{N:Nat}:(l:List (Tm N))->(l.map λy=>1+sz N y).sum=l.length+(l.map (sz N)).sum
 | []=>by simp
 | y::l=>by
  have a:=Fz l;simp only[aN,bI,bi,a];omega
theorem xD{N:Nat}:(l:List (Tm N))->(∀y∈l,aD ⟨N,y⟩)->((l.flatMap λy=>ay N y).length:Int)<=(l.map λy=>1+sz N y).sum
 | [],_=>by simp
 | y::l,h=>by
  have c:=xD l λb a=>h b (by simp[a]);have d:=vx N y (h y (by simp));simp only[bF,bm,aN,bI];omega
theorem jX.roots{N:Nat}{ws:List Wd}{nm:List ByteArray}{room:Int}{d:List Wd}{a:List (Tm N)}(h:jX N ws nm room d a)(i:d.length<=1000):EH ws nm N d a:=by
 obtain⟨f,m,g,n,o,p,q,r⟩:=h;have e:∀b∈a,aD ⟨N,b⟩:=λb c=>oL (g b c).1;have j:=Fz a;have k:=xD a e;have l:=f.1;exact⟨f,e,λb c=>(g b c).2,by omega,by omega,i⟩
theorem DP{base n c:Nat}{a:Option Addr}{vs:List Wd}{w:World}(e:w.ownsRow base 109 2 (ae a n c) n (aY vs))(s:0<n):eR w vs a/\∀b o,a=some ⟨b,o,none⟩->b<w.heap.size:=by
 rcases e.2 with⟨d,q⟩|⟨h,cap,p,d,t,i,_⟩
 ·omega
 ·injection d with f r g;subst f g;have j:=(aF.1 i).1;refine⟨ai ⟨h,0,rfl,j,λl m k=>?_⟩,λb o d=>?_⟩
  ·have:=jf e l m k;rw[cX];exact this
  ·injection d with d;injection d with d;omega
section
variable {base pb:Nat} {name:ByteArray} {room:Int} {N:Nat} {s:Tm (N+1)} {ms:List (Tm (N+1))} {xs:List (Wd×Tm (N+1))} {nk:Nat} {M:Nat->Prop} {w:World} {ws:List Wd} {nm:List ByteArray} {sv:Wd} {vs:List Wd} {ma:Option Addr} {mc:Nat} {Mh:Nat->Prop}
theorem cH.front(a:cH base pb name room (N+1) s ms xs nk M w ws nm sv vs ma mc Mh):jX (N+1) ws nm room (sv::vs) (s::ms):=
 jX.front a.has (by simp[a.len])
theorem Ey{w:World}{pb:Nat}{c0 a b c d e f g:Value}{t:TypeId}(sv:Wd)(mv:Value)(h:w.heap[pb]?=some (.cells #[c0,a,b,c,d,e,f,g] t)):(Cv w pb sv mv).heap[pb]?=some (.cells #[c0,a,b,c,d,ab sv.1,ab sv.2,mv] t):=by
 unfold Cv World.setCell;simp[bJ,h]
theorem Iy(w:World)(pb:Nat)(sv:Wd)(mv:Value):bT (λb=>b=pb) w (Cv w pb sv mv).drew:=by
 have c:=bq w pb 5 (ab sv.1);have d:=bq (w.setCell ⟨pb,5,none⟩ (ab sv.1)) pb (5+1) (ab sv.2);have e:=bq ((w.setCell ⟨pb,5,none⟩ (ab sv.1)).setCell ⟨pb,5+1,none⟩ (ab sv.2)) pb 7 mv;have a:=(c.trans d λ_ _ k=>k).trans e λ_ _ k=>k;exact⟨a.os,a.tape,a.output,a.size,a.block⟩
def LB(base pb:Nat)(name:ByteArray)(room:Int)(N:Nat)(s:Tm N)(ms:List (Tm N))(nk:Nat)(M:Nat->Prop)(nm:List ByteArray)(w:World)(e:Ending)(w':World):Prop:=
 e=.returned (.tuple #[])/\∃c g a f d,cH base pb name room N s ms [] nk (λb=>M b\/w.heap.size<=b) w' c nm g a f a.length d/\Hid (bT M w w'/\(c.length:Int)=((s::ms).map (sz N)).sum)
theorem cH.tidy(e:cH base pb name room (N+1) s ms xs nk M w ws nm sv vs ma mc Mh)(aI:nk<=50000)(aA:ms.length<=999)(aB:base<=w.heap.size):ak 23 #[aC pb] w (LB base pb name room (N+1) s ms nk M nm w):=by
 have C:=e.front;have aG:=e.len;have aj:=e.names;have an:=C.roots (by simp only[bi];omega);obtain⟨L,ap,v⟩:=C.tidied;obtain⟨q,j,B⟩:∃q j,(jP ws (N+1) (sv::vs)).1=q::j:=by
  cases u:(jP ws (N+1) (sv::vs)).1 with
  | nil=>rw[u]at v;simp at v
  | cons n l=>exact⟨n,l,rfl⟩
 rw[B]at L v;simp only[bi]at v;have I:j.length=vs.length:=by omega
 obtain⟨_,_,_,_,aK,_,aL,_⟩:=C;refine(If pb sv vs vs.length ma mc w (λa m g r=>m=q/\yw base (PL pb name sv (ae ma vs.length mc)) room (jP ws (N+1) (sv::vs)) nm Mh a g r) rfl (by omega) ?_ ?_ ?_).mono ?_
 ·intro g f;obtain⟨R,P,ar,z,_⟩:=(e.later f).heap.box;obtain⟨_,U,V,W,_⟩:=PL.cells z;exact⟨U,V,W⟩
 ·intro g f;exact(e.later f).mail.words
 ·intro g f n c al;have ao:=f.size;obtain⟨ad,ag⟩:=DP al (by omega);have af:(sv::vs).length=1+vs.length:=by simp only[bi];omega
  have t:=zg (N+1) (s::ms) (sv::vs) n c base (PL pb name sv (ae ma vs.length mc)) room ws nm Mh g (e.later f).heap an ad ag (by omega) (by omega) (by omega);rw[af]at t;refine t.mono ?_;rintro d r ⟨a,rfl,G⟩;have T:=G.out;obtain⟨E,Q,F,av,aw,x⟩:=T;obtain⟨R,P,ar,z,_⟩:=E.box;obtain⟨_,d5,d6,d7,d8,d9⟩:=PL.cells z;obtain⟨ax,aq,au,A,_⟩:=(e.later f).heap.box;have am:pb<g.heap.size:=(PL.cells A).2.2.2.2.2;refine⟨a,q,rfl,⟨?_,by omega,⟨_,_,_,d5,d6,d7⟩,d8,rfl,G⟩⟩;rw[B]at F;rcases F with d|⟨b,o,d,aD,aa⟩
  ·cases d
  ·injection d with d;injection d with k p;subst k p;have:=aa 0 q rfl;simpa using this
 ·rintro d aM ⟨rfl,a,m,g,r,rfl,S⟩;obtain⟨f,rfl,E,Q,F,av,aw,len,x⟩:=S;have ao:=f.size;obtain⟨ax,aq,au,A,_⟩:=(e.later f).heap.box;have am:pb<g.heap.size:=(PL.cells A).2.2.2.2.2;have Y:Mh pb:=by
   obtain⟨_,_,_,_,_,_,i,_⟩:=e.heap;exact i
  have D:=Iy r pb m (ae (vp a vs.length) vs.length vs.length);rw[B]at x;have ab:¬a=pb:=by omega
  refine⟨rfl,(jP ws (N+1) (sv::vs)).2.1,m,j,vp a vs.length,λb=>(Mh b\/g.heap.size<=b)/\b≠a,⟨?_,?_,?_,by omega,aj,?_,?_⟩,?_⟩
  ·rw[I];exact E.turn D λR P mp t=>Ey m _ t
  ·rw[I];rcases x.2 with⟨d,ay⟩|⟨az,cap,y,d,_,u,aE,aH,aJ,O⟩
   ·cases d
   ·injection d with k p X;injection k with k;injection k with k;subst k X;have J:(Cv r pb m (ae (vp a vs.length) vs.length vs.length)).drew.heap[a]?=some (.cells y 109 (0,0)):=(D.block a (aF.1 u).1 ab).trans u;have K:=x.1;rw[cD]at K;simp only[bi]at K;refine ai ?_;by_cases H:vs.length=0
    ·refine⟨a,0,y,by simp[vp,H],by simp,J,by omega,by unfold maxLen;omega,by omega,?_⟩;have:j=[]:=List.length_eq_zero_iff.1 (by omega);simp[this,aY]
    ·refine⟨a,2,y,by simp[vp,H],by simp,J,by omega,by omega,by omega,?_⟩;have d:len*2=2+j.length*2:=by omega
     rw[d]at O;have p:=congrArg (List.drop 2) O;rw[List.drop_take,show 2+j.length*2-2=j.length*2 from by omega]at p;exact p
  ·simpa using L
  ·intro b Z;rcases Z.1 with i|i
   ·exact ah (e.inM b i)
   ·exact ai (by omega)
  ·intro n h;have:n.block=a:=by
    unfold vp at h;split at h
    ·injection h with h;rw[<-h]
    ·injection h with h;rw[<-h]
   exact ai (by omega)
  ·refine⟨?_,ap⟩;refine bT.trans ((aZ f M).trans (Q.mono e.inM) λ_ _ i=>i) D λb _ i=>?_;rw[i];exact e.inM pb Y
end
def Up(n:Nat)(w0 w1:World):Prop:=w0.heap.size<=w1.heap.size/\∀b,n<=b->b<n+3->b<w0.heap.size->w1.heap[b]?=w0.heap[b]?
theorem vO(w:World){b q:Nat}(c:b≠q)(o:Nat)(v:Value):(w.setCell ⟨q,o,none⟩ v).heap[b]?=w.heap[b]? :=by
 have d:¬q=b:=λa=>c a.symm;simp[World.setCell,bJ,d]
def vF(w:World)(g:Nat)(a b:Value):World:=(w.setCell ⟨g,0,none⟩ a).setCell ⟨g,0+1,none⟩ b
theorem lu{w:World}{g b:Nat}(a:b≠g)(x y:Value):(vF w g x y).heap[b]?=w.heap[b]? :=(vO _ a _ _).trans (vO _ a _ _)
theorem Hj(w:World)(g:Nat)(x y:Value):(vF w g x y).heap.size=w.heap.size:=by simp[vF,World.setCell]
theorem BR(al:Nat)(k i:Int)(t:ByteArray)(h:Option Addr)(l j:Nat)(w:World)(O:Wd->Int->World->World->Prop)(an:World->World->Prop)(aE:Wd->Int->World->World->Prop)(aG:Hid (∀w0,aj w w0->ak 73 #[.pointer (some ⟨al,1,none⟩),.agg #[ab k,ab i,af t,ae h l j]] w0 λe w1=>∃(v:Wd)(g:Int),e=.returned (.tuple #[.agg #[ab v.1,ab v.2],ab g])/\Hid (Up w.heap.size w0 w1/\O v g w0 w1)))(aI:Hid (∀v1 w0 w1 w2,aj w w0->O v1 6 w0 w1->bT (λb=>w.heap.size<=b/\b<w0.heap.size) w1 w2->w.heap.size+3<=w2.heap.size->ak 23 #[aC al] w2 λe d=>e=.returned (.tuple #[])/\Hid (Up w.heap.size w2 d/\an w2 d)))(aH:Hid (∀w2 d N,an w2 d->w.heap.size+3<=w2.heap.size->aj d N->ak 73 #[.pointer (some ⟨al,1,none⟩),.agg #[ab k,ab i,af t,ae h l j]] N λe w4=>∃(v:Wd)(g:Int),e=.returned (.tuple #[.agg #[ab v.1,ab v.2],ab g])/\Hid (Up w.heap.size N w4/\aE v g N w4))):ak 123 #[aC al,.agg #[ab k,ab i,af t,ae h l j]] w λe w'=>∃(v:Wd)(g:Int),e=.returned (.tuple #[.agg #[ab v.1,ab v.2],ab g])/\ ((g≠6/\∃w0 w1,aj w w0/\O v g w0 w1/\bT (λb=>w.heap.size<=b/\b<w0.heap.size) w1 w')\/∃v1 w0 w1 w2 d N w4,aj w w0/\O v1 6 w0 w1/\bT (λb=>w.heap.size<=b/\b<w0.heap.size) w1 w2/\w.heap.size+3<=w2.heap.size/\an w2 d/\aj d N/\aE v g N w4/\bT (λb=>b=w.heap.size+1) w4 w'):=by
 go_enter func123,ntmps123;go_wp2_with fail;have R:=ap (km w (.cells #[ab k,ab i,af t,ae h l j] 31) (.cells #[ab 0,ab 0] 109));have m:Hid (aj w ((w.alloc (.cells #[ab k,ab i,af t,ae h l j] 31)).alloc (.cells #[ab 0,ab 0] 109))/\((w.alloc (.cells #[ab k,ab i,af t,ae h l j] 31)).alloc (.cells #[ab 0,ab 0] 109)).heap.size=w.heap.size+1+1):=⟨by go_grown,by simp⟩;generalize aJ:(w.alloc _).alloc _=c;rw[aJ]at R m;clear aJ;have F:Hid (∀w':World,w'.heap[w.heap.size]?=c.heap[w.heap.size]? ->w'.cell? ⟨w.heap.size,0,none⟩=some (ab k)/\w'.cell? ⟨w.heap.size,1,none⟩=some (ab i)/\w'.cell? ⟨w.heap.size,2,none⟩=some (af t)/\w'.cell? ⟨w.heap.size,3,none⟩=some (ae h l j)):=λw' T=>by
  have f:=T.trans R.1;exact⟨au f 0,au f 1,au f 2,au f 3⟩
 obtain⟨aQ,aR,aS,aT⟩:=F.out c rfl;have u:Hid (aj c c.drew/\c.drew.heap[w.heap.size]?=c.heap[w.heap.size]?):=⟨(ao _ _).drew,rfl⟩;have Q:Hid (aj c (c.alloc (.cells #[ab 0,ab 0] 109)).drew/\(c.alloc (.cells #[ab 0,ab 0] 109)).drew.heap[w.heap.size]?=c.heap[w.heap.size]?):=by
  have T:aj c (c.alloc (.cells #[ab 0,ab 0] 109)).drew:=by go_grown
  exact⟨T,T.block _ (by have:=m.2;omega)⟩
 have aw:Hid ((c.alloc (.cells #[ab 0,ab 0] 109)).drew.heap[c.heap.size]?=some (.cells #[ab 0,ab 0] 109)/\(c.alloc (.cells #[ab 0,ab 0] 109)).drew.heap.size=c.heap.size+1):=⟨rB c _ rfl,by simp⟩
 go_region_held3 (λw'=>w'.cell? ⟨w.heap.size,0,none⟩=some (ab k)/\w'.cell? ⟨w.heap.size,1,none⟩=some (ab i)/\w'.cell? ⟨w.heap.size,2,none⟩=some (af t)/\w'.cell? ⟨w.heap.size,3,none⟩=some (ae h l j)) (first|(go_keep;done)|with_reducible exact F _ u.2|with_reducible exact F _ Q.2|exact F _ P|exact F _ (ad _)|exact F _ (aq _ _)|exact F _ (aF _ _ _))
  ((first
   | (go_at_call 73;refine(aG _ (m.1.trans (u.1.mono m.1.size))).mono ?_;rintro e w1 ⟨v,g,rfl,p⟩;have P:Hid (w1.heap[w.heap.size]?=c.heap[w.heap.size]?):=(p.1.2 _ (am _) (by omega) (by have f:=u.1.size;have s:=m.2;omega)).trans u.2;have ad:Hid (∀o:Obj,(w1.alloc o).heap[w.heap.size]?=c.heap[w.heap.size]?):=λo=>(gG w1 o (by have f:=p.1.1;have s:=u.1.size;have ag:=m.2;omega)).trans P;have aF:Hid (∀(o:Obj)(n b:Value),(vF (w1.alloc o) w1.heap.size n b).heap[w.heap.size]?=c.heap[w.heap.size]?):=λo n b=>(lu (by have f:=p.1.1;have s:=u.1.size;have ag:=m.2;omega) n b).trans (ad o))
   | (go_at_call 73;refine(aG _ (m.1.trans (Q.1.mono m.1.size))).mono ?_;rintro e w1 ⟨v,g,rfl,p⟩;have P:Hid (w1.heap[w.heap.size]?=c.heap[w.heap.size]?):=(p.1.2 _ (am _) (by omega) (by have f:=Q.1.size;have s:=m.2;omega)).trans Q.2;have X:Hid (w1.heap[c.heap.size]?=some (.cells #[ab 0,ab 0] 109)):=(p.1.2 c.heap.size (by have s:=m.2;omega) (by have s:=m.2;omega) (by have s:=aw.2;omega)).trans aw.1;have aM:w1.cell? ⟨c.heap.size,0,none⟩=some (ab 0):=au X 0;have aN:w1.cell? ⟨c.heap.size,1,none⟩=some (ab 0):=au X 1;have aP:=λz=>cV X z;have aq:Hid (∀n b:Value,(vF w1 c.heap.size n b).heap[w.heap.size]?=c.heap[w.heap.size]?):=λn b=>(lu (by have ag:=m.2;omega) n b).trans P)))
 ·have V:Hid (∃w0 r w2,(r=w1.heap.size/\w2=w1.alloc (.cells #[ab v.1,ab v.2] 109))/\aj w w0/\O v g w0 w1/\bT (λb=>w.heap.size<=b/\b<w0.heap.size) w1 w2/\w.heap.size+3<=w2.heap.size/\w2.heap[w.heap.size]?=some (.cells #[ab k,ab i,af t,ae h l j] 31)/\w2.heap[w.heap.size+1]?=some (.cells #[ab 0,ab 0] 109)/\w2.heap[r]?=some (.cells #[ab v.1,ab v.2] 109)/\w.heap.size+1≠r/\w.heap.size+2<=w0.heap.size):=by
    have f:=p.1.1;have s:=u.1.size;have ag:=m.2;have ax:∀b,b<w1.heap.size->(w1.alloc (.cells #[ab v.1,ab v.2] 109)).heap[b]?=w1.heap[b]? :=λb aL=>gG w1 _ aL;refine⟨c.drew,_,_,⟨rfl,rfl⟩,m.1.trans (u.1.mono m.1.size),p.2,aZ aO _,by simp only[iB];omega,(ad _).trans R.1,?_,aA _ _,by omega,by omega⟩;exact(ax _ (by omega)).trans ((p.1.2 _ (by omega) (by omega) (by omega)).trans ((u.1.block _ (by omega)).trans R.2))
  obtain⟨w0,r,w2,⟨S,J⟩,a⟩:=V.out;rw[<-S,<-J];replace a:=ap a;clear S J V ad aF P p;have aB:w2.cell? ⟨r,0,none⟩=some (ab v.1):=au a.2.2.2.2.2.2.1 0;have aD:w2.cell? ⟨r,1,none⟩=some (ab v.2):=au a.2.2.2.2.2.2.1 1;have A:w2.cell? ⟨w.heap.size+1,0,none⟩=some (ab 0):=au a.2.2.2.2.2.1 0;have B:w2.cell? ⟨w.heap.size+1,1,none⟩=some (ab 0):=au a.2.2.2.2.2.1 1;have aa:=λz=>cV a.2.2.2.2.2.1 z;by_cases K:g=6;rotate_left
  ·have aK:¬(6:Int)=g:=λe=>K e.symm;go_wp2_with fail;refine av (v:=.tuple #[.agg #[ab v.1,ab v.2],ab g]) (by simp[results,results123,go_sem,A,B]) rfl ?_;obtain⟨G,H,I,_,_,_,_,_,Y⟩:=a.out;refine⟨v,g,rfl,ah ⟨K,w0,w1,G,H,bT.trans I ((bq w2 (w.heap.size+1) 0 _).trans (bq _ (w.heap.size+1) _ _) λ_ _ e=>e) λb _ e=>?_⟩⟩;subst e;omega
  ·subst K;have W:=ap (aI v w0 w1 w2 a.1 a.2.1 a.2.2.1 a.2.2.2.1);go_wp2_with fail;refine W.mono ?_;rintro e d ⟨rfl,C⟩;clear aB aD A B aa W;have q:Hid (d.heap[w.heap.size]?=some (.cells #[ab k,ab i,af t,ae h l j] 31)/\d.heap[w.heap.size+1]?=some (.cells #[ab 0,ab 0] 109)/\w.heap.size+3<=d.heap.size):=by
    have ay:=a.2.2.2.1;have L:=C.1;exact⟨(L.2 _ (by omega) (by omega) (by omega)).trans a.2.2.2.2.1,(L.2 _ (by omega) (by omega) (by omega)).trans a.2.2.2.2.2.1,az ay L.1⟩
   have x:Hid (aj d d.drew):=(ao _ _).drew;have y:Hid (∀w':World,w'.heap[w.heap.size]?=some (.cells #[ab k,ab i,af t,ae h l j] 31)->w'.cell? ⟨w.heap.size,0,none⟩=some (ab k)/\w'.cell? ⟨w.heap.size,1,none⟩=some (ab i)/\w'.cell? ⟨w.heap.size,2,none⟩=some (af t)/\w'.cell? ⟨w.heap.size,3,none⟩=some (ae h l j)):=λw' f=>⟨au f 0,au f 1,au f 2,au f 3⟩;obtain⟨t0,t1,t2,t3⟩:=y.out d q.1;go_wp2_with fail
   go_region_held3 (λw'=>w'.cell? ⟨w.heap.size,0,none⟩=some (ab k)/\w'.cell? ⟨w.heap.size,1,none⟩=some (ab i)/\w'.cell? ⟨w.heap.size,2,none⟩=some (af t)/\w'.cell? ⟨w.heap.size,3,none⟩=some (ae h l j)) (first|(go_keep;done)|exact y _ q.1|exact y _ U|exact y _ (ar _ _))
    ((go_at_call 73;refine(aH w2 d _ C.2 a.2.2.2.1 x).mono ?_;rintro e w4 ⟨M,Z,rfl,D⟩;have U:Hid (w4.heap[w.heap.size]?=some (.cells #[ab k,ab i,af t,ae h l j] 31)):=(D.1.2 _ (am _) (by omega) (by have f:=q.2.2;have s:=x.size;omega)).trans q.1;have E:Hid (w4.heap[w.heap.size+1]?=some (.cells #[ab 0,ab 0] 109)):=(D.1.2 (w.heap.size+1) (by omega) (by omega) (by have f:=q.2.2;have s:=x.size;omega)).trans q.2.1;have A:w4.cell? ⟨w.heap.size+1,0,none⟩=some (ab 0):=au E 0;have B:w4.cell? ⟨w.heap.size+1,1,none⟩=some (ab 0):=au E 1;have aa:=λz=>cV E z;have ar:Hid (∀n b:Value,(vF w4 (w.heap.size+1) n b).heap[w.heap.size]?=some (.cells #[ab k,ab i,af t,ae h l j] 31)):=λn b=>(lu (by omega) n b).trans U))
   go_wp2_with fail;refine av (v:=.tuple #[.agg #[ab M.1,ab M.2],ab Z]) (by simp[results,results123,go_sem,A,B]) rfl ?_;obtain⟨G,H,I,Y,_⟩:=a.out;exact⟨M,Z,rfl,ai ⟨v,w0,w1,w2,d,d.drew,w4,G,H,I,Y,C.2,x,D.2,(bq w4 (w.heap.size+1) 0 _).trans (bq _ (w.heap.size+1) _ _) λ_ _ e=>e⟩⟩
 ·have V:Hid (∃w0 r w2,(r=c.heap.size/\w2=vF w1 c.heap.size (ab v.1) (ab v.2))/\aj w w0/\O v g w0 w1/\bT (λb=>w.heap.size<=b/\b<w0.heap.size) w1 w2/\w.heap.size+3<=w2.heap.size/\w2.heap[w.heap.size]?=some (.cells #[ab k,ab i,af t,ae h l j] 31)/\w2.heap[w.heap.size+1]?=some (.cells #[ab 0,ab 0] 109)/\w2.heap[r]?=some (.cells #[ab v.1,ab v.2] 109)/\w.heap.size+1≠r/\w.heap.size+2<=w0.heap.size):=by
    have f:=p.1.1;have s:=aw.2;have ag:=m.2;have ax:bT (λb=>w.heap.size<=b/\b<(c.alloc (.cells #[ab 0,ab 0] 109)).drew.heap.size) w1 (vF w1 c.heap.size (ab v.1) (ab v.2)):=((bq w1 c.heap.size 0 _).trans (bq _ c.heap.size _ _) λ_ _ e=>e).mono λb e=>by subst e;omega
    refine⟨_,_,_,⟨rfl,rfl⟩,m.1.trans (Q.1.mono m.1.size),p.2,ax,by rw[Hj];omega,(aq _ _).trans R.1,?_,?_,by omega,by omega⟩
    ·exact(lu (by omega) _ _).trans ((p.1.2 _ (by omega) (by omega) (by omega)).trans ((Q.1.block _ (by omega)).trans R.2))
    ·have T:=X.out;unfold vF World.setCell;simp[bJ,T]
  obtain⟨w0,r,w2,⟨S,J⟩,a⟩:=V.out;unfold vF at J;rw[<-S];rw[<-S]at J;rw[<-J];replace a:=ap a;clear S J V aq P p X aM aN aP;have aB:w2.cell? ⟨r,0,none⟩=some (ab v.1):=au a.2.2.2.2.2.2.1 0;have aD:w2.cell? ⟨r,1,none⟩=some (ab v.2):=au a.2.2.2.2.2.2.1 1;have A:w2.cell? ⟨w.heap.size+1,0,none⟩=some (ab 0):=au a.2.2.2.2.2.1 0;have B:w2.cell? ⟨w.heap.size+1,1,none⟩=some (ab 0):=au a.2.2.2.2.2.1 1;have aa:=λz=>cV a.2.2.2.2.2.1 z;by_cases K:g=6;rotate_left
  ·have aK:¬(6:Int)=g:=λe=>K e.symm;go_wp2_with fail;refine av (v:=.tuple #[.agg #[ab v.1,ab v.2],ab g]) (by simp[results,results123,go_sem,A,B]) rfl ?_;obtain⟨G,H,I,_,_,_,_,_,Y⟩:=a.out;refine⟨v,g,rfl,ah ⟨K,w0,w1,G,H,bT.trans I ((bq w2 (w.heap.size+1) 0 _).trans (bq _ (w.heap.size+1) _ _) λ_ _ e=>e) λb _ e=>?_⟩⟩;subst e;omega
  ·subst K;have W:=ap (aI v w0 w1 w2 a.1 a.2.1 a.2.2.1 a.2.2.2.1);go_wp2_with fail;refine W.mono ?_;rintro e d ⟨rfl,C⟩;clear aB aD A B aa W;have q:Hid (d.heap[w.heap.size]?=some (.cells #[ab k,ab i,af t,ae h l j] 31)/\d.heap[w.heap.size+1]?=some (.cells #[ab 0,ab 0] 109)/\w.heap.size+3<=d.heap.size):=by
    have ay:=a.2.2.2.1;have L:=C.1;exact⟨(L.2 _ (by omega) (by omega) (by omega)).trans a.2.2.2.2.1,(L.2 _ (by omega) (by omega) (by omega)).trans a.2.2.2.2.2.1,az ay L.1⟩
   have x:Hid (aj d d.drew):=(ao _ _).drew;have y:Hid (∀w':World,w'.heap[w.heap.size]?=some (.cells #[ab k,ab i,af t,ae h l j] 31)->w'.cell? ⟨w.heap.size,0,none⟩=some (ab k)/\w'.cell? ⟨w.heap.size,1,none⟩=some (ab i)/\w'.cell? ⟨w.heap.size,2,none⟩=some (af t)/\w'.cell? ⟨w.heap.size,3,none⟩=some (ae h l j)):=λw' f=>⟨au f 0,au f 1,au f 2,au f 3⟩;obtain⟨t0,t1,t2,t3⟩:=y.out d q.1;go_wp2_with fail
   go_region_held3 (λw'=>w'.cell? ⟨w.heap.size,0,none⟩=some (ab k)/\w'.cell? ⟨w.heap.size,1,none⟩=some (ab i)/\w'.cell? ⟨w.heap.size,2,none⟩=some (af t)/\w'.cell? ⟨w.heap.size,3,none⟩=some (ae h l j)) (first|(go_keep;done)|exact y _ q.1|exact y _ U|exact y _ (ar _ _))
    ((go_at_call 73;refine(aH w2 d _ C.2 a.2.2.2.1 x).mono ?_;rintro e w4 ⟨M,Z,rfl,D⟩;have U:Hid (w4.heap[w.heap.size]?=some (.cells #[ab k,ab i,af t,ae h l j] 31)):=(D.1.2 _ (am _) (by omega) (by have f:=q.2.2;have s:=x.size;omega)).trans q.1;have E:Hid (w4.heap[w.heap.size+1]?=some (.cells #[ab 0,ab 0] 109)):=(D.1.2 (w.heap.size+1) (by omega) (by omega) (by have f:=q.2.2;have s:=x.size;omega)).trans q.2.1;have A:w4.cell? ⟨w.heap.size+1,0,none⟩=some (ab 0):=au E 0;have B:w4.cell? ⟨w.heap.size+1,1,none⟩=some (ab 0):=au E 1;have aa:=λz=>cV E z;have ar:Hid (∀n b:Value,(vF w4 (w.heap.size+1) n b).heap[w.heap.size]?=some (.cells #[ab k,ab i,af t,ae h l j] 31)):=λn b=>(lu (by omega) n b).trans U))
   go_wp2_with fail;refine av (v:=.tuple #[.agg #[ab M.1,ab M.2],ab Z]) (by simp[results,results123,go_sem,A,B]) rfl ?_;obtain⟨G,H,I,Y,_⟩:=a;exact⟨M,Z,rfl,ai ⟨v,w0,w1,w2,d,d.drew,w4,G,H,I,Y,C.2,x,D.2,(bq w4 (w.heap.size+1) 0 _).trans (bq _ (w.heap.size+1) _ _) λ_ _ e=>e⟩⟩
theorem jX.lay{N:Nat}{ws:List Wd}{nm:List ByteArray}{room:Int}{i:List Wd}{q:List (Tm N)}(t:jX N ws nm room i q)(x:Tm N)(j:bz N x=0/\aL N x=true/\sz N x<=room-ws.length)(y:(aW N x ws nm).2.2.Nodup):jX N (aW N x ws nm).2.1 (aW N x ws nm).2.2 room (i++ [(aW N x ws nm).1]) (q++ [x]):=by
 obtain⟨e,A,B,K,L,C,D,M⟩:=t;have n:=oL j.1;obtain⟨p,F⟩:=mu N x ws nm;have z:=gN N x ws nm n;have m:=zj N x ws nm n;have J:=(iQ N x ws nm).1;have l:∀c∈i,oY (aW N x ws nm).2.1 N c=oY ws N c/\∀E∈oY ws N c,E<ws.length:=λc h=>by
  obtain⟨f,_,o⟩:=e.mem h;exact⟨rK p N f c o,zx N f c o⟩
 refine⟨⟨by simp[e.1],λk G f d a=>?_⟩,?_,λf a=>?_,?_,by omega,C,D,y⟩
 ·rcases Nat.lt_or_ge k i.length with g|g
  ·rw[dr g]at d;rw[dr (by rw[<-e.1];exact g)]at a;exact(e.2 k G f d a).mono p F
  ·rw[ed g]at d;rw[ed (by rw[<-e.1];exact g)]at a;have s:k-i.length=0:=by
    have:=(aS.1 d).1;simp at this;omega
   rw[<-e.1]at a;rw[s]at d a;simp only[cQ,jm]at d a;rw[<-d,<-a];exact z
 ·rw[kJ,nu (λc h=>(l c h).1)];simp only[bF,List.flatMap_nil,eF];refine ft.2 ⟨A,m.1,λr u b w=>?_⟩;obtain⟨c,h,v⟩:=jI.1 u;have H:=(l c h).2 r v;have I:=m.2 b w;omega
 ·rcases dl.1 a with a|a
  ·exact B f a
  ·rw[dN.1 a];exact⟨j.1,j.2.1⟩
 ·simp only[iy,List.sum_append,aN,b8,bI,gT];omega
def sE(N:Nat)(x:Tm N)(room:Int)(a:List (Tm N)):Int:=if bz N x≠0 then bz N x else if aL N x=false then 5 else if (a.map (sz N)).sum+sz N x<=room then 0 else 6
theorem DY{N:Nat}{x:Tm N}{room:Int}{ws:List Wd}{e:List (Tm N)}(c:jN N x room ws≠6)(f:(e.map (sz N)).sum<=(ws.length:Int)):sE N x room e=jN N x room ws:=by
 unfold sE jN at*;by_cases a:bz N x≠0
 ·simp[a]
 ·by_cases b:aL N x=false
  ·simp[a,b]
  ·rw[if_neg a,if_neg b]at c;rw[if_neg a,if_neg a,if_neg b,if_neg b];by_cases d:sz N x<=room-ws.length
   ·rw[if_pos (by omega)];simp[d]
   ·simp[d]at c
theorem DX{N:Nat}{x:Tm N}{room:Int}{ws:List Wd}{a:List (Tm N)}(e:(ws.length:Int)=(a.map (sz N)).sum):sE N x room a=jN N x room ws:=by
 unfold sE jN;have b:((a.map (sz N)).sum+sz N x<=room)=(sz N x<=room-ws.length):=by rw[e];exact propext ⟨λd=>by omega,λd=>by omega⟩
 by_cases c:sz N x<=room-ws.length
 ·simp[c,b]
 ·simp[c,b]
section
variable {base pb:Nat} {name:ByteArray} {room:Int} {N:Nat} {s:Tm (N+1)} {ms:List (Tm (N+1))} {xs:List (Wd×Tm (N+1))} {nk:Nat} {M:Nat->Prop} {w:World} {ws:List Wd} {nm:List ByteArray} {sv:Wd} {vs:List Wd} {ma:Option Addr} {mc:Nat} {Mh:Nat->Prop}
theorem cH.kept(a:cH base pb name room (N+1) s ms xs nk M w ws nm sv vs ma mc Mh){S:Nat->Prop}{w1:World}(k:bT S w w1)(g:∀b,M b->b<w.heap.size->¬S b):cH base pb name room (N+1) s ms xs nk M w1 ws nm sv vs ma mc Mh:=by
 refine⟨a.heap.kept k λb m c=>g b (a.inM b m) c,?_,a.has,a.len,a.names,a.inM,a.mailM⟩;rcases a.mail with i|⟨d,n,h,e,j,f,l⟩
 ·exact ah i
 ·have c:=(aF.1 f).1;exact ai ⟨d,n,h,e,j,(k.block d c (g d (a.mailM _ e) c)).trans f,l⟩
theorem cH.mono(a:cH base pb name room (N+1) s ms xs nk M w ws nm sv vs ma mc Mh){M':Nat->Prop}{nk':Nat}(c:∀b,M b->M' b)(g:nk<=nk'):cH base pb name room (N+1) s ms xs nk' M' w ws nm sv vs ma mc Mh:=
 ⟨a.heap,a.mail,a.has,a.len,az a.names g,λb f=>c b (a.inM b f),λd e=>c _ (a.mailM d e)⟩
theorem cH.inside(a:cH base pb name room (N+1) s ms xs nk M w ws nm sv vs ma mc Mh):cH base pb name room (N+1) s ms xs nk (λb=>M b/\b<w.heap.size) w ws nm sv vs ma mc (λb=>Mh b/\b<w.heap.size):=by
 refine⟨a.heap.inside,?_,a.has,a.len,a.names,λb k=>⟨a.inM b k.1,k.2⟩,λm c=>⟨a.mailM m c,?_⟩⟩
 ·rcases a.mail with d|⟨j,l,g,e,h,f,i⟩
  ·exact ah d
  ·exact ai ⟨j,l,g,e,λn=>h n.1,f,i⟩
 ·rcases a.mail with⟨d,_⟩|⟨j,l,g,e,h,f,i⟩
  ·rw[d]at c;cases c
  ·rw[e]at c;injection c with c;rw[<-c];exact(aF.1 f).1
def yD(N:Nat)(x:Tm N)(base:Nat)(b:cw)(room:Int)(ws:List Wd)(nm:List ByteArray)(M:Nat->Prop)(v:Wd)(a:Int)(w w':World):Prop:=
 a=jN N x room ws/\(a≠0->v=(0,0)/\aj w w')/\(a=0->(bz N x=0/\aL N x=true/\sz N x<=room-ws.length)/\v=(aW N x ws nm).1/\l6 base b room (aW N x ws nm).2.1 (aW N x ws nm).2.2 M w w')
theorem zC{N:Nat}{x:Tm N}{h:cw}{e:Ending}{w w':World}(g:IQ N x base h room ws nm M w e w'):∃(v:Wd)(f:Int),e=.returned (.tuple #[.agg #[ab v.1,ab v.2],ab f])/\yD N x base h room ws nm M v f w w':=by
 by_cases a:jN N x room ws=0
 ·obtain⟨b,c,i⟩:=g.2 a;exact⟨_,0,c,a.symm,λd=>absurd rfl d,λ_=>⟨b,rfl,i⟩⟩
 ·obtain⟨b,c⟩:=g.1 a;exact⟨(0,0),_,b,rfl,λ_=>⟨rfl,c⟩,λd=>absurd d a⟩
theorem dH.nodup{c:cw}(a:dH base c room ws nm M w):nm.Nodup:=by
 obtain⟨_,_,_,_,_,b,_⟩:=a;exact b.2.1
theorem cH.put1(d:cH base pb name room (N+1) s ms [] nk M w ws nm sv vs ma mc Mh){x:Tm (N+1)}{v:Wd}{e:Int}{w':World}(t:yD (N+1) x base (PL pb name sv (ae ma vs.length mc)) room ws nm Mh v e w w'):∃A z m,cH base pb name room (N+1) s ms (if e=0 then [(v,x)]else []) (nk+201) (λb=>M b\/w.heap.size<=b) w' A z sv vs ma mc m/\bT M w w':=by
 obtain⟨f1,f2,f3⟩:=t;by_cases f:e=0
 ·obtain⟨c,rfl,k,l⟩:=f3 f;rw[if_pos f];have D:=(iQ (N+1) x ws nm).2;have C:=nX c.1;have B:=d.names;refine⟨_,_,λb=>Mh b\/w.heap.size<=b,⟨k,?_,?_,d.len,by omega,?_,λn r=>ah (d.mailM n r)⟩,l.mono d.inM⟩
  ·rcases d.mail with p|⟨j,y,o,e,h,i,q⟩
   ·exact ah p
   ·have u:=(aF.1 i).1;refine ai ⟨j,y,o,e,λa=>?_,(l.block j u h).trans i,q⟩;rcases a with a|a
    ·exact h a
    ·omega
  ·have:=d.has;simp only[b8,eF]at this;exact this.lay x c k.nodup
  ·intro b g;rcases g with a|a
   ·exact ah (d.inM b a)
   ·exact ai a
 ·obtain⟨_,g⟩:=f2 f;rw[if_neg f];exact⟨ws,nm,Mh,(d.later g).mono (λb a=>ah a) (by omega),aZ g M⟩
def PG(base pb:Nat)(name:ByteArray)(room:Int)(N:Nat)(s:Tm N)(ms:List (Tm N))(x:Tm N)(nk:Nat)(M:Nat->Prop)(w:World)(e:Ending)(w':World):Prop:=
 ∃a:Wd,e=.returned (.tuple #[.agg #[ab a.1,ab a.2],ab (sE N x room (s::ms))])/\Hid (∃j g h i d f c,cH base pb name room N s ms (if sE N x room (s::ms)=0 then [(a,x)]else []) (nk+201) (λb=>M b\/w.heap.size<=b) w' j g h i d f c/\bT M w w')
theorem cH.put(y:cH base pb name room (N+1) s ms [] nk M w ws nm sv vs ma mc Mh)(x:Tm (N+1))(af:In w.heap.size w (N+1) x)(aw:ch (λb=>¬M b) (N+1) x)(ap:(ay (N+1) x).length<=2097152)(G:∀b,M b->b<w.heap.size)(aM:nk<=49000)(al:ms.length<=999)(aK:base<=w.heap.size):ak 123 #[aC pb,dq (N+1) x] w (PG base pb name room (N+1) s ms x nk M w):=by
 have aL:=y.len;have aN:=y.names;have ar:=y.front;obtain⟨_,_,_,aD,aQ,aE,aF,_⟩:=ar;have Z:=In.offB aw af
 have aa:∀{f:World}{D:List Wd}{B:Wd}{C:List Wd}{z:Option Addr}{A:Nat}{q P:Nat->Prop},cH base pb name room (N+1) s ms [] nk P f D nm B C z A q->bT M w f->(∀b,P b->M b\/w.heap.size<=b)->
   ak 73 #[.pointer (some ⟨pb,1,none⟩),dq (N+1) x] f λE g=>∃(e:Wd)(d:Int),E=.returned (.tuple #[.agg #[ab e.1,ab e.2],ab d])/\yD (N+1) x base (PL pb name B (ae z C.length A)) room D nm q e d f g:=by
  intro f D B C z A q P r ag ao;have az:=ag.size;obtain⟨_,_,_,_,aR,aS,aT,_⟩:=r.front;have aA:In f.heap.size f (N+1) x:=(In.off (λb (c:¬M b/\b<w.heap.size)=>ag.block b c.2 c.1) Z af).mono az;have ax:ch (λb=>¬q b) (N+1) x:=Z.mono λb c a=>by
   rcases ao b (r.inM b a)with t|t
   ·exact c.1 t
   ·have:=c.2;omega
  exact(uT (N+1) x base (PL pb name B (ae z C.length A)) room D nm q f r.heap aA ax ap (by omega) aE aF (by omega) (by omega)).mono λE g a=>zC a
 have T:∀{n:Nat}{V:Nat->Prop}{j g:World},bT V j g->(∀b,n<=b->b<n+3->b<j.heap.size->¬V b)->Up n j g:=λk aq=>⟨k.size,λb u O F=>k.block b F (aq b u O F)⟩;have Y:∀{e:Wd}{d:Int}{j g:World}{D:List Wd}{B:Wd}{C:List Wd}{z:Option Addr}{A:Nat}{q:Nat->Prop},yD (N+1) x base (PL pb name B (ae z C.length A)) room D nm q e d j g->bT q j g:=λ{e d j g D B C z A q} a=>by
  by_cases W:d=0
  ·exact(a.2.2 W).2.2.2
  ·exact aZ (a.2.1 W).2 _
 refine(BR pb x.1.1 x.1.2.1 x.1.2.2 x.2.1.1 x.2.2.length x.2.1.2 w (λe d j g=>yD (N+1) x base (PL pb name sv (ae ma vs.length mc)) room ws nm Mh e d j g)
  (λH I=>bT M w I/\H.heap.size<=I.heap.size/\∃l p i o m,cH base pb name room (N+1) s ms [] nk (λb=>M b\/H.heap.size<=b) I l nm p i o i.length m/\(l.length:Int)=((s::ms).map (sz (N+1))).sum)
  (λe d f U=>bT M w f/\w.heap.size+3<=f.heap.size/\∃l p i o m,cH base pb name room (N+1) s ms [] nk (λb=>M b\/w.heap.size+3<=b) f l nm p i o i.length m/\(l.length:Int)=((s::ms).map (sz (N+1))).sum/\yD (N+1) x base (PL pb name p (ae o i.length i.length)) room l nm m e d f U) ?_ ?_ ?_).mono ?_
 ·intro j c;refine(aa (y.later c) (aZ c M) λb a=>ah a).mono ?_;rintro E g ⟨e,d,rfl,h⟩;refine⟨e,d,rfl,T (Y h) λb u _ _ a=>?_,h⟩;have:=G b (y.inM b a);omega
 ·intro aI j g H c h v aB;have X:=(h.2.1 (by decide)).2;have ad:=c.size;have O:=((y.later c).later X).kept v λb a _ t=>by
   have:=G b a;omega
  have au:bT M w H:=bT.trans ((aZ c M).trans (aZ X M) λ_ _ a=>a) v λb Q a=>by omega
  refine(O.tidy (by omega) al (by omega)).mono ?_;rintro E I ⟨rfl,l,p,i,o,m,F,K,S⟩;refine⟨rfl,T K λb u _ _ a=>?_,au.trans K λ_ _ a=>a,K.size,l,p,i,o,m,F,S⟩;have:=G b a;omega
 ·rintro H I f ⟨K,aO,l,p,i,o,m,F,S⟩ aB c
  have r:=(F.later c).mono (M':=λb=>M b\/w.heap.size+3<=b) (nk':=nk) (λb a=>by
   rcases a with a|a
   ·exact ah a
   ·exact ai (by omega)) (am _)
  have L:bT M w f:=K.trans (aZ c M) λ_ _ a=>a
  refine(aa r L λb a=>by
   rcases a with a|a
   ·exact ah a
   ·exact ai (by omega)).mono ?_
  rintro E U ⟨e,d,rfl,h⟩;refine⟨e,d,rfl,T (Y h) λb u O _ a=>?_,L,by have:=c.size;omega,l,p,i,o,m,r,S,h⟩;rcases r.inM b a with t|t
  ·have:=G b t;omega
  ·omega
 ·rintro E aU ⟨e,d,rfl,⟨an,j,g,c,h,v⟩|⟨aI,j,g,H,I,f,U,_,_,_,_,_,_,⟨L,aP,l,p,i,o,m,r,av,h⟩,v⟩⟩
  ·have ad:=c.size;have J:d=sE (N+1) x room (s::ms):=by
    rw[DY (ws:=ws) (by rw[<-h.1];exact an) aD];exact h.1
   obtain⟨l,aG,m,u,R⟩:=(y.later c).put1 h;refine⟨e,by rw[<-J],l,aG,sv,vs,ma,mc,m,?_,?_⟩
   ·rw[<-J];refine(u.kept v λb a _ t=>?_).mono (λb a=>?_) (am _)
    ·rcases a with a|a
     ·have:=G b a;omega
     ·omega
    ·rcases a with a|a
     ·exact ah a
     ·exact ai (by omega)
   ·exact bT.trans ((aZ c M).trans R λ_ _ a=>a) v λb Q a=>by omega
  ·have ad:=L.size;have J:d=sE (N+1) x room (s::ms):=by
    rw[DX av];exact h.1
   obtain⟨aJ,aH,aj,u,R⟩:=r.put1 h;refine⟨e,by rw[<-J],aJ,aH,p,i,o,i.length,aj,?_,?_⟩
   ·rw[<-J];refine(u.kept v λb a _ t=>?_).mono (λb a=>?_) (am _)
    ·subst t;rcases a with(a|a)|a
     ·have:=G _ a;omega
     ·omega
     ·omega
    ·rcases a with(a|a)|a
     ·exact ah a
     ·exact ai (by omega)
     ·exact ai (by omega)
   ·refine bT.trans (L.trans R λb Q a=>?_) v λb Q a=>by omega
    rcases a with a|a
    ·exact a
    ·omega
end
theorem tx(vs:List Wd)(v:Wd):aY (vs++ [v])=aY vs++pX v:=by simp[aY]
theorem oy{P:Program}(w:World)(t ty e:TypeId)(i:TypeInfo)(y:P.underlying t=some (.slice e))(r:P.info? e=some i)(g f d k:Nat)(h:Array Value)(q:w.heap[g]?=some (.cells h e (0,0)))(a:Addr)(m c:Nat)(b:List Value)(s:b.length=m*i.size)(v:∀j u,b[j]?=some u->w.cell? (a.add j)=some u)(n:∀u∈b,u.oneCell'=true)(x:d+m<=k)(p:f+d*i.size+b.length<=h.size):(Builtin.append_ #[t,t] ty #[ae (some ⟨g,f,none⟩) d k,ae (some a) m c]).run P w= .ok (ae (some ⟨g,f,none⟩) (d+m) k) (w.setRow g (h.toList.take (f+d*i.size)++b++h.toList.drop (f+d*i.size+b.length)).toArray):=by
 have o:=run_firstCells_some (P:=P) w i.size m a m c b s v;have l:=pD P g (f+d*i.size) e b 0 h w q (by simpa using p) n;simp only[gC]at l;simp[Builtin.append_,cq y,sizeOf,typeInfo,r,Builtin.lenOf,x,o,dZ,l]
def qP(Mh:Nat->Prop)(ma:Option Addr)(vs:List Wd)(w:World)(d:Option Addr)(e:Nat)(w':World):Prop:=
 jK Mh d vs e w'/\bT (λb=>∃a,ma=some a/\b=a.block) w w'/\∀a,d=some a->(∃c,ma=some c/\a.block=c.block)\/a.block=w.heap.size
theorem KA{S:Nat->Prop}(w:World)(g:Nat)(cs:Array Value)(a:∀b,b=g->S b):bT S w (w.setRow g cs):=⟨rfl,rfl,rfl,by simp,λ_ _ c=>setRow_other _ _ _ _ λe=>c (a _ e)⟩
theorem vq{Mh:Nat->Prop}{ma:Option Addr}{w:World}(a:List Wd)(C c:Nat)(d:Value)(l:d.cells.size=2)(p:c=a.length)(f:a.length<=C)(g:C<=maxLen)(h:∀b,Mh b->b<w.heap.size):qP Mh ma a w (some ⟨w.heap.size,0,none⟩) C (w.drew.alloc (.cells ((aY a).toArray++Builtin.zeroCells d.cells (C-c)) 109)):=by
 have e:∀b,b<w.heap.size->(w.drew.alloc (.cells ((aY a).toArray++Builtin.zeroCells d.cells (C-c)) 109)).heap[b]?=w.heap[b]? :=λb e=>Below.heap_alloc w.drew _ b e;have k:(w.drew.alloc (.cells ((aY a).toArray++Builtin.zeroCells d.cells (C-c)) 109)).heap[w.heap.size]?=some (.cells ((aY a).toArray++Builtin.zeroCells d.cells (C-c)) 109):=aA w.drew _;refine⟨ai ⟨w.heap.size,0,_,rfl,λm=>?_,k,f,g,?_,?_⟩,⟨rfl,rfl,rfl,?_,λb j _=>e b j⟩,λn i=>ai (congrArg Addr.block (aw i).symm)⟩
 ·have:=h _ m;omega
 ·rw[Array.size_append,size_zeroCells,l,dO,cD];omega
 ·rw[List.drop_zero,Array.toList_append,gV (by rw[py,cD];omega),py,bA (by rw[cD];omega)]
 ·have:=iB w.drew (.cells ((aY a).toArray++Builtin.zeroCells d.cells (C-c)) 109);have o:w.drew.heap.size=w.heap.size:=rfl;omega
theorem tO{Mh:Nat->Prop}{ma:Option Addr}{vs:List Wd}{f:Nat}{w:World}(ty:TypeId)(k:jK Mh ma vs f w)(O:vs.length<=1000)(x:∀b,Mh b->b<w.heap.size)(sa:Addr)(c:Nat)(v:Wd)(q:∀j u,(pX v)[j]?=some u->w.cell? (sa.add j)=some u):∃C D w',(Builtin.append_ #[100,100] ty #[ae ma vs.length f,ae (some sa) 1 c]).run Tryz.prog w=.ok (ae C (vs.length+1) D) w'/\qP Mh ma (vs++ [v]) w C D w':=by
 obtain⟨n,p,A,h,B⟩:=bR lg;have L:∀u∈pX v,u.oneCell'=true:=by simp[pX,Value.oneCell']
 have i:(pX v).length=2:=rfl;rcases k with⟨rfl,rfl,rfl⟩|⟨e,a,d,rfl,r,m,F,s,G,t⟩
 ·have l:=run_append_nil (P:=Tryz.prog) w 100 ty 109 n _ underlying100 p A sa 1 c (pX v) (by rw[i,h]) q (by omega) (by omega) (by rw[B];omega);refine⟨_,_,_,l,?_⟩;have k:=vq (Mh:=Mh) (ma:=none) (w:=w) [v] (grownCap w 1 0 109) 1 (.agg #[ab 0,ab 0]) rfl rfl (grownCap_ge w 1 0 _) (grownCap_le_maxLen w 1 0 _ (by unfold maxLen;omega)) x;simpa [aY]using k
 ·have Q:=(aF.1 m).1;by_cases M:vs.length+1<=f
  ·have y:a+vs.length*n.size+(pX v).length<=d.size:=by rw[i,h];omega
   have l:=oy (P:=Tryz.prog) w 100 ty 109 n underlying100 p e a vs.length f d m sa 1 c (pX v) (by rw[i,h]) q L M y;refine⟨_,_,_,l,ai ⟨e,a,_,rfl,r,setRow_heap w e d _ _ _ m,?_,s,?_,?_⟩,?_,λN H=>ah ⟨_,rfl,?_⟩⟩
   ·simp only[bm,bi,iw];omega
   ·have o:d.toList.length=d.size:=ir;rw[h]at y ⊢;simp only[dO,bm,dG,eZ,o];omega
   ·rw[h];have R:(d.toList.take (a+vs.length*2)).length=a+vs.length*2:=by
     have o:d.toList.length=d.size:=ir;rw[dG,o];omega
    have J:(d.toList.take (a+vs.length*2)).drop a=aY vs:=by
     rw[List.drop_take,Nat.add_sub_cancel_left];exact t
    rw[tx,mQ,pn (by omega),J];have g:(vs++ [v]).length*2=(aY vs).length+2:=by
     rw[cD];simp only[bm,bi,iw];omega
    rw[g,List.take_length_add_append,gV (by rw[i];omega),bA (by rw[i];omega)]
   ·exact KA w e _ λb g=>⟨_,rfl,g⟩
   ·exact congrArg Addr.block (aw H).symm
  ·have l:=run_append_grow (P:=Tryz.prog) w 100 ty 109 n _ underlying100 p A ⟨e,a,none⟩ vs.length f (aY vs) (by rw[cD,h]) (λj u z=>by
     have K:jK Mh (some ⟨e,a,none⟩) vs f w:=ai ⟨e,a,d,rfl,r,m,F,s,G,t⟩;rcases K.words with g|⟨ad,g,I⟩
     ·subst g;simp[aY]at z
     ·have E:=aw g;rw[E]
      exact I j u z) sa 1 c (pX v) (by rw[i,h]) q (by omega) (by omega) (growslice_fits (by omega) (by rw[B];omega))
   refine⟨_,_,_,l,?_⟩;have k:=vq (Mh:=Mh) (ma:=some ⟨e,a,none⟩) (w:=w) (vs++ [v]) (grownCap w (vs.length+1) f 109) (vs.length+1) (.agg #[ab 0,ab 0]) rfl (by simp) (by have:=grownCap_ge w (vs.length+1) f 109;simpa using this) (grownCap_le_maxLen w _ _ _ (by unfold maxLen;omega)) x;simpa [tx]using k
theorem wV{w w':World}{v x' b:Value}{o:Oper}{a:Act}{K:Act->World->Prop}{Q:Exit->Act->World->Prop}(s x:Operand)(d:o.op=.call {callee:=.builtin .append,args:= #[s,x],argTypes:= #[100,100]})(f:a.eval s=v)(g:a.eval x=x')(e:(Builtin.append_ #[100,100] o.type #[v,x']).run Tryz.prog w=.ok b w')(c:K (a.put o.dst b) w'):Oper.wp Tryz.prog o a w K Q:=by
 unfold Oper.wp execOp;simp only[d,resolve,invoke,builtin,kQ,Sem.run_pure,kP,mS,aN,b8,f,g,e];exact c
theorem rk(g:Nat)(k i:Int)(t:ByteArray)(C:Option Addr)(E D:Nat)(L aE:Nat)(ma:Option Addr)(w:World)(F:Wd->Int->World->World->Prop)(I:Wd->World->World->Option Addr->Nat->World->Prop)(aQ:g<w.heap.size)(Z:Hid (∀w1,aj w w1->w1.cell? ⟨g,7,none⟩=some (ae ma L aE)))(ad:Hid (∀w0,aj w w0->ak 123 #[aC g,.agg #[ab k,ab i,af t,ae C E D]] w0 λe w1=>∃(v:Wd)(h:Int),e=.returned (.tuple #[.agg #[ab v.1,ab v.2],ab h])/\Hid (Up w.heap.size w0 w1/\F v h w0 w1)))(ag:Hid (∀v w0 w1,F v 0 w0 w1->∃q r,Hid (∀w2,aj w1 w2->w2.cell? ⟨g,7,none⟩=some (ae q L r)/\∀j,w2.frozen? ⟨g,j,none⟩=false)/\Hid (∀w2,aj w1 w2->∀(sa:Addr)(c:Nat),(∀j u,(pX v)[j]?=some u->w2.cell? (sa.add j)=some u)-> ∃m n d,(Builtin.append_ #[100,100] 100 #[ae q L r,ae (some sa) 1 c]).run Tryz.prog w2=.ok (ae m (L+1) n) d/\d.cell? ⟨g,7,none⟩=some (ae q L r)/\(∀j,d.frozen? ⟨g,j,none⟩=false)/\(∀b,w1.heap.size<=b->b<w2.heap.size->d.heap[b]?=w2.heap[b]?)/\I v w0 w2 m n d))):ak 85 #[aC g,.agg #[ab k,ab i,af t,ae C E D]] w λe w'=> (20<=L->e=.returned (ab 2)/\aj w w')/\(L<20->∃(v:Wd)(h:Int)(w0 w1:World),e=.returned (ab h)/\aj w w0/\F v h w0 w1/\(h≠0->aj w1 w')/\(h=0->∃w2 m n d,aj w1 w2/\I v w0 w2 m n d/\w'=(d.setCell ⟨g,7,none⟩ (ae m (L+1) n)))):=by
 have aa:=ap (xB w (.cells #[ab k,ab i,af t,ae C E D] 31) rfl);have G:Hid (aj w (w.alloc (.cells #[ab k,ab i,af t,ae C E D] 31))/\(w.alloc (.cells #[ab k,ab i,af t,ae C E D] 31)).heap.size=w.heap.size+1):=⟨by go_grown,by simp⟩;go_enter func85,ntmps85;have T:=Z w (ao _ _);rcases Nat.lt_or_ge L 20 with ar|ar
 ·have aw:¬(20:Int)<=(L:Int):=by omega
  have Q:=ap (ad _ G.1);go_wp2_with fail;refine Q.mono ?_;rintro e w1 ⟨v,h,rfl,N⟩;have R:Hid (∃w0,aj w w0/\F v h w0 w1):=⟨_,G.1,N.2⟩;obtain⟨w0,s⟩:=R.out;replace s:=ap s;clear R N Q aa G T;by_cases M:h=0;rotate_left
  ·have aN:¬(0:Int)=h:=λe=>M e.symm;go_wp2_with fail;exact av (v:=ab h) (by simp[results,results85,go_sem]) rfl ⟨λa=>by omega,λ_=>⟨v,h,w0,w1,rfl,s.1,s.2,λ_=>aO,λa=>absurd a M⟩⟩
  ·subst M;obtain⟨q,r,ah,ai⟩:=ag v w0 w1 s.2;have S:Hid (∃w2 f,(w2=w1.alloc (.cells #[ab v.1,ab v.2] 109)/\f=w1.heap.size)/\aj w1 w2/\w2.heap[f]?=some (.cells #[ab v.1,ab v.2] 109)/\w1.heap.size<=f):=⟨_,_,⟨rfl,rfl⟩,aO,aA _ _,am _⟩;go_wp2_with fail;obtain⟨w2,f,⟨Y,W⟩,o⟩:=S.out;rw[<-Y,<-W];replace o:=ap o;clear Y W S;have A:Hid (∀w':World,aj w2 w'->(w'.cell? ⟨g,7,none⟩=some (ae q L r)/\∀j,w'.frozen? ⟨g,j,none⟩=false)/\w'.cell? ⟨f,0,none⟩=some (ab v.1)/\w'.cell? ⟨f,1,none⟩=some (ab v.2)):=λw' a=>by
    have B:=(a.block f (aF.1 o.2.1).1).trans o.2.1;exact⟨ah _ (o.1.trans (a.mono o.1.size)),au B 0,au B 1⟩
   obtain⟨⟨T,aL⟩,aS,aT⟩:=A.out w2 (ao _ _);have P:Hid (aj w2 w2.drew):=(ao _ _).drew;have z:Hid (aj w2 (w2.alloc (.cells #[ab v.1,ab v.2] 109)).drew):=(show Below _ _ _ by go_grown);have O:Hid (∃m n d,(Builtin.append_ #[100,100] 100 #[ae q L r,ae (some ⟨w2.heap.size,0,none⟩) 1 1]).run Tryz.prog (w2.alloc (.cells #[ab v.1,ab v.2] 109)).drew=.ok (ae m (L+1) n) d/\d.cell? ⟨g,7,none⟩=some (ae q L r)/\(∀j,d.frozen? ⟨g,j,none⟩=false)/\(d.cell? ⟨f,0,none⟩=some (ab v.1)/\d.cell? ⟨f,1,none⟩=some (ab v.2))/\∃H,aj w1 H/\I v w0 H m n d):=by
    have V:=o.1.trans (z.mono o.1.size);have aB:=rB w2 (.cells #[ab v.1,ab v.2] 109) rfl
    obtain⟨m,n,d,aG,aH,aI,aJ,aK⟩:=ai _ V ⟨w2.heap.size,0,none⟩ 1 (λj u az=>by
     rw[dZ,cX];refine(au aB j).trans ?_;rw[<-az,<-List.getElem?_toArray]
     rfl)
    have X:=(aF.1 o.2.1).1;have B:=(aJ f o.2.2 (aR X z.size)).trans ((z.block f X).trans o.2.1);exact⟨m,n,d,aG,aH,aI,⟨au B 0,au B 1⟩,_,V,aK⟩
   obtain⟨m,n,d,K,an,aq,aD,J⟩:=O.out;replace K:=ap K;replace J:=ap J;clear O;have y:w2.drew.cell? ⟨g,7,none⟩=some (ae q L r)/\w2.drew.cell? ⟨f,0,none⟩=some (ab v.1)/\w2.drew.cell? ⟨f,1,none⟩=some (ab v.2):=⟨(A _ P).1.1,(A _ P).2⟩;have al:Hid ((w2.alloc (.cells #[ab v.1,ab v.2] 109)).drew.cell? ⟨g,7,none⟩=some (ae q L r)/\(w2.alloc (.cells #[ab v.1,ab v.2] 109)).drew.cell? ⟨f,0,none⟩=some (ab v.1)/\(w2.alloc (.cells #[ab v.1,ab v.2] 109)).drew.cell? ⟨f,1,none⟩=some (ab v.2)):=⟨(A _ z).1.1,(A _ z).2⟩;refine wp_region_noPanic ?_;refine jE (λw'=>w'.cell? ⟨g,7,none⟩=some (ae q L r)/\w'.cell? ⟨f,0,none⟩=some (ab v.1)/\w'.cell? ⟨f,1,none⟩=some (ab v.2)) 10 (by kernel_rfl) ?_
   try simp only[dO]
   refine aU (i:=0) (v:= ?_) rfl (by kernel_rfl) (by kernel_rfl) (by kernel_rfl) (by kernel_rfl) (λ_ _ _ a=>a) rfl ?_ y ?_;rotate_left
   ·intro w' l
    try dsimp only at l
    go_simp
    try with_reducible rfl
   try simp only[Act.put,bY]
   refine aU (i:=1) (v:= ?_) rfl (by kernel_rfl) (by kernel_rfl) (by kernel_rfl) (by kernel_rfl) (λ_ _ _ a=>a) rfl ?_ y ?_;rotate_left
   ·intro w' l
    try dsimp only at l
    go_simp
    try with_reducible rfl
   try simp only[Act.put]
   refine aU (i:=2) (v:= ?_) rfl (by kernel_rfl) (by kernel_rfl) (by kernel_rfl) (by kernel_rfl) (λ_ _ _ a=>a) rfl ?_ y ?_;rotate_left
   ·intro w' l
    try dsimp only at l
    go_simp
    try with_reducible rfl
   try simp only[Act.put]
   refine aU (i:=3) (v:= ?_) rfl (by kernel_rfl) (by kernel_rfl) (by kernel_rfl) (by kernel_rfl) (λ_ _ _ a=>a) rfl ?_ y ?_;rotate_left
   ·intro w' l
    try dsimp only at l
    go_simp
    try with_reducible rfl
   try simp only[Act.put]
   refine aU (i:=4) (v:= ?_) rfl (by kernel_rfl) (by kernel_rfl) (by kernel_rfl) (by kernel_rfl) (λ_ _ _ a=>a) rfl ?_ y ?_;rotate_left
   ·intro w' l
    try dsimp only at l
    go_simp
    try with_reducible rfl
   try simp only[Act.put]
   refine aU (i:=5) (v:= ?_) rfl (by kernel_rfl) (by kernel_rfl) (by kernel_rfl) (by kernel_rfl) (λ_ _ _ a=>a) rfl ?_ y ?_;rotate_left
   ·intro w' l
    try dsimp only at l
    go_simp
    try with_reducible rfl
   try simp only[Act.put]
   refine cZ (i:=6) (by kernel_rfl) rfl rfl (λx p=>?_) (by decide)
   go_simp
   refine p _ _ (λ_=>al) (λaP=>?_);clear p x
   try simp only[Act.put,bY,dn,dm]
   refine cZ (i:=7) (by kernel_rfl) rfl rfl (λx p=>?_) (by decide);refine wV (v:=ae q L r) (x':=ae (some ⟨w2.heap.size,0,none⟩) 1 1) _ _ rfl (by simp[Act.eval]) (by simp[Act.eval]) K ?_;refine p _ _ (λ_=>⟨an,aD⟩) (λU=>?_);clear p x
   try simp only[Act.put,bY]
   refine cZ (i:=8) (by kernel_rfl) rfl rfl (λx p=>?_) (by decide)
   go_simp
   refine p _ _ (λ_=>U) (λ_=>?_);clear p x
   try simp only[Act.put,bY,dn,dm]
   refine aU (i:=9) (v:= ?_) rfl (by kernel_rfl) (by kernel_rfl) (by kernel_rfl) (by kernel_rfl) (λ_ _ _ a=>a) rfl ?_ U ?_;rotate_left
   ·intro w' l
    try dsimp only at l
    go_simp
    try with_reducible rfl
   try simp only[Act.put,bY]
   have aM:=aq 7;refine jD (by kernel_rfl) rfl rfl (by kernel_rfl) (λx p=>?_)
   go_simp
   refine p _ _ (NoPanic.normal ?_);clear p x
   try simp only[Act.put,bY,dn,dm]
   go_wp2_with fail;obtain⟨H,ax,ay⟩:=J;exact av (v:=ab 0) (by simp[results,results85,go_sem]) rfl ⟨λa=>by omega,λ_=>⟨v,0,w0,w1,rfl,s.1,s.2,λa=>absurd rfl a,λ_=>⟨H,m,n,d,ax,ay,rfl⟩⟩⟩
 ·have aw:(20:Int)<=(L:Int):=by omega
  go_wp2_with fail;exact av (v:=ab 2) (by simp[results,results85,go_sem]) rfl ⟨λ_=>⟨rfl,G.1⟩,λa=>by omega⟩
end Go.Proofs.YtmmahddlcldmiaaGreat
