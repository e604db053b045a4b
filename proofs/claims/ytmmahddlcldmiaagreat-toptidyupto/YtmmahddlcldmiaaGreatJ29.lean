/- What is proved here: code.readAct of right terms that lie in memory returns what rdA says, in new memory. No condition but that. -/
import Derived.Test.YtmmahddlcldmiaaGreatJ28
namespace Go.Proofs.YtmmahddlcldmiaaGreat
open Go.RowKit Tryz
set_option maxHeartbeats 4000000
set_option maxRecDepth 100000
theorem ky(l:List UInt8):(⟨l.toArray⟩:ap).toList=l:=by rw[cE]
theorem nD(a:ap)(l:List UInt8):tg a ⟨l.toArray⟩=(a.toList==l):=by
 show (a.toList==(⟨l.toArray⟩:ap).toList)=(a.toList==l);rw[show (⟨l.toArray⟩:ap).toList=l from ky l]
variable{c B g i k l n po:Nat}{w w':ag}{a:aw}
theorem eH{w1:ag}{a b:Obj}(c:Below ((w.alloc a).alloc b).heap.size ((w.alloc a).alloc b) w1):w1.heap[w.heap.size]?=some a/\w1.heap[w.heap.size+1]?=some b/\ak w w1/\w.heap.size+2<=w1.heap.size:=by
 have f:=c.size;have e:((w.alloc a).alloc b).heap.size=w.heap.size+2:=by simp
 have d:ak w ((w.alloc a).alloc b):=by go_grown
 exact⟨(c.block _ (by omega)).trans (kw w a b).1,(c.block _ (by omega)).trans (kw w a b).2,d.trans (c.mono d.size),by omega⟩
theorem jE(M _n:Nat)(k u:Int)(s:ap)(xa:aw)(m xc:Nat)(f:ap)(a:aw)(len c:Nat)(w:ag)(o:Option (Ac (M+1)))(F:Hid (o=none)){t1 t2 b d:Bool}(H:(f.toList==[115,101,110,100])=t1)(I:(f.toList==[115,112,97,119,110])=t2)(J:(f.toList==[108,105,110,107])=b)(K:(f.toList==[115,116,111,112])=d)(E:(t1=false/\t2=false/\b=false/\d=false)\/(t1=true/\t2=false/\b=false/\d=false/\((len:Int)==2)=false)\/(t1=false/\t2=true/\b=false/\d=false/\((len:Int)==3)=false)\/(t1=false/\t2=false/\b=true/\d=false/\((len:Int)==1)=false)\/(t1=false/\t2=false/\b=false/\d=true/\((len:Int)==0)=false))(h:Hid (∀w1,ak w w1->am 104 #[.agg #[ab k,ab u,af s,ae xa m xc]] w1 λe w'=>e=.returned (.tuple #[af f,ae a len c])/\ak w1 w')):am 182 #[.agg #[ab k,ab u,af s,ae xa m xc]] w (nQ M o w):=by
 rcases E with⟨rfl,rfl,rfl,rfl⟩|⟨rfl,rfl,rfl,rfl,g⟩|⟨rfl,rfl,rfl,rfl,g⟩|⟨rfl,rfl,rfl,rfl,g⟩|⟨rfl,rfl,rfl,rfl,g⟩
 all_goals
  go_enter func182,ntmps182;go_wp2_with fail;refine(h _ (by go_grown)).mono ?_;rintro e w1 ⟨rfl,i⟩;obtain⟨G,l,j,O⟩:=eH i;have n:=au j;have p:=au l;clear i G l j h;obtain⟨⟨q,d1,t,x,y,z,A,B,C,D,r⟩,L,N⟩:=mj p;go_wp2_with fail;exact az (v:=.tuple #[.agg #[ab 0,ab 0,ab 0,af .empty,ae none 0 0,ab 0,ab 0,af .empty,ae none 0 0,af .empty,ab 0],.bool false]) (by simp[results,results182,go_sem,q,d1,t,x,y,z,A,B,C,D,r];rfl) rfl (qA F ((ku _ _ _ _ _ _ _ _ _ _ _ _ _).below n (by omega)))
theorem zQ(M _n:Nat)(k u:Int)(s:ap)(xa:aw)(j xc:Nat)(b:ap)(a:aw)(len c:Nat)(w:ag)(o:Option (Ac (M+1)))(C:Hid (o=some (4,(zT M,zT M),(.empty,0))))(E:(b.toList==[115,101,110,100])=false)(F:(b.toList==[115,112,97,119,110])=false)(G:(b.toList==[108,105,110,107])=false)(H:(b.toList==[115,116,111,112])=true)(J:((len:Int)==0)=true)(d:Hid (∀w1,ak w w1->am 104 #[.agg #[ab k,ab u,af s,ae xa j xc]] w1 λe w'=>e=.returned (.tuple #[af b,ae a len c])/\ak w1 w')):am 182 #[.agg #[ab k,ab u,af s,ae xa j xc]] w (nQ M o w):=by
 go_enter func182,ntmps182;go_wp2_with fail;refine(d _ (by go_grown)).mono ?_;rintro e w1 ⟨rfl,f⟩;obtain⟨D,i,h,L⟩:=eH f;have l:=au h;have m:=au i;clear f D i h d;obtain⟨⟨n,d1,q,r,t,x,y,z,A,B,p⟩,I,K⟩:=mj m;go_wp2_with fail;refine az (v:=.tuple #[.agg #[ab 4,ab 0,ab 0,af ⟨#[]⟩,ae none 0 0,ab 0,ab 0,af ⟨#[]⟩,ae none 0 0,af ⟨#[]⟩,ab 0],.bool true]) (by simp[results,results182,go_sem,n,d1,q,r,t,x,y,z,A,B,p]) rfl ?_;exact nG (g:=w.heap.size+1) (w2:=w1) (w:=w) (4,(zT M,zT M),(.empty,0)) _ C (ku _ _ _ _ _ _ _ _ _ _ _ _ _) l (by omega) ⟨by simp[dC],lF _ _ _,lF _ _ _,aL _,by simp[dC]⟩ ⟨ai rfl,ai rfl⟩ ⟨rfl,lQ (lF _ 0 w),lQ (lF _ 0 w),rfl⟩
theorem zO(M n:Nat)(k u:Int)(s:ap)(xa:aw)(B xc:Nat)(h:ap)(d po c:Nat)(w:ag)(y:Tm (n+1))(T:n+1<=M+1)(o:Option (Ac (M+1)))(U:Hid (o=some (3,(aY (M+1) (n+1) y,zT M),(.empty,0))))(W:(h.toList==[115,101,110,100])=false)(X:(h.toList==[115,112,97,119,110])=false)(Y:(h.toList==[108,105,110,107])=true)(_b4:(h.toList==[115,116,111,112])=false)(i:d<w.heap.size)(C:w.cell? ⟨d,po,none⟩=some (ab y.1.1))(D:w.cell? ⟨d,po+1,none⟩=some (ab y.1.2.1))(E:w.cell? ⟨d,po+2,none⟩=some (af y.1.2.2))(F:w.cell? ⟨d,po+3,none⟩=some (ae y.2.1.1 y.2.2.length y.2.1.2))(m:Hid (∀w1,ak w w1->am 104 #[.agg #[ab k,ab u,af s,ae xa B xc]] w1 λe w'=>e=.returned (.tuple #[af h,ae (some ⟨d,po,none⟩) 1 c])/\ak w1 w'))(l:Hid (∀w1,ak w w1->am 56 #[.agg #[ab y.1.1,ab y.1.2.1,af y.1.2.2,ae y.2.1.1 y.2.2.length y.2.1.2]] w1 λe w'=>∃a:Tm (n+1),e=.returned (.agg #[ab a.1.1,ab a.1.2.1,af a.1.2.2,ae a.2.1.1 a.2.2.length a.2.1.2])/\Hid (ak w1 w'/\In w'.heap.size w' (n+1) a/\cr (λq=>w1.heap.size<=q) (n+1) a/\aB (n+1) a (n+1) y=true))):am 182 #[.agg #[ab k,ab u,af s,ae xa B xc]] w (nQ M o w):=by
 go_enter func182,ntmps182;go_wp2_with fail;refine(m _ (by go_grown)).mono ?_;rintro e w1 ⟨rfl,t⟩;obtain⟨V,z,x,aj⟩:=eH t;have b:=au x;have p:=au z;clear t V z x m;replace C:=(ax b _ _ i).trans C;replace D:=(ax b _ _ i).trans D;replace E:=(ax b _ _ i).trans E;replace F:=(ax b _ _ i).trans F;have aa:d<w1.heap.size:=by omega
 go_wp2_with fail;refine(l _ b).mono ?_;rintro e w2 ⟨a,rfl,f⟩;have G:Hid (ak w w2):=b.trans (f.1.mono b.size);have r:=au ((f.1.block (w.heap.size+1) (by omega)).trans p);obtain⟨⟨H,d1,J,K,L,N,O,P,Q,R,I⟩,Z,ah⟩:=mj r;have j:=iY (M:=M) T f.2.1 (f.2.2.1.mono λq (ad:w1.heap.size<=q)=>(show w.heap.size+1<q by omega)) f.2.2.2;clear l p r;go_wp2_with fail;refine az (v:=.tuple #[.agg #[ab 3,ab a.1.1,ab a.1.2.1,af a.1.2.2,ae a.2.1.1 a.2.2.length a.2.1.2,ab 0,ab 0,af ⟨#[]⟩,ae none 0 0,af ⟨#[]⟩,ab 0],.bool true]) (by simp[results,results182,go_sem,H,d1,J,K,L,N,O,P,Q,R,I]) rfl ?_;have e:gi (M+1) (3,(aY (M+1) (n+1) a,zT M),(.empty,0))=[ab 3,ab a.1.1,ab a.1.2.1,af a.1.2.2,ae a.2.1.1 a.2.2.length a.2.1.2,ab 0,ab 0,af ⟨#[]⟩,ae none 0 0,af ⟨#[]⟩,ab 0]:=by
  show ab 3::(iy (M+1) (aY (M+1) (n+1) a)++iy (M+1) (zT M)++ [af .empty,ab 0])=_;rw[gA];rfl
 have A:=λ(w':ag)(S:bP (w.heap.size+1) w2 w')=>nG (g:=w.heap.size+1) (w2:=w2) (w:=w) (3,(aY (M+1) (n+1) a,zT M),(.empty,0)) _ U S G (by omega) ⟨by simp[dC],j.1,lF _ _ _,aL _,by simp[dC]⟩ ⟨j.2.1,ai rfl⟩ ⟨rfl,j.2.2,lQ (lF _ 0 w),rfl⟩;rw[e]at A;exact A _ (ku _ _ _ _ _ _ _ _ _ _ _ _ _)
theorem MV{y x:Nd}(d:c<g)(b:bP g w w')(k:(w.cell? ⟨c,po,none⟩=some (ab y.1.1)/\w.cell? ⟨c,po+1,none⟩=some (ab y.1.2.1)/\w.cell? ⟨c,po+2,none⟩=some (af y.1.2.2)/\w.cell? ⟨c,po+3,none⟩=some (ae y.2.1 y.2.2.1 y.2.2.2))/\(w.cell? ⟨c,po+4,none⟩=some (ab x.1.1)/\w.cell? ⟨c,po+5,none⟩=some (ab x.1.2.1)/\w.cell? ⟨c,po+6,none⟩=some (af x.1.2.2)/\w.cell? ⟨c,po+7,none⟩=some (ae x.2.1 x.2.2.1 x.2.2.2))):(w'.cell? ⟨c,po,none⟩=some (ab y.1.1)/\w'.cell? ⟨c,po+1,none⟩=some (ab y.1.2.1)/\w'.cell? ⟨c,po+2,none⟩=some (af y.1.2.2)/\w'.cell? ⟨c,po+3,none⟩=some (ae y.2.1 y.2.2.1 y.2.2.2))/\(w'.cell? ⟨c,po+4,none⟩=some (ab x.1.1)/\w'.cell? ⟨c,po+5,none⟩=some (ab x.1.2.1)/\w'.cell? ⟨c,po+6,none⟩=some (af x.1.2.2)/\w'.cell? ⟨c,po+7,none⟩=some (ae x.2.1 x.2.2.1 x.2.2.2)):=by
 have a:=λo=>ge b (show c≠g by omega) o;exact⟨⟨(a _).trans k.1.1,(a _).trans k.1.2.1,(a _).trans k.1.2.2.1,(a _).trans k.1.2.2.2⟩,(a _).trans k.2.1,(a _).trans k.2.2.1,(a _).trans k.2.2.2.1,(a _).trans k.2.2.2.2⟩
theorem zP(M n:Nat)(k u:Int)(s:ap)(xa:aw)(S xc:Nat)(l:ap)(a po c:Nat)(w:ag)(y x:Tm (n+1))(P:n+1<=M+1)(o:Option (Ac (M+1)))(ay:Hid (o=some (1,(aY (M+1) (n+1) y,aY (M+1) (n+1) x),(.empty,0))))(aF:(l.toList==[115,101,110,100])=true)(_b2:(l.toList==[115,112,97,119,110])=false)(_b3:(l.toList==[108,105,110,107])=false)(_b4:(l.toList==[115,116,111,112])=false)(h:a<w.heap.size)(F:w.cell? ⟨a,po,none⟩=some (ab y.1.1))(G:w.cell? ⟨a,po+1,none⟩=some (ab y.1.2.1))(H:w.cell? ⟨a,po+2,none⟩=some (af y.1.2.2))(I:w.cell? ⟨a,po+3,none⟩=some (ae y.2.1.1 y.2.2.length y.2.1.2))(B:w.cell? ⟨a,po+4,none⟩=some (ab x.1.1))(C:w.cell? ⟨a,po+5,none⟩=some (ab x.1.2.1))(D:w.cell? ⟨a,po+6,none⟩=some (af x.1.2.2))(E:w.cell? ⟨a,po+7,none⟩=some (ae x.2.1.1 x.2.2.length x.2.1.2))(L:Hid (∀w1,ak w w1->am 104 #[.agg #[ab k,ab u,af s,ae xa S xc]] w1 λe w'=>e=.returned (.tuple #[af l,ae (some ⟨a,po,none⟩) 2 c])/\ak w1 w'))(J:Hid (∀w1,ak w w1->am 56 #[.agg #[ab y.1.1,ab y.1.2.1,af y.1.2.2,ae y.2.1.1 y.2.2.length y.2.1.2]] w1 λe w'=>∃b:Tm (n+1),e=.returned (.agg #[ab b.1.1,ab b.1.2.1,af b.1.2.2,ae b.2.1.1 b.2.2.length b.2.1.2])/\Hid (ak w1 w'/\In w'.heap.size w' (n+1) b/\cr (λq=>w1.heap.size<=q) (n+1) b/\aB (n+1) b (n+1) y=true)))(K:Hid (∀w1,ak w w1->am 56 #[.agg #[ab x.1.1,ab x.1.2.1,af x.1.2.2,ae x.2.1.1 x.2.2.length x.2.1.2]] w1 λe w'=>∃b:Tm (n+1),e=.returned (.agg #[ab b.1.1,ab b.1.2.1,af b.1.2.2,ae b.2.1.1 b.2.2.length b.2.1.2])/\Hid (ak w1 w'/\In w'.heap.size w' (n+1) b/\cr (λq=>w1.heap.size<=q) (n+1) b/\aB (n+1) b (n+1) x=true))):am 182 #[.agg #[ab k,ab u,af s,ae xa S xc]] w (nQ M o w):=by
 go_enter func182,ntmps182;go_wp2_with fail;refine(L _ (by go_grown)).mono ?_;rintro e w1 ⟨rfl,N⟩;obtain⟨aD,Q,O,aJ⟩:=eH N;have d:=au O;have V:=au Q;clear N aD Q O L;replace F:=(ax d _ _ h).trans F;replace G:=(ax d _ _ h).trans G;replace H:=(ax d _ _ h).trans H;replace I:=(ax d _ _ h).trans I;replace B:=(ax d _ _ h).trans B;replace C:=(ax d _ _ h).trans C;replace D:=(ax d _ _ h).trans D;replace E:=(ax d _ _ h).trans E;have aA:a<w1.heap.size:=by omega
 have p:Hid (∀w',ak w1 w'->(w'.cell? ⟨a,po,none⟩=some (ab y.1.1)/\w'.cell? ⟨a,po+1,none⟩=some (ab y.1.2.1)/\w'.cell? ⟨a,po+2,none⟩=some (af y.1.2.2)/\w'.cell? ⟨a,po+3,none⟩=some (ae y.2.1.1 y.2.2.length y.2.1.2))/\(w'.cell? ⟨a,po+4,none⟩=some (ab x.1.1)/\w'.cell? ⟨a,po+5,none⟩=some (ab x.1.2.1)/\w'.cell? ⟨a,po+6,none⟩=some (af x.1.2.2)/\w'.cell? ⟨a,po+7,none⟩=some (ae x.2.1.1 x.2.2.length x.2.1.2))):=λw' ao=>by
  have f:=λo=>ax ao a o aA;exact⟨⟨(f _).trans F,(f _).trans G,(f _).trans H,(f _).trans I⟩,(f _).trans B,(f _).trans C,(f _).trans D,(f _).trans E⟩
 go_wp2_with fail
 go_region_held3 (λw'=>(w'.cell? ⟨a,po,none⟩=some (ab y.1.1)/\w'.cell? ⟨a,po+1,none⟩=some (ab y.1.2.1)/\w'.cell? ⟨a,po+2,none⟩=some (af y.1.2.2)/\w'.cell? ⟨a,po+3,none⟩=some (ae y.2.1.1 y.2.2.length y.2.1.2))/\(w'.cell? ⟨a,po+4,none⟩=some (ab x.1.1)/\w'.cell? ⟨a,po+5,none⟩=some (ab x.1.2.1)/\w'.cell? ⟨a,po+6,none⟩=some (af x.1.2.2)/\w'.cell? ⟨a,po+7,none⟩=some (ae x.2.1.1 x.2.2.length x.2.1.2))) (first|with_reducible assumption|with_reducible exact p.out _ m.out|with_reducible exact p.out _ j.out|with_reducible exact U.out _ (ku _ _ _ _ _ _ _ _ _ _ _ _ _)|exact p.out _ (aq _ _).drew)
  ((first
   | (go_at_call 56;refine(J _ d.drew).mono ?_;rintro e w2 ⟨b,rfl,r⟩;have j:=au (cR r.1);clear J)
   | (go_at_call 56;refine(K _ (d.trans (j.mono d.size))).mono ?_;rintro e t ⟨q,rfl,i⟩;have m:=au (j.trans (i.1.mono j.size));clear K;have W:=au ((m.block (w.heap.size+1) (by omega)).trans V);obtain⟨⟨X,d1,Z,aa,ad,ah,ai,aj,al,an,Y⟩,aG,aI⟩:=mj W;have U:Hid (∀w',bP (w.heap.size+1) t w'->(w'.cell? ⟨a,po,none⟩=some (ab y.1.1)/\w'.cell? ⟨a,po+1,none⟩=some (ab y.1.2.1)/\w'.cell? ⟨a,po+2,none⟩=some (af y.1.2.2)/\w'.cell? ⟨a,po+3,none⟩=some (ae y.2.1.1 y.2.2.length y.2.1.2))/\(w'.cell? ⟨a,po+4,none⟩=some (ab x.1.1)/\w'.cell? ⟨a,po+5,none⟩=some (ab x.1.2.1)/\w'.cell? ⟨a,po+6,none⟩=some (af x.1.2.2)/\w'.cell? ⟨a,po+7,none⟩=some (ae x.2.1.1 x.2.2.length x.2.1.2))):=(λaE av=>MV (y:=bI n y) (x:=bI n x) (show a<w.heap.size+1 by omega) av (p _ m)))))
 go_wp2_with fail;have T:Hid (ak w t):=d.trans (m.mono d.size);have aH:w1.heap.size<=w2.heap.size:=j.size;have z:=iY (M:=M) P ((r.2.1.below i.1).mono i.1.size) (r.2.2.1.mono λq (aC:w1.heap.size<=q)=>(show w.heap.size+1<q by omega)) r.2.2.2;have A:=iY (M:=M) P i.2.1 (i.2.2.1.mono λq (aC:w2.heap.size<=q)=>(show w.heap.size+1<q by omega)) i.2.2.2;refine az (v:=.tuple #[.agg #[ab 1,ab b.1.1,ab b.1.2.1,af b.1.2.2,ae b.2.1.1 b.2.2.length b.2.1.2,ab q.1.1,ab q.1.2.1,af q.1.2.2,ae q.2.1.1 q.2.2.length q.2.1.2,af ⟨#[]⟩,ab 0],.bool true]) (by simp[results,results182,go_sem,X,d1,Z,aa,ad,ah,ai,aj,al,an,Y]) rfl ?_;have e:gi (M+1) (1,(aY (M+1) (n+1) b,aY (M+1) (n+1) q),(.empty,0))=[ab 1,ab b.1.1,ab b.1.2.1,af b.1.2.2,ae b.2.1.1 b.2.2.length b.2.1.2,ab q.1.1,ab q.1.2.1,af q.1.2.2,ae q.2.1.1 q.2.2.length q.2.1.2,af ⟨#[]⟩,ab 0]:=by
  show ab 1::(iy (M+1) (aY (M+1) (n+1) b)++iy (M+1) (aY (M+1) (n+1) q)++ [af .empty,ab 0])=_;rw[gA,gA];rfl
 have R:=λ(w':ag)(ar:bP (w.heap.size+1) t w')=>nG (g:=w.heap.size+1) (w2:=t) (w:=w) (1,(aY (M+1) (n+1) b,aY (M+1) (n+1) q),(.empty,0)) _ ay ar T (by omega) ⟨by simp[dC],z.1,A.1,aL _,by simp[dC]⟩ ⟨z.2.1,A.2.1⟩ ⟨rfl,z.2.2,A.2.2,rfl⟩;rw[e]at R;exact R _ (ku _ _ _ _ _ _ _ _ _ _ _ _ _)
theorem MW{y x t:Tm (n+1)}(d:c<g)(b:bP g w w')(k:(w.cell? ⟨c,po,none⟩=some (ab y.1.1)/\w.cell? ⟨c,po+1,none⟩=some (ab y.1.2.1)/\w.cell? ⟨c,po+2,none⟩=some (af y.1.2.2)/\w.cell? ⟨c,po+3,none⟩=some (ae y.2.1.1 y.2.2.length y.2.1.2))/\(w.cell? ⟨c,po+4,none⟩=some (ab x.1.1)/\w.cell? ⟨c,po+5,none⟩=some (ab x.1.2.1)/\w.cell? ⟨c,po+6,none⟩=some (af x.1.2.2)/\w.cell? ⟨c,po+7,none⟩=some (ae x.2.1.1 x.2.2.length x.2.1.2))/\(w.cell? ⟨c,po+8,none⟩=some (ab t.1.1)/\w.cell? ⟨c,po+9,none⟩=some (ab t.1.2.1)/\w.cell? ⟨c,po+10,none⟩=some (af t.1.2.2)/\w.cell? ⟨c,po+11,none⟩=some (ae t.2.1.1 t.2.2.length t.2.1.2))):(w'.cell? ⟨c,po,none⟩=some (ab y.1.1)/\w'.cell? ⟨c,po+1,none⟩=some (ab y.1.2.1)/\w'.cell? ⟨c,po+2,none⟩=some (af y.1.2.2)/\w'.cell? ⟨c,po+3,none⟩=some (ae y.2.1.1 y.2.2.length y.2.1.2))/\(w'.cell? ⟨c,po+4,none⟩=some (ab x.1.1)/\w'.cell? ⟨c,po+5,none⟩=some (ab x.1.2.1)/\w'.cell? ⟨c,po+6,none⟩=some (af x.1.2.2)/\w'.cell? ⟨c,po+7,none⟩=some (ae x.2.1.1 x.2.2.length x.2.1.2))/\(w'.cell? ⟨c,po+8,none⟩=some (ab t.1.1)/\w'.cell? ⟨c,po+9,none⟩=some (ab t.1.2.1)/\w'.cell? ⟨c,po+10,none⟩=some (af t.1.2.2)/\w'.cell? ⟨c,po+11,none⟩=some (ae t.2.1.1 t.2.2.length t.2.1.2)):=by
 have a:=λo=>ge b (show c≠g by omega) o;exact⟨⟨(a _).trans k.1.1,(a _).trans k.1.2.1,(a _).trans k.1.2.2.1,(a _).trans k.1.2.2.2⟩,⟨(a _).trans k.2.1.1,(a _).trans k.2.1.2.1,(a _).trans k.2.1.2.2.1,(a _).trans k.2.1.2.2.2⟩,(a _).trans k.2.2.1,(a _).trans k.2.2.2.1,(a _).trans k.2.2.2.2.1,(a _).trans k.2.2.2.2.2⟩
theorem wP(M n:Nat)(k u:Int)(s:ap)(xa:aw)(T xc:Nat)(j:ap)(d po c:Nat)(w:ag)(y x t:Tm (n+1))(o:Option (Ac (M+1)))(aD:(j.toList==[115,101,110,100])=false)(aE:(j.toList==[115,112,97,119,110])=true)(_b3:(j.toList==[108,105,110,107])=false)(_b4:(j.toList==[115,116,111,112])=false)(h:d<w.heap.size)(G:w.cell? ⟨d,po,none⟩=some (ab y.1.1))(H:w.cell? ⟨d,po+1,none⟩=some (ab y.1.2.1))(I:w.cell? ⟨d,po+2,none⟩=some (af y.1.2.2))(J:w.cell? ⟨d,po+3,none⟩=some (ae y.2.1.1 y.2.2.length y.2.1.2))(C:w.cell? ⟨d,po+4,none⟩=some (ab x.1.1))(D:w.cell? ⟨d,po+5,none⟩=some (ab x.1.2.1))(E:w.cell? ⟨d,po+6,none⟩=some (af x.1.2.2))(F:w.cell? ⟨d,po+7,none⟩=some (ae x.2.1.1 x.2.2.length x.2.1.2))(q:w.cell? ⟨d,po+8,none⟩=some (ab t.1.1))(r:w.cell? ⟨d,po+9,none⟩=some (ab t.1.2.1))(z:w.cell? ⟨d,po+10,none⟩=some (af t.1.2.2))(A:w.cell? ⟨d,po+11,none⟩=some (ae t.2.1.1 t.2.2.length t.2.1.2))(L:Hid (∀w1,ak w w1->am 104 #[.agg #[ab k,ab u,af s,ae xa T xc]] w1 λe w'=>e=.returned (.tuple #[af j,ae (some ⟨d,po,none⟩) 3 c])/\ak w1 w'))(K:Hid (∀w1,ak w w1->am 196 #[.agg #[ab y.1.1,ab y.1.2.1,af y.1.2.2,ae y.2.1.1 y.2.2.length y.2.1.2],.agg #[ab x.1.1,ab x.1.2.1,af x.1.2.2,ae x.2.1.1 x.2.2.length x.2.1.2],.agg #[ab t.1.1,ab t.1.2.1,af t.1.2.2,ae t.2.1.1 t.2.2.length t.2.1.2]] w1 (nQ M o w1))):am 182 #[.agg #[ab k,ab u,af s,ae xa T xc]] w (nQ M o w):=by
 go_enter func182,ntmps182;go_wp2_with fail;refine(L _ (by go_grown)).mono ?_;rintro e w1 ⟨rfl,O⟩;obtain⟨aB,S,Q,aI⟩:=eH O;have f:=au Q;have W:=au S;clear O aB S Q L;replace G:=(ax f _ _ h).trans G;replace H:=(ax f _ _ h).trans H;replace I:=(ax f _ _ h).trans I;replace J:=(ax f _ _ h).trans J;replace C:=(ax f _ _ h).trans C;replace D:=(ax f _ _ h).trans D;replace E:=(ax f _ _ h).trans E;replace F:=(ax f _ _ h).trans F;replace q:=(ax f _ _ h).trans q;replace r:=(ax f _ _ h).trans r;replace z:=(ax f _ _ h).trans z;replace A:=(ax f _ _ h).trans A;have aA:d<w1.heap.size:=by omega
 have p:Hid (∀w',ak w1 w'->(w'.cell? ⟨d,po,none⟩=some (ab y.1.1)/\w'.cell? ⟨d,po+1,none⟩=some (ab y.1.2.1)/\w'.cell? ⟨d,po+2,none⟩=some (af y.1.2.2)/\w'.cell? ⟨d,po+3,none⟩=some (ae y.2.1.1 y.2.2.length y.2.1.2))/\(w'.cell? ⟨d,po+4,none⟩=some (ab x.1.1)/\w'.cell? ⟨d,po+5,none⟩=some (ab x.1.2.1)/\w'.cell? ⟨d,po+6,none⟩=some (af x.1.2.2)/\w'.cell? ⟨d,po+7,none⟩=some (ae x.2.1.1 x.2.2.length x.2.1.2))/\(w'.cell? ⟨d,po+8,none⟩=some (ab t.1.1)/\w'.cell? ⟨d,po+9,none⟩=some (ab t.1.2.1)/\w'.cell? ⟨d,po+10,none⟩=some (af t.1.2.2)/\w'.cell? ⟨d,po+11,none⟩=some (ae t.2.1.1 t.2.2.length t.2.1.2))):=λw' av=>by
  have g:=λo=>ax av d o aA;exact⟨⟨(g _).trans G,(g _).trans H,(g _).trans I,(g _).trans J⟩,⟨(g _).trans C,(g _).trans D,(g _).trans E,(g _).trans F⟩,(g _).trans q,(g _).trans r,(g _).trans z,(g _).trans A⟩
 go_wp2_with fail
 go_region_held3 (λw'=>(w'.cell? ⟨d,po,none⟩=some (ab y.1.1)/\w'.cell? ⟨d,po+1,none⟩=some (ab y.1.2.1)/\w'.cell? ⟨d,po+2,none⟩=some (af y.1.2.2)/\w'.cell? ⟨d,po+3,none⟩=some (ae y.2.1.1 y.2.2.length y.2.1.2))/\(w'.cell? ⟨d,po+4,none⟩=some (ab x.1.1)/\w'.cell? ⟨d,po+5,none⟩=some (ab x.1.2.1)/\w'.cell? ⟨d,po+6,none⟩=some (af x.1.2.2)/\w'.cell? ⟨d,po+7,none⟩=some (ae x.2.1.1 x.2.2.length x.2.1.2))/\(w'.cell? ⟨d,po+8,none⟩=some (ab t.1.1)/\w'.cell? ⟨d,po+9,none⟩=some (ab t.1.2.1)/\w'.cell? ⟨d,po+10,none⟩=some (af t.1.2.2)/\w'.cell? ⟨d,po+11,none⟩=some (ae t.2.1.1 t.2.2.length t.2.1.2))) (first|with_reducible assumption|with_reducible exact p.out _ l.out|with_reducible exact V.out _ (ku _ _ _ _ _ _ _ _ _ _ _ _ _)|exact p.out _ (aq _ _).drew)
  ((go_at_call 196;refine(K _ f.drew).mono ?_;rintro e B ⟨a,b,rfl,i⟩;have N:Value.agg (gi (M+1) a).toArray=.agg #[ab a.1,ab a.2.1.1.1.1,ab a.2.1.1.1.2.1,af a.2.1.1.1.2.2,ae a.2.1.1.2.1.1 a.2.1.1.2.2.length a.2.1.1.2.1.2,ab a.2.1.2.1.1,ab a.2.1.2.1.2.1,af a.2.1.2.1.2.2,ae a.2.1.2.2.1.1 a.2.1.2.2.2.length a.2.1.2.2.1.2,af a.2.2.1,ab a.2.2.2]:=rfl;rw[N];clear N;have l:=au (cR i.1);clear K;have X:=au ((l.block (w.heap.size+1) (by omega)).trans W);obtain⟨⟨Z,d1,ad,ah,ai,aj,al,an,ao,ar,aa⟩,aF,aH⟩:=mj X;have V:=au (λY (ay:bP (w.heap.size+1) B Y)=>MW (y:=y) (x:=x) (t:=t) (show d<w.heap.size+1 by omega) ay (p _ l))))
 go_wp2_with fail;have U:Hid (ak w B):=f.trans (l.mono f.size);refine az (v:=.tuple #[.agg #[ab a.1,ab a.2.1.1.1.1,ab a.2.1.1.1.2.1,af a.2.1.1.1.2.2,ae a.2.1.1.2.1.1 a.2.1.1.2.2.length a.2.1.1.2.1.2,ab a.2.1.2.1.1,ab a.2.1.2.1.2.1,af a.2.1.2.1.2.2,ae a.2.1.2.2.1.1 a.2.1.2.2.2.length a.2.1.2.2.1.2,af a.2.2.1,ab a.2.2.2],.bool b]) (by simp[results,results182,go_sem,Z,d1,ad,ah,ai,aj,al,an,ao,ar,aa]) rfl ?_;have aC:∀w',bP (w.heap.size+1) B w'->nQ M o w (.returned (.tuple #[.agg #[ab a.1,ab a.2.1.1.1.1,ab a.2.1.1.1.2.1,af a.2.1.1.1.2.2,ae a.2.1.1.2.1.1 a.2.1.1.2.2.length a.2.1.1.2.1.2,ab a.2.1.2.1.1,ab a.2.1.2.1.2.1,af a.2.1.2.1.2.2,ae a.2.1.2.2.1.1 a.2.1.2.2.2.length a.2.1.2.2.1.2,af a.2.2.1,ab a.2.2.2],.bool b])) w':=λw' R=>⟨a,b,rfl,R.below U (by omega),i.2.1,R.stays (fO _) (P:=λm=>w1.heap.size<=m) (by omega) i.2.2.2.1 i.2.2.1,(fO _).1 _ _ _ (λm (aG:w1.heap.size<=m)=>(show w.heap.size<=m by omega)) i.2.2.2.1,i.2.2.2.2⟩;exact aC _ (ku _ _ _ _ _ _ _ _ _ _ _ _ _)
theorem iu{q:List (Tm (n+1))}(a:fM B w (n+1) q (some ⟨c,po,none⟩)){y:Tm (n+1)}(e:q[i]?=some y):dH w c (po+i*4) (n+1) y/\In B w (n+1) y/\c<B:=by
 rcases a with a|⟨b,o,d,h,a⟩
 ·subst a;simp at e
 ·injection d with d;injection d with f g;subst f g;exact⟨(a i y e).1,(a i y e).2,h⟩
theorem sh{q:List (Tm 0)}(b:fM B w 0 q a){y:Tm 0}(c:q[i]?=some y):False:=by
 rcases b with b|⟨_,_,_,_,b⟩
 ·subst b;simp at c
 ·exact(b i y c).1
theorem rE{q:List (Tm n)}(c:fM B w n q a)(e:0<q.length):∃b o,a=some ⟨b,o,none⟩:=by
 rcases c with c|⟨b,o,d,_⟩
 ·subst c;simp at e
 ·exact⟨b,o,d⟩
theorem eG{x:Tm (n+1)}(b:aI ⟨n+1,x⟩){y:Tm n}(a:y∈bS n x):aI ⟨n,y⟩:=by
 unfold bS at a;split at a
 ·split at a
  ·split at a
   ·exact bf n x y b (List.mem_of_mem_drop a)
   ·cases a
  ·cases a
 ·cases a
theorem rM(n:Nat)(x:Tm (n+1))(B:Nat)(w:ag)(D:In B w (n+1) x)(J:B<=w.heap.size):∃a c,fM B w n (bS n x) a/\(bS n x).length<=c/\c<=9223372036854775807/\∀w1,ak w w1->am 104 #[.agg #[ab x.1.1,ab x.1.2.1,af x.1.2.2,ae x.2.1.1 x.2.2.length x.2.1.2]] w1 λe w'=>e=.returned (.tuple #[af (fl n x),.slice a (bS n x).length c])/\ak w1 w':=by
 obtain⟨⟨k,h,g⟩,⟨a,c⟩,f⟩:=x;obtain⟨⟨_,_,_,s,y⟩,i⟩:=D;simp only at s y i ⊢;have C:c<=9223372036854775807:=by unfold maxLen at y;omega
 by_cases t:k=4
 ·subst t;rcases i with i|⟨b,o,rfl,A,i⟩
  ·subst i;exact⟨none,0,ai rfl,ao _,aL _,λw1 _=>BN h g a c w1⟩
  ·cases f with
   | nil=>exact⟨none,0,ai rfl,ao _,aL _,λw1 _=>BN h g _ c w1⟩
   | cons d f=>
    obtain⟨r,I⟩:=i 0 d rfl;cases n with
    | zero=>exact r.elim
    | succ n=>
    obtain⟨u,G,z,H⟩:=r;by_cases l:d.1.1=2
    ·have p:fl (n+1) ((4,h,g),(some ⟨b,o,none⟩,c),d::f)=d.1.2.2:=by simp[fl,b8,l,gu,bI]
     have q:bS (n+1) ((4,h,g),(some ⟨b,o,none⟩,c),d::f)=f:=by simp[bS,b8,l]
     rw[p,q];refine⟨if c=1 then some ⟨b,o,none⟩else some ⟨b,o+4,none⟩,c-1,?_,by simp at s;omega,by omega,λw1 m=>?_⟩
     ·by_cases r:c=1
      ·exact ai (bJ (by simp at s;omega))
      ·rw[if_neg r];refine aj ⟨b,o+4,rfl,A,λv F E=>?_⟩;have:=i (v+1) F (by simpa using E);rw[show o+4+v*4=o+(v+1)*4 by omega];exact this
     ·have j:b<w.heap.size:=by omega
      have d:=G6 h g b o (d::f).length c (by simp) s C d.1.2.2 w1 (aW j m.size) ((ax m _ _ j).trans (by rw[l]at u;simpa using u)) ((ax m _ _ j).trans (by simpa using z));exact d
    ·have p:fl (n+1) ((4,h,g),(some ⟨b,o,none⟩,c),d::f)=⟨#[]⟩:=by simp[fl,b8,l];rfl
     have q:bS (n+1) ((4,h,g),(some ⟨b,o,none⟩,c),d::f)=[]:=by simp[bS,b8,l]
     rw[p,q];have j:b<w.heap.size:=by omega
     exact⟨none,0,ai rfl,ao _,aL _,λw1 m=>DQ h g b o (d::f).length c (by simp) d.1.1 (by simpa using l) w1 (aW j m.size) ((ax m _ _ j).trans (by simpa using u))⟩
 ·have p:fl n ((k,h,g),(a,c),f)=⟨#[]⟩:=by simp[fl,t];rfl
  have q:bS n ((k,h,g),(a,c),f)=[]:=by simp[bS,t]
  rw[p,q];exact⟨none,0,ai rfl,ao _,aL _,λw1 _=>G7 k h g a f.length c w1 (by simpa using t)⟩
theorem mw{y:Tm (n+1)}(f:In B w (n+1) y)(d:aI ⟨n+1,y⟩)(c:B<=w.heap.size):∀w1,ak w w1->am 56 #[.agg #[ab y.1.1,ab y.1.2.1,af y.1.2.2,ae y.2.1.1 y.2.2.length y.2.1.2]] w1 λe w'=>∃a:Tm (n+1),e=.returned (.agg #[ab a.1.1,ab a.1.2.1,af a.1.2.2,ae a.2.1.1 a.2.2.length a.2.1.2])/\Hid (ak w1 w'/\In w'.heap.size w' (n+1) a/\cr (λq=>w1.heap.size<=q) (n+1) a/\aB (n+1) a (n+1) y=true):=
 λw1 b=>ip (n+1) y B w1 (f.below (b.mono c)) (aD c b.size) d
theorem oO{a:Bool}(b:¬a=true):a=false:=by cases a<;>simp_all
theorem Om(a:l=k):((l:Int)==(k:Int))=true:=by simp[a]
theorem vp(a:¬l=k):((l:Int)==(k:Int))=false:=by simp;omega
theorem B5(M n:Nat)(an:n<=M+1)(x:Tm n)(B:Nat)(w:ag)(S:In B w n x)(aa:aI ⟨n,x⟩)(r:B<=w.heap.size):am 182 #[dw n x] w (nQ M (sK M n x) w):=by
 cases n with
 | zero=>exact S.elim
 | succ n=>
 obtain⟨z,c,o,al,ak,m⟩:=rM n x B w S r;show am 182 #[.agg #[ab x.1.1,ab x.1.2.1,af x.1.2.2,ae x.2.1.1 x.2.2.length x.2.1.2]] w (nQ M (jT M n (fl n x) (bS n x)) w);have G:∀j∈bS n x,aI ⟨n,j⟩:=λj k=>eG aa k;generalize fl n x=a at*;generalize bS n x=d at*;have p:tg a mR=(a.toList==[115,101,110,100]):=nD a [115,101,110,100];have q:tg a jj=(a.toList==[115,112,97,119,110]):=nD a [115,112,97,119,110];have u:tg a mQ=(a.toList==[108,105,110,107]):=nD a [108,105,110,107];have y:tg a lW=(a.toList==[115,116,111,112]):=nD a [115,116,111,112];have ne:∀(l P:List UInt8),(l==P)=false->(a.toList==l)=true->(a.toList==P)=false:=λl P A Y=>by
  have T:a.toList=l:=by simpa using Y
  rw[T];exact A
 have get:∀J,J<d.length->∃j,d[J]?=some j:=λJ Z=>⟨d[J],aM Z⟩;by_cases b:(a.toList==[115,101,110,100])=true
 ·have e:=ne _ [115,112,97,119,110] (by decide) b;have f:=ne _ [108,105,110,107] (by decide) b;have g:=ne _ [115,116,111,112] (by decide) b;by_cases h:d.length=2
  ·obtain⟨j,k⟩:=get 0 (by omega);obtain⟨s,v⟩:=get 1 (by omega);have i:jT M n a d=some (1,(aY (M+1) n j,aY (M+1) n s),(.empty,0)):=by
    unfold jT;rw[if_pos (by rw[p,b,h];rfl),k,v];rfl
   rw[i];rw[h]at m;obtain⟨I,po,rfl⟩:=rE o (by omega);cases n with
   | zero=>exact(sh o k).elim
   | succ n=>
   obtain⟨⟨C,D,E,F⟩,H,Q⟩:=iu o k;obtain⟨⟨K,d1,L,N⟩,O,_⟩:=iu o v;exact zP M n _ _ _ _ _ _ a I po c w j s (by omega) _ rfl b e f g (by omega) (by simpa using C) (by simpa using D) (by simpa using E) (by simpa using F) (by simpa using K) (by simpa using d1) (by simpa using L) (by simpa using N) m (mw H (G j (aN k)) r) (mw O (G s (aN v)) r)
  ·have i:jT M n a d=none:=by simp[jT,p,q,u,y,e,f,g,h]
   exact jE M n _ _ _ _ _ _ a z d.length c w _ i b e f g (aj (ai ⟨rfl,rfl,rfl,rfl,vp h⟩)) m
 replace b:=oO b;by_cases e:(a.toList==[115,112,97,119,110])=true
 ·have f:=ne _ [108,105,110,107] (by decide) e;have g:=ne _ [115,116,111,112] (by decide) e;by_cases h:d.length=3
  ·obtain⟨j,k⟩:=get 0 (by omega);obtain⟨s,v⟩:=get 1 (by omega);obtain⟨t,R⟩:=get 2 (by omega);have i:jT M n a d=zM M n j s t:=by
    unfold jT;rw[if_neg (by rw[p,b];simp),if_pos (by rw[q,e,h];rfl),k,v,R];rfl
   rw[i];rw[h]at m;obtain⟨I,po,rfl⟩:=rE o (by omega);cases n with
   | zero=>exact(sh o k).elim
   | succ n=>
   obtain⟨⟨C,D,E,F⟩,H,Q⟩:=iu o k;obtain⟨⟨K,d1,L,N⟩,O,_⟩:=iu o v;obtain⟨⟨U,V,W,X⟩,ad,_⟩:=iu o R;exact wP M n _ _ _ _ _ _ a I po c w j s t _ b e f g (by omega) (by simpa using C) (by simpa using D) (by simpa using E) (by simpa using F) (by simpa using K) (by simpa using d1) (by simpa using L) (by simpa using N) (by simpa using U) (by simpa using V) (by simpa using W) (by simpa using X) m (λah A=>wR M n (by omega) j s t B ah (H.below (A.mono r)) (O.below (A.mono r)) (ad.below (A.mono r)) (G j (aN k)) (G s (aN v)) (aD r A.size))
  ·have i:jT M n a d=none:=by simp[jT,p,q,u,y,b,f,g,h]
   exact jE M n _ _ _ _ _ _ a z d.length c w _ i b e f g (aj (aj (ai ⟨rfl,rfl,rfl,rfl,vp h⟩))) m
 replace e:=oO e;by_cases f:(a.toList==[108,105,110,107])=true
 ·have g:=ne _ [115,116,111,112] (by decide) f;by_cases h:d.length=1
  ·obtain⟨j,k⟩:=get 0 (by omega);have i:jT M n a d=some (3,(aY (M+1) n j,zT M),(.empty,0)):=by
    unfold jT;rw[if_neg (by rw[p,b];simp),if_neg (by rw[q,e];simp),if_pos (by rw[u,f,h];rfl),k];rfl
   rw[i];rw[h]at m;obtain⟨I,po,rfl⟩:=rE o (by omega);cases n with
   | zero=>exact(sh o k).elim
   | succ n=>
   obtain⟨⟨C,D,E,F⟩,H,Q⟩:=iu o k;exact zO M n _ _ _ _ _ _ a I po c w j (by omega) _ rfl b e f g (by omega) (by simpa using C) (by simpa using D) (by simpa using E) (by simpa using F) m (mw H (G j (aN k)) r)
  ·have i:jT M n a d=none:=by simp[jT,p,q,u,y,b,e,g,h]
   exact jE M n _ _ _ _ _ _ a z d.length c w _ i b e f g (aj (aj (aj (ai ⟨rfl,rfl,rfl,rfl,vp h⟩)))) m
 replace f:=oO f;by_cases g:(a.toList==[115,116,111,112])=true
 ·by_cases h:d.length=0
  ·have i:jT M n a d=some (4,(zT M,zT M),(.empty,0)):=by simp[jT,p,q,u,y,b,e,f,g,h]
   rw[i];exact zQ M n _ _ _ _ _ _ a z d.length c w _ rfl b e f g (Om h) m
  ·have i:jT M n a d=none:=by simp[jT,p,q,u,y,b,e,f,h]
   exact jE M n _ _ _ _ _ _ a z d.length c w _ i b e f g (aj (aj (aj (aj ⟨rfl,rfl,rfl,rfl,vp h⟩)))) m
 replace g:=oO g;have i:jT M n a d=none:=by simp[jT,p,q,u,y,b,e,f,g]
 exact jE M n _ _ _ _ _ _ a z d.length c w _ i b e f g (ai ⟨rfl,rfl,rfl,rfl⟩) m
end Go.Proofs.YtmmahddlcldmiaaGreat
