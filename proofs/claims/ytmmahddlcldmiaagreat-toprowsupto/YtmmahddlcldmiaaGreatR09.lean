/- What is proved here: code.readAct of right terms that lie in memory returns what rdA says, in new memory. No condition but that. -/
import Derived.Test.YtmmahddlcldmiaaGreatR08
namespace Go.Proofs.YtmmahddlcldmiaaGreat
open Go.RowKit Go.Proofs.Tryz
set_option maxHeartbeats 4000000
set_option maxRecDepth 100000
theorem kG(l:List UInt8):(⟨l.toArray⟩:ap).toList=l:=by rw[cF]
theorem nQ(a:ap)(l:List UInt8):tH a ⟨l.toArray⟩=(a.toList==l):=by
 show (a.toList==(⟨l.toArray⟩:ap).toList)=(a.toList==l);rw[show (⟨l.toArray⟩:ap).toList=l from kG l]
theorem eN{w w1:ag}{a b:Obj}(c:Below ((w.alloc a).alloc b).heap.size ((w.alloc a).alloc b) w1):w1.heap[w.heap.size]?=some a/\w1.heap[w.heap.size+1]?=some b/\am w w1/\w.heap.size+2<=w1.heap.size:=by
 have f:=c.size;have e:((w.alloc a).alloc b).heap.size=w.heap.size+2:=by simp
 have d:am w ((w.alloc a).alloc b):=by go_grown
 exact⟨(c.block _ (by omega)).trans (kF w a b).1,(c.block _ (by omega)).trans (kF w a b).2,d.trans (c.mono d.size),by omega⟩
theorem jP(M _n:Nat)(k j:Int)(s:ap)(xa:au)(l xc:Nat)(b:ap)(a:au)(len c:Nat)(w:ag)(o:Option (Ac (M+1)))(q:Hid (o=none)){t1 t2 t3 t4:Bool}(t:(b.toList==[115,101,110,100])=t1)(u:(b.toList==[115,112,97,119,110])=t2)(x:(b.toList==[108,105,110,107])=t3)(y:(b.toList==[115,116,111,112])=t4)(p:(t1=false/\t2=false/\t3=false/\t4=false)\/(t1=true/\t2=false/\t3=false/\t4=false/\((len:Int)==2)=false)\/(t1=false/\t2=true/\t3=false/\t4=false/\((len:Int)==3)=false)\/(t1=false/\t2=false/\t3=true/\t4=false/\((len:Int)==1)=false)\/(t1=false/\t2=false/\t3=false/\t4=true/\((len:Int)==0)=false))(f:Hid (∀w1,am w w1->ao 104 #[.agg #[ab k,ab j,af s,ae xa l xc]] w1 λe w'=>e=.returned (.tuple #[af b,ae a len c])/\am w1 w')):ao 182 #[.agg #[ab k,ab j,af s,ae xa l xc]] w (og M o w):=by
 rcases p with⟨rfl,rfl,rfl,rfl⟩|⟨rfl,rfl,rfl,rfl,d⟩|⟨rfl,rfl,rfl,rfl,d⟩|⟨rfl,rfl,rfl,rfl,d⟩|⟨rfl,rfl,rfl,rfl,d⟩
 all_goals
  go_enter func182,ntmps182;go_wp2_with fail;refine(f _ (by go_grown)).mono ?_;rintro e w1 ⟨rfl,g⟩;obtain⟨r,i,h,A⟩:=eN g;have m:=aq h;have n:=aq i;clear g r i h f;obtain⟨⟨d0,d1,d2,d3,d4,d5,d6,d7,d8,d9,d10⟩,f0,z⟩:=mJ n;go_wp2_with fail;exact ay (v:=.tuple #[.agg #[ab 0,ab 0,ab 0,af .empty,ae none 0 0,ab 0,ab 0,af .empty,ae none 0 0,af .empty,ab 0],.bool false]) (by simp[results,results182,go_sem,d0,d1,d2,d3,d4,d5,d6,d7,d8,d9,d10];rfl) rfl (qL q ((kD _ _ _ _ _ _ _ _ _ _ _ _ _).below m (by omega)))
theorem Av(M _n:Nat)(k j:Int)(s:ap)(xa:au)(l xc:Nat)(b:ap)(a:au)(len c:Nat)(w:ag)(o:Option (Ac (M+1)))(p:Hid (o=some (4,(zT M,zT M),(.empty,0))))(r:(b.toList==[115,101,110,100])=false)(t:(b.toList==[115,112,97,119,110])=false)(u:(b.toList==[108,105,110,107])=false)(x:(b.toList==[115,116,111,112])=true)(y:((len:Int)==0)=true)(d:Hid (∀w1,am w w1->ao 104 #[.agg #[ab k,ab j,af s,ae xa l xc]] w1 λe w'=>e=.returned (.tuple #[af b,ae a len c])/\am w1 w')):ao 182 #[.agg #[ab k,ab j,af s,ae xa l xc]] w (og M o w):=by
 go_enter func182,ntmps182;go_wp2_with fail;refine(d _ (by go_grown)).mono ?_;rintro e w1 ⟨rfl,f⟩;obtain⟨q,i,h,A⟩:=eN f;have m:=aq h;have n:=aq i;clear f q i h d;obtain⟨⟨d0,d1,d2,d3,d4,d5,d6,d7,d8,d9,d10⟩,f0,z⟩:=mJ n;go_wp2_with fail;refine ay (v:=.tuple #[.agg #[ab 4,ab 0,ab 0,af ⟨#[]⟩,ae none 0 0,ab 0,ab 0,af ⟨#[]⟩,ae none 0 0,af ⟨#[]⟩,ab 0],.bool true]) (by simp[results,results182,go_sem,d0,d1,d2,d3,d4,d5,d6,d7,d8,d9,d10]) rfl ?_;exact nT (g:=w.heap.size+1) (w2:=w1) (w:=w) (4,(zT M,zT M),(.empty,0)) _ p (kD _ _ _ _ _ _ _ _ _ _ _ _ _) m (by omega) ⟨by simp[dI],lR _ _ _,lR _ _ _,aM _,by simp[dI]⟩ ⟨aj rfl,aj rfl⟩ ⟨rfl,mg (lR _ 0 w),mg (lR _ 0 w),rfl⟩
theorem As(M n:Nat)(k A:Int)(s:ap)(xa:au)(B xc:Nat)(h:ap)(d po c:Nat)(w:ag)(y:Tm (n+1))(I:n+1<=M+1)(o:Option (Ac (M+1)))(J:Hid (o=some (3,(aZ (M+1) (n+1) y,zT M),(.empty,0))))(L:(h.toList==[115,101,110,100])=false)(N:(h.toList==[115,112,97,119,110])=false)(O:(h.toList==[108,105,110,107])=true)(_b4:(h.toList==[115,116,111,112])=false)(i:d<w.heap.size)(C:ah w d po (ab y.1.1))(D:ah w d (po+1) (ab y.1.2.1))(E:ah w d (po+2) (af y.1.2.2))(F:ah w d (po+3) (ae y.2.1.1 y.2.2.length y.2.1.2))(m:Hid (∀w1,am w w1->ao 104 #[.agg #[ab k,ab A,af s,ae xa B xc]] w1 λe w'=>e=.returned (.tuple #[af h,ae (some ⟨d,po,none⟩) 1 c])/\am w1 w'))(l:Hid (∀w1,am w w1->ao 56 #[.agg #[ab y.1.1,ab y.1.2.1,af y.1.2.2,ae y.2.1.1 y.2.2.length y.2.1.2]] w1 λe w'=>∃a:Tm (n+1),e=.returned (.agg #[ab a.1.1,ab a.1.2.1,af a.1.2.2,ae a.2.1.1 a.2.2.length a.2.1.2])/\Hid (am w1 w'/\In w'.heap.size w' (n+1) a/\cv (λq=>w1.heap.size<=q) (n+1) a/\aB (n+1) a (n+1) y=true))):ao 182 #[.agg #[ab k,ab A,af s,ae xa B xc]] w (og M o w):=by
 go_enter func182,ntmps182;go_wp2_with fail;refine(m _ (by go_grown)).mono ?_;rintro e w1 ⟨rfl,t⟩;obtain⟨K,x,u,S⟩:=eN t;have b:=aq u;have p:=aq x;clear t K x u m;replace C:=(aw b _ _ i).trans C;replace D:=(aw b _ _ i).trans D;replace E:=(aw b _ _ i).trans E;replace F:=(aw b _ _ i).trans F;have P:d<w1.heap.size:=by omega
 go_wp2_with fail;refine(l _ b).mono ?_;rintro e w2 ⟨a,rfl,f⟩;have G:Hid (am w w2):=b.trans (f.1.mono b.size);have r:=aq ((f.1.block (w.heap.size+1) (by omega)).trans p);obtain⟨⟨d0,d1,d2,d3,d4,d5,d6,d7,d8,d9,d10⟩,f0,R⟩:=mJ r;have j:=jl (M:=M) I f.2.1 (f.2.2.1.mono λq (Q:w1.heap.size<=q)=>(show w.heap.size+1<q by omega)) f.2.2.2;clear l p r;go_wp2_with fail;refine ay (v:=.tuple #[.agg #[ab 3,ab a.1.1,ab a.1.2.1,af a.1.2.2,ae a.2.1.1 a.2.2.length a.2.1.2,ab 0,ab 0,af ⟨#[]⟩,ae none 0 0,af ⟨#[]⟩,ab 0],.bool true]) (by simp[results,results182,go_sem,d0,d1,d2,d3,d4,d5,d6,d7,d8,d9,d10]) rfl ?_;have e:gC (M+1) (3,(aZ (M+1) (n+1) a,zT M),(.empty,0))=[ab 3,ab a.1.1,ab a.1.2.1,af a.1.2.2,ae a.2.1.1 a.2.2.length a.2.1.2,ab 0,ab 0,af ⟨#[]⟩,ae none 0 0,af ⟨#[]⟩,ab 0]:=by
  show ab 3::(iL (M+1) (aZ (M+1) (n+1) a)++iL (M+1) (zT M)++ [af .empty,ab 0])=_;rw[gN];rfl
 have z:=λ(w':ag)(H:bR (w.heap.size+1) w2 w')=>nT (g:=w.heap.size+1) (w2:=w2) (w:=w) (3,(aZ (M+1) (n+1) a,zT M),(.empty,0)) _ J H G (by omega) ⟨by simp[dI],j.1,lR _ _ _,aM _,by simp[dI]⟩ ⟨j.2.1,aj rfl⟩ ⟨rfl,j.2.2,mg (lR _ 0 w),rfl⟩;rw[e]at z;exact z _ (kD _ _ _ _ _ _ _ _ _ _ _ _ _)
theorem NT{g a po:Nat}{w w':ag}{y x:Nd}(d:a<g)(c:bR g w w')(k:(ah w a po (ab y.1.1)/\ah w a (po+1) (ab y.1.2.1)/\ah w a (po+2) (af y.1.2.2)/\ah w a (po+3) (ae y.2.1 y.2.2.1 y.2.2.2))/\(ah w a (po+4) (ab x.1.1)/\ah w a (po+5) (ab x.1.2.1)/\ah w a (po+6) (af x.1.2.2)/\ah w a (po+7) (ae x.2.1 x.2.2.1 x.2.2.2))):(ah w' a po (ab y.1.1)/\ah w' a (po+1) (ab y.1.2.1)/\ah w' a (po+2) (af y.1.2.2)/\ah w' a (po+3) (ae y.2.1 y.2.2.1 y.2.2.2))/\(ah w' a (po+4) (ab x.1.1)/\ah w' a (po+5) (ab x.1.2.1)/\ah w' a (po+6) (af x.1.2.2)/\ah w' a (po+7) (ae x.2.1 x.2.2.1 x.2.2.2)):=by
 have b:=λo=>gu c (show a≠g by omega) o;exact⟨⟨(b _).trans k.1.1,(b _).trans k.1.2.1,(b _).trans k.1.2.2.1,(b _).trans k.1.2.2.2⟩,(b _).trans k.2.1,(b _).trans k.2.2.1,(b _).trans k.2.2.2.1,(b _).trans k.2.2.2.2⟩
theorem Au(M n:Nat)(k R:Int)(s:ap)(xa:au)(S xc:Nat)(l:ap)(a po c:Nat)(w:ag)(y x:Tm (n+1))(O:n+1<=M+1)(o:Option (Ac (M+1)))(aa:Hid (o=some (1,(aZ (M+1) (n+1) y,aZ (M+1) (n+1) x),(.empty,0))))(al:(l.toList==[115,101,110,100])=true)(_b2:(l.toList==[115,112,97,119,110])=false)(_b3:(l.toList==[108,105,110,107])=false)(_b4:(l.toList==[115,116,111,112])=false)(h:a<w.heap.size)(E:ah w a po (ab y.1.1))(F:ah w a (po+1) (ab y.1.2.1))(G:ah w a (po+2) (af y.1.2.2))(H:ah w a (po+3) (ae y.2.1.1 y.2.2.length y.2.1.2))(A:ah w a (po+4) (ab x.1.1))(B:ah w a (po+5) (ab x.1.2.1))(C:ah w a (po+6) (af x.1.2.2))(D:ah w a (po+7) (ae x.2.1.1 x.2.2.length x.2.1.2))(K:Hid (∀w1,am w w1->ao 104 #[.agg #[ab k,ab R,af s,ae xa S xc]] w1 λe w'=>e=.returned (.tuple #[af l,ae (some ⟨a,po,none⟩) 2 c])/\am w1 w'))(I:Hid (∀w1,am w w1->ao 56 #[.agg #[ab y.1.1,ab y.1.2.1,af y.1.2.2,ae y.2.1.1 y.2.2.length y.2.1.2]] w1 λe w'=>∃b:Tm (n+1),e=.returned (.agg #[ab b.1.1,ab b.1.2.1,af b.1.2.2,ae b.2.1.1 b.2.2.length b.2.1.2])/\Hid (am w1 w'/\In w'.heap.size w' (n+1) b/\cv (λq=>w1.heap.size<=q) (n+1) b/\aB (n+1) b (n+1) y=true)))(J:Hid (∀w1,am w w1->ao 56 #[.agg #[ab x.1.1,ab x.1.2.1,af x.1.2.2,ae x.2.1.1 x.2.2.length x.2.1.2]] w1 λe w'=>∃b:Tm (n+1),e=.returned (.agg #[ab b.1.1,ab b.1.2.1,af b.1.2.2,ae b.2.1.1 b.2.2.length b.2.1.2])/\Hid (am w1 w'/\In w'.heap.size w' (n+1) b/\cv (λq=>w1.heap.size<=q) (n+1) b/\aB (n+1) b (n+1) x=true))):ao 182 #[.agg #[ab k,ab R,af s,ae xa S xc]] w (og M o w):=by
 go_enter func182,ntmps182;go_wp2_with fail;refine(K _ (by go_grown)).mono ?_;rintro e w1 ⟨rfl,L⟩;obtain⟨aj,P,N,av⟩:=eN L;have d:=aq N;have V:=aq P;clear L aj P N K;replace E:=(aw d _ _ h).trans E;replace F:=(aw d _ _ h).trans F;replace G:=(aw d _ _ h).trans G;replace H:=(aw d _ _ h).trans H;replace A:=(aw d _ _ h).trans A;replace B:=(aw d _ _ h).trans B;replace C:=(aw d _ _ h).trans C;replace D:=(aw d _ _ h).trans D;have ad:a<w1.heap.size:=by omega
 have p:Hid (∀w',am w1 w'->(ah w' a po (ab y.1.1)/\ah w' a (po+1) (ab y.1.2.1)/\ah w' a (po+2) (af y.1.2.2)/\ah w' a (po+3) (ae y.2.1.1 y.2.2.length y.2.1.2))/\(ah w' a (po+4) (ab x.1.1)/\ah w' a (po+5) (ab x.1.2.1)/\ah w' a (po+6) (af x.1.2.2)/\ah w' a (po+7) (ae x.2.1.1 x.2.2.length x.2.1.2))):=λw' X=>by
  have f:=λo=>aw X a o ad;exact⟨⟨(f _).trans E,(f _).trans F,(f _).trans G,(f _).trans H⟩,(f _).trans A,(f _).trans B,(f _).trans C,(f _).trans D⟩
 go_wp2_with fail
 go_region_held3 (λw'=>(ah w' a po (ab y.1.1)/\ah w' a (po+1) (ab y.1.2.1)/\ah w' a (po+2) (af y.1.2.2)/\ah w' a (po+3) (ae y.2.1.1 y.2.2.length y.2.1.2))/\(ah w' a (po+4) (ab x.1.1)/\ah w' a (po+5) (ab x.1.2.1)/\ah w' a (po+6) (af x.1.2.2)/\ah w' a (po+7) (ae x.2.1.1 x.2.2.length x.2.1.2))) (first|with_reducible assumption|with_reducible exact p.out _ m.out|with_reducible exact p.out _ j.out|with_reducible exact U.out _ (kD _ _ _ _ _ _ _ _ _ _ _ _ _)|exact p.out _ (aA _ _).drew)
  ((first
   | (go_at_call 56;refine(I _ d.drew).mono ?_;rintro e w2 ⟨b,rfl,r⟩;have j:=aq (cW r.1);clear I)
   | (go_at_call 56;refine(J _ (d.trans (j.mono d.size))).mono ?_;rintro e t ⟨q,rfl,i⟩;have m:=aq (j.trans (i.1.mono j.size));clear J;have W:=aq ((m.block (w.heap.size+1) (by omega)).trans V);obtain⟨⟨d0,d1,d2,d3,d4,d5,d6,d7,d8,d9,d10⟩,f0,ar⟩:=mJ W;have U:Hid (∀w',bR (w.heap.size+1) t w'->(ah w' a po (ab y.1.1)/\ah w' a (po+1) (ab y.1.2.1)/\ah w' a (po+2) (af y.1.2.2)/\ah w' a (po+3) (ae y.2.1.1 y.2.2.length y.2.1.2))/\(ah w' a (po+4) (ab x.1.1)/\ah w' a (po+5) (ab x.1.2.1)/\ah w' a (po+6) (af x.1.2.2)/\ah w' a (po+7) (ae x.2.1.1 x.2.2.length x.2.1.2))):=(λak Z=>NT (y:=bL n y) (x:=bL n x) (show a<w.heap.size+1 by omega) Z (p _ m)))))
 go_wp2_with fail;have T:Hid (am w t):=d.trans (m.mono d.size);have an:w1.heap.size<=w2.heap.size:=j.size;have u:=jl (M:=M) O ((r.2.1.below i.1).mono i.1.size) (r.2.2.1.mono λq (ai:w1.heap.size<=q)=>(show w.heap.size+1<q by omega)) r.2.2.2;have z:=jl (M:=M) O i.2.1 (i.2.2.1.mono λq (ai:w2.heap.size<=q)=>(show w.heap.size+1<q by omega)) i.2.2.2;refine ay (v:=.tuple #[.agg #[ab 1,ab b.1.1,ab b.1.2.1,af b.1.2.2,ae b.2.1.1 b.2.2.length b.2.1.2,ab q.1.1,ab q.1.2.1,af q.1.2.2,ae q.2.1.1 q.2.2.length q.2.1.2,af ⟨#[]⟩,ab 0],.bool true]) (by simp[results,results182,go_sem,d0,d1,d2,d3,d4,d5,d6,d7,d8,d9,d10]) rfl ?_;have e:gC (M+1) (1,(aZ (M+1) (n+1) b,aZ (M+1) (n+1) q),(.empty,0))=[ab 1,ab b.1.1,ab b.1.2.1,af b.1.2.2,ae b.2.1.1 b.2.2.length b.2.1.2,ab q.1.1,ab q.1.2.1,af q.1.2.2,ae q.2.1.1 q.2.2.length q.2.1.2,af ⟨#[]⟩,ab 0]:=by
  show ab 1::(iL (M+1) (aZ (M+1) (n+1) b)++iL (M+1) (aZ (M+1) (n+1) q)++ [af .empty,ab 0])=_;rw[gN,gN];rfl
 have Q:=λ(w':ag)(Y:bR (w.heap.size+1) t w')=>nT (g:=w.heap.size+1) (w2:=t) (w:=w) (1,(aZ (M+1) (n+1) b,aZ (M+1) (n+1) q),(.empty,0)) _ aa Y T (by omega) ⟨by simp[dI],u.1,z.1,aM _,by simp[dI]⟩ ⟨u.2.1,z.2.1⟩ ⟨rfl,u.2.2,z.2.2,rfl⟩;rw[e]at Q;exact Q _ (kD _ _ _ _ _ _ _ _ _ _ _ _ _)
theorem NU{n g a po:Nat}{w w':ag}{y x t:Tm (n+1)}(d:a<g)(c:bR g w w')(k:(ah w a po (ab y.1.1)/\ah w a (po+1) (ab y.1.2.1)/\ah w a (po+2) (af y.1.2.2)/\ah w a (po+3) (ae y.2.1.1 y.2.2.length y.2.1.2))/\(ah w a (po+4) (ab x.1.1)/\ah w a (po+5) (ab x.1.2.1)/\ah w a (po+6) (af x.1.2.2)/\ah w a (po+7) (ae x.2.1.1 x.2.2.length x.2.1.2))/\(ah w a (po+8) (ab t.1.1)/\ah w a (po+9) (ab t.1.2.1)/\ah w a (po+10) (af t.1.2.2)/\ah w a (po+11) (ae t.2.1.1 t.2.2.length t.2.1.2))):(ah w' a po (ab y.1.1)/\ah w' a (po+1) (ab y.1.2.1)/\ah w' a (po+2) (af y.1.2.2)/\ah w' a (po+3) (ae y.2.1.1 y.2.2.length y.2.1.2))/\(ah w' a (po+4) (ab x.1.1)/\ah w' a (po+5) (ab x.1.2.1)/\ah w' a (po+6) (af x.1.2.2)/\ah w' a (po+7) (ae x.2.1.1 x.2.2.length x.2.1.2))/\(ah w' a (po+8) (ab t.1.1)/\ah w' a (po+9) (ab t.1.2.1)/\ah w' a (po+10) (af t.1.2.2)/\ah w' a (po+11) (ae t.2.1.1 t.2.2.length t.2.1.2)):=by
 have b:=λo=>gu c (show a≠g by omega) o;exact⟨⟨(b _).trans k.1.1,(b _).trans k.1.2.1,(b _).trans k.1.2.2.1,(b _).trans k.1.2.2.2⟩,⟨(b _).trans k.2.1.1,(b _).trans k.2.1.2.1,(b _).trans k.2.1.2.2.1,(b _).trans k.2.1.2.2.2⟩,(b _).trans k.2.2.1,(b _).trans k.2.2.2.1,(b _).trans k.2.2.2.2.1,(b _).trans k.2.2.2.2.2⟩
theorem xv(M n:Nat)(k S:Int)(s:ap)(xa:au)(T xc:Nat)(j:ap)(d po c:Nat)(w:ag)(y x t:Tm (n+1))(o:Option (Ac (M+1)))(ak:(j.toList==[115,101,110,100])=false)(al:(j.toList==[115,112,97,119,110])=true)(_b3:(j.toList==[108,105,110,107])=false)(_b4:(j.toList==[115,116,111,112])=false)(h:d<w.heap.size)(F:ah w d po (ab y.1.1))(G:ah w d (po+1) (ab y.1.2.1))(H:ah w d (po+2) (af y.1.2.2))(I:ah w d (po+3) (ae y.2.1.1 y.2.2.length y.2.1.2))(B:ah w d (po+4) (ab x.1.1))(C:ah w d (po+5) (ab x.1.2.1))(D:ah w d (po+6) (af x.1.2.2))(E:ah w d (po+7) (ae x.2.1.1 x.2.2.length x.2.1.2))(q:ah w d (po+8) (ab t.1.1))(r:ah w d (po+9) (ab t.1.2.1))(u:ah w d (po+10) (af t.1.2.2))(z:ah w d (po+11) (ae t.2.1.1 t.2.2.length t.2.1.2))(K:Hid (∀w1,am w w1->ao 104 #[.agg #[ab k,ab S,af s,ae xa T xc]] w1 λe w'=>e=.returned (.tuple #[af j,ae (some ⟨d,po,none⟩) 3 c])/\am w1 w'))(J:Hid (∀w1,am w w1->ao 196 #[.agg #[ab y.1.1,ab y.1.2.1,af y.1.2.2,ae y.2.1.1 y.2.2.length y.2.1.2],.agg #[ab x.1.1,ab x.1.2.1,af x.1.2.2,ae x.2.1.1 x.2.2.length x.2.1.2],.agg #[ab t.1.1,ab t.1.2.1,af t.1.2.2,ae t.2.1.1 t.2.2.length t.2.1.2]] w1 (og M o w1))):ao 182 #[.agg #[ab k,ab S,af s,ae xa T xc]] w (og M o w):=by
 go_enter func182,ntmps182;go_wp2_with fail;refine(K _ (by go_grown)).mono ?_;rintro e w1 ⟨rfl,N⟩;obtain⟨ai,R,O,av⟩:=eN N;have f:=aq O;have W:=aq R;clear N ai R O K;replace F:=(aw f _ _ h).trans F;replace G:=(aw f _ _ h).trans G;replace H:=(aw f _ _ h).trans H;replace I:=(aw f _ _ h).trans I;replace B:=(aw f _ _ h).trans B;replace C:=(aw f _ _ h).trans C;replace D:=(aw f _ _ h).trans D;replace E:=(aw f _ _ h).trans E;replace q:=(aw f _ _ h).trans q;replace r:=(aw f _ _ h).trans r;replace u:=(aw f _ _ h).trans u;replace z:=(aw f _ _ h).trans z;have ad:d<w1.heap.size:=by omega
 have p:Hid (∀w',am w1 w'->(ah w' d po (ab y.1.1)/\ah w' d (po+1) (ab y.1.2.1)/\ah w' d (po+2) (af y.1.2.2)/\ah w' d (po+3) (ae y.2.1.1 y.2.2.length y.2.1.2))/\(ah w' d (po+4) (ab x.1.1)/\ah w' d (po+5) (ab x.1.2.1)/\ah w' d (po+6) (af x.1.2.2)/\ah w' d (po+7) (ae x.2.1.1 x.2.2.length x.2.1.2))/\(ah w' d (po+8) (ab t.1.1)/\ah w' d (po+9) (ab t.1.2.1)/\ah w' d (po+10) (af t.1.2.2)/\ah w' d (po+11) (ae t.2.1.1 t.2.2.length t.2.1.2))):=λw' Z=>by
  have g:=λo=>aw Z d o ad;exact⟨⟨(g _).trans F,(g _).trans G,(g _).trans H,(g _).trans I⟩,⟨(g _).trans B,(g _).trans C,(g _).trans D,(g _).trans E⟩,(g _).trans q,(g _).trans r,(g _).trans u,(g _).trans z⟩
 go_wp2_with fail
 go_region_held3 (λw'=>(ah w' d po (ab y.1.1)/\ah w' d (po+1) (ab y.1.2.1)/\ah w' d (po+2) (af y.1.2.2)/\ah w' d (po+3) (ae y.2.1.1 y.2.2.length y.2.1.2))/\(ah w' d (po+4) (ab x.1.1)/\ah w' d (po+5) (ab x.1.2.1)/\ah w' d (po+6) (af x.1.2.2)/\ah w' d (po+7) (ae x.2.1.1 x.2.2.length x.2.1.2))/\(ah w' d (po+8) (ab t.1.1)/\ah w' d (po+9) (ab t.1.2.1)/\ah w' d (po+10) (af t.1.2.2)/\ah w' d (po+11) (ae t.2.1.1 t.2.2.length t.2.1.2))) (first|with_reducible assumption|with_reducible exact p.out _ l.out|with_reducible exact V.out _ (kD _ _ _ _ _ _ _ _ _ _ _ _ _)|exact p.out _ (aA _ _).drew)
  ((go_at_call 196;refine(J _ f.drew).mono ?_;rintro e A ⟨a,b,rfl,i⟩;have L:Value.agg (gC (M+1) a).toArray=.agg #[ab a.1,ab a.2.1.1.1.1,ab a.2.1.1.1.2.1,af a.2.1.1.1.2.2,ae a.2.1.1.2.1.1 a.2.1.1.2.2.length a.2.1.1.2.1.2,ab a.2.1.2.1.1,ab a.2.1.2.1.2.1,af a.2.1.2.1.2.2,ae a.2.1.2.2.1.1 a.2.1.2.2.2.length a.2.1.2.2.1.2,af a.2.2.1,ab a.2.2.2]:=rfl;rw[L];clear L;have l:=aq (cW i.1);clear J;have X:=aq ((l.block (w.heap.size+1) (by omega)).trans W);obtain⟨⟨d0,d1,d2,d3,d4,d5,d6,d7,d8,d9,d10⟩,f0,ar⟩:=mJ X;have V:=aq (λY (aa:bR (w.heap.size+1) A Y)=>NU (y:=y) (x:=x) (t:=t) (show d<w.heap.size+1 by omega) aa (p _ l))))
 go_wp2_with fail;have U:Hid (am w A):=f.trans (l.mono f.size);refine ay (v:=.tuple #[.agg #[ab a.1,ab a.2.1.1.1.1,ab a.2.1.1.1.2.1,af a.2.1.1.1.2.2,ae a.2.1.1.2.1.1 a.2.1.1.2.2.length a.2.1.1.2.1.2,ab a.2.1.2.1.1,ab a.2.1.2.1.2.1,af a.2.1.2.1.2.2,ae a.2.1.2.2.1.1 a.2.1.2.2.2.length a.2.1.2.2.1.2,af a.2.2.1,ab a.2.2.2],.bool b]) (by simp[results,results182,go_sem,d0,d1,d2,d3,d4,d5,d6,d7,d8,d9,d10]) rfl ?_;have aj:∀w',bR (w.heap.size+1) A w'->og M o w (.returned (.tuple #[.agg #[ab a.1,ab a.2.1.1.1.1,ab a.2.1.1.1.2.1,af a.2.1.1.1.2.2,ae a.2.1.1.2.1.1 a.2.1.1.2.2.length a.2.1.1.2.1.2,ab a.2.1.2.1.1,ab a.2.1.2.1.2.1,af a.2.1.2.1.2.2,ae a.2.1.2.2.1.1 a.2.1.2.2.2.length a.2.1.2.2.1.2,af a.2.2.1,ab a.2.2.2],.bool b])) w':=λw' Q=>⟨a,b,rfl,Q.below U (by omega),i.2.1,Q.stays (fV _) (P:=λm=>w1.heap.size<=m) (by omega) i.2.2.2.1 i.2.2.1,(fV _).1 _ _ _ (λm (an:w1.heap.size<=m)=>(show w.heap.size<=m by omega)) i.2.2.2.1,i.2.2.2.2⟩;exact aj _ (kD _ _ _ _ _ _ _ _ _ _ _ _ _)
theorem iI{n B:Nat}{w:ag}{q:List (Tm (n+1))}{e po:Nat}(a:fU B w (n+1) q (some ⟨e,po,none⟩)){i:Nat}{y:Tm (n+1)}(d:q[i]?=some y):dC w e (po+i*4) (n+1) y/\In B w (n+1) y/\e<B:=by
 rcases a with a|⟨b,o,c,h,a⟩
 ·subst a;simp at d
 ·injection c with c;injection c with f g;subst f g;exact⟨(a i y d).1,(a i y d).2,h⟩
theorem sH{B:Nat}{w:ag}{q:List (Tm 0)}{a:au}(b:fU B w 0 q a){i:Nat}{y:Tm 0}(c:q[i]?=some y):False:=by
 rcases b with b|⟨_,_,_,_,b⟩
 ·subst b;simp at c
 ·exact(b i y c).1
theorem rQ{n B:Nat}{w:ag}{q:List (Tm n)}{a:au}(c:fU B w n q a)(e:0<q.length):∃b o,a=some ⟨b,o,none⟩:=by
 rcases c with c|⟨b,o,d,_⟩
 ·subst c;simp at e
 ·exact⟨b,o,d⟩
theorem eM{n:Nat}{x:Tm (n+1)}(b:aJ ⟨n+1,x⟩){y:Tm n}(a:y∈bV n x):aJ ⟨n,y⟩:=by
 unfold bV at a;split at a
 ·split at a
  ·split at a
   ·exact bi n x y b (List.mem_of_mem_drop a)
   ·cases a
  ·cases a
 ·cases a
theorem r7(n:Nat)(x:Tm (n+1))(B:Nat)(w:ag)(D:In B w (n+1) x)(J:B<=w.heap.size):∃a c,fU B w n (bV n x) a/\(bV n x).length<=c/\c<=9223372036854775807/\∀w1,am w w1->ao 104 #[.agg #[ab x.1.1,ab x.1.2.1,af x.1.2.2,ae x.2.1.1 x.2.2.length x.2.1.2]] w1 λe w'=>e=.returned (.tuple #[af (ft n x),.slice a (bV n x).length c])/\am w1 w':=by
 obtain⟨⟨k,h,g⟩,⟨a,c⟩,f⟩:=x;obtain⟨⟨_,_,_,s,y⟩,i⟩:=D;simp only at s y i ⊢;have C:c<=9223372036854775807:=by unfold maxLen at y;omega
 by_cases t:k=4
 ·subst t;rcases i with i|⟨b,o,rfl,A,i⟩
  ·subst i;exact⟨none,0,aj rfl,av _,aM _,λw1 _=>Ci h g a c w1⟩
  ·cases f with
   | nil=>exact⟨none,0,aj rfl,av _,aM _,λw1 _=>Ci h g _ c w1⟩
   | cons d f=>
    obtain⟨r,I⟩:=i 0 d rfl;cases n with
    | zero=>exact r.elim
    | succ n=>
    obtain⟨u,G,z,H⟩:=r;by_cases l:d.1.1=2
    ·have p:ft (n+1) ((4,h,g),(some ⟨b,o,none⟩,c),d::f)=d.1.2.2:=by simp[ft,b8,l,gF,bL]
     have q:bV (n+1) ((4,h,g),(some ⟨b,o,none⟩,c),d::f)=f:=by simp[bV,b8,l]
     rw[p,q];refine⟨if c=1 then some ⟨b,o,none⟩else some ⟨b,o+4,none⟩,c-1,?_,by simp at s;omega,by omega,λw1 m=>?_⟩
     ·by_cases r:c=1
      ·exact aj (bI (by simp at s;omega))
      ·rw[if_neg r];refine ak ⟨b,o+4,rfl,A,λv F E=>?_⟩;have:=i (v+1) F (by simpa using E);rw[show o+4+v*4=o+(v+1)*4 by omega];exact this
     ·have j:b<w.heap.size:=by omega
      have d:=Ip h g b o (d::f).length c (by simp) s C d.1.2.2 w1 (aW j m.size) ((aw m _ _ j).trans (by rw[l]at u;simpa using u)) ((aw m _ _ j).trans (by simpa using z));exact d
    ·have p:ft (n+1) ((4,h,g),(some ⟨b,o,none⟩,c),d::f)=⟨#[]⟩:=by simp[ft,b8,l];rfl
     have q:bV (n+1) ((4,h,g),(some ⟨b,o,none⟩,c),d::f)=[]:=by simp[bV,b8,l]
     rw[p,q];have j:b<w.heap.size:=by omega
     exact⟨none,0,aj rfl,av _,aM _,λw1 m=>Eu h g b o (d::f).length c (by simp) d.1.1 (by simpa using l) w1 (aW j m.size) ((aw m _ _ j).trans (by simpa using u))⟩
 ·have p:ft n ((k,h,g),(a,c),f)=⟨#[]⟩:=by simp[ft,t];rfl
  have q:bV n ((k,h,g),(a,c),f)=[]:=by simp[bV,t]
  rw[p,q];exact⟨none,0,aj rfl,av _,aM _,λw1 _=>Iq k h g a f.length c w1 (by simpa using t)⟩
theorem mP{n:Nat}{y:Tm (n+1)}{B:Nat}{w:ag}(f:In B w (n+1) y)(d:aJ ⟨n+1,y⟩)(c:B<=w.heap.size):∀w1,am w w1->ao 56 #[.agg #[ab y.1.1,ab y.1.2.1,af y.1.2.2,ae y.2.1.1 y.2.2.length y.2.1.2]] w1 λe w'=>∃a:Tm (n+1),e=.returned (.agg #[ab a.1.1,ab a.1.2.1,af a.1.2.2,ae a.2.1.1 a.2.2.length a.2.1.2])/\Hid (am w1 w'/\In w'.heap.size w' (n+1) a/\cv (λq=>w1.heap.size<=q) (n+1) a/\aB (n+1) a (n+1) y=true):=
 λw1 b=>iG (n+1) y B w1 (f.below (b.mono c)) (aF c b.size) d
theorem o7{a:Bool}(b:¬a=true):a=false:=by cases a<;>simp_all
theorem Pg{l k:Nat}(a:l=k):((l:Int)==(k:Int))=true:=by simp[a]
theorem vP{l k:Nat}(a:¬l=k):((l:Int)==(k:Int))=false:=by simp;omega
theorem Cy(M n:Nat)(ah:n<=M+1)(x:Tm n)(B:Nat)(w:ag)(P:In B w n x)(X:aJ ⟨n,x⟩)(r:B<=w.heap.size):ao 182 #[dB n x] w (og M (td M n x) w):=by
 cases n with
 | zero=>exact P.elim
 | succ n=>
 obtain⟨z,c,o,ad,aa,m⟩:=r7 n x B w P r;show ao 182 #[.agg #[ab x.1.1,ab x.1.2.1,af x.1.2.2,ae x.2.1.1 x.2.2.length x.2.1.2]] w (og M (j0 M n (ft n x) (bV n x)) w);have G:∀j∈bV n x,aJ ⟨n,j⟩:=λj k=>eM X k;generalize ft n x=a at*;generalize bV n x=d at*;have p:tH a ni=(a.toList==[115,101,110,100]):=nQ a [115,101,110,100];have q:tH a jt=(a.toList==[115,112,97,119,110]):=nQ a [115,112,97,119,110];have u:tH a nh=(a.toList==[108,105,110,107]):=nQ a [108,105,110,107];have y:tH a mu=(a.toList==[115,116,111,112]):=nQ a [115,116,111,112];have ne:∀(l L:List UInt8),(l==L)=false->(a.toList==l)=true->(a.toList==L)=false:=λl L A V=>by
  have Q:a.toList=l:=by simpa using V
  rw[Q];exact A
 have get:∀J,J<d.length->∃j,d[J]?=some j:=λJ W=>⟨d[J],aN W⟩;by_cases b:(a.toList==[115,101,110,100])=true
 ·have e:=ne _ [115,112,97,119,110] (by decide) b;have f:=ne _ [108,105,110,107] (by decide) b;have g:=ne _ [115,116,111,112] (by decide) b;by_cases h:d.length=2
  ·obtain⟨j,k⟩:=get 0 (by omega);obtain⟨s,v⟩:=get 1 (by omega);have i:j0 M n a d=some (1,(aZ (M+1) n j,aZ (M+1) n s),(.empty,0)):=by
    unfold j0;rw[if_pos (by rw[p,b,h];rfl),k,v];rfl
   rw[i];rw[h]at m;obtain⟨I,po,rfl⟩:=rQ o (by omega);cases n with
   | zero=>exact(sH o k).elim
   | succ n=>
   obtain⟨⟨C,D,E,F⟩,H,N⟩:=iI o k;obtain⟨⟨d0,d1,d2,d3⟩,K,_⟩:=iI o v;exact Au M n _ _ _ _ _ _ a I po c w j s (by omega) _ rfl b e f g (by omega) (by simpa using C) (by simpa using D) (by simpa using E) (by simpa using F) (by simpa using d0) (by simpa using d1) (by simpa using d2) (by simpa using d3) m (mP H (G j (aL k)) r) (mP K (G s (aL v)) r)
  ·have i:j0 M n a d=none:=by simp[j0,p,q,u,y,e,f,g,h]
   exact jP M n _ _ _ _ _ _ a z d.length c w _ i b e f g (ak (aj ⟨rfl,rfl,rfl,rfl,vP h⟩)) m
 replace b:=o7 b;by_cases e:(a.toList==[115,112,97,119,110])=true
 ·have f:=ne _ [108,105,110,107] (by decide) e;have g:=ne _ [115,116,111,112] (by decide) e;by_cases h:d.length=3
  ·obtain⟨j,k⟩:=get 0 (by omega);obtain⟨s,v⟩:=get 1 (by omega);obtain⟨t,O⟩:=get 2 (by omega);have i:j0 M n a d=Aq M n j s t:=by
    unfold j0;rw[if_neg (by rw[p,b];simp),if_pos (by rw[q,e,h];rfl),k,v,O];rfl
   rw[i];rw[h]at m;obtain⟨I,po,rfl⟩:=rQ o (by omega);cases n with
   | zero=>exact(sH o k).elim
   | succ n=>
   obtain⟨⟨C,D,E,F⟩,H,N⟩:=iI o k;obtain⟨⟨d0,d1,d2,d3⟩,K,_⟩:=iI o v;obtain⟨⟨R,S,T,U⟩,Y,_⟩:=iI o O;exact xv M n _ _ _ _ _ _ a I po c w j s t _ b e f g (by omega) (by simpa using C) (by simpa using D) (by simpa using E) (by simpa using F) (by simpa using d0) (by simpa using d1) (by simpa using d2) (by simpa using d3) (by simpa using R) (by simpa using S) (by simpa using T) (by simpa using U) m (λZ A=>xx M n (by omega) j s t B Z (H.below (A.mono r)) (K.below (A.mono r)) (Y.below (A.mono r)) (G j (aL k)) (G s (aL v)) (aF r A.size))
  ·have i:j0 M n a d=none:=by simp[j0,p,q,u,y,b,f,g,h]
   exact jP M n _ _ _ _ _ _ a z d.length c w _ i b e f g (ak (ak (aj ⟨rfl,rfl,rfl,rfl,vP h⟩))) m
 replace e:=o7 e;by_cases f:(a.toList==[108,105,110,107])=true
 ·have g:=ne _ [115,116,111,112] (by decide) f;by_cases h:d.length=1
  ·obtain⟨j,k⟩:=get 0 (by omega);have i:j0 M n a d=some (3,(aZ (M+1) n j,zT M),(.empty,0)):=by
    unfold j0;rw[if_neg (by rw[p,b];simp),if_neg (by rw[q,e];simp),if_pos (by rw[u,f,h];rfl),k];rfl
   rw[i];rw[h]at m;obtain⟨I,po,rfl⟩:=rQ o (by omega);cases n with
   | zero=>exact(sH o k).elim
   | succ n=>
   obtain⟨⟨C,D,E,F⟩,H,N⟩:=iI o k;exact As M n _ _ _ _ _ _ a I po c w j (by omega) _ rfl b e f g (by omega) (by simpa using C) (by simpa using D) (by simpa using E) (by simpa using F) m (mP H (G j (aL k)) r)
  ·have i:j0 M n a d=none:=by simp[j0,p,q,u,y,b,e,g,h]
   exact jP M n _ _ _ _ _ _ a z d.length c w _ i b e f g (ak (ak (ak (aj ⟨rfl,rfl,rfl,rfl,vP h⟩)))) m
 replace f:=o7 f;by_cases g:(a.toList==[115,116,111,112])=true
 ·by_cases h:d.length=0
  ·have i:j0 M n a d=some (4,(zT M,zT M),(.empty,0)):=by simp[j0,p,q,u,y,b,e,f,g,h]
   rw[i];exact Av M n _ _ _ _ _ _ a z d.length c w _ rfl b e f g (Pg h) m
  ·have i:j0 M n a d=none:=by simp[j0,p,q,u,y,b,e,f,h]
   exact jP M n _ _ _ _ _ _ a z d.length c w _ i b e f g (ak (ak (ak (ak ⟨rfl,rfl,rfl,rfl,vP h⟩)))) m
 replace g:=o7 g;have i:j0 M n a d=none:=by simp[j0,p,q,u,y,b,e,f,g]
 exact jP M n _ _ _ _ _ _ a z d.length c w _ i b e f g (aj ⟨rfl,rfl,rfl,rfl⟩) m
end Go.Proofs.YtmmahddlcldmiaaGreat
