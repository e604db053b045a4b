/- Proved here: plain facts and contracts. No condition but what each names. -/
import Derived.Test.YthjclakhibnamaaGreatDoorD09
import Derived.Deep.DeepAppendWide
import Derived.MapKept
namespace Go.Proofs.YthjclakhibnamaaGreatDoor
open Go.RowKit Go.Proofs.Tryz
open Go.MapKept
set_option maxHeartbeats 4000000
set_option maxRecDepth 100000
theorem ld(l:List UInt8):(⟨l.toArray⟩:aq).toList=l:=by rw[cD]
theorem od(wd:aq)(l:List UInt8):uj wd ⟨l.toArray⟩=(wd.toList==l):=by
 show (wd.toList==(⟨l.toArray⟩:aq).toList)=(wd.toList==l);rw[show (⟨l.toArray⟩:aq).toList=l from ld l]
variable{c:BL}{l:List (Int×Nat)}{e B M N a b base g i k m n po:Nat}{s:Sy}{h j:Type}{S:aW}{w w' w1:ah}{wd:aq}{o r u x v:az}{t:dc}{p:List h}{q:List (Tm e)}{f:h->j->Bool}
theorem eQ{a b:Obj}(c:Below ((w.alloc a).alloc b).heap.size ((w.alloc a).alloc b) w1):w1.heap[w.heap.size]?=some a/\w1.heap[w.heap.size+1]?=some b/\ap w w1/\w.heap.size+2<=w1.heap.size:=by
 have f:=c.size;have e:((w.alloc a).alloc b).heap.size=w.heap.size+2:=by simp
 have d:ap w ((w.alloc a).alloc b):=by go_grown
 exact⟨(c.block _ (by omega)).trans (kZ w a b).1,(c.block _ (by omega)).trans (kZ w a b).2,d.trans (c.mono d.size),by omega⟩
theorem jY(M _n:Nat)(k i:Int)(s:aq)(xa:ay)(j xc:Nat)(wd:aq)(a:ay)(len c:Nat)(w:ah)(o:Option (Ac (M+1)))(p:Hid (o=none)){t1 t2 t3 t4:Bool}(r:(wd.toList==[115,101,110,100])=t1)(t:(wd.toList==[115,112,97,119,110])=t2)(u:(wd.toList==[108,105,110,107])=t3)(x:(wd.toList==[115,116,111,112])=t4)(n:(t1=false/\t2=false/\t3=false/\t4=false)\/(t1=true/\t2=false/\t3=false/\t4=false/\((len:Int)==2)=false)\/(t1=false/\t2=true/\t3=false/\t4=false/\((len:Int)==3)=false)\/(t1=false/\t2=false/\t3=true/\t4=false/\((len:Int)==1)=false)\/(t1=false/\t2=false/\t3=false/\t4=true/\((len:Int)==0)=false))(d:Hid (∀w1,ap w w1->au 117 #[.agg #[ae k,ae i,af s,ag xa j xc]] w1 λe w'=>e=aw (ax #[af wd,ag a len c])/\ap w1 w')):au 172 #[.agg #[ae k,ae i,af s,ag xa j xc]] w (oD M o w):=by
 rcases n with⟨rfl,rfl,rfl,rfl⟩|⟨rfl,rfl,rfl,rfl,b⟩|⟨rfl,rfl,rfl,rfl,b⟩|⟨rfl,rfl,rfl,rfl,b⟩|⟨rfl,rfl,rfl,rfl,b⟩
 all_goals
  go_enter func172,ntmps172;go_wp2_with fail;refine(d _ (by go_grown)).mono ?_;rintro e w1 ⟨rfl,f⟩;obtain⟨q,h,g,z⟩:=eQ f;have l:=av g;have m:=av h;clear f q h g d;obtain⟨⟨d0,d1,d2,d3,d4,d5,d6,d7,d8,d9,d10⟩,f0,y⟩:=mR m;go_wp2_with fail;exact aD (v:=ax #[.agg #[ae 0,ae 0,ae 0,af .empty,ag none 0 0,ae 0,ae 0,af .empty,ag none 0 0,af .empty,ae 0],.bool false]) (by simp[results,results172,go_sem,d0,d1,d2,d3,d4,d5,d6,d7,d8,d9,d10];rfl) rfl (rk p ((kU _ _ _ _ _ _ _ _ _ _ _ _ _).below l (by omega)))
theorem AO(M _n:Nat)(k i:Int)(s:aq)(xa:ay)(j xc:Nat)(wd:aq)(a:ay)(len c:Nat)(w:ah)(o:Option (Ac (M+1)))(n:Hid (o=some (4,(zT M,zT M),(.empty,0))))(q:(wd.toList==[115,101,110,100])=false)(r:(wd.toList==[115,112,97,119,110])=false)(t:(wd.toList==[108,105,110,107])=false)(u:(wd.toList==[115,116,111,112])=true)(x:((len:Int)==0)=true)(b:Hid (∀w1,ap w w1->au 117 #[.agg #[ae k,ae i,af s,ag xa j xc]] w1 λe w'=>e=aw (ax #[af wd,ag a len c])/\ap w1 w')):au 172 #[.agg #[ae k,ae i,af s,ag xa j xc]] w (oD M o w):=by
 go_enter func172,ntmps172;go_wp2_with fail;refine(b _ (by go_grown)).mono ?_;rintro e w1 ⟨rfl,d⟩;obtain⟨p,h,f,z⟩:=eQ d;have l:=av f;have m:=av h;clear d p h f b;obtain⟨⟨d0,d1,d2,d3,d4,d5,d6,d7,d8,d9,d10⟩,f0,y⟩:=mR m;go_wp2_with fail;refine aD (v:=ax #[.agg #[ae 4,ae 0,ae 0,af ⟨#[]⟩,ag none 0 0,ae 0,ae 0,af ⟨#[]⟩,ag none 0 0,af ⟨#[]⟩,ae 0],.bool true]) (by simp[results,results172,go_sem,d0,d1,d2,d3,d4,d5,d6,d7,d8,d9,d10]) rfl ?_;exact ol (g:=w.heap.size+1) (w2:=w1) (w:=w) (4,(zT M,zT M),(.empty,0)) _ n (kU _ _ _ _ _ _ _ _ _ _ _ _ _) l (by omega) ⟨by simp[dn],mg _ _ _,mg _ _ _,aM _,by simp[dn]⟩ ⟨ak rfl,ak rfl⟩ ⟨rfl,mz (mg _ 0 w),mz (mg _ 0 w),rfl⟩
theorem AM(M n:Nat)(k z:Int)(s:aq)(xa:ay)(A xc:Nat)(wd:aq)(d po c:Nat)(w:ah)(y:Tm (n+1))(H:n+1<=M+1)(o:Option (Ac (M+1)))(I:Hid (o=some (3,(bj (M+1) (n+1) y,zT M),(.empty,0))))(K:(wd.toList==[115,101,110,100])=false)(L:(wd.toList==[115,112,97,119,110])=false)(N:(wd.toList==[108,105,110,107])=true)(_b4:(wd.toList==[115,116,111,112])=false)(h:d<w.heap.size)(B:ai w d po (ae y.1.1))(C:ai w d (po+1) (ae y.1.2.1))(D:ai w d (po+2) (af y.1.2.2))(E:ai w d (po+3) (ag y.2.1.1 y.2.2.length y.2.1.2))(l:Hid (∀w1,ap w w1->au 117 #[.agg #[ae k,ae z,af s,ag xa A xc]] w1 λe w'=>e=aw (ax #[af wd,ag (some ⟨d,po,none⟩) 1 c])/\ap w1 w'))(j:Hid (∀w1,ap w w1->au 91 #[.agg #[ae y.1.1,ae y.1.2.1,af y.1.2.2,ag y.2.1.1 y.2.2.length y.2.1.2]] w1 λe w'=>∃a:Tm (n+1),e=aw (.agg #[ae a.1.1,ae a.1.2.1,af a.1.2.2,ag a.2.1.1 a.2.2.length a.2.1.2])/\Hid (ap w1 w'/\In w'.heap.size w' (n+1) a/\cF (λq=>w1.heap.size<=q) (n+1) a/\aJ (n+1) a (n+1) y=true))):au 172 #[.agg #[ae k,ae z,af s,ag xa A xc]] w (oD M o w):=by
 go_enter func172,ntmps172;go_wp2_with fail;refine(l _ (by go_grown)).mono ?_;rintro e w1 ⟨rfl,r⟩;obtain⟨J,u,t,R⟩:=eQ r;have b:=av t;have m:=av u;clear r J u t l;replace B:=(aB b _ _ h).trans B;replace C:=(aB b _ _ h).trans C;replace D:=(aB b _ _ h).trans D;replace E:=(aB b _ _ h).trans E;have O:d<w1.heap.size:=by omega
 go_wp2_with fail;refine(j _ b).mono ?_;rintro e w2 ⟨a,rfl,f⟩;have F:Hid (ap w w2):=b.trans (f.1.mono b.size);have p:=av ((f.1.block (w.heap.size+1) (by omega)).trans m);obtain⟨⟨d0,d1,d2,d3,d4,d5,d6,d7,d8,d9,d10⟩,f0,Q⟩:=mR p;have i:=ji (M:=M) H f.2.1 (f.2.2.1.mono λq (P:w1.heap.size<=q)=>(show w.heap.size+1<q by omega)) f.2.2.2;clear j m p;go_wp2_with fail;refine aD (v:=ax #[.agg #[ae 3,ae a.1.1,ae a.1.2.1,af a.1.2.2,ag a.2.1.1 a.2.2.length a.2.1.2,ae 0,ae 0,af ⟨#[]⟩,ag none 0 0,af ⟨#[]⟩,ae 0],.bool true]) (by simp[results,results172,go_sem,d0,d1,d2,d3,d4,d5,d6,d7,d8,d9,d10]) rfl ?_;have e:gY (M+1) (3,(bj (M+1) (n+1) a,zT M),(.empty,0))=[ae 3,ae a.1.1,ae a.1.2.1,af a.1.2.2,ag a.2.1.1 a.2.2.length a.2.1.2,ae 0,ae 0,af ⟨#[]⟩,ag none 0 0,af ⟨#[]⟩,ae 0]:=by
  show ae 3::(kY (M+1) (bj (M+1) (n+1) a)++kY (M+1) (zT M)++ [af .empty,ae 0])=_;rw[gO];rfl
 have x:=λ(w':ah)(G:bW (w.heap.size+1) w2 w')=>ol (g:=w.heap.size+1) (w2:=w2) (w:=w) (3,(bj (M+1) (n+1) a,zT M),(.empty,0)) _ I G F (by omega) ⟨by simp[dn],i.1,mg _ _ _,aM _,by simp[dn]⟩ ⟨i.2.1,ak rfl⟩ ⟨rfl,i.2.2,mz (mg _ 0 w),rfl⟩;rw[e]at x;exact x _ (kU _ _ _ _ _ _ _ _ _ _ _ _ _)
theorem NV{y x:Nd}(c:e<g)(b:bW g w w')(k:(ai w e po (ae y.1.1)/\ai w e (po+1) (ae y.1.2.1)/\ai w e (po+2) (af y.1.2.2)/\ai w e (po+3) (ag y.2.1 y.2.2.1 y.2.2.2))/\(ai w e (po+4) (ae x.1.1)/\ai w e (po+5) (ae x.1.2.1)/\ai w e (po+6) (af x.1.2.2)/\ai w e (po+7) (ag x.2.1 x.2.2.1 x.2.2.2))):(ai w' e po (ae y.1.1)/\ai w' e (po+1) (ae y.1.2.1)/\ai w' e (po+2) (af y.1.2.2)/\ai w' e (po+3) (ag y.2.1 y.2.2.1 y.2.2.2))/\(ai w' e (po+4) (ae x.1.1)/\ai w' e (po+5) (ae x.1.2.1)/\ai w' e (po+6) (af x.1.2.2)/\ai w' e (po+7) (ag x.2.1 x.2.2.1 x.2.2.2)):=by
 have a:=λo=>gz b (show e≠g by omega) o;exact⟨⟨(a _).trans k.1.1,(a _).trans k.1.2.1,(a _).trans k.1.2.2.1,(a _).trans k.1.2.2.2⟩,(a _).trans k.2.1,(a _).trans k.2.2.1,(a _).trans k.2.2.2.1,(a _).trans k.2.2.2.2⟩
theorem AN(M n:Nat)(k Q:Int)(s:aq)(xa:ay)(R xc:Nat)(wd:aq)(a po c:Nat)(w:ah)(y x:Tm (n+1))(N:n+1<=M+1)(o:Option (Ac (M+1)))(Z:Hid (o=some (1,(bj (M+1) (n+1) y,bj (M+1) (n+1) x),(.empty,0))))(ak:(wd.toList==[115,101,110,100])=true)(_b2:(wd.toList==[115,112,97,119,110])=false)(_b3:(wd.toList==[108,105,110,107])=false)(_b4:(wd.toList==[115,116,111,112])=false)(h:a<w.heap.size)(D:ai w a po (ae y.1.1))(E:ai w a (po+1) (ae y.1.2.1))(F:ai w a (po+2) (af y.1.2.2))(G:ai w a (po+3) (ag y.2.1.1 y.2.2.length y.2.1.2))(z:ai w a (po+4) (ae x.1.1))(A:ai w a (po+5) (ae x.1.2.1))(B:ai w a (po+6) (af x.1.2.2))(C:ai w a (po+7) (ag x.2.1.1 x.2.2.length x.2.1.2))(J:Hid (∀w1,ap w w1->au 117 #[.agg #[ae k,ae Q,af s,ag xa R xc]] w1 λe w'=>e=aw (ax #[af wd,ag (some ⟨a,po,none⟩) 2 c])/\ap w1 w'))(H:Hid (∀w1,ap w w1->au 91 #[.agg #[ae y.1.1,ae y.1.2.1,af y.1.2.2,ag y.2.1.1 y.2.2.length y.2.1.2]] w1 λe w'=>∃b:Tm (n+1),e=aw (.agg #[ae b.1.1,ae b.1.2.1,af b.1.2.2,ag b.2.1.1 b.2.2.length b.2.1.2])/\Hid (ap w1 w'/\In w'.heap.size w' (n+1) b/\cF (λq=>w1.heap.size<=q) (n+1) b/\aJ (n+1) b (n+1) y=true)))(I:Hid (∀w1,ap w w1->au 91 #[.agg #[ae x.1.1,ae x.1.2.1,af x.1.2.2,ag x.2.1.1 x.2.2.length x.2.1.2]] w1 λe w'=>∃b:Tm (n+1),e=aw (.agg #[ae b.1.1,ae b.1.2.1,af b.1.2.2,ag b.2.1.1 b.2.2.length b.2.1.2])/\Hid (ap w1 w'/\In w'.heap.size w' (n+1) b/\cF (λq=>w1.heap.size<=q) (n+1) b/\aJ (n+1) b (n+1) x=true))):au 172 #[.agg #[ae k,ae Q,af s,ag xa R xc]] w (oD M o w):=by
 go_enter func172,ntmps172;go_wp2_with fail;refine(J _ (by go_grown)).mono ?_;rintro e w1 ⟨rfl,K⟩;obtain⟨ad,O,L,an⟩:=eQ K;have d:=av L;have U:=av O;clear K ad O L J;replace D:=(aB d _ _ h).trans D;replace E:=(aB d _ _ h).trans E;replace F:=(aB d _ _ h).trans F;replace G:=(aB d _ _ h).trans G;replace z:=(aB d _ _ h).trans z;replace A:=(aB d _ _ h).trans A;replace B:=(aB d _ _ h).trans B;replace C:=(aB d _ _ h).trans C;have aa:a<w1.heap.size:=by omega
 have m:Hid (∀w',ap w1 w'->(ai w' a po (ae y.1.1)/\ai w' a (po+1) (ae y.1.2.1)/\ai w' a (po+2) (af y.1.2.2)/\ai w' a (po+3) (ag y.2.1.1 y.2.2.length y.2.1.2))/\(ai w' a (po+4) (ae x.1.1)/\ai w' a (po+5) (ae x.1.2.1)/\ai w' a (po+6) (af x.1.2.2)/\ai w' a (po+7) (ag x.2.1.1 x.2.2.length x.2.1.2))):=λw' W=>by
  have f:=λo=>aB W a o aa;exact⟨⟨(f _).trans D,(f _).trans E,(f _).trans F,(f _).trans G⟩,(f _).trans z,(f _).trans A,(f _).trans B,(f _).trans C⟩
 go_wp2_with fail
 go_region_held3 (λw'=>(w'.cell? ⟨a,po,none⟩=some (ae y.1.1)/\w'.cell? ⟨a,po+1,none⟩=some (ae y.1.2.1)/\w'.cell? ⟨a,po+2,none⟩=some (af y.1.2.2)/\w'.cell? ⟨a,po+3,none⟩=some (ag y.2.1.1 y.2.2.length y.2.1.2))/\(w'.cell? ⟨a,po+4,none⟩=some (ae x.1.1)/\w'.cell? ⟨a,po+5,none⟩=some (ae x.1.2.1)/\w'.cell? ⟨a,po+6,none⟩=some (af x.1.2.2)/\w'.cell? ⟨a,po+7,none⟩=some (ag x.2.1.1 x.2.2.length x.2.1.2))) (first|with_reducible assumption|with_reducible exact m.out _ l.out|with_reducible exact m.out _ j.out|with_reducible exact T.out _ (kU _ _ _ _ _ _ _ _ _ _ _ _ _)|exact m.out _ (aG _ _).drew)
  ((first
   | (go_at_call 91;refine(H _ d.drew).mono ?_;rintro e w2 ⟨b,rfl,p⟩;have j:=av (dd p.1);clear H)
   | (go_at_call 91;refine(I _ (d.trans (j.mono d.size))).mono ?_;rintro e r ⟨q,rfl,i⟩;have l:=av (j.trans (i.1.mono j.size));clear I;have V:=av ((l.block (w.heap.size+1) (by omega)).trans U);obtain⟨⟨d0,d1,d2,d3,d4,d5,d6,d7,d8,d9,d10⟩,f0,am⟩:=mR V;have T:Hid (∀w',bW (w.heap.size+1) r w'->(ai w' a po (ae y.1.1)/\ai w' a (po+1) (ae y.1.2.1)/\ai w' a (po+2) (af y.1.2.2)/\ai w' a (po+3) (ag y.2.1.1 y.2.2.length y.2.1.2))/\(ai w' a (po+4) (ae x.1.1)/\ai w' a (po+5) (ae x.1.2.1)/\ai w' a (po+6) (af x.1.2.2)/\ai w' a (po+7) (ag x.2.1.1 x.2.2.length x.2.1.2))):=(λaj Y=>NV (y:=bQ n y) (x:=bQ n x) (show a<w.heap.size+1 by omega) Y (m _ l)))))
 go_wp2_with fail;have S:Hid (ap w r):=d.trans (l.mono d.size);have al:w1.heap.size<=w2.heap.size:=j.size;have t:=ji (M:=M) N ((p.2.1.below i.1).mono i.1.size) (p.2.2.1.mono λq (ab:w1.heap.size<=q)=>(show w.heap.size+1<q by omega)) p.2.2.2;have u:=ji (M:=M) N i.2.1 (i.2.2.1.mono λq (ab:w2.heap.size<=q)=>(show w.heap.size+1<q by omega)) i.2.2.2;refine aD (v:=ax #[.agg #[ae 1,ae b.1.1,ae b.1.2.1,af b.1.2.2,ag b.2.1.1 b.2.2.length b.2.1.2,ae q.1.1,ae q.1.2.1,af q.1.2.2,ag q.2.1.1 q.2.2.length q.2.1.2,af ⟨#[]⟩,ae 0],.bool true]) (by simp[results,results172,go_sem,d0,d1,d2,d3,d4,d5,d6,d7,d8,d9,d10]) rfl ?_;have e:gY (M+1) (1,(bj (M+1) (n+1) b,bj (M+1) (n+1) q),(.empty,0))=[ae 1,ae b.1.1,ae b.1.2.1,af b.1.2.2,ag b.2.1.1 b.2.2.length b.2.1.2,ae q.1.1,ae q.1.2.1,af q.1.2.2,ag q.2.1.1 q.2.2.length q.2.1.2,af ⟨#[]⟩,ae 0]:=by
  show ae 1::(kY (M+1) (bj (M+1) (n+1) b)++kY (M+1) (bj (M+1) (n+1) q)++ [af .empty,ae 0])=_;rw[gO,gO];rfl
 have P:=λ(w':ah)(X:bW (w.heap.size+1) r w')=>ol (g:=w.heap.size+1) (w2:=r) (w:=w) (1,(bj (M+1) (n+1) b,bj (M+1) (n+1) q),(.empty,0)) _ Z X S (by omega) ⟨by simp[dn],t.1,u.1,aM _,by simp[dn]⟩ ⟨t.2.1,u.2.1⟩ ⟨rfl,t.2.2,u.2.2,rfl⟩;rw[e]at P;exact P _ (kU _ _ _ _ _ _ _ _ _ _ _ _ _)
theorem NW{y x t:Tm (n+1)}(c:e<g)(b:bW g w w')(k:(ai w e po (ae y.1.1)/\ai w e (po+1) (ae y.1.2.1)/\ai w e (po+2) (af y.1.2.2)/\ai w e (po+3) (ag y.2.1.1 y.2.2.length y.2.1.2))/\(ai w e (po+4) (ae x.1.1)/\ai w e (po+5) (ae x.1.2.1)/\ai w e (po+6) (af x.1.2.2)/\ai w e (po+7) (ag x.2.1.1 x.2.2.length x.2.1.2))/\(ai w e (po+8) (ae t.1.1)/\ai w e (po+9) (ae t.1.2.1)/\ai w e (po+10) (af t.1.2.2)/\ai w e (po+11) (ag t.2.1.1 t.2.2.length t.2.1.2))):(ai w' e po (ae y.1.1)/\ai w' e (po+1) (ae y.1.2.1)/\ai w' e (po+2) (af y.1.2.2)/\ai w' e (po+3) (ag y.2.1.1 y.2.2.length y.2.1.2))/\(ai w' e (po+4) (ae x.1.1)/\ai w' e (po+5) (ae x.1.2.1)/\ai w' e (po+6) (af x.1.2.2)/\ai w' e (po+7) (ag x.2.1.1 x.2.2.length x.2.1.2))/\(ai w' e (po+8) (ae t.1.1)/\ai w' e (po+9) (ae t.1.2.1)/\ai w' e (po+10) (af t.1.2.2)/\ai w' e (po+11) (ag t.2.1.1 t.2.2.length t.2.1.2)):=by
 have a:=λo=>gz b (show e≠g by omega) o;exact⟨⟨(a _).trans k.1.1,(a _).trans k.1.2.1,(a _).trans k.1.2.2.1,(a _).trans k.1.2.2.2⟩,⟨(a _).trans k.2.1.1,(a _).trans k.2.1.2.1,(a _).trans k.2.1.2.2.1,(a _).trans k.2.1.2.2.2⟩,(a _).trans k.2.2.1,(a _).trans k.2.2.2.1,(a _).trans k.2.2.2.2.1,(a _).trans k.2.2.2.2.2⟩
theorem xG(M n:Nat)(k R:Int)(s:aq)(xa:ay)(S xc:Nat)(wd:aq)(d po c:Nat)(w:ah)(y x t:Tm (n+1))(o:Option (Ac (M+1)))(aj:(wd.toList==[115,101,110,100])=false)(ak:(wd.toList==[115,112,97,119,110])=true)(_b3:(wd.toList==[108,105,110,107])=false)(_b4:(wd.toList==[115,116,111,112])=false)(h:d<w.heap.size)(E:ai w d po (ae y.1.1))(F:ai w d (po+1) (ae y.1.2.1))(G:ai w d (po+2) (af y.1.2.2))(H:ai w d (po+3) (ag y.2.1.1 y.2.2.length y.2.1.2))(A:ai w d (po+4) (ae x.1.1))(B:ai w d (po+5) (ae x.1.2.1))(C:ai w d (po+6) (af x.1.2.2))(D:ai w d (po+7) (ag x.2.1.1 x.2.2.length x.2.1.2))(p:ai w d (po+8) (ae t.1.1))(q:ai w d (po+9) (ae t.1.2.1))(r:ai w d (po+10) (af t.1.2.2))(u:ai w d (po+11) (ag t.2.1.1 t.2.2.length t.2.1.2))(J:Hid (∀w1,ap w w1->au 117 #[.agg #[ae k,ae R,af s,ag xa S xc]] w1 λe w'=>e=aw (ax #[af wd,ag (some ⟨d,po,none⟩) 3 c])/\ap w1 w'))(I:Hid (∀w1,ap w w1->au 198 #[.agg #[ae y.1.1,ae y.1.2.1,af y.1.2.2,ag y.2.1.1 y.2.2.length y.2.1.2],.agg #[ae x.1.1,ae x.1.2.1,af x.1.2.2,ag x.2.1.1 x.2.2.length x.2.1.2],.agg #[ae t.1.1,ae t.1.2.1,af t.1.2.2,ag t.2.1.1 t.2.2.length t.2.1.2]] w1 (oD M o w1))):au 172 #[.agg #[ae k,ae R,af s,ag xa S xc]] w (oD M o w):=by
 go_enter func172,ntmps172;go_wp2_with fail;refine(J _ (by go_grown)).mono ?_;rintro e w1 ⟨rfl,L⟩;obtain⟨ab,Q,N,an⟩:=eQ L;have f:=av N;have V:=av Q;clear L ab Q N J;replace E:=(aB f _ _ h).trans E;replace F:=(aB f _ _ h).trans F;replace G:=(aB f _ _ h).trans G;replace H:=(aB f _ _ h).trans H;replace A:=(aB f _ _ h).trans A;replace B:=(aB f _ _ h).trans B;replace C:=(aB f _ _ h).trans C;replace D:=(aB f _ _ h).trans D;replace p:=(aB f _ _ h).trans p;replace q:=(aB f _ _ h).trans q;replace r:=(aB f _ _ h).trans r;replace u:=(aB f _ _ h).trans u;have aa:d<w1.heap.size:=by omega
 have m:Hid (∀w',ap w1 w'->(ai w' d po (ae y.1.1)/\ai w' d (po+1) (ae y.1.2.1)/\ai w' d (po+2) (af y.1.2.2)/\ai w' d (po+3) (ag y.2.1.1 y.2.2.length y.2.1.2))/\(ai w' d (po+4) (ae x.1.1)/\ai w' d (po+5) (ae x.1.2.1)/\ai w' d (po+6) (af x.1.2.2)/\ai w' d (po+7) (ag x.2.1.1 x.2.2.length x.2.1.2))/\(ai w' d (po+8) (ae t.1.1)/\ai w' d (po+9) (ae t.1.2.1)/\ai w' d (po+10) (af t.1.2.2)/\ai w' d (po+11) (ag t.2.1.1 t.2.2.length t.2.1.2))):=λw' Y=>by
  have g:=λo=>aB Y d o aa;exact⟨⟨(g _).trans E,(g _).trans F,(g _).trans G,(g _).trans H⟩,⟨(g _).trans A,(g _).trans B,(g _).trans C,(g _).trans D⟩,(g _).trans p,(g _).trans q,(g _).trans r,(g _).trans u⟩
 go_wp2_with fail
 go_region_held3 (λw'=>(w'.cell? ⟨d,po,none⟩=some (ae y.1.1)/\w'.cell? ⟨d,po+1,none⟩=some (ae y.1.2.1)/\w'.cell? ⟨d,po+2,none⟩=some (af y.1.2.2)/\w'.cell? ⟨d,po+3,none⟩=some (ag y.2.1.1 y.2.2.length y.2.1.2))/\(w'.cell? ⟨d,po+4,none⟩=some (ae x.1.1)/\w'.cell? ⟨d,po+5,none⟩=some (ae x.1.2.1)/\w'.cell? ⟨d,po+6,none⟩=some (af x.1.2.2)/\w'.cell? ⟨d,po+7,none⟩=some (ag x.2.1.1 x.2.2.length x.2.1.2))/\(w'.cell? ⟨d,po+8,none⟩=some (ae t.1.1)/\w'.cell? ⟨d,po+9,none⟩=some (ae t.1.2.1)/\w'.cell? ⟨d,po+10,none⟩=some (af t.1.2.2)/\w'.cell? ⟨d,po+11,none⟩=some (ag t.2.1.1 t.2.2.length t.2.1.2))) (first|with_reducible assumption|with_reducible exact m.out _ j.out|with_reducible exact U.out _ (kU _ _ _ _ _ _ _ _ _ _ _ _ _)|exact m.out _ (aG _ _).drew)
  ((go_at_call 198;refine(I _ f.drew).mono ?_;rintro e z ⟨a,b,rfl,i⟩;have K:Value.agg (gY (M+1) a).toArray=.agg #[ae a.1,ae a.2.1.1.1.1,ae a.2.1.1.1.2.1,af a.2.1.1.1.2.2,ag a.2.1.1.2.1.1 a.2.1.1.2.2.length a.2.1.1.2.1.2,ae a.2.1.2.1.1,ae a.2.1.2.1.2.1,af a.2.1.2.1.2.2,ag a.2.1.2.2.1.1 a.2.1.2.2.2.length a.2.1.2.2.1.2,af a.2.2.1,ae a.2.2.2]:=rfl;rw[K];clear K;have j:=av (dd i.1);clear I;have W:=av ((j.block (w.heap.size+1) (by omega)).trans V);obtain⟨⟨d0,d1,d2,d3,d4,d5,d6,d7,d8,d9,d10⟩,f0,am⟩:=mR W;have U:=av (λX (Z:bW (w.heap.size+1) z X)=>NW (y:=y) (x:=x) (t:=t) (show d<w.heap.size+1 by omega) Z (m _ j))))
 go_wp2_with fail;have T:Hid (ap w z):=f.trans (j.mono f.size);refine aD (v:=ax #[.agg #[ae a.1,ae a.2.1.1.1.1,ae a.2.1.1.1.2.1,af a.2.1.1.1.2.2,ag a.2.1.1.2.1.1 a.2.1.1.2.2.length a.2.1.1.2.1.2,ae a.2.1.2.1.1,ae a.2.1.2.1.2.1,af a.2.1.2.1.2.2,ag a.2.1.2.2.1.1 a.2.1.2.2.2.length a.2.1.2.2.1.2,af a.2.2.1,ae a.2.2.2],.bool b]) (by simp[results,results172,go_sem,d0,d1,d2,d3,d4,d5,d6,d7,d8,d9,d10]) rfl ?_;have ad:∀w',bW (w.heap.size+1) z w'->oD M o w (aw (ax #[.agg #[ae a.1,ae a.2.1.1.1.1,ae a.2.1.1.1.2.1,af a.2.1.1.1.2.2,ag a.2.1.1.2.1.1 a.2.1.1.2.2.length a.2.1.1.2.1.2,ae a.2.1.2.1.1,ae a.2.1.2.1.2.1,af a.2.1.2.1.2.2,ag a.2.1.2.2.1.1 a.2.1.2.2.2.length a.2.1.2.2.1.2,af a.2.2.1,ae a.2.2.2],.bool b])) w':=λw' O=>⟨a,b,rfl,O.below T (by omega),i.2.1,O.stays (fV _) (P:=λl=>w1.heap.size<=l) (by omega) i.2.2.2.1 i.2.2.1,(fV _).1 _ _ _ (λl (al:w1.heap.size<=l)=>(show w.heap.size<=l by omega)) i.2.2.2.1,i.2.2.2.2⟩;exact ad _ (kU _ _ _ _ _ _ _ _ _ _ _ _ _)
theorem iF{q:List (Tm (n+1))}(a:fU B w (n+1) q (some ⟨e,po,none⟩)){y:Tm (n+1)}(d:q[i]?=some y):eg w e (po+i*4) (n+1) y/\In B w (n+1) y/\e<B:=by
 rcases a with a|⟨b,o,c,h,a⟩
 ·subst a;simp at d
 ·injection c with c;injection c with f g;subst f g;exact⟨(a i y d).1,(a i y d).2,h⟩
theorem sV{q:List (Tm 0)}{a:ay}(b:fU B w 0 q a){y:Tm 0}(c:q[i]?=some y):False:=by
 rcases b with b|⟨_,_,_,_,b⟩
 ·subst b;simp at c
 ·exact(b i y c).1
theorem sq{q:List (Tm n)}{a:ay}(c:fU B w n q a)(e:0<q.length):∃b o,a=some ⟨b,o,none⟩:=by
 rcases c with c|⟨b,o,d,_⟩
 ·subst c;simp at e
 ·exact⟨b,o,d⟩
theorem eO{x:Tm (n+1)}(b:aL ⟨n+1,x⟩){y:Tm n}(a:y∈bY n x):aL ⟨n,y⟩:=by
 unfold bY at a;split at a
 ·split at a
  ·split at a
   ·exact bt n x y b (List.mem_of_mem_drop a)
   ·cases a
  ·cases a
 ·cases a
theorem sD(n:Nat)(x:Tm (n+1))(B:Nat)(w:ah)(D:In B w (n+1) x)(J:B<=w.heap.size):∃a c,fU B w n (bY n x) a/\(bY n x).length<=c/\c<=9223372036854775807/\∀w1,ap w w1->au 117 #[.agg #[ae x.1.1,ae x.1.2.1,af x.1.2.2,ag x.2.1.1 x.2.2.length x.2.1.2]] w1 λe w'=>e=aw (ax #[af (fy n x),.slice a (bY n x).length c])/\ap w1 w':=by
 obtain⟨⟨k,h,g⟩,⟨a,c⟩,f⟩:=x;obtain⟨⟨_,_,_,s,y⟩,i⟩:=D;simp only at s y i ⊢;have C:c<=9223372036854775807:=by unfold maxLen at y;omega
 by_cases t:k=4
 ·subst t;rcases i with i|⟨b,o,rfl,A,i⟩
  ·subst i;exact⟨none,0,ak rfl,aA _,aM _,λw1 _=>CQ h g a c w1⟩
  ·cases f with
   | nil=>exact⟨none,0,ak rfl,aA _,aM _,λw1 _=>CQ h g _ c w1⟩
   | cons d f=>
    obtain⟨r,I⟩:=i 0 d rfl;cases n with
    | zero=>exact r.elim
    | succ n=>
    obtain⟨u,G,z,H⟩:=r;by_cases l:d.1.1=2
    ·have p:fy (n+1) ((4,h,g),(some ⟨b,o,none⟩,c),d::f)=d.1.2.2:=by simp[fy,ci,l,gL,bQ]
     have q:bY (n+1) ((4,h,g),(some ⟨b,o,none⟩,c),d::f)=f:=by simp[bY,ci,l]
     rw[p,q];refine⟨if c=1 then some ⟨b,o,none⟩else some ⟨b,o+4,none⟩,c-1,?_,by simp at s;omega,by omega,λw1 m=>?_⟩
     ·by_cases r:c=1
      ·exact ak (b8 (by simp at s;omega))
      ·rw[if_neg r];refine am ⟨b,o+4,rfl,A,λv F E=>?_⟩;have:=i (v+1) F (by simpa using E);rw[show o+4+v*4=o+(v+1)*4 by omega];exact this
     ·have j:b<w.heap.size:=by omega
      have d:=IT h g b o (d::f).length c (by simp) s C d.1.2.2 w1 (bf j m.size) ((aB m _ _ j).trans (by rw[l]at u;simpa using u)) ((aB m _ _ j).trans (by simpa using z));exact d
    ·have p:fy (n+1) ((4,h,g),(some ⟨b,o,none⟩,c),d::f)=⟨#[]⟩:=by simp[fy,ci,l];rfl
     have q:bY (n+1) ((4,h,g),(some ⟨b,o,none⟩,c),d::f)=[]:=by simp[bY,ci,l]
     rw[p,q];have j:b<w.heap.size:=by omega
     exact⟨none,0,ak rfl,aA _,aM _,λw1 m=>EX h g b o (d::f).length c (by simp) d.1.1 (by simpa using l) w1 (bf j m.size) ((aB m _ _ j).trans (by simpa using u))⟩
 ·have p:fy n ((k,h,g),(a,c),f)=⟨#[]⟩:=by simp[fy,t];rfl
  have q:bY n ((k,h,g),(a,c),f)=[]:=by simp[bY,t]
  rw[p,q];exact⟨none,0,ak rfl,aA _,aM _,λw1 _=>IU k h g a f.length c w1 (by simpa using t)⟩
theorem mY{y:Tm (n+1)}(f:In B w (n+1) y)(d:aL ⟨n+1,y⟩)(c:B<=w.heap.size):∀w1,ap w w1->au 91 #[.agg #[ae y.1.1,ae y.1.2.1,af y.1.2.2,ag y.2.1.1 y.2.2.length y.2.1.2]] w1 λe w'=>∃a:Tm (n+1),e=aw (.agg #[ae a.1.1,ae a.1.2.1,af a.1.2.2,ag a.2.1.1 a.2.2.length a.2.1.2])/\Hid (ap w1 w'/\In w'.heap.size w' (n+1) a/\cF (λq=>w1.heap.size<=q) (n+1) a/\aJ (n+1) a (n+1) y=true):=
 λw1 b=>iC (n+1) y B w1 (f.below (b.mono c)) (aF c b.size) d
theorem pG{a:Bool}(b:¬a=true):a=false:=by cases a<;>simp_all
theorem Pf{l:Nat}(a:l=k):((l:Int)==(k:Int))=true:=by simp[a]
theorem wC{l:Nat}(a:¬l=k):((l:Int)==(k:Int))=false:=by simp;omega
theorem C0(M n:Nat)(ad:n<=M+1)(x:Tm n)(B:Nat)(w:ah)(P:In B w n x)(X:aL ⟨n,x⟩)(r:B<=w.heap.size):au 172 #[dF n x] w (oD M (tH M n x) w):=by
 cases n with
 | zero=>exact P.elim
 | succ n=>
 obtain⟨z,c,o,ab,aa,m⟩:=sD n x B w P r;show au 172 #[.agg #[ae x.1.1,ae x.1.2.1,af x.1.2.2,ag x.2.1.1 x.2.2.length x.2.1.2]] w (oD M (kA M n (fy n x) (bY n x)) w);have G:∀j∈bY n x,aL ⟨n,j⟩:=λj k=>eO X k;generalize fy n x=a at*;generalize bY n x=d at*;have p:uj a oL=(a.toList==[115,101,110,100]):=od a [115,101,110,100];have q:uj a kC=(a.toList==[115,112,97,119,110]):=od a [115,112,97,119,110];have u:uj a oK=(a.toList==[108,105,110,107]):=od a [108,105,110,107];have y:uj a oM=(a.toList==[115,116,111,112]):=od a [115,116,111,112];have ne:∀(l L:List UInt8),(l==L)=false->(a.toList==l)=true->(a.toList==L)=false:=λl L A V=>by
  have Q:a.toList=l:=by simpa using V
  rw[Q];exact A
 have get:∀J,J<d.length->∃j,d[J]?=some j:=λJ W=>⟨d[J],aU W⟩;by_cases b:(a.toList==[115,101,110,100])=true
 ·have e:=ne _ [115,112,97,119,110] (by decide) b;have f:=ne _ [108,105,110,107] (by decide) b;have g:=ne _ [115,116,111,112] (by decide) b;by_cases h:d.length=2
  ·obtain⟨j,k⟩:=get 0 (by omega);obtain⟨s,v⟩:=get 1 (by omega);have i:kA M n a d=some (1,(bj (M+1) n j,bj (M+1) n s),(.empty,0)):=by
    unfold kA;rw[if_pos (by rw[p,b,h];rfl),k,v];rfl
   rw[i];rw[h]at m;obtain⟨I,po,rfl⟩:=sq o (by omega);cases n with
   | zero=>exact(sV o k).elim
   | succ n=>
   obtain⟨⟨C,D,E,F⟩,H,N⟩:=iF o k;obtain⟨⟨d0,d1,d2,d3⟩,K,_⟩:=iF o v;exact AN M n _ _ _ _ _ _ a I po c w j s (by omega) _ rfl b e f g (by omega) (by simpa using C) (by simpa using D) (by simpa using E) (by simpa using F) (by simpa using d0) (by simpa using d1) (by simpa using d2) (by simpa using d3) m (mY H (G j (aT k)) r) (mY K (G s (aT v)) r)
  ·have i:kA M n a d=none:=by simp[kA,p,q,u,y,e,f,g,h]
   exact jY M n _ _ _ _ _ _ a z d.length c w _ i b e f g (am (ak ⟨rfl,rfl,rfl,rfl,wC h⟩)) m
 replace b:=pG b;by_cases e:(a.toList==[115,112,97,119,110])=true
 ·have f:=ne _ [108,105,110,107] (by decide) e;have g:=ne _ [115,116,111,112] (by decide) e;by_cases h:d.length=3
  ·obtain⟨j,k⟩:=get 0 (by omega);obtain⟨s,v⟩:=get 1 (by omega);obtain⟨t,O⟩:=get 2 (by omega);have i:kA M n a d=AK M n j s t:=by
    unfold kA;rw[if_neg (by rw[p,b];simp),if_pos (by rw[q,e,h];rfl),k,v,O];rfl
   rw[i];rw[h]at m;obtain⟨I,po,rfl⟩:=sq o (by omega);cases n with
   | zero=>exact(sV o k).elim
   | succ n=>
   obtain⟨⟨C,D,E,F⟩,H,N⟩:=iF o k;obtain⟨⟨d0,d1,d2,d3⟩,K,_⟩:=iF o v;obtain⟨⟨R,S,T,U⟩,Y,_⟩:=iF o O;exact xG M n _ _ _ _ _ _ a I po c w j s t _ b e f g (by omega) (by simpa using C) (by simpa using D) (by simpa using E) (by simpa using F) (by simpa using d0) (by simpa using d1) (by simpa using d2) (by simpa using d3) (by simpa using R) (by simpa using S) (by simpa using T) (by simpa using U) m (λZ A=>xI M n (by omega) j s t B Z (H.below (A.mono r)) (K.below (A.mono r)) (Y.below (A.mono r)) (G j (aT k)) (G s (aT v)) (aF r A.size))
  ·have i:kA M n a d=none:=by simp[kA,p,q,u,y,b,f,g,h]
   exact jY M n _ _ _ _ _ _ a z d.length c w _ i b e f g (am (am (ak ⟨rfl,rfl,rfl,rfl,wC h⟩))) m
 replace e:=pG e;by_cases f:(a.toList==[108,105,110,107])=true
 ·have g:=ne _ [115,116,111,112] (by decide) f;by_cases h:d.length=1
  ·obtain⟨j,k⟩:=get 0 (by omega);have i:kA M n a d=some (3,(bj (M+1) n j,zT M),(.empty,0)):=by
    unfold kA;rw[if_neg (by rw[p,b];simp),if_neg (by rw[q,e];simp),if_pos (by rw[u,f,h];rfl),k];rfl
   rw[i];rw[h]at m;obtain⟨I,po,rfl⟩:=sq o (by omega);cases n with
   | zero=>exact(sV o k).elim
   | succ n=>
   obtain⟨⟨C,D,E,F⟩,H,N⟩:=iF o k;exact AM M n _ _ _ _ _ _ a I po c w j (by omega) _ rfl b e f g (by omega) (by simpa using C) (by simpa using D) (by simpa using E) (by simpa using F) m (mY H (G j (aT k)) r)
  ·have i:kA M n a d=none:=by simp[kA,p,q,u,y,b,e,g,h]
   exact jY M n _ _ _ _ _ _ a z d.length c w _ i b e f g (am (am (am (ak ⟨rfl,rfl,rfl,rfl,wC h⟩)))) m
 replace f:=pG f;by_cases g:(a.toList==[115,116,111,112])=true
 ·by_cases h:d.length=0
  ·have i:kA M n a d=some (4,(zT M,zT M),(.empty,0)):=by simp[kA,p,q,u,y,b,e,f,g,h]
   rw[i];exact AO M n _ _ _ _ _ _ a z d.length c w _ rfl b e f g (Pf h) m
  ·have i:kA M n a d=none:=by simp[kA,p,q,u,y,b,e,f,h]
   exact jY M n _ _ _ _ _ _ a z d.length c w _ i b e f g (am (am (am (am ⟨rfl,rfl,rfl,rfl,wC h⟩)))) m
 replace g:=pG g;have i:kA M n a d=none:=by simp[kA,p,q,u,y,b,e,f,g]
 exact jY M n _ _ _ _ _ _ a z d.length c w _ i b e f g (ak ⟨rfl,rfl,rfl,rfl⟩) m
abbrev jN(M:Nat)(o:Option (Cl (M+1)))(w:ah)(e:Ending)(w':ah):Prop:=rS (fG (M+1)) (iQ (M+1)) (kG (M+1)) (DP (M+1)) o w e w'
def Q4(M:Nat):Cl (M+1):=((zT M,zT M,zT M),(none,0),[])
theorem mJ{o:Option (Cl (M+1))}(b:o=none)(a:ap w w'):jN M o w (aw (ax #[.agg #[ae 0,ae 0,af .empty,ag none 0 0,ae 0,ae 0,af .empty,ag none 0 0,ag none 0 0,ae 0,ae 0,af .empty,ag none 0 0],.bool false])) w':=by
 subst b;exact⟨Q4 M,false,rfl,a,rfl,⟨⟨mg _ _ _,mg _ _ _,mg _ _ _⟩,⟨aA _,aM _⟩,ak rfl⟩,⟨⟨ak rfl,ak rfl,ak rfl⟩,ak rfl⟩,λd c=>by cases c⟩
theorem nz{m:Tm (n+1)}(c:aL ⟨n+1,m⟩)(d:m.1.1=4):m.2.2.length<=8:=by
 have b:=c (bQ n m) (by simp[aH,bQ]);unfold cM at b;have a:(bQ n m).1.1=4:=d;rw[if_neg (by rw[a];omega),if_neg (by rw[a];omega),if_neg (by rw[a];omega),if_pos a]at b;simp only[aS,cU]at b;have e:(m.2.2.length:Int)<=8:=b.1.2;omega
theorem uV{q:Nat}{c0 e f g h i b c d:az}{t:TypeId}(a:w.heap[q]?=some (.cells #[c0,o,r,u,x,e,f,g,h,i,b,c,d] t)):(ai w q 0 c0/\ai w q 1 o/\ai w q 2 r/\ai w q 3 u/\ai w q 4 x/\ai w q 5 e/\ai w q 6 f/\ai w q 7 g/\ai w q 8 h/\ai w q 9 i/\ai w q 10 b/\ai w q 11 c/\ai w q 12 d)/\(∀j,w.frozen? ⟨q,j,none⟩=false)/\q<w.heap.size:=
 ⟨⟨aC a 0,aC a 1,aC a 2,aC a 3,aC a 4,aC a 5,aC a 6,aC a 7,aC a 8,aC a 9,aC a 10,aC a 11,aC a 12⟩,λj=>dr a j,(aR.1 a).1⟩
theorem uM(M _n:Nat)(k h:Int)(s:aq)(xa:ay)(i xc:Nat)(wd:aq)(a:ay)(len c:Nat)(w:ah)(o:Option (Cl (M+1)))(m:Hid (o=none))(p:(wd.toList==[111,110])=false)(b:Hid (∀w1,ap w w1->au 117 #[.agg #[ae k,ae h,af s,ag xa i xc]] w1 λe w'=>e=aw (ax #[af wd,ag a len c])/\ap w1 w')):au 146 #[.agg #[ae k,ae h,af s,ag xa i xc]] w (jN M o w):=by
 go_enter func146,ntmps146;go_wp2_with fail;refine(b _ (by go_grown)).mono ?_;rintro e w1 ⟨rfl,d⟩;obtain⟨n,g,f,r⟩:=eQ d;have j:=av f;have l:=av g;clear d n g f b;obtain⟨⟨d0,d1,d2,d3,d4,d5,d6,d7,d8,d9,d10,d11,d12⟩,f0,q⟩:=uV l;go_wp2_with fail;exact aD (v:=ax #[.agg #[ae 0,ae 0,af .empty,ag none 0 0,ae 0,ae 0,af .empty,ag none 0 0,ag none 0 0,ae 0,ae 0,af .empty,ag none 0 0],.bool false]) (by simp[results,results146,go_sem,d0,d1,d2,d3,d4,d5,d6,d7,d8,d9,d10,d11,d12];rfl) rfl (mJ m ((sk _ _ _ _ _ _ _ _ _ _ _ _ _ _ _).below j (by omega)))
theorem wU(M _n:Nat)(k h:Int)(s:aq)(xa:ay)(i xc:Nat)(wd:aq)(a:ay)(len c:Nat)(w:ah)(o:Option (Cl (M+1)))(m:Hid (o=none))(p:(wd.toList==[111,110])=true)(_hl:((len:Int)==4)=false)(q:((len:Int) !=4)=true)(b:Hid (∀w1,ap w w1->au 117 #[.agg #[ae k,ae h,af s,ag xa i xc]] w1 λe w'=>e=aw (ax #[af wd,ag a len c])/\ap w1 w')):au 146 #[.agg #[ae k,ae h,af s,ag xa i xc]] w (jN M o w):=by
 go_enter func146,ntmps146;go_wp2_with fail;refine(b _ (by go_grown)).mono ?_;rintro e w1 ⟨rfl,d⟩;obtain⟨n,g,f,t⟩:=eQ d;have j:=av f;have l:=av g;clear d n g f b;obtain⟨⟨d0,d1,d2,d3,d4,d5,d6,d7,d8,d9,d10,d11,d12⟩,f0,r⟩:=uV l;go_wp2_with fail;exact aD (v:=ax #[.agg #[ae 0,ae 0,af .empty,ag none 0 0,ae 0,ae 0,af .empty,ag none 0 0,ag none 0 0,ae 0,ae 0,af .empty,ag none 0 0],.bool false]) (by simp[results,results146,go_sem,d0,d1,d2,d3,d4,d5,d6,d7,d8,d9,d10,d11,d12];rfl) rfl (mJ m ((sk _ _ _ _ _ _ _ _ _ _ _ _ _ _ _).below j (by omega)))
theorem uK(M _n:Nat)(k l:Int)(s:aq)(xa:ay)(m xc:Nat)(wd:aq)(a po c:Nat)(w:ah)(o:Option (Cl (M+1)))(p:Hid (o=none))(t:(wd.toList==[111,110])=true)(q:a<w.heap.size)(j:Int)(f:ai w a (po+8) (ae j))(u:(j !=4)=true)(d:Hid (∀w1,ap w w1->au 117 #[.agg #[ae k,ae l,af s,ag xa m xc]] w1 λe w'=>e=aw (ax #[af wd,ag (some ⟨a,po,none⟩) 4 c])/\ap w1 w')):au 146 #[.agg #[ae k,ae l,af s,ag xa m xc]] w (jN M o w):=by
 go_enter func146,ntmps146;go_wp2_with fail;refine(d _ (by go_grown)).mono ?_;rintro e w1 ⟨rfl,g⟩;obtain⟨r,i,h,z⟩:=eQ g;have b:=av h;have n:=av i;clear g r i h d;replace f:=(aB b _ _ q).trans f;have x:a<w1.heap.size:=by omega
 obtain⟨⟨d0,d1,d2,d3,d4,d5,d6,d7,d8,d9,d10,d11,d12⟩,f0,y⟩:=uV n;go_wp2_with fail;exact aD (v:=ax #[.agg #[ae 0,ae 0,af .empty,ag none 0 0,ae 0,ae 0,af .empty,ag none 0 0,ag none 0 0,ae 0,ae 0,af .empty,ag none 0 0],.bool false]) (by simp[results,results146,go_sem,d0,d1,d2,d3,d4,d5,d6,d7,d8,d9,d10,d11,d12];rfl) rfl (mJ p ((sk _ _ _ _ _ _ _ _ _ _ _ _ _ _ _).below b (by omega)))
theorem NX{y x t:Tm (n+1)}(c:e<g)(b:bW g w w')(k:(ai w e po (ae y.1.1)/\ai w e (po+1) (ae y.1.2.1)/\ai w e (po+2) (af y.1.2.2)/\ai w e (po+3) (ag y.2.1.1 y.2.2.length y.2.1.2))/\(ai w e (po+4) (ae x.1.1)/\ai w e (po+5) (ae x.1.2.1)/\ai w e (po+6) (af x.1.2.2)/\ai w e (po+7) (ag x.2.1.1 x.2.2.length x.2.1.2))/\(ai w e (po+12) (ae t.1.1)/\ai w e (po+13) (ae t.1.2.1)/\ai w e (po+14) (af t.1.2.2)/\ai w e (po+15) (ag t.2.1.1 t.2.2.length t.2.1.2))):(ai w' e po (ae y.1.1)/\ai w' e (po+1) (ae y.1.2.1)/\ai w' e (po+2) (af y.1.2.2)/\ai w' e (po+3) (ag y.2.1.1 y.2.2.length y.2.1.2))/\(ai w' e (po+4) (ae x.1.1)/\ai w' e (po+5) (ae x.1.2.1)/\ai w' e (po+6) (af x.1.2.2)/\ai w' e (po+7) (ag x.2.1.1 x.2.2.length x.2.1.2))/\(ai w' e (po+12) (ae t.1.1)/\ai w' e (po+13) (ae t.1.2.1)/\ai w' e (po+14) (af t.1.2.2)/\ai w' e (po+15) (ag t.2.1.1 t.2.2.length t.2.1.2)):=by
 have a:=λo=>gz b (show e≠g by omega) o;exact⟨⟨(a _).trans k.1.1,(a _).trans k.1.2.1,(a _).trans k.1.2.2.1,(a _).trans k.1.2.2.2⟩,⟨(a _).trans k.2.1.1,(a _).trans k.2.1.2.1,(a _).trans k.2.1.2.2.1,(a _).trans k.2.1.2.2.2⟩,(a _).trans k.2.2.1,(a _).trans k.2.2.2.1,(a _).trans k.2.2.2.2.1,(a _).trans k.2.2.2.2.2⟩
theorem uL(M n:Nat)(k aU:Int)(s:aq)(xa:ay)(aX xc:Nat)(wd:aq)(d po c:Nat)(w:ah)(y x m t:Tm (n+1))(aj:n+1<=M+1)(an:Option (List (Ac (M+1))))(o:Option (Cl (M+1)))(aN:Hid (o=an.map λl=>((bj (M+1) (n+1) y,bj (M+1) (n+1) x,bj (M+1) (n+1) t),(none,0),l)))(bm:(wd.toList==[111,110])=true)(h:d<w.heap.size)(Q:ai w d po (ae y.1.1))(R:ai w d (po+1) (ae y.1.2.1))(S:ai w d (po+2) (af y.1.2.2))(T:ai w d (po+3) (ag y.2.1.1 y.2.2.length y.2.1.2))(K:ai w d (po+4) (ae x.1.1))(L:ai w d (po+5) (ae x.1.2.1))(N:ai w d (po+6) (af x.1.2.2))(O:ai w d (po+7) (ag x.2.1.1 x.2.2.length x.2.1.2))(X:ai w d (po+8) (ae m.1.1))(ak:ai w d (po+9) (ae m.1.2.1))(al:ai w d (po+10) (af m.1.2.2))(am:ai w d (po+11) (ag m.2.1.1 m.2.2.length m.2.1.2))(G:ai w d (po+12) (ae t.1.1))(H:ai w d (po+13) (ae t.1.2.1))(I:ai w d (po+14) (af t.1.2.2))(J:ai w d (po+15) (ag t.2.1.1 t.2.2.length t.2.1.2))(ba:m.1.1=4)(aF:Hid (∀w1,ap w w1->au 117 #[.agg #[ae k,ae aU,af s,ag xa aX xc]] w1 λe w'=>e=aw (ax #[af wd,ag (some ⟨d,po,none⟩) 4 c])/\ap w1 w'))(ar:Hid (∀w1,ap w w1->au 171 #[ag m.2.1.1 m.2.2.length m.2.1.2,.func (Fn.func 172) #[] #[]] w1 (mq 11 (gY (M+1)) (jK (M+1)) (mO (M+1)) (DT (M+1)) an w1)))(az:Hid (∀w1,ap w w1->au 91 #[.agg #[ae y.1.1,ae y.1.2.1,af y.1.2.2,ag y.2.1.1 y.2.2.length y.2.1.2]] w1 λe w'=>∃a:Tm (n+1),e=aw (.agg #[ae a.1.1,ae a.1.2.1,af a.1.2.2,ag a.2.1.1 a.2.2.length a.2.1.2])/\Hid (ap w1 w'/\In w'.heap.size w' (n+1) a/\cF (λq=>w1.heap.size<=q) (n+1) a/\aJ (n+1) a (n+1) y=true)))(aA:Hid (∀w1,ap w w1->au 91 #[.agg #[ae x.1.1,ae x.1.2.1,af x.1.2.2,ag x.2.1.1 x.2.2.length x.2.1.2]] w1 λe w'=>∃a:Tm (n+1),e=aw (.agg #[ae a.1.1,ae a.1.2.1,af a.1.2.2,ag a.2.1.1 a.2.2.length a.2.1.2])/\Hid (ap w1 w'/\In w'.heap.size w' (n+1) a/\cF (λq=>w1.heap.size<=q) (n+1) a/\aJ (n+1) a (n+1) x=true)))(aC:Hid (∀w1,ap w w1->au 91 #[.agg #[ae t.1.1,ae t.1.2.1,af t.1.2.2,ag t.2.1.1 t.2.2.length t.2.1.2]] w1 λe w'=>∃a:Tm (n+1),e=aw (.agg #[ae a.1.1,ae a.1.2.1,af a.1.2.2,ag a.2.1.1 a.2.2.length a.2.1.2])/\Hid (ap w1 w'/\In w'.heap.size w' (n+1) a/\cF (λq=>w1.heap.size<=q) (n+1) a/\aJ (n+1) a (n+1) t=true))):au 146 #[.agg #[ae k,ae aU,af s,ag xa aX xc]] w (jN M o w):=by
 go_enter func146,ntmps146;go_wp2_with fail;refine(aF _ (by go_grown)).mono ?_;rintro e w1 ⟨rfl,aI⟩;obtain⟨be,aR,aK,br⟩:=eQ aI;have f:=av aK;have aH:=av aR;clear aI be aR aK aF;replace Q:=(aB f _ _ h).trans Q;replace R:=(aB f _ _ h).trans R;replace S:=(aB f _ _ h).trans S;replace T:=(aB f _ _ h).trans T;replace K:=(aB f _ _ h).trans K;replace L:=(aB f _ _ h).trans L;replace N:=(aB f _ _ h).trans N;replace O:=(aB f _ _ h).trans O;replace X:=(aB f _ _ h).trans X;replace ak:=(aB f _ _ h).trans ak;replace al:=(aB f _ _ h).trans al;replace am:=(aB f _ _ h).trans am;replace G:=(aB f _ _ h).trans G;replace H:=(aB f _ _ h).trans H;replace I:=(aB f _ _ h).trans I;replace J:=(aB f _ _ h).trans J;have bc:d<w1.heap.size:=by omega
 rw[ba]at X;go_wp2_with fail;refine(ar _ f).mono ?_;rintro e u ⟨l,j,r,ao,rfl,aE⟩;have U:=av aE.1;have z:Hid (ap w u):=f.trans (U.mono f.size);have a1:=av ((U.block (w.heap.size+1) (by omega)).trans aH);have bn:w1.heap.size<=u.heap.size:=U.size;have bd:d<u.heap.size:=by omega
 have B:Hid (∀w',ap u w'->(ai w' d po (ae y.1.1)/\ai w' d (po+1) (ae y.1.2.1)/\ai w' d (po+2) (af y.1.2.2)/\ai w' d (po+3) (ag y.2.1.1 y.2.2.length y.2.1.2))/\(ai w' d (po+4) (ae x.1.1)/\ai w' d (po+5) (ae x.1.2.1)/\ai w' d (po+6) (af x.1.2.2)/\ai w' d (po+7) (ag x.2.1.1 x.2.2.length x.2.1.2))/\(ai w' d (po+12) (ae t.1.1)/\ai w' d (po+13) (ae t.1.2.1)/\ai w' d (po+14) (af t.1.2.2)/\ai w' d (po+15) (ag t.2.1.1 t.2.2.length t.2.1.2))):=λw' a4=>by
  have i:=λo=>(aB a4 d o bd).trans (aB U d o bc);exact⟨⟨(i _).trans Q,(i _).trans R,(i _).trans S,(i _).trans T⟩,⟨(i _).trans K,(i _).trans L,(i _).trans N,(i _).trans O⟩,(i _).trans G,(i _).trans H,(i _).trans I,(i _).trans J⟩
 obtain⟨W,ad⟩:∃W,l.length=W:=⟨_,rfl⟩;rw[ad];have a0:=av ad;clear ar aH Q R S T K L N O X ak al am G H I J ad;obtain⟨⟨Q,R,S,T⟩,⟨K,L,N,O⟩,G,H,I,J⟩:=B.out u (aG _ _);go_wp2_with fail
 go_region_held3 (λw'=>(w'.cell? ⟨d,po,none⟩=some (ae y.1.1)/\w'.cell? ⟨d,po+1,none⟩=some (ae y.1.2.1)/\w'.cell? ⟨d,po+2,none⟩=some (af y.1.2.2)/\w'.cell? ⟨d,po+3,none⟩=some (ag y.2.1.1 y.2.2.length y.2.1.2))/\(w'.cell? ⟨d,po+4,none⟩=some (ae x.1.1)/\w'.cell? ⟨d,po+5,none⟩=some (ae x.1.2.1)/\w'.cell? ⟨d,po+6,none⟩=some (af x.1.2.2)/\w'.cell? ⟨d,po+7,none⟩=some (ag x.2.1.1 x.2.2.length x.2.1.2))/\(w'.cell? ⟨d,po+12,none⟩=some (ae t.1.1)/\w'.cell? ⟨d,po+13,none⟩=some (ae t.1.2.1)/\w'.cell? ⟨d,po+14,none⟩=some (af t.1.2.2)/\w'.cell? ⟨d,po+15,none⟩=some (ag t.2.1.1 t.2.2.length t.2.1.2))) (first|with_reducible assumption|with_reducible exact B.out _ A.out|with_reducible exact B.out _ F.out|with_reducible exact B.out _ E.out|with_reducible exact aZ.out _ (sk _ _ _ _ _ _ _ _ _ _ _ _ _ _ _)|exact B.out _ (aG _ _).drew)
  ((first
   | (go_at_call 91;refine(az _ z.drew).mono ?_;rintro e aV ⟨a,rfl,V⟩;have E:=av (dd V.1);clear az)
   | (go_at_call 91;refine(aA _ (z.trans (E.mono z.size))).mono ?_;rintro e aW ⟨q,rfl,C⟩;have F:=av (E.trans (C.1.mono E.size));clear aA)
   | (go_at_call 91;refine(aC _ (z.trans (F.mono z.size))).mono ?_;rintro e p ⟨g,rfl,D⟩;have A:=av (F.trans (D.1.mono F.size));clear aC;have a2:=av ((A.block (w.heap.size+1) (by omega)).trans a1);obtain⟨⟨d0,d1,d2,d3,d4,d5,d6,d7,d8,d9,d10,d11,d12⟩,f0,bq⟩:=uV a2;have aZ:=av (λa3 (a7:bW (w.heap.size+1) p a3)=>NX (y:=y) (x:=x) (t:=t) (show d<w.heap.size+1 by omega) a7 (B _ A)))))
 go_wp2_with fail;have aY:Hid (ap w p):=z.trans (A.mono z.size);have bo:u.heap.size<=aV.heap.size:=E.size;have bp:u.heap.size<=aW.heap.size:=F.size;have aQ:=D.1;have aP:=C.1.trans (D.1.mono C.1.size);have Y:=ji (M:=M) aj ((V.2.1.below aP).mono aP.size) (V.2.2.1.mono λq (aO:u.heap.size<=q)=>(show w.heap.size+1<q by omega)) V.2.2.2;have Z:=ji (M:=M) aj ((C.2.1.below aQ).mono aQ.size) (C.2.2.1.mono λq (aO:aV.heap.size<=q)=>(show w.heap.size+1<q by omega)) C.2.2.2;have aa:=ji (M:=M) aj D.2.1 (D.2.2.1.mono λq (aO:aW.heap.size<=q)=>(show w.heap.size+1<q by omega)) D.2.2.2;refine aD (v:=ax #[.agg #[ae a.1.1,ae a.1.2.1,af a.1.2.2,ag a.2.1.1 a.2.2.length a.2.1.2,ae q.1.1,ae q.1.2.1,af q.1.2.2,ag q.2.1.1 q.2.2.length q.2.1.2,ag j W r,ae g.1.1,ae g.1.2.1,af g.1.2.2,ag g.2.1.1 g.2.2.length g.2.1.2],.bool ao]) (by simp[results,results146,go_sem,d0,d1,d2,d3,d4,d5,d6,d7,d8,d9,d10,d11,d12]) rfl ?_;have e:fG (M+1) ((bj (M+1) (n+1) a,bj (M+1) (n+1) q,bj (M+1) (n+1) g),(j,r),l)=[ae a.1.1,ae a.1.2.1,af a.1.2.2,ag a.2.1.1 a.2.2.length a.2.1.2,ae q.1.1,ae q.1.2.1,af q.1.2.2,ag q.2.1.1 q.2.2.length q.2.1.2,ag j W r,ae g.1.1,ae g.1.2.1,af g.1.2.2,ag g.2.1.1 g.2.2.length g.2.1.2]:=by
  show kY (M+1) (bj (M+1) (n+1) a)++kY (M+1) (bj (M+1) (n+1) q)++(ag j l.length r::kY (M+1) (bj (M+1) (n+1) g))=_;rw[gO,gO,gO,a0.out];rfl
 have aT:∀w',bW (w.heap.size+1) p w'->jN M o w (aw (ax #[.agg (fG (M+1) ((bj (M+1) (n+1) a,bj (M+1) (n+1) q,bj (M+1) (n+1) g),(j,r),l)).toArray,.bool ao])) w':=λw' aM=>by
  obtain⟨bs,bf,bg,bh,bi,bk⟩:=aE;have ab:=da (fV (M+1)) 11 (gY (M+1)) j;have a8:Lay p.heap.size p 11 (gY (M+1)) (jK (M+1) p.heap.size p) j l:=ab.mono A.size (ab.below A bh);have bb:uE (mO (M+1) (λb=>w.heap.size+1<b)) (λb=>w.heap.size+1<b) j l:=ab.1 _ _ _ (λb (a5:w1.heap.size<=b)=>(show w.heap.size+1<b by omega)) bi;have a6:iQ (M+1) p.heap.size p ((bj (M+1) (n+1) a,bj (M+1) (n+1) q,bj (M+1) (n+1) g),(j,r),l):=⟨⟨Y.1,Z.1,aa.1⟩,bg,a8⟩;have aL:kG (M+1) (λb=>w.heap.size+1<b) ((bj (M+1) (n+1) a,bj (M+1) (n+1) q,bj (M+1) (n+1) g),(j,r),l):=⟨⟨Y.2.1,Z.2.1,aa.2.1⟩,bb⟩;refine⟨((bj (M+1) (n+1) a,bj (M+1) (n+1) q,bj (M+1) (n+1) g),(j,r),l),ao,rfl,aM.below aY (by omega),?_,aM.stays (eM _) (P:=λb=>w.heap.size+1<b) (by omega) aL a6,(eM _).1 _ _ _ (λb (a5:w.heap.size+1<b)=>(show w.heap.size<=b by omega)) aL,λbt aS=>?_⟩
  ·rw[bf,aN.out];cases an<;>rfl
  ·rw[aN.out]at aS;obtain⟨bl,a9,rfl⟩:=cI.1 aS;exact⟨⟨Y.2.2,Z.2.2,aa.2.2⟩,bk bl a9⟩
 rw[e]at aT;exact aT _ (sk _ _ _ _ _ _ _ _ _ _ _ _ _ _ _)
theorem wT(M n:Nat)(ao:n<=M+1)(x:Tm n)(B:Nat)(w:ah)(K:In B w n x)(Y:aL ⟨n,x⟩)(g:B<=w.heap.size):au 146 #[dF n x] w (jN M (AJ M n x) w):=by
 cases n with
 | zero=>exact K.elim
 | succ n=>
 obtain⟨G,c,i,an,am,m⟩:=sD n x B w K g;show au 146 #[.agg #[ae x.1.1,ae x.1.2.1,af x.1.2.2,ag x.2.1.1 x.2.2.length x.2.1.2]] w (jN M (tI M n (fy n x) (bY n x)) w);have r:∀e∈bY n x,aL ⟨n,e⟩:=λe j=>eO Y j;generalize fy n x=b at*;generalize bY n x=d at*;have F:uj b Oc=(b.toList==[111,110]):=od b [111,110];have get:∀k,k<d.length->∃e,d[k]?=some e:=λk v=>⟨d[k],aU v⟩;by_cases f:(b.toList==[111,110])=true
 ·by_cases q:d.length=4
  ·obtain⟨e,j⟩:=get 0 (by omega);obtain⟨u,D⟩:=get 1 (by omega);obtain⟨a,y⟩:=get 2 (by omega);obtain⟨t,C⟩:=get 3 (by omega);have h:tI M n b d=if ci ⟨n,a⟩=4 then (cZ (tH M (n-1)) (F0 n a)).map λl=>((bj (M+1) n e,bj (M+1) n u,bj (M+1) n t),(none,0),l)else none:=by
    unfold tI;rw[if_pos (by rw[F,f,q];rfl),j,D,y,C];rfl
   rw[q]at m;obtain⟨N,po,rfl⟩:=sq i (by omega);cases n with
   | zero=>exact(sV i j).elim
   | succ n=>
   obtain⟨⟨O,P,Q,R⟩,aa,ap⟩:=iF i j;obtain⟨⟨d0,d1,d2,d3⟩,ab,_⟩:=iF i D;obtain⟨⟨L,ad,ai,aj⟩,I,_⟩:=iF i y;obtain⟨⟨S,T,U,V⟩,Z,_⟩:=iF i C;by_cases o:a.1.1=4
   ·have A:tI M (n+1) b d=(cZ (tH M n) a.2.2).map λl=>((bj (M+1) (n+1) e,bj (M+1) (n+1) u,bj (M+1) (n+1) t),(none,0),l):=by
      rw[h,if_pos (show ci ⟨n+1,a⟩=4 from o)];rfl
    have J:=r a (aT y);have X:a.2.2.length<=8:=by
     exact nz J o
    exact uL M n _ _ _ _ _ _ b N po c w e u a t (by omega) (cZ (tH M n) a.2.2) _ A f (by omega) (by simpa using O) (by simpa using P) (by simpa using Q) (by simpa using R) (by simpa using d0) (by simpa using d1) (by simpa using d2) (by simpa using d3) (by simpa using L) (by simpa using ad) (by simpa using ai) (by simpa using aj) (by simpa using S) (by simpa using T) (by simpa using U) (by simpa using V) o m
     (λak p=>AP M n a.2.2 a.2.2.length rfl X a.2.1.1 a.2.1.2 B ak ((show fU B w n a.2.2 a.2.1.1 from I.2).below (p.mono g)) (aF g p.size) (λE s al W=>by
      have H:=p.trans (W.mono p.size);obtain⟨k,v⟩:=di s;rcases I.2 with z|⟨_,_,_,_,z⟩
      ·rw[z]at s;cases s
      ·exact C0 M n (by omega) E B al ((z k E v).2.below (H.mono g)) (bt n a E J s) (aF g H.size)))
     (mY aa (r e (aT j)) g) (mY ab (r u (aT D)) g) (mY Z (r t (aT C)) g)
   ·have A:tI M (n+1) b d=none:=by rw[h,if_neg (show¬ci ⟨n+1,a⟩=4 from o)]
    exact uK M n _ _ _ _ _ _ b N po c w _ A f (by omega) a.1.1 (by simpa using L) (by simpa using o) m
  ·have h:tI M n b d=none:=by simp[tI,q]
   exact wU M n _ _ _ _ _ _ b G d.length c w _ h f (wC q) (by simp;omega) m
 replace f:=pG f;have h:tI M n b d=none:=by simp[tI,F,f]
 exact uM M n _ _ _ _ _ _ b G d.length c w _ h f m
abbrev qv(M:Nat)(o:Option (Bh (M+1)))(w:ah)(e:Ending)(w':ah):Prop:=rS (rK (M+1)) (rN (M+1)) (kF (M+1)) (xZ (M+1)) o w e w'
theorem yQ{x:Tm (n+1)}(b:aL ⟨n+1,x⟩):(bY n x).length<=8:=by
 unfold bY;split
 ·rename_i a;have:=nz b a;split
  ·split
   ·rw[eU];omega
   ·simp
  ·simp
 ·simp
theorem Lo{a:Tm (n+1)}(d:aL ⟨n+1,a⟩)(b:a.1.1=2):a.1.2.2.size<=2048:=by
 have:=d (bQ n a) (by simp[aH,bQ]);have c:ei a.1.2.2=true:=by
  simp only[cM,bQ,b]at this;simp at this;exact this.1.1
 simp only[ei,qX,aS,cU]at c;omega
theorem Cw{q:List (Tm n)}{a:ay}(b:fU B w n q a){y:Tm n}(c:y∈q):In B w n y:=by
 rcases b with b|⟨_,_,_,_,b⟩
 ·subst b;cases c
 ·obtain⟨e,d⟩:=di c;exact(b e y d).2
theorem rm{o:Option (Bh (M+1))}(b:o=none)(a:ap w w'):qv M o w (aw (ax #[.agg #[af .empty,ag none 0 0],.bool false])) w':=by
 subst b;exact⟨(.empty,(none,0),[]),false,rfl,a,rfl,⟨aM _,⟨aA _,aM _⟩,ak rfl⟩,ak rfl,λd c=>by cases c⟩
theorem AS(M _n:Nat)(k i:Int)(s:aq)(xa:ay)(j xc:Nat)(wd:aq)(a:ay)(len c:Nat)(w:ah)(o:Option (Bh (M+1)))(m:Hid (o=none))(q:(wd.toList==[98,101,104])=false)(d:Hid (∀w1,ap w w1->au 117 #[.agg #[ae k,ae i,af s,ag xa j xc]] w1 λe w'=>e=aw (ax #[af wd,ag a len c])/\ap w1 w')):au 119 #[.agg #[ae k,ae i,af s,ag xa j xc]] w (qv M o w):=by
 go_enter func119,ntmps119;go_wp2_with fail;refine(d _ (by go_grown)).mono ?_;rintro e w1 ⟨rfl,f⟩;obtain⟨n,h,g,t⟩:=eQ f;have l:=av g;have b:=av h;clear f n h g d;have d0:w1.cell? ⟨w.heap.size+1,0,none⟩=some (af ⟨#[]⟩):=aC b 0;have d1:w1.cell? ⟨w.heap.size+1,1,none⟩=some (ag none 0 0):=aC b 1;have f0:=λp=>dr b p;have r:w.heap.size+1<w1.heap.size:=(aR.1 b).1;go_wp2_with fail;exact aD (v:=ax #[.agg #[af .empty,ag none 0 0],.bool false]) (by simp[results,results119,go_sem,d0,d1];rfl) rfl (rm m ((bW.set (bW.set (bW.refl _ _) _ _) _ _).below l (by omega)))
theorem C4(M _n:Nat)(k i:Int)(s:aq)(xa:ay)(j xc:Nat)(wd:aq)(a:ay)(len c:Nat)(w:ah)(o:Option (Bh (M+1)))(m:Hid (o=none))(q:(wd.toList==[98,101,104])=true)(r:(len:Int)<1)(d:Hid (∀w1,ap w w1->au 117 #[.agg #[ae k,ae i,af s,ag xa j xc]] w1 λe w'=>e=aw (ax #[af wd,ag a len c])/\ap w1 w')):au 119 #[.agg #[ae k,ae i,af s,ag xa j xc]] w (qv M o w):=by
 go_enter func119,ntmps119;go_wp2_with fail;refine(d _ (by go_grown)).mono ?_;rintro e w1 ⟨rfl,f⟩;obtain⟨n,h,g,u⟩:=eQ f;have l:=av g;have b:=av h;clear f n h g d;have d0:w1.cell? ⟨w.heap.size+1,0,none⟩=some (af ⟨#[]⟩):=aC b 0;have d1:w1.cell? ⟨w.heap.size+1,1,none⟩=some (ag none 0 0):=aC b 1;have f0:=λp=>dr b p;have t:w.heap.size+1<w1.heap.size:=(aR.1 b).1;go_wp2_with fail;exact aD (v:=ax #[.agg #[af .empty,ag none 0 0],.bool false]) (by simp[results,results119,go_sem,d0,d1];rfl) rfl (rm m ((bW.set (bW.set (bW.refl _ _) _ _) _ _).below l (by omega)))
theorem AQ(M _n:Nat)(k m:Int)(s:aq)(xa:ay)(n xc:Nat)(wd:aq)(b po len c:Nat)(w:ah)(o:Option (Bh (M+1)))(p:Hid (o=none))(u:(wd.toList==[98,101,104])=true)(y:¬(len:Int)<1)(z:(0:Int)<(len:Int))(q:b<w.heap.size)(l:Int)(g:ai w b po (ae l))(x:(l !=2)=true)(f:Hid (∀w1,ap w w1->au 117 #[.agg #[ae k,ae m,af s,ag xa n xc]] w1 λe w'=>e=aw (ax #[af wd,ag (some ⟨b,po,none⟩) len c])/\ap w1 w')):au 119 #[.agg #[ae k,ae m,af s,ag xa n xc]] w (qv M o w):=by
 go_enter func119,ntmps119;go_wp2_with fail;refine(f _ (by go_grown)).mono ?_;rintro e w1 ⟨rfl,h⟩;obtain⟨r,j,i,C⟩:=eQ h;have d:=av i;have a:=av j;clear h r j i f;replace g:=(aB d _ _ q).trans g;have A:b<w1.heap.size:=by omega
 have d0:w1.cell? ⟨w.heap.size+1,0,none⟩=some (af ⟨#[]⟩):=aC a 0;have d1:w1.cell? ⟨w.heap.size+1,1,none⟩=some (ag none 0 0):=aC a 1;have f0:=λt=>dr a t;have B:w.heap.size+1<w1.heap.size:=(aR.1 a).1;go_wp2_with fail;exact aD (v:=ax #[.agg #[af .empty,ag none 0 0],.bool false]) (by simp[results,results119,go_sem,d0,d1];rfl) rfl (rm p ((bW.set (bW.set (bW.refl _ _) _ _) _ _).below d (by omega)))
theorem C5(M _n:Nat)(k Q:Int)(s:aq)(xa:ay)(R xc:Nat)(wd:aq)(d po:Nat)(w:ah)(y2:aq)(aa:y2.size<=2048)(t:Option (List (Cl (M+1))))(o:Option (Bh (M+1)))(J:Hid (o=t.map λl=>(y2,(none,0),l)))(ar:(wd.toList==[98,101,104])=true)(K:d<w.heap.size)(m:ai w d po (ae 2))(n:ai w d (po+2) (af y2))(C:Hid (∀w1,ap w w1->au 117 #[.agg #[ae k,ae Q,af s,ag xa R xc]] w1 λe w'=>e=aw (ax #[af wd,ag (some ⟨d,po,none⟩) 1 1])/\ap w1 w'))(y:Hid (∀w1,ap w w1->au 145 #[ag (some ⟨d,po,none⟩) 0 0,.func (Fn.func 146) #[] #[]] w1 (mq 13 (fG (M+1)) (iQ (M+1)) (kG (M+1)) (DP (M+1)) t w1))):au 119 #[.agg #[ae k,ae Q,af s,ag xa R xc]] w (qv M o w):=by
 go_enter func119,ntmps119;go_wp2_with fail;refine(C _ (by go_grown)).mono ?_;rintro e w1 ⟨rfl,F⟩;obtain⟨Z,N,G,aF⟩:=eQ F;have f:=av G;have D:=av N;clear F Z N G C;replace m:=(aB f _ _ K).trans m;replace n:=(aB f _ _ K).trans n;have L:d<w1.heap.size:=by omega
 go_wp2_with fail;refine(y _ f).mono ?_;rintro e x ⟨l,c,i,u,rfl,B⟩;have g:=av B.1;have z:Hid (ap w x):=f.trans (g.mono f.size);have E:=av ((g.block (w.heap.size+1) (by omega)).trans D);have az:w1.heap.size<=x.heap.size:=g.size;have aA:d<x.heap.size:=by omega
 replace m:=(aB g _ _ L).trans m;replace n:=(aB g _ _ L).trans n;obtain⟨j,r⟩:∃j,l.length=j:=⟨_,rfl⟩;rw[r];have T:=av r;clear y D r;go_wp2_with fail;refine(eu _ _ aa).mono ?_;rintro e a ⟨rfl,p⟩;have A:=av p;have S:Hid (ap w a):=z.trans (p.mono z.size);have h:=av ((p.block (w.heap.size+1) (by omega)).trans E);have d0:a.cell? ⟨w.heap.size+1,0,none⟩=some (af ⟨#[]⟩):=aC h 0;have d1:a.cell? ⟨w.heap.size+1,1,none⟩=some (ag none 0 0):=aC h 1;have f0:=λab=>dr h ab;have aE:w.heap.size+1<a.heap.size:=(aR.1 h).1;clear p E h;go_wp2_with fail;refine aD (v:=ax #[.agg #[af y2,ag c j i],.bool u]) (by simp[results,results119,go_sem,d0,d1]) rfl ?_;have an:∀w',bW (w.heap.size+1) a w'->qv M o w (aw (ax #[.agg #[af y2,ag c j i],.bool u])) w':=λw' I=>by
  obtain⟨aG,ad,aj,ak,al,am⟩:=B;have q:=da (eM (M+1)) 13 (fG (M+1)) c;have W:Lay a.heap.size a 13 (fG (M+1)) (iQ (M+1) a.heap.size a) c l:=q.mono A.size (q.below A ak);have Y:uE (kG (M+1) (λb=>w.heap.size+1<b)) (λb=>w.heap.size+1<b) c l:=q.1 _ _ _ (λb (U:w1.heap.size<=b)=>(show w.heap.size+1<b by omega)) al;have V:rN (M+1) a.heap.size a (y2,(c,i),l):=⟨(show y2.size<=maxLen by unfold maxLen;omega),aj,W⟩;have H:kF (M+1) (λb=>w.heap.size+1<b) (y2,(c,i),l):=Y;refine⟨(y2,(c,i),l),u,by rw[<-T.out];rfl,I.below S (by omega),?_,I.stays (eL _) (P:=λb=>w.heap.size+1<b) (by omega) H V,(eL _).1 _ _ _ (λb (U:w.heap.size+1<b)=>(show w.heap.size<=b by omega)) H,λaH O=>?_⟩
  ·rw[ad,J.out];cases t<;>rfl
  ·rw[J.out]at O;obtain⟨ao,X,rfl⟩:=cI.1 O;exact⟨rfl,am ao X⟩
 exact an _ (bW.set (bW.set (bW.refl _ _) _ _) _ _)
theorem AR(M _n:Nat)(k T:Int)(s:aq)(xa:ay)(U xc:Nat)(wd:aq)(f po L c:Nat)(w:ah)(y2:aq)(ad:y2.size<=2048)(u:Option (List (Cl (M+1))))(o:Option (Bh (M+1)))(N:Hid (o=u.map λl=>(y2,(none,0),l)))(aA:(wd.toList==[98,101,104])=true)(O:f<w.heap.size)(_hl:¬(L:Int)<1)(K:(0:Int)<(L:Int))(aG:(1:Int)<=(L:Int))(_hlc:(L:Int)<=(c:Int))(aF:¬c=1)(_hcm:(c:Int)<=9223372036854775807)(n:ai w f po (ae 2))(p:ai w f (po+2) (af y2))(D:Hid (∀w1,ap w w1->au 117 #[.agg #[ae k,ae T,af s,ag xa U xc]] w1 λe w'=>e=aw (ax #[af wd,ag (some ⟨f,po,none⟩) L c])/\ap w1 w'))(z:Hid (∀w1,ap w w1->au 145 #[ag (some ⟨f,po+4,none⟩) (L-1) (c-1),.func (Fn.func 146) #[] #[]] w1 (mq 13 (fG (M+1)) (iQ (M+1)) (kG (M+1)) (DP (M+1)) u w1))):au 119 #[.agg #[ae k,ae T,af s,ag xa U xc]] w (qv M o w):=by
 go_enter func119,ntmps119;go_wp2_with fail;refine(D _ (by go_grown)).mono ?_;rintro e w1 ⟨rfl,G⟩;obtain⟨ab,R,H,aJ⟩:=eQ G;have g:=av H;have E:=av R;clear G ab R H D;replace n:=(aB g _ _ O).trans n;replace p:=(aB g _ _ O).trans p;have Q:f<w1.heap.size:=by omega
 go_wp2_with fail;refine(z _ g).mono ?_;rintro e y ⟨l,d,j,x,rfl,C⟩;have h:=av C.1;have A:Hid (ap w y):=g.trans (h.mono g.size);have F:=av ((h.block (w.heap.size+1) (by omega)).trans E);have aE:w1.heap.size<=y.heap.size:=h.size;have aH:f<y.heap.size:=by omega
 replace n:=(aB h _ _ Q).trans n;replace p:=(aB h _ _ Q).trans p;obtain⟨m,t⟩:∃m,l.length=m:=⟨_,rfl⟩;rw[t];have W:=av t;clear z E t;go_wp2_with fail;refine(eu _ _ ad).mono ?_;rintro e a ⟨rfl,q⟩;have B:=av q;have V:Hid (ap w a):=A.trans (q.mono A.size);have i:=av ((q.block (w.heap.size+1) (by omega)).trans F);have d0:a.cell? ⟨w.heap.size+1,0,none⟩=some (af ⟨#[]⟩):=aC i 0;have d1:a.cell? ⟨w.heap.size+1,1,none⟩=some (ag none 0 0):=aC i 1;have f0:=λaj=>dr i aj;have aI:w.heap.size+1<a.heap.size:=(aR.1 i).1;clear q F i;go_wp2_with fail;refine aD (v:=ax #[.agg #[af y2,ag d m j],.bool x]) (by simp[results,results119,go_sem,d0,d1]) rfl ?_;have ar:∀w',bW (w.heap.size+1) a w'->qv M o w (aw (ax #[.agg #[af y2,ag d m j],.bool x])) w':=λw' J=>by
  obtain⟨aK,ak,al,am,an,ao⟩:=C;have r:=da (eM (M+1)) 13 (fG (M+1)) d;have Z:Lay a.heap.size a 13 (fG (M+1)) (iQ (M+1) a.heap.size a) d l:=r.mono B.size (r.below B am);have aa:uE (kG (M+1) (λb=>w.heap.size+1<b)) (λb=>w.heap.size+1<b) d l:=r.1 _ _ _ (λb (X:w1.heap.size<=b)=>(show w.heap.size+1<b by omega)) an;have Y:rN (M+1) a.heap.size a (y2,(d,j),l):=⟨(show y2.size<=maxLen by unfold maxLen;omega),al,Z⟩;have I:kF (M+1) (λb=>w.heap.size+1<b) (y2,(d,j),l):=aa;refine⟨(y2,(d,j),l),x,by rw[<-W.out];rfl,J.below V (by omega),?_,J.stays (eL _) (P:=λb=>w.heap.size+1<b) (by omega) I Y,(eL _).1 _ _ _ (λb (X:w.heap.size+1<b)=>(show w.heap.size<=b by omega)) I,λaL S=>?_⟩
  ·rw[ak,N.out];cases u<;>rfl
  ·rw[N.out]at S;obtain⟨az,K,rfl⟩:=cI.1 S;exact⟨rfl,ao az K⟩
 exact ar _ (bW.set (bW.set (bW.refl _ _) _ _) _ _)
theorem C3(M n:Nat)(Z:n<=M+1)(x:Tm n)(B:Nat)(w:ah)(K:In B w n x)(H:aL ⟨n,x⟩)(p:B<=w.heap.size):au 119 #[dF n x] w (qv M (AI M n x) w):=by
 cases n with
 | zero=>exact K.elim
 | succ n=>
 obtain⟨D,c,h,S,Y,k⟩:=sD n x B w K p;show au 119 #[.agg #[ae x.1.1,ae x.1.2.1,af x.1.2.2,ag x.2.1.1 x.2.2.length x.2.1.2]] w (qv M (uJ M n (fy n x) (bY n x)) w);have I:∀d∈bY n x,aL ⟨n,d⟩:=λd U=>eO H U;have R:(bY n x).length<=8:=yQ H;generalize fy n x=e at*;generalize bY n x=a at*;have A:uj e xr=(e.toList==[98,101,104]):=od e [98,101,104];by_cases f:(e.toList==[98,101,104])=true
 ·cases a with
  | nil=>
   have g:uJ M n e []=none:=by simp[uJ]
   exact C4 M n _ _ _ _ _ _ e D 0 c w _ g f (by omega) k
  | cons d a=>
   obtain⟨q,po,rfl⟩:=sq h (by simp);cases n with
   | zero=>exact(sV h (show (d::a)[0]?=some d from rfl)).elim
   | succ n=>
   obtain⟨⟨m,W,E,X⟩,ab,aa⟩:=iF h (show (d::a)[0]?=some d from rfl);by_cases i:d.1.1=2
   ·have g:uJ M (n+1) e (d::a)=(cZ (AJ M (n+1)) a).map λl=>(d.1.2.2,(none,0),l):=by
      simp[uJ,A,f,ci,i,yC,gL,bQ]
    have J:d.1.2.2.size<=2048:=Lo (I d (by simp)) i;have G:fU B w (n+1) a (some ⟨q,po+4,none⟩):=by
     rcases h with h|⟨b,o,v,t,h⟩
     ·cases h
     ·injection v with v;injection v with O P;subst O P
      exact am ⟨q,po+4,rfl,t,λz j y=>by
       have:=h (z+1) j (by simpa using y);rw[show po+4+z*4=po+(z+1)*4 by omega]
       exact this⟩
    have C:∀(j:ay)(u:Nat),fU B w (n+1) a j->∀r,ap w r->au 145 #[ag j a.length u,.func (Fn.func 146) #[] #[]] r (mq 13 (fG (M+1)) (iQ (M+1)) (kG (M+1)) (DP (M+1)) (cZ (AJ M (n+1)) a) r):=λj u y r s=>
     uN M (n+1) a a.length rfl (by simp at R;omega) j u B r (y.below (s.mono p)) (aF p s.size) (λN L V Q=>by
      have t:=s.trans (Q.mono s.size)
      exact wT M (n+1) (by omega) N B V ((Cw G L).below (t.mono p)) (I N (by simp[L])) (aF p t.size))
    by_cases F:c=1
    ·have T:a=[]:=b8 (by simp at S;omega);subst T F;exact C5 M (n+1) _ _ _ _ _ _ e q po w d.1.2.2 J _ _ g f (by omega) (by rw[i]at m;simpa using m) (by simpa using E) k (C _ 0 (ak rfl))
    ·exact AR M (n+1) _ _ _ _ _ _ e q po (d::a).length c w d.1.2.2 J _ _ g f (by omega) (by simp only[bu];omega) (by simp only[bu];omega) (by simp only[bu];omega) (by omega) F (by omega) (by rw[i]at m;simpa using m) (by simpa using E) k (C _ (c-1) G)
   ·have g:uJ M (n+1) e (d::a)=none:=by simp[uJ,ci,i]
    exact AQ M (n+1) _ _ _ _ _ _ e q po (d::a).length c w _ g f (by simp only[bu];omega) (by simp only[bu];omega) (by omega) d.1.1 (by simpa using m) (by simpa using i) k
 replace f:=pG f;have g:uJ M n e a=none:=by simp[uJ,A,f]
 exact AS M n _ _ _ _ _ _ e D a.length c w _ g f k
abbrev vp(M:Nat)(o:Option (List (Bh (M+1))))(w:ah)(e:Ending)(w':ah):Prop:=mq 2 (rK (M+1)) (rN (M+1)) (kF (M+1)) (xZ (M+1)) o w e w'
theorem CY{o:Option (List (Bh (M+1)))}(b:o=none)(a:ap w w'):vp M o w (aw (ax #[ag none 0 0,.bool false])) w':=by
 subst b;exact⟨[],none,0,false,rfl,a,rfl,⟨aA _,aM _⟩,ak rfl,ak rfl,λd c=>by cases c⟩
theorem xH(M _n:Nat)(k r:Int)(s:aq)(xa:ay)(t xc:Nat)(wd:aq)(a:ay)(len c:Nat)(w:ah)(o:Option (List (Bh (M+1))))(b:Bool)(G:(wd.toList==[99,111,100,101])=b)(p:Hid (b=false->o=none))(m:Hid (∀w1,ap w w1->au 117 #[.agg #[ae k,ae r,af s,ag xa t xc]] w1 λe w'=>e=aw (ax #[af wd,ag a len c])/\ap w1 w'))(j:Hid (b=true->∀w1,ap w w1->au 118 #[ag a len c,.func (Fn.func 119) #[] #[]] w1 (vp M o w1))):au 80 #[.agg #[ae k,ae r,af s,ag xa t xc]] w (vp M o w):=by
 cases b
 ·have HB:Hid (o=none):=p rfl;go_enter func80,ntmps80;go_wp2_with fail;refine(m _ (by go_grown)).mono ?_;rintro e w1 ⟨rfl,f⟩;have d:Hid (ap w w1):=aZ.trans (f.mono (by simp));clear f;go_wp2_with fail;exact aD (v:=ax #[ag none 0 0,.bool false]) (by simp[results,results80,go_sem]) rfl (CY HB d)
 ·have u:=av (j rfl);clear j p;go_enter func80,ntmps80;go_wp2_with fail;refine(m _ (by go_grown)).mono ?_;rintro e w1 ⟨rfl,f⟩;have d:Hid (ap w w1):=aZ.trans (f.mono (by simp));clear f;go_wp2_with fail;refine(u _ d).mono ?_;rintro e H ⟨l,h,n,q,rfl,x⟩;obtain⟨g,i⟩:∃g,l.length=g:=⟨_,rfl⟩;rw[i];have y:=av i;clear i;go_wp2_with fail;refine aD (v:=ax #[ag h g n,.bool q]) (by simp[results,results80,go_sem]) rfl ?_;obtain⟨A,B,C,D,E,F⟩:=x;exact⟨l,h,n,q,by rw[y.out],d.trans (A.mono d.size),B,C,D,(da (eL _) 2 (rK (M+1)) h).1 _ _ _ (λb z=>aF d.size z) E,F⟩
theorem AT(M n:Nat)(A:n<=M+1)(x:Tm n)(B:Nat)(w:ah)(j:In B w n x)(i:aL ⟨n,x⟩)(a:B<=w.heap.size):au 80 #[dF n x] w (vp M (xF M n x) w):=by
 cases n with
 | zero=>exact j.elim
 | succ n=>
 obtain⟨f,c,h,z,y,o⟩:=sD n x B w j a;have s:∀l∈bY n x,aL ⟨n,l⟩:=λl t=>eO i t;have r:(bY n x).length<=8:=yQ i;have e:uj (fy n x) px=((fy n x).toList==[99,111,100,101]):=od _ [99,111,100,101];refine xH M n _ _ _ _ _ _ (fy n x) f (bY n x).length c w (xF M (n+1) x) _ rfl (λd=>?_) o (λd u b=>?_)
 ·simp only[xF,e,d];rfl
 ·have p:xF M (n+1) x=cZ (AI M n) (bY n x):=by simp only[xF,e,d];rfl
  rw[p]
  exact rn M n (bY n x) (bY n x).length rfl r f c B u (h.below (b.mono a)) (aF a b.size) (λm k v q=>by
   have g:=b.trans (q.mono b.size)
   exact C3 M n (by omega) m B v ((Cw h k).below (g.mono a)) (s m k) (aF a g.size))
theorem B6{s:aq}(b:s.toList.isEmpty=true):s=.empty:=by
 apply vz;have a:ByteArray.empty.toList=[]:=by rw[cD];rfl
 rw[a];simpa using b
theorem yW{x:Tm (n+1)}(f:aL ⟨n+1,x⟩)(c:x.1.1=4):x.1=(4,0,.empty):=by
 have a:=f (bQ n x) (by simp[aH,bQ]);unfold cM at a;have b:(bQ n x).1.1=4:=c;rw[if_neg (by rw[b];omega),if_neg (by rw[b];omega),if_neg (by rw[b];omega),if_pos b]at a;simp only[aS,cT]at a;have d:x.1.2.2=.empty:=B6 a.1.1.1;have e:x.1.2.1=0:=a.1.1.2;exact iN c (iN e d)
theorem rq{x:Tm (n+1)}(g:aL ⟨n+1,x⟩)(d:x.1.1=2):x.1=(2,0,x.1.2.2)/\x.2.2=[]/\ei x.1.2.2=true:=by
 have b:=g (bQ n x) (by simp[aH,bQ]);unfold cM at b;have c:(bQ n x).1.1=2:=d;rw[if_neg (by rw[c];omega),if_pos c]at b;simp only[aS,ki,cT]at b;obtain⟨⟨f,e⟩,a⟩:=b;refine⟨iN d (iN e rfl),?_,f⟩;rcases a with a|a
 ·rw[c]at a;omega
 ·have h:¬(0:Int)<(x.2.2.length:Int):=by simpa [bQ]using a
  exact b8 (by omega)
theorem yX{x:Tm (n+1)}(g:aL ⟨n+1,x⟩)(d:x.1.1=5):x.1=(5,x.1.2.1,.empty)/\x.2.2=[]/\0<=x.1.2.1/\x.1.2.1<=3:=by
 have c:=g (bQ n x) (by simp[aH,bQ]);unfold cM at c;have a:(bQ n x).1.1=5:=d;rw[if_neg (by rw[a];omega),if_neg (by rw[a];omega),if_neg (by rw[a];omega),if_neg (by rw[a];omega),if_pos a]at c;simp only[aS,ki,cT,qX,cU]at c;obtain⟨⟨f,e⟩,b⟩:=c;refine⟨iN d (iN rfl (B6 f)),?_,e⟩;rcases b with b|b
 ·rw[a]at b;omega
 ·have h:¬(0:Int)<(x.2.2.length:Int):=by simpa [bQ]using b
  exact b8 (by omega)
theorem s8{x:Tm (n+1)}(d:aL ⟨n+1,x⟩)(b:x.1.1=2)(N:Nat):aJ (N+1) (bP x.1.2.2 N) (n+1) x=true:=by
 obtain⟨a,c,_⟩:=rq d b;refine dC a.symm ?_;rw[c];rfl
theorem Mq{x:Tm (n+1)}(d:aL ⟨n+1,x⟩)(c:x.1.1=5)(N:Nat):aJ (N+1) (cw 5 x.1.2.1 N) (n+1) x=true:=by
 obtain⟨a,b,_⟩:=yX d c;refine dC a.symm ?_;rw[b];rfl
theorem ie{x:Tm (n+1)}(i:aL ⟨n+1,x⟩)(m:uj (fy n x) wd=true)(b:wd.toList≠[]):x.1=(4,0,.empty)/\∃h,x.2.2=h::bY n x/\∀N,aJ (N+1) (bP wd N) n h=true:=by
 have f:ByteArray.empty.toList=[]:=by rw[cD];rfl
 have a:fy n x=wd:=vz m;unfold fy at a;by_cases e:x.1.1=4
 ·rw[if_pos e]at a;refine⟨yW i e,?_⟩;obtain⟨⟨k,q,p⟩,⟨o,c⟩,j⟩:=x;simp only at e a;subst e;cases j with
  | nil=>
   simp at a;rw[<-a,f]at b;exact(b rfl).elim
  | cons d j=>
   simp only[dm]at a;cases n with
   | zero=>
    simp[ci]at a;rw[<-a,f]at b;exact(b rfl).elim
   | succ n=>
    by_cases g:d.1.1=2
    ·refine⟨d,by simp[bY,ci,g],λN=>?_⟩;have l:wd=d.1.2.2:=by
      rw[if_pos (show ci ⟨n+1,d⟩=2 from g)]at a;exact a.symm
     rw[l];exact s8 (bt (n+1) _ d i (by simp)) g N
    ·rw[if_neg (show¬ci ⟨n+1,d⟩=2 from g)]at a;rw[<-a,f]at b;exact(b rfl).elim
 ·rw[if_neg e]at a;rw[<-a,f]at b;exact(b rfl).elim
theorem oB(l:List UInt8)(a:l≠[]):(⟨l.toArray⟩:aq).toList≠[]:=by rw[ld];exact a
theorem nw(a:n<=M+1){y:Tm n}(b:aL ⟨n,y⟩):aJ (M+1) (bj (M+1) n y) n y=true:=ni (M+1) n a y (fS n y b)
theorem Li{l:List h}{a:h}(b:l.length=1)(c:l[0]?=some a):l=[a]:=by
 match l,b with
 | [x],_=>simpa using c
theorem Lj{l:List h}{a b:h}(e:l.length=2)(c:l[0]?=some a)(d:l[1]?=some b):l=[a,b]:=by
 match l,e with
 | [x,y],_=>
  simp at c d;rw[c,d]
theorem EM{l:List h}{a b c:h}(g:l.length=3)(d:l[0]?=some a)(e:l[1]?=some b)(f:l[2]?=some c):l=[a,b,c]:=by
 match l,g with
 | [x,y,z],_=>
  simp at d e f;rw[d,e,f]
theorem Iz{l:List h}{a b c d:h}(j:l.length=4)(e:l[0]?=some a)(f:l[1]?=some b)(g:l[2]?=some c)(i:l[3]?=some d):l=[a,b,c,d]:=by
 match l,j with
 | [x,y,z,t],_=>
  simp at e f g i;rw[e,f,g,i]
theorem LI(M:Nat):(n:Nat)->n<=M+1->(x:Tm n)->aL ⟨n,x⟩->(a:Ac (M+1))->tH M n x=some a->aJ (M+2) (cO M a) n x=true/\oO (M+1) a=true
 | 0,_,_,hr,_,_=>(dG hr).elim
 | n+1,hn,x,hr,a,h=>by
  have e:∀y∈bY n x,aL ⟨n,y⟩:=λy E=>eO hr E;have w:fm (M+1) (zT M)=true:=by
   have t:ByteArray.empty.toList=[]:=by rw[cD];rfl
   simp[fm,gL,bQ,zT,t]
  have u:xE .empty 0=true:=by
   have t:ByteArray.empty.toList=[]:=by rw[cD];rfl
   simp[xE,t]
  have get:∀(d:List (Tm n))(s:Nat),s<d.length->∃y,d[s]?=some y/\y∈d:=λd s z=>⟨d[s],aU z,gh z⟩;simp only[tH,kA]at h;split at h
  ·rename_i b;simp only[aS,cU]at b;obtain⟨k,j,l,m⟩:=ie hr b.1 (oB [115,101,110,100] (by simp));obtain⟨c,f,p⟩:=get _ 0 (by rw[b.2];omega);obtain⟨d,q,v⟩:=get _ 1 (by rw[b.2];omega);rw[f,q]at h;have i:a=(1,(bj (M+1) n c,bj (M+1) n d),(.empty,0)):=by simpa using h.symm
   have o:bY n x=[c,d]:=Lj b.2 f q;subst i;refine⟨dC k.symm ?_,u⟩;rw[l,o];show aN _ [bP oL M,bj (M+1) n c,bj (M+1) n d] [j,c,d]=true;simp only[aN,m M,nw (M:=M) (by omega) (e c p),nw (M:=M) (by omega) (e d v),iK]
  split at h
  ·rename_i b;simp only[aS,cU]at b;obtain⟨k,j,l,m⟩:=ie hr b.1 (oB [115,112,97,119,110] (by simp));obtain⟨c,f,p⟩:=get _ 0 (by rw[b.2];omega);obtain⟨d,q,v⟩:=get _ 1 (by rw[b.2];omega);obtain⟨g,B,A⟩:=get _ 2 (by rw[b.2];omega);rw[f,q,B]at h;simp only[dT,AK]at h;split at h
   ·rename_i r;have i:a=(2,(zT M,bj (M+1) n d),(yC n c,qr n g)):=by simpa using h.symm
    have o:bY n x=[c,d,g]:=EM b.2 f q B;subst i;cases n with
    | zero=>exact(dG (e c p)).elim
    | succ n=>
    have D:=yX (e g A) r.2;have C:=rq (e c p) r.1;refine⟨dC k.symm ?_,?_⟩
    ·rw[l,o];show aN _ [bP kC M,bP c.1.2.2 M,bj (M+1) (n+1) d,cw 5 g.1.2.1 M] [j,c,d,g]=true;simp only[aN,m M,nw (M:=M) (by omega) (e d v),s8 (e c p) r.1 M,Mq (e g A) r.2 M,iK]
    ·show (fm (M+1) (zT M) && ei c.1.2.2 && decide (0<=g.1.2.1) && decide (g.1.2.1<4))=true;rw[w,C.2.2,iv D.2.2.1,iv (by omega)];rfl
   ·cases h
  split at h
  ·rename_i b;simp only[aS,cU]at b;obtain⟨k,j,l,m⟩:=ie hr b.1 (oB [108,105,110,107] (by simp));obtain⟨c,f,p⟩:=get _ 0 (by rw[b.2];omega);rw[f]at h;have i:a=(3,(bj (M+1) n c,zT M),(.empty,0)):=by simpa using h.symm
   have o:bY n x=[c]:=Li b.2 f;subst i;refine⟨dC k.symm ?_,?_⟩
   ·rw[l,o];show aN _ [bP oK M,bj (M+1) n c] [j,c]=true;simp only[aN,m M,nw (M:=M) (by omega) (e c p),iK]
   ·show (fm (M+1) (zT M) && xE .empty 0)=true;rw[w,u];rfl
  split at h
  ·rename_i b;simp only[aS,cU]at b;obtain⟨k,j,l,m⟩:=ie hr b.1 (oB [115,116,111,112] (by simp));have i:a=(4,(zT M,zT M),(.empty,0)):=by simpa using h.symm
   have o:bY n x=[]:=b8 b.2;subst i;refine⟨dC k.symm ?_,?_⟩
   ·rw[l,o];show aN _ [bP oM M] [j]=true;simp only[aN,m M,iK]
   ·show (fm (M+1) (zT M) && fm (M+1) (zT M) && xE .empty 0)=true;rw[w,u];rfl
  ·cases h
theorem qw{b:Type}{f g:b->Bool}:{l:List b}->(∀x∈l,f x=g x)->l.all f=l.all g
 | [],_=>rfl
 | a::l,h=>by
  simp only[jw,h a (by simp),qw (l:=l) λx c=>h x (by simp[c])]
theorem pD{d:Type}{n N:Nat}{f:Tm n->Option d}{g:d->Tm N}{B:d->Bool}(e:∀x a,aL ⟨n,x⟩->f x=some a->aJ N (g a) n x=true/\B a=true):(p:List (Tm n))->(∀y∈p,aL ⟨n,y⟩)->(l:List d)->cZ f p=some l->aN (λa b=>aJ N a n b) (l.map g) p=true/\l.all B=true/\l.length=p.length
 | [],_,l,c=>by
  simp[cZ]at c;subst c;exact⟨rfl,rfl,rfl⟩
 | y::p,hr,l,c=>by
  simp only[cZ]at c;obtain⟨a,k,c⟩:=cu.1 c;obtain⟨r,m,rfl⟩:=cI.1 c;obtain⟨h,i,j⟩:=pD e p (λt o=>hr t (by simp[o])) r m;obtain⟨q,s⟩:=e y a (hr y (by simp)) k;refine⟨?_,by simp[s,i],by simp[j]⟩;simp only[bA,aN,q,h,iK]
theorem re(c:n<=M+1)(b:M+1<=N){y:Tm n}(d:aL ⟨n,y⟩):aJ N (bj N (M+1) (bj (M+1) n y)) n y=true:=by
 have a:=nw c d;exact bV _ _ _ _ _ _ (ni N (M+1) b _ (zb a)) a
theorem LK(M:Nat):(n:Nat)->n<=M+1->(x:Tm n)->aL ⟨n,x⟩->(c:Cl (M+1))->AJ M n x=some c->aJ (M+4) (eC M c) n x=true/\vD (M+1) c=true
 | 0,_,_,hr,_,_=>(dG hr).elim
 | n+1,hn,x,hr,c,h=>by
  have d:∀y∈bY n x,aL ⟨n,y⟩:=λy e=>eO hr e;have get:∀(q:List (Tm n))(i:Nat),i<q.length->∃y,q[i]?=some y/\y∈q:=λq i j=>⟨q[i],aU j,gh j⟩;simp only[AJ,tI]at h;split at h
  ·rename_i b;simp only[aS,cU]at b;obtain⟨z,w,A,C⟩:=ie hr b.1 (oB [111,110] (by simp));obtain⟨p,k,m⟩:=get _ 0 (by rw[b.2];omega);obtain⟨q,o,I⟩:=get _ 1 (by rw[b.2];omega);obtain⟨r,u,f⟩:=get _ 2 (by rw[b.2];omega);obtain⟨t,v,J⟩:=get _ 3 (by rw[b.2];omega);rw[k,o,u,v]at h;simp only[dT]at h;split at h
   ·rename_i F;obtain⟨l,G,rfl⟩:=cI.1 h;have H:bY n x=[p,q,r,t]:=Iz b.2 k o u v;cases n with
    | zero=>exact(dG (d p m)).elim
    | succ n=>
    have s:r.1.1=4:=F;obtain⟨K,L,P⟩:=pD (g:=cO M) (B:=oO (M+1)) (λy a e E=>LI M n (by omega) y e a E) r.2.2 (λy e=>bt n r y (d r f) e) l G;have O:=nz (d r f) s;refine⟨dC z.symm ?_,?_⟩
    ·rw[A,H];show aN _ [bP Oc (M+2),bj (M+3) (M+1) (bj (M+1) (n+1) p),bj (M+3) (M+1) (bj (M+1) (n+1) q),dS (M+2) (l.map (cO M)),bj (M+3) (M+1) (bj (M+1) (n+1) t)] [w,p,q,r,t]=true;have D:aJ (M+3) (dS (M+2) (l.map (cO M))) (n+1) r=true:=dC (yW (d r f) s).symm K;simp only[aN,C (M+2),re (N:=M+3) (M:=M) (by omega) (by omega) (d p m),re (N:=M+3) (M:=M) (by omega) (by omega) (d q I),re (N:=M+3) (M:=M) (by omega) (by omega) (d t J),D,iK]
    ·show (decide ((l.length:Int)<=8) && l.all (oO (M+1)))=true;rw[L,iv (by omega)];rfl
   ·cases h
  ·cases h
theorem LJ(M:Nat):(n:Nat)->n<=M+1->(x:Tm n)->aL ⟨n,x⟩->(b:Bh (M+1))->AI M n x=some b->aJ (M+5) (eP M b) n x=true/\(ei b.1 && decide ((b.2.2.length:Int)<=6) && b.2.2.all (vD (M+1)))=true
 | 0,_,_,hr,_,_=>(dG hr).elim
 | n+1,hn,x,hr,b,a=>by
  have e:∀y∈bY n x,aL ⟨n,y⟩:=λy d=>eO hr d;simp only[AI,uJ]at a;split at a
  ·rename_i u;obtain⟨h,r,i,s⟩:=ie hr u (oB [98,101,104] (by simp));obtain⟨p,m,a⟩:=cu.1 a;split at a
   ·rename_i k;obtain⟨l,v,rfl⟩:=cI.1 a;have z:x.1.1=4:=by rw[h]
    have j:=nz hr z;generalize bY n x=f at*;cases f with
    | nil=>simp at m
    | cons c f=>
    have q:c=p:=by simpa using m
    subst q;cases n with
    | zero=>exact(dG (e c (by simp))).elim
    | succ n=>
    have w:=rq (e c (by simp)) k;obtain⟨A,C,D⟩:=pD (g:=eC M) (B:=vD (M+1)) (λy o d t=>LK M (n+1) (by omega) y d o t) f (λy d=>e y (by simp[d])) l v;rw[i]at j;simp only[bu]at j;refine⟨dC h.symm ?_,?_⟩
    ·rw[i];show aN _ (bP xr (M+3)::bP c.1.2.2 (M+3)::l.map (eC M)) (r::c::f)=true;simp only[aN,s (M+3),s8 (e c (by simp)) k (M+3),A,iK]
    ·show (ei c.1.2.2 && decide ((l.length:Int)<=6) && l.all (vD (M+1)))=true;rw[w.2.2,C,iv (by omega)];rfl
   ·cases a
  ·cases a
theorem sJ(M:Nat):(n:Nat)->n<=M+1->(x:Tm n)->aL ⟨n,x⟩->(l:List (Bh (M+1)))->xF M n x=some l->aJ (M+6) (cX M l) n x=true/\lk (M+1) l=(decide (1<=(l.length:Int)) && l.all λb=>decide (1<=(b.2.2.length:Int)))
 | 0,_,_,hr,_,_=>(dG hr).elim
 | n+1,hn,x,hr,l,h=>by
  have r:∀y∈bY n x,aL ⟨n,y⟩:=λy c=>eO hr c;simp only[xF]at h;split at h
  ·rename_i a;obtain⟨d,o,e,p⟩:=ie hr a (oB [99,111,100,101] (by simp));have s:x.1.1=4:=by rw[d]
   have f:=nz hr s;obtain⟨t,i,u⟩:=pD (g:=eP M) (B:=λb=>ei b.1 && decide ((b.2.2.length:Int)<=6) && b.2.2.all (vD (M+1))) (λy j c q=>LJ M n (by omega) y c j q) (bY n x) r l h;rw[e]at f;simp only[bu]at f;refine⟨dC d.symm ?_,?_⟩
   ·rw[e];show aN _ (bP px (M+4)::l.map (eP M)) (o::bY n x)=true;simp only[aN,p (M+4),t,iK]
   ·have k:decide ((l.length:Int)<=7)=true:=iv (by omega);have m:l.all (xY (M+1))=l.all λb=>decide (1<=(b.2.2.length:Int)):=by
     rw[cY]at i;refine qw λb a=>?_;have:=i b a;simp only[aS]at this;simp only[xY,this.1.1,this.1.2,this.2,eT,Bool.and_true]
    simp only[lk,k,m,Bool.and_true]
  ·cases h
theorem ee{b:j}{q:List j}(c:aN f p (b::q)=true):∃a d,p=a::d/\f a b=true/\aN f d q=true:=by
 cases p with
 | nil=>simp[aN]at c
 | cons a p=>
  simp only[aN,aS]at c;exact⟨a,p,rfl,c.1,c.2⟩
theorem nA(a:aN f p ([]:List j)=true):p=[]:=by
 cases p with
 | nil=>rfl
 | cons b p=>simp[aN]at a
theorem LR{x:Tm n}{y:Tm (m+1)}(a:aJ n x (m+1) y=true):(gL n x).1=y.1:=(GJ a).1
theorem oC{x:Tm (N+1)}{ys:List (Tm (n+1))}(j:aJ (N+1) x (n+2) (dS (n+1) (bP wd n::ys))=true):fy N x=wd/\aN (λa b=>aJ N a (n+1) b) (bY N x) ys=true:=by
 obtain⟨k,l⟩:=bU j;obtain⟨a,p,f,g,m⟩:=ee l;have c:x.1.1=4:=by rw[k];rfl
 have d:=LR g;have h:ci ⟨N,a⟩=2:=by
  cases N with
  | zero=>simp[aJ]at g
  | succ N=>
   have:a.1.1=2:=by
    have i:a.1=(2,0,wd):=d;rw[i]
   exact this
 have e:x.2.2[0]?=some a:=by rw[f];rfl
 have o:x.2.2.drop 1=p:=by rw[f];rfl
 constructor
 ·simp only[fy,c,cC,e,h];rw[d];rfl
 ·simp only[bY,c,cC,e,h,o];exact m
theorem lV(wd:aq):uj wd wd=true:=by simp[uj]
theorem uU{o g:Type}{n:Nat}{f:Tm n->Option o}{R:Tm n->g->Prop}{Q:o->g->Prop}(j:∀y b,R y b->∃a,f y=some a/\Q a b):(q:List (Tm n))->(l:List g)->fe R q l->∃c,cZ f q=some c/\fe Q c l
 | [],[],_=>⟨[],rfl,fe.nil⟩
 | [],_::_,h=>by have:=h.1;simp at this
 | _::_,[],h=>by have:=h.1;simp at this
 | y::q,b::l,h=>by
  obtain⟨a,p,k⟩:=j y b h.tail.1;obtain⟨c,r,m⟩:=uU j q l h.tail.2;refine⟨a::c,by simp[cZ,p,r],by simp[m.1],λi s v d e=>?_⟩;cases i with
  | zero=>
   simp at d e;subst d e;exact k
  | succ i=>exact m.2 i s v (by simpa using d) (by simpa using e)
theorem mB{e:Type}{n m:Nat}(g:e->Tm m):(q:List (Tm n))->(l:List e)->aN (λa b=>aJ n a m b) q (l.map g)=true->fe (λy b=>aJ n y m (g b)=true) q l
 | [],[],_=>fe.nil
 | [],_::_,h=>by simp[aN]at h
 | _::_,[],h=>by simp[aN]at h
 | y::q,b::l,h=>by
  simp only[bA,aN,aS]at h;have ih:=mB g q l h.2;refine⟨by simp[ih.1],λi f v c d=>?_⟩;cases i with
  | zero=>
   simp at c d;subst c d;exact h.1
  | succ i=>exact ih.2 i f v (by simpa using c) (by simpa using d)
theorem lh{s:aq}(a:wd.toList≠s.toList):uj wd s=false:=by simpa [uj]using a
theorem Pq(M N n:Nat)(a:Ac (n+1))(y:Tm N)(b:aJ N y (n+2) (cO n a)=true):∃E,tH M N y=some E:=by
 cases N with
 | zero=>simp[aJ]at b
 | succ N=>
 have i:oL.toList=[115,101,110,100]:=ld [115,101,110,100];have j:kC.toList=[115,112,97,119,110]:=ld [115,112,97,119,110];have k:oK.toList=[108,105,110,107]:=ld [108,105,110,107];have l:oM.toList=[115,116,111,112]:=ld [115,116,111,112];unfold cO at b;split at b
 ·obtain⟨c,d⟩:=oC b;obtain⟨s,t,f,r,h⟩:=ee d;obtain⟨B,C,o,z,q⟩:=ee h;have p:=nA q;subst o p;simp only[tH,kA,c,f,lV];exact⟨_,rfl⟩
 split at b
 ·obtain⟨c,d⟩:=oC b;obtain⟨s,t,f,r,h⟩:=ee d;obtain⟨B,C,o,z,q⟩:=ee h;obtain⟨D,F,p,A,v⟩:=ee q;have g:=nA v;subst o p g;have w:ci ⟨N,s⟩=2:=by rw[lm r];rfl
  have x:ci ⟨N,D⟩=5:=by rw[lm A];rfl
  have e:uj kC oL=false:=lh (by rw[i,j];decide);simp only[tH,kA,c,f,lV,e,Bool.false_and,eT];simp[AK,w,x]
 split at b
 ·obtain⟨c,d⟩:=oC b;obtain⟨s,t,f,r,h⟩:=ee d;have g:=nA h;subst g;have e:uj oK oL=false:=lh (by rw[i,k];decide);have m:uj oK kC=false:=lh (by rw[j,k];decide);simp only[tH,kA,c,f,lV,e,m,Bool.false_and,eT];simp
 ·obtain⟨c,d⟩:=oC b;have g:=nA d;have e:uj oM oL=false:=lh (by rw[i,l];decide);have m:uj oM kC=false:=lh (by rw[j,l];decide);have u:uj oM oK=false:=lh (by rw[k,l];decide);simp only[tH,kA,c,g,lV,e,m,u,Bool.false_and,eT];simp
theorem Ps(M N n:Nat)(c:Cl (n+1))(y:Tm N)(g:aJ N y (n+4) (eC n c)=true):∃e,AJ M N y=some e:=by
 cases N with
 | zero=>simp[aJ]at g
 | succ N=>
 obtain⟨o,p⟩:=oC g;obtain⟨B,G,i,D,q⟩:=ee p;obtain⟨C,H,j,E,r⟩:=ee q;obtain⟨a,I,k,d,s⟩:=ee r;obtain⟨t,J,l,F,u⟩:=ee s;have m:=nA u;subst j k l m;have v:ci ⟨N,a⟩=4:=by rw[lm d];rfl
 cases N with
 | zero=>simp[aJ]at d
 | succ N=>
 obtain⟨h,z,_⟩:=uU (f:=tH M N) (R:=λy b=>aJ N y (n+2) (cO n b)=true) (Q:=λ_ _=>True) (λy b w=>by
  obtain⟨e,x⟩:=Pq M N n b y w
  exact⟨e,x,trivial⟩) a.2.2 c.2.2 (mB (cO n) _ _ (bU d).2)
 have A:cZ (tH M (N+1-1)) (F0 (N+1) a)=some h:=z;refine⟨((bj (M+1) (N+1) B,bj (M+1) (N+1) C,bj (M+1) (N+1) t),(none,0),h),?_⟩;show tI M (N+1) (fy (N+1) y) (bY (N+1) y)=_;rw[o,i];unfold tI;rw[if_pos (by rw[lV];rfl)];show (if ci ⟨N+1,a⟩=4 then (cZ (tH M (N+1-1)) (F0 (N+1) a)).map _ else none)=_;rw[if_pos v,A];rfl
theorem Pr(M N n:Nat)(b:Bh (n+1))(y:Tm N)(c:aJ N y (n+5) (eP n b)=true):∃a,AI M N y=some a/\a.2.2.length=b.2.2.length:=by
 cases N with
 | zero=>simp[aJ]at c
 | succ N=>
 obtain⟨g,h⟩:=oC c;obtain⟨d,q,e,p,i⟩:=ee h;have j:ci ⟨N,d⟩=2:=by rw[lm p];rfl
 obtain⟨r,o,k⟩:=uU (f:=AJ M N) (R:=λy b=>aJ N y (n+4) (eC n b)=true) (Q:=λ_ _=>True) (λy b l=>by
  obtain⟨a,m⟩:=Ps M N n b y l
  exact⟨a,m,trivial⟩) q b.2.2 (mB (eC n) _ _ i)
 refine⟨(yC N d,(none,0),r),?_,k.1⟩;simp only[AI,uJ,g,e,lV];simp[j,o]
theorem Fh(M N n:Nat)(q:N<=M+1)(l:List (Bh (n+1)))(e:lk (n+1) l=true)(x:Tm N)(r:aL ⟨N,x⟩)(i:aJ N x (n+6) (cX n l)=true):∃a,xF M N x=some a/\lk (M+1) a=true/\a.length=l.length:=by
 cases N with
 | zero=>simp[aJ]at i
 | succ N=>
 obtain⟨o,p⟩:=oC i;obtain⟨h,u,c⟩:=uU (f:=AI M N) (R:=λg b=>aJ N g (n+5) (eP n b)=true) (Q:=λa b=>a.2.2.length=b.2.2.length) (λg b s=>Pr M N n b g s) (bY N x) l (mB (eP n) _ _ p);have m:xF M (N+1) x=some h:=by
  simp only[xF,o,lV];simpa using u
 refine⟨h,m,?_,c.1⟩;rw[(sJ M (N+1) q x r h m).2];simp only[lk,xY,aS,cU,cY]at e ⊢;refine⟨by rw[c.1];exact e.1.1,λa t=>?_⟩;obtain⟨d,j⟩:=di t;have k:d<l.length:=by have:=(bi.1 j).1;rw[<-c.1];exact this
 have:=c.2 d a l[d] j (aU k);rw[this];exact(e.2 l[d] (gh k)).1.1.2
def vX(M:Nat)(o:Option (List (Bh (M+1)))):Int:=match o with|some l=>if lk (M+1) l=true then 0 else 5|none=>5
def sh(M n:Nat)(x:Tm n):Int:=if bK n x=0 then vX M (xF M n x)else bK n x
def uT(M:Nat)(E:Int)(o:Option (List (Bh (M+1))))(w:ah)(e:Ending)(w':ah):Prop:=
 ∃(l:List (Bh (M+1)))(a:ay)(c:Nat),e=aw (ax #[ag a l.length c,ae E])/\Hid (ap w w'/\(l.length<=c/\c<=maxLen)/\iW (M+1) w'.heap.size w' a l/\uE (kF (M+1) (λb=>w.heap.size<=b)) (λb=>w.heap.size<=b) a l/\(¬E=0->l=[])/\(E=0->∃d,o=some d/\fe (xZ (M+1)) l d))
theorem tr{E:Int}{o:Option (List (Bh (M+1)))}(a:¬E=0)(c:ap w w'):uT M E o w (aw (ax #[ag none 0 0,ae E])) w':=
 ⟨[],none,0,rfl,c,⟨aA _,aM _⟩,ak rfl,ak rfl,λ_=>rfl,λb=>(a b).elim⟩
theorem Ii(M:Nat)(k A:Int)(s:aq)(a:ay)(l c:Nat)(w:ah)(g:Int)(o:Option (List (Bh (M+1))))(E:Int)(J:Hid (E=if g=0 then vX M o else g))(Q:Hid (∀w1,ap w w1->au 53 #[.agg #[ae k,ae A,af s,ag a l c]] w1 λe w'=>e=aw (ae g)/\ap w1 w'))(H:Hid (g=0->∀w1,ap w w1->au 80 #[.agg #[ae k,ae A,af s,ag a l c]] w1 (vp M o w1))):au 54 #[.agg #[ae k,ae A,af s,ag a l c]] w (uT M E o w):=by
 go_enter func54,ntmps54;go_wp2_with fail;refine(Q _ aZ).mono ?_;rintro e w1 ⟨rfl,L⟩;have q:Hid (ap w w1):=aZ.trans (L.mono (by simp));have j:=av (rY w _ _ _ _ _ L);clear L Q;by_cases z:g=0
 ·subst z;have S:=av (H (by simp) w1 q);have X:ai w1 w.heap.size 0 (ae k):=aC j 0;have Y:ai w1 w.heap.size 1 (ae A):=aC j 1;have Z:ai w1 w.heap.size 2 (af s):=aC j 2;have aa:ai w1 w.heap.size 3 (ag a l c):=aC j 3;have am:w.heap.size<w1.heap.size:=(aR.1 j).1;have D:=av (show E=vX M o by simpa using J.out);clear H J;go_wp2_with fail;refine S.mono ?_;rintro e B ⟨p,u,y,ak,rfl,i⟩;obtain⟨t,K⟩:∃t,p.length=t:=⟨_,rfl⟩;rw[K];have G:=av K;have r:Hid (ap w B):=q.trans (i.1.mono q.size);clear K S X Y Z aa j;cases ak
  ·have h:Hid (E=5):=by
     show E=5;rw[D.out];have d:=i.2.1;cases o with
     | none=>rfl
     | some f=>cases d
   have W:Hid (uT M E o w (aw (ax #[ag none 0 0,ae 5])) B):=by
    have d:=tr (M:=M) (E:=E) (o:=o) (by rw[h.out];omega) r;rw[h.out]at d;rw[h.out];exact d
   go_wp2_with fail;exact aD (v:=ax #[ag none 0 0,ae 5]) (by simp[results,results54,go_sem]) rfl W
  ·have F:Hid (∀m,ap B m->au 81 #[ag u t y] m λe w'=>e=aw (.bool (lk (M+1) p))/\ap m w'):=λm T=>
     qz M p t G u y B.heap.size m (iW.below T i.2.2.2.1) (by have:=i.2.2.1;have:=G.out;unfold maxLen at*;omega) T.size
   obtain⟨b,x⟩:∃b,lk (M+1) p=b:=⟨_,rfl⟩;rw[x]at F;have R:=av x;clear x;have I:Hid (∃f,o=some f/\fe (xZ (M+1)) p f):=by
    have d:=i.2.1;cases o with
    | none=>cases d
    | some f=>exact⟨f,rfl,i.2.2.2.2.2 f rfl⟩
   cases b
   ·have h:Hid (E=5):=by
      show E=5;obtain⟨f,O,N⟩:=I.out;rw[D.out,O];show (if lk (M+1) f=true then (0:Int)else 5)=5;rw[<-LC N,R.out];rfl
    go_wp2_with (go_at_call 81;refine(F _ (aG _ _)).mono ?_;rintro e m ⟨rfl,n⟩;have C:=av (r.trans (n.mono r.size));clear n);refine aD (v:=ax #[ag none 0 0,ae 5]) (by simp[results,results54,go_sem]) rfl ?_;have d:=tr (M:=M) (E:=E) (o:=o) (by rw[h.out];omega) C;rw[h.out]at d;rw[h.out];exact d
   ·have U:Hid (E=0):=by
      show E=0;obtain⟨f,O,N⟩:=I.out;rw[D.out,O];show (if lk (M+1) f=true then (0:Int)else 5)=0;rw[<-LC N,R.out];rfl
    go_wp2_with (go_at_call 81;refine(F _ (aG _ _)).mono ?_;rintro e m ⟨rfl,n⟩;have P:=av n;have C:=av (r.trans (n.mono r.size));clear n);refine aD (v:=ax #[ag u t y,ae 0]) (by simp[results,results54,go_sem]) rfl ?_;obtain⟨an,ao,ab,ad,aj,ar⟩:=i;rw[U.out];exact⟨p,u,y,by rw[G.out],C,ab,(iW.below P ad).mono P.size,(da (eL _) 2 (rK (M+1)) u).1 _ _ _ (λb x=>aF q.size x) aj,λd=>(d rfl).elim,λ_=>I⟩
 ·have al:(g !=0)=true:=by simpa using z
  have V:Hid (E=g):=by
   show E=g;rw[J.out,if_neg z]
  clear H j;go_wp2_with fail;refine aD (v:=ax #[ag none 0 0,ae g]) (by simp[results,results54,go_sem]) rfl ?_;rw[V.out];exact tr z q
theorem Ci(M n:Nat)(g:n<=M+1)(x:Tm n)(B:Nat)(w:ah)(c:In B w n x)(f:(aH n x).length<=2097152)(b:B<=w.heap.size):au 54 #[dF n x] w (uT M (sh M n x) (xF M n x) w):=by
 cases n with
 | zero=>exact c.elim
 | succ n=>
 exact Ii M x.1.1 x.1.2.1 x.1.2.2 x.2.1.1 x.2.2.length x.2.1.2 w (bK (n+1) x) _ _ rfl (λd a=>dW (n+1) x B d (c.below (a.mono b)) (aF b a.size) f) (λe d a=>AT M (n+1) g x B d (c.below (a.mono b)) (aY.2 (bT.1 e).1) (aF b a.size))
theorem iZ{x:Tm n}(a:bK n x=0):aL ⟨n,x⟩:=aY.2 (bT.1 a).1
theorem gP{p:List (Bh (n+1))}(b:oJ n p=0):lk (n+1) p=true/\bK (n+6) (cX n p)=0/\Ju n p=cX n p:=by
 have a:=b;unfold oJ at a;split at a
 ·rename_i c;exact⟨c,a,by unfold Ju;rw[if_pos b]⟩
 ·omega
theorem Me{p:List (Bh (n+1))}(a:lk (n+1) p=true)(k:bK (n+6) (cX n p)=0):oJ n p=0:=by
 unfold oJ;rw[if_pos a];exact k
theorem yV(i:n<=M+1){x:Tm n}(e:bK n x=0){a l:List (Bh (M+1))}(j:xF M n x=some a)(f:fe (xZ (M+1)) l a)(h:lk (M+1) a=true):lk (M+1) l=true/\oJ M l=0/\aJ (M+6) (Ju M l) n x=true/\(aH (M+6) (cX M l)).length=(aH n x).length:=by
 have g:=sJ M n i x (iZ e) a j;have c:lk (M+1) l=true:=(LC f).trans h;have b:aJ (M+6) (cX M l) n x=true:=bV _ _ _ _ _ _ (LD f) g.1;have d:oJ M l=0:=Me c ((bO b).trans e);exact⟨c,d,by rw[(gP d).2.2];exact b,lp _ _ _ _ b⟩
theorem Jw{p:List (Bh (n+1))}(i:oJ n p=0){y:Tm (n+6)}(a:aJ (n+6) y (n+6) (Ju n p)=true):bK (n+6) y=0/\sh (n+5) (n+6) y=0/\∀e l,xF (n+5) (n+6) y=some e->fe (xZ (n+6)) l e->lk (n+6) l=true/\oJ (n+5) l=0/\aJ (n+11) (Ju (n+5) l) (n+6) (Ju n p)=true/\l.length=p.length/\(aH (n+11) (cX (n+5) l)).length=(aH (n+6) (cX n p)).length:=by
 obtain⟨j,k,f⟩:=gP i;rw[f]at a;have b:bK (n+6) y=0:=(bO a).trans k;obtain⟨e,d,h,m⟩:=Fh (n+5) (n+6) n (aA _) p j y (iZ b) a;refine⟨b,?_,λt l c g=>?_⟩
 ·unfold sh;rw[if_pos b,d];unfold vX;simp only[h,cC]
 ·rw[d]at c;injection c with c;subst c;obtain⟨o,q,r,s⟩:=yV (aA _) b d g h;exact⟨o,q,by rw[f];exact bV _ _ _ _ _ _ r a,g.1.trans m,by rw[s];exact lp _ _ _ _ a⟩
theorem tz{p:List (Tm n)}(c:aN (λa b=>aJ n a e b) p q=true)(s:aq)(k:Nat):uY n p s k=uY e q s k:=by
 unfold uY;rw[cW _ _ _ c];cases p with
 | nil=>
  cases q with
  | nil=>rfl
  | cons b q=>simp[aN]at c
 | cons a p=>
  cases q with
  | nil=>simp[aN]at c
  | cons b q=>
   simp only[aN,aS]at c;have d:(gL n a).1=(gL e b).1:=by
    cases n with
    | zero=>exact absurd c.1 (by simp[aJ])
    | succ n=>
     cases e with
     | zero=>exact absurd c.1 (by simp[aJ])
     | succ e=>exact(bU c.1).1
   simp only[dm,(lR _ _ _ _ c.1).1,d]
theorem rW{p:List (Tm n)}(f:aN (λa b=>aJ n a e b) p q=true)(i:Nat):(p[i]?=none/\q[i]?=none)\/∃a b,p[i]?=some a/\q[i]?=some b/\aJ n a e b=true/\a∈p/\b∈q:=by
 have h:=cW _ _ _ f;by_cases g:i<p.length
 ·have c:=aU g;have d:=aU (show i<q.length by omega);exact am ⟨_,_,c,d,jZ _ _ _ f _ _ _ c d,aT c,aT d⟩
 ·exact ak ⟨ft (by omega),ft (by omega)⟩
theorem Bp{n i N M:Nat}(f:Tm n->Option (Tm N))(g:Tm i->Option (Tm M)):(p:List (Tm n))->(q:List (Tm i))->aN (λa b=>aJ n a i b) p q=true->(∀a∈p,∀b∈q,aJ n a i b=true->fT N M (f a) (g b))->fT (N+1) (M+1) ((cZ f p).map (dS N)) ((cZ g q).map (dS M))/\((cZ f p=none/\cZ g q=none)\/∃l r,cZ f p=some l/\cZ g q=some r/\aN (λa b=>aJ N a M b) l r=true)
 | [],[],_,_=>⟨by simp[cZ,fT,aJ,dS,aN],am ⟨[],[],rfl,rfl,rfl⟩⟩
 | [],_::_,h,_=>by simp[aN]at h
 | _::_,[],h,_=>by simp[aN]at h
 | a::p,b::q,d,h=>by
  simp only[aN,aS]at d;have c:=h a (by simp) b (by simp) d.1;have s:=(Bp f g p q d.2 λx t y u=>h x (by simp[t]) y (by simp[u])).2;simp only[cZ];cases e1:f a with
  | none=>
   rw[e1]at c;cases e:g b with
   | none=>simp[fT]
   | some _=>rw[e]at c;exact c.elim
  | some o=>
   rw[e1]at c;cases e:g b with
   | none=>rw[e]at c;exact c.elim
   | some v=>
    rw[e]at c;have d:aJ N o M v=true:=c;rcases s with⟨j,k⟩|⟨l,r,j,k,m⟩
    ·rw[j,k];simp[fT]
    ·rw[j,k];exact⟨by simp[fT,aJ,dS,aN,d,m],am ⟨o::l,v::r,rfl,rfl,by simp[aN,d,m]⟩⟩
theorem A6(m:Nat)(b:List (Tm m))(i:Nat)(k:List (Tm i))(self:Int)(u:aN (λx y=>aJ m x i y) b k=true)(z:∀y∈b,aL ⟨m,y⟩)(A:∀y∈k,aL ⟨i,y⟩):(n:Nat)->(x:Tm n)->(d:Nat)->(x':Tm d)->aL ⟨n,x⟩->aL ⟨d,x'⟩->aJ n x d x'=true->fT (m+n) (i+d) (vl m b self n x) (vl i k self d x')
 | 0,_,_,_,_,_,h=>by simp[aJ]at h
 | _+1,_,0,_,_,_,h=>by simp[aJ]at h
 | n+1,x,d+1,x',hx,hx',h=>by
  obtain⟨H,j⟩:=bU h;unfold vl;rw[<-H];by_cases s:x.1.1=5
  ·rw[if_pos s,if_pos s];rcases rW u x.1.2.1.toNat with⟨e,f⟩|⟨y,F,e,f,C,p,q⟩
   ·rw[e,f];trivial
   ·rw[e,f];simp only[dT];rw[<-(lR _ _ _ _ C).1];by_cases g:ci ⟨m,y⟩=6
    ·rw[if_pos g,if_pos g];trivial
    ·rw[if_neg g,if_neg g];exact jh (by omega) (by omega) (z y p) (A _ q) C
  ·rw[if_neg s,if_neg s];by_cases g:x.1.1=6
   ·rw[if_pos g,if_pos g];trivial
   ·rw[if_neg g,if_neg g];by_cases r:x.1.1=4
    ·rw[if_pos r,if_pos r,<-tz j,<-tz j,<-tz j];by_cases B:uY n x.2.2 qF 0=true
     ·rw[if_pos B,if_pos B];simp[fT,aJ,cw,aN]
     ·rw[if_neg B,if_neg B];by_cases t:uY n x.2.2 A7 2=true
      ·rw[if_pos t,if_pos t];rcases rW j 1 with⟨e,f⟩|⟨a,o,e,f,l,p,q⟩
       ·rw[e,f];trivial
       ·rcases rW j 2 with⟨D,E⟩|⟨c,G,D,E,K,M,N⟩
        ·rw[e,f,D,E];trivial
        ·rw[e,f,D,E];simp only[dT];exact oq (A6 m b i k self u z A n a d o (bt n x a hx p) (bt d x' o hx' q) l) λO v I=>oq (A6 m b i k self u z A n c d G (bt n x c hx M) (bt d x' G hx' N) K) λP Q J=>zn I J
      ·rw[if_neg t,if_neg t];by_cases w:uY n x.2.2 DD 1=true
       ·rw[if_pos w,if_pos w];rcases rW j 1 with⟨e,f⟩|⟨a,o,e,f,l,p,q⟩
        ·rw[e,f];trivial
        ·rw[e,f];simp only[dT,cG _ _ _ _ l];cases aX d o
         ·simp[fT]
         ·exact jh (by omega) (by omega) (bt n x a hx p) (bt d x' o hx' q) l
       ·rw[if_neg w,if_neg w];exact(Bp _ _ x.2.2 x'.2.2 j λy C F L l=>A6 m b i k self u z A n y d F (bt n x y hx C) (bt d x' F hx' L) l).1
    ·rw[if_neg r,if_neg r];exact jh (by omega) (by omega) hx hx' h
theorem GQ{B:List Tc}(b:∀y∈B,aL ⟨13,y⟩)(self:Int){x:Tm n}{x':Tm e}(g:aL ⟨n,x⟩)(h:aL ⟨e,x'⟩)(d:aJ n x e x'=true):tR B self n x=tR B self e x':=by
 have f:aN (λx y=>aJ 13 x 13 y) B B=true:=jq _ _ λy i=>fS 13 y (b y i);have k:=A6 13 B 13 B self f b b n x e x' g h d;unfold tR;cases e1:vl 13 B self n x with
 | none=>
  rw[e1]at k;cases a:vl 13 B self e x' with
  | none=>rfl
  | some _=>rw[a]at k;exact k.elim
 | some j=>
  rw[e1]at k;cases a:vl 13 B self e x' with
  | none=>rw[a]at k;exact k.elim
  | some l=>
   rw[a]at k;have c:aJ (13+n) j (13+e) l=true:=k;simp only[dT];rw[bO c,gB c]
def Qs(k:Nat)(d:Dg):Prop:=(∀y∈d.b,aL ⟨13,y⟩)/\1<=d.next/\d.next+k<=100
theorem uy(a:Ac (n+1)):(a.1=1/\(cO n a).2.2=[bP oL n,a.2.1.1,a.2.1.2])\/(a.1=2/\(cO n a).2.2=[bP kC n,bP a.2.2.1 n,a.2.1.2,cw 5 a.2.2.2 n])\/(a.1=3/\(cO n a).2.2=[bP oK n,a.2.1.1])\/((a.1≠1/\a.1≠2/\a.1≠3)/\(cO n a).2.2=[bP oM n]):=by
 unfold cO;by_cases b:a.1=1
 ·exact ak ⟨b,by rw[if_pos b];rfl⟩
 ·by_cases c:a.1=2
  ·exact am (ak ⟨c,by rw[if_neg b,if_pos c];rfl⟩)
  ·by_cases d:a.1=3
   ·exact am (am (ak ⟨d,by rw[if_neg b,if_neg c,if_pos d];rfl⟩))
   ·exact am (am (am ⟨⟨b,c,d⟩,by rw[if_neg b,if_neg c,if_neg d];rfl⟩))
theorem I5{a:Int}(d:1<=a/\a<=99):aL ⟨13,E9 a⟩:=by
 intro c b;have b:c∈[(((3,a,.empty),(none,0,0)):Nd)]:=b;obtain rfl:=dO.1 b;simp[cM,qX,d]
theorem KC{a:Ac (n+1)}{b:Ac (m+1)}(c:aJ (n+2) (cO n a) (m+2) (cO m b)=true)(v:aL ⟨n+2,cO n a⟩)(w:aL ⟨m+2,cO m b⟩)(self:Int){d:Dg}(y:Qs (k+1) d):r9 self a d=r9 self b d/\∀h,r9 self a d=some h->Qs k h:=by
 obtain⟨_,e⟩:=bU c;have E:=λl j=>bt (n+1) (cO n a) l v j;have F:=λl j=>bt (m+1) (cO m b) l w j;have u:=cW _ _ _ e;obtain⟨d1,d2,d3⟩:=y;have i:∀{x:Tm (n+1)}{x':Tm (m+1)},x∈(cO n a).2.2->x'∈(cO m b).2.2->aJ (n+1) x (m+1) x'=true->tR d.b self (n+1) x=tR d.b self (m+1) x':=λz A B=>GQ d1 self (E _ z) (F _ A) B;rcases uy a with⟨f,o⟩|⟨f,o⟩|⟨f,o⟩|⟨f,o⟩<;>rcases uy b with⟨g,p⟩|⟨g,p⟩|⟨g,p⟩|⟨g,p⟩<;>rw[o,p]at u e i
 case inl.inl=>
  simp only[aN,aS,gT]at e;have q:=i (x:=a.2.1.1) (x':=b.2.1.1) (by simp) (by simp) e.2.1;have r:=i (x:=a.2.1.2) (x':=b.2.1.2) (by simp) (by simp) e.2.2;unfold r9;rw[if_pos f,if_pos g,r];unfold oh;rw[q];refine⟨rfl,λh c=>?_⟩;obtain⟨G,_,c⟩:=cu.1 c;obtain⟨t,_,rfl⟩:=cI.1 c;exact⟨d1,d2,by simp only;omega⟩
 case inr.inl.inr.inl=>
  simp only[aN,aS,gT]at e;have r:=i (x:=a.2.1.2) (x':=b.2.1.2) (by simp) (by simp) e.2.2.1;have C:a.2.2.1=b.2.2.1:=by
   have:=(bU e.2.1).1;simpa [bP]using this
  have D:a.2.2.2=b.2.2.2:=by
   have:=(bU e.2.2.2).1;simpa [cw]using this
  unfold r9;rw[if_neg (show¬a.1=1 by omega),if_neg (show¬b.1=1 by omega),if_pos f,if_pos g,r,C,D];refine⟨rfl,λh c=>?_⟩;obtain⟨t,_,c⟩:=cu.1 c;split at c
  ·obtain rfl:=aI c;refine⟨λl j=>?_,by simp only;omega,by simp only;omega⟩;rcases tY j with s|s
   ·exact d1 l s
   ·rw[s];exact I5 (by omega)
  ·cases c
 case inr.inr.inl.inr.inr.inl=>
  simp only[aN,aS,gT]at e;have q:=i (x:=a.2.1.1) (x':=b.2.1.1) (by simp) (by simp) e.2;unfold r9;rw[if_neg (show¬a.1=1 by omega),if_neg (show¬b.1=1 by omega),if_neg (show¬a.1=2 by omega),if_neg (show¬b.1=2 by omega),if_pos f,if_pos g];unfold oh;rw[q];refine⟨rfl,λh c=>?_⟩;obtain⟨G,_,rfl⟩:=cI.1 c;exact⟨d1,d2,by simp only;omega⟩
 case inr.inr.inr.inr.inr.inr=>
  unfold r9;rw[if_neg f.1,if_neg g.1,if_neg f.2.1,if_neg g.2.1,if_neg f.2.2,if_neg g.2.2];refine⟨rfl,λh c=>?_⟩;obtain rfl:=aI c;exact⟨d1,d2,by simp only;omega⟩
 all_goals exact absurd u (by simp)
theorem BZ{n m:Nat}(self:Int):(l:List (Ac (n+1)))->(r:List (Ac (m+1)))->aN (λx y=>aJ (n+2) x (m+2) y) (l.map (cO n)) (r.map (cO m))=true->(∀a∈l,aL ⟨n+2,cO n a⟩)->(∀b∈r,aL ⟨m+2,cO m b⟩)->∀{d:Dg},Qs l.length d->qT self l d=qT self r d/\∀f,qT self l d=some f->∀y∈f.b,aL ⟨13,y⟩
 | [],[],_,_,_,d,hd=>⟨rfl,λf c=>by obtain rfl:=aI c;exact hd.1⟩
 | [],_::_,c,_,_,_,_=>by simp[aN]at c
 | _::_,[],c,_,_,_,_=>by simp[aN]at c
 | a::l,b::r,c,ha,hb,d,hd=>by
  simp only[bA,aN,aS]at c;obtain⟨h,i⟩:=KC c.1 (ha a (by simp)) (hb b (by simp)) self hd;unfold qT;rw[<-h];cases e:r9 self a d with
  | none=>exact⟨rfl,λ_ c=>by cases c⟩
  | some f=>exact BZ self l r c.2 (λx g=>ha x (by simp[g])) (λx g=>hb x (by simp[g])) (i f e)
def PG{n m:Nat}(c:Cl (n+1))(a:Cl (m+1)):Prop:=(aJ (n+1) c.1.1 (m+1) a.1.1=true/\aJ (n+1) c.1.2.1 (m+1) a.1.2.1=true/\aJ (n+1) c.1.2.2 (m+1) a.1.2.2=true)/\aN (λx y=>aJ (n+2) x (m+2) y) (c.2.2.map (cO n)) (a.2.2.map (cO m))=true
theorem pw{x:Tm (n+1)}{y:Tm (m+1)}(b:bK (n+1) x=0)(c:bK (m+1) y=0)(a:aJ (n+3) (bj (n+3) (n+1) x) (m+3) (bj (m+3) (m+1) y)=true):aJ (n+1) x (m+1) y=true:=
 bV _ _ _ _ _ _ (dE _ _ _ _ (fR (n+3) (n+1) (by omega) x (aY.2 (bT.1 b).1))) (bV _ _ _ _ _ _ a (fR (m+3) (m+1) (by omega) y (aY.2 (bT.1 c).1)))
theorem MU{c:Cl (n+1)}{a:Cl (m+1)}(f:aJ (n+4) (eC n c) (m+4) (eC m a)=true)(b:qJ c)(d:qJ a):PG c a:=by
 obtain⟨_,e⟩:=bU f;simp only[eC,dS,aN,aS,gT]at e;obtain⟨_,g,h,i,j⟩:=e;exact⟨⟨pw b.1 d.1 g,pw b.2.1 d.2.1 h,pw b.2.2.1 d.2.2.1 j⟩,(bU i).2⟩
theorem MK:nV.length=4/\∀y∈nV,DR y:=by
 refine⟨rfl,λy a=>?_⟩;simp only[nV,oP,cd]at a;obtain⟨c,b,rfl⟩:=a;rw[List.eq_of_mem_replicate b];exact⟨by kernel_rfl,ak rfl⟩
theorem Hy{c:Cl (n+1)}{e:Cl (m+1)}(f:PG c e){s t:Tc}(j:bK 13 s=0/\aX 13 s=true)(k:bK 13 t=0/\aX 13 t=true):mj c s t=mj e s t/\∀b,mj c s t=some b->∀y∈b,aL ⟨13,y⟩:=by
 have r:aJ 13 s 13 s=true:=fS _ _ (aY.2 (bT.1 j.1).1);have u:aJ 13 t 13 t=true:=fS _ _ (aY.2 (bT.1 k.1).1);have a:=mZ _ c.1.1 13 s _ e.1.1 13 s nV nV f.1.1 r vw;unfold mj;cases e1:jb (n+1) c.1.1 13 s nV with
 | none=>
  rw[e1]at a;cases g:jb (m+1) e.1.1 13 s nV with
  | none=>exact⟨rfl,λ_ f=>by cases f⟩
  | some _=>rw[g]at a;exact a.elim
 | some b=>
  rw[e1]at a;cases g:jb (m+1) e.1.1 13 s nV with
  | none=>rw[g]at a;exact a.elim
  | some i=>
   rw[g]at a;have q:=lP DR pi _ c.1.1 13 s ⟨j.1,am j.2⟩ _ _ MK e1;have d:=mZ _ c.1.2.1 13 t _ e.1.2.1 13 t b i f.1.2.1 u a;simp only[dT];cases e3:jb (n+1) c.1.2.1 13 t b with
   | none=>
    rw[e3]at d;cases h:jb (m+1) e.1.2.1 13 t i with
    | none=>exact⟨rfl,λ_ f=>by cases f⟩
    | some _=>rw[h]at d;exact d.elim
   | some x=>
    rw[e3]at d;cases h:jb (m+1) e.1.2.1 13 t i with
    | none=>rw[h]at d;exact d.elim
    | some z=>
     rw[h]at d;refine⟨by simp only[lJ];rw[Kq d],λw l y o=>?_⟩;obtain rfl:=aI l;obtain⟨v,p,rfl⟩:=cd.1 o;exact aY.2 (bT.1 (oV ((lP DR pi _ c.1.2.1 13 t ⟨k.1,am k.2⟩ _ _ q e3).2 v p).1)).1
theorem s9{n m:Nat}(name:aq):(l:List (Bh (n+1)))->(r:List (Bh (m+1)))->aN (λx y=>aJ (n+5) x (m+5) y) (l.map (eP n)) (r.map (eP m))=true->(gF (n+1) name l=none/\gF (m+1) name r=none)\/∃b a,gF (n+1) name l=some b/\gF (m+1) name r=some a/\aN (λx y=>aJ (n+4) x (m+4) y) (b.2.2.map (eC n)) (a.2.2.map (eC m))=true/\b∈l/\a∈r
 | [],[],_=>ak ⟨rfl,rfl⟩
 | [],_::_,h=>by simp[aN]at h
 | _::_,[],h=>by simp[aN]at h
 | b::l,a::r,h=>by
  simp only[bA,aN,aS]at h;obtain⟨_,f⟩:=bU h.1;simp only[eP,dS,aN,aS]at f;have e:b.1=a.1:=by
   have:=(bU f.2.1).1;simpa [bP]using this
  unfold gF;rw[e];by_cases d:a.1=name
  ·rw[if_pos d,if_pos d];exact am ⟨b,a,rfl,rfl,f.2.2,by simp,by simp⟩
  ·rw[if_neg d,if_neg d];rcases s9 name l r h.2 with k|⟨c,g,i,j,o,p,q⟩
   ·exact ak k
   ·exact am ⟨c,g,i,j,o,by simp[p],by simp[q]⟩
theorem yg{n m:Nat}{s t:Tc}(o:bK 13 s=0/\aX 13 s=true)(p:bK 13 t=0/\aX 13 t=true):(l:List (Cl (n+1)))->(r:List (Cl (m+1)))->aN (λx y=>aJ (n+4) x (m+4) y) (l.map (eC n)) (r.map (eC m))=true->(∀c∈l,qJ c)->(∀c∈r,qJ c)->(mW s t l=none/\mW s t r=none)\/∃c a b,mW s t l=some (c,b)/\mW s t r=some (a,b)/\PG c a/\(c∈l/\a∈r)/\∀y∈b,aL ⟨13,y⟩
 | [],[],_,_,_=>ak ⟨rfl,rfl⟩
 | [],_::_,h,_,_=>by simp[aN]at h
 | _::_,[],h,_,_=>by simp[aN]at h
 | c::l,a::r,h,hl,hr=>by
  simp only[bA,aN,aS]at h;have j:=MU h.1 (hl c (by simp)) (hr a (by simp));obtain⟨g,i⟩:=Hy j o p;unfold mW;rw[<-g];cases e:mj c s t with
  | some b=>exact am ⟨c,a,b,rfl,rfl,j,⟨by simp,by simp⟩,i b e⟩
  | none=>
   rcases yg o p l r h.2 (λx f=>hl x (by simp[f])) (λx f=>hr x (by simp[f]))with k|⟨d,u,b,g,i,v,q,w⟩
   ·exact ak k
   ·exact am ⟨d,u,b,g,i,v,⟨by simp[q.1],by simp[q.2]⟩,w⟩
theorem vC{n m:Nat}{s:Tc}(k:bK 13 s=0/\aX 13 s=true){l:List (Cl (n+1))}{r:List (Cl (m+1))}(f:aN (λx y=>aJ (n+4) x (m+4) y) (l.map (eC n)) (r.map (eC m))=true)(g:∀c∈l,qJ c)(h:∀c∈r,qJ c):(ms:List Tc)->(∀t∈ms,bK 13 t=0/\aX 13 t=true)->(i:Nat)->(tf l s ms i=none/\tf r s ms i=none)\/∃j c a b,tf l s ms i=some (j,c,b)/\tf r s ms i=some (j,a,b)/\PG c a/\(c∈l/\a∈r)/\∀y∈b,aL ⟨13,y⟩
 | [],_,_=>ak ⟨rfl,rfl⟩
 | t::ms,ht,i=>by
  unfold tf;rcases yg k (ht t (by simp)) l r f g h with⟨d,e⟩|⟨c,a,b,d,e,p⟩
  ·rw[d,e];exact vC k f g h ms (λx o=>ht x (by simp[o])) (i+1)
  ·rw[d,e];exact am ⟨i,c,a,b,rfl,rfl,p⟩
theorem G0{c:Cl (n+1)}(d:bK (n+3) (dS (n+2) (c.2.2.map (cO n)))=0):∀a∈c.2.2,aL ⟨n+2,cO n a⟩:=λa b=>aY.2 (bT.1 (fW d (by simp only[dS];exact jB b))).1
theorem If{c:Cl (n+1)}{f:Cl (m+1)}(h:PG c f)(g:qJ c/\∀a∈c.2.2,aL ⟨n+2,cO n a⟩)(i:qJ f/\∀a∈f.2.2,aL ⟨m+2,cO m a⟩)(room self next:Int)(k:1<=next/\next<=92)(s t:Tc)(ms:List Tc){b:List Tc}(j:∀y∈b,aL ⟨13,y⟩):fH room self next s t ms c b=fH room self next s t ms f b:=by
 have p:=g.1.2.2.2.1;obtain⟨l,o⟩:=BZ self c.2.2 f.2.2 h.2 g.2 i.2 (d:=⟨b,next,[],[],[],false⟩) ⟨j,k.1,by simp only;omega⟩;unfold fH;rw[<-l];cases e:qT self c.2.2 ⟨b,next,[],[],[],false⟩with
 | none=>rfl
 | some d=>
  have:=GQ (o d e) self (aY.2 (bT.1 g.1.2.2.1).1) (aY.2 (bT.1 i.1.2.2.1).1) h.1.2.2;simp only[this]
theorem yS{p:List (Bh (n+1))}(d:oJ n p=0):∀b∈p,∀c∈b.2.2,qJ c/\∀a∈c.2.2,aL ⟨n+2,cO n a⟩:=λb e c f=>by
 have g:=(gP d).2.1;have h:bK (n+5) (eP n b)=0:=fW g (by simp only[cX,dS];exact b9 _ (jB e));have i:bK (n+4) (eC n c)=0:=fW h (by simp only[eP,dS];exact b9 _ (b9 _ (jB f)));exact⟨((GD d).2 b e).2 c f,G0 (vA i 3 rfl)⟩
theorem xm{P:List (Bh (n+1))}{Q:List (Bh (m+1))}(b:aJ (n+6) (cX n P) (m+6) (cX m Q)=true):aN (λx y=>aJ (n+5) x (m+5) y) (P.map (eP n)) (Q.map (eP m))=true:=by
 obtain⟨_,a⟩:=bU b;simp only[cX,dS,aN,aS]at a;exact a.2
theorem wk{P:List (Bh (n+1))}{Q:List (Bh (m+1))}(d:aJ (n+6) (cX n P) (m+6) (cX m Q)=true)(nm:aq):lW n P nm=lW m Q nm:=by
 unfold lW;rcases s9 nm P Q (xm d)with⟨a,c⟩|⟨b,e,a,c,_⟩<;>rw[a,c]<;>rfl
theorem Jm{P:List (Bh (n+1))}{Q:List (Bh (m+1))}(y:aJ (n+6) (cX n P) (m+6) (cX m Q)=true)(z:oJ n P=0)(A:oJ m Q=0)(room:Int)(nm:aq)(self next:Int)(B:1<=next/\next<=92){s:Tc}(w:bK 13 s=0/\aX 13 s=true){ms:List Tc}(v:∀t∈ms,bK 13 t=0/\aX 13 t=true):ov room P nm self next s ms=ov room Q nm self next s ms:=by
 have p:=yS z;have q:=yS A;have key:(tf (gK nm P) s ms 0=none/\tf (gK nm Q) s ms 0=none)\/∃f c a b,tf (gK nm P) s ms 0=some (f,c,b)/\tf (gK nm Q) s ms 0=some (f,a,b)/\PG c a/\((qJ c/\∀i∈c.2.2,aL ⟨n+2,cO n i⟩)/\qJ a/\∀i∈a.2.2,aL ⟨m+2,cO m i⟩)/\∀H∈b,aL ⟨13,H⟩:=by
  unfold gK;rcases s9 nm P Q (xm y)with⟨d,e⟩|⟨b,u,d,e,o,g,h⟩
  ·rw[d,e];rcases vC w (l:=([]:List (Cl (n+1)))) (r:=([]:List (Cl (m+1)))) rfl (by simp) (by simp) ms v 0 with k|⟨_,_,_,_,_,_,_,k,_⟩
   ·exact ak k
   ·cases k.1
  ·rw[d,e];rcases vC w o (λc j=>(p b g c j).1) (λc j=>(q u h c j).1) ms v 0 with k|⟨f,c,a,G,C,D,E,x,F⟩
   ·exact ak k
   ·exact am ⟨f,c,a,G,C,D,E,⟨p b g c x.1,q u h a x.2⟩,F⟩
 unfold ov;rcases key with⟨d,e⟩|⟨f,c,a,b,d,e,o,g,h⟩
 ·rw[d,e];rfl
 ·rw[d,e];simp only[dT];congr 1;funext t;exact If o g.1 g.2 room self next B s t _ h
variable {P:Program} {md:Region.Mode} {ops:Array Oper} {Q:Exit->Act->bF} {S:bF} {X:Nat}
theorem Mx(i:Nat){d:Oper}{f:Array Bool}{a:Act}(l:ops[i]?=some d)(b:(Region.noSelect ops && Region.free md ops f i && (Region.ready md ops f).contains i && A8 md ops X i)=true)(h:∀c a w,Q (.panic c) (a.put d.dst v) w->Q (.panic c) a w)(k:d.guard=none)(m:∀w,S w->(execOp a.eval d).run P w=.ok (.value v) w)(j:S w)(g:kD P md ops Q S X e (f.setIfInBounds i true) (a.put d.dst v) w):kD P md ops Q S X (e+1) f a w:=by
 simp only[aS]at b;exact br l b.1.1.1 b.1.1.2 b.1.2 b.2 h k m j g
theorem KU:(Tryz.prog.info? 101).map (λi=>(i.zero,i.size,i.bytes))=some (some (.agg #[.string ⟨#[]⟩,.int .i64 0,.int .i64 0,.int .i64 0,.int .i64 0,.string ⟨#[]⟩,.slice none 0 0]),7,88):=by kernel_rfl
def Oo(base:Nat)(wt:ByteArray)(a b:Int)(f:Option Addr)(L h:Nat)(xs:List Value)(R:World->World->Int->Int->ByteArray->Option Addr->Nat->Nat->Prop)(w i:World)(g c:Nat):Prop:=
 ∃d e y0 y1 y2 ya yl yc,Below w.heap.size w d/\Below d.heap.size d e/\R d e y0 y1 y2 ya yl yc/\bH (λj=>(Value.slice f L h).ownBlock=some j) e i/\i.ownsRow base 101 7 (.slice (some ⟨g,0,none⟩) (L+1) c) (L+1) (xs++ [.string wt,.int .i64 a,.int .i64 b,.int .i64 y0,.int .i64 y1,.string y2,.slice ya yl yc])/\((Value.slice f L h).ownBlock=some g\/e.heap.size<=g)
theorem FC(base m:Nat)(wt:ByteArray)(a b A B:Int)(C:ByteArray)(xa:Option Addr)(D xc:Nat)(n:Option Addr)(L q:Nat)(xs:List Value)(R:World->World->Int->Int->ByteArray->Option Addr->Nat->Nat->Prop)(w:World)(aS:L<=100000)(X:m<w.heap.size)(aT:base<=w.heap.size)(Z:Hid (w.cell? ⟨m,6,none⟩=some (.slice n L q)/\w.frozen? ⟨m,6,none⟩=false))(ag:Hid (w.ownsRow base 101 7 (.slice n L q) L xs))(ab:Hid ((Value.slice n L q).ownBlock≠some m))(aa:Hid (∀W,Below w.heap.size w W->Calls Tryz.prog 91 #[.agg #[.int .i64 A,.int .i64 B,.string C,.slice xa D xc]] W λe w'=>∃y0 y1 y2 ya yl yc,e=.returned (.agg #[.int .i64 y0,.int .i64 y1,.string y2,.slice ya yl yc])/\Hid (Below W.heap.size W w'/\R W w' y0 y1 y2 ya yl yc))):Calls Tryz.prog 124 #[.pointer (some ⟨m,0,none⟩),.string wt,.int .i64 a,.int .i64 b,.agg #[.int .i64 A,.int .i64 B,.string C,.slice xa D xc]] w λe w'=>e=.returned (.tuple #[])/\Hid (∃g c r,w'=r.setCell ⟨m,6,none⟩ (.slice (some ⟨g,0,none⟩) (L+1) c)/\Oo base wt a b n L q xs R w r g c):=by
 obtain⟨aE,hit,aq,ar,au⟩:=bS KU;have M:=av (⟨hit,aq,ar,au⟩:_/\_/\_/\_);clear hit aq ar au;go_enter func124,ntmps124;go_upto_region 1 with fail;generalize aw:w.alloc _=s;have y:Hid (Below w.heap.size w s/\s.heap[w.heap.size]?=some (.cells #[.int .i64 A,.int .i64 B,.string C,.slice xa D xc] 54)):=by
  rw[<-aw];exact⟨(aG _ _).alloc (aA _) _,aK _ _⟩
 clear aw;obtain⟨h,T⟩:∃h,h=w.heap.size:=⟨_,rfl⟩;rw[<-T];rw[<-T]at y;have O:=av T;clear T;have N:Hid (∀W:World,Below s.heap.size s W->W.cell? ⟨m,6,none⟩=some (.slice n L q)/\W.cell? ⟨h,0,none⟩=some (.int .i64 A)/\W.cell? ⟨h,1,none⟩=some (.int .i64 B)/\W.cell? ⟨h,2,none⟩=some (.string C)/\W.cell? ⟨h,3,none⟩=some (.slice xa D xc)):=λW d=>by
  have Q:=(d.block h (aR.1 y.2).1).trans y.2;have az:=(O.out▸y.out.1:Below w.heap.size w s).trans (d.mono (O.out▸y.out.1:Below w.heap.size w s).size);exact⟨(az.cell (p:=⟨m,6,none⟩) X).trans Z.1,aj Q 0,aj Q 1,aj Q 2,aj Q 3⟩
 have G:Hid (Below s.heap.size s s.drew):=(aG _ _).drew;have z:Hid (Below w.heap.size w s):=by
  have d:=y.1;rw[O.out]at d;exact d
 have u:=N _ G;refine wp_region_noPanic ?_;refine kh (λW=>W.cell? ⟨m,6,none⟩=some (.slice n L q)/\W.cell? ⟨h,0,none⟩=some (.int .i64 A)/\W.cell? ⟨h,1,none⟩=some (.int .i64 B)/\W.cell? ⟨h,2,none⟩=some (.string C)/\W.cell? ⟨h,3,none⟩=some (.slice xa D xc)) 15 (by kernel_rfl) ?_
 try simp only[fM]
 refine Mx 0 (v:= ?_) rfl (by kernel_rfl) (λ_ _ _ d=>d) rfl ?_ u ?_;rotate_left
 ·intro w' f
  try dsimp only at f
  go_simp
  try with_reducible rfl
 try simp only[Act.put,cr]
 refine Mx 1 (v:= ?_) rfl (by kernel_rfl) (λ_ _ _ d=>d) rfl ?_ u ?_;rotate_left
 ·intro w' f
  try dsimp only at f
  go_simp
  try with_reducible rfl
 try simp only[Act.put]
 refine Mx 2 (v:= ?_) rfl (by kernel_rfl) (λ_ _ _ d=>d) rfl ?_ u ?_;rotate_left
 ·intro w' f
  try dsimp only at f
  go_simp
  try with_reducible rfl
 try simp only[Act.put]
 refine Mx 3 (v:= ?_) rfl (by kernel_rfl) (λ_ _ _ d=>d) rfl ?_ u ?_;rotate_left
 ·intro w' f
  try dsimp only at f
  go_simp
  try with_reducible rfl
 try simp only[Act.put]
 refine Mx 4 (v:= ?_) rfl (by kernel_rfl) (λ_ _ _ d=>d) rfl ?_ u ?_;rotate_left
 ·intro w' f
  try dsimp only at f
  go_simp
  try with_reducible rfl
 try simp only[Act.put]
 refine Mx 5 (v:= ?_) rfl (by kernel_rfl) (λ_ _ _ d=>d) rfl ?_ u ?_;rotate_left
 ·intro w' f
  try dsimp only at f
  go_simp
  try with_reducible rfl
 try simp only[Act.put]
 refine Mx 6 (v:= ?_) rfl (by kernel_rfl) (λ_ _ _ d=>d) rfl ?_ u ?_;rotate_left
 ·intro w' f
  try dsimp only at f
  go_simp
  try with_reducible rfl
 try simp only[Act.put]
 refine Mx 7 (v:= ?_) rfl (by kernel_rfl) (λ_ _ _ d=>d) rfl ?_ u ?_;rotate_left
 ·intro w' f
  try dsimp only at f
  go_simp
  try with_reducible rfl
 try simp only[Act.put]
 refine Mx 8 (v:= ?_) rfl (by kernel_rfl) (λ_ _ _ d=>d) rfl ?_ u ?_;rotate_left
 ·intro w' f
  try dsimp only at f
  go_simp
  try with_reducible rfl
 try simp only[Act.put]
 refine dw (i:=9) (by kernel_rfl) rfl rfl (λx l=>?_) (by decide)
 go_simp
 refine(aa _ (z.trans (G.mono z.size))).mono ?_;rintro e j ⟨y0,y1,y2,ya,yl,yc,rfl,I⟩;have E:=av (G.trans (I.1.mono G.size));have S:=N j E;refine l _ _ (λ_=>S) (λ_=>?_);clear l x
 try simp only[Act.put,cr,dJ,dI]
 refine Mx 10 (v:= ?_) rfl (by kernel_rfl) (λ_ _ _ d=>d) rfl ?_ S ?_;rotate_left
 ·intro w' f
  try dsimp only at f
  go_simp
  try with_reducible rfl
 try simp only[Act.put,cr]
 have F:=av (z.trans (E.mono z.size));obtain⟨o,an⟩:∃o:Obj,o=.cells #[.string wt,.int .i64 a,.int .i64 b,.int .i64 y0,.int .i64 y1,.string y2,.slice ya yl yc] 101:=⟨_,rfl⟩;have K:Hid (Below j.heap.size j (j.alloc o)):=(aG _ _).alloc (aA _) o;have ah:=av (N _ (E.trans (K.mono E.size)));have ae:Hid ((j.alloc o).ownsRow base 101 7 (.slice n L q) L xs):=bC ag (aO (F.trans (K.mono F.size)) λ_=>False) λ_ _ d=>d;have ad:Hid ((j.alloc o).heap[j.heap.size]?=some o):=aK j o;have U:Hid ((j.alloc o).heap.size=j.heap.size+1):=(show _=_ by simp);rw[an]at K ah ae ad U;clear an o;refine dw (i:=11) (by kernel_rfl) rfl rfl (λx l=>?_) (by decide)
 go_simp
 refine l _ _ (λ_=>ah) (λay=>?_);clear l x
 try simp only[Act.put,cr,dJ,dI]
 refine dw (i:=12) (by kernel_rfl) rfl rfl (λx l=>?_) (by decide);refine wp_append_lies _ _ _ 98 rfl base 101 aE _ 7 88 underlying98 M.1 M.2.1 M.2.2.1 M.2.2.2 rfl (by decide) (.slice n L q) L xs rfl ae ⟨j.heap.size,0,none⟩ 1 1 [.string wt,.int .i64 a,.int .i64 b,.int .i64 y0,.int .i64 y1,.string y2,.slice ya yl yc] rfl rfl (World.news_of_block (cs:= #[.string wt,.int .i64 a,.int .i64 b,.int .i64 y0,.int .i64 y1,.string y2,.slice ya yl yc]) (t:=101) (fr:=(0,0)) ad) (by simp[Value.oneCell']) (by decide) (by unfold maxLen;omega) (by omega) (by have:=U.out;have:=F.size;omega) _ rfl ?_;intro P ai r ao am ak aB;have H:Hid (bH (λaH=>(Value.slice n L q).ownBlock=some aH) j r):=bH.trans (aO K _) (ew am) λ_ _ e=>e;have Y:Hid ((Value.slice n L q).ownBlock=some P\/j.heap.size<=P):=ak.imp id λe=>by have:=U.out;omega
 have af:=av ao;have J:Hid ((r.cell? ⟨m,6,none⟩=some (.slice n L q)/\r.cell? ⟨h,0,none⟩=some (.int .i64 A)/\r.cell? ⟨h,1,none⟩=some (.int .i64 B)/\r.cell? ⟨h,2,none⟩=some (.string C)/\r.cell? ⟨h,3,none⟩=some (.slice xa D xc))/\r.frozen? ⟨m,6,none⟩=false):=by
  have aC:¬(Value.slice n L q).ownBlock=some h:=λe=>by
   have:=(ag.lt h e).2;have:=O.out;omega
  have aD:h<j.heap.size:=by
   have:=E.size;have:=(aR.1 y.2).1;omega
  have ap:m<j.heap.size:=bf X F.size;obtain⟨aI,aJ,aL,aM,aN⟩:=S;have k:=λaF=>H.cell aF aD aC;refine⟨⟨(H.cell 6 ap ab).trans aI,(k 0).trans aJ,(k 1).trans aL,(k 2).trans aM,(k 3).trans aN⟩,?_⟩;have al:=Z.2;unfold World.frozen? at al ⊢;rw[H.out.block m ap ab.out,F.out.block m X];exact al
 clear ao am ak aB;refine l _ _ (λ_=>J.1) (λV=>?_);clear l x
 try simp only[Act.put,cr]
 refine dw (i:=13) (by kernel_rfl) rfl rfl (λx l=>?_) (by decide)
 go_simp
 refine l _ _ (λ_=>V) (λ_=>?_);clear l x
 try simp only[Act.put,cr,dJ,dI]
 refine Mx 14 (v:= ?_) rfl (by kernel_rfl) (λ_ _ _ d=>d) rfl ?_ V ?_;rotate_left
 ·intro w' f
  try dsimp only at f
  go_simp
  try with_reducible rfl
 try simp only[Act.put,cr]
 have aQ:=J.2;have aP:=J.1.1;refine ke (by kernel_rfl) rfl rfl (by kernel_rfl) (λx l=>?_)
 go_simp
 refine l _ _ (NoPanic.normal ?_);clear l x
 try simp only[Act.put,cr,dJ,dI]
 have ax:Hid (Oo base wt a b n L q xs R w r P ai):=⟨s.drew,j,y0,y1,y2,ya,yl,yc,z.trans (G.mono z.size),I.1,I.2,H,af,Y⟩;clear N aa J af Y H I u V ay S;exact eF (v:=.tuple #[]) (by simp[results]) rfl ⟨rfl,P,ai,r,rfl,ax⟩
def Be(b:Nat):az:=aE b
def xy{b:Type}(f:b->az)(w:ah)(c:Nat)(l:List (Int×b)):Prop:=∃es a,w.heap[c]?=some (.map es a)/\es.toList.map (λe=>(e.key,e.val))=l.map (λp=>(ae p.1,f p.2))/\Stamped es a
def dp{a:Type}(l:List (Int×a))(k:Int):Option a:=(l.find? λp=>p.1==k).map (·.2)
section
variable {α:Type} {f:α->az}
theorem Gp(k:Int):(es:List MapEntry)->(l:List (Int×α))->(i:Nat)->es.map (λe=>(e.key,e.val))=l.map (λp=>(ae p.1,f p.2))-> Instr.findNow (.int .i64) (ae k) es i=some ((l.findIdx? (λp=>p.1==k)).map λj=>(i+j,((dp l k).map f).getD undef))
 | [],[],_,_=>rfl
 | [],_::_,_,h=>by simp at h
 | _::_,[],_,h=>by simp at h
 | e::es,p::l,i,h=>by
  rw[bA,bA,lB]at h;obtain⟨b,g⟩:=h;have d:e.key=ae p.1:=(Prod.mk.inj b).1;have n:e.val=f p.2:=(Prod.mk.inj b).2;have ih:=Gp k es l (i+1) g;by_cases a:p.1=k
  ·have c:(k==p.1)=true:=by simp[a]
   simp[Instr.findNow,Instr.sameNow,d,n,a,List.findIdx?_cons,dp]
  ·have c:(k==p.1)=false:=by simpa using λe=>a e.symm
   have m:(p.1==k)=false:=by simpa using a
   rw[Instr.findNow,d];simp only[Instr.sameNow,cC,c];rw[ih];simp only[List.findIdx?_cons,dp,ko,m];congr 1;cases List.findIdx? (λp=>p.1==k) l with
   | none=>rfl
   | some j=>simp;omega
theorem oc{w:ah}{es:Array MapEntry}{l:List (Int×α)}(k:Int)(b:es.toList.map (λe=>(e.key,e.val))=l.map λp=>(ae p.1,f p.2)):(Instr.findKey 3 (ae k) es.toList).run Tryz.prog w=.ok ((l.findIdx? (λp=>p.1==k)).map λj=>(j,((dp l k).map f).getD undef)) w:=by
 have c:=underlying3;have a:=Gp k es.toList l 0 b;simp only[cB]at a;simp[Instr.findKey,cJ c,Result.andThen,a]
theorem lS(w:ah)(em:Bool)(k:Int):(Instr.checkKey em 10000 3 (ae k)).run Tryz.prog w=.ok () w:=by
 have a:=underlying3;unfold Instr.checkKey;simp[cJ a,Result.andThen]
theorem Ar{l:List (Int×α)}{k:Int}(a:dp l k=none):l.findIdx? (λp=>p.1==k)=none:=by
 unfold dp at a;rw[qh];intro p b;rw[Option.map_eq_none_iff,qe]at a;simpa using a p b
theorem Nm{l:List (Int×α)}{k:Int}{b:α}(a:dp l k=some b):∃j,l.findIdx? (λp=>p.1==k)=some j:=by
 cases e:l.findIdx? (λp=>p.1==k)with
 | some j=>exact⟨j,rfl⟩
 | none=>
  unfold dp at a;rw[qh]at e;have:l.find? (λp=>p.1==k)=none:=qe.2 λp c=>by simpa using e p c
  rw[this]at a;cases a
variable {w:ah} {mb mt et:Nat} {l:List (Int×α)}
theorem xy.look(i:xy f w mb l)(h:Tryz.prog.underlying mt=some (.map 3 et)){e:az}(n:(zeroValue et).run Tryz.prog w=.ok e w)(k:Int)(c:Bool):(dp l k=none->(Instr.lookup mt (.map (some mb)) (ae k) c).run Tryz.prog w=.ok (if c then ax #[e,.bool false]else e) w)/\ ∀b,dp l k=some b->(Instr.lookup mt (.map (some mb)) (ae k) c).run Tryz.prog w=.ok (if c then ax #[f b,.bool true]else f b) w:=by
 obtain⟨es,o,g,j,_⟩:=i;have d:=oc (w:=w) k j;refine⟨λa=>?_,λb a=>?_⟩
 ·rw[Ar a]at d;simp[Instr.lookup,cJ h,lG g,lS,d,Result.andThen,n]
 ·obtain⟨p,m⟩:=Nm a;rw[m]at d;simp[Instr.lookup,cJ h,lG g,lS,d,Result.andThen,a]
theorem xy.put(m:xy f w mb l)(o:Tryz.prog.underlying mt=some (.map 3 et)){k:Int}(i:dp l k=none)(b:α):∃w',(Instr.mapUpdate mt (.map (some mb)) (ae k) (f b)).run Tryz.prog w=.ok () w'/\xy f w' mb (l++ [(k,b)])/\bH (λq=>q=mb) w w'/\w'.heap.size=w.heap.size:=by
 obtain⟨es,u,a,e,n⟩:=m;have h:=oc (w:=w) k e;rw[Ar i]at h;refine⟨_,by simp[Instr.mapUpdate,cJ o,lG a,lS,h,MapKept.run_setObj_map _ a,Result.andThen];rfl,⟨_,_,(heap_set a).1,?_,stamped_push n λg s j=>?_⟩,?_,?_⟩
 ·simp[e]
 ·have t:(g.key,g.val)∈l.map λc=>(Value.int .i64 c.1,f c.2):=e▸cd.2 ⟨g,s,rfl⟩;obtain⟨c,p,d⟩:=cd.1 t;rw[j]at d;have:=qh.1 (Ar i) c p;simp at d;simp[d.1]at this
 ·exact⟨rfl,rfl,rfl,by simp,λq _ r=>(heap_set a).2 q r⟩
 ·simp
theorem Co{α a:Type}(f:α->a)(l:List α)(i:Nat):(l.map f).eraseIdx i=(l.eraseIdx i).map f:=by
 simp[tW,List.map_take,List.map_drop]
theorem xy.del(m:xy f w mb l)(j:Tryz.prog.underlying mt=some (.map 3 et))(k:Int):∃w',(∀ty,(Builtin.delete_ #[mt,3] ty #[.map (some mb),ae k]).run Tryz.prog w=.ok (ax #[]) w')/\xy f w' mb (l.eraseP λp=>p.1==k)/\bH (λq=>q=mb) w w'/\w'.heap.size=w.heap.size:=by
 obtain⟨es,h,a,b,i⟩:=m;have c:=oc (w:=w) k b;cases e:l.findIdx? (λp=>p.1==k)with
 | none=>
  rw[e]at c;refine⟨{w with heap:=w.heap.setIfInBounds mb (.map es h)},λty=>by simp[Builtin.delete_,cJ j,lG a,lS,c,MapKept.run_setObj_map _ a,Result.andThen],⟨_,_,(heap_set a).1,?_,i⟩,?_,?_⟩
  ·rw[List.eraseP_of_forall_not λp r=>by have:=qh.1 e p r;rw[this];decide];exact b
  ·exact⟨rfl,rfl,rfl,by simp,λq _ d=>(heap_set a).2 q d⟩
  ·simp
 | some g=>
  rw[e]at c;refine⟨{w with heap:=w.heap.setIfInBounds mb (.map (es.eraseIdxIfInBounds g) h)},λty=>by simp[Builtin.delete_,cJ j,lG a,lS,c,MapKept.run_setObj_map _ a,Result.andThen],⟨_,_,(heap_set a).1,?_,stamped_erase i g⟩,?_,?_⟩
  ·have o:g<es.size:=by
     have s:=(List.findIdx?_eq_some_iff_getElem.1 e).1;have n:=congrArg List.length b;simp at n;omega
   rw[List.eraseP_eq_eraseIdx,e];simp only[Array.eraseIdxIfInBounds,o,dite_true,Array.toList_eraseIdx];rw[<-Co,<-Co,b]
  ·exact⟨rfl,rfl,rfl,by simp,λq _ d=>(heap_set a).2 q d⟩
  ·simp
theorem xy.len(a:xy f w mb l)(e:Tryz.prog.underlying mt=some (.map 3 et))(ty:TypeId):(Builtin.len_ #[mt] ty #[.map (some mb)]).run Tryz.prog w=.ok (ae l.length) w:=by
 obtain⟨es,g,b,c,_⟩:=a;have d:es.size=l.length:=by
  have:=congrArg List.length c;simpa using this
 simp[Builtin.len_,cJ e,lG b,Result.andThen,d];unfold goInt
 go_num
theorem xy.kept{w':ah}(b:xy f w mb l)(e:w'.heap[mb]?=w.heap[mb]?):xy f w' mb l:=by
 obtain⟨es,a,c,d⟩:=b;exact⟨es,a,e.trans c,d⟩
theorem xy.new(w:ah):xy f (w.alloc (.map #[] 0)) w.heap.size []:=⟨#[],0,aK _ _,rfl,stamped_empty 0⟩
end
abbrev IM(w:ah)(a:Nat)(l:List (Int×Nat)):Prop:=xy Be w a l
theorem IM.look{w:ah}{a:Nat}{l:List (Int×Nat)}(d:IM w a l)(k:Int)(c:Bool):(dp l k=none->(Instr.lookup 131 (.map (some a)) (ae k) c).run Tryz.prog w=.ok (if c then ax #[.pointer none,.bool false]else .pointer none) w)/\ ∀b,dp l k=some b->(Instr.lookup 131 (.map (some a)) (ae k) c).run Tryz.prog w=.ok (if c then ax #[Be b,.bool true]else Be b) w:=
 xy.look d underlying131 (by kernel_rfl) k c
theorem EB(w:ah)(k:Int)(c:Bool):(Instr.lookup 131 (.map none) (ae k) c).run Tryz.prog w=.ok (if c then ax #[.pointer none,.bool false]else .pointer none) w:=by
 have b:=underlying131;have d:(zeroValue 141).run Tryz.prog w=.ok (.pointer none) w:=by kernel_rfl
 have a:=oc (f:=Be) (w:=w) (es:= #[]) (l:=[]) k rfl;simp[Instr.lookup,cJ b,lS,a,Result.andThen,d]
structure mN where
 lo:Nat
 b:Nat
 room:Int
 n:Nat
 prog:List (Bh (n+1))
 pa:ay
 pc:Nat
structure gX where
 ow:Nat->Int
 po:Option Nat
 l:List (Int×Nat)
 wo:Option Nat
 wn:Nat
 f:bD->List Tc
 sl:bD->az
 bo:Option Nat
 bn:Nat
 ev:az
 es:List (aq×Int×Int×Tc)
 k:Nat
def eA(p:mN)(s:Sy)(d:gX):Array az:= #[ag p.pa p.prog.length p.pc,ae p.room,ae s.last,.map d.po,.map d.wo,.map d.bo,d.ev]
def Bg(p:mN)(s:Sy)(d:gX):BL:=⟨p.b,4,eA p s d,139⟩
def Ow(p:mN)(s:Sy)(d:gX):BL:=⟨p.b,5,eA p s d,139⟩
def yn(e:aq×Int×Int×Tc):List az:=[af e.1,ae e.2.1,ae e.2.2.1,ae e.2.2.2.1.1,ae e.2.2.2.1.2.1,af e.2.2.2.1.2.2,ag e.2.2.2.2.1.1 e.2.2.2.2.2.length e.2.2.2.2.1.2]
def tn(t:Tc):Prop:=bK 13 t=0\/(t.1=(0,0,⟨#[]⟩)/\t.2.2=[])
structure bE (p:mN) (s:Sy) (d:gX) (w:ah):Prop where
 low:∀b,d.ow b≠0->p.lo<=b/\b<w.heap.size
 box:w.heap[p.b]?=some (.cells (eA p s d) 139)
 own:d.ow p.b=-5
 pg:(iW (p.n+1) w.heap.size w p.pa p.prog/\uE (kF (p.n+1) λb=>d.ow b=-4) (λb=>d.ow b=-4) p.pa p.prog)/\(p.prog.length<=p.pc/\p.pc<=maxLen/\oJ p.n p.prog=0/\(aH (p.n+6) (cX p.n p.prog)).length<=2097152)
 pm:(d.po=none/\d.l=[])\/∃mb,d.po=some mb/\d.ow mb=-5/\mb≠p.b/\IM w mb d.l
 keys:d.l.map (·.1)=s.ps.map (·.1)/\(s.ps.map (·.1)).Nodup/\(∀q∈s.ps,1<=q.1/\q.1<=s.last)/\0<=s.last/\s.last<=90/\s.ps.length<=12
 ps:∀k b,dp d.l k=some b->∃nm cs cms,s.get k=some (nm,cs,cms)/\P1 p.lo b nm p.room cs cms (d.k+201) (λq=>d.ow q=k) w/\cms.length<=20
 wy:iz p.lo (Bg p s d) d.wo d.wn 13 d.f d.sl w/\(∀b,sS (Bg p s d) d.wo d.sl b->b=p.b\/d.ow b=-1)/\(∀k,(d.f k).map (cn 13)=s.ways k)/\(∀k,(d.f k).length<=20)/\∀k,∀y∈d.f k,bK 13 y=0/\aX 13 y=true/\In w.heap.size w 13 y/\cF (λb=>d.ow b=-1/\¬sS (Bg p s d) d.wo d.sl b) 13 y
 bd:e9 p.lo (Ow p s d) d.bo d.bn s.bonds w/\Bl s.bonds/\∀b,d.bo=some b->d.ow b=-2
 evr:w.ownsRow p.lo 101 7 d.ev d.es.length (d.es.flatMap yn)/\∀b,d.ev.ownBlock=some b->d.ow b=-3
 evt:d.es.map (λe=>(e.1,e.2.1,e.2.2.1,cn 13 e.2.2.2))=s.evs/\∀e∈d.es,(In w.heap.size w 13 e.2.2.2/\cF (λb=>d.ow b=-3/\d.ev.ownBlock≠some b) 13 e.2.2.2)/\tn e.2.2.2
theorem fB{D:aW}(c:bH S w w')(e:∀b,D b->¬S b){x:Tm n}(a:In w.heap.size w n x/\cF D n x):In w'.heap.size w' n x/\cF D n x:=
 ⟨(In.off (P:=λb=>D b/\b<w.heap.size) (λb d=>c.block b d.2 (e b d.1)) (In.offB a.2 a.1) a.1).mono c.size,a.2⟩
theorem Ik{k:Int}(a:dp l k=some b):(k,b)∈l:=by
 unfold dp at a;cases c:l.find? (λe=>e.1==k)with
 | none=>rw[c]at a;cases a
 | some e=>
  rw[c]at a;have f:=List.mem_of_find?_eq_some c;have d:=List.find?_some c;simp at a d;subst a d;exact f
variable{d:gX}
theorem bE.key{p:mN}(a:bE p s d w){k:Int}(e:dp d.l k=some b):1<=k/\k<=s.last:=by
 have c:k∈d.l.map (·.1):=cd.2 ⟨_,Ik e,rfl⟩;rw[a.keys.1]at c;obtain⟨g,f,rfl⟩:=cd.1 c;exact a.keys.2.2.1 g f
theorem iz.turn{p:BL}{f:bD->List (Tm N)}{sl:bD->az}(d:iz base p t n N f sl w)(m:bH S w w')(j:∀b,sS p t sl b->b≠p.b->¬S b)(o:c.b=p.b)(i:uD c t w'):iz base c t n N f sl w':=by
 refine⟨by rw[o];exact d.1,i,?_⟩;rcases d.2.2 with a|⟨q,rfl,l⟩
 ·exact ak a
 ·refine am ⟨q,rfl,l.kee m λb e=>j b (Gl e) λa=>?_⟩;rcases e with rfl|⟨k,g,h⟩
  ·exact xu d a.symm
  ·exact Ba d g (by rw[h,a])
theorem e9.turn{p:BL}{g:bD->Bool}(a:e9 base p t n g w)(i:bH S w w')(h:∀b:Nat,t=Option.some b->¬S b)(j:c.b=p.b)(f:uD c t w'):e9 base c t n g w':=by
 refine⟨by rw[j];exact a.1,f,?_⟩;rcases a.2.2 with e|⟨d,rfl,k⟩
 ·exact ak e
 ·exact am ⟨d,rfl,k.kee i (h d rfl)⟩
section
variable {p:mN} {s:Sy} {d:gX} {w w':ah} {ow:Nat->Int} {S:aW}
theorem bE.pgK(e:bE p s d w)(f:bH S w w')(g:∀b,d.ow b=-4->¬S b)(h:∀b,d.ow b≠0->ow b=d.ow b):iW (p.n+1) w'.heap.size w' p.pa p.prog/\uE (kF (p.n+1) λb=>ow b=-4) (λb=>ow b=-4) p.pa p.prog:=by
 have c:=da (eL (p.n+1)) 2 (rK (p.n+1)) p.pa;exact⟨c.2.2.2.1 _ _ _ _ f.size (c.2.2.1 _ _ _ w' _ (λb a=>f.block b a.2 (g b a.1)) (c.2.1 _ _ _ _ e.pg.1.2 e.pg.1.1) e.pg.1.1),c.1 _ _ _ (λb a=>(h b (by rw[a];decide)).trans a) e.pg.1.2⟩
theorem bE.pmK(f:bE p s d w)(k:bH S w w')(j:∀b,d.ow b=-5->b≠p.b->¬S b)(m:∀b,d.ow b≠0->ow b=d.ow b):(d.po=none/\d.l=[])\/∃a,d.po=some a/\ow a=-5/\a≠p.b/\IM w' a d.l:=by
 rcases f.pm with g|⟨a,h,c,e,i⟩
 ·exact ak g
 ·exact am ⟨a,h,(m a (by rw[c];decide)).trans c,e,i.kept (k.block a (f.low a (by rw[c];decide)).2 (j a c e))⟩
theorem bE.psK(f:bE p s d w)(c:bH S w w'){k:Int}{b j:Nat}(o:d.k<=j)(n:∀b,d.ow b=k->¬S b)(t:∀b,d.ow b≠0->ow b=d.ow b)(r:∀b,ow b≠0->p.lo<=b/\b<w'.heap.size)(g:dp d.l k=some b):∃nm cs a,s.get k=some (nm,cs,a)/\P1 p.lo b nm p.room cs a (j+201) (λq=>ow q=k) w'/\a.length<=20:=by
 obtain⟨nm,cs,a,h,i,m⟩:=f.ps k b g;have u:=(f.key g).1;exact⟨nm,cs,a,h,(i.kept (S:=S) ⟨c.os,c.tape,c.output,c.size,c.block⟩ n).mono (λb e=>(t b (by rw[e];omega)).trans e) (Nat.add_le_add_right o 201) λb e=>r b (by rw[e];omega),m⟩
theorem bE.wyK(e:bE p s d w)(j:bH S w w')(i:∀b,d.ow b=-1->¬S b)(l:∀b,d.ow b≠0->ow b=d.ow b){q:BL}(m:q.b=p.b)(o:uD q d.wo w'):iz p.lo q d.wo d.wn 13 d.f d.sl w'/\(∀b,sS q d.wo d.sl b->b=p.b\/ow b=-1)/\∀k,∀y∈d.f k,bK 13 y=0/\aX 13 y=true/\In w'.heap.size w' 13 y/\cF (λb=>ow b=-1/\¬sS q d.wo d.sl b) 13 y:=by
 have h:∀b,sS q d.wo d.sl b ↔ sS (Bg p s d) d.wo d.sl b:=λb=>by
  unfold sS;rw[m];exact Iff.rfl
 refine⟨e.wy.1.turn j (λb c r=>?_) m o,λb c=>(e.wy.2.1 b ((h b).1 c)).imp id λa=>(l b (by rw[a];decide)).trans a,λk y t=>?_⟩
 ·rcases e.wy.2.1 b c with a|a
  ·exact absurd a r
  ·exact i b a
 ·obtain⟨y1,y2,u⟩:=e.wy.2.2.2.2 k y t;have n:=fB j (λb q=>i b q.1) u;exact⟨y1,y2,n.1,n.2.mono λb g=>⟨(l b (by rw[g.1];decide)).trans g.1,λc=>g.2 ((h b).1 c)⟩⟩
theorem bE.bdK(a:bE p s d w)(g:bH S w w')(f:∀b,d.ow b=-2->¬S b)(h:∀b,d.ow b≠0->ow b=d.ow b){q:BL}(i:q.b=p.b)(e:uD q d.bo w'):e9 p.lo q d.bo d.bn s.bonds w'/\Bl s.bonds/\∀b,d.bo=some b->ow b=-2:=
 ⟨a.bd.1.turn g (λb c=>f b (a.bd.2.2 b c)) i e,a.bd.2.1,λb c=>(h b (by rw[a.bd.2.2 b c];decide)).trans (a.bd.2.2 b c)⟩
theorem bE.evK(c:bE p s d w)(h:bH S w w')(f:∀b,d.ow b=-3->¬S b)(i:∀b,d.ow b≠0->ow b=d.ow b):(w'.ownsRow p.lo 101 7 d.ev d.es.length (d.es.flatMap yn)/\∀b,d.ev.ownBlock=some b->ow b=-3)/\∀e∈d.es,(In w'.heap.size w' 13 e.2.2.2/\cF (λb=>ow b=-3/\d.ev.ownBlock≠some b) 13 e.2.2.2)/\tn e.2.2.2:=by
 refine⟨⟨bC c.evr.1 h λb a=>f b (c.evr.2 b a),λb a=>(i b (by rw[c.evr.2 b a];decide)).trans (c.evr.2 b a)⟩,λe g=>⟨?_,(c.evt.2 e g).2⟩⟩;have j:=fB h (λb a=>f b a.1) (c.evt.2 e g).1;exact⟨j.1,j.2.mono λb a=>⟨(i b (by rw[a.1];decide)).trans a.1,a.2⟩⟩
theorem rC{d:gX}{w:ah}(a:w.heap[p.b]?=some (.cells (eA p s d) 139)):uD (Bg p s d) d.wo w/\uD (Ow p s d) d.bo w:=by
 refine⟨⟨⟨by simp[Bg,eA],by simp[Bg]⟩,?_⟩,⟨⟨by simp[Ow,eA],by simp[Ow]⟩,?_⟩⟩
 ·simp[Bg,eA,a]
 ·simp[Ow,eA,a]
theorem bE.kept(a:bE p s d w)(c:bH S w w')(n:∀b,S b->d.ow b=0):bE p s d w':=by
 have j:∀b,d.ow b≠0->¬S b:=λb e r=>e (n b r);have f:∀b,d.ow b≠0->d.ow b=d.ow b:=λ_ _=>rfl;have h:w'.heap[p.b]?=some (.cells (eA p s d) 139):=(c.block p.b (aR.1 a.box).1 (j p.b (by rw[a.own];decide))).trans a.box;have i:∀b,d.ow b≠0->p.lo<=b/\b<w'.heap.size:=λb e=>⟨(a.low b e).1,bf (a.low b e).2 c.size⟩;have t:∀{t:Int},t≠0->∀b,d.ow b=t->¬S b:=λo b g=>j b (by rw[g];exact o);obtain⟨y1,y2,q⟩:=a.wyK c (t (by decide)) f rfl (rC h).1;obtain⟨l,m⟩:=a.evK c (t (by decide)) f;exact⟨i,h,a.own,⟨a.pgK c (t (by decide)) f,a.pg.2⟩,a.pmK c (λb g _=>t (by decide) b g) f,a.keys,λk b e=>a.psK c (aA _) (t (by have:=(a.key e).1;omega)) f i e,⟨y1,y2,a.wy.2.2.1,a.wy.2.2.2.1,q⟩,a.bdK c (t (by decide)) f rfl (rC h).2,l,a.evt.1,m⟩
theorem bE.later(a:bE p s d w)(b:ap w w'):bE p s d w':=a.kept (aO b λ_=>False) λ_ q=>q.elim
end
def PK(f g:Int)(h:aq)(xa:ay)(i xc:Nat)(t:Tc)(w:ah):Prop:=
 ∀b,ap w b->au 91 #[.agg #[ae f,ae g,af h,ag xa i xc]] b λd c=>∃y0 y1 y2 ya yl yc,d=aw (.agg #[ae y0,ae y1,af y2,ag ya yl yc])/\Hid (ap b c/\∃a:Tc,(a.1=(y0,y1,y2)/\a.2.1=(ya,yc)/\a.2.2.length=yl)/\(In c.heap.size c 13 a/\cF (λe=>b.heap.size<=e) 13 a)/\cn 13 a=t/\tn a)
theorem lf{x:Tm (m+1)}(n:In w.heap.size w (m+1) x)(g:bK (m+1) x=0):PK x.1.1 x.1.2.1 x.1.2.2 x.2.1.1 x.2.2.length x.2.1.2 (cn (m+1) x) w:=λW f=>by
 have l:aL ⟨m+1,x⟩:=aY.2 (bT.1 g).1;refine(iC (m+1) x W.heap.size W ((n.below f).mono f.size) (aA _) l).mono ?_;rintro e w' ⟨y,rfl,H⟩;obtain⟨i,j,k,d⟩:=H;have a:bK (m+1) y=0:=(bO d).trans g;have c:aL ⟨m+1,y⟩:=aY.2 (bT.1 a).1;have b:gJ (m+1) y<13:=by have:=(bT.1 a).2.1;omega
 have h:=jV 13 (m+1) y c b;refine⟨y.1.1,y.1.2.1,y.1.2.2,y.2.1.1,y.2.2.length,y.2.1.2,rfl,i,bj 13 (m+1) y,⟨rfl,rfl,by simp[bj]⟩,⟨tD 13 (m+1) y _ _ c b j,uZ 13 (m+1) y _ c b k⟩,(gB h).trans (gB d),ak ((bO h).trans a)⟩
theorem Ku(w:ah):PK 0 0 ⟨#[]⟩ none 0 0 tU w:=λW h=>by
 refine(th 12 0 0 ⟨#[]⟩ none 0 0 [] W (by decide) λw1 c=>?_).mono ?_
 ·refine(mu none 0 w1).mono ?_;rintro e w' ⟨rfl,rfl⟩;exact⟨none,0,[],rfl,aG _ _,rfl,aA _,aM _,rfl,ak rfl⟩
 ·rintro e w' ⟨a,b,l,rfl,H⟩;obtain⟨c,d,g,f,_⟩:=H;obtain rfl:l=[]:=b8 d;exact⟨0,0,⟨#[]⟩,a,0,b,rfl,c,((0,0,⟨#[]⟩),(a,b),[]),⟨rfl,rfl,rfl⟩,⟨⟨⟨show dn 0 by unfold dn;decide,show dn 0 by unfold dn;decide,show (0:Nat)<=maxLen from aM _,aM _,f⟩,ak rfl⟩,ak rfl⟩,rfl,am ⟨rfl,rfl⟩⟩
def GB(d:gX)(w w':ah)(t:Int)(q:Nat):Int:=if w.heap.size<=q/\q<w'.heap.size then t else d.ow q
theorem ve{p:mN}{t:Int}(a:bE p s d w)(e:w.heap.size<=w'.heap.size)(c:p.lo<=w.heap.size):∀b,GB d w w' t b≠0->p.lo<=b/\b<w'.heap.size:=λb q=>by
 unfold GB at q;split at q
 ·omega
 ·have:=a.low b q;omega
theorem vf{p:mN}{t:Int}(a:bE p s d w):∀b,d.ow b≠0->GB d w w' t b=d.ow b:=λb q=>by
 have:=(a.low b q).2;exact if_neg (by omega)
theorem bE.lo{p:mN}{s:Sy}{d:gX}{w:ah}(a:bE p s d w):p.lo<=w.heap.size/\p.b<w.heap.size:=by
 have:=a.low p.b (by rw[a.own];decide);omega
def zK(p:mN)(s:Sy)(d:gX)(wt:aq)(a b:Int)(t:Tc)(w w':ah):Prop:=
 ∃e f,bE p (s.tell wt a b t) {d with ow:=GB d w w' (-3),ev:=e,es:=d.es++ [(wt,a,b,f)]} w'/\bH (λc=>c=p.b\/d.ow c=-3) w w'
theorem bE.tell{p:mN}{s:Sy}{d:gX}{w:ah}(g:bE p s d w)(wt:aq)(a b V W:Int)(X:aq)(xa:ay)(Y xc:Nat)(t:Tc)(aJ:PK V W X xa Y xc t w)(aH:d.es.length<=100000):au 124 #[aE p.b,af wt,ae a,ae b,.agg #[ae V,ae W,af X,ag xa Y xc]] w λe w'=>e=aw (ax #[])/\Hid (zK p s d wt a b t w w'):=by
 obtain⟨aa,an⟩:=g.lo;obtain⟨y,z,m⟩:∃y z,d.ev=ag y d.es.length z:=by
  rcases g.evr.1.2 with⟨e,aF⟩|⟨i,c,aV,e,_⟩
  ·exact⟨none,0,by rw[e,aF]⟩
  ·exact⟨_,c,e⟩
 have O:=g.box;have I:d.ev.ownBlock≠some p.b:=λe=>by
  have u:=g.evr.2 _ e;rw[g.own]at u;cases u
 have al:=g.evr.1;rw[m]at al I;refine(FC p.lo p.b wt a b V W X xa Y xc y d.es.length z _ (λK w' y0 y1 y2 ya yl yc=>∃l:Tc,(l.1=(y0,y1,y2)/\l.2.1=(ya,yc)/\l.2.2.length=yl)/\(In w'.heap.size w' 13 l/\cF (λf=>K.heap.size<=f) 13 l)/\cn 13 l=t/\tn l) w aH an aa ⟨?_,by simp[World.frozen?,O]⟩ al I aJ).mono ?_
 ·have u:=aj O 6;simp only[eA,dm,dz]at u;rw[m]at u;exact u
 rintro e w' ⟨rfl,av⟩;obtain⟨i,c,q,x,K,L,y0,y1,y2,ya,yl,yc,R,aR,⟨l,⟨M,N,aG⟩,Q,aK,aN⟩,S,ao,J⟩:=av;have H:ap w L:=R.trans (aR.mono R.size);have P:bH (λaU=>(Value.slice y d.es.length z).ownBlock=some aU) w q:=(aO H _).trans S λ_ _ e=>e;have o:bH (λf=>f=p.b\/d.ow f=-3) w w':=by
  rw[x];refine(P.mono (T:=λf=>f=p.b\/d.ow f=-3) λf _ e=>am (g.evr.2 f (by rw[m];exact e))).trans (bN q p.b 6 _) λf _ e=>ak e
 have aQ:=o.size;have aY:w'.heap.size=q.heap.size:=by rw[x];simp[World.setCell]
 have Z:w'.heap[p.b]?=some (.cells (eA p (s.tell wt a b t) {d with ow:=GB d w w' (-3),ev:=ag (some ⟨i,0,none⟩) (d.es.length+1) c,es:=d.es++ [(wt,a,b,l)]}) 139):=by
  have v:q.heap[p.b]?=some (.cells (eA p s d) 139):=(P.block p.b an I).trans O;rw[x];simp[World.setCell,bR,v,eA,Sy.tell]
 have ab:=ve (t:=-3) g aQ aa;have n:=vf (w':=w') (t:=-3) g;have G:∀{U:Int},U≠ -3->U≠ -5->∀f,d.ow f=U->¬(f=p.b\/d.ow f=-3):=λF v f e h=>by
  rcases h with rfl|h
  ·rw[g.own]at e;exact v e.symm
  ·exact F (e.symm.trans h)
 have ai:∀f,w.heap.size<=f->f<w'.heap.size->GB d w w' (-3) f=-3:=λf az aB=>if_pos ⟨az,aB⟩;obtain⟨aC,aD⟩:=rC Z;obtain⟨E,j,r⟩:=g.wyK o (G (by decide) (by decide)) n rfl aC;refine⟨rfl,ag (some ⟨i,0,none⟩) (d.es.length+1) c,l,⟨ab,Z,(n p.b (by rw[g.own];decide)).trans g.own,⟨g.pgK o (G (by decide) (by decide)) n,g.pg.2⟩,g.pmK o (λf M N h=>?_) n,g.keys,λk b f=>g.psK o (aA _) (G (by have:=(g.key f).1;omega) (by have:=(g.key f).1;omega)) n ab f,⟨E,j,g.wy.2.2.1,g.wy.2.2.2.1,r⟩,g.bdK o (G (by decide) (by decide)) n rfl aD,⟨?_,λf e=>?_⟩,?_,λe A=>?_⟩,o⟩
 ·rcases h with h|h
  ·exact N h
  ·rw[M]at h;cases h
 ·have e:[(wt,a,b,l)].flatMap yn=[af wt,ae a,ae b,ae y0,ae y1,af y2,ag ya yl yc]:=by simp[yn,M,N,aG]
  have v:w'.ownsRow p.lo 101 7 (ag (some ⟨i,0,none⟩) (d.es.length+1) c) (d.es.length+1) (d.es.flatMap yn++ [(wt,a,b,l)].flatMap yn):=by
   rw[e,x];refine bC ao (bN q p.b 6 _) λf aP h=>?_;have:i=f:=aI aP;subst this h;rcases J with h|h
   ·exact I h
   ·have:=H.size;omega
  rw[<-lC]at v;simpa using v
 ·have B:i=f:=aI e;subst B;rcases J with h|h
  ·have F:=g.evr.2 i (by rw[m];exact h);exact(n i (by rw[F];decide)).trans F
  ·have:=H.size;have:=(ao.lt i rfl).2;exact ai i (by omega) (by omega)
 ·show _=s.evs++ [(wt,a,b,t)];rw[fu,g.evt.1,bA,dA,aK]
 ·have aM:bH (λf=>f=p.b\/d.ev.ownBlock=some f) w w':=by
    rw[x,m];exact(P.mono (T:=λf=>f=p.b\/(Value.slice y d.es.length z).ownBlock=some f) λf _ e=>am e).trans (bN q p.b 6 _) λf _ e=>ak e
  have aL:bH (λf=>f=p.b\/d.ev.ownBlock=some f) L w':=by
   rw[x,m];exact(S.mono (T:=λf=>f=p.b\/(Value.slice y d.es.length z).ownBlock=some f) λf _ e=>am e).trans (bN q p.b 6 _) λf _ e=>ak e
  have aX:=H.size;rcases du.1 A with A|A
  ·obtain⟨⟨ar,aS⟩,aT⟩:=g.evt.2 e A;refine⟨?_,aT⟩;have C:=fB aM (D:=λf=>(d.ow f=-3/\d.ev.ownBlock≠some f)/\f<w.heap.size) (λf E j=>?_) ⟨ar,In.offB aS ar⟩
   ·refine⟨C.1,C.2.mono λf h=>⟨(n f (by rw[h.1.1];decide)).trans h.1.1,λj=>?_⟩⟩;have B:i=f:=aI j;subst B;rcases J with r|r
    ·exact h.1.2 (by rw[m];exact r)
    ·omega
   ·rcases j with rfl|j
    ·have:=E.1.1;rw[g.own]at this;cases this
    ·exact E.1.2 j
  ·obtain rfl:=dO.1 A;refine⟨?_,aN⟩;have aW:=R.size;have ad:∀f,d.ev.ownBlock=some f->f<w.heap.size:=λf h=>(g.evr.1.lt f h).2;have C:=fB aL (D:=λf=>K.heap.size<=f/\f<L.heap.size) (λf E j=>?_) ⟨Q.1,In.offB Q.2 Q.1⟩
   ·have:=S.size;refine⟨C.1,C.2.mono λf h=>⟨ai f (by omega) (by omega),λj=>?_⟩⟩;have B:i=f:=aI j;subst B;rcases J with r|r
    ·have:=ad i (by rw[m];exact r);omega
    ·omega
   ·rcases j with rfl|j
    ·omega
    ·have:=ad f j;omega
theorem QP{q:Nat}{T:TypeId}{fr:Nat×Nat}(a:w.heap[q]?=some (.cells #[o,r,u,x] T fr)):w.cell? ⟨q,0,none⟩=some o/\w.cell? ⟨q,1,none⟩=some r/\w.cell? ⟨q,2,none⟩=some u/\w.cell? ⟨q,3,none⟩=some x:=by simp[World.cell?,a]
theorem Ij{ps:List (Int×aq×Tc×List Tc)}(k:Int)(a:l.map (·.1)=ps.map (·.1)):(dp l k).isSome=((ps.find? λp=>p.1==k).map (·.2)).isSome:=by
 induction l generalizing ps with
 | nil=>
  cases ps with
  | nil=>rfl
  | cons b ps=>simp at a
 | cons c l ih=>
  cases ps with
  | nil=>simp at a
  | cons b ps=>
   simp only[bA,lB]at a;have ih:=ih a.2;unfold dp at ih ⊢;rw[ko,ko,a.1];cases b.1==k
   ·exact ih
   ·rfl
section
variable {p:mN} {s:Sy} {d:gX} {w:ah}
theorem bE.alive(a:bE p s d w)(k:Int):(dp d.l k).isSome=(s.get k).isSome:=Ij k a.keys.1
theorem bE.look(g:bE p s d w)(k:Int)(c:Bool):(Instr.lookup 131 (.map d.po) (ae k) c).run Tryz.prog w=.ok (if c then ax #[match dp d.l k with|some b=>Be b|none=> .pointer none,.bool (dp d.l k).isSome]else match dp d.l k with|some b=>Be b|none=> .pointer none) w:=by
 rcases g.pm with⟨a,f⟩|⟨j,a,_,_,f⟩
 ·rw[a,f];have:=EB w k c;cases c<;>exact this
 ·rw[a];obtain⟨h,i⟩:=f.look k c;cases e:dp d.l k with
  | none=>
   rw[h e];cases c<;>rfl
  | some b=>
   rw[i b e];cases c<;>rfl
theorem bE.cells(c:bE p s d w):ai w p.b 0 (ag p.pa p.prog.length p.pc)/\ai w p.b 1 (ae p.room)/\ai w p.b 2 (ae s.last)/\ai w p.b 3 (.map d.po):=by
 have a:=c.box;exact⟨aj a 0,aj a 1,aj a 2,aj a 3⟩
theorem bE.isAlive(a:bE p s d w)(k:Int):au 130 #[aE p.b,ae k] w λe w'=>e=aw (.bool (s.get k).isSome)/\w'=w:=by
 have i:=a.cells.2.2.2;have f:=a.look k true;rw[if_pos rfl]at f;have c:=a.alive k;obtain⟨h,g⟩:∃h,h=(s.get k).isSome:=⟨_,rfl⟩;rw[<-g]at c ⊢;rw[c]at f;generalize (match dp d.l k with|some b=>Be b|none=> .pointer none)=m at f;clear c g;generalize d.po=j at*;clear a;go_enter func130,ntmps130;go_wp2_with fail
 go_ret
 exact⟨rfl,rfl⟩
theorem bE.len(c:bE p s d w)(ty:TypeId):(Builtin.len_ #[131] ty #[.map d.po]).run Tryz.prog w=.ok (ae s.ps.length) w:=by
 have e:d.l.length=s.ps.length:=by
  have:=congrArg List.length c.keys.1;simpa using this
 rcases c.pm with⟨a,b⟩|⟨f,a,_,_,b⟩
 ·rw[a,<-e,b];exact Maps.len_nil underlying131 ty
 ·rw[a,<-e];exact xy.len b underlying131 ty
theorem bE.mayHave(c:bE p s d w)(n:Nat)(r:n<=1000):au 83 #[aE p.b,ae n] w λe w'=>e=aw (.bool (s.may n))/\w'=w:=by
 obtain⟨_,_,k,l⟩:=c.cells;have q:=c.len 3;obtain⟨_,_,_,t,u,v⟩:=c.keys;obtain⟨j,a⟩:∃j,j=s.may n:=⟨_,rfl⟩;rw[<-a];unfold Sy.may at a;generalize s.last=h at*;generalize s.ps.length=f at*;generalize d.po=x at*;clear c;have m:IntKind.i64.wrap ((f:Int)+n)=(f:Int)+n:=by rw[IntKind.wrap];simp[IntKind.bits,IntKind.signed];omega
 have o:IntKind.i64.wrap (h+n)=h+n:=by rw[IntKind.wrap];simp[IntKind.bits,IntKind.signed];omega
 go_enter func83,ntmps83;by_cases g:(f:Int)+n<=12
 ·by_cases i:h+n<=90
  ·rw[iv g,iv i]at a;subst a;go_wp2_with fail
   go_ret
   exact⟨rfl,rfl⟩
  ·rw[iv g,decide_eq_false i]at a;subst a;go_wp2_with fail
   go_ret
   exact⟨rfl,rfl⟩
 ·rw[decide_eq_false g]at a;subst a;go_wp2_with fail
  go_ret
  exact⟨rfl,rfl⟩
theorem EJ(n:Nat)(nm:aq)(l:List (Bh n))(q:ay)(F len B r:Nat)(w:ah)(J:l.length=len)(K:len<=9223372036854775807)(C:B<=w.heap.size)(_hsb:r<w.heap.size)(v:Hid (ai w r 0 (ag q len F)))(y:Hid (iW n B w q l)):au 84 #[aE r,af nm] w λe w'=>e=aw (.bool (gF n nm l).isSome)/\ap w w':=by
 have H:=v.out;go_enter func84,ntmps84;go_wp2_with fail;go_loopw [12] (λm wr=>∃a:Nat,a<=len/\m=ae a/\Hid (ap w wr/\gF n nm l=gF n nm (l.drop a))) (λm _=>len-(intOf m).toNat)
 case atStart=>exact⟨0,by omega,rfl,aG _ _,rfl⟩
 case round=>
 obtain⟨a,I,rfl,c⟩:=hrel;by_cases L:a<len
 ·obtain⟨b,d⟩:∃b,l[a]?=some b:=⟨l[a]'(by omega),aU _⟩;obtain⟨j,lo,rfl,E,x⟩:∃g o,q=some ⟨g,o,none⟩/\g<B/\Hid (∀(t:Nat)(f:az),(rK n b)[t]?=some f->ai w g (o+a*2+t) f):=by
   rcases y with e|⟨g,o,e,D,A⟩
   ·rw[e]at d;simp at d
   ·exact⟨g,o,e,D,(A a _ d).1⟩
  have h:∀(t:Nat)(f:az),(rK n b)[t]?=some f->ai wr j (lo+a*2+t) f:=λt f u=>(c.1.cell (p:=⟨j,lo+a*2+t,none⟩) (bf E C)).trans (x t f u);have G:ai wr j (lo+a*2) (af b.1):=h 0 _ rfl;have O:ai wr j (lo+a*2+1) (ag b.2.1.1 b.2.2.length b.2.1.2):=h 1 _ rfl;have M:(0:Int)<=(a:Int):=by omega
  have N:(a:Int)<(len:Int):=by omega
  have s:Hid (∀o,ap w (wr.alloc o)):=λo=>c.1.alloc c.1.size o;by_cases i:b.1=nm
  ·have k:Hid (gF n nm l=some b):=by
     show _=_;rw[c.out.2,pF n nm d,if_pos i]
   rw[i]at G;clear h c d;go_wp2_with fail
   go_ret
   exact⟨bZ (by rw[k.out];rfl),s _⟩
  ·have k:Hid (gF n nm l=gF n nm (l.drop (a+1))):=by
     show _=_;rw[c.out.2,pF n nm d,if_neg i]
   have u:(b.1.toList==nm.toList)=false:=by
    rw[dL];intro e;rw[cD,cD]at e;exact i (ByteArray.ext (Array.ext' e))
   clear h c d;go_wp2_with fail;go_roundw
   case rel=>exact⟨a+1,by omega,by go_num,s _,k⟩
   case measure=>simp[intOf];omega
 ·obtain rfl:a=len:=by omega
  have z:Hid (gF n nm l=none):=by
   show _=_;rw[c.out.2,qd (by omega)];rfl
  have HB:=av c.1;clear c;go_wp2_with fail
  go_ret
  exact⟨bZ (by rw[z.out];rfl),HB⟩
theorem bE.knows(a:bE p s d w)(nm:aq):au 84 #[aE p.b,af nm] w λe w'=>e=aw (.bool (lW p.n p.prog nm))/\ap w w':=
 EJ (p.n+1) nm p.prog p.pa p.pc p.prog.length w.heap.size p.b w rfl (aF a.pg.2.1 a.pg.2.2.1) (aA _) a.lo.2 a.cells.1 a.pg.1.1
end
theorem oY{g:Type}{k j:Int}(d:j≠k):(l:List (Int×g))->(l.eraseP λp=>p.1==k).find? (λp=>p.1==j)=l.find? λp=>p.1==j
 | []=>rfl
 | a::l=>by
  rw[List.eraseP_cons];by_cases b:a.1=k
  ·have c:(a.1==k)=true:=by simpa using b
   have f:(a.1==j)=false:=by simp[b];exact λe=>d e.symm
   simp[c,f]
  ·have c:(a.1==k)=false:=by simpa using b
   simp only[c,cond_false,ko];rw[oY d l]
theorem yq{g:Type}{k:Int}:(l:List (Int×g))->(l.map (·.1)).Nodup->(l.eraseP λp=>p.1==k).find? (λp=>p.1==k)=none
 | [],_=>rfl
 | a::l,hn=>by
  rw[bA,nL]at hn;rw[List.eraseP_cons];by_cases b:a.1=k
  ·have c:(a.1==k)=true:=by simpa using b
   simp only[c,cond_true];refine qe.2 λf e=>?_;simp only[cT];intro d;exact hn.1 (cd.2 ⟨f,e,d.trans b.symm⟩)
  ·have c:(a.1==k)=false:=by simpa using b
   simp only[c,cond_false,ko];exact yq l hn.2
def ex(a:Nat)(d b:gX)(w w':ah):Prop:=bH (λq=>d.ow q<0) w w'/\(∀q,q<w.heap.size->b.ow q=d.ow q)/\b.k=d.k/\b.es.length<=d.es.length+a/\b.wn<=d.wn+a/\b.bn<=d.bn+a
theorem ex.trans{a b:Nat}{d d1 d2:gX}{w w1 w2:ah}(i:ex a d d1 w w1)(k:ex b d1 d2 w1 w2):ex (a+b) d d2 w w2:=by
 obtain⟨g,h,j,o,p,q⟩:=i;obtain⟨l,m,n,s,t,u⟩:=k;have r:=g.size;exact⟨g.trans l λc e f=>by rw[h c e]at f;exact f,λc e=>(m c (by omega)).trans (h c e),n.trans j,by omega,by omega,by omega⟩
variable{d1:gX}
theorem ex.mono(c:ex a d d1 w w1)(k:a<=b):ex b d d1 w w1:=by
 obtain⟨e,f,g,h,i,j⟩:=c;exact⟨e,f,g,by omega,by omega,by omega⟩
theorem ex.later(d:gX)(a:ap w w1):ex 0 d d w w1:=⟨aO a _,λ_ _=>rfl,rfl,aA _,aA _,aA _⟩
theorem zK.up{p:mN}{wt:aq}{a b:Int}{t:Tc}(f:bE p s d w)(k:zK p s d wt a b t w w'):∃e,bE p (s.tell wt a b t) e w'/\ex 1 d e w w':=by
 obtain⟨l,m,g,h⟩:=k;refine⟨_,g,h.mono λi _ c=>?_,λi j=>if_neg (by omega),rfl,by simp,fN _,fN _⟩;rcases c with c|c
 ·rw[c,f.own];decide
 ·rw[c];decide
section
variable {p:mN} {s:Sy} {d:gX} {w:ah}
theorem bE.del(a:bE p s d w)(k:Int):∃w',(∀ty,(Builtin.delete_ #[131,3] ty #[.map d.po,ae k]).run Tryz.prog w=.ok (ax #[]) w')/\bE p {s with ps:=s.ps.eraseP λq=>q.1==k} {d with l:=d.l.eraseP λq=>q.1==k} w'/\bH (λq=>d.ow q=-5/\q≠p.b) w w':=by
 have J:(d.l.eraseP λq=>q.1==k).map (·.1)=(s.ps.eraseP λq=>q.1==k).map (·.1):=by
  have e:=congrArg (λl=>l.eraseP (λq=>q==k)) a.keys.1;simpa [List.eraseP_map,Function.comp_def]using e
 obtain⟨E,u,F,G,H,I⟩:=a.keys;have L:(d.l.map (·.1)).Nodup:=by rw[E];exact u
 have v:∀(w':ah),bH (λq=>d.ow q=-5/\q≠p.b) w w'->((d.po=none/\d.l.eraseP (λq=>q.1==k)=[])\/∃h,d.po=some h/\d.ow h=-5/\h≠p.b/\IM w' h (d.l.eraseP λq=>q.1==k))->bE p {s with ps:=s.ps.eraseP λq=>q.1==k} {d with l:=d.l.eraseP λq=>q.1==k} w':=λw' c M=>by
  have i:∀b,d.ow b≠0->d.ow b=d.ow b:=λ_ _=>rfl;have y:∀b,d.ow b≠0->p.lo<=b/\b<w'.heap.size:=λb q=>⟨(a.low b q).1,bf (a.low b q).2 c.size⟩;have m:w'.heap[p.b]?=some (.cells (eA p s d) 139):=(c.block p.b a.lo.2 λn=>n.2 rfl).trans a.box;have t:∀{t:Int},t≠ -5->∀b,d.ow b=t->¬(d.ow b=-5/\b≠p.b):=λO b e n=>O (e.symm.trans n.1);obtain⟨y1,y2,T⟩:=a.wyK c (t (by decide)) i rfl (rC m).1;obtain⟨f,g⟩:=a.evK c (t (by decide)) i;refine⟨y,m,a.own,⟨a.pgK c (t (by decide)) i,a.pg.2⟩,M,⟨J,?_,λq N=>F q (List.mem_of_mem_eraseP N),G,H,?_⟩,λj b q=>?_,⟨y1,y2,a.wy.2.2.1,a.wy.2.2.2.1,T⟩,a.bdK c (t (by decide)) i rfl (rC m).2,f,a.evt.1,g⟩
  ·exact(u.sublist ((List.eraseP_sublist (l:=s.ps) (p:=λq=>q.1==k)).map _))
  ·exact aF (List.length_eraseP_le) I
  ·have x:j≠k:=λe=>by
     subst e;have:dp (d.l.eraseP λq=>q.1==j) j=none:=by unfold dp;rw[yq d.l L];rfl
     rw[this]at q;cases q
   have z:dp d.l j=some b:=by
    unfold dp at q ⊢;rw[oY x]at q;exact q
   obtain⟨P,B,A,r,D⟩:=a.psK c (aA _) (t (by have:=(a.key z).1;omega)) i y z;refine⟨P,B,A,?_,D⟩;unfold Sy.get at r ⊢;rw[oY x];exact r
 rcases a.pm with⟨f,g⟩|⟨h,f,g,o,C⟩
 ·refine⟨w,?_,v w (bH.refl _ _) (ak ⟨f,by rw[g];rfl⟩),bH.refl _ _⟩;have K:=underlying131;intro ty;rw[f];simp[Builtin.delete_,cJ K,lS,Result.andThen]
 ·obtain⟨w',Q,R,S,_⟩:=xy.del C underlying131 k;have c:bH (λq=>d.ow q=-5/\q≠p.b) w w':=S.mono λq _ e=>by rw[e];exact⟨g,o⟩
  exact⟨w',λty=>by rw[f];exact Q ty,v w' c (am ⟨h,f,g,o,R⟩),c⟩
theorem Hv(a:Nat)(c:dc)(x how:Int)(w w1:ah)(R:bF)(f:Hid (ai w a 3 (.map c)))(i:∀ty,(Builtin.delete_ #[131,3] ty #[.map c,ae x]).run Tryz.prog w=.ok (ax #[]) w1)(g:Hid (au 124 #[aE a,af ⟨#[101,110,100]⟩,ae x,ae how,.agg #[ae 0,ae 0,af ⟨#[]⟩,ag none 0 0]] w1 λe w'=>e=aw (ax #[])/\R w')):au 157 #[aE a,ae x,ae how] w λe w'=>e=aw (ax #[])/\R w':=by
 have h:=f.out;go_enter func157,ntmps157;go_wp2_with fail;refine g.mono ?_;rintro e j ⟨rfl,b⟩;have d:=av b;clear b;go_wp2_with fail;exact eF (v:=ax #[]) (by simp[results]) rfl ⟨rfl,d⟩
theorem bE.drop(g:bE p s d w)(x how:Int)(k:d.es.length<=100000):au 157 #[aE p.b,ae x,ae how] w λe w'=>e=aw (ax #[])/\Hid (∃c,bE p (s.drop x how) c w'/\ex 1 d c w w'):=by
 obtain⟨f,m,h,n⟩:=g.del x;refine Hv p.b d.po x how w f _ g.cells.2.2.2 m ((h.tell Ot x how 0 0 ⟨#[]⟩ none 0 0 tU (Ku f) k).mono λe w' a=>⟨a.1,?_⟩);obtain⟨c,i,j⟩:=a.2.up h;have o:ex 0 d {d with l:=d.l.eraseP λa=>a.1==x} w f:=⟨n.mono λa _ e=>by rw[e.1];decide,λ_ _=>rfl,rfl,aA _,aA _,aA _⟩;exact⟨c,i,(o.trans j).mono (aA _)⟩
end
theorem NK{e:TypeId}{sz:Nat}{xs:dH}(b:w.ownsRow base e sz v n xs):∃a c,v=ag a n c:=by
 rcases b.2 with⟨rfl,rfl⟩|⟨f,c,d,rfl,_⟩
 ·exact⟨none,0,rfl⟩
 ·exact⟨_,c,rfl⟩
section
variable {p:mN} {s:Sy} {d:gX} {w:ah}
theorem bE.parted(a:bE p s d w){x:Int}(u:dn x)(h:Bool):au 158 #[.pointer (some ⟨p.b,5,none⟩),ae x,.bool h] w λe w'=>∃v,e=aw v/\Hid (iS w.heap.size v (tm s.bonds x h) w'/\bE p {s with bonds:=wo s.bonds (x::tm s.bonds x h)} d w'/\ex 0 d d w w'):=by
 refine(Kb a.bd.1 a.bd.2.1 u h).mono ?_;rintro e w' ⟨v,rfl,l⟩;obtain⟨o,q,c⟩:=l;have f:∀b,d.ow b≠0->d.ow b=d.ow b:=λ_ _=>rfl;have j:∀b,d.ow b≠0->p.lo<=b/\b<w'.heap.size:=λb g=>⟨(a.low b g).1,bf (a.low b g).2 c.size⟩;have t:∀{t:Int},t≠ -2->∀b,d.ow b=t->¬d.bo=some b:=λr b e z=>r (e.symm.trans (a.bd.2.2 b z));have i:w'.heap[p.b]?=some (.cells (eA p s d) 139):=(c.block p.b a.lo.2 (t (by decide) p.b a.own)).trans a.box;obtain⟨y1,y2,y⟩:=a.wyK c (t (by decide)) f rfl (rC i).1;obtain⟨m,n⟩:=a.evK c (t (by decide)) f;exact⟨v,rfl,o,⟨j,i,a.own,⟨a.pgK c (t (by decide)) f,a.pg.2⟩,a.pmK c (λb e _=>t (by decide) b e) f,a.keys,λk b g=>a.psK c (aA _) (t (by have:=(a.key g).1;omega)) f j g,⟨y1,y2,a.wy.2.2.1,a.wy.2.2.2.1,y⟩,⟨q,a.bd.2.1.wo _,a.bd.2.2⟩,m,a.evt.1,n⟩,c.mono λb _ e=>by rw[a.bd.2.2 b e];decide,λ_ _=>rfl,rfl,aA _,aA _,aA _⟩
theorem M7{g:bD->Bool}(b:Bl g)(x:Int)(a:Bool):(tm g x a).length<=99:=by
 unfold tm;split
 ·simp
 ·exact(FG b x).le
theorem KH(b:Nat)(x how:Int)(w:ah)(l:List Int)(L:Nat)(h:Bool)(R:ay->Nat->Nat->bF)(D:L<=99)(z:Hid (l.length=L))(s:h=(how==1))(o:Hid (au 157 #[aE b,ae x,ae how] w λe w'=>e=aw (ax #[])/\Hid (au 158 #[.pointer (some ⟨b,5,none⟩),ae x,.bool h] w' λe w'=>∃a c,e=aw (ag a L c)/\Hid (R a c 0 w'))))(A:Hid (∀a c j W,R a c j W->(∀(i:Nat)(k:Int),l[i]?=some k->∃g,a=some ⟨g,0,none⟩/\ai W g i (ae k))/\∀y,l[j]?=some y->au 157 #[aE b,ae y,ae 4] W λe w'=>e=aw (ax #[])/\Hid (R a c (j+1) w'))):au 127 #[aE b,ae x,ae how] w λe w'=>e=aw (ax #[])/\Hid (∃a c,R a c L w'):=by
 go_enter func127,ntmps127;go_wp2_with fail;refine o.mono ?_;rintro e I ⟨rfl,n⟩;have E:(how==1)=h:=s.symm;clear o s;go_wp2_with fail;refine n.mono ?_;rintro e J ⟨a,c,rfl,d⟩;clear n;go_wp2_with fail;go_loopw [7,20] (λ_ i wr=>∃j:Nat,j<=L/\i=ae j/\Hid (R a c j wr)) (λ_ i _=>L-(intOf i).toNat)
 case atStart=>exact⟨0,aM _,rfl,d⟩
 case round=>
 obtain⟨j,F,rfl,f⟩:=hrel;by_cases C:j<L
 ·obtain⟨y,m⟩:∃y,l[j]?=some y:=⟨l[j]'(by rw[z.out];exact C),aU _⟩;obtain⟨q,r⟩:=A a c j wr f;obtain⟨g,rfl,B⟩:=q j y m;have p:=av (r y m);have G:(0:Int)<=(j:Int):=by omega
  have H:(j:Int)<(L:Int):=by omega
  clear q r m d;go_wp2_with fail;refine p.mono ?_;rintro e K ⟨rfl,t⟩;clear p B;go_wp2_with fail;go_roundw
  case rel=>exact⟨j+1,by omega,by go_num,t⟩
  case measure=>simp[intOf];omega
 ·obtain rfl:j=L:=by omega
  have u:=av f.out;clear f d;go_wp2_with fail;exact eF (v:=ax #[]) (by simp[results]) rfl ⟨rfl,a,c,u⟩
theorem bE.fin(F:bE p s d w){x how:Int}(O:dn x)(ad:d.es.length<=99000):au 127 #[aE p.b,ae x,ae how] w λe w'=>e=aw (ax #[])/\Hid (∃g,bE p (s.fin x how) g w'/\ex 100 d g w w'):=by
 have I:=M7 F.bd.2.1 x (how==1);obtain⟨l,z⟩:∃l,l=tm s.bonds x (how==1):=⟨_,rfl⟩;rw[<-z]at I;refine(KH p.b x how w l l.length (how==1) (λf c B m=>∃g q,bE p ((l.take B).foldl (λs D=>s.drop D 4) {s.drop x how with bonds:=wo s.bonds (x::l)}) g m/\ex (1+B) d g w m/\iS q (ag f l.length c) l m/\∀a,(Value.slice f l.length c).ownBlock=some a->g.ow a=0) I rfl rfl ?_ ?_).mono ?_
 ·refine(F.drop x how (by omega)).mono ?_;rintro e aj ⟨rfl,j⟩;obtain⟨d1,G,S⟩:=j.out;refine⟨rfl,(G.parted O (how==1)).mono ?_⟩;rintro e ak ⟨T,rfl,L⟩;obtain⟨v,K,R⟩:=L;have h:(s.drop x how).bonds=s.bonds:=rfl;rw[h,<-z]at v K;obtain⟨f,c,rfl⟩:∃f c,T=ag f l.length c:=NK v;refine⟨f,c,rfl,d1,_,K,(S.trans R).mono (by omega),v,λa A=>?_⟩;have ab:=(v.lt a A).1;by_cases H:d1.ow a=0
  ·exact H
  ·have:=(G.low a H).2;omega
 ·rintro f c B m ⟨g,q,r,t,u,E⟩;refine⟨λP k n=>?_,λD J=>?_⟩
  ·obtain⟨V,W,e,o⟩:=u.row;injection e with h _ y;subst h y;rcases u.2 with⟨e,M⟩|⟨Z,X,Y,e,_⟩
   ·rw[b8 M]at n;simp at n
   ·injection e with h _ y;subst h y;rcases o with o|⟨aa,ai,e,ah,o⟩
    ·rw[o]at n;simp at n
    ·injection e with e;injection e with h N;subst h N;have:=o P k n;rw[cB]at this;exact⟨_,rfl,this⟩
  ·have af:=(bi.1 J).1;refine(r.drop D 4 (by have:=t.2.2.2.1;omega)).mono ?_;rintro e w' ⟨rfl,j⟩;obtain⟨d2,Q,C⟩:=j.out;have A:∀a,(Value.slice f l.length c).ownBlock=some a->a<m.heap.size:=λa i=>(u.lt a i).2;refine⟨rfl,d2,q,?_,(t.trans C).mono (by omega),bC u C.1 λa i U=>by rw[E a i]at U;omega,λa i=>(C.2.1 a (A a i)).trans (E a i)⟩;rw[dK,J,nH];exact Q
 ·rintro e w' ⟨rfl,j⟩;obtain⟨f,c,g,q,r,t,_⟩:=j;refine⟨rfl,g,?_,t.mono (by omega)⟩;rw[bG (aA _)]at r;unfold Sy.fin;rw[<-z];exact r
end
section
variable {p:mN} {s:Sy} {d:gX} {w:ah}
theorem bE.linkB(c:bE p s d w){x y:Int}(J:dn x)(K:dn y)(F:d.bn<1000000):au 184 #[.pointer (some ⟨p.b,5,none⟩),ae x,ae y] w λe w'=>e=aw (ae (wE x y))/\Hid (∃q,bE p {s with bonds:=if wE x y=0 then iy s.bonds (jk x y) true else s.bonds} q w'/\ex 1 d q w w'):=by
 refine(G8 c.bd.1 J K F).mono ?_;rintro e w' ⟨rfl,A⟩;obtain⟨o,f,g,D⟩:=A;have H:=g.size;have i:∀b,MO (Ow p s d) d.bo b->b=p.b\/d.ow b=-2:=λb e=>e.imp id (c.bd.2.2 b);have G:o≠some p.b:=λe=>by
  subst e;exact f.ne rfl
 have t:∀{t:Int},t≠ -2->t≠ -5->∀b,d.ow b=t->¬MO (Ow p s d) d.bo b:=λf E b e a=>by
  rcases i b a with a|a
  ·rw[a,c.own]at e;exact E e.symm
  ·exact f (e.symm.trans a)
 have r:w'.heap[p.b]?=some (.cells (eA p {s with bonds:=if wE x y=0 then iy s.bonds (jk x y) true else s.bonds} {d with ow:=GB d w w' (-2),bo:=o,bn:=d.bn+1}) 139):=by
  have:=f.2.1.2;simpa [Ow,eA]using this
 have z:=ve (t:=-2) c H c.lo.1;have h:=vf (w':=w') (t:=-2) c;obtain⟨B,C⟩:=rC r;obtain⟨y1,y2,N⟩:=c.wyK g (t (by decide) (by decide)) h rfl B;obtain⟨l,m⟩:=c.evK g (t (by decide) (by decide)) h;refine⟨rfl,{d with ow:=GB d w w' (-2),bo:=o,bn:=d.bn+1},⟨z,r,(h p.b (by rw[c.own];decide)).trans c.own,⟨c.pgK g (t (by decide) (by decide)) h,c.pg.2⟩,c.pmK g (λb l m a=>?_) h,c.keys,λk b j=>c.psK g (aA _) (t (by have:=(c.key j).1;omega) (by have:=(c.key j).1;omega)) h z j,⟨y1,y2,c.wy.2.2.1,c.wy.2.2.2.1,N⟩,⟨?_,?_,λb e=>?_⟩,l,c.evt.1,m⟩,g.mono λb _ e=>?_,λj O=>if_neg (by omega),rfl,fN _,fN _,aA _⟩
 ·rcases i b a with a|a
  ·exact m a
  ·rw[l]at a;cases a
 ·exact⟨f.1,C,f.2.2⟩
 ·show Bl (if wE x y=0 then iy s.bonds (jk x y) true else s.bonds);split
  ·rename_i n;intro k u;by_cases v:k=jk x y
   ·subst v;unfold wE at n;split at n
    ·rename_i I;obtain⟨L,M,P⟩:=I;simp only[oQ,aS,cU]at L M;unfold jk;simp only;omega
    ·cases n
   ·rw[cg _ _ v]at u;exact c.bd.2.1 k u
  ·exact c.bd.2.1
 ·rcases D b (am e)with a|a
  ·rcases i b a with a|a
   ·subst a;exact absurd e G
   ·exact(h b (by rw[a];decide)).trans a
  ·have:=(f.lt b (am e)).2;exact if_pos ⟨a,this⟩
 ·rcases i b e with a|a
  ·rw[a,c.own];decide
  ·rw[a];decide
theorem Ny(d:Nat)(a b:Int)(r:Bool)(v:Int)(w:ah)(R:bF)(f:Hid (au 130 #[aE d,ae b] w λe w'=>e=aw (.bool r)/\w'=w))(i:Hid (r=false->R w))(j:Hid (r=true->au 184 #[.pointer (some ⟨d,5,none⟩),ae a,ae b] w λe w'=>e=aw (ae v)/\Hid (R w'))):au 160 #[aE d,ae a,ae b] w λe w'=>e=aw (ax #[])/\Hid (R w'):=by
 go_enter func160,ntmps160;go_wp2_with fail;refine f.mono ?_;rintro e k ⟨rfl,g⟩;obtain rfl:=g.symm;clear g f;cases r
 ·have c:=av (i rfl);go_wp2_with fail;exact eF (v:=ax #[]) (by simp[results]) rfl ⟨rfl,c⟩
 ·have c:=av (j rfl);go_wp2_with fail;refine c.mono ?_;rintro e l ⟨rfl,h⟩;go_wp2_with fail;exact eF (v:=ax #[]) (by simp[results]) rfl ⟨rfl,h⟩
theorem bE.link(f:bE p s d w){a b:Int}(g:dn a)(h:dn b)(i:d.bn<1000000):au 160 #[aE p.b,ae a,ae b] w λe w'=>e=aw (ax #[])/\Hid (∃c,bE p (s.link a b) c w'/\ex 1 d c w w'):=by
 refine Ny p.b a b (s.get b).isSome (wE a b) w (λw'=>∃c,bE p (s.link a b) c w'/\ex 1 d c w w') (f.isAlive b) (λe=>⟨d,?_,(ex.later d (aG _ _)).mono (aM _)⟩) λe=>?_
 ·unfold Sy.link;rw[e];exact f
 ·unfold Sy.link;rw[e];exact f.linkB g h i
end
section
variable {p:mN} {s:Sy} {d:gX} {w:ah}
theorem LU{m:Nat}{x:Tm (m+1)}(c:bK (m+1) x=0)(a b:Int)(L:Nat):oI 12 a b (bj 13 (m+1) x) L=oI 12 a b (cn (m+1) x) L:=by
 have f:aL ⟨m+1,x⟩:=aY.2 (bT.1 c).1;have e:=jV 13 (m+1) x f (by have:=(bT.1 c).2.1;omega);have d:=eG c;unfold oI;rw[bO e,cG _ _ _ _ e,bO d,cG _ _ _ _ d]
theorem bE.sendW(g:bE p s d w){a b:Int}(aj:I2 (a,b)){m:Nat}(x:Tm (m+1))(ap:In w.heap.size w (m+1) x)(A:bK (m+1) x=0)(al:d.wn<999999):au 183 #[.pointer (some ⟨p.b,4,none⟩),ae a,ae b,dF (m+1) x] w λe w'=>e=aw (ae (oI 12 a b (cn (m+1) x) (s.ways (a,b)).length))/\Hid (∃o,bE p (if oI 12 a b (cn (m+1) x) (s.ways (a,b)).length=0 then {s with ways:=iy s.ways (a,b) (s.ways (a,b)++ [cn (m+1) x])}else s) o w'/\ex 1 d o w w'):=by
 have Z:aL ⟨m+1,x⟩:=aY.2 (bT.1 A).1;have V:gJ (m+1) x<13:=by have:=(bT.1 A).2.1;omega
 have aa:=jV 13 (m+1) x Z V;have W:(d.f (a,b)).length=(s.ways (a,b)).length:=by
  have:=congrArg List.length (g.wy.2.2.1 (a,b));simpa using this
 have ay:(d.f (a,b)).length<=20:=g.wy.2.2.2.1 _;have ao:dF (m+1) x=dF (12+1) (bj 13 (m+1) x):=(Aw 12 m x).symm;rw[ao];have T:bK 13 (bj 13 (m+1) x)=0:=(bO aa).trans A;refine(LV (N:=12) g.wy.1 aj (bj 13 (m+1) x) (tD 13 (m+1) x _ _ Z V ap) (gH T) al (by omega)).mono ?_;rintro e w' ⟨rfl,y,Q⟩;rw[W,LU A]at y Q ⊢;refine⟨rfl,?_⟩;by_cases j:oI 12 a b (cn (m+1) x) (s.ways (a,b)).length=0;rotate_left
 ·rw[if_neg j];exact⟨d,g.later (y j),(ex.later d (y j)).mono (aM _)⟩
 rw[if_pos j];obtain⟨n,L,sl,ab,C,r,K,ad,aq⟩:=Q j;have R:aX 13 (cn (m+1) x)=true/\(s.ways (a,b)).length<20:=by
  unfold oI io at j;split at j
  ·cases j
  ·split at j
   ·rename_i i;exact absurd j i
   ·split at j
    ·cases j
    ·rename_i i;split at j
     ·cases j
     ·exact⟨by simpa using i,by omega⟩
 have S:cn 13 n=cn (m+1) x:=(gB ab).trans (gB aa);have U:bK 13 n=0:=(bO ab).trans T;have ak:aX 13 n=true:=by
  have:=cG _ _ _ _ (eG U);rw[S]at this;exact this.symm.trans R.1
 have an:=r.size;have B:=g.wy.2.1;have t:∀{t:Int},t≠ -1->t≠ -5->∀b,d.ow b=t->¬sS (Bg p s d) d.wo d.sl b:=λy ai b e c=>by
  rcases B b c with c|c
  ·rw[c,g.own]at e;exact ai e.symm
  ·exact y (e.symm.trans c)
 obtain⟨o,v⟩:∃o,o={d with ow:=GB d w w' (-1),wo:=L,wn:=d.wn+1,f:=iy d.f (a,b) (d.f (a,b)++ [n]),sl:=sl}:=⟨_,rfl⟩;obtain⟨E,I⟩:∃E,E={s with ways:=iy s.ways (a,b) (s.ways (a,b)++ [cn (m+1) x])}:=⟨_,rfl⟩;have H:w'.heap[p.b]?=some (.cells (eA p E o) 139):=by
  have:=C.2.1.2;rw[I,v];simpa [Bg,eA]using this
 have X:=ve (t:=-1) g an g.lo.1;have q:=vf (w':=w') (t:=-1) g;obtain⟨O,P⟩:=rC H;rw[v]at P;have az:∀h,sS (Bg p E o) L sl h->sS (Bg p s d) d.wo d.sl h\/w.heap.size<=h:=K;obtain⟨F,G⟩:=g.evK r (t (by decide) (by decide)) q;refine⟨o,?_,?_⟩
 ·rw[<-I,v];rw[I]at*;refine⟨X,by rw[v]at H;exact H,(q p.b (by rw[g.own];decide)).trans g.own,⟨g.pgK r (t (by decide) (by decide)) q,g.pg.2⟩,g.pmK r (λb F G c=>?_) q,g.keys,λk b h=>g.psK r (aA _) (t (by have:=(g.key h).1;omega) (by have:=(g.key h).1;omega)) q X h,⟨?_,λh c=>?_,λk=>?_,λk=>?_,λk c i=>?_⟩,g.bdK r (t (by decide) (by decide)) q rfl P,F,g.evt.1,G⟩
  ·rcases B b c with c|c
   ·exact G c
   ·rw[F]at c;cases c
  ·rw[v]at O;exact⟨C.1,O,C.2.2⟩
  ·rcases K h c with z|z
   ·exact(B h z).imp id λe=>(q h (by rw[e];decide)).trans e
   ·exact am (if_pos ⟨z,(C.lt h c).2⟩)
  ·by_cases l:k=(a,b)
   ·subst l;show (iy d.f (a,b) (d.f (a,b)++ [n]) (a,b)).map (cn 13)=iy s.ways (a,b) (s.ways (a,b)++ [cn (m+1) x]) (a,b);rw[df,df,fu,g.wy.2.2.1,bA,dA,S]
   ·show (iy d.f (a,b) (d.f (a,b)++ [n]) k).map (cn 13)=iy s.ways (a,b) (s.ways (a,b)++ [cn (m+1) x]) k;rw[cg _ _ l,cg _ _ l];exact g.wy.2.2.1 k
  ·by_cases l:k=(a,b)
   ·subst l;show (iy d.f (a,b) (d.f (a,b)++ [n]) (a,b)).length<=20;rw[df,bq,W];have:=R.2;simp;omega
   ·show (iy d.f (a,b) (d.f (a,b)++ [n]) k).length<=20;rw[cg _ _ l];exact g.wy.2.2.2.1 k
  ·have i:c∈iy d.f (a,b) (d.f (a,b)++ [n]) k:=i;have Y:∀J,∀c∈d.f J,bK 13 c=0/\aX 13 c=true/\In w'.heap.size w' 13 c/\cF (λh=>GB d w w' (-1) h=-1/\¬sS (Bg p s d) L sl h) 13 c:=λJ c i=>by
    obtain⟨ar,av,af,ax⟩:=g.wy.2.2.2.2 J c i;have ag:=fB r (D:=λh=>(d.ow h=-1/\¬sS (Bg p s d) d.wo d.sl h)/\h<w.heap.size) (λh z M=>z.1.2 M) ⟨af,In.offB ax af⟩;refine⟨ar,av,ag.1,ag.2.mono λh u=>⟨(q h (by rw[u.1.1];decide)).trans u.1.1,λM=>?_⟩⟩;rcases K h M with ah|ah
    ·exact u.1.2 ah
    ·omega
   by_cases l:k=(a,b)
   ·subst l;rw[df]at i;rcases du.1 i with i|i
    ·exact Y _ c i
    ·obtain rfl:=dO.1 i;exact⟨U,ak,ad,(In.offB aq ad).mono λh u=>⟨if_pos ⟨u.1.1,u.2⟩,u.1.2⟩⟩
   ·rw[cg _ _ l]at i;exact Y _ c i
 ·rw[v]
  exact⟨r.mono λb _ e=>by
   rcases B b e with c|c
   ·rw[c,g.own];decide
   ·rw[c];decide,λh aB=>if_neg (by omega),rfl,fN _,aA _,fN _⟩
end
theorem fj(b:ap w w'){q:Nat}{o:Obj}(a:w.heap[q]?=some o):w'.heap[q]?=some o:=(b.block q (aR.1 a).1).trans a
theorem Fw(x:Nat)(a b c d:Int)(f:aq)(xa:ay)(g xc:Nat)(v:Int)(w:ah)(C R:bF)(A:Hid (∀W,ap w W->au 183 #[.pointer (some ⟨x,4,none⟩),ae a,ae b,.agg #[ae c,ae d,af f,ag xa g xc]] W λe w'=>e=aw (ae v)/\Hid (C w'/\∀q,w.heap.size<=q->q<W.heap.size->w'.heap[q]?=W.heap[q]?)))(B:Hid (∀W,C W->au 124 #[aE x,af (if v=0 then ⟨#[115,101,110,100]⟩else ⟨#[108,111,115,116]⟩),ae a,ae b,.agg #[ae c,ae d,af f,ag xa g xc]] W λe w'=>e=aw (ax #[])/\Hid (R w'))):au 159 #[aE x,ae a,ae b,.agg #[ae c,ae d,af f,ag xa g xc]] w λe w'=>e=aw (ax #[])/\Hid (R w'):=by
 go_enter func159,ntmps159;go_upto_region 1 with fail;generalize D:w.alloc _=h;have n:Hid (ap w h/\h.heap[w.heap.size]?=some (.cells #[ae c,ae d,af f,ag xa g xc] 54)):=by
  rw[<-D];exact⟨aV _ _,aK _ _⟩
 clear D;obtain⟨q,m⟩:∃q,q=w.heap.size:=⟨_,rfl⟩;rw[<-m];have s:Hid (h.heap[q]?=some (.cells #[ae c,ae d,af f,ag xa g xc] 54)):=by rw[m];exact n.2
 have HB:=av n.1;have E:=av m;clear m n;have r:Hid (ap h h.drew):=(aG _ _).drew;have z:=av (HB.trans (r.mono HB.size));have k:=av (fj r s);have i:Hid (∀W:ah,W.heap[q]?=some (.cells #[ae c,ae d,af f,ag xa g xc] 54)->ai W q 0 (ae c)/\ai W q 1 (ae d)/\ai W q 2 (af f)/\ai W q 3 (ag xa g xc)):=λW l=>⟨aj l 0,aj l 1,aj l 2,aj l 3⟩;obtain⟨F,G,H,I⟩:=i.out h s
 go_region_held3 (λW=>W.cell? ⟨q,0,none⟩=some (ae c)/\W.cell? ⟨q,1,none⟩=some (ae d)/\W.cell? ⟨q,2,none⟩=some (af f)/\W.cell? ⟨q,3,none⟩=some (ag xa g xc))
  (first|exact i _ k|exact i _ t) ((first
   | (go_at_call 183;refine(A _ z).mono ?_;rintro e y ⟨rfl,o⟩;have t:Hid (y.heap[q]?=some (.cells #[ae c,ae d,af f,ag xa g xc] 54)):=(o.2 q (by have:=E.out;omega) (aR.1 k).1).trans k)))
 obtain⟨d0,d1,d2,d3⟩:=i.out y t;have j:=av (B y o.1);clear F G H I A B i o t k z r HB s;by_cases u:v=0
 ·subst u;rw[if_pos rfl]at j;go_wp2_with fail;refine j.mono ?_;rintro e J ⟨rfl,p⟩;go_wp2_with fail;exact eF (v:=ax #[]) (by simp[results]) rfl ⟨rfl,p⟩
 ·rw[if_neg u]at j;have K:(v==0)=false:=by simpa using u
  go_wp2_with fail;refine j.mono ?_;rintro e J ⟨rfl,p⟩;go_wp2_with fail;exact eF (v:=ax #[]) (by simp[results]) rfl ⟨rfl,p⟩
section
variable {p:mN} {s:Sy} {d:gX} {w:ah}
def GV(d:gX)(w:ah){m:Nat}(x:Tm m):Prop:=In w.heap.size w m x/\cF (λq=>0<=d.ow q) m x
theorem GV.up{a m:Nat}{x:Tm m}{f:gX}{w':ah}(c:GV d w x)(k:ex a d f w w'):GV f w' x:=by
 have g:=fB k.1 (D:=λb=>0<=d.ow b/\b<w.heap.size) (λb e h=>by omega) ⟨c.1,In.offB c.2 c.1⟩;exact⟨g.1,g.2.mono λb e=>by rw[k.2.1 b e.2];exact e.1⟩
theorem bE.send(o:bE p s d w){a b:Int}(z:I2 (a,b)){m:Nat}(x:Tm (m+1))(t:GV d w x)(q:bK (m+1) x=0)(A:d.wn<999999)(D:d.es.length<100000):au 159 #[aE p.b,ae a,ae b,dF (m+1) x] w λe w'=>e=aw (ax #[])/\Hid (∃j,bE p (s.send a b (cn (m+1) x)) j w'/\ex 2 d j w w'):=by
 obtain⟨i,r⟩:∃i,i=oI 12 a b (cn (m+1) x) (s.ways (a,b)).length:=⟨_,rfl⟩;refine Fw p.b a b x.1.1 x.1.2.1 x.1.2.2 x.2.1.1 x.2.2.length x.2.1.2 i w (λc=>∃d1,bE p (if i=0 then {s with ways:=iy s.ways (a,b) (s.ways (a,b)++ [cn (m+1) x])}else s) d1 c/\ex 1 d d1 w c) (λc=>∃j,bE p (s.send a b (cn (m+1) x)) j c/\ex 2 d j w c) (λc g=>?_) λc g=>?_
 ·refine((o.later g).sendW z x ((t.1.below g).mono g.size) q A).mono ?_;rintro e w' ⟨rfl,k⟩;rw[<-r]at k ⊢;obtain⟨d1,n,h⟩:=k.out;refine⟨rfl,⟨d1,n,((ex.later d g).trans h).mono (aA _)⟩,λu C y=>h.1.block u y λE=>?_⟩;have:=(o.low u (by omega)).2;omega
 ·obtain⟨d1,n,h⟩:=g;have B:=t.up h;refine(n.tell (if i=0 then KJ else oX) a b x.1.1 x.1.2.1 x.1.2.2 x.2.1.1 x.2.2.length x.2.1.2 (cn (m+1) x) (lf B.1 q) (by have:=h.2.2.2.1;omega)).mono ?_;rintro e w' ⟨rfl,k⟩;obtain⟨d2,f,v⟩:=k.up n;refine⟨rfl,d2,?_,(h.trans v).mono (aA _)⟩;unfold Sy.send;rw[<-r];by_cases l:i=0
  ·rw[if_pos l]at f ⊢;rw[if_pos l]at f;exact f
  ·rw[if_neg l]at f ⊢;rw[if_neg l]at f;exact f
end
def gE(a c:Nat)(d b:gX)(w w':ah):Prop:=bH (λq=>d.ow q≠0) w w'/\(∀q,q<w.heap.size->b.ow q=d.ow q)/\b.k<=d.k+c/\b.es.length<=d.es.length+a/\b.wn<=d.wn+a/\b.bn<=d.bn+a
theorem gE.trans{a b c e:Nat}{d d1 d2:gX}{w w1 w2:ah}(j:gE a c d d1 w w1)(k:gE b e d1 d2 w1 w2):gE (a+b) (c+e) d d2 w w2:=by
 obtain⟨h,i,n,o,p,q⟩:=j;obtain⟨l,m,s,t,u,v⟩:=k;have r:=h.size;exact⟨h.trans l λf g e=>by rw[i f g]at e;exact e,λf g=>(m f (by omega)).trans (i f g),by omega,by omega,by omega,by omega⟩
theorem gE.mono{c e:Nat}(f:gE a c d d1 w w1)(m:a<=b)(n:c<=e):gE b e d d1 w w1:=by
 obtain⟨g,h,i,j,k,l⟩:=f;exact⟨g,h,by omega,by omega,by omega,by omega⟩
theorem ex.un(b:ex a d d1 w w1):gE a 0 d d1 w w1:=⟨b.1.mono λq _ e=>by omega,b.2.1,by have:=b.2.2.1;omega,b.2.2.2⟩
theorem Ca{c:Type}(k j:Int)(v:c):(l:List (Int×c))->(l.map λp=>if p.1=k then (k,v)else p).find? (λp=>p.1==j)=(l.find? λp=>p.1==j).map λp=>if p.1=k then (k,v)else p
 | []=>rfl
 | a::l=>by
  rw[bA,ko,ko,Ca k j v l];by_cases b:a.1=k
  ·rw[if_pos b];simp only[b];cases k==j<;>simp[b]
  ·rw[if_neg b];cases a.1==j<;>simp[b]
theorem P1.lie2{f:Nat}{name:aq}{room:Int}{cs:Tc}{a:List Tc}{M:aW}(c:P1 e f name room cs a k M w):∀b,M b->e<=b/\b<w.heap.size:=by
 obtain⟨h,q,o,t,p,r,s,m,n,g,i,j,l,d⟩:=c;exact d
section
variable {p:mN} {s:Sy} {d:gX} {w:ah}
theorem Gk(s:Sy)(k j:Int)(v:aq×Tc×List Tc):(s.put k v).get j=if j=k then (s.get k).map λ_=>v else s.get j:=by
 unfold Sy.put Sy.get;simp only;rw[Ca];by_cases a:j=k
 ·subst a;rw[if_pos rfl];cases e:s.ps.find? (λp=>p.1==j)with
  | none=>rfl
  | some b=>
   have:=List.find?_some e;simp only[cT]at this;simp[this]
 ·rw[if_neg a];cases e:s.ps.find? (λp=>p.1==j)with
  | none=>rfl
  | some b=>
   have:=List.find?_some e;simp only[cT]at this;simp[this,a]
theorem wi(s:Sy)(k:Int)(v:aq×Tc×List Tc):(s.put k v).ps.map (·.1)=s.ps.map (·.1):=by
 unfold Sy.put;simp only[jz];refine lE λb _=>?_;by_cases a:b.1=k
 ·simp[a]
 ·simp[a]
theorem bE.turnP(a:bE p s d w){k:Int}{b:Nat}(y:dp d.l k=some b){nm:aq}{cs m:Tc}{F i:List Tc}(S:s.get k=some (nm,cs,F)){w':ah}(e:bH (λq=>d.ow q=k) w w'){N:aW}{j:Nat}(Q:∀q,N q->d.ow q=k\/w.heap.size<=q)(T:d.k<=j)(x:P1 p.lo b nm p.room m i (j+201) N w')(P:i.length<=20):bE p (s.put k (nm,m,i)) {d with ow:=GB d w w' k,k:=j} w'/\gE 0 (j-d.k) d {d with ow:=GB d w w' k,k:=j} w w':=by
 have Z:=(a.key y).1;have v:=ve (t:=k) a e.size a.lo.1;have f:=vf (w':=w') (t:=k) a;have R:∀q,N q->p.lo<=q/\q<w'.heap.size:=P1.lie2 x;have t:∀{t:Int},t≠k->∀q,d.ow q=t->¬d.ow q=k:=λW q h g=>W (h.symm.trans g);have r:w'.heap[p.b]?=some (.cells (eA p s d) 139):=(e.block p.b a.lo.2 (t (by omega) p.b a.own)).trans a.box;obtain⟨y1,y2,Y⟩:=a.wyK e (t (by omega)) f rfl (rC r).1;obtain⟨G,H⟩:=a.evK e (t (by omega)) f;obtain⟨I,J,K,L,M,O⟩:=a.keys;have U:∀q∈(s.put k (nm,m,i)).ps,1<=q.1/\q.1<=s.last:=λq z=>by
  have:q.1∈(s.put k (nm,m,i)).ps.map (·.1):=cd.2 ⟨q,z,rfl⟩;rw[wi]at this;obtain⟨X,V,h⟩:=cd.1 this;rw[<-h];exact K X V
 refine⟨⟨v,r,(f p.b (by rw[a.own];decide)).trans a.own,⟨a.pgK e (t (by omega)) f,a.pg.2⟩,a.pmK e (λq h _=>t (by omega) q h) f,⟨by rw[wi];exact I,by rw[wi];exact J,U,L,M,by unfold Sy.put;simpa using O⟩,λn c q=>?_,⟨y1,y2,a.wy.2.2.1,a.wy.2.2.2.1,Y⟩,a.bdK e (t (by omega)) f rfl (rC r).2,G,a.evt.1,H⟩,e.mono λq _ h=>by rw[h];omega,λq z=>if_neg (by omega),by show j<=_;omega,aA _,aA _,aA _⟩;by_cases u:n=k
 ·subst u;have q:dp d.l n=some c:=q;rw[y]at q;obtain rfl:=aI q;refine⟨nm,m,i,by rw[Gk,if_pos rfl,S];rfl,x.mono (λq g=>?_) (aA _) λq g=>v q (by have g:GB d w w' n q=n:=g;rw[g];omega),P⟩;rcases Q q g with o|o
  ·exact(f q (by rw[o];omega)).trans o
  ·exact if_pos ⟨o,(R q g).2⟩
 ·obtain⟨A,B,C,D,E⟩:=a.psK e T (t u) f v q;exact⟨A,B,C,by rw[Gk,if_neg u];exact D,E⟩
end
theorem Jh(i L:Nat)(G:dc)(a b d f:Int)(g:aq)(xa:ay)(h xc:Nat)(v:Int)(w:ah)(o R:bF)(V:i<w.heap.size)(M:Hid (ai w i 3 (.map G)))(H:Hid (∀W,ap w W->(Instr.lookup 131 (.map G) (ae b) false).run Tryz.prog W=.ok (aE L) W))(I:Hid (∀W,ap w W->au 162 #[aE L,.agg #[ae d,ae f,af g,ag xa h xc]] W λe w'=>e=aw (ae v)/\Hid (o w'/\∀q,w.heap.size<=q->q<W.heap.size->w'.heap[q]?=W.heap[q]?)))(n:Hid (v=2->∀W,o W->au 124 #[aE i,af ⟨#[108,111,115,116]⟩,ae a,ae b,.agg #[ae d,ae f,af g,ag xa h xc]] W λe w'=>e=aw (ax #[])/\Hid (R w')))(l:Hid (v=6->∀W,o W->au 127 #[aE i,ae b,ae 3] W λe w'=>e=aw (ax #[])/\Hid (R w')))(m:Hid (v≠2->v≠6->∀W,o W->R W)):au 131 #[aE i,ae a,ae b,.agg #[ae d,ae f,af g,ag xa h xc]] w λe w'=>e=aw (ax #[])/\Hid (R w'):=by
 go_enter func131,ntmps131;go_upto_region 1 with fail;generalize K:w.alloc _=c;have t:Hid (ap w c/\c.heap[w.heap.size]?=some (.cells #[ae d,ae f,af g,ag xa h xc] 54)):=by
  rw[<-K];exact⟨aV _ _,aK _ _⟩
 clear K;obtain⟨q,s⟩:∃q,q=w.heap.size:=⟨_,rfl⟩;rw[<-s];have C:Hid (c.heap[q]?=some (.cells #[ae d,ae f,af g,ag xa h xc] 54)):=by rw[s];exact t.2
 have HB:=av t.1;have N:=av s;clear s t;have A:Hid (ap c c.drew):=(aG _ _).drew;have y:=av (HB.trans (A.mono HB.size));have D:=av (fj A C);have z:Hid (∀W:ah,W.heap[q]?=some (.cells #[ae d,ae f,af g,ag xa h xc] 54)->ai W q 0 (ae d)/\ai W q 1 (ae f)/\ai W q 2 (af g)/\ai W q 3 (ag xa h xc)):=λW r=>⟨aj r 0,aj r 1,aj r 2,aj r 3⟩;obtain⟨O,P,Q,S⟩:=z.out c C;have T:ai c i 3 (.map G):=(HB.cell (p:=⟨i,3,none⟩) V).trans M;have U:=H c.drew y
 go_region_with ((first
     | (go_at_call 162;refine(I _ y).mono ?_;rintro e k ⟨rfl,u⟩;have J:Hid (k.heap[q]?=some (.cells #[ae d,ae f,af g,ag xa h xc] 54)):=(u.2 q (by have:=N.out;omega) (aR.1 D).1).trans D)))
 all_goals
  obtain⟨d0,d1,d2,d3⟩:=z.out k J;have B:=av u.1;clear O P Q S T U H I z u J D y A HB C;by_cases E:v=2
  ·subst E;have j:=av (n (by simp) k B);clear n l m;go_wp2_with fail;refine j.mono ?_;rintro e X ⟨rfl,x⟩;go_wp2_with fail;exact eF (v:=ax #[]) (by simp[results]) rfl ⟨rfl,x⟩
  ·have Y:(v==2)=false:=by simpa using E
   by_cases F:v=6
   ·subst F;have j:=av (l (by simp) k B);clear n l m;go_wp2_with fail;refine j.mono ?_;rintro e X ⟨rfl,x⟩;go_wp2_with fail;exact eF (v:=ax #[]) (by simp[results]) rfl ⟨rfl,x⟩
   ·have Z:(v==6)=false:=by simpa using F
    have j:=av (m E F k B);clear n l m;go_wp2_with fail;exact eF (v:=ax #[]) (by simp[results]) rfl ⟨rfl,j⟩
end Go.Proofs.YthjclakhibnamaaGreatDoor
