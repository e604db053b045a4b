/- Proved here: plain facts and contracts. No condition but what each names. -/
import Derived.Test.YthjclakhibnamaaGreatDoorD09
import Derived.Deep.DeepAppendWide
import Derived.MapKept
namespace Go.Proofs.YthjclakhibnamaaGreatDoor
open Go.RowKit Go.Proofs.Tryz
open Go.MapKept
set_option maxHeartbeats 4000000
set_option maxRecDepth 100000
theorem kZ(l:List UInt8):(⟨l.toArray⟩:aq).toList=l:=by rw[cC]
theorem oc(wd:aq)(l:List UInt8):ui wd ⟨l.toArray⟩=(wd.toList==l):=by
 show (wd.toList==(⟨l.toArray⟩:aq).toList)=(wd.toList==l);rw[show (⟨l.toArray⟩:aq).toList=l from kZ l]
variable{c:BL}{l:List (Int×Nat)}{e B M N a b base g i k m n po:Nat}{s:Sy}{h j:Type}{S:aU}{w w' w1:ah}{wd:aq}{o r u x v:ax}{t:da}{p:List h}{q:List (Tm e)}{f:h->j->Bool}
theorem eP{a b:Obj}(c:Below ((w.alloc a).alloc b).heap.size ((w.alloc a).alloc b) w1):w1.heap[w.heap.size]?=some a/\w1.heap[w.heap.size+1]?=some b/\ap w w1/\w.heap.size+2<=w1.heap.size:=by
 have f:=c.size;have e:((w.alloc a).alloc b).heap.size=w.heap.size+2:=by simp
 have d:ap w ((w.alloc a).alloc b):=by go_grown
 exact⟨(c.block _ (by omega)).trans (kY w a b).1,(c.block _ (by omega)).trans (kY w a b).2,d.trans (c.mono d.size),by omega⟩
theorem jX(M _n:Nat)(k i:Int)(s:aq)(xa:aw)(j xc:Nat)(wd:aq)(a:aw)(len c:Nat)(w:ah)(o:Option (Ac (M+1)))(p:Hid (o=none)){t1 t2 t3 t4:Bool}(r:(wd.toList==[115,101,110,100])=t1)(t:(wd.toList==[115,112,97,119,110])=t2)(u:(wd.toList==[108,105,110,107])=t3)(x:(wd.toList==[115,116,111,112])=t4)(n:(t1=false/\t2=false/\t3=false/\t4=false)\/(t1=true/\t2=false/\t3=false/\t4=false/\((len:Int)==2)=false)\/(t1=false/\t2=true/\t3=false/\t4=false/\((len:Int)==3)=false)\/(t1=false/\t2=false/\t3=true/\t4=false/\((len:Int)==1)=false)\/(t1=false/\t2=false/\t3=false/\t4=true/\((len:Int)==0)=false))(d:Hid (∀w1,ap w w1->au 117 #[.agg #[ae k,ae i,ag s,af xa j xc]] w1 λe w'=>e=.returned (.tuple #[ag wd,af a len c])/\ap w1 w')):au 172 #[.agg #[ae k,ae i,ag s,af xa j xc]] w (oC M o w):=by
 rcases n with⟨rfl,rfl,rfl,rfl⟩|⟨rfl,rfl,rfl,rfl,b⟩|⟨rfl,rfl,rfl,rfl,b⟩|⟨rfl,rfl,rfl,rfl,b⟩|⟨rfl,rfl,rfl,rfl,b⟩
 all_goals
  go_enter func172,ntmps172;go_wp2_with fail;refine(d _ (by go_grown)).mono ?_;rintro e w1 ⟨rfl,f⟩;obtain⟨q,h,g,z⟩:=eP f;have l:=av g;have m:=av h;clear f q h g d;obtain⟨⟨d0,d1,d2,d3,d4,d5,d6,d7,d8,d9,d10⟩,f0,y⟩:=mQ m;go_wp2_with fail;exact aB (v:=.tuple #[.agg #[ae 0,ae 0,ae 0,ag .empty,af none 0 0,ae 0,ae 0,ag .empty,af none 0 0,ag .empty,ae 0],.bool false]) (by simp[results,results172,go_sem,d0,d1,d2,d3,d4,d5,d6,d7,d8,d9,d10];rfl) rfl (rj p ((kT _ _ _ _ _ _ _ _ _ _ _ _ _).below l (by omega)))
theorem AN(M _n:Nat)(k i:Int)(s:aq)(xa:aw)(j xc:Nat)(wd:aq)(a:aw)(len c:Nat)(w:ah)(o:Option (Ac (M+1)))(n:Hid (o=some (4,(zT M,zT M),(.empty,0))))(q:(wd.toList==[115,101,110,100])=false)(r:(wd.toList==[115,112,97,119,110])=false)(t:(wd.toList==[108,105,110,107])=false)(u:(wd.toList==[115,116,111,112])=true)(x:((len:Int)==0)=true)(b:Hid (∀w1,ap w w1->au 117 #[.agg #[ae k,ae i,ag s,af xa j xc]] w1 λe w'=>e=.returned (.tuple #[ag wd,af a len c])/\ap w1 w')):au 172 #[.agg #[ae k,ae i,ag s,af xa j xc]] w (oC M o w):=by
 go_enter func172,ntmps172;go_wp2_with fail;refine(b _ (by go_grown)).mono ?_;rintro e w1 ⟨rfl,d⟩;obtain⟨p,h,f,z⟩:=eP d;have l:=av f;have m:=av h;clear d p h f b;obtain⟨⟨d0,d1,d2,d3,d4,d5,d6,d7,d8,d9,d10⟩,f0,y⟩:=mQ m;go_wp2_with fail;refine aB (v:=.tuple #[.agg #[ae 4,ae 0,ae 0,ag ⟨#[]⟩,af none 0 0,ae 0,ae 0,ag ⟨#[]⟩,af none 0 0,ag ⟨#[]⟩,ae 0],.bool true]) (by simp[results,results172,go_sem,d0,d1,d2,d3,d4,d5,d6,d7,d8,d9,d10]) rfl ?_;exact oh (g:=w.heap.size+1) (w2:=w1) (w:=w) (4,(zT M,zT M),(.empty,0)) _ n (kT _ _ _ _ _ _ _ _ _ _ _ _ _) l (by omega) ⟨by simp[dm],mf _ _ _,mf _ _ _,aK _,by simp[dm]⟩ ⟨ak rfl,ak rfl⟩ ⟨rfl,my (mf _ 0 w),my (mf _ 0 w),rfl⟩
theorem AL(M n:Nat)(k z:Int)(s:aq)(xa:aw)(A xc:Nat)(wd:aq)(d po c:Nat)(w:ah)(y:Tm (n+1))(H:n+1<=M+1)(o:Option (Ac (M+1)))(I:Hid (o=some (3,(bi (M+1) (n+1) y,zT M),(.empty,0))))(K:(wd.toList==[115,101,110,100])=false)(L:(wd.toList==[115,112,97,119,110])=false)(N:(wd.toList==[108,105,110,107])=true)(_b4:(wd.toList==[115,116,111,112])=false)(h:d<w.heap.size)(B:ai w d po (ae y.1.1))(C:ai w d (po+1) (ae y.1.2.1))(D:ai w d (po+2) (ag y.1.2.2))(E:ai w d (po+3) (af y.2.1.1 y.2.2.length y.2.1.2))(l:Hid (∀w1,ap w w1->au 117 #[.agg #[ae k,ae z,ag s,af xa A xc]] w1 λe w'=>e=.returned (.tuple #[ag wd,af (some ⟨d,po,none⟩) 1 c])/\ap w1 w'))(j:Hid (∀w1,ap w w1->au 91 #[.agg (bf y)] w1 λe w'=>∃a:Tm (n+1),e=.returned (.agg (bf a))/\Hid (ap w1 w'/\In w'.heap.size w' (n+1) a/\cE (λq=>w1.heap.size<=q) (n+1) a/\aH (n+1) a (n+1) y=true))):au 172 #[.agg #[ae k,ae z,ag s,af xa A xc]] w (oC M o w):=by
 go_enter func172,ntmps172;go_wp2_with fail;refine(l _ (by go_grown)).mono ?_;rintro e w1 ⟨rfl,r⟩;obtain⟨J,u,t,R⟩:=eP r;have b:=av t;have m:=av u;clear r J u t l;replace B:=(az b _ _ h).trans B;replace C:=(az b _ _ h).trans C;replace D:=(az b _ _ h).trans D;replace E:=(az b _ _ h).trans E;have O:d<w1.heap.size:=by omega
 go_wp2_with fail;refine(j _ b).mono ?_;rintro e w2 ⟨a,rfl,f⟩;have F:Hid (ap w w2):=b.trans (f.1.mono b.size);have p:=av ((f.1.block (w.heap.size+1) (by omega)).trans m);obtain⟨⟨d0,d1,d2,d3,d4,d5,d6,d7,d8,d9,d10⟩,f0,Q⟩:=mQ p;have i:=jh (M:=M) H f.2.1 (f.2.2.1.mono λq (P:w1.heap.size<=q)=>(show w.heap.size+1<q by omega)) f.2.2.2;clear j m p;go_wp2_with fail;refine aB (v:=.tuple #[.agg #[ae 3,ae a.1.1,ae a.1.2.1,ag a.1.2.2,af a.2.1.1 a.2.2.length a.2.1.2,ae 0,ae 0,ag ⟨#[]⟩,af none 0 0,ag ⟨#[]⟩,ae 0],.bool true]) (by simp[results,results172,go_sem,d0,d1,d2,d3,d4,d5,d6,d7,d8,d9,d10]) rfl ?_;have e:gX (M+1) (3,(bi (M+1) (n+1) a,zT M),(.empty,0))=[ae 3,ae a.1.1,ae a.1.2.1,ag a.1.2.2,af a.2.1.1 a.2.2.length a.2.1.2,ae 0,ae 0,ag ⟨#[]⟩,af none 0 0,ag ⟨#[]⟩,ae 0]:=by
  show ae 3::(kX (M+1) (bi (M+1) (n+1) a)++kX (M+1) (zT M)++ [ag .empty,ae 0])=_;rw[gN];rfl
 have x:=λ(w':ah)(G:bV (w.heap.size+1) w2 w')=>oh (g:=w.heap.size+1) (w2:=w2) (w:=w) (3,(bi (M+1) (n+1) a,zT M),(.empty,0)) _ I G F (by omega) ⟨by simp[dm],i.1,mf _ _ _,aK _,by simp[dm]⟩ ⟨i.2.1,ak rfl⟩ ⟨rfl,i.2.2,my (mf _ 0 w),rfl⟩;rw[e]at x;exact x _ (kT _ _ _ _ _ _ _ _ _ _ _ _ _)
theorem NU{y x:Nd}(c:e<g)(b:bV g w w')(k:(ai w e po (ae y.1.1)/\ai w e (po+1) (ae y.1.2.1)/\ai w e (po+2) (ag y.1.2.2)/\ai w e (po+3) (af y.2.1 y.2.2.1 y.2.2.2))/\(ai w e (po+4) (ae x.1.1)/\ai w e (po+5) (ae x.1.2.1)/\ai w e (po+6) (ag x.1.2.2)/\ai w e (po+7) (af x.2.1 x.2.2.1 x.2.2.2))):(ai w' e po (ae y.1.1)/\ai w' e (po+1) (ae y.1.2.1)/\ai w' e (po+2) (ag y.1.2.2)/\ai w' e (po+3) (af y.2.1 y.2.2.1 y.2.2.2))/\(ai w' e (po+4) (ae x.1.1)/\ai w' e (po+5) (ae x.1.2.1)/\ai w' e (po+6) (ag x.1.2.2)/\ai w' e (po+7) (af x.2.1 x.2.2.1 x.2.2.2)):=by
 have a:=λo=>gw b (show e≠g by omega) o;exact⟨⟨(a _).trans k.1.1,(a _).trans k.1.2.1,(a _).trans k.1.2.2.1,(a _).trans k.1.2.2.2⟩,(a _).trans k.2.1,(a _).trans k.2.2.1,(a _).trans k.2.2.2.1,(a _).trans k.2.2.2.2⟩
theorem AM(M n:Nat)(k Q:Int)(s:aq)(xa:aw)(R xc:Nat)(wd:aq)(a po c:Nat)(w:ah)(y x:Tm (n+1))(N:n+1<=M+1)(o:Option (Ac (M+1)))(Z:Hid (o=some (1,(bi (M+1) (n+1) y,bi (M+1) (n+1) x),(.empty,0))))(ak:(wd.toList==[115,101,110,100])=true)(_b2:(wd.toList==[115,112,97,119,110])=false)(_b3:(wd.toList==[108,105,110,107])=false)(_b4:(wd.toList==[115,116,111,112])=false)(h:a<w.heap.size)(D:ai w a po (ae y.1.1))(E:ai w a (po+1) (ae y.1.2.1))(F:ai w a (po+2) (ag y.1.2.2))(G:ai w a (po+3) (af y.2.1.1 y.2.2.length y.2.1.2))(z:ai w a (po+4) (ae x.1.1))(A:ai w a (po+5) (ae x.1.2.1))(B:ai w a (po+6) (ag x.1.2.2))(C:ai w a (po+7) (af x.2.1.1 x.2.2.length x.2.1.2))(J:Hid (∀w1,ap w w1->au 117 #[.agg #[ae k,ae Q,ag s,af xa R xc]] w1 λe w'=>e=.returned (.tuple #[ag wd,af (some ⟨a,po,none⟩) 2 c])/\ap w1 w'))(H:Hid (∀w1,ap w w1->au 91 #[.agg (bf y)] w1 λe w'=>∃b:Tm (n+1),e=.returned (.agg (bf b))/\Hid (ap w1 w'/\In w'.heap.size w' (n+1) b/\cE (λq=>w1.heap.size<=q) (n+1) b/\aH (n+1) b (n+1) y=true)))(I:Hid (∀w1,ap w w1->au 91 #[.agg (bf x)] w1 λe w'=>∃b:Tm (n+1),e=.returned (.agg (bf b))/\Hid (ap w1 w'/\In w'.heap.size w' (n+1) b/\cE (λq=>w1.heap.size<=q) (n+1) b/\aH (n+1) b (n+1) x=true))):au 172 #[.agg #[ae k,ae Q,ag s,af xa R xc]] w (oC M o w):=by
 go_enter func172,ntmps172;go_wp2_with fail;refine(J _ (by go_grown)).mono ?_;rintro e w1 ⟨rfl,K⟩;obtain⟨ad,O,L,an⟩:=eP K;have d:=av L;have U:=av O;clear K ad O L J;replace D:=(az d _ _ h).trans D;replace E:=(az d _ _ h).trans E;replace F:=(az d _ _ h).trans F;replace G:=(az d _ _ h).trans G;replace z:=(az d _ _ h).trans z;replace A:=(az d _ _ h).trans A;replace B:=(az d _ _ h).trans B;replace C:=(az d _ _ h).trans C;have aa:a<w1.heap.size:=by omega
 have m:Hid (∀w',ap w1 w'->(ai w' a po (ae y.1.1)/\ai w' a (po+1) (ae y.1.2.1)/\ai w' a (po+2) (ag y.1.2.2)/\ai w' a (po+3) (af y.2.1.1 y.2.2.length y.2.1.2))/\(ai w' a (po+4) (ae x.1.1)/\ai w' a (po+5) (ae x.1.2.1)/\ai w' a (po+6) (ag x.1.2.2)/\ai w' a (po+7) (af x.2.1.1 x.2.2.length x.2.1.2))):=λw' W=>by
  have f:=λo=>az W a o aa;exact⟨⟨(f _).trans D,(f _).trans E,(f _).trans F,(f _).trans G⟩,(f _).trans z,(f _).trans A,(f _).trans B,(f _).trans C⟩
 go_wp2_with fail
 go_region_held3 (λw'=>(w'.cell? ⟨a,po,none⟩=some (ae y.1.1)/\w'.cell? ⟨a,po+1,none⟩=some (ae y.1.2.1)/\w'.cell? ⟨a,po+2,none⟩=some (ag y.1.2.2)/\w'.cell? ⟨a,po+3,none⟩=some (af y.2.1.1 y.2.2.length y.2.1.2))/\(w'.cell? ⟨a,po+4,none⟩=some (ae x.1.1)/\w'.cell? ⟨a,po+5,none⟩=some (ae x.1.2.1)/\w'.cell? ⟨a,po+6,none⟩=some (ag x.1.2.2)/\w'.cell? ⟨a,po+7,none⟩=some (af x.2.1.1 x.2.2.length x.2.1.2))) (first|with_reducible assumption|with_reducible exact m.out _ l.out|with_reducible exact m.out _ j.out|with_reducible exact T.out _ (kT _ _ _ _ _ _ _ _ _ _ _ _ _)|exact m.out _ (aE _ _).drew)
  ((first
   | (go_at_call 91;refine(H _ d.drew).mono ?_;rintro e w2 ⟨b,rfl,p⟩;have j:=av (dc p.1);clear H)
   | (go_at_call 91;refine(I _ (d.trans (j.mono d.size))).mono ?_;rintro e r ⟨q,rfl,i⟩;have l:=av (j.trans (i.1.mono j.size));clear I;have V:=av ((l.block (w.heap.size+1) (by omega)).trans U);obtain⟨⟨d0,d1,d2,d3,d4,d5,d6,d7,d8,d9,d10⟩,f0,am⟩:=mQ V;have T:Hid (∀w',bV (w.heap.size+1) r w'->(ai w' a po (ae y.1.1)/\ai w' a (po+1) (ae y.1.2.1)/\ai w' a (po+2) (ag y.1.2.2)/\ai w' a (po+3) (af y.2.1.1 y.2.2.length y.2.1.2))/\(ai w' a (po+4) (ae x.1.1)/\ai w' a (po+5) (ae x.1.2.1)/\ai w' a (po+6) (ag x.1.2.2)/\ai w' a (po+7) (af x.2.1.1 x.2.2.length x.2.1.2))):=(λaj Y=>NU (y:=bP n y) (x:=bP n x) (show a<w.heap.size+1 by omega) Y (m _ l)))))
 go_wp2_with fail;have S:Hid (ap w r):=d.trans (l.mono d.size);have al:w1.heap.size<=w2.heap.size:=j.size;have t:=jh (M:=M) N ((p.2.1.below i.1).mono i.1.size) (p.2.2.1.mono λq (ab:w1.heap.size<=q)=>(show w.heap.size+1<q by omega)) p.2.2.2;have u:=jh (M:=M) N i.2.1 (i.2.2.1.mono λq (ab:w2.heap.size<=q)=>(show w.heap.size+1<q by omega)) i.2.2.2;refine aB (v:=.tuple #[.agg #[ae 1,ae b.1.1,ae b.1.2.1,ag b.1.2.2,af b.2.1.1 b.2.2.length b.2.1.2,ae q.1.1,ae q.1.2.1,ag q.1.2.2,af q.2.1.1 q.2.2.length q.2.1.2,ag ⟨#[]⟩,ae 0],.bool true]) (by simp[results,results172,go_sem,d0,d1,d2,d3,d4,d5,d6,d7,d8,d9,d10]) rfl ?_;have e:gX (M+1) (1,(bi (M+1) (n+1) b,bi (M+1) (n+1) q),(.empty,0))=[ae 1,ae b.1.1,ae b.1.2.1,ag b.1.2.2,af b.2.1.1 b.2.2.length b.2.1.2,ae q.1.1,ae q.1.2.1,ag q.1.2.2,af q.2.1.1 q.2.2.length q.2.1.2,ag ⟨#[]⟩,ae 0]:=by
  show ae 1::(kX (M+1) (bi (M+1) (n+1) b)++kX (M+1) (bi (M+1) (n+1) q)++ [ag .empty,ae 0])=_;rw[gN,gN];rfl
 have P:=λ(w':ah)(X:bV (w.heap.size+1) r w')=>oh (g:=w.heap.size+1) (w2:=r) (w:=w) (1,(bi (M+1) (n+1) b,bi (M+1) (n+1) q),(.empty,0)) _ Z X S (by omega) ⟨by simp[dm],t.1,u.1,aK _,by simp[dm]⟩ ⟨t.2.1,u.2.1⟩ ⟨rfl,t.2.2,u.2.2,rfl⟩;rw[e]at P;exact P _ (kT _ _ _ _ _ _ _ _ _ _ _ _ _)
theorem NV{y x t:Tm (n+1)}(c:e<g)(b:bV g w w')(k:(ai w e po (ae y.1.1)/\ai w e (po+1) (ae y.1.2.1)/\ai w e (po+2) (ag y.1.2.2)/\ai w e (po+3) (af y.2.1.1 y.2.2.length y.2.1.2))/\(ai w e (po+4) (ae x.1.1)/\ai w e (po+5) (ae x.1.2.1)/\ai w e (po+6) (ag x.1.2.2)/\ai w e (po+7) (af x.2.1.1 x.2.2.length x.2.1.2))/\(ai w e (po+8) (ae t.1.1)/\ai w e (po+9) (ae t.1.2.1)/\ai w e (po+10) (ag t.1.2.2)/\ai w e (po+11) (af t.2.1.1 t.2.2.length t.2.1.2))):(ai w' e po (ae y.1.1)/\ai w' e (po+1) (ae y.1.2.1)/\ai w' e (po+2) (ag y.1.2.2)/\ai w' e (po+3) (af y.2.1.1 y.2.2.length y.2.1.2))/\(ai w' e (po+4) (ae x.1.1)/\ai w' e (po+5) (ae x.1.2.1)/\ai w' e (po+6) (ag x.1.2.2)/\ai w' e (po+7) (af x.2.1.1 x.2.2.length x.2.1.2))/\(ai w' e (po+8) (ae t.1.1)/\ai w' e (po+9) (ae t.1.2.1)/\ai w' e (po+10) (ag t.1.2.2)/\ai w' e (po+11) (af t.2.1.1 t.2.2.length t.2.1.2)):=by
 have a:=λo=>gw b (show e≠g by omega) o;exact⟨⟨(a _).trans k.1.1,(a _).trans k.1.2.1,(a _).trans k.1.2.2.1,(a _).trans k.1.2.2.2⟩,⟨(a _).trans k.2.1.1,(a _).trans k.2.1.2.1,(a _).trans k.2.1.2.2.1,(a _).trans k.2.1.2.2.2⟩,(a _).trans k.2.2.1,(a _).trans k.2.2.2.1,(a _).trans k.2.2.2.2.1,(a _).trans k.2.2.2.2.2⟩
theorem xF(M n:Nat)(k R:Int)(s:aq)(xa:aw)(S xc:Nat)(wd:aq)(d po c:Nat)(w:ah)(y x t:Tm (n+1))(o:Option (Ac (M+1)))(aj:(wd.toList==[115,101,110,100])=false)(ak:(wd.toList==[115,112,97,119,110])=true)(_b3:(wd.toList==[108,105,110,107])=false)(_b4:(wd.toList==[115,116,111,112])=false)(h:d<w.heap.size)(E:ai w d po (ae y.1.1))(F:ai w d (po+1) (ae y.1.2.1))(G:ai w d (po+2) (ag y.1.2.2))(H:ai w d (po+3) (af y.2.1.1 y.2.2.length y.2.1.2))(A:ai w d (po+4) (ae x.1.1))(B:ai w d (po+5) (ae x.1.2.1))(C:ai w d (po+6) (ag x.1.2.2))(D:ai w d (po+7) (af x.2.1.1 x.2.2.length x.2.1.2))(p:ai w d (po+8) (ae t.1.1))(q:ai w d (po+9) (ae t.1.2.1))(r:ai w d (po+10) (ag t.1.2.2))(u:ai w d (po+11) (af t.2.1.1 t.2.2.length t.2.1.2))(J:Hid (∀w1,ap w w1->au 117 #[.agg #[ae k,ae R,ag s,af xa S xc]] w1 λe w'=>e=.returned (.tuple #[ag wd,af (some ⟨d,po,none⟩) 3 c])/\ap w1 w'))(I:Hid (∀w1,ap w w1->au 198 #[.agg (bf y),.agg (bf x),.agg (bf t)] w1 (oC M o w1))):au 172 #[.agg #[ae k,ae R,ag s,af xa S xc]] w (oC M o w):=by
 go_enter func172,ntmps172;go_wp2_with fail;refine(J _ (by go_grown)).mono ?_;rintro e w1 ⟨rfl,L⟩;obtain⟨ab,Q,N,an⟩:=eP L;have f:=av N;have V:=av Q;clear L ab Q N J;replace E:=(az f _ _ h).trans E;replace F:=(az f _ _ h).trans F;replace G:=(az f _ _ h).trans G;replace H:=(az f _ _ h).trans H;replace A:=(az f _ _ h).trans A;replace B:=(az f _ _ h).trans B;replace C:=(az f _ _ h).trans C;replace D:=(az f _ _ h).trans D;replace p:=(az f _ _ h).trans p;replace q:=(az f _ _ h).trans q;replace r:=(az f _ _ h).trans r;replace u:=(az f _ _ h).trans u;have aa:d<w1.heap.size:=by omega
 have m:Hid (∀w',ap w1 w'->(ai w' d po (ae y.1.1)/\ai w' d (po+1) (ae y.1.2.1)/\ai w' d (po+2) (ag y.1.2.2)/\ai w' d (po+3) (af y.2.1.1 y.2.2.length y.2.1.2))/\(ai w' d (po+4) (ae x.1.1)/\ai w' d (po+5) (ae x.1.2.1)/\ai w' d (po+6) (ag x.1.2.2)/\ai w' d (po+7) (af x.2.1.1 x.2.2.length x.2.1.2))/\(ai w' d (po+8) (ae t.1.1)/\ai w' d (po+9) (ae t.1.2.1)/\ai w' d (po+10) (ag t.1.2.2)/\ai w' d (po+11) (af t.2.1.1 t.2.2.length t.2.1.2))):=λw' Y=>by
  have g:=λo=>az Y d o aa;exact⟨⟨(g _).trans E,(g _).trans F,(g _).trans G,(g _).trans H⟩,⟨(g _).trans A,(g _).trans B,(g _).trans C,(g _).trans D⟩,(g _).trans p,(g _).trans q,(g _).trans r,(g _).trans u⟩
 go_wp2_with fail
 go_region_held3 (λw'=>(w'.cell? ⟨d,po,none⟩=some (ae y.1.1)/\w'.cell? ⟨d,po+1,none⟩=some (ae y.1.2.1)/\w'.cell? ⟨d,po+2,none⟩=some (ag y.1.2.2)/\w'.cell? ⟨d,po+3,none⟩=some (af y.2.1.1 y.2.2.length y.2.1.2))/\(w'.cell? ⟨d,po+4,none⟩=some (ae x.1.1)/\w'.cell? ⟨d,po+5,none⟩=some (ae x.1.2.1)/\w'.cell? ⟨d,po+6,none⟩=some (ag x.1.2.2)/\w'.cell? ⟨d,po+7,none⟩=some (af x.2.1.1 x.2.2.length x.2.1.2))/\(w'.cell? ⟨d,po+8,none⟩=some (ae t.1.1)/\w'.cell? ⟨d,po+9,none⟩=some (ae t.1.2.1)/\w'.cell? ⟨d,po+10,none⟩=some (ag t.1.2.2)/\w'.cell? ⟨d,po+11,none⟩=some (af t.2.1.1 t.2.2.length t.2.1.2))) (first|with_reducible assumption|with_reducible exact m.out _ j.out|with_reducible exact U.out _ (kT _ _ _ _ _ _ _ _ _ _ _ _ _)|exact m.out _ (aE _ _).drew)
  ((go_at_call 198;refine(I _ f.drew).mono ?_;rintro e z ⟨a,b,rfl,i⟩;have K:Value.agg (gX (M+1) a).toArray=.agg #[ae a.1,ae a.2.1.1.1.1,ae a.2.1.1.1.2.1,ag a.2.1.1.1.2.2,af a.2.1.1.2.1.1 a.2.1.1.2.2.length a.2.1.1.2.1.2,ae a.2.1.2.1.1,ae a.2.1.2.1.2.1,ag a.2.1.2.1.2.2,af a.2.1.2.2.1.1 a.2.1.2.2.2.length a.2.1.2.2.1.2,ag a.2.2.1,ae a.2.2.2]:=rfl;rw[K];clear K;have j:=av (dc i.1);clear I;have W:=av ((j.block (w.heap.size+1) (by omega)).trans V);obtain⟨⟨d0,d1,d2,d3,d4,d5,d6,d7,d8,d9,d10⟩,f0,am⟩:=mQ W;have U:=av (λX (Z:bV (w.heap.size+1) z X)=>NV (y:=y) (x:=x) (t:=t) (show d<w.heap.size+1 by omega) Z (m _ j))))
 go_wp2_with fail;have T:Hid (ap w z):=f.trans (j.mono f.size);refine aB (v:=.tuple #[.agg #[ae a.1,ae a.2.1.1.1.1,ae a.2.1.1.1.2.1,ag a.2.1.1.1.2.2,af a.2.1.1.2.1.1 a.2.1.1.2.2.length a.2.1.1.2.1.2,ae a.2.1.2.1.1,ae a.2.1.2.1.2.1,ag a.2.1.2.1.2.2,af a.2.1.2.2.1.1 a.2.1.2.2.2.length a.2.1.2.2.1.2,ag a.2.2.1,ae a.2.2.2],.bool b]) (by simp[results,results172,go_sem,d0,d1,d2,d3,d4,d5,d6,d7,d8,d9,d10]) rfl ?_;have ad:∀w',bV (w.heap.size+1) z w'->oC M o w (.returned (.tuple #[.agg #[ae a.1,ae a.2.1.1.1.1,ae a.2.1.1.1.2.1,ag a.2.1.1.1.2.2,af a.2.1.1.2.1.1 a.2.1.1.2.2.length a.2.1.1.2.1.2,ae a.2.1.2.1.1,ae a.2.1.2.1.2.1,ag a.2.1.2.1.2.2,af a.2.1.2.2.1.1 a.2.1.2.2.2.length a.2.1.2.2.1.2,ag a.2.2.1,ae a.2.2.2],.bool b])) w':=λw' O=>⟨a,b,rfl,O.below T (by omega),i.2.1,O.stays (fU _) (P:=λl=>w1.heap.size<=l) (by omega) i.2.2.2.1 i.2.2.1,(fU _).1 _ _ _ (λl (al:w1.heap.size<=l)=>(show w.heap.size<=l by omega)) i.2.2.2.1,i.2.2.2.2⟩;exact ad _ (kT _ _ _ _ _ _ _ _ _ _ _ _ _)
theorem iE{q:List (Tm (n+1))}(a:fT B w (n+1) q (some ⟨e,po,none⟩)){y:Tm (n+1)}(d:q[i]?=some y):ee w e (po+i*4) (n+1) y/\In B w (n+1) y/\e<B:=by
 rcases a with a|⟨b,o,c,h,a⟩
 ·subst a;simp at d
 ·injection c with c;injection c with f g;subst f g;exact⟨(a i y d).1,(a i y d).2,h⟩
theorem sU{q:List (Tm 0)}{a:aw}(b:fT B w 0 q a){y:Tm 0}(c:q[i]?=some y):False:=by
 rcases b with b|⟨_,_,_,_,b⟩
 ·subst b;simp at c
 ·exact(b i y c).1
theorem sn{q:List (Tm n)}{a:aw}(c:fT B w n q a)(e:0<q.length):∃b o,a=some ⟨b,o,none⟩:=by
 rcases c with c|⟨b,o,d,_⟩
 ·subst c;simp at e
 ·exact⟨b,o,d⟩
theorem eN{x:Tm (n+1)}(b:aJ ⟨n+1,x⟩){y:Tm n}(a:y∈bX n x):aJ ⟨n,y⟩:=by
 unfold bX at a;split at a
 ·split at a
  ·split at a
   ·exact br n x y b (List.mem_of_mem_drop a)
   ·cases a
  ·cases a
 ·cases a
theorem sC(n:Nat)(x:Tm (n+1))(B:Nat)(w:ah)(D:In B w (n+1) x)(J:B<=w.heap.size):∃a c,fT B w n (bX n x) a/\(bX n x).length<=c/\c<=9223372036854775807/\∀w1,ap w w1->au 117 #[.agg (bf x)] w1 λe w'=>e=.returned (.tuple #[ag (fx n x),.slice a (bX n x).length c])/\ap w1 w':=by
 obtain⟨⟨k,h,g⟩,⟨a,c⟩,f⟩:=x;obtain⟨⟨_,_,_,s,y⟩,i⟩:=D;simp only at s y i ⊢;have C:c<=9223372036854775807:=by unfold maxLen at y;omega
 by_cases t:k=4
 ·subst t;rcases i with i|⟨b,o,rfl,A,i⟩
  ·subst i;exact⟨none,0,ak rfl,ay _,aK _,λw1 _=>CP h g a c w1⟩
  ·cases f with
   | nil=>exact⟨none,0,ak rfl,ay _,aK _,λw1 _=>CP h g _ c w1⟩
   | cons d f=>
    obtain⟨r,I⟩:=i 0 d rfl;cases n with
    | zero=>exact r.elim
    | succ n=>
    obtain⟨u,G,z,H⟩:=r;by_cases l:d.1.1=2
    ·have p:fx (n+1) ((4,h,g),(some ⟨b,o,none⟩,c),d::f)=d.1.2.2:=by simp[fx,cg,l,gK,bP]
     have q:bX (n+1) ((4,h,g),(some ⟨b,o,none⟩,c),d::f)=f:=by simp[bX,cg,l]
     rw[p,q];refine⟨if c=1 then some ⟨b,o,none⟩else some ⟨b,o+4,none⟩,c-1,?_,by simp at s;omega,by omega,λw1 m=>?_⟩
     ·by_cases r:c=1
      ·exact ak (bZ (by simp at s;omega))
      ·rw[if_neg r];refine am ⟨b,o+4,rfl,A,λv F E=>?_⟩;have:=i (v+1) F (by simpa using E);rw[show o+4+v*4=o+(v+1)*4 by omega];exact this
     ·have j:b<w.heap.size:=by omega
      have d:=IS h g b o (d::f).length c (by simp) s C d.1.2.2 w1 (aY j m.size) ((az m _ _ j).trans (by rw[l]at u;simpa using u)) ((az m _ _ j).trans (by simpa using z));exact d
    ·have p:fx (n+1) ((4,h,g),(some ⟨b,o,none⟩,c),d::f)=⟨#[]⟩:=by simp[fx,cg,l];rfl
     have q:bX (n+1) ((4,h,g),(some ⟨b,o,none⟩,c),d::f)=[]:=by simp[bX,cg,l]
     rw[p,q];have j:b<w.heap.size:=by omega
     exact⟨none,0,ak rfl,ay _,aK _,λw1 m=>EW h g b o (d::f).length c (by simp) d.1.1 (by simpa using l) w1 (aY j m.size) ((az m _ _ j).trans (by simpa using u))⟩
 ·have p:fx n ((k,h,g),(a,c),f)=⟨#[]⟩:=by simp[fx,t];rfl
  have q:bX n ((k,h,g),(a,c),f)=[]:=by simp[bX,t]
  rw[p,q];exact⟨none,0,ak rfl,ay _,aK _,λw1 _=>IT k h g a f.length c w1 (by simpa using t)⟩
theorem mX{y:Tm (n+1)}(f:In B w (n+1) y)(d:aJ ⟨n+1,y⟩)(c:B<=w.heap.size):∀w1,ap w w1->au 91 #[.agg (bf y)] w1 λe w'=>∃a:Tm (n+1),e=.returned (.agg (bf a))/\Hid (ap w1 w'/\In w'.heap.size w' (n+1) a/\cE (λq=>w1.heap.size<=q) (n+1) a/\aH (n+1) a (n+1) y=true):=
 λw1 b=>iB (n+1) y B w1 (f.below (b.mono c)) (aD c b.size) d
theorem pF{a:Bool}(b:¬a=true):a=false:=by cases a<;>simp_all
theorem Pe{l:Nat}(a:l=k):((l:Int)==(k:Int))=true:=by simp[a]
theorem ww{l:Nat}(a:¬l=k):((l:Int)==(k:Int))=false:=by simp;omega
theorem CZ(M n:Nat)(ad:n<=M+1)(x:Tm n)(B:Nat)(w:ah)(P:In B w n x)(X:aJ ⟨n,x⟩)(r:B<=w.heap.size):au 172 #[dE n x] w (oC M (tG M n x) w):=by
 cases n with
 | zero=>exact P.elim
 | succ n=>
 obtain⟨z,c,o,ab,aa,m⟩:=sC n x B w P r;show au 172 #[.agg (bf x)] w (oC M (ky M n (fx n x) (bX n x)) w);have G:∀j∈bX n x,aJ ⟨n,j⟩:=λj k=>eN X k;generalize fx n x=a at*;generalize bX n x=d at*;have p:ui a oK=(a.toList==[115,101,110,100]):=oc a [115,101,110,100];have q:ui a kB=(a.toList==[115,112,97,119,110]):=oc a [115,112,97,119,110];have u:ui a oJ=(a.toList==[108,105,110,107]):=oc a [108,105,110,107];have y:ui a oL=(a.toList==[115,116,111,112]):=oc a [115,116,111,112];have ne:∀(l L:List UInt8),(l==L)=false->(a.toList==l)=true->(a.toList==L)=false:=λl L A V=>by
  have Q:a.toList=l:=by simpa using V
  rw[Q];exact A
 have get:∀J,J<d.length->∃j,d[J]?=some j:=λJ W=>⟨d[J],aS W⟩;by_cases b:(a.toList==[115,101,110,100])=true
 ·have e:=ne _ [115,112,97,119,110] (by decide) b;have f:=ne _ [108,105,110,107] (by decide) b;have g:=ne _ [115,116,111,112] (by decide) b;by_cases h:d.length=2
  ·obtain⟨j,k⟩:=get 0 (by omega);obtain⟨s,v⟩:=get 1 (by omega);have i:ky M n a d=some (1,(bi (M+1) n j,bi (M+1) n s),(.empty,0)):=by
    unfold ky;rw[if_pos (by rw[p,b,h];rfl),k,v];rfl
   rw[i];rw[h]at m;obtain⟨I,po,rfl⟩:=sn o (by omega);cases n with
   | zero=>exact(sU o k).elim
   | succ n=>
   obtain⟨⟨C,D,E,F⟩,H,N⟩:=iE o k;obtain⟨⟨d0,d1,d2,d3⟩,K,_⟩:=iE o v;exact AM M n _ _ _ _ _ _ a I po c w j s (by omega) _ rfl b e f g (by omega) (by simpa using C) (by simpa using D) (by simpa using E) (by simpa using F) (by simpa using d0) (by simpa using d1) (by simpa using d2) (by simpa using d3) m (mX H (G j (aR k)) r) (mX K (G s (aR v)) r)
  ·have i:ky M n a d=none:=by simp[ky,p,q,u,y,e,f,g,h]
   exact jX M n _ _ _ _ _ _ a z d.length c w _ i b e f g (am (ak ⟨rfl,rfl,rfl,rfl,ww h⟩)) m
 replace b:=pF b;by_cases e:(a.toList==[115,112,97,119,110])=true
 ·have f:=ne _ [108,105,110,107] (by decide) e;have g:=ne _ [115,116,111,112] (by decide) e;by_cases h:d.length=3
  ·obtain⟨j,k⟩:=get 0 (by omega);obtain⟨s,v⟩:=get 1 (by omega);obtain⟨t,O⟩:=get 2 (by omega);have i:ky M n a d=AJ M n j s t:=by
    unfold ky;rw[if_neg (by rw[p,b];simp),if_pos (by rw[q,e,h];rfl),k,v,O];rfl
   rw[i];rw[h]at m;obtain⟨I,po,rfl⟩:=sn o (by omega);cases n with
   | zero=>exact(sU o k).elim
   | succ n=>
   obtain⟨⟨C,D,E,F⟩,H,N⟩:=iE o k;obtain⟨⟨d0,d1,d2,d3⟩,K,_⟩:=iE o v;obtain⟨⟨R,S,T,U⟩,Y,_⟩:=iE o O;exact xF M n _ _ _ _ _ _ a I po c w j s t _ b e f g (by omega) (by simpa using C) (by simpa using D) (by simpa using E) (by simpa using F) (by simpa using d0) (by simpa using d1) (by simpa using d2) (by simpa using d3) (by simpa using R) (by simpa using S) (by simpa using T) (by simpa using U) m (λZ A=>xH M n (by omega) j s t B Z (H.below (A.mono r)) (K.below (A.mono r)) (Y.below (A.mono r)) (G j (aR k)) (G s (aR v)) (aD r A.size))
  ·have i:ky M n a d=none:=by simp[ky,p,q,u,y,b,f,g,h]
   exact jX M n _ _ _ _ _ _ a z d.length c w _ i b e f g (am (am (ak ⟨rfl,rfl,rfl,rfl,ww h⟩))) m
 replace e:=pF e;by_cases f:(a.toList==[108,105,110,107])=true
 ·have g:=ne _ [115,116,111,112] (by decide) f;by_cases h:d.length=1
  ·obtain⟨j,k⟩:=get 0 (by omega);have i:ky M n a d=some (3,(bi (M+1) n j,zT M),(.empty,0)):=by
    unfold ky;rw[if_neg (by rw[p,b];simp),if_neg (by rw[q,e];simp),if_pos (by rw[u,f,h];rfl),k];rfl
   rw[i];rw[h]at m;obtain⟨I,po,rfl⟩:=sn o (by omega);cases n with
   | zero=>exact(sU o k).elim
   | succ n=>
   obtain⟨⟨C,D,E,F⟩,H,N⟩:=iE o k;exact AL M n _ _ _ _ _ _ a I po c w j (by omega) _ rfl b e f g (by omega) (by simpa using C) (by simpa using D) (by simpa using E) (by simpa using F) m (mX H (G j (aR k)) r)
  ·have i:ky M n a d=none:=by simp[ky,p,q,u,y,b,e,g,h]
   exact jX M n _ _ _ _ _ _ a z d.length c w _ i b e f g (am (am (am (ak ⟨rfl,rfl,rfl,rfl,ww h⟩)))) m
 replace f:=pF f;by_cases g:(a.toList==[115,116,111,112])=true
 ·by_cases h:d.length=0
  ·have i:ky M n a d=some (4,(zT M,zT M),(.empty,0)):=by simp[ky,p,q,u,y,b,e,f,g,h]
   rw[i];exact AN M n _ _ _ _ _ _ a z d.length c w _ rfl b e f g (Pe h) m
  ·have i:ky M n a d=none:=by simp[ky,p,q,u,y,b,e,f,h]
   exact jX M n _ _ _ _ _ _ a z d.length c w _ i b e f g (am (am (am (am ⟨rfl,rfl,rfl,rfl,ww h⟩)))) m
 replace g:=pF g;have i:ky M n a d=none:=by simp[ky,p,q,u,y,b,e,f,g]
 exact jX M n _ _ _ _ _ _ a z d.length c w _ i b e f g (ak ⟨rfl,rfl,rfl,rfl⟩) m
abbrev jM(M:Nat)(o:Option (Cl (M+1)))(w:ah)(e:Ending)(w':ah):Prop:=rR (fF (M+1)) (iP (M+1)) (kF (M+1)) (DO (M+1)) o w e w'
def Q3(M:Nat):Cl (M+1):=((zT M,zT M,zT M),(none,0),[])
theorem mI{o:Option (Cl (M+1))}(b:o=none)(a:ap w w'):jM M o w (.returned (.tuple #[.agg #[ae 0,ae 0,ag .empty,af none 0 0,ae 0,ae 0,ag .empty,af none 0 0,af none 0 0,ae 0,ae 0,ag .empty,af none 0 0],.bool false])) w':=by
 subst b;exact⟨Q3 M,false,rfl,a,rfl,⟨⟨mf _ _ _,mf _ _ _,mf _ _ _⟩,⟨ay _,aK _⟩,ak rfl⟩,⟨⟨ak rfl,ak rfl,ak rfl⟩,ak rfl⟩,λd c=>by cases c⟩
theorem ny{m:Tm (n+1)}(c:aJ ⟨n+1,m⟩)(d:m.1.1=4):m.2.2.length<=8:=by
 have b:=c (bP n m) (by simp[aF,bP]);unfold cJ at b;have a:(bP n m).1.1=4:=d;rw[if_neg (by rw[a];omega),if_neg (by rw[a];omega),if_neg (by rw[a];omega),if_pos a]at b;simp only[aO,cT]at b;have e:(m.2.2.length:Int)<=8:=b.1.2;omega
theorem uU{q:Nat}{c0 e f g h i b c d:ax}{t:TypeId}(a:w.heap[q]?=some (.cells #[c0,o,r,u,x,e,f,g,h,i,b,c,d] t)):(ai w q 0 c0/\ai w q 1 o/\ai w q 2 r/\ai w q 3 u/\ai w q 4 x/\ai w q 5 e/\ai w q 6 f/\ai w q 7 g/\ai w q 8 h/\ai w q 9 i/\ai w q 10 b/\ai w q 11 c/\ai w q 12 d)/\(∀j,w.frozen? ⟨q,j,none⟩=false)/\q<w.heap.size:=
 ⟨⟨aA a 0,aA a 1,aA a 2,aA a 3,aA a 4,aA a 5,aA a 6,aA a 7,aA a 8,aA a 9,aA a 10,aA a 11,aA a 12⟩,λj=>dq a j,(aN.1 a).1⟩
theorem uL(M _n:Nat)(k h:Int)(s:aq)(xa:aw)(i xc:Nat)(wd:aq)(a:aw)(len c:Nat)(w:ah)(o:Option (Cl (M+1)))(m:Hid (o=none))(p:(wd.toList==[111,110])=false)(b:Hid (∀w1,ap w w1->au 117 #[.agg #[ae k,ae h,ag s,af xa i xc]] w1 λe w'=>e=.returned (.tuple #[ag wd,af a len c])/\ap w1 w')):au 146 #[.agg #[ae k,ae h,ag s,af xa i xc]] w (jM M o w):=by
 go_enter func146,ntmps146;go_wp2_with fail;refine(b _ (by go_grown)).mono ?_;rintro e w1 ⟨rfl,d⟩;obtain⟨n,g,f,r⟩:=eP d;have j:=av f;have l:=av g;clear d n g f b;obtain⟨⟨d0,d1,d2,d3,d4,d5,d6,d7,d8,d9,d10,d11,d12⟩,f0,q⟩:=uU l;go_wp2_with fail;exact aB (v:=.tuple #[.agg #[ae 0,ae 0,ag .empty,af none 0 0,ae 0,ae 0,ag .empty,af none 0 0,af none 0 0,ae 0,ae 0,ag .empty,af none 0 0],.bool false]) (by simp[results,results146,go_sem,d0,d1,d2,d3,d4,d5,d6,d7,d8,d9,d10,d11,d12];rfl) rfl (mI m ((sj _ _ _ _ _ _ _ _ _ _ _ _ _ _ _).below j (by omega)))
theorem wT(M _n:Nat)(k h:Int)(s:aq)(xa:aw)(i xc:Nat)(wd:aq)(a:aw)(len c:Nat)(w:ah)(o:Option (Cl (M+1)))(m:Hid (o=none))(p:(wd.toList==[111,110])=true)(_hl:((len:Int)==4)=false)(q:((len:Int) !=4)=true)(b:Hid (∀w1,ap w w1->au 117 #[.agg #[ae k,ae h,ag s,af xa i xc]] w1 λe w'=>e=.returned (.tuple #[ag wd,af a len c])/\ap w1 w')):au 146 #[.agg #[ae k,ae h,ag s,af xa i xc]] w (jM M o w):=by
 go_enter func146,ntmps146;go_wp2_with fail;refine(b _ (by go_grown)).mono ?_;rintro e w1 ⟨rfl,d⟩;obtain⟨n,g,f,t⟩:=eP d;have j:=av f;have l:=av g;clear d n g f b;obtain⟨⟨d0,d1,d2,d3,d4,d5,d6,d7,d8,d9,d10,d11,d12⟩,f0,r⟩:=uU l;go_wp2_with fail;exact aB (v:=.tuple #[.agg #[ae 0,ae 0,ag .empty,af none 0 0,ae 0,ae 0,ag .empty,af none 0 0,af none 0 0,ae 0,ae 0,ag .empty,af none 0 0],.bool false]) (by simp[results,results146,go_sem,d0,d1,d2,d3,d4,d5,d6,d7,d8,d9,d10,d11,d12];rfl) rfl (mI m ((sj _ _ _ _ _ _ _ _ _ _ _ _ _ _ _).below j (by omega)))
theorem uJ(M _n:Nat)(k l:Int)(s:aq)(xa:aw)(m xc:Nat)(wd:aq)(a po c:Nat)(w:ah)(o:Option (Cl (M+1)))(p:Hid (o=none))(t:(wd.toList==[111,110])=true)(q:a<w.heap.size)(j:Int)(f:ai w a (po+8) (ae j))(u:(j !=4)=true)(d:Hid (∀w1,ap w w1->au 117 #[.agg #[ae k,ae l,ag s,af xa m xc]] w1 λe w'=>e=.returned (.tuple #[ag wd,af (some ⟨a,po,none⟩) 4 c])/\ap w1 w')):au 146 #[.agg #[ae k,ae l,ag s,af xa m xc]] w (jM M o w):=by
 go_enter func146,ntmps146;go_wp2_with fail;refine(d _ (by go_grown)).mono ?_;rintro e w1 ⟨rfl,g⟩;obtain⟨r,i,h,z⟩:=eP g;have b:=av h;have n:=av i;clear g r i h d;replace f:=(az b _ _ q).trans f;have x:a<w1.heap.size:=by omega
 obtain⟨⟨d0,d1,d2,d3,d4,d5,d6,d7,d8,d9,d10,d11,d12⟩,f0,y⟩:=uU n;go_wp2_with fail;exact aB (v:=.tuple #[.agg #[ae 0,ae 0,ag .empty,af none 0 0,ae 0,ae 0,ag .empty,af none 0 0,af none 0 0,ae 0,ae 0,ag .empty,af none 0 0],.bool false]) (by simp[results,results146,go_sem,d0,d1,d2,d3,d4,d5,d6,d7,d8,d9,d10,d11,d12];rfl) rfl (mI p ((sj _ _ _ _ _ _ _ _ _ _ _ _ _ _ _).below b (by omega)))
theorem NW{y x t:Tm (n+1)}(c:e<g)(b:bV g w w')(k:(ai w e po (ae y.1.1)/\ai w e (po+1) (ae y.1.2.1)/\ai w e (po+2) (ag y.1.2.2)/\ai w e (po+3) (af y.2.1.1 y.2.2.length y.2.1.2))/\(ai w e (po+4) (ae x.1.1)/\ai w e (po+5) (ae x.1.2.1)/\ai w e (po+6) (ag x.1.2.2)/\ai w e (po+7) (af x.2.1.1 x.2.2.length x.2.1.2))/\(ai w e (po+12) (ae t.1.1)/\ai w e (po+13) (ae t.1.2.1)/\ai w e (po+14) (ag t.1.2.2)/\ai w e (po+15) (af t.2.1.1 t.2.2.length t.2.1.2))):(ai w' e po (ae y.1.1)/\ai w' e (po+1) (ae y.1.2.1)/\ai w' e (po+2) (ag y.1.2.2)/\ai w' e (po+3) (af y.2.1.1 y.2.2.length y.2.1.2))/\(ai w' e (po+4) (ae x.1.1)/\ai w' e (po+5) (ae x.1.2.1)/\ai w' e (po+6) (ag x.1.2.2)/\ai w' e (po+7) (af x.2.1.1 x.2.2.length x.2.1.2))/\(ai w' e (po+12) (ae t.1.1)/\ai w' e (po+13) (ae t.1.2.1)/\ai w' e (po+14) (ag t.1.2.2)/\ai w' e (po+15) (af t.2.1.1 t.2.2.length t.2.1.2)):=by
 have a:=λo=>gw b (show e≠g by omega) o;exact⟨⟨(a _).trans k.1.1,(a _).trans k.1.2.1,(a _).trans k.1.2.2.1,(a _).trans k.1.2.2.2⟩,⟨(a _).trans k.2.1.1,(a _).trans k.2.1.2.1,(a _).trans k.2.1.2.2.1,(a _).trans k.2.1.2.2.2⟩,(a _).trans k.2.2.1,(a _).trans k.2.2.2.1,(a _).trans k.2.2.2.2.1,(a _).trans k.2.2.2.2.2⟩
theorem uK(M n:Nat)(k aS:Int)(s:aq)(xa:aw)(aV xc:Nat)(wd:aq)(a po c:Nat)(w:ah)(y x m t:Tm (n+1))(aj:n+1<=M+1)(an:Option (List (Ac (M+1))))(o:Option (Cl (M+1)))(aL:Hid (o=an.map λl=>((bi (M+1) (n+1) y,bi (M+1) (n+1) x,bi (M+1) (n+1) t),(none,0),l)))(bl:(wd.toList==[111,110])=true)(h:a<w.heap.size)(Q:ai w a po (ae y.1.1))(R:ai w a (po+1) (ae y.1.2.1))(S:ai w a (po+2) (ag y.1.2.2))(T:ai w a (po+3) (af y.2.1.1 y.2.2.length y.2.1.2))(K:ai w a (po+4) (ae x.1.1))(L:ai w a (po+5) (ae x.1.2.1))(N:ai w a (po+6) (ag x.1.2.2))(O:ai w a (po+7) (af x.2.1.1 x.2.2.length x.2.1.2))(X:ai w a (po+8) (ae m.1.1))(ak:ai w a (po+9) (ae m.1.2.1))(al:ai w a (po+10) (ag m.1.2.2))(am:ai w a (po+11) (af m.2.1.1 m.2.2.length m.2.1.2))(G:ai w a (po+12) (ae t.1.1))(H:ai w a (po+13) (ae t.1.2.1))(I:ai w a (po+14) (ag t.1.2.2))(J:ai w a (po+15) (af t.2.1.1 t.2.2.length t.2.1.2))(a8:m.1.1=4)(aD:Hid (∀w1,ap w w1->au 117 #[.agg #[ae k,ae aS,ag s,af xa aV xc]] w1 λe w'=>e=.returned (.tuple #[ag wd,af (some ⟨a,po,none⟩) 4 c])/\ap w1 w'))(ar:Hid (∀w1,ap w w1->au 171 #[af m.2.1.1 m.2.2.length m.2.1.2,.func (Fn.func 172) #[] #[]] w1 (mn 11 (gX (M+1)) (jJ (M+1)) (mN (M+1)) (DS (M+1)) an w1)))(ax:Hid (∀w1,ap w w1->au 91 #[.agg (bf y)] w1 λe w'=>∃d:Tm (n+1),e=.returned (.agg (bf d))/\Hid (ap w1 w'/\In w'.heap.size w' (n+1) d/\cE (λq=>w1.heap.size<=q) (n+1) d/\aH (n+1) d (n+1) y=true)))(ay:Hid (∀w1,ap w w1->au 91 #[.agg (bf x)] w1 λe w'=>∃d:Tm (n+1),e=.returned (.agg (bf d))/\Hid (ap w1 w'/\In w'.heap.size w' (n+1) d/\cE (λq=>w1.heap.size<=q) (n+1) d/\aH (n+1) d (n+1) x=true)))(aA:Hid (∀w1,ap w w1->au 91 #[.agg (bf t)] w1 λe w'=>∃d:Tm (n+1),e=.returned (.agg (bf d))/\Hid (ap w1 w'/\In w'.heap.size w' (n+1) d/\cE (λq=>w1.heap.size<=q) (n+1) d/\aH (n+1) d (n+1) t=true))):au 146 #[.agg #[ae k,ae aS,ag s,af xa aV xc]] w (jM M o w):=by
 go_enter func146,ntmps146;go_wp2_with fail;refine(aD _ (by go_grown)).mono ?_;rintro e w1 ⟨rfl,aG⟩;obtain⟨bc,aP,aI,bq⟩:=eP aG;have f:=av aI;have aF:=av aP;clear aG bc aP aI aD;replace Q:=(az f _ _ h).trans Q;replace R:=(az f _ _ h).trans R;replace S:=(az f _ _ h).trans S;replace T:=(az f _ _ h).trans T;replace K:=(az f _ _ h).trans K;replace L:=(az f _ _ h).trans L;replace N:=(az f _ _ h).trans N;replace O:=(az f _ _ h).trans O;replace X:=(az f _ _ h).trans X;replace ak:=(az f _ _ h).trans ak;replace al:=(az f _ _ h).trans al;replace am:=(az f _ _ h).trans am;replace G:=(az f _ _ h).trans G;replace H:=(az f _ _ h).trans H;replace I:=(az f _ _ h).trans I;replace J:=(az f _ _ h).trans J;have ba:a<w1.heap.size:=by omega
 rw[a8]at X;go_wp2_with fail;refine(ar _ f).mono ?_;rintro e u ⟨l,j,r,ao,rfl,aC⟩;have U:=av aC.1;have z:Hid (ap w u):=f.trans (U.mono f.size);have aZ:=av ((U.block (w.heap.size+1) (by omega)).trans aF);have bm:w1.heap.size<=u.heap.size:=U.size;have bb:a<u.heap.size:=by omega
 have B:Hid (∀w',ap u w'->(ai w' a po (ae y.1.1)/\ai w' a (po+1) (ae y.1.2.1)/\ai w' a (po+2) (ag y.1.2.2)/\ai w' a (po+3) (af y.2.1.1 y.2.2.length y.2.1.2))/\(ai w' a (po+4) (ae x.1.1)/\ai w' a (po+5) (ae x.1.2.1)/\ai w' a (po+6) (ag x.1.2.2)/\ai w' a (po+7) (af x.2.1.1 x.2.2.length x.2.1.2))/\(ai w' a (po+12) (ae t.1.1)/\ai w' a (po+13) (ae t.1.2.1)/\ai w' a (po+14) (ag t.1.2.2)/\ai w' a (po+15) (af t.2.1.1 t.2.2.length t.2.1.2))):=λw' a2=>by
  have i:=λo=>(az a2 a o bb).trans (az U a o ba);exact⟨⟨(i _).trans Q,(i _).trans R,(i _).trans S,(i _).trans T⟩,⟨(i _).trans K,(i _).trans L,(i _).trans N,(i _).trans O⟩,(i _).trans G,(i _).trans H,(i _).trans I,(i _).trans J⟩
 obtain⟨W,ad⟩:∃W,l.length=W:=⟨_,rfl⟩;rw[ad];have aY:=av ad;clear ar aF Q R S T K L N O X ak al am G H I J ad;obtain⟨⟨Q,R,S,T⟩,⟨K,L,N,O⟩,G,H,I,J⟩:=B.out u (aE _ _);go_wp2_with fail
 go_region_held3 (λw'=>(w'.cell? ⟨a,po,none⟩=some (ae y.1.1)/\w'.cell? ⟨a,po+1,none⟩=some (ae y.1.2.1)/\w'.cell? ⟨a,po+2,none⟩=some (ag y.1.2.2)/\w'.cell? ⟨a,po+3,none⟩=some (af y.2.1.1 y.2.2.length y.2.1.2))/\(w'.cell? ⟨a,po+4,none⟩=some (ae x.1.1)/\w'.cell? ⟨a,po+5,none⟩=some (ae x.1.2.1)/\w'.cell? ⟨a,po+6,none⟩=some (ag x.1.2.2)/\w'.cell? ⟨a,po+7,none⟩=some (af x.2.1.1 x.2.2.length x.2.1.2))/\(w'.cell? ⟨a,po+12,none⟩=some (ae t.1.1)/\w'.cell? ⟨a,po+13,none⟩=some (ae t.1.2.1)/\w'.cell? ⟨a,po+14,none⟩=some (ag t.1.2.2)/\w'.cell? ⟨a,po+15,none⟩=some (af t.2.1.1 t.2.2.length t.2.1.2))) (first|with_reducible assumption|with_reducible exact B.out _ A.out|with_reducible exact B.out _ F.out|with_reducible exact B.out _ E.out|with_reducible exact aX.out _ (sj _ _ _ _ _ _ _ _ _ _ _ _ _ _ _)|exact B.out _ (aE _ _).drew)
  ((first
   | (go_at_call 91;refine(ax _ z.drew).mono ?_;rintro e aT ⟨d,rfl,V⟩;have E:=av (dc V.1);clear ax)
   | (go_at_call 91;refine(ay _ (z.trans (E.mono z.size))).mono ?_;rintro e aU ⟨q,rfl,C⟩;have F:=av (E.trans (C.1.mono E.size));clear ay)
   | (go_at_call 91;refine(aA _ (z.trans (F.mono z.size))).mono ?_;rintro e p ⟨g,rfl,D⟩;have A:=av (F.trans (D.1.mono F.size));clear aA;have a0:=av ((A.block (w.heap.size+1) (by omega)).trans aZ);obtain⟨⟨d0,d1,d2,d3,d4,d5,d6,d7,d8,d9,d10,d11,d12⟩,f0,bp⟩:=uU a0;have aX:=av (λa1 (a5:bV (w.heap.size+1) p a1)=>NW (y:=y) (x:=x) (t:=t) (show a<w.heap.size+1 by omega) a5 (B _ A)))))
 go_wp2_with fail;have aW:Hid (ap w p):=z.trans (A.mono z.size);have bn:u.heap.size<=aT.heap.size:=E.size;have bo:u.heap.size<=aU.heap.size:=F.size;have aO:=D.1;have aN:=C.1.trans (D.1.mono C.1.size);have Y:=jh (M:=M) aj ((V.2.1.below aN).mono aN.size) (V.2.2.1.mono λq (aM:u.heap.size<=q)=>(show w.heap.size+1<q by omega)) V.2.2.2;have Z:=jh (M:=M) aj ((C.2.1.below aO).mono aO.size) (C.2.2.1.mono λq (aM:aT.heap.size<=q)=>(show w.heap.size+1<q by omega)) C.2.2.2;have aa:=jh (M:=M) aj D.2.1 (D.2.2.1.mono λq (aM:aU.heap.size<=q)=>(show w.heap.size+1<q by omega)) D.2.2.2;refine aB (v:=.tuple #[.agg #[ae d.1.1,ae d.1.2.1,ag d.1.2.2,af d.2.1.1 d.2.2.length d.2.1.2,ae q.1.1,ae q.1.2.1,ag q.1.2.2,af q.2.1.1 q.2.2.length q.2.1.2,af j W r,ae g.1.1,ae g.1.2.1,ag g.1.2.2,af g.2.1.1 g.2.2.length g.2.1.2],.bool ao]) (by simp[results,results146,go_sem,d0,d1,d2,d3,d4,d5,d6,d7,d8,d9,d10,d11,d12]) rfl ?_;have e:fF (M+1) ((bi (M+1) (n+1) d,bi (M+1) (n+1) q,bi (M+1) (n+1) g),(j,r),l)=[ae d.1.1,ae d.1.2.1,ag d.1.2.2,af d.2.1.1 d.2.2.length d.2.1.2,ae q.1.1,ae q.1.2.1,ag q.1.2.2,af q.2.1.1 q.2.2.length q.2.1.2,af j W r,ae g.1.1,ae g.1.2.1,ag g.1.2.2,af g.2.1.1 g.2.2.length g.2.1.2]:=by
  show kX (M+1) (bi (M+1) (n+1) d)++kX (M+1) (bi (M+1) (n+1) q)++(af j l.length r::kX (M+1) (bi (M+1) (n+1) g))=_;rw[gN,gN,gN,aY.out];rfl
 have aR:∀w',bV (w.heap.size+1) p w'->jM M o w (.returned (.tuple #[.agg (fF (M+1) ((bi (M+1) (n+1) d,bi (M+1) (n+1) q,bi (M+1) (n+1) g),(j,r),l)).toArray,.bool ao])) w':=λw' aK=>by
  obtain⟨br,bd,be,bg,bh,bj⟩:=aC;have ab:=cZ (fU (M+1)) 11 (gX (M+1)) j;have a6:Lay p.heap.size p 11 (gX (M+1)) (jJ (M+1) p.heap.size p) j l:=ab.mono A.size (ab.below A bg);have a9:uD (mN (M+1) (λb=>w.heap.size+1<b)) (λb=>w.heap.size+1<b) j l:=ab.1 _ _ _ (λb (a3:w1.heap.size<=b)=>(show w.heap.size+1<b by omega)) bh;have a4:iP (M+1) p.heap.size p ((bi (M+1) (n+1) d,bi (M+1) (n+1) q,bi (M+1) (n+1) g),(j,r),l):=⟨⟨Y.1,Z.1,aa.1⟩,be,a6⟩;have aJ:kF (M+1) (λb=>w.heap.size+1<b) ((bi (M+1) (n+1) d,bi (M+1) (n+1) q,bi (M+1) (n+1) g),(j,r),l):=⟨⟨Y.2.1,Z.2.1,aa.2.1⟩,a9⟩;refine⟨((bi (M+1) (n+1) d,bi (M+1) (n+1) q,bi (M+1) (n+1) g),(j,r),l),ao,rfl,aK.below aW (by omega),?_,aK.stays (eL _) (P:=λb=>w.heap.size+1<b) (by omega) aJ a4,(eL _).1 _ _ _ (λb (a3:w.heap.size+1<b)=>(show w.heap.size<=b by omega)) aJ,λbs aQ=>?_⟩
  ·rw[bd,aL.out];cases an<;>rfl
  ·rw[aL.out]at aQ;obtain⟨bk,a7,rfl⟩:=cH.1 aQ;exact⟨⟨Y.2.2,Z.2.2,aa.2.2⟩,bj bk a7⟩
 rw[e]at aR;exact aR _ (sj _ _ _ _ _ _ _ _ _ _ _ _ _ _ _)
theorem wS(M n:Nat)(al:n<=M+1)(x:Tm n)(B:Nat)(w:ah)(K:In B w n x)(Y:aJ ⟨n,x⟩)(g:B<=w.heap.size):au 146 #[dE n x] w (jM M (AI M n x) w):=by
 cases n with
 | zero=>exact K.elim
 | succ n=>
 obtain⟨G,c,i,ak,aj,m⟩:=sC n x B w K g;show au 146 #[.agg (bf x)] w (jM M (tH M n (fx n x) (bX n x)) w);have r:∀e∈bX n x,aJ ⟨n,e⟩:=λe j=>eN Y j;generalize fx n x=b at*;generalize bX n x=d at*;have F:ui b Ob=(b.toList==[111,110]):=oc b [111,110];have get:∀k,k<d.length->∃e,d[k]?=some e:=λk v=>⟨d[k],aS v⟩;by_cases f:(b.toList==[111,110])=true
 ·by_cases q:d.length=4
  ·obtain⟨e,j⟩:=get 0 (by omega);obtain⟨u,D⟩:=get 1 (by omega);obtain⟨a,y⟩:=get 2 (by omega);obtain⟨t,C⟩:=get 3 (by omega);have h:tH M n b d=if cg ⟨n,a⟩=4 then (cY (tG M (n-1)) (FZ n a)).map λl=>((bi (M+1) n e,bi (M+1) n u,bi (M+1) n t),(none,0),l)else none:=by
    unfold tH;rw[if_pos (by rw[F,f,q];rfl),j,D,y,C];rfl
   rw[q]at m;obtain⟨N,po,rfl⟩:=sn i (by omega);cases n with
   | zero=>exact(sU i j).elim
   | succ n=>
   obtain⟨⟨O,P,Q,R⟩,aa,am⟩:=iE i j;obtain⟨⟨d0,d1,d2,d3⟩,ab,_⟩:=iE i D;obtain⟨⟨L,ad,ae,af⟩,I,_⟩:=iE i y;obtain⟨⟨S,T,U,V⟩,Z,_⟩:=iE i C;by_cases o:a.1.1=4
   ·have A:tH M (n+1) b d=(cY (tG M n) a.2.2).map λl=>((bi (M+1) (n+1) e,bi (M+1) (n+1) u,bi (M+1) (n+1) t),(none,0),l):=by
      rw[h,if_pos (show cg ⟨n+1,a⟩=4 from o)];rfl
    have J:=r a (aR y);have X:a.2.2.length<=8:=by
     exact ny J o
    exact uK M n _ _ _ _ _ _ b N po c w e u a t (by omega) (cY (tG M n) a.2.2) _ A f (by omega) (by simpa using O) (by simpa using P) (by simpa using Q) (by simpa using R) (by simpa using d0) (by simpa using d1) (by simpa using d2) (by simpa using d3) (by simpa using L) (by simpa using ad) (by simpa using ae) (by simpa using af) (by simpa using S) (by simpa using T) (by simpa using U) (by simpa using V) o m
     (λag p=>AO M n a.2.2 a.2.2.length rfl X a.2.1.1 a.2.1.2 B ag ((show fT B w n a.2.2 a.2.1.1 from I.2).below (p.mono g)) (aD g p.size) (λE s ai W=>by
      have H:=p.trans (W.mono p.size);obtain⟨k,v⟩:=dh s;rcases I.2 with z|⟨_,_,_,_,z⟩
      ·rw[z]at s;cases s
      ·exact CZ M n (by omega) E B ai ((z k E v).2.below (H.mono g)) (br n a E J s) (aD g H.size)))
     (mX aa (r e (aR j)) g) (mX ab (r u (aR D)) g) (mX Z (r t (aR C)) g)
   ·have A:tH M (n+1) b d=none:=by rw[h,if_neg (show¬cg ⟨n+1,a⟩=4 from o)]
    exact uJ M n _ _ _ _ _ _ b N po c w _ A f (by omega) a.1.1 (by simpa using L) (by simpa using o) m
  ·have h:tH M n b d=none:=by simp[tH,q]
   exact wT M n _ _ _ _ _ _ b G d.length c w _ h f (ww q) (by simp;omega) m
 replace f:=pF f;have h:tH M n b d=none:=by simp[tH,F,f]
 exact uL M n _ _ _ _ _ _ b G d.length c w _ h f m
abbrev qu(M:Nat)(o:Option (Bh (M+1)))(w:ah)(e:Ending)(w':ah):Prop:=rR (rJ (M+1)) (rM (M+1)) (kE (M+1)) (xY (M+1)) o w e w'
theorem yP{x:Tm (n+1)}(b:aJ ⟨n+1,x⟩):(bX n x).length<=8:=by
 unfold bX;split
 ·rename_i a;have:=ny b a;split
  ·split
   ·rw[eT];omega
   ·simp
  ·simp
 ·simp
theorem Ln{a:Tm (n+1)}(d:aJ ⟨n+1,a⟩)(b:a.1.1=2):a.1.2.2.size<=2048:=by
 have:=d (bP n a) (by simp[aF,bP]);have c:eh a.1.2.2=true:=by
  simp only[cJ,bP,b]at this;simp at this;exact this.1.1
 simp only[eh,qW,aO,cT]at c;omega
theorem Cv{q:List (Tm n)}{a:aw}(b:fT B w n q a){y:Tm n}(c:y∈q):In B w n y:=by
 rcases b with b|⟨_,_,_,_,b⟩
 ·subst b;cases c
 ·obtain⟨e,d⟩:=dh c;exact(b e y d).2
theorem rk{o:Option (Bh (M+1))}(b:o=none)(a:ap w w'):qu M o w (.returned (.tuple #[.agg #[ag .empty,af none 0 0],.bool false])) w':=by
 subst b;exact⟨(.empty,(none,0),[]),false,rfl,a,rfl,⟨aK _,⟨ay _,aK _⟩,ak rfl⟩,ak rfl,λd c=>by cases c⟩
theorem AR(M _n:Nat)(k i:Int)(s:aq)(xa:aw)(j xc:Nat)(wd:aq)(a:aw)(len c:Nat)(w:ah)(o:Option (Bh (M+1)))(m:Hid (o=none))(q:(wd.toList==[98,101,104])=false)(d:Hid (∀w1,ap w w1->au 117 #[.agg #[ae k,ae i,ag s,af xa j xc]] w1 λe w'=>e=.returned (.tuple #[ag wd,af a len c])/\ap w1 w')):au 119 #[.agg #[ae k,ae i,ag s,af xa j xc]] w (qu M o w):=by
 go_enter func119,ntmps119;go_wp2_with fail;refine(d _ (by go_grown)).mono ?_;rintro e w1 ⟨rfl,f⟩;obtain⟨n,h,g,t⟩:=eP f;have l:=av g;have b:=av h;clear f n h g d;have d0:w1.cell? ⟨w.heap.size+1,0,none⟩=some (ag ⟨#[]⟩):=aA b 0;have d1:w1.cell? ⟨w.heap.size+1,1,none⟩=some (af none 0 0):=aA b 1;have f0:=λp=>dq b p;have r:w.heap.size+1<w1.heap.size:=(aN.1 b).1;go_wp2_with fail;exact aB (v:=.tuple #[.agg #[ag .empty,af none 0 0],.bool false]) (by simp[results,results119,go_sem,d0,d1];rfl) rfl (rk m ((bV.set (bV.set (bV.refl _ _) _ _) _ _).below l (by omega)))
theorem C3(M _n:Nat)(k i:Int)(s:aq)(xa:aw)(j xc:Nat)(wd:aq)(a:aw)(len c:Nat)(w:ah)(o:Option (Bh (M+1)))(m:Hid (o=none))(q:(wd.toList==[98,101,104])=true)(r:(len:Int)<1)(d:Hid (∀w1,ap w w1->au 117 #[.agg #[ae k,ae i,ag s,af xa j xc]] w1 λe w'=>e=.returned (.tuple #[ag wd,af a len c])/\ap w1 w')):au 119 #[.agg #[ae k,ae i,ag s,af xa j xc]] w (qu M o w):=by
 go_enter func119,ntmps119;go_wp2_with fail;refine(d _ (by go_grown)).mono ?_;rintro e w1 ⟨rfl,f⟩;obtain⟨n,h,g,u⟩:=eP f;have l:=av g;have b:=av h;clear f n h g d;have d0:w1.cell? ⟨w.heap.size+1,0,none⟩=some (ag ⟨#[]⟩):=aA b 0;have d1:w1.cell? ⟨w.heap.size+1,1,none⟩=some (af none 0 0):=aA b 1;have f0:=λp=>dq b p;have t:w.heap.size+1<w1.heap.size:=(aN.1 b).1;go_wp2_with fail;exact aB (v:=.tuple #[.agg #[ag .empty,af none 0 0],.bool false]) (by simp[results,results119,go_sem,d0,d1];rfl) rfl (rk m ((bV.set (bV.set (bV.refl _ _) _ _) _ _).below l (by omega)))
theorem AP(M _n:Nat)(k m:Int)(s:aq)(xa:aw)(n xc:Nat)(wd:aq)(b po len c:Nat)(w:ah)(o:Option (Bh (M+1)))(p:Hid (o=none))(u:(wd.toList==[98,101,104])=true)(y:¬(len:Int)<1)(z:(0:Int)<(len:Int))(q:b<w.heap.size)(l:Int)(g:ai w b po (ae l))(x:(l !=2)=true)(f:Hid (∀w1,ap w w1->au 117 #[.agg #[ae k,ae m,ag s,af xa n xc]] w1 λe w'=>e=.returned (.tuple #[ag wd,af (some ⟨b,po,none⟩) len c])/\ap w1 w')):au 119 #[.agg #[ae k,ae m,ag s,af xa n xc]] w (qu M o w):=by
 go_enter func119,ntmps119;go_wp2_with fail;refine(f _ (by go_grown)).mono ?_;rintro e w1 ⟨rfl,h⟩;obtain⟨r,j,i,C⟩:=eP h;have d:=av i;have a:=av j;clear h r j i f;replace g:=(az d _ _ q).trans g;have A:b<w1.heap.size:=by omega
 have d0:w1.cell? ⟨w.heap.size+1,0,none⟩=some (ag ⟨#[]⟩):=aA a 0;have d1:w1.cell? ⟨w.heap.size+1,1,none⟩=some (af none 0 0):=aA a 1;have f0:=λt=>dq a t;have B:w.heap.size+1<w1.heap.size:=(aN.1 a).1;go_wp2_with fail;exact aB (v:=.tuple #[.agg #[ag .empty,af none 0 0],.bool false]) (by simp[results,results119,go_sem,d0,d1];rfl) rfl (rk p ((bV.set (bV.set (bV.refl _ _) _ _) _ _).below d (by omega)))
theorem C4(M _n:Nat)(k Q:Int)(s:aq)(xa:aw)(R xc:Nat)(wd:aq)(d po:Nat)(w:ah)(y2:aq)(aa:y2.size<=2048)(t:Option (List (Cl (M+1))))(o:Option (Bh (M+1)))(J:Hid (o=t.map λl=>(y2,(none,0),l)))(ar:(wd.toList==[98,101,104])=true)(K:d<w.heap.size)(m:ai w d po (ae 2))(n:ai w d (po+2) (ag y2))(C:Hid (∀w1,ap w w1->au 117 #[.agg #[ae k,ae Q,ag s,af xa R xc]] w1 λe w'=>e=.returned (.tuple #[ag wd,af (some ⟨d,po,none⟩) 1 1])/\ap w1 w'))(y:Hid (∀w1,ap w w1->au 145 #[af (some ⟨d,po,none⟩) 0 0,.func (Fn.func 146) #[] #[]] w1 (mn 13 (fF (M+1)) (iP (M+1)) (kF (M+1)) (DO (M+1)) t w1))):au 119 #[.agg #[ae k,ae Q,ag s,af xa R xc]] w (qu M o w):=by
 go_enter func119,ntmps119;go_wp2_with fail;refine(C _ (by go_grown)).mono ?_;rintro e w1 ⟨rfl,F⟩;obtain⟨Z,N,G,aD⟩:=eP F;have f:=av G;have D:=av N;clear F Z N G C;replace m:=(az f _ _ K).trans m;replace n:=(az f _ _ K).trans n;have L:d<w1.heap.size:=by omega
 go_wp2_with fail;refine(y _ f).mono ?_;rintro e x ⟨l,c,i,u,rfl,B⟩;have g:=av B.1;have z:Hid (ap w x):=f.trans (g.mono f.size);have E:=av ((g.block (w.heap.size+1) (by omega)).trans D);have ax:w1.heap.size<=x.heap.size:=g.size;have ay:d<x.heap.size:=by omega
 replace m:=(az g _ _ L).trans m;replace n:=(az g _ _ L).trans n;obtain⟨j,r⟩:∃j,l.length=j:=⟨_,rfl⟩;rw[r];have T:=av r;clear y D r;go_wp2_with fail;refine(eq _ _ aa).mono ?_;rintro e a ⟨rfl,p⟩;have A:=av p;have S:Hid (ap w a):=z.trans (p.mono z.size);have h:=av ((p.block (w.heap.size+1) (by omega)).trans E);have d0:a.cell? ⟨w.heap.size+1,0,none⟩=some (ag ⟨#[]⟩):=aA h 0;have d1:a.cell? ⟨w.heap.size+1,1,none⟩=some (af none 0 0):=aA h 1;have f0:=λab=>dq h ab;have aC:w.heap.size+1<a.heap.size:=(aN.1 h).1;clear p E h;go_wp2_with fail;refine aB (v:=.tuple #[.agg #[ag y2,af c j i],.bool u]) (by simp[results,results119,go_sem,d0,d1]) rfl ?_;have an:∀w',bV (w.heap.size+1) a w'->qu M o w (.returned (.tuple #[.agg #[ag y2,af c j i],.bool u])) w':=λw' I=>by
  obtain⟨aE,ad,aj,ak,al,am⟩:=B;have q:=cZ (eL (M+1)) 13 (fF (M+1)) c;have W:Lay a.heap.size a 13 (fF (M+1)) (iP (M+1) a.heap.size a) c l:=q.mono A.size (q.below A ak);have Y:uD (kF (M+1) (λb=>w.heap.size+1<b)) (λb=>w.heap.size+1<b) c l:=q.1 _ _ _ (λb (U:w1.heap.size<=b)=>(show w.heap.size+1<b by omega)) al;have V:rM (M+1) a.heap.size a (y2,(c,i),l):=⟨(show y2.size<=maxLen by unfold maxLen;omega),aj,W⟩;have H:kE (M+1) (λb=>w.heap.size+1<b) (y2,(c,i),l):=Y;refine⟨(y2,(c,i),l),u,by rw[<-T.out];rfl,I.below S (by omega),?_,I.stays (eK _) (P:=λb=>w.heap.size+1<b) (by omega) H V,(eK _).1 _ _ _ (λb (U:w.heap.size+1<b)=>(show w.heap.size<=b by omega)) H,λaF O=>?_⟩
  ·rw[ad,J.out];cases t<;>rfl
  ·rw[J.out]at O;obtain⟨ao,X,rfl⟩:=cH.1 O;exact⟨rfl,am ao X⟩
 exact an _ (bV.set (bV.set (bV.refl _ _) _ _) _ _)
theorem AQ(M _n:Nat)(k T:Int)(s:aq)(xa:aw)(U xc:Nat)(wd:aq)(f po L c:Nat)(w:ah)(y2:aq)(ad:y2.size<=2048)(u:Option (List (Cl (M+1))))(o:Option (Bh (M+1)))(N:Hid (o=u.map λl=>(y2,(none,0),l)))(ay:(wd.toList==[98,101,104])=true)(O:f<w.heap.size)(_hl:¬(L:Int)<1)(K:(0:Int)<(L:Int))(aE:(1:Int)<=(L:Int))(_hlc:(L:Int)<=(c:Int))(aD:¬c=1)(_hcm:(c:Int)<=9223372036854775807)(n:ai w f po (ae 2))(p:ai w f (po+2) (ag y2))(D:Hid (∀w1,ap w w1->au 117 #[.agg #[ae k,ae T,ag s,af xa U xc]] w1 λe w'=>e=.returned (.tuple #[ag wd,af (some ⟨f,po,none⟩) L c])/\ap w1 w'))(z:Hid (∀w1,ap w w1->au 145 #[af (some ⟨f,po+4,none⟩) (L-1) (c-1),.func (Fn.func 146) #[] #[]] w1 (mn 13 (fF (M+1)) (iP (M+1)) (kF (M+1)) (DO (M+1)) u w1))):au 119 #[.agg #[ae k,ae T,ag s,af xa U xc]] w (qu M o w):=by
 go_enter func119,ntmps119;go_wp2_with fail;refine(D _ (by go_grown)).mono ?_;rintro e w1 ⟨rfl,G⟩;obtain⟨ab,R,H,aH⟩:=eP G;have g:=av H;have E:=av R;clear G ab R H D;replace n:=(az g _ _ O).trans n;replace p:=(az g _ _ O).trans p;have Q:f<w1.heap.size:=by omega
 go_wp2_with fail;refine(z _ g).mono ?_;rintro e y ⟨l,d,j,x,rfl,C⟩;have h:=av C.1;have A:Hid (ap w y):=g.trans (h.mono g.size);have F:=av ((h.block (w.heap.size+1) (by omega)).trans E);have aC:w1.heap.size<=y.heap.size:=h.size;have aF:f<y.heap.size:=by omega
 replace n:=(az h _ _ Q).trans n;replace p:=(az h _ _ Q).trans p;obtain⟨m,t⟩:∃m,l.length=m:=⟨_,rfl⟩;rw[t];have W:=av t;clear z E t;go_wp2_with fail;refine(eq _ _ ad).mono ?_;rintro e a ⟨rfl,q⟩;have B:=av q;have V:Hid (ap w a):=A.trans (q.mono A.size);have i:=av ((q.block (w.heap.size+1) (by omega)).trans F);have d0:a.cell? ⟨w.heap.size+1,0,none⟩=some (ag ⟨#[]⟩):=aA i 0;have d1:a.cell? ⟨w.heap.size+1,1,none⟩=some (af none 0 0):=aA i 1;have f0:=λaj=>dq i aj;have aG:w.heap.size+1<a.heap.size:=(aN.1 i).1;clear q F i;go_wp2_with fail;refine aB (v:=.tuple #[.agg #[ag y2,af d m j],.bool x]) (by simp[results,results119,go_sem,d0,d1]) rfl ?_;have ar:∀w',bV (w.heap.size+1) a w'->qu M o w (.returned (.tuple #[.agg #[ag y2,af d m j],.bool x])) w':=λw' J=>by
  obtain⟨aI,ak,al,am,an,ao⟩:=C;have r:=cZ (eL (M+1)) 13 (fF (M+1)) d;have Z:Lay a.heap.size a 13 (fF (M+1)) (iP (M+1) a.heap.size a) d l:=r.mono B.size (r.below B am);have aa:uD (kF (M+1) (λb=>w.heap.size+1<b)) (λb=>w.heap.size+1<b) d l:=r.1 _ _ _ (λb (X:w1.heap.size<=b)=>(show w.heap.size+1<b by omega)) an;have Y:rM (M+1) a.heap.size a (y2,(d,j),l):=⟨(show y2.size<=maxLen by unfold maxLen;omega),al,Z⟩;have I:kE (M+1) (λb=>w.heap.size+1<b) (y2,(d,j),l):=aa;refine⟨(y2,(d,j),l),x,by rw[<-W.out];rfl,J.below V (by omega),?_,J.stays (eK _) (P:=λb=>w.heap.size+1<b) (by omega) I Y,(eK _).1 _ _ _ (λb (X:w.heap.size+1<b)=>(show w.heap.size<=b by omega)) I,λaJ S=>?_⟩
  ·rw[ak,N.out];cases u<;>rfl
  ·rw[N.out]at S;obtain⟨ax,K,rfl⟩:=cH.1 S;exact⟨rfl,ao ax K⟩
 exact ar _ (bV.set (bV.set (bV.refl _ _) _ _) _ _)
theorem C0(M n:Nat)(Z:n<=M+1)(x:Tm n)(B:Nat)(w:ah)(K:In B w n x)(H:aJ ⟨n,x⟩)(p:B<=w.heap.size):au 119 #[dE n x] w (qu M (AH M n x) w):=by
 cases n with
 | zero=>exact K.elim
 | succ n=>
 obtain⟨D,c,h,S,Y,k⟩:=sC n x B w K p;show au 119 #[.agg (bf x)] w (qu M (uI M n (fx n x) (bX n x)) w);have I:∀d∈bX n x,aJ ⟨n,d⟩:=λd U=>eN H U;have R:(bX n x).length<=8:=yP H;generalize fx n x=e at*;generalize bX n x=a at*;have A:ui e xq=(e.toList==[98,101,104]):=oc e [98,101,104];by_cases f:(e.toList==[98,101,104])=true
 ·cases a with
  | nil=>
   have g:uI M n e []=none:=by simp[uI]
   exact C3 M n _ _ _ _ _ _ e D 0 c w _ g f (by omega) k
  | cons d a=>
   obtain⟨q,po,rfl⟩:=sn h (by simp);cases n with
   | zero=>exact(sU h (show (d::a)[0]?=some d from rfl)).elim
   | succ n=>
   obtain⟨⟨m,W,E,X⟩,ab,aa⟩:=iE h (show (d::a)[0]?=some d from rfl);by_cases i:d.1.1=2
   ·have g:uI M (n+1) e (d::a)=(cY (AI M (n+1)) a).map λl=>(d.1.2.2,(none,0),l):=by
      simp[uI,A,f,cg,i,yB,gK,bP]
    have J:d.1.2.2.size<=2048:=Ln (I d (by simp)) i;have G:fT B w (n+1) a (some ⟨q,po+4,none⟩):=by
     rcases h with h|⟨b,o,v,t,h⟩
     ·cases h
     ·injection v with v;injection v with O P;subst O P
      exact am ⟨q,po+4,rfl,t,λz j y=>by
       have:=h (z+1) j (by simpa using y);rw[show po+4+z*4=po+(z+1)*4 by omega]
       exact this⟩
    have C:∀(j:aw)(u:Nat),fT B w (n+1) a j->∀r,ap w r->au 145 #[af j a.length u,.func (Fn.func 146) #[] #[]] r (mn 13 (fF (M+1)) (iP (M+1)) (kF (M+1)) (DO (M+1)) (cY (AI M (n+1)) a) r):=λj u y r s=>
     uM M (n+1) a a.length rfl (by simp at R;omega) j u B r (y.below (s.mono p)) (aD p s.size) (λN L V Q=>by
      have t:=s.trans (Q.mono s.size)
      exact wS M (n+1) (by omega) N B V ((Cv G L).below (t.mono p)) (I N (by simp[L])) (aD p t.size))
    by_cases F:c=1
    ·have T:a=[]:=bZ (by simp at S;omega);subst T F;exact C4 M (n+1) _ _ _ _ _ _ e q po w d.1.2.2 J _ _ g f (by omega) (by rw[i]at m;simpa using m) (by simpa using E) k (C _ 0 (ak rfl))
    ·exact AQ M (n+1) _ _ _ _ _ _ e q po (d::a).length c w d.1.2.2 J _ _ g f (by omega) (by simp only[bt];omega) (by simp only[bt];omega) (by simp only[bt];omega) (by omega) F (by omega) (by rw[i]at m;simpa using m) (by simpa using E) k (C _ (c-1) G)
   ·have g:uI M (n+1) e (d::a)=none:=by simp[uI,cg,i]
    exact AP M (n+1) _ _ _ _ _ _ e q po (d::a).length c w _ g f (by simp only[bt];omega) (by simp only[bt];omega) (by omega) d.1.1 (by simpa using m) (by simpa using i) k
 replace f:=pF f;have g:uI M n e a=none:=by simp[uI,A,f]
 exact AR M n _ _ _ _ _ _ e D a.length c w _ g f k
abbrev vo(M:Nat)(o:Option (List (Bh (M+1))))(w:ah)(e:Ending)(w':ah):Prop:=mn 2 (rJ (M+1)) (rM (M+1)) (kE (M+1)) (xY (M+1)) o w e w'
theorem CX{o:Option (List (Bh (M+1)))}(b:o=none)(a:ap w w'):vo M o w (.returned (.tuple #[af none 0 0,.bool false])) w':=by
 subst b;exact⟨[],none,0,false,rfl,a,rfl,⟨ay _,aK _⟩,ak rfl,ak rfl,λd c=>by cases c⟩
theorem xG(M _n:Nat)(k r:Int)(s:aq)(xa:aw)(t xc:Nat)(wd:aq)(a:aw)(len c:Nat)(w:ah)(o:Option (List (Bh (M+1))))(b:Bool)(G:(wd.toList==[99,111,100,101])=b)(p:Hid (b=false->o=none))(m:Hid (∀w1,ap w w1->au 117 #[.agg #[ae k,ae r,ag s,af xa t xc]] w1 λe w'=>e=.returned (.tuple #[ag wd,af a len c])/\ap w1 w'))(j:Hid (b=true->∀w1,ap w w1->au 118 #[af a len c,.func (Fn.func 119) #[] #[]] w1 (vo M o w1))):au 80 #[.agg #[ae k,ae r,ag s,af xa t xc]] w (vo M o w):=by
 cases b
 ·have HB:Hid (o=none):=p rfl;go_enter func80,ntmps80;go_wp2_with fail;refine(m _ (by go_grown)).mono ?_;rintro e w1 ⟨rfl,f⟩;have d:Hid (ap w w1):=aX.trans (f.mono (by simp));clear f;go_wp2_with fail;exact aB (v:=.tuple #[af none 0 0,.bool false]) (by simp[results,results80,go_sem]) rfl (CX HB d)
 ·have u:=av (j rfl);clear j p;go_enter func80,ntmps80;go_wp2_with fail;refine(m _ (by go_grown)).mono ?_;rintro e w1 ⟨rfl,f⟩;have d:Hid (ap w w1):=aX.trans (f.mono (by simp));clear f;go_wp2_with fail;refine(u _ d).mono ?_;rintro e H ⟨l,h,n,q,rfl,x⟩;obtain⟨g,i⟩:∃g,l.length=g:=⟨_,rfl⟩;rw[i];have y:=av i;clear i;go_wp2_with fail;refine aB (v:=.tuple #[af h g n,.bool q]) (by simp[results,results80,go_sem]) rfl ?_;obtain⟨A,B,C,D,E,F⟩:=x;exact⟨l,h,n,q,by rw[y.out],d.trans (A.mono d.size),B,C,D,(cZ (eK _) 2 (rJ (M+1)) h).1 _ _ _ (λb z=>aD d.size z) E,F⟩
theorem AS(M n:Nat)(A:n<=M+1)(x:Tm n)(B:Nat)(w:ah)(j:In B w n x)(i:aJ ⟨n,x⟩)(a:B<=w.heap.size):au 80 #[dE n x] w (vo M (xE M n x) w):=by
 cases n with
 | zero=>exact j.elim
 | succ n=>
 obtain⟨f,c,h,z,y,o⟩:=sC n x B w j a;have s:∀l∈bX n x,aJ ⟨n,l⟩:=λl t=>eN i t;have r:(bX n x).length<=8:=yP i;have e:ui (fx n x) pw=((fx n x).toList==[99,111,100,101]):=oc _ [99,111,100,101];refine xG M n _ _ _ _ _ _ (fx n x) f (bX n x).length c w (xE M (n+1) x) _ rfl (λd=>?_) o (λd u b=>?_)
 ·simp only[xE,e,d];rfl
 ·have p:xE M (n+1) x=cY (AH M n) (bX n x):=by simp only[xE,e,d];rfl
  rw[p]
  exact rm M n (bX n x) (bX n x).length rfl r f c B u (h.below (b.mono a)) (aD a b.size) (λm k v q=>by
   have g:=b.trans (q.mono b.size)
   exact C0 M n (by omega) m B v ((Cv h k).below (g.mono a)) (s m k) (aD a g.size))
theorem B5{s:aq}(b:s.toList.isEmpty=true):s=.empty:=by
 apply vy;have a:ByteArray.empty.toList=[]:=by rw[cC];rfl
 rw[a];simpa using b
theorem yV{x:Tm (n+1)}(f:aJ ⟨n+1,x⟩)(c:x.1.1=4):x.1=(4,0,.empty):=by
 have a:=f (bP n x) (by simp[aF,bP]);unfold cJ at a;have b:(bP n x).1.1=4:=c;rw[if_neg (by rw[b];omega),if_neg (by rw[b];omega),if_neg (by rw[b];omega),if_pos b]at a;simp only[aO,cR]at a;have d:x.1.2.2=.empty:=B5 a.1.1.1;have e:x.1.2.1=0:=a.1.1.2;exact iM c (iM e d)
theorem rn{x:Tm (n+1)}(g:aJ ⟨n+1,x⟩)(d:x.1.1=2):x.1=(2,0,x.1.2.2)/\x.2.2=[]/\eh x.1.2.2=true:=by
 have b:=g (bP n x) (by simp[aF,bP]);unfold cJ at b;have c:(bP n x).1.1=2:=d;rw[if_neg (by rw[c];omega),if_pos c]at b;simp only[aO,kh,cR]at b;obtain⟨⟨f,e⟩,a⟩:=b;refine⟨iM d (iM e rfl),?_,f⟩;rcases a with a|a
 ·rw[c]at a;omega
 ·have h:¬(0:Int)<(x.2.2.length:Int):=by simpa [bP]using a
  exact bZ (by omega)
theorem yW{x:Tm (n+1)}(g:aJ ⟨n+1,x⟩)(d:x.1.1=5):x.1=(5,x.1.2.1,.empty)/\x.2.2=[]/\0<=x.1.2.1/\x.1.2.1<=3:=by
 have c:=g (bP n x) (by simp[aF,bP]);unfold cJ at c;have a:(bP n x).1.1=5:=d;rw[if_neg (by rw[a];omega),if_neg (by rw[a];omega),if_neg (by rw[a];omega),if_neg (by rw[a];omega),if_pos a]at c;simp only[aO,kh,cR,qW,cT]at c;obtain⟨⟨f,e⟩,b⟩:=c;refine⟨iM d (iM rfl (B5 f)),?_,e⟩;rcases b with b|b
 ·rw[a]at b;omega
 ·have h:¬(0:Int)<(x.2.2.length:Int):=by simpa [bP]using b
  exact bZ (by omega)
theorem sZ{x:Tm (n+1)}(d:aJ ⟨n+1,x⟩)(b:x.1.1=2)(N:Nat):aH (N+1) (bO x.1.2.2 N) (n+1) x=true:=by
 obtain⟨a,c,_⟩:=rn d b;refine dB a.symm ?_;rw[c];rfl
theorem Mp{x:Tm (n+1)}(d:aJ ⟨n+1,x⟩)(c:x.1.1=5)(N:Nat):aH (N+1) (cv 5 x.1.2.1 N) (n+1) x=true:=by
 obtain⟨a,b,_⟩:=yW d c;refine dB a.symm ?_;rw[b];rfl
theorem ic{x:Tm (n+1)}(i:aJ ⟨n+1,x⟩)(m:ui (fx n x) wd=true)(b:wd.toList≠[]):x.1=(4,0,.empty)/\∃h,x.2.2=h::bX n x/\∀N,aH (N+1) (bO wd N) n h=true:=by
 have f:ByteArray.empty.toList=[]:=by rw[cC];rfl
 have a:fx n x=wd:=vy m;unfold fx at a;by_cases e:x.1.1=4
 ·rw[if_pos e]at a;refine⟨yV i e,?_⟩;obtain⟨⟨k,q,p⟩,⟨o,c⟩,j⟩:=x;simp only at e a;subst e;cases j with
  | nil=>
   simp at a;rw[<-a,f]at b;exact(b rfl).elim
  | cons d j=>
   simp only[dl]at a;cases n with
   | zero=>
    simp[cg]at a;rw[<-a,f]at b;exact(b rfl).elim
   | succ n=>
    by_cases g:d.1.1=2
    ·refine⟨d,by simp[bX,cg,g],λN=>?_⟩;have l:wd=d.1.2.2:=by
      rw[if_pos (show cg ⟨n+1,d⟩=2 from g)]at a;exact a.symm
     rw[l];exact sZ (br (n+1) _ d i (by simp)) g N
    ·rw[if_neg (show¬cg ⟨n+1,d⟩=2 from g)]at a;rw[<-a,f]at b;exact(b rfl).elim
 ·rw[if_neg e]at a;rw[<-a,f]at b;exact(b rfl).elim
theorem oA(l:List UInt8)(a:l≠[]):(⟨l.toArray⟩:aq).toList≠[]:=by rw[kZ];exact a
theorem nu(a:n<=M+1){y:Tm n}(b:aJ ⟨n,y⟩):aH (M+1) (bi (M+1) n y) n y=true:=nh (M+1) n a y (fR n y b)
theorem Lh{l:List h}{a:h}(b:l.length=1)(c:l[0]?=some a):l=[a]:=by
 match l,b with
 | [x],_=>simpa using c
theorem Li{l:List h}{a b:h}(e:l.length=2)(c:l[0]?=some a)(d:l[1]?=some b):l=[a,b]:=by
 match l,e with
 | [x,y],_=>
  simp at c d;rw[c,d]
theorem EL{l:List h}{a b c:h}(g:l.length=3)(d:l[0]?=some a)(e:l[1]?=some b)(f:l[2]?=some c):l=[a,b,c]:=by
 match l,g with
 | [x,y,z],_=>
  simp at d e f;rw[d,e,f]
theorem Iy{l:List h}{a b c d:h}(j:l.length=4)(e:l[0]?=some a)(f:l[1]?=some b)(g:l[2]?=some c)(i:l[3]?=some d):l=[a,b,c,d]:=by
 match l,j with
 | [x,y,z,t],_=>
  simp at e f g i;rw[e,f,g,i]
theorem LH(M:Nat):(n:Nat)->n<=M+1->(x:Tm n)->aJ ⟨n,x⟩->(a:Ac (M+1))->tG M n x=some a->aH (M+2) (cN M a) n x=true/\oN (M+1) a=true
 | 0,_,_,hr,_,_=>(dF hr).elim
 | n+1,hn,x,hr,a,h=>by
  have e:∀y∈bX n x,aJ ⟨n,y⟩:=λy E=>eN hr E;have w:fl (M+1) (zT M)=true:=by
   have t:ByteArray.empty.toList=[]:=by rw[cC];rfl
   simp[fl,gK,bP,zT,t]
  have u:xD .empty 0=true:=by
   have t:ByteArray.empty.toList=[]:=by rw[cC];rfl
   simp[xD,t]
  have get:∀(d:List (Tm n))(s:Nat),s<d.length->∃y,d[s]?=some y/\y∈d:=λd s z=>⟨d[s],aS z,gg z⟩;simp only[tG,ky]at h;split at h
  ·rename_i b;simp only[aO,cT]at b;obtain⟨k,j,l,m⟩:=ic hr b.1 (oA [115,101,110,100] (by simp));obtain⟨c,f,p⟩:=get _ 0 (by rw[b.2];omega);obtain⟨d,q,v⟩:=get _ 1 (by rw[b.2];omega);rw[f,q]at h;have i:a=(1,(bi (M+1) n c,bi (M+1) n d),(.empty,0)):=by simpa using h.symm
   have o:bX n x=[c,d]:=Li b.2 f q;subst i;refine⟨dB k.symm ?_,u⟩;rw[l,o];show aL _ [bO oK M,bi (M+1) n c,bi (M+1) n d] [j,c,d]=true;simp only[aL,m M,nu (M:=M) (by omega) (e c p),nu (M:=M) (by omega) (e d v),iJ]
  split at h
  ·rename_i b;simp only[aO,cT]at b;obtain⟨k,j,l,m⟩:=ic hr b.1 (oA [115,112,97,119,110] (by simp));obtain⟨c,f,p⟩:=get _ 0 (by rw[b.2];omega);obtain⟨d,q,v⟩:=get _ 1 (by rw[b.2];omega);obtain⟨g,B,A⟩:=get _ 2 (by rw[b.2];omega);rw[f,q,B]at h;simp only[dS,AJ]at h;split at h
   ·rename_i r;have i:a=(2,(zT M,bi (M+1) n d),(yB n c,qq n g)):=by simpa using h.symm
    have o:bX n x=[c,d,g]:=EL b.2 f q B;subst i;cases n with
    | zero=>exact(dF (e c p)).elim
    | succ n=>
    have D:=yW (e g A) r.2;have C:=rn (e c p) r.1;refine⟨dB k.symm ?_,?_⟩
    ·rw[l,o];show aL _ [bO kB M,bO c.1.2.2 M,bi (M+1) (n+1) d,cv 5 g.1.2.1 M] [j,c,d,g]=true;simp only[aL,m M,nu (M:=M) (by omega) (e d v),sZ (e c p) r.1 M,Mp (e g A) r.2 M,iJ]
    ·show (fl (M+1) (zT M) && eh c.1.2.2 && decide (0<=g.1.2.1) && decide (g.1.2.1<4))=true;rw[w,C.2.2,iu D.2.2.1,iu (by omega)];rfl
   ·cases h
  split at h
  ·rename_i b;simp only[aO,cT]at b;obtain⟨k,j,l,m⟩:=ic hr b.1 (oA [108,105,110,107] (by simp));obtain⟨c,f,p⟩:=get _ 0 (by rw[b.2];omega);rw[f]at h;have i:a=(3,(bi (M+1) n c,zT M),(.empty,0)):=by simpa using h.symm
   have o:bX n x=[c]:=Lh b.2 f;subst i;refine⟨dB k.symm ?_,?_⟩
   ·rw[l,o];show aL _ [bO oJ M,bi (M+1) n c] [j,c]=true;simp only[aL,m M,nu (M:=M) (by omega) (e c p),iJ]
   ·show (fl (M+1) (zT M) && xD .empty 0)=true;rw[w,u];rfl
  split at h
  ·rename_i b;simp only[aO,cT]at b;obtain⟨k,j,l,m⟩:=ic hr b.1 (oA [115,116,111,112] (by simp));have i:a=(4,(zT M,zT M),(.empty,0)):=by simpa using h.symm
   have o:bX n x=[]:=bZ b.2;subst i;refine⟨dB k.symm ?_,?_⟩
   ·rw[l,o];show aL _ [bO oL M] [j]=true;simp only[aL,m M,iJ]
   ·show (fl (M+1) (zT M) && fl (M+1) (zT M) && xD .empty 0)=true;rw[w,u];rfl
  ·cases h
theorem qv{b:Type}{f g:b->Bool}:{l:List b}->(∀x∈l,f x=g x)->l.all f=l.all g
 | [],_=>rfl
 | a::l,h=>by
  simp only[jv,h a (by simp),qv (l:=l) λx c=>h x (by simp[c])]
theorem pC{d:Type}{n N:Nat}{f:Tm n->Option d}{g:d->Tm N}{B:d->Bool}(e:∀x a,aJ ⟨n,x⟩->f x=some a->aH N (g a) n x=true/\B a=true):(p:List (Tm n))->(∀y∈p,aJ ⟨n,y⟩)->(l:List d)->cY f p=some l->aL (λa b=>aH N a n b) (l.map g) p=true/\l.all B=true/\l.length=p.length
 | [],_,l,c=>by
  simp[cY]at c;subst c;exact⟨rfl,rfl,rfl⟩
 | y::p,hr,l,c=>by
  simp only[cY]at c;obtain⟨a,k,c⟩:=cr.1 c;obtain⟨r,m,rfl⟩:=cH.1 c;obtain⟨h,i,j⟩:=pC e p (λt o=>hr t (by simp[o])) r m;obtain⟨q,s⟩:=e y a (hr y (by simp)) k;refine⟨?_,by simp[s,i],by simp[j]⟩;simp only[bz,aL,q,h,iJ]
theorem qZ(c:n<=M+1)(b:M+1<=N){y:Tm n}(d:aJ ⟨n,y⟩):aH N (bi N (M+1) (bi (M+1) n y)) n y=true:=by
 have a:=nu c d;exact bU _ _ _ _ _ _ (nh N (M+1) b _ (yZ a)) a
theorem LJ(M:Nat):(n:Nat)->n<=M+1->(x:Tm n)->aJ ⟨n,x⟩->(c:Cl (M+1))->AI M n x=some c->aH (M+4) (eA M c) n x=true/\vC (M+1) c=true
 | 0,_,_,hr,_,_=>(dF hr).elim
 | n+1,hn,x,hr,c,h=>by
  have d:∀y∈bX n x,aJ ⟨n,y⟩:=λy e=>eN hr e;have get:∀(q:List (Tm n))(i:Nat),i<q.length->∃y,q[i]?=some y/\y∈q:=λq i j=>⟨q[i],aS j,gg j⟩;simp only[AI,tH]at h;split at h
  ·rename_i b;simp only[aO,cT]at b;obtain⟨z,w,A,C⟩:=ic hr b.1 (oA [111,110] (by simp));obtain⟨p,k,m⟩:=get _ 0 (by rw[b.2];omega);obtain⟨q,o,I⟩:=get _ 1 (by rw[b.2];omega);obtain⟨r,u,f⟩:=get _ 2 (by rw[b.2];omega);obtain⟨t,v,J⟩:=get _ 3 (by rw[b.2];omega);rw[k,o,u,v]at h;simp only[dS]at h;split at h
   ·rename_i F;obtain⟨l,G,rfl⟩:=cH.1 h;have H:bX n x=[p,q,r,t]:=Iy b.2 k o u v;cases n with
    | zero=>exact(dF (d p m)).elim
    | succ n=>
    have s:r.1.1=4:=F;obtain⟨K,L,P⟩:=pC (g:=cN M) (B:=oN (M+1)) (λy a e E=>LH M n (by omega) y e a E) r.2.2 (λy e=>br n r y (d r f) e) l G;have O:=ny (d r f) s;refine⟨dB z.symm ?_,?_⟩
    ·rw[A,H];show aL _ [bO Ob (M+2),bi (M+3) (M+1) (bi (M+1) (n+1) p),bi (M+3) (M+1) (bi (M+1) (n+1) q),dR (M+2) (l.map (cN M)),bi (M+3) (M+1) (bi (M+1) (n+1) t)] [w,p,q,r,t]=true;have D:aH (M+3) (dR (M+2) (l.map (cN M))) (n+1) r=true:=dB (yV (d r f) s).symm K;simp only[aL,C (M+2),qZ (N:=M+3) (M:=M) (by omega) (by omega) (d p m),qZ (N:=M+3) (M:=M) (by omega) (by omega) (d q I),qZ (N:=M+3) (M:=M) (by omega) (by omega) (d t J),D,iJ]
    ·show (decide ((l.length:Int)<=8) && l.all (oN (M+1)))=true;rw[L,iu (by omega)];rfl
   ·cases h
  ·cases h
theorem LI(M:Nat):(n:Nat)->n<=M+1->(x:Tm n)->aJ ⟨n,x⟩->(b:Bh (M+1))->AH M n x=some b->aH (M+5) (eO M b) n x=true/\(eh b.1 && decide ((b.2.2.length:Int)<=6) && b.2.2.all (vC (M+1)))=true
 | 0,_,_,hr,_,_=>(dF hr).elim
 | n+1,hn,x,hr,b,a=>by
  have e:∀y∈bX n x,aJ ⟨n,y⟩:=λy d=>eN hr d;simp only[AH,uI]at a;split at a
  ·rename_i u;obtain⟨h,r,i,s⟩:=ic hr u (oA [98,101,104] (by simp));obtain⟨p,m,a⟩:=cr.1 a;split at a
   ·rename_i k;obtain⟨l,v,rfl⟩:=cH.1 a;have z:x.1.1=4:=by rw[h]
    have j:=ny hr z;generalize bX n x=f at*;cases f with
    | nil=>simp at m
    | cons c f=>
    have q:c=p:=by simpa using m
    subst q;cases n with
    | zero=>exact(dF (e c (by simp))).elim
    | succ n=>
    have w:=rn (e c (by simp)) k;obtain⟨A,C,D⟩:=pC (g:=eA M) (B:=vC (M+1)) (λy o d t=>LJ M (n+1) (by omega) y d o t) f (λy d=>e y (by simp[d])) l v;rw[i]at j;simp only[bt]at j;refine⟨dB h.symm ?_,?_⟩
    ·rw[i];show aL _ (bO xq (M+3)::bO c.1.2.2 (M+3)::l.map (eA M)) (r::c::f)=true;simp only[aL,s (M+3),sZ (e c (by simp)) k (M+3),A,iJ]
    ·show (eh c.1.2.2 && decide ((l.length:Int)<=6) && l.all (vC (M+1)))=true;rw[w.2.2,C,iu (by omega)];rfl
   ·cases a
  ·cases a
theorem sI(M:Nat):(n:Nat)->n<=M+1->(x:Tm n)->aJ ⟨n,x⟩->(l:List (Bh (M+1)))->xE M n x=some l->aH (M+6) (cW M l) n x=true/\lj (M+1) l=(decide (1<=(l.length:Int)) && l.all λb=>decide (1<=(b.2.2.length:Int)))
 | 0,_,_,hr,_,_=>(dF hr).elim
 | n+1,hn,x,hr,l,h=>by
  have r:∀y∈bX n x,aJ ⟨n,y⟩:=λy c=>eN hr c;simp only[xE]at h;split at h
  ·rename_i a;obtain⟨d,o,e,p⟩:=ic hr a (oA [99,111,100,101] (by simp));have s:x.1.1=4:=by rw[d]
   have f:=ny hr s;obtain⟨t,i,u⟩:=pC (g:=eO M) (B:=λb=>eh b.1 && decide ((b.2.2.length:Int)<=6) && b.2.2.all (vC (M+1))) (λy j c q=>LI M n (by omega) y c j q) (bX n x) r l h;rw[e]at f;simp only[bt]at f;refine⟨dB d.symm ?_,?_⟩
   ·rw[e];show aL _ (bO pw (M+4)::l.map (eO M)) (o::bX n x)=true;simp only[aL,p (M+4),t,iJ]
   ·have k:decide ((l.length:Int)<=7)=true:=iu (by omega);have m:l.all (xX (M+1))=l.all λb=>decide (1<=(b.2.2.length:Int)):=by
     rw[cX]at i;refine qv λb a=>?_;have:=i b a;simp only[aO]at this;simp only[xX,this.1.1,this.1.2,this.2,eS,Bool.and_true]
    simp only[lj,k,m,Bool.and_true]
  ·cases h
theorem ed{b:j}{q:List j}(c:aL f p (b::q)=true):∃a d,p=a::d/\f a b=true/\aL f d q=true:=by
 cases p with
 | nil=>simp[aL]at c
 | cons a p=>
  simp only[aL,aO]at c;exact⟨a,p,rfl,c.1,c.2⟩
theorem nz(a:aL f p ([]:List j)=true):p=[]:=by
 cases p with
 | nil=>rfl
 | cons b p=>simp[aL]at a
theorem LQ{x:Tm n}{y:Tm (m+1)}(a:aH n x (m+1) y=true):(gK n x).1=y.1:=(GI a).1
theorem oB{x:Tm (N+1)}{ys:List (Tm (n+1))}(j:aH (N+1) x (n+2) (dR (n+1) (bO wd n::ys))=true):fx N x=wd/\aL (λa b=>aH N a (n+1) b) (bX N x) ys=true:=by
 obtain⟨k,l⟩:=bT j;obtain⟨a,p,f,g,m⟩:=ed l;have c:x.1.1=4:=by rw[k];rfl
 have d:=LQ g;have h:cg ⟨N,a⟩=2:=by
  cases N with
  | zero=>simp[aH]at g
  | succ N=>
   have:a.1.1=2:=by
    have i:a.1=(2,0,wd):=d;rw[i]
   exact this
 have e:x.2.2[0]?=some a:=by rw[f];rfl
 have o:x.2.2.drop 1=p:=by rw[f];rfl
 constructor
 ·simp only[fx,c,cB,e,h];rw[d];rfl
 ·simp only[bX,c,cB,e,h,o];exact m
theorem lU(wd:aq):ui wd wd=true:=by simp[ui]
theorem uT{o g:Type}{n:Nat}{f:Tm n->Option o}{R:Tm n->g->Prop}{Q:o->g->Prop}(j:∀y b,R y b->∃a,f y=some a/\Q a b):(q:List (Tm n))->(l:List g)->e9 R q l->∃c,cY f q=some c/\e9 Q c l
 | [],[],_=>⟨[],rfl,e9.nil⟩
 | [],_::_,h=>by have:=h.1;simp at this
 | _::_,[],h=>by have:=h.1;simp at this
 | y::q,b::l,h=>by
  obtain⟨a,p,k⟩:=j y b h.tail.1;obtain⟨c,r,m⟩:=uT j q l h.tail.2;refine⟨a::c,by simp[cY,p,r],by simp[m.1],λi s v d e=>?_⟩;cases i with
  | zero=>
   simp at d e;subst d e;exact k
  | succ i=>exact m.2 i s v (by simpa using d) (by simpa using e)
theorem mA{e:Type}{n m:Nat}(g:e->Tm m):(q:List (Tm n))->(l:List e)->aL (λa b=>aH n a m b) q (l.map g)=true->e9 (λy b=>aH n y m (g b)=true) q l
 | [],[],_=>e9.nil
 | [],_::_,h=>by simp[aL]at h
 | _::_,[],h=>by simp[aL]at h
 | y::q,b::l,h=>by
  simp only[bz,aL,aO]at h;have ih:=mA g q l h.2;refine⟨by simp[ih.1],λi f v c d=>?_⟩;cases i with
  | zero=>
   simp at c d;subst c d;exact h.1
  | succ i=>exact ih.2 i f v (by simpa using c) (by simpa using d)
theorem lg{s:aq}(a:wd.toList≠s.toList):ui wd s=false:=by simpa [ui]using a
theorem Pp(M N n:Nat)(a:Ac (n+1))(y:Tm N)(b:aH N y (n+2) (cN n a)=true):∃E,tG M N y=some E:=by
 cases N with
 | zero=>simp[aH]at b
 | succ N=>
 have i:oK.toList=[115,101,110,100]:=kZ [115,101,110,100];have j:kB.toList=[115,112,97,119,110]:=kZ [115,112,97,119,110];have k:oJ.toList=[108,105,110,107]:=kZ [108,105,110,107];have l:oL.toList=[115,116,111,112]:=kZ [115,116,111,112];unfold cN at b;split at b
 ·obtain⟨c,d⟩:=oB b;obtain⟨s,t,f,r,h⟩:=ed d;obtain⟨B,C,o,z,q⟩:=ed h;have p:=nz q;subst o p;simp only[tG,ky,c,f,lU];exact⟨_,rfl⟩
 split at b
 ·obtain⟨c,d⟩:=oB b;obtain⟨s,t,f,r,h⟩:=ed d;obtain⟨B,C,o,z,q⟩:=ed h;obtain⟨D,F,p,A,v⟩:=ed q;have g:=nz v;subst o p g;have w:cg ⟨N,s⟩=2:=by rw[lk r];rfl
  have x:cg ⟨N,D⟩=5:=by rw[lk A];rfl
  have e:ui kB oK=false:=lg (by rw[i,j];decide);simp only[tG,ky,c,f,lU,e,Bool.false_and,eS];simp[AJ,w,x]
 split at b
 ·obtain⟨c,d⟩:=oB b;obtain⟨s,t,f,r,h⟩:=ed d;have g:=nz h;subst g;have e:ui oJ oK=false:=lg (by rw[i,k];decide);have m:ui oJ kB=false:=lg (by rw[j,k];decide);simp only[tG,ky,c,f,lU,e,m,Bool.false_and,eS];simp
 ·obtain⟨c,d⟩:=oB b;have g:=nz d;have e:ui oL oK=false:=lg (by rw[i,l];decide);have m:ui oL kB=false:=lg (by rw[j,l];decide);have u:ui oL oJ=false:=lg (by rw[k,l];decide);simp only[tG,ky,c,g,lU,e,m,u,Bool.false_and,eS];simp
theorem Pr(M N n:Nat)(c:Cl (n+1))(y:Tm N)(g:aH N y (n+4) (eA n c)=true):∃e,AI M N y=some e:=by
 cases N with
 | zero=>simp[aH]at g
 | succ N=>
 obtain⟨o,p⟩:=oB g;obtain⟨B,G,i,D,q⟩:=ed p;obtain⟨C,H,j,E,r⟩:=ed q;obtain⟨a,I,k,d,s⟩:=ed r;obtain⟨t,J,l,F,u⟩:=ed s;have m:=nz u;subst j k l m;have v:cg ⟨N,a⟩=4:=by rw[lk d];rfl
 cases N with
 | zero=>simp[aH]at d
 | succ N=>
 obtain⟨h,z,_⟩:=uT (f:=tG M N) (R:=λy b=>aH N y (n+2) (cN n b)=true) (Q:=λ_ _=>True) (λy b w=>by
  obtain⟨e,x⟩:=Pp M N n b y w
  exact⟨e,x,trivial⟩) a.2.2 c.2.2 (mA (cN n) _ _ (bT d).2)
 have A:cY (tG M (N+1-1)) (FZ (N+1) a)=some h:=z;refine⟨((bi (M+1) (N+1) B,bi (M+1) (N+1) C,bi (M+1) (N+1) t),(none,0),h),?_⟩;show tH M (N+1) (fx (N+1) y) (bX (N+1) y)=_;rw[o,i];unfold tH;rw[if_pos (by rw[lU];rfl)];show (if cg ⟨N+1,a⟩=4 then (cY (tG M (N+1-1)) (FZ (N+1) a)).map _ else none)=_;rw[if_pos v,A];rfl
theorem Pq(M N n:Nat)(b:Bh (n+1))(y:Tm N)(c:aH N y (n+5) (eO n b)=true):∃a,AH M N y=some a/\a.2.2.length=b.2.2.length:=by
 cases N with
 | zero=>simp[aH]at c
 | succ N=>
 obtain⟨g,h⟩:=oB c;obtain⟨d,q,e,p,i⟩:=ed h;have j:cg ⟨N,d⟩=2:=by rw[lk p];rfl
 obtain⟨r,o,k⟩:=uT (f:=AI M N) (R:=λy b=>aH N y (n+4) (eA n b)=true) (Q:=λ_ _=>True) (λy b l=>by
  obtain⟨a,m⟩:=Pr M N n b y l
  exact⟨a,m,trivial⟩) q b.2.2 (mA (eA n) _ _ i)
 refine⟨(yB N d,(none,0),r),?_,k.1⟩;simp only[AH,uI,g,e,lU];simp[j,o]
theorem Fg(M N n:Nat)(q:N<=M+1)(l:List (Bh (n+1)))(e:lj (n+1) l=true)(x:Tm N)(r:aJ ⟨N,x⟩)(i:aH N x (n+6) (cW n l)=true):∃a,xE M N x=some a/\lj (M+1) a=true/\a.length=l.length:=by
 cases N with
 | zero=>simp[aH]at i
 | succ N=>
 obtain⟨o,p⟩:=oB i;obtain⟨h,u,c⟩:=uT (f:=AH M N) (R:=λg b=>aH N g (n+5) (eO n b)=true) (Q:=λa b=>a.2.2.length=b.2.2.length) (λg b s=>Pq M N n b g s) (bX N x) l (mA (eO n) _ _ p);have m:xE M (N+1) x=some h:=by
  simp only[xE,o,lU];simpa using u
 refine⟨h,m,?_,c.1⟩;rw[(sI M (N+1) q x r h m).2];simp only[lj,xX,aO,cT,cX]at e ⊢;refine⟨by rw[c.1];exact e.1.1,λa t=>?_⟩;obtain⟨d,j⟩:=dh t;have k:d<l.length:=by have:=(aZ.1 j).1;rw[<-c.1];exact this
 have:=c.2 d a l[d] j (aS k);rw[this];exact(e.2 l[d] (gg k)).1.1.2
def vW(M:Nat)(o:Option (List (Bh (M+1)))):Int:=match o with|some l=>if lj (M+1) l=true then 0 else 5|none=>5
def sg(M n:Nat)(x:Tm n):Int:=if bJ n x=0 then vW M (xE M n x)else bJ n x
def uS(M:Nat)(E:Int)(o:Option (List (Bh (M+1))))(w:ah)(e:Ending)(w':ah):Prop:=
 ∃(l:List (Bh (M+1)))(a:aw)(c:Nat),e=.returned (.tuple #[af a l.length c,ae E])/\Hid (ap w w'/\(l.length<=c/\c<=maxLen)/\iV (M+1) w'.heap.size w' a l/\uD (kE (M+1) (λb=>w.heap.size<=b)) (λb=>w.heap.size<=b) a l/\(¬E=0->l=[])/\(E=0->∃d,o=some d/\e9 (xY (M+1)) l d))
theorem tq{E:Int}{o:Option (List (Bh (M+1)))}(a:¬E=0)(c:ap w w'):uS M E o w (.returned (.tuple #[af none 0 0,ae E])) w':=
 ⟨[],none,0,rfl,c,⟨ay _,aK _⟩,ak rfl,ak rfl,λ_=>rfl,λb=>(a b).elim⟩
theorem Ih(M:Nat)(k A:Int)(s:aq)(a:aw)(l c:Nat)(w:ah)(g:Int)(o:Option (List (Bh (M+1))))(E:Int)(J:Hid (E=if g=0 then vW M o else g))(Q:Hid (∀w1,ap w w1->au 53 #[.agg #[ae k,ae A,ag s,af a l c]] w1 λe w'=>e=.returned (ae g)/\ap w1 w'))(H:Hid (g=0->∀w1,ap w w1->au 80 #[.agg #[ae k,ae A,ag s,af a l c]] w1 (vo M o w1))):au 54 #[.agg #[ae k,ae A,ag s,af a l c]] w (uS M E o w):=by
 go_enter func54,ntmps54;go_wp2_with fail;refine(Q _ aX).mono ?_;rintro e w1 ⟨rfl,L⟩;have q:Hid (ap w w1):=aX.trans (L.mono (by simp));have j:=av (rX w _ _ _ _ _ L);clear L Q;by_cases z:g=0
 ·subst z;have S:=av (H (by simp) w1 q);have X:ai w1 w.heap.size 0 (ae k):=aA j 0;have Y:ai w1 w.heap.size 1 (ae A):=aA j 1;have Z:ai w1 w.heap.size 2 (ag s):=aA j 2;have aa:ai w1 w.heap.size 3 (af a l c):=aA j 3;have am:w.heap.size<w1.heap.size:=(aN.1 j).1;have D:=av (show E=vW M o by simpa using J.out);clear H J;go_wp2_with fail;refine S.mono ?_;rintro e B ⟨p,u,y,ak,rfl,i⟩;obtain⟨t,K⟩:∃t,p.length=t:=⟨_,rfl⟩;rw[K];have G:=av K;have r:Hid (ap w B):=q.trans (i.1.mono q.size);clear K S X Y Z aa j;cases ak
  ·have h:Hid (E=5):=by
     show E=5;rw[D.out];have d:=i.2.1;cases o with
     | none=>rfl
     | some f=>cases d
   have W:Hid (uS M E o w (.returned (.tuple #[af none 0 0,ae 5])) B):=by
    have d:=tq (M:=M) (E:=E) (o:=o) (by rw[h.out];omega) r;rw[h.out]at d;rw[h.out];exact d
   go_wp2_with fail;exact aB (v:=.tuple #[af none 0 0,ae 5]) (by simp[results,results54,go_sem]) rfl W
  ·have F:Hid (∀m,ap B m->au 81 #[af u t y] m λe w'=>e=.returned (.bool (lj (M+1) p))/\ap m w'):=λm T=>
     qy M p t G u y B.heap.size m (iV.below T i.2.2.2.1) (by have:=i.2.2.1;have:=G.out;unfold maxLen at*;omega) T.size
   obtain⟨b,x⟩:∃b,lj (M+1) p=b:=⟨_,rfl⟩;rw[x]at F;have R:=av x;clear x;have I:Hid (∃f,o=some f/\e9 (xY (M+1)) p f):=by
    have d:=i.2.1;cases o with
    | none=>cases d
    | some f=>exact⟨f,rfl,i.2.2.2.2.2 f rfl⟩
   cases b
   ·have h:Hid (E=5):=by
      show E=5;obtain⟨f,O,N⟩:=I.out;rw[D.out,O];show (if lj (M+1) f=true then (0:Int)else 5)=5;rw[<-LB N,R.out];rfl
    go_wp2_with (go_at_call 81;refine(F _ (aE _ _)).mono ?_;rintro e m ⟨rfl,n⟩;have C:=av (r.trans (n.mono r.size));clear n);refine aB (v:=.tuple #[af none 0 0,ae 5]) (by simp[results,results54,go_sem]) rfl ?_;have d:=tq (M:=M) (E:=E) (o:=o) (by rw[h.out];omega) C;rw[h.out]at d;rw[h.out];exact d
   ·have U:Hid (E=0):=by
      show E=0;obtain⟨f,O,N⟩:=I.out;rw[D.out,O];show (if lj (M+1) f=true then (0:Int)else 5)=0;rw[<-LB N,R.out];rfl
    go_wp2_with (go_at_call 81;refine(F _ (aE _ _)).mono ?_;rintro e m ⟨rfl,n⟩;have P:=av n;have C:=av (r.trans (n.mono r.size));clear n);refine aB (v:=.tuple #[af u t y,ae 0]) (by simp[results,results54,go_sem]) rfl ?_;obtain⟨an,ao,ab,ad,aj,ar⟩:=i;rw[U.out];exact⟨p,u,y,by rw[G.out],C,ab,(iV.below P ad).mono P.size,(cZ (eK _) 2 (rJ (M+1)) u).1 _ _ _ (λb x=>aD q.size x) aj,λd=>(d rfl).elim,λ_=>I⟩
 ·have al:(g !=0)=true:=by simpa using z
  have V:Hid (E=g):=by
   show E=g;rw[J.out,if_neg z]
  clear H j;go_wp2_with fail;refine aB (v:=.tuple #[af none 0 0,ae g]) (by simp[results,results54,go_sem]) rfl ?_;rw[V.out];exact tq z q
theorem Ch(M n:Nat)(g:n<=M+1)(x:Tm n)(B:Nat)(w:ah)(c:In B w n x)(f:(aF n x).length<=2097152)(b:B<=w.heap.size):au 54 #[dE n x] w (uS M (sg M n x) (xE M n x) w):=by
 cases n with
 | zero=>exact c.elim
 | succ n=>
 exact Ih M x.1.1 x.1.2.1 x.1.2.2 x.2.1.1 x.2.2.length x.2.1.2 w (bJ (n+1) x) _ _ rfl (λd a=>dV (n+1) x B d (c.below (a.mono b)) (aD b a.size) f) (λe d a=>AS M (n+1) g x B d (c.below (a.mono b)) (aW.2 (bS.1 e).1) (aD b a.size))
theorem iY{x:Tm n}(a:bJ n x=0):aJ ⟨n,x⟩:=aW.2 (bS.1 a).1
theorem gO{p:List (Bh (n+1))}(b:oI n p=0):lj (n+1) p=true/\bJ (n+6) (cW n p)=0/\Jt n p=cW n p:=by
 have a:=b;unfold oI at a;split at a
 ·rename_i c;exact⟨c,a,by unfold Jt;rw[if_pos b]⟩
 ·omega
theorem Md{p:List (Bh (n+1))}(a:lj (n+1) p=true)(k:bJ (n+6) (cW n p)=0):oI n p=0:=by
 unfold oI;rw[if_pos a];exact k
theorem yU(i:n<=M+1){x:Tm n}(e:bJ n x=0){a l:List (Bh (M+1))}(j:xE M n x=some a)(f:e9 (xY (M+1)) l a)(h:lj (M+1) a=true):lj (M+1) l=true/\oI M l=0/\aH (M+6) (Jt M l) n x=true/\(aF (M+6) (cW M l)).length=(aF n x).length:=by
 have g:=sI M n i x (iY e) a j;have c:lj (M+1) l=true:=(LB f).trans h;have b:aH (M+6) (cW M l) n x=true:=bU _ _ _ _ _ _ (LC f) g.1;have d:oI M l=0:=Md c ((bN b).trans e);exact⟨c,d,by rw[(gO d).2.2];exact b,lm _ _ _ _ b⟩
theorem Jv{p:List (Bh (n+1))}(i:oI n p=0){y:Tm (n+6)}(a:aH (n+6) y (n+6) (Jt n p)=true):bJ (n+6) y=0/\sg (n+5) (n+6) y=0/\∀e l,xE (n+5) (n+6) y=some e->e9 (xY (n+6)) l e->lj (n+6) l=true/\oI (n+5) l=0/\aH (n+11) (Jt (n+5) l) (n+6) (Jt n p)=true/\l.length=p.length/\(aF (n+11) (cW (n+5) l)).length=(aF (n+6) (cW n p)).length:=by
 obtain⟨j,k,f⟩:=gO i;rw[f]at a;have b:bJ (n+6) y=0:=(bN a).trans k;obtain⟨e,d,h,m⟩:=Fg (n+5) (n+6) n (ay _) p j y (iY b) a;refine⟨b,?_,λt l c g=>?_⟩
 ·unfold sg;rw[if_pos b,d];unfold vW;simp only[h,cB]
 ·rw[d]at c;injection c with c;subst c;obtain⟨o,q,r,s⟩:=yU (ay _) b d g h;exact⟨o,q,by rw[f];exact bU _ _ _ _ _ _ r a,g.1.trans m,by rw[s];exact lm _ _ _ _ a⟩
theorem tw{p:List (Tm n)}(c:aL (λa b=>aH n a e b) p q=true)(s:aq)(k:Nat):uX n p s k=uX e q s k:=by
 unfold uX;rw[cV _ _ _ c];cases p with
 | nil=>
  cases q with
  | nil=>rfl
  | cons b q=>simp[aL]at c
 | cons a p=>
  cases q with
  | nil=>simp[aL]at c
  | cons b q=>
   simp only[aL,aO]at c;have d:(gK n a).1=(gK e b).1:=by
    cases n with
    | zero=>exact absurd c.1 (by simp[aH])
    | succ n=>
     cases e with
     | zero=>exact absurd c.1 (by simp[aH])
     | succ e=>exact(bT c.1).1
   simp only[dl,(lQ _ _ _ _ c.1).1,d]
theorem rV{p:List (Tm n)}(f:aL (λa b=>aH n a e b) p q=true)(i:Nat):(p[i]?=none/\q[i]?=none)\/∃a b,p[i]?=some a/\q[i]?=some b/\aH n a e b=true/\a∈p/\b∈q:=by
 have h:=cV _ _ _ f;by_cases g:i<p.length
 ·have c:=aS g;have d:=aS (show i<q.length by omega);exact am ⟨_,_,c,d,jY _ _ _ f _ _ _ c d,aR c,aR d⟩
 ·exact ak ⟨fq (by omega),fq (by omega)⟩
theorem Bo{n i N M:Nat}(f:Tm n->Option (Tm N))(g:Tm i->Option (Tm M)):(p:List (Tm n))->(q:List (Tm i))->aL (λa b=>aH n a i b) p q=true->(∀a∈p,∀b∈q,aH n a i b=true->fS N M (f a) (g b))->fS (N+1) (M+1) ((cY f p).map (dR N)) ((cY g q).map (dR M))/\((cY f p=none/\cY g q=none)\/∃l r,cY f p=some l/\cY g q=some r/\aL (λa b=>aH N a M b) l r=true)
 | [],[],_,_=>⟨by simp[cY,fS,aH,dR,aL],am ⟨[],[],rfl,rfl,rfl⟩⟩
 | [],_::_,h,_=>by simp[aL]at h
 | _::_,[],h,_=>by simp[aL]at h
 | a::p,b::q,d,h=>by
  simp only[aL,aO]at d;have c:=h a (by simp) b (by simp) d.1;have s:=(Bo f g p q d.2 λx t y u=>h x (by simp[t]) y (by simp[u])).2;simp only[cY];cases e1:f a with
  | none=>
   rw[e1]at c;cases e:g b with
   | none=>simp[fS]
   | some _=>rw[e]at c;exact c.elim
  | some o=>
   rw[e1]at c;cases e:g b with
   | none=>rw[e]at c;exact c.elim
   | some v=>
    rw[e]at c;have d:aH N o M v=true:=c;rcases s with⟨j,k⟩|⟨l,r,j,k,m⟩
    ·rw[j,k];simp[fS]
    ·rw[j,k];exact⟨by simp[fS,aH,dR,aL,d,m],am ⟨o::l,v::r,rfl,rfl,by simp[aL,d,m]⟩⟩
theorem A5(m:Nat)(b:List (Tm m))(i:Nat)(k:List (Tm i))(self:Int)(u:aL (λx y=>aH m x i y) b k=true)(z:∀y∈b,aJ ⟨m,y⟩)(A:∀y∈k,aJ ⟨i,y⟩):(n:Nat)->(x:Tm n)->(d:Nat)->(x':Tm d)->aJ ⟨n,x⟩->aJ ⟨d,x'⟩->aH n x d x'=true->fS (m+n) (i+d) (vl m b self n x) (vl i k self d x')
 | 0,_,_,_,_,_,h=>by simp[aH]at h
 | _+1,_,0,_,_,_,h=>by simp[aH]at h
 | n+1,x,d+1,x',hx,hx',h=>by
  obtain⟨H,j⟩:=bT h;unfold vl;rw[<-H];by_cases s:x.1.1=5
  ·rw[if_pos s,if_pos s];rcases rV u x.1.2.1.toNat with⟨e,f⟩|⟨y,F,e,f,C,p,q⟩
   ·rw[e,f];trivial
   ·rw[e,f];simp only[dS];rw[<-(lQ _ _ _ _ C).1];by_cases g:cg ⟨m,y⟩=6
    ·rw[if_pos g,if_pos g];trivial
    ·rw[if_neg g,if_neg g];exact jg (by omega) (by omega) (z y p) (A _ q) C
  ·rw[if_neg s,if_neg s];by_cases g:x.1.1=6
   ·rw[if_pos g,if_pos g];trivial
   ·rw[if_neg g,if_neg g];by_cases r:x.1.1=4
    ·rw[if_pos r,if_pos r,<-tw j,<-tw j,<-tw j];by_cases B:uX n x.2.2 qE 0=true
     ·rw[if_pos B,if_pos B];simp[fS,aH,cv,aL]
     ·rw[if_neg B,if_neg B];by_cases t:uX n x.2.2 A6 2=true
      ·rw[if_pos t,if_pos t];rcases rV j 1 with⟨e,f⟩|⟨a,o,e,f,l,p,q⟩
       ·rw[e,f];trivial
       ·rcases rV j 2 with⟨D,E⟩|⟨c,G,D,E,K,M,N⟩
        ·rw[e,f,D,E];trivial
        ·rw[e,f,D,E];simp only[dS];exact oo (A5 m b i k self u z A n a d o (br n x a hx p) (br d x' o hx' q) l) λO v I=>oo (A5 m b i k self u z A n c d G (br n x c hx M) (br d x' G hx' N) K) λP Q J=>zm I J
      ·rw[if_neg t,if_neg t];by_cases w:uX n x.2.2 DC 1=true
       ·rw[if_pos w,if_pos w];rcases rV j 1 with⟨e,f⟩|⟨a,o,e,f,l,p,q⟩
        ·rw[e,f];trivial
        ·rw[e,f];simp only[dS,cF _ _ _ _ l];cases aV d o
         ·simp[fS]
         ·exact jg (by omega) (by omega) (br n x a hx p) (br d x' o hx' q) l
       ·rw[if_neg w,if_neg w];exact(Bo _ _ x.2.2 x'.2.2 j λy C F L l=>A5 m b i k self u z A n y d F (br n x y hx C) (br d x' F hx' L) l).1
    ·rw[if_neg r,if_neg r];exact jg (by omega) (by omega) hx hx' h
theorem GP{B:List Tc}(b:∀y∈B,aJ ⟨13,y⟩)(self:Int){x:Tm n}{x':Tm e}(g:aJ ⟨n,x⟩)(h:aJ ⟨e,x'⟩)(d:aH n x e x'=true):tQ B self n x=tQ B self e x':=by
 have f:aL (λx y=>aH 13 x 13 y) B B=true:=jp _ _ λy i=>fR 13 y (b y i);have k:=A5 13 B 13 B self f b b n x e x' g h d;unfold tQ;cases e1:vl 13 B self n x with
 | none=>
  rw[e1]at k;cases a:vl 13 B self e x' with
  | none=>rfl
  | some _=>rw[a]at k;exact k.elim
 | some j=>
  rw[e1]at k;cases a:vl 13 B self e x' with
  | none=>rw[a]at k;exact k.elim
  | some l=>
   rw[a]at k;have c:aH (13+n) j (13+e) l=true:=k;simp only[dS];rw[bN c,gA c]
def Qr(k:Nat)(d:Dg):Prop:=(∀y∈d.b,aJ ⟨13,y⟩)/\1<=d.next/\d.next+k<=100
theorem ux(a:Ac (n+1)):(a.1=1/\(cN n a).2.2=[bO oK n,a.2.1.1,a.2.1.2])\/(a.1=2/\(cN n a).2.2=[bO kB n,bO a.2.2.1 n,a.2.1.2,cv 5 a.2.2.2 n])\/(a.1=3/\(cN n a).2.2=[bO oJ n,a.2.1.1])\/((a.1≠1/\a.1≠2/\a.1≠3)/\(cN n a).2.2=[bO oL n]):=by
 unfold cN;by_cases b:a.1=1
 ·exact ak ⟨b,by rw[if_pos b];rfl⟩
 ·by_cases c:a.1=2
  ·exact am (ak ⟨c,by rw[if_neg b,if_pos c];rfl⟩)
  ·by_cases d:a.1=3
   ·exact am (am (ak ⟨d,by rw[if_neg b,if_neg c,if_pos d];rfl⟩))
   ·exact am (am (am ⟨⟨b,c,d⟩,by rw[if_neg b,if_neg c,if_neg d];rfl⟩))
theorem I4{a:Int}(d:1<=a/\a<=99):aJ ⟨13,E8 a⟩:=by
 intro c b;have b:c∈[(((3,a,.empty),(none,0,0)):Nd)]:=b;obtain rfl:=dN.1 b;simp[cJ,qW,d]
theorem KB{a:Ac (n+1)}{b:Ac (m+1)}(c:aH (n+2) (cN n a) (m+2) (cN m b)=true)(v:aJ ⟨n+2,cN n a⟩)(w:aJ ⟨m+2,cN m b⟩)(self:Int){d:Dg}(y:Qr (k+1) d):r8 self a d=r8 self b d/\∀h,r8 self a d=some h->Qr k h:=by
 obtain⟨_,e⟩:=bT c;have E:=λl j=>br (n+1) (cN n a) l v j;have F:=λl j=>br (m+1) (cN m b) l w j;have u:=cV _ _ _ e;obtain⟨d1,d2,d3⟩:=y;have i:∀{x:Tm (n+1)}{x':Tm (m+1)},x∈(cN n a).2.2->x'∈(cN m b).2.2->aH (n+1) x (m+1) x'=true->tQ d.b self (n+1) x=tQ d.b self (m+1) x':=λz A B=>GP d1 self (E _ z) (F _ A) B;rcases ux a with⟨f,o⟩|⟨f,o⟩|⟨f,o⟩|⟨f,o⟩<;>rcases ux b with⟨g,p⟩|⟨g,p⟩|⟨g,p⟩|⟨g,p⟩<;>rw[o,p]at u e i
 case inl.inl=>
  simp only[aL,aO,gS]at e;have q:=i (x:=a.2.1.1) (x':=b.2.1.1) (by simp) (by simp) e.2.1;have r:=i (x:=a.2.1.2) (x':=b.2.1.2) (by simp) (by simp) e.2.2;unfold r8;rw[if_pos f,if_pos g,r];unfold og;rw[q];refine⟨rfl,λh c=>?_⟩;obtain⟨G,_,c⟩:=cr.1 c;obtain⟨t,_,rfl⟩:=cH.1 c;exact⟨d1,d2,by simp only;omega⟩
 case inr.inl.inr.inl=>
  simp only[aL,aO,gS]at e;have r:=i (x:=a.2.1.2) (x':=b.2.1.2) (by simp) (by simp) e.2.2.1;have C:a.2.2.1=b.2.2.1:=by
   have:=(bT e.2.1).1;simpa [bO]using this
  have D:a.2.2.2=b.2.2.2:=by
   have:=(bT e.2.2.2).1;simpa [cv]using this
  unfold r8;rw[if_neg (show¬a.1=1 by omega),if_neg (show¬b.1=1 by omega),if_pos f,if_pos g,r,C,D];refine⟨rfl,λh c=>?_⟩;obtain⟨t,_,c⟩:=cr.1 c;split at c
  ·obtain rfl:=aG c;refine⟨λl j=>?_,by simp only;omega,by simp only;omega⟩;rcases tX j with s|s
   ·exact d1 l s
   ·rw[s];exact I4 (by omega)
  ·cases c
 case inr.inr.inl.inr.inr.inl=>
  simp only[aL,aO,gS]at e;have q:=i (x:=a.2.1.1) (x':=b.2.1.1) (by simp) (by simp) e.2;unfold r8;rw[if_neg (show¬a.1=1 by omega),if_neg (show¬b.1=1 by omega),if_neg (show¬a.1=2 by omega),if_neg (show¬b.1=2 by omega),if_pos f,if_pos g];unfold og;rw[q];refine⟨rfl,λh c=>?_⟩;obtain⟨G,_,rfl⟩:=cH.1 c;exact⟨d1,d2,by simp only;omega⟩
 case inr.inr.inr.inr.inr.inr=>
  unfold r8;rw[if_neg f.1,if_neg g.1,if_neg f.2.1,if_neg g.2.1,if_neg f.2.2,if_neg g.2.2];refine⟨rfl,λh c=>?_⟩;obtain rfl:=aG c;exact⟨d1,d2,by simp only;omega⟩
 all_goals exact absurd u (by simp)
theorem BY{n m:Nat}(self:Int):(l:List (Ac (n+1)))->(r:List (Ac (m+1)))->aL (λx y=>aH (n+2) x (m+2) y) (l.map (cN n)) (r.map (cN m))=true->(∀a∈l,aJ ⟨n+2,cN n a⟩)->(∀b∈r,aJ ⟨m+2,cN m b⟩)->∀{d:Dg},Qr l.length d->qS self l d=qS self r d/\∀f,qS self l d=some f->∀y∈f.b,aJ ⟨13,y⟩
 | [],[],_,_,_,d,hd=>⟨rfl,λf c=>by obtain rfl:=aG c;exact hd.1⟩
 | [],_::_,c,_,_,_,_=>by simp[aL]at c
 | _::_,[],c,_,_,_,_=>by simp[aL]at c
 | a::l,b::r,c,ha,hb,d,hd=>by
  simp only[bz,aL,aO]at c;obtain⟨h,i⟩:=KB c.1 (ha a (by simp)) (hb b (by simp)) self hd;unfold qS;rw[<-h];cases e:r8 self a d with
  | none=>exact⟨rfl,λ_ c=>by cases c⟩
  | some f=>exact BY self l r c.2 (λx g=>ha x (by simp[g])) (λx g=>hb x (by simp[g])) (i f e)
def PF{n m:Nat}(c:Cl (n+1))(a:Cl (m+1)):Prop:=(aH (n+1) c.1.1 (m+1) a.1.1=true/\aH (n+1) c.1.2.1 (m+1) a.1.2.1=true/\aH (n+1) c.1.2.2 (m+1) a.1.2.2=true)/\aL (λx y=>aH (n+2) x (m+2) y) (c.2.2.map (cN n)) (a.2.2.map (cN m))=true
theorem pu{x:Tm (n+1)}{y:Tm (m+1)}(b:bJ (n+1) x=0)(c:bJ (m+1) y=0)(a:aH (n+3) (bi (n+3) (n+1) x) (m+3) (bi (m+3) (m+1) y)=true):aH (n+1) x (m+1) y=true:=
 bU _ _ _ _ _ _ (dD _ _ _ _ (fQ (n+3) (n+1) (by omega) x (aW.2 (bS.1 b).1))) (bU _ _ _ _ _ _ a (fQ (m+3) (m+1) (by omega) y (aW.2 (bS.1 c).1)))
theorem MT{c:Cl (n+1)}{a:Cl (m+1)}(f:aH (n+4) (eA n c) (m+4) (eA m a)=true)(b:qI c)(d:qI a):PF c a:=by
 obtain⟨_,e⟩:=bT f;simp only[eA,dR,aL,aO,gS]at e;obtain⟨_,g,h,i,j⟩:=e;exact⟨⟨pu b.1 d.1 g,pu b.2.1 d.2.1 h,pu b.2.2.1 d.2.2.1 j⟩,(bT i).2⟩
theorem MJ:nU.length=4/\∀y∈nU,DQ y:=by
 refine⟨rfl,λy a=>?_⟩;simp only[nU,oO,b9]at a;obtain⟨c,b,rfl⟩:=a;rw[List.eq_of_mem_replicate b];exact⟨by kernel_rfl,ak rfl⟩
theorem Hx{c:Cl (n+1)}{e:Cl (m+1)}(f:PF c e){s t:Tc}(j:bJ 13 s=0/\aV 13 s=true)(k:bJ 13 t=0/\aV 13 t=true):mi c s t=mi e s t/\∀b,mi c s t=some b->∀y∈b,aJ ⟨13,y⟩:=by
 have r:aH 13 s 13 s=true:=fR _ _ (aW.2 (bS.1 j.1).1);have u:aH 13 t 13 t=true:=fR _ _ (aW.2 (bS.1 k.1).1);have a:=mY _ c.1.1 13 s _ e.1.1 13 s nU nU f.1.1 r vv;unfold mi;cases e1:ja (n+1) c.1.1 13 s nU with
 | none=>
  rw[e1]at a;cases g:ja (m+1) e.1.1 13 s nU with
  | none=>exact⟨rfl,λ_ f=>by cases f⟩
  | some _=>rw[g]at a;exact a.elim
 | some b=>
  rw[e1]at a;cases g:ja (m+1) e.1.1 13 s nU with
  | none=>rw[g]at a;exact a.elim
  | some i=>
   rw[g]at a;have q:=lO DQ ph _ c.1.1 13 s ⟨j.1,am j.2⟩ _ _ MJ e1;have d:=mY _ c.1.2.1 13 t _ e.1.2.1 13 t b i f.1.2.1 u a;simp only[dS];cases e3:ja (n+1) c.1.2.1 13 t b with
   | none=>
    rw[e3]at d;cases h:ja (m+1) e.1.2.1 13 t i with
    | none=>exact⟨rfl,λ_ f=>by cases f⟩
    | some _=>rw[h]at d;exact d.elim
   | some x=>
    rw[e3]at d;cases h:ja (m+1) e.1.2.1 13 t i with
    | none=>rw[h]at d;exact d.elim
    | some z=>
     rw[h]at d;refine⟨by simp only[lI];rw[Kp d],λw l y o=>?_⟩;obtain rfl:=aG l;obtain⟨v,p,rfl⟩:=b9.1 o;exact aW.2 (bS.1 (oU ((lO DQ ph _ c.1.2.1 13 t ⟨k.1,am k.2⟩ _ _ q e3).2 v p).1)).1
theorem s8{n m:Nat}(name:aq):(l:List (Bh (n+1)))->(r:List (Bh (m+1)))->aL (λx y=>aH (n+5) x (m+5) y) (l.map (eO n)) (r.map (eO m))=true->(gE (n+1) name l=none/\gE (m+1) name r=none)\/∃b a,gE (n+1) name l=some b/\gE (m+1) name r=some a/\aL (λx y=>aH (n+4) x (m+4) y) (b.2.2.map (eA n)) (a.2.2.map (eA m))=true/\b∈l/\a∈r
 | [],[],_=>ak ⟨rfl,rfl⟩
 | [],_::_,h=>by simp[aL]at h
 | _::_,[],h=>by simp[aL]at h
 | b::l,a::r,h=>by
  simp only[bz,aL,aO]at h;obtain⟨_,f⟩:=bT h.1;simp only[eO,dR,aL,aO]at f;have e:b.1=a.1:=by
   have:=(bT f.2.1).1;simpa [bO]using this
  unfold gE;rw[e];by_cases d:a.1=name
  ·rw[if_pos d,if_pos d];exact am ⟨b,a,rfl,rfl,f.2.2,by simp,by simp⟩
  ·rw[if_neg d,if_neg d];rcases s8 name l r h.2 with k|⟨c,g,i,j,o,p,q⟩
   ·exact ak k
   ·exact am ⟨c,g,i,j,o,by simp[p],by simp[q]⟩
theorem yf{n m:Nat}{s t:Tc}(o:bJ 13 s=0/\aV 13 s=true)(p:bJ 13 t=0/\aV 13 t=true):(l:List (Cl (n+1)))->(r:List (Cl (m+1)))->aL (λx y=>aH (n+4) x (m+4) y) (l.map (eA n)) (r.map (eA m))=true->(∀c∈l,qI c)->(∀c∈r,qI c)->(mV s t l=none/\mV s t r=none)\/∃c a b,mV s t l=some (c,b)/\mV s t r=some (a,b)/\PF c a/\(c∈l/\a∈r)/\∀y∈b,aJ ⟨13,y⟩
 | [],[],_,_,_=>ak ⟨rfl,rfl⟩
 | [],_::_,h,_,_=>by simp[aL]at h
 | _::_,[],h,_,_=>by simp[aL]at h
 | c::l,a::r,h,hl,hr=>by
  simp only[bz,aL,aO]at h;have j:=MT h.1 (hl c (by simp)) (hr a (by simp));obtain⟨g,i⟩:=Hx j o p;unfold mV;rw[<-g];cases e:mi c s t with
  | some b=>exact am ⟨c,a,b,rfl,rfl,j,⟨by simp,by simp⟩,i b e⟩
  | none=>
   rcases yf o p l r h.2 (λx f=>hl x (by simp[f])) (λx f=>hr x (by simp[f]))with k|⟨d,u,b,g,i,v,q,w⟩
   ·exact ak k
   ·exact am ⟨d,u,b,g,i,v,⟨by simp[q.1],by simp[q.2]⟩,w⟩
theorem vB{n m:Nat}{s:Tc}(k:bJ 13 s=0/\aV 13 s=true){l:List (Cl (n+1))}{r:List (Cl (m+1))}(f:aL (λx y=>aH (n+4) x (m+4) y) (l.map (eA n)) (r.map (eA m))=true)(g:∀c∈l,qI c)(h:∀c∈r,qI c):(ms:List Tc)->(∀t∈ms,bJ 13 t=0/\aV 13 t=true)->(i:Nat)->(td l s ms i=none/\td r s ms i=none)\/∃j c a b,td l s ms i=some (j,c,b)/\td r s ms i=some (j,a,b)/\PF c a/\(c∈l/\a∈r)/\∀y∈b,aJ ⟨13,y⟩
 | [],_,_=>ak ⟨rfl,rfl⟩
 | t::ms,ht,i=>by
  unfold td;rcases yf k (ht t (by simp)) l r f g h with⟨d,e⟩|⟨c,a,b,d,e,p⟩
  ·rw[d,e];exact vB k f g h ms (λx o=>ht x (by simp[o])) (i+1)
  ·rw[d,e];exact am ⟨i,c,a,b,rfl,rfl,p⟩
theorem GZ{c:Cl (n+1)}(d:bJ (n+3) (dR (n+2) (c.2.2.map (cN n)))=0):∀a∈c.2.2,aJ ⟨n+2,cN n a⟩:=λa b=>aW.2 (bS.1 (fV d (by simp only[dR];exact jA b))).1
theorem Ie{c:Cl (n+1)}{f:Cl (m+1)}(h:PF c f)(g:qI c/\∀a∈c.2.2,aJ ⟨n+2,cN n a⟩)(i:qI f/\∀a∈f.2.2,aJ ⟨m+2,cN m a⟩)(room self next:Int)(k:1<=next/\next<=92)(s t:Tc)(ms:List Tc){b:List Tc}(j:∀y∈b,aJ ⟨13,y⟩):fG room self next s t ms c b=fG room self next s t ms f b:=by
 have p:=g.1.2.2.2.1;obtain⟨l,o⟩:=BY self c.2.2 f.2.2 h.2 g.2 i.2 (d:=⟨b,next,[],[],[],false⟩) ⟨j,k.1,by simp only;omega⟩;unfold fG;rw[<-l];cases e:qS self c.2.2 ⟨b,next,[],[],[],false⟩with
 | none=>rfl
 | some d=>
  have:=GP (o d e) self (aW.2 (bS.1 g.1.2.2.1).1) (aW.2 (bS.1 i.1.2.2.1).1) h.1.2.2;simp only[this]
theorem yR{p:List (Bh (n+1))}(d:oI n p=0):∀b∈p,∀c∈b.2.2,qI c/\∀a∈c.2.2,aJ ⟨n+2,cN n a⟩:=λb e c f=>by
 have g:=(gO d).2.1;have h:bJ (n+5) (eO n b)=0:=fV g (by simp only[cW,dR];exact b8 _ (jA e));have i:bJ (n+4) (eA n c)=0:=fV h (by simp only[eO,dR];exact b8 _ (b8 _ (jA f)));exact⟨((GC d).2 b e).2 c f,GZ (vz i 3 rfl)⟩
theorem xk{P:List (Bh (n+1))}{Q:List (Bh (m+1))}(b:aH (n+6) (cW n P) (m+6) (cW m Q)=true):aL (λx y=>aH (n+5) x (m+5) y) (P.map (eO n)) (Q.map (eO m))=true:=by
 obtain⟨_,a⟩:=bT b;simp only[cW,dR,aL,aO]at a;exact a.2
theorem wj{P:List (Bh (n+1))}{Q:List (Bh (m+1))}(d:aH (n+6) (cW n P) (m+6) (cW m Q)=true)(nm:aq):lV n P nm=lV m Q nm:=by
 unfold lV;rcases s8 nm P Q (xk d)with⟨a,c⟩|⟨b,e,a,c,_⟩<;>rw[a,c]<;>rfl
theorem Jl{P:List (Bh (n+1))}{Q:List (Bh (m+1))}(y:aH (n+6) (cW n P) (m+6) (cW m Q)=true)(z:oI n P=0)(A:oI m Q=0)(room:Int)(nm:aq)(self next:Int)(B:1<=next/\next<=92){s:Tc}(w:bJ 13 s=0/\aV 13 s=true){ms:List Tc}(v:∀t∈ms,bJ 13 t=0/\aV 13 t=true):ou room P nm self next s ms=ou room Q nm self next s ms:=by
 have p:=yR z;have q:=yR A;have key:(td (gJ nm P) s ms 0=none/\td (gJ nm Q) s ms 0=none)\/∃f c a b,td (gJ nm P) s ms 0=some (f,c,b)/\td (gJ nm Q) s ms 0=some (f,a,b)/\PF c a/\((qI c/\∀i∈c.2.2,aJ ⟨n+2,cN n i⟩)/\qI a/\∀i∈a.2.2,aJ ⟨m+2,cN m i⟩)/\∀H∈b,aJ ⟨13,H⟩:=by
  unfold gJ;rcases s8 nm P Q (xk y)with⟨d,e⟩|⟨b,u,d,e,o,g,h⟩
  ·rw[d,e];rcases vB w (l:=([]:List (Cl (n+1)))) (r:=([]:List (Cl (m+1)))) rfl (by simp) (by simp) ms v 0 with k|⟨_,_,_,_,_,_,_,k,_⟩
   ·exact ak k
   ·cases k.1
  ·rw[d,e];rcases vB w o (λc j=>(p b g c j).1) (λc j=>(q u h c j).1) ms v 0 with k|⟨f,c,a,G,C,D,E,x,F⟩
   ·exact ak k
   ·exact am ⟨f,c,a,G,C,D,E,⟨p b g c x.1,q u h a x.2⟩,F⟩
 unfold ou;rcases key with⟨d,e⟩|⟨f,c,a,b,d,e,o,g,h⟩
 ·rw[d,e];rfl
 ·rw[d,e];simp only[dS];congr 1;funext t;exact Ie o g.1 g.2 room self next B s t _ h
variable {P:Program} {md:Region.Mode} {ops:Array Oper} {Q:Exit->Act->bE} {S:bE} {X:Nat}
theorem Mw(i:Nat){d:Oper}{f:Array Bool}{a:Act}(l:ops[i]?=some d)(b:(Region.noSelect ops && Region.free md ops f i && (Region.ready md ops f).contains i && A7 md ops X i)=true)(h:∀c a w,Q (.panic c) (a.put d.dst v) w->Q (.panic c) a w)(k:d.guard=none)(m:∀w,S w->(execOp a.eval d).run P w=.ok (.value v) w)(j:S w)(g:kC P md ops Q S X e (f.setIfInBounds i true) (a.put d.dst v) w):kC P md ops Q S X (e+1) f a w:=by
 simp only[aO]at b;exact bq l b.1.1.1 b.1.1.2 b.1.2 b.2 h k m j g
theorem KT:(Tryz.prog.info? 101).map (λi=>(i.zero,i.size,i.bytes))=some (some (.agg #[.string ⟨#[]⟩,.int .i64 0,.int .i64 0,.int .i64 0,.int .i64 0,.string ⟨#[]⟩,.slice none 0 0]),7,88):=by kernel_rfl
def On(base:Nat)(wt:ByteArray)(a b:Int)(f:Option Addr)(L h:Nat)(xs:List Value)(R:World->World->Int->Int->ByteArray->Option Addr->Nat->Nat->Prop)(w i:World)(g c:Nat):Prop:=
 ∃d e y0 y1 y2 ya yl yc,Below w.heap.size w d/\Below d.heap.size d e/\R d e y0 y1 y2 ya yl yc/\bG (λj=>(Value.slice f L h).ownBlock=some j) e i/\i.ownsRow base 101 7 (.slice (some ⟨g,0,none⟩) (L+1) c) (L+1) (xs++ [.string wt,.int .i64 a,.int .i64 b,.int .i64 y0,.int .i64 y1,.string y2,.slice ya yl yc])/\((Value.slice f L h).ownBlock=some g\/e.heap.size<=g)
theorem FB(base m:Nat)(wt:ByteArray)(a b A B:Int)(C:ByteArray)(xa:Option Addr)(D xc:Nat)(n:Option Addr)(L q:Nat)(xs:List Value)(R:World->World->Int->Int->ByteArray->Option Addr->Nat->Nat->Prop)(w:World)(aS:L<=100000)(X:m<w.heap.size)(aT:base<=w.heap.size)(Z:Hid (w.cell? ⟨m,6,none⟩=some (.slice n L q)/\w.frozen? ⟨m,6,none⟩=false))(ag:Hid (w.ownsRow base 101 7 (.slice n L q) L xs))(ab:Hid ((Value.slice n L q).ownBlock≠some m))(aa:Hid (∀W,Below w.heap.size w W->Calls Tryz.prog 91 #[.agg #[.int .i64 A,.int .i64 B,.string C,.slice xa D xc]] W λe w'=>∃y0 y1 y2 ya yl yc,e=.returned (.agg #[.int .i64 y0,.int .i64 y1,.string y2,.slice ya yl yc])/\Hid (Below W.heap.size W w'/\R W w' y0 y1 y2 ya yl yc))):Calls Tryz.prog 124 #[.pointer (some ⟨m,0,none⟩),.string wt,.int .i64 a,.int .i64 b,.agg #[.int .i64 A,.int .i64 B,.string C,.slice xa D xc]] w λe w'=>e=.returned (.tuple #[])/\Hid (∃g c r,w'=r.setCell ⟨m,6,none⟩ (.slice (some ⟨g,0,none⟩) (L+1) c)/\On base wt a b n L q xs R w r g c):=by
 obtain⟨aF,hit,aq,ar,au⟩:=bR KT;have M:=av (⟨hit,aq,ar,au⟩:_/\_/\_/\_);clear hit aq ar au;go_enter func124,ntmps124;go_upto_region 1 with fail;generalize aw:w.alloc _=s;have y:Hid (Below w.heap.size w s/\s.heap[w.heap.size]?=some (.cells #[.int .i64 A,.int .i64 B,.string C,.slice xa D xc] 54)):=by
  rw[<-aw];exact⟨(aE _ _).alloc (ay _) _,aI _ _⟩
 clear aw;obtain⟨h,T⟩:∃h,h=w.heap.size:=⟨_,rfl⟩;rw[<-T];rw[<-T]at y;have O:=av T;clear T;have N:Hid (∀W:World,Below s.heap.size s W->W.cell? ⟨m,6,none⟩=some (.slice n L q)/\W.cell? ⟨h,0,none⟩=some (.int .i64 A)/\W.cell? ⟨h,1,none⟩=some (.int .i64 B)/\W.cell? ⟨h,2,none⟩=some (.string C)/\W.cell? ⟨h,3,none⟩=some (.slice xa D xc)):=λW d=>by
  have Q:=(d.block h (aN.1 y.2).1).trans y.2;have aA:=(O.out▸y.out.1:Below w.heap.size w s).trans (d.mono (O.out▸y.out.1:Below w.heap.size w s).size);exact⟨(aA.cell (p:=⟨m,6,none⟩) X).trans Z.1,aj Q 0,aj Q 1,aj Q 2,aj Q 3⟩
 have G:Hid (Below s.heap.size s s.drew):=(aE _ _).drew;have z:Hid (Below w.heap.size w s):=by
  have d:=y.1;rw[O.out]at d;exact d
 have u:=N _ G;refine wp_region_noPanic ?_;refine ke (λW=>W.cell? ⟨m,6,none⟩=some (.slice n L q)/\W.cell? ⟨h,0,none⟩=some (.int .i64 A)/\W.cell? ⟨h,1,none⟩=some (.int .i64 B)/\W.cell? ⟨h,2,none⟩=some (.string C)/\W.cell? ⟨h,3,none⟩=some (.slice xa D xc)) 15 (by kernel_rfl) ?_
 try simp only[fL]
 refine Mw 0 (v:= ?_) rfl (by kernel_rfl) (λ_ _ _ d=>d) rfl ?_ u ?_;rotate_left
 ·intro w' f
  try dsimp only at f
  go_simp
  try with_reducible rfl
 try simp only[Act.put,cq]
 refine Mw 1 (v:= ?_) rfl (by kernel_rfl) (λ_ _ _ d=>d) rfl ?_ u ?_;rotate_left
 ·intro w' f
  try dsimp only at f
  go_simp
  try with_reducible rfl
 try simp only[Act.put]
 refine Mw 2 (v:= ?_) rfl (by kernel_rfl) (λ_ _ _ d=>d) rfl ?_ u ?_;rotate_left
 ·intro w' f
  try dsimp only at f
  go_simp
  try with_reducible rfl
 try simp only[Act.put]
 refine Mw 3 (v:= ?_) rfl (by kernel_rfl) (λ_ _ _ d=>d) rfl ?_ u ?_;rotate_left
 ·intro w' f
  try dsimp only at f
  go_simp
  try with_reducible rfl
 try simp only[Act.put]
 refine Mw 4 (v:= ?_) rfl (by kernel_rfl) (λ_ _ _ d=>d) rfl ?_ u ?_;rotate_left
 ·intro w' f
  try dsimp only at f
  go_simp
  try with_reducible rfl
 try simp only[Act.put]
 refine Mw 5 (v:= ?_) rfl (by kernel_rfl) (λ_ _ _ d=>d) rfl ?_ u ?_;rotate_left
 ·intro w' f
  try dsimp only at f
  go_simp
  try with_reducible rfl
 try simp only[Act.put]
 refine Mw 6 (v:= ?_) rfl (by kernel_rfl) (λ_ _ _ d=>d) rfl ?_ u ?_;rotate_left
 ·intro w' f
  try dsimp only at f
  go_simp
  try with_reducible rfl
 try simp only[Act.put]
 refine Mw 7 (v:= ?_) rfl (by kernel_rfl) (λ_ _ _ d=>d) rfl ?_ u ?_;rotate_left
 ·intro w' f
  try dsimp only at f
  go_simp
  try with_reducible rfl
 try simp only[Act.put]
 refine Mw 8 (v:= ?_) rfl (by kernel_rfl) (λ_ _ _ d=>d) rfl ?_ u ?_;rotate_left
 ·intro w' f
  try dsimp only at f
  go_simp
  try with_reducible rfl
 try simp only[Act.put]
 refine dv (i:=9) (by kernel_rfl) rfl rfl (λx l=>?_) (by decide)
 go_simp
 refine(aa _ (z.trans (G.mono z.size))).mono ?_;rintro e j ⟨y0,y1,y2,ya,yl,yc,rfl,I⟩;have E:=av (G.trans (I.1.mono G.size));have S:=N j E;refine l _ _ (λ_=>S) (λ_=>?_);clear l x
 try simp only[Act.put,cq,dI,dH]
 refine Mw 10 (v:= ?_) rfl (by kernel_rfl) (λ_ _ _ d=>d) rfl ?_ S ?_;rotate_left
 ·intro w' f
  try dsimp only at f
  go_simp
  try with_reducible rfl
 try simp only[Act.put,cq]
 have F:=av (z.trans (E.mono z.size));obtain⟨o,an⟩:∃o:Obj,o=.cells #[.string wt,.int .i64 a,.int .i64 b,.int .i64 y0,.int .i64 y1,.string y2,.slice ya yl yc] 101:=⟨_,rfl⟩;have K:Hid (Below j.heap.size j (j.alloc o)):=(aE _ _).alloc (ay _) o;have ah:=av (N _ (E.trans (K.mono E.size)));have ae:Hid ((j.alloc o).ownsRow base 101 7 (.slice n L q) L xs):=bB ag (aM (F.trans (K.mono F.size)) λ_=>False) λ_ _ d=>d;have ad:Hid ((j.alloc o).heap[j.heap.size]?=some o):=aI j o;have U:Hid ((j.alloc o).heap.size=j.heap.size+1):=(show _=_ by simp);rw[an]at K ah ae ad U;clear an o;refine dv (i:=11) (by kernel_rfl) rfl rfl (λx l=>?_) (by decide)
 go_simp
 refine l _ _ (λ_=>ah) (λaz=>?_);clear l x
 try simp only[Act.put,cq,dI,dH]
 refine dv (i:=12) (by kernel_rfl) rfl rfl (λx l=>?_) (by decide);refine wp_append_lies _ _ _ 98 rfl base 101 aF _ 7 88 underlying98 M.1 M.2.1 M.2.2.1 M.2.2.2 rfl (by decide) (.slice n L q) L xs rfl ae ⟨j.heap.size,0,none⟩ 1 1 [.string wt,.int .i64 a,.int .i64 b,.int .i64 y0,.int .i64 y1,.string y2,.slice ya yl yc] rfl rfl (World.news_of_block (cs:= #[.string wt,.int .i64 a,.int .i64 b,.int .i64 y0,.int .i64 y1,.string y2,.slice ya yl yc]) (t:=101) (fr:=(0,0)) ad) (by simp[Value.oneCell']) (by decide) (by unfold maxLen;omega) (by omega) (by have:=U.out;have:=F.size;omega) _ rfl ?_;intro P ai r ao am ak aB;have H:Hid (bG (λaH=>(Value.slice n L q).ownBlock=some aH) j r):=bG.trans (aM K _) (eu am) λ_ _ e=>e;have Y:Hid ((Value.slice n L q).ownBlock=some P\/j.heap.size<=P):=ak.imp id λe=>by have:=U.out;omega
 have af:=av ao;have J:Hid ((r.cell? ⟨m,6,none⟩=some (.slice n L q)/\r.cell? ⟨h,0,none⟩=some (.int .i64 A)/\r.cell? ⟨h,1,none⟩=some (.int .i64 B)/\r.cell? ⟨h,2,none⟩=some (.string C)/\r.cell? ⟨h,3,none⟩=some (.slice xa D xc))/\r.frozen? ⟨m,6,none⟩=false):=by
  have aC:¬(Value.slice n L q).ownBlock=some h:=λe=>by
   have:=(ag.lt h e).2;have:=O.out;omega
  have aD:h<j.heap.size:=by
   have:=E.size;have:=(aN.1 y.2).1;omega
  have ap:m<j.heap.size:=aY X F.size;obtain⟨aJ,aK,aL,aO,aP⟩:=S;have k:=λaG=>H.cell aG aD aC;refine⟨⟨(H.cell 6 ap ab).trans aJ,(k 0).trans aK,(k 1).trans aL,(k 2).trans aO,(k 3).trans aP⟩,?_⟩;have al:=Z.2;unfold World.frozen? at al ⊢;rw[H.out.block m ap ab.out,F.out.block m X];exact al
 clear ao am ak aB;refine l _ _ (λ_=>J.1) (λV=>?_);clear l x
 try simp only[Act.put,cq]
 refine dv (i:=13) (by kernel_rfl) rfl rfl (λx l=>?_) (by decide)
 go_simp
 refine l _ _ (λ_=>V) (λ_=>?_);clear l x
 try simp only[Act.put,cq,dI,dH]
 refine Mw 14 (v:= ?_) rfl (by kernel_rfl) (λ_ _ _ d=>d) rfl ?_ V ?_;rotate_left
 ·intro w' f
  try dsimp only at f
  go_simp
  try with_reducible rfl
 try simp only[Act.put,cq]
 have aR:=J.2;have aQ:=J.1.1;refine j9 (by kernel_rfl) rfl rfl (by kernel_rfl) (λx l=>?_)
 go_simp
 refine l _ _ (NoPanic.normal ?_);clear l x
 try simp only[Act.put,cq,dI,dH]
 have ax:Hid (On base wt a b n L q xs R w r P ai):=⟨s.drew,j,y0,y1,y2,ya,yl,yc,z.trans (G.mono z.size),I.1,I.2,H,af,Y⟩;clear N aa J af Y H I u V az S;exact eE (v:=.tuple #[]) (by simp[results]) rfl ⟨rfl,P,ai,r,rfl,ax⟩
def Bc(b:Nat):ax:=aC b
def xx{b:Type}(f:b->ax)(w:ah)(c:Nat)(l:List (Int×b)):Prop:=∃es a,w.heap[c]?=some (.map es a)/\es.toList.map (λe=>(e.key,e.val))=l.map (λp=>(ae p.1,f p.2))/\Stamped es a
def dn{a:Type}(l:List (Int×a))(k:Int):Option a:=(l.find? λp=>p.1==k).map (·.2)
section
variable {α:Type} {f:α->ax}
theorem Gn(k:Int):(es:List MapEntry)->(l:List (Int×α))->(i:Nat)->es.map (λe=>(e.key,e.val))=l.map (λp=>(ae p.1,f p.2))-> Instr.findNow (.int .i64) (ae k) es i=some ((l.findIdx? (λp=>p.1==k)).map λj=>(i+j,((dn l k).map f).getD undef))
 | [],[],_,_=>rfl
 | [],_::_,_,h=>by simp at h
 | _::_,[],_,h=>by simp at h
 | e::es,p::l,i,h=>by
  rw[bz,bz,lA]at h;obtain⟨b,g⟩:=h;have d:e.key=ae p.1:=(Prod.mk.inj b).1;have n:e.val=f p.2:=(Prod.mk.inj b).2;have ih:=Gn k es l (i+1) g;by_cases a:p.1=k
  ·have c:(k==p.1)=true:=by simp[a]
   simp[Instr.findNow,Instr.sameNow,d,n,a,List.findIdx?_cons,dn]
  ·have c:(k==p.1)=false:=by simpa using λe=>a e.symm
   have m:(p.1==k)=false:=by simpa using a
   rw[Instr.findNow,d];simp only[Instr.sameNow,cB,c];rw[ih];simp only[List.findIdx?_cons,dn,km,m];congr 1;cases List.findIdx? (λp=>p.1==k) l with
   | none=>rfl
   | some j=>simp;omega
theorem nZ{w:ah}{es:Array MapEntry}{l:List (Int×α)}(k:Int)(b:es.toList.map (λe=>(e.key,e.val))=l.map λp=>(ae p.1,f p.2)):(Instr.findKey 3 (ae k) es.toList).run Tryz.prog w=.ok ((l.findIdx? (λp=>p.1==k)).map λj=>(j,((dn l k).map f).getD undef)) w:=by
 have c:=underlying3;have a:=Gn k es.toList l 0 b;simp only[cw]at a;simp[Instr.findKey,cI c,Result.andThen,a]
theorem lR(w:ah)(em:Bool)(k:Int):(Instr.checkKey em 10000 3 (ae k)).run Tryz.prog w=.ok () w:=by
 have a:=underlying3;unfold Instr.checkKey;simp[cI a,Result.andThen]
theorem Aq{l:List (Int×α)}{k:Int}(a:dn l k=none):l.findIdx? (λp=>p.1==k)=none:=by
 unfold dn at a;rw[qe];intro p b;rw[Option.map_eq_none_iff,qd]at a;simpa using a p b
theorem Nl{l:List (Int×α)}{k:Int}{b:α}(a:dn l k=some b):∃j,l.findIdx? (λp=>p.1==k)=some j:=by
 cases e:l.findIdx? (λp=>p.1==k)with
 | some j=>exact⟨j,rfl⟩
 | none=>
  unfold dn at a;rw[qe]at e;have:l.find? (λp=>p.1==k)=none:=qd.2 λp c=>by simpa using e p c
  rw[this]at a;cases a
variable {w:ah} {mb mt et:Nat} {l:List (Int×α)}
theorem xx.look(i:xx f w mb l)(h:Tryz.prog.underlying mt=some (.map 3 et)){e:ax}(n:(zeroValue et).run Tryz.prog w=.ok e w)(k:Int)(c:Bool):(dn l k=none->(Instr.lookup mt (.map (some mb)) (ae k) c).run Tryz.prog w=.ok (if c then .tuple #[e,.bool false]else e) w)/\ ∀b,dn l k=some b->(Instr.lookup mt (.map (some mb)) (ae k) c).run Tryz.prog w=.ok (if c then .tuple #[f b,.bool true]else f b) w:=by
 obtain⟨es,o,g,j,_⟩:=i;have d:=nZ (w:=w) k j;refine⟨λa=>?_,λb a=>?_⟩
 ·rw[Aq a]at d;simp[Instr.lookup,cI h,lF g,lR,d,Result.andThen,n]
 ·obtain⟨p,m⟩:=Nl a;rw[m]at d;simp[Instr.lookup,cI h,lF g,lR,d,Result.andThen,a]
theorem xx.put(m:xx f w mb l)(o:Tryz.prog.underlying mt=some (.map 3 et)){k:Int}(i:dn l k=none)(b:α):∃w',(Instr.mapUpdate mt (.map (some mb)) (ae k) (f b)).run Tryz.prog w=.ok () w'/\xx f w' mb (l++ [(k,b)])/\bG (λq=>q=mb) w w'/\w'.heap.size=w.heap.size:=by
 obtain⟨es,u,a,e,n⟩:=m;have h:=nZ (w:=w) k e;rw[Aq i]at h;refine⟨_,by simp[Instr.mapUpdate,cI o,lF a,lR,h,MapKept.run_setObj_map _ a,Result.andThen];rfl,⟨_,_,(heap_set a).1,?_,stamped_push n λg s j=>?_⟩,?_,?_⟩
 ·simp[e]
 ·have t:(g.key,g.val)∈l.map λc=>(Value.int .i64 c.1,f c.2):=e▸b9.2 ⟨g,s,rfl⟩;obtain⟨c,p,d⟩:=b9.1 t;rw[j]at d;have:=qe.1 (Aq i) c p;simp at d;simp[d.1]at this
 ·exact⟨rfl,rfl,rfl,by simp,λq _ r=>(heap_set a).2 q r⟩
 ·simp
theorem Cn{α a:Type}(f:α->a)(l:List α)(i:Nat):(l.map f).eraseIdx i=(l.eraseIdx i).map f:=by
 simp[tV,List.map_take,List.map_drop]
theorem xx.del(m:xx f w mb l)(j:Tryz.prog.underlying mt=some (.map 3 et))(k:Int):∃w',(∀ty,(Builtin.delete_ #[mt,3] ty #[.map (some mb),ae k]).run Tryz.prog w=.ok (.tuple #[]) w')/\xx f w' mb (l.eraseP λp=>p.1==k)/\bG (λq=>q=mb) w w'/\w'.heap.size=w.heap.size:=by
 obtain⟨es,h,a,b,i⟩:=m;have c:=nZ (w:=w) k b;cases e:l.findIdx? (λp=>p.1==k)with
 | none=>
  rw[e]at c;refine⟨{w with heap:=w.heap.setIfInBounds mb (.map es h)},λty=>by simp[Builtin.delete_,cI j,lF a,lR,c,MapKept.run_setObj_map _ a,Result.andThen],⟨_,_,(heap_set a).1,?_,i⟩,?_,?_⟩
  ·rw[List.eraseP_of_forall_not λp r=>by have:=qe.1 e p r;rw[this];decide];exact b
  ·exact⟨rfl,rfl,rfl,by simp,λq _ d=>(heap_set a).2 q d⟩
  ·simp
 | some g=>
  rw[e]at c;refine⟨{w with heap:=w.heap.setIfInBounds mb (.map (es.eraseIdxIfInBounds g) h)},λty=>by simp[Builtin.delete_,cI j,lF a,lR,c,MapKept.run_setObj_map _ a,Result.andThen],⟨_,_,(heap_set a).1,?_,stamped_erase i g⟩,?_,?_⟩
  ·have o:g<es.size:=by
     have s:=(List.findIdx?_eq_some_iff_getElem.1 e).1;have n:=congrArg List.length b;simp at n;omega
   rw[List.eraseP_eq_eraseIdx,e];simp only[Array.eraseIdxIfInBounds,o,dite_true,Array.toList_eraseIdx];rw[<-Cn,<-Cn,b]
  ·exact⟨rfl,rfl,rfl,by simp,λq _ d=>(heap_set a).2 q d⟩
  ·simp
theorem xx.len(a:xx f w mb l)(e:Tryz.prog.underlying mt=some (.map 3 et))(ty:TypeId):(Builtin.len_ #[mt] ty #[.map (some mb)]).run Tryz.prog w=.ok (ae l.length) w:=by
 obtain⟨es,g,b,c,_⟩:=a;have d:es.size=l.length:=by
  have:=congrArg List.length c;simpa using this
 simp[Builtin.len_,cI e,lF b,Result.andThen,d];unfold goInt
 go_num
theorem xx.kept{w':ah}(b:xx f w mb l)(e:w'.heap[mb]?=w.heap[mb]?):xx f w' mb l:=by
 obtain⟨es,a,c,d⟩:=b;exact⟨es,a,e.trans c,d⟩
theorem xx.new(w:ah):xx f (w.alloc (.map #[] 0)) w.heap.size []:=⟨#[],0,aI _ _,rfl,stamped_empty 0⟩
end
abbrev IM(w:ah)(a:Nat)(l:List (Int×Nat)):Prop:=xx Bc w a l
theorem IM.look{w:ah}{a:Nat}{l:List (Int×Nat)}(d:IM w a l)(k:Int)(c:Bool):(dn l k=none->(Instr.lookup 131 (.map (some a)) (ae k) c).run Tryz.prog w=.ok (if c then .tuple #[.pointer none,.bool false]else .pointer none) w)/\ ∀b,dn l k=some b->(Instr.lookup 131 (.map (some a)) (ae k) c).run Tryz.prog w=.ok (if c then .tuple #[Bc b,.bool true]else Bc b) w:=
 xx.look d underlying131 (by kernel_rfl) k c
theorem EA(w:ah)(k:Int)(c:Bool):(Instr.lookup 131 (.map none) (ae k) c).run Tryz.prog w=.ok (if c then .tuple #[.pointer none,.bool false]else .pointer none) w:=by
 have b:=underlying131;have d:(zeroValue 141).run Tryz.prog w=.ok (.pointer none) w:=by kernel_rfl
 have a:=nZ (f:=Bc) (w:=w) (es:= #[]) (l:=[]) k rfl;simp[Instr.lookup,cI b,lR,a,Result.andThen,d]
structure mL where
 lo:Nat
 b:Nat
 room:Int
 n:Nat
 prog:List (Bh (n+1))
 pa:aw
 pc:Nat
structure gW where
 ow:Nat->Int
 po:Option Nat
 l:List (Int×Nat)
 wo:Option Nat
 wn:Nat
 f:bC->List Tc
 sl:bC->ax
 bo:Option Nat
 bn:Nat
 ev:ax
 es:List (aq×Int×Int×Tc)
 k:Nat
def ez(p:mL)(s:Sy)(d:gW):Array ax:= #[af p.pa p.prog.length p.pc,ae p.room,ae s.last,.map d.po,.map d.wo,.map d.bo,d.ev]
def Bf(p:mL)(s:Sy)(d:gW):BL:=⟨p.b,4,ez p s d,139⟩
def Ov(p:mL)(s:Sy)(d:gW):BL:=⟨p.b,5,ez p s d,139⟩
def ym(e:aq×Int×Int×Tc):List ax:=[ag e.1,ae e.2.1,ae e.2.2.1,ae e.2.2.2.1.1,ae e.2.2.2.1.2.1,ag e.2.2.2.1.2.2,af e.2.2.2.2.1.1 e.2.2.2.2.2.length e.2.2.2.2.1.2]
def tm(t:Tc):Prop:=bJ 13 t=0\/(t.1=(0,0,⟨#[]⟩)/\t.2.2=[])
structure bD (p:mL) (s:Sy) (d:gW) (w:ah):Prop where
 low:∀b,d.ow b≠0->p.lo<=b/\b<w.heap.size
 box:w.heap[p.b]?=some (.cells (ez p s d) 139)
 own:d.ow p.b=-5
 pg:(iV (p.n+1) w.heap.size w p.pa p.prog/\uD (kE (p.n+1) λb=>d.ow b=-4) (λb=>d.ow b=-4) p.pa p.prog)/\(p.prog.length<=p.pc/\p.pc<=maxLen/\oI p.n p.prog=0/\(aF (p.n+6) (cW p.n p.prog)).length<=2097152)
 pm:(d.po=none/\d.l=[])\/∃mb,d.po=some mb/\d.ow mb=-5/\mb≠p.b/\IM w mb d.l
 keys:d.l.map (·.1)=s.ps.map (·.1)/\(s.ps.map (·.1)).Nodup/\(∀q∈s.ps,1<=q.1/\q.1<=s.last)/\0<=s.last/\s.last<=90/\s.ps.length<=12
 ps:∀k b,dn d.l k=some b->∃nm cs cms,s.get k=some (nm,cs,cms)/\P1 p.lo b nm p.room cs cms (d.k+201) (λq=>d.ow q=k) w/\cms.length<=20
 wy:iy p.lo (Bf p s d) d.wo d.wn 13 d.f d.sl w/\(∀b,sR (Bf p s d) d.wo d.sl b->b=p.b\/d.ow b=-1)/\(∀k,(d.f k).map (cn 13)=s.ways k)/\(∀k,(d.f k).length<=20)/\∀k,∀y∈d.f k,bJ 13 y=0/\aV 13 y=true/\In w.heap.size w 13 y/\cE (λb=>d.ow b=-1/\¬sR (Bf p s d) d.wo d.sl b) 13 y
 bd:eZ p.lo (Ov p s d) d.bo d.bn s.bonds w/\Bk s.bonds/\∀b,d.bo=some b->d.ow b=-2
 evr:w.ownsRow p.lo 101 7 d.ev d.es.length (d.es.flatMap ym)/\∀b,d.ev.ownBlock=some b->d.ow b=-3
 evt:d.es.map (λe=>(e.1,e.2.1,e.2.2.1,cn 13 e.2.2.2))=s.evs/\∀e∈d.es,(In w.heap.size w 13 e.2.2.2/\cE (λb=>d.ow b=-3/\d.ev.ownBlock≠some b) 13 e.2.2.2)/\tm e.2.2.2
theorem fA{D:aU}(c:bG S w w')(e:∀b,D b->¬S b){x:Tm n}(a:In w.heap.size w n x/\cE D n x):In w'.heap.size w' n x/\cE D n x:=
 ⟨(In.off (P:=λb=>D b/\b<w.heap.size) (λb d=>c.block b d.2 (e b d.1)) (In.offB a.2 a.1) a.1).mono c.size,a.2⟩
theorem Ij{k:Int}(a:dn l k=some b):(k,b)∈l:=by
 unfold dn at a;cases c:l.find? (λe=>e.1==k)with
 | none=>rw[c]at a;cases a
 | some e=>
  rw[c]at a;have f:=List.mem_of_find?_eq_some c;have d:=List.find?_some c;simp at a d;subst a d;exact f
variable{d:gW}
theorem bD.key{p:mL}(a:bD p s d w){k:Int}(e:dn d.l k=some b):1<=k/\k<=s.last:=by
 have c:k∈d.l.map (·.1):=b9.2 ⟨_,Ij e,rfl⟩;rw[a.keys.1]at c;obtain⟨g,f,rfl⟩:=b9.1 c;exact a.keys.2.2.1 g f
theorem iy.turn{p:BL}{f:bC->List (Tm N)}{sl:bC->ax}(d:iy base p t n N f sl w)(m:bG S w w')(j:∀b,sR p t sl b->b≠p.b->¬S b)(o:c.b=p.b)(i:uC c t w'):iy base c t n N f sl w':=by
 refine⟨by rw[o];exact d.1,i,?_⟩;rcases d.2.2 with a|⟨q,rfl,l⟩
 ·exact ak a
 ·refine am ⟨q,rfl,l.kee m λb e=>j b (Gk e) λa=>?_⟩;rcases e with rfl|⟨k,g,h⟩
  ·exact xt d a.symm
  ·exact A9 d g (by rw[h,a])
theorem eZ.turn{p:BL}{g:bC->Bool}(a:eZ base p t n g w)(i:bG S w w')(h:∀b:Nat,t=Option.some b->¬S b)(j:c.b=p.b)(f:uC c t w'):eZ base c t n g w':=by
 refine⟨by rw[j];exact a.1,f,?_⟩;rcases a.2.2 with e|⟨d,rfl,k⟩
 ·exact ak e
 ·exact am ⟨d,rfl,k.kee i (h d rfl)⟩
section
variable {p:mL} {s:Sy} {d:gW} {w w':ah} {ow:Nat->Int} {S:aU}
theorem bD.pgK(e:bD p s d w)(f:bG S w w')(g:∀b,d.ow b=-4->¬S b)(h:∀b,d.ow b≠0->ow b=d.ow b):iV (p.n+1) w'.heap.size w' p.pa p.prog/\uD (kE (p.n+1) λb=>ow b=-4) (λb=>ow b=-4) p.pa p.prog:=by
 have c:=cZ (eK (p.n+1)) 2 (rJ (p.n+1)) p.pa;exact⟨c.2.2.2.1 _ _ _ _ f.size (c.2.2.1 _ _ _ w' _ (λb a=>f.block b a.2 (g b a.1)) (c.2.1 _ _ _ _ e.pg.1.2 e.pg.1.1) e.pg.1.1),c.1 _ _ _ (λb a=>(h b (by rw[a];decide)).trans a) e.pg.1.2⟩
theorem bD.pmK(f:bD p s d w)(k:bG S w w')(j:∀b,d.ow b=-5->b≠p.b->¬S b)(m:∀b,d.ow b≠0->ow b=d.ow b):(d.po=none/\d.l=[])\/∃a,d.po=some a/\ow a=-5/\a≠p.b/\IM w' a d.l:=by
 rcases f.pm with g|⟨a,h,c,e,i⟩
 ·exact ak g
 ·exact am ⟨a,h,(m a (by rw[c];decide)).trans c,e,i.kept (k.block a (f.low a (by rw[c];decide)).2 (j a c e))⟩
theorem bD.psK(f:bD p s d w)(c:bG S w w'){k:Int}{b j:Nat}(o:d.k<=j)(n:∀b,d.ow b=k->¬S b)(t:∀b,d.ow b≠0->ow b=d.ow b)(r:∀b,ow b≠0->p.lo<=b/\b<w'.heap.size)(g:dn d.l k=some b):∃nm cs a,s.get k=some (nm,cs,a)/\P1 p.lo b nm p.room cs a (j+201) (λq=>ow q=k) w'/\a.length<=20:=by
 obtain⟨nm,cs,a,h,i,m⟩:=f.ps k b g;have u:=(f.key g).1;exact⟨nm,cs,a,h,(i.kept (S:=S) ⟨c.os,c.tape,c.output,c.size,c.block⟩ n).mono (λb e=>(t b (by rw[e];omega)).trans e) (Nat.add_le_add_right o 201) λb e=>r b (by rw[e];omega),m⟩
theorem bD.wyK(e:bD p s d w)(j:bG S w w')(i:∀b,d.ow b=-1->¬S b)(l:∀b,d.ow b≠0->ow b=d.ow b){q:BL}(m:q.b=p.b)(o:uC q d.wo w'):iy p.lo q d.wo d.wn 13 d.f d.sl w'/\(∀b,sR q d.wo d.sl b->b=p.b\/ow b=-1)/\∀k,∀y∈d.f k,bJ 13 y=0/\aV 13 y=true/\In w'.heap.size w' 13 y/\cE (λb=>ow b=-1/\¬sR q d.wo d.sl b) 13 y:=by
 have h:∀b,sR q d.wo d.sl b ↔ sR (Bf p s d) d.wo d.sl b:=λb=>by
  unfold sR;rw[m];exact Iff.rfl
 refine⟨e.wy.1.turn j (λb c r=>?_) m o,λb c=>(e.wy.2.1 b ((h b).1 c)).imp id λa=>(l b (by rw[a];decide)).trans a,λk y t=>?_⟩
 ·rcases e.wy.2.1 b c with a|a
  ·exact absurd a r
  ·exact i b a
 ·obtain⟨y1,y2,u⟩:=e.wy.2.2.2.2 k y t;have n:=fA j (λb q=>i b q.1) u;exact⟨y1,y2,n.1,n.2.mono λb g=>⟨(l b (by rw[g.1];decide)).trans g.1,λc=>g.2 ((h b).1 c)⟩⟩
theorem bD.bdK(a:bD p s d w)(g:bG S w w')(f:∀b,d.ow b=-2->¬S b)(h:∀b,d.ow b≠0->ow b=d.ow b){q:BL}(i:q.b=p.b)(e:uC q d.bo w'):eZ p.lo q d.bo d.bn s.bonds w'/\Bk s.bonds/\∀b,d.bo=some b->ow b=-2:=
 ⟨a.bd.1.turn g (λb c=>f b (a.bd.2.2 b c)) i e,a.bd.2.1,λb c=>(h b (by rw[a.bd.2.2 b c];decide)).trans (a.bd.2.2 b c)⟩
theorem bD.evK(c:bD p s d w)(h:bG S w w')(f:∀b,d.ow b=-3->¬S b)(i:∀b,d.ow b≠0->ow b=d.ow b):(w'.ownsRow p.lo 101 7 d.ev d.es.length (d.es.flatMap ym)/\∀b,d.ev.ownBlock=some b->ow b=-3)/\∀e∈d.es,(In w'.heap.size w' 13 e.2.2.2/\cE (λb=>ow b=-3/\d.ev.ownBlock≠some b) 13 e.2.2.2)/\tm e.2.2.2:=by
 refine⟨⟨bB c.evr.1 h λb a=>f b (c.evr.2 b a),λb a=>(i b (by rw[c.evr.2 b a];decide)).trans (c.evr.2 b a)⟩,λe g=>⟨?_,(c.evt.2 e g).2⟩⟩;have j:=fA h (λb a=>f b a.1) (c.evt.2 e g).1;exact⟨j.1,j.2.mono λb a=>⟨(i b (by rw[a.1];decide)).trans a.1,a.2⟩⟩
theorem rB{d:gW}{w:ah}(a:w.heap[p.b]?=some (.cells (ez p s d) 139)):uC (Bf p s d) d.wo w/\uC (Ov p s d) d.bo w:=by
 refine⟨⟨⟨by simp[Bf,ez],by simp[Bf]⟩,?_⟩,⟨⟨by simp[Ov,ez],by simp[Ov]⟩,?_⟩⟩
 ·simp[Bf,ez,a]
 ·simp[Ov,ez,a]
theorem bD.kept(a:bD p s d w)(c:bG S w w')(n:∀b,S b->d.ow b=0):bD p s d w':=by
 have j:∀b,d.ow b≠0->¬S b:=λb e r=>e (n b r);have f:∀b,d.ow b≠0->d.ow b=d.ow b:=λ_ _=>rfl;have h:w'.heap[p.b]?=some (.cells (ez p s d) 139):=(c.block p.b (aN.1 a.box).1 (j p.b (by rw[a.own];decide))).trans a.box;have i:∀b,d.ow b≠0->p.lo<=b/\b<w'.heap.size:=λb e=>⟨(a.low b e).1,aY (a.low b e).2 c.size⟩;have t:∀{t:Int},t≠0->∀b,d.ow b=t->¬S b:=λo b g=>j b (by rw[g];exact o);obtain⟨y1,y2,q⟩:=a.wyK c (t (by decide)) f rfl (rB h).1;obtain⟨l,m⟩:=a.evK c (t (by decide)) f;exact⟨i,h,a.own,⟨a.pgK c (t (by decide)) f,a.pg.2⟩,a.pmK c (λb g _=>t (by decide) b g) f,a.keys,λk b e=>a.psK c (ay _) (t (by have:=(a.key e).1;omega)) f i e,⟨y1,y2,a.wy.2.2.1,a.wy.2.2.2.1,q⟩,a.bdK c (t (by decide)) f rfl (rB h).2,l,a.evt.1,m⟩
theorem bD.later(a:bD p s d w)(b:ap w w'):bD p s d w':=a.kept (aM b λ_=>False) λ_ q=>q.elim
end
def PJ(f g:Int)(h:aq)(xa:aw)(i xc:Nat)(t:Tc)(w:ah):Prop:=
 ∀b,ap w b->au 91 #[.agg #[ae f,ae g,ag h,af xa i xc]] b λd c=>∃y0 y1 y2 ya yl yc,d=.returned (.agg #[ae y0,ae y1,ag y2,af ya yl yc])/\Hid (ap b c/\∃a:Tc,(a.1=(y0,y1,y2)/\a.2.1=(ya,yc)/\a.2.2.length=yl)/\(In c.heap.size c 13 a/\cE (λe=>b.heap.size<=e) 13 a)/\cn 13 a=t/\tm a)
theorem ld{x:Tm (m+1)}(n:In w.heap.size w (m+1) x)(g:bJ (m+1) x=0):PJ x.1.1 x.1.2.1 x.1.2.2 x.2.1.1 x.2.2.length x.2.1.2 (cn (m+1) x) w:=λW f=>by
 have l:aJ ⟨m+1,x⟩:=aW.2 (bS.1 g).1;refine(iB (m+1) x W.heap.size W ((n.below f).mono f.size) (ay _) l).mono ?_;rintro e w' ⟨y,rfl,H⟩;obtain⟨i,j,k,d⟩:=H;have a:bJ (m+1) y=0:=(bN d).trans g;have c:aJ ⟨m+1,y⟩:=aW.2 (bS.1 a).1;have b:gI (m+1) y<13:=by have:=(bS.1 a).2.1;omega
 have h:=jU 13 (m+1) y c b;refine⟨y.1.1,y.1.2.1,y.1.2.2,y.2.1.1,y.2.2.length,y.2.1.2,rfl,i,bi 13 (m+1) y,⟨rfl,rfl,by simp[bi]⟩,⟨tC 13 (m+1) y _ _ c b j,uY 13 (m+1) y _ c b k⟩,(gA h).trans (gA d),ak ((bN h).trans a)⟩
theorem Kt(w:ah):PJ 0 0 ⟨#[]⟩ none 0 0 tT w:=λW h=>by
 refine(tg 12 0 0 ⟨#[]⟩ none 0 0 [] W (by decide) λw1 c=>?_).mono ?_
 ·refine(mr none 0 w1).mono ?_;rintro e w' ⟨rfl,rfl⟩;exact⟨none,0,[],rfl,aE _ _,rfl,ay _,aK _,rfl,ak rfl⟩
 ·rintro e w' ⟨a,b,l,rfl,H⟩;obtain⟨c,d,g,f,_⟩:=H;obtain rfl:l=[]:=bZ d;exact⟨0,0,⟨#[]⟩,a,0,b,rfl,c,((0,0,⟨#[]⟩),(a,b),[]),⟨rfl,rfl,rfl⟩,⟨⟨⟨show dm 0 by unfold dm;decide,show dm 0 by unfold dm;decide,show (0:Nat)<=maxLen from aK _,aK _,f⟩,ak rfl⟩,ak rfl⟩,rfl,am ⟨rfl,rfl⟩⟩
def GA(d:gW)(w w':ah)(t:Int)(q:Nat):Int:=if w.heap.size<=q/\q<w'.heap.size then t else d.ow q
theorem vd{p:mL}{t:Int}(a:bD p s d w)(e:w.heap.size<=w'.heap.size)(c:p.lo<=w.heap.size):∀b,GA d w w' t b≠0->p.lo<=b/\b<w'.heap.size:=λb q=>by
 unfold GA at q;split at q
 ·omega
 ·have:=a.low b q;omega
theorem ve{p:mL}{t:Int}(a:bD p s d w):∀b,d.ow b≠0->GA d w w' t b=d.ow b:=λb q=>by
 have:=(a.low b q).2;exact if_neg (by omega)
theorem bD.lo{p:mL}{s:Sy}{d:gW}{w:ah}(a:bD p s d w):p.lo<=w.heap.size/\p.b<w.heap.size:=by
 have:=a.low p.b (by rw[a.own];decide);omega
def zJ(p:mL)(s:Sy)(d:gW)(wt:aq)(a b:Int)(t:Tc)(w w':ah):Prop:=
 ∃e f,bD p (s.tell wt a b t) {d with ow:=GA d w w' (-3),ev:=e,es:=d.es++ [(wt,a,b,f)]} w'/\bG (λc=>c=p.b\/d.ow c=-3) w w'
theorem bD.tell{p:mL}{s:Sy}{d:gW}{w:ah}(g:bD p s d w)(wt:aq)(a b V W:Int)(X:aq)(xa:aw)(Y xc:Nat)(t:Tc)(aH:PJ V W X xa Y xc t w)(aF:d.es.length<=100000):au 124 #[aC p.b,ag wt,ae a,ae b,.agg #[ae V,ae W,ag X,af xa Y xc]] w λe w'=>e=.returned (.tuple #[])/\Hid (zJ p s d wt a b t w w'):=by
 obtain⟨aa,an⟩:=g.lo;obtain⟨y,z,m⟩:∃y z,d.ev=af y d.es.length z:=by
  rcases g.evr.1.2 with⟨e,aD⟩|⟨i,c,aT,e,_⟩
  ·exact⟨none,0,by rw[e,aD]⟩
  ·exact⟨_,c,e⟩
 have O:=g.box;have I:d.ev.ownBlock≠some p.b:=λe=>by
  have u:=g.evr.2 _ e;rw[g.own]at u;cases u
 have al:=g.evr.1;rw[m]at al I;refine(FB p.lo p.b wt a b V W X xa Y xc y d.es.length z _ (λK w' y0 y1 y2 ya yl yc=>∃l:Tc,(l.1=(y0,y1,y2)/\l.2.1=(ya,yc)/\l.2.2.length=yl)/\(In w'.heap.size w' 13 l/\cE (λf=>K.heap.size<=f) 13 l)/\cn 13 l=t/\tm l) w aF an aa ⟨?_,by simp[World.frozen?,O]⟩ al I aH).mono ?_
 ·have u:=aj O 6;simp only[ez,dl,dy]at u;rw[m]at u;exact u
 rintro e w' ⟨rfl,av⟩;obtain⟨i,c,q,x,K,L,y0,y1,y2,ya,yl,yc,R,aP,⟨l,⟨M,N,aE⟩,Q,aI,aL⟩,S,ao,J⟩:=av;have H:ap w L:=R.trans (aP.mono R.size);have P:bG (λaS=>(Value.slice y d.es.length z).ownBlock=some aS) w q:=(aM H _).trans S λ_ _ e=>e;have o:bG (λf=>f=p.b\/d.ow f=-3) w w':=by
  rw[x];refine(P.mono (T:=λf=>f=p.b\/d.ow f=-3) λf _ e=>am (g.evr.2 f (by rw[m];exact e))).trans (bM q p.b 6 _) λf _ e=>ak e
 have aO:=o.size;have aW:w'.heap.size=q.heap.size:=by rw[x];simp[World.setCell]
 have Z:w'.heap[p.b]?=some (.cells (ez p (s.tell wt a b t) {d with ow:=GA d w w' (-3),ev:=af (some ⟨i,0,none⟩) (d.es.length+1) c,es:=d.es++ [(wt,a,b,l)]}) 139):=by
  have v:q.heap[p.b]?=some (.cells (ez p s d) 139):=(P.block p.b an I).trans O;rw[x];simp[World.setCell,bQ,v,ez,Sy.tell]
 have ab:=vd (t:=-3) g aO aa;have n:=ve (w':=w') (t:=-3) g;have G:∀{U:Int},U≠ -3->U≠ -5->∀f,d.ow f=U->¬(f=p.b\/d.ow f=-3):=λF v f e h=>by
  rcases h with rfl|h
  ·rw[g.own]at e;exact v e.symm
  ·exact F (e.symm.trans h)
 have ai:∀f,w.heap.size<=f->f<w'.heap.size->GA d w w' (-3) f=-3:=λf ax az=>if_pos ⟨ax,az⟩;obtain⟨aA,aB⟩:=rB Z;obtain⟨E,j,r⟩:=g.wyK o (G (by decide) (by decide)) n rfl aA;refine⟨rfl,af (some ⟨i,0,none⟩) (d.es.length+1) c,l,⟨ab,Z,(n p.b (by rw[g.own];decide)).trans g.own,⟨g.pgK o (G (by decide) (by decide)) n,g.pg.2⟩,g.pmK o (λf M N h=>?_) n,g.keys,λk b f=>g.psK o (ay _) (G (by have:=(g.key f).1;omega) (by have:=(g.key f).1;omega)) n ab f,⟨E,j,g.wy.2.2.1,g.wy.2.2.2.1,r⟩,g.bdK o (G (by decide) (by decide)) n rfl aB,⟨?_,λf e=>?_⟩,?_,λe A=>?_⟩,o⟩
 ·rcases h with h|h
  ·exact N h
  ·rw[M]at h;cases h
 ·have e:[(wt,a,b,l)].flatMap ym=[ag wt,ae a,ae b,ae y0,ae y1,ag y2,af ya yl yc]:=by simp[ym,M,N,aE]
  have v:w'.ownsRow p.lo 101 7 (af (some ⟨i,0,none⟩) (d.es.length+1) c) (d.es.length+1) (d.es.flatMap ym++ [(wt,a,b,l)].flatMap ym):=by
   rw[e,x];refine bB ao (bM q p.b 6 _) λf aN h=>?_;have:i=f:=aG aN;subst this h;rcases J with h|h
   ·exact I h
   ·have:=H.size;omega
  rw[<-lB]at v;simpa using v
 ·have B:i=f:=aG e;subst B;rcases J with h|h
  ·have F:=g.evr.2 i (by rw[m];exact h);exact(n i (by rw[F];decide)).trans F
  ·have:=H.size;have:=(ao.lt i rfl).2;exact ai i (by omega) (by omega)
 ·show _=s.evs++ [(wt,a,b,t)];rw[ft,g.evt.1,bz,dz,aI]
 ·have aK:bG (λf=>f=p.b\/d.ev.ownBlock=some f) w w':=by
    rw[x,m];exact(P.mono (T:=λf=>f=p.b\/(Value.slice y d.es.length z).ownBlock=some f) λf _ e=>am e).trans (bM q p.b 6 _) λf _ e=>ak e
  have aJ:bG (λf=>f=p.b\/d.ev.ownBlock=some f) L w':=by
   rw[x,m];exact(S.mono (T:=λf=>f=p.b\/(Value.slice y d.es.length z).ownBlock=some f) λf _ e=>am e).trans (bM q p.b 6 _) λf _ e=>ak e
  have aV:=H.size;rcases dt.1 A with A|A
  ·obtain⟨⟨ar,aQ⟩,aR⟩:=g.evt.2 e A;refine⟨?_,aR⟩;have C:=fA aK (D:=λf=>(d.ow f=-3/\d.ev.ownBlock≠some f)/\f<w.heap.size) (λf E j=>?_) ⟨ar,In.offB aQ ar⟩
   ·refine⟨C.1,C.2.mono λf h=>⟨(n f (by rw[h.1.1];decide)).trans h.1.1,λj=>?_⟩⟩;have B:i=f:=aG j;subst B;rcases J with r|r
    ·exact h.1.2 (by rw[m];exact r)
    ·omega
   ·rcases j with rfl|j
    ·have:=E.1.1;rw[g.own]at this;cases this
    ·exact E.1.2 j
  ·obtain rfl:=dN.1 A;refine⟨?_,aL⟩;have aU:=R.size;have ad:∀f,d.ev.ownBlock=some f->f<w.heap.size:=λf h=>(g.evr.1.lt f h).2;have C:=fA aJ (D:=λf=>K.heap.size<=f/\f<L.heap.size) (λf E j=>?_) ⟨Q.1,In.offB Q.2 Q.1⟩
   ·have:=S.size;refine⟨C.1,C.2.mono λf h=>⟨ai f (by omega) (by omega),λj=>?_⟩⟩;have B:i=f:=aG j;subst B;rcases J with r|r
    ·have:=ad i (by rw[m];exact r);omega
    ·omega
   ·rcases j with rfl|j
    ·omega
    ·have:=ad f j;omega
theorem QO{q:Nat}{T:TypeId}{fr:Nat×Nat}(a:w.heap[q]?=some (.cells #[o,r,u,x] T fr)):w.cell? ⟨q,0,none⟩=some o/\w.cell? ⟨q,1,none⟩=some r/\w.cell? ⟨q,2,none⟩=some u/\w.cell? ⟨q,3,none⟩=some x:=by simp[World.cell?,a]
theorem Ii{ps:List (Int×aq×Tc×List Tc)}(k:Int)(a:l.map (·.1)=ps.map (·.1)):(dn l k).isSome=((ps.find? λp=>p.1==k).map (·.2)).isSome:=by
 induction l generalizing ps with
 | nil=>
  cases ps with
  | nil=>rfl
  | cons b ps=>simp at a
 | cons c l ih=>
  cases ps with
  | nil=>simp at a
  | cons b ps=>
   simp only[bz,lA]at a;have ih:=ih a.2;unfold dn at ih ⊢;rw[km,km,a.1];cases b.1==k
   ·exact ih
   ·rfl
section
variable {p:mL} {s:Sy} {d:gW} {w:ah}
theorem bD.alive(a:bD p s d w)(k:Int):(dn d.l k).isSome=(s.get k).isSome:=Ii k a.keys.1
theorem bD.look(g:bD p s d w)(k:Int)(c:Bool):(Instr.lookup 131 (.map d.po) (ae k) c).run Tryz.prog w=.ok (if c then .tuple #[match dn d.l k with|some b=>Bc b|none=> .pointer none,.bool (dn d.l k).isSome]else match dn d.l k with|some b=>Bc b|none=> .pointer none) w:=by
 rcases g.pm with⟨a,f⟩|⟨j,a,_,_,f⟩
 ·rw[a,f];have:=EA w k c;cases c<;>exact this
 ·rw[a];obtain⟨h,i⟩:=f.look k c;cases e:dn d.l k with
  | none=>
   rw[h e];cases c<;>rfl
  | some b=>
   rw[i b e];cases c<;>rfl
theorem bD.cells(c:bD p s d w):ai w p.b 0 (af p.pa p.prog.length p.pc)/\ai w p.b 1 (ae p.room)/\ai w p.b 2 (ae s.last)/\ai w p.b 3 (.map d.po):=by
 have a:=c.box;exact⟨aj a 0,aj a 1,aj a 2,aj a 3⟩
theorem bD.isAlive(a:bD p s d w)(k:Int):au 130 #[aC p.b,ae k] w λe w'=>e=.returned (.bool (s.get k).isSome)/\w'=w:=by
 have i:=a.cells.2.2.2;have f:=a.look k true;rw[if_pos rfl]at f;have c:=a.alive k;obtain⟨h,g⟩:∃h,h=(s.get k).isSome:=⟨_,rfl⟩;rw[<-g]at c ⊢;rw[c]at f;generalize (match dn d.l k with|some b=>Bc b|none=> .pointer none)=m at f;clear c g;generalize d.po=j at*;clear a;go_enter func130,ntmps130;go_wp2_with fail
 go_ret
 exact⟨rfl,rfl⟩
theorem bD.len(c:bD p s d w)(ty:TypeId):(Builtin.len_ #[131] ty #[.map d.po]).run Tryz.prog w=.ok (ae s.ps.length) w:=by
 have e:d.l.length=s.ps.length:=by
  have:=congrArg List.length c.keys.1;simpa using this
 rcases c.pm with⟨a,b⟩|⟨f,a,_,_,b⟩
 ·rw[a,<-e,b];exact Maps.len_nil underlying131 ty
 ·rw[a,<-e];exact xx.len b underlying131 ty
theorem bD.mayHave(c:bD p s d w)(n:Nat)(r:n<=1000):au 83 #[aC p.b,ae n] w λe w'=>e=.returned (.bool (s.may n))/\w'=w:=by
 obtain⟨_,_,k,l⟩:=c.cells;have q:=c.len 3;obtain⟨_,_,_,t,u,v⟩:=c.keys;obtain⟨j,a⟩:∃j,j=s.may n:=⟨_,rfl⟩;rw[<-a];unfold Sy.may at a;generalize s.last=h at*;generalize s.ps.length=f at*;generalize d.po=x at*;clear c;have m:IntKind.i64.wrap ((f:Int)+n)=(f:Int)+n:=by rw[IntKind.wrap];simp[IntKind.bits,IntKind.signed];omega
 have o:IntKind.i64.wrap (h+n)=h+n:=by rw[IntKind.wrap];simp[IntKind.bits,IntKind.signed];omega
 go_enter func83,ntmps83;by_cases g:(f:Int)+n<=12
 ·by_cases i:h+n<=90
  ·rw[iu g,iu i]at a;subst a;go_wp2_with fail
   go_ret
   exact⟨rfl,rfl⟩
  ·rw[iu g,decide_eq_false i]at a;subst a;go_wp2_with fail
   go_ret
   exact⟨rfl,rfl⟩
 ·rw[decide_eq_false g]at a;subst a;go_wp2_with fail
  go_ret
  exact⟨rfl,rfl⟩
theorem EI(n:Nat)(nm:aq)(l:List (Bh n))(q:aw)(F len B r:Nat)(w:ah)(J:l.length=len)(K:len<=9223372036854775807)(C:B<=w.heap.size)(_hsb:r<w.heap.size)(v:Hid (ai w r 0 (af q len F)))(y:Hid (iV n B w q l)):au 84 #[aC r,ag nm] w λe w'=>e=.returned (.bool (gE n nm l).isSome)/\ap w w':=by
 have H:=v.out;go_enter func84,ntmps84;go_wp2_with fail;go_loopw [12] (λm wr=>∃a:Nat,a<=len/\m=ae a/\Hid (ap w wr/\gE n nm l=gE n nm (l.drop a))) (λm _=>len-(intOf m).toNat)
 case atStart=>exact⟨0,by omega,rfl,aE _ _,rfl⟩
 case round=>
 obtain⟨a,I,rfl,c⟩:=hrel;by_cases L:a<len
 ·obtain⟨b,d⟩:∃b,l[a]?=some b:=⟨l[a]'(by omega),aS _⟩;obtain⟨j,lo,rfl,E,x⟩:∃g o,q=some ⟨g,o,none⟩/\g<B/\Hid (∀(t:Nat)(f:ax),(rJ n b)[t]?=some f->ai w g (o+a*2+t) f):=by
   rcases y with e|⟨g,o,e,D,A⟩
   ·rw[e]at d;simp at d
   ·exact⟨g,o,e,D,(A a _ d).1⟩
  have h:∀(t:Nat)(f:ax),(rJ n b)[t]?=some f->ai wr j (lo+a*2+t) f:=λt f u=>(c.1.cell (p:=⟨j,lo+a*2+t,none⟩) (aY E C)).trans (x t f u);have G:ai wr j (lo+a*2) (ag b.1):=h 0 _ rfl;have O:ai wr j (lo+a*2+1) (af b.2.1.1 b.2.2.length b.2.1.2):=h 1 _ rfl;have M:(0:Int)<=(a:Int):=by omega
  have N:(a:Int)<(len:Int):=by omega
  have s:Hid (∀o,ap w (wr.alloc o)):=λo=>c.1.alloc c.1.size o;by_cases i:b.1=nm
  ·have k:Hid (gE n nm l=some b):=by
     show _=_;rw[c.out.2,pE n nm d,if_pos i]
   rw[i]at G;clear h c d;go_wp2_with fail
   go_ret
   exact⟨bY (by rw[k.out];rfl),s _⟩
  ·have k:Hid (gE n nm l=gE n nm (l.drop (a+1))):=by
     show _=_;rw[c.out.2,pE n nm d,if_neg i]
   have u:(b.1.toList==nm.toList)=false:=by
    rw[dK];intro e;rw[cC,cC]at e;exact i (ByteArray.ext (Array.ext' e))
   clear h c d;go_wp2_with fail;go_roundw
   case rel=>exact⟨a+1,by omega,by go_num,s _,k⟩
   case measure=>simp[intOf];omega
 ·obtain rfl:a=len:=by omega
  have z:Hid (gE n nm l=none):=by
   show _=_;rw[c.out.2,p9 (by omega)];rfl
  have HB:=av c.1;clear c;go_wp2_with fail
  go_ret
  exact⟨bY (by rw[z.out];rfl),HB⟩
theorem bD.knows(a:bD p s d w)(nm:aq):au 84 #[aC p.b,ag nm] w λe w'=>e=.returned (.bool (lV p.n p.prog nm))/\ap w w':=
 EI (p.n+1) nm p.prog p.pa p.pc p.prog.length w.heap.size p.b w rfl (aD a.pg.2.1 a.pg.2.2.1) (ay _) a.lo.2 a.cells.1 a.pg.1.1
end
theorem oX{g:Type}{k j:Int}(d:j≠k):(l:List (Int×g))->(l.eraseP λp=>p.1==k).find? (λp=>p.1==j)=l.find? λp=>p.1==j
 | []=>rfl
 | a::l=>by
  rw[List.eraseP_cons];by_cases b:a.1=k
  ·have c:(a.1==k)=true:=by simpa using b
   have f:(a.1==j)=false:=by simp[b];exact λe=>d e.symm
   simp[c,f]
  ·have c:(a.1==k)=false:=by simpa using b
   simp only[c,cond_false,km];rw[oX d l]
theorem yp{g:Type}{k:Int}:(l:List (Int×g))->(l.map (·.1)).Nodup->(l.eraseP λp=>p.1==k).find? (λp=>p.1==k)=none
 | [],_=>rfl
 | a::l,hn=>by
  rw[bz,nK]at hn;rw[List.eraseP_cons];by_cases b:a.1=k
  ·have c:(a.1==k)=true:=by simpa using b
   simp only[c,cond_true];refine qd.2 λf e=>?_;simp only[cR];intro d;exact hn.1 (b9.2 ⟨f,e,d.trans b.symm⟩)
  ·have c:(a.1==k)=false:=by simpa using b
   simp only[c,cond_false,km];exact yp l hn.2
def ew(a:Nat)(d b:gW)(w w':ah):Prop:=bG (λq=>d.ow q<0) w w'/\(∀q,q<w.heap.size->b.ow q=d.ow q)/\b.k=d.k/\b.es.length<=d.es.length+a/\b.wn<=d.wn+a/\b.bn<=d.bn+a
theorem ew.trans{a b:Nat}{d d1 d2:gW}{w w1 w2:ah}(i:ew a d d1 w w1)(k:ew b d1 d2 w1 w2):ew (a+b) d d2 w w2:=by
 obtain⟨g,h,j,o,p,q⟩:=i;obtain⟨l,m,n,s,t,u⟩:=k;have r:=g.size;exact⟨g.trans l λc e f=>by rw[h c e]at f;exact f,λc e=>(m c (by omega)).trans (h c e),n.trans j,by omega,by omega,by omega⟩
variable{d1:gW}
theorem ew.mono(c:ew a d d1 w w1)(k:a<=b):ew b d d1 w w1:=by
 obtain⟨e,f,g,h,i,j⟩:=c;exact⟨e,f,g,by omega,by omega,by omega⟩
theorem ew.later(d:gW)(a:ap w w1):ew 0 d d w w1:=⟨aM a _,λ_ _=>rfl,rfl,ay _,ay _,ay _⟩
theorem zJ.up{p:mL}{wt:aq}{a b:Int}{t:Tc}(f:bD p s d w)(k:zJ p s d wt a b t w w'):∃e,bD p (s.tell wt a b t) e w'/\ew 1 d e w w':=by
 obtain⟨l,m,g,h⟩:=k;refine⟨_,g,h.mono λi _ c=>?_,λi j=>if_neg (by omega),rfl,by simp,fM _,fM _⟩;rcases c with c|c
 ·rw[c,f.own];decide
 ·rw[c];decide
section
variable {p:mL} {s:Sy} {d:gW} {w:ah}
theorem bD.del(a:bD p s d w)(k:Int):∃w',(∀ty,(Builtin.delete_ #[131,3] ty #[.map d.po,ae k]).run Tryz.prog w=.ok (.tuple #[]) w')/\bD p {s with ps:=s.ps.eraseP λq=>q.1==k} {d with l:=d.l.eraseP λq=>q.1==k} w'/\bG (λq=>d.ow q=-5/\q≠p.b) w w':=by
 have J:(d.l.eraseP λq=>q.1==k).map (·.1)=(s.ps.eraseP λq=>q.1==k).map (·.1):=by
  have e:=congrArg (λl=>l.eraseP (λq=>q==k)) a.keys.1;simpa [List.eraseP_map,Function.comp_def]using e
 obtain⟨E,u,F,G,H,I⟩:=a.keys;have L:(d.l.map (·.1)).Nodup:=by rw[E];exact u
 have v:∀(w':ah),bG (λq=>d.ow q=-5/\q≠p.b) w w'->((d.po=none/\d.l.eraseP (λq=>q.1==k)=[])\/∃h,d.po=some h/\d.ow h=-5/\h≠p.b/\IM w' h (d.l.eraseP λq=>q.1==k))->bD p {s with ps:=s.ps.eraseP λq=>q.1==k} {d with l:=d.l.eraseP λq=>q.1==k} w':=λw' c M=>by
  have i:∀b,d.ow b≠0->d.ow b=d.ow b:=λ_ _=>rfl;have y:∀b,d.ow b≠0->p.lo<=b/\b<w'.heap.size:=λb q=>⟨(a.low b q).1,aY (a.low b q).2 c.size⟩;have m:w'.heap[p.b]?=some (.cells (ez p s d) 139):=(c.block p.b a.lo.2 λn=>n.2 rfl).trans a.box;have t:∀{t:Int},t≠ -5->∀b,d.ow b=t->¬(d.ow b=-5/\b≠p.b):=λO b e n=>O (e.symm.trans n.1);obtain⟨y1,y2,T⟩:=a.wyK c (t (by decide)) i rfl (rB m).1;obtain⟨f,g⟩:=a.evK c (t (by decide)) i;refine⟨y,m,a.own,⟨a.pgK c (t (by decide)) i,a.pg.2⟩,M,⟨J,?_,λq N=>F q (List.mem_of_mem_eraseP N),G,H,?_⟩,λj b q=>?_,⟨y1,y2,a.wy.2.2.1,a.wy.2.2.2.1,T⟩,a.bdK c (t (by decide)) i rfl (rB m).2,f,a.evt.1,g⟩
  ·exact(u.sublist ((List.eraseP_sublist (l:=s.ps) (p:=λq=>q.1==k)).map _))
  ·exact aD (List.length_eraseP_le) I
  ·have x:j≠k:=λe=>by
     subst e;have:dn (d.l.eraseP λq=>q.1==j) j=none:=by unfold dn;rw[yp d.l L];rfl
     rw[this]at q;cases q
   have z:dn d.l j=some b:=by
    unfold dn at q ⊢;rw[oX x]at q;exact q
   obtain⟨P,B,A,r,D⟩:=a.psK c (ay _) (t (by have:=(a.key z).1;omega)) i y z;refine⟨P,B,A,?_,D⟩;unfold Sy.get at r ⊢;rw[oX x];exact r
 rcases a.pm with⟨f,g⟩|⟨h,f,g,o,C⟩
 ·refine⟨w,?_,v w (bG.refl _ _) (ak ⟨f,by rw[g];rfl⟩),bG.refl _ _⟩;have K:=underlying131;intro ty;rw[f];simp[Builtin.delete_,cI K,lR,Result.andThen]
 ·obtain⟨w',Q,R,S,_⟩:=xx.del C underlying131 k;have c:bG (λq=>d.ow q=-5/\q≠p.b) w w':=S.mono λq _ e=>by rw[e];exact⟨g,o⟩
  exact⟨w',λty=>by rw[f];exact Q ty,v w' c (am ⟨h,f,g,o,R⟩),c⟩
theorem Hu(a:Nat)(c:da)(x how:Int)(w w1:ah)(R:bE)(f:Hid (ai w a 3 (.map c)))(i:∀ty,(Builtin.delete_ #[131,3] ty #[.map c,ae x]).run Tryz.prog w=.ok (.tuple #[]) w1)(g:Hid (au 124 #[aC a,ag ⟨#[101,110,100]⟩,ae x,ae how,.agg #[ae 0,ae 0,ag ⟨#[]⟩,af none 0 0]] w1 λe w'=>e=.returned (.tuple #[])/\R w')):au 157 #[aC a,ae x,ae how] w λe w'=>e=.returned (.tuple #[])/\R w':=by
 have h:=f.out;go_enter func157,ntmps157;go_wp2_with fail;refine g.mono ?_;rintro e j ⟨rfl,b⟩;have d:=av b;clear b;go_wp2_with fail;exact eE (v:=.tuple #[]) (by simp[results]) rfl ⟨rfl,d⟩
theorem bD.drop(g:bD p s d w)(x how:Int)(k:d.es.length<=100000):au 157 #[aC p.b,ae x,ae how] w λe w'=>e=.returned (.tuple #[])/\Hid (∃c,bD p (s.drop x how) c w'/\ew 1 d c w w'):=by
 obtain⟨f,m,h,n⟩:=g.del x;refine Hu p.b d.po x how w f _ g.cells.2.2.2 m ((h.tell Oq x how 0 0 ⟨#[]⟩ none 0 0 tT (Kt f) k).mono λe w' a=>⟨a.1,?_⟩);obtain⟨c,i,j⟩:=a.2.up h;have o:ew 0 d {d with l:=d.l.eraseP λa=>a.1==x} w f:=⟨n.mono λa _ e=>by rw[e.1];decide,λ_ _=>rfl,rfl,ay _,ay _,ay _⟩;exact⟨c,i,(o.trans j).mono (ay _)⟩
end
theorem NJ{e:TypeId}{sz:Nat}{xs:dG}(b:w.ownsRow base e sz v n xs):∃a c,v=af a n c:=by
 rcases b.2 with⟨rfl,rfl⟩|⟨f,c,d,rfl,_⟩
 ·exact⟨none,0,rfl⟩
 ·exact⟨_,c,rfl⟩
section
variable {p:mL} {s:Sy} {d:gW} {w:ah}
theorem bD.parted(a:bD p s d w){x:Int}(u:dm x)(h:Bool):au 158 #[.pointer (some ⟨p.b,5,none⟩),ae x,.bool h] w λe w'=>∃v,e=.returned v/\Hid (iR w.heap.size v (tj s.bonds x h) w'/\bD p {s with bonds:=wo s.bonds (x::tj s.bonds x h)} d w'/\ew 0 d d w w'):=by
 refine(Ka a.bd.1 a.bd.2.1 u h).mono ?_;rintro e w' ⟨v,rfl,l⟩;obtain⟨o,q,c⟩:=l;have f:∀b,d.ow b≠0->d.ow b=d.ow b:=λ_ _=>rfl;have j:∀b,d.ow b≠0->p.lo<=b/\b<w'.heap.size:=λb g=>⟨(a.low b g).1,aY (a.low b g).2 c.size⟩;have t:∀{t:Int},t≠ -2->∀b,d.ow b=t->¬d.bo=some b:=λr b e z=>r (e.symm.trans (a.bd.2.2 b z));have i:w'.heap[p.b]?=some (.cells (ez p s d) 139):=(c.block p.b a.lo.2 (t (by decide) p.b a.own)).trans a.box;obtain⟨y1,y2,y⟩:=a.wyK c (t (by decide)) f rfl (rB i).1;obtain⟨m,n⟩:=a.evK c (t (by decide)) f;exact⟨v,rfl,o,⟨j,i,a.own,⟨a.pgK c (t (by decide)) f,a.pg.2⟩,a.pmK c (λb e _=>t (by decide) b e) f,a.keys,λk b g=>a.psK c (ay _) (t (by have:=(a.key g).1;omega)) f j g,⟨y1,y2,a.wy.2.2.1,a.wy.2.2.2.1,y⟩,⟨q,a.bd.2.1.wo _,a.bd.2.2⟩,m,a.evt.1,n⟩,c.mono λb _ e=>by rw[a.bd.2.2 b e];decide,λ_ _=>rfl,rfl,ay _,ay _,ay _⟩
theorem M6{g:bC->Bool}(b:Bk g)(x:Int)(a:Bool):(tj g x a).length<=99:=by
 unfold tj;split
 ·simp
 ·exact(FF b x).le
theorem KG(b:Nat)(x how:Int)(w:ah)(l:List Int)(L:Nat)(h:Bool)(R:aw->Nat->Nat->bE)(D:L<=99)(z:Hid (l.length=L))(s:h=(how==1))(o:Hid (au 157 #[aC b,ae x,ae how] w λe w'=>e=.returned (.tuple #[])/\Hid (au 158 #[.pointer (some ⟨b,5,none⟩),ae x,.bool h] w' λe w'=>∃a c,e=.returned (af a L c)/\Hid (R a c 0 w'))))(A:Hid (∀a c j W,R a c j W->(∀(i:Nat)(k:Int),l[i]?=some k->∃g,a=some ⟨g,0,none⟩/\ai W g i (ae k))/\∀y,l[j]?=some y->au 157 #[aC b,ae y,ae 4] W λe w'=>e=.returned (.tuple #[])/\Hid (R a c (j+1) w'))):au 127 #[aC b,ae x,ae how] w λe w'=>e=.returned (.tuple #[])/\Hid (∃a c,R a c L w'):=by
 go_enter func127,ntmps127;go_wp2_with fail;refine o.mono ?_;rintro e I ⟨rfl,n⟩;have E:(how==1)=h:=s.symm;clear o s;go_wp2_with fail;refine n.mono ?_;rintro e J ⟨a,c,rfl,d⟩;clear n;go_wp2_with fail;go_loopw [7,20] (λ_ i wr=>∃j:Nat,j<=L/\i=ae j/\Hid (R a c j wr)) (λ_ i _=>L-(intOf i).toNat)
 case atStart=>exact⟨0,aK _,rfl,d⟩
 case round=>
 obtain⟨j,F,rfl,f⟩:=hrel;by_cases C:j<L
 ·obtain⟨y,m⟩:∃y,l[j]?=some y:=⟨l[j]'(by rw[z.out];exact C),aS _⟩;obtain⟨q,r⟩:=A a c j wr f;obtain⟨g,rfl,B⟩:=q j y m;have p:=av (r y m);have G:(0:Int)<=(j:Int):=by omega
  have H:(j:Int)<(L:Int):=by omega
  clear q r m d;go_wp2_with fail;refine p.mono ?_;rintro e K ⟨rfl,t⟩;clear p B;go_wp2_with fail;go_roundw
  case rel=>exact⟨j+1,by omega,by go_num,t⟩
  case measure=>simp[intOf];omega
 ·obtain rfl:j=L:=by omega
  have u:=av f.out;clear f d;go_wp2_with fail;exact eE (v:=.tuple #[]) (by simp[results]) rfl ⟨rfl,a,c,u⟩
theorem bD.fin(F:bD p s d w){x how:Int}(O:dm x)(ad:d.es.length<=99000):au 127 #[aC p.b,ae x,ae how] w λe w'=>e=.returned (.tuple #[])/\Hid (∃g,bD p (s.fin x how) g w'/\ew 100 d g w w'):=by
 have I:=M6 F.bd.2.1 x (how==1);obtain⟨l,z⟩:∃l,l=tj s.bonds x (how==1):=⟨_,rfl⟩;rw[<-z]at I;refine(KG p.b x how w l l.length (how==1) (λf c B m=>∃g q,bD p ((l.take B).foldl (λs D=>s.drop D 4) {s.drop x how with bonds:=wo s.bonds (x::l)}) g m/\ew (1+B) d g w m/\iR q (af f l.length c) l m/\∀a,(Value.slice f l.length c).ownBlock=some a->g.ow a=0) I rfl rfl ?_ ?_).mono ?_
 ·refine(F.drop x how (by omega)).mono ?_;rintro e aj ⟨rfl,j⟩;obtain⟨d1,G,S⟩:=j.out;refine⟨rfl,(G.parted O (how==1)).mono ?_⟩;rintro e ak ⟨T,rfl,L⟩;obtain⟨v,K,R⟩:=L;have h:(s.drop x how).bonds=s.bonds:=rfl;rw[h,<-z]at v K;obtain⟨f,c,rfl⟩:∃f c,T=af f l.length c:=NJ v;refine⟨f,c,rfl,d1,_,K,(S.trans R).mono (by omega),v,λa A=>?_⟩;have ab:=(v.lt a A).1;by_cases H:d1.ow a=0
  ·exact H
  ·have:=(G.low a H).2;omega
 ·rintro f c B m ⟨g,q,r,t,u,E⟩;refine⟨λP k n=>?_,λD J=>?_⟩
  ·obtain⟨V,W,e,o⟩:=u.row;injection e with h _ y;subst h y;rcases u.2 with⟨e,M⟩|⟨Z,X,Y,e,_⟩
   ·rw[bZ M]at n;simp at n
   ·injection e with h _ y;subst h y;rcases o with o|⟨aa,ai,e,ah,o⟩
    ·rw[o]at n;simp at n
    ·injection e with e;injection e with h N;subst h N;have:=o P k n;rw[cw]at this;exact⟨_,rfl,this⟩
  ·have ag:=(aZ.1 J).1;refine(r.drop D 4 (by have:=t.2.2.2.1;omega)).mono ?_;rintro e w' ⟨rfl,j⟩;obtain⟨d2,Q,C⟩:=j.out;have A:∀a,(Value.slice f l.length c).ownBlock=some a->a<m.heap.size:=λa i=>(u.lt a i).2;refine⟨rfl,d2,q,?_,(t.trans C).mono (by omega),bB u C.1 λa i U=>by rw[E a i]at U;omega,λa i=>(C.2.1 a (A a i)).trans (E a i)⟩;rw[dJ,J,nG];exact Q
 ·rintro e w' ⟨rfl,j⟩;obtain⟨f,c,g,q,r,t,_⟩:=j;refine⟨rfl,g,?_,t.mono (by omega)⟩;rw[bF (ay _)]at r;unfold Sy.fin;rw[<-z];exact r
end
section
variable {p:mL} {s:Sy} {d:gW} {w:ah}
theorem bD.linkB(c:bD p s d w){x y:Int}(J:dm x)(K:dm y)(F:d.bn<1000000):au 184 #[.pointer (some ⟨p.b,5,none⟩),ae x,ae y] w λe w'=>e=.returned (ae (wC x y))/\Hid (∃q,bD p {s with bonds:=if wC x y=0 then iw s.bonds (jj x y) true else s.bonds} q w'/\ew 1 d q w w'):=by
 refine(G7 c.bd.1 J K F).mono ?_;rintro e w' ⟨rfl,A⟩;obtain⟨o,f,g,D⟩:=A;have H:=g.size;have i:∀b,MN (Ov p s d) d.bo b->b=p.b\/d.ow b=-2:=λb e=>e.imp id (c.bd.2.2 b);have G:o≠some p.b:=λe=>by
  subst e;exact f.ne rfl
 have t:∀{t:Int},t≠ -2->t≠ -5->∀b,d.ow b=t->¬MN (Ov p s d) d.bo b:=λf E b e a=>by
  rcases i b a with a|a
  ·rw[a,c.own]at e;exact E e.symm
  ·exact f (e.symm.trans a)
 have r:w'.heap[p.b]?=some (.cells (ez p {s with bonds:=if wC x y=0 then iw s.bonds (jj x y) true else s.bonds} {d with ow:=GA d w w' (-2),bo:=o,bn:=d.bn+1}) 139):=by
  have:=f.2.1.2;simpa [Ov,ez]using this
 have z:=vd (t:=-2) c H c.lo.1;have h:=ve (w':=w') (t:=-2) c;obtain⟨B,C⟩:=rB r;obtain⟨y1,y2,N⟩:=c.wyK g (t (by decide) (by decide)) h rfl B;obtain⟨l,m⟩:=c.evK g (t (by decide) (by decide)) h;refine⟨rfl,{d with ow:=GA d w w' (-2),bo:=o,bn:=d.bn+1},⟨z,r,(h p.b (by rw[c.own];decide)).trans c.own,⟨c.pgK g (t (by decide) (by decide)) h,c.pg.2⟩,c.pmK g (λb l m a=>?_) h,c.keys,λk b j=>c.psK g (ay _) (t (by have:=(c.key j).1;omega) (by have:=(c.key j).1;omega)) h z j,⟨y1,y2,c.wy.2.2.1,c.wy.2.2.2.1,N⟩,⟨?_,?_,λb e=>?_⟩,l,c.evt.1,m⟩,g.mono λb _ e=>?_,λj O=>if_neg (by omega),rfl,fM _,fM _,ay _⟩
 ·rcases i b a with a|a
  ·exact m a
  ·rw[l]at a;cases a
 ·exact⟨f.1,C,f.2.2⟩
 ·show Bk (if wC x y=0 then iw s.bonds (jj x y) true else s.bonds);split
  ·rename_i n;intro k u;by_cases v:k=jj x y
   ·subst v;unfold wC at n;split at n
    ·rename_i I;obtain⟨L,M,P⟩:=I;simp only[oP,aO,cT]at L M;unfold jj;simp only;omega
    ·cases n
   ·rw[cd _ _ v]at u;exact c.bd.2.1 k u
  ·exact c.bd.2.1
 ·rcases D b (am e)with a|a
  ·rcases i b a with a|a
   ·subst a;exact absurd e G
   ·exact(h b (by rw[a];decide)).trans a
  ·have:=(f.lt b (am e)).2;exact if_pos ⟨a,this⟩
 ·rcases i b e with a|a
  ·rw[a,c.own];decide
  ·rw[a];decide
theorem Nx(d:Nat)(a b:Int)(r:Bool)(v:Int)(w:ah)(R:bE)(f:Hid (au 130 #[aC d,ae b] w λe w'=>e=.returned (.bool r)/\w'=w))(i:Hid (r=false->R w))(j:Hid (r=true->au 184 #[.pointer (some ⟨d,5,none⟩),ae a,ae b] w λe w'=>e=.returned (ae v)/\Hid (R w'))):au 160 #[aC d,ae a,ae b] w λe w'=>e=.returned (.tuple #[])/\Hid (R w'):=by
 go_enter func160,ntmps160;go_wp2_with fail;refine f.mono ?_;rintro e k ⟨rfl,g⟩;obtain rfl:=g.symm;clear g f;cases r
 ·have c:=av (i rfl);go_wp2_with fail;exact eE (v:=.tuple #[]) (by simp[results]) rfl ⟨rfl,c⟩
 ·have c:=av (j rfl);go_wp2_with fail;refine c.mono ?_;rintro e l ⟨rfl,h⟩;go_wp2_with fail;exact eE (v:=.tuple #[]) (by simp[results]) rfl ⟨rfl,h⟩
theorem bD.link(f:bD p s d w){a b:Int}(g:dm a)(h:dm b)(i:d.bn<1000000):au 160 #[aC p.b,ae a,ae b] w λe w'=>e=.returned (.tuple #[])/\Hid (∃c,bD p (s.link a b) c w'/\ew 1 d c w w'):=by
 refine Nx p.b a b (s.get b).isSome (wC a b) w (λw'=>∃c,bD p (s.link a b) c w'/\ew 1 d c w w') (f.isAlive b) (λe=>⟨d,?_,(ew.later d (aE _ _)).mono (aK _)⟩) λe=>?_
 ·unfold Sy.link;rw[e];exact f
 ·unfold Sy.link;rw[e];exact f.linkB g h i
end
section
variable {p:mL} {s:Sy} {d:gW} {w:ah}
theorem LS{m:Nat}{x:Tm (m+1)}(c:bJ (m+1) x=0)(a b:Int)(L:Nat):oH 12 a b (bi 13 (m+1) x) L=oH 12 a b (cn (m+1) x) L:=by
 have f:aJ ⟨m+1,x⟩:=aW.2 (bS.1 c).1;have e:=jU 13 (m+1) x f (by have:=(bS.1 c).2.1;omega);have d:=eF c;unfold oH;rw[bN e,cF _ _ _ _ e,bN d,cF _ _ _ _ d]
theorem bD.sendW(g:bD p s d w){a b:Int}(aj:I2 (a,b)){m:Nat}(x:Tm (m+1))(ap:In w.heap.size w (m+1) x)(A:bJ (m+1) x=0)(al:d.wn<999999):au 183 #[.pointer (some ⟨p.b,4,none⟩),ae a,ae b,dE (m+1) x] w λe w'=>e=.returned (ae (oH 12 a b (cn (m+1) x) (s.ways (a,b)).length))/\Hid (∃o,bD p (if oH 12 a b (cn (m+1) x) (s.ways (a,b)).length=0 then {s with ways:=iw s.ways (a,b) (s.ways (a,b)++ [cn (m+1) x])}else s) o w'/\ew 1 d o w w'):=by
 have Z:aJ ⟨m+1,x⟩:=aW.2 (bS.1 A).1;have V:gI (m+1) x<13:=by have:=(bS.1 A).2.1;omega
 have aa:=jU 13 (m+1) x Z V;have W:(d.f (a,b)).length=(s.ways (a,b)).length:=by
  have:=congrArg List.length (g.wy.2.2.1 (a,b));simpa using this
 have ax:(d.f (a,b)).length<=20:=g.wy.2.2.2.1 _;have ao:dE (m+1) x=dE (12+1) (bi 13 (m+1) x):=(Av 12 m x).symm;rw[ao];have T:bJ 13 (bi 13 (m+1) x)=0:=(bN aa).trans A;refine(LU (N:=12) g.wy.1 aj (bi 13 (m+1) x) (tC 13 (m+1) x _ _ Z V ap) (gG T) al (by omega)).mono ?_;rintro e w' ⟨rfl,y,Q⟩;rw[W,LS A]at y Q ⊢;refine⟨rfl,?_⟩;by_cases j:oH 12 a b (cn (m+1) x) (s.ways (a,b)).length=0;rotate_left
 ·rw[if_neg j];exact⟨d,g.later (y j),(ew.later d (y j)).mono (aK _)⟩
 rw[if_pos j];obtain⟨n,L,sl,ab,C,r,K,ad,aq⟩:=Q j;have R:aV 13 (cn (m+1) x)=true/\(s.ways (a,b)).length<20:=by
  unfold oH im at j;split at j
  ·cases j
  ·split at j
   ·rename_i i;exact absurd j i
   ·split at j
    ·cases j
    ·rename_i i;split at j
     ·cases j
     ·exact⟨by simpa using i,by omega⟩
 have S:cn 13 n=cn (m+1) x:=(gA ab).trans (gA aa);have U:bJ 13 n=0:=(bN ab).trans T;have ak:aV 13 n=true:=by
  have:=cF _ _ _ _ (eF U);rw[S]at this;exact this.symm.trans R.1
 have an:=r.size;have B:=g.wy.2.1;have t:∀{t:Int},t≠ -1->t≠ -5->∀b,d.ow b=t->¬sR (Bf p s d) d.wo d.sl b:=λy ai b e c=>by
  rcases B b c with c|c
  ·rw[c,g.own]at e;exact ai e.symm
  ·exact y (e.symm.trans c)
 obtain⟨o,v⟩:∃o,o={d with ow:=GA d w w' (-1),wo:=L,wn:=d.wn+1,f:=iw d.f (a,b) (d.f (a,b)++ [n]),sl:=sl}:=⟨_,rfl⟩;obtain⟨E,I⟩:∃E,E={s with ways:=iw s.ways (a,b) (s.ways (a,b)++ [cn (m+1) x])}:=⟨_,rfl⟩;have H:w'.heap[p.b]?=some (.cells (ez p E o) 139):=by
  have:=C.2.1.2;rw[I,v];simpa [Bf,ez]using this
 have X:=vd (t:=-1) g an g.lo.1;have q:=ve (w':=w') (t:=-1) g;obtain⟨O,P⟩:=rB H;rw[v]at P;have az:∀h,sR (Bf p E o) L sl h->sR (Bf p s d) d.wo d.sl h\/w.heap.size<=h:=K;obtain⟨F,G⟩:=g.evK r (t (by decide) (by decide)) q;refine⟨o,?_,?_⟩
 ·rw[<-I,v];rw[I]at*;refine⟨X,by rw[v]at H;exact H,(q p.b (by rw[g.own];decide)).trans g.own,⟨g.pgK r (t (by decide) (by decide)) q,g.pg.2⟩,g.pmK r (λb F G c=>?_) q,g.keys,λk b h=>g.psK r (ay _) (t (by have:=(g.key h).1;omega) (by have:=(g.key h).1;omega)) q X h,⟨?_,λh c=>?_,λk=>?_,λk=>?_,λk c i=>?_⟩,g.bdK r (t (by decide) (by decide)) q rfl P,F,g.evt.1,G⟩
  ·rcases B b c with c|c
   ·exact G c
   ·rw[F]at c;cases c
  ·rw[v]at O;exact⟨C.1,O,C.2.2⟩
  ·rcases K h c with z|z
   ·exact(B h z).imp id λe=>(q h (by rw[e];decide)).trans e
   ·exact am (if_pos ⟨z,(C.lt h c).2⟩)
  ·by_cases l:k=(a,b)
   ·subst l;show (iw d.f (a,b) (d.f (a,b)++ [n]) (a,b)).map (cn 13)=iw s.ways (a,b) (s.ways (a,b)++ [cn (m+1) x]) (a,b);rw[de,de,ft,g.wy.2.2.1,bz,dz,S]
   ·show (iw d.f (a,b) (d.f (a,b)++ [n]) k).map (cn 13)=iw s.ways (a,b) (s.ways (a,b)++ [cn (m+1) x]) k;rw[cd _ _ l,cd _ _ l];exact g.wy.2.2.1 k
  ·by_cases l:k=(a,b)
   ·subst l;show (iw d.f (a,b) (d.f (a,b)++ [n]) (a,b)).length<=20;rw[de,bm,W];have:=R.2;simp;omega
   ·show (iw d.f (a,b) (d.f (a,b)++ [n]) k).length<=20;rw[cd _ _ l];exact g.wy.2.2.2.1 k
  ·have i:c∈iw d.f (a,b) (d.f (a,b)++ [n]) k:=i;have Y:∀J,∀c∈d.f J,bJ 13 c=0/\aV 13 c=true/\In w'.heap.size w' 13 c/\cE (λh=>GA d w w' (-1) h=-1/\¬sR (Bf p s d) L sl h) 13 c:=λJ c i=>by
    obtain⟨ar,av,af,aw⟩:=g.wy.2.2.2.2 J c i;have ag:=fA r (D:=λh=>(d.ow h=-1/\¬sR (Bf p s d) d.wo d.sl h)/\h<w.heap.size) (λh z M=>z.1.2 M) ⟨af,In.offB aw af⟩;refine⟨ar,av,ag.1,ag.2.mono λh u=>⟨(q h (by rw[u.1.1];decide)).trans u.1.1,λM=>?_⟩⟩;rcases K h M with ah|ah
    ·exact u.1.2 ah
    ·omega
   by_cases l:k=(a,b)
   ·subst l;rw[de]at i;rcases dt.1 i with i|i
    ·exact Y _ c i
    ·obtain rfl:=dN.1 i;exact⟨U,ak,ad,(In.offB aq ad).mono λh u=>⟨if_pos ⟨u.1.1,u.2⟩,u.1.2⟩⟩
   ·rw[cd _ _ l]at i;exact Y _ c i
 ·rw[v]
  exact⟨r.mono λb _ e=>by
   rcases B b e with c|c
   ·rw[c,g.own];decide
   ·rw[c];decide,λh aA=>if_neg (by omega),rfl,fM _,ay _,fM _⟩
end
theorem fi(b:ap w w'){q:Nat}{o:Obj}(a:w.heap[q]?=some o):w'.heap[q]?=some o:=(b.block q (aN.1 a).1).trans a
theorem Fv(x:Nat)(a b c d:Int)(f:aq)(xa:aw)(g xc:Nat)(v:Int)(w:ah)(C R:bE)(A:Hid (∀W,ap w W->au 183 #[.pointer (some ⟨x,4,none⟩),ae a,ae b,.agg #[ae c,ae d,ag f,af xa g xc]] W λe w'=>e=.returned (ae v)/\Hid (C w'/\∀q,w.heap.size<=q->q<W.heap.size->w'.heap[q]?=W.heap[q]?)))(B:Hid (∀W,C W->au 124 #[aC x,ag (if v=0 then ⟨#[115,101,110,100]⟩else ⟨#[108,111,115,116]⟩),ae a,ae b,.agg #[ae c,ae d,ag f,af xa g xc]] W λe w'=>e=.returned (.tuple #[])/\Hid (R w'))):au 159 #[aC x,ae a,ae b,.agg #[ae c,ae d,ag f,af xa g xc]] w λe w'=>e=.returned (.tuple #[])/\Hid (R w'):=by
 go_enter func159,ntmps159;go_upto_region 1 with fail;generalize D:w.alloc _=h;have n:Hid (ap w h/\h.heap[w.heap.size]?=some (.cells #[ae c,ae d,ag f,af xa g xc] 54)):=by
  rw[<-D];exact⟨aT _ _,aI _ _⟩
 clear D;obtain⟨q,m⟩:∃q,q=w.heap.size:=⟨_,rfl⟩;rw[<-m];have s:Hid (h.heap[q]?=some (.cells #[ae c,ae d,ag f,af xa g xc] 54)):=by rw[m];exact n.2
 have HB:=av n.1;have E:=av m;clear m n;have r:Hid (ap h h.drew):=(aE _ _).drew;have z:=av (HB.trans (r.mono HB.size));have k:=av (fi r s);have i:Hid (∀W:ah,W.heap[q]?=some (.cells #[ae c,ae d,ag f,af xa g xc] 54)->ai W q 0 (ae c)/\ai W q 1 (ae d)/\ai W q 2 (ag f)/\ai W q 3 (af xa g xc)):=λW l=>⟨aj l 0,aj l 1,aj l 2,aj l 3⟩;obtain⟨F,G,H,I⟩:=i.out h s
 go_region_held3 (λW=>W.cell? ⟨q,0,none⟩=some (ae c)/\W.cell? ⟨q,1,none⟩=some (ae d)/\W.cell? ⟨q,2,none⟩=some (ag f)/\W.cell? ⟨q,3,none⟩=some (af xa g xc))
  (first|exact i _ k|exact i _ t) ((first
   | (go_at_call 183;refine(A _ z).mono ?_;rintro e y ⟨rfl,o⟩;have t:Hid (y.heap[q]?=some (.cells #[ae c,ae d,ag f,af xa g xc] 54)):=(o.2 q (by have:=E.out;omega) (aN.1 k).1).trans k)))
 obtain⟨d0,d1,d2,d3⟩:=i.out y t;have j:=av (B y o.1);clear F G H I A B i o t k z r HB s;by_cases u:v=0
 ·subst u;rw[if_pos rfl]at j;go_wp2_with fail;refine j.mono ?_;rintro e J ⟨rfl,p⟩;go_wp2_with fail;exact eE (v:=.tuple #[]) (by simp[results]) rfl ⟨rfl,p⟩
 ·rw[if_neg u]at j;have K:(v==0)=false:=by simpa using u
  go_wp2_with fail;refine j.mono ?_;rintro e J ⟨rfl,p⟩;go_wp2_with fail;exact eE (v:=.tuple #[]) (by simp[results]) rfl ⟨rfl,p⟩
section
variable {p:mL} {s:Sy} {d:gW} {w:ah}
def GU(d:gW)(w:ah){m:Nat}(x:Tm m):Prop:=In w.heap.size w m x/\cE (λq=>0<=d.ow q) m x
theorem GU.up{a m:Nat}{x:Tm m}{f:gW}{w':ah}(c:GU d w x)(k:ew a d f w w'):GU f w' x:=by
 have g:=fA k.1 (D:=λb=>0<=d.ow b/\b<w.heap.size) (λb e h=>by omega) ⟨c.1,In.offB c.2 c.1⟩;exact⟨g.1,g.2.mono λb e=>by rw[k.2.1 b e.2];exact e.1⟩
theorem bD.send(o:bD p s d w){a b:Int}(z:I2 (a,b)){m:Nat}(x:Tm (m+1))(t:GU d w x)(q:bJ (m+1) x=0)(A:d.wn<999999)(D:d.es.length<100000):au 159 #[aC p.b,ae a,ae b,dE (m+1) x] w λe w'=>e=.returned (.tuple #[])/\Hid (∃j,bD p (s.send a b (cn (m+1) x)) j w'/\ew 2 d j w w'):=by
 obtain⟨i,r⟩:∃i,i=oH 12 a b (cn (m+1) x) (s.ways (a,b)).length:=⟨_,rfl⟩;refine Fv p.b a b x.1.1 x.1.2.1 x.1.2.2 x.2.1.1 x.2.2.length x.2.1.2 i w (λc=>∃d1,bD p (if i=0 then {s with ways:=iw s.ways (a,b) (s.ways (a,b)++ [cn (m+1) x])}else s) d1 c/\ew 1 d d1 w c) (λc=>∃j,bD p (s.send a b (cn (m+1) x)) j c/\ew 2 d j w c) (λc g=>?_) λc g=>?_
 ·refine((o.later g).sendW z x ((t.1.below g).mono g.size) q A).mono ?_;rintro e w' ⟨rfl,k⟩;rw[<-r]at k ⊢;obtain⟨d1,n,h⟩:=k.out;refine⟨rfl,⟨d1,n,((ew.later d g).trans h).mono (ay _)⟩,λu C y=>h.1.block u y λE=>?_⟩;have:=(o.low u (by omega)).2;omega
 ·obtain⟨d1,n,h⟩:=g;have B:=t.up h;refine(n.tell (if i=0 then KI else oW) a b x.1.1 x.1.2.1 x.1.2.2 x.2.1.1 x.2.2.length x.2.1.2 (cn (m+1) x) (ld B.1 q) (by have:=h.2.2.2.1;omega)).mono ?_;rintro e w' ⟨rfl,k⟩;obtain⟨d2,f,v⟩:=k.up n;refine⟨rfl,d2,?_,(h.trans v).mono (ay _)⟩;unfold Sy.send;rw[<-r];by_cases l:i=0
  ·rw[if_pos l]at f ⊢;rw[if_pos l]at f;exact f
  ·rw[if_neg l]at f ⊢;rw[if_neg l]at f;exact f
end
def gD(a c:Nat)(d b:gW)(w w':ah):Prop:=bG (λq=>d.ow q≠0) w w'/\(∀q,q<w.heap.size->b.ow q=d.ow q)/\b.k<=d.k+c/\b.es.length<=d.es.length+a/\b.wn<=d.wn+a/\b.bn<=d.bn+a
theorem gD.trans{a b c e:Nat}{d d1 d2:gW}{w w1 w2:ah}(j:gD a c d d1 w w1)(k:gD b e d1 d2 w1 w2):gD (a+b) (c+e) d d2 w w2:=by
 obtain⟨h,i,n,o,p,q⟩:=j;obtain⟨l,m,s,t,u,v⟩:=k;have r:=h.size;exact⟨h.trans l λf g e=>by rw[i f g]at e;exact e,λf g=>(m f (by omega)).trans (i f g),by omega,by omega,by omega,by omega⟩
theorem gD.mono{c e:Nat}(f:gD a c d d1 w w1)(m:a<=b)(n:c<=e):gD b e d d1 w w1:=by
 obtain⟨g,h,i,j,k,l⟩:=f;exact⟨g,h,by omega,by omega,by omega,by omega⟩
theorem ew.un(b:ew a d d1 w w1):gD a 0 d d1 w w1:=⟨b.1.mono λq _ e=>by omega,b.2.1,by have:=b.2.2.1;omega,b.2.2.2⟩
theorem B9{c:Type}(k j:Int)(v:c):(l:List (Int×c))->(l.map λp=>if p.1=k then (k,v)else p).find? (λp=>p.1==j)=(l.find? λp=>p.1==j).map λp=>if p.1=k then (k,v)else p
 | []=>rfl
 | a::l=>by
  rw[bz,km,km,B9 k j v l];by_cases b:a.1=k
  ·rw[if_pos b];simp only[b];cases k==j<;>simp[b]
  ·rw[if_neg b];cases a.1==j<;>simp[b]
theorem P1.lie2{f:Nat}{name:aq}{room:Int}{cs:Tc}{a:List Tc}{M:aU}(c:P1 e f name room cs a k M w):∀b,M b->e<=b/\b<w.heap.size:=by
 obtain⟨h,q,o,t,p,r,s,m,n,g,i,j,l,d⟩:=c;exact d
section
variable {p:mL} {s:Sy} {d:gW} {w:ah}
theorem Gj(s:Sy)(k j:Int)(v:aq×Tc×List Tc):(s.put k v).get j=if j=k then (s.get k).map λ_=>v else s.get j:=by
 unfold Sy.put Sy.get;simp only;rw[B9];by_cases a:j=k
 ·subst a;rw[if_pos rfl];cases e:s.ps.find? (λp=>p.1==j)with
  | none=>rfl
  | some b=>
   have:=List.find?_some e;simp only[cR]at this;simp[this]
 ·rw[if_neg a];cases e:s.ps.find? (λp=>p.1==j)with
  | none=>rfl
  | some b=>
   have:=List.find?_some e;simp only[cR]at this;simp[this,a]
theorem wh(s:Sy)(k:Int)(v:aq×Tc×List Tc):(s.put k v).ps.map (·.1)=s.ps.map (·.1):=by
 unfold Sy.put;simp only[jy];refine lD λb _=>?_;by_cases a:b.1=k
 ·simp[a]
 ·simp[a]
theorem bD.turnP(a:bD p s d w){k:Int}{b:Nat}(y:dn d.l k=some b){nm:aq}{cs m:Tc}{F i:List Tc}(S:s.get k=some (nm,cs,F)){w':ah}(e:bG (λq=>d.ow q=k) w w'){N:aU}{j:Nat}(Q:∀q,N q->d.ow q=k\/w.heap.size<=q)(T:d.k<=j)(x:P1 p.lo b nm p.room m i (j+201) N w')(P:i.length<=20):bD p (s.put k (nm,m,i)) {d with ow:=GA d w w' k,k:=j} w'/\gD 0 (j-d.k) d {d with ow:=GA d w w' k,k:=j} w w':=by
 have Z:=(a.key y).1;have v:=vd (t:=k) a e.size a.lo.1;have f:=ve (w':=w') (t:=k) a;have R:∀q,N q->p.lo<=q/\q<w'.heap.size:=P1.lie2 x;have t:∀{t:Int},t≠k->∀q,d.ow q=t->¬d.ow q=k:=λW q h g=>W (h.symm.trans g);have r:w'.heap[p.b]?=some (.cells (ez p s d) 139):=(e.block p.b a.lo.2 (t (by omega) p.b a.own)).trans a.box;obtain⟨y1,y2,Y⟩:=a.wyK e (t (by omega)) f rfl (rB r).1;obtain⟨G,H⟩:=a.evK e (t (by omega)) f;obtain⟨I,J,K,L,M,O⟩:=a.keys;have U:∀q∈(s.put k (nm,m,i)).ps,1<=q.1/\q.1<=s.last:=λq z=>by
  have:q.1∈(s.put k (nm,m,i)).ps.map (·.1):=b9.2 ⟨q,z,rfl⟩;rw[wh]at this;obtain⟨X,V,h⟩:=b9.1 this;rw[<-h];exact K X V
 refine⟨⟨v,r,(f p.b (by rw[a.own];decide)).trans a.own,⟨a.pgK e (t (by omega)) f,a.pg.2⟩,a.pmK e (λq h _=>t (by omega) q h) f,⟨by rw[wh];exact I,by rw[wh];exact J,U,L,M,by unfold Sy.put;simpa using O⟩,λn c q=>?_,⟨y1,y2,a.wy.2.2.1,a.wy.2.2.2.1,Y⟩,a.bdK e (t (by omega)) f rfl (rB r).2,G,a.evt.1,H⟩,e.mono λq _ h=>by rw[h];omega,λq z=>if_neg (by omega),by show j<=_;omega,ay _,ay _,ay _⟩;by_cases u:n=k
 ·subst u;have q:dn d.l n=some c:=q;rw[y]at q;obtain rfl:=aG q;refine⟨nm,m,i,by rw[Gj,if_pos rfl,S];rfl,x.mono (λq g=>?_) (ay _) λq g=>v q (by have g:GA d w w' n q=n:=g;rw[g];omega),P⟩;rcases Q q g with o|o
  ·exact(f q (by rw[o];omega)).trans o
  ·exact if_pos ⟨o,(R q g).2⟩
 ·obtain⟨A,B,C,D,E⟩:=a.psK e T (t u) f v q;exact⟨A,B,C,by rw[Gj,if_neg u];exact D,E⟩
end
theorem Jg(i L:Nat)(G:da)(a b d f:Int)(g:aq)(xa:aw)(h xc:Nat)(v:Int)(w:ah)(o R:bE)(V:i<w.heap.size)(M:Hid (ai w i 3 (.map G)))(H:Hid (∀W,ap w W->(Instr.lookup 131 (.map G) (ae b) false).run Tryz.prog W=.ok (aC L) W))(I:Hid (∀W,ap w W->au 162 #[aC L,.agg #[ae d,ae f,ag g,af xa h xc]] W λe w'=>e=.returned (ae v)/\Hid (o w'/\∀q,w.heap.size<=q->q<W.heap.size->w'.heap[q]?=W.heap[q]?)))(n:Hid (v=2->∀W,o W->au 124 #[aC i,ag ⟨#[108,111,115,116]⟩,ae a,ae b,.agg #[ae d,ae f,ag g,af xa h xc]] W λe w'=>e=.returned (.tuple #[])/\Hid (R w')))(l:Hid (v=6->∀W,o W->au 127 #[aC i,ae b,ae 3] W λe w'=>e=.returned (.tuple #[])/\Hid (R w')))(m:Hid (v≠2->v≠6->∀W,o W->R W)):au 131 #[aC i,ae a,ae b,.agg #[ae d,ae f,ag g,af xa h xc]] w λe w'=>e=.returned (.tuple #[])/\Hid (R w'):=by
 go_enter func131,ntmps131;go_upto_region 1 with fail;generalize K:w.alloc _=c;have t:Hid (ap w c/\c.heap[w.heap.size]?=some (.cells #[ae d,ae f,ag g,af xa h xc] 54)):=by
  rw[<-K];exact⟨aT _ _,aI _ _⟩
 clear K;obtain⟨q,s⟩:∃q,q=w.heap.size:=⟨_,rfl⟩;rw[<-s];have C:Hid (c.heap[q]?=some (.cells #[ae d,ae f,ag g,af xa h xc] 54)):=by rw[s];exact t.2
 have HB:=av t.1;have N:=av s;clear s t;have A:Hid (ap c c.drew):=(aE _ _).drew;have y:=av (HB.trans (A.mono HB.size));have D:=av (fi A C);have z:Hid (∀W:ah,W.heap[q]?=some (.cells #[ae d,ae f,ag g,af xa h xc] 54)->ai W q 0 (ae d)/\ai W q 1 (ae f)/\ai W q 2 (ag g)/\ai W q 3 (af xa h xc)):=λW r=>⟨aj r 0,aj r 1,aj r 2,aj r 3⟩;obtain⟨O,P,Q,S⟩:=z.out c C;have T:ai c i 3 (.map G):=(HB.cell (p:=⟨i,3,none⟩) V).trans M;have U:=H c.drew y
 go_region_with ((first
     | (go_at_call 162;refine(I _ y).mono ?_;rintro e k ⟨rfl,u⟩;have J:Hid (k.heap[q]?=some (.cells #[ae d,ae f,ag g,af xa h xc] 54)):=(u.2 q (by have:=N.out;omega) (aN.1 D).1).trans D)))
 all_goals
  obtain⟨d0,d1,d2,d3⟩:=z.out k J;have B:=av u.1;clear O P Q S T U H I z u J D y A HB C;by_cases E:v=2
  ·subst E;have j:=av (n (by simp) k B);clear n l m;go_wp2_with fail;refine j.mono ?_;rintro e X ⟨rfl,x⟩;go_wp2_with fail;exact eE (v:=.tuple #[]) (by simp[results]) rfl ⟨rfl,x⟩
  ·have Y:(v==2)=false:=by simpa using E
   by_cases F:v=6
   ·subst F;have j:=av (l (by simp) k B);clear n l m;go_wp2_with fail;refine j.mono ?_;rintro e X ⟨rfl,x⟩;go_wp2_with fail;exact eE (v:=.tuple #[]) (by simp[results]) rfl ⟨rfl,x⟩
   ·have Z:(v==6)=false:=by simpa using F
    have j:=av (m E F k B);clear n l m;go_wp2_with fail;exact eE (v:=.tuple #[]) (by simp[results]) rfl ⟨rfl,j⟩
end Go.Proofs.YthjclakhibnamaaGreatDoor
