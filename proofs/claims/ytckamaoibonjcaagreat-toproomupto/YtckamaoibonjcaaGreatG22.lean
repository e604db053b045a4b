/- What is proved here: plain facts and contracts that the claimed theorem stands on. No condition but those that each names. -/
import Derived.Test.YtckamaoibonjcaaGreatG21
namespace Go.Proofs.YtckamaoibonjcaaGreat
open Go.RowKit
set_option maxHeartbeats 2000000
theorem jz.lay{N:Nat}{ws:List Wd}{nm:List ByteArray}{room:Int}{i:List Wd}{q:List (Tm N)}(t:jz N ws nm room i q)(x:Tm N)(j:bm N x=0/\aF N x=true/\sz N x<=room-ws.length)(y:(aO N x ws nm).2.2.Nodup):jz N (aO N x ws nm).2.1 (aO N x ws nm).2.2 room (i++ [(aO N x ws nm).1]) (q++ [x]):=by
 obtain⟨e,A,B,K,L,C,D,M⟩:=t;have n:=nQ j.1;obtain⟨p,F⟩:=lG N x ws nm;have z:=gt N x ws nm n;have m:=xO N x ws nm n;have J:=(ij N x ws nm).1;have l:∀c∈i,od (aO N x ws nm).2.1 N c=od ws N c/\∀E∈od ws N c,E<ws.length:=λc h=>by
  obtain⟨f,_,o⟩:=e.mem h;exact⟨qF p N f c o,yd N f c o⟩
 refine⟨⟨by simp[e.1],λk G f d a=>?_⟩,?_,λf a=>?_,?_,by omega,C,D,y⟩
 ·rcases Nat.lt_or_ge k i.length with g|g
  ·rw[de g]at d;rw[de (by rw[<-e.1];exact g)]at a;exact(e.2 k G f d a).mono p F
  ·rw[dZ g]at d;rw[dZ (by rw[<-e.1];exact g)]at a;have s:k-i.length=0:=by
    have:=(aL.1 d).1;simp at this;omega
   rw[<-e.1]at a;rw[s]at d a;simp only[cG,j9]at d a;rw[<-d,<-a];exact z
 ·rw[jW,mA (λc h=>(l c h).1)];simp only[bv,List.flatMap_nil,dY];refine eQ.2 ⟨A,m.1,λr u b w=>?_⟩;obtain⟨c,h,v⟩:=jd.1 u;have H:=(l c h).2 r v;have I:=m.2 b w;omega
 ·rcases cU.1 a with a|a
  ·exact B f a
  ·rw[dA.1 a];exact⟨j.1,j.2.1⟩
 ·simp only[gV,List.sum_append,aH,bS,bq,je];omega
def rE(N:Nat)(x:Tm N)(room:Int)(a:List (Tm N)):Int:=if bm N x≠0 then bm N x else if aF N x=false then 5 else if (a.map (sz N)).sum+sz N x<=room then 0 else 6
theorem CU{N:Nat}{x:Tm N}{room:Int}{ws:List Wd}{e:List (Tm N)}(c:jo N x room ws≠6)(f:(e.map (sz N)).sum<=(ws.length:Int)):rE N x room e=jo N x room ws:=by
 unfold rE jo at*;by_cases a:bm N x≠0
 ·simp[a]
 ·by_cases b:aF N x=false
  ·simp[a,b]
  ·rw[if_neg a,if_neg b]at c;rw[if_neg a,if_neg a,if_neg b,if_neg b];by_cases d:sz N x<=room-ws.length
   ·rw[if_pos (by omega)];simp[d]
   ·simp[d]at c
theorem CT{N:Nat}{x:Tm N}{room:Int}{ws:List Wd}{a:List (Tm N)}(e:(ws.length:Int)=(a.map (sz N)).sum):rE N x room a=jo N x room ws:=by
 unfold rE jo;have b:((a.map (sz N)).sum+sz N x<=room)=(sz N x<=room-ws.length):=by rw[e];exact propext ⟨λd=>by omega,λd=>by omega⟩
 by_cases c:sz N x<=room-ws.length
 ·simp[c,b]
 ·simp[c,b]
section
variable {base pb:Nat} {name:ByteArray} {room:Int} {N:Nat} {s:Tm (N+1)} {ms:List (Tm (N+1))} {xs:List (Wd×Tm (N+1))} {nk:Nat} {M:Nat->Prop} {w:World} {ws:List Wd} {nm:List ByteArray} {sv:Wd} {vs:List Wd} {ma:Option Addr} {mc:Nat} {Mh:Nat->Prop}
theorem cr.kept(a:cr base pb name room (N+1) s ms xs nk M w ws nm sv vs ma mc Mh){S:Nat->Prop}{w1:World}(k:bL S w w1)(g:∀b,M b->b<w.heap.size->¬S b):cr base pb name room (N+1) s ms xs nk M w1 ws nm sv vs ma mc Mh:=by
 refine⟨a.heap.kept k λb m c=>g b (a.inM b m) c,?_,a.has,a.len,a.names,a.inM,a.mailM⟩;rcases a.mail with i|⟨d,n,h,e,j,f,l⟩
 ·exact ae i
 ·have c:=(aA.1 f).1;exact af ⟨d,n,h,e,j,(k.block d c (g d (a.mailM _ e) c)).trans f,l⟩
theorem cr.mono(a:cr base pb name room (N+1) s ms xs nk M w ws nm sv vs ma mc Mh){M':Nat->Prop}{nk':Nat}(c:∀b,M b->M' b)(g:nk<=nk'):cr base pb name room (N+1) s ms xs nk' M' w ws nm sv vs ma mc Mh:=
 ⟨a.heap,a.mail,a.has,a.len,aw a.names g,λb f=>c b (a.inM b f),λd e=>c _ (a.mailM d e)⟩
theorem cr.inside(a:cr base pb name room (N+1) s ms xs nk M w ws nm sv vs ma mc Mh):cr base pb name room (N+1) s ms xs nk (λb=>M b/\b<w.heap.size) w ws nm sv vs ma mc (λb=>Mh b/\b<w.heap.size):=by
 refine⟨a.heap.inside,?_,a.has,a.len,a.names,λb k=>⟨a.inM b k.1,k.2⟩,λm c=>⟨a.mailM m c,?_⟩⟩
 ·rcases a.mail with d|⟨j,l,g,e,h,f,i⟩
  ·exact ae d
  ·exact af ⟨j,l,g,e,λn=>h n.1,f,i⟩
 ·rcases a.mail with⟨d,_⟩|⟨j,l,g,e,h,f,i⟩
  ·rw[d]at c;cases c
  ·rw[e]at c;injection c with c;rw[<-c];exact(aA.1 f).1
def xh(N:Nat)(x:Tm N)(base:Nat)(b:cg)(room:Int)(ws:List Wd)(nm:List ByteArray)(M:Nat->Prop)(v:Wd)(a:Int)(w w':World):Prop:=
 a=jo N x room ws/\(a≠0->v=(0,0)/\ag w w')/\(a=0->(bm N x=0/\aF N x=true/\sz N x<=room-ws.length)/\v=(aO N x ws nm).1/\lk base b room (aO N x ws nm).2.1 (aO N x ws nm).2.2 M w w')
theorem yg{N:Nat}{x:Tm N}{h:cg}{e:Ending}{w w':World}(g:GP N x base h room ws nm M w e w'):∃(v:Wd)(f:Int),e=.returned (.tuple #[.agg #[.int .i64 v.1,.int .i64 v.2],.int .i64 f])/\xh N x base h room ws nm M v f w w':=by
 by_cases a:jo N x room ws=0
 ·obtain⟨b,c,i⟩:=g.2 a;exact⟨_,0,c,a.symm,λd=>absurd rfl d,λ_=>⟨b,rfl,i⟩⟩
 ·obtain⟨b,c⟩:=g.1 a;exact⟨(0,0),_,b,rfl,λ_=>⟨rfl,c⟩,λd=>absurd d a⟩
theorem du.nodup{c:cg}(a:du base c room ws nm M w):nm.Nodup:=by
 obtain⟨_,_,_,_,_,b,_⟩:=a;exact b.2.1
theorem cr.put1(d:cr base pb name room (N+1) s ms [] nk M w ws nm sv vs ma mc Mh){x:Tm (N+1)}{v:Wd}{e:Int}{w':World}(y:xh (N+1) x base (PL pb name sv (.slice ma vs.length mc)) room ws nm Mh v e w w'):∃C B m,cr base pb name room (N+1) s ms (if e=0 then [(v,x)]else []) (nk+201) (λb=>M b\/w.heap.size<=b) w' C B sv vs ma mc m/\bL M w w':=by
 obtain⟨D,r,t⟩:=y;by_cases f:e=0
 ·obtain⟨c,rfl,k,l⟩:=t f;rw[if_pos f];have G:=(ij (N+1) x ws nm).2;have F:=ni c.1;have E:=d.names;refine⟨_,_,λb=>Mh b\/w.heap.size<=b,⟨k,?_,?_,d.len,by omega,?_,λn u=>ae (d.mailM n u)⟩,l.mono d.inM⟩
  ·rcases d.mail with p|⟨j,A,o,e,h,i,q⟩
   ·exact ae p
   ·have z:=(aA.1 i).1;refine af ⟨j,A,o,e,λa=>?_,(l.block j z h).trans i,q⟩;rcases a with a|a
    ·exact h a
    ·omega
  ·have:=d.has;simp only[bS,dY]at this;exact this.lay x c k.nodup
  ·intro b g;rcases g with a|a
   ·exact ae (d.inM b a)
   ·exact af a
 ·obtain⟨_,g⟩:=r f;rw[if_neg f];exact⟨ws,nm,Mh,(d.later g).mono (λb a=>ae a) (by omega),aT g M⟩
def NV(base pb:Nat)(name:ByteArray)(room:Int)(N:Nat)(s:Tm N)(ms:List (Tm N))(x:Tm N)(nk:Nat)(M:Nat->Prop)(w:World)(e:Ending)(w':World):Prop:=
 ∃a:Wd,e=.returned (.tuple #[.agg #[.int .i64 a.1,.int .i64 a.2],.int .i64 (rE N x room (s::ms))])/\Hid (∃j g h i d f c,cr base pb name room N s ms (if rE N x room (s::ms)=0 then [(a,x)]else []) (nk+201) (λb=>M b\/w.heap.size<=b) w' j g h i d f c/\bL M w w')
theorem cr.put(y:cr base pb name room (N+1) s ms [] nk M w ws nm sv vs ma mc Mh)(x:Tm (N+1))(ad:In w.heap.size w (N+1) x)(av:bV (λb=>¬M b) (N+1) x)(an:(ar (N+1) x).length<=2097152)(G:∀b,M b->b<w.heap.size)(aJ:nk<=49000)(ak:ms.length<=999)(aH:base<=w.heap.size):ah 109 #[.pointer (some ⟨pb,0,none⟩),dd (N+1) x] w (NV base pb name room (N+1) s ms x nk M w):=by
 have aI:=y.len;have aK:=y.names;have ap:=y.front;obtain⟨_,_,_,aA,aN,aB,aC,_⟩:=ap;have Z:=In.offB av ad
 have aa:∀{f:World}{D:List Wd}{B:Wd}{C:List Wd}{z:Option Addr}{A:Nat}{q P:Nat->Prop},cr base pb name room (N+1) s ms [] nk P f D nm B C z A q->bL M w f->(∀b,P b->M b\/w.heap.size<=b)->
   ah 66 #[.pointer (some ⟨pb,1,none⟩),dd (N+1) x] f λE g=>∃(e:Wd)(d:Int),E=.returned (.tuple #[.agg #[.int .i64 e.1,.int .i64 e.2],.int .i64 d])/\xh (N+1) x base (PL pb name B (.slice z C.length A)) room D nm q e d f g:=by
  intro f D B C z A q P r ag am;have ax:=ag.size;obtain⟨_,_,_,_,aO,aP,aQ,_⟩:=r.front;have ay:In f.heap.size f (N+1) x:=(In.off (λb (c:¬M b/\b<w.heap.size)=>ag.block b c.2 c.1) Z ad).mono ax;have aw:bV (λb=>¬q b) (N+1) x:=Z.mono λb c a=>by
   rcases am b (r.inM b a)with t|t
   ·exact c.1 t
   ·have:=c.2;omega
  exact(tW (N+1) x base (PL pb name B (.slice z C.length A)) room D nm q f r.heap ay aw an (by omega) aB aC (by omega) (by omega)).mono λE g a=>yg a
 have T:∀{n:Nat}{V:Nat->Prop}{j g:World},bL V j g->(∀b,n<=b->b<n+3->b<j.heap.size->¬V b)->Up n j g:=λk ao=>⟨k.size,λb u O F=>k.block b F (ao b u O F)⟩;have Y:∀{e:Wd}{d:Int}{j g:World}{D:List Wd}{B:Wd}{C:List Wd}{z:Option Addr}{A:Nat}{q:Nat->Prop},xh (N+1) x base (PL pb name B (.slice z C.length A)) room D nm q e d j g->bL q j g:=λ{e d j g D B C z A q} a=>by
  by_cases W:d=0
  ·exact(a.2.2 W).2.2.2
  ·exact aT (a.2.1 W).2 _
 refine(AN pb x.1.1 x.1.2.1 x.1.2.2 x.2.1.1 x.2.2.length x.2.1.2 w (λe d j g=>xh (N+1) x base (PL pb name sv (.slice ma vs.length mc)) room ws nm Mh e d j g)
  (λH I=>bL M w I/\H.heap.size<=I.heap.size/\∃l p i o m,cr base pb name room (N+1) s ms [] nk (λb=>M b\/H.heap.size<=b) I l nm p i o i.length m/\(l.length:Int)=((s::ms).map (sz (N+1))).sum)
  (λe d f U=>bL M w f/\w.heap.size+3<=f.heap.size/\∃l p i o m,cr base pb name room (N+1) s ms [] nk (λb=>M b\/w.heap.size+3<=b) f l nm p i o i.length m/\(l.length:Int)=((s::ms).map (sz (N+1))).sum/\xh (N+1) x base (PL pb name p (.slice o i.length i.length)) room l nm m e d f U) ?_ ?_ ?_).mono ?_
 ·intro j c;refine(aa (y.later c) (aT c M) λb a=>ae a).mono ?_;rintro E g ⟨e,d,rfl,h⟩;refine⟨e,d,rfl,T (Y h) λb u _ _ a=>?_,h⟩;have:=G b (y.inM b a);omega
 ·intro aF j g H c h v az;have X:=(h.2.1 (by decide)).2;have ab:=c.size;have O:=((y.later c).later X).kept v λb a _ t=>by
   have:=G b a;omega
  have aq:bL M w H:=bL.trans ((aT c M).trans (aT X M) λ_ _ a=>a) v λb Q a=>by omega
  refine(O.tidy (by omega) ak (by omega)).mono ?_;rintro E I ⟨rfl,l,p,i,o,m,F,K,S⟩;refine⟨rfl,T K λb u _ _ a=>?_,aq.trans K λ_ _ a=>a,K.size,l,p,i,o,m,F,S⟩;have:=G b a;omega
 ·rintro H I f ⟨K,aL,l,p,i,o,m,F,S⟩ az c
  have r:=(F.later c).mono (M':=λb=>M b\/w.heap.size+3<=b) (nk':=nk) (λb a=>by
   rcases a with a|a
   ·exact ae a
   ·exact af (by omega)) (ai _)
  have L:bL M w f:=K.trans (aT c M) λ_ _ a=>a
  refine(aa r L λb a=>by
   rcases a with a|a
   ·exact ae a
   ·exact af (by omega)).mono ?_
  rintro E U ⟨e,d,rfl,h⟩;refine⟨e,d,rfl,T (Y h) λb u O _ a=>?_,L,by have:=c.size;omega,l,p,i,o,m,r,S,h⟩;rcases r.inM b a with t|t
  ·have:=G b t;omega
  ·omega
 ·rintro E aR ⟨e,d,rfl,⟨al,j,g,c,h,v⟩|⟨aF,j,g,H,I,f,U,_,_,_,_,_,_,⟨L,aM,l,p,i,o,m,r,au,h⟩,v⟩⟩
  ·have ab:=c.size;have J:d=rE (N+1) x room (s::ms):=by
    rw[CU (ws:=ws) (by rw[<-h.1];exact al) aA];exact h.1
   obtain⟨l,aD,m,u,R⟩:=(y.later c).put1 h;refine⟨e,by rw[<-J],l,aD,sv,vs,ma,mc,m,?_,?_⟩
   ·rw[<-J];refine(u.kept v λb a _ t=>?_).mono (λb a=>?_) (ai _)
    ·rcases a with a|a
     ·have:=G b a;omega
     ·omega
    ·rcases a with a|a
     ·exact ae a
     ·exact af (by omega)
   ·exact bL.trans ((aT c M).trans R λ_ _ a=>a) v λb Q a=>by omega
  ·have ab:=L.size;have J:d=rE (N+1) x room (s::ms):=by
    rw[CT au];exact h.1
   obtain⟨aG,aE,aj,u,R⟩:=r.put1 h;refine⟨e,by rw[<-J],aG,aE,p,i,o,i.length,aj,?_,?_⟩
   ·rw[<-J];refine(u.kept v λb a _ t=>?_).mono (λb a=>?_) (ai _)
    ·subst t;rcases a with(a|a)|a
     ·have:=G _ a;omega
     ·omega
     ·omega
    ·rcases a with(a|a)|a
     ·exact ae a
     ·exact af (by omega)
     ·exact af (by omega)
   ·refine bL.trans (L.trans R λb Q a=>?_) v λb Q a=>by omega
    rcases a with a|a
    ·exact a
    ·omega
end
theorem sx(vs:List Wd)(v:Wd):aS (vs++ [v])=aS vs++o7 v:=by simp[aS]
theorem nC{P:Program}(w:World)(t ty e:TypeId)(i:TypeInfo)(y:P.underlying t=some (.slice e))(s:P.info? e=some i)(g f d l:Nat)(h:Array Value)(r:w.heap[g]?=some (.cells h e (0,0)))(a:Addr)(m c:Nat)(b:List Value)(u:b.length=m*i.size)(v:∀j k,b[j]?=some k->w.cell? (a.add j)=some k)(o:∀k∈b,k.oneCell'=true)(x:d+m<=l)(q:f+d*i.size+b.length<=h.size):(Builtin.append_ #[t,t] ty #[.slice (some ⟨g,f,none⟩) d l,.slice (some a) m c]).run P w= .ok (.slice (some ⟨g,f,none⟩) (d+m) l) (w.setRow g (h.toList.take (f+d*i.size)++b++h.toList.drop (f+d*i.size+b.length)).toArray):=by
 have p:=run_firstCells_some (P:=P) w i.size m a m c b u v;have n:=oI P g (f+d*i.size) e b 0 h w r (by simpa using q) o;simp only[iI]at n;simp[Builtin.append_,cd y,sizeOf,typeInfo,s,Builtin.lenOf,x,p,ez,n]
def pX(Mh:Nat->Prop)(ma:Option Addr)(vs:List Wd)(w:World)(d:Option Addr)(e:Nat)(w':World):Prop:=
 jl Mh d vs e w'/\bL (λb=>∃a,ma=some a/\b=a.block) w w'/\∀a,d=some a->(∃c,ma=some c/\a.block=c.block)\/a.block=w.heap.size
theorem I6{S:Nat->Prop}(w:World)(g:Nat)(cs:Array Value)(a:∀b,b=g->S b):bL S w (w.setRow g cs):=⟨rfl,rfl,rfl,by simp,λ_ _ c=>setRow_other _ _ _ _ λe=>c (a _ e)⟩
theorem um{Mh:Nat->Prop}{ma:Option Addr}{w:World}(a:List Wd)(C c:Nat)(d:Value)(l:d.cells.size=2)(p:c=a.length)(f:a.length<=C)(g:C<=maxLen)(h:∀b,Mh b->b<w.heap.size):pX Mh ma a w (some ⟨w.heap.size,0,none⟩) C (w.drew.alloc (.cells ((aS a).toArray++Builtin.zeroCells d.cells (C-c)) 105)):=by
 have e:∀b,b<w.heap.size->(w.drew.alloc (.cells ((aS a).toArray++Builtin.zeroCells d.cells (C-c)) 105)).heap[b]?=w.heap[b]? :=λb e=>Below.heap_alloc w.drew _ b e;have k:(w.drew.alloc (.cells ((aS a).toArray++Builtin.zeroCells d.cells (C-c)) 105)).heap[w.heap.size]?=some (.cells ((aS a).toArray++Builtin.zeroCells d.cells (C-c)) 105):=ax w.drew _;refine⟨af ⟨w.heap.size,0,_,rfl,λm=>?_,k,f,g,?_,?_⟩,⟨rfl,rfl,rfl,?_,λb j _=>e b j⟩,λn i=>af (congrArg Addr.block (aq i).symm)⟩
 ·have:=h _ m;omega
 ·rw[Array.size_append,size_zeroCells,l,eR,ci];omega
 ·rw[List.drop_zero,Array.toList_append,jg (by rw[oD,ci];omega),oD,bw (by rw[ci];omega)]
 ·have:=gC w.drew (.cells ((aS a).toArray++Builtin.zeroCells d.cells (C-c)) 105);have o:w.drew.heap.size=w.heap.size:=rfl;omega
theorem sO{Mh:Nat->Prop}{ma:Option Addr}{vs:List Wd}{f:Nat}{w:World}(ty:TypeId)(l:jl Mh ma vs f w)(O:vs.length<=1000)(x:∀b,Mh b->b<w.heap.size)(sa:Addr)(c:Nat)(v:Wd)(r:∀j k,(o7 v)[j]?=some k->w.cell? (sa.add j)=some k):∃C D w',(Builtin.append_ #[96,96] ty #[.slice ma vs.length f,.slice (some sa) 1 c]).run Tryz.prog w=.ok (.slice C (vs.length+1) D) w'/\pX Mh ma (vs++ [v]) w C D w':=by
 obtain⟨o,q,A,h,B⟩:=bO kv;have L:∀k∈o7 v,k.oneCell'=true:=by simp[o7,Value.oneCell']
 have i:(o7 v).length=2:=rfl;rcases l with⟨rfl,rfl,rfl⟩|⟨e,a,d,rfl,s,n,F,t,G,u⟩
 ·have m:=run_append_nil (P:=Tryz.prog) w 96 ty 105 o _ Tryz.underlying96 q A sa 1 c (o7 v) (by rw[i,h]) r (by omega) (by omega) (by rw[B];omega);refine⟨_,_,_,m,?_⟩;have l:=um (Mh:=Mh) (ma:=none) (w:=w) [v] (grownCap w 1 0 105) 1 (.agg #[.int .i64 0,.int .i64 0]) rfl rfl (grownCap_ge w 1 0 _) (grownCap_le_maxLen w 1 0 _ (by unfold maxLen;omega)) x;simpa [aS]using l
 ·have Q:=(aA.1 n).1;by_cases M:vs.length+1<=f
  ·have y:a+vs.length*o.size+(o7 v).length<=d.size:=by rw[i,h];omega
   have m:=nC (P:=Tryz.prog) w 96 ty 105 o Tryz.underlying96 q e a vs.length f d n sa 1 c (o7 v) (by rw[i,h]) r L M y;refine⟨_,_,_,m,af ⟨e,a,_,rfl,s,setRow_heap w e d _ _ _ n,?_,t,?_,?_⟩,?_,λN H=>ae ⟨_,rfl,?_⟩⟩
   ·simp only[aY,aV,iF];omega
   ·have p:d.toList.length=d.size:=gS;rw[h]at y ⊢;simp only[eR,aY,dr,eC,p];omega
   ·rw[h];have R:(d.toList.take (a+vs.length*2)).length=a+vs.length*2:=by
     have p:d.toList.length=d.size:=gS;rw[dr,p];omega
    have J:(d.toList.take (a+vs.length*2)).drop a=aS vs:=by
     rw[List.drop_take,Nat.add_sub_cancel_left];exact u
    rw[sx,lY,ou (by omega),J];have g:(vs++ [v]).length*2=(aS vs).length+2:=by
     rw[ci];simp only[aY,aV,iF];omega
    rw[g,List.take_length_add_append,jg (by rw[i];omega),bw (by rw[i];omega)]
   ·exact I6 w e _ λb g=>⟨_,rfl,g⟩
   ·exact congrArg Addr.block (aq H).symm
  ·have m:=run_append_grow (P:=Tryz.prog) w 96 ty 105 o _ Tryz.underlying96 q A ⟨e,a,none⟩ vs.length f (aS vs) (by rw[ci,h]) (λj k z=>by
     have K:jl Mh (some ⟨e,a,none⟩) vs f w:=af ⟨e,a,d,rfl,s,n,F,t,G,u⟩;rcases K.words with g|⟨ad,g,I⟩
     ·subst g;simp[aS]at z
     ·have E:=aq g;rw[E]
      exact I j k z) sa 1 c (o7 v) (by rw[i,h]) r (by omega) (by omega) (growslice_fits (by omega) (by rw[B];omega))
   refine⟨_,_,_,m,?_⟩;have l:=um (Mh:=Mh) (ma:=some ⟨e,a,none⟩) (w:=w) (vs++ [v]) (grownCap w (vs.length+1) f 105) (vs.length+1) (.agg #[.int .i64 0,.int .i64 0]) rfl (by simp) (by have:=grownCap_ge w (vs.length+1) f 105;simpa using this) (grownCap_le_maxLen w _ _ _ (by unfold maxLen;omega)) x;simpa [sx]using l
theorem vy{w w':World}{v x' b:Value}{o:Oper}{a:Act}{K:Act->World->Prop}{Q:Exit->Act->World->Prop}(s x:Operand)(d:o.op=.call {callee:=.builtin .append,args:= #[s,x],argTypes:= #[96,96]})(f:a.eval s=v)(g:a.eval x=x')(e:(Builtin.append_ #[96,96] o.type #[v,x']).run Tryz.prog w=.ok b w')(c:K (a.put o.dst b) w'):Oper.wp Tryz.prog o a w K Q:=by
 unfold Oper.wp execOp;simp only[d,resolve,invoke,builtin,Sem.run_bind,Sem.run_pure,mj,l7,aH,bS,f,g,e];exact c
theorem qn(g:Nat)(k i:Int)(t:ByteArray)(B:Option Addr)(D C:Nat)(L aB:Nat)(ma:Option Addr)(w:World)(E:Wd->Int->World->World->Prop)(H:Wd->World->World->Option Addr->Nat->World->Prop)(aO:g<w.heap.size)(Z:Hid (∀w1,ag w w1->w1.cell? ⟨g,7,none⟩=some (.slice ma L aB)))(ab:Hid (∀w0,ag w w0->ah 109 #[.pointer (some ⟨g,0,none⟩),.agg #[.int .i64 k,.int .i64 i,.string t,.slice B D C]] w0 λe w1=>∃(v:Wd)(h:Int),e=.returned (.tuple #[.agg #[.int .i64 v.1,.int .i64 v.2],.int .i64 h])/\Hid (Up w.heap.size w0 w1/\E v h w0 w1)))(ad:Hid (∀v w0 w1,E v 0 w0 w1->∃q r,Hid (∀w2,ag w1 w2->w2.cell? ⟨g,7,none⟩=some (.slice q L r)/\∀j,w2.frozen? ⟨g,j,none⟩=false)/\Hid (∀w2,ag w1 w2->∀(sa:Addr)(c:Nat),(∀j M,(o7 v)[j]?=some M->w2.cell? (sa.add j)=some M)-> ∃m n d,(Builtin.append_ #[96,96] 96 #[.slice q L r,.slice (some sa) 1 c]).run Tryz.prog w2=.ok (.slice m (L+1) n) d/\d.cell? ⟨g,7,none⟩=some (.slice q L r)/\(∀j,d.frozen? ⟨g,j,none⟩=false)/\(∀b,w1.heap.size<=b->b<w2.heap.size->d.heap[b]?=w2.heap[b]?)/\H v w0 w2 m n d))):ah 78 #[.pointer (some ⟨g,0,none⟩),.agg #[.int .i64 k,.int .i64 i,.string t,.slice B D C]] w λe w'=> (20<=L->e=.returned (.int .i64 2)/\ag w w')/\(L<20->∃(v:Wd)(h:Int)(w0 w1:World),e=.returned (.int .i64 h)/\ag w w0/\E v h w0 w1/\(h≠0->ag w1 w')/\(h=0->∃w2 m n d,ag w1 w2/\H v w0 w2 m n d/\w'=(d.setCell ⟨g,7,none⟩ (.slice m (L+1) n)))):=by
 have aa:=aj (vY w (.cells #[.int .i64 k,.int .i64 i,.string t,.slice B D C] 30) rfl);have F:Hid (ag w (w.alloc (.cells #[.int .i64 k,.int .i64 i,.string t,.slice B D C] 30))/\(w.alloc (.cells #[.int .i64 k,.int .i64 i,.string t,.slice B D C] 30)).heap.size=w.heap.size+1):=⟨by go_grown,by simp⟩;go_enter Tryz.func78,Tryz.ntmps78;have T:=Z.out w (ak _ _);rcases Nat.lt_or_ge L 20 with aq|aq
 ·have ar:¬(20:Int)<=(L:Int):=by omega
  have Q:=aj (ab.out _ F.out.1);go_wp2_with fail;refine Q.out.mono ?_;rintro e w1 ⟨v,h,rfl,N⟩;have R:Hid (∃w0,ag w w0/\E v h w0 w1):=⟨_,F.out.1,N.out.2⟩;obtain⟨w0,s⟩:=R.out;replace s:=aj s;clear R N Q aa F T;by_cases K:h=0;rotate_left
  ·have aL:¬(0:Int)=h:=λe=>K e.symm;go_wp2_with fail;exact ap (v:=.int .i64 h) (by simp[results,Tryz.results78,go_sem]) rfl ⟨λa=>by omega,λ_=>⟨v,h,w0,w1,rfl,s.out.1,s.out.2,λ_=>aI,λa=>absurd a K⟩⟩
  ·subst K;obtain⟨q,r,ae,af⟩:=ad.out v w0 w1 s.out.2;have S:Hid (∃w2 f,(w2=w1.alloc (.cells #[.int .i64 v.1,.int .i64 v.2] 105)/\f=w1.heap.size)/\ag w1 w2/\w2.heap[f]?=some (.cells #[.int .i64 v.1,.int .i64 v.2] 105)/\w1.heap.size<=f):=⟨_,_,⟨rfl,rfl⟩,aI,ax _ _,ai _⟩;go_wp2_with fail;obtain⟨w2,f,⟨Y,W⟩,o⟩:=S.out;rw[<-Y,<-W];replace o:=aj o;clear Y W S;have z:Hid (∀w':World,ag w2 w'->(w'.cell? ⟨g,7,none⟩=some (.slice q L r)/\∀j,w'.frozen? ⟨g,j,none⟩=false)/\w'.cell? ⟨f,0,none⟩=some (.int .i64 v.1)/\w'.cell? ⟨f,1,none⟩=some (.int .i64 v.2)):=λw' a=>by
    have A:=(a.block f (aA.1 o.out.2.1).1).trans o.out.2.1;exact⟨ae.out _ (o.out.1.trans (a.mono o.out.1.size)),ao A 0,ao A 1⟩
   obtain⟨⟨T,aH⟩,aP,aQ⟩:=z.out w2 (ak _ _);have P:Hid (ag w2 w2.drew):=(ak _ _).drew;have y:Hid (ag w2 (w2.alloc (.cells #[.int .i64 v.1,.int .i64 v.2] 105)).drew):=(show Below _ _ _ by go_grown);have O:Hid (∃m n d,(Builtin.append_ #[96,96] 96 #[.slice q L r,.slice (some ⟨w2.heap.size,0,none⟩) 1 1]).run Tryz.prog (w2.alloc (.cells #[.int .i64 v.1,.int .i64 v.2] 105)).drew=.ok (.slice m (L+1) n) d/\d.cell? ⟨g,7,none⟩=some (.slice q L r)/\(∀j,d.frozen? ⟨g,j,none⟩=false)/\(d.cell? ⟨f,0,none⟩=some (.int .i64 v.1)/\d.cell? ⟨f,1,none⟩=some (.int .i64 v.2))/\∃G,ag w1 G/\H v w0 G m n d):=by
    have V:=o.out.1.trans (y.out.mono o.out.1.size);have ay:=qw w2 (.cells #[.int .i64 v.1,.int .i64 v.2] 105) rfl
    obtain⟨m,n,d,aC,aD,aE,aF,aG⟩:=af.out _ V ⟨w2.heap.size,0,none⟩ 1 (λj M aw=>by
     rw[ez,cN];refine(ao ay j).trans ?_;rw[<-aw,<-List.getElem?_toArray]
     rfl)
    have X:=(aA.1 o.out.2.1).1;have A:=(aF f o.out.2.2 (aJ X y.out.size)).trans ((y.out.block f X).trans o.out.2.1);exact⟨m,n,d,aC,aD,aE,⟨ao A 0,ao A 1⟩,_,V,aG⟩
   obtain⟨m,n,d,J,am,an,az,I⟩:=O.out;replace J:=aj J;replace I:=aj I;clear O;have x:w2.drew.cell? ⟨g,7,none⟩=some (.slice q L r)/\w2.drew.cell? ⟨f,0,none⟩=some (.int .i64 v.1)/\w2.drew.cell? ⟨f,1,none⟩=some (.int .i64 v.2):=⟨(z.out _ P.out).1.1,(z.out _ P.out).2⟩;have al:Hid ((w2.alloc (.cells #[.int .i64 v.1,.int .i64 v.2] 105)).drew.cell? ⟨g,7,none⟩=some (.slice q L r)/\(w2.alloc (.cells #[.int .i64 v.1,.int .i64 v.2] 105)).drew.cell? ⟨f,0,none⟩=some (.int .i64 v.1)/\(w2.alloc (.cells #[.int .i64 v.1,.int .i64 v.2] 105)).drew.cell? ⟨f,1,none⟩=some (.int .i64 v.2)):=⟨(z.out _ y.out).1.1,(z.out _ y.out).2⟩;refine wp_region_noPanic ?_;refine iZ (λw'=>w'.cell? ⟨g,7,none⟩=some (.slice q L r)/\w'.cell? ⟨f,0,none⟩=some (.int .i64 v.1)/\w'.cell? ⟨f,1,none⟩=some (.int .i64 v.2)) 10 (by kernel_rfl) ?_
   try simp only[eR]
   refine aM (i:=0) (v:= ?_) rfl (by kernel_rfl) (by kernel_rfl) (by kernel_rfl) (by kernel_rfl) (λ_ _ _ a=>a) rfl ?_ x ?_;rotate_left
   ·intro w' l
    try dsimp only at l
    go_simp
    try with_reducible rfl
   try simp only[Act.put,bP]
   refine aM (i:=1) (v:= ?_) rfl (by kernel_rfl) (by kernel_rfl) (by kernel_rfl) (by kernel_rfl) (λ_ _ _ a=>a) rfl ?_ x ?_;rotate_left
   ·intro w' l
    try dsimp only at l
    go_simp
    try with_reducible rfl
   try simp only[Act.put]
   refine aM (i:=2) (v:= ?_) rfl (by kernel_rfl) (by kernel_rfl) (by kernel_rfl) (by kernel_rfl) (λ_ _ _ a=>a) rfl ?_ x ?_;rotate_left
   ·intro w' l
    try dsimp only at l
    go_simp
    try with_reducible rfl
   try simp only[Act.put]
   refine aM (i:=3) (v:= ?_) rfl (by kernel_rfl) (by kernel_rfl) (by kernel_rfl) (by kernel_rfl) (λ_ _ _ a=>a) rfl ?_ x ?_;rotate_left
   ·intro w' l
    try dsimp only at l
    go_simp
    try with_reducible rfl
   try simp only[Act.put]
   refine aM (i:=4) (v:= ?_) rfl (by kernel_rfl) (by kernel_rfl) (by kernel_rfl) (by kernel_rfl) (λ_ _ _ a=>a) rfl ?_ x ?_;rotate_left
   ·intro w' l
    try dsimp only at l
    go_simp
    try with_reducible rfl
   try simp only[Act.put]
   refine aM (i:=5) (v:= ?_) rfl (by kernel_rfl) (by kernel_rfl) (by kernel_rfl) (by kernel_rfl) (λ_ _ _ a=>a) rfl ?_ x ?_;rotate_left
   ·intro w' l
    try dsimp only at l
    go_simp
    try with_reducible rfl
   try simp only[Act.put]
   refine cP (i:=6) (by kernel_rfl) rfl rfl (λu p=>?_) (by decide)
   go_simp
   refine p.out _ _ (λ_=>al.out) (λaN=>?_);clear p u
   try simp only[Act.put,bP,da,cZ]
   refine cP (i:=7) (by kernel_rfl) rfl rfl (λu p=>?_) (by decide);refine vy (v:=.slice q L r) (x':=.slice (some ⟨w2.heap.size,0,none⟩) 1 1) _ _ rfl (by simp[Act.eval]) (by simp[Act.eval]) J.out ?_;refine p.out _ _ (λ_=>⟨am,az⟩) (λU=>?_);clear p u
   try simp only[Act.put,bP]
   refine cP (i:=8) (by kernel_rfl) rfl rfl (λu p=>?_) (by decide)
   go_simp
   refine p.out _ _ (λ_=>U) (λ_=>?_);clear p u
   try simp only[Act.put,bP,da,cZ]
   refine aM (i:=9) (v:= ?_) rfl (by kernel_rfl) (by kernel_rfl) (by kernel_rfl) (by kernel_rfl) (λ_ _ _ a=>a) rfl ?_ U ?_;rotate_left
   ·intro w' l
    try dsimp only at l
    go_simp
    try with_reducible rfl
   try simp only[Act.put,bP]
   have aK:=an 7;refine iY (by kernel_rfl) rfl rfl (by kernel_rfl) (λu p=>?_)
   go_simp
   refine p.out _ _ (NoPanic.normal ?_);clear p u
   try simp only[Act.put,bP,da,cZ]
   go_wp2_with fail;obtain⟨G,au,av⟩:=I.out;exact ap (v:=.int .i64 0) (by simp[results,Tryz.results78,go_sem]) rfl ⟨λa=>by omega,λ_=>⟨v,0,w0,w1,rfl,s.out.1,s.out.2,λa=>absurd rfl a,λ_=>⟨G,m,n,d,au,av,rfl⟩⟩⟩
 ·have ar:(20:Int)<=(L:Int):=by omega
  go_wp2_with fail;exact ap (v:=.int .i64 2) (by simp[results,Tryz.results78,go_sem]) rfl ⟨λ_=>⟨rfl,F.out.1⟩,λa=>by omega⟩
section
variable {base pb:Nat} {name:ByteArray} {room:Int} {N:Nat} {s:Tm (N+1)} {ms:List (Tm (N+1))} {xs:List (Wd×Tm (N+1))} {nk:Nat} {M:Nat->Prop} {w:World} {ws:List Wd} {nm:List ByteArray} {sv:Wd} {vs:List Wd} {ma:Option Addr} {mc:Nat} {Mh:Nat->Prop}
def xE(N:Nat)(x:Tm N)(room:Int)(s:Tm N)(ms:List (Tm N)):Int:=if 20<=ms.length then 2 else rE N x room (s::ms)
theorem cr.box0(a:cr base pb name room (N+1) s ms xs nk M w ws nm sv vs ma mc Mh):Mh pb/\pb<w.heap.size:=by
 obtain⟨f,d,e,b,_⟩:=a.heap.box;obtain⟨_,_,_,_,_,_,c,_⟩:=a.heap;exact⟨c,(PL.cells b).2.2.2.2.2⟩
theorem cr.more{v:Wd}{x:Tm (N+1)}(a:cr base pb name room (N+1) s ms [(v,x)] nk M w ws nm sv vs ma mc Mh){g:Option Addr}{h:Nat}{i:World}(C:pX Mh ma (vs++ [v]) w g h i):cr base pb name room (N+1) s (ms++ [x]) [] nk (λb=>M b\/w.heap.size<=b) (i.setCell ⟨pb,7,none⟩ (.slice g (vs++ [v]).length h)) ws nm sv (vs++ [v]) g h Mh/\bL M w (i.setCell ⟨pb,7,none⟩ (.slice g (vs++ [v]).length h)):=by
 obtain⟨E,r,F⟩:=C;obtain⟨q,G⟩:=a.box0;have D:∀d,ma=some d->¬Mh d.block:=λd c f=>by
  rcases a.mail with⟨e,_⟩|⟨m,t,o,l,j,_⟩
  ·rw[e]at c;cases c
  ·rw[l]at c;rw[<-aq c]at f;exact j f
 have A:du base (PL pb name sv (.slice ma vs.length mc)) room ws nm Mh i:=a.heap.kept r λb n _ f=>by
  obtain⟨d,c,rfl⟩:=f;exact D d c n
 have k:=aZ i pb 7 (.slice g (vs++ [v]).length h);refine⟨⟨A.turn k λI H mp B=>?_,?_,?_,?_,a.names,λb n=>ae (a.inM b n),λd c=>?_⟩,?_⟩
 ·unfold World.setCell;simp[bC,B]
 ·rcases E with e|⟨m,t,o,l,j,p,y⟩
  ·exact ae e
  ·exact af ⟨m,t,o,l,j,(k.block m (aA.1 p).1 λe=>j (by rw[e];exact q)).trans p,y⟩
 ·have:=a.has;simpa using this
 ·simp[a.len]
 ·rcases F d c with⟨u,z,e⟩|e
  ·rw[e];exact ae (a.mailM u z)
  ·exact af (by omega)
 ·refine bL.trans (r.mono λb f=>?_) k λb _ f=>?_
  ·obtain⟨d,c,rfl⟩:=f;exact a.mailM d c
  ·rw[f];exact a.inM pb q
def NO(base pb:Nat)(name:ByteArray)(room:Int)(N:Nat)(s:Tm N)(ms:List (Tm N))(x:Tm N)(nk:Nat)(M:Nat->Prop)(w:World)(e:Ending)(w':World):Prop:=
 e=.returned (.int .i64 (xE N x room s ms))/\Hid (∃i f g h c d a,cr base pb name room N s (if xE N x room s ms=0 then ms++ [x]else ms) [] (nk+201) (λb=>M b\/w.heap.size<=b) w' i f g h c d a/\bL M w w')
theorem cr.deliver(z:cr base pb name room (N+1) s ms [] nk M w ws nm sv vs ma mc Mh)(x:Tm (N+1))(ay:In w.heap.size w (N+1) x)(ap:bV (λb=>¬M b) (N+1) x)(ak:(ar (N+1) x).length<=2097152)(L:∀b,M b->b<w.heap.size)(ao:nk<=49000)(ad:ms.length<=999)(aK:base<=w.heap.size):ah 78 #[.pointer (some ⟨pb,0,none⟩),dd (N+1) x] w (NO base pb name room (N+1) s ms x nk M w):=by
 have aN:=z.len;obtain⟨aO,aw⟩:=z.box0
 refine(qn pb x.1.1 x.1.2.1 x.1.2.2 x.2.1.1 x.2.2.length x.2.1.2 vs.length mc ma w
  (λh r p q=>r=rE (N+1) x room (s::ms)/\bL M w q/\w.heap.size<=p.heap.size/\∃o m n i g k j,cr base pb name room (N+1) s ms (if r=0 then [(h,x)]else []) (nk+201) (λb=>(M b\/p.heap.size<=b)/\b<q.heap.size) q o m n i g k j)
  (λh p v E F G=>bL M w v/\w.heap.size<=p.heap.size/\∃o m n i g k j,cr base pb name room (N+1) s ms [(h,x)] (nk+201) (λb=>M b\/p.heap.size<=b) v o m n i g k j/\pX j g (i++ [h]) v E F G) aw ?_ ?_ ?_).mono ?_
 ·intro q e;obtain⟨X,V,W,f,_⟩:=(z.later e).heap.box;exact(PL.cells f).2.2.2.1
 ·intro p e;have D:=e.size;refine((z.later e).put x ((ay.below e).mono D) ap ak (λb d=>aJ (L b d) D) ao ad (by omega)).mono ?_;rintro y q ⟨h,rfl,o,m,n,i,g,k,j,f,u⟩;refine⟨h,_,rfl,⟨u.size,λb aA _ aC=>u.block b aC λd=>?_⟩,rfl,(aT e M).trans u λ_ _ d=>d,D,o,m,n,i,g,k,_,f.inside⟩;have:=L b d;omega
 ·rintro h p q ⟨J,u,T,o,m,n,i,g,k,j,f⟩;rw[if_pos rfl]at f;have aL:=f.len;have I:i.length=vs.length:=by omega
  refine⟨g,k,λv e=>?_,λv e sa c ax=>?_⟩
  ·obtain⟨X,V,W,l,_⟩:=(f.later e).heap.box;rw[I]at l;exact⟨(PL.cells l).2.2.2.1,(PL.cells l).2.2.2.2.1⟩
  ·have t:=f.later e;have D:=e.size;obtain⟨E,F,G,S,C⟩:=sO 96 t.mail (by omega) (λb d=>aJ (f.inM b d).2 D) sa c h ax;rw[I]at S;have R:∀b,(∃a,g=some a/\b=a.block)->¬j b/\b<q.heap.size:=λb d=>by
    obtain⟨a,A,rfl⟩:=d;refine⟨λZ=>?_,(f.mailM a A).2⟩;rcases f.mail with⟨y,_⟩|⟨aG,aS,aF,r,ab,_⟩
    ·rw[y]at A;cases A
    ·rw[r]at A;rw[<-aq A]at Z;exact ab Z
   obtain⟨au,av⟩:=t.box0;have P:G.heap[pb]?=v.heap[pb]? :=C.2.1.block pb av λd=>(R pb d).1 au;obtain⟨X,V,W,l,_⟩:=t.heap.box;rw[I]at l;refine⟨E,F,G,S,(bk P 7).trans (PL.cells l).2.2.2.1,λU=>?_,λb aA aB=>C.2.1.block b aB λd=>?_,?_⟩
   ·exact(iJ (a:=⟨pb,U,none⟩) P).trans ((PL.cells l).2.2.2.2.1 U)
   ·have:=(R b d).2;omega
   ·exact⟨u.trans (aT e M) λ_ _ d=>d,T,o,m,n,i,g,k,j,t.mono (λb d=>d.1) (ai _),C⟩
 ·rintro y aU ⟨aj,l⟩;by_cases K:20<=ms.length
  ·obtain⟨rfl,e⟩:=aj (by omega);have B:xE (N+1) x room s ms=2:=by simp[xE,K]
   refine⟨by rw[B],ws,nm,sv,vs,ma,mc,Mh,?_,aT e M⟩;rw[B];exact(z.later e).mono (λb d=>ae d) (by omega)
  ·obtain⟨h,r,p,q,rfl,e,⟨J,u,T,o,m,n,i,g,k,j,f⟩,an,al⟩:=l (by omega);have B:xE (N+1) x room s ms=r:=by simp[xE,K,J]
   refine⟨by rw[B],?_⟩;rw[B];by_cases H:r=0
   ·obtain⟨v,E,F,G,aI,⟨Q,_,aE,az,aD,Y,aQ,aR,aa,t,C⟩,rfl⟩:=al H;have aM:=t.len;have y:vs.length+1=(Y++ [h]).length:=by simp;omega
    obtain⟨ag,am⟩:=t.more C;rw[y,if_pos H];have aP:=Q.size;refine⟨aE,az,aD,Y++ [h],E,F,aa,ag.mono (λb d=>?_) (ai _),Q.trans am λb aH d=>?_⟩
    ·rcases d with(d|d)|d
     ·exact ae d
     ·exact af (by omega)
     ·exact af (by omega)
    ·rcases d with d|d
     ·exact d
     ·omega
   ·have O:=an H;rw[if_neg H]at f ⊢;refine⟨o,m,n,i,g,k,j,(f.later O).mono (λb d=>?_) (ai _),u.trans (aT O M) λ_ _ d=>d⟩;rcases d.1 with d|d
    ·exact ae d
    ·exact af (by omega)
end
theorem FU(y:ByteArray)(k i:Int)(t:ByteArray)(l:Option Addr)(n m:Nat)(room:Int)(w:World)(r:Bool)(C:Wd->Int->World->World->Prop)(H:Hid (∀w1:World,ah 64 #[.string y] w1 λe w'=>e=.returned (.bool r)/\w'=w1))(Q:Hid (r=true->∀w1:World,ah 41 #[.string y] w1 λe w'=>e=.returned (.string y)/\ag w1 w'))(P:Hid (0<=room/\room<=1000->∀w2,HB (cg.own (w.heap.size+1)) room (.slice none 0 0) (.slice none 0 0) (.map none) w2->w2.heap.size=w.heap.size+1+1->ag w w2->ah 66 #[.pointer (some ⟨w.heap.size+1,0,none⟩),.agg #[.int .i64 k,.int .i64 i,.string t,.slice l n m]] w2 λe b=>∃(v:Wd)(c:Int),e=.returned (.tuple #[.agg #[.int .i64 v.1,.int .i64 v.2],.int .i64 c])/\Hid (∃tv lv mv,b.heap[w.heap.size+1]?=some (.cells #[.int .i64 room,tv,lv,mv] 103)/\C v c w2 b))):ah 39 #[.string y,.agg #[.int .i64 k,.int .i64 i,.string t,.slice l n m],.int .i64 room] w λe w'=> (r=false->e=.returned (.tuple #[.pointer none,.int .i64 5])/\ag w w')/\(r=true->¬(0<=room/\room<=1000)->e=.returned (.tuple #[.pointer none,.int .i64 1])/\ag w w')/\ (r=true->0<=room/\room<=1000->∃(v:Wd)(c:Int)(w2 b:World),Hid (ag w w2/\w2.heap.size=w.heap.size+1+1/\C v c w2 b)/\(c≠0->e=.returned (.tuple #[.pointer none,.int .i64 c])/\ag b w')/\ (c=0->∃(s:World)(tv lv mv:Value),e=.returned (.tuple #[.pointer (some ⟨s.heap.size,0,none⟩),.int .i64 0])/\ag b s/\b.heap[w.heap.size+1]?=some (.cells #[.int .i64 room,tv,lv,mv] 103)/\w'=s.alloc (.cells #[.string y,.int .i64 room,tv,lv,mv,.int .i64 v.1,.int .i64 v.2,.slice none 0 0] 107))):=by
 have O:=aj (vY w (.cells #[.int .i64 k,.int .i64 i,.string t,.slice l n m] 30) rfl);have o:Hid (ag w (w.alloc (.cells #[.int .i64 k,.int .i64 i,.string t,.slice l n m] 30))/\(w.alloc (.cells #[.int .i64 k,.int .i64 i,.string t,.slice l n m] 30)).heap.size=w.heap.size+1):=⟨by go_grown,by simp⟩;cases r with
 | false=>
  go_enter Tryz.func39,Tryz.ntmps39;go_wp2_with (go_at_call 64;refine(H.out _).mono ?_;rintro e w1 ⟨rfl,rfl⟩);exact ap (v:=.tuple #[.pointer none,.int .i64 5]) (by simp[results,Tryz.results39,go_sem]) rfl ⟨λ_=>⟨rfl,o.out.1⟩,λa=>(by cases a),λa=>(by cases a)⟩
 | true=>
  have R:=aj (Q.out rfl);go_enter Tryz.func39,Tryz.ntmps39;go_wp2_with (go_at_call 64;refine(H.out _).mono ?_;rintro e w1 ⟨rfl,rfl⟩);refine(KQ _ _).mono ?_;rintro e w2 ⟨p,g⟩;by_cases q:0<=room/\room<=1000;rotate_left
  ·obtain⟨rfl,rfl⟩:=p q;clear p g;go_wp2_with fail;exact ap (v:=.tuple #[.pointer none,.int .i64 1]) (by simp[results,Tryz.results39,go_sem]) rfl ⟨λa=>(by cases a),λ_ _=>⟨rfl,o.out.1⟩,λ_ a=>absurd a q⟩
  ·obtain⟨rfl,d⟩:=g q;clear p g;replace d:=aj d;rw[o.out.2]at d;have G:Hid (ag w w2):=o.out.1.trans (d.out.2.2.mono (by first|exact fB _|exact o.out.1.size));have I:=aj (P.out q w2 d.out.1 d.out.2.1 G.out);have x:Hid (w2.heap[w.heap.size]?=some (.cells #[.int .i64 k,.int .i64 i,.string t,.slice l n m] 30)):=(d.out.2.2.block _ (by have:=o.out.2;omega)).trans O.out;have S:w2.cell? ⟨w.heap.size,0,none⟩=some (.int .i64 k):=ao x.out 0;have T:w2.cell? ⟨w.heap.size,1,none⟩=some (.int .i64 i):=ao x.out 1;have U:w2.cell? ⟨w.heap.size,2,none⟩=some (.string t):=ao x.out 2;have V:w2.cell? ⟨w.heap.size,3,none⟩=some (.slice l n m):=ao x.out 3;go_wp2_with fail;refine I.out.mono ?_;rintro e b ⟨v,c,rfl,F⟩;obtain⟨tv,lv,mv,u,z⟩:=F.out;replace u:=aj u;replace z:=aj (show ag w w2/\w2.heap.size=w.heap.size+1+1/\C v c w2 b from⟨G.out,d.out.2.1,z⟩);clear F I S T U V x d;by_cases E:c=0;rotate_left
   ·have W:¬(0:Int)=c:=λe=>E e.symm;go_wp2_with fail;exact ap (v:=.tuple #[.pointer none,.int .i64 c]) (by simp[results,Tryz.results39,go_sem]) rfl ⟨λa=>(by cases a),λ_ a=>absurd q a,λ_ _=>⟨v,c,w2,b,z,λ_=>⟨rfl,aI⟩,λa=>absurd a E⟩⟩
   ·subst E;go_wp2_with fail;have J:Hid (∃j h,(j=b.alloc (.cells #[.int .i64 v.1,.int .i64 v.2] 105)/\h=b.heap.size)/\ag b j/\j.heap[h]?=some (.cells #[.int .i64 v.1,.int .i64 v.2] 105)):=⟨_,_,⟨rfl,rfl⟩,aI,ax _ _⟩;obtain⟨j,h,⟨N,M⟩,f⟩:=J.out;rw[<-N,<-M];replace f:=aj f;clear N M J;have B:Hid (∀w':World,ag j w'->w'.cell? ⟨w.heap.size+1,0,none⟩=some (.int .i64 room)/\w'.cell? ⟨w.heap.size+1,1,none⟩=some tv/\w'.cell? ⟨w.heap.size+1,2,none⟩=some lv/\w'.cell? ⟨w.heap.size+1,3,none⟩=some mv/\w'.cell? ⟨h,0,none⟩=some (.int .i64 v.1)/\w'.cell? ⟨h,1,none⟩=some (.int .i64 v.2)):=λw' a=>by
     have p:=(a.block h (aA.1 f.out.2).1).trans f.out.2;have L:=(aA.1 u.out).1;have g:=(a.block _ (aJ L f.out.1.size)).trans ((f.out.1.block _ L).trans u.out);exact⟨ao g 0,ao g 1,ao g 2,ao g 3,ao p 0,ao p 1⟩
    obtain⟨X,Y,Z,aa,ab,ad⟩:=B.out j (ak _ _);have D:Hid (ag j j.drew):=(ak _ _).drew
    go_region_held3 (λw'=>w'.cell? ⟨w.heap.size+1,0,none⟩=some (.int .i64 room)/\w'.cell? ⟨w.heap.size+1,1,none⟩=some tv/\w'.cell? ⟨w.heap.size+1,2,none⟩=some lv/\w'.cell? ⟨w.heap.size+1,3,none⟩=some mv/\w'.cell? ⟨h,0,none⟩=some (.int .i64 v.1)/\w'.cell? ⟨h,1,none⟩=some (.int .i64 v.2)) (first|(go_keep;done)|with_reducible exact B.out _ D.out|exact B.out _ A.out|exact B.out _ (A.out.trans (aI.mono A.out.size)))
     ((go_at_call 41;refine(R.out _).mono ?_;rintro e s ⟨rfl,K⟩;have A:=aj (D.out.trans (K.mono D.out.size));clear K))
    go_wp2_with fail;exact ap (v:=.tuple #[.pointer (some ⟨s.heap.size,0,none⟩),.int .i64 0]) (by simp[results,Tryz.results39,go_sem]) rfl ⟨λa=>(by cases a),λ_ a=>absurd q a,λ_ _=>⟨v,0,w2,b,z,λa=>absurd rfl a,λ_=>⟨s,tv,lv,mv,rfl,f.out.1.trans (A.out.mono f.out.1.size),u.out,rfl⟩⟩⟩
def fK(N:Nat)(x:Tm N)(room:Int)(name:ByteArray):Int:=if dC name=false then 5 else if¬(0<=room/\room<=1000)then 1 else jo N x room []
def Nc(N:Nat)(x:Tm N)(room:Int)(name:ByteArray)(w:World)(e:Ending)(w':World):Prop:=
 (fK N x room name≠0->e=.returned (.tuple #[.pointer none,.int .i64 (fK N x room name)])/\ag w w')/\
 (fK N x room name=0->∃a,e=.returned (.tuple #[.pointer (some ⟨a,0,none⟩),.int .i64 0])/\Hid (w.heap.size<=a/\ag w w'/\∃g d f c,cr w.heap.size a name room N x [] [] 201 (λb=>w.heap.size<=b/\b<w'.heap.size) w' g d f [] none 0 c))
theorem vV{s:ByteArray}(a:dC s=true):s.size<=2048:=by
 simp only[dC,pT,ay,bT]at a;omega
theorem In.offBelow{B:Nat}{w:World}:{n:Nat}->{x:Tm n}->In B w n x->bV (λb=>b<B) n x
 | 0,_,k=>k
 | _+1,_,k=>by
  obtain⟨_,a⟩:=k;rcases a with a|⟨b,o,e,c,a⟩
  ·exact ae a
  ·exact af ⟨b,o,e,c,λi y d=>(a i y d).2.offBelow⟩
theorem AK(N:Nat)(x:Tm (N+1))(room:Int)(name:ByteArray)(w:World)(av:name.size<=9223372036854775807)(O:In w.heap.size w (N+1) x)(aj:(ar (N+1) x).length<=2097152):ah 39 #[.string name,dd (N+1) x,.int .i64 room] w (Nc (N+1) x room name w):=by
 refine(FU name x.1.1 x.1.2.1 x.1.2.2 x.2.1.1 x.2.2.length x.2.1.2 room w (dC name) (λe l o p=>ag w p/\xh (N+1) x w.heap.size (cg.own (w.heap.size+1)) room [] [] (λb=>b=w.heap.size+1) e l o p) ?_ ?_ ?_).mono ?_
 ·intro D;exact ii name D av
 ·intro a D;exact dD name D (vV a)
 ·intro d o H aH m;have s:=m.size;have ab:du w.heap.size (cg.own (w.heap.size+1)) room [] [] (λb=>b=w.heap.size+1) o:=⟨.slice none 0 0,.slice none 0 0,.map none,H,ee _ _ _ _,⟨ee _ _ _ _,by simp,ae ⟨rfl,rfl,rfl⟩⟩,rfl,λb f=>by simp[Value.ownBlock]at f,λb f=>by simp[Value.ownBlock]at f,λb f=>by simp[mapBlock]at f⟩;refine(tW (N+1) x w.heap.size (cg.own (w.heap.size+1)) room [] [] (λb=>b=w.heap.size+1) o ab ((O.below m).mono s) ((In.offBelow O).mono λb c f=>by omega) aj s d.1 d.2 (by simp) (by simp)).mono ?_;intro f p au;obtain⟨e,l,rfl,i⟩:=yg au;have I:∀{E:Nat->Prop},bL E o p->(∀b,E b->w.heap.size<=b)->ag w p:=λk ak=>⟨k.os.trans m.os,k.tape.trans m.tape,k.output.trans m.output,aw s k.size,λb L=>(k.block b (aJ L s) λc=>by have:=ak b c;omega).trans (m.block b L)⟩;refine⟨e,l,rfl,?_⟩;by_cases g:l=0
  ·obtain⟨_,_,t,P⟩:=i.2.2 g;obtain⟨C,A,B,ai,_⟩:=t;exact⟨C,A,B,ai.2,I P λb c=>by omega,i⟩
  ·have n:=(i.2.1 g).2;exact⟨_,_,_,(n.block _ (by omega)).trans H.2,I (aT n λ_=>False) λb c=>c.elim,i⟩
 ·rintro f aM ⟨X,Y,Z⟩;cases hn:dC name with
  | false=>
   have h:fK (N+1) x room name=5:=by simp[fK,hn]
   refine⟨λ_=>by rw[h];exact X hn,λa=>by rw[h]at a;cases a⟩
  | true=>
   by_cases d:0<=room/\room<=1000;rotate_left
   ·have h:fK (N+1) x room name=1:=by simp[fK,hn,d]
    refine⟨λ_=>by rw[h];exact Y hn d,λa=>by rw[h]at a;cases a⟩
   ·obtain⟨e,l,o,p,Q,d1,aa⟩:=Z hn d;obtain⟨aE,aK,n,i⟩:=Q.out;have h:fK (N+1) x room name=l:=by rw[i.1];simp[fK,hn,d]
    have M:=n.size;rw[Nc,h];refine⟨λg=>⟨(d1 g).1,n.trans ((d1 g).2.mono M)⟩,λg=>?_⟩;obtain⟨j,C,A,B,rfl,r,J,rfl⟩:=aa g;have aG:=r.size;obtain⟨K,ay,t,P⟩:=i.2.2 g;have ao:=t.nodup;have ad:=(t.later r);obtain⟨y,u,v,R,S,T,aD,U,V,W⟩:=ad;have am:=(aA.1 J).1;have F:(Obj.cells #[.int .i64 room,y,u,v] 103)=(Obj.cells #[.int .i64 room,C,A,B] 103):=aq (R.2.symm.trans ((r.block _ am).trans J));simp only[Obj.cells.injEq,Array.mk.injEq,List.cons.injEq,and_true,true_and]at F;obtain⟨rfl,rfl,rfl⟩:=F;have z:ag j (j.alloc (.cells #[.string name,.int .i64 room,y,u,v,.int .i64 e.1,.int .i64 e.2,.slice none 0 0] 107)):=aI;have az:(j.alloc (.cells #[.string name,.int .i64 room,y,u,v,.int .i64 e.1,.int .i64 e.2,.slice none 0 0] 107)).heap.size=j.heap.size+1:=by simp
    refine⟨j.heap.size,rfl,by omega,(n.trans (r.mono M)).trans (z.mono (by omega)),(aO (N+1) x [] []).2.1,(aO (N+1) x [] []).2.2,e,λb=>b=j.heap.size\/(w.heap.size<=b/\b<j.heap.size),?_⟩;have al:jz (N+1) [] [] room [] ([]:List (Tm (N+1))):=⟨⟨rfl,λaL e aB a=>by simp at a⟩,by simp,λaB a=>by simp at a,by simp,by simp;exact d.1,d.1,d.2,by simp⟩;have an:=al.lay x K ao;have ap:=(ij (N+1) x [] []).2;have aF:=ni K.1;simp only[iF]at ap;refine⟨⟨y,u,v,⟨⟨rfl,af rfl⟩,ax _ _⟩,dJ S (aT z λ_=>False) (λ_ _ c=>c),T.kept (aT z λ_=>False) (λ_ _ c=>c) (λ_ _ c=>c),ae rfl,λb c=>af ?_,λb c=>af ?_,λb c=>af ?_⟩,ae ⟨rfl,rfl,rfl⟩,?_,rfl,by omega,λb c=>?_,λaC a=>by cases a⟩
    ·have a:=U b c;have G:=a.2;rcases a.1 with q|q<;>exact⟨by omega,by omega⟩
    ·have a:=V b c;have G:=a.2;rcases a.1 with q|q<;>exact⟨by omega,by omega⟩
    ·have a:=W b c;have G:=a.2;rcases a.1 with q|q<;>exact⟨by omega,by omega⟩
    ·rw[ay];exact an
    ·rw[az];rcases c with c|c<;>exact⟨by omega,by omega⟩
end Go.Proofs.YtckamaoibonjcaaGreat
