/- What is proved here: plain facts and contracts that the claimed theorem stands on. No condition but those that each names. -/
import Derived.Test.YtnidfceinoiboaaGreatG21
namespace Go.Proofs.YtnidfceinoiboaaGreat
open Go.RowKit
set_option maxHeartbeats 2000000
theorem jq.lay{N:Nat}{ws:List Wd}{nm:List ByteArray}{room:Int}{i:List Wd}{q:List (Tm N)}(t:jq N ws nm room i q)(x:Tm N)(j:bA N x=0/\aF N x=true/\sz N x<=room-ws.length)(y:(aN N x ws nm).2.2.Nodup):jq N (aN N x ws nm).2.1 (aN N x ws nm).2.2 room (i++ [(aN N x ws nm).1]) (q++ [x]):=by
 obtain⟨e,A,B,K,L,C,D,M⟩:=t;have n:=nv j.1;obtain⟨p,F⟩:=lq N x ws nm;have z:=fZ N x ws nm n;have m:=wJ N x ws nm n;have J:=(g8 N x ws nm).1;have l:∀c∈i,nJ (aN N x ws nm).2.1 N c=nJ ws N c/\∀E∈nJ ws N c,E<ws.length:=λc h=>by
  obtain⟨f,_,o⟩:=e.mem h;exact⟨pU p N f c o,wU N f c o⟩
 refine⟨⟨by simp[e.1],λk G f d a=>?_⟩,?_,λf a=>?_,?_,by omega,C,D,y⟩
 ·rcases Nat.lt_or_ge k i.length with g|g
  ·rw[cY g]at d;rw[cY (by rw[<-e.1];exact g)]at a;exact(e.2 k G f d a).mono p F
  ·rw[dN g]at d;rw[dN (by rw[<-e.1];exact g)]at a;have s:k-i.length=0:=by
    have:=(aK.1 d).1;simp at this;omega
   rw[<-e.1]at a;rw[s]at d a;simp only[cH,jW]at d a;rw[<-d,<-a];exact z
 ·rw[jM,lX (λc h=>(l c h).1)];simp only[bj,List.flatMap_nil,ee];refine eH.2 ⟨A,m.1,λr u b w=>?_⟩;obtain⟨c,h,v⟩:=iU.1 u;have H:=(l c h).2 r v;have I:=m.2 b w;omega
 ·rcases di.1 a with a|a
  ·exact B f a
  ·rw[dj.1 a];exact⟨j.1,j.2.1⟩
 ·simp only[ft,List.sum_append,aH,bQ,bt,iV];omega
def qJ(N:Nat)(x:Tm N)(room:Int)(a:List (Tm N)):Int:=if bA N x≠0 then bA N x else if aF N x=false then 5 else if (a.map (sz N)).sum+sz N x<=room then 0 else 6
theorem Bv{N:Nat}{x:Tm N}{room:Int}{ws:List Wd}{e:List (Tm N)}(c:iG N x room ws≠6)(f:(e.map (sz N)).sum<=(ws.length:Int)):qJ N x room e=iG N x room ws:=by
 unfold qJ iG at*;by_cases a:bA N x≠0
 ·simp[a]
 ·by_cases b:aF N x=false
  ·simp[a,b]
  ·rw[if_neg a,if_neg b]at c;rw[if_neg a,if_neg a,if_neg b,if_neg b];by_cases d:sz N x<=room-ws.length
   ·rw[if_pos (by omega)];simp[d]
   ·simp[d]at c
theorem Bu{N:Nat}{x:Tm N}{room:Int}{ws:List Wd}{a:List (Tm N)}(e:(ws.length:Int)=(a.map (sz N)).sum):qJ N x room a=iG N x room ws:=by
 unfold qJ iG;have b:((a.map (sz N)).sum+sz N x<=room)=(sz N x<=room-ws.length):=by rw[e];exact propext ⟨λd=>by omega,λd=>by omega⟩
 by_cases c:sz N x<=room-ws.length
 ·simp[c,b]
 ·simp[c,b]
section
variable {base pb:Nat} {name:ByteArray} {room:Int} {N:Nat} {s:Tm (N+1)} {ms:List (Tm (N+1))} {xs:List (Wd×Tm (N+1))} {nk:Nat} {M:Nat->Prop} {w:World} {ws:List Wd} {nm:List ByteArray} {sv:Wd} {vs:List Wd} {ma:Option Addr} {mc:Nat} {Mh:Nat->Prop}
theorem cd.kept(a:cd base pb name room (N+1) s ms xs nk M w ws nm sv vs ma mc Mh){S:Nat->Prop}{w1:World}(k:bD S w w1)(g:∀b,M b->b<w.heap.size->¬S b):cd base pb name room (N+1) s ms xs nk M w1 ws nm sv vs ma mc Mh:=by
 refine⟨a.heap.kept k λb m c=>g b (a.inM b m) c,?_,a.has,a.len,a.names,a.inM,a.mailM⟩;rcases a.mail with i|⟨d,n,h,e,j,f,l⟩
 ·exact ae i
 ·have c:=(aE.1 f).1;exact af ⟨d,n,h,e,j,(k.block d c (g d (a.mailM _ e) c)).trans f,l⟩
theorem cd.mono(a:cd base pb name room (N+1) s ms xs nk M w ws nm sv vs ma mc Mh){M':Nat->Prop}{nk':Nat}(c:∀b,M b->M' b)(g:nk<=nk'):cd base pb name room (N+1) s ms xs nk' M' w ws nm sv vs ma mc Mh:=
 ⟨a.heap,a.mail,a.has,a.len,au a.names g,λb f=>c b (a.inM b f),λd e=>c _ (a.mailM d e)⟩
theorem cd.inside(a:cd base pb name room (N+1) s ms xs nk M w ws nm sv vs ma mc Mh):cd base pb name room (N+1) s ms xs nk (λb=>M b/\b<w.heap.size) w ws nm sv vs ma mc (λb=>Mh b/\b<w.heap.size):=by
 refine⟨a.heap.inside,?_,a.has,a.len,a.names,λb k=>⟨a.inM b k.1,k.2⟩,λm c=>⟨a.mailM m c,?_⟩⟩
 ·rcases a.mail with d|⟨j,l,g,e,h,f,i⟩
  ·exact ae d
  ·exact af ⟨j,l,g,e,λn=>h n.1,f,i⟩
 ·rcases a.mail with⟨d,_⟩|⟨j,l,g,e,h,f,i⟩
  ·rw[d]at c;cases c
  ·rw[e]at c;injection c with c;rw[<-c];exact(aE.1 f).1
def vT(N:Nat)(x:Tm N)(base:Nat)(b:bW)(room:Int)(ws:List Wd)(nm:List ByteArray)(M:Nat->Prop)(v:Wd)(a:Int)(w w':World):Prop:=
 a=iG N x room ws/\(a≠0->v=(0,0)/\Below w.heap.size w w')/\(a=0->(bA N x=0/\aF N x=true/\sz N x<=room-ws.length)/\v=(aN N x ws nm).1/\kZ base b room (aN N x ws nm).2.1 (aN N x ws nm).2.2 M w w')
theorem wX{N:Nat}{x:Tm N}{h:bW}{e:Ending}{w w':World}(g:EX N x base h room ws nm M w e w'):∃(v:Wd)(f:Int),e=.returned (.tuple #[.agg #[.int .i64 v.1,.int .i64 v.2],.int .i64 f])/\vT N x base h room ws nm M v f w w':=by
 by_cases a:iG N x room ws=0
 ·obtain⟨b,c,i⟩:=g.2 a;exact⟨_,0,c,a.symm,λd=>absurd rfl d,λ_=>⟨b,rfl,i⟩⟩
 ·obtain⟨b,c⟩:=g.1 a;exact⟨(0,0),_,b,rfl,λ_=>⟨rfl,c⟩,λd=>absurd d a⟩
theorem dy.nodup{c:bW}(a:dy base c room ws nm M w):nm.Nodup:=by
 obtain⟨_,_,_,_,_,b,_⟩:=a;exact b.2.1
theorem cd.put1(d:cd base pb name room (N+1) s ms [] nk M w ws nm sv vs ma mc Mh){x:Tm (N+1)}{v:Wd}{e:Int}{w':World}(y:vT (N+1) x base (PL pb name sv (.slice ma vs.length mc)) room ws nm Mh v e w w'):∃C B m,cd base pb name room (N+1) s ms (if e=0 then [(v,x)]else []) (nk+201) (λb=>M b\/w.heap.size<=b) w' C B sv vs ma mc m/\bD M w w':=by
 obtain⟨D,r,t⟩:=y;by_cases f:e=0
 ·obtain⟨c,rfl,k,l⟩:=t f;rw[if_pos f];have G:=(g8 (N+1) x ws nm).2;have F:=mI c.1;have E:=d.names;refine⟨_,_,λb=>Mh b\/w.heap.size<=b,⟨k,?_,?_,d.len,by omega,?_,λn u=>ae (d.mailM n u)⟩,l.mono d.inM⟩
  ·rcases d.mail with p|⟨j,A,o,e,h,i,q⟩
   ·exact ae p
   ·have z:=(aE.1 i).1;refine af ⟨j,A,o,e,λa=>?_,(l.block j z h).trans i,q⟩;rcases a with a|a
    ·exact h a
    ·omega
  ·have:=d.has;simp only[bQ,ee]at this;exact this.lay x c k.nodup
  ·intro b g;rcases g with a|a
   ·exact ae (d.inM b a)
   ·exact af a
 ·obtain⟨_,g⟩:=r f;rw[if_neg f];exact⟨ws,nm,Mh,(d.later g).mono (λb a=>ae a) (by omega),aR g M⟩
def LX(base pb:Nat)(name:ByteArray)(room:Int)(N:Nat)(s:Tm N)(ms:List (Tm N))(x:Tm N)(nk:Nat)(M:Nat->Prop)(w:World)(e:Ending)(w':World):Prop:=
 ∃a:Wd,e=.returned (.tuple #[.agg #[.int .i64 a.1,.int .i64 a.2],.int .i64 (qJ N x room (s::ms))])/\Hid (∃j g h i d f c,cd base pb name room N s ms (if qJ N x room (s::ms)=0 then [(a,x)]else []) (nk+201) (λb=>M b\/w.heap.size<=b) w' j g h i d f c/\bD M w w')
theorem cd.put(y:cd base pb name room (N+1) s ms [] nk M w ws nm sv vs ma mc Mh)(x:Tm (N+1))(ad:In w.heap.size w (N+1) x)(au:ch (λb=>¬M b) (N+1) x)(am:(aq (N+1) x).length<=2097152)(G:∀b,M b->b<w.heap.size)(aI:nk<=49000)(aj:ms.length<=999)(aG:base<=w.heap.size):Calls Tryz.prog 95 #[.pointer (some ⟨pb,0,none⟩),dg (N+1) x] w (LX base pb name room (N+1) s ms x nk M w):=by
 have aH:=y.len;have aJ:=y.names;have ao:=y.front;obtain⟨_,_,_,az,aM,aA,aB,_⟩:=ao;have Z:=In.offB au ad
 have aa:∀{f:World}{D:List Wd}{B:Wd}{C:List Wd}{z:Option Addr}{A:Nat}{q P:Nat->Prop},cd base pb name room (N+1) s ms [] nk P f D nm B C z A q->bD M w f->(∀b,P b->M b\/w.heap.size<=b)->
   Calls Tryz.prog 56 #[.pointer (some ⟨pb,1,none⟩),dg (N+1) x] f λE g=>∃(e:Wd)(d:Int),E=.returned (.tuple #[.agg #[.int .i64 e.1,.int .i64 e.2],.int .i64 d])/\vT (N+1) x base (PL pb name B (.slice z C.length A)) room D nm q e d f g:=by
  intro f D B C z A q P r ah al;have aw:=ah.size;obtain⟨_,_,_,_,aN,aO,aP,_⟩:=r.front;have ax:In f.heap.size f (N+1) x:=(In.off (λb (c:¬M b/\b<w.heap.size)=>ah.block b c.2 c.1) Z ad).mono aw;have av:ch (λb=>¬q b) (N+1) x:=Z.mono λb c a=>by
   rcases al b (r.inM b a)with t|t
   ·exact c.1 t
   ·have:=c.2;omega
  exact(tg (N+1) x base (PL pb name B (.slice z C.length A)) room D nm q f r.heap ax av am (by omega) aA aB (by omega) (by omega)).mono λE g a=>wX a
 have T:∀{n:Nat}{V:Nat->Prop}{j g:World},bD V j g->(∀b,n<=b->b<n+3->b<j.heap.size->¬V b)->Up n j g:=λk an=>⟨k.size,λb u O F=>k.block b F (an b u O F)⟩;have Y:∀{e:Wd}{d:Int}{j g:World}{D:List Wd}{B:Wd}{C:List Wd}{z:Option Addr}{A:Nat}{q:Nat->Prop},vT (N+1) x base (PL pb name B (.slice z C.length A)) room D nm q e d j g->bD q j g:=λ{e d j g D B C z A q} a=>by
  by_cases W:d=0
  ·exact(a.2.2 W).2.2.2
  ·exact aR (a.2.1 W).2 _
 refine(zx pb x.1.1 x.1.2.1 x.1.2.2 x.2.1.1 x.2.2.length x.2.1.2 w (λe d j g=>vT (N+1) x base (PL pb name sv (.slice ma vs.length mc)) room ws nm Mh e d j g)
  (λH I=>bD M w I/\H.heap.size<=I.heap.size/\∃l p i o m,cd base pb name room (N+1) s ms [] nk (λb=>M b\/H.heap.size<=b) I l nm p i o i.length m/\(l.length:Int)=((s::ms).map (sz (N+1))).sum)
  (λe d f U=>bD M w f/\w.heap.size+3<=f.heap.size/\∃l p i o m,cd base pb name room (N+1) s ms [] nk (λb=>M b\/w.heap.size+3<=b) f l nm p i o i.length m/\(l.length:Int)=((s::ms).map (sz (N+1))).sum/\vT (N+1) x base (PL pb name p (.slice o i.length i.length)) room l nm m e d f U) ?_ ?_ ?_).mono ?_
 ·intro j c;refine(aa (y.later c) (aR c M) λb a=>ae a).mono ?_;rintro E g ⟨e,d,rfl,h⟩;refine⟨e,d,rfl,T (Y h) λb u _ _ a=>?_,h⟩;have:=G b (y.inM b a);omega
 ·intro aE j g H c h v ay;have X:=(h.2.1 (by decide)).2;have ab:=c.size;have O:=((y.later c).later X).kept v λb a _ t=>by
   have:=G b a;omega
  have ap:bD M w H:=bD.trans ((aR c M).trans (aR X M) λ_ _ a=>a) v λb Q a=>by omega
  refine(O.tidy (by omega) aj (by omega)).mono ?_;rintro E I ⟨rfl,l,p,i,o,m,F,K,S⟩;refine⟨rfl,T K λb u _ _ a=>?_,ap.trans K λ_ _ a=>a,K.size,l,p,i,o,m,F,S⟩;have:=G b a;omega
 ·rintro H I f ⟨K,aK,l,p,i,o,m,F,S⟩ ay c
  have r:=(F.later c).mono (M':=λb=>M b\/w.heap.size+3<=b) (nk':=nk) (λb a=>by
   rcases a with a|a
   ·exact ae a
   ·exact af (by omega)) (ag _)
  have L:bD M w f:=K.trans (aR c M) λ_ _ a=>a
  refine(aa r L λb a=>by
   rcases a with a|a
   ·exact ae a
   ·exact af (by omega)).mono ?_
  rintro E U ⟨e,d,rfl,h⟩;refine⟨e,d,rfl,T (Y h) λb u O _ a=>?_,L,by have:=c.size;omega,l,p,i,o,m,r,S,h⟩;rcases r.inM b a with t|t
  ·have:=G b t;omega
  ·omega
 ·rintro E aQ ⟨e,d,rfl,⟨ak,j,g,c,h,v⟩|⟨aE,j,g,H,I,f,U,_,_,_,_,_,_,⟨L,aL,l,p,i,o,m,r,ar,h⟩,v⟩⟩
  ·have ab:=c.size;have J:d=qJ (N+1) x room (s::ms):=by
    rw[Bv (ws:=ws) (by rw[<-h.1];exact ak) az];exact h.1
   obtain⟨l,aC,m,u,R⟩:=(y.later c).put1 h;refine⟨e,by rw[<-J],l,aC,sv,vs,ma,mc,m,?_,?_⟩
   ·rw[<-J];refine(u.kept v λb a _ t=>?_).mono (λb a=>?_) (ag _)
    ·rcases a with a|a
     ·have:=G b a;omega
     ·omega
    ·rcases a with a|a
     ·exact ae a
     ·exact af (by omega)
   ·exact bD.trans ((aR c M).trans R λ_ _ a=>a) v λb Q a=>by omega
  ·have ab:=L.size;have J:d=qJ (N+1) x room (s::ms):=by
    rw[Bu ar];exact h.1
   obtain⟨aF,aD,ai,u,R⟩:=r.put1 h;refine⟨e,by rw[<-J],aF,aD,p,i,o,i.length,ai,?_,?_⟩
   ·rw[<-J];refine(u.kept v λb a _ t=>?_).mono (λb a=>?_) (ag _)
    ·subst t;rcases a with(a|a)|a
     ·have:=G _ a;omega
     ·omega
     ·omega
    ·rcases a with(a|a)|a
     ·exact ae a
     ·exact af (by omega)
     ·exact af (by omega)
   ·refine bD.trans (L.trans R λb Q a=>?_) v λb Q a=>by omega
    rcases a with a|a
    ·exact a
    ·omega
end
theorem rG(vs:List Wd)(v:Wd):aP (vs++ [v])=aP vs++oC v:=by simp[aP]
theorem mX{P:Program}(w:World)(t ty e:TypeId)(i:TypeInfo)(y:P.underlying t=some (.slice e))(r:P.info? e=some i)(g f d k:Nat)(h:Array Value)(q:w.heap[g]?=some (.cells h e (0,0)))(a:Addr)(m c:Nat)(b:List Value)(s:b.length=m*i.size)(v:∀j u,b[j]?=some u->w.cell? (a.add j)=some u)(n:∀u∈b,u.oneCell'=true)(x:d+m<=k)(p:f+d*i.size+b.length<=h.size):(Builtin.append_ #[t,t] ty #[.slice (some ⟨g,f,none⟩) d k,.slice (some a) m c]).run P w= .ok (.slice (some ⟨g,f,none⟩) (d+m) k) (w.setRow g (h.toList.take (f+d*i.size)++b++h.toList.drop (f+d*i.size+b.length)).toArray):=by
 have o:=run_firstCells_some (P:=P) w i.size m a m c b s v;have l:=oe P g (f+d*i.size) e b 0 h w q (by simpa using p) n;simp only[iY]at l;simp[Builtin.append_,bV y,sizeOf,typeInfo,r,Builtin.lenOf,x,o,eE,l]
def pr(Mh:Nat->Prop)(ma:Option Addr)(vs:List Wd)(w:World)(d:Option Addr)(e:Nat)(w':World):Prop:=
 jd Mh d vs e w'/\bD (λb=>∃a,ma=some a/\b=a.block) w w'/\∀a,d=some a->(∃c,ma=some c/\a.block=c.block)\/a.block=w.heap.size
theorem Gx{S:Nat->Prop}(w:World)(g:Nat)(cs:Array Value)(a:∀b,b=g->S b):bD S w (w.setRow g cs):=⟨rfl,rfl,rfl,by simp,λ_ _ c=>setRow_other _ _ _ _ λe=>c (a _ e)⟩
theorem tA{Mh:Nat->Prop}{ma:Option Addr}{w:World}(a:List Wd)(C c:Nat)(z:Value)(k:z.cells.size=2)(o:c=a.length)(e:a.length<=C)(f:C<=maxLen)(g:∀b,Mh b->b<w.heap.size):pr Mh ma a w (some ⟨w.heap.size,0,none⟩) C (w.drew.alloc (.cells ((aP a).toArray++Builtin.zeroCells z.cells (C-c)) 125)):=by
 have d:∀b,b<w.heap.size->(w.drew.alloc (.cells ((aP a).toArray++Builtin.zeroCells z.cells (C-c)) 125)).heap[b]?=w.heap[b]? :=λb d=>Below.heap_alloc w.drew _ b d;have j:(w.drew.alloc (.cells ((aP a).toArray++Builtin.zeroCells z.cells (C-c)) 125)).heap[w.heap.size]?=some (.cells ((aP a).toArray++Builtin.zeroCells z.cells (C-c)) 125):=ax w.drew _;refine⟨af ⟨w.heap.size,0,_,rfl,λl=>?_,j,e,f,?_,?_⟩,⟨rfl,rfl,rfl,?_,λb i _=>d b i⟩,λm h=>af (congrArg Addr.block (ap h).symm)⟩
 ·have:=g _ l;omega
 ·rw[Array.size_append,size_zeroCells,k,eQ,bY];omega
 ·rw[List.drop_zero,Array.toList_append,iX (by rw[nX,bY];omega),nX,bk (by rw[bY];omega)]
 ·have:=jb w.drew (.cells ((aP a).toArray++Builtin.zeroCells z.cells (C-c)) 125);have n:w.drew.heap.size=w.heap.size:=rfl;omega
theorem rS{Mh:Nat->Prop}{ma:Option Addr}{vs:List Wd}{f:Nat}{w:World}(ty:TypeId)(k:jd Mh ma vs f w)(O:vs.length<=1000)(x:∀b,Mh b->b<w.heap.size)(sa:Addr)(c:Nat)(v:Wd)(q:∀j u,(oC v)[j]?=some u->w.cell? (sa.add j)=some u):∃C D w',(Builtin.append_ #[116,116] ty #[.slice ma vs.length f,.slice (some sa) 1 c]).run Tryz.prog w=.ok (.slice C (vs.length+1) D) w'/\pr Mh ma (vs++ [v]) w C D w':=by
 obtain⟨n,p,A,h,B⟩:=bM kj;have L:∀u∈oC v,u.oneCell'=true:=by simp[oC,Value.oneCell']
 have i:(oC v).length=2:=rfl;rcases k with⟨rfl,rfl,rfl⟩|⟨e,a,d,rfl,r,m,F,s,G,t⟩
 ·have l:=run_append_nil (P:=Tryz.prog) w 116 ty 125 n _ Tryz.underlying116 p A sa 1 c (oC v) (by rw[i,h]) q (by omega) (by omega) (by rw[B];omega);refine⟨_,_,_,l,?_⟩;have k:=tA (Mh:=Mh) (ma:=none) (w:=w) [v] (grownCap w 1 0 125) 1 (.agg #[.int .i64 0,.int .i64 0]) rfl rfl (grownCap_ge w 1 0 _) (grownCap_le_maxLen w 1 0 _ (by unfold maxLen;omega)) x;simpa [aP]using k
 ·have Q:=(aE.1 m).1;by_cases M:vs.length+1<=f
  ·have y:a+vs.length*n.size+(oC v).length<=d.size:=by rw[i,h];omega
   have l:=mX (P:=Tryz.prog) w 116 ty 125 n Tryz.underlying116 p e a vs.length f d m sa 1 c (oC v) (by rw[i,h]) q L M y;refine⟨_,_,_,l,af ⟨e,a,_,rfl,r,setRow_heap w e d _ _ _ m,?_,s,?_,?_⟩,?_,λN H=>ae ⟨_,rfl,?_⟩⟩
   ·simp only[aX,aW,jQ];omega
   ·have o:d.toList.length=d.size:=gG;rw[h]at y ⊢;simp only[eQ,aX,dn,eG,o];omega
   ·rw[h];have R:(d.toList.take (a+vs.length*2)).length=a+vs.length*2:=by
     have o:d.toList.length=d.size:=gG;rw[dn,o];omega
    have J:(d.toList.take (a+vs.length*2)).drop a=aP vs:=by
     rw[List.drop_take,Nat.add_sub_cancel_left];exact t
    rw[rG,lJ,nQ (by omega),J];have g:(vs++ [v]).length*2=(aP vs).length+2:=by
     rw[bY];simp only[aX,aW,jQ];omega
    rw[g,List.take_length_add_append,iX (by rw[i];omega),bk (by rw[i];omega)]
   ·exact Gx w e _ λb g=>⟨_,rfl,g⟩
   ·exact congrArg Addr.block (ap H).symm
  ·have l:=run_append_grow (P:=Tryz.prog) w 116 ty 125 n _ Tryz.underlying116 p A ⟨e,a,none⟩ vs.length f (aP vs) (by rw[bY,h]) (λj u z=>by
     have K:jd Mh (some ⟨e,a,none⟩) vs f w:=af ⟨e,a,d,rfl,r,m,F,s,G,t⟩;rcases K.words with g|⟨ad,g,I⟩
     ·subst g;simp[aP]at z
     ·have E:=ap g;rw[E]
      exact I j u z) sa 1 c (oC v) (by rw[i,h]) q (by omega) (by omega) (growslice_fits (by omega) (by rw[B];omega))
   refine⟨_,_,_,l,?_⟩;have k:=tA (Mh:=Mh) (ma:=some ⟨e,a,none⟩) (w:=w) (vs++ [v]) (grownCap w (vs.length+1) f 125) (vs.length+1) (.agg #[.int .i64 0,.int .i64 0]) rfl (by simp) (by have:=grownCap_ge w (vs.length+1) f 125;simpa using this) (grownCap_le_maxLen w _ _ _ (by unfold maxLen;omega)) x;simpa [rG]using k
theorem uI{w w':World}{v x' b:Value}{o:Oper}{a:Act}{K:Act->World->Prop}{Q:Exit->Act->World->Prop}(s x:Operand)(d:o.op=.call {callee:=.builtin .append,args:= #[s,x],argTypes:= #[116,116]})(f:a.eval s=v)(g:a.eval x=x')(e:(Builtin.append_ #[116,116] o.type #[v,x']).run Tryz.prog w=.ok b w')(c:K (a.put o.dst b) w'):Oper.wp Tryz.prog o a w K Q:=by
 unfold Oper.wp execOp;simp only[d,resolve,invoke,builtin,Sem.run_bind,Sem.run_pure,lP,lK,aH,bQ,f,g,e];exact c
theorem pF(g:Nat)(k i:Int)(t:ByteArray)(C:Option Addr)(E D:Nat)(L ay:Nat)(ma:Option Addr)(w:World)(F:Wd->Int->World->World->Prop)(I:Wd->World->World->Option Addr->Nat->World->Prop)(aK:g<w.heap.size)(Z:Hid (∀w1,Below w.heap.size w w1->w1.cell? ⟨g,7,none⟩=some (.slice ma L ay)))(ab:Hid (∀w0,Below w.heap.size w w0->Calls Tryz.prog 95 #[.pointer (some ⟨g,0,none⟩),.agg #[.int .i64 k,.int .i64 i,.string t,.slice C E D]] w0 λe w1=>∃(v:Wd)(h:Int),e=.returned (.tuple #[.agg #[.int .i64 v.1,.int .i64 v.2],.int .i64 h])/\Hid (Up w.heap.size w0 w1/\F v h w0 w1)))(ad:Hid (∀v w0 w1,F v 0 w0 w1->∃q r,Hid (∀w2,Below w1.heap.size w1 w2->w2.cell? ⟨g,7,none⟩=some (.slice q L r)/\∀j,w2.frozen? ⟨g,j,none⟩=false)/\Hid (∀w2,Below w1.heap.size w1 w2->∀(sa:Addr)(c:Nat),(∀j u,(oC v)[j]?=some u->w2.cell? (sa.add j)=some u)-> ∃m n d,(Builtin.append_ #[116,116] 116 #[.slice q L r,.slice (some sa) 1 c]).run Tryz.prog w2=.ok (.slice m (L+1) n) d/\d.cell? ⟨g,7,none⟩=some (.slice q L r)/\(∀j,d.frozen? ⟨g,j,none⟩=false)/\(∀b,w1.heap.size<=b->b<w2.heap.size->d.heap[b]?=w2.heap[b]?)/\I v w0 w2 m n d))):Calls Tryz.prog 67 #[.pointer (some ⟨g,0,none⟩),.agg #[.int .i64 k,.int .i64 i,.string t,.slice C E D]] w λe w'=> (20<=L->e=.returned (.int .i64 2)/\Below w.heap.size w w')/\(L<20->∃(v:Wd)(h:Int)(w0 w1:World),e=.returned (.int .i64 h)/\Below w.heap.size w w0/\F v h w0 w1/\(h≠0->Below w1.heap.size w1 w')/\(h=0->∃w2 m n d,Below w1.heap.size w1 w2/\I v w0 w2 m n d/\w'=(d.setCell ⟨g,7,none⟩ (.slice m (L+1) n)))):=by
 have aa:=ai (ge w (.cells #[.int .i64 k,.int .i64 i,.string t,.slice C E D] 30) rfl);have G:Hid (Below w.heap.size w (w.alloc (.cells #[.int .i64 k,.int .i64 i,.string t,.slice C E D] 30))/\(w.alloc (.cells #[.int .i64 k,.int .i64 i,.string t,.slice C E D] 30)).heap.size=w.heap.size+1):=⟨by go_grown,by simp⟩;go_enter Tryz.func67,Tryz.ntmps67;have T:=Z.out w (ah _ _);rcases Nat.lt_or_ge L 20 with an|an
 ·have ap:¬(20:Int)<=(L:Int):=by omega
  have Q:=ai (ab.out _ G.out.1);go_wp2_with fail;refine Q.out.mono ?_;rintro e w1 ⟨v,h,rfl,N⟩;have R:Hid (∃w0,Below w.heap.size w w0/\F v h w0 w1):=⟨_,G.out.1,N.out.2⟩;obtain⟨w0,s⟩:=R.out;replace s:=ai s;clear R N Q aa G T;by_cases M:h=0;rotate_left
  ·have aI:¬(0:Int)=h:=λe=>M e.symm;go_wp2_with fail;exact ao (v:=.int .i64 h) (by simp[results,Tryz.results67,go_sem]) rfl ⟨λa=>by omega,λ_=>⟨v,h,w0,w1,rfl,s.out.1,s.out.2,λ_=>aG,λa=>absurd a M⟩⟩
  ·subst M;obtain⟨q,r,ae,af⟩:=ad.out v w0 w1 s.out.2;have S:Hid (∃w2 f,(w2=w1.alloc (.cells #[.int .i64 v.1,.int .i64 v.2] 125)/\f=w1.heap.size)/\Below w1.heap.size w1 w2/\w2.heap[f]?=some (.cells #[.int .i64 v.1,.int .i64 v.2] 125)/\w1.heap.size<=f):=⟨_,_,⟨rfl,rfl⟩,aG,ax _ _,ag _⟩;go_wp2_with fail;obtain⟨w2,f,⟨Y,W⟩,o⟩:=S.out;rw[<-Y,<-W];replace o:=ai o;clear Y W S;have A:Hid (∀w':World,Below w2.heap.size w2 w'->(w'.cell? ⟨g,7,none⟩=some (.slice q L r)/\∀j,w'.frozen? ⟨g,j,none⟩=false)/\w'.cell? ⟨f,0,none⟩=some (.int .i64 v.1)/\w'.cell? ⟨f,1,none⟩=some (.int .i64 v.2)):=λw' a=>by
    have B:=(a.block f (aE.1 o.out.2.1).1).trans o.out.2.1;exact⟨ae.out _ (o.out.1.trans (a.mono o.out.1.size)),am B 0,am B 1⟩
   obtain⟨⟨T,aF⟩,aN,aO⟩:=A.out w2 (ah _ _);have P:Hid (Below w2.heap.size w2 w2.drew):=(ah _ _).drew;have z:Hid (Below w2.heap.size w2 (w2.alloc (.cells #[.int .i64 v.1,.int .i64 v.2] 125)).drew):=(show Below _ _ _ by go_grown);have O:Hid (∃m n d,(Builtin.append_ #[116,116] 116 #[.slice q L r,.slice (some ⟨w2.heap.size,0,none⟩) 1 1]).run Tryz.prog (w2.alloc (.cells #[.int .i64 v.1,.int .i64 v.2] 125)).drew=.ok (.slice m (L+1) n) d/\d.cell? ⟨g,7,none⟩=some (.slice q L r)/\(∀j,d.frozen? ⟨g,j,none⟩=false)/\(d.cell? ⟨f,0,none⟩=some (.int .i64 v.1)/\d.cell? ⟨f,1,none⟩=some (.int .i64 v.2))/\∃H,Below w1.heap.size w1 H/\I v w0 H m n d):=by
    have V:=o.out.1.trans (z.out.mono o.out.1.size);have av:=pN w2 (.cells #[.int .i64 v.1,.int .i64 v.2] 125) rfl
    obtain⟨m,n,d,az,aA,aB,aC,aD⟩:=af.out _ V ⟨w2.heap.size,0,none⟩ 1 (λj u au=>by
     rw[eE,cU];refine(am av j).trans ?_;rw[<-au,<-List.getElem?_toArray]
     rfl)
    have X:=(aE.1 o.out.2.1).1;have B:=(aC f o.out.2.2 (aL X z.out.size)).trans ((z.out.block f X).trans o.out.2.1);exact⟨m,n,d,az,aA,aB,⟨am B 0,am B 1⟩,_,V,aD⟩
   obtain⟨m,n,d,K,ak,al,aw,J⟩:=O.out;replace K:=ai K;replace J:=ai J;clear O;have y:w2.drew.cell? ⟨g,7,none⟩=some (.slice q L r)/\w2.drew.cell? ⟨f,0,none⟩=some (.int .i64 v.1)/\w2.drew.cell? ⟨f,1,none⟩=some (.int .i64 v.2):=⟨(A.out _ P.out).1.1,(A.out _ P.out).2⟩;have aj:Hid ((w2.alloc (.cells #[.int .i64 v.1,.int .i64 v.2] 125)).drew.cell? ⟨g,7,none⟩=some (.slice q L r)/\(w2.alloc (.cells #[.int .i64 v.1,.int .i64 v.2] 125)).drew.cell? ⟨f,0,none⟩=some (.int .i64 v.1)/\(w2.alloc (.cells #[.int .i64 v.1,.int .i64 v.2] 125)).drew.cell? ⟨f,1,none⟩=some (.int .i64 v.2)):=⟨(A.out _ z.out).1.1,(A.out _ z.out).2⟩;refine wp_region_noPanic ?_;refine iR (λw'=>w'.cell? ⟨g,7,none⟩=some (.slice q L r)/\w'.cell? ⟨f,0,none⟩=some (.int .i64 v.1)/\w'.cell? ⟨f,1,none⟩=some (.int .i64 v.2)) 10 (by kernel_rfl) ?_
   try simp only[eQ]
   refine aM (i:=0) (v:= ?_) rfl (by kernel_rfl) (by kernel_rfl) (by kernel_rfl) (by kernel_rfl) (λ_ _ _ a=>a) rfl ?_ y ?_;rotate_left
   ·intro w' l
    try dsimp only at l
    go_simp
    try with_reducible rfl
   try simp only[Act.put,bL]
   refine aM (i:=1) (v:= ?_) rfl (by kernel_rfl) (by kernel_rfl) (by kernel_rfl) (by kernel_rfl) (λ_ _ _ a=>a) rfl ?_ y ?_;rotate_left
   ·intro w' l
    try dsimp only at l
    go_simp
    try with_reducible rfl
   try simp only[Act.put]
   refine aM (i:=2) (v:= ?_) rfl (by kernel_rfl) (by kernel_rfl) (by kernel_rfl) (by kernel_rfl) (λ_ _ _ a=>a) rfl ?_ y ?_;rotate_left
   ·intro w' l
    try dsimp only at l
    go_simp
    try with_reducible rfl
   try simp only[Act.put]
   refine aM (i:=3) (v:= ?_) rfl (by kernel_rfl) (by kernel_rfl) (by kernel_rfl) (by kernel_rfl) (λ_ _ _ a=>a) rfl ?_ y ?_;rotate_left
   ·intro w' l
    try dsimp only at l
    go_simp
    try with_reducible rfl
   try simp only[Act.put]
   refine aM (i:=4) (v:= ?_) rfl (by kernel_rfl) (by kernel_rfl) (by kernel_rfl) (by kernel_rfl) (λ_ _ _ a=>a) rfl ?_ y ?_;rotate_left
   ·intro w' l
    try dsimp only at l
    go_simp
    try with_reducible rfl
   try simp only[Act.put]
   refine aM (i:=5) (v:= ?_) rfl (by kernel_rfl) (by kernel_rfl) (by kernel_rfl) (by kernel_rfl) (λ_ _ _ a=>a) rfl ?_ y ?_;rotate_left
   ·intro w' l
    try dsimp only at l
    go_simp
    try with_reducible rfl
   try simp only[Act.put]
   refine cN (i:=6) (by kernel_rfl) rfl rfl (λx p=>?_) (by decide)
   go_simp
   refine p.out _ _ (λ_=>aj.out) (λaJ=>?_);clear p x
   try simp only[Act.put,bL,da,cZ]
   refine cN (i:=7) (by kernel_rfl) rfl rfl (λx p=>?_) (by decide);refine uI (v:=.slice q L r) (x':=.slice (some ⟨w2.heap.size,0,none⟩) 1 1) _ _ rfl (by simp[Act.eval]) (by simp[Act.eval]) K.out ?_;refine p.out _ _ (λ_=>⟨ak,aw⟩) (λU=>?_);clear p x
   try simp only[Act.put,bL]
   refine cN (i:=8) (by kernel_rfl) rfl rfl (λx p=>?_) (by decide)
   go_simp
   refine p.out _ _ (λ_=>U) (λ_=>?_);clear p x
   try simp only[Act.put,bL,da,cZ]
   refine aM (i:=9) (v:= ?_) rfl (by kernel_rfl) (by kernel_rfl) (by kernel_rfl) (by kernel_rfl) (λ_ _ _ a=>a) rfl ?_ U ?_;rotate_left
   ·intro w' l
    try dsimp only at l
    go_simp
    try with_reducible rfl
   try simp only[Act.put,bL]
   have aH:=al 7;refine iQ (by kernel_rfl) rfl rfl (by kernel_rfl) (λx p=>?_)
   go_simp
   refine p.out _ _ (NoPanic.normal ?_);clear p x
   try simp only[Act.put,bL,da,cZ]
   go_wp2_with fail;obtain⟨H,aq,ar⟩:=J.out;exact ao (v:=.int .i64 0) (by simp[results,Tryz.results67,go_sem]) rfl ⟨λa=>by omega,λ_=>⟨v,0,w0,w1,rfl,s.out.1,s.out.2,λa=>absurd rfl a,λ_=>⟨H,m,n,d,aq,ar,rfl⟩⟩⟩
 ·have ap:(20:Int)<=(L:Int):=by omega
  go_wp2_with fail;exact ao (v:=.int .i64 2) (by simp[results,Tryz.results67,go_sem]) rfl ⟨λ_=>⟨rfl,G.out.1⟩,λa=>by omega⟩
section
variable {base pb:Nat} {name:ByteArray} {room:Int} {N:Nat} {s:Tm (N+1)} {ms:List (Tm (N+1))} {xs:List (Wd×Tm (N+1))} {nk:Nat} {M:Nat->Prop} {w:World} {ws:List Wd} {nm:List ByteArray} {sv:Wd} {vs:List Wd} {ma:Option Addr} {mc:Nat} {Mh:Nat->Prop}
def wC(N:Nat)(x:Tm N)(room:Int)(s:Tm N)(ms:List (Tm N)):Int:=if 20<=ms.length then 2 else qJ N x room (s::ms)
theorem cd.box0(a:cd base pb name room (N+1) s ms xs nk M w ws nm sv vs ma mc Mh):Mh pb/\pb<w.heap.size:=by
 obtain⟨f,d,e,b,_⟩:=a.heap.box;obtain⟨_,_,_,_,_,_,c,_⟩:=a.heap;exact⟨c,(PL.cells b).2.2.2.2.2⟩
theorem cd.more{v:Wd}{x:Tm (N+1)}(a:cd base pb name room (N+1) s ms [(v,x)] nk M w ws nm sv vs ma mc Mh){g:Option Addr}{h:Nat}{i:World}(C:pr Mh ma (vs++ [v]) w g h i):cd base pb name room (N+1) s (ms++ [x]) [] nk (λb=>M b\/w.heap.size<=b) (i.setCell ⟨pb,7,none⟩ (.slice g (vs++ [v]).length h)) ws nm sv (vs++ [v]) g h Mh/\bD M w (i.setCell ⟨pb,7,none⟩ (.slice g (vs++ [v]).length h)):=by
 obtain⟨E,r,F⟩:=C;obtain⟨q,G⟩:=a.box0;have D:∀d,ma=some d->¬Mh d.block:=λd c f=>by
  rcases a.mail with⟨e,_⟩|⟨m,t,o,l,j,_⟩
  ·rw[e]at c;cases c
  ·rw[l]at c;rw[<-ap c]at f;exact j f
 have A:dy base (PL pb name sv (.slice ma vs.length mc)) room ws nm Mh i:=a.heap.kept r λb n _ f=>by
  obtain⟨d,c,rfl⟩:=f;exact D d c n
 have k:=aY i pb 7 (.slice g (vs++ [v]).length h);refine⟨⟨A.turn k λI H mp B=>?_,?_,?_,?_,a.names,λb n=>ae (a.inM b n),λd c=>?_⟩,?_⟩
 ·unfold World.setCell;simp[bJ,B]
 ·rcases E with e|⟨m,t,o,l,j,p,y⟩
  ·exact ae e
  ·exact af ⟨m,t,o,l,j,(k.block m (aE.1 p).1 λe=>j (by rw[e];exact q)).trans p,y⟩
 ·have:=a.has;simpa using this
 ·simp[a.len]
 ·rcases F d c with⟨u,z,e⟩|e
  ·rw[e];exact ae (a.mailM u z)
  ·exact af (by omega)
 ·refine bD.trans (r.mono λb f=>?_) k λb _ f=>?_
  ·obtain⟨d,c,rfl⟩:=f;exact a.mailM d c
  ·rw[f];exact a.inM pb q
def LQ(base pb:Nat)(name:ByteArray)(room:Int)(N:Nat)(s:Tm N)(ms:List (Tm N))(x:Tm N)(nk:Nat)(M:Nat->Prop)(w:World)(e:Ending)(w':World):Prop:=
 e=.returned (.int .i64 (wC N x room s ms))/\Hid (∃i f g h c d a,cd base pb name room N s (if wC N x room s ms=0 then ms++ [x]else ms) [] (nk+201) (λb=>M b\/w.heap.size<=b) w' i f g h c d a/\bD M w w')
theorem cd.deliver(z:cd base pb name room (N+1) s ms [] nk M w ws nm sv vs ma mc Mh)(x:Tm (N+1))(ax:In w.heap.size w (N+1) x)(ao:ch (λb=>¬M b) (N+1) x)(aj:(aq (N+1) x).length<=2097152)(L:∀b,M b->b<w.heap.size)(an:nk<=49000)(ad:ms.length<=999)(aI:base<=w.heap.size):Calls Tryz.prog 67 #[.pointer (some ⟨pb,0,none⟩),dg (N+1) x] w (LQ base pb name room (N+1) s ms x nk M w):=by
 have aM:=z.len;obtain⟨aN,av⟩:=z.box0
 refine(pF pb x.1.1 x.1.2.1 x.1.2.2 x.2.1.1 x.2.2.length x.2.1.2 vs.length mc ma w
  (λh r p q=>r=qJ (N+1) x room (s::ms)/\bD M w q/\w.heap.size<=p.heap.size/\∃o m n i g k j,cd base pb name room (N+1) s ms (if r=0 then [(h,x)]else []) (nk+201) (λb=>(M b\/p.heap.size<=b)/\b<q.heap.size) q o m n i g k j)
  (λh p v E F G=>bD M w v/\w.heap.size<=p.heap.size/\∃o m n i g k j,cd base pb name room (N+1) s ms [(h,x)] (nk+201) (λb=>M b\/p.heap.size<=b) v o m n i g k j/\pr j g (i++ [h]) v E F G) av ?_ ?_ ?_).mono ?_
 ·intro q e;obtain⟨X,V,W,f,_⟩:=(z.later e).heap.box;exact(PL.cells f).2.2.2.1
 ·intro p e;have D:=e.size;refine((z.later e).put x ((ax.below e).mono D) ao aj (λb d=>aL (L b d) D) an ad (by omega)).mono ?_;rintro y q ⟨h,rfl,o,m,n,i,g,k,j,f,u⟩;refine⟨h,_,rfl,⟨u.size,λb az _ aB=>u.block b aB λd=>?_⟩,rfl,(aR e M).trans u λ_ _ d=>d,D,o,m,n,i,g,k,_,f.inside⟩;have:=L b d;omega
 ·rintro h p q ⟨J,u,T,o,m,n,i,g,k,j,f⟩;rw[if_pos rfl]at f;have aJ:=f.len;have I:i.length=vs.length:=by omega
  refine⟨g,k,λv e=>?_,λv e sa c aw=>?_⟩
  ·obtain⟨X,V,W,l,_⟩:=(f.later e).heap.box;rw[I]at l;exact⟨(PL.cells l).2.2.2.1,(PL.cells l).2.2.2.2.1⟩
  ·have t:=f.later e;have D:=e.size;obtain⟨E,F,G,S,C⟩:=rS 116 t.mail (by omega) (λb d=>aL (f.inM b d).2 D) sa c h aw;rw[I]at S;have R:∀b,(∃a,g=some a/\b=a.block)->¬j b/\b<q.heap.size:=λb d=>by
    obtain⟨a,A,rfl⟩:=d;refine⟨λZ=>?_,(f.mailM a A).2⟩;rcases f.mail with⟨y,_⟩|⟨aF,aS,aE,r,ab,_⟩
    ·rw[y]at A;cases A
    ·rw[r]at A;rw[<-ap A]at Z;exact ab Z
   obtain⟨ar,au⟩:=t.box0;have P:G.heap[pb]?=v.heap[pb]? :=C.2.1.block pb au λd=>(R pb d).1 ar;obtain⟨X,V,W,l,_⟩:=t.heap.box;rw[I]at l;refine⟨E,F,G,S,(bi P 7).trans (PL.cells l).2.2.2.1,λU=>?_,λb az aA=>C.2.1.block b aA λd=>?_,?_⟩
   ·exact(iq (a:=⟨pb,U,none⟩) P).trans ((PL.cells l).2.2.2.2.1 U)
   ·have:=(R b d).2;omega
   ·exact⟨u.trans (aR e M) λ_ _ d=>d,T,o,m,n,i,g,k,j,t.mono (λb d=>d.1) (ag _),C⟩
 ·rintro y aT ⟨ai,l⟩;by_cases K:20<=ms.length
  ·obtain⟨rfl,e⟩:=ai (by omega);have B:wC (N+1) x room s ms=2:=by simp[wC,K]
   refine⟨by rw[B],ws,nm,sv,vs,ma,mc,Mh,?_,aR e M⟩;rw[B];exact(z.later e).mono (λb d=>ae d) (by omega)
  ·obtain⟨h,r,p,q,rfl,e,⟨J,u,T,o,m,n,i,g,k,j,f⟩,am,ak⟩:=l (by omega);have B:wC (N+1) x room s ms=r:=by simp[wC,K,J]
   refine⟨by rw[B],?_⟩;rw[B];by_cases H:r=0
   ·obtain⟨v,E,F,G,aH,⟨Q,_,aD,ay,aC,Y,aP,aQ,aa,t,C⟩,rfl⟩:=ak H;have aK:=t.len;have y:vs.length+1=(Y++ [h]).length:=by simp;omega
    obtain⟨ah,al⟩:=t.more C;rw[y,if_pos H];have aO:=Q.size;refine⟨aD,ay,aC,Y++ [h],E,F,aa,ah.mono (λb d=>?_) (ag _),Q.trans al λb aG d=>?_⟩
    ·rcases d with(d|d)|d
     ·exact ae d
     ·exact af (by omega)
     ·exact af (by omega)
    ·rcases d with d|d
     ·exact d
     ·omega
   ·have O:=am H;rw[if_neg H]at f ⊢;refine⟨o,m,n,i,g,k,j,(f.later O).mono (λb d=>?_) (ag _),u.trans (aR O M) λ_ _ d=>d⟩;rcases d.1 with d|d
    ·exact ae d
    ·exact af (by omega)
end
theorem Eb(y:ByteArray)(k i:Int)(t:ByteArray)(l:Option Addr)(n m:Nat)(room:Int)(w:World)(q:Bool)(C:Wd->Int->World->World->Prop)(H:Hid (∀w1:World,Calls Tryz.prog 54 #[.string y] w1 λe w'=>e=.returned (.bool q)/\w'=w1))(Q:Hid (q=true->∀w1:World,Calls Tryz.prog 49 #[.string y] w1 λe w'=>e=.returned (.string y)/\Below w1.heap.size w1 w'))(P:Hid (0<=room/\room<=1000->∀w2,HB (bW.own (w.heap.size+1)) room (.slice none 0 0) (.slice none 0 0) (.map none) w2->w2.heap.size=w.heap.size+1+1->Below w.heap.size w w2->Calls Tryz.prog 56 #[.pointer (some ⟨w.heap.size+1,0,none⟩),.agg #[.int .i64 k,.int .i64 i,.string t,.slice l n m]] w2 λe b=>∃(v:Wd)(c:Int),e=.returned (.tuple #[.agg #[.int .i64 v.1,.int .i64 v.2],.int .i64 c])/\Hid (∃tv lv mv,b.heap[w.heap.size+1]?=some (.cells #[.int .i64 room,tv,lv,mv] 123)/\C v c w2 b))):Calls Tryz.prog 31 #[.string y,.agg #[.int .i64 k,.int .i64 i,.string t,.slice l n m],.int .i64 room] w λe w'=> (q=false->e=.returned (.tuple #[.pointer none,.int .i64 5])/\Below w.heap.size w w')/\(q=true->¬(0<=room/\room<=1000)->e=.returned (.tuple #[.pointer none,.int .i64 1])/\Below w.heap.size w w')/\ (q=true->0<=room/\room<=1000->∃(v:Wd)(c:Int)(w2 b:World),Hid (Below w.heap.size w w2/\w2.heap.size=w.heap.size+1+1/\C v c w2 b)/\(c≠0->e=.returned (.tuple #[.pointer none,.int .i64 c])/\Below b.heap.size b w')/\ (c=0->∃(r:World)(tv lv mv:Value),e=.returned (.tuple #[.pointer (some ⟨r.heap.size,0,none⟩),.int .i64 0])/\Below b.heap.size b r/\b.heap[w.heap.size+1]?=some (.cells #[.int .i64 room,tv,lv,mv] 123)/\w'=r.alloc (.cells #[.string y,.int .i64 room,tv,lv,mv,.int .i64 v.1,.int .i64 v.2,.slice none 0 0] 127))):=by
 have O:=ai (ge w (.cells #[.int .i64 k,.int .i64 i,.string t,.slice l n m] 30) rfl);have u:Hid (Below w.heap.size w (w.alloc (.cells #[.int .i64 k,.int .i64 i,.string t,.slice l n m] 30))/\(w.alloc (.cells #[.int .i64 k,.int .i64 i,.string t,.slice l n m] 30)).heap.size=w.heap.size+1):=⟨by go_grown,by simp⟩;cases q with
 | false=>
  go_enter Tryz.func31,Tryz.ntmps31;go_wp2_with (go_at_call 54;refine(H.out _).mono ?_;rintro e w1 ⟨rfl,rfl⟩);exact ao (v:=.tuple #[.pointer none,.int .i64 5]) (by simp[results,Tryz.results31,go_sem]) rfl ⟨λ_=>⟨rfl,u.out.1⟩,λa=>(by cases a),λa=>(by cases a)⟩
 | true=>
  have R:=ai (Q.out rfl);go_enter Tryz.func31,Tryz.ntmps31;go_wp2_with (go_at_call 54;refine(H.out _).mono ?_;rintro e w1 ⟨rfl,rfl⟩);refine(IX _ _).mono ?_;rintro e w2 ⟨o,h⟩;by_cases p:0<=room/\room<=1000;rotate_left
  ·obtain⟨rfl,rfl⟩:=o p;clear o h;go_wp2_with fail;exact ao (v:=.tuple #[.pointer none,.int .i64 1]) (by simp[results,Tryz.results31,go_sem]) rfl ⟨λa=>(by cases a),λ_ _=>⟨rfl,u.out.1⟩,λ_ a=>absurd a p⟩
  ·obtain⟨rfl,f⟩:=h p;clear o h;replace f:=ai f;rw[u.out.2]at f;have G:Hid (Below w.heap.size w w2):=u.out.1.trans (f.out.2.2.mono (fw _));have I:=ai (P.out p w2 f.out.1 f.out.2.1 G.out);have x:Hid (w2.heap[w.heap.size]?=some (.cells #[.int .i64 k,.int .i64 i,.string t,.slice l n m] 30)):=(f.out.2.2.block _ (by have:=u.out.2;omega)).trans O.out;have S:w2.cell? ⟨w.heap.size,0,none⟩=some (.int .i64 k):=am x.out 0;have T:w2.cell? ⟨w.heap.size,1,none⟩=some (.int .i64 i):=am x.out 1;have U:w2.cell? ⟨w.heap.size,2,none⟩=some (.string t):=am x.out 2;have V:w2.cell? ⟨w.heap.size,3,none⟩=some (.slice l n m):=am x.out 3;go_wp2_with fail;refine I.out.mono ?_;rintro e b ⟨v,c,rfl,F⟩;obtain⟨tv,lv,mv,s,z⟩:=F.out;replace s:=ai s;replace z:=ai (show Below w.heap.size w w2/\w2.heap.size=w.heap.size+1+1/\C v c w2 b from⟨G.out,f.out.2.1,z⟩);clear F I S T U V x f;by_cases E:c=0;rotate_left
   ·have W:¬(0:Int)=c:=λe=>E e.symm;go_wp2_with fail;exact ao (v:=.tuple #[.pointer none,.int .i64 c]) (by simp[results,Tryz.results31,go_sem]) rfl ⟨λa=>(by cases a),λ_ a=>absurd p a,λ_ _=>⟨v,c,w2,b,z,λ_=>⟨rfl,aG⟩,λa=>absurd a E⟩⟩
   ·subst E;go_wp2_with fail;have J:Hid (∃d j,(d=b.alloc (.cells #[.int .i64 v.1,.int .i64 v.2] 125)/\j=b.heap.size)/\Below b.heap.size b d/\d.heap[j]?=some (.cells #[.int .i64 v.1,.int .i64 v.2] 125)):=⟨_,_,⟨rfl,rfl⟩,aG,ax _ _⟩;obtain⟨d,j,⟨N,M⟩,g⟩:=J.out;rw[<-N,<-M];replace g:=ai g;clear N M J;have B:Hid (∀w':World,Below d.heap.size d w'->w'.cell? ⟨w.heap.size+1,0,none⟩=some (.int .i64 room)/\w'.cell? ⟨w.heap.size+1,1,none⟩=some tv/\w'.cell? ⟨w.heap.size+1,2,none⟩=some lv/\w'.cell? ⟨w.heap.size+1,3,none⟩=some mv/\w'.cell? ⟨j,0,none⟩=some (.int .i64 v.1)/\w'.cell? ⟨j,1,none⟩=some (.int .i64 v.2)):=λw' a=>by
     have o:=(a.block j (aE.1 g.out.2).1).trans g.out.2;have L:=(aE.1 s.out).1;have h:=(a.block _ (aL L g.out.1.size)).trans ((g.out.1.block _ L).trans s.out);exact⟨am h 0,am h 1,am h 2,am h 3,am o 0,am o 1⟩
    obtain⟨X,Y,Z,aa,ab,ad⟩:=B.out d (ah _ _);have D:Hid (Below d.heap.size d d.drew):=(ah _ _).drew
    go_region_held3 (λw'=>w'.cell? ⟨w.heap.size+1,0,none⟩=some (.int .i64 room)/\w'.cell? ⟨w.heap.size+1,1,none⟩=some tv/\w'.cell? ⟨w.heap.size+1,2,none⟩=some lv/\w'.cell? ⟨w.heap.size+1,3,none⟩=some mv/\w'.cell? ⟨j,0,none⟩=some (.int .i64 v.1)/\w'.cell? ⟨j,1,none⟩=some (.int .i64 v.2)) (first|(go_keep;done)|with_reducible exact B.out _ D.out|exact B.out _ A.out|exact B.out _ (A.out.trans (aG.mono A.out.size)))
     ((go_at_call 49;refine(R.out _).mono ?_;rintro e r ⟨rfl,K⟩;have A:=ai (D.out.trans (K.mono D.out.size));clear K))
    go_wp2_with fail;exact ao (v:=.tuple #[.pointer (some ⟨r.heap.size,0,none⟩),.int .i64 0]) (by simp[results,Tryz.results31,go_sem]) rfl ⟨λa=>(by cases a),λ_ a=>absurd p a,λ_ _=>⟨v,0,w2,b,z,λa=>absurd rfl a,λ_=>⟨r,tv,lv,mv,rfl,g.out.1.trans (A.out.mono g.out.1.size),s.out,rfl⟩⟩⟩
def eZ(N:Nat)(x:Tm N)(room:Int)(name:ByteArray):Int:=if cg name=false then 5 else if¬(0<=room/\room<=1000)then 1 else iG N x room []
def Lg(N:Nat)(x:Tm N)(room:Int)(name:ByteArray)(w:World)(e:Ending)(w':World):Prop:=
 (eZ N x room name≠0->e=.returned (.tuple #[.pointer none,.int .i64 (eZ N x room name)])/\Below w.heap.size w w')/\
 (eZ N x room name=0->∃a,e=.returned (.tuple #[.pointer (some ⟨a,0,none⟩),.int .i64 0])/\Hid (w.heap.size<=a/\Below w.heap.size w w'/\∃g d f c,cd w.heap.size a name room N x [] [] 201 (λb=>w.heap.size<=b/\b<w'.heap.size) w' g d f [] none 0 c))
theorem vh{s:ByteArray}(a:cg s=true):s.size<=2048:=by
 simp only[cg,kK,az,bN]at a;omega
theorem In.offBelow{B:Nat}{w:World}:{n:Nat}->{x:Tm n}->In B w n x->ch (λb=>b<B) n x
 | 0,_,k=>k
 | _+1,_,k=>by
  obtain⟨_,a⟩:=k;rcases a with a|⟨b,o,e,c,a⟩
  ·exact ae a
  ·exact af ⟨b,o,e,c,λi y d=>(a i y d).2.offBelow⟩
theorem zu(N:Nat)(x:Tm (N+1))(room:Int)(name:ByteArray)(w:World)(ar:name.size<=9223372036854775807)(O:In w.heap.size w (N+1) x)(ah:(aq (N+1) x).length<=2097152):Calls Tryz.prog 31 #[.string name,dg (N+1) x,.int .i64 room] w (Lg (N+1) x room name w):=by
 refine(Eb name x.1.1 x.1.2.1 x.1.2.2 x.2.1.1 x.2.2.length x.2.1.2 room w (cg name) (λe l o p=>Below w.heap.size w p/\vT (N+1) x w.heap.size (bW.own (w.heap.size+1)) room [] [] (λb=>b=w.heap.size+1) e l o p) ?_ ?_ ?_).mono ?_
 ·intro D;exact gZ name D ar
 ·intro a D;exact dD name D (vh a)
 ·intro d o H aF m;have s:=m.size;have ab:dy w.heap.size (bW.own (w.heap.size+1)) room [] [] (λb=>b=w.heap.size+1) o:=⟨.slice none 0 0,.slice none 0 0,.map none,H,eg _ _ _ _,⟨eg _ _ _ _,by simp,ae ⟨rfl,rfl,rfl⟩⟩,rfl,λb f=>by simp[Value.ownBlock]at f,λb f=>by simp[Value.ownBlock]at f,λb f=>by simp[mapBlock]at f⟩;refine(tg (N+1) x w.heap.size (bW.own (w.heap.size+1)) room [] [] (λb=>b=w.heap.size+1) o ab ((O.below m).mono s) ((In.offBelow O).mono λb c f=>by omega) ah s d.1 d.2 (by simp) (by simp)).mono ?_;intro f p ao;obtain⟨e,l,rfl,j⟩:=wX ao;have I:∀{E:Nat->Prop},bD E o p->(∀b,E b->w.heap.size<=b)->Below w.heap.size w p:=λk ai=>⟨k.os.trans m.os,k.tape.trans m.tape,k.output.trans m.output,au s k.size,λb L=>(k.block b (aL L s) λc=>by have:=ai b c;omega).trans (m.block b L)⟩;refine⟨e,l,rfl,?_⟩;by_cases g:l=0
  ·obtain⟨_,_,t,P⟩:=j.2.2 g;obtain⟨C,A,B,ag,_⟩:=t;exact⟨C,A,B,ag.2,I P λb c=>by omega,j⟩
  ·have n:=(j.2.1 g).2;exact⟨_,_,_,(n.block _ (by omega)).trans H.2,I (aR n λ_=>False) λb c=>c.elim,j⟩
 ·rintro f aJ ⟨X,Y,Z⟩;cases hn:cg name with
  | false=>
   have i:eZ (N+1) x room name=5:=by simp[eZ,hn]
   refine⟨λ_=>by rw[i];exact X hn,λa=>by rw[i]at a;cases a⟩
  | true=>
   by_cases d:0<=room/\room<=1000;rotate_left
   ·have i:eZ (N+1) x room name=1:=by simp[eZ,hn,d]
    refine⟨λ_=>by rw[i];exact Y hn d,λa=>by rw[i]at a;cases a⟩
   ·obtain⟨e,l,o,p,Q,d1,aa⟩:=Z hn d;obtain⟨aB,aH,n,j⟩:=Q.out;have i:eZ (N+1) x room name=l:=by rw[j.1];simp[eZ,hn,d]
    have M:=n.size;rw[Lg,i];refine⟨λg=>⟨(d1 g).1,n.trans ((d1 g).2.mono M)⟩,λg=>?_⟩;obtain⟨h,C,A,B,rfl,r,J,rfl⟩:=aa g;have aD:=r.size;obtain⟨K,av,t,P⟩:=j.2.2 g;have am:=t.nodup;have ad:=(t.later r);obtain⟨y,u,v,R,S,T,aA,U,V,W⟩:=ad;have ak:=(aE.1 J).1;have F:(Obj.cells #[.int .i64 room,y,u,v] 123)=(Obj.cells #[.int .i64 room,C,A,B] 123):=ap (R.2.symm.trans ((r.block _ ak).trans J));simp only[Obj.cells.injEq,Array.mk.injEq,List.cons.injEq,and_true,true_and]at F;obtain⟨rfl,rfl,rfl⟩:=F;have z:Below h.heap.size h (h.alloc (.cells #[.string name,.int .i64 room,y,u,v,.int .i64 e.1,.int .i64 e.2,.slice none 0 0] 127)):=aG;have aw:(h.alloc (.cells #[.string name,.int .i64 room,y,u,v,.int .i64 e.1,.int .i64 e.2,.slice none 0 0] 127)).heap.size=h.heap.size+1:=by simp
    refine⟨h.heap.size,rfl,by omega,(n.trans (r.mono M)).trans (z.mono (by omega)),(aN (N+1) x [] []).2.1,(aN (N+1) x [] []).2.2,e,λb=>b=h.heap.size\/(w.heap.size<=b/\b<h.heap.size),?_⟩;have aj:jq (N+1) [] [] room [] ([]:List (Tm (N+1))):=⟨⟨rfl,λaI e ay a=>by simp at a⟩,by simp,λay a=>by simp at a,by simp,by simp;exact d.1,d.1,d.2,by simp⟩;have al:=aj.lay x K am;have an:=(g8 (N+1) x [] []).2;have aC:=mI K.1;simp only[jQ]at an;refine⟨⟨y,u,v,⟨⟨rfl,af rfl⟩,ax _ _⟩,dJ S (aR z λ_=>False) (λ_ _ c=>c),T.kept (aR z λ_=>False) (λ_ _ c=>c) (λ_ _ c=>c),ae rfl,λb c=>af ?_,λb c=>af ?_,λb c=>af ?_⟩,ae ⟨rfl,rfl,rfl⟩,?_,rfl,by omega,λb c=>?_,λaz a=>by cases a⟩
    ·have a:=U b c;have G:=a.2;rcases a.1 with q|q<;>exact⟨by omega,by omega⟩
    ·have a:=V b c;have G:=a.2;rcases a.1 with q|q<;>exact⟨by omega,by omega⟩
    ·have a:=W b c;have G:=a.2;rcases a.1 with q|q<;>exact⟨by omega,by omega⟩
    ·rw[av];exact al
    ·rw[aw];rcases c with c|c<;>exact⟨by omega,by omega⟩
end Go.Proofs.YtnidfceinoiboaaGreat
