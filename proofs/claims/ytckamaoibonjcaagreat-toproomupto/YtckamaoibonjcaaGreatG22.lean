/- What is proved here: plain facts and contracts that the claimed theorem stands on. No condition but those that each names. -/
import Derived.Test.YtckamaoibonjcaaGreatG21
namespace Go.Proofs.YtckamaoibonjcaaGreat
open Go.RowKit
set_option maxHeartbeats 2000000
set_option maxRecDepth 100000
theorem jI.lay{N:Nat}{ws:List Wd}{nm:List ByteArray}{room:Int}{i:List Wd}{q:List (Tm N)}(t:jI N ws nm room i q)(x:Tm N)(j:bu N x=0/\aJ N x=true/\sz N x<=room-ws.length)(y:(aU N x ws nm).2.2.Nodup):jI N (aU N x ws nm).2.1 (aU N x ws nm).2.2 room (i++ [(aU N x ws nm).1]) (q++ [x]):=by
 obtain⟨e,A,B,K,L,C,D,M⟩:=t;have n:=oc j.1;obtain⟨p,F⟩:=lP N x ws nm;have z:=gF N x ws nm n;have m:=yg N x ws nm n;have J:=(iy N x ws nm).1;have l:∀c∈i,oy (aU N x ws nm).2.1 N c=oy ws N c/\∀E∈oy ws N c,E<ws.length:=λc h=>by
  obtain⟨f,_,o⟩:=e.mem h;exact⟨qP p N f c o,yw N f c o⟩
 refine⟨⟨by simp[e.1],λk G f d a=>?_⟩,?_,λf a=>?_,?_,by omega,C,D,y⟩
 ·rcases Nat.lt_or_ge k i.length with g|g
  ·rw[dk g]at d;rw[dk (by rw[<-e.1];exact g)]at a;exact(e.2 k G f d a).mono p F
  ·rw[ei g]at d;rw[ei (by rw[<-e.1];exact g)]at a;have s:k-i.length=0:=by
    have:=(aR.1 d).1;simp at this;omega
   rw[<-e.1]at a;rw[s]at d a;simp only[cN,kw]at d a;rw[<-d,<-a];exact z
 ·rw[kj,mK (λc h=>(l c h).1)];simp only[bB,List.flatMap_nil,eh];refine eI.2 ⟨A,m.1,λr u b w=>?_⟩;obtain⟨c,h,v⟩:=jn.1 u;have H:=(l c h).2 r v;have I:=m.2 b w;omega
 ·rcases cR.1 a with a|a
  ·exact B f a
  ·rw[de.1 a];exact⟨j.1,j.2.1⟩
 ·simp only[fJ,List.sum_append,aK,bX,bv,jo];omega
def rQ(N:Nat)(x:Tm N)(room:Int)(a:List (Tm N)):Int:=if bu N x≠0 then bu N x else if aJ N x=false then 5 else if (a.map (sz N)).sum+sz N x<=room then 0 else 6
theorem C9{N:Nat}{x:Tm N}{room:Int}{ws:List Wd}{e:List (Tm N)}(c:jx N x room ws≠6)(f:(e.map (sz N)).sum<=(ws.length:Int)):rQ N x room e=jx N x room ws:=by
 unfold rQ jx at*;by_cases a:bu N x≠0
 ·simp[a]
 ·by_cases b:aJ N x=false
  ·simp[a,b]
  ·rw[if_neg a,if_neg b]at c;rw[if_neg a,if_neg a,if_neg b,if_neg b];by_cases d:sz N x<=room-ws.length
   ·rw[if_pos (by omega)];simp[d]
   ·simp[d]at c
theorem C8{N:Nat}{x:Tm N}{room:Int}{ws:List Wd}{a:List (Tm N)}(e:(ws.length:Int)=(a.map (sz N)).sum):rQ N x room a=jx N x room ws:=by
 unfold rQ jx;have b:((a.map (sz N)).sum+sz N x<=room)=(sz N x<=room-ws.length):=by rw[e];exact propext ⟨λd=>by omega,λd=>by omega⟩
 by_cases c:sz N x<=room-ws.length
 ·simp[c,b]
 ·simp[c,b]
section
variable {base pb:Nat} {name:ByteArray} {room:Int} {N:Nat} {s:Tm (N+1)} {ms:List (Tm (N+1))} {xs:List (Wd×Tm (N+1))} {nk:Nat} {M:Nat->Prop} {w:World} {ws:List Wd} {nm:List ByteArray} {sv:Wd} {vs:List Wd} {ma:Option Addr} {mc:Nat} {Mh:Nat->Prop}
theorem cC.kept(a:cC base pb name room (N+1) s ms xs nk M w ws nm sv vs ma mc Mh){S:Nat->Prop}{w1:World}(k:bP S w w1)(g:∀b,M b->b<w.heap.size->¬S b):cC base pb name room (N+1) s ms xs nk M w1 ws nm sv vs ma mc Mh:=by
 refine⟨a.heap.kept k λb m c=>g b (a.inM b m) c,?_,a.has,a.len,a.names,a.inM,a.mailM⟩;rcases a.mail with i|⟨d,n,h,e,j,f,l⟩
 ·exact ah i
 ·have c:=(aD.1 f).1;exact ai ⟨d,n,h,e,j,(k.block d c (g d (a.mailM _ e) c)).trans f,l⟩
theorem cC.mono(a:cC base pb name room (N+1) s ms xs nk M w ws nm sv vs ma mc Mh){M':Nat->Prop}{nk':Nat}(c:∀b,M b->M' b)(g:nk<=nk'):cC base pb name room (N+1) s ms xs nk' M' w ws nm sv vs ma mc Mh:=
 ⟨a.heap,a.mail,a.has,a.len,ay a.names g,λb f=>c b (a.inM b f),λd e=>c _ (a.mailM d e)⟩
theorem cC.inside(a:cC base pb name room (N+1) s ms xs nk M w ws nm sv vs ma mc Mh):cC base pb name room (N+1) s ms xs nk (λb=>M b/\b<w.heap.size) w ws nm sv vs ma mc (λb=>Mh b/\b<w.heap.size):=by
 refine⟨a.heap.inside,?_,a.has,a.len,a.names,λb k=>⟨a.inM b k.1,k.2⟩,λm c=>⟨a.mailM m c,?_⟩⟩
 ·rcases a.mail with d|⟨j,l,g,e,h,f,i⟩
  ·exact ah d
  ·exact ai ⟨j,l,g,e,λn=>h n.1,f,i⟩
 ·rcases a.mail with⟨d,_⟩|⟨j,l,g,e,h,f,i⟩
  ·rw[d]at c;cases c
  ·rw[e]at c;injection c with c;rw[<-c];exact(aD.1 f).1
def xA(N:Nat)(x:Tm N)(base:Nat)(b:cq)(room:Int)(ws:List Wd)(nm:List ByteArray)(M:Nat->Prop)(v:Wd)(a:Int)(w w':World):Prop:=
 a=jx N x room ws/\(a≠0->v=(0,0)/\aj w w')/\(a=0->(bu N x=0/\aJ N x=true/\sz N x<=room-ws.length)/\v=(aU N x ws nm).1/\lD base b room (aU N x ws nm).2.1 (aU N x ws nm).2.2 M w w')
theorem yz{N:Nat}{x:Tm N}{h:cq}{e:Ending}{w w':World}(g:G7 N x base h room ws nm M w e w'):∃(v:Wd)(f:Int),e=.returned (.tuple #[.agg #[ab v.1,ab v.2],ab f])/\xA N x base h room ws nm M v f w w':=by
 by_cases a:jx N x room ws=0
 ·obtain⟨b,c,i⟩:=g.2 a;exact⟨_,0,c,a.symm,λd=>absurd rfl d,λ_=>⟨b,rfl,i⟩⟩
 ·obtain⟨b,c⟩:=g.1 a;exact⟨(0,0),_,b,rfl,λ_=>⟨rfl,c⟩,λd=>absurd d a⟩
theorem dA.nodup{c:cq}(a:dA base c room ws nm M w):nm.Nodup:=by
 obtain⟨_,_,_,_,_,b,_⟩:=a;exact b.2.1
theorem cC.put1(d:cC base pb name room (N+1) s ms [] nk M w ws nm sv vs ma mc Mh){x:Tm (N+1)}{v:Wd}{e:Int}{w':World}(y:xA (N+1) x base (PL pb name sv (ae ma vs.length mc)) room ws nm Mh v e w w'):∃C B m,cC base pb name room (N+1) s ms (if e=0 then [(v,x)]else []) (nk+201) (λb=>M b\/w.heap.size<=b) w' C B sv vs ma mc m/\bP M w w':=by
 obtain⟨D,r,t⟩:=y;by_cases f:e=0
 ·obtain⟨c,rfl,k,l⟩:=t f;rw[if_pos f];have G:=(iy (N+1) x ws nm).2;have F:=nz c.1;have E:=d.names;refine⟨_,_,λb=>Mh b\/w.heap.size<=b,⟨k,?_,?_,d.len,by omega,?_,λn u=>ah (d.mailM n u)⟩,l.mono d.inM⟩
  ·rcases d.mail with p|⟨j,A,o,e,h,i,q⟩
   ·exact ah p
   ·have z:=(aD.1 i).1;refine ai ⟨j,A,o,e,λa=>?_,(l.block j z h).trans i,q⟩;rcases a with a|a
    ·exact h a
    ·omega
  ·have:=d.has;simp only[bX,eh]at this;exact this.lay x c k.nodup
  ·intro b g;rcases g with a|a
   ·exact ah (d.inM b a)
   ·exact ai a
 ·obtain⟨_,g⟩:=r f;rw[if_neg f];exact⟨ws,nm,Mh,(d.later g).mono (λb a=>ah a) (by omega),aX g M⟩
def Og(base pb:Nat)(name:ByteArray)(room:Int)(N:Nat)(s:Tm N)(ms:List (Tm N))(x:Tm N)(nk:Nat)(M:Nat->Prop)(w:World)(e:Ending)(w':World):Prop:=
 ∃a:Wd,e=.returned (.tuple #[.agg #[ab a.1,ab a.2],ab (rQ N x room (s::ms))])/\Hid (∃j g h i d f c,cC base pb name room N s ms (if rQ N x room (s::ms)=0 then [(a,x)]else []) (nk+201) (λb=>M b\/w.heap.size<=b) w' j g h i d f c/\bP M w w')
theorem cC.put(y:cC base pb name room (N+1) s ms [] nk M w ws nm sv vs ma mc Mh)(x:Tm (N+1))(af:In w.heap.size w (N+1) x)(ax:bZ (λb=>¬M b) (N+1) x)(ap:(aw (N+1) x).length<=2097152)(G:∀b,M b->b<w.heap.size)(aM:nk<=49000)(al:ms.length<=999)(aK:base<=w.heap.size):am 109 #[aF pb,dj (N+1) x] w (Og base pb name room (N+1) s ms x nk M w):=by
 have aL:=y.len;have aN:=y.names;have ar:=y.front;obtain⟨_,_,_,aC,aQ,aD,aE,_⟩:=ar;have Z:=In.offB ax af
 have aa:∀{f:World}{D:List Wd}{B:Wd}{C:List Wd}{z:Option Addr}{A:Nat}{q P:Nat->Prop},cC base pb name room (N+1) s ms [] nk P f D nm B C z A q->bP M w f->(∀b,P b->M b\/w.heap.size<=b)->
   am 66 #[.pointer (some ⟨pb,1,none⟩),dj (N+1) x] f λE g=>∃(e:Wd)(d:Int),E=.returned (.tuple #[.agg #[ab e.1,ab e.2],ab d])/\xA (N+1) x base (PL pb name B (ae z C.length A)) room D nm q e d f g:=by
  intro f D B C z A q P r ag ao;have az:=ag.size;obtain⟨_,_,_,_,aR,aS,aT,_⟩:=r.front;have aA:In f.heap.size f (N+1) x:=(In.off (λb (c:¬M b/\b<w.heap.size)=>ag.block b c.2 c.1) Z af).mono az;have ay:bZ (λb=>¬q b) (N+1) x:=Z.mono λb c a=>by
   rcases ao b (r.inM b a)with t|t
   ·exact c.1 t
   ·have:=c.2;omega
  exact(uj (N+1) x base (PL pb name B (ae z C.length A)) room D nm q f r.heap aA ay ap (by omega) aD aE (by omega) (by omega)).mono λE g a=>yz a
 have T:∀{n:Nat}{V:Nat->Prop}{j g:World},bP V j g->(∀b,n<=b->b<n+3->b<j.heap.size->¬V b)->Up n j g:=λk aq=>⟨k.size,λb u O F=>k.block b F (aq b u O F)⟩;have Y:∀{e:Wd}{d:Int}{j g:World}{D:List Wd}{B:Wd}{C:List Wd}{z:Option Addr}{A:Nat}{q:Nat->Prop},xA (N+1) x base (PL pb name B (ae z C.length A)) room D nm q e d j g->bP q j g:=λ{e d j g D B C z A q} a=>by
  by_cases W:d=0
  ·exact(a.2.2 W).2.2.2
  ·exact aX (a.2.1 W).2 _
 refine(A1 pb x.1.1 x.1.2.1 x.1.2.2 x.2.1.1 x.2.2.length x.2.1.2 w (λe d j g=>xA (N+1) x base (PL pb name sv (ae ma vs.length mc)) room ws nm Mh e d j g)
  (λH I=>bP M w I/\H.heap.size<=I.heap.size/\∃l p i o m,cC base pb name room (N+1) s ms [] nk (λb=>M b\/H.heap.size<=b) I l nm p i o i.length m/\(l.length:Int)=((s::ms).map (sz (N+1))).sum)
  (λe d f U=>bP M w f/\w.heap.size+3<=f.heap.size/\∃l p i o m,cC base pb name room (N+1) s ms [] nk (λb=>M b\/w.heap.size+3<=b) f l nm p i o i.length m/\(l.length:Int)=((s::ms).map (sz (N+1))).sum/\xA (N+1) x base (PL pb name p (ae o i.length i.length)) room l nm m e d f U) ?_ ?_ ?_).mono ?_
 ·intro j c;refine(aa (y.later c) (aX c M) λb a=>ah a).mono ?_;rintro E g ⟨e,d,rfl,h⟩;refine⟨e,d,rfl,T (Y h) λb u _ _ a=>?_,h⟩;have:=G b (y.inM b a);omega
 ·intro aI j g H c h v aB;have X:=(h.2.1 (by decide)).2;have ad:=c.size;have O:=((y.later c).later X).kept v λb a _ t=>by
   have:=G b a;omega
  have au:bP M w H:=bP.trans ((aX c M).trans (aX X M) λ_ _ a=>a) v λb Q a=>by omega
  refine(O.tidy (by omega) al (by omega)).mono ?_;rintro E I ⟨rfl,l,p,i,o,m,F,K,S⟩;refine⟨rfl,T K λb u _ _ a=>?_,au.trans K λ_ _ a=>a,K.size,l,p,i,o,m,F,S⟩;have:=G b a;omega
 ·rintro H I f ⟨K,aO,l,p,i,o,m,F,S⟩ aB c
  have r:=(F.later c).mono (M':=λb=>M b\/w.heap.size+3<=b) (nk':=nk) (λb a=>by
   rcases a with a|a
   ·exact ah a
   ·exact ai (by omega)) (ak _)
  have L:bP M w f:=K.trans (aX c M) λ_ _ a=>a
  refine(aa r L λb a=>by
   rcases a with a|a
   ·exact ah a
   ·exact ai (by omega)).mono ?_
  rintro E U ⟨e,d,rfl,h⟩;refine⟨e,d,rfl,T (Y h) λb u O _ a=>?_,L,by have:=c.size;omega,l,p,i,o,m,r,S,h⟩;rcases r.inM b a with t|t
  ·have:=G b t;omega
  ·omega
 ·rintro E aU ⟨e,d,rfl,⟨an,j,g,c,h,v⟩|⟨aI,j,g,H,I,f,U,_,_,_,_,_,_,⟨L,aP,l,p,i,o,m,r,av,h⟩,v⟩⟩
  ·have ad:=c.size;have J:d=rQ (N+1) x room (s::ms):=by
    rw[C9 (ws:=ws) (by rw[<-h.1];exact an) aC];exact h.1
   obtain⟨l,aG,m,u,R⟩:=(y.later c).put1 h;refine⟨e,by rw[<-J],l,aG,sv,vs,ma,mc,m,?_,?_⟩
   ·rw[<-J];refine(u.kept v λb a _ t=>?_).mono (λb a=>?_) (ak _)
    ·rcases a with a|a
     ·have:=G b a;omega
     ·omega
    ·rcases a with a|a
     ·exact ah a
     ·exact ai (by omega)
   ·exact bP.trans ((aX c M).trans R λ_ _ a=>a) v λb Q a=>by omega
  ·have ad:=L.size;have J:d=rQ (N+1) x room (s::ms):=by
    rw[C8 av];exact h.1
   obtain⟨aJ,aH,aj,u,R⟩:=r.put1 h;refine⟨e,by rw[<-J],aJ,aH,p,i,o,i.length,aj,?_,?_⟩
   ·rw[<-J];refine(u.kept v λb a _ t=>?_).mono (λb a=>?_) (ak _)
    ·subst t;rcases a with(a|a)|a
     ·have:=G _ a;omega
     ·omega
     ·omega
    ·rcases a with(a|a)|a
     ·exact ah a
     ·exact ai (by omega)
     ·exact ai (by omega)
   ·refine bP.trans (L.trans R λb Q a=>?_) v λb Q a=>by omega
    rcases a with a|a
    ·exact a
    ·omega
end
theorem sK(vs:List Wd)(v:Wd):aW (vs++ [v])=aW vs++pq v:=by simp[aW]
theorem nM{P:Program}(w:World)(t ty e:TypeId)(i:TypeInfo)(y:P.underlying t=some (.slice e))(s:P.info? e=some i)(g f d l:Nat)(h:Array Value)(r:w.heap[g]?=some (.cells h e (0,0)))(a:Addr)(m c:Nat)(b:List Value)(u:b.length=m*i.size)(v:∀j k,b[j]?=some k->w.cell? (a.add j)=some k)(o:∀k∈b,k.oneCell'=true)(x:d+m<=l)(q:f+d*i.size+b.length<=h.size):(Builtin.append_ #[t,t] ty #[ae (some ⟨g,f,none⟩) d l,ae (some a) m c]).run P w= .ok (ae (some ⟨g,f,none⟩) (d+m) l) (w.setRow g (h.toList.take (f+d*i.size)++b++h.toList.drop (f+d*i.size+b.length)).toArray):=by
 have p:=run_firstCells_some (P:=P) w i.size m a m c b u v;have n:=oT P g (f+d*i.size) e b 0 h w r (by simpa using q) o;simp only[iR]at n;simp[Builtin.append_,co y,sizeOf,typeInfo,s,Builtin.lenOf,x,p,eF,n]
def qj(Mh:Nat->Prop)(ma:Option Addr)(vs:List Wd)(w:World)(d:Option Addr)(e:Nat)(w':World):Prop:=
 ju Mh d vs e w'/\bP (λb=>∃a,ma=some a/\b=a.block) w w'/\∀a,d=some a->(∃c,ma=some c/\a.block=c.block)\/a.block=w.heap.size
theorem Jo{S:Nat->Prop}(w:World)(g:Nat)(cs:Array Value)(a:∀b,b=g->S b):bP S w (w.setRow g cs):=⟨rfl,rfl,rfl,by simp,λ_ _ c=>setRow_other _ _ _ _ λe=>c (a _ e)⟩
theorem uB{Mh:Nat->Prop}{ma:Option Addr}{w:World}(a:List Wd)(C c:Nat)(d:Value)(l:d.cells.size=2)(p:c=a.length)(f:a.length<=C)(g:C<=maxLen)(h:∀b,Mh b->b<w.heap.size):qj Mh ma a w (some ⟨w.heap.size,0,none⟩) C (w.drew.alloc (.cells ((aW a).toArray++Builtin.zeroCells d.cells (C-c)) 105)):=by
 have e:∀b,b<w.heap.size->(w.drew.alloc (.cells ((aW a).toArray++Builtin.zeroCells d.cells (C-c)) 105)).heap[b]?=w.heap[b]? :=λb e=>Below.heap_alloc w.drew _ b e;have k:(w.drew.alloc (.cells ((aW a).toArray++Builtin.zeroCells d.cells (C-c)) 105)).heap[w.heap.size]?=some (.cells ((aW a).toArray++Builtin.zeroCells d.cells (C-c)) 105):=aB w.drew _;refine⟨ai ⟨w.heap.size,0,_,rfl,λm=>?_,k,f,g,?_,?_⟩,⟨rfl,rfl,rfl,?_,λb j _=>e b j⟩,λn i=>ai (congrArg Addr.block (au i).symm)⟩
 ·have:=h _ m;omega
 ·rw[Array.size_append,size_zeroCells,l,eW,cu];omega
 ·rw[List.drop_zero,Array.toList_append,jq (by rw[oO,cu];omega),oO,bC (by rw[cu];omega)]
 ·have:=gM w.drew (.cells ((aW a).toArray++Builtin.zeroCells d.cells (C-c)) 105);have o:w.drew.heap.size=w.heap.size:=rfl;omega
theorem sZ{Mh:Nat->Prop}{ma:Option Addr}{vs:List Wd}{f:Nat}{w:World}(ty:TypeId)(l:ju Mh ma vs f w)(O:vs.length<=1000)(x:∀b,Mh b->b<w.heap.size)(sa:Addr)(c:Nat)(v:Wd)(r:∀j k,(pq v)[j]?=some k->w.cell? (sa.add j)=some k):∃C D w',(Builtin.append_ #[96,96] ty #[ae ma vs.length f,ae (some sa) 1 c]).run Tryz.prog w=.ok (ae C (vs.length+1) D) w'/\qj Mh ma (vs++ [v]) w C D w':=by
 obtain⟨o,q,A,h,B⟩:=bS kH;have L:∀k∈pq v,k.oneCell'=true:=by simp[pq,Value.oneCell']
 have i:(pq v).length=2:=rfl;rcases l with⟨rfl,rfl,rfl⟩|⟨e,a,d,rfl,s,n,F,t,G,u⟩
 ·have m:=run_append_nil (P:=Tryz.prog) w 96 ty 105 o _ Tryz.underlying96 q A sa 1 c (pq v) (by rw[i,h]) r (by omega) (by omega) (by rw[B];omega);refine⟨_,_,_,m,?_⟩;have l:=uB (Mh:=Mh) (ma:=none) (w:=w) [v] (grownCap w 1 0 105) 1 (.agg #[ab 0,ab 0]) rfl rfl (grownCap_ge w 1 0 _) (grownCap_le_maxLen w 1 0 _ (by unfold maxLen;omega)) x;simpa [aW]using l
 ·have Q:=(aD.1 n).1;by_cases M:vs.length+1<=f
  ·have y:a+vs.length*o.size+(pq v).length<=d.size:=by rw[i,h];omega
   have m:=nM (P:=Tryz.prog) w 96 ty 105 o Tryz.underlying96 q e a vs.length f d n sa 1 c (pq v) (by rw[i,h]) r L M y;refine⟨_,_,_,m,ai ⟨e,a,_,rfl,s,setRow_heap w e d _ _ _ n,?_,t,?_,?_⟩,?_,λN H=>ah ⟨_,rfl,?_⟩⟩
   ·simp only[bj,aZ,iP];omega
   ·have p:d.toList.length=d.size:=ia;rw[h]at y ⊢;simp only[eW,bj,dy,eH,p];omega
   ·rw[h];have R:(d.toList.take (a+vs.length*2)).length=a+vs.length*2:=by
     have p:d.toList.length=d.size:=ia;rw[dy,p];omega
    have J:(d.toList.take (a+vs.length*2)).drop a=aW vs:=by
     rw[List.drop_take,Nat.add_sub_cancel_left];exact u
    rw[sK,mj,oH (by omega),J];have g:(vs++ [v]).length*2=(aW vs).length+2:=by
     rw[cu];simp only[bj,aZ,iP];omega
    rw[g,List.take_length_add_append,jq (by rw[i];omega),bC (by rw[i];omega)]
   ·exact Jo w e _ λb g=>⟨_,rfl,g⟩
   ·exact congrArg Addr.block (au H).symm
  ·have m:=run_append_grow (P:=Tryz.prog) w 96 ty 105 o _ Tryz.underlying96 q A ⟨e,a,none⟩ vs.length f (aW vs) (by rw[cu,h]) (λj k z=>by
     have K:ju Mh (some ⟨e,a,none⟩) vs f w:=ai ⟨e,a,d,rfl,s,n,F,t,G,u⟩;rcases K.words with g|⟨ad,g,I⟩
     ·subst g;simp[aW]at z
     ·have E:=au g;rw[E]
      exact I j k z) sa 1 c (pq v) (by rw[i,h]) r (by omega) (by omega) (growslice_fits (by omega) (by rw[B];omega))
   refine⟨_,_,_,m,?_⟩;have l:=uB (Mh:=Mh) (ma:=some ⟨e,a,none⟩) (w:=w) (vs++ [v]) (grownCap w (vs.length+1) f 105) (vs.length+1) (.agg #[ab 0,ab 0]) rfl (by simp) (by have:=grownCap_ge w (vs.length+1) f 105;simpa using this) (grownCap_le_maxLen w _ _ _ (by unfold maxLen;omega)) x;simpa [sK]using l
theorem vM{w w':World}{v x' b:Value}{o:Oper}{a:Act}{K:Act->World->Prop}{Q:Exit->Act->World->Prop}(s x:Operand)(d:o.op=.call {callee:=.builtin .append,args:= #[s,x],argTypes:= #[96,96]})(f:a.eval s=v)(g:a.eval x=x')(e:(Builtin.append_ #[96,96] o.type #[v,x']).run Tryz.prog w=.ok b w')(c:K (a.put o.dst b) w'):Oper.wp Tryz.prog o a w K Q:=by
 unfold Oper.wp execOp;simp only[d,resolve,invoke,builtin,Sem.run_bind,Sem.run_pure,mB,mq,aK,bX,f,g,e];exact c
theorem qy(g:Nat)(k i:Int)(t:ByteArray)(B:Option Addr)(D C:Nat)(L aE:Nat)(ma:Option Addr)(w:World)(E:Wd->Int->World->World->Prop)(H:Wd->World->World->Option Addr->Nat->World->Prop)(aR:g<w.heap.size)(Z:Hid (∀w1,aj w w1->w1.cell? ⟨g,7,none⟩=some (ae ma L aE)))(ad:Hid (∀w0,aj w w0->am 109 #[aF g,.agg #[ab k,ab i,af t,ae B D C]] w0 λe w1=>∃(v:Wd)(h:Int),e=.returned (.tuple #[.agg #[ab v.1,ab v.2],ab h])/\Hid (Up w.heap.size w0 w1/\E v h w0 w1)))(ag:Hid (∀v w0 w1,E v 0 w0 w1->∃q r,Hid (∀w2,aj w1 w2->w2.cell? ⟨g,7,none⟩=some (ae q L r)/\∀j,w2.frozen? ⟨g,j,none⟩=false)/\Hid (∀w2,aj w1 w2->∀(sa:Addr)(c:Nat),(∀j M,(pq v)[j]?=some M->w2.cell? (sa.add j)=some M)-> ∃m n d,(Builtin.append_ #[96,96] 96 #[ae q L r,ae (some sa) 1 c]).run Tryz.prog w2=.ok (ae m (L+1) n) d/\d.cell? ⟨g,7,none⟩=some (ae q L r)/\(∀j,d.frozen? ⟨g,j,none⟩=false)/\(∀b,w1.heap.size<=b->b<w2.heap.size->d.heap[b]?=w2.heap[b]?)/\H v w0 w2 m n d))):am 78 #[aF g,.agg #[ab k,ab i,af t,ae B D C]] w λe w'=> (20<=L->e=.returned (ab 2)/\aj w w')/\(L<20->∃(v:Wd)(h:Int)(w0 w1:World),e=.returned (ab h)/\aj w w0/\E v h w0 w1/\(h≠0->aj w1 w')/\(h=0->∃w2 m n d,aj w1 w2/\H v w0 w2 m n d/\w'=(d.setCell ⟨g,7,none⟩ (ae m (L+1) n)))):=by
 have aa:=ao (wC w (.cells #[ab k,ab i,af t,ae B D C] 30) rfl);have F:Hid (aj w (w.alloc (.cells #[ab k,ab i,af t,ae B D C] 30))/\(w.alloc (.cells #[ab k,ab i,af t,ae B D C] 30)).heap.size=w.heap.size+1):=⟨by go_grown,by simp⟩;go_enter Tryz.func78,Tryz.ntmps78;have T:=Z.out w (ap _ _);rcases Nat.lt_or_ge L 20 with au|au
 ·have aw:¬(20:Int)<=(L:Int):=by omega
  have Q:=ao (ad.out _ F.out.1);go_wp2_with fail;refine Q.out.mono ?_;rintro e w1 ⟨v,h,rfl,N⟩;have R:Hid (∃w0,aj w w0/\E v h w0 w1):=⟨_,F.out.1,N.out.2⟩;obtain⟨w0,s⟩:=R.out;replace s:=ao s;clear R N Q aa F T;by_cases K:h=0;rotate_left
  ·have aP:¬(0:Int)=h:=λe=>K e.symm;go_wp2_with fail;exact av (v:=ab h) (by simp[results,Tryz.results78,go_sem]) rfl ⟨λa=>by omega,λ_=>⟨v,h,w0,w1,rfl,s.out.1,s.out.2,λ_=>aM,λa=>absurd a K⟩⟩
  ·subst K;obtain⟨q,r,ah,ai⟩:=ag.out v w0 w1 s.out.2;have S:Hid (∃w2 f,(w2=w1.alloc (.cells #[ab v.1,ab v.2] 105)/\f=w1.heap.size)/\aj w1 w2/\w2.heap[f]?=some (.cells #[ab v.1,ab v.2] 105)/\w1.heap.size<=f):=⟨_,_,⟨rfl,rfl⟩,aM,aB _ _,ak _⟩;go_wp2_with fail;obtain⟨w2,f,⟨Y,W⟩,o⟩:=S.out;rw[<-Y,<-W];replace o:=ao o;clear Y W S;have z:Hid (∀w':World,aj w2 w'->(w'.cell? ⟨g,7,none⟩=some (ae q L r)/\∀j,w'.frozen? ⟨g,j,none⟩=false)/\w'.cell? ⟨f,0,none⟩=some (ab v.1)/\w'.cell? ⟨f,1,none⟩=some (ab v.2)):=λw' a=>by
    have A:=(a.block f (aD.1 o.out.2.1).1).trans o.out.2.1;exact⟨ah.out _ (o.out.1.trans (a.mono o.out.1.size)),ar A 0,ar A 1⟩
   obtain⟨⟨T,aL⟩,aT,aU⟩:=z.out w2 (ap _ _);have P:Hid (aj w2 w2.drew):=(ap _ _).drew;have y:Hid (aj w2 (w2.alloc (.cells #[ab v.1,ab v.2] 105)).drew):=(show Below _ _ _ by go_grown);have O:Hid (∃m n d,(Builtin.append_ #[96,96] 96 #[ae q L r,ae (some ⟨w2.heap.size,0,none⟩) 1 1]).run Tryz.prog (w2.alloc (.cells #[ab v.1,ab v.2] 105)).drew=.ok (ae m (L+1) n) d/\d.cell? ⟨g,7,none⟩=some (ae q L r)/\(∀j,d.frozen? ⟨g,j,none⟩=false)/\(d.cell? ⟨f,0,none⟩=some (ab v.1)/\d.cell? ⟨f,1,none⟩=some (ab v.2))/\∃G,aj w1 G/\H v w0 G m n d):=by
    have V:=o.out.1.trans (y.out.mono o.out.1.size);have aA:=qG w2 (.cells #[ab v.1,ab v.2] 105) rfl
    obtain⟨m,n,d,aG,aH,aI,aJ,aK⟩:=ai.out _ V ⟨w2.heap.size,0,none⟩ 1 (λj M az=>by
     rw[eF,cT];refine(ar aA j).trans ?_;rw[<-az,<-List.getElem?_toArray]
     rfl)
    have X:=(aD.1 o.out.2.1).1;have A:=(aJ f o.out.2.2 (aN X y.out.size)).trans ((y.out.block f X).trans o.out.2.1);exact⟨m,n,d,aG,aH,aI,⟨ar A 0,ar A 1⟩,_,V,aK⟩
   obtain⟨m,n,d,J,an,aq,aC,I⟩:=O.out;replace J:=ao J;replace I:=ao I;clear O;have x:w2.drew.cell? ⟨g,7,none⟩=some (ae q L r)/\w2.drew.cell? ⟨f,0,none⟩=some (ab v.1)/\w2.drew.cell? ⟨f,1,none⟩=some (ab v.2):=⟨(z.out _ P.out).1.1,(z.out _ P.out).2⟩;have al:Hid ((w2.alloc (.cells #[ab v.1,ab v.2] 105)).drew.cell? ⟨g,7,none⟩=some (ae q L r)/\(w2.alloc (.cells #[ab v.1,ab v.2] 105)).drew.cell? ⟨f,0,none⟩=some (ab v.1)/\(w2.alloc (.cells #[ab v.1,ab v.2] 105)).drew.cell? ⟨f,1,none⟩=some (ab v.2)):=⟨(z.out _ y.out).1.1,(z.out _ y.out).2⟩;refine wp_region_noPanic ?_;refine ji (λw'=>w'.cell? ⟨g,7,none⟩=some (ae q L r)/\w'.cell? ⟨f,0,none⟩=some (ab v.1)/\w'.cell? ⟨f,1,none⟩=some (ab v.2)) 10 (by kernel_rfl) ?_
   try simp only[eW]
   refine aS (i:=0) (v:= ?_) rfl (by kernel_rfl) (by kernel_rfl) (by kernel_rfl) (by kernel_rfl) (λ_ _ _ a=>a) rfl ?_ x ?_;rotate_left
   ·intro w' l
    try dsimp only at l
    go_simp
    try with_reducible rfl
   try simp only[Act.put,bT]
   refine aS (i:=1) (v:= ?_) rfl (by kernel_rfl) (by kernel_rfl) (by kernel_rfl) (by kernel_rfl) (λ_ _ _ a=>a) rfl ?_ x ?_;rotate_left
   ·intro w' l
    try dsimp only at l
    go_simp
    try with_reducible rfl
   try simp only[Act.put]
   refine aS (i:=2) (v:= ?_) rfl (by kernel_rfl) (by kernel_rfl) (by kernel_rfl) (by kernel_rfl) (λ_ _ _ a=>a) rfl ?_ x ?_;rotate_left
   ·intro w' l
    try dsimp only at l
    go_simp
    try with_reducible rfl
   try simp only[Act.put]
   refine aS (i:=3) (v:= ?_) rfl (by kernel_rfl) (by kernel_rfl) (by kernel_rfl) (by kernel_rfl) (λ_ _ _ a=>a) rfl ?_ x ?_;rotate_left
   ·intro w' l
    try dsimp only at l
    go_simp
    try with_reducible rfl
   try simp only[Act.put]
   refine aS (i:=4) (v:= ?_) rfl (by kernel_rfl) (by kernel_rfl) (by kernel_rfl) (by kernel_rfl) (λ_ _ _ a=>a) rfl ?_ x ?_;rotate_left
   ·intro w' l
    try dsimp only at l
    go_simp
    try with_reducible rfl
   try simp only[Act.put]
   refine aS (i:=5) (v:= ?_) rfl (by kernel_rfl) (by kernel_rfl) (by kernel_rfl) (by kernel_rfl) (λ_ _ _ a=>a) rfl ?_ x ?_;rotate_left
   ·intro w' l
    try dsimp only at l
    go_simp
    try with_reducible rfl
   try simp only[Act.put]
   refine cV (i:=6) (by kernel_rfl) rfl rfl (λu p=>?_) (by decide)
   go_simp
   refine p.out _ _ (λ_=>al.out) (λaQ=>?_);clear p u
   try simp only[Act.put,bT,dg,df]
   refine cV (i:=7) (by kernel_rfl) rfl rfl (λu p=>?_) (by decide);refine vM (v:=ae q L r) (x':=ae (some ⟨w2.heap.size,0,none⟩) 1 1) _ _ rfl (by simp[Act.eval]) (by simp[Act.eval]) J.out ?_;refine p.out _ _ (λ_=>⟨an,aC⟩) (λU=>?_);clear p u
   try simp only[Act.put,bT]
   refine cV (i:=8) (by kernel_rfl) rfl rfl (λu p=>?_) (by decide)
   go_simp
   refine p.out _ _ (λ_=>U) (λ_=>?_);clear p u
   try simp only[Act.put,bT,dg,df]
   refine aS (i:=9) (v:= ?_) rfl (by kernel_rfl) (by kernel_rfl) (by kernel_rfl) (by kernel_rfl) (λ_ _ _ a=>a) rfl ?_ U ?_;rotate_left
   ·intro w' l
    try dsimp only at l
    go_simp
    try with_reducible rfl
   try simp only[Act.put,bT]
   have aO:=aq 7;refine jh (by kernel_rfl) rfl rfl (by kernel_rfl) (λu p=>?_)
   go_simp
   refine p.out _ _ (NoPanic.normal ?_);clear p u
   try simp only[Act.put,bT,dg,df]
   go_wp2_with fail;obtain⟨G,ax,ay⟩:=I.out;exact av (v:=ab 0) (by simp[results,Tryz.results78,go_sem]) rfl ⟨λa=>by omega,λ_=>⟨v,0,w0,w1,rfl,s.out.1,s.out.2,λa=>absurd rfl a,λ_=>⟨G,m,n,d,ax,ay,rfl⟩⟩⟩
 ·have aw:(20:Int)<=(L:Int):=by omega
  go_wp2_with fail;exact av (v:=ab 2) (by simp[results,Tryz.results78,go_sem]) rfl ⟨λ_=>⟨rfl,F.out.1⟩,λa=>by omega⟩
section
variable {base pb:Nat} {name:ByteArray} {room:Int} {N:Nat} {s:Tm (N+1)} {ms:List (Tm (N+1))} {xs:List (Wd×Tm (N+1))} {nk:Nat} {M:Nat->Prop} {w:World} {ws:List Wd} {nm:List ByteArray} {sv:Wd} {vs:List Wd} {ma:Option Addr} {mc:Nat} {Mh:Nat->Prop}
def xU(N:Nat)(x:Tm N)(room:Int)(s:Tm N)(ms:List (Tm N)):Int:=if 20<=ms.length then 2 else rQ N x room (s::ms)
theorem cC.box0(a:cC base pb name room (N+1) s ms xs nk M w ws nm sv vs ma mc Mh):Mh pb/\pb<w.heap.size:=by
 obtain⟨f,d,e,b,_⟩:=a.heap.box;obtain⟨_,_,_,_,_,_,c,_⟩:=a.heap;exact⟨c,(PL.cells b).2.2.2.2.2⟩
theorem cC.more{v:Wd}{x:Tm (N+1)}(a:cC base pb name room (N+1) s ms [(v,x)] nk M w ws nm sv vs ma mc Mh){g:Option Addr}{h:Nat}{i:World}(C:qj Mh ma (vs++ [v]) w g h i):cC base pb name room (N+1) s (ms++ [x]) [] nk (λb=>M b\/w.heap.size<=b) (i.setCell ⟨pb,7,none⟩ (.slice g (vs++ [v]).length h)) ws nm sv (vs++ [v]) g h Mh/\bP M w (i.setCell ⟨pb,7,none⟩ (.slice g (vs++ [v]).length h)):=by
 obtain⟨E,r,F⟩:=C;obtain⟨q,G⟩:=a.box0;have D:∀d,ma=some d->¬Mh d.block:=λd c f=>by
  rcases a.mail with⟨e,_⟩|⟨m,t,o,l,j,_⟩
  ·rw[e]at c;cases c
  ·rw[l]at c;rw[<-au c]at f;exact j f
 have A:dA base (PL pb name sv (ae ma vs.length mc)) room ws nm Mh i:=a.heap.kept r λb n _ f=>by
  obtain⟨d,c,rfl⟩:=f;exact D d c n
 have k:=bk i pb 7 (.slice g (vs++ [v]).length h);refine⟨⟨A.turn k λI H mp B=>?_,?_,?_,?_,a.names,λb n=>ah (a.inM b n),λd c=>?_⟩,?_⟩
 ·unfold World.setCell;simp[bG,B]
 ·rcases E with e|⟨m,t,o,l,j,p,y⟩
  ·exact ah e
  ·exact ai ⟨m,t,o,l,j,(k.block m (aD.1 p).1 λe=>j (by rw[e];exact q)).trans p,y⟩
 ·have:=a.has;simpa using this
 ·simp[a.len]
 ·rcases F d c with⟨u,z,e⟩|e
  ·rw[e];exact ah (a.mailM u z)
  ·exact ai (by omega)
 ·refine bP.trans (r.mono λb f=>?_) k λb _ f=>?_
  ·obtain⟨d,c,rfl⟩:=f;exact a.mailM d c
  ·rw[f];exact a.inM pb q
def N8(base pb:Nat)(name:ByteArray)(room:Int)(N:Nat)(s:Tm N)(ms:List (Tm N))(x:Tm N)(nk:Nat)(M:Nat->Prop)(w:World)(e:Ending)(w':World):Prop:=
 e=.returned (ab (xU N x room s ms))/\Hid (∃i f g h c d a,cC base pb name room N s (if xU N x room s ms=0 then ms++ [x]else ms) [] (nk+201) (λb=>M b\/w.heap.size<=b) w' i f g h c d a/\bP M w w')
theorem cC.deliver(z:cC base pb name room (N+1) s ms [] nk M w ws nm sv vs ma mc Mh)(x:Tm (N+1))(ay:In w.heap.size w (N+1) x)(ap:bZ (λb=>¬M b) (N+1) x)(ag:(aw (N+1) x).length<=2097152)(L:∀b,M b->b<w.heap.size)(ao:nk<=49000)(ad:ms.length<=999)(aK:base<=w.heap.size):am 78 #[aF pb,dj (N+1) x] w (N8 base pb name room (N+1) s ms x nk M w):=by
 have aO:=z.len;obtain⟨aP,av⟩:=z.box0
 refine(qy pb x.1.1 x.1.2.1 x.1.2.2 x.2.1.1 x.2.2.length x.2.1.2 vs.length mc ma w
  (λh r p q=>r=rQ (N+1) x room (s::ms)/\bP M w q/\w.heap.size<=p.heap.size/\∃o m n i g k j,cC base pb name room (N+1) s ms (if r=0 then [(h,x)]else []) (nk+201) (λb=>(M b\/p.heap.size<=b)/\b<q.heap.size) q o m n i g k j)
  (λh p v E F G=>bP M w v/\w.heap.size<=p.heap.size/\∃o m n i g k j,cC base pb name room (N+1) s ms [(h,x)] (nk+201) (λb=>M b\/p.heap.size<=b) v o m n i g k j/\qj j g (i++ [h]) v E F G) av ?_ ?_ ?_).mono ?_
 ·intro q e;obtain⟨X,V,W,f,_⟩:=(z.later e).heap.box;exact(PL.cells f).2.2.2.1
 ·intro p e;have D:=e.size;refine((z.later e).put x ((ay.below e).mono D) ap ag (λb d=>aN (L b d) D) ao ad (by omega)).mono ?_;rintro y q ⟨h,rfl,o,m,n,i,g,k,j,f,u⟩;refine⟨h,_,rfl,⟨u.size,λb aA _ aC=>u.block b aC λd=>?_⟩,rfl,(aX e M).trans u λ_ _ d=>d,D,o,m,n,i,g,k,_,f.inside⟩;have:=L b d;omega
 ·rintro h p q ⟨J,u,T,o,m,n,i,g,k,j,f⟩;rw[if_pos rfl]at f;have aL:=f.len;have I:i.length=vs.length:=by omega
  refine⟨g,k,λv e=>?_,λv e sa c ax=>?_⟩
  ·obtain⟨X,V,W,l,_⟩:=(f.later e).heap.box;rw[I]at l;exact⟨(PL.cells l).2.2.2.1,(PL.cells l).2.2.2.2.1⟩
  ·have t:=f.later e;have D:=e.size;obtain⟨E,F,G,S,C⟩:=sZ 96 t.mail (by omega) (λb d=>aN (f.inM b d).2 D) sa c h ax;rw[I]at S;have R:∀b,(∃a,g=some a/\b=a.block)->¬j b/\b<q.heap.size:=λb d=>by
    obtain⟨a,A,rfl⟩:=d;refine⟨λZ=>?_,(f.mailM a A).2⟩;rcases f.mail with⟨y,_⟩|⟨aH,aT,aG,r,ab,_⟩
    ·rw[y]at A;cases A
    ·rw[r]at A;rw[<-au A]at Z;exact ab Z
   obtain⟨aq,ar⟩:=t.box0;have P:G.heap[pb]?=v.heap[pb]? :=C.2.1.block pb ar λd=>(R pb d).1 aq;obtain⟨X,V,W,l,_⟩:=t.heap.box;rw[I]at l;refine⟨E,F,G,S,(bt P 7).trans (PL.cells l).2.2.2.1,λU=>?_,λb aA aB=>C.2.1.block b aB λd=>?_,?_⟩
   ·exact(iS (a:=⟨pb,U,none⟩) P).trans ((PL.cells l).2.2.2.2.1 U)
   ·have:=(R b d).2;omega
   ·exact⟨u.trans (aX e M) λ_ _ d=>d,T,o,m,n,i,g,k,j,t.mono (λb d=>d.1) (ak _),C⟩
 ·rintro y aU ⟨af,l⟩;by_cases K:20<=ms.length
  ·obtain⟨rfl,e⟩:=af (by omega);have B:xU (N+1) x room s ms=2:=by simp[xU,K]
   refine⟨by rw[B],ws,nm,sv,vs,ma,mc,Mh,?_,aX e M⟩;rw[B];exact(z.later e).mono (λb d=>ah d) (by omega)
  ·obtain⟨h,r,p,q,rfl,e,⟨J,u,T,o,m,n,i,g,k,j,f⟩,an,aj⟩:=l (by omega);have B:xU (N+1) x room s ms=r:=by simp[xU,K,J]
   refine⟨by rw[B],?_⟩;rw[B];by_cases H:r=0
   ·obtain⟨v,E,F,G,aJ,⟨Q,_,aE,az,aD,Y,aR,aS,aa,t,C⟩,rfl⟩:=aj H;have aM:=t.len;have y:vs.length+1=(Y++ [h]).length:=by simp;omega
    obtain⟨ae,al⟩:=t.more C;rw[y,if_pos H];have aQ:=Q.size;refine⟨aE,az,aD,Y++ [h],E,F,aa,ae.mono (λb d=>?_) (ak _),Q.trans al λb aI d=>?_⟩
    ·rcases d with(d|d)|d
     ·exact ah d
     ·exact ai (by omega)
     ·exact ai (by omega)
    ·rcases d with d|d
     ·exact d
     ·omega
   ·have O:=an H;rw[if_neg H]at f ⊢;refine⟨o,m,n,i,g,k,j,(f.later O).mono (λb d=>?_) (ak _),u.trans (aX O M) λ_ _ d=>d⟩;rcases d.1 with d|d
    ·exact ah d
    ·exact ai (by omega)
end
theorem Gf(y:ByteArray)(k i:Int)(t:ByteArray)(l:Option Addr)(n m:Nat)(room:Int)(w:World)(q:Bool)(C:Wd->Int->World->World->Prop)(H:Hid (∀w1:World,am 64 #[af y] w1 λe w'=>e=.returned (.bool q)/\w'=w1))(Q:Hid (q=true->∀w1:World,am 41 #[af y] w1 λe w'=>e=.returned (af y)/\aj w1 w'))(P:Hid (0<=room/\room<=1000->∀w2,HB (cq.own (w.heap.size+1)) room (ae none 0 0) (ae none 0 0) (.map none) w2->w2.heap.size=w.heap.size+1+1->aj w w2->am 66 #[.pointer (some ⟨w.heap.size+1,0,none⟩),.agg #[ab k,ab i,af t,ae l n m]] w2 λe b=>∃(v:Wd)(c:Int),e=.returned (.tuple #[.agg #[ab v.1,ab v.2],ab c])/\Hid (∃tv lv mv,b.heap[w.heap.size+1]?=some (.cells #[ab room,tv,lv,mv] 103)/\C v c w2 b))):am 39 #[af y,.agg #[ab k,ab i,af t,ae l n m],ab room] w λe w'=> (q=false->e=.returned (.tuple #[.pointer none,ab 5])/\aj w w')/\(q=true->¬(0<=room/\room<=1000)->e=.returned (.tuple #[.pointer none,ab 1])/\aj w w')/\ (q=true->0<=room/\room<=1000->∃(v:Wd)(c:Int)(w2 b:World),Hid (aj w w2/\w2.heap.size=w.heap.size+1+1/\C v c w2 b)/\(c≠0->e=.returned (.tuple #[.pointer none,ab c])/\aj b w')/\ (c=0->∃(r:World)(tv lv mv:Value),e=.returned (.tuple #[aF r.heap.size,ab 0])/\aj b r/\b.heap[w.heap.size+1]?=some (.cells #[ab room,tv,lv,mv] 103)/\w'=r.alloc (.cells #[af y,ab room,tv,lv,mv,ab v.1,ab v.2,ae none 0 0] 107))):=by
 have O:=ao (wC w (.cells #[ab k,ab i,af t,ae l n m] 30) rfl);have u:Hid (aj w (w.alloc (.cells #[ab k,ab i,af t,ae l n m] 30))/\(w.alloc (.cells #[ab k,ab i,af t,ae l n m] 30)).heap.size=w.heap.size+1):=⟨by go_grown,by simp⟩;cases q with
 | false=>
  go_enter Tryz.func39,Tryz.ntmps39;go_wp2_with (go_at_call 64;refine(H.out _).mono ?_;rintro e w1 ⟨rfl,rfl⟩);exact av (v:=.tuple #[.pointer none,ab 5]) (by simp[results,Tryz.results39,go_sem]) rfl ⟨λ_=>⟨rfl,u.out.1⟩,λa=>(by cases a),λa=>(by cases a)⟩
 | true=>
  have R:=ao (Q.out rfl);go_enter Tryz.func39,Tryz.ntmps39;go_wp2_with (go_at_call 64;refine(H.out _).mono ?_;rintro e w1 ⟨rfl,rfl⟩);refine(Ld _ _).mono ?_;rintro e w2 ⟨o,g⟩;by_cases p:0<=room/\room<=1000;rotate_left
  ·obtain⟨rfl,rfl⟩:=o p;clear o g;go_wp2_with fail;exact av (v:=.tuple #[.pointer none,ab 1]) (by simp[results,Tryz.results39,go_sem]) rfl ⟨λa=>(by cases a),λ_ _=>⟨rfl,u.out.1⟩,λ_ a=>absurd a p⟩
  ·obtain⟨rfl,d⟩:=g p;clear o g;replace d:=ao d;rw[u.out.2]at d;have G:Hid (aj w w2):=u.out.1.trans (d.out.2.2.mono (fL _));have I:=ao (P.out p w2 d.out.1 d.out.2.1 G.out);have x:Hid (w2.heap[w.heap.size]?=some (.cells #[ab k,ab i,af t,ae l n m] 30)):=(d.out.2.2.block _ (by have:=u.out.2;omega)).trans O.out;have S:w2.cell? ⟨w.heap.size,0,none⟩=some (ab k):=ar x.out 0;have T:w2.cell? ⟨w.heap.size,1,none⟩=some (ab i):=ar x.out 1;have U:w2.cell? ⟨w.heap.size,2,none⟩=some (af t):=ar x.out 2;have V:w2.cell? ⟨w.heap.size,3,none⟩=some (ae l n m):=ar x.out 3;go_wp2_with fail;refine I.out.mono ?_;rintro e b ⟨v,c,rfl,F⟩;obtain⟨tv,lv,mv,s,z⟩:=F.out;replace s:=ao s;replace z:=ao (show aj w w2/\w2.heap.size=w.heap.size+1+1/\C v c w2 b from⟨G.out,d.out.2.1,z⟩);clear F I S T U V x d;by_cases E:c=0;rotate_left
   ·have W:¬(0:Int)=c:=λe=>E e.symm;go_wp2_with fail;exact av (v:=.tuple #[.pointer none,ab c]) (by simp[results,Tryz.results39,go_sem]) rfl ⟨λa=>(by cases a),λ_ a=>absurd p a,λ_ _=>⟨v,c,w2,b,z,λ_=>⟨rfl,aM⟩,λa=>absurd a E⟩⟩
   ·subst E;go_wp2_with fail;have J:Hid (∃j h,(j=b.alloc (.cells #[ab v.1,ab v.2] 105)/\h=b.heap.size)/\aj b j/\j.heap[h]?=some (.cells #[ab v.1,ab v.2] 105)):=⟨_,_,⟨rfl,rfl⟩,aM,aB _ _⟩;obtain⟨j,h,⟨N,M⟩,f⟩:=J.out;rw[<-N,<-M];replace f:=ao f;clear N M J;have B:Hid (∀w':World,aj j w'->w'.cell? ⟨w.heap.size+1,0,none⟩=some (ab room)/\w'.cell? ⟨w.heap.size+1,1,none⟩=some tv/\w'.cell? ⟨w.heap.size+1,2,none⟩=some lv/\w'.cell? ⟨w.heap.size+1,3,none⟩=some mv/\w'.cell? ⟨h,0,none⟩=some (ab v.1)/\w'.cell? ⟨h,1,none⟩=some (ab v.2)):=λw' a=>by
     have o:=(a.block h (aD.1 f.out.2).1).trans f.out.2;have L:=(aD.1 s.out).1;have g:=(a.block _ (aN L f.out.1.size)).trans ((f.out.1.block _ L).trans s.out);exact⟨ar g 0,ar g 1,ar g 2,ar g 3,ar o 0,ar o 1⟩
    obtain⟨X,Y,Z,aa,ad,ag⟩:=B.out j (ap _ _);have D:Hid (aj j j.drew):=(ap _ _).drew
    go_region_held3 (λw'=>w'.cell? ⟨w.heap.size+1,0,none⟩=some (ab room)/\w'.cell? ⟨w.heap.size+1,1,none⟩=some tv/\w'.cell? ⟨w.heap.size+1,2,none⟩=some lv/\w'.cell? ⟨w.heap.size+1,3,none⟩=some mv/\w'.cell? ⟨h,0,none⟩=some (ab v.1)/\w'.cell? ⟨h,1,none⟩=some (ab v.2)) (first|(go_keep;done)|with_reducible exact B.out _ D.out|exact B.out _ A.out|exact B.out _ (A.out.trans (aM.mono A.out.size)))
     ((go_at_call 41;refine(R.out _).mono ?_;rintro e r ⟨rfl,K⟩;have A:=ao (D.out.trans (K.mono D.out.size));clear K))
    go_wp2_with fail;exact av (v:=.tuple #[aF r.heap.size,ab 0]) (by simp[results,Tryz.results39,go_sem]) rfl ⟨λa=>(by cases a),λ_ a=>absurd p a,λ_ _=>⟨v,0,w2,b,z,λa=>absurd rfl a,λ_=>⟨r,tv,lv,mv,rfl,f.out.1.trans (A.out.mono f.out.1.size),s.out,rfl⟩⟩⟩
def fT(N:Nat)(x:Tm N)(room:Int)(name:ByteArray):Int:=if dG name=false then 5 else if¬(0<=room/\room<=1000)then 1 else jx N x room []
def NC(N:Nat)(x:Tm N)(room:Int)(name:ByteArray)(w:World)(e:Ending)(w':World):Prop:=
 (fT N x room name≠0->e=.returned (.tuple #[.pointer none,ab (fT N x room name)])/\aj w w')/\
 (fT N x room name=0->∃a,e=.returned (.tuple #[aF a,ab 0])/\Hid (w.heap.size<=a/\aj w w'/\∃g d f c,cC w.heap.size a name room N x [] [] 201 (λb=>w.heap.size<=b/\b<w'.heap.size) w' g d f [] none 0 c))
theorem wu{s:ByteArray}(a:dG s=true):s.size<=2048:=by
 simp only[dG,qd,aA,bU]at a;omega
theorem In.offBelow{B:Nat}{w:World}:{n:Nat}->{x:Tm n}->In B w n x->bZ (λb=>b<B) n x
 | 0,_,k=>k
 | _+1,_,k=>by
  obtain⟨_,a⟩:=k;rcases a with a|⟨b,o,e,c,a⟩
  ·exact ah a
  ·exact ai ⟨b,o,e,c,λi y d=>(a i y d).2.offBelow⟩
theorem AY(N:Nat)(x:Tm (N+1))(room:Int)(name:ByteArray)(w:World)(az:name.size<=9223372036854775807)(O:In w.heap.size w (N+1) x)(al:(aw (N+1) x).length<=2097152):am 39 #[af name,dj (N+1) x,ab room] w (NC (N+1) x room name w):=by
 refine(Gf name x.1.1 x.1.2.1 x.1.2.2 x.2.1.1 x.2.2.length x.2.1.2 room w (dG name) (λe l o p=>aj w p/\xA (N+1) x w.heap.size (cq.own (w.heap.size+1)) room [] [] (λb=>b=w.heap.size+1) e l o p) ?_ ?_ ?_).mono ?_
 ·intro D;exact iw name D az
 ·intro a D;exact dH name D (wu a)
 ·intro d o H aK m;have s:=m.size;have ad:dA w.heap.size (cq.own (w.heap.size+1)) room [] [] (λb=>b=w.heap.size+1) o:=⟨ae none 0 0,ae none 0 0,.map none,H,en _ _ _ _,⟨en _ _ _ _,by simp,ah ⟨rfl,rfl,rfl⟩⟩,rfl,λb f=>by simp[Value.ownBlock]at f,λb f=>by simp[Value.ownBlock]at f,λb f=>by simp[mapBlock]at f⟩;refine(uj (N+1) x w.heap.size (cq.own (w.heap.size+1)) room [] [] (λb=>b=w.heap.size+1) o ad ((O.below m).mono s) ((In.offBelow O).mono λb c f=>by omega) al s d.1 d.2 (by simp) (by simp)).mono ?_;intro f p ax;obtain⟨e,l,rfl,i⟩:=yz ax;have I:∀{E:Nat->Prop},bP E o p->(∀b,E b->w.heap.size<=b)->aj w p:=λk an=>⟨k.os.trans m.os,k.tape.trans m.tape,k.output.trans m.output,ay s k.size,λb L=>(k.block b (aN L s) λc=>by have:=an b c;omega).trans (m.block b L)⟩;refine⟨e,l,rfl,?_⟩;by_cases g:l=0
  ·obtain⟨_,_,t,P⟩:=i.2.2 g;obtain⟨C,A,B,ak,_⟩:=t;exact⟨C,A,B,ak.2,I P λb c=>by omega,i⟩
  ·have n:=(i.2.1 g).2;exact⟨_,_,_,(n.block _ (by omega)).trans H.2,I (aX n λ_=>False) λb c=>c.elim,i⟩
 ·rintro f aP ⟨X,Y,Z⟩;cases hn:dG name with
  | false=>
   have h:fT (N+1) x room name=5:=by simp[fT,hn]
   refine⟨λ_=>by rw[h];exact X hn,λa=>by rw[h]at a;cases a⟩
  | true=>
   by_cases d:0<=room/\room<=1000;rotate_left
   ·have h:fT (N+1) x room name=1:=by simp[fT,hn,d]
    refine⟨λ_=>by rw[h];exact Y hn d,λa=>by rw[h]at a;cases a⟩
   ·obtain⟨e,l,o,p,Q,d1,aa⟩:=Z hn d;obtain⟨aH,aL,n,i⟩:=Q.out;have h:fT (N+1) x room name=l:=by rw[i.1];simp[fT,hn,d]
    have M:=n.size;rw[NC,h];refine⟨λg=>⟨(d1 g).1,n.trans ((d1 g).2.mono M)⟩,λg=>?_⟩;obtain⟨j,C,A,B,rfl,r,J,rfl⟩:=aa g;have aJ:=r.size;obtain⟨K,aA,t,P⟩:=i.2.2 g;have ar:=t.nodup;have ag:=(t.later r);obtain⟨y,u,v,R,S,T,aG,U,V,W⟩:=ag;have ap:=(aD.1 J).1;have F:(Obj.cells #[ab room,y,u,v] 103)=(Obj.cells #[ab room,C,A,B] 103):=au (R.2.symm.trans ((r.block _ ap).trans J));simp only[Obj.cells.injEq,Array.mk.injEq,List.cons.injEq,and_true,true_and]at F;obtain⟨rfl,rfl,rfl⟩:=F;have z:aj j (j.alloc (.cells #[af name,ab room,y,u,v,ab e.1,ab e.2,ae none 0 0] 107)):=aM;have aC:(j.alloc (.cells #[af name,ab room,y,u,v,ab e.1,ab e.2,ae none 0 0] 107)).heap.size=j.heap.size+1:=by simp
    refine⟨j.heap.size,rfl,by omega,(n.trans (r.mono M)).trans (z.mono (by omega)),(aU (N+1) x [] []).2.1,(aU (N+1) x [] []).2.2,e,λb=>b=j.heap.size\/(w.heap.size<=b/\b<j.heap.size),?_⟩;have ao:jI (N+1) [] [] room [] ([]:List (Tm (N+1))):=⟨⟨rfl,λaO e aE a=>by simp at a⟩,by simp,λaE a=>by simp at a,by simp,by simp;exact d.1,d.1,d.2,by simp⟩;have aq:=ao.lay x K ar;have av:=(iy (N+1) x [] []).2;have aI:=nz K.1;simp only[iP]at av;refine⟨⟨y,u,v,⟨⟨rfl,ai rfl⟩,aB _ _⟩,dO S (aX z λ_=>False) (λ_ _ c=>c),T.kept (aX z λ_=>False) (λ_ _ c=>c) (λ_ _ c=>c),ah rfl,λb c=>ai ?_,λb c=>ai ?_,λb c=>ai ?_⟩,ah ⟨rfl,rfl,rfl⟩,?_,rfl,by omega,λb c=>?_,λaF a=>by cases a⟩
    ·have a:=U b c;have G:=a.2;rcases a.1 with q|q<;>exact⟨by omega,by omega⟩
    ·have a:=V b c;have G:=a.2;rcases a.1 with q|q<;>exact⟨by omega,by omega⟩
    ·have a:=W b c;have G:=a.2;rcases a.1 with q|q<;>exact⟨by omega,by omega⟩
    ·rw[aA];exact aq
    ·rw[aC];rcases c with c|c<;>exact⟨by omega,by omega⟩
def tw(w:World)(c:Nat)(a b:Int):World:=(w.setCell ⟨c,5,none⟩ (ab a)).setCell ⟨c,6,none⟩ (ab b)
def N6(b d e:Nat)(g t1:Int)(t2:ByteArray)(h:Option Addr)(j i:Nat)(s0 s1:Int)(f:ByteArray)(sa:Option Addr)(sl sc:Nat)(W:World):Prop:=
 W.heap[d]?=some (.cells #[ab g,ab t1,af t2,ae h j i] 30)/\W.heap[e]?=some (.cells #[ab s0,ab s1,af f,ae sa sl sc] 30)/\(∃a,W.cell? ⟨b,5,none⟩=some (ab a))/\(∃a,W.cell? ⟨b,6,none⟩=some (ab a))/\∀c,W.frozen? ⟨b,c,none⟩=false
theorem zC(m t1:Int)(t2:ByteArray)(n:Option Addr)(q o:Nat)(c:Nat)(w:World)(S:Int->Int->ByteArray->Option Addr->Nat->Nat->World->Prop)(P1:World->Wd->Int->World->Prop)(R:Bool->World->Prop)(aK:Hid (∀W,aj w W->am 24 #[aF c] W λe w'=>∃s0 s1 h sa sl sc,e=.returned (.agg #[ab s0,ab s1,af h,ae sa sl sc])/\Hid (aj W w'/\S s0 s1 h sa sl sc w')))(aE:Hid (∀W,aj w W->(∃a,W.cell? ⟨c,5,none⟩=some (ab a))/\(∃a,W.cell? ⟨c,6,none⟩=some (ab a))/\(∀j,W.frozen? ⟨c,j,none⟩=false)/\c<w.heap.size))(aJ:Hid (∀s0 s1 h sa sl sc aR I g i,S s0 s1 h sa sl sc aR->aj aR I->aj w I->w.heap.size<=g->w.heap.size<=i->N6 c g i m t1 t2 n q o s0 s1 h sa sl sc (tw I c 1 0)->am 109 #[aF c,.agg #[ab m,ab t1,af t2,ae n q o]] (tw I c 1 0) λe w'=>∃(v:Wd)(s:Int),e=.returned (.tuple #[.agg #[ab v.1,ab v.2],ab s])/\Hid (N6 c g i m t1 t2 n q o s0 s1 h sa sl sc w'/\P1 I v s w'/\ (s=0->∀W,aj w' W->R true (tw W c v.1 v.2))/\ (s≠0->∀W d,aj w' W->w'.heap.size<=d->d<W.heap.size->am 109 #[aF c,.agg #[ab s0,ab s1,af h,ae sa sl sc]] W λe M=>∃(v2:Wd)(aS:Int),e=.returned (.tuple #[.agg #[ab v2.1,ab v2.2],ab aS])/\Hid ((∀a7,W.heap[d]?=some a7->M.heap[d]?=some a7)/\((∃a,M.cell? ⟨c,5,none⟩=some (ab a))/\(∃a,M.cell? ⟨c,6,none⟩=some (ab a))/\∀j,M.frozen? ⟨c,j,none⟩=false)/\∀aQ,bq (λb=>b=d) M aQ->R false (tw aQ c v2.1 v2.2)))))):am 104 #[aF c,.agg #[ab m,ab t1,af t2,ae n q o]] w λe w'=>∃t,e=.returned (.bool t)/\Hid (R t w'):=by
 have aM:Hid (∃Z l,(Z=w.alloc (.cells #[ab m,ab t1,af t2,ae n q o] 30)/\l=w.heap.size)/\aj w Z/\Z.heap[l]?=some (.cells #[ab m,ab t1,af t2,ae n q o] 30)/\w.heap.size<=l):=⟨_,_,⟨rfl,rfl⟩,(ap _ _).alloc (ak _) _,aB _ _,ak _⟩;go_enter Tryz.func104,Tryz.ntmps104;go_wp2_with fail;obtain⟨Z,g,⟨a3,a2⟩,aU,K,aZ⟩:=aM.out;rw[<-a3,<-a2];have ad:=ao aU;have y:=ao K;have aG:=ao aZ;clear a3 a2 aU K aZ aM;refine(aK.out _ ad.out).mono ?_;rintro e aa ⟨s0,s1,h,sa,sl,sc,rfl,N⟩;have P:=ao (ad.out.trans (N.out.1.mono ad.out.size));have aN:Hid (∃k l,(k=aa.alloc (.cells #[ab s0,ab s1,af h,ae sa sl sc] 30)/\l=aa.heap.size)/\aj aa k/\k.heap[l]?=some (.cells #[ab s0,ab s1,af h,ae sa sl sc] 30)/\w.heap.size<=l/\k.heap[g]?=some (.cells #[ab m,ab t1,af t2,ae n q o] 30)):=by
  have bf:=(aD.1 y.out).1;have aT:=(N.out.1.block g bf).trans y.out;exact⟨_,_,⟨rfl,rfl⟩,(ap _ _).alloc (ak _) _,aB _ _,P.out.size,(((ap _ _).alloc (ak _) _).block g (aD.1 aT).1).trans aT⟩
 have aL:=ao N.out.2;clear N aK y;go_upto_region 2 with fail;obtain⟨k,i,⟨a4,u⟩,ax,aW,a0,K⟩:=aN.out;rw[<-a4,<-u];have ai:=ao (P.out.trans (ax.mono P.out.size));have aC:=ao ax;have an:=ao aW;have y:=ao K;have aH:=ao a0;clear a4 u ax aW a0 K aN;obtain⟨⟨bm,ba⟩,⟨bn,bb⟩,U,bs⟩:=aE.out k ai.out;have aq:=U 5;have ar:=U 6;have x:Hid (N6 c g i m t1 t2 n q o s0 s1 h sa sl sc (tw k c 1 0)):=by
  have aY:bq (λb=>b=c) k (tw k c 1 0):=bq.trans (bz k c 5 _) (bz _ c 6 _) λ_ _ e=>e;refine⟨(aY.block g (aD.1 y.out).1 (by have:=aG.out;omega)).trans y.out,(aY.block i (aD.1 an.out).1 (by have:=aH.out;omega)).trans an.out,⟨1,?_⟩,⟨0,?_⟩,λj=>?_⟩
  ·exact(dp 5 (by decide)).trans (gL _ _ _ ba)
  ·exact gL _ _ _ ((dp 6 (by decide)).trans bb)
  ·unfold tw;rw[gA,gA];exact U j
 have al:=ao (aJ.out s0 s1 h sa sl sc aa k g i aL.out aC.out ai.out aG.out aH.out x.out);clear aJ U aE;go_upto_region 3 with fail;obtain⟨F,X⟩:∃F,F=tw k c 1 0:=⟨_,rfl⟩;rw[<-X]at al x;unfold tw at X;rw[<-X];have bi:F.cell? ⟨g,0,none⟩=some (ab m):=ag x.out.1 0;have bj:F.cell? ⟨g,1,none⟩=some (ab t1):=ag x.out.1 1;have bk:F.cell? ⟨g,2,none⟩=some (af t2):=ag x.out.1 2;have bl:F.cell? ⟨g,3,none⟩=some (ae n q o):=ag x.out.1 3;clear X ba bb aq ar y an ai aC P aL x;go_wp2_with fail;refine al.out.mono ?_;rintro e G ⟨v,s,rfl,r⟩;have aO:Hid (∃f l,(f=G.alloc (.cells #[ab v.1,ab v.2] 105)/\l=G.heap.size)/\aj G f/\f.heap[l]?=some (.cells #[ab v.1,ab v.2] 105)/\G.heap.size<=l):=⟨_,_,⟨rfl,rfl⟩,(ap _ _).alloc (ak _) _,aB _ _,ak _⟩;go_upto_region 4 with fail;obtain⟨f,d,⟨a5,A⟩,aV,aX,a1⟩:=aO.out;rw[<-a5,<-A];have D:=ao aV;have T:=ao aX;have aI:=ao a1;clear a5 A aV aX a1 aO bi bj bk bl al;have Q:Hid (c<G.heap.size):=by
  obtain⟨a,aw⟩:=r.out.1.2.2.1;exact jt G ⟨c,5,none⟩ aw
 have bc:Hid ((∃a,f.cell? ⟨c,5,none⟩=some (ab a))/\(∃a,f.cell? ⟨c,6,none⟩=some (ab a))/\∀j,f.frozen? ⟨c,j,none⟩=false):=by
  obtain⟨_,_,⟨a,aw⟩,⟨b,be⟩,z⟩:=r.out.1;refine⟨⟨a,(D.out.cell (p:=⟨c,5,none⟩) Q.out).trans aw⟩,⟨b,(D.out.cell (p:=⟨c,6,none⟩) Q.out).trans be⟩,λj=>?_⟩;have z:=z j;unfold World.frozen? at z ⊢;rw[D.out.block c Q.out];exact z
 have bo:f.cell? ⟨d,0,none⟩=some (ab v.1):=ag T.out 0;have bp:f.cell? ⟨d,1,none⟩=some (ab v.2):=ag T.out 1;by_cases J:s=0
 ·have H:=ao (r.out.2.2.1 J f D.out);unfold tw at H;obtain⟨⟨a,Y⟩,⟨b,az⟩,E⟩:=bc.out;have aq:=E 5;have ar:=E 6;clear E r;subst J;go_wp2_with fail
  go_ret
  exact⟨true,rfl,H.out⟩
 ·have br:¬(0:Int)=s:=λe=>J e.symm;have bd:=ao (r.out.2.2.2 J f d D.out aI.out (aD.1 T.out).1);have u:=(D.out.block i (aD.1 r.out.1.2.1).1).trans r.out.1.2.1;have bv:f.cell? ⟨i,0,none⟩=some (ab s0):=ag u 0;have bw:f.cell? ⟨i,1,none⟩=some (ab s1):=ag u 1;have bx:f.cell? ⟨i,2,none⟩=some (af h):=ag u 2;have bA:f.cell? ⟨i,3,none⟩=some (ae sa sl sc):=ag u 3;clear u r;go_wp2_with fail;refine bd.out.mono ?_;rintro e B ⟨v2,aS,rfl,O⟩;have A:=O.out.1 _ T.out;have a8:B.cell? ⟨d,0,none⟩=some (ab v.1):=ag A 0;have a9:B.cell? ⟨d,1,none⟩=some (ab v.2):=ag A 1;have aA:∀j,B.frozen? ⟨d,j,none⟩=false:=λj=>by simp[World.frozen?,A]
  have bg:=aA 0;have bh:=aA 1;have aP:Hid (∃C,C=(B.setCell ⟨d,0,none⟩ (ab v2.1)).setCell ⟨d,1,none⟩ (ab v2.2)/\(C.cell? ⟨d,0,none⟩=some (ab v2.1)/\C.cell? ⟨d,1,none⟩=some (ab v2.2))/\bq (λb=>b=d) B C):=by
   refine⟨_,rfl,⟨?_,?_⟩,bq.trans (bz B d 0 _) (bz _ d 1 _) λ_ _ e=>e⟩
   ·exact(dp 0 (by decide)).trans (gL _ _ _ a8)
   ·exact gL _ _ _ ((dp 1 (by decide)).trans a9)
  clear aA A;go_upto_region 6 with fail;obtain⟨C,a6,⟨y0,y1⟩,L⟩:=aP.out;rw[<-a6];have H:=ao (O.out.2.2 C L);unfold tw at H;obtain⟨⟨a,Y⟩,⟨b,az⟩,E⟩:=O.out.2.1;have V:=jt B ⟨c,5,none⟩ Y;have ay:c≠d:=by have:=Q.out;have:=aI.out;omega
  have bt:=(L.cell 5 V ay).trans Y;have bu:=(L.cell 6 V ay).trans az;have au:∀j,C.frozen? ⟨c,j,none⟩=false:=λj=>by
   have z:=E j;unfold World.frozen? at z ⊢;rw[L.block c V ay];exact z
  have aq:=au 5;have ar:=au 6;clear a6 aP L Y az E au O a8 a9 bg bh V;go_wp2_with fail;exact av (v:=.bool (s==0)) (by simp[results,Tryz.results104,go_sem]) rfl (ah ⟨bL (by simpa using J),H.out⟩)
end Go.Proofs.YtckamaoibonjcaaGreat
