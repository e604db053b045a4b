/- What is proved here: plain facts and contracts that the claimed theorem stands on. No condition but those that each names. -/
import Derived.Test.YtmbjgiaebneodaaGreatG21
namespace Go.Proofs.YtmbjgiaebneodaaGreat
open Go.RowKit
set_option maxHeartbeats 2000000
theorem je.lay{N:Nat}{ws:List Wd}{nm:List ByteArray}{room:Int}{i:List Wd}{q:List (Tm N)}(t:je N ws nm room i q)(x:Tm N)(j:bv N x=0/\aF N x=true/\sz N x<=room-ws.length)(y:(aN N x ws nm).2.2.Nodup):je N (aN N x ws nm).2.1 (aN N x ws nm).2.2 room (i++ [(aN N x ws nm).1]) (q++ [x]):=by
 obtain⟨e,A,B,K,L,C,D,M⟩:=t;have n:=nb j.1;obtain⟨p,F⟩:=kN N x ws nm;have z:=fN N x ws nm n;have m:=vV N x ws nm n;have J:=(gN N x ws nm).1;have l:∀c∈i,nw (aN N x ws nm).2.1 N c=nw ws N c/\∀E∈nw ws N c,E<ws.length:=λc h=>by
  obtain⟨f,_,o⟩:=e.mem h;exact⟨pN p N f c o,wk N f c o⟩
 refine⟨⟨by simp[e.1],λk G f d a=>?_⟩,?_,λf a=>?_,?_,by omega,C,D,y⟩
 ·rcases Nat.lt_or_ge k i.length with g|g
  ·rw[cV g]at d;rw[cV (by rw[<-e.1];exact g)]at a;exact(e.2 k G f d a).mono p F
  ·rw[dM g]at d;rw[dM (by rw[<-e.1];exact g)]at a;have s:k-i.length=0:=by
    have:=(aK.1 d).1;simp at this;omega
   rw[<-e.1]at a;rw[s]at d a;simp only[cE,jH]at d a;rw[<-d,<-a];exact z
 ·rw[jA,lH (λc h=>(l c h).1)];simp only[bj,List.flatMap_nil,dL];refine eL.2 ⟨A,m.1,λr u b w=>?_⟩;obtain⟨c,h,v⟩:=iH.1 u;have H:=(l c h).2 r v;have I:=m.2 b w;omega
 ·rcases dp.1 a with a|a
  ·exact B f a
  ·rw[ed.1 a];exact⟨j.1,j.2.1⟩
 ·simp only[gu,List.sum_append,aJ,bP,br,iI];omega
def qy(N:Nat)(x:Tm N)(room:Int)(a:List (Tm N)):Int:=if bv N x≠0 then bv N x else if aF N x=false then 5 else if (a.map (sz N)).sum+sz N x<=room then 0 else 6
theorem A8{N:Nat}{x:Tm N}{room:Int}{ws:List Wd}{e:List (Tm N)}(c:ip N x room ws≠6)(f:(e.map (sz N)).sum<=(ws.length:Int)):qy N x room e=ip N x room ws:=by
 unfold qy ip at*;by_cases a:bv N x≠0
 ·simp[a]
 ·by_cases b:aF N x=false
  ·simp[a,b]
  ·rw[if_neg a,if_neg b]at c;rw[if_neg a,if_neg a,if_neg b,if_neg b];by_cases d:sz N x<=room-ws.length
   ·rw[if_pos (by omega)];simp[d]
   ·simp[d]at c
theorem A7{N:Nat}{x:Tm N}{room:Int}{ws:List Wd}{a:List (Tm N)}(e:(ws.length:Int)=(a.map (sz N)).sum):qy N x room a=ip N x room ws:=by
 unfold qy ip;have b:((a.map (sz N)).sum+sz N x<=room)=(sz N x<=room-ws.length):=by rw[e];exact propext ⟨λd=>by omega,λd=>by omega⟩
 by_cases c:sz N x<=room-ws.length
 ·simp[c,b]
 ·simp[c,b]
section
variable {base pb:Nat} {name:ByteArray} {room:Int} {N:Nat} {s:Tm (N+1)} {ms:List (Tm (N+1))} {xs:List (Wd×Tm (N+1))} {nk:Nat} {M:Nat->Prop} {w:World} {ws:List Wd} {nm:List ByteArray} {sv:Wd} {vs:List Wd} {ma:Option Addr} {mc:Nat} {Mh:Nat->Prop}
theorem cd.kept(a:cd base pb name room (N+1) s ms xs nk M w ws nm sv vs ma mc Mh){S:Nat->Prop}{w1:World}(k:bC S w w1)(g:∀b,M b->b<w.heap.size->¬S b):cd base pb name room (N+1) s ms xs nk M w1 ws nm sv vs ma mc Mh:=by
 refine⟨a.heap.kept k λb m c=>g b (a.inM b m) c,?_,a.has,a.len,a.names,a.inM,a.mailM⟩;rcases a.mail with i|⟨d,n,h,e,j,f,l⟩
 ·exact ae i
 ·have c:=(aE.1 f).1;exact af ⟨d,n,h,e,j,(k.block d c (g d (a.mailM _ e) c)).trans f,l⟩
theorem cd.mono(a:cd base pb name room (N+1) s ms xs nk M w ws nm sv vs ma mc Mh){M':Nat->Prop}{nk':Nat}(c:∀b,M b->M' b)(g:nk<=nk'):cd base pb name room (N+1) s ms xs nk' M' w ws nm sv vs ma mc Mh:=
 ⟨a.heap,a.mail,a.has,a.len,au a.names g,λb f=>c b (a.inM b f),λd e=>c _ (a.mailM d e)⟩
theorem cd.inside(a:cd base pb name room (N+1) s ms xs nk M w ws nm sv vs ma mc Mh):cd base pb name room (N+1) s ms xs nk (λb=>M b/\b<w.heap.size) w ws nm sv vs ma mc (λb=>Mh b/\b<w.heap.size):=by
 refine⟨a.heap.inside,?_,a.has,a.len,a.names,λb k=>⟨a.inM b k.1,k.2⟩,λm c=>⟨a.mailM m c,?_⟩⟩
 ·rcases a.mail with d|⟨j,l,g,e,h,f,i⟩
  ·exact ae d
  ·exact af ⟨j,l,g,e,λn=>h n.1,f,i⟩
 ·rcases a.mail with⟨d,_⟩|⟨j,l,g,e,h,f,i⟩
  ·rw[d]at c;cases c
  ·rw[e]at c;injection c with c;rw[<-c];exact(aE.1 f).1
def vA(N:Nat)(x:Tm N)(base:Nat)(b:bX)(room:Int)(ws:List Wd)(nm:List ByteArray)(M:Nat->Prop)(v:Wd)(a:Int)(w w':World):Prop:=
 a=ip N x room ws/\(a≠0->v=(0,0)/\Below w.heap.size w w')/\(a=0->(bv N x=0/\aF N x=true/\sz N x<=room-ws.length)/\v=(aN N x ws nm).1/\kG base b room (aN N x ws nm).2.1 (aN N x ws nm).2.2 M w w')
theorem wv{N:Nat}{x:Tm N}{h:bX}{e:Ending}{w w':World}(g:EH N x base h room ws nm M w e w'):∃(v:Wd)(f:Int),e=.returned (.tuple #[.agg #[.int .i64 v.1,.int .i64 v.2],.int .i64 f])/\vA N x base h room ws nm M v f w w':=by
 by_cases a:ip N x room ws=0
 ·obtain⟨b,c,i⟩:=g.2 a;exact⟨_,0,c,a.symm,λd=>absurd rfl d,λ_=>⟨b,rfl,i⟩⟩
 ·obtain⟨b,c⟩:=g.1 a;exact⟨(0,0),_,b,rfl,λ_=>⟨rfl,c⟩,λd=>absurd d a⟩
theorem du.nodup{c:bX}(a:du base c room ws nm M w):nm.Nodup:=by
 obtain⟨_,_,_,_,_,b,_⟩:=a;exact b.2.1
theorem cd.put1(d:cd base pb name room (N+1) s ms [] nk M w ws nm sv vs ma mc Mh){x:Tm (N+1)}{v:Wd}{e:Int}{w':World}(y:vA (N+1) x base (PL pb name sv (.slice ma vs.length mc)) room ws nm Mh v e w w'):∃C B m,cd base pb name room (N+1) s ms (if e=0 then [(v,x)]else []) (nk+201) (λb=>M b\/w.heap.size<=b) w' C B sv vs ma mc m/\bC M w w':=by
 obtain⟨D,r,t⟩:=y;by_cases f:e=0
 ·obtain⟨c,rfl,k,l⟩:=t f;rw[if_pos f];have G:=(gN (N+1) x ws nm).2;have F:=mw c.1;have E:=d.names;refine⟨_,_,λb=>Mh b\/w.heap.size<=b,⟨k,?_,?_,d.len,by omega,?_,λn u=>ae (d.mailM n u)⟩,l.mono d.inM⟩
  ·rcases d.mail with p|⟨j,A,o,e,h,i,q⟩
   ·exact ae p
   ·have z:=(aE.1 i).1;refine af ⟨j,A,o,e,λa=>?_,(l.block j z h).trans i,q⟩;rcases a with a|a
    ·exact h a
    ·omega
  ·have:=d.has;simp only[bP,dL]at this;exact this.lay x c k.nodup
  ·intro b g;rcases g with a|a
   ·exact ae (d.inM b a)
   ·exact af a
 ·obtain⟨_,g⟩:=r f;rw[if_neg f];exact⟨ws,nm,Mh,(d.later g).mono (λb a=>ae a) (by omega),aR g M⟩
def Lu(base pb:Nat)(name:ByteArray)(room:Int)(N:Nat)(s:Tm N)(ms:List (Tm N))(x:Tm N)(nk:Nat)(M:Nat->Prop)(w:World)(e:Ending)(w':World):Prop:=
 ∃a:Wd,e=.returned (.tuple #[.agg #[.int .i64 a.1,.int .i64 a.2],.int .i64 (qy N x room (s::ms))])/\Hid (∃j g h i d f c,cd base pb name room N s ms (if qy N x room (s::ms)=0 then [(a,x)]else []) (nk+201) (λb=>M b\/w.heap.size<=b) w' j g h i d f c/\bC M w w')
theorem cd.put(y:cd base pb name room (N+1) s ms [] nk M w ws nm sv vs ma mc Mh)(x:Tm (N+1))(ad:In w.heap.size w (N+1) x)(au:cg (λb=>¬M b) (N+1) x)(am:(ap (N+1) x).length<=2097152)(G:∀b,M b->b<w.heap.size)(aI:nk<=49000)(aj:ms.length<=999)(aG:base<=w.heap.size):Calls Tryz.prog 89 #[.pointer (some ⟨pb,0,none⟩),de (N+1) x] w (Lu base pb name room (N+1) s ms x nk M w):=by
 have aH:=y.len;have aJ:=y.names;have ao:=y.front;obtain⟨_,_,_,az,aM,aA,aB,_⟩:=ao;have Z:=In.offB au ad
 have aa:∀{f:World}{D:List Wd}{B:Wd}{C:List Wd}{z:Option Addr}{A:Nat}{q P:Nat->Prop},cd base pb name room (N+1) s ms [] nk P f D nm B C z A q->bC M w f->(∀b,P b->M b\/w.heap.size<=b)->
   Calls Tryz.prog 51 #[.pointer (some ⟨pb,1,none⟩),de (N+1) x] f λE g=>∃(e:Wd)(d:Int),E=.returned (.tuple #[.agg #[.int .i64 e.1,.int .i64 e.2],.int .i64 d])/\vA (N+1) x base (PL pb name B (.slice z C.length A)) room D nm q e d f g:=by
  intro f D B C z A q P r ah al;have aw:=ah.size;obtain⟨_,_,_,_,aN,aO,aP,_⟩:=r.front;have ax:In f.heap.size f (N+1) x:=(In.off (λb (c:¬M b/\b<w.heap.size)=>ah.block b c.2 c.1) Z ad).mono aw;have av:cg (λb=>¬q b) (N+1) x:=Z.mono λb c a=>by
   rcases al b (r.inM b a)with t|t
   ·exact c.1 t
   ·have:=c.2;omega
  exact(sP (N+1) x base (PL pb name B (.slice z C.length A)) room D nm q f r.heap ax av am (by omega) aA aB (by omega) (by omega)).mono λE g a=>wv a
 have T:∀{n:Nat}{V:Nat->Prop}{j g:World},bC V j g->(∀b,n<=b->b<n+3->b<j.heap.size->¬V b)->Up n j g:=λk an=>⟨k.size,λb u O F=>k.block b F (an b u O F)⟩;have Y:∀{e:Wd}{d:Int}{j g:World}{D:List Wd}{B:Wd}{C:List Wd}{z:Option Addr}{A:Nat}{q:Nat->Prop},vA (N+1) x base (PL pb name B (.slice z C.length A)) room D nm q e d j g->bC q j g:=λ{e d j g D B C z A q} a=>by
  by_cases W:d=0
  ·exact(a.2.2 W).2.2.2
  ·exact aR (a.2.1 W).2 _
 refine(yX pb x.1.1 x.1.2.1 x.1.2.2 x.2.1.1 x.2.2.length x.2.1.2 w (λe d j g=>vA (N+1) x base (PL pb name sv (.slice ma vs.length mc)) room ws nm Mh e d j g)
  (λH I=>bC M w I/\H.heap.size<=I.heap.size/\∃l p i o m,cd base pb name room (N+1) s ms [] nk (λb=>M b\/H.heap.size<=b) I l nm p i o i.length m/\(l.length:Int)=((s::ms).map (sz (N+1))).sum)
  (λe d f U=>bC M w f/\w.heap.size+3<=f.heap.size/\∃l p i o m,cd base pb name room (N+1) s ms [] nk (λb=>M b\/w.heap.size+3<=b) f l nm p i o i.length m/\(l.length:Int)=((s::ms).map (sz (N+1))).sum/\vA (N+1) x base (PL pb name p (.slice o i.length i.length)) room l nm m e d f U) ?_ ?_ ?_).mono ?_
 ·intro j c;refine(aa (y.later c) (aR c M) λb a=>ae a).mono ?_;rintro E g ⟨e,d,rfl,h⟩;refine⟨e,d,rfl,T (Y h) λb u _ _ a=>?_,h⟩;have:=G b (y.inM b a);omega
 ·intro aE j g H c h v ay;have X:=(h.2.1 (by decide)).2;have ab:=c.size;have O:=((y.later c).later X).kept v λb a _ t=>by
   have:=G b a;omega
  have aq:bC M w H:=bC.trans ((aR c M).trans (aR X M) λ_ _ a=>a) v λb Q a=>by omega
  refine(O.tidy (by omega) aj (by omega)).mono ?_;rintro E I ⟨rfl,l,p,i,o,m,F,K,S⟩;refine⟨rfl,T K λb u _ _ a=>?_,aq.trans K λ_ _ a=>a,K.size,l,p,i,o,m,F,S⟩;have:=G b a;omega
 ·rintro H I f ⟨K,aK,l,p,i,o,m,F,S⟩ ay c
  have r:=(F.later c).mono (M':=λb=>M b\/w.heap.size+3<=b) (nk':=nk) (λb a=>by
   rcases a with a|a
   ·exact ae a
   ·exact af (by omega)) (ag _)
  have L:bC M w f:=K.trans (aR c M) λ_ _ a=>a
  refine(aa r L λb a=>by
   rcases a with a|a
   ·exact ae a
   ·exact af (by omega)).mono ?_
  rintro E U ⟨e,d,rfl,h⟩;refine⟨e,d,rfl,T (Y h) λb u O _ a=>?_,L,by have:=c.size;omega,l,p,i,o,m,r,S,h⟩;rcases r.inM b a with t|t
  ·have:=G b t;omega
  ·omega
 ·rintro E aQ ⟨e,d,rfl,⟨ak,j,g,c,h,v⟩|⟨aE,j,g,H,I,f,U,_,_,_,_,_,_,⟨L,aL,l,p,i,o,m,r,ar,h⟩,v⟩⟩
  ·have ab:=c.size;have J:d=qy (N+1) x room (s::ms):=by
    rw[A8 (ws:=ws) (by rw[<-h.1];exact ak) az];exact h.1
   obtain⟨l,aC,m,u,R⟩:=(y.later c).put1 h;refine⟨e,by rw[<-J],l,aC,sv,vs,ma,mc,m,?_,?_⟩
   ·rw[<-J];refine(u.kept v λb a _ t=>?_).mono (λb a=>?_) (ag _)
    ·rcases a with a|a
     ·have:=G b a;omega
     ·omega
    ·rcases a with a|a
     ·exact ae a
     ·exact af (by omega)
   ·exact bC.trans ((aR c M).trans R λ_ _ a=>a) v λb Q a=>by omega
  ·have ab:=L.size;have J:d=qy (N+1) x room (s::ms):=by
    rw[A7 ar];exact h.1
   obtain⟨aF,aD,ai,u,R⟩:=r.put1 h;refine⟨e,by rw[<-J],aF,aD,p,i,o,i.length,ai,?_,?_⟩
   ·rw[<-J];refine(u.kept v λb a _ t=>?_).mono (λb a=>?_) (ag _)
    ·subst t;rcases a with(a|a)|a
     ·have:=G _ a;omega
     ·omega
     ·omega
    ·rcases a with(a|a)|a
     ·exact ae a
     ·exact af (by omega)
     ·exact af (by omega)
   ·refine bC.trans (L.trans R λb Q a=>?_) v λb Q a=>by omega
    rcases a with a|a
    ·exact a
    ·omega
end
theorem rq(vs:List Wd)(v:Wd):aP (vs++ [v])=aP vs++ol v:=by simp[aP]
theorem mL{P:Program}(w:World)(t ty e:TypeId)(i:TypeInfo)(y:P.underlying t=some (.slice e))(r:P.info? e=some i)(g f d k:Nat)(h:Array Value)(q:w.heap[g]?=some (.cells h e (0,0)))(a:Addr)(m c:Nat)(b:List Value)(s:b.length=m*i.size)(v:∀j u,b[j]?=some u->w.cell? (a.add j)=some u)(n:∀u∈b,u.oneCell'=true)(x:d+m<=k)(p:f+d*i.size+b.length<=h.size):(Builtin.append_ #[t,t] ty #[.slice (some ⟨g,f,none⟩) d k,.slice (some a) m c]).run P w= .ok (.slice (some ⟨g,f,none⟩) (d+m) k) (w.setRow g (h.toList.take (f+d*i.size)++b++h.toList.drop (f+d*i.size+b.length)).toArray):=by
 have o:=run_firstCells_some (P:=P) w i.size m a m c b s v;have l:=nP P g (f+d*i.size) e b 0 h w q (by simpa using p) n;simp only[iJ]at l;simp[Builtin.append_,bW y,sizeOf,typeInfo,r,Builtin.lenOf,x,o,ez,l]
def oZ(Mh:Nat->Prop)(ma:Option Addr)(vs:List Wd)(w:World)(d:Option Addr)(e:Nat)(w':World):Prop:=
 iP Mh d vs e w'/\bC (λb=>∃a,ma=some a/\b=a.block) w w'/\∀a,d=some a->(∃c,ma=some c/\a.block=c.block)\/a.block=w.heap.size
theorem Ga{S:Nat->Prop}(w:World)(g:Nat)(cs:Array Value)(a:∀b,b=g->S b):bC S w (w.setRow g cs):=⟨rfl,rfl,rfl,by simp,λ_ _ c=>setRow_other _ _ _ _ λe=>c (a _ e)⟩
theorem te{Mh:Nat->Prop}{ma:Option Addr}{w:World}(a:List Wd)(C c:Nat)(d:Value)(l:d.cells.size=2)(p:c=a.length)(f:a.length<=C)(g:C<=maxLen)(h:∀b,Mh b->b<w.heap.size):oZ Mh ma a w (some ⟨w.heap.size,0,none⟩) C (w.drew.alloc (.cells ((aP a).toArray++Builtin.zeroCells d.cells (C-c)) 119)):=by
 have e:∀b,b<w.heap.size->(w.drew.alloc (.cells ((aP a).toArray++Builtin.zeroCells d.cells (C-c)) 119)).heap[b]?=w.heap[b]? :=λb e=>Below.heap_alloc w.drew _ b e;have k:(w.drew.alloc (.cells ((aP a).toArray++Builtin.zeroCells d.cells (C-c)) 119)).heap[w.heap.size]?=some (.cells ((aP a).toArray++Builtin.zeroCells d.cells (C-c)) 119):=ay w.drew _;refine⟨af ⟨w.heap.size,0,_,rfl,λm=>?_,k,f,g,?_,?_⟩,⟨rfl,rfl,rfl,?_,λb j _=>e b j⟩,λn i=>af (congrArg Addr.block (aq i).symm)⟩
 ·have:=h _ m;omega
 ·rw[Array.size_append,size_zeroCells,l,fi,bY];omega
 ·rw[List.drop_zero,Array.toList_append,gz (by rw[nK,bY];omega),nK,bk (by rw[bY];omega)]
 ·have:=iN w.drew (.cells ((aP a).toArray++Builtin.zeroCells d.cells (C-c)) 119);have o:w.drew.heap.size=w.heap.size:=rfl;omega
theorem rH{Mh:Nat->Prop}{ma:Option Addr}{vs:List Wd}{f:Nat}{w:World}(ty:TypeId)(k:iP Mh ma vs f w)(O:vs.length<=1000)(x:∀b,Mh b->b<w.heap.size)(sa:Addr)(c:Nat)(v:Wd)(q:∀j u,(ol v)[j]?=some u->w.cell? (sa.add j)=some u):∃C D w',(Builtin.append_ #[123,123] ty #[.slice ma vs.length f,.slice (some sa) 1 c]).run Tryz.prog w=.ok (.slice C (vs.length+1) D) w'/\oZ Mh ma (vs++ [v]) w C D w':=by
 obtain⟨n,p,A,h,B⟩:=bN jP;have L:∀u∈ol v,u.oneCell'=true:=by simp[ol,Value.oneCell']
 have i:(ol v).length=2:=rfl;rcases k with⟨rfl,rfl,rfl⟩|⟨e,a,d,rfl,r,m,F,s,G,t⟩
 ·have l:=run_append_nil (P:=Tryz.prog) w 123 ty 119 n _ Tryz.underlying123 p A sa 1 c (ol v) (by rw[i,h]) q (by omega) (by omega) (by rw[B];omega);refine⟨_,_,_,l,?_⟩;have k:=te (Mh:=Mh) (ma:=none) (w:=w) [v] (grownCap w 1 0 119) 1 (.agg #[.int .i64 0,.int .i64 0]) rfl rfl (grownCap_ge w 1 0 _) (grownCap_le_maxLen w 1 0 _ (by unfold maxLen;omega)) x;simpa [aP]using k
 ·have Q:=(aE.1 m).1;by_cases M:vs.length+1<=f
  ·have y:a+vs.length*n.size+(ol v).length<=d.size:=by rw[i,h];omega
   have l:=mL (P:=Tryz.prog) w 123 ty 119 n Tryz.underlying123 p e a vs.length f d m sa 1 c (ol v) (by rw[i,h]) q L M y;refine⟨_,_,_,l,af ⟨e,a,_,rfl,r,setRow_heap w e d _ _ _ m,?_,s,?_,?_⟩,?_,λN H=>ae ⟨_,rfl,?_⟩⟩
   ·simp only[aW,aZ,lf];omega
   ·have o:d.toList.length=d.size:=gn;rw[h]at y ⊢;simp only[fi,aW,dn,eC,o];omega
   ·rw[h];have R:(d.toList.take (a+vs.length*2)).length=a+vs.length*2:=by
     have o:d.toList.length=d.size:=gn;rw[dn,o];omega
    have J:(d.toList.take (a+vs.length*2)).drop a=aP vs:=by
     rw[List.drop_take,Nat.add_sub_cancel_left];exact t
    rw[rq,gY,nF (by omega),J];have g:(vs++ [v]).length*2=(aP vs).length+2:=by
     rw[bY];simp only[aW,aZ,lf];omega
    rw[g,List.take_length_add_append,gz (by rw[i];omega),bk (by rw[i];omega)]
   ·exact Ga w e _ λb g=>⟨_,rfl,g⟩
   ·exact congrArg Addr.block (aq H).symm
  ·have l:=run_append_grow (P:=Tryz.prog) w 123 ty 119 n _ Tryz.underlying123 p A ⟨e,a,none⟩ vs.length f (aP vs) (by rw[bY,h]) (λj u z=>by
     have K:iP Mh (some ⟨e,a,none⟩) vs f w:=af ⟨e,a,d,rfl,r,m,F,s,G,t⟩;rcases K.words with g|⟨ad,g,I⟩
     ·subst g;simp[aP]at z
     ·have E:=aq g;rw[E]
      exact I j u z) sa 1 c (ol v) (by rw[i,h]) q (by omega) (by omega) (growslice_fits (by omega) (by rw[B];omega))
   refine⟨_,_,_,l,?_⟩;have k:=te (Mh:=Mh) (ma:=some ⟨e,a,none⟩) (w:=w) (vs++ [v]) (grownCap w (vs.length+1) f 119) (vs.length+1) (.agg #[.int .i64 0,.int .i64 0]) rfl (by simp) (by have:=grownCap_ge w (vs.length+1) f 119;simpa using this) (grownCap_le_maxLen w _ _ _ (by unfold maxLen;omega)) x;simpa [rq]using k
theorem ur{w w':World}{v x' b:Value}{o:Oper}{a:Act}{K:Act->World->Prop}{Q:Exit->Act->World->Prop}(s x:Operand)(d:o.op=.call {callee:=.builtin .append,args:= #[s,x],argTypes:= #[123,123]})(f:a.eval s=v)(g:a.eval x=x')(e:(Builtin.append_ #[123,123] o.type #[v,x']).run Tryz.prog w=.ok b w')(c:K (a.put o.dst b) w'):Oper.wp Tryz.prog o a w K Q:=by
 unfold Oper.wp execOp;simp only[d,resolve,invoke,builtin,Sem.run_bind,Sem.run_pure,lu,lh,aJ,bP,f,g,e];exact c
theorem pq(g:Nat)(k i:Int)(t:ByteArray)(C:Option Addr)(E D:Nat)(L ax:Nat)(ma:Option Addr)(w:World)(F:Wd->Int->World->World->Prop)(I:Wd->World->World->Option Addr->Nat->World->Prop)(aK:g<w.heap.size)(Z:Hid (∀w1,Below w.heap.size w w1->w1.cell? ⟨g,7,none⟩=some (.slice ma L ax)))(ab:Hid (∀w0,Below w.heap.size w w0->Calls Tryz.prog 89 #[.pointer (some ⟨g,0,none⟩),.agg #[.int .i64 k,.int .i64 i,.string t,.slice C E D]] w0 λe w1=>∃(v:Wd)(h:Int),e=.returned (.tuple #[.agg #[.int .i64 v.1,.int .i64 v.2],.int .i64 h])/\Hid (Up w.heap.size w0 w1/\F v h w0 w1)))(ad:Hid (∀v w0 w1,F v 0 w0 w1->∃q r,Hid (∀w2,Below w1.heap.size w1 w2->w2.cell? ⟨g,7,none⟩=some (.slice q L r)/\∀j,w2.frozen? ⟨g,j,none⟩=false)/\Hid (∀w2,Below w1.heap.size w1 w2->∀(sa:Addr)(c:Nat),(∀j u,(ol v)[j]?=some u->w2.cell? (sa.add j)=some u)-> ∃m n d,(Builtin.append_ #[123,123] 123 #[.slice q L r,.slice (some sa) 1 c]).run Tryz.prog w2=.ok (.slice m (L+1) n) d/\d.cell? ⟨g,7,none⟩=some (.slice q L r)/\(∀j,d.frozen? ⟨g,j,none⟩=false)/\(∀b,w1.heap.size<=b->b<w2.heap.size->d.heap[b]?=w2.heap[b]?)/\I v w0 w2 m n d))):Calls Tryz.prog 64 #[.pointer (some ⟨g,0,none⟩),.agg #[.int .i64 k,.int .i64 i,.string t,.slice C E D]] w λe w'=> (20<=L->e=.returned (.int .i64 2)/\Below w.heap.size w w')/\(L<20->∃(v:Wd)(h:Int)(w0 w1:World),e=.returned (.int .i64 h)/\Below w.heap.size w w0/\F v h w0 w1/\(h≠0->Below w1.heap.size w1 w')/\(h=0->∃w2 m n d,Below w1.heap.size w1 w2/\I v w0 w2 m n d/\w'=(d.setCell ⟨g,7,none⟩ (.slice m (L+1) n)))):=by
 have aa:=ai (fQ w (.cells #[.int .i64 k,.int .i64 i,.string t,.slice C E D] 30) rfl);have G:Hid (Below w.heap.size w (w.alloc (.cells #[.int .i64 k,.int .i64 i,.string t,.slice C E D] 30))/\(w.alloc (.cells #[.int .i64 k,.int .i64 i,.string t,.slice C E D] 30)).heap.size=w.heap.size+1):=⟨by go_grown,by simp⟩;go_enter Tryz.func64,Tryz.ntmps64;have T:=Z.out w (ah _ _);rcases Nat.lt_or_ge L 20 with an|an
 ·have ap:¬(20:Int)<=(L:Int):=by omega
  have Q:=ai (ab.out _ G.out.1);go_wp2_with fail;refine Q.out.mono ?_;rintro e w1 ⟨v,h,rfl,N⟩;have R:Hid (∃w0,Below w.heap.size w w0/\F v h w0 w1):=⟨_,G.out.1,N.out.2⟩;obtain⟨w0,s⟩:=R.out;replace s:=ai s;clear R N Q aa G T;by_cases M:h=0;rotate_left
  ·have aI:¬(0:Int)=h:=λe=>M e.symm;go_wp2_with fail;exact ao (v:=.int .i64 h) (by simp[results,Tryz.results64,go_sem]) rfl ⟨λa=>by omega,λ_=>⟨v,h,w0,w1,rfl,s.out.1,s.out.2,λ_=>aG,λa=>absurd a M⟩⟩
  ·subst M;obtain⟨q,r,ae,af⟩:=ad.out v w0 w1 s.out.2;have S:Hid (∃w2 f,(w2=w1.alloc (.cells #[.int .i64 v.1,.int .i64 v.2] 119)/\f=w1.heap.size)/\Below w1.heap.size w1 w2/\w2.heap[f]?=some (.cells #[.int .i64 v.1,.int .i64 v.2] 119)/\w1.heap.size<=f):=⟨_,_,⟨rfl,rfl⟩,aG,ay _ _,ag _⟩;go_wp2_with fail;obtain⟨w2,f,⟨Y,W⟩,o⟩:=S.out;rw[<-Y,<-W];replace o:=ai o;clear Y W S;have A:Hid (∀w':World,Below w2.heap.size w2 w'->(w'.cell? ⟨g,7,none⟩=some (.slice q L r)/\∀j,w'.frozen? ⟨g,j,none⟩=false)/\w'.cell? ⟨f,0,none⟩=some (.int .i64 v.1)/\w'.cell? ⟨f,1,none⟩=some (.int .i64 v.2)):=λw' a=>by
    have B:=(a.block f (aE.1 o.out.2.1).1).trans o.out.2.1;exact⟨ae.out _ (o.out.1.trans (a.mono o.out.1.size)),am B 0,am B 1⟩
   obtain⟨⟨T,aF⟩,aN,aO⟩:=A.out w2 (ah _ _);have P:Hid (Below w2.heap.size w2 w2.drew):=(ah _ _).drew;have z:Hid (Below w2.heap.size w2 (w2.alloc (.cells #[.int .i64 v.1,.int .i64 v.2] 119)).drew):=(show Below _ _ _ by go_grown);have O:Hid (∃m n d,(Builtin.append_ #[123,123] 123 #[.slice q L r,.slice (some ⟨w2.heap.size,0,none⟩) 1 1]).run Tryz.prog (w2.alloc (.cells #[.int .i64 v.1,.int .i64 v.2] 119)).drew=.ok (.slice m (L+1) n) d/\d.cell? ⟨g,7,none⟩=some (.slice q L r)/\(∀j,d.frozen? ⟨g,j,none⟩=false)/\(d.cell? ⟨f,0,none⟩=some (.int .i64 v.1)/\d.cell? ⟨f,1,none⟩=some (.int .i64 v.2))/\∃H,Below w1.heap.size w1 H/\I v w0 H m n d):=by
    have V:=o.out.1.trans (z.out.mono o.out.1.size);have av:=pD w2 (.cells #[.int .i64 v.1,.int .i64 v.2] 119) rfl
    obtain⟨m,n,d,az,aA,aB,aC,aD⟩:=af.out _ V ⟨w2.heap.size,0,none⟩ 1 (λj u au=>by
     rw[ez,cQ];refine(am av j).trans ?_;rw[<-au,<-List.getElem?_toArray]
     rfl)
    have X:=(aE.1 o.out.2.1).1;have B:=(aC f o.out.2.2 (aM X z.out.size)).trans ((z.out.block f X).trans o.out.2.1);exact⟨m,n,d,az,aA,aB,⟨am B 0,am B 1⟩,_,V,aD⟩
   obtain⟨m,n,d,K,ak,al,aw,J⟩:=O.out;replace K:=ai K;replace J:=ai J;clear O;have y:w2.drew.cell? ⟨g,7,none⟩=some (.slice q L r)/\w2.drew.cell? ⟨f,0,none⟩=some (.int .i64 v.1)/\w2.drew.cell? ⟨f,1,none⟩=some (.int .i64 v.2):=⟨(A.out _ P.out).1.1,(A.out _ P.out).2⟩;have aj:Hid ((w2.alloc (.cells #[.int .i64 v.1,.int .i64 v.2] 119)).drew.cell? ⟨g,7,none⟩=some (.slice q L r)/\(w2.alloc (.cells #[.int .i64 v.1,.int .i64 v.2] 119)).drew.cell? ⟨f,0,none⟩=some (.int .i64 v.1)/\(w2.alloc (.cells #[.int .i64 v.1,.int .i64 v.2] 119)).drew.cell? ⟨f,1,none⟩=some (.int .i64 v.2)):=⟨(A.out _ z.out).1.1,(A.out _ z.out).2⟩;refine wp_region_noPanic ?_;refine iD (λw'=>w'.cell? ⟨g,7,none⟩=some (.slice q L r)/\w'.cell? ⟨f,0,none⟩=some (.int .i64 v.1)/\w'.cell? ⟨f,1,none⟩=some (.int .i64 v.2)) 10 (by kernel_rfl) ?_
   try simp only[fi]
   refine aL (i:=0) (v:= ?_) rfl (by kernel_rfl) (by kernel_rfl) (by kernel_rfl) (by kernel_rfl) (λ_ _ _ a=>a) rfl ?_ y ?_;rotate_left
   ·intro w' l
    try dsimp only at l
    go_simp
    try with_reducible rfl
   try simp only[Act.put,bM]
   refine aL (i:=1) (v:= ?_) rfl (by kernel_rfl) (by kernel_rfl) (by kernel_rfl) (by kernel_rfl) (λ_ _ _ a=>a) rfl ?_ y ?_;rotate_left
   ·intro w' l
    try dsimp only at l
    go_simp
    try with_reducible rfl
   try simp only[Act.put]
   refine aL (i:=2) (v:= ?_) rfl (by kernel_rfl) (by kernel_rfl) (by kernel_rfl) (by kernel_rfl) (λ_ _ _ a=>a) rfl ?_ y ?_;rotate_left
   ·intro w' l
    try dsimp only at l
    go_simp
    try with_reducible rfl
   try simp only[Act.put]
   refine aL (i:=3) (v:= ?_) rfl (by kernel_rfl) (by kernel_rfl) (by kernel_rfl) (by kernel_rfl) (λ_ _ _ a=>a) rfl ?_ y ?_;rotate_left
   ·intro w' l
    try dsimp only at l
    go_simp
    try with_reducible rfl
   try simp only[Act.put]
   refine aL (i:=4) (v:= ?_) rfl (by kernel_rfl) (by kernel_rfl) (by kernel_rfl) (by kernel_rfl) (λ_ _ _ a=>a) rfl ?_ y ?_;rotate_left
   ·intro w' l
    try dsimp only at l
    go_simp
    try with_reducible rfl
   try simp only[Act.put]
   refine aL (i:=5) (v:= ?_) rfl (by kernel_rfl) (by kernel_rfl) (by kernel_rfl) (by kernel_rfl) (λ_ _ _ a=>a) rfl ?_ y ?_;rotate_left
   ·intro w' l
    try dsimp only at l
    go_simp
    try with_reducible rfl
   try simp only[Act.put]
   refine cJ (i:=6) (by kernel_rfl) rfl rfl (λx p=>?_) (by decide)
   go_simp
   refine p.out _ _ (λ_=>aj.out) (λaJ=>?_);clear p x
   try simp only[Act.put,bM,cX,cW]
   refine cJ (i:=7) (by kernel_rfl) rfl rfl (λx p=>?_) (by decide);refine ur (v:=.slice q L r) (x':=.slice (some ⟨w2.heap.size,0,none⟩) 1 1) _ _ rfl (by simp[Act.eval]) (by simp[Act.eval]) K.out ?_;refine p.out _ _ (λ_=>⟨ak,aw⟩) (λU=>?_);clear p x
   try simp only[Act.put,bM]
   refine cJ (i:=8) (by kernel_rfl) rfl rfl (λx p=>?_) (by decide)
   go_simp
   refine p.out _ _ (λ_=>U) (λ_=>?_);clear p x
   try simp only[Act.put,bM,cX,cW]
   refine aL (i:=9) (v:= ?_) rfl (by kernel_rfl) (by kernel_rfl) (by kernel_rfl) (by kernel_rfl) (λ_ _ _ a=>a) rfl ?_ U ?_;rotate_left
   ·intro w' l
    try dsimp only at l
    go_simp
    try with_reducible rfl
   try simp only[Act.put,bM]
   have aH:=al 7;refine iC (by kernel_rfl) rfl rfl (by kernel_rfl) (λx p=>?_)
   go_simp
   refine p.out _ _ (NoPanic.normal ?_);clear p x
   try simp only[Act.put,bM,cX,cW]
   go_wp2_with fail;obtain⟨H,aq,ar⟩:=J.out;exact ao (v:=.int .i64 0) (by simp[results,Tryz.results64,go_sem]) rfl ⟨λa=>by omega,λ_=>⟨v,0,w0,w1,rfl,s.out.1,s.out.2,λa=>absurd rfl a,λ_=>⟨H,m,n,d,aq,ar,rfl⟩⟩⟩
 ·have ap:(20:Int)<=(L:Int):=by omega
  go_wp2_with fail;exact ao (v:=.int .i64 2) (by simp[results,Tryz.results64,go_sem]) rfl ⟨λ_=>⟨rfl,G.out.1⟩,λa=>by omega⟩
section
variable {base pb:Nat} {name:ByteArray} {room:Int} {N:Nat} {s:Tm (N+1)} {ms:List (Tm (N+1))} {xs:List (Wd×Tm (N+1))} {nk:Nat} {M:Nat->Prop} {w:World} {ws:List Wd} {nm:List ByteArray} {sv:Wd} {vs:List Wd} {ma:Option Addr} {mc:Nat} {Mh:Nat->Prop}
def vQ(N:Nat)(x:Tm N)(room:Int)(s:Tm N)(ms:List (Tm N)):Int:=if 20<=ms.length then 2 else qy N x room (s::ms)
theorem cd.box0(a:cd base pb name room (N+1) s ms xs nk M w ws nm sv vs ma mc Mh):Mh pb/\pb<w.heap.size:=by
 obtain⟨f,d,e,b,_⟩:=a.heap.box;obtain⟨_,_,_,_,_,_,c,_⟩:=a.heap;exact⟨c,(PL.cells b).2.2.2.2.2⟩
theorem cd.more{v:Wd}{x:Tm (N+1)}(a:cd base pb name room (N+1) s ms [(v,x)] nk M w ws nm sv vs ma mc Mh){g:Option Addr}{h:Nat}{i:World}(C:oZ Mh ma (vs++ [v]) w g h i):cd base pb name room (N+1) s (ms++ [x]) [] nk (λb=>M b\/w.heap.size<=b) (i.setCell ⟨pb,7,none⟩ (.slice g (vs++ [v]).length h)) ws nm sv (vs++ [v]) g h Mh/\bC M w (i.setCell ⟨pb,7,none⟩ (.slice g (vs++ [v]).length h)):=by
 obtain⟨E,r,F⟩:=C;obtain⟨q,G⟩:=a.box0;have D:∀d,ma=some d->¬Mh d.block:=λd c f=>by
  rcases a.mail with⟨e,_⟩|⟨m,t,o,l,j,_⟩
  ·rw[e]at c;cases c
  ·rw[l]at c;rw[<-aq c]at f;exact j f
 have A:du base (PL pb name sv (.slice ma vs.length mc)) room ws nm Mh i:=a.heap.kept r λb n _ f=>by
  obtain⟨d,c,rfl⟩:=f;exact D d c n
 have k:=aX i pb 7 (.slice g (vs++ [v]).length h);refine⟨⟨A.turn k λI H mp B=>?_,?_,?_,?_,a.names,λb n=>ae (a.inM b n),λd c=>?_⟩,?_⟩
 ·unfold World.setCell;simp[bK,B]
 ·rcases E with e|⟨m,t,o,l,j,p,y⟩
  ·exact ae e
  ·exact af ⟨m,t,o,l,j,(k.block m (aE.1 p).1 λe=>j (by rw[e];exact q)).trans p,y⟩
 ·have:=a.has;simpa using this
 ·simp[a.len]
 ·rcases F d c with⟨u,z,e⟩|e
  ·rw[e];exact ae (a.mailM u z)
  ·exact af (by omega)
 ·refine bC.trans (r.mono λb f=>?_) k λb _ f=>?_
  ·obtain⟨d,c,rfl⟩:=f;exact a.mailM d c
  ·rw[f];exact a.inM pb q
def Ln(base pb:Nat)(name:ByteArray)(room:Int)(N:Nat)(s:Tm N)(ms:List (Tm N))(x:Tm N)(nk:Nat)(M:Nat->Prop)(w:World)(e:Ending)(w':World):Prop:=
 e=.returned (.int .i64 (vQ N x room s ms))/\Hid (∃i f g h c d a,cd base pb name room N s (if vQ N x room s ms=0 then ms++ [x]else ms) [] (nk+201) (λb=>M b\/w.heap.size<=b) w' i f g h c d a/\bC M w w')
theorem cd.deliver(z:cd base pb name room (N+1) s ms [] nk M w ws nm sv vs ma mc Mh)(x:Tm (N+1))(ax:In w.heap.size w (N+1) x)(ao:cg (λb=>¬M b) (N+1) x)(aj:(ap (N+1) x).length<=2097152)(L:∀b,M b->b<w.heap.size)(an:nk<=49000)(ad:ms.length<=999)(aI:base<=w.heap.size):Calls Tryz.prog 64 #[.pointer (some ⟨pb,0,none⟩),de (N+1) x] w (Ln base pb name room (N+1) s ms x nk M w):=by
 have aL:=z.len;obtain⟨aN,av⟩:=z.box0
 refine(pq pb x.1.1 x.1.2.1 x.1.2.2 x.2.1.1 x.2.2.length x.2.1.2 vs.length mc ma w
  (λh r p q=>r=qy (N+1) x room (s::ms)/\bC M w q/\w.heap.size<=p.heap.size/\∃o m n i g k j,cd base pb name room (N+1) s ms (if r=0 then [(h,x)]else []) (nk+201) (λb=>(M b\/p.heap.size<=b)/\b<q.heap.size) q o m n i g k j)
  (λh p v E F G=>bC M w v/\w.heap.size<=p.heap.size/\∃o m n i g k j,cd base pb name room (N+1) s ms [(h,x)] (nk+201) (λb=>M b\/p.heap.size<=b) v o m n i g k j/\oZ j g (i++ [h]) v E F G) av ?_ ?_ ?_).mono ?_
 ·intro q e;obtain⟨X,V,W,f,_⟩:=(z.later e).heap.box;exact(PL.cells f).2.2.2.1
 ·intro p e;have D:=e.size;refine((z.later e).put x ((ax.below e).mono D) ao aj (λb d=>aM (L b d) D) an ad (by omega)).mono ?_;rintro y q ⟨h,rfl,o,m,n,i,g,k,j,f,u⟩;refine⟨h,_,rfl,⟨u.size,λb az _ aB=>u.block b aB λd=>?_⟩,rfl,(aR e M).trans u λ_ _ d=>d,D,o,m,n,i,g,k,_,f.inside⟩;have:=L b d;omega
 ·rintro h p q ⟨J,u,T,o,m,n,i,g,k,j,f⟩;rw[if_pos rfl]at f;have aJ:=f.len;have I:i.length=vs.length:=by omega
  refine⟨g,k,λv e=>?_,λv e sa c aw=>?_⟩
  ·obtain⟨X,V,W,l,_⟩:=(f.later e).heap.box;rw[I]at l;exact⟨(PL.cells l).2.2.2.1,(PL.cells l).2.2.2.2.1⟩
  ·have t:=f.later e;have D:=e.size;obtain⟨E,F,G,S,C⟩:=rH 123 t.mail (by omega) (λb d=>aM (f.inM b d).2 D) sa c h aw;rw[I]at S;have R:∀b,(∃a,g=some a/\b=a.block)->¬j b/\b<q.heap.size:=λb d=>by
    obtain⟨a,A,rfl⟩:=d;refine⟨λZ=>?_,(f.mailM a A).2⟩;rcases f.mail with⟨y,_⟩|⟨aF,aS,aE,r,ab,_⟩
    ·rw[y]at A;cases A
    ·rw[r]at A;rw[<-aq A]at Z;exact ab Z
   obtain⟨ar,au⟩:=t.box0;have P:G.heap[pb]?=v.heap[pb]? :=C.2.1.block pb au λd=>(R pb d).1 ar;obtain⟨X,V,W,l,_⟩:=t.heap.box;rw[I]at l;refine⟨E,F,G,S,(bf P 7).trans (PL.cells l).2.2.2.1,λU=>?_,λb az aA=>C.2.1.block b aA λd=>?_,?_⟩
   ·exact(hU (a:=⟨pb,U,none⟩) P).trans ((PL.cells l).2.2.2.2.1 U)
   ·have:=(R b d).2;omega
   ·exact⟨u.trans (aR e M) λ_ _ d=>d,T,o,m,n,i,g,k,j,t.mono (λb d=>d.1) (ag _),C⟩
 ·rintro y aT ⟨ai,l⟩;by_cases K:20<=ms.length
  ·obtain⟨rfl,e⟩:=ai (by omega);have B:vQ (N+1) x room s ms=2:=by simp[vQ,K]
   refine⟨by rw[B],ws,nm,sv,vs,ma,mc,Mh,?_,aR e M⟩;rw[B];exact(z.later e).mono (λb d=>ae d) (by omega)
  ·obtain⟨h,r,p,q,rfl,e,⟨J,u,T,o,m,n,i,g,k,j,f⟩,am,ak⟩:=l (by omega);have B:vQ (N+1) x room s ms=r:=by simp[vQ,K,J]
   refine⟨by rw[B],?_⟩;rw[B];by_cases H:r=0
   ·obtain⟨v,E,F,G,aH,⟨Q,_,aD,ay,aC,Y,aP,aQ,aa,t,C⟩,rfl⟩:=ak H;have aK:=t.len;have y:vs.length+1=(Y++ [h]).length:=by simp;omega
    obtain⟨ah,al⟩:=t.more C;rw[y,if_pos H];have aO:=Q.size;refine⟨aD,ay,aC,Y++ [h],E,F,aa,ah.mono (λb d=>?_) (ag _),Q.trans al λb aG d=>?_⟩
    ·rcases d with(d|d)|d
     ·exact ae d
     ·exact af (by omega)
     ·exact af (by omega)
    ·rcases d with d|d
     ·exact d
     ·omega
   ·have O:=am H;rw[if_neg H]at f ⊢;refine⟨o,m,n,i,g,k,j,(f.later O).mono (λb d=>?_) (ag _),u.trans (aR O M) λ_ _ d=>d⟩;rcases d.1 with d|d
    ·exact ae d
    ·exact af (by omega)
end
theorem DQ(y:ByteArray)(k i:Int)(t:ByteArray)(l:Option Addr)(n m:Nat)(room:Int)(w:World)(q:Bool)(C:Wd->Int->World->World->Prop)(H:Hid (∀w1:World,Calls Tryz.prog 49 #[.string y] w1 λe w'=>e=.returned (.bool q)/\w'=w1))(Q:Hid (q=true->∀w1:World,Calls Tryz.prog 52 #[.string y] w1 λe w'=>e=.returned (.string y)/\Below w1.heap.size w1 w'))(P:Hid (0<=room/\room<=1000->∀w2,HB (bX.own (w.heap.size+1)) room (.slice none 0 0) (.slice none 0 0) (.map none) w2->w2.heap.size=w.heap.size+1+1->Below w.heap.size w w2->Calls Tryz.prog 51 #[.pointer (some ⟨w.heap.size+1,0,none⟩),.agg #[.int .i64 k,.int .i64 i,.string t,.slice l n m]] w2 λe b=>∃(v:Wd)(c:Int),e=.returned (.tuple #[.agg #[.int .i64 v.1,.int .i64 v.2],.int .i64 c])/\Hid (∃tv lv mv,b.heap[w.heap.size+1]?=some (.cells #[.int .i64 room,tv,lv,mv] 130)/\C v c w2 b))):Calls Tryz.prog 28 #[.string y,.agg #[.int .i64 k,.int .i64 i,.string t,.slice l n m],.int .i64 room] w λe w'=> (q=false->e=.returned (.tuple #[.pointer none,.int .i64 5])/\Below w.heap.size w w')/\(q=true->¬(0<=room/\room<=1000)->e=.returned (.tuple #[.pointer none,.int .i64 1])/\Below w.heap.size w w')/\ (q=true->0<=room/\room<=1000->∃(v:Wd)(c:Int)(w2 b:World),Hid (Below w.heap.size w w2/\w2.heap.size=w.heap.size+1+1/\C v c w2 b)/\(c≠0->e=.returned (.tuple #[.pointer none,.int .i64 c])/\Below b.heap.size b w')/\ (c=0->∃(r:World)(tv lv mv:Value),e=.returned (.tuple #[.pointer (some ⟨r.heap.size,0,none⟩),.int .i64 0])/\Below b.heap.size b r/\b.heap[w.heap.size+1]?=some (.cells #[.int .i64 room,tv,lv,mv] 130)/\w'=r.alloc (.cells #[.string y,.int .i64 room,tv,lv,mv,.int .i64 v.1,.int .i64 v.2,.slice none 0 0] 132))):=by
 have O:=ai (fQ w (.cells #[.int .i64 k,.int .i64 i,.string t,.slice l n m] 30) rfl);have u:Hid (Below w.heap.size w (w.alloc (.cells #[.int .i64 k,.int .i64 i,.string t,.slice l n m] 30))/\(w.alloc (.cells #[.int .i64 k,.int .i64 i,.string t,.slice l n m] 30)).heap.size=w.heap.size+1):=⟨by go_grown,by simp⟩;cases q with
 | false=>
  go_enter Tryz.func28,Tryz.ntmps28;go_wp2_with (go_at_call 49;refine(H.out _).mono ?_;rintro e w1 ⟨rfl,rfl⟩);exact ao (v:=.tuple #[.pointer none,.int .i64 5]) (by simp[results,Tryz.results28,go_sem]) rfl ⟨λ_=>⟨rfl,u.out.1⟩,λa=>(by cases a),λa=>(by cases a)⟩
 | true=>
  have R:=ai (Q.out rfl);go_enter Tryz.func28,Tryz.ntmps28;go_wp2_with (go_at_call 49;refine(H.out _).mono ?_;rintro e w1 ⟨rfl,rfl⟩);refine(Ix _ _).mono ?_;rintro e w2 ⟨o,h⟩;by_cases p:0<=room/\room<=1000;rotate_left
  ·obtain⟨rfl,rfl⟩:=o p;clear o h;go_wp2_with fail;exact ao (v:=.tuple #[.pointer none,.int .i64 1]) (by simp[results,Tryz.results28,go_sem]) rfl ⟨λa=>(by cases a),λ_ _=>⟨rfl,u.out.1⟩,λ_ a=>absurd a p⟩
  ·obtain⟨rfl,f⟩:=h p;clear o h;replace f:=ai f;rw[u.out.2]at f;have G:Hid (Below w.heap.size w w2):=u.out.1.trans (f.out.2.2.mono (fj _));have I:=ai (P.out p w2 f.out.1 f.out.2.1 G.out);have x:Hid (w2.heap[w.heap.size]?=some (.cells #[.int .i64 k,.int .i64 i,.string t,.slice l n m] 30)):=(f.out.2.2.block _ (by have:=u.out.2;omega)).trans O.out;have S:w2.cell? ⟨w.heap.size,0,none⟩=some (.int .i64 k):=am x.out 0;have T:w2.cell? ⟨w.heap.size,1,none⟩=some (.int .i64 i):=am x.out 1;have U:w2.cell? ⟨w.heap.size,2,none⟩=some (.string t):=am x.out 2;have V:w2.cell? ⟨w.heap.size,3,none⟩=some (.slice l n m):=am x.out 3;go_wp2_with fail;refine I.out.mono ?_;rintro e b ⟨v,c,rfl,F⟩;obtain⟨tv,lv,mv,s,z⟩:=F.out;replace s:=ai s;replace z:=ai (show Below w.heap.size w w2/\w2.heap.size=w.heap.size+1+1/\C v c w2 b from⟨G.out,f.out.2.1,z⟩);clear F I S T U V x f;by_cases E:c=0;rotate_left
   ·have W:¬(0:Int)=c:=λe=>E e.symm;go_wp2_with fail;exact ao (v:=.tuple #[.pointer none,.int .i64 c]) (by simp[results,Tryz.results28,go_sem]) rfl ⟨λa=>(by cases a),λ_ a=>absurd p a,λ_ _=>⟨v,c,w2,b,z,λ_=>⟨rfl,aG⟩,λa=>absurd a E⟩⟩
   ·subst E;go_wp2_with fail;have J:Hid (∃d j,(d=b.alloc (.cells #[.int .i64 v.1,.int .i64 v.2] 119)/\j=b.heap.size)/\Below b.heap.size b d/\d.heap[j]?=some (.cells #[.int .i64 v.1,.int .i64 v.2] 119)):=⟨_,_,⟨rfl,rfl⟩,aG,ay _ _⟩;obtain⟨d,j,⟨N,M⟩,g⟩:=J.out;rw[<-N,<-M];replace g:=ai g;clear N M J;have B:Hid (∀w':World,Below d.heap.size d w'->w'.cell? ⟨w.heap.size+1,0,none⟩=some (.int .i64 room)/\w'.cell? ⟨w.heap.size+1,1,none⟩=some tv/\w'.cell? ⟨w.heap.size+1,2,none⟩=some lv/\w'.cell? ⟨w.heap.size+1,3,none⟩=some mv/\w'.cell? ⟨j,0,none⟩=some (.int .i64 v.1)/\w'.cell? ⟨j,1,none⟩=some (.int .i64 v.2)):=λw' a=>by
     have o:=(a.block j (aE.1 g.out.2).1).trans g.out.2;have L:=(aE.1 s.out).1;have h:=(a.block _ (aM L g.out.1.size)).trans ((g.out.1.block _ L).trans s.out);exact⟨am h 0,am h 1,am h 2,am h 3,am o 0,am o 1⟩
    obtain⟨X,Y,Z,aa,ab,ad⟩:=B.out d (ah _ _);have D:Hid (Below d.heap.size d d.drew):=(ah _ _).drew
    go_region_held3 (λw'=>w'.cell? ⟨w.heap.size+1,0,none⟩=some (.int .i64 room)/\w'.cell? ⟨w.heap.size+1,1,none⟩=some tv/\w'.cell? ⟨w.heap.size+1,2,none⟩=some lv/\w'.cell? ⟨w.heap.size+1,3,none⟩=some mv/\w'.cell? ⟨j,0,none⟩=some (.int .i64 v.1)/\w'.cell? ⟨j,1,none⟩=some (.int .i64 v.2)) (first|(go_keep;done)|with_reducible exact B.out _ D.out|exact B.out _ A.out|exact B.out _ (A.out.trans (aG.mono A.out.size)))
     ((go_at_call 52;refine(R.out _).mono ?_;rintro e r ⟨rfl,K⟩;have A:=ai (D.out.trans (K.mono D.out.size));clear K))
    go_wp2_with fail;exact ao (v:=.tuple #[.pointer (some ⟨r.heap.size,0,none⟩),.int .i64 0]) (by simp[results,Tryz.results28,go_sem]) rfl ⟨λa=>(by cases a),λ_ a=>absurd p a,λ_ _=>⟨v,0,w2,b,z,λa=>absurd rfl a,λ_=>⟨r,tv,lv,mv,rfl,g.out.1.trans (A.out.mono g.out.1.size),s.out,rfl⟩⟩⟩
def fu(N:Nat)(x:Tm N)(room:Int)(name:ByteArray):Int:=if ch name=false then 5 else if¬(0<=room/\room<=1000)then 1 else ip N x room []
def KI(N:Nat)(x:Tm N)(room:Int)(name:ByteArray)(w:World)(e:Ending)(w':World):Prop:=
 (fu N x room name≠0->e=.returned (.tuple #[.pointer none,.int .i64 (fu N x room name)])/\Below w.heap.size w w')/\
 (fu N x room name=0->∃a,e=.returned (.tuple #[.pointer (some ⟨a,0,none⟩),.int .i64 0])/\Hid (w.heap.size<=a/\Below w.heap.size w w'/\∃g d f c,cd w.heap.size a name room N x [] [] 201 (λb=>w.heap.size<=b/\b<w'.heap.size) w' g d f [] none 0 c))
theorem uO{s:ByteArray}(a:ch s=true):s.size<=2048:=by
 simp only[ch,kC,aB,bV]at a;omega
theorem In.offBelow{B:Nat}{w:World}:{n:Nat}->{x:Tm n}->In B w n x->cg (λb=>b<B) n x
 | 0,_,k=>k
 | _+1,_,k=>by
  obtain⟨_,a⟩:=k;rcases a with a|⟨b,o,e,c,a⟩
  ·exact ae a
  ·exact af ⟨b,o,e,c,λi y d=>(a i y d).2.offBelow⟩
theorem yU(N:Nat)(x:Tm (N+1))(room:Int)(name:ByteArray)(w:World)(ar:name.size<=9223372036854775807)(O:In w.heap.size w (N+1) x)(ah:(ap (N+1) x).length<=2097152):Calls Tryz.prog 28 #[.string name,de (N+1) x,.int .i64 room] w (KI (N+1) x room name w):=by
 refine(DQ name x.1.1 x.1.2.1 x.1.2.2 x.2.1.1 x.2.2.length x.2.1.2 room w (ch name) (λe l o p=>Below w.heap.size w p/\vA (N+1) x w.heap.size (bX.own (w.heap.size+1)) room [] [] (λb=>b=w.heap.size+1) e l o p) ?_ ?_ ?_).mono ?_
 ·intro D;exact gM name D ar
 ·intro a D;exact dA name D (uO a)
 ·intro d o H aF m;have s:=m.size;have ab:du w.heap.size (bX.own (w.heap.size+1)) room [] [] (λb=>b=w.heap.size+1) o:=⟨.slice none 0 0,.slice none 0 0,.map none,H,ee _ _ _ _,⟨ee _ _ _ _,by simp,ae ⟨rfl,rfl,rfl⟩⟩,rfl,λb f=>by simp[Value.ownBlock]at f,λb f=>by simp[Value.ownBlock]at f,λb f=>by simp[cD]at f⟩;refine(sP (N+1) x w.heap.size (bX.own (w.heap.size+1)) room [] [] (λb=>b=w.heap.size+1) o ab ((O.below m).mono s) ((In.offBelow O).mono λb c f=>by omega) ah s d.1 d.2 (by simp) (by simp)).mono ?_;intro f p ao;obtain⟨e,l,rfl,j⟩:=wv ao;have I:∀{E:Nat->Prop},bC E o p->(∀b,E b->w.heap.size<=b)->Below w.heap.size w p:=λk ai=>⟨k.os.trans m.os,k.tape.trans m.tape,k.output.trans m.output,au s k.size,λb L=>(k.block b (aM L s) λc=>by have:=ai b c;omega).trans (m.block b L)⟩;refine⟨e,l,rfl,?_⟩;by_cases g:l=0
  ·obtain⟨_,_,t,P⟩:=j.2.2 g;obtain⟨C,A,B,ag,_⟩:=t;exact⟨C,A,B,ag.2,I P λb c=>by omega,j⟩
  ·have n:=(j.2.1 g).2;exact⟨_,_,_,(n.block _ (by omega)).trans H.2,I (aR n λ_=>False) λb c=>c.elim,j⟩
 ·rintro f aJ ⟨X,Y,Z⟩;cases hn:ch name with
  | false=>
   have i:fu (N+1) x room name=5:=by simp[fu,hn]
   refine⟨λ_=>by rw[i];exact X hn,λa=>by rw[i]at a;cases a⟩
  | true=>
   by_cases d:0<=room/\room<=1000;rotate_left
   ·have i:fu (N+1) x room name=1:=by simp[fu,hn,d]
    refine⟨λ_=>by rw[i];exact Y hn d,λa=>by rw[i]at a;cases a⟩
   ·obtain⟨e,l,o,p,Q,d1,aa⟩:=Z hn d;obtain⟨aB,aH,n,j⟩:=Q.out;have i:fu (N+1) x room name=l:=by rw[j.1];simp[fu,hn,d]
    have M:=n.size;rw[KI,i];refine⟨λg=>⟨(d1 g).1,n.trans ((d1 g).2.mono M)⟩,λg=>?_⟩;obtain⟨h,C,A,B,rfl,r,J,rfl⟩:=aa g;have aD:=r.size;obtain⟨K,av,t,P⟩:=j.2.2 g;have am:=t.nodup;have ad:=(t.later r);obtain⟨y,u,v,R,S,T,aA,U,V,W⟩:=ad;have ak:=(aE.1 J).1;have F:(Obj.cells #[.int .i64 room,y,u,v] 130)=(Obj.cells #[.int .i64 room,C,A,B] 130):=aq (R.2.symm.trans ((r.block _ ak).trans J));simp only[Obj.cells.injEq,Array.mk.injEq,List.cons.injEq,and_true,true_and]at F;obtain⟨rfl,rfl,rfl⟩:=F;have z:Below h.heap.size h (h.alloc (.cells #[.string name,.int .i64 room,y,u,v,.int .i64 e.1,.int .i64 e.2,.slice none 0 0] 132)):=aG;have aw:(h.alloc (.cells #[.string name,.int .i64 room,y,u,v,.int .i64 e.1,.int .i64 e.2,.slice none 0 0] 132)).heap.size=h.heap.size+1:=by simp
    refine⟨h.heap.size,rfl,by omega,(n.trans (r.mono M)).trans (z.mono (by omega)),(aN (N+1) x [] []).2.1,(aN (N+1) x [] []).2.2,e,λb=>b=h.heap.size\/(w.heap.size<=b/\b<h.heap.size),?_⟩;have aj:je (N+1) [] [] room [] ([]:List (Tm (N+1))):=⟨⟨rfl,λaI e ax a=>by simp at a⟩,by simp,λax a=>by simp at a,by simp,by simp;exact d.1,d.1,d.2,by simp⟩;have al:=aj.lay x K am;have an:=(gN (N+1) x [] []).2;have aC:=mw K.1;simp only[lf]at an;refine⟨⟨y,u,v,⟨⟨rfl,af rfl⟩,ay _ _⟩,dH S (aR z λ_=>False) (λ_ _ c=>c),T.kept (aR z λ_=>False) (λ_ _ c=>c) (λ_ _ c=>c),ae rfl,λb c=>af ?_,λb c=>af ?_,λb c=>af ?_⟩,ae ⟨rfl,rfl,rfl⟩,?_,rfl,by omega,λb c=>?_,λaz a=>by cases a⟩
    ·have a:=U b c;have G:=a.2;rcases a.1 with q|q<;>exact⟨by omega,by omega⟩
    ·have a:=V b c;have G:=a.2;rcases a.1 with q|q<;>exact⟨by omega,by omega⟩
    ·have a:=W b c;have G:=a.2;rcases a.1 with q|q<;>exact⟨by omega,by omega⟩
    ·rw[av];exact al
    ·rw[aw];rcases c with c|c<;>exact⟨by omega,by omega⟩
end Go.Proofs.YtmbjgiaebneodaaGreat
