/- What is proved here: plain facts and contracts that the claimed theorem stands on. No condition but those that each names. -/
import Derived.Test.YtckamaoibonjcaaGreatH21
namespace Go.Proofs.YtckamaoibonjcaaGreat
open Go.RowKit
set_option maxHeartbeats 2000000
set_option maxRecDepth 100000
theorem jz.lay{N:Nat}{ws:List Wd}{nm:List ByteArray}{room:Int}{i:List Wd}{q:List (Tm N)}(t:jz N ws nm room i q)(x:Tm N)(j:bq N x=0/\aH N x=true/\sz N x<=room-ws.length)(y:(aS N x ws nm).2.2.Nodup):jz N (aS N x ws nm).2.1 (aS N x ws nm).2.2 room (i++ [(aS N x ws nm).1]) (q++ [x]):=by
 obtain⟨e,A,B,K,L,C,D,M⟩:=t;have n:=nX j.1;obtain⟨p,F⟩:=lI N x ws nm;have z:=gC N x ws nm n;have m:=xY N x ws nm n;have J:=(iq N x ws nm).1;have l:∀c∈i,oq (aS N x ws nm).2.1 N c=oq ws N c/\∀E∈oq ws N c,E<ws.length:=λc h=>by
  obtain⟨f,_,o⟩:=e.mem h;exact⟨qL p N f c o,yq N f c o⟩
 refine⟨⟨by simp[e.1],λk G f d a=>?_⟩,?_,λf a=>?_,?_,by omega,C,D,y⟩
 ·rcases Nat.lt_or_ge k i.length with g|g
  ·rw[dg g]at d;rw[dg (by rw[<-e.1];exact g)]at a;exact(e.2 k G f d a).mono p F
  ·rw[dN g]at d;rw[dN (by rw[<-e.1];exact g)]at a;have s:k-i.length=0:=by
    have:=(aM.1 d).1;simp at this;omega
   rw[<-e.1]at a;rw[s]at d a;simp only[cI,iM]at d a;rw[<-d,<-a];exact z
 ·rw[jW,mF (λc h=>(l c h).1)];simp only[bv,List.flatMap_nil,ed];refine eL.2 ⟨A,m.1,λr u b w=>?_⟩;obtain⟨c,h,v⟩:=jg.1 u;have H:=(l c h).2 r v;have I:=m.2 b w;omega
 ·rcases da.1 a with a|a
  ·exact B f a
  ·rw[dD.1 a];exact⟨j.1,j.2.1⟩
 ·simp only[fH,List.sum_append,aI,bR,bC,jh];omega
def rJ(N:Nat)(x:Tm N)(room:Int)(a:List (Tm N)):Int:=if bq N x≠0 then bq N x else if aH N x=false then 5 else if (a.map (sz N)).sum+sz N x<=room then 0 else 6
theorem C5{N:Nat}{x:Tm N}{room:Int}{ws:List Wd}{e:List (Tm N)}(c:jo N x room ws≠6)(f:(e.map (sz N)).sum<=(ws.length:Int)):rJ N x room e=jo N x room ws:=by
 unfold rJ jo at*;by_cases a:bq N x≠0
 ·simp[a]
 ·by_cases b:aH N x=false
  ·simp[a,b]
  ·rw[if_neg a,if_neg b]at c;rw[if_neg a,if_neg a,if_neg b,if_neg b];by_cases d:sz N x<=room-ws.length
   ·rw[if_pos (by omega)];simp[d]
   ·simp[d]at c
theorem C4{N:Nat}{x:Tm N}{room:Int}{ws:List Wd}{a:List (Tm N)}(e:(ws.length:Int)=(a.map (sz N)).sum):rJ N x room a=jo N x room ws:=by
 unfold rJ jo;have b:((a.map (sz N)).sum+sz N x<=room)=(sz N x<=room-ws.length):=by rw[e];exact propext ⟨λd=>by omega,λd=>by omega⟩
 by_cases c:sz N x<=room-ws.length
 ·simp[c,b]
 ·simp[c,b]
section
variable {base pb:Nat} {name:ByteArray} {room:Int} {N:Nat} {s:Tm (N+1)} {ms:List (Tm (N+1))} {xs:List (Wd×Tm (N+1))} {nk:Nat} {M:Nat->Prop} {w:World} {ws:List Wd} {nm:List ByteArray} {sv:Wd} {vs:List Wd} {ma:Option Addr} {mc:Nat} {Mh:Nat->Prop}
theorem cv.kept(a:cv base pb name room (N+1) s ms xs nk M w ws nm sv vs ma mc Mh){S:Nat->Prop}{w1:World}(k:bO S w w1)(g:∀b,M b->b<w.heap.size->¬S b):cv base pb name room (N+1) s ms xs nk M w1 ws nm sv vs ma mc Mh:=by
 refine⟨a.heap.kept k λb m c=>g b (a.inM b m) c,?_,a.has,a.len,a.names,a.inM,a.mailM⟩;rcases a.mail with i|⟨d,n,h,e,j,f,l⟩
 ·exact ag i
 ·have c:=(aC.1 f).1;exact ah ⟨d,n,h,e,j,(k.block d c (g d (a.mailM _ e) c)).trans f,l⟩
theorem cv.mono(a:cv base pb name room (N+1) s ms xs nk M w ws nm sv vs ma mc Mh){M':Nat->Prop}{nk':Nat}(c:∀b,M b->M' b)(g:nk<=nk'):cv base pb name room (N+1) s ms xs nk' M' w ws nm sv vs ma mc Mh:=
 ⟨a.heap,a.mail,a.has,a.len,ax a.names g,λb f=>c b (a.inM b f),λd e=>c _ (a.mailM d e)⟩
theorem cv.inside(a:cv base pb name room (N+1) s ms xs nk M w ws nm sv vs ma mc Mh):cv base pb name room (N+1) s ms xs nk (λb=>M b/\b<w.heap.size) w ws nm sv vs ma mc (λb=>Mh b/\b<w.heap.size):=by
 refine⟨a.heap.inside,?_,a.has,a.len,a.names,λb k=>⟨a.inM b k.1,k.2⟩,λm c=>⟨a.mailM m c,?_⟩⟩
 ·rcases a.mail with d|⟨j,l,g,e,h,f,i⟩
  ·exact ag d
  ·exact ah ⟨j,l,g,e,λn=>h n.1,f,i⟩
 ·rcases a.mail with⟨d,_⟩|⟨j,l,g,e,h,f,i⟩
  ·rw[d]at c;cases c
  ·rw[e]at c;injection c with c;rw[<-c];exact(aC.1 f).1
def xx(N:Nat)(x:Tm N)(base:Nat)(b:ci)(room:Int)(ws:List Wd)(nm:List ByteArray)(M:Nat->Prop)(v:Wd)(a:Int)(w w':World):Prop:=
 a=jo N x room ws/\(a≠0->v=(0,0)/\ai w w')/\(a=0->(bq N x=0/\aH N x=true/\sz N x<=room-ws.length)/\v=(aS N x ws nm).1/\lq base b room (aS N x ws nm).2.1 (aS N x ws nm).2.2 M w w')
theorem yu{N:Nat}{x:Tm N}{h:ci}{e:Ending}{w w':World}(g:G7 N x base h room ws nm M w e w'):∃(v:Wd)(f:Int),e=.returned (.tuple #[.agg #[ab v.1,ab v.2],ab f])/\xx N x base h room ws nm M v f w w':=by
 by_cases a:jo N x room ws=0
 ·obtain⟨b,c,i⟩:=g.2 a;exact⟨_,0,c,a.symm,λd=>absurd rfl d,λ_=>⟨b,rfl,i⟩⟩
 ·obtain⟨b,c⟩:=g.1 a;exact⟨(0,0),_,b,rfl,λ_=>⟨rfl,c⟩,λd=>absurd d a⟩
theorem dy.nodup{c:ci}(a:dy base c room ws nm M w):nm.Nodup:=by
 obtain⟨_,_,_,_,_,b,_⟩:=a;exact b.2.1
theorem cv.put1(d:cv base pb name room (N+1) s ms [] nk M w ws nm sv vs ma mc Mh){x:Tm (N+1)}{v:Wd}{e:Int}{w':World}(y:xx (N+1) x base (PL pb name sv (.slice ma vs.length mc)) room ws nm Mh v e w w'):∃C B m,cv base pb name room (N+1) s ms (if e=0 then [(v,x)]else []) (nk+201) (λb=>M b\/w.heap.size<=b) w' C B sv vs ma mc m/\bO M w w':=by
 obtain⟨D,r,t⟩:=y;by_cases f:e=0
 ·obtain⟨c,rfl,k,l⟩:=t f;rw[if_pos f];have G:=(iq (N+1) x ws nm).2;have F:=nu c.1;have E:=d.names;refine⟨_,_,λb=>Mh b\/w.heap.size<=b,⟨k,?_,?_,d.len,by omega,?_,λn u=>ag (d.mailM n u)⟩,l.mono d.inM⟩
  ·rcases d.mail with p|⟨j,A,o,e,h,i,q⟩
   ·exact ag p
   ·have z:=(aC.1 i).1;refine ah ⟨j,A,o,e,λa=>?_,(l.block j z h).trans i,q⟩;rcases a with a|a
    ·exact h a
    ·omega
  ·have:=d.has;simp only[bR,ed]at this;exact this.lay x c k.nodup
  ·intro b g;rcases g with a|a
   ·exact ag (d.inM b a)
   ·exact ah a
 ·obtain⟨_,g⟩:=r f;rw[if_neg f];exact⟨ws,nm,Mh,(d.later g).mono (λb a=>ag a) (by omega),aV g M⟩
def Ol(base pb:Nat)(name:ByteArray)(room:Int)(N:Nat)(s:Tm N)(ms:List (Tm N))(x:Tm N)(nk:Nat)(M:Nat->Prop)(w:World)(e:Ending)(w':World):Prop:=
 ∃a:Wd,e=.returned (.tuple #[.agg #[ab a.1,ab a.2],ab (rJ N x room (s::ms))])/\Hid (∃j g h i d f c,cv base pb name room N s ms (if rJ N x room (s::ms)=0 then [(a,x)]else []) (nk+201) (λb=>M b\/w.heap.size<=b) w' j g h i d f c/\bO M w w')
theorem cv.put(y:cv base pb name room (N+1) s ms [] nk M w ws nm sv vs ma mc Mh)(x:Tm (N+1))(ae:In w.heap.size w (N+1) x)(aw:bZ (λb=>¬M b) (N+1) x)(ao:(av (N+1) x).length<=2097152)(G:∀b,M b->b<w.heap.size)(aK:nk<=49000)(al:ms.length<=999)(aI:base<=w.heap.size):ak 109 #[.pointer (some ⟨pb,0,none⟩),df (N+1) x] w (Ol base pb name room (N+1) s ms x nk M w):=by
 have aJ:=y.len;have aL:=y.names;have aq:=y.front;obtain⟨_,_,_,aB,aO,aC,aD,_⟩:=aq;have Z:=In.offB aw ae
 have aa:∀{f:World}{D:List Wd}{B:Wd}{C:List Wd}{z:Option Addr}{A:Nat}{q P:Nat->Prop},cv base pb name room (N+1) s ms [] nk P f D nm B C z A q->bO M w f->(∀b,P b->M b\/w.heap.size<=b)->
   ak 66 #[.pointer (some ⟨pb,1,none⟩),df (N+1) x] f λE g=>∃(e:Wd)(d:Int),E=.returned (.tuple #[.agg #[ab e.1,ab e.2],ab d])/\xx (N+1) x base (PL pb name B (.slice z C.length A)) room D nm q e d f g:=by
  intro f D B C z A q P r af an;have ay:=af.size;obtain⟨_,_,_,_,aP,aQ,aR,_⟩:=r.front;have az:In f.heap.size f (N+1) x:=(In.off (λb (c:¬M b/\b<w.heap.size)=>af.block b c.2 c.1) Z ae).mono ay;have ax:bZ (λb=>¬q b) (N+1) x:=Z.mono λb c a=>by
   rcases an b (r.inM b a)with t|t
   ·exact c.1 t
   ·have:=c.2;omega
  exact(uj (N+1) x base (PL pb name B (.slice z C.length A)) room D nm q f r.heap az ax ao (by omega) aC aD (by omega) (by omega)).mono λE g a=>yu a
 have T:∀{n:Nat}{V:Nat->Prop}{j g:World},bO V j g->(∀b,n<=b->b<n+3->b<j.heap.size->¬V b)->Up n j g:=λk ap=>⟨k.size,λb u O F=>k.block b F (ap b u O F)⟩;have Y:∀{e:Wd}{d:Int}{j g:World}{D:List Wd}{B:Wd}{C:List Wd}{z:Option Addr}{A:Nat}{q:Nat->Prop},xx (N+1) x base (PL pb name B (.slice z C.length A)) room D nm q e d j g->bO q j g:=λ{e d j g D B C z A q} a=>by
  by_cases W:d=0
  ·exact(a.2.2 W).2.2.2
  ·exact aV (a.2.1 W).2 _
 refine(AV pb x.1.1 x.1.2.1 x.1.2.2 x.2.1.1 x.2.2.length x.2.1.2 w (λe d j g=>xx (N+1) x base (PL pb name sv (.slice ma vs.length mc)) room ws nm Mh e d j g)
  (λH I=>bO M w I/\H.heap.size<=I.heap.size/\∃l p i o m,cv base pb name room (N+1) s ms [] nk (λb=>M b\/H.heap.size<=b) I l nm p i o i.length m/\(l.length:Int)=((s::ms).map (sz (N+1))).sum)
  (λe d f U=>bO M w f/\w.heap.size+3<=f.heap.size/\∃l p i o m,cv base pb name room (N+1) s ms [] nk (λb=>M b\/w.heap.size+3<=b) f l nm p i o i.length m/\(l.length:Int)=((s::ms).map (sz (N+1))).sum/\xx (N+1) x base (PL pb name p (.slice o i.length i.length)) room l nm m e d f U) ?_ ?_ ?_).mono ?_
 ·intro j c;refine(aa (y.later c) (aV c M) λb a=>ag a).mono ?_;rintro E g ⟨e,d,rfl,h⟩;refine⟨e,d,rfl,T (Y h) λb u _ _ a=>?_,h⟩;have:=G b (y.inM b a);omega
 ·intro aG j g H c h v aA;have X:=(h.2.1 (by decide)).2;have ad:=c.size;have O:=((y.later c).later X).kept v λb a _ t=>by
   have:=G b a;omega
  have ar:bO M w H:=bO.trans ((aV c M).trans (aV X M) λ_ _ a=>a) v λb Q a=>by omega
  refine(O.tidy (by omega) al (by omega)).mono ?_;rintro E I ⟨rfl,l,p,i,o,m,F,K,S⟩;refine⟨rfl,T K λb u _ _ a=>?_,ar.trans K λ_ _ a=>a,K.size,l,p,i,o,m,F,S⟩;have:=G b a;omega
 ·rintro H I f ⟨K,aM,l,p,i,o,m,F,S⟩ aA c
  have r:=(F.later c).mono (M':=λb=>M b\/w.heap.size+3<=b) (nk':=nk) (λb a=>by
   rcases a with a|a
   ·exact ag a
   ·exact ah (by omega)) (aj _)
  have L:bO M w f:=K.trans (aV c M) λ_ _ a=>a
  refine(aa r L λb a=>by
   rcases a with a|a
   ·exact ag a
   ·exact ah (by omega)).mono ?_
  rintro E U ⟨e,d,rfl,h⟩;refine⟨e,d,rfl,T (Y h) λb u O _ a=>?_,L,by have:=c.size;omega,l,p,i,o,m,r,S,h⟩;rcases r.inM b a with t|t
  ·have:=G b t;omega
  ·omega
 ·rintro E aS ⟨e,d,rfl,⟨am,j,g,c,h,v⟩|⟨aG,j,g,H,I,f,U,_,_,_,_,_,_,⟨L,aN,l,p,i,o,m,r,au,h⟩,v⟩⟩
  ·have ad:=c.size;have J:d=rJ (N+1) x room (s::ms):=by
    rw[C5 (ws:=ws) (by rw[<-h.1];exact am) aB];exact h.1
   obtain⟨l,aE,m,u,R⟩:=(y.later c).put1 h;refine⟨e,by rw[<-J],l,aE,sv,vs,ma,mc,m,?_,?_⟩
   ·rw[<-J];refine(u.kept v λb a _ t=>?_).mono (λb a=>?_) (aj _)
    ·rcases a with a|a
     ·have:=G b a;omega
     ·omega
    ·rcases a with a|a
     ·exact ag a
     ·exact ah (by omega)
   ·exact bO.trans ((aV c M).trans R λ_ _ a=>a) v λb Q a=>by omega
  ·have ad:=L.size;have J:d=rJ (N+1) x room (s::ms):=by
    rw[C4 au];exact h.1
   obtain⟨aH,aF,ai,u,R⟩:=r.put1 h;refine⟨e,by rw[<-J],aH,aF,p,i,o,i.length,ai,?_,?_⟩
   ·rw[<-J];refine(u.kept v λb a _ t=>?_).mono (λb a=>?_) (aj _)
    ·subst t;rcases a with(a|a)|a
     ·have:=G _ a;omega
     ·omega
     ·omega
    ·rcases a with(a|a)|a
     ·exact ag a
     ·exact ah (by omega)
     ·exact ah (by omega)
   ·refine bO.trans (L.trans R λb Q a=>?_) v λb Q a=>by omega
    rcases a with a|a
    ·exact a
    ·omega
end
theorem sH(vs:List Wd)(v:Wd):aU (vs++ [v])=aU vs++ph v:=by simp[aU]
theorem nJ{P:Program}(w:World)(t ty e:TypeId)(i:TypeInfo)(y:P.underlying t=some (.slice e))(s:P.info? e=some i)(g f d l:Nat)(h:Array Value)(r:w.heap[g]?=some (.cells h e (0,0)))(a:Addr)(m c:Nat)(b:List Value)(u:b.length=m*i.size)(v:∀j k,b[j]?=some k->w.cell? (a.add j)=some k)(o:∀k∈b,k.oneCell'=true)(x:d+m<=l)(q:f+d*i.size+b.length<=h.size):(Builtin.append_ #[t,t] ty #[.slice (some ⟨g,f,none⟩) d l,.slice (some a) m c]).run P w= .ok (.slice (some ⟨g,f,none⟩) (d+m) l) (w.setRow g (h.toList.take (f+d*i.size)++b++h.toList.drop (f+d*i.size+b.length)).toArray):=by
 have p:=run_firstCells_some (P:=P) w i.size m a m c b u v;have n:=oO P g (f+d*i.size) e b 0 h w r (by simpa using q) o;simp only[iL]at n;simp[Builtin.append_,ch y,sizeOf,typeInfo,s,Builtin.lenOf,x,p,eI,n]
def p9(Mh:Nat->Prop)(ma:Option Addr)(vs:List Wd)(w:World)(d:Option Addr)(e:Nat)(w':World):Prop:=
 jl Mh d vs e w'/\bO (λb=>∃a,ma=some a/\b=a.block) w w'/\∀a,d=some a->(∃c,ma=some c/\a.block=c.block)\/a.block=w.heap.size
theorem Jp{S:Nat->Prop}(w:World)(g:Nat)(cs:Array Value)(a:∀b,b=g->S b):bO S w (w.setRow g cs):=⟨rfl,rfl,rfl,by simp,λ_ _ c=>setRow_other _ _ _ _ λe=>c (a _ e)⟩
theorem uC{Mh:Nat->Prop}{ma:Option Addr}{w:World}(a:List Wd)(C c:Nat)(d:Value)(l:d.cells.size=2)(p:c=a.length)(f:a.length<=C)(g:C<=maxLen)(h:∀b,Mh b->b<w.heap.size):p9 Mh ma a w (some ⟨w.heap.size,0,none⟩) C (w.drew.alloc (.cells ((aU a).toArray++Builtin.zeroCells d.cells (C-c)) 105)):=by
 have e:∀b,b<w.heap.size->(w.drew.alloc (.cells ((aU a).toArray++Builtin.zeroCells d.cells (C-c)) 105)).heap[b]?=w.heap[b]? :=λb e=>Below.heap_alloc w.drew _ b e;have k:(w.drew.alloc (.cells ((aU a).toArray++Builtin.zeroCells d.cells (C-c)) 105)).heap[w.heap.size]?=some (.cells ((aU a).toArray++Builtin.zeroCells d.cells (C-c)) 105):=az w.drew _;refine⟨ah ⟨w.heap.size,0,_,rfl,λm=>?_,k,f,g,?_,?_⟩,⟨rfl,rfl,rfl,?_,λb j _=>e b j⟩,λn i=>ah (congrArg Addr.block (au i).symm)⟩
 ·have:=h _ m;omega
 ·rw[Array.size_append,size_zeroCells,l,e9,co];omega
 ·rw[List.drop_zero,Array.toList_append,jj (by rw[oJ,co];omega),oJ,bw (by rw[co];omega)]
 ·have:=gK w.drew (.cells ((aU a).toArray++Builtin.zeroCells d.cells (C-c)) 105);have o:w.drew.heap.size=w.heap.size:=rfl;omega
theorem sY{Mh:Nat->Prop}{ma:Option Addr}{vs:List Wd}{f:Nat}{w:World}(ty:TypeId)(l:jl Mh ma vs f w)(O:vs.length<=1000)(x:∀b,Mh b->b<w.heap.size)(sa:Addr)(c:Nat)(v:Wd)(r:∀j k,(ph v)[j]?=some k->w.cell? (sa.add j)=some k):∃C D w',(Builtin.append_ #[96,96] ty #[.slice ma vs.length f,.slice (some sa) 1 c]).run Tryz.prog w=.ok (.slice C (vs.length+1) D) w'/\p9 Mh ma (vs++ [v]) w C D w':=by
 obtain⟨o,q,A,h,B⟩:=bQ kA;have L:∀k∈ph v,k.oneCell'=true:=by simp[ph,Value.oneCell']
 have i:(ph v).length=2:=rfl;rcases l with⟨rfl,rfl,rfl⟩|⟨e,a,d,rfl,s,n,F,t,G,u⟩
 ·have m:=run_append_nil (P:=Tryz.prog) w 96 ty 105 o _ Tryz.underlying96 q A sa 1 c (ph v) (by rw[i,h]) r (by omega) (by omega) (by rw[B];omega);refine⟨_,_,_,m,?_⟩;have l:=uC (Mh:=Mh) (ma:=none) (w:=w) [v] (grownCap w 1 0 105) 1 (.agg #[ab 0,ab 0]) rfl rfl (grownCap_ge w 1 0 _) (grownCap_le_maxLen w 1 0 _ (by unfold maxLen;omega)) x;simpa [aU]using l
 ·have Q:=(aC.1 n).1;by_cases M:vs.length+1<=f
  ·have y:a+vs.length*o.size+(ph v).length<=d.size:=by rw[i,h];omega
   have m:=nJ (P:=Tryz.prog) w 96 ty 105 o Tryz.underlying96 q e a vs.length f d n sa 1 c (ph v) (by rw[i,h]) r L M y;refine⟨_,_,_,m,ah ⟨e,a,_,rfl,s,setRow_heap w e d _ _ _ n,?_,t,?_,?_⟩,?_,λN H=>ag ⟨_,rfl,?_⟩⟩
   ·simp only[bf,aZ,jZ];omega
   ·have p:d.toList.length=d.size:=gZ;rw[h]at y ⊢;simp only[e9,bf,dw,eK,p];omega
   ·rw[h];have R:(d.toList.take (a+vs.length*2)).length=a+vs.length*2:=by
     have p:d.toList.length=d.size:=gZ;rw[dw,p];omega
    have J:(d.toList.take (a+vs.length*2)).drop a=aU vs:=by
     rw[List.drop_take,Nat.add_sub_cancel_left];exact u
    rw[sH,lZ,oD (by omega),J];have g:(vs++ [v]).length*2=(aU vs).length+2:=by
     rw[co];simp only[bf,aZ,jZ];omega
    rw[g,List.take_length_add_append,jj (by rw[i];omega),bw (by rw[i];omega)]
   ·exact Jp w e _ λb g=>⟨_,rfl,g⟩
   ·exact congrArg Addr.block (au H).symm
  ·have m:=run_append_grow (P:=Tryz.prog) w 96 ty 105 o _ Tryz.underlying96 q A ⟨e,a,none⟩ vs.length f (aU vs) (by rw[co,h]) (λj k z=>by
     have K:jl Mh (some ⟨e,a,none⟩) vs f w:=ah ⟨e,a,d,rfl,s,n,F,t,G,u⟩;rcases K.words with g|⟨ad,g,I⟩
     ·subst g;simp[aU]at z
     ·have E:=au g;rw[E]
      exact I j k z) sa 1 c (ph v) (by rw[i,h]) r (by omega) (by omega) (growslice_fits (by omega) (by rw[B];omega))
   refine⟨_,_,_,m,?_⟩;have l:=uC (Mh:=Mh) (ma:=some ⟨e,a,none⟩) (w:=w) (vs++ [v]) (grownCap w (vs.length+1) f 105) (vs.length+1) (.agg #[ab 0,ab 0]) rfl (by simp) (by have:=grownCap_ge w (vs.length+1) f 105;simpa using this) (grownCap_le_maxLen w _ _ _ (by unfold maxLen;omega)) x;simpa [sH]using l
theorem vK{w w':World}{v x' b:Value}{o:Oper}{a:Act}{K:Act->World->Prop}{Q:Exit->Act->World->Prop}(s x:Operand)(d:o.op=.call {callee:=.builtin .append,args:= #[s,x],argTypes:= #[96,96]})(f:a.eval s=v)(g:a.eval x=x')(e:(Builtin.append_ #[96,96] o.type #[v,x']).run Tryz.prog w=.ok b w')(c:K (a.put o.dst b) w'):Oper.wp Tryz.prog o a w K Q:=by
 unfold Oper.wp execOp;simp only[d,resolve,invoke,builtin,Sem.run_bind,Sem.run_pure,mq,mg,aI,bR,f,g,e];exact c
theorem qt(g:Nat)(k i:Int)(t:ByteArray)(B:Option Addr)(D C:Nat)(L aD:Nat)(ma:Option Addr)(w:World)(E:Wd->Int->World->World->Prop)(H:Wd->World->World->Option Addr->Nat->World->Prop)(aQ:g<w.heap.size)(Z:Hid (∀w1,ai w w1->w1.cell? ⟨g,7,none⟩=some (.slice ma L aD)))(ad:Hid (∀w0,ai w w0->ak 109 #[.pointer (some ⟨g,0,none⟩),.agg #[ab k,ab i,ae t,.slice B D C]] w0 λe w1=>∃(v:Wd)(h:Int),e=.returned (.tuple #[.agg #[ab v.1,ab v.2],ab h])/\Hid (Up w.heap.size w0 w1/\E v h w0 w1)))(af:Hid (∀v w0 w1,E v 0 w0 w1->∃q r,Hid (∀w2,ai w1 w2->w2.cell? ⟨g,7,none⟩=some (.slice q L r)/\∀j,w2.frozen? ⟨g,j,none⟩=false)/\Hid (∀w2,ai w1 w2->∀(sa:Addr)(c:Nat),(∀j M,(ph v)[j]?=some M->w2.cell? (sa.add j)=some M)-> ∃m n d,(Builtin.append_ #[96,96] 96 #[.slice q L r,.slice (some sa) 1 c]).run Tryz.prog w2=.ok (.slice m (L+1) n) d/\d.cell? ⟨g,7,none⟩=some (.slice q L r)/\(∀j,d.frozen? ⟨g,j,none⟩=false)/\(∀b,w1.heap.size<=b->b<w2.heap.size->d.heap[b]?=w2.heap[b]?)/\H v w0 w2 m n d))):ak 78 #[.pointer (some ⟨g,0,none⟩),.agg #[ab k,ab i,ae t,.slice B D C]] w λe w'=> (20<=L->e=.returned (ab 2)/\ai w w')/\(L<20->∃(v:Wd)(h:Int)(w0 w1:World),e=.returned (ab h)/\ai w w0/\E v h w0 w1/\(h≠0->ai w1 w')/\(h=0->∃w2 m n d,ai w1 w2/\H v w0 w2 m n d/\w'=(d.setCell ⟨g,7,none⟩ (.slice m (L+1) n)))):=by
 have aa:=ao (wu w (.cells #[ab k,ab i,ae t,.slice B D C] 30) rfl);have F:Hid (ai w (w.alloc (.cells #[ab k,ab i,ae t,.slice B D C] 30))/\(w.alloc (.cells #[ab k,ab i,ae t,.slice B D C] 30)).heap.size=w.heap.size+1):=⟨by go_grown,by simp⟩;go_enter Tryz.func78,Tryz.ntmps78;have T:=Z.out w (am _ _);rcases Nat.lt_or_ge L 20 with au|au
 ·have av:¬(20:Int)<=(L:Int):=by omega
  have Q:=ao (ad.out _ F.out.1);go_wp2_with fail;refine Q.out.mono ?_;rintro e w1 ⟨v,h,rfl,N⟩;have R:Hid (∃w0,ai w w0/\E v h w0 w1):=⟨_,F.out.1,N.out.2⟩;obtain⟨w0,s⟩:=R.out;replace s:=ao s;clear R N Q aa F T;by_cases K:h=0;rotate_left
  ·have aN:¬(0:Int)=h:=λe=>K e.symm;go_wp2_with fail;exact ar (v:=ab h) (by simp[results,Tryz.results78,go_sem]) rfl ⟨λa=>by omega,λ_=>⟨v,h,w0,w1,rfl,s.out.1,s.out.2,λ_=>aK,λa=>absurd a K⟩⟩
  ·subst K;obtain⟨q,r,ag,ah⟩:=af.out v w0 w1 s.out.2;have S:Hid (∃w2 f,(w2=w1.alloc (.cells #[ab v.1,ab v.2] 105)/\f=w1.heap.size)/\ai w1 w2/\w2.heap[f]?=some (.cells #[ab v.1,ab v.2] 105)/\w1.heap.size<=f):=⟨_,_,⟨rfl,rfl⟩,aK,az _ _,aj _⟩;go_wp2_with fail;obtain⟨w2,f,⟨Y,W⟩,o⟩:=S.out;rw[<-Y,<-W];replace o:=ao o;clear Y W S;have z:Hid (∀w':World,ai w2 w'->(w'.cell? ⟨g,7,none⟩=some (.slice q L r)/\∀j,w'.frozen? ⟨g,j,none⟩=false)/\w'.cell? ⟨f,0,none⟩=some (ab v.1)/\w'.cell? ⟨f,1,none⟩=some (ab v.2)):=λw' a=>by
    have A:=(a.block f (aC.1 o.out.2.1).1).trans o.out.2.1;exact⟨ag.out _ (o.out.1.trans (a.mono o.out.1.size)),aq A 0,aq A 1⟩
   obtain⟨⟨T,aJ⟩,aR,aS⟩:=z.out w2 (am _ _);have P:Hid (ai w2 w2.drew):=(am _ _).drew;have y:Hid (ai w2 (w2.alloc (.cells #[ab v.1,ab v.2] 105)).drew):=(show Below _ _ _ by go_grown);have O:Hid (∃m n d,(Builtin.append_ #[96,96] 96 #[.slice q L r,.slice (some ⟨w2.heap.size,0,none⟩) 1 1]).run Tryz.prog (w2.alloc (.cells #[ab v.1,ab v.2] 105)).drew=.ok (.slice m (L+1) n) d/\d.cell? ⟨g,7,none⟩=some (.slice q L r)/\(∀j,d.frozen? ⟨g,j,none⟩=false)/\(d.cell? ⟨f,0,none⟩=some (ab v.1)/\d.cell? ⟨f,1,none⟩=some (ab v.2))/\∃G,ai w1 G/\H v w0 G m n d):=by
    have V:=o.out.1.trans (y.out.mono o.out.1.size);have aA:=qC w2 (.cells #[ab v.1,ab v.2] 105) rfl
    obtain⟨m,n,d,aE,aF,aG,aH,aI⟩:=ah.out _ V ⟨w2.heap.size,0,none⟩ 1 (λj M ay=>by
     rw[eI,cP];refine(aq aA j).trans ?_;rw[<-ay,<-List.getElem?_toArray]
     rfl)
    have X:=(aC.1 o.out.2.1).1;have A:=(aH f o.out.2.2 (aL X y.out.size)).trans ((y.out.block f X).trans o.out.2.1);exact⟨m,n,d,aE,aF,aG,⟨aq A 0,aq A 1⟩,_,V,aI⟩
   obtain⟨m,n,d,J,an,ap,aB,I⟩:=O.out;replace J:=ao J;replace I:=ao I;clear O;have x:w2.drew.cell? ⟨g,7,none⟩=some (.slice q L r)/\w2.drew.cell? ⟨f,0,none⟩=some (ab v.1)/\w2.drew.cell? ⟨f,1,none⟩=some (ab v.2):=⟨(z.out _ P.out).1.1,(z.out _ P.out).2⟩;have al:Hid ((w2.alloc (.cells #[ab v.1,ab v.2] 105)).drew.cell? ⟨g,7,none⟩=some (.slice q L r)/\(w2.alloc (.cells #[ab v.1,ab v.2] 105)).drew.cell? ⟨f,0,none⟩=some (ab v.1)/\(w2.alloc (.cells #[ab v.1,ab v.2] 105)).drew.cell? ⟨f,1,none⟩=some (ab v.2)):=⟨(z.out _ y.out).1.1,(z.out _ y.out).2⟩;refine wp_region_noPanic ?_;refine jd (λw'=>w'.cell? ⟨g,7,none⟩=some (.slice q L r)/\w'.cell? ⟨f,0,none⟩=some (ab v.1)/\w'.cell? ⟨f,1,none⟩=some (ab v.2)) 10 (by kernel_rfl) ?_
   try simp only[e9]
   refine aO (i:=0) (v:= ?_) rfl (by kernel_rfl) (by kernel_rfl) (by kernel_rfl) (by kernel_rfl) (λ_ _ _ a=>a) rfl ?_ x ?_;rotate_left
   ·intro w' l
    try dsimp only at l
    go_simp
    try with_reducible rfl
   try simp only[Act.put,bS]
   refine aO (i:=1) (v:= ?_) rfl (by kernel_rfl) (by kernel_rfl) (by kernel_rfl) (by kernel_rfl) (λ_ _ _ a=>a) rfl ?_ x ?_;rotate_left
   ·intro w' l
    try dsimp only at l
    go_simp
    try with_reducible rfl
   try simp only[Act.put]
   refine aO (i:=2) (v:= ?_) rfl (by kernel_rfl) (by kernel_rfl) (by kernel_rfl) (by kernel_rfl) (λ_ _ _ a=>a) rfl ?_ x ?_;rotate_left
   ·intro w' l
    try dsimp only at l
    go_simp
    try with_reducible rfl
   try simp only[Act.put]
   refine aO (i:=3) (v:= ?_) rfl (by kernel_rfl) (by kernel_rfl) (by kernel_rfl) (by kernel_rfl) (λ_ _ _ a=>a) rfl ?_ x ?_;rotate_left
   ·intro w' l
    try dsimp only at l
    go_simp
    try with_reducible rfl
   try simp only[Act.put]
   refine aO (i:=4) (v:= ?_) rfl (by kernel_rfl) (by kernel_rfl) (by kernel_rfl) (by kernel_rfl) (λ_ _ _ a=>a) rfl ?_ x ?_;rotate_left
   ·intro w' l
    try dsimp only at l
    go_simp
    try with_reducible rfl
   try simp only[Act.put]
   refine aO (i:=5) (v:= ?_) rfl (by kernel_rfl) (by kernel_rfl) (by kernel_rfl) (by kernel_rfl) (λ_ _ _ a=>a) rfl ?_ x ?_;rotate_left
   ·intro w' l
    try dsimp only at l
    go_simp
    try with_reducible rfl
   try simp only[Act.put]
   refine cR (i:=6) (by kernel_rfl) rfl rfl (λu p=>?_) (by decide)
   go_simp
   refine p.out _ _ (λ_=>al.out) (λaP=>?_);clear p u
   try simp only[Act.put,bS,dd,dc]
   refine cR (i:=7) (by kernel_rfl) rfl rfl (λu p=>?_) (by decide);refine vK (v:=.slice q L r) (x':=.slice (some ⟨w2.heap.size,0,none⟩) 1 1) _ _ rfl (by simp[Act.eval]) (by simp[Act.eval]) J.out ?_;refine p.out _ _ (λ_=>⟨an,aB⟩) (λU=>?_);clear p u
   try simp only[Act.put,bS]
   refine cR (i:=8) (by kernel_rfl) rfl rfl (λu p=>?_) (by decide)
   go_simp
   refine p.out _ _ (λ_=>U) (λ_=>?_);clear p u
   try simp only[Act.put,bS,dd,dc]
   refine aO (i:=9) (v:= ?_) rfl (by kernel_rfl) (by kernel_rfl) (by kernel_rfl) (by kernel_rfl) (λ_ _ _ a=>a) rfl ?_ U ?_;rotate_left
   ·intro w' l
    try dsimp only at l
    go_simp
    try with_reducible rfl
   try simp only[Act.put,bS]
   have aM:=ap 7;refine jc (by kernel_rfl) rfl rfl (by kernel_rfl) (λu p=>?_)
   go_simp
   refine p.out _ _ (NoPanic.normal ?_);clear p u
   try simp only[Act.put,bS,dd,dc]
   go_wp2_with fail;obtain⟨G,aw,ax⟩:=I.out;exact ar (v:=ab 0) (by simp[results,Tryz.results78,go_sem]) rfl ⟨λa=>by omega,λ_=>⟨v,0,w0,w1,rfl,s.out.1,s.out.2,λa=>absurd rfl a,λ_=>⟨G,m,n,d,aw,ax,rfl⟩⟩⟩
 ·have av:(20:Int)<=(L:Int):=by omega
  go_wp2_with fail;exact ar (v:=ab 2) (by simp[results,Tryz.results78,go_sem]) rfl ⟨λ_=>⟨rfl,F.out.1⟩,λa=>by omega⟩
section
variable {base pb:Nat} {name:ByteArray} {room:Int} {N:Nat} {s:Tm (N+1)} {ms:List (Tm (N+1))} {xs:List (Wd×Tm (N+1))} {nk:Nat} {M:Nat->Prop} {w:World} {ws:List Wd} {nm:List ByteArray} {sv:Wd} {vs:List Wd} {ma:Option Addr} {mc:Nat} {Mh:Nat->Prop}
def xQ(N:Nat)(x:Tm N)(room:Int)(s:Tm N)(ms:List (Tm N)):Int:=if 20<=ms.length then 2 else rJ N x room (s::ms)
theorem cv.box0(a:cv base pb name room (N+1) s ms xs nk M w ws nm sv vs ma mc Mh):Mh pb/\pb<w.heap.size:=by
 obtain⟨f,d,e,b,_⟩:=a.heap.box;obtain⟨_,_,_,_,_,_,c,_⟩:=a.heap;exact⟨c,(PL.cells b).2.2.2.2.2⟩
theorem cv.more{v:Wd}{x:Tm (N+1)}(a:cv base pb name room (N+1) s ms [(v,x)] nk M w ws nm sv vs ma mc Mh){g:Option Addr}{h:Nat}{i:World}(C:p9 Mh ma (vs++ [v]) w g h i):cv base pb name room (N+1) s (ms++ [x]) [] nk (λb=>M b\/w.heap.size<=b) (i.setCell ⟨pb,7,none⟩ (.slice g (vs++ [v]).length h)) ws nm sv (vs++ [v]) g h Mh/\bO M w (i.setCell ⟨pb,7,none⟩ (.slice g (vs++ [v]).length h)):=by
 obtain⟨E,r,F⟩:=C;obtain⟨q,G⟩:=a.box0;have D:∀d,ma=some d->¬Mh d.block:=λd c f=>by
  rcases a.mail with⟨e,_⟩|⟨m,t,o,l,j,_⟩
  ·rw[e]at c;cases c
  ·rw[l]at c;rw[<-au c]at f;exact j f
 have A:dy base (PL pb name sv (.slice ma vs.length mc)) room ws nm Mh i:=a.heap.kept r λb n _ f=>by
  obtain⟨d,c,rfl⟩:=f;exact D d c n
 have k:=bi i pb 7 (.slice g (vs++ [v]).length h);refine⟨⟨A.turn k λI H mp B=>?_,?_,?_,?_,a.names,λb n=>ag (a.inM b n),λd c=>?_⟩,?_⟩
 ·unfold World.setCell;simp[bG,B]
 ·rcases E with e|⟨m,t,o,l,j,p,y⟩
  ·exact ag e
  ·exact ah ⟨m,t,o,l,j,(k.block m (aC.1 p).1 λe=>j (by rw[e];exact q)).trans p,y⟩
 ·have:=a.has;simpa using this
 ·simp[a.len]
 ·rcases F d c with⟨u,z,e⟩|e
  ·rw[e];exact ag (a.mailM u z)
  ·exact ah (by omega)
 ·refine bO.trans (r.mono λb f=>?_) k λb _ f=>?_
  ·obtain⟨d,c,rfl⟩:=f;exact a.mailM d c
  ·rw[f];exact a.inM pb q
def Oc(base pb:Nat)(name:ByteArray)(room:Int)(N:Nat)(s:Tm N)(ms:List (Tm N))(x:Tm N)(nk:Nat)(M:Nat->Prop)(w:World)(e:Ending)(w':World):Prop:=
 e=.returned (ab (xQ N x room s ms))/\Hid (∃i f g h c d a,cv base pb name room N s (if xQ N x room s ms=0 then ms++ [x]else ms) [] (nk+201) (λb=>M b\/w.heap.size<=b) w' i f g h c d a/\bO M w w')
theorem cv.deliver(z:cv base pb name room (N+1) s ms [] nk M w ws nm sv vs ma mc Mh)(x:Tm (N+1))(ay:In w.heap.size w (N+1) x)(ap:bZ (λb=>¬M b) (N+1) x)(ai:(av (N+1) x).length<=2097152)(L:∀b,M b->b<w.heap.size)(ao:nk<=49000)(ad:ms.length<=999)(aJ:base<=w.heap.size):ak 78 #[.pointer (some ⟨pb,0,none⟩),df (N+1) x] w (Oc base pb name room (N+1) s ms x nk M w):=by
 have aN:=z.len;obtain⟨aO,aw⟩:=z.box0
 refine(qt pb x.1.1 x.1.2.1 x.1.2.2 x.2.1.1 x.2.2.length x.2.1.2 vs.length mc ma w
  (λh r p q=>r=rJ (N+1) x room (s::ms)/\bO M w q/\w.heap.size<=p.heap.size/\∃o m n i g k j,cv base pb name room (N+1) s ms (if r=0 then [(h,x)]else []) (nk+201) (λb=>(M b\/p.heap.size<=b)/\b<q.heap.size) q o m n i g k j)
  (λh p v E F G=>bO M w v/\w.heap.size<=p.heap.size/\∃o m n i g k j,cv base pb name room (N+1) s ms [(h,x)] (nk+201) (λb=>M b\/p.heap.size<=b) v o m n i g k j/\p9 j g (i++ [h]) v E F G) aw ?_ ?_ ?_).mono ?_
 ·intro q e;obtain⟨X,V,W,f,_⟩:=(z.later e).heap.box;exact(PL.cells f).2.2.2.1
 ·intro p e;have D:=e.size;refine((z.later e).put x ((ay.below e).mono D) ap ai (λb d=>aL (L b d) D) ao ad (by omega)).mono ?_;rintro y q ⟨h,rfl,o,m,n,i,g,k,j,f,u⟩;refine⟨h,_,rfl,⟨u.size,λb aA _ aC=>u.block b aC λd=>?_⟩,rfl,(aV e M).trans u λ_ _ d=>d,D,o,m,n,i,g,k,_,f.inside⟩;have:=L b d;omega
 ·rintro h p q ⟨J,u,T,o,m,n,i,g,k,j,f⟩;rw[if_pos rfl]at f;have aK:=f.len;have I:i.length=vs.length:=by omega
  refine⟨g,k,λv e=>?_,λv e sa c ax=>?_⟩
  ·obtain⟨X,V,W,l,_⟩:=(f.later e).heap.box;rw[I]at l;exact⟨(PL.cells l).2.2.2.1,(PL.cells l).2.2.2.2.1⟩
  ·have t:=f.later e;have D:=e.size;obtain⟨E,F,G,S,C⟩:=sY 96 t.mail (by omega) (λb d=>aL (f.inM b d).2 D) sa c h ax;rw[I]at S;have R:∀b,(∃a,g=some a/\b=a.block)->¬j b/\b<q.heap.size:=λb d=>by
    obtain⟨a,A,rfl⟩:=d;refine⟨λZ=>?_,(f.mailM a A).2⟩;rcases f.mail with⟨y,_⟩|⟨aG,aS,aF,r,ab,_⟩
    ·rw[y]at A;cases A
    ·rw[r]at A;rw[<-au A]at Z;exact ab Z
   obtain⟨aq,ar⟩:=t.box0;have P:G.heap[pb]?=v.heap[pb]? :=C.2.1.block pb ar λd=>(R pb d).1 aq;obtain⟨X,V,W,l,_⟩:=t.heap.box;rw[I]at l;refine⟨E,F,G,S,(bm P 7).trans (PL.cells l).2.2.2.1,λU=>?_,λb aA aB=>C.2.1.block b aB λd=>?_,?_⟩
   ·exact(iN (a:=⟨pb,U,none⟩) P).trans ((PL.cells l).2.2.2.2.1 U)
   ·have:=(R b d).2;omega
   ·exact⟨u.trans (aV e M) λ_ _ d=>d,T,o,m,n,i,g,k,j,t.mono (λb d=>d.1) (aj _),C⟩
 ·rintro y aT ⟨af,l⟩;by_cases K:20<=ms.length
  ·obtain⟨rfl,e⟩:=af (by omega);have B:xQ (N+1) x room s ms=2:=by simp[xQ,K]
   refine⟨by rw[B],ws,nm,sv,vs,ma,mc,Mh,?_,aV e M⟩;rw[B];exact(z.later e).mono (λb d=>ag d) (by omega)
  ·obtain⟨h,r,p,q,rfl,e,⟨J,u,T,o,m,n,i,g,k,j,f⟩,an,al⟩:=l (by omega);have B:xQ (N+1) x room s ms=r:=by simp[xQ,K,J]
   refine⟨by rw[B],?_⟩;rw[B];by_cases H:r=0
   ·obtain⟨v,E,F,G,aI,⟨Q,_,aE,az,aD,Y,aQ,aR,aa,t,C⟩,rfl⟩:=al H;have aM:=t.len;have y:vs.length+1=(Y++ [h]).length:=by simp;omega
    obtain⟨ae,am⟩:=t.more C;rw[y,if_pos H];have aP:=Q.size;refine⟨aE,az,aD,Y++ [h],E,F,aa,ae.mono (λb d=>?_) (aj _),Q.trans am λb aH d=>?_⟩
    ·rcases d with(d|d)|d
     ·exact ag d
     ·exact ah (by omega)
     ·exact ah (by omega)
    ·rcases d with d|d
     ·exact d
     ·omega
   ·have O:=an H;rw[if_neg H]at f ⊢;refine⟨o,m,n,i,g,k,j,(f.later O).mono (λb d=>?_) (aj _),u.trans (aV O M) λ_ _ d=>d⟩;rcases d.1 with d|d
    ·exact ag d
    ·exact ah (by omega)
end
theorem Gf(y:ByteArray)(k i:Int)(t:ByteArray)(l:Option Addr)(n m:Nat)(room:Int)(w:World)(r:Bool)(C:Wd->Int->World->World->Prop)(H:Hid (∀w1:World,ak 64 #[ae y] w1 λe w'=>e=.returned (.bool r)/\w'=w1))(Q:Hid (r=true->∀w1:World,ak 41 #[ae y] w1 λe w'=>e=.returned (ae y)/\ai w1 w'))(P:Hid (0<=room/\room<=1000->∀w2,HB (ci.own (w.heap.size+1)) room (.slice none 0 0) (.slice none 0 0) (.map none) w2->w2.heap.size=w.heap.size+1+1->ai w w2->ak 66 #[.pointer (some ⟨w.heap.size+1,0,none⟩),.agg #[ab k,ab i,ae t,.slice l n m]] w2 λe b=>∃(v:Wd)(c:Int),e=.returned (.tuple #[.agg #[ab v.1,ab v.2],ab c])/\Hid (∃tv lv mv,b.heap[w.heap.size+1]?=some (.cells #[ab room,tv,lv,mv] 103)/\C v c w2 b))):ak 39 #[ae y,.agg #[ab k,ab i,ae t,.slice l n m],ab room] w λe w'=> (r=false->e=.returned (.tuple #[.pointer none,ab 5])/\ai w w')/\(r=true->¬(0<=room/\room<=1000)->e=.returned (.tuple #[.pointer none,ab 1])/\ai w w')/\ (r=true->0<=room/\room<=1000->∃(v:Wd)(c:Int)(w2 b:World),Hid (ai w w2/\w2.heap.size=w.heap.size+1+1/\C v c w2 b)/\(c≠0->e=.returned (.tuple #[.pointer none,ab c])/\ai b w')/\ (c=0->∃(s:World)(tv lv mv:Value),e=.returned (.tuple #[.pointer (some ⟨s.heap.size,0,none⟩),ab 0])/\ai b s/\b.heap[w.heap.size+1]?=some (.cells #[ab room,tv,lv,mv] 103)/\w'=s.alloc (.cells #[ae y,ab room,tv,lv,mv,ab v.1,ab v.2,.slice none 0 0] 107))):=by
 have O:=ao (wu w (.cells #[ab k,ab i,ae t,.slice l n m] 30) rfl);have o:Hid (ai w (w.alloc (.cells #[ab k,ab i,ae t,.slice l n m] 30))/\(w.alloc (.cells #[ab k,ab i,ae t,.slice l n m] 30)).heap.size=w.heap.size+1):=⟨by go_grown,by simp⟩;cases r with
 | false=>
  go_enter Tryz.func39,Tryz.ntmps39;go_wp2_with (go_at_call 64;refine(H.out _).mono ?_;rintro e w1 ⟨rfl,rfl⟩);exact ar (v:=.tuple #[.pointer none,ab 5]) (by simp[results,Tryz.results39,go_sem]) rfl ⟨λ_=>⟨rfl,o.out.1⟩,λa=>(by cases a),λa=>(by cases a)⟩
 | true=>
  have R:=ao (Q.out rfl);go_enter Tryz.func39,Tryz.ntmps39;go_wp2_with (go_at_call 64;refine(H.out _).mono ?_;rintro e w1 ⟨rfl,rfl⟩);refine(Le _ _).mono ?_;rintro e w2 ⟨p,g⟩;by_cases q:0<=room/\room<=1000;rotate_left
  ·obtain⟨rfl,rfl⟩:=p q;clear p g;go_wp2_with fail;exact ar (v:=.tuple #[.pointer none,ab 1]) (by simp[results,Tryz.results39,go_sem]) rfl ⟨λa=>(by cases a),λ_ _=>⟨rfl,o.out.1⟩,λ_ a=>absurd a q⟩
  ·obtain⟨rfl,d⟩:=g q;clear p g;replace d:=ao d;rw[o.out.2]at d;have G:Hid (ai w w2):=o.out.1.trans (d.out.2.2.mono (by first|exact fe _|exact o.out.1.size));have I:=ao (P.out q w2 d.out.1 d.out.2.1 G.out);have x:Hid (w2.heap[w.heap.size]?=some (.cells #[ab k,ab i,ae t,.slice l n m] 30)):=(d.out.2.2.block _ (by have:=o.out.2;omega)).trans O.out;have S:w2.cell? ⟨w.heap.size,0,none⟩=some (ab k):=aq x.out 0;have T:w2.cell? ⟨w.heap.size,1,none⟩=some (ab i):=aq x.out 1;have U:w2.cell? ⟨w.heap.size,2,none⟩=some (ae t):=aq x.out 2;have V:w2.cell? ⟨w.heap.size,3,none⟩=some (.slice l n m):=aq x.out 3;go_wp2_with fail;refine I.out.mono ?_;rintro e b ⟨v,c,rfl,F⟩;obtain⟨tv,lv,mv,u,z⟩:=F.out;replace u:=ao u;replace z:=ao (show ai w w2/\w2.heap.size=w.heap.size+1+1/\C v c w2 b from⟨G.out,d.out.2.1,z⟩);clear F I S T U V x d;by_cases E:c=0;rotate_left
   ·have W:¬(0:Int)=c:=λe=>E e.symm;go_wp2_with fail;exact ar (v:=.tuple #[.pointer none,ab c]) (by simp[results,Tryz.results39,go_sem]) rfl ⟨λa=>(by cases a),λ_ a=>absurd q a,λ_ _=>⟨v,c,w2,b,z,λ_=>⟨rfl,aK⟩,λa=>absurd a E⟩⟩
   ·subst E;go_wp2_with fail;have J:Hid (∃j h,(j=b.alloc (.cells #[ab v.1,ab v.2] 105)/\h=b.heap.size)/\ai b j/\j.heap[h]?=some (.cells #[ab v.1,ab v.2] 105)):=⟨_,_,⟨rfl,rfl⟩,aK,az _ _⟩;obtain⟨j,h,⟨N,M⟩,f⟩:=J.out;rw[<-N,<-M];replace f:=ao f;clear N M J;have B:Hid (∀w':World,ai j w'->w'.cell? ⟨w.heap.size+1,0,none⟩=some (ab room)/\w'.cell? ⟨w.heap.size+1,1,none⟩=some tv/\w'.cell? ⟨w.heap.size+1,2,none⟩=some lv/\w'.cell? ⟨w.heap.size+1,3,none⟩=some mv/\w'.cell? ⟨h,0,none⟩=some (ab v.1)/\w'.cell? ⟨h,1,none⟩=some (ab v.2)):=λw' a=>by
     have p:=(a.block h (aC.1 f.out.2).1).trans f.out.2;have L:=(aC.1 u.out).1;have g:=(a.block _ (aL L f.out.1.size)).trans ((f.out.1.block _ L).trans u.out);exact⟨aq g 0,aq g 1,aq g 2,aq g 3,aq p 0,aq p 1⟩
    obtain⟨X,Y,Z,aa,ad,af⟩:=B.out j (am _ _);have D:Hid (ai j j.drew):=(am _ _).drew
    go_region_held3 (λw'=>w'.cell? ⟨w.heap.size+1,0,none⟩=some (ab room)/\w'.cell? ⟨w.heap.size+1,1,none⟩=some tv/\w'.cell? ⟨w.heap.size+1,2,none⟩=some lv/\w'.cell? ⟨w.heap.size+1,3,none⟩=some mv/\w'.cell? ⟨h,0,none⟩=some (ab v.1)/\w'.cell? ⟨h,1,none⟩=some (ab v.2)) (first|(go_keep;done)|with_reducible exact B.out _ D.out|exact B.out _ A.out|exact B.out _ (A.out.trans (aK.mono A.out.size)))
     ((go_at_call 41;refine(R.out _).mono ?_;rintro e s ⟨rfl,K⟩;have A:=ao (D.out.trans (K.mono D.out.size));clear K))
    go_wp2_with fail;exact ar (v:=.tuple #[.pointer (some ⟨s.heap.size,0,none⟩),ab 0]) (by simp[results,Tryz.results39,go_sem]) rfl ⟨λa=>(by cases a),λ_ a=>absurd q a,λ_ _=>⟨v,0,w2,b,z,λa=>absurd rfl a,λ_=>⟨s,tv,lv,mv,rfl,f.out.1.trans (A.out.mono f.out.1.size),u.out,rfl⟩⟩⟩
def fQ(N:Nat)(x:Tm N)(room:Int)(name:ByteArray):Int:=if dE name=false then 5 else if¬(0<=room/\room<=1000)then 1 else jo N x room []
def NF(N:Nat)(x:Tm N)(room:Int)(name:ByteArray)(w:World)(e:Ending)(w':World):Prop:=
 (fQ N x room name≠0->e=.returned (.tuple #[.pointer none,ab (fQ N x room name)])/\ai w w')/\
 (fQ N x room name=0->∃a,e=.returned (.tuple #[.pointer (some ⟨a,0,none⟩),ab 0])/\Hid (w.heap.size<=a/\ai w w'/\∃g d f c,cv w.heap.size a name room N x [] [] 201 (λb=>w.heap.size<=b/\b<w'.heap.size) w' g d f [] none 0 c))
theorem wj{s:ByteArray}(a:dE s=true):s.size<=2048:=by
 simp only[dE,pY,aB,bX]at a;omega
theorem In.offBelow{B:Nat}{w:World}:{n:Nat}->{x:Tm n}->In B w n x->bZ (λb=>b<B) n x
 | 0,_,k=>k
 | _+1,_,k=>by
  obtain⟨_,a⟩:=k;rcases a with a|⟨b,o,e,c,a⟩
  ·exact ag a
  ·exact ah ⟨b,o,e,c,λi y d=>(a i y d).2.offBelow⟩
theorem AS(N:Nat)(x:Tm (N+1))(room:Int)(name:ByteArray)(w:World)(ay:name.size<=9223372036854775807)(O:In w.heap.size w (N+1) x)(al:(av (N+1) x).length<=2097152):ak 39 #[ae name,df (N+1) x,ab room] w (NF (N+1) x room name w):=by
 refine(Gf name x.1.1 x.1.2.1 x.1.2.2 x.2.1.1 x.2.2.length x.2.1.2 room w (dE name) (λe l o p=>ai w p/\xx (N+1) x w.heap.size (ci.own (w.heap.size+1)) room [] [] (λb=>b=w.heap.size+1) e l o p) ?_ ?_ ?_).mono ?_
 ·intro D;exact ip name D ay
 ·intro a D;exact dF name D (wj a)
 ·intro d o H aJ m;have s:=m.size;have ad:dy w.heap.size (ci.own (w.heap.size+1)) room [] [] (λb=>b=w.heap.size+1) o:=⟨.slice none 0 0,.slice none 0 0,.map none,H,ek _ _ _ _,⟨ek _ _ _ _,by simp,ag ⟨rfl,rfl,rfl⟩⟩,rfl,λb f=>by simp[Value.ownBlock]at f,λb f=>by simp[Value.ownBlock]at f,λb f=>by simp[mapBlock]at f⟩;refine(uj (N+1) x w.heap.size (ci.own (w.heap.size+1)) room [] [] (λb=>b=w.heap.size+1) o ad ((O.below m).mono s) ((In.offBelow O).mono λb c f=>by omega) al s d.1 d.2 (by simp) (by simp)).mono ?_;intro f p aw;obtain⟨e,l,rfl,i⟩:=yu aw;have I:∀{E:Nat->Prop},bO E o p->(∀b,E b->w.heap.size<=b)->ai w p:=λk am=>⟨k.os.trans m.os,k.tape.trans m.tape,k.output.trans m.output,ax s k.size,λb L=>(k.block b (aL L s) λc=>by have:=am b c;omega).trans (m.block b L)⟩;refine⟨e,l,rfl,?_⟩;by_cases g:l=0
  ·obtain⟨_,_,t,P⟩:=i.2.2 g;obtain⟨C,A,B,aj,_⟩:=t;exact⟨C,A,B,aj.2,I P λb c=>by omega,i⟩
  ·have n:=(i.2.1 g).2;exact⟨_,_,_,(n.block _ (by omega)).trans H.2,I (aV n λ_=>False) λb c=>c.elim,i⟩
 ·rintro f aO ⟨X,Y,Z⟩;cases hn:dE name with
  | false=>
   have h:fQ (N+1) x room name=5:=by simp[fQ,hn]
   refine⟨λ_=>by rw[h];exact X hn,λa=>by rw[h]at a;cases a⟩
  | true=>
   by_cases d:0<=room/\room<=1000;rotate_left
   ·have h:fQ (N+1) x room name=1:=by simp[fQ,hn,d]
    refine⟨λ_=>by rw[h];exact Y hn d,λa=>by rw[h]at a;cases a⟩
   ·obtain⟨e,l,o,p,Q,d1,aa⟩:=Z hn d;obtain⟨aG,aM,n,i⟩:=Q.out;have h:fQ (N+1) x room name=l:=by rw[i.1];simp[fQ,hn,d]
    have M:=n.size;rw[NF,h];refine⟨λg=>⟨(d1 g).1,n.trans ((d1 g).2.mono M)⟩,λg=>?_⟩;obtain⟨j,C,A,B,rfl,r,J,rfl⟩:=aa g;have aI:=r.size;obtain⟨K,aA,t,P⟩:=i.2.2 g;have aq:=t.nodup;have af:=(t.later r);obtain⟨y,u,v,R,S,T,aF,U,V,W⟩:=af;have ao:=(aC.1 J).1;have F:(Obj.cells #[ab room,y,u,v] 103)=(Obj.cells #[ab room,C,A,B] 103):=au (R.2.symm.trans ((r.block _ ao).trans J));simp only[Obj.cells.injEq,Array.mk.injEq,l6,and_true,true_and]at F;obtain⟨rfl,rfl,rfl⟩:=F;have z:ai j (j.alloc (.cells #[ae name,ab room,y,u,v,ab e.1,ab e.2,.slice none 0 0] 107)):=aK;have aB:(j.alloc (.cells #[ae name,ab room,y,u,v,ab e.1,ab e.2,.slice none 0 0] 107)).heap.size=j.heap.size+1:=by simp
    refine⟨j.heap.size,rfl,by omega,(n.trans (r.mono M)).trans (z.mono (by omega)),(aS (N+1) x [] []).2.1,(aS (N+1) x [] []).2.2,e,λb=>b=j.heap.size\/(w.heap.size<=b/\b<j.heap.size),?_⟩;have an:jz (N+1) [] [] room [] ([]:List (Tm (N+1))):=⟨⟨rfl,λaN e aD a=>by simp at a⟩,by simp,λaD a=>by simp at a,by simp,by simp;exact d.1,d.1,d.2,by simp⟩;have ap:=an.lay x K aq;have ar:=(iq (N+1) x [] []).2;have aH:=nu K.1;simp only[jZ]at ar;refine⟨⟨y,u,v,⟨⟨rfl,ah rfl⟩,az _ _⟩,dK S (aV z λ_=>False) (λ_ _ c=>c),T.kept (aV z λ_=>False) (λ_ _ c=>c) (λ_ _ c=>c),ag rfl,λb c=>ah ?_,λb c=>ah ?_,λb c=>ah ?_⟩,ag ⟨rfl,rfl,rfl⟩,?_,rfl,by omega,λb c=>?_,λaE a=>by cases a⟩
    ·have a:=U b c;have G:=a.2;rcases a.1 with q|q<;>exact⟨by omega,by omega⟩
    ·have a:=V b c;have G:=a.2;rcases a.1 with q|q<;>exact⟨by omega,by omega⟩
    ·have a:=W b c;have G:=a.2;rcases a.1 with q|q<;>exact⟨by omega,by omega⟩
    ·rw[aA];exact ap
    ·rw[aB];rcases c with c|c<;>exact⟨by omega,by omega⟩
def tx(w:World)(c:Nat)(a b:Int):World:=(w.setCell ⟨c,5,none⟩ (ab a)).setCell ⟨c,6,none⟩ (ab b)
def Oa(b d e:Nat)(g t1:Int)(t2:ByteArray)(h:Option Addr)(j i:Nat)(s0 s1:Int)(f:ByteArray)(sa:Option Addr)(sl sc:Nat)(W:World):Prop:=
 W.heap[d]?=some (.cells #[ab g,ab t1,ae t2,.slice h j i] 30)/\W.heap[e]?=some (.cells #[ab s0,ab s1,ae f,.slice sa sl sc] 30)/\(∃a,W.cell? ⟨b,5,none⟩=some (ab a))/\(∃a,W.cell? ⟨b,6,none⟩=some (ab a))/\∀c,W.frozen? ⟨b,c,none⟩=false
theorem zu(m t1:Int)(t2:ByteArray)(n:Option Addr)(q o:Nat)(c:Nat)(w:World)(S:Int->Int->ByteArray->Option Addr->Nat->Nat->World->Prop)(P1:World->Wd->Int->World->Prop)(R:Bool->World->Prop)(aI:Hid (∀W,ai w W->ak 24 #[.pointer (some ⟨c,0,none⟩)] W λe w'=>∃s0 s1 h sa sl sc,e=.returned (.agg #[ab s0,ab s1,ae h,.slice sa sl sc])/\Hid (ai W w'/\S s0 s1 h sa sl sc w')))(aD:Hid (∀W,ai w W->(∃a,W.cell? ⟨c,5,none⟩=some (ab a))/\(∃a,W.cell? ⟨c,6,none⟩=some (ab a))/\(∀j,W.frozen? ⟨c,j,none⟩=false)/\c<w.heap.size))(aH:Hid (∀s0 s1 h sa sl sc aP I g i,S s0 s1 h sa sl sc aP->ai aP I->ai w I->w.heap.size<=g->w.heap.size<=i->Oa c g i m t1 t2 n q o s0 s1 h sa sl sc (tx I c 1 0)->ak 109 #[.pointer (some ⟨c,0,none⟩),.agg #[ab m,ab t1,ae t2,.slice n q o]] (tx I c 1 0) λe w'=>∃(v:Wd)(s:Int),e=.returned (.tuple #[.agg #[ab v.1,ab v.2],ab s])/\Hid (Oa c g i m t1 t2 n q o s0 s1 h sa sl sc w'/\P1 I v s w'/\ (s=0->∀W,ai w' W->R true (tx W c v.1 v.2))/\ (s≠0->∀W d,ai w' W->w'.heap.size<=d->d<W.heap.size->ak 109 #[.pointer (some ⟨c,0,none⟩),.agg #[ab s0,ab s1,ae h,.slice sa sl sc]] W λe M=>∃(v2:Wd)(aQ:Int),e=.returned (.tuple #[.agg #[ab v2.1,ab v2.2],ab aQ])/\Hid ((∀a5,W.heap[d]?=some a5->M.heap[d]?=some a5)/\((∃a,M.cell? ⟨c,5,none⟩=some (ab a))/\(∃a,M.cell? ⟨c,6,none⟩=some (ab a))/\∀j,M.frozen? ⟨c,j,none⟩=false)/\∀aO,bk (λb=>b=d) M aO->R false (tx aO c v2.1 v2.2)))))):ak 104 #[.pointer (some ⟨c,0,none⟩),.agg #[ab m,ab t1,ae t2,.slice n q o]] w λe w'=>∃t,e=.returned (.bool t)/\Hid (R t w'):=by
 have aK:Hid (∃Z l,(Z=w.alloc (.cells #[ab m,ab t1,ae t2,.slice n q o] 30)/\l=w.heap.size)/\ai w Z/\Z.heap[l]?=some (.cells #[ab m,ab t1,ae t2,.slice n q o] 30)/\w.heap.size<=l):=⟨_,_,⟨rfl,rfl⟩,(am _ _).alloc (aj _) _,az _ _,aj _⟩;go_enter Tryz.func104,Tryz.ntmps104;go_wp2_with fail;obtain⟨Z,g,⟨a1,a0⟩,aS,K,aX⟩:=aK.out;rw[<-a1,<-a0];have ad:=ao aS;have y:=ao K;have aE:=ao aX;clear a1 a0 aS K aX aK;refine(aI.out _ ad.out).mono ?_;rintro e aa ⟨s0,s1,h,sa,sl,sc,rfl,N⟩;have P:=ao (ad.out.trans (N.out.1.mono ad.out.size));have aL:Hid (∃k l,(k=aa.alloc (.cells #[ab s0,ab s1,ae h,.slice sa sl sc] 30)/\l=aa.heap.size)/\ai aa k/\k.heap[l]?=some (.cells #[ab s0,ab s1,ae h,.slice sa sl sc] 30)/\w.heap.size<=l/\k.heap[g]?=some (.cells #[ab m,ab t1,ae t2,.slice n q o] 30)):=by
  have bd:=(aC.1 y.out).1;have aR:=(N.out.1.block g bd).trans y.out;exact⟨_,_,⟨rfl,rfl⟩,(am _ _).alloc (aj _) _,az _ _,P.out.size,(((am _ _).alloc (aj _) _).block g (aC.1 aR).1).trans aR⟩
 have aJ:=ao N.out.2;clear N aI y;go_upto_region 2 with fail;obtain⟨k,i,⟨a2,u⟩,aw,aU,aY,K⟩:=aL.out;rw[<-a2,<-u];have ah:=ao (P.out.trans (aw.mono P.out.size));have aB:=ao aw;have an:=ao aU;have y:=ao K;have aF:=ao aY;clear a2 u aw aU aY K aL;obtain⟨⟨bl,a8⟩,⟨bm,a9⟩,U,bq⟩:=aD.out k ah.out;have ap:=U 5;have aq:=U 6;have x:Hid (Oa c g i m t1 t2 n q o s0 s1 h sa sl sc (tx k c 1 0)):=by
  have aW:bk (λb=>b=c) k (tx k c 1 0):=bk.trans (bt k c 5 _) (bt _ c 6 _) λ_ _ e=>e;refine⟨(aW.block g (aC.1 y.out).1 (by have:=aE.out;omega)).trans y.out,(aW.block i (aC.1 an.out).1 (by have:=aF.out;omega)).trans an.out,⟨1,?_⟩,⟨0,?_⟩,λj=>?_⟩
  ·exact(dl 5 (by decide)).trans (gJ _ _ _ a8)
  ·exact gJ _ _ _ ((dl 6 (by decide)).trans a9)
  ·unfold tx;rw[gu,gu];exact U j
 have al:=ao (aH.out s0 s1 h sa sl sc aa k g i aJ.out aB.out ah.out aE.out aF.out x.out);clear aH U aD;go_upto_region 3 with fail;obtain⟨F,X⟩:∃F,F=tx k c 1 0:=⟨_,rfl⟩;rw[<-X]at al x;unfold tx at X;rw[<-X];have bg:F.cell? ⟨g,0,none⟩=some (ab m):=af x.out.1 0;have bh:F.cell? ⟨g,1,none⟩=some (ab t1):=af x.out.1 1;have bi:F.cell? ⟨g,2,none⟩=some (ae t2):=af x.out.1 2;have bj:F.cell? ⟨g,3,none⟩=some (.slice n q o):=af x.out.1 3;clear X a8 a9 ap aq y an ah aB P aJ x;go_wp2_with fail;refine al.out.mono ?_;rintro e G ⟨v,s,rfl,r⟩;have aM:Hid (∃f l,(f=G.alloc (.cells #[ab v.1,ab v.2] 105)/\l=G.heap.size)/\ai G f/\f.heap[l]?=some (.cells #[ab v.1,ab v.2] 105)/\G.heap.size<=l):=⟨_,_,⟨rfl,rfl⟩,(am _ _).alloc (aj _) _,az _ _,aj _⟩;go_upto_region 4 with fail;obtain⟨f,d,⟨a3,A⟩,aT,aV,aZ⟩:=aM.out;rw[<-a3,<-A];have D:=ao aT;have T:=ao aV;have aG:=ao aZ;clear a3 A aT aV aZ aM bg bh bi bj al;have Q:Hid (c<G.heap.size):=by
  obtain⟨a,av⟩:=r.out.1.2.2.1;exact fh G ⟨c,5,none⟩ av
 have ba:Hid ((∃a,f.cell? ⟨c,5,none⟩=some (ab a))/\(∃a,f.cell? ⟨c,6,none⟩=some (ab a))/\∀j,f.frozen? ⟨c,j,none⟩=false):=by
  obtain⟨_,_,⟨a,av⟩,⟨b,bc⟩,z⟩:=r.out.1;refine⟨⟨a,(D.out.cell (p:=⟨c,5,none⟩) Q.out).trans av⟩,⟨b,(D.out.cell (p:=⟨c,6,none⟩) Q.out).trans bc⟩,λj=>?_⟩;have z:=z j;unfold World.frozen? at z ⊢;rw[D.out.block c Q.out];exact z
 have bn:f.cell? ⟨d,0,none⟩=some (ab v.1):=af T.out 0;have bo:f.cell? ⟨d,1,none⟩=some (ab v.2):=af T.out 1;by_cases J:s=0
 ·have H:=ao (r.out.2.2.1 J f D.out);unfold tx at H;obtain⟨⟨a,Y⟩,⟨b,ay⟩,E⟩:=ba.out;have ap:=E 5;have aq:=E 6;clear E r;subst J;go_wp2_with fail
  go_ret
  exact⟨true,rfl,H.out⟩
 ·have bp:¬(0:Int)=s:=λe=>J e.symm;have bb:=ao (r.out.2.2.2 J f d D.out aG.out (aC.1 T.out).1);have u:=(D.out.block i (aC.1 r.out.1.2.1).1).trans r.out.1.2.1;have bu:f.cell? ⟨i,0,none⟩=some (ab s0):=af u 0;have bv:f.cell? ⟨i,1,none⟩=some (ab s1):=af u 1;have bw:f.cell? ⟨i,2,none⟩=some (ae h):=af u 2;have bx:f.cell? ⟨i,3,none⟩=some (.slice sa sl sc):=af u 3;clear u r;go_wp2_with fail;refine bb.out.mono ?_;rintro e B ⟨v2,aQ,rfl,O⟩;have A:=O.out.1 _ T.out;have a6:B.cell? ⟨d,0,none⟩=some (ab v.1):=af A 0;have a7:B.cell? ⟨d,1,none⟩=some (ab v.2):=af A 1;have aA:∀j,B.frozen? ⟨d,j,none⟩=false:=λj=>by simp[World.frozen?,A]
  have be:=aA 0;have bf:=aA 1;have aN:Hid (∃C,C=(B.setCell ⟨d,0,none⟩ (ab v2.1)).setCell ⟨d,1,none⟩ (ab v2.2)/\(C.cell? ⟨d,0,none⟩=some (ab v2.1)/\C.cell? ⟨d,1,none⟩=some (ab v2.2))/\bk (λb=>b=d) B C):=by
   refine⟨_,rfl,⟨?_,?_⟩,bk.trans (bt B d 0 _) (bt _ d 1 _) λ_ _ e=>e⟩
   ·exact(dl 0 (by decide)).trans (gJ _ _ _ a6)
   ·exact gJ _ _ _ ((dl 1 (by decide)).trans a7)
  clear aA A;go_upto_region 6 with fail;obtain⟨C,a4,⟨y0,y1⟩,L⟩:=aN.out;rw[<-a4];have H:=ao (O.out.2.2 C L);unfold tx at H;obtain⟨⟨a,Y⟩,⟨b,ay⟩,E⟩:=O.out.2.1;have V:=fh B ⟨c,5,none⟩ Y;have ax:c≠d:=by have:=Q.out;have:=aG.out;omega
  have br:=(L.cell 5 V ax).trans Y;have bs:=(L.cell 6 V ax).trans ay;have au:∀j,C.frozen? ⟨c,j,none⟩=false:=λj=>by
   have z:=E j;unfold World.frozen? at z ⊢;rw[L.block c V ax];exact z
  have ap:=au 5;have aq:=au 6;clear a4 aN L Y ay E au O a6 a7 be bf V;go_wp2_with fail;exact ar (v:=.bool (s==0)) (by simp[results,Tryz.results104,go_sem]) rfl (ag ⟨bK (by simpa using J),H.out⟩)
end Go.Proofs.YtckamaoibonjcaaGreat
