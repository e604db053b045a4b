/- What is proved here: plain facts and contracts that the claimed theorem stands on. No condition but those that each names. -/
import Derived.Test.YtckamaoibonjcaaGreatH25
namespace Go.Proofs.YtckamaoibonjcaaGreat
open Go.RowKit
open Go.RowKit Go.Maps
set_option maxRecDepth 100000
set_option maxHeartbeats 1000000
theorem ru{n:Nat}(s m:Tc):(l:List (Cl (n+1)))->(∀c∈l,kK c s m=none)->lD s m l=none
 | [],_=>rfl
 | c::l,h=>by
  simp only[lD,h c (by simp)];exact ru s m l λc a=>h c (bH _ a)
theorem vR{n:Nat}(s m:Tc):(l:List (Cl (n+1)))->(j:Nat)->(c:Cl (n+1))->(B:List Tc)->l[j]?=some c->kK c s m=some B->(∀d b,d<j->l[d]?=some b->kK b s m=none)->lD s m l=some (c,B)
 | [],j,c,B,h,_,_=>by simp at h
 | a::l,0,c,B,h,hB,_=>by
  simp only[cI,iM]at h;subst h;simp only[lD,hB]
 | a::l,j+1,c,B,h,hB,hn=>by
  simp only[lD,hn 0 a (by omega) rfl];exact vR s m l j c B (by simpa using h) hB λd b f e=>hn (d+1) b (by omega) (by simpa using e)
theorem zE{n:Nat}(l:List (Cl (n+1)))(s:Tc):(ms:List Tc)->(k:Nat)->(∀m∈ms,lD s m l=none)->rq l s ms k=none
 | [],_,_=>rfl
 | m::ms,k,h=>by
  simp only[rq,h m (by simp)];exact zE l s ms (k+1) λm a=>h m (bH _ a)
theorem zF{n:Nat}(l:List (Cl (n+1)))(s:Tc):(ms:List Tc)->(k i:Nat)->(m:Tc)->(x:Cl (n+1)×List Tc)->ms[i]?=some m->lD s m l=some x->(∀b c,b<i->ms[b]?=some c->lD s c l=none)->rq l s ms k=some (k+i,x)
 | [],k,i,m,x,h,_,_=>by simp at h
 | a::ms,k,0,m,x,h,hx,_=>by
  simp only[cI,iM]at h;subst h;simp only[rq,hx,iL]
 | a::ms,k,i+1,m,x,h,hx,hn=>by
  simp only[rq,hn 0 a (by omega) rfl];rw[zF l s ms (k+1) i m x (by simpa using h) hx λb c e d=>hn (b+1) c (by omega) (by simpa using d)];congr 2;omega
def OH{n:Nat}(l:List (Cl (n+1)))(s:Tc)(ms:List Tc)(w:World)(e:Ending)(w':World):Prop:=
 (rq l s ms 0=none/\e=.returned (.tuple #[.agg EW.toArray,.bool false])/\Hid (ai w w'))\/
  ∃(d:Nat)(a:Tc)(c:Cl (n+1))(b g:Nat),e=.returned (.tuple #[.agg (B7 d a c (some ⟨b,0,none⟩) 4 g).toArray,.bool true])/\Hid (∃f i j,rq l s ms 0=some (d,c,f)/\c∈l/\ms[d]?=some (cn 13 a)/\bq 13 a=0/\ai w w'/\In w'.heap.size w' 13 a/\bZ (λh=>w.heap.size<h/\h≠b) 13 a/\p7 (i+1) j f (w.heap.size+1) w' b g)
theorem p7.kept{D:Nat}{l:List (Tm D)}{B:List Tc}{e:Nat}{w w':World}{c g q:Nat}(a:p7 D l B e w c g)(d:bk (λb=>b=q) w w')(v:q<e):p7 D l B e w' c g:=by
 obtain⟨k,f⟩:=a.new;have i:¬c=q:=by omega
 refine⟨a.bnd,a.tells,a.cap,⟨k,aL f d.size⟩,λo t n=>?_,λp=>?_⟩
 ·obtain⟨r,s,j⟩:=a.at' o t n;exact⟨r.kee d f i,s.kee d (j.mono λx m u=>by have:=m.1;omega),j⟩
 ·have h:=a.free p;unfold World.frozen? at h ⊢;rw[d.block c f i];exact h
theorem p7.mono{D:Nat}{l:List (Tm D)}{B:List Tc}{e f:Nat}{w:World}{h g:Nat}(a:p7 D l B e w h g)(j:f<=e):p7 D l B f w h g:=
 ⟨a.bnd,a.tells,a.cap,⟨by have:=a.new.1;omega,a.new.2⟩,λc d b=>⟨(a.at' c d b).1,(a.at' c d b).2.1,(a.at' c d b).2.2.mono λk i=>⟨by omega,i.2⟩⟩,a.free⟩
theorem B9{n bC ar:Nat}{name:ByteArray}{room:Int}{s:Tc}{ms:List Tc}{aY:Nat}{M:Nat->Prop}{w:World}{ws:List Wd}{nm:List ByteArray}{bF:Wd}{vs:List Wd}{ma:Option Addr}{bz:Nat}{Mh:Nat->Prop}(an:cv bC ar name room 13 s ms [] aY M w ws nm bF vs ma bz Mh)(l:List (Cl (n+1)))(aq:Option Addr)(aV B:Nat)(aO:pr B w 13 (eO (n+1)) (gL (n+1) B w) aq l)(aD:B<=w.heap.size)(br:∀c∈l,pj c)(aR:aY<=50000)(ba:ms.length<=1000)(bm:l.length<=1000000):ak 69 #[.pointer (some ⟨ar,0,none⟩),.slice aq l.length aV] w (OH l (cn 13 s) (ms.map (cn 13)) w):=by
 have aL:=an.front;have aU:=aL.2.2.1 s (by simp);have aQ:∀m∈ms,bq 13 m=0/\aH 13 m=true:=λm af=>aL.2.2.1 m (bH _ af)
 refine(zD (N:=12) ar l aq l.length aV ms.length w (λa j=>match l[j]?,ms[a]? with
     | some c,some m=>(kK c (cn 13 s) (cn 13 m)).isSome
     | _,_=>false)
  (λF G u=>aw 13 F 13 s=true/\In u.heap.size u 13 F/\ay (λp b=>aw 13 p 13 b) G ms=true/\ai w u/\∀e∈G,In u.heap.size u 13 e/\bZ (λU=>w.heap.size<U) 13 e)
  (λa j p len I r a6=>∃c m h q E v,l[j]?=some c/\ms[a]?=some m/\kK c (cn 13 s) (cn 13 m)=some h/\p=some ⟨v,0,none⟩/\len=4/\p7 (q+1) E h r.heap.size a6 v I) bm (by omega) rfl ?_ ?_ ?_).mono ?_
 ·intro a c z;rcases aO with g|⟨b,o,g,aI,d⟩
  ·rw[g]at z;simp at z
  ·exact⟨b,o,g,by omega,(d a c z).1⟩
 ·intro r i bn;refine((an.later (N:=12) i).state (N:=12) aR).mono ?_;rintro g bT ⟨e,rfl,a4⟩;obtain⟨y1,y2,a2,bJ⟩:=a4.out;refine⟨e,rfl,y1,λaA L=>?_⟩;have y:=i.trans (y1.mono i.size);have t:=y.trans (L.mono y.size);refine((an.later (N:=12) t).mails (N:=12) aR ba).mono ?_;rintro g bI ⟨G,a5,p,c,rfl,a3⟩;obtain⟨aW,T,aX⟩:=a3.out;have bb:a5=ms.length:=by rw[<-aW];exact cw _ _ _ aX
  subst bb;have O:ai aA bI:=T.1;have bR:=i.size;have aS:=y1.size;have aT:=L.size;obtain⟨bN,Y,J,aB,Z,_⟩:=eU.lay (dM 13) (f:=gX 13) (λ_=>rfl) T;injection J with J bO bP;subst J;refine⟨p,c,G,rfl,aW,O,λa X C=>?_,bJ,((y2.below L).mono L.size |>.below O).mono O.size,aX,t.trans (O.mono t.size),λX C=>⟨(T.2.2 X C).1,(T.2.2 X C).2.mono λU S=>?_⟩⟩
  ·rcases Z with Z|⟨a9,o,a8,P,d⟩
   ·rw[Z]at C;simp at C
   ·exact⟨a9,o,a8,P,(d a X C).1⟩
  ·rcases S.1 with bM|bM
   ·omega
   ·omega
 ·rintro F G u r a j e c ⟨V,a1,W,av,az⟩ i A d;have bt:=aG A;have bl:a<ms.length:=by
   have:=(aM.1 A).1;rw[cw _ _ _ W]at this;exact this
  have am:ms[a]?=some ms[a]:=aE bl;have D:=iZ _ _ _ W a e ms[a] A am;have R:=aQ ms[a] (je _);have bh:=aG d;obtain⟨bA,bB,_⟩:=br c bh;have bf:gL (n+1) B w c:=by
   rcases aO with g|⟨b,o,g,aI,be⟩
   ·rw[g]at d;simp at d
   ·exact(be j c d).2
  have aK:=av.trans (i.mono av.size);have bd:gL (n+1) r.heap.size r c:=(dU (n+1)).mono (ax aD aK.size) ((dU (n+1)).below (aK.mono aD) bf);have bj:=Gb c (n:=n) (m:=12) (k:=12) F e r.heap.size r bd ((a1.below i).mono i.size) (((az e bt).1.below i).mono i.size) (aj _) bA bB ((bL V).trans aU.1) ((cr _ _ _ _ V).trans aU.2) ((bL D).trans R.1) ((cr _ _ _ _ D).trans R.2);refine bj.mono ?_;rintro g bG ⟨p,len,I,bE,rfl,H⟩;obtain⟨aa,x,aC⟩:=H.out;have J:cn (12+1) F=cn 13 s:=gR V;have aB:cn (12+1) e=cn 13 ms[a]:=gR D;rw[J,aB]at x aC
  have ab:(match l[j]?,ms[a]? with
   | some c,some m=>(kK c (cn 13 s) (cn 13 m)).isSome
   | _,_=>false)=bE:=by
   rw[d,am];exact x.symm
  refine⟨p,len,I,by rw[ab],aa,λP=>?_⟩;rw[ab]at P;rw[P]at x;obtain⟨h,aF⟩:=fJ.1 x.symm;obtain⟨bv,q,E,v,bw,ap⟩:=aC h aF;cases q with
  | zero=>
   have bQ:=(gQ ap.bnd).1;exact((ap.at' 0 (E[0]'(by omega)) (aE _)).2.1).elim
  | succ q=>exact⟨c,ms[a],h,q,E,v,d,am,aF,bw,bv,ap⟩
 ·rintro g bG (⟨rfl,H⟩|⟨a,j,e,c,p,len,I,rfl,H⟩)
  ·obtain⟨aa,x⟩:=H.out;refine ag ⟨zE l _ _ 0 λm af=>ru _ _ l λc d=>?_,rfl,x⟩;obtain⟨bx,al,rfl⟩:=bU.1 af;obtain⟨a,z,rfl⟩:=List.mem_iff_getElem.1 al;obtain⟨j,aN,rfl⟩:=List.mem_iff_getElem.1 d;have:=aa a j z aN;simp only[aE z,aE aN]at this;exact ke.1 (by rw[<-kh,this];rfl)
  ·obtain⟨F,G,u,aA,a7,⟨V,a1,W,av,az⟩,A,d,ab,bo,bp,aJ,y,t,⟨Y,m,h,q,E,v,aZ,K,bD,rfl,rfl,a0⟩,ae,bn⟩:=H.out;rw[d]at aZ;obtain rfl:=au aZ;have D:=iZ _ _ _ W a e m A K;have R:=aQ m (aG K);have bi:cn 13 e=cn 13 m:=gR D;have bs:=aJ.size;have aS:=y.size;have aT:=t.size;obtain⟨y1,y2⟩:=az e (aG A);have bK:=In.offB y2 y1;have bc:ai w a7:=(aJ.trans (y.mono bs)).trans (t.mono (by omega));refine ah ⟨a,e,c,v,I,rfl,h,q,E,?_,aG d,?_,(bL D).trans R.1,bc.trans (ae.below (by omega) λb aI g=>by omega),?_,bK.mono λU S=>⟨S.1,λg=>?_⟩,(a0.kept ae (by omega)).mono (by omega)⟩
   ·have bg:lD (cn 13 s) (cn 13 m) l=some (c,h):=vR _ _ l j c h d bD λao Y Q ad=>by
      have:=bp ao Q;simp only[ad,K]at this;exact ke.1 (by rw[<-kh,this];rfl)
    have:=zF l (cn 13 s) (ms.map (cn 13)) 0 a (cn 13 m) (c,h) (by rw[dh,K];rfl) bg λbu bS bk aP=>by
     rw[dh]at aP;obtain⟨bx,al,rfl⟩:=cd.1 aP;refine ru _ _ l λY ad=>?_;obtain⟨ao,Q,rfl⟩:=List.mem_iff_getElem.1 ad;have:=bo bu ao bk Q;simp only[aE Q,al]at this;exact ke.1 (by rw[<-kh,this];rfl)
    rw[this,cP]
   ·rw[dh,K,bi];rfl
   ·have a2:=((y1.below y).mono aS |>.below t).mono aT;exact a2.kee ae (y2.mono λU S g=>by omega)
   ·have:=a0.new.1;omega
def sK:List Value:=[ab 0,ab 0]
theorem uT(w:World)(ty:TypeId)(g o c:Nat)(a:Array Value)(e:w.heap[g]?=some (.cells a 105 (0,0)))(d:o+2<=a.size):(Builtin.clear_ #[96] ty #[.slice (some ⟨g,o,none⟩) 1 c]).run Tryz.prog w=.ok (.tuple #[]) (w.setRow g (a.toList.take o++sK++a.toList.drop (o+2)).toArray):=by
 have b:=oO Tryz.prog g o 105 sK 0 a w e (by simpa [sK]using d) (by simp[sK,Value.oneCell']);have h:(Builtin.zeroCells (Value.agg #[ab 0,ab 0]).cells 1).toList=sK:=by
  simp[Builtin.zeroCells,Value.cells,sK];rfl
 simp only[iL]at b;have f:sK.length=2:=rfl;rw[f]at b;simp[Builtin.clear_,ch Tryz.underlying96,h,b]
theorem G2(w:World)(g a L c i:Nat)(f:L<=c)(h:i+1<=L):(Instr.slice 96 (.slice (some ⟨g,a,none⟩) L c) (some (ab i)) (some (ab ((i:Int)+1))) (some (ab L))).run Tryz.prog w=.ok (.slice (some ⟨g,a+i*2,none⟩) 1 (L-i)) w:=by
 have b:(i:Int)+1<=(L:Int):=by omega
 have d:¬L=i:=by omega
 have e:(0:Int)<=(i:Int)+1:=by omega
 simp[Instr.slice,ch Tryz.underlying96,Instr.sliceBounds,Instr.sliceBound,asIntOf,b,d,e,f,go_sem,eI]
theorem yY(w:World)(g a L c i:Nat)(d:i<=c):(Instr.slice 96 (.slice (some ⟨g,a,none⟩) L c) none (some (ab i)) none).run Tryz.prog w=.ok (.slice (some ⟨g,a,none⟩) i c) w:=by
 have b:¬c<i:=by omega
 simp[Instr.slice,ch Tryz.underlying96,Instr.sliceBounds,Instr.sliceBound,asIntOf,b,go_sem]
theorem BJ(w:World)(g a L c i:Nat)(h:i+1<=L):(Instr.slice 96 (.slice (some ⟨g,a,none⟩) L c) (some (ab ((i:Int)+1))) none none).run Tryz.prog w=.ok (.slice (some (if c=i+1 then ⟨g,a,none⟩else ⟨g,a+(i+1)*2,none⟩)) (L-(i+1)) (c-(i+1))) w:=by
 have b:(i:Int)+1<=(L:Int):=by omega
 have e:(0:Int)<=(i:Int)+1:=by omega
 have f:((i:Int)+1).toNat=i+1:=by omega
 by_cases d:c=i+1
 ·simp[Instr.slice,ch Tryz.underlying96,Instr.sliceBounds,Instr.sliceBound,asIntOf,b,d,e,f,go_sem,eI]
 ·simp[Instr.slice,ch Tryz.underlying96,Instr.sliceBounds,Instr.sliceBound,asIntOf,b,d,e,f,go_sem,eI]
theorem BI(w:World)(g a m c:Nat)(f:m+1<=c):(Instr.slice 96 (.slice (some ⟨g,a,none⟩) m c) (some (ab m)) (some (ab ((m:Int)+1))) none).run Tryz.prog w=.ok (.slice (some ⟨g,a+m*2,none⟩) 1 (c-m)) w:=by
 have b:¬c=m:=by omega
 have d:(m:Int)+1<=(c:Int):=by omega
 have e:(0:Int)<=(m:Int)+1:=by omega
 simp[Instr.slice,ch Tryz.underlying96,Instr.sliceBounds,Instr.sliceBound,asIntOf,b,d,e,go_sem,eI]
theorem vE{w w':World}{v x' c:Value}{b:Array Oper}{o:Oper}{a:Act}{K:Act->World->Prop}{Q:Exit->Act->World->Prop}{E:Prop}(e:o.guard=none)(s x:Operand)(f:o.op=.call {callee:=.builtin .append,args:= #[s,x],argTypes:= #[96,96]})(h:a.eval s=v)(j:a.eval x=x')(g:(Builtin.append_ #[96,96] o.type #[v,x']).run Tryz.prog w=.ok c w')(d:K (a.put o.dst c) w'):if Region.wanted o (yielded b a.tmps)=true then Oper.wp Tryz.prog o a w K Q else E:=by
 have i:Region.wanted o (yielded b a.tmps)=true:=by simp[Region.wanted,e]
 rw[if_pos i];unfold Oper.wp execOp;simp only[f,resolve,invoke,builtin,Sem.run_bind,Sem.run_pure,mq,mg,aI,bR,h,j,g];exact d
theorem zO(g b a i L:Nat)(w:World)(d:Addr)(c f:List Value)(_hL:L<=a)(_hi:i+1<=L)(_hm:L<=1000000)(k:Hid (∀W,(Instr.slice 96 (.slice (some ⟨g,b,none⟩) L a) (some (ab i)) (some (ab ((i:Int)+1))) (some (ab L))).run Tryz.prog W=.ok (.slice (some ⟨g,b+i*2,none⟩) 1 (L-i)) W))(l:Hid (∀W,(Instr.slice 96 (.slice (some ⟨g,b,none⟩) L a) none (some (ab i)) none).run Tryz.prog W=.ok (.slice (some ⟨g,b,none⟩) i a) W))(m:Hid (∀W,(Instr.slice 96 (.slice (some ⟨g,b,none⟩) L a) (some (ab ((i:Int)+1))) none none).run Tryz.prog W=.ok (.slice (some d) (L-(i+1)) (a-(i+1))) W))(h:Hid (∀ty,(Builtin.append_ #[96,96] ty #[.slice (some ⟨g,b,none⟩) i a,.slice (some d) (L-(i+1)) (a-(i+1))]).run Tryz.prog w.drew=.ok (.slice (some ⟨g,b,none⟩) (L-1:Nat) a) (w.drew.setRow g c.toArray)))(n:Hid (∀W,(Instr.slice 96 (.slice (some ⟨g,b,none⟩) (L-1:Nat) a) (some (ab (L-1:Nat))) (some (ab L)) none).run Tryz.prog W=.ok (.slice (some ⟨g,b+(L-1)*2,none⟩) 1 (a-(L-1))) W))(j:Hid (∀ty,(Builtin.clear_ #[96] ty #[.slice (some ⟨g,b+(L-1)*2,none⟩) 1 (a-(L-1))]).run Tryz.prog (w.drew.setRow g c.toArray)=.ok (.tuple #[]) ((w.drew.setRow g c.toArray).setRow g f.toArray))):ak 71 #[.slice (some ⟨g,b,none⟩) L a,ab i,ab ((i:Int)+1)] w λe w'=>e=.returned (.slice (some ⟨g,b,none⟩) (L-1:Nat) a)/\w'=(w.drew.setRow g c.toArray).setRow g f.toArray:=by
 have u:=k.out;have v:=l.out;have x:=m.out;have s:=n.out;have r:=j.out;have o:=h.out 96;clear k l m n j h;have t:¬(i:Int)=(i:Int)+1:=by omega
 obtain⟨q,p⟩:∃q:Nat,q=L-1:=⟨_,rfl⟩;rw[<-p]at s o r ⊢;clear p;go_enter Tryz.func71,Tryz.ntmps71;go_wp2_with fail;go_region_held3 (λ_=>True) (trivial) ((first|(refine vE rfl _ _ rfl (by simp[Act.eval]) (by simp[Act.eval]) o ?_)));go_wp2_with fail
 go_ret
 exact⟨rfl,rfl⟩
theorem xP(g a d i:Nat)(vs:List Wd)(c:Array Value)(w:World)(R:i<vs.length)(u:w.heap[g]?=some (.cells c 105 (0,0)))(B:vs.length<=d)(M:vs.length<=1000000)(S:a+d*2<=c.size)(D:(c.toList.drop a).take (vs.length*2)=aU vs):ak 71 #[.slice (some ⟨g,a,none⟩) vs.length d,ab i,ab ((i:Int)+1)] w λe w'=>e=.returned (.slice (some ⟨g,a,none⟩) (vs.length-1:Nat) d)/\Hid (bk (λb=>b=g) w w'/\w'.heap.size=w.heap.size/\∃p,w'.heap[g]?=some (.cells p 105 (0,0))/\p.size=c.size/\(p.toList.drop a).take ((vs.length-1)*2)=aU (vs.eraseIdx i)):=by
 obtain⟨Q,K,T,x,U⟩:=bQ kA;have v:c.toList.length=c.size:=gZ;obtain⟨k,n⟩:∃k,k=aU (vs.drop (i+1)):=⟨_,rfl⟩;have t:k.length=(vs.length-(i+1))*2:=by rw[n,co,eK]
 have H:∀f l,k[f]?=some l->c.toList[a+(i+1)*2+f]?=some l:=λf l m=>by
  have L:=(aM.1 m).1;have y:(aU vs)[(i+1)*2+f]?=some l:=by
   rw[<-m,n];have:=sG vs (i+1) (vs.length-(i+1)) f (by omega);rw[bw (by simp)]at this;exact this.symm
  rw[<-D,jY,if_pos (by omega),jX]at y;rw[show a+(i+1)*2+f=a+((i+1)*2+f) by omega];exact y
 have N:∀h:World,h.heap[g]?=some (.cells c 105 (0,0))->∀f l,k[f]?=some l->h.cell? ((if d=i+1 then (⟨g,a,none⟩:Addr)else ⟨g,a+(i+1)*2,none⟩).add f)=some l:=λh I f l m=>by
  have L:=(aM.1 m).1;by_cases G:d=i+1
  ·omega
  ·rw[if_neg G,eI,af I];exact H f l m
 have o:=λty:TypeId=>nJ (P:=Tryz.prog) w.drew 96 ty 105 Q Tryz.underlying96 K g a i d c u (if d=i+1 then (⟨g,a,none⟩:Addr)else ⟨g,a+(i+1)*2,none⟩) (vs.length-(i+1)) (d-(i+1)) k (by rw[t,x]) (N w.drew u) (by rw[n];exact pV _) (by omega) (by rw[x,t];omega);simp only[x]at o;rw[show i+(vs.length-(i+1))=vs.length-1 by omega]at o;obtain⟨j,r⟩:∃j,j=c.toList.take (a+i*2)++k++c.toList.drop (a+i*2+k.length):=⟨_,rfl⟩;rw[<-r]at o;have s:j.length=c.size:=by
  rw[r];simp only[bf,dw,eK,v];omega
 have A:(w.drew.setRow g j.toArray).heap[g]?=some (.cells j.toArray 105 (0,0)):=setRow_heap w.drew g c _ _ _ u;have J:=λty:TypeId=>uT (w.drew.setRow g j.toArray) ty g (a+(vs.length-1)*2) (d-(vs.length-1)) j.toArray A (by simp only[e9,s];omega);have z:=λh=>BI h g a (vs.length-1) d (by omega);rw[show (((vs.length-1:Nat):Int)+1)=(vs.length:Int) by omega]at z;refine(zO g a d i vs.length w _ j _ B (by omega) M (λh=>G2 h g a vs.length d i B (by omega)) (λh=>yY h g a vs.length d i (by omega)) (λh=>BJ h g a vs.length d i (by omega)) o z J).mono ?_;rintro e w' ⟨rfl,rfl⟩;refine⟨rfl,⟨rfl,rfl,rfl,by simp,λb _ C=>(setRow_other _ _ _ _ C).trans (setRow_other _ _ _ _ C)⟩,by simp,_,setRow_heap _ _ _ _ _ _ A,?_,?_⟩
 ·have O:sK.length=2:=rfl;simp only[e9,bf,dw,eK,s,O];omega
 ·have q:(j.take (a+(vs.length-1)*2)).length=a+(vs.length-1)*2:=by rw[dw,s];omega
  rw[lZ,oD (by rw[q];omega),jj (by rw[eK,q];omega),bw (by rw[eK,q];omega)];have E:j.take (a+(vs.length-1)*2)=c.toList.take (a+i*2)++k:=by
   rw[r];exact List.take_left' (by rw[bf,dw,t,v];omega)
  rw[E,oD (by rw[dw,v];omega),List.drop_take];have F:(c.toList.drop a).take (i*2)=aU (vs.take i):=by
   have:=congrArg (List.take (i*2)) D;rw[List.take_take,Nat.min_eq_left (by omega)]at this;rw[this]
   conv=>lhs;rw[<-ji i vs,pe]
   exact List.take_left' (by rw[co,dw];omega)
  rw[show a+i*2-a=i*2 by omega,F,n,<-pe,rV]
end Go.Proofs.YtckamaoibonjcaaGreat
