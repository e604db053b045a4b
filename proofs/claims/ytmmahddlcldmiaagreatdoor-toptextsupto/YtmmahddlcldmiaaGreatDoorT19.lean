/- Proved here: plain facts and contracts. No condition but what each names. -/
import Derived.Test.YtmmahddlcldmiaaGreatDoorT18
namespace Go.Proofs.YtmmahddlcldmiaaGreatDoor
open Go.RowKit Go.Proofs.Tryz
open Go.RowKit Go.Maps
set_option maxRecDepth 100000
set_option maxHeartbeats 1000000
theorem si{n:Nat}(s m:Tc):(l:List (Cl (n+1)))->(∀c∈l,lq c s m=none)->l9 s m l=none
 | [],_=>rfl
 | c::l,h=>by
  simp only[l9,h c (by simp)];exact si s m l λc a=>h c (bX _ a)
theorem xk{n:Nat}(s m:Tc):(l:List (Cl (n+1)))->(j:Nat)->(c:Cl (n+1))->(B:List Tc)->l[j]?=some c->lq c s m=some B->(∀d b,d<j->l[d]?=some b->lq b s m=none)->l9 s m l=some (c,B)
 | [],j,c,B,h,_,_=>by simp at h
 | a::l,0,c,B,h,hB,_=>by
  simp only[cP,kN]at h;subst h;simp only[l9,hB]
 | a::l,j+1,c,B,h,hB,hn=>by
  simp only[l9,hn 0 a (by omega) rfl];exact xk s m l j c B (by simpa using h) hB λd b f e=>hn (d+1) b (by omega) (by simpa using e)
theorem AT{n:Nat}(l:List (Cl (n+1)))(s:Tc):(ms:List Tc)->(k:Nat)->(∀m∈ms,l9 s m l=none)->sh l s ms k=none
 | [],_,_=>rfl
 | m::ms,k,h=>by
  simp only[sh,h m (by simp)];exact AT l s ms (k+1) λm a=>h m (bX _ a)
theorem AU{n:Nat}(l:List (Cl (n+1)))(s:Tc):(ms:List Tc)->(k i:Nat)->(m:Tc)->(x:Cl (n+1)×List Tc)->ms[i]?=some m->l9 s m l=some x->(∀b c,b<i->ms[b]?=some c->l9 s c l=none)->sh l s ms k=some (k+i,x)
 | [],k,i,m,x,h,_,_=>by simp at h
 | a::ms,k,0,m,x,h,hx,_=>by
  simp only[cP,kN]at h;subst h;simp only[sh,hx,iu]
 | a::ms,k,i+1,m,x,h,hx,hn=>by
  simp only[sh,hn 0 a (by omega) rfl];rw[AU l s ms (k+1) i m x (by simpa using h) hx λb c e d=>hn (b+1) c (by omega) (by simpa using d)];congr 2;omega
def Qo{n:Nat}(l:List (Cl (n+1)))(s:Tc)(ms:List Tc)(w:World)(e:Ending)(w':World):Prop:=
 (sh l s ms 0=none/\e=.returned (.tuple #[.agg Ge.toArray,.bool false])/\Hid (aj w w'))\/
  ∃(d:Nat)(a:Tc)(c:Cl (n+1))(b g:Nat),e=.returned (.tuple #[.agg (C5 d a c (some ⟨b,0,none⟩) 4 g).toArray,.bool true])/\Hid (∃f i j,sh l s ms 0=some (d,c,f)/\c∈l/\ms[d]?=some (cn 13 a)/\bv 13 a=0/\aj w w'/\In w'.heap.size w' 13 a/\cd (λh=>w.heap.size<h/\h≠b) 13 a/\qJ (i+1) j f (w.heap.size+1) w' b g)
theorem qJ.kept{D:Nat}{l:List (Tm D)}{B:List Tc}{e:Nat}{w w':World}{c g q:Nat}(a:qJ D l B e w c g)(d:br (λb=>b=q) w w')(v:q<e):qJ D l B e w' c g:=by
 obtain⟨k,f⟩:=a.new;have i:¬c=q:=by omega
 refine⟨a.bnd,a.tells,a.cap,⟨k,aR f d.size⟩,λo t n=>?_,λp=>?_⟩
 ·obtain⟨r,s,j⟩:=a.at' o t n;exact⟨r.kee d f i,s.kee d (j.mono λx m u=>by have:=m.1;omega),j⟩
 ·have h:=a.free p;unfold World.frozen? at h ⊢;rw[d.block c f i];exact h
theorem qJ.mono{D:Nat}{l:List (Tm D)}{B:List Tc}{e f:Nat}{w:World}{h g:Nat}(a:qJ D l B e w h g)(j:f<=e):qJ D l B f w h g:=
 ⟨a.bnd,a.tells,a.cap,⟨by have:=a.new.1;omega,a.new.2⟩,λc d b=>⟨(a.at' c d b).1,(a.at' c d b).2.1,(a.at' c d b).2.2.mono λk i=>⟨by omega,i.2⟩⟩,a.free⟩
theorem C7{n bE au:Nat}{name:ByteArray}{room:Int}{s:Tc}{ms:List Tc}{a0:Nat}{M:Nat->Prop}{w:World}{ws:List Wd}{nm:List ByteArray}{bH:Wd}{vs:List Wd}{ma:Option Addr}{bB:Nat}{Mh:Nat->Prop}(ao:cD bE au name room 13 s ms [] a0 M w ws nm bH vs ma bB Mh)(l:List (Cl (n+1)))(ar:Option Addr)(aX B:Nat)(aQ:pY B w 13 (eZ (n+1)) (gY (n+1) B w) ar l)(aF:B<=w.heap.size)(bs:∀c∈l,pW c)(aT:a0<=50000)(bc:ms.length<=1000)(bo:l.length<=1000000):am 96 #[aB au,ae ar l.length aX] w (Qo l (cn 13 s) (ms.map (cn 13)) w):=by
 have aN:=ao.front;have aW:=aN.2.2.1 s (by simp);have aS:∀m∈ms,bv 13 m=0/\aK 13 m=true:=λm ag=>aN.2.2.1 m (bX _ ag)
 refine(AS (N:=12) au l ar l.length aX ms.length w (λa j=>match l[j]?,ms[a]? with
     | some c,some m=>(lq c (cn 13 s) (cn 13 m)).isSome
     | _,_=>false)
  (λF G u=>ay 13 F 13 s=true/\In u.heap.size u 13 F/\aC (λp b=>ay 13 p 13 b) G ms=true/\aj w u/\∀e∈G,In u.heap.size u 13 e/\cd (λU=>w.heap.size<U) 13 e)
  (λa j p len I r a8=>∃c m h q E v,l[j]?=some c/\ms[a]?=some m/\lq c (cn 13 s) (cn 13 m)=some h/\p=some ⟨v,0,none⟩/\len=4/\qJ (q+1) E h r.heap.size a8 v I) bo (by omega) rfl ?_ ?_ ?_).mono ?_
 ·intro a c z;rcases aQ with g|⟨b,o,g,aJ,d⟩
  ·rw[g]at z;simp at z
  ·exact⟨b,o,g,by omega,(d a c z).1⟩
 ·intro r i bp;refine((ao.later (N:=12) i).state (N:=12) aT).mono ?_;rintro g bU ⟨e,rfl,a6⟩;obtain⟨y1,y2,a4,bL⟩:=a6;refine⟨e,rfl,y1,λaA L=>?_⟩;have y:=i.trans (y1.mono i.size);have t:=y.trans (L.mono y.size);refine((ao.later (N:=12) t).mails (N:=12) aT bc).mono ?_;rintro g bK ⟨G,a7,p,c,rfl,a5⟩;obtain⟨aY,T,aZ⟩:=a5;have bd:a7=ms.length:=by rw[<-aY];exact cE _ _ _ aZ
  subst bd;have O:aj aA bK:=T.1;have bS:=i.size;have aU:=y1.size;have aV:=L.size;obtain⟨bO,Y,J,aD,Z,_⟩:=fi.lay (dX 13) (f:=il 13) (λ_=>rfl) T;injection J with J bP bQ;subst J;refine⟨p,c,G,rfl,aY,O,λa X C=>?_,bL,((y2.below L).mono L.size |>.below O).mono O.size,aZ,t.trans (O.mono t.size),λX C=>⟨(T.2.2 X C).1,(T.2.2 X C).2.mono λU S=>?_⟩⟩
  ·rcases Z with Z|⟨bb,o,ba,P,d⟩
   ·rw[Z]at C;simp at C
   ·exact⟨bb,o,ba,P,(d a X C).1⟩
  ·rcases S.1 with bN|bN
   ·omega
   ·omega
 ·rintro F G u r a j e c ⟨V,a3,W,av,ax⟩ i A d;have bu:=aH A;have bn:a<ms.length:=by
   have:=(aO.1 A).1;rw[cE _ _ _ W]at this;exact this
  have an:ms[a]?=some ms[a]:=aG bn;have D:=jx _ _ _ W a e ms[a] A an;have R:=aS ms[a] (jE _);have bj:=aH d;obtain⟨bC,bD,_⟩:=bs c bj;have bh:gY (n+1) B w c:=by
   rcases aQ with g|⟨b,o,g,aJ,bg⟩
   ·rw[g]at d;simp at d
   ·exact(bg j c d).2
  have aM:=av.trans (i.mono av.size);have bf:gY (n+1) r.heap.size r c:=(en (n+1)).mono (az aF aM.size) ((en (n+1)).below (aM.mono aF) bh);have bl:=Hp c (n:=n) (m:=12) (k:=12) F e r.heap.size r bf ((a3.below i).mono i.size) (((ax e bu).1.below i).mono i.size) (ak _) bC bD ((bJ V).trans aW.1) ((cB _ _ _ _ V).trans aW.2) ((bJ D).trans R.1) ((cB _ _ _ _ D).trans R.2);refine bl.mono ?_;rintro g bI ⟨p,len,I,bG,rfl,H⟩;obtain⟨aa,x,aE⟩:=H.out;have J:cn (12+1) F=cn 13 s:=ic V;have aD:cn (12+1) e=cn 13 ms[a]:=ic D;rw[J,aD]at x aE
  have ab:(match l[j]?,ms[a]? with
   | some c,some m=>(lq c (cn 13 s) (cn 13 m)).isSome
   | _,_=>false)=bG:=by
   rw[d,an];exact x.symm
  refine⟨p,len,I,by rw[ab],aa,λP=>?_⟩;rw[ab]at P;rw[P]at x;obtain⟨h,aI⟩:=gA.1 x.symm;obtain⟨bx,q,E,v,bz,aq⟩:=aE h aI;cases q with
  | zero=>
   have bR:=(hU aq.bnd).1;exact((aq.at' 0 (E[0]'(by omega)) (aG _)).2.1).elim
  | succ q=>exact⟨c,ms[a],h,q,E,v,d,an,aI,bz,bx,aq⟩
 ·rintro g bI (⟨rfl,H⟩|⟨a,j,e,c,p,len,I,rfl,H⟩)
  ·obtain⟨aa,x⟩:=H.out;refine ah ⟨AT l _ _ 0 λm ag=>si _ _ l λc d=>?_,rfl,x⟩;obtain⟨bA,al,rfl⟩:=cC.1 ag;obtain⟨a,z,rfl⟩:=List.mem_iff_getElem.1 al;obtain⟨j,aP,rfl⟩:=List.mem_iff_getElem.1 d;have:=aa a j z aP;simp only[aG z,aG aP]at this;exact kL.1 (by rw[<-kM,this];rfl)
  ·obtain⟨F,G,u,aA,a9,⟨V,a3,W,av,ax⟩,A,d,ab,bq,br,aL,y,t,⟨Y,m,h,q,E,v,a1,K,bF,rfl,rfl,a2⟩,af,bp⟩:=H;rw[d]at a1;obtain rfl:=aw a1;have D:=jx _ _ _ W a e m A K;have R:=aS m (aH K);have bk:cn 13 e=cn 13 m:=ic D;have bt:=aL.size;have aU:=y.size;have aV:=t.size;obtain⟨y1,y2⟩:=ax e (aH A);have bM:=In.offB y2 y1;have be:aj w a9:=(aL.trans (y.mono bt)).trans (t.mono (by omega));refine ai ⟨a,e,c,v,I,rfl,h,q,E,?_,aH d,?_,(bJ D).trans R.1,be.trans (af.below (by omega) λb aJ g=>by omega),?_,bM.mono λU S=>⟨S.1,λg=>?_⟩,(a2.kept af (by omega)).mono (by omega)⟩
   ·have bi:l9 (cn 13 s) (cn 13 m) l=some (c,h):=xk _ _ l j c h d bF λap Y Q ad=>by
      have:=br ap Q;simp only[ad,K]at this;exact kL.1 (by rw[<-kM,this];rfl)
    have:=AU l (cn 13 s) (ms.map (cn 13)) 0 a (cn 13 m) (c,h) (by rw[dn,K];rfl) bi λbw bT bm aR=>by
     rw[dn]at aR;obtain⟨bA,al,rfl⟩:=ci.1 aR;refine si _ _ l λY ad=>?_;obtain⟨ap,Q,rfl⟩:=List.mem_iff_getElem.1 ad;have:=bq bw ap bm Q;simp only[aG Q,al]at this;exact kL.1 (by rw[<-kM,this];rfl)
    rw[this,dc]
   ·rw[dn,K,bk];rfl
   ·have a4:=((y1.below y).mono aU |>.below t).mono aV;exact a4.kee af (y2.mono λU S g=>by omega)
   ·have:=a2.new.1;omega
def tA:List Value:=[ab 0,ab 0]
theorem vR(w:World)(ty:TypeId)(g o c:Nat)(a:Array Value)(e:w.heap[g]?=some (.cells a 154 (0,0)))(d:o+2<=a.size):(Builtin.clear_ #[157] ty #[ae (some ⟨g,o,none⟩) 1 c]).run Tryz.prog w=.ok (.tuple #[]) (w.setRow g (a.toList.take o++tA++a.toList.drop (o+2)).toArray):=by
 have b:=pB Tryz.prog g o 154 tA 0 a w e (by simpa [tA]using d) (by simp[tA,Value.oneCell']);have h:(Builtin.zeroCells (Value.agg #[ab 0,ab 0]).cells 1).toList=tA:=by
  simp[Builtin.zeroCells,Value.cells,tA];rfl
 simp only[iu]at b;have f:tA.length=2:=rfl;rw[f]at b;simp[Builtin.clear_,cr underlying157,h,b]
theorem I4(w:World)(g a L c i:Nat)(f:L<=c)(h:i+1<=L):(Instr.slice 157 (ae (some ⟨g,a,none⟩) L c) (some (ab i)) (some (ab ((i:Int)+1))) (some (ab L))).run Tryz.prog w=.ok (ae (some ⟨g,a+i*2,none⟩) 1 (L-i)) w:=by
 have b:(i:Int)+1<=(L:Int):=by omega
 have d:¬L=i:=by omega
 have e:(0:Int)<=(i:Int)+1:=by omega
 simp[Instr.slice,cr underlying157,Instr.sliceBounds,Instr.sliceBound,asIntOf,b,d,e,f,go_sem,eU]
theorem Av(w:World)(g a L c i:Nat)(d:i<=c):(Instr.slice 157 (ae (some ⟨g,a,none⟩) L c) none (some (ab i)) none).run Tryz.prog w=.ok (ae (some ⟨g,a,none⟩) i c) w:=by
 have b:¬c<i:=by omega
 simp[Instr.slice,cr underlying157,Instr.sliceBounds,Instr.sliceBound,asIntOf,b,go_sem]
theorem CN(w:World)(g a L c i:Nat)(h:i+1<=L):(Instr.slice 157 (ae (some ⟨g,a,none⟩) L c) (some (ab ((i:Int)+1))) none none).run Tryz.prog w=.ok (.slice (some (if c=i+1 then ⟨g,a,none⟩else ⟨g,a+(i+1)*2,none⟩)) (L-(i+1)) (c-(i+1))) w:=by
 have b:(i:Int)+1<=(L:Int):=by omega
 have e:(0:Int)<=(i:Int)+1:=by omega
 have f:((i:Int)+1).toNat=i+1:=by omega
 by_cases d:c=i+1
 ·simp[Instr.slice,cr underlying157,Instr.sliceBounds,Instr.sliceBound,asIntOf,b,d,e,f,go_sem,eU]
 ·simp[Instr.slice,cr underlying157,Instr.sliceBounds,Instr.sliceBound,asIntOf,b,d,e,f,go_sem,eU]
theorem CM(w:World)(g a m c:Nat)(f:m+1<=c):(Instr.slice 157 (ae (some ⟨g,a,none⟩) m c) (some (ab m)) (some (ab ((m:Int)+1))) none).run Tryz.prog w=.ok (ae (some ⟨g,a+m*2,none⟩) 1 (c-m)) w:=by
 have b:¬c=m:=by omega
 have d:(m:Int)+1<=(c:Int):=by omega
 have e:(0:Int)<=(m:Int)+1:=by omega
 simp[Instr.slice,cr underlying157,Instr.sliceBounds,Instr.sliceBound,asIntOf,b,d,e,go_sem,eU]
theorem wT{w w':World}{v x' c:Value}{b:Array Oper}{o:Oper}{a:Act}{K:Act->World->Prop}{Q:Exit->Act->World->Prop}{E:Prop}(e:o.guard=none)(s x:Operand)(f:o.op=.call {callee:=.builtin .append,args:= #[s,x],argTypes:= #[157,157]})(h:a.eval s=v)(j:a.eval x=x')(g:(Builtin.append_ #[157,157] o.type #[v,x']).run Tryz.prog w=.ok c w')(d:K (a.put o.dst c) w'):if Region.wanted o (yielded b a.tmps)=true then Oper.wp Tryz.prog o a w K Q else E:=by
 have i:Region.wanted o (yielded b a.tmps)=true:=by simp[Region.wanted,e]
 rw[if_pos i];unfold Oper.wp execOp;simp only[f,resolve,invoke,builtin,Sem.run_bind,Sem.run_pure,mY,mP,aM,b8,h,j,g];exact d
theorem A2(g b a i L:Nat)(w:World)(d:Addr)(c f:List Value)(_hL:L<=a)(_hi:i+1<=L)(_hm:L<=1000000)(k:Hid (∀W,(Instr.slice 157 (ae (some ⟨g,b,none⟩) L a) (some (ab i)) (some (ab ((i:Int)+1))) (some (ab L))).run Tryz.prog W=.ok (ae (some ⟨g,b+i*2,none⟩) 1 (L-i)) W))(l:Hid (∀W,(Instr.slice 157 (ae (some ⟨g,b,none⟩) L a) none (some (ab i)) none).run Tryz.prog W=.ok (ae (some ⟨g,b,none⟩) i a) W))(m:Hid (∀W,(Instr.slice 157 (ae (some ⟨g,b,none⟩) L a) (some (ab ((i:Int)+1))) none none).run Tryz.prog W=.ok (ae (some d) (L-(i+1)) (a-(i+1))) W))(h:Hid (∀ty,(Builtin.append_ #[157,157] ty #[ae (some ⟨g,b,none⟩) i a,ae (some d) (L-(i+1)) (a-(i+1))]).run Tryz.prog w.drew=.ok (ae (some ⟨g,b,none⟩) (L-1:Nat) a) (w.drew.setRow g c.toArray)))(n:Hid (∀W,(Instr.slice 157 (ae (some ⟨g,b,none⟩) (L-1:Nat) a) (some (ab (L-1:Nat))) (some (ab L)) none).run Tryz.prog W=.ok (ae (some ⟨g,b+(L-1)*2,none⟩) 1 (a-(L-1))) W))(j:Hid (∀ty,(Builtin.clear_ #[157] ty #[ae (some ⟨g,b+(L-1)*2,none⟩) 1 (a-(L-1))]).run Tryz.prog (w.drew.setRow g c.toArray)=.ok (.tuple #[]) ((w.drew.setRow g c.toArray).setRow g f.toArray))):am 98 #[ae (some ⟨g,b,none⟩) L a,ab i,ab ((i:Int)+1)] w λe w'=>e=.returned (ae (some ⟨g,b,none⟩) (L-1:Nat) a)/\w'=(w.drew.setRow g c.toArray).setRow g f.toArray:=by
 have u:=k.out;have v:=l.out;have x:=m.out;have s:=n.out;have r:=j.out;have o:=h.out 157;clear k l m n j h;have t:¬(i:Int)=(i:Int)+1:=by omega
 obtain⟨q,p⟩:∃q:Nat,q=L-1:=⟨_,rfl⟩;rw[<-p]at s o r ⊢;clear p;go_enter func98,ntmps98;go_wp2_with fail;go_region_held3 (λ_=>True) (trivial) ((first|(refine wT rfl _ _ rfl (by simp[Act.eval]) (by simp[Act.eval]) o ?_)));go_wp2_with fail
 go_ret
 exact⟨rfl,rfl⟩
theorem zg(g a d i:Nat)(vs:List Wd)(c:Array Value)(w:World)(R:i<vs.length)(u:w.heap[g]?=some (.cells c 154 (0,0)))(B:vs.length<=d)(M:vs.length<=1000000)(S:a+d*2<=c.size)(D:(c.toList.drop a).take (vs.length*2)=aX vs):am 98 #[ae (some ⟨g,a,none⟩) vs.length d,ab i,ab ((i:Int)+1)] w λe w'=>e=.returned (ae (some ⟨g,a,none⟩) (vs.length-1:Nat) d)/\Hid (br (λb=>b=g) w w'/\w'.heap.size=w.heap.size/\∃p,w'.heap[g]?=some (.cells p 154 (0,0))/\p.size=c.size/\(p.toList.drop a).take ((vs.length-1)*2)=aX (vs.eraseIdx i)):=by
 obtain⟨Q,K,T,x,U⟩:=bP kZ;have v:c.toList.length=c.size:=gn;obtain⟨k,n⟩:∃k,k=aX (vs.drop (i+1)):=⟨_,rfl⟩;have t:k.length=(vs.length-(i+1))*2:=by rw[n,cw,eX]
 have H:∀f l,k[f]?=some l->c.toList[a+(i+1)*2+f]?=some l:=λf l m=>by
  have L:=(aO.1 m).1;have y:(aX vs)[(i+1)*2+f]?=some l:=by
   rw[<-m,n];have:=tr vs (i+1) (vs.length-(i+1)) f (by omega);rw[bu (by simp)]at this;exact this.symm
  rw[<-D,jh,if_pos (by omega),kH]at y;rw[show a+(i+1)*2+f=a+((i+1)*2+f) by omega];exact y
 have N:∀h:World,h.heap[g]?=some (.cells c 154 (0,0))->∀f l,k[f]?=some l->h.cell? ((if d=i+1 then (⟨g,a,none⟩:Addr)else ⟨g,a+(i+1)*2,none⟩).add f)=some l:=λh I f l m=>by
  have L:=(aO.1 m).1;by_cases G:d=i+1
  ·omega
  ·rw[if_neg G,eU,ag I];exact H f l m
 have o:=λty:TypeId=>oy (P:=Tryz.prog) w.drew 157 ty 154 Q underlying157 K g a i d c u (if d=i+1 then (⟨g,a,none⟩:Addr)else ⟨g,a+(i+1)*2,none⟩) (vs.length-(i+1)) (d-(i+1)) k (by rw[t,x]) (N w.drew u) (by rw[n];exact qF _) (by omega) (by rw[x,t];omega);simp only[x]at o;rw[show i+(vs.length-(i+1))=vs.length-1 by omega]at o;obtain⟨j,r⟩:∃j,j=c.toList.take (a+i*2)++k++c.toList.drop (a+i*2+k.length):=⟨_,rfl⟩;rw[<-r]at o;have s:j.length=c.size:=by
  rw[r];simp only[bk,dy,eX,v];omega
 have A:(w.drew.setRow g j.toArray).heap[g]?=some (.cells j.toArray 154 (0,0)):=setRow_heap w.drew g c _ _ _ u;have J:=λty:TypeId=>vR (w.drew.setRow g j.toArray) ty g (a+(vs.length-1)*2) (d-(vs.length-1)) j.toArray A (by simp only[fq,s];omega);have z:=λh=>CM h g a (vs.length-1) d (by omega);rw[show (((vs.length-1:Nat):Int)+1)=(vs.length:Int) by omega]at z;refine(A2 g a d i vs.length w _ j _ B (by omega) M (λh=>I4 h g a vs.length d i B (by omega)) (λh=>Av h g a vs.length d i (by omega)) (λh=>CN h g a vs.length d i (by omega)) o z J).mono ?_;rintro e w' ⟨rfl,rfl⟩;refine⟨rfl,⟨rfl,rfl,rfl,by simp,λb _ C=>(setRow_other _ _ _ _ C).trans (setRow_other _ _ _ _ C)⟩,by simp,_,setRow_heap _ _ _ _ _ _ A,?_,?_⟩
 ·have O:tA.length=2:=rfl;simp only[fq,bk,dy,eX,s,O];omega
 ·have q:(j.take (a+(vs.length-1)*2)).length=a+(vs.length-1)*2:=by rw[dy,s];omega
  rw[mN,pj (by rw[q];omega),gS (by rw[eX,q];omega),bu (by rw[eX,q];omega)];have E:j.take (a+(vs.length-1)*2)=c.toList.take (a+i*2)++k:=by
   rw[r];exact List.take_left' (by rw[bk,dy,t,v];omega)
  rw[E,pj (by rw[dy,v];omega),List.drop_take];have F:(c.toList.drop a).take (i*2)=aX (vs.take i):=by
   have:=congrArg (List.take (i*2)) D;rw[List.take_take,Nat.min_eq_left (by omega)]at this;rw[this]
   conv=>lhs;rw[<-ir i vs,pS]
   exact List.take_left' (by rw[cw,dy];omega)
  rw[show a+i*2-a=i*2 by omega,F,n,<-pS,sR]
end Go.Proofs.YtmmahddlcldmiaaGreatDoor
