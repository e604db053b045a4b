/- Proved here: plain facts and contracts. No condition but what each names. -/
import Derived.Test.YtmmahddlcldmiaaGreatJ21
namespace Go.Proofs.YtmmahddlcldmiaaGreat
open Go.RowKit Tryz
open Go.RowKit Go.Maps
set_option maxRecDepth 100000
set_option maxHeartbeats 1000000
theorem sx{n:Nat}(s m:Tc):(l:List (Cl (n+1)))->(∀c∈l,lH c s m=none)->mr s m l=none
 | [],_=>rfl
 | c::l,h=>by
  simp only[mr,h c (by simp)];exact sx s m l λc a=>h c (bR _ a)
theorem xj{n:Nat}(s m:Tc):(l:List (Cl (n+1)))->(j:Nat)->(c:Cl (n+1))->(B:List Tc)->l[j]?=some c->lH c s m=some B->(∀d b,d<j->l[d]?=some b->lH b s m=none)->mr s m l=some (c,B)
 | [],j,c,B,h,_,_=>by simp at h
 | a::l,0,c,B,h,hB,_=>by
  simp only[cW,jr]at h;subst h;simp only[mr,hB]
 | a::l,j+1,c,B,h,hB,hn=>by
  simp only[mr,hn 0 a (by omega) rfl];exact xj s m l j c B (by simpa using h) hB λd b f e=>hn (d+1) b (by omega) (by simpa using e)
theorem AO{n:Nat}(l:List (Cl (n+1)))(s:Tc):(ms:List Tc)->(k:Nat)->(∀m∈ms,mr s m l=none)->sw l s ms k=none
 | [],_,_=>rfl
 | m::ms,k,h=>by
  simp only[sw,h m (by simp)];exact AO l s ms (k+1) λm a=>h m (bR _ a)
theorem AP{n:Nat}(l:List (Cl (n+1)))(s:Tc):(ms:List Tc)->(k i:Nat)->(m:Tc)->(x:Cl (n+1)×List Tc)->ms[i]?=some m->mr s m l=some x->(∀b c,b<i->ms[b]?=some c->mr s c l=none)->sw l s ms k=some (k+i,x)
 | [],k,i,m,x,h,_,_=>by simp at h
 | a::ms,k,0,m,x,h,hx,_=>by
  simp only[cW,jr]at h;subst h;simp only[sw,hx,gH]
 | a::ms,k,i+1,m,x,h,hx,hn=>by
  simp only[sw,hn 0 a (by omega) rfl];rw[AP l s ms (k+1) i m x (by simpa using h) hx λb c e d=>hn (b+1) c (by omega) (by simpa using d)];congr 2;omega
def P8{n:Nat}(l:List (Cl (n+1)))(s:Tc)(ms:List Tc)(w:ag)(e:Ending)(w':ag):Prop:=
 (sw l s ms 0=none/\e=.returned (.tuple #[.agg F8.toArray,.bool false])/\Hid (ak w w'))\/
  ∃(d:Nat)(a:Tc)(c:Cl (n+1))(b g:Nat),e=.returned (.tuple #[.agg (C6 d a c (some ⟨b,0,none⟩) 4 g).toArray,.bool true])/\Hid (∃f i j,sw l s ms 0=some (d,c,f)/\c∈l/\ms[d]?=some (cn 13 a)/\bE 13 a=0/\ak w w'/\In w'.heap.size w' 13 a/\cr (λh=>w.heap.size<h/\h≠b) 13 a/\qR (i+1) j f (w.heap.size+1) w' b g)
theorem qR.kept{D:Nat}{l:List (Tm D)}{B:List Tc}{e:Nat}{w w':ag}{c g q:Nat}(a:qR D l B e w c g)(d:bB (λb=>b=q) w w')(v:q<e):qR D l B e w' c g:=by
 obtain⟨k,f⟩:=a.new;have i:¬c=q:=by omega
 refine⟨a.bnd,a.tells,a.cap,⟨k,aW f d.size⟩,λo t n=>?_,λp=>?_⟩
 ·obtain⟨r,s,j⟩:=a.at' o t n;exact⟨r.kee d f i,s.kee d (j.mono λx m u=>by have:=m.1;omega),j⟩
 ·have h:=a.free p;unfold World.frozen? at h ⊢;rw[d.block c f i];exact h
theorem qR.mono{D:Nat}{l:List (Tm D)}{B:List Tc}{e f:Nat}{w:ag}{h g:Nat}(a:qR D l B e w h g)(j:f<=e):qR D l B f w h g:=
 ⟨a.bnd,a.tells,a.cap,⟨by have:=a.new.1;omega,a.new.2⟩,λc d b=>⟨(a.at' c d b).1,(a.at' c d b).2.1,(a.at' c d b).2.2.mono λk i=>⟨by omega,i.2⟩⟩,a.free⟩
variable{w:ag}
theorem C8{n bI ax:Nat}{name:ap}{room:Int}{s:Tc}{ms:List Tc}{a4:Nat}{M:aR}{ws:List Wd}{nm:List ap}{bL:Wd}{vs:List Wd}{ma:aw}{bF:Nat}{Mh:aR}(aq:cO bI ax name room 13 s ms [] a4 M w ws nm bL vs ma bF Mh)(l:List (Cl (n+1)))(av:aw)(a1 B:Nat)(aT:qi B w 13 (fk (n+1)) (ig (n+1) B w) av l)(aI:B<=w.heap.size)(bw:∀c∈l,qe c)(aW:a4<=50000)(bg:ms.length<=1000)(bs:l.length<=1000000):am 76 #[aH ax,ae av l.length a1] w (P8 l (cn 13 s) (ms.map (cn 13)) w):=by
 have aP:=aq.front;have a0:=aP.2.2.1 s (by simp);have aV:∀m∈ms,bE 13 m=0/\aS 13 m=true:=λm ah=>aP.2.2.1 m (bR _ ah)
 refine(AN (N:=12) ax l av l.length a1 ms.length w (λa j=>match l[j]?,ms[a]? with
     | some c,some m=>(lH c (cn 13 s) (cn 13 m)).isSome
     | _,_=>false)
  (λF G u=>aB 13 F 13 s=true/\In u.heap.size u 13 F/\aG (λp b=>aB 13 p 13 b) G ms=true/\ak w u/\∀e∈G,In u.heap.size u 13 e/\cr (λU=>w.heap.size<U) 13 e)
  (λa j p len I r bc=>∃c m h q E v,l[j]?=some c/\ms[a]?=some m/\lH c (cn 13 s) (cn 13 m)=some h/\p=some ⟨v,0,none⟩/\len=4/\qR (q+1) E h r.heap.size bc v I) bs (by omega) rfl ?_ ?_ ?_).mono ?_
 ·intro a c z;rcases aT with g|⟨b,o,g,aK,d⟩
  ·rw[g]at z;simp at z
  ·exact⟨b,o,g,by omega,(d a c z).1⟩
 ·intro r i bt;refine((aq.later (N:=12) i).state (N:=12) aW).mono ?_;rintro g bZ ⟨e,rfl,ba⟩;obtain⟨y1,y2,a8,bO⟩:=ba;refine⟨e,rfl,y1,λaC L=>?_⟩;have y:=i.trans (y1.mono i.size);have t:=y.trans (L.mono y.size);refine((aq.later (N:=12) t).mails (N:=12) aW bg).mono ?_;rintro g bN ⟨G,bb,p,c,rfl,a9⟩;obtain⟨a2,T,a3⟩:=a9;have bh:bb=ms.length:=by rw[<-a2];exact cP _ _ _ a3
  subst bh;have O:ak aC bN:=T.1;have bX:=i.size;have aY:=y1.size;have aZ:=L.size;obtain⟨bS,Y,J,aE,Z,_⟩:=ft.lay (ei 13) (f:=iy 13) (λ_=>rfl) T;injection J with J bT bU;subst J;refine⟨p,c,G,rfl,a2,O,λa X C=>?_,bO,((y2.below L).mono L.size |>.below O).mono O.size,a3,t.trans (O.mono t.size),λX C=>⟨(T.2.2 X C).1,(T.2.2 X C).2.mono λU S=>?_⟩⟩
  ·rcases Z with Z|⟨bf,o,be,P,d⟩
   ·rw[Z]at C;simp at C
   ·exact⟨bf,o,be,P,(d a X C).1⟩
  ·rcases S.1 with bQ|bQ
   ·omega
   ·omega
 ·rintro F G u r a j e c ⟨V,a7,W,ay,az⟩ i A d;have bz:=aN A;have br:a<ms.length:=by
   have:=(aX.1 A).1;rw[cP _ _ _ W]at this;exact this
  have an:ms[a]?=some ms[a]:=aM br;have D:=jF _ _ _ W a e ms[a] A an;have R:=aV ms[a] (jM _);have bn:=aN d;obtain⟨bG,bH,_⟩:=bw c bn;have bl:ig (n+1) B w c:=by
   rcases aT with g|⟨b,o,g,aK,bk⟩
   ·rw[g]at d;simp at d
   ·exact(bk j c d).2
  have aO:=ay.trans (i.mono ay.size);have bj:ig (n+1) r.heap.size r c:=(eE (n+1)).mono (aD aI aO.size) ((eE (n+1)).below (aO.mono aI) bl);have bp:=Hi c (n:=n) (m:=12) (k:=12) F e r.heap.size r bj ((a7.below i).mono i.size) (((az e bz).1.below i).mono i.size) (ao _) bG bH ((bV V).trans a0.1) ((cM _ _ _ _ V).trans a0.2) ((bV D).trans R.1) ((cM _ _ _ _ D).trans R.2);refine bp.mono ?_;rintro g bM ⟨p,len,I,bK,rfl,H⟩;obtain⟨aa,x,aF⟩:=H.out;have J:cn (12+1) F=cn 13 s:=io V;have aE:cn (12+1) e=cn 13 ms[a]:=io D;rw[J,aE]at x aF
  have ab:(match l[j]?,ms[a]? with
   | some c,some m=>(lH c (cn 13 s) (cn 13 m)).isSome
   | _,_=>false)=bK:=by
   rw[d,an];exact x.symm
  refine⟨p,len,I,by rw[ab],aa,λP=>?_⟩;rw[ab]at P;rw[P]at x;obtain⟨h,aJ⟩:=fA.1 x.symm;obtain⟨bB,q,E,v,bC,au⟩:=aF h aJ;cases q with
  | zero=>
   have bW:=(im au.bnd).1;exact((au.at' 0 (E[0]'(by omega)) (aM _)).2.1).elim
  | succ q=>exact⟨c,ms[a],h,q,E,v,d,an,aJ,bC,bB,au⟩
 ·rintro g bM (⟨rfl,H⟩|⟨a,j,e,c,p,len,I,rfl,H⟩)
  ·obtain⟨aa,x⟩:=H.out;refine ai ⟨AO l _ _ 0 λm ah=>sx _ _ l λc d=>?_,rfl,x⟩;obtain⟨bD,al,rfl⟩:=cm.1 ah;obtain⟨a,z,rfl⟩:=List.mem_iff_getElem.1 al;obtain⟨j,aQ,rfl⟩:=List.mem_iff_getElem.1 d;have:=aa a j z aQ;simp only[aM z,aM aQ]at this;exact kS.1 (by rw[<-kT,this];rfl)
  ·obtain⟨F,G,u,aC,bd,⟨V,a7,W,ay,az⟩,A,d,ab,bu,bv,aL,y,t,⟨Y,m,h,q,E,v,a5,K,bJ,rfl,rfl,a6⟩,af,bt⟩:=H;rw[d]at a5;obtain rfl:=aA a5;have D:=jF _ _ _ W a e m A K;have R:=aV m (aN K);have bo:cn 13 e=cn 13 m:=io D;have bx:=aL.size;have aY:=y.size;have aZ:=t.size;obtain⟨y1,y2⟩:=az e (aN A);have bP:=In.offB y2 y1;have bi:ak w bd:=(aL.trans (y.mono bx)).trans (t.mono (by omega));refine aj ⟨a,e,c,v,I,rfl,h,q,E,?_,aN d,?_,(bV D).trans R.1,bi.trans (af.below (by omega) λb aK g=>by omega),?_,bP.mono λU S=>⟨S.1,λg=>?_⟩,(a6.kept af (by omega)).mono (by omega)⟩
   ·have bm:mr (cn 13 s) (cn 13 m) l=some (c,h):=xj _ _ l j c h d bJ λar Y Q ad=>by
      have:=bv ar Q;simp only[ad,K]at this;exact kS.1 (by rw[<-kT,this];rfl)
    have:=AP l (cn 13 s) (ms.map (cn 13)) 0 a (cn 13 m) (c,h) (by rw[dy,K];rfl) bm λbA bY bq aU=>by
     rw[dy]at aU;obtain⟨bD,al,rfl⟩:=cw.1 aU;refine sx _ _ l λY ad=>?_;obtain⟨ar,Q,rfl⟩:=List.mem_iff_getElem.1 ad;have:=bu bA ar bq Q;simp only[aM Q,al]at this;exact kS.1 (by rw[<-kT,this];rfl)
    rw[this,de]
   ·rw[dy,K,bo];rfl
   ·have a8:=((y1.below y).mono aY |>.below t).mono aZ;exact a8.kee af (y2.mono λU S g=>by omega)
   ·have:=a6.new.1;omega
def tG:List av:=[ab 0,ab 0]
theorem vP(w:ag)(ty:TypeId)(g o c:Nat)(a:Array av)(e:w.heap[g]?=some (.cells a 109 (0,0)))(d:o+2<=a.size):(Builtin.clear_ #[100] ty #[ae (some ⟨g,o,none⟩) 1 c]).run Tryz.prog w=.ok (.tuple #[]) (w.setRow g (a.toList.take o++tG++a.toList.drop (o+2)).toArray):=by
 have b:=pI Tryz.prog g o 109 tG 0 a w e (by simpa [tG]using d) (by simp[tG,Value.oneCell']);have h:(Builtin.zeroCells (Value.agg #[ab 0,ab 0]).cells 1).toList=tG:=by
  simp[Builtin.zeroCells,Value.cells,tG];rfl
 simp only[gH]at b;have f:tG.length=2:=rfl;rw[f]at b;simp[Builtin.clear_,cC underlying100,h,b]
theorem IN(w:ag)(g a L c i:Nat)(f:L<=c)(h:i+1<=L):(Instr.slice 100 (ae (some ⟨g,a,none⟩) L c) (some (ab i)) (some (ab ((i:Int)+1))) (some (ab L))).run Tryz.prog w=.ok (ae (some ⟨g,a+i*2,none⟩) 1 (L-i)) w:=by
 have b:(i:Int)+1<=(L:Int):=by omega
 have d:¬L=i:=by omega
 have e:(0:Int)<=(i:Int)+1:=by omega
 simp[Instr.slice,cC underlying100,Instr.sliceBounds,Instr.sliceBound,asIntOf,b,d,e,f,go_sem,en]
theorem Aq(w:ag)(g a L c i:Nat)(d:i<=c):(Instr.slice 100 (ae (some ⟨g,a,none⟩) L c) none (some (ab i)) none).run Tryz.prog w=.ok (ae (some ⟨g,a,none⟩) i c) w:=by
 have b:¬c<i:=by omega
 simp[Instr.slice,cC underlying100,Instr.sliceBounds,Instr.sliceBound,asIntOf,b,go_sem]
theorem CN(w:ag)(g a L c i:Nat)(h:i+1<=L):(Instr.slice 100 (ae (some ⟨g,a,none⟩) L c) (some (ab ((i:Int)+1))) none none).run Tryz.prog w=.ok (.slice (some (if c=i+1 then ⟨g,a,none⟩else ⟨g,a+(i+1)*2,none⟩)) (L-(i+1)) (c-(i+1))) w:=by
 have b:(i:Int)+1<=(L:Int):=by omega
 have e:(0:Int)<=(i:Int)+1:=by omega
 have f:((i:Int)+1).toNat=i+1:=by omega
 by_cases d:c=i+1
 ·simp[Instr.slice,cC underlying100,Instr.sliceBounds,Instr.sliceBound,asIntOf,b,d,e,f,go_sem,en]
 ·simp[Instr.slice,cC underlying100,Instr.sliceBounds,Instr.sliceBound,asIntOf,b,d,e,f,go_sem,en]
theorem CM(w:ag)(g a m c:Nat)(f:m+1<=c):(Instr.slice 100 (ae (some ⟨g,a,none⟩) m c) (some (ab m)) (some (ab ((m:Int)+1))) none).run Tryz.prog w=.ok (ae (some ⟨g,a+m*2,none⟩) 1 (c-m)) w:=by
 have b:¬c=m:=by omega
 have d:(m:Int)+1<=(c:Int):=by omega
 have e:(0:Int)<=(m:Int)+1:=by omega
 simp[Instr.slice,cC underlying100,Instr.sliceBounds,Instr.sliceBound,asIntOf,b,d,e,go_sem,en]
theorem wV{w':ag}{v x' c:av}{b:Array Oper}{o:Oper}{a:Act}{K:Act->ag->Prop}{Q:Exit->Act->ag->Prop}{E:Prop}(e:o.guard=none)(s x:Operand)(f:o.op=.call {callee:=.builtin .append,args:= #[s,x],argTypes:= #[100,100]})(h:a.eval s=v)(j:a.eval x=x')(g:(Builtin.append_ #[100,100] o.type #[v,x']).run Tryz.prog w=.ok c w')(d:K (a.put o.dst c) w'):if Region.wanted o (yielded b a.tmps)=true then Oper.wp Tryz.prog o a w K Q else E:=by
 have i:Region.wanted o (yielded b a.tmps)=true:=by simp[Region.wanted,e]
 rw[if_pos i];unfold Oper.wp execOp;simp only[f,resolve,invoke,builtin,kV,Sem.run_pure,kU,mX,aU,ci,h,j,g];exact d
theorem AX(g b a i L:Nat)(w:ag)(d:Addr)(c f:List av)(_hL:L<=a)(_hi:i+1<=L)(_hm:L<=1000000)(k:Hid (∀W,(Instr.slice 100 (ae (some ⟨g,b,none⟩) L a) (some (ab i)) (some (ab ((i:Int)+1))) (some (ab L))).run Tryz.prog W=.ok (ae (some ⟨g,b+i*2,none⟩) 1 (L-i)) W))(l:Hid (∀W,(Instr.slice 100 (ae (some ⟨g,b,none⟩) L a) none (some (ab i)) none).run Tryz.prog W=.ok (ae (some ⟨g,b,none⟩) i a) W))(m:Hid (∀W,(Instr.slice 100 (ae (some ⟨g,b,none⟩) L a) (some (ab ((i:Int)+1))) none none).run Tryz.prog W=.ok (ae (some d) (L-(i+1)) (a-(i+1))) W))(h:Hid (∀ty,(Builtin.append_ #[100,100] ty #[ae (some ⟨g,b,none⟩) i a,ae (some d) (L-(i+1)) (a-(i+1))]).run Tryz.prog w.drew=.ok (ae (some ⟨g,b,none⟩) (L-1:Nat) a) (w.drew.setRow g c.toArray)))(n:Hid (∀W,(Instr.slice 100 (ae (some ⟨g,b,none⟩) (L-1:Nat) a) (some (ab (L-1:Nat))) (some (ab L)) none).run Tryz.prog W=.ok (ae (some ⟨g,b+(L-1)*2,none⟩) 1 (a-(L-1))) W))(j:Hid (∀ty,(Builtin.clear_ #[100] ty #[ae (some ⟨g,b+(L-1)*2,none⟩) 1 (a-(L-1))]).run Tryz.prog (w.drew.setRow g c.toArray)=.ok (.tuple #[]) ((w.drew.setRow g c.toArray).setRow g f.toArray))):am 78 #[ae (some ⟨g,b,none⟩) L a,ab i,ab ((i:Int)+1)] w λe w'=>e=.returned (ae (some ⟨g,b,none⟩) (L-1:Nat) a)/\w'=(w.drew.setRow g c.toArray).setRow g f.toArray:=by
 have u:=k.out;have v:=l.out;have x:=m.out;have s:=n.out;have r:=j.out;have o:=h.out 100;clear k l m n j h;have t:¬(i:Int)=(i:Int)+1:=by omega
 obtain⟨q,p⟩:∃q:Nat,q=L-1:=⟨_,rfl⟩;rw[<-p]at s o r ⊢;clear p;go_enter func78,ntmps78;go_wp2_with fail;go_region_held3 (λ_=>True) (trivial) ((first|(refine wV rfl _ _ rfl (by simp[Act.eval]) (by simp[Act.eval]) o ?_)));go_wp2_with fail
 go_ret
 exact⟨rfl,rfl⟩
theorem zg(g a d i:Nat)(vs:List Wd)(c:Array av)(w:ag)(R:i<vs.length)(u:w.heap[g]?=some (.cells c 109 (0,0)))(B:vs.length<=d)(M:vs.length<=1000000)(S:a+d*2<=c.size)(D:(c.toList.drop a).take (vs.length*2)=bk vs):am 78 #[ae (some ⟨g,a,none⟩) vs.length d,ab i,ab ((i:Int)+1)] w λe w'=>e=.returned (ae (some ⟨g,a,none⟩) (vs.length-1:Nat) d)/\Hid (bB (λb=>b=g) w w'/\w'.heap.size=w.heap.size/\∃p,w'.heap[g]?=some (.cells p 109 (0,0))/\p.size=c.size/\(p.toList.drop a).take ((vs.length-1)*2)=bk (vs.eraseIdx i)):=by
 obtain⟨Q,K,T,x,U⟩:=bW lp;have v:c.toList.length=c.size:=iz;obtain⟨k,n⟩:∃k,k=bk (vs.drop (i+1)):=⟨_,rfl⟩;have t:k.length=(vs.length-(i+1))*2:=by rw[n,cI,fj]
 have H:∀f l,k[f]?=some l->c.toList[a+(i+1)*2+f]?=some l:=λf l m=>by
  have L:=(aX.1 m).1;have y:(bk vs)[(i+1)*2+f]?=some l:=by
   rw[<-m,n];have:=tC vs (i+1) (vs.length-(i+1)) f (by omega);rw[bF (by simp)]at this;exact this.symm
  rw[<-D,jp,if_pos (by omega),kP]at y;rw[show a+(i+1)*2+f=a+((i+1)*2+f) by omega];exact y
 have N:∀h:ag,h.heap[g]?=some (.cells c 109 (0,0))->∀f l,k[f]?=some l->h.cell? ((if d=i+1 then (⟨g,a,none⟩:Addr)else ⟨g,a+(i+1)*2,none⟩).add f)=some l:=λh I f l m=>by
  have L:=(aX.1 m).1;by_cases G:d=i+1
  ·omega
  ·rw[if_neg G,en,ah I];exact H f l m
 have o:=λty:TypeId=>oD (P:=Tryz.prog) w.drew 100 ty 109 Q underlying100 K g a i d c u (if d=i+1 then (⟨g,a,none⟩:Addr)else ⟨g,a+(i+1)*2,none⟩) (vs.length-(i+1)) (d-(i+1)) k (by rw[t,x]) (N w.drew u) (by rw[n];exact qM _) (by omega) (by rw[x,t];omega);simp only[x]at o;rw[show i+(vs.length-(i+1))=vs.length-1 by omega]at o;obtain⟨j,r⟩:∃j,j=c.toList.take (a+i*2)++k++c.toList.drop (a+i*2+k.length):=⟨_,rfl⟩;rw[<-r]at o;have s:j.length=c.size:=by
  rw[r];simp only[bw,dL,fj,v];omega
 have A:(w.drew.setRow g j.toArray).heap[g]?=some (.cells j.toArray 109 (0,0)):=setRow_heap w.drew g c _ _ _ u;have J:=λty:TypeId=>vP (w.drew.setRow g j.toArray) ty g (a+(vs.length-1)*2) (d-(vs.length-1)) j.toArray A (by simp only[dT,s];omega);have z:=λh=>CM h g a (vs.length-1) d (by omega);rw[show (((vs.length-1:Nat):Int)+1)=(vs.length:Int) by omega]at z;refine(AX g a d i vs.length w _ j _ B (by omega) M (λh=>IN h g a vs.length d i B (by omega)) (λh=>Aq h g a vs.length d i (by omega)) (λh=>CN h g a vs.length d i (by omega)) o z J).mono ?_;rintro e w' ⟨rfl,rfl⟩;refine⟨rfl,⟨rfl,rfl,rfl,by simp,λb _ C=>(setRow_other _ _ _ _ C).trans (setRow_other _ _ _ _ C)⟩,by simp,_,setRow_heap _ _ _ _ _ _ A,?_,?_⟩
 ·have O:tG.length=2:=rfl;simp only[dT,bw,dL,fj,s,O];omega
 ·have q:(j.take (a+(vs.length-1)*2)).length=a+(vs.length-1)*2:=by rw[dL,s];omega
  rw[mV,pw (by rw[q];omega),g8 (by rw[fj,q];omega),bF (by rw[fj,q];omega)];have E:j.take (a+(vs.length-1)*2)=c.toList.take (a+i*2)++k:=by
   rw[r];exact List.take_left' (by rw[bw,dL,t,v];omega)
  rw[E,pw (by rw[dL,v];omega),List.drop_take];have F:(c.toList.drop a).take (i*2)=bk (vs.take i):=by
   have:=congrArg (List.take (i*2)) D;rw[List.take_take,Nat.min_eq_left (by omega)]at this;rw[this]
   conv=>lhs;rw[<-gZ i vs,p7]
   exact List.take_left' (by rw[cI,dL];omega)
  rw[show a+i*2-a=i*2 by omega,F,n,<-p7,sW]
end Go.Proofs.YtmmahddlcldmiaaGreat
