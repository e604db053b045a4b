/- What is proved here: plain facts and contracts that the claimed theorem stands on. No condition but those that each names. -/
import Derived.Test.YtmbjgiaebneodaaGreatG42
import Derived.ProofKit
import Derived.OpenShut
import Derived.JoinedCond
namespace Go.Proofs.YtmbjgiaebneodaaGreat
open Go.RowKit
open Go.ChangeShapes Go.WideShapes Go.ChangeAt Go.RowKit
set_option maxRecDepth 100000
set_option maxHeartbeats 4000000
def jN:Tc:=aF 3 2 12
def df (u:Int):Tc:=bH 12 [aC wN 11,aF 1 u 11]
def Qe:List An:=[⟨1,dn⟩,⟨1,dn⟩,⟨1,dn⟩]
theorem Pk:(wN.toList==rJ.toList)=false:=by
 simp[ByteArray.toList_eq,wN,rJ]
theorem KN:bq wN=true:=by simp[bq,wN,kr,eu,nN,show (⟨#[110]⟩:ByteArray).size=1 from rfl]
theorem Ka {n m:Nat} {x:Tm n} {y:Tm m} {B:Nat} {w:World} (hx:In B w n x) (hy:In B w m y) (hB:B<=w.heap.size) (h1:aQ n x=0) (h2:aQ m y=0) (h:cn n x=cn m y):
    Calls Tryz.prog 16 #[val n x,val m y] w fun e w'=>e=.returned (.bool true)/\Below w.heap.size w w':=by
 have k:=Cs n x m y B w hx hy hB
 rw[EF h1 h2 h]at k
 exact k
def eT (k u:Int) (s:ByteArray) (a:Option Addr×Nat) (N:Nat):Tm (N+1):=((k,u,s),a,[])
def Ky (a:Option Addr×Nat) (N:Nat) (l:List (Tm N)):Tm (N+1):=((4,0,.empty),a,l)
theorem mf {n m:Nat} {x:Tm (n+1)} {k u:Int} {s:ByteArray} {b:Option Addr×Nat} (h:same (n+1) x (m+1) ((k,u,s),b,[])=true):∃a,x=eT k u s a n:=by
 obtain⟨h1,h2⟩:=aM h
 obtain⟨x1,xa,xl⟩:=x
 cases xl with
 | nil=>exact⟨xa,by rw[show x1=(k,u,s)from h1];rfl⟩
 | cons y l=>simp[ah]at h2
theorem wH {N n m:Nat} {x:Tm (n+1)} {y:Tm (m+1)} (h:same (N+1) (lift (N+1) (n+1) x) (m+1) y=true):x.1=y.1/\ah (fun a b=>same N (lift N n a) m b) x.2.2 y.2.2=true:=by
 obtain⟨h1,h2⟩:=aM h
 refine⟨h1, ?_⟩
 have h3:((lift (N+1) (n+1) x).2.2)=x.2.2.map (lift N n):=rfl
 rw[h3]at h2
 generalize y.2.2=q at h2
 clear h h1 h3
 generalize x.2.2=p at h2 ⊢
 clear x
 induction p generalizing q with
 | nil=>
  cases q with
  | nil=>rfl
  | cons b q=>simp[ah]at h2
 | cons a p ih=>
  cases q with
  | nil=>simp[ah]at h2
  | cons b q=>
   simp only[List.map_cons,ah,Bool.and_eq_true]at h2 ⊢
   exact⟨h2.1,ih q h2.2⟩
theorem nA {N n m:Nat} {x:Tm (n+1)} {k u:Int} {s:ByteArray} {b:Option Addr×Nat} (h:same (N+1) (lift (N+1) (n+1) x) (m+1) ((k,u,s),b,[])=true):∃a,x=eT k u s a n:=by
 obtain⟨h1,h2⟩:=wH h
 obtain⟨x1,xa,xl⟩:=x
 cases xl with
 | nil=>exact⟨xa,by rw[show x1=(k,u,s)from h1];rfl⟩
 | cons y l=>simp[ah]at h2
theorem o9 {α β:Type} {f:α->β->Bool} {p:List α} {b c:β} (h:ah f p [b,c]=true):∃x y,p=[x,y]/\f x b=true/\f y c=true:=by
 obtain⟨x,p1,rfl,h1,h⟩:=bC h
 obtain⟨y,p2,rfl,h2,h⟩:=bC h
 cases p2 with
 | nil=>exact⟨x,y,rfl,h1,h2⟩
 | cons z l=>simp[ah]at h
def lu (l:List (Bh 8)):Prop:=∃b1 b2 b3 b4 b5 b6 b7 b8 b9 c1 c2 c3 c4 c5 nm r,l=[(aV,c1,[((eT 5 0 .empty b1 7,Ky b2 7 [eT 2 0 wN b3 6,eT 5 1 .empty b4 6],eT 5 0 .empty b5 7),c2,[(1,(eT 5 0 .empty b6 7,Ky b7 7 [eT 2 0 wN b8 6,Ky b9 6 [eT 2 0 eQ c3 5,eT 5 1 .empty c4 5,eT 1 1 .empty c5 5]]),nm,r)])])]
theorem G5 {l:List (Bh 8)} (h:same 13 (bM 7 l) 8 (bM 2 iN)=true):lu l:=by
 obtain⟨_,h⟩:=aM h
 have h:ah (fun a b=>same 12 a 7 b) (aC iD 11::l.map (dF 7)) [aC iD 6,dF 2 (aV,(none,0),[((lK 0 2,Bi,lK 0 2),(none,0),[(1,(lK 0 2,oC),.empty,0)])])]=true:=h
 obtain⟨_,y,e,_,h⟩:=o9 h
 obtain⟨_,e⟩:=List.cons.inj e
 obtain⟨b,rfl,rfl⟩:=List.map_eq_singleton_iff.1 e
 obtain⟨_,h⟩:=aM h
 have h:ah (fun a b=>same 11 a 6 b) (aC mq 10::aC b.1 10::b.2.2.map (dL 7)) [aC mq 5,aC aV 5,dL 2 ((lK 0 2,Bi,lK 0 2),(none,0),[(1,(lK 0 2,oC),.empty,0)])]=true:=h
 obtain⟨_,_,e,_,h⟩:=bC h
 obtain⟨_,e⟩:=List.cons.inj e
 subst e
 obtain⟨_,y,e,hn,h⟩:=o9 h
 obtain⟨q1,e'⟩:=List.cons.inj e
 subst q1
 obtain⟨c,hc,rfl⟩:=List.map_eq_singleton_iff.1 e'
 have hn:b.1=aV:=by
  have:=(aM hn).1
  simpa [aC]using this
 obtain⟨_,h⟩:=aM h
 have h:ah (fun a b=>same 10 a 5 b) [aC Fh 9,lift 10 8 c.1.1,lift 10 8 c.1.2.1,bH 9 (c.2.2.map (bT 7)),lift 10 8 c.1.2.2] [aC Fh 4,lift 5 3 (lK 0 2),lift 5 3 Bi,bH 4 [bT 2 (1,(lK 0 2,oC),.empty,0)],lift 5 3 (lK 0 2)]=true:=h
 simp only[ah,Bool.and_eq_true,and_true]at h
 obtain⟨_,h1,h2,h3,h4⟩:=h
 obtain⟨b1,e1⟩:=nA h1
 obtain⟨b5,e5⟩:=nA h4
 obtain⟨k1,h2⟩:=wH h2
 obtain⟨x,y,e2,h5,h6⟩:=o9 (show ah _ c.1.2.1.2.2 [lift 4 2 (aC wN 1),lift 4 2 (lK 1 1)]=true from h2)
 obtain⟨b3,rfl⟩:=nA h5
 obtain⟨b4,rfl⟩:=nA h6
 obtain⟨_,h3⟩:=aM h3
 have h3:ah (fun a b=>same 9 a 4 b) (c.2.2.map (bT 7)) [bT 2 (1,(lK 0 2,oC),.empty,0)]=true:=h3
 obtain⟨_,p',e,h3,h7⟩:=bC h3
 have:p'=[]:=by
  cases p' with
  | nil=>rfl
  | cons z l=>simp[ah]at h7
 subst this
 obtain⟨a,ha,rfl⟩:=List.map_eq_singleton_iff.1 e
 obtain⟨_,h3⟩:=aM h3
 have h3:ah (fun a b=>same 8 a 3 b) (bT 7 a).2.2 [aC iG 2,lK 0 2,oC]=true:=h3
 have ha1:a.1=1:=by
  unfold bT at h3
  split at h3
  ·assumption
  ·split at h3
   ·simp[bH,ah]at h3
   ·split at h3
    ·simp[bH,ah]at h3
    ·simp[bH,ah]at h3
 have e6:(bT 7 a).2.2=[aC iG 7,a.2.1.1,a.2.1.2]:=by
  unfold bT
  rw[if_pos ha1]
  rfl
 rw[e6]at h3
 simp only[ah,Bool.and_eq_true,and_true]at h3
 obtain⟨_,h8,h9⟩:=h3
 obtain⟨b6,e7⟩:=mf h8
 obtain⟨k2,h9⟩:=aM h9
 obtain⟨x,y,e8,i1,i2⟩:=o9 (show ah _ a.2.1.2.2.2 [aC wN 1,bH 1 [aC eQ 0,lK 1 0,aF 1 1 0]]=true from h9)
 obtain⟨b8,rfl⟩:=mf i1
 obtain⟨k3,i2⟩:=aM i2
 have i2:ah (fun a b=>same 6 a 1 b) y.2.2 [aC eQ 0,lK 1 0,aF 1 1 0]=true:=i2
 obtain⟨z1,p1,e9,j1,i2⟩:=bC i2
 obtain⟨z2,z3,rfl,j2,j3⟩:=o9 i2
 obtain⟨c3,rfl⟩:=mf j1
 obtain⟨c4,rfl⟩:=mf j2
 obtain⟨c5,rfl⟩:=mf j3
 obtain⟨bn,bc,bl⟩:=b
 obtain⟨⟨cs,cm,cx⟩,cc,cl⟩:=c
 obtain⟨ak,⟨at1,at2⟩,an,ar⟩:=a
 obtain⟨m1,m2,m3⟩:=cm
 obtain⟨w1,w2,w3⟩:=at2
 obtain⟨y1,y2,y3⟩:=y
 simp only at hn hc e1 e2 e5 k1 ha ha1 e7 e8 e9 k2 k3
 subst hn hc e1 e2 e5 k1 ha ha1 e7 e8 e9 k2 k3
 exact⟨b1,m2,b3,b4,b5,b6,w2,b8,y2,bc,cc,c3,c4,c5,an,ar,rfl⟩
def wT:List Tc:=[jN,aF 1 1 12,cn 1 dn,cn 1 dn]
def OT:Tk:=⟨df 1,0,[(2,df 2)],[],[],jN,[]⟩
section
variable (b1 b2 b3 b4 b5 b6 b7 b8 b9 c1 c2 c3 c4 c5:Option Addr×Nat)
theorem D8:fit 8 (eT 5 0 .empty b1 7) 13 jN rU=some (⟨13,jN⟩::Qe):=rfl
theorem Pv (b:List An):fit 7 (eT 2 0 wN b3 6) 12 (aC wN 11) b=some b:=by
 have h:same 7 (eT 2 0 wN b3 6) 12 (aC wN 11)=true:=aZ rfl rfl
 exact(if_neg (show¬(2:Int)=6 by decide)).trans ((if_neg (show¬(2:Int)=5 by decide)).trans ((if_neg (show¬(2:Int)=4 by decide)).trans (if_pos h)))
theorem LQ:fit 8 (Ky b2 7 [eT 2 0 wN b3 6,eT 5 1 .empty b4 6]) 13 (df 1) (⟨13,jN⟩::Qe)=some [⟨13,jN⟩,⟨12,aF 1 1 11⟩,⟨1,dn⟩,⟨1,dn⟩]:=by
 refine(if_neg (show¬(4:Int)=6 by decide)).trans ((if_neg (show¬(4:Int)=5 by decide)).trans ((if_pos (show (4:Int)=4 from rfl)).trans ((if_pos (show (4:Int)=4/\(2:Nat)=2 from⟨rfl,rfl⟩)).trans ?_)))
 show (fit 7 (eT 2 0 wN b3 6) 12 (aC wN 11) (⟨13,jN⟩::Qe)).bind (fun b=>(fit 7 (eT 5 1 .empty b4 6) 12 (aF 1 1 11) b).bind (fun b=>some b))=_
 rw[Pv,Option.bind_some]
 rfl
theorem NC:vl 13 wT 1 7 (Ky b9 6 [eT 2 0 eQ c3 5,eT 5 1 .empty c4 5,eT 1 1 .empty c5 5])=some (aF 1 2 19):=by
 have hw:tq 6 [eT 2 0 eQ c3 5,eT 5 1 .empty c4 5,eT 1 1 .empty c5 5] qM 2=true:=by
  have h:tq 6 [eT 2 0 eQ c3 5,eT 5 1 .empty c4 5,eT 1 1 .empty c5 5] qM 2=(eQ.toList==qM.toList):=rfl
  rw[h]
  simp[ByteArray.toList_eq,eQ,qM]
 refine(if_neg (show¬(4:Int)=5 by decide)).trans ((if_neg (show¬(4:Int)=6 by decide)).trans ((if_pos (show (4:Int)=4 from rfl)).trans ((if_neg (show¬tq 6 [eT 2 0 eQ c3 5,eT 5 1 .empty c4 5,eT 1 1 .empty c5 5] mH 0=true by exact Bool.false_ne_true)).trans ((if_pos hw).trans ?_))))
 rfl
theorem Qb:vl 13 wT 1 7 (eT 2 0 wN b8 6)=some (lift 20 7 (eT 2 0 wN b8 6)):=rfl
theorem J7:vl 13 wT 1 8 (Ky b7 7 [eT 2 0 wN b8 6,Ky b9 6 [eT 2 0 eQ c3 5,eT 5 1 .empty c4 5,eT 1 1 .empty c5 5]])=some (bH 20 [lift 20 7 (eT 2 0 wN b8 6),aF 1 2 19]):=by
 generalize hz:Ky b9 6 [eT 2 0 eQ c3 5,eT 5 1 .empty c4 5,eT 1 1 .empty c5 5]=z
 have hv:vl 13 wT 1 7 z=some (aF 1 2 19):=by rw[<-hz];exact NC b9 c3 c4 c5
 clear hz
 have hp:tq 7 [eT 2 0 wN b8 6,z] rJ 1=false:=by
  have h:tq 7 [eT 2 0 wN b8 6,z] rJ 1=(wN.toList==rJ.toList):=rfl
  rw[h,Pk]
 refine(if_neg (show¬(4:Int)=5 by decide)).trans ((if_neg (show¬(4:Int)=6 by decide)).trans ((if_pos (show (4:Int)=4 from rfl)).trans ((if_neg (show¬tq 7 [eT 2 0 wN b8 6,z] mH 0=true by exact Bool.false_ne_true)).trans ((if_neg (show¬tq 7 [eT 2 0 wN b8 6,z] qM 2=true by exact Bool.false_ne_true)).trans ((if_neg (show¬tq 7 [eT 2 0 wN b8 6,z] rJ 1=true by rw[hp];exact Bool.false_ne_true)).trans ?_)))))
 show ((vl 13 wT 1 7 (eT 2 0 wN b8 6)).bind fun b=>((vl 13 wT 1 7 z).bind fun c=>some [c]).map fun l=>b::l).map (bH 20)=_
 rw[Qb,hv]
 rfl
theorem JE:aQ 21 (lift 21 13 jN)=0:=by
 have hf:aY 21 (lift 21 13 jN)=true:=by
  rw[<-ax]
  intro a ha
  have ha:a∈[(((3,2,.empty),(none,0,0)):Nd)]:=ha
  obtain rfl:=List.mem_singleton.1 ha
  simp[good,kr]
 exact aN.2 ⟨hf,by decide,by decide⟩
theorem Gt:aQ 21 (bH 20 [lift 20 7 (eT 2 0 wN b8 6),aF 1 2 19])=0:=by
 have hf:aY 21 (bH 20 [lift 20 7 (eT 2 0 wN b8 6),aF 1 2 19])=true:=by
  rw[<-ax]
  intro a ha
  have ha:a∈[(((4,0,.empty),(none,2,0)):Nd),((2,0,wN),(b8.1,0,b8.2)),((1,2,.empty),(none,0,0))]:=ha
  simp only[List.mem_cons,List.not_mem_nil,or_false]at ha
  rcases ha with rfl|rfl|rfl
  ·simp[good]
  ·simp[good,KN]
  ·simp[good,kr]
 have hd:dU 21 (bH 20 [lift 20 7 (eT 2 0 wN b8 6),aF 1 2 19])=dU 21 (bH 20 [lift 20 7 (eT 2 0 wN (none,0) 6),aF 1 2 19]):=rfl
 have hz:sz 21 (bH 20 [lift 20 7 (eT 2 0 wN b8 6),aF 1 2 19])=sz 21 (bH 20 [lift 20 7 (eT 2 0 wN (none,0) 6),aF 1 2 19]):=rfl
 exact aN.2 ⟨hf,by rw[hd];decide,by rw[hz];decide⟩
theorem Df:qL wT 1 8 (eT 5 0 .empty b1 7)=some jN:=by
 have h:vl 13 wT 1 8 (eT 5 0 .empty b1 7)=some (lift 21 13 jN):=rfl
 unfold qL
 rw[h,Option.bind_some,if_pos JE]
 rfl
theorem DW {l:List (Bh 8)} (h:lu l):mh 100 l aV 1 3 jN [df 1]=some OT:=by
 obtain⟨b1,b2,b3,b4,b5,b6,b7,b8,b9,c1,c2,c3,c4,c5,nm,r,rfl⟩:=h
 have hwt:=J7 b7 b8 b9 c3 c4 c5
 have hfm:=LQ b2 b3 b4
 generalize hW:Ky b7 7 [eT 2 0 wN b8 6,Ky b9 6 [eT 2 0 eQ c3 5,eT 5 1 .empty c4 5,eT 1 1 .empty c5 5]]=W at hwt
 generalize hM:Ky b2 7 [eT 2 0 wN b3 6,eT 5 1 .empty b4 6]=m at hfm
 clear hW hM
 have hvw:qL wT 1 8 W=some (df 2):=by
  unfold qL
  rw[hwt,Option.bind_some,if_pos (Gt b8)]
  rfl
 generalize hc:(((eT 5 0 .empty b1 7,m,eT 5 0 .empty b5 7),c2,[(1,(eT 5 0 .empty b6 7,W),nm,r)]):Cl 8)=c
 have hb:gD aV [(aV,c1,[c])]=[c]:=by
  unfold gD
  have:fO 8 aV [(aV,c1,[c])]=some (aV,c1,[c]):=if_pos (show aV=aV from rfl)
  rw[this]
  rfl
 have hfit:lC c jN (df 1)=some wT:=by
  unfold lC
  have h1:fit 8 c.1.1 13 jN rU=some (⟨13,jN⟩::Qe):=by rw[<-hc];exact D8 b1
  have h2:fit 8 c.1.2.1 13 (df 1) (⟨13,jN⟩::Qe)=some [⟨13,jN⟩,⟨12,aF 1 1 11⟩,⟨1,dn⟩,⟨1,dn⟩]:=by rw[<-hc];exact hfm
  rw[h1,Option.bind_some,h2]
  rfl
 have hs:yt [c] jN [df 1] 0=some (0,c,wT):=by
  simp only[yt,nP,hfit]
 have hdo:rG 1 c.2.2 ⟨wT,3,[],[],[],false⟩=some ⟨wT,3,[(2,df 2)],[],[],false⟩:=by
  have h1:vF 1 ((1,(eT 5 0 .empty b6 7,W),nm,r):Ac 8) ⟨wT,3,[],[],[],false⟩=some ⟨wT,3,[(2,df 2)],[],[],false⟩:=by
   have hp:kP wT 1 8 (eT 5 0 .empty b6 7)=some 2:=by
    unfold kP
    rw[Df]
    rfl
   refine(if_pos (show (1:Int)=1 from rfl)).trans ?_
   show ((kP wT 1 8 (eT 5 0 .empty b6 7)).bind fun u=>(qL wT 1 8 W).map fun t=>(⟨wT,3,[]++ [(u,t)],[],[],false⟩:Dg))=_
   rw[hp,Option.bind_some,hvw]
   rfl
  rw[<-hc]
  show (vF 1 ((1,(eT 5 0 .empty b6 7,W),nm,r):Ac 8) ⟨wT,3,[],[],[],false⟩).bind (fun d=>some d)=_
  rw[h1]
  rfl
 have hv:qL wT 1 8 c.1.2.2=some jN:=by rw[<-hc];exact Df b5
 unfold mh
 rw[hb,hs]
 show some (dR 100 1 3 jN (df 1) [] c wT)=_
 unfold dR
 rw[hdo]
 simp only[hv]
 rw[if_pos (by decide)]
 rfl
end
def lH (u:Int):Tc:=aF 3 u 12
def Qv:List (ByteArray×Int×Int×Tc):=[(qm,0,1,lH 2),(qm,0,2,lH 1)]
def MH:Sy:=⟨1,[(1,aV,lH 2,[])],fun _=> [],fun _=>false,[(qm,0,1,lH 2)]⟩
def uZ (ms:List Tc):Sy:=⟨2,[(1,aV,lH 2,ms),(2,aV,lH 1,[])],fun _=> [],fun _=>false,Qv⟩
def DL:Sy:=⟨2,[(1,aV,lH 2,[]),(2,aV,lH 1,[])],upd (fun _=> []) (1,2) [df 2],fun _=>false,Qv++ [(jM,1,0,df 1)]++ [(zn,1,2,df 2)]⟩
def Lg:Sy:=⟨2,[(1,aV,lH 2,[]),(2,aV,lH 1,[df 2])],upd (upd (fun _=> []) (1,2) [df 2]) (1,2) [],fun _=>false,Qv++ [(jM,1,0,df 1)]++ [(zn,1,2,df 2)]⟩
theorem Ei:bq aV=true:=by simp[bq,aV,kr,eu,nN,show (⟨#[114,101,108,97,121]⟩:ByteArray).size=5 from rfl]
theorem I9 (u:Int) (h:1<=u/\u<=99) (N:Nat):aQ (N+1) (aF 3 u N)=0:=by
 have hf:aY (N+1) (aF 3 u N)=true:=by
  rw[<-ax]
  intro a ha
  have ha:a∈[(((3,u,.empty),(none,0,0)):Nd)]:=ha
  obtain rfl:=List.mem_singleton.1 ha
  simp[good,kr,h]
 exact aN.2 ⟨hf,by show (0:Int)<=12;decide,by show (0:Int)<=200;decide⟩
theorem qz (u:Int) (h:1<=u/\u<=99):aQ 13 (df u)=0:=by
 have hf:aY 13 (df u)=true:=by
  rw[<-ax]
  intro a ha
  have ha:a∈[(((4,0,.empty),(none,2,0)):Nd),((2,0,wN),(none,0,0)),((1,u,.empty),(none,0,0))]:=ha
  simp only[List.mem_cons,List.not_mem_nil,or_false]at ha
  rcases ha with rfl|rfl|rfl
  ·simp[good]
  ·simp[good,KN]
  ·simp[good,kr]
   omega
 have hd:dU 13 (df u)=dU 13 (df 1):=rfl
 have hz:sz 13 (df u)=sz 13 (df 1):=rfl
 exact aN.2 ⟨hf,by rw[hd];decide,by rw[hz];decide⟩
theorem P8 (u:Int) (h:1<=u/\u<=99):eD 1 (aF 3 u 0) 100 aV=0:=by
 unfold eD iB
 rw[Ei,I9 u h]
 rfl
section
variable {l:List (Bh 8)} (hl:lu l)
include hl
theorem Le:mG 7 l aV=true:=by
 obtain⟨b1,b2,b3,b4,b5,b6,b7,b8,b9,c1,c2,c3,c4,c5,nm,r,rfl⟩:=hl
 unfold mG
 have:∀c:List (Cl 8),fO 8 aV [(aV,c1,c)]=some (aV,c1,c):=fun c=>if_pos (show aV=aV from rfl)
 rw[this]
 rfl
theorem Od:PM.start 7 l 100 aV 1 (aF 3 2 0)=(MH,0):=by
 unfold Sy.start
 rw[if_neg (show¬PM.may 1=false by decide),if_neg (by rw[Le hl];decide),if_neg (by rw[P8 2 (by omega)];decide)]
 rfl
theorem MV:MH.start 7 l 100 aV 1 (aF 3 1 0)=(uZ [],0):=by
 unfold Sy.start
 rw[if_neg (show¬MH.may 1=false by decide),if_neg (by rw[Le hl];decide),if_neg (by rw[P8 1 (by omega)];decide)]
 rfl
omit hl in
theorem N9 {k:Nat} {m:Tm k} (hc:aQ k m=0) (hz:av k m=true) (hm:cn k m=df 1):(uZ []).do 7 l 100 3 1 0 k m=(uZ [df 1],0):=by
 have hd:jC 13 (df 1) 100 (lH 2) []=0:=by
  unfold jC
  rw[qz 1 (by omega)]
  rfl
 unfold Sy.do Sy.inject
 rw[if_neg (by decide),if_neg (by decide),if_pos rfl,if_neg (show¬((uZ []).get 1).isSome=false by decide),if_neg (by rw[hc];decide),if_neg (by rw[hz];decide),hm]
 have hg:(uZ []).get 1=some (aV,lH 2,[]):=rfl
 unfold Sy.deliver
 rw[hg]
 simp only[hd]
 rfl
theorem QB (hE:lM 7 l=0) (k:Nat) (x:Tm k):(uZ [df 1]).do 7 l 100 1 1 0 k x=(DL,0):=by
 have hg:(uZ [df 1]).get 1=some (aV,lH 2,[df 1]):=rfl
 have hs:=DW hl
 have he:qQ 7 100 l aV 1 3 jN [df 1]=0:=by
  unfold qQ
  rw[hE,hs]
  rfl
 have hse:jT 12 1 2 (df 2) 0=0:=by
  unfold jT
  rw[qz 2 (by omega)]
  rfl
 unfold Sy.do
 rw[if_pos rfl]
 unfold Sy.run
 rw[hg]
 have hst:(uZ [df 1]).last+1=3:=rfl
 simp only[hst]
 have hp:lH 2=jN:=rfl
 rw[hp,he,if_pos rfl,hs]
 obtain⟨s3,hs3⟩:∃s3:Sy,s3=⟨2,[(1,aV,lH 2,[]),(2,aV,lH 1,[])],fun _=> [],fun _=>false,Qv++ [(jM,1,0,df 1)]⟩:=⟨_,rfl⟩
 have h3:((uZ [df 1]).put 1 (aV,OT.state,OT.mail)).tell jM 1 0 OT.message=s3:=by rw[hs3];rfl
 have hm:Sy.made 7 l 100 s3 OT.spawns=true:=by rw[hs3];rfl
 have hf:s3.follow 1 OT=DL:=by
  have h4:s3.follow 1 OT=s3.send 1 2 (df 2):=rfl
  have h5:(s3.ways (1,2)).length=0:=by rw[hs3];rfl
  rw[h4]
  unfold Sy.send
  rw[h5,if_pos hse,hs3]
  rfl
 simp only[h3,hf,hm]
 rfl
omit hl in
theorem MX (k:Nat) (x:Tm k):DL.do 7 l 100 2 1 2 k x=(Lg,0):=by
 have hd:jC 13 (df 2) 100 (lH 1) []=0:=by
  unfold jC
  rw[qz 2 (by omega)]
  rfl
 have hw:DL.ways (1,2)=[df 2]:=rfl
 obtain⟨s5,hs5⟩:∃s5:Sy,s5={DL with ways:=upd DL.ways (1,2) []}:=⟨_,rfl⟩
 have hg:s5.get 2=some (aV,lH 1,[]):=by rw[hs5];rfl
 unfold Sy.do Sy.arrive
 rw[if_neg (by decide),if_pos rfl,hw]
 simp only[<-hs5,hg,Option.isSome_some,if_true]
 unfold Sy.deliver
 rw[hg]
 simp only[hd]
 rw[hs5]
 rfl
end
theorem rend:Lg.get 2=some (aV,lH 1,[df 2])/\Lg.evs.length=4:=⟨rfl,rfl⟩
theorem P6 (sb:Nat) (W:World):(binOp .eql 26 (.pointer (some ⟨sb,0,none⟩)) (.pointer none)).run Tryz.prog W=.ok (.bool false) W:=by kernel_rfl
theorem zu (w:World) (P0:Option Addr->Nat->Nat->World->Prop) (Q1 Q2 Q3 Q4 Q5 Q6:Nat->World->Prop) (Q7:Nat->Nat->Nat->Int->Int->ByteArray->Option Addr->Nat->Nat->World->Prop)
    (H1:Hid (Calls Tryz.prog 10 #[] w fun e w'=>∃a l c,e=.returned (.slice a l c)/\Hid (P0 a l c w')))
    (H2:Hid (∀a l c W,P0 a l c W->Calls Tryz.prog 9 #[.slice a l c,.int .i64 100] W fun e w'=>∃sb,e=.returned (.tuple #[.pointer (some ⟨sb,0,none⟩),.int .i64 0])/\Hid (Q1 sb w')))
    (H3:Hid (∀sb W,Q1 sb W->Calls Tryz.prog 11 #[.pointer (some ⟨sb,0,none⟩),.string ⟨#[114,101,108,97,121]⟩,.agg #[.int .i64 3,.int .i64 2,.string ⟨#[]⟩,.slice none 0 0]] W fun e w'=>e=.returned (.tuple #[.int .i64 1,.int .i64 0])/\Hid (Q2 sb w')))
    (H4:Hid (∀sb W,Q2 sb W->Calls Tryz.prog 11 #[.pointer (some ⟨sb,0,none⟩),.string ⟨#[114,101,108,97,121]⟩,.agg #[.int .i64 3,.int .i64 1,.string ⟨#[]⟩,.slice none 0 0]] W fun e w'=>e=.returned (.tuple #[.int .i64 2,.int .i64 0])/\Hid (Q3 sb w')))
    (H5:Hid (∀sb g W W',Q3 sb W->Below W.heap.size W W'->W'.heap[g]? =some (.cells #[.int .i64 2,.int .i64 0,.string ⟨#[110]⟩,.slice none 0 0,.int .i64 1,.int .i64 1,.string ⟨#[]⟩,.slice none 0 0] 30)->W.heap.size<=g->Calls Tryz.prog 6 #[.pointer (some ⟨sb,0,none⟩),.agg #[.int .i64 3,.int .i64 1,.int .i64 0,.int .i64 4,.int .i64 0,.string ⟨#[]⟩,.slice (some ⟨g,0,none⟩) 2 2]] W' fun e w'=>e=.returned (.int .i64 0)/\Hid (Q4 sb w')))
    (H6:Hid (∀sb W,Q4 sb W->Calls Tryz.prog 6 #[.pointer (some ⟨sb,0,none⟩),.agg #[.int .i64 1,.int .i64 1,.int .i64 0,.int .i64 0,.int .i64 0,.string ⟨#[]⟩,.slice none 0 0]] W fun e w'=>e=.returned (.int .i64 0)/\Hid (Q5 sb w')))
    (H7:Hid (∀sb W,Q5 sb W->Calls Tryz.prog 6 #[.pointer (some ⟨sb,0,none⟩),.agg #[.int .i64 2,.int .i64 1,.int .i64 2,.int .i64 0,.int .i64 0,.string ⟨#[]⟩,.slice none 0 0]] W fun e w'=>e=.returned (.int .i64 0)/\Hid (Q6 sb w')))
    (H8:Hid (∀sb W,Q6 sb W->Calls Tryz.prog 15 #[.pointer (some ⟨sb,0,none⟩),.int .i64 2] W fun e w'=>∃nm y0 y1 y2 ya yl yc g o z0 z1 z2 za zl zc mc,e=.returned (.tuple #[.string nm,.agg #[.int .i64 y0,.int .i64 y1,.string y2,.slice ya yl yc],.slice (some ⟨g,o,none⟩) 1 mc,.int .i64 0])/\Hid (Q7 sb g o z0 z1 z2 za zl zc w')))
    (H9:Hid (∀sb g o z0 z1 z2 za zl zc W W',Q7 sb g o z0 z1 z2 za zl zc W->Below W.heap.size W W'->(W'.cell? ⟨g,o,none⟩=some (.int .i64 z0)/\W'.cell? ⟨g,o+1,none⟩=some (.int .i64 z1)/\W'.cell? ⟨g,o+2,none⟩=some (.string z2)/\W'.cell? ⟨g,o+3,none⟩=some (.slice za zl zc))))
    (H10:Hid (∀sb g o z0 z1 z2 za zl zc W W' g',Q7 sb g o z0 z1 z2 za zl zc W->Below W.heap.size W W'->W'.heap[g']? =some (.cells #[.int .i64 2,.int .i64 0,.string ⟨#[110]⟩,.slice none 0 0,.int .i64 1,.int .i64 2,.string ⟨#[]⟩,.slice none 0 0] 30)->Calls Tryz.prog 16 #[.agg #[.int .i64 z0,.int .i64 z1,.string z2,.slice za zl zc],.agg #[.int .i64 4,.int .i64 0,.string ⟨#[]⟩,.slice (some ⟨g',0,none⟩) 2 2]] W' fun e w'=>e=.returned (.bool true)/\Below W'.heap.size W' w'))
    (H11:Hid (∀sb g o z0 z1 z2 za zl zc W W',Q7 sb g o z0 z1 z2 za zl zc W->Below W.heap.size W W'->Calls Tryz.prog 7 #[.pointer (some ⟨sb,0,none⟩)] W' fun e w'=>∃a c,e=.returned (.slice a 4 c)/\Hid (Below W'.heap.size W' w'/\Below w.heap.size w w'))):
    Calls Tryz.prog 4 #[] w fun e w'=>e=.returned (.bool true)/\Hid (Below w.heap.size w w'):=by
 go_enter Tryz.func4,Tryz.ntmps4
 go_wp2_with fail
 refine H1.out.mono ?_
 rintro e w1 ⟨a,l,c,rfl,K1⟩
 clear H1
 go_wp2_with fail
 refine(H2.out _ _ _ _ K1.out).mono ?_
 rintro e w2 ⟨sb,rfl,K2⟩
 clear H2 K1
 have hq:=P6 sb
 go_wp2_with fail
 refine(H3.out _ _ K2.out).mono ?_
 rintro e w3 ⟨rfl,K3⟩
 clear H3 K2
 go_wp2_with fail
 refine(H4.out _ _ K3.out).mono ?_
 rintro e w4 ⟨rfl,K4⟩
 clear H4 K3
 go_wp2_with (first
  | (go_at_call 13;refine(rH _ _).mono ?_;rintro e w5 ⟨rfl,rfl⟩)
  | (go_at_call 14;refine(vO _ _).mono ?_;rintro e w5 ⟨rfl,rfl⟩)
  | (go_at_call 12;refine(oz _ _ _ _).mono ?_;rintro e w5 ⟨rfl,rfl⟩))
 refine(H5.out sb (w4.heap.size+1+1) w4 _ K4.out ((((Below.refl _ _).alloc (Nat.le_refl _) _).alloc (by simp) _).alloc (by simp;omega) _ |>.alloc (by simp;omega) _) ?_ (by omega)).mono ?_
 ·refine(heap_alloc_old _ _ (by simp)).trans ?_
  have h:=heap_alloc_new ((w4.alloc (.cells #[.int .i64 2,.int .i64 0,.string ⟨#[110]⟩,.slice none 0 0] 30)).alloc (.cells #[.int .i64 1,.int .i64 1,.string ⟨#[]⟩,.slice none 0 0] 30)) (.cells #[.int .i64 2,.int .i64 0,.string ⟨#[110]⟩,.slice none 0 0,.int .i64 1,.int .i64 1,.string ⟨#[]⟩,.slice none 0 0] 30)
  simpa using h
 rintro e w5 ⟨rfl,K5⟩
 clear H5 K4
 go_wp2_with fail
 refine(H6.out _ _ K5.out).mono ?_
 rintro e w6 ⟨rfl,K6⟩
 clear H6 K5
 go_wp2_with fail
 refine(H7.out _ _ K6.out).mono ?_
 rintro e w7 ⟨rfl,K7⟩
 clear H7 K6
 go_wp2_with fail
 refine(H8.out _ _ K7.out).mono ?_
 rintro e w8 ⟨nm,y0,y1,y2,ya,yl,yc,g,o,z0,z1,z2,za,zl,zc,mc,rfl,K8⟩
 clear H8 K7 hq
 go_upto_region 9 with fail
 generalize hw9:World.alloc _ _=w9
 have HB9:Hid (Below w8.heap.size w8 w9):=by
  rw[<-hw9]
  exact(Below.refl _ _).alloc (Nat.le_refl _) _
 clear hw9
 have HS:Hid (∀W,Below w9.heap.size w9 W->W.cell? ⟨g,o,none⟩=some (.int .i64 z0)/\W.cell? ⟨g,o+1,none⟩=some (.int .i64 z1)/\W.cell? ⟨g,o+2,none⟩=some (.string z2)/\W.cell? ⟨g,o+3,none⟩=some (.slice za zl zc)):=fun W hW=>H9.out _ _ _ _ _ _ _ _ _ _ _ K8.out (HB9.out.trans (hW.mono HB9.out.size))
 have HSM:Hid (∀(g':Nat) (W1:World),Below w9.heap.size w9 W1->W1.heap[g']? =some (.cells #[.int .i64 2,.int .i64 0,.string ⟨#[110]⟩,.slice none 0 0,.int .i64 1,.int .i64 2,.string ⟨#[]⟩,.slice none 0 0] 30)->Calls Tryz.prog 16 #[.agg #[.int .i64 z0,.int .i64 z1,.string z2,.slice za zl zc],.agg #[.int .i64 4,.int .i64 0,.string ⟨#[]⟩,.slice (some ⟨g',0,none⟩) 2 2]] W1 fun e w'=>e=.returned (.bool true)/\Below W1.heap.size W1 w'):=fun g' W1 hW hg=>H10.out _ _ _ _ _ _ _ _ _ _ _ _ K8.out (HB9.out.trans (hW.mono HB9.out.size)) hg
 have HEV:Hid (∀W1,Below w9.heap.size w9 W1->Calls Tryz.prog 7 #[.pointer (some ⟨sb,0,none⟩)] W1 fun e w'=>∃a c,e=.returned (.slice a 4 c)/\Hid (Below W1.heap.size W1 w'/\Below w.heap.size w w')):=fun W1 hW=>H11.out _ _ _ _ _ _ _ _ _ _ _ K8.out (HB9.out.trans (hW.mono HB9.out.size))
 clear H9 H10 H11 K8 HB9
 have HD:Hid (Below w9.heap.size w9 w9.drew):=(Below.refl _ _).drew
 obtain⟨s0,s1,s2,s3⟩:=HS.out w9 (Below.refl _ _)
 go_region_held3 (fun W=>W.cell? ⟨g,o,none⟩=some (.int .i64 z0)/\W.cell? ⟨g,o+1,none⟩=some (.int .i64 z1)/\W.cell? ⟨g,o+2,none⟩=some (.string z2)/\W.cell? ⟨g,o+3,none⟩=some (.slice za zl zc))
  (first|exact HS.out _ HD.out|exact HS.out _ HB6.out|exact HS.out _ HB7.out|exact HS.out _ (HA7.out _)|exact HS.out _ HB8.out.1|exact HS.out _ HBS.out|exact HS.out _ HBE.out) ((first
   | (go_at_call 13;refine(rH _ _).mono ?_;rintro e wa ⟨rfl,hwa⟩;have HB6:Hid (Below w9.heap.size w9 wa):=(by rw[hwa];exact HD.out.alloc HD.out.size _);clear hwa)
   | (go_at_call 14;refine(vO _ _).mono ?_;rintro e wb ⟨rfl,hwb⟩;have HB7:Hid (Below w9.heap.size w9 wb):=(by rw[hwb];exact HB6.out.alloc HB6.out.size _);have HA7:Hid (∀o,Below w9.heap.size w9 (wb.alloc o)):=(fun o=>HB7.out.alloc HB7.out.size o);clear hwb)
   | (go_at_call 12;refine(oz _ _ _ _).mono ?_;rintro e wd ⟨rfl,hwd⟩;have HB8:Hid (Below w9.heap.size w9 wd/\wd.heap[wb.heap.size]? =some (.cells #[.int .i64 2,.int .i64 0,.string ⟨#[110]⟩,.slice none 0 0,.int .i64 1,.int .i64 2,.string ⟨#[]⟩,.slice none 0 0] 30)):=(by rw[hwd];exact⟨(HA7.out _).alloc (HA7.out _).size _,(heap_alloc_old _ _ (by simp)).trans (heap_alloc_new wb _)⟩);clear hwd)
   | (go_at_call 16;refine(HSM.out _ _ HB8.out.1 HB8.out.2).mono ?_;rintro e we ⟨rfl,hbe⟩;have HBS:=hide (HB8.out.1.trans (hbe.mono HB8.out.1.size));clear hbe)
   | (go_at_call 7;refine(HEV.out _ HBS.out).mono ?_;rintro e wf ⟨ea,ec,rfl,KE⟩;have HBE:=hide (HBS.out.trans (KE.out.1.mono HBS.out.size)))))
 go_wp2_with fail
 go_ret
 exact⟨rfl,KE.out.2⟩
def PU (g:Nat) (u:Int):Tm 2:=((4,0,.empty),(some ⟨g,0,none⟩,2),[aC wN 0,aF 1 u 0])
theorem Mv (g:Nat) (u:Int):same 2 (PU g u) 13 (df u)=true:=by
 refine aZ rfl ?_
 show ah (fun a b=>same 1 a 12 b) [aC wN 0,aF 1 u 0] [aC wN 11,aF 1 u 11]=true
 simp only[ah,Bool.and_eq_true,and_true]
 exact⟨aZ rfl rfl,aZ rfl rfl⟩
theorem Mf {g:Nat} {u:Int} (hu:bR u) {w:World} (h:w.heap[g]? =some (.cells #[.int .i64 2,.int .i64 0,.string ⟨#[110]⟩,.slice none 0 0,.int .i64 1,.int .i64 u,.string ⟨#[]⟩,.slice none 0 0] 30)):In w.heap.size w 2 (PU g u):=by
 refine mR [aC wN 0,aF 1 u 0] h rfl (Array.getElem?_eq_some_iff.1 h).1 (show 2<=8 by decide) fun y hy=> ?_
 simp only[List.mem_cons,List.not_mem_nil,or_false]at hy
 rcases hy with rfl|rfl
 ·exact⟨⟨by simp[aC,bR],by simp[aC,bR],by show wN.size<=maxLen;decide,by simp[aC],by simp[aC]⟩,Or.inl rfl⟩
 ·exact LF u hu 0 _ _
theorem Ma (g:Nat) {u:Int} (h:1<=u/\u<=99):aQ 2 (PU g u)=0/\cn 2 (PU g u)=df u:=by
 have hs:=Mv g u
 have hc:aQ 13 (df u)=0:=qz u h
 refine⟨(aX hs).trans hc,(fQ hs).trans ?_⟩
 exact fQ (x:=df u) (y:=df u) (fJ _ _ (ax.2 (aN.1 hc).1)) |>.trans rfl
def OW:Tm 1:=((0,0,⟨#[]⟩),(none,0),[])
theorem K9 (B:Nat) (w:World):In B w 1 OW:=⟨⟨by simp[OW,bR],by simp[OW,bR],Nat.zero_le _,Nat.le_refl _,Nat.zero_le _⟩,Or.inl rfl⟩
theorem SyUn.below {p:SyP} {s:Sy} {d d':SyD} {a c B:Nat} {w w':World} (h:SyAt p s d w) (k:SyUn a c d d' w w') (hB:B<=p.lo):Below B w w':=by
 refine⟨k.1.os,k.1.tape,k.1.output,k.1.size,fun q hq=>k.1.block q ?_ fun z=> ?_⟩
 ·have:=h.lo.1
  omega
 ·have:=(h.low q z).1
  omega
def RlAt (w:World) (s:Sy) (i sb:Nat) (W:World):Prop:=∃(lo:Nat) (prog:List (Bh 8)) (pa:Option Addr) (pc:Nat) (d:SyD),SyAt ⟨lo,sb,100,7,prog,pa,pc⟩ s d W/\(lu prog/\lM 7 prog=0)/\(d.k<=i*402/\d.es.length<=i*201/\d.wn<=i*201/\d.bn<=i*201)/\Below w.heap.size w W/\w.heap.size<=lo
theorem RlAt.start {w W:World} {s s':Sy} {i sb:Nat} (h:RlAt w s i sb W) (hi:i<=10) (u:Int) (hu:bR u) (hs:∀prog,lu prog->s.start 7 prog 100 aV 1 (aF 3 u 0)=(s',0)):
    Calls Tryz.prog 11 #[.pointer (some ⟨sb,0,none⟩),.string ⟨#[114,101,108,97,121]⟩,.agg #[.int .i64 3,.int .i64 u,.string ⟨#[]⟩,.slice none 0 0]] W fun e w'=>e=.returned (.tuple #[.int .i64 (s.last+1),.int .i64 0])/\Hid (RlAt w s' (i+1) sb w'):=by
 obtain⟨lo,prog,pa,pc,d,h1,⟨h2,h3⟩,h4,h5,h6⟩:=h
 refine(h1.start aV (by decide) (aF 3 u 0) ⟨⟨by simp[aF,bR],hu,Nat.zero_le _,Nat.le_refl _,Nat.zero_le _⟩,Or.inl rfl⟩ (by show (1:Nat)<=2097152;decide) (by omega) (by omega)).mono ?_
 rintro e w' ⟨v,r,rfl,H⟩
 have hst:=hs prog h2
 obtain⟨⟨k1,k2⟩,d',k3,k4⟩:=H.out
 simp only[hst]at k1 k3
 subst k1
 obtain rfl:=k2 rfl
 have hb:=k4.below h1 (B:=w.heap.size) h6
 exact⟨rfl,lo,prog,pa,pc,d',k3,⟨h2,h3⟩,by obtain⟨_,_,q1,q2,q3,q4⟩:=k4;omega,h5.trans hb,h6⟩
theorem RlAt.do {w W0 W:World} {s s':Sy} {i sb:Nat} (h:RlAt w s i sb W0) (hW:Below W0.heap.size W0 W) (hi:i<=10) {kd a b:Int} (hab:I2 (a,b)) {m:Nat} (x:Tm (m+1)) (hx:In W.heap.size W (m+1) x) (ho:∀d:SyD,(∀q,d.ow q≠0->q<W0.heap.size)->Off (fun q=>¬1<=d.ow q) (m+1) x) (hN:(nodes (m+1) x).length<=2097152) (hs:∀prog,lu prog->lM 7 prog=0->s.do 7 prog 100 kd a b (m+1) x=(s',0)):
    Calls Tryz.prog 6 #[.pointer (some ⟨sb,0,none⟩),.agg #[.int .i64 kd,.int .i64 a,.int .i64 b,.int .i64 x.1.1,.int .i64 x.1.2.1,.string x.1.2.2,.slice x.2.1.1 x.2.2.length x.2.1.2]] W fun e w'=>e=.returned (.int .i64 0)/\Hid (RlAt w s' (i+1) sb w'):=by
 obtain⟨lo,prog,pa,pc,d,h1,⟨h2,h3⟩,h4,h5,h6⟩:=h
 refine((h1.later hW).do hab x ⟨hx,ho d fun q z=>(h1.low q z).2⟩ hN (by omega) (by omega) (by omega) (by omega)).mono ?_
 rintro e w' ⟨v,rfl,H⟩
 have hst:=hs prog h2 h3
 obtain⟨k1,d',k3,k4⟩:=H.out
 simp only[hst]at k1 k3
 subst k1
 have hb:=k4.below (h1.later hW) (B:=w.heap.size) h6
 exact⟨rfl,lo,prog,pa,pc,d',k3,⟨h2,h3⟩,by obtain⟨_,_,q1,q2,q3,q4⟩:=k4;omega,(h5.trans (hW.mono h5.size)).trans hb,h6⟩
theorem CZ (w:World):Calls Tryz.prog 4 #[] w fun e w'=>e=.returned (.bool true)/\Hid (Below w.heap.size w w'):=by
 have i1:bR 1:=by unfold bR;decide
 have i2:bR 2:=by unfold bR;decide
 have i0:bR 0:=by unfold bR;decide
 refine zu w (fun a l c W=>l=1/\c=1/\Below w.heap.size w W/\∃lb:List (Bh 3),lb.length=1/\PgIn 3 W.heap.size W a lb/\RelL (vW 3) lb iN) (RlAt w PM 0) (RlAt w MH 1) (RlAt w (uZ []) 2) (RlAt w (uZ [df 1]) 3) (RlAt w DL 4) (RlAt w Lg 5)
  (fun sb g o z0 z1 z2 za zl zc W=>RlAt w Lg 5 sb W/\∃y:Tc,(y.1=(z0,z1,z2)/\y.2.1=(za,zc)/\y.2.2.length=zl)/\g<W.heap.size/\Held W g o 13 y/\In W.heap.size W 13 y/\aQ 13 y=0/\cn 13 y=df 2) ?_ (fun a l c W hP=> ?_) (fun sb W hQ=> ?_) (fun sb W hQ=> ?_) (fun sb g W W' hQ hW hg hge=> ?_) (fun sb W hQ=> ?_) (fun sb W hQ=> ?_) (fun sb W hQ=> ?_) (fun sb g o z0 z1 z2 za zl zc W W' hQ hW=> ?_) (fun sb g o z0 z1 z2 za zl zc W W' g' hQ hW hg=> ?_) fun sb g o z0 z1 z2 za zl zc W W' hQ hW=> ?_
 ·refine(Jd w).mono ?_
  rintro e w' ⟨a,lb,rfl,H⟩
  obtain⟨h1,h2,h3,h4⟩:=H.out
  exact⟨a,1,1,rfl,rfl,rfl,h1,lb,h2,h3,h4⟩
 ·obtain⟨rfl,rfl,hb,lb,e1,h1,h2⟩:=hP
  have hE:lM 2 lb=0:=(GG h2).trans Gz
  have hs:=vT h2
  have hn:=Bz 2 lb a 1 100 W h1 (by omega) (by unfold maxLen;omega) fun _=>dS (iw hE).2.1
  rw[e1]at hn
  refine hn.mono ?_
  rintro e w' ⟨v,u,rfl,H⟩
  obtain⟨k1,k2,k3,k4⟩:=H.out
  have hu:u=0:=by
   rw[k1]
   unfold BR
   rw[if_neg (by rw[hE];decide),if_pos (by decide)]
  subst hu
  obtain⟨p,d,rfl,q1,⟨q2,q3,q4,q5⟩,q6,q7,q8,q9⟩:=k4 rfl
  obtain⟨lo,b,room,n,prog,pa,pc⟩:=p
  simp only at q6 q7 q8
  subst q6 q8
  have hr:lu prog:=G5 (aW _ _ _ _ _ _ q9 hs)
  exact⟨b,rfl,lo,prog,pa,pc,d,q1,⟨hr,q1.pg.2.2.2.1⟩,⟨by omega,by rw[q3];exact Nat.zero_le _,by omega,by omega⟩,hb.trans (k2.mono hb.size),by have:=hb.size;omega⟩
 ·exact hQ.start (by omega) 2 i2 fun prog hp=>Od hp
 ·exact hQ.start (by omega) 1 i1 fun prog hp=>MV hp
 ·obtain⟨c1,c2⟩:=Ma g (u:=1) (by omega)
  refine hQ.do (kd:=3) hW (by omega) ⟨i1,i0⟩ (PU g 1) (Mf i1 hg) (fun d hd=> ?_) (dS c1) fun prog hp _=>N9 c1 rfl c2
  refine Or.inr ⟨g,0,rfl,fun z=> ?_,fun i y hy=> ?_⟩
  ·have:=hd g (by omega)
   omega
  ·have hy:y∈[aC wN 0,aF 1 1 0]:=List.mem_of_getElem? hy
   simp only[List.mem_cons,List.not_mem_nil,or_false]at hy
   rcases hy with rfl|rfl
   ·exact Or.inl rfl
   ·exact Or.inl rfl
 ·exact hQ.do (kd:=1) (Below.refl _ _) (by omega) ⟨i1,i0⟩ OW (K9 _ _) (fun d hd=>Or.inl rfl) (by show (1:Nat)<=2097152;decide) fun prog hp hE=>QB hp hE 1 OW
 ·exact hQ.do (kd:=2) (Below.refl _ _) (by omega) ⟨i1,i2⟩ OW (K9 _ _) (fun d hd=>Or.inl rfl) (by show (1:Nat)<=2097152;decide) fun _ _ _=>MX 1 OW
 ·obtain⟨lo,prog,pa,pc,d,h1,h2,h4,h5,h6⟩:=hQ
  refine(h1.proc rend.1 (by decide) (by omega)).mono ?_
  rintro e w' ⟨y0,y1,y2,ya,yl,yc,ma,mc,rfl,H⟩
  obtain⟨⟨ys,k1,k2,k3,k4⟩,k5⟩:=H.out
  match ys,k1 with
  | [y],_=>
   have k3:cn 13 y=df 2:=by simpa using k3
   rcases k2 with e0|⟨g,o,rfl,e2,e3⟩
   ·cases e0
   obtain⟨e4,e5⟩:=e3 0 y rfl
   rw[Nat.zero_mul,Nat.add_zero]at e4
   exact⟨_,y0,y1,y2,ya,yl,yc,g,o,y.1.1,y.1.2.1,y.1.2.2,y.2.1.1,y.2.2.length,y.2.1.2,mc,rfl,⟨lo,prog,pa,pc,d,h1.later k5,h2,h4,h5.trans (k5.mono h5.size),h6⟩,y,⟨rfl,rfl,rfl⟩,e2,e4,e5,k4 y (by simp),k3⟩
 ·obtain⟨_,y,⟨f1,f2,f3⟩,k1,k2,_⟩:=hQ
  have hc:∀{j:Nat} {v:Value},W.cell? ⟨g,j,none⟩=some v->W'.cell? ⟨g,j,none⟩=some v:=fun{j v} q=>(hW.cell (p:=⟨g,j,none⟩) k1).trans q
  obtain⟨⟨x0,x1,x2⟩,⟨xa,xc⟩,xl⟩:=y
  simp only[Prod.mk.injEq]at f1 f2
  obtain⟨rfl,rfl,rfl⟩:=f1
  obtain⟨rfl,rfl⟩:=f2
  subst f3
  exact⟨hc k2.1,hc k2.2.1,hc k2.2.2.1,hc k2.2.2.2⟩
 ·obtain⟨_,y,⟨f1,f2,f3⟩,k1,k2,k3,k4,k5⟩:=hQ
  obtain⟨c1,c2⟩:=Ma g' (u:=2) (by omega)
  have hr:=Ka (n:=13) (m:=2) (x:=y) (y:=PU g' 2) (w:=W') ((k3.below hW).mono hW.size) (Mf i2 hg) (Nat.le_refl _) k4 c1 (k5.trans c2.symm)
  obtain⟨⟨x0,x1,x2⟩,⟨xa,xc⟩,xl⟩:=y
  simp only[Prod.mk.injEq]at f1 f2
  obtain⟨rfl,rfl,rfl⟩:=f1
  obtain⟨rfl,rfl⟩:=f2
  subst f3
  exact hr
 ·obtain⟨⟨lo,prog,pa,pc,d,h1,h2,h4,h5,h6⟩,_⟩:=hQ
  have hev:=(h1.later hW).events (by omega)
  have h4e:d.es.length=4:=by
   have:=congrArg List.length h1.evt.1
   rw[List.length_map]at this
   exact this.trans rend.2
  rw[h4e]at hev
  refine hev.mono ?_
  rintro e w' ⟨a,c,rfl,H⟩
  have hb:=h5.trans (hW.mono h5.size)
  exact⟨a,c,rfl,H.out.1,hb.trans (H.out.1.mono hb.size)⟩
theorem EM (la:Option Addr) (ll lc:Nat) (room:Int) (sa:Option Addr) (sl sc:Nat) (nm x2:Nat->ByteArray) (x0 x1:Nat->Int) (xa:Nat->Option Addr) (xl xc:Nat->Nat) (w:World) (Nw:Value->Int->World->Prop) (J:Nat->Nat->World->Prop) (R:Value->World->Prop) (hsl:sl<=9223372036854775807)
    (HN:Hid (Calls Tryz.prog 9 #[.slice la ll lc,.int .i64 room] w fun e w'=>∃v u,e=.returned (.tuple #[v,.int .i64 u])/\Hid (Nw v u w')))
    (HN1:Hid (∀v u W,Nw v u W->(u≠0∨4<sl)->R (.pointer none) W))
    (HN2:Hid (∀v W,Nw v 0 W->sl<=4->∃sb,v=.pointer (some ⟨sb,0,none⟩)/\J sb 0 W))
    (HS:Hid (∀sb j W,j<sl->J sb j W->∃g o,(sa=some ⟨g,o,none⟩/\W.cell? ⟨g,o+j*5,none⟩=some (.string (nm j))/\W.cell? ⟨g,o+j*5+1,none⟩=some (.int .i64 (x0 j))/\W.cell? ⟨g,o+j*5+2,none⟩=some (.int .i64 (x1 j))/\W.cell? ⟨g,o+j*5+3,none⟩=some (.string (x2 j))/\W.cell? ⟨g,o+j*5+4,none⟩=some (.slice (xa j) (xl j) (xc j)))/\Hid (∀W2,Below W.heap.size W W2->Calls Tryz.prog 11 #[.pointer (some ⟨sb,0,none⟩),.string (nm j),.agg #[.int .i64 (x0 j),.int .i64 (x1 j),.string (x2 j),.slice (xa j) (xl j) (xc j)]] W2 fun e w'=>∃v u,e=.returned (.tuple #[.int .i64 v,.int .i64 u])/\Hid (J sb (j+1) w'))))
    (HE:Hid (∀sb W,J sb sl W->R (.pointer (some ⟨sb,0,none⟩)) W)):
    Calls Tryz.prog 5 #[.slice la ll lc,.int .i64 room,.slice sa sl sc] w fun e w'=>∃v,e=.returned v/\Hid (R v w'):=by
 go_enter Tryz.func5,Tryz.ntmps5
 go_wp2_with fail
 refine HN.out.mono ?_
 rintro e w1 ⟨v,u,rfl,H1⟩
 clear HN
 by_cases hu:u=0
 rotate_left
 ·have HQ:=hide (HN1.out _ _ _ H1.out (Or.inl hu))
  have huf:(u==0)=false:=by simpa using hu
  clear HN1 HN2 HS HE H1
  go_wp2_with fail
  go_ret
  exact⟨_,rfl,HQ.out⟩
 subst hu
 by_cases h4:sl<=4
 rotate_left
 ·have HQ:=hide (HN1.out _ _ _ H1.out (Or.inr (by omega)))
  have h5:(4:Int)<(sl:Int):=by omega
  clear HN1 HN2 HS HE H1
  go_wp2_with fail
  go_ret
  exact⟨_,rfl,HQ.out⟩
 obtain⟨sb,rfl,hj⟩:=HN2.out _ _ H1.out h4
 have H0:=hide hj
 have h5:¬(4:Int)<(sl:Int):=by omega
 clear HN1 HN2 H1 hj
 go_wp2_with fail
 go_loopw [10,26] (fun _ i wr=>∃(j:Nat),j<=sl/\i=.int .i64 j/\Hid (J sb j wr)) (fun _ i _=>sl-(intOf i).toNat)
 case atStart=>exact⟨0,Nat.zero_le _,rfl,H0.out⟩
 case round=>
 clear H0
 obtain⟨j,hj,rfl,HR⟩:=hrel
 by_cases hlt:j<sl
 ·obtain⟨g,o,⟨rfl,c0,c1,c2,c3,c4⟩,HC⟩:=HS.out sb j _ hlt HR.out
  have j1:(0:Int)<=(j:Int):=by omega
  have j2:(j:Int)<(sl:Int):=by omega
  clear HS HE HR
  go_upto_region 7 with fail
  generalize hw2:World.alloc _ _=w3
  have hX:w3.heap[wr.heap.size]? =some (.cells #[.string (nm j),.int .i64 (x0 j),.int .i64 (x1 j),.string (x2 j),.slice (xa j) (xl j) (xc j)] 51):=by
   rw[<-hw2]
   exact heap_alloc_new _ _
  have HCC:=hide (HC.out w3 (by rw[<-hw2];exact(Below.refl _ _).alloc (Nat.le_refl _) _))
  generalize wr.heap.size=r at*
  have d0:w3.cell? ⟨r,0,none⟩=some (.string (nm j)):=ae hX 0
  have d1:w3.cell? ⟨r,1,none⟩=some (.int .i64 (x0 j)):=ae hX 1
  have d2:w3.cell? ⟨r,2,none⟩=some (.int .i64 (x1 j)):=ae hX 2
  have d3:w3.cell? ⟨r,3,none⟩=some (.string (x2 j)):=ae hX 3
  have d4:w3.cell? ⟨r,4,none⟩=some (.slice (xa j) (xl j) (xc j)):=ae hX 4
  clear hw2 hX HC c0 c1 c2 c3 c4
  go_wp2_with fail
  refine HCC.out.mono ?_
  rintro e w5 ⟨v,u,rfl,H3⟩
  go_wp2_with fail
  go_roundw
  case rel=>exact⟨j+1,by omega,by go_num,H3.out⟩
  case measure=>simp[intOf];omega
 ·obtain rfl:j=sl:=by omega
  have HQ:=hide (HE.out _ _ HR.out)
  clear HS HE HR
  go_wp2_with fail
  go_ret
  exact⟨_,rfl,HQ.out⟩
theorem PV (sb:Nat) (W:World):(binOp .eql 26 (.pointer (some ⟨sb,0,none⟩)) (.pointer none)).run Tryz.prog W=.ok (.bool false) W:=by kernel_rfl
theorem M0 (W:World):(binOp .eql 26 (.pointer none) (.pointer none)).run Tryz.prog W=.ok (.bool true) W:=by kernel_rfl
theorem Jq (la:Option Addr) (ll lc:Nat) (room:Int) (sa:Option Addr) (sl sc:Nat) (xr:Option Addr) (xn xm:Nat) (mr:Option Addr) (mn mm:Nat) (akd aha ahb ax0 ax1:Nat->Int) (ax2:Nat->ByteArray) (axa:Nat->Option Addr) (axl axc:Nat->Nat) (bkd bha bhb bx0 bx1:Nat->Int) (bx2:Nat->ByteArray) (bxa:Nat->Option Addr) (bxl bxc:Nat->Nat) (w:World) (K1:Nat->Nat->World->Prop) (K2:Nat->Option Addr->Nat->Nat->Nat->World->Prop) (K3:Nat->Option Addr->Nat->Nat->Option Addr->Nat->Nat->World->Prop) (hxn:xn<=1048576) (hmn:mn<=1048576)
    (HR:Hid (Calls Tryz.prog 4 #[] w fun e w'=>e=.returned (.bool true)/\Hid (Below w.heap.size w w')))
    (HB:Hid (∀W,Below w.heap.size w W->Calls Tryz.prog 5 #[.slice la ll lc,.int .i64 room,.slice sa sl sc] W fun e w'=>(e=.returned (.pointer none)/\Hid (Below w.heap.size w w'))∨∃sb,e=.returned (.pointer (some ⟨sb,0,none⟩))/\Hid (K1 sb 0 w')))
    (HK1:Hid (∀sb j W,K1 sb j W->Below w.heap.size w W)) (HK3:Hid (∀sb a L c a' L' c' W,K3 sb a L c a' L' c' W->Below w.heap.size w W))
    (HD1:Hid (∀sb j W,j<xn->xn+mn<=100->K1 sb j W->∃g o,(xr=some ⟨g,o,none⟩/\W.cell? ⟨g,o+j*7,none⟩=some (.int .i64 (akd j))/\W.cell? ⟨g,o+j*7+1,none⟩=some (.int .i64 (aha j))/\W.cell? ⟨g,o+j*7+2,none⟩=some (.int .i64 (ahb j))/\W.cell? ⟨g,o+j*7+3,none⟩=some (.int .i64 (ax0 j))/\W.cell? ⟨g,o+j*7+4,none⟩=some (.int .i64 (ax1 j))/\W.cell? ⟨g,o+j*7+5,none⟩=some (.string (ax2 j))/\W.cell? ⟨g,o+j*7+6,none⟩=some (.slice (axa j) (axl j) (axc j)))/\Hid (∀W2,Below W.heap.size W W2->Calls Tryz.prog 6 #[.pointer (some ⟨sb,0,none⟩),.agg #[.int .i64 (akd j),.int .i64 (aha j),.int .i64 (ahb j),.int .i64 (ax0 j),.int .i64 (ax1 j),.string (ax2 j),.slice (axa j) (axl j) (axc j)]] W2 fun e w'=>∃v,e=.returned (.int .i64 v)/\Hid (K1 sb (j+1) w'))))
    (HE1:Hid (∀sb W,xn+mn<=100->K1 sb xn W->Calls Tryz.prog 7 #[.pointer (some ⟨sb,0,none⟩)] W fun e w'=>∃a L c,e=.returned (.slice a L c)/\L<=1000000/\Hid (K2 sb a L c 0 w')))
    (HD2:Hid (∀sb a L c j W,j<mn->xn+mn<=100->K2 sb a L c j W->∃g o,(mr=some ⟨g,o,none⟩/\W.cell? ⟨g,o+j*7,none⟩=some (.int .i64 (bkd j))/\W.cell? ⟨g,o+j*7+1,none⟩=some (.int .i64 (bha j))/\W.cell? ⟨g,o+j*7+2,none⟩=some (.int .i64 (bhb j))/\W.cell? ⟨g,o+j*7+3,none⟩=some (.int .i64 (bx0 j))/\W.cell? ⟨g,o+j*7+4,none⟩=some (.int .i64 (bx1 j))/\W.cell? ⟨g,o+j*7+5,none⟩=some (.string (bx2 j))/\W.cell? ⟨g,o+j*7+6,none⟩=some (.slice (bxa j) (bxl j) (bxc j)))/\Hid (∀W2,Below W.heap.size W W2->Calls Tryz.prog 6 #[.pointer (some ⟨sb,0,none⟩),.agg #[.int .i64 (bkd j),.int .i64 (bha j),.int .i64 (bhb j),.int .i64 (bx0 j),.int .i64 (bx1 j),.string (bx2 j),.slice (bxa j) (bxl j) (bxc j)]] W2 fun e w'=>∃v,e=.returned (.int .i64 v)/\Hid (K2 sb a L c (j+1) w'))))
    (HE2:Hid (∀sb a L c W,xn+mn<=100->K2 sb a L c mn W->Calls Tryz.prog 7 #[.pointer (some ⟨sb,0,none⟩)] W fun e w'=>∃a' L' c',e=.returned (.slice a' L' c')/\(L<=L'/\L'<=1000000/\Cq a' L' c')/\Hid (K3 sb a L c a' L' c' w')))
    (HS:Hid (∀sb a L c a' L' c' W,K3 sb a L c a' L' c' W->Calls Tryz.prog 8 #[.slice a' L c',.slice a L c] W fun e w'=>e=.returned (.bool true)/\Below W.heap.size W w')):
    Calls Tryz.prog 3 #[.slice la ll lc,.int .i64 room,.slice sa sl sc,.slice xr xn xm,.slice mr mn mm] w fun e w'=>e=.returned (.bool true)/\Below w.heap.size w w':=by
 go_enter Tryz.func3,Tryz.ntmps3
 go_wp2_with fail
 refine HR.out.mono ?_
 rintro e w1 ⟨rfl,H1⟩
 clear HR
 go_wp2_with fail
 refine(HB.out _ H1.out).mono ?_
 clear HB
 rintro e w2 (⟨rfl,HN⟩|⟨sb,rfl,H2⟩)
 ·have hq:=M0
  clear HD1 HE1 HD2 HE2 HS H1 HK1 HK3
  go_wp2_with fail
  go_ret
  exact⟨rfl,HN.out⟩
 clear H1
 have hq:=PV sb
 have hw:IntKind.i64.wrap ((xn:Int)+(mn:Int))=(xn:Int)+(mn:Int):=by rw[IntKind.wrap];simp[IntKind.bits,IntKind.signed];omega
 by_cases hxm:xn+mn<=100
 rotate_left
 ·have h5:(100:Int)<(xn:Int)+(mn:Int):=by omega
  have HN:=hide (HK1.out _ _ _ H2.out)
  clear HD1 HE1 HD2 HE2 HS H2 HK1 HK3
  go_wp2_with fail
  go_ret
  exact⟨rfl,HN.out⟩
 have h5:¬(100:Int)<(xn:Int)+(mn:Int):=by omega
 go_wp2_with fail
 go_loopw [13,36] (fun _ i wr=>∃(j:Nat),j<=xn/\i=.int .i64 j/\Hid (K1 sb j wr)) (fun _ i _=>xn-(intOf i).toNat)
 case atStart=>exact⟨0,Nat.zero_le _,rfl,H2.out⟩
 case round=>
 clear H2
 obtain⟨j,hj,rfl,HR⟩:=hrel
 by_cases hlt:j<xn
 ·obtain⟨g,o,⟨rfl,c0,c1,c2,c3,c4,c5,c6⟩,HC⟩:=HD1.out sb j _ hlt hxm HR.out
  have j1:(0:Int)<=(j:Int):=by omega
  have j2:(j:Int)<(xn:Int):=by omega
  clear HD1 HR
  go_upto_region 9 with fail
  generalize hw2:World.alloc _ _=w3
  have hX:w3.heap[wr.heap.size]? =some (.cells #[.int .i64 (akd j),.int .i64 (aha j),.int .i64 (ahb j),.int .i64 (ax0 j),.int .i64 (ax1 j),.string (ax2 j),.slice (axa j) (axl j) (axc j)] 32):=by
   rw[<-hw2]
   exact heap_alloc_new _ _
  have HCC:=hide (HC.out w3 (by rw[<-hw2];exact(Below.refl _ _).alloc (Nat.le_refl _) _))
  generalize wr.heap.size=r at*
  have d0:w3.cell? ⟨r,0,none⟩=some (.int .i64 (akd j)):=ae hX 0
  have d1:w3.cell? ⟨r,1,none⟩=some (.int .i64 (aha j)):=ae hX 1
  have d2:w3.cell? ⟨r,2,none⟩=some (.int .i64 (ahb j)):=ae hX 2
  have d3:w3.cell? ⟨r,3,none⟩=some (.int .i64 (ax0 j)):=ae hX 3
  have d4:w3.cell? ⟨r,4,none⟩=some (.int .i64 (ax1 j)):=ae hX 4
  have d5:w3.cell? ⟨r,5,none⟩=some (.string (ax2 j)):=ae hX 5
  have d6:w3.cell? ⟨r,6,none⟩=some (.slice (axa j) (axl j) (axc j)):=ae hX 6
  clear hw2 hX HC c0 c1 c2 c3 c4 c5 c6
  go_wp2_with fail
  refine HCC.out.mono ?_
  rintro e w5 ⟨v,rfl,H3⟩
  go_wp2_with fail
  go_roundw
  case rel=>exact⟨j+1,by omega,by go_num,H3.out⟩
  case measure=>simp[intOf];omega
 obtain rfl:j=xn:=by omega
 have HV:=hide (HE1.out _ _ hxm HR.out)
 clear HD1 HE1 HR hj hlt
 go_wp2_with fail
 refine HV.out.mono ?_
 rintro e w6 ⟨a,L,c,rfl,hL,H6⟩
 clear HV
 go_wp2_with fail
 go_loopw [16,48] (fun _ i wr=>∃(j:Nat),j<=mn/\i=.int .i64 j/\Hid (K2 sb a L c j wr)) (fun _ i _=>mn-(intOf i).toNat)
 case atStart=>exact⟨0,Nat.zero_le _,rfl,H6.out⟩
 case round=>
 clear H6
 obtain⟨j,hj,rfl,HR⟩:=hrel
 by_cases hlt:j<mn
 ·obtain⟨g,o,⟨rfl,c0,c1,c2,c3,c4,c5,c6⟩,HC⟩:=HD2.out sb a L c j _ hlt hxm HR.out
  have j1:(0:Int)<=(j:Int):=by omega
  have j2:(j:Int)<(mn:Int):=by omega
  clear HD2 HR
  go_upto_region 15 with fail
  generalize hw2:World.alloc _ _=w3
  have hX:w3.heap[wr.heap.size]? =some (.cells #[.int .i64 (bkd j),.int .i64 (bha j),.int .i64 (bhb j),.int .i64 (bx0 j),.int .i64 (bx1 j),.string (bx2 j),.slice (bxa j) (bxl j) (bxc j)] 32):=by
   rw[<-hw2]
   exact heap_alloc_new _ _
  have HCC:=hide (HC.out w3 (by rw[<-hw2];exact(Below.refl _ _).alloc (Nat.le_refl _) _))
  generalize wr.heap.size=r at*
  have d0:w3.cell? ⟨r,0,none⟩=some (.int .i64 (bkd j)):=ae hX 0
  have d1:w3.cell? ⟨r,1,none⟩=some (.int .i64 (bha j)):=ae hX 1
  have d2:w3.cell? ⟨r,2,none⟩=some (.int .i64 (bhb j)):=ae hX 2
  have d3:w3.cell? ⟨r,3,none⟩=some (.int .i64 (bx0 j)):=ae hX 3
  have d4:w3.cell? ⟨r,4,none⟩=some (.int .i64 (bx1 j)):=ae hX 4
  have d5:w3.cell? ⟨r,5,none⟩=some (.string (bx2 j)):=ae hX 5
  have d6:w3.cell? ⟨r,6,none⟩=some (.slice (bxa j) (bxl j) (bxc j)):=ae hX 6
  clear hw2 hX HC c0 c1 c2 c3 c4 c5 c6
  go_wp2_with fail
  refine HCC.out.mono ?_
  rintro e w5 ⟨v,rfl,H3⟩
  go_wp2_with fail
  go_roundw
  case rel=>exact⟨j+1,by omega,by go_num,H3.out⟩
  case measure=>simp[intOf];omega
 obtain rfl:j=mn:=by omega
 have HV:=hide (HE2.out _ _ _ _ _ hxm HR.out)
 clear HD2 HE2 HR hj hlt
 go_wp2_with fail
 refine HV.out.mono ?_
 rintro e w7 ⟨a',L',c',rfl,⟨hL1,hL2,hsh⟩,H7⟩
 have HSS:=hide (HS.out _ _ _ _ _ _ _ _ H7.out)
 have HN:=hide (HK3.out _ _ _ _ _ _ _ _ H7.out)
 clear HV HS H7 HK1 HK3
 have l1:(L:Int)<=(L':Int):=by omega
 have l2:¬((L':Int)<(L:Int)):=by omega
 have l3:(0:Int)<=(L:Int):=by omega
 have l4:¬((L:Int)<0):=by omega
 rcases hsh with⟨rfl,rfl,rfl⟩|⟨⟨gv,rfl⟩,hc'⟩
 ·obtain rfl:L=0:=by omega
  go_wp2_with fail
  refine HSS.out.mono ?_
  rintro e w8 ⟨rfl,hb8⟩
  have HE:=hide (HN.out.trans (hb8.mono HN.out.size))
  clear hb8
  go_wp2_with fail
  go_ret
  exact⟨rfl,HE.out⟩
 ·have l5:(L:Int)<=(c':Int):=by omega
  have l6:¬((c':Int)<(L:Int)):=by omega
  have l7:L<=c':=by omega
  have l8:¬(c'<L):=by omega
  go_wp2_with fail
  refine HSS.out.mono ?_
  rintro e w8 ⟨rfl,hb8⟩
  have HE:=hide (HN.out.trans (hb8.mono HN.out.size))
  clear hb8
  go_wp2_with fail
  go_ret
  exact⟨rfl,HE.out⟩
def wt:(n:Nat)->Tm n->Nat
 | 0,_=>1
 | n+1,x=>1+x.1.2.2.size+(x.2.2.map fun y=>wt n y).sum
theorem qh:(n:Nat)->(x:Tm n)->(nodes n x).length<=wt n x
 | 0,_=>by simp[nodes,wt]
 | n+1,x=>by
  have key:∀l:List (Tm n),(l.flatMap fun y=>nodes n y).length<=(l.map fun y=>wt n y).sum:=by
   intro l
   induction l with
   | nil=>simp
   | cons y l ih=>
    have:=qh n y
    simp only[List.flatMap_cons,List.length_append,List.map_cons,List.sum_cons]
    omega
  have:=key x.2.2
  simp only[nodes,wt,List.length_cons]
  omega
theorem own:ownKnob Tryz.prog.godebug=none:=by kernel_rfl
theorem laidOut:laidOutB Tryz.prog=true:=by kernel_rfl
theorem jv:Tryz.prog.cellsOf 30=4:=by kernel_rfl
theorem uD:Tryz.prog.cellsOf 3=1:=by kernel_rfl
theorem jZ:Tryz.prog.cellsOf 9=1:=by kernel_rfl
theorem EI:Tryz.prog.cellsOf 28=1:=by kernel_rfl
theorem zy {α:Type} {P:Nat->α->Prop}:(len:Nat)->(∀i,i<len->∃y,P i y)->∃l:List α,l.length=len/\∀i y,l[i]? =some y->P i y
 | 0,_=>⟨[],rfl,fun i y h=>by simp at h⟩
 | len+1,h=>by
  obtain⟨l,hl,hp⟩:=zy len (fun i hi=>h i (by omega))
  obtain⟨z,hz⟩:=h len (by omega)
  refine⟨l++ [z],by simp[hl],fun i y hy=> ?_⟩
  by_cases hi:i<l.length
  ·rw[List.getElem?_append_left hi]at hy
   exact hp i y hy
  ·rw[List.getElem?_append_right (by omega)]at hy
   have h0:i-l.length=0:=by
    by_cases h0:i-l.length=0
    ·exact h0
    ·rw[List.getElem?_eq_none (by simp;omega)]at hy;cases hy
   rw[h0]at hy
   have e1:z=y:=by simpa using hy
   have e2:i=len:=by omega
   rw[e2,<-e1]
   exact hz
theorem Oz {H:Type} {n:Nat}:(p:List (Tm n))->(es:List (DataW H))->(∀(i:Nat) (y:Tm n) (e:DataW H),p[i]? =some y->es[i]? =some e->wt n y<=Rows.uptoBulk e)->p.length=es.length->(p.map fun y=>wt n y).sum<=Rows.uptoBulkAll es
 | [],es,_,h=>by simp
 | y::p,[],_,h=>by simp at h
 | y::p,e::es,hp,h=>by
  have h0:=hp 0 y e (by simp) (by simp)
  have h1:=Oz p es (fun i y' e' hy he=>hp (i+1) y' e' (by simpa using hy) (by simpa using he)) (by simpa using h)
  simp only[List.map_cons,List.sum_cons,Rows.uptoBulkAll]
  omega
theorem add_add (b o i j:Nat):((⟨b,o,none⟩:Addr).add i).add j=⟨b,o+i+j,none⟩:=by
 unfold Addr.add
 split<;>split<;>simp_all
theorem xB {w:World} {a:Addr} {v:Value} (h:w.cell? ((a.add 0).add 0)=some v):a=⟨a.block,a.off,none⟩:=by
 have e:(a.add 0).add 0=a:=rfl
 rw[e]at h
 unfold World.cell? at h
 split at h
 ·split at h
  ·cases h
  ·rename_i hs
   cases a with
   | mk b o s=>cases s with
    | none=>rfl
    | some q=>simp at hs
 ·cases h
theorem zR {k:Int} (h:(Lit.int .i64 k).wf=true):bR k:=by
 have: -9223372036854775808<=k/\k<=9223372036854775807:=by simpa [Lit.wf,IntKind.min,IntKind.max,IntKind.signed,IntKind.bits]using h
 exact this
theorem Nj {H:Type} (enc:TypeId×Value->H) (w:World) (sp:Nat->Bool):(n f:Nat)->f<=2*n+1->(cs:List Value)->(x:DataW H×List MemPlace)->
    DataW.trod enc Tryz.prog w 0 sp true f 30 cs=some x->
    ∃t:Tm (n+1),cs=[.int .i64 t.1.1,.int .i64 t.1.2.1,.string t.1.2.2,.slice t.2.1.1 t.2.2.length t.2.1.2]/\In w.heap.size w (n+1) t/\wt (n+1) t<=Rows.uptoBulk x.1:=by
 intro n
 induction n with
 | zero=>
  intro f hf cs x h
  obtain⟨xs,m,rfl,rfl,hl,hx,hg⟩:=DataW.trod_struct Tryz.underlying30 h
  have h0:DataW.trod enc Tryz.prog w 0 sp true m 3 ((cs.drop 0).take (Tryz.prog.cellsOf 3))=xs[0]? :=hg 0 _ rfl
  obtain rfl:m=0:=by omega
  have hx':xs.length=4:=hx
  rw[List.getElem?_eq_getElem (by omega)]at h0
  cases h0
 | succ n ih=>
  intro f hf cs x h
  obtain⟨xs,m,rfl,rfl,hl,hx,hg⟩:=DataW.trod_struct Tryz.underlying30 h
  have h0:DataW.trod enc Tryz.prog w 0 sp true m 3 ((cs.drop 0).take (Tryz.prog.cellsOf 3))=xs[0]? :=hg 0 _ rfl
  have h1:DataW.trod enc Tryz.prog w 0 sp true m 3 ((cs.drop 1).take (Tryz.prog.cellsOf 3))=xs[1]? :=hg 1 _ rfl
  have h2:DataW.trod enc Tryz.prog w 0 sp true m 9 ((cs.drop 2).take (Tryz.prog.cellsOf 9))=xs[2]? :=hg 2 _ rfl
  have h3:DataW.trod enc Tryz.prog w 0 sp true m 28 ((cs.drop 3).take (Tryz.prog.cellsOf 28))=xs[3]? :=hg 3 _ rfl
  rw[uD]at h0 h1
  rw[jZ]at h2
  rw[EI]at h3
  rw[jv]at hl
  obtain⟨c0,c1,c2,c3,rfl⟩:∃c0 c1 c2 c3,cs=[c0,c1,c2,c3]:=by
   match cs,hl with
   | [c0,c1,c2,c3],_=>exact⟨c0,c1,c2,c3,rfl⟩
  obtain⟨y0,y1,y2,y3,rfl⟩:∃y0 y1 y2 y3,xs=[y0,y1,y2,y3]:=by
   match xs,hx with
   | [y0,y1,y2,y3],_=>exact⟨y0,y1,y2,y3,rfl⟩
  obtain⟨k,e0,z0,w0⟩:=DataW.trod_int Tryz.underlying3 (x:=y0) (by simpa using h0)
  obtain⟨u,e1,z1,w1⟩:=DataW.trod_int Tryz.underlying3 (x:=y1) (by simpa using h1)
  obtain⟨s,e2,z2,w2⟩:=DataW.trod_string Tryz.underlying9 (x:=y2) (by simpa using h2)
  have h3':DataW.trod enc Tryz.prog w 0 sp true m 28 [c3]=some y3:=by simpa using h3
  simp at e0 e1 e2
  subst e0 e1 e2 z0 z1 z2
  rcases DataW.trod_slice Tryz.underlying28 h3' with⟨e3,rfl⟩|⟨a,len,cap,elems,rest,m',rfl,e3,rfl,_,hlc,hcm,hel,hat,_,_⟩
  ·simp at e3
   subst e3
   refine⟨((k,u,s),(none,0),[]),rfl,⟨⟨zR w0,zR w1,w2,Nat.le_refl _,Nat.zero_le _⟩,Or.inl rfl⟩, ?_⟩
   have es:s.data.toList.length=s.size:=by rw[Array.length_toList];rfl
   simp only[wt,Rows.uptoBulk,Rows.uptoBulkAll,List.map_cons,List.map_nil,List.sum_nil]
   omega
  ·simp at e3
   subst e3
   simp only[jv]at hat
   have key:∀i,i<len->∃t:Tm (n+1),(∃b o,a=⟨b,o,none⟩/\b<w.heap.size/\Held w b (o+i*4) (n+1) t)/\In w.heap.size w (n+1) t/\∀e,(elems.map (·.1))[i]? =some e->wt (n+1) t<=Rows.uptoBulk e:=by
    intro i hi
    have hi':=hat i hi
    have hi0:=hat 0 (by omega)
    rw[List.getElem?_eq_getElem (by omega)]at hi' hi0
    obtain⟨cs',hcs,htr⟩:=Option.bind_eq_some_iff.1 hi'
    obtain⟨cs0,hcs0,htr0⟩:=Option.bind_eq_some_iff.1 hi0
    obtain⟨_,hlen,hcell⟩:=World.cells?_some hcs
    obtain⟨_,hlen0,hcell0⟩:=World.cells?_some hcs0
    obtain⟨t,rfl,hin,hb⟩:=ih m' (by omega) cs' _ htr
    have ha:=xB (w:=w) (a:=a) (v:=cs0[0]'(by omega)) (by have:=hcell0 0 (by omega);rw[List.getElem?_eq_getElem (by omega)]at this;simpa using this)
    have hadd:∀j,(a.add (i*4)).add j=⟨a.block,a.off+i*4+j,none⟩:=fun j=>by
     have:=add_add a.block a.off (i*4) j
     rw[<-ha]at this
     exact this
    have c0:=hcell 0 (by omega)
    have c1:=hcell 1 (by omega)
    have c2:=hcell 2 (by omega)
    have c3:=hcell 3 (by omega)
    rw[hadd]at c0 c1 c2 c3
    simp at c0 c1 c2 c3
    refine⟨t,⟨a.block,a.off,ha,World.block_lt_of_cell? w ⟨a.block,a.off+i*4,none⟩ c0,c0,c1,c2,c3⟩,hin,fun e he=> ?_⟩
    rw[List.getElem?_map,List.getElem?_eq_getElem (by omega)]at he
    have:(elems[i]).1=e:=by simpa using he
    rw[<-this]
    exact hb
   obtain⟨p,hpl,hp⟩:=zy len key
   refine⟨((k,u,s),(some a,cap),p),by simp[hpl],⟨⟨zR w0,zR w1,w2,by simp only;omega,hcm⟩, ?_⟩, ?_⟩
   ·rcases Nat.eq_zero_or_pos len with h|h
    ·exact Or.inl (List.eq_nil_of_length_eq_zero (hpl.trans h))
    ·obtain⟨⟨b,o,rfl,hb,_⟩,_,_⟩:=hp 0 (p[0]'(by rw[hpl];exact h)) (List.getElem?_eq_getElem (by rw[hpl];exact h))
     refine Or.inr ⟨b,o,rfl,hb,fun i y hy=> ?_⟩
     obtain⟨⟨b',o',e,_,hh⟩,hin,_⟩:=hp i y hy
     simp at e
     obtain⟨rfl,rfl⟩:=e
     exact⟨hh,hin⟩
   ·have hs:=Oz p (elems.map (·.1)) (fun i y e hy he=>(hp i y hy).2.2 e he) (by simp;omega)
    have es:s.data.toList.length=s.size:=by rw[Array.length_toList];rfl
    simp only[wt,Rows.uptoBulk,Rows.uptoBulkAll,List.map_cons,List.map_nil]at hs ⊢
    omega
end Go.Proofs.YtmbjgiaebneodaaGreat
