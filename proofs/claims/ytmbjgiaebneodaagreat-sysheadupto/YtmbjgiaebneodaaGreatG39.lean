/- What is proved here: plain facts and contracts that the claimed theorem stands on. No condition but those that each names. -/
import Derived.Test.YtmbjgiaebneodaaGreatG38
namespace Go.Proofs.YtmbjgiaebneodaaGreat
open Go.RowKit
set_option maxHeartbeats 4000000
set_option maxRecDepth 100000
theorem Bb {s:ByteArray} (h:s.toList.isEmpty=true):s=.empty:=by
 apply vS
 have e:ByteArray.empty.toList=[]:=by rw[ByteArray.toList_eq];rfl
 rw[e]
 simpa using h
theorem yN {n:Nat} {x:Tm (n+1)} (hr:ai ⟨n+1,x⟩) (h4:x.1.1=4):x.1=(4,0,.empty):=by
 have h1:=hr (aL n x) (by simp[nodes,aL])
 unfold good at h1
 have e:(aL n x).1.1=4:=h4
 rw[if_neg (by rw[e];omega),if_neg (by rw[e];omega),if_neg (by rw[e];omega),if_pos e]at h1
 simp only[Bool.and_eq_true,beq_iff_eq]at h1
 have h2:x.1.2.2=.empty:=Bb h1.1.1.1
 have h3:x.1.2.1=0:=h1.1.1.2
 exact Prod.ext h4 (Prod.ext h3 h2)
theorem oZ {n:Nat} {x:Tm (n+1)} (hr:ai ⟨n+1,x⟩) (h2:x.1.1=2):x.1=(2,0,x.1.2.2)/\x.2.2=[]/\bq x.1.2.2=true:=by
 have h1:=hr (aL n x) (by simp[nodes,aL])
 unfold good at h1
 have e:(aL n x).1.1=2:=h2
 rw[if_neg (by rw[e];omega),if_pos e]at h1
 simp only[Bool.and_eq_true,Bool.or_eq_true,beq_iff_eq]at h1
 obtain⟨⟨hn,h0⟩,hk⟩:=h1
 refine⟨Prod.ext h2 (Prod.ext h0 rfl), ?_,hn⟩
 rcases hk with hk|hk
 ·rw[e]at hk;omega
 ·have hk2:¬(0:Int)<(x.2.2.length:Int):=by simpa [aL]using hk
  exact List.eq_nil_of_length_eq_zero (by omega)
theorem yD {n:Nat} {x:Tm (n+1)} (hr:ai ⟨n+1,x⟩) (h5:x.1.1=5):x.1=(5,x.1.2.1,.empty)/\x.2.2=[]/\0<=x.1.2.1/\x.1.2.1<=3:=by
 have h1:=hr (aL n x) (by simp[nodes,aL])
 unfold good at h1
 have e:(aL n x).1.1=5:=h5
 rw[if_neg (by rw[e];omega),if_neg (by rw[e];omega),if_neg (by rw[e];omega),if_neg (by rw[e];omega),if_pos e]at h1
 simp only[Bool.and_eq_true,Bool.or_eq_true,beq_iff_eq,kr,decide_eq_true_eq]at h1
 obtain⟨⟨hn,h0⟩,hk⟩:=h1
 refine⟨Prod.ext h5 (Prod.ext rfl (Bb hn)), ?_,h0⟩
 rcases hk with hk|hk
 ·rw[e]at hk;omega
 ·have hk2:¬(0:Int)<(x.2.2.length:Int):=by simpa [aL]using hk
  exact List.eq_nil_of_length_eq_zero (by omega)
theorem qR {n:Nat} {x:Tm (n+1)} (hr:ai ⟨n+1,x⟩) (h2:x.1.1=2) (N:Nat):same (N+1) (aC x.1.2.2 N) (n+1) x=true:=by
 obtain⟨h1,h3,_⟩:=oZ hr h2
 refine aZ h1.symm ?_
 rw[h3]
 rfl
theorem LC {n:Nat} {x:Tm (n+1)} (hr:ai ⟨n+1,x⟩) (h5:x.1.1=5) (N:Nat):same (N+1) (aF 5 x.1.2.1 N) (n+1) x=true:=by
 obtain⟨h1,h3,_⟩:=yD hr h5
 refine aZ h1.symm ?_
 rw[h3]
 rfl
theorem fo {n:Nat} {x:Tm (n+1)} (hr:ai ⟨n+1,x⟩) {wd:ByteArray} (h:sF (dM n x) wd=true) (hne:wd.toList≠[]):
    x.1=(4,0,.empty)/\∃h',x.2.2=h'::aR n x/\∀N,same (N+1) (aC wd N) n h'=true:=by
 have e0:ByteArray.empty.toList=[]:=by rw[ByteArray.toList_eq];rfl
 have hw:dM n x=wd:=vS h
 unfold dM at hw
 by_cases h4:x.1.1=4
 ·rw[if_pos h4]at hw
  refine⟨yN hr h4, ?_⟩
  obtain⟨⟨k,u,s⟩,⟨a,c⟩,p⟩:=x
  simp only at h4 hw
  subst h4
  cases p with
  | nil=>
   simp at hw
   rw[<-hw,e0]at hne
   exact(hne rfl).elim
  | cons y p=>
   simp only[List.getElem?_cons_zero]at hw
   cases n with
   | zero=>
    simp[aU]at hw
    rw[<-hw,e0]at hne
    exact(hne rfl).elim
   | succ n=>
    by_cases hk:y.1.1=2
    ·refine⟨y,by simp[aR,aU,hk],fun N=> ?_⟩
     have e:wd=y.1.2.2:=by
      rw[if_pos (show aU ⟨n+1,y⟩=2 from hk)]at hw
      exact hw.symm
     rw[e]
     exact qR (aH (n+1) _ y hr (by simp)) hk N
    ·rw[if_neg (show¬aU ⟨n+1,y⟩=2 from hk)]at hw
     rw[<-hw,e0]at hne
     exact(hne rfl).elim
 ·rw[if_neg h4]at hw
  rw[<-hw,e0]at hne
  exact(hne rfl).elim
theorem kU (l:List UInt8) (h:l≠[]):(⟨l.toArray⟩:ByteArray).toList≠[]:=by rw[jh];exact h
theorem kQ {M n:Nat} (hn:n<=M+1) {y:Tm n} (hr:ai ⟨n,y⟩):same (M+1) (lift (M+1) n y) n y=true:=kH (M+1) n hn y (fJ n y hr)
theorem Mo {α:Type} {l:List α} {a:α} (h:l.length=1) (h0:l[0]? =some a):l=[a]:=by
 match l,h with
 | [x],_=>simpa using h0
theorem Ko {α:Type} {l:List α} {a b:α} (h:l.length=2) (h0:l[0]? =some a) (h1:l[1]? =some b):l=[a,b]:=by
 match l,h with
 | [x,y],_=>
  simp at h0 h1
  rw[h0,h1]
theorem En {α:Type} {l:List α} {a b c:α} (h:l.length=3) (h0:l[0]? =some a) (h1:l[1]? =some b) (h2:l[2]? =some c):l=[a,b,c]:=by
 match l,h with
 | [x,y,z],_=>
  simp at h0 h1 h2
  rw[h0,h1,h2]
theorem Hg {α:Type} {l:List α} {a b c d:α} (h:l.length=4) (h0:l[0]? =some a) (h1:l[1]? =some b) (h2:l[2]? =some c) (h3:l[3]? =some d):l=[a,b,c,d]:=by
 match l,h with
 | [x,y,z,t],_=>
  simp at h0 h1 h2 h3
  rw[h0,h1,h2,h3]
theorem KA (M:Nat):(n:Nat)->n<=M+1->(x:Tm n)->ai ⟨n,x⟩->(a:Ac (M+1))->rz M n x=some a->same (M+2) (bT M a) n x=true/\kS (M+1) a=true
 | 0,_,_,hr,_,_=>(bQ hr).elim
 | n+1,hn,x,hr,a,h=>by
  have hq:∀y∈aR n x,ai ⟨n,y⟩:=fun y hy=>dB hr hy
  have hz:dK (M+1) (zT M)=true:=by
   have e0:ByteArray.empty.toList=[]:=by rw[ByteArray.toList_eq];rfl
   simp[dK,gZ,aL,zT,e0]
  have hns:vV .empty 0=true:=by
   have e0:ByteArray.empty.toList=[]:=by rw[ByteArray.toList_eq];rfl
   simp[vV,e0]
  have get:∀(q:List (Tm n)) (i:Nat),i<q.length->∃y,q[i]? =some y/\y∈q:=fun q i hi=>⟨q[i],List.getElem?_eq_getElem hi,List.getElem_mem hi⟩
  simp only[rz,iQ]at h
  split at h
  ·rename_i hb
   simp only[Bool.and_eq_true,decide_eq_true_eq]at hb
   obtain⟨h1,h',h2,h3⟩:=fo hr hb.1 (kU [115,101,110,100] (by simp))
   obtain⟨p,hp,hpm⟩:=get _ 0 (by rw[hb.2];omega)
   obtain⟨q,hqq,hqm⟩:=get _ 1 (by rw[hb.2];omega)
   rw[hp,hqq]at h
   have e:a=(1,(lift (M+1) n p,lift (M+1) n q),(.empty,0)):=by simpa using h.symm
   have hl:aR n x=[p,q]:=Ko hb.2 hp hqq
   subst e
   refine⟨aZ h1.symm ?_,hns⟩
   rw[h2,hl]
   show ah _ [aC iG M,lift (M+1) n p,lift (M+1) n q] [h',p,q]=true
   simp only[ah,h3 M,kQ (M:=M) (by omega) (hq p hpm),kQ (M:=M) (by omega) (hq q hqm),Bool.and_self]
  split at h
  ·rename_i hb
   simp only[Bool.and_eq_true,decide_eq_true_eq]at hb
   obtain⟨h1,h',h2,h3⟩:=fo hr hb.1 (kU [115,112,97,119,110] (by simp))
   obtain⟨p,hp,hpm⟩:=get _ 0 (by rw[hb.2];omega)
   obtain⟨q,hqq,hqm⟩:=get _ 1 (by rw[hb.2];omega)
   obtain⟨r,hrr,hrm⟩:=get _ 2 (by rw[hb.2];omega)
   rw[hp,hqq,hrr]at h
   simp only[Option.bind_some,Aj]at h
   split at h
   ·rename_i hk
    have e:a=(2,(zT M,lift (M+1) n q),(yJ n p,nR n r)):=by simpa using h.symm
    have hl:aR n x=[p,q,r]:=En hb.2 hp hqq hrr
    subst e
    cases n with
    | zero=>exact(bQ (hq p hpm)).elim
    | succ n=>
    have hv:=yD (hq r hrm) hk.2
    have hnm:=oZ (hq p hpm) hk.1
    refine⟨aZ h1.symm ?_, ?_⟩
    ·rw[h2,hl]
     show ah _ [aC iR M,aC p.1.2.2 M,lift (M+1) (n+1) q,aF 5 r.1.2.1 M] [h',p,q,r]=true
     simp only[ah,h3 M,kQ (M:=M) (by omega) (hq q hqm),qR (hq p hpm) hk.1 M,LC (hq r hrm) hk.2 M,Bool.and_self]
    ·show (dK (M+1) (zT M) && bq p.1.2.2 && decide (0<=r.1.2.1) && decide (r.1.2.1<4))=true
     rw[hz,hnm.2.2,decide_eq_true hv.2.2.1,decide_eq_true (by omega)]
     rfl
   ·cases h
  split at h
  ·rename_i hb
   simp only[Bool.and_eq_true,decide_eq_true_eq]at hb
   obtain⟨h1,h',h2,h3⟩:=fo hr hb.1 (kU [108,105,110,107] (by simp))
   obtain⟨p,hp,hpm⟩:=get _ 0 (by rw[hb.2];omega)
   rw[hp]at h
   have e:a=(3,(lift (M+1) n p,zT M),(.empty,0)):=by simpa using h.symm
   have hl:aR n x=[p]:=Mo hb.2 hp
   subst e
   refine⟨aZ h1.symm ?_, ?_⟩
   ·rw[h2,hl]
    show ah _ [aC lL M,lift (M+1) n p] [h',p]=true
    simp only[ah,h3 M,kQ (M:=M) (by omega) (hq p hpm),Bool.and_self]
   ·show (dK (M+1) (zT M) && vV .empty 0)=true
    rw[hz,hns]
    rfl
  split at h
  ·rename_i hb
   simp only[Bool.and_eq_true,decide_eq_true_eq]at hb
   obtain⟨h1,h',h2,h3⟩:=fo hr hb.1 (kU [115,116,111,112] (by simp))
   have e:a=(4,(zT M,zT M),(.empty,0)):=by simpa using h.symm
   have hl:aR n x=[]:=List.eq_nil_of_length_eq_zero hb.2
   subst e
   refine⟨aZ h1.symm ?_, ?_⟩
   ·rw[h2,hl]
    show ah _ [aC lI M] [h']=true
    simp only[ah,h3 M,Bool.and_self]
   ·show (dK (M+1) (zT M) && dK (M+1) (zT M) && vV .empty 0)=true
    rw[hz,hns]
    rfl
  ·cases h
theorem all_congr_mem {α:Type} {f g:α->Bool}:{l:List α}->(∀x∈l,f x=g x)->l.all f=l.all g
 | [],_=>rfl
 | a::l,h=>by
  simp only[List.all_cons,h a (by simp),all_congr_mem (l:=l) fun x hx=>h x (by simp[hx])]
theorem nI {α:Type} {n N:Nat} {f:Tm n->Option α} {g:α->Tm N} {B:α->Bool} (hf:∀x a,ai ⟨n,x⟩->f x=some a->same N (g a) n x=true/\B a=true):(p:List (Tm n))->(∀y∈p,ai ⟨n,y⟩)->(l:List α)->bF f p=some l->ah (fun a b=>same N a n b) (l.map g) p=true/\l.all B=true/\l.length=p.length
 | [],_,l,h=>by
  simp[bF]at h
  subst h
  exact⟨rfl,rfl,rfl⟩
 | y::p,hr,l,h=>by
  simp only[bF]at h
  obtain⟨a,ha,h⟩:=Option.bind_eq_some_iff.1 h
  obtain⟨r,hrr,rfl⟩:=Option.map_eq_some_iff.1 h
  obtain⟨h1,h2,h3⟩:=nI hf p (fun z hz=>hr z (by simp[hz])) r hrr
  obtain⟨k1,k2⟩:=hf y a (hr y (by simp)) ha
  refine⟨?_,by simp[k2,h2],by simp[h3]⟩
  simp only[List.map_cons,ah,k1,h1,Bool.and_self]
theorem oO {N M n:Nat} (hn:n<=M+1) (hN:M+1<=N) {y:Tm n} (hr:ai ⟨n,y⟩):same N (lift N (M+1) (lift (M+1) n y)) n y=true:=by
 have h1:=kQ hn hr
 exact aW _ _ _ _ _ _ (kH N (M+1) hN _ (xZ h1)) h1
theorem KF (M:Nat):(n:Nat)->n<=M+1->(x:Tm n)->ai ⟨n,x⟩->(c:Cl (M+1))->Am M n x=some c->same (M+4) (dL M c) n x=true/\sN (M+1) c=true
 | 0,_,_,hr,_,_=>(bQ hr).elim
 | n+1,hn,x,hr,c,h=>by
  have hq:∀y∈aR n x,ai ⟨n,y⟩:=fun y hy=>dB hr hy
  have get:∀(q:List (Tm n)) (i:Nat),i<q.length->∃y,q[i]? =some y/\y∈q:=fun q i hi=>⟨q[i],List.getElem?_eq_getElem hi,List.getElem_mem hi⟩
  simp only[Am,rM]at h
  split at h
  ·rename_i hb
   simp only[Bool.and_eq_true,decide_eq_true_eq]at hb
   obtain⟨h1,h',h2,h3⟩:=fo hr hb.1 (kU [111,110] (by simp))
   obtain⟨p,hp,hpm⟩:=get _ 0 (by rw[hb.2];omega)
   obtain⟨q,hqq,hqm⟩:=get _ 1 (by rw[hb.2];omega)
   obtain⟨r,hrr,hrm⟩:=get _ 2 (by rw[hb.2];omega)
   obtain⟨t,htt,htm⟩:=get _ 3 (by rw[hb.2];omega)
   rw[hp,hqq,hrr,htt]at h
   simp only[Option.bind_some]at h
   split at h
   ·rename_i hk
    obtain⟨l,hl,rfl⟩:=Option.map_eq_some_iff.1 h
    have hparts:aR n x=[p,q,r,t]:=Hg hb.2 hp hqq hrr htt
    cases n with
    | zero=>exact(bQ (hq p hpm)).elim
    | succ n=>
    have hr4:r.1.1=4:=hk
    obtain⟨k1,k2,k3⟩:=nI (g:=bT M) (B:=kS (M+1)) (fun y a hy ha=>KA M n (by omega) y hy a ha) r.2.2 (fun y hy=>aH n r y (hq r hrm) hy) l hl
    have h8:=kI (hq r hrm) hr4
    refine⟨aZ h1.symm ?_, ?_⟩
    ·rw[h2,hparts]
     show ah _ [aC Fh (M+2),lift (M+3) (M+1) (lift (M+1) (n+1) p),lift (M+3) (M+1) (lift (M+1) (n+1) q),bH (M+2) (l.map (bT M)),lift (M+3) (M+1) (lift (M+1) (n+1) t)] [h',p,q,r,t]=true
     have hA:same (M+3) (bH (M+2) (l.map (bT M))) (n+1) r=true:=aZ (yN (hq r hrm) hr4).symm k1
     simp only[ah,h3 (M+2),oO (N:=M+3) (M:=M) (by omega) (by omega) (hq p hpm),oO (N:=M+3) (M:=M) (by omega) (by omega) (hq q hqm),oO (N:=M+3) (M:=M) (by omega) (by omega) (hq t htm),hA,Bool.and_self]
    ·show (decide ((l.length:Int)<=8) && l.all (kS (M+1)))=true
     rw[k2,decide_eq_true (by omega)]
     rfl
   ·cases h
  ·cases h
theorem Lh (M:Nat):(n:Nat)->n<=M+1->(x:Tm n)->ai ⟨n,x⟩->(b:Bh (M+1))->zK M n x=some b->same (M+5) (dF M b) n x=true/\(bq b.1 && decide ((b.2.2.length:Int)<=6) && b.2.2.all (sN (M+1)))=true
 | 0,_,_,hr,_,_=>(bQ hr).elim
 | n+1,hn,x,hr,b,h=>by
  have hq:∀y∈aR n x,ai ⟨n,y⟩:=fun y hy=>dB hr hy
  simp only[zK,tO]at h
  split at h
  ·rename_i hb
   obtain⟨h1,h',h2,h3⟩:=fo hr hb (kU [98,101,104] (by simp))
   obtain⟨p,hp,h⟩:=Option.bind_eq_some_iff.1 h
   split at h
   ·rename_i hk
    obtain⟨l,hl,rfl⟩:=Option.map_eq_some_iff.1 h
    have hx4:x.1.1=4:=by rw[h1]
    have h8:=kI hr hx4
    generalize aR n x=q at*
    cases q with
    | nil=>simp at hp
    | cons p' q=>
    have e:p'=p:=by simpa using hp
    subst e
    cases n with
    | zero=>exact(bQ (hq p' (by simp))).elim
    | succ n=>
    have hnm:=oZ (hq p' (by simp)) hk
    obtain⟨k1,k2,k3⟩:=nI (g:=dL M) (B:=sN (M+1)) (fun y a hy ha=>KF M (n+1) (by omega) y hy a ha) q (fun y hy=>hq y (by simp[hy])) l hl
    rw[h2]at h8
    simp only[List.length_cons]at h8
    refine⟨aZ h1.symm ?_, ?_⟩
    ·rw[h2]
     show ah _ (aC mq (M+3)::aC p'.1.2.2 (M+3)::l.map (dL M)) (h'::p'::q)=true
     simp only[ah,h3 (M+3),qR (hq p' (by simp)) hk (M+3),k1,Bool.and_self]
    ·show (bq p'.1.2.2 && decide ((l.length:Int)<=6) && l.all (sN (M+1)))=true
     rw[hnm.2.2,k2,decide_eq_true (by omega)]
     rfl
   ·cases h
  ·cases h
theorem BH (M:Nat):(n:Nat)->n<=M+1->(x:Tm n)->ai ⟨n,x⟩->(l:List (Bh (M+1)))->Cb M n x=some l->same (M+6) (bM M l) n x=true/\iZ (M+1) l=(decide (1<=(l.length:Int)) && l.all fun b=>decide (1<=(b.2.2.length:Int)))
 | 0,_,_,hr,_,_=>(bQ hr).elim
 | n+1,hn,x,hr,l,h=>by
  have hq:∀y∈aR n x,ai ⟨n,y⟩:=fun y hy=>dB hr hy
  simp only[Cb]at h
  split at h
  ·rename_i hb
   obtain⟨h1,h',h2,h3⟩:=fo hr hb (kU [99,111,100,101] (by simp))
   have hx4:x.1.1=4:=by rw[h1]
   have h8:=kI hr hx4
   obtain⟨k1,k2,k3⟩:=nI (g:=dF M) (B:=fun b=>bq b.1 && decide ((b.2.2.length:Int)<=6) && b.2.2.all (sN (M+1))) (fun y a hy ha=>Lh M n (by omega) y hy a ha) (aR n x) hq l h
   rw[h2]at h8
   simp only[List.length_cons]at h8
   refine⟨aZ h1.symm ?_, ?_⟩
   ·rw[h2]
    show ah _ (aC iD (M+4)::l.map (dF M)) (h'::aR n x)=true
    simp only[ah,h3 (M+4),k1,Bool.and_self]
   ·have e7:decide ((l.length:Int)<=7)=true:=decide_eq_true (by omega)
    have ea:l.all (wP (M+1))=l.all fun b=>decide (1<=(b.2.2.length:Int)):=by
     rw[List.all_eq_true]at k2
     refine all_congr_mem fun b hb=> ?_
     have:=k2 b hb
     simp only[Bool.and_eq_true]at this
     simp only[wP,this.1.1,this.1.2,this.2,Bool.true_and,Bool.and_true]
    simp only[iZ,e7,ea,Bool.and_true]
  ·cases h
theorem bC {α β:Type} {f:α->β->Bool} {p:List α} {b:β} {q:List β} (h:ah f p (b::q)=true):∃a p',p=a::p'/\f a b=true/\ah f p' q=true:=by
 cases p with
 | nil=>simp[ah]at h
 | cons a p=>
  simp only[ah,Bool.and_eq_true]at h
  exact⟨a,p,rfl,h.1,h.2⟩
theorem kw {α β:Type} {f:α->β->Bool} {p:List α} (h:ah f p ([]:List β)=true):p=[]:=by
 cases p with
 | nil=>rfl
 | cons a p=>simp[ah]at h
theorem LY {n m:Nat} {x:Tm n} {y:Tm (m+1)} (h:same n x (m+1) y=true):(gZ n x).1=y.1:=(Gc h).1
theorem kY {N n:Nat} {x:Tm (N+1)} {wd:ByteArray} {ys:List (Tm (n+1))} (h:same (N+1) x (n+2) (bH (n+1) (aC wd n::ys))=true):dM N x=wd/\ah (fun a b=>same N a (n+1) b) (aR N x) ys=true:=by
 obtain⟨h1,h2⟩:=aM h
 obtain⟨a,p,h3,h4,h5⟩:=bC h2
 have e4:x.1.1=4:=by rw[h1];rfl
 have ea:=LY h4
 have hk:aU ⟨N,a⟩=2:=by
  cases N with
  | zero=>simp[same]at h4
  | succ N=>
   have:a.1.1=2:=by
    have e:a.1=(2,0,wd):=ea
    rw[e]
   exact this
 have h0:x.2.2[0]? =some a:=by rw[h3];rfl
 have hd:x.2.2.drop 1=p:=by rw[h3];rfl
 constructor
 ·simp only[dM,e4,if_true,h0,hk]
  rw[ea]
  rfl
 ·simp only[aR,e4,if_true,h0,hk,hd]
  exact h5
theorem jD (wd:ByteArray):sF wd wd=true:=by simp[sF]
theorem uy {α β:Type} {n:Nat} {f:Tm n->Option α} {R:Tm n->β->Prop} {Q:α->β->Prop} (hf:∀y b,R y b->∃z,f y=some z/\Q z b):(q:List (Tm n))->(l:List β)->RelL R q l->∃zs,bF f q=some zs/\RelL Q zs l
 | [],[],_=>⟨[],rfl,RelL.nil⟩
 | [],_::_,h=>by have:=h.1;simp at this
 | _::_,[],h=>by have:=h.1;simp at this
 | y::q,b::l,h=>by
  obtain⟨z,hz,k⟩:=hf y b h.tail.1
  obtain⟨zs,hzs,k2⟩:=uy hf q l h.tail.2
  refine⟨z::zs,by simp[bF,hz,hzs],by simp[k2.1],fun i u v hu hv=> ?_⟩
  cases i with
  | zero=>
   simp at hu hv
   subst hu hv
   exact k
  | succ i=>exact k2.2 i u v (by simpa using hu) (by simpa using hv)
theorem jO {β:Type} {n m:Nat} (g:β->Tm m):(q:List (Tm n))->(l:List β)->ah (fun a b=>same n a m b) q (l.map g)=true->RelL (fun y b=>same n y m (g b)=true) q l
 | [],[],_=>RelL.nil
 | [],_::_,h=>by simp[ah]at h
 | _::_,[],h=>by simp[ah]at h
 | y::q,b::l,h=>by
  simp only[List.map_cons,ah,Bool.and_eq_true]at h
  have ih:=jO g q l h.2
  refine⟨by simp[ih.1],fun i u v hu hv=> ?_⟩
  cases i with
  | zero=>
   simp at hu hv
   subst hu hv
   exact h.1
  | succ i=>exact ih.2 i u v (by simpa using hu) (by simpa using hv)
theorem jo {wd s:ByteArray} (h:wd.toList≠s.toList):sF wd s=false:=by simpa [sF]using h
theorem Pb (M N n:Nat) (a:Ac (n+1)) (y:Tm N) (h:same N y (n+2) (bT n a)=true):∃z,rz M N y=some z:=by
 cases N with
 | zero=>simp[same]at h
 | succ N=>
 have L1:iG.toList=[115,101,110,100]:=jh [115,101,110,100]
 have L2:iR.toList=[115,112,97,119,110]:=jh [115,112,97,119,110]
 have L3:lL.toList=[108,105,110,107]:=jh [108,105,110,107]
 have L4:lI.toList=[115,116,111,112]:=jh [115,116,111,112]
 unfold bT at h
 split at h
 ·obtain⟨h1,h2⟩:=kY h
  obtain⟨p,q1,e1,k1,h3⟩:=bC h2
  obtain⟨q,q2,e2,k2,h4⟩:=bC h3
  have e3:=kw h4
  subst e2 e3
  simp only[rz,iQ,h1,e1,jD]
  exact⟨_,rfl⟩
 split at h
 ·obtain⟨h1,h2⟩:=kY h
  obtain⟨p,q1,e1,k1,h3⟩:=bC h2
  obtain⟨q,q2,e2,k2,h4⟩:=bC h3
  obtain⟨r,q3,e3,k3,h5⟩:=bC h4
  have e4:=kw h5
  subst e2 e3 e4
  have hk1:aU ⟨N,p⟩=2:=by rw[jq k1];rfl
  have hk3:aU ⟨N,r⟩=5:=by rw[jq k3];rfl
  have b1:sF iR iG=false:=jo (by rw[L1,L2];decide)
  simp only[rz,iQ,h1,e1,jD,b1,Bool.false_and,Bool.true_and]
  simp[Aj,hk1,hk3]
 split at h
 ·obtain⟨h1,h2⟩:=kY h
  obtain⟨p,q1,e1,k1,h3⟩:=bC h2
  have e4:=kw h3
  subst e4
  have b1:sF lL iG=false:=jo (by rw[L1,L3];decide)
  have b2:sF lL iR=false:=jo (by rw[L2,L3];decide)
  simp only[rz,iQ,h1,e1,jD,b1,b2,Bool.false_and,Bool.true_and]
  simp
 ·obtain⟨h1,h2⟩:=kY h
  have e4:=kw h2
  have b1:sF lI iG=false:=jo (by rw[L1,L4];decide)
  have b2:sF lI iR=false:=jo (by rw[L2,L4];decide)
  have b3:sF lI lL=false:=jo (by rw[L3,L4];decide)
  simp only[rz,iQ,h1,e4,jD,b1,b2,b3,Bool.false_and,Bool.true_and]
  simp
theorem Pz (M N n:Nat) (c:Cl (n+1)) (y:Tm N) (h:same N y (n+4) (dL n c)=true):∃z,Am M N y=some z:=by
 cases N with
 | zero=>simp[same]at h
 | succ N=>
 obtain⟨h1,h2⟩:=kY h
 obtain⟨p,q1,e1,k1,h3⟩:=bC h2
 obtain⟨q,q2,e2,k2,h4⟩:=bC h3
 obtain⟨r,q3,e3,k3,h5⟩:=bC h4
 obtain⟨t,q4,e4,k4,h6⟩:=bC h5
 have e5:=kw h6
 subst e2 e3 e4 e5
 have hk3:aU ⟨N,r⟩=4:=by rw[jq k3];rfl
 cases N with
 | zero=>simp[same]at k3
 | succ N=>
 obtain⟨zs,hzs,_⟩:=uy (f:=rz M N) (R:=fun y b=>same N y (n+2) (bT n b)=true) (Q:=fun _ _=>True) (fun y b hyb=>by
  obtain⟨z,hz⟩:=Pb M N n b y hyb
  exact⟨z,hz,trivial⟩) r.2.2 c.2.2 (jO (bT n) _ _ (aM k3).2)
 have hzs':bF (rz M (N+1-1)) (F6 (N+1) r)=some zs:=hzs
 refine⟨((lift (M+1) (N+1) p,lift (M+1) (N+1) q,lift (M+1) (N+1) t),(none,0),zs), ?_⟩
 show rM M (N+1) (dM (N+1) y) (aR (N+1) y)=_
 rw[h1,e1]
 unfold rM
 rw[if_pos (by rw[jD];rfl)]
 show (if aU ⟨N+1,r⟩=4 then (bF (rz M (N+1-1)) (F6 (N+1) r)).map _ else none)=_
 rw[if_pos hk3,hzs']
 rfl
theorem Ps (M N n:Nat) (b:Bh (n+1)) (y:Tm N) (h:same N y (n+5) (dF n b)=true):∃z,zK M N y=some z/\z.2.2.length=b.2.2.length:=by
 cases N with
 | zero=>simp[same]at h
 | succ N=>
 obtain⟨h1,h2⟩:=kY h
 obtain⟨p,q,e1,k1,h3⟩:=bC h2
 have hk1:aU ⟨N,p⟩=2:=by rw[jq k1];rfl
 obtain⟨zs,hzs,hl⟩:=uy (f:=Am M N) (R:=fun y b=>same N y (n+4) (dL n b)=true) (Q:=fun _ _=>True) (fun y b hyb=>by
  obtain⟨z,hz⟩:=Pz M N n b y hyb
  exact⟨z,hz,trivial⟩) q b.2.2 (jO (dL n) _ _ h3)
 refine⟨(yJ N p,(none,0),zs), ?_,hl.1⟩
 simp only[zK,tO,h1,e1,jD]
 simp[hk1,hzs]
theorem OJ (M N n:Nat) (hN:N<=M+1) (l:List (Bh (n+1))) (hl:iZ (n+1) l=true) (x:Tm N) (hr:ai ⟨N,x⟩) (h:same N x (n+6) (bM n l)=true):∃z,Cb M N x=some z/\iZ (M+1) z=true/\z.length=l.length:=by
 cases N with
 | zero=>simp[same]at h
 | succ N=>
 obtain⟨h1,h2⟩:=kY h
 obtain⟨zs,hzs,hq⟩:=uy (f:=zK M N) (R:=fun y b=>same N y (n+5) (dF n b)=true) (Q:=fun z b=>z.2.2.length=b.2.2.length) (fun y b hyb=>Ps M N n b y hyb) (aR N x) l (jO (dF n) _ _ h2)
 have hp:Cb M (N+1) x=some zs:=by
  simp only[Cb,h1,jD]
  simpa using hzs
 refine⟨zs,hp, ?_,hq.1⟩
 rw[(BH M (N+1) hN x hr zs hp).2]
 simp only[iZ,wP,Bool.and_eq_true,decide_eq_true_eq,List.all_eq_true]at hl ⊢
 refine⟨by rw[hq.1];exact hl.1.1,fun z hz=> ?_⟩
 obtain⟨i,hi⟩:=List.getElem?_of_mem hz
 have hlt:i<l.length:=by have:=(List.getElem?_eq_some_iff.1 hi).1;rw[<-hq.1];exact this
 have:=hq.2 i z l[i] hi (List.getElem?_eq_getElem hlt)
 rw[this]
 exact(hl.2 l[i] (List.getElem_mem hlt)).1.1.2
def F9 (M:Nat) (o:Option (List (Bh (M+1)))):Int:=match o with|some l=>if iZ (M+1) l=true then 0 else 5|none=>5
def Mx (M n:Nat) (x:Tm n):Int:=if aQ n x=0 then F9 M (Cb M n x)else aQ n x
def um (M:Nat) (E:Int) (o:Option (List (Bh (M+1)))) (w:World) (e:Ending) (w':World):Prop:=
 ∃(l:List (Bh (M+1))) (a:Option Addr) (c:Nat),e=.returned (.tuple #[.slice a l.length c,.int .i64 E])/\Hid (Below w.heap.size w w'/\(l.length<=c/\c<=maxLen)/\PgIn (M+1) w'.heap.size w' a l/\tF (iU (M+1) (fun b=>w.heap.size<=b)) (fun b=>w.heap.size<=b) a l/\(¬E=0->l=[])/\(E=0->∃z,o=some z/\RelL (vW (M+1)) l z))
theorem rD {M:Nat} {E:Int} {o:Option (List (Bh (M+1)))} {w w':World} (h:¬E=0) (hb:Below w.heap.size w w'):um M E o w (.returned (.tuple #[.slice none 0 0,.int .i64 E])) w':=
 ⟨[],none,0,rfl,hb,⟨Nat.le_refl _,Nat.zero_le _⟩,Or.inl rfl,Or.inl rfl,fun _=>rfl,fun h0=>(h h0).elim⟩
theorem Gv (M:Nat) (k u:Int) (s:ByteArray) (a:Option Addr) (l c:Nat) (w:World) (ck:Int) (o:Option (List (Bh (M+1)))) (E:Int) (hE:Hid (E=if ck=0 then F9 M o else ck))
    (HC:Hid (∀w1,Below w.heap.size w w1->Calls Tryz.prog 42 #[.agg #[.int .i64 k,.int .i64 u,.string s,.slice a l c]] w1 fun e w'=>e=.returned (.int .i64 ck)/\Below w1.heap.size w1 w'))
    (HR:Hid (ck=0->∀w1,Below w.heap.size w w1->Calls Tryz.prog 48 #[.agg #[.int .i64 k,.int .i64 u,.string s,.slice a l c]] w1 (vo M o w1))):
    Calls Tryz.prog 24 #[.agg #[.int .i64 k,.int .i64 u,.string s,.slice a l c]] w (um M E o w):=by
 go_enter Tryz.func24,Tryz.ntmps24
 go_wp2_with fail
 refine(HC.out _ au).mono ?_
 rintro e w1 ⟨rfl,hb1⟩
 have HB1:Hid (Below w.heap.size w w1):=au.trans (hb1.mono (by simp))
 have HX1:=hide (pu w _ _ _ _ _ hb1)
 clear hb1 HC
 by_cases h0:ck=0
 ·subst h0
  have HR1:=hide (HR.out (by simp) w1 HB1.out)
  have c0:w1.cell? ⟨w.heap.size,0,none⟩=some (.int .i64 k):=ag HX1.out 0
  have c1:w1.cell? ⟨w.heap.size,1,none⟩=some (.int .i64 u):=ag HX1.out 1
  have c2:w1.cell? ⟨w.heap.size,2,none⟩=some (.string s):=ag HX1.out 2
  have c3:w1.cell? ⟨w.heap.size,3,none⟩=some (.slice a l c):=ag HX1.out 3
  have hq1:w.heap.size<w1.heap.size:=(Array.getElem?_eq_some_iff.1 HX1.out).1
  have HEO:=hide (show E=F9 M o by simpa using hE.out)
  clear HR hE
  go_wp2_with fail
  refine HR1.out.mono ?_
  rintro e w2 ⟨q,a',c',r,rfl,HQ⟩
  obtain⟨L,hL⟩:∃L,q.length=L:=⟨_,rfl⟩
  rw[hL]
  have HLL:=hide hL
  have HB2:Hid (Below w.heap.size w w2):=HB1.out.trans (HQ.out.1.mono HB1.out.size)
  clear hL HR1 c0 c1 c2 c3 HX1
  cases r
  ·have HE5:Hid (E=5):=by
     show E=5
     rw[HEO.out]
     have h:=HQ.out.2.1
     cases o with
     | none=>rfl
     | some z=>cases h
   have HF:Hid (um M E o w (.returned (.tuple #[.slice none 0 0,.int .i64 5])) w2):=by
    have h:=rD (M:=M) (E:=E) (o:=o) (by rw[HE5.out];omega) HB2.out
    rw[HE5.out]at h
    rw[HE5.out]
    exact h
   go_wp2_with fail
   exact bodyPost_ret (v:=.tuple #[.slice none 0 0,.int .i64 5]) (by simp[results,Tryz.results24,go_sem]) rfl HF.out
  ·have HIP:Hid (∀w3,Below w2.heap.size w2 w3->Calls Tryz.prog 46 #[.slice a' L c'] w3 fun e w'=>e=.returned (.bool (iZ (M+1) q))/\Below w3.heap.size w3 w'):=fun w3 h3=>
     nT M q L HLL.out a' c' w2.heap.size w3 (PgIn.below h3 HQ.out.2.2.2.1) (by have:=HQ.out.2.2.1;have:=HLL.out;unfold maxLen at*;omega) h3.size
   obtain⟨b,hb⟩:∃b,iZ (M+1) q=b:=⟨_,rfl⟩
   rw[hb]at HIP
   have HPB:=hide hb
   clear hb
   have HZ:Hid (∃z,o=some z/\RelL (vW (M+1)) q z):=by
    have h:=HQ.out.2.1
    cases o with
    | none=>cases h
    | some z=>exact⟨z,rfl,HQ.out.2.2.2.2.2 z rfl⟩
   cases b
   ·have HE5:Hid (E=5):=by
      show E=5
      obtain⟨z,hz,hr⟩:=HZ.out
      rw[HEO.out,hz]
      show (if iZ (M+1) z=true then (0:Int)else 5)=5
      rw[<-F4 hr,HPB.out]
      rfl
    go_wp2_with (go_at_call 46;refine(HIP.out _ (Below.refl _ _)).mono ?_;rintro e w3 ⟨rfl,hb3⟩;have HB3:=hide (HB2.out.trans (hb3.mono HB2.out.size));clear hb3)
    refine bodyPost_ret (v:=.tuple #[.slice none 0 0,.int .i64 5]) (by simp[results,Tryz.results24,go_sem]) rfl ?_
    have h:=rD (M:=M) (E:=E) (o:=o) (by rw[HE5.out];omega) HB3.out
    rw[HE5.out]at h
    rw[HE5.out]
    exact h
   ·have HE0:Hid (E=0):=by
      show E=0
      obtain⟨z,hz,hr⟩:=HZ.out
      rw[HEO.out,hz]
      show (if iZ (M+1) z=true then (0:Int)else 5)=0
      rw[<-F4 hr,HPB.out]
      rfl
    go_wp2_with (go_at_call 46;refine(HIP.out _ (Below.refl _ _)).mono ?_;rintro e w3 ⟨rfl,hb3⟩;have HB23:=hide hb3;have HB3:=hide (HB2.out.trans (hb3.mono HB2.out.size));clear hb3)
    refine bodyPost_ret (v:=.tuple #[.slice a' L c',.int .i64 0]) (by simp[results,Tryz.results24,go_sem]) rfl ?_
    obtain⟨k1,k2,k3,k4,k5,k6⟩:=HQ.out
    rw[HE0.out]
    exact⟨q,a',c',by rw[HLL.out],HB3.out,k3,(PgIn.below HB23.out k4).mono HB23.out.size,(bi (dw _) 2 (nK (M+1)) a').1 _ _ _ (fun b hb=>Nat.le_trans HB1.out.size hb) k5,fun h=>(h rfl).elim,fun _=>HZ.out⟩
 ·have e0:(ck !=0)=true:=by simpa using h0
  have HEE:Hid (E=ck):=by
   show E=ck
   rw[hE.out,if_neg h0]
  clear HR HX1
  go_wp2_with fail
  refine bodyPost_ret (v:=.tuple #[.slice none 0 0,.int .i64 ck]) (by simp[results,Tryz.results24,go_sem]) rfl ?_
  rw[HEE.out]
  exact rD h0 HB1.out
theorem La (M n:Nat) (hn:n<=M+1) (x:Tm n) (B:Nat) (w:World) (hx:In B w n x) (hN:(nodes n x).length<=2097152) (hB:B<=w.heap.size):
    Calls Tryz.prog 24 #[val n x] w (um M (Mx M n x) (Cb M n x) w):=by
 cases n with
 | zero=>exact hx.elim
 | succ n=>
 exact Gv M x.1.1 x.1.2.1 x.1.2.2 x.2.1.1 x.2.2.length x.2.1.2 w (aQ (n+1) x) _ _ rfl (fun w1 h1=>dh (n+1) x B w1 (hx.below (h1.mono hB)) (Nat.le_trans hB h1.size) hN) (fun h0 w1 h1=>zF M (n+1) hn x B w1 (hx.below (h1.mono hB)) (ax.2 (aN.1 h0).1) (Nat.le_trans hB h1.size))
theorem uP {n:Nat} {x:Tm n} (h:aQ n x=0):ai ⟨n,x⟩:=ax.2 (aN.1 h).1
theorem iw {n:Nat} {p:List (Bh (n+1))} (h:lM n p=0):iZ (n+1) p=true/\aQ (n+6) (bM n p)=0/\KZ n p=bM n p:=by
 have h':=h
 unfold lM at h'
 split at h'
 ·rename_i hp
  exact⟨hp,h',by unfold KZ;rw[if_pos h]⟩
 ·omega
theorem O6 {n:Nat} {p:List (Bh (n+1))} (h:iZ (n+1) p=true) (k:aQ (n+6) (bM n p)=0):lM n p=0:=by
 unfold lM
 rw[if_pos h]
 exact k
theorem GG {n:Nat} {l r:List (Bh (n+1))} (h:RelL (vW (n+1)) l r):lM n l=lM n r:=by
 unfold lM
 rw[F4 h,aX (vT h)]
theorem IV {M n:Nat} (hn:n<=M+1) {x:Tm n} (hc:aQ n x=0) {z l:List (Bh (M+1))} (hz:Cb M n x=some z) (hl:RelL (vW (M+1)) l z) (hB:iZ (M+1) z=true):
    iZ (M+1) l=true/\lM M l=0/\same (M+6) (KZ M l) n x=true/\(nodes (M+6) (bM M l)).length=(nodes n x).length:=by
 have h1:=BH M n hn x (uP hc) z hz
 have h2:iZ (M+1) l=true:=(F4 hl).trans hB
 have h3:same (M+6) (bM M l) n x=true:=aW _ _ _ _ _ _ (vT hl) h1.1
 have h4:lM M l=0:=O6 h2 ((aX h3).trans hc)
 exact⟨h2,h4,by rw[(iw h4).2.2];exact h3,jf _ _ _ _ h3⟩
theorem IK {n:Nat} {p:List (Bh (n+1))} (h:lM n p=0) {y:Tm (n+6)} (hy:same (n+6) y (n+6) (KZ n p)=true):
    aQ (n+6) y=0/\Mx (n+5) (n+6) y=0/\∀z l,Cb (n+5) (n+6) y=some z->RelL (vW (n+6)) l z->iZ (n+6) l=true/\lM (n+5) l=0/\same (n+11) (KZ (n+5) l) (n+6) (KZ n p)=true/\l.length=p.length/\(nodes (n+11) (bM (n+5) l)).length=(nodes (n+6) (bM n p)).length:=by
 obtain⟨h1,h2,h3⟩:=iw h
 rw[h3]at hy
 have hc:aQ (n+6) y=0:=(aX hy).trans h2
 obtain⟨z,hz,hzB,hzl⟩:=OJ (n+5) (n+6) n (Nat.le_refl _) p h1 y (uP hc) hy
 refine⟨hc, ?_,fun z' l hz' hl=> ?_⟩
 ·unfold Mx
  rw[if_pos hc,hz]
  unfold F9
  simp only[hzB,if_true]
 ·rw[hz]at hz'
  injection hz' with hz'
  subst hz'
  obtain⟨k1,k2,k3,k4⟩:=IV (Nat.le_refl _) hc hz hl hzB
  exact⟨k1,k2,by rw[h3];exact aW _ _ _ _ _ _ k3 hy,hl.1.trans hzl,by rw[k4];exact jf _ _ _ _ hy⟩
def Mads (lo:Nat) (room:Int) (K:Nat) (X:Nat->Prop) (B:Nat) (w:World):List (Int×ByteArray×Tc)->List Nat->Nat->Prop
 | [],[],c=>c<=B
 | x::l,b::bs,c=>∃c1 c2,(c<=c1/\c1<=c2)/\P1 lo b x.2.1 room x.2.2 [] K (fun q=>c1<=q/\q<c2) w/\(∀q,c1<=q->q<c2->¬X q)/\Mads lo room K X B w l bs c2
 | _,_,_=>False
section
variable {lo K:Nat} {room:Int} {X:Nat->Prop} {B:Nat} {w:World}
theorem Mads.le:{l:List (Int×ByteArray×Tc)}->{bs:List Nat}->{c:Nat}->Mads lo room K X B w l bs c->c<=B
 | [],[],_,h=>h
 | [],_::_,_,h=>h.elim
 | _::_,[],_,h=>h.elim
 | _::_,_::_,_,⟨c1,c2,h1,_,_,h4⟩=>by have:=h4.le;omega
theorem Mads.kept2 {w':World} {S X':Nat->Prop} {B' c0:Nat} (hk:Kee S w w') (hS:∀q,c0<=q->q<B->S q->X q) (hX:∀q,q<B->X' q->X q) (hB:B<=B'):{l:List (Int×ByteArray×Tc)}->{bs:List Nat}->{c:Nat}->c0<=c->Mads lo room K X B w l bs c->Mads lo room K X' B' w' l bs c
 | [],[],_,_,h=>Nat.le_trans h hB
 | [],_::_,_,_,h=>h.elim
 | _::_,[],_,_,h=>h.elim
 | _::_,_::_,_,hc,⟨c1,c2,h1,h2,h3,h4⟩=>by
  have hle:=h4.le
  exact⟨c1,c2,h1,h2.kept (S:=S) ⟨hk.os,hk.tape,hk.output,hk.size,hk.block⟩ fun b q z=>h3 b q.1 q.2 (hS b (by omega) (by omega) z),fun q a1 a2 z=>h3 q a1 a2 (hX q (by omega) z),h4.kept2 hk hS hX hB (by omega)⟩
theorem Mads.kept {w':World} {S X':Nat->Prop} {B':Nat} (hk:Kee S w w') (hS:∀q,q<B->S q->X q) (hX:∀q,q<B->X' q->X q) (hB:B<=B') {l:List (Int×ByteArray×Tc)} {bs:List Nat} {c:Nat} (h:Mads lo room K X B w l bs c):Mads lo room K X' B' w' l bs c:=h.kept2 (c0:=0) hk (fun q _=>hS q) hX hB (Nat.zero_le _)
theorem Mads.snoc {B1 B2 B3 b:Nat} {x:Int×ByteArray×Tc} (hB:B<=B1) (hB2:B1<=B2/\B2<=B3) (hP:P1 lo b x.2.1 room x.2.2 [] K (fun q=>B1<=q/\q<B2) w) (hX:∀q,B1<=q->q<B2->¬X q):{l:List (Int×ByteArray×Tc)}->{bs:List Nat}->{c:Nat}->Mads lo room K X B w l bs c->Mads lo room K X B3 w (l++ [x]) (bs++ [b]) c
 | [],[],_,h=>⟨B1,B2,⟨Nat.le_trans h hB,hB2.1⟩,hP,hX,hB2.2⟩
 | [],_::_,_,h=>h.elim
 | _::_,[],_,h=>h.elim
 | _::_,_::_,_,⟨c1,c2,h1,h2,h3,h4⟩=>⟨c1,c2,h1,h2,h3,h4.snoc hB hB2 hP hX⟩
end
section
variable {p:SyP} {s:Sy} {d:SyD} {w:World}
theorem NZ {n:Nat} {x:Tm n} (room:Int) (nm:ByteArray) (hc:aQ n x=0):eD 13 (cn n x) room nm=eD n x room nm:=by
 have hs:=dC hc
 unfold eD iB
 rw[aX hs,bD _ _ _ _ hs,jX _ _ _ _ hs]
theorem SyAt.made (h:SyAt p s d w) {N b0:Nat} {pa:Option Addr} {pl pc:Nat} {sp:List (Int×ByteArray×Tm (N+1))} (hr:w.ownsRow b0 146 6 (.slice pa pl pc) pl (sp.flatMap fun z=>Po z.1 z.2.1 z.2.2)) (hl:sp.length=pl) (hpl:pl<=1000) (hsp:∀z∈sp,aQ _ z.2.2=0/\In w.heap.size w _ z.2.2):
    Calls Tryz.prog 36 #[.pointer (some ⟨p.b,0,none⟩),.slice pa pl pc] w fun e w'=>∃v b,e=.returned (.tuple #[v,.bool b])/\Hid (Below w.heap.size w w'/\b=s.made p.n p.prog p.room (sp.map fun z=>(z.1,z.2.1,cn _ z.2.2))/\(b=true->∃bs a c,v=.slice a pl c/\bs.length=pl/\w'.ownsRow w.heap.size 83 1 v pl (bs.map uE)/\Mads p.lo p.room (d.k+201) (fun q=>v.ownBlock=some q) w'.heap.size w' (sp.map fun z=>(z.1,z.2.1,cn _ z.2.2)) bs w.heap.size)):=by
 have hpg:iZ (p.n+1) p.prog=true:=(iw h.pg.2.2.2.1).1
 obtain⟨a',c',e',_,hat⟩:=qB hr (by decide) fun z=>rfl
 injection e' with ea el ec
 subst ea
 have hge:∀j,j<pl->sp[j]? =some (sp.getD j (0,⟨#[]⟩,((0,0,⟨#[]⟩),(none,0),[]))):=fun j hj=>by
  rw[List.getD_eq_getElem?_getD,List.getElem?_eq_getElem (by omega)]
  rfl
 generalize hG:(fun j=>sp.getD j (0,⟨#[]⟩,((0,0,⟨#[]⟩),(none,0),[])))=G
 have hge:∀j,j<pl->sp[j]? =some (G j):=fun j hj=>by rw[hge j hj,<-hG]
 clear hG
 obtain⟨L,hL⟩:∃L,L=sp.map fun z=>(z.1,z.2.1,cn _ z.2.2):=⟨_,rfl⟩
 rw[<-hL]
 have hLl:L.length=pl:=by rw[hL,List.length_map,hl]
 have hLj:∀j,j<pl->L[j]? =some ((G j).1,(G j).2.1,cn _ (G j).2.2):=fun j hj=>by rw[hL,List.getElem?_map,hge j hj];rfl
 have hne:∀j,j<pl->aQ _ (G j).2.2=0/\In w.heap.size w _ (G j).2.2:=fun j hj=>hsp _ (List.mem_of_getElem? (hge j hj))
 have hnn:∀j,j<pl->eD 13 (cn _ (G j).2.2) p.room (G j).2.1=eD _ (G j).2.2 p.room (G j).2.1:=fun j hj=>NZ _ _ (hne j hj).1
 have htk:∀j,j<pl->L.take (j+1)=L.take j++ [((G j).1,(G j).2.1,cn _ (G j).2.2)]:=fun j hj=>by
  rw[List.take_add_one,hLj j hj]
  rfl
 refine Je p.b pa pl pc (s.may pl) p.room w (fun j=>(G j).1) (fun j=>(G j).2.2.1.1) (fun j=>(G j).2.2.1.2.1) (fun j=>(G j).2.1) (fun j=>(G j).2.2.1.2.2) (fun j=>(G j).2.2.2.1.1) (fun j=>(G j).2.2.2.2.length) (fun j=>(G j).2.2.2.1.2) (fun j=>mG p.n p.prog (G j).2.1) (fun j=>eD _ (G j).2.2 p.room (G j).2.1) (fun j bs v W=>Mads p.lo p.room (d.k+201) (fun q=>v.ownBlock=some q) W.heap.size W (L.take j) bs w.heap.size/\∀q,v.ownBlock=some q->q<W.heap.size)
  (fun j pb bs v W=>∃B,(w.heap.size<=B/\B<=W.heap.size)/\(Mads p.lo p.room (d.k+201) (fun q=>v.ownBlock=some q) B W (L.take j) bs w.heap.size)/\(∀q,v.ownBlock=some q->q<B)/\P1 p.lo pb (G j).2.1 p.room (cn _ (G j).2.2) [] (d.k+201) (fun q=>B<=q/\q<W.heap.size) W) (fun v b w'=>Below w.heap.size w w'/\b=s.made p.n p.prog p.room L/\(b=true->∃bs a c,v=.slice a pl c/\bs.length=pl/\w'.ownsRow w.heap.size 83 1 v pl (bs.map uE)/\Mads p.lo p.room (d.k+201) (fun q=>v.ownBlock=some q) w'.heap.size w' L bs w.heap.size)) hpl h.lo.2 h.cells.2.1 (fun j hj=> ?_) (h.mayHave pl hpl) (fun j W hj hW=>(h.later hW).knows _) (fun j bs v W hj hk hW hZ=> ?_) ?_ (fun j bs v W W' hZ hW=> ?_) (fun j pb bs a c g c' W W1 W' hjl hN hW hg1 hg2 hg3=> ?_) (fun W hW hb=> ?_) fun W bs a c hW h1 h2 h3 h4 h5=> ?_
 ·obtain⟨g,e1,e2,e3⟩:=hat j _ (hge j hj)
  exact⟨g,e1,e2,e3 0 _ rfl,e3 1 _ rfl,e3 2 _ rfl,e3 3 _ rfl,e3 4 _ rfl,e3 5 _ rfl⟩
 ·have hsz:=Dy hpg hk
  obtain⟨k1,k2⟩:=hne j hj
  refine(P1.new _ (G j).2.2 p.room (G j).2.1 W (by omega) ((k2.below hW).mono hW.size) (dS k1)).mono ?_
  rintro e w' ⟨q,rfl,H⟩
  obtain⟨m1,m2,m3⟩:=H.out
  refine⟨q,rfl,m1,fun e=> ?_⟩
  obtain⟨pb,e1,e2,e3,e4⟩:=m3 e
  have:=h.lo.1
  have:=hW.size
  refine⟨pb,e1,W.heap.size,⟨hW.size,m1.size⟩,hZ.1.kept (aj m1 fun _=>False) (fun _ _ z=>z.elim) (fun _ _ z=>z) (Nat.le_refl _),hZ.2,e4.mono (fun b z=>z) (by omega) fun b z=>⟨by omega,z.2⟩⟩
 ·exact⟨Nat.le_refl _,(fun q z=>by cases z)⟩
 ·exact⟨hZ.1.kept (aj hW fun _=>False) (fun _ _ z=>z.elim) (fun _ _ z=>z) hW.size,fun q z=>Nat.lt_of_lt_of_le (hZ.2 q z) hW.size⟩
 ·obtain⟨B,⟨n1,n2⟩,n3,n4,n5⟩:=hN
  have hgk:Kee (fun q=>(Value.slice a j c).ownBlock=some q) W1 W':=⟨hg1.os,hg1.tape,hg1.output,hg1.size,fun k hk hn=>hg1.block k hk fun e=>hn e.symm⟩
  have hk:Kee (fun q=>(Value.slice a j c).ownBlock=some q) W W':=(aj hW _).trans hgk fun _ _ e=>e
  have hs:=hW.size
  have hs1:=hg1.size
  have hXX:∀q,q<W.heap.size->(Value.slice (some ⟨g,0,none⟩) (j+1) c').ownBlock=some q->(Value.slice a j c).ownBlock=some q:=fun q hq z=>by
   obtain rfl:g=q:=Option.some.inj z
   rcases hg2 with e|e
   ·exact e
   ·omega
  refine⟨?_,fun q z=> ?_⟩
  ·rw[htk j hjl]
   refine Mads.snoc (Nat.le_refl B) (B2:=W.heap.size) (by omega) ?_ ?_ (n3.kept hk (fun q _ z=>z) (fun q hq z=>hXX q (by omega) z) (Nat.le_refl _))
   ·exact n5.kept (S:=fun q=>(Value.slice a j c).ownBlock=some q) ⟨hk.os,hk.tape,hk.output,hk.size,hk.block⟩ fun b z z2=>by have:=n4 b z2;omega
   ·exact fun q z1 z2 z3=>by have:=n4 q (hXX q z2 z3);omega
  ·obtain rfl:g=q:=Option.some.inj z
   exact hg3
 ·refine⟨hW, ?_,(fun z=>by cases z)⟩
  unfold Sy.made
  rw[hLl]
  rcases hb with hb|⟨j,hj,hb⟩
  ·rw[hb]
   rfl
  ·refine Eq.symm (Bool.and_eq_false_iff.2 (Or.inr ?_))
   rw[List.all_eq_false]
   refine⟨_,List.mem_of_getElem? (hLj j hj), ?_⟩
   simp only[Bool.and_eq_true,beq_iff_eq,not_and]
   intro z1 z2
   rw[hnn j hj]at z2
   rcases hb with hb|hb
   ·rw[hb]at z1
    cases z1
   ·exact hb z2
 ·refine⟨hW, ?_,fun _=>⟨bs,a,c,rfl,h3,h4, ?_⟩⟩
  ·unfold Sy.made
   rw[hLl,h1,Bool.true_and,eq_comm,List.all_eq_true]
   intro x hx
   obtain⟨j,hj⟩:=List.mem_iff_getElem?.1 hx
   have hjl:j<pl:=by have:=(List.getElem?_eq_some_iff.1 hj).1;omega
   rw[hLj j hjl]at hj
   obtain rfl:=Option.some.inj hj
   simp only[Bool.and_eq_true,beq_iff_eq]
   exact⟨(h2 j hjl).1,(hnn j hjl).trans (h2 j hjl).2⟩
  ·rw[List.take_of_length_le (by omega)]at h5
   exact h5.1
end
theorem Al (sb:Nat) (a m0 m1:Int) (m2:ByteArray) (ma:Option Addr) (ml mc:Nat) (f:Int) (sa:Option Addr) (sl sc:Nat) (pa:Option Addr) (pl pc:Nat) (ka:Option Addr) (kl kc:Nat) (va:Option Addr) (vl vc:Nat) (bs:Nat->Nat) (su x0 x1:Nat->Int) (x2:Nat->ByteArray) (xa:Nat->Option Addr) (xl xc:Nat->Nat) (ln:Nat->Int) (w:World) (J1 J2 J3:Nat->Nat->World->Prop) (R:World->Prop) (hvl:vl<=1000) (hsl:sl<=1000) (hkl:kl<=1000)
    (H10:Hid (∀q W,Below w.heap.size w W->w.heap.size<=q->W.heap[q]? =some (.cells #[.int .i64 m0,.int .i64 m1,.string m2,.slice ma ml mc,.int .i64 f,.slice sa sl sc,.slice pa pl pc,.slice ka kl kc] 96)->J1 q 0 W))
    (H12:Hid (∀q W,J1 q vl W->J2 q 0 W)) (H23:Hid (∀q W,J2 q sl W->J3 q 0 W))
    (HQ:Hid (∀q j W,(J1 q j W∨J2 q j W∨J3 q j W)->W.heap[q]? =some (.cells #[.int .i64 m0,.int .i64 m1,.string m2,.slice ma ml mc,.int .i64 f,.slice sa sl sc,.slice pa pl pc,.slice ka kl kc] 96)))
    (HA:Hid (∀q j W,j<vl->J1 q j W->(∃g,va=some ⟨g,0,none⟩/\W.cell? ⟨g,j,none⟩=some (.pointer (some ⟨bs j,0,none⟩)))/\Hid (Calls Tryz.prog 29 #[.pointer (some ⟨sb,0,none⟩),.int .i64 a,.pointer (some ⟨bs j,0,none⟩)] W fun e w'=>e=.returned (.tuple #[])/\Hid (J1 q (j+1) w'))))
    (HS:Hid (∀q j W,j<sl->J2 q j W->(∃g,sa=some ⟨g,0,none⟩/\W.cell? ⟨g,j*5,none⟩=some (.int .i64 (su j))/\W.cell? ⟨g,j*5+1,none⟩=some (.int .i64 (x0 j))/\W.cell? ⟨g,j*5+2,none⟩=some (.int .i64 (x1 j))/\W.cell? ⟨g,j*5+3,none⟩=some (.string (x2 j))/\W.cell? ⟨g,j*5+4,none⟩=some (.slice (xa j) (xl j) (xc j)))/\Hid (∀W2,Below W.heap.size W W2->Calls Tryz.prog 61 #[.pointer (some ⟨sb,0,none⟩),.int .i64 a,.int .i64 (su j),.agg #[.int .i64 (x0 j),.int .i64 (x1 j),.string (x2 j),.slice (xa j) (xl j) (xc j)]] W2 fun e w'=>e=.returned (.tuple #[])/\Hid (J2 q (j+1) w'))))
    (HL:Hid (∀q j W,j<kl->J3 q j W->(∃g,ka=some ⟨g,0,none⟩/\W.cell? ⟨g,j,none⟩=some (.int .i64 (ln j)))/\Hid (Calls Tryz.prog 62 #[.pointer (some ⟨sb,0,none⟩),.int .i64 a,.int .i64 (ln j)] W fun e w'=>e=.returned (.tuple #[])/\Hid (J3 q (j+1) w'))))
    (HE:Hid (∀q W,J3 q kl W->(f=1->Calls Tryz.prog 37 #[.pointer (some ⟨sb,0,none⟩),.int .i64 a,.int .i64 1] W fun e w'=>e=.returned (.tuple #[])/\Hid (R w'))/\(f≠1->R W))):
    Calls Tryz.prog 38 #[.pointer (some ⟨sb,0,none⟩),.int .i64 a,.agg #[.int .i64 m0,.int .i64 m1,.string m2,.slice ma ml mc,.int .i64 f,.slice sa sl sc,.slice pa pl pc,.slice ka kl kc],.slice va vl vc] w fun e w'=>e=.returned (.tuple #[])/\Hid (R w'):=by
 go_enter Tryz.func38,Tryz.ntmps38
 go_upto_region 1 with fail
 generalize hw2:w.alloc _=w2
 obtain⟨q,hq⟩:∃q,q=w.heap.size:=⟨_,rfl⟩
 rw[<-hq]
 have H1:Hid (J1 q 0 w2):=H10.out q w2 (by rw[<-hw2];exact(Below.refl _ _).alloc (Nat.le_refl _) _) (Nat.le_of_eq hq.symm) (by rw[<-hw2,hq];exact heap_alloc_new _ _)
 clear hw2 hq H10
 go_wp2_with fail
 go_loopw [9,16] (fun _ i wr=>∃(j:Nat),j<=vl/\i=.int .i64 j/\Hid (J1 q j wr)) (fun _ i _=>vl-(intOf i).toNat)
 case atStart=>exact⟨0,Nat.zero_le _,rfl,H1.out⟩
 case round=>
 obtain⟨j,hj,rfl,HR⟩:=hrel
 by_cases hlt:j<vl
 ·obtain⟨⟨g,rfl,c0⟩,HC⟩:=HA.out q j wr hlt HR.out
  have j1:(0:Int)<=(j:Int):=by omega
  have j2:(j:Int)<(vl:Int):=by omega
  clear H12 H23 HQ HA HS HL HE HR
  go_wp2_with fail
  refine HC.out.mono ?_
  rintro e w3 ⟨rfl,H3⟩
  go_wp2_with fail
  go_roundw
  case rel=>exact⟨j+1,by omega,by go_num,H3.out⟩
  case measure=>simp[intOf];omega
 obtain rfl:j=vl:=by omega
 have HX2:=hide (H12.out _ _ HR.out)
 clear HR HA H12 H1 hj hlt
 have c5:wr.cell? ⟨q,5,none⟩=some (.slice sa sl sc):=ae (HQ.out q 0 wr (Or.inr (Or.inl HX2.out))) 5
 go_wp2_with fail
 clear c5
 go_loopw [11,28] (fun _ i w4=>∃(j:Nat),j<=sl/\i=.int .i64 j/\Hid (J2 q j w4)) (fun _ i _=>sl-(intOf i).toNat)
 case atStart=>exact⟨0,Nat.zero_le _,rfl,HX2.out⟩
 case round=>
 clear HX2
 obtain⟨j,hj,rfl,HR⟩:=hrel
 by_cases hlt:j<sl
 ·obtain⟨⟨g,rfl,c0,c1,c2,c3,c4⟩,HC⟩:=HS.out q j _ hlt HR.out
  have j1:(0:Int)<=(j:Int):=by omega
  have j2:(j:Int)<(sl:Int):=by omega
  clear H23 HQ HS HL HE HR
  go_upto_region 9 with fail
  generalize hw2:World.alloc _ _=w3
  have hX:w3.heap[wr.heap.size]? =some (.cells #[.int .i64 (su j),.int .i64 (x0 j),.int .i64 (x1 j),.string (x2 j),.slice (xa j) (xl j) (xc j)] 149):=by
   rw[<-hw2]
   exact heap_alloc_new _ _
  have HCC:=hide (HC.out w3 (by rw[<-hw2];exact(Below.refl _ _).alloc (Nat.le_refl _) _))
  generalize wr.heap.size=r at*
  have d0:w3.cell? ⟨r,0,none⟩=some (.int .i64 (su j)):=ae hX 0
  have d1:w3.cell? ⟨r,1,none⟩=some (.int .i64 (x0 j)):=ae hX 1
  have d2:w3.cell? ⟨r,2,none⟩=some (.int .i64 (x1 j)):=ae hX 2
  have d3:w3.cell? ⟨r,3,none⟩=some (.string (x2 j)):=ae hX 3
  have d4:w3.cell? ⟨r,4,none⟩=some (.slice (xa j) (xl j) (xc j)):=ae hX 4
  clear hw2 hX HC c0 c1 c2 c3 c4
  go_wp2_with fail
  refine HCC.out.mono ?_
  rintro e w5 ⟨rfl,H3⟩
  go_wp2_with fail
  go_roundw
  case rel=>exact⟨j+1,by omega,by go_num,H3.out⟩
  case measure=>simp[intOf];omega
 obtain rfl:j=sl:=by omega
 have HX3:=hide (H23.out _ _ HR.out)
 clear HR HS H23 hj hlt
 have c7:wr.cell? ⟨q,7,none⟩=some (.slice ka kl kc):=ae (HQ.out q 0 wr (Or.inr (Or.inr HX3.out))) 7
 go_wp2_with fail
 clear c7
 go_loopw [13,43] (fun _ i w4=>∃(j:Nat),j<=kl/\i=.int .i64 j/\Hid (J3 q j w4)) (fun _ i _=>kl-(intOf i).toNat)
 case atStart=>exact⟨0,Nat.zero_le _,rfl,HX3.out⟩
 case round=>
 clear HX3
 obtain⟨j,hj,rfl,HR⟩:=hrel
 by_cases hlt:j<kl
 ·obtain⟨⟨g,rfl,c0⟩,HC⟩:=HL.out q j _ hlt HR.out
  have j1:(0:Int)<=(j:Int):=by omega
  have j2:(j:Int)<(kl:Int):=by omega
  clear HQ HL HE HR
  go_wp2_with fail
  refine HC.out.mono ?_
  rintro e w3 ⟨rfl,H3⟩
  go_wp2_with fail
  go_roundw
  case rel=>exact⟨j+1,by omega,by go_num,H3.out⟩
  case measure=>simp[intOf];omega
 obtain rfl:j=kl:=by omega
 have c4:wr.cell? ⟨q,4,none⟩=some (.int .i64 f):=ae (HQ.out q _ wr (Or.inr (Or.inr HR.out))) 4
 have HEE:=hide (HE.out q _ HR.out)
 clear HR HL HQ HE
 by_cases hf:f=1
 ·subst hf
  have HF:=hide (HEE.out.1 rfl)
  go_wp2_with fail
  refine HF.out.mono ?_
  rintro e w3 ⟨rfl,H3⟩
  go_wp2_with fail
  exact bodyPost_end (v:=.tuple #[]) (by simp[results]) rfl ⟨rfl,H3.out⟩
 ·have HF:=hide (HEE.out.2 hf)
  have hff:(f==1)=false:=by simpa using hf
  go_wp2_with fail
  exact bodyPost_end (v:=.tuple #[]) (by simp[results]) rfl ⟨rfl,HF.out⟩
end Go.Proofs.YtmbjgiaebneodaaGreat
