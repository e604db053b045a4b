/- What is proved here: plain facts and contracts that the claimed theorem stands on. No condition but those that each names. -/
import Derived.Test.YtbknffhilfoakaaGreatG35
import Derived.Test.YtbknffhilfoakaaGreatG36
namespace Go.Proofs.YtbknffhilfoakaaGreat
open Go.RowKit
theorem DkRows.kept {b0 b1:Nat} {D D' S:Nat->Prop} {sends:List (Int×Tc)} {spawns:List (Int×ByteArray×Tc)} {links:List Int} {sv pv lv:Value} {w w':World} (h:DkRows b0 D sends spawns links sv pv lv w) (hb:b1<=b0) (hk:Kee S w w') (hS:∀b,D b->b<w.heap.size->¬S b) (hD:∀b,D b->b<w.heap.size->D' b)
    (hT:∀b,S b->b0<=b->b<w.heap.size->∃cs T fr,w.heap[b]? =some (.cells cs T fr)/\111≠T/\116≠T/\3≠T):DkRows b1 D' sends spawns links sv pv lv w':=by
 obtain⟨N,sd,sp,h1,h2,h3,h4,h5,h6,h7⟩:=h
 have hr:∀{e:TypeId} {sz n:Nat} {v:Value} {xs:List Value},w.ownsRow b0 e sz v n xs->e=111∨e=116∨e=3->w'.ownsRow b1 e sz v n xs:=fun ho he=>kX (aL ho hk fun b hb q=>by
  obtain⟨cs,T,fr,hc,t1,t2,t3⟩:=hT b q (ho.lt b hb).1 (ho.lt b hb).2
  refine dH ho hc ?_ hb
  rcases he with rfl|rfl|rfl
  ·exact t1
  ·exact t2
  ·exact t3) hb
 have ht:∀{m:Nat} {u:Tm m},In w.heap.size w m u/\Off D m u->In w'.heap.size w' m u/\Off D' m u:=fun h=>dn hk.size (fun b e hl=>hk.block b hl (hS b e hl)) hD h
 exact⟨N,sd,sp,hr h1 (Or.inl rfl),hr h2 (Or.inr (Or.inl rfl)),hr h3 (Or.inr (Or.inr rfl)),h4,h5,fun z hz=>⟨(h6 z hz).1,ht (h6 z hz).2⟩,fun z hz=>⟨(h7 z hz).1,ht (h7 z hz).2⟩⟩
theorem JQ {qb:Nat} {name:ByteArray} {room:Int} {x y:Tc} {ys zs:List Tc} {ma a8:Option Addr} {mc c8 s6 bg b0:Nat} {Dq:Nat->Prop} {w w9 w10:World} {n:Nat} {l:List (Bh (n+1))} {self next:Int} {tk:Tk} {sv pv lv:Value} {rb:Nat}
    (hQ:QA qb name room x ys ma mc Dq w) (hst:gH room l name self next (cn 13 x) (ys.map (cn 13))=some tk) (hy:cn 13 y=tk.message/\aP 13 y=0/\In w.heap.size w 13 y/\Off Dq 13 y) (hm:zs.map (cn 13)=tk.mail) (hk9:Kee (fun b=>b=qb) w w9) (hs:w.heap.size<=rb/\rb<s6/\s6<=w9.heap.size) (hg:w.heap.size<=bg/\w.heap.size<=b0) (hF:yS b0 qb name room zs a8 c8 (fun b=>(Dq b/\b<w.heap.size)∨s6<=b) bg tk sv pv lv w9 w10) (hr:∃cs,w10.heap[rb]? =some (.cells cs 43)):
    QsOut qb name room x ys Dq l self next w (.returned (.tuple #[.agg (fU y tk.fate sv pv lv),.int .i64 0])) (w10.setCells rb 0 (fU y tk.fate sv pv lv).toList):=by
 obtain⟨f1,⟨x',f2,f3⟩,f4⟩:=hF
 obtain⟨s1,s2,s3⟩:=hs
 obtain⟨y1,y2,y3,y4⟩:=hy
 obtain⟨cs,hr⟩:=hr
 have hql:=(Array.getElem?_eq_some_iff.1 hQ.box).1
 generalize (fU y tk.fate sv pv lv).toList=vs
 obtain⟨k1,k2⟩:=aJ rb vs 0 w10
 have hk:Kee (fun b=>b=qb) w (w10.setCells rb 0 vs):=(hk9.trans f1 fun b hb e=>by
  rcases e with e|e
  ·exact e
  ·omega).trans k1 fun b hb e=>by omega
 have hd:∀b,((Dq b/\b<w.heap.size)∨s6<=b)∨w9.heap.size<=b->b≠rb/\(Dq b∨w.heap.size<=b):=fun b e=>by
  rcases e with(e|e)|e
  ·exact⟨by omega,Or.inl e.1⟩
  ·exact⟨by omega,Or.inr (by omega)⟩
  ·exact⟨by omega,Or.inr (by omega)⟩
 have hyt:=dn (w':=w10.setCells rb 0 vs) (D':=fun b=>Dq b∨w.heap.size<=b) hk.size (fun b e hl=>hk.block b hl fun q=>hQ.out (q▸e)) (fun b e _=>Or.inl e) ⟨y3,y4⟩
 refine Or.inr ⟨y,tk,sv,pv,lv,rfl,hst,⟨y1,y2,hyt⟩,hk,⟨x',zs,a8,c8, ?_,f3,hm⟩, ?_⟩
 ·refine f2.kept k1.size (k1.block qb ?_ fun e=>by omega) (fun b e hl=>k1.block b hl fun q=>(hd b e).1 q) (fun b e _=>(hd b e).2) fun e=> ?_
  ·exact(Array.getElem?_eq_some_iff.1 f2.box).1
  ·rcases e with e|e
   ·exact hQ.out e
   ·omega
 ·refine f4.kept hg.2 k1 (fun b e _ q=>(hd b e).1 q) (fun b e _=>(hd b e).2) fun b q _ _=> ?_
  rw[q]
  exact⟨cs,_,_,hr,by decide,by decide,by decide⟩
theorem uQ {α β:Type} (f:α->β) (l:List α) (i:Nat):(l.map f).eraseIdx i=(l.eraseIdx i).map f:=by
 simp[List.eraseIdx_eq_take_drop_succ,List.map_take,List.map_drop]
theorem JA {qb mb mo:Nat} {name:ByteArray} {room:Int} {x y:Tc} {ys:List Tc} {mc:Nat} {Dq:Nat->Prop} {w w5 w6 w8:World} (HQ6:QA qb name room x ys (some ⟨mb,mo,none⟩) mc (fun b=>Dq b/\b<w.heap.size) w6) (hB8:Below w6.heap.size w6 w8) {i L c8 B8:Nat} {a8:Option Addr} (hi:i<L) (hL:L=ys.length) (hO8:w8.ownsRow B8 25 4 (.slice a8 (L-1) c8) (L-1) (aD ((ys.eraseIdx i).map (dF 13)))) (h68:w6.heap.size<=B8)
    {n:Nat} {st ms nt:Tm (n+1)} {aa:Option Addr} {ac A B:Nat} {acts:List (Ac (n+1))} (hci:jH (n+1) B w ((st,ms,nt),(aa,ac),acts)) (hco:CP ((st,ms,nt),(aa,ac),acts)) (hA:A=acts.length) (hBw:B<=w.heap.size) (hw6:Below w.heap.size w w6) (hDB:∀b,b<B->Dq b/\b<w.heap.size)
    {b2:List An} {g2 c2 base2 s4:Nat} (hH:Has base2 g2 c2 b2 w5) (hbn:Bnd s4 w5 b2) (hg2:s4<=g2) (hs4:w.heap.size<=s4) (h56:Below w5.heap.size w5 w6) (h45:s4<=w5.heap.size) (hob:b2.length=4/\∀a∈b2,xZ a/\Off (fun b=>Dq b/\b<w.heap.size) a.1 a.2) {self nx:Int} (hs:1<=self/\self<=99) (hn:1<=nx/\nx<=92) (hql:qb<w.heap.size) (tk:Tk) (htk:tk=cO room self nx (cn 13 x) (cn 13 y) ((ys.map (cn 13)).eraseIdx i) (((st,ms,nt),(aa,ac),acts):Cl (n+1)) (b2.map Cz)):
    Kee (fun b=>b=qb) w (w8.setCell ⟨qb,6,none⟩ (.slice a8 (L-1) c8))/\w6.heap.size<=(w8.setCell ⟨qb,6,none⟩ (.slice a8 (L-1) c8)).heap.size/\Calls Tryz.prog 35 #[.pointer (some ⟨qb,0,none⟩),.agg #[.int .i64 st.1.1,.int .i64 st.1.2.1,.string st.1.2.2,.slice st.2.1.1 st.2.2.length st.2.1.2,.int .i64 ms.1.1,.int .i64 ms.1.2.1,.string ms.1.2.2,.slice ms.2.1.1 ms.2.2.length ms.2.1.2,.slice aa A ac,.int .i64 nt.1.1,.int .i64 nt.1.2.1,.string nt.1.2.2,.slice nt.2.1.1 nt.2.2.length nt.2.1.2],.slice (some ⟨g2,0,none⟩) 4 c2,.int .i64 self,.int .i64 nx,.agg #[.int .i64 y.1.1,.int .i64 y.1.2.1,.string y.1.2.2,.slice y.2.1.1 y.2.2.length y.2.1.2]] (w8.setCell ⟨qb,6,none⟩ (.slice a8 (L-1) c8)) fun e w'=>∃sv pv lv,e=.returned (.agg (fU y tk.fate sv pv lv))/\Hid (yS s4 qb name room (ys.eraseIdx i) a8 c8 (fun b=>(Dq b/\b<w.heap.size)∨w6.heap.size<=b) g2 tk sv pv lv (w8.setCell ⟨qb,6,none⟩ (.slice a8 (L-1) c8)) w'):=by
 have hlz:(ys.eraseIdx i).length=L-1:=by rw[List.length_eraseIdx,if_pos (by omega),hL]
 have hzm:∀z∈ys.eraseIdx i,z∈ys:=fun z hz=>List.mem_of_mem_eraseIdx hz
 have hrow:∀z∈ys,In w6.heap.size w6 13 z/\Off (fun b=>Dq b/\b<w.heap.size) 13 z:=fun z hz=>by
  obtain⟨k,hk⟩:=List.getElem?_of_mem hz
  rcases HQ6.row with e|⟨b,o,e,h1,h2,h3⟩
  ·rw[e]at hk
   simp at hk
  ·exact(h3 k z hk).2
 obtain⟨ma',mc',e,hQ9,hK9⟩:=HQ6.mails hB8 h68 hlz hO8 (fun z hz=>⟨hrow z (hzm z hz),HQ6.ok z (List.mem_cons_of_mem _ (hzm z hz))⟩) (by have:=HQ6.bounds.2.2;omega)
 injection e with e1 _ e3
 subst e1 e3
 generalize hw9:w8.setCell ⟨qb,6,none⟩ (.slice a8 (L-1) c8)=w9
 rw[hw9]at hQ9 hK9
 have hk:Kee (fun b=>b=qb) w w9:=(aG hw6 _).trans hK9 fun _ _ e=>e
 have hqD:¬(Dq qb/\qb<w.heap.size):=HQ6.out
 have hqB:B<=qb:=by
  refine Nat.le_of_not_lt fun h=>hqD (hDB qb h)
 have hbB:Below B w w9:=hk.below hBw fun b hb e=>by omega
 have hg5:=hH.lt
 have hgq:g2≠qb:=by omega
 have h5s:=h56.size
 have hk5:Kee (fun b=>b=qb) w5 w9:=(aG h56 _).trans hK9 fun _ _ e=>e
 have hH9:Has base2 g2 c2 b2 w9:=aL hH hk5 fun b hb q=>by
  have:g2=b:=Option.some.inj hb
  omega
 obtain⟨D,l,l1,l2,l3,l4⟩:=Hq (B:=s4) (P:=fun b=>Dq b/\b<w.heap.size) hH9 hob.1 fun a ha=>⟨(hob.2 a ha).1,In.off (fun b q=>hk5.block b (by omega) fun e=>hqD (e▸q)) (hob.2 a ha).2 (hbn.2 a ha).1,(hob.2 a ha).2⟩
 refine⟨hk,hK9.size, ?_⟩
 refine Kz st ms nt aa ac A acts l (b2.map Cz) g2 c2 s4 (fun b=>Dq b/\b<w.heap.size) self nx ⟨hQ9,fun e=> ?_,fun e=>hgq e.symm⟩ ⟨((dK (n+1)).mono (Nat.le_trans hBw hs4) ((dK (n+1)).below hbB hci)),hco,hA.symm,Nat.le_trans h45 (Nat.le_trans h5s hK9.size)⟩ ⟨?_,fun a ha=> ?_,fun b q=>Or.inl q⟩ ⟨l1,l2,l3,l4,hg2⟩ (by rw[hA];exact hco.2.2.2.1) hs hn tk ?_
 ·rcases e with e|e
  ·omega
  ·omega
 ·exact hci.1.2.2.offBelow.mono hDB
 ·obtain⟨k,hk⟩:=List.getElem?_of_mem ha
  rcases hci.2.2 with e|⟨b,o,e,h1,h2⟩
  ·have e:acts=[]:=e
   rw[e]at ha
   cases ha
  ·exact⟨(h2 k a hk).2.2.1.offBelow.mono hDB,(h2 k a hk).2.2.2.1.offBelow.mono hDB⟩
 ·show _=_
  rw[htk,uQ]
theorem KM {w:World} {q:Nat} {u0 u1 u2 u3:Value} {T:TypeId} {fr:Nat×Nat} (h:w.heap[q]? =some (.cells #[u0,u1,u2,u3] T fr)):w.cell? ⟨q,0,none⟩=some u0/\w.cell? ⟨q,1,none⟩=some u1/\w.cell? ⟨q,2,none⟩=some u2/\w.cell? ⟨q,3,none⟩=some u3:=by simp[World.cell?,h]
theorem uf {w:World} {q:Nat} {u0 u1 u2 u3 u4 u5 u6 u7:Value} {T:TypeId} {fr:Nat×Nat} (h:w.heap[q]? =some (.cells #[u0,u1,u2,u3,u4,u5,u6,u7] T fr)):w.cell? ⟨q,0,none⟩=some u0/\w.cell? ⟨q,1,none⟩=some u1/\w.cell? ⟨q,2,none⟩=some u2/\w.cell? ⟨q,3,none⟩=some u3/\w.cell? ⟨q,4,none⟩=some u4/\w.cell? ⟨q,5,none⟩=some u5/\w.cell? ⟨q,6,none⟩=some u6/\w.cell? ⟨q,7,none⟩=some u7:=by simp[World.cell?,h]
theorem KG {w:World} {q:Nat} {u0 u1 u2 u3 u4 u5 u6 u7 u8 u9 u10 u11 u12:Value} {T:TypeId} {fr:Nat×Nat} (h:w.heap[q]? =some (.cells #[u0,u1,u2,u3,u4,u5,u6,u7,u8,u9,u10,u11,u12] T fr)):w.cell? ⟨q,0,none⟩=some u0/\w.cell? ⟨q,1,none⟩=some u1/\w.cell? ⟨q,2,none⟩=some u2/\w.cell? ⟨q,3,none⟩=some u3/\w.cell? ⟨q,4,none⟩=some u4/\w.cell? ⟨q,5,none⟩=some u5/\w.cell? ⟨q,6,none⟩=some u6/\w.cell? ⟨q,7,none⟩=some u7/\w.cell? ⟨q,8,none⟩=some u8/\w.cell? ⟨q,9,none⟩=some u9/\w.cell? ⟨q,10,none⟩=some u10/\w.cell? ⟨q,11,none⟩=some u11/\w.cell? ⟨q,12,none⟩=some u12:=by simp[World.cell?,h]
theorem KA {w:World} {q:Nat} {c:Array Value} {T:TypeId} (h:w.heap[q]? =some (.cells c T)):w.frozen? ⟨q,0,none⟩=false/\w.frozen? ⟨q,1,none⟩=false/\w.frozen? ⟨q,2,none⟩=false/\w.frozen? ⟨q,3,none⟩=false/\w.frozen? ⟨q,4,none⟩=false/\w.frozen? ⟨q,5,none⟩=false/\w.frozen? ⟨q,6,none⟩=false/\w.frozen? ⟨q,7,none⟩=false:=by
 simp[World.frozen?,h]
end Go.Proofs.YtbknffhilfoakaaGreat
