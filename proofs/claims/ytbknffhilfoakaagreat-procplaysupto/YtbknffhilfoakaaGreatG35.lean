/- What is proved here: plain facts and contracts that the claimed theorem stands on. No condition but those that each names. -/
import Derived.Test.YtbknffhilfoakaaGreatG34
namespace Go.Proofs.YtbknffhilfoakaaGreat
open Go.RowKit
set_option maxRecDepth 100000
set_option maxHeartbeats 1000000
def Ka {n:Nat} (name:ByteArray) (l:List (Bh n)) (i:Int):Prop:=(iO n name l=none/\i=-1)∨∃(k:Nat) (b:Bh n),i=k/\l[k]? =some b/\iO n name l=some b
theorem JK (n:Nat) (name:ByteArray) (l:List (Bh n)) (la:Option Addr) (lc len B:Nat) (w:World) (hlen:l.length=len) (hll:len<=9223372036854775807) (hB:B<=w.heap.size) (HL:Hid (PgIn n B w la l)):
    Calls Tryz.prog 33 #[.slice la len lc,.string name] w fun e w'=>∃i,e=.returned (.int .i64 i)/\Hid (Ka name l i/\Below w.heap.size w w'):=by
 go_enter Tryz.func33,Tryz.ntmps33
 go_wp2_with fail
 go_loopw [5] (fun i wr=>∃j:Nat,j<=len/\i=.int .i64 j/\Hid (Below w.heap.size w wr/\iO n name l=iO n name (l.drop j))) (fun i _=>len-(intOf i).toNat)
 case atStart=>exact⟨0,by omega,rfl,Below.refl _ _,rfl⟩
 case round=>
 obtain⟨j,hj,rfl,HR⟩:=hrel
 by_cases hlt:j<len
 ·obtain⟨b,hb⟩:∃b,l[j]? =some b:=⟨l[j]'(by omega),List.getElem?_eq_getElem _⟩
  obtain⟨lb,lo,rfl,hlb,HC⟩:∃g o,la=some ⟨g,o,none⟩/\g<B/\Hid (∀(t:Nat) (u:Value),(EC n b)[t]? =some u->w.cell? ⟨g,o+j*2+t,none⟩=some u):=by
   rcases HL.out with e|⟨g,o,e,hg,h⟩
   ·rw[e]at hb
    simp at hb
   ·exact⟨g,o,e,hg,(h j _ hb).1⟩
  have hcell:∀(t:Nat) (u:Value),(EC n b)[t]? =some u->wr.cell? ⟨lb,lo+j*2+t,none⟩=some u:=fun t u ht=>(HR.out.1.cell (p:=⟨lb,lo+j*2+t,none⟩) (Nat.lt_of_lt_of_le hlb hB)).trans (HC.out t u ht)
  have x0:wr.cell? ⟨lb,lo+j*2,none⟩=some (.string b.1):=hcell 0 _ rfl
  have j1:(0:Int)<=(j:Int):=by omega
  have j2:(j:Int)<(len:Int):=by omega
  have HN:=hide HR.out.1
  by_cases hn:b.1=name
  ·have HE:Hid (iO n name l=some b/\l[j]? =some b):=by
     refine⟨?_,hb⟩
     rw[HR.out.2,lN n name hb,if_pos hn]
   rw[hn]at x0
   clear hcell HR hb
   go_wp2_with fail
   go_ret
   exact⟨_,rfl,Or.inr ⟨j,b,rfl,HE.out.2,HE.out.1⟩,HN.out⟩
  ·have HE:Hid (iO n name l=iO n name (l.drop (j+1))):=by
     show _=_
     rw[HR.out.2,lN n name hb,if_neg hn]
   have ht:(b.1.toList==name.toList)=false:=by
    rw[beq_eq_false_iff_ne]
    intro e
    rw[ByteArray.toList_eq,ByteArray.toList_eq]at e
    exact hn (ByteArray.ext (Array.ext' e))
   clear hcell HR hb
   go_wp2_with fail
   go_roundw
   case rel=>exact⟨j+1,by omega,by go_num,HN.out,HE.out⟩
   case measure=>simp[intOf];omega
 ·obtain rfl:j=len:=by omega
  have HV:Hid (iO n name l=none):=by
   show _=_
   rw[HR.out.2,List.drop_of_length_le (by omega)]
   rfl
  have HB:=hide HR.out.1
  clear HR
  go_wp2_with fail
  go_ret
  exact⟨_,rfl,Or.inl ⟨HV.out,rfl⟩,HB.out⟩
theorem J5 {n m:Nat} (p:Tm (n+1)) (t:Tm (m+1)) (b0:List An) (w:World) (hp:In w.heap.size w (n+1) p) (ht:In w.heap.size w (m+1) t) (cp:aP (n+1) p=0) (ct:aP (m+1) t=0) (qa:Addr) (qc:Nat) (hb:Bnd w.heap.size w b0) (hq:∀w1,Below w.heap.size w w1->∀j v,(cK b0)[j]? =some v->w1.cell? (qa.add j)=some v):
    Calls Tryz.prog 34 #[.agg #[.int .i64 p.1.1,.int .i64 p.1.2.1,.string p.1.2.2,.slice p.2.1.1 p.2.2.length p.2.1.2],.agg #[.int .i64 t.1.1,.int .i64 t.1.2.1,.string t.1.2.2,.slice t.2.1.1 t.2.2.length t.2.1.2],.slice (some qa) 4 qc] w (Cm w.heap.size (fit (n+1) p (m+1) t b0) w):=by
 refine BC w w.heap.size (Nat.le_refl _) p.1.1 p.1.2.1 t.1.1 t.1.2.1 p.1.2.2 t.1.2.2 p.2.1.1 t.2.1.1 p.2.2.length p.2.1.2 t.2.2.length t.2.1.2 qa qc _ b0 (⟨n+1,p⟩,⟨m+1,t⟩) hq hb.1 ?_ hb ?_ ?_ ?_
 ·show dE _<=2097152
  simpa [dE]using eP cp
 ·exact⟨⟨hp,ax.2 (aN.1 cp).1⟩,ht,ax.2 (aN.1 ct).1⟩
 ·show (vI ⟨n+1,p⟩ ⟨m+1,t⟩ b0).bind (fits [])=fit (n+1) p (m+1) t b0
  cases h:vI ⟨n+1,p⟩ ⟨m+1,t⟩ b0 with
  | none=>exact h.symm
  | some b=>exact h.symm
 ·rfl
theorem rD (P:Nat->Prop):Parts fun a=>Off P a.1 a.2:=by
 intro n x y h hy
 obtain⟨i,hi⟩:=List.mem_iff_getElem?.1 hy
 rcases h with h|⟨b,o,e,hb,h⟩
 ·rw[h]at hy
  simp at hy
 ·exact h i y hi
theorem ng (P:Nat->Prop) (B:Nat) (w:World):iJ.length=4/\∀y∈iJ,xZ y/\InA B w y/\Off P y.1 y.2:=by
 refine⟨rfl,fun y hy=>⟨any_ok y hy, ?_⟩⟩
 simp only[iJ,jZ,List.map_replicate,List.mem_replicate]at hy
 rw[hy.2]
 exact⟨⟨⟨by unfold dZ;decide,by unfold dZ;decide,by decide,by decide,by decide⟩,Or.inl rfl⟩,Or.inl rfl⟩
theorem Ht {n:Nat} (c:Cl (n+1)) {x y:Tc} (h1:aP (n+1) c.1.1=0) (h2:aP (n+1) c.1.2.1=0) (h3:aP 13 x=0) (h5:aP 13 y=0):
    jr c (cn 13 x) (cn 13 y)=(fit (n+1) c.1.1 13 x iJ).bind fun b=>(fit (n+1) c.1.2.1 13 y b).map fun b2=>b2.map Cz:=by
 unfold jr
 have a1:=jJ (n+1) c.1.1 13 x (n+1) c.1.1 13 (cn 13 x) iJ iJ (eu _ _ (ax.2 (aN.1 h1).1)) (dw _ _ _ _ (eX h3)) rP
 cases e1:fit (n+1) c.1.1 13 x iJ with
 | none=>
  rw[e1]at a1
  cases e2:fit (n+1) c.1.1 13 (cn 13 x) iJ with
  | some _=>
   rw[e2]at a1
   exact a1.elim
  | none=>rfl
 | some b=>
  rw[e1]at a1
  cases e2:fit (n+1) c.1.1 13 (cn 13 x) iJ with
  | none=>
   rw[e2]at a1
   exact a1.elim
  | some bc=>
   rw[e2]at a1
   have a4:=jJ (n+1) c.1.2.1 13 y (n+1) c.1.2.1 13 (cn 13 y) b bc (eu _ _ (ax.2 (aN.1 h2).1)) (dw _ _ _ _ (eX h5)) a1
   simp only[Option.bind_some]
   cases e3:fit (n+1) c.1.2.1 13 y b with
   | none=>
    rw[e3]at a4
    cases e4:fit (n+1) c.1.2.1 13 (cn 13 y) bc with
    | some _=>
     rw[e4]at a4
     exact a4.elim
    | none=>rfl
   | some b2=>
    rw[e3]at a4
    cases e4:fit (n+1) c.1.2.1 13 (cn 13 y) bc with
    | none=>
     rw[e4]at a4
     exact a4.elim
    | some b2c=>
     rw[e4]at a4
     simp only[Option.map_some]
     rw[FT a4]
theorem Hq {base g c B:Nat} {P:Nat->Prop} {b:List An} {w:World} (h:Has base g c b w) (h4:b.length=4) (ho:∀y∈b,xZ y/\InA B w y/\Off P y.1 y.2):
    ∃(D:Nat) (l:List (Tm (D+1))),dz (D+1) l=true/\l.map (cn (D+1))=b.map Cz/\(∀(i:Nat) (x:Tm (D+1)),l[i]? =some x->Held w g (i*4) (D+1) x/\In B w (D+1) x/\Off P (D+1) x)/\∃cur,w.heap[g]? =some (.cells cur 25 (0,0)):=by
 have hlen:(qz b).length=4:=by simpa [qz]using h4
 have hk:∀(i:Nat) (y:Tm (top b)),(qz b)[i]? =some y->∃a,b[i]? =some a/\same (top b) y a.1 a.2=true/\(Held w g (i*4) (top b) y/\In B w (top b) y/\Off P (top b) y):=fun i y hy=>by
  obtain⟨a,ha,hle,rfl⟩:=zP b i y hy
  obtain⟨o1,o2,o3⟩:=ho a (List.mem_of_getElem? ha)
  refine⟨a,ha,eH _ _ hle _ (jO o1), ?_,fZ _ _ hle _ _ _ o2,jG _ _ hle _ o3⟩
  obtain⟨n,x⟩:=a
  have hc:=h.cells i _ ha
  cases n with
  | zero=>exact o2.elim
  | succ n=>exact oo _ _ hle _ _ _ _ hc
 have hbn:dz (top b) (qz b)=true:=by
  unfold dz
  rw[hlen]
  simp only[decide_true,Bool.true_and,List.all_eq_true]
  intro y hy
  obtain⟨i,hi⟩:=List.getElem?_of_mem hy
  obtain⟨a,ha,hs,_⟩:=hk i y hi
  obtain⟨k1,k2⟩:=(ho a (List.mem_of_getElem? ha)).1
  unfold okB
  rw[bu hs,k1,oJ hs,<-bZ,bI _ _ _ _ hs]
  rcases k2 with k2|k2
  ·simp[k2]
  ·simp[k2]
 have hcn:(qz b).map (cn (top b))=b.map Cz:=by
  refine List.ext_getElem? fun i=> ?_
  simp only[qz,List.getElem?_map,Option.map_map]
  cases e:b[i]? with
  | none=>rfl
  | some a=>
   obtain⟨a',ha',hs,_⟩:=hk i (lift (top b) a.1 a.2) (by simp[qz,e])
   rw[e]at ha'
   obtain rfl:=Option.some.inj ha'
   exact congrArg some (gq hs)
 have hg:=dA h g rfl
 revert hlen hk hbn hcn
 generalize qz b=l
 revert l
 generalize ht:top b=T
 intro l hlen hk hbn hcn
 cases T with
 | zero=>
  have h0:0<l.length:=by omega
  exact(hk 0 l[0] (List.getElem?_eq_getElem h0)).elim fun a h=>(h.2.2.2.1:False).elim
 | succ D=>exact⟨D,l,hbn,hcn,fun i x hx=>(hk i x hx).elim fun a h=>h.2.2,hg⟩
theorem BK {n:Nat} {s:Tc}:(ms:List Tc)->(i:Nat)->pI ([]:List (Cl (n+1))) s ms i=none
 | [],_=>rfl
 | _::ms,i=>BK ms (i+1)
theorem zD {n:Nat} {room:Int} {l:List (Bh (n+1))} {name:ByteArray} {self next:Int} {s:Tc} {ms:List Tc} (h:pI (eU name l) s ms 0=none):gH room l name self next s ms=none:=by
 unfold gH
 rw[h]
 rfl
theorem Gx {n:Nat} {room:Int} {l:List (Bh (n+1))} {name:ByteArray} {self next:Int} {s m:Tc} {ms:List Tc} {i:Nat} {c:Cl (n+1)} {b:List Tc} (h:pI (eU name l) s ms 0=some (i,c,b)) (hm:ms[i]? =some m):gH room l name self next s ms=some (cO room self next s m (ms.eraseIdx i) c b):=by
 unfold gH
 rw[h,Option.bind_some,hm]
 rfl
theorem CZ {n:Nat} {room self next:Int} {s m:Tc} {ms:List Tc} (c:Cl (n+1)) (b:List Tc):(cO room self next s m ms c b).mail=ms/\(cO room self next s m ms c b).message=m:=by
 unfold cO
 split
 ·exact⟨rfl,rfl⟩
 ·split
  ·exact⟨rfl,rfl⟩
  ·split
   ·exact⟨rfl,rfl⟩
   ·exact⟨rfl,rfl⟩
theorem QA.less {qb:Nat} {name:ByteArray} {room:Int} {x:Tc} {ys:List Tc} {ma:Option Addr} {mc:Nat} {D:Nat->Prop} {w:World} (h:QA qb name room x ys ma mc D w):QA qb name room x ys ma mc (fun b=>D b/\b<w.heap.size) w:=by
 refine⟨h.box,h.cap,⟨h.st.1,In.offB h.st.2 h.st.1⟩, ?_,h.ok,fun e=>h.out e.1,h.bounds⟩
 rcases h.row with e|⟨b,o,e,hl,hd,hr⟩
 ·exact Or.inl e
 ·exact Or.inr ⟨b,o,e,hl,⟨hd,hl⟩,fun i y hy=>⟨(hr i y hy).1,(hr i y hy).2.1,In.offB (hr i y hy).2.2 (hr i y hy).2.1⟩⟩
theorem Ii {v:Value} {n base b o mc:Nat} {xs:List Value} {zs:List Tc} {W:World} (ho:W.ownsRow base 25 4 v n xs) (hb:base<=W.heap.size) (hn:n+zs.length<=20) (hh:∀(i:Nat) (y:Tc),zs[i]? =some y->Held W b (o+i*4) 13 y) (ty:TypeId):
    ∃v' w',(Builtin.append_ #[23,23] ty #[v,.slice (some ⟨b,o,none⟩) zs.length mc]).run Tryz.prog W=.ok v' w'/\w'.ownsRow base 25 4 v' (n+zs.length) (xs++aD (zs.map (dF 13)))/\Below base W w':=by
 obtain⟨it,hit,htz0,htz1,htz2⟩:=info_parts bP
 have hc:∀j u,(aD (zs.map (dF 13)))[j]? =some u->W.cell? ((⟨b,o,none⟩:Addr).add j)=some u:=by
  have h1:=mr hh
  intro j u hu
  refine h1 j u ?_
  rw[<-hu]
  simp[cK,jZ,iW,Function.comp_def]
 obtain⟨v',w',r1,r2,r3,_⟩:=run_append_own_wide (P:=Tryz.prog) W base 23 ty 25 it _ 4 56 Tryz.underlying23 hit htz0 htz1 htz2 rfl (by decide) v n xs ho ⟨b,o,none⟩ zs.length mc (aD (zs.map (dF 13))) (by rw[fK,List.length_map]) hc (il _) (by unfold maxLen;omega) (by omega) hb
 exact⟨v',w',r1,r2,Below.grown (Below.refl _ _) r3 hb fun k e=>(ho.lt k e).1⟩
theorem mQ {P:Program} {fn:Func} {tmps:Array Value} {w:World} {i j:Nat} {ty:TypeId} {p:Addr} {v u:Value} (h:fn.results= #[.cell i ty,.tmp j]) (ht:tmps.getD i undef=.pointer (some p)) (hj:tmps.getD j undef=u) (hl:(loadVar ty p).run P w=.ok v w):(results fn tmps).run P w=.ok (.tuple #[v,u]) w:=by
 simp only[results,h]
 rw[Array.getD_eq_getD_getElem?]at ht hj
 simp[ht,hj,asAddr,hl]
def QsOut (qb:Nat) (name:ByteArray) (room:Int) (x:Tc) (ys:List Tc) (Dq:Nat->Prop) {n:Nat} (l:List (Bh (n+1))) (self next:Int) (w:World) (e:Ending) (w':World):Prop:=
 (e=.returned (.tuple #[.agg #[.int .i64 0,.int .i64 0,.string ⟨#[]⟩,.slice none 0 0,.int .i64 0,.slice none 0 0,.slice none 0 0,.slice none 0 0],.int .i64 4])/\Hid (gH room l name self next (cn 13 x) (ys.map (cn 13))=none/\Below w.heap.size w w'))∨
 ∃y tk sv pv lv,e=.returned (.tuple #[.agg (fU y tk.fate sv pv lv),.int .i64 0])/\Hid (gH room l name self next (cn 13 x) (ys.map (cn 13))=some tk/\(cn 13 y=tk.message/\aP 13 y=0/\In w'.heap.size w' 13 y/\Off (fun b=>Dq b∨w.heap.size<=b) 13 y)/\Kee (fun q=>q=qb) w w'/\(∃x' ys' ma' mc',QA qb name room x' ys' ma' mc' (fun b=>Dq b∨w.heap.size<=b) w'/\cn 13 x'=tk.state/\ys'.map (cn 13)=tk.mail)/\DkRows w.heap.size (fun b=>Dq b∨w.heap.size<=b) tk.sends tk.spawns tk.links sv pv lv w')
theorem QsOut.no {qb:Nat} {name:ByteArray} {room:Int} {x:Tc} {ys:List Tc} {Dq:Nat->Prop} {n:Nat} {l:List (Bh (n+1))} {self next:Int} {w w':World} (h1:gH room l name self next (cn 13 x) (ys.map (cn 13))=none) (h2:Below w.heap.size w w'):QsOut qb name room x ys Dq l self next w (.returned (.tuple #[.agg #[.int .i64 0,.int .i64 0,.string ⟨#[]⟩,.slice none 0 0,.int .i64 0,.slice none 0 0,.slice none 0 0,.slice none 0 0],.int .i64 4])) w':=Or.inl ⟨rfl,h1,h2⟩
end Go.Proofs.YtbknffhilfoakaaGreat
